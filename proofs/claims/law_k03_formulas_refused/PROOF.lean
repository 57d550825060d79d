import PyProof.Rows.All
import Wide.All
import OpenK.AllK
import Wide.FinOn
import Lean
import PyProof.EqAt
import PyProof.EqKinds
import PyProof.TupleCall
import KE.KDictList
import KE.KDictOf
import KE.KDictSum
import KE.KEqDict
import KE.KMinBuiltin
import KE.KRevIter
import OpenK.KCls
import OpenK.KOwn
import PyProof.AutoSeq1
import PyProof.CollectWalk
import PyProof.DictUpdate
import PyProof.EnumIter
import PyProof.EnumMake
import PyProof.EnumStmt
import PyProof.ExcArgs
import PyProof.ExcBaseAll.ValueError
import PyProof.ExcClass2
import PyProof.ExcInit
import PyProof.FString5
import PyProof.InstStoreFacts
import PyProof.IsInstance
import PyProof.IsiH_list
import PyProof.LayNew
import PyProof.ListRange
import PyProof.NeKinds
import PyProof.NsDelKeeps
import PyProof.Rows.All
import PyProof.Rows.CallKwBuiltin
import PyProof.Rows.RuleN_abs
import PyProof.Rows.SetFrom
import PyProof.Rows.SortWalk
import PyProof.Rows.TupAdd
import PyProof.RulesAs
import PyProof.StationsW
import PyProof.TupleIter
import PyProof.TupleOfGen
import PyProof.WalkInts
import PyProof.WalksMore
import PySem.Challenge.RW_clausekeep_k03_formulas_refused
set_option Elab.async false
set_option bootstrap.genMatcherCode false
set_option linter.all false
set_option maxRecDepth 100000
namespace L2
open PySem PySem.Spec PyProof.Rows
noncomputable abbrev Key:=Sum Int Str
noncomputable def a3N:Key→Value→Bool
 | .inl k,v=>Value.isInt k v
 | .inr x,v=>Value.isStrOf x v
noncomputable def b5C (w:World):Key→Int
 | .inl k=>hashInt k
 | .inr x=>hashStr w x
theorem z8:∀ {k:Key} {v:Value},a3N k v=true→(∃ i t,k=Sum.inl i∧v=Value.int i t)∨(∃ x t,k=Sum.inr x∧v=Value.str x t)
 | .inl i,v,h=>by
  obtain ⟨t,e⟩:=Value.isInt_shape (k:=i) (v:=v) h
  exact .inl ⟨i,t,rfl,e⟩
 | .inr x,v,h=>by
  obtain ⟨t,e⟩:=Value.isStrOf_shape (x:=x) (v:=v) h
  exact .inr ⟨x,t,rfl,e⟩
theorem a7C (i:Int)(t:Tok):a3N (.inl i) (.int i t)=true:=by simp [a3N,Value.isInt]
theorem a7k (x:Str)(t:Tok):a3N (.inr x) (.str x t)=true:=by simp [a3N,Value.isStrOf]
theorem b3g (a b:Int):decide ((Sum.inl a:Key)=Sum.inl b)=(a == b):=by
 by_cases e:a=b
 ·subst e; simp
 ·have h:¬ (Sum.inl a:Key)=Sum.inl b:=fun q=>e (Sum.inl.inj q)
  rw [decide_eq_false h]
  exact (beq_eq_false_iff_ne.mpr e).symm
theorem b29 (a b:Str):decide ((Sum.inr a:Key)=Sum.inr b)=decide (a=b):=by
 by_cases e:a=b
 ·subst e; simp
 ·have h:¬ (Sum.inr a:Key)=Sum.inr b:=fun q=>e (Sum.inr.inj q)
  rw [decide_eq_false h,decide_eq_false e]
theorem b26 (a:Int)(b:Str):decide ((Sum.inl a:Key)=Sum.inr b)=false:=decide_eq_false (fun q=>nomatch q)
theorem b2Q (a:Str)(b:Int):decide ((Sum.inr a:Key)=Sum.inl b)=false:=decide_eq_false (fun q=>nomatch q)
noncomputable def B8 (prog:Program)(w:World):PySem.KeyKind prog w Key where
 is:=a3N
 hash:=b5C w
 inj:=fun v a b ha hb=>by
  rcases z8 ha with ⟨i,t,rfl,rfl⟩ | ⟨x,t,rfl,rfl⟩
  ·rcases z8 hb with ⟨j,u,rfl,e⟩ | ⟨y,u,rfl,e⟩
   ·injection e with e1 _; rw [e1]
   ·exact nomatch e
  ·rcases z8 hb with ⟨j,u,rfl,e⟩ | ⟨y,u,rfl,e⟩
   ·exact nomatch e
   ·injection e with e1 _; rw [e1]
 byValue:=fun k v h=>by
  rcases z8 h with ⟨i,t,rfl,rfl⟩ | ⟨x,t,rfl,rfl⟩ <;> rfl
 pyHash:=fun hv h=>by
  rcases z8 hv with ⟨i,t,rfl,rfl⟩ | ⟨x,t,rfl,rfl⟩
  ·exact wpAny_pyHash_int h
  ·exact wpAny_pyHash_str h
 eqBool:=fun hu hv h=>by
  rcases z8 hu with ⟨i,t,rfl,rfl⟩ | ⟨x,t,rfl,rfl⟩
  ·rcases z8 hv with ⟨j,u,rfl,rfl⟩ | ⟨y,u,rfl,rfl⟩
   ·rw [b3g] at h; exact wpAny_eqBool_int h
   ·rw [b26] at h; exact SeqAt.EqAt.int_str i t y u _ _ _ _ h
  ·rcases z8 hv with ⟨j,u,rfl,rfl⟩ | ⟨y,u,rfl,rfl⟩
   ·rw [b2Q] at h; exact SeqAt.EqAt.str_int x t j u _ _ _ _ h
   ·rw [b29] at h; exact wpAny_eqBool_str h
 «strs»:=fun k x t v h=>by
  rcases z8 h with ⟨i,u,rfl,e⟩ | ⟨y,u,rfl,e⟩
  ·exact nomatch e
  ·injection e with e1 _
   subst e1
   cases v <;> rfl
theorem a5f (prog:Program)(w:World)(i:Int)(t:Tok):(B8 prog w).is (.inl i) (.int i t)=true:=a7C i t
theorem a48 (prog:Program)(w:World)(x:Str)(t:Tok):(B8 prog w).is (.inr x) (.str x t)=true:=a7k x t
end L2
namespace L2
open PySem PySem.Spec PyProof.Rows
inductive V where
 | t6 | bl (b:Bool) | int (i:Int) | str (x:Str) | byt (b:Array UInt8) | flt (b:UInt64) | ref (a:Addr) | ty (n:String)
 deriving DecidableEq
noncomputable def RelV:V→Value→Prop
 | .t6,u=>u=Value.none
 | .bl b,u=>u=Value.bool b
 | .int i,u=>∃ t,u=Value.int i t
 | .str x,u=>∃ t,u=Value.str x t
 | .byt b,u=>∃ t,u=Value.bytes b t
 | .flt b,u=>∃ t,u=Value.float b t
 | .ref a,u=>u=Value.ref a
 | .ty n,u=>u=Value.type n
noncomputable abbrev Vals:List V→List Value→Prop:=Paired RelV
theorem Vals.length {xs:List V}{us:List Value}(r:Vals xs us):xs.length=us.length:=Paired.length r
theorem Vals.get:∀ {xs:List V} {us:List Value} {i:Nat} {x:V},Vals xs us→xs[i]?=some x→∃ u,us[i]?=some u∧RelV x u
 | _,_,_,_,.nil,e=>by simp at e
 | _,_,0,_,.cons r _,e=>by simp at e; subst e; exact ⟨_,rfl,r⟩
 | _,_,i + 1,x,.cons _ t,e=>by
  obtain ⟨u,h1,h2⟩:=Vals.get (i:=i) (x:=x) t (by simpa using e)
  exact ⟨u,by simpa using h1,h2⟩
theorem Vals.set {x:V}{u:Value}(r:RelV x u):∀ {xs:List V} {us:List Value} (i:Nat),Vals xs us→Vals (xs.set i x) (us.set i u)
 | _,_,_,.nil=>.nil
 | _,_,0,.cons _ t=>.cons r t
 | _,_,i + 1,.cons q t=>.cons q (Vals.set r i t)
theorem Vals.append:∀ {xs ys:List V} {us ws:List Value},Vals xs us→Vals ys ws→Vals (xs++ys) (us++ws)
 | _,_,_,_,.nil,s=>s
 | _,_,_,_,.cons r t,s=>.cons r (Vals.append t s)
theorem Vals.take:∀ {xs:List V} {us:List Value} (n:Nat),Vals xs us→Vals (xs.take n) (us.take n)
 | _,_,0,_=>.nil
 | _,_,_ + 1,.nil=>.nil
 | _,_,n + 1,.cons r t=>.cons r (Vals.take n t)
theorem Vals.drop:∀ {xs:List V} {us:List Value} (n:Nat),Vals xs us→Vals (xs.drop n) (us.drop n)
 | _,_,0,r=>r
 | _,_,_ + 1,.nil=>.nil
 | _,_,n + 1,.cons _ t=>Vals.drop n t
theorem Vals.none_of:∀ {xs:List V} {us:List Value} {i:Nat},Vals xs us→xs[i]?=none→us[i]?=none:=fun {xs us i} r e=>by
 have h1:=r.length
 have h2:xs.length≤i:=List.getElem?_eq_none_iff.mp e
 exact List.getElem?_eq_none_iff.mpr (by omega)
noncomputable def W6:Option V→Option Value→Prop
 | some v,some u=>RelV v u
 | none,none=>True
 | _,_=>False
noncomputable def KV {κ:Type}:List (κ×V)→List (κ×Value)→Prop:=Paired fun (p:κ×V) (q:κ×Value)=>p.1=q.1∧RelV p.2 q.2
noncomputable def kV:Key→V
 | .inl i=>.int i
 | .inr x=>.str x
inductive HO where
 
 | lst (xs:List V)
 
 | tup (xs:List V)
 
 | dK (kvs:List (Key×V)) | dT (kvs:List (List Key×V))
 
 | set (S:Int→Bool) (n:Nat)
 
 | ins (C dx:Addr) (fs:List (Str×V))
 
 | own (x:Addr)
 
 | xd (fs:List (Str×V))
 
 | met (f x:Addr)
 
 | rng (lo hi:Int)
 
 | frz (o:Obj) (u:HO)
 
 | tbl (ps:Array Value)
 
 | ext (φ:Heap→Prop)
noncomputable abbrev Hp:=Addr→Option HO
noncomputable def upd (H:Hp)(a:Addr)(o:HO):Hp:=fun b=>if b=a then some o else H b
theorem l8 {H:Hp}{a:Addr}{o:HO}:upd H a o a=some o:=by unfold upd; rw [if_pos rfl]
theorem j3 {H:Hp}{a b:Addr}{o:HO}(h:b≠a):upd H a o b=H b:=by unfold upd; rw [if_neg h]
theorem m7 {H:Hp}{a b:Addr}{o:HO}(h:H a=some o)(h':H b=none):a≠b:=by
 intro e; subst e; rw [h] at h'; cases h'
section
variable (P:Program)(w:World)
noncomputable def A4 (H:Hp)(h:Heap)(a:Addr):HO→Prop
 | .lst xs=>xs.length≤sizeLine∧∃ (its:List Value) (n:Nat),Vals xs its∧h.get? a=some { cls:=.type "list",data:=.seq its.toArray n }
 | .tup xs=>xs.length≤sizeLine∧∃ its:List Value,Vals xs its∧IsTup h a its.toArray
 | .dK kvs=>kvs.length≤sizeLine∧(a == sysModules)=false∧∃ vs,KV kvs vs∧h.DictOf (B8 P w) a vs
 | .dT kvs=>kvs.length≤sizeLine∧(a == sysModules)=false∧∃ xs:List (List Key×Addr×Value),
   Paired (fun (p:List Key×V) (q:List Key×Addr×Value)=>p.1=q.1∧H q.2.1=some (.tup (p.1.map kV))∧RelV p.2 q.2.2) kvs xs∧
   ∃ o es ep,h.get? a=some o∧o.ExactDict∧o.data=.dict es ep∧es.toList=xs.map (entryOfKey (tupleKind (B8 P w)))∧(xs.map (·.1)).Nodup
 | .set S n=>h.SetOf (intKind P w) a S n
 | .ins C dx fs=>H dx=some (.own a)∧fs.length≤1000∧dx≠a∧h.get? a=some (PySem.W.instObj C dx)∧
   ∃ mA,h.Ns1 dx mA∧(∀ f,W6 (fs.lookup f) (mA f))∧PySem.Within mA (fs.map (·.1))
 | .own _=>∃ o,h.get? a=some o
 | .xd fs=>∃ mA,h.Ns1 a mA∧∀ f,W6 (fs.lookup f) (mA f)
 | .rng lo hi=>∃ t u v,h.get? a=some { cls:=.type "range",data:=.fields #[.int lo t,.int hi u,.int 1 v] }
 | .frz o u=>h.get? a=some o∧A4 H h a u
 | .tbl ps=>h.get? a=some { cls:=.none,data:=.fields ps }
 | .met f x=>h.get? a=some (PySem.W.methodObj (.ref f) (.ref x))
 | .ext φ=>φ h∧(∃ o,h.get? a=some o)∧∀ h1 h2:Heap,φ h1→(∀ o,h1.get? a=some o→h2.get? a=some o)→φ h2
noncomputable def HOk (H:Hp)(h:Heap):Prop:=∀ a o,H a=some o→A4 P w H h a o
end
section
variable {P:Program}{w:World}{H H':Hp}{h h':Heap}{a:Addr}{o:HO}
theorem A4.lt (x:A4 P w H h a o):a < h.objs.size:=by
 cases o with
 | lst xs=>obtain ⟨_,_,_,_,e⟩:=x; exact Heap.lt_size e
 | tup xs=>obtain ⟨_,_,_,p⟩:=x; exact p.lt
 | dK kvs=>obtain ⟨_,_,_,_,o,_,_,e,_⟩:=x; exact Heap.lt_size e
 | dT kvs=>obtain ⟨_,_,_,_,o,_,_,e,_⟩:=x; exact Heap.lt_size e
 | set S n=>obtain ⟨o,_,_,_,e,_⟩:=x; exact Heap.lt_size e
 | ins C dx fs=>obtain ⟨_,_,_,e,_⟩:=x; exact Heap.lt_size e
 | own y=>obtain ⟨_,e⟩:=x; exact Heap.lt_size e
 | xd fs=>obtain ⟨_,⟨_,_,_,e,_⟩,_⟩:=x; exact Heap.lt_size e
 | rng lo hi=>obtain ⟨_,_,_,e⟩:=x; exact Heap.lt_size e
 | frz ob u=>obtain ⟨e,_⟩:=x; exact Heap.lt_size e
 | tbl ps=>exact Heap.lt_size (show h.get? a=some _ from x)
 | met f y=>exact Heap.lt_size (show h.get? a=some _ from x)
 | ext φ=>obtain ⟨_,⟨_,e⟩,_⟩:=x; exact Heap.lt_size e
theorem Paired.b1d {α β:Type}{F G:α→β→Prop}:∀ {l₁:List α} {l₂:List β},Paired F l₁ l₂→(∀ a b,F a b→G a b)→Paired G l₁ l₂
 | _,_,.nil,_=>.nil
 | _,_,.cons r t,f=>.cons (f _ _ r) (Paired.b1d t f)
theorem A4.stay (x:A4 P w H h a o)(k:∀ b u,(b=a∨H b=some (.own a))→h.get? b=some u→h'.get? b=some u)
  (ho:∀ b,H b=some (.own a)→H' b=some (.own a)) (ht:∀ b xs,H b=some (.tup xs)→H' b=some (.tup xs)):A4 P w H' h' a o:=by
 induction o with
 | lst xs=>obtain ⟨z,its,n,r,e⟩:=x; exact ⟨z,its,n,r,k _ _ (.inl rfl) e⟩
 | tup xs=>obtain ⟨z,its,r,ob,e,c⟩:=x; exact ⟨z,its,r,ob,k _ _ (.inl rfl) e,c⟩
 | dK kvs=>obtain ⟨z,y,vs,r,ob,es,ep,e,c⟩:=x; exact ⟨z,y,vs,r,ob,es,ep,k _ _ (.inl rfl) e,c⟩
 | dT kvs=>
  obtain ⟨z,y,xs,r,ob,es,ep,e,c⟩:=x
  exact ⟨z,y,xs,Paired.b1d r fun p q z=>⟨z.1,ht _ _ z.2.1,z.2.2⟩,ob,es,ep,k _ _ (.inl rfl) e,c⟩
 | set S n=>obtain ⟨ob,es,ep,t,e,c⟩:=x; exact ⟨ob,es,ep,t,k _ _ (.inl rfl) e,c⟩
 | ins C dx fs=>
  obtain ⟨d,z,ne,e,mA,⟨od,es,ep,e2,c⟩,r⟩:=x
  exact ⟨ho _ d,z,ne,k _ _ (.inl rfl) e,mA,⟨od,es,ep,k _ _ (.inr d) e2,c⟩,r⟩
 | own y=>obtain ⟨ob,e⟩:=x; exact ⟨ob,k _ _ (.inl rfl) e⟩
 | xd fs=>obtain ⟨mA,⟨od,es,ep,e,c⟩,r⟩:=x; exact ⟨mA,⟨od,es,ep,k _ _ (.inl rfl) e,c⟩,r⟩
 | rng lo hi=>obtain ⟨t,u,v,e⟩:=x; exact ⟨t,u,v,k _ _ (.inl rfl) e⟩
 | frz ob u ih=>obtain ⟨e,q⟩:=x; exact ⟨k _ _ (.inl rfl) e,ih q⟩
 | tbl ps=>
  have e:h.get? a=some { cls:=.none,data:=.fields ps }:=x
  show h'.get? a=some { cls:=.none,data:=.fields ps }
  exact k a _ (.inl rfl) e
 | met f y=>
  have e:h.get? a=some (PySem.W.methodObj (.ref f) (.ref y)):=x
  show h'.get? a=some (PySem.W.methodObj (.ref f) (.ref y))
  exact k a _ (.inl rfl) e
 | ext φ=>obtain ⟨p,⟨o,e⟩,st⟩:=x; exact ⟨st _ _ p fun o q=>k _ _ (.inl rfl) q,⟨o,k _ _ (.inl rfl) e⟩,st⟩
theorem HOk.lt (x:HOk P w H h)(e:H a=some o):a < h.objs.size:=(x a o e).lt
theorem HOk.fresh (x:HOk P w H h)(e:h.objs.size≤a):H a=none:=by
 cases q:H a with
 | none=>rfl
 | some u=>exact absurd (Nat.lt_of_lt_of_le (x.lt q) e) (Nat.lt_irrefl _)
theorem HOk.kept (x:HOk P w H h)(k:∀ b u,h.get? b=some u→h'.get? b=some u):HOk P w H h':=fun a o e=>
 (x a o e).stay (fun b u _ q=>k b u q) (fun _ q=>q) fun _ _ q=>q
theorem HOk.laid (x:HOk P w H h)(k:∀ b u,h.get? b=some u→h'.get? b=some u)(hp:h.objs.size≤a)(new:A4 P w (upd H a o) h' a o):HOk P w (upd H a o) h':=fun b u e=>by
 have hn:=x.fresh hp
 by_cases hb:b=a
 ·subst hb; rw [l8] at e; cases e; exact new
 ·rw [j3 hb] at e
  exact (x b u e).stay (fun c v _ q=>k c v q) (fun c q=>by rw [j3 (m7 q hn)]; exact q) fun c xs q=>by rw [j3 (m7 q hn)]; exact q
end
noncomputable def Rd (H:Hp)(a:Addr)(u:HO):Prop:=H a=some u∨∃ o,H a=some (.frz o u)
theorem Rd.of {H:Hp}{a:Addr}{u:HO}(h:H a=some u):Rd H a u:=.inl h
theorem Rd.ok {P:Program}{w:World}{H:Hp}{h:Heap}{a:Addr}{u:HO}(r:Rd H a u)(x:HOk P w H h):A4 P w H h a u:=by
 rcases r with r | ⟨o,r⟩
 ·exact x a u r
 ·obtain ⟨_,q⟩:=x a _ r
  exact q
noncomputable def Mut:Option HO→Prop
 | some (.lst _)=>True
 | some (.dK _)=>True
 | some (.dT _)=>True
 | some (.set _ _)=>True
 | some (.ins _ _ _)=>True
 | some (.ext _)=>True
 | _=>False
section
variable {P:Program}{w:World}{H:Hp}{h h':Heap}{x e:Addr}{o':HO}
theorem HOk.write (ok:HOk P w H h)(mu:Mut (H x))(he:e=x∨H e=some (.own x))(k:∀ b u,b≠e→h.get? b=some u→h'.get? b=some u)(heo:∃ u,h'.get? e=some u)
  (new:A4 P w (upd H x o') h' x o'):HOk P w (upd H x o') h':=fun b u q=>by
 have nown:∀ c y,H c=some (.own y)→c≠x:=fun c y r z=>by subst z; rw [r] at mu; exact mu
 have ntup:∀ c xs,H c=some (.tup xs)→c≠x:=fun c xs r z=>by subst z; rw [r] at mu; exact mu
 by_cases hb:b=x
 ·subst hb; rw [l8] at q; cases q; exact new
 ·rw [j3 hb] at q
  by_cases hbe:b=e
  ·have q':H b=some (.own x):=by
    rcases he with z | z
    ·exact absurd (hbe.trans z) hb
    ·rw [hbe]; exact z
   rw [q] at q'; cases q'
   obtain ⟨v,hv⟩:=heo
   exact ⟨v,by rw [hbe]; exact hv⟩
  ·refine (ok b u q).stay (fun c v hc r=>k c v ?_ r) (fun c r=>by rw [j3 (nown c b r)]; exact r) fun c xs r=>by rw [j3 (ntup c xs r)]; exact r
   rcases hc with rfl | hc
   ·exact hbe
   ·rintro rfl
    rcases he with z | z
    ·exact nown c b hc z
    ·rw [hc] at z; cases z; exact hb rfl
end
structure Un (fs ex:List Addr) (H H':Hp) (h h':Heap):Prop where
 keep:∀ b o,h.get? b=some o→H b=none→b∉fs→b∉ex→h'.get? b=some o
 slot:∀ b o,h.get? b=some o→H b=none→b∈fs→b∉ex→∃ sl,h'.get? b=some { o with slots:=sl }
 free:∀ b o,h.get? b=some o→H b=none→b∉ex→H' b=none
 there:∀ b o,h.get? b=some o→b∉ex→∃ o',h'.get? b=some o'
 tups:∀ b xs,H b=some (.tup xs)→H' b=some (.tup xs)
 frzs:∀ b o u,H b=some (.frz o u)→H' b=some (.frz o u)
 tbls:∀ b ps,H b=some (.tbl ps)→∃ more,H' b=some (.tbl (ps++more))
section
variable {fs fs' ex ex':List Addr}{H H1 H2:Hp}{h h1 h2 h':Heap}{a x e:Addr}{o:HO}
theorem Un.any (u:Un fs ex H H1 h h1){b:Addr}{ob:Obj}(q:h.get? b=some ob)(n:H b=none)(hx:b∉ex):∃ sl,h1.get? b=some { ob with slots:=sl }:=by
 by_cases hb:b∈fs
 ·exact u.slot b ob q n hb hx
 ·exact ⟨ob.slots,u.keep b ob q n hb hx⟩
theorem Un.trans (a:Un fs ex H H1 h h1)(b:Un fs ex H1 H2 h1 h2):Un fs ex H H2 h h2 where
 keep:=fun c ob q n hc hx=>b.keep c ob (a.keep c ob q n hc hx) (a.free c ob q n hx) hc hx
 slot:=fun c ob q n hc hx=>by
  obtain ⟨sl,e1⟩:=a.slot c ob q n hc hx
  obtain ⟨sl',e2⟩:=b.slot c _ e1 (a.free c ob q n hx) hc hx
  exact ⟨sl',e2⟩
 free:=fun c ob q n hx=>by
  obtain ⟨o',e1⟩:=a.there c ob q hx
  exact b.free c o' e1 (a.free c ob q n hx) hx
 there:=fun c ob q hx=>by
  obtain ⟨o',e1⟩:=a.there c ob q hx
  exact b.there c o' e1 hx
 tups:=fun c xs q=>b.tups c xs (a.tups c xs q)
 frzs:=fun c ob xs q=>b.frzs c ob xs (a.frzs c ob xs q)
 tbls:=fun c ps q=>by
  obtain ⟨m1,e1⟩:=a.tbls c ps q
  obtain ⟨m2,e2⟩:=b.tbls c _ e1
  exact ⟨m1++m2,by rw [e2,Array.append_assoc]⟩
theorem Un.kept (k:∀ b u,h.get? b=some u→h'.get? b=some u):Un fs ex H H h h':=
 ⟨fun b ob q _ _ _=>k b ob q,fun b ob q _ _ _=>⟨ob.slots,k b ob q⟩,fun _ _ _ n _=>n,fun b ob q _=>⟨ob,k b ob q⟩,fun _ _ q=>q,fun _ _ _ q=>q,fun _ ps q=>⟨#[],by rw [q]; simp⟩⟩
theorem Un.refl:Un fs ex H H h h:=Un.kept fun _ _ q=>q
theorem Un.laid (k:∀ b u,h.get? b=some u→h'.get? b=some u)(hp:h.objs.size≤a)(hn:H a=none):Un fs ex H (upd H a o) h h' where
 keep:=fun b u q _ _ _=>k b u q
 slot:=fun b u q _ _ _=>⟨u.slots,k b u q⟩
 free:=fun b u q n _=>by rw [j3 (Nat.ne_of_lt (Nat.lt_of_lt_of_le (Heap.lt_size q) hp))]; exact n
 there:=fun b u q _=>⟨u,k b u q⟩
 tups:=fun b xs q=>by rw [j3 (m7 q hn)]; exact q
 frzs:=fun b u xs q=>by rw [j3 (m7 q hn)]; exact q
 tbls:=fun b ps q=>⟨#[],by rw [j3 (m7 q hn),q]; simp⟩
theorem Un.write (mu:Mut (H x))(he:e=x∨H e=some (.own x))(k:∀ b u,b≠e→h.get? b=some u→h'.get? b=some u)(heo:∃ u,h'.get? e=some u):Un fs ex H (upd H x o) h h':=by
 have hx:∀ b,H b=none→b≠x:=fun b n z=>by subst z; rw [n] at mu; exact mu
 have hb:∀ b,H b=none→b≠e:=fun b n z=>by
  subst z
  rcases he with r | r
  ·exact hx b n r
  ·rw [n] at r; cases r
 have hm:∀ b u,H b=some u→¬ Mut (some u)→b≠x:=fun b u q nm z=>by subst z; rw [q] at mu; exact nm mu
 refine ⟨fun b u q n _ _=>k b u (hb b n) q,fun b u q n _ _=>⟨u.slots,k b u (hb b n) q⟩,fun b u q n _=>by rw [j3 (hx b n)]; exact n,fun b u q _=>?_,
  fun b xs q=>by rw [j3 (hm b _ q fun z=>z)]; exact q,fun b u xs q=>by rw [j3 (hm b _ q fun z=>z)]; exact q,fun b ps q=>⟨#[],by rw [j3 (hm b _ q fun z=>z),q]; simp⟩⟩
 by_cases hbe:b=e
 ·subst hbe; exact heo
 ·exact ⟨u,k b u hbe q⟩
theorem Un.mono (u:Un fs ex H H1 h h1)(hs:∀ b∈fs,b∈fs')(hx:∀ b∈ex,b∈ex'):Un fs' ex' H H1 h h1:=
 ⟨fun b ob q n hb he=>u.keep b ob q n (fun z=>hb (hs b z)) fun z=>he (hx b z),fun _ _ q n _ he=>u.any q n fun z=>he (hx _ z),fun b ob q n he=>u.free b ob q n fun z=>he (hx b z),fun b ob q he=>u.there b ob q fun z=>he (hx b z),u.tups,u.frzs,u.tbls⟩
end
noncomputable def trk (h:Heap)(H:Hp):List Addr:=(List.range h.objs.size).filter fun a=>(H a).isSome
noncomputable def a4t (h:Heap)(H:Hp):Heap:=PySem.W.hideAll h (trk h H)
theorem a7Z (h:Heap)(H:Hp):(a4t h H).objs.size=h.objs.size:=PySem.W.hideAll_size _ _
theorem b0b {h:Heap}{H:Hp}{b:Addr}{o:Obj}(e:h.get? b=some o)(n:H b=none):(a4t h H).get? b=some o:=
 PySem.W.hideAll_get _ e fun hm=>by
  have q:(H b).isSome=true:=(List.mem_filter.mp hm).2
  rw [n] at q; simp at q
theorem b1E {h:Heap}{H:Hp}{b:Addr}{o:Obj}(e:(a4t h H).get? b=some o):h.get? b=some o∧H b=none:=by
 have e':h.get? b=some o:=PySem.W.of_hideAll (trk h H) e
 refine ⟨e',?_⟩
 cases q:H b with
 | none=>rfl
 | some x=>
  have hm:b∈trk h H:=List.mem_filter.mpr ⟨List.mem_range.mpr (Heap.lt_size e'),by simp [q]⟩
  have z:(a4t h H).get? b=none:=PySem.W.hideAll_none (trk h H) hm
  rw [z] at e; cases e
noncomputable def b0I (g h:Heap)(L:Addr):List (Addr×Obj):=(List.range h.objs.size).filterMap fun a=>if a=L∨(g.get? a).isSome=true then none else (h.get? a).map fun o=>(a,o)
noncomputable def rest (g h:Heap)(L d:Addr):List (Addr×Obj):=(b0I g h L).filter fun p=>decide (p.1≠d)
end L2
namespace L2
open PySem PySem.Spec PyProof.Rows
structure Mod (K:PySem.W.Frag) (mg:Str→Option Value) (base:Heap):Prop where
 kin:K.In base
 glob:base.Ns mainGlobals mg
 blt:∃ mb,base.Ns builtinsNs mb∧∀ x:Str,x≠"__name__"→mb x=bootBuiltins x
 nolimit:base.NoLimit
structure Cx where
 prog:Program
 w:World
 K:PySem.W.Frag
 mg:Str→Option Value
 base:Heap
 A:Around
 N:List Str
 s₀:Shared
 H₀:Hp
 env:Env
 outer:List Env
 stack:List Env
 ex:List Addr
 fn:Str→Bool
 calm:Bool
 pn:List (Addr×Obj)
 xe:Value→Shared→Prop
noncomputable def frs (l:List Env):List Addr:=l.filterMap (·.frame)
noncomputable abbrev Cx.fs (X:Cx):List Addr:=frs X.outer
noncomputable def Vis (sc:Scope)(x:Str):Prop:=sc.names.lookup x=some .local∨sc.names.lookup x=some .cell∨sc.names.lookup x=some .free
noncomputable def Loc (sc:Scope)(x:Str):Prop:=sc.names.lookup x=some .local∨sc.names.lookup x=some .cell
noncomputable def Look (env:Env)(h:Heap)(m:Str→Option Value)(x:Str)(u:Value):Prop:=
 (env.kindOf x=some .local∧m x=some u)∨((env.kindOf x=some .cell∨env.kindOf x=some .free)∧∃ c,env.cells.lookup x=some c∧h.IsCell c (some u))
structure Cx.Ok (X:Cx):Prop where
 mod:Mod X.K X.mg X.base
 kind:X.env.scope.kind=.function
 glob:X.env.globals=mainGlobals
 blt:X.env.builtins=builtinsNs
 above:X.s₀.heap.objs.size≤X.env.locals
 inj:∀ x y c,X.env.cells.lookup x=some c→X.env.cells.lookup y=some c→x=y
 has:∀ x,(X.env.kindOf x=some .cell∨X.env.kindOf x=some .free)→∃ c,X.env.cells.lookup x=some c
 cab:∀ x c,X.fn x=true→X.env.cells.lookup x=some c→X.s₀.heap.objs.size≤c
 hd:X.calm=true→X.A.handled=none
 frames:X.A.frames=some X.stack
 stk:X.stack=X.outer∨(X.stack=X.env::X.outer∧X.env.frame=some X.env.locals)
 exf:∀ b∈X.ex,b≠X.env.locals∧∀ x c,X.env.cells.lookup x=some c→c≠b
 bs:∀ b o,X.base.get? b=some o→X.s₀.heap.get? b=some o∧X.H₀ b=none
 bsz:X.base.objs.size≤X.s₀.heap.objs.size
 noex:∀ b o,X.base.get? b=some o→b∉X.ex
 exfs:∀ b∈X.ex,b∉X.fs
 a0y:X.s₀.heap.FunFrames X.base X.outer
 frf:∀ b∈X.fs,X.H₀ b=none
structure Inv (X:Cx) (pins:List (Addr×Obj)) (σ:List (Option V)) (H:Hp) (s:Shared):Prop where
 ok:X.Ok
 os:s.os=X.s₀.os
 bare:AllBare s.gens
 base:Un X.fs X.ex X.H₀ H X.s₀.heap s.heap
 loc:∃ m,s.heap.Ns X.env.locals m∧∀ (i:Nat) (x:Str) (v:V),X.N[i]?=some x→σ[i]?=some (some v)→Vis X.env.scope x→∃ u,RelV v u∧Look X.env s.heap m x u
 cell:∀ x c,X.env.cells.lookup x=some c→∃ v,s.heap.IsCell c v
 free:H X.env.locals=none
 freeC:∀ x c,X.env.cells.lookup x=some c→H c=none
 pin:∀ p∈X.pn++pins,s.heap.get? p.1=some p.2∧H p.1=none∧p.1≠X.env.locals∧p.1∉X.fs∧∀ v,p.2.data≠.cell v
 hok:HOk X.prog X.w H s.heap
 len:σ.length=X.N.length
section
variable {X:Cx}{pins:List (Addr×Obj)}{σ:List (Option V)}{H H':Hp}{s:Shared}{h':Heap}
theorem Cx.Ok.b5y (ok:X.Ok){b:Addr}{o:Obj}(e:X.base.get? b=some o):b∉X.fs:=fun hb=>by
 have:=(ok.a0y.mem hb).1
 rw [e] at this; cases this
theorem Inv.bs (I:Inv X pins σ H s):∀ b o,X.base.get? b=some o→s.heap.get? b=some o∧H b=none:=fun b o e=>
 ⟨I.base.keep b o (I.ok.bs b o e).1 (I.ok.bs b o e).2 (I.ok.b5y e) (I.ok.noex b o e),I.base.free b o (I.ok.bs b o e).1 (I.ok.bs b o e).2 (I.ok.noex b o e)⟩
theorem Inv.bk (I:Inv X pins σ H s):∀ b o,X.base.get? b=some o→s.heap.get? b=some o:=fun b o e=>(I.bs b o e).1
theorem Inv.mod (I:Inv X pins σ H s):Mod X.K X.mg X.base:=I.ok.mod
theorem Inv.kIn (I:Inv X pins σ H s):X.K.In s.heap:=I.ok.mod.kin.keeps I.bk
theorem Inv.nolimit (I:Inv X pins σ H s):s.heap.NoLimit:=I.ok.mod.nolimit.keeps I.bk
theorem Inv.fr (I:Inv X pins σ H s):∃ m,Fr X.base X.env.locals s.heap m:=
 let ⟨m,hn,_⟩:=I.loc
 ⟨m,hn,I.bk,Nat.le_trans I.ok.bsz I.ok.above⟩
theorem Inv.lt (I:Inv X pins σ H s):X.env.locals < s.heap.objs.size:=let ⟨_,hn,_⟩:=I.loc; hn.lt
theorem Inv.sz (I:Inv X pins σ H s):X.s₀.heap.objs.size≤s.heap.objs.size:=Nat.le_trans I.ok.above (Nat.le_of_lt I.lt)
theorem Inv.b3z (I:Inv X pins σ H s){a:Addr}(h:s.heap.objs.size≤a):a∉X.fs:=fun hb=>by
 obtain ⟨_,o,ho,_⟩:=I.ok.a0y.mem hb
 exact absurd (Nat.lt_of_lt_of_le (Heap.lt_size ho) (Nat.le_trans I.sz h)) (Nat.lt_irrefl _)
theorem Inv.cne (I:Inv X pins σ H s):∀ x c,X.env.cells.lookup x=some c→c≠X.env.locals:=fun x c e z=>by
 obtain ⟨v,o,ho,hd⟩:=I.cell x c e
 obtain ⟨m,⟨o',es,ep,ho',hd',_⟩,_⟩:=I.loc
 rw [z,ho'] at ho; cases ho; rw [hd'] at hd; cases hd
theorem Inv.a0y (I:Inv X pins σ H s):s.heap.FunFrames X.base X.outer:=by
 have all:∀ (l:List Env),(∀ b∈frs l,b∈X.fs)→X.s₀.heap.FunFrames X.base l→s.heap.FunFrames X.base l:=by
  intro l
  induction l with
  | nil=>intro _ _; trivial
  | cons env r ih=>
   intro hs hl
   obtain ⟨hk,⟨L,o,hf,hn,ho,hd⟩,hr⟩:=hl
   have hL:L∈X.fs:=hs L (by unfold frs; rw [List.filterMap_cons,hf]; exact List.mem_cons_self)
   obtain ⟨sl,e⟩:=I.base.slot L o ho (I.ok.frf L hL) hL fun z=>I.ok.exfs L z hL
   exact ⟨hk,⟨L,_,hf,hn,e,hd⟩,ih (fun b hb=>hs b (by unfold frs; rw [List.filterMap_cons,hf]; exact List.mem_cons_of_mem _ hb)) hr⟩
 exact all X.outer (fun _ hb=>hb) I.ok.a0y
theorem Inv.stack (I:Inv X pins σ H s):s.heap.FunFrames X.base X.stack:=by
 rcases I.ok.stk with e | ⟨e,hf⟩
 ·rw [e]; exact I.a0y
 ·rw [e]
  obtain ⟨m,hn,_⟩:=I.loc
  refine .cons (by rw [I.ok.kind]; decide) hf hn ?_ I.a0y
  exact Heap.get?_none_of_le (Nat.le_trans I.ok.bsz I.ok.above)
theorem Inv.a1m (I:Inv X pins σ H s):∀ b∈frs X.stack,b∈X.env.locals::X.fs:=fun b hb=>by
 rcases I.ok.stk with e | ⟨e,hf⟩
 ·rw [e] at hb; exact List.mem_cons_of_mem _ hb
 ·rw [e] at hb
  unfold frs at hb
  rw [List.filterMap_cons,hf] at hb
  exact hb
theorem Inv.a6B (I:Inv X pins σ H s):∀ b∈frs X.stack,H b=none:=fun b hb=>by
 rcases List.mem_cons.mp (I.a1m b hb) with e | hb
 ·rw [e]; exact I.free
 ·obtain ⟨_,o,ho,_⟩:=I.ok.a0y.mem hb
  exact I.base.free b o ho (I.ok.frf b hb) fun z=>I.ok.exfs b z hb
theorem Inv.step {g':Array GenState}{t':Nat}{d':Drawn}{ch:List Addr}(I:Inv X pins σ H s)
  (hch:∀ b∈ch,(b∈X.ex∨X.s₀.heap.objs.size≤b)∧b≠X.env.locals∧(∀ x c,X.env.cells.lookup x=some c→c≠b)∧∀ p∈X.pn++pins,p.1≠b)
  (keep:∀ b o,b≠X.env.locals→b∉X.fs→b∉ch→s.heap.get? b=some o→H b=none→h'.get? b=some o)
  (slot:∀ b o,b≠X.env.locals→b∈X.fs→b∉ch→s.heap.get? b=some o→H b=none→∃ sl,h'.get? b=some { o with slots:=sl }) (free:∀ b o,b∉ch→s.heap.get? b=some o→H b=none→H' b=none)
  (there:∀ b o,b∉ch→s.heap.get? b=some o→∃ o',h'.get? b=some o')
  (tups:∀ b xs,H b=some (.tup xs)→H' b=some (.tup xs)) (frzs:∀ b o u,H b=some (.frz o u)→H' b=some (.frz o u)) (tbls:∀ b ps,H b=some (.tbl ps)→∃ more,H' b=some (.tbl (ps++more)))
  (ns:∀ m,s.heap.Ns X.env.locals m→h'.Ns X.env.locals m) (hok:HOk X.prog X.w H' h') (hg:AllBare g'):
  Inv X pins σ H' { s with heap:=h',gens:=g',drawn:=d',toks:=t' }:=by
 have neL:∀ b o,X.s₀.heap.get? b=some o→b≠X.env.locals:=fun b o e=>Nat.ne_of_lt (Nat.lt_of_lt_of_le (Heap.lt_size e) I.ok.above)
 have neC:∀ b o,X.s₀.heap.get? b=some o→b∉X.ex→b∉ch:=fun b o e hx hb=>by
  rcases (hch b hb).1 with z | z
  ·exact hx z
  ·exact absurd (Nat.lt_of_lt_of_le (Heap.lt_size e) z) (Nat.lt_irrefl _)
 have cellK:∀ x c,X.env.cells.lookup x=some c→∀ v,s.heap.IsCell c v→h'.IsCell c v:=fun x c e v ⟨o,ho,hd⟩=>by
  have nch:c∉ch:=fun z=>(hch c z).2.2.1 x c e rfl
  by_cases hc:c∈X.fs
  ·obtain ⟨sl,q⟩:=slot c o (I.cne x c e) hc nch ho (I.freeC x c e)
   exact ⟨_,q,hd⟩
  ·exact ⟨o,keep c o (I.cne x c e) hc nch ho (I.freeC x c e),hd⟩
 refine ⟨I.ok,I.os,hg,⟨fun b o e n hb hx=>?_,fun b o e n hb hx=>?_,fun b o e n hx=>?_,fun b o e hx=>?_,fun b xs e=>tups b xs (I.base.tups b xs e),fun b o xs e=>frzs b o xs (I.base.frzs b o xs e),fun b ps e=>?_⟩,?_,fun x c e=>?_,?_,fun x c e=>?_,fun p hp=>?_,hok,I.len⟩
 ·exact keep b o (neL b o e) hb (neC b o e hx) (I.base.keep b o e n hb hx) (I.base.free b o e n hx)
 ·obtain ⟨sl,e1⟩:=I.base.slot b o e n hb hx
  obtain ⟨sl',e2⟩:=slot b _ (neL b o e) hb (neC b o e hx) e1 (I.base.free b o e n hx)
  exact ⟨sl',e2⟩
 ·obtain ⟨o',e1⟩:=I.base.there b o e hx
  exact free b o' (neC b o e hx) e1 (I.base.free b o e n hx)
 ·obtain ⟨o',e1⟩:=I.base.there b o e hx
  exact there b o' (neC b o e hx) e1
 ·obtain ⟨m1,e1⟩:=I.base.tbls b ps e
  obtain ⟨m2,e2⟩:=tbls b _ e1
  exact ⟨m1++m2,by rw [e2,Array.append_assoc]⟩
 ·obtain ⟨m,hn,hl⟩:=I.loc
  refine ⟨m,ns m hn,fun i x v e1 e2 e3=>?_⟩
  obtain ⟨u,r,l⟩:=hl i x v e1 e2 e3
  refine ⟨u,r,?_⟩
  rcases l with l | ⟨k,c,e,z⟩
  ·exact .inl l
  ·exact .inr ⟨k,c,e,cellK x c e _ z⟩
 ·obtain ⟨v,z⟩:=I.cell x c e
  exact ⟨v,cellK x c e v z⟩
 ·obtain ⟨m,⟨o,_,_,ho,_⟩,_⟩:=I.loc
  exact free _ o (fun z=>(hch _ z).2.1 rfl) ho I.free
 ·obtain ⟨v,o,ho,hd⟩:=I.cell x c e
  exact free c o (fun z=>(hch c z).2.2.1 x c e rfl) ho (I.freeC x c e)
 ·obtain ⟨e,n,ne,nf,d⟩:=I.pin p hp
  have nch:p.1∉ch:=fun z=>(hch p.1 z).2.2.2 p hp rfl
  exact ⟨keep p.1 p.2 ne nf nch e n,free p.1 p.2 nch e n,ne,nf,d⟩
theorem Inv.un {t':Nat}(I:Inv X pins σ H s)(u:Un X.fs [] H H' s.heap h')(hok:HOk X.prog X.w H' h'):Inv X pins σ H' { s with heap:=h',toks:=t' }:=by
 obtain ⟨m,⟨o,es,ep,ho,r⟩,_⟩:=id I.loc
 obtain ⟨sl,hL⟩:=u.any ho I.free (by simp)
 exact I.step (g':=s.gens) (d':=s.drawn) (ch:=[]) (fun _ z=>nomatch z) (fun b o _ hb _ e n=>u.keep b o e n hb (by simp)) (fun b o _ hb _ e n=>u.slot b o e n hb (by simp)) (fun b o _ e n=>u.free b o e n (by simp)) (fun b o _ e=>u.there b o e (by simp)) u.tups u.frzs u.tbls (fun m' hm=>by
  obtain ⟨o',es',ep',ho',r'⟩:=hm
  rw [ho] at ho'; cases ho'
  exact ⟨_,es',ep',hL,r'⟩) hok I.bare
theorem Inv.call {g':Array GenState}{t':Nat}{d':Drawn}{ch:List Addr}(I:Inv X pins σ H s)(u:Un (frs X.stack) ch H H' s.heap h')(hok:HOk X.prog X.w H' h')(hg:AllBare g')
  (hch:∀ b∈ch,(b∈X.ex∨X.s₀.heap.objs.size≤b)∧b≠X.env.locals∧(∀ x c,X.env.cells.lookup x=some c→c≠b)∧∀ p∈X.pn++pins,p.1≠b):
  Inv X pins σ H' { s with heap:=h',gens:=g',drawn:=d',toks:=t' }:=by
 obtain ⟨m,⟨o,es,ep,ho,r⟩,_⟩:=id I.loc
 obtain ⟨sl,hL⟩:=u.any ho I.free fun z=>(hch _ z).2.1 rfl
 exact I.step (ch:=ch) hch (fun b o hL hb hc e n=>u.keep b o e n (fun z=>(List.mem_cons.mp (I.a1m b z)).elim hL hb) hc) (fun b o _ _ hc e n=>u.any e n hc) (fun b o hc e n=>u.free b o e n hc) (fun b o hc e=>u.there b o e hc) u.tups u.frzs u.tbls (fun m' hm=>by
  obtain ⟨o',es',ep',ho',r'⟩:=hm
  rw [ho] at ho'; cases ho'
  exact ⟨_,es',ep',hL,r'⟩) hok hg
theorem Inv.turned {t':Nat}{it:Addr}(I:Inv X pins σ H s)(k:∀ b o,b≠it→s.heap.get? b=some o→h'.get? b=some o)(hn:H it=none)(hL:it≠X.env.locals)
  (h1:it∈X.ex∨X.s₀.heap.objs.size≤it) (h2:∀ x c,X.env.cells.lookup x=some c→c≠it) (h3:∀ p∈X.pn++pins,p.1≠it):Inv X pins σ H { s with heap:=h',toks:=t' }:=by
 have nit:∀ b u,H b=some u→b≠it:=fun b u e z=>by rw [z,hn] at e; cases e
 refine I.step (g':=s.gens) (d':=s.drawn) (ch:=[it]) (fun b hb=>?_) (fun b o _ _ hc e _=>k b o (fun z=>hc (by simp [z])) e) (fun b o _ _ hc e _=>⟨o.slots,k b o (fun z=>hc (by simp [z])) e⟩) (fun _ _ _ _ n=>n)
  (fun b o hc e=>⟨o,k b o (fun z=>hc (by simp [z])) e⟩) (fun _ _ e=>e) (fun _ _ _ e=>e) (fun b ps e=>⟨#[],by rw [e]; simp⟩) (fun m hm=>?_) (fun b u e=>?_) I.bare
 ·have e:b=it:=by simpa using hb
  subst e
  exact ⟨h1,hL,h2,h3⟩
 ·obtain ⟨o,es,ep,ho,r⟩:=hm
  exact ⟨o,es,ep,k _ o (Ne.symm hL) ho,r⟩
 ·refine (I.hok b u e).stay (fun c v hc q=>k c v ?_ q) (fun _ q=>q) fun _ _ q=>q
  rcases hc with z | z
  ·rw [z]; exact nit b u e
  ·exact nit c _ z
theorem Inv.tok (I:Inv X pins σ H s)(t:Nat):Inv X pins σ H { s with toks:=t }:=I.un (h':=s.heap) (t':=t) Un.refl I.hok
theorem Inv.kept {t':Nat}(I:Inv X pins σ H s)(k:∀ b u,s.heap.get? b=some u→h'.get? b=some u):Inv X pins σ H { s with heap:=h',toks:=t' }:=I.un (Un.kept k) (I.hok.kept k)
theorem Inv.laid {a:Addr}{o:HO}{t':Nat}(I:Inv X pins σ H s)(k:∀ b u,s.heap.get? b=some u→h'.get? b=some u)(hp:s.heap.objs.size≤a)(new:A4 X.prog X.w (upd H a o) h' a o):
  Inv X pins σ (upd H a o) { s with heap:=h',toks:=t' }:=I.un (Un.laid k hp (I.hok.fresh hp)) (I.hok.laid k hp new)
theorem Inv.write {x e:Addr}{o:HO}{t':Nat}(I:Inv X pins σ H s)(mu:Mut (H x))(he:e=x∨H e=some (.own x))(k:∀ b u,b≠e→s.heap.get? b=some u→h'.get? b=some u)(heo:∃ u,h'.get? e=some u)
  (new:A4 X.prog X.w (upd H x o) h' x o):Inv X pins σ (upd H x o) { s with heap:=h',toks:=t' }:=I.un (Un.write mu he k heo) (I.hok.write mu he k heo new)
theorem Inv.weak {σ':List (Option V)}(I:Inv X pins σ H s)(hl:σ'.length=σ.length)(w:∀ (i:Nat) v,σ'[i]?=some (some v)→σ[i]?=some (some v)):Inv X pins σ' H s:=
 ⟨I.ok,I.os,I.bare,I.base,let ⟨m,hn,hl'⟩:=I.loc; ⟨m,hn,fun i x v e1 e2 e3=>hl' i x v e1 (w i v e2) e3⟩,I.cell,I.free,I.freeC,I.pin,I.hok,hl.trans I.len⟩
theorem Inv.M8 {pins':List (Addr×Obj)}(I:Inv X pins σ H s)(h:∀ p∈pins',s.heap.get? p.1=some p.2∧H p.1=none∧p.1≠X.env.locals∧p.1∉X.fs∧∀ v,p.2.data≠.cell v):Inv X pins' σ H s:=
 ⟨I.ok,I.os,I.bare,I.base,I.loc,I.cell,I.free,I.freeC,fun p hp=>(List.mem_append.mp hp).elim (fun z=>I.pin p (List.mem_append_left _ z)) (h p),I.hok,I.len⟩
theorem a5C {N:List Str}(hN:N.Nodup){i j:Nat}{x:Str}(a:N[i]?=some x)(b:N[j]?=some x):i=j:=by
 obtain ⟨h1,e1⟩:=List.getElem?_eq_some_iff.mp a
 obtain ⟨h2,e2⟩:=List.getElem?_eq_some_iff.mp b
 exact (List.getElem_inj hN).mp (e1.trans e2.symm)
theorem a3z {M:Model}{A:Around}{E:Value→Shared→Prop}{i:Nat}{x:Str}{v:V}{u:Value}{Q:Unit→Shared→Prop}(I:Inv X pins σ H s)(hN:X.N.Nodup)(hi:X.N[i]?=some x)(hx:Loc X.env.scope x)(r:RelV v u)
  (h:∀ s',Inv X pins (σ.set i (some v)) H s'→(∃ a,Heap.SameBut a s.heap s'.heap∧(a=X.env.locals∨X.env.cells.lookup x=some a))→Q () s') (hf:X.fn x=true∨X.env.scope.names.lookup x=some .local:=by first | exact .inl rfl | exact .inr rfl | assumption):wpAny M A (storeName X.env x u) Q E s:=by
 obtain ⟨m,hn,hl⟩:=id I.loc
 have hcls:(X.env.scope.kind == .class || (X.env.scope.kind == .module && X.env.locals != X.env.globals))=false:=by rw [I.ok.kind]; rfl
 have hiσ:i < σ.length:=by rw [I.len]; exact (List.getElem?_eq_some_iff.mp hi).1
 have cne:=I.cne
 have tracked:∀ {a:Addr} {h':Heap},(∃ o,s.heap.get? a=some o∧H a=none)→Heap.SameBut a s.heap h'→HOk X.prog X.w H h':=fun {a h'} ha hs b ob e=>by
  obtain ⟨_,_,hfree⟩:=ha
  refine (I.hok b ob e).stay (fun c w' hc q=>(hs.2 c ?_).trans q) (fun _ q=>q) fun _ _ q=>q
  rintro rfl
  rcases hc with rfl | hc
  ·rw [hfree] at e; cases e
  ·rw [hfree] at hc; cases hc
 rcases hx with hk | hk
 ·refine wpAny_storeName_local hk hn (fun h' hn' hs=>?_) hcls
  obtain ⟨oL,_,_,hoL,_⟩:=id hn
  refine h _ ⟨I.ok,I.os,I.bare,⟨fun b o e n hb hx=>?_,fun b o e n hb hx=>?_,I.base.free,fun b o e hx=>?_,I.base.tups,I.base.frzs,I.base.tbls⟩,⟨_,hn',fun j y v' e1 e2 e3=>?_⟩,fun y c e=>?_,I.free,I.freeC,fun p hp=>?_,tracked ⟨oL,hoL,I.free⟩ hs,by simpa using I.len⟩ ⟨_,hs,.inl rfl⟩
  ·exact (hs.2 b (Nat.ne_of_lt (Nat.lt_of_lt_of_le (Heap.lt_size e) I.ok.above))).trans (I.base.keep b o e n hb hx)
  ·obtain ⟨sl,e1⟩:=I.base.slot b o e n hb hx
   exact ⟨sl,(hs.2 b (Nat.ne_of_lt (Nat.lt_of_lt_of_le (Heap.lt_size e) I.ok.above))).trans e1⟩
  ·obtain ⟨o',e1⟩:=I.base.there b o e hx
   exact ⟨o',(hs.2 b (Nat.ne_of_lt (Nat.lt_of_lt_of_le (Heap.lt_size e) I.ok.above))).trans e1⟩
  ·by_cases hj:j=i
   ·subst hj
    rw [hi] at e1; cases e1
    rw [List.getElem?_set_self hiσ] at e2
    cases e2
    exact ⟨u,r,.inl ⟨hk,by simp⟩⟩
   ·rw [List.getElem?_set_ne (Ne.symm hj)] at e2
    obtain ⟨u',r',q⟩:=hl j y v' e1 e2 e3
    refine ⟨u',r',?_⟩
    rcases q with ⟨k,e⟩ | ⟨k,c,e,z⟩
    ·refine .inl ⟨k,?_⟩
     have:y≠x:=fun e=>hj (a5C hN e1 (e ▸ hi))
     simp [this,e]
    ·exact .inr ⟨k,c,e,z.sameBut hs (cne y c e)⟩
  ·obtain ⟨w',z⟩:=I.cell y c e
   exact ⟨w',z.sameBut hs (cne y c e)⟩
  ·obtain ⟨e,n,ne,nf,d⟩:=I.pin p hp
   exact ⟨(hs.2 p.1 ne).trans e,n,ne,nf,d⟩
 ·have hfn:X.fn x=true:=by
   rcases hf with z | z
   ·exact z
   ·rw [z] at hk; cases hk
  obtain ⟨c,hc⟩:=I.ok.has x (.inl hk)
  obtain ⟨w',z⟩:=I.cell x c hc
  refine wpAny_storeName_cell I.ok.kind hk hc z (fun h' hc' hs=>?_)
  obtain ⟨oc,hoc,hocd⟩:=id z
  refine h { s with heap:=h' } ⟨I.ok,I.os,I.bare,⟨fun b o e n hb hx=>?_,fun b o e n hb hx=>?_,I.base.free,fun b o e hx=>?_,I.base.tups,I.base.frzs,I.base.tbls⟩,⟨m,hn.sameBut hs (Ne.symm (cne x c hc)),fun j y v' e1 e2 e3=>?_⟩,fun y c' e=>?_,I.free,I.freeC,fun p hp=>?_,tracked ⟨oc,hoc,I.freeC x c hc⟩ hs,by simpa using I.len⟩ ⟨c,hs,.inr hc⟩
  ·exact (hs.2 b (Nat.ne_of_lt (Nat.lt_of_lt_of_le (Heap.lt_size e) (I.ok.cab x c hfn hc)))).trans (I.base.keep b o e n hb hx)
  ·obtain ⟨sl,e1⟩:=I.base.slot b o e n hb hx
   exact ⟨sl,(hs.2 b (Nat.ne_of_lt (Nat.lt_of_lt_of_le (Heap.lt_size e) (I.ok.cab x c hfn hc)))).trans e1⟩
  ·obtain ⟨o',e1⟩:=I.base.there b o e hx
   exact ⟨o',(hs.2 b (Nat.ne_of_lt (Nat.lt_of_lt_of_le (Heap.lt_size e) (I.ok.cab x c hfn hc)))).trans e1⟩
  ·by_cases hj:j=i
   ·subst hj
    rw [hi] at e1; cases e1
    rw [List.getElem?_set_self hiσ] at e2
    cases e2
    exact ⟨u,r,.inr ⟨.inl hk,c,hc,hc'⟩⟩
   ·rw [List.getElem?_set_ne (Ne.symm hj)] at e2
    obtain ⟨u',r',q⟩:=hl j y v' e1 e2 e3
    refine ⟨u',r',?_⟩
    rcases q with q | ⟨k,c',e,z'⟩
    ·exact .inl q
    ·refine .inr ⟨k,c',e,z'.sameBut hs ?_⟩
     rintro rfl
     exact hj (a5C hN e1 (I.ok.inj _ _ _ e hc ▸ hi))
  ·by_cases hcc:c'=c
   ·subst hcc; exact ⟨_,hc'⟩
   ·obtain ⟨w2,z2⟩:=I.cell y c' e
    exact ⟨w2,z2.sameBut hs hcc⟩
  ·obtain ⟨e,n,ne,nf,d⟩:=I.pin p hp
   refine ⟨(hs.2 p.1 ?_).trans e,n,ne,nf,d⟩
   intro q
   rw [q,hoc] at e
   have q':oc=p.2:=Option.some.inj e
   exact d w' (by rw [← q']; exact hocd)
theorem a0D {M:Model}{A:Around}{E:Value→Shared→Prop}{i:Nat}{x:Str}{v:V}{u:Value}{Q:Unit→Shared→Prop}(I:Inv X pins σ H s)(hN:X.N.Nodup)(hi:X.N[i]?=some x)(hx:Loc X.env.scope x)(r:RelV v u)
  (h:∀ s',Inv X pins (σ.set i (some v)) H s'→Q () s') (hf:X.fn x=true∨X.env.scope.names.lookup x=some .local:=by first | exact .inl rfl | exact .inr rfl | assumption):wpAny M A (storeName X.env x u) Q E s:=
 a3z I hN hi hx r (fun s' I' _=>h s' I') hf
theorem Inv.b10 {s':Shared}{ch:List Addr}(I:Inv X pins σ H s)(ho:s'.os=s.os)(u:Un (frs X.stack) ch H H' s.heap s'.heap)(hok:HOk X.prog X.w H' s'.heap)(hg:AllBare s'.gens)
  (hch:∀ b∈ch,(b∈X.ex∨X.s₀.heap.objs.size≤b)∧b≠X.env.locals∧(∀ x c,X.env.cells.lookup x=some c→c≠b)∧∀ p∈X.pn++pins,p.1≠b):Inv X pins σ H' s':=by
 obtain ⟨h',g',d',t',o'⟩:=s'
 have e:o'=s.os:=ho
 subst e
 exact I.call (g':=g') (t':=t') (d':=d') u hok hg hch
end
noncomputable abbrev XK:=Value→Option Addr→Hp→Prop
noncomputable abbrev St:=List (Option V)
noncomputable abbrev VK:=V→Hp→Prop
noncomputable abbrev TE:=St→Hp→VK→Prop
noncomputable abbrev TT:=St→Hp→(Bool→Hp→Prop)→Prop
noncomputable abbrev TA:=St→Hp→(List V→Hp→Prop)→Prop
structure Ends where
 nx:St→Hp→Prop
 rt:VK
 bk:St→Hp→Prop:=fun _ _=>False
 ct:St→Hp→Prop:=fun _ _=>False
noncomputable abbrev TS:=Ends→St→Hp→Prop
noncomputable def EP (X:Cx)(pins:List (Addr×Obj))(σ:St)(Q:VK)(u:Value)(s':Shared):Prop:=∃ v H',Inv X pins σ H' s'∧RelV v u∧Q v H'
noncomputable def TP (X:Cx)(pins:List (Addr×Obj))(σ:St)(Q:Bool→Hp→Prop)(b:Bool)(s':Shared):Prop:=∃ H',Inv X pins σ H' s'∧Q b H'
noncomputable def AP (X:Cx)(pins:List (Addr×Obj))(σ:St)(Q:List V→Hp→Prop)(us:List Value)(s':Shared):Prop:=∃ vs H',Inv X pins σ H' s'∧Vals vs us∧Q vs H'
noncomputable def SP (X:Cx)(pins:List (Addr×Obj))(D:Ends)(f:Flow)(s':Shared):Prop:=
 match f with
 | .next=>∃ σ' H',Inv X pins σ' H' s'∧D.nx σ' H'
 | .brk=>∃ σ' H',Inv X pins σ' H' s'∧D.bk σ' H'
 | .cont=>∃ σ' H',Inv X pins σ' H' s'∧D.ct σ' H'
 | .ret u=>∃ v σ' H',Inv X pins σ' H' s'∧RelV v u∧D.rt v H'
noncomputable def PE (X:Cx)(e:Expr)(t:TE):Prop:=
 ∀ (pins:List (Addr×Obj)) (s:Shared) (σ:St) (H:Hp) (Q:VK),Inv X pins σ H s→t σ H Q→wpAny (model X.prog X.w) X.A (eval e X.env) (EP X pins σ Q) X.xe s
noncomputable def PT (X:Cx)(e:Expr)(t:TT):Prop:=
 ∀ (pins:List (Addr×Obj)) (s:Shared) (σ:St) (H:Hp) (Q:Bool→Hp→Prop),Inv X pins σ H s→t σ H Q→wpAny (model X.prog X.w) X.A (isTrue e X.env (eval e X.env)) (TP X pins σ Q) X.xe s
noncomputable def PW (X:Cx)(e:Expr)(t:TT):Prop:=
 ∀ (whole:Sem Value) (pins:List (Addr×Obj)) (s:Shared) (σ:St) (H:Hp) (Q:Bool→Hp→Prop),Inv X pins σ H s→t σ H Q→wpAny (model X.prog X.w) X.A (isTrue e X.env whole) (TP X pins σ Q) X.xe s
theorem PW.pt {X:Cx}{e:Expr}{t:TT}(h:PW X e t):PT X e t:=h _
noncomputable def PA (X:Cx)(es:List Expr)(t:TA):Prop:=
 ∀ (pos:Pos) (pins:List (Addr×Obj)) (s:Shared) (σ:St) (H:Hp) (Q:List V→Hp→Prop),Inv X pins σ H s→t σ H Q→wpAny (model X.prog X.w) X.A (spliced (backTo pos (starEach es X.env))) (AP X pins σ Q) X.xe s
noncomputable def PS (X:Cx)(st:Stmt)(t:TS):Prop:=
 ∀ (pins:List (Addr×Obj)) (s:Shared) (σ:St) (H:Hp) (D:Ends),Inv X pins σ H s→t D σ H→wpAny (model X.prog X.w) X.A (exec st X.env) (SP X pins D) X.xe s
noncomputable def PSs (X:Cx)(st:List Stmt)(t:TS):Prop:=
 ∀ (pins:List (Addr×Obj)) (s:Shared) (σ:St) (H:Hp) (D:Ends),Inv X pins σ H s→t D σ H→wpAny (model X.prog X.w) X.A (execs st X.env) (SP X pins D) X.xe s
theorem C7 {α:Type}{t:Sem α}{Q Q':α→Shared→Prop}{M:Model}{A:Around}{E:Value→Shared→Prop}{s:Shared}(h:wpAny M A t Q E s)(hQ:∀ a s,Q a s→Q' a s):wpAny M A t Q' E s:=wpAny_mono h hQ fun _ _ x=>x
end L2
namespace L2
open PySem PySem.Spec PyProof.Rows
section
variable {X:Cx}
noncomputable def b1J (i:Nat):TE:=fun σ H Q=>∃ v,σ[i]?=some (some v)∧Q v H
noncomputable def tC (v:V):TE:=fun _ H Q=>Q v H
theorem a0m {i:Nat}{x:Str}{pos:Pos}(hN:X.N[i]?=some x)(hv:Vis X.env.scope x)(hd:(x == ("__debug__":Str))=false:=by decide) (hcd:(x == ("__classdict__":Str))=false:=by decide):PE X (.Name x pos) (b1J i):=by
 intro pins s σ H Q I h
 obtain ⟨v,e,h⟩:=h
 obtain ⟨m,hn,hl⟩:=I.loc
 obtain ⟨u,r,l⟩:=hl i x v hN e hv
 have fin:EP X pins σ Q u s:=⟨v,H,I,r,h⟩
 rcases l with ⟨hk,hm⟩ | ⟨hk,c,hc,hcell⟩
 ·exact wpAny_Name (wpAny_loadName_local I.ok.kind hk hn hm fin) hd
 ·rcases hk with hk | hk
  ·exact wpAny_Name (wpAny_loadName_cell I.ok.kind hk hc hcell fin) hd
  ·exact wpAny_Name (wpAny_loadName_free I.ok.kind hk hc hcell fin hcd) hd
theorem a9M {i j pos}:PE X (.Constant (.int i) j pos) (tC (.int i)):=fun _ _ _ H _ I h=>wpAny_Constant_int ⟨.int i,H,I.tok _,⟨_,rfl⟩,h⟩
theorem b4r {b j pos}:PE X (.Constant (.bool b) j pos) (tC (.bl b)):=fun _ _ _ H _ I h=>Constant_bool ⟨.bl b,H,I,rfl,h⟩
theorem b2Z {j pos}:PE X (.Constant .none j pos) (tC .t6):=fun _ _ _ H _ I h=>Constant_none ⟨.t6,H,I,rfl,h⟩
theorem b2D {x j pos}:PE X (.Constant (.str x) j pos) (tC (.str x)):=fun _ _ _ H _ I h=>Calls.Constant_str ⟨.str x,H,I.tok _,⟨_,rfl⟩,h⟩
noncomputable def Gl (X:Cx)(x:Str):Prop:=X.env.kindOf x=some .globalImplicit
theorem Z8 {E:Value→Shared→Prop}{pins:List (Addr×Obj)}{s:Shared}{σ:St}{H:Hp}{x:Str}{u:Value}{pos:Pos}{Q:Value→Shared→Prop}(I:Inv X pins σ H s)(hg:Gl X x)(hm:X.mg x=some u)(h:Q u s)
  (hd:(x == ("__debug__":Str))=false:=by decide):wpAny (model X.prog X.w) X.A (eval (.Name x pos) X.env) Q E s:=
 Calls.Name_function_global I.ok.kind hg (Calls.loadGlobal_global (by rw [I.ok.glob]; exact I.mod.glob.keeps I.bk) hm h) hd
theorem a3X {E:Value→Shared→Prop}{pins:List (Addr×Obj)}{s:Shared}{σ:St}{H:Hp}{x:Str}{u:Value}{pos:Pos}{Q:Value→Shared→Prop}(I:Inv X pins σ H s)(hg:Gl X x)(hm:X.mg x=none)(hv:bootBuiltins x=some u)(h:Q u s)
  (hn:x≠"__name__":=by decide) (hd:(x == ("__debug__":Str))=false:=by decide):wpAny (model X.prog X.w) X.A (eval (.Name x pos) X.env) Q E s:=by
 obtain ⟨mb,h1,h2⟩:=I.mod.blt
 exact Calls.Name_function_global I.ok.kind hg (Calls.loadGlobal_builtin (by rw [I.ok.glob]; exact I.mod.glob.keeps I.bk) hm (by rw [I.ok.blt]; exact h1.keeps I.bk) ((h2 x hn).trans hv) h) hd
theorem a6x {x:Str}{v:V}{u:Value}{pos:Pos}(hg:Gl X x)(hm:X.mg x=some u)(r:RelV v u)(hd:(x == ("__debug__":Str))=false:=by decide):PE X (.Name x pos) (tC v):=
 fun _ _ _ H _ I h=>Z8 I hg hm ⟨v,H,I,r,h⟩ hd
theorem a6F {x:Str}{v:V}{u:Value}{pos:Pos}(hg:Gl X x)(hm:X.mg x=none)(hv:bootBuiltins x=some u)(r:RelV v u)(hn:x≠"__name__":=by decide) (hd:(x == ("__debug__":Str))=false:=by decide):PE X (.Name x pos) (tC v):=
 fun _ _ _ H _ I h=>a3X I hg hm hv ⟨v,H,I,r,h⟩ hn hd
variable {a b:Expr}{ta tb:TE}{pos:Pos}
noncomputable def PC (X:Cx)(op:CmpOp)(a b:Expr)(t:TE):Prop:=
 ∀ (pins:List (Addr×Obj)) (s:Shared) (σ:St) (H:Hp) (Q:VK),Inv X pins σ H s→t σ H Q→
  wpAny (model X.prog X.w) X.A (eval a X.env) (fun v s₁=>wpAny (model X.prog X.w) X.A (eval b X.env) (fun u s₂=>wpAny (model X.prog X.w) X.A (compareOp op v u) (EP X pins σ Q) X.xe s₂) X.xe s₁) X.xe s
theorem a43 (b:Expr){op:CmpOp}(h:op≠.In)(h2:op≠.NotIn):behindInMarks op b=false:=by
 have e1:(op == CmpOp.In)=false:=by cases op <;> first | rfl | exact absurd rfl h
 have e2:(op == CmpOp.NotIn)=false:=by cases op <;> first | rfl | exact absurd rfl h2
 cases b <;> simp [behindInMarks,e1,e2]
noncomputable def b5m (ta:TE):TE:=fun σ H Q=>ta σ H fun x H1=>Q (.bl (decide (x=.t6))) H1
noncomputable def b4B (ta:TE):TE:=fun σ H Q=>ta σ H fun x H1=>Q (.bl (!decide (x=.t6))) H1
theorem RelV.a4T {x:V}{v:Value}(r:RelV x v):(v == Value.none)=decide (x=.t6):=by
 cases x with
 | t6=>cases r; rfl
 | bl _=>cases r; rfl
 | int _=>obtain ⟨t,rfl⟩:=r; rfl
 | str _=>obtain ⟨t,rfl⟩:=r; rfl
 | byt _=>obtain ⟨t,rfl⟩:=r; rfl
 | flt _=>obtain ⟨t,rfl⟩:=r; rfl
 | ref _=>cases r; rfl
 | ty _=>cases r; rfl
theorem b2h {j pos'}(ha:PE X a ta):PC X .Is a (.Constant .none j pos') (b5m ta):=by
 intro pins s σ H Q I h
 refine C7 (ha pins s σ H _ I h) fun v s1 ⟨x,H1,I1,r1,q1⟩=>?_
 exact Constant_none (is_none_gen ⟨.bl _,H1,I1,by rw [r1.a4T]; rfl,q1⟩)
theorem b1n {j pos'}(ha:PE X a ta):PC X .IsNot a (.Constant .none j pos') (b4B ta):=by
 intro pins s σ H Q I h
 refine C7 (ha pins s σ H _ I h) fun v s1 ⟨x,H1,I1,r1,q1⟩=>?_
 exact Constant_none (isnot_none_gen ⟨.bl _,H1,I1,by rw [r1.a4T]; rfl,q1⟩)
noncomputable def tB (t:TE):TT:=fun σ H Q=>t σ H fun x H1=>∃ c,x=.bl c∧Q c H1
theorem b2B {op:CmpOp}{t:TE}(h:PC X op a b t)(h1:behindInMarks op b=false:=by first | exact a43 _ (by decide) (by decide) | rfl):PE X (.Compare a [op] [b] pos) t:=fun pins s σ H Q I hw=>wpAny_Compare1 (h pins s σ H Q I hw) h1
theorem b3c {op:CmpOp}{t:TE}(h:PC X op a b t)(h1:behindInMarks op b=false:=by first | exact a43 _ (by decide) (by decide) | rfl):PT X (.Compare a [op] [b] pos) (tB t):=by
 intro pins s σ H Q I hw
 refine wpAny_isTrue_Compare1 (C7 (h pins s σ H _ I hw) fun v s1 h1=>C7 h1 fun u s2 h2=>C7 h2 fun c s3 ⟨x,H1,I1,r1,q1⟩=>?_) h1
 obtain ⟨d,rfl,q⟩:=q1
 cases r1
 exact wpAny_truthy_bool ⟨H1,I1,q⟩
theorem a9p {e:Expr}{t:TE}(h:PE X e t)(he:∀ whole,isTrue e X.env whole=(do let v ← whole; standAt e.pos; holding [v] (truthy v)):=by intro _; rfl):PT X e (tB t):=by
 intro pins s σ H Q I hw
 refine isTrue_plain (C7 (h pins s σ H _ I hw) fun v s1 ⟨x,H1,I1,r1,q1⟩=>?_) (he _)
 obtain ⟨d,rfl,q⟩:=q1
 cases r1
 exact wpAny_truthy_bool ⟨H1,I1,q⟩
variable {tA tB':TT}{rest:List Expr}
noncomputable def b40 (t u:TT):TT:=fun σ H Q=>t σ H fun c H1=>if c=true then u σ H1 Q else Q false H1
noncomputable def tOr (t u:TT):TT:=fun σ H Q=>t σ H fun c H1=>if c=true then Q true H1 else u σ H1 Q
theorem a6M (ha:PT X a tA):PW X (.BoolOp .And [a] pos) tA:=by
 intro wh pins s σ H Q I h
 refine isTrue_and (C7 (ha pins s σ H Q I h) fun c s1 e=>?_)
 cases c with
 | true=>exact isTrue_and_nil e
 | false=>exact e
theorem b2l (ha:PT X a tA):PW X (.BoolOp .Or [a] pos) tA:=by
 intro wh pins s σ H Q I h
 refine isTrue_or (C7 (ha pins s σ H Q I h) fun c s1 e=>?_)
 cases c with
 | false=>exact isTrue_or_nil e
 | true=>exact e
theorem a9X (ha:PT X a tA)(hb:PW X (.BoolOp .And (b::rest) pos) tB'):PW X (.BoolOp .And (a::b::rest) pos) (b40 tA tB'):=by
 intro wh pins s σ H Q I h
 refine isTrue_and (C7 (ha pins s σ H _ I h) fun c s1 ⟨H1,I1,q1⟩=>?_)
 cases c with
 | true=>exact hb wh pins s1 σ H1 Q I1 q1
 | false=>exact ⟨H1,I1,q1⟩
theorem b31 (ha:PT X a tA)(hb:PW X (.BoolOp .Or (b::rest) pos) tB'):PW X (.BoolOp .Or (a::b::rest) pos) (tOr tA tB'):=by
 intro wh pins s σ H Q I h
 refine isTrue_or (C7 (ha pins s σ H _ I h) fun c s1 ⟨H1,I1,q1⟩=>?_)
 cases c with
 | true=>exact ⟨H1,I1,q1⟩
 | false=>exact hb wh pins s1 σ H1 Q I1 q1
noncomputable def b1V (ta tb:TE):TE:=fun σ H Q=>ta σ H fun x H1=>∃ c,x=.bl c∧if c=true then tb σ H1 Q else Q (.bl false) H1
noncomputable def b4L (ta:TE):TE:=fun σ H Q=>ta σ H fun x H1=>∃ c,x=.bl c∧Q (.bl (!c)) H1
theorem b2G {op}{t:TE}(h:PE X a t):PE X (.BoolOp op [a] pos) t:=fun pins s σ H Q I hw=>BoolOp_one (h pins s σ H Q I hw)
theorem b3q (ha:PE X a ta)(hb:PE X (.BoolOp .And (b::rest) pos) tb):PE X (.BoolOp .And (a::b::rest) pos) (b1V ta tb):=by
 intro pins s σ H Q I h
 refine BoolOp_and (C7 (ha pins s σ H _ I h) fun v s1 ⟨x,H1,I1,r1,q1⟩=>?_)
 obtain ⟨c,rfl,q1⟩:=q1
 cases r1
 refine wpAny_truthy_bool ?_
 cases c with
 | true=>exact hb pins s1 σ H1 Q I1 q1
 | false=>exact ⟨.bl false,H1,I1,rfl,q1⟩
theorem b3O (ha:PE X a ta):PE X (.UnaryOp .Not a pos) (b4L ta):=by
 intro pins s σ H Q I h
 refine UnaryOp_ (C7 (ha pins s σ H _ I h) fun v s1 ⟨x,H1,I1,r1,q1⟩=>?_)
 obtain ⟨c,rfl,q1⟩:=q1
 cases r1
 exact not_of (wpAny_truthy_bool ⟨.bl (!c),H1,I1,rfl,q1⟩)
noncomputable def tIf (t:TT)(ta tb:TE):TE:=fun σ H Q=>t σ H fun c H1=>if c=true then ta σ H1 Q else tb σ H1 Q
theorem a4M {c:Expr}(hc:PT X c tA)(ha:PE X a ta)(hb:PE X b tb):PE X (.IfExp c a b pos) (tIf tA ta tb):=by
 intro pins s σ H Q I h
 refine wpAny_IfExp (C7 (hc pins s σ H _ I h) fun d s1 ⟨H1,I1,q1⟩=>?_)
 cases d with
 | true=>exact ha pins s1 σ H1 Q I1 q1
 | false=>exact hb pins s1 σ H1 Q I1 q1
end
end L2
namespace L2
open PySem PySem.Spec PyProof.Rows
noncomputable def L4 (K:PySem.W.Frag)(H:Hp)(a:Addr)(xs:List V):Prop:=
 Rd H a (.lst xs)∨
  ∃ (o:Obj) (its:Array Value) (n:Nat),K.lookup a=some o∧o.cls=.type "list"∧o.dict=none∧o.data=.seq its n∧its.size≤sizeLine∧Vals xs its.toList
noncomputable def V8 (K:PySem.W.Frag)(H:Hp)(a:Addr)(xs:List V):Prop:=
 Rd H a (.tup xs)∨
  ∃ (o:Obj) (its:Array Value) (n:Nat),K.lookup a=some o∧o.cls=.type "tuple"∧o.data=.seq its n∧its.size≤sizeLine∧Vals xs its.toList
noncomputable def b5z:Value→Option V
 | .none=>some .t6
 | .bool b=>some (.bl b)
 | .int i _=>some (.int i)
 | .str x _=>some (.str x)
 | .bytes b _=>some (.byt b)
 | .float b _=>some (.flt b)
 | .ref a=>some (.ref a)
 | .type n=>some (.ty n)
 | _=>none
theorem RelV.abs {x:V}{u:Value}(r:RelV x u):b5z u=some x:=by
 cases x with
 | t6=>cases r; rfl
 | bl _=>cases r; rfl
 | int _=>obtain ⟨t,rfl⟩:=r; rfl
 | str _=>obtain ⟨t,rfl⟩:=r; rfl
 | byt _=>obtain ⟨t,rfl⟩:=r; rfl
 | flt _=>obtain ⟨t,rfl⟩:=r; rfl
 | ref _=>cases r; rfl
 | ty _=>cases r; rfl
theorem RelV.inj {x y:V}{u:Value}(r:RelV x u)(q:RelV y u):x=y:=Option.some.inj (r.abs.symm.trans q.abs)
theorem Vals.inj:∀ {xs ys:List V} {us:List Value},Vals xs us→Vals ys us→xs=ys
 | _,_,_,.nil,.nil=>rfl
 | _,_,_,.cons r t,.cons r' t'=>by rw [r.inj r',Vals.inj t t']
section
variable {X:Cx}{pins:List (Addr×Obj)}{σ:St}{H:Hp}{s:Shared}{a:Addr}{xs ys:List V}
theorem L4.of {K:PySem.W.Frag}(h:H a=some (.lst xs)):L4 K H a xs:=.inl (.inl h)
theorem V8.of {K:PySem.W.Frag}(h:H a=some (.tup xs)):V8 K H a xs:=.inl (.inl h)
theorem Inv.list (I:Inv X pins σ H s)(h:L4 X.K H a xs):∃ its:List Value,Vals xs its∧PlainL s.heap a its.toArray∧xs.length≤sizeLine:=by
 rcases h with h | ⟨o,its,n,hk,hc,hd,hs,hz,r⟩
 ·obtain ⟨z,its,n,r,e⟩:=h.ok I.hok
  exact ⟨its,r,⟨_,n,e,rfl,rfl,rfl⟩,z⟩
 ·refine ⟨its.toList,r,⟨o,n,I.kIn a o hk,hc,hd,by simpa using hs⟩,?_⟩
  have e:=r.length
  simp only [Array.length_toList] at e
  omega
theorem Inv.tuple (I:Inv X pins σ H s)(h:V8 X.K H a xs):∃ its:List Value,Vals xs its∧IsTup s.heap a its.toArray∧xs.length≤sizeLine:=by
 rcases h with h | ⟨o,its,n,hk,hc,hs,hz,r⟩
 ·obtain ⟨z,its,r,p⟩:=h.ok I.hok
  exact ⟨its,r,p,z⟩
 ·refine ⟨its.toList,r,⟨o,I.kIn a o hk,hc,n,by simpa using hs⟩,?_⟩
  have e:=r.length
  simp only [Array.length_toList] at e
  omega
theorem Inv.a2w (I:Inv X pins σ H s)(h:L4 X.K H a xs)(h':L4 X.K H a ys):xs=ys:=by
 obtain ⟨its,r,⟨o,n,e,_,_,d⟩,_⟩:=I.list h
 obtain ⟨its',r',⟨o',n',e',_,_,d'⟩,_⟩:=I.list h'
 rw [e] at e'; cases e'
 rw [d] at d'
 injection d' with d1 _
 have:its=its':=by simpa using congrArg Array.toList d1
 subst this
 exact r.inj r'
theorem Inv.a1k (I:Inv X pins σ H s)(h:V8 X.K H a xs)(h':V8 X.K H a ys):xs=ys:=by
 obtain ⟨its,r,⟨o,e,_,n,d⟩,_⟩:=I.tuple h
 obtain ⟨its',r',⟨o',e',_,n',d'⟩,_⟩:=I.tuple h'
 rw [e] at e'; cases e'
 rw [d] at d'
 injection d' with d1 _
 have:its=its':=by simpa using congrArg Array.toList d1
 subst this
 exact r.inj r'
end
noncomputable abbrev Cx.t8 (X:Cx)(E:Value→Shared→Prop):Cx:={ X with xe:=E }
noncomputable abbrev Cx.nox (X:Cx):Cx:=X.t8 fun _ _=>False
theorem Cx.Ok.t8 {X:Cx}(ok:X.Ok)(E:Value→Shared→Prop):(X.t8 E).Ok:=
 ⟨ok.mod,ok.kind,ok.glob,ok.blt,ok.above,ok.inj,ok.has,ok.cab,ok.hd,ok.frames,ok.stk,ok.exf,ok.bs,ok.bsz,ok.noex,ok.exfs,ok.a0y,ok.frf⟩
theorem Cx.Ok.x6 {X:Cx}{E:Value→Shared→Prop}(ok:(X.t8 E).Ok):X.Ok:=
 ⟨ok.mod,ok.kind,ok.glob,ok.blt,ok.above,ok.inj,ok.has,ok.cab,ok.hd,ok.frames,ok.stk,ok.exf,ok.bs,ok.bsz,ok.noex,ok.exfs,ok.a0y,ok.frf⟩
section
variable {X:Cx}{pins:List (Addr×Obj)}{σ:St}{H:Hp}{s:Shared}{E:Value→Shared→Prop}
theorem Inv.t8 (I:Inv X pins σ H s)(E:Value→Shared→Prop):Inv (X.t8 E) pins σ H s:=⟨I.ok.t8 E,I.os,I.bare,I.base,I.loc,I.cell,I.free,I.freeC,I.pin,I.hok,I.len⟩
theorem Inv.x6 (I:Inv (X.t8 E) pins σ H s):Inv X pins σ H s:=⟨I.ok.x6,I.os,I.bare,I.base,I.loc,I.cell,I.free,I.freeC,I.pin,I.hok,I.len⟩
theorem SP.x6 {D:Ends}{f:Flow}{s':Shared}(h:SP (X.t8 E) pins D f s'):SP X pins D f s':=by
 cases f with
 | next=>obtain ⟨σ',H',I,q⟩:=h; exact ⟨σ',H',I.x6,q⟩
 | brk=>obtain ⟨σ',H',I,q⟩:=h; exact ⟨σ',H',I.x6,q⟩
 | cont=>obtain ⟨σ',H',I,q⟩:=h; exact ⟨σ',H',I.x6,q⟩
 | ret u=>obtain ⟨v,σ',H',I,r,q⟩:=h; exact ⟨v,σ',H',I.x6,r,q⟩
theorem PE.nox {e:Expr}{t:TE}(h:PE X.nox e t):PE X e t:=fun pins s σ H Q I hw=>
 wpAny_mono (h pins s σ H Q (I.t8 _) hw) (fun _ _ ⟨v,H',I',r,q⟩=>⟨v,H',I'.x6,r,q⟩) fun _ _ z=>False.elim z
theorem PT.nox {e:Expr}{t:TT}(h:PT X.nox e t):PT X e t:=fun pins s σ H Q I hw=>
 wpAny_mono (h pins s σ H Q (I.t8 _) hw) (fun _ _ ⟨H',I',q⟩=>⟨H',I'.x6,q⟩) fun _ _ z=>False.elim z
theorem PSs.nox {st:List Stmt}{t:TS}(h:PSs X.nox st t):PSs X st t:=fun pins s σ H D I hw=>
 wpAny_mono (h pins s σ H D (I.t8 _) hw) (fun _ _ q=>q.x6) fun _ _ z=>False.elim z
end
section
variable {X:Cx}{st:Stmt}{rest:List Stmt}{t u:TS}{e:Expr}{te:TE}{pos:Pos}
noncomputable def b43:TS:=fun D σ H=>D.nx σ H
noncomputable def b5M (t u:TS):TS:=fun D σ H=>t { D with nx:=u D } σ H
theorem b0O:PSs X [] b43:=fun _ _ σ H _ I h=>wpAny_execs_nil ⟨σ,H,I,h⟩
theorem a45 (h1:PS X st t)(h2:PSs X rest u):PSs X (st::rest) (b5M t u):=by
 intro pins s σ H D I h
 refine wpAny_execs_cons (C7 (h1 pins s σ H { D with nx:=u D } I h) fun f s1 q=>?_)
 cases f with
 | next=>
  obtain ⟨σ',H',I',q⟩:=q
  exact h2 pins s1 σ' H' D I' q
 | ret v=>exact q
 | brk=>exact q
 | cont=>exact q
theorem a4e (h1:PS X st t):PSs X [st] t:=by
 intro pins s σ H D I h
 refine wpAny_execs_cons (C7 (h1 pins s σ H D I h) fun f s1 q=>?_)
 cases f with
 | next=>exact wpAny_execs_nil q
 | ret v=>exact q
 | brk=>exact q
 | cont=>exact q
theorem Inv.quiet {pins:List (Addr×Obj)}{σ:St}{H:Hp}{s:Shared}(I:Inv X pins σ H s):interactive X.env=false:=by simp [interactive,I.ok.kind]
noncomputable def b4I (te:TE):TS:=fun D σ H=>te σ H fun _ H1=>D.nx σ H1
theorem a6v (he:PE X e te)(hs:swapsWith e none pos.line X.env=pure false:=by rfl):PS X (.Expr e pos) (b4I te):=by
 intro pins s σ H D I h
 exact wpAny_Expr_any (C7 (he pins s σ H _ I h) fun v s1 ⟨x,H1,I1,r1,q1⟩=>⟨σ,H1,I1,q1⟩) I.quiet hs
noncomputable def b5O (te:TE):TS:=fun D σ H=>te σ H D.rt
theorem b23 (he:PE X e te):PS X (.Return (some e) pos) (b5O te):=by
 intro pins s σ H D I h
 exact wpAny_Return_some (C7 (he pins s σ H _ I h) fun v s1 ⟨x,H1,I1,r1,q1⟩=>⟨x,σ,H1,I1,r1,q1⟩)
noncomputable def b5A (c:TT)(t u:TS):TS:=fun D σ H=>c σ H fun b H1=>if b=true then t D σ H1 else u D σ H1
theorem b4R {c:Expr}{a b:List Stmt}{tc:TT}(hc:PT X c tc)(ha:PSs X a t)(hb:PSs X b u):PS X (.If c a b pos) (b5A tc t u):=by
 intro pins s σ H D I h
 refine wpAny_If (C7 (hc pins s σ H _ I h) fun d s1 ⟨H1,I1,q1⟩=>?_)
 cases d with
 | true=>exact ha pins s1 σ H1 D I1 q1
 | false=>exact hb pins s1 σ H1 D I1 q1
end
noncomputable abbrev TG:=V→St→Hp→(St→Hp→Prop)→Prop
noncomputable def PG (X:Cx)(target:Expr)(t:TG):Prop:=
 ∀ (pins:List (Addr×Obj)) (s:Shared) (σ:St) (H:Hp) (v:V) (u:Value) (Q:St→Hp→Prop),Inv X pins σ H s→RelV v u→t v σ H Q→
  wpAny (model X.prog X.w) X.A (assign target X.env u) (fun _ s'=>∃ σ' H',Inv X pins σ' H' s'∧Q σ' H') X.xe s
noncomputable abbrev b4N:=V→V→V→Hp→(Hp→Prop)→Prop
noncomputable def b0T (X:Cx)(t:b4N):Prop:=
 ∀ (pins:List (Addr×Obj)) (s:Shared) (σ:St) (H:Hp) (o i v:V) (ov iv u:Value) (Q:Hp→Prop),Inv X pins σ H s→RelV o ov→RelV i iv→RelV v u→t o i v H Q→
  wpAny (model X.prog X.w) X.A (setItem ov iv u) (fun _ s'=>∃ H',Inv X pins σ H' s'∧Q H') X.xe s
section
variable {X:Cx}{pos:Pos}
noncomputable def a1p (i:Nat):TG:=fun v σ H Q=>Q (σ.set i (some v)) H
theorem a4h {i:Nat}{x:Str}(hN:X.N.Nodup)(hi:X.N[i]?=some x)(hx:Loc X.env.scope x)(hf:X.fn x=true∨X.env.scope.names.lookup x=some .local:=by first | exact .inl rfl | exact .inr rfl | assumption):PG X (.Name x pos) (a1p i):=by
 intro pins s σ H v u Q I r h
 exact wpAny_assign_Name (a0D I hN hi hx r (fun s' I'=>⟨_,H,I',h⟩) hf)
noncomputable def b3I (te:TE)(g:TG):TS:=fun D σ H=>te σ H fun x H1=>g x σ H1 D.nx
theorem a8B {i:Nat}{x:Str}{e:Expr}{te:TE}{pos':Pos}(hN:X.N.Nodup)(hi:X.N[i]?=some x)(hx:Loc X.env.scope x)(he:PE X e te)(hs:swapsWith e (some (.Name x pos')) pos.line X.env=pure false:=by rfl)(hf:X.fn x=true∨X.env.scope.names.lookup x=some .local:=by first | exact .inl rfl | exact .inr rfl | assumption):
  PS X (.Assign [.Name x pos'] e pos) (b3I te (a1p i)):=by
 intro pins s σ H D I h
 refine wpAny_Assign_Name (C7 (he pins s σ H _ I h) fun v s1 ⟨y,H1,I1,r1,q1⟩=>?_) hs
 exact a0D I1 hN hi hx r1 (fun s2 I2=>⟨_,H1,I2,q1⟩) hf
end
structure It where
 go:Nat→Hp→Prop
 yld:Nat→Hp→V→Hp→Prop
 stop:Nat→Hp→Prop
noncomputable def a2j (X:Cx)(pins:List (Addr×Obj))(H:Hp)(b:Addr):Prop:=
 H b=none∧b≠X.env.locals∧b∉X.fs∧(b∈X.ex∨X.s₀.heap.objs.size≤b)∧(∀ x c,X.env.cells.lookup x=some c→c≠b)∧∀ p∈X.pn++pins,p.1≠b
theorem Inv.b21 {X:Cx}{pins:List (Addr×Obj)}{σ:St}{H H':Hp}{s:Shared}{b:Addr}(I:Inv X pins σ H s)(hb:s.heap.objs.size≤b)(hn:H' b=none):a2j X pins H' b:=by
 refine ⟨hn,Nat.ne_of_gt (Nat.lt_of_lt_of_le I.lt hb),I.b3z hb,.inr (Nat.le_trans I.sz hb),fun x c e z=>?_,fun p hp z=>?_⟩
 ·obtain ⟨v,q⟩:=I.cell x c e
  exact absurd (Nat.lt_of_lt_of_le q.lt (by rw [z]; exact hb)) (Nat.lt_irrefl _)
 ·exact absurd (Nat.lt_of_lt_of_le (Heap.lt_size (I.pin p hp).1) (by rw [z]; exact hb)) (Nat.lt_irrefl _)
structure Turn (P:Program) (w:World) (K:PySem.W.Frag) (tg:Expr) (J:It) (fp:List Addr) (it:Addr) (tn:Nat→Heap→Prop):Prop where
 mem:it∈fp
 obj:∀ i h,tn i h→∀ b∈fp,∃ o,h.get? b=some o∧∀ v,o.data≠.cell v
 keep:∀ i h h',tn i h→(∀ b∈fp,∀ o,h.get? b=some o→h'.get? b=some o)→tn i h'
 item:∀ (X:Cx),X.prog=P→X.w=w→X.K=K→X.calm=true→∀ (i:Nat) (pins:List (Addr×Obj)) (s:Shared) (σ:St) (H:Hp) (E:Value→Shared→Prop),Inv X pins σ H s→(∀ b∈fp,a2j X pins H b)→tn i s.heap→J.go i H→
  wpAny (model P w) X.A (pyNext (.ref it)) (fun r s1=>∃ u,r=some u∧
   wpAny (model P w) X.A (letOwnedTupleGo tg (.ref it) u) (fun _ s2=>∃ x H',Inv X pins σ H' s2∧RelV x u∧J.yld i H x H'∧tn (i + 1) s2.heap∧∀ b∈fp,H' b=none) E s1) E s
 done:∀ (X:Cx),X.prog=P→X.w=w→X.K=K→X.calm=true→∀ (i:Nat) (pins:List (Addr×Obj)) (s:Shared) (σ:St) (H:Hp) (E:Value→Shared→Prop),Inv X pins σ H s→(∀ b∈fp,a2j X pins H b)→tn i s.heap→J.stop i H→
  wpAny (model P w) X.A (pyNext (.ref it)) (fun r s1=>r=none∧Inv X pins σ H s1) E s
 self:∀ (A:Around) (i:Nat) (s:Shared) (Q:Value→Shared→Prop) (E:Value→Shared→Prop),tn i s.heap→Q (.ref it) s→wpAny (model P w) A (pyIter (.ref it)) Q E s
noncomputable abbrev TI:=St→Hp→(It→Hp→Prop)→Prop
noncomputable def PIE (X:Cx)(pins:List (Addr×Obj))(σ:St)(tg:Expr)(R:It→Hp→Prop)(itv:Value)(s2:Shared):Prop:=
 ∃ (it:Addr) (fp:List Addr) (tn:Nat→Heap→Prop) (J:It) (H':Hp),itv=.ref it∧Inv X pins σ H' s2∧Turn X.prog X.w X.K tg J fp it tn∧tn 0 s2.heap∧(∀ b∈fp,a2j X pins H' b)∧R J H'
noncomputable def PI (X:Cx)(tg iter:Expr)(wi:TI):Prop:=
 ∀ (pins:List (Addr×Obj)) (s:Shared) (σ:St) (H:Hp) (R:It→Hp→Prop),Inv X pins σ H s→wi σ H R→
  wpAny (model X.prog X.w) X.A (eval iter X.env) (fun v s1=>wpAny (model X.prog X.w) X.A (pyIter v) (PIE X pins σ tg R) X.xe s1) X.xe s
theorem a5e {M:Model}{A:Around}{E:Value→Shared→Prop}{s:Shared}{tg:Expr}{it:Addr}{u:Value}{o:Obj}{n:String}{vs:Array Value}{Q:Unit→Shared→Prop}(ho:s.heap.get? it=some o)(hc:o.cls=.type n)(hd:o.data=.fields vs)
    (hn:["enumerate","zip","dict_itemiterator","dict_reverseitemiterator","odict_iterator","itertools.zip_longest","itertools.pairwise"].contains n=false) (hQ:Q () s):wpAny M A (letOwnedTupleGo tg (.ref it) u) Q E s:=by
  unfold letOwnedTupleGo
  cases tg <;> first
    | exact wpAny_pure hQ
    | (cases u <;> first
        | exact wpAny_pure hQ
        | (refine wpAny_bind (wpAny_load ho ?_)
           rw [hc,hd]
           show wpAny M A (if (["enumerate","zip","dict_itemiterator","dict_reverseitemiterator","odict_iterator","itertools.zip_longest","itertools.pairwise"].contains n && vs[0]? == some (rawInt _))=true then _ else _) Q E s
           rw [if_neg (by intro h; rw [hn,Bool.false_and] at h; cases h)]
           exact wpAny_pure hQ))
noncomputable def Itl (K:PySem.W.Frag)(a:Addr):It:=
 ⟨fun i H=>∃ xs x,L4 K H a xs∧xs[i]?=some x,fun i H x H'=>H'=H∧∀ xs,L4 K H a xs→xs[i]?=some x,fun i H=>∃ xs,L4 K H a xs∧xs.length≤i⟩
noncomputable def Itt (K:PySem.W.Frag)(a:Addr):It:=
 ⟨fun i H=>∃ xs x,V8 K H a xs∧xs[i]?=some x,fun i H x H'=>H'=H∧∀ xs,V8 K H a xs→xs[i]?=some x,fun i H=>∃ xs,V8 K H a xs∧xs.length≤i⟩
noncomputable def Itr (lo:Int)(n:Nat):It:=⟨fun i _=>i < n,fun i H x H'=>H'=H∧x=.int (lo + i),fun i _=>n≤i⟩
theorem a7D {P:Program}{w:World}{K:PySem.W.Frag}{tg:Expr}(a it:Addr):Turn P w K tg (Itl K a) [it] it (fun i h=>h.IsListIter it a i) where
 mem:=by simp
 obj:=fun i h st b hb=>by
  have e:b=it:=by simpa using hb
  subst e
  obtain ⟨o,e,c,d⟩:=st
  exact ⟨o,e,fun v z=>by rw [d] at z; cases z⟩
 keep:=fun i h h' st k=>st.at fun o e=>k it (by simp) o e
 item:=by
  intro X hP hw hK hc i pins s σ H E I hf st hg
  subst hP hw hK
  obtain ⟨xs,x,hq,hx⟩:=hg
  obtain ⟨its,rv,p,hz⟩:=I.list hq
  obtain ⟨u,hu,ru⟩:=rv.get hx
  obtain ⟨f0,f1,f2,f3,f4,f5⟩:=hf it (by simp)
  refine wpAny_pyNext_list_item st p.isList (x:=u) (by simpa using hu) fun h' st' sb=>?_
  have I1:Inv X pins σ H { s with heap:=h' }:=I.turned (t':=s.toks) (fun b o hb e=>(sb.2 b hb).trans e) f0 f1 f3 f4 f5
  obtain ⟨o,e,c,d⟩:=id st'
  exact ⟨u,rfl,a5e (s:={ s with heap:=h' }) e c d (by decide) ⟨x,H,I1,ru,⟨rfl,fun ys hy=>by rw [I.a2w hy hq]; exact hx⟩,st',fun b hb=>(hf b hb).1⟩⟩
 done:=by
  intro X hP hw hK hc i pins s σ H E I hf st hg
  subst hP hw hK
  obtain ⟨xs,hq,hx⟩:=hg
  obtain ⟨its,rv,p,hz⟩:=I.list hq
  obtain ⟨f0,f1,f2,f3,f4,f5⟩:=hf it (by simp)
  have hl:=rv.length
  exact wpAny_pyNext_list_end (I.ok.hd hc) st p.isList (by simp; omega) fun h' eb=>⟨rfl,I.turned (t':=s.toks) (fun b o hb e=>eb b o hb e) f0 f1 f3 f4 f5⟩
 self:=fun _ _ _ _ _ st h=>wpAny_pyIter_listiter st h
theorem a5U {P:Program}{w:World}{K:PySem.W.Frag}{tg:Expr}(a it:Addr):Turn P w K tg (Itt K a) [it] it (fun i h=>h.IsTupleIter it a i) where
 mem:=by simp
 obj:=fun i h st b hb=>by
  have e:b=it:=by simpa using hb
  subst e
  obtain ⟨o,e,c,d⟩:=st
  exact ⟨o,e,fun v z=>by rw [d] at z; cases z⟩
 keep:=fun i h h' st k=>st.at fun o e=>k it (by simp) o e
 item:=by
  intro X hP hw hK hc i pins s σ H E I hf st hg
  subst hP hw hK
  obtain ⟨xs,x,hq,hx⟩:=hg
  obtain ⟨its,rv,p,hz⟩:=I.tuple hq
  obtain ⟨u,hu,ru⟩:=rv.get hx
  obtain ⟨f0,f1,f2,f3,f4,f5⟩:=hf it (by simp)
  refine wpAny_pyNext_tuple_item st (show s.heap.IsTuple a its.toArray from p) (x:=u) (by simpa using hu) fun h' st' sb=>?_
  have I1:Inv X pins σ H { s with heap:=h' }:=I.turned (t':=s.toks) (fun b o hb e=>(sb.2 b hb).trans e) f0 f1 f3 f4 f5
  obtain ⟨o,e,c,d⟩:=id st'
  exact ⟨u,rfl,a5e (s:={ s with heap:=h' }) e c d (by decide) ⟨x,H,I1,ru,⟨rfl,fun ys hy=>by rw [I.a1k hy hq]; exact hx⟩,st',fun b hb=>(hf b hb).1⟩⟩
 done:=by
  intro X hP hw hK hc i pins s σ H E I hf st hg
  subst hP hw hK
  obtain ⟨xs,hq,hx⟩:=hg
  obtain ⟨its,rv,p,hz⟩:=I.tuple hq
  obtain ⟨f0,f1,f2,f3,f4,f5⟩:=hf it (by simp)
  have hl:=rv.length
  exact wpAny_pyNext_tuple_end (I.ok.hd hc) st (show s.heap.IsTuple a its.toArray from p) (by simp; omega) fun h' eb=>⟨rfl,I.turned (t':=s.toks) (fun b o hb e=>eb b o hb e) f0 f1 f3 f4 f5⟩
 self:=fun _ _ _ _ _ st h=>wpAny_pyIter_tupleiter st h
theorem a53 {P:Program}{w:World}{K:PySem.W.Frag}{tg:Expr}(it:Addr)(lo:Int)(n:Nat):Turn P w K tg (Itr lo n) [it] it (fun i h=>IsRangeIter h it (lo + (i:Nat) * 1) ((n:Int) - (i:Nat)) 1) where
 mem:=by simp
 obj:=fun i h st b hb=>by
  have e:b=it:=by simpa using hb
  subst e
  exact ⟨_,st,fun v z=>by
   have z':Data.fields _=Data.cell v:=z
   cases z'⟩
 keep:=fun i h h' st k=>k it (by simp) _ st
 item:=by
  intro X hP hw hK hc i pins s σ H E I hf st hg
  subst hP hw hK
  obtain ⟨f0,f1,f2,f3,f4,f5⟩:=hf it (by simp)
  have W:=Walks.range (prog:=X.prog) (w:=X.w) (I.ok.hd hc) it lo 1 n
  refine W.item i s _ _ hg st fun v h' tk hv st' kk=>?_
  obtain ⟨t,rfl⟩:=hv
  have I1:Inv X pins σ H { s with heap:=h',toks:=tk }:=I.turned (fun b o hb e=>kk b o (by simpa using hb) e) f0 f1 f3 f4 f5
  refine ⟨_,rfl,a5e (s:={ s with heap:=h',toks:=tk }) (n:="range_iterator") st' rfl rfl (by decide) ⟨.int (lo + i),H,I1,⟨t,?_⟩,⟨rfl,rfl⟩,st',fun b hb=>(hf b hb).1⟩⟩
  rw [Int.mul_one]
 done:=by
  intro X hP hw hK hc i pins s σ H E I hf st hg
  subst hP hw hK
  obtain ⟨f0,f1,f2,f3,f4,f5⟩:=hf it (by simp)
  exact wpAny_pyNext_range_end (I.ok.hd hc) st (by have:n≤i:=hg; omega) fun h' eb=>⟨rfl,I.turned (t':=s.toks) (fun b o hb e=>eb b o hb e) f0 f1 f3 f4 f5⟩
 self:=fun _ _ _ _ _ st h=>wpAny_pyIter_rangeiter st h
end L2
namespace L2
open PySem PySem.Spec PyProof.Rows
section
variable {X:Cx}{tg:Expr}
theorem a8J {pins:List (Addr×Obj)}{σ:St}{H:Hp}{s:Shared}{R:It→Hp→Prop}{E:Value→Shared→Prop}{lo hi:Int}{t u v:Tok}{tk:Nat}(I:Inv X pins σ H s)(h1:-(2 ^ 62)≤lo)(h2:lo < 2 ^ 62)(h3:-(2 ^ 62)≤hi)(h4:hi < 2 ^ 62)
  (q:R (Itr lo (hi - lo).toNat) H):wpAny (model X.prog X.w) X.A (pyIter (.ref s.heap.objs.size)) (PIE X pins σ tg R) E { s with heap:=s.heap.push { cls:=.type "range",data:=.fields #[.int lo t,.int hi u,.int 1 v] },toks:=tk }:=by
 refine wpAny_pyIter_range (IsRange.new ..) (small_one h1 h2 h3 h4) ?_
 have I1:Inv X pins σ H { s with heap:=s.heap.push { cls:=.type "range",data:=.fields #[.int lo t,.int hi u,.int 1 v] },toks:=tk }:=I.kept fun b o e=>Heap.get?_push_of_some _ e
 refine ⟨(s.heap.push { cls:=.type "range",data:=.fields #[.int lo t,.int hi u,.int 1 v] }).objs.size,[(s.heap.push { cls:=.type "range",data:=.fields #[.int lo t,.int hi u,.int 1 v] }).objs.size],_,_,H,rfl,
  I1.kept (t':=tk) fun b o e=>Heap.get?_push_of_some _ e,a53 _ lo (hi - lo).toNat,?_,fun b hb=>?_,q⟩
 ·have e1:lo + ((0:Nat):Int) * 1=lo:=by simp
  have e2:(((hi - lo).toNat:Nat):Int) - ((0:Nat):Int)=Builtin.Range.rangeSize lo hi 1:=by rw [rangeSize_one]; split <;> omega
  show IsRangeIter _ _ (lo + ((0:Nat):Int) * 1) ((((hi - lo).toNat:Nat):Int) - ((0:Nat):Int)) 1
  rw [e1,e2]
  exact Heap.get?_push_size _ rfl
 ·have e:b=(s.heap.push { cls:=.type "range",data:=.fields #[.int lo t,.int hi u,.int 1 v] }).objs.size:=by simpa using hb
  subst e
  exact I1.b21 (Nat.le_refl _) (I1.hok.fresh (Nat.le_refl _))
noncomputable def b37 (ta:TA):TI:=fun σ H R=>ta σ H fun vs H1=>∃ j:Int,vs=[.int j]∧-(2 ^ 62)≤j∧j < 2 ^ 62∧R (Itr 0 j.toNat) H1
theorem a8d {a:Expr}{ta:TA}{p pos:Pos}(hg:Gl X "range") (hm:X.mg "range"=none) (ha:PA X [a] ta) (hs:starEach [a] X.env=[(false,eval a X.env)]:=by rfl):PI X tg (.Call (.Name "range" p) [a] [] pos) (b37 ta):=by
 intro pins s σ H R I h
 refine Call_ (a3X I hg hm boot_range (PyProof.Rows.callWith_type1 (C7 (ha pos pins s σ H _ I h) fun us s1 ⟨vs,H1,I1,r1,q1⟩=>?_) hs rfl))
 obtain ⟨j,e,q1,q2,q⟩:=q1
 subst e
 cases r1 with
 | cons r rr=>
  cases rr
  obtain ⟨t,rfl⟩:=r
  exact call_range_1 (a8J I1 (by omega) (by omega) q1 q2 (by simpa using q))
noncomputable def b5F (wi:TI)(g:TG)(tb:TS):TS:=fun D σ H=>wi σ H fun J H1=>∃ W:Nat→Nat→St→Hp→Prop,(∃ m,W 0 m σ H1)∧∀ i m σ H,W i m σ H→
 (J.stop i H∧D.nx σ H)∨(J.go i H∧∃ N:St→Hp→Prop,(∀ σ' H',N σ' H'→∃ m',m' < m∧W (i + 1) m' σ' H')∧∀ x H',J.yld i H x H'→g x σ H' fun σ2 H2=>tb { D with nx:=N,ct:=N,bk:=D.nx } σ2 H2)
noncomputable def a19 (fp:List Addr)(h:Heap):List (Addr×Obj):=fp.filterMap fun b=>(h.get? b).map fun o=>(b,o)
theorem U7 {fp:List Addr}{h:Heap}{b:Addr}{o:Obj}(hb:b∈fp)(e:h.get? b=some o):(b,o)∈a19 fp h:=List.mem_filterMap.mpr ⟨b,hb,by rw [e]; rfl⟩
theorem a7G {fp:List Addr}{h:Heap}{p:Addr×Obj}(hp:p∈a19 fp h):p.1∈fp∧h.get? p.1=some p.2:=by
 obtain ⟨b,hb,e⟩:=List.mem_filterMap.mp hp
 cases q:h.get? b with
 | none=>rw [q] at e; cases e
 | some o=>
  rw [q] at e
  have e':(b,o)=p:=Option.some.inj e
  subst e'
  exact ⟨hb,q⟩
theorem Inv.pinned {pins:List (Addr×Obj)}{σ:St}{H:Hp}{s:Shared}{fp:List Addr}(I:Inv X pins σ H s)(hf:∀ b∈fp,a2j X pins H b)(ho:∀ b∈fp,∃ o,s.heap.get? b=some o∧∀ v,o.data≠.cell v):Inv X (pins++a19 fp s.heap) σ H s:=
 I.M8 fun p hp=>(List.mem_append.mp hp).elim (fun z=>I.pin p (List.mem_append_right _ z)) fun z=>by
  obtain ⟨hb,e⟩:=a7G z
  obtain ⟨f0,f1,f2,_⟩:=hf p.1 hb
  obtain ⟨o,e',d⟩:=ho p.1 hb
  rw [e] at e'; cases e'
  exact ⟨e,f0,f1,f2,d⟩
theorem Inv.a0A {pins pl:List (Addr×Obj)}{σ:St}{H:Hp}{s:Shared}(I:Inv X (pins++pl) σ H s):Inv X pins σ H s:=I.M8 fun p hp=>I.pin p (List.mem_append_right _ (List.mem_append_left _ hp))
theorem b3E {iter:Expr}{body:List Stmt}{wi:TI}{g:TG}{tb:TS}{pos:Pos}(hp:PassesOwn (model X.prog X.w) X.A X.env X.xe)(hc:X.calm=true)(hi:PI X tg iter wi)(hg:PG X tg g)(hb:PSs X body tb)
  (hs:∀ x,foldedSetIterable iter X.env x=pure x:=by intro _; rfl):PS X (.For tg iter body [] pos) (b5F wi g tb):=by
 intro pins s σ H D I h
 refine wpAny_For (C7 (hi pins s σ H _ I h) fun v s1 h1=>C7 h1 fun itv s2 h2=>?_) hs
 obtain ⟨it,fp,tn,J,H2,e,I2,T,st2,f2,W,⟨m0,w0⟩,turn⟩:=h2
 subst e
 
 have stat:∀ {H':Hp},(∀ b∈fp,H' b=none)→∀ b∈fp,a2j X pins H' b:=fun hn b hb=>⟨hn b hb,(f2 b hb).2⟩
 refine codeAny_forLoop_any (fun n s'=>∃ i σ' H',Inv X pins σ' H' s'∧tn i s'.heap∧(∀ b∈fp,H' b=none)∧W i n σ' H') ?_ m0 ⟨0,σ,H2,I2,st2,fun b hb=>(f2 b hb).1,w0⟩
 rintro n s3 ⟨i,σ3,H3,I3,st3,fr3,w3⟩
 rcases turn i n σ3 H3 w3 with ⟨stop,qn⟩ | ⟨go,N,hN,step⟩
 ·refine wpAny_passesOwn hp (C7 (T.done X rfl rfl rfl hc i pins s3 σ3 H3 X.xe I3 (stat fr3) st3 stop) fun r s4 ⟨hr,I4⟩=>?_)
  subst hr
  exact wpAny_execs_nil ⟨σ3,H3,I4,qn⟩
 ·refine wpAny_passesOwn hp (C7 (T.item X rfl rfl rfl hc i pins s3 σ3 H3 X.xe I3 (stat fr3) st3 go) fun r s4 ⟨u,hr,h4⟩=>?_)
  subst hr
  refine wpAny_passesOwn hp (C7 h4 fun _ s5 ⟨x,H5,I5,r5,y5,st5,fr5⟩=>?_)
  have I5':=I5.pinned (stat fr5) (T.obj _ _ st5)
  refine wpAny_passesOwn hp (C7 (hg _ s5 σ3 H5 x u _ I5' r5 (step x H5 y5)) fun _ s6 ⟨σ6,H6,I6,q6⟩=>?_)
  refine wpAny_passesOwn hp (C7 (hb _ s6 σ6 H6 _ I6 q6) fun f s7 q7=>?_)
  have again:∀ {σ7:St} {H7:Hp},Inv X (pins++a19 fp s5.heap) σ7 H7 s7→N σ7 H7→∃ m,m < n∧∃ i σ' H',Inv X pins σ' H' s7∧tn i s7.heap∧(∀ b∈fp,H' b=none)∧W i m σ' H':=fun {σ7 H7} I7 n7=>by
   obtain ⟨m',hm,w7⟩:=hN σ7 H7 n7
   refine ⟨m',hm,i + 1,σ7,H7,I7.a0A,T.keep _ _ _ st5 fun b hb o e=>(I7.pin (b,o) (List.mem_append_right _ (List.mem_append_right _ (U7 hb e)))).1,fun b hb=>?_,w7⟩
   obtain ⟨o,e,d⟩:=T.obj _ _ st5 b hb
   exact (I7.pin (b,o) (List.mem_append_right _ (List.mem_append_right _ (U7 hb e)))).2.1
  cases f with
  | next=>obtain ⟨σ7,H7,I7,n7⟩:=q7; exact again I7 n7
  | cont=>obtain ⟨σ7,H7,I7,n7⟩:=q7; exact again I7 n7
  | brk=>obtain ⟨σ7,H7,I7,q7⟩:=q7; exact ⟨σ7,H7,I7.a0A,q7⟩
  | ret v=>obtain ⟨x7,σ7,H7,I7,r7,q7⟩:=q7; exact ⟨x7,σ7,H7,I7.a0A,r7,q7⟩
end
end L2
namespace L2
open PySem PySem.Spec PyProof.Rows
noncomputable abbrev R2:=V→V→Hp→VK→Prop
noncomputable def Z4 (X:Cx)(f:Value→Value→Sem Value)(r:R2):Prop:=
 ∀ (pins:List (Addr×Obj)) (s:Shared) (σ:St) (H:Hp) (x y:V) (v u:Value) (Q:VK),Inv X pins σ H s→RelV x v→RelV y u→r x y H Q→
  wpAny (model X.prog X.w) X.A (f v u) (EP X pins σ Q) X.xe s
noncomputable def UnR (X:Cx)(f:Value→Sem Value)(r:V→Hp→VK→Prop):Prop:=
 ∀ (pins:List (Addr×Obj)) (s:Shared) (σ:St) (H:Hp) (x:V) (v:Value) (Q:VK),Inv X pins σ H s→RelV x v→r x H Q→
  wpAny (model X.prog X.w) X.A (f v) (EP X pins σ Q) X.xe s
noncomputable def D4 (X:Cx)(f:Value)(r:List V→Hp→VK→Prop):Prop:=
 ∀ (pins:List (Addr×Obj)) (s:Shared) (σ:St) (H:Hp) (xs:List V) (us:List Value) (Q:VK),Inv X pins σ H s→Vals xs us→r xs H Q→
  wpAny (model X.prog X.w) X.A (call f us) (EP X pins σ Q) X.xe s
noncomputable def b5h (X:Cx)(r:V→Hp→(Bool→Hp→Prop)→Prop):Prop:=
 ∀ (pins:List (Addr×Obj)) (s:Shared) (σ:St) (H:Hp) (x:V) (v:Value) (Q:Bool→Hp→Prop),Inv X pins σ H s→RelV x v→r x H Q→
  wpAny (model X.prog X.w) X.A (truthy v) (TP X pins σ Q) X.xe s
noncomputable def tOp (r:R2)(ta tb:TE):TE:=fun σ H Q=>ta σ H fun x H1=>tb σ H1 fun y H2=>r x y H2 Q
noncomputable def tUn (r:V→Hp→VK→Prop)(ta:TE):TE:=fun σ H Q=>ta σ H fun x H1=>r x H1 Q
noncomputable def rI (C:Int→Int→Prop)(g:Int→Int→V):R2:=fun x y H Q=>∃ i j,x=.int i∧y=.int j∧C i j∧Q (g i j) H
noncomputable def rI0 (g:Int→Int→V):R2:=fun x y H Q=>∃ i j,x=.int i∧y=.int j∧Q (g i j) H
noncomputable def rU (g:Int→V):V→Hp→VK→Prop:=fun x H Q=>∃ i,x=.int i∧Q (g i) H
section
variable {X:Cx}{a b c:Expr}{ta tb tc:TE}{pos:Pos}
theorem b3v (ha:PE X a ta)(hb:PE X b tb){pins:List (Addr×Obj)}{s:Shared}{σ:St}{H:Hp}{R:V→V→Hp→Prop}(I:Inv X pins σ H s)
  (h:ta σ H fun x H1=>tb σ H1 fun y H2=>R x y H2) {Q:Value→Shared→Prop} {f:Value→Value→Sem Value}
  (hf:∀ v u s2 x y H2,Inv X pins σ H2 s2→RelV x v→RelV y u→R x y H2→wpAny (model X.prog X.w) X.A (f v u) Q X.xe s2):
  wpAny (model X.prog X.w) X.A (eval a X.env) (fun v s₁=>wpAny (model X.prog X.w) X.A (eval b X.env) (fun u s₂=>wpAny (model X.prog X.w) X.A (f v u) Q X.xe s₂) X.xe s₁) X.xe s:=by
 refine C7 (ha pins s σ H _ I h) fun v s1 ⟨x,H1,I1,r1,q1⟩=>?_
 refine C7 (hb pins s1 σ H1 _ I1 q1) fun u s2 ⟨y,H2,I2,r2,q2⟩=>?_
 exact hf v u s2 x y H2 I2 r1 r2 q2
theorem b4c {op:Operator}{r:R2}(ho:Z4 X (binaryOp op) r)(ha:PE X a ta)(hb:PE X b tb):PE X (.BinOp a op b pos) (tOp r ta tb):=by
 intro pins s σ H Q I h
 exact wpAny_BinOp (b3v ha hb I h fun v u s2 x y H2 I2 rx ry q=>ho pins s2 σ H2 x y v u Q I2 rx ry q)
theorem b4Y {op:UnaryOp}{r:V→Hp→VK→Prop}(ho:UnR X (unaryOp op) r)(ha:PE X a ta):PE X (.UnaryOp op a pos) (tUn r ta):=by
 intro pins s σ H Q I h
 exact UnaryOp_ (C7 (ha pins s σ H _ I h) fun v s1 ⟨x,H1,I1,r1,q1⟩=>ho pins s1 σ H1 x v Q I1 r1 q1)
theorem opI {f:Value→Value→Sem Value}{C:Int→Int→Prop}{g:Int→Int→Int}
  (rule:∀ (i j:Int) (t u:Tok) (s:Shared) (Q:Value→Shared→Prop) (E:Value→Shared→Prop),C i j→Q (.int (g i j) s.toks) { s with toks:=s.toks + 1 }→wpAny (model X.prog X.w) X.A (f (.int i t) (.int j u)) Q E s):
  Z4 X f (rI C fun i j=>.int (g i j)):=by
 intro pins s σ H x y v u Q I rx ry h
 obtain ⟨i,j,rfl,rfl,hc,q⟩:=h
 obtain ⟨t,rfl⟩:=rx
 obtain ⟨t',rfl⟩:=ry
 exact rule i j t t' s _ _ hc ⟨.int (g i j),H,I.tok _,⟨_,rfl⟩,q⟩
theorem b4E {f:Value→Value→Sem Value}{g:Int→Int→Int}
  (rule:∀ (i j:Int) (t u:Tok) (s:Shared) (Q:Value→Shared→Prop) (E:Value→Shared→Prop),Q (.int (g i j) s.toks) { s with toks:=s.toks + 1 }→wpAny (model X.prog X.w) X.A (f (.int i t) (.int j u)) Q E s):
  Z4 X f (rI0 fun i j=>.int (g i j)):=by
 intro pins s σ H x y v u Q I rx ry h
 obtain ⟨i,j,rfl,rfl,q⟩:=h
 obtain ⟨t,rfl⟩:=rx
 obtain ⟨t',rfl⟩:=ry
 exact rule i j t t' s _ _ ⟨.int (g i j),H,I.tok _,⟨_,rfl⟩,q⟩
theorem b4O {f:Value→Value→Sem Value}{g:Int→Int→Bool}
  (rule:∀ (i j:Int) (t u:Tok) (s:Shared) (Q:Value→Shared→Prop) (E:Value→Shared→Prop),Q (.bool (g i j)) s→wpAny (model X.prog X.w) X.A (f (.int i t) (.int j u)) Q E s):
  Z4 X f (rI0 fun i j=>.bl (g i j)):=by
 intro pins s σ H x y v u Q I rx ry h
 obtain ⟨i,j,rfl,rfl,q⟩:=h
 obtain ⟨t,rfl⟩:=rx
 obtain ⟨t',rfl⟩:=ry
 exact rule i j t t' s _ _ ⟨.bl (g i j),H,I,rfl,q⟩
noncomputable def a7v (i j:Int):Prop:=0 < j∧j < 1073741824
noncomputable def b4A (i j:Int):Prop:=0≤j∧j≤1000000∧i.natAbs < 2 ^ 64
noncomputable def a4Q (i j:Int):Prop:=(-(2 ^ 64) < i∧i < 2 ^ 64)∨(-(2 ^ 64) < j∧j < 2 ^ 64)
theorem a4Q.ok {i j:Int}(h:a4Q i j):IntMulOk i j:=by
 rcases h with ⟨h1,h2⟩ | ⟨h1,h2⟩
 ·exact .of_left (intBits_le_64 h1 h2)
 ·exact .of_right (intBits_le_64 h1 h2)
theorem b2P:Z4 X (binaryOp .Add) (rI0 fun i j=>.int (i + j)):=b4E fun _ _ _ _ _ _ _ q=>add_int q
theorem b2r:Z4 X (binaryOp .Sub) (rI0 fun i j=>.int (i - j)):=b4E fun _ _ _ _ _ _ _ q=>sub_int q
theorem b3C:Z4 X (binaryOp .Mult) (rI a4Q fun i j=>.int (i * j)):=opI fun _ _ _ _ _ _ _ hc q=>mul_int q hc.ok
theorem b1p:Z4 X (binaryOp .FloorDiv) (rI a7v fun i j=>.int (i / j)):=opI fun i j _ _ _ _ _ hc q=>by
 have h1:(0:Int) < j:=hc.1
 have h2:j < 1073741824:=hc.2
 exact floordiv_int (by omega) (by rw [Int.fdiv_eq_ediv_of_nonneg i (by omega)]; exact q) (.inl (PyProof.noPylong_small (by omega)))
theorem b25:Z4 X (binaryOp .Mod) (rI (fun _ j=>0 < j) fun i j=>.int (i % j)):=opI fun i j _ _ _ _ _ hc q=>by
 have h1:(0:Int) < j:=hc
 exact mod_int' (by omega) (by rw [Int.fmod_eq_emod_of_nonneg i (by omega)]; exact q)
theorem unI {f:Value→Sem Value}{g:Int→Int}
  (rule:∀ (i:Int) (t:Tok) (s:Shared) (Q:Value→Shared→Prop) (E:Value→Shared→Prop),Q (.int (g i) s.toks) { s with toks:=s.toks + 1 }→wpAny (model X.prog X.w) X.A (f (.int i t)) Q E s):
  UnR X f (rU fun i=>.int (g i)):=by
 intro pins s σ H x v Q I rx h
 obtain ⟨i,rfl,q⟩:=h
 obtain ⟨t,rfl⟩:=rx
 exact rule i t s _ _ ⟨.int (g i),H,I.tok _,⟨_,rfl⟩,q⟩
theorem b2x:UnR X (unaryOp .USub) (rU fun i=>.int (-i)):=unI fun _ _ _ _ _ q=>neg_int q
end
section
variable {X:Cx}{a b c:Expr}{ta tb tc:TE}{pos:Pos}
theorem a0q {pins:List (Addr×Obj)}{σ:St}{H:Hp}{s:Shared}{Q:VK}{k k':Bool}(I:Inv X pins σ H s)(q:Q (.bl k) H)(e:k=k'):EP X pins σ Q (.bool k') s:=by
 subst e
 exact ⟨.bl k,H,I,rfl,q⟩
theorem a6z:Z4 X (compareOp .LtE) (rI0 fun i j=>.bl (decide (i≤j))):=b4O fun _ _ _ _ _ _ _ q=>le_int q
theorem b4H:Z4 X (compareOp .Gt) (rI0 fun i j=>.bl (decide (j < i))):=b4O fun _ _ _ _ _ _ _ q=>gt_int q
theorem a7I:Z4 X (compareOp .In) (fun x y H Q=>∃ i j,x=.str i∧y=.str j∧Q (.bl (!(Builtin.Str.occurrences j i 0 j.length 1).isEmpty)) H):=by
 intro pins s σ H x y v u Q I rx ry h
 obtain ⟨i,j,rfl,rfl,q⟩:=h
 obtain ⟨t,rfl⟩:=rx
 obtain ⟨t',rfl⟩:=ry
 exact in_str (a0q I q rfl)
theorem Z4.or {f:Value→Value→Sem Value}{r r':R2}(h:Z4 X f r)(h':Z4 X f r'):Z4 X f (fun x y H Q=>r x y H Q∨r' x y H Q):=by
 intro pins s σ H x y v u Q I rx ry q
 rcases q with q | q
 ·exact h pins s σ H x y v u Q I rx ry q
 ·exact h' pins s σ H x y v u Q I rx ry q
theorem a4m (b:Expr){op:CmpOp}(h:op≠.In:=by decide)(h2:op≠.NotIn:=by decide):behindInMarks op b=false:=by
 have e1:(op == CmpOp.In)=false:=by cases op <;> first | rfl | exact absurd rfl h
 have e2:(op == CmpOp.NotIn)=false:=by cases op <;> first | rfl | exact absurd rfl h2
 cases b <;> simp [behindInMarks,e1,e2]
theorem b1C {op:CmpOp}{r:R2}(ho:Z4 X (compareOp op) r)(ha:PE X a ta)(hb:PE X b tb)(hm:behindInMarks op b=false):PE X (.Compare a [op] [b] pos) (tOp r ta tb):=by
 intro pins s σ H Q I h
 exact wpAny_Compare1 (b3v ha hb I h fun v u s2 x y H2 I2 rx ry q=>ho pins s2 σ H2 x y v u Q I2 rx ry q) hm
noncomputable def b4o (t:TE):TT:=fun σ H Q=>t σ H fun x H'=>∃ k,x=.bl k∧Q k H'
theorem b1P {op:CmpOp}{r:R2}(ho:Z4 X (compareOp op) r)(ha:PE X a ta)(hb:PE X b tb)(hm:behindInMarks op b=false):PT X (.Compare a [op] [b] pos) (b4o (tOp r ta tb)):=by
 intro pins s σ H Q I h
 refine wpAny_isTrue_Compare1 (C7 (ha pins s σ H _ I h) fun v s1 ⟨x,H1,I1,r1,q1⟩=>C7 (hb pins s1 σ H1 _ I1 q1) fun u s2 ⟨y,H2,I2,r2,q2⟩=>
  C7 (ho pins s2 σ H2 x y v u _ I2 r1 r2 q2) fun c s3 ⟨z,H3,I3,r3,k,e,q3⟩=>?_) hm
 subst e
 cases r3
 exact wpAny_truthy_bool ⟨H3,I3,q3⟩
noncomputable def a8v (r r':R2)(ta tb tc:TE):TE:=fun σ H Q=>ta σ H fun x H1=>tb σ H1 fun y H2=>r x y H2 fun z H3=>∃ k,z=.bl k∧
 (if k=true then tc σ H3 fun w' H4=>r' y w' H4 Q else Q (.bl false) H3)
theorem a8Z {op op':CmpOp}{r r':R2}(ho:Z4 X (compareOp op) r)(ho':Z4 X (compareOp op') r')(ha:PE X a ta)(hb:PE X b tb)(hc:PE X c tc)
  (hm:lastMarks [op,op'] [b,c]=false:=by with_unfolding_all rfl):PE X (.Compare a [op,op'] [b,c] pos) (a8v r r' ta tb tc):=by
 intro pins s σ H Q I h
 refine Compare_chain (C7 (ha pins s σ H _ I h) fun v s1 ⟨x,H1,I1,r1,q1⟩=>chain_link (C7 (hb pins s1 σ H1 _ I1 q1) fun u s2 ⟨y,H2,I2,r2,q2⟩=>
  C7 (ho pins s2 σ H2 x y v u _ I2 r1 r2 q2) fun d s3 ⟨z,H3,I3,r3,k,e,q3⟩=>?_)) hm
 subst e
 cases r3
 refine wpAny_truthy_bool ?_
 cases k with
 | false=>exact ite_ff ⟨.bl false,H3,I3,rfl,q3⟩
 | true=>exact ite_tt (chain_last (C7 (hc pins s3 σ H3 _ I3 q3) fun w' s4 ⟨z',H4,I4,r4,q4⟩=>ho' pins s4 σ H4 y z' u w' Q I4 r2 r4 q4))
noncomputable def b1a (K:PySem.W.Frag)(x:V)(H:Hp)(k:Bool):Prop:=
 match x with
 | .t6=>k=false
 | .bl b=>k=b
 | .int i=>k=(i != 0)
 | .str y=>y.length≤sizeLine∧k=((y.length:Int) != 0)
 | .byt y=>y.size≤sizeLine∧k=((y.size:Int) != 0)
 | .ref p=>(∃ xs,L4 K H p xs∧k=!xs.isEmpty)∨(∃ xs,V8 K H p xs∧k=!xs.isEmpty)∨∃ kvs,H p=some (.dK kvs)∧k=!kvs.isEmpty
 | _=>False
theorem a6e {κ:Type}{kvs:List (κ×V)}{vs:List (κ×Value)}(r:KV kvs vs):(!vs.isEmpty)=!kvs.isEmpty:=by
 cases r <;> rfl
theorem a2b {xs:List V}{its:List Value}(r:Vals xs its):(!its.toArray.isEmpty)=!xs.isEmpty:=by
 cases r <;> simp
theorem a1i:(sizeLine:Nat) < 2 ^ 63:=by rw [sizeLine_eq]; decide
theorem b2U:b5h X (fun x H Q=>∃ k,b1a X.K x H k∧Q k H):=by
 intro pins s σ H x v Q I rx h
 obtain ⟨k,e,q⟩:=h
 have hl:=a1i
 have hs:sizeLine=16777216:=sizeLine_eq
 cases x with
 | t6=>
  cases rx
  have e':k=false:=e
  subst e'
  exact truthy_none ⟨H,I,q⟩
 | bl b=>
  cases rx
  have e':k=b:=e
  subst e'
  exact wpAny_truthy_bool ⟨H,I,q⟩
 | int i=>
  obtain ⟨t,rfl⟩:=rx
  have e':k=(i != 0):=e
  subst e'
  exact PySem.P.truthy_int ⟨H,I,q⟩
 | str y=>
  obtain ⟨t,rfl⟩:=rx
  obtain ⟨hy,e'⟩:y.length≤sizeLine∧k=((y.length:Int) != 0):=e
  subst e'
  exact PySem.P.truthy_str (by omega) ⟨H,I.tok _,q⟩
 | byt y=>
  obtain ⟨t,rfl⟩:=rx
  obtain ⟨hy,e'⟩:y.size≤sizeLine∧k=((y.size:Int) != 0):=e
  subst e'
  exact PySem.W.truthy_bytes (by omega) ⟨H,I.tok _,q⟩
 | ref p=>
  cases rx
  have e':(∃ xs,L4 X.K H p xs∧k=!xs.isEmpty)∨(∃ xs,V8 X.K H p xs∧k=!xs.isEmpty)∨∃ kvs,H p=some (.dK kvs)∧k=!kvs.isEmpty:=e
  rcases e' with ⟨xs,hx,e'⟩ | ⟨xs,hx,e'⟩ | ⟨kvs,hx,e'⟩
  ·subst e'
   obtain ⟨its,r,pl,hz⟩:=I.list hx
   have hlen:=r.length
   exact wpAny_truthy_list pl.isList (by simp only [List.size_toArray]; omega) ⟨H,I.tok _,by rw [a2b r]; exact q⟩
  ·subst e'
   obtain ⟨its,r,pl,hz⟩:=I.tuple hx
   have hlen:=r.length
   exact truthy_tuple pl (by simp only [List.size_toArray]; omega) ⟨H,I.tok _,by rw [a2b r]; exact q⟩
  ·subst e'
   obtain ⟨hz,hS,vs,r,m⟩:kvs.length≤sizeLine∧(p == sysModules)=false∧∃ vs,KV kvs vs∧s.heap.DictOf (B8 X.prog X.w) p vs:=I.hok p _ hx
   have hlen:kvs.length=vs.length:=Paired.length r
   exact wpAny_truthy_dict hS m (by omega) ⟨H,I.tok _,by rw [a6e r]; exact q⟩
 | _=>exact (show False from e).elim
theorem a94 (ha:PE X a ta)(he:∀ whole,isTrue a X.env whole=(do let v ← whole; standAt a.pos; holding [v] (truthy v))):
  PT X a (fun σ H Q=>ta σ H fun x H'=>∃ k,b1a X.K x H' k∧Q k H'):=by
 intro pins s σ H Q I h
 exact isTrue_plain (C7 (ha pins s σ H _ I h) fun v s1 ⟨x,H1,I1,r1,q1⟩=>b2U pins s1 σ H1 x v Q I1 r1 q1) (he _)
theorem a5K:Z4 X (binaryOp .Add) (fun x y H Q=>∃ i j,x=.str i∧y=.str j∧i.length + j.length≤sizeLine∧Q (.str (i++j)) H):=by
 intro pins s σ H x y v u Q I rx ry h
 obtain ⟨i,j,rfl,rfl,hz,q⟩:=h
 obtain ⟨t,rfl⟩:=rx
 obtain ⟨t',rfl⟩:=ry
 exact add_str (fun t' tk=>⟨.str (i++j),H,I.tok _,⟨_,rfl⟩,q⟩) hz
theorem vals1 {x:V}{us:List Value}(r:Vals [x] us):∃ u,us=[u]∧RelV x u:=by
 cases r with
 | cons r1 r2=>cases r2; exact ⟨_,rfl,r1⟩
theorem vals2 {x y:V}{us:List Value}(r:Vals [x,y] us):∃ u w',us=[u,w']∧RelV x u∧RelV y w':=by
 cases r with
 | cons r1 r2=>
  cases r2 with
  | cons r3 r4=>cases r4; exact ⟨_,_,rfl,r1,r3⟩
theorem a9u:D4 X (.builtin "abs") (fun xs H Q=>∃ i,xs=[.int i]∧Q (.int (if i < 0 then -i else i)) H):=by
 intro pins s σ H xs us Q I r h
 obtain ⟨i,rfl,q⟩:=h
 obtain ⟨u,rfl,t,rfl⟩:=vals1 r
 exact call_abs_int fun u tk=>⟨.int (if i < 0 then -i else i),H,I.tok _,⟨_,rfl⟩,q⟩
theorem a7x:D4 X (.type "int") (fun xs H Q=>(∃ i,xs=[.int i]∧Q (.int i) H)∨∃ k,xs=[.bl k]∧Q (.int (if k then 1 else 0)) H):=by
 intro pins s σ H xs us Q I r h
 rcases h with ⟨i,rfl,q⟩ | ⟨k,rfl,q⟩
 ·obtain ⟨u,rfl,t,rfl⟩:=vals1 r
  exact call_int_int ⟨.int i,H,I,⟨_,rfl⟩,q⟩
 ·obtain ⟨u,rfl,r1⟩:=vals1 r
  cases r1
  exact call_int_bool ⟨.int (if k then 1 else 0),H,I.tok _,⟨_,rfl⟩,q⟩
theorem a4j:D4 X (.type "str") (fun xs H Q=>∃ i,xs=[.int i]∧i.natAbs.log2 < 1920∧Q (.str (toString i)) H):=by
 intro pins s σ H xs us Q I r h
 obtain ⟨i,rfl,hz,q⟩:=h
 obtain ⟨u,rfl,t,rfl⟩:=vals1 r
 exact PySem.P.str_of_int hz ⟨.str _,H,I.tok _,⟨_,rfl⟩,q⟩
end
end L2
namespace L2
open PySem PySem.Spec PyProof.Rows
theorem W6.some_of {v:V}{o:Option Value}(r:W6 (some v) o):∃ u,o=some u∧RelV v u:=by
 cases o with
 | none=>exact (show False from r).elim
 | some u=>exact ⟨u,rfl,r⟩
theorem W6.none_of {o:Option Value}(r:W6 none o):o=none:=by
 cases o with
 | none=>rfl
 | some u=>exact (show False from r).elim
theorem a79 {v:V}{u:Value}(r:RelV v u):PySem.W.handedIn u=true:=by
 cases v with
 | t6=>cases (show u=Value.none from r); rfl
 | bl b=>cases (show u=Value.bool b from r); rfl
 | int i=>obtain ⟨t,e⟩:=(show ∃ t,u=Value.int i t from r); cases e; rfl
 | str x=>obtain ⟨t,e⟩:=(show ∃ t,u=Value.str x t from r); cases e; rfl
 | byt b=>obtain ⟨t,e⟩:=(show ∃ t,u=Value.bytes b t from r); cases e; rfl
 | flt b=>obtain ⟨t,e⟩:=(show ∃ t,u=Value.float b t from r); cases e; rfl
 | ref a=>cases (show u=Value.ref a from r); rfl
 | ty n=>cases (show u=Value.type n from r); rfl
structure Cls (K:PySem.W.Frag) (C:Addr):Prop where
 pg:PySem.W.plainGet K C Str.empty=true
 hd:PySem.W.hasDictIn K C=true
 po:PySem.W.plainOver K C=true
 sa:PySem.W.findIn K (.ref C) "__setattr__"=some (some (.builtin "object.__setattr__"))
theorem Cls.get {K:PySem.W.Frag}{C:Addr}(c:Cls K C)(f:Str):PySem.W.plainGet K C f=true:=c.pg
structure Meth (K:PySem.W.Frag) (C:Addr) (m:Str) (f:Addr):Prop where
 at_:PySem.W.findIn K (.ref C) m=some (some (.ref f))
 fn:PySem.W.isFn K (.ref f)=true
 kp:PySem.W.keepIn K (.ref f)=true
section
variable {X:Cx}{pins:List (Addr×Obj)}{σ:St}{H:Hp}{s:Shared}{a C dx:Addr}{fs:List (Str×V)}{f:Str}{v:V}{A:Around}{E:Value→Shared→Prop}
theorem b1M {prog:Program}{w:World}{env:Env}{e:Expr}{f:Str}{pos:Pos}{s:Shared}{Q:Value→Shared→Prop}(hb:attributeBase e f env (eval e env)=eval e env)
  (h:wpAny (model prog w) A (eval e env) (fun o s₁=>wpAny (model prog w) A (getAttr o f true) Q E s₁) E s):wpAny (model prog w) A (eval (.Attribute e f pos) env) Q E s:=
 Attribute_any_ h (by rw [arm_eval_Attribute,hb])
end
end L2
namespace L2
open PySem PySem.Spec PyProof.Rows
structure C4 (k:Nat) (A:Around):Prop where
 hd:A.handled=none
 dp:A.depth + 3 * k + 5 < recursionLimit
 un:A.units + 16 * k + 200 < cLine
theorem C4.mono {j k:Nat}{A:Around}(r:C4 k A)(h:j≤k):C4 j A:=⟨r.hd,by have:=r.dp; omega,by have:=r.un; omega⟩
theorem C4.deeper {k:Nat}{A:Around}(r:C4 (k + 1) A)(env:Env):C4 k (A.deeper env):=
 ⟨r.hd,by have:=r.dp; show A.depth + 1 + 3 * k + 5 < _; omega,by have:=r.un; show A.units + 3 + 16 * k + 200 < _; omega⟩
theorem C4.in1 {k:Nat}{A:Around}(r:C4 (k + 1) A):C4 k A.in1:=
 ⟨r.hd,by have:=r.dp; show A.depth + 3 * k + 5 < _; omega,by have:=r.un; show A.units + 1 + 16 * k + 200 < _; omega⟩
theorem a50 {A:Around}{C:Addr}{us:List Value}{kw:List (Str×Value)}:(A.under (.builtin "type.__call__" ⟨.ref C::us,kw⟩)).depth=A.depth + 1:=by
 first | rfl | simp [Around.under,Code.weight,Code.isCreation,Code.isGuard,Code.isCaller,Code.frames,Code.isFrame,guardIds]
theorem a5W {A:Around}{C:Addr}{us:List Value}{kw:List (Str×Value)}:(A.under (.builtin "type.__call__" ⟨.ref C::us,kw⟩)).units=A.units + 1:=by
 first | rfl | simp [Around.under,Code.cUnits,Code.frames,Code.isFrame]
theorem C4.make {k:Nat}{A:Around}(r:C4 (k + 1) A)(C:Addr)(us:List Value)(kw:List (Str×Value)):C4 k (A.under (.builtin "type.__call__" ⟨.ref C::us,kw⟩)):=
 ⟨r.hd,by have:=r.dp; rw [a50]; omega,by have:=r.un; rw [a5W]; omega⟩
theorem C4.depth {k:Nat}{A:Around}(r:C4 k A):A.depth < recursionLimit:=by have:=r.dp; omega
theorem C4.units {k:Nat}{A:Around}(r:C4 k A):A.units + 64 < cLine:=by have:=r.un; omega
noncomputable def b5o:TA:=fun _ H Q=>Q [] H
noncomputable def b4W (ta:TE)(tr:TA):TA:=fun σ H Q=>ta σ H fun x H1=>tr σ H1 fun xs H2=>Q (x::xs) H2
section
variable {X:Cx}{e:Expr}{es:List Expr}{te:TE}{t:TA}{pos:Pos}
theorem a3Y:PA X [] b5o:=fun _ _ _ _ H Q I h=>Calls.spliced_nil ⟨[],H,I,.nil,h⟩
theorem U1 (ha:PE X e te)(hr:PA X es t)(hs:starEach (e::es) X.env=(false,eval e X.env)::starEach es X.env:=by rfl):PA X (e::es) (b4W te t):=by
 intro pos pins s σ H Q I h
 rw [hs]
 show wpAny _ _ (spliced ((false,eval e X.env)::backTo pos (starEach es X.env))) _ _ s
 refine Calls.spliced_cons (C7 (ha pins s σ H _ I h) fun u s1 ⟨x,H1,I1,r1,q1⟩=>?_)
 exact C7 (hr pos pins s1 σ H1 _ I1 q1) fun us s2 ⟨xs,H2,I2,r2,q2⟩=>⟨x::xs,H2,I2,.cons r1 r2,q2⟩
noncomputable def b5l (t:TA):TE:=fun σ H Q=>t σ H fun xs H1=>xs.length≤sizeLine∧∀ p,H1 p=none→Q (.ref p) (upd H1 p (.tup xs))
noncomputable def b5p (t:TA):TE:=fun σ H Q=>t σ H fun xs H1=>xs.length≤sizeLine∧∀ p,H1 p=none→Q (.ref p) (upd H1 p (.lst xs))
theorem b3o {x1}(h:PA X es t):PE X (.Tuple es x1 pos) (b5l t):=by
 intro pins s σ H Q I hq
 refine wpAny_Tuple_spliced (C7 (h pos pins s σ H _ I hq) fun us s1 ⟨xs,H1,I1,r,z,q⟩=>⟨by rw [← r.length]; exact z,?_⟩)
 have hf:H1 s1.heap.objs.size=none:=I1.hok.fresh (Nat.le_refl _)
 refine ⟨.ref s1.heap.objs.size,upd H1 s1.heap.objs.size (.tup xs),I1.laid (t':=s1.toks) (fun b u e=>Heap.get?_push_of_some _ e) (Nat.le_refl _) ?_,rfl,q _ hf⟩
 exact ⟨z,us,r,⟨_,Heap.get?_push_size _ rfl,rfl,_,rfl⟩⟩
theorem b3h (h:PA X es t):PE X (.List es pos) (b5p t):=by
 intro pins s σ H Q I hq
 refine wpAny_List_spliced (C7 (h pos pins s σ H _ I hq) fun us s1 ⟨xs,H1,I1,r,z,q⟩=>⟨by rw [← r.length]; exact z,?_⟩)
 have hf:H1 s1.heap.objs.size=none:=I1.hok.fresh (Nat.le_refl _)
 refine ⟨.ref s1.heap.objs.size,upd H1 s1.heap.objs.size (.lst xs),I1.laid (t':=s1.toks) (fun b u e=>Heap.get?_push_of_some _ e) (Nat.le_refl _) ?_,rfl,q _ hf⟩
 exact ⟨z,us,0,r,Heap.get?_push_size _ rfl⟩
end
noncomputable abbrev Sp:=List V→Hp→VK→XK→Prop
noncomputable abbrev CXT:=List Env→Hp→Shared→XK→Value→Shared→Prop
structure a20 (P:Program) (w:World) (K:PySem.W.Frag) (mg:Str→Option Value) (base:Heap) (A:Around) (outer:List Env) (s:Shared) (H:Hp):Prop where
 frames:A.frames=some outer
 mod:Mod K mg base
 bs:∀ b o,base.get? b=some o→s.heap.get? b=some o∧H b=none
 bsz:base.objs.size≤s.heap.objs.size
 a0y:s.heap.FunFrames base outer
 frf:∀ b∈frs outer,H b=none
 hok:HOk P w H s.heap
 bare:AllBare s.gens
noncomputable def CE (outer:List Env)(P:Program)(w:World)(H:Hp)(s:Shared)(Q:VK)(u:Value)(s':Shared):Prop:=
 ∃ v H',s'.os=s.os∧AllBare s'.gens∧Un (frs outer) [] H H' s.heap s'.heap∧HOk P w H' s'.heap∧RelV v u∧Q v H'
noncomputable def CR (CX:CXT)(outer:List Env)(P:Program)(w:World)(H:Hp)(s:Shared)(Q:VK)(E:XK)(r:Result)(s':Shared):Prop:=
 match r with
 | .ok (.ret u)=>CE outer P w H s Q u s'
 | .ok _=>False
 | .error e=>CX outer H s E e s'
structure A0 (P:Program) (w:World) (K:PySem.W.Frag) (mg:Str→Option Value) (base:Heap) (CX:CXT) (k:Nat) (f:Addr) (fd:FuncData) (ps:List Str) (sp:Sp):Prop where
 len:∀ vs H Q E,sp vs H Q E→vs.length=ps.length
 run:∀ (A:Around) (outer:List Env) (s:Shared) (H:Hp) (args:Args) (us:List Value) (vs:List V) (Q:VK) (E:XK),C4 k A→a20 P w K mg base A outer s H→BindsTo s fd args (ps.zip us)→Vals vs us→sp vs H Q E→
  codeAny (model P w) A (.call (.ref f) args) (CR CX outer P w H s Q E) s
theorem A0.mono {P:Program}{w:World}{K:PySem.W.Frag}{mg:Str→Option Value}{base:Heap}{CX:CXT}{j k:Nat}{f:Addr}{fd:FuncData}{ps:List Str}{sp:Sp}(F:A0 P w K mg base CX j f fd ps sp)(h:j≤k):
  A0 P w K mg base CX k f fd ps sp:=⟨F.len,fun A outer s H args us vs Q E hr=>F.run A outer s H args us vs Q E (hr.mono h)⟩
theorem A0.imp {P:Program}{w:World}{K:PySem.W.Frag}{mg:Str→Option Value}{base:Heap}{CX:CXT}{k:Nat}{f:Addr}{fd:FuncData}{ps:List Str}{sp sp':Sp}(F:A0 P w K mg base CX k f fd ps sp)
  (h:∀ vs H Q E,sp' vs H Q E→sp vs H Q E):A0 P w K mg base CX k f fd ps sp':=
 ⟨fun vs H Q E q=>F.len vs H Q E (h _ _ _ _ q),fun A outer s H args us vs Q E hr he hb hv hs=>F.run A outer s H args us vs Q E hr he hb hv (h _ _ _ _ hs)⟩
theorem a20.make {P:Program}{w:World}{K:PySem.W.Frag}{mg:Str→Option Value}{base:Heap}{A:Around}{outer:List Env}{s:Shared}{H:Hp}(e:a20 P w K mg base A outer s H)(C:Addr)(us:List Value)(kw:List (Str×Value)):
  a20 P w K mg base (A.under (.builtin "type.__call__" ⟨.ref C::us,kw⟩)) outer s H:=⟨by first | exact e.frames | (simpa [Around.under,Code.envs,Code.isFrame,pushEnvs] using e.frames),e.mod,e.bs,e.bsz,e.a0y,e.frf,e.hok,e.bare⟩
theorem a20.in1 {P:Program}{w:World}{K:PySem.W.Frag}{mg:Str→Option Value}{base:Heap}{A:Around}{outer:List Env}{s:Shared}{H:Hp}(e:a20 P w K mg base A outer s H):
  a20 P w K mg base A.in1 outer s H:=⟨e.frames,e.mod,e.bs,e.bsz,e.a0y,e.frf,e.hok,e.bare⟩
section
variable {X:Cx}{pins:List (Addr×Obj)}{σ:St}{H:Hp}{s s':Shared}
theorem Inv.b2C (I:Inv X pins σ H s):a20 X.prog X.w X.K X.mg X.base X.A X.stack s H:=
 ⟨I.ok.frames,I.ok.mod,I.bs,Nat.le_trans I.ok.bsz I.sz,I.stack,I.a6B,I.hok,I.bare⟩
theorem Inv.after {Q:VK}{u:Value}(I:Inv X pins σ H s)(h:CE X.stack X.prog X.w H s Q u s'):EP X pins σ Q u s':=by
 obtain ⟨v,H',os,bare,un,hok,r,q⟩:=h
 obtain ⟨hh,g,d,t,os'⟩:=s'
 obtain rfl:os'=s.os:=os
 exact ⟨v,H',I.call (h':=hh) (g':=g) (d':=d) (t':=t) (ch:=[]) un hok bare (fun b z=>absurd z (by simp)),r,q⟩
end
noncomputable def a8X (sp:Sp)(dvs:List V)(E:XK)(t:TA):TE:=fun σ H Q=>t σ H fun vs H1=>sp (vs++dvs) H1 Q E
noncomputable def Binds (K:PySem.W.Frag)(fd:FuncData)(ps:List Str)(ds:List Value):Prop:=
 ∀ (s:Shared) (us:List Value),K.In s.heap→(us++ds).length=ps.length→BindsTo s fd ⟨us,[]⟩ (ps.zip (us++ds))
theorem Binds.all {K:PySem.W.Frag}{fd:FuncData}{ps:List Str}(h:∀ us:List Value,us.length=ps.length→bindArgs fd ⟨us,[]⟩=pure (ps.zip us)):Binds K fd ps []:=fun s us _ hl=>by
 rw [List.append_nil] at hl ⊢
 exact .of_eq (h us hl)
noncomputable def Passes (CX:CXT)(X:Cx)(E:XK):Prop:=∀ (pins:List (Addr×Obj)) (σ:St) (H:Hp) (s:Shared) (e:Value) (s':Shared),Inv X pins σ H s→CX X.stack H s E e s'→X.xe e s'
section
variable {X:Cx}{CX:CXT}{k:Nat}{f C:Addr}{fd:FuncData}{ps:List Str}{sp:Sp}{dvs:List V}{ds:List Value}{E:XK}{x m:Str}{p pos apos:Pos}{e o:Expr}{es:List Expr}{ta:TE}{t:TA}
theorem b3k {pins:List (Addr×Obj)}{σ:St}{H:Hp}{s:Shared}{Q:VK}{us:List Value}{vs:List V}(F:A0 X.prog X.w X.K X.mg X.base CX k f fd ps sp)(hr:C4 k X.A)(hb:Binds X.K fd ps ds)(hd:Vals dvs ds)(hx:Passes CX X E)
  (I:Inv X pins σ H s) (r:Vals vs us) (h:sp (vs++dvs) H Q E):wpAny (model X.prog X.w) X.A (call (.ref f) us) (EP X pins σ Q) X.xe s:=by
 have r2:Vals (vs++dvs) (us++ds):=r.append hd
 have hl:(us++ds).length=ps.length:=by rw [← r2.length]; exact F.len _ _ _ _ h
 refine wpAny_call (codeAny_mono (F.run X.A X.stack s H ⟨us,[]⟩ (us++ds) (vs++dvs) Q E hr I.b2C (hb s us I.kIn hl) r2 h) fun r s' hq=>?_)
 cases r with
 | error e=>exact hx pins σ H s e s' I hq
 | ok fl=>
  cases fl with
  | ret u=>exact I.after hq
  | next=>exact False.elim hq
  | brk=>exact False.elim hq
  | cont=>exact False.elim hq
theorem b0m (F:A0 X.prog X.w X.K X.mg X.base CX k f fd ps sp)(hr:C4 k X.A)(hg:Gl X x)(hm:X.mg x=some (.ref f))(hk:PySem.W.keepIn X.K (.ref f)=true)(hb:Binds X.K fd ps ds)(hd:Vals dvs ds)(hx:Passes CX X E)
  (ha:PA X (e::es) t) (hdb:(x == ("__debug__":Str))=false:=by decide) (he:starEach (e::es) X.env=(false,eval e X.env)::starEach es X.env:=by rfl) (hpl:(backTo pos (starEach es X.env)).any (·.1)=false:=by rfl):
  PE X (.Call (.Name x p) (e::es) [] pos) (a8X sp dvs E t):=by
 intro pins s σ H Q I h
 refine wpAny_Call_Name_kw (Z8 I hg hm ?_ hdb)
 refine PySem.W.callWith_K (h₀:=X.base) I.ok.mod.kin hk (C7 (ha pos pins s σ H _ I h) fun us s1 ⟨vs,H1,I1,r,q⟩=>⟨I1.kIn,?_⟩) he hpl
 exact b3k F hr hb hd hx I1 r q
end
structure n8 (N P:List Str) (sc:Scope):Prop where
 kind:sc.kind=.function
 co:sc.isCoroutine=false
 gen:sc.isGenerator=false
 nd:N.Nodup
 pre:N.take P.length=P
 par:∀ x∈P,sc.names.lookup x=some .local∨sc.names.lookup x=some .cell
 nofree:∀ y∈sc.names,y.2≠.free
theorem a3R {kindOf:Str→Option NameKind}{x:Str}:∀ {binds:List (Str×Value)} {m:Str→Option Value},(∀ v,(x,v)∉binds)→bindL kindOf binds m x=m x
 | [],_,_=>rfl
 | (n,v)::r,m,h=>by
  unfold bindL
  rw [a3R fun w hw=>h w (List.mem_cons_of_mem _ hw)]
  split
  ·have:x≠n:=by rintro rfl; exact h v List.mem_cons_self
   simp [this]
  ·rfl
theorem a3K {kindOf:Str→Option NameKind}{x:Str}:∀ {binds:List (Str×Value)} {m:Str→Option Value},(∀ v,(x,v)∉binds)→bindC kindOf binds m x=m x
 | [],_,_=>rfl
 | (n,v)::r,m,h=>by
  unfold bindC
  rw [a3K fun w hw=>h w (List.mem_cons_of_mem _ hw)]
  split
  ·rfl
  ·have:x≠n:=by rintro rfl; exact h v List.mem_cons_self
   simp [this]
theorem a3v {kindOf:Str→Option NameKind}{x:Str}{v:Value}:∀ {P:List Str} {vs:List Value} {i:Nat} {m:Str→Option Value},P.Nodup→P[i]?=some x→vs[i]?=some v→kindOf x=some .local→
  bindL kindOf (P.zip vs) m x=some v
 | [],_,_,_,_,h,_,_=>by simp at h
 | _::_,[],_,_,_,_,h,_=>by simp at h
 | p::P,w::vs,0,m,nd,h1,h2,hk=>by
  simp at h1 h2; subst h1; subst h2
  show bindL kindOf ((p,w)::P.zip vs) m p=_
  unfold bindL
  rw [a3R fun v hv=>(List.nodup_cons.mp nd).1 (List.of_mem_zip hv).1,if_pos hk]
  simp
 | p::P,w::vs,i + 1,m,nd,h1,h2,hk=>by
  show bindL kindOf ((p,w)::P.zip vs) m x=_
  unfold bindL
  exact a3v (i:=i) (List.nodup_cons.mp nd).2 (by simpa using h1) (by simpa using h2) hk
theorem a3E {kindOf:Str→Option NameKind}{x:Str}{v:Value}:∀ {P:List Str} {vs:List Value} {i:Nat} {m:Str→Option Value},P.Nodup→P[i]?=some x→vs[i]?=some v→kindOf x≠some .local→
  bindC kindOf (P.zip vs) m x=some v
 | [],_,_,_,_,h,_,_=>by simp at h
 | _::_,[],_,_,_,_,h,_=>by simp at h
 | p::P,w::vs,0,m,nd,h1,h2,hk=>by
  simp at h1 h2; subst h1; subst h2
  show bindC kindOf ((p,w)::P.zip vs) m p=_
  unfold bindC
  rw [a3K fun v hv=>(List.nodup_cons.mp nd).1 (List.of_mem_zip hv).1,if_neg hk]
  simp
 | p::P,w::vs,i + 1,m,nd,h1,h2,hk=>by
  show bindC kindOf ((p,w)::P.zip vs) m x=_
  unfold bindC
  exact a3E (i:=i) (List.nodup_cons.mp nd).2 (by simpa using h1) (by simpa using h2) hk
noncomputable def start (N:List Str)(vs:List V):St:=vs.map some++List.replicate (N.length - vs.length) none
noncomputable def N4 (CX:CXT)(P:Program)(w:World)(K:PySem.W.Frag)(mg:Str→Option Value)(base:Heap)(N:List Str)(qual:Str)(scope:Scope)(f:Addr)(cd:Value)(A:Around)(outer:List Env)(s:Shared)(H:Hp)(E:XK):Cx where
 prog:=P
 w:=w
 K:=K
 mg:=mg
 base:=base
 A:=A.deeper (envOfC qual scope s.heap.objs.size f cd)
 N:=N
 s₀:=s
 H₀:=H
 env:=envOfC qual scope s.heap.objs.size f cd
 outer:=outer
 stack:=envOfC qual scope s.heap.objs.size f cd::outer
 ex:=[]
 calm:=true
 fn:=fun _=>true
 pn:=[]
 xe:=fun e s'=>wpAny (model P w) (A.deeper (envOfC qual scope s.heap.objs.size f cd)) (leaving (envOfC qual scope s.heap.objs.size f cd) e) (fun _ s''=>CX outer H s E e s'') (fun e' s''=>CX outer H s E e' s'') s'
theorem a5d {sc:Scope}{n:Nat}{x:Str}(h:sc.names.lookup x=some .cell):∃ c,(cellsFrom n sc.names []).lookup x=some c:=by
 have q:=PySem.W.cellsFrom_some sc.names n [] (.inl h)
 exact Option.isSome_iff_exists.mp q
theorem a3A {CX:CXT}{P:Program}{w:World}{K:PySem.W.Frag}{mg:Str→Option Value}{base:Heap}{N ps:List Str}{qual:Str}{scope:Scope}{f:Addr}{cd:Value}{A:Around}{outer:List Env}{s s1:Shared}{H:Hp}{E:XK}{us:List Value}{vs:List V}
  (S:n8 N ps scope) (hd:A.handled=none) (e0:a20 P w K mg base A outer s H) (hl:vs.length=ps.length) (r:Vals vs us)
  (x:InCallC s s.heap.objs.size (bindL (envOfC qual scope s.heap.objs.size f cd).kindOf (ps.zip us) fun _=>none) (cellsFrom (s.heap.objs.size + 1) scope.names []) (bindC (envOfC qual scope s.heap.objs.size f cd).kindOf (ps.zip us) fun _=>none) s1):
  Inv (N4 CX P w K mg base N qual scope f cd A outer s H E) [] (start N vs) H s1:=by
 have hpl:ps.length≤N.length:=by have:=congrArg List.length S.pre; rw [List.length_take] at this; omega
 obtain ⟨h1,tk,rfl,hk⟩:=x.done
 have noA:∀ b:Addr,b∉(N4 CX P w K mg base N qual scope f cd A outer s H E).ex:=fun b z=>absurd (show b∈([]:List Addr) from z) (by simp)
 refine ⟨⟨e0.mod,S.kind,rfl,rfl,Nat.le_refl _,fun y z c h1 h2=>?_,fun y hy=>?_,fun y c _ h=>?_,fun _=>hd,Around.frames_deeper e0.frames,.inr ⟨rfl,rfl⟩,fun b z=>absurd z (noA b),e0.bs,e0.bsz,fun b _ _=>noA b,fun b z=>absurd z (noA b),e0.a0y,e0.frf⟩,
  rfl,e0.bare,Un.kept hk,⟨_,x.toInCall.ns,fun i y v h1 h2 h3=>?_⟩,fun y c h=>⟨_,x.cell y c h⟩,e0.hok.fresh (Nat.le_refl _),fun y c h=>?_,fun p hp=>absurd (show p∈([]:List (Addr×Obj)) from hp) (by simp),e0.hok.kept hk,?_⟩
 ·exact name_of_addr x.apart (PySem.mem_of_lookup h1) (PySem.mem_of_lookup h2)
 ·have hy:scope.names.lookup y=some .cell∨scope.names.lookup y=some .free:=hy
  rcases hy with hy | hy
  ·exact a5d hy
  ·exact absurd rfl (S.nofree _ (PySem.mem_of_lookup hy))
 ·exact Nat.le_of_lt (x.above y c (PySem.mem_of_lookup h))
 ·have hi:i < vs.length:=by
   unfold start at h2
   by_cases hi:i < vs.length
   ·exact hi
   ·rw [List.getElem?_append_right (by simpa using hi)] at h2
    rw [List.getElem?_replicate] at h2
    split at h2 <;> cases h2
  have ha:vs[i]?=some v:=by
   unfold start at h2
   rw [List.getElem?_append_left (by simpa using hi),List.getElem?_map] at h2
   cases e:vs[i]? with
   | none=>rw [e] at h2; cases h2
   | some a=>rw [e] at h2; cases h2; rfl
  obtain ⟨u,hu,rv⟩:=r.get ha
  have hp:ps[i]?=some y:=by
   rw [← S.pre,List.getElem?_take_of_lt (by omega)]; exact h1
  have ndP:ps.Nodup:=by rw [← S.pre]; exact S.nd.sublist (List.take_sublist _ _)
  refine ⟨u,rv,?_⟩
  rcases S.par y (List.mem_of_getElem? hp) with k | k
  ·exact .inl ⟨k,a3v ndP hp hu k⟩
  ·obtain ⟨c,e⟩:=a5d (n:=s.heap.objs.size + 1) k
   refine .inr ⟨.inl k,c,e,?_⟩
   have q:=x.cell y c e
   rw [a3E ndP hp hu (by show scope.names.lookup y≠_; rw [k]; decide)] at q
   exact q
 ·exact e0.hok.fresh (Nat.le_of_lt (x.above y c (PySem.mem_of_lookup h)))
 ·unfold start
  show _=N.length
  rw [List.length_append,List.length_map,List.length_replicate]
  omega
theorem b15 {CX:CXT}{P:Program}{w:World}{K:PySem.W.Frag}{mg:Str→Option Value}{base:Heap}{k:Nat}{f:Addr}{name qual:Str}{params:Arguments}{body:List Stmt}{scope:Scope}{dV kV doc pm cdv ct oc:Value}{an od:Option Addr}
  {osl:Array (Option Value)} {N ps:List Str} {sp:Sp} (lk:K.lookup f=some ⟨oc,od,.func (PySem.W.fnOf name qual params body scope dV kV doc pm an cdv ct),osl⟩) (hcd:PySem.W.codeIn K cdv qual=true) (S:n8 N ps scope)
  (len:∀ vs H Q E,sp vs H Q E→vs.length=ps.length)
  (hbody:∀ (A:Around) (outer:List Env) (s:Shared) (H:Hp) (vs:List V) (Q:VK) (E:XK),C4 k (A.deeper (envOfC qual scope s.heap.objs.size f cdv))→sp vs H Q E→
   ∃ t,PSs (N4 CX P w K mg base N qual scope f cdv A outer s H E) body t∧t { nx:=fun _ H'=>Q .t6 H',rt:=Q } (start N vs) H):
  A0 P w K mg base CX (k + 1) f (PySem.W.fnOf name qual params body scope dV kV doc pm an cdv ct) ps sp:=by
 refine ⟨len,fun A outer s H args us vs Q E hr e0 hb r hsp=>?_⟩
 have hl:=len _ _ _ _ hsp
 have KX:K.In s.heap:=e0.mod.kin.keeps fun b o e=>(e0.bs b o e).1
 have lim:s.heap.NoLimit:=e0.mod.nolimit.keeps fun b o e=>(e0.bs b o e).1
 have hkind:∀ y∈ps.zip us,scope.names.lookup y.1=some .local∨(scope.names.lookup y.1=some .cell∧((cellsFrom (s.heap.objs.size + 1) scope.names []).lookup y.1).isSome=true):=fun ⟨n,v⟩ hy=>by
  rcases S.par n (List.of_mem_zip hy).1 with q | q
  ·exact .inl q
  ·exact .inr ⟨q,PySem.W.cellsFrom_some _ _ _ (.inl q)⟩
 refine codeAny_call_function hr.depth (KX _ _ lk) rfl S.co S.gen rfl (PySem.W.codeRec_of KX hcd) (hb _ _ _ _ ?_)
 refine wpAny_newFunctionEnv_cells S.kind hkind fun env he s1 x=>?_
 subst he
 refine ⟨lim.keeps x.toInCall.keep,codeAny_func ?_⟩
 obtain ⟨t,ht,hq⟩:=hbody A outer s H vs Q E (hr.deeper _) hsp
 have I:Inv (N4 CX P w K mg base N qual scope f cdv A outer s H E) [] (start N vs) H s1:=a3A S hr.hd e0 hl r x
 refine wpAny_mono (ht [] s1 (start N vs) H _ I hq) (fun fl s' hs=>?_) fun e s' hs=>hs
 have fin:∀ {σ':St} {H':Hp} {v:V} {u:Value},Inv (N4 CX P w K mg base N qual scope f cdv A outer s H E) [] σ' H' s'→RelV v u→Q v H'→CE outer P w H s Q u s':=
  fun {σ' H' v u} J rv q=>⟨v,H',J.os,J.bare,J.base,J.hok,rv,q⟩
 cases fl with
 | ret u=>
  obtain ⟨v,σ',H',J,rv,q⟩:=hs
  exact fin J rv q
 | next=>
  obtain ⟨σ',H',J,q⟩:=hs
  exact fin (v:=V.t6) (u:=Value.none) J rfl q
 | brk=>
  obtain ⟨_,_,_,q⟩:=hs
  exact False.elim q
 | cont=>
  obtain ⟨_,_,_,q⟩:=hs
  exact False.elim q
end L2
namespace L2
open PySem PySem.Spec PyProof.Rows
section
variable {X:Cx}{x:Str}{p pos:Pos}{e:Expr}{es:List Expr}{t:TA}{id T:String}{r:List V→Hp→VK→Prop}
noncomputable def tCB (r:List V→Hp→VK→Prop)(t:TA):TE:=fun σ H Q=>t σ H fun vs H1=>r vs H1 Q
theorem a2m (hc:D4 X (.builtin id) r)(hg:Gl X x)(hm:X.mg x=none)(hv:bootBuiltins x=some (.builtin id))(ha:PA X (e::es) t)(hn:x≠"__name__":=by decide) (hdb:(x == ("__debug__":Str))=false:=by decide)
  (he:starEach (e::es) X.env=(false,eval e X.env)::starEach es X.env:=by rfl) (hpl:(backTo pos (starEach es X.env)).any (·.1)=false:=by rfl):PE X (.Call (.Name x p) (e::es) [] pos) (tCB r t):=by
 intro pins s σ H Q I h
 refine wpAny_Call_Name_kw (a3X I hg hm hv ?_ hn hdb)
 exact PyProof.Rows.callWith_builtin1 (C7 (ha pos pins s σ H _ I h) fun us s1 ⟨vs,H1,I1,r1,q1⟩=>hc pins s1 σ H1 vs us Q I1 r1 q1) he hpl
theorem a7O (hc:D4 X (.type T) r)(hg:Gl X x)(hm:X.mg x=none)(hv:bootBuiltins x=some (.type T))(ha:PA X (e::es) t)(hn:x≠"__name__":=by decide) (hdb:(x == ("__debug__":Str))=false:=by decide)
  (he:starEach (e::es) X.env=(false,eval e X.env)::starEach es X.env:=by rfl) (hpl:(backTo pos (starEach es X.env)).any (·.1)=false:=by rfl):PE X (.Call (.Name x p) (e::es) [] pos) (tCB r t):=by
 intro pins s σ H Q I h
 refine wpAny_Call_Name_kw (a3X I hg hm hv ?_ hn hdb)
 exact PyProof.Rows.callWith_type1 (C7 (ha pos pins s σ H _ I h) fun us s1 ⟨vs,H1,I1,r1,q1⟩=>hc pins s1 σ H1 vs us Q I1 r1 q1) he hpl
end
end L2
namespace HT
open PySem PyProof.Rows
section
variable {prog:Program}{w:World}{A:Around}{E:Value→Shared→Prop}{s:Shared}
noncomputable def v5 (n d:Nat):Option Int→Nat
 | none=>d
 | some v=>if v < 0 then (v + (n:Int)).toNat else min v.toNat n
theorem a0B (n d:Nat):v5 n d none=d:=rfl
theorem Z6 (n d k:Nat):v5 n d (some (k:Int))=min k n:=by
 show (if (k:Int) < 0 then ((k:Int) + (n:Int)).toNat else min (k:Int).toNat n)=min k n
 rw [if_neg (by omega),Int.toNat_natCast]
theorem a8o (n d:Nat)(hd:d≤n)(o:Option Int):v5 n d o≤n:=by
 cases o with
 | none=>exact hd
 | some v=>
  show (if v < 0 then (v + (n:Int)).toNat else min v.toNat n)≤n
  by_cases hv:v < 0
  ·rw [if_pos hv]; omega
  ·rw [if_neg hv]; exact Nat.min_le_right _ _
theorem a6w (v:Int)(n d:Nat):(if v < 0 then max (v + (n:Int)) 0 else min v (n:Int))=((v5 n d (some v):Nat):Int):=by
 show (if v < 0 then max (v + (n:Int)) 0 else min v (n:Int))=(((if v < 0 then (v + (n:Int)).toNat else min v.toNat n):Nat):Int)
 by_cases hv:v < 0
 ·simp only [if_pos hv]; omega
 ·simp only [if_neg hv]; omega
theorem a5R (lo hi:Option Int)(n:Nat):Builtin.Slice.sliceAdjust lo hi 1 (n:Int)=(((v5 n 0 lo:Nat):Int),((v5 n n hi:Nat):Int)):=by
 have h1:¬ ((1:Int) < 0):=by omega
 unfold Builtin.Slice.sliceAdjust
 simp only [h1,if_false]
 refine Prod.ext ?_ ?_
 ·cases lo with
  | none=>rfl
  | some v=>exact a6w v n 0
 ·cases hi with
  | none=>rfl
  | some v=>exact a6w v n n
theorem a6c (i j:Nat):Builtin.Slice.slicePlaces (i:Int) (j:Int) 1=j - i:=by
 unfold Builtin.Slice.slicePlaces
 have h1:(1:Int) > 0:=by omega
 simp only [h1,if_true,Int.ediv_one]
 split <;> omega
theorem a2d {v:Value}{o:Option Int}{Q:Option Int→Shared→Prop}(p:IsPart v o)(h:Q o s):wpAny (model prog w) A (Builtin.Slice.slicePartIndex v) Q E s:=by
 cases p with
 | none=>exact slicePart_none h
 | int i t=>exact slicePart_int h
theorem S9 {sl:Addr}{vl vu:Value}{lo hi:Option Int}{n:Nat}{Q:Int×Int×Nat→Shared→Prop}(hs:s.heap.IsSliceOf sl vl vu .none)(pl:IsPart vl lo)(pu:IsPart vu hi)
  (h:Q (((v5 n 0 lo:Nat):Int),1,v5 n n hi - v5 n 0 lo) s):wpAny (model prog w) A (Builtin.Slice.sliceApplied (.ref sl) (pure (n:Int))) Q E s:=by
 obtain ⟨os,hos,hcs,hds⟩:=id hs
 unfold Builtin.Slice.sliceApplied Builtin.Slice.sliceFields
 refine wpAny_bind (wpAny_bind (wpAny_field hos hds (x:=vl) rfl (wpAny_bind (wpAny_field hos hds (x:=vu) rfl (wpAny_bind (wpAny_field hos hds (x:=.none) rfl (wpAny_pure ?_)))))))
 refine wpAny_bind (slicePart_none ?_)
 show wpAny _ _ (if ((1:Int) == 0)=true then _ else _) _ _ s
 rw [if_neg (by decide)]
 refine wpAny_bind (a2d pl (wpAny_bind (a2d pu (wpAny_bind (wpAny_pure ?_)))))
 show wpAny _ _ (match Builtin.Slice.sliceAdjust lo hi 1 (n:Int) with | (lo,hi)=>pure (lo,(1:Int),Builtin.Slice.slicePlaces lo hi 1)) _ _ s
 rw [a5R lo hi n]
 show wpAny _ _ (pure (((v5 n 0 lo:Nat):Int),(1:Int),Builtin.Slice.slicePlaces ((v5 n 0 lo:Nat):Int) ((v5 n n hi:Nat):Int) 1)) _ _ s
 rw [a6c]
 exact wpAny_pure h
theorem a9G (xs:Array Value)(i k:Nat):((List.range k).filterMap fun (m:Nat)=>xs[((i:Int) + (m:Int) * 1).toNat]?).toArray=((xs.toList.drop i).take k).toArray:=by
 have e:(fun (m:Nat)=>xs[((i:Int) + (m:Int) * 1).toNat]?)=fun m=>xs[i + m]?:=by
  funext m
  have:((i:Int) + (m:Int) * 1).toNat=i + m:=by omega
  rw [this]
 rw [e]
 have:=pick_run xs i k
 rw [List.filterMap_map] at this
 have e2:((fun x=>xs[x]?) ∘ fun x=>i + x)=fun m=>xs[i + m]?:=rfl
 rw [e2] at this
 rw [this]
theorem a0M {t sl:Addr}{items:Array Value}{vl vu:Value}{lo hi:Option Int}{Q:Value→Shared→Prop}(ht:IsTup s.heap t items)(hs:s.heap.IsSliceOf sl vl vu .none)(pl:IsPart vl lo)(pu:IsPart vu hi)
  (hw:¬ (v5 items.size 0 lo=0∧v5 items.size items.size hi=items.size))
  (h:Q (.ref s.heap.objs.size) { s with heap:=s.heap.push { cls:=.type "tuple",data:=.seq ((items.toList.drop (v5 items.size 0 lo)).take (v5 items.size items.size hi - v5 items.size 0 lo)).toArray } })
  (hsz:items.size≤sizeLine):wpAny (model prog w) A (getItem (.ref t) (.ref sl)) Q E s:=by
 have htake:sizeOk (.seq ((items.toList.drop (v5 items.size 0 lo)).take (v5 items.size items.size hi - v5 items.size 0 lo)).toArray):=by
  show ((items.toList.drop (v5 items.size 0 lo)).take (v5 items.size items.size hi - v5 items.size 0 lo)).toArray.size≤sizeLine
  rw [List.size_toArray,List.length_take,List.length_drop,Array.length_toList]
  omega
 have hj:v5 items.size items.size hi≤items.size:=a8o _ _ (Nat.le_refl _) hi
 obtain ⟨os,hos,hcs,hds⟩:=id hs
 have hTs:s.TypeIs (.ref sl) "slice":=⟨os,hos,hcs⟩
 unfold getItem
 try with_reducible refine wpAny_holding ?_
 first | refine wpAny_bind (wpAny_pure ?_) | skip
 refine wpAny_bind (wpAny_sequenceKey ht.typeIs (by decide) ?_)
 refine wpAny_bind (wpAny_callSpecial?_slot (name:=Str.ofString "__getitem__") ht.typeIs PyProof.Rows.slot_tuple_getitem
  (wpAny_call_entry PyProof.Rows.slot_tuple_getitem ht.typeIs entry_tuple_getitem ?_ (args_tuple_getitem _ _)))
 show wpAny _ _ (Builtin.Tuple.tupleItemsOf (.ref t) >>= _) _ _ s
 refine wpAny_bind (tupleItemsOf_ ht ?_)
 refine wpAny_bind (wpAny_typeOf hTs ?_)
 rw [if_pos (by decide)]
 refine wpAny_bind (S9 hs pl pu ?_)
 have hno:¬ ((((v5 items.size 0 lo:Nat):Int) == 0 && (1:Int) == 1 && (v5 items.size items.size hi - v5 items.size 0 lo) == items.size)=true):=by
  intro q
  rw [Bool.and_eq_true,Bool.and_eq_true] at q
  have q1:((v5 items.size 0 lo:Nat):Int)=0:=eq_of_beq q.1.1
  have q2:v5 items.size items.size hi - v5 items.size 0 lo=items.size:=eq_of_beq q.2
  exact hw ⟨by omega,by omega⟩
 show wpAny _ _ (if (((v5 items.size 0 lo:Nat):Int) == 0 && (1:Int) == 1 && (v5 items.size items.size hi - v5 items.size 0 lo) == items.size)=true then _ else _) _ _ s
 rw [if_neg hno,a9G]
 first
  | exact wpAny_bind (m:=Builtin.Tuple.tupleExact _) (wpAny_newObj_type (wpAny_pure ⟨_,rfl,wpAny_pure h⟩) htake)
  | exact wpAny_bind (m:=Builtin.Tuple.tupleExact _) (wpAny_newObj_type (wpAny_bind (wpAny_pure (wpAny_pure ⟨_,rfl,wpAny_pure h⟩))) htake)
  | exact wpAny_bind (wpAny_bind (m:=Builtin.Tuple.tupleExact _) (wpAny_newObj_type (wpAny_pure (wpAny_pure ⟨_,rfl,wpAny_pure h⟩)) htake))
  | exact wpAny_bind (wpAny_bind (m:=Builtin.Tuple.tupleExact _) (wpAny_newObj_type (wpAny_pure ⟨_,rfl,wpAny_pure h⟩) htake))
end
end HT
namespace L2
open PySem PySem.Spec PyProof.Rows
noncomputable abbrev TO:=St→Hp→(Option Int→Hp→Prop)→Prop
noncomputable def PO (X:Cx)(e:Option Expr)(t:TO):Prop:=
 ∀ (pins:List (Addr×Obj)) (s:Shared) (σ:St) (H:Hp) (Q:Option Int→Hp→Prop),Inv X pins σ H s→t σ H Q→
  wpAny (model X.prog X.w) X.A (evalPart e X.env) (fun u s'=>∃ o H',Inv X pins σ H' s'∧IsPart u o∧Q o H') X.xe s
noncomputable def b1f:TO:=fun _ H Q=>Q none H
noncomputable def b4M (t:TE):TO:=fun σ H Q=>t σ H fun x H1=>∃ i,x=.int i∧Q (some i) H1
section
variable {X:Cx}{e:Expr}{te:TE}{lo hi:Option Expr}{tl th:TO}{pos p2:Pos}
theorem b0K:PO X none b1f:=by
 intro pins s σ H Q I h
 rw [evalPart_none]
 exact wpAny_pure ⟨none,H,I,.none,h⟩
theorem b0p (h:PE X e te):PO X (some e) (b4M te):=by
 intro pins s σ H Q I hw
 rw [evalPart_some]
 refine C7 (h pins s σ H _ I hw) fun u s1 ⟨x,H1,I1,r1,q1⟩=>?_
 obtain ⟨i,rfl,q⟩:=q1
 obtain ⟨t,rfl⟩:=r1
 exact ⟨some i,H1,I1,.int i t,q⟩
noncomputable def SlR (X:Cx)(r:V→Option Int→Option Int→Hp→VK→Prop):Prop:=
 ∀ (pins:List (Addr×Obj)) (s:Shared) (σ:St) (H:Hp) (x:V) (v vl vu:Value) (lo hi:Option Int) (sl:Addr) (Q:VK),Inv X pins σ H s→RelV x v→s.heap.IsSliceOf sl vl vu .none→IsPart vl lo→IsPart vu hi→r x lo hi H Q→
  ∃ T id,typeLookup (.type T) "__getitem__"=pure (some (.builtin id))∧s.TypeIs v T∧wpAny (model X.prog X.w) X.A (getItem v (.ref sl)) (EP X pins σ Q) X.xe s
theorem SlR.or {r r':V→Option Int→Option Int→Hp→VK→Prop}(h:SlR X r)(h':SlR X r'):SlR X (fun x lo hi H Q=>r x lo hi H Q∨r' x lo hi H Q):=by
 intro pins s σ H x v vl vu lo hi sl Q I rx hs pl pu q
 rcases q with q | q
 ·exact h pins s σ H x v vl vu lo hi sl Q I rx hs pl pu q
 ·exact h' pins s σ H x v vl vu lo hi sl Q I rx hs pl pu q
noncomputable def tSl (r:V→Option Int→Option Int→Hp→VK→Prop)(te:TE)(tl th:TO):TE:=fun σ H Q=>te σ H fun x H1=>tl σ H1 fun l H2=>th σ H2 fun u H3=>r x l u H3 Q
theorem a9f {r:V→Option Int→Option Int→Hp→VK→Prop}(hr:SlR X r)(he:PE X e te)(hl:PO X lo tl)(hu:PO X hi th):PE X (.Subscript e (.Slice lo hi none p2) pos) (tSl r te tl th):=by
 intro pins s σ H Q I h
 refine Subscript_ (C7 (he pins s σ H _ I h) fun v s1 ⟨x,H1,I1,r1,q1⟩=>?_)
 refine wpAny_Slice (C7 (hl pins s1 σ H1 _ I1 q1) fun vl s2 ⟨l,H2,I2,pl,q2⟩=>C7 (hu pins s2 σ H2 _ I2 q2) fun vu s3 ⟨u,H3,I3,pu,q3⟩=>?_)
 rw [evalPart_none]
 refine wpAny_pure ?_
 have I4:Inv X pins σ H3 { s3 with heap:=s3.heap.push { cls:=.type "slice",data:=.fields #[vl,vu,.none] } }:=I3.kept (t':=s3.toks) fun b ob q=>Heap.get?_push_of_some _ q
 obtain ⟨T,id,hT,ht,hg⟩:=hr pins { s3 with heap:=s3.heap.push { cls:=.type "slice",data:=.fields #[vl,vu,.none] } } σ H3 x v vl vu l u s3.heap.objs.size Q I4 r1 (Heap.IsSliceOf.new ..) pl pu q3
 show wpAny (model X.prog X.w) X.A (subscriptTail e (.Slice lo hi none p2) v (.ref s3.heap.objs.size)) (EP X pins σ Q) X.xe { s3 with heap:=s3.heap.push { cls:=.type "slice",data:=.fields #[vl,vu,.none] } }
 exact tail_any (ops:=[.ref s3.heap.objs.size,v]) ht hT hg (by with_unfolding_all rfl)
noncomputable def a2Z (xs:List V)(lo hi:Option Int):List V:=(xs.drop (HT.v5 xs.length 0 lo)).take (HT.v5 xs.length xs.length hi - HT.v5 xs.length 0 lo)
theorem a1y (xs:List V)(lo hi:Option Int):(a2Z xs lo hi).length≤xs.length:=by
 unfold a2Z
 rw [List.length_take,List.length_drop]
 omega
noncomputable def b4s (K:PySem.W.Frag):V→Option Int→Option Int→Hp→VK→Prop:=fun x lo hi H Q=>∃ a xs,x=.ref a∧V8 K H a xs∧
 ¬ (HT.v5 xs.length 0 lo=0∧HT.v5 xs.length xs.length hi=xs.length)∧∀ p,H p=none→Q (.ref p) (upd H p (.tup (a2Z xs lo hi)))
theorem b3d:SlR X (b4s X.K):=by
 intro pins s σ H x v vl vu lo hi sl Q I rx hs pl pu h
 obtain ⟨a,xs,rfl,hx,hw,q⟩:=h
 cases rx
 obtain ⟨its,r,ht,hz⟩:=I.tuple hx
 have hlen:its.toArray.size=xs.length:=by rw [List.size_toArray]; exact r.length.symm
 refine ⟨"tuple",_,PyProof.Rows.slot_tuple_getitem.lookup,ht.typeIs,?_⟩
 refine HT.a0M ht hs pl pu (by rw [hlen]; exact hw) ?_ (by rw [hlen]; exact hz)
 rw [hlen]
 refine ⟨.ref s.heap.objs.size,_,I.laid (t':=s.toks) (o:=.tup (a2Z xs lo hi)) (fun b ob q=>Heap.get?_push_of_some _ q) (Nat.le_refl _) ?_,rfl,q _ (I.hok.fresh (Nat.le_refl _))⟩
 exact ⟨Nat.le_trans (a1y xs lo hi) hz,_,(r.drop (HT.v5 xs.length 0 lo)).take (HT.v5 xs.length xs.length hi - HT.v5 xs.length 0 lo),IsTup.new _ _⟩
end
end L2
namespace L2
open PySem PySem.Spec PyProof.Rows
noncomputable def ixN (n:Nat)(i:Int):Option Nat:=if 0≤i then (if i < n then some i.toNat else none) else if -(n:Int)≤i then some (i + n).toNat else none
noncomputable def atI {α:Type}(xs:List α)(i:Int):Option α:=(ixN xs.length i).bind fun j=>xs[j]?
theorem b0U {n:Nat}{i:Int}{j:Nat}(h:ixN n i=some j):seqIndex? i n=some j∧j < n∧-(n:Int)≤i∧i < n:=by
 unfold ixN at h
 by_cases h0:0≤i
 ·rw [if_pos h0] at h
  by_cases h1:i < n
  ·rw [if_pos h1] at h
   have e:i.toNat=j:=Option.some.inj h
   exact ⟨by rw [seqIndex_of h0 h1,e],by omega,by omega,h1⟩
  ·rw [if_neg h1] at h; cases h
 ·rw [if_neg h0] at h
  by_cases h1:-(n:Int)≤i
  ·rw [if_pos h1] at h
   have e:(i + n).toNat=j:=Option.some.inj h
   exact ⟨by rw [seqIndex_neg (by omega) h1,e],by omega,h1,by omega⟩
  ·rw [if_neg h1] at h; cases h
theorem a39 {α:Type}{xs:List α}{i:Int}{v:α}(h:atI xs i=some v):∃ j,seqIndex? i xs.length=some j∧xs[j]?=some v∧j < xs.length∧-(xs.length:Int)≤i∧i < xs.length:=by
 unfold atI at h
 cases e:ixN xs.length i with
 | none=>rw [e] at h; cases h
 | some j=>
  rw [e] at h
  obtain ⟨h1,h2,h3,h4⟩:=b0U e
  exact ⟨j,h1,h,h2,h3,h4⟩
theorem a36 {α:Type}{xs:List α}{j:Nat}{v:α}(h:xs[j]?=some v):atI xs (j:Int)=some v:=by
 have hj:j < xs.length:=(List.getElem?_eq_some_iff.mp h).1
 have e:ixN xs.length (j:Int)=some j:=by
  unfold ixN
  rw [if_pos (by omega),if_pos (by omega)]; simp
 unfold atI; rw [e]; exact h
noncomputable def a6N (b:Expr):Prop:=∀ o i,subscripted b false o i=operate [o,i] (getItem o i)
noncomputable def IxR (X:Cx)(r:R2):Prop:=
 ∀ (value slice:Expr) (pins:List (Addr×Obj)) (s:Shared) (σ:St) (H:Hp) (x y:V) (v u:Value) (Q:VK),Inv X pins σ H s→RelV x v→RelV y u→r x y H Q→
  subscripted slice false v u=operate [v,u] (getItem v u)→wpAny (model X.prog X.w) X.A (subscriptTail value slice v u) (EP X pins σ Q) X.xe s
noncomputable def MtR (X:Cx)(id:String)(r:V→List V→Hp→VK→Prop):Prop:=
 ∀ (pins:List (Addr×Obj)) (s:Shared) (σ:St) (H:Hp) (x:V) (xs:List V) (v:Value) (us:List Value) (Q:VK),Inv X pins σ H s→RelV x v→Vals xs us→r x xs H Q→
  wpAny (model X.prog X.w) X.A (call (.builtin id) (v::us)) (EP X pins σ Q) X.xe s
section
variable {X:Cx}{a b:Expr}{ta tb:TE}{pos:Pos}
theorem IxR.or {r r':R2}(h:IxR X r)(h':IxR X r'):IxR X (fun x y H Q=>r x y H Q∨r' x y H Q):=by
 intro value slice pins s σ H x y v u Q I rx ry q hs
 rcases q with q | q
 ·exact h value slice pins s σ H x y v u Q I rx ry q hs
 ·exact h' value slice pins s σ H x y v u Q I rx ry q hs
theorem MtR.or {id:String}{r r':V→List V→Hp→VK→Prop}(h:MtR X id r)(h':MtR X id r'):MtR X id (fun x xs H Q=>r x xs H Q∨r' x xs H Q):=by
 intro pins s σ H x xs v us Q I rx rs q
 rcases q with q | q
 ·exact h pins s σ H x xs v us Q I rx rs q
 ·exact h' pins s σ H x xs v us Q I rx rs q
theorem b39 {r:R2}(hr:IxR X r)(ha:PE X a ta)(hb:PE X b tb)(hs:a6N b):PE X (.Subscript a b pos) (tOp r ta tb):=by
 intro pins s σ H Q I h
 exact Subscript_ (b3v ha hb I h fun v u s2 x y H2 I2 rx ry q=>hr a b pins s2 σ H2 x y v u Q I2 rx ry q (hs _ _))
noncomputable def b3m (K:PySem.W.Frag):R2:=fun x y H Q=>∃ p xs i v,x=.ref p∧y=.int i∧L4 K H p xs∧atI xs i=some v∧Q v H
noncomputable def b27 (K:PySem.W.Frag):R2:=fun x y H Q=>∃ p xs i v,x=.ref p∧y=.int i∧V8 K H p xs∧atI xs i=some v∧Q v H
noncomputable def b4X:R2:=fun x y H Q=>∃ z i c,x=.str z∧y=.int i∧z.length≤sizeLine∧atI z.cps.toList i=some c∧Q (.str ⟨#[c]⟩) H
theorem b0X:IxR X (b3m X.K):=by
 intro value slice pins s σ H x y v u Q I rx ry h hs
 obtain ⟨p,xs,i,z,rfl,rfl,hq,he,q⟩:=h
 cases rx
 obtain ⟨t,rfl⟩:=ry
 obtain ⟨its,r,pl,hz⟩:=I.list hq
 obtain ⟨j,h1,h2,h3,h4,h5⟩:=a39 he
 obtain ⟨w,ew,rw'⟩:=r.get h2
 have hl:=r.length
 have hn:=a1i
 have fin:EP X pins σ Q w s:=⟨z,H,I,rw',q⟩
 by_cases h0:0≤i
 ·have hj:i.toNat=j:=by
   rw [seqIndex_of h0 h5] at h1
   exact Option.some.inj h1
  exact item_listR pl.isList h0 (by omega) (by rw [hj]; simpa using ew) fin hs
 ·have hj:(i + (its.toArray.size:Int)).toNat=j:=by
   rw [seqIndex_neg (by omega) h4] at h1
   rw [List.size_toArray,← hl]
   exact Option.some.inj h1
  exact subscriptTail_builtinR (x:=w) pl.isList.typeIs slot_list_getitem.lookup
   (wpAny_getItem_list_neg (Q:=fun r s'=>r=w∧EP X pins σ Q r s') pl.isList (by omega) (by rw [List.size_toArray] <;> omega) (by omega) (by rw [hj]; simpa using ew) ⟨rfl,fin⟩) hs
theorem b20:IxR X (b27 X.K):=by
 intro value slice pins s σ H x y v u Q I rx ry h hs
 obtain ⟨p,xs,i,z,rfl,rfl,hq,he,q⟩:=h
 cases rx
 obtain ⟨t,rfl⟩:=ry
 obtain ⟨its,r,pl,hz⟩:=I.tuple hq
 obtain ⟨j,h1,h2,h3,h4,h5⟩:=a39 he
 obtain ⟨w,ew,rw'⟩:=r.get h2
 have hl:=r.length
 have hn:=a1i
 have fin:EP X pins σ Q w s:=⟨z,H,I,rw',q⟩
 exact subscriptTail_builtinR (x:=w) pl.typeIs slot_tuple_getitem.lookup
  (getItem_tuple (j:=j) (Q:=fun r s'=>r=w∧EP X pins σ Q r s') pl (by omega) (by omega) (by rw [List.size_toArray,← hl]; exact h1) (by simpa using ew) ⟨rfl,fin⟩) hs
theorem a6o:IxR X b4X:=by
 intro value slice pins s σ H x y v u Q I rx ry h hs
 obtain ⟨z,i,c,rfl,rfl,hz,he,q⟩:=h
 obtain ⟨t,rfl⟩:=rx
 obtain ⟨t',rfl⟩:=ry
 obtain ⟨j,h1,h2,h3,h4,h5⟩:=a39 he
 have hl:z.cps.toList.length=z.length:=by simp [Str.length]
 rw [hl] at h1 h4 h5
 have hn:=a1i
 exact tail_any (typeIs_str s z t) slot_str_getitem.lookup (getItem_str (c:=c) (by
  have e1:decide (i < -(2 ^ 63:Int))=false:=decide_eq_false (by omega)
  have e2:decide (i ≥ 2 ^ 63)=false:=decide_eq_false (by omega)
  rw [e1,e2,Bool.or_false]) (by rw [h1]; simpa using h2) ⟨.str ⟨#[c]⟩,H,I.tok _,⟨_,rfl⟩,q⟩) hs
theorem Inv.lst {pins:List (Addr×Obj)}{σ:St}{H:Hp}{s:Shared}{p:Addr}{xs:List V}(I:Inv X pins σ H s)(h:H p=some (.lst xs)):
  ∃ (its:List Value) (n:Nat),Vals xs its∧s.heap.get? p=some { cls:=.type "list",data:=.seq its.toArray n }∧xs.length≤sizeLine:=by
 obtain ⟨z,its,n,r,e⟩:=I.hok p _ h
 exact ⟨its,n,r,e,z⟩
theorem a3Z (lo hi:Option Int)(n:Nat):(sliceBounds lo hi none n).1=((HT.v5 n 0 lo:Nat):Int)∧(sliceBounds lo hi none n).2.1=((HT.v5 n n hi:Nat):Int)∧(sliceBounds lo hi none n).2.2=1:=by
 refine ⟨?_,?_,rfl⟩
 ·cases lo with
  | none=>simp [sliceBounds,HT.v5]
  | some i=>
   simp only [sliceBounds,HT.v5,Option.getD_none,show (1:Int) > 0 by decide,if_true]
   by_cases h:i < 0
   ·simp only [h,if_true] <;> omega
   ·simp only [h,if_false] <;> omega
 ·cases hi with
  | none=>simp [sliceBounds,HT.v5]
  | some i=>
   simp only [sliceBounds,HT.v5,Option.getD_none,show (1:Int) > 0 by decide,if_true]
   by_cases h:i < 0
   ·simp only [h,if_true] <;> omega
   ·simp only [h,if_false] <;> omega
theorem a29 (its:List Value)(lo hi:Option Int):slicePick its.toArray lo hi none=((its.drop (HT.v5 its.length 0 lo)).take (HT.v5 its.length its.length hi - HT.v5 its.length 0 lo)).toArray:=by
 obtain ⟨h1,h2,h3⟩:=a3Z lo hi its.toArray.size
 unfold slicePick
 rw [h1,h2,h3]
 simp only [sliceRange_one,pick_run,List.size_toArray] <;> rfl
noncomputable def b4Z (K:PySem.W.Frag):V→Option Int→Option Int→Hp→VK→Prop:=fun x lo hi H Q=>∃ a xs,x=.ref a∧L4 K H a xs∧∀ p,H p=none→Q (.ref p) (upd H p (.lst (a2Z xs lo hi)))
theorem b05:SlR X (b4Z X.K):=by
 intro pins s σ H x v vl vu lo hi sl Q I rx hs pl pu h
 obtain ⟨a,xs,rfl,hx,q⟩:=h
 cases rx
 obtain ⟨its,r,ht,hz⟩:=I.list hx
 have hlen:=r.length
 refine ⟨"list",_,slot_list_getitem.lookup,ht.isList.typeIs,?_⟩
 refine wpAny_getItem_list_slice ht.isList hs pl pu .none (by simp) ?_ (by rw [List.size_toArray] <;> omega)
 rw [a29,← hlen]
 refine ⟨.ref s.heap.objs.size,_,I.laid (t':=s.toks) (o:=.lst (a2Z xs lo hi)) (fun b ob q=>Heap.get?_push_of_some _ q) (Nat.le_refl _) ?_,rfl,q _ (I.hok.fresh (Nat.le_refl _))⟩
 exact ⟨Nat.le_trans (a1y xs lo hi) hz,_,0,(r.drop (HT.v5 xs.length 0 lo)).take (HT.v5 xs.length xs.length hi - HT.v5 xs.length 0 lo),Heap.get?_push_size _ rfl⟩
theorem a4D:D4 X (.builtin "len") (fun xs H Q=>∃ p ys,xs=[.ref p]∧(L4 X.K H p ys∨V8 X.K H p ys)∧Q (.int ys.length) H):=by
 intro pins s σ H xs us Q I r h
 obtain ⟨p,ys,rfl,hq,q⟩:=h
 obtain ⟨u,rfl,rx⟩:=vals1 r
 cases rx
 have hn:=a1i
 rcases hq with hq | hq
 ·obtain ⟨its,r',pl,hz⟩:=I.list hq
  have hlen:=r'.length
  exact Calls.call_len_list pl.isList (by simp only [List.size_toArray] <;> omega) ⟨.int ys.length,H,I.tok _,⟨s.toks + 1,by rw [List.size_toArray,hlen]⟩,q⟩
 ·obtain ⟨its,r',pl,hz⟩:=I.tuple hq
  have hlen:=r'.length
  exact len_tuple pl (by simp only [List.size_toArray] <;> omega) ⟨.int ys.length,H,I.tok _,⟨s.toks + 1,by rw [List.size_toArray,hlen]⟩,q⟩
theorem a35:D4 X (.builtin "len") (fun xs H Q=>∃ z,xs=[.str z]∧z.length≤sizeLine∧Q (.int z.length) H):=by
 intro pins s σ H xs us Q I r h
 obtain ⟨z,rfl,hz,q⟩:=h
 obtain ⟨u,rfl,t,rfl⟩:=vals1 r
 have hn:=a1i
 exact len_str (by omega) ⟨.int z.length,H,I.tok _,⟨_,rfl⟩,q⟩
theorem D4.or {f:Value}{r r':List V→Hp→VK→Prop}(h:D4 X f r)(h':D4 X f r'):D4 X f (fun xs H Q=>r xs H Q∨r' xs H Q):=by
 intro pins s σ H xs us Q I rs q
 rcases q with q | q
 ·exact h pins s σ H xs us Q I rs q
 ·exact h' pins s σ H xs us Q I rs q
theorem a25:D4 X (.type "tuple") (fun xs H Q=>∃ p ys,xs=[.ref p]∧((L4 X.K H p ys∧∀ l,H l=none→Q (.ref l) (upd H l (.tup ys)))∨(V8 X.K H p ys∧Q (.ref p) H))):=by
 intro pins s σ H xs us Q I r h
 obtain ⟨p,ys,rfl,h⟩:=h
 obtain ⟨u,rfl,rx⟩:=vals1 r
 cases rx
 rcases h with ⟨hq,q⟩ | ⟨hq,q⟩
 ·obtain ⟨its,r',pl,hz⟩:=I.list hq
  have hlen:=r'.length
  refine call_tuple_list pl.isList (fun h' kp=>?_) (by simp only [List.size_toArray] <;> omega)
  have I1:Inv X pins σ H { s with heap:=h' }:=I.kept (t':=s.toks) kp
  have I2:Inv X pins σ (upd H h'.objs.size (.tup ys)) { s with heap:=h'.push { cls:=.type "tuple",data:=.seq its.toArray } }:=
   I1.laid (t':=s.toks) (fun b o e=>Heap.get?_push_of_some _ e) (Nat.le_refl _) (show A4 X.prog X.w _ _ _ (.tup ys) from ⟨hz,its,r',IsTup.new _ _⟩)
  exact ⟨.ref h'.objs.size,_,I2,rfl,q _ (I1.hok.fresh (Nat.le_refl _))⟩
 ·obtain ⟨its,r',pl,hz⟩:=I.tuple hq
  exact call_tuple_same pl ⟨.ref p,H,I,rfl,q⟩
noncomputable def tyV (K:PySem.W.Frag)(T:String)(x:V)(H:Hp):Prop:=match x with
 | .str _=>T="str"
 | .int _=>T="int"
 | .ref p=>(T="list"∧∃ xs,L4 K H p xs)∨(T="tuple"∧∃ o,K.lookup p=some o∧o.cls=.type "tuple"∧o.dict=none)∨
   (T="dict"∧((∃ kvs,H p=some (.dK kvs))∨∃ kvs,H p=some (.dT kvs)))∨(T="set"∧∃ S n,H p=some (.set S n))
 | _=>False
theorem a8A {pins:List (Addr×Obj)}{σ:St}{H:Hp}{s:Shared}{T:String}{x:V}{v:Value}(I:Inv X pins σ H s)(r:RelV x v)(ty:tyV X.K T x H):
  s.TypeIs v T∧∀ a,v=.ref a→∃ ob,s.heap.get? a=some ob∧ob.dict=none:=by
 cases x with
 | str z=>
  obtain ⟨t,rfl⟩:=r
  cases (show T="str" from ty)
  exact ⟨typeIs_str s z t,fun _ e=>nomatch e⟩
 | int i=>
  obtain ⟨t,rfl⟩:=r
  cases (show T="int" from ty)
  exact ⟨typeIs_int s i t,fun _ e=>nomatch e⟩
 | ref p=>
  cases r
  rcases ty with ⟨rfl,xs,hq⟩ | ⟨rfl,o,hk,hc,hd⟩ | ⟨rfl,hk⟩ | ⟨rfl,S,n,hk⟩
  ·obtain ⟨its,_,pl,_⟩:=I.list hq
   refine ⟨pl.isList.typeIs,fun a e=>?_⟩
   cases e
   obtain ⟨o,n,e,c,hd,_⟩:=pl
   exact ⟨o,e,hd⟩
  ·refine ⟨⟨o,I.kIn p o hk,hc⟩,fun a e=>?_⟩
   cases e
   exact ⟨o,I.kIn _ o hk,hd⟩
  ·have z:∃ o,s.heap.get? p=some o∧o.ExactDict:=by
    rcases hk with ⟨kvs,hk⟩ | ⟨kvs,hk⟩
    ·obtain ⟨_,_,_,_,o,_,_,e,ex,_⟩:=I.hok p _ hk
     exact ⟨o,e,ex⟩
    ·obtain ⟨_,_,_,_,o,_,_,e,ex,_⟩:=I.hok p _ hk
     exact ⟨o,e,ex⟩
   obtain ⟨o,e,ex⟩:=z
   refine ⟨⟨o,e,ex.1⟩,fun a e2=>?_⟩
   cases e2
   exact ⟨o,e,ex.2.1⟩
  ·obtain ⟨o,_,_,_,e,ex,_⟩:=I.hok p _ hk
   refine ⟨⟨o,e,ex.1⟩,fun a e2=>?_⟩
   cases e2
   exact ⟨o,e,ex.2.1⟩
 | _=>exact False.elim ty
noncomputable def b5t (K:PySem.W.Frag)(T:String)(r:V→List V→Hp→VK→Prop)(to:TE):TE:=fun σ H Q=>to σ H fun x H1=>tyV K T x H1∧r x [] H1 Q
noncomputable def tBM (K:PySem.W.Frag)(T:String)(r:V→List V→Hp→VK→Prop)(to:TE)(t:TA):TE:=fun σ H Q=>to σ H fun x H1=>tyV K T x H1∧t σ H1 fun xs H2=>r x xs H2 Q
variable {o e:Expr}{es:List Expr}{to:TE}{t:TA}{name:Str}{apos cpos:Pos}{T id:String}{r:V→List V→Hp→VK→Prop}
theorem b2n (pa:PlainAttrs T)(slot:Slot T name id)(hty:typeOf (.builtin id)=pure (.type "method_descriptor")) (hm:MtR X id r) (ho:PE X o to)
  (hbase:attributeBase o name X.env (eval o X.env)=eval o X.env:=by rfl) (hline:(apos.endLine == cpos.line)=true:=by rfl):PE X (.Call (.Attribute o name apos) [] [] cpos) (b5t X.K T r to):=by
 intro pins s σ H Q I h
 refine wpAny_Call_method0_late hbase hline (C7 (ho pins s σ H _ I h) fun v s1 ⟨x,H1,I1,r1,ty,q1⟩=>?_)
 obtain ⟨h1,h2⟩:=a8A I1 r1 ty
 exact ⟨T,id,pa,slot,hty,h1,h2,Calls.callWith_builtin rfl (PySem.evalArgs_none (hm pins s1 σ H1 x [] v [] Q I1 r1 .nil q1))⟩
theorem b1Y (pa:PlainAttrs T)(slot:Slot T name id)(hty:typeOf (.builtin id)=pure (.type "method_descriptor")) (hm:MtR X id r) (ho:PE X o to) (ha:PA X (e::es) t)
  (hbase:attributeBase o name X.env (eval o X.env)=eval o X.env:=by rfl)
  (hfew:((backTo cpos (starEach (e::es) X.env)).all (fun x=>!x.1) && (backToKw cpos (keywordEach [] X.env)).all (fun x=>x.1.isSome)
   && decide ((e::es).length + ([]:List Keyword).length + (if ([]:List Keyword).isEmpty then 0 else 1) < 30))=true:=by rfl)
  (hline:(apos.endLine == cpos.line)=true:=by rfl) (hs:starEach (e::es) X.env=(false,eval e X.env)::starEach es X.env:=by rfl) (hplain:(backTo cpos (starEach es X.env)).any (·.1)=false:=by rfl):
  PE X (.Call (.Attribute o name apos) (e::es) [] cpos) (tBM X.K T r to t):=by
 intro pins s σ H Q I h
 refine wpAny_Call_method_late hbase hfew hline rfl (C7 (ho pins s σ H _ I h) fun v s1 ⟨x,H1,I1,r1,ty,q1⟩=>?_)
 obtain ⟨h1,h2⟩:=a8A I1 r1 ty
 refine ⟨T,id,pa,slot,hty,h1,h2,?_⟩
 have hA:=ha cpos pins s1 σ H1 _ I1 q1
 rw [hs] at hA ⊢
 refine Calls.callWith_builtin (by show (false || (backTo cpos (starEach es X.env)).any (·.1))=false; rw [hplain] <;> rfl) (Calls.evalArgs_plain ?_)
 exact C7 hA fun us s2 ⟨vs,H2,I2,r2,q2⟩=>hm pins s2 σ H2 x vs v us Q I2 r1 r2 q2
end
end L2
namespace L2
open PySem PySem.Spec PyProof.Rows
noncomputable def MtM (X:Cx)(id:String)(r:V→List V→Hp→VK→Prop):Prop:=
 ∀ (pins:List (Addr×Obj)) (s:Shared) (σ:St) (H:Hp) (x:V) (xs:List V) (v:Value) (us:List Value) (Q:VK),Inv X pins σ H s→RelV x v→Vals xs us→r x xs H Q→
  wpAny (model X.prog X.w) X.A (call (.builtin id) (v::us)) (EP X pins σ Q) X.xe s
theorem Vals.one:∀ {x:V} {us:List Value},Vals [x] us→∃ u,us=[u]∧RelV x u
 | _,_,.cons r .nil=>⟨_,rfl,r⟩
theorem Vals.zero:∀ {us:List Value},Vals [] us→us=[]
 | _,.nil=>rfl
theorem Vals.dropLast {xs:List V}{us:List Value}(h:Vals xs us):Vals xs.dropLast us.dropLast:=by
 induction h with
 | nil=>exact .nil
 | cons r t ih=>
  cases t with
  | nil=>exact .nil
  | cons q t'=>exact .cons r ih
theorem Vals.eraseIdx:∀ {xs:List V} {us:List Value} (i:Nat),Vals xs us→Vals (xs.eraseIdx i) (us.eraseIdx i)
 | _,_,_,.nil=>.nil
 | _,_,0,.cons _ t=>t
 | _,_,i + 1,.cons r t=>.cons r (Vals.eraseIdx i t)
theorem Vals.rep {xs:List V}{us:List Value}(h:Vals xs us):∀ k:Nat,Vals (List.replicate k xs).flatten (List.replicate k us).flatten
 | 0=>.nil
 | k + 1=>by
  rw [List.replicate_succ,List.replicate_succ,List.flatten_cons,List.flatten_cons]
  exact Vals.append h (Vals.rep h k)
theorem a6q {α:Type}(l:List α):l.eraseIdx (l.length - 1)=l.dropLast:=by
 induction l with
 | nil=>rfl
 | cons a r ih=>
  cases r with
  | nil=>rfl
  | cons b r=>
   have e:(a::b::r).length - 1=((b::r).length - 1) + 1:=by
    have h1:(a::b::r).length=r.length + 2:=rfl
    have h2:(b::r).length=r.length + 1:=rfl
    omega
   rw [e,List.eraseIdx_cons_succ,ih]
   all_goals rfl
section
variable {X:Cx}{pins:List (Addr×Obj)}{σ:St}{H:Hp}{s:Shared}{l b:Addr}{xs ys zs:List V}
theorem Inv.b4a {its its':List Value}{n:Nat}{f:Array Value→Array Value}{t':Nat}(I:Inv X pins σ H s)(hH:H l=some (.lst xs))
  (e:s.heap.get? l=some { cls:=.type "list",data:=.seq its.toArray n }) (hf:f its.toArray=its'.toArray) (hv:Vals ys its') (hz:ys.length≤sizeLine):
  Inv X pins σ (upd H l (.lst ys)) { s with heap:=s.heap.update l (Obj.mapSeq f),toks:=t' }:=by
 have q:=PySem.IsL.update e f
 rw [hf] at q
 refine I.write (x:=l) (e:=l) (by rw [hH]; exact trivial) (.inl rfl) (fun b' u hb hu=>(Heap.get?_update_other s.heap (Obj.mapSeq f) (Ne.symm hb)).trans hu) ⟨_,q⟩ ?_
 exact ⟨hz,its',_,hv,q⟩
theorem Inv.b4e {its:List Value}{t':Nat}(I:Inv X pins σ H s)(hv:Vals ys its)(hz:ys.length≤sizeLine):
  Inv X pins σ (upd H s.heap.objs.size (.lst ys)) { s with heap:=s.heap.push { cls:=.type "list",data:=.seq its.toArray },toks:=t' }:=
 I.laid (fun _ _ q=>Heap.get?_push_of_some _ q) (Nat.le_refl _) ⟨hz,its,0,hv,Heap.get?_push_size _ rfl⟩
theorem Inv.fresh (I:Inv X pins σ H s):H s.heap.objs.size=none:=I.hok.fresh (Nat.le_refl _)
theorem Inv.b4l (I:Inv X pins σ H s)(hH:H l=some (.lst xs)):xs.length≤sizeLine∧∃ (its:List Value) (n:Nat),Vals xs its∧xs.length=its.length∧s.heap.get? l=some { cls:=.type "list",data:=.seq its.toArray n }:=by
 obtain ⟨z,its,n,r,e⟩:=I.hok l _ hH
 exact ⟨z,its,n,r,r.length,e⟩
end
section
variable {X:Cx}
noncomputable def b0Y:V→List V→Hp→VK→Prop:=fun x vs H Q=>∃ l xs y,x=.ref l∧vs=[y]∧H l=some (.lst xs)∧xs.length < sizeLine∧Q .t6 (upd H l (.lst (xs++[y])))
theorem a8c:MtM X "list.append" b0Y:=by
 intro pins s σ H x vs v us Q I rx rv h
 obtain ⟨l,xs,y,rfl,rfl,hH,hz,q⟩:=h
 cases rx
 obtain ⟨u,rfl,ru⟩:=rv.one
 obtain ⟨z,its,n,r,hl,e⟩:=I.b4l hH
 refine call_meets F.slot_list_append ⟨_,e,rfl⟩ F.entry_list_append (F.args_list_append_2 _ _) (PySem.list_append l its.toArray n u (by rw [List.size_toArray]; omega)) ⟨e,?_⟩
 refine ⟨.t6,_,I.b4a (its':=its++[u]) hH e (by simp) (r.append (.cons ru .nil)) ?_,rfl,q⟩
 rw [List.length_append,List.length_singleton]
 omega
noncomputable def b5k:V→List V→Hp→VK→Prop:=fun x vs H Q=>∃ l xs y,x=.ref l∧vs=[]∧H l=some (.lst xs)∧xs[xs.length - 1]?=some y∧Q y (upd H l (.lst xs.dropLast))
theorem b2t:MtM X "list.pop" b5k:=by
 intro pins s σ H x vs v us Q I rx rv h
 obtain ⟨l,xs,y,rfl,rfl,hH,hy,q⟩:=h
 cases rx
 have hus:=rv.zero
 subst hus
 obtain ⟨z,its,n,r,hl,e⟩:=I.b4l hH
 obtain ⟨u,hu,ru⟩:=r.get hy
 have hy':its.toArray[its.toArray.size - 1]?=some u:=by
  show its.toArray[its.length - 1]?=some u
  rw [← Array.getElem?_toList,← hl]
  exact hu
 refine call_meets F.slot_list_pop ⟨_,e,rfl⟩ F.entry_list_pop (F.args_list_pop_1 _) (MeetsSeq.list_pop_last l its.toArray n u hy' (by rw [List.size_toArray]; omega)) ⟨e,?_⟩
 refine ⟨y,_,I.b4a (its':=its.dropLast) hH e ?_ r.dropLast ?_,ru,q⟩
 ·show its.toArray.eraseIdxIfInBounds (its.toArray.size - 1)=its.dropLast.toArray
  rw [List.size_toArray,List.eraseIdxIfInBounds_toArray,a6q]
 ·rw [List.length_dropLast]
  omega
end
end L2
namespace Att
open PySem PySem.W PySem.Calls PyProof.Rows
theorem a1I {P:Params}{h:Heap}:∀ (ns:List Int) (vs:List Value),WellAll P h vs (ns.map WData.int)→IntsAre vs ns:=by
 intro ns
 induction ns with
 | nil=>
  intro vs w
  rw [List.map_nil] at w
  cases w
  exact .nil
 | cons n ns ih=>
  intro vs w
  rw [List.map_cons] at w
  cases w with
  | cons a b=>
   cases a
   exact .cons _ _ (ih _ b)
theorem a7U {l:OpenLaw}{n:Nat}(hn:l.most=some n){P:Params}{h:Heap}{args:List WData}{vals:List Value}
  (hpre:l.row.toRowW.claim.pre args=true) (hwl:WellAll P h vals args):
  ∃ a vs ns,vals=[Value.ref a]∧args=[WData.list (ns.map WData.int)]∧h.get? a=some { cls:=.type "list",data:=.seq vs.toArray }∧IntsAre vs ns∧ns.length≤n:=by
 have hsh:WShape.hasAll [] args [.list .int]=true:=(pre_splitW hpre).1
 have hc:l.pre.holds [] { args:=args }=true:=(pre_splitW hpre).2
 obtain ⟨d,r,rfl,h1,h2⟩:=hasAllW_cons hsh
 obtain rfl:=hasAllW_nil h2
 obtain ⟨xs,rfl,h3⟩:=hasW_list h1
 obtain ⟨ns,rfl⟩:=items_int h3
 have hlen:ns.length≤n:=by
  unfold OpenLaw.pre at hc
  have h4:(WTm.not (.lt (.lit (.int (n:Int))) (.len (.arg 0)))).holds [] { args:=[.list (ns.map .int)] }=true:=by
   have h4:=(holds_andW hc).1
   rw [hn] at h4
   exact h4
  have h5:=condW_of h4 (w_not (w_lt w_lit (w_len_list (w_arg rfl))))
  rw [List.length_map] at h5
  refine Nat.le_of_not_lt fun q=>?_
  have q':(n:Int) < ((ns.length:Nat):Int):=by omega
  first
   | (rw [decide_eq_true q'] at h5; exact absurd h5 (by decide))
   | (simp at h5; omega)
 cases hwl with
 | cons w1 w2=>
  cases w2
  cases w1 with
  | list ho hall=>exact ⟨_,_,ns,rfl,rfl,ho,a1I ns _ hall,hlen⟩
theorem a7P (l:OpenLaw)(args:List WData):l.row.toRowW.claim.post args (.bool true) args=true:=
 postW_of (r:=l.row.toRowW) (X:=(true == true))
  (show WShape.has [] (.bool true) .bool=true by first | rfl | decide | simp [WShape.has,WShape.arms,WShape.armsAll])
  (show (WTm.eq .res (.lit (.bool true))).value [] { args:=args,res:=some (.bool true),after:=args }=some (.bool (true == true)) from w_eq_bool (w_res rfl) w_lit) rfl
theorem a5B {l:OpenLaw}{n:Nat}{q:Program}{loose:List Str}{XP:(Str→Option Value)→Heap→Prop}{YP:World→Heap→Prop}{d:DefRec}
  (hn:l.most=some n) (hdf:d.params.defaults=[])
  (call:∀ (w:World) (s₀ s₁:Shared) (mg mb:Str→Option Value) (fa:Addr) (o:Obj) (pm cd doc:Value) (a:Addr) (vs:List Value) (ns:List Int),
   Ground q loose [] XP w s₀ mg mb s₁.heap→YP w s₁.heap→
   s₁.heap.get? fa=some o→o.data=.func (docDef d.name d.params d.body d.scope pm cd doc)→s₁.heap.CodeRec cd d.name→mg d.name=some (.ref fa)→
   s₁.heap.get? a=some { cls:=.type "list",data:=.seq vs.toArray }→IntsAre vs ns→ns.length≤n→s₁.gens=#[]→
   codeAny (model l.prog w) callerA (.call (.ref fa) ⟨[.ref a],[]⟩) (fun r s'=>r=.ok (.ret (.bool true))∧OldK s₁.heap s'.heap∧s'.os=s₁.os∧AllBare s'.gens) s₁):
  WalkO q loose XP YP l.row.toRowW d [] (fun f vs=>PySem.call f vs):=by
 intro w s₀ s₁ mg mb G Y fa o pm cd doc dV kV ho hd hcd hD hmg hg args vals as hpre hlay hrd hwl hlo
 obtain rfl:dV=.none:=Dflts.none hD hdf
 obtain rfl:kV=.none:=Dflts.noKw hD
 obtain ⟨a,vs,ns,rfl,rfl,hobj,hints,hlen⟩:=a7U hn hpre hwl
 refine enter_call (codeAny_mono (call w s₀ s₁ mg mb fa o pm cd doc a vs ns G Y ho (fd_plain hd) hcd hmg hobj hints hlen hg) fun r s' hq=>?_)
 obtain ⟨rfl,h2,h3,h4⟩:=hq
 exact ⟨.inl ⟨.bool true,.bool true,[],rfl,fun _=>rfl,.bool true,a7P l _,fun _=>⟨List.Pairwise.nil,fun _ hm=>(nomatch hm)⟩⟩,h2,h3,h4⟩
end Att
namespace L2
open PySem PySem.Spec PyProof.Rows
theorem a3H:∀ {vs:List Value} {ns:List Int},IntsAre vs ns→Vals (ns.map V.int) vs
 | _,_,.nil=>.nil
 | _,_,.cons n t h=>.cons ⟨t,rfl⟩ (a3H h)
noncomputable def b3D (H:Hp):Prop:=∀ b,H b=none∨∃ o xs,H b=some (.frz o (.lst xs))
theorem a9n {P:Program}{w:World}{K:PySem.W.Frag}{mg mb:Str→Option Value}{CX:CXT}{k:Nat}{fa a:Addr}{fd:FuncData}{x:Str}{sp:Sp}{s₁:Shared}{vs:List Value}{ns:List Int}
  (KX:K.In s₁.heap) (hns:s₁.heap.Ns mainGlobals mg) (hb:s₁.heap.Ns builtinsNs mb) (hbb:∀ x:Str,x≠"__name__"→mb x=bootBuiltins x) (hlim:s₁.heap.NoLimit) (hg:s₁.gens=#[])
  (ha:s₁.heap.get? a=some { cls:=.type "list",data:=.seq vs.toArray }) (hi:IntsAre vs ns) (hl:ns.length≤sizeLine) (hr:C4 k callerA)
  (F:∀ base:Heap,K.In base→base.Ns mainGlobals mg→A0 P w K mg base CX k fa fd [x] sp) (hbind:∀ (s:Shared) (u:Value),BindsTo s fd ⟨[u],[]⟩ [(x,u)])
  (hsp:∀ H:Hp,b3D H→L4 K H a (ns.map V.int)→sp [.ref a] H (fun v _=>v=.bl true) fun _ _ _=>False)
  (hCX:∀ H e s',CX [] H s₁ (fun _ _ _=>False) e s'→False):
  codeAny (model P w) callerA (.call (.ref fa) ⟨[.ref a],[]⟩) (fun r s'=>r=.ok (.ret (.bool true))∧OldK s₁.heap s'.heap∧s'.os=s₁.os∧AllBare s'.gens) s₁:=by
 have rv:=a3H hi
 have lenV:=hi.length
 
 have core:∀ H:Hp,b3D H→L4 K H a (ns.map V.int)→HOk P w H s₁.heap→(∀ b,H b≠none→b=a)→(H a≠none→K.lookup a=none)→
   codeAny (model P w) callerA (.call (.ref fa) ⟨[.ref a],[]⟩) (fun r s'=>r=.ok (.ret (.bool true))∧OldK s₁.heap s'.heap∧s'.os=s₁.os∧AllBare s'.gens) s₁:=by
  intro H hO hS hok hA hK
  have base_of:∀ {b:Addr} {o:Obj},s₁.heap.get? b=some o→H b=none→(a4t s₁.heap H).get? b=some o:=fun e n=>b0b e n
  have noA:∀ {b:Addr} {o:Obj} {es:Array DictEntry} {ep:Nat},s₁.heap.get? b=some o→o.data=.dict es ep→H b=none:=fun {b o es ep} e d=>by
   cases q:H b with
   | none=>rfl
   | some u=>
    have e':b=a:=hA b (by rw [q]; simp)
    subst e'
    rw [ha] at e; cases e
    have d':Data.seq vs.toArray _=Data.dict es ep:=d
    cases d'
  have nsK:∀ {b:Addr} {m:Str→Option Value},s₁.heap.Ns b m→(a4t s₁.heap H).Ns b m:=fun {b m} ⟨o,es,ep,e,d,r⟩=>⟨o,es,ep,base_of e (noA e d),d,r⟩
  have hKb:K.In (a4t s₁.heap H):=fun b o e=>base_of (KX b o e) (by
   cases q:H b with
   | none=>rfl
   | some u=>
    have e':b=a:=hA b (by rw [q]; simp)
    subst e'
    rw [hK (by rw [q]; simp)] at e; cases e)
  have hM:Mod K mg (a4t s₁.heap H):=⟨hKb,nsK hns,⟨mb,nsK hb,hbb⟩,let ⟨mc,h1,h2⟩:=hlim; ⟨mc,nsK h1,h2⟩⟩
  have e0:a20 P w K mg (a4t s₁.heap H) callerA [] s₁ H:=⟨rfl,hM,fun b o e=>b1E e,Nat.le_of_eq (a7Z _ _),trivial,fun b hb=>absurd (show b∈([]:List Addr) from hb) (by simp),hok,.of_eq hg⟩
  refine codeAny_mono ((F _ hKb (nsK hns)).run callerA [] s₁ H ⟨[.ref a],[]⟩ [.ref a] [.ref a] _ _ hr e0 (hbind s₁ (.ref a)) (.cons rfl .nil) (hsp H hO hS)) fun r s' h=>?_
  cases r with
  | error e=>exact (hCX H e s' h).elim
  | ok fl=>
   cases fl with
   | next=>exact False.elim h
   | brk=>exact False.elim h
   | cont=>exact False.elim h
   | ret u=>
    obtain ⟨v,H',os,bare,un,hok',r',q⟩:=h
    have q':v=.bl true:=q
    subst q'
    obtain rfl:u=Value.bool true:=r'
    refine ⟨rfl,OldK.of_keep fun b o e=>?_,os,bare⟩
    cases q:H b with
    | none=>exact un.keep b o e q (by intro z; exact absurd (show b∈([]:List Addr) from z) (by simp)) (by simp)
    | some u=>
     rcases hO b with z | ⟨ob,xs,z⟩
     ·rw [q] at z; cases z
     ·have z2:=un.frzs b ob _ z
      obtain ⟨e1,_⟩:=hok b _ z
      obtain ⟨e2,_⟩:=hok' b _ z2
      rw [e] at e1; cases e1
      exact e2
 cases hk:K.lookup a with
 | some o=>
  
  have e:=KX a o hk
  rw [ha] at e
  cases e
  refine core (fun _=>none) (fun _=>.inl rfl) (.inr ⟨_,vs.toArray,_,hk,rfl,rfl,rfl,by rw [List.size_toArray,lenV]; exact hl,by simpa using rv⟩) (fun b u z=>by have z':(none:Option HO)=some u:=z; cases z') (fun b z=>absurd rfl z) fun z=>absurd rfl z
 | none=>
  refine core (fun b=>if b=a then some (.frz { cls:=.type "list",data:=.seq vs.toArray } (.lst (ns.map V.int))) else none) (fun b=>?_) (.inl (.inr ⟨{ cls:=.type "list",data:=.seq vs.toArray },if_pos rfl⟩)) (fun b u z=>?_) (fun b z=>?_) fun _=>hk
  ·by_cases hb:b=a
   ·exact .inr ⟨_,_,if_pos hb⟩
   ·exact .inl (if_neg hb)
  ·by_cases hb:b=a
   ·have z':=(if_pos hb).symm.trans z
    cases z'
    subst hb
    exact ⟨ha,by rw [List.length_map]; exact hl,vs,_,rv,ha⟩
   ·have z':=(if_neg hb).symm.trans z
    cases z'
  ·by_cases hb:b=a
   ·exact hb
   ·exact absurd (if_neg hb) z
end L2
namespace L2
open PySem PySem.Spec PyProof.Rows
noncomputable abbrev KOf {K:PySem.W.Frag}{h:Heap}(_:K.In h):PySem.W.Frag:=K
theorem b0N {l:PySem.W.OpenLaw}{n k:Nat}{q:Program}{loose:List Str}{XP:(Str→Option Value)→Heap→Prop}{YP:World→Heap→Prop}{d:DefRec}{K:Params→PySem.W.Frag}{CX:World→CXT}{sp:World→Sp}{x:Str}
  (hn:l.most=some n) (hn2:n≤sizeLine) (hdf:d.params.defaults=[]) (hr:C4 k callerA)
  (hY:∀ (w:World) (h:Heap),YP w h→(K w.params).In h)
  (F:∀ (w:World) (mg:Str→Option Value) (fa:Addr) (h:Heap),(K w.params).In h→h.Ns mainGlobals mg→mg d.name=some (.ref fa)→
   ∃ fd:FuncData,(∀ (s:Shared) (u:Value),BindsTo s fd ⟨[u],[]⟩ [(x,u)])∧
    ∀ base:Heap,(K w.params).In base→base.Ns mainGlobals mg→A0 l.prog w (K w.params) mg base (CX w) k fa fd [x] (sp w))
  (hsp:∀ (w:World) (H:Hp) (a:Addr) (ns:List Int),ns.length≤n→b3D H→L4 (K w.params) H a (ns.map V.int)→sp w [.ref a] H (fun v _=>v=.bl true) fun _ _ _=>False)
  (hCX:∀ (w:World) (H:Hp) (s:Shared) (e:Value) (s':Shared),CX w [] H s (fun _ _ _=>False) e s'→False):
  PySem.W.WalkO q loose XP YP l.row.toRowW d [] (fun f vs=>PySem.call f vs):=by
 refine Att.a5B hn hdf fun w s₀ s₁ mg mb fa o pm cd doc a vs ns G Y ho hd hcd hmg hobj hints hlen hg=>?_
 have KX:=hY w _ Y
 obtain ⟨fd,hb,hF⟩:=F w mg fa _ KX G.T.g hmg
 exact a9n KX G.T.g G.T.b G.T.builtins G.T.nolimit hg hobj hints (Nat.le_trans hlen hn2) hr hF hb (fun H hO hS=>hsp w H a ns hlen hO hS) fun H e s'=>hCX w H s₁ e s'
end L2
namespace L2
open PySem PySem.Spec PyProof.Rows
noncomputable def inClass (s:Stmt)(j:Nat):Stmt:=match s with
 | .ClassDef _ _ _ body _ _ _ _ _ _ _=>body.getD j (.Pass ⟨0,0,0,0⟩)
 | _=>.Pass ⟨0,0,0,0⟩
noncomputable def Q5 (s:Stmt):Arguments:=match s with
 | .FunctionDef _ a _ _ _ _ _ _ _ _=>a
 | _=>{ posonlyargs:=[],args:=[],vararg:=none,kwonlyargs:=[],kw_defaults:=[],kwarg:=none,defaults:=[] }
noncomputable def D0 (s:Stmt):List Stmt:=match s with
 | .FunctionDef _ _ b _ _ _ _ _ _ _=>b
 | _=>[]
noncomputable def g6 (s:Stmt):Scope:=match s with
 | .FunctionDef _ _ _ _ _ _ sc _ _ _=>sc
 | _=>{ kind:=.function,names:=[],isGenerator:=false,isCoroutine:=false }
noncomputable abbrev Q4:CXT:=fun _ _ _ _ _ _=>False
noncomputable abbrev E0:XK:=fun _ _ _=>False
theorem b4V {X:Cx}:Passes Q4 X E0:=fun _ _ _ _ _ _ _ h=>h.elim
structure Fun (K:PySem.W.Frag) (x qual:Str) (st:Stmt) (f:Addr) (fd:FuncData):Prop where
 ex:∃ (oc:Value) (od:Option Addr) (kV doc pm:Value) (an:Option Addr) (cdv ct:Value) (osl:Array (Option Value)),
  fd=PySem.W.fnOf x qual (Q5 st) (D0 st) (g6 st) .none kV doc pm an cdv ct∧K.lookup f=some ⟨oc,od,.func fd,osl⟩∧PySem.W.codeIn K cdv qual=true
 kp:PySem.W.keepIn K (.ref f)=true
section
variable {P:Program}{w:World}{K:PySem.W.Frag}{mg:Str→Option Value}{base:Heap}
theorem Fun.ok {x qual:Str}{st:Stmt}{f:Addr}{fd:FuncData}{N ps:List Str}{k:Nat}{sp:Sp}(F:Fun K x qual st f fd)(S:n8 N ps (g6 st))(len:∀ vs H Q E,sp vs H Q E→vs.length=ps.length)
  (hbody:∀ (cdv:Value) (A:Around) (outer:List Env) (s:Shared) (H:Hp) (vs:List V) (Q:VK) (E:XK),C4 k (A.deeper (envOfC qual (g6 st) s.heap.objs.size f cdv))→sp vs H Q E→
   ∃ t,PSs (N4 Q4 P w K mg base N qual (g6 st) f cdv A outer s H E).nox (D0 st) t∧t { nx:=fun _ H'=>Q .t6 H',rt:=Q } (start N vs) H):A0 P w K mg base Q4 (k + 1) f fd ps sp:=by
 obtain ⟨oc,od,kV,doc,pm,an,cdv,ct,osl,rfl,lk,hcd⟩:=F.ex
 refine b15 lk hcd S len fun A outer s H vs Q E hr hsp=>?_
 obtain ⟨t,h,q⟩:=hbody cdv A outer s H vs Q E hr hsp
 exact ⟨t,h.nox,q⟩
theorem Fun.binds {x qual:Str}{st:Stmt}{f:Addr}{fd:FuncData}{ps:List Str}(F:Fun K x qual st f fd)
  (h:∀ (kV doc pm:Value) (an:Option Addr) (cdv ct:Value) (us:List Value),us.length=ps.length→bindArgs (PySem.W.fnOf x qual (Q5 st) (D0 st) (g6 st) .none kV doc pm an cdv ct) ⟨us,[]⟩=pure (ps.zip us)):Binds K fd ps []:=by
 obtain ⟨oc,od,kV,doc,pm,an,cdv,ct,osl,rfl,lk,hcd⟩:=F.ex
 exact .all (h kV doc pm an cdv ct)
theorem a9V {x qual:Str}{st:Stmt}{f:Addr}{oc:Value}{od an:Option Addr}{osl:Array (Option Value)}{kV doc pm cdv ct:Value}(l:K.lookup f=some ⟨oc,od,.func (PySem.W.fnOf x qual (Q5 st) (D0 st) (g6 st) .none kV doc pm an cdv ct),osl⟩)
  (c:PySem.W.codeIn K cdv qual=true) (k:PySem.W.keepIn K (.ref f)=true):Fun K x qual st f (PySem.W.fnOf x qual (Q5 st) (D0 st) (g6 st) .none kV doc pm an cdv ct):=⟨⟨oc,od,kV,doc,pm,an,cdv,ct,osl,rfl,l,c⟩,k⟩
end
noncomputable def d8 (H H':Hp):Prop:=∀ b o,H b=some o→H' b=some o
theorem d8.refl (H:Hp):d8 H H:=fun _ _ h=>h
theorem d8.trans {H H1 H2:Hp}(a:d8 H H1)(b:d8 H1 H2):d8 H H2:=fun c o h=>b c o (a c o h)
theorem d8.free {H H':Hp}(e:d8 H H'){l:Addr}(h:H' l=Option.none):H l=Option.none:=by
 cases q:H l with
 | none=>rfl
 | some o=>
  rw [e l o q] at h
  cases h
theorem d8.seq {K:PySem.W.Frag}{H H':Hp}{a:Addr}{xs:List V}(e:d8 H H')(h:L4 K H a xs):L4 K H' a xs:=by
 rcases h with (h | ⟨o,h⟩) | h
 ·exact .inl (.inl (e _ _ h))
 ·exact .inl (.inr ⟨o,e _ _ h⟩)
 ·exact .inr h
end L2
namespace L2
open PySem PySem.Spec PyProof.Rows
section
variable {κ:Type}[DecidableEq κ]
noncomputable def W4 (kvs:List (κ×V))(k:κ):Option V:=(kvs.find? fun kv=>decide (kv.1=k)).map (·.2)
noncomputable def putK (kvs:List (κ×V))(k:κ)(v:V):List (κ×V):=
 if (kvs.any fun kv=>decide (kv.1=k))=true then kvs.map (fun kv=>if kv.1=k then (kv.1,v) else kv) else kvs++[(k,v)]
noncomputable def a2E (kvs:List (κ×V))(k:κ):List (κ×V):=kvs.filter fun kv=>decide (kv.1≠k)
theorem a2D {p:κ×V}{r:List (κ×V)}{k:κ}(e:p.1=k):W4 (p::r) k=some p.2:=by simp [W4,List.find?_cons,e]
theorem a2N {p:κ×V}{r:List (κ×V)}{k:κ}(e:¬ p.1=k):W4 (p::r) k=W4 r k:=by simp [W4,List.find?_cons,e]
theorem W6.Z9 {o:Option V}{u:Option Value}(r:W6 o u):o.isSome=u.isSome:=by
 cases o with
 | none=>cases u with
  | none=>rfl
  | some _=>exact (show False from r).elim
 | some _=>cases u with
  | none=>exact (show False from r).elim
  | some _=>rfl
theorem W6.getD {o:Option V}{u:Option Value}{d:V}{d':Value}(r:W6 o u)(rd:RelV d d'):RelV (o.getD d) (u.getD d'):=by
 cases o with
 | none=>cases u with
  | none=>exact rd
  | some _=>exact (show False from r).elim
 | some _=>cases u with
  | none=>exact (show False from r).elim
  | some _=>exact r
theorem KV.val {kvs:List (κ×V)}{vs:List (κ×Value)}(r:KV kvs vs)(k:κ):W6 (W4 kvs k) (valueAt vs k):=by
 unfold KV at r
 induction r with
 | nil=>exact True.intro
 | @cons p q ps qs h t ih=>
  obtain ⟨h1,h2⟩:=h
  by_cases e:p.1=k
  ·have e':q.1=k:=h1.symm.trans e
   have b:valueAt (q::qs) k=some q.2:=by simp [valueAt,List.find?_cons,e']
   rw [a2D e,b]; exact h2
  ·have e':¬ q.1=k:=fun z=>e (h1.trans z)
   have b:valueAt (q::qs) k=valueAt qs k:=by simp [valueAt,List.find?_cons,e']
   rw [a2N e,b]; exact ih
theorem KV.any {kvs:List (κ×V)}{vs:List (κ×Value)}(r:KV kvs vs)(k:κ):(kvs.any fun kv=>decide (kv.1=k))=vs.any fun kv=>decide (kv.1=k):=by
 unfold KV at r
 induction r with
 | nil=>rfl
 | cons h t ih=>rw [List.any_cons,List.any_cons,ih,h.1]
theorem KV.drop {kvs:List (κ×V)}{vs:List (κ×Value)}(r:KV kvs vs)(k:κ):KV (a2E kvs k) (without vs k):=by
 unfold KV at r ⊢
 unfold a2E without
 induction r with
 | nil=>exact .nil
 | @cons p q ps qs h t ih=>
  obtain ⟨h1,h2⟩:=h
  rw [List.filter_cons,List.filter_cons]
  by_cases e:p.1=k
  ·have a:¬ decide (p.1≠k)=true:=by simp [e]
   have b:¬ decide (q.1≠k)=true:=by simp [h1.symm.trans e]
   rw [if_neg a,if_neg b]; exact ih
  ·have e':¬ q.1=k:=fun z=>e (h1.trans z)
   have a:decide (p.1≠k)=true:=by simp [e]
   have b:decide (q.1≠k)=true:=by simp [e']
   rw [if_pos a,if_pos b]; exact .cons ⟨h1,h2⟩ ih
theorem KV.keys {kvs:List (κ×V)}{vs:List (κ×Value)}(r:KV kvs vs):kvs.map (·.1)=vs.map (·.1):=by
 unfold KV at r
 induction r with
 | nil=>rfl
 | cons h t ih=>rw [List.map_cons,List.map_cons,ih,h.1]
theorem KV.length {kvs:List (κ×V)}{vs:List (κ×Value)}(r:KV kvs vs):kvs.length=vs.length:=Paired.length r
theorem a8G (kvs:List (κ×V))(k:κ):(a2E kvs k).length≤kvs.length:=List.length_filter_le _ _
end
theorem a4N {P:Program}{w:World}{k:Key}{u:Value}(r:RelV (kV k) u):(B8 P w).is k u=true:=by
 cases k with
 | inl i=>obtain ⟨t,e⟩:=(show ∃ t,u=Value.int i t from r); subst e; exact a5f P w i t
 | inr x=>obtain ⟨t,e⟩:=(show ∃ t,u=Value.str x t from r); subst e; exact a48 P w x t
theorem a3P {P:Program}{w:World}:∀ {ks:List Key} {us:List Value},Vals (ks.map kV) us→ItemsAre (B8 P w) ks us
 | [],_,r=>by rw [List.map_nil] at r; cases r; exact .nil
 | k::ks,_,r=>by
  rw [List.map_cons] at r
  cases r with
  | cons h t=>exact .cons (a4N h) (a3P t)
noncomputable abbrev KT (H:Hp):List (List Key×V)→List (List Key×Addr×Value)→Prop:=Paired fun p q=>p.1=q.1∧H q.2.1=some (.tup (p.1.map kV))∧RelV p.2 q.2.2
theorem KT.val {H:Hp}{kvs:List (List Key×V)}{xs:List (List Key×Addr×Value)}(r:KT H kvs xs)(k:List Key):W6 (W4 kvs k) ((atKey xs k).map (·.2)):=by
 induction r with
 | nil=>exact True.intro
 | @cons p q ps qs h t ih=>
  obtain ⟨h1,_,h2⟩:=h
  by_cases e:p.1=k
  ·have e':q.1=k:=h1.symm.trans e
   have b:atKey (q::qs) k=some q.2:=by simp [atKey,List.find?_cons,e']
   rw [a2D e,b]; exact h2
  ·have e':¬ q.1=k:=fun z=>e (h1.trans z)
   have b:atKey (q::qs) k=atKey qs k:=by simp [atKey,List.find?_cons,e']
   rw [a2N e,b]; exact ih
theorem KT.keeps {H H':Hp}{kvs:List (List Key×V)}{xs:List (List Key×Addr×Value)}(r:KT H kvs xs)(ht:∀ b ys,H b=some (.tup ys)→H' b=some (.tup ys)):KT H' kvs xs:=
 Paired.b1d r fun _ _ z=>⟨z.1,ht _ _ z.2.1,z.2.2⟩
section
variable {P:Program}{w:World}{H:Hp}{h:Heap}{a:Addr}
theorem b1U {u:HO}(ok:HOk P w H h)(e:Rd H a u):A4 P w H h a u:=e.ok ok
theorem P0 {kvs:List (Key×V)}(ok:HOk P w H h)(e:Rd H a (.dK kvs)):kvs.length≤sizeLine∧(a == sysModules)=false∧∃ vs,KV kvs vs∧h.DictOf (B8 P w) a vs:=
 show A4 P w H h a (.dK kvs) from b1U ok e
theorem b4Q {kvs:List (Key×V)}(ok:HOk P w H h)(e:H a=some (.dK kvs)):kvs.length≤sizeLine∧(a == sysModules)=false∧∃ vs,KV kvs vs∧h.DictOf (B8 P w) a vs:=P0 ok (.inl e)
theorem a31 {ks:List Key}(ok:HOk P w H h)(e:H a=some (.tup (ks.map kV))):(tupleKind (B8 P w)).is h ks a:=by
 obtain ⟨_,its,r,o,h1,h2,n,h3⟩:=(show A4 P w H h a (.tup (ks.map kV)) from ok a _ e)
 exact ⟨o,its.toArray,n,h1,h2,h3,by simpa using a3P r⟩
theorem a7d {kvs:List (List Key×V)}(ok:HOk P w H h)(e:Rd H a (.dT kvs)):kvs.length≤sizeLine∧(a == sysModules)=false∧
  ∃ xs,KT H kvs xs∧h.DictOfH (tupleKind (B8 P w)) a xs:=by
 obtain ⟨z,y,xs,r,o,es,ep,h1,h2,h3,h4,h5⟩:=(show A4 P w H h a (.dT kvs) from b1U ok e)
 refine ⟨z,y,xs,r,o,es,ep,h1,h2,h3,h4,fun x hx=>?_,h5⟩
 have all:∀ {l:List (List Key×V)} {m:List (List Key×Addr×Value)},KT H l m→∀ x∈m,(tupleKind (B8 P w)).is h x.1 x.2.1:=by
  intro l m q
  induction q with
  | nil=>intro x hx; exact nomatch hx
  | @cons p q ps qs hq t ih=>
   intro x hx
   rcases List.mem_cons.mp hx with e | hx
   ·subst e
    exact a31 ok (by rw [← hq.1]; exact hq.2.1)
   ·exact ih x hx
 exact all r x hx
end
noncomputable def W5 (H:Hp)(a:Addr)(y:V)(r:Option V):Prop:=
 (∃ kvs k,Rd H a (.dK kvs)∧y=kV k∧r=W4 kvs k)∨∃ kvs k b,Rd H a (.dT kvs)∧y=.ref b∧H b=some (.tup (k.map kV))∧r=W4 kvs k
noncomputable def b1b (H:Hp)(a:Addr)(y v:V)(H':Hp):Prop:=
 (∃ kvs k,H a=some (.dK kvs)∧y=kV k∧kvs.length < sizeLine∧H'=upd H a (.dK (putK kvs k v)))∨
 ∃ kvs k b,H a=some (.dT kvs)∧y=.ref b∧H b=some (.tup (k.map kV))∧kvs.length < sizeLine∧H'=upd H a (.dT (putK kvs k v))
theorem W5.k {H:Hp}{a:Addr}{kvs:List (Key×V)}{k:Key}(e:H a=some (.dK kvs)):W5 H a (kV k) (W4 kvs k):=.inl ⟨kvs,k,.inl e,rfl,rfl⟩
theorem W5.t {H:Hp}{a b:Addr}{kvs:List (List Key×V)}{k:List Key}(e:H a=some (.dT kvs))(eb:H b=some (.tup (k.map kV))):W5 H a (.ref b) (W4 kvs k):=.inr ⟨kvs,k,b,.inl e,rfl,eb,rfl⟩
theorem b1b.k {H:Hp}{a:Addr}{kvs:List (Key×V)}{k:Key}{v:V}(e:H a=some (.dK kvs))(hl:kvs.length < sizeLine):b1b H a (kV k) v (upd H a (.dK (putK kvs k v))):=.inl ⟨kvs,k,e,rfl,hl,rfl⟩
theorem b1b.t {H:Hp}{a b:Addr}{kvs:List (List Key×V)}{k:List Key}{v:V}(e:H a=some (.dT kvs))(eb:H b=some (.tup (k.map kV)))(hl:kvs.length < sizeLine):
  b1b H a (.ref b) v (upd H a (.dT (putK kvs k v))):=.inr ⟨kvs,k,b,e,rfl,eb,hl,rfl⟩
section
variable {X:Cx}{pins:List (Addr×Obj)}{σ:St}{H:Hp}{s:Shared}{a:Addr}{y v:V}{u r:Value}{o:Option V}{A:Around}{E:Value→Shared→Prop}
theorem a7W {Q:Value→Shared→Prop}(hu:A.units + 1 < cLine)(I:Inv X pins σ H s)(g:W5 H a y (some v))(ry:RelV y u)(h:∀ w' s',Inv X pins σ H s'→RelV v w'→Q w' s'):
  wpAny (model X.prog X.w) A (getItem (.ref a) u) Q E s:=by
 rcases g with ⟨kvs,k,e,ey,l⟩ | ⟨kvs,k,b,e,ey,eb,l⟩
 ·subst ey
  obtain ⟨z,hd,vs,rel,dd⟩:=P0 I.hok e
  obtain ⟨w',hw,rw'⟩:=W6.some_of (v:=v) (o:=valueAt vs k) (by rw [l]; exact rel.val k)
  exact wpAny_getItem_of (a4N ry) dd.mapOf hw (h w' _ (I.tok _) rw')
 ·subst ey
  cases (show u=Value.ref b from ry)
  obtain ⟨z,hd,xs,rel,dd⟩:=a7d I.hok e
  obtain ⟨w',hw,rw'⟩:=W6.some_of (v:=v) (o:=(atKey xs k).map (·.2)) (by rw [l]; exact rel.val k)
  obtain ⟨p,hp,hp2⟩:=Option.map_eq_some_iff.mp hw
  refine wpAny_getItem_heap (tupleKind_room_in1 hu) (a31 I.hok eb) dd hp ?_
  rw [hp2]
  exact h w' _ (I.tok _) rw'
theorem b5w {Q:Value→Shared→Prop}(hu:A.units + 1 < cLine)(I:Inv X pins σ H s)(g:W5 H a y o)(ry:RelV y u)(h:∀ s',Inv X pins σ H s'→Q (.bool o.isSome) s'):
  wpAny (model X.prog X.w) A (compareOp .In u (.ref a)) Q E s:=by
 rcases g with ⟨kvs,k,e,ey,l⟩ | ⟨kvs,k,b,e,ey,eb,l⟩
 ·subst ey
  obtain ⟨z,hd,vs,rel,dd⟩:=P0 I.hok e
  refine wpAny_in_of (a4N ry) hd dd.mapOf ?_
  rw [← (rel.val k).Z9,← l]
  exact h _ (I.tok _)
 ·subst ey
  cases (show u=Value.ref b from ry)
  obtain ⟨z,hd,xs,rel,dd⟩:=a7d I.hok e
  refine wpAny_in_heap (tupleKind_room_in1 hu) (a31 I.hok eb) hd dd ?_
  have q:=(rel.val k).Z9
  rw [Option.isSome_map] at q
  rw [← q,← l]
  exact h _ (I.tok _)
theorem b0C {Q:Value→Shared→Prop}(hu:A.units + 1 < cLine)(I:Inv X pins σ H s)(g:W5 H a y o)(ry:RelV y u)(h:∀ s',Inv X pins σ H s'→Q (.bool (!o.isSome)) s'):
  wpAny (model X.prog X.w) A (compareOp .NotIn u (.ref a)) Q E s:=by
 rcases g with ⟨kvs,k,e,ey,l⟩ | ⟨kvs,k,b,e,ey,eb,l⟩
 ·subst ey
  obtain ⟨z,hd,vs,rel,dd⟩:=P0 I.hok e
  refine wpAny_notIn_of (a4N ry) hd dd.mapOf ?_
  rw [← (rel.val k).Z9,← l]
  exact h _ (I.tok _)
 ·subst ey
  cases (show u=Value.ref b from ry)
  obtain ⟨z,hd,xs,rel,dd⟩:=a7d I.hok e
  refine wpAny_notIn_heap (tupleKind_room_in1 hu) (a31 I.hok eb) hd dd ?_
  have q:=(rel.val k).Z9
  rw [Option.isSome_map] at q
  rw [← q,← l]
  exact h _ (I.tok _)
theorem b1q {h':Heap}{t':Nat}{ob:HO}(I:Inv X pins σ H s)(mu:Mut (H a))(hs:Heap.SameBut a s.heap h')(he:∃ q,h'.get? a=some q)(new:A4 X.prog X.w (upd H a ob) h' a ob):
  Inv X pins σ (upd H a ob) { s with heap:=h',toks:=t' }:=
 I.write (x:=a) (e:=a) mu (.inl rfl) (fun b q hb z=>(hs.2 b hb).trans z) he new
theorem b2o {P:Program}{w:World}{H':Hp}{h':Heap}{kvs:List (Key×V)}{vs:List (Key×Value)}(z:kvs.length≤sizeLine)(hd:(a == sysModules)=false)(rel:KV kvs vs)(dd:h'.DictOf (B8 P w) a vs):
  A4 P w H' h' a (.dK kvs):=⟨z,hd,vs,rel,dd⟩
end
section
variable {X:Cx}{pins:List (Addr×Obj)}{σ:St}{H:Hp}{s:Shared}{a:Addr}{kvs:List (Key×V)}{k:Key}{u:Value}{A:Around}{E:Value→Shared→Prop}
theorem a98 {v:V}{more:List Value}{Q:Value→Shared→Prop}(I:Inv X pins σ H s)(e:H a=some (.dK kvs))(ry:RelV (kV k) u)(l:W4 kvs k=some v)(hm:more=[]∨∃ x,more=[x])
  (h:∀ w' s',Inv X pins σ (upd H a (.dK (a2E kvs k))) s'→RelV v w'→Q w' s'):wpAny (model X.prog X.w) A (call (.builtin "dict.pop") (.ref a::u::more)) Q E s:=by
 obtain ⟨z,hd,vs,rel,dd⟩:=b4Q I.hok e
 obtain ⟨w',hw,rw'⟩:=W6.some_of (v:=v) (o:=valueAt vs k) (by rw [← l]; exact rel.val k)
 have hp:(keyPart u).isSome=true:=by
  cases k with
  | inl i=>obtain ⟨t,q⟩:=(show ∃ t,u=Value.int i t from ry); subst q; rfl
  | inr x=>obtain ⟨t,q⟩:=(show ∃ t,u=Value.str x t from ry); subst q; rfl
 have ha:argsOk "dict.pop" ⟨.ref a::u::more,[]⟩:=by
  rcases hm with q | ⟨x,q⟩
  ·subst q; exact PySem.F.args_dict_pop_2 _ _
  ·subst q; exact PySem.F.args_dict_pop_3 _ _ _
 refine call_meetsIn PySem.F.slot_dict_pop dd.typeIs PySem.F.entry_dict_pop ha (meets_dict_pop_there (B8 X.prog X.w) a (a4N ry) more hm hp)
  ⟨vs,w',dd,by rw [← rel.length]; exact z,hw,fun h' dd' hs=>h w' _ ?_ rw'⟩
 have he:∃ q,h'.get? a=some q:=let ⟨q,_,_,hq,_⟩:=dd'; ⟨q,hq⟩
 exact b1q I (by rw [e]; exact True.intro) hs he (b2o (Nat.le_trans (a8G kvs k) z) hd (rel.drop k) dd')
theorem Q0 {Q:Value→Shared→Prop}(I:Inv X pins σ H s)(e:Rd H a (.dK kvs))(h:∀ t s',Inv X pins σ H s'→Q (.int kvs.length t) s'):wpAny (model X.prog X.w) A (call (.builtin "len") [.ref a]) Q E s:=by
 obtain ⟨z,hd,vs,rel,dd⟩:=P0 I.hok e
 refine call_len_dict hd dd (by rw [← rel.length]; rw [sizeLine_eq] at z; omega) ?_
 rw [← rel.length]
 exact h _ _ (I.tok _)
end
theorem a49 {X:Cx}{pins:List (Addr×Obj)}{σ:St}{H:Hp}{s:Shared}{a:Addr}{y:V}{o:Option V}(I:Inv X pins σ H s)(g:W5 H a y o):s.TypeIs (.ref a) "dict":=by
 rcases g with ⟨kvs,k,e,_,_⟩ | ⟨kvs,k,b,e,_,_,_⟩
 ·obtain ⟨_,_,vs,_,dd⟩:=P0 I.hok e
  exact dd.typeIs
 ·obtain ⟨_,_,xs,_,dd⟩:=a7d I.hok e
  exact dd.typeIs
end L2
set_option Elab.async false
set_option linter.all false
set_option maxRecDepth 100000
set_option maxHeartbeats 4000000
namespace L2
open PySem PySem.Spec PyProof.Rows
theorem a0n {env:Env}:∀ (names:List (Str×NameKind)) (cs:List (Str×Addr)),(∀ n,(n,NameKind.free)∈names→∃ c,env.cells.lookup n=some c)→(∀ n c,cs.lookup n=some c→env.cells.lookup n=some c)→
  ∃ cl,(forIn names cs (fun x r=>match x with | (name,kind)=>if (kind == NameKind.free)=true then do
   let c ← cellOf env name
   pure (ForInStep.yield ((name,c)::r)) else pure (ForInStep.yield r)):Sem (List (Str×Addr)))=pure cl∧(∀ n c,cl.lookup n=some c→env.cells.lookup n=some c)∧(∀ n,(n,NameKind.free)∈names→∃ c,cl.lookup n=some c)∧(∀ n c,cs.lookup n=some c→∃ c',cl.lookup n=some c')
 | [],cs,_,h2=>⟨cs,rfl,h2,fun _ h=>by simp at h,fun n c h=>⟨c,h⟩⟩
 | (name,kind)::rest,cs,h1,h2=>by
  have h1':∀ n,(n,NameKind.free)∈rest→∃ c,env.cells.lookup n=some c:=fun n h=>h1 n (List.mem_cons_of_mem _ h)
  rw [List.forIn_cons]
  by_cases hk:kind=NameKind.free
  ·subst hk
   obtain ⟨c,hc⟩:=h1 name List.mem_cons_self
   have h2':∀ n c',((name,c)::cs).lookup n=some c'→env.cells.lookup n=some c':=fun n c' h=>by
    rw [List.lookup_cons] at h
    cases hb:n == name with
    | true=>
     rw [hb] at h
     have e:n=name:=eq_of_beq hb
     subst e
     have e2:c=c':=by simpa using h
     subst e2
     exact hc
    | false=>
     rw [hb] at h
     exact h2 n c' h
   obtain ⟨cl,e,a,b,d⟩:=a0n rest ((name,c)::cs) h1' h2'
   refine ⟨cl,?_,a,fun n hn=>?_,fun n c' h=>?_⟩
   ·have hcell:cellOf env name=pure c:=by unfold cellOf; rw [hc]
    simp only [beq_self_eq_true,if_true,hcell,pure_bind]
    exact e
   ·rcases List.mem_cons.mp hn with hn | hn
    ·have e3:n=name:=(Prod.mk.inj hn).1
     subst e3
     exact d n c (by simp [List.lookup_cons])
    ·exact b n hn
   ·cases hb:n == name with
    | true=>exact d n c (by rw [List.lookup_cons,hb])
    | false=>exact d n c' (by rw [List.lookup_cons,hb]; exact h)
  ·have hb:(kind == NameKind.free)=false:=by simpa using hk
   obtain ⟨cl,e,a,b,d⟩:=a0n rest cs h1' h2
   refine ⟨cl,?_,a,fun n hn=>?_,d⟩
   ·simp only [hb,Bool.false_eq_true,if_false,pure_bind]
    exact e
   ·rcases List.mem_cons.mp hn with hn | hn
    ·exact absurd (Prod.mk.inj hn).2.symm hk
    ·exact b n hn
theorem a5X {scope:Scope}{env:Env}(h:∀ n,(n,NameKind.free)∈scope.names→∃ c,env.cells.lookup n=some c):
  ∃ cl,closureFor scope env=pure cl∧(∀ n c,cl.lookup n=some c→env.cells.lookup n=some c)∧(∀ n,(n,NameKind.free)∈scope.names→∃ c,cl.lookup n=some c):=by
 obtain ⟨cl,e,a,b,_⟩:=a0n (env:=env) scope.names [] h (fun n c h=>by simp at h)
 refine ⟨cl,?_,a,b⟩
 unfold closureFor
 have e':=congrArg (fun (m:Sem (List (Str×Addr)))=>m >>= fun cs=>pure cs) e
 simp only [pure_bind] at e'
 exact e'
noncomputable abbrev Cx.blk (X:Cx)(scope:Scope)(cl:List (Str×Addr))(C:Addr)(M:List Str)(s:Shared)(H:Hp)(ex:List Addr):Cx:=
 { X with N:=M,s₀:=s,H₀:=H,env:=compEnvC scope cl C X.env,outer:=X.stack,stack:=X.stack,ex:=ex,fn:=fun y=>scope.names.lookup y == some .cell,pn:=[],xe:=fun _ _=>False }
structure Blk (X:Cx) (scope:Scope) (M:List Str) (own:Nat) (fr:List Nat):Prop where
 kind:scope.kind=.function
 cells:∀ y∈scope.names,y.2=.cell→scope.names.lookup y.1=some .cell
 names:∀ y∈scope.names,y.2=.local→scope.names.lookup y.1=some .local
 free:∀ y∈scope.names,y.2=.free→X.env.kindOf y.1=some .cell∨X.env.kindOf y.1=some .free
 nd:M.Nodup
 len:M.length=own + fr.length
 at':∀ i j,fr[i]?=some j→M[own + i]?=X.N[j]?∧∃ n,X.N[j]?=some n∧scope.names.lookup n=some .free∧(X.env.kindOf n=some .cell∨X.env.kindOf n=some .free)
noncomputable def seen (own:Nat)(fr:List Nat)(σ:St):St:=List.replicate own none++fr.map fun j=>(σ[j]?).join
theorem U3 {g:Str×NameKind→Str×NameKind}(hg:∀ p,(g p).1=p.1):∀ (names:List (Str×NameKind)) (n:Str),(names.map g).lookup n=(names.lookup n).map fun k=>(g (n,k)).2
 | [],_=>rfl
 | (m,k)::r,n=>by
  have e:g (m,k)=(m,(g (m,k)).2):=Prod.ext (hg (m,k)) rfl
  rw [List.map_cons,e]
  by_cases hx:n=m
  ·subst hx
   simp [List.lookup_cons]
  ·have hb:(n == m)=false:=by simpa using hx
   simp only [List.lookup_cons,hb]
   exact U3 hg r n
theorem R7 (scope:Scope)(env:Env):∃ g:Str×NameKind→Str×NameKind,(relabel scope env).names=scope.names.map g∧(∀ p,(g p).1=p.1)∧∀ n k,(g (n,k)).2=k∨(k=.free∧(g (n,k)).2=.cell):=by
 refine ⟨_,rfl,fun p=>?_,fun n k=>?_⟩
 ·obtain ⟨n,k⟩:=p
  dsimp only
  split <;> rfl
 ·dsimp only
  by_cases hc:(k == NameKind.free && env.scope.kind == ScopeKind.function && env.kindOf n == some NameKind.cell)=true
  ·rw [if_pos hc]
   refine .inr ⟨?_,rfl⟩
   simp only [Bool.and_eq_true] at hc
   exact eq_of_beq hc.1.1
  ·rw [if_neg hc]
   exact .inl rfl
theorem a4p {scope:Scope}{env:Env}{n:Str}(h:scope.names.lookup n=some .free):(relabel scope env).names.lookup n=some .free∨(relabel scope env).names.lookup n=some .cell:=by
 obtain ⟨g,e,h1,h2⟩:=R7 scope env
 rw [e,U3 h1,h]
 rcases h2 n .free with q | ⟨_,q⟩
 ·exact .inl (by show some (g (n,.free)).2=_; rw [q])
 ·exact .inr (by show some (g (n,.free)).2=_; rw [q])
theorem a1z {scope:Scope}{env:Env}{n:Str}(h:scope.names.lookup n=some .cell):(relabel scope env).names.lookup n=some .cell:=by
 obtain ⟨g,e,h1,h2⟩:=R7 scope env
 rw [e,U3 h1,h]
 rcases h2 n .cell with q | ⟨q,_⟩
 ·show some (g (n,.cell)).2=_
  rw [q]
 ·cases q
theorem a30 {scope:Scope}{env:Env}{n:Str}(h:(relabel scope env).names.lookup n=some .cell∨(relabel scope env).names.lookup n=some .free):(n,NameKind.free)∈scope.names∨(n,NameKind.cell)∈scope.names:=by
 obtain ⟨g,e,h1,h2⟩:=R7 scope env
 rw [e,U3 h1] at h
 cases hk:scope.names.lookup n with
 | none=>rw [hk] at h; rcases h with h | h <;> cases h
 | some k=>
  have hm:=PySem.mem_of_lookup hk
  rw [hk] at h
  have h':(g (n,k)).2=.cell∨(g (n,k)).2=.free:=by
   rcases h with h | h
   ·exact .inl (Option.some.inj h)
   ·exact .inr (Option.some.inj h)
  rcases h2 n k with q | ⟨q,_⟩
  ·rcases h' with z | z
   ·rw [q.symm.trans z] at hm; exact .inr hm
   ·rw [q.symm.trans z] at hm; exact .inl hm
  ·rw [q] at hm; exact .inl hm
theorem t7:∀ (names:List (Str×NameKind)) (n:Nat) (acc:List (Str×Addr)),cellsFrom n names acc=cellsFrom n names []++acc
 | [],_,_=>rfl
 | (x,k)::r,n,acc=>by
  unfold cellsFrom
  split
  ·rw [t7 r (n + 1) ((x,n)::acc),t7 r (n + 1) [(x,n)],List.append_assoc]
   rfl
  ·exact t7 r n acc
theorem P1:∀ (names:List (Str×NameKind)) (n:Nat) (x:Str) (c:Addr),(x,c)∈cellsFrom n names []→(x,NameKind.cell)∈names
 | [],_,_,_,h=>by cases h
 | (y,k)::r,n,x,c,h=>by
  unfold cellsFrom at h
  split at h
  ·rename_i hk
   rw [t7] at h
   rcases List.mem_append.mp h with h | h
   ·exact List.mem_cons_of_mem _ (P1 r (n + 1) x c h)
   ·have e:=List.mem_singleton.mp h
    cases e
    rw [eq_of_beq hk]
    exact List.mem_cons_self
  ·exact List.mem_cons_of_mem _ (P1 r n x c h)
theorem L0:∀ (names:List (Str×NameKind)) (n:Nat) (x:Str),(x,NameKind.cell)∈names→∃ c,(x,c)∈cellsFrom n names []
 | [],_,_,h=>by cases h
 | (y,k)::r,n,x,h=>by
  unfold cellsFrom
  rcases List.mem_cons.mp h with h | h
  ·cases h
   rw [if_pos (by rfl),t7]
   exact ⟨n,List.mem_append_right _ (List.mem_singleton.mpr rfl)⟩
  ·split
   ·obtain ⟨c,hc⟩:=L0 r (n + 1) x h
    rw [t7]
    exact ⟨c,List.mem_append_left _ hc⟩
   ·exact L0 r n x h
theorem Q8 {x:Str}:∀ {l:List (Str×Addr)} {c:Addr},(x,c)∈l→∃ c',l.lookup x=some c'
 | (k,v)::r,c,h=>by
  rw [List.lookup_cons]
  cases hb:x == k with
  | true=>exact ⟨v,rfl⟩
  | false=>
   rcases List.mem_cons.mp h with e | h
   ·cases e
    simp at hb
   ·exact Q8 h
theorem a0r {scope:Scope}{n:Nat}{cl:List (Str×Addr)}{x:Str}{c:Addr}(h:(cellsFrom n scope.names cl).lookup x=some c):((x,c)∈cellsFrom n scope.names []∧(cellsFrom n scope.names []).lookup x=some c)∨cl.lookup x=some c:=by
 rw [t7,List.lookup_append] at h
 cases e:(cellsFrom n scope.names []).lookup x with
 | some c'=>
  rw [e] at h
  cases h
  exact .inl ⟨mem_of_lookup e,rfl⟩
 | none=>rw [e] at h; exact .inr h
theorem a5w {scope:Scope}{n:Nat}{cl:List (Str×Addr)}{x:Str}(h:(x,NameKind.cell)∈scope.names∨∃ c,cl.lookup x=some c):∃ c,(cellsFrom n scope.names cl).lookup x=some c:=by
 rw [t7,List.lookup_append]
 cases e:(cellsFrom n scope.names []).lookup x with
 | some c'=>exact ⟨c',rfl⟩
 | none=>
  rcases h with h | ⟨c,h⟩
  ·obtain ⟨c,hc⟩:=L0 scope.names n x h
   obtain ⟨c',e'⟩:=Q8 hc
   rw [e] at e'
   cases e'
  ·exact ⟨c,h⟩
theorem a51 {M:Model}{A:Around}{E:Value→Shared→Prop}{s:Shared}{scope:Scope}{env:Env}{cl:List (Str×Addr)}{Q:Env→Shared→Prop}
  (h:Q { scope,locals:=s.heap.objs.size,globals:=env.globals,cells:=cellsFrom (s.heap.objs.size + 1) scope.names cl,qual:=env.qual,func:=none,code:=env.code,frame:=env.frame,builtins:=env.builtins } { s with heap:=pushCells (s.heap.push { cls:=.type "dict",data:=.dict #[] }) scope.names }):
  wpAny M A (newFunctionEnv scope env.globals cl [] env.qual none .none (some env)) Q E s:=by
 simp only [newFunctionEnv,Option.isSome_some,if_true]
 refine wpAny_bind (wpAny_alloc ?_)
 refine wpAny_bind (wpAny_layCells _ (fun name kind cells=>by cases hkc:kind == NameKind.cell <;> simp [hkc]) _ _ _ _ ?_)
 rw [show ({ s with heap:=s.heap.push { cls:=.type "dict",data:=.dict #[] } }:Shared).heap.objs.size=s.heap.objs.size + 1 from Heap.size_push ..]
 exact wpAny_pure h
noncomputable def PF (X:Cx)(ifs:List Expr)(t:TT):Prop:=
 ∀ (pins:List (Addr×Obj)) (s:Shared) (σ:St) (H:Hp) (Q:Bool→Hp→Prop),Inv X pins σ H s→t σ H Q→
  wpAny (model X.prog X.w) X.A (forIn ifs true fun c r=>if r=true then do let ok ← isTrue c X.env (eval c X.env); pure (ForInStep.yield ok) else pure (ForInStep.yield r)) (TP X pins σ Q) X.xe s
noncomputable def b5s:TT:=fun _ H Q=>Q true H
theorem b3P {X:Cx}:PF X [] b5s:=fun _ _ _ H _ I h=>wpAny_tests_nil ⟨H,I,h⟩
section
variable {prog:Program}{w:World}{A:Around}{R:Result→Shared→Prop}{s:Shared}
theorem a4E {elt target iter:Expr}{ifs:List Expr}{scope:Scope}{pos:Pos}{it acc:Value}{env:Env}(I:Nat→Shared→Prop)
  (turn:∀ n s,I n s→wpAny (model prog w) A (pyNext it) (fun r s1=>match r with
   | none=>R (.ok .next) s1
   | some v=>wpAny (model prog w) A (letOwnedTupleGo target it v) (fun _ s1'=>wpAny (model prog w) A (assign target env v) (fun _ s2=>
     wpAny (model prog w) A (forIn ifs true fun c r=>if r=true then do let ok ← isTrue c env (eval c env); pure (ForInStep.yield ok) else pure (ForInStep.yield r)) (fun ok s3=>
      if ok=true then wpAny (model prog w) A (eval elt env) (fun x s4=>
       wpAny (model prog w) A (call (.builtin "list.append") [acc,x]) (fun _ s5=>∃ m,m < n∧I m s5) (fun _ _=>False) s4) (fun _ _=>False) s3
      else ∃ m,m < n∧I m s3) (fun _ _=>False) s2) (fun _ _=>False) s1') (fun _ _=>False) s1) (fun _ _=>False) s)
  (n:Nat) (h:I n s):
  codeAny (model prog w) A (.compLoop (.ListComp elt [⟨target,iter,ifs,0⟩] scope pos) 0 it acc env) R s:=by
 refine codeAny_loop rfl I (fun n s hI=>?_) n h
 show wpAny _ A ((compTurn (.ListComp elt [⟨target,iter,ifs,0⟩] scope pos) 0 it acc env).onRaise (fun x=>do noteFrame x env; theTreesLotGoes x)) _ _ s
 refine wpAny_noted ?_
 rw [compTurn_list]
 refine wpAny_bind (wpAny_standAt (wpAny_bind (wpAny_mono (turn n s hI) (fun r s1 h1=>?_) fun _ _ h'=>h'.elim)))
 cases r with
 | none=>exact wpAny_pure h1
 | some v=>
  refine wpAny_bind (wpAny_mono h1 (fun _ s1' h1'=>?_) fun _ _ h'=>h'.elim)
  refine wpAny_bind (wpAny_mono h1' (fun _ s2 h2=>wpAny_bind (wpAny_mono h2 (fun ok s3 h3=>?_) fun _ _ h'=>h'.elim)) fun _ _ h'=>h'.elim)
  cases ok with
  | false=>exact wpAny_pure ⟨rfl,h3⟩
  | true=>
   exact wpAny_bind (wpAny_bind (wpAny_mono h3 (fun x s4 h4=>wpAny_bind (wpAny_mono h4 (fun _ s5 h5=>wpAny_pure (wpAny_pure ⟨rfl,h5⟩)) fun _ _ h'=>h'.elim)) fun _ _ h'=>h'.elim))
end
noncomputable def a4B (own:Nat)(fr:List Nat)(g:TG):Prop:=∀ x σ H R,g x (seen own fr σ) H R→g x (seen own fr σ) H fun σ2 H3=>(∀ (i:Nat) v,(seen own fr σ)[i]?=some (some v)→σ2[i]?=some (some v))∧R σ2 H3
noncomputable def b2E (J:It)(g:TG)(tf:TT)(te:TE)(own:Nat)(fr:List Nat)(σ:St)(Q:VK)(H1:Hp):Prop:=
 ∃ W:Nat→Nat→List V→Hp→Prop,(∃ m,W 0 m [] H1)∧∀ i m ys H2,W i m ys H2→
  (J.stop i H2∧∀ p,H2 p=none→Q (.ref p) (upd H2 p (.lst ys)))∨
  (J.go i H2∧ys.length < sizeLine∧∃ N:List V→Hp→Prop,(∀ ys' H',N ys' H'→∃ m',m' < m∧W (i + 1) m' ys' H')∧
   ∀ x H',J.yld i H2 x H'→g x (seen own fr σ) H' fun σ2 H3=>tf σ2 H3 fun c H4=>if c=true then te σ2 H4 fun y H5=>N (ys++[y]) H5 else N ys H4)
noncomputable def a3C (wi:TI)(g:TG)(tf:TT)(te:TE)(own:Nat)(fr:List Nat):TE:=fun σ H Q=>wi σ H fun J H1=>b2E J g tf te own fr σ Q H1
section
variable {X:Cx}{pins:List (Addr×Obj)}{σ:St}{H H2:Hp}{s s2:Shared}
theorem a5h {own:Nat}{fr:List Nat}{σ:St}{i:Nat}{v:V}(h:(seen own fr σ)[i]?=some (some v)):∃ k j,i=own + k∧fr[k]?=some j∧σ[j]?=some (some v):=by
 unfold seen at h
 by_cases hi:i < own
 ·rw [List.getElem?_append_left (by simpa using hi),List.getElem?_replicate,if_pos hi] at h
  cases h
 ·rw [List.getElem?_append_right (by simpa using hi)] at h
  simp only [List.length_replicate,List.getElem?_map] at h
  cases e:fr[i - own]? with
  | none=>rw [e] at h; cases h
  | some j=>
   rw [e] at h
   simp only [Option.map_some,Option.some.injEq] at h
   refine ⟨i - own,j,by omega,e,?_⟩
   cases q:σ[j]? with
   | none=>rw [q] at h; cases h
   | some o=>
    rw [q] at h
    have h':o=some v:=h
    rw [h']
theorem seen_length (own:Nat)(fr:List Nat)(σ:St):(seen own fr σ).length=own + fr.length:=by
 unfold seen
 rw [List.length_append,List.length_replicate,List.length_map]
theorem a6Y {own:Nat}{fr:List Nat}{i:Nat}(hi:i < own):a4B own fr (a1p i):=fun x σ H R h=>⟨fun k v e=>by
 obtain ⟨j,_,rfl,_⟩:=a5h e
 rw [List.getElem?_set_ne (by omega)]
 exact e,h⟩
theorem Inv.block {scope:Scope}{M:List Str}{own:Nat}{fr:List Nat}{cl:List (Str×Addr)}{h1:Heap}{fp:List Addr}{t1:Nat}(B:Blk X scope M own fr)(I:Inv X pins σ H2 s2)
  (cl1:∀ n c,cl.lookup n=some c→X.env.cells.lookup n=some c∨(scope.names.lookup n=some .cell∧s2.heap.objs.size + 1 < c∧h1.IsCell c none)) (cl3:∀ n n' c,cl.lookup n=some c→cl.lookup n'=some c→s2.heap.objs.size + 1 < c→n=n') (cl2:∀ n,(n,NameKind.free)∈scope.names∨(n,NameKind.cell)∈scope.names→∃ c,cl.lookup n=some c)
  (cl4:∀ n c,cl.lookup n=some c→scope.names.lookup n=some .cell→s2.heap.objs.size + 1 < c)
  (hfp:∀ b∈fp,a2j X pins H2 b∧b < s2.heap.objs.size)
  (hns:h1.Ns (s2.heap.objs.size + 1) fun _=>none) (hsb:∀ b o,b < s2.heap.objs.size + 1→(s2.heap.push { cls:=.type "list",data:=.seq ([]:List Value).toArray }).get? b=some o→h1.get? b=some o):
  Inv (X.blk scope cl (s2.heap.objs.size + 1) M { s2 with heap:=s2.heap.push { cls:=.type "list",data:=.seq ([]:List Value).toArray } } H2 (s2.heap.objs.size::fp))
   [(s2.heap.objs.size,{ cls:=.type "list",data:=.seq ([]:List Value).toArray })] (seen own fr σ) H2 { s2 with heap:=h1,toks:=t1 }:=by
 have hpush:∀ b o,s2.heap.get? b=some o→(s2.heap.push { cls:=.type "list",data:=.seq ([]:List Value).toArray }).get? b=some o:=fun b o e=>Heap.get?_push_of_some _ e
 have old:∀ b o,s2.heap.get? b=some o→h1.get? b=some o:=fun b o e=>hsb b o (Nat.lt_succ_of_lt (Heap.lt_size e)) (hpush b o e)
 have hD:h1.get? s2.heap.objs.size=some { cls:=.type "list",data:=.seq ([]:List Value).toArray }:=hsb _ _ (Nat.lt_succ_self _) (Heap.get?_push_size _ rfl)
 have hHD:H2 s2.heap.objs.size=none:=I.hok.fresh (Nat.le_refl _)
 have hHC:H2 (s2.heap.objs.size + 1)=none:=I.hok.fresh (Nat.le_succ _)
 have cellLt:∀ x c,X.env.cells.lookup x=some c→c < s2.heap.objs.size:=fun x c e=>by
  obtain ⟨v,q⟩:=I.cell x c e
  exact q.lt
 have szp:(s2.heap.push { cls:=.type "list",data:=.seq ([]:List Value).toArray }).objs.size=s2.heap.objs.size + 1:=Heap.size_push _ _
 have Ok:(X.blk scope cl (s2.heap.objs.size + 1) M { s2 with heap:=s2.heap.push { cls:=.type "list",data:=.seq ([]:List Value).toArray } } H2 (s2.heap.objs.size::fp)).Ok:=by
  refine ⟨I.ok.mod,B.kind,I.ok.glob,I.ok.blt,?_,?_,?_,?_,I.ok.hd,I.ok.frames,.inl rfl,?_,?_,?_,?_,?_,?_,?_⟩
  ·show (s2.heap.push _).objs.size≤s2.heap.objs.size + 1
   rw [szp]
   exact Nat.le_refl _
  ·intro x y c e1 e2
   rcases cl1 _ _ e1 with q1 | ⟨_,q1,_⟩
   ·rcases cl1 _ _ e2 with q2 | ⟨_,q2,_⟩
    ·exact I.ok.inj x y c q1 q2
    ·exact absurd (Nat.lt_trans (Nat.lt_succ_of_lt (cellLt x c q1)) q2) (Nat.lt_irrefl _)
   ·exact cl3 x y c e1 e2 q1
  ·intro x hx
   exact cl2 x (a30 hx)
  ·intro x c hx e
   have q:=cl4 x c e (eq_of_beq hx)
   show (s2.heap.push _).objs.size≤c
   rw [szp]
   omega
  ·intro b hb
   rcases List.mem_cons.mp hb with rfl | hb
   ·refine ⟨Nat.ne_of_lt (Nat.lt_succ_self _),fun x c e=>?_⟩
    rcases cl1 _ _ e with q | ⟨_,q,_⟩
    ·exact Nat.ne_of_lt (cellLt x c q)
    ·exact Nat.ne_of_gt (Nat.lt_trans (Nat.lt_succ_self _) q)
   ·refine ⟨Nat.ne_of_lt (Nat.lt_succ_of_lt (hfp b hb).2),fun x c e=>?_⟩
    rcases cl1 _ _ e with q | ⟨_,q,_⟩
    ·exact (hfp b hb).1.2.2.2.2.1 x c q
    ·exact Nat.ne_of_gt (Nat.lt_trans (Nat.lt_succ_of_lt (hfp b hb).2) q)
  ·intro b o e
   exact ⟨hpush b o (I.bs b o e).1,(I.bs b o e).2⟩
  ·show X.base.objs.size≤(s2.heap.push _).objs.size
   rw [szp]
   exact Nat.le_succ_of_le (Nat.le_trans I.ok.bsz I.sz)
  ·intro b o e hb
   rcases List.mem_cons.mp hb with rfl | hb
   ·exact absurd (Heap.lt_size (I.bs _ _ e).1) (Nat.lt_irrefl _)
   ·have q:=(hfp b hb).1.2.2.2.1
    rcases q with q | q
    ·exact I.ok.noex b o e q
    ·exact absurd (Nat.lt_of_lt_of_le (Heap.lt_size (I.ok.bs b o e).1) q) (Nat.lt_irrefl _)
  ·intro b hb hf
   have hf':b∈frs X.stack:=hf
   rcases List.mem_cons.mp hb with rfl | hb
   ·rcases List.mem_cons.mp (I.a1m _ hf') with e | e
    ·exact absurd I.lt (by rw [← e]; exact Nat.lt_irrefl _)
    ·exact I.b3z (Nat.le_refl _) e
   ·rcases List.mem_cons.mp (I.a1m _ hf') with e | e
    ·exact (hfp b hb).1.2.1 e
    ·exact (hfp b hb).1.2.2.1 e
  ·have q:=I.stack
   have all:∀ (l:List Env),s2.heap.FunFrames X.base l→(s2.heap.push { cls:=.type "list",data:=.seq ([]:List Value).toArray }).FunFrames X.base l:=by
    intro l
    induction l with
    | nil=>intro _; trivial
    | cons env r ih=>
     intro hl
     obtain ⟨hk,⟨L,o,hf,hn,ho,hd⟩,hr⟩:=hl
     exact ⟨hk,⟨L,o,hf,hn,hpush L o ho,hd⟩,ih hr⟩
   exact all _ q
  ·intro b hb
   exact I.a6B b hb
 refine ⟨Ok,rfl,I.bare,?_,?_,?_,hHC,?_,?_,I.hok.kept old,?_⟩
 ·refine Un.kept fun b u e=>?_
  exact hsb b u (by have:=Heap.lt_size e; rw [szp] at this; exact this) e
 ·refine ⟨_,hns,fun i x v e1 e2 e3=>?_⟩
  obtain ⟨k,j,rfl,hk,hv⟩:=a5h e2
  obtain ⟨e4,n,e5,hfree,hcell⟩:=B.at' k j hk
  have ex:x=n:=by
   have e1':M[own + k]?=some x:=e1
   rw [e4,e5] at e1'
   exact (Option.some.inj e1').symm
  subst ex
  obtain ⟨m,_,hl⟩:=I.loc
  have hvis:Vis X.env.scope x:=by
   rcases hcell with h | h
   ·exact .inr (.inl h)
   ·exact .inr (.inr h)
  obtain ⟨u,ru,lk⟩:=hl j x v e5 hv hvis
  refine ⟨u,ru,.inr ⟨?_,?_⟩⟩
  ·have q:=a4p (scope:=scope) (env:=X.env) hfree
   exact q.symm
  ·have hcell':∃ c,X.env.cells.lookup x=some c∧s2.heap.IsCell c (some u):=by
    rcases lk with ⟨q,_⟩ | ⟨_,q⟩
    ·rcases hcell with h | h
     ·rw [h] at q; cases q
     ·rw [h] at q; cases q
    ·exact q
   obtain ⟨c,e6,e7⟩:=hcell'
   obtain ⟨c',e8⟩:=cl2 x (.inl (PySem.mem_of_lookup hfree))
   rcases cl1 x c' e8 with e9 | ⟨e9,_⟩
   ·rw [e6] at e9
    cases e9
    obtain ⟨o,ho,hd⟩:=e7
    exact ⟨c,e8,o,old c o ho,hd⟩
   ·rw [hfree] at e9
    cases e9
 ·intro x c e
  rcases cl1 _ _ e with q | ⟨_,_,q⟩
  ·obtain ⟨v,o,ho,hd⟩:=I.cell x c q
   exact ⟨v,o,old c o ho,hd⟩
  ·exact ⟨_,q⟩
 ·intro x c e
  rcases cl1 _ _ e with q | ⟨_,q,_⟩
  ·exact I.freeC x c q
  ·exact I.hok.fresh (by omega)
 ·intro p hp
  have e:p=(s2.heap.objs.size,{ cls:=.type "list",data:=.seq ([]:List Value).toArray }):=List.mem_singleton.mp hp
  subst e
  refine ⟨hD,hHD,Nat.ne_of_lt (Nat.lt_succ_self _),fun hf=>?_,fun v z=>?_⟩
  ·rcases List.mem_cons.mp (I.a1m _ hf) with e | e
   ·exact absurd I.lt (by rw [← e]; exact Nat.lt_irrefl _)
   ·exact I.b3z (Nat.le_refl _) e
  ·have z':Data.seq ([]:List Value).toArray _=Data.cell v:=z
   cases z'
 ·rw [seen_length]
  exact B.len.symm
theorem Inv.a9B {scope:Scope}{M:List Str}{cl:List (Str×Addr)}{fp:List Addr}{τ:St}{H':Hp}{s':Shared}{h':Heap}{ys:List V}{its:List Value}{n:Nat}(I:Inv X pins σ H2 s2)
  (hfp:∀ b∈fp,a2j X pins H2 b)
  (J:Inv (X.blk scope cl (s2.heap.objs.size + 1) M { s2 with heap:=s2.heap.push { cls:=.type "list",data:=.seq ([]:List Value).toArray } } H2 (s2.heap.objs.size::fp))
   [(s2.heap.objs.size,{ cls:=.type "list",data:=.seq its.toArray n })] τ H' s')
  (hv:Vals ys its) (hz:ys.length≤sizeLine) (hs:Heap.SameBut (s2.heap.objs.size + 1) s'.heap h'):Inv X pins σ (upd H' s2.heap.objs.size (.lst ys)) { s' with heap:=h' }:=by
 obtain ⟨eD,nD,_,_,_⟩:=J.pin _ (List.mem_append_right _ (List.mem_singleton.mpr rfl))
 have nC:H' (s2.heap.objs.size + 1)=none:=J.free
 have kp:∀ b o,b≠s2.heap.objs.size + 1→s'.heap.get? b=some o→h'.get? b=some o:=fun b o hb e=>(hs.2 b hb).trans e
 have hpush:∀ b o,s2.heap.get? b=some o→(s2.heap.push { cls:=.type "list",data:=.seq ([]:List Value).toArray }).get? b=some o:=fun b o e=>Heap.get?_push_of_some _ e
 have neD:∀ b o,s2.heap.get? b=some o→b≠s2.heap.objs.size:=fun b o e=>Nat.ne_of_lt (Heap.lt_size e)
 have neC:∀ b o,s2.heap.get? b=some o→b≠s2.heap.objs.size + 1:=fun b o e=>Nat.ne_of_lt (Nat.lt_succ_of_lt (Heap.lt_size e))
 have hex:∀ b o,s2.heap.get? b=some o→b∉fp→b∉s2.heap.objs.size::fp:=fun b o e h z=>(List.mem_cons.mp z).elim (neD b o e) h
 have neT:∀ b u,H' b=some u→b≠s2.heap.objs.size:=fun b u e z=>by rw [z,nD] at e; cases e
 have neTC:∀ b u,H' b=some u→b≠s2.heap.objs.size + 1:=fun b u e z=>by rw [z,nC] at e; cases e
 refine I.b10 (s':={ s' with heap:=h' }) (ch:=fp) J.os ?_ ?_ J.bare fun b hb=>?_
 ·refine ⟨fun b o e n hb hx=>?_,fun b o e n hb hx=>?_,fun b o e n hx=>?_,fun b o e hx=>?_,fun b xs e=>?_,fun b o xs e=>?_,fun b ps e=>?_⟩
  ·exact kp b o (neC b o e) (J.base.keep b o (hpush b o e) n hb (hex b o e hx))
  ·obtain ⟨sl,q⟩:=J.base.slot b o (hpush b o e) n hb (hex b o e hx)
   exact ⟨sl,kp b _ (neC b o e) q⟩
  ·rw [j3 (neD b o e)]
   exact J.base.free b o (hpush b o e) n (hex b o e hx)
  ·obtain ⟨o',q⟩:=J.base.there b o (hpush b o e) (hex b o e hx)
   exact ⟨o',kp b _ (neC b o e) q⟩
  ·have q:=J.base.tups b xs e
   rw [j3 (neT b _ q)]
   exact q
  ·have q:=J.base.frzs b o xs e
   rw [j3 (neT b _ q)]
   exact q
  ·obtain ⟨more,q⟩:=J.base.tbls b ps e
   rw [j3 (neT b _ q)]
   exact ⟨more,q⟩
 ·intro a o e
  by_cases ha:a=s2.heap.objs.size
  ·subst ha
   rw [l8] at e
   cases e
   exact ⟨hz,its,n,hv,kp _ _ (Nat.ne_of_lt (Nat.lt_succ_self _)) eD⟩
  ·rw [j3 ha] at e
   refine (J.hok a o e).stay (fun c v hc q=>kp c v ?_ q) (fun c q=>by rw [j3 (neT c _ q)]; exact q) fun c xs q=>by rw [j3 (neT c _ q)]; exact q
   rcases hc with rfl | hc
   ·exact neTC c o e
   ·exact neTC c _ hc
 ·obtain ⟨f0,f1,f2,f3,f4,f5⟩:=hfp b hb
  exact ⟨f3,f1,f4,f5⟩
theorem a5Z {E:Value→Shared→Prop}{D:Addr}{its:List Value}{n:Nat}{u:Value}{Q:Value→Shared→Prop}{pr:Program}{w:World}{A:Around}(e:s.heap.get? D=some { cls:=.type "list",data:=.seq its.toArray n }) (hz:its.length≤sizeLine)
  (h:∀ h' n',h'.get? D=some { cls:=.type "list",data:=.seq (its++[u]).toArray n' }→(∀ b o,b≠D→s.heap.get? b=some o→h'.get? b=some o)→Q .none { s with heap:=h' }):
  wpAny (model pr w) A (call (.builtin "list.append") [.ref D,u]) Q E s:=by
 refine call_meets F.slot_list_append ⟨_,e,rfl⟩ F.entry_list_append (F.args_list_append_2 _ _) (PySem.list_append D its.toArray n u (by rw [List.size_toArray]; omega)) ⟨e,?_⟩
 have q:=PySem.IsL.update e (fun xs=>xs.push u)
 have ea:its.toArray.push u=(its++[u]).toArray:=by simp
 have q':(s.heap.update D (Obj.mapSeq fun xs=>xs.push u)).get? D=some { cls:=.type "list",data:=.seq (its++[u]).toArray (if (its.toArray.push u).size == its.toArray.size then n else n + 1) }:=by
  rw [← ea]
  exact q
 exact h _ _ q' fun b o hb eb=>(Heap.get?_update_other s.heap _ (Ne.symm hb)).trans eb
variable {scope:Scope}{M:List Str}{own:Nat}{fr:List Nat}{tg iter elt:Expr}{ifs:List Expr}{pos:Pos}{wi:TI}{g:TG}{tf:TT}{te:TE}
theorem a44 {use:Option (Value→Sem Unit)}{Q':Value→Shared→Prop}{Q:VK}(B:Blk X scope M own fr)(hc:X.calm=true)(hi:PI X tg iter wi)
  (hg:∀ cl C s H ex,PG (X.blk scope cl C M s H ex) tg g) (hk:a4B own fr g) (hf:∀ cl C s H ex,PF (X.blk scope cl C M s H ex) ifs tf) (he:∀ cl C s H ex,PE (X.blk scope cl C M s H ex) elt te)
  (hs:∀ x,foldedSetIterable iter X.env x=pure x) (I:Inv X pins σ H s) (h:a3C wi g tf te own fr σ H Q)
  (fin:∀ (D C:Addr) (H':Hp) (s':Shared),(∃ m,s'.heap.Ns C m)→a2j X pins H' C→Inv X pins σ H' s'→Q (.ref D) H'→compPost (model X.prog X.w) X.A X.xe use Q' (.ref D) C (.ok .next) s'):
  wpAny (model X.prog X.w) X.A (comprehension (.ListComp elt [⟨tg,iter,ifs,0⟩] scope pos) scope X.env (firstIterPos [⟨tg,iter,ifs,0⟩] pos) (newList []) false (eval iter X.env) use) Q' X.xe s:=by
 obtain ⟨cl,hclos,cl1,cl2⟩:=a5X (scope:=scope) (env:=X.env) fun n hn=>I.ok.has n (B.free _ hn rfl)
 refine wpAny_comprehension_free (cl:=cl) rfl hs hclos B.kind B.names ?_
 refine C7 (hi pins s σ H _ I h) fun v s1 h1=>C7 h1 fun itv s2 h2=>?_
 obtain ⟨it,fp,tn,J,H2,e,I2,T,st2,f2,W,⟨m0,w0⟩,turn⟩:=h2
 subst e
 refine wpAny_newObj_type (a51 ?_)
 dsimp only
 have szp:(s2.heap.push { cls:=.type "list",dict:=none,data:=.seq ([]:List Value).toArray }).objs.size=s2.heap.objs.size + 1:=Heap.size_push _ _
 have hns1:=(Heap.Ns.new (s2.heap.push { cls:=.type "list",dict:=none,data:=.seq ([]:List Value).toArray }) (.type "dict")).keeps (pushCells_keeps scope.names _)
 have hkp1:∀ b o,(s2.heap.push { cls:=.type "list",dict:=none,data:=.seq ([]:List Value).toArray }).get? b=some o→(pushCells ((s2.heap.push { cls:=.type "list",dict:=none,data:=.seq ([]:List Value).toArray }).push { cls:=.type "dict",data:=.dict #[] }) scope.names).get? b=some o:=fun b o e=>pushCells_keeps _ _ b o (Heap.get?_push_of_some _ e)
 have ok1:=cellsFrom_ok scope.names ((s2.heap.push { cls:=.type "list",dict:=none,data:=.seq ([]:List Value).toArray }).push { cls:=.type "dict",data:=.dict #[] }) (s2.heap.objs.size + 2) [] ⟨fun _ _ hm=>(nomatch hm),List.Pairwise.nil⟩ (by rw [Heap.size_push,szp]; exact Nat.le_refl _)
 rw [Heap.size_push,szp] at ok1
 rw [szp] at hns1 ⊢
 generalize pushCells ((s2.heap.push { cls:=.type "list",dict:=none,data:=.seq ([]:List Value).toArray }).push { cls:=.type "dict",data:=.dict #[] }) scope.names=h1 at hns1 hkp1 ok1 ⊢
 have cl3:∀ n n' c,(cellsFrom (s2.heap.objs.size + 1 + 1) scope.names cl).lookup n=some c→(cellsFrom (s2.heap.objs.size + 1 + 1) scope.names cl).lookup n'=some c→s2.heap.objs.size + 1 < c→n=n':=by
  intro n n' c e1 e2 hc'
  rcases a0r e1 with ⟨m1,_⟩ | q1
  ·rcases a0r e2 with ⟨m2,_⟩ | q2
   ·exact name_of_addr ok1.apart m1 m2
   ·obtain ⟨v,q⟩:=I2.cell _ _ (cl1 _ _ q2)
    exact absurd (Nat.lt_trans (Nat.lt_succ_of_lt q.lt) hc') (Nat.lt_irrefl _)
  ·obtain ⟨v,q⟩:=I2.cell _ _ (cl1 _ _ q1)
   exact absurd (Nat.lt_trans (Nat.lt_succ_of_lt q.lt) hc') (Nat.lt_irrefl _)
 have cl4:∀ n c,(cellsFrom (s2.heap.objs.size + 1 + 1) scope.names cl).lookup n=some c→X.env.cells.lookup n=some c∨(scope.names.lookup n=some .cell∧s2.heap.objs.size + 1 < c∧h1.IsCell c none):=by
  intro n c e
  rcases a0r e with ⟨m1,_⟩ | q1
  ·obtain ⟨a1,a2⟩:=ok1.empty n c m1
   exact .inr ⟨B.cells _ (P1 _ _ _ _ m1) rfl,by omega,a1⟩
  ·exact .inl (cl1 _ _ q1)
 have cl5:∀ n c,(cellsFrom (s2.heap.objs.size + 1 + 1) scope.names cl).lookup n=some c→scope.names.lookup n=some .cell→s2.heap.objs.size + 1 < c:=by
  intro n c e hn
  obtain ⟨c0,hc0⟩:=L0 scope.names (s2.heap.objs.size + 1 + 1) n (mem_of_lookup hn)
  obtain ⟨c',e'⟩:=Q8 hc0
  rw [t7,List.lookup_append,e'] at e
  cases e
  have:=(ok1.empty n c (mem_of_lookup e')).2
  omega
 have cl6:∀ n,(n,NameKind.free)∈scope.names∨(n,NameKind.cell)∈scope.names→∃ c,(cellsFrom (s2.heap.objs.size + 1 + 1) scope.names cl).lookup n=some c:=fun n h=>a5w (h.symm.imp id (cl2 n))
 generalize cellsFrom (s2.heap.objs.size + 1 + 1) scope.names cl=cx at cl3 cl4 cl5 cl6 ⊢
 have hlt:∀ b∈fp,b < s2.heap.objs.size:=fun b hb=>by
  obtain ⟨o,eo,_⟩:=T.obj _ _ st2 b hb
  exact Heap.lt_size eo
 have hsb2:∀ b o,b < s2.heap.objs.size + 1→(s2.heap.push { cls:=.type "list",data:=.seq ([]:List Value).toArray }).get? b=some o→h1.get? b=some o:=fun b o hb e=>
  hkp1 b o e
 have hns2:h1.Ns (s2.heap.objs.size + 1) fun _=>none:=hns1
 have J0:=Inv.block (cl:=cx) (h1:=h1) (fp:=fp) (t1:=s2.toks) B I2 cl4 cl3 cl6 cl5 (fun b hb=>⟨f2 b hb,hlt b hb⟩) hns2 hsb2
 have st1:tn 0 h1:=T.keep _ _ _ st2 fun b hb o e=>hsb2 b o (Nat.lt_succ_of_lt (hlt b hb)) (Heap.get?_push_of_some _ e)
 
 have stat:∀ {H':Hp} {o:Obj},(∀ b∈fp,H' b=none)→∀ b∈fp,a2j (X.blk scope cx (s2.heap.objs.size + 1) M { s2 with heap:=s2.heap.push { cls:=.type "list",data:=.seq ([]:List Value).toArray } } H2 (s2.heap.objs.size::fp)) [(s2.heap.objs.size,o)] H' b:=by
  intro H' o hn b hb
  obtain ⟨f0,f1,ff,f3,f4,f5⟩:=f2 b hb
  refine ⟨hn b hb,Nat.ne_of_lt (Nat.lt_succ_of_lt (hlt b hb)),fun z=>?_,.inl (List.mem_cons_of_mem _ hb),fun x c e=>?_,fun p hp z=>?_⟩
  ·rcases List.mem_cons.mp (I2.a1m b z) with e | e
   ·exact f1 e
   ·exact ff e
  ·rcases cl4 x c e with q | ⟨_,q,_⟩
   ·exact f4 x c q
   ·exact Nat.ne_of_gt (Nat.lt_trans (Nat.lt_succ_of_lt (hlt b hb)) q)
  ·have e:p=(s2.heap.objs.size,o):=List.mem_singleton.mp hp
   subst e
   exact absurd (hlt b hb) (by rw [← z]; exact Nat.lt_irrefl _)
 have loop:∀ s3:Shared,s3={ s2 with heap:=h1,toks:=s2.toks }→
   codeAny (model X.prog X.w) X.A (.compLoop (.ListComp elt [⟨tg,iter,ifs,0⟩] scope pos) 0 (.ref it) (.ref s2.heap.objs.size) (compEnvC scope cx (s2.heap.objs.size + 1) X.env))
    (compPost (model X.prog X.w) X.A X.xe use Q' (.ref s2.heap.objs.size) (s2.heap.objs.size + 1)) s3:=by
  rintro s3 rfl
  refine a4E (fun n s'=>∃ (i:Nat) (τ:St) (H':Hp) (ys:List V) (its:List Value) (k:Nat),Inv (X.blk scope cx (s2.heap.objs.size + 1) M { s2 with heap:=s2.heap.push { cls:=.type "list",data:=.seq ([]:List Value).toArray } } H2 (s2.heap.objs.size::fp)) [(s2.heap.objs.size,{ cls:=.type "list",data:=.seq its.toArray k })] (seen own fr σ) H' s'∧
   tn i s'.heap∧(∀ b∈fp,H' b=none)∧Vals ys its∧ys.length≤sizeLine∧W i n ys H') ?_ m0 ⟨0,seen own fr σ,H2,[],[],0,J0,st1,fun b hb=>(f2 b hb).1,.nil,Nat.zero_le _,w0⟩
  rintro n s4 ⟨i,τ,H4,ys,its,k,J4,st4,fr4,hv4,hz4,w4⟩
  rcases turn i n ys H4 w4 with ⟨stop,qn⟩ | ⟨go,hz,N,hN,step⟩
  ·refine C7 (T.done (X.blk scope cx (s2.heap.objs.size + 1) M { s2 with heap:=s2.heap.push { cls:=.type "list",data:=.seq ([]:List Value).toArray } } H2 (s2.heap.objs.size::fp)) rfl rfl rfl hc i _ s4 _ H4 _ J4 (stat fr4) st4 stop) fun r s5 ⟨hr,J5⟩=>?_
   subst hr
   obtain ⟨m5,hn5,_⟩:=J5.loc
   have nD:H4 s2.heap.objs.size=none:=(J5.pin _ (List.mem_append_right _ (List.mem_singleton.mpr rfl))).2.1
   exact fin s2.heap.objs.size (s2.heap.objs.size + 1) _ s5 ⟨m5,hn5⟩ (I2.b21 (Nat.le_succ _) (by rw [j3 (Nat.ne_of_gt (Nat.lt_succ_self _))]; exact J5.free)) (Inv.a9B I2 f2 J5 hv4 hz4 (.refl ..)) (qn _ nD)
  ·refine C7 (T.item (X.blk scope cx (s2.heap.objs.size + 1) M { s2 with heap:=s2.heap.push { cls:=.type "list",data:=.seq ([]:List Value).toArray } } H2 (s2.heap.objs.size::fp)) rfl rfl rfl hc i _ s4 _ H4 _ J4 (stat fr4) st4 go) fun r s5 ⟨u,hr,h5⟩=>?_
   subst hr
   refine C7 h5 fun _ s6 ⟨x,H6,J6,r6,y6,st6,fr6⟩=>?_
   have J6':=J6.pinned (stat fr6) (T.obj _ _ st6)
   refine C7 (hg _ _ _ _ _ _ s6 _ H6 x u _ J6' r6 (hk _ _ _ _ (step x H6 y6))) fun _ s7 ⟨σ7,H7,J7,kp7,q7⟩=>?_
   refine C7 (hf _ _ _ _ _ _ s7 σ7 H7 _ J7 q7) fun ok s8 ⟨H8,J8,q8⟩=>?_
   have tnK:∀ {τ':St} {H':Hp} {s':Shared},Inv (X.blk scope cx (s2.heap.objs.size + 1) M { s2 with heap:=s2.heap.push { cls:=.type "list",data:=.seq ([]:List Value).toArray } } H2 (s2.heap.objs.size::fp)) ([(s2.heap.objs.size,{ cls:=.type "list",data:=.seq its.toArray k })]++a19 fp s6.heap) τ' H' s'→
     tn (i + 1) s'.heap∧(∀ b∈fp,H' b=none):=fun {τ' H' s'} K=>by
    refine ⟨T.keep _ _ _ st6 fun b hb o e=>(K.pin (b,o) (List.mem_append_right _ (List.mem_append_right _ (U7 hb e)))).1,fun b hb=>?_⟩
    obtain ⟨o,e,d⟩:=T.obj _ _ st6 b hb
    exact (K.pin (b,o) (List.mem_append_right _ (List.mem_append_right _ (U7 hb e)))).2.1
   have back:∀ {pl:List (Addr×Obj)} {H':Hp} {s':Shared},Inv (X.blk scope cx (s2.heap.objs.size + 1) M { s2 with heap:=s2.heap.push { cls:=.type "list",data:=.seq ([]:List Value).toArray } } H2 (s2.heap.objs.size::fp)) pl σ7 H' s'→Inv (X.blk scope cx (s2.heap.objs.size + 1) M { s2 with heap:=s2.heap.push { cls:=.type "list",data:=.seq ([]:List Value).toArray } } H2 (s2.heap.objs.size::fp)) pl (seen own fr σ) H' s':=fun {pl H' s'} K=>K.weak (by rw [seen_length,K.len]; exact B.len.symm) kp7
   cases ok with
   | false=>
    obtain ⟨hm',hl⟩:=tnK J8
    obtain ⟨m',hm,w8⟩:=hN ys H8 (by simpa using q8)
    exact ⟨m',hm,i + 1,seen own fr σ,H8,ys,its,k,back J8.a0A,hm',hl,hv4,hz4,w8⟩
   | true=>
    simp only [if_true] at q8 ⊢
    refine C7 (he _ _ _ _ _ _ s8 σ7 H8 _ J8 q8) fun u9 s9 ⟨y,H9,J9,r9,q9⟩=>?_
    obtain ⟨hm',hl⟩:=tnK J9
    obtain ⟨m',hm,w9⟩:=hN (ys++[y]) H9 q9
    obtain ⟨eD,nD,d1,d2,d3⟩:=J9.pin (s2.heap.objs.size,{ cls:=.type "list",data:=.seq its.toArray k }) (List.mem_append_right _ (List.mem_append_left _ (List.mem_singleton.mpr rfl)))
    refine a5Z eD (by rw [← hv4.length]; exact Nat.le_of_lt hz) fun h' n' e' kp=>?_
    have K0:Inv (X.blk scope cx (s2.heap.objs.size + 1) M { s2 with heap:=s2.heap.push { cls:=.type "list",data:=.seq ([]:List Value).toArray } } H2 (s2.heap.objs.size::fp)) [] σ7 H9 s9:=J9.M8 fun p hp=>absurd hp (by simp)
    have K1:=K0.turned (t':=s9.toks) (h':=h') (it:=s2.heap.objs.size) kp nD d1 (.inl List.mem_cons_self) (fun x c e=>(J9.ok.exf _ List.mem_cons_self).2 x c e) (fun p hp=>absurd (show p∈([]:List (Addr×Obj)) from hp) (by simp))
    have K2:=K1.M8 (pins':=[(s2.heap.objs.size,{ cls:=.type "list",data:=.seq (its++[u9]).toArray n' })]) fun p hp=>by
     have e:p=_:=List.mem_singleton.mp hp
     subst e
     exact ⟨e',nD,d1,d2,fun v z=>by
      have z':Data.seq (its++[u9]).toArray _=Data.cell v:=z
      cases z'⟩
    refine ⟨m',hm,i + 1,seen own fr σ,H9,ys++[y],its++[u9],n',back K2,T.keep _ _ _ hm' fun b hb o e=>kp b o (Nat.ne_of_lt (hlt b hb)) e,hl,hv4.append (.cons r9 .nil),by rw [List.length_append,List.length_singleton]; exact hz,w9⟩
 exact codeAny_compStart_list (loop _ rfl) (T.self X.A 0 _ _ _ st1 (loop _ rfl))
theorem a8O (B:Blk X scope M own fr)(hc:X.calm=true)(hi:PI X tg iter wi)
  (hg:∀ cl C s H ex,PG (X.blk scope cl C M s H ex) tg g) (hk:a4B own fr g) (hf:∀ cl C s H ex,PF (X.blk scope cl C M s H ex) ifs tf) (he:∀ cl C s H ex,PE (X.blk scope cl C M s H ex) elt te)
  (hs:∀ x,foldedSetIterable iter X.env x=pure x:=by intro _; rfl):PE X (.ListComp elt [⟨tg,iter,ifs,0⟩] scope pos) (a3C wi g tf te own fr):=by
 intro pins s σ H Q I h
 rw [eval_ListComp]
 refine a44 (use:=none) B hc hi hg hk hf he hs I h fun D C H' s' ⟨m,hn⟩ fc I' q=>?_
 obtain ⟨f0,f1,f2,f3,f4,f5⟩:=fc
 exact ⟨m,hn,fun h' hs'=>⟨.ref D,H',I'.turned (t':=s'.toks) (fun b o hb e=>(hs'.2 b hb).trans e) f0 f1 f3 f4 f5,rfl,q⟩⟩
theorem b0k {i:Nat}{y:Str}{py spos:Pos}(B:Blk X scope M own fr)(hc:X.calm=true)(hN:X.N.Nodup)(hy:X.N[i]?=some y)(hx:X.env.kindOf y=some .local)(hi:PI X tg iter wi)
  (hg:∀ cl C s H ex,PG (X.blk scope cl C M s H ex) tg g) (hk:a4B own fr g) (hf:∀ cl C s H ex,PF (X.blk scope cl C M s H ex) ifs tf) (he:∀ cl C s H ex,PE (X.blk scope cl C M s H ex) elt te)
  (hsw:swapsWith (.ListComp elt [⟨tg,iter,ifs,0⟩] scope pos) (some (.Name y py)) spos.line X.env=pure true:=by with_unfolding_all rfl)
  (hs:∀ x,foldedSetIterable iter X.env x=pure x:=by intro _; rfl):PS X (.Assign [.Name y py] (.ListComp elt [⟨tg,iter,ifs,0⟩] scope pos) spos) (b3I (a3C wi g tf te own fr) (a1p i)):=by
 intro pins s σ H D I h
 rw [exec_Assign_Name_used _ _ _ _ hsw]
 refine wpAny_bind (wpAny_standAt (wpAny_bind ?_))
 show wpAny _ _ (do let _ ← comprehension (.ListComp elt [⟨tg,iter,ifs,0⟩] scope pos) scope X.env _ (newList []) false (eval iter X.env) (some (assign (.Name y py) X.env))) _ _ s
 refine wpAny_bind (wpAny_mono (a44 (use:=some (assign (.Name y py) X.env)) (Q':=fun _ s'=>SP X pins D .next s') B hc hi hg hk hf he hs I h fun Dl C H' s' ⟨m,hn⟩ fc I' q=>?_) (fun _ s' hq=>wpAny_pure (wpAny_pure hq)) fun _ _ e=>e)
 obtain ⟨f0,f1,f2,f3,f4,f5⟩:=fc
 show wpAny _ _ (assign (.Name y py) X.env (.ref Dl)) _ _ _
 refine wpAny_assign_Name (a3z I' hN hy (.inl hx) (v:=.ref Dl) rfl (fun s2 I2 ⟨a,sb,ha⟩=>?_) (.inr hx))
 have hCa:C≠a:=by
  rcases ha with rfl | ha
  ·exact f1
  ·exact fun z=>f4 _ _ ha z.symm
 refine ⟨m,hn.sameBut sb hCa,fun h' hs'=>?_⟩
 exact ⟨_,H',I2.turned (t':=s2.toks) (fun b o hb e=>(hs'.2 b hb).trans e) f0 f1 f3 f4 f5,q⟩
noncomputable def namesOk (scope:Scope)(fs:List Str):Bool:=scope.names.all fun y=>(y.2 != .cell || scope.names.lookup y.1 == some .cell) && (y.2 != .free || fs.contains y.1) && (y.2 != .local || scope.names.lookup y.1 == some .local)
theorem Blk.mk' {fs:List Str}(kind:scope.kind=.function)(h:namesOk scope fs=true)(nd:M.Nodup)(len:M.length=own + fr.length)(hk:∀ n∈fs,X.env.kindOf n=some .cell∨X.env.kindOf n=some .free)
  (at':∀ i j,fr[i]?=some j→M[own + i]?=X.N[j]?∧∃ n,X.N[j]?=some n∧scope.names.lookup n=some .free∧(X.env.kindOf n=some .cell∨X.env.kindOf n=some .free)):Blk X scope M own fr:=by
 have h':=List.all_eq_true.mp h
 refine ⟨kind,fun y hy e=>?_,fun y hy e=>?_,fun y hy e=>?_,nd,len,at'⟩
 ·have q:=h' y hy
  simp only [Bool.and_eq_true] at q
  have q2:=q.1.1
  rw [e] at q2
  simpa using q2
 ·have q:=h' y hy
  simp only [Bool.and_eq_true] at q
  have q2:=q.2
  rw [e] at q2
  simpa using q2
 ·have q:=h' y hy
  simp only [Bool.and_eq_true] at q
  have q2:=q.1.2
  rw [e] at q2
  exact hk y.1 (by simpa using q2)
theorem b4C {x:Str}{px:Pos}{M':List Str}(B:Blk X scope (x::M') 1 fr)(hi:PI X (.Name x px) iter wi)(hf:∀ cl C s H ex,PF (X.blk scope cl C (x::M') s H ex) ifs tf)(he:∀ cl C s H ex,PE (X.blk scope cl C (x::M') s H ex) elt te)
  (hc:X.calm=true:=by rfl) (hx:scope.names.lookup x=some .local∨scope.names.lookup x=some .cell:=by first | exact .inl rfl | exact .inr rfl) (hs:∀ x,foldedSetIterable iter X.env x=pure x:=by intro _; rfl):PE X (.ListComp elt [⟨.Name x px,iter,ifs,0⟩] scope pos) (a3C wi (a1p 0) tf te 1 fr):=
 a8O B hc hi (fun _ _ _ _ _=>a4h B.nd rfl (hx.imp lookup_relabel_local a1z) (hx.symm.imp (fun h=>by show (scope.names.lookup x == some .cell)=true; rw [h]; rfl) lookup_relabel_local)) (a6Y (by decide)) hf he hs
theorem b42 {i:Nat}{y:Str}{py spos:Pos}{x:Str}{px:Pos}{M':List Str}(B:Blk X scope (x::M') 1 fr)(hN:X.N.Nodup)(hi:PI X (.Name x px) iter wi)(hf:∀ cl C s H ex,PF (X.blk scope cl C (x::M') s H ex) ifs tf)(he:∀ cl C s H ex,PE (X.blk scope cl C (x::M') s H ex) elt te)
  (hy:X.N[i]?=some y:=by rfl) (hly:X.env.kindOf y=some .local:=by rfl) (hc:X.calm=true:=by rfl) (hx:scope.names.lookup x=some .local∨scope.names.lookup x=some .cell:=by first | exact .inl rfl | exact .inr rfl)
  (hsw:swapsWith (.ListComp elt [⟨.Name x px,iter,ifs,0⟩] scope pos) (some (.Name y py)) spos.line X.env=pure true:=by with_unfolding_all rfl)
  (hs:∀ x,foldedSetIterable iter X.env x=pure x:=by intro _; rfl):PS X (.Assign [.Name y py] (.ListComp elt [⟨.Name x px,iter,ifs,0⟩] scope pos) spos) (b3I (a3C wi (a1p 0) tf te 1 fr) (a1p i)):=
 b0k B hc hN hy hly hi (fun _ _ _ _ _=>a4h B.nd rfl (hx.imp lookup_relabel_local a1z) (hx.symm.imp (fun h=>by show (scope.names.lookup x == some .cell)=true; rw [h]; rfl) lookup_relabel_local)) (a6Y (by decide)) hf he hsw hs
end
end L2
set_option Elab.async false
set_option linter.all false
set_option maxRecDepth 100000
set_option maxHeartbeats 4000000
namespace L2
open PySem PySem.Spec PyProof.Rows
noncomputable abbrev tx (cs:List Nat):Str:=⟨cs.toArray⟩
theorem a9w (x:Str):tx x.cps.toList=x:=by cases x; rfl
theorem a8I {a b:List Nat}:tx a=tx b↔a=b:=by
 constructor
 ·intro h
  have e:a.toArray=b.toArray:=congrArg Str.cps h
  simpa using e
 ·rintro rfl; rfl
theorem E7 (a:List Nat):(tx a).length=a.length:=by show a.toArray.size=a.length; simp
theorem a6b (a b:List Nat):tx a++tx b=tx (a++b):=by
 show Str.mk (a.toArray++b.toArray)=Str.mk (a++b).toArray
 congr 1
 simp
noncomputable def Its (x:Str):It:=⟨fun i _=>i < x.cps.size,fun i H v H'=>H'=H∧∃ c,x.cps[i]?=some c∧v=.str ⟨#[c]⟩,fun i _=>x.cps.size≤i⟩
theorem a7L {P:Program}{w:World}{K:PySem.W.Frag}{tg:Expr}(x:Str)(t:Tok)(it:Addr):Turn P w K tg (Its x) [it] it (fun i h=>h.IsStrIter it "str_ascii_iterator" x t i) where
 mem:=by simp
 obj:=fun i h st b hb=>by
  have e:b=it:=by simpa using hb
  subst e
  obtain ⟨o,e,c,d⟩:=st
  exact ⟨o,e,fun v z=>by rw [d] at z; cases z⟩
 keep:=fun i h h' st k=>let ⟨o,ho,r⟩:=st; ⟨o,k it (by simp) o ho,r⟩
 item:=by
  intro X hP hw hK hc i pins s σ H E I hf st hg
  subst hP hw hK
  obtain ⟨f0,f1,f2,f3,f4,f5⟩:=hf it (by simp)
  have hg':i < x.cps.size:=hg
  refine wpAny_pyNext_ascii_item st (c:=x.cps[i]) (by simp [hg']) fun h' st' sb=>?_
  have I1:Inv X pins σ H { s with heap:=h',toks:=s.toks + 1 }:=I.turned (fun b o hb e=>(sb.2 b hb).trans e) f0 f1 f3 f4 f5
  obtain ⟨o,e,c,d⟩:=id st'
  exact ⟨_,rfl,a5e (s:={ s with heap:=h',toks:=s.toks + 1 }) e c d (by decide) ⟨.str ⟨#[x.cps[i]]⟩,H,I1,⟨_,rfl⟩,⟨rfl,_,by simp [hg'],rfl⟩,st',fun b hb=>(hf b hb).1⟩⟩
 done:=by
  intro X hP hw hK hc i pins s σ H E I hf st hg
  subst hP hw hK
  obtain ⟨f0,f1,f2,f3,f4,f5⟩:=hf it (by simp)
  have hg':x.cps.size≤i:=hg
  exact wpAny_pyNext_ascii_end (I.ok.hd hc) st (by simp [hg']) fun h' eb=>⟨rfl,I.turned (t':=s.toks) (fun b o hb e=>eb b o hb e) f0 f1 f3 f4 f5⟩
 self:=fun _ _ _ _ _ st h=>wpAny_pyIter_striter_ascii st h
theorem a7r {P:Program}{w:World}{K:PySem.W.Frag}{tg:Expr}(x:Str)(t:Tok)(it:Addr):Turn P w K tg (Its x) [it] it (fun i h=>h.IsStrIter it "str_iterator" x t i) where
 mem:=by simp
 obj:=fun i h st b hb=>by
  have e:b=it:=by simpa using hb
  subst e
  obtain ⟨o,e,c,d⟩:=st
  exact ⟨o,e,fun v z=>by rw [d] at z; cases z⟩
 keep:=fun i h h' st k=>let ⟨o,ho,r⟩:=st; ⟨o,k it (by simp) o ho,r⟩
 item:=by
  intro X hP hw hK hc i pins s σ H E I hf st hg
  subst hP hw hK
  obtain ⟨f0,f1,f2,f3,f4,f5⟩:=hf it (by simp)
  have hg':i < x.cps.size:=hg
  refine wpAny_pyNext_wide_item st (c:=x.cps[i]) (by simp [hg']) fun h' st' sb=>?_
  have I1:Inv X pins σ H { s with heap:=h',toks:=s.toks + 1 }:=I.turned (fun b o hb e=>(sb.2 b hb).trans e) f0 f1 f3 f4 f5
  obtain ⟨o,e,c,d⟩:=id st'
  exact ⟨_,rfl,a5e (s:={ s with heap:=h',toks:=s.toks + 1 }) e c d (by decide) ⟨.str ⟨#[x.cps[i]]⟩,H,I1,⟨_,rfl⟩,⟨rfl,_,by simp [hg'],rfl⟩,st',fun b hb=>(hf b hb).1⟩⟩
 done:=by
  intro X hP hw hK hc i pins s σ H E I hf st hg
  subst hP hw hK
  obtain ⟨f0,f1,f2,f3,f4,f5⟩:=hf it (by simp)
  have hg':x.cps.size≤i:=hg
  exact wpAny_pyNext_wide_end (I.ok.hd hc) st (by simp [hg']) fun h' eb=>⟨rfl,I.turned (t':=s.toks) (fun b o hb e=>eb b o hb e) f0 f1 f3 f4 f5⟩
 self:=fun _ _ _ _ _ st h=>wpAny_pyIter_striter_wide st h
section
variable {X:Cx}
theorem a8e:MtR X "str.startswith" (fun x xs H Q=>∃ a b,x=.str a∧xs=[.str b]∧Q (.bl (Txt.startswith a b)) H):=by
 intro pins s σ H x xs v us Q I rx rs h
 obtain ⟨a,b,rfl,rfl,q⟩:=h
 obtain ⟨t,rfl⟩:=rx
 obtain ⟨u,rfl,t',rfl⟩:=vals1 rs
 exact SC.startswith ⟨.bl _,H,I,rfl,q⟩
theorem a4o:D4 X (.type "int") (fun xs H Q=>∃ x n,xs=[.str x]∧intText? x=some n∧x.length≤640∧Q (.int n) H):=by
 intro pins s σ H xs us Q I r h
 obtain ⟨x,n,rfl,hn,hl,q⟩:=h
 obtain ⟨u,rfl,t,rfl⟩:=vals1 r
 exact PySem.W.KIN.call_text hn hl ⟨.int n,H,I.tok _,⟨_,rfl⟩,q⟩
noncomputable def a0U (cs:List Nat)(lo hi:Option Int):List Nat:=(cs.drop (HT.v5 cs.length 0 lo)).take (HT.v5 cs.length cs.length hi - HT.v5 cs.length 0 lo)
theorem a5L (lo hi:Option Int)(n:Nat):Builtin.Str.strSliceIndices lo hi 1 n=(List.range (HT.v5 n n hi - HT.v5 n 0 lo)).map fun k=>HT.v5 n 0 lo + k:=by
 have clip:∀ (o:Option Int) (d:Nat) (d':Int),d'=(d:Int)→(match o with | none=>d' | some i=>(if (1:Int) > 0 then max 0 (min (if i < 0 then i + (n:Int) else i) (n:Int)) else max (-1) (min (if i < 0 then i + (n:Int) else i) ((n:Int) - 1))))=((HT.v5 n d o:Nat):Int):=by
  intro o d d' hd
  cases o with
  | none=>exact hd
  | some i=>
   show (if (1:Int) > 0 then max 0 (min (if i < 0 then i + (n:Int) else i) (n:Int)) else _)=(((if i < 0 then (i + (n:Int)).toNat else min i.toNat n):Nat):Int)
   rw [if_pos (by decide)]
   by_cases h:i < 0
   ·rw [if_pos h,if_pos h]; omega
   ·rw [if_neg h,if_neg h]; omega
 unfold Builtin.Str.strSliceIndices
 have e1:=clip lo 0 (if (1:Int) > 0 then 0 else (n:Int) - 1) (by simp)
 have e2:=clip hi n (if (1:Int) > 0 then (n:Int) else -1) (by simp)
 refine Eq.trans (b:=sliceRange ((HT.v5 n 0 lo:Nat):Int) ((HT.v5 n n hi:Nat):Int) 1) ?_ ?_
 ·have e3:∀ a b a' b':Int,a=a'→b=b'→sliceRange a b 1=sliceRange a' b' 1:=fun _ _ _ _ h h'=>by rw [h,h']
  exact e3 _ _ _ _ e1 e2
 unfold sliceRange
 have e3:(if (1:Int) > 0 then (if ((HT.v5 n 0 lo:Nat):Int) < ((HT.v5 n n hi:Nat):Int) then (((HT.v5 n n hi:Nat):Int) - ((HT.v5 n 0 lo:Nat):Int) + 1 - 1) / 1 else 0) else (if ((HT.v5 n 0 lo:Nat):Int) > ((HT.v5 n n hi:Nat):Int) then (((HT.v5 n 0 lo:Nat):Int) - ((HT.v5 n n hi:Nat):Int) - 1 - 1) / (-1) else 0)).toNat=HT.v5 n n hi - HT.v5 n 0 lo:=by
  rw [if_pos (by decide)]
  split <;> omega
 simp only [] at e3 ⊢
 rw [e3]
 refine List.map_congr_left fun k _=>?_
 omega
theorem b4i (cs:List Nat)(i k:Nat)(h:i + k≤cs.length):((List.range k).map fun m=>i + m).filterMap (cs.toArray[·]?)=(cs.drop i).take k:=by
 rw [List.filterMap_map]
 refine List.ext_getElem? fun j=>?_
 have key:∀ (k i:Nat),i + k≤cs.length→(List.range k).filterMap (fun m=>cs[i + m]?)=(cs.drop i).take k:=by
  intro k
  induction k with
  | zero=>intro i _; simp
  | succ k ih=>
   intro i hik
   rw [List.range_succ,List.filterMap_append,ih i (by omega)]
   have hlt:i + k < cs.length:=by omega
   rw [List.take_add_one,List.getElem?_drop]
   simp [hlt]
 have e:((fun x=>cs.toArray[x]?) ∘ fun m=>i + m)=fun m=>cs[i + m]?:=by
  funext m
  simp
 rw [e,key k i h]
theorem a67 (n d:Nat)(hd:d≤n)(o:Option Int):HT.v5 n d o≤n:=HT.a8o n d hd o
theorem a2T {cs:List Nat}{t:Tok}{l u:Option (Int×Tok)}{Q:Value→Shared→Prop}{s:Shared}(hz:cs.length≤sizeLine)(h:∀ t' k,Q (.str (tx (a0U cs (l.map (·.1)) (u.map (·.1)))) t') { s with toks:=k }):(sliceMade (tx cs) t l u none).post Q s:=by
 have hlen:(tx cs).length=cs.length:=E7 cs
 have ei:slicePicked (tx cs) l u none=(List.range (HT.v5 cs.length cs.length (u.map (·.1)) - HT.v5 cs.length 0 (l.map (·.1)))).map fun k=>HT.v5 cs.length 0 (l.map (·.1)) + k:=by
  show Builtin.Str.strSliceIndices (l.map (·.1)) (u.map (·.1)) 1 (tx cs).length=_
  rw [hlen,a5L]
 have h1:=a67 cs.length 0 (Nat.zero_le _) (l.map (·.1))
 have h2:=a67 cs.length cs.length (Nat.le_refl _) (u.map (·.1))
 unfold sliceMade
 by_cases hc:(((none:Option (Int×Tok)).map (·.1)).getD 1 == 1 && (slicePicked (tx cs) l u none).length == (tx cs).length)=true
 ·rw [if_pos hc]
  have hl:HT.v5 cs.length cs.length (u.map (·.1)) - HT.v5 cs.length 0 (l.map (·.1))=cs.length:=by
   rw [Bool.and_eq_true] at hc
   have q:=eq_of_beq hc.2
   rw [ei,hlen,List.length_map,List.length_range] at q
   exact q
  have e:a0U cs (l.map (·.1)) (u.map (·.1))=cs:=by
   unfold a0U
   rw [hl]
   by_cases h0:cs.length=0
   ·have:cs=[]:=List.length_eq_zero_iff.mp h0
    subst this
    simp
   ·have:HT.v5 cs.length 0 (l.map (·.1))=0:=by omega
    rw [this]
    simp
  have q:=h t s.toks
  rw [e] at q
  exact q
 ·rw [if_neg hc]
  have e:(slicePicked (tx cs) l u none).filterMap ((tx cs).cps[·]?)=a0U cs (l.map (·.1)) (u.map (·.1)):=by
   rw [ei]
   by_cases hh:HT.v5 cs.length 0 (l.map (·.1))≤HT.v5 cs.length cs.length (u.map (·.1))
   ·exact b4i cs _ _ (by omega)
   ·have z:HT.v5 cs.length cs.length (u.map (·.1)) - HT.v5 cs.length 0 (l.map (·.1))=0:=by omega
    unfold a0U
    rw [z]
    simp
  rw [e]
  refine ⟨?_,h _ _⟩
  show (a0U cs (l.map (·.1)) (u.map (·.1))).toArray.size≤sizeLine
  unfold a0U
  rw [List.size_toArray,List.length_take,List.length_drop]
  omega
theorem b3J:SlR X (fun x lo hi H Q=>∃ cs:List Nat,x=.str (tx cs)∧cs.length≤1000000∧Q (.str (tx (a0U cs lo hi))) H):=by
 intro pins s σ H x v vl vu lo hi sl Q I rx hs pl pu h
 obtain ⟨cs,rfl,hz,q⟩:=h
 obtain ⟨t,rfl⟩:=rx
 refine ⟨"str",_,F.slot_str_getitem.lookup,typeIs_str s (tx cs) t,?_⟩
 obtain ⟨o,ho,hc,hd⟩:=hs
 have key:∀ (l u:Option (Int×Tok)),vl=partValue l→vu=partValue u→l.map (·.1)=lo→u.map (·.1)=hi→wpAny (model X.prog X.w) X.A (getItem (.str (tx cs) t) (.ref sl)) (EP X pins σ Q) X.xe s:=by
  intro l u e1 e2 e3 e4
  subst e1 e2
  refine wpAny_getItem_str_slice (l:=l) (u:=u) (st:=none) ⟨o,ho,hc,hd⟩ rfl (a2T (by rw [sizeLine_eq]; omega) fun t' k=>?_)
  rw [e3,e4]
  exact ⟨.str _,H,I.tok k,⟨_,rfl⟩,q⟩
 cases pl with
 | none=>
  cases pu with
  | none=>exact key none none rfl rfl rfl rfl
  | int j tj=>exact key none (some (j,tj)) rfl rfl rfl rfl
 | int i ti=>
  cases pu with
  | none=>exact key (some (i,ti)) none rfl rfl rfl rfl
  | int j tj=>exact key (some (i,ti)) (some (j,tj)) rfl rfl rfl rfl
theorem a2L (cs:List Nat)(k:Nat):a0U cs (some (k:Int)) none=cs.drop k:=by
 unfold a0U
 rw [HT.Z6,HT.a0B]
 by_cases h:k≤cs.length
 ·rw [Nat.min_eq_left h,List.take_of_length_le (by simp)]
 ·rw [Nat.min_eq_right (by omega),Nat.sub_self,List.take_zero,List.drop_eq_nil_of_le (by omega)]
theorem a9F (cs:List Nat)(k:Nat):a0U cs none (some (k:Int))=cs.take k:=by
 unfold a0U
 rw [HT.Z6,HT.a0B,List.drop_zero,Nat.sub_zero]
 by_cases h:k≤cs.length
 ·rw [Nat.min_eq_left h]
 ·rw [Nat.min_eq_right (by omega),List.take_of_length_le (Nat.le_refl _),List.take_of_length_le (by omega)]
theorem all_range (bs:List Bool):(List.range bs.length).all (fun i=>bs.getD i false)=bs.all id:=by
 have key:∀ (bs pre:List Bool),(List.range' pre.length bs.length).all (fun i=>(pre++bs).getD i false)=bs.all id:=by
  intro bs
  induction bs with
  | nil=>intro pre; rfl
  | cons b r ih=>
   intro pre
   have q:=ih (pre++[b])
   rw [List.length_cons,List.range'_succ,List.all_cons,List.all_cons]
   have e:(pre++b::r).getD pre.length false=b:=by simp
   have e2:pre++b::r=(pre++[b])++r:=by simp
   rw [e,e2]
   have e3:(pre++[b]).length=pre.length + 1:=by simp
   rw [e3] at q
   rw [q]
   rfl
 have q:=key bs []
 simpa [List.range_eq_range'] using q
theorem a7F {bs:List Bool}{its:List Value}{i:Nat}{v:Value}(r:Vals (bs.map V.bl) its)(h:its[i]?=some v):v=.bool (bs.getD i false):=by
 have hi:i < its.length:=(List.getElem?_eq_some_iff.mp h).1
 have hl:=r.length
 rw [List.length_map] at hl
 have hb:i < bs.length:=by omega
 obtain ⟨u,hu,ru⟩:=r.get (i:=i) (x:=V.bl bs[i]) (by simp [hb])
 rw [h] at hu
 cases hu
 have e:bs.getD i false=bs[i]:=by simp [hb]
 rw [e]
 exact ru
theorem a8y (hc:X.calm=true):D4 X (.builtin "all") (fun xs H Q=>∃ (p:Addr) (bs:List Bool),xs=[.ref p]∧L4 X.K H p (bs.map V.bl)∧Q (.bl (bs.all id)) H):=by
 intro pins s σ H xs us Q I r h
 obtain ⟨p,bs,rfl,hq,q⟩:=h
 obtain ⟨u,rfl,rx⟩:=vals1 r
 cases rx
 obtain ⟨its,rv,pl,hz⟩:=I.list hq
 have hlen:its.toArray.size=bs.length:=by
  rw [List.size_toArray,← rv.length,List.length_map]
 have hp:p < s.heap.objs.size:=by
  obtain ⟨o,ho,_⟩:=pl.isList
  exact Heap.lt_size ho
 refine call_all_walk (wpAny_pyIter_list pl.isList ?_)
 refine ⟨s.heap.objs.size,_,_,its.toArray.size,_,_,fun i=>bs.getD i false,rfl,Walks.list (A:=X.A.in1) (I.ok.hd hc) s.heap.objs.size p (Nat.ne_of_lt hp) its.toArray,And.intro ⟨_,Heap.get?_push_size _ rfl,rfl,rfl⟩ (pl.isList.at fun o e=>Heap.get?_push_of_some _ e),fun i v s1 Q1 E1 hv hQ=>?_,fun h' tk hk=>?_⟩
 ·have ev:v=.bool (bs.getD i false):=a7F rv (by simpa using hv)
  subst ev
  exact wpAny_truthy_bool hQ
 ·rw [hlen,all_range]
  refine ⟨.bl _,H,I.kept (t':=tk) fun b o e=>hk b o (fun z=>?_) (Heap.get?_push_of_some _ e),rfl,q⟩
  have e2:b=s.heap.objs.size:=by simpa using z
  subst e2
  exact absurd (Heap.lt_size e) (Nat.lt_irrefl _)
end
end L2
set_option Elab.async false
set_option linter.all false
set_option maxRecDepth 100000
set_option maxHeartbeats 4000000
namespace L2
open PySem PySem.Spec PyProof.Rows
noncomputable def Def (K:PySem.W.Frag)(mg:Str→Option Value)(x:Str)(st:Stmt)(ps:List Str):Prop:=
 ∃ (f:Addr) (fd:FuncData),Fun K x x st f fd∧(∀ us:List Value,us.length=ps.length→bindArgs fd ⟨us,[]⟩=pure (ps.zip us))∧mg x=some (.ref f)
theorem F8 {K:PySem.W.Frag}{h:Heap}{mg:Str→Option Value}{x:Str}{st:Stmt}{ps:List Str}{f:Addr}{od an:Option Addr}{sl:Array (Option Value)}{oc kV dc pm cd ct:Value}(X:K.In h)(G:h.Ns mainGlobals mg)
  (a:PySem.W.nsIn K mainGlobals x=some (some (.ref f))) (l:K.lookup f=some ⟨oc,od,.func (PySem.W.fnOf x x (Q5 st) (D0 st) (g6 st) .none kV dc pm an cd ct),sl⟩) (c:PySem.W.codeIn K cd x=true) (k:PySem.W.keepIn K (.ref f)=true)
  (b:∀ (kV doc pm:Value) (an:Option Addr) (cdv ct:Value) (us:List Value),us.length=ps.length→bindArgs (PySem.W.fnOf x x (Q5 st) (D0 st) (g6 st) .none kV doc pm an cdv ct) ⟨us,[]⟩=pure (ps.zip us)):Def K mg x st ps:=
 ⟨f,_,a9V (st:=st) l c k,fun us hl=>b kV dc pm an cd ct us hl,PySem.W.mg_of X G a⟩
noncomputable def Has (P:Program)(w:World)(K:PySem.W.Frag)(mg:Str→Option Value)(base:Heap)(k:Nat)(x:Str)(ps:List Str)(sp:Sp):Prop:=
 ∃ (f:Addr) (fd:FuncData),A0 P w K mg base Q4 k f fd ps sp∧Binds K fd ps []∧mg x=some (.ref f)∧PySem.W.keepIn K (.ref f)=true
theorem Def.has {P:Program}{w:World}{K:PySem.W.Frag}{mg:Str→Option Value}{base:Heap}{k:Nat}{x:Str}{st:Stmt}{ps:List Str}{sp:Sp}(D:Def K mg x st ps)(h:∀ f fd,Fun K x x st f fd→A0 P w K mg base Q4 k f fd ps sp):Has P w K mg base k x ps sp:=by
 obtain ⟨f,fd,F,b,m⟩:=D
 exact ⟨f,fd,h f fd F,Binds.all b,m,F.kp⟩
theorem Has.mono {P:Program}{w:World}{K:PySem.W.Frag}{mg:Str→Option Value}{base:Heap}{j k:Nat}{x:Str}{ps:List Str}{sp:Sp}(h:Has P w K mg base j x ps sp)(hk:j≤k):Has P w K mg base k x ps sp:=by
 obtain ⟨f,fd,F,b,m,kp⟩:=h
 exact ⟨f,fd,F.mono hk,b,m,kp⟩
noncomputable def Cst (mg:Str→Option Value)(x:Str)(v:V):Prop:=∃ u,mg x=some u∧RelV v u
theorem a4g {K:PySem.W.Frag}{h:Heap}{mg:Str→Option Value}{x:Str}{u:Value}{v:V}(X:K.In h)(G:h.Ns mainGlobals mg)(a:PySem.W.nsIn K mainGlobals x=some (some u))(r:RelV v u):Cst mg x v:=⟨u,PySem.W.mg_of X G a,r⟩
section
variable {X:Cx}{k:Nat}{x:Str}{ps:List Str}{sp:Sp}{e:Expr}{es:List Expr}{t:TA}{p pos:Pos}
theorem b4g (h:Has X.prog X.w X.K X.mg X.base k x ps sp)(hr:C4 k X.A)(ha:PA X (e::es) t)(hg:Gl X x:=by rfl)(hdb:(x == ("__debug__":Str))=false:=by decide)
  (he:starEach (e::es) X.env=(false,eval e X.env)::starEach es X.env:=by rfl) (hpl:(backTo pos (starEach es X.env)).any (·.1)=false:=by rfl):PE X (.Call (.Name x p) (e::es) [] pos) (a8X sp [] E0 t):=by
 obtain ⟨f,fd,F,b,m,kp⟩:=h
 exact b0m F hr hg m kp b .nil b4V ha hdb he hpl
theorem b5j {v:V}(h:Cst X.mg x v)(hg:Gl X x:=by rfl)(hd:(x == ("__debug__":Str))=false:=by decide):PE X (.Name x pos) (tC v):=by
 obtain ⟨u,m,r⟩:=h
 exact a6x hg m r hd
theorem pty {n:String}(hm:X.mg x=none)(hv:bootBuiltins x=some (.type n))(hg:Gl X x:=by rfl)(hn:x≠"__name__":=by decide) (hd:(x == ("__debug__":Str))=false:=by decide):PE X (.Name x pos) (tC (.ty n)):=a6F hg hm hv rfl hn hd
end
theorem Y9 {H:Hp}{p:Addr}(h:H p=none)(o:HO):d8 H (upd H p o):=fun b u q=>by rw [j3 (m7 q h)]; exact q
theorem d8.tup {K:PySem.W.Frag}{H H':Hp}{a:Addr}{xs:List V}(e:d8 H H')(h:V8 K H a xs):V8 K H' a xs:=by
 rcases h with (h | ⟨o,h⟩) | h
 ·exact .inl (.inl (e _ _ h))
 ·exact .inl (.inr ⟨o,e _ _ h⟩)
 ·exact .inr h
noncomputable def a9E (K:PySem.W.Frag):Sp:=fun vs H Q _=>∃ (a:Addr) (ns:List Int),vs=[.ref a]∧L4 K H a (ns.map V.int)∧ns.length≤63∧∀ H',Q (.bl true) H'
theorem a87 {l:PySem.W.OpenLaw}{k:Nat}{q:Program}{loose:List Str}{XP:(Str→Option Value)→Heap→Prop}{YP:World→Heap→Prop}{d:DefRec}{K:Params→PySem.W.Frag}{x:Str}(hn:l.most=some 63)(hdf:d.params.defaults=[])(hr:C4 k callerA)
  (hY:∀ (w:World) (h:Heap),YP w h→(K w.params).In h)
  (F:∀ (w:World) (mg:Str→Option Value) (fa:Addr) (h:Heap),(K w.params).In h→h.Ns mainGlobals mg→mg d.name=some (.ref fa)→
   ∃ fd:FuncData,(∀ (s:Shared) (u:Value),BindsTo s fd ⟨[u],[]⟩ [(x,u)])∧∀ base:Heap,(K w.params).In base→base.Ns mainGlobals mg→A0 l.prog w (K w.params) mg base Q4 k fa fd [x] (a9E (K w.params))):
  PySem.W.WalkO q loose XP YP l.row.toRowW d [] (fun f vs=>PySem.call f vs):=
 L2.b0N (n:=63) (k:=k) (x:=x) (CX:=fun _=>Q4) (sp:=fun w=>a9E (K w.params)) hn (by decide) hdf hr hY F (fun _ _ a ns hl _ hS=>⟨a,ns,rfl,hS,hl,fun _=>rfl⟩) fun _ _ _ _ _ z=>z
theorem b3y {P:Program}{w:World}{K:PySem.W.Frag}{mg:Str→Option Value}{fa:Addr}{k:Nat}{st:Stmt}{x n:Str}{sp:Sp}(D:Def K mg n st [x])(hfa:mg n=some (.ref fa))
  (h:∀ f fd,Fun K n n st f fd→∀ base:Heap,K.In base→base.Ns mainGlobals mg→A0 P w K mg base Q4 k f fd [x] sp):
  ∃ fd:FuncData,(∀ (s:Shared) (u:Value),BindsTo s fd ⟨[u],[]⟩ [(x,u)])∧∀ base:Heap,K.In base→base.Ns mainGlobals mg→A0 P w K mg base Q4 k fa fd [x] sp:=by
 obtain ⟨f,fd,F,b,m⟩:=D
 have e:fa=f:=by
  have e:=Option.some.inj (hfa.symm.trans m)
  injection e
 subst e
 exact ⟨fd,fun s u=>.of_eq (b [u] rfl),h fa fd F⟩
noncomputable def a0R (ns:List Int)(k:Int):Int:=if ns.isEmpty then 0 else ns.getD (k % (ns.length:Int)).toNat 0
noncomputable def B4 (ns:List Int)(k:Int):Int:=
 ((a0R ns k + 104729 * (k + 1)) % 4294967291 * 48271 % 4294967279 / 64 * 69621 + (a0R ns k + 104729 * (k + 1)) % 4294967291 * 48271 % 4294967279) % 4294967231
theorem b1Q {ns:List Int}{k:Int}(h:ns≠[]):atI (ns.map V.int) (k % ((ns.map V.int).length:Int))=some (.int (a0R ns k)):=by
 have hl:0 < ns.length:=List.length_pos_iff.mpr h
 have h0:0≤k % (ns.length:Int):=Int.emod_nonneg _ (by omega)
 have h1:k % (ns.length:Int) < ns.length:=Int.emod_lt_of_pos _ (by omega)
 rw [List.length_map]
 have e:k % (ns.length:Int)=(((k % (ns.length:Int)).toNat:Nat):Int):=by omega
 rw [e]
 refine a36 ?_
 rw [List.getElem?_map,List.getElem?_eq_getElem (by omega)]
 unfold a0R
 have he:ns.isEmpty=false:=by cases ns with
  | nil=>exact absurd rfl h
  | cons a r=>rfl
 rw [he]
 simp only [Bool.false_eq_true,if_false,Option.map_some,Option.some.injEq,V.int.injEq]
 rw [List.getD_eq_getElem?_getD,List.getElem?_eq_getElem (by omega)]
 rfl
end L2
set_option Elab.async false
set_option linter.all false
set_option maxRecDepth 100000
set_option maxHeartbeats 4000000
set_option Elab.async false
set_option linter.all false
set_option maxRecDepth 100000
set_option maxHeartbeats 4000000
namespace Wd
open PySem
theorem a9b (s:String):(Str.ofString s).cps.toList=s.toList.map Char.toNat:=PyProof.Rows.signs_ofString s
noncomputable def K3 (c:Nat):Bool:=decide (48≤c) && decide (c≤57)
noncomputable def B3 (cs:List Nat):Bool:=(decide (1≤cs.length) && !decide (cs.head?=some 48) && decide (cs.length≤9)) && cs.all K3
noncomputable def val (cs:List Nat):Nat:=cs.foldl (fun acc c=>acc * 10 + (c - 48)) 0
noncomputable def k7 (cs:List Nat):Option Int:=
 if cs=[48] then some 0
 else if cs.head?=some 45 then (if B3 (cs.drop 1) then some (-((val (cs.drop 1):Nat):Int)) else none)
 else (if B3 cs then some ((val cs:Nat):Int) else none)
theorem a2q {cs:List Nat}(h:cs.all K3=true):NumText.AllDigits cs:=fun c hc=>by
 have q:=List.all_eq_true.mp h c hc
 unfold K3 at q
 simp only [Bool.and_eq_true,decide_eq_true_eq] at q
 exact q
theorem N6 {cs:List Nat}(h:B3 cs=true):1≤cs.length∧cs.length≤9∧cs.head?≠some 48∧cs.all K3=true:=by
 unfold B3 at h
 simp only [Bool.and_eq_true,decide_eq_true_eq,Bool.not_eq_true',decide_eq_false_iff_not] at h
 exact ⟨h.1.1.1,h.1.2,h.1.1.2,h.2⟩
theorem b0t {cs:List Nat}(h:B3 cs=true):intText? ⟨cs.toArray⟩=some ((val cs:Nat):Int):=by
 obtain ⟨h1,h2,_,h4⟩:=N6 h
 have e:(⟨cs.toArray⟩:Str).cps.toList=cs:=by simp
 have q:=intText_digits (x:=⟨cs.toArray⟩) (by rw [e]; exact a2q h4) (by rw [e]; intro z; rw [z] at h1; simp at h1) (by show cs.toArray.size≤4300; simp; omega)
 rw [e] at q
 exact q
theorem b0f {cs:List Nat}(h:cs.head?=some 45)(hf:B3 (cs.drop 1)=true):intText? ⟨cs.toArray⟩=some (-((val (cs.drop 1):Nat):Int)):=by
 obtain ⟨h1,h2,_,h4⟩:=N6 hf
 obtain ⟨r,rfl⟩:∃ r,cs=45::r:=by
  cases cs with
  | nil=>cases h
  | cons c r=>
   have e:c=45:=by simpa using h
   exact ⟨r,by rw [e]⟩
 have e0:(45::r).drop 1=r:=rfl
 rw [e0] at h1 h2 h4 ⊢
 have e:(⟨(45::r).toArray⟩:Str).cps.toList=45::r:=by simp
 exact intText_neg (x:=⟨(45::r).toArray⟩) e (a2q h4) (by intro z; rw [z] at h1; simp at h1) (by show (45::r).toArray.size≤4300; simp; omega)
noncomputable def FIG:Str:="0123456789"
theorem b3r:FIG=⟨#[48,49,50,51,52,53,54,55,56,57]⟩:=by decide +kernel
theorem a7e (c i:Nat)(h:i + 1≤10):Builtin.Str.subAt FIG ⟨#[c]⟩ i=true↔c=48 + i:=by
 rw [b3r]
 unfold Builtin.Str.subAt
 have e:(⟨#[c]⟩:Str).length=1:=rfl
 rw [e]
 have hi:i=0∨i=1∨i=2∨i=3∨i=4∨i=5∨i=6∨i=7∨i=8∨i=9:=by omega
 rcases hi with rfl | rfl | rfl | rfl | rfl | rfl | rfl | rfl | rfl | rfl <;> (simp; omega)
theorem b1L:FIG.length=10:=by decide +kernel
theorem b3f (c:Nat):(!(Builtin.Str.occurrences FIG ⟨#[c]⟩ 0 FIG.length 1).isEmpty)=K3 c:=by
 rw [Bool.eq_iff_iff,StrLaws.found_iff]
 have e:(⟨#[c]⟩:Str).length=1:=rfl
 rw [e,b1L]
 unfold K3
 simp only [Bool.and_eq_true,decide_eq_true_eq]
 constructor
 ·rintro ⟨i,h1,h2⟩
  have:=(a7e c i h1).mp h2
  omega
 ·rintro ⟨h1,h2⟩
  exact ⟨c - 48,by omega,(a7e c (c - 48) (by omega)).mpr (by omega)⟩
theorem a5I (cs:List Nat)(c:Nat):Txt.startswith ⟨cs.toArray⟩ ⟨#[c]⟩=decide (cs.head?=some c):=by
 unfold Txt.startswith Builtin.Str.subAt
 have e:(⟨#[c]⟩:Str).length=1:=rfl
 have e2:(⟨cs.toArray⟩:Str).length=cs.length:=by show cs.toArray.size=_; simp
 rw [e,e2]
 cases cs with
 | nil=>simp
 | cons a r=>
  rw [Bool.eq_iff_iff]
  simp
noncomputable def J2 (m:Nat):List Nat:=(Nat.toDigits 10 m).map Char.toNat
noncomputable def n6 (n:Int):List Nat:=if n < 0 then 45::J2 n.natAbs else J2 n.natAbs
theorem a4R {m k:Nat}(h:0 < k)(hm:m < 10 ^ k):(J2 m).length≤k:=by
 unfold J2
 rw [List.length_map]
 exact (Nat.length_toDigits_le_iff (by decide) h).mpr hm
theorem a5j (m:Nat):1≤(J2 m).length:=by
 unfold J2
 rw [List.length_map]
 exact Nat.length_toDigits_pos
theorem str_int (n:Int):Str.ofString (toString n)=⟨(n6 n).toArray⟩:=by
 have e:∀ s:String,Str.ofString s=⟨(s.toList.map Char.toNat).toArray⟩:=fun s=>by
  have q:=a9b s
  cases h:Str.ofString s with
  | mk a=>
   rw [h] at q
   have q':a.toList=s.toList.map Char.toNat:=q
   rw [← q']
 rw [e]
 congr 2
 cases n with
 | ofNat m=>
  show (Nat.repr m).toList.map Char.toNat=_
  rw [Nat.toList_repr]
  unfold n6 J2
  rw [if_neg (by simp)]
  rfl
 | negSucc m=>
  have e1:toString (Int.negSucc m)="-"++Nat.repr (m + 1):=rfl
  rw [e1,String.toList_append,List.map_append,Nat.toList_repr]
  unfold n6 J2
  rw [if_pos (Int.negSucc_lt_zero m)]
  rfl
theorem a5x {n:Int}{k:Nat}(hk:0 < k)(h:n.natAbs < 10 ^ k):(n6 n).length≤k + 1:=by
 unfold n6
 have:=a4R hk h
 split
 ·rw [List.length_cons]; omega
 ·omega
end Wd
set_option Elab.async false
set_option linter.all false
set_option maxRecDepth 100000
set_option maxHeartbeats 4000000
namespace Wd
open PySem Builtin Builtin.Str
noncomputable def i8 (c:Nat):List Nat→List (List Nat)
 | []=>[[]]
 | a::r=>if a=c then []::i8 c r else match i8 c r with
  | []=>[[a]]
  | p::ps=>(a::p)::ps
theorem K6 (c:Nat)(cs:List Nat):∃ p ps,i8 c cs=p::ps:=by
 cases cs with
 | nil=>exact ⟨_,_,rfl⟩
 | cons a r=>
  unfold i8
  split
  ·exact ⟨_,_,rfl⟩
  ·split <;> exact ⟨_,_,rfl⟩
noncomputable def u6 (c:Nat):Nat→List Nat→List Nat
 | _,[]=>[]
 | k,a::r=>if a=c then k::u6 c (k + 1) r else u6 c (k + 1) r
theorem sub_one (cs:List Nat)(c i:Nat):subAt ⟨cs.toArray⟩ ⟨#[c]⟩ i=decide (cs[i]?=some c):=by
 unfold subAt
 have e:(⟨#[c]⟩:Str).length=1:=rfl
 rw [e,Bool.eq_iff_iff]
 simp only [beq_iff_eq,decide_eq_true_eq]
 have h1:(cs.toArray.extract i (i + 1)).toList=(cs.drop i).take 1:=by simp
 constructor
 ·intro h
  rw [h] at h1
  have h2:[c]=(cs.drop i).take 1:=h1
  rw [← List.head?_drop]
  cases hd:cs.drop i with
  | nil=>rw [hd] at h2; simp at h2
  | cons a r=>rw [hd] at h2; simp at h2; simp [h2]
 ·intro h
  have h2:(cs.drop i).head?=some c:=by rw [List.head?_drop]; exact h
  have h3:(cs.drop i).take 1=[c]:=by
   cases hd:cs.drop i with
   | nil=>rw [hd] at h2; simp at h2
   | cons a r=>rw [hd] at h2; simp at h2; simp [h2]
  rw [h3] at h1
  exact Array.toList_inj.mp (by rw [h1])
theorem a3V (c:Nat)(cs:List Nat)(limit:Nat)(hl:cs.length < limit):∀ (n k:Nat) (arr:Array Nat) (free:Nat),k + n=cs.length + 1→arr.size≤k→free≤k→
  (forIn (List.range' k n) (arr,free) (StrLaws.occBody ⟨cs.toArray⟩ ⟨#[c]⟩ cs.length limit)).run.fst.toList=arr.toList++u6 c k (cs.drop k)
 | 0,k,arr,free,h1,_,_=>by
  rw [List.drop_eq_nil_of_le (by omega)]
  show arr.toList=arr.toList++[]
  simp
 | n + 1,k,arr,free,h1,h2,h3=>by
  rw [List.range'_succ,List.forIn_cons]
  unfold StrLaws.occBody
  have e:(⟨#[c]⟩:Str).length=1:=rfl
  by_cases hk:k < cs.length
  ·have hd:cs.drop k=cs[k]::cs.drop (k + 1):=List.drop_eq_getElem_cons hk
   have hs:subAt ⟨cs.toArray⟩ ⟨#[c]⟩ k=decide (cs[k]=c):=by
    rw [sub_one]
    simp [hk]
   by_cases hc:cs[k]=c
   ·rw [if_pos ⟨⟨⟨by simp only []; omega,h3⟩,by rw [e]; omega⟩,by rw [hs]; exact decide_eq_true hc⟩]
    have ih:=a3V c cs limit hl n (k + 1) (arr.push k) (k + (⟨#[c]⟩:Str).length) (by omega) (by rw [Array.size_push]; omega) (by rw [e]; exact Nat.le_refl _)
    refine Eq.trans ih ?_
    rw [hd]
    show (arr.push k).toList++_=arr.toList++(if cs[k]=c then _ else _)
    rw [if_pos hc]
    simp
   ·rw [if_neg (fun z=>by rw [hs] at z; exact hc (of_decide_eq_true z.2))]
    have ih:=a3V c cs limit hl n (k + 1) arr free (by omega) (by omega) (by omega)
    refine Eq.trans ih ?_
    rw [hd]
    show _=arr.toList++(if cs[k]=c then _ else _)
    rw [if_neg hc]
  ·rw [if_neg (fun z=>by have:=z.1.2; rw [e] at this; omega)]
   have ih:=a3V c cs limit hl n (k + 1) arr free (by omega) (by omega) (by omega)
   refine Eq.trans ih ?_
   rw [List.drop_eq_nil_of_le (by omega),List.drop_eq_nil_of_le (by omega)]
   rfl
theorem b1o (c:Nat)(cs:List Nat):occurrences ⟨cs.toArray⟩ ⟨#[c]⟩ 0 cs.length (cs.length + 1)=u6 c 0 cs:=by
 rw [StrLaws.occ_eq]
 have q:=a3V c cs (cs.length + 1) (Nat.lt_succ_self _) (cs.length + 1) 0 #[] 0 (by omega) (by simp) (Nat.le_refl _)
 simpa using q
theorem a2u (c:Nat):∀ (rest pre:List Nat) (s:Nat),s≤pre.length→
  ((s::(u6 c pre.length rest).map (· + 1)).zip (u6 c pre.length rest++[pre.length + rest.length])).map (fun x=>((pre++rest).drop x.1).take (x.2 - x.1))=
   (match i8 c rest with | p::ps=>(pre.drop s++p)::ps | []=>[])
 | [],pre,s,hs=>by
  show [((pre++[]).drop s).take (pre.length + 0 - s)]=[pre.drop s++[]]
  rw [List.append_nil,List.append_nil,List.take_of_length_le (by simp)]
 | a::r,pre,s,hs=>by
  have e:pre++a::r=(pre++[a])++r:=by simp
  have el:(pre++[a]).length=pre.length + 1:=by simp
  have elr:pre.length + (a::r).length=(pre++[a]).length + r.length:=by simp; omega
  by_cases hc:a=c
  ·have q:=a2u c r (pre++[a]) (pre.length + 1) (by rw [el]; exact Nat.le_refl _)
   obtain ⟨p,ps,hp⟩:=K6 c r
   have e1:u6 c pre.length (a::r)=pre.length::u6 c (pre.length + 1) r:=by show (if a=c then _ else _)=_; rw [if_pos hc]
   have e2:i8 c (a::r)=[]::i8 c r:=by show (if a=c then _ else _)=_; rw [if_pos hc]
   rw [e1,e2,elr]
   rw [el] at q
   rw [hp] at q ⊢
   rw [List.map_cons,List.cons_append,List.zip_cons_cons,List.map_cons,e,el]
   have e3:(pre++[a]).drop (pre.length + 1)=[]:=by rw [List.drop_eq_nil_of_le (by rw [el]; exact Nat.le_refl _)]
   rw [e3] at q
   rw [q]
   have e4:(((pre++[a])++r).drop s).take (pre.length - s)=pre.drop s:=by
    rw [← e,List.drop_append_of_le_length hs,List.take_append_of_le_length (by simp),List.take_of_length_le (by simp)]
   rw [← e] at e4
   simp [e4]
  ·have q:=a2u c r (pre++[a]) s (by rw [el]; omega)
   obtain ⟨p,ps,hp⟩:=K6 c r
   have e1:u6 c pre.length (a::r)=u6 c (pre.length + 1) r:=by show (if a=c then _ else _)=_; rw [if_neg hc]
   have e2:i8 c (a::r)=(a::p)::ps:=by show (if a=c then _ else _)=_; rw [if_neg hc,hp]
   rw [e1,e2,elr,e]
   rw [el] at q ⊢
   rw [hp] at q
   rw [q,List.drop_append_of_le_length hs]
   simp
theorem a46 {c:Nat}:∀ {cs:List Nat} {k:Nat},u6 c k cs=[]→i8 c cs=[cs]
 | [],_,_=>rfl
 | a::r,k,h=>by
  have hc:¬ a=c:=fun z=>by
   have h':(if a=c then k::u6 c (k + 1) r else u6 c (k + 1) r)=[]:=h
   rw [if_pos z] at h'
   cases h'
  have h':(if a=c then k::u6 c (k + 1) r else u6 c (k + 1) r)=[]:=h
  rw [if_neg hc] at h'
  have q:=a46 h'
  show (if a=c then _ else _)=_
  rw [if_neg hc,q]
theorem a8T {c:Nat}(hc:c < 128)(cs:List Nat):Txt.split ⟨cs.toArray⟩ ⟨#[c]⟩=(i8 c cs).map fun p=>(⟨p.toArray⟩:Str):=by
 have e:(⟨#[c]⟩:Str).length=1:=rfl
 have e2:(⟨cs.toArray⟩:Str).length=cs.length:=by show cs.toArray.size=_; simp
 have hk:Builtin.Str.strKind (⟨#[c]⟩:Str)=1:=by
  unfold Builtin.Str.strKind
  rw [if_pos]
  simp
  omega
 have hk2:decide (Builtin.Str.strKind (⟨cs.toArray⟩:Str) < Builtin.Str.strKind (⟨#[c]⟩:Str))=false:=by
  rw [hk]
  refine decide_eq_false ?_
  unfold Builtin.Str.strKind
  split
  ·omega
  ·split <;> omega
 unfold Txt.split
 rw [hk2,Bool.or_false,e,e2,b1o]
 by_cases h0:cs.length < 1
 ·rw [if_pos (decide_eq_true h0)]
  have:cs=[]:=List.length_eq_zero_iff.mp (by omega)
  subst this
  rfl
 ·rw [if_neg (by rw [decide_eq_true_eq]; exact h0)]
  by_cases h1:(u6 c 0 cs).isEmpty=true
  ·rw [if_pos h1,a46 (List.isEmpty_iff.mp h1)]
   rfl
  ·rw [if_neg h1]
   have q:=a2u c cs [] 0 (Nat.le_refl _)
   obtain ⟨p,ps,hp⟩:=K6 c cs
   rw [hp] at q ⊢
   unfold partsBetween
   simp only [] at q ⊢
   have q2:=congrArg (List.map fun p=>(⟨p.toArray⟩:Str)) q
   rw [List.map_map] at q2
   simp only [List.length_nil,Nat.zero_add,List.nil_append,List.drop_nil] at q2
   refine Eq.trans ?_ q2
   rw [e2]
   refine List.map_congr_left fun x _=>?_
   show strSub _ x.1 x.2=(⟨((cs.drop x.1).take (x.2 - x.1)).toArray⟩:Str)
   unfold strSub
   congr 1
   refine Array.toList_inj.mp ?_
   simp
noncomputable def x9 (sep:List Nat):List (List Nat)→List Nat
 | []=>[]
 | p::ps=>p++(ps.map fun q=>sep++q).flatten
theorem a9l (sep:List Nat)(ps:List (List Nat)):Txt.join ⟨sep.toArray⟩ (ps.map fun p=>(⟨p.toArray⟩:Str))=⟨(x9 sep ps).toArray⟩:=by
 unfold Txt.join glued
 congr 1
 have key:∀ (qs:List (List Nat)) (acc:List Nat),((qs.map fun p=>(⟨p.toArray⟩:Str)).foldl (fun acc p=>acc++(⟨sep.toArray⟩:Str).cps++p.cps) acc.toArray)=(acc++(qs.map fun q=>sep++q).flatten).toArray:=by
  intro qs
  induction qs with
  | nil=>intro acc; simp
  | cons q r ih=>
   intro acc
   rw [List.map_cons,List.foldl_cons]
   have e:acc.toArray++(⟨sep.toArray⟩:Str).cps++(⟨q.toArray⟩:Str).cps=(acc++(sep++q)).toArray:=by simp
   rw [e,ih]
   simp
 cases ps with
 | nil=>rfl
 | cons p r=>
  rw [List.map_cons,List.drop_one,List.tail_cons]
  show List.foldl _ p.toArray _=_
  rw [key]
  rfl
theorem V2 {c:Nat}:∀ {p:List Nat},(∀ x∈p,x≠c)→i8 c p=[p]
 | [],_=>rfl
 | a::r,h=>by
  show (if a=c then _ else _)=_
  rw [if_neg (h a List.mem_cons_self),V2 fun x hx=>h x (List.mem_cons_of_mem _ hx)]
theorem K5 {c:Nat}:∀ {p:List Nat} (r:List Nat),(∀ x∈p,x≠c)→i8 c (p++c::r)=p::i8 c r
 | [],r,_=>by
  show (if c=c then _ else _)=_
  rw [if_pos rfl]
 | a::q,r,h=>by
  show (if a=c then _ else match i8 c (q++c::r) with | []=>[[a]] | p::ps=>(a::p)::ps)=_
  rw [if_neg (h a List.mem_cons_self),K5 r fun x hx=>h x (List.mem_cons_of_mem _ hx)]
theorem a0s {c:Nat}:∀ {ps:List (List Nat)},ps≠[]→(∀ p∈ps,∀ x∈p,x≠c)→i8 c (x9 [c] ps)=ps
 | [],h,_=>absurd rfl h
 | [p],_,h=>by
  show i8 c (p++[])=[p]
  rw [List.append_nil]
  exact V2 (h p List.mem_cons_self)
 | p::q::r,_,h=>by
  have e:x9 [c] (p::q::r)=p++c::x9 [c] (q::r):=by
   show p++(([c]++q)++(r.map fun q=>[c]++q).flatten)=p++c::(q++(r.map fun q=>[c]++q).flatten)
   simp
  rw [e,K5 _ (h p List.mem_cons_self),a0s (by simp) fun x hx=>h x (List.mem_cons_of_mem _ hx)]
theorem O8 (c:Nat):∀ cs:List Nat,(i8 c cs).length≤cs.length + 1
 | []=>Nat.le_refl _
 | a::r=>by
  have ih:=O8 c r
  obtain ⟨p,ps,hp⟩:=K6 c r
  show (if a=c then []::i8 c r else match i8 c r with | []=>[[a]] | p::ps=>(a::p)::ps).length≤_
  split
  ·rw [List.length_cons,List.length_cons]; omega
  ·rw [hp] at ih ⊢
   simp only [List.length_cons] at ih ⊢
   omega
end Wd
set_option Elab.async false
set_option linter.all false
set_option maxRecDepth 100000
set_option maxHeartbeats 4000000
namespace L2
open PySem PySem.Spec PyProof.Rows
section
variable {X:Cx}{e:Expr}{es:List Expr}{te:TE}{pos:Pos}
noncomputable abbrev TJ:=St→Hp→Str→VK→Prop
noncomputable def PJ (X:Cx)(es:List Expr)(t:TJ):Prop:=
 ∀ (pins:List (Addr×Obj)) (s:Shared) (σ:St) (H:Hp) (out:Str) (Q:VK),Inv X pins σ H s→t σ H out Q→wpAny (model X.prog X.w) X.A (joinParts out (evalEach es X.env)) (EP X pins σ Q) X.xe s
noncomputable def b5J:TJ:=fun _ H out Q=>out.length≤sizeLine∧Q (.str out) H
noncomputable def b4q (te:TE)(t:TJ):TJ:=fun σ H out Q=>te σ H fun v H1=>∃ y:Str,v=.str y∧(out++y).length≤sizeLine∧t σ H1 (out++y) Q
theorem b2N:PJ X [] b5J:=by
 intro pins s σ H out Q I h
 exact PyProof.Rows.joinParts_nil ⟨.str out,H,I.tok _,⟨_,rfl⟩,h.2⟩ h.1
theorem b1S {t:TJ}(he:PE X e te)(hr:PJ X es t)(hs:evalEach (e::es) X.env=eval e X.env::evalEach es X.env:=by rfl):PJ X (e::es) (b4q te t):=by
 intro pins s σ H out Q I h
 rw [hs]
 refine PyProof.Rows.joinParts_cons (C7 (he pins s σ H _ I h) fun u s1 ⟨v,H1,I1,r,y,ev,hl,q⟩=>?_)
 subst ev
 obtain ⟨t',rfl⟩:=r
 exact ⟨hl,hr pins s1 σ H1 _ Q I1 q⟩
theorem a7u {v1 v2:Expr}{t:TJ}(h:PJ X (v1::v2::es) t)(hs:evalEach (v1::v2::es) X.env=eval v1 X.env::eval v2 X.env::evalEach es X.env:=by rfl):PE X (.JoinedStr (v1::v2::es) pos) (fun σ H Q=>t σ H Str.empty Q):=by
 intro pins s σ H Q I hq
 have q:=h pins s σ H Str.empty Q I hq
 rw [hs] at q
 exact PyProof.Rows.JoinedStr_many q
end
theorem b0B {ys:List Str}:∀ {us:List Value},Vals (ys.map V.str) us→StrsAre us ys:=by
 induction ys with
 | nil=>intro us r; rw [List.map_nil] at r; cases r; exact .nil
 | cons n ns ih=>
  intro us r
  rw [List.map_cons] at r
  cases r with
  | cons r1 r2=>
   obtain ⟨t,e⟩:=r1
   subst e
   exact .cons n t (ih r2)
theorem a3M:∀ (l:List (Str×Tok)),Vals ((l.map (·.1)).map V.str) (strValues l)
 | []=>.nil
 | p::r=>.cons ⟨_,rfl⟩ (a3M r)
section
variable {X:Cx}
theorem b0S:MtR X "str.join" (fun x xs H Q=>∃ (sep:List Nat) (p:Addr) (ps:List (List Nat)),x=.str (tx sep)∧xs=[.ref p]∧L4 X.K H p (ps.map fun q=>V.str (tx q))∧(ps.map List.length).sum + ps.length * sep.length≤16777216∧Q (.str (tx (Wd.x9 sep ps))) H):=by
 intro pins s σ H x xs v us Q I rx rs h
 obtain ⟨sep,p,ps,rfl,rfl,hq,hz,q⟩:=h
 obtain ⟨t,rfl⟩:=rx
 obtain ⟨u,rfl,ru⟩:=vals1 rs
 cases ru
 obtain ⟨its,rv,pl,_⟩:=I.list hq
 have e1:(ps.map fun q=>V.str (tx q))=(ps.map fun q=>tx q).map V.str:=by rw [List.map_map]; rfl
 rw [e1] at rv
 have e2:((ps.map fun q=>tx q).map (·.length))=ps.map List.length:=by
  rw [List.map_map]
  exact List.map_congr_left fun a _=>E7 a
 refine PyProof.Rows.join_list pl.isList (by simpa using b0B rv) (by rw [e2,List.length_map,E7]; exact hz) fun t' k=>?_
 rw [Wd.a9l]
 exact ⟨.str _,H,I.tok k,⟨_,rfl⟩,q⟩
theorem a9k:MtR X "str.split" (fun x xs H Q=>∃ (cs:List Nat) (c:Nat),x=.str (tx cs)∧xs=[.str (tx [c])]∧c < 128∧cs.length < 1000000∧∀ p,H p=none→Q (.ref p) (upd H p (.lst ((Wd.i8 c cs).map fun q=>V.str (tx q))))):=by
 intro pins s σ H x xs v us Q I rx rs h
 obtain ⟨cs,c,rfl,rfl,hc,hz,q⟩:=h
 obtain ⟨t,rfl⟩:=rx
 obtain ⟨u,rfl,t',rfl⟩:=vals1 rs
 have hsp:=Wd.a8T hc cs
 have hl:((Wd.i8 c cs).map fun q=>V.str (tx q)).length≤sizeLine:=by
  rw [List.length_map,sizeLine_eq]
  have:=Wd.O8 c cs
  omega
 
 have fin:∀ (l:List (Str×Tok)) (k:Nat),l.map (·.1)=Txt.split (tx cs) (tx [c])→EP X pins σ Q (.ref s.heap.objs.size) { s with heap:=s.heap.push { cls:=.type "list",data:=.seq (strValues l).toArray },toks:=k }:=by
  intro l k e
  have rv:=a3M l
  rw [e,hsp,List.map_map] at rv
  exact ⟨.ref s.heap.objs.size,_,I.b4e (t':=k) (ys:=(Wd.i8 c cs).map fun q=>V.str (tx q)) rv hl,rfl,q _ I.fresh⟩
 have hy:((tx [c]).length == 0)=false:=rfl
 have hx:(tx cs).length≤sizeLine:=by rw [E7,sizeLine_eq]; omega
 cases h1:(decide ((tx cs).length < (tx [c]).length) || decide (Builtin.Str.strKind (tx cs) < Builtin.Str.strKind (tx [c]))) with
 | true=>
  refine call_meets PySem.F.slot_str_split (typeIs_str _ _ _) PySem.F.entry_str_split (PySem.F.args_str_split_2 _ _) (meets_str_split_cannot_occur (tx cs) (tx [c]) t t' h1) ?_
  exact fin [(tx cs,t)] s.toks (if_pos h1).symm
 | false=>
  cases hf:(Builtin.Str.occurrences (tx cs) (tx [c]) 0 (tx cs).length ((tx cs).length + 1)).isEmpty with
  | true=>
   refine call_meets PySem.F.slot_str_split (typeIs_str _ _ _) PySem.F.entry_str_split (PySem.F.args_str_split_2 _ _) (meets_str_split_not_found (tx cs) (tx [c]) t t' h1 hy hf) ?_
   exact fin [(tx cs,t)] s.toks ((if_neg (by rw [h1]; exact Bool.false_ne_true)).trans (if_pos hf)).symm
  | false=>
   have es:Txt.split (tx cs) (tx [c])=Builtin.Str.partsBetween (tx cs) (Builtin.Str.occurrences (tx cs) (tx [c]) 0 (tx cs).length ((tx cs).length + 1)) (tx [c]).length:=
    (if_neg (by rw [h1]; exact Bool.false_ne_true)).trans (if_neg (by rw [hf]; exact Bool.false_ne_true))
   have hn:(Builtin.Str.partsBetween (tx cs) (Builtin.Str.occurrences (tx cs) (tx [c]) 0 (tx cs).length ((tx cs).length + 1)) (tx [c]).length).length≤sizeLine:=by
    rw [← es,hsp,List.length_map]
    rw [List.length_map] at hl
    exact hl
   refine call_meets PySem.F.slot_str_split (typeIs_str _ _ _) PySem.F.entry_str_split (PySem.F.args_str_split_2 _ _) (meets_str_split_sep (tx cs) (tx [c]) t t' h1 hy hf hx hn) ?_
   have r:=fin (numbered s.toks (Builtin.Str.partsBetween (tx cs) (Builtin.Str.occurrences (tx cs) (tx [c]) 0 (tx cs).length ((tx cs).length + 1)) (tx [c]).length)) (s.toks + (Builtin.Str.partsBetween (tx cs) (Builtin.Str.occurrences (tx cs) (tx [c]) 0 (tx cs).length ((tx cs).length + 1)) (tx [c]).length).length) ((numbered_texts _ _).trans es.symm)
   rw [← strsFrom_eq] at r
   exact r
end
end L2
set_option Elab.async false
set_option linter.all false
set_option maxRecDepth 100000
set_option maxHeartbeats 4000000
namespace L2
open PySem PySem.Spec PyProof.Rows
section
variable {X:Cx}{K:PySem.W.Frag}
theorem a7m (hK:X.K=K):D4 X (.builtin "len") (fun xs H Q=>∃ p ys,xs=[.ref p]∧(L4 K H p ys∨V8 K H p ys)∧Q (.int ys.length) H):=by subst hK; exact a4D
theorem a96 (hK:X.K=K):IxR X (b3m K):=by subst hK; exact b0X
theorem b1c (hK:X.K=K):IxR X (b27 K):=by subst hK; exact b20
theorem a7E (hK:X.K=K)(hc:X.calm=true):D4 X (.builtin "all") (fun xs H Q=>∃ (p:Addr) (bs:List Bool),xs=[.ref p]∧L4 K H p (bs.map V.bl)∧Q (.bl (bs.all id)) H):=by subst hK; exact a8y hc
end
noncomputable def M3 (H:Hp):List V→List (List Int)→Prop:=Paired fun v c=>∃ b,v=V.ref b∧H b=some (.tup (c.map V.int))
noncomputable def ClsAt (K:PySem.W.Frag)(H:Hp)(a:Addr)(cs:List (List Int)):Prop:=∃ vs,L4 K H a vs∧M3 H vs cs
theorem M3.same {H H':Hp}(s:d8 H H'):∀ {vs:List V} {cs:List (List Int)},M3 H vs cs→M3 H' vs cs
 | _,_,.nil=>.nil
 | _,_,.cons ⟨b,e,h⟩ t=>.cons ⟨b,e,s b _ h⟩ (M3.same s t)
theorem ClsAt.same {K:PySem.W.Frag}{H H':Hp}{a:Addr}{cs:List (List Int)}(s:d8 H H')(h:ClsAt K H a cs):ClsAt K H' a cs:=by
 obtain ⟨vs,h1,h2⟩:=h
 exact ⟨vs,s.seq h1,h2.same s⟩
theorem M3.b41 {H:Hp}:∀ {vs:List V} {cs:List (List Int)} {i:Nat} {v:V},M3 H vs cs→vs[i]?=some v→∃ c b,cs[i]?=some c∧v=.ref b∧H b=some (.tup (c.map V.int))
 | _,_,_,_,.nil,h=>by simp at h
 | _,_,0,_,.cons ⟨b,e,h⟩ _,hi=>by
  simp at hi
  subst hi
  exact ⟨_,b,rfl,e,h⟩
 | _,_,i + 1,v,.cons _ t,hi=>by
  obtain ⟨c,b,h1,h2,h3⟩:=M3.b41 (i:=i) t (by simpa using hi)
  exact ⟨c,b,by simpa using h1,h2,h3⟩
theorem M3.get {K:PySem.W.Frag}{H:Hp}{vs:List V}{cs:List (List Int)}{i:Nat}{v:V}(h:M3 H vs cs)(hv:vs[i]?=some v):∃ c b,cs[i]?=some c∧v=.ref b∧V8 K H b (c.map V.int):=by
 obtain ⟨c,b,h1,h2,h3⟩:=h.b41 hv
 exact ⟨c,b,h1,h2,V8.of h3⟩
theorem d8.upd {H H':Hp}{a:Addr}{o:HO}(s:d8 H H')(h:H a=none):d8 H (L2.upd H' a o):=fun b u q=>by
 rw [j3 (m7 q h)]
 exact s b u q
theorem M3.len {H:Hp}{vs:List V}{cs:List (List Int)}(h:M3 H vs cs):vs.length=cs.length:=Paired.length h
end L2
set_option Elab.async false
set_option linter.all false
set_option maxRecDepth 100000
set_option maxHeartbeats 4000000
namespace L3
open PySem PySem.Spec PyProof.Rows L2
noncomputable abbrev St:=L2.St
inductive D where
 | t6 | bl (b:Bool) | int (i:Int) | str (cs:List Nat) | ty (n:String)
 | tup (xs:List D) | lst (xs:List D) | dct (kvs:List (Key×D))
instance:Inhabited D:=⟨.t6⟩
inductive Rep (K:PySem.W.Frag) (G:Hp):V→D→Prop
 | t6:Rep K G .t6 .t6
 | bl (b:Bool):Rep K G (.bl b) (.bl b)
 | int (i:Int):Rep K G (.int i) (.int i)
 | str (cs:List Nat):Rep K G (.str (tx cs)) (.str cs)
 | ty (n:String):Rep K G (.ty n) (.ty n)
 | tup {a:Addr} {xs:List V} {ds:List D} (h:V8 K G a xs) (hl:xs.length=ds.length) (hr:∀ (j:Nat) x d,xs[j]?=some x→ds[j]?=some d→Rep K G x d):Rep K G (.ref a) (.tup ds)
 | lst {a:Addr} {xs:List V} {ds:List D} (h:L4 K G a xs) (hl:xs.length=ds.length) (hr:∀ (j:Nat) x d,xs[j]?=some x→ds[j]?=some d→Rep K G x d):Rep K G (.ref a) (.lst ds)
 | dct {a:Addr} {kvs:List (Key×V)} {es:List (Key×D)} (h:Rd G a (.dK kvs)) (hk:kvs.map (·.1)=es.map (·.1)) (hr:∀ (j:Nat) p e,kvs[j]?=some p→es[j]?=some e→Rep K G p.2 e.2):Rep K G (.ref a) (.dct es)
theorem Rd.same {G G':Hp}{a:Addr}{u:HO}(s:d8 G G')(h:Rd G a u):Rd G' a u:=by
 rcases h with h | ⟨o,h⟩
 ·exact .inl (s _ _ h)
 ·exact .inr ⟨o,s _ _ h⟩
theorem _root_.L2.W5.r {H:Hp}{a:Addr}{kvs:List (Key×V)}{k:Key}(e:Rd H a (.dK kvs)):W5 H a (kV k) (W4 kvs k):=.inl ⟨kvs,k,e,rfl,rfl⟩
theorem Rep.same {K:PySem.W.Frag}{G G':Hp}(s:d8 G G'){v:V}{d:D}(h:Rep K G v d):Rep K G' v d:=by
 induction h with
 | t6=>exact .t6
 | bl b=>exact .bl b
 | int i=>exact .int i
 | str cs=>exact .str cs
 | ty n=>exact .ty n
 | tup h hl _ ih=>exact .tup (s.tup h) hl ih
 | lst h hl _ ih=>exact .lst (s.seq h) hl ih
 | dct h hk _ ih=>exact .dct (L3.Rd.same s h) hk ih
structure l7 (K:PySem.W.Frag) (G:Hp) (xs:List V) (ds:List D):Prop where
 len:xs.length=ds.length
 get:∀ (j:Nat) x d,xs[j]?=some x→ds[j]?=some d→Rep K G x d
structure k6 (K:PySem.W.Frag) (G:Hp) (kvs:List (Key×V)) (es:List (Key×D)):Prop where
 keys:kvs.map (·.1)=es.map (·.1)
 get:∀ (j:Nat) p e,kvs[j]?=some p→es[j]?=some e→Rep K G p.2 e.2
section
variable {K:PySem.W.Frag}{G G' H:Hp}
theorem l7.same (s:d8 G G'){xs:List V}{ds:List D}(h:l7 K G xs ds):l7 K G' xs ds:=⟨h.len,fun j x d a b=>(h.get j x d a b).same s⟩
theorem k6.same (s:d8 G G'){kvs:List (Key×V)}{es:List (Key×D)}(h:k6 K G kvs es):k6 K G' kvs es:=⟨h.keys,fun j x d a b=>(h.get j x d a b).same s⟩
theorem l7.nil:l7 K G [] []:=⟨rfl,fun j x d h=>by simp at h⟩
theorem l7.cons {x:V}{d:D}{xs:List V}{ds:List D}(h:Rep K G x d)(r:l7 K G xs ds):l7 K G (x::xs) (d::ds):=by
 refine ⟨by simp [r.len],fun j y e a b=>?_⟩
 cases j with
 | zero=>simp at a b; subst a b; exact h
 | succ j=>exact r.get j y e (by simpa using a) (by simpa using b)
theorem l7.head {x:V}{d:D}{xs:List V}{ds:List D}(r:l7 K G (x::xs) (d::ds)):Rep K G x d:=r.get 0 x d rfl rfl
theorem l7.tail {x:V}{d:D}{xs:List V}{ds:List D}(r:l7 K G (x::xs) (d::ds)):l7 K G xs ds:=⟨by have:=r.len; simpa using this,fun j y e a b=>r.get (j + 1) y e (by simpa using a) (by simpa using b)⟩
theorem l7.append {xs ys:List V}{ds es:List D}(h:l7 K G xs ds)(r:l7 K G ys es):l7 K G (xs++ys) (ds++es):=by
 refine ⟨by simp [h.len,r.len],fun j x d a b=>?_⟩
 by_cases hj:j < xs.length
 ·rw [List.getElem?_append_left hj] at a
  rw [List.getElem?_append_left (by rw [← h.len]; exact hj)] at b
  exact h.get j x d a b
 ·rw [List.getElem?_append_right (by omega)] at a
  rw [List.getElem?_append_right (by rw [← h.len]; omega),← h.len] at b
  exact r.get _ x d a b
theorem l7.one {x:V}{d:D}(h:Rep K G x d):l7 K G [x] [d]:=.cons h .nil
theorem l7.at {xs:List V}{ds:List D}(h:l7 K G xs ds){j:Nat}{d:D}(e:ds[j]?=some d):∃ x,xs[j]?=some x∧Rep K G x d:=by
 have hj:j < xs.length:=by rw [h.len]; exact (List.getElem?_eq_some_iff.mp e).1
 exact ⟨xs[j],by simp [hj],h.get j _ d (by simp [hj]) e⟩
theorem l7.atV {xs:List V}{ds:List D}(h:l7 K G xs ds){j:Nat}{x:V}(e:xs[j]?=some x):∃ d,ds[j]?=some d∧Rep K G x d:=by
 have hj:j < ds.length:=by rw [← h.len]; exact (List.getElem?_eq_some_iff.mp e).1
 exact ⟨ds[j],by simp [hj],h.get j x _ e (by simp [hj])⟩
theorem l7.take {xs:List V}{ds:List D}(h:l7 K G xs ds)(n:Nat):l7 K G (xs.take n) (ds.take n):=by
 refine ⟨by simp [h.len],fun j x d a b=>?_⟩
 rw [List.getElem?_take] at a b
 by_cases hj:j < n
 ·rw [if_pos hj] at a b; exact h.get j x d a b
 ·rw [if_neg hj] at a; cases a
theorem l7.drop {xs:List V}{ds:List D}(h:l7 K G xs ds)(n:Nat):l7 K G (xs.drop n) (ds.drop n):=by
 refine ⟨by simp [h.len],fun j x d a b=>?_⟩
 rw [List.getElem?_drop] at a b
 exact h.get _ x d a b
theorem l7.set {xs:List V}{ds:List D}{x:V}{d:D}(h:l7 K G xs ds)(hx:Rep K G x d)(n:Nat):l7 K G (xs.set n x) (ds.set n d):=by
 refine ⟨by simp [h.len],fun j y e a b=>?_⟩
 by_cases hj:n=j
 ·subst hj
  rw [List.getElem?_set_self' ] at a b
  cases hx1:xs[n]? with
  | none=>rw [hx1] at a; simp at a
  | some _=>
   cases hd1:ds[n]? with
   | none=>rw [hd1] at b; simp at b
   | some _=>
    rw [hx1] at a; rw [hd1] at b
    simp at a b
    subst a b
    exact hx
 ·rw [List.getElem?_set_ne hj] at a b
  exact h.get j y e a b
theorem l7.a4c (ns:List Int):l7 K G (ns.map V.int) (ns.map D.int):=by
 refine ⟨by simp,fun j x d a b=>?_⟩
 rw [List.getElem?_map] at a b
 cases h:ns[j]? with
 | none=>rw [h] at a; cases a
 | some n=>rw [h] at a b; cases a; cases b; exact .int n
theorem l7.b1s (ns:List (List Nat)):l7 K G (ns.map fun q=>V.str (tx q)) (ns.map D.str):=by
 refine ⟨by simp,fun j x d a b=>?_⟩
 rw [List.getElem?_map] at a b
 cases h:ns[j]? with
 | none=>rw [h] at a; cases a
 | some n=>rw [h] at a b; cases a; cases b; exact .str n
end
inductive C where
 | sh (d:D) | ow (l:Bool) (d:D) | fz (es:List (Key×D)) | ob (l:Bool) (fds:List (Str×D)) | rd (fds:List (Str×D))
noncomputable def isO:C→Bool
 | .ob _ _=>true
 | .rd _=>true
 | _=>false
noncomputable abbrev i9:=List (Option C)
inductive W where
 | val (d:D) | slot (i:Nat) | own (d:D)
structure Bs where
 K:PySem.W.Frag
 H0:Hp
 HK:Hp
 G0:Hp
 L:Nat→Option Addr
 O:Option (Nat×Nat×Addr):=none
noncomputable def Bs.gh (B:Bs)(i:Nat):Bool:=match B.O with
 | some (_,j,_)=>decide (i=j)
 | none=>false
noncomputable def Lnt (B:Bs)(i:Nat):Bool→Addr→Prop
 | true,p=>B.L i=some p∨(B.gh i=true∧B.L i=none∧B.H0 p=none)
 | false,p=>B.H0 p=none
noncomputable def y9 (K:PySem.W.Frag)(G H:Hp)(p:Addr):D→Prop
 | .lst ds=>∃ xs,H p=some (.lst xs)∧l7 K G xs ds
 | .dct es=>∃ kvs,H p=some (.dK kvs)∧k6 K G kvs es
 | _=>False
theorem y9.some {K:PySem.W.Frag}{G H:Hp}{p:Addr}{d:D}(h:y9 K G H p d):∃ o,H p=some o:=by
 cases d with
 | lst ds=>obtain ⟨xs,e,_⟩:=h; exact ⟨_,e⟩
 | dct es=>obtain ⟨xs,e,_⟩:=h; exact ⟨_,e⟩
 | _=>exact (show False from h).elim
theorem y9.same {K:PySem.W.Frag}{G G' H H':Hp}{p:Addr}{d:D}(s:d8 G G')(e:H' p=H p)(h:y9 K G H p d):y9 K G' H' p d:=by
 cases d with
 | lst ds=>obtain ⟨xs,q,r⟩:=h; exact ⟨xs,by rw [e]; exact q,r.same s⟩
 | dct es=>obtain ⟨xs,q,r⟩:=h; exact ⟨xs,by rw [e]; exact q,r.same s⟩
 | _=>exact (show False from h).elim
noncomputable def FZ (K:PySem.W.Frag)(G:Hp)(σ:St)(ρ:i9):Prop:=∀ (i:Nat) es,ρ[i]?=some (some (.fz es))→∃ a o kvs,σ[i]?=some (some (.ref a))∧G a=some (.frz o (.dK kvs))∧k6 K G kvs es
theorem FZ.same {K:PySem.W.Frag}{G G':Hp}{σ:St}{ρ:i9}(h:FZ K G σ ρ)(s:d8 G G'):FZ K G' σ ρ:=fun i es e=>by
 obtain ⟨a,o,kvs,h1,h2,h3⟩:=h i es e
 exact ⟨a,o,kvs,h1,s _ _ h2,h3.same s⟩
theorem FZ.a24 {K:PySem.W.Frag}{G:Hp}{σ:St}{ρ:i9}{i:Nat}{c:Option C}(h:FZ K G σ ρ)(hc:∀ es,c≠some (.fz es)):FZ K G σ (ρ.set i c):=fun j es e=>by
 by_cases z:i=j
 ·subst z
  rw [List.getElem?_set_self'] at e
  cases q:ρ[i]? with
  | none=>rw [q] at e; cases e
  | some c0=>rw [q] at e; exact absurd (Option.some.inj e) (hc es)
 ·rw [List.getElem?_set_ne z] at e; exact h j es e
theorem FZ.a8n {K:PySem.W.Frag}{G:Hp}{σ:St}{ρ:i9}{i:Nat}{c:Option C}{v:Option V}(h:FZ K G σ ρ)(hc:∀ es,c≠some (.fz es)):FZ K G (σ.set i v) (ρ.set i c):=fun j es e=>by
 by_cases z:i=j
 ·subst z
  rw [List.getElem?_set_self'] at e
  cases q:ρ[i]? with
  | none=>rw [q] at e; cases e
  | some c0=>rw [q] at e; exact absurd (Option.some.inj e) (hc es)
 ·rw [List.getElem?_set_ne z] at e ⊢; exact h j es e
noncomputable def a9O:Str:="table"
noncomputable def a3b (K:PySem.W.Frag)(G:Hp)(fs:List (Str×V))(fds:List (Str×D)):Prop:=Paired (fun (p:Str×V) (q:Str×D)=>p.1=q.1∧(p.1≠a9O→Rep K G p.2 q.2)) fs fds
theorem a3b.same {K:PySem.W.Frag}{G G':Hp}(s:d8 G G'){fs:List (Str×V)}{fds:List (Str×D)}(h:a3b K G fs fds):a3b K G' fs fds:=Paired.b1d h fun _ _ z=>⟨z.1,fun n=>(z.2 n).same s⟩
noncomputable def OB (B:Bs)(G H:Hp)(σ:St)(ρ:i9):Prop:=(∀ (i:Nat) l fds,ρ[i]?=some (some (.ob l fds))→∃ j C p dx fs,B.O=some (i,j,C)∧σ[i]?=some (some (.ref p))∧G p=none∧B.HK p=none∧((l=true→B.L i=some p)∧(l=false→B.H0 p=none))∧
 H p=some (.ins C dx fs)∧a3b B.K G fs fds∧∀ v,fs.lookup a9O=some v→∀ d,ρ[j]?=some (some (.ow true d))→σ[j]?=some (some v))∧
 ∀ (i:Nat) fds,ρ[i]?=some (some (.rd fds))→∃ i0 j0 C p dx fs,B.O=some (i0,j0,C)∧σ[i]?=some (some (.ref p))∧B.HK p=some (.ins C dx fs)∧a3b B.K G fs fds
theorem OB.to {B:Bs}{G H G' H':Hp}{σ σ':St}{ρ ρ':i9}(h:OB B G H σ ρ)(s:d8 G G')(hG:∀ p C dx fs,H p=some (.ins C dx fs)→G p=none→G' p=none)(hH:∀ p C dx fs,H p=some (.ins C dx fs)→B.HK p=none→G p=none→H' p=some (.ins C dx fs))
  (ho:∀ (i:Nat) c,isO c=true→ρ'[i]?=some (some c)→ρ[i]?=some (some c)∧σ'[i]?=σ[i]?) (hw:∀ (j:Nat) d,ρ'[j]?=some (some (.ow true d))→(∃ d0,ρ[j]?=some (some (.ow true d0)))∧σ'[j]?=σ[j]?):OB B G' H' σ' ρ':=by
 refine ⟨fun i l fds e=>?_,fun i fds e=>?_⟩
 ·obtain ⟨e0,es⟩:=ho i _ rfl e
  obtain ⟨j,C,p,dx,fs,a1,a2,a3,a4,a5,a6,a7,a8⟩:=h.1 i l fds e0
  refine ⟨j,C,p,dx,fs,a1,by rw [es]; exact a2,hG _ _ _ _ a6 a3,a4,a5,hH _ _ _ _ a6 a4 a3,a7.same s,fun v hv d hd=>?_⟩
  obtain ⟨⟨d0,h0⟩,e2⟩:=hw j d hd
  rw [e2]
  exact a8 v hv d0 h0
 ·obtain ⟨e0,es⟩:=ho i _ rfl e
  obtain ⟨i0,j,C,p,dx,fs,a1,a2,a3,a4⟩:=h.2 i fds e0
  exact ⟨i0,j,C,p,dx,fs,a1,by rw [es]; exact a2,a3,a4.same s⟩
theorem OB.gh {B:Bs}{G H G' H':Hp}{σ:St}{ρ:i9}(h:OB B G H σ ρ)(s:d8 G G')(hG:∀ p C dx fs,H p=some (.ins C dx fs)→G p=none→G' p=none)(hH:∀ p C dx fs,H p=some (.ins C dx fs)→B.HK p=none→G p=none→H' p=some (.ins C dx fs)):OB B G' H' σ ρ:=
 h.to s hG hH (fun _ _ _ e=>⟨e,rfl⟩) fun _ d e=>⟨⟨d,e⟩,rfl⟩
theorem OB.re {B:Bs}{G H:Hp}{σ:St}{ρ ρ':i9}(h:OB B G H σ ρ)(ho:∀ (i:Nat) c,isO c=true→ρ'[i]?=some (some c)→ρ[i]?=some (some c))(hw:∀ (j:Nat) d,ρ'[j]?=some (some (.ow true d))→∃ d0,ρ[j]?=some (some (.ow true d0))):OB B G H σ ρ':=
 h.to (d8.refl _) (fun _ _ _ _ _ g=>g) (fun _ _ _ _ e _ _=>e) (fun i c z e=>⟨ho i c z e,rfl⟩) fun j d e=>⟨hw j d e,rfl⟩
theorem a37 {ρ:i9}{i j:Nat}{c:Option C}{x:C}(e:(ρ.set i c)[j]?=some (some x)):(i=j∧c=some x)∨(i≠j∧ρ[j]?=some (some x)):=by
 by_cases z:i=j
 ·subst z
  rw [List.getElem?_set_self'] at e
  cases q:ρ[i]? with
  | none=>rw [q] at e; cases e
  | some c0=>rw [q] at e; exact .inl ⟨rfl,Option.some.inj e⟩
 ·rw [List.getElem?_set_ne z] at e; exact .inr ⟨z,e⟩
theorem OB.a24 {B:Bs}{G H:Hp}{σ:St}{ρ:i9}{i:Nat}{c:Option C}(h:OB B G H σ ρ)(hc:∀ x,c=some x→isO x=false)(hw:∀ d,c=some (.ow true d)→∃ d0,ρ[i]?=some (some (.ow true d0))):OB B G H σ (ρ.set i c):=by
 refine h.re (fun j x z e=>?_) fun j d e=>?_
 ·rcases a37 e with ⟨_,e'⟩ | ⟨_,e'⟩
  ·rw [hc x e'] at z; cases z
  ·exact e'
 ·rcases a37 e with ⟨z,e'⟩ | ⟨_,e'⟩
  ·subst z; exact hw d e'
  ·exact ⟨d,e'⟩
theorem OB.a8n {B:Bs}{G H:Hp}{σ:St}{ρ:i9}{i:Nat}{c:Option C}{v:Option V}(h:OB B G H σ ρ)(hc:∀ x,c=some x→isO x=false)(hw:∀ d,c≠some (.ow true d)):OB B G H (σ.set i v) (ρ.set i c):=by
 refine h.to (d8.refl _) (fun _ _ _ _ _ g=>g) (fun _ _ _ _ e _ _=>e) (fun j x z e=>?_) fun j d e=>?_
 ·rcases a37 e with ⟨_,e'⟩ | ⟨n,e'⟩
  ·rw [hc x e'] at z; cases z
  ·exact ⟨e',List.getElem?_set_ne n⟩
 ·rcases a37 e with ⟨_,e'⟩ | ⟨n,e'⟩
  ·exact absurd e' (hw d)
  ·exact ⟨⟨d,e'⟩,List.getElem?_set_ne n⟩
theorem a0G {K:PySem.W.Frag}{G H:Hp}{p q:Addr}{d:D}{C dx:Addr}{fs:List (Str×V)}(o:y9 K G H q d)(h:H p=some (.ins C dx fs)):p≠q:=by
 rintro rfl
 cases d with
 | lst ds=>obtain ⟨xs,e,_⟩:=o; rw [h] at e; cases e
 | dct es=>obtain ⟨xs,e,_⟩:=o; rw [h] at e; cases e
 | _=>exact (show False from o).elim
structure RS (B:Bs) (G H:Hp) (σ:St) (ρ:i9):Prop where
 hk:d8 B.HK B.H0
 keep:d8 B.HK H
 g0:d8 B.G0 G
 gH:d8 G H
 gnew:∀ p o,G p=some o→B.G0 p=some o∨B.H0 p=none
 dom:∀ p,H p=none→B.H0 p=none
 len:σ.length=ρ.length
 sh:∀ (i:Nat) d,ρ[i]?=some (some (.sh d))→∃ v,σ[i]?=some (some v)∧Rep B.K G v d
 ow:∀ (i:Nat) l d,ρ[i]?=some (some (.ow l d))→∃ p,σ[i]?=some (some (.ref p))∧G p=none∧B.HK p=none∧Lnt B i l p∧y9 B.K G H p d
 inj:∀ (i j:Nat) l d k e p,ρ[i]?=some (some (.ow l d))→ρ[j]?=some (some (.ow k e))→σ[i]?=some (some (.ref p))→σ[j]?=some (some (.ref p))→i=j
 fz:FZ B.K G σ ρ
 ob:OB B G H σ ρ
noncomputable def C8 (B:Bs)(G H:Hp)(σ:St)(ρ:i9)(v:V):W→Prop
 | .val d=>Rep B.K G v d
 | .slot i=>σ[i]?=some (some v)
 | .own d=>∃ p,v=.ref p∧G p=none∧B.H0 p=none∧y9 B.K G H p d∧∀ (i:Nat) l e,ρ[i]?=some (some (.ow l e))→σ[i]?≠some (some (.ref p))
noncomputable def D5 (K:PySem.W.Frag)(G H:Hp)(v:V)(d:D):Prop:=Rep K G v d∨∃ p,v=.ref p∧y9 K G H p d
section
variable {K:PySem.W.Frag}{G H:Hp}{v:V}
theorem D5.int {i:Int}(h:D5 K G H v (.int i)):v=.int i:=by
 rcases h with h | ⟨p,_,h⟩
 ·cases h; rfl
 ·exact (show False from h).elim
theorem D5.bl {b:Bool}(h:D5 K G H v (.bl b)):v=.bl b:=by
 rcases h with h | ⟨p,_,h⟩
 ·cases h; rfl
 ·exact (show False from h).elim
theorem D5.t6 (h:D5 K G H v .t6):v=.t6:=by
 rcases h with h | ⟨p,_,h⟩
 ·cases h; rfl
 ·exact (show False from h).elim
theorem D5.ty {n:String}(h:D5 K G H v (.ty n)):v=.ty n:=by
 rcases h with h | ⟨p,_,h⟩
 ·cases h; rfl
 ·exact (show False from h).elim
theorem D5.str {cs:List Nat}(h:D5 K G H v (.str cs)):v=.str (tx cs):=by
 rcases h with h | ⟨p,_,h⟩
 ·cases h; rfl
 ·exact (show False from h).elim
theorem D5.tup {ds:List D}(g:d8 G H)(h:D5 K G H v (.tup ds)):∃ a xs,v=.ref a∧V8 K H a xs∧l7 K G xs ds:=by
 rcases h with h | ⟨p,_,h⟩
 ·cases h with
  | tup h hl hr=>exact ⟨_,_,rfl,g.tup h,hl,hr⟩
 ·exact (show False from h).elim
theorem D5.lst {ds:List D}(g:d8 G H)(h:D5 K G H v (.lst ds)):∃ a xs,v=.ref a∧L4 K H a xs∧l7 K G xs ds:=by
 rcases h with h | ⟨p,rfl,xs,e,r⟩
 ·cases h with
  | lst h hl hr=>exact ⟨_,_,rfl,g.seq h,hl,hr⟩
 ·exact ⟨p,xs,rfl,L4.of e,r⟩
theorem D5.dct {es:List (Key×D)}(g:d8 G H)(h:D5 K G H v (.dct es)):∃ a kvs,v=.ref a∧Rd H a (.dK kvs)∧k6 K G kvs es:=by
 rcases h with h | ⟨p,rfl,xs,e,r⟩
 ·cases h with
  | dct h hk hr=>exact ⟨_,_,rfl,L3.Rd.same g h,hk,hr⟩
 ·exact ⟨p,xs,rfl,.inl e,r⟩
end
noncomputable def getD (w:W)(ρ:i9):Option D:=match w with
 | .val d=>some d
 | .own d=>some d
 | .slot i=>match ρ[i]? with
  | some (some (.sh d))=>some d
  | some (some (.ow _ d))=>some d
  | some (some (.fz es))=>some (.dct es)
  | _=>none
section
variable {B:Bs}{G G' H H':Hp}{σ:St}{ρ:i9}{v:V}{w:W}{d:D}
theorem C8.get (R:RS B G H σ ρ)(h:C8 B G H σ ρ v w)(e:getD w ρ=some d):D5 B.K G H v d:=by
 cases w with
 | val d'=>cases e; exact .inl h
 | own d'=>
  cases e
  obtain ⟨p,rfl,_,_,o,_⟩:=h
  exact .inr ⟨p,rfl,o⟩
 | slot i=>
  have h':σ[i]?=some (some v):=h
  unfold getD at e
  simp only [] at e
  split at e
  ·rename_i d' q
   cases e
   obtain ⟨v',q1,r⟩:=R.sh i _ q
   rw [h'] at q1
   cases q1
   exact .inl r
  ·rename_i l d' q
   cases e
   obtain ⟨p,q1,_,_,_,o⟩:=R.ow i _ _ q
   rw [h'] at q1
   cases q1
   exact .inr ⟨p,rfl,o⟩
  ·rename_i es q
   cases e
   obtain ⟨a,o,kvs,q1,q2,q3⟩:=R.fz i _ q
   rw [h'] at q1
   cases q1
   exact .inl (.dct (.inr ⟨o,q2⟩) q3.keys q3.get)
  ·cases e
theorem C8.same {ρ':i9}(s:d8 G G')(h:C8 B G H σ ρ v w)(hw:∀ d,w≠.own d):C8 B G' H' σ ρ' v w:=by
 cases w with
 | val d=>exact Rep.same s h
 | slot i=>exact h
 | own d=>exact absurd rfl (hw d)
theorem RS.frz {p:Addr}{d:D}(R:RS B G H σ ρ)(g:G p=none)(h0:B.H0 p=none)(o:y9 B.K G H p d)(ne:∀ (i:Nat) l e,ρ[i]?=some (some (.ow l e))→σ[i]?≠some (some (.ref p))):
  ∃ G',d8 G G'∧RS B G' H σ ρ∧Rep B.K G' (.ref p) d:=by
 obtain ⟨ob,hob⟩:=o.some
 have s:d8 G (upd G p ob):=Y9 g ob
 refine ⟨upd G p ob,s,⟨R.hk,R.keep,R.g0.trans s,?_,?_,R.dom,R.len,?_,?_,R.inj,R.fz.same s,R.ob.gh s (fun q _ _ _ hq g'=>by rw [j3 (a0G o hq)]; exact g') fun _ _ _ _ e _ _=>e⟩,?_⟩
 ·intro b u q
  by_cases e:b=p
  ·subst e; rw [l8] at q; cases q; exact hob
  ·rw [j3 e] at q; exact R.gH b u q
 ·intro b u q
  by_cases e:b=p
  ·subst e; exact .inr h0
  ·rw [j3 e] at q; exact R.gnew b u q
 ·intro i d' q
  obtain ⟨v,q1,r⟩:=R.sh i d' q
  exact ⟨v,q1,r.same s⟩
 ·intro i l d' q
  obtain ⟨p',q1,q2,q3,q4,q5⟩:=R.ow i l d' q
  have e:p'≠p:=fun z=>ne i l d' q (by rw [q1,z])
  exact ⟨p',q1,by rw [j3 e]; exact q2,q3,q4,q5.same s rfl⟩
 ·cases d with
  | lst ds=>
   obtain ⟨xs,e,r⟩:=o
   rw [e] at hob
   cases hob
   have r':=r.same s
   exact .lst (L4.of l8) r'.len r'.get
  | dct es=>
   obtain ⟨xs,e,r⟩:=o
   rw [e] at hob
   cases hob
   have r':=r.same s
   exact .dct (.inl l8) r'.keys r'.get
  | _=>exact (show False from o).elim
end
structure Exn where
 cls:Str
 fs:List (Str×D)
inductive R' (α:Type) where
 | ok (a:α) (ρ:i9) | ex (x:Exn) (ρ:i9)
noncomputable abbrev M (α:Type):=i9→Option (R' α)
noncomputable def M.pure {α:Type}(a:α):M α:=fun ρ=>some (.ok a ρ)
noncomputable def M.bind {α β:Type}(m:M α)(f:α→M β):M β:=fun ρ=>match m ρ with
 | none=>none
 | some (.ex x ρ')=>some (.ex x ρ')
 | some (.ok a ρ')=>f a ρ'
theorem M.f9 {α β:Type}{m:M α}{f:α→M β}{ρ ρ':i9}{a:α}(h:m ρ=some (.ok a ρ')):M.bind m f ρ=f a ρ':=by unfold M.bind; rw [h]
theorem M.a1M {α β:Type}{m:M α}{f:α→M β}{ρ ρ':i9}{x:Exn}(h:m ρ=some (.ex x ρ')):M.bind m f ρ=some (.ex x ρ'):=by unfold M.bind; rw [h]
theorem M.bind_none {α β:Type}{m:M α}{f:α→M β}{ρ:i9}(h:m ρ=none):M.bind m f ρ=none:=by unfold M.bind; rw [h]
noncomputable def D7 (w:W):M D:=fun ρ=>match w with
 | .val d=>some (.ok d ρ)
 | .own d=>some (.ok d ρ)
 | .slot i=>match ρ[i]? with
  | some (some (.sh d))=>some (.ok d ρ)
  | some (some (.ow false d))=>some (.ok d (ρ.set i (some (.sh d))))
  | some (some (.fz es))=>some (.ok (.dct es) ρ)
  | _=>none
theorem a1O {w:W}{ρ:i9}{r:R' D}(h:D7 w ρ=some r):∃ d ρ',r=.ok d ρ':=by
 unfold D7 at h
 cases w with
 | val d=>cases h; exact ⟨_,_,rfl⟩
 | own d=>cases h; exact ⟨_,_,rfl⟩
 | slot i=>
  simp only [] at h
  split at h
  ·cases h; exact ⟨_,_,rfl⟩
  ·cases h; exact ⟨_,_,rfl⟩
  ·cases h; exact ⟨_,_,rfl⟩
  ·cases h
section
variable {B:Bs}{G G' H H':Hp}{σ:St}{ρ ρ':i9}{v:V}{w:W}{d:D}
theorem C8.D7 (R:RS B G H σ ρ)(h:C8 B G H σ ρ v w)(e:L3.D7 w ρ=some (.ok d ρ')):∃ G',d8 G G'∧RS B G' H σ ρ'∧Rep B.K G' v d:=by
 unfold L3.D7 at e
 cases w with
 | val d'=>cases e; exact ⟨G,d8.refl G,R,h⟩
 | own d'=>
  cases e
  obtain ⟨p,rfl,g,h0,o,ne⟩:=h
  exact R.frz g h0 o ne
 | slot i=>
  have h':σ[i]?=some (some v):=h
  simp only [] at e
  split at e
  ·rename_i d' q
   cases e
   obtain ⟨v',q1,r⟩:=R.sh i _ q
   rw [h'] at q1
   cases q1
   exact ⟨G,d8.refl G,R,r⟩
  ·rename_i d' q
   cases e
   obtain ⟨p,q1,q2,q3,q4,o⟩:=R.ow i _ _ q
   have hi:i < ρ.length:=(List.getElem?_eq_some_iff.mp q).1
   rw [h'] at q1
   cases q1
   
   have R0:RS B G H σ (ρ.set i none):=by
    refine ⟨R.hk,R.keep,R.g0,R.gH,R.gnew,R.dom,by simp [R.len],fun j d' q'=>?_,fun j l d' q'=>?_,fun j k l d' l' e' p' a b=>?_,R.fz.a24 (by intro _ h; cases h),R.ob.a24 (by intro _ h; cases h <;> rfl) (by intro _ h; cases h)⟩
    ·by_cases z:i=j
     ·subst z; rw [List.getElem?_set_self hi] at q'; cases q'
     ·rw [List.getElem?_set_ne z] at q'; exact R.sh j d' q'
    ·by_cases z:i=j
     ·subst z; rw [List.getElem?_set_self hi] at q'; cases q'
     ·rw [List.getElem?_set_ne z] at q'; exact R.ow j l d' q'
    ·by_cases z:i=j
     ·subst z; rw [List.getElem?_set_self hi] at a; cases a
     ·by_cases z':i=k
      ·subst z'; rw [List.getElem?_set_self hi] at b; cases b
      ·rw [List.getElem?_set_ne z] at a
       rw [List.getElem?_set_ne z'] at b
       exact R.inj j k l d' l' e' p' a b
   obtain ⟨G',s,R',r⟩:=R0.frz q2 q4 o fun j l e' q' z=>by
    by_cases zz:i=j
    ·subst zz; rw [List.getElem?_set_self hi] at q'; cases q'
    ·rw [List.getElem?_set_ne zz] at q'
     exact zz (R.inj i j _ _ _ _ p q q' h' z)
   refine ⟨G',s,⟨R'.hk,R'.keep,R'.g0,R'.gH,R'.gnew,R'.dom,by simp [R.len],fun j d' q'=>?_,fun j l d' q'=>?_,fun j k l d' l' e' p' a b=>?_,(R.fz.same s).a24 (by intro _ h; cases h),R'.ob.re (fun j c z' e=>?_) fun j d e=>?_⟩,r⟩
   ·by_cases z:i=j
    ·subst z
     rw [List.getElem?_set_self hi] at q'
     cases q'
     exact ⟨_,h',r⟩
    ·rw [List.getElem?_set_ne z] at q'
     exact R'.sh j d' (by rw [List.getElem?_set_ne z]; exact q')
   ·by_cases z:i=j
    ·subst z; rw [List.getElem?_set_self hi] at q'; cases q'
    ·rw [List.getElem?_set_ne z] at q'
     exact R'.ow j l d' (by rw [List.getElem?_set_ne z]; exact q')
   ·by_cases z:i=j
    ·subst z; rw [List.getElem?_set_self hi] at a; cases a
    ·by_cases z':i=k
     ·subst z'; rw [List.getElem?_set_self hi] at b; cases b
     ·rw [List.getElem?_set_ne z] at a
      rw [List.getElem?_set_ne z'] at b
      exact R.inj j k l d' l' e' p' a b
   ·by_cases z:i=j
    ·subst z; rw [List.getElem?_set_self hi] at e; cases e; cases z'
    ·rw [List.getElem?_set_ne z] at e ⊢; exact e
   ·by_cases z:i=j
    ·subst z; rw [List.getElem?_set_self hi] at e; cases e
    ·rw [List.getElem?_set_ne z] at e ⊢; exact ⟨d,e⟩
  ·rename_i es q
   cases e
   obtain ⟨a,o,kvs,q1,q2,q3⟩:=R.fz i _ q
   rw [h'] at q1
   cases q1
   exact ⟨G,d8.refl G,R,.dct (.inr ⟨o,q2⟩) q3.keys q3.get⟩
  ·cases e
theorem RS.a5T {p:Addr}{xs:List V}{ds:List D}(R:RS B G H σ ρ)(hp:H p=none)(r:l7 B.K G xs ds):∃ G',d8 G G'∧RS B G' (upd H p (.tup xs)) σ ρ∧Rep B.K G' (.ref p) (.tup ds):=by
 have g:G p=none:=R.gH.free hp
 have s:d8 G (upd G p (.tup xs)):=Y9 g _
 have sH:d8 H (upd H p (.tup xs)):=Y9 hp _
 refine ⟨upd G p (.tup xs),s,⟨R.hk,R.keep.trans sH,R.g0.trans s,?_,?_,?_,R.len,?_,?_,R.inj,R.fz.same s,R.ob.gh s (fun q _ _ _ hq g'=>by rw [j3 (m7 hq hp)]; exact g') fun q _ _ _ hq _ _=>sH q _ hq⟩,.tup (V8.of l8) r.len fun j x d a b=>(r.get j x d a b).same s⟩
 ·intro b u q
  by_cases e:b=p
  ·subst e; rw [l8] at q ⊢; exact q
  ·rw [j3 e] at q ⊢; exact R.gH b u q
 ·intro b u q
  by_cases e:b=p
  ·subst e; exact .inr (R.dom _ hp)
  ·rw [j3 e] at q; exact R.gnew b u q
 ·intro b q
  by_cases e:b=p
  ·subst e; exact R.dom _ hp
  ·rw [j3 e] at q; exact R.dom b q
 ·intro i d' q
  obtain ⟨v,q1,q2⟩:=R.sh i d' q
  exact ⟨v,q1,q2.same s⟩
 ·intro i l d' q
  obtain ⟨p',q1,q2,q3,q4,q5⟩:=R.ow i l d' q
  obtain ⟨ob,hob⟩:=q5.some
  have e:p'≠p:=m7 hob hp
  exact ⟨p',q1,by rw [j3 e]; exact q2,q3,q4,q5.same s (j3 e)⟩
theorem RS.heap {p:Addr}{o:HO}(R:RS B G H σ ρ)(hp:H p=none):RS B G (upd H p o) σ ρ:=by
 have sH:d8 H (upd H p o):=Y9 hp _
 refine ⟨R.hk,R.keep.trans sH,R.g0,R.gH.trans sH,R.gnew,?_,R.len,R.sh,?_,R.inj,R.fz,R.ob.gh (d8.refl _) (fun _ _ _ _ _ g'=>g') fun q _ _ _ hq _ _=>sH q _ hq⟩
 ·intro b q
  by_cases e:b=p
  ·subst e; exact R.dom _ hp
  ·rw [j3 e] at q; exact R.dom b q
 ·intro i l d' q
  obtain ⟨p',q1,q2,q3,q4,q5⟩:=R.ow i l d' q
  obtain ⟨ob,hob⟩:=q5.some
  have e:p'≠p:=m7 hob hp
  exact ⟨p',q1,q2,q3,q4,q5.same (d8.refl G) (j3 e)⟩
theorem RS.b2Y {p:Addr}{o:HO}(R:RS B G H σ ρ)(hp:H p=none)(h:y9 B.K G (upd H p o) p d):RS B G (upd H p o) σ ρ∧C8 B G (upd H p o) σ ρ (.ref p) (.own d):=by
 refine ⟨R.heap hp,p,rfl,R.gH.free hp,R.dom _ hp,h,fun i l e q z=>?_⟩
 obtain ⟨p',q1,q2,q3,q4,q5⟩:=R.ow i l e q
 obtain ⟨ob,hob⟩:=q5.some
 rw [q1] at z
 cases z
 rw [hp] at hob
 cases hob
theorem RS.a4w {p:Addr}{xs:List V}{ds:List D}(R:RS B G H σ ρ)(hp:H p=none)(r:l7 B.K G xs ds):RS B G (upd H p (.lst xs)) σ ρ∧C8 B G (upd H p (.lst xs)) σ ρ (.ref p) (.own (.lst ds)):=
 R.b2Y hp ⟨xs,l8,r⟩
theorem RS.write {i:Nat}{l:Bool}{p:Addr}{d':D}{o:HO}(R:RS B G H σ ρ)(hi:ρ[i]?=some (some (.ow l d)))(hs:σ[i]?=some (some (.ref p)))(h:y9 B.K G (upd H p o) p d'):
  RS B G (upd H p o) σ (ρ.set i (some (.ow l d'))):=by
 obtain ⟨p0,q1,q2,q3,q4,q5⟩:=R.ow i l d hi
 rw [hs] at q1
 cases q1
 have hil:i < ρ.length:=(List.getElem?_eq_some_iff.mp hi).1
 refine ⟨R.hk,fun b u q=>?_,R.g0,fun b u q=>?_,R.gnew,fun b q=>?_,by simp [R.len],fun j e q=>?_,fun j k e q=>?_,fun j k a b c e p' x y=>?_,R.fz.a24 (by intro _ h; cases h),(R.ob.gh (d8.refl _) (fun _ _ _ _ _ g'=>g') fun q _ _ _ hq _ _=>by rw [j3 (a0G q5 hq)]; exact hq).a24 (by intro _ h; cases h <;> rfl) (by intro d0 h; cases h; exact ⟨_,hi⟩)⟩
 ·rw [j3 (m7 q q3)]; exact R.keep b u q
 ·rw [j3 (m7 q q2)]; exact R.gH b u q
 ·by_cases z:b=p
  ·subst z; rw [l8] at q; cases q
  ·rw [j3 z] at q; exact R.dom b q
 ·by_cases z:i=j
  ·subst z; rw [List.getElem?_set_self hil] at q; cases q
  ·rw [List.getElem?_set_ne z] at q; exact R.sh j e q
 ·by_cases z:i=j
  ·subst z
   rw [List.getElem?_set_self hil] at q
   cases q
   exact ⟨p,hs,q2,q3,q4,h⟩
  ·rw [List.getElem?_set_ne z] at q
   obtain ⟨p',a1,a2,a3,a4,a5⟩:=R.ow j k e q
   have e':p'≠p:=fun zz=>z (R.inj i j _ _ _ _ p hi q hs (by rw [a1,zz]))
   exact ⟨p',a1,a2,a3,a4,a5.same (d8.refl G) (j3 e')⟩
 ·by_cases z:i=j
  ·by_cases z':i=k
   ·intro _ _; omega
   ·subst z
    rw [List.getElem?_set_ne z'] at y
    intro a1 a2
    exact R.inj i k l d c e p' hi y a1 a2
  ·by_cases z':i=k
   ·subst z'
    rw [List.getElem?_set_ne z] at x
    intro a1 a2
    exact R.inj j i a b l d p' x hi a1 a2
   ·rw [List.getElem?_set_ne z] at x
    rw [List.getElem?_set_ne z'] at y
    exact R.inj j k a b c e p' x y
end
end L3
set_option Elab.async false
set_option linter.all false
set_option maxRecDepth 100000
set_option maxHeartbeats 4000000
namespace L3
open PySem PySem.Spec PyProof.Rows L2
structure O2 (fs xs:List Addr) (h h':Heap):Prop where
 keep:∀ b o,h.get? b=some o→b∉fs→b∉xs→h'.get? b=some o
 slot:∀ b o,h.get? b=some o→b∉xs→∃ sl,h'.get? b=some { o with slots:=sl }
 there:∀ b o,h.get? b=some o→∃ o',h'.get? b=some o'
theorem O2.refl (fs xs:List Addr)(h:Heap):O2 fs xs h h:=⟨fun _ _ e _ _=>e,fun _ o e _=>⟨o.slots,e⟩,fun _ o e=>⟨o,e⟩⟩
theorem O2.trans {fs xs ys:List Addr}{h h1 h2:Heap}(a:O2 fs xs h h1)(b:O2 fs ys h1 h2)(hy:∀ y∈ys,y∈xs∨h.get? y=none):O2 fs xs h h2 where
 keep c o e nf nx:=b.keep c o (a.keep c o e nf nx) nf fun m=>by
  rcases hy c m with m | m
  ·exact nx m
  ·rw [e] at m; cases m
 slot c o e nx:=by
  obtain ⟨sl,e1⟩:=a.slot c o e nx
  obtain ⟨sl2,e2⟩:=b.slot c _ e1 fun m=>by
   rcases hy c m with m | m
   ·exact nx m
   ·rw [e] at m; cases m
  exact ⟨sl2,e2⟩
 there c o e:=by
  obtain ⟨o1,e1⟩:=a.there c o e
  exact b.there c o1 e1
noncomputable def TrD (h:Heap)(e T:Addr)(cls:Value)(dct:Option Addr)(fl:Value):Prop:=
 ∃ oe vs oT ts,h.get? e=some oe∧oe.cls=cls∧oe.dict=dct∧oe.data=.fields vs∧vs[1]?=some (.ref T)∧T≠e∧h.get? T=some oT∧oT.data=.fields ts∧ts[3]?=some fl
theorem a2o (f:Array Value→Array Value)(o:Obj):(Obj.mapFields f o).dict=o.dict:=by
 obtain ⟨c,d,dt,sl⟩:=o
 cases dt <;> rfl
section
variable {M:Model}{A:Around}{E:Value→Shared→Prop}{s:Shared}{base:Heap}{env:Env}{outer:List Env}{L e T:Addr}{oe:Obj}{vs:Array Value}{cls fl:Value}{dct:Option Addr}{Q:Unit→Shared→Prop}
theorem a8D {head:Value}{hadNext:Bool}(hfr:A.frames=some (env::outer))(hl:s.heap.FunFrames base (env::outer))(hf:env.frame=some L)(he:s.heap.get? e=some oe)(hd:oe.data=.fields vs)(hsz:1 < vs.size)
  (h:∀ h' T',O2 (frs (env::outer)) [e] s.heap h'→s.heap.get? T'=none→TrD h' e T' oe.cls oe.dict (rawInt L)→Q () { s with heap:=h' }):
  wpAny M A (do let a ← frameOf env; let pl ← entryPlaceOf L hadNext; let b ← EntryCells.newEntry head a .none (rawInt L) .none pl; setField (.ref e) 1 b) Q E s:=by
 have hne:e∉(env::outer).filterMap (·.frame):=fun hm=>by
  obtain ⟨_,o,ho,hnf⟩:=hl.mem hm
  rw [he] at ho
  cases ho
  exact hnf vs hd
 refine wpAny_bind (wpAny_frameOf_fun hfr hl hf fun h₁ hs=>?_)
 refine wpAny_bind (wpAny_entryPlaceOf fun pl hpl=>?_)
 unfold EntryCells.newEntry newFields
 refine wpAny_bind (wpAny_newObj_type ?_ (hpl.sizeOk5 _ _ _ _ _))
 have he₁:h₁.get? e=some oe:=(hs.2.1 e hne).trans he
 generalize hO:({ cls:=.type "traceback",dict:=none,data:=.fields ([head,.ref L,.none,rawInt L,.none]++(if pl.isEmpty then List.replicate 6 Value.none else pl)).toArray }:Obj)=O
 have hOf:O.data=.fields ([head,.ref L,.none,rawInt L,.none]++(if pl.isEmpty then List.replicate 6 Value.none else pl)).toArray:=by rw [← hO]
 have hOn:O.isFreed=false:=by rw [← hO]; rfl
 have he₂:=Heap.get?_push_of_some (h:=h₁) O he₁
 have hne2:h₁.objs.size≠e:=Nat.ne_of_gt (Heap.lt_size he₁)
 refine wpAny_setField he₂ hd hsz (h _ h₁.objs.size ?_ ?_ ?_)
 ·have keep:∀ b o,b≠e→h₁.get? b=some o→((h₁.push O).update e (Obj.mapFields (·.setIfInBounds 1 (Value.ref h₁.objs.size)))).get? b=some o:=fun b o hb eb=>by
   rw [Heap.get?_update_other _ _ (Ne.symm hb)]
   exact Heap.get?_push_of_some _ eb
  refine ⟨fun b o eb nf nx=>keep b o (fun q=>nx (by simp [q])) ((hs.2.1 b nf).trans eb),fun b o eb nx=>?_,fun b o eb=>?_⟩
  ·obtain ⟨sl,e1⟩:=hs.2.2 b o eb
   exact ⟨sl,keep b _ (fun q=>nx (by simp [q])) e1⟩
  ·by_cases q:b=e
   ·subst q
    exact ⟨_,Heap.get?_update_self _ he₂ (Obj.isFreed_of_fields (Obj.data_mapFields hd _))⟩
   ·obtain ⟨sl,e1⟩:=hs.2.2 b o eb
    exact ⟨_,keep b _ q e1⟩
 ·exact Heap.get?_none_of_le (by rw [hs.1]; exact Nat.le_refl _)
 ·have hT:=(Heap.get?_update_other (h₁.push O) (Obj.mapFields (·.setIfInBounds 1 (Value.ref h₁.objs.size))) (Ne.symm hne2)).trans (Heap.get?_push_size h₁ hOn)
  refine ⟨_,_,O,_,Heap.get?_update_self _ he₂ (Obj.isFreed_of_fields (Obj.data_mapFields hd _)),Obj.cls_mapFields _ _,a2o _ _,Obj.data_mapFields hd _,by simp [hsz],hne2,hT,hOf,by simp⟩
theorem a5v {fs:List Addr}{h:Heap}{T:Addr}{oT:Obj}{ts:Array Value}(hT:h.get? T=some oT)(hd:oT.data=.fields ts)(i:Nat)(v:Value):O2 fs [T] h (h.update T (Obj.mapFields (·.setIfInBounds i v))):=by
 have other:∀ b,b≠T→(h.update T (Obj.mapFields (·.setIfInBounds i v))).get? b=h.get? b:=fun b hb=>Heap.get?_update_other _ _ (Ne.symm hb)
 refine ⟨fun b o eb _ nx=>(other b fun q=>nx (by simp [q])).trans eb,fun b o eb nx=>⟨o.slots,(other b fun q=>nx (by simp [q])).trans eb⟩,fun b o eb=>?_⟩
 by_cases q:b=T
 ·subst q
  exact ⟨_,Heap.get?_update_self _ hT (Obj.isFreed_of_fields (Obj.data_mapFields hd _))⟩
 ·exact ⟨o,(other b q).trans eb⟩
theorem a1Z {l:List Env}{fs xs:List Addr}{h h':Heap}(hl:h.FunFrames base l)(k:O2 fs xs h h')(hx:∀ x∈xs,∀ o,h.get? x=some o→∃ vs,o.data=.fields vs):h'.FunFrames base l:=
 hl.of_keeps fun b o eb hnf=>by
  obtain ⟨sl,e1⟩:=k.slot b o eb fun m=>by
   obtain ⟨vs,q⟩:=hx b m o eb
   exact hnf vs q
  exact ⟨_,e1,rfl⟩
theorem a56 (hfr:A.frames=some (env::outer))(hl:s.heap.FunFrames base (env::outer))(hf:env.frame=some L)(he:s.heap.get? e=some oe)(hd:oe.data=.fields vs)(h1:vs[1]?=some .none)
  (h:∀ h' T',O2 (frs (env::outer)) [e] s.heap h'→s.heap.get? T'=none→TrD h' e T' oe.cls oe.dict (rawInt L)→Q () { s with heap:=h' }):wpAny M A (noteFrame (.ref e) env) Q E s:=by
 unfold noteFrame
 simp only [hf]
 refine wpAny_bind (wpAny_field he hd h1 ?_)
 rw [if_neg (by decide)]
 exact a8D hfr hl hf he hd (Array.getElem?_eq_some_iff.mp h1).1 h
theorem a8a (hfr:A.frames=some (env::outer))(hl:s.heap.FunFrames base (env::outer))(hf:env.frame=some L)(ht:TrD s.heap e T cls dct .none)
  (h:∀ h' T',O2 (frs (env::outer)) [e,T] s.heap h'→s.heap.get? T'=none→TrD h' e T' cls dct (rawInt L)→Q () { s with heap:=h' }):wpAny M A (noteFrame (.ref e) env) Q E s:=by
 obtain ⟨oe,vs,oT,ts,he,hc,hdc,hd,h1,hTe,hT,hdT,h3⟩:=ht
 subst hc hdc
 unfold noteFrame
 simp only [hf]
 refine wpAny_bind (wpAny_field he hd h1 ?_)
 rw [if_pos (show (Value.ref T != Value.none)=true from by simp)]
 refine wpAny_bind (wpAny_field hT hdT h3 ?_)
 rw [if_neg (show ¬ ((Value.none == rawInt L)=true) from by simp [rawInt])]
 refine wpAny_bind (wpAny_setField hT hdT (Array.getElem?_eq_some_iff.mp h3).1 ?_)
 have k:=a5v (fs:=frs (env::outer)) hT hdT 3 Value.none
 have he':=(Heap.get?_update_other (h:=s.heap) (Obj.mapFields (·.setIfInBounds 3 Value.none)) hTe).trans he
 refine a8D (base:=base) hfr (a1Z hl k fun x hx o ho=>?_) hf he' hd (Array.getElem?_eq_some_iff.mp h1).1 fun h' T' k2 n2 t2=>h h' T' ⟨?_,?_,?_⟩ ?_ t2
 ·rw [List.mem_singleton] at hx
  subst hx
  rw [hT] at ho
  cases ho
  exact ⟨ts,hdT⟩
 ·intro b o eb nf nx
  simp at nx
  exact k2.keep b o (k.keep b o eb nf (by simpa using nx.2)) nf (by simpa using nx.1)
 ·intro b o eb nx
  simp at nx
  obtain ⟨sl,e1⟩:=k.slot b o eb (by simpa using nx.2)
  obtain ⟨sl2,e2⟩:=k2.slot b { o with slots:=sl } e1 (by simpa using nx.1)
  exact ⟨sl2,e2⟩
 ·intro b o eb
  obtain ⟨o1,e1⟩:=k.there b o eb
  exact k2.there b o1 e1
 ·cases q:s.heap.get? T' with
  | none=>rfl
  | some o=>
   obtain ⟨o1,e1⟩:=k.there T' o q
   rw [n2] at e1
   cases e1
theorem b0A {f:Option Addr}(ht:TrD s.heap e T cls dct fl)(h:∀ h',O2 [] [T] s.heap h'→TrD h' e T cls dct (f.elim Value.none fun a=>rawInt a)→Q () { s with heap:=h' }):wpAny M A (setFlight (.ref e) f) Q E s:=by
 obtain ⟨oe,vs,oT,ts,he,hc,hdc,hd,h1,hTe,hT,hdT,h3⟩:=ht
 have hsz:3 < ts.size:=(Array.getElem?_eq_some_iff.mp h3).1
 unfold setFlight
 refine wpAny_bind (wpAny_field he hd h1 ?_)
 rw [if_pos (show (Value.ref T != Value.none)=true from by simp)]
 refine wpAny_setField hT hdT hsz (h _ (a5v hT hdT 3 _) ?_)
 exact ⟨oe,vs,_,_,(Heap.get?_update_other _ _ hTe).trans he,hc,hdc,hd,h1,hTe,Heap.get?_update_self _ hT (Obj.isFreed_of_fields (Obj.data_mapFields hdT _)),Obj.data_mapFields hdT _,by simp [hsz]⟩
theorem a52 (hf:env.frame=some L)(ht:TrD s.heap e T cls dct (rawInt L))(h:Q () s):wpAny M A (noteFrame (.ref e) env) Q E s:=by
 obtain ⟨oe,vs,oT,ts,he,hc,hdc,hd,h1,hTe,hT,hdT,h3⟩:=ht
 unfold noteFrame
 simp only [hf]
 refine wpAny_bind (wpAny_field he hd h1 ?_)
 rw [if_pos (show (Value.ref T != Value.none)=true from by simp)]
 refine wpAny_bind (wpAny_field hT hdT h3 ?_)
 rw [if_pos (show (rawInt L == rawInt L)=true from by simp)]
 exact wpAny_pure h
end
structure Off (X:Cx) (H:Hp) (a:Addr):Prop where
 new:X.s₀.heap.get? a=none
 free:H a=none
 loc:a≠X.env.locals
 cell:∀ x c,X.env.cells.lookup x=some c→c≠a
section
variable {X:Cx}{pins:List (Addr×Obj)}{σ:St}{H:Hp}{s:Shared}{h':Heap}{xs:List Addr}
theorem a9s {h h':Heap}{a:Addr}{m:Str→Option Value}(n:h.Ns a m)(k:∀ o,h.get? a=some o→∃ sl,h'.get? a=some { o with slots:=sl }):h'.Ns a m:=by
 obtain ⟨o,es,ep,e,d,sk,f⟩:=n
 obtain ⟨sl,e'⟩:=k o e
 exact ⟨_,es,ep,e',d,sk,f⟩
theorem a2i {h h':Heap}{c:Addr}{v:Option Value}(n:h.IsCell c v)(k:∀ o,h.get? c=some o→∃ sl,h'.get? c=some { o with slots:=sl }):h'.IsCell c v:=by
 obtain ⟨o,e,d⟩:=n
 obtain ⟨sl,e'⟩:=k o e
 exact ⟨_,e',d⟩
theorem _root_.L2.Inv.a8x (I:Inv X [] σ H s)(hp:X.pn=[])(k:O2 (X.env.locals::X.fs) xs s.heap h')(hx:∀ a∈xs,Off X H a):Inv X [] σ H { s with heap:=h' }:=by
 have xold:∀ b o,X.s₀.heap.get? b=some o→b∉xs:=fun b o e m=>by rw [(hx b m).new] at e; cases e
 have lold:∀ b o,X.s₀.heap.get? b=some o→b≠X.env.locals:=fun b o e z=>absurd (Nat.lt_of_lt_of_le (Heap.lt_size e) I.ok.above) (by rw [z]; exact Nat.lt_irrefl _)
 have ffree:∀ b∈X.fs,H b=none:=fun b hb=>by
  obtain ⟨_,o,ho,_⟩:=I.ok.a0y.mem hb
  exact I.base.free b o ho (I.ok.frf b hb) fun z=>I.ok.exfs b z hb
 have cs:∀ x c,X.env.cells.lookup x=some c→∀ o,s.heap.get? c=some o→∃ sl,h'.get? c=some { o with slots:=sl }:=fun x c e o eo=>k.slot c o eo fun m=>(hx c m).cell x c e rfl
 refine ⟨I.ok,I.os,I.bare,⟨fun b o e n nf nx=>?_,fun b o e n nf nx=>?_,I.base.free,fun b o e nx=>?_,I.base.tups,I.base.frzs,I.base.tbls⟩,?_,fun x c e=>?_,I.free,I.freeC,?_,fun a o e=>?_,I.len⟩
 ·exact k.keep b o (I.base.keep b o e n nf nx) (fun m=>(List.mem_cons.mp m).elim (lold b o e) nf) (xold b o e)
 ·obtain ⟨sl,e1⟩:=I.base.slot b o e n nf nx
  obtain ⟨sl2,e2⟩:=k.slot b _ e1 (xold b o e)
  exact ⟨sl2,e2⟩
 ·obtain ⟨o1,e1⟩:=I.base.there b o e nx
  exact k.there b o1 e1
 ·obtain ⟨m,n,l⟩:=I.loc
  refine ⟨m,a9s n fun o e=>k.slot _ o e fun z=>(hx _ z).loc rfl,fun i x v e1 e2 e3=>?_⟩
  obtain ⟨u,r,lk⟩:=l i x v e1 e2 e3
  refine ⟨u,r,lk.imp id fun ⟨q,c,ec,ic⟩=>⟨q,c,ec,a2i ic (cs x c ec)⟩⟩
 ·obtain ⟨v,ic⟩:=I.cell x c e
  exact ⟨v,a2i ic (cs x c e)⟩
 ·intro p hp'
  rw [hp] at hp'
  cases hp'
 ·refine (I.hok a o e).stay (fun c v hc q=>k.keep c v q (fun m=>?_) fun m=>?_) (fun _ q=>q) fun _ _ q=>q
  ·have hn:H c=none:=by
    rcases List.mem_cons.mp m with z | z
    ·rw [z]; exact I.free
    ·exact ffree c z
   rcases hc with z | z
   ·rw [z,e] at hn; cases hn
   ·rw [z] at hn; cases hn
  ·have hn:=(hx c m).free
   rcases hc with z | z
   ·rw [z,e] at hn; cases hn
   ·rw [z] at hn; cases hn
noncomputable def a7y (H:Hp)(fs:List (Str×D))(dct:Option Addr):Prop:=(fs=[]∧dct=none)∨∃ dx f n,fs=[(f,.int n)]∧dct=some dx∧H dx=some (.xd [(f,.int n)])
noncomputable def a3Q (K:PySem.W.Frag)(H:Hp)(x:Exn)(cls:Value)(dct:Option Addr):Prop:=∃ C,cls=.ref C∧PySem.W.nsIn K mainGlobals x.cls=some (some (.ref C))∧a7y H x.fs dct
noncomputable def b4m (X:Cx)(H:Hp)(a:Addr)(cls:Value)(dct:Option Addr)(h:Heap):Prop:=
 (∃ oe vs,h.get? a=some oe∧oe.cls=cls∧oe.dict=dct∧oe.data=.fields vs∧vs[1]?=some .none)∨∃ T fl,TrD h a T cls dct fl∧Off X H T∧(fl=.none∨fl=rawInt X.env.locals)
structure Q2 (X:Cx):Prop where
 pn:X.pn=[]
 ex:X.ex=[]
 stk:X.stack=X.env::X.outer
 fr:X.env.frame=some X.env.locals
theorem a9I (I:Inv X pins σ H s){a:Addr}{o:HO}(e:H a=some o):∃ ob,s.heap.get? a=some ob:=by
 have x:=I.hok a o e
 generalize s.heap=h at x
 cases o with
 | lst xs=>obtain ⟨_,_,_,_,e⟩:=x; exact ⟨_,e⟩
 | tup xs=>obtain ⟨_,_,_,ob,e,_⟩:=x; exact ⟨_,e⟩
 | dK kvs=>obtain ⟨_,_,_,_,o,_,_,e,_⟩:=x; exact ⟨_,e⟩
 | dT kvs=>obtain ⟨_,_,_,_,o,_,_,e,_⟩:=x; exact ⟨_,e⟩
 | set S n=>obtain ⟨o,_,_,_,e,_⟩:=x; exact ⟨_,e⟩
 | ins C dx fs=>obtain ⟨_,_,_,e,_⟩:=x; exact ⟨_,e⟩
 | own y=>exact x
 | xd fs=>obtain ⟨_,⟨_,_,_,e,_⟩,_⟩:=x; exact ⟨_,e⟩
 | rng lo hi=>obtain ⟨_,_,_,e⟩:=x; exact ⟨_,e⟩
 | frz ob u=>obtain ⟨e,_⟩:=x; exact ⟨_,e⟩
 | tbl ps=>exact ⟨_,show h.get? a=some _ from x⟩
 | met f y=>exact ⟨_,show h.get? a=some _ from x⟩
 | ext φ=>obtain ⟨_,e,_⟩:=x; exact e
theorem a0Y (I:Inv X [] σ H s)(F:Q2 X){T:Addr}(e:s.heap.get? T=none):Off X H T:=by
 refine ⟨?_,?_,fun z=>?_,fun x c ec z=>?_⟩
 ·cases q:X.s₀.heap.get? T with
  | none=>rfl
  | some o=>
   obtain ⟨o',e'⟩:=I.base.there T o q (by rw [F.ex]; simp)
   rw [e] at e'
   cases e'
 ·cases q:H T with
  | none=>rfl
  | some o=>
   obtain ⟨ob,e'⟩:=a9I I q
   rw [e] at e'
   cases e'
 ·obtain ⟨m,⟨o,_,_,e',_⟩,_⟩:=I.loc
  rw [z,e'] at e
  cases e
 ·obtain ⟨v,o,e',_⟩:=I.cell x c ec
  rw [z,e] at e'
  cases e'
section
variable {M:Model}{E:Value→Shared→Prop}{Q:Unit→Shared→Prop}{a:Addr}{cls:Value}{dct:Option Addr}
theorem a7J {fs:List Addr}{h h':Heap}(k:O2 [] xs h h'):O2 fs xs h h':=⟨fun b o e _ nx=>k.keep b o e (by simp) nx,k.slot,k.there⟩
theorem noted (I:Inv X [] σ H s)(F:Q2 X)(oa:Off X H a)(fl:b4m X H a cls dct s.heap)(h:∀ h' T,Inv X [] σ H { s with heap:=h' }→TrD h' a T cls dct (rawInt X.env.locals)→Off X H T→Q () { s with heap:=h' }):wpAny M X.A (noteFrame (.ref a) X.env) Q E s:=by
 have hfr:X.A.frames=some (X.env::X.outer):=by rw [← F.stk]; exact I.ok.frames
 have hl:s.heap.FunFrames X.base (X.env::X.outer):=by rw [← F.stk]; exact I.stack
 have efr:frs (X.env::X.outer)=X.env.locals::X.fs:=by
  show List.filterMap _ _=_
  rw [List.filterMap_cons,F.fr]
  rfl
 rcases fl with ⟨oe,vs,e,rfl,rfl,d,h1⟩ | ⟨T,fl,t,oT,rfl | rfl⟩
 ·refine a56 hfr hl F.fr e d h1 fun h' T' k n t=>?_
  rw [efr] at k
  exact h h' T' (I.a8x F.pn k fun b hb=>by rw [List.mem_singleton.mp hb]; exact oa) t (a0Y I F n)
 ·refine a8a hfr hl F.fr t fun h' T' k n t'=>?_
  rw [efr] at k
  exact h h' T' (I.a8x F.pn k fun b hb=>by
   rcases List.mem_cons.mp hb with z | z
   ·rw [z]; exact oa
   ·rw [List.mem_singleton.mp z]; exact oT) t' (a0Y I F n)
 ·exact a52 F.fr t (h s.heap T I t oT)
theorem marked (f:Option Addr)(I:Inv X [] σ H s)(F:Q2 X){T:Addr}{fl:Value}(t:TrD s.heap a T cls dct fl)(oT:Off X H T)(h:∀ h',Inv X [] σ H { s with heap:=h' }→TrD h' a T cls dct (f.elim Value.none fun b=>rawInt b)→Q () { s with heap:=h' }):wpAny M X.A (setFlight (.ref a) f) Q E s:=
 b0A t fun h' k t'=>h h' (I.a8x F.pn (a7J k) fun b hb=>by rw [List.mem_singleton.mp hb]; exact oT) t'
end
end
end L3
set_option Elab.async false
set_option linter.all false
set_option maxRecDepth 100000
set_option maxHeartbeats 4000000
namespace L3
open PySem PySem.Spec PyProof.Rows L2
noncomputable abbrev XP:=Exn→St→Hp→Prop
noncomputable def ExcAt (X:Cx)(x:Exn)(e:Value)(H:Hp)(s:Shared):Prop:=∃ a cls dct,e=.ref a∧a3Q X.K H x cls dct∧Off X H a∧b4m X H a cls dct s.heap∧Q2 X
noncomputable def XE (X:Cx)(ξ:XP):Value→Shared→Prop:=fun e s'=>∃ x pins σ H,Inv X pins σ H s'∧ExcAt X x e H s'∧ξ x σ H
noncomputable abbrev rz (X:Cx)(ξ:XP):Cx:=X.t8 (XE X ξ)
noncomputable abbrev Rel (α β:Type):=Bs→Hp→Hp→St→i9→β→α→Prop
noncomputable def v8:Rel W V:=fun B G H σ ρ v w=>C8 B G H σ ρ v w
noncomputable def Y8:Rel Bool Bool:=fun _ _ _ _ _ v b=>v=b
noncomputable def stb:W→Bool
 | .own _=>false
 | _=>true
noncomputable def F1:Rel (List W) (List V):=fun B G H σ ρ vs ws=>Paired (fun v w=>C8 B G H σ ρ v w∧stb w=true) vs ws
section
variable {α β α' β':Type}{rel:Rel α β}{rel':Rel α' β'}{B:Bs}{ξ:XP}{G H:Hp}{σ:St}{ρ:i9}
noncomputable def Post (rel:Rel α β)(B:Bs)(ξ:XP)(G:Hp)(σ:St)(Q:β→Hp→Prop):R' α→Prop
 | .ok w ρ'=>∀ v G' H',d8 G G'→RS B G' H' σ ρ'→rel B G' H' σ ρ' v w→Q v H'
 | .ex x ρ'=>∀ G' H',d8 G G'→RS B G' H' σ ρ'→ξ x σ H'
noncomputable def T4 (rel:Rel α β)(B:Bs)(ξ:XP)(G:Hp)(ρ:i9)(m:M α)(σ:St)(Q:β→Hp→Prop):Prop:=∃ r,m ρ=some r∧Post rel B ξ G σ Q r
noncomputable def TD (rel:Rel α β)(B:Bs)(ξ:XP)(m:M α):St→Hp→(β→Hp→Prop)→Prop:=fun σ H Q=>∃ G ρ,RS B G H σ ρ∧T4 rel B ξ G ρ m σ Q
theorem Post.same {Q:β→Hp→Prop}{r:R' α}{G':Hp}(s:d8 G G')(h:Post rel B ξ G σ Q r):Post rel B ξ G' σ Q r:=by
 cases r with
 | ok w ρ'=>exact fun v G2 H2 s2=>h v G2 H2 (s.trans s2)
 | ex x ρ'=>exact fun G2 H2 s2=>h G2 H2 (s.trans s2)
theorem T4.mono {m:M α}{Q Q':β→Hp→Prop}(h:∀ v H,Q v H→Q' v H)(t:T4 rel B ξ G ρ m σ Q):T4 rel B ξ G ρ m σ Q':=by
 obtain ⟨r,e,p⟩:=t
 refine ⟨r,e,?_⟩
 cases r with
 | ok w ρ'=>exact fun v G' H' s R q=>h v H' (p v G' H' s R q)
 | ex x ρ'=>exact p
theorem TD.mono {m:M α}{Q Q':β→Hp→Prop}(h:∀ v H,Q v H→Q' v H)(t:TD rel B ξ m σ H Q):TD rel B ξ m σ H Q':=by
 obtain ⟨G,ρ,R,t⟩:=t
 exact ⟨G,ρ,R,t.mono h⟩
theorem TD.bind {m:M α}{f:α→M α'}{Q:β'→Hp→Prop}(R:RS B G H σ ρ)(t:T4 rel' B ξ G ρ (M.bind m f) σ Q):
  TD rel B ξ m σ H (fun v H1=>∃ G1 ρ1 a,d8 G G1∧RS B G1 H1 σ ρ1∧rel B G1 H1 σ ρ1 v a∧T4 rel' B ξ G1 ρ1 (f a) σ Q):=by
 obtain ⟨r,e,p⟩:=t
 cases hm:m ρ with
 | none=>rw [M.bind_none hm] at e; cases e
 | some r1=>
  cases r1 with
  | ex x ρ1=>
   rw [M.a1M hm] at e
   cases e
   exact ⟨G,ρ,R,_,hm,p⟩
  | ok a ρ1=>
   rw [M.f9 hm] at e
   exact ⟨G,ρ,R,_,hm,fun v G1 H1 s R1 q=>⟨G1,ρ1,a,s,R1,q,r,e,p.same s⟩⟩
theorem TD.b16 {m:M α}{f:α→M α'}{Q:β'→Hp→Prop}(R:RS B G H σ ρ)(t:T4 rel' B ξ G ρ (M.bind m f) σ Q):
  TD rel B ξ m σ H (fun v H1=>∃ G1 ρ1 a,m ρ=some (.ok a ρ1)∧d8 G G1∧RS B G1 H1 σ ρ1∧rel B G1 H1 σ ρ1 v a∧T4 rel' B ξ G1 ρ1 (f a) σ Q):=by
 obtain ⟨r,e,p⟩:=t
 cases hm:m ρ with
 | none=>rw [M.bind_none hm] at e; cases e
 | some r1=>
  cases r1 with
  | ex x ρ1=>
   rw [M.a1M hm] at e
   cases e
   exact ⟨G,ρ,R,_,hm,p⟩
  | ok a ρ1=>
   rw [M.f9 hm] at e
   exact ⟨G,ρ,R,_,hm,fun v G1 H1 s R1 q=>⟨G1,ρ1,a,rfl,s,R1,q,r,e,p.same s⟩⟩
theorem T4.step {m:M α}{f:α→M α'}{Q:β'→Hp→Prop}(t:T4 rel' B ξ G ρ (M.bind m f) σ Q)(hm:∀ r,m ρ=some r→∃ a ρ',r=.ok a ρ'):∃ a ρ',m ρ=some (.ok a ρ')∧T4 rel' B ξ G ρ' (f a) σ Q:=by
 obtain ⟨r,e,p⟩:=t
 cases hr:m ρ with
 | none=>rw [M.bind_none hr] at e; cases e
 | some r1=>
  obtain ⟨a,ρ',rfl⟩:=hm r1 hr
  rw [M.f9 hr] at e
  exact ⟨a,ρ',rfl,r,e,p⟩
end
theorem _root_.L2.PE.imp {X:Cx}{e:Expr}{t t':TE}(h:PE X e t)(i:∀ σ H Q,t' σ H Q→t σ H Q):PE X e t':=fun pins s σ H Q I q=>h pins s σ H Q I (i σ H Q q)
theorem _root_.L2.PT.imp {X:Cx}{e:Expr}{t t':TT}(h:PT X e t)(i:∀ σ H Q,t' σ H Q→t σ H Q):PT X e t':=fun pins s σ H Q I q=>h pins s σ H Q I (i σ H Q q)
theorem _root_.L2.PW.imp {X:Cx}{e:Expr}{t t':TT}(h:PW X e t)(i:∀ σ H Q,t' σ H Q→t σ H Q):PW X e t':=fun wh pins s σ H Q I q=>h wh pins s σ H Q I (i σ H Q q)
theorem _root_.L2.PA.imp {X:Cx}{e:List Expr}{t t':TA}(h:PA X e t)(i:∀ σ H Q,t' σ H Q→t σ H Q):PA X e t':=fun pos pins s σ H Q I q=>h pos pins s σ H Q I (i σ H Q q)
theorem _root_.L2.PS.imp {X:Cx}{e:Stmt}{t t':TS}(h:PS X e t)(i:∀ D σ H,t' D σ H→t D σ H):PS X e t':=fun pins s σ H D I q=>h pins s σ H D I (i D σ H q)
theorem _root_.L2.PSs.imp {X:Cx}{e:List Stmt}{t t':TS}(h:PSs X e t)(i:∀ D σ H,t' D σ H→t D σ H):PSs X e t':=fun pins s σ H D I q=>h pins s σ H D I (i D σ H q)
structure PD (X:Cx) (B:Bs) (e:Expr) (m:M W):Prop where
 ap:∀ ξ,PE (rz X ξ) e (TD v8 B ξ m)
structure PDT (X:Cx) (B:Bs) (e:Expr) (m:M Bool):Prop where
 ap:∀ ξ,PT (rz X ξ) e (TD Y8 B ξ m)
structure PDW (X:Cx) (B:Bs) (e:Expr) (m:M Bool):Prop where
 ap:∀ ξ,PW (rz X ξ) e (TD Y8 B ξ m)
structure PDA (X:Cx) (B:Bs) (es:List Expr) (m:M (List W)):Prop where
 ap:∀ ξ,PA (rz X ξ) es (TD F1 B ξ m)
theorem PDW.pt {X:Cx}{B:Bs}{e:Expr}{m:M Bool}(h:PDW X B e m):PDT X B e m:=.mk fun ξ=>(h.ap ξ).pt
noncomputable def E8 (m:M W):M W:=M.bind m fun w=>match w with
 | .own d=>M.pure (.val d)
 | w=>M.pure w
theorem a99 {m:M W}{ρ ρ':i9}{d:D}(h:m ρ=some (.ok (.own d) ρ')):E8 m ρ=some (.ok (.val d) ρ'):=by unfold E8; rw [M.f9 h]; rfl
theorem a8t {m:M W}{ρ ρ':i9}{d:D}(h:m ρ=some (.ok (.val d) ρ')):E8 m ρ=some (.ok (.val d) ρ'):=by unfold E8; rw [M.f9 h]; rfl
theorem a78 {m:M W}{ρ ρ':i9}{i:Nat}(h:m ρ=some (.ok (.slot i) ρ')):E8 m ρ=some (.ok (.slot i) ρ'):=by unfold E8; rw [M.f9 h]; rfl
noncomputable def a06:Rel W V:=fun B G H σ ρ v w=>C8 B G H σ ρ v w∧stb w=true
section
variable {X:Cx}{B:Bs}{e a b c:Expr}{ma mb mc:M W}{pos:Pos}
theorem TD.E8 {ξ:XP}{m:M W}{σ:St}{H:Hp}{Q:VK}(t:TD a06 B ξ (E8 m) σ H Q):TD v8 B ξ m σ H Q:=by
 obtain ⟨G,ρ,R,t⟩:=t
 have t2:=TD.bind (rel:=v8) R t
 refine t2.mono fun v H1 ⟨G1,ρ1,w,s,R1,q,t3⟩=>?_
 obtain ⟨r,er,p⟩:=t3
 cases w with
 | val d=>cases er; exact p v G1 H1 (d8.refl _) R1 ⟨q,rfl⟩
 | slot i=>cases er; exact p v G1 H1 (d8.refl _) R1 ⟨q,rfl⟩
 | own d=>
  cases er
  obtain ⟨pp,rfl,g,h0,o,ne⟩:=q
  obtain ⟨G',s',R',rr⟩:=R1.frz g h0 o ne
  exact p _ G' H1 s' R' ⟨rr,rfl⟩
theorem C8.keep {G G' H H':Hp}{σ:St}{ρ ρ':i9}{v:V}{w:W}(s:d8 G G')(h:C8 B G H σ ρ v w)(hw:stb w=true):C8 B G' H' σ ρ' v w:=
 h.same s fun d z=>by rw [z] at hw; cases hw
noncomputable def op2 (f:D→D→Option W)(a b:W):M W:=fun ρ=>match getD a ρ,getD b ρ with
 | some x,some y=>(f x y).map (R'.ok · ρ)
 | _,_=>none
noncomputable def op1 (f:D→Option W)(a:W):M W:=fun ρ=>match getD a ρ with
 | some x=>(f x).map (R'.ok · ρ)
 | _=>none
noncomputable def f7 (f:D→D→Option W)(ma mb:M W):M W:=M.bind (E8 ma) fun x=>M.bind mb fun y=>op2 f x y
noncomputable def mUn (f:D→Option W)(ma:M W):M W:=M.bind ma fun x=>op1 f x
noncomputable def V4 (B:Bs)(r:R2)(f:D→D→Option W):Prop:=∀ {G H:Hp} {σ:St} {ρ:i9} {x y:V} {dx dy:D} {w:W} {Q:VK},RS B G H σ ρ→D5 B.K G H x dx→D5 B.K G H y dy→f dx dy=some w→
 (∀ v G' H',d8 G G'→RS B G' H' σ ρ→C8 B G' H' σ ρ v w→Q v H')→r x y H Q
noncomputable def b2j (B:Bs)(r:V→Hp→VK→Prop)(f:D→Option W):Prop:=∀ {G H:Hp} {σ:St} {ρ:i9} {x:V} {dx:D} {w:W} {Q:VK},RS B G H σ ρ→D5 B.K G H x dx→f dx=some w→
 (∀ v G' H',d8 G G'→RS B G' H' σ ρ→C8 B G' H' σ ρ v w→Q v H')→r x H Q
theorem a6E {ξ:XP}{f:D→D→Option W}{x y:W}{G:Hp}{ρ:i9}{σ:St}{Q:VK}(t:T4 v8 B ξ G ρ (op2 f x y) σ Q):∃ dx dy w,getD x ρ=some dx∧getD y ρ=some dy∧f dx dy=some w∧∀ v G' H',d8 G G'→RS B G' H' σ ρ→C8 B G' H' σ ρ v w→Q v H':=by
 obtain ⟨r,e,p⟩:=t
 unfold op2 at e
 cases hx:getD x ρ with
 | none=>rw [hx] at e; cases e
 | some dx=>
  cases hy:getD y ρ with
  | none=>rw [hx,hy] at e; cases e
  | some dy=>
   rw [hx,hy] at e
   simp only [] at e
   cases hf:f dx dy with
   | none=>rw [hf] at e; cases e
   | some w=>
    rw [hf] at e
    cases e
    exact ⟨dx,dy,w,rfl,rfl,hf,p⟩
theorem a6U {ξ:XP}{f:D→Option W}{x:W}{G:Hp}{ρ:i9}{σ:St}{Q:VK}(t:T4 v8 B ξ G ρ (op1 f x) σ Q):∃ dx w,getD x ρ=some dx∧f dx=some w∧∀ v G' H',d8 G G'→RS B G' H' σ ρ→C8 B G' H' σ ρ v w→Q v H':=by
 obtain ⟨r,e,p⟩:=t
 unfold op1 at e
 cases hx:getD x ρ with
 | none=>rw [hx] at e; cases e
 | some dx=>
  rw [hx] at e
  simp only [] at e
  cases hf:f dx with
  | none=>rw [hf] at e; cases e
  | some w=>
   rw [hf] at e
   cases e
   exact ⟨dx,w,rfl,hf,p⟩
theorem a4A {ξ:XP}{r:R2}{f:D→D→Option W}(hi:V4 B r f){σ:St}{H:Hp}{Q:VK}(t:TD v8 B ξ (f7 f ma mb) σ H Q):tOp r (TD v8 B ξ ma) (TD v8 B ξ mb) σ H Q:=by
 obtain ⟨G,ρ,R,t⟩:=t
 have t1:TD a06 B ξ (E8 ma) σ H _:=TD.bind (rel:=a06) R t
 refine TD.E8 (t1.mono fun x H1 ⟨G1,ρ1,wa,s1,R1,⟨q1,st1⟩,t2⟩=>?_)
 refine (TD.bind (rel:=v8) R1 t2).mono fun y H2 ⟨G2,ρ2,wb,s2,R2,q2,t3⟩=>?_
 obtain ⟨dx,dy,w,e1,e2,e3,p⟩:=a6E t3
 exact hi R2 ((q1.keep s2 st1:C8 B G2 H2 σ ρ2 x wa).get R2 e1) (q2.get R2 e2) e3 p
theorem a9C {ξ:XP}{r:V→Hp→VK→Prop}{f:D→Option W}(hi:b2j B r f){σ:St}{H:Hp}{Q:VK}(t:TD v8 B ξ (mUn f ma) σ H Q):tUn r (TD v8 B ξ ma) σ H Q:=by
 obtain ⟨G,ρ,R,t⟩:=t
 refine (TD.bind (rel:=v8) R t).mono fun x H1 ⟨G1,ρ1,wa,s1,R1,q1,t2⟩=>?_
 obtain ⟨dx,w,e1,e2,p⟩:=a6U t2
 exact hi R1 (q1.get R1 e1) e2 p
theorem a2J {op:Operator}{r:R2}{f:D→D→Option W}(ho:∀ ξ,Z4 (rz X ξ) (binaryOp op) r)(hi:V4 B r f)(ha:PD X B a ma)(hb:PD X B b mb):PD X B (.BinOp a op b pos) (f7 f ma mb):=.mk fun ξ=>
 (b4c (ho ξ) (ha.ap ξ) (hb.ap ξ)).imp fun _ _ _ t=>a4A hi t
theorem a9N {op:CmpOp}{r:R2}{f:D→D→Option W}(ho:∀ ξ,Z4 (rz X ξ) (compareOp op) r)(hi:V4 B r f)(ha:PD X B a ma)(hb:PD X B b mb)(hm:behindInMarks op b=false):PD X B (.Compare a [op] [b] pos) (f7 f ma mb):=.mk fun ξ=>
 (b1C (ho ξ) (ha.ap ξ) (hb.ap ξ) hm).imp fun _ _ _ t=>a4A hi t
noncomputable def A8 (m:M W):M Bool:=M.bind m fun w=>fun ρ=>match w with
 | .val (.bl b)=>some (.ok b ρ)
 | _=>none
theorem a92 {ξ:XP}{σ:St}{H:Hp}{Q:Bool→Hp→Prop}{m:M W}(t:TD Y8 B ξ (A8 m) σ H Q):TD v8 B ξ m σ H fun x H'=>∃ k,x=.bl k∧Q k H':=by
 obtain ⟨G,ρ,R,t⟩:=t
 refine (TD.bind (rel:=v8) R t).mono fun x H1 ⟨G1,ρ1,w,s1,R1,q1,r,e,p⟩=>?_
 cases w with
 | val d=>
  cases d with
  | bl k=>
   cases e
   have q2:Rep B.K G1 x (.bl k):=q1
   cases q2
   exact ⟨k,rfl,p k G1 H1 (d8.refl _) R1 rfl⟩
  | _=>cases e
 | _=>cases e
theorem a4q {op:CmpOp}{r:R2}{f:D→D→Option W}(ho:∀ ξ,Z4 (rz X ξ) (compareOp op) r)(hi:V4 B r f)(ha:PD X B a ma)(hb:PD X B b mb)(hm:behindInMarks op b=false):PDT X B (.Compare a [op] [b] pos) (A8 (f7 f ma mb)):=.mk fun ξ=>
 (b1P (ho ξ) (ha.ap ξ) (hb.ap ξ) hm).imp fun _ _ _ t=>TD.mono (fun _ _ q=>q) (a4A hi (a92 t))
noncomputable def d7 (i:Nat):M W:=fun ρ=>match ρ[i]? with
 | some (some _)=>some (.ok (.slot i) ρ)
 | _=>none
noncomputable def mC (d:D):M W:=M.pure (.val d)
theorem b2m {ξ:XP}{i:Nat}{σ:St}{H:Hp}{Q:VK}(t:TD v8 B ξ (d7 i) σ H Q):b1J i σ H Q:=by
 obtain ⟨G,ρ,R,r,e,p⟩:=t
 unfold d7 at e
 cases h:ρ[i]? with
 | none=>rw [h] at e; cases e
 | some o=>
  cases o with
  | none=>rw [h] at e; cases e
  | some c=>
   rw [h] at e
   cases e
   have hv:∃ v,σ[i]?=some (some v):=by
    cases c with
    | sh d=>obtain ⟨v,q,_⟩:=R.sh i d h; exact ⟨v,q⟩
    | ow l d=>obtain ⟨v,q,_⟩:=R.ow i l d h; exact ⟨_,q⟩
    | fz es=>obtain ⟨a,o,kvs,q,_⟩:=R.fz i es h; exact ⟨_,q⟩
    | ob l fds=>obtain ⟨_,_,_,_,_,_,q,_⟩:=R.ob.1 i l fds h; exact ⟨_,q⟩
    | rd fds=>obtain ⟨_,_,_,_,_,_,_,q,_⟩:=R.ob.2 i fds h; exact ⟨_,q⟩
   obtain ⟨v,q⟩:=hv
   exact ⟨v,q,p v G H (d8.refl _) R q⟩
theorem a8f {ξ:XP}{d:D}{v:V}(hv:∀ G,Rep B.K G v d){σ:St}{H:Hp}{Q:VK}(t:TD v8 B ξ (mC d) σ H Q):tC v σ H Q:=by
 obtain ⟨G,ρ,R,r,e,p⟩:=t
 cases e
 exact p v G H (d8.refl _) R (hv G)
theorem dv (i:Nat){x:Str}{pos:Pos}(hN:X.N[i]?=some x:=by rfl)(hv:Vis X.env.scope x:=by first | exact Or.inl rfl | exact Or.inr (Or.inl rfl) | exact Or.inr (Or.inr rfl))(hd:(x == ("__debug__":Str))=false:=by decide) (hcd:(x == ("__classdict__":Str))=false:=by decide):PD X B (.Name x pos) (d7 i):=.mk fun ξ=>
 (a0m (X:=rz X ξ) hN hv hd hcd).imp fun _ _ _ t=>b2m t
theorem i7 {i j pos}:PD X B (.Constant (.int i) j pos) (mC (.int i)):=.mk fun ξ=>(a9M (X:=rz X ξ)).imp fun _ _ _ t=>a8f (fun _=>.int i) t
theorem b5P {b j pos}:PD X B (.Constant (.bool b) j pos) (mC (.bl b)):=.mk fun ξ=>(b4r (X:=rz X ξ)).imp fun _ _ _ t=>a8f (fun _=>.bl b) t
theorem a3t {j pos}:PD X B (.Constant .none j pos) (mC .t6):=.mk fun ξ=>(b2Z (X:=rz X ξ)).imp fun _ _ _ t=>a8f (fun _=>.t6) t
theorem a6s {K:PySem.W.Frag}{G:Hp}(x:Str):Rep K G (.str x) (.str x.cps.toList):=by
 have e:=a9w x
 have r:=Rep.str (K:=K) (G:=G) x.cps.toList
 rw [e] at r
 exact r
theorem b33 {x j pos}:PD X B (.Constant (.str x) j pos) (mC (.str x.cps.toList)):=.mk fun ξ=>(b2D (X:=rz X ξ)).imp fun _ _ _ t=>a8f (fun _=>a6s x) t
theorem a62 {x:Str}{v:V}{d:D}(h:Cst X.mg x v)(hv:∀ G,Rep B.K G v d)(hg:Gl X x:=by rfl)(hd:(x == ("__debug__":Str))=false:=by decide):PD X B (.Name x pos) (mC d):=.mk fun ξ=>
 (b5j (X:=rz X ξ) h hg hd).imp fun _ _ _ t=>a8f hv t
theorem b4b {x:Str}{n:String}(hm:X.mg x=none)(hv:bootBuiltins x=some (.type n))(hg:Gl X x:=by rfl)(hn:x≠"__name__":=by decide) (hd:(x == ("__debug__":Str))=false:=by decide):PD X B (.Name x pos) (mC (.ty n)):=.mk fun ξ=>
 (pty (X:=rz X ξ) hm hv hg hn hd).imp fun _ _ _ t=>a8f (fun _=>.ty n) t
end
noncomputable def S4 (p:Prop)[Decidable p]{α:Type}(x:Option α):Option α:=if p then x else none
theorem k9 {p:Prop}[Decidable p]{α:Type}{x:Option α}(h:p):S4 p x=x:=if_pos h
theorem j8 {p:Prop}[Decidable p]{α:Type}{x:Option α}{a:α}(h:S4 p x=some a):p∧x=some a:=by
 unfold S4 at h
 split at h
 ·exact ⟨‹p›,h⟩
 ·cases h
noncomputable def vI (i:Int):Option W:=some (.val (.int i))
noncomputable def vB (b:Bool):Option W:=some (.val (.bl b))
noncomputable def small (n:Nat):Prop:=n≤1000000
instance (n:Nat):Decidable (small n):=inferInstanceAs (Decidable (n≤1000000))
noncomputable def l5:D→D→Option W
 | .int i,.int j=>vI (i + j)
 | .str a,.str b=>S4 (small (a.length + b.length)) (some (.val (.str (a++b))))
 | .lst a,.lst b=>S4 (small (a.length + b.length)) (some (.own (.lst (a++b))))
 | _,_=>none
noncomputable def a3f:D→D→Option W
 | .int i,.int j=>vI (i - j)
 | _,_=>none
instance (i j:Int):Decidable (a4Q i j):=by unfold a4Q; infer_instance
instance (i j:Int):Decidable (a7v i j):=by unfold a7v; infer_instance
instance (i j:Int):Decidable (b4A i j):=by unfold b4A; infer_instance
noncomputable def a1E:D→D→Option W
 | .int i,.int j=>S4 (a4Q i j) (vI (i * j))
 | _,_=>none
noncomputable def a5V:D→D→Option W
 | .int i,.int j=>S4 (a7v i j) (vI (i / j))
 | _,_=>none
noncomputable def F2:D→D→Option W
 | .int i,.int j=>S4 (0 < j) (vI (i % j))
 | _,_=>none
noncomputable def a2n (f:Int→Int→Bool):D→D→Option W
 | .int i,.int j=>vB (f i j)
 | _,_=>none
theorem b1e {X:Cx}{K:PySem.W.Frag}(hK:X.K=K):Z4 X (binaryOp .Add) (fun x y H Q=>∃ l b xs zs,x=.ref l∧y=.ref b∧L4 K H l xs∧L4 K H b zs∧xs.length + zs.length≤sizeLine∧∀ p,H p=none→Q (.ref p) (upd H p (.lst (xs++zs)))):=by
 subst hK
 intro pins s σ H x y v u Q I rx ry h
 obtain ⟨l,b,xs,zs,rfl,rfl,hH,hB,hz,q⟩:=h
 cases rx
 cases ry
 obtain ⟨its,r,pl,_⟩:=I.list hH
 obtain ⟨its2,r2,pl2,_⟩:=I.list hB
 obtain ⟨⟨cls,dd,data,sl⟩,n,ho,hc,hdd,hd⟩:=pl
 obtain ⟨⟨cls2,dd2,data2,sl2⟩,n2,ho2,hc2,hdd2,hd2⟩:=pl2
 simp only at hc hd hc2 hd2 hdd hdd2
 subst hc hd hc2 hd2 hdd hdd2
 have e1:=r.length
 have e2:=r2.length
 have e:its.toArray++its2.toArray=(its++its2).toArray:=by simp
 refine concat_meets ⟨_,ho,rfl⟩ ⟨_,ho2,rfl⟩ noFill_list_add seq_list_add PySem.F.slot_list_add PySem.F.entry_list_add (PySem.F.args_list_add_2 _ _) (list_addW l b its.toArray its2.toArray n n2 none none sl sl2 (by rw [List.size_toArray,List.size_toArray]; omega)) ⟨ho,ho2,?_⟩
 rw [e]
 exact ⟨.ref _,_,I.b4e (t':=s.toks) (r.append r2) (by rw [List.length_append]; omega),rfl,q _ I.fresh⟩
theorem A2 {n:Nat}(h:small n):n≤sizeLine:=by unfold small at h; rw [sizeLine_eq]; omega
section
variable {X:Cx}{B:Bs}{e a b c:Expr}{ma mb mc:M W}{pos:Pos}
theorem b0z {g:Int→Int→Int}{f:D→D→Option W}(hf:∀ dx dy w,f dx dy=some w→∃ i j,dx=.int i∧dy=.int j∧w=.val (.int (g i j))):V4 B (rI0 fun i j=>.int (g i j)) f:=by
 intro G H σ ρ x y dx dy w Q R hx hy e p
 obtain ⟨i,j,rfl,rfl,rfl⟩:=hf _ _ _ e
 exact ⟨i,j,hx.int,hy.int,p _ G H (d8.refl _) R (.int _)⟩
theorem a59 {P:Int→Int→Prop}{g:Int→Int→Int}{f:D→D→Option W}(hf:∀ dx dy w,f dx dy=some w→∃ i j,dx=.int i∧dy=.int j∧P i j∧w=.val (.int (g i j))):V4 B (rI P fun i j=>.int (g i j)) f:=by
 intro G H σ ρ x y dx dy w Q R hx hy e p
 obtain ⟨i,j,rfl,rfl,hp,rfl⟩:=hf _ _ _ e
 exact ⟨i,j,hx.int,hy.int,hp,p _ G H (d8.refl _) R (.int _)⟩
theorem a0H (g:Int→Int→Bool):V4 B (rI0 fun i j=>.bl (g i j)) (a2n g):=by
 intro G H σ ρ x y dx dy w Q R hx hy e p
 cases dx <;> cases dy <;> first | cases e | skip
 exact ⟨_,_,hx.int,hy.int,p _ G H (d8.refl _) R (.bl _)⟩
theorem a8K:V4 B (rI0 fun i j=>.int (i - j)) a3f:=b0z fun dx dy w e=>by
 cases dx <;> cases dy <;> first | cases e | skip
 exact ⟨_,_,rfl,rfl,rfl⟩
theorem a9z:V4 B (rI a4Q fun i j=>.int (i * j)) a1E:=a59 fun dx dy w e=>by
 cases dx <;> cases dy <;> first | cases e | skip
 obtain ⟨h,e⟩:=j8 e
 cases e
 exact ⟨_,_,rfl,rfl,h,rfl⟩
theorem a9j:V4 B (rI a7v fun i j=>.int (i / j)) a5V:=a59 fun dx dy w e=>by
 cases dx <;> cases dy <;> first | cases e | skip
 obtain ⟨h,e⟩:=j8 e
 cases e
 exact ⟨_,_,rfl,rfl,h,rfl⟩
theorem a8q:V4 B (rI (fun _ j=>0 < j) fun i j=>.int (i % j)) F2:=a59 fun dx dy w e=>by
 cases dx <;> cases dy <;> first | cases e | skip
 obtain ⟨h,e⟩:=j8 e
 cases e
 exact ⟨_,_,rfl,rfl,h,rfl⟩
theorem a89 (ha:PD X B a ma)(hb:PD X B b mb):PD X B (.BinOp a .Sub b pos) (f7 a3f ma mb):=a2J (fun _=>b2r) a8K ha hb
theorem a3F (ha:PD X B a ma)(hb:PD X B b mb):PD X B (.BinOp a .Mult b pos) (f7 a1E ma mb):=a2J (fun _=>b3C) a9z ha hb
theorem a9v (ha:PD X B a ma)(hb:PD X B b mb):PD X B (.BinOp a .FloorDiv b pos) (f7 a5V ma mb):=a2J (fun _=>b1p) a9j ha hb
theorem M5 (ha:PD X B a ma)(hb:PD X B b mb):PD X B (.BinOp a .Mod b pos) (f7 F2 ma mb):=a2J (fun _=>b25) a8q ha hb
theorem n9 (ha:PD X B a ma)(hb:PD X B b mb)(hK:X.K=B.K:=by rfl):PD X B (.BinOp a .Add b pos) (f7 l5 ma mb):=by
 refine a2J (fun ξ=>(b2P (X:=rz X ξ)).or (a5K.or (b1e (K:=B.K) hK))) ?_ ha hb
 intro G H σ ρ x y dx dy w Q R hx hy e p
 cases dx <;> cases dy <;> first | cases e | skip
 ·exact .inl ⟨_,_,hx.int,hy.int,p _ G H (d8.refl _) R (.int _)⟩
 ·obtain ⟨h,e⟩:=j8 e
  cases e
  refine .inr (.inl ⟨_,_,hx.str,hy.str,by rw [E7,E7]; exact A2 h,?_⟩)
  rw [a6b]
  exact p _ G H (d8.refl _) R (.str _)
 ·obtain ⟨h,e⟩:=j8 e
  cases e
  obtain ⟨l,xs,rfl,h1,r1⟩:=hx.lst R.gH
  obtain ⟨l2,xs2,rfl,h2,r2⟩:=hy.lst R.gH
  refine .inr (.inr ⟨l,l2,xs,xs2,rfl,rfl,h1,h2,by rw [r1.len,r2.len]; exact A2 h,fun q hq=>?_⟩)
  obtain ⟨R',w'⟩:=R.a4w hq (r1.append r2)
  exact p _ G _ (d8.refl _) R' w'
theorem b4v (ha:PD X B a ma)(hb:PD X B b mb):PDT X B (.Compare a [.Gt] [b] pos) (A8 (f7 (a2n fun i j=>decide (j < i)) ma mb)):=a4q (fun _=>b4H) (a0H _) ha hb (a4m _)
end
end L3
set_option Elab.async false
set_option linter.all false
set_option maxRecDepth 100000
set_option maxHeartbeats 4000000
namespace L3
open PySem PySem.Spec PyProof.Rows L2
noncomputable def eqL (f:D→D→Option Bool):List D→List D→Option Bool
 | [],[]=>some true
 | [],_::_=>some false
 | _::_,[]=>some false
 | x::xs,y::ys=>match f x y,eqL f xs ys with
  | some a,some b=>some (a && b)
  | _,_=>none
noncomputable def eqF:D→D→Option Bool
 | .t6,.t6=>some true
 | .bl a,.bl b=>some (a == b)
 | .int a,.int b=>some (a == b)
 | .str a,.str b=>some (a == b)
 | .t6,.bl _=>some false
 | .t6,.int _=>some false
 | .t6,.str _=>some false
 | .bl _,.t6=>some false
 | .int _,.t6=>some false
 | .str _,.t6=>some false
 | .tup _,.t6=>some false
 | .lst _,.t6=>some false
 | _,_=>none
noncomputable def T5:Nat→D→D→Option Bool
 | n + 1,.tup a,.tup b=>eqL (T5 n) a b
 | n + 1,.lst a,.lst b=>eqL (T5 n) a b
 | _,d,e=>eqF d e
theorem a7f {f:D→D→Option Bool}:∀ {xs ys:List D} {b:Bool},eqL f xs ys=some b→xs.length≠ys.length→b=false
 | [],[],_,_,h=>absurd rfl h
 | [],_::_,_,e,_=>by cases e; rfl
 | _::_,[],_,e,_=>by cases e; rfl
 | x::xs,y::ys,b,e,h=>by
  unfold eqL at e
  cases h1:f x y with
  | none=>rw [h1] at e; cases e
  | some p=>
   cases h2:eqL f xs ys with
   | none=>rw [h1,h2] at e; cases e
   | some q=>
    rw [h1,h2] at e
    cases e
    rw [a7f h2 (by simpa using h),Bool.and_false]
theorem a4f {f:D→D→Option Bool}:∀ {xs ys:List D} {b:Bool},eqL f xs ys=some b→∃ g:Nat→Bool,(∀ (j:Nat) x y,xs[j]?=some x→ys[j]?=some y→f x y=some (g j))∧b=((List.range (min xs.length ys.length)).all g && (xs.length == ys.length))
 | [],[],_,e=>by cases e; exact ⟨fun _=>true,fun j x y h=>by simp at h,rfl⟩
 | [],_::_,_,e=>by cases e; exact ⟨fun _=>true,fun j x y h=>by simp at h,by simp⟩
 | _::_,[],_,e=>by cases e; exact ⟨fun _=>true,fun j x y _ h=>by simp at h,by simp⟩
 | x::xs,y::ys,b,e=>by
  unfold eqL at e
  cases h1:f x y with
  | none=>rw [h1] at e; cases e
  | some p=>
   cases h2:eqL f xs ys with
   | none=>rw [h1,h2] at e; cases e
   | some q=>
    rw [h1,h2] at e
    cases e
    obtain ⟨g,hg,hq⟩:=a4f h2
    refine ⟨fun j=>if j=0 then p else g (j - 1),fun j x' y' a c=>?_,?_⟩
    ·cases j with
     | zero=>simp at a c; subst a c; simpa using h1
     | succ j=>simpa using hg j x' y' (by simpa using a) (by simpa using c)
    ·have em:min (x::xs).length (y::ys).length=min xs.length ys.length + 1:=by simp only [List.length_cons]; omega
     rw [em,List.range_succ_eq_map,List.all_cons,List.all_map,hq,List.length_cons,List.length_cons]
     simp only [if_pos,Bool.and_assoc]
     congr 2
     simp
theorem a5t {f:D→D→Option Bool}{xs ys:List D}{b:Bool}(h:eqL f xs ys=some b)(hl:xs.length=ys.length):∃ g:Nat→Bool,(∀ (j:Nat) x y,xs[j]?=some x→ys[j]?=some y→f x y=some (g j))∧b=(List.range xs.length).all g:=by
 obtain ⟨g,h1,h2⟩:=a4f h
 refine ⟨g,h1,?_⟩
 rw [h2,hl]
 simp
theorem D5.rep {K:PySem.W.Frag}{G H:Hp}{v:V}{d:D}(g:d8 G H)(h:D5 K G H v d):Rep K H v d:=by
 rcases h with h | ⟨p,rfl,h⟩
 ·exact h.same g
 ·cases d with
  | lst ds=>
   obtain ⟨xs,e,r⟩:=h
   have r':=r.same g
   exact .lst (L4.of e) r'.len r'.get
  | dct es=>
   obtain ⟨xs,e,r⟩:=h
   have r':=r.same g
   exact .dct (.inl e) r'.keys r'.get
  | _=>exact (show False from h).elim
section
variable {X:Cx}{pins:List (Addr×Obj)}{σ:St}{H:Hp}{s:Shared}
theorem str_beq (a b:List Nat):(tx a == tx b)=(a == b):=by
 rw [Bool.eq_iff_iff,beq_iff_eq,beq_iff_eq]
 exact a8I
theorem b0M {A:Around}{a b:Addr}{xs ys:List V}{ds es:List D}{g:Nat→Bool}(I:Inv X pins σ H s)(h1:V8 X.K H a xs)(h2:V8 X.K H b ys)(l1:xs.length=ds.length)(l2:ys.length=es.length)(hu:A.units < cLine)
  (ih:∀ (j:Nat) x y v u,xs[j]?=some x→ys[j]?=some y→RelV x v→RelV y u→SeqAt.EqAt A.in1 s v u (g j)):
  SeqAt.RcAt A s (.ref a) (.ref b) ((List.range (min ds.length es.length)).all g && (ds.length == es.length))∧SeqAt.RcNeAt A s (.ref a) (.ref b) (!((List.range (min ds.length es.length)).all g && (ds.length == es.length))):=by
 obtain ⟨its,rv,p,_⟩:=I.tuple h1
 obtain ⟨its2,rv2,p2,_⟩:=I.tuple h2
 have k1:=rv.length
 have k2:=rv2.length
 have he:∀ j (z1:j < its.toArray.size) (z2:j < its2.toArray.size),SeqAt.EqAt A.in1 s its.toArray[j] its2.toArray[j] (g j):=fun j z1 z2=>by
  have h1':j < xs.length:=by simpa [← k1] using z1
  have h2':j < ys.length:=by simpa [← k2] using z2
  obtain ⟨v1,e1,r1⟩:=rv.get (i:=j) (x:=xs[j]) (by simp [h1'])
  obtain ⟨v2,e2,r2⟩:=rv2.get (i:=j) (x:=ys[j]) (by simp [h2'])
  have f1:its.toArray[j]=v1:=by
   have:=(List.getElem?_eq_some_iff.mp e1).2
   simpa using this
  have f2:its2.toArray[j]=v2:=by
   have:=(List.getElem?_eq_some_iff.mp e2).2
   simpa using this
  rw [f1,f2]
  exact ih j _ _ _ _ (by simp [h1']) (by simp [h2']) r1 r2
 have q1:=SeqAt.RcAt.tuples (e:=g) (A:=A) p p2 hu he
 have q2:=SeqAt.RcNeAt.tuples (e:=g) (A:=A) p p2 hu he
 have e1:its.toArray.size=ds.length:=by rw [List.size_toArray]; omega
 have e2:its2.toArray.size=es.length:=by rw [List.size_toArray]; omega
 rw [e1,e2] at q1 q2
 exact ⟨q1,q2⟩
theorem b0v {A:Around}{a b:Addr}{xs ys:List V}{ds es:List D}{f:D→D→Option Bool}{r:Bool}(I:Inv X pins σ H s)(h1:L4 X.K H a xs)(h2:L4 X.K H b ys)(l1:xs.length=ds.length)(l2:ys.length=es.length)(hu:A.units < cLine)
  (hr:eqL f ds es=some r) (ih:∀ (j:Nat) x y d e k v u,xs[j]?=some x→ys[j]?=some y→ds[j]?=some d→es[j]?=some e→f d e=some k→RelV x v→RelV y u→SeqAt.EqAt A.in1 s v u k):
  SeqAt.RcAt A s (.ref a) (.ref b) r∧SeqAt.RcNeAt A s (.ref a) (.ref b) (!r):=by
 obtain ⟨its,rv,p,_⟩:=I.list h1
 obtain ⟨its2,rv2,p2,_⟩:=I.list h2
 have k1:=rv.length
 have k2:=rv2.length
 have e1:its.toArray.size=ds.length:=by rw [List.size_toArray]; omega
 have e2:its2.toArray.size=es.length:=by rw [List.size_toArray]; omega
 by_cases hl:ds.length=es.length
 ·obtain ⟨g,hg,hb⟩:=a5t hr hl
  have he:∀ j (z1:j < its.toArray.size) (z2:j < its2.toArray.size),SeqAt.EqAt A.in1 s its.toArray[j] its2.toArray[j] (g j):=fun j z1 z2=>by
   have h1':j < xs.length:=by simpa [← k1] using z1
   have h2':j < ys.length:=by simpa [← k2] using z2
   have h3':j < ds.length:=by omega
   have h4':j < es.length:=by omega
   obtain ⟨v1,e1,r1⟩:=rv.get (i:=j) (x:=xs[j]) (by simp [h1'])
   obtain ⟨v2,e2,r2⟩:=rv2.get (i:=j) (x:=ys[j]) (by simp [h2'])
   have f1:its.toArray[j]=v1:=by
    have:=(List.getElem?_eq_some_iff.mp e1).2
    simpa using this
   have f2:its2.toArray[j]=v2:=by
    have:=(List.getElem?_eq_some_iff.mp e2).2
    simpa using this
   rw [f1,f2]
   exact ih j _ _ ds[j] es[j] _ _ _ (by simp [h1']) (by simp [h2']) (by simp [h3']) (by simp [h4']) (hg j _ _ (by simp [h3']) (by simp [h4'])) r1 r2
  have q1:=SeqAt.RcAt.lists (e:=g) (A:=A) p.isList p2.isList (by omega) hu he
  have q2:=SeqAt.RcNeAt.lists (e:=g) (A:=A) p.isList p2.isList (by omega) hu he
  rw [e1,← hb] at q1 q2
  exact ⟨q1,q2⟩
 ·have hb:=a7f hr hl
  subst hb
  have hne:(its.toArray.size != its2.toArray.size)=true:=by rw [e1,e2]; simpa using hl
  exact ⟨SeqAt.RcAt.lists_lengths p.isList p2.isList hne hu,SeqAt.RcNeAt.lists_lengths p.isList p2.isList hne hu⟩
theorem a6D {d e:D}{b:Bool}(h:eqF d e=some b)(I:Inv X pins σ H s){A:Around}{x y:V}{v u:Value}(hx:Rep X.K H x d)(hy:Rep X.K H y e)(rx:RelV x v)(ry:RelV y u)(hu':A.units < cLine):
  SeqAt.EqAt A s v u b∧SeqAt.RcAt A s v u b∧SeqAt.RcNeAt A s v u (!b):=by
 cases hx with
 | t6=>
  cases rx
  cases hy with
  | t6=>cases h; cases ry; exact ⟨SeqAt.EqAt.same _,SeqAt.RcAt.none_none,SeqAt.RcNeAt.none_none⟩
  | bl _=>cases h; cases ry; exact ⟨SeqAt.EqAt.none_bool _,SeqAt.RcAt.none_bool _,SeqAt.RcNeAt.none_bool _⟩
  | int _=>cases h; obtain ⟨t,rfl⟩:=ry; exact ⟨SeqAt.EqAt.none_int _ _,SeqAt.RcAt.none_int _ _,SeqAt.RcNeAt.none_int _ _⟩
  | str _=>cases h; obtain ⟨t,rfl⟩:=ry; exact ⟨SeqAt.EqAt.none_str _ _,SeqAt.RcAt.none_str _ _,SeqAt.RcNeAt.none_str _ _⟩
  | ty _=>cases h
  | tup _ _ _=>cases h
  | lst _ _ _=>cases h
  | dct _ _ _=>cases h
 | bl _=>
  cases rx
  cases hy with
  | t6=>cases h; cases ry; exact ⟨SeqAt.EqAt.bool_none _,SeqAt.RcAt.bool_none _,SeqAt.RcNeAt.bool_none _⟩
  | bl _=>cases h; cases ry; exact ⟨SeqAt.EqAt.bool_bool _ _,SeqAt.RcAt.bool_bool _ _,SeqAt.RcNeAt.bool_bool _ _⟩
  | int _=>cases h
  | str _=>cases h
  | ty _=>cases h
  | tup _ _ _=>cases h
  | lst _ _ _=>cases h
  | dct _ _ _=>cases h
 | int _=>
  obtain ⟨t,rfl⟩:=rx
  cases hy with
  | t6=>cases h; cases ry; exact ⟨SeqAt.EqAt.int_none _ _,SeqAt.RcAt.int_none _ _,SeqAt.RcNeAt.int_none _ _⟩
  | int _=>cases h; obtain ⟨t',rfl⟩:=ry; exact ⟨SeqAt.EqAt.int_int _ _ _ _,SeqAt.RcAt.int_int _ _ _ _,SeqAt.RcNeAt.int_int _ _ _ _⟩
  | bl _=>cases h
  | str _=>cases h
  | ty _=>cases h
  | tup _ _ _=>cases h
  | lst _ _ _=>cases h
  | dct _ _ _=>cases h
 | str cs=>
  obtain ⟨t,rfl⟩:=rx
  cases hy with
  | t6=>cases h; cases ry; exact ⟨SeqAt.EqAt.str_none _ _,SeqAt.RcAt.str_none _ _,SeqAt.RcNeAt.str_none _ _⟩
  | str cs'=>
   have hb:(cs == cs')=b:=Option.some.inj h
   rw [← hb,← str_beq]
   obtain ⟨t',rfl⟩:=ry
   exact ⟨SeqAt.EqAt.str_str _ _ _ _,SeqAt.RcAt.str_str _ _ _ _,SeqAt.RcNeAt.str_str _ _ _ _⟩
  | bl _=>cases h
  | int _=>cases h
  | ty _=>cases h
  | tup _ _ _=>cases h
  | lst _ _ _=>cases h
  | dct _ _ _=>cases h
 | ty _=>cases hy <;> cases h
 | tup h1 _ _=>
  cases rx
  cases hy with
  | t6=>
   cases h
   cases ry
   obtain ⟨its,_,p,_⟩:=I.tuple h1
   exact ⟨SeqAt.EqAt.tuple_none p hu',SeqAt.RcAt.tuple_none p hu',SeqAt.RcNeAt.tuple_none p hu'⟩
  | bl _=>cases h
  | int _=>cases h
  | str _=>cases h
  | ty _=>cases h
  | tup _ _ _=>cases h
  | lst _ _ _=>cases h
  | dct _ _ _=>cases h
 | lst h1 _ _=>
  cases rx
  cases hy with
  | t6=>
   cases h
   cases ry
   obtain ⟨its,_,p,_⟩:=I.list h1
   exact ⟨SeqAt.EqAt.list_none p.isList hu',SeqAt.RcAt.list_none p.isList hu',SeqAt.RcNeAt.list_none p.isList hu'⟩
  | bl _=>cases h
  | int _=>cases h
  | str _=>cases h
  | ty _=>cases h
  | tup _ _ _=>cases h
  | lst _ _ _=>cases h
  | dct _ _ _=>cases h
 | dct _ _ _=>cases hy <;> cases h
theorem S6 {d e:D}{b:Bool}(h:eqF d e=some b){x:V}(hx:Rep X.K H x d)(hy:Rep X.K H x e):b=true:=by
 cases hx <;> cases hy <;> first | (exfalso; cases h; done) | skip
 all_goals first | (cases h; rfl) | (cases h; simp)
theorem b2H {g:Nat→Bool}{n:Nat}(h:∀ j,j < n→g j=true):(List.range n).all g=true:=by
 rw [List.all_eq_true]
 intro j hj
 exact h j (List.mem_range.mp hj)
theorem a4L {f:D→D→Option Bool}{ds es:List D}{b:Bool}{xs:List V}(h:eqL f ds es=some b)(l1:xs.length=ds.length)(l2:xs.length=es.length)(r1:∀ (j:Nat) x d,xs[j]?=some x→ds[j]?=some d→Rep X.K H x d)(r2:∀ (j:Nat) x d,xs[j]?=some x→es[j]?=some d→Rep X.K H x d)
  (hf:∀ d e k x,f d e=some k→Rep X.K H x d→Rep X.K H x e→k=true):b=true:=by
 obtain ⟨g,hg,hb⟩:=a5t h (by omega)
 rw [hb]
 refine b2H fun j hj=>?_
 have hj2:j < es.length:=by omega
 have hj3:j < xs.length:=by omega
 exact hf ds[j] es[j] _ xs[j] (hg j _ _ (by simp [hj]) (by simp [hj2])) (r1 j _ _ (by simp [hj3]) (by simp [hj])) (r2 j _ _ (by simp [hj3]) (by simp [hj2]))
theorem a5m (I:Inv X pins σ H s):∀ (n:Nat) {d e:D} {b:Bool} {x:V},T5 n d e=some b→Rep X.K H x d→Rep X.K H x e→b=true:=by
 intro n
 induction n with
 | zero=>
  intro d e b x h hx hy
  exact S6 (by cases d <;> exact h) hx hy
 | succ n ih=>
  intro d e b x h hx hy
  cases hx with
  | tup h1 l1 r1=>
   cases hy with
   | tup h2 l2 r2=>
    have e:=I.a1k h1 h2
    subst e
    exact a4L (X:=X) (H:=H) (show eqL (T5 n) _ _=some b from h) l1 l2 r1 r2 fun d e k x a b c=>ih a b c
   | lst h2 l2 r2=>cases h
   | dct h2 l2 r2=>cases h
  | lst h1 l1 r1=>
   cases hy with
   | lst h2 l2 r2=>
    have e:=I.a2w h1 h2
    subst e
    exact a4L (X:=X) (H:=H) (show eqL (T5 n) _ _=some b from h) l1 l2 r1 r2 fun d e k x a b c=>ih a b c
   | tup h2 l2 r2=>cases h
   | dct h2 l2 r2=>cases h
  | t6=>exact S6 (X:=X) (H:=H) (by cases e <;> exact h) .t6 hy
  | bl k=>exact S6 (X:=X) (H:=H) (by cases e <;> exact h) (.bl k) hy
  | int k=>exact S6 (X:=X) (H:=H) (by cases e <;> exact h) (.int k) hy
  | str k=>exact S6 (X:=X) (H:=H) (by cases e <;> exact h) (.str k) hy
  | ty k=>exact S6 (X:=X) (H:=H) (by cases e <;> exact h) (.ty k) hy
  | dct h1 l1 r1=>cases hy <;> cases h
theorem a1N (I:Inv X pins σ H s):∀ (n:Nat) {d e:D} {b:Bool},T5 n d e=some b→∀ {A:Around} {x y:V} {v u:Value},Rep X.K H x d→Rep X.K H y e→RelV x v→RelV y u→A.units + n < cLine→
  SeqAt.EqAt A s v u b∧SeqAt.RcAt A s v u b∧SeqAt.RcNeAt A s v u (!b):=by
 intro n
 induction n with
 | zero=>
  intro d e b h A x y v u hx hy rx ry hu
  exact a6D (by cases d <;> exact h) I hx hy rx ry (by omega)
 | succ n ih=>
  intro d e b h A x y v u hx hy rx ry hu
  have flat:eqF d e=some b→SeqAt.EqAt A s v u b∧SeqAt.RcAt A s v u b∧SeqAt.RcNeAt A s v u (!b):=fun h'=>a6D h' I hx hy rx ry (by omega)
  cases d with
  | tup ds=>
   cases e with
   | tup es=>
    have hsame:=fun (hy':Rep X.K H x (.tup es))=>a5m I (n + 1) h hx hy'
    cases hx with
    | @tup a xs _ h1 l1 r1=>
     cases hy with
     | @tup a2 xs2 _ h2 l2 r2=>
      cases rx
      cases ry
      obtain ⟨g,hg,hb⟩:=a4f (show eqL (T5 n) ds es=some b from h)
      have key:=b0M (A:=A) (g:=g) I h1 h2 l1 l2 (by omega) fun j x y v u hx hy rx ry=>by
       have hj1:j < ds.length:=by rw [← l1]; exact (List.getElem?_eq_some_iff.mp hx).1
       have hj2:j < es.length:=by rw [← l2]; exact (List.getElem?_eq_some_iff.mp hy).1
       exact (ih (hg j ds[j] es[j] (by simp [hj1]) (by simp [hj2])) (A:=A.in1) (r1 j x _ hx (by simp [hj1])) (r2 j y _ hy (by simp [hj2])) rx ry (by show A.units + 1 + n < _; omega)).1
      rw [← hb] at key
      refine ⟨?_,key⟩
      by_cases e:a=a2
      ·subst e
       have e2:=hsame (.tup h2 l2 r2)
       subst e2
       exact SeqAt.EqAt.same _
      ·exact SeqAt.EqAt.of_refs e key.1
   | _=>exact flat h
  | lst ds=>
   cases e with
   | lst es=>
    have hsame:=fun (hy':Rep X.K H x (.lst es))=>a5m I (n + 1) h hx hy'
    cases hx with
    | @lst a xs _ h1 l1 r1=>
     cases hy with
     | @lst a2 xs2 _ h2 l2 r2=>
      cases rx
      cases ry
      have key:=b0v (A:=A) I h1 h2 l1 l2 (by omega) (show eqL (T5 n) ds es=some b from h) fun j x y d e k v u hx hy hd he hk rx ry=>
       (ih hk (A:=A.in1) (r1 j x _ hx hd) (r2 j y _ hy he) rx ry (by show A.units + 1 + n < _; omega)).1
      refine ⟨?_,key⟩
      by_cases e:a=a2
      ·subst e
       have e2:=hsame (.lst h2 l2 r2)
       subst e2
       exact SeqAt.EqAt.same _
      ·exact SeqAt.EqAt.of_refs e key.1
   | _=>exact flat h
  | _=>exact flat (by cases e <;> exact h)
end
theorem a9x {X:Cx}{K:PySem.W.Frag}(hK:X.K=K)(hu:X.A.units + 8 < cLine):Z4 X (compareOp .Eq) (fun x y H Q=>∃ d e b,Rep K H x d∧Rep K H y e∧T5 8 d e=some b∧Q (.bl b) H):=by
 subst hK
 intro pins s σ H x y v u Q I rx ry h
 obtain ⟨d,e,b,hx,hy,hb,q⟩:=h
 exact (a1N I 8 hb hx hy rx ry hu).2.1 _ _ _ _ (a0q I q rfl)
theorem b2z {X:Cx}{K:PySem.W.Frag}(hK:X.K=K)(hu:X.A.units + 8 < cLine):Z4 X (compareOp .NotEq) (fun x y H Q=>∃ d e b,Rep K H x d∧Rep K H y e∧T5 8 d e=some b∧Q (.bl (!b)) H):=by
 subst hK
 intro pins s σ H x y v u Q I rx ry h
 obtain ⟨d,e,b,hx,hy,hb,q⟩:=h
 exact (a1N I 8 hb hx hy rx ry hu).2.2 _ _ _ _ (a0q I q rfl)
end L3
set_option Elab.async false
set_option linter.all false
set_option maxRecDepth 100000
set_option maxHeartbeats 4000000
namespace L3
open PySem PySem.Spec PyProof.Rows L2
section
variable {X:Cx}{pins:List (Addr×Obj)}{σ:St}{H:Hp}{s:Shared}
theorem K9 {a:Addr}{T T':String}(h:s.TypeIs (.ref a) T)(h':s.TypeIs (.ref a) T'):T=T':=by
 obtain ⟨o,e,c⟩:=h
 obtain ⟨o',e',c'⟩:=h'
 rw [e] at e'
 cases e'
 rw [c] at c'
 injection c'
theorem a6O {xs:List V}{ds es:List D}(l1:xs.length=ds.length)(l2:xs.length=es.length)(h:∀ (j:Nat) x d e,xs[j]?=some x→ds[j]?=some d→es[j]?=some e→d=e):ds=es:=by
 refine List.ext_getElem? fun j=>?_
 by_cases hj:j < xs.length
 ·have h1:j < ds.length:=by omega
  have h2:j < es.length:=by omega
  have e1:ds[j]?=some ds[j]:=by simp [h1]
  have e2:es[j]?=some es[j]:=by simp [h2]
  rw [e1,e2,h j xs[j] _ _ (by simp [hj]) e1 e2]
 ·rw [List.getElem?_eq_none (by omega),List.getElem?_eq_none (by omega)]
theorem a8r {a:Addr}{k1 k2:List (Key×V)}(h1:Rd H a (.dK k1))(h2:Rd H a (.dK k2)):k1=k2:=by
 rcases h1 with h1 | ⟨o,h1⟩ <;> rcases h2 with h2 | ⟨o2,h2⟩ <;> rw [h1] at h2 <;> cases h2 <;> rfl
theorem Rep.inj (I:Inv X pins σ H s){x:V}{d:D}(h:Rep X.K H x d):∀ {e:D},Rep X.K H x e→d=e:=by
 induction h with
 | t6=>intro e h2; cases h2; rfl
 | bl b=>intro e h2; cases h2; rfl
 | int b=>intro e h2; cases h2; rfl
 | ty b=>intro e h2; cases h2; rfl
 | str cs=>
  intro e h2
  generalize hx:V.str (tx cs)=x at h2
  cases h2 <;> first | (cases hx; done) | skip
  rename_i cs'
  have q:tx cs=tx cs':=by injection hx
  rw [a8I.mp q]
 | @tup a xs ds h1 l1 r1 ih=>
  intro e h2
  cases h2 with
  | tup h2 l2 r2=>
   have q:=I.a1k h1 h2
   subst q
   rw [a6O l1 l2 fun j x d e a b c=>ih j x d a b (r2 j x e a c)]
  | lst h2 l2 r2=>
   obtain ⟨_,_,p,_⟩:=I.tuple h1
   obtain ⟨_,_,p2,_⟩:=I.list h2
   exact absurd (K9 p.typeIs p2.isList.typeIs) (by decide)
  | dct h2 l2 r2=>
   obtain ⟨_,_,p,_⟩:=I.tuple h1
   obtain ⟨_,_,vs,_,dd⟩:=P0 I.hok h2
   exact absurd (K9 p.typeIs dd.typeIs) (by decide)
 | @lst a xs ds h1 l1 r1 ih=>
  intro e h2
  cases h2 with
  | lst h2 l2 r2=>
   have q:=I.a2w h1 h2
   subst q
   rw [a6O l1 l2 fun j x d e a b c=>ih j x d a b (r2 j x e a c)]
  | tup h2 l2 r2=>
   obtain ⟨_,_,p,_⟩:=I.list h1
   obtain ⟨_,_,p2,_⟩:=I.tuple h2
   exact absurd (K9 p.isList.typeIs p2.typeIs) (by decide)
  | dct h2 l2 r2=>
   obtain ⟨_,_,p,_⟩:=I.list h1
   obtain ⟨_,_,vs,_,dd⟩:=P0 I.hok h2
   exact absurd (K9 p.isList.typeIs dd.typeIs) (by decide)
 | @dct a kvs ds h1 l1 r1 ih=>
  intro e h2
  cases h2 with
  | @dct _ kvs2 es h2 l2 r2=>
   have ek:=a8r h1 h2
   subst ek
   congr 1
   have z1:kvs.length=ds.length:=by have:=congrArg List.length l1; simpa using this
   have z2:kvs.length=es.length:=by have:=congrArg List.length l2; simpa using this
   refine List.ext_getElem? fun j=>?_
   by_cases hj:j < kvs.length
   ·have h1:j < ds.length:=by omega
    have h2:j < es.length:=by omega
    have e1:ds[j]?=some ds[j]:=by simp [h1]
    have e2:es[j]?=some es[j]:=by simp [h2]
    have k1:(kvs.map (·.1))[j]?=(ds.map (·.1))[j]?:=by rw [l1]
    have k2:(kvs.map (·.1))[j]?=(es.map (·.1))[j]?:=by rw [l2]
    rw [List.getElem?_map,List.getElem?_map,e1,show kvs[j]?=some kvs[j] by simp [hj]] at k1
    rw [List.getElem?_map,List.getElem?_map,e2,show kvs[j]?=some kvs[j] by simp [hj]] at k2
    have q:=ih j kvs[j] ds[j] (by simp [hj]) e1 (r2 j kvs[j] es[j] (by simp [hj]) e2)
    rw [e1,e2]
    congr 1
    refine Prod.ext ?_ q
    simp at k1 k2
    rw [← k1,← k2]
   ·rw [List.getElem?_eq_none (by omega),List.getElem?_eq_none (by omega)]
  | tup h2 l2 r2=>
   obtain ⟨_,_,vs,_,dd⟩:=P0 I.hok h1
   obtain ⟨_,_,p2,_⟩:=I.tuple h2
   exact absurd (K9 dd.typeIs p2.typeIs) (by decide)
  | lst h2 l2 r2=>
   obtain ⟨_,_,vs,_,dd⟩:=P0 I.hok h1
   obtain ⟨_,_,p2,_⟩:=I.list h2
   exact absurd (K9 dd.typeIs p2.isList.typeIs) (by decide)
end
noncomputable def inL (d:D):List D→Option Bool
 | []=>some false
 | y::ys=>match T5 7 y d,inL d ys with
  | some a,some b=>some (a || b)
  | _,_=>none
open Classical in
noncomputable def a0i (K:PySem.W.Frag) (H:Hp) (d:D) (u:Value):Bool:=decide (∃ y e,RelV y u∧Rep K H y e∧T5 7 e d=some true)
section
variable {X:Cx}{pins:List (Addr×Obj)}{σ:St}{H:Hp}{s:Shared}
theorem a4X (I:Inv X pins σ H s){y:V}{u:Value}{d e:D}{b:Bool}(r:RelV y u)(h:Rep X.K H y e)(he:T5 7 e d=some b):a0i X.K H d u=b:=by
 unfold a0i
 cases b with
 | true=>exact @decide_eq_true _ (Classical.propDecidable _) ⟨y,e,r,h,he⟩
 | false=>
  refine @decide_eq_false _ (Classical.propDecidable _) ?_
  rintro ⟨y',e',r',h',he'⟩
  have q:=r'.inj r
  subst q
  have q2:=h'.inj I h
  subst q2
  rw [he] at he'
  cases he'
theorem a5F (I:Inv X pins σ H s){d:D}:∀ {ds:List D} {xs:List V} {us:List Value} {b:Bool},inL d ds=some b→l7 X.K H xs ds→Vals xs us→us.any (a0i X.K H d)=b
 | [],[],us,b,h,_,v=>by cases v; cases h; rfl
 | [],_::_,_,_,_,r,_=>by have:=r.len; simp at this
 | _::_,[],_,_,_,r,_=>by have:=r.len; simp at this
 | e::ds,x::xs,us,b,h,r,v=>by
  cases v with
  | cons r1 v=>
   unfold inL at h
   cases h1:T5 7 e d with
   | none=>rw [h1] at h; cases h
   | some p=>
    cases h2:inL d ds with
    | none=>rw [h1,h2] at h; cases h
    | some q=>
     rw [h1,h2] at h
     cases h
     rw [List.any_cons,a4X I r1 r.head h1,a5F I h2 r.tail v]
theorem a4d (I:Inv X pins σ H s){d:D}{x':V}{w':Value}{A:Around}(hx:Rep X.K H x' d)(rx:RelV x' w')(hu:A.units + 7 < cLine):∀ {ds:List D} {xs:List V} {us:List Value} {b:Bool},inL d ds=some b→l7 X.K H xs ds→Vals xs us→∀ u∈us,SeqAt.EqAt A s u w' (a0i X.K H d u)
 | [],[],us,b,h,_,v=>by cases v; intro u hu; cases hu
 | [],_::_,_,_,_,r,_=>by have:=r.len; simp at this
 | _::_,[],_,_,_,r,_=>by have:=r.len; simp at this
 | e::ds,x::xs,us,b,h,r,v=>by
  cases v with
  | cons r1 v=>
   unfold inL at h
   cases h1:T5 7 e d with
   | none=>rw [h1] at h; cases h
   | some p=>
    cases h2:inL d ds with
    | none=>rw [h1,h2] at h; cases h
    | some q=>
     intro u hm
     rcases List.mem_cons.mp hm with rfl | hm
     ·rw [a4X I r1 r.head h1]
      exact (a1N I 7 h1 r.head hx r1 rx hu).1
     ·exact a4d I hx rx hu h2 r.tail v u hm
end
theorem b3G {X:Cx}{K:PySem.W.Frag}(hK:X.K=K)(hu:X.A.units + 8 < cLine):Z4 X (compareOp .In) (fun x y H Q=>∃ d ds b p xs,Rep K H x d∧y=.ref p∧(L4 K H p xs∨V8 K H p xs)∧l7 K H xs ds∧inL d ds=some b∧Q (.bl b) H):=by
 subst hK
 intro pins s σ H x y v u Q I rx ry h
 obtain ⟨d,ds,b,p,xs,hx,rfl,hq,hr,hb,q⟩:=h
 cases ry
 rcases hq with hq | hq
 ·obtain ⟨its,r,pl,hz⟩:=I.list hq
  refine SeqAt.in_listAt (a0i X.K H d) pl.isList (fun w hw=>a4d I hx rx (by show X.A.units + 1 + 7 < _; omega) hb hr r w (by simpa using hw)) ⟨.bl _,H,I,rfl,?_⟩
  rw [show its.toArray.any (a0i X.K H d)=its.any (a0i X.K H d) by simp,a5F I hb hr r]
  exact q
 ·obtain ⟨its,r,pl,hz⟩:=I.tuple hq
  refine SeqAt.in_tupleAt (a0i X.K H d) pl (fun w hw=>a4d I hx rx (by show X.A.units + 1 + 7 < _; omega) hb hr r w (by simpa using hw)) ⟨.bl _,H,I,rfl,?_⟩
  rw [show its.toArray.any (a0i X.K H d)=its.any (a0i X.K H d) by simp,a5F I hb hr r]
  exact q
noncomputable def keyOf:D→Option Key
 | .int i=>some (.inl i)
 | .str cs=>some (.inr (tx cs))
 | _=>none
noncomputable def P5 (es:List (Key×D))(k:Key):Option D:=(es.find? fun kv=>decide (kv.1=k)).map (·.2)
noncomputable def putD (es:List (Key×D))(k:Key)(d:D):List (Key×D):=if (es.any fun kv=>decide (kv.1=k))=true then es.map fun kv=>if kv.1=k then (kv.1,d) else kv else es++[(k,d)]
noncomputable def a8V (es:List (Key×D))(k:Key):List (Key×D):=es.filter fun kv=>decide (kv.1≠k)
section
variable {K:PySem.W.Frag}{G:Hp}
theorem k6.nil:k6 K G [] []:=⟨rfl,fun j p e h=>by simp at h⟩
theorem k6.cons {p:Key×V}{e:Key×D}{kvs:List (Key×V)}{es:List (Key×D)}(hk:p.1=e.1)(h:Rep K G p.2 e.2)(r:k6 K G kvs es):k6 K G (p::kvs) (e::es):=by
 refine ⟨by rw [List.map_cons,List.map_cons,hk,r.keys],fun j x y a b=>?_⟩
 cases j with
 | zero=>simp at a b; subst a b; exact h
 | succ j=>exact r.get j x y (by simpa using a) (by simpa using b)
theorem k6.inv {p:Key×V}{e:Key×D}{kvs:List (Key×V)}{es:List (Key×D)}(r:k6 K G (p::kvs) (e::es)):p.1=e.1∧Rep K G p.2 e.2∧k6 K G kvs es:=by
 have k:=r.keys
 rw [List.map_cons,List.map_cons] at k
 exact ⟨(List.cons.inj k).1,r.get 0 p e rfl rfl,(List.cons.inj k).2,fun j x y a b=>r.get (j + 1) x y (by simpa using a) (by simpa using b)⟩
theorem k6.len {kvs:List (Key×V)}{es:List (Key×D)}(r:k6 K G kvs es):kvs.length=es.length:=by have:=congrArg List.length r.keys; simpa using this
theorem k6.ind {P:List (Key×V)→List (Key×D)→Prop}(h0:P [] [])(h1:∀ p e kvs es,p.1=e.1→Rep K G p.2 e.2→k6 K G kvs es→P kvs es→P (p::kvs) (e::es)):∀ {kvs:List (Key×V)} {es:List (Key×D)},k6 K G kvs es→P kvs es
 | [],[],_=>h0
 | [],_::_,r=>by have:=r.len; simp at this
 | _::_,[],r=>by have:=r.len; simp at this
 | p::kvs,e::es,r=>by
  obtain ⟨a,b,c⟩:=r.inv
  exact h1 p e kvs es a b c (k6.ind h0 h1 c)
theorem k6.val {kvs:List (Key×V)}{es:List (Key×D)}(r:k6 K G kvs es)(k:Key):(∀ d,P5 es k=some d→∃ v,W4 kvs k=some v∧Rep K G v d)∧(P5 es k=none→W4 kvs k=none):=by
 refine k6.ind (P:=fun kvs es=>(∀ d,P5 es k=some d→∃ v,W4 kvs k=some v∧Rep K G v d)∧(P5 es k=none→W4 kvs k=none)) ⟨fun d h=>by simp [P5] at h,fun _=>rfl⟩ (fun p e kvs es hk hr _ ih=>?_) r
 by_cases h:p.1=k
 ·have h':e.1=k:=by rw [← hk]; exact h
  refine ⟨fun d q=>⟨p.2,a2D h,?_⟩,fun q=>?_⟩
  ·simp [P5,List.find?_cons,h'] at q
   subst q
   exact hr
  ·simp [P5,List.find?_cons,h'] at q
 ·have h':¬ e.1=k:=by rw [← hk]; exact h
  have e1:P5 (e::es) k=P5 es k:=by simp [P5,List.find?_cons,h']
  rw [e1,a2N h]
  exact ih
theorem k6.append {kvs ks:List (Key×V)}{es fs:List (Key×D)}(r:k6 K G kvs es)(r2:k6 K G ks fs):k6 K G (kvs++ks) (es++fs):=
 k6.ind (P:=fun kvs es=>k6 K G (kvs++ks) (es++fs)) r2 (fun p e kvs es hk hr _ ih=>k6.cons hk hr ih) r
theorem k6.drop {kvs:List (Key×V)}{es:List (Key×D)}(r:k6 K G kvs es)(k:Key):k6 K G (a2E kvs k) (a8V es k):=by
 refine k6.ind (P:=fun kvs es=>k6 K G (a2E kvs k) (a8V es k)) .nil (fun p e kvs es hk hr _ ih=>?_) r
 unfold a2E a8V
 by_cases hp:p.1=k
 ·rw [List.filter_cons_of_neg (by simpa using hp),List.filter_cons_of_neg (by simpa [← hk] using hp)]
  exact ih
 ·rw [List.filter_cons_of_pos (by simpa using hp),List.filter_cons_of_pos (by simpa [← hk] using hp)]
  exact k6.cons hk hr ih
theorem a6J {K:PySem.W.Frag}{G H:Hp}{v:V}{d:D}{k:Key}(h:D5 K G H v d)(e:keyOf d=some k):v=kV k:=by
 cases d <;> first | (cases e; done) | skip
 ·cases e; exact h.int
 ·cases e; exact h.str
theorem l7.atI {xs:List V}{ds:List D}(h:l7 K G xs ds){i:Int}{d:D}(e:L2.atI ds i=some d):∃ x,L2.atI xs i=some x∧Rep K G x d:=by
 unfold L2.atI at e ⊢
 rw [h.len]
 cases hj:ixN ds.length i with
 | none=>rw [hj] at e; cases e
 | some j=>
  rw [hj] at e
  exact h.at e
end
theorem a6g {X:Cx}(hu:X.A.units + 8 < cLine):Z4 X (compareOp .In) (fun x y H Q=>∃ a o,y=.ref a∧W5 H a x o∧Q (.bl o.isSome) H):=by
 intro pins s σ H x y v u Q I rx ry h
 obtain ⟨a,o,rfl,g,q⟩:=h
 cases ry
 exact b5w (by omega) I g rx fun s' I'=>⟨.bl _,H,I',rfl,q⟩
theorem a3r {X:Cx}(hu:X.A.units + 8 < cLine):Z4 X (compareOp .NotIn) (fun x y H Q=>∃ a o,y=.ref a∧W5 H a x o∧Q (.bl (!o.isSome)) H):=by
 intro pins s σ H x y v u Q I rx ry h
 obtain ⟨a,o,rfl,g,q⟩:=h
 cases ry
 exact b0C (by omega) I g rx fun s' I'=>⟨.bl _,H,I',rfl,q⟩
noncomputable def b5I (a b:List Nat):Bool:=!(Builtin.Str.occurrences (tx b) (tx a) 0 (tx b).length 1).isEmpty
noncomputable def b0x:D→D→Option Bool
 | d,.lst ds=>inL d ds
 | d,.tup ds=>inL d ds
 | .str a,.str b=>some (b5I a b)
 | d,.dct es=>(keyOf d).map fun k=>(P5 es k).isSome
 | _,_=>none
noncomputable def inD (d e:D):Option W:=(b0x d e).bind vB
noncomputable def a9g (d e:D):Option W:=(b0x d e).bind fun b=>vB (!b)
section
variable {X:Cx}{B:Bs}{e a b c:Expr}{ma mb mc:M W}{pos:Pos}
theorem b2u {G H:Hp}{σ:St}{ρ:i9}{x y:V}{dx dy:D}{b:Bool}(R:RS B G H σ ρ)(hx:D5 B.K G H x dx)(hy:D5 B.K G H y dy)(e:b0x dx dy=some b):
  (∃ d ds p xs,Rep B.K H x d∧y=.ref p∧(L4 B.K H p xs∨V8 B.K H p xs)∧l7 B.K H xs ds∧inL d ds=some b)∨(∃ i j,x=.str i∧y=.str j∧b=(!(Builtin.Str.occurrences j i 0 j.length 1).isEmpty))∨(∃ a o,y=.ref a∧W5 H a x o∧b=o.isSome):=by
 cases dy with
 | lst ds=>
  obtain ⟨p,xs,rfl,h1,r1⟩:=hy.lst R.gH
  exact .inl ⟨dx,ds,p,xs,hx.rep R.gH,rfl,.inl h1,r1.same R.gH,by cases dx <;> exact e⟩
 | tup ds=>
  obtain ⟨p,xs,rfl,h1,r1⟩:=hy.tup R.gH
  exact .inl ⟨dx,ds,p,xs,hx.rep R.gH,rfl,.inr h1,r1.same R.gH,by cases dx <;> exact e⟩
 | dct es=>
  obtain ⟨p,kvs,rfl,h1,r1⟩:=hy.dct R.gH
  have e':(keyOf dx).map (fun k=>(P5 es k).isSome)=some b:=by cases dx <;> exact e
  cases hk:keyOf dx with
  | none=>rw [hk] at e'; cases e'
  | some k=>
   rw [hk] at e'
   cases e'
   have hv:=a6J hx hk
   subst hv
   refine .inr (.inr ⟨p,W4 kvs k,rfl,W5.r h1,?_⟩)
   obtain ⟨c1,c2⟩:=r1.val k
   show (P5 es k).isSome=_
   cases hd:P5 es k with
   | none=>rw [c2 hd]; rfl
   | some d=>
    obtain ⟨v,q,_⟩:=c1 d hd
    rw [q]
    rfl
 | str cs=>
  cases dx <;> first | (cases e; done) | skip
  cases e
  exact .inr (.inl ⟨_,_,hx.str,hy.str,rfl⟩)
 | _=>cases dx <;> cases e
theorem b1m:V4 B (fun x y H Q=>(∃ d ds b p xs,Rep B.K H x d∧y=.ref p∧(L4 B.K H p xs∨V8 B.K H p xs)∧l7 B.K H xs ds∧inL d ds=some b∧Q (.bl b) H)∨(∃ i j,x=.str i∧y=.str j∧Q (.bl (!(Builtin.Str.occurrences j i 0 j.length 1).isEmpty)) H)∨(∃ a o,y=.ref a∧W5 H a x o∧Q (.bl o.isSome) H)) inD:=by
 intro G H σ ρ x y dx dy w Q R hx hy e p
 unfold inD at e
 cases hb:b0x dx dy with
 | none=>rw [hb] at e; cases e
 | some b=>
  rw [hb] at e
  cases e
  have fin:Q (.bl b) H:=p _ G H (d8.refl _) R (.bl _)
  rcases b2u R hx hy hb with ⟨d,ds,pp,xs,h1,h2,h3,h4,h5⟩ | ⟨i,j,h1,h2,h3⟩ | ⟨a,o,h1,h2,h3⟩
  ·exact .inl ⟨d,ds,b,pp,xs,h1,h2,h3,h4,h5,fin⟩
  ·exact .inr (.inl ⟨i,j,h1,h2,by rw [← h3]; exact fin⟩)
  ·exact .inr (.inr ⟨a,o,h1,h2,by rw [← h3]; exact fin⟩)
theorem b3X (hu:X.A.units + 8 < cLine)(ha:PD X B a ma)(hb:PD X B b mb)(hm:behindInMarks .In b=false:=by with_unfolding_all rfl)(hK:X.K=B.K:=by rfl):PD X B (.Compare a [.In] [b] pos) (f7 inD ma mb):=a9N (fun ξ=>(b3G (X:=rz X ξ) hK hu).or (a7I.or (a6g hu))) b1m ha hb hm
end
noncomputable def G7:D→Bool
 | .t6=>true
 | _=>false
section
variable {X:Cx}{B:Bs}{e a b c:Expr}{ma mb mc:M W}{pos:Pos}
theorem a6W {K:PySem.W.Frag}{G H:Hp}{v:V}{d:D}(h:D5 K G H v d):decide (v=.t6)=G7 d:=by
 cases d with
 | t6=>rw [h.t6]; rfl
 | _=>
  refine decide_eq_false ?_
  rintro rfl
  rcases h with h | ⟨p,e,_⟩
  ·cases h
  ·cases e
theorem a9T:b2j B (fun x H Q=>Q (.bl (decide (x=.t6))) H) (fun d=>vB (G7 d)):=by
 intro G H σ ρ x dx w Q R hx e p
 cases e
 rw [a6W hx]
 exact p _ G H (d8.refl _) R (.bl _)
theorem a7N:b2j B (fun x H Q=>Q (.bl (!decide (x=.t6))) H) (fun d=>vB (!G7 d)):=by
 intro G H σ ρ x dx w Q R hx e p
 cases e
 rw [a6W hx]
 exact p _ G H (d8.refl _) R (.bl _)
theorem a9U {j pos'}(ha:PD X B a ma):PD X B (.Compare a [.IsNot] [.Constant .none j pos'] pos) (mUn (fun d=>vB (!G7 d)) ma):=.mk fun ξ=>(b2B (b1n (ha.ap ξ))).imp fun _ _ _ t=>a9C a7N t
theorem b18 {j pos'}(ha:PD X B a ma):PDT X B (.Compare a [.Is] [.Constant .none j pos'] pos) (A8 (mUn (fun d=>vB (G7 d)) ma)):=.mk fun ξ=>(b3c (b2h (ha.ap ξ))).imp fun _ _ _ t=>a9C a9T (a92 t)
end
noncomputable def b0g:D→Option Bool
 | .t6=>some false
 | .bl b=>some b
 | .int i=>some (i != 0)
 | .str cs=>S4 (small cs.length) (some ((cs.length:Int) != 0))
 | .lst ds=>some (!ds.isEmpty)
 | .tup ds=>some (!ds.isEmpty)
 | _=>none
noncomputable def a0v (m:M W):M Bool:=M.bind m fun w=>fun ρ=>match getD w ρ with
 | some d=>(b0g d).map (R'.ok · ρ)
 | none=>none
noncomputable def a8R (a b:M Bool):M Bool:=M.bind a fun k=>if k=true then b else M.pure false
noncomputable def mOr (a b:M Bool):M Bool:=M.bind a fun k=>if k=true then M.pure true else b
noncomputable def b4k (a:M Bool):M Bool:=M.bind a fun k=>M.pure (!k)
noncomputable def mBl (w:W):M Bool:=fun ρ=>match getD w ρ with
 | some (.bl b)=>some (.ok b ρ)
 | _=>none
noncomputable def a1u (a b:M W):M W:=M.bind a fun w=>M.bind (mBl w) fun k=>if k=true then b else mC (.bl false)
noncomputable def a6t (a:M W):M W:=M.bind a fun w=>M.bind (mBl w) fun k=>mC (.bl (!k))
noncomputable def a26 (c:M Bool)(a b:M W):M W:=M.bind c fun k=>if k=true then a else b
noncomputable def a05 (f g:D→D→Option W)(a b c:M W):M W:=M.bind (E8 a) fun x=>M.bind (E8 b) fun y=>M.bind (op2 f x y) fun z=>M.bind (mBl z) fun k=>if k=true then M.bind c fun w=>op2 g y w else mC (.bl false)
theorem a1q {α β:Type}{xs:List α}{ys:List β}(h:xs.length=ys.length):xs.isEmpty=ys.isEmpty:=by
 cases xs <;> cases ys <;> simp_all
section
variable {X:Cx}{B:Bs}{e a b c:Expr}{ma mb mc:M W}{pos:Pos}{rest:List Expr}
theorem b1x {G H:Hp}{σ:St}{ρ:i9}{x:V}{d:D}{k:Bool}(R:RS B G H σ ρ)(h:D5 B.K G H x d)(e:b0g d=some k):b1a B.K x H k:=by
 cases d with
 | t6=>cases e; rw [h.t6]; rfl
 | bl b=>cases e; rw [h.bl]; rfl
 | int i=>cases e; rw [h.int]; rfl
 | str cs=>
  obtain ⟨z,e⟩:=j8 e
  cases e
  rw [h.str]
  exact ⟨by rw [E7]; exact A2 z,by rw [E7]⟩
 | lst ds=>
  cases e
  obtain ⟨p,xs,rfl,h1,r1⟩:=h.lst R.gH
  exact .inl ⟨xs,h1,by rw [a1q r1.len]⟩
 | tup ds=>
  cases e
  obtain ⟨p,xs,rfl,h1,r1⟩:=h.tup R.gH
  exact .inr (.inl ⟨xs,h1,by rw [a1q r1.len]⟩)
 | dct es=>cases e
 | ty n=>cases e
theorem a1C (ha:PD X B a ma)(he:∀ whole,isTrue a X.env whole=(do let v ← whole; standAt a.pos; holding [v] (truthy v)):=by exact fun _=>rfl)(hK:X.K=B.K:=by rfl):PDT X B a (a0v ma):=.mk fun ξ=>
 (a94 (X:=rz X ξ) (ha.ap ξ) he).imp fun σ H Q t=>by
  obtain ⟨G,ρ,R,t⟩:=t
  refine (TD.bind (rel:=v8) R t).mono fun x H1 ⟨G1,ρ1,w,s1,R1,q1,r,e,p⟩=>?_
  cases hd:getD w ρ1 with
  | none=>simp only [hd] at e; cases e
  | some d=>
   simp only [hd] at e
   cases hk:b0g d with
   | none=>rw [hk] at e; cases e
   | some k=>
    rw [hk] at e
    cases e
    refine ⟨k,?_,p k G1 H1 (d8.refl _) R1 rfl⟩
    show b1a X.K x H1 k
    rw [hK]
    exact b1x R1 (q1.get R1 hd) hk
theorem b2w {ξ:XP}{m1 m2:M Bool}{σ:St}{H:Hp}{Q:Bool→Hp→Prop}(t:TD Y8 B ξ (a8R m1 m2) σ H Q):b40 (TD Y8 B ξ m1) (TD Y8 B ξ m2) σ H Q:=by
 obtain ⟨G,ρ,R,t⟩:=t
 refine (TD.bind (rel:=Y8) R t).mono fun k H1 ⟨G1,ρ1,k',s1,R1,q1,t2⟩=>?_
 cases (show k=k' from q1)
 cases k with
 | true=>exact ⟨G1,ρ1,R1,t2⟩
 | false=>
  obtain ⟨r,e,p⟩:=t2
  cases e
  exact p false G1 H1 (d8.refl _) R1 rfl
theorem b4T {ξ:XP}{m1 m2:M Bool}{σ:St}{H:Hp}{Q:Bool→Hp→Prop}(t:TD Y8 B ξ (mOr m1 m2) σ H Q):tOr (TD Y8 B ξ m1) (TD Y8 B ξ m2) σ H Q:=by
 obtain ⟨G,ρ,R,t⟩:=t
 refine (TD.bind (rel:=Y8) R t).mono fun k H1 ⟨G1,ρ1,k',s1,R1,q1,t2⟩=>?_
 cases (show k=k' from q1)
 cases k with
 | false=>exact ⟨G1,ρ1,R1,t2⟩
 | true=>
  obtain ⟨r,e,p⟩:=t2
  cases e
  exact p true G1 H1 (d8.refl _) R1 rfl
theorem b22 {m1:M Bool}(ha:PDT X B a m1):PDW X B (.BoolOp .And [a] pos) m1:=.mk fun ξ=>a6M (ha.ap ξ)
theorem a66 {m1:M Bool}(ha:PDT X B a m1):PDW X B (.BoolOp .Or [a] pos) m1:=.mk fun ξ=>b2l (ha.ap ξ)
theorem w_and {m1 m2:M Bool}(ha:PDT X B a m1)(hb:PDW X B (.BoolOp .And (b::rest) pos) m2):PDW X B (.BoolOp .And (a::b::rest) pos) (a8R m1 m2):=.mk fun ξ=>(a9X (ha.ap ξ) (hb.ap ξ)).imp fun _ _ _ t=>b2w t
theorem w_or {m1 m2:M Bool}(ha:PDT X B a m1)(hb:PDW X B (.BoolOp .Or (b::rest) pos) m2):PDW X B (.BoolOp .Or (a::b::rest) pos) (mOr m1 m2):=.mk fun ξ=>(b31 (ha.ap ξ) (hb.ap ξ)).imp fun _ _ _ t=>b4T t
theorem a38 {ξ:XP}{α β:Type}{rel':Rel α β}{w:W}{f:Bool→M α}{G H:Hp}{ρ:i9}{σ:St}{Q:β→Hp→Prop}{x:V}(R:RS B G H σ ρ)(q:C8 B G H σ ρ x w)(t:T4 rel' B ξ G ρ (M.bind (mBl w) f) σ Q):∃ k,x=.bl k∧T4 rel' B ξ G ρ (f k) σ Q:=by
 obtain ⟨k,ρ',e,t⟩:=t.step fun r h=>by
  unfold mBl at h
  split at h
  ·cases h; exact ⟨_,_,rfl⟩
  ·cases h
 unfold mBl at e
 split at e
 ·rename_i b hd
  cases e
  exact ⟨k,(q.get R hd).bl,t⟩
 ·cases e
theorem b08 {ξ:XP}{σ:St}{H:Hp}{Q:VK}(t:TD v8 B ξ (a1u ma mb) σ H Q):b1V (TD v8 B ξ ma) (TD v8 B ξ mb) σ H Q:=by
 obtain ⟨G,ρ,R,t⟩:=t
 refine (TD.bind (rel:=v8) R t).mono fun x H1 ⟨G1,ρ1,w,s1,R1,q1,t2⟩=>?_
 obtain ⟨k,rfl,t3⟩:=a38 R1 q1 t2
 refine ⟨k,rfl,?_⟩
 cases k with
 | true=>exact ⟨G1,ρ1,R1,t3⟩
 | false=>
  obtain ⟨r,e,p⟩:=t3
  cases e
  exact p _ G1 H1 (d8.refl _) R1 (.bl _)
theorem a6Q {op}(ha:PD X B a ma):PD X B (.BoolOp op [a] pos) ma:=.mk fun ξ=>b2G (ha.ap ξ)
theorem a65 (ha:PD X B a ma)(hb:PD X B (.BoolOp .And (b::rest) pos) mb):PD X B (.BoolOp .And (a::b::rest) pos) (a1u ma mb):=.mk fun ξ=>(b3q (ha.ap ξ) (hb.ap ξ)).imp fun _ _ _ t=>b08 t
theorem b4x (ha:PD X B a ma):PD X B (.UnaryOp .Not a pos) (a6t ma):=.mk fun ξ=>(b3O (ha.ap ξ)).imp fun σ H Q t=>by
 obtain ⟨G,ρ,R,t⟩:=t
 refine (TD.bind (rel:=v8) R t).mono fun x H1 ⟨G1,ρ1,w,s1,R1,q1,t2⟩=>?_
 obtain ⟨k,rfl,r,e,p⟩:=a38 R1 q1 t2
 cases e
 exact ⟨k,rfl,p _ G1 H1 (d8.refl _) R1 (.bl _)⟩
theorem a8Y {m1:M Bool}(hc:PDT X B c m1)(ha:PD X B a ma)(hb:PD X B b mb):PD X B (.IfExp c a b pos) (a26 m1 ma mb):=.mk fun ξ=>(a4M (hc.ap ξ) (ha.ap ξ) (hb.ap ξ)).imp fun σ H Q t=>by
 obtain ⟨G,ρ,R,t⟩:=t
 refine (TD.bind (rel:=Y8) R t).mono fun k H1 ⟨G1,ρ1,k',s1,R1,q1,t2⟩=>?_
 cases (show k=k' from q1)
 cases k with
 | true=>exact ⟨G1,ρ1,R1,t2⟩
 | false=>exact ⟨G1,ρ1,R1,t2⟩
theorem a9R {ξ:XP}{r r':R2}{f g:D→D→Option W}(hi:V4 B r f)(hi':V4 B r' g){σ:St}{H:Hp}{Q:VK}(t:TD v8 B ξ (a05 f g ma mb mc) σ H Q):a8v r r' (TD v8 B ξ ma) (TD v8 B ξ mb) (TD v8 B ξ mc) σ H Q:=by
 obtain ⟨G,ρ,R,t⟩:=t
 have t1:TD a06 B ξ (E8 ma) σ H _:=TD.bind (rel:=a06) R t
 refine TD.E8 (t1.mono fun x H1 ⟨G1,ρ1,wa,s1,R1,⟨q1,st1⟩,t2⟩=>?_)
 have t2':TD a06 B ξ (E8 mb) σ H1 _:=TD.bind (rel:=a06) R1 t2
 refine TD.E8 (t2'.mono fun y H2 ⟨G2,ρ2,wb,s2,R2,⟨q2,st2⟩,t3⟩=>?_)
 
 obtain ⟨r1,e1,p1⟩:=t3
 cases h2:op2 f wa wb ρ2 with
 | none=>rw [M.bind_none h2] at e1; cases e1
 | some r2=>
  have h2':=h2
  unfold op2 at h2'
  cases hx:getD wa ρ2 with
  | none=>rw [hx] at h2'; cases h2'
  | some dx=>
   cases hy:getD wb ρ2 with
   | none=>rw [hx,hy] at h2'; cases h2'
   | some dy=>
    rw [hx,hy] at h2'
    simp only [] at h2'
    cases hf:f dx dy with
    | none=>rw [hf] at h2'; cases h2'
    | some w=>
     rw [hf] at h2'
     cases h2'
     rw [M.f9 h2] at e1
     refine hi R2 ((q1.keep s2 st1:C8 B G2 H2 σ ρ2 x wa).get R2 hx) (q2.get R2 hy) hf fun z G3 H3 s3 R3 q3=>?_
     obtain ⟨k,rfl,t4⟩:=a38 (rel':=v8) (Q:=Q) R3 q3 ⟨r1,e1,p1.same s3⟩
     refine ⟨k,rfl,?_⟩
     cases k with
     | false=>
      obtain ⟨r5,e5,p5⟩:=t4
      cases e5
      exact p5 _ G3 H3 (d8.refl _) R3 (.bl _)
     | true=>
      refine (TD.bind (rel:=v8) R3 t4).mono fun w' H4 ⟨G4,ρ4,wc,s4,R4,q4,t5⟩=>?_
      obtain ⟨dx',dy',w5,a1,a2,a3,p⟩:=a6E t5
      exact hi' R4 ((q2.keep (s3.trans s4) st2:C8 B G4 H4 σ ρ4 y wb).get R4 a1) (q4.get R4 a2) a3 p
theorem a6C {op op':CmpOp}{r r':R2}{f g:D→D→Option W}(ho:∀ ξ,Z4 (rz X ξ) (compareOp op) r)(ho':∀ ξ,Z4 (rz X ξ) (compareOp op') r')(hi:V4 B r f)(hi':V4 B r' g)(ha:PD X B a ma)(hb:PD X B b mb)(hc:PD X B c mc)
  (hm:lastMarks [op,op'] [b,c]=false:=by with_unfolding_all rfl):PD X B (.Compare a [op,op'] [b,c] pos) (a05 f g ma mb mc):=.mk fun ξ=>(a8Z (ho ξ) (ho' ξ) (ha.ap ξ) (hb.ap ξ) (hc.ap ξ) hm).imp fun _ _ _ t=>a9R hi hi' t
end
end L3
set_option Elab.async false
set_option linter.all false
set_option maxRecDepth 100000
set_option maxHeartbeats 4000000
namespace L3
open PySem PySem.Spec PyProof.Rows L2
theorem b1l {X:Cx}(hu:X.A.units + 8 < cLine):IxR X (fun x y H Q=>∃ a v,x=.ref a∧W5 H a y (some v)∧Q v H):=by
 intro value slice pins s σ H x y v u Q I rx ry h hs
 obtain ⟨a,z,rfl,g,q⟩:=h
 cases rx
 exact tail_any (a49 I g) PySem.F.slot_dict_getitem.lookup (a7W (by omega) I g ry fun w' s' I' r'=>⟨z,H,I',r',q⟩) hs
noncomputable def M1:D→D→Option W
 | .lst ds,.int i=>(atI ds i).map W.val
 | .tup ds,.int i=>(atI ds i).map W.val
 | .str cs,.int i=>S4 (small cs.length) ((atI cs i).map fun c=>W.val (.str [c]))
 | .dct es,k=>(keyOf k).bind fun k=>(P5 es k).map W.val
 | _,_=>none
section
variable {X:Cx}{B:Bs}{e a b c:Expr}{ma mb mc:M W}{pos:Pos}
theorem b09:V4 B (fun x y H Q=>b3m B.K x y H Q∨b27 B.K x y H Q∨b4X x y H Q∨∃ a v,x=.ref a∧W5 H a y (some v)∧Q v H) M1:=by
 intro G H σ ρ x y dx dy w Q R hx hy e p
 cases dx with
 | lst ds=>
  cases dy <;> first | (cases e; done) | skip
  obtain ⟨d,e1,rfl⟩:=Option.map_eq_some_iff.mp e
  obtain ⟨q,xs,rfl,h1,r1⟩:=hx.lst R.gH
  obtain ⟨v,e2,r2⟩:=r1.atI e1
  exact .inl ⟨q,xs,_,v,rfl,hy.int,h1,e2,p v G H (d8.refl _) R r2⟩
 | tup ds=>
  cases dy <;> first | (cases e; done) | skip
  obtain ⟨d,e1,rfl⟩:=Option.map_eq_some_iff.mp e
  obtain ⟨q,xs,rfl,h1,r1⟩:=hx.tup R.gH
  obtain ⟨v,e2,r2⟩:=r1.atI e1
  exact .inr (.inl ⟨q,xs,_,v,rfl,hy.int,h1,e2,p v G H (d8.refl _) R r2⟩)
 | str cs=>
  cases dy <;> first | (cases e; done) | skip
  obtain ⟨z,e⟩:=j8 e
  obtain ⟨c,e1,rfl⟩:=Option.map_eq_some_iff.mp e
  refine .inr (.inr (.inl ⟨tx cs,_,c,hx.str,hy.int,by rw [E7]; exact A2 z,by simpa using e1,p _ G H (d8.refl _) R (.str [c])⟩))
 | dct es=>
  have e':(keyOf dy).bind (fun k=>(P5 es k).map W.val)=some w:=by cases dy <;> exact e
  cases hk:keyOf dy with
  | none=>rw [hk] at e'; cases e'
  | some k=>
   rw [hk] at e'
   obtain ⟨d,e1,rfl⟩:=Option.map_eq_some_iff.mp e'
   obtain ⟨q,kvs,rfl,h1,r1⟩:=hx.dct R.gH
   have hv:=a6J hy hk
   subst hv
   obtain ⟨v,e2,r2⟩:=(r1.val k).1 d e1
   refine .inr (.inr (.inr ⟨q,v,rfl,?_,p v G H (d8.refl _) R r2⟩))
   rw [← e2]
   exact W5.r h1
 | _=>cases dy <;> cases e
theorem W2 (hu:X.A.units + 8 < cLine)(ha:PD X B a ma)(hb:PD X B b mb)(hs:a6N b:=by exact fun _ _=>rfl)(hK:X.K=B.K:=by rfl):PD X B (.Subscript a b pos) (f7 M1 ma mb):=.mk fun ξ=>
 (b39 (X:=rz X ξ) ((a96 (X:=rz X ξ) (K:=B.K) hK).or ((b1c (X:=rz X ξ) (K:=B.K) hK).or (a6o.or (b1l hu)))) (ha.ap ξ) (hb.ap ξ) hs).imp fun _ _ _ t=>a4A b09 t
end
noncomputable def b2M:Rel (Option Int) (Option Int):=fun _ _ _ _ _ v b=>v=b
structure PDO (X:Cx) (B:Bs) (e:Option Expr) (m:M (Option Int)):Prop where
 ap:∀ ξ,PO (rz X ξ) e (TD b2M B ξ m)
noncomputable def P8 (m:M W):M (Option Int):=M.bind m fun w=>fun ρ=>match getD w ρ with
 | some (.int i)=>some (.ok (some i) ρ)
 | _=>none
noncomputable def cutD (ds:List D)(lo hi:Option Int):List D:=(ds.drop (HT.v5 ds.length 0 lo)).take (HT.v5 ds.length ds.length hi - HT.v5 ds.length 0 lo)
noncomputable def slD:D→Option Int→Option Int→Option W
 | .lst ds,lo,hi=>some (.own (.lst (cutD ds lo hi)))
 | .str cs,lo,hi=>S4 (small cs.length) (some (.val (.str (a0U cs lo hi))))
 | .tup ds,lo,hi=>some (.val (.tup (cutD ds lo hi)))
 | _,_,_=>none
noncomputable def mSl (ma:M W)(ml mh:M (Option Int)):M W:=M.bind (E8 ma) fun x=>M.bind ml fun lo=>M.bind mh fun hi=>op1 (fun d=>slD d lo hi) x
theorem a7i {P:Program}{w:World}{A:Around}{E:Value→Shared→Prop}{s:Shared}{t c:Addr}{its:Array Value}{v1 v2:Value}{lo hi:Option Int}{Q:Value→Shared→Prop}(it:IsTup s.heap t its)(is:s.heap.IsSliceOf c v1 v2 .none)(q1:IsPart v1 lo)(q2:IsPart v2 hi)
  (e1:HT.v5 its.size 0 lo=0) (e2:HT.v5 its.size its.size hi=its.size) (q:Q (.ref t) s):wpAny (model P w) A (getItem (.ref t) (.ref c)) Q E s:=by
 have hT:s.TypeIs (.ref c) "slice":=by obtain ⟨o,a1,a2,_⟩:=id is; exact ⟨o,a1,a2⟩
 unfold getItem
 (try with_reducible refine wpAny_holding ?_)
 (first | refine wpAny_bind (wpAny_pure ?_) | skip)
 refine wpAny_bind (wpAny_sequenceKey (T:="tuple") it.typeIs (by decide) ?_)
 refine wpAny_bind (wpAny_callSpecial?_slot (T:="tuple") (name:=Str.ofString "__getitem__") it.typeIs PyProof.Rows.slot_tuple_getitem (wpAny_call_entry (T:="tuple") PyProof.Rows.slot_tuple_getitem it.typeIs PyProof.Rows.entry_tuple_getitem ?_ (PyProof.Rows.args_tuple_getitem _ _)))
 show wpAny (model P w) _ (Builtin.Tuple.tupleItemsOf (.ref t) >>= _) _ _ s
 refine wpAny_bind (PyProof.Rows.tupleItemsOf_ it (wpAny_bind (wpAny_typeOf hT ?_)))
 rw [if_pos (by decide)]
 refine wpAny_bind (HT.S9 is q1 q2 ?_)
 rw [e1,e2]
 have yes:((((0:Nat):Int) == 0 && (1:Int) == 1 && (its.size - 0) == its.size)=true):=by simp
 show wpAny (model P w) _ (if (((0:Nat):Int) == 0 && (1:Int) == 1 && (its.size - 0) == its.size)=true then _ else _) _ _ s
 rw [if_pos yes]
 obtain ⟨o,a1,a2,_⟩:=id it
 have hX:s.TypeIs (.ref t) "tuple":=⟨o,a1,a2⟩
 obtain ⟨hp,g,d,tk,os⟩:=s
 unfold Builtin.Tuple.tupleIsExact
 repeat (any_goals (first | assumption | wp_step))
 exact ⟨_,rfl,wpAny_pure q⟩
theorem a9W {X:Cx}{K:PySem.W.Frag}(hK:X.K=K):SlR X (b4Z K):=by subst hK; exact b05
theorem a8S {X:Cx}{K:PySem.W.Frag}(hK:X.K=K):SlR X (fun x lo hi H Q=>∃ a xs,x=.ref a∧V8 K H a xs∧HT.v5 xs.length 0 lo=0∧HT.v5 xs.length xs.length hi=xs.length∧Q (.ref a) H):=by
 subst hK
 intro pins s σ H x v vl vu lo hi sl Q I rx hs pl pu h
 obtain ⟨a,xs,rfl,hx,e1,e2,q⟩:=h
 cases rx
 obtain ⟨its,r,ht,hz⟩:=I.tuple hx
 have hlen:its.toArray.size=xs.length:=by rw [List.size_toArray,r.length]
 exact ⟨"tuple",_,PyProof.Rows.slot_tuple_getitem.lookup,ht.typeIs,a7i ht hs pl pu (by rw [hlen]; exact e1) (by rw [hlen]; exact e2) ⟨.ref a,H,I,rfl,q⟩⟩
theorem b1u {X:Cx}{K:PySem.W.Frag}(hK:X.K=K):SlR X (b4s K):=by subst hK; exact b3d
section
variable {X:Cx}{B:Bs}{e a b c:Expr}{ma mb mc:M W}{pos p2:Pos}{lo hi:Option Expr}
theorem a2U:PDO X B none (M.pure none):=.mk fun ξ pins s σ H Q I h=>b0K pins s σ H Q I (by
 obtain ⟨G,ρ,R,r,e,p⟩:=h
 cases e
 exact p none G H (d8.refl _) R rfl)
theorem a0p (h:PD X B e ma):PDO X B (some e) (P8 ma):=.mk fun ξ pins s σ H Q I t=>b0p (h.ap ξ) pins s σ H Q I (by
 obtain ⟨G,ρ,R,t⟩:=t
 refine (TD.bind (rel:=v8) R t).mono fun x H1 ⟨G1,ρ1,w,s1,R1,q1,r,e,p⟩=>?_
 dsimp only at e
 split at e
 ·rename_i i hd
  cases e
  exact ⟨i,(q1.get R1 hd).int,p (some i) G1 H1 (d8.refl _) R1 rfl⟩
 ·cases e)
theorem a8h {ml mh:M (Option Int)}(ha:PD X B a ma)(hl:PDO X B lo ml)(hh:PDO X B hi mh)(hK:X.K=B.K:=by rfl):PD X B (.Subscript a (.Slice lo hi none p2) pos) (mSl ma ml mh):=.mk fun ξ=>
 (a9f (X:=rz X ξ) ((a9W (X:=rz X ξ) (K:=B.K) hK).or (b3J.or ((b1u (X:=rz X ξ) (K:=B.K) hK).or (a8S (X:=rz X ξ) (K:=B.K) hK)))) (ha.ap ξ) (hl.ap ξ) (hh.ap ξ)).imp fun σ H Q t=>by
  obtain ⟨G,ρ,R,t⟩:=t
  have t1:TD a06 B ξ (E8 ma) σ H _:=TD.bind (rel:=a06) R t
  refine TD.E8 (t1.mono fun x H1 ⟨G1,ρ1,wa,s1,R1,⟨q1,st1⟩,t2⟩=>?_)
  refine (TD.bind (rel:=b2M) R1 t2).mono fun l H2 ⟨G2,ρ2,l',s2,R2,q2,t3⟩=>?_
  cases (show l=l' from q2)
  refine (TD.bind (rel:=b2M) R2 t3).mono fun u H3 ⟨G3,ρ3,u',s3,R3,q3,t4⟩=>?_
  cases (show u=u' from q3)
  obtain ⟨dx,w,e1,e2,p⟩:=a6U t4
  have hx:=(q1.keep (s2.trans s3) st1:C8 B G3 H3 σ ρ3 x wa).get R3 e1
  cases dx with
  | lst ds=>
   cases e2
   obtain ⟨q,xs,rfl,h1,r1⟩:=hx.lst R3.gH
   refine .inl ⟨q,xs,rfl,h1,fun pp hp=>?_⟩
   have r2:l7 B.K G3 (a2Z xs l u) (cutD ds l u):=by
    unfold a2Z cutD
    rw [r1.len]
    exact (r1.drop _).take _
   obtain ⟨R',w'⟩:=R3.a4w hp r2
   exact p _ G3 _ (d8.refl _) R' w'
  | str cs=>
   obtain ⟨z,e2⟩:=j8 e2
   cases e2
   exact .inr (.inl ⟨cs,hx.str,z,p _ G3 H3 (d8.refl _) R3 (.str _)⟩)
  | tup ds=>
   cases e2
   have hrep:Rep B.K G3 x (.tup ds):=by
    rcases hx with h | ⟨_,_,hf⟩
    ·exact h
    ·exact (show False from hf).elim
   obtain ⟨q,xs,rfl,h1,r1⟩:=hx.tup R3.gH
   by_cases hw:HT.v5 xs.length 0 l=0∧HT.v5 xs.length xs.length u=xs.length
   ·have ec:cutD ds l u=ds:=by
     unfold cutD
     rw [← r1.len,hw.1,hw.2,List.drop_zero,List.take_of_length_le (by rw [r1.len]; omega)]
    rw [ec] at p
    exact .inr (.inr (.inr ⟨q,xs,rfl,h1,hw.1,hw.2,p _ G3 H3 (d8.refl _) R3 hrep⟩))
   ·refine .inr (.inr (.inl ⟨q,xs,rfl,h1,hw,fun pp hp=>?_⟩))
    have r2:l7 B.K G3 (a2Z xs l u) (cutD ds l u):=by
     unfold a2Z cutD
     rw [r1.len]
     exact (r1.drop _).take _
    obtain ⟨G',s',R',w'⟩:=R3.a5T hp r2
    exact p _ G' _ s' R' w'
  | _=>cases e2
end
noncomputable def g8:M (List W):=M.pure []
noncomputable def c6 (m:M W)(r:M (List W)):M (List W):=M.bind (E8 m) fun x=>M.bind r fun xs=>M.pure (x::xs)
section
variable {X:Cx}{B:Bs}{e a b c:Expr}{es:List Expr}{ma mb mc:M W}{mr:M (List W)}{pos p2:Pos}
theorem g9:PDA X B [] g8:=.mk fun ξ=>(a3Y (X:=rz X ξ)).imp fun σ H Q t=>by
 obtain ⟨G,ρ,R,r,e,p⟩:=t
 cases e
 exact p [] G H (d8.refl _) R .nil
theorem a2r {G G' H H':Hp}{σ:St}{ρ ρ':i9}(s:d8 G G'):∀ {vs:List V} {ws:List W},F1 B G H σ ρ vs ws→F1 B G' H' σ ρ' vs ws
 | _,_,.nil=>.nil
 | _,_,.cons ⟨h,st⟩ t=>.cons ⟨h.keep s st,st⟩ (a2r s t)
theorem c7 (ha:PD X B e ma)(hr:PDA X B es mr)(hs:starEach (e::es) X.env=(false,eval e X.env)::starEach es X.env:=by rfl):PDA X B (e::es) (c6 ma mr):=.mk fun ξ=>
 (U1 (X:=rz X ξ) (ha.ap ξ) (hr.ap ξ) hs).imp fun σ H Q t=>by
  obtain ⟨G,ρ,R,t⟩:=t
  have t1:TD a06 B ξ (E8 ma) σ H _:=TD.bind (rel:=a06) R t
  refine TD.E8 (t1.mono fun x H1 ⟨G1,ρ1,wa,s1,R1,⟨q1,st1⟩,t2⟩=>?_)
  refine (TD.bind (rel:=F1) R1 t2).mono fun xs H2 ⟨G2,ρ2,ws,s2,R2,q2,r,er,p⟩=>?_
  cases er
  exact p (x::xs) G2 H2 (d8.refl _) R2 (.cons ⟨q1.keep s2 st1,st1⟩ q2)
end
noncomputable def X4:List W→M (List D)
 | []=>M.pure []
 | w::ws=>M.bind (D7 w) fun d=>M.bind (X4 ws) fun ds=>M.pure (d::ds)
noncomputable def a2R (m:M (List W)):M W:=M.bind m fun ws=>M.bind (X4 ws) fun ds ρ=>S4 (small ds.length) (some (.ok (.val (.tup ds)) ρ))
noncomputable def N3 (m:M (List W)):M W:=M.bind m fun ws=>M.bind (X4 ws) fun ds ρ=>S4 (small ds.length) (some (.ok (.own (.lst ds)) ρ))
section
variable {X:Cx}{B:Bs}{e a b c:Expr}{es:List Expr}{ma mb mc:M W}{mr:M (List W)}{pos p2:Pos}
theorem a0T:∀ {ws:List W} {ρ:i9} {r:R' (List D)},X4 ws ρ=some r→∃ ds ρ',r=.ok ds ρ'
 | [],_,_,h=>by cases h; exact ⟨_,_,rfl⟩
 | w::ws,ρ,r,h=>by
  unfold X4 at h
  cases h1:D7 w ρ with
  | none=>rw [M.bind_none h1] at h; cases h
  | some r1=>
   obtain ⟨d,ρ1,rfl⟩:=a1O h1
   rw [M.f9 h1] at h
   cases h2:X4 ws ρ1 with
   | none=>rw [M.bind_none h2] at h; cases h
   | some r2=>
    obtain ⟨ds,ρ2,rfl⟩:=a0T h2
    rw [M.f9 h2] at h
    cases h
    exact ⟨_,_,rfl⟩
theorem a1o:∀ {ws:List W} {vs:List V} {G H:Hp} {σ:St} {ρ ρ':i9} {ds:List D},RS B G H σ ρ→F1 B G H σ ρ vs ws→X4 ws ρ=some (.ok ds ρ')→∃ G',d8 G G'∧RS B G' H σ ρ'∧l7 B.K G' vs ds
 | [],_,G,H,σ,ρ,ρ',ds,R,q,e=>by
  cases q
  cases e
  exact ⟨G,d8.refl _,R,.nil⟩
 | w::ws,_,G,H,σ,ρ,ρ',ds,R,q,e=>by
  cases q with
  | @cons v _ vs _ h1 t=>
   unfold X4 at e
   cases hl:D7 w ρ with
   | none=>rw [M.bind_none hl] at e; cases e
   | some r1=>
    obtain ⟨d,ρ1,rfl⟩:=a1O hl
    rw [M.f9 hl] at e
    cases hl2:X4 ws ρ1 with
    | none=>rw [M.bind_none hl2] at e; cases e
    | some r2=>
     obtain ⟨ds2,ρ2,rfl⟩:=a0T hl2
     rw [M.f9 hl2] at e
     cases e
     obtain ⟨G1,s1,R1,rp⟩:=h1.1.D7 R hl
     obtain ⟨G2,s2,R2,rl⟩:=a1o (ρ:=ρ1) R1 (a2r s1 t) hl2
     exact ⟨G2,s1.trans s2,R2,.cons (rp.same s2) rl⟩
theorem a1w {x1}(h:PDA X B es mr):PD X B (.Tuple es x1 pos) (a2R mr):=.mk fun ξ=>(b3o (h.ap ξ)).imp fun σ H Q t=>by
 obtain ⟨G,ρ,R,t⟩:=t
 refine (TD.bind (rel:=F1) R t).mono fun vs H1 ⟨G1,ρ1,ws,s1,R1,q1,t2⟩=>?_
 obtain ⟨ds,ρ2,e2,r,er,p⟩:=t2.step fun r h=>a0T h
 obtain ⟨hz,er⟩:=j8 er
 cases er
 obtain ⟨G2,s2,R2,rl⟩:=a1o R1 q1 e2
 refine ⟨by rw [rl.len]; exact A2 hz,fun pp hp=>?_⟩
 obtain ⟨G3,s3,R3,r3⟩:=R2.a5T hp rl
 exact p _ G3 _ (s2.trans s3) R3 r3
theorem O0 (h:PDA X B es mr):PD X B (.List es pos) (N3 mr):=.mk fun ξ=>(b3h (h.ap ξ)).imp fun σ H Q t=>by
 obtain ⟨G,ρ,R,t⟩:=t
 refine (TD.bind (rel:=F1) R t).mono fun vs H1 ⟨G1,ρ1,ws,s1,R1,q1,t2⟩=>?_
 obtain ⟨ds,ρ2,e2,r,er,p⟩:=t2.step fun r h=>a0T h
 obtain ⟨hz,er⟩:=j8 er
 cases er
 obtain ⟨G2,s2,R2,rl⟩:=a1o R1 q1 e2
 refine ⟨by rw [rl.len]; exact A2 hz,fun pp hp=>?_⟩
 obtain ⟨R3,r3⟩:=R2.a4w hp rl
 exact p _ G2 _ s2 R3 r3
noncomputable def b4t:M W:=M.pure (.own (.dct []))
end
noncomputable def F7:List W→i9→Option (List D)
 | [],_=>some []
 | w::ws,ρ=>match getD w ρ,F7 ws ρ with
  | some d,some ds=>some (d::ds)
  | _,_=>none
noncomputable def opN (f:List D→Option W)(ws:List W):M W:=fun ρ=>match F7 ws ρ with
 | some ds=>(f ds).map (R'.ok · ρ)
 | none=>none
noncomputable def L6 (f:List D→Option W)(m:M (List W)):M W:=M.bind m fun ws=>opN f ws
noncomputable abbrev a3k (K:PySem.W.Frag)(G H:Hp):List V→List D→Prop:=Paired fun v d=>D5 K G H v d
noncomputable def a3h (B:Bs)(r:List V→Hp→VK→Prop)(f:List D→Option W):Prop:=∀ {G H:Hp} {σ:St} {ρ:i9} {xs:List V} {ds:List D} {w:W} {Q:VK},RS B G H σ ρ→a3k B.K G H xs ds→f ds=some w→
 (∀ v G' H',d8 G G'→RS B G' H' σ ρ→C8 B G' H' σ ρ v w→Q v H')→r xs H Q
theorem b1G {B:Bs}{ξ:XP}{f:List D→Option W}{ws:List W}{G:Hp}{ρ:i9}{σ:St}{Q:VK}(t:T4 v8 B ξ G ρ (opN f ws) σ Q):∃ ds w,F7 ws ρ=some ds∧f ds=some w∧∀ v G' H',d8 G G'→RS B G' H' σ ρ→C8 B G' H' σ ρ v w→Q v H':=by
 obtain ⟨r,e,p⟩:=t
 unfold opN at e
 cases hx:F7 ws ρ with
 | none=>rw [hx] at e; cases e
 | some dx=>
  rw [hx] at e
  simp only [] at e
  cases hf:f dx with
  | none=>rw [hf] at e; cases e
  | some w=>
   rw [hf] at e
   cases e
   exact ⟨dx,w,rfl,hf,p⟩
theorem S5 {B:Bs}{G H:Hp}{σ:St}{ρ:i9}(R:RS B G H σ ρ):∀ {ws:List W} {vs:List V} {ds:List D},F1 B G H σ ρ vs ws→F7 ws ρ=some ds→a3k B.K G H vs ds
 | [],_,ds,q,e=>by cases q; cases e; exact .nil
 | w::ws,_,ds,q,e=>by
  cases q with
  | cons h t=>
   unfold F7 at e
   cases h1:getD w ρ with
   | none=>rw [h1] at e; cases e
   | some d=>
    cases h2:F7 ws ρ with
    | none=>rw [h1,h2] at e; cases e
    | some ds2=>
     rw [h1,h2] at e
     cases e
     exact .cons (h.1.get R h1) (S5 R t h2)
section
variable {X:Cx}{B:Bs}{e a b c:Expr}{es:List Expr}{ma mb mc:M W}{mr:M (List W)}{pos p:Pos}{x:Str}{id T:String}
theorem b2b {ξ:XP}{r:List V→Hp→VK→Prop}{f:List D→Option W}(hi:a3h B r f){σ:St}{H:Hp}{Q:VK}(t:TD v8 B ξ (L6 f mr) σ H Q):tCB r (TD F1 B ξ mr) σ H Q:=by
 obtain ⟨G,ρ,R,t⟩:=t
 refine (TD.bind (rel:=F1) R t).mono fun vs H1 ⟨G1,ρ1,ws,s1,R1,q1,t2⟩=>?_
 obtain ⟨ds,w,e1,e2,p⟩:=b1G t2
 exact hi R1 (S5 R1 q1 e1) e2 p
theorem a1P {r:List V→Hp→VK→Prop}{f:List D→Option W}(hc:∀ ξ,D4 (rz X ξ) (.builtin id) r)(hi:a3h B r f)(hg:Gl X x)(hm:X.mg x=none)(hv:bootBuiltins x=some (.builtin id))(ha:PDA X B (e::es) mr)(hn:x≠"__name__":=by decide) (hdb:(x == ("__debug__":Str))=false:=by decide)
  (he:starEach (e::es) X.env=(false,eval e X.env)::starEach es X.env:=by rfl) (hpl:(backTo pos (starEach es X.env)).any (·.1)=false:=by rfl):PD X B (.Call (.Name x p) (e::es) [] pos) (L6 f mr):=.mk fun ξ=>
 (a2m (X:=rz X ξ) (hc ξ) hg hm hv (ha.ap ξ) hn hdb he hpl).imp fun _ _ _ t=>b2b hi t
theorem a2V {r:List V→Hp→VK→Prop}{f:List D→Option W}(hc:∀ ξ,D4 (rz X ξ) (.type T) r)(hi:a3h B r f)(hg:Gl X x)(hm:X.mg x=none)(hv:bootBuiltins x=some (.type T))(ha:PDA X B (e::es) mr)(hn:x≠"__name__":=by decide) (hdb:(x == ("__debug__":Str))=false:=by decide)
  (he:starEach (e::es) X.env=(false,eval e X.env)::starEach es X.env:=by rfl) (hpl:(backTo pos (starEach es X.env)).any (·.1)=false:=by rfl):PD X B (.Call (.Name x p) (e::es) [] pos) (L6 f mr):=.mk fun ξ=>
 (a7O (X:=rz X ξ) (hc ξ) hg hm hv (ha.ap ξ) hn hdb he hpl).imp fun _ _ _ t=>b2b hi t
end
noncomputable def E9:List D→Option W
 | [.lst ds]=>vI ds.length
 | [.tup ds]=>vI ds.length
 | [.str cs]=>S4 (small cs.length) (vI cs.length)
 | [.dct es]=>vI es.length
 | _=>none
noncomputable def b3j:List D→Option W
 | [.int i]=>vI i.natAbs
 | _=>none
noncomputable def intD:List D→Option W
 | [.int i]=>vI i
 | [.bl b]=>vI (if b then 1 else 0)
 | [.str cs]=>match intText? (tx cs) with
  | some n=>S4 (cs.length≤640) (vI n)
  | none=>none
 | _=>none
noncomputable def a0E:List D→Option W
 | [.int i]=>S4 (i.natAbs.log2 < 1920) (some (.val (.str (Wd.n6 i))))
 | _=>none
noncomputable def a4z:List D→Option W
 | [.lst ds]=>some (.val (.tup ds))
 | [.tup ds]=>some (.val (.tup ds))
 | _=>none
noncomputable def W0:List D→Option (List Bool)
 | []=>some []
 | .bl b::ds=>(W0 ds).map (b::·)
 | _=>none
noncomputable def a7S:List D→Option W
 | [.lst ds]=>(W0 ds).bind fun bs=>vB (bs.all id)
 | _=>none
theorem a5k:∀ {ds:List D} {bs:List Bool},W0 ds=some bs→ds=bs.map D.bl
 | [],_,h=>by cases h; rfl
 | .bl b::ds,bs,h=>by
  unfold W0 at h
  obtain ⟨bs',e,rfl⟩:=Option.map_eq_some_iff.mp h
  rw [a5k e]
  rfl
 | .t6::_,_,h=>by cases h
 | .int _::_,_,h=>by cases h
 | .str _::_,_,h=>by cases h
 | .ty _::_,_,h=>by cases h
 | .tup _::_,_,h=>by cases h
 | .lst _::_,_,h=>by cases h
 | .dct _::_,_,h=>by cases h
theorem b11 {K:PySem.W.Frag}{G:Hp}:∀ {bs:List Bool} {xs:List V},l7 K G xs (bs.map D.bl)→xs=bs.map V.bl
 | [],[],_=>rfl
 | [],_::_,r=>by have:=r.len; simp at this
 | _::_,[],r=>by have:=r.len; simp at this
 | b::bs,x::xs,r=>by
  have h:=r.head
  cases h
  rw [b11 r.tail]
  rfl
section
variable {X:Cx}{B:Bs}{e a b c:Expr}{es:List Expr}{ma mb mc:M W}{mr:M (List W)}{pos p:Pos}
theorem B7 {K:PySem.W.Frag}{G H:Hp}{xs:List V}{d:D}(h:a3k K G H xs [d]):∃ x,xs=[x]∧D5 K G H x d:=by
 cases h with
 | cons h t=>cases t; exact ⟨_,rfl,h⟩
theorem b2f {K:PySem.W.Frag}{G H:Hp}{xs:List V}{d d':D}(h:a3k K G H xs [d,d']):∃ x y,xs=[x,y]∧D5 K G H x d∧D5 K G H y d':=by
 cases h with
 | cons h t=>
  obtain ⟨y,rfl,h2⟩:=B7 t
  exact ⟨_,y,rfl,h,h2⟩
theorem a6j:∀ {X:Cx},D4 X (.builtin "len") (fun xs H Q=>∃ a kvs,xs=[V.ref a]∧Rd H a (.dK kvs)∧Q (.int kvs.length) H):=by
 intro X pins s σ H xs us Q I r h
 obtain ⟨a,kvs,rfl,ha,q⟩:=h
 obtain ⟨u,rfl,ru⟩:=vals1 r
 cases ru
 exact L2.Q0 I ha fun t s' I'=>⟨.int kvs.length,H,I',⟨t,rfl⟩,q⟩
theorem a9i:a3h B (fun xs H Q=>(∃ p ys,xs=[.ref p]∧(L4 B.K H p ys∨V8 B.K H p ys)∧Q (.int ys.length) H)∨(∃ z,xs=[.str z]∧z.length≤sizeLine∧Q (.int z.length) H)∨∃ a kvs,xs=[V.ref a]∧Rd H a (.dK kvs)∧Q (.int kvs.length) H) E9:=by
 intro G H σ ρ xs ds w Q R h e p
 match ds,e with
 | [.lst ds],e=>
  cases e
  obtain ⟨x,rfl,hx⟩:=B7 h
  obtain ⟨q,ys,rfl,h1,r1⟩:=hx.lst R.gH
  exact .inl ⟨q,ys,rfl,.inl h1,by rw [r1.len]; exact p _ G H (d8.refl _) R (.int _)⟩
 | [.tup ds],e=>
  cases e
  obtain ⟨x,rfl,hx⟩:=B7 h
  obtain ⟨q,ys,rfl,h1,r1⟩:=hx.tup R.gH
  exact .inl ⟨q,ys,rfl,.inr h1,by rw [r1.len]; exact p _ G H (d8.refl _) R (.int _)⟩
 | [.str cs],e=>
  obtain ⟨z,e⟩:=j8 e
  cases e
  obtain ⟨x,rfl,hx⟩:=B7 h
  exact .inr (.inl ⟨tx cs,by rw [hx.str],by rw [E7]; exact A2 z,by rw [E7]; exact p _ G H (d8.refl _) R (.int _)⟩)
 | [.dct es],e=>
  cases e
  obtain ⟨x,rfl,hx⟩:=B7 h
  obtain ⟨q,ys,rfl,h1,r1⟩:=hx.dct R.gH
  exact .inr (.inr ⟨q,ys,rfl,h1,by rw [r1.len]; exact p _ G H (d8.refl _) R (.int _)⟩)
theorem Q0 (hm:X.mg "len"=none) (ha:PDA X B [e] mr) (hg:Gl X "len":=by rfl) (hK:X.K=B.K:=by rfl) (he:starEach [e] X.env=(false,eval e X.env)::starEach [] X.env:=by rfl) (hpl:(backTo pos (starEach [] X.env)).any (·.1)=false:=by rfl):PD X B (.Call (.Name "len" p) [e] [] pos) (L6 E9 mr):=
 a1P (fun ξ=>(a7m (X:=rz X ξ) (K:=B.K) hK).or (a35.or a6j)) a9i hg hm PySem.boot_len ha (by decide) (by decide) he hpl
theorem a97:a3h B (fun xs H Q=>∃ i,xs=[.int i]∧Q (.int (if i < 0 then -i else i)) H) b3j:=by
 intro G H σ ρ xs ds w Q R h e p
 match ds,e with
 | [.int i],e=>
  cases e
  obtain ⟨x,rfl,hx⟩:=B7 h
  refine ⟨i,by rw [hx.int],?_⟩
  have ea:(if i < 0 then -i else i)=((i.natAbs:Nat):Int):=by split <;> omega
  rw [ea]
  exact p _ G H (d8.refl _) R (.int _)
theorem b4G (hm:X.mg "abs"=none) (ha:PDA X B [e] mr) (hg:Gl X "abs":=by rfl) (he:starEach [e] X.env=(false,eval e X.env)::starEach [] X.env:=by rfl) (hpl:(backTo pos (starEach [] X.env)).any (·.1)=false:=by rfl):PD X B (.Call (.Name "abs" p) [e] [] pos) (L6 b3j mr):=
 a1P (fun ξ=>a9u) a97 hg hm PyProof.Rows.boot_abs ha (by decide) (by decide) he hpl
theorem b0c:a3h B (fun xs H Q=>((∃ i,xs=[.int i]∧Q (.int i) H)∨∃ k,xs=[.bl k]∧Q (.int (if k then 1 else 0)) H)∨∃ x n,xs=[.str x]∧intText? x=some n∧x.length≤640∧Q (.int n) H) intD:=by
 intro G H σ ρ xs ds w Q R h e p
 match ds,e with
 | [.int i],e=>
  cases e
  obtain ⟨x,rfl,hx⟩:=B7 h
  exact .inl (.inl ⟨i,by rw [hx.int],p _ G H (d8.refl _) R (.int _)⟩)
 | [.bl k],e=>
  cases e
  obtain ⟨x,rfl,hx⟩:=B7 h
  exact .inl (.inr ⟨k,by rw [hx.bl],p _ G H (d8.refl _) R (.int _)⟩)
 | [.str cs],e=>
  obtain ⟨x,rfl,hx⟩:=B7 h
  have e:(match intText? (tx cs) with | some n=>S4 (cs.length≤640) (vI n) | none=>none)=some w:=e
  split at e
  ·rename_i n hn
   obtain ⟨z,e⟩:=j8 e
   cases e
   exact .inr ⟨tx cs,n,by rw [hx.str],hn,by rw [E7]; exact z,p _ G H (d8.refl _) R (.int _)⟩
  ·cases e
theorem b3p (hm:X.mg "int"=none) (ha:PDA X B [e] mr) (hg:Gl X "int":=by rfl) (he:starEach [e] X.env=(false,eval e X.env)::starEach [] X.env:=by rfl) (hpl:(backTo pos (starEach [] X.env)).any (·.1)=false:=by rfl):PD X B (.Call (.Name "int" p) [e] [] pos) (L6 intD mr):=
 a2V (fun ξ=>a7x.or a4o) b0c hg hm PyProof.Rows.boot_int ha (by decide) (by decide) he hpl
theorem a83:a3h B (fun xs H Q=>∃ i,xs=[.int i]∧i.natAbs.log2 < 1920∧Q (.str (toString i)) H) a0E:=by
 intro G H σ ρ xs ds w Q R h e p
 match ds,e with
 | [.int i],e=>
  obtain ⟨z,e⟩:=j8 e
  cases e
  obtain ⟨x,rfl,hx⟩:=B7 h
  refine ⟨i,by rw [hx.int],z,?_⟩
  have es:(toString i:Str)=tx (Wd.n6 i):=Wd.str_int i
  rw [es]
  exact p _ G H (d8.refl _) R (.str _)
theorem a2k (hm:X.mg "str"=none) (ha:PDA X B [e] mr) (hg:Gl X "str":=by rfl) (he:starEach [e] X.env=(false,eval e X.env)::starEach [] X.env:=by rfl) (hpl:(backTo pos (starEach [] X.env)).any (·.1)=false:=by rfl):PD X B (.Call (.Name "str" p) [e] [] pos) (L6 a0E mr):=
 a2V (fun ξ=>a4j) a83 hg hm PyProof.Rows.boot_str ha (by decide) (by decide) he hpl
theorem a2M {X:Cx}{K:PySem.W.Frag}(hK:X.K=K):D4 X (.type "tuple") (fun xs H Q=>∃ p ys,xs=[.ref p]∧((L4 K H p ys∧∀ l,H l=none→Q (.ref l) (upd H l (.tup ys)))∨(V8 K H p ys∧Q (.ref p) H))):=by subst hK; exact a25
theorem a5Y:a3h B (fun xs H Q=>∃ p ys,xs=[.ref p]∧((L4 B.K H p ys∧∀ l,H l=none→Q (.ref l) (upd H l (.tup ys)))∨(V8 B.K H p ys∧Q (.ref p) H))) a4z:=by
 intro G H σ ρ xs ds w Q R h e p
 match ds,e with
 | [.lst ds],e=>
  cases e
  obtain ⟨x,rfl,hx⟩:=B7 h
  obtain ⟨q,ys,rfl,h1,r1⟩:=hx.lst R.gH
  refine ⟨q,ys,rfl,.inl ⟨h1,fun l hl=>?_⟩⟩
  obtain ⟨G',s',R',w'⟩:=R.a5T hl r1
  exact p _ G' _ s' R' w'
 | [.tup ds],e=>
  cases e
  obtain ⟨x,rfl,hx⟩:=B7 h
  have hx':=hx
  rcases hx with hx | ⟨_,_,hf⟩
  ·cases hx with
   | tup h1 l1 r1=>exact ⟨_,_,rfl,.inr ⟨R.gH.tup h1,p _ G H (d8.refl _) R (.tup h1 l1 r1)⟩⟩
  ·exact (show False from hf).elim
theorem a6I (hm:X.mg "tuple"=none) (ha:PDA X B [e] mr) (hg:Gl X "tuple":=by rfl) (hK:X.K=B.K:=by rfl) (he:starEach [e] X.env=(false,eval e X.env)::starEach [] X.env:=by rfl) (hpl:(backTo pos (starEach [] X.env)).any (·.1)=false:=by rfl):PD X B (.Call (.Name "tuple" p) [e] [] pos) (L6 a4z mr):=
 a2V (fun ξ=>a2M (X:=rz X ξ) (K:=B.K) hK) a5Y hg hm PyProof.Rows.boot_tuple ha (by decide) (by decide) he hpl
theorem a9A:a3h B (fun xs H Q=>∃ (p:Addr) (bs:List Bool),xs=[.ref p]∧L4 B.K H p (bs.map V.bl)∧Q (.bl (bs.all id)) H) a7S:=by
 intro G H σ ρ xs ds w Q R h e p
 match ds,e with
 | [.lst ds],e=>
  obtain ⟨x,rfl,hx⟩:=B7 h
  have e:(W0 ds).bind (fun bs=>vB (bs.all id))=some w:=e
  cases hb:W0 ds with
  | none=>rw [hb] at e; cases e
  | some bs=>
   rw [hb] at e
   cases e
   rw [a5k hb] at hx
   obtain ⟨q,ys,rfl,h1,r1⟩:=hx.lst R.gH
   rw [b11 r1] at h1
   exact ⟨q,bs,rfl,h1,p _ G H (d8.refl _) R (.bl _)⟩
theorem b1Z (hc:X.calm=true)(hm:X.mg "all"=none) (ha:PDA X B [e] mr) (hg:Gl X "all":=by rfl) (hK:X.K=B.K:=by rfl) (he:starEach [e] X.env=(false,eval e X.env)::starEach [] X.env:=by rfl) (hpl:(backTo pos (starEach [] X.env)).any (·.1)=false:=by rfl):PD X B (.Call (.Name "all" p) [e] [] pos) (L6 a7S mr):=
 a1P (fun ξ=>a7E (X:=rz X ξ) (K:=B.K) hK hc) a9A hg hm PyProof.Rows.boot_all ha (by decide) (by decide) he hpl
end
end L3
set_option Elab.async false
set_option linter.all false
set_option maxRecDepth 100000
set_option maxHeartbeats 4000000
namespace L3
open PySem PySem.Spec PyProof.Rows L2
inductive SR where
 | nx (ρ:i9) | rt (w:W) (ρ:i9) | bk (ρ:i9) | ct (ρ:i9) | ex (x:Exn) (ρ:i9)
noncomputable abbrev SM:=i9→Option SR
noncomputable def a3B (B:Bs)(ξ:XP)(G:Hp)(Dn:Ends):SR→Prop
 | .nx ρ'=>∀ σ' G' H',d8 G G'→RS B G' H' σ' ρ'→Dn.nx σ' H'
 | .bk ρ'=>∀ σ' G' H',d8 G G'→RS B G' H' σ' ρ'→Dn.bk σ' H'
 | .ct ρ'=>∀ σ' G' H',d8 G G'→RS B G' H' σ' ρ'→Dn.ct σ' H'
 | .rt w ρ'=>∀ v σ' G' H',d8 G G'→RS B G' H' σ' ρ'→C8 B G' H' σ' ρ' v w→Dn.rt v H'
 | .ex x ρ'=>∀ σ' G' H',d8 G G'→RS B G' H' σ' ρ'→ξ x σ' H'
noncomputable def a9D (B:Bs)(ξ:XP)(G:Hp)(ρ:i9)(m:SM)(Dn:Ends):Prop:=∃ r,m ρ=some r∧a3B B ξ G Dn r
noncomputable def SD (B:Bs)(ξ:XP)(m:SM):TS:=fun Dn σ H=>∃ G ρ,RS B G H σ ρ∧a9D B ξ G ρ m Dn
structure PSD (X:Cx) (B:Bs) (st:Stmt) (m:SM):Prop where
 ap:∀ ξ,PS (rz X ξ) st (SD B ξ m)
structure a28 (X:Cx) (B:Bs) (st:List Stmt) (m:SM):Prop where
 ap:∀ ξ,PSs (rz X ξ) st (SD B ξ m)
section
variable {X:Cx}{B:Bs}{ξ:XP}{G G' H:Hp}{σ:St}{ρ:i9}{Dn:Ends}{st:Stmt}{rest:List Stmt}{m1 m2:SM}{e c:Expr}{me:M W}{pos:Pos}
theorem a3B.same {r:SR}(s:d8 G G')(h:a3B B ξ G Dn r):a3B B ξ G' Dn r:=by
 cases r with
 | nx ρ'=>exact fun σ2 G2 H2 s2=>h σ2 G2 H2 (s.trans s2)
 | bk ρ'=>exact fun σ2 G2 H2 s2=>h σ2 G2 H2 (s.trans s2)
 | ct ρ'=>exact fun σ2 G2 H2 s2=>h σ2 G2 H2 (s.trans s2)
 | rt w ρ'=>exact fun v σ2 G2 H2 s2=>h v σ2 G2 H2 (s.trans s2)
 | ex x ρ'=>exact fun σ2 G2 H2 s2=>h σ2 G2 H2 (s.trans s2)
noncomputable def l9 (m1 m2:SM):SM:=fun ρ=>match m1 ρ with
 | some (.nx ρ')=>m2 ρ'
 | r=>r
theorem b1I {m1 m2:SM}{ρ ρ':i9}(h:m1 ρ=some (.nx ρ')):l9 m1 m2 ρ=m2 ρ':=by unfold l9; rw [h]
noncomputable def nxS:SM:=fun ρ=>some (.nx ρ)
theorem M4:a28 X B [] nxS:=.mk fun ξ=>(b0O (X:=rz X ξ)).imp fun Dn σ H t=>by
 obtain ⟨G,ρ,R,r,e,p⟩:=t
 cases e
 exact p σ G H (d8.refl _) R
theorem j7 (h1:PSD X B st m1)(h2:a28 X B rest m2):a28 X B (st::rest) (l9 m1 m2):=.mk fun ξ=>(a45 (h1.ap ξ) (h2.ap ξ)).imp fun Dn σ H t=>by
 obtain ⟨G,ρ,R,r,e,p⟩:=t
 unfold l9 at e
 cases h:m1 ρ with
 | none=>rw [h] at e; cases e
 | some r1=>
  rw [h] at e
  refine ⟨G,ρ,R,r1,h,?_⟩
  cases r1 with
  | nx ρ1=>exact fun σ' G' H' s R'=>⟨G',ρ1,R',r,e,p.same s⟩
  | bk ρ1=>cases e; exact p
  | ct ρ1=>cases e; exact p
  | rt w ρ1=>cases e; exact p
  | ex x ρ1=>cases e; exact p
theorem u5 (h1:PSD X B st m1):a28 X B [st] m1:=.mk fun ξ=>a4e (h1.ap ξ)
noncomputable def L7 {α:Type}(m:M α)(f:α→SM):SM:=fun ρ=>match m ρ with
 | none=>none
 | some (.ex x ρ')=>some (.ex x ρ')
 | some (.ok a ρ')=>f a ρ'
theorem D9 {α:Type}{m:M α}{f:α→SM}{ρ ρ':i9}{a:α}(h:m ρ=some (.ok a ρ')):L7 m f ρ=f a ρ':=by unfold L7; rw [h]
theorem SD.step {α β:Type}{rel:Rel α β}{m:M α}{f:α→SM}(R:RS B G H σ ρ)(t:a9D B ξ G ρ (L7 m f) Dn):TD rel B ξ m σ H (fun v H1=>∃ G1 ρ1 a,d8 G G1∧RS B G1 H1 σ ρ1∧rel B G1 H1 σ ρ1 v a∧a9D B ξ G1 ρ1 (f a) Dn):=by
 obtain ⟨r,e,p⟩:=t
 unfold L7 at e
 cases hm:m ρ with
 | none=>rw [hm] at e; cases e
 | some r1=>
  rw [hm] at e
  cases r1 with
  | ex x ρ1=>
   cases e
   exact ⟨G,ρ,R,_,hm,fun G' H' s R'=>p σ G' H' s R'⟩
  | ok a ρ1=>exact ⟨G,ρ,R,_,hm,fun v G1 H1 s R1 q=>⟨G1,ρ1,a,s,R1,q,r,e,p.same s⟩⟩
noncomputable def P7 (m:M W):SM:=L7 m fun _=>nxS
theorem a4n (he:PD X B e me)(hs:swapsWith e none pos.line X.env=pure false:=by rfl):PSD X B (.Expr e pos) (P7 me):=.mk fun ξ=>(a6v (X:=rz X ξ) (he.ap ξ) hs).imp fun Dn σ H t=>by
 obtain ⟨G,ρ,R,t⟩:=t
 refine (SD.step (rel:=v8) R t).mono fun v H1 ⟨G1,ρ1,a,s1,R1,q1,r,e,p⟩=>?_
 cases e
 exact p σ G1 H1 (d8.refl _) R1
noncomputable def b3L (w:W):SM:=fun ρ=>match w with
 | .val d=>some (.rt (.val d) ρ)
 | .own d=>some (.rt (.own d) ρ)
 | .slot i=>match ρ[i]? with
  | some (some (.sh d))=>some (.rt (.val d) ρ)
  | some (some (.ow false d))=>some (.rt (.own d) (ρ.set i none))
  | _=>none
noncomputable def retS (m:M W):SM:=L7 m b3L
theorem RS.forget {i:Nat}(R:RS B G H σ ρ):RS B G H σ (ρ.set i none):=by
 by_cases hi:i < ρ.length
 ·refine ⟨R.hk,R.keep,R.g0,R.gH,R.gnew,R.dom,by simp [R.len],fun j d' q'=>?_,fun j l d' q'=>?_,fun j k l d' l' e' p' a b=>?_,R.fz.a24 (by intro _ h; cases h),R.ob.a24 (by intro _ h; cases h <;> rfl) (by intro _ h; cases h)⟩
  ·by_cases z:i=j
   ·subst z; rw [List.getElem?_set_self hi] at q'; cases q'
   ·rw [List.getElem?_set_ne z] at q'; exact R.sh j d' q'
  ·by_cases z:i=j
   ·subst z; rw [List.getElem?_set_self hi] at q'; cases q'
   ·rw [List.getElem?_set_ne z] at q'; exact R.ow j l d' q'
  ·by_cases z:i=j
   ·subst z; rw [List.getElem?_set_self hi] at a; cases a
   ·by_cases z':i=k
    ·subst z'; rw [List.getElem?_set_self hi] at b; cases b
    ·rw [List.getElem?_set_ne z] at a
     rw [List.getElem?_set_ne z'] at b
     exact R.inj j k l d' l' e' p' a b
 ·rw [List.set_eq_of_length_le (by omega)]
  exact R
theorem A9 (he:PD X B e me):PSD X B (.Return (some e) pos) (retS me):=.mk fun ξ=>(b23 (he.ap ξ)).imp fun Dn σ H t=>by
 obtain ⟨G,ρ,R,t⟩:=t
 refine (SD.step (rel:=v8) R t).mono fun v H1 ⟨G1,ρ1,w,s1,R1,q1,r,e,p⟩=>?_
 unfold b3L at e
 cases w with
 | val d=>cases e; exact p v σ G1 H1 (d8.refl _) R1 q1
 | own d=>cases e; exact p v σ G1 H1 (d8.refl _) R1 q1
 | slot i=>
  have h':σ[i]?=some (some v):=q1
  simp only [] at e
  split at e
  ·rename_i d' q
   cases e
   obtain ⟨v',q1,r⟩:=R1.sh i _ q
   rw [h'] at q1
   cases q1
   exact p v σ G1 H1 (d8.refl _) R1 r
  ·rename_i d' q
   cases e
   obtain ⟨pp,q1,q2,q3,q4,o⟩:=R1.ow i _ _ q
   have hi:i < ρ1.length:=(List.getElem?_eq_some_iff.mp q).1
   rw [h'] at q1
   cases q1
   refine p _ σ G1 H1 (d8.refl _) R1.forget ⟨pp,rfl,q2,q4,o,fun j l e' q' z=>?_⟩
   by_cases zz:i=j
   ·subst zz; rw [List.getElem?_set_self hi] at q'; cases q'
   ·rw [List.getElem?_set_ne zz] at q'
    exact zz (R1.inj i j _ _ _ _ pp q q' h' z)
  ·cases e
noncomputable def ifS (c:M Bool)(a b:SM):SM:=L7 c fun k=>if k=true then a else b
theorem a0b {mc:M Bool}{a b:List Stmt}(hc:PDT X B c mc)(ha:a28 X B a m1)(hb:a28 X B b m2):PSD X B (.If c a b pos) (ifS mc m1 m2):=.mk fun ξ=>(b4R (hc.ap ξ) (ha.ap ξ) (hb.ap ξ)).imp fun Dn σ H t=>by
 obtain ⟨G,ρ,R,t⟩:=t
 refine (SD.step (rel:=Y8) R t).mono fun k H1 ⟨G1,ρ1,k',s1,R1,q1,t2⟩=>?_
 cases (show k=k' from q1)
 cases k with
 | true=>exact ⟨G1,ρ1,R1,t2⟩
 | false=>exact ⟨G1,ρ1,R1,t2⟩
theorem RS.a5o {i:Nat}{v:V}{d:D}(R:RS B G H σ ρ)(hi:i < ρ.length)(h:Rep B.K G v d):RS B G H (σ.set i (some v)) (ρ.set i (some (.sh d))):=by
 have hs:i < σ.length:=by rw [R.len]; exact hi
 refine ⟨R.hk,R.keep,R.g0,R.gH,R.gnew,R.dom,by simp [R.len],fun j d' q'=>?_,fun j l d' q'=>?_,fun j k l d' l' e' p' a b=>?_,R.fz.a8n (by intro _ h; cases h),R.ob.a8n (by intro _ h; cases h <;> rfl) (by intro _ h; cases h)⟩
 ·by_cases z:i=j
  ·subst z
   rw [List.getElem?_set_self hi] at q'
   cases q'
   exact ⟨v,by rw [List.getElem?_set_self hs],h⟩
  ·rw [List.getElem?_set_ne z] at q' ⊢; exact R.sh j d' q'
 ·by_cases z:i=j
  ·subst z; rw [List.getElem?_set_self hi] at q'; cases q'
  ·rw [List.getElem?_set_ne z] at q' ⊢; exact R.ow j l d' q'
 ·by_cases z:i=j
  ·subst z; rw [List.getElem?_set_self hi] at a; cases a
  ·by_cases z':i=k
   ·subst z'; rw [List.getElem?_set_self hi] at b; cases b
   ·rw [List.getElem?_set_ne z] at a ⊢
    rw [List.getElem?_set_ne z'] at b ⊢
    exact R.inj j k l d' l' e' p' a b
theorem RS.b4d {i:Nat}{v:V}{d:D}(R:RS B G H σ ρ)(hi:i < ρ.length)(h:C8 B G H σ ρ v (.own d)):RS B G H (σ.set i (some v)) (ρ.set i (some (.ow false d))):=by
 obtain ⟨p,rfl,g,h0,o,ne⟩:=h
 have hs:i < σ.length:=by rw [R.len]; exact hi
 refine ⟨R.hk,R.keep,R.g0,R.gH,R.gnew,R.dom,by simp [R.len],fun j d' q'=>?_,fun j l d' q'=>?_,fun j k l d' l' e' p' a b=>?_,R.fz.a8n (by intro _ h; cases h),R.ob.a8n (by intro _ h; cases h <;> rfl) (by intro _ h; cases h)⟩
 ·by_cases z:i=j
  ·subst z; rw [List.getElem?_set_self hi] at q'; cases q'
  ·rw [List.getElem?_set_ne z] at q' ⊢; exact R.sh j d' q'
 ·by_cases z:i=j
  ·subst z
   rw [List.getElem?_set_self hi] at q'
   cases q'
   refine ⟨p,by rw [List.getElem?_set_self hs],g,?_,h0,o⟩
   cases hq:B.HK p with
   | none=>rfl
   | some ob=>rw [R.hk p ob hq] at h0; cases h0
  ·rw [List.getElem?_set_ne z] at q' ⊢; exact R.ow j l d' q'
 ·by_cases z:i=j
  ·by_cases z':i=k
   ·intro _ _; omega
   ·subst z
    rw [List.getElem?_set_self hs,List.getElem?_set_ne z']
    rw [List.getElem?_set_ne z'] at b
    intro a1 a2
    cases a1
    exact absurd a2 (ne k l' e' b)
  ·by_cases z':i=k
   ·subst z'
    rw [List.getElem?_set_self hs,List.getElem?_set_ne z]
    rw [List.getElem?_set_ne z] at a
    intro a1 a2
    cases a2
    exact absurd a1 (ne j l d' a)
   ·rw [List.getElem?_set_ne z] at a ⊢
    rw [List.getElem?_set_ne z'] at b ⊢
    exact R.inj j k l d' l' e' p' a b
noncomputable def a1d (i:Nat)(w:W):SM:=fun ρ=>if i < ρ.length then match w with
 | .own d=>some (.nx (ρ.set i (some (.ow false d))))
 | w=>match D7 w ρ with
  | some (.ok d ρ')=>some (.nx (ρ'.set i (some (.sh d))))
  | _=>none
 else none
noncomputable def m6 (i:Nat)(m:M W):SM:=L7 m (a1d i)
theorem a85 {w:W}{ρ ρ':i9}{d:D}(h:D7 w ρ=some (.ok d ρ')):ρ'.length=ρ.length:=by
 unfold D7 at h
 cases w with
 | val d=>cases h; rfl
 | own d=>cases h; rfl
 | slot i=>
  simp only [] at h
  split at h
  ·cases h; rfl
  ·cases h; simp
  ·cases h; rfl
  ·cases h
theorem a09 {i:Nat}{w:W}{v:V}{r:SR}(R:RS B G H σ ρ)(q:C8 B G H σ ρ v w)(e:a1d i w ρ=some r):∃ ρ' G',r=.nx ρ'∧d8 G G'∧RS B G' H (σ.set i (some v)) ρ':=by
 unfold a1d at e
 split at e
 ·rename_i hi
  cases w with
  | own d=>cases e; exact ⟨_,G,rfl,d8.refl _,R.b4d hi q⟩
  | val d=>
   cases e
   exact ⟨_,G,rfl,d8.refl _,R.a5o hi q⟩
  | slot j=>
   simp only [] at e
   split at e
   ·rename_i d ρ1 hl
    cases e
    obtain ⟨G',s',R',r'⟩:=q.D7 R hl
    exact ⟨_,G',rfl,s',R'.a5o (by rw [a85 hl]; exact hi) r'⟩
   ·cases e
 ·cases e
theorem x8 {i:Nat}{x:Str}{pos':Pos}(he:PD X B e me)(hN:X.N.Nodup)(hi:X.N[i]?=some x:=by rfl)(hx:Loc X.env.scope x:=by first | exact Or.inl rfl | exact Or.inr rfl)(hs:swapsWith e (some (.Name x pos')) pos.line X.env=pure false:=by rfl)(hf:X.fn x=true∨X.env.scope.names.lookup x=some .local:=by first | exact .inl rfl | exact .inr rfl):
  PSD X B (.Assign [.Name x pos'] e pos) (m6 i me):=.mk fun ξ=>(a8B (X:=rz X ξ) hN hi hx (he.ap ξ) hs hf).imp fun Dn σ H t=>by
 obtain ⟨G,ρ,R,t⟩:=t
 refine (SD.step (rel:=v8) R t).mono fun v H1 ⟨G1,ρ1,w,s1,R1,q1,r,e,p⟩=>?_
 obtain ⟨ρ',G',rfl,s',R'⟩:=a09 R1 q1 e
 exact p _ G' H1 s' R'
end
structure Gives (K:PySem.W.Frag) (Gs:Hp) (J:It) (ds:List D):Prop where
 go:∀ (G H:Hp) (i:Nat),d8 Gs G→d8 G H→i < ds.length→J.go i H
 stop:∀ (G H:Hp),d8 Gs G→d8 G H→J.stop ds.length H
 yld:∀ (G H H':Hp) (i:Nat) (x:V),d8 Gs G→d8 G H→i < ds.length→J.yld i H x H'→H'=H∧∃ d,ds[i]?=some d∧Rep K G x d
noncomputable def TDI (B:Bs)(ξ:XP)(m:M (List D)):TI:=fun σ H R=>∃ G ρ r,RS B G H σ ρ∧m ρ=some r∧match r with
 | .ok ds ρ'=>∀ J G' H',d8 G G'→RS B G' H' σ ρ'→Gives B.K G' J ds→R J H'
 | .ex x ρ'=>∀ G' H',d8 G G'→RS B G' H' σ ρ'→ξ x σ H'
structure PDI (X:Cx) (B:Bs) (tg iter:Expr) (m:M (List D)):Prop where
 ap:∀ ξ,PI (rz X ξ) tg iter (TDI B ξ m)
theorem _root_.L2.PI.imp {X:Cx}{tg e:Expr}{t t':TI}(h:PI X tg e t)(i:∀ σ H R,t' σ H R→t σ H R):PI X tg e t':=fun pins s σ H R I q=>h pins s σ H R I (i σ H R q)
noncomputable def itD:D→Option (List D)
 | .lst ds=>some ds
 | .tup ds=>some ds
 | .str cs=>some (cs.map fun c=>D.str [c])
 | _=>none
noncomputable def L8 (m:M W):M (List D):=M.bind m fun w=>M.bind (D7 w) fun d=>fun ρ=>(itD d).map (R'.ok · ρ)
section
variable {X:Cx}{B:Bs}{tg e a b c:Expr}{ma mb mc:M W}{mr:M (List W)}{pos p:Pos}
noncomputable def b5g (K:PySem.W.Frag)(tl:TE):TI:=fun σ H R=>tl σ H fun x H1=>(∃ a xs,x=.ref a∧L4 K H1 a xs∧R (Itl K a) H1)∨(∃ a xs,x=.ref a∧V8 K H1 a xs∧R (Itt K a) H1)∨∃ y,x=.str y∧R (Its y) H1
theorem b3N {l:Expr}{tl:TE}{K:PySem.W.Frag}(hK:X.K=K)(hl:PE X l tl):PI X tg l (b5g K tl):=by
 subst hK
 intro pins s σ H R I h
 refine C7 (hl pins s σ H _ I h) fun v s1 ⟨x,H1,I1,r1,q1⟩=>?_
 have fp:∀ b∈[s1.heap.objs.size],a2j X pins H1 b:=fun b hb=>by
  have e:b=s1.heap.objs.size:=by simpa using hb
  subst e
  exact I1.b21 (Nat.le_refl _) (I1.hok.fresh (Nat.le_refl _))
 rcases q1 with ⟨a,xs,rfl,hq,q⟩ | ⟨a,xs,rfl,hq,q⟩ | ⟨y,rfl,q⟩
 ·cases r1
  obtain ⟨its,rv,p,hz⟩:=I1.list hq
  refine wpAny_pyIter_list p.isList ?_
  exact ⟨s1.heap.objs.size,[s1.heap.objs.size],_,_,H1,rfl,I1.kept (t':=s1.toks) fun b o e=>Heap.get?_push_of_some _ e,a7D a _,⟨_,Heap.get?_push_size _ rfl,rfl,rfl⟩,fp,q⟩
 ·cases r1
  obtain ⟨its,rv,p,hz⟩:=I1.tuple hq
  refine wpAny_pyIter_tuple (show s1.heap.IsTuple a its.toArray from p) ?_
  exact ⟨s1.heap.objs.size,[s1.heap.objs.size],_,_,H1,rfl,I1.kept (t':=s1.toks) fun b o e=>Heap.get?_push_of_some _ e,a5U a _,⟨_,Heap.get?_push_size _ rfl,rfl,rfl⟩,fp,q⟩
 ·obtain ⟨t,rfl⟩:=r1
  cases ha:y.cps.all (· < 128)
  ·exact wpAny_pyIter_wide ha ⟨s1.heap.objs.size,[s1.heap.objs.size],_,Its y,H1,rfl,I1.kept (t':=s1.toks) fun b o e=>Heap.get?_push_of_some _ e,a7r y t _,⟨_,Heap.get?_push_size _ rfl,rfl,rfl⟩,fp,q⟩
  ·exact wpAny_pyIter_ascii ha ⟨s1.heap.objs.size,[s1.heap.objs.size],_,Its y,H1,rfl,I1.kept (t':=s1.toks) fun b o e=>Heap.get?_push_of_some _ e,a7L y t _,⟨_,Heap.get?_push_size _ rfl,rfl,rfl⟩,fp,q⟩
theorem a5N {K:PySem.W.Frag}{G:Hp}{a:Addr}{xs:List V}{ds:List D}(h:L4 K G a xs)(r:l7 K G xs ds):Gives K G (Itl K a) ds where
 go:=fun G' H i s1 s2 hi=>by
  have hx:i < xs.length:=by rw [r.len]; exact hi
  exact ⟨xs,xs[i],(s1.trans s2).seq h,by simp [hx]⟩
 stop:=fun G' H s1 s2=>⟨xs,(s1.trans s2).seq h,by rw [r.len]; exact Nat.le_refl _⟩
 yld:=fun G' H H' i x s1 s2 hi y=>by
  obtain ⟨rfl,y⟩:=y
  have e:=y xs ((s1.trans s2).seq h)
  obtain ⟨d,e2,r2⟩:=r.atV e
  exact ⟨rfl,d,e2,r2.same s1⟩
theorem a7z {K:PySem.W.Frag}{G:Hp}{a:Addr}{xs:List V}{ds:List D}(h:V8 K G a xs)(r:l7 K G xs ds):Gives K G (Itt K a) ds where
 go:=fun G' H i s1 s2 hi=>by
  have hx:i < xs.length:=by rw [r.len]; exact hi
  exact ⟨xs,xs[i],(s1.trans s2).tup h,by simp [hx]⟩
 stop:=fun G' H s1 s2=>⟨xs,(s1.trans s2).tup h,by rw [r.len]; exact Nat.le_refl _⟩
 yld:=fun G' H H' i x s1 s2 hi y=>by
  obtain ⟨rfl,y⟩:=y
  have e:=y xs ((s1.trans s2).tup h)
  obtain ⟨d,e2,r2⟩:=r.atV e
  exact ⟨rfl,d,e2,r2.same s1⟩
theorem a7Q {K:PySem.W.Frag}{G:Hp}(cs:List Nat):Gives K G (Its (tx cs)) (cs.map fun c=>D.str [c]) where
 go:=fun G' H i s1 s2 hi=>by
  show i < (tx cs).cps.size
  simpa using hi
 stop:=fun G' H s1 s2=>by
  show (tx cs).cps.size≤_
  simp
 yld:=fun G' H H' i x s1 s2 hi y=>by
  obtain ⟨rfl,c,hc,rfl⟩:=y
  refine ⟨rfl,.str [c],?_,.str [c]⟩
  rw [List.getElem?_map]
  have hc':cs[i]?=some c:=by simpa using hc
  rw [hc']
  rfl
theorem a4V {K:PySem.W.Frag}{G:Hp}(lo:Int)(n:Nat):Gives K G (Itr lo n) ((List.range n).map fun k=>D.int (lo + ((k:Nat):Int))) where
 go:=fun G' H i s1 s2 hi=>by
  show i < n
  simpa using hi
 stop:=fun G' H s1 s2=>by
  show n≤_
  simp
 yld:=fun G' H H' i x s1 s2 hi y=>by
  obtain ⟨rfl,rfl⟩:=y
  have hi':i < n:=by simpa using hi
  refine ⟨rfl,.int (lo + i),?_,.int _⟩
  rw [List.getElem?_map,List.getElem?_range hi']
  rfl
theorem a3s (ha:PD X B e ma)(hK:X.K=B.K:=by rfl):PDI X B tg e (L8 ma):=.mk fun ξ=>(b3N (X:=rz X ξ) (K:=B.K) hK (ha.ap ξ)).imp fun σ H Rr t=>by
 obtain ⟨G,ρ,r,R,e,p⟩:=t
 have conv:T4 (rel:=(fun (B:Bs) (G H:Hp) (σ:St) (ρ:i9) (J:It) (ds:List D)=>Gives B.K G J ds)) B ξ G ρ (L8 ma) σ (fun J H=>Rr J H):=by
  refine ⟨r,e,?_⟩
  cases r with
  | ok ds ρ'=>exact fun J G' H' s R' g=>p J G' H' s R' g
  | ex x ρ'=>exact p
 refine (TD.bind (rel:=v8) R conv).mono fun x H1 ⟨G1,ρ1,w,s1,R1,q1,t2⟩=>?_
 obtain ⟨d,ρ2,e2,r2,er,p2⟩:=t2.step fun r h=>a1O h
 obtain ⟨G2,s2,R2,rp⟩:=q1.D7 R1 e2
 cases hd:itD d with
 | none=>rw [hd] at er; cases er
 | some ds=>
  rw [hd] at er
  cases er
  cases rp with
  | @lst a xs ds' h l r=>
   cases hd
   refine .inl ⟨a,xs,rfl,R2.gH.seq h,p2 (Itl B.K a) G2 H1 s2 R2 ?_⟩
   exact a5N h ⟨l,r⟩
  | @tup a xs ds' h l r=>
   cases hd
   exact .inr (.inl ⟨a,xs,rfl,R2.gH.tup h,p2 (Itt B.K a) G2 H1 s2 R2 (a7z h ⟨l,r⟩)⟩)
  | str cs=>
   cases hd
   exact .inr (.inr ⟨tx cs,rfl,p2 (Its (tx cs)) G2 H1 s2 R2 (a7Q cs)⟩)
  | _=>cases hd
end
end L3
set_option Elab.async false
set_option linter.all false
set_option maxRecDepth 100000
set_option maxHeartbeats 4000000
namespace L3
open PySem PySem.Spec PyProof.Rows L2
noncomputable def ints1:List D→Option (List D)
 | [.int n]=>S4 (-(2 ^ 62)≤n∧n < 2 ^ 62) (some ((List.range n.toNat).map fun k=>D.int (0 + ((k:Nat):Int))))
 | _=>none
noncomputable def a75 (f:List D→Option (List D))(m:M (List W)):M (List D):=M.bind m fun ws=>fun ρ=>match F7 ws ρ with
 | some ds=>(f ds).map (R'.ok · ρ)
 | none=>none
noncomputable def b35:Rel (List D) It:=fun B G H σ ρ J ds=>Gives B.K G J ds
section
variable {X:Cx}{B:Bs}{tg e a b c:Expr}{ma mb mc:M W}{mr:M (List W)}{pos p:Pos}
theorem b2p {ξ:XP}{m:M (List D)}{σ:St}{H:Hp}{Rr:It→Hp→Prop}(t:TDI B ξ m σ H Rr):∃ G ρ,RS B G H σ ρ∧T4 b35 B ξ G ρ m σ Rr:=by
 obtain ⟨G,ρ,r,R,e,p⟩:=t
 refine ⟨G,ρ,R,r,e,?_⟩
 cases r with
 | ok ds ρ'=>exact fun J G' H' s R' g=>p J G' H' s R' g
 | ex x ρ'=>exact p
theorem b07 {ξ:XP}{f:List D→Option (List D)}{ws:List W}{G:Hp}{ρ:i9}{σ:St}{Rr:It→Hp→Prop}(t:T4 b35 B ξ G ρ (fun ρ=>match F7 ws ρ with | some ds=>(f ds).map (R'.ok · ρ) | none=>none) σ Rr):∃ ds es,F7 ws ρ=some ds∧f ds=some es∧∀ J G' H',d8 G G'→RS B G' H' σ ρ→Gives B.K G' J es→Rr J H':=by
 obtain ⟨r,e,p⟩:=t
 cases hx:F7 ws ρ with
 | none=>simp only [hx] at e; cases e
 | some ds=>
  simp only [hx] at e
  cases hf:f ds with
  | none=>rw [hf] at e; cases e
  | some es=>
   rw [hf] at e
   cases e
   exact ⟨ds,es,rfl,hf,p⟩
theorem a4J (hm:X.mg "range"=none) (ha:PDA X B [a] mr) (hg:Gl X "range":=by rfl) (hs:starEach [a] X.env=[(false,eval a X.env)]:=by rfl):PDI X B tg (.Call (.Name "range" p) [a] [] pos) (a75 ints1 mr):=.mk fun ξ=>
 (a8d (X:=rz X ξ) hg hm (ha.ap ξ) hs).imp fun σ H Rr t=>by
  obtain ⟨G,ρ,R,t⟩:=b2p t
  refine (TD.bind (rel:=F1) R t).mono fun vs H1 ⟨G1,ρ1,ws,s1,R1,q1,t2⟩=>?_
  obtain ⟨ds,es,e1,e2,p⟩:=b07 t2
  have h:=S5 R1 q1 e1
  match ds,e2 with
  | [.int n],e2=>
   obtain ⟨z,e2⟩:=j8 e2
   cases e2
   obtain ⟨x,rfl,hx⟩:=B7 h
   exact ⟨n,by rw [hx.int],z.1,z.2,p _ G1 H1 (d8.refl _) R1 (a4V 0 n.toNat)⟩
end
noncomputable abbrev FT:=D→i9→Option i9
noncomputable def TDG (B:Bs)(f:FT):TG:=fun v σ H Rr=>∃ G ρ d ρ',RS B G H σ ρ∧Rep B.K G v d∧f d ρ=some ρ'∧∀ σ' G' H',d8 G G'→RS B G' H' σ' ρ'→Rr σ' H'
structure PDG (X:Cx) (B:Bs) (tg:Expr) (f:FT):Prop where
 ap:∀ ξ,PG (rz X ξ) tg (TDG B f)
theorem _root_.L2.PG.imp {X:Cx}{tg:Expr}{t t':TG}(h:PG X tg t)(i:∀ v σ H R,t' v σ H R→t v σ H R):PG X tg t':=fun pins s σ H v u Q I r q=>h pins s σ H v u Q I r (i v σ H _ q)
noncomputable def tgN (i:Nat):FT:=fun d ρ=>if i < ρ.length then some (ρ.set i (some (.sh d))) else none
section
variable {X:Cx}{B:Bs}{tg e:Expr}{pos:Pos}
theorem a58 {i:Nat}{x:Str}(hN:X.N.Nodup)(hi:X.N[i]?=some x:=by rfl)(hx:Loc X.env.scope x:=by first | exact Or.inl rfl | exact Or.inr rfl)(hf:X.fn x=true∨X.env.scope.names.lookup x=some .local:=by first | exact .inl rfl | exact .inr rfl):PDG X B (.Name x pos) (tgN i):=.mk fun ξ=>
 (a4h (X:=rz X ξ) hN hi hx hf).imp fun v σ H Rr t=>by
  obtain ⟨G,ρ,d,ρ',R,h,e,p⟩:=t
  unfold tgN at e
  split at e
  ·cases e
   exact p _ G H (d8.refl _) (R.a5o ‹_› h)
  ·cases e
end
noncomputable def forL (tg:FT)(b:SM):List D→SM
 | []=>fun ρ=>some (.nx ρ)
 | d::ds=>fun ρ=>match tg d ρ with
  | none=>none
  | some ρ1=>match b ρ1 with
   | some (.nx ρ2)=>forL tg b ds ρ2
   | some (.ct ρ2)=>forL tg b ds ρ2
   | some (.bk ρ2)=>some (.nx ρ2)
   | r=>r
noncomputable def a4Y (mi:M (List D))(tg:FT)(b:SM):SM:=L7 mi fun ds=>forL tg b ds
theorem a6f {X:Cx}{ξ:XP}:PassesOwn (model X.prog X.w) X.A X.env (XE X ξ):=by
 rintro e s' ⟨x,pins,σ,H,I,⟨a,cls,dct,rfl,ix,oa,fl,F⟩,q⟩
 have I0:Inv X [] σ H s':=I.M8 fun p hp=>absurd hp (by simp)
 refine noted I0 F oa fl fun h' T I2 t oT=>?_
 obtain ⟨oe,vs,oT',ts,he,hc,hdc,hd,h1,r⟩:=id t
 refine wpAny_bind (wpAny_field he hd h1 ?_)
 rw [if_neg (show ¬ ((Value.ref T == Value.none)=true) from by simp)]
 rw [F.fr]
 exact marked (some X.env.locals) I2 F t oT fun h3 I3 t3=>⟨x,[],σ,H,I3,⟨a,cls,dct,rfl,ix,oa,.inr ⟨T,_,t3,oT,.inr rfl⟩,F⟩,q⟩
section
variable {X:Cx}{B:Bs}{tg iter:Expr}{body:List Stmt}{mi:M (List D)}{f:FT}{mb:SM}{pos:Pos}
theorem b0a (hi:PDI X B tg iter mi)(hg:PDG X B tg f)(hb:a28 X B body mb)(hc:X.calm=true:=by rfl)(hs:∀ x,foldedSetIterable iter X.env x=pure x:=by intro _; rfl):PSD X B (.For tg iter body [] pos) (a4Y mi f mb):=.mk fun ξ=>
 (b3E (X:=rz X ξ) a6f hc (hi.ap ξ) (hg.ap ξ) (hb.ap ξ) hs).imp fun Dn σ H t=>by
  obtain ⟨G,ρ,R,r,e,p⟩:=t
  unfold a4Y L7 at e
  cases hm:mi ρ with
  | none=>rw [hm] at e; cases e
  | some r1=>
   rw [hm] at e
   cases r1 with
   | ex x ρ1=>
    cases e
    exact ⟨G,ρ,_,R,hm,fun G' H' s R'=>p σ G' H' s R'⟩
   | ok ds ρ1=>
    refine ⟨G,ρ,_,R,hm,fun J Gs H1 s1 R1 gv=>?_⟩
    refine ⟨fun i m σ H=>∃ G ρ r,m=ds.length - i∧i≤ds.length∧d8 Gs G∧RS B G H σ ρ∧forL f mb (ds.drop i) ρ=some r∧a3B B ξ G Dn r,⟨ds.length,Gs,ρ1,r,by simp,Nat.zero_le _,d8.refl _,R1,by simpa using e,p.same s1⟩,?_⟩
    rintro i m σ2 H2 ⟨G2,ρ2,r2,rfl,hle,s2,R2,e2,p2⟩
    by_cases hlt:i < ds.length
    ·have ed:ds.drop i=ds[i]::ds.drop (i + 1):=List.drop_eq_getElem_cons hlt
     rw [ed] at e2
     unfold forL at e2
     cases ht:f ds[i] ρ2 with
     | none=>rw [ht] at e2; cases e2
     | some ρ3=>
      rw [ht] at e2
      refine .inr ⟨gv.go G2 H2 i s2 R2.gH hlt,fun σ' H'=>∃ G' ρ' r',d8 Gs G'∧RS B G' H' σ' ρ'∧forL f mb (ds.drop (i + 1)) ρ'=some r'∧a3B B ξ G' Dn r',fun σ' H' ⟨G',ρ',r',a1,a2,a3,a4⟩=>⟨ds.length - (i + 1),by omega,G',ρ',r',rfl,hlt,a1,a2,a3,a4⟩,fun x H' y=>?_⟩
      obtain ⟨rfl,d,hd,rx⟩:=gv.yld G2 H2 H' i x s2 R2.gH hlt y
      have ed2:d=ds[i]:=by
       rw [List.getElem?_eq_getElem hlt] at hd
       exact (Option.some.inj hd).symm
      subst ed2
      refine ⟨G2,ρ2,_,ρ3,R2,rx,ht,fun σ3 G3 H3 s3 R3=>?_⟩
      cases hbr:mb ρ3 with
      | none=>simp only [hbr] at e2; cases e2
      | some rb=>
       simp only [hbr] at e2
       refine ⟨G3,ρ3,R3,rb,hbr,?_⟩
       cases rb with
       | nx ρ4=>exact fun σ4 G4 H4 s4 R4=>⟨G4,ρ4,r2,(s2.trans s3).trans s4,R4,e2,p2.same (s3.trans s4)⟩
       | ct ρ4=>exact fun σ4 G4 H4 s4 R4=>⟨G4,ρ4,r2,(s2.trans s3).trans s4,R4,e2,p2.same (s3.trans s4)⟩
       | bk ρ4=>
        cases e2
        exact fun σ4 G4 H4 s4 R4=>p2 σ4 G4 H4 (s3.trans s4) R4
       | rt w ρ4=>
        cases e2
        exact fun v σ4 G4 H4 s4 R4 q4=>p2 v σ4 G4 H4 (s3.trans s4) R4 q4
       | ex x ρ4=>
        cases e2
        exact fun σ4 G4 H4 s4 R4=>p2 σ4 G4 H4 (s3.trans s4) R4
    ·have ei:i=ds.length:=by omega
     subst ei
     rw [List.drop_length] at e2
     cases e2
     exact .inl ⟨gv.stop G2 H2 s2 R2.gH,p2 σ2 G2 H2 (d8.refl _) R2⟩
end
noncomputable def tyD (T:String):D→Bool
 | .str _=>T == "str"
 | .lst _=>T == "list"
 | .dct _=>T == "dict"
 | _=>false
noncomputable def chk (T:String)(w:W):M Unit:=fun ρ=>match getD w ρ with
 | some d=>if tyD T d=true then some (.ok () ρ) else none
 | none=>none
theorem a04 {T:String}{w:W}{ρ:i9}{r:R' Unit}(h:chk T w ρ=some r):r=.ok () ρ∧∃ d,getD w ρ=some d∧tyD T d=true:=by
 unfold chk at h
 split at h
 ·rename_i d hd
  split at h
  ·cases h
   exact ⟨rfl,d,hd,‹_›⟩
  ·cases h
 ·cases h
theorem a6a {B:Bs}{G H:Hp}{σ:St}{ρ:i9}{x:V}{d:D}{T:String}(R:RS B G H σ ρ)(h:D5 B.K G H x d)(t:tyD T d=true)(hT:T≠"dict":=by decide):tyV B.K T x H:=by
 cases d with
 | str cs=>rw [h.str]; exact eq_of_beq t
 | lst ds=>
  obtain ⟨p,xs,rfl,h1,r1⟩:=h.lst R.gH
  exact .inl ⟨eq_of_beq t,xs,h1⟩
 | dct es=>
  exact absurd (eq_of_beq t) hT
 | _=>cases t
theorem a5a {i:Nat}{w:W}{ρ ρ':i9}(h:d7 i ρ=some (.ok w ρ')):w=.slot i∧ρ'=ρ:=by
 unfold d7 at h
 split at h
 ·cases h; exact ⟨rfl,rfl⟩
 ·cases h
noncomputable def a0C (i:Nat)(d:D):M W:=fun ρ=>match ρ[i]? with
 | some (some (.ow l (.lst ds)))=>S4 (small ds.length) (some (.ok (.val .t6) (ρ.set i (some (.ow l (.lst (ds++[d])))))))
 | _=>none
noncomputable def N5 (i:Nat)(m:M (List W)):M W:=M.bind (d7 i) fun x=>M.bind (chk "list" x) fun _=>M.bind m fun ws=>match ws with
 | [w]=>M.bind (D7 w) (a0C i)
 | _=>fun _=>none
section
variable {X:Cx}{B:Bs}{o e:Expr}{es:List Expr}{mr:M (List W)}{apos cpos opos:Pos}{x:Str}
theorem slot_of {G H:Hp}{σ:St}{ρ:i9}{i:Nat}{l:Bool}{d:D}(R:RS B G H σ ρ)(h:ρ[i]?=some (some (.ow l d))){v:V}(hv:σ[i]?=some (some v)):∃ p,v=.ref p∧G p=none∧y9 B.K G H p d:=by
 obtain ⟨p,q1,q2,q3,q4,q5⟩:=R.ow i l d h
 rw [hv] at q1
 cases q1
 exact ⟨p,rfl,q2,q5⟩
theorem a2O (i:Nat)(ho:PD X B o (d7 i))(ha:PDA X B [e] mr)
  (hbase:attributeBase o "append" X.env (eval o X.env)=eval o X.env:=by rfl)
  (hfew:((backTo cpos (starEach [e] X.env)).all (fun x=>!x.1) && (backToKw cpos (keywordEach [] X.env)).all (fun x=>x.1.isSome)
   && decide (([e]:List Expr).length + ([]:List Keyword).length + (if ([]:List Keyword).isEmpty then 0 else 1) < 30))=true:=by rfl)
  (hline:(apos.endLine == cpos.line)=true:=by rfl) (hs:starEach [e] X.env=(false,eval e X.env)::starEach [] X.env:=by rfl) (hplain:(backTo cpos (starEach [] X.env)).any (·.1)=false:=by rfl) (hK:X.K=B.K:=by rfl):
  PD X B (.Call (.Attribute o "append" apos) [e] [] cpos) (N5 i mr):=.mk fun ξ=>
 (b1Y (X:=rz X ξ) PySem.F.plainAttrs_list PySem.F.slot_list_append PySem.F.type_list_append a8c (ho.ap ξ) (ha.ap ξ) hbase hfew hline hs hplain).imp fun σ H Q t=>by
  obtain ⟨G,ρ,R,t⟩:=t
  refine (TD.b16 (rel:=v8) R t).mono fun x H1 ⟨G1,ρ1,w,er,s1,R1,q1,t2⟩=>?_
  obtain ⟨rfl,rfl⟩:=a5a er
  have hv:σ[i]?=some (some x):=q1
  obtain ⟨u,ρ2,e2,t3⟩:=t2.step fun r h=>⟨(),_,(a04 h).1⟩
  obtain ⟨e3,d,hd,ty⟩:=a04 e2
  cases e3
  refine ⟨by show tyV X.K "list" x H1; rw [hK]; exact a6a R1 (q1.get R1 hd) ty,?_⟩
  refine (TD.bind (rel:=F1) R1 t3).mono fun vs H2 ⟨G2,ρ2,ws,s2,R2,q2,t4⟩=>?_
  match ws,q2,t4 with
  | [],_,⟨r,er,_⟩=>cases er
  | _::_::_,_,⟨r,er,_⟩=>cases er
  | [w],q2,t4=>
   cases q2 with
   | @cons v _ vs _ h t=>
    cases t
    obtain ⟨dv,ρ3,e4,r,er,p⟩:=t4.step fun r h=>a1O h
    obtain ⟨G3,s3,R3,rv⟩:=h.1.D7 R2 e4
    unfold a0C at er
    split at er
    ·rename_i l ds hi
     obtain ⟨hz,er⟩:=j8 er
     cases er
     obtain ⟨pp,rfl,g,xs,hx,rl⟩:=slot_of R3 hi hv
     refine ⟨pp,xs,v,rfl,rfl,hx,?_,?_⟩
     ·rw [rl.len,sizeLine_eq]; unfold small at hz; omega
     ·exact p .t6 G3 _ s3 (R3.write hi hv ⟨xs++[v],l8,rl.append (.one rv)⟩) .t6
    ·cases er
end
end L3
set_option Elab.async false
set_option linter.all false
set_option maxRecDepth 100000
set_option maxHeartbeats 4000000
namespace L3
open PySem PySem.Spec PyProof.Rows L2
inductive FR where
 | ret (w:W) (fin:List D) | exc (x:Exn) (fin:List D)
inductive J3 (K:PySem.W.Frag) (G H:Hp):List Bool→List V→List D→List Addr→Prop
 | nil:J3 K G H [] [] [] []
 | sh {v:V} {d:D} {ms:List Bool} {vs:List V} {ds:List D} {ps:List Addr} (h:Rep K G v d) (r:J3 K G H ms vs ds ps):J3 K G H (false::ms) (v::vs) (d::ds) ps
 | ln {p:Addr} {d:D} {ms:List Bool} {vs:List V} {ds:List D} {ps:List Addr} (g:G p=none) (o:y9 K G H p d) (n:p∉ps) (r:J3 K G H ms vs ds ps):J3 K G H (true::ms) (.ref p::vs) (d::ds) (p::ps)
noncomputable def minus (H:Hp)(ps:List Addr):Hp:=fun b=>if b∈ps then none else H b
theorem a2G {H:Hp}{ps:List Addr}{b:Addr}(h:b∈ps):minus H ps b=none:=if_pos h
theorem K8 {H:Hp}{ps:List Addr}{b:Addr}(h:b∉ps):minus H ps b=H b:=if_neg h
theorem O9 (H:Hp)(ps:List Addr):d8 (minus H ps) H:=fun b o e=>by
 unfold minus at e
 split at e
 ·cases e
 ·exact e
structure After (K:PySem.W.Frag) (G H:Hp) (ps:List Addr) (G' H':Hp) (fin:List D):Prop where
 keep:d8 (minus H ps) H'
 gg:d8 G G'
 gH:d8 G' H'
 gnew:∀ p o,G' p=some o→G p=some o∨H p=none
 dom:∀ p,H' p=none→H p=none
 lent:Paired (fun p d=>G' p=none∧y9 K G' H' p d) ps fin
noncomputable def a2g (K:PySem.W.Frag)(H G' H':Hp)(v:V):W→Prop
 | .val d=>Rep K G' v d
 | .own d=>∃ p,v=.ref p∧G' p=none∧H p=none∧y9 K G' H' p d
 | .slot _=>False
noncomputable def M7 (K:PySem.W.Frag)(ms:List Bool)(fm:List D→Option FR):Sp:=fun vs H Q E=>∃ G ds ps r,d8 G H∧J3 K G H ms vs ds ps∧fm ds=some r∧match r with
 | .ret w fin=>∀ v G' H',After K G H ps G' H' fin→a2g K H G' H' v w→Q v H'
 | .exc _ _=>False
theorem M7.imp {K:PySem.W.Frag}{ms:List Bool}{fm fm':List D→Option FR}(h:∀ ds r,fm ds=some r→fm' ds=some r):∀ vs H Q E,M7 K ms fm vs H Q E→M7 K ms fm' vs H Q E:=by
 rintro vs H Q E ⟨G,ds,ps,r,a,b,c,d⟩
 exact ⟨G,ds,ps,r,a,b,h ds r c,d⟩
theorem J3.len {K:PySem.W.Frag}{G H:Hp}:∀ {ms:List Bool} {vs:List V} {ds:List D} {ps:List Addr},J3 K G H ms vs ds ps→vs.length=ms.length∧ds.length=ms.length
 | _,_,_,_,.nil=>⟨rfl,rfl⟩
 | _,_,_,_,.sh _ r=>by obtain ⟨a,b⟩:=r.len; exact ⟨by simp [a],by simp [b]⟩
 | _,_,_,_,.ln _ _ _ r=>by obtain ⟨a,b⟩:=r.len; exact ⟨by simp [a],by simp [b]⟩
noncomputable def a4l (m:Bool)(d:D):Option C:=some (if m=true then .ow true d else .sh d)
noncomputable def cells:List Bool→List D→i9
 | m::ms,d::ds=>a4l m d::cells ms ds
 | _,_=>[]
noncomputable def A1 (n:Nat)(ms:List Bool)(ds:List D):i9:=cells ms ds++List.replicate (n - ds.length) none
noncomputable def S0:List Bool→i9→Option (List D)
 | [],_=>some []
 | false::ms,_::ρ=>S0 ms ρ
 | true::ms,some (.ow true d)::ρ=>(S0 ms ρ).map (d::·)
 | _,_=>none
noncomputable def a7p (ms:List Bool):SR→Option FR
 | .nx ρ=>(S0 ms ρ).map (FR.ret (.val .t6))
 | .rt (.slot _) _=>none
 | .rt w ρ=>(S0 ms ρ).map (FR.ret w)
 | .ex x ρ=>(S0 ms ρ).map (FR.exc x)
 | _=>none
noncomputable def A5 (m:SM)(n:Nat)(ms:List Bool)(ds:List D):Option FR:=(m (A1 n ms ds)).bind (a7p ms)
noncomputable def F3:List Bool→List Addr→Nat→Option Addr
 | [],_,_=>none
 | false::_,_,0=>none
 | false::ms,ps,i + 1=>F3 ms ps i
 | true::_,p::_,0=>some p
 | true::ms,_::ps,i + 1=>F3 ms ps i
 | true::_,[],_=>none
section
variable {K:PySem.W.Frag}{G H:Hp}
theorem a3G:∀ {ms:List Bool} {ds:List D},ds.length=ms.length→(cells ms ds).length=ms.length
 | [],[],_=>rfl
 | [],_::_,h=>by simp at h
 | _::_,[],h=>by simp at h
 | m::ms,d::ds,h=>by
  show (cells ms ds).length + 1=ms.length + 1
  rw [a3G (by simpa using h)]
theorem M6:∀ {ms:List Bool} {vs:List V} {ds:List D} {ps:List Addr} {i:Nat} {c:C},J3 K G H ms vs ds ps→(cells ms ds)[i]?=some (some c)→
  ∃ v,vs[i]?=some v∧((∃ d,c=.sh d∧Rep K G v d)∨∃ p d,c=.ow true d∧v=.ref p∧p∈ps∧F3 ms ps i=some p∧G p=none∧y9 K G H p d)
 | _,_,_,_,i,c,.nil,e=>by simp [cells] at e
 | _,_,_,_,0,c,.sh h r,e=>by
  simp [cells,a4l] at e
  subst e
  exact ⟨_,rfl,.inl ⟨_,rfl,h⟩⟩
 | _,_,_,_,i + 1,c,.sh h r,e=>by
  obtain ⟨v,e1,h1⟩:=M6 (i:=i) r (by simpa [cells] using e)
  exact ⟨v,by simpa using e1,h1⟩
 | _,_,_,_,0,c,.ln g o n r,e=>by
  simp [cells,a4l] at e
  subst e
  exact ⟨_,rfl,.inr ⟨_,_,rfl,rfl,List.mem_cons_self,rfl,g,o⟩⟩
 | _,_,_,_,i + 1,c,.ln g o n r,e=>by
  obtain ⟨v,e1,h1⟩:=M6 (i:=i) r (by simpa [cells] using e)
  refine ⟨v,by simpa using e1,?_⟩
  rcases h1 with h1 | ⟨p,d,a,b,c1,c2,d1,e2⟩
  ·exact .inl h1
  ·exact .inr ⟨p,d,a,b,List.mem_cons_of_mem _ c1,c2,d1,e2⟩
theorem a90 {ms:List Bool}{vs:List V}{ds:List D}{ps:List Addr}(r:J3 K G H ms vs ds ps):∀ {i j:Nat} {p:Addr},F3 ms ps i=some p→F3 ms ps j=some p→i=j:=by
 have mem:∀ {ms:List Bool} {ps:List Addr} {i:Nat} {p:Addr},F3 ms ps i=some p→p∈ps:=by
  intro ms
  induction ms with
  | nil=>intro ps i p h; cases h
  | cons m ms ih=>
   intro ps i p h
   cases m with
   | false=>
    cases i with
    | zero=>cases h
    | succ i=>exact ih (i:=i) h
   | true=>
    cases ps with
    | nil=>cases i <;> cases h
    | cons q ps=>
     cases i with
     | zero=>cases h; exact List.mem_cons_self
     | succ i=>exact List.mem_cons_of_mem _ (ih (i:=i) h)
 induction r with
 | nil=>intro i j p h; cases h
 | sh h r ih=>
  intro i j p a b
  cases i with
  | zero=>cases a
  | succ i=>
   cases j with
   | zero=>cases b
   | succ j=>rw [ih (i:=i) (j:=j) a b]
 | ln g o n r ih=>
  intro i j p a b
  cases i with
  | zero=>
   cases a
   cases j with
   | zero=>rfl
   | succ j=>exact absurd (mem (i:=j) b) n
  | succ i=>
   cases j with
   | zero=>cases b; exact absurd (mem (i:=i) a) n
   | succ j=>rw [ih (i:=i) (j:=j) a b]
theorem Z3 {N:List Str}{vs:List V}{i:Nat}{v:V}(h:vs[i]?=some v):(start N vs)[i]?=some (some v):=by
 unfold L2.start
 have hi:i < vs.length:=(List.getElem?_eq_some_iff.mp h).1
 rw [List.getElem?_append_left (by simpa using hi),List.getElem?_map,h]
 rfl
theorem E5 {n:Nat}{ms:List Bool}{ds:List D}{i:Nat}{c:C}(h:(A1 n ms ds)[i]?=some (some c)):(cells ms ds)[i]?=some (some c):=by
 unfold A1 at h
 by_cases hi:i < (cells ms ds).length
 ·rw [List.getElem?_append_left hi] at h
  exact h
 ·rw [List.getElem?_append_right (by omega),List.getElem?_replicate] at h
  split at h <;> cases h
theorem a2x {N:List Str}{ms:List Bool}{vs:List V}{ds:List D}{ps:List Addr}(g:d8 G H)(r:J3 K G H ms vs ds ps)(hl:vs.length≤N.length):
  RS ⟨K,H,minus H ps,G,F3 ms ps,none⟩ G H (start N vs) (A1 N.length ms ds):=by
 obtain ⟨l1,l2⟩:=r.len
 refine ⟨O9 H ps,O9 H ps,d8.refl _,g,fun p o e=>.inl e,fun p e=>e,?_,fun i d e=>?_,fun i l d e=>?_,fun i j l d k e p a b=>?_,fun i es e=>?_,fun i l fds e=>?_,fun i fds e=>?_⟩
 ·unfold L2.start A1
  rw [List.length_append,List.length_append,List.length_map,List.length_replicate,List.length_replicate,a3G l2]
  omega
 ·obtain ⟨v,e1,h1⟩:=M6 r (E5 e)
  rcases h1 with ⟨d',q,h⟩ | ⟨p,d',q,_⟩
  ·cases q
   exact ⟨v,Z3 e1,h⟩
  ·cases q
 ·obtain ⟨v,e1,h1⟩:=M6 r (E5 e)
  rcases h1 with ⟨d',q,h⟩ | ⟨p,d',q,rfl,m,la,gp,o⟩
  ·cases q
  ·cases q
   exact ⟨p,Z3 e1,gp,a2G m,.inl la,o⟩
 ·obtain ⟨v,e1,h1⟩:=M6 r (E5 a)
  obtain ⟨v2,e2,h2⟩:=M6 r (E5 b)
  rcases h1 with ⟨d',q,h⟩ | ⟨p1,d',q,rfl,m,la,gp,o⟩
  ·cases q
  rcases h2 with ⟨d2,q2,h⟩ | ⟨p2,d2,q2,rfl,m2,la2,gp2,o2⟩
  ·cases q2
  intro x y
  rw [Z3 e1] at x
  rw [Z3 e2] at y
  cases x
  cases y
  exact a90 r la la2
 ·obtain ⟨v,e1,h1⟩:=M6 r (E5 e)
  rcases h1 with ⟨d',q,h⟩ | ⟨p1,d',q,_⟩ <;> cases q
 ·obtain ⟨v,e1,h1⟩:=M6 r (E5 e)
  rcases h1 with ⟨d',q,h⟩ | ⟨p1,d',q,_⟩ <;> cases q
 ·obtain ⟨v,e1,h1⟩:=M6 r (E5 e)
  rcases h1 with ⟨d',q,h⟩ | ⟨p1,d',q,_⟩ <;> cases q
theorem S8 {B:Bs}{G' H':Hp}{σ:St}{ρ:i9}(hO:∀ i,B.gh i=false)(R:RS B G' H' σ ρ):∀ {ms:List Bool} {vs:List V} {ds:List D} {ps:List Addr} (_:J3 K G H ms vs ds ps) (k:Nat) (ρ':i9) (fin:List D),(∀ i,ρ'[i]?=ρ[k + i]?)→(∀ i,F3 ms ps i=B.L (k + i))→S0 ms ρ'=some fin→Paired (fun p d=>G' p=none∧y9 B.K G' H' p d) ps fin
 | _,_,_,_,.nil,k,ρ',fin,_,_,e=>by cases e; exact .nil
 | _,_,_,_,.sh h r,k,ρ',fin,hρ,hL,e=>by
  cases ρ' with
  | nil=>cases e
  | cons c ρ'=>
   refine S8 hO R r (k + 1) ρ' fin (fun i=>?_) (fun i=>?_) e
   ·have:=hρ (i + 1)
    rw [List.getElem?_cons_succ] at this
    rw [this]
    congr 1
    omega
   ·have:=hL (i + 1)
    rw [show k + 1 + i=k + (i + 1) by omega,← this]
    rfl
 | _,_,_,_,.ln (p:=p) g o n r,k,ρ',fin,hρ,hL,e=>by
  cases ρ' with
  | nil=>cases e
  | cons c ρ'=>
   match c,e with
   | some (.ow true d),e=>
    obtain ⟨fin',e',rfl⟩:=Option.map_eq_some_iff.mp e
    refine .cons ?_ (S8 hO R r (k + 1) ρ' fin' (fun i=>?_) (fun i=>?_) e')
    ·have h0:=hρ 0
     obtain ⟨p',q1,q2,q3,q4,q5⟩:=R.ow (k + 0) true d h0.symm
     have q6:B.L (k + 0)=some p':=by
      rcases q4 with z | ⟨z,_⟩
      ·exact z
      ·rw [hO] at z; cases z
     rw [← hL 0] at q6
     have q7:some p=some p':=q6
     cases q7
     exact ⟨q2,q5⟩
    ·have:=hρ (i + 1)
     rw [List.getElem?_cons_succ] at this
     rw [this]
     congr 1
     omega
    ·have:=hL (i + 1)
     rw [show k + 1 + i=k + (i + 1) by omega,← this]
     rfl
   | none,e=>cases e
   | some (.sh _),e=>cases e
   | some (.ow false _),e=>cases e
   | some (.ob _ _),e=>cases e
   | some (.rd _),e=>cases e
end
theorem _root_.L2.PSs.S2 {X:Cx}{E E':Value→Shared→Prop}{st:List Stmt}{t:TS}(h:PSs (X.t8 E) st t)(i:∀ e s,E e s→E' e s):PSs (X.t8 E') st t:=fun pins s σ H D I hw=>
 wpAny_mono (h pins s σ H D (I.x6.t8 _) hw) (fun _ _ q=>by
  have q1:=q.x6
  cases ‹Flow› with
  | next=>obtain ⟨σ',H',I,q⟩:=q1; exact ⟨σ',H',I.t8 _,q⟩
  | brk=>obtain ⟨σ',H',I,q⟩:=q1; exact ⟨σ',H',I.t8 _,q⟩
  | cont=>obtain ⟨σ',H',I,q⟩:=q1; exact ⟨σ',H',I.t8 _,q⟩
  | ret u=>obtain ⟨v,σ',H',I,r,q⟩:=q1; exact ⟨v,σ',H',I.t8 _,r,q⟩) fun e s z=>i e s z
section
variable {P:Program}{w:World}{K:PySem.W.Frag}{mg:Str→Option Value}{base:Heap}
theorem V7 {x:Str}{st:Stmt}{f:Addr}{fd:FuncData}{N ps:List Str}{ms:List Bool}{k:Nat}{m:SM}(F:Fun K x x st f fd)(S:n8 N ps (g6 st))(hm:ms.length=ps.length)
  (hbody:∀ (cdv:Value) (A:Around) (outer:List Env) (s:Shared) (H:Hp) (E:XK) (H0 HK G0:Hp) (L:Nat→Option Addr),C4 k (A.deeper (envOfC x (g6 st) s.heap.objs.size f cdv))→
   a28 (N4 Q4 P w K mg base N x (g6 st) f cdv A outer s H E) ⟨K,H0,HK,G0,L,none⟩ (D0 st) m):A0 P w K mg base Q4 (k + 1) f fd ps (M7 K ms (A5 m N.length ms)):=by
 have hpl:ps.length≤N.length:=by have:=congrArg List.length S.pre; rw [List.length_take] at this; omega
 refine F.ok S (fun vs H Q E h=>?_) (fun cdv A outer s H vs Q E hr h=>?_)
 ·obtain ⟨G,ds,pp,r,_,a,_⟩:=h
  rw [a.len.1,hm]
 obtain ⟨G,ds,pp,r,g,a,hf,q⟩:=h
 refine ⟨_,((hbody cdv A outer s H E H (minus H pp) G (F3 ms pp) hr).ap fun _ _ _=>False).S2 (fun e s z=>?_),?_⟩
 ·obtain ⟨_,_,_,_,_,_,z⟩:=z
  exact z
 have R0:=a2x (N:=N) g a (by rw [a.len.1,hm]; exact hpl)
 unfold A5 at hf
 cases hs:m (A1 N.length ms ds) with
 | none=>rw [hs] at hf; cases hf
 | some sr=>
  rw [hs] at hf
  have hf':a7p ms sr=some r:=hf
  refine ⟨G,A1 N.length ms ds,R0,sr,hs,?_⟩
  have fin:∀ {ρ':i9} {σ':St} {G' H':Hp} {fins:List D},S0 ms ρ'=some fins→RS ⟨K,H,minus H pp,G,F3 ms pp,none⟩ G' H' σ' ρ'→After K G H pp G' H' fins:=fun {ρ' σ' G' H' fins} e R'=>
   ⟨R'.keep,R'.g0,R'.gH,R'.gnew,R'.dom,S8 (fun _=>rfl) R' a 0 ρ' fins (fun i=>by rw [Nat.zero_add]) (fun i=>by rw [Nat.zero_add]) e⟩
  cases sr with
  | nx ρ'=>
   obtain ⟨fins,e,rfl⟩:=Option.map_eq_some_iff.mp hf'
   exact fun σ' G' H' s' R'=>q .t6 G' H' (fin e R') .t6
  | rt w' ρ'=>
   cases w' with
   | slot i=>cases hf'
   | val d=>
    obtain ⟨fins,e,rfl⟩:=Option.map_eq_some_iff.mp hf'
    exact fun v σ' G' H' s' R' rw'=>q v G' H' (fin e R') rw'
   | own d=>
    obtain ⟨fins,e,rfl⟩:=Option.map_eq_some_iff.mp hf'
    exact fun v σ' G' H' s' R' rw'=>q v G' H' (fin e R') (let ⟨p,a1,a2,a3,a4,_⟩:=rw'; ⟨p,a1,a2,a3,a4⟩)
  | ex x ρ'=>
   obtain ⟨fins,e,rfl⟩:=Option.map_eq_some_iff.mp hf'
   exact q.elim
  | bk ρ'=>cases hf'
  | ct ρ'=>cases hf'
theorem hu8 {A:Around}{k:Nat}(hr:C4 k A):A.units + 8 < cLine:=by have:=hr.units; omega
theorem b0R {K:PySem.W.Frag}{fm:List D→Option FR}(h:∀ ns:List Int,ns.length≤63→fm [.lst (ns.map D.int)]=some (.ret (.val (.bl true)) [])):∀ vs H Q E,a9E K vs H Q E→M7 K [false] fm vs H Q E:=by
 rintro vs H Q E ⟨a,ns,rfl,hS,hl,q⟩
 refine ⟨H,[.lst (ns.map D.int)],[],_,d8.refl _,.sh (.lst hS (l7.a4c (K:=K) (G:=H) ns).len (l7.a4c (K:=K) (G:=H) ns).get) .nil,h ns hl,fun v G' H' _ r=>?_⟩
 cases (show Rep K G' v (.bl true) from r)
 exact q H'
end
end L3
set_option Elab.async false
set_option linter.all false
set_option maxRecDepth 100000
set_option maxHeartbeats 4000000
namespace L3
open PySem PySem.Spec PyProof.Rows L2
noncomputable def a7b:Nat→D→Bool
 | _,.t6=>true
 | _,.bl _=>true
 | _,.int _=>true
 | _,.str _=>true
 | _,.ty _=>true
 | n + 1,.tup ds=>ds.all (a7b n)
 | _,_=>false
noncomputable abbrev Z2 (d:D):Bool:=a7b 6 d
noncomputable def a5l:W→Bool
 | .val d=>Z2 d
 | .own (.lst ds)=>ds.all Z2
 | .own (.dct es)=>es.all fun e=>Z2 e.2
 | _=>false
noncomputable def a0J:D→Bool
 | .lst ds=>ds.all Z2
 | .dct es=>es.all fun e=>Z2 e.2
 | _=>false
noncomputable def a5J:Option HO→Prop
 | some (.lst _)=>True
 | some (.dK _)=>True
 | _=>False
section
variable {K:PySem.W.Frag}{G H:Hp}{bs:List Addr}
theorem a7t {a:Addr}{xs:List V}(hb:∀ b∈bs,a5J (G b))(h:V8 K G a xs):V8 K (minus G bs) a xs:=by
 rcases h with (h | ⟨o,h⟩) | h
 ·refine .inl (.inl ?_)
  rw [K8 fun m=>?_]
  ·exact h
  ·have:=hb a m; rw [h] at this; exact this
 ·refine .inl (.inr ⟨o,?_⟩)
  rw [K8 fun m=>?_]
  ·exact h
  ·have:=hb a m; rw [h] at this; exact this
 ·exact .inr h
theorem Rep.minus:∀ (n:Nat) {v:V} {d:D},(∀ b∈bs,a5J (G b))→a7b n d=true→Rep K G v d→Rep K (minus G bs) v d:=by
 intro n
 induction n with
 | zero=>
  intro v d hb hf h
  cases h with
  | t6=>exact .t6
  | bl b=>exact .bl b
  | int b=>exact .int b
  | str b=>exact .str b
  | ty b=>exact .ty b
  | tup _ _ _=>cases hf
  | lst _ _ _=>cases hf
  | dct _ _ _=>cases hf
 | succ n ih=>
  intro v d hb hf h
  cases h with
  | t6=>exact .t6
  | bl b=>exact .bl b
  | int b=>exact .int b
  | str b=>exact .str b
  | ty b=>exact .ty b
  | @tup a xs ds h l r=>
   have hf':=List.all_eq_true.mp (show ds.all (a7b n)=true from hf)
   exact .tup (a7t hb h) l fun j x d a b=>ih hb (hf' d (List.mem_of_getElem? b)) (r j x d a b)
  | lst _ _ _=>cases hf
  | dct _ _ _=>cases hf
theorem l7.minus {xs:List V}{ds:List D}(hb:∀ b∈bs,a5J (G b))(hf:ds.all Z2=true)(h:l7 K G xs ds):l7 K (minus G bs) xs ds:=
 ⟨h.len,fun j x d a b=>Rep.minus 6 hb (List.all_eq_true.mp hf d (List.mem_of_getElem? b)) (h.get j x d a b)⟩
theorem k6.minus {xs:List (Key×V)}{ds:List (Key×D)}(hb:∀ b∈bs,a5J (G b))(hf:(ds.all fun e=>Z2 e.2)=true)(h:k6 K G xs ds):k6 K (minus G bs) xs ds:=
 ⟨h.keys,fun j x d a b=>Rep.minus 6 hb (List.all_eq_true.mp hf d (List.mem_of_getElem? b)) (h.get j x d a b)⟩
theorem y9.minus {p:Addr}{d:D}(hb:∀ b∈bs,a5J (G b))(hf:a0J d=true)(h:y9 K G H p d):y9 K (minus G bs) H p d:=by
 cases d with
 | lst ds=>obtain ⟨xs,e,r⟩:=h; exact ⟨xs,e,r.minus hb hf⟩
 | dct es=>obtain ⟨xs,e,r⟩:=h; exact ⟨xs,e,r.minus hb hf⟩
 | _=>exact (show False from h).elim
end
noncomputable def z7:List Bool→List W→i9→Option (List D)
 | [],[],_=>some []
 | false::ms,w::ws,ρ=>match getD w ρ,z7 ms ws ρ with
  | some d,some ds=>some (d::ds)
  | _,_=>none
 | true::ms,.slot i::ws,ρ=>match ρ[i]?,z7 ms ws ρ with
  | some (some (.ow _ d)),some ds=>some (d::ds)
  | _,_=>none
 | _,_,_=>none
noncomputable def o9:List Bool→List W→List Nat
 | true::ms,.slot i::ws=>i::o9 ms ws
 | _::ms,_::ws=>o9 ms ws
 | _,_=>[]
noncomputable def C9 (ρ:i9):List Bool→List W→List Nat
 | false::ms,.slot i::ws=>match ρ[i]? with
  | some (some (.ow _ _))=>i::C9 ρ ms ws
  | _=>C9 ρ ms ws
 | _::ms,_::ws=>C9 ρ ms ws
 | _,_=>[]
noncomputable def a3i:List Nat→List D→i9→Option i9
 | [],[],ρ=>some ρ
 | i::is,d::ds,ρ=>match ρ[i]? with
  | some (some (.ow l _))=>a3i is ds (ρ.set i (some (.ow l d)))
  | _=>none
 | _,_,_=>none
noncomputable def Z0:List Nat→i9→Option i9
 | [],ρ=>some ρ
 | i::is,ρ=>match ρ[i]? with
  | some (some (.ow false d))=>Z0 is (ρ.set i (some (.sh d)))
  | some (some (.sh _))=>Z0 is ρ
  | _=>none
noncomputable def U6 (ls bs:List Nat):Bool:=decide ls.Nodup && ls.all fun i=>!bs.contains i
noncomputable def a1W (ms:List Bool)(fm:List D→Option FR)(ws:List W):M W:=fun ρ=>match z7 ms ws ρ with
 | none=>none
 | some ds=>if U6 (o9 ms ws) (C9 ρ ms ws)=true then match fm ds with
  | some (.ret w fin)=>match a3i (o9 ms ws) fin ρ with
   | none=>none
   | some ρ1=>if (a5l w && fin.all a0J)=true then some (.ok w ρ1) else (Z0 (C9 ρ ms ws) ρ1).map (R'.ok w ·)
  | _=>none
  else none
noncomputable def k8 (ms:List Bool)(fm:List D→Option FR)(m:M (List W)):M W:=M.bind m fun ws=>a1W ms fm ws
noncomputable def j4 (σ:St)(is:List Nat):List Addr:=is.filterMap fun i=>match σ[i]? with
 | some (some (V.ref p))=>some p
 | _=>none
section
variable {B:Bs}{G H:Hp}{σ:St}{ρ:i9}
theorem v9 {is:List Nat}{p:Addr}:p∈j4 σ is↔∃ i∈is,σ[i]?=some (some (.ref p)):=by
 unfold j4
 rw [List.mem_filterMap]
 constructor
 ·rintro ⟨i,hi,e⟩
  refine ⟨i,hi,?_⟩
  split at e
  ·cases e; assumption
  ·cases e
 ·rintro ⟨i,hi,e⟩
  exact ⟨i,hi,by rw [e]⟩
noncomputable def plus (G H:Hp)(bs:List Addr):Hp:=fun b=>if b∈bs then H b else G b
theorem C0 {bs:List Addr}{b:Addr}(h:b∈bs):plus G H bs b=H b:=if_pos h
theorem u0 {bs:List Addr}{b:Addr}(h:b∉bs):plus G H bs b=G b:=if_neg h
theorem V0:∀ {ms:List Bool} {ws:List W} {i:Nat},i∈C9 ρ ms ws→∃ l d,ρ[i]?=some (some (.ow l d))
 | [],[],i,h=>by cases h
 | [],_::_,i,h=>by cases h
 | true::_,[],i,h=>by cases h
 | false::_,[],i,h=>by cases h
 | true::ms,w::ws,i,h=>by
  have h':i∈C9 ρ ms ws:=by cases w <;> exact h
  exact V0 h'
 | false::ms,.val _::ws,i,h=>V0 (ms:=ms) (ws:=ws) h
 | false::ms,.own _::ws,i,h=>V0 (ms:=ms) (ws:=ws) h
 | false::ms,.slot j::ws,i,h=>by
  unfold C9 at h
  split at h
  ·rename_i l d hj
   rcases List.mem_cons.mp h with rfl | h
   ·exact ⟨l,d,hj⟩
   ·exact V0 h
  ·exact V0 h
theorem args_call (R:RS B G H σ ρ){bs:List Addr}(g1:d8 G (plus G H bs)):∀ {ms:List Bool} {ws:List W} {vs:List V} {ds:List D},F1 B G H σ ρ vs ws→z7 ms ws ρ=some ds→(∀ i∈C9 ρ ms ws,∀ p,σ[i]?=some (some (.ref p))→p∈bs)→(∀ i∈o9 ms ws,∀ p,σ[i]?=some (some (.ref p))→p∉bs)→(o9 ms ws).Nodup→
  J3 B.K (plus G H bs) H ms vs ds (j4 σ (o9 ms ws))
 | [],[],_,ds,q,e,_,_,_=>by cases q; cases e; exact .nil
 | [],_::_,_,_,_,e,_,_,_=>by cases e
 | true::_,[],_,_,_,e,_,_,_=>by cases e
 | false::_,[],_,_,_,e,_,_,_=>by cases e
 | false::ms,w::ws,_,ds,q,e,hb,hl,nd=>by
  cases q with
  | @cons v _ vs _ h t=>
   unfold z7 at e
   cases h1:getD w ρ with
   | none=>rw [h1] at e; cases e
   | some d=>
    cases h2:z7 ms ws ρ with
    | none=>rw [h1,h2] at e; cases e
    | some ds2=>
     rw [h1,h2] at e
     cases e
     have el:o9 (false::ms) (w::ws)=o9 ms ws:=by cases w <;> rfl
     rw [el] at hl nd ⊢
     have hb2:∀ i∈C9 ρ ms ws,∀ p,σ[i]?=some (some (.ref p))→p∈bs:=fun i hi=>hb i (by
      cases w with
      | slot j=>
       unfold C9
       split
       ·exact List.mem_cons_of_mem _ hi
       ·exact hi
      | val _=>exact hi
      | own _=>exact hi)
     refine .sh ?_ (args_call R g1 t h2 hb2 hl nd)
     rcases h.1.get R h1 with r | ⟨p,rfl,o⟩
     ·exact r.same g1
     ·
      cases w with
      | val _=>cases h1; exact Rep.same g1 h.1
      | own _=>exact absurd (show false=true from h.2) Bool.false_ne_true
      | slot j=>
       have hv:σ[j]?=some (some (.ref p)):=h.1
       have hj:∃ l d',ρ[j]?=some (some (.ow l d'))∨(∃ d',ρ[j]?=some (some (.sh d')))∨∃ es,ρ[j]?=some (some (.fz es)):=by
        unfold getD at h1
        simp only [] at h1
        split at h1
        ·rename_i d' q; exact ⟨true,d',.inr (.inl ⟨_,q⟩)⟩
        ·rename_i l d' q; exact ⟨l,d',.inl q⟩
        ·rename_i es q; exact ⟨true,.t6,.inr (.inr ⟨es,q⟩)⟩
        ·cases h1
       obtain ⟨l,d',hj | ⟨d2,hj⟩ | ⟨es,hj⟩⟩:=hj
       ·have ed:d=d':=by
         unfold getD at h1
         simp only [hj] at h1
         exact (Option.some.inj h1).symm
        subst ed
        have hp:p∈bs:=hb j (by unfold C9; rw [hj]; exact List.mem_cons_self) p hv
        cases d with
        | lst ds=>
         obtain ⟨xs,e,r⟩:=o
         have r':=r.same g1
         exact .lst (L4.of (by rw [C0 hp]; exact e)) r'.len r'.get
        | dct es=>
         obtain ⟨xs,e,r⟩:=o
         have r':=r.same g1
         exact .dct (.inl (by rw [C0 hp]; exact e)) r'.keys r'.get
        | _=>exact (show False from o).elim
       ·obtain ⟨v',q1,r⟩:=R.sh j d2 hj
        rw [hv] at q1
        cases q1
        have ed:d=d2:=by
         unfold getD at h1
         simp only [hj] at h1
         exact (Option.some.inj h1).symm
        subst ed
        exact r.same g1
       ·obtain ⟨a,ob,kvs,q1,q2,q3⟩:=R.fz j es hj
        rw [hv] at q1
        cases q1
        have ed:d=.dct es:=by
         unfold getD at h1
         simp only [hj] at h1
         exact (Option.some.inj h1).symm
        subst ed
        have r':=q3.same g1
        exact .dct (.inr ⟨ob,g1 _ _ q2⟩) r'.keys r'.get
 | true::ms,.val _::ws,_,ds,q,e,_,_,_=>by cases e
 | true::ms,.own _::ws,_,ds,q,e,_,_,_=>by cases e
 | true::ms,.slot i::ws,_,ds,q,e,hb,hl,nd=>by
  cases q with
  | @cons v _ vs _ h t=>
   unfold z7 at e
   split at e
   ·rename_i l d ds2 hi h2
    cases e
    have hv:σ[i]?=some (some v):=h.1
    obtain ⟨p,q1,q2,q3,q4,q5⟩:=R.ow i l d hi
    rw [hv] at q1
    cases q1
    have el:o9 (true::ms) (.slot i::ws)=i::o9 ms ws:=rfl
    rw [el] at hl nd ⊢
    obtain ⟨n1,n2⟩:=List.nodup_cons.mp nd
    have ea:j4 σ (i::o9 ms ws)=p::j4 σ (o9 ms ws):=by
     unfold j4
     rw [List.filterMap_cons,hv]
    rw [ea]
    have hp:p∉bs:=hl i List.mem_cons_self p hv
    refine .ln (by rw [u0 hp]; exact q2) (q5.same g1 rfl) (fun m=>?_) (args_call R g1 t h2 (fun j hj=>hb j hj) (fun j hj=>hl j (List.mem_cons_of_mem _ hj)) n2)
    obtain ⟨j,hj,ej⟩:=v9.mp m
    have hoj:∃ l d,ρ[j]?=some (some (.ow l d)):=by
     clear hl n1 n2 nd ea m
     have key:∀ {ms:List Bool} {ws:List W} {ds:List D},z7 ms ws ρ=some ds→∀ j∈o9 ms ws,∃ l d,ρ[j]?=some (some (.ow l d)):=by
      intro ms
      induction ms with
      | nil=>intro ws ds e j hj; cases ws <;> cases hj
      | cons m ms ih=>
       intro ws ds e j hj
       cases ws with
       | nil=>cases m <;> cases hj
       | cons w ws=>
        cases m with
        | false=>
         have el:o9 (false::ms) (w::ws)=o9 ms ws:=by cases w <;> rfl
         rw [el] at hj
         unfold z7 at e
         split at e
         ·rename_i h2; exact ih h2 j hj
         ·cases e
        | true=>
         cases w with
         | val _=>cases e
         | own _=>cases e
         | slot k=>
          unfold z7 at e
          split at e
          ·rename_i l d ds2 hk h2
           rcases List.mem_cons.mp hj with rfl | hj
           ·exact ⟨l,d,hk⟩
           ·exact ih h2 j hj
          ·cases e
     exact key h2 j hj
    obtain ⟨l2,d2,hj2⟩:=hoj
    have:=R.inj i j l d l2 d2 p hi hj2 hv ej
    subst this
    exact n1 hj
   ·cases e
theorem a5i:∀ {is:List Nat} {ds:List D} {ρ ρ':i9},a3i is ds ρ=some ρ'→is.Nodup→ρ'.length=ρ.length∧(∀ i,i∉is→ρ'[i]?=ρ[i]?)∧∀ (k i:Nat),is[k]?=some i→∃ l d d',ρ[i]?=some (some (.ow l d))∧ds[k]?=some d'∧ρ'[i]?=some (some (.ow l d'))
 | [],[],ρ,ρ',e,_=>by cases e; exact ⟨rfl,fun _ _=>rfl,fun k i h=>by simp at h⟩
 | [],_::_,_,_,e,_=>by cases e
 | _::_,[],_,_,e,_=>by cases e
 | i::is,d::ds,ρ,ρ',e,nd=>by
  unfold a3i at e
  split at e
  ·rename_i l d0 hi
   have hil:i < ρ.length:=(List.getElem?_eq_some_iff.mp hi).1
   obtain ⟨n1,n2⟩:=List.nodup_cons.mp nd
   obtain ⟨a,b,c⟩:=a5i e n2
   refine ⟨by rw [a]; simp,fun j hj=>?_,fun k j hk=>?_⟩
   ·rw [b j fun m=>hj (List.mem_cons_of_mem _ m),List.getElem?_set_ne fun z=>hj (by rw [z]; exact List.mem_cons_self)]
   ·cases k with
    | zero=>
     simp at hk
     subst hk
     exact ⟨l,d0,d,hi,rfl,by rw [b i n1,List.getElem?_set_self hil]⟩
    | succ k=>
     have hk':is[k]?=some j:=by simpa using hk
     obtain ⟨l',d1,d2,e1,e2,e3⟩:=c k j hk'
     have hne:i≠j:=fun z=>n1 (by rw [z]; exact List.mem_of_getElem? hk')
     rw [List.getElem?_set_ne hne] at e1
     exact ⟨l',d1,d2,e1,by simpa using e2,e3⟩
  ·cases e
theorem a0u:∀ {is:List Nat} {ρ ρ':i9},Z0 is ρ=some ρ'→ρ'.length=ρ.length∧(∀ i,i∉is→ρ'[i]?=ρ[i]?)∧∀ i∈is,∃ d,ρ'[i]?=some (some (.sh d))∧(ρ[i]?=some (some (.ow false d))∨ρ[i]?=some (some (.sh d)))
 | [],ρ,ρ',e=>by cases e; exact ⟨rfl,fun _ _=>rfl,fun i h=>by cases h⟩
 | i::is,ρ,ρ',e=>by
  unfold Z0 at e
  split at e
  ·rename_i d hi
   have hil:i < ρ.length:=(List.getElem?_eq_some_iff.mp hi).1
   obtain ⟨a,b,c⟩:=a0u e
   refine ⟨by rw [a]; simp,fun j hj=>?_,fun j hj=>?_⟩
   ·rw [b j fun m=>hj (List.mem_cons_of_mem _ m),List.getElem?_set_ne fun z=>hj (by rw [z]; exact List.mem_cons_self)]
   ·by_cases z:i=j
    ·subst z
     by_cases m:i∈is
     ·obtain ⟨d',e1,e2⟩:=c i m
      rw [List.getElem?_set_self hil] at e2
      rcases e2 with e2 | e2
      ·cases e2
      ·cases e2
       exact ⟨d,e1,.inl hi⟩
     ·exact ⟨d,by rw [b i m,List.getElem?_set_self hil],.inl hi⟩
    ·have hj':j∈is:=by rcases List.mem_cons.mp hj with h | h; exact absurd h.symm z; exact h
     obtain ⟨d',e1,e2⟩:=c j hj'
     rw [List.getElem?_set_ne z] at e2
     exact ⟨d',e1,e2⟩
  ·rename_i d hi
   obtain ⟨a,b,c⟩:=a0u e
   refine ⟨a,fun j hj=>b j fun m=>hj (List.mem_cons_of_mem _ m),fun j hj=>?_⟩
   rcases List.mem_cons.mp hj with rfl | hj
   ·by_cases m:j∈is
    ·exact c j m
    ·exact ⟨d,by rw [b j m]; exact hi,.inr hi⟩
   ·exact c j hj
  ·cases e
theorem a3S:∀ {is:List Nat} {k i:Nat} {p:Addr},(∀ j∈is,∃ q,σ[j]?=some (some (.ref q)))→is[k]?=some i→σ[i]?=some (some (.ref p))→(j4 σ is)[k]?=some p
 | [],k,i,p,_,h,_=>by simp at h
 | j::is,k,i,p,ha,h,e=>by
  obtain ⟨q,hq⟩:=ha j List.mem_cons_self
  have ea:j4 σ (j::is)=q::j4 σ is:=by
   unfold j4
   rw [List.filterMap_cons,hq]
  rw [ea]
  cases k with
  | zero=>
   simp at h
   subst h
   rw [hq] at e
   cases e
   rfl
  | succ k=>exact a3S (fun l hl=>ha l (List.mem_cons_of_mem _ hl)) (by simpa using h) e
theorem a2A {α β:Type}{F:α→β→Prop}:∀ {xs:List α} {ys:List β} {k:Nat} {x:α} {y:β},Paired F xs ys→xs[k]?=some x→ys[k]?=some y→F x y
 | _,_,0,_,_,.cons h _,a,b=>by simp at a b; subst a b; exact h
 | _,_,k + 1,_,_,.cons _ t,a,b=>a2A (k:=k) t (by simpa using a) (by simpa using b)
 | _,_,_,_,_,.nil,a,_=>by simp at a
theorem b2F {p:Addr}{d:D}{K:PySem.W.Frag}(o:y9 K G H p d):a5J (H p):=by
 cases d with
 | lst ds=>obtain ⟨xs,e,_⟩:=o; rw [e]; exact True.intro
 | dct es=>obtain ⟨xs,e,_⟩:=o; rw [e]; exact True.intro
 | _=>exact (show False from o).elim
theorem E6 {bi li:List Nat}{G' H':Hp}{fin:List D}{ρ1 ρ2:i9}{v:V}{w:W}(R:RS B G H σ ρ)(hbi:∀ i∈bi,∃ l d,ρ[i]?=some (some (.ow l d)))(hli:∀ i∈li,∃ l d,ρ[i]?=some (some (.ow l d)))(nd:li.Nodup)(ap:∀ i∈li,i∉bi)
  (A:After B.K (plus G H (j4 σ bi)) H (j4 σ li) G' H' fin) (hs:a3i li fin ρ=some ρ1) (rr:a2g B.K H G' H' v w)
  (hend:((a5l w && fin.all a0J)=true∧ρ2=ρ1)∨Z0 bi ρ1=some ρ2):∃ Gn,d8 G Gn∧RS B Gn H' σ ρ2∧C8 B Gn H' σ ρ2 v w:=by
 have refs:∀ {i l d},ρ[i]?=some (some (.ow l d))→∃ p,σ[i]?=some (some (.ref p))∧G p=none∧B.HK p=none∧Lnt B i l p∧y9 B.K G H p d:=fun h=>R.ow _ _ _ h
 have hlr:∀ j∈li,∃ q,σ[j]?=some (some (.ref q)):=fun j hj=>by
  obtain ⟨l,d,h⟩:=hli j hj
  obtain ⟨p,q,_⟩:=refs h
  exact ⟨p,q⟩
 have inB:∀ {b},b∈j4 σ bi→∃ i l d,i∈bi∧ρ[i]?=some (some (.ow l d))∧σ[i]?=some (some (.ref b))∧G b=none∧B.HK b=none∧Lnt B i l b∧y9 B.K G H b d:=fun {b} hb=>by
  obtain ⟨i,hi,e⟩:=v9.mp hb
  obtain ⟨l,d,h⟩:=hbi i hi
  obtain ⟨p,q1,q2,q3,q4,q5⟩:=refs h
  rw [e] at q1
  cases q1
  exact ⟨i,l,d,hi,h,e,q2,q3,q4,q5⟩
 have inL:∀ {b},b∈j4 σ li→∃ i l d,i∈li∧ρ[i]?=some (some (.ow l d))∧σ[i]?=some (some (.ref b))∧G b=none∧B.HK b=none:=fun {b} hb=>by
  obtain ⟨i,hi,e⟩:=v9.mp hb
  obtain ⟨l,d,h⟩:=hli i hi
  obtain ⟨p,q1,q2,q3,q4,q5⟩:=refs h
  rw [e] at q1
  cases q1
  exact ⟨i,l,d,hi,h,e,q2,q3⟩
 have s1:d8 G (plus G H (j4 σ bi)):=fun b o e=>by
  rw [u0 fun m=>?_]
  ·exact e
  ·obtain ⟨_,_,_,_,_,_,g,_⟩:=inB m
   rw [e] at g
   cases g
 have s2:d8 G G':=s1.trans A.gg
 have bsLD:∀ b∈j4 σ bi,a5J (G' b):=fun b hb=>by
  obtain ⟨i,l,d,_,_,_,_,_,_,o⟩:=inB hb
  obtain ⟨ob,hob⟩:=o.some
  have e:=A.gg b ob (by rw [C0 hb]; exact hob)
  have z:=b2F o
  rw [hob] at z
  rw [e]
  exact z
 obtain ⟨len1,out1,at1⟩:=a5i hs nd
 
 have keepH:∀ b o,H b=some o→b∉j4 σ li→H' b=some o:=fun b o e hb=>A.keep b o (by rw [K8 hb]; exact e)
 have keepK:d8 B.HK H':=fun b o e=>keepH b o (R.keep b o e) fun m=>by
  obtain ⟨_,_,_,_,_,_,_,hk⟩:=inL m
  rw [e] at hk
  cases hk
 have notG':∀ p,G p=none→p∉j4 σ bi→(∃ o,H p=some o)→G' p=none:=fun p g nb ⟨o,ho⟩=>by
  cases hg:G' p with
  | none=>rfl
  | some ob=>
   rcases A.gnew p ob hg with z | z
   ·rw [u0 nb,g] at z; cases z
   ·rw [ho] at z; cases z
 
 have lentOk:∀ {i},i∈li→∀ {l d'},ρ1[i]?=some (some (.ow l d'))→∃ p,σ[i]?=some (some (.ref p))∧G' p=none∧B.HK p=none∧Lnt B i l p∧y9 B.K G' H' p d'∧d'∈fin:=fun {i} hi {l d'} e=>by
  obtain ⟨k,hk⟩:=List.getElem?_of_mem hi
  obtain ⟨l0,d0,d1,e0,e1,e2⟩:=at1 k i hk
  rw [e] at e2
  cases e2
  obtain ⟨p,q1,q2,q3,q4,q5⟩:=refs e0
  have hp:=a3S hlr hk q1
  obtain ⟨z1,z2⟩:=a2A A.lent hp e1
  exact ⟨p,q1,z1,q3,q4,z2,List.mem_of_getElem? e1⟩
 have otherOk:∀ {i},i∉li→∀ {l d'},ρ1[i]?=some (some (.ow l d'))→∃ p,σ[i]?=some (some (.ref p))∧G p=none∧B.HK p=none∧Lnt B i l p∧y9 B.K G H p d'∧H' p=H p∧ρ[i]?=some (some (.ow l d')):=fun {i} hi {l d'} e=>by
  rw [out1 i hi] at e
  obtain ⟨p,q1,q2,q3,q4,q5⟩:=refs e
  obtain ⟨o,ho⟩:=q5.some
  refine ⟨p,q1,q2,q3,q4,q5,?_,e⟩
  rw [ho]
  refine keepH p o ho fun m=>?_
  obtain ⟨j,l2,d2,hj,ej,ej2,_⟩:=inL m
  exact hi (by rw [R.inj i j _ _ _ _ p e ej q1 ej2]; exact hj)
 have sh1:∀ {i:Nat} {d':D},ρ1[i]?=some (some (C.sh d'))→ρ[i]?=some (some (C.sh d')):=fun {i d'} e=>by
  by_cases hi:i∈li
  ·obtain ⟨k,hk⟩:=List.getElem?_of_mem hi
   obtain ⟨l0,d0,d1,e0,e1,e2⟩:=at1 k i hk
   rw [e] at e2
   cases e2
  ·rw [out1 i hi] at e
   exact e
 have fz1:∀ {i:Nat} {es:List (Key×D)},ρ1[i]?=some (some (C.fz es))→ρ[i]?=some (some (C.fz es)):=fun {i es} e=>by
  by_cases hi:i∈li
  ·obtain ⟨k,hk⟩:=List.getElem?_of_mem hi
   obtain ⟨l0,d0,d1,e0,e1,e2⟩:=at1 k i hk
   rw [e] at e2
   cases e2
  ·rw [out1 i hi] at e
   exact e
 have inj1:∀ {i j:Nat} {l:Bool} {d:D} {k:Bool} {e:D} {p:Addr},ρ1[i]?=some (some (.ow l d))→ρ1[j]?=some (some (.ow k e))→σ[i]?=some (some (.ref p))→σ[j]?=some (some (.ref p))→i=j:=fun {i j l d k e p} a b c f=>by
  have old:∀ {i:Nat} {l:Bool} {d:D},ρ1[i]?=some (some (.ow l d))→∃ l d,ρ[i]?=some (some (.ow l d)):=fun {i l d} a=>by
   by_cases hi:i∈li
   ·exact hli i hi
   ·rw [out1 i hi] at a; exact ⟨_,_,a⟩
  obtain ⟨l1,d1,a1⟩:=old a
  obtain ⟨l2,d2,a2⟩:=old b
  exact R.inj i j l1 d1 l2 d2 p a1 a2 c f
 have ob1:∀ {i:Nat} {c:C},isO c=true→ρ1[i]?=some (some c)→ρ[i]?=some (some c):=fun {i c} z e=>by
  by_cases hi:i∈li
  ·obtain ⟨k,hk⟩:=List.getElem?_of_mem hi
   obtain ⟨l0,d0,d1,e0,e1,e2⟩:=at1 k i hk
   rw [e] at e2
   cases e2
   cases z
  ·rw [out1 i hi] at e
   exact e
 have ot1:∀ {i:Nat} {d:D},ρ1[i]?=some (some (C.ow true d))→∃ d0,ρ[i]?=some (some (C.ow true d0)):=fun {i d} e=>by
  by_cases hi:i∈li
  ·obtain ⟨k,hk⟩:=List.getElem?_of_mem hi
   obtain ⟨l0,d0,d1,e0,e1,e2⟩:=at1 k i hk
   rw [e] at e2
   cases e2
   exact ⟨_,e0⟩
  ·rw [out1 i hi] at e
   exact ⟨_,e⟩
 have insH:∀ p C dx fs,H p=some (.ins C dx fs)→H' p=some (.ins C dx fs):=fun p C dx fs e=>keepH p _ e fun m=>by
  obtain ⟨i,hi,e2⟩:=v9.mp m
  obtain ⟨l,d,h⟩:=hli i hi
  obtain ⟨p',q1,_,_,_,q5⟩:=refs h
  rw [e2] at q1
  cases q1
  exact a0G q5 e rfl
 have insB:∀ p C dx fs,H p=some (.ins C dx fs)→p∉j4 σ bi:=fun p C dx fs e m=>by
  obtain ⟨i,l,d,_,_,_,_,_,_,o⟩:=inB m
  exact a0G o e rfl
 rcases hend with ⟨hf,rfl⟩ | hsh
 ·
  rw [Bool.and_eq_true] at hf
  obtain ⟨fw,ff⟩:=hf
  have sN:d8 G (minus G' (j4 σ bi)):=fun b o e=>by
   rw [K8 fun m=>?_]
   ·exact s2 b o e
   ·obtain ⟨_,_,_,_,_,_,g,_⟩:=inB m
    rw [e] at g
    cases g
  refine ⟨minus G' (j4 σ bi),sN,⟨R.hk,keepK,R.g0.trans sN,(O9 _ _).trans A.gH,fun b o e=>?_,fun b e=>R.dom b (A.dom b e),by rw [len1]; exact R.len,fun i d e=>?_,fun i l d e=>?_,fun i j l d k e p a b c f=>inj1 a b c f,fun i es e=>(R.fz.same sN) i es (fz1 e),R.ob.to sN (fun p C dx fs e g=>by rw [K8 (insB p C dx fs e)]; exact notG' p g (insB p C dx fs e) ⟨_,e⟩) (fun p C dx fs e _ _=>insH p C dx fs e) (fun i c z e=>⟨ob1 z e,rfl⟩) fun j d e=>⟨ot1 e,rfl⟩⟩,?_⟩
  ·have e':=O9 _ _ b o e
   have nb:b∉j4 σ bi:=fun m=>by rw [a2G m] at e; cases e
   rcases A.gnew b o e' with z | z
   ·rw [u0 nb] at z
    exact R.gnew b o z
   ·exact .inr (R.dom b z)
  ·obtain ⟨v,q1,q2⟩:=R.sh i d (sh1 e)
   exact ⟨v,q1,q2.same sN⟩
  ·by_cases hi:i∈li
   ·obtain ⟨p,q1,q2,q3,q4,q5,q6⟩:=lentOk hi e
    refine ⟨p,q1,?_,q3,q4,q5.minus bsLD (List.all_eq_true.mp ff d q6)⟩
    unfold minus
    split
    ·rfl
    ·exact q2
   ·obtain ⟨p,q1,q2,q3,q4,q5,q6,q7⟩:=otherOk hi e
    refine ⟨p,q1,?_,q3,q4,q5.same sN q6⟩
    unfold minus
    split
    ·rfl
    ·exact notG' p q2 ‹_› q5.some
  ·cases w with
   | val d=>exact Rep.minus 6 bsLD fw rr
   | slot i=>exact rr.elim
   | own d=>
    obtain ⟨p,rfl,g,h0,o⟩:=rr
    have fo:a0J d=true:=by
     cases d with
     | lst ds=>exact fw
     | dct es=>exact fw
     | _=>exact (show False from o).elim
    refine ⟨p,rfl,?_,R.dom p h0,o.minus bsLD fo,fun i l e he z=>?_⟩
    ·unfold minus
     split
     ·rfl
     ·exact g
    ·have hz:∃ ob,H p=some ob:=by
      by_cases hi:i∈li
      ·obtain ⟨l0,d0,a0⟩:=hli i hi
       obtain ⟨p',q1,_,_,_,q5⟩:=refs a0
       rw [z] at q1
       cases q1
       exact q5.some
      ·obtain ⟨p',q1,q2,q3,q4,q5,_⟩:=otherOk hi he
       rw [z] at q1
       cases q1
       exact q5.some
     obtain ⟨ob,hob⟩:=hz
     rw [h0] at hob
     cases hob
 ·
  obtain ⟨len2,out2,at2⟩:=a0u hsh
  have ow2:∀ {i:Nat} {l:Bool} {d:D},ρ2[i]?=some (some (.ow l d))→i∉bi∧ρ1[i]?=some (some (.ow l d)):=fun {i l d} e=>by
   have hi:i∉bi:=fun m=>by
    obtain ⟨d',e1,_⟩:=at2 i m
    rw [e] at e1
    cases e1
   exact ⟨hi,by rw [← out2 i hi]; exact e⟩
  have fz2:∀ {i:Nat} {es:List (Key×D)},ρ2[i]?=some (some (C.fz es))→ρ1[i]?=some (some (C.fz es)):=fun {i es} e=>by
   have hi:i∉bi:=fun m=>by
    obtain ⟨d',e1,_⟩:=at2 i m
    rw [e] at e1
    cases e1
   rw [← out2 i hi]
   exact e
  have ob2:∀ {i:Nat} {c:C},isO c=true→ρ2[i]?=some (some c)→ρ1[i]?=some (some c):=fun {i c} z e=>by
   have hi:i∉bi:=fun m=>by
    obtain ⟨d',e1,_⟩:=at2 i m
    rw [e] at e1
    cases e1
    cases z
   rw [← out2 i hi]
   exact e
  refine ⟨G',s2,⟨R.hk,keepK,R.g0.trans s2,A.gH,fun b o e=>?_,fun b e=>R.dom b (A.dom b e),by rw [len2,len1]; exact R.len,fun i d e=>?_,fun i l d e=>?_,fun i j l d k e p a b c f=>inj1 (ow2 a).2 (ow2 b).2 c f,fun i es e=>(R.fz.same s2) i es (fz1 (fz2 e)),R.ob.to s2 (fun p C dx fs e g=>notG' p g (insB p C dx fs e) ⟨_,e⟩) (fun p C dx fs e _ _=>insH p C dx fs e) (fun i c z e=>⟨ob1 z (ob2 z e),rfl⟩) fun j d e=>⟨ot1 (ow2 e).2,rfl⟩⟩,?_⟩
  ·rcases A.gnew b o e with z | z
   ·by_cases m:b∈j4 σ bi
    ·obtain ⟨i,l,d,hi,h,e2,g,_,ln,o'⟩:=inB m
     obtain ⟨d',e3,e4⟩:=at2 i hi
     have hil:i∉li:=fun mm=>ap i mm hi
     rw [out1 i hil,h] at e4
     rcases e4 with e4 | e4
     ·cases e4
      exact .inr ln
     ·cases e4
    ·rw [u0 m] at z
     exact R.gnew b o z
   ·exact .inr (R.dom b z)
  ·by_cases hi:i∈bi
   ·obtain ⟨d',e1,e2⟩:=at2 i hi
    rw [e] at e1
    cases e1
    have hil:i∉li:=fun mm=>ap i mm hi
    rw [out1 i hil] at e2
    rcases e2 with e2 | e2
    ·obtain ⟨p,q1,q2,q3,q4,q5⟩:=refs e2
     have hp:p∈j4 σ bi:=v9.mpr ⟨i,hi,q1⟩
     refine ⟨_,q1,?_⟩
     cases d with
     | lst ds=>
      obtain ⟨xs,e,r⟩:=q5
      have r':=r.same s2
      exact .lst (L4.of (A.gg p _ (by rw [C0 hp]; exact e))) r'.len r'.get
     | dct es=>
      obtain ⟨xs,e,r⟩:=q5
      have r':=r.same s2
      exact .dct (.inl (A.gg p _ (by rw [C0 hp]; exact e))) r'.keys r'.get
     | _=>exact (show False from q5).elim
    ·obtain ⟨v,q1,q2⟩:=R.sh i d e2
     exact ⟨v,q1,q2.same s2⟩
   ·rw [out2 i hi] at e
    obtain ⟨v,q1,q2⟩:=R.sh i d (sh1 e)
    exact ⟨v,q1,q2.same s2⟩
  ·obtain ⟨hb,e1⟩:=ow2 e
   by_cases hi:i∈li
   ·obtain ⟨p,q1,q2,q3,q4,q5,_⟩:=lentOk hi e1
    exact ⟨p,q1,q2,q3,q4,q5⟩
   ·obtain ⟨p,q1,q2,q3,q4,q5,q6,q7⟩:=otherOk hi e1
    refine ⟨p,q1,notG' p q2 (fun m=>?_) q5.some,q3,q4,q5.same s2 q6⟩
    obtain ⟨j,l2,d2,hj,ej,ej2,_⟩:=inB m
    exact hb (by rw [R.inj i j _ _ _ _ p q7 ej q1 ej2]; exact hj)
  ·cases w with
   | val d=>exact rr
   | slot i=>exact rr.elim
   | own d=>
    obtain ⟨p,rfl,g,h0,o⟩:=rr
    refine ⟨p,rfl,g,R.dom p h0,o,fun i l e he z=>?_⟩
    obtain ⟨hb,e1⟩:=ow2 he
    have hz:∃ ob,H p=some ob:=by
     by_cases hi:i∈li
     ·obtain ⟨l0,d0,a0⟩:=hli i hi
      obtain ⟨p',q1,_,_,_,q5⟩:=refs a0
      rw [z] at q1
      cases q1
      exact q5.some
     ·obtain ⟨p',q1,q2,q3,q4,q5,_⟩:=otherOk hi e1
      rw [z] at q1
      cases q1
      exact q5.some
    obtain ⟨ob,hob⟩:=hz
    rw [h0] at hob
    cases hob
theorem a47:∀ {ms:List Bool} {ws:List W} {ds:List D},z7 ms ws ρ=some ds→∀ j∈o9 ms ws,∃ l d,ρ[j]?=some (some (.ow l d)):=by
 intro ms
 induction ms with
 | nil=>intro ws ds e j hj; cases ws <;> cases hj
 | cons m ms ih=>
  intro ws ds e j hj
  cases ws with
  | nil=>cases m <;> cases hj
  | cons w ws=>
   cases m with
   | false=>
    have el:o9 (false::ms) (w::ws)=o9 ms ws:=by cases w <;> rfl
    rw [el] at hj
    unfold z7 at e
    split at e
    ·rename_i h2; exact ih h2 j hj
    ·cases e
   | true=>
    cases w with
    | val _=>cases e
    | own _=>cases e
    | slot k=>
     unfold z7 at e
     split at e
     ·rename_i l d ds2 hk h2
      rcases List.mem_cons.mp hj with rfl | hj
      ·exact ⟨l,d,hk⟩
      ·exact ih h2 j hj
     ·cases e
end
section
variable {X:Cx}{B:Bs}{k:Nat}{x:Str}{ps:List Str}{ms:List Bool}{fm:List D→Option FR}{e:Expr}{es:List Expr}{mr:M (List W)}{p pos:Pos}
theorem b0L {ξ:XP}{σ:St}{H:Hp}{Q:VK}(t:TD v8 B ξ (k8 ms fm mr) σ H Q):a8X (M7 B.K ms fm) [] E0 (TD F1 B ξ mr) σ H Q:=by
 obtain ⟨G,ρ,R,t⟩:=t
 refine (TD.bind (rel:=F1) R t).mono fun vs H1 ⟨G1,ρ1,ws,s1,R1,q1,r,er,pp⟩=>?_
 rw [List.append_nil]
 unfold a1W at er
 cases ha:z7 ms ws ρ1 with
 | none=>simp only [ha] at er; cases er
 | some ds=>
  simp only [ha] at er
  split at er
  ·rename_i hap
   unfold U6 at hap
   rw [Bool.and_eq_true] at hap
   have nd:(o9 ms ws).Nodup:=of_decide_eq_true hap.1
   have ap:∀ i∈o9 ms ws,i∉C9 ρ1 ms ws:=fun i hi m=>by
    have:=List.all_eq_true.mp hap.2 i hi
    simp at this
    exact this m
   split at er
   ·rename_i w fin hfm
    split at er
    ·cases er
    ·rename_i ρ2 hs
     have hli:=a47 ha
     have hbi:∀ i∈C9 ρ1 ms ws,∃ l d,ρ1[i]?=some (some (.ow l d)):=fun i hi=>V0 hi
     have s2:d8 G1 (plus G1 H1 (j4 σ (C9 ρ1 ms ws))):=fun b o e=>by
      rw [u0 fun m=>?_]
      ·exact e
      ·obtain ⟨i,hi,e2⟩:=v9.mp m
       obtain ⟨l,d,h⟩:=hbi i hi
       obtain ⟨p',a1,a2,_⟩:=R1.ow i l d h
       rw [e2] at a1
       cases a1
       rw [e] at a2
       cases a2
     have gH:d8 (plus G1 H1 (j4 σ (C9 ρ1 ms ws))) H1:=fun b o e=>by
      by_cases m:b∈j4 σ (C9 ρ1 ms ws)
      ·rw [C0 m] at e; exact e
      ·rw [u0 m] at e; exact R1.gH b o e
     have A:=args_call R1 s2 q1 ha (fun i hi p' e=>v9.mpr ⟨i,hi,e⟩) (fun i hi p' e m=>by
      obtain ⟨j,hj,ej⟩:=v9.mp m
      obtain ⟨l,d,h⟩:=hli i hi
      obtain ⟨l2,d2,h2⟩:=hbi j hj
      have:=R1.inj i j l d l2 d2 p' h h2 e ej
      subst this
      exact ap i hi hj) nd
     refine ⟨_,ds,_,_,gH,A,hfm,fun v G' H' af rr=>?_⟩
     split at er
     ·rename_i hfl
      cases er
      obtain ⟨Gn,sn,Rn,wn⟩:=E6 R1 hbi hli nd ap af hs rr (.inl ⟨hfl,rfl⟩)
      exact pp v Gn H' sn Rn wn
     ·obtain ⟨ρ3,hsh,rfl⟩:=Option.map_eq_some_iff.mp er
      obtain ⟨Gn,sn,Rn,wn⟩:=E6 R1 hbi hli nd ap af hs rr (.inr hsh)
      exact pp v Gn H' sn Rn wn
   ·cases er
  ·cases er
theorem v7 (h:Has X.prog X.w X.K X.mg X.base k x ps (M7 X.K ms fm))(hr:C4 k X.A)(ha:PDA X B (e::es) mr)(hg:Gl X x:=by rfl)(hK:X.K=B.K:=by rfl)(hdb:(x == ("__debug__":Str))=false:=by decide)
  (he:starEach (e::es) X.env=(false,eval e X.env)::starEach es X.env:=by rfl) (hpl:(backTo pos (starEach es X.env)).any (·.1)=false:=by rfl):PD X B (.Call (.Name x p) (e::es) [] pos) (k8 ms fm mr):=.mk fun ξ=>
 (b4g (X:=rz X ξ) h hr (ha.ap ξ) hg hdb he hpl).imp fun σ H Q t=>by
  have t':=b0L t
  rw [← hK] at t'
  exact t'
end
end L3
set_option Elab.async false
set_option linter.all false
set_option maxRecDepth 100000
set_option maxHeartbeats 4000000
namespace L3
open PySem PySem.Spec PyProof.Rows L2
noncomputable def b3K (X:Cx)(scope:Scope):List (Str×Nat)→Prop
 | []=>True
 | c::r=>(X.N[c.2]?=some c.1∧scope.names.lookup c.1=some .free∧(X.env.kindOf c.1=some .cell∨X.env.kindOf c.1=some .free))∧b3K X scope r
theorem a3U {X:Cx}{scope:Scope}:∀ {cs:List (Str×Nat)},b3K X scope cs→∀ c∈cs,X.N[c.2]?=some c.1∧scope.names.lookup c.1=some .free∧(X.env.kindOf c.1=some .cell∨X.env.kindOf c.1=some .free)
 | [],_,c,h=>by cases h
 | c::r,h,c',hm=>by
  rcases List.mem_cons.mp hm with rfl | hm
  ·exact h.1
  ·exact a3U h.2 c' hm
theorem a9t {X:Cx}{scope:Scope}{x:Str}(cs:List (Str×Nat))(hc:b3K X scope cs)(kind:scope.kind=.function:=by rfl)(h:namesOk scope (cs.map (·.1))=true:=by decide +kernel)(nd:(x::cs.map (·.1)).Nodup:=by decide +kernel):Blk X scope (x::cs.map (·.1)) 1 (cs.map (·.2)):=by
 refine Blk.mk' (fs:=cs.map (·.1)) kind h nd (by simp; omega) (fun n hn=>?_) fun i j e=>?_
 ·obtain ⟨c,hm,rfl⟩:=List.mem_map.mp hn
  exact (a3U hc c hm).2.2
 ·rw [List.getElem?_map] at e
  cases hi:cs[i]? with
  | none=>rw [hi] at e; cases e
  | some c=>
   rw [hi] at e
   cases e
   obtain ⟨a,b,d⟩:=a3U hc c (List.mem_of_getElem? hi)
   refine ⟨?_,c.1,a,b,d⟩
   rw [Nat.add_comm,List.getElem?_cons_succ,List.getElem?_map,hi]
   exact a.symm
theorem _root_.L2.PE.S2 {X:Cx}{E E':Value→Shared→Prop}{e:Expr}{t:TE}(h:PE (X.t8 E) e t)(i:∀ e s,E e s→E' e s):PE (X.t8 E') e t:=fun pins s σ H Q I hw=>
 wpAny_mono (h pins s σ H Q (I.x6.t8 _) hw) (fun _ _ ⟨v,H',I',r,q⟩=>⟨v,H',I'.x6.t8 _,r,q⟩) fun e s z=>i e s z
theorem _root_.L2.PF.S2 {X:Cx}{E E':Value→Shared→Prop}{e:List Expr}{t:TT}(h:PF (X.t8 E) e t)(i:∀ e s,E e s→E' e s):PF (X.t8 E') e t:=fun pins s σ H Q I hw=>
 wpAny_mono (h pins s σ H Q (I.x6.t8 _) hw) (fun _ _ ⟨H',I',q⟩=>⟨H',I'.x6.t8 _,q⟩) fun e s z=>i e s z
theorem _root_.L2.PF.imp {X:Cx}{e:List Expr}{t t':TT}(h:PF X e t)(i:∀ σ H Q,t' σ H Q→t σ H Q):PF X e t':=fun pins s σ H Q I q=>h pins s σ H Q I (i σ H Q q)
structure PDF (X:Cx) (B:Bs) (e:List Expr) (m:M Bool):Prop where
 ap:∀ ξ,PF (rz X ξ) e (TD Y8 B ξ m)
noncomputable def a0c:M Bool:=M.pure true
theorem a4K {X:Cx}{B:Bs}:PDF X B [] a0c:=.mk fun ξ=>(b3P (X:=rz X ξ)).imp fun σ H Q t=>by
 obtain ⟨G,ρ,R,r,e,p⟩:=t
 cases e
 exact p true G H (d8.refl _) R rfl
noncomputable def b5G:Option C→Option C
 | some (.ow _ d)=>some (.sh d)
 | some (.ob _ fds)=>some (.rd fds)
 | c=>c
noncomputable def O6 (own:Nat)(fr:List Nat)(ρ:i9):i9:=List.replicate own none++fr.map fun j=>b5G (ρ[j]?).join
noncomputable def compTurn (tg:FT)(mt:M Bool)(me:M W)(ρ:i9)(d:D):Option (Option D):=match tg d ρ with
 | none=>none
 | some ρ1=>match mt ρ1 with
  | some (.ok false _)=>some none
  | some (.ok true ρ2)=>match M.bind me D7 ρ2 with
   | some (.ok y _)=>some (some y)
   | _=>none
  | _=>none
noncomputable def K4 (tg:FT)(mt:M Bool)(me:M W)(ρ:i9):List D→Option (List D)
 | []=>some []
 | d::ds=>match compTurn tg mt me ρ d,K4 tg mt me ρ ds with
  | some (some y),some ys=>some (y::ys)
  | some none,some ys=>some ys
  | _,_=>none
noncomputable def a0t (ρ:i9)(fr:List Nat):List Nat:=fr.filter fun j=>match ρ[j]? with
 | some (some (.ow _ _))=>true
 | _=>false
noncomputable def a9d (tg:FT)(mt:M Bool)(me:M W)(own:Nat)(fr:List Nat)(ds:List D):M W:=fun ρ=>match K4 tg mt me (O6 own fr ρ) ds with
 | none=>none
 | some ys=>S4 (small ds.length) (if ys.all Z2=true then some (.ok (.own (.lst ys)) ρ) else (Z0 (a0t ρ fr) ρ).map (R'.ok (.own (.lst ys)) ·))
noncomputable def V6 (mi:M (List D))(tg:FT)(mt:M Bool)(me:M W)(own:Nat)(fr:List Nat):M W:=M.bind mi fun ds=>a9d tg mt me own fr ds
theorem a81 {ρ:i9}{fr:List Nat}{i:Nat}(h:i∈a0t ρ fr):i∈fr∧∃ l d,ρ[i]?=some (some (.ow l d)):=by
 unfold a0t at h
 obtain ⟨h1,h2⟩:=List.mem_filter.mp h
 refine ⟨h1,?_⟩
 split at h2
 ·exact ⟨_,_,‹_›⟩
 ·cases h2
section
variable {B:Bs}{G H:Hp}{σ:St}{ρ:i9}{own:Nat}{fr:List Nat}
theorem N7 {i:Nat}{c:C}(h:(O6 own fr ρ)[i]?=some (some c)):∃ k j,i=own + k∧fr[k]?=some j∧((∃ d,c=.sh d∧(ρ[j]?=some (some (.sh d))∨∃ l,ρ[j]?=some (some (.ow l d))))∨(∃ es,c=.fz es∧ρ[j]?=some (some (.fz es)))∨∃ fds,c=.rd fds∧(ρ[j]?=some (some (.rd fds))∨∃ l,ρ[j]?=some (some (.ob l fds)))):=by
 unfold O6 at h
 by_cases hi:i < own
 ·rw [List.getElem?_append_left (by simpa using hi),List.getElem?_replicate,if_pos hi] at h
  cases h
 ·rw [List.getElem?_append_right (by simpa using hi)] at h
  simp only [List.length_replicate,List.getElem?_map] at h
  cases e:fr[i - own]? with
  | none=>rw [e] at h; cases h
  | some j=>
   rw [e] at h
   simp only [Option.map_some,Option.some.injEq] at h
   refine ⟨i - own,j,by omega,e,?_⟩
   cases q:ρ[j]? with
   | none=>rw [q] at h; cases h
   | some o=>
    rw [q] at h
    cases o with
    | none=>cases h
    | some c0=>
     cases c0 with
     | sh d=>cases h; exact .inl ⟨d,rfl,.inl rfl⟩
     | ow l d=>cases h; exact .inl ⟨d,rfl,.inr ⟨l,rfl⟩⟩
     | fz es=>cases h; exact .inr (.inl ⟨es,rfl,rfl⟩)
     | ob l fds=>cases h; exact .inr (.inr ⟨fds,rfl,.inr ⟨l,rfl⟩⟩)
     | rd fds=>cases h; exact .inr (.inr ⟨fds,rfl,.inl rfl⟩)
theorem a00 {k j:Nat}{v:V}(h:fr[k]?=some j)(e:σ[j]?=some (some v)):(seen own fr σ)[own + k]?=some (some v):=by
 unfold L2.seen
 rw [List.getElem?_append_right (by simp)]
 simp only [List.length_replicate,List.getElem?_map,Nat.add_sub_cancel_left,h,Option.map_some,e]
 rfl
theorem a9o {H1 H2 Gb:Hp}(R:RS B G H1 σ ρ)(sg:d8 (plus G H1 (j4 σ (a0t ρ fr))) Gb)(gb:d8 Gb H2)(kp:d8 H1 H2)(gnew:∀ p o,Gb p=some o→plus G H1 (j4 σ (a0t ρ fr)) p=some o∨H1 p=none)(dom:∀ p,H2 p=none→H1 p=none)(s0:d8 G (plus G H1 (j4 σ (a0t ρ fr)))):
  RS ⟨B.K,H1,H1,plus G H1 (j4 σ (a0t ρ fr)),fun _=>none,B.O⟩ Gb H2 (seen own fr σ) (O6 own fr ρ):=by
 refine ⟨d8.refl _,kp,sg,gb,gnew,dom,?_,fun i d e=>?_,fun i l d e=>?_,fun i j l d k e p a b=>?_,fun i es e=>?_,fun i l fds e=>?_,fun i fds e=>?_⟩
 ·rw [L2.seen_length]
  unfold O6
  simp
 ·obtain ⟨k,j,rfl,hk,⟨d',q,h⟩ | ⟨_,q,_⟩ | ⟨_,q,_⟩⟩:=N7 e <;> cases q
  rcases h with h | ⟨l,h⟩
  ·obtain ⟨v,q1,q2⟩:=R.sh j d h
   exact ⟨v,a00 hk q1,(q2.same s0).same sg⟩
  ·obtain ⟨p,q1,q2,q3,q4,q5⟩:=R.ow j l d h
   have hp:p∈j4 σ (a0t ρ fr):=v9.mpr ⟨j,List.mem_filter.mpr ⟨List.mem_of_getElem? hk,by rw [h]⟩,q1⟩
   refine ⟨_,a00 hk q1,?_⟩
   cases d with
   | lst ds=>
    obtain ⟨xs,e,r⟩:=q5
    have r':=(r.same s0).same sg
    exact .lst (L4.of (sg p _ (by rw [C0 hp]; exact e))) r'.len r'.get
   | dct es=>
    obtain ⟨xs,e,r⟩:=q5
    have r':=(r.same s0).same sg
    exact .dct (.inl (sg p _ (by rw [C0 hp]; exact e))) r'.keys r'.get
   | _=>exact (show False from q5).elim
 ·obtain ⟨k,j,rfl,hk,⟨d',q,h⟩ | ⟨_,q,_⟩ | ⟨_,q,_⟩⟩:=N7 e <;> cases q
 ·obtain ⟨k,j,rfl,hk,⟨d',q,h⟩ | ⟨_,q,_⟩ | ⟨_,q,_⟩⟩:=N7 a <;> cases q
 ·obtain ⟨k,j,rfl,hk,⟨d',q,h⟩ | ⟨es',q,h⟩ | ⟨fds',q,h⟩⟩:=N7 e <;> cases q
  obtain ⟨a,o,kvs,q1,q2,q3⟩:=R.fz j es h
  exact ⟨a,o,kvs,a00 hk q1,sg _ _ (s0 _ _ q2),(q3.same s0).same sg⟩
 ·obtain ⟨k,j,rfl,hk,⟨d',q,h⟩ | ⟨es',q,h⟩ | ⟨fds',q,h⟩⟩:=N7 e <;> cases q
 ·obtain ⟨k,j,rfl,hk,⟨d',q,h⟩ | ⟨es',q,h⟩ | ⟨fds',q,h⟩⟩:=N7 e <;> cases q
  rcases h with h | ⟨l,h⟩
  ·obtain ⟨i0,j0,C,p,dx,fs,a1,a2,a3,a4⟩:=R.ob.2 j fds h
   exact ⟨i0,j0,C,p,dx,fs,a1,a00 hk a2,R.keep _ _ a3,(a4.same s0).same sg⟩
  ·obtain ⟨j0,C,p,dx,fs,a1,a2,a3,a4,a5,a6,a7,a8⟩:=R.ob.1 j l fds h
   exact ⟨j,j0,C,p,dx,fs,a1,a00 hk a2,a6,(a7.same s0).same sg⟩
end
noncomputable abbrev X0:XP:=fun _ _ _=>False
section
variable {X:Cx}{B:Bs}{mi:M (List D)}{mt:M Bool}{me:M W}{own:Nat}{fr:List Nat}
theorem a4Z {ξ:XP}{tf:TT}{te:TE}(hf:∀ B',B'.K=B.K∧B'.O=B.O→∀ σ H Q,TD Y8 B' X0 mt σ H Q→tf σ H Q)(he:∀ B',B'.K=B.K∧B'.O=B.O→∀ σ H Q,TD v8 B' X0 me σ H Q→te σ H Q){σ:St}{H:Hp}{Q:VK}(t:TD v8 B ξ (V6 mi (tgN 0) mt me 1 fr) σ H Q):
  a3C (TDI B ξ mi) (a1p 0) tf te 1 fr σ H Q:=by
 obtain ⟨G,ρ,R,r,e,pq⟩:=t
 unfold V6 at e
 cases hm:mi ρ with
 | none=>rw [M.bind_none hm] at e; cases e
 | some r1=>
  cases r1 with
  | ex x ρ1=>
   rw [M.a1M hm] at e
   cases e
   exact ⟨G,ρ,_,R,hm,pq⟩
  | ok ds ρ1=>
   rw [M.f9 hm] at e
   refine ⟨G,ρ,_,R,hm,fun J G1 H1 s1 R1 gv=>?_⟩
   unfold a9d at e
   cases hc:K4 (tgN 0) mt me (O6 1 fr ρ1) ds with
   | none=>rw [hc] at e; cases e
   | some ys=>
    rw [hc] at e
    simp only [] at e
    obtain ⟨hz,e⟩:=j8 e
    have hbi:∀ i∈a0t ρ1 fr,∃ l d,ρ1[i]?=some (some (.ow l d)):=fun i hi=>(a81 hi).2
    have s0:d8 G1 (plus G1 H1 (j4 σ (a0t ρ1 fr))):=fun b o e=>by
     rw [u0 fun m=>?_]
     ·exact e
     ·obtain ⟨i,hi,e2⟩:=v9.mp m
      obtain ⟨l,d,h⟩:=hbi i hi
      obtain ⟨p',a1,a2,_⟩:=R1.ow i l d h
      rw [e2] at a1
      cases a1
      rw [e] at a2
      cases a2
    have gH0:d8 (plus G1 H1 (j4 σ (a0t ρ1 fr))) H1:=fun b o e=>by
     by_cases m:b∈j4 σ (a0t ρ1 fr)
     ·rw [C0 m] at e; exact e
     ·rw [u0 m] at e; exact R1.gH b o e
    generalize hGp:plus G1 H1 (j4 σ (a0t ρ1 fr))=Gp at s0 gH0
    refine ⟨fun i m zs H2=>∃ Gb acc rest,m=ds.length - i∧i≤ds.length∧d8 Gp Gb∧d8 Gb H2∧d8 H1 H2∧(∀ p o,Gb p=some o→Gp p=some o∨H1 p=none)∧(∀ p,H2 p=none→H1 p=none)∧l7 B.K Gb zs acc∧acc.length≤i∧K4 (tgN 0) mt me (O6 1 fr ρ1) (ds.drop i)=some rest∧acc++rest=ys,
     ⟨ds.length,Gp,[],ys,by simp,Nat.zero_le _,d8.refl _,gH0,d8.refl _,fun p o e=>.inl e,fun p e=>e,.nil,Nat.le_refl _,by simpa using hc,rfl⟩,?_⟩
    rintro i m zs H2 ⟨Gb,acc,rest,rfl,hle,a1,a2,a3,a4,a5,a6,a7,a8,a9⟩
    by_cases hlt:i < ds.length
    ·have ed:ds.drop i=ds[i]::ds.drop (i + 1):=List.drop_eq_getElem_cons hlt
     rw [ed] at a8
     unfold K4 at a8
     cases ht:compTurn (tgN 0) mt me (O6 1 fr ρ1) ds[i] with
     | none=>rw [ht] at a8; cases a8
     | some oy=>
      cases hr:K4 (tgN 0) mt me (O6 1 fr ρ1) (ds.drop (i + 1)) with
      | none=>rw [ht,hr] at a8; cases oy <;> cases a8
      | some rest'=>
       rw [ht,hr] at a8
       refine .inr ⟨gv.go Gb H2 i (s0.trans a1) a2 hlt,?_,fun zs' H'=>∃ Gb acc rest,d8 Gp Gb∧d8 Gb H'∧d8 H1 H'∧(∀ p o,Gb p=some o→Gp p=some o∨H1 p=none)∧(∀ p,H' p=none→H1 p=none)∧l7 B.K Gb zs' acc∧acc.length≤i + 1∧K4 (tgN 0) mt me (O6 1 fr ρ1) (ds.drop (i + 1))=some rest∧acc++rest=ys,
        fun zs' H' ⟨Gb',acc',rest',b1,b2,b3,b4,b5,b6,b7,b8,b9⟩=>⟨ds.length - (i + 1),by omega,Gb',acc',rest',rfl,hlt,b1,b2,b3,b4,b5,b6,b7,b8,b9⟩,fun x H' y=>?_⟩
       ·rw [a6.len,sizeLine_eq]; unfold small at hz; omega
       obtain ⟨rfl,d,hd,rx⟩:=gv.yld Gb H2 H' i x (s0.trans a1) a2 hlt y
       have ed2:d=ds[i]:=by
        rw [List.getElem?_eq_getElem hlt] at hd
        exact (Option.some.inj hd).symm
       subst ed2
       have Rb:RS ⟨B.K,H1,H1,Gp,fun _=>none,B.O⟩ Gb H' (seen 1 fr σ) (O6 1 fr ρ1):=by
        subst hGp
        exact a9o R1 a1 a2 a3 a4 a5 s0
       unfold compTurn at ht
       cases hg:tgN 0 ds[i] (O6 1 fr ρ1) with
       | none=>rw [hg] at ht; cases ht
       | some ρ2=>
        rw [hg] at ht
        simp only [] at ht
        have hg':=hg
        unfold tgN at hg'
        split at hg'
        ·rename_i hl0
         cases hg'
         have Rb2:=Rb.a5o hl0 rx
         show tf ((seen 1 fr σ).set 0 (some x)) H' _
         refine hf ⟨B.K,H1,H1,Gp,fun _=>none,B.O⟩ ⟨rfl,rfl⟩ _ _ _ ⟨Gb,_,Rb2,?_⟩
         cases hmt:mt ((O6 1 fr ρ1).set 0 (some (.sh ds[i]))) with
         | none=>rw [hmt] at ht; cases ht
         | some r3=>
          rw [hmt] at ht
          cases r3 with
          | ex x' ρ3=>cases ht
          | ok k ρ3=>
           refine ⟨_,hmt,fun k' G3 H3 s3 R3 qk=>?_⟩
           cases (show k'=k from qk)
           cases k with
           | false=>
            cases ht
            cases a8
            rw [if_neg Bool.false_ne_true]
            exact ⟨G3,acc,rest,a1.trans s3,R3.gH,R3.keep,R3.gnew,R3.dom,a6.same s3,by omega,hr,a9⟩
           | true=>
            rw [if_pos rfl]
            simp only [] at ht
            cases hme:M.bind me D7 ρ3 with
            | none=>rw [hme] at ht; cases ht
            | some r4=>
             rw [hme] at ht
             cases r4 with
             | ex x' ρ4=>cases ht
             | ok y' ρ4=>
              cases ht
              cases a8
              cases hm2:me ρ3 with
              | none=>rw [M.bind_none hm2] at hme; cases hme
              | some r5=>
               cases r5 with
               | ex x' ρ5=>rw [M.a1M hm2] at hme; cases hme
               | ok w ρ5=>
                rw [M.f9 hm2] at hme
                refine he ⟨B.K,H1,H1,Gp,fun _=>none,B.O⟩ ⟨rfl,rfl⟩ _ _ _ ⟨G3,ρ3,R3,_,hm2,fun v G5 H5 s5 R5 q5=>?_⟩
                obtain ⟨G6,s6,R6,r6⟩:=q5.D7 R5 hme
                have sa:=(s3.trans s5).trans s6
                exact ⟨G6,acc++[y'],rest',a1.trans sa,R6.gH,R6.keep,R6.gnew,R6.dom,(a6.same sa).append (.one r6),by rw [List.length_append]; show acc.length + 1≤i + 1; omega,hr,by rw [List.append_assoc]; exact a9⟩
        ·cases hg'
    ·have ei:i=ds.length:=by omega
     subst ei
     rw [List.drop_length] at a8
     cases a8
     rw [List.append_nil] at a9
     subst a9
     refine .inl ⟨gv.stop Gb H2 (s0.trans a1) a2,fun p hp=>?_⟩
     have gp:Gb p=none:=a2.free hp
     have sH:d8 H2 (upd H2 p (.lst zs)):=Y9 hp _
     have A:After B.K (plus G1 H1 (j4 σ (a0t ρ1 fr))) H1 (j4 σ []) Gb (upd H2 p (.lst zs)) []:=by
      rw [hGp]
      refine ⟨fun b o e=>sH b o (a3 b o (O9 _ _ b o e)),a1,a2.trans sH,a4,fun b e=>?_,.nil⟩
      by_cases z:b=p
      ·subst z; exact a5 _ hp
      ·rw [j3 z] at e; exact a5 b e
     have rr:a2g B.K H1 Gb (upd H2 p (.lst zs)) (.ref p) (.own (.lst acc)):=⟨p,rfl,gp,a5 p hp,zs,l8,a6⟩
     split at e
     ·rename_i hfl
      cases e
      obtain ⟨Gn,sn,Rn,wn⟩:=E6 (li:=[]) R1 hbi (fun i h=>by cases h) List.nodup_nil (fun i h=>by cases h) A rfl rr (.inl ⟨by rw [List.all_nil,Bool.and_true]; exact hfl,rfl⟩)
      exact pq _ Gn _ (s1.trans sn) Rn wn
     ·obtain ⟨ρ3,hsh,rfl⟩:=Option.map_eq_some_iff.mp e
      obtain ⟨Gn,sn,Rn,wn⟩:=E6 (li:=[]) R1 hbi (fun i h=>by cases h) List.nodup_nil (fun i h=>by cases h) A rfl rr (.inr hsh)
      exact pq _ Gn _ (s1.trans sn) Rn wn
variable {x:Str}{px pos:Pos}{M':List Str}{scope:Scope}{iter elt:Expr}{ifs:List Expr}
theorem xe0 {Y:Cx}:∀ e s,XE Y X0 e s→False:=fun e s ⟨_,_,_,_,_,_,h⟩=>h
theorem a4y (Bk:Blk X scope (x::M') 1 fr)(hi:PDI X B (.Name x px) iter mi)(hf:∀ cl C s H ex H0 HK G0 L,PDF (X.blk scope cl C (x::M') s H ex) ⟨B.K,H0,HK,G0,L,B.O⟩ ifs mt)(he:∀ cl C s H ex H0 HK G0 L,PD (X.blk scope cl C (x::M') s H ex) ⟨B.K,H0,HK,G0,L,B.O⟩ elt me)
  (hc:X.calm=true:=by rfl) (hx:scope.names.lookup x=some .local∨scope.names.lookup x=some .cell:=by first | exact .inl rfl | exact .inr rfl) (hs:∀ x,foldedSetIterable iter X.env x=pure x:=by intro _; rfl):PD X B (.ListComp elt [⟨.Name x px,iter,ifs,0⟩] scope pos) (V6 mi (tgN 0) mt me 1 fr):=.mk fun ξ=>by
 have Bk':Blk (rz X ξ) scope (x::M') 1 fr:=⟨Bk.kind,Bk.cells,Bk.names,Bk.free,Bk.nd,Bk.len,Bk.at'⟩
 refine (b4C (X:=rz X ξ) (tf:=fun σ H Q=>∃ B',(B'.K=B.K∧B'.O=B.O)∧TD Y8 B' X0 mt σ H Q) (te:=fun σ H Q=>∃ B',(B'.K=B.K∧B'.O=B.O)∧TD v8 B' X0 me σ H Q) Bk' (hi.ap ξ) (fun cl C s H ex=>?_) (fun cl C s H ex=>?_) hc hx hs).imp fun σ H Q t=>a4Z (fun B' hB σ H Q t=>⟨B',hB,t⟩) (fun B' hB σ H Q t=>⟨B',hB,t⟩) t
 ·intro pins s' σ' H' Q I ⟨B',hB,t⟩
  obtain ⟨K',h0,hk,g0,l,ob⟩:=B'
  cases (show K'=B.K from hB.1)
  cases (show ob=B.O from hB.2)
  exact PF.S2 (X:=X.blk scope cl C (x::M') s H ex) ((hf cl C s H ex h0 hk g0 l).ap X0) xe0 pins s' σ' H' Q I t
 ·intro pins s' σ' H' Q I ⟨B',hB,t⟩
  obtain ⟨K',h0,hk,g0,l,ob⟩:=B'
  cases (show K'=B.K from hB.1)
  cases (show ob=B.O from hB.2)
  exact PE.S2 (X:=X.blk scope cl C (x::M') s H ex) ((he cl C s H ex h0 hk g0 l).ap X0) xe0 pins s' σ' H' Q I t
theorem b3x {i:Nat}{y:Str}{py spos:Pos}(Bk:Blk X scope (x::M') 1 fr)(hN:X.N.Nodup)(hi:PDI X B (.Name x px) iter mi)(hf:∀ cl C s H ex H0 HK G0 L,PDF (X.blk scope cl C (x::M') s H ex) ⟨B.K,H0,HK,G0,L,B.O⟩ ifs mt)(he:∀ cl C s H ex H0 HK G0 L,PD (X.blk scope cl C (x::M') s H ex) ⟨B.K,H0,HK,G0,L,B.O⟩ elt me)
  (hy:X.N[i]?=some y:=by rfl) (hly:X.env.kindOf y=some .local:=by rfl) (hc:X.calm=true:=by rfl) (hx:scope.names.lookup x=some .local∨scope.names.lookup x=some .cell:=by first | exact .inl rfl | exact .inr rfl)
  (hsw:swapsWith (.ListComp elt [⟨.Name x px,iter,ifs,0⟩] scope pos) (some (.Name y py)) spos.line X.env=pure true:=by with_unfolding_all rfl)
  (hs:∀ x,foldedSetIterable iter X.env x=pure x:=by intro _; rfl):PSD X B (.Assign [.Name y py] (.ListComp elt [⟨.Name x px,iter,ifs,0⟩] scope pos) spos) (m6 i (V6 mi (tgN 0) mt me 1 fr)):=.mk fun ξ=>by
 have Bk':Blk (rz X ξ) scope (x::M') 1 fr:=⟨Bk.kind,Bk.cells,Bk.names,Bk.free,Bk.nd,Bk.len,Bk.at'⟩
 refine (b42 (X:=rz X ξ) (tf:=fun σ H Q=>∃ B',(B'.K=B.K∧B'.O=B.O)∧TD Y8 B' X0 mt σ H Q) (te:=fun σ H Q=>∃ B',(B'.K=B.K∧B'.O=B.O)∧TD v8 B' X0 me σ H Q) Bk' hN (hi.ap ξ) (fun cl C s H ex=>?_) (fun cl C s H ex=>?_) hy hly hc hx hsw hs).imp fun Dn σ H t=>?_
 ·intro pins s' σ' H' Q I ⟨B',hB,t⟩
  obtain ⟨K',h0,hk,g0,l,ob⟩:=B'
  cases (show K'=B.K from hB.1)
  cases (show ob=B.O from hB.2)
  exact PF.S2 (X:=X.blk scope cl C (x::M') s H ex) ((hf cl C s H ex h0 hk g0 l).ap X0) xe0 pins s' σ' H' Q I t
 ·intro pins s' σ' H' Q I ⟨B',hB,t⟩
  obtain ⟨K',h0,hk,g0,l,ob⟩:=B'
  cases (show K'=B.K from hB.1)
  cases (show ob=B.O from hB.2)
  exact PE.S2 (X:=X.blk scope cl C (x::M') s H ex) ((he cl C s H ex h0 hk g0 l).ap X0) xe0 pins s' σ' H' Q I t
 ·obtain ⟨G,ρ,R,t⟩:=t
  refine a4Z (fun B' hB σ H Q t=>⟨B',hB,t⟩) (fun B' hB σ H Q t=>⟨B',hB,t⟩) ((SD.step (rel:=v8) R t).mono fun v H1 ⟨G1,ρ1,w,s1,R1,q1,r,e,p⟩=>?_)
  obtain ⟨ρ',G',rfl,s',R'⟩:=a09 R1 q1 e
  exact p _ G' H1 s' R'
end
end L3
set_option Elab.async false
set_option linter.all false
set_option maxRecDepth 100000
set_option maxHeartbeats 4000000
namespace L3
open PySem PySem.Spec PyProof.Rows L2
noncomputable def b2c:D→D→Option W
 | .dct es,k=>(keyOf k).map fun k=>W.val ((P5 es k).getD .t6)
 | _,_=>none
noncomputable def b2e (mo me:M W):M W:=M.bind (E8 mo) fun x=>M.bind (chk "dict" x) fun _=>M.bind me fun y=>op2 b2c x y
noncomputable def b1W:D→D→D→Option W
 | .dct es,k,z=>(keyOf k).map fun k=>W.val ((P5 es k).getD z)
 | _,_,_=>none
noncomputable def b1X (mo me mf:M W):M W:=M.bind (E8 mo) fun x=>M.bind (chk "dict" x) fun _=>M.bind (E8 me) fun y=>M.bind mf fun z=>M.bind (D7 z) fun dz=>op2 (fun a b=>b1W a b dz) x y
noncomputable def b2d (i:Nat)(k d:D):SM:=fun ρ=>match ρ[i]? with
 | some (some (.ow l (.dct es)))=>match keyOf k with
  | some k=>S4 (small es.length) (some (.nx (ρ.set i (some (.ow l (.dct (putD es k d)))))))
  | none=>none
 | some (some (.ow l (.lst ds)))=>match k with
  | .int j=>match ixN ds.length j with
   | some n=>some (.nx (ρ.set i (some (.ow l (.lst (ds.set n d))))))
   | none=>none
  | _=>none
 | _=>none
noncomputable def b4S (mo:M W)(i:Nat)(mv mk:M W):SM:=L7 (E8 mv) fun wv=>L7 mo fun _=>L7 mk fun wk=>L7 (D7 wv) fun d ρ=>match getD wk ρ with
 | some k=>b2d i k d ρ
 | none=>none
noncomputable abbrev b4J (i:Nat)(mv mk:M W):SM:=b4S (d7 i) i mv mk
theorem _root_.L2.b0T.or {X:Cx}{t t':b4N}(h:b0T X t)(h':b0T X t'):b0T X (fun o i v H Q=>t o i v H Q∨t' o i v H Q):=by
 intro pins s σ H o i v ov iv u Q I ro ri rv q
 rcases q with q | q
 ·exact h pins s σ H o i v ov iv u Q I ro ri rv q
 ·exact h' pins s σ H o i v ov iv u Q I ro ri rv q
section
variable {X:Cx}{B:Bs}{ξ:XP}{G H:Hp}{σ:St}{ρ:i9}{Dn:Ends}{o e value:Expr}{mo me mv:M W}{pos pos':Pos}
theorem SD.quiet {α:Type}{m:M α}{f:α→SM}(t:a9D B ξ G ρ (L7 m f) Dn)(hm:∀ r,m ρ=some r→∃ a ρ',r=.ok a ρ'):∃ a ρ',m ρ=some (.ok a ρ')∧a9D B ξ G ρ' (f a) Dn:=by
 obtain ⟨r,e,p⟩:=t
 unfold L7 at e
 cases hr:m ρ with
 | none=>rw [hr] at e; cases e
 | some r1=>
  obtain ⟨a,ρ',rfl⟩:=hm r1 hr
  rw [hr] at e
  exact ⟨a,ρ',rfl,r,e,p⟩
end
noncomputable def tyN:D→String
 | .t6=>"NoneType"
 | .bl _=>"bool"
 | .int _=>"int"
 | .str _=>"str"
 | .tup _=>"tuple"
 | .lst _=>"list"
 | .dct _=>"dict"
 | .ty _=>"type"
noncomputable def a9e (a b:String):Bool:=a == b || (a == "bool" && b == "int")
noncomputable def b5B:D→Bool
 | .ty _=>true
 | _=>false
noncomputable def b1i:List D→Option W
 | [d,.ty T]=>S4 (b5B d=false∧T∈["int","bool","str","list","tuple","dict"]) (vB (a9e (tyN d) T))
 | _=>none
theorem b03 (K:PySem.W.Frag):∀ a∈["NoneType","bool","int","str","tuple","list","dict"],∀ b∈["int","bool","str","list","tuple","dict"],PySem.W.kitOne K (.type a) (.type b)=some (a9e a b):=by
 intro a ha b hb
 simp only [List.mem_cons,List.not_mem_nil,or_false] at ha hb
 rcases ha with rfl | rfl | rfl | rfl | rfl | rfl | rfl <;> rcases hb with rfl | rfl | rfl | rfl | rfl | rfl <;> kernel_rfl
theorem a77 {X:Cx}{K:PySem.W.Frag}(hK:X.K=K):D4 X (.builtin "isinstance") (fun xs H Q=>∃ x T d,xs=[x,.ty T]∧Rep K H x d∧(∀ n,d≠.ty n)∧T∈["int","bool","str","list","tuple","dict"]∧Q (.bl (a9e (tyN d) T)) H):=by
 subst hK
 intro pins s σ H xs us Q I r h
 obtain ⟨x,T,d,rfl,hx,hn,hT,q⟩:=h
 obtain ⟨u,w',rfl,ru,rw'⟩:=vals2 r
 cases rw'
 have fin:∀ tk,EP X pins σ Q (.bool (a9e (tyN d) T)) { s with toks:=tk }:=fun tk=>⟨.bl _,H,I.tok tk,rfl,q⟩
 have tab:=fun a ha=>b03 X.K a ha T hT
 cases hx with
 | t6=>cases ru; exact PySem.W.kia_one PySem.W.kitx_none I.kIn True.intro (tab _ (by simp)) (fun z=>nomatch z) fin
 | bl b=>cases ru; exact PySem.W.kia_one PySem.W.kitx_bool I.kIn True.intro (tab _ (by simp)) (fun z=>nomatch z) fin
 | int i=>obtain ⟨t,rfl⟩:=ru; exact PySem.W.kia_one PySem.W.kitx_int I.kIn True.intro (tab _ (by simp)) (fun z=>nomatch z) fin
 | str cs=>obtain ⟨t,rfl⟩:=ru; exact PySem.W.kia_one PySem.W.kitx_str I.kIn True.intro (tab _ (by simp)) (fun z=>nomatch z) fin
 | ty n=>exact absurd rfl (hn n)
 | tup h _ _=>
  cases ru
  obtain ⟨_,_,p,_⟩:=I.tuple h
  obtain ⟨o,h1,h2,_⟩:=p
  exact PySem.W.kia_one PySem.W.kitx_tuple I.kIn ⟨o,h1,h2⟩ (tab _ (by simp)) (fun z=>nomatch z) fin
 | lst h _ _=>
  cases ru
  obtain ⟨_,_,p,_⟩:=I.list h
  obtain ⟨o,n,h1,h2,_⟩:=p
  exact PySem.W.kia_one PySem.W.kitx_list I.kIn ⟨o,h1,h2⟩ (tab _ (by simp)) (fun z=>nomatch z) fin
 | dct h _ _=>
  cases ru
  obtain ⟨_,_,vs,_,dd⟩:=P0 I.hok h
  obtain ⟨o,es,ep,h1,h2,_⟩:=dd
  exact PySem.W.kia_one PySem.W.kitx_dict I.kIn ⟨o,h1,h2.1⟩ (tab _ (by simp)) (fun z=>nomatch z) fin
section
variable {X:Cx}{B:Bs}{e a b c:Expr}{es:List Expr}{mr:M (List W)}{pos p:Pos}
theorem a9J:a3h B (fun xs H Q=>∃ x T d,xs=[x,.ty T]∧Rep B.K H x d∧(∀ n,d≠.ty n)∧T∈["int","bool","str","list","tuple","dict"]∧Q (.bl (a9e (tyN d) T)) H) b1i:=by
 intro G H σ ρ xs ds w Q R h e p
 match ds,e with
 | [d,.ty T],e=>
  obtain ⟨⟨hn,hT⟩,e⟩:=j8 e
  cases e
  obtain ⟨x,y,rfl,hx,hy⟩:=b2f h
  exact ⟨x,T,d,by rw [hy.ty],hx.rep R.gH,(fun n z=>by rw [z] at hn; cases hn),hT,p _ G H (d8.refl _) R (.bl _)⟩
theorem b1T (hm:X.mg "isinstance"=none) (ha:PDA X B [e,a] mr) (hg:Gl X "isinstance":=by rfl) (hK:X.K=B.K:=by rfl) (he:starEach [e,a] X.env=(false,eval e X.env)::starEach [a] X.env:=by rfl) (hpl:(backTo pos (starEach [a] X.env)).any (·.1)=false:=by rfl):PD X B (.Call (.Name "isinstance" p) [e,a] [] pos) (L6 b1i mr):=
 a1P (fun ξ=>a77 (X:=rz X ξ) (K:=B.K) hK) a9J hg hm PyProof.Rows.boot_isinstance ha (by decide) (by decide) he hpl
end
noncomputable def intsOf:List D→Option (List Int)
 | []=>some []
 | .int i::ds=>(intsOf ds).map (i::·)
 | _=>none
theorem T3:∀ {ds:List D} {ns:List Int},intsOf ds=some ns→ds=ns.map D.int
 | [],_,h=>by cases h; rfl
 | .int b::ds,bs,h=>by
  unfold intsOf at h
  obtain ⟨bs',e,rfl⟩:=Option.map_eq_some_iff.mp h
  rw [T3 e]
  rfl
 | .t6::_,_,h=>by cases h
 | .bl _::_,_,h=>by cases h
 | .str _::_,_,h=>by cases h
 | .ty _::_,_,h=>by cases h
 | .tup _::_,_,h=>by cases h
 | .lst _::_,_,h=>by cases h
 | .dct _::_,_,h=>by cases h
end L3
namespace L3
open PySem PySem.Spec PyProof.Rows L2
noncomputable def a4U (f:D→D→Option Bool)(fs:List (Key×D)):List (Key×D)→Option Bool
 | []=>some true
 | e::es=>match P5 fs e.1 with
  | none=>some false
  | some y=>match f e.2 y,a4U f fs es with
   | some a,some b=>some (a && b)
   | _,_=>none
noncomputable def eqT:D→D→Option Bool
 | .dct es,.dct fs=>if es.length=fs.length then a4U (T5 6) fs es else some false
 | d,e=>T5 8 d e
noncomputable def L5 (d e:D):Option W:=(eqT d e).bind vB
noncomputable def X7 (d e:D):Option W:=(eqT d e).bind fun b=>vB (!b)
section
variable {X:Cx}{pins:List (Addr×Obj)}{σ:St}{H:Hp}{s:Shared}
theorem a61 (I:Inv X pins σ H s){A:Around}{fs:List (Key×D)}{kvs2:List (Key×V)}{vs2:List (Key×Value)}(hu:A.units + 6 < cLine)(r2:k6 X.K H kvs2 fs)(k2:KV kvs2 vs2):∀ {es:List (Key×D)} {kvs:List (Key×V)} {vs:List (Key×Value)} {b:Bool},a4U (T5 6) fs es=some b→k6 X.K H kvs es→KV kvs vs→PySem.W.KeqHits A s vs2 vs b:=by
 intro es kvs vs b h r k
 revert vs b
 refine k6.ind (P:=fun kvs es=>∀ {vs:List (Key×Value)} {b:Bool},a4U (T5 6) fs es=some b→KV kvs vs→PySem.W.KeqHits A s vs2 vs b) ?_ ?_ r
 ·intro vs b h k
  cases k
  cases h
  exact .nil
 ·intro p e kvs es hk hr _ ih vs b h k
  unfold KV at k
  cases k with
  | @cons _ q _ qs hpq t=>
   unfold a4U at h
   have e2:=k2.val p.1
   obtain ⟨c1,c2⟩:=r2.val p.1
   have hq:q=(p.1,q.2):=by rw [hpq.1]
   rw [hq]
   cases hv:P5 fs e.1 with
   | none=>
    rw [hv] at h
    cases h
    rw [← hk] at hv
    rw [c2 hv] at e2
    exact .miss (W6.none_of e2)
   | some y=>
    rw [hv] at h
    simp only [] at h
    cases h1:T5 6 e.2 y with
    | none=>rw [h1] at h; cases h
    | some a=>
     cases h2:a4U (T5 6) fs es with
     | none=>rw [h1,h2] at h; cases h
     | some b2=>
      rw [h1,h2] at h
      cases h
      rw [← hk] at hv
      obtain ⟨v,ev,rv⟩:=c1 y hv
      rw [ev] at e2
      obtain ⟨u,eu,ru⟩:=W6.some_of e2
      exact .hit eu (a1N I 6 h1 hr rv hpq.2 ru hu).1 (ih h2 t)
end
theorem a7c {X:Cx}{K:PySem.W.Frag}(hK:X.K=K)(hu:X.A.units + 8 < cLine):Z4 X (compareOp .Eq) (fun x y H Q=>∃ a c kvs1 kvs2 es fs b,x=.ref a∧y=.ref c∧Rd H a (.dK kvs1)∧Rd H c (.dK kvs2)∧k6 K H kvs1 es∧k6 K H kvs2 fs∧eqT (.dct es) (.dct fs)=some b∧Q (.bl b) H):=by
 subst hK
 intro pins s σ H x y v u Q I rx ry h
 obtain ⟨a,c,kvs1,kvs2,es,fs,b,rfl,rfl,ha,hb,r1,r2,e,q⟩:=h
 cases rx
 cases ry
 obtain ⟨z,hS,vs,rel,dd⟩:=P0 I.hok ha
 obtain ⟨z2,hS2,vs2,rel2,dd2⟩:=P0 I.hok hb
 have l1:=rel.length
 have l2:=rel2.length
 have l3:=r1.len
 have l4:=r2.len
 have e:(if es.length=fs.length then a4U (T5 6) fs es else some false)=some b:=e
 split at e
 ·rename_i hl
  refine PySem.W.keq_eq (r:=b) hS hS2 dd dd2 (by omega) (fun _=>a61 I (by show X.A.units + 1 + 6 < _; omega) r2 rel2 e r1 rel) ?_
  have e2:(vs.length == vs2.length && b)=b:=by rw [show (vs.length == vs2.length)=true by simp; omega,Bool.true_and]
  rw [e2]
  exact a0q I q rfl
 ·rename_i hl
  cases e
  refine PySem.W.keq_eq (r:=true) hS hS2 dd dd2 (by omega) (fun z=>absurd z (by omega)) ?_
  have e2:(vs.length == vs2.length && true)=false:=by rw [show (vs.length == vs2.length)=false by simp; omega,Bool.false_and]
  rw [e2]
  exact a0q I q rfl
theorem b1h {X:Cx}{K:PySem.W.Frag}(hK:X.K=K)(hu:X.A.units + 8 < cLine):Z4 X (compareOp .NotEq) (fun x y H Q=>∃ a c kvs1 kvs2 es fs b,x=.ref a∧y=.ref c∧Rd H a (.dK kvs1)∧Rd H c (.dK kvs2)∧k6 K H kvs1 es∧k6 K H kvs2 fs∧eqT (.dct es) (.dct fs)=some b∧Q (.bl (!b)) H):=by
 subst hK
 intro pins s σ H x y v u Q I rx ry h
 obtain ⟨a,c,kvs1,kvs2,es,fs,b,rfl,rfl,ha,hb,r1,r2,e,q⟩:=h
 cases rx
 cases ry
 obtain ⟨z,hS,vs,rel,dd⟩:=P0 I.hok ha
 obtain ⟨z2,hS2,vs2,rel2,dd2⟩:=P0 I.hok hb
 have l1:=rel.length
 have l2:=rel2.length
 have l3:=r1.len
 have l4:=r2.len
 have e:(if es.length=fs.length then a4U (T5 6) fs es else some false)=some b:=e
 split at e
 ·rename_i hl
  refine PySem.W.keq_ne (r:=b) hS hS2 dd dd2 (by omega) (fun _=>a61 I (by show X.A.units + 1 + 6 < _; omega) r2 rel2 e r1 rel) ?_
  have e2:(vs.length == vs2.length && b)=b:=by rw [show (vs.length == vs2.length)=true by simp; omega,Bool.true_and]
  rw [e2]
  exact a0q I q rfl
 ·rename_i hl
  cases e
  refine PySem.W.keq_ne (r:=true) hS hS2 dd dd2 (by omega) (fun z=>absurd z (by omega)) ?_
  have e2:(vs.length == vs2.length && true)=false:=by rw [show (vs.length == vs2.length)=false by simp; omega,Bool.false_and]
  rw [e2]
  exact a0q I q rfl
section
variable {X:Cx}{B:Bs}{e a b c:Expr}{ma mb mc:M W}{pos:Pos}
theorem a3u {d e:D}{b:Bool}(h:eqT d e=some b):(∃ es fs,d=.dct es∧e=.dct fs)∨T5 8 d e=some b:=by
 unfold eqT at h
 split at h
 ·exact .inl ⟨_,_,rfl,rfl⟩
 ·exact .inr h
theorem a5s:V4 B (fun x y H Q=>(∃ d e b,Rep B.K H x d∧Rep B.K H y e∧T5 8 d e=some b∧Q (.bl b) H)∨∃ a c kvs1 kvs2 es fs b,x=.ref a∧y=.ref c∧Rd H a (.dK kvs1)∧Rd H c (.dK kvs2)∧k6 B.K H kvs1 es∧k6 B.K H kvs2 fs∧eqT (.dct es) (.dct fs)=some b∧Q (.bl b) H) L5:=by
 intro G H σ ρ x y dx dy w Q R hx hy e p
 unfold L5 at e
 cases hb:eqT dx dy with
 | none=>rw [hb] at e; cases e
 | some b=>
  rw [hb] at e
  cases e
  rcases a3u hb with ⟨es,fs,rfl,rfl⟩ | h8
  ·obtain ⟨a1,k1,rfl,h1,r1⟩:=hx.dct R.gH
   obtain ⟨a2,k2,rfl,h2,r2⟩:=hy.dct R.gH
   exact .inr ⟨a1,a2,k1,k2,es,fs,b,rfl,rfl,h1,h2,r1.same R.gH,r2.same R.gH,hb,p _ G H (d8.refl _) R (.bl _)⟩
  ·exact .inl ⟨dx,dy,b,hx.rep R.gH,hy.rep R.gH,h8,p _ G H (d8.refl _) R (.bl _)⟩
theorem a8F:V4 B (fun x y H Q=>(∃ d e b,Rep B.K H x d∧Rep B.K H y e∧T5 8 d e=some b∧Q (.bl (!b)) H)∨∃ a c kvs1 kvs2 es fs b,x=.ref a∧y=.ref c∧Rd H a (.dK kvs1)∧Rd H c (.dK kvs2)∧k6 B.K H kvs1 es∧k6 B.K H kvs2 fs∧eqT (.dct es) (.dct fs)=some b∧Q (.bl (!b)) H) X7:=by
 intro G H σ ρ x y dx dy w Q R hx hy e p
 unfold X7 at e
 cases hb:eqT dx dy with
 | none=>rw [hb] at e; cases e
 | some b=>
  rw [hb] at e
  cases e
  rcases a3u hb with ⟨es,fs,rfl,rfl⟩ | h8
  ·obtain ⟨a1,k1,rfl,h1,r1⟩:=hx.dct R.gH
   obtain ⟨a2,k2,rfl,h2,r2⟩:=hy.dct R.gH
   exact .inr ⟨a1,a2,k1,k2,es,fs,b,rfl,rfl,h1,h2,r1.same R.gH,r2.same R.gH,hb,p _ G H (d8.refl _) R (.bl _)⟩
  ·exact .inl ⟨dx,dy,b,hx.rep R.gH,hy.rep R.gH,h8,p _ G H (d8.refl _) R (.bl _)⟩
theorem b13 (hu:X.A.units + 8 < cLine)(ha:PD X B a ma)(hb:PD X B b mb)(hK:X.K=B.K:=by rfl):PD X B (.Compare a [.Eq] [b] pos) (f7 L5 ma mb):=a9N (fun ξ=>(a9x (X:=rz X ξ) hK hu).or (a7c hK hu)) a5s ha hb (a4m _)
theorem a1s (hu:X.A.units + 8 < cLine)(ha:PD X B a ma)(hb:PD X B b mb)(hK:X.K=B.K:=by rfl):PDT X B (.Compare a [.Eq] [b] pos) (A8 (f7 L5 ma mb)):=a4q (fun ξ=>(a9x (X:=rz X ξ) hK hu).or (a7c hK hu)) a5s ha hb (a4m _)
theorem a42 (hu:X.A.units + 8 < cLine)(ha:PD X B a ma)(hb:PD X B b mb)(hK:X.K=B.K:=by rfl):PDT X B (.Compare a [.NotEq] [b] pos) (A8 (f7 X7 ma mb)):=a4q (fun ξ=>(b2z (X:=rz X ξ) hK hu).or (b1h hK hu)) a8F ha hb (a4m _)
end
end L3
set_option Elab.async false
set_option linter.all false
set_option maxRecDepth 100000
set_option maxHeartbeats 4000000
namespace L3
open PySem PySem.Spec PyProof.Rows L2
noncomputable def opM (f:D→List D→Option W)(x:W)(ws:List W):M W:=fun ρ=>match getD x ρ,F7 ws ρ with
 | some d,some ds=>(f d ds).map (R'.ok · ρ)
 | _,_=>none
noncomputable def mMt (T:String)(f:D→List D→Option W)(mo:M W)(m:M (List W)):M W:=M.bind (E8 mo) fun x=>M.bind (chk T x) fun _=>M.bind m fun ws=>opM f x ws
noncomputable def b1O (B:Bs)(r:V→List V→Hp→VK→Prop)(f:D→List D→Option W):Prop:=∀ {G H:Hp} {σ:St} {ρ:i9} {x:V} {dx:D} {xs:List V} {ds:List D} {w:W} {Q:VK},RS B G H σ ρ→D5 B.K G H x dx→a3k B.K G H xs ds→f dx ds=some w→
 (∀ v G' H',d8 G G'→RS B G' H' σ ρ→C8 B G' H' σ ρ v w→Q v H')→r x xs H Q
theorem b1r {B:Bs}{ξ:XP}{f:D→List D→Option W}{x:W}{ws:List W}{G:Hp}{ρ:i9}{σ:St}{Q:VK}(t:T4 v8 B ξ G ρ (opM f x ws) σ Q):∃ d ds w,getD x ρ=some d∧F7 ws ρ=some ds∧f d ds=some w∧∀ v G' H',d8 G G'→RS B G' H' σ ρ→C8 B G' H' σ ρ v w→Q v H':=by
 obtain ⟨r,e,p⟩:=t
 unfold opM at e
 cases hx:getD x ρ with
 | none=>rw [hx] at e; cases e
 | some d=>
  cases hy:F7 ws ρ with
  | none=>rw [hx,hy] at e; cases e
  | some ds=>
   rw [hx,hy] at e
   simp only [] at e
   cases hf:f d ds with
   | none=>rw [hf] at e; cases e
   | some w=>
    rw [hf] at e
    cases e
    exact ⟨d,ds,w,rfl,rfl,hf,p⟩
noncomputable def strsOf:List D→Option (List (List Nat))
 | []=>some []
 | .str i::ds=>(strsOf ds).map (i::·)
 | _=>none
theorem a3p:∀ {ds:List D} {ns:List (List Nat)},strsOf ds=some ns→ds=ns.map D.str
 | [],_,h=>by cases h; rfl
 | .str b::ds,bs,h=>by
  unfold strsOf at h
  obtain ⟨bs',e,rfl⟩:=Option.map_eq_some_iff.mp h
  rw [a3p e]
  rfl
 | .t6::_,_,h=>by cases h
 | .bl _::_,_,h=>by cases h
 | .int _::_,_,h=>by cases h
 | .ty _::_,_,h=>by cases h
 | .tup _::_,_,h=>by cases h
 | .lst _::_,_,h=>by cases h
 | .dct _::_,_,h=>by cases h
theorem a9Y {K:PySem.W.Frag}{G:Hp}:∀ {ns:List (List Nat)} {xs:List V},l7 K G xs (ns.map D.str)→xs=ns.map fun q=>V.str (tx q)
 | [],[],_=>rfl
 | [],_::_,r=>by have:=r.len; simp at this
 | _::_,[],r=>by have:=r.len; simp at this
 | b::bs,x::xs,r=>by
  have h:=r.head
  generalize hd:D.str b=d at h
  cases h <;> first | (cases hd; done) | skip
  cases hd
  rw [a9Y r.tail]
  rfl
noncomputable def Y4:D→List D→Option W
 | .str sep,[.lst ds]=>(strsOf ds).bind fun ps=>S4 (small ((ps.map List.length).sum + ps.length * sep.length)) (some (.val (.str (Wd.x9 sep ps))))
 | _,_=>none
noncomputable def N9:D→List D→Option W
 | .str cs,[.str [c]]=>S4 (c < 128∧cs.length < 1000000) (some (.own (.lst ((Wd.i8 c cs).map D.str))))
 | _,_=>none
noncomputable def C3:D→List D→Option W
 | .str a,[.str b]=>vB (Txt.startswith (tx a) (tx b))
 | _,_=>none
theorem a84 {X:Cx}{K:PySem.W.Frag}(hK:X.K=K):MtR X "str.join" (fun x xs H Q=>∃ (sep:List Nat) (p:Addr) (ps:List (List Nat)),x=.str (tx sep)∧xs=[.ref p]∧L4 K H p (ps.map fun q=>V.str (tx q))∧(ps.map List.length).sum + ps.length * sep.length≤16777216∧Q (.str (tx (Wd.x9 sep ps))) H):=by subst hK; exact b0S
section
variable {X:Cx}{B:Bs}{o e:Expr}{es:List Expr}{mo:M W}{mr:M (List W)}{apos cpos:Pos}{name:Str}{T id:String}
theorem b2I {r:V→List V→Hp→VK→Prop}{f:D→List D→Option W}(pa:PlainAttrs T)(slot:Slot T name id)(hty:typeOf (.builtin id)=pure (.type "method_descriptor")) (hm:∀ ξ,MtR (rz X ξ) id r) (hi:b1O B r f) (ho:PD X B o mo) (ha:PDA X B (e::es) mr)
  (hK:X.K=B.K)
  (hbase:attributeBase o name X.env (eval o X.env)=eval o X.env)
  (hfew:((backTo cpos (starEach (e::es) X.env)).all (fun x=>!x.1) && (backToKw cpos (keywordEach [] X.env)).all (fun x=>x.1.isSome)
   && decide ((e::es).length + ([]:List Keyword).length + (if ([]:List Keyword).isEmpty then 0 else 1) < 30))=true)
  (hline:(apos.endLine == cpos.line)=true) (hs:starEach (e::es) X.env=(false,eval e X.env)::starEach es X.env) (hplain:(backTo cpos (starEach es X.env)).any (·.1)=false) (hT:T≠"dict":=by decide):
  PD X B (.Call (.Attribute o name apos) (e::es) [] cpos) (mMt T f mo mr):=.mk fun ξ=>
 (b1Y (X:=rz X ξ) pa slot hty (hm ξ) (ho.ap ξ) (ha.ap ξ) hbase hfew hline hs hplain).imp fun σ H Q t=>by
  obtain ⟨G,ρ,R,t⟩:=t
  have t1:TD a06 B ξ (E8 mo) σ H _:=TD.bind (rel:=a06) R t
  refine TD.E8 (t1.mono fun x H1 ⟨G1,ρ1,wa,s1,R1,⟨q1,st1⟩,t2⟩=>?_)
  obtain ⟨u,ρ2,e2,t3⟩:=t2.step fun r h=>⟨(),_,(a04 h).1⟩
  obtain ⟨e3,d,hd,ty⟩:=a04 e2
  cases e3
  refine ⟨by show tyV X.K T x H1; rw [hK]; exact a6a R1 (q1.get R1 hd) ty hT,?_⟩
  refine (TD.bind (rel:=F1) R1 t3).mono fun vs H2 ⟨G2,ρ2,ws,s2,R2,q2,t4⟩=>?_
  obtain ⟨dx,ds,w,e4,e5,e6,p⟩:=b1r t4
  exact hi R2 ((q1.keep s2 st1:C8 B G2 H2 σ ρ2 x wa).get R2 e4) (S5 R2 q2 e5) e6 p
theorem a7A:b1O B (fun x xs H Q=>∃ (sep:List Nat) (p:Addr) (ps:List (List Nat)),x=.str (tx sep)∧xs=[.ref p]∧L4 B.K H p (ps.map fun q=>V.str (tx q))∧(ps.map List.length).sum + ps.length * sep.length≤16777216∧Q (.str (tx (Wd.x9 sep ps))) H) Y4:=by
 intro G H σ ρ x dx xs ds w Q R hx h e p
 match dx,ds,e with
 | .str sep,[.lst ds],e=>
  obtain ⟨y,rfl,hy⟩:=B7 h
  have e:(strsOf ds).bind (fun ps=>S4 (small ((ps.map List.length).sum + ps.length * sep.length)) (some (.val (.str (Wd.x9 sep ps)))))=some w:=e
  cases hb:strsOf ds with
  | none=>rw [hb] at e; cases e
  | some ps=>
   rw [hb] at e
   obtain ⟨hz,e⟩:=j8 e
   cases e
   rw [a3p hb] at hy
   obtain ⟨q,ys,rfl,h1,r1⟩:=hy.lst R.gH
   rw [a9Y r1] at h1
   exact ⟨sep,q,ps,hx.str,rfl,h1,by unfold small at hz; omega,p _ G H (d8.refl _) R (.str _)⟩
theorem a5P:b1O B (fun x xs H Q=>∃ (cs:List Nat) (c:Nat),x=.str (tx cs)∧xs=[.str (tx [c])]∧c < 128∧cs.length < 1000000∧∀ p,H p=none→Q (.ref p) (upd H p (.lst ((Wd.i8 c cs).map fun q=>V.str (tx q))))) N9:=by
 intro G H σ ρ x dx xs ds w Q R hx h e p
 match dx,ds,e with
 | .str cs,[.str [c]],e=>
  obtain ⟨y,rfl,hy⟩:=B7 h
  obtain ⟨hz,e⟩:=j8 e
  cases e
  refine ⟨cs,c,hx.str,by rw [hy.str],hz.1,hz.2,fun pp hp=>?_⟩
  obtain ⟨R',w'⟩:=R.a4w hp (l7.b1s (Wd.i8 c cs))
  exact p _ G _ (d8.refl _) R' w'
theorem a40:b1O B (fun x xs H Q=>∃ a b,x=.str a∧xs=[.str b]∧Q (.bl (Txt.startswith a b)) H) C3:=by
 intro G H σ ρ x dx xs ds w Q R hx h e p
 match dx,ds,e with
 | .str cs,[.str c],e=>
  obtain ⟨y,rfl,hy⟩:=B7 h
  cases e
  exact ⟨_,_,hx.str,by rw [hy.str],p _ G H (d8.refl _) R (.bl _)⟩
theorem a0w (ho:PD X B o mo)(ha:PDA X B [e] mr)(hK:X.K=B.K:=by rfl)(hbase:attributeBase o "join" X.env (eval o X.env)=eval o X.env:=by rfl)
  (hfew:((backTo cpos (starEach [e] X.env)).all (fun x=>!x.1) && (backToKw cpos (keywordEach [] X.env)).all (fun x=>x.1.isSome) && decide (([e]:List Expr).length + ([]:List Keyword).length + (if ([]:List Keyword).isEmpty then 0 else 1) < 30))=true:=by rfl)
  (hline:(apos.endLine == cpos.line)=true:=by rfl) (hs:starEach [e] X.env=(false,eval e X.env)::starEach [] X.env:=by rfl) (hplain:(backTo cpos (starEach [] X.env)).any (·.1)=false:=by rfl):PD X B (.Call (.Attribute o "join" apos) [e] [] cpos) (mMt "str" Y4 mo mr):=
 b2I PySem.F.plainAttrs_str PySem.F.slot_str_join PySem.F.type_str_join (fun ξ=>a84 (X:=rz X ξ) (K:=B.K) hK) a7A ho ha hK hbase hfew hline hs hplain
theorem a34 (ho:PD X B o mo)(ha:PDA X B [e] mr)(hK:X.K=B.K:=by rfl)(hbase:attributeBase o "split" X.env (eval o X.env)=eval o X.env:=by rfl)
  (hfew:((backTo cpos (starEach [e] X.env)).all (fun x=>!x.1) && (backToKw cpos (keywordEach [] X.env)).all (fun x=>x.1.isSome) && decide (([e]:List Expr).length + ([]:List Keyword).length + (if ([]:List Keyword).isEmpty then 0 else 1) < 30))=true:=by rfl)
  (hline:(apos.endLine == cpos.line)=true:=by rfl) (hs:starEach [e] X.env=(false,eval e X.env)::starEach [] X.env:=by rfl) (hplain:(backTo cpos (starEach [] X.env)).any (·.1)=false:=by rfl):PD X B (.Call (.Attribute o "split" apos) [e] [] cpos) (mMt "str" N9 mo mr):=
 b2I PySem.F.plainAttrs_str PySem.F.slot_str_split PySem.F.type_str_split (fun ξ=>a9k) a5P ho ha hK hbase hfew hline hs hplain
theorem a0I (ho:PD X B o mo)(ha:PDA X B [e] mr)(hK:X.K=B.K:=by rfl)(hbase:attributeBase o "startswith" X.env (eval o X.env)=eval o X.env:=by rfl)
  (hfew:((backTo cpos (starEach [e] X.env)).all (fun x=>!x.1) && (backToKw cpos (keywordEach [] X.env)).all (fun x=>x.1.isSome) && decide (([e]:List Expr).length + ([]:List Keyword).length + (if ([]:List Keyword).isEmpty then 0 else 1) < 30))=true:=by rfl)
  (hline:(apos.endLine == cpos.line)=true:=by rfl) (hs:starEach [e] X.env=(false,eval e X.env)::starEach [] X.env:=by rfl) (hplain:(backTo cpos (starEach [] X.env)).any (·.1)=false:=by rfl):PD X B (.Call (.Attribute o "startswith" apos) [e] [] cpos) (mMt "str" C3 mo mr):=
 b2I PySem.F.plainAttrs_str PySem.F.slot_str_startswith PySem.F.type_str_startswith (fun ξ=>a8e) a40 ho ha hK hbase hfew hline hs hplain
end
noncomputable def a7X (m:M W):M W:=M.bind m fun w ρ=>match getD w ρ with
 | some (.int i)=>S4 (i.natAbs.log2 < 1920) (some (.ok (.val (.str (Wd.n6 i))) ρ))
 | some (.str cs)=>S4 (small cs.length) (some (.ok (.val (.str cs)) ρ))
 | _=>none
section
variable {X:Cx}{B:Bs}{e v1 v2:Expr}{es:List Expr}{me:M W}{pos:Pos}
theorem b2V {te:TE}(h:PE X e te):PE X (.FormattedValue e (-1) none pos) (fun σ H Q=>te σ H fun v H1=>(∃ i:Int,v=.int i∧i.natAbs.log2 < 1920∧Q (.str (Str.ofString (toString i))) H1)∨∃ x:Str,v=.str x∧x.length≤sizeLine∧Q (.str x) H1):=by
 intro pins s σ H Q I hq
 refine PyProof.Rows.FormattedValue_plain (C7 (h pins s σ H _ I hq) fun u s1 ⟨v,H1,I1,r,q⟩=>?_)
 rcases q with ⟨i,rfl,hl,q⟩ | ⟨x,rfl,hl,q⟩
 ·obtain ⟨t,rfl⟩:=r
  exact PyProof.Rows.formatField_int_small hl ⟨.str _,H1,I1.tok _,⟨_,rfl⟩,q⟩
 ·obtain ⟨t,rfl⟩:=r
  exact PyProof.Rows.formatField_str (fun t' tk=>⟨.str x,H1,I1.tok _,⟨_,rfl⟩,q⟩) hl
theorem b4z (h:PD X B e me):PD X B (.FormattedValue e (-1) none pos) (a7X me):=.mk fun ξ=>(b2V (h.ap ξ)).imp fun σ H Q t=>by
 obtain ⟨G,ρ,R,t⟩:=t
 refine (TD.bind (rel:=v8) R t).mono fun x H1 ⟨G1,ρ1,w,s1,R1,q1,r,e,p⟩=>?_
 dsimp only at e
 split at e
 ·rename_i i hd
  obtain ⟨hz,e⟩:=j8 e
  cases e
  refine .inl ⟨i,(q1.get R1 hd).int,hz,?_⟩
  rw [Wd.str_int]
  exact p _ G1 H1 (d8.refl _) R1 (.str _)
 ·rename_i cs hd
  obtain ⟨hz,e⟩:=j8 e
  cases e
  exact .inr ⟨tx cs,(q1.get R1 hd).str,by rw [E7]; exact A2 hz,p _ G1 H1 (d8.refl _) R1 (.str _)⟩
 ·cases e
noncomputable abbrev MJ:=List Nat→M W
noncomputable def TDJ (B:Bs)(ξ:XP)(m:MJ):TJ:=fun σ H out Q=>∃ cs,out=tx cs∧TD v8 B ξ (m cs) σ H Q
structure PDJ (X:Cx) (B:Bs) (es:List Expr) (m:MJ):Prop where
 ap:∀ ξ,PJ (rz X ξ) es (TDJ B ξ m)
noncomputable def a6V:MJ:=fun cs ρ=>S4 (small cs.length) (some (.ok (.val (.str cs)) ρ))
noncomputable def U5 (me:M W)(m:MJ):MJ:=fun cs=>M.bind me fun w ρ=>match getD w ρ with
 | some (.str y)=>S4 (small (cs++y).length) (m (cs++y) ρ)
 | _=>none
theorem _root_.L2.PJ.imp {X:Cx}{es:List Expr}{t t':TJ}(h:PJ X es t)(i:∀ σ H out Q,t' σ H out Q→t σ H out Q):PJ X es t':=fun pins s σ H out Q I q=>h pins s σ H out Q I (i σ H out Q q)
theorem b4K:PDJ X B [] a6V:=.mk fun ξ=>(b2N (X:=rz X ξ)).imp fun σ H out Q t=>by
 obtain ⟨cs,rfl,G,ρ,R,r,e,p⟩:=t
 obtain ⟨hz,e⟩:=j8 e
 cases e
 exact ⟨by rw [E7]; exact A2 hz,p _ G H (d8.refl _) R (.str _)⟩
theorem a5S {m:MJ}(he:PD X B e me)(hr:PDJ X B es m)(hs:evalEach (e::es) X.env=eval e X.env::evalEach es X.env:=by rfl):PDJ X B (e::es) (U5 me m):=.mk fun ξ=>(b1S (X:=rz X ξ) (he.ap ξ) (hr.ap ξ) hs).imp fun σ H out Q t=>by
 obtain ⟨cs,rfl,G,ρ,R,t⟩:=t
 refine (TD.bind (rel:=v8) R t).mono fun x H1 ⟨G1,ρ1,w,s1,R1,q1,r,e,p⟩=>?_
 dsimp only at e
 split at e
 ·rename_i y hd
  obtain ⟨hz,e⟩:=j8 e
  refine ⟨tx y,(q1.get R1 hd).str,by rw [a6b,E7]; exact A2 hz,cs++y,a6b _ _,G1,ρ1,R1,r,e,p⟩
 ·cases e
noncomputable def a8u (m:MJ):M W:=m []
theorem a82 {m:MJ}(h:PDJ X B (v1::v2::es) m)(hs:evalEach (v1::v2::es) X.env=eval v1 X.env::eval v2 X.env::evalEach es X.env:=by rfl):PD X B (.JoinedStr (v1::v2::es) pos) (a8u m):=.mk fun ξ=>(a7u (X:=rz X ξ) (h.ap ξ) hs).imp fun σ H Q t=>⟨[],rfl,t⟩
end
end L3
set_option Elab.async false
set_option linter.all false
set_option maxRecDepth 100000
set_option maxHeartbeats 4000000
set_option Elab.async false
set_option linter.all false
set_option maxRecDepth 100000
set_option maxHeartbeats 4000000
namespace L3
open PySem L2
noncomputable def stW:W→W
 | .own d=>.val d
 | w=>w
section
variable {m ma mb mo mk mf:M W}{mr:M (List W)}{ρ ρ1 ρ2 ρ3 ρ4:i9}{w wa wb wc:W}{ws:List W}{d dx dy dz:D}{ds:List D}{i j:Nat}{k k2:Bool}{f:D→D→Option W}{s1 s2:SM}{r:Option SR}{c c1 c2:M Bool}
theorem B6:getD (stW w) ρ=getD w ρ:=by cases w <;> rfl
theorem L1 (h:m ρ=some (.ok w ρ1)):E8 m ρ=some (.ok (stW w) ρ1):=by
 cases w with
 | own d=>exact a99 h
 | val d=>exact a8t h
 | slot i=>exact a78 h
theorem j5:mC d ρ=some (.ok (.val d) ρ):=rfl
theorem d9 {c:C}(h:ρ[i]?=some (some c)):d7 i ρ=some (.ok (.slot i) ρ):=by unfold d7; rw [h]
theorem i6 (ha:ma ρ=some (.ok wa ρ1))(hb:mb ρ1=some (.ok wb ρ2))(hx:getD wa ρ2=some dx)(hy:getD wb ρ2=some dy)(hf:f dx dy=some w):f7 f ma mb ρ=some (.ok w ρ2):=by
 unfold f7
 rw [M.f9 (L1 ha),M.f9 hb]
 unfold op2
 rw [B6,hx,hy]
 simp only [hf,Option.map_some]
theorem a2F {f:D→Option W}(ha:ma ρ=some (.ok wa ρ1))(hx:getD wa ρ1=some dx)(hf:f dx=some w):mUn f ma ρ=some (.ok w ρ1):=by
 unfold mUn
 rw [M.f9 ha]
 unfold op1
 rw [hx]
 simp only [hf,Option.map_some]
theorem g7:g8 ρ=some (.ok [] ρ):=rfl
theorem c9 (ha:ma ρ=some (.ok wa ρ1))(hb:mr ρ1=some (.ok ws ρ2)):c6 ma mr ρ=some (.ok (stW wa::ws) ρ2):=by
 unfold c6
 rw [M.f9 (L1 ha),M.f9 hb]
 rfl
theorem J1 {f:List D→Option W}(ha:mr ρ=some (.ok ws ρ1))(hx:F7 ws ρ1=some ds)(hf:f ds=some w):L6 f mr ρ=some (.ok w ρ1):=by
 unfold L6
 rw [M.f9 ha]
 unfold opN
 rw [hx]
 simp only [hf,Option.map_some]
theorem b0l {ms:List Bool}{fm:List D→Option FR}{fin:List D}(ha:mr ρ=some (.ok ws ρ1))(hx:z7 ms ws ρ1=some ds)(hp:U6 (o9 ms ws) (C9 ρ1 ms ws)=true)(hf:fm ds=some (.ret w fin))(hs:a3i (o9 ms ws) fin ρ1=some ρ2)
  (he:(a5l w && fin.all a0J)=true):k8 ms fm mr ρ=some (.ok w ρ2):=by
 unfold k8
 rw [M.f9 ha]
 unfold a1W
 rw [hx]
 simp only []
 rw [if_pos hp,hf]
 simp only [hs]
 rw [if_pos he]
theorem u7 {ms:List Bool}{fm:List D→Option FR}{fin:List D}(ha:mr ρ=some (.ok ws ρ1))(hx:z7 ms ws ρ1=some ds)(hp:U6 (o9 ms ws) (C9 ρ1 ms ws)=true)(hf:fm ds=some (.ret w fin))(hs:a3i (o9 ms ws) fin ρ1=some ρ2)
  (he:C9 ρ1 ms ws=[]):k8 ms fm mr ρ=some (.ok w ρ2):=by
 unfold k8
 rw [M.f9 ha]
 unfold a1W
 rw [hx]
 simp only []
 rw [if_pos hp,hf]
 simp only [hs]
 split
 ·rfl
 ·rw [he]
  rfl
theorem a8z {ms:List Bool}{fm:List D→Option FR}{fin:List D}(ha:mr ρ=some (.ok ws ρ1))(hx:z7 ms ws ρ1=some ds)(hp:U6 (o9 ms ws) (C9 ρ1 ms ws)=true)(hf:fm ds=some (.ret w fin))(hs:a3i (o9 ms ws) fin ρ1=some ρ2)
  (he:(a5l w && fin.all a0J)=false) (hh:Z0 (C9 ρ1 ms ws) ρ2=some ρ3):k8 ms fm mr ρ=some (.ok w ρ3):=by
 unfold k8
 rw [M.f9 ha]
 unfold a1W
 rw [hx]
 simp only []
 rw [if_pos hp,hf]
 simp only [hs]
 rw [if_neg (by rw [he]; exact Bool.false_ne_true),hh]
 rfl
theorem F0 (ha:m ρ=some (.ok (.val (.bl k)) ρ1)):A8 m ρ=some (.ok k ρ1):=by unfold A8; rw [M.f9 ha]
theorem a1h (ha:m ρ=some (.ok w ρ1))(hx:getD w ρ1=some d)(hf:b0g d=some k):a0v m ρ=some (.ok k ρ1):=by
 unfold a0v
 rw [M.f9 ha]
 simp only [hx,hf,Option.map_some]
theorem a9P (ha:c1 ρ=some (.ok k ρ1))(hb:c2 ρ1=some (.ok k2 ρ1)):a8R c1 c2 ρ=some (.ok (k && k2) ρ1):=by
 unfold a8R
 rw [M.f9 ha]
 cases k with
 | true=>exact hb
 | false=>rfl
theorem a8s (ha:c1 ρ=some (.ok k ρ1))(hb:c2 ρ1=some (.ok k2 ρ1)):mOr c1 c2 ρ=some (.ok (k || k2) ρ1):=by
 unfold mOr
 rw [M.f9 ha]
 cases k with
 | true=>rfl
 | false=>exact hb
theorem b2v (ha:c1 ρ=some (.ok k ρ1))(hk:k=true):mOr c1 c2 ρ=some (.ok true ρ1):=by
 subst hk
 unfold mOr
 rw [M.f9 ha]
 rfl
theorem b3M {rr:Option (R' Bool)}(ha:c1 ρ=some (.ok k ρ1))(hk:k=false)(hb:c2 ρ1=rr):mOr c1 c2 ρ=rr:=by
 subst hk
 unfold mOr
 rw [M.f9 ha]
 exact hb
theorem b2S (ha:c1 ρ=some (.ok k ρ1)):b4k c1 ρ=some (.ok (!k) ρ1):=by unfold b4k; rw [M.f9 ha]; rfl
theorem a9c (hx:getD w ρ=some (.bl k)):mBl w ρ=some (.ok k ρ):=by unfold mBl; rw [hx]
theorem a0Q {rr:Option (R' W)}(ha:ma ρ=some (.ok wa ρ1))(hx:getD wa ρ1=some (.bl k))(hk:k=true)(hb:mb ρ1=rr):a1u ma mb ρ=rr:=by
 subst hk
 unfold a1u
 rw [M.f9 ha,M.f9 (a9c hx)]
 exact hb
theorem b1y (ha:ma ρ=some (.ok wa ρ1))(hx:getD wa ρ1=some (.bl k)):a6t ma ρ=some (.ok (.val (.bl (!k))) ρ1):=by
 unfold a6t
 rw [M.f9 ha,M.f9 (a9c hx)]
 rfl
theorem a0K {rr:Option (R' W)}(hc:c ρ=some (.ok k ρ1))(hk:k=true)(ha:ma ρ1=rr):a26 c ma mb ρ=rr:=by
 subst hk
 unfold a26
 rw [M.f9 hc]
 exact ha
theorem a0O {rr:Option (R' W)}(hc:c ρ=some (.ok k ρ1))(hk:k=false)(ha:mb ρ1=rr):a26 c ma mb ρ=rr:=by
 subst hk
 unfold a26
 rw [M.f9 hc]
 exact ha
theorem a4P {g:D→D→Option W}{mc:M W}(ha:ma ρ=some (.ok wa ρ1))(hb:mb ρ1=some (.ok wb ρ2))(hx:getD wa ρ2=some dx)(hy:getD wb ρ2=some dy)(hf:f dx dy=some (.val (.bl k)))(hc:mc ρ2=some (.ok wc ρ2))(hz:getD wc ρ2=some dz)(hg:g dy dz=some (.val (.bl k2))):
  a05 f g ma mb mc ρ=some (.ok (.val (.bl (k && k2))) ρ2):=by
 unfold a05
 rw [M.f9 (L1 ha),M.f9 (L1 hb)]
 have e:op2 f (stW wa) (stW wb) ρ2=some (.ok (.val (.bl k)) ρ2):=by
  unfold op2
  rw [B6,B6,hx,hy]
  simp only [hf,Option.map_some]
 rw [M.f9 e,M.f9 (a9c rfl)]
 cases k with
 | false=>rfl
 | true=>
  show M.bind mc _ ρ2=_
  rw [M.f9 hc]
  unfold op2
  rw [B6,hy,hz]
  simp only [hg,Option.map_some,Bool.true_and]
theorem T7 (ha:mr ρ=some (.ok ws ρ1))(hl:X4 ws ρ1=some (.ok ds ρ2))(hz:small ds.length):a2R mr ρ=some (.ok (.val (.tup ds)) ρ2):=by
 unfold a2R
 rw [M.f9 ha,M.f9 hl]
 exact k9 hz
theorem G8 (ha:mr ρ=some (.ok ws ρ1))(hl:X4 ws ρ1=some (.ok ds ρ2))(hz:small ds.length):N3 mr ρ=some (.ok (.own (.lst ds)) ρ2):=by
 unfold N3
 rw [M.f9 ha,M.f9 hl]
 exact k9 hz
theorem a3D {l:Bool}{ds0:List D}(h0:ρ[i]?=some (some (.ow l (.lst ds0))))(ha:mr ρ=some (.ok [w] ρ1))(hl:D7 w ρ1=some (.ok d ρ2))(h1:ρ2[i]?=some (some (.ow l (.lst ds))))(hz:small ds.length):
  N5 i mr ρ=some (.ok (.val .t6) (ρ2.set i (some (.ow l (.lst (ds++[d])))))):=by
 unfold N5
 have hc:chk "list" (.slot i) ρ=some (.ok () ρ):=by
  unfold chk getD
  simp only [h0]
  rfl
 rw [M.f9 (d9 h0),M.f9 hc,M.f9 ha]
 show M.bind (D7 w) (a0C i) ρ1=_
 rw [M.f9 hl]
 unfold a0C
 rw [h1]
 exact k9 hz
theorem b0P {es es2:List (Key×D)}{kk:Key}(ha:mo ρ=some (.ok wa ρ1))(h0:getD wa ρ1=some (.dct es2))(hb:mk ρ1=some (.ok wb ρ2))(hx:getD wa ρ2=some (.dct es))(hy:getD wb ρ2=some dy)(hk:keyOf dy=some kk):b2e mo mk ρ=some (.ok (.val ((P5 es kk).getD .t6)) ρ2):=by
 unfold b2e
 have hc:chk "dict" (stW wa) ρ1=some (.ok () ρ1):=by
  unfold chk
  rw [B6,h0]
  rfl
 rw [M.f9 (L1 ha),M.f9 hc,M.f9 hb]
 unfold op2
 rw [B6,hx,hy]
 simp only [b2c,hk,Option.map_some]
theorem b0y {es es2:List (Key×D)}{kk:Key}(ha:mo ρ=some (.ok wa ρ1))(h0:getD wa ρ1=some (.dct es2))(hb:mk ρ1=some (.ok wb ρ2))(hc':mf ρ2=some (.ok wc ρ3))(hl:D7 wc ρ3=some (.ok dz ρ4))(hx:getD wa ρ4=some (.dct es))(hy:getD wb ρ4=some dy)(hk:keyOf dy=some kk):b1X mo mk mf ρ=some (.ok (.val ((P5 es kk).getD dz)) ρ4):=by
 unfold b1X
 have hc:chk "dict" (stW wa) ρ1=some (.ok () ρ1):=by
  unfold chk
  rw [B6,h0]
  rfl
 rw [M.f9 (L1 ha),M.f9 hc,M.f9 (L1 hb),M.f9 hc',M.f9 hl]
 unfold op2
 rw [B6,B6,hx,hy]
 simp only [b1W,hk,Option.map_some]
theorem X6 {T:String}{f:D→List D→Option W}(ha:mo ρ=some (.ok wa ρ1))(h0:getD wa ρ1=some d)(ht:tyD T d=true)(hb:mr ρ1=some (.ok ws ρ2))(hx:getD wa ρ2=some dx)(hy:F7 ws ρ2=some ds)(hf:f dx ds=some w):mMt T f mo mr ρ=some (.ok w ρ2):=by
 unfold mMt
 have hc:chk T (stW wa) ρ1=some (.ok () ρ1):=by
  unfold chk
  rw [B6,h0]
  simp only [ht,if_true]
 rw [M.f9 (L1 ha),M.f9 hc,M.f9 hb]
 unfold opM
 rw [B6,hx,hy]
 simp only [hf,Option.map_some]
theorem T8 {n:Int}(ha:m ρ=some (.ok w ρ1))(hx:getD w ρ1=some (.int n)):P8 m ρ=some (.ok (some n) ρ1):=by
 unfold P8
 rw [M.f9 ha]
 simp only [hx]
theorem a5c:(M.pure none:M (Option Int)) ρ=some (.ok none ρ):=rfl
theorem a3y {ml mh:M (Option Int)}{lo hi:Option Int}(ha:ma ρ=some (.ok wa ρ1))(hl:ml ρ1=some (.ok lo ρ2))(hh:mh ρ2=some (.ok hi ρ3))(hx:getD wa ρ3=some dx)(hf:slD dx lo hi=some w):mSl ma ml mh ρ=some (.ok w ρ3):=by
 unfold mSl
 rw [M.f9 (L1 ha),M.f9 hl,M.f9 hh]
 unfold op1
 rw [B6,hx]
 simp only [hf,Option.map_some]
theorem g5 (h1:s1 ρ=some (.nx ρ1))(h2:s2 ρ1=r):l9 s1 s2 ρ=r:=by rw [b1I h1]; exact h2
theorem D3 (h1:s1 ρ=some (.rt w ρ1)):l9 s1 s2 ρ=some (.rt w ρ1):=by unfold l9; rw [h1]
theorem B5:nxS ρ=some (.nx ρ):=rfl
theorem m8 (ha:m ρ=some (.ok w ρ1))(hs:a1d i w ρ1=some (.nx ρ2)):m6 i m ρ=some (.nx ρ2):=by unfold m6; rw [D9 ha]; exact hs
theorem w6 {sr:SR}(ha:m ρ=some (.ok w ρ1))(hs:b3L w ρ1=some sr):retS m ρ=some sr:=by unfold retS; rw [D9 ha]; exact hs
theorem a6Z (ha:m ρ=some (.ok w ρ1)):P7 m ρ=some (.nx ρ1):=by unfold P7; rw [D9 ha]; rfl
theorem C6 (hc:c ρ=some (.ok k ρ1))(hk:k=true)(h:s1 ρ1=r):ifS c s1 s2 ρ=r:=by subst hk; unfold ifS; rw [D9 hc]; exact h
theorem r8 (hc:c ρ=some (.ok k ρ1))(hk:k=false)(h:s2 ρ1=r):ifS c s1 s2 ρ=r:=by subst hk; unfold ifS; rw [D9 hc]; exact h
theorem b3A (hv:m ρ=some (.ok wa ρ1)){c0:C}(h0:ρ1[i]?=some (some c0))(hk:mk ρ1=some (.ok wb ρ2))(hl:D7 (stW wa) ρ2=some (.ok d ρ3))(hy:getD wb ρ3=some dy)(hp:b2d i dy d ρ3=r):b4J i m mk ρ=r:=by
 unfold b4J b4S
 rw [D9 (L1 hv),D9 (d9 h0),D9 hk,D9 hl]
 simp only [hy]
 exact hp
theorem a6k {mi:M (List D)}{tg:FT}(hi:mi ρ=some (.ok ds ρ1))(h:forL tg s1 ds ρ1=r):a4Y mi tg s1 ρ=r:=by unfold a4Y; rw [D9 hi]; exact h
theorem a9m {g:List D→Option (List D)}{es:List D}(ha:mr ρ=some (.ok ws ρ1))(hx:F7 ws ρ1=some ds)(hf:g ds=some es):a75 g mr ρ=some (.ok es ρ1):=by
 unfold a75
 rw [M.f9 ha]
 simp only [hx,hf,Option.map_some]
theorem Z5 {es:List D}(ha:m ρ=some (.ok w ρ1))(hl:D7 w ρ1=some (.ok d ρ2))(hf:itD d=some es):L8 m ρ=some (.ok es ρ2):=by
 unfold L8
 rw [M.f9 ha,M.f9 hl]
 simp only [hf,Option.map_some]
theorem Z7 {mi:M (List D)}{tg:FT}{mt:M Bool}{me:M W}{own:Nat}{fr:List Nat}{ys:List D}(hi:mi ρ=some (.ok ds ρ1))(hz:small ds.length)(hc:K4 tg mt me (O6 own fr ρ1) ds=some ys)(hf:ys.all Z2=true∨a0t ρ1 fr=[]):V6 mi tg mt me own fr ρ=some (.ok (.own (.lst ys)) ρ1):=by
 unfold V6
 rw [M.f9 hi]
 unfold a9d
 rw [hc]
 simp only []
 rw [k9 hz]
 rcases hf with hf | hf
 ·rw [if_pos hf]
 ·split
  ·rfl
  ·rw [hf]
   rfl
theorem a1j {tg:FT}{me:M W}(g:D→D):∀ (ds:List D),(∀ d∈ds,∃ ρ1 w ρ2 ρ3,tg d ρ=some ρ1∧me ρ1=some (.ok w ρ2)∧D7 w ρ2=some (.ok (g d) ρ3))→K4 tg a0c me ρ ds=some (ds.map g)
 | [],_=>rfl
 | d::ds,h=>by
  obtain ⟨ρ1,w,ρ2,ρ3,h1,h2,h3⟩:=h d List.mem_cons_self
  unfold K4 compTurn
  rw [h1]
  have hy:a0c ρ1=some (.ok true ρ1):=rfl
  simp only [hy]
  rw [M.f9 h2,h3,a1j g ds fun x hx=>h x (List.mem_cons_of_mem _ hx)]
  rfl
theorem m9 {den:SM}{n:Nat}{ms:List Bool}{sr:SR}{fr:FR}(h:den (A1 n ms ds)=some sr)(ho:a7p ms sr=some fr):A5 den n ms ds=some fr:=by unfold A5; rw [h]; exact ho
theorem a7j {tg:FT}(g:List D→i9)(hs:∀ pre d post,ds=pre++d::post→∃ ρ1,tg d (g pre)=some ρ1∧(s1 ρ1=some (.nx (g (pre++[d])))∨s1 ρ1=some (.ct (g (pre++[d]))))):forL tg s1 ds (g [])=some (.nx (g ds)):=by
 have key:∀ (es pre:List D),ds=pre++es→forL tg s1 es (g pre)=some (.nx (g ds)):=by
  intro es
  induction es with
  | nil=>intro pre h; rw [h,List.append_nil]; rfl
  | cons d es ih=>
   intro pre h
   obtain ⟨ρ1,e1,e2⟩:=hs pre d es h
   have q:=ih (pre++[d]) (by rw [h]; simp)
   unfold forL
   rw [e1]
   rcases e2 with e2 | e2
   ·simp only [e2]; exact q
   ·simp only [e2]; exact q
 exact key ds [] rfl
theorem a7h {a b:Int}(h:a4Q a b):a1E (.int a) (.int b)=some (.val (.int (a * b))):=k9 h
theorem b02 {a b:Int}(h:a7v a b):a5V (.int a) (.int b)=some (.val (.int (a / b))):=k9 h
theorem U4 {a b:Int}(h:0 < b):F2 (.int a) (.int b)=some (.val (.int (a % b))):=k9 h
theorem b0o {a:Int}(h:a.natAbs.log2 < 1920):a0E [.int a]=some (.val (.str (Wd.n6 a))):=k9 h
end
end L3
set_option Elab.async false
set_option linter.all false
set_option maxRecDepth 100000
set_option maxHeartbeats 4000000
set_option Elab.async false
set_option linter.all false
set_option maxRecDepth 100000
set_option maxHeartbeats 4000000
namespace L3
open PySem PySem.Spec PyProof.Rows L2
noncomputable def a8H (i:Nat):M W:=fun ρ=>match ρ[i]? with
 | some (some (.ow l (.lst ds)))=>match ds[ds.length - 1]? with
  | some d=>some (.ok (.val d) (ρ.set i (some (.ow l (.lst ds.dropLast)))))
  | none=>none
 | _=>none
noncomputable def a4i (i:Nat):M W:=M.bind (d7 i) fun x=>M.bind (chk "list" x) fun _=>a8H i
section
variable {K:PySem.W.Frag}{G:Hp}
theorem l7.dropLast {xs:List V}{ds:List D}(r:l7 K G xs ds):l7 K G xs.dropLast ds.dropLast:=by
 have hl:=r.len
 refine ⟨by rw [List.length_dropLast,List.length_dropLast,hl],fun j x d a b=>?_⟩
 rw [List.getElem?_dropLast] at a b
 split at a
 ·rw [if_pos (by omega)] at b
  exact r.get j x d a b
 ·cases a
end
section
variable {X:Cx}{B:Bs}{o e f:Expr}{me mf:M W}{apos cpos:Pos}
theorem a98 (i:Nat)(ho:PD X B o (d7 i))(hbase:attributeBase o "pop" X.env (eval o X.env)=eval o X.env:=by rfl) (hline:(apos.endLine == cpos.line)=true:=by rfl) (hK:X.K=B.K:=by rfl):
  PD X B (.Call (.Attribute o "pop" apos) [] [] cpos) (a4i i):=.mk fun ξ=>
 (b2n (X:=rz X ξ) PySem.F.plainAttrs_list PySem.F.slot_list_pop PySem.F.type_list_pop b2t (ho.ap ξ) hbase hline).imp fun σ H Q t=>by
  obtain ⟨G,ρ,R,t⟩:=t
  refine (TD.b16 (rel:=v8) R t).mono fun x H1 ⟨G1,ρ1,w,er,s1,R1,q1,t2⟩=>?_
  obtain ⟨rfl,rfl⟩:=a5a er
  have hv:σ[i]?=some (some x):=q1
  obtain ⟨u,ρ2,e2,t3⟩:=t2.step fun r h=>⟨(),_,(a04 h).1⟩
  obtain ⟨e3,d,hd,ty⟩:=a04 e2
  cases e3
  refine ⟨by show tyV X.K "list" x H1; rw [hK]; exact a6a R1 (q1.get R1 hd) ty,?_⟩
  obtain ⟨r,er,p⟩:=t3
  unfold a8H at er
  split at er
  ·rename_i l ds hi
   split at er
   ·rename_i y hy
    cases er
    obtain ⟨pp,rfl,g,xs,hx,rl⟩:=slot_of R1 hi hv
    have hl:=rl.len
    obtain ⟨v,hv'⟩:∃ v,xs[xs.length - 1]?=some v:=by
     have:ds.length - 1 < ds.length:=(List.getElem?_eq_some_iff.mp hy).1
     exact ⟨xs[xs.length - 1]'(by omega),List.getElem?_eq_getElem (by omega)⟩
    have rv:Rep B.K G1 v y:=rl.get _ _ _ hv' (by rw [hl]; exact hy)
    refine ⟨pp,xs,v,rfl,rfl,hx,hv',?_⟩
    exact p v G1 _ (d8.refl _) (R1.write hi hv ⟨xs.dropLast,l8,rl.dropLast⟩) rv
   ·cases er
  ·cases er
end
end L3
set_option Elab.async false
set_option linter.all false
set_option maxRecDepth 100000
set_option maxHeartbeats 4000000
namespace L3
open PySem PySem.Spec PyProof.Rows L2
section
variable {tg:FT}{mt:M Bool}{me:M W}{ρ ρ1 ρ2 ρ3 ρ4:i9}{d y:D}{w:W}
theorem a8U (h1:tg d ρ=some ρ1)(h2:mt ρ1=some (.ok true ρ2))(h3:me ρ2=some (.ok w ρ3))(h4:D7 w ρ3=some (.ok y ρ4)):compTurn tg mt me ρ d=some (some y):=by
 unfold compTurn
 rw [h1]
 simp only [h2]
 rw [M.f9 h3,h4]
end
theorem eq_str (a b:List Nat):L5 (.str a) (.str b)=some (.val (.bl (decide (a=b)))):=by
 show some (W.val (.bl (a == b)))=_
 by_cases h:a=b
 ·subst h; simp
 ·simp [h]
theorem ne_str (a b:List Nat):X7 (.str a) (.str b)=some (.val (.bl (!decide (a=b)))):=by
 show some (W.val (.bl (!(a == b))))=_
 by_cases h:a=b
 ·subst h; simp
 ·simp [h]
theorem a2L {α:Type}(xs:List α)(k:Nat):(xs.drop (HT.v5 xs.length 0 (some (k:Int)))).take (HT.v5 xs.length xs.length none - HT.v5 xs.length 0 (some (k:Int)))=xs.drop k:=by
 rw [HT.Z6,HT.a0B]
 by_cases h:k≤xs.length
 ·rw [Nat.min_eq_left h,List.take_of_length_le (by simp)]
 ·rw [Nat.min_eq_right (by omega),List.take_of_length_le (by simp),List.drop_eq_nil_of_le (Nat.le_refl _),List.drop_eq_nil_of_le (by omega)]
theorem a9F {α:Type}(xs:List α)(k:Nat):(xs.drop (HT.v5 xs.length 0 none)).take (HT.v5 xs.length xs.length (some (k:Int)) - HT.v5 xs.length 0 none)=xs.take k:=by
 rw [HT.Z6,HT.a0B,List.drop_zero,Nat.sub_zero]
 by_cases h:k≤xs.length
 ·rw [Nat.min_eq_left h]
 ·rw [Nat.min_eq_right (by omega),List.take_of_length_le (Nat.le_refl _),List.take_of_length_le (by omega)]
theorem a7H (ds:List D)(k:Nat):cutD ds (some (k:Int)) none=ds.drop k:=a2L ds k
theorem b0F (ds:List D)(k:Nat):cutD ds none (some (k:Int))=ds.take k:=a9F ds k
theorem a7K (cs:List Nat)(k:Nat):a0U cs (some (k:Int)) none=cs.drop k:=a2L cs k
theorem j6 {X:Cx}{B:Bs}{x:Str}{cs:List Nat}{j pos}(h:x.cps.toList=cs):PD X B (.Constant (.str x) j pos) (mC (.str cs)):=by
 subst h
 exact b33
end L3
set_option maxRecDepth 100000
set_option Elab.async false
set_option linter.all false
set_option maxRecDepth 100000
set_option maxHeartbeats 4000000
set_option Elab.async false
set_option linter.all false
set_option maxRecDepth 100000
set_option maxHeartbeats 4000000
namespace L3
open PySem PySem.Spec PyProof.Rows L2
section
variable {P:Program}{w:World}{K:PySem.W.Frag}{G G' H H':Hp}{h h':Heap}{a b p:Addr}{o:Obj}{kvs:List (Key×V)}
structure Sw (a:Addr) (kvs:List (Key×V)) (G G':Hp):Prop where
 out:∀ b,b≠a→G' b=G b
 was:Rd G a (.dK kvs)
 now:Rd G' a (.dK kvs)
theorem Sw.rd {u:HO}(s:Sw a kvs G G')(h:Rd G b u)(z:b≠a):Rd G' b u:=by
 rcases h with h | ⟨o,h⟩
 ·exact .inl (by rw [s.out b z]; exact h)
 ·exact .inr ⟨o,by rw [s.out b z]; exact h⟩
theorem b3b {u v:HO}(h1:Rd G a u)(h2:Rd G a v)(n1:∀ o x,u≠.frz o x)(n2:∀ o x,v≠.frz o x):u=v:=by
 rcases h1 with h1 | ⟨o1,h1⟩ <;> rcases h2 with h2 | ⟨o2,h2⟩ <;> rw [h1] at h2
 ·exact Option.some.inj h2
 ·exact absurd (Option.some.inj h2) (n1 _ _)
 ·exact absurd (Option.some.inj h2).symm (n2 _ _)
 ·cases h2; rfl
theorem Sw.ne {u:HO}(s:Sw a kvs G G')(h:Rd G b u)(n:∀ o x,u≠.frz o x)(hu:u≠.dK kvs):b≠a:=by
 rintro rfl
 exact hu (b3b h s.was n (by intro o x z; cases z))
theorem Sw.tup {xs:List V}(s:Sw a kvs G G')(h:V8 K G b xs):V8 K G' b xs:=by
 rcases h with h | h
 ·exact .inl (s.rd h (s.ne h (by intro o x z; cases z) (by intro z; cases z)))
 ·exact .inr h
theorem Sw.lst {xs:List V}(s:Sw a kvs G G')(h:L4 K G b xs):L4 K G' b xs:=by
 rcases h with h | h
 ·exact .inl (s.rd h (s.ne h (by intro o x z; cases z) (by intro z; cases z)))
 ·exact .inr h
theorem Sw.dct {ks:List (Key×V)}(s:Sw a kvs G G')(h:Rd G b (.dK ks)):Rd G' b (.dK ks):=by
 by_cases z:b=a
 ·subst z
  rw [a8r h s.was]
  exact s.now
 ·exact s.rd h z
theorem Sw.rep (s:Sw a kvs G G'){v:V}{d:D}(h:Rep K G v d):Rep K G' v d:=by
 induction h with
 | t6=>exact .t6
 | bl b=>exact .bl b
 | int i=>exact .int i
 | str cs=>exact .str cs
 | ty n=>exact .ty n
 | tup h hl _ ih=>exact .tup (s.tup h) hl ih
 | lst h hl _ ih=>exact .lst (s.lst h) hl ih
 | dct h hk _ ih=>exact .dct (s.dct h) hk ih
theorem Sw.b5n (s:Sw a kvs G G'){xs:List V}{ds:List D}(h:l7 K G xs ds):l7 K G' xs ds:=⟨h.len,fun j x d a b=>s.rep (h.get j x d a b)⟩
theorem Sw.b4D (s:Sw a kvs G G'){xs:List (Key×V)}{ds:List (Key×D)}(h:k6 K G xs ds):k6 K G' xs ds:=⟨h.keys,fun j x d a b=>s.rep (h.get j x d a b)⟩
theorem Sw.own (s:Sw a kvs G G'){d:D}(e:H' p=H p)(h:y9 K G H p d):y9 K G' H' p d:=by
 cases d with
 | lst ds=>obtain ⟨xs,q,r⟩:=h; exact ⟨xs,by rw [e]; exact q,s.b5n r⟩
 | dct es=>obtain ⟨xs,q,r⟩:=h; exact ⟨xs,by rw [e]; exact q,s.b4D r⟩
 | _=>exact (show False from h).elim
theorem Sw.args (s:Sw a kvs G G')(hg:∀ p,G p=none→G' p=none)(hH:∀ p,G p=none→H' p=H p):∀ {ms:List Bool} {vs:List V} {ds:List D} {ps:List Addr},J3 K G H ms vs ds ps→J3 K G' H' ms vs ds ps
 | _,_,_,_,.nil=>.nil
 | _,_,_,_,.sh h r=>.sh (s.rep h) (Sw.args s hg hH r)
 | _,_,_,_,.ln g o n r=>.ln (hg _ g) (s.own (hH _ g) o) n (Sw.args s hg hH r)
end
noncomputable def b3i (K:PySem.W.Frag)(ms:List Bool)(i:Nat)(fm:List D→Option FR):Sp:=fun vs H Q E=>∃ G ds ps r,d8 G H∧J3 K G H ms vs ds ps∧(∃ a o kvs es,vs[i]?=some (.ref a)∧G a=some (.frz o (.dK kvs))∧ds[i]?=some (.dct es)∧k6 K G kvs es)∧fm ds=some r∧match r with
 | .ret w fin=>∀ v G' H',After K G H ps G' H' fin→a2g K H G' H' v w→Q v H'
 | .exc _ _=>False
end L3
set_option Elab.async false
set_option linter.all false
set_option maxRecDepth 100000
set_option maxHeartbeats 4000000
namespace L3
open PySem PySem.Spec PyProof.Rows L2
noncomputable abbrev Gs:=List (Int×List Int)
noncomputable def mkO (b:Bool)(xs:List V):HO:=if b=true then .tup xs else .lst xs
noncomputable def mkD (b:Bool)(xs:List D):D:=if b=true then .tup xs else .lst xs
noncomputable def a0x (b:Bool)(g:Int×List Int):D:=mkD b [.int g.1,.lst (g.2.map D.int)]
noncomputable def a6R (i:Nat)(hs:List Int)(ρ:i9):i9:=match hs.getLast? with
 | some h=>ρ.set i (some (.sh (.int h)))
 | none=>ρ
structure b17 (b:Bool) (H1 H:Hp) (p:Addr) (ts:List (Addr×Addr)) (gs:Gs):Prop where
 out:∀ c,c≠p→H1 c≠none→H c=H1 c
 dom:∀ c,H c=none→H1 c=none
 lst:H p=some (.lst (ts.map fun t=>V.ref t.1))
 len:ts.length=gs.length
 pr:∀ (k:Nat) t g,ts[k]?=some t→gs[k]?=some g→H1 t.1=none∧H1 t.2=none∧H t.1=some (mkO b [.int g.1,.ref t.2])∧H t.2=some (.lst (g.2.map V.int))
 nd:(ts.map (·.1)++ts.map (·.2)).Nodup
theorem b17.done {B:Bs}{b:Bool}{G1 H1 H:Hp}{σ:St}{ρ:i9}{p:Addr}{ts:List (Addr×Addr)}{gs:Gs}{i j:Nat}{hs:List Int}(R:RS B G1 H1 σ ρ)(hj:ρ[j]?=some (some (.ow false (.lst []))))(hsj:σ[j]?=some (some (.ref p)))(hi:i < ρ.length)(hij:i≠j)(A:b17 b H1 H p ts gs):
  ∃ G',d8 G1 G'∧RS B G' H (match hs.getLast? with | some h=>σ.set i (some (.int h)) | none=>σ) ((a6R i hs ρ).set j (some (.ow false (.lst (gs.map (a0x b)))))):=by
 obtain ⟨p0,q1,q2,q3,q4,q5⟩:=R.ow j false _ hj
 rw [hsj] at q1
 cases q1
 obtain ⟨ob,hob⟩:=q5.some
 have hp:H1 p≠none:=by rw [hob]; exact nofun
 let L:=ts.map (·.1)++ts.map (·.2)
 have inL:∀ {c},c∈L→H1 c=none:=fun {c} hc=>by
  rcases List.mem_append.mp hc with hc | hc
  ·obtain ⟨t,hm,rfl⟩:=List.mem_map.mp hc
   obtain ⟨k,hk⟩:=List.getElem?_of_mem hm
   have hkl:k < gs.length:=by rw [← A.len]; exact (List.getElem?_eq_some_iff.mp hk).1
   exact (A.pr k t gs[k] hk (List.getElem?_eq_getElem hkl)).1
  ·obtain ⟨t,hm,rfl⟩:=List.mem_map.mp hc
   obtain ⟨k,hk⟩:=List.getElem?_of_mem hm
   have hkl:k < gs.length:=by rw [← A.len]; exact (List.getElem?_eq_some_iff.mp hk).1
   exact (A.pr k t gs[k] hk (List.getElem?_eq_getElem hkl)).2.1
 have hpL:p∉L:=fun m=>hp (inL m)
 have s1:d8 G1 (plus G1 H L):=fun c o e=>by
  rw [u0 fun m=>?_]
  ·exact e
  ·have:=inL m
   rw [R.gH c o e] at this
   cases this
 have reps:l7 B.K (plus G1 H L) (ts.map fun t=>V.ref t.1) (gs.map (a0x b)):=by
  refine ⟨by rw [List.length_map,List.length_map,A.len],fun k x d hx hd=>?_⟩
  rw [List.getElem?_map] at hx hd
  obtain ⟨t,ht,rfl⟩:=Option.map_eq_some_iff.mp hx
  obtain ⟨g,hg,rfl⟩:=Option.map_eq_some_iff.mp hd
  obtain ⟨_,_,a3,a4⟩:=A.pr k t g ht hg
  have m1:t.1∈L:=List.mem_append_left _ (List.mem_map_of_mem (List.mem_of_getElem? ht))
  have m2:t.2∈L:=List.mem_append_right _ (List.mem_map_of_mem (List.mem_of_getElem? ht))
  have r2:Rep B.K (plus G1 H L) (.ref t.2) (.lst (g.2.map D.int)):=by
   have r:=l7.a4c (K:=B.K) (G:=plus G1 H L) g.2
   exact .lst (L4.of (by rw [C0 m2]; exact a4)) r.len r.get
  have r3:l7 B.K (plus G1 H L) [.int g.1,.ref t.2] [.int g.1,.lst (g.2.map D.int)]:=.cons (.int _) (.cons r2 .nil)
  unfold a0x mkD
  unfold mkO at a3
  cases b with
  | true=>exact .tup (V8.of (by rw [C0 m1]; exact a3)) r3.len r3.get
  | false=>exact .lst (L4.of (by rw [C0 m1]; exact a3)) r3.len r3.get
 
 have R1:RS B (plus G1 H L) H σ (ρ.set j (some (.ow false (.lst (gs.map (a0x b)))))):=by
  have hjl:j < ρ.length:=(List.getElem?_eq_some_iff.mp hj).1
  refine ⟨R.hk,fun c o e=>?_,R.g0.trans s1,fun c o e=>?_,fun c o e=>?_,fun c e=>R.dom c (A.dom c e),by simp [R.len],fun k d e=>?_,fun k l d e=>?_,fun k m l d l' d' p' a b'=>?_,(R.fz.same s1).a24 (by intro _ h; cases h),(R.ob.gh s1 (fun q _ _ _ hq g=>by rw [u0 fun m=>by have:=inL m; rw [hq] at this; cases this]; exact g) fun q _ _ _ hq _ _=>by rw [A.out q (a0G q5 hq) (by rw [hq]; exact nofun)]; exact hq).a24 (by intro _ h; cases h <;> rfl) (by intro _ h; cases h)⟩
  ·have e1:=R.keep c o e
   rw [A.out c (fun z=>by rw [z,q3] at e; cases e) (by rw [e1]; exact nofun)]
   exact e1
  ·by_cases m:c∈L
   ·rw [C0 m] at e; exact e
   ·rw [u0 m] at e
    have e1:=R.gH c o e
    rw [A.out c (fun z=>by rw [z,q2] at e; cases e) (by rw [e1]; exact nofun)]
    exact e1
  ·by_cases m:c∈L
   ·exact .inr (R.dom c (inL m))
   ·rw [u0 m] at e; exact R.gnew c o e
  ·by_cases z:j=k
   ·subst z; rw [List.getElem?_set_self hjl] at e; cases e
   ·rw [List.getElem?_set_ne z] at e
    obtain ⟨v,a1,a2⟩:=R.sh k d e
    exact ⟨v,a1,a2.same s1⟩
  ·by_cases z:j=k
   ·subst z
    rw [List.getElem?_set_self hjl] at e
    cases e
    exact ⟨p,hsj,by rw [u0 hpL]; exact q2,q3,q4,_,A.lst,reps⟩
   ·rw [List.getElem?_set_ne z] at e
    obtain ⟨p2,a1,a2,a3,a4,a5⟩:=R.ow k l d e
    obtain ⟨o2,ho2⟩:=a5.some
    have n1:p2∉L:=fun m=>by have:=inL m; rw [ho2] at this; cases this
    have n2:p2≠p:=fun zz=>z (R.inj j k _ _ _ _ p hj e hsj (by rw [a1,zz]))
    exact ⟨p2,a1,by rw [u0 n1]; exact a2,a3,a4,a5.same s1 (A.out p2 n2 (by rw [ho2]; exact nofun))⟩
  ·have old:∀ {k:Nat} {l:Bool} {d:D},(ρ.set j (some (.ow false (.lst (gs.map (a0x b))))))[k]?=some (some (.ow l d))→∃ l d,ρ[k]?=some (some (.ow l d)):=fun {k l d} e=>by
    by_cases z:j=k
    ·subst z; exact ⟨_,_,hj⟩
    ·rw [List.getElem?_set_ne z] at e; exact ⟨_,_,e⟩
   obtain ⟨l1,d1,a1⟩:=old a
   obtain ⟨l2,d2,a2⟩:=old b'
   exact R.inj k m l1 d1 l2 d2 p' a1 a2
 refine ⟨plus G1 H L,s1,?_⟩
 unfold a6R
 cases hl:hs.getLast? with
 | none=>exact R1
 | some h=>
  have e:(ρ.set i (some (C.sh (.int h)))).set j (some (.ow false (.lst (gs.map (a0x b)))))=(ρ.set j (some (.ow false (.lst (gs.map (a0x b)))))).set i (some (.sh (.int h))):=List.set_comm _ _ hij
  show RS B (plus G1 H L) H (σ.set i (some (.int h))) ((ρ.set i (some (C.sh (.int h)))).set j _)
  rw [e]
  exact R1.a5o (by simpa using hi) (.int h)
theorem b3i.imp {K:PySem.W.Frag}{ms:List Bool}{i:Nat}{fm fm':List D→Option FR}(h:∀ ds r,fm ds=some r→fm' ds=some r):∀ vs H Q E,b3i K ms i fm vs H Q E→b3i K ms i fm' vs H Q E:=by
 rintro vs H Q E ⟨G,ds,ps,r,a,b,b2,c,d⟩
 exact ⟨G,ds,ps,r,a,b,b2,h ds r c,d⟩
end L3
set_option Elab.async false
set_option linter.all false
set_option maxRecDepth 100000
set_option maxHeartbeats 4000000
namespace L3
open PySem L2
section
variable {tg:FT}{b:SM}{c:M Bool}{ρ ρ1 ρ2:i9}{d:D}{ds:List D}{w:W}{n i j:Nat}{r:Option SR}{es:List (Key×D)}
theorem a6m (h1:tg d ρ=some ρ1)(h2:b ρ1=some (.nx ρ2))(h3:forL tg b ds ρ2=r):forL tg b (d::ds) ρ=r:=by
 unfold forL
 rw [h1]
 simp only [h2]
 exact h3
end
end L3
set_option Elab.async false
set_option linter.all false
set_option maxRecDepth 100000
set_option maxHeartbeats 4000000
set_option Elab.async false
set_option linter.all false
set_option maxRecDepth 100000
set_option maxHeartbeats 4000000
set_option Elab.async false
set_option linter.all false
set_option maxRecDepth 100000
set_option maxHeartbeats 4000000
namespace L3
open PySem PySem.Spec PyProof.Rows L2
noncomputable def CX1 (P:Program)(w:World):CXT:=fun outer H s E e s'=>∃ a cls dct H' T,e=.ref a∧s'.os=s.os∧AllBare s'.gens∧Un (frs outer) [] H H' s.heap s'.heap∧HOk P w H' s'.heap∧H' a=none∧s.heap.get? a=none∧
 TrD s'.heap a T cls dct .none∧H' T=none∧s.heap.get? T=none∧E cls dct H'
noncomputable def SpX (K:PySem.W.Frag)(ms:List Bool)(fm:List D→Option FR):Sp:=fun vs H Q E=>∃ G ds ps r,d8 G H∧J3 K G H ms vs ds ps∧fm ds=some r∧match r with
 | .ret w fin=>∀ v G' H',After K G H ps G' H' fin→a2g K H G' H' v w→Q v H'
 | .exc x fin=>∀ cls dct G' H',After K G H ps G' H' fin→a3Q K H' x cls dct→E cls dct H'
theorem SpX.imp {K:PySem.W.Frag}{ms:List Bool}{fm fm':List D→Option FR}(h:∀ ds r,fm ds=some r→fm' ds=some r):∀ vs H Q E,SpX K ms fm vs H Q E→SpX K ms fm' vs H Q E:=by
 rintro vs H Q E ⟨G,ds,ps,r,a,b,c,d⟩
 exact ⟨G,ds,ps,r,a,b,h ds r c,d⟩
section
variable {P:Program}{w:World}{K:PySem.W.Frag}{mg:Str→Option Value}{base:Heap}
theorem b2R {x:Str}{st:Stmt}{f:Addr}{fd:FuncData}{N ps:List Str}{ms:List Bool}{k:Nat}{m:SM}(F:Fun K x x st f fd)(S:n8 N ps (g6 st))(hm:ms.length=ps.length)
  (hbody:∀ (cdv:Value) (A:Around) (outer:List Env) (s:Shared) (H:Hp) (E:XK) (H0 HK G0:Hp) (L:Nat→Option Addr),C4 k (A.deeper (envOfC x (g6 st) s.heap.objs.size f cdv))→
   a28 (N4 Q4 P w K mg base N x (g6 st) f cdv A outer s H E) ⟨K,H0,HK,G0,L,none⟩ (D0 st) m):A0 P w K mg base (CX1 P w) (k + 1) f fd ps (SpX K ms (A5 m N.length ms)):=by
 have hpl:ps.length≤N.length:=by have:=congrArg List.length S.pre; rw [List.length_take] at this; omega
 obtain ⟨oc,od,kV,doc,pm,an,cdv,ct,osl,rfl,lk,hcd⟩:=F.ex
 refine b15 lk hcd S (fun vs H Q E h=>?_) (fun A outer s H vs Q E hr h=>?_)
 ·obtain ⟨G,ds,pp,r,_,a,_⟩:=h
  rw [a.len.1,hm]
 obtain ⟨G,ds,pp,r,g,a,hf,q⟩:=h
 refine ⟨_,((hbody cdv A outer s H E H (minus H pp) G (F3 ms pp) hr).ap fun x _ H'=>∀ cls dct,a3Q K H' x cls dct→E cls dct H').S2 (E':=(N4 (CX1 P w) P w K mg base N x (g6 st) f cdv A outer s H E).xe) (fun e s' z=>?_),?_⟩
 ·obtain ⟨y,pins,σ,H',I,⟨b,cls,dct,rfl,ix,ob,fl,OF⟩,z⟩:=z
  have I0:=I.M8 (pins':=[]) fun p hp=>absurd hp (by simp)
  show wpAny _ _ (leaving _ _) _ _ s'
  unfold leaving
  refine wpAny_bind (noted I0 OF ob fl fun h' T I2 t oT=>?_)
  exact marked none I2 OF t oT fun h3 I3 t3=>⟨b,cls,dct,H',T,rfl,I3.os,I3.bare,I3.base,I3.hok,ob.free,ob.new,t3,oT.free,oT.new,z cls dct ix⟩
 have R0:=a2x (N:=N) g a (by rw [a.len.1,hm]; exact hpl)
 unfold A5 at hf
 cases hs:m (A1 N.length ms ds) with
 | none=>rw [hs] at hf; cases hf
 | some sr=>
  rw [hs] at hf
  have hf':a7p ms sr=some r:=hf
  refine ⟨G,A1 N.length ms ds,R0,sr,hs,?_⟩
  have fin:∀ {ρ':i9} {σ':St} {G' H':Hp} {fins:List D},S0 ms ρ'=some fins→RS ⟨K,H,minus H pp,G,F3 ms pp,none⟩ G' H' σ' ρ'→After K G H pp G' H' fins:=fun {ρ' σ' G' H' fins} e R'=>
   ⟨R'.keep,R'.g0,R'.gH,R'.gnew,R'.dom,S8 (fun _=>rfl) R' a 0 ρ' fins (fun i=>by rw [Nat.zero_add]) (fun i=>by rw [Nat.zero_add]) e⟩
  cases sr with
  | nx ρ'=>
   obtain ⟨fins,e,rfl⟩:=Option.map_eq_some_iff.mp hf'
   exact fun σ' G' H' s' R'=>q .t6 G' H' (fin e R') .t6
  | rt w' ρ'=>
   cases w' with
   | slot i=>cases hf'
   | val d=>
    obtain ⟨fins,e,rfl⟩:=Option.map_eq_some_iff.mp hf'
    exact fun v σ' G' H' s' R' rw'=>q v G' H' (fin e R') rw'
   | own d=>
    obtain ⟨fins,e,rfl⟩:=Option.map_eq_some_iff.mp hf'
    exact fun v σ' G' H' s' R' rw'=>q v G' H' (fin e R') (let ⟨p,a1,a2,a3,a4,_⟩:=rw'; ⟨p,a1,a2,a3,a4⟩)
  | ex x ρ'=>
   obtain ⟨fins,e,rfl⟩:=Option.map_eq_some_iff.mp hf'
   exact fun σ' G' H' s' R' cls dct ix=>q cls dct G' H' (fin e R') ix
  | bk ρ'=>cases hf'
  | ct ρ'=>cases hf'
end
noncomputable def a6n (P:Program)(w:World)(K:PySem.W.Frag)(mg:Str→Option Value)(base:Heap)(k:Nat)(x:Str)(ps:List Str)(sp:Sp):Prop:=
 ∃ (f:Addr) (fd:FuncData),A0 P w K mg base (CX1 P w) k f fd ps sp∧Binds K fd ps []∧mg x=some (.ref f)∧PySem.W.keepIn K (.ref f)=true
theorem b0q {P:Program}{w:World}{K:PySem.W.Frag}{mg:Str→Option Value}{base:Heap}{k:Nat}{x:Str}{st:Stmt}{ps:List Str}{sp:Sp}(D:Def K mg x st ps)(h:∀ f fd,Fun K x x st f fd→A0 P w K mg base (CX1 P w) k f fd ps sp):a6n P w K mg base k x ps sp:=by
 obtain ⟨f,fd,F,b,m⟩:=D
 exact ⟨f,fd,h f fd F,Binds.all b,m,F.kp⟩
theorem a6n.mono {P:Program}{w:World}{K:PySem.W.Frag}{mg:Str→Option Value}{base:Heap}{j k:Nat}{x:Str}{ps:List Str}{sp:Sp}(h:a6n P w K mg base j x ps sp)(hk:j≤k):a6n P w K mg base k x ps sp:=by
 obtain ⟨f,fd,F,b,m,kp⟩:=h
 exact ⟨f,fd,F.mono hk,b,m,kp⟩
noncomputable def a8w (sp:Sp)(E:St→XK)(t:TA):TE:=fun σ H Q=>t σ H fun vs H1=>sp vs H1 Q (E σ)
section
variable {X:Cx}{k:Nat}{f:Addr}{fd:FuncData}{ps:List Str}{sp:Sp}{x:Str}{p pos:Pos}{e:Expr}{es:List Expr}{t:TA}{E:St→XK}
theorem b3F (h:a6n X.prog X.w X.K X.mg X.base k x ps sp)(hr:C4 k X.A)(ha:PA X (e::es) t)(hx:∀ pins σ H s v s',Inv X pins σ H s→CX1 X.prog X.w X.stack H s (E σ) v s'→X.xe v s')(hg:Gl X x:=by rfl)(hdb:(x == ("__debug__":Str))=false:=by decide)
  (he:starEach (e::es) X.env=(false,eval e X.env)::starEach es X.env:=by rfl) (hpl:(backTo pos (starEach es X.env)).any (·.1)=false:=by rfl):PE X (.Call (.Name x p) (e::es) [] pos) (a8w sp E t):=by
 obtain ⟨f,fd,F,hb,hm,hk⟩:=h
 intro pins s σ H Q I h
 refine wpAny_Call_Name_kw (Z8 I hg hm ?_ hdb)
 refine PySem.W.callWith_K (h₀:=X.base) I.ok.mod.kin hk (C7 (ha pos pins s σ H _ I h) fun us s1 ⟨vs,H1,I1,r,q⟩=>⟨I1.kIn,?_⟩) he hpl
 have hl:us.length=ps.length:=by rw [← r.length]; exact F.len _ _ _ _ q
 have hb':=hb s1 us I1.kIn (by rw [List.append_nil]; exact hl)
 rw [List.append_nil] at hb'
 refine wpAny_call (codeAny_mono (F.run X.A X.stack s1 H1 ⟨us,[]⟩ us vs Q (E σ) hr I1.b2C hb' r q) fun r s' hq=>?_)
 cases r with
 | error v=>exact hx pins σ H1 s1 v s' I1 hq
 | ok fl=>
  cases fl with
  | ret u=>exact I1.after hq
  | next=>exact False.elim hq
  | brk=>exact False.elim hq
  | cont=>exact False.elim hq
end
theorem b4P {X:Cx}{ξ:XP}(F:Q2 X):∀ pins σ H s v s',Inv (rz X ξ) pins σ H s→CX1 X.prog X.w X.stack H s (fun cls dct H'=>∃ x,a3Q X.K H' x cls dct∧ξ x σ H') v s'→XE X ξ v s':=by
 rintro pins σ H s v s' I ⟨a,cls,dct,H',T,rfl,os,bare,un,hok,ha,na,t,hT,nT,x,ix,q⟩
 have I0:Inv X [] σ H s:=I.x6.M8 fun p hp=>absurd hp (by simp)
 have I1:Inv X [] σ H' s':=I0.b10 (ch:=[]) os un hok bare fun b z=>absurd z (by simp)
 have oa:=a0Y I0 F na
 have oT:=a0Y I0 F nT
 exact ⟨x,[],σ,H',I1,⟨a,cls,dct,rfl,ix,⟨oa.new,ha,oa.loc,oa.cell⟩,.inr ⟨T,.none,t,⟨oT.new,hT,oT.loc,oT.cell⟩,.inl rfl⟩,F⟩,q⟩
noncomputable def a63 (ms:List Bool)(fm:List D→Option FR)(ws:List W):M W:=fun ρ=>match (z7 ms ws ρ).bind fm with
 | some (.exc x fin)=>if U6 (o9 ms ws) (C9 ρ ms ws)=true∧fin.all a0J=true then (a3i (o9 ms ws) fin ρ).map (R'.ex x) else none
 | _=>a1W ms fm ws ρ
noncomputable def Q7 (ms:List Bool)(fm:List D→Option FR)(m:M (List W)):M W:=M.bind m fun ws=>a63 ms fm ws
section
variable {X:Cx}{B:Bs}{k:Nat}{x:Str}{ps:List Str}{ms:List Bool}{fm:List D→Option FR}{e:Expr}{es:List Expr}{mr:M (List W)}{p pos:Pos}
theorem a3O {G1 H1:Hp}{σ:St}{ρ1:i9}{ws:List W}{vs:List V}{ds:List D}(R1:RS B G1 H1 σ ρ1)(q1:F1 B G1 H1 σ ρ1 vs ws)(ha:z7 ms ws ρ1=some ds)(hap:U6 (o9 ms ws) (C9 ρ1 ms ws)=true):
  (o9 ms ws).Nodup∧(∀ i∈o9 ms ws,i∉C9 ρ1 ms ws)∧(∀ i∈o9 ms ws,∃ l d,ρ1[i]?=some (some (.ow l d)))∧(∀ i∈C9 ρ1 ms ws,∃ l d,ρ1[i]?=some (some (.ow l d)))∧
  d8 (plus G1 H1 (j4 σ (C9 ρ1 ms ws))) H1∧J3 B.K (plus G1 H1 (j4 σ (C9 ρ1 ms ws))) H1 ms vs ds (j4 σ (o9 ms ws)):=by
 unfold U6 at hap
 rw [Bool.and_eq_true] at hap
 have nd:(o9 ms ws).Nodup:=of_decide_eq_true hap.1
 have ap:∀ i∈o9 ms ws,i∉C9 ρ1 ms ws:=fun i hi m=>by
  have:=List.all_eq_true.mp hap.2 i hi
  simp at this
  exact this m
 have hli:=a47 ha
 have hbi:∀ i∈C9 ρ1 ms ws,∃ l d,ρ1[i]?=some (some (.ow l d)):=fun i hi=>V0 hi
 have s2:d8 G1 (plus G1 H1 (j4 σ (C9 ρ1 ms ws))):=fun b o e=>by
  rw [u0 fun m=>?_]
  ·exact e
  ·obtain ⟨i,hi,e2⟩:=v9.mp m
   obtain ⟨l,d,h⟩:=hbi i hi
   obtain ⟨p',a1,a2,_⟩:=R1.ow i l d h
   rw [e2] at a1
   cases a1
   rw [e] at a2
   cases a2
 have gH:d8 (plus G1 H1 (j4 σ (C9 ρ1 ms ws))) H1:=fun b o e=>by
  by_cases m:b∈j4 σ (C9 ρ1 ms ws)
  ·rw [C0 m] at e; exact e
  ·rw [u0 m] at e; exact R1.gH b o e
 exact ⟨nd,ap,hli,hbi,gH,args_call R1 s2 q1 ha (fun i hi p' e=>v9.mpr ⟨i,hi,e⟩) (fun i hi p' e m=>by
  obtain ⟨j,hj,ej⟩:=v9.mp m
  obtain ⟨l,d,h⟩:=hli i hi
  obtain ⟨l2,d2,h2⟩:=hbi j hj
  have:=R1.inj i j l d l2 d2 p' h h2 e ej
  subst this
  exact ap i hi hj) nd⟩
theorem a9H {ξ:XP}{σ:St}{H:Hp}{Q:VK}(t:TD v8 B ξ (Q7 ms fm mr) σ H Q):a8w (SpX B.K ms fm) (fun σ cls dct H'=>∃ x,a3Q B.K H' x cls dct∧ξ x σ H') (TD F1 B ξ mr) σ H Q:=by
 obtain ⟨G,ρ,R,t⟩:=t
 refine (TD.bind (rel:=F1) R t).mono fun vs H1 ⟨G1,ρ1,ws,s1,R1,q1,r,er,pp⟩=>?_
 unfold a63 at er
 split at er
 ·rename_i x fin hfm
  obtain ⟨ds,ha,hfm⟩:=Option.bind_eq_some_iff.mp hfm
  split at er
  ·rename_i hc
   obtain ⟨ρ2,hs,rfl⟩:=Option.map_eq_some_iff.mp er
   obtain ⟨nd,ap,hli,hbi,gH,A⟩:=a3O R1 q1 ha hc.1
   refine ⟨_,ds,_,_,gH,A,hfm,fun cls dct G' H' af ix=>⟨x,ix,?_⟩⟩
   obtain ⟨Gn,sn,Rn,wn⟩:=E6 (w:=.val .t6) (v:=.t6) R1 hbi hli nd ap af hs .t6 (.inl ⟨by show (a5l (.val .t6) && fin.all a0J)=true; rw [hc.2]; rfl,rfl⟩)
   exact pp Gn H' sn Rn
  ·cases er
 ·rename_i hne
  unfold a1W at er
  cases ha:z7 ms ws ρ1 with
  | none=>simp only [ha] at er; cases er
  | some ds=>
   simp only [ha] at er
   split at er
   ·rename_i hap
    obtain ⟨nd,ap,hli,hbi,gH,A⟩:=a3O R1 q1 ha hap
    split at er
    ·rename_i w fin hfm
     split at er
     ·cases er
     ·rename_i ρ2 hs
      refine ⟨_,ds,_,_,gH,A,hfm,fun v G' H' af rr=>?_⟩
      split at er
      ·rename_i hfl
       cases er
       obtain ⟨Gn,sn,Rn,wn⟩:=E6 R1 hbi hli nd ap af hs rr (.inl ⟨hfl,rfl⟩)
       exact pp v Gn H' sn Rn wn
      ·obtain ⟨ρ3,hsh,rfl⟩:=Option.map_eq_some_iff.mp er
       obtain ⟨Gn,sn,Rn,wn⟩:=E6 R1 hbi hli nd ap af hs rr (.inr hsh)
       exact pp v Gn H' sn Rn wn
    ·cases er
   ·cases er
theorem a68 (h:a6n X.prog X.w X.K X.mg X.base k x ps (SpX X.K ms fm))(hr:C4 k X.A)(ha:PDA X B (e::es) mr)(F:Q2 X:=by exact ⟨rfl,rfl,rfl,rfl⟩)(hg:Gl X x:=by rfl)(hK:X.K=B.K:=by rfl)(hdb:(x == ("__debug__":Str))=false:=by decide)
  (he:starEach (e::es) X.env=(false,eval e X.env)::starEach es X.env:=by rfl) (hpl:(backTo pos (starEach es X.env)).any (·.1)=false:=by rfl):PD X B (.Call (.Name x p) (e::es) [] pos) (Q7 ms fm mr):=.mk fun ξ=>
 (b3F (X:=rz X ξ) (E:=fun σ cls dct H'=>∃ x,a3Q X.K H' x cls dct∧ξ x σ H') h hr (ha.ap ξ) (b4P F) hg hdb he hpl).imp fun σ H Q t=>by
  have t':=a9H t
  rw [← hK] at t'
  exact t'
end
end L3
set_option Elab.async false
set_option linter.all false
set_option maxRecDepth 100000
set_option maxHeartbeats 4000000
namespace L3
open PySem PySem.Spec PyProof.Rows L2
noncomputable abbrev bmV:List Value:=[.type "ValueError",.type "Exception",.type "BaseException",.type "object"]
noncomputable def a23 (K:PySem.W.Frag)(C:Addr)(iv:Option Value):Bool:=match K.lookup C with
 | none=>false
 | some o=>o.cls == .type "type" && match o.data with
  | .cls cd=>!cd.hasDel && PySem.W.nsOkIn K cd.ns && PySem.W.nsIn K cd.ns "__init__" == some iv && cd.mro.head? == some (.ref C) && PySem.W.tailIn K bmV cd.mro.tail && match o.slots.toList with
   | [_,_,_,_,some (.builtin n),_]=>n == "ValueError.__new__"
   | _=>false
  | _=>false
theorem b4n {K:PySem.W.Frag}{h:Heap}{N:Addr}{mn:Str→Option Value}{x:Str}{u:Value}(X:K.In h)(G:h.Ns N mn)(e:PySem.W.nsIn K N x=some (some u)):mn x=some u:=by
 obtain ⟨o,es,ep,ho,hdat,_,hf⟩:=G
 unfold PySem.W.nsIn at e
 split at e
 ·rename_i lk
  have z:=X _ _ lk
  rw [ho] at z
  cases z
  cases hdat
  split at e
  ·rename_i en hen
   cases e
   rw [← hf]
   unfold PySem.nsFind PySem.findBy
   rw [← Array.find?_toList,hen]
   rfl
  ·split at e <;> cases e
 ·cases e
structure Q9 (h:Heap) (C:Addr) (bm:List Value) (iv:Option Value):Prop where
 ex:∃ (nm qn:Str) (N:Addr) (bs:List Value) (hd:Bool) (sn:List Str) (sub:List Value) (ab:Bool) (col:Option Bool) (dd:Option Addr) (k0 k1 k2 k3 k5:Option Value) (mN:Str→Option Value),
  h.get? C=some (excClassObj nm qn C N bs bm hd sn sub ab col dd k0 k1 k2 k3 k5 "ValueError.__new__")∧h.Ns N mN∧mN "__init__"=iv∧OwnTail h bmV bm
theorem Q9.keeps {h h':Heap}{C:Addr}{bm:List Value}{iv:Option Value}(x:Q9 h C bm iv)(k:∀ b o,h.get? b=some o→h'.get? b=some o):Q9 h' C bm iv:=by
 obtain ⟨nm,qn,N,bs,hd,sn,sub,ab,col,dd,k0,k1,k2,k3,k5,mN,a1,a2,a3,a4⟩:=x.ex
 exact ⟨⟨nm,qn,N,bs,hd,sn,sub,ab,col,dd,k0,k1,k2,k3,k5,mN,k _ _ a1,a2.keeps k,a3,a4.keeps k⟩⟩
theorem a0z {K:PySem.W.Frag}{h:Heap}{C:Addr}{iv:Option Value}(X:K.In h)(q:a23 K C iv=true):∃ bm,Q9 h C bm iv:=by
 unfold a23 at q
 split at q
 ·cases q
 ·rename_i o lk
  rw [Bool.and_eq_true] at q
  obtain ⟨z0,q⟩:=q
  split at q
  ·rename_i cd hdt
   rw [Bool.and_eq_true,Bool.and_eq_true,Bool.and_eq_true,Bool.and_eq_true,Bool.and_eq_true] at q
   obtain ⟨⟨⟨⟨⟨z3,z5⟩,z6⟩,z1⟩,z4⟩,z2⟩:=q
   split at z2
   ·rename_i k0 k1 k2 k3 n k5 hsl
    have e0:=eq_of_beq z0
    have e1:=eq_of_beq z1
    have e2:=eq_of_beq z2
    have e6:=eq_of_beq z6
    obtain ⟨oc,d0,odt,s0⟩:=o
    obtain ⟨nm,bs,mro,ns,qn,hd,sn,sub,ab,col,del⟩:=cd
    have e3:del=false:=by simpa using z3
    cases mro with
    | nil=>cases e1
    | cons m0 bm=>
     have em:m0=.ref C:=by simpa using e1
     obtain ⟨sl⟩:=s0
     have es:sl=[k0,k1,k2,k3,some (.builtin n),k5]:=hsl
     have e0:oc=.type "type":=e0
     have hdt:odt=_:=hdt
     subst e0 e2 e3 em es hdt
     have G:h.Ns ns (h.nsMap ns):=.of_isNs (PySem.W.isNs_of_in X z5)
     have ei:h.nsMap ns "__init__"=iv:=by
      cases iv with
      | none=>exact PySem.W.nsMap_none_of_in X z5 e6
      | some u=>exact b4n X G e6
     exact ⟨bm,⟨⟨nm,qn,ns,bs,hd,sn,sub,ab,col,d0,k0,k1,k2,k3,k5,_,X _ _ lk,G,ei,PySem.W.tail_of_in X z4⟩⟩⟩
   ·cases z2
  ·cases q
structure b0Z (K:PySem.W.Frag) (mg:Str→Option Value) (x:Str) (C:Addr) (iv:Option Value:=none):Prop where
 at_:PySem.W.nsIn K mainGlobals x=some (some (.ref C))
 mg:mg x=some (.ref C)
 ok:a23 K C iv=true
theorem a4S:bmV.contains (.type "BaseException")=true:=by decide +kernel
end L3
set_option Elab.async false
set_option linter.all false
set_option maxRecDepth 100000
set_option maxHeartbeats 4000000
namespace L3
open PySem PySem.Spec PyProof.Rows L2
section
variable {prog:Program}{w:World}{A:Around}{E:Value→Shared→Prop}{h:Heap}{g:Array GenState}{d:Drawn}{t:Nat}{os:OsState}{a C:Addr}{oe:Obj}
theorem a7w {dep:Int}{tk:Tok}{Q:Fin→Shared→Prop}(he:h.get? a=some oe)(hc:oe.cls=.ref C)(hq:Q (.done (.ret (.bool true))) ⟨h,g,d,t,os⟩):
  wpAny (model prog w) A (Builtin.«isinstance.nested» ⟨[.ref a,.ref C,.int dep tk],[]⟩) Q E ⟨h,g,d,t,os⟩:=by
 unfold Builtin.«isinstance.nested»
 repeat (any_goals (first | assumption | (with_reducible refine wpAny_loadPart_at he ?_; rw [hc]) | wp_step))
theorem a7M {dep:Int}{tk:Tok}{Q:Fin→Shared→Prop}{T:String}{bm:List Value}{iv:Option Value}(he:h.get? a=some oe)(hc:oe.cls=.ref C)(ob:Q9 h C bm iv)(hty:typeOf (.type T)=pure (.type "type")) (hb:bm.contains (.type T)=true) (hq:Q (.done (.ret (.bool true))) ⟨h,g,d,t,os⟩):
  wpAny (model prog w) A (Builtin.«isinstance.nested» ⟨[.ref a,.type T,.int dep tk],[]⟩) Q E ⟨h,g,d,t,os⟩:=by
 obtain ⟨nm,qn,N,bs,hd,sn,sub,ab,col,dd,k0,k1,k2,k3,k5,mN,hC,a2,a3,a4⟩:=ob.ex
 have hcT:(Value.ref C::bm).contains (.type T)=true:=by rw [List.contains_cons,hb,Bool.or_true]
 unfold Builtin.«isinstance.nested»
 repeat (any_goals (first | assumption | (with_reducible refine wpAny_loadPart_at he ?_; rw [hc]) | (with_reducible refine wpAny_isSubtype_exc hC ?_; rw [hcT]) | wp_step))
end
noncomputable def a03 (a C:Addr)(dc:Option Addr):Heap→Prop:=fun h=>∃ oe vs,h.get? a=some oe∧oe.cls=.ref C∧oe.dict=dc∧oe.data=.fields vs
theorem b1H:typeOf (.type "ValueError")=pure (.type "type"):=by first | rfl | (show builtinType _=_; rw [builtinType_eq_fast]; kernel_rfl) | (unfold typeOf; rfl)
theorem b2K:bmV.contains (.type "ValueError")=true:=by decide +kernel
theorem a3n {X:Cx}:D4 X (.builtin "isinstance") (fun xs H Q=>∃ a C dc iv y,xs=[.ref a,y]∧H a=some (.ext (a03 a C dc))∧a23 X.K C iv=true∧(y=.ref C∨y=.ty "ValueError")∧Q (.bl true) H):=by
 intro pins s σ H xs us Q I r h
 obtain ⟨a,C,dc,iv,y,rfl,ha,hx,hy,q⟩:=h
 obtain ⟨u,u2,rfl,ru,ru2⟩:=vals2 r
 cases ru
 obtain ⟨⟨oe,vs,he,hc,_,_⟩,_⟩:A4 X.prog X.w H s.heap a (.ext (a03 a C dc)):=I.hok a _ ha
 obtain ⟨bm,ob⟩:=a0z I.kIn hx
 obtain ⟨_,_,_,_,_,_,_,_,_,_,_,_,_,_,_,_,_,_,_,tl⟩:=ob.ex
 have hb:=tl.hasType b2K
 rcases hy with rfl | rfl
 ·cases ru2
  refine call_isinstance (S:=fun _ R s=>R (.ok (.ret (.bool true))) s∧∃ oe,s.heap.get? a=some oe∧oe.cls=.ref C) (fun _ _ _ _ s hs=>?_) ⟨⟨.bl true,H,I,rfl,q⟩,oe,he,hc⟩
  obtain ⟨h,g,d,t,os⟩:=s
  obtain ⟨hq,oe,he,hc⟩:=hs
  exact isinstance_outer (a7w he hc hq)
 ·cases ru2
  refine call_isinstance (S:=fun _ R s=>R (.ok (.ret (.bool true))) s∧(∃ oe,s.heap.get? a=some oe∧oe.cls=.ref C)∧Q9 s.heap C bm iv) (fun _ _ _ _ s hs=>?_) ⟨⟨.bl true,H,I,rfl,q⟩,⟨oe,he,hc⟩,ob⟩
  obtain ⟨h,g,d,t,os⟩:=s
  obtain ⟨hq,⟨oe,he,hc⟩,ob⟩:=hs
  exact isinstance_outer (a7M he hc ob b1H hb hq)
end L3
set_option Elab.async false
set_option linter.all false
set_option maxRecDepth 100000
set_option maxHeartbeats 4000000
namespace L3
open PySem PySem.Spec PyProof.Rows L2
noncomputable def PS0 (X:Cx)(st:Stmt)(t:TS):Prop:=∀ (s:Shared) (σ:St) (H:Hp) (D:Ends),Inv X [] σ H s→t D σ H→wpAny (model X.prog X.w) X.A (exec st X.env) (SP X [] D) X.xe s
noncomputable def a8L (X:Cx)(st:List Stmt)(t:TS):Prop:=∀ (s:Shared) (σ:St) (H:Hp) (D:Ends),Inv X [] σ H s→t D σ H→wpAny (model X.prog X.w) X.A (execs st X.env) (SP X [] D) X.xe s
structure b1v (X:Cx) (B:Bs) (st:Stmt) (m:SM):Prop where
 ap:∀ ξ,PS0 (rz X ξ) st (SD B ξ m)
structure a69 (X:Cx) (B:Bs) (st:List Stmt) (m:SM):Prop where
 ap:∀ ξ,a8L (rz X ξ) st (SD B ξ m)
section
variable {X:Cx}{B:Bs}{st:Stmt}{rest sts:List Stmt}{m1 m2 m:SM}
theorem s0 (h:PSD X B st m):b1v X B st m:=.mk fun ξ s σ H D I t=>h.ap ξ [] s σ H D I t
theorem U9 (h1:b1v X B st m1)(h2:a69 X B rest m2):a69 X B (st::rest) (l9 m1 m2):=.mk fun ξ=>by
 intro s σ H Dn I hS
 obtain ⟨G,ρ,R,r,e,p⟩:=hS
 have t1:SD B ξ m1 { Dn with nx:=SD B ξ m2 Dn } σ H:=by
  unfold l9 at e
  cases h:m1 ρ with
  | none=>rw [h] at e; cases e
  | some r1=>
   rw [h] at e
   refine ⟨G,ρ,R,r1,h,?_⟩
   cases r1 with
   | nx ρ1=>exact fun σ' G' H' s R'=>⟨G',ρ1,R',r,e,p.same s⟩
   | bk ρ1=>cases e; exact p
   | ct ρ1=>cases e; exact p
   | rt w ρ1=>cases e; exact p
   | ex x ρ1=>cases e; exact p
 refine wpAny_execs_cons (C7 ((h1.ap ξ) s σ H _ I t1) fun f s1 q=>?_)
 cases f with
 | next=>
  obtain ⟨σ',H',I',q⟩:=q
  exact (h2.ap ξ) s1 σ' H' Dn I' q
 | ret v=>exact q
 | brk=>exact q
 | cont=>exact q
theorem b2q (h1:b1v X B st m1):a69 X B [st] m1:=.mk fun ξ=>by
 intro s σ H Dn I t
 refine wpAny_execs_cons (C7 ((h1.ap ξ) s σ H Dn I t) fun f s1 q=>?_)
 cases f with
 | next=>exact wpAny_execs_nil q
 | ret v=>exact q
 | brk=>exact q
 | cont=>exact q
end
theorem _root_.L3.a8L.b0Q {X:Cx}{E E':Value→Shared→Prop}{st:List Stmt}{t:TS}(h:a8L (X.t8 E) st t)(i:∀ e s,E e s→E' e s):a8L (X.t8 E') st t:=fun s σ H D I hw=>
 wpAny_mono (h s σ H D (I.x6.t8 _) hw) (fun _ _ q=>by
  have q1:=q.x6
  cases ‹Flow› with
  | next=>obtain ⟨σ',H',I,q⟩:=q1; exact ⟨σ',H',I.t8 _,q⟩
  | brk=>obtain ⟨σ',H',I,q⟩:=q1; exact ⟨σ',H',I.t8 _,q⟩
  | cont=>obtain ⟨σ',H',I,q⟩:=q1; exact ⟨σ',H',I.t8 _,q⟩
  | ret u=>obtain ⟨v,σ',H',I,r,q⟩:=q1; exact ⟨v,σ',H',I.t8 _,r,q⟩) fun e s z=>i e s z
theorem b2y {CX:CXT}{P:Program}{w:World}{K:PySem.W.Frag}{mg:Str→Option Value}{base:Heap}{k:Nat}{f:Addr}{name qual:Str}{params:Arguments}{body:List Stmt}{scope:Scope}{dV kV doc pm cdv ct oc:Value}{an od:Option Addr}
  {osl:Array (Option Value)} {N ps:List Str} {sp:Sp} (lk:K.lookup f=some ⟨oc,od,.func (PySem.W.fnOf name qual params body scope dV kV doc pm an cdv ct),osl⟩) (hcd:PySem.W.codeIn K cdv qual=true) (S:n8 N ps scope)
  (len:∀ vs H Q E,sp vs H Q E→vs.length=ps.length)
  (hbody:∀ (A:Around) (outer:List Env) (s:Shared) (H:Hp) (vs:List V) (Q:VK) (E:XK),C4 k (A.deeper (envOfC qual scope s.heap.objs.size f cdv))→sp vs H Q E→
   ∃ t,a8L (N4 CX P w K mg base N qual scope f cdv A outer s H E) body t∧t { nx:=fun _ H'=>Q .t6 H',rt:=Q } (start N vs) H):
  A0 P w K mg base CX (k + 1) f (PySem.W.fnOf name qual params body scope dV kV doc pm an cdv ct) ps sp:=by
 refine ⟨len,fun A outer s H args us vs Q E hr e0 hb r hsp=>?_⟩
 have hl:=len _ _ _ _ hsp
 have KX:K.In s.heap:=e0.mod.kin.keeps fun b o e=>(e0.bs b o e).1
 have lim:s.heap.NoLimit:=e0.mod.nolimit.keeps fun b o e=>(e0.bs b o e).1
 have hkind:∀ y∈ps.zip us,scope.names.lookup y.1=some .local∨(scope.names.lookup y.1=some .cell∧((cellsFrom (s.heap.objs.size + 1) scope.names []).lookup y.1).isSome=true):=fun ⟨n,v⟩ hy=>by
  rcases S.par n (List.of_mem_zip hy).1 with q | q
  ·exact .inl q
  ·exact .inr ⟨q,PySem.W.cellsFrom_some _ _ _ (.inl q)⟩
 refine codeAny_call_function hr.depth (KX _ _ lk) rfl S.co S.gen rfl (PySem.W.codeRec_of KX hcd) (hb _ _ _ _ ?_)
 refine wpAny_newFunctionEnv_cells S.kind hkind fun env he s1 x=>?_
 subst he
 refine ⟨lim.keeps x.toInCall.keep,codeAny_func ?_⟩
 obtain ⟨t,ht,hq⟩:=hbody A outer s H vs Q E (hr.deeper _) hsp
 have I:Inv (N4 CX P w K mg base N qual scope f cdv A outer s H E) [] (start N vs) H s1:=a3A S hr.hd e0 hl r x
 refine wpAny_mono (ht s1 (start N vs) H _ I hq) (fun fl s' hs=>?_) fun e s' hs=>hs
 have fin:∀ {σ':St} {H':Hp} {v:V} {u:Value},Inv (N4 CX P w K mg base N qual scope f cdv A outer s H E) [] σ' H' s'→RelV v u→Q v H'→CE outer P w H s Q u s':=
  fun {σ' H' v u} J rv q=>⟨v,H',J.os,J.bare,J.base,J.hok,rv,q⟩
 cases fl with
 | ret u=>
  obtain ⟨v,σ',H',J,rv,q⟩:=hs
  exact fin J rv q
 | next=>
  obtain ⟨σ',H',J,q⟩:=hs
  exact fin (v:=V.t6) (u:=Value.none) J rfl q
 | brk=>
  obtain ⟨_,_,_,q⟩:=hs
  exact False.elim q
 | cont=>
  obtain ⟨_,_,_,q⟩:=hs
  exact False.elim q
section
variable {P:Program}{w:World}{K:PySem.W.Frag}{mg:Str→Option Value}{base:Heap}
theorem b3a {x:Str}{st:Stmt}{f:Addr}{fd:FuncData}{N ps:List Str}{ms:List Bool}{k:Nat}{m:SM}(F:Fun K x x st f fd)(S:n8 N ps (g6 st))(hm:ms.length=ps.length)
  (hbody:∀ (cdv:Value) (A:Around) (outer:List Env) (s:Shared) (H:Hp) (E:XK) (H0 HK G0:Hp) (L:Nat→Option Addr),C4 k (A.deeper (envOfC x (g6 st) s.heap.objs.size f cdv))→
   a69 (N4 Q4 P w K mg base N x (g6 st) f cdv A outer s H E) ⟨K,H0,HK,G0,L,none⟩ (D0 st) m):A0 P w K mg base Q4 (k + 1) f fd ps (M7 K ms (A5 m N.length ms)):=by
 have hpl:ps.length≤N.length:=by have:=congrArg List.length S.pre; rw [List.length_take] at this; omega
 obtain ⟨oc,od,kV,doc,pm,an,cdv,ct,osl,rfl,lk,hcd⟩:=F.ex
 refine b2y lk hcd S (fun vs H Q E h=>?_) (fun A outer s H vs Q E hr h=>?_)
 ·obtain ⟨G,ds,pp,r,_,a,_⟩:=h
  rw [a.len.1,hm]
 obtain ⟨G,ds,pp,r,g,a,hf,q⟩:=h
 refine ⟨_,((hbody cdv A outer s H E H (minus H pp) G (F3 ms pp) hr).ap fun _ _ _=>False).b0Q (E':=(N4 Q4 P w K mg base N x (g6 st) f cdv A outer s H E).xe) (fun e s z=>?_),?_⟩
 ·obtain ⟨_,_,_,_,_,_,z⟩:=z
  exact z.elim
 have R0:=a2x (N:=N) g a (by rw [a.len.1,hm]; exact hpl)
 unfold A5 at hf
 cases hs:m (A1 N.length ms ds) with
 | none=>rw [hs] at hf; cases hf
 | some sr=>
  rw [hs] at hf
  have hf':a7p ms sr=some r:=hf
  refine ⟨G,A1 N.length ms ds,R0,sr,hs,?_⟩
  have fin:∀ {ρ':i9} {σ':St} {G' H':Hp} {fins:List D},S0 ms ρ'=some fins→RS ⟨K,H,minus H pp,G,F3 ms pp,none⟩ G' H' σ' ρ'→After K G H pp G' H' fins:=fun {ρ' σ' G' H' fins} e R'=>
   ⟨R'.keep,R'.g0,R'.gH,R'.gnew,R'.dom,S8 (fun _=>rfl) R' a 0 ρ' fins (fun i=>by rw [Nat.zero_add]) (fun i=>by rw [Nat.zero_add]) e⟩
  cases sr with
  | nx ρ'=>
   obtain ⟨fins,e,rfl⟩:=Option.map_eq_some_iff.mp hf'
   exact fun σ' G' H' s' R'=>q .t6 G' H' (fin e R') .t6
  | rt w' ρ'=>
   cases w' with
   | slot i=>cases hf'
   | val d=>
    obtain ⟨fins,e,rfl⟩:=Option.map_eq_some_iff.mp hf'
    exact fun v σ' G' H' s' R' rw'=>q v G' H' (fin e R') rw'
   | own d=>
    obtain ⟨fins,e,rfl⟩:=Option.map_eq_some_iff.mp hf'
    exact fun v σ' G' H' s' R' rw'=>q v G' H' (fin e R') (let ⟨p,a1,a2,a3,a4,_⟩:=rw'; ⟨p,a1,a2,a3,a4⟩)
  | ex x ρ'=>
   obtain ⟨fins,e,rfl⟩:=Option.map_eq_some_iff.mp hf'
   exact q.elim
  | bk ρ'=>cases hf'
  | ct ρ'=>cases hf'
end
end L3
set_option Elab.async false
set_option linter.all false
set_option maxRecDepth 100000
set_option maxHeartbeats 4000000
namespace L3
open PySem PySem.Spec PyProof.Rows L2
noncomputable abbrev hx (X:Cx)(v:Value):Cx:={ X with A:=X.A.mark (some v),calm:=false }
section
variable {X:Cx}{pins:List (Addr×Obj)}{σ:St}{H:Hp}{s:Shared}{v:Value}
theorem a86 (I:Inv X pins σ H s):Inv (hx X v) pins σ H s:=by
 obtain ⟨ok,os,bare,base,loc,cell,free,freeC,pin,hok,len⟩:=I
 obtain ⟨a1,a2,a3,a4,a5,a6,a7,a8,a9,a10,a11,a12,a13,a14,a15,a16,a17,a18⟩:=ok
 exact ⟨⟨a1,a2,a3,a4,a5,a6,a7,a8,(fun z=>nomatch z),a10,a11,a12,a13,a14,a15,a16,a17,a18⟩,os,bare,base,loc,cell,free,freeC,pin,hok,len⟩
theorem a5O (hc:X.calm=true→X.A.handled=none)(I:Inv (hx X v) pins σ H s):Inv X pins σ H s:=by
 obtain ⟨ok,os,bare,base,loc,cell,free,freeC,pin,hok,len⟩:=I
 obtain ⟨a1,a2,a3,a4,a5,a6,a7,a8,a9,a10,a11,a12,a13,a14,a15,a16,a17,a18⟩:=ok
 exact ⟨⟨a1,a2,a3,a4,a5,a6,a7,a8,hc,a10,a11,a12,a13,a14,a15,a16,a17,a18⟩,os,bare,base,loc,cell,free,freeC,pin,hok,len⟩
theorem a2a (I:Inv X [] σ H s)(F:Q2 X){a:Addr}{φ:Heap→Prop}(oa:Off X H a)(ok:∀ H':Hp,A4 X.prog X.w H' s.heap a (.ext φ)):Inv X [] σ (upd H a (.ext φ)) s:=by
 have ne:∀ {b:Addr} {o:HO},H b=some o→b≠a:=fun {b o} q z=>by rw [z,oa.free] at q; cases q
 refine ⟨I.ok,I.os,I.bare,⟨I.base.keep,I.base.slot,fun b o q n nx=>?_,I.base.there,fun b xs q=>?_,fun b o u q=>?_,fun b ps q=>?_⟩,I.loc,I.cell,?_,fun x c q=>?_,fun p hp=>?_,fun b o q=>?_,I.len⟩
 ·rw [j3 (fun z=>by rw [z,oa.new] at q; cases q)]
  exact I.base.free b o q n nx
 ·have w:=I.base.tups b xs q
  rw [j3 (ne w)]
  exact w
 ·have w:=I.base.frzs b o u q
  rw [j3 (ne w)]
  exact w
 ·obtain ⟨more,w⟩:=I.base.tbls b ps q
  rw [j3 (ne w)]
  exact ⟨more,w⟩
 ·rw [j3 (Ne.symm oa.loc)]
  exact I.free
 ·rw [j3 (oa.cell x c q)]
  exact I.freeC x c q
 ·rw [F.pn] at hp
  cases hp
 ·by_cases z:b=a
  ·subst z
   rw [l8] at q
   cases q
   exact ok _
  ·rw [j3 z] at q
   refine (I.hok b o q).stay (fun _ _ _ w=>w) (fun c w=>?_) fun c xs w=>?_
   ·rw [j3 (ne w)]; exact w
   ·rw [j3 (ne w)]; exact w
theorem a7l (I:Inv X [] σ H s)(F:Q2 X){a C:Addr}{dc:Option Addr}(oa:Off X H a)(e:a03 a C dc s.heap):Inv X [] σ (upd H a (.ext (a03 a C dc))) s:=a2a I F oa fun _=>by
 obtain ⟨oe,vs,w1,w2⟩:=id e
 exact ⟨e,⟨oe,w1⟩,fun h1 h2 ⟨o1,v1,y1,y2⟩ k=>⟨o1,v1,k o1 y1,y2⟩⟩
theorem a4H {a:Addr}{φ:Heap→Prop}(I:Inv X [] σ (upd H a (.ext φ)) s)(F:Q2 X)(oa:H a=none):Inv X [] σ H s:=by
 have out:∀ {b:Addr} {o:HO},b≠a→(upd H a (.ext φ)) b=some o→H b=some o:=fun {b o} n q=>by rw [j3 n] at q; exact q
 have ne:∀ {b:Addr} {o:HO},H b=some o→b≠a:=fun {b o} q z=>by rw [z,oa] at q; cases q
 have none':∀ b,(upd H a (.ext φ)) b=none→H b=none:=fun b q=>by
  by_cases z:b=a
  ·rw [z]; exact oa
  ·rw [j3 z] at q; exact q
 refine ⟨I.ok,I.os,I.bare,⟨I.base.keep,I.base.slot,fun b o q n nx=>none' b (I.base.free b o q n nx),I.base.there,fun b xs q=>?_,fun b o u q=>?_,fun b ps q=>?_⟩,I.loc,I.cell,none' _ I.free,fun x c q=>none' c (I.freeC x c q),fun p hp=>?_,fun b o q=>?_,I.len⟩
 ·have w:=I.base.tups b xs q
  by_cases z:b=a
  ·rw [z,l8] at w; cases w
  ·exact out z w
 ·have w:=I.base.frzs b o u q
  by_cases z:b=a
  ·rw [z,l8] at w; cases w
  ·exact out z w
 ·obtain ⟨more,w⟩:=I.base.tbls b ps q
  by_cases z:b=a
  ·rw [z,l8] at w; cases w
  ·exact ⟨more,out z w⟩
 ·rw [F.pn] at hp
  cases hp
 ·have w:(upd H a (.ext φ)) b=some o:=by rw [j3 (ne q)]; exact q
  refine (I.hok b o w).stay (fun _ _ _ w=>w) (fun c w'=>?_) fun c xs w'=>?_
  ·by_cases z:c=a
   ·rw [z,l8] at w'; cases w'
   ·exact out z w'
  ·by_cases z:c=a
   ·rw [z,l8] at w'; cases w'
   ·exact out z w'
end
theorem a74 {B:Bs}{G H:Hp}{σ:St}{ρ:i9}{i:Nat}(o:Option V)(R:RS B G H σ ρ)(h:ρ[i]?=some none):RS B G H (σ.set i o) ρ:=by
 have ne:∀ {j:Nat} {c:C},ρ[j]?=some (some c)→j≠i:=fun {j c} q z=>by rw [z,h] at q; cases q
 have at':∀ {j:Nat} {c:C},ρ[j]?=some (some c)→(σ.set i o)[j]?=σ[j]?:=fun {j c} q=>List.getElem?_set_ne (Ne.symm (ne q))
 refine ⟨R.hk,R.keep,R.g0,R.gH,R.gnew,R.dom,by rw [List.length_set]; exact R.len,fun j d q=>?_,fun j l d q=>?_,fun j k l d l2 d2 p q1 q2 e1 e2=>?_,?_,R.ob.to (d8.refl _) (fun _ _ _ _ _ g=>g) (fun _ _ _ _ e _ _=>e) (fun j c _ q=>⟨q,at' q⟩) fun j d q=>⟨⟨d,q⟩,at' q⟩⟩
 ·rw [at' q]; exact R.sh j d q
 ·rw [at' q]; exact R.ow j l d q
 ·rw [at' q1] at e1
  rw [at' q2] at e2
  exact R.inj j k l d l2 d2 p q1 q2 e1 e2
 ·intro j es q
  rw [at' q]
  exact R.fz j es q
end L3
set_option Elab.async false
set_option linter.all false
set_option maxRecDepth 100000
set_option maxHeartbeats 4000000
namespace L3
open PySem PySem.Spec PyProof.Rows L2
section
variable {X:Cx}{σ:St}{H:Hp}{s:Shared}{i j:Nat}{n y:Str}
theorem a76 (I:Inv X [] σ H s)(F:Q2 X){h':Heap}{σ':St}{t':Nat}{m':Str→Option Value}(hs:Heap.SameBut X.env.locals s.heap h')(hn:h'.Ns X.env.locals m')(hl:σ'.length=σ.length)
  (hk:∀ (k:Nat) x v,X.N[k]?=some x→σ'[k]?=some (some v)→σ[k]?=some (some v)∧∀ m,s.heap.Ns X.env.locals m→∀ u,Look X.env s.heap m x u→X.env.kindOf x=some .local→m' x=some u):Inv X [] σ' H { s with heap:=h',toks:=t' }:=by
 have old:∀ b o,b≠X.env.locals→s.heap.get? b=some o→h'.get? b=some o:=fun b o hb e=>(hs.2 b hb).trans e
 have cel:∀ {c:Addr} {v:Option Value},c≠X.env.locals→s.heap.IsCell c v→h'.IsCell c v:=fun {c v} hc ⟨o,e,d⟩=>⟨o,old c o hc e,d⟩
 have lold:∀ b o,X.s₀.heap.get? b=some o→b≠X.env.locals:=fun b o e z=>absurd (Nat.lt_of_lt_of_le (Heap.lt_size e) I.ok.above) (by rw [z]; exact Nat.lt_irrefl _)
 obtain ⟨m,nm,l⟩:=id I.loc
 refine ⟨I.ok,I.os,I.bare,⟨fun b o e n nf nx=>old b o (lold b o e) (I.base.keep b o e n nf nx),fun b o e n nf nx=>?_,I.base.free,fun b o e nx=>?_,I.base.tups,I.base.frzs,I.base.tbls⟩,⟨m',hn,fun k x v e1 e2 e3=>?_⟩,fun x c e=>?_,I.free,I.freeC,fun p hp=>?_,fun a o e=>?_,hl.trans I.len⟩
 ·obtain ⟨sl,e1⟩:=I.base.slot b o e n nf nx
  exact ⟨sl,old b _ (lold b o e) e1⟩
 ·obtain ⟨o1,e1⟩:=I.base.there b o e nx
  exact ⟨o1,old b _ (lold b o e) e1⟩
 ·obtain ⟨q1,q2⟩:=hk k x v e1 e2
  obtain ⟨u,r,lk⟩:=l k x v e1 q1 e3
  refine ⟨u,r,?_⟩
  rcases id lk with ⟨w1,w2⟩ | ⟨w1,c,w2,w3⟩
  ·exact .inl ⟨w1,q2 m nm u lk w1⟩
  ·exact .inr ⟨w1,c,w2,cel (I.cne x c w2) w3⟩
 ·obtain ⟨v,q⟩:=I.cell x c e
  exact ⟨v,cel (I.cne x c e) q⟩
 ·rw [F.pn] at hp
  cases hp
 ·refine (I.hok a o e).stay (fun c v hc q=>old c v (fun z=>?_) q) (fun _ q=>q) fun _ _ q=>q
  have hn:=I.free
  rw [← z] at hn
  rcases hc with z | z
  ·rw [z,e] at hn; cases hn
  ·rw [z] at hn; cases hn
theorem b00 {M:Model}{A:Around}{E:Value→Shared→Prop}{Q:Unit→Shared→Prop}{pos:Pos}(I:Inv X [] σ H s)(F:Q2 X)(hN:X.N.Nodup)(hi:X.N[i]?=some n)(hl:X.env.scope.names.lookup n=some .local)(h:∀ s',Inv X [] (σ.set i none) H s'→Q () s'):
  wpAny M A (do bindName X.env n .none; unbindBehindTheSuite X.env n pos) Q E s:=by
 have hl':X.env.kindOf n=some .local:=hl
 have hp:(X.env.scope.kind == .class || (X.env.scope.kind == .module && X.env.locals != X.env.globals))=false:=by rw [I.ok.kind]; rfl
 refine wpAny_bind (wpAny_bindName (a0D I hN hi (.inl hl) (v:=.t6) rfl (fun s1 I1=>?_) (.inr hl)))
 obtain ⟨m,nm,l⟩:=id I1.loc
 have il:i < σ.length:=by rw [I.len]; exact (List.getElem?_eq_some_iff.mp hi).1
 obtain ⟨u,r,lk⟩:=l i n .t6 hi (by rw [List.getElem?_set_self il]) (.inl hl)
 have mn:m n=some u:=by
  rcases lk with ⟨_,w⟩ | ⟨w,_⟩
  ·exact w
  ·rcases w with w | w <;> rw [hl'] at w <;> cases w
 unfold unbindBehindTheSuite
 refine wpAny_onRaise ?_
 unfold unbindName
 refine wpAny_bind (wpAny_point (wpAny_bind ?_))
 unfold deleteName
 simp only [hl',hp]
 rw [if_neg (by decide)]
 refine wpAny_bind (wpAny_nsDel_keeps nm fun h2 v hn2 sb=>?_)
 rw [mn]
 simp only [if_true,Option.isSome_some,Bool.not_true,Bool.false_eq_true,if_false]
 refine wpAny_pure (wpAny_point (h _ ?_))
 refine a76 (t':=s1.toks) I1 F sb hn2 (by rw [List.length_set,List.length_set]) fun k x w e1 e2=>?_
 have ki:k≠i:=by
  rintro rfl
  rw [List.getElem?_set_self il] at e2
  cases e2
 rw [List.getElem?_set_ne (Ne.symm ki)] at e2
 refine ⟨by rw [List.getElem?_set_ne (Ne.symm ki)]; exact e2,fun m2 nm2 u2 lk2 kl=>?_⟩
 have xn:x≠n:=by
  rintro rfl
  obtain ⟨a1,a2⟩:=List.getElem?_eq_some_iff.mp e1
  obtain ⟨b1,b2⟩:=List.getElem?_eq_some_iff.mp hi
  have hp2:=List.pairwise_iff_getElem.mp hN
  rcases Nat.lt_or_gt_of_ne ki with q | q
  ·exact hp2 k i a1 b1 q (a2.trans b2.symm)
  ·exact hp2 i k b1 a1 q (b2.trans a2.symm)
 rw [if_neg xn]
 have mm:m2=m:=by
  obtain ⟨o,es,ep,g1,g2,g3,g4⟩:=nm
  obtain ⟨o',es',ep',g1',g2',g3',g4'⟩:=nm2
  rw [g1] at g1'
  cases g1'
  rw [g2] at g2'
  cases g2'
  funext z
  rw [← g4 z,← g4' z]
 rw [← mm]
 rcases lk2 with ⟨_,w2⟩ | ⟨w2,_⟩
 ·exact w2
 ·rcases w2 with w2 | w2 <;> rw [kl] at w2 <;> cases w2
end
end L3
set_option Elab.async false
set_option linter.all false
set_option maxRecDepth 100000
set_option maxHeartbeats 4000000
namespace L3
open PySem PySem.Spec PyProof.Rows L2
noncomputable def subIn (K:PySem.W.Frag)(C Cc:Addr):Bool:=match K.lookup C with
 | some ⟨_,_,.cls cd,_⟩=>cd.mro.contains (.ref Cc)
 | _=>false
theorem b0H {K:PySem.W.Frag}{h:Heap}{C Cc:Addr}{bm:List Value}{iv:Option Value}(X:K.In h)(ob:Q9 h C bm iv)(q:subIn K C Cc=true):(Value.ref C::bm).contains (.ref Cc)=true:=by
 obtain ⟨_,_,_,_,_,_,_,_,_,_,_,_,_,_,_,_,a1,_⟩:=ob.ex
 unfold subIn at q
 split at q
 ·rename_i lk
  have e:=X _ _ lk
  rw [a1] at e
  cases e
  exact q
 ·cases q
theorem a5r {M:Model}{A:Around}{E:Value→Shared→Prop}{h:Heap}{g:Array GenState}{d:Drawn}{t:Nat}{os:OsState}{a C Cc:Addr}{oe:Obj}{bm bc:List Value}{iv ic:Option Value}{Q:Bool→Shared→Prop}
  (he:h.get? a=some oe) (hc:oe.cls=.ref C) (ob:Q9 h C bm iv) (oc:Q9 h Cc bc ic) (hin:(Value.ref C::bm).contains (.ref Cc)=true) (hq:Q true ⟨h,g,d,t,os⟩):wpAny M A (excMatches (.ref a) (.ref Cc)) Q E ⟨h,g,d,t,os⟩:=by
 obtain ⟨_,_,_,_,_,_,_,_,_,_,_,_,_,_,_,_,hC,_,_,tl⟩:=ob.ex
 obtain ⟨_,_,_,_,_,_,_,_,_,_,_,_,_,_,_,_,hD,_,_,tlc⟩:=oc.ex
 have hb:=tlc.hasType a4S
 have hbC:(Value.ref Cc::bc).contains (.type "BaseException")=true:=by rw [List.contains_cons,hb,Bool.or_true]
 have f:=tc_notTuple
 unfold excMatches
 repeat (first | (with_reducible refine wpAny_loadPart_at he ?_; rw [hc]) | with_reducible refine wpAny_loadPart_at hD ?_ | (with_reducible refine wpAny_isSubtype_exc hD ?_; rw [hbC]) | (with_reducible refine wpAny_isSubtype_exc hC ?_; rw [hin]) | wp_step)
 exact hq
noncomputable def a5g (mb:SM)(i j:Nat)(val:Exn→Option D):SM:=fun ρ=>match mb ρ with
 | some (.ex x ρ')=>match ρ'[i]?,val x with
  | some none,some d=>a1d j (.val d) ρ'
  | _,_=>none
 | r=>r
section
variable {X:Cx}{B:Bs}{body:List Stmt}{mb:SM}{cn n y:Str}{Cc:Addr}{i j:Nat}{st:Stmt}{np hpos pos:Pos}{val:Exn→Option D}
theorem b4h (hb:a28 X B body mb)(hcn:b0Z X.K X.mg cn Cc)(hN:X.N.Nodup)
  (hst:∀ x d,val x=some d→∃ C v iv,PySem.W.nsIn X.K mainGlobals x.cls=some (some (.ref C))∧a23 X.K C iv=true∧subIn X.K C Cc=true∧(∀ G,Rep B.K G v d)∧
   ∀ a dc,PS ((hx X (.ref a)).t8 fun _ _=>False) st (fun D σ H=>σ[i]?=some (some (.ref a))∧H a=some (.ext (a03 a C dc))∧a7y H x.fs dc∧D.nx (σ.set j (some v)) H))
  (hi:X.N[i]?=some n:=by rfl) (hni:X.env.scope.names.lookup n=some .local:=by rfl) (hij:i≠j:=by decide)
  (F:Q2 X:=by exact ⟨rfl,rfl,rfl,rfl⟩) (hc:X.calm=true:=by rfl) (hg:Gl X cn:=by rfl) (hdb:(cn == ("__debug__":Str))=false:=by decide):
  b1v X B (.Try body [.ExceptHandler (some (.Name cn np)) (some n) [st] hpos] [] [] pos) (a5g mb i j val):=.mk fun ξ=>by
 intro s σ H Dn I hS
 obtain ⟨G,ρ,R,r,er,p⟩:=hS
 have hcalm:X.calm=true→X.A.handled=none:=I.ok.hd
 refine wpAny_Try_except ?_
 have conv:∀ {E2:Value→Shared→Prop} {f:Flow} {s1:Shared},SP (X.t8 E2) [] Dn f s1→SP (rz X ξ) [] Dn f s1:=fun {E2 f s1} q=>by
  have q1:=q.x6
  cases f with
  | next=>obtain ⟨σ',H',I,q⟩:=q1; exact ⟨σ',H',I.t8 _,q⟩
  | brk=>obtain ⟨σ',H',I,q⟩:=q1; exact ⟨σ',H',I.t8 _,q⟩
  | cont=>obtain ⟨σ',H',I,q⟩:=q1; exact ⟨σ',H',I.t8 _,q⟩
  | ret u=>obtain ⟨v,σ',H',I,r,q⟩:=q1; exact ⟨v,σ',H',I.t8 _,r,q⟩
 have tb:SD B (fun x σ' H'=>∃ G' ρ',d8 G G'∧RS B G' H' σ' ρ'∧mb ρ=some (.ex x ρ')) mb Dn σ H:=by
  cases hm:mb ρ with
  | none=>unfold a5g at er; rw [hm] at er; cases er
  | some r0=>
   refine ⟨G,ρ,R,r0,hm,?_⟩
   unfold a5g at er
   rw [hm] at er
   cases r0 with
   | nx ρ'=>cases er; exact p
   | bk ρ'=>cases er; exact p
   | ct ρ'=>cases er; exact p
   | rt w ρ'=>cases er; exact p
   | ex x ρ'=>exact fun σ' G' H' s' R'=>⟨G',ρ',s',R',rfl⟩
 have hE:∀ e s1,XE X (fun x σ' H'=>∃ G' ρ',d8 G G'∧RS B G' H' σ' ρ'∧mb ρ=some (.ex x ρ')) e s1→wpAny (model X.prog X.w) X.A (noteFrame e X.env) (fun _ s2=>wpAny (model X.prog X.w) X.A (setFlight e none) (fun _ s3=>
   wpAny (model X.prog X.w) X.A (handleBy e X.env [.ExceptHandler (some (.Name cn np)) (some n) [st] hpos]) (SP (rz X ξ) [] Dn) (XE X ξ) s3) (XE X ξ) s2) (XE X ξ) s1:=by
  rintro e s1 ⟨x,pins,σ1,H1,I1,⟨a,cls,dct,rfl,ix,oa,fl,_⟩,⟨G1,ρ1,sG,R1,hm⟩⟩
  have I0:Inv X [] σ1 H1 s1:=I1.M8 fun p hp=>absurd hp (by simp)
  unfold a5g at er
  rw [hm] at er
  simp only [] at er
  split at er
  ·rename_i d hri hval
   obtain ⟨C,v,iv,hns,hex,hsub,hrep,hps⟩:=hst x d hval
   obtain ⟨C',rfl,hns',hxd⟩:=ix
   rw [hns] at hns'
   cases hns'
   refine noted I0 F oa fl fun h2 T I2 t oT=>?_
   refine marked none I2 F t oT fun h3 I3 t3=>?_
   have F':Q2 (hx X (.ref a)):=⟨F.pn,F.ex,F.stk,F.fr⟩
   have oa':Off (hx X (.ref a)) H1 a:=⟨oa.new,oa.free,oa.loc,oa.cell⟩
   have oT':Off (hx X (.ref a)) H1 T:=⟨oT.new,oT.free,oT.loc,oT.cell⟩
   refine wpAny_handleBy_cons (codeAny_handlers_test ?_) (by intro q; cases q)
   have I3m:Inv (hx X (.ref a)) [] σ1 H1 { s1 with heap:=h3 }:=a86 I3
   refine Z8 (X:=hx X (.ref a)) I3m hg hcn.mg ?_ hdb
   obtain ⟨oe,vs,oT2,ts,he,hcl,hdc,hd,w⟩:=id t3
   obtain ⟨bm,ob⟩:=a0z I3.kIn hex
   obtain ⟨bc,oc⟩:=a0z I3.kIn hcn.ok
   refine a5r he hcl ob oc (b0H I3.kIn ob hsub) ?_
   refine codeAny_handlers_suite_as ?_
   refine marked (X:=hx X (.ref a)) none I3m F' t3 oT' fun h4 I4 t4=>?_
   obtain ⟨oe4,vs4,_,_,he4,hcl4,hdc4,hda4,_⟩:=id t4
   have I5:=a7l I4 F' (a:=a) (C:=C) (dc:=dct) oa' ⟨oe4,vs4,he4,hcl4,hdc4,hda4⟩
   have hxd':a7y (upd H1 a (.ext (a03 a C dct))) x.fs dct:=by
    rcases hxd with z | ⟨dx,f,n,z1,z2,z3⟩
    ·exact .inl z
    ·exact .inr ⟨dx,f,n,z1,z2,by rw [j3 (m7 z3 oa.free)]; exact z3⟩
   refine a0D (X:=hx X (.ref a)) I5 hN hi (.inl hni) (v:=.ref a) rfl (fun s5 I6=>?_) (.inr hni)
   have il:i < σ1.length:=by rw [I0.len]; exact (List.getElem?_eq_some_iff.mp hi).1
   have go:=a4e (hps a dct) [] s5 (σ1.set i (some (.ref a))) (upd H1 a (.ext (a03 a C dct))) { nx:=fun σ' H'=>σ'=(σ1.set i (some (.ref a))).set j (some v)∧H'=upd H1 a (.ext (a03 a C dct)),rt:=fun _ _=>False } (I6.t8 _) ⟨by rw [List.getElem?_set_self il],l8,hxd',rfl,rfl⟩
   refine wpAny_mono go (fun f s6 q=>?_) fun _ _ z=>z.elim
   cases f with
   | next=>
    obtain ⟨σ7,H7,I7,rfl,rfl⟩:=q
    have I8:Inv X [] _ _ s6:=a5O hcalm I7.x6
    have I9:=a4H I8 F oa.free
    refine b00 I9 F hN hi hni fun s10 I10=>?_
    have R2:=a74 none R1 hri
    obtain ⟨ρ',G',rfl,sg,R3⟩:=a09 R2 (show C8 B G1 H1 (σ1.set i none) ρ1 v (.val d) from hrep G1) er
    refine ⟨(σ1.set i none).set j (some v),H1,?_,p _ G' H1 (sG.trans sg) R3⟩
    refine Inv.t8 (I10.weak ?_ fun k u e=>?_) _
    ·simp
    ·by_cases ki:k=i
     ·rw [ki,List.getElem?_set_ne (Ne.symm hij),List.getElem?_set_self il] at e
      cases e
     ·rw [List.getElem?_set_ne (Ne.symm ki)]
      by_cases kj:k=j
      ·subst kj
       have jl:k < σ1.length:=by
        have:=(List.getElem?_eq_some_iff.mp e).1
        simpa using this
       rw [List.getElem?_set_self (by simpa using jl)] at e ⊢
       exact e
      ·rw [List.getElem?_set_ne (Ne.symm kj),List.getElem?_set_ne (Ne.symm ki)] at e ⊢
       exact e
   | brk=>obtain ⟨_,_,_,z⟩:=q; exact z.elim
   | cont=>obtain ⟨_,_,_,z⟩:=q; exact z.elim
   | ret u=>obtain ⟨_,_,_,_,_,z⟩:=q; exact z.elim
  ·cases er
 refine wpAny_mono ((hb.ap _).S2 hE [] s σ H Dn (I.x6.t8 _) tb) (fun f s1 q=>?_) fun _ _ z=>z
 cases f with
 | next=>exact wpAny_execs_nil (conv q)
 | brk=>exact conv q
 | cont=>exact conv q
 | ret u=>exact conv q
end
end L3
set_option Elab.async false
set_option linter.all false
set_option maxRecDepth 100000
set_option maxHeartbeats 4000000
namespace L3
open PySem PySem.Spec PyProof.Rows L2
section
variable {mr:M (List W)}{ws:List W}{ρ ρ1 ρ2:i9}{c:Str}{s1 s2 mb:SM}{x:Exn}{m:M W}{i j:Nat}{val:Exn→Option D}{d:D}{r:Option SR}{ms:List Bool}{fm:List D→Option FR}{fin ds:List D}{w:W}
theorem a1T (h1:s1 ρ=some (.ex x ρ1)):l9 s1 s2 ρ=some (.ex x ρ1):=by unfold l9; rw [h1]
theorem b0r (h:mb ρ=some (.ex x ρ1))(hi:ρ1[i]?=some none)(hv:val x=some d)(hs:a1d j (.val d) ρ1=r):a5g mb i j val ρ=r:=by
 unfold a5g
 rw [h]
 simp only [hi,hv]
 exact hs
theorem a71 (ha:mr ρ=some (.ok ws ρ1))(hx:z7 ms ws ρ1=some ds)(hf:fm ds=some (.ret w fin))(h:k8 ms fm mr ρ=some (.ok w ρ2)):Q7 ms fm mr ρ=some (.ok w ρ2):=by
 unfold Q7
 unfold k8 at h
 rw [M.f9 ha] at h ⊢
 unfold a63
 rw [hx]
 simp only [Option.bind_some,hf]
 exact h
theorem a70 (ha:mr ρ=some (.ok ws ρ1))(hx:z7 ms ws ρ1=some ds)(hp:U6 (o9 ms ws) (C9 ρ1 ms ws)=true)(hf:fm ds=some (.exc x fin))(hfl:fin.all a0J=true)(hs:a3i (o9 ms ws) fin ρ1=some ρ2):Q7 ms fm mr ρ=some (.ex x ρ2):=by
 unfold Q7
 rw [M.f9 ha]
 unfold a63
 rw [hx]
 simp only [Option.bind_some,hf]
 rw [if_pos ⟨hp,hfl⟩,hs]
 rfl
end
theorem b2O {K:PySem.W.Frag}{h:Heap}{mg:Str→Option Value}{x:Str}{C:Addr}(X:K.In h)(G:h.Ns mainGlobals mg)(a:PySem.W.nsIn K mainGlobals x=some (some (.ref C)))(o:a23 K C none=true):b0Z K mg x C:=⟨a,PySem.W.mg_of X G a,o⟩
end L3
set_option Elab.async false
set_option linter.all false
set_option maxRecDepth 100000
set_option maxHeartbeats 4000000
set_option Elab.async false
set_option linter.all false
set_option maxRecDepth 100000
set_option maxHeartbeats 4000000
set_option Elab.async false
set_option linter.all false
set_option maxRecDepth 100000
set_option maxHeartbeats 4000000
namespace L3
open PySem PySem.Spec PyProof.Rows L2
noncomputable def Bst (kf:Nat→Int)(i n:Nat):Prop:=i < n∧∀ j,j < n→kf i≤kf j∧(j < i→kf i < kf j)
theorem Bst.one (kf:Nat→Int):Bst kf 0 1:=⟨Nat.zero_lt_one,fun j hj=>by
 have:j=0:=by omega
 subst this
 exact ⟨Int.le_refl _,fun h=>absurd h (Nat.lt_irrefl _)⟩⟩
theorem Bst.more {kf:Nat→Int}{i n:Nat}(b:Bst kf i n)(h:¬ kf n < kf i):Bst kf i (n + 1):=⟨Nat.lt_succ_of_lt b.1,fun j hj=>by
 by_cases e:j=n
 ·subst e
  exact ⟨by omega,fun h=>absurd h (Nat.not_lt_of_lt b.1)⟩
 ·exact b.2 j (by omega)⟩
noncomputable def Kept (h h':Heap):Prop:=∀ b o,h.get? b=some o→h'.get? b=some o
theorem Kept.at {h h1 h2:Heap}{S:Addr}(k:Kept h h1)(hS:h.objs.size≤S)(s:Heap.SameBut S h1 h2):Kept h h2:=fun b o e=>by
 have:b < h.objs.size:=Heap.lt_size e
 rw [s.2 b (Nat.ne_of_lt (Nat.lt_of_lt_of_le this hS))]
 exact k b o e
end L3
set_option Elab.async false
set_option linter.all false
set_option maxRecDepth 100000
set_option maxHeartbeats 4000000
set_option Elab.async false
set_option linter.all false
set_option maxRecDepth 100000
set_option maxHeartbeats 4000000
set_option Elab.async false
set_option linter.all false
set_option maxRecDepth 100000
set_option maxHeartbeats 4000000
set_option Elab.async false
set_option linter.all false
set_option maxRecDepth 100000
set_option maxHeartbeats 4000000
set_option Elab.async false
set_option linter.all false
set_option maxRecDepth 100000
set_option maxHeartbeats 4000000
set_option Elab.async false
set_option linter.all false
set_option maxRecDepth 100000
set_option maxHeartbeats 4000000
set_option Elab.async false
set_option linter.all false
set_option maxRecDepth 100000
set_option maxHeartbeats 4000000
set_option Elab.async false
set_option linter.all false
set_option maxRecDepth 100000
set_option maxHeartbeats 4000000
set_option Elab.async false
set_option linter.all false
set_option maxRecDepth 100000
set_option maxHeartbeats 4000000
set_option Elab.async false
set_option linter.all false
set_option maxRecDepth 100000
set_option maxHeartbeats 4000000
namespace L3
open PySem PySem.Spec PyProof.Rows L2
section
variable {K:PySem.W.Frag}{G:Hp}{f:Str}
theorem a3b.len {fs:List (Str×V)}{fds:List (Str×D)}(h:a3b K G fs fds):fs.length=fds.length:=Paired.length h
end
end L3
set_option Elab.async false
set_option linter.all false
set_option maxRecDepth 100000
set_option maxHeartbeats 4000000
namespace L3
open PySem PySem.Spec PyProof.Rows L2
inductive MR where
 | ret (d:D) (fds:List (Str×D)) (es:List (Key×D))
structure b3w (K:PySem.W.Frag) (C:Addr) (G H:Hp) (p t:Addr) (G' H':Hp) (fds:List (Str×D)) (es:List (Key×D)):Prop where
 keep:d8 (minus H [p,t]) H'
 gg:d8 G G'
 gH:d8 G' H'
 gnew:∀ q o,G' q=some o→G q=some o∨H q=none
 dom:∀ q,H' q=none→H q=none
 ob:∃ dx fs,H' p=some (.ins C dx fs)∧a3b K G' fs fds∧fs.lookup a9O=some (.ref t)
 gp:G' p=none
 gt:G' t=none
 tb:y9 K G' H' t (.dct es)
noncomputable def SpM (K:PySem.W.Frag)(C:Addr)(np:Nat)(fm:List (Str×D)→List (Key×D)→List D→Option MR):Sp:=fun vs H Q E=>∃ G p t rest dx fs fds es ds d fds' es',vs=.ref p::rest∧ds.length + 1=np∧d8 G H∧G p=none∧G t=none∧H p=some (.ins C dx fs)∧a3b K G fs fds∧fs.lookup a9O=some (.ref t)∧
 y9 K G H t (.dct es)∧l7 K G rest ds∧fm fds es ds=some (.ret d fds' es')∧∀ v G' H',b3w K C G H p t G' H' fds' es'→Rep K G' v d→Q v H'
theorem SpM.imp {K:PySem.W.Frag}{C:Addr}{np:Nat}{fm fm':List (Str×D)→List (Key×D)→List D→Option MR}(h:∀ fds es ds r,fm fds es ds=some r→fm' fds es ds=some r):∀ vs H Q E,SpM K C np fm vs H Q E→SpM K C np fm' vs H Q E:=by
 rintro vs H Q E ⟨G,p,t,rest,dx,fs,fds,es,ds,d,fds',es',a1,a2,a3,a4,a5,a6,a7,a8,a9,a10,a11,a12⟩
 exact ⟨G,p,t,rest,dx,fs,fds,es,ds,d,fds',es',a1,a2,a3,a4,a5,a6,a7,a8,a9,a10,h _ _ _ _ a11,a12⟩
noncomputable def b5H (P:Program)(w:World)(K:PySem.W.Frag)(mg:Str→Option Value)(base:Heap)(k:Nat)(C:Addr)(m:Str)(ps:List Str)(sp:Sp):Prop:=
 ∃ (f:Addr) (fd:FuncData),A0 P w K mg base Q4 k f fd ps sp∧Binds K fd ps []∧Meth K C m f
end L3
set_option Elab.async false
set_option linter.all false
set_option maxRecDepth 100000
set_option maxHeartbeats 4000000
set_option Elab.async false
set_option linter.all false
set_option maxRecDepth 100000
set_option maxHeartbeats 4000000
namespace L3
open PySem PySem.Spec PyProof.Rows L2
noncomputable abbrev Made:=List (Str×D)×List (Key×D)
structure b2W (K:PySem.W.Frag) (C:Addr) (G H:Hp) (p t:Addr) (G' H':Hp) (fds:List (Str×D)) (es:List (Key×D)):Prop where
 keep:d8 (minus H [p]) H'
 gg:d8 G G'
 gH:d8 G' H'
 gnew:∀ q o,G' q=some o→G q=some o∨H q=none
 dom:∀ q,H' q=none→H q=none
 ob:∃ dx fs,H' p=some (.ins C dx fs)∧a3b K G' fs fds∧fs.lookup a9O=some (.ref t)
 gp:G' p=none
 gt:G' t=none
 new:H t=none
 tb:y9 K G' H' t (.dct es)
noncomputable def SpI (K:PySem.W.Frag)(C:Addr)(np:Nat)(fm:List D→Option Made):Sp:=fun vs H Q E=>∃ G p rest dx ds r,vs=.ref p::rest∧ds.length + 1=np∧d8 G H∧G p=none∧H p=some (.ins C dx [])∧l7 K G rest ds∧fm ds=some r∧∀ G' H' t,b2W K C G H p t G' H' r.1 r.2→Q .t6 H'
theorem SpI.imp {K:PySem.W.Frag}{C:Addr}{np:Nat}{fm fm':List D→Option Made}(h:∀ ds r,fm ds=some r→fm' ds=some r):∀ vs H Q E,SpI K C np fm vs H Q E→SpI K C np fm' vs H Q E:=by
 rintro vs H Q E ⟨G,p,rest,dx,ds,r,a1,a2,a3,a4,a5,a6,a7,a8⟩
 exact ⟨G,p,rest,dx,ds,r,a1,a2,a3,a4,a5,a6,h _ _ a7,a8⟩
noncomputable def b34 (K:PySem.W.Frag)(C:Addr)(m qual:Str)(st:Stmt)(ps:List Str):Prop:=∃ (f:Addr) (fd:FuncData),Fun K m qual st f fd∧(∀ us:List Value,us.length=ps.length→bindArgs fd ⟨us,[]⟩=pure (ps.zip us))∧PySem.W.findIn K (.ref C) m=some (some (.ref f))∧PySem.W.isFn K (.ref f)=true
theorem b34.has {P:Program}{w:World}{K:PySem.W.Frag}{mg:Str→Option Value}{base:Heap}{k:Nat}{C:Addr}{m qual:Str}{st:Stmt}{ps:List Str}{sp:Sp}(D:b34 K C m qual st ps)(h:∀ f fd,Fun K m qual st f fd→A0 P w K mg base Q4 k f fd ps sp):b5H P w K mg base k C m ps sp:=by
 obtain ⟨f,fd,F,b,a,n⟩:=D
 exact ⟨f,fd,h f fd F,Binds.all b,⟨a,n,F.kp⟩⟩
end L3
set_option Elab.async false
set_option linter.all false
set_option maxRecDepth 100000
set_option maxHeartbeats 4000000
set_option Elab.async false
set_option linter.all false
set_option maxRecDepth 100000
set_option maxHeartbeats 4000000
namespace PySem
open Sem (wp)
section
variable {prog:Program}{w:World}{A:Around}{E:Value→Shared→Prop}{h:Heap}{g:Array GenState}{d:Drawn}{t:Nat}{os:OsState}
variable {nm q:Str}{C N:Addr}{bs bm bmB:List Value}{hdct:Bool}{sn:List Str}{sub:List Value}{ab:Bool}{col:Option Bool}{dd:Option Addr}{k0 k1 k2 k3 k5:Option Value}{B newId initId:String}
theorem a2c (F:ExcBaseFacts B newId initId bmB)(T:OwnTail h bmB bm){mN:Str→Option Value}{rest:List Value}{fI:Addr}{oI:Obj}{Q:Fin→Shared→Prop}
  (hC:h.get? C=some (excClassObj nm q C N bs bm hdct sn sub ab col dd k0 k1 k2 k3 k5 newId)) (hn:h.Ns N mN) (hi:mN "__init__"=some (.ref fI))
  (hfI:h.get? fI=some oI) (hfc:oI.cls=.type "function")
  (hq:∀ h' e,Heap.MadeExcOf h h' e (.ref C) rest→wpAny (model prog w) A (call (.ref fI) (.ref e::rest)) (fun r s'=>r=.none∧Q (.done (.ret (.ref e))) s') E ⟨h',g,d,t,os⟩) (hrest:rest.length≤sizeLine):
  wpAny (model prog w) A (Builtin.«type.__call__» ⟨.ref C::rest,[]⟩) Q E ⟨h,g,d,t,os⟩:=by
 repeat (first | with_reducible refine wpAny_loadPart_at hC ?_ | with_reducible refine wpAny_madeBy_exc hC ?_ | wp_step)
 refine codeAny_call_builtin_code (Code.quiet_builtin _ F.quiet) (wpAny_check_new_subT F T hC ?_)
 refine codeAny_exc_new_subT F T hC ?_ hrest
 show wpAny _ _ _ _ _ _
 have kp:∀ b o,h.get? b=some o→((h.push { cls:=.type "tuple",data:=.seq rest.toArray }).push { cls:=.ref C,data:=.fields #[.ref h.objs.size,.none,.none,.none,.bool false,.none] }).get? b=some o:=fun b o e=>Heap.get?_push_of_some _ (Heap.get?_push_of_some _ e)
 have hC₁:=kp _ _ hC
 have hfI₁:=kp _ _ hfI
 have hn₁:=hn.keeps kp
 have T₁:=T.keeps kp
 have hget:((h.push { cls:=.type "tuple",data:=.seq rest.toArray }).push
   { cls:=.ref C,data:=.fields #[.ref h.objs.size,.none,.none,.none,.bool false,.none] }).get? (h.objs.size + 1)=some
   { cls:=.ref C,data:=.fields #[.ref h.objs.size,.none,.none,.none,.bool false,.none] }:=by heap_get
 have hcC:(Value.ref C::bm).contains (.ref C)=true:=by simp
 unfold isInstance
 repeat (first | with_reducible refine wpAny_loadPart_at hget ?_ | (with_reducible refine wpAny_isSubtype_exc hC₁ ?_; rw [hcC]) | wp_step)
 show wpAny _ _ (typeLookup (.ref C) _) _ _ _
 refine wpAny_typeLookup_tail hC₁ hn₁ T₁ F.mroIs F.init.lookup ?_
 rw [hi]
 refine wpAny_holding (wpAny_bind ?_)
 unfold bindSpecial
 refine wpAny_bind (wpAny_typeOf (T:="function") ⟨_,hfI₁,hfc⟩ ?_)
 rw [if_pos (by decide)]
 refine wpAny_pure (wpAny_bind (wpAny_mono (hq _ (h.objs.size + 1) ⟨kp,Heap.get?_none_of_le (Nat.le_succ _),h.objs.size,hget,Heap.get?_none_of_le (Nat.le_refl _),?_⟩) (fun r s' hr=>?_) fun _ _ x=>x))
 ·exact Heap.get?_push_of_some _ (Heap.get?_push_at rfl rfl)
 ·obtain ⟨rfl,hQ⟩:=hr
  wp_walk
  exact hQ
theorem a55 (F:ExcBaseFacts B newId initId bmB)(T:OwnTail h bmB bm){mN:Str→Option Value}{rest:List Value}{fI:Addr}{oI:Obj}{Q:Value→Shared→Prop}
  (hC:h.get? C=some (excClassObj nm q C N bs bm hdct sn sub ab col dd k0 k1 k2 k3 k5 newId)) (hn:h.Ns N mN) (hi:mN "__init__"=some (.ref fI))
  (hfI:h.get? fI=some oI) (hfc:oI.cls=.type "function")
  (hq:∀ h' e,Heap.MadeExcOf h h' e (.ref C) rest→wpAny (model prog w) (A.under (.builtin "type.__call__" ⟨.ref C::rest,[]⟩)) (call (.ref fI) (.ref e::rest)) (fun r s'=>r=.none∧Q (.ref e) s') E ⟨h',g,d,t,os⟩) (hrest:rest.length≤sizeLine):
  wpAny (model prog w) A (call (.ref C) rest) Q E ⟨h,g,d,t,os⟩:=by
 have f1:=tc_lookup
 have f2:=tc_bind (.ref C)
 have hT:(⟨h,g,d,t,os⟩:Shared).TypeIs (.ref C) "type":=⟨_,hC,rfl⟩
 refine wpAny_call (codeAny_of_tree ?_)
 show wpAny _ _ (callAny (.ref C) _) _ _ _
 repeat (any_goals (first | assumption | with_reducible refine wpAny_loadPart_at hC ?_ | wp_step))
 refine ⟨rfl,?_⟩
 refine codeAny_call_builtin_at (Code.quiet_builtin _ (by decide +kernel)) entry_typeCall (wpAny_check_type_call_sub hC (a2c F T hC hn hi hfI hfc (fun h' e hm=>?_) hrest))
 exact hq h' e hm
theorem M0 {M:Model}{env:Env}{s:Shared}{x:Sem Value}{Q:Flow→Shared→Prop}(hbase:bm.contains (.type "BaseException")=true) (hh:A.handled=none)
  (h:wpAny M A x (fun v s₁=>∃ e dc t0,v=.ref e∧s₁.heap.get? C=some (excClassObj nm q C N bs bm hdct sn sub ab col dd k0 k1 k2 k3 k5 newId)∧
   s₁.heap.get? e=some { cls:=.ref C,dict:=dc,data:=.fields #[.ref t0,.none,.none,.none,.bool false,.none] }∧E (.ref e) s₁) E s):
  wpAny M A (raiseStmt env (some x) none) Q E s:=by
 have hcB:(Value.ref C::bm).contains (.type "BaseException")=true:=by rw [List.contains_cons,hbase,Bool.or_true]
 unfold raiseStmt
 refine wpAny_bind (wpAny_mono h (fun v s₁ h₁=>?_) fun _ _ x=>x)
 obtain ⟨e,dc,t0,rfl,hC,he,hE⟩:=h₁
 obtain ⟨hp,g,d,tk,os⟩:=s₁
 repeat (first | with_reducible refine wpAny_loadPart_at he ?_ | with_reducible refine wpAny_loadPart_at hC ?_ | (with_reducible refine wpAny_isSubtype_exc hC ?_; rw [hcB]) | wp_step)
 exact wpAny_raiseNew_none hh hE
end
section
variable {prog:Program}{w:World}{A:Around}{E:Value→Shared→Prop}{s:Shared}{env:Env}
variable {nm q:Str}{C N:Addr}{bs bm bmB:List Value}{hdct:Bool}{sn:List Str}{sub:List Value}{ab:Bool}{col:Option Bool}{dd:Option Addr}{k0 k1 k2 k3 k5:Option Value}{B newId initId:String}
theorem a5u (F:ExcBaseFacts B newId initId bmB){mN:Str→Option Value}{x:Str}{np cpos pos:Pos}{args:List Expr}{fI:Addr}{oI:Obj}{Q:Flow→Shared→Prop}
  (hbase:bm.contains (.type "BaseException")=true) (hh:A.handled=none) (hplain:(backTo cpos (starEach args env)).any (·.1)=false) (hi:mN "__init__"=some (.ref fI)) (hfc:oI.cls=.type "function")
  (h:wpAny (model prog w) A (eval (.Name x np) env) (fun f s₁=>f=.ref C∧wpAny (model prog w) A (evalArgs (.ref C) true (backTo cpos (starEach args env)) [])
   (fun a s₂=>a.kw=[]∧a.pos.length≤sizeLine∧s₂.heap.get? C=some (excClassObj nm q C N bs bm hdct sn sub ab col dd k0 k1 k2 k3 k5 newId)∧s₂.heap.Ns N mN∧s₂.heap.get? fI=some oI∧OwnTail s₂.heap bmB bm∧
    ∀ h' e,Heap.MadeExcOf s₂.heap h' e (.ref C) a.pos→wpAny (model prog w) (A.under (.builtin "type.__call__" ⟨.ref C::a.pos,[]⟩)) (call (.ref fI) (.ref e::a.pos)) (fun r s3=>r=.none∧s3.heap.get? C=some (excClassObj nm q C N bs bm hdct sn sub ab col dd k0 k1 k2 k3 k5 newId)∧(∃ dc t0,s3.heap.get? e=some { cls:=.ref C,dict:=dc,data:=.fields #[.ref t0,.none,.none,.none,.bool false,.none] })∧E (.ref e) s3) E { s₂ with heap:=h' }) E s₁) E s):
  wpAny (model prog w) A (exec (.Raise (some (.Call (.Name x np) args [] cpos)) none pos) env) Q E s:=by
 rw [arm_exec_Raise]
 first
  | refine wpAny_bind (wpAny_standAt (M0 (C:=C) (nm:=nm) (q:=q) (N:=N) (bs:=bs) (bm:=bm) (hdct:=hdct) (sn:=sn) (sub:=sub) (ab:=ab) (col:=col) (dd:=dd) (k0:=k0) (k1:=k1) (k2:=k2) (k3:=k3) (k5:=k5) (newId:=newId) hbase hh (wpAny_bind (wpAny_mono (wpAny_Call_ofName (wpAny_mono h (fun f s₁ h₁=>?_) fun _ _ x=>x)) (fun v s₃ h₃=>wpAny_bind (wpAny_standAt (wpAny_pure h₃))) fun _ _ x=>x))))
  | (simp only [evalOpt,Option.map]; refine wpAny_bind (wpAny_standAt (M0 (C:=C) (nm:=nm) (q:=q) (N:=N) (bs:=bs) (bm:=bm) (hdct:=hdct) (sn:=sn) (sub:=sub) (ab:=ab) (col:=col) (dd:=dd) (k0:=k0) (k1:=k1) (k2:=k2) (k3:=k3) (k5:=k5) (newId:=newId) hbase hh (wpAny_bind (wpAny_mono (wpAny_Call_ofName (wpAny_mono h (fun f s₁ h₁=>?_) fun _ _ x=>x)) (fun v s₃ h₃=>wpAny_bind (wpAny_standAt (wpAny_pure h₃))) fun _ _ x=>x)))))
  | (refine wpAny_bind (wpAny_standAt (M0 (C:=C) (nm:=nm) (q:=q) (N:=N) (bs:=bs) (bm:=bm) (hdct:=hdct) (sn:=sn) (sub:=sub) (ab:=ab) (col:=col) (dd:=dd) (k0:=k0) (k1:=k1) (k2:=k2) (k3:=k3) (k5:=k5) (newId:=newId) hbase hh ?_)); refine wpAny_bind (wpAny_mono (wpAny_Call_ofName (wpAny_mono h (fun f s₁ h₁=>?_) fun _ _ x=>x)) (fun v s₃ h₃=>wpAny_bind (wpAny_standAt (wpAny_pure h₃))) fun _ _ x=>x))
 obtain ⟨rfl,h₁⟩:=h₁
 unfold callWith
 refine wpAny_bind (wpAny_holding (wpAny_mono h₁ (fun a s₂ h₂=>wpAny_bind (wpAny_standAt ?_)) fun _ _ x=>x))
 obtain ⟨apos,akw⟩:=a
 obtain ⟨hkw,hlen,hC,hn,hfI,T,h₂⟩:=h₂
 obtain rfl:akw=[]:=hkw
 obtain ⟨hp,g,d,tk,os⟩:=s₂
 simp only [hplain]
 refine wpAny_bind (wpAny_keeperOf_exc hC ?_)
 refine wpAny_bind (a55 F T hC hn hi hfI hfc (fun h' e hm=>?_) hlen)
 refine wpAny_mono (h₂ h' e hm) (fun r s3 z=>?_) fun _ _ z=>z
 obtain ⟨z0,z1,⟨dc,t0,z2⟩,z4⟩:=z
 exact ⟨z0,wpAny_bind (wpAny_holding (wpAny_point (wpAny_pure ⟨e,dc,t0,rfl,z1,z2,z4⟩)))⟩
end
end PySem
set_option Elab.async false
set_option linter.all false
set_option maxRecDepth 100000
set_option maxHeartbeats 4000000
namespace PySem.W
open PySem PyProof.Rows Builtin Builtin.ObjectAttr
noncomputable def G9 (C C1:Addr):List Value:=.ref C::.ref C1::L3.bmV
theorem a57 (self:Value)(C C1:Addr):refuseLoop self "__setattr__" (G9 C C1)=pure ():=by
 unfold G9
 rw [refuseLoop_ref,refuseLoop_ref]
 exact PySem.F.store_ValueError.passes self
theorem a6p (C C1:Addr):(G9 C C1).contains (.type "object")=true:=by simp [G9,L3.bmV]
section
variable {prog:Program}{w:World}{A:Around}{E:Value→Shared→Prop}{s:Shared}{K:Frag}{C C1 x:Addr}{name:Str}{v:Value}{R:Result→Shared→Prop}
theorem b5r {vs:Array Value}{tk:Tok}{cd:ClassData}(X:K.In s.heap)(hx:s.heap.get? x=some ⟨.ref C,none,.fields vs,#[]⟩)(hc:clsIn K C=some cd)(hmro:cd.mro=G9 C C1)(hhd:cd.hasDict=true)(ha:findIn K (.ref C) name=some none)
  (h:∀ h' t',h'.get? x=some ⟨.ref C,some s.heap.objs.size,.fields vs,#[]⟩→h'.Ns1 s.heap.objs.size (fun y=>if y=name then some v else none)→(∀ b o,b≠x→s.heap.get? b=some o→h'.get? b=some o)→R (.ok (.ret .none)) { s with heap:=h',toks:=t' }):
  codeAny (model prog w) A (.call (.builtin "object.__setattr__") ⟨[.ref x,.str name tk,v],[]⟩) R s:=by
 have SF:=PySem.F.store_object
 have I:InstAt s.heap x ⟨.ref C,none,.fields vs,#[]⟩ C none:=⟨hx,rfl,rfl,trivial⟩
 have sub:Looks (model prog w) s.heap (isInstance (.ref x) (.type "object")) true:=I.type.andThen (looks_mroIn X (by unfold mroIn; rw [hc,Option.bind_some,hmro,if_neg (by simp [G9]),a6p]))
 refine codeAny_call_builtin SF.slot.plain SF.entry (@check_slot (model prog w) _ _ s "object.__setattr__" "object" "__setattr__" (.ref x) [.str name tk,v] [] _ SF.kind SF.split sub (SF.args (.ref x) (.str name tk) v) ?_)
 have hm:Looks (model prog w) s.heap (mroOf (.ref C)) cd.mro:=(looks_clsIn X hc).andThen .now
 rw [osa_eq,refuse_eq]
 refine wpAny_bind (wpAny_bind (I.type.here (wpAny_bind (hm.here ?_))))
 rw [hmro,a57]
 refine wpAny_pure (wpAny_bind (I.type.here (wpAny_bind ((looks_findIn X ha).here (wpAny_bind ((Looks.now (M:=model prog w) (a:=(none:Option Value))).here ?_))))))
 show wpAny _ _ (storeInOwnDict (.ref x) (.ref C) (.str name tk) name v false) _ _ _
 refine wpAny_bind (wpAny_pure (wpAny_bind (wpAny_bind (wpAny_loadPart hx (wpAny_bind ((looks_clsIn X hc).here ?_))))))
 rw [hhd]
 obtain ⟨hp,g,d,t,os⟩:=s
 have hx:hp.get? x=some ⟨.ref C,none,.fields vs,#[]⟩:=hx
 have hx₁:(hp.push { cls:=.type "dict",data:=.dict #[] }).get? x=some ⟨.ref C,none,.fields vs,#[]⟩:=Heap.get?_push_of_some _ hx
 have hxs:x≠hp.objs.size:=Nat.ne_of_lt (Heap.lt_size hx)
 rw [if_neg (by decide)]
 show wpAny _ _ (alloc { cls:=.type "dict",data:=.dict #[] } >>= fun d=>update x (fun o=>{ cls:=o.cls,dict:=some d,data:=o.data,slots:=o.slots }) >>= fun _=>dictMade (.ref C) x d) _ _ _
 refine wpAny_bind (wpAny_alloc' (wpAny_bind (wpAny_update' hx₁ (wpAny_pure ?_))))
 have hgd:((hp.push { cls:=.type "dict",data:=.dict #[] }).update x fun o=>{ cls:=o.cls,dict:=some hp.objs.size,data:=o.data,slots:=o.slots }).get? hp.objs.size=some { cls:=.type "dict",data:=.dict #[] }:=
  (Heap.get?_update_ne _ _ _ _ hxs.symm).trans (Heap.get?_push_at rfl rfl)
 have hnd:((hp.push { cls:=.type "dict",data:=.dict #[] }).update x fun o=>{ cls:=o.cls,dict:=some hp.objs.size,data:=o.data,slots:=o.slots }).Ns hp.objs.size (fun _=>none):=
  ⟨_,#[],_,hgd,rfl,fun e he=>absurd he (by simp),fun _=>rfl⟩
 show wpAny _ _ (storeInDict hp.objs.size (.str name tk) name v) _ _ _
 unfold storeInDict newKeyGuard
 refine wpAny_bind (wpAny_pure (wpAny_bind (wpAny_nsSet1 (Heap.Ns1.of_empty hnd) fun h' hn' hs=>?_)))
 obtain ⟨oD,esD,epD,hoD,hdD,hcD⟩:=hn'.count (Within.cons name v Within.nil)
 refine wpAny_bind (wpAny_lookBehind hoD (by rw [hdD]; exact pastItsLine_dict (Nat.le_trans hcD (by rw [List.length_cons,List.length_nil,sizeLine_eq]; omega))) ?_)
 refine wpAny_pure (h h' _ ?_ hn' fun b o hb e=>?_)
 ·exact (hs.2 x hxs).trans (Heap.get?_update_self _ hx₁ rfl)
 ·exact (hs.2 b (Nat.ne_of_lt (Heap.lt_size e))).trans ((Heap.get?_update_ne _ _ _ _ hb).trans (Heap.get?_push_of_some _ e))
theorem b5L {vs:Array Value}{cd:ClassData}{Q:Unit→Shared→Prop}(X:K.In s.heap)(hx:s.heap.get? x=some ⟨.ref C,none,.fields vs,#[]⟩)(hsa:findIn K (.ref C) "__setattr__"=some (some (.builtin "object.__setattr__"))) (hc:clsIn K C=some cd) (hmro:cd.mro=G9 C C1) (hhd:cd.hasDict=true) (ha:findIn K (.ref C) name=some none)
  (h:∀ h' t',h'.get? x=some ⟨.ref C,some s.heap.objs.size,.fields vs,#[]⟩→h'.Ns1 s.heap.objs.size (fun y=>if y=name then some v else none)→(∀ b o,b≠x→s.heap.get? b=some o→h'.get? b=some o)→Q () { s with heap:=h',toks:=t' }):
  wpAny (model prog w) A (setAttr (.ref x) name v) Q E s:=
 set_plain (od:=none) X ⟨hx,rfl,rfl,trivial⟩ hsa (b5r (s:={ s with toks:=s.toks + 1 }) X hx hc hmro hhd ha fun h' t' a b c=>h h' t' a b c)
end
section
variable {prog:Program}{w:World}{A:Around}{E:Value→Shared→Prop}{K:Frag}{C C1 x:Addr}{name:Str}{v:Value}
variable {h:Heap}{g:Array GenState}{d:Drawn}{t:Nat}{os:OsState}
theorem a8C {vs:Array Value}{sl:Array (Option Value)}{dx:Addr}{mA:Str→Option Value}{tk:Tok}{cd:ClassData}{Q:Fin→Shared→Prop}(X:K.In h)(hx:h.get? x=some ⟨.ref C,some dx,.fields vs,sl⟩)(hc:clsIn K C=some cd)(hhd:cd.hasDict=true)(ha:findIn K (.ref C) name=some none)
  (hns:h.Ns dx mA) (hv:mA name=some v) (hq:Q (.done (.ret v)) ⟨h,g,d,t,os⟩):
  wpAny (model prog w) A (Builtin.«object.__getattribute__» ⟨[.ref x,.str name tk],[]⟩) Q E ⟨h,g,d,t,os⟩:=by
 have l1:=looks_findIn (M:=model prog w) X ha
 have l2:=looks_clsIn (M:=model prog w) X hc
 unfold Builtin.«object.__getattribute__»
 repeat (any_goals (first | assumption | (with_reducible refine wpAny_nsGet hns ?_; rw [hv]) | with_reducible refine wpAny_loadPart_at hx ?_ | with_reducible refine l1.here ?_ | with_reducible refine l2.here ?_ | wp_step))
theorem b5D {vs:Array Value}{sl:Array (Option Value)}{dx:Addr}{mA:Str→Option Value}{cd:ClassData}{expr:Bool}{Q:Value→Shared→Prop}(X:K.In h)(hx:h.get? x=some ⟨.ref C,some dx,.fields vs,sl⟩)(hga:findIn K (.ref C) "__getattribute__"=some (some (.builtin "BaseException.__getattribute__"))) (hgt:findIn K (.ref C) "__getattr__"=some none) (hc:clsIn K C=some cd) (hmro:cd.mro=G9 C C1) (hhd:cd.hasDict=true) (ha:findIn K (.ref C) name=some none)
  (hns:h.Ns dx mA) (hv:mA name=some v) (hh:handedOut v=pure v) (hq:Q v ⟨h,g,d,t + 1,os⟩):
  wpAny (model prog w) A (getAttr (.ref x) name expr) Q E ⟨h,g,d,t,os⟩:=by
 have l1:=looks_findIn (M:=model prog w) X hga
 have l2:=looks_findIn (M:=model prog w) X hgt
 have FB:=PySem.F.excAttr_ValueError
 have f3:=FB.ga.bind (.ref x)
 have hx0:(expr && onTheHeap (Value.builtin "BaseException.__getattribute__"))=false:=by cases expr <;> rfl
 have hx2:(Value.builtin "BaseException.__getattribute__" == Value.builtin "object.__getattribute__")=false:=by decide +kernel
 have hx1:(onTheHeap (Value.ref C) && Value.builtin "BaseException.__getattribute__" == Value.builtin "object.__getattribute__")=false:=by rw [hx2]; rfl
 unfold getAttr
 repeat (any_goals (first | assumption | with_reducible refine wpAny_loadPart_at hx ?_ | with_reducible refine l1.here ?_ | with_reducible refine l2.here ?_ | wp_step))
 obtain ⟨od,_,_,ho,_⟩:=id hns
 have I:InstAt h x ⟨.ref C,some dx,.fields vs,sl⟩ C (some od):=⟨hx,rfl,rfl,ho⟩
 have hb:(G9 C C1).contains (.type "BaseException")=true:=by simp [G9,L3.bmV]
 have sub:Looks (model prog w) h (isInstance (.ref x) (.type "BaseException")) true:=I.type.andThen (looks_mroIn X (by unfold mroIn; rw [hc,Option.bind_some,hmro,if_neg (by simp [G9]),hb]))
 refine codeAny_call_builtin FB.ga.plain PySem.F.entry_bexc_ga (@check_slot (model prog w) _ _ ⟨h,g,d,t + 1,os⟩ "BaseException.__getattribute__" "BaseException" "__getattribute__" (.ref x) [.str name t] [] _ (by decide +kernel) (by decide +kernel) sub (PySem.F.args_bexc_ga (.ref x) (.str name t)) ?_)
 refine a8C X hx hc hhd ha hns hv ?_
 show wpAny _ _ (handedOut v) _ _ _
 rw [hh]
 exact wpAny_pure hq
end
end PySem.W
set_option Elab.async false
set_option linter.all false
set_option maxRecDepth 100000
set_option maxHeartbeats 4000000
namespace L3
open PySem PySem.Spec PyProof.Rows L2
noncomputable def exI (a C:Addr)(dc:Option Addr):Heap→Prop:=fun h=>∃ t0,h.get? a=some ⟨.ref C,dc,.fields #[.ref t0,.none,.none,.none,.bool false,.none],#[]⟩
theorem a9r {a C:Addr}{dc:Option Addr}:∀ h1 h2:Heap,exI a C dc h1→(∀ o,h1.get? a=some o→h2.get? a=some o)→exI a C dc h2:=fun _ _ ⟨t0,e⟩ k=>⟨t0,k _ e⟩
theorem a6h {P:Program}{w:World}{H:Hp}{h:Heap}{a C:Addr}{dc:Option Addr}(e:exI a C dc h):A4 P w H h a (.ext (exI a C dc)):=⟨e,let ⟨_,q⟩:=e; ⟨_,q⟩,a9r⟩
theorem a95 {H:Hp}{a:Addr}{o:HO}(h:H a=some o):upd H a o=H:=by
 funext b
 unfold upd
 split
 ·rename_i z; rw [z,h]
 ·rfl
structure a1e (K:PySem.W.Frag) (mg:Str→Option Value) (x:Str) (C C1 fI:Addr) (f:Str):Prop where
 at_:PySem.W.nsIn K mainGlobals x=some (some (.ref C))
 mg:mg x=some (.ref C)
 ok:a23 K C (some (.ref fI))=true
 cls:((PySem.W.clsIn K C).any fun cd=>cd.mro == PySem.W.G9 C C1 && cd.hasDict)=true
 sa:PySem.W.findIn K (.ref C) "__setattr__"=some (some (.builtin "object.__setattr__"))
 ga:PySem.W.findIn K (.ref C) "__getattribute__"=some (some (.builtin "BaseException.__getattribute__"))
 gt:PySem.W.findIn K (.ref C) "__getattr__"=some none
 fld:PySem.W.findIn K (.ref C) f=some none
theorem a1e.cd {K:PySem.W.Frag}{mg:Str→Option Value}{x:Str}{C C1 fI:Addr}{f:Str}(e:a1e K mg x C C1 fI f):∃ cd,PySem.W.clsIn K C=some cd∧cd.mro=PySem.W.G9 C C1∧cd.hasDict=true:=by
 obtain ⟨cd,h1,h2⟩:=PySem.W.any_some e.cls
 rw [Bool.and_eq_true] at h2
 exact ⟨cd,h1,eq_of_beq h2.1,h2.2⟩
structure a6u (K:PySem.W.Frag) (mg:Str→Option Value) (x:Str) (C1:Addr):Prop where
 mg:mg x=some (.ref C1)
 rd:PySem.W.readsIn K C1 (.type "type")=true
 fc:PySem.W.findCls K (.ref C1) (.type "type") "__init__"=some (.val (.builtin "ValueError.__init__"))
 sp:PySem.W.specialIn K (.ref C1) "__getattribute__"=some (some (.builtin "type.__getattribute__"))
section
variable {X:Cx}{K:PySem.W.Frag}{C C1 fI:Addr}{x cn f:Str}{e:Expr}{es:List Expr}{t:TA}{np apos pos:Pos}
theorem a7V {prog:Program}{w:World}{A:Around}{E:Value→Shared→Prop}{Q:Value→Shared→Prop}{s:Shared}{a:Addr}{u:Value}{bm:List Value}{iv:Option Value}{dc:Option Addr}(ob:Q9 s.heap C bm iv)(hx:exI a C dc s.heap)
  (h:∀ h' t',exI a C dc h'→(∀ b o,b≠a→s.heap.get? b=some o→h'.get? b=some o)→Q .none { s with heap:=h',toks:=t' }):
  wpAny (model prog w) A (call (.builtin "ValueError.__init__") [.ref a,u]) Q E s:=by
 obtain ⟨nm,qn,N,bs,hd,sn,sub,ab,col,dd,k0,k1,k2,k3,k5,mN,hC,hn,hi,T⟩:=ob.ex
 obtain ⟨t0,hx⟩:=hx
 obtain ⟨hp,g,d,tk,os⟩:=s
 have F:=PySem.F.excBase_ValueError
 have hlt:a≠hp.objs.size:=Nat.ne_of_lt (Heap.lt_size hx)
 refine wpAny_call (codeAny_call_builtin F.init.plain F.initEntry (wpAny_check_init_subT F T hC hx rfl ?_))
 wp_walk
 refine h _ _ ⟨hp.objs.size,?_⟩ fun b o hb e=>?_
 ·exact (Heap.get?_update_self _ (Heap.get?_push_of_some _ hx) rfl)
 ·exact (Heap.get?_update_ne _ _ _ _ hb).trans (Heap.get?_push_of_some _ e)
noncomputable def b3s (C:Addr)(t:TA):TE:=fun σ H Q=>t σ H fun vs H1=>∃ a u,vs=[.ref a,u]∧H1 a=some (.ext (exI a C none))∧Q .t6 H1
theorem a80 {pl:Sem Bool}(U:a6u X.K X.mg cn C1)(hok:a23 X.K C (some (.ref fI))=true)(hg:Gl X cn)(ha:PA X (e::es) t)(hdb:(cn == ("__debug__":Str))=false:=by decide)
  (hst:starEach (e::es) X.env=(false,eval e X.env)::starEach es X.env:=by rfl) (hpl:(backTo pos (starEach es X.env)).any (·.1)=false:=by rfl)
  (ht:eval (.Call (.Attribute (.Name cn np) "__init__" apos) (e::es) [] pos) X.env=(do
   let ov ← eval (.Name cn np) X.env
   standAt apos.atName
   let (f,first) ← holding [ov] (getMethod ov "__init__" pl)
   callWith pos f first (backTo pos (starEach (e::es) X.env)) (backToKw pos (keywordEach [] X.env))):=by rfl):
  PE X (.Call (.Attribute (.Name cn np) "__init__" apos) (e::es) [] pos) (b3s C t):=by
 intro pins s σ H Q I h
 refine PySem.W.methodCall_KW (pl:=pl) (Z8 I hg U.mg ?_ hdb) ht
 refine PySem.W.method_cls I.kIn U.sp (PySem.W.cls_value I.kIn U.rd U.fc rfl ?_)
 have I0:=I.tok (s.toks + 1)
 refine PyProof.Rows.callWith_builtin1 (C7 (ha pos pins _ σ H _ I0 h) fun us s1 ⟨vs,H1,I1,r,a,u,ev,hH,q⟩=>?_) hst hpl
 subst ev
 cases r with
 | cons r1 rr=>
  cases rr with
  | cons r2 rr=>
   cases rr
   cases r1
   obtain ⟨hx,_⟩:A4 X.prog X.w H1 s1.heap a (.ext (exI a C none)):=I1.hok a _ hH
   obtain ⟨bm,ob⟩:=a0z I1.kIn hok
   refine a7V ob hx fun h' t' hx' kp=>?_
   have I2:=I1.write (x:=a) (e:=a) (o:=.ext (exI a C none)) (t':=t') (by rw [hH]; exact True.intro) (.inl rfl) (fun b o hb e=>kp b o hb e) (let ⟨_,q⟩:=hx'; ⟨_,q⟩) (a6h hx')
   rw [a95 hH] at I2
   exact ⟨.t6,H1,I2,rfl,q⟩
noncomputable def b4p (C:Addr)(f:Str)(i:Nat)(tv:TE):TS:=fun D σ H=>tv σ H fun y H1=>∃ a n,y=.int n∧σ[i]?=some (some (.ref a))∧H1 a=some (.ext (exI a C none))∧∀ dx,H1 dx=none→dx≠a→D.nx σ (upd (upd H1 dx (.xd [(f,.int n)])) a (.ext (exI a C (some dx))))
theorem b1B {tv:TE}{value:Expr}{y:Str}{i:Nat}{p1 p2:Pos}{xn:Str}(E:a1e X.K X.mg xn C C1 fI f)(hv:PE X value tv)(hN:X.N[i]?=some y)(hvis:Vis X.env.scope y)(hd:(y == ("__debug__":Str))=false) (hcd:(y == ("__classdict__":Str))=false) (hs:swapsWith value (some (.Attribute (.Name y p1) f p2)) pos.line X.env=pure false):
  PS X (.Assign [.Attribute (.Name y p1) f p2] value pos) (b4p C f i tv):=by
 intro pins s σ H D I h
 refine plainObj_wpAny_Assign_Attribute (C7 (hv pins s σ H _ I h) fun u s1 ⟨yv,H1,I1,ry,a,n,ey,hσ,hH,q⟩=>?_) hs
 subst ey
 refine C7 (a0m (X:=X) hN hvis hd hcd pins s1 σ H1 (fun x H'=>x=.ref a∧H'=H1) I1 ⟨.ref a,hσ,rfl,rfl⟩) fun ov s2 ⟨xv,H2,I2,rx,ex,eH⟩=>?_
 subst ex eH
 obtain rfl:ov=Value.ref a:=rx
 obtain ⟨⟨t0,hx⟩,_⟩:A4 X.prog X.w H2 s2.heap a (.ext (exI a C none)):=I2.hok a _ hH
 obtain ⟨cd,c1,c2,c3⟩:=E.cd
 refine PySem.W.b5L (C1:=C1) I2.kIn hx E.sa c1 c2 c3 E.fld fun h' t' hx' hn kp=>?_
 have hfree:H2 s2.heap.objs.size=none:=I2.hok.fresh (Nat.le_refl _)
 have hne:s2.heap.objs.size≠a:=Nat.ne_of_gt (Heap.lt_size hx)
 obtain ⟨oD,es,ep,ho,hdt,hrest⟩:=id hn
 have hfr:=(Heap.get?_some_iff.mp ho).2
 have hD:(s2.heap.push oD).get? s2.heap.objs.size=some oD:=Heap.get?_push_size _ hfr
 have okD:∀ {H':Hp},A4 X.prog X.w H' (s2.heap.push oD) s2.heap.objs.size (.xd [(f,.int n)]):=fun {H'}=>by
  refine ⟨_,⟨oD,es,ep,hD,hdt,hrest⟩,fun g=>?_⟩
  by_cases z:g=f
  ·subst z
   rw [List.lookup_cons_self,if_pos rfl]
   exact ry
  ·have hb:(g == f)=false:=beq_eq_false_iff_ne.mpr z
   simp only [List.lookup,hb,if_neg z]
   trivial
 have I3:=I2.laid (t':=t') (h':=s2.heap.push oD) (o:=.xd [(f,.int n)]) (fun b o e=>Heap.get?_push_of_some _ e) (Nat.le_refl _) okD
 have hH3:(upd H2 s2.heap.objs.size (.xd [(f,.int n)])) a=some (.ext (exI a C none)):=by rw [j3 hne.symm]; exact hH
 have I4:=I3.write (x:=a) (e:=a) (h':=h') (o:=.ext (exI a C (some s2.heap.objs.size))) (t':=t') (by rw [hH3]; exact True.intro) (.inl rfl) (fun b o hb e=>?_) ⟨_,hx'⟩ (a6h ⟨t0,hx'⟩)
 ·exact ⟨σ,_,I4,q _ hfree hne⟩
 ·by_cases z:b=s2.heap.objs.size
  ·subst z
   have:some oD=some o:=hD.symm.trans e
   cases this
   exact ho
  ·have e':s2.heap.get? b=some o:=by
    rcases Heap.get?_push_cases e with ⟨z2,_⟩ | z2
    ·exact absurd z2 z
    ·exact z2
   exact kp b o hb e'
end
end L3
set_option Elab.async false
set_option linter.all false
set_option maxRecDepth 100000
set_option maxHeartbeats 4000000
namespace L3
open PySem PySem.Spec PyProof.Rows L2
noncomputable def spE (C:Addr)(f:Str):Sp:=fun vs H Q _=>∃ a n,vs=[.ref a,.int n]∧0≤n∧n≤1000∧H a=some (.ext (exI a C none))∧
 ∀ H1 dx,d8 H H1→(∀ b,H1 b=none→H b=none)→H1 dx=none→dx≠a→Q .t6 (upd (upd H1 dx (.xd [(f,.int n)])) a (.ext (exI a C (some dx))))
theorem a8p {K:PySem.W.Frag}{H:Hp}{a:Addr}{n:Int}:RS ⟨K,H,H,fun _=>none,fun _=>none,none⟩ (fun _=>none) H [some (.ref a),some (.int n)] [none,some (.sh (.int n))]:=by
 have at':∀ {i:Nat} {c:C},([none,some (.sh (.int n))]:i9)[i]?=some (some c)→i=1∧c=.sh (.int n):=fun {i c} e=>by
  match i,e with
  | 0,e=>cases e
  | 1,e=>cases e; exact ⟨rfl,rfl⟩
  | i + 2,e=>cases e
 refine ⟨d8.refl _,d8.refl _,fun _ _ e=>e,fun b o e=>(by cases e),fun p o e=>(by cases e),fun p e=>e,rfl,fun i d e=>?_,fun i l d e=>?_,fun i j l d k e p x y=>?_,fun i es e=>?_,fun i l fds e=>?_,fun i fds e=>?_⟩
 ·obtain ⟨rfl,z⟩:=at' e
  cases z
  exact ⟨_,rfl,.int n⟩
 ·obtain ⟨_,z⟩:=at' e; cases z
 ·obtain ⟨_,z⟩:=at' x; cases z
 ·obtain ⟨_,z⟩:=at' e; cases z
 ·obtain ⟨_,z⟩:=at' e; cases z
 ·obtain ⟨_,z⟩:=at' e; cases z
section
variable {P:Program}{w:World}{K:PySem.W.Frag}{mg:Str→Option Value}{base:Heap}
theorem b0e {x cn qual f ln:Str}{st:Stmt}{fI C C1:Addr}{fd:FuncData}{k:Nat}{js:List Expr}{mt:M W}{np apos p1 pos pos' p3 p4 p5 p6 pos2:Pos}(F:Fun K "__init__" qual st fI fd) (S:n8 ["self",ln] ["self",ln] (g6 st)) (EI:a1e K mg x C C1 fI f) (U:a6u K mg cn C1)
  (hb:D0 st=[.Expr (.Call (.Attribute (.Name cn np) "__init__" apos) [.Name "self" p1,.JoinedStr js p6] [] pos) pos',.Assign [.Attribute (.Name "self" p3) f p4] (.Name ln p5) pos2])
  (hev:∀ n:Int,0≤n→n≤1000→∃ d ρ',mt [none,some (.sh (.int n))]=some (.ok (.val d) ρ'))
  (hln:Vis (g6 st) ln) (hse:Vis (g6 st) "self") (hdl:(ln == ("__debug__":Str))=false) (hcl:(ln == ("__classdict__":Str))=false)
  (hbody:∀ (cdv:Value) (A:Around) (outer:List Env) (s:Shared) (H:Hp) (E:XK) (H0 HK G0:Hp) (L:Nat→Option Addr),C4 k (A.deeper (envOfC qual (g6 st) s.heap.objs.size fI cdv))→
   PD (N4 Q4 P w K mg base ["self",ln] qual (g6 st) fI cdv A outer s H E) ⟨K,H0,HK,G0,L,none⟩ (.JoinedStr js p6) mt∧
   Gl (N4 Q4 P w K mg base ["self",ln] qual (g6 st) fI cdv A outer s H E) cn∧
   ∃ pl:Sem Bool,eval (.Call (.Attribute (.Name cn np) "__init__" apos) [.Name "self" p1,.JoinedStr js p6] [] pos) (N4 Q4 P w K mg base ["self",ln] qual (g6 st) fI cdv A outer s H E).env=(do
    let ov ← eval (.Name cn np) (N4 Q4 P w K mg base ["self",ln] qual (g6 st) fI cdv A outer s H E).env
    standAt apos.atName
    let (f,first) ← holding [ov] (getMethod ov "__init__" pl)
    callWith pos f first (backTo pos (starEach [.Name "self" p1,.JoinedStr js p6] (N4 Q4 P w K mg base ["self",ln] qual (g6 st) fI cdv A outer s H E).env)) (backToKw pos (keywordEach [] (N4 Q4 P w K mg base ["self",ln] qual (g6 st) fI cdv A outer s H E).env))))
  (hdb:(cn == ("__debug__":Str))=false:=by decide):A0 P w K mg base Q4 (k + 1) fI fd ["self",ln] (spE C f):=by
 refine F.ok S (fun vs H Q E h=>?_) (fun cdv A outer s H vs Q E hr h=>?_)
 ·obtain ⟨a,n,rfl,_⟩:=h; rfl
 obtain ⟨a,n,rfl,n1,n2,hH,q⟩:=h
 obtain ⟨hp,hg,pl,ht⟩:=hbody cdv A outer s H E H H (fun _=>none) (fun _=>none) hr
 have htx:=PE.S2 (E':=fun _ _=>False) (hp.ap fun _ _ _=>False) (fun e s z=>by obtain ⟨_,_,_,_,_,_,z⟩:=z; exact z)
 have v0:PE ((N4 Q4 P w K mg base ["self",ln] qual (g6 st) fI cdv A outer s H E).nox) (.Name "self" p1) (b1J 0):=a0m (i:=0) rfl hse (by decide) (by decide)
 have v1:PE ((N4 Q4 P w K mg base ["self",ln] qual (g6 st) fI cdv A outer s H E).nox) (.Name ln p5) (b1J 1):=a0m (i:=1) rfl hln hdl hcl
 have e1:=a80 (X:=(N4 Q4 P w K mg base ["self",ln] qual (g6 st) fI cdv A outer s H E).nox) (C:=C) (fI:=fI) (np:=np) (apos:=apos) (pos:=pos) (pl:=pl) U EI.ok hg (U1 v0 (U1 htx a3Y)) hdb rfl rfl ht
 have s1:=a6v (pos:=pos') e1
 have s2:=b1B (X:=(N4 Q4 P w K mg base ["self",ln] qual (g6 st) fI cdv A outer s H E).nox) (i:=0) (p1:=p3) (p2:=p4) (pos:=pos2) EI v1 rfl hse (by decide) (by decide) rfl
 rw [hb]
 refine ⟨_,a45 s1 (a4e s2),?_⟩
 obtain ⟨d,ρ',hd⟩:=hev n n1 n2
 refine ⟨.ref a,rfl,_,_,a8p,_,hd,fun v G' H' sg R' rw'=>?_⟩
 have hH':H' a=some (.ext (exI a C none)):=R'.keep a _ hH
 exact ⟨a,v,rfl,hH',.int n,rfl,a,n,rfl,rfl,hH',fun dx h1 h2=>q H' dx R'.keep R'.dom h1 h2⟩
end
end L3
set_option Elab.async false
set_option linter.all false
set_option maxRecDepth 100000
set_option maxHeartbeats 4000000
namespace L3
open PySem PySem.Spec PyProof.Rows L2
noncomputable def U8 (c f:Str)(mr:M (List W)):SM:=fun ρ=>match mr ρ with
 | none=>none
 | some (.ex x ρ')=>some (.ex x ρ')
 | some (.ok ws ρ')=>match F7 ws ρ' with
  | some [.int n]=>S4 (0≤n∧n≤1000) (some (.ex ⟨c,[(f,.int n)]⟩ ρ'))
  | _=>none
theorem RS.more {B:Bs}{G H H':Hp}{σ:St}{ρ:i9}(R:RS B G H σ ρ)(s:d8 H H'):RS B G H' σ ρ:=by
 refine ⟨R.hk,R.keep.trans s,R.g0,R.gH.trans s,R.gnew,fun b q=>R.dom b ?_,R.len,R.sh,fun k l e q=>?_,R.inj,R.fz,R.ob.gh (d8.refl _) (fun _ _ _ _ _ g=>g) fun p C dx fs e _ _=>s p _ e⟩
 ·cases z:H b with
  | none=>rfl
  | some o=>rw [s b o z] at q; cases q
 ·obtain ⟨p,c1,c2,c3,c4,c5⟩:=R.ow k l e q
  obtain ⟨o,ho⟩:=c5.some
  exact ⟨p,c1,c2,c3,c4,c5.same (d8.refl _) ((s p o ho).trans ho.symm)⟩
noncomputable def b3B (P:Program)(w:World)(K:PySem.W.Frag)(mg:Str→Option Value)(base:Heap)(k:Nat)(fI C:Addr)(f ln:Str):Prop:=∃ fd:FuncData,A0 P w K mg base Q4 k fI fd ["self",ln] (spE C f)∧Binds K fd ["self",ln] []∧PySem.W.isFn K (.ref fI)=true∧∃ oc od dt sl,K.lookup fI=some ⟨oc,od,dt,sl⟩∧oc=.type "function"
section
variable {X:Cx}{B:Bs}{x f ln:Str}{C C1 fI:Addr}{k:Nat}{e:Expr}{mr:M (List W)}{np cpos pos:Pos}
theorem a2s (EI:a1e X.K X.mg x C C1 fI f)(hI:b3B X.prog X.w X.K X.mg X.base k fI C f ln)(hr:C4 (k + 1) X.A)(ha:PDA X B [e] mr)(F:Q2 X:=by exact ⟨rfl,rfl,rfl,rfl⟩)(hc:X.calm=true:=by rfl)(hg:Gl X x:=by rfl)(hdb:(x == ("__debug__":Str))=false:=by decide)
  (he:backTo cpos (starEach [e] X.env)=[(false,eval e X.env)]:=by rfl) (hpl:(backTo cpos (starEach [e] X.env)).any (·.1)=false:=by rfl):PSD X B (.Raise (some (.Call (.Name x np) [e] [] cpos)) none pos) (U8 x f mr):=.mk fun ξ=>by
 intro pins s σ H Dn I hS
 obtain ⟨G,ρ,R,r,er,p⟩:=hS
 have t:TD F1 B ξ mr σ H (fun vs H'=>∃ n,vs=[.int n]∧0≤n∧n≤1000∧∀ H4,d8 H' H4→ξ ⟨x,[(f,.int n)]⟩ σ H4):=by
  unfold U8 at er
  cases hm:mr ρ with
  | none=>rw [hm] at er; cases er
  | some r1=>
   rw [hm] at er
   refine ⟨G,ρ,R,r1,hm,?_⟩
   cases r1 with
   | ex y ρ'=>cases er; exact fun G' H' s' R'=>p σ G' H' s' R'
   | ok ws ρ'=>
    simp only [] at er
    split at er
    ·rename_i n hn
     obtain ⟨⟨n1,n2⟩,er⟩:=j8 er
     cases er
     intro v G' H' s' R' q
     have q2:a3k B.K G' H' v [.int n]:=S5 R' q hn
     obtain ⟨y,rfl,hy⟩:=B7 q2
     exact ⟨n,by rw [hy.int],n1,n2,fun H4 s4=>p σ G' H4 s' (R'.more s4)⟩
    ·cases er
 obtain ⟨bm,ob⟩:=a0z (I.ok.mod.kin) EI.ok
 obtain ⟨nm,qn,N,bs,hd,sn,sub,ab,col,dd,k0,k1,k2,k3,k5,mN,a1,a2,a3,a4⟩:=ob.ex
 obtain ⟨fd,Fn,hb,hfn,oc,od,dt,sl,lk,hoc⟩:=hI
 refine a5u (oI:=⟨oc,od,dt,sl⟩) (nm:=nm) (q:=qn) (C:=C) (N:=N) (bs:=bs) (hdct:=hd) (sn:=sn) (sub:=sub) (ab:=ab) (col:=col) (dd:=dd) (k0:=k0) (k1:=k1) (k2:=k2) (k3:=k3) (k5:=k5) PySem.F.excBase_ValueError (a4.hasType a4S) (I.ok.hd hc) hpl a3 hoc ?_
 refine Z8 I hg EI.mg ⟨rfl,?_⟩ hdb
 have go:=(ha.ap ξ) cpos pins s σ H _ I t
 rw [he] at go ⊢
 refine Calls.evalArgs_plain (C7 go fun us s1 ⟨vs,H1,I1,rv,n,ev,n1,n2,q⟩=>?_)
 subst ev
 have I0:Inv X [] σ H1 s1:=I1.x6.M8 fun p hp=>absurd hp (by simp)
 have hul:us.length=1:=by rw [← rv.length]; rfl
 refine ⟨rfl,?_,I1.bk _ _ a1,a2.keeps I1.bk,I1.kIn _ _ lk,a4.keeps I1.bk,fun h' b hm=>?_⟩
 ·show us.length≤sizeLine
  rw [hul,sizeLine_eq]
  omega
 ·obtain ⟨t0,ht,_,_⟩:=hm.there
  have ob1:Off X H1 b:=a0Y I0 F hm.new
  have I2:Inv X [] σ H1 { s1 with heap:=h' }:=I0.kept hm.keeps
  have I3:Inv X [] σ (upd H1 b (.ext (exI b C none))) { s1 with heap:=h' }:=a2a I2 F ob1 fun _=>a6h ⟨t0,ht⟩
  have rb:Vals ([.ref b,.int n]:List V) (Value.ref b::us):=.cons rfl rv
  have hl:(Value.ref b::us++[]).length=(["self",ln]:List Str).length:=by simp [hul]
  have hsp:spE C f [.ref b,.int n] (upd H1 b (.ext (exI b C none))) (fun v H3=>v=.t6∧∃ H2 dx,d8 (upd H1 b (.ext (exI b C none))) H2∧H2 dx=none∧dx≠b∧H3=upd (upd H2 dx (.xd [(f,.int n)])) b (.ext (exI b C (some dx)))) E0:=
   ⟨b,n,rfl,n1,n2,l8,fun H2 dx z1 z2 z3 z4=>⟨rfl,H2,dx,z1,z3,z4,rfl⟩⟩
  have hbt:=hb _ (Value.ref b::us) I3.kIn hl
  rw [List.append_nil] at hbt
  refine wpAny_call (codeAny_mono (Fn.run _ X.stack _ _ ⟨Value.ref b::us,[]⟩ (Value.ref b::us) _ _ E0 (hr.make C us []) (I3.b2C.make C us []) hbt rb hsp) fun r s' hq=>?_)
  cases r with
  | error e=>exact hq.elim
  | ok fl=>
   cases fl with
   | ret u=>
    obtain ⟨v,H3,I4,rv3,ev3,H2,dx,w1,w2,w3,w4⟩:=I3.after hq
    subst ev3 w4
    have e4:upd (minus (upd H2 dx (.xd [(f,.int n)])) [b]) b (.ext (exI b C (some dx)))=upd (upd H2 dx (.xd [(f,.int n)])) b (.ext (exI b C (some dx))):=by
     funext c
     unfold upd minus
     split
     ·rfl
     ·rw [if_neg (by simpa using ‹¬ c=b›)]
    have hb4:(minus (upd H2 dx (.xd [(f,.int n)])) [b]) b=none:=a2G (by simp)
    rw [← e4] at I4
    obtain ⟨⟨t5,hx5⟩,_⟩:A4 X.prog X.w _ s'.heap b (.ext (exI b C (some dx))):=I4.hok b _ l8
    have I5:=a4H I4 F hb4
    have hdx:(minus (upd H2 dx (.xd [(f,.int n)])) [b]) dx=some (.xd [(f,.int n)]):=by rw [K8 (by simpa using w3),l8]
    have s4:d8 H1 (minus (upd H2 dx (.xd [(f,.int n)])) [b]):=fun c o ec=>by
     have cb:c≠b:=m7 ec ob1.free
     have z:=w1 c o (by rw [j3 cb]; exact ec)
     rw [K8 (by simpa using cb),j3 (m7 z w2)]
     exact z
    refine ⟨rv3,I5.bk _ _ a1,⟨some dx,t5,hx5⟩,⟨⟨x,[(f,.int n)]⟩,[],σ,_,I5,⟨b,.ref C,some dx,rfl,⟨C,rfl,EI.at_,.inr ⟨dx,f,n,rfl,rfl,hdx⟩⟩,⟨ob1.new,hb4,ob1.loc,ob1.cell⟩,.inl ⟨_,_,hx5,rfl,rfl,rfl,rfl⟩,F⟩,q _ s4⟩⟩
   | next=>exact hq.elim
   | brk=>exact hq.elim
   | cont=>exact hq.elim
end
end L3
set_option Elab.async false
set_option linter.all false
set_option maxRecDepth 100000
set_option maxHeartbeats 4000000
namespace L3
open PySem PySem.Spec PyProof.Rows L2
noncomputable def b5q (ta:TE)(C:Addr)(f:Str):TE:=fun σ H Q=>ta σ H fun x H1=>∃ a dx n,x=.ref a∧H1 a=some (.ext (a03 a C (some dx)))∧H1 dx=some (.xd [(f,.int n)])∧Q (.int n) H1
theorem b3l {X:Cx}{e:Expr}{ta:TE}{xn f:Str}{C C1 fI:Addr}{pos:Pos}(EI:a1e X.K X.mg xn C C1 fI f)(he:PE X e ta)(hb:attributeBase e f X.env (eval e X.env)=eval e X.env):PE X (.Attribute e f pos) (b5q ta C f):=by
 intro pins s σ H Q I h
 refine b1M hb (C7 (he pins s σ H _ I h) fun u s1 ⟨x,H1,I1,rx,a,dx,n,ex,ea,ed,q⟩=>?_)
 subst ex
 obtain rfl:u=Value.ref a:=rx
 obtain ⟨⟨oe,vs,ho,hc,hdc,hdt⟩,_⟩:A4 X.prog X.w H1 s1.heap a (.ext (a03 a C (some dx))):=I1.hok a _ ea
 obtain ⟨mA,hn,hr⟩:A4 X.prog X.w H1 s1.heap dx (.xd [(f,.int n)]):=I1.hok dx _ ed
 obtain ⟨cd,c1,c2,c3⟩:=EI.cd
 obtain ⟨oc,od,odt,osl⟩:=oe
 dsimp only at hc hdc hdt
 subst hc hdc hdt
 have hf:=hr f
 rw [List.lookup_cons_self] at hf
 obtain ⟨u',hu,ru⟩:=W6.some_of hf
 obtain ⟨hp,g,d,tk,os⟩:=s1
 refine PySem.W.b5D (C1:=C1) (cd:=cd) I1.kIn ho EI.ga EI.gt c1 c2 c3 EI.fld hn.ns hu (PySem.W.handedOut_of (a79 ru)) ?_
 exact ⟨.int n,H1,I1.tok _,ru,q⟩
section
variable {X:Cx}{cx en yn f:Str}{C C1 fI:Addr}{i j:Nat}{n:Int}{p1 p2 p3 p4 p5 p6 p7 p8 p9 p10 p11 p12 p13 p14 p15 p16:Pos}{k1}
theorem b2s (EI:a1e X.K X.mg cx C C1 fI f)(z1:X.mg "isinstance"=none) (z2:X.mg "ValueError"=none) (hN:X.N.Nodup)
  (hi:X.N[i]?=some en) (hj:X.N[j]?=some yn) (hni:X.env.scope.names.lookup en=some .local) (hnj:X.env.scope.names.lookup yn=some .local)
  (g1:Gl X "isinstance") (g2:Gl X "ValueError") (g3:Gl X cx) (hd1:(en == ("__debug__":Str))=false) (hd2:(cx == ("__debug__":Str))=false) (hd3:(en == ("__classdict__":Str))=false)
  (hat:∀ {env:Env},env=X.env→attributeBase (.Name en p12) f env (eval (.Name en p12) env)=eval (.Name en p12) env)
  (hs:∀ {env:Env},env=X.env→swapsWith (.IfExp (.BoolOp .And [.Call (.Name "isinstance" p1) [.Name en p2,.Name cx p3] [] p4,.Call (.Name "isinstance" p5) [.Name en p6,.Name "ValueError" p7] [] p8] p9) (.Attribute (.Name en p12) f p13) (.UnaryOp .USub (.Constant (.int 1) k1 p14) p15) p16) (some (.Name yn p10)) p11.line env=pure false) (a:Addr) (dc:Option Addr):
  PS ((hx X (.ref a)).t8 fun _ _=>False) (.Assign [.Name yn p10] (.IfExp (.BoolOp .And [.Call (.Name "isinstance" p1) [.Name en p2,.Name cx p3] [] p4,.Call (.Name "isinstance" p5) [.Name en p6,.Name "ValueError" p7] [] p8] p9) (.Attribute (.Name en p12) f p13) (.UnaryOp .USub (.Constant (.int 1) k1 p14) p15) p16) p11)
   (fun D σ H=>σ[i]?=some (some (.ref a))∧H a=some (.ext (a03 a C dc))∧a7y H [(f,.int n)] dc∧D.nx (σ.set j (some (.int n))) H):=by
 have e1:PE ((hx X (.ref a)).t8 fun _ _=>False) (.Call (.Name "isinstance" p1) [.Name en p2,.Name cx p3] [] p4) _:=a2m a3n g1 z1 PyProof.Rows.boot_isinstance (U1 (a0m hi (.inl hni) hd1 hd3) (U1 (a6x g3 EI.mg (v:=.ref C) rfl hd2) a3Y))
 have e2:PE ((hx X (.ref a)).t8 fun _ _=>False) (.Call (.Name "isinstance" p5) [.Name en p6,.Name "ValueError" p7] [] p8) _:=a2m a3n g1 z1 PyProof.Rows.boot_isinstance (U1 (a0m hi (.inl hni) hd1 hd3) (U1 (a6F g2 z2 (u:=.type "ValueError") (v:=.ty "ValueError") (by decide +kernel) rfl) a3Y))
 have e3:PE ((hx X (.ref a)).t8 fun _ _=>False) (.Attribute (.Name en p12) f p13) _:=b3l (X:=(hx X (.ref a)).t8 fun _ _=>False) EI (a0m hi (.inl hni) hd1 hd3) (hat rfl)
 have e4:PE ((hx X (.ref a)).t8 fun _ _=>False) (.UnaryOp .USub (.Constant (.int 1) k1 p14) p15) _:=b4Y b2x a9M
 have tt:=(a9X (a9p e1) (a6M (pos:=p9) (a9p e2))).pt
 refine (a8B (X:=(hx X (.ref a)).t8 fun _ _=>False) hN hj (.inl hnj) (a4M tt e3 e4) (hs rfl) (.inr hnj)).imp fun D σ H ⟨q1,q2,q3,q4⟩=>?_
 rcases q3 with ⟨z,_⟩ | ⟨dx,f',n',z,z2,z3⟩
 ·cases z
 ·cases z
  subst z2
  refine ⟨_,q1,⟨a,C,some dx,some (.ref fI),.ref C,rfl,q2,EI.ok,.inl rfl,true,rfl,?_⟩⟩
  dsimp only
  rw [if_pos rfl]
  refine ⟨_,q1,a,C,some dx,some (.ref fI),.ty "ValueError",rfl,q2,EI.ok,.inr rfl,true,rfl,?_⟩
  dsimp only
  rw [if_pos rfl]
  exact ⟨_,q1,a,dx,n,rfl,q2,z3,q4⟩
end
noncomputable def a73 (c f:Str):Exn→Option D:=fun x=>if x.cls=c then match x.fs with
 | [(g,.int n)]=>if g=f then some (.int n) else none
 | _=>none
 else none
theorem b0u {X:Cx}{K:PySem.W.Frag}{c f:Str}{C C1 Cc fI:Addr}{i j:Nat}{st:Stmt}{x:Exn}{d:D}(hv:a73 c f x=some d)(EI:a1e X.K X.mg c C C1 fI f)(hS:subIn X.K C Cc=true)
  (hps:∀ (n:Int) a dc,PS ((hx X (.ref a)).t8 fun _ _=>False) st (fun D σ H=>σ[i]?=some (some (.ref a))∧H a=some (.ext (a03 a C dc))∧a7y H [(f,.int n)] dc∧D.nx (σ.set j (some (.int n))) H)):
  ∃ C v iv,PySem.W.nsIn X.K mainGlobals x.cls=some (some (.ref C))∧a23 X.K C iv=true∧subIn X.K C Cc=true∧(∀ G,Rep K G v d)∧
   ∀ a dc,PS ((hx X (.ref a)).t8 fun _ _=>False) st (fun D σ H=>σ[i]?=some (some (.ref a))∧H a=some (.ext (a03 a C dc))∧a7y H x.fs dc∧D.nx (σ.set j (some v)) H):=by
 unfold a73 at hv
 split at hv
 ·rename_i e
  split at hv
  ·rename_i g n hfs
   split at hv
   ·rename_i eg
    cases hv
    subst eg
    exact ⟨C,.int n,some (.ref fI),by rw [e]; exact EI.at_,EI.ok,hS,fun _=>.int n,fun a dc=>by rw [hfs]; exact hps n a dc⟩
   ·cases hv
  ·cases hv
 ·cases hv
section
variable {mr:M (List W)}{ws:List W}{ρ ρ1:i9}{c f:Str}{n:Int}
theorem a01 (ha:mr ρ=some (.ok ws ρ1))(hd:F7 ws ρ1=some [.int n])(h1:0≤n)(h2:n≤1000):U8 c f mr ρ=some (.ex ⟨c,[(f,.int n)]⟩ ρ1):=by
 unfold U8
 rw [ha]
 simp only [hd]
 exact k9 ⟨h1,h2⟩
theorem b1N:a73 c f ⟨c,[(f,.int n)]⟩=some (.int n):=by
 unfold a73
 rw [if_pos rfl]
 simp
end
theorem b1K {K:PySem.W.Frag}{h:Heap}{mg:Str→Option Value}{x f:Str}{C C1 fI:Addr}(X:K.In h)(G:h.Ns mainGlobals mg)(a:PySem.W.nsIn K mainGlobals x=some (some (.ref C)))(i:PySem.W.findIn K (.ref C) "__init__"=some (some (.ref fI))) (o:a23 K C (some (.ref fI))=true)
  (c:((PySem.W.clsIn K C).any fun cd=>cd.mro == PySem.W.G9 C C1 && cd.hasDict)=true) (s1:PySem.W.findIn K (.ref C) "__setattr__"=some (some (.builtin "object.__setattr__"))) (s2:PySem.W.findIn K (.ref C) "__getattribute__"=some (some (.builtin "BaseException.__getattribute__"))) (s3:PySem.W.findIn K (.ref C) "__getattr__"=some none) (s4:PySem.W.findIn K (.ref C) f=some none):a1e K mg x C C1 fI f:=
 ⟨a,PySem.W.mg_of X G a,o,c,s1,s2,s3,s4⟩
theorem b4y {A Z:List Nat}{n:Int}(h1:0≤n)(h2:n≤1000)(hA:A.length≤1000)(hZ:Z.length≤1000):∃ d ρ',a8u (U5 (mC (.str A)) (U5 (a7X (d7 1)) (U5 (mC (.str Z)) a6V))) [none,some (.sh (.int n))]=some (.ok (.val d) ρ'):=by
 have hl:n.natAbs.log2 < 1920:=by
  by_cases z:n.natAbs=0
  ·rw [z]; decide
  ·exact (Nat.log2_lt z).mpr (Nat.lt_of_le_of_lt (show n.natAbs≤1000 by omega) (Nat.lt_of_lt_of_le (by decide:1000 < 2 ^ 10) (Nat.pow_le_pow_right (by decide) (by decide))))
 have ht:=Wd.a5x (n:=n) (k:=4) (by decide) (by omega)
 have e1:a7X (d7 1) [none,some (.sh (.int n))]=some (.ok (.val (.str (Wd.n6 n))) [none,some (.sh (.int n))]):=by
  show S4 (n.natAbs.log2 < 1920) _=_
  exact k9 hl
 have z1:small ([]++A).length:=by show _≤1000000; simp; omega
 have z2:small (([]++A)++Wd.n6 n).length:=by show _≤1000000; simp; omega
 have z3:small ((([]++A)++Wd.n6 n)++Z).length:=by show _≤1000000; simp; omega
 refine ⟨.str ((([]++A)++Wd.n6 n)++Z),[none,some (.sh (.int n))],?_⟩
 show S4 (small ([]++A).length) (U5 (a7X (d7 1)) (U5 (mC (.str Z)) a6V) ([]++A) [none,some (.sh (.int n))])=_
 rw [k9 z1]
 show M.bind (a7X (d7 1)) _ _=_
 rw [M.f9 e1]
 show S4 (small (([]++A)++Wd.n6 n).length) (S4 (small ((([]++A)++Wd.n6 n)++Z).length) (S4 (small ((([]++A)++Wd.n6 n)++Z).length) (some (R'.ok (W.val (D.str ((([]++A)++Wd.n6 n)++Z))) [none,some (C.sh (.int n))]))))=_
 rw [k9 z2,k9 z3,k9 z3]
noncomputable def b1D (K:PySem.W.Frag)(fI:Addr)(qual:Str)(st:Stmt)(ln:Str):Prop:=∃ fd:FuncData,Fun K "__init__" qual st fI fd∧(∀ us:List Value,us.length=2→bindArgs fd ⟨us,[]⟩=pure ((["self",ln]:List Str).zip us))∧PySem.W.isFn K (.ref fI)=true∧∃ oc od dt sl,K.lookup fI=some ⟨oc,od,dt,sl⟩∧oc=.type "function"
theorem b0s {K:PySem.W.Frag}{qual ln:Str}{st:Stmt}{fI:Addr}{od an:Option Addr}{sl:Array (Option Value)}{oc kV dc pm cd ct:Value}
  (l:K.lookup fI=some ⟨oc,od,.func (PySem.W.fnOf "__init__" qual (Q5 st) (D0 st) (g6 st) .none kV dc pm an cd ct),sl⟩) (c:PySem.W.codeIn K cd qual=true) (k:PySem.W.keepIn K (.ref fI)=true) (n:PySem.W.isFn K (.ref fI)=true) (hoc:oc=.type "function")
  (b:∀ (kV doc pm:Value) (an:Option Addr) (cdv ct:Value) (us:List Value),us.length=2→bindArgs (PySem.W.fnOf "__init__" qual (Q5 st) (D0 st) (g6 st) .none kV doc pm an cdv ct) ⟨us,[]⟩=pure ((["self",ln]:List Str).zip us)):b1D K fI qual st ln:=
 ⟨_,a9V (st:=st) l c k,fun us hl=>b kV dc pm an cd ct us hl,n,oc,od,_,sl,l,hoc⟩
theorem b1D.has {P:Program}{w:World}{K:PySem.W.Frag}{mg:Str→Option Value}{base:Heap}{k:Nat}{fI C:Addr}{f qual ln:Str}{st:Stmt}(D:b1D K fI qual st ln)(h:∀ fd,Fun K "__init__" qual st fI fd→A0 P w K mg base Q4 k fI fd ["self",ln] (spE C f)):b3B P w K mg base k fI C f ln:=by
 obtain ⟨fd,F,b,n,z⟩:=D
 exact ⟨fd,h fd F,Binds.all b,n,z⟩
end L3
set_option Elab.async false
set_option linter.all false
set_option maxRecDepth 100000
set_option maxHeartbeats 4000000
namespace Wd
open PySem
theorem b3n {ch:Char}(h:ch.isDigit=true):K3 ch.toNat=true:=by
 unfold K3
 unfold Char.isDigit at h
 simp only [Bool.and_eq_true,decide_eq_true_eq] at h ⊢
 exact ⟨h.1,h.2⟩
theorem a2W (m:Nat):(J2 m).all K3=true:=by
 refine List.all_eq_true.mpr fun c hc=>?_
 obtain ⟨ch,hch,e⟩:=List.mem_map.mp hc
 rw [← e]
 exact b3n (Nat.isDigit_of_mem_toDigits (by decide) (by decide) hch)
theorem a7o (g:List Nat)(c:Nat):val (g++[c])=val g * 10 + (c - 48):=by
 unfold val
 rw [List.foldl_append]
 rfl
theorem digit_back:∀ d:Nat,d < 10→(Nat.digitChar d).toNat - 48=d:=by decide
theorem a3m (m:Nat)(h:¬ m < 10):J2 m=J2 (m / 10)++[(Nat.digitChar (m % 10)).toNat]:=by
 have hm:m % 10 < 10:=Nat.mod_lt m (by decide)
 have t:Nat.toDigits 10 (m / 10)++Nat.toDigits 10 (m % 10)=Nat.toDigits 10 (10 * (m / 10) + m % 10):=Nat.toDigits_append_toDigits (by decide) (by omega) hm
 rw [Nat.div_add_mod] at t
 unfold J2
 rw [← t,List.map_append,Nat.toDigits_of_lt_base hm]
 rfl
theorem a2I (m:Nat)(h:m < 10):J2 m=[(Nat.digitChar m).toNat]:=by
 unfold J2
 rw [Nat.toDigits_of_lt_base h]
 rfl
theorem a5y (m:Nat):val (J2 m)=m:=by
 induction m using Nat.strongRecOn with
 | _ m ih=>
  by_cases h:m < 10
  ·rw [a2I m h]
   have e:=digit_back m h
   show 0 * 10 + ((Nat.digitChar m).toNat - 48)=m
   omega
  ·rw [a3m m h,a7o,ih (m / 10) (by omega),digit_back (m % 10) (Nat.mod_lt m (by decide))]
   omega
theorem a9y:∀ d:Nat,d < 10→d≠0→(Nat.digitChar d).toNat≠48:=by decide
theorem a7T (m:Nat)(h0:m≠0):(J2 m).head?≠some 48:=by
 induction m using Nat.strongRecOn with
 | _ m ih=>
  by_cases h:m < 10
  ·rw [a2I m h]
   intro e
   have e':(Nat.digitChar m).toNat=48:=by simpa using e
   exact a9y m h h0 e'
  ·rw [a3m m h]
   have q:=ih (m / 10) (by omega) (by omega)
   intro e
   have hp:=a5j (m / 10)
   cases hd:J2 (m / 10) with
   | nil=>rw [hd] at hp; simp at hp
   | cons a r=>
    rw [hd] at e q
    exact q (by simpa using e)
theorem a7s:J2 0=[48]:=by decide
theorem b1z {m:Nat}(h0:m≠0)(h:m < 10 ^ 9):B3 (J2 m)=true:=by
 unfold B3
 have a:=a5j m
 have b:=a4R (k:=9) (by decide) h
 have c:=a7T m h0
 rw [decide_eq_true a,decide_eq_true b,decide_eq_false c,a2W]
 rfl
theorem a3W {m:Nat}:(J2 m).head?≠some 45:=by
 have a:=a2W m
 cases hd:J2 m with
 | nil=>simp
 | cons c r=>
  rw [hd] at a
  intro e
  have e':c=45:=by simpa using e
  subst e'
  simp [K3] at a
theorem a4v {n:Int}(h:n.natAbs < 10 ^ 9):k7 (n6 n)=some n:=by
 by_cases h0:n=0
 ·subst h0
  have e:n6 0=[48]:=by
   show (if (0:Int) < 0 then _ else J2 0)=_
   rw [if_neg (by decide),a7s]
  rw [e]
  rfl
 ·have hm:n.natAbs≠0:=by omega
  have hf:=b1z hm h
  by_cases hn:n < 0
  ·have e:n6 n=45::J2 n.natAbs:=if_pos hn
   rw [e]
   unfold k7
   rw [if_neg (by intro z; simp at z),if_pos (show (45::J2 n.natAbs).head?=some 45 from rfl)]
   show (if B3 (J2 n.natAbs)=true then some (-((val (J2 n.natAbs):Nat):Int)) else none)=_
   rw [if_pos hf,a5y]
   congr 1
   omega
  ·have e:n6 n=J2 n.natAbs:=if_neg hn
   rw [e]
   unfold k7
   rw [if_neg (fun z=>by
    have q:=(N6 hf).2.2.1
    rw [z] at q
    exact q rfl),if_neg a3W,if_pos hf,a5y]
   congr 1
   omega
theorem b2J {c d:Nat}(h:K3 c=true)(hd:d < 45):c≠d:=by
 unfold K3 at h
 simp only [Bool.and_eq_true,decide_eq_true_eq] at h
 omega
theorem a07 {n:Int}{d:Nat}(hd:d < 45):∀ x∈n6 n,x≠d:=by
 intro x hx
 have dec:∀ m,x∈J2 m→x≠d:=fun m hm=>b2J (List.all_eq_true.mp (a2W m) x hm) hd
 unfold n6 at hx
 split at hx
 ·rcases List.mem_cons.mp hx with rfl | hx
  ·omega
  ·exact dec _ hx
 ·exact dec _ hx
noncomputable def isLit (v:Int):Option Int→Bool
 | some n=>decide (1≤(n.natAbs:Int)) && decide ((n.natAbs:Int)≤v)
 | none=>false
noncomputable def B9:List Nat:=[102,111,114,109,117,108,97]
noncomputable def within (n:Option Int)(most:Int):Bool:=match n with | some k=>decide (0≤k) && decide (k≤most) | none=>false
noncomputable def O3 (line:List Nat):Option (Int×Int):=
 match i8 32 line with
 | [w0,w1,w2]=>if w0=B9 then (if within (k7 w1) 12 && within (k7 w2) 60 then some ((k7 w1).getD 0,(k7 w2).getD 0) else none) else none
 | _=>none
noncomputable def t9 (line:List Nat)(v:Int):Option (List Int):=
 if (i8 32 line).getLast?=some [48] then
  (if ((i8 32 line).dropLast.map k7).all (isLit v) then some (((i8 32 line).dropLast.map k7).map fun o=>o.getD 0) else none)
 else none
noncomputable def n5 (v:Int):List (List Nat)→Sum Nat (List (List Int))
 | []=>.inr []
 | l::r=>match t9 l v with
  | none=>.inl 0
  | some c=>match n5 v r with
   | .inl k=>.inl (k + 1)
   | .inr cs=>.inr (c::cs)
noncomputable def readM (t:List Nat):Sum Int (Int×List (List Int)):=
 match (i8 10 t).dropLast with
 | []=>.inl 1
 | l0::more=>match O3 l0 with
  | none=>.inl 1
  | some (v,n)=>match n5 v (more.take n.toNat) with
   | .inl k=>.inl ((k:Int) + 2)
   | .inr cs=>if (((l0::more).length:Int)≠n + 1)∨¬ (i8 10 t).getLast?=some [] then .inl ((cs.length:Int) + 2) else .inr (v,cs)
noncomputable def f6 (c:List Int):List Nat:=x9 [32] (c.map n6++[[48]])
noncomputable def l6 (v n:Int):List Nat:=B9++(32::(n6 v++(32::n6 n)))
noncomputable def a2p (v:Int)(cs:List (List Int)):List Nat:=((l6 v cs.length::cs.map f6).map fun l=>l++[10]).flatten
theorem a8E {c:List Int}:∀ p∈c.map n6++[[48]],∀ x∈p,x≠32:=by
 intro p hp x hx
 rcases List.mem_append.mp hp with hp | hp
 ·obtain ⟨n,_,rfl⟩:=List.mem_map.mp hp
  exact a07 (by decide) x hx
 ·have e:p=[48]:=List.mem_singleton.mp hp
  subst e
  have e2:x=48:=List.mem_singleton.mp hx
  omega
theorem a7q {sep:List Nat}:∀ {ps:List (List Nat)} {x:Nat},x∈x9 sep ps→x∈sep∨∃ p∈ps,x∈p
 | [],x,h=>by simp [x9] at h
 | p::r,x,h=>by
  have h':x∈p++(r.map fun q=>sep++q).flatten:=h
  rcases List.mem_append.mp h' with h' | h'
  ·exact .inr ⟨p,List.mem_cons_self,h'⟩
  ·obtain ⟨l,hl,hx⟩:=List.mem_flatten.mp h'
   obtain ⟨q,hq,rfl⟩:=List.mem_map.mp hl
   rcases List.mem_append.mp hx with hx | hx
   ·exact .inl hx
   ·exact .inr ⟨q,List.mem_cons_of_mem _ hq,hx⟩
theorem D6 (c:List Int):∀ x∈f6 c,x≠10:=by
 intro x hx
 rcases a7q hx with h | ⟨p,hp,h⟩
 ·have e:x=32:=List.mem_singleton.mp h
  omega
 ·rcases List.mem_append.mp hp with hp | hp
  ·obtain ⟨n,_,rfl⟩:=List.mem_map.mp hp
   exact a07 (by decide) x h
  ·have e:p=[48]:=List.mem_singleton.mp hp
   subst e
   have e2:x=48:=List.mem_singleton.mp h
   omega
theorem Q3 (v n:Int):∀ x∈l6 v n,x≠10:=by
 intro x hx
 unfold l6 at hx
 rcases List.mem_append.mp hx with h | h
 ·unfold B9 at h
  simp at h
  omega
 ·rcases List.mem_cons.mp h with h | h
  ·omega
  ·rcases List.mem_append.mp h with h | h
   ·exact a07 (by decide) x h
   ·rcases List.mem_cons.mp h with h | h
    ·omega
    ·exact a07 (by decide) x h
theorem a6d (v n:Int):i8 32 (l6 v n)=[B9,n6 v,n6 n]:=by
 unfold l6
 rw [K5 _ (by unfold B9; intro x hx; simp at hx; omega),K5 _ (a07 (by decide)),V2 (a07 (by decide))]
theorem a4k (c:List Int):i8 32 (f6 c)=c.map n6++[[48]]:=a0s (by simp) a8E
noncomputable def W7 (v:Int)(c:List Int):Prop:=∀ n∈c,1≤(n.natAbs:Int)∧(n.natAbs:Int)≤v
theorem a1r {v:Int}{c:List Int}(hv:v≤100)(h:W7 v c):t9 (f6 c) v=some c:=by
 unfold t9
 rw [a4k]
 have e1:(c.map n6++[[48]]).getLast?=some [48]:=by simp
 have e2:(c.map n6++[[48]]).dropLast=c.map n6:=by simp
 rw [if_pos e1,e2,List.map_map]
 have e3:c.map (k7 ∘ n6)=c.map some:=List.map_congr_left fun n hn=>a4v (by have:=h n hn; omega)
 rw [e3]
 have e4:(c.map some).all (isLit v)=true:=List.all_eq_true.mpr fun o ho=>by
  obtain ⟨n,hn,rfl⟩:=List.mem_map.mp ho
  obtain ⟨a,b⟩:=h n hn
  show (decide _ && decide _)=true
  rw [decide_eq_true a,decide_eq_true b]
  rfl
 rw [if_pos e4,List.map_map]
 congr 1
 have e5:c.map ((fun o=>o.getD 0) ∘ some)=c.map id:=List.map_congr_left fun n _=>rfl
 rw [e5,List.map_id]
theorem a1c {v n:Int}(h1:0≤v)(h2:v≤12)(h3:0≤n)(h4:n≤60):O3 (l6 v n)=some (v,n):=by
 unfold O3
 rw [a6d]
 have e1:k7 (n6 v)=some v:=a4v (by omega)
 have e2:k7 (n6 n)=some n:=a4v (by omega)
 show (if B9=B9 then _ else _)=_
 rw [if_pos rfl,e1,e2]
 have e3:within (some v) 12=true:=by show (decide _ && decide _)=true; rw [decide_eq_true h1,decide_eq_true h2]; rfl
 have e4:within (some n) 60=true:=by show (decide _ && decide _)=true; rw [decide_eq_true h3,decide_eq_true h4]; rfl
 rw [e3,e4]
 rfl
theorem V1 {v:Int}(hv:v≤100):∀ {cs:List (List Int)},(∀ c∈cs,W7 v c)→n5 v (cs.map f6)=.inr cs
 | [],_=>rfl
 | c::r,h=>by
  show (match t9 (f6 c) v with | none=>Sum.inl 0 | some c=>match n5 v (r.map f6) with | .inl k=>.inl (k + 1) | .inr cs=>.inr (c::cs))=_
  rw [a1r hv (h c List.mem_cons_self),V1 hv fun x hx=>h x (List.mem_cons_of_mem _ hx)]
theorem O4:∀ {ls:List (List Nat)},(∀ l∈ls,∀ x∈l,x≠10)→i8 10 ((ls.map fun l=>l++[10]).flatten)=ls++[[]]
 | [],_=>rfl
 | l::r,h=>by
  have e:((l::r).map fun l=>l++[10]).flatten=l++10::(r.map fun l=>l++[10]).flatten:=by simp
  rw [e,K5 _ (h l List.mem_cons_self),O4 fun x hx=>h x (List.mem_cons_of_mem _ hx)]
  rfl
theorem a4r {v:Int}{cs:List (List Int)}(h1:0≤v)(h2:v≤12)(h3:cs.length≤60)(h:∀ c∈cs,W7 v c):readM (a2p v cs)=.inr (v,cs):=by
 have hs:i8 10 (a2p v cs)=(l6 v cs.length::cs.map f6)++[[]]:=O4 fun l hl=>by
  rcases List.mem_cons.mp hl with rfl | hl
  ·exact Q3 _ _
  ·obtain ⟨c,_,rfl⟩:=List.mem_map.mp hl
   exact D6 c
 unfold readM
 rw [hs,List.dropLast_concat]
 simp only [a1c h1 h2 (show (0:Int)≤(cs.length:Int) by omega) (show (cs.length:Int)≤60 by omega)]
 have e1:(cs.map f6).take (cs.length:Int).toNat=cs.map f6:=List.take_of_length_le (by simp)
 simp only [e1,V1 (show v≤100 by omega) h]
 have e2:¬ (((l6 v cs.length::cs.map f6).length:Int)≠(cs.length:Int) + 1∨¬ ((l6 v cs.length::cs.map f6)++[[]]).getLast?=some []):=by
  intro z
  rcases z with z | z
  ·apply z
   simp
  ·exact z List.getLast?_concat
 rw [if_neg e2]
end Wd
set_option Elab.async false
set_option linter.all false
set_option maxRecDepth 100000
set_option maxHeartbeats 4000000
namespace K03
open PySem L2 L3
noncomputable def top (i:Nat):Stmt:=PySem.Challenge.pw_clausekeep_k03_formulas_refused.main.body.getD i (.Pass ⟨0,0,0,0⟩)
noncomputable abbrev C2:Stmt:=inClass (top 2) 0
theorem W3:n8 ["self","line"] ["self","line"] (g6 C2):=⟨rfl,rfl,rfl,by decide +kernel,rfl,by decide +kernel,by decide +kernel⟩
noncomputable abbrev W8:Stmt:=top 6
theorem a0P:n8 ["word","figures"] ["word"] (g6 W8):=⟨rfl,rfl,rfl,by decide +kernel,rfl,by decide +kernel,by decide +kernel⟩
noncomputable abbrev R8:Stmt:=top 7
theorem W9:n8 ["signs"] ["signs"] (g6 R8):=⟨rfl,rfl,rfl,by decide +kernel,rfl,by decide +kernel,by decide +kernel⟩
noncomputable abbrev a54:Stmt:=top 11
theorem a6K:n8 ["text","lines","rest","head","variables","last","clauses","line","clause"] ["text"] (g6 a54):=⟨rfl,rfl,rfl,by decide +kernel,rfl,by decide +kernel,by decide +kernel⟩
noncomputable abbrev a1n:Stmt:=top 12
theorem a2t:n8 ["line","words","variables","count"] ["line"] (g6 a1n):=⟨rfl,rfl,rfl,by decide +kernel,rfl,by decide +kernel,by decide +kernel⟩
noncomputable abbrev Y5:Stmt:=top 13
theorem a0X:n8 ["number","most"] ["number","most"] (g6 Y5):=⟨rfl,rfl,rfl,by decide +kernel,rfl,by decide +kernel,by decide +kernel⟩
noncomputable abbrev X8:Stmt:=top 14
theorem a0L:n8 ["line","variables","words","literals"] ["line","variables"] (g6 X8):=⟨rfl,rfl,rfl,by decide +kernel,rfl,by decide +kernel,by decide +kernel⟩
noncomputable abbrev V3:Stmt:=top 15
theorem a0f:n8 ["number","variables"] ["number","variables"] (g6 V3):=⟨rfl,rfl,rfl,by decide +kernel,rfl,by decide +kernel,by decide +kernel⟩
noncomputable abbrev a0l:Stmt:=top 17
theorem a1t:n8 ["_law_script","_law_k"] ["_law_script","_law_k"] (g6 a0l):=⟨rfl,rfl,rfl,by decide +kernel,rfl,by decide +kernel,by decide +kernel⟩
noncomputable abbrev a02:Stmt:=top 18
theorem a1X:n8 ["_law_script","_law_k","_law_number"] ["_law_script","_law_k"] (g6 a02):=⟨rfl,rfl,rfl,by decide +kernel,rfl,by decide +kernel,by decide +kernel⟩
noncomputable abbrev Z1:Stmt:=top 19
theorem a0F:n8 ["_law_found"] ["_law_found"] (g6 Z1):=⟨rfl,rfl,rfl,by decide +kernel,rfl,by decide +kernel,by decide +kernel⟩
noncomputable abbrev T9:Stmt:=top 21
theorem a0e:n8 ["_law_script","_law_base","_law_variables","_law_most","_law_number","_law_size","_law_found","_law_k","_law_part"] ["_law_script","_law_base","_law_variables","_law_most"] (g6 T9):=⟨rfl,rfl,rfl,by decide +kernel,rfl,by decide +kernel,by decide +kernel⟩
noncomputable abbrev S1:Stmt:=top 22
theorem Y0:n8 ["_law_script","_law_base","_law_variables","_law_many"] ["_law_script","_law_base"] (g6 S1):=⟨rfl,rfl,rfl,by decide +kernel,rfl,by decide +kernel,by decide +kernel⟩
noncomputable abbrev U0:Stmt:=top 24
theorem a0j:n8 ["_law_script","_law_lines","_law_variables","_law_way","_law_at","_law_many","_law_some"] ["_law_script","_law_lines","_law_variables"] (g6 U0):=⟨rfl,rfl,rfl,by decide +kernel,rfl,by decide +kernel,by decide +kernel⟩
noncomputable abbrev a9h:Stmt:=top 25
theorem a9S:n8 ["_law_script","_law_formula_here","_law_lines","_law_clause_here","_law_made_here","_law_found","e"] ["_law_script"] (g6 a9h):=⟨rfl,rfl,rfl,by decide +kernel,rfl,by decide +kernel,by decide +kernel⟩
noncomputable def a4I:D→Bool
 | .int _=>true
 | _=>false
noncomputable def b32:D→Bool
 | .ty _=>false
 | _=>true
noncomputable def P9:List D→Option FR
 | [.lst ds,.int k]=>(intsOf ds).map fun ns=>.ret (.val (.int (a0R ns k))) []
 | _=>none
noncomputable def j9:List D→Option FR
 | [.lst ds,.int k]=>(intsOf ds).map fun ns=>.ret (.val (.int (B4 ns k))) []
 | _=>none
noncomputable def F6:List D→Option FR
 | [d]=>S4 (b32 d=true) (some (.ret (.val (.bl (a4I d))) []))
 | _=>none
noncomputable def a3a (p v:Int):Int:=(1 + p / 2 % v) * (1 - 2 * (p % 2))
noncomputable def sizeV (n most:Int):Int:=if n % 6=0 then 1 else if n % 6=1 then 2 else if n % 6=2 then 3 else if n % 6=3 then 2 else if n % 6=4 then 3 else n / 6 % (most + 1)
noncomputable def A6 (ns:List Int)(b v most:Int):List Int:=(List.range (sizeV (B4 ns b) most).toNat).map fun (k:Nat)=>a3a (B4 ns (b + 1 + (k:Int))) v
noncomputable def D8:List D→Option FR
 | [.lst ds,.int b,.int v,.int most]=>(intsOf ds).bind fun ns=>S4 (0 < v∧v < 1000∧0≤most∧most < 1000) (some (.ret (.val (.tup ((A6 ns b v most).map D.int))) []))
 | _=>none
noncomputable def A3 (cs:List (List Int)):List D:=cs.map fun c=>D.tup (c.map D.int)
noncomputable def z9 (ns:List Int)(b:Int):Int×List (List Int):=(1 + B4 ns b % 4,(List.range (B4 ns (b + 1) % 9).toNat).map fun (k:Nat)=>A6 ns (b + 2 + 5 * (k:Int)) (1 + B4 ns b % 4) 4)
noncomputable def C5:List D→Option FR
 | [.lst ds,.int b]=>(intsOf ds).map fun ns=>.ret (.val (.tup [.int (z9 ns b).1,.lst (A3 (z9 ns b).2)])) []
 | _=>none
noncomputable def N2:Option Int→D
 | none=>.t6
 | some i=>.int i
noncomputable def F4:List D→Option FR
 | [.str cs]=>S4 (small cs.length) (some (.ret (.val (.bl (Wd.B3 cs))) []))
 | _=>none
noncomputable def o4:List D→Option FR
 | [.str cs]=>S4 (small cs.length) (some (.ret (.val (N2 (Wd.k7 cs))) []))
 | _=>none
section
variable {P:Program}{w:World}{K:PySem.W.Frag}{mg:Str→Option Value}{base:Heap}{f:Addr}{fd:FuncData}
noncomputable abbrev a0W:SM:=(l9 (ifS (a0v (d7 0)) (retS (f7 M1 (d7 0) (f7 F2 (d7 1) (L6 E9 (c6 (d7 0) g8))))) nxS)
 (retS (mC (.int 0))))
theorem a4G (F:Fun K "_law_cell" "_law_cell" a0l f fd) (z_len:mg "len"=none):
  A0 P w K mg base Q4 1 f fd ["_law_script","_law_k"] (M7 K [false,false] (A5 a0W 2 [false,false])):=
 have nd:=a1t.nd
 V7 (k:=0) F a1t rfl (fun cdv A outer s H E H0 HK G0 L hr=>by
  have hu:=hu8 hr
  exact (j7 (a0b (a1C (dv 0)) (u5 (A9 (W2 hu (dv 0) (M5 (dv 1) (Q0 z_len (c7 (dv 0) g9)))))) M4)
   (u5 (A9 i7))))
noncomputable abbrev a1x:SM:=(l9 (m6 2 (f7 F2 (f7 l5 (k8 [false,false] P9 (c6 (d7 0) (c6 (d7 1) g8))) (f7 a1E (mC (.int 104729)) (f7 l5 (d7 1) (mC (.int 1))))) (mC (.int 4294967291))))
 (l9 (m6 2 (f7 F2 (f7 a1E (d7 2) (mC (.int 48271))) (mC (.int 4294967279))))
 (retS (f7 F2 (f7 l5 (f7 a1E (f7 a5V (d7 2) (mC (.int 64))) (mC (.int 69621))) (d7 2)) (mC (.int 4294967231))))))
theorem a5p (F:Fun K "_law_mix" "_law_mix" a02 f fd)
  (h_law_cell:Has P w K mg base 1 "_law_cell" ["_law_script","_law_k"] (M7 K [false,false] P9)):
  A0 P w K mg base Q4 2 f fd ["_law_script","_law_k"] (M7 K [false,false] (A5 a1x 3 [false,false])):=
 have nd:=a1X.nd
 V7 (k:=1) F a1X rfl (fun cdv A outer s H E H0 HK G0 L hr=>by
  have hu:=hu8 hr
  exact (j7 (x8 (i:=2) (M5 (n9 (v7 h_law_cell (hr.mono (by decide)) (c7 (dv 0) (c7 (dv 1) g9))) (a3F i7 (n9 (dv 1) i7))) i7) nd)
   (j7 (x8 (i:=2) (M5 (a3F (dv 2) i7) i7) nd)
   (u5 (A9 (M5 (n9 (a3F (a9v (dv 2) i7) i7) (dv 2)) i7))))))
noncomputable abbrev a0g:SM:=(retS (a1u (L6 b1i (c6 (d7 0) (c6 (mC (.ty "int")) g8))) (a6t (L6 b1i (c6 (d7 0) (c6 (mC (.ty "bool")) g8))))))
theorem a27 (F:Fun K "_law_whole" "_law_whole" Z1 f fd) (z_isinstance:mg "isinstance"=none) (z_int:mg "int"=none) (z_bool:mg "bool"=none):
  A0 P w K mg base Q4 1 f fd ["_law_found"] (M7 K [false] (A5 a0g 1 [false])):=
 have nd:=a0F.nd
 V7 (k:=0) F a0F rfl (fun cdv A outer s H E H0 HK G0 L hr=>by
  have hu:=hu8 hr
  exact (u5 (A9 (a65 (b1T z_isinstance (c7 (dv 0) (c7 (b4b z_int PyProof.Rows.boot_int) g9))) (a6Q (b4x (b1T z_isinstance (c7 (dv 0) (c7 (b4b z_bool PyProof.Rows.boot_bool) g9)))))))))
noncomputable abbrev a1H:SM:=(l9 (m6 8 (k8 [false,false] j9 (c6 (d7 0) (c6 (f7 l5 (f7 l5 (d7 1) (mC (.int 1))) (d7 7)) g8))))
 (P7 (N5 6 (c6 (f7 a1E (f7 l5 (mC (.int 1)) (f7 F2 (f7 a5V (d7 8) (mC (.int 2))) (d7 2))) (f7 a3f (mC (.int 1)) (f7 a1E (mC (.int 2)) (f7 F2 (d7 8) (mC (.int 2)))))) g8))))
noncomputable abbrev Y7:SM:=(l9 (m6 4 (k8 [false,false] j9 (c6 (d7 0) (c6 (d7 1) g8))))
 (l9 (m6 5 (f7 M1 (N3 (c6 (mC (.int 1)) (c6 (mC (.int 2)) (c6 (mC (.int 3)) (c6 (mC (.int 2)) (c6 (mC (.int 3)) (c6 (f7 F2 (f7 a5V (d7 4) (mC (.int 6))) (f7 l5 (d7 3) (mC (.int 1)))) g8))))))) (f7 F2 (d7 4) (mC (.int 6)))))
 (l9 (m6 6 (N3 g8))
 (l9 (a4Y (a75 ints1 (c6 (d7 5) g8)) (tgN 7) a1H)
 (retS (L6 a4z (c6 (d7 6) g8)))))))
theorem a2C (F:Fun K "_law_clause" "_law_clause" T9 f fd) (z_range:mg "range"=none) (z_tuple:mg "tuple"=none)
  (h_law_mix:Has P w K mg base 2 "_law_mix" ["_law_script","_law_k"] (M7 K [false,false] j9)):
  A0 P w K mg base Q4 3 f fd ["_law_script","_law_base","_law_variables","_law_most"] (M7 K [false,false,false,false] (A5 Y7 9 [false,false,false,false])):=
 have nd:=a0e.nd
 V7 (k:=2) F a0e rfl (fun cdv A outer s H E H0 HK G0 L hr=>by
  have hu:=hu8 hr
  exact (j7 (x8 (i:=4) (v7 h_law_mix (hr.mono (by decide)) (c7 (dv 0) (c7 (dv 1) g9))) nd)
   (j7 (x8 (i:=5) (W2 hu (O0 (c7 i7 (c7 i7 (c7 i7 (c7 i7 (c7 i7 (c7 (M5 (a9v (dv 4) i7) (n9 (dv 3) i7)) g9))))))) (M5 (dv 4) i7)) nd)
   (j7 (x8 (i:=6) (O0 g9) nd)
   (j7 (b0a (a4J z_range (c7 (dv 5) g9)) (a58 (i:=7) nd) (j7 (x8 (i:=8) (v7 h_law_mix (hr.mono (by decide)) (c7 (dv 0) (c7 (n9 (n9 (dv 1) i7) (dv 7)) g9))) nd)
   (u5 (a4n (a2O 6 (dv 6) (c7 (a3F (n9 i7 (M5 (a9v (dv 8) i7) (dv 2))) (a89 i7 (a3F i7 (M5 (dv 8) i7)))) g9))))))
   (u5 (A9 (a6I z_tuple (c7 (dv 6) g9)))))))))
noncomputable abbrev V5:SM:=(l9 (m6 2 (f7 l5 (mC (.int 1)) (f7 F2 (k8 [false,false] j9 (c6 (d7 0) (c6 (d7 1) g8))) (mC (.int 4)))))
 (l9 (m6 3 (f7 F2 (k8 [false,false] j9 (c6 (d7 0) (c6 (f7 l5 (d7 1) (mC (.int 1))) g8))) (mC (.int 9))))
 (retS (a2R (c6 (d7 2) (c6 (V6 (a75 ints1 (c6 (d7 3) g8)) (tgN 0) a0c (k8 [false,false,false,false] D8 (c6 (d7 1) (c6 (f7 l5 (f7 l5 (d7 2) (mC (.int 2))) (f7 a1E (mC (.int 5)) (d7 0))) (c6 (d7 3) (c6 (mC (.int 4)) g8))))) 1 [0,1,2]) g8))))))
theorem a1D (F:Fun K "_law_formula" "_law_formula" S1 f fd) (z_range:mg "range"=none)
  (h_law_mix:Has P w K mg base 2 "_law_mix" ["_law_script","_law_k"] (M7 K [false,false] j9))
  (h_law_clause:Has P w K mg base 3 "_law_clause" ["_law_script","_law_base","_law_variables","_law_most"] (M7 K [false,false,false,false] D8)):
  A0 P w K mg base Q4 4 f fd ["_law_script","_law_base"] (M7 K [false,false] (A5 V5 4 [false,false])):=
 have nd:=Y0.nd
 V7 (k:=3) F Y0 rfl (fun cdv A outer s H E H0 HK G0 L hr=>by
  have hu:=hu8 hr
  exact (j7 (x8 (i:=2) (n9 i7 (M5 (v7 h_law_mix (hr.mono (by decide)) (c7 (dv 0) (c7 (dv 1) g9))) i7)) nd)
   (j7 (x8 (i:=3) (M5 (v7 h_law_mix (hr.mono (by decide)) (c7 (dv 0) (c7 (n9 (dv 1) i7) g9))) i7) nd)
   (u5 (A9 (a1w (c7 (dv 2) (c7 (a4y (a9t [("_law_script",0),("_law_base",1),("_law_variables",2)] ⟨⟨rfl,rfl,.inl rfl⟩,⟨⟨rfl,rfl,.inl rfl⟩,⟨⟨rfl,rfl,.inl rfl⟩,trivial⟩⟩⟩) (a4J z_range (c7 (dv 3) g9)) (fun _ _ _ _ _ _ _ _ _=>a4K) (fun _ _ _ _ _ _ _ _ _=>(v7 h_law_clause (hr.mono (by decide)) (c7 (dv 1) (c7 (n9 (n9 (dv 2) i7) (a3F i7 (dv 0))) (c7 (dv 3) (c7 i7 g9))))))) g9))))))))
noncomputable abbrev V9:SM:=(l9 (ifS (mOr (A8 (f7 L5 (d7 0) (mC (.str [])))) (mOr (a0v (mMt "str" C3 (d7 0) (c6 (mC (.str [48])) g8))) (A8 (f7 (a2n fun i j=>decide (j < i)) (L6 E9 (c6 (d7 0) g8)) (mC (.int 9)))))) (retS (mC (.bl false))) nxS)
 (retS (L6 a7S (c6 (V6 (L8 (d7 0)) (tgN 0) a0c (f7 inD (d7 0) (mC (.str Wd.FIG.cps.toList))) 1 []) g8))))
theorem a1K (F:Fun K "are_figures" "are_figures" R8 f fd) (z_len:mg "len"=none) (z_all:mg "all"=none) (C_MOST_FIGURES:Cst mg "MOST_FIGURES" (.int 9)) (C_FIGURES:Cst mg "FIGURES" (.str Wd.FIG)):
  A0 P w K mg base Q4 1 f fd ["signs"] (M7 K [false] (A5 V9 1 [false])):=
 have nd:=W9.nd
 V7 (k:=0) F W9 rfl (fun cdv A outer s H E H0 HK G0 L hr=>by
  have hu:=hu8 hr
  exact (j7 (a0b ((w_or (a1s hu (dv 0) (j6 (cs:=[]) (by decide +kernel))) (w_or (a1C (a0I (dv 0) (c7 (j6 (cs:=[48]) (by decide +kernel)) g9))) (a66 (b4v (Q0 z_len (c7 (dv 0) g9)) (a62 C_MOST_FIGURES (fun _=>.int 9))))))).pt (u5 (A9 b5P)) M4)
   (u5 (A9 (b1Z rfl z_all (c7 (a4y (a9t [] trivial) (a3s (dv 0)) (fun _ _ _ _ _ _ _ _ _=>a4K) (fun _ _ _ _ _ _ _ _ _=>(b3X hu (dv 0) (a62 C_FIGURES (fun _=>a6s _))))) g9))))))
noncomputable abbrev a0d:SM:=(l9 (ifS (A8 (f7 L5 (d7 0) (mC (.str [48])))) (retS (mC (.int 0))) nxS)
 (l9 (m6 1 (a26 (a0v (mMt "str" C3 (d7 0) (c6 (mC (.str [45])) g8))) (mSl (d7 0) (P8 (mC (.int 1))) (M.pure none)) (d7 0)))
 (retS (a26 (a0v (k8 [false] F4 (c6 (d7 1) g8))) (L6 intD (c6 (d7 0) g8)) (mC .t6)))))
theorem a21 (F:Fun K "number_in" "number_in" W8 f fd) (z_int:mg "int"=none)
  (h_are_figures:Has P w K mg base 1 "are_figures" ["signs"] (M7 K [false] F4)):
  A0 P w K mg base Q4 2 f fd ["word"] (M7 K [false] (A5 a0d 2 [false])):=
 have nd:=a0P.nd
 V7 (k:=1) F a0P rfl (fun cdv A outer s H E H0 HK G0 L hr=>by
  have hu:=hu8 hr
  exact (j7 (a0b (a1s hu (dv 0) (j6 (cs:=[48]) (by decide +kernel))) (u5 (A9 i7)) M4)
   (j7 (x8 (i:=1) (a8Y (a1C (a0I (dv 0) (c7 (j6 (cs:=[45]) (by decide +kernel)) g9))) (a8h (dv 0) (a0p i7) a2U) (dv 0)) nd)
   (u5 (A9 (a8Y (a1C (v7 h_are_figures (hr.mono (by decide)) (c7 (dv 1) g9))) (b3p z_int (c7 (dv 0) g9)) a3t))))))
noncomputable abbrev R9:SM:=(retS (a1u (mUn (fun d=>vB (!G7 d)) (d7 0)) (a05 (a2n fun i j=>decide (i≤j)) (a2n fun i j=>decide (i≤j)) (mC (.int 0)) (d7 0) (d7 1))))
noncomputable def B0:List D→Option FR:=A5 R9 2 [false,false]
theorem a2v:∀ ds r,B0 ds=some r→A5 R9 2 [false,false] ds=some r:=fun _ _ h=>h
theorem a3c (F:Fun K "is_within" "is_within" Y5 f fd):
  A0 P w K mg base Q4 1 f fd ["number","most"] (M7 K [false,false] (A5 R9 2 [false,false])):=
 have nd:=a0X.nd
 V7 (k:=0) F a0X rfl (fun cdv A outer s H E H0 HK G0 L hr=>by
  have hu:=hu8 hr
  exact (u5 (A9 (a65 (a9U (dv 0)) (a6Q (a6C (fun _=>a6z) (fun _=>a6z) (a0H (fun i j=>decide (i≤j))) (a0H (fun i j=>decide (i≤j))) i7 (dv 0) (dv 1)))))))
noncomputable abbrev O1:SM:=(retS (a1u (mUn (fun d=>vB (!G7 d)) (d7 0)) (a05 (a2n fun i j=>decide (i≤j)) (a2n fun i j=>decide (i≤j)) (mC (.int 1)) (L6 b3j (c6 (d7 0) g8)) (d7 1))))
noncomputable def E4:List D→Option FR:=A5 O1 2 [false,false]
theorem a1L:∀ ds r,E4 ds=some r→A5 O1 2 [false,false] ds=some r:=fun _ _ h=>h
theorem a2Q (F:Fun K "is_literal" "is_literal" V3 f fd) (z_abs:mg "abs"=none):
  A0 P w K mg base Q4 1 f fd ["number","variables"] (M7 K [false,false] (A5 O1 2 [false,false])):=
 have nd:=a0f.nd
 V7 (k:=0) F a0f rfl (fun cdv A outer s H E H0 HK G0 L hr=>by
  have hu:=hu8 hr
  exact (u5 (A9 (a65 (a9U (dv 0)) (a6Q (a6C (fun _=>a6z) (fun _=>a6z) (a0H (fun i j=>decide (i≤j))) (a0H (fun i j=>decide (i≤j))) i7 (b4G z_abs (c7 (dv 0) g9)) (dv 1)))))))
noncomputable abbrev X3:SM:=(l9 (m6 1 (mMt "str" N9 (d7 0) (c6 (mC (.str [32])) g8)))
 (l9 (ifS (mOr (A8 (f7 X7 (L6 E9 (c6 (d7 1) g8)) (mC (.int 3)))) (A8 (f7 X7 (f7 M1 (d7 1) (mC (.int 0))) (mC (.str [102,111,114,109,117,108,97]))))) (retS (mC .t6)) nxS)
 (l9 (m6 2 (k8 [false] o4 (c6 (f7 M1 (d7 1) (mC (.int 1))) g8)))
 (l9 (m6 3 (k8 [false] o4 (c6 (f7 M1 (d7 1) (mC (.int 2))) g8)))
 (l9 (ifS (a8R (a0v (k8 [false,false] B0 (c6 (d7 2) (c6 (mC (.int 12)) g8)))) (a0v (k8 [false,false] B0 (c6 (d7 3) (c6 (mC (.int 60)) g8))))) (retS (a2R (c6 (d7 2) (c6 (d7 3) g8)))) nxS)
 (retS (mC .t6)))))))
noncomputable def K7:List D→Option FR:=A5 X3 4 [false]
theorem a4a:∀ ds r,K7 ds=some r→A5 X3 4 [false] ds=some r:=fun _ _ h=>h
theorem a4W (F:Fun K "head_in" "head_in" a1n f fd) (z_len:mg "len"=none) (C_MOST_VARIABLES:Cst mg "MOST_VARIABLES" (.int 12)) (C_MOST_CLAUSES:Cst mg "MOST_CLAUSES" (.int 60))
  (h_number_in:Has P w K mg base 2 "number_in" ["word"] (M7 K [false] o4))
  (h_is_within:Has P w K mg base 1 "is_within" ["number","most"] (M7 K [false,false] B0)):
  A0 P w K mg base Q4 3 f fd ["line"] (M7 K [false] (A5 X3 4 [false])):=
 have nd:=a2t.nd
 V7 (k:=2) F a2t rfl (fun cdv A outer s H E H0 HK G0 L hr=>by
  have hu:=hu8 hr
  exact (j7 (x8 (i:=1) (a34 (dv 0) (c7 (j6 (cs:=[32]) (by decide +kernel)) g9)) nd)
   (j7 (a0b ((w_or (a42 hu (Q0 z_len (c7 (dv 1) g9)) i7) (a66 (a42 hu (W2 hu (dv 1) i7) (j6 (cs:=[102,111,114,109,117,108,97]) (by decide +kernel)))))).pt (u5 (A9 a3t)) M4)
   (j7 (x8 (i:=2) (v7 h_number_in (hr.mono (by decide)) (c7 (W2 hu (dv 1) i7) g9)) nd)
   (j7 (x8 (i:=3) (v7 h_number_in (hr.mono (by decide)) (c7 (W2 hu (dv 1) i7) g9)) nd)
   (j7 (a0b ((w_and (a1C (v7 h_is_within (hr.mono (by decide)) (c7 (dv 2) (c7 (a62 C_MOST_VARIABLES (fun _=>.int 12)) g9)))) (b22 (a1C (v7 h_is_within (hr.mono (by decide)) (c7 (dv 3) (c7 (a62 C_MOST_CLAUSES (fun _=>.int 60)) g9))))))).pt (u5 (A9 (a1w (c7 (dv 2) (c7 (dv 3) g9))))) M4)
   (u5 (A9 a3t))))))))
noncomputable abbrev S3:SM:=(l9 (m6 2 (mMt "str" N9 (d7 0) (c6 (mC (.str [32])) g8)))
 (l9 (ifS (A8 (f7 X7 (a4i 2) (mC (.str [48])))) (retS (mC .t6)) nxS)
 (l9 (m6 3 (V6 (L8 (d7 2)) (tgN 0) a0c (k8 [false] o4 (c6 (d7 0) g8)) 1 []))
 (l9 (ifS (a0v (L6 a7S (c6 (V6 (L8 (d7 3)) (tgN 0) a0c (k8 [false,false] E4 (c6 (d7 0) (c6 (d7 1) g8))) 1 [1]) g8))) (retS (L6 a4z (c6 (d7 3) g8))) nxS)
 (retS (mC .t6))))))
noncomputable def F5:List D→Option FR:=A5 S3 4 [false,false]
theorem a2P:∀ ds r,F5 ds=some r→A5 S3 4 [false,false] ds=some r:=fun _ _ h=>h
theorem a3e (F:Fun K "clause_in" "clause_in" X8 f fd) (z_all:mg "all"=none) (z_tuple:mg "tuple"=none)
  (h_number_in:Has P w K mg base 2 "number_in" ["word"] (M7 K [false] o4))
  (h_is_literal:Has P w K mg base 1 "is_literal" ["number","variables"] (M7 K [false,false] E4)):
  A0 P w K mg base Q4 3 f fd ["line","variables"] (M7 K [false,false] (A5 S3 4 [false,false])):=
 have nd:=a0L.nd
 V7 (k:=2) F a0L rfl (fun cdv A outer s H E H0 HK G0 L hr=>by
  have hu:=hu8 hr
  exact (j7 (x8 (i:=2) (a34 (dv 0) (c7 (j6 (cs:=[32]) (by decide +kernel)) g9)) nd)
   (j7 (a0b (a42 hu (a98 2 (dv 2)) (j6 (cs:=[48]) (by decide +kernel))) (u5 (A9 a3t)) M4)
   (j7 (b3x (i:=3) (a9t [] trivial) nd (a3s (dv 2)) (fun _ _ _ _ _ _ _ _ _=>a4K) (fun _ _ _ _ _ _ _ _ _=>(v7 h_number_in (hr.mono (by decide)) (c7 (dv 0) g9))))
   (j7 (a0b (a1C (b1Z rfl z_all (c7 (a4y (a9t [("variables",1)] ⟨⟨rfl,rfl,.inl rfl⟩,trivial⟩) (a3s (dv 3)) (fun _ _ _ _ _ _ _ _ _=>a4K) (fun _ _ _ _ _ _ _ _ _=>(v7 h_is_literal (hr.mono (by decide)) (c7 (dv 0) (c7 (dv 1) g9))))) g9))) (u5 (A9 (a6I z_tuple (c7 (dv 3) g9)))) M4)
   (u5 (A9 a3t)))))))
theorem T6 (F:Fun K "__init__" "NoFormula.__init__" C2 f fd) {C_NoFormula C_ClauseError:Addr} (EI:a1e K mg "NoFormula" C_NoFormula C_ClauseError f "line") (U:a6u K mg "ClauseError" C_ClauseError):
  A0 P w K mg base Q4 1 f fd ["self","line"] (spE C_NoFormula "line"):=
 b0e (k:=0) (mt:=(a8u (U5 (mC (.str [108,105,110,101,32])) (U5 (a7X (d7 1)) (U5 (mC (.str [32,105,115,32,110,111,116,32,97,32,102,111,114,109,117,108,97,39,115])) a6V))))) F W3 EI U rfl (fun n h1 h2=>b4y h1 h2 (by decide) (by decide)) (.inl rfl) (.inl rfl) (by decide) (by decide) (fun cdv A outer s H E H0 HK G0 L hr=>⟨(a82 (a5S (j6 (cs:=[108,105,110,101,32]) (by decide +kernel)) (a5S (b4z (dv 1)) (a5S (j6 (cs:=[32,105,115,32,110,111,116,32,97,32,102,111,114,109,117,108,97,39,115]) (by decide +kernel)) b4K)))),rfl,⟨_,rfl⟩⟩)
noncomputable abbrev N8:SM:=(l9 (m6 8 (k8 [false,false] F5 (c6 (d7 7) (c6 (d7 4) g8))))
 (l9 (ifS (A8 (mUn (fun d=>vB (G7 d)) (d7 8))) (U8 "NoFormula" "line" (c6 (f7 l5 (L6 E9 (c6 (d7 6) g8)) (mC (.int 2))) g8)) nxS)
 (P7 (N5 6 (c6 (d7 8) g8)))))
noncomputable abbrev a2h:SM:=(l9 (m6 1 (mMt "str" N9 (d7 0) (c6 (mC (.str [10])) g8)))
 (l9 (m6 2 (a4i 1))
 (l9 (m6 3 (a26 (a0v (d7 1)) (k8 [false] K7 (c6 (f7 M1 (d7 1) (mC (.int 0))) g8)) (mC .t6)))
 (l9 (ifS (A8 (mUn (fun d=>vB (G7 d)) (d7 3))) (U8 "NoFormula" "line" (c6 (mC (.int 1)) g8)) nxS)
 (l9 (m6 4 (f7 M1 (d7 3) (mC (.int 0))))
 (l9 (m6 5 (f7 l5 (f7 M1 (d7 3) (mC (.int 1))) (mC (.int 1))))
 (l9 (m6 6 (N3 g8))
 (l9 (a4Y (L8 (mSl (d7 1) (P8 (mC (.int 1))) (P8 (d7 5)))) (tgN 7) N8)
 (l9 (ifS (mOr (A8 (f7 X7 (L6 E9 (c6 (d7 1) g8)) (d7 5))) (A8 (f7 X7 (d7 2) (mC (.str []))))) (U8 "NoFormula" "line" (c6 (f7 l5 (L6 E9 (c6 (d7 6) g8)) (mC (.int 2))) g8)) nxS)
 (retS (a2R (c6 (d7 4) (c6 (d7 6) g8)))))))))))))
noncomputable def Q6:List D→Option FR:=A5 a2h 9 [false]
theorem a8b:∀ ds r,Q6 ds=some r→A5 a2h 9 [false] ds=some r:=fun _ _ h=>h
theorem run_read (F:Fun K "read" "read" a54 f fd) (z_len:mg "len"=none) {C_NoFormula:Addr} {C_ClauseError:Addr} {fI_NoFormula:Addr} (EI_NoFormula:a1e K mg "NoFormula" C_NoFormula C_ClauseError fI_NoFormula "line") (hI_NoFormula:b3B P w K mg base 1 fI_NoFormula C_NoFormula "line" "line")
  (h_head_in:Has P w K mg base 3 "head_in" ["line"] (M7 K [false] K7))
  (h_clause_in:Has P w K mg base 3 "clause_in" ["line","variables"] (M7 K [false,false] F5)):
  A0 P w K mg base (CX1 P w) 4 f fd ["text"] (SpX K [false] (A5 a2h 9 [false])):=
 have nd:=a6K.nd
 b2R (k:=3) F a6K rfl (fun cdv A outer s H E H0 HK G0 L hr=>by
  have hu:=hu8 hr
  exact (j7 (x8 (i:=1) (a34 (dv 0) (c7 (j6 (cs:=[10]) (by decide +kernel)) g9)) nd)
   (j7 (x8 (i:=2) (a98 1 (dv 1)) nd)
   (j7 (x8 (i:=3) (a8Y (a1C (dv 1)) (v7 h_head_in (hr.mono (by decide)) (c7 (W2 hu (dv 1) i7) g9)) a3t) nd)
   (j7 (a0b (b18 (dv 3)) (u5 (a2s EI_NoFormula hI_NoFormula (hr.mono (by decide)) (c7 i7 g9))) M4)
   (j7 (x8 (i:=4) (W2 hu (dv 3) i7) nd)
   (j7 (x8 (i:=5) (n9 (W2 hu (dv 3) i7) i7) nd)
   (j7 (x8 (i:=6) (O0 g9) nd)
   (j7 (b0a (a3s (a8h (dv 1) (a0p i7) (a0p (dv 5)))) (a58 (i:=7) nd) (j7 (x8 (i:=8) (v7 h_clause_in (hr.mono (by decide)) (c7 (dv 7) (c7 (dv 4) g9))) nd)
   (j7 (a0b (b18 (dv 8)) (u5 (a2s EI_NoFormula hI_NoFormula (hr.mono (by decide)) (c7 (n9 (Q0 z_len (c7 (dv 6) g9)) i7) g9))) M4)
   (u5 (a4n (a2O 6 (dv 6) (c7 (dv 8) g9)))))))
   (j7 (a0b ((w_or (a42 hu (Q0 z_len (c7 (dv 1) g9)) (dv 5)) (a66 (a42 hu (dv 2) (j6 (cs:=[]) (by decide +kernel)))))).pt (u5 (a2s EI_NoFormula hI_NoFormula (hr.mono (by decide)) (c7 (n9 (Q0 z_len (c7 (dv 6) g9)) i7) g9))) M4)
   (u5 (A9 (a1w (c7 (dv 4) (c7 (dv 6) g9)))))))))))))))
noncomputable abbrev P4:SM:=(l9 (m6 3 (f7 F2 (k8 [false,false] j9 (c6 (d7 0) (c6 (mC (.int 50)) g8))) (mC (.int 5))))
 (l9 (m6 4 (mC (.int 0)))
 (l9 (ifS (A8 (f7 (a2n fun i j=>decide (j < i)) (L6 E9 (c6 (d7 1) g8)) (mC (.int 1)))) (m6 4 (f7 l5 (mC (.int 1)) (f7 F2 (k8 [false,false] j9 (c6 (d7 0) (c6 (mC (.int 51)) g8))) (f7 a3f (L6 E9 (c6 (d7 1) g8)) (mC (.int 1)))))) nxS)
 (l9 (ifS (mOr (A8 (f7 L5 (d7 3) (mC (.int 0)))) (A8 (f7 L5 (d7 4) (mC (.int 0))))) (l9 (m6 5 (L6 a0E (c6 (f7 a3f (L6 E9 (c6 (d7 1) g8)) (mC (.int 1))) g8)))
 (l9 (m6 6 (N3 (c6 (f7 l5 (mC (.str [102,111,114,109,117,108,97,32])) (L6 a0E (c6 (d7 2) g8))) (c6 (f7 l5 (mC (.str [102,111,114,109,117,108,97,32,49,51,32])) (d7 5)) (c6 (mC (.str [102,111,114,109,117,108,97,32,51,32,54,49])) (c6 (f7 l5 (mC (.str [70,111,114,109,117,108,97,32,51,32])) (d7 5)) (c6 (mC (.str [])) (c6 (mC (.str [102,111,114,109,117,108,97])) (c6 (f7 l5 (mC (.str [102,111,114,109,117,108,97,32,45,49,32])) (d7 5)) (c6 (f7 l5 (mC (.str [32,102,111,114,109,117,108,97,32,50,32])) (d7 5)) (c6 (f7 l5 (mC (.str [102,111,114,109,117,108,97,32,50,32,32])) (d7 5)) (c6 (f7 l5 (mC (.str [102,111,114,109,117,108,97,32,120,32])) (d7 5)) g8))))))))))))
 (retS (a2R (c6 (N3 (c6 (f7 l5 (mMt "str" Y4 (mC (.str [10])) (c6 (f7 l5 (N3 (c6 (f7 M1 (d7 6) (f7 F2 (k8 [false,false] j9 (c6 (d7 0) (c6 (mC (.int 52)) g8))) (mC (.int 10)))) g8)) (mSl (d7 1) (P8 (mC (.int 1))) (M.pure none))) g8)) (mC (.str [10]))) g8)) (c6 (mC (.int 1)) g8)))))) nxS)
 (l9 (ifS (A8 (f7 L5 (d7 3) (mC (.int 1)))) (l9 (m6 6 (N3 (c6 (mC (.str [53,32,48])) (c6 (mC (.str [49,32,48,32,49,32,48])) (c6 (mC (.str [49])) (c6 (mC (.str [])) (c6 (mC (.str [49,32,120,32,48])) (c6 (mC (.str [49,32,32,48])) (c6 (mC (.str [32,49,32,48])) (c6 (mC (.str [49,32,48,32])) (c6 (mC (.str [48,49,32,48])) (c6 (mC (.str [45,53,32,48])) g8))))))))))))
 (l9 (m6 1 (f7 l5 (f7 l5 (mSl (d7 1) (M.pure none) (P8 (d7 4))) (N3 (c6 (f7 M1 (d7 6) (f7 F2 (k8 [false,false] j9 (c6 (d7 0) (c6 (mC (.int 52)) g8))) (mC (.int 10)))) g8))) (mSl (d7 1) (P8 (f7 l5 (d7 4) (mC (.int 1)))) (M.pure none))))
 (retS (a2R (c6 (N3 (c6 (f7 l5 (mMt "str" Y4 (mC (.str [10])) (c6 (d7 1) g8)) (mC (.str [10]))) g8)) (c6 (f7 l5 (d7 4) (mC (.int 1))) g8)))))) nxS)
 (l9 (ifS (A8 (f7 L5 (d7 3) (mC (.int 2)))) (retS (a2R (c6 (N3 (c6 (f7 l5 (mMt "str" Y4 (mC (.str [10])) (c6 (mSl (d7 1) (M.pure none) (P8 (d7 4))) g8)) (mC (.str [10]))) g8)) (c6 (f7 l5 (d7 4) (mC (.int 1))) g8)))) nxS)
 (l9 (ifS (A8 (f7 L5 (d7 3) (mC (.int 3)))) (retS (a2R (c6 (N3 (c6 (f7 l5 (f7 l5 (mMt "str" Y4 (mC (.str [10])) (c6 (d7 1) g8)) (mC (.str [10]))) (f7 M1 (N3 (c6 (mC (.str [48,10])) (c6 (mC (.str [10])) (c6 (mC (.str [120])) (c6 (mC (.str [32])) g8))))) (f7 F2 (k8 [false,false] j9 (c6 (d7 0) (c6 (mC (.int 52)) g8))) (mC (.int 4))))) g8)) (c6 (f7 l5 (L6 E9 (c6 (d7 1) g8)) (mC (.int 1))) g8)))) nxS)
 (retS (a2R (c6 (N3 (c6 (mMt "str" Y4 (mC (.str [10])) (c6 (d7 1) g8)) g8)) (c6 (L6 E9 (c6 (d7 1) g8)) g8)))))))))))
noncomputable def E3:List D→Option FR:=A5 P4 7 [false,false,false]
theorem a1F:∀ ds r,E3 ds=some r→A5 P4 7 [false,false,false] ds=some r:=fun _ _ h=>h
theorem a2z (F:Fun K "_law_broken" "_law_broken" U0 f fd) (z_len:mg "len"=none) (z_str:mg "str"=none)
  (h_law_mix:Has P w K mg base 2 "_law_mix" ["_law_script","_law_k"] (M7 K [false,false] j9)):
  A0 P w K mg base Q4 3 f fd ["_law_script","_law_lines","_law_variables"] (M7 K [false,false,false] (A5 P4 7 [false,false,false])):=
 have nd:=a0j.nd
 V7 (k:=2) F a0j rfl (fun cdv A outer s H E H0 HK G0 L hr=>by
  have hu:=hu8 hr
  exact (j7 (x8 (i:=3) (M5 (v7 h_law_mix (hr.mono (by decide)) (c7 (dv 0) (c7 i7 g9))) i7) nd)
   (j7 (x8 (i:=4) i7 nd)
   (j7 (a0b (b4v (Q0 z_len (c7 (dv 1) g9)) i7) (u5 (x8 (i:=4) (n9 i7 (M5 (v7 h_law_mix (hr.mono (by decide)) (c7 (dv 0) (c7 i7 g9))) (a89 (Q0 z_len (c7 (dv 1) g9)) i7))) nd)) M4)
   (j7 (a0b ((w_or (a1s hu (dv 3) i7) (a66 (a1s hu (dv 4) i7)))).pt (j7 (x8 (i:=5) (a2k z_str (c7 (a89 (Q0 z_len (c7 (dv 1) g9)) i7) g9)) nd)
   (j7 (x8 (i:=6) (O0 (c7 (n9 (j6 (cs:=[102,111,114,109,117,108,97,32]) (by decide +kernel)) (a2k z_str (c7 (dv 2) g9))) (c7 (n9 (j6 (cs:=[102,111,114,109,117,108,97,32,49,51,32]) (by decide +kernel)) (dv 5)) (c7 (j6 (cs:=[102,111,114,109,117,108,97,32,51,32,54,49]) (by decide +kernel)) (c7 (n9 (j6 (cs:=[70,111,114,109,117,108,97,32,51,32]) (by decide +kernel)) (dv 5)) (c7 (j6 (cs:=[]) (by decide +kernel)) (c7 (j6 (cs:=[102,111,114,109,117,108,97]) (by decide +kernel)) (c7 (n9 (j6 (cs:=[102,111,114,109,117,108,97,32,45,49,32]) (by decide +kernel)) (dv 5)) (c7 (n9 (j6 (cs:=[32,102,111,114,109,117,108,97,32,50,32]) (by decide +kernel)) (dv 5)) (c7 (n9 (j6 (cs:=[102,111,114,109,117,108,97,32,50,32,32]) (by decide +kernel)) (dv 5)) (c7 (n9 (j6 (cs:=[102,111,114,109,117,108,97,32,120,32]) (by decide +kernel)) (dv 5)) g9))))))))))) nd)
   (u5 (A9 (a1w (c7 (O0 (c7 (n9 (a0w (j6 (cs:=[10]) (by decide +kernel)) (c7 (n9 (O0 (c7 (W2 hu (dv 6) (M5 (v7 h_law_mix (hr.mono (by decide)) (c7 (dv 0) (c7 i7 g9))) i7)) g9)) (a8h (dv 1) (a0p i7) a2U)) g9)) (j6 (cs:=[10]) (by decide +kernel))) g9)) (c7 i7 g9))))))) M4)
   (j7 (a0b (a1s hu (dv 3) i7) (j7 (x8 (i:=6) (O0 (c7 (j6 (cs:=[53,32,48]) (by decide +kernel)) (c7 (j6 (cs:=[49,32,48,32,49,32,48]) (by decide +kernel)) (c7 (j6 (cs:=[49]) (by decide +kernel)) (c7 (j6 (cs:=[]) (by decide +kernel)) (c7 (j6 (cs:=[49,32,120,32,48]) (by decide +kernel)) (c7 (j6 (cs:=[49,32,32,48]) (by decide +kernel)) (c7 (j6 (cs:=[32,49,32,48]) (by decide +kernel)) (c7 (j6 (cs:=[49,32,48,32]) (by decide +kernel)) (c7 (j6 (cs:=[48,49,32,48]) (by decide +kernel)) (c7 (j6 (cs:=[45,53,32,48]) (by decide +kernel)) g9))))))))))) nd)
   (j7 (x8 (i:=1) (n9 (n9 (a8h (dv 1) a2U (a0p (dv 4))) (O0 (c7 (W2 hu (dv 6) (M5 (v7 h_law_mix (hr.mono (by decide)) (c7 (dv 0) (c7 i7 g9))) i7)) g9))) (a8h (dv 1) (a0p (n9 (dv 4) i7)) a2U)) nd)
   (u5 (A9 (a1w (c7 (O0 (c7 (n9 (a0w (j6 (cs:=[10]) (by decide +kernel)) (c7 (dv 1) g9)) (j6 (cs:=[10]) (by decide +kernel))) g9)) (c7 (n9 (dv 4) i7) g9))))))) M4)
   (j7 (a0b (a1s hu (dv 3) i7) (u5 (A9 (a1w (c7 (O0 (c7 (n9 (a0w (j6 (cs:=[10]) (by decide +kernel)) (c7 (a8h (dv 1) a2U (a0p (dv 4))) g9)) (j6 (cs:=[10]) (by decide +kernel))) g9)) (c7 (n9 (dv 4) i7) g9))))) M4)
   (j7 (a0b (a1s hu (dv 3) i7) (u5 (A9 (a1w (c7 (O0 (c7 (n9 (n9 (a0w (j6 (cs:=[10]) (by decide +kernel)) (c7 (dv 1) g9)) (j6 (cs:=[10]) (by decide +kernel))) (W2 hu (O0 (c7 (j6 (cs:=[48,10]) (by decide +kernel)) (c7 (j6 (cs:=[10]) (by decide +kernel)) (c7 (j6 (cs:=[120]) (by decide +kernel)) (c7 (j6 (cs:=[32]) (by decide +kernel)) g9))))) (M5 (v7 h_law_mix (hr.mono (by decide)) (c7 (dv 0) (c7 i7 g9))) i7))) g9)) (c7 (n9 (Q0 z_len (c7 (dv 1) g9)) i7) g9))))) M4)
   (u5 (A9 (a1w (c7 (O0 (c7 (a0w (j6 (cs:=[10]) (by decide +kernel)) (c7 (dv 1) g9)) g9)) (c7 (Q0 z_len (c7 (dv 1) g9)) g9)))))))))))))
noncomputable abbrev a0V:SM:=(P7 (N5 2 (c6 (mMt "str" Y4 (mC (.str [32])) (c6 (f7 l5 (V6 (L8 (d7 3)) (tgN 0) a0c (L6 a0E (c6 (d7 0) g8)) 1 []) (N3 (c6 (mC (.str [48])) g8))) g8)) g8)))
noncomputable abbrev a7a:SM:=(l9 (m6 1 (k8 [false,false] C5 (c6 (d7 0) (c6 (mC (.int 0)) g8))))
 (l9 (m6 2 (N3 (c6 (f7 l5 (f7 l5 (f7 l5 (mC (.str [102,111,114,109,117,108,97,32])) (L6 a0E (c6 (f7 M1 (d7 1) (mC (.int 0))) g8))) (mC (.str [32]))) (L6 a0E (c6 (L6 E9 (c6 (f7 M1 (d7 1) (mC (.int 1))) g8)) g8))) g8)))
 (l9 (a4Y (L8 (f7 M1 (d7 1) (mC (.int 1)))) (tgN 3) a0V)
 (l9 (ifS (A8 (f7 L5 (f7 F2 (k8 [false,false] j9 (c6 (d7 0) (c6 (mC (.int 49)) g8))) (mC (.int 6))) (mC (.int 0)))) (retS (f7 L5 (Q7 [false] Q6 (c6 (f7 l5 (mMt "str" Y4 (mC (.str [10])) (c6 (d7 2) g8)) (mC (.str [10]))) g8)) (d7 1))) nxS)
 (l9 (m6 4 (k8 [false,false,false] E3 (c6 (d7 0) (c6 (d7 2) (c6 (f7 M1 (d7 1) (mC (.int 0))) g8)))))
 (l9 (m6 5 (mC (.int 0)))
 (l9 (a5g (P7 (Q7 [false] Q6 (c6 (f7 M1 (f7 M1 (d7 4) (mC (.int 0))) (mC (.int 0))) g8))) 6 5 (a73 "NoFormula" "line"))
 (retS (a1u (k8 [false] F6 (c6 (d7 5) g8)) (f7 L5 (d7 5) (f7 M1 (d7 4) (mC (.int 1)))))))))))))
theorem b0n (F:Fun K "law" "law" a9h f fd) (z_str:mg "str"=none) (z_len:mg "len"=none) (z_isinstance:mg "isinstance"=none) (z_ValueError:mg "ValueError"=none) {C_ClauseError:Addr} {C_NoFormula:Addr} (E_ClauseError:b0Z K mg "ClauseError" C_ClauseError) {fI_NoFormula:Addr} (EI_NoFormula:a1e K mg "NoFormula" C_NoFormula C_ClauseError fI_NoFormula "line") (S_NoFormula_ClauseError:subIn K C_NoFormula C_ClauseError=true)
  (h_law_formula:Has P w K mg base 4 "_law_formula" ["_law_script","_law_base"] (M7 K [false,false] C5))
  (h_law_mix:Has P w K mg base 2 "_law_mix" ["_law_script","_law_k"] (M7 K [false,false] j9))
  (h_read:a6n P w K mg base 4 "read" ["text"] (SpX K [false] Q6))
  (h_law_broken:Has P w K mg base 3 "_law_broken" ["_law_script","_law_lines","_law_variables"] (M7 K [false,false,false] E3))
  (h_law_whole:Has P w K mg base 1 "_law_whole" ["_law_found"] (M7 K [false] F6)):
  A0 P w K mg base Q4 5 f fd ["_law_script"] (M7 K [false] (A5 a7a 7 [false])):=
 have nd:=a9S.nd
 b3a (k:=4) F a9S rfl (fun cdv A outer s H E H0 HK G0 L hr=>by
  have hu:=hu8 hr
  exact (U9 (s0 (x8 (i:=1) (v7 h_law_formula (hr.mono (by decide)) (c7 (dv 0) (c7 i7 g9))) nd))
   (U9 (s0 (x8 (i:=2) (O0 (c7 (n9 (n9 (n9 (j6 (cs:=[102,111,114,109,117,108,97,32]) (by decide +kernel)) (a2k z_str (c7 (W2 hu (dv 1) i7) g9))) (j6 (cs:=[32]) (by decide +kernel))) (a2k z_str (c7 (Q0 z_len (c7 (W2 hu (dv 1) i7) g9)) g9))) g9)) nd))
   (U9 (s0 (b0a (a3s (W2 hu (dv 1) i7)) (a58 (i:=3) nd) (u5 (a4n (a2O 2 (dv 2) (c7 (a0w (j6 (cs:=[32]) (by decide +kernel)) (c7 (n9 (a4y (a9t [] trivial) (a3s (dv 3)) (fun _ _ _ _ _ _ _ _ _=>a4K) (fun _ _ _ _ _ _ _ _ _=>(a2k z_str (c7 (dv 0) g9)))) (O0 (c7 (j6 (cs:=[48]) (by decide +kernel)) g9))) g9)) g9))))))
   (U9 (s0 (a0b (a1s hu (M5 (v7 h_law_mix (hr.mono (by decide)) (c7 (dv 0) (c7 i7 g9))) i7) i7) (u5 (A9 (b13 hu (a68 h_read (hr.mono (by decide)) (c7 (n9 (a0w (j6 (cs:=[10]) (by decide +kernel)) (c7 (dv 2) g9)) (j6 (cs:=[10]) (by decide +kernel))) g9)) (dv 1)))) M4))
   (U9 (s0 (x8 (i:=4) (v7 h_law_broken (hr.mono (by decide)) (c7 (dv 0) (c7 (dv 2) (c7 (W2 hu (dv 1) i7) g9)))) nd))
   (U9 (s0 (x8 (i:=5) i7 nd))
   (U9 (b4h (i:=6) (j:=5) (u5 (a4n (a68 h_read (hr.mono (by decide)) (c7 (W2 hu (W2 hu (dv 4) i7) i7) g9)))) E_ClauseError nd (fun x d hv=>b0u hv EI_NoFormula S_NoFormula_ClauseError (fun n=>b2s EI_NoFormula z_isinstance z_ValueError nd rfl rfl rfl rfl rfl rfl rfl (by decide) (by decide) (by decide) (fun h=>by subst h; rfl) (fun h=>by subst h; rfl))))
   (b2q (s0 (A9 (a65 (v7 h_law_whole (hr.mono (by decide)) (c7 (dv 5) g9)) (a6Q (b13 hu (dv 5) (W2 hu (dv 4) i7)))))))))))))))
end
theorem b3H {a b:D}{w:W}(h:M1 a b=some w):M1 a b=some w:=h
theorem b0j {a b:D}{w:W}(h:L5 a b=some w):L5 a b=some w:=h
theorem b1w {a b:D}{w:W}(h:X7 a b=some w):X7 a b=some w:=h
theorem a6g {a b:D}{w:W}(h:inD a b=some w):inD a b=some w:=h
theorem a3r {a b:D}{w:W}(h:a9g a b=some w):a9g a b=some w:=h
theorem b0D {ρ:i9}:b4t ρ=some (.ok (.own (.dct [])) ρ):=rfl
theorem b19 {s1:SM}{ρ ρ1 ρ2:i9}(h:s1 ρ=some (.nx ρ1))(e:ρ1=ρ2):s1 ρ=some (.nx ρ2):=e ▸ h
local macro_rules | `(tactic| walk_at "op")=>`(tactic| first
  | with_reducible assumption
  | (with_reducible apply U4
     · first | decide | omega | assumption)
  | (with_reducible apply b02
     · first | exact ⟨by decide,by decide⟩ | assumption | exact ⟨by omega,by omega⟩)
  | (with_reducible apply a7h
     · first | exact .inl ⟨by decide,by decide⟩ | exact .inr ⟨by decide,by decide⟩ | assumption | exact .inl ⟨by omega,by omega⟩ | exact .inr ⟨by omega,by omega⟩)
  | (with_reducible apply b3H
     · first | assumption | rfl)
  | (with_reducible apply b0j
     · first | assumption | rfl)
  | (with_reducible apply b1w
     · first | assumption | rfl)
  | (with_reducible apply a6g
     · first | assumption | rfl)
  | (with_reducible apply a3r
     · first | assumption | rfl)
  | rfl
  | assumption)
local macro_rules | `(tactic| walk_at "ev")=>`(tactic| first
  | with_reducible assumption
  | with_reducible exact j5
  | with_reducible exact g7
  | with_reducible exact b0D
  | with_reducible exact B5
  | (with_reducible apply b19 B5
     · rfl)
  | (with_reducible apply d9
     · rfl)
  | (with_reducible apply c9
     · walk_at "ev"
     · walk_at "ev")
  | (with_reducible apply i6
     · walk_at "ev"
     · walk_at "ev"
     · rfl
     · rfl
     · walk_at "op")
  | (with_reducible apply a2F
     · walk_at "ev"
     · rfl
     · walk_at "op")
  | (with_reducible apply J1
     · walk_at "ev"
     · rfl
     · walk_at "op")
  | (with_reducible apply u7
     · walk_at "ev"
     · rfl
     · rfl
     · walk_at "fm"
     · rfl
     · rfl)
  | (with_reducible apply F0
     · walk_at "ev")
  | (with_reducible apply a1h
     · walk_at "ev"
     · rfl
     · walk_at "op")
  | (with_reducible apply m8
     · walk_at "ev"
     · rfl)
  | (with_reducible apply w6
     · walk_at "ev"
     · rfl)
  | (with_reducible apply a6Z
     · walk_at "ev")
  | (with_reducible apply G8
     · walk_at "ev"
     · rfl
     · first | assumption | exact Nat.le_of_ble_eq_true rfl)
  | (with_reducible apply T7
     · walk_at "ev"
     · rfl
     · first | assumption | exact Nat.le_of_ble_eq_true rfl)
  | (with_reducible apply g5
     · walk_at "ev"
     · walk_at "ev")
  | (with_reducible apply b2S
     · walk_at "ev")
  | (with_reducible apply b1y
     · walk_at "ev"
     · rfl)
  | (with_reducible apply b3A
     · walk_at "ev"
     · rfl
     · walk_at "ev"
     · rfl
     · rfl
     · walk_at "fm")
  | (with_reducible apply b0P
     · walk_at "ev"
     · rfl
     · walk_at "ev"
     · rfl
     · rfl
     · rfl)
  | (with_reducible apply b0y
     · walk_at "ev"
     · rfl
     · walk_at "ev"
     · walk_at "ev"
     · rfl
     · rfl
     · rfl
     · rfl)
  | (with_reducible apply a3D
     · rfl
     · walk_at "ev"
     · rfl
     · rfl
     · walk_at "fm")
  | (with_reducible apply a6k
     · walk_at "ev"
     · walk_at "fm")
  | (with_reducible apply a9m
     · walk_at "ev"
     · rfl
     · walk_at "op")
  | (with_reducible apply Z5
     · walk_at "ev"
     · rfl
     · rfl)
  | (with_reducible apply b0l
     · walk_at "ev"
     · rfl
     · rfl
     · walk_at "fm"
     · rfl
     · first | rfl | assumption)
  | (with_reducible apply a0Q
     · walk_at "ev"
     · rfl
     · rfl
     · walk_at "ev")
  | (with_reducible apply a9P
     · walk_at "ev"
     · walk_at "ev")
  | (with_reducible apply a8s
     · walk_at "ev"
     · walk_at "ev")
  | (with_reducible apply X6
     · walk_at "ev"
     · rfl
     · rfl
     · walk_at "ev"
     · rfl
     · rfl
     · walk_at "op")
  | with_reducible exact a5c
  | (with_reducible apply T8
     · walk_at "ev"
     · rfl)
  | (with_reducible apply a3y
     · walk_at "ev"
     · walk_at "ev"
     · walk_at "ev"
     · rfl
     · walk_at "op")
  | (with_reducible apply Z7
     · walk_at "ev"
     · walk_at "fm"
     · walk_at "fm"
     · first | exact .inr rfl | exact .inl (by assumption)))
theorem O5 (ns:List Int):intsOf (ns.map D.int)=some ns:=by
 induction ns with
 | nil=>rfl
 | cons n r ih=>simp [intsOf,ih]
theorem a6A {α β:Type}(f:α→β)(xs:List α)(i:Int):L2.atI (xs.map f) i=(L2.atI xs i).map f:=by
 unfold L2.atI
 rw [List.length_map]
 cases ixN xs.length i with
 | none=>rfl
 | some j=>simp
theorem a91 {ns:List Int}{k:Int}(h:ns≠[]):L2.atI ns (k % (ns.length:Int))=some (a0R ns k):=by
 have q:=b1Q (ns:=ns) (k:=k) h
 rw [a6A,List.length_map] at q
 cases e:L2.atI ns (k % (ns.length:Int)) with
 | none=>rw [e] at q; cases q
 | some v=>
  rw [e] at q
  have:V.int v=V.int (a0R ns k):=Option.some.inj q
  injection this with z
  rw [z]
theorem a4F {ns:List Int}{k:Int}:P9 [.lst (ns.map D.int),.int k]=some (.ret (.val (.int (a0R ns k))) []):=by
 show (intsOf (ns.map D.int)).map _=_
 rw [O5]
 rfl
theorem a1l {ns:List Int}{k:Int}:j9 [.lst (ns.map D.int),.int k]=some (.ret (.val (.int (B4 ns k))) []):=by
 show (intsOf (ns.map D.int)).map _=_
 rw [O5]
 rfl
local macro_rules | `(tactic| walk_at "fm")=>`(tactic| first | assumption | exact a4F | exact a1l | rfl)
theorem a3d:∀ ds r,P9 ds=some r→A5 a0W 2 [false,false] ds=some r:=by
 intro ds r h
 match ds,h with
 | [.lst ds,.int k],h=>
  cases hb:intsOf ds with
  | none=>have h':(intsOf ds).map _=some r:=h; rw [hb] at h'; cases h'
  | some ns=>
   have:=T3 hb
   subst this
   rw [a4F] at h
   cases h
   cases ns with
   | nil=>rfl
   | cons n r=>
    have q:M1 (.lst ((n::r).map D.int)) (.int (k % ((((n::r).map D.int).length:Nat):Int)))=some (.val (.int (a0R (n::r) k))):=by
     show (L2.atI _ _).map _=_
     rw [List.length_map,a6A,a91 (by simp)]
     rfl
    have hp:(0:Int) < ((((n::r).map D.int).length:Nat):Int):=by simp
    apply m9
    ·apply D3
     apply C6
     ·walk_at "ev"
     ·rfl
     ·walk_at "ev"
    ·rfl
theorem a4s:∀ ds r,j9 ds=some r→A5 a1x 3 [false,false] ds=some r:=by
 intro ds r h
 match ds,h with
 | [.lst ds,.int k],h=>
  cases hb:intsOf ds with
  | none=>have h':(intsOf ds).map _=some r:=h; rw [hb] at h'; cases h'
  | some ns=>
   have:=T3 hb
   subst this
   rw [a1l] at h
   cases h
   apply m9
   ·walk_at "ev"
   ·rfl
theorem a2B:∀ ds r,F6 ds=some r→A5 a0g 1 [false] ds=some r:=by
 intro ds r h
 match ds,h with
 | [d],h=>
  obtain ⟨hn,h⟩:=j8 h
  cases h
  cases d <;> first | rfl | cases hn
theorem a9K {d:D}(h:b32 d=true):F6 [d]=some (.ret (.val (.bl (a4I d))) []):=k9 h
noncomputable def toI:D→Int
 | .int i=>i
 | _=>0
theorem b1t (m x most:Int)(hx:x=m / 6 % (most + 1)):M1 (.lst [.int 1,.int 2,.int 3,.int 2,.int 3,.int x]) (.int (m % 6))=some (.val (.int (sizeV m most))):=by
 have h:m % 6=0∨m % 6=1∨m % 6=2∨m % 6=3∨m % 6=4∨m % 6=5:=by omega
 unfold sizeV
 subst hx
 rcases h with h | h | h | h | h | h <;> rw [h] <;> rfl
theorem b01 (m most:Int)(h:0≤most):0≤sizeV m most:=by
 unfold sizeV
 have:=Int.emod_nonneg (m / 6) (b:=most + 1) (by omega)
 split <;> (try split) <;> (try split) <;> (try split) <;> (try split) <;> omega
theorem a4C (m most:Int)(h:0≤most):sizeV m most≤most + 3:=by
 unfold sizeV
 have:=Int.emod_lt_of_pos (m / 6) (b:=most + 1) (by omega)
 split <;> (try split) <;> (try split) <;> (try split) <;> (try split) <;> omega
theorem a3l {ns:List Int}{b v most:Int}(h1:0 < v)(h2:v < 1000)(h3:0≤most)(h4:most < 1000):D8 [.lst (ns.map D.int),.int b,.int v,.int most]=some (.ret (.val (.tup ((A6 ns b v most).map D.int))) []):=by
 show (intsOf (ns.map D.int)).bind _=_
 rw [O5]
 exact k9 ⟨h1,h2,h3,h4⟩
noncomputable def a4b (ns:List Int)(b v most:Int)(n sz:Int)(pre:List D):i9:=[some (.sh (.lst (ns.map D.int))),some (.sh (.int b)),some (.sh (.int v)),some (.sh (.int most)),some (.sh (.int n)),some (.sh (.int sz)),
 some (.ow false (.lst (pre.map fun d=>D.int (a3a (B4 ns (b + 1 + toI d)) v)))),pre.getLast?.map fun d=>C.sh d,pre.getLast?.map fun d=>C.sh (.int (B4 ns (b + 1 + toI d)))]
theorem a1G:∀ ds r,D8 ds=some r→A5 Y7 9 [false,false,false,false] ds=some r:=by
 intro ds r h
 match ds,h with
 | [.lst ds,.int b,.int v,.int most],h=>
  cases hb:intsOf ds with
  | none=>have h':(intsOf ds).bind _=some r:=h; rw [hb] at h'; cases h'
  | some ns=>
   have:=T3 hb
   subst this
   have h':(intsOf (ns.map D.int)).bind _=some r:=h
   rw [O5] at h'
   obtain ⟨⟨h1,h2,h3,h4⟩,_⟩:=j8 h'
   rw [a3l h1 h2 h3 h4] at h
   cases h
   have hsz:=b1t (B4 ns b) (B4 ns b / 6 % (most + 1)) most rfl
   have hlo:=b01 (B4 ns b) most h3
   have hhi:=a4C (B4 ns b) most h3
   generalize hS:sizeV (B4 ns b) most=S at hsz hlo hhi
   have hi:ints1 [.int S]=some ((List.range S.toNat).map fun k=>D.int (0 + ((k:Nat):Int))):=k9 ⟨by omega,by omega⟩
   have hl:=a7j (ds:=(List.range S.toNat).map fun k=>D.int (0 + ((k:Nat):Int))) (tg:=tgN 7) (s1:=(l9 (m6 8 (k8 [false,false] j9 (c6 (d7 0) (c6 (f7 l5 (f7 l5 (d7 1) (mC (.int 1))) (d7 7)) g8))))
 (P7 (N5 6 (c6 (f7 a1E (f7 l5 (mC (.int 1)) (f7 F2 (f7 a5V (d7 8) (mC (.int 2))) (d7 2))) (f7 a3f (mC (.int 1)) (f7 a1E (mC (.int 2)) (f7 F2 (d7 8) (mC (.int 2)))))) g8))))) (a4b ns b v most (B4 ns b) S) (by
    intro pre d post e
    have hd:d∈((List.range S.toNat).map fun k=>D.int (0 + ((k:Nat):Int))):=by rw [e]; simp
    obtain ⟨k,_,rfl⟩:=List.mem_map.mp hd
    have hz:small (pre.map fun d=>D.int (a3a (B4 ns (b + 1 + toI d)) v)).length:=by
     have:=congrArg List.length e
     simp at this
     show List.length _≤1000000
     rw [List.length_map]
     omega
    refine ⟨_,rfl,.inl ?_⟩
    apply b19
    ·walk_at "ev"
    ·simp [a4b,a3a,toI])
   apply m9
   ·walk_at "ev"
   ·simp [a4b,a7p,S0,A6,hS,toI,Function.comp_def]
local macro_rules | `(tactic| walk_at "fm")=>`(tactic| first | assumption | exact a4F | exact a1l | rfl)
theorem F9 {n:Nat}(h:n≤100000):small n:=by unfold small; omega
theorem b3t (bs:List Bool):W0 (bs.map D.bl)=some bs:=by
 induction bs with
 | nil=>rfl
 | cons b r ih=>
  show (W0 (r.map D.bl)).map _=_
  rw [ih]
  rfl
theorem b1A (bs:List Bool):a7S [.lst (bs.map D.bl)]=some (.val (.bl (bs.all id))):=by
 show (W0 _).bind _=_
 rw [b3t]
 rfl
theorem a9L (bs:List Bool):(bs.map D.bl).all Z2=true:=by
 rw [List.all_map,List.all_eq_true]
 intro x _
 rfl
theorem a6T {i:Nat}{mr:M (List W)}{w:W}{d:D}{ds:List D}{ρ ρ1 ρ2 ρ3:i9}{l:Bool}{ds0:List D}(h0:ρ[i]?=some (some (.ow l (.lst ds0))))(ha:mr ρ=some (.ok [w] ρ1))(hl:D7 w ρ1=some (.ok d ρ2))(h1:ρ2[i]?=some (some (.ow l (.lst ds))))(hz:small ds.length)(hs:ρ2.set i (some (.ow l (.lst (ds++[d]))))=ρ3):P7 (N5 i mr) ρ=some (.nx ρ3):=by
 subst hs
 exact a6Z (a3D h0 ha hl h1 hz)
theorem eq_int (a b:Int):L5 (.int a) (.int b)=some (.val (.bl (decide (a=b)))):=by
 show some (W.val (.bl (a == b)))=_
 by_cases h:a=b <;> simp [h]
theorem ne_int (a b:Int):X7 (.int a) (.int b)=some (.val (.bl (!decide (a=b)))):=by
 show some (W.val (.bl (!(a == b))))=_
 by_cases h:a=b <;> simp [h]
section
variable {tg:FT}{mt:M Bool}{me:M W}{ρ ρ1 ρ2 ρ3 ρ4:i9}{d y:D}{w:W}
theorem a8g {α:Type}{f g:α→D}{t:α→Bool}{xs:List α}(h:∀ x∈xs,compTurn tg mt me ρ (f x)=some (if t x=true then some (g x) else none)):K4 tg mt me ρ (xs.map f)=some ((xs.filter t).map g):=by
 induction xs with
 | nil=>rfl
 | cons x r ih=>
  have h1:=h x List.mem_cons_self
  have ih:=ih fun y hy=>h y (List.mem_cons_of_mem _ hy)
  rw [List.map_cons]
  unfold K4
  rw [h1]
  cases hx:t x with
  | true=>rw [List.filter_cons_of_pos hx,ih]; rfl
  | false=>rw [List.filter_cons_of_neg (by rw [hx]; decide),ih]; rfl
theorem a2S {α:Type}{f g:α→D}{xs:List α}(h:∀ x∈xs,∃ ρ1 w ρ2 ρ3,tg (f x) ρ=some ρ1∧me ρ1=some (.ok w ρ2)∧D7 w ρ2=some (.ok (g x) ρ3)):K4 tg a0c me ρ (xs.map f)=some (xs.map g):=by
 have:=a8g (tg:=tg) (mt:=a0c) (me:=me) (ρ:=ρ) (f:=f) (g:=g) (t:=fun _=>true) (xs:=xs) (fun x hx=>by
  obtain ⟨ρ1,w,ρ2,ρ3,a,b,c⟩:=h x hx
  exact a8U a rfl b c)
 rw [this,List.filter_eq_self.mpr (fun _ _=>rfl)]
end
theorem a0N (cs:List (List Int)):(A3 cs).length=cs.length:=List.length_map _
theorem a9a (n:Nat)(a b:Int):T5 n (.int a) (.int b)=some (decide (a=b)):=by
 have:eqF (.int a) (.int b)=some (decide (a=b)):=by
  show some (a == b)=_
  by_cases h:a=b <;> simp [h]
 cases n <;> exact this
theorem a3o (n:Nat):∀ a b:List Int,eqL (T5 n) (a.map D.int) (b.map D.int)=some (decide (a=b))
 | [],[]=>by simp [eqL]
 | [],_::_=>by simp [eqL]
 | _::_,[]=>by simp [eqL]
 | x::r,y::t=>by
  show (match T5 n (.int x) (.int y),eqL (T5 n) (r.map D.int) (t.map D.int) with | some a,some b=>some (a && b) | _,_=>none)=_
  rw [a9a,a3o n r t]
  by_cases h1:x=y <;> by_cases h2:r=t <;> simp [h1,h2]
theorem a60 (n:Nat):∀ a b:List (List Int),eqL (T5 (n + 1)) (A3 a) (A3 b)=some (decide (a=b))
 | [],[]=>by simp [eqL,A3]
 | [],_::_=>by simp [eqL,A3]
 | _::_,[]=>by simp [eqL,A3]
 | x::r,y::t=>by
  show (match eqL (T5 n) (x.map D.int) (y.map D.int),eqL (T5 (n + 1)) (A3 r) (A3 t) with | some a,some b=>some (a && b) | _,_=>none)=_
  rw [a3o,a60 n r t]
  by_cases h1:x=y <;> by_cases h2:r=t <;> simp [h1,h2]
theorem b1j (n:Nat)(a:Int):T5 n (.int a) (.int a)=some true:=by cases n <;> simp [T5,eqF]
theorem a3I (cs:List Nat)(c:Nat):C3 (.str cs) [.str [c]]=some (.val (.bl (decide (cs.head?=some c)))):=by
 show vB (Txt.startswith (tx cs) (tx [c]))=_
 rw [show tx cs=⟨cs.toArray⟩ from rfl,show tx [c]=⟨#[c]⟩ from rfl,Wd.a5I]
 rfl
noncomputable def a6H:D→D
 | .str [c]=>.bl (Wd.K3 c)
 | _=>.t6
theorem b0h (c:Nat):inD (.str [c]) (.str Wd.FIG.cps.toList)=some (.val (.bl (Wd.K3 c))):=by
 show vB (!(Builtin.Str.occurrences (tx Wd.FIG.cps.toList) (tx [c]) 0 (tx Wd.FIG.cps.toList).length 1).isEmpty)=_
 rw [a9w,show tx [c]=⟨#[c]⟩ from rfl,Wd.b3f]
 rfl
theorem b0W (cs:List Nat):W0 ((cs.map fun c=>D.str [c]).map a6H)=some (cs.map Wd.K3):=by
 induction cs with
 | nil=>rfl
 | cons c r ih=>
  show (W0 _).map _=_
  rw [ih]
  rfl
theorem b0G (cs:List Nat):a7S [.lst ((cs.map fun c=>D.str [c]).map a6H)]=some (.val (.bl (cs.all Wd.K3))):=by
 show (W0 _).bind _=_
 rw [b0W]
 show vB ((cs.map Wd.K3).all id)=_
 rw [List.all_map]
 rfl
theorem a8Q (cs:List Nat):((cs.map fun c=>D.str [c]).map a6H).all Z2=true:=by
 rw [List.all_map,List.all_map,List.all_eq_true]
 intro x _
 rfl
theorem a1g:∀ ds r,F4 ds=some r→A5 V9 1 [false] ds=some r:=by
 intro ds r h
 match ds,h with
 | [.str cs],h=>
  obtain ⟨hz,h⟩:=j8 h
  cases h
  have e1:L5 (.str cs) (.str [])=some (.val (.bl (decide (cs=[])))):=eq_str _ _
  have e2:C3 (.str cs) [.str [48]]=some (.val (.bl (decide (cs.head?=some 48)))):=a3I _ _
  have e3:E9 [.str cs]=some (.val (.int cs.length)):=k9 hz
  by_cases hb:cs=[]∨cs.head?=some 48∨9 < cs.length
  ·have hf:Wd.B3 cs=false:=by
    cases h:Wd.B3 cs with
    | false=>rfl
    | true=>
     obtain ⟨h1,h2,h3,h4⟩:=Wd.N6 h
     rcases hb with rfl | hb | hb
     ·simp at h1
     ·exact absurd hb h3
     ·omega
   rw [hf]
   apply m9
   ·apply D3
    apply C6
    ·walk_at "ev"
    ·simp only [Bool.or_eq_true,decide_eq_true_eq]
     rcases hb with h | h | h
     ·exact .inl h
     ·exact .inr (.inl h)
     ·exact .inr (.inr (by omega))
    ·walk_at "ev"
   ·rfl
  ·have hf:Wd.B3 cs=cs.all Wd.K3:=by
    have h1:cs.length≠0:=fun z=>hb (.inl (List.length_eq_zero_iff.mp z))
    have h2:¬ cs.head?=some 48:=fun z=>hb (.inr (.inl z))
    have h3:¬ 9 < cs.length:=fun z=>hb (.inr (.inr z))
    unfold Wd.B3
    rw [decide_eq_true (show 1≤cs.length by omega),decide_eq_false h2,decide_eq_true (show cs.length≤9 by omega)]
    rfl
   have hc:K4 (tgN 0) a0c (f7 inD (d7 0) (mC (.str Wd.FIG.cps.toList))) (O6 1 [] (A1 1 [false] [.str cs])) (cs.map fun c=>D.str [c])=some ((cs.map fun c=>D.str [c]).map a6H):=by
    apply a1j
    intro d hd
    obtain ⟨c,_,rfl⟩:=List.mem_map.mp hd
    have:=b0h c
    refine' ⟨_,_,_,_,rfl,?x,?y⟩
    case x=>walk_at "ev"
    case y=>rfl
   have ha:=b0G cs
   have hl:=a8Q cs
   have hz':small (cs.map fun c=>D.str [c]).length:=by rw [List.length_map]; exact hz
   have hm:=Z7 (mi:=L8 (d7 0)) (ρ:=A1 1 [false] [.str cs]) (by walk_at "ev") hz' hc (.inl hl)
   rw [hf]
   apply m9
   ·apply g5
    ·apply r8
     ·walk_at "ev"
     ·simp only [Bool.or_eq_false_iff,decide_eq_false_iff_not]
      exact ⟨fun z=>hb (.inl z),fun z=>hb (.inr (.inl z)),fun z=>hb (.inr (.inr (by omega)))⟩
     ·walk_at "ev"
    ·walk_at "ev"
   ·rfl
theorem a2f {cs:List Nat}(h:small cs.length):F4 [.str cs]=some (.ret (.val (.bl (Wd.B3 cs))) []):=k9 h
theorem a5G {cs:List Nat}(h:small cs.length):small (cs.drop 1).length:=by
 unfold small at *
 rw [List.length_drop]
 omega
theorem a2H:∀ ds r,o4 ds=some r→A5 a0d 2 [false] ds=some r:=by
 intro ds r h
 match ds,h with
 | [.str cs],h=>
  obtain ⟨hz,h⟩:=j8 h
  cases h
  have e1:L5 (.str cs) (.str [48])=some (.val (.bl (decide (cs=[48])))):=eq_str _ _
  have e2:C3 (.str cs) [.str [45]]=some (.val (.bl (decide (cs.head?=some 45)))):=a3I _ _
  have e3:slD (.str cs) (some 1) none=some (.val (.str (cs.drop 1))):=by
   show S4 _ _=_
   rw [k9 hz,show (some (1:Int))=some ((1:Nat):Int) from rfl,a7K]
  have f1:=a2f hz
  have f2:=a2f (a5G hz)
  unfold Wd.k7
  by_cases h0:cs=[48]
  ·rw [if_pos h0]
   apply m9
   ·apply D3
    apply C6
    ·walk_at "ev"
    ·exact decide_eq_true h0
    ·walk_at "ev"
   ·rfl
  ·rw [if_neg h0]
   by_cases hm:cs.head?=some 45
   ·rw [if_pos hm]
    by_cases hf:Wd.B3 (cs.drop 1)=true
    ·rw [if_pos hf]
     have hi:intD [.str cs]=some (.val (.int (-((Wd.val (cs.drop 1):Nat):Int)))):=by
      show (match intText? (tx cs) with | some n=>S4 (cs.length≤640) (vI n) | none=>none)=_
      rw [show tx cs=⟨cs.toArray⟩ from rfl,Wd.b0f hm hf]
      have:=(Wd.N6 hf).2.1
      rw [List.length_drop] at this
      exact k9 (by omega)
     rw [hf] at f2
     apply m9
     ·apply g5
      ·apply r8
       ·walk_at "ev"
       ·exact decide_eq_false h0
       ·walk_at "ev"
      ·apply g5
       ·apply m8
        ·apply a0K
         ·walk_at "ev"
         ·exact decide_eq_true hm
         ·walk_at "ev"
        ·rfl
       ·apply w6
        ·apply a0K
         ·walk_at "ev"
         ·rfl
         ·walk_at "ev"
        ·rfl
     ·rfl
    ·rw [if_neg hf]
     have hf':Wd.B3 (cs.drop 1)=false:=by simpa using hf
     rw [hf'] at f2
     apply m9
     ·apply g5
      ·apply r8
       ·walk_at "ev"
       ·exact decide_eq_false h0
       ·walk_at "ev"
      ·apply g5
       ·apply m8
        ·apply a0K
         ·walk_at "ev"
         ·exact decide_eq_true hm
         ·walk_at "ev"
        ·rfl
       ·apply w6
        ·apply a0O
         ·walk_at "ev"
         ·rfl
         ·walk_at "ev"
        ·rfl
     ·rfl
   ·rw [if_neg hm]
    by_cases hf:Wd.B3 cs=true
    ·rw [if_pos hf]
     have hi:intD [.str cs]=some (.val (.int ((Wd.val cs:Nat):Int))):=by
      show (match intText? (tx cs) with | some n=>S4 (cs.length≤640) (vI n) | none=>none)=_
      rw [show tx cs=⟨cs.toArray⟩ from rfl,Wd.b0t hf]
      have:=(Wd.N6 hf).2.1
      exact k9 (by omega)
     rw [hf] at f1
     apply m9
     ·apply g5
      ·apply r8
       ·walk_at "ev"
       ·exact decide_eq_false h0
       ·walk_at "ev"
      ·apply g5
       ·apply m8
        ·apply a0O
         ·walk_at "ev"
         ·exact decide_eq_false hm
         ·walk_at "ev"
        ·rfl
       ·apply w6
        ·apply a0K
         ·walk_at "ev"
         ·rfl
         ·walk_at "ev"
        ·rfl
     ·rfl
    ·rw [if_neg hf]
     have hf':Wd.B3 cs=false:=by simpa using hf
     rw [hf'] at f1
     apply m9
     ·apply g5
      ·apply r8
       ·walk_at "ev"
       ·exact decide_eq_false h0
       ·walk_at "ev"
      ·apply g5
       ·apply m8
        ·apply a0O
         ·walk_at "ev"
         ·exact decide_eq_false hm
         ·walk_at "ev"
        ·rfl
       ·apply w6
        ·apply a0O
         ·walk_at "ev"
         ·rfl
         ·walk_at "ev"
        ·rfl
     ·rfl
theorem a1b {cs:List Nat}(h:small cs.length):o4 [.str cs]=some (.ret (.val (N2 (Wd.k7 cs))) []):=k9 h
theorem b2L {p v:Int}(h:0 < v):a3a p v≠0:=by
 unfold a3a
 have h1:=Int.emod_nonneg (p / 2) (b:=v) (by omega)
 have h2:p % 2=0∨p % 2=1:=by omega
 rcases h2 with h2 | h2 <;> rw [h2]
 ·omega
 ·intro h
  omega
theorem a72 {ns:List Int}{b v most:Int}(h:0 < v):∀ l∈A6 ns b v most,l≠0:=by
 intro l hl
 obtain ⟨k,_,rfl⟩:=List.mem_map.mp hl
 exact b2L h
theorem a6r {ns:List Int}{b v most:Int}(h:0≤most)(h':most < 997):(A6 ns b v most).length≤1000:=by
 unfold A6
 rw [List.length_map,List.length_range]
 have:=a4C (B4 ns b) most h
 omega
theorem a6i (ns:List Int)(b:Int):0 < (z9 ns b).1∧(z9 ns b).1≤4:=by
 have h1:=Int.emod_nonneg (B4 ns b) (b:=4) (by decide)
 have h2:=Int.emod_lt_of_pos (B4 ns b) (b:=4) (by decide)
 show 0 < 1 + B4 ns b % 4∧1 + B4 ns b % 4≤4
 omega
theorem a88 (ns:List Int)(b:Int):(z9 ns b).2.length≤8:=by
 have h1:=Int.emod_nonneg (B4 ns (b + 1)) (b:=9) (by decide)
 have h2:=Int.emod_lt_of_pos (B4 ns (b + 1)) (b:=9) (by decide)
 show ((List.range (B4 ns (b + 1) % 9).toNat).map _).length≤8
 rw [List.length_map,List.length_range]
 omega
theorem b0V {ns:List Int}{b:Int}{c:List Int}(h:c∈(z9 ns b).2):c.length≤1000∧∀ l∈c,l≠0:=by
 obtain ⟨k,_,rfl⟩:=List.mem_map.mp h
 exact ⟨a6r (by decide) (by decide),a72 (a6i ns b).1⟩
theorem a2K {ns:List Int}{b:Int}:C5 [.lst (ns.map D.int),.int b]=some (.ret (.val (.tup [.int (z9 ns b).1,.lst (A3 (z9 ns b).2)])) []):=by
 show (intsOf (ns.map D.int)).map _=_
 rw [O5]
 rfl
theorem a08:∀ ds r,C5 ds=some r→A5 V5 4 [false,false] ds=some r:=by
 intro ds r h
 match ds,h with
 | [.lst ds,.int b],h=>
  cases hb:intsOf ds with
  | none=>have h':(intsOf ds).map _=some r:=h; rw [hb] at h'; cases h'
  | some ns=>
   have:=T3 hb
   subst this
   rw [a2K] at h
   cases h
   have hv:=a6i ns b
   have h1:=Int.emod_nonneg (B4 ns (b + 1)) (b:=9) (by decide)
   have h2:=Int.emod_lt_of_pos (B4 ns (b + 1)) (b:=9) (by decide)
   have hS:∃ S,S=B4 ns (b + 1) % 9:=⟨_,rfl⟩
   obtain ⟨S,hS⟩:=hS
   have hV:∃ v,v=(z9 ns b).1:=⟨_,rfl⟩
   obtain ⟨v,hV⟩:=hV
   have e2:(z9 ns b).2=(List.range S.toNat).map fun (k:Nat)=>A6 ns (b + 2 + 5 * (k:Int)) v 4:=by rw [hS,hV]; rfl
   rw [← hV] at hv ⊢
   rw [e2]
   rw [← hS] at h1 h2
   have hi:ints1 [.int S]=some ((List.range S.toNat).map fun k=>D.int (0 + ((k:Nat):Int))):=k9 ⟨by omega,by omega⟩
   have hc:K4 (tgN 0) a0c (k8 [false,false,false,false] D8 (c6 (d7 1) (c6 (f7 l5 (f7 l5 (d7 2) (mC (.int 2))) (f7 a1E (mC (.int 5)) (d7 0))) (c6 (d7 3) (c6 (mC (.int 4)) g8))))) [none,some (.sh (.lst (ns.map D.int))),some (.sh (.int b)),some (.sh (.int v))] ((List.range S.toNat).map fun k=>D.int (0 + ((k:Nat):Int)))=some (A3 ((List.range S.toNat).map fun (k:Nat)=>A6 ns (b + 2 + 5 * (k:Int)) v 4)):=by
    rw [show A3 ((List.range S.toNat).map fun (k:Nat)=>A6 ns (b + 2 + 5 * (k:Int)) v 4)=((List.range S.toNat).map fun k=>D.int (0 + ((k:Nat):Int))).map (fun d=>D.tup ((A6 ns (b + 2 + 5 * (toI d)) v 4).map D.int)) by
     unfold A3
     rw [List.map_map,List.map_map]
     refine List.map_congr_left fun k _=>?_
     show D.tup ((A6 ns (b + 2 + 5 * (k:Int)) v 4).map D.int)=D.tup ((A6 ns (b + 2 + 5 * (0 + (k:Int))) v 4).map D.int)
     rw [Int.zero_add]]
    apply a1j
    intro d hd
    obtain ⟨k,_,rfl⟩:=List.mem_map.mp hd
    show ∃ ρ1 w ρ2 ρ3,_∧_∧D7 w ρ2=some (.ok (D.tup ((A6 ns (b + 2 + 5 * (0 + (k:Int))) v 4).map D.int)) ρ3)
    generalize (0:Int) + (k:Int)=j
    have fc:=a3l (ns:=ns) (b:=b + 2 + 5 * j) (v:=v) (most:=4) hv.1 (by omega) (by decide) (by decide)
    exact ⟨[some (.sh (.int j)),some (.sh (.lst (ns.map D.int))),some (.sh (.int b)),some (.sh (.int v))],.val (.tup ((A6 ns (b + 2 + 5 * j) v 4).map D.int)),[some (.sh (.int j)),some (.sh (.lst (ns.map D.int))),some (.sh (.int b)),some (.sh (.int v))],[some (.sh (.int j)),some (.sh (.lst (ns.map D.int))),some (.sh (.int b)),some (.sh (.int v))],rfl,
     u7 (c9 (d9 rfl) (c9 (i6 (i6 (d9 rfl) j5 rfl rfl rfl) (i6 j5 (d9 rfl) rfl rfl (a7h (.inl ⟨by decide,by decide⟩))) rfl rfl rfl) (c9 (d9 rfl) (c9 j5 g7)))) rfl rfl fc rfl rfl,rfl⟩
   have m1:=Z7 (mi:=a75 ints1 (c6 (d7 3) g8)) (own:=1) (fr:=[0,1,2]) (ρ:=[some (.sh (.lst (ns.map D.int))),some (.sh (.int b)),some (.sh (.int v)),some (.sh (.int S))]) (ρ1:=[some (.sh (.lst (ns.map D.int))),some (.sh (.int b)),some (.sh (.int v)),some (.sh (.int S))]) (a9m (c9 (d9 rfl) g7) rfl hi) (by unfold small; rw [List.length_map,List.length_range]; omega) hc (.inr rfl)
   have s1:m6 2 (f7 l5 (mC (.int 1)) (f7 F2 (k8 [false,false] j9 (c6 (d7 0) (c6 (d7 1) g8))) (mC (.int 4)))) (A1 4 [false,false] [.lst (ns.map D.int),.int b])=some (.nx [some (.sh (.lst (ns.map D.int))),some (.sh (.int b)),some (.sh (.int v)),none]):=by
    rw [hV]
    exact m8 (i6 j5 (i6 (u7 (c9 (d9 rfl) (c9 (d9 rfl) g7)) rfl rfl a1l rfl rfl) j5 rfl rfl (U4 (by decide))) rfl rfl rfl) rfl
   have s2:m6 3 (f7 F2 (k8 [false,false] j9 (c6 (d7 0) (c6 (f7 l5 (d7 1) (mC (.int 1))) g8))) (mC (.int 9))) [some (.sh (.lst (ns.map D.int))),some (.sh (.int b)),some (.sh (.int v)),none]=some (.nx [some (.sh (.lst (ns.map D.int))),some (.sh (.int b)),some (.sh (.int v)),some (.sh (.int S))]):=by
    rw [hS]
    exact m8 (i6 (u7 (c9 (d9 rfl) (c9 (i6 (d9 rfl) j5 rfl rfl rfl) g7)) rfl rfl a1l rfl rfl) j5 rfl rfl (U4 (by decide))) rfl
   exact m9 (g5 s1 (g5 s2 (w6 (T7 (c9 (d9 rfl) (c9 m1 g7)) rfl (Nat.le_of_ble_eq_true rfl)) rfl))) rfl
theorem a6y {i:Nat}{l:Bool}{ds:List D}{d:D}{ρ:i9}(h:ρ[i]?=some (some (.ow l (.lst ds))))(hd:ds.getLast?=some d):a4i i ρ=some (.ok (.val d) (ρ.set i (some (.ow l (.lst ds.dropLast))))):=by
 unfold a4i
 rw [M.f9 (d9 h)]
 have hc:chk "list" (.slot i) ρ=some (.ok () ρ):=by
  unfold chk getD
  simp only [h]
  rfl
 rw [M.f9 hc]
 unfold a8H
 rw [h]
 have e:ds[ds.length - 1]?=some d:=by rw [← List.getLast?_eq_getElem?]; exact hd
 simp only [e]
theorem a3w (n:Option Int)(m:Int):B0 [N2 n,.int m]=some (.ret (.val (.bl (Wd.within n m))) []):=by
 cases n with
 | none=>rfl
 | some k=>exact m9 (w6 (a0Q (k:=true) (a2F (d9 rfl) rfl rfl) rfl rfl (a4P j5 (d9 rfl) rfl rfl rfl (d9 rfl) rfl rfl)) rfl) rfl
theorem a5H (n:Option Int)(v:Int):E4 [N2 n,.int v]=some (.ret (.val (.bl (Wd.isLit v n))) []):=by
 cases n with
 | none=>rfl
 | some k=>exact m9 (w6 (a0Q (k:=true) (a2F (d9 rfl) rfl rfl) rfl rfl (a4P j5 (J1 (c9 (d9 rfl) g7) rfl rfl) rfl rfl rfl (d9 rfl) rfl rfl)) rfl) rfl
noncomputable def headD:Option (Int×Int)→D
 | none=>.t6
 | some (v,n)=>.tup [.int v,.int n]
theorem len_strs (ws:List (List Nat)):E9 [.lst (ws.map D.str)]=some (.val (.int (ws.length:Nat))):=by
 show some (W.val (.int _))=_
 rw [List.length_map]
theorem N1 (c:Nat):∀ (cs:List Nat),∀ p∈Wd.i8 c cs,p.length≤cs.length
 | [],p,hp=>by
  have:p=[]:=by simpa [Wd.i8] using hp
  rw [this]
  exact Nat.le_refl _
 | x::xs,p,hp=>by
  have ih:=N1 c xs
  unfold Wd.i8 at hp
  split at hp
  ·rcases List.mem_cons.mp hp with rfl | hp
   ·simp
   ·have:=ih p hp; simp; omega
  ·obtain ⟨q,qs,e⟩:=Wd.K6 c xs
   rw [e] at hp ih
   simp only [] at hp
   rcases List.mem_cons.mp hp with rfl | hp
   ·have:=ih q List.mem_cons_self; simp; omega
   ·have:=ih p (List.mem_cons_of_mem _ hp); simp; omega
theorem b1k {cs:List Nat}(h:cs.length≤100000):K7 [.str cs]=some (.ret (.val (headD (Wd.O3 cs))) []):=by
 have hs:N9 (.str cs) [.str [32]]=some (.own (.lst ((Wd.i8 32 cs).map D.str))):=k9 ⟨by decide,by omega⟩
 have hp:=N1 32 cs
 have s1:m6 1 (mMt "str" N9 (d7 0) (c6 (mC (.str [32])) g8)) (A1 4 [false] [.str cs])=some (.nx [some (.sh (.str cs)),some (.ow false (.lst ((Wd.i8 32 cs).map D.str))),none,none]):=m8 (X6 (d9 rfl) rfl rfl (c9 j5 g7) rfl rfl hs) rfl
 have hl:=len_strs (Wd.i8 32 cs)
 have c1:A8 (f7 X7 (L6 E9 (c6 (d7 1) g8)) (mC (.int 3))) [some (.sh (.str cs)),some (.ow false (.lst ((Wd.i8 32 cs).map D.str))),none,none]=some (.ok (!decide (((Wd.i8 32 cs).length:Int)=3)) [some (.sh (.str cs)),some (.ow false (.lst ((Wd.i8 32 cs).map D.str))),none,none]):=F0 (i6 (J1 (c9 (d9 rfl) g7) rfl hl) j5 rfl rfl (ne_int _ _))
 unfold Wd.O3
 generalize Wd.i8 32 cs=ws at *
 by_cases hne:ws.length=3
 ·match ws,hne,hp,c1,s1 with
  | [w0,w1,w2],_,hp,c1,s1=>
   have i0:M1 (.lst ([w0,w1,w2].map D.str)) (.int 0)=some (.val (.str w0)):=rfl
   have i1:M1 (.lst ([w0,w1,w2].map D.str)) (.int 1)=some (.val (.str w1)):=rfl
   have i2:M1 (.lst ([w0,w1,w2].map D.str)) (.int 2)=some (.val (.str w2)):=rfl
   have c2:A8 (f7 X7 (f7 M1 (d7 1) (mC (.int 0))) (mC (.str [102,111,114,109,117,108,97]))) [some (.sh (.str cs)),some (.ow false (.lst ([w0,w1,w2].map D.str))),none,none]=some (.ok (!decide (w0=Wd.B9)) [some (.sh (.str cs)),some (.ow false (.lst ([w0,w1,w2].map D.str))),none,none]):=F0 (i6 (i6 (d9 rfl) j5 rfl rfl i0) j5 rfl rfl (ne_str _ _))
   have cc:=b3M c1 rfl c2
   by_cases hf:w0=Wd.B9
   ·have f1:=a1b (cs:=w1) (F9 (by have:=hp w1 (by simp); omega))
    have f2:=a1b (cs:=w2) (F9 (by have:=hp w2 (by simp); omega))
    have s2:m6 2 (k8 [false] o4 (c6 (f7 M1 (d7 1) (mC (.int 1))) g8)) [some (.sh (.str cs)),some (.ow false (.lst ([w0,w1,w2].map D.str))),none,none]=some (.nx [some (.sh (.str cs)),some (.ow false (.lst ([w0,w1,w2].map D.str))),some (.sh (N2 (Wd.k7 w1))),none]):=m8 (u7 (c9 (i6 (d9 rfl) j5 rfl rfl i1) g7) rfl rfl f1 rfl rfl) rfl
    have s3:m6 3 (k8 [false] o4 (c6 (f7 M1 (d7 1) (mC (.int 2))) g8)) [some (.sh (.str cs)),some (.ow false (.lst ([w0,w1,w2].map D.str))),some (.sh (N2 (Wd.k7 w1))),none]=some (.nx [some (.sh (.str cs)),some (.ow false (.lst ([w0,w1,w2].map D.str))),some (.sh (N2 (Wd.k7 w1))),some (.sh (N2 (Wd.k7 w2)))]):=m8 (u7 (c9 (i6 (d9 rfl) j5 rfl rfl i2) g7) rfl rfl f2 rfl rfl) rfl
    have t1:a0v (k8 [false,false] B0 (c6 (d7 2) (c6 (mC (.int 12)) g8))) [some (.sh (.str cs)),some (.ow false (.lst ([w0,w1,w2].map D.str))),some (.sh (N2 (Wd.k7 w1))),some (.sh (N2 (Wd.k7 w2)))]=some (.ok (Wd.within (Wd.k7 w1) 12) [some (.sh (.str cs)),some (.ow false (.lst ([w0,w1,w2].map D.str))),some (.sh (N2 (Wd.k7 w1))),some (.sh (N2 (Wd.k7 w2)))]):=a1h (u7 (c9 (d9 rfl) (c9 j5 g7)) rfl rfl (a3w (Wd.k7 w1) 12) rfl rfl) rfl rfl
    have t2:a0v (k8 [false,false] B0 (c6 (d7 3) (c6 (mC (.int 60)) g8))) [some (.sh (.str cs)),some (.ow false (.lst ([w0,w1,w2].map D.str))),some (.sh (N2 (Wd.k7 w1))),some (.sh (N2 (Wd.k7 w2)))]=some (.ok (Wd.within (Wd.k7 w2) 60) [some (.sh (.str cs)),some (.ow false (.lst ([w0,w1,w2].map D.str))),some (.sh (N2 (Wd.k7 w1))),some (.sh (N2 (Wd.k7 w2)))]):=a1h (u7 (c9 (d9 rfl) (c9 j5 g7)) rfl rfl (a3w (Wd.k7 w2) 60) rfl rfl) rfl rfl
    have tt:=a9P t1 t2
    have ccF:(!decide (w0=Wd.B9))=false:=by rw [decide_eq_true hf]; rfl
    show _=some (FR.ret (.val (headD (if w0=Wd.B9 then (if (Wd.within (Wd.k7 w1) 12 && Wd.within (Wd.k7 w2) 60)=true then some ((Wd.k7 w1).getD 0,(Wd.k7 w2).getD 0) else none) else none))) [])
    rw [if_pos hf]
    cases hw:(Wd.within (Wd.k7 w1) 12 && Wd.within (Wd.k7 w2) 60) with
    | false=>
     rw [if_neg (by decide)]
     exact m9 (g5 s1 (g5 (r8 cc ccF B5) (g5 s2 (g5 s3 (g5 (r8 tt hw B5) (w6 j5 rfl)))))) rfl
    | true=>
     rw [if_pos rfl]
     rw [Bool.and_eq_true] at hw
     obtain ⟨a,ha⟩:∃ a,Wd.k7 w1=some a:=by cases hz:Wd.k7 w1 with | none=>rw [hz] at hw; cases hw.1 | some a=>exact ⟨a,rfl⟩
     obtain ⟨b,hb⟩:∃ b,Wd.k7 w2=some b:=by cases hz:Wd.k7 w2 with | none=>rw [hz] at hw; cases hw.2 | some b=>exact ⟨b,rfl⟩
     have ht:(Wd.within (Wd.k7 w1) 12 && Wd.within (Wd.k7 w2) 60)=true:=by rw [hw.1,hw.2]; rfl
     rw [ha] at s2
     rw [ha,hb] at s3 tt ht ⊢
     exact m9 (g5 s1 (g5 (r8 cc ccF B5) (g5 s2 (g5 s3 (D3 (C6 tt ht (w6 (T7 (c9 (d9 rfl) (c9 (d9 rfl) g7)) rfl (Nat.le_of_ble_eq_true rfl)) rfl))))))) rfl
   ·show _=some (FR.ret (.val (headD (if w0=Wd.B9 then _ else none))) [])
    rw [if_neg hf]
    exact m9 (g5 s1 (D3 (C6 cc (by rw [decide_eq_false hf]; rfl) (w6 j5 rfl)))) rfl
 ·split
  ·exact absurd rfl hne
  exact m9 (g5 s1 (D3 (C6 (b2v c1 (by rw [decide_eq_false (by omega)]; rfl)) rfl (w6 j5 rfl)))) rfl
theorem O8 (c:Nat):∀ (cs:List Nat),(Wd.i8 c cs).length≤cs.length + 1
 | []=>Nat.le_refl _
 | x::xs=>by
  have ih:=O8 c xs
  unfold Wd.i8
  split
  ·simp only [List.length_cons]; omega
  ·obtain ⟨q,qs,e⟩:=Wd.K6 c xs
   rw [e] at ih ⊢
   simp only [List.length_cons] at ih ⊢
   omega
theorem X5 (c:Nat)(cs:List Nat):∃ ini l,Wd.i8 c cs=ini++[l]:=by
 obtain ⟨q,qs,e⟩:=Wd.K6 c cs
 rw [e]
 exact ⟨(q::qs).dropLast,(q::qs).getLast (by simp),(List.dropLast_concat_getLast (by simp)).symm⟩
noncomputable def clD:Option (List Int)→D
 | none=>.t6
 | some c=>.tup (c.map D.int)
theorem a4O {v:Int}:∀ {os:List (Option Int)},os.all (Wd.isLit v)=true→os.map N2=(os.map fun o=>o.getD 0).map D.int
 | [],_=>rfl
 | o::r,h=>by
  rw [List.all_cons,Bool.and_eq_true] at h
  have ih:=a4O h.2
  rw [List.map_cons,List.map_cons,List.map_cons,ih]
  cases o with
  | none=>cases h.1
  | some n=>rfl
theorem a7Y {cs:List Nat}{ini:List (List Nat)}{l:List Nat}(v:Int)(e:Wd.i8 32 cs=ini++[l]):Wd.t9 cs v=if l=[48] then (if (ini.map Wd.k7).all (Wd.isLit v)=true then some ((ini.map Wd.k7).map fun o=>o.getD 0) else none) else none:=by
 unfold Wd.t9
 rw [e,List.getLast?_concat,List.dropLast_concat]
 by_cases h:l=[48]
 ·rw [if_pos h,if_pos (by rw [h])]
 ·rw [if_neg h,if_neg (fun z=>h (Option.some.inj z))]
theorem a5n {cs:List Nat}(v:Int)(h:cs.length≤100000):F5 [.str cs,.int v]=some (.ret (.val (clD (Wd.t9 cs v))) []):=by
 obtain ⟨ini,l,e⟩:=X5 32 cs
 have hp:=N1 32 cs
 have hz:=O8 32 cs
 have hs:N9 (.str cs) [.str [32]]=some (.own (.lst ((Wd.i8 32 cs).map D.str))):=k9 ⟨by decide,by omega⟩
 rw [a7Y v e]
 rw [e] at hp hz hs
 rw [List.length_append,List.length_singleton] at hz
 rw [List.map_append] at hs
 have s1:m6 2 (mMt "str" N9 (d7 0) (c6 (mC (.str [32])) g8)) (A1 4 [false,false] [.str cs,.int v])=some (.nx [some (.sh (.str cs)),some (.sh (.int v)),some (.ow false (.lst (ini.map D.str++[D.str l]))),none]):=m8 (X6 (d9 rfl) rfl rfl (c9 j5 g7) rfl rfl hs) rfl
 have hpop:a4i 2 [some (.sh (.str cs)),some (.sh (.int v)),some (.ow false (.lst (ini.map D.str++[D.str l]))),none]=some (.ok (.val (.str l)) [some (.sh (.str cs)),some (.sh (.int v)),some (.ow false (.lst (ini.map D.str))),none]):=by
  have p:=a6y (i:=2) (ρ:=[some (.sh (.str cs)),some (.sh (.int v)),some (.ow false (.lst (ini.map D.str++[D.str l]))),none]) rfl (List.getLast?_concat)
  rw [List.dropLast_concat] at p
  exact p
 have c1:A8 (f7 X7 (a4i 2) (mC (.str [48]))) [some (.sh (.str cs)),some (.sh (.int v)),some (.ow false (.lst (ini.map D.str++[D.str l]))),none]=some (.ok (!decide (l=[48])) [some (.sh (.str cs)),some (.sh (.int v)),some (.ow false (.lst (ini.map D.str))),none]):=F0 (i6 hpop j5 rfl rfl (ne_str _ _))
 by_cases hl:l=[48]
 ·rw [if_pos hl]
  have hc:K4 (tgN 0) a0c (k8 [false] o4 (c6 (d7 0) g8)) [none] (ini.map D.str)=some (ini.map fun w=>N2 (Wd.k7 w)):=a2S fun w hw=>⟨_,_,_,_,rfl,u7 (c9 (d9 rfl) g7) rfl rfl (a1b (cs:=w) (F9 (by have:=hp w (List.mem_append_left _ hw); omega))) rfl rfl,rfl⟩
  have ec:(ini.map fun w=>N2 (Wd.k7 w))=(ini.map Wd.k7).map N2:=by rw [List.map_map]; rfl
  rw [ec] at hc
  have m1:=Z7 (mi:=L8 (d7 2)) (own:=1) (fr:=[]) (ρ:=[some (.sh (.str cs)),some (.sh (.int v)),some (.ow false (.lst (ini.map D.str))),none]) (ρ1:=[some (.sh (.str cs)),some (.sh (.int v)),some (.sh (.lst (ini.map D.str))),none]) (Z5 (d9 rfl) rfl rfl) (F9 (by rw [List.length_map]; omega)) hc (.inr rfl)
  have s3:m6 3 (V6 (L8 (d7 2)) (tgN 0) a0c (k8 [false] o4 (c6 (d7 0) g8)) 1 []) [some (.sh (.str cs)),some (.sh (.int v)),some (.ow false (.lst (ini.map D.str))),none]=some (.nx [some (.sh (.str cs)),some (.sh (.int v)),some (.sh (.lst (ini.map D.str))),some (.ow false (.lst ((ini.map Wd.k7).map N2)))]):=m8 m1 rfl
  have hiz:(ini.map Wd.k7).length≤100000 + 1:=by rw [List.length_map]; omega
  generalize hos:ini.map Wd.k7=os at *
  have hc2:K4 (tgN 0) a0c (k8 [false,false] E4 (c6 (d7 0) (c6 (d7 1) g8))) [none,some (.sh (.int v))] (os.map N2)=some (os.map fun o=>D.bl (Wd.isLit v o)):=a2S fun o _=>⟨_,_,_,_,rfl,u7 (c9 (d9 rfl) (c9 (d9 rfl) g7)) rfl rfl (a5H o v) rfl rfl,rfl⟩
  have ec2:(os.map fun o=>D.bl (Wd.isLit v o))=(os.map (Wd.isLit v)).map D.bl:=by rw [List.map_map]; rfl
  rw [ec2] at hc2
  have m2:=Z7 (mi:=L8 (d7 3)) (own:=1) (fr:=[1]) (ρ:=[some (.sh (.str cs)),some (.sh (.int v)),some (.sh (.lst (ini.map D.str))),some (.ow false (.lst (os.map N2)))]) (ρ1:=[some (.sh (.str cs)),some (.sh (.int v)),some (.sh (.lst (ini.map D.str))),some (.sh (.lst (os.map N2)))]) (Z5 (d9 rfl) rfl rfl) (by unfold small; rw [List.length_map]; omega) hc2 (.inl (a9L _))
  have al:=b1A (os.map (Wd.isLit v))
  have ea:(os.map (Wd.isLit v)).all id=os.all (Wd.isLit v):=by rw [List.all_map]; rfl
  rw [ea] at al
  have c2:=a1h (J1 (c9 m2 g7) rfl al) rfl (k:=os.all (Wd.isLit v)) rfl
  have k1:(!decide (l=[48]))=false:=by rw [decide_eq_true hl]; rfl
  cases ha:os.all (Wd.isLit v) with
  | false=>
   rw [if_neg Bool.false_ne_true]
   exact m9 (g5 s1 (g5 (r8 c1 k1 B5) (g5 s3 (g5 (r8 c2 ha B5) (w6 j5 rfl))))) rfl
  | true=>
   rw [if_pos rfl]
   show _=some (FR.ret (.val (.tup ((os.map fun o=>o.getD 0).map D.int))) [])
   rw [← a4O ha]
   exact m9 (g5 s1 (g5 (r8 c1 k1 B5) (g5 s3 (D3 (C6 c2 ha (w6 (J1 (c9 (d9 rfl) g7) rfl rfl) rfl)))))) rfl
 ·rw [if_neg hl]
  exact m9 (g5 s1 (D3 (C6 c1 (by rw [decide_eq_false hl]; rfl) (w6 j5 rfl)))) rfl
theorem b3e {tg:FT}{b:SM}{d:D}{ds:List D}{ρ ρ1 ρ2:i9}{x:Exn}(h1:tg d ρ=some ρ1)(h2:b ρ1=some (.ex x ρ2)):forL tg b (d::ds) ρ=some (.ex x ρ2):=by
 unfold forL
 rw [h1]
 show (match b ρ1 with | _=>_)=_
 rw [h2]
theorem b1g (x:D)(ds:List D){n:Int}(h:0≤n):cutD (x::ds) (some 1) (some (n + 1))=ds.take n.toNat:=by
 obtain ⟨k,rfl⟩:=Int.eq_ofNat_of_zero_le h
 have e1:HT.v5 (x::ds).length 0 (some 1)=1:=by
  have:=HT.Z6 (x::ds).length 0 1
  rw [List.length_cons] at this ⊢
  rw [show ((1:Nat):Int)=1 from rfl] at this
  rw [this]
  omega
 have e2:HT.v5 (x::ds).length (x::ds).length (some ((k:Int) + 1))=min (k + 1) (ds.length + 1):=by
  have:=HT.Z6 (x::ds).length (x::ds).length (k + 1)
  rw [show ((k + 1:Nat):Int)=(k:Int) + 1 from rfl] at this
  rw [this,List.length_cons]
 unfold cutD
 rw [e1,e2]
 show ds.take _=ds.take _
 rw [Int.toNat_natCast]
 by_cases hk:k≤ds.length
 ·congr 1
  omega
 ·rw [List.take_of_length_le (by omega),List.take_of_length_le (by omega)]
noncomputable def xF (n:Int):Exn:=⟨"NoFormula",[("line",.int n)]⟩
noncomputable def rdE (t:List Nat)(ini:List (List Nat))(l:List Nat)(v n:Int)(acc:List (List Int))(o7 o8:Option C):i9:=[some (.sh (.str t)),some (.ow false (.lst (ini.map D.str))),some (.sh (.str l)),some (.sh (.tup [.int v,.int n])),some (.sh (.int v)),some (.sh (.int (n + 1))),some (.ow false (.lst (A3 acc))),o7,o8]
theorem a3L (t:List Nat)(ini:List (List Nat))(l:List Nat)(v n:Int):∀ (ls:List (List Nat)) (acc:List (List Int)) (o7 o8:Option C),acc.length + ls.length≤100→(∀ p∈ls,p.length≤100000)→
  (∀ k,Wd.n5 v ls=.inl k→∃ acc' o7' o8',forL (tgN 7) N8 (ls.map D.str) (rdE t ini l v n acc o7 o8)=some (.ex (xF ((acc.length:Int) + k + 2)) (rdE t ini l v n acc' o7' o8')))∧
  (∀ cs,Wd.n5 v ls=.inr cs→∃ o7' o8',forL (tgN 7) N8 (ls.map D.str) (rdE t ini l v n acc o7 o8)=some (.nx (rdE t ini l v n (acc++cs) o7' o8')))
 | [],acc,o7,o8,_,_=>⟨fun k h=>(by cases h),fun cs h=>by cases h; rw [List.append_nil]; exact ⟨o7,o8,rfl⟩⟩
 | p::r,acc,o7,o8,hn,hp=>by
  rw [List.length_cons] at hn
  have s1:m6 8 (k8 [false,false] F5 (c6 (d7 7) (c6 (d7 4) g8))) (rdE t ini l v n acc (some (.sh (.str p))) o8)=some (.nx (rdE t ini l v n acc (some (.sh (.str p))) (some (.sh (clD (Wd.t9 p v)))))):=m8 (u7 (c9 (d9 rfl) (c9 (d9 rfl) g7)) rfl rfl (a5n v (hp p List.mem_cons_self)) rfl rfl) rfl
  have el:E9 [.lst (A3 acc)]=some (.val (.int (acc.length:Nat))):=by
   show some (W.val (.int _))=_
   rw [a0N]
  have ex:Wd.n5 v (p::r)=match Wd.t9 p v with | none=>.inl 0 | some c=>(match Wd.n5 v r with | .inl k=>.inl (k + 1) | .inr cs=>.inr (c::cs)):=rfl
  rw [ex]
  cases hc:Wd.t9 p v with
  | none=>
   rw [hc] at s1
   refine ⟨fun k h=>?_,fun cs h=>(by cases h)⟩
   have hk:k=0:=by cases h; rfl
   subst hk
   refine ⟨acc,some (.sh (.str p)),some (.sh .t6),?_⟩
   have r1:U8 "NoFormula" "line" (c6 (f7 l5 (L6 E9 (c6 (d7 6) g8)) (mC (.int 2))) g8) (rdE t ini l v n acc (some (.sh (.str p))) (some (.sh .t6)))=some (.ex (xF ((acc.length:Int) + 2)) (rdE t ini l v n acc (some (.sh (.str p))) (some (.sh .t6)))):=a01 (c9 (i6 (J1 (c9 (d9 rfl) g7) rfl el) j5 rfl rfl rfl) g7) rfl (by omega) (by omega)
   rw [List.map_cons,show (acc.length:Int) + ((0:Nat):Int) + 2=(acc.length:Int) + 2 by omega]
   exact b3e rfl (g5 s1 (a1T (C6 (F0 (a2F (d9 rfl) rfl rfl)) rfl r1)))
  | some c=>
   rw [hc] at s1
   have ih:=a3L t ini l v n r (acc++[c]) (some (.sh (.str p))) (some (.sh (.tup (c.map D.int)))) (by rw [List.length_append,List.length_singleton]; omega) fun q hq=>hp q (List.mem_cons_of_mem _ hq)
   have ea:A3 (acc++[c])=A3 acc++[D.tup (c.map D.int)]:=by unfold A3; rw [List.map_append]; rfl
   have s3:P7 (N5 6 (c6 (d7 8) g8)) (rdE t ini l v n acc (some (.sh (.str p))) (some (.sh (.tup (c.map D.int)))))=some (.nx (rdE t ini l v n (acc++[c]) (some (.sh (.str p))) (some (.sh (.tup (c.map D.int)))))):=by
    unfold rdE
    rw [ea]
    exact a6T rfl (c9 (d9 rfl) g7) rfl rfl (F9 (by rw [a0N]; omega)) rfl
   have c2:A8 (mUn (fun d=>vB (G7 d)) (d7 8)) (rdE t ini l v n acc (some (.sh (.str p))) (some (.sh (.tup (c.map D.int)))))=some (.ok false (rdE t ini l v n acc (some (.sh (.str p))) (some (.sh (.tup (c.map D.int)))))):=F0 (a2F (d9 rfl) rfl rfl)
   have body:N8 (rdE t ini l v n acc (some (.sh (.str p))) o8)=some (.nx (rdE t ini l v n (acc++[c]) (some (.sh (.str p))) (some (.sh (.tup (c.map D.int)))))):=g5 s1 (g5 (r8 c2 rfl B5) s3)
   have al:((acc++[c]).length:Int)=(acc.length:Int) + 1:=by rw [List.length_append,List.length_singleton]; rfl
   cases hr:Wd.n5 v r with
   | inl k0=>
    refine ⟨fun k h=>?_,fun cs h=>(by cases h)⟩
    have hk:k=k0 + 1:=by cases h; rfl
    subst hk
    obtain ⟨acc',o7',o8',e⟩:=ih.1 k0 hr
    refine ⟨acc',o7',o8',?_⟩
    rw [al,show (acc.length:Int) + 1 + (k0:Int) + 2=(acc.length:Int) + ((k0 + 1:Nat):Int) + 2 by omega] at e
    exact a6m rfl body e
   | inr cs0=>
    refine ⟨fun k h=>(by cases h),fun cs h=>?_⟩
    have hk:cs=c::cs0:=by cases h; rfl
    subst hk
    obtain ⟨o7',o8',e⟩:=ih.2 cs0 hr
    refine ⟨o7',o8',?_⟩
    rw [List.append_assoc] at e
    exact a6m rfl body e
noncomputable def b14:Sum Int (Int×List (List Int))→FR
 | .inl n=>.exc (xF n) []
 | .inr (v,cs)=>.ret (.val (.tup [.int v,.lst (A3 cs)])) []
theorem a33 {n:Option Int}{m:Int}(h:Wd.within n m=true):0≤n.getD 0∧n.getD 0≤m:=by
 cases n with
 | none=>cases h
 | some k=>
  have h':(decide (0≤k) && decide (k≤m))=true:=h
  rw [Bool.and_eq_true,decide_eq_true_eq,decide_eq_true_eq] at h'
  exact h'
theorem b0i {l:List Nat}{v n:Int}(h:Wd.O3 l=some (v,n)):0≤n∧n≤60:=by
 unfold Wd.O3 at h
 split at h
 ·split at h
  ·split at h
   ·rename_i hw
    rw [Bool.and_eq_true] at hw
    cases h
    exact a33 hw.2
   ·cases h
  ·cases h
 ·cases h
theorem S7 {v:Int}:∀ {ls:List (List Nat)} {cs:List (List Int)},Wd.n5 v ls=.inr cs→cs.length=ls.length
 | [],cs,h=>by cases h; rfl
 | p::r,cs,h=>by
  have ex:Wd.n5 v (p::r)=match Wd.t9 p v with | none=>.inl 0 | some c=>(match Wd.n5 v r with | .inl k=>.inl (k + 1) | .inr cs=>.inr (c::cs)):=rfl
  rw [ex] at h
  cases hc:Wd.t9 p v with
  | none=>rw [hc] at h; cases h
  | some c=>
   rw [hc] at h
   cases hr:Wd.n5 v r with
   | inl k=>rw [hr] at h; cases h
   | inr cs0=>
    rw [hr] at h
    have hk:c::cs0=cs:=by cases h; rfl
    subst hk
    rw [List.length_cons,List.length_cons,S7 hr]
theorem a6L {t:List Nat}(h:t.length≤90000):Q6 [.str t]=some (b14 (Wd.readM t)):=by
 obtain ⟨ini,l,e⟩:=X5 10 t
 have hp:=N1 10 t
 have hs:N9 (.str t) [.str [10]]=some (.own (.lst ((Wd.i8 10 t).map D.str))):=k9 ⟨by decide,by omega⟩
 rw [e] at hp hs
 rw [List.map_append] at hs
 have s1:m6 1 (mMt "str" N9 (d7 0) (c6 (mC (.str [10])) g8)) (A1 9 [false] [.str t])=some (.nx [some (.sh (.str t)),some (.ow false (.lst (ini.map D.str++[D.str l]))),none,none,none,none,none,none,none]):=m8 (X6 (d9 rfl) rfl rfl (c9 j5 g7) rfl rfl hs) rfl
 have hpop:a4i 1 [some (.sh (.str t)),some (.ow false (.lst (ini.map D.str++[D.str l]))),none,none,none,none,none,none,none]=some (.ok (.val (.str l)) [some (.sh (.str t)),some (.ow false (.lst (ini.map D.str))),none,none,none,none,none,none,none]):=by
  have p:=a6y (i:=1) (ρ:=[some (.sh (.str t)),some (.ow false (.lst (ini.map D.str++[D.str l]))),none,none,none,none,none,none,none]) rfl (List.getLast?_concat)
  rw [List.dropLast_concat] at p
  exact p
 have s2:m6 2 (a4i 1) [some (.sh (.str t)),some (.ow false (.lst (ini.map D.str++[D.str l]))),none,none,none,none,none,none,none]=some (.nx [some (.sh (.str t)),some (.ow false (.lst (ini.map D.str))),some (.sh (.str l)),none,none,none,none,none,none]):=m8 hpop rfl
 unfold Wd.readM
 rw [e,List.dropLast_concat,List.getLast?_concat]
 have raise1 (hd:D) (hN:G7 hd=true) (s3:m6 3 (a26 (a0v (d7 1)) (k8 [false] K7 (c6 (f7 M1 (d7 1) (mC (.int 0))) g8)) (mC .t6)) [some (.sh (.str t)),some (.ow false (.lst (ini.map D.str))),some (.sh (.str l)),none,none,none,none,none,none]=some (.nx [some (.sh (.str t)),some (.ow false (.lst (ini.map D.str))),some (.sh (.str l)),some (.sh hd),none,none,none,none,none])):Q6 [.str t]=some (b14 (.inl 1)):=by
  have c:A8 (mUn (fun d=>vB (G7 d)) (d7 3)) [some (.sh (.str t)),some (.ow false (.lst (ini.map D.str))),some (.sh (.str l)),some (.sh hd),none,none,none,none,none]=some (.ok (G7 hd) [some (.sh (.str t)),some (.ow false (.lst (ini.map D.str))),some (.sh (.str l)),some (.sh hd),none,none,none,none,none]):=F0 (a2F (d9 rfl) rfl rfl)
  exact m9 (g5 s1 (g5 s2 (g5 s3 (a1T (C6 c hN (a01 (n:=1) (c9 j5 g7) rfl (by decide) (by decide))))))) rfl
 cases ini with
 | nil=>exact raise1 .t6 rfl (m8 (a0O (k:=false) (a1h (d9 rfl) rfl rfl) rfl j5) rfl)
 | cons l0 more=>
  have fh:=b1k (cs:=l0) (by have:=hp l0 (by simp); omega)
  have i0:M1 (.lst ((l0::more).map D.str)) (.int 0)=some (.val (.str l0)):=by
   show (L2.atI ((l0::more).map D.str) ((0:Nat):Int)).map W.val=_
   rw [a36 (v:=D.str l0) rfl]
   rfl
  have s3:m6 3 (a26 (a0v (d7 1)) (k8 [false] K7 (c6 (f7 M1 (d7 1) (mC (.int 0))) g8)) (mC .t6)) [some (.sh (.str t)),some (.ow false (.lst ((l0::more).map D.str))),some (.sh (.str l)),none,none,none,none,none,none]=some (.nx [some (.sh (.str t)),some (.ow false (.lst ((l0::more).map D.str))),some (.sh (.str l)),some (.sh (headD (Wd.O3 l0))),none,none,none,none,none]):=m8 (a0K (k:=true) (a1h (d9 rfl) rfl rfl) rfl (u7 (c9 (i6 (d9 rfl) j5 rfl rfl i0) g7) rfl rfl fh rfl rfl)) rfl
  cases hh:Wd.O3 l0 with
  | none=>
   rw [hh] at s3
   simp only [hh]
   exact raise1 .t6 rfl s3
  | some vn=>
   obtain ⟨v,n⟩:=vn
   rw [hh] at s3
   obtain ⟨n0,n1⟩:=b0i hh
   have c3:A8 (mUn (fun d=>vB (G7 d)) (d7 3)) [some (.sh (.str t)),some (.ow false (.lst ((l0::more).map D.str))),some (.sh (.str l)),some (.sh (.tup [.int v,.int n])),none,none,none,none,none]=some (.ok false [some (.sh (.str t)),some (.ow false (.lst ((l0::more).map D.str))),some (.sh (.str l)),some (.sh (.tup [.int v,.int n])),none,none,none,none,none]):=F0 (a2F (d9 rfl) rfl rfl)
   have s4:m6 4 (f7 M1 (d7 3) (mC (.int 0))) [some (.sh (.str t)),some (.ow false (.lst ((l0::more).map D.str))),some (.sh (.str l)),some (.sh (.tup [.int v,.int n])),none,none,none,none,none]=some (.nx [some (.sh (.str t)),some (.ow false (.lst ((l0::more).map D.str))),some (.sh (.str l)),some (.sh (.tup [.int v,.int n])),some (.sh (.int v)),none,none,none,none]):=m8 (i6 (d9 rfl) j5 rfl rfl rfl) rfl
   have s5:m6 5 (f7 l5 (f7 M1 (d7 3) (mC (.int 1))) (mC (.int 1))) [some (.sh (.str t)),some (.ow false (.lst ((l0::more).map D.str))),some (.sh (.str l)),some (.sh (.tup [.int v,.int n])),some (.sh (.int v)),none,none,none,none]=some (.nx [some (.sh (.str t)),some (.ow false (.lst ((l0::more).map D.str))),some (.sh (.str l)),some (.sh (.tup [.int v,.int n])),some (.sh (.int v)),some (.sh (.int (n + 1))),none,none,none]):=m8 (i6 (i6 (d9 rfl) j5 rfl rfl rfl) j5 rfl rfl rfl) rfl
   have s6:m6 6 (N3 g8) [some (.sh (.str t)),some (.ow false (.lst ((l0::more).map D.str))),some (.sh (.str l)),some (.sh (.tup [.int v,.int n])),some (.sh (.int v)),some (.sh (.int (n + 1))),none,none,none]=some (.nx (rdE t (l0::more) l v n [] none none)):=m8 (G8 g7 rfl (Nat.le_of_ble_eq_true rfl)) rfl
   have cut:slD (.lst ((l0::more).map D.str)) (some 1) (some (n + 1))=some (.own (.lst ((more.take n.toNat).map D.str))):=by
    show some (W.own (.lst (cutD _ _ _)))=_
    rw [List.map_cons,b1g _ _ n0,List.map_take]
   have pre:=fun {r:Option SR} (hF:forL (tgN 7) N8 ((more.take n.toNat).map D.str) (rdE t (l0::more) l v n [] none none)=r)=>a6k (s1:=N8) (tg:=tgN 7) (mi:=L8 (mSl (d7 1) (P8 (mC (.int 1))) (P8 (d7 5)))) (Z5 (a3y (d9 rfl) (T8 j5 rfl) (T8 (d9 rfl) rfl) rfl cut) rfl rfl) hF
   have tl:(more.take n.toNat).length≤60:=by rw [List.length_take]; omega
   have lp:=a3L t (l0::more) l v n (more.take n.toNat) [] none none (by rw [List.length_nil]; omega) (fun p hq=>by have:=hp p (by have:=List.mem_of_mem_take hq; simp [this]); omega)
   cases hr:Wd.n5 v (more.take n.toNat) with
   | inl k=>
    obtain ⟨acc',o7',o8',eF⟩:=lp.1 k hr
    rw [show (([]:List (List Int)).length:Int) + (k:Int) + 2=(k:Int) + 2 by rw [List.length_nil]; omega] at eF
    simp only [hh,hr]
    exact m9 (g5 s1 (g5 s2 (g5 s3 (g5 (r8 c3 rfl B5) (g5 s4 (g5 s5 (g5 s6 (a1T (pre eF))))))))) rfl
   | inr cs=>
    obtain ⟨o7,o8,eF⟩:=lp.2 cs hr
    rw [List.nil_append] at eF
    simp only [hh,hr]
    have cz:cs.length≤60:=by have:=S7 hr; omega
    have el:E9 [.lst (A3 cs)]=some (.val (.int (cs.length:Nat))):=by
     show some (W.val (.int _))=_
     rw [a0N]
    have c8a:A8 (f7 X7 (L6 E9 (c6 (d7 1) g8)) (d7 5)) (rdE t (l0::more) l v n cs o7 o8)=some (.ok (!decide (((l0::more).length:Int)=n + 1)) (rdE t (l0::more) l v n cs o7 o8)):=F0 (i6 (J1 (c9 (d9 rfl) g7) rfl (len_strs _)) (d9 rfl) rfl rfl (ne_int _ _))
    have c8b:A8 (f7 X7 (d7 2) (mC (.str []))) (rdE t (l0::more) l v n cs o7 o8)=some (.ok (!decide (l=[])) (rdE t (l0::more) l v n cs o7 o8)):=F0 (i6 (d9 rfl) j5 rfl rfl (ne_str _ _))
    have c8:=a8s c8a c8b
    have r9:U8 "NoFormula" "line" (c6 (f7 l5 (L6 E9 (c6 (d7 6) g8)) (mC (.int 2))) g8) (rdE t (l0::more) l v n cs o7 o8)=some (.ex (xF ((cs.length:Int) + 2)) (rdE t (l0::more) l v n cs o7 o8)):=a01 (c9 (i6 (J1 (c9 (d9 rfl) g7) rfl el) j5 rfl rfl rfl) g7) rfl (by omega) (by omega)
    by_cases hb:((((l0::more).length:Int)≠n + 1)∨¬ some l=some [])
    ·rw [if_pos hb]
     have kb:((!decide (((l0::more).length:Int)=n + 1)) || (!decide (l=[])))=true:=by
      rcases hb with hb | hb
      ·rw [decide_eq_false hb]; rfl
      ·have hl:¬ l=[]:=fun z=>hb (by rw [z])
       rw [decide_eq_false hl]; simp
     exact m9 (g5 s1 (g5 s2 (g5 s3 (g5 (r8 c3 rfl B5) (g5 s4 (g5 s5 (g5 s6 (g5 (pre eF) (a1T (C6 c8 kb r9)))))))))) rfl
    ·rw [if_neg hb]
     have kb:((!decide (((l0::more).length:Int)=n + 1)) || (!decide (l=[])))=false:=by
      have h1:((l0::more).length:Int)=n + 1:=Classical.byContradiction fun z=>hb (.inl z)
      have h2:l=[]:=Classical.byContradiction fun z=>hb (.inr fun y=>z (Option.some.inj y))
      rw [decide_eq_true h1,decide_eq_true h2]
      rfl
     exact m9 (g5 s1 (g5 s2 (g5 s3 (g5 (r8 c3 rfl B5) (g5 s4 (g5 s5 (g5 s6 (g5 (pre eF) (g5 (r8 c8 kb B5) (w6 (T7 (c9 (d9 rfl) (c9 (d9 rfl) g7)) rfl (Nat.le_of_ble_eq_true rfl)) rfl)))))))))) rfl
theorem shift10:∀ ps:List (List Nat),(ps.map fun q=>[10]++q).flatten++[10]=10::(ps.map fun l=>l++[10]).flatten
 | []=>rfl
 | p::ps=>by
  have ih:=shift10 ps
  show ([10]++p++(ps.map fun q=>[10]++q).flatten)++[10]=10::(p++[10]++(ps.map fun l=>l++[10]).flatten)
  rw [List.append_assoc,ih]
  simp
theorem Y6 {p:List Nat}{ps:List (List Nat)}:Wd.x9 [10] (p::ps)++[10]=((p::ps).map fun l=>l++[10]).flatten:=by
 show (p++(ps.map fun q=>[10]++q).flatten)++[10]=p++[10]++(ps.map fun l=>l++[10]).flatten
 rw [List.append_assoc,shift10]
 simp
theorem a3x (r:List Nat):∀ {ls:List (List Nat)},(∀ l∈ls,∀ x∈l,x≠10)→Wd.i8 10 ((ls.map fun l=>l++[10]).flatten++r)=ls++Wd.i8 10 r
 | [],_=>rfl
 | l::ls,h=>by
  have e:((l::ls).map fun l=>l++[10]).flatten++r=l++10::((ls.map fun l=>l++[10]).flatten++r):=by simp
  rw [e,Wd.K5 _ (h l List.mem_cons_self),a3x r fun x hx=>h x (List.mem_cons_of_mem _ hx)]
  rfl
theorem a1B {v:Int}(hv:v≤100){b:List Nat}{r:List (List Nat)}(hb:Wd.t9 b v=none):∀ {cs:List (List Int)},(∀ c∈cs,Wd.W7 v c)→Wd.n5 v (cs.map Wd.f6++b::r)=.inl cs.length
 | [],_=>by
  show (match Wd.t9 b v with | none=>Sum.inl 0 | some c=>match Wd.n5 v r with | .inl k=>.inl (k + 1) | .inr cs=>.inr (c::cs))=_
  rw [hb]
  rfl
 | c::cs,h=>by
  show (match Wd.t9 (Wd.f6 c) v with | none=>Sum.inl 0 | some c=>match Wd.n5 v (cs.map Wd.f6++b::r) with | .inl k=>.inl (k + 1) | .inr cs=>.inr (c::cs))=_
  rw [Wd.a1r hv (h c List.mem_cons_self),a1B hv hb fun x hx=>h x (List.mem_cons_of_mem _ hx)]
  rfl
section
variable {t l l0 b:List Nat}{v n:Int}{more r:List (List Nat)}{good:List (List Int)}
theorem a7B (e:Wd.i8 10 t=(l0::more)++[l])(h:Wd.O3 l0=none):Wd.readM t=.inl 1:=by
 unfold Wd.readM
 rw [e,List.dropLast_concat]
 simp only [h]
theorem a93 (h1:0≤v)(h2:v≤12)(h4:n≤60)(hn:(good.length:Int) < n)(hg:∀ c∈good,Wd.W7 v c)(hb:Wd.t9 b v=none)(e:Wd.i8 10 t=(Wd.l6 v n::(good.map Wd.f6++b::r))++[l]):Wd.readM t=.inl ((good.length:Int) + 2):=by
 unfold Wd.readM
 rw [e,List.dropLast_concat]
 have ht:(good.map Wd.f6++b::r).take n.toNat=good.map Wd.f6++b::r.take (n.toNat - good.length - 1):=by
  have hk:n.toNat=(good.map Wd.f6).length + ((n.toNat - good.length - 1) + 1):=by rw [List.length_map]; omega
  rw [hk,List.take_length_add_append,List.take_succ_cons]
  congr 3
  omega
 simp only [Wd.a1c h1 h2 (show 0≤n by omega) h4,ht,a1B (show v≤100 by omega) hb hg]
theorem a0o (h1:0≤v)(h2:v≤12)(h3:0≤n)(h4:n≤60)(hg:∀ c∈good,Wd.W7 v c)(e:Wd.i8 10 t=(Wd.l6 v n::more)++[l])(hm:more.take n.toNat=good.map Wd.f6)(hz:(more.length:Int)≠n∨l≠[]):Wd.readM t=.inl ((good.length:Int) + 2):=by
 unfold Wd.readM
 rw [e,List.dropLast_concat,List.getLast?_concat]
 simp only [Wd.a1c h1 h2 h3 h4,hm,Wd.V1 (show v≤100 by omega) hg]
 rw [if_pos]
 rcases hz with hz | hz
 ·left
  rw [List.length_cons]
  omega
 ·right
  exact fun z=>hz (Option.some.inj z)
end
noncomputable def A7 (v:Int)(cs:List (List Int)):List (List Nat):=Wd.l6 v cs.length::cs.map Wd.f6
structure FH (v:Int) (cs:List (List Int)):Prop where
 v1:1≤v
 v4:v≤4
 len:cs.length≤8
 lit:∀ c∈cs,Wd.W7 v c
 sz:∀ c∈cs,c.length≤7
theorem a6l (v:Int)(cs:List (List Int)):∀ l∈A7 v cs,∀ x∈l,x≠10:=fun l hl=>by
 rcases List.mem_cons.mp hl with rfl | hl
 ·exact Wd.Q3 _ _
 ·obtain ⟨c,_,rfl⟩:=List.mem_map.mp hl
  exact Wd.D6 c
noncomputable def Y3 (v n:Int):List (List Nat):=[[102,111,114,109,117,108,97,32]++Wd.n6 v,[102,111,114,109,117,108,97,32,49,51,32]++Wd.n6 n,[102,111,114,109,117,108,97,32,51,32,54,49],[70,111,114,109,117,108,97,32,51,32]++Wd.n6 n,[],[102,111,114,109,117,108,97],[102,111,114,109,117,108,97,32,45,49,32]++Wd.n6 n,[32,102,111,114,109,117,108,97,32,50,32]++Wd.n6 n,[102,111,114,109,117,108,97,32,50,32,32]++Wd.n6 n,[102,111,114,109,117,108,97,32,120,32]++Wd.n6 n]
noncomputable def O7:List (List Nat):=[[53,32,48],[49,32,48,32,49,32,48],[49],[],[49,32,120,32,48],[49,32,32,48],[32,49,32,48],[49,32,48,32],[48,49,32,48],[45,53,32,48]]
noncomputable def a0S:List (List Nat):=[[48,10],[10],[120],[32]]
theorem a1U:∀ a < 5,∀ n < 9,∀ s∈Y3 ((a:Nat):Int) ((n:Nat):Int),Wd.O3 s=none∧s.length≤100∧∀ x∈s,x≠10:=by decide +kernel
theorem a1V:∀ a < 5,∀ s∈O7,Wd.t9 s ((a:Nat):Int)=none∧s.length≤100∧∀ x∈s,x≠10:=by decide +kernel
theorem a2e:∀ s∈a0S,s.length≤2∧((Wd.i8 10 s).dropLast≠[]∨(Wd.i8 10 s).getLast?≠some []):=by decide +kernel
section
variable {v:Int}{cs:List (List Int)}(h:FH v cs)
include h
theorem b4u {s:List Nat}(hs:s∈Y3 v cs.length):Wd.readM (Wd.x9 [10] (s::cs.map Wd.f6)++[10])=.inl 1:=by
 have f:=a1U v.toNat (by have:=h.v4; omega) cs.length (by have:=h.len; omega) s (by rw [Int.toNat_of_nonneg (by have:=h.v1; omega)]; exact hs)
 refine a7B (l:=[]) (more:=cs.map Wd.f6) ?_ f.1
 rw [Y6]
 exact Wd.O4 fun l hl=>by
  rcases List.mem_cons.mp hl with rfl | hl
  ·exact f.2.2
  ·exact a6l v cs l (List.mem_cons_of_mem _ hl)
theorem a8N (k:Nat):∀ c∈cs.take k,Wd.W7 v c:=fun c hc=>h.lit c (List.mem_of_mem_take hc)
theorem b4F {s:List Nat}{k:Nat}(hk:k < cs.length)(hs:s∈O7):Wd.readM (Wd.x9 [10] ((A7 v cs).take (k + 1)++[s]++(A7 v cs).drop (k + 2))++[10])=.inl ((k:Int) + 2):=by
 have f:=a1V v.toNat (by have:=h.v4; omega) s hs
 rw [Int.toNat_of_nonneg (by have:=h.v1; omega)] at f
 have el:(A7 v cs).take (k + 1)++[s]++(A7 v cs).drop (k + 2)=Wd.l6 v cs.length::((cs.take k).map Wd.f6++s::(cs.map Wd.f6).drop (k + 1)):=by
  show (Wd.l6 v cs.length::(cs.map Wd.f6).take k)++[s]++(cs.map Wd.f6).drop (k + 1)=_
  rw [List.map_take,List.append_assoc]
  rfl
 have lk:(cs.take k).length=k:=by rw [List.length_take]; omega
 have r:=a93 (t:=Wd.x9 [10] ((A7 v cs).take (k + 1)++[s]++(A7 v cs).drop (k + 2))++[10]) (l:=[]) (v:=v) (n:=cs.length) (r:=(cs.map Wd.f6).drop (k + 1)) (good:=cs.take k) (b:=s) (by have:=h.v1; omega) (by have:=h.v4; omega) (by have:=h.len; omega) (by rw [lk]; omega) (a8N h k) f.1 (by
  rw [el,Y6]
  exact Wd.O4 fun l hl=>by
   rcases List.mem_cons.mp hl with rfl | hl
   ·exact Wd.Q3 _ _
   ·rcases List.mem_append.mp hl with hl | hl
    ·obtain ⟨c,_,rfl⟩:=List.mem_map.mp hl
     exact Wd.D6 c
    ·rcases List.mem_cons.mp hl with rfl | hl
     ·exact f.2.2
     ·obtain ⟨c,_,rfl⟩:=List.mem_map.mp (List.mem_of_mem_drop hl)
      exact Wd.D6 c)
 rw [lk] at r
 exact r
theorem b4j {k:Nat}(hk:k < cs.length):Wd.readM (Wd.x9 [10] ((A7 v cs).take (k + 1))++[10])=.inl ((k:Int) + 2):=by
 have lk:(cs.take k).length=k:=by rw [List.length_take]; omega
 have el:(A7 v cs).take (k + 1)=Wd.l6 v cs.length::(cs.take k).map Wd.f6:=by
  show Wd.l6 v cs.length::(cs.map Wd.f6).take k=_
  rw [List.map_take]
 have r:=a0o (t:=Wd.x9 [10] ((A7 v cs).take (k + 1))++[10]) (l:=[]) (v:=v) (n:=cs.length) (good:=cs.take k) (more:=(cs.take k).map Wd.f6) (by have:=h.v1; omega) (by have:=h.v4; omega) (by omega) (by have:=h.len; omega) (a8N h k) (by
  rw [el,Y6]
  exact Wd.O4 fun l hl=>by
   rcases List.mem_cons.mp hl with rfl | hl
   ·exact Wd.Q3 _ _
   ·obtain ⟨c,_,rfl⟩:=List.mem_map.mp hl
    exact Wd.D6 c) (List.take_of_length_le (by rw [List.length_map,lk]; omega)) (.inl (by rw [List.length_map,lk]; omega))
 rw [lk] at r
 exact r
theorem b4U {s:List Nat}(hs:s∈a0S):Wd.readM (Wd.x9 [10] (A7 v cs)++[10]++s)=.inl ((cs.length:Int) + 2):=by
 have f:=(a2e s hs).2
 obtain ⟨ini,l,e⟩:=X5 10 s
 rw [e,List.dropLast_concat,List.getLast?_concat] at f
 refine a0o (l:=l) (v:=v) (n:=cs.length) (good:=cs) (more:=cs.map Wd.f6++ini) (by have:=h.v1; omega) (by have:=h.v4; omega) (by omega) (by have:=h.len; omega) h.lit ?_ ?_ ?_
 ·show Wd.i8 10 (Wd.x9 [10] (Wd.l6 v cs.length::cs.map Wd.f6)++[10]++s)=_
  rw [Y6,a3x s (ls:=Wd.l6 v cs.length::cs.map Wd.f6) (a6l v cs),e]
  simp
 ·rw [Int.toNat_natCast,List.take_left' (by rw [List.length_map])]
 ·rcases f with f | f
  ·left
   have:=List.length_pos_iff.mpr f
   rw [List.length_append,List.length_map]
   omega
  ·exact .inr fun z=>f (by rw [z])
theorem b36 (h0:0 < cs.length):Wd.readM (Wd.x9 [10] (A7 v cs))=.inl ((cs.length:Int) + 1):=by
 have hne:cs≠[]:=List.length_pos_iff.mp h0
 have ec:=List.dropLast_concat_getLast hne
 have lk:cs.dropLast.length=cs.length - 1:=List.length_dropLast
 have r:=a0o (t:=Wd.x9 [10] (A7 v cs)) (l:=Wd.f6 (cs.getLast hne)) (v:=v) (n:=cs.length) (good:=cs.dropLast) (more:=cs.dropLast.map Wd.f6) (by have:=h.v1; omega) (by have:=h.v4; omega) (by omega) (by have:=h.len; omega) (fun c hc=>h.lit c ((List.dropLast_sublist cs).subset hc)) (by
  rw [Wd.a0s (by unfold A7; simp) (a6l v cs)]
  have e2:cs.map Wd.f6=cs.dropLast.map Wd.f6++[Wd.f6 (cs.getLast hne)]:=by
   rw [show [Wd.f6 (cs.getLast hne)]=[cs.getLast hne].map Wd.f6 from rfl,← List.map_append,ec]
  unfold A7
  rw [e2]
  rfl) (List.take_of_length_le (by rw [List.length_map,lk]; omega)) (.inl (by rw [List.length_map,lk]; omega))
 rw [lk] at r
 rw [r]
 congr 1
 omega
end
theorem a3T (sep:List Nat):∀ ps:List (List Nat),(Wd.x9 sep ps).length≤(ps.map List.length).sum + ps.length * sep.length
 | []=>by simp [Wd.x9]
 | p::ps=>by
  have aux:∀ qs:List (List Nat),(qs.map fun q=>sep++q).flatten.length=(qs.map List.length).sum + qs.length * sep.length:=fun qs=>by
   induction qs with
   | nil=>simp
   | cons q r ih=>
    rw [List.map_cons,List.flatten_cons,List.length_append,List.length_append,ih,List.map_cons,List.sum_cons,List.length_cons,Nat.add_mul,Nat.one_mul]
    omega
  show (p++(ps.map fun q=>sep++q).flatten).length≤_
  rw [List.length_append,aux,List.map_cons,List.sum_cons,List.length_cons,Nat.add_mul,Nat.one_mul]
  omega
theorem a4u {k:Nat}:∀ {ps:List (List Nat)},(∀ p∈ps,p.length≤k)→(ps.map List.length).sum≤k * ps.length
 | [],_=>by simp
 | p::ps,h=>by
  have h1:=h p List.mem_cons_self
  have h2:=a4u fun q hq=>h q (List.mem_cons_of_mem _ hq)
  rw [List.map_cons,List.sum_cons,List.length_cons,Nat.mul_add,Nat.mul_one]
  omega
theorem a5Q (ps:List (List Nat)):strsOf (ps.map D.str)=some ps:=by
 induction ps with
 | nil=>rfl
 | cons p r ih=>
  show (strsOf (r.map D.str)).map _=_
  rw [ih]
  rfl
theorem a1a {c:Nat}{ps:List (List Nat)}(h1:∀ p∈ps,p.length≤100)(h2:ps.length≤100):Y4 (.str [c]) [.lst (ps.map D.str)]=some (.val (.str (Wd.x9 [c] ps)))∧(Wd.x9 [c] ps).length≤10100:=by
 have:=a4u h1
 have jl:=a3T [c] ps
 rw [List.length_singleton,Nat.mul_one] at jl
 refine ⟨?_,by omega⟩
 show (strsOf (ps.map D.str)).bind _=_
 rw [a5Q]
 exact k9 (by show _≤1000000; simp only [List.length_singleton,Nat.mul_one]; omega)
theorem a1v {n:Int}(h:n.natAbs < 1000000000):(Wd.n6 n).length≤10:=Wd.a5x (k:=9) (by decide) h
theorem a5b {v:Int}{cs:List (List Int)}(h:FH v cs):∀ p∈A7 v cs,p.length≤100:=fun p hp=>by
 rcases List.mem_cons.mp hp with rfl | hp
 ·have a:=a1v (n:=v) (by have:=h.v1; have:=h.v4; omega)
  have b:=a1v (n:=(cs.length:Int)) (by have:=h.len; omega)
  unfold Wd.l6 Wd.B9
  simp only [List.length_append,List.length_cons,List.length_nil]
  omega
 ·obtain ⟨c,hc,rfl⟩:=List.mem_map.mp hp
  have hz:=h.sz c hc
  have hw:∀ p∈c.map Wd.n6++[[48]],p.length≤10:=fun p hp=>by
   rcases List.mem_append.mp hp with hp | hp
   ·obtain ⟨n,hn,rfl⟩:=List.mem_map.mp hp
    exact a1v (by have:=h.lit c hc n hn; have:=h.v4; omega)
   ·rw [List.mem_singleton.mp hp]; decide
  have a:=a4u hw
  have b:=a3T [32] (c.map Wd.n6++[[48]])
  have e:(c.map Wd.n6++[[48]]).length=c.length + 1:=by simp
  rw [e,List.length_singleton] at b
  rw [e] at a
  unfold Wd.f6
  omega
noncomputable def bkE (ns:List Int)(L:List (List Nat))(v w a:Int)(o5 o6:Option C):i9:=[some (.sh (.lst (ns.map D.int))),some (.sh (.lst (L.map D.str))),some (.sh (.int v)),some (.sh (.int w)),some (.sh (.int a)),o5,o6]
theorem b3u {n:Nat}(h:n < 1000000000):n.log2 < 1920:=by
 by_cases h0:n=0
 ·subst h0; decide
 ·rw [Nat.log2_lt h0]
  exact Nat.lt_of_lt_of_le (Nat.lt_of_lt_of_le h (by decide:1000000000≤2 ^ 30)) (Nat.pow_le_pow_right (by decide) (by decide))
theorem a41 {n:Int}(h:n.natAbs < 1000000000):a0E [.int n]=some (.val (.str (Wd.n6 n))):=b0o (b3u h)
theorem M9 {a b:List Nat}(h:a.length + b.length≤100000):l5 (.str a) (.str b)=some (.val (.str (a++b))):=k9 (F9 h)
theorem P6 {a b:List Nat}(h:a.length≤1000)(h':b.length≤10):l5 (.str a) (.str b)=some (.val (.str (a++b))):=M9 (by omega)
theorem a1Q {a b:List (List Nat)}(h:a.length + b.length≤100000):l5 (.lst (a.map D.str)) (.lst (b.map D.str))=some (.own (.lst ((a++b).map D.str))):=by
 rw [List.map_append]
 exact k9 (F9 (by rw [List.length_map,List.length_map]; exact h))
theorem a6o {ss:List (List Nat)}{k:Int}(h0:0≤k)(h1:k < ss.length):∃ s∈ss,M1 (.lst (ss.map D.str)) (.int k)=some (.val (.str s)):=by
 obtain ⟨j,rfl⟩:=Int.eq_ofNat_of_zero_le h0
 have hj:j < ss.length:=by omega
 refine ⟨ss[j],List.getElem_mem hj,?_⟩
 show (L2.atI (ss.map D.str) (j:Int)).map W.val=_
 rw [a36 (v:=D.str ss[j]) (by rw [List.getElem?_map,List.getElem?_eq_getElem hj]; rfl)]
 rfl
theorem a3J (L:List (List Nat))(k:Nat):slD (.lst (L.map D.str)) (some (k:Int)) none=some (.own (.lst ((L.drop k).map D.str))):=by
 show some (W.own (.lst (cutD _ _ _)))=_
 rw [a7H,List.map_drop]
theorem a6G (L:List (List Nat))(k:Nat):slD (.lst (L.map D.str)) none (some (k:Int))=some (.own (.lst ((L.take k).map D.str))):=by
 show some (W.own (.lst (cutD _ _ _)))=_
 rw [b0F,List.map_take]
noncomputable abbrev a5q (k:Int):M W:=k8 [false,false] j9 (c6 (d7 0) (c6 (mC (.int k)) g8))
theorem a1S {ns:List Int}{ρ:i9}(k:Int)(h:ρ[0]?=some (some (.sh (.lst (ns.map D.int))))):a5q k ρ=some (.ok (.val (.int (B4 ns k))) ρ):=by
 obtain ⟨c,r,rfl⟩:∃ c r,ρ=c::r:=by cases ρ with | nil=>cases h | cons c r=>exact ⟨c,r,rfl⟩
 have hc:c=some (.sh (.lst (ns.map D.int))):=Option.some.inj h
 subst hc
 exact u7 (c9 (d9 rfl) (c9 j5 g7)) rfl rfl a1l rfl rfl
theorem pick {ns:List Int}{ρ:i9}{ss:List (List Nat)}{ms:M W}{k m:Int}{w:W}{ρ':i9}(hs:ms ρ=some (.ok w ρ'))(hw:getD w ρ'=some (.lst (ss.map D.str)))(h:ρ'[0]?=some (some (.sh (.lst (ns.map D.int)))))(hm:0 < m)(hl:(ss.length:Int)=m):∃ s∈ss,f7 M1 ms (f7 F2 (a5q k) (mC (.int m))) ρ=some (.ok (.val (.str s)) ρ'):=by
 obtain ⟨s,hs',ix⟩:=a6o (ss:=ss) (k:=B4 ns k % m) (Int.emod_nonneg _ (by omega)) (by rw [hl]; exact Int.emod_lt_of_pos _ hm)
 exact ⟨s,hs',i6 hs (i6 (a1S k h) j5 rfl rfl (U4 hm)) hw rfl ix⟩
noncomputable def b3W (ns:List Int)(v:Int)(cs:List (List Int)):Prop:=∃ t n,E3 [.lst (ns.map D.int),.lst ((A7 v cs).map D.str),.int v]=some (.ret (.val (.tup [.lst [.str t],.int n])) [])∧Wd.readM t=.inl n∧t.length≤90000
theorem a7R {ns:List Int}{v:Int}{cs:List (List Int)}(h:FH v cs):b3W ns v cs:=by
 have hz:(A7 v cs).length=cs.length + 1:=by unfold A7; simp
 have ll:=a5b h
 have hlen:=h.len
 have e1:E9 [.lst ((A7 v cs).map D.str)]=some (.val (.int ((cs.length + 1:Nat):Int))):=by rw [← hz]; exact len_strs _
 have p:a3f (.int ((cs.length + 1:Nat):Int)) (.int 1)=some (.val (.int (cs.length:Int))):=by
  show some (W.val (.int (((cs.length + 1:Nat):Int) - 1)))=_
  rw [show ((cs.length + 1:Nat):Int) - 1=(cs.length:Int) by omega]
 obtain ⟨w,hw⟩:∃ w,w=B4 ns 50 % 5:=⟨_,rfl⟩
 have s1:m6 3 (f7 F2 (a5q 50) (mC (.int 5))) (A1 7 [false,false,false] [.lst (ns.map D.int),.lst ((A7 v cs).map D.str),.int v])=some (.nx [some (.sh (.lst (ns.map D.int))),some (.sh (.lst ((A7 v cs).map D.str))),some (.sh (.int v)),some (.sh (.int w)),none,none,none]):=by
  rw [hw]
  exact m8 (i6 (a1S 50 rfl) j5 rfl rfl (U4 (by decide))) rfl
 have s2:m6 4 (mC (.int 0)) [some (.sh (.lst (ns.map D.int))),some (.sh (.lst ((A7 v cs).map D.str))),some (.sh (.int v)),some (.sh (.int w)),none,none,none]=some (.nx (bkE ns (A7 v cs) v w 0 none none)):=m8 j5 rfl
 have c3:A8 (f7 (a2n fun i j=>decide (j < i)) (L6 E9 (c6 (d7 1) g8)) (mC (.int 1))) (bkE ns (A7 v cs) v w 0 none none)=some (.ok (decide ((1:Int) < ((cs.length + 1:Nat):Int))) (bkE ns (A7 v cs) v w 0 none none)):=F0 (i6 (J1 (c9 (d9 rfl) g7) rfl e1) j5 rfl rfl rfl)
 have s3:∃ a:Int,(a=0∨∃ k:Nat,k < cs.length∧a=((k + 1:Nat):Int))∧ifS (A8 (f7 (a2n fun i j=>decide (j < i)) (L6 E9 (c6 (d7 1) g8)) (mC (.int 1)))) (m6 4 (f7 l5 (mC (.int 1)) (f7 F2 (a5q 51) (f7 a3f (L6 E9 (c6 (d7 1) g8)) (mC (.int 1)))))) nxS (bkE ns (A7 v cs) v w 0 none none)=some (.nx (bkE ns (A7 v cs) v w a none none)):=by
  by_cases h0:cs.length=0
  ·exact ⟨0,.inl rfl,r8 c3 (decide_eq_false (by omega)) B5⟩
  ·have m:=Int.emod_nonneg (B4 ns 51) (b:=cs.length) (by omega)
   have m2:=Int.emod_lt_of_pos (B4 ns 51) (b:=cs.length) (by omega)
   refine ⟨(((B4 ns 51 % cs.length).toNat + 1:Nat):Int),.inr ⟨_,by omega,rfl⟩,C6 c3 (decide_eq_true (by omega)) ?_⟩
   have hh:(((B4 ns 51 % cs.length).toNat + 1:Nat):Int)=1 + B4 ns 51 % cs.length:=by omega
   rw [hh]
   exact m8 (i6 j5 (i6 (a1S 51 rfl) (i6 (J1 (c9 (d9 rfl) g7) rfl e1) j5 rfl rfl p) rfl rfl (U4 (by omega))) rfl rfl rfl) rfl
 obtain ⟨a,ha,s3⟩:=s3
 have c4:mOr (A8 (f7 L5 (d7 3) (mC (.int 0)))) (A8 (f7 L5 (d7 4) (mC (.int 0)))) (bkE ns (A7 v cs) v w a none none)=some (.ok (decide (w=0) || decide (a=0)) (bkE ns (A7 v cs) v w a none none)):=a8s (F0 (i6 (d9 rfl) j5 rfl rfl (eq_int _ _))) (F0 (i6 (d9 rfl) j5 rfl rfl (eq_int _ _)))
 have head:∀ {s4 s5:SM} {sr:SR},l9 s4 s5 (bkE ns (A7 v cs) v w a none none)=some sr→l9 (m6 3 (f7 F2 (a5q 50) (mC (.int 5)))) (l9 (m6 4 (mC (.int 0))) (l9 (ifS (A8 (f7 (a2n fun i j=>decide (j < i)) (L6 E9 (c6 (d7 1) g8)) (mC (.int 1)))) (m6 4 (f7 l5 (mC (.int 1)) (f7 F2 (a5q 51) (f7 a3f (L6 E9 (c6 (d7 1) g8)) (mC (.int 1)))))) nxS) (l9 s4 s5))) (A1 7 [false,false,false] [.lst (ns.map D.int),.lst ((A7 v cs).map D.str),.int v])=some sr:=fun hr=>g5 s1 (g5 s2 (g5 s3 hr))
 by_cases hA:w=0∨a=0
 ·have k4:(decide (w=0) || decide (a=0))=true:=by rcases hA with hA | hA <;> rw [decide_eq_true hA] <;> simp
  have tn:=a1v (n:=(cs.length:Int)) (by omega)
  have tv:=a1v (n:=v) (by have:=h.v1; have:=h.v4; omega)
  have s5:m6 5 (L6 a0E (c6 (f7 a3f (L6 E9 (c6 (d7 1) g8)) (mC (.int 1))) g8)) (bkE ns (A7 v cs) v w a none none)=some (.nx (bkE ns (A7 v cs) v w a (some (.sh (.str (Wd.n6 cs.length)))) none)):=m8 (J1 (c9 (i6 (J1 (c9 (d9 rfl) g7) rfl e1) j5 rfl rfl p) g7) rfl (a41 (by omega))) rfl
  have s6:m6 6 (N3 (c6 (f7 l5 (mC (.str [102,111,114,109,117,108,97,32])) (L6 a0E (c6 (d7 2) g8))) (c6 (f7 l5 (mC (.str [102,111,114,109,117,108,97,32,49,51,32])) (d7 5)) (c6 (mC (.str [102,111,114,109,117,108,97,32,51,32,54,49])) (c6 (f7 l5 (mC (.str [70,111,114,109,117,108,97,32,51,32])) (d7 5)) (c6 (mC (.str [])) (c6 (mC (.str [102,111,114,109,117,108,97])) (c6 (f7 l5 (mC (.str [102,111,114,109,117,108,97,32,45,49,32])) (d7 5)) (c6 (f7 l5 (mC (.str [32,102,111,114,109,117,108,97,32,50,32])) (d7 5)) (c6 (f7 l5 (mC (.str [102,111,114,109,117,108,97,32,50,32,32])) (d7 5)) (c6 (f7 l5 (mC (.str [102,111,114,109,117,108,97,32,120,32])) (d7 5)) g8))))))))))) (bkE ns (A7 v cs) v w a (some (.sh (.str (Wd.n6 cs.length)))) none)=some (.nx (bkE ns (A7 v cs) v w a (some (.sh (.str (Wd.n6 cs.length)))) (some (.ow false (.lst ((Y3 v cs.length).map D.str)))))):=
   m8 (G8 (c9 (i6 j5 (J1 (c9 (d9 rfl) g7) rfl (a41 (n:=v) (by have:=h.v1; have:=h.v4; omega))) rfl rfl (P6 (by decide) tv))
    (c9 (i6 j5 (d9 rfl) rfl rfl (P6 (by decide) tn)) (c9 j5 (c9 (i6 j5 (d9 rfl) rfl rfl (P6 (by decide) tn)) (c9 j5 (c9 j5 (c9 (i6 j5 (d9 rfl) rfl rfl (P6 (by decide) tn)) (c9 (i6 j5 (d9 rfl) rfl rfl (P6 (by decide) tn)) (c9 (i6 j5 (d9 rfl) rfl rfl (P6 (by decide) tn)) (c9 (i6 j5 (d9 rfl) rfl rfl (P6 (by decide) tn)) g7)))))))))) rfl (Nat.le_of_ble_eq_true rfl)) rfl
  obtain ⟨s,hs,pk⟩:=pick (ns:=ns) (ss:=Y3 v cs.length) (ms:=d7 6) (k:=52) (m:=10) (ρ:=bkE ns (A7 v cs) v w a (some (.sh (.str (Wd.n6 cs.length)))) (some (.ow false (.lst ((Y3 v cs.length).map D.str))))) (d9 rfl) rfl rfl (by decide) rfl
  have f:=a1U v.toNat (by have:=h.v4; omega) cs.length (by omega) s (by rw [Int.toNat_of_nonneg (by have:=h.v1; omega)]; exact hs)
  obtain ⟨j,jl⟩:=a1a (c:=10) (ps:=s::cs.map Wd.f6) (fun q hq=>by
   rcases List.mem_cons.mp hq with rfl | hq
   ·exact f.2.1
   ·exact ll q (List.mem_cons_of_mem _ hq)) (by rw [List.length_cons,List.length_map]; omega)
  have ct:=a3J (A7 v cs) 1
  have sl:l5 (.lst ([s].map D.str)) (.lst (((A7 v cs).drop 1).map D.str))=some (.own (.lst ((s::cs.map Wd.f6).map D.str))):=a1Q (by rw [List.length_drop,hz,List.length_singleton]; omega)
  refine ⟨_,1,?_,b4u h hs,by rw [List.length_append,List.length_singleton]; omega⟩
  exact m9 (head (D3 (C6 c4 k4 (g5 s5 (g5 s6 (w6 (T7 (c9 (G8 (c9 (i6 (X6 j5 rfl rfl (c9 (i6 (G8 (c9 pk g7) rfl (Nat.le_of_ble_eq_true rfl)) (a3y (d9 rfl) (T8 j5 rfl) a5c rfl ct) rfl rfl sl) g7) rfl rfl j) j5 rfl rfl (M9 (by rw [List.length_singleton]; omega))) g7) rfl (Nat.le_of_ble_eq_true rfl)) (c9 j5 g7)) rfl (Nat.le_of_ble_eq_true rfl)) rfl)))))) rfl
 ·have k4:(decide (w=0) || decide (a=0))=false:=by rw [decide_eq_false (fun z=>hA (.inl z)),decide_eq_false (fun z=>hA (.inr z))]; rfl
  obtain ⟨k,hk,rfl⟩:∃ k:Nat,k < cs.length∧a=((k + 1:Nat):Int):=by
   rcases ha with ha | ha
   ·exact absurd (.inr ha) hA
   ·exact ha
  have cw:∀ m:Int,A8 (f7 L5 (d7 3) (mC (.int m))) (bkE ns (A7 v cs) v w ((k + 1:Nat):Int) none none)=some (.ok (decide (w=m)) (bkE ns (A7 v cs) v w ((k + 1:Nat):Int) none none)):=fun m=>F0 (i6 (d9 rfl) j5 rfl rfl (eq_int _ _))
  by_cases h1:w=1
  ·have s6:m6 6 (N3 (c6 (mC (.str [53,32,48])) (c6 (mC (.str [49,32,48,32,49,32,48])) (c6 (mC (.str [49])) (c6 (mC (.str [])) (c6 (mC (.str [49,32,120,32,48])) (c6 (mC (.str [49,32,32,48])) (c6 (mC (.str [32,49,32,48])) (c6 (mC (.str [49,32,48,32])) (c6 (mC (.str [48,49,32,48])) (c6 (mC (.str [45,53,32,48])) g8))))))))))) (bkE ns (A7 v cs) v w ((k + 1:Nat):Int) none none)=some (.nx (bkE ns (A7 v cs) v w ((k + 1:Nat):Int) none (some (.ow false (.lst (O7.map D.str)))))):=
    m8 (G8 (c9 j5 (c9 j5 (c9 j5 (c9 j5 (c9 j5 (c9 j5 (c9 j5 (c9 j5 (c9 j5 (c9 j5 g7)))))))))) rfl (Nat.le_of_ble_eq_true rfl)) rfl
   obtain ⟨s,hs,pk⟩:=pick (ns:=ns) (ss:=O7) (ms:=d7 6) (k:=52) (m:=10) (ρ:=bkE ns (A7 v cs) v w ((k + 1:Nat):Int) none (some (.ow false (.lst (O7.map D.str))))) (d9 rfl) rfl rfl (by decide) rfl
   have f:=a1V 0 (by decide) s hs
   have ct1:=a6G (A7 v cs) (k + 1)
   have ct2:=a3J (A7 v cs) (k + 2)
   have a1:l5 (.lst (((A7 v cs).take (k + 1)).map D.str)) (.lst ([s].map D.str))=some (.own (.lst (((A7 v cs).take (k + 1)++[s]).map D.str))):=a1Q (by rw [List.length_take,hz,List.length_singleton]; omega)
   have a2:l5 (.lst (((A7 v cs).take (k + 1)++[s]).map D.str)) (.lst (((A7 v cs).drop (k + 2)).map D.str))=some (.own (.lst (((A7 v cs).take (k + 1)++[s]++(A7 v cs).drop (k + 2)).map D.str))):=a1Q (by rw [List.length_append,List.length_take,List.length_drop,hz,List.length_singleton]; omega)
   obtain ⟨j,jl⟩:=a1a (c:=10) (ps:=(A7 v cs).take (k + 1)++[s]++(A7 v cs).drop (k + 2)) (fun q hq=>by
    rcases List.mem_append.mp hq with hq | hq
    ·rcases List.mem_append.mp hq with hq | hq
     ·exact ll q (List.mem_of_mem_take hq)
     ·rw [List.mem_singleton.mp hq]; exact f.2.1
    ·exact ll q (List.mem_of_mem_drop hq)) (by rw [List.length_append,List.length_append,List.length_take,List.length_drop,hz,List.length_singleton]; omega)
   have kp:l5 (.int ((k + 1:Nat):Int)) (.int 1)=some (.val (.int ((k + 2:Nat):Int))):=rfl
   have s7:m6 1 (f7 l5 (f7 l5 (mSl (d7 1) (M.pure none) (P8 (d7 4))) (N3 (c6 (f7 M1 (d7 6) (f7 F2 (a5q 52) (mC (.int 10)))) g8))) (mSl (d7 1) (P8 (f7 l5 (d7 4) (mC (.int 1)))) (M.pure none))) (bkE ns (A7 v cs) v w ((k + 1:Nat):Int) none (some (.ow false (.lst (O7.map D.str)))))=some (.nx [some (.sh (.lst (ns.map D.int))),some (.ow false (.lst (((A7 v cs).take (k + 1)++[s]++(A7 v cs).drop (k + 2)).map D.str))),some (.sh (.int v)),some (.sh (.int w)),some (.sh (.int ((k + 1:Nat):Int))),none,some (.ow false (.lst (O7.map D.str)))]):=
    m8 (i6 (i6 (a3y (d9 rfl) a5c (T8 (d9 rfl) rfl) rfl ct1) (G8 (c9 pk g7) rfl (Nat.le_of_ble_eq_true rfl)) rfl rfl a1) (a3y (d9 rfl) (T8 (i6 (d9 rfl) j5 rfl rfl kp) rfl) a5c rfl ct2) rfl rfl a2) rfl
   refine ⟨_,(k:Int) + 2,?_,b4F h hk hs,by rw [List.length_append,List.length_singleton]; omega⟩
   exact m9 (head (g5 (r8 c4 k4 B5) (D3 (C6 (cw 1) (decide_eq_true h1) (g5 s6 (g5 s7 (w6 (T7 (c9 (G8 (c9 (i6 (X6 j5 rfl rfl (c9 (d9 rfl) g7) rfl rfl j) j5 rfl rfl (M9 (by rw [List.length_singleton]; omega))) g7) rfl (Nat.le_of_ble_eq_true rfl)) (c9 (i6 (d9 rfl) j5 rfl rfl kp) g7)) rfl (Nat.le_of_ble_eq_true rfl)) rfl))))))) rfl
  ·have kp:l5 (.int ((k + 1:Nat):Int)) (.int 1)=some (.val (.int ((k + 2:Nat):Int))):=rfl
   by_cases h2:w=2
   ·have ct1:=a6G (A7 v cs) (k + 1)
    obtain ⟨j,jl⟩:=a1a (c:=10) (ps:=(A7 v cs).take (k + 1)) (fun q hq=>ll q (List.mem_of_mem_take hq)) (by rw [List.length_take]; omega)
    refine ⟨_,(k:Int) + 2,?_,b4j h hk,by rw [List.length_append,List.length_singleton]; omega⟩
    exact m9 (head (g5 (r8 c4 k4 B5) (g5 (r8 (cw 1) (decide_eq_false h1) B5) (D3 (C6 (cw 2) (decide_eq_true h2) (w6 (T7 (c9 (G8 (c9 (i6 (X6 j5 rfl rfl (c9 (a3y (d9 rfl) a5c (T8 (d9 rfl) rfl) rfl ct1) g7) rfl rfl j) j5 rfl rfl (M9 (by rw [List.length_singleton]; omega))) g7) rfl (Nat.le_of_ble_eq_true rfl)) (c9 (i6 (d9 rfl) j5 rfl rfl kp) g7)) rfl (Nat.le_of_ble_eq_true rfl)) rfl)))))) rfl
   ·obtain ⟨j,jl⟩:=a1a (c:=10) (ps:=A7 v cs) ll (by rw [hz]; omega)
    by_cases h3:w=3
    ·have ml:N3 (c6 (mC (.str [48,10])) (c6 (mC (.str [10])) (c6 (mC (.str [120])) (c6 (mC (.str [32])) g8)))) (bkE ns (A7 v cs) v w ((k + 1:Nat):Int) none none)=some (.ok (.own (.lst (a0S.map D.str))) (bkE ns (A7 v cs) v w ((k + 1:Nat):Int) none none)):=G8 (c9 j5 (c9 j5 (c9 j5 (c9 j5 g7)))) rfl (Nat.le_of_ble_eq_true rfl)
     obtain ⟨s,hs,pk⟩:=pick (ns:=ns) (ss:=a0S) (k:=52) (m:=4) ml rfl rfl (by decide) rfl
     have f:=(a2e s hs).1
     have kq:l5 (.int ((cs.length + 1:Nat):Int)) (.int 1)=some (.val (.int ((cs.length + 2:Nat):Int))):=rfl
     refine ⟨_,(cs.length:Int) + 2,?_,b4U h hs,by rw [List.length_append,List.length_append,List.length_singleton]; omega⟩
     exact m9 (head (g5 (r8 c4 k4 B5) (g5 (r8 (cw 1) (decide_eq_false h1) B5) (g5 (r8 (cw 2) (decide_eq_false h2) B5) (D3 (C6 (cw 3) (decide_eq_true h3) (w6 (T7 (c9 (G8 (c9 (i6 (i6 (X6 j5 rfl rfl (c9 (d9 rfl) g7) rfl rfl j) j5 rfl rfl (M9 (by rw [List.length_singleton]; omega))) pk rfl rfl (M9 (by rw [List.length_append,List.length_singleton]; omega))) g7) rfl (Nat.le_of_ble_eq_true rfl)) (c9 (i6 (J1 (c9 (d9 rfl) g7) rfl e1) j5 rfl rfl kq) g7)) rfl (Nat.le_of_ble_eq_true rfl)) rfl))))))) rfl
    ·refine ⟨_,(cs.length:Int) + 1,?_,b36 h (by omega),by omega⟩
     exact m9 (head (g5 (r8 c4 k4 B5) (g5 (r8 (cw 1) (decide_eq_false h1) B5) (g5 (r8 (cw 2) (decide_eq_false h2) B5) (g5 (r8 (cw 3) (decide_eq_false h3) B5) (w6 (T7 (c9 (G8 (c9 (X6 j5 rfl rfl (c9 (d9 rfl) g7) rfl rfl j) g7) rfl (Nat.le_of_ble_eq_true rfl)) (c9 (J1 (c9 (d9 rfl) g7) rfl e1) g7)) rfl (Nat.le_of_ble_eq_true rfl)) rfl)))))) rfl
theorem b0w (v:Int)(cs:List (List Int)):L5 (.tup [.int v,.lst (A3 cs)]) (.tup [.int v,.lst (A3 cs)])=some (.val (.bl true)):=by
 have e2:T5 7 (.lst (A3 cs)) (.lst (A3 cs))=some true:=(a60 5 cs cs).trans (by rw [decide_eq_true rfl])
 have e:T5 8 (.tup [.int v,.lst (A3 cs)]) (.tup [.int v,.lst (A3 cs)])=some true:=by
  show (match T5 7 (.int v) (.int v),(match T5 7 (.lst (A3 cs)) (.lst (A3 cs)),some true with | some a,some b=>some (a && b) | _,_=>none) with | some a,some b=>some (a && b) | _,_=>none)=_
  rw [e2,b1j]
  rfl
 show (T5 8 _ _).bind _=_
 rw [e]
 rfl
theorem a8W {m:M W}{ρ ρ1:i9}{x:Exn}(ha:m ρ=some (.ex x ρ1)):P7 m ρ=some (.ex x ρ1):=by unfold P7 L7; rw [ha]
theorem b28 {p v:Int}(hv:0 < v):(a3a p v).natAbs≤v.toNat:=by
 unfold a3a
 have h1:=Int.emod_nonneg (p / 2) (b:=v) (by omega)
 have h2:=Int.emod_lt_of_pos (p / 2) (b:=v) hv
 have h3:p % 2=0∨p % 2=1:=by omega
 generalize p / 2 % v=a at *
 rcases h3 with h3 | h3 <;> rw [h3] <;> omega
theorem b0J (ns:List Int)(b:Int):FH (z9 ns b).1 (z9 ns b).2:=by
 have hv:=a6i ns b
 refine ⟨by omega,hv.2,a88 ns b,fun c hc l hl=>?_,fun c hc=>?_⟩
 ·have ne:=(b0V hc).2 l hl
  obtain ⟨k,_,rfl⟩:=List.mem_map.mp hc
  obtain ⟨j,_,rfl⟩:=List.mem_map.mp hl
  have r:=b28 (p:=B4 ns (b + 2 + 5 * (k:Int) + 1 + (j:Int))) hv.1
  show 1≤((a3a _ _).natAbs:Int)∧((a3a _ _).natAbs:Int)≤_
  refine ⟨by omega,?_⟩
  exact Int.le_trans (Int.ofNat_le.mpr r) (by rw [Int.toNat_of_nonneg (by omega)]; exact Int.le_refl _)
 ·obtain ⟨k,_,rfl⟩:=List.mem_map.mp hc
  unfold A6
  rw [List.length_map,List.length_range]
  have:=a4C (B4 ns (b + 2 + 5 * (k:Int))) 4 (by decide)
  omega
noncomputable def lwE (ns:List Int)(v:Int)(cs:List (List Int))(acc:List (List Nat))(o3:Option C):i9:=[some (.sh (.lst (ns.map D.int))),some (.sh (.tup [.int v,.lst (A3 cs)])),some (.ow false (.lst (acc.map D.str))),o3,none,none,none]
theorem a5A (ns:List Int)(v:Int)(cs:List (List Int)):∀ (ks:List (List Int)) (acc:List (List Nat)) (o3:Option C),acc.length + ks.length≤100→(∀ c∈ks,c.length≤7∧∀ l∈c,l.natAbs < 1000000000)→∃ o3',forL (tgN 3) a0V (A3 ks) (lwE ns v cs acc o3)=some (.nx (lwE ns v cs (acc++ks.map Wd.f6) o3'))
 | [],acc,o3,_,_=>⟨o3,by rw [List.map_nil,List.append_nil]; rfl⟩
 | c::ks,acc,o3,hn,hc=>by
  rw [List.length_cons] at hn
  obtain ⟨o3',ih⟩:=a5A ns v cs ks (acc++[Wd.f6 c]) (some (.sh (.tup (c.map D.int)))) (by rw [List.length_append,List.length_singleton]; omega) fun q hq=>hc q (List.mem_cons_of_mem _ hq)
  refine ⟨o3',?_⟩
  obtain ⟨cz,cl⟩:=hc c List.mem_cons_self
  have hcomp:K4 (tgN 0) a0c (L6 a0E (c6 (d7 0) g8)) [none] (c.map D.int)=some (c.map fun l=>D.str (Wd.n6 l)):=a2S fun l hl=>⟨_,_,_,_,rfl,J1 (c9 (d9 rfl) g7) rfl (a41 (cl l hl)),rfl⟩
  have e1:(c.map fun l=>D.str (Wd.n6 l))=(c.map Wd.n6).map D.str:=by rw [List.map_map]; rfl
  rw [e1] at hcomp
  have m1:=Z7 (mi:=L8 (d7 3)) (own:=1) (fr:=[]) (ρ:=lwE ns v cs acc (some (.sh (.tup (c.map D.int))))) (ρ1:=lwE ns v cs acc (some (.sh (.tup (c.map D.int))))) (Z5 (d9 rfl) rfl rfl) (F9 (by rw [List.length_map]; omega)) hcomp (.inr rfl)
  have a1:l5 (.lst ((c.map Wd.n6).map D.str)) (.lst ([[48]].map D.str))=some (.own (.lst ((c.map Wd.n6++[[48]]).map D.str))):=a1Q (by rw [List.length_map,List.length_singleton]; omega)
  obtain ⟨j,_⟩:=a1a (c:=32) (ps:=c.map Wd.n6++[[48]]) (fun q hq=>by
   rcases List.mem_append.mp hq with hq | hq
   ·obtain ⟨l,hl,rfl⟩:=List.mem_map.mp hq
    exact Nat.le_trans (a1v (cl l hl)) (by decide)
   ·rw [List.mem_singleton.mp hq]; decide) (by rw [List.length_append,List.length_map,List.length_singleton]; omega)
  have ea:(acc++[Wd.f6 c]).map D.str=acc.map D.str++[D.str (Wd.x9 [32] (c.map Wd.n6++[[48]]))]:=by rw [List.map_append]; rfl
  have body:a0V (lwE ns v cs acc (some (.sh (.tup (c.map D.int)))))=some (.nx (lwE ns v cs (acc++[Wd.f6 c]) (some (.sh (.tup (c.map D.int)))))):=by
   unfold lwE
   rw [ea]
   exact a6T rfl (c9 (X6 j5 rfl rfl (c9 (i6 m1 (G8 (c9 j5 g7) rfl (Nat.le_of_ble_eq_true rfl)) rfl rfl a1) g7) rfl rfl j) g7) rfl rfl (F9 (by rw [List.length_map]; omega)) rfl
  rw [List.append_assoc] at ih
  exact a6m rfl body ih
theorem a9Z:∀ ns:List Int,ns.length≤63→A5 a7a 7 [false] [.lst (ns.map D.int)]=some (.ret (.val (.bl true)) []):=by
 intro ns _
 have h:=b0J ns 0
 have ff:=a2K (ns:=ns) (b:=0)
 generalize (z9 ns 0).1=v at h ff
 generalize (z9 ns 0).2=cs at h ff
 have s1:m6 1 (k8 [false,false] C5 (c6 (d7 0) (c6 (mC (.int 0)) g8))) (A1 7 [false] [.lst (ns.map D.int)])=some (.nx [some (.sh (.lst (ns.map D.int))),some (.sh (.tup [.int v,.lst (A3 cs)])),none,none,none,none,none]):=m8 (u7 (c9 (d9 rfl) (c9 j5 g7)) rfl rfl ff rfl rfl) rfl
 have tv:=a1v (n:=v) (by have:=h.v1; have:=h.v4; omega)
 have tn:=a1v (n:=(cs.length:Int)) (by have:=h.len; omega)
 have i0:M1 (.tup [.int v,.lst (A3 cs)]) (.int 0)=some (.val (.int v)):=rfl
 have i1:M1 (.tup [.int v,.lst (A3 cs)]) (.int 1)=some (.val (.lst (A3 cs))):=rfl
 have el:E9 [.lst (A3 cs)]=some (.val (.int (cs.length:Nat))):=by
  show some (W.val (.int _))=_
  rw [a0N]
 have eh:([102,111,114,109,117,108,97,32]++Wd.n6 v++[32])++Wd.n6 cs.length=Wd.l6 v cs.length:=by
  unfold Wd.l6 Wd.B9
  simp
 have s2:m6 2 (N3 (c6 (f7 l5 (f7 l5 (f7 l5 (mC (.str [102,111,114,109,117,108,97,32])) (L6 a0E (c6 (f7 M1 (d7 1) (mC (.int 0))) g8))) (mC (.str [32]))) (L6 a0E (c6 (L6 E9 (c6 (f7 M1 (d7 1) (mC (.int 1))) g8)) g8))) g8)) [some (.sh (.lst (ns.map D.int))),some (.sh (.tup [.int v,.lst (A3 cs)])),none,none,none,none,none]=some (.nx (lwE ns v cs [Wd.l6 v cs.length] none)):=by
  rw [← eh]
  exact m8 (G8 (c9 (i6 (i6 (i6 j5 (J1 (c9 (i6 (d9 rfl) j5 rfl rfl i0) g7) rfl (a41 (by have:=h.v1; have:=h.v4; omega))) rfl rfl (P6 (by decide) tv)) j5 rfl rfl (M9 (by simp only [List.length_append,List.length_cons,List.length_nil]; omega))) (J1 (c9 (J1 (c9 (i6 (d9 rfl) j5 rfl rfl i1) g7) rfl el) g7) rfl (a41 (by have:=h.len; omega))) rfl rfl (M9 (by simp only [List.length_append,List.length_cons,List.length_nil]; omega))) g7) rfl (Nat.le_of_ble_eq_true rfl)) rfl
 obtain ⟨o3,lp⟩:=a5A ns v cs cs [Wd.l6 v cs.length] none (by rw [List.length_singleton]; have:=h.len; omega) fun c hc=>⟨h.sz c hc,fun l hl=>by have:=h.lit c hc l hl; have:=h.v4; omega⟩
 have s3:a4Y (L8 (f7 M1 (d7 1) (mC (.int 1)))) (tgN 3) a0V (lwE ns v cs [Wd.l6 v cs.length] none)=some (.nx (lwE ns v cs (A7 v cs) o3)):=a6k (Z5 (i6 (d9 rfl) j5 rfl rfl i1) rfl rfl) lp
 have c4:A8 (f7 L5 (f7 F2 (a5q 49) (mC (.int 6))) (mC (.int 0))) (lwE ns v cs (A7 v cs) o3)=some (.ok (decide (B4 ns 49 % 6=0)) (lwE ns v cs (A7 v cs) o3)):=F0 (i6 (i6 (a1S 49 rfl) j5 rfl rfl (U4 (by decide))) j5 rfl rfl (eq_int _ _))
 have hz:(A7 v cs).length=cs.length + 1:=by unfold A7; simp
 by_cases hT:B4 ns 49 % 6=0
 ·obtain ⟨j,jl⟩:=a1a (c:=10) (ps:=A7 v cs) (a5b h) (by rw [hz]; have:=h.len; omega)
  have rw':Wd.readM (Wd.x9 [10] (A7 v cs)++[10])=.inr (v,cs):=by
   have e:Wd.x9 [10] (A7 v cs)++[10]=Wd.a2p v cs:=Y6
   rw [e]
   exact Wd.a4r (by have:=h.v1; omega) (by have:=h.v4; omega) (by have:=h.len; omega) h.lit
  have fr:=a6L (t:=Wd.x9 [10] (A7 v cs)++[10]) (by rw [List.length_append,List.length_singleton]; omega)
  rw [rw'] at fr
  have ma:c6 (f7 l5 (mMt "str" Y4 (mC (.str [10])) (c6 (d7 2) g8)) (mC (.str [10]))) g8 (lwE ns v cs (A7 v cs) o3)=some (.ok [.val (.str (Wd.x9 [10] (A7 v cs)++[10]))] (lwE ns v cs (A7 v cs) o3)):=c9 (i6 (X6 j5 rfl rfl (c9 (d9 rfl) g7) rfl rfl j) j5 rfl rfl (M9 (by rw [List.length_singleton]; omega))) g7
  have mc:=a71 (ms:=[false]) ma rfl fr (u7 ma rfl rfl fr rfl rfl)
  exact m9 (g5 s1 (g5 s2 (g5 s3 (D3 (C6 c4 (decide_eq_true hT) (w6 (i6 mc (d9 rfl) rfl rfl (b0w v cs)) rfl)))))) rfl
 ·obtain ⟨t,n,fb,rd,tl⟩:=a7R (ns:=ns) h
  have fr:=a6L (t:=t) tl
  rw [rd] at fr
  have s5:m6 4 (k8 [false,false,false] E3 (c6 (d7 0) (c6 (d7 2) (c6 (f7 M1 (d7 1) (mC (.int 0))) g8)))) (lwE ns v cs (A7 v cs) o3)=some (.nx [some (.sh (.lst (ns.map D.int))),some (.sh (.tup [.int v,.lst (A3 cs)])),some (.sh (.lst ((A7 v cs).map D.str))),o3,some (.sh (.tup [.lst [.str t],.int n])),none,none]):=m8 (a8z (c9 (d9 rfl) (c9 (d9 rfl) (c9 (i6 (d9 rfl) j5 rfl rfl i0) g7))) rfl rfl fb rfl rfl rfl) rfl
  have s6:m6 5 (mC (.int 0)) [some (.sh (.lst (ns.map D.int))),some (.sh (.tup [.int v,.lst (A3 cs)])),some (.sh (.lst ((A7 v cs).map D.str))),o3,some (.sh (.tup [.lst [.str t],.int n])),none,none]=some (.nx [some (.sh (.lst (ns.map D.int))),some (.sh (.tup [.int v,.lst (A3 cs)])),some (.sh (.lst ((A7 v cs).map D.str))),o3,some (.sh (.tup [.lst [.str t],.int n])),some (.sh (.int 0)),none]):=m8 j5 rfl
  have j0:M1 (.tup [.lst [.str t],.int n]) (.int 0)=some (.val (.lst [.str t])):=rfl
  have j1:M1 (.lst [.str t]) (.int 0)=some (.val (.str t)):=rfl
  have j2:M1 (.tup [.lst [.str t],.int n]) (.int 1)=some (.val (.int n)):=rfl
  have mc:P7 (Q7 [false] Q6 (c6 (f7 M1 (f7 M1 (d7 4) (mC (.int 0))) (mC (.int 0))) g8)) [some (.sh (.lst (ns.map D.int))),some (.sh (.tup [.int v,.lst (A3 cs)])),some (.sh (.lst ((A7 v cs).map D.str))),o3,some (.sh (.tup [.lst [.str t],.int n])),some (.sh (.int 0)),none]=some (.ex (xF n) [some (.sh (.lst (ns.map D.int))),some (.sh (.tup [.int v,.lst (A3 cs)])),some (.sh (.lst ((A7 v cs).map D.str))),o3,some (.sh (.tup [.lst [.str t],.int n])),some (.sh (.int 0)),none]):=a8W (a70 (c9 (i6 (i6 (d9 rfl) j5 rfl rfl j0) j5 rfl rfl j1) g7) rfl rfl fr rfl rfl)
  have s7:a5g (P7 (Q7 [false] Q6 (c6 (f7 M1 (f7 M1 (d7 4) (mC (.int 0))) (mC (.int 0))) g8))) 6 5 (a73 "NoFormula" "line") [some (.sh (.lst (ns.map D.int))),some (.sh (.tup [.int v,.lst (A3 cs)])),some (.sh (.lst ((A7 v cs).map D.str))),o3,some (.sh (.tup [.lst [.str t],.int n])),some (.sh (.int 0)),none]=some (.nx [some (.sh (.lst (ns.map D.int))),some (.sh (.tup [.int v,.lst (A3 cs)])),some (.sh (.lst ((A7 v cs).map D.str))),o3,some (.sh (.tup [.lst [.str t],.int n])),some (.sh (.int n)),none]):=b0r mc rfl b1N rfl
  have wh:F6 [.int n]=some (.ret (.val (.bl true)) []):=a9K (d:=.int n) rfl
  have eq:L5 (.int n) (.int n)=some (.val (.bl true)):=by rw [eq_int,decide_eq_true rfl]
  exact m9 (g5 s1 (g5 s2 (g5 s3 (g5 (r8 c4 (decide_eq_false hT) B5) (g5 s5 (g5 s6 (g5 s7 (w6 (a0Q (k:=true) (u7 (c9 (d9 rfl) g7) rfl rfl wh rfl rfl) rfl rfl (i6 (d9 rfl) (i6 (d9 rfl) j5 rfl rfl j2) rfl rfl eq)) rfl)))))))) rfl
end K03
namespace L2
theorem ar1 {α:Type}{P:List α→Prop}(h:∀ a0,P [a0]):∀ us:List α,us.length=1→P us
 | [a0],_=>h a0
theorem ar2 {α:Type}{P:List α→Prop}(h:∀ a0 a1,P [a0,a1]):∀ us:List α,us.length=2→P us
 | [a0,a1],_=>h a0 a1
theorem ar3 {α:Type}{P:List α→Prop}(h:∀ a0 a1 a2,P [a0,a1,a2]):∀ us:List α,us.length=3→P us
 | [a0,a1,a2],_=>h a0 a1 a2
theorem ar4 {α:Type}{P:List α→Prop}(h:∀ a0 a1 a2 a3,P [a0,a1,a2,a3]):∀ us:List α,us.length=4→P us
 | [a0,a1,a2,a3],_=>h a0 a1 a2 a3
end L2
open PySem PySem.W PyProof.Rows
set_option maxRecDepth 100000 in
set_option maxHeartbeats 0 in
theorem PySem.Challenge.cw_clausekeep_k03_formulas_refused_holds : PySem.Challenge.rw_clausekeep_k03_formulas_refused.Holds := by
 w_on; o_law; k_head; (case hw=>w_witness2)
 k_fill
 refine L2.a87 (l:=PySem.Challenge.rw_clausekeep_k03_formulas_refused) (k:=5) (x:="_law_script") rfl rfl ⟨rfl,by decide,by decide⟩ (fun w h Y=>PySem.W.kIn_of Y) ?F
 case F=>
  intro w mg fa h KX G hmg
  have D_law_cell:L2.Def (L2.KOf KX) mg "_law_cell" K03.a0l ["_law_script","_law_k"]:=by
   refine' L2.F8 KX G ?a ?l ?c ?k ?b
   (case a | l | c | k=>(dsimp only [L2.KOf]; k_is))
   (case b=>exact fun _ _ _ _ _ _=>L2.ar2 (fun _ _=>rfl))
  have D_law_mix:L2.Def (L2.KOf KX) mg "_law_mix" K03.a02 ["_law_script","_law_k"]:=by
   refine' L2.F8 KX G ?a ?l ?c ?k ?b
   (case a | l | c | k=>(dsimp only [L2.KOf]; k_is))
   (case b=>exact fun _ _ _ _ _ _=>L2.ar2 (fun _ _=>rfl))
  have D_law_whole:L2.Def (L2.KOf KX) mg "_law_whole" K03.Z1 ["_law_found"]:=by
   refine' L2.F8 KX G ?a ?l ?c ?k ?b
   (case a | l | c | k=>(dsimp only [L2.KOf]; k_is))
   (case b=>exact fun _ _ _ _ _ _=>L2.ar1 (fun _=>rfl))
  have D_law_clause:L2.Def (L2.KOf KX) mg "_law_clause" K03.T9 ["_law_script","_law_base","_law_variables","_law_most"]:=by
   refine' L2.F8 KX G ?a ?l ?c ?k ?b
   (case a | l | c | k=>(dsimp only [L2.KOf]; k_is))
   (case b=>exact fun _ _ _ _ _ _=>L2.ar4 (fun _ _ _ _=>rfl))
  have D_law_formula:L2.Def (L2.KOf KX) mg "_law_formula" K03.S1 ["_law_script","_law_base"]:=by
   refine' L2.F8 KX G ?a ?l ?c ?k ?b
   (case a | l | c | k=>(dsimp only [L2.KOf]; k_is))
   (case b=>exact fun _ _ _ _ _ _=>L2.ar2 (fun _ _=>rfl))
  have D_are_figures:L2.Def (L2.KOf KX) mg "are_figures" K03.R8 ["signs"]:=by
   refine' L2.F8 KX G ?a ?l ?c ?k ?b
   (case a | l | c | k=>(dsimp only [L2.KOf]; k_is))
   (case b=>exact fun _ _ _ _ _ _=>L2.ar1 (fun _=>rfl))
  have D_number_in:L2.Def (L2.KOf KX) mg "number_in" K03.W8 ["word"]:=by
   refine' L2.F8 KX G ?a ?l ?c ?k ?b
   (case a | l | c | k=>(dsimp only [L2.KOf]; k_is))
   (case b=>exact fun _ _ _ _ _ _=>L2.ar1 (fun _=>rfl))
  have D_is_within:L2.Def (L2.KOf KX) mg "is_within" K03.Y5 ["number","most"]:=by
   refine' L2.F8 KX G ?a ?l ?c ?k ?b
   (case a | l | c | k=>(dsimp only [L2.KOf]; k_is))
   (case b=>exact fun _ _ _ _ _ _=>L2.ar2 (fun _ _=>rfl))
  have D_is_literal:L2.Def (L2.KOf KX) mg "is_literal" K03.V3 ["number","variables"]:=by
   refine' L2.F8 KX G ?a ?l ?c ?k ?b
   (case a | l | c | k=>(dsimp only [L2.KOf]; k_is))
   (case b=>exact fun _ _ _ _ _ _=>L2.ar2 (fun _ _=>rfl))
  have D_head_in:L2.Def (L2.KOf KX) mg "head_in" K03.a1n ["line"]:=by
   refine' L2.F8 KX G ?a ?l ?c ?k ?b
   (case a | l | c | k=>(dsimp only [L2.KOf]; k_is))
   (case b=>exact fun _ _ _ _ _ _=>L2.ar1 (fun _=>rfl))
  have D_clause_in:L2.Def (L2.KOf KX) mg "clause_in" K03.X8 ["line","variables"]:=by
   refine' L2.F8 KX G ?a ?l ?c ?k ?b
   (case a | l | c | k=>(dsimp only [L2.KOf]; k_is))
   (case b=>exact fun _ _ _ _ _ _=>L2.ar2 (fun _ _=>rfl))
  have D_read:L2.Def (L2.KOf KX) mg "read" K03.a54 ["text"]:=by
   refine' L2.F8 KX G ?a ?l ?c ?k ?b
   (case a | l | c | k=>(dsimp only [L2.KOf]; k_is))
   (case b=>exact fun _ _ _ _ _ _=>L2.ar1 (fun _=>rfl))
  have D_law_broken:L2.Def (L2.KOf KX) mg "_law_broken" K03.U0 ["_law_script","_law_lines","_law_variables"]:=by
   refine' L2.F8 KX G ?a ?l ?c ?k ?b
   (case a | l | c | k=>(dsimp only [L2.KOf]; k_is))
   (case b=>exact fun _ _ _ _ _ _=>L2.ar3 (fun _ _ _=>rfl))
  have D_law:L2.Def (L2.KOf KX) mg "law" K03.a9h ["_law_script"]:=by
   refine' L2.F8 KX G ?a ?l ?c ?k ?b
   (case a | l | c | k=>(dsimp only [L2.KOf]; k_is))
   (case b=>exact fun _ _ _ _ _ _=>L2.ar1 (fun _=>rfl))
  have C_FIGURES:L2.Cst mg "FIGURES" (.str Wd.FIG):=by
   refine' L2.a4g KX G ?a ?r
   (case a=>k_is)
   (case r=>exact ⟨_,rfl⟩)
  have C_MOST_FIGURES:L2.Cst mg "MOST_FIGURES" (.int 9):=by
   refine' L2.a4g KX G ?a ?r
   (case a=>k_is)
   (case r=>exact ⟨_,rfl⟩)
  have C_MOST_VARIABLES:L2.Cst mg "MOST_VARIABLES" (.int 12):=by
   refine' L2.a4g KX G ?a ?r
   (case a=>k_is)
   (case r=>exact ⟨_,rfl⟩)
  have C_MOST_CLAUSES:L2.Cst mg "MOST_CLAUSES" (.int 60):=by
   refine' L2.a4g KX G ?a ?r
   (case a=>k_is)
   (case r=>exact ⟨_,rfl⟩)
  have z_len:mg "len"=none:=PySem.W.mg_none_of KX G (by k_is)
  have z_isinstance:mg "isinstance"=none:=PySem.W.mg_none_of KX G (by k_is)
  have z_int:mg "int"=none:=PySem.W.mg_none_of KX G (by k_is)
  have z_bool:mg "bool"=none:=PySem.W.mg_none_of KX G (by k_is)
  have z_range:mg "range"=none:=PySem.W.mg_none_of KX G (by k_is)
  have z_tuple:mg "tuple"=none:=PySem.W.mg_none_of KX G (by k_is)
  have z_all:mg "all"=none:=PySem.W.mg_none_of KX G (by k_is)
  have z_abs:mg "abs"=none:=PySem.W.mg_none_of KX G (by k_is)
  have z_str:mg "str"=none:=PySem.W.mg_none_of KX G (by k_is)
  have z_ValueError:mg "ValueError"=none:=PySem.W.mg_none_of KX G (by k_is)
  obtain ⟨C_ClauseError,C_NoFormula,fI_NoFormula,E_ClauseError,EI_NoFormula,U_ClauseError,S_NoFormula_ClauseError,DE_NoFormula⟩:∃ C1 C fI,L3.b0Z (L2.KOf KX) mg "ClauseError" C1∧L3.a1e (L2.KOf KX) mg "NoFormula" C C1 fI "line"∧L3.a6u (L2.KOf KX) mg "ClauseError" C1∧L3.subIn (L2.KOf KX) C C1=true∧L3.b1D (L2.KOf KX) fI "NoFormula.__init__" K03.C2 "line":=by
   refine' ⟨_,_,_,L3.b2O KX G ?a0 ?o0,L3.b1K KX G ?a ?i ?o ?c ?s1 ?s2 ?s3 ?s4,⟨PySem.W.mg_of KX G ?a1,?u2,?u3,?u4⟩,?s,L3.b0s ?l ?cc ?k ?n ?hoc ?b⟩
   (case a0=>(dsimp only [L2.KOf]; k_is)); (case a=>(dsimp only [L2.KOf]; k_is)); (case i=>(dsimp only [L2.KOf]; k_is)); (case a1=>k_is); (case s1=>(dsimp only [L2.KOf]; k_is)); (case s2=>(dsimp only [L2.KOf]; k_is)); (case s3=>(dsimp only [L2.KOf]; k_is)); (case s4=>(dsimp only [L2.KOf]; k_is)); (case u4=>(dsimp only [L2.KOf]; k_is)); (case l=>(dsimp only [L2.KOf]; k_is)); (case cc | k | n=>(dsimp only [L2.KOf]; k_is)); (case o0 | o | c | u2 | u3 | s=>(dsimp only [L2.KOf]; kernel_rfl)); (case hoc=>rfl)
   (case b=>exact fun _ _ _ _ _ _=>L2.ar2 (fun _ _=>rfl))
  have H_law_cell:=fun base=>D_law_cell.has (P:=PySem.Challenge.rw_clausekeep_k03_formulas_refused.prog) (w:=w) (base:=base) fun f fd F=>(K03.a4G F z_len).imp (L3.M7.imp K03.a3d)
  have H_law_mix:=fun base=>D_law_mix.has (P:=PySem.Challenge.rw_clausekeep_k03_formulas_refused.prog) (w:=w) (base:=base) fun f fd F=>(K03.a5p F (H_law_cell base)).imp (L3.M7.imp K03.a4s)
  have H_law_whole:=fun base=>D_law_whole.has (P:=PySem.Challenge.rw_clausekeep_k03_formulas_refused.prog) (w:=w) (base:=base) fun f fd F=>(K03.a27 F z_isinstance z_int z_bool).imp (L3.M7.imp K03.a2B)
  have H_law_clause:=fun base=>D_law_clause.has (P:=PySem.Challenge.rw_clausekeep_k03_formulas_refused.prog) (w:=w) (base:=base) fun f fd F=>(K03.a2C F z_range z_tuple (H_law_mix base)).imp (L3.M7.imp K03.a1G)
  have H_law_formula:=fun base=>D_law_formula.has (P:=PySem.Challenge.rw_clausekeep_k03_formulas_refused.prog) (w:=w) (base:=base) fun f fd F=>(K03.a1D F z_range (H_law_mix base) (H_law_clause base)).imp (L3.M7.imp K03.a08)
  have H_are_figures:=fun base=>D_are_figures.has (P:=PySem.Challenge.rw_clausekeep_k03_formulas_refused.prog) (w:=w) (base:=base) fun f fd F=>(K03.a1K F z_len z_all C_MOST_FIGURES C_FIGURES).imp (L3.M7.imp K03.a1g)
  have H_number_in:=fun base=>D_number_in.has (P:=PySem.Challenge.rw_clausekeep_k03_formulas_refused.prog) (w:=w) (base:=base) fun f fd F=>(K03.a21 F z_int (H_are_figures base)).imp (L3.M7.imp K03.a2H)
  have H_is_within:=fun base=>D_is_within.has (P:=PySem.Challenge.rw_clausekeep_k03_formulas_refused.prog) (w:=w) (base:=base) fun f fd F=>(K03.a3c F ).imp (L3.M7.imp K03.a2v)
  have H_is_literal:=fun base=>D_is_literal.has (P:=PySem.Challenge.rw_clausekeep_k03_formulas_refused.prog) (w:=w) (base:=base) fun f fd F=>(K03.a2Q F z_abs).imp (L3.M7.imp K03.a1L)
  have H_head_in:=fun base=>D_head_in.has (P:=PySem.Challenge.rw_clausekeep_k03_formulas_refused.prog) (w:=w) (base:=base) fun f fd F=>(K03.a4W F z_len C_MOST_VARIABLES C_MOST_CLAUSES (H_number_in base) (H_is_within base)).imp (L3.M7.imp K03.a4a)
  have H_clause_in:=fun base=>D_clause_in.has (P:=PySem.Challenge.rw_clausekeep_k03_formulas_refused.prog) (w:=w) (base:=base) fun f fd F=>(K03.a3e F z_all z_tuple (H_number_in base) (H_is_literal base)).imp (L3.M7.imp K03.a2P)
  have H_NoFormula___init__:=fun base=>DE_NoFormula.has (P:=PySem.Challenge.rw_clausekeep_k03_formulas_refused.prog) (w:=w) (mg:=mg) (base:=base) fun fd F=>K03.T6 F EI_NoFormula U_ClauseError
  have H_read:=fun base=>L3.b0q (P:=PySem.Challenge.rw_clausekeep_k03_formulas_refused.prog) (w:=w) (base:=base) D_read fun f fd F=>(K03.run_read F z_len EI_NoFormula (H_NoFormula___init__ base) (H_head_in base) (H_clause_in base)).imp (L3.SpX.imp K03.a8b)
  have H_law_broken:=fun base=>D_law_broken.has (P:=PySem.Challenge.rw_clausekeep_k03_formulas_refused.prog) (w:=w) (base:=base) fun f fd F=>(K03.a2z F z_len z_str (H_law_mix base)).imp (L3.M7.imp K03.a1F)
  exact L2.b3y D_law hmg (fun f fd F base _ _=>(K03.b0n F z_str z_len z_isinstance z_ValueError E_ClauseError EI_NoFormula S_NoFormula_ClauseError (H_law_formula base) (H_law_mix base) (H_read base) (H_law_broken base) (H_law_whole base)).imp (L3.b0R K03.a9Z))
#print axioms PySem.Challenge.cw_clausekeep_k03_formulas_refused_holds
