import PyProof.Rows.All
import Wide.All
import OpenK.AllK
import Wide.FinOn
import Lean
import PyProof.EqAt
import PyProof.EqKinds
import PyProof.TupleCall
import KE.KDictList
import KE.KDictOf
import KE.KDictSum
import KE.KEqDict
import KE.KMinBuiltin
import KE.KRevIter
import OpenK.KCls
import OpenK.KOwn
import PyProof.AutoSeq1
import PyProof.CollectWalk
import PyProof.DictUpdate
import PyProof.EnumIter
import PyProof.EnumMake
import PyProof.EnumStmt
import PyProof.ExcArgs
import PyProof.ExcBaseAll.ValueError
import PyProof.ExcClass2
import PyProof.ExcInit
import PyProof.FString5
import PyProof.InstStoreFacts
import PyProof.IsInstance
import PyProof.IsiH_list
import PyProof.LayNew
import PyProof.ListRange
import PyProof.NeKinds
import PyProof.NsDelKeeps
import PyProof.Rows.CallKwBuiltin
import PyProof.Rows.Range3
import PyProof.Rows.RuleN_abs
import PyProof.Rows.SetFrom
import PyProof.Rows.SortWalk
import PyProof.Rows.TupAdd
import PyProof.RulesAs
import PyProof.StationsW
import PyProof.TupleIter
import PyProof.TupleOfGen
import PyProof.WalkInts
import PyProof.WalksMore
import PySem.Challenge.RW_clausekeep_k30_trimmed
set_option Elab.async false
set_option bootstrap.genMatcherCode false
set_option linter.all false
set_option maxRecDepth 100000
set_option maxHeartbeats 0
open Array renaming length_toList->J1,getElem?_eq_some_iff->P3,getElem?_toList->fk,getElem?_eq_none->sf,toList->HA
open Bool renaming false->f6,true->f8,and_eq_true->k9,false_ne_true->p4,and_eq_true_iff->B6,and_true->Z6,false_and->bV,and_false->gk,eq_iff_iff->mO,not_false->pV,true_and->rV,or_false->rW,false_eq_true->Bh,not_true->Hy,false_or->Hz,true_or->Jy,or_true->Jz
open Classical renaming byContradiction->O9,propDecidable->mM,not_imp->um,not_forall->NP
open False renaming elim->D9
open Int renaming zero_add->v8,emod_lt_of_pos->A8,emod_nonneg->C9,toNat_natCast->G8,le_refl->gw,add_comm->vT,neg_neg->xS,natAbs_neg->Hx,ofNat_lt->Kd
open Ne renaming symm->x8
open Option renaming some->e9,none->f7,map_eq_some_iff->h9,map_some->t6,isSome_iff_exists->A6,bind_eq_some_iff->B7,isSome_some->bd,isSome->cG,isSome_map->iW,isSome_none->xR,getD_none->Bg
open Option.some renaming inj->j7,injEq->fP
open Prod renaming ext->xQ,snd->NF
open Prod.mk renaming injEq->DN,inj->Ha
open PyProof.Rows renaming callWith_type1->o3,slot_tuple_getitem->u3,envOfC->bW,AllBare->gx,boot_tuple->kk,boot_list->lS,boot_dict->lT,Constant_none->xT,subscriptTail_builtinR->Bp,IsTup->EA,boot_range->Hv,tupleItemsOf_->LJ,size_push'->LK,plain_sorted->LL,kind_sorted->LM,iadd_int->LN,entry_tuple_getitem->LO,entry_sorted->LP,callWith_builtin1->LQ,boot_sorted->LR,boot_isinstance->LS,boot_any->LU,boot_all->LV,boot_abs->LW,args_tuple_getitem->LX,args_sorted1->LY,tail_any->Mn,slicePart_none->Mo,subscriptTail->MU
open PyProof.Rows.IsTup renaming new->Bx
open PySem renaming wpAny_bind->g8,starEach->h8,wpAny_pure->j5,Builtin->k5,mainGlobals->l6,backTo->m4,keywordEach->o1,wpAny_field->u5,sizeLine_eq->v0,compareOp->v9,wpAny_holding->w6,attributeBase->x0,wpAny_Call_Name_kw->x6,backToKw->y4,behindInMarks->z8,wpAny_mono->z9,cLine->C2,wpAny_newObj_type->D3,builtinLookup_eq_fast->F8,codeAny_builtin->I9,wpAny_pyIter_list->K3,bootBuiltins->K4,wpAny_setField_rec->O3,sysModules->O4,wpAny_passesOwn->P1,importedModules->P2,wpAny_truthy_bool->R4,wpAny_typeOf->T1,swapsWith->T2,plainId_quiet->V4,typeLookup_type->W3,holding->W4,tupleKind_room_in1->X4,wpAny_callSpecial?_slot->Y4,codeAny_mono->Z3,codeAny->Z4,wpAny_call_entry->aU,typeLookup->aV,sliceBounds->bA,lookup_relabel_local->bB,codeAny_call_builtin->bC,binaryOp->dO,valueAt->gn,getItem->gq,call_meetsIn->gu,wpAny_loadPart'->io,wpAny_execs_nil->ip,letOwnedTupleGo->iq,wpAny_pyIter_revIter->jx,tupleKind->jM,callerA->jN,wpAny_standAt->lR,assign->lX,bindArgs->og,treeTable->pX,merged_length_le->pY,IsRangeIter->rT,standAt->uj,relabel->uk,BindsTo->uo,wpAny_setField->vM,sliceRange->vN,call_meets->vP,callType_codes->vQ,atKey->vS,getMethod->Bb,bindL->Be,bindC->Bf,wpAny_pyNext_range_end->Bm,wpAny_pyNext_list_item->Bn,wpAny_pyIter_rangeiter->Bo,stored->Bq,spliced->Br,seqIndex_neg->Bt,merged->Bu,isTrue->Bv,ItemsOf->Bw,wpAny_pyNext_list_end->DK,wpAny_notOrdered_dict->DL,wpAny_isTrue_Compare1->DM,wpAny_loadName_local->Et,slicePicked->Eu,seqIndex_of->Ev,getAttr?->Ex,callWith->Ez,wpAny_loadName_cell->GX,wpAny_dictSet_pairs->GY,wpAny_rule->Hl,wpAny_pyIter_range->Hm,wpAny_load->Hn,wpAny_call->Ho,wpAny_Name->Hq,wpAny_Constant_int->Hr,typeIs_str->Hs,call_reversed_list->Ht,builtinsNs->Hu,wpAny_sequenceKey->Jr,wpAny_assign_Name->Js,wpAny_Call_method->Jt,slot_list_getitem->Ju,setItem->Jv,wpAny_isInstance->JV,wpAny_execs_cons->JW,stored_length_le->JX,storeName->JY,inplaceOp->JZ,checkBuiltinCall->Ka,PassesOwn->Kc,wpAny_specialOf->Lp,pushCells_keeps->Lq,codeAny_of_tree->Lr,wpAny_tryCatch->Mm,setField->Mp,recursionLimit->Mq,raiseAttrError->Mr,pyIter->Ms,newFunctionEnv->Mv,isSubtype_type->Mx,field->My,Result->Mz,wpAny_attempt->MQ,swapsWithSole->MS,swappedStores->MT,intBits_le_64->MV,fenceModules?->MW,evalPart_none->MX,comprehension->MY,call_list_seq->MZ,unaryOp->NH,newList->NL,name_of_addr->NM,getAttr->NN
open PySem.Around renaming under_plainId->A9,under->rX
open PySem.Builtin.Dict renaming updateFrom->Q0,selfAndRest->jP,addKeywords->jQ,pairItems->lU
open PySem.Builtin.List renaming listExtendWith->iy,listSameRef->jO,listLengthHint->LZ,listFitsIndex->Ma
open PySem.Builtin.Range renaming rangeSize->P9,rangeFitsLong->ir,small->mN
open PySem.Builtin.Slice renaming slicePlaces->N4,sliceAdjust->Z5,sliceApplied->iw,slicePartIndex->Kg,sliceFields->Kh
open PySem.Builtin.SmallTypes renaming ownedTupleIsFree->bX,ownedTupleHandOut->DO
open PySem.Builtin.Str renaming occurrences->A7,strSliceIndices->Y6
open PySem.Builtin.Tuple renaming tupleExact->y8,tupleItemsOf->iv,tupleIsExact->Kf
open PySem.Calls renaming spliced_cons->M3,spliced_nil->V5,callWith_builtin->dV,evalArgs_plain->fQ,Name_function_global->oh
open PySem.Code renaming isFrame->ul,frames->Ke
open PySem.DictEntry renaming refKey->NO
open PySem.EntryCells renaming newEntry->pZ
open PySem.IsRange renaming new->Hb
open PySem.Paired renaming length->cF,snoc->Hw
open PySem.SeqAt renaming EqAt->Y5,RcNeAt->dU,RcAt->iu
open PySem.SeqAt.EqAt renaming same->iV,of_refs->rS,tuple_none->Nr,str_str->Nt,str_none->Nu,str_int->Nv,none_str->Nw,none_int->Nx,none_bool->Ny,list_none->Nz,int_str->NA,int_none->NB,int_int->NC,bool_none->ND,bool_bool->NE
open PySem.SeqAt.RcAt renaming tuples->Na,tuple_none->Nb,str_str->Nc,str_none->Nd,none_str->Nf,none_none->Ng,none_int->Nh,none_bool->Ni,lists_lengths->Nj,lists->Nk,list_none->Nl,int_none->Nn,int_int->No,bool_none->Np,bool_bool->Nq
open PySem.SeqAt.RcNeAt renaming tuples->Ls,tuple_none->Lu,str_str->Lv,str_none->Lw,none_str->Lx,none_none->Ly,none_int->Lz,none_bool->LA,lists_lengths->LB,lists->LC,list_none->LD,int_none->LF,int_int->LG,bool_none->LH,bool_bool->LI
open PySem.W renaming boot_heap->D4,namesBound->vO,boot_drawn->vR,boot_toks->Bc,laidKept->Ew,gensDone->Ey,openSeen->Mt,openGood->Mu,keepIn->Mw,topStub->NI,topFrom->NJ,through->NK
open PySem.W.WShape renaming has->Jx
open PySem.Walks renaming range->Jw,list->Kb
open Sum.inl renaming inj->GZ
set_option autoImplicit true
namespace L2
open PySem PySem.Spec PyProof.Rows
noncomputable abbrev Key:=Sum Int Str
noncomputable def hH:Key→Value→Bool
 |.inl k,v=>Value.isInt k v
 |.inr x,v=>Value.isStrOf x v
noncomputable def KJ (w:World):Key→Int
 |.inl k=>hashInt k
 |.inr x=>hashStr w x
theorem x9:∀{k:Key} {v:Value},hH k v=f8→(∃i t,k=Sum.inl i∧v=Value.int i t)∨(∃x t,k=Sum.inr x∧v=Value.str x t)
 |.inl i,v,h=>by
  obtain⟨t,e⟩:=Value.isInt_shape (k:=i) (v:=v) h;exact .inl ⟨i,t,rfl,e⟩
 |.inr x,v,h=>by
  obtain⟨t,e⟩:=Value.isStrOf_shape (x:=x) (v:=v) h;exact .inr ⟨x,t,rfl,e⟩
theorem wS (i:Int)(t:Tok):hH (.inl i) (.int i t)=f8:=by simp[hH,Value.isInt]
theorem wR (x:Str)(t:Tok):hH (.inr x) (.str x t)=f8:=by simp[hH,Value.isStrOf]
theorem Ge (a b:Int):decide ((Sum.inl a:Key)=Sum.inl b)=(a==b):=by
 by_cases e:a=b
 ·subst e;simp
 ·have h:¬(Sum.inl a:Key)=Sum.inl b:=λq=>e (GZ q);rw[decide_eq_false h];exact(beq_eq_false_iff_ne.mpr e).symm
theorem Gb (a b:Str):decide ((Sum.inr a:Key)=Sum.inr b)=decide (a=b):=by
 by_cases e:a=b
 ·subst e;simp
 ·have h:¬(Sum.inr a:Key)=Sum.inr b:=λq=>e (Sum.inr.inj q);rw[decide_eq_false h,decide_eq_false e]
theorem Gd (a:Int)(b:Str):decide ((Sum.inl a:Key)=Sum.inr b)=f6:=decide_eq_false (λq=>nomatch q)
theorem Gc (a:Str)(b:Int):decide ((Sum.inr a:Key)=Sum.inl b)=f6:=decide_eq_false (λq=>nomatch q)
noncomputable def r0 (prog:Program)(w:World):PySem.KeyKind prog w Key where
 is:=hH
 hash:=KJ w
 inj:=λv a b g f=>by
  rcases x9 g with⟨i,t,rfl,rfl⟩ | ⟨x,t,rfl,rfl⟩
  ·rcases x9 f with⟨j,u,rfl,e⟩ | ⟨y,u,rfl,e⟩
   ·injection e with c _;rw[c]
   ·exact nomatch e
  ·rcases x9 f with⟨j,u,rfl,e⟩ | ⟨y,u,rfl,e⟩
   ·exact nomatch e
   ·injection e with c _;rw[c]
 byValue:=λk v h=>by
  rcases x9 h with⟨i,t,rfl,rfl⟩ | ⟨x,t,rfl,rfl⟩<;>rfl
 pyHash:=λd h=>by
  rcases x9 d with⟨i,t,rfl,rfl⟩ | ⟨x,t,rfl,rfl⟩
  ·exact wpAny_pyHash_int h
  ·exact wpAny_pyHash_str h
 eqBool:=λl d h=>by
  rcases x9 l with⟨i,t,rfl,rfl⟩ | ⟨x,t,rfl,rfl⟩
  ·rcases x9 d with⟨j,u,rfl,rfl⟩ | ⟨y,u,rfl,rfl⟩
   ·rw[Ge]at h;exact wpAny_eqBool_int h
   ·rw[Gd]at h;exact NA i t y u _ _ _ _ h
  ·rcases x9 d with⟨j,u,rfl,rfl⟩ | ⟨y,u,rfl,rfl⟩
   ·rw[Gc]at h;exact Nv x t j u _ _ _ _ h
   ·rw[Gb]at h;exact wpAny_eqBool_str h
 «strs»:=λk x t v h=>by
  rcases x9 h with⟨i,u,rfl,e⟩ | ⟨y,u,rfl,e⟩
  ·exact nomatch e
  ·injection e with c _;subst c;cases v<;>rfl
theorem qL (prog:Program)(w:World)(i:Int)(t:Tok):(r0 prog w).is (.inl i) (.int i t)=f8:=wS i t
theorem qK (prog:Program)(w:World)(x:Str)(t:Tok):(r0 prog w).is (.inr x) (.str x t)=f8:=wR x t
inductive V where
 |v1|bl (b:Bool) |int (i:Int) |str (x:Str) |byt (b:Array UInt8) |flt (b:UInt64) |ref (a:Addr) |ty (n:String)
 deriving DecidableEq
noncomputable def RelV:V→Value→Prop
 |.v1,u=>u=Value.none
 |.bl b,u=>u=Value.bool b
 |.int i,u=>∃t,u=Value.int i t
 |.str x,u=>∃t,u=Value.str x t
 |.byt b,u=>∃t,u=Value.bytes b t
 |.flt b,u=>∃t,u=Value.float b t
 |.ref a,u=>u=Value.ref a
 |.ty n,u=>u=Value.type n
noncomputable abbrev Vals:List V→List Value→Prop:=Paired RelV
theorem Vals.length(r:Vals xs us):xs.length=us.length:=cF r
theorem Vals.get:∀{xs:List V} {us:List Value} {i:Nat} {x:V},Vals xs us→xs[i]?=e9 x→∃u,us[i]?=e9 u∧RelV x u
 |_,_,_,_,.nil,e=>by simp at e
 |_,_,0,_,.cons r _,e=>by simp at e;subst e;exact⟨_,rfl,r⟩
 |_,_,i+1,x,.cons _ t,e=>by
  obtain⟨u,a,b⟩:=Vals.get (i:=i) (x:=x) t (by simpa using e);exact⟨u,by simpa using a,b⟩
theorem Vals.set(r:RelV x u):∀{xs:List V} {us:List Value} (i:Nat),Vals xs us→Vals (xs.set i x) (us.set i u)
 |_,_,_,.nil=>.nil
 |_,_,0,.cons _ t=>.cons r t
 |_,_,i+1,.cons q t=>.cons q (Vals.set r i t)
theorem Vals.append:∀{xs a:List V} {us b:List Value},Vals xs us→Vals a b→Vals (xs++a) (us++b)
 |_,_,_,_,.nil,s=>s
 |_,_,_,_,.cons r t,s=>.cons r (Vals.append t s)
theorem Vals.take:∀{xs:List V} {us:List Value} (n:Nat),Vals xs us→Vals (xs.take n) (us.take n)
 |_,_,0,_=>.nil
 |_,_,_+1,.nil=>.nil
 |_,_,n+1,.cons r t=>.cons r (Vals.take n t)
theorem Vals.drop:∀{xs:List V} {us:List Value} (n:Nat),Vals xs us→Vals (xs.drop n) (us.drop n)
 |_,_,0,r=>r
 |_,_,_+1,.nil=>.nil
 |_,_,n+1,.cons _ t=>Vals.drop n t
noncomputable def bb:Option V→Option Value→Prop
 |some v,e9 u=>RelV v u
 |none,f7=>True
 |_,_=>False
noncomputable def KV {a:Type}:List (a×V)→List (a×Value)→Prop:=Paired λ(p:a×V) (q:a×Value)=>p.1=q.1∧RelV p.2 q.2
noncomputable def kV:Key→V
 |.inl i=>.int i
 |.inr x=>.str x
inductive HO where
 
 |lst (xs:List V)
 
 |tup (xs:List V)
 
 |dK (kvs:List (Key×V)) |dT (kvs:List (List Key×V))
 
 |set (S:Int→Bool) (n:Nat)
 
 |ins (C dx:Addr) (fs:List (Str×V))
 
 |own (x:Addr)
 
 |xd (fs:List (Str×V))
 
 |met (f x:Addr)
 
 |rng (lo hi:Int)
 
 |cH (o:Obj) (u:HO)
 
 |tbl (ps:Array Value)
 
 |ext (φ:Heap→Prop)
noncomputable abbrev Hp:=Addr→Option HO
noncomputable def upd (H:Hp)(a:Addr)(o:HO):Hp:=λb=>if b=a then e9 o else H b
theorem m3:upd H a o a=e9 o:=by unfold upd;rw[if_pos rfl]
theorem k0(h:b≠a):upd H a o b=H b:=by unfold upd;rw[if_neg h]
theorem IA {H:Hp}{a b:Addr}{o u:HO}(h:H a=e9 o)(h':H b=e9 u)(d:o≠u):a≠b:=by
 intro e;subst e;rw[h]at h';exact d (j7 h')
theorem t9 {H:Hp}{a b:Addr}{o:HO}(h:H a=e9 o)(h':H b=f7):a≠b:=by
 intro e;subst e;rw[h]at h';cases h'
section
variable (P:Program)(w:World)
noncomputable def I7 (H:Hp)(h:Heap)(a:Addr):HO→Prop
 |.lst xs=>xs.length≤sizeLine∧∃(b:List Value) (n:Nat),Vals xs b∧h.get? a=e9 {cls:=.type "list",data:=.seq b.toArray n}
 |.tup xs=>xs.length≤sizeLine∧∃b:List Value,Vals xs b∧EA h a b.toArray
 |.dK kvs=>kvs.length≤sizeLine∧(a==O4)=f6∧∃vs,KV kvs vs∧h.DictOf (r0 P w) a vs
 |.dT kvs=>kvs.length≤sizeLine∧(a==O4)=f6∧∃xs:List (List Key×Addr×Value),
   Paired (λ(p:List Key×V) (q:List Key×Addr×Value)=>p.1=q.1∧H q.2.1=e9 (.tup (p.1.map kV))∧RelV p.2 q.2.2) kvs xs∧
   ∃o es e,h.get? a=e9 o∧o.ExactDict∧o.data=.dict es e∧es.toList=xs.map (entryOfKey (jM (r0 P w)))∧(xs.map (·.1)).Nodup
 |.set S n=>h.SetOf (intKind P w) a S n
 |.ins C dx fs=>H dx=e9 (.own a)∧fs.length≤1000∧dx≠a∧h.get? a=e9 (PySem.W.instObj C dx)∧
   ∃mA,h.Ns1 dx mA∧(∀f,bb (fs.lookup f) (mA f))∧PySem.Within mA (fs.map (·.1))
 |.own _=>∃o,h.get? a=e9 o
 |.xd fs=>∃mA,h.Ns1 a mA∧∀f,bb (fs.lookup f) (mA f)
 |.rng lo hi=>∃t u v,h.get? a=e9 {cls:=.type "range",data:=.fields #[.int lo t,.int hi u,.int 1 v]}
 |.cH o u=>h.get? a=e9 o∧I7 H h a u
 |.tbl ps=>h.get? a=e9 {cls:=.none,data:=.fields ps}
 |.met f x=>h.get? a=e9 (PySem.W.methodObj (.ref f) (.ref x))
 |.ext φ=>φ h∧(∃o,h.get? a=e9 o)∧∀c d:Heap,φ c→(∀o,c.get? a=e9 o→d.get? a=e9 o)→φ d
def fj (H:Hp)(h:Heap):Prop:=∀a o,H a=e9 o→I7 P w H h a o
end
section
variable {P:Program}{w:World}{H H':Hp}{h h':Heap}{a:Addr}{o:HO}
theorem I7.lt (x:I7 P w H h a o):a<h.objs.size:=by
 cases o with
 |lst xs=>obtain⟨_,_,_,_,e⟩:=x;exact Heap.lt_size e
 |tup xs=>obtain⟨_,_,_,p⟩:=x;exact p.lt
 |dK kvs=>obtain⟨_,_,_,_,o,_,_,e,_⟩:=x;exact Heap.lt_size e
 |dT kvs=>obtain⟨_,_,_,_,o,_,_,e,_⟩:=x;exact Heap.lt_size e
 |set S n=>obtain⟨o,_,_,_,e,_⟩:=x;exact Heap.lt_size e
 |ins C dx fs=>obtain⟨_,_,_,e,_⟩:=x;exact Heap.lt_size e
 |own y=>obtain⟨_,e⟩:=x;exact Heap.lt_size e
 |xd fs=>obtain⟨_,⟨_,_,_,e,_⟩,_⟩:=x;exact Heap.lt_size e
 |rng lo hi=>obtain⟨_,_,_,e⟩:=x;exact Heap.lt_size e
 |cH ob u=>obtain⟨e,_⟩:=x;exact Heap.lt_size e
 |tbl ps=>exact Heap.lt_size (show h.get? a=e9 _ from x)
 |met f y=>exact Heap.lt_size (show h.get? a=e9 _ from x)
 |ext φ=>obtain⟨_,⟨_,e⟩,_⟩:=x;exact Heap.lt_size e
theorem Paired.zk {α e:Type}{F G:α→e→Prop}:∀{c:List α} {d:List e},Paired F c d→(∀a b,F a b→G a b)→Paired G c d
 |_,_,.nil,_=>.nil
 |_,_,.cons r t,f=>.cons (f _ _ r) (Paired.zk t f)
theorem Paired.imp' {α e:Type}{F G:α→e→Prop}(f:∀a b,F a b→G a b){c:List α}{d:List e}(r:Paired F c d):Paired G c d:=Paired.zk r f
theorem I7.stay (x:I7 P w H h a o)(k:∀b u,(b=a∨H b=e9 (.own a))→h.get? b=e9 u→h'.get? b=e9 u)
  (j:∀b,H b=e9 (.own a)→H' b=e9 (.own a)) (l:∀b xs,H b=e9 (.tup xs)→H' b=e9 (.tup xs)):I7 P w H' h' a o:=by
 induction o with
 |lst xs=>obtain⟨z,i,n,r,e⟩:=x;exact⟨z,i,n,r,k _ _ (.inl rfl) e⟩
 |tup xs=>obtain⟨z,i,r,ob,e,c⟩:=x;exact⟨z,i,r,ob,k _ _ (.inl rfl) e,c⟩
 |dK kvs=>obtain⟨z,y,vs,r,ob,es,g,e,c⟩:=x;exact⟨z,y,vs,r,ob,es,g,k _ _ (.inl rfl) e,c⟩
 |dT kvs=>
  obtain⟨z,y,xs,r,ob,es,g,e,c⟩:=x;exact⟨z,y,xs,Paired.zk r λp q z=>⟨z.1,l _ _ z.2.1,z.2.2⟩,ob,es,g,k _ _ (.inl rfl) e,c⟩
 |set S n=>obtain⟨ob,es,g,t,e,c⟩:=x;exact⟨ob,es,g,t,k _ _ (.inl rfl) e,c⟩
 |ins C dx fs=>
  obtain⟨d,z,ne,e,mA,⟨od,es,g,m,c⟩,r⟩:=x;exact⟨j _ d,z,ne,k _ _ (.inl rfl) e,mA,⟨od,es,g,k _ _ (.inr d) m,c⟩,r⟩
 |own y=>obtain⟨ob,e⟩:=x;exact⟨ob,k _ _ (.inl rfl) e⟩
 |xd fs=>obtain⟨mA,⟨od,es,g,e,c⟩,r⟩:=x;exact⟨mA,⟨od,es,g,k _ _ (.inl rfl) e,c⟩,r⟩
 |rng lo hi=>obtain⟨t,u,v,e⟩:=x;exact⟨t,u,v,k _ _ (.inl rfl) e⟩
 |cH ob u ih=>obtain⟨e,q⟩:=x;exact⟨k _ _ (.inl rfl) e,ih q⟩
 |tbl ps=>
  have e:h.get? a=e9 {cls:=.none,data:=.fields ps}:=x;show h'.get? a=e9 {cls:=.none,data:=.fields ps};exact k a _ (.inl rfl) e
 |met f y=>
  have e:h.get? a=e9 (PySem.W.methodObj (.ref f) (.ref y)):=x;show h'.get? a=e9 (PySem.W.methodObj (.ref f) (.ref y));exact k a _ (.inl rfl) e
 |ext φ=>obtain⟨p,⟨o,e⟩,st⟩:=x;exact⟨st _ _ p λo q=>k _ _ (.inl rfl) q,⟨o,k _ _ (.inl rfl) e⟩,st⟩
theorem fj.lt (x:fj P w H h)(e:H a=e9 o):a<h.objs.size:=(x a o e).lt
theorem fj.fresh (x:fj P w H h)(e:h.objs.size≤a):H a=f7:=by
 cases q:H a with
 |none=>rfl
 |some u=>exact absurd (Nat.lt_of_lt_of_le (x.lt q) e) (Nat.lt_irrefl _)
theorem fj.kept (x:fj P w H h)(k:∀b u,h.get? b=e9 u→h'.get? b=e9 u):fj P w H h':=λa o e=>
 (x a o e).stay (λb u _ q=>k b u q) (λ_ q=>q) λ_ _ q=>q
theorem fj.laid (x:fj P w H h)(k:∀b u,h.get? b=e9 u→h'.get? b=e9 u)(g:h.objs.size≤a)(new:I7 P w (upd H a o) h' a o):fj P w (upd H a o) h':=λb u e=>by
 have d:=x.fresh g;by_cases f:b=a
 ·subst f;rw[m3]at e;cases e;exact new
 ·rw[k0 f]at e;exact(x b u e).stay (λc v _ q=>k c v q) (λc q=>by rw[k0 (t9 q d)];exact q) λc xs q=>by rw[k0 (t9 q d)];exact q
end
def Rd (H:Hp)(a:Addr)(u:HO):Prop:=H a=e9 u∨∃o,H a=e9 (.cH o u)
theorem Rd.ok(r:Rd H a u)(x:fj P w H h):I7 P w H h a u:=by
 rcases r with r| ⟨o,r⟩
 ·exact x a u r
 ·obtain⟨_,q⟩:=x a _ r;exact q
noncomputable def Jh:Option HO→Prop
 |some (.lst _)=>True
 |some (.dK _)=>True
 |some (.dT _)=>True
 |some (.set _ _)=>True
 |some (.ins _ _ _)=>True
 |some (.ext _)=>True
 |_=>False
section
variable {P:Program}{w:World}{H:Hp}{h h':Heap}{x e:Addr}{o':HO}
theorem fj.write (ok:fj P w H h)(mu:Jh (H x))(l:e=x∨H e=e9 (.own x))(k:∀b u,b≠e→h.get? b=e9 u→h'.get? b=e9 u)(j:∃u,h'.get? e=e9 u)
  (new:I7 P w (upd H x o') h' x o'):fj P w (upd H x o') h':=λb u q=>by
 have d:∀c y,H c=e9 (.own y)→c≠x:=λc y r z=>by subst z;rw[r]at mu;exact mu
 have f:∀c xs,H c=e9 (.tup xs)→c≠x:=λc xs r z=>by subst z;rw[r]at mu;exact mu
 by_cases g:b=x
 ·subst g;rw[m3]at q;cases q;exact new
 ·rw[k0 g]at q;by_cases a:b=e
  ·have m:H b=e9 (.own x):=by
    rcases l with z|z
    ·exact absurd (a.trans z) g
    ·rw[a];exact z
   rw[q]at m;cases m;obtain⟨v,n⟩:=j;exact⟨v,by rw[a];exact n⟩
  ·refine(ok b u q).stay (λc v i r=>k c v ?_ r) (λc r=>by rw[k0 (d c b r)];exact r) λc xs r=>by rw[k0 (f c xs r)];exact r
   rcases i with rfl|i
   ·exact a
   ·rintro rfl
    rcases l with z|z
    ·exact d c b i z
    ·rw[i]at z;cases z;exact g rfl
end
structure Un (fs ex:List Addr) (H H':Hp) (h h':Heap):Prop where
 keep:∀b o,h.get? b=some o→H b=none→b∉fs→b∉ex→h'.get? b=some o
 slot:∀b o,h.get? b=some o→H b=none→b∈fs→b∉ex→∃sl,h'.get? b=some {o with slots:=sl}
 free:∀b o,h.get? b=some o→H b=none→b∉ex→H' b=none
 there:∀b o,h.get? b=some o→b∉ex→∃o',h'.get? b=some o'
 tups:∀b xs,H b=some (.tup xs)→H' b=some (.tup xs)
 frzs:∀b o u,H b=some (.cH o u)→H' b=some (.cH o u)
 tbls:∀b ps,H b=some (.tbl ps)→∃more,H' b=some (.tbl (ps++more))
section
variable {fs GW ex NG:List Addr}{H H1 H2:Hp}{h h1 h2 h':Heap}{a x e:Addr}{o:HO}
theorem Un.any (u:Un fs ex H H1 h h1)(q:h.get? b=e9 ob)(n:H b=f7)(a:b∉ex):∃sl,h1.get? b=e9 {ob with slots:=sl}:=by
 by_cases c:b∈fs
 ·exact u.slot b ob q n c a
 ·exact⟨ob.slots,u.keep b ob q n c a⟩
theorem Un.kept (k:∀b u,h.get? b=e9 u→h'.get? b=e9 u):Un fs ex H H h h':=
 ⟨λb ob q _ _ _=>k b ob q,λb ob q _ _ _=>⟨ob.slots,k b ob q⟩,λ_ _ _ n _=>n,λb ob q _=>⟨ob,k b ob q⟩,λ_ _ q=>q,λ_ _ _ q=>q,λ_ ps q=>⟨#[],by rw[q];simp⟩⟩
theorem Un.refl:Un fs ex H H h h:=Un.kept λ_ _ q=>q
theorem Un.laid (k:∀b u,h.get? b=e9 u→h'.get? b=e9 u)(d:h.objs.size≤a)(c:H a=f7):Un fs ex H (upd H a o) h h' where
 keep:=λb u q _ _ _=>k b u q
 slot:=λb u q _ _ _=>⟨u.slots,k b u q⟩
 free:=λb u q n _=>by rw[k0 (Nat.ne_of_lt (Nat.lt_of_lt_of_le (Heap.lt_size q) d))];exact n
 there:=λb u q _=>⟨u,k b u q⟩
 tups:=λb xs q=>by rw[k0 (t9 q c)];exact q
 frzs:=λb u xs q=>by rw[k0 (t9 q c)];exact q
 tbls:=λb ps q=>⟨#[],by rw[k0 (t9 q c),q];simp⟩
theorem Un.write (mu:Jh (H x))(i:e=x∨H e=e9 (.own x))(k:∀b u,b≠e→h.get? b=e9 u→h'.get? b=e9 u)(c:∃u,h'.get? e=e9 u):Un fs ex H (upd H x o) h h':=by
 have f:∀b,H b=f7→b≠x:=λb n z=>by subst z;rw[n]at mu;exact mu
 have g:∀b,H b=f7→b≠e:=λb n z=>by
  subst z;rcases i with r|r
  ·exact f b n r
  ·rw[n]at r;cases r
 have d:∀b u,H b=e9 u→¬Jh (e9 u)→b≠x:=λb u q j z=>by subst z;rw[q]at mu;exact j mu
 refine⟨λb u q n _ _=>k b u (g b n) q,λb u q n _ _=>⟨u.slots,k b u (g b n) q⟩,λb u q n _=>by rw[k0 (f b n)];exact n,λb u q _=>?_,
  λb xs q=>by rw[k0 (d b _ q λz=>z)];exact q,λb u xs q=>by rw[k0 (d b _ q λz=>z)];exact q,λb ps q=>⟨#[],by rw[k0 (d b _ q λz=>z),q];simp⟩⟩
 by_cases a:b=e
 ·subst a;exact c
 ·exact⟨u,k b u a q⟩
end
noncomputable def JD (h:Heap)(H:Hp):List Addr:=(List.range h.objs.size).filter λa=>(H a).isSome
noncomputable def pe (h:Heap)(H:Hp):Heap:=PySem.W.hideAll h (JD h H)
theorem xf (h:Heap)(H:Hp):(pe h H).objs.size=h.objs.size:=PySem.W.hideAll_size _ _
theorem zX {h:Heap}(e:h.get? b=e9 o)(n:H b=f7):(pe h H).get? b=e9 o:=
 PySem.W.hideAll_get _ e λa=>by
  have q:(H b).isSome=f8:=(List.mem_filter.mp a).2;rw[n]at q;simp at q
theorem CC(e:(pe h H).get? b=e9 o):h.get? b=e9 o∧H b=f7:=by
 have a:h.get? b=e9 o:=PySem.W.of_hideAll (JD h H) e;refine⟨a,?_⟩;cases q:H b with
 |none=>rfl
 |some x=>
  have c:b∈JD h H:=List.mem_filter.mpr ⟨List.mem_range.mpr (Heap.lt_size a),by simp[q]⟩;have z:(pe h H).get? b=f7:=PySem.W.hideAll_none (JD h H) c;rw[z]at e;cases e
structure Mod (K:PySem.W.Frag) (mg:Str→Option Value) (base:Heap):Prop where
 kin:K.In base
 glob:base.Ns l6 mg
 blt:∃mb,base.Ns Hu mb∧∀x:Str,x≠"__name__"→mb x=K4 x
 nolimit:base.NoLimit
structure Cx where
 prog:Program
 w:World
 K:PySem.W.Frag
 mg:Str→Option Value
 base:Heap
 A:Around
 N:List Str
 s₀:Shared
 H₀:Hp
 env:Env
 outer:List Env
 stack:List Env
 ex:List Addr
 fn:Str→Bool
 calm:Bool
 pn:List (Addr×Obj)
 xe:Value→Shared→Prop
noncomputable def frs (l:List Env):List Addr:=l.filterMap (·.frame)
noncomputable abbrev Cx.fs (X:Cx):List Addr:=frs X.outer
def fB (sc:Scope)(x:Str):Prop:=sc.names.lookup x=e9 .local∨sc.names.lookup x=e9 .cell∨sc.names.lookup x=e9 .free
def Loc (sc:Scope)(x:Str):Prop:=sc.names.lookup x=e9 .local∨sc.names.lookup x=e9 .cell
def Look (env:Env)(h:Heap)(m:Str→Option Value)(x:Str)(u:Value):Prop:=
 (env.kindOf x=e9 .local∧m x=e9 u)∨((env.kindOf x=e9 .cell∨env.kindOf x=e9 .free)∧∃c,env.cells.lookup x=e9 c∧h.IsCell c (e9 u))
structure Cx.Ok (X:Cx):Prop where
 mod:Mod X.K X.mg X.base
 kind:X.env.scope.kind=.function
 glob:X.env.globals=l6
 blt:X.env.builtins=Hu
 above:X.s₀.heap.objs.size≤X.env.locals
 inj:∀x y c,X.env.cells.lookup x=some c→X.env.cells.lookup y=some c→x=y
 has:∀x,(X.env.kindOf x=some .cell∨X.env.kindOf x=some .free)→∃c,X.env.cells.lookup x=some c
 cab:∀x c,X.fn x=true→X.env.cells.lookup x=some c→X.s₀.heap.objs.size≤c
 hd:X.calm=true→X.A.handled=none
 frames:X.A.frames=some X.stack
 stk:X.stack=X.outer∨(X.stack=X.env::X.outer∧X.env.frame=some X.env.locals)
 exf:∀b∈X.ex,b≠X.env.locals∧∀x c,X.env.cells.lookup x=some c→c≠b
 bs:∀b o,X.base.get? b=some o→X.s₀.heap.get? b=some o∧X.H₀ b=none
 bsz:X.base.objs.size≤X.s₀.heap.objs.size
 noex:∀b o,X.base.get? b=some o→b∉X.ex
 exfs:∀b∈X.ex,b∉X.fs
 hU:X.s₀.heap.FunFrames X.base X.outer
 frf:∀b∈X.fs,X.H₀ b=none
structure Inv (X:Cx) (pins:List (Addr×Obj)) (σ:List (Option V)) (H:Hp) (s:Shared):Prop where
 ok:X.Ok
 os:s.os=X.s₀.os
 bare:gx s.gens
 base:Un X.fs X.ex X.H₀ H X.s₀.heap s.heap
 loc:∃m,s.heap.Ns X.env.locals m∧∀(i:Nat) (x:Str) (v:V),X.N[i]?=some x→σ[i]?=some (some v)→fB X.env.scope x→∃u,RelV v u∧Look X.env s.heap m x u
 cell:∀x c,X.env.cells.lookup x=some c→∃v,s.heap.IsCell c v
 free:H X.env.locals=none
 freeC:∀x c,X.env.cells.lookup x=some c→H c=none
 pin:∀p∈X.pn++pins,s.heap.get? p.1=some p.2∧H p.1=none∧p.1≠X.env.locals∧p.1∉X.fs∧∀v,p.2.data≠.cell v
 hok:fj X.prog X.w H s.heap
 len:σ.length=X.N.length
section
variable {X:Cx}{pins:List (Addr×Obj)}{σ:List (Option V)}{H H':Hp}{s:Shared}{h':Heap}
theorem Cx.Ok.KH (ok:X.Ok)(e:X.base.get? b=e9 o):b∉X.fs:=λa=>by
 have:=(ok.hU.mem a).1;rw[e]at this;cases this
theorem Inv.bs (I:Inv X pins σ H s):∀b o,X.base.get? b=e9 o→s.heap.get? b=e9 o∧H b=f7:=λb o e=>
 ⟨I.base.keep b o (I.ok.bs b o e).1 (I.ok.bs b o e).2 (I.ok.KH e) (I.ok.noex b o e),I.base.free b o (I.ok.bs b o e).1 (I.ok.bs b o e).2 (I.ok.noex b o e)⟩
theorem Inv.bk (I:Inv X pins σ H s):∀b o,X.base.get? b=e9 o→s.heap.get? b=e9 o:=λb o e=>(I.bs b o e).1
theorem Inv.mod (I:Inv X pins σ H s):Mod X.K X.mg X.base:=I.ok.mod
theorem Inv.nv (I:Inv X pins σ H s):X.K.In s.heap:=I.ok.mod.kin.keeps I.bk
theorem Inv.fr (I:Inv X pins σ H s):∃m,Fr X.base X.env.locals s.heap m:=
 let⟨m,a,_⟩:=I.loc
 ⟨m,a,I.bk,Nat.le_trans I.ok.bsz I.ok.above⟩
theorem Inv.lt (I:Inv X pins σ H s):X.env.locals<s.heap.objs.size:=let⟨_,a,_⟩:=I.loc;a.lt
theorem Inv.sz (I:Inv X pins σ H s):X.s₀.heap.objs.size≤s.heap.objs.size:=Nat.le_trans I.ok.above (Nat.le_of_lt I.lt)
theorem Inv.FO (I:Inv X pins σ H s)(h:s.heap.objs.size≤a):a∉X.fs:=λb=>by
 obtain⟨_,o,c,_⟩:=I.ok.hU.mem b;exact absurd (Nat.lt_of_lt_of_le (Heap.lt_size c) (Nat.le_trans I.sz h)) (Nat.lt_irrefl _)
theorem Inv.AC (I:Inv X pins σ H s):∀x c,X.env.cells.lookup x=e9 c→c≠X.env.locals:=λx c e z=>by
 obtain⟨v,o,d,hd⟩:=I.cell x c e;obtain⟨m,⟨o',es,f,a,b,_⟩,_⟩:=I.loc;rw[z,a]at d;cases d;rw[b]at hd;cases hd
theorem Inv.hU (I:Inv X pins σ H s):s.heap.FunFrames X.base X.outer:=by
 have all:∀(l:List Env),(∀b∈frs l,b∈X.fs)→X.s₀.heap.FunFrames X.base l→s.heap.FunFrames X.base l:=by
  intro l;induction l with
  |nil=>intro _ _;trivial
  |cons env r ih=>
   intro hs hl;obtain⟨hk,⟨L,o,a,f,g,hd⟩,hr⟩:=hl;have c:L∈X.fs:=hs L (by unfold frs;rw[List.filterMap_cons,a];exact List.mem_cons_self);obtain⟨sl,e⟩:=I.base.slot L o g (I.ok.frf L c) c λz=>I.ok.exfs L z c;exact⟨hk,⟨L,_,a,f,e,hd⟩,ih (λb d=>hs b (by unfold frs;rw[List.filterMap_cons,a];exact List.mem_cons_of_mem _ d)) hr⟩
 exact all X.outer (λ_ d=>d) I.ok.hU
theorem Inv.stack (I:Inv X pins σ H s):s.heap.FunFrames X.base X.stack:=by
 rcases I.ok.stk with e| ⟨e,a⟩
 ·rw[e];exact I.hU
 ·rw[e];obtain⟨m,b,_⟩:=I.loc;refine .cons (by rw[I.ok.kind];decide) a b ?_ I.hU;exact Heap.get?_none_of_le (Nat.le_trans I.ok.bsz I.ok.above)
theorem Inv.iC (I:Inv X pins σ H s):∀b∈frs X.stack,b∈X.env.locals::X.fs:=λb a=>by
 rcases I.ok.stk with e| ⟨e,c⟩
 ·rw[e]at a;exact List.mem_cons_of_mem _ a
 ·rw[e]at a;unfold frs at a;rw[List.filterMap_cons,c]at a;exact a
theorem Inv.uy (I:Inv X pins σ H s):∀b∈frs X.stack,H b=f7:=λb a=>by
 rcases List.mem_cons.mp (I.iC b a)with e|a
 ·rw[e];exact I.free
 ·obtain⟨_,o,c,_⟩:=I.ok.hU.mem a;exact I.base.free b o c (I.ok.frf b a) λz=>I.ok.exfs b z a
theorem Inv.step {g':Array GenState}{N:Nat}{d':Drawn}{ch:List Addr}(I:Inv X pins σ H s)
  (f:∀b∈ch,(b∈X.ex∨X.s₀.heap.objs.size≤b)∧b≠X.env.locals∧(∀x c,X.env.cells.lookup x=e9 c→c≠b)∧∀p∈X.pn++pins,p.1≠b)
  (keep:∀b o,b≠X.env.locals→b∉X.fs→b∉ch→s.heap.get? b=e9 o→H b=f7→h'.get? b=e9 o)
  (slot:∀b o,b≠X.env.locals→b∈X.fs→b∉ch→s.heap.get? b=e9 o→H b=f7→∃sl,h'.get? b=e9 {o with slots:=sl}) (free:∀b o,b∉ch→s.heap.get? b=e9 o→H b=f7→H' b=f7)
  (there:∀b o,b∉ch→s.heap.get? b=e9 o→∃o',h'.get? b=e9 o')
  (tups:∀b xs,H b=e9 (.tup xs)→H' b=e9 (.tup xs)) (frzs:∀b o u,H b=e9 (.cH o u)→H' b=e9 (.cH o u)) (tbls:∀b ps,H b=e9 (.tbl ps)→∃more,H' b=e9 (.tbl (ps++more)))
  (ns:∀m,s.heap.Ns X.env.locals m→h'.Ns X.env.locals m) (hok:fj X.prog X.w H' h') (O:gx g'):
  Inv X pins σ H' {s with heap:=h',gens:=g',drawn:=d',toks:=N}:=by
 have B:∀b o,X.s₀.heap.get? b=e9 o→b≠X.env.locals:=λb o e=>Nat.ne_of_lt (Nat.lt_of_lt_of_le (Heap.lt_size e) I.ok.above);have j:∀b o,X.s₀.heap.get? b=e9 o→b∉X.ex→b∉ch:=λb o e a y=>by
  rcases(f b y).1 with z|z
  ·exact a z
  ·exact absurd (Nat.lt_of_lt_of_le (Heap.lt_size e) z) (Nat.lt_irrefl _)
 have g:∀x c,X.env.cells.lookup x=e9 c→∀v,s.heap.IsCell c v→h'.IsCell c v:=λx c e v ⟨o,A,hd⟩=>by
  have h:c∉ch:=λz=>(f c z).2.2.1 x c e rfl;by_cases G:c∈X.fs
  ·obtain⟨sl,q⟩:=slot c o (I.AC x c e) G h A (I.freeC x c e);exact⟨_,q,hd⟩
  ·exact⟨o,keep c o (I.AC x c e) G h A (I.freeC x c e),hd⟩
 refine⟨I.ok,I.os,O,⟨λb o e n y a=>?_,λb o e n y a=>?_,λb o e n a=>?_,λb o e a=>?_,λb xs e=>tups b xs (I.base.tups b xs e),λb o xs e=>frzs b o xs (I.base.frzs b o xs e),λb ps e=>?_⟩,?_,λx c e=>?_,?_,λx c e=>?_,λp J=>?_,hok,I.len⟩
 ·exact keep b o (B b o e) y (j b o e a) (I.base.keep b o e n y a) (I.base.free b o e n a)
 ·obtain⟨sl,t⟩:=I.base.slot b o e n y a;obtain⟨F,E⟩:=slot b _ (B b o e) y (j b o e a) t (I.base.free b o e n a);exact⟨F,E⟩
 ·obtain⟨o',t⟩:=I.base.there b o e a;exact free b o' (j b o e a) t (I.base.free b o e n a)
 ·obtain⟨o',t⟩:=I.base.there b o e a;exact there b o' (j b o e a) t
 ·obtain⟨P,t⟩:=I.base.tbls b ps e;obtain⟨Q,E⟩:=tbls b _ t;exact⟨P++Q,by rw[E,Array.append_assoc]⟩
 ·obtain⟨m,R,hl⟩:=I.loc;refine⟨m,ns m R,λi x v t E S=>?_⟩;obtain⟨u,r,l⟩:=hl i x v t E S;refine⟨u,r,?_⟩;rcases l with l| ⟨k,c,e,z⟩
  ·exact .inl l
  ·exact .inr ⟨k,c,e,g x c e _ z⟩
 ·obtain⟨v,z⟩:=I.cell x c e;exact⟨v,g x c e v z⟩
 ·obtain⟨m,⟨o,_,_,A,_⟩,_⟩:=I.loc;exact free _ o (λz=>(f _ z).2.1 rfl) A I.free
 ·obtain⟨v,o,A,hd⟩:=I.cell x c e;exact free c o (λz=>(f c z).2.2.1 x c e rfl) A (I.freeC x c e)
 ·obtain⟨e,n,ne,L,d⟩:=I.pin p J;have h:p.1∉ch:=λz=>(f p.1 z).2.2.2 p J rfl;exact⟨keep p.1 p.2 ne L h e n,free p.1 p.2 h e n,ne,L,d⟩
theorem Inv.un(I:Inv X pins σ H s)(u:Un X.fs [] H H' s.heap h')(hok:fj X.prog X.w H' h'):Inv X pins σ H' {s with heap:=h',toks:=t'}:=by
 obtain⟨m,⟨o,es,k,g,r⟩,_⟩:=id I.loc;obtain⟨sl,h⟩:=u.any g I.free (by simp);exact I.step (g':=s.gens) (d':=s.drawn) (ch:=[]) (λ_ z=>nomatch z) (λb o _ c _ e n=>u.keep b o e n c (by simp)) (λb o _ c _ e n=>u.slot b o e n c (by simp)) (λb o _ e n=>u.free b o e n (by simp)) (λb o _ e=>u.there b o e (by simp)) u.tups u.frzs u.tbls (λl i=>by
  obtain⟨o',d,f,a,j⟩:=i;rw[g]at a;cases a;exact⟨_,d,f,h,j⟩) hok I.bare
theorem Inv.call(I:Inv X pins σ H s)(u:Un (frs X.stack) ch H H' s.heap h')(hok:fj X.prog X.w H' h')(k:gx g')
  (d:∀b∈ch,(b∈X.ex∨X.s₀.heap.objs.size≤b)∧b≠X.env.locals∧(∀x c,X.env.cells.lookup x=e9 c→c≠b)∧∀p∈X.pn++pins,p.1≠b):
  Inv X pins σ H' {s with heap:=h',gens:=g',drawn:=d',toks:=t'}:=by
 obtain⟨m,⟨o,es,v,j,r⟩,_⟩:=id I.loc;obtain⟨sl,g⟩:=u.any j I.free λz=>(d _ z).2.1 rfl;exact I.step (ch:=ch) d (λb o g l a e n=>u.keep b o e n (λz=>(List.mem_cons.mp (I.iC b z)).elim g l) a) (λb o _ _ a e n=>u.any e n a) (λb o a e n=>u.free b o e n a) (λb o a e=>u.there b o e a) u.tups u.frzs u.tbls (λy q=>by
  obtain⟨o',h,i,f,t⟩:=q;rw[j]at f;cases f;exact⟨_,h,i,g,t⟩) hok k
theorem Inv.turned(I:Inv X pins σ H s)(k:∀b o,b≠it→s.heap.get? b=e9 o→h'.get? b=e9 o)(g:H it=f7)(f:it≠X.env.locals)
  (h:it∈X.ex∨X.s₀.heap.objs.size≤it) (i:∀x c,X.env.cells.lookup x=e9 c→c≠it) (j:∀p∈X.pn++pins,p.1≠it):Inv X pins σ H {s with heap:=h',toks:=t'}:=by
 have d:∀b u,H b=e9 u→b≠it:=λb u e z=>by rw[z,g]at e;cases e
 refine I.step (g':=s.gens) (d':=s.drawn) (ch:=[it]) (λb l=>?_) (λb o _ _ a e _=>k b o (λz=>a (by simp[z])) e) (λb o _ _ a e _=>⟨o.slots,k b o (λz=>a (by simp[z])) e⟩) (λ_ _ _ _ n=>n)
  (λb o a e=>⟨o,k b o (λz=>a (by simp[z])) e⟩) (λ_ _ e=>e) (λ_ _ _ e=>e) (λb ps e=>⟨#[],by rw[e];simp⟩) (λm t=>?_) (λb u e=>?_) I.bare
 ·have e:b=it:=by simpa using l
  subst e;exact⟨h,f,i,j⟩
 ·obtain⟨o,es,w,y,r⟩:=t;exact⟨o,es,w,k _ o (x8 f) y,r⟩
 ·refine(I.hok b u e).stay (λc v a q=>k c v ?_ q) (λ_ q=>q) λ_ _ q=>q;rcases a with z|z
  ·rw[z];exact d b u e
  ·exact d c _ z
theorem Inv.tok (I:Inv X pins σ H s)(t:Nat):Inv X pins σ H {s with toks:=t}:=I.un (h':=s.heap) (t':=t) Un.refl I.hok
theorem Inv.kept(I:Inv X pins σ H s)(k:∀b u,s.heap.get? b=e9 u→h'.get? b=e9 u):Inv X pins σ H {s with heap:=h',toks:=t'}:=I.un (Un.kept k) (I.hok.kept k)
theorem Inv.laid(I:Inv X pins σ H s)(k:∀b u,s.heap.get? b=e9 u→h'.get? b=e9 u)(c:s.heap.objs.size≤a)(new:I7 X.prog X.w (upd H a o) h' a o):
  Inv X pins σ (upd H a o) {s with heap:=h',toks:=t'}:=I.un (Un.laid k c (I.hok.fresh c)) (I.hok.laid k c new)
theorem Inv.write(I:Inv X pins σ H s)(mu:Jh (H x))(c:e=x∨H e=e9 (.own x))(k:∀b u,b≠e→s.heap.get? b=e9 u→h'.get? b=e9 u)(a:∃u,h'.get? e=e9 u)
  (new:I7 X.prog X.w (upd H x o) h' x o):Inv X pins σ (upd H x o) {s with heap:=h',toks:=d}:=I.un (Un.write mu c k a) (I.hok.write mu c k a new)
theorem Inv.weak {a:List (Option V)}(I:Inv X pins σ H s)(hl:a.length=σ.length)(w:∀(i:Nat) v,a[i]?=e9 (e9 v)→σ[i]?=e9 (e9 v)):Inv X pins a H s:=
 ⟨I.ok,I.os,I.bare,I.base,let⟨m,c,b⟩:=I.loc;⟨m,c,λi x v d e f=>b i x v d (w i v e) f⟩,I.cell,I.free,I.freeC,I.pin,I.hok,hl.trans I.len⟩
theorem Inv.gV(I:Inv X pins σ H s)(h:∀p∈Es,s.heap.get? p.1=e9 p.2∧H p.1=f7∧p.1≠X.env.locals∧p.1∉X.fs∧∀v,p.2.data≠.cell v):Inv X Es σ H s:=
 ⟨I.ok,I.os,I.bare,I.base,I.loc,I.cell,I.free,I.freeC,λp a=>(List.mem_append.mp a).elim (λz=>I.pin p (List.mem_append_left _ z)) (h p),I.hok,I.len⟩
theorem qI {N:List Str}(c:N.Nodup){i j:Nat}{x:Str}(a:N[i]?=e9 x)(b:N[j]?=e9 x):i=j:=by
 obtain⟨f,d⟩:=List.getElem?_eq_some_iff.mp a;obtain⟨g,e⟩:=List.getElem?_eq_some_iff.mp b;exact(List.getElem_inj c).mp (d.trans e.symm)
theorem mU(I:Inv X pins σ H s)(hN:X.N.Nodup)(hi:X.N[i]?=e9 x)(t:Loc X.env.scope x)(r:RelV v u)
  (h:∀s',Inv X pins (σ.set i (e9 v)) H s'→(∃a,Heap.SameBut a s.heap s'.heap∧(a=X.env.locals∨X.env.cells.lookup x=e9 a))→Q () s') (hf:X.fn x=f8∨X.env.scope.names.lookup x=e9 .local:=by first|exact .inl rfl|exact .inr rfl|assumption):wpAny M A (JY X.env x u) Q E s:=by
 obtain⟨m,hn,hl⟩:=id I.loc;have P:(X.env.scope.kind == .class||(X.env.scope.kind == .module&&X.env.locals != X.env.globals))=f6:=by rw[I.ok.kind];rfl
 have G:i<σ.length:=by rw[I.len];exact(List.getElem?_eq_some_iff.mp hi).1
 have AC:=I.AC;have f:∀{a:Addr} {h':Heap},(∃o,s.heap.get? a=e9 o∧H a=f7)→Heap.SameBut a s.heap h'→fj X.prog X.w H h':=λ{a h'} ha hs b ob e=>by
  obtain⟨_,_,B⟩:=ha;refine(I.hok b ob e).stay (λc Y l q=>(hs.2 c ?_).trans q) (λ_ q=>q) λ_ _ q=>q
  rintro rfl
  rcases l with rfl|l
  ·rw[B]at e;cases e
  ·rw[B]at l;cases l
 rcases t with hk|hk
 ·refine wpAny_storeName_local hk hn (λh' a0 hs=>?_) P;obtain⟨oL,_,_,a1,_⟩:=id hn;refine h _ ⟨I.ok,I.os,I.bare,⟨λb o e n J t=>?_,λb o e n J t=>?_,I.base.free,λb o e t=>?_,I.base.tups,I.base.frzs,I.base.tbls⟩,⟨_,a0,λj y v' g F e3=>?_⟩,λy c e=>?_,I.free,I.freeC,λp hp=>?_,f ⟨oL,a1,I.free⟩ hs,by simpa using I.len⟩ ⟨_,hs,.inl rfl⟩
  ·exact(hs.2 b (Nat.ne_of_lt (Nat.lt_of_lt_of_le (Heap.lt_size e) I.ok.above))).trans (I.base.keep b o e n J t)
  ·obtain⟨sl,g⟩:=I.base.slot b o e n J t;exact⟨sl,(hs.2 b (Nat.ne_of_lt (Nat.lt_of_lt_of_le (Heap.lt_size e) I.ok.above))).trans g⟩
  ·obtain⟨o',g⟩:=I.base.there b o e t;exact⟨o',(hs.2 b (Nat.ne_of_lt (Nat.lt_of_lt_of_le (Heap.lt_size e) I.ok.above))).trans g⟩
  ·by_cases L:j=i
   ·subst L;rw[hi]at g;cases g;rw[List.getElem?_set_self G]at F;cases F;exact⟨u,r,.inl ⟨hk,by simp⟩⟩
   ·rw[List.getElem?_set_ne (x8 L)]at F;obtain⟨u',r',q⟩:=hl j y v' g F e3;refine⟨u',r',?_⟩;rcases q with⟨k,e⟩ | ⟨k,c,e,z⟩
    ·refine .inl ⟨k,?_⟩;have:y≠x:=λe=>L (qI hN g (e▸hi));simp[this,e]
    ·exact .inr ⟨k,c,e,z.sameBut hs (AC y c e)⟩
  ·obtain⟨Y,z⟩:=I.cell y c e;exact⟨Y,z.sameBut hs (AC y c e)⟩
  ·obtain⟨e,n,ne,nf,d⟩:=I.pin p hp;exact⟨(hs.2 p.1 ne).trans e,n,ne,nf,d⟩
 ·have O:X.fn x=f8:=by
   rcases hf with z|z
   ·exact z
   ·rw[z]at hk;cases hk
  obtain⟨c,l⟩:=I.ok.has x (.inl hk);obtain⟨Y,z⟩:=I.cell x c l;refine wpAny_storeName_cell I.ok.kind hk l z (λh' R hs=>?_);obtain⟨oc,S,T⟩:=id z;refine h {s with heap:=h'} ⟨I.ok,I.os,I.bare,⟨λb o e n J t=>?_,λb o e n J t=>?_,I.base.free,λb o e t=>?_,I.base.tups,I.base.frzs,I.base.tbls⟩,⟨m,hn.sameBut hs (x8 (AC x c l)),λj y v' g F e3=>?_⟩,λy Z e=>?_,I.free,I.freeC,λp hp=>?_,f ⟨oc,S,I.freeC x c l⟩ hs,by simpa using I.len⟩ ⟨c,hs,.inr l⟩
  ·exact(hs.2 b (Nat.ne_of_lt (Nat.lt_of_lt_of_le (Heap.lt_size e) (I.ok.cab x c O l)))).trans (I.base.keep b o e n J t)
  ·obtain⟨sl,g⟩:=I.base.slot b o e n J t;exact⟨sl,(hs.2 b (Nat.ne_of_lt (Nat.lt_of_lt_of_le (Heap.lt_size e) (I.ok.cab x c O l)))).trans g⟩
  ·obtain⟨o',g⟩:=I.base.there b o e t;exact⟨o',(hs.2 b (Nat.ne_of_lt (Nat.lt_of_lt_of_le (Heap.lt_size e) (I.ok.cab x c O l)))).trans g⟩
  ·by_cases L:j=i
   ·subst L;rw[hi]at g;cases g;rw[List.getElem?_set_self G]at F;cases F;exact⟨u,r,.inr ⟨.inl hk,c,l,R⟩⟩
   ·rw[List.getElem?_set_ne (x8 L)]at F;obtain⟨u',r',q⟩:=hl j y v' g F e3;refine⟨u',r',?_⟩;rcases q with q| ⟨k,Z,e,z'⟩
    ·exact .inl q
    ·refine .inr ⟨k,Z,e,z'.sameBut hs ?_⟩
     rintro rfl
     exact L (qI hN g (I.ok.inj _ _ _ e l▸hi))
  ·by_cases U:Z=c
   ·subst U;exact⟨_,R⟩
   ·obtain⟨w2,z2⟩:=I.cell y Z e;exact⟨w2,z2.sameBut hs U⟩
  ·obtain⟨e,n,ne,nf,d⟩:=I.pin p hp;refine⟨(hs.2 p.1 ?_).trans e,n,ne,nf,d⟩;intro q;rw[q,S]at e;have q':oc=p.2:=j7 e;exact d Y (by rw[←q'];exact T)
theorem ks(I:Inv X pins σ H s)(b:X.N.Nodup)(hi:X.N[i]?=e9 x)(c:Loc X.env.scope x)(r:RelV v u)
  (h:∀a,Inv X pins (σ.set i (e9 v)) H a→Q () a) (d:X.fn x=f8∨X.env.scope.names.lookup x=e9 .local:=by first|exact .inl rfl|exact .inr rfl|assumption):wpAny M A (JY X.env x u) Q E s:=
 mU I b hi c r (λa e _=>h a e) d
theorem Inv.Jd {s':Shared}(I:Inv X pins σ H s)(d:s'.os=s.os)(u:Un (frs X.stack) ch H H' s.heap s'.heap)(hok:fj X.prog X.w H' s'.heap)(f:gx s'.gens)
  (a:∀b∈ch,(b∈X.ex∨X.s₀.heap.objs.size≤b)∧b≠X.env.locals∧(∀x c,X.env.cells.lookup x=e9 c→c≠b)∧∀p∈X.pn++pins,p.1≠b):Inv X pins σ H' s':=by
 obtain⟨h',g',d',t',o'⟩:=s';have e:o'=s.os:=d;subst e;exact I.call (g':=g') (t':=t') (d':=d') u hok f a
end
noncomputable abbrev XK:=Value→Option Addr→Hp→Prop
noncomputable abbrev St:=List (Option V)
noncomputable abbrev VK:=V→Hp→Prop
noncomputable abbrev TE:=St→Hp→VK→Prop
noncomputable abbrev TT:=St→Hp→(Bool→Hp→Prop)→Prop
noncomputable abbrev TA:=St→Hp→(List V→Hp→Prop)→Prop
structure Ends where
 nx:St→Hp→Prop
 rt:VK
 bk:St→Hp→Prop:=λ_ _=>False
 ct:St→Hp→Prop:=λ_ _=>False
noncomputable abbrev TS:=Ends→St→Hp→Prop
def EP (X:Cx)(pins:List (Addr×Obj))(σ:St)(Q:VK)(u:Value)(a:Shared):Prop:=∃v H',Inv X pins σ H' a∧RelV v u∧Q v H'
def TP (X:Cx)(pins:List (Addr×Obj))(σ:St)(Q:Bool→Hp→Prop)(b:Bool)(a:Shared):Prop:=∃H',Inv X pins σ H' a∧Q b H'
def AP (X:Cx)(pins:List (Addr×Obj))(σ:St)(Q:List V→Hp→Prop)(us:List Value)(a:Shared):Prop:=∃vs H',Inv X pins σ H' a∧Vals vs us∧Q vs H'
def SP (X:Cx)(pins:List (Addr×Obj))(D:Ends)(f:Flow)(b:Shared):Prop:=
 match f with
 |.next=>∃a H',Inv X pins a H' b∧D.nx a H'
 |.brk=>∃a H',Inv X pins a H' b∧D.bk a H'
 |.cont=>∃a H',Inv X pins a H' b∧D.ct a H'
 |.ret u=>∃v a H',Inv X pins a H' b∧RelV v u∧D.rt v H'
def PE (X:Cx)(e:Expr)(t:TE):Prop:=
 ∀(pins:List (Addr×Obj)) (s:Shared) (σ:St) (H:Hp) (Q:VK),Inv X pins σ H s→t σ H Q→wpAny (model X.prog X.w) X.A (eval e X.env) (EP X pins σ Q) X.xe s
def PT (X:Cx)(e:Expr)(t:TT):Prop:=
 ∀(pins:List (Addr×Obj)) (s:Shared) (σ:St) (H:Hp) (Q:Bool→Hp→Prop),Inv X pins σ H s→t σ H Q→wpAny (model X.prog X.w) X.A (Bv e X.env (eval e X.env)) (TP X pins σ Q) X.xe s
def PW (X:Cx)(e:Expr)(t:TT):Prop:=
 ∀(a:Sem Value) (pins:List (Addr×Obj)) (s:Shared) (σ:St) (H:Hp) (Q:Bool→Hp→Prop),Inv X pins σ H s→t σ H Q→wpAny (model X.prog X.w) X.A (Bv e X.env a) (TP X pins σ Q) X.xe s
theorem PW.pt(h:PW X e t):PT X e t:=h _
def PA (X:Cx)(es:List Expr)(t:TA):Prop:=
 ∀(pos:Pos) (pins:List (Addr×Obj)) (s:Shared) (σ:St) (H:Hp) (Q:List V→Hp→Prop),Inv X pins σ H s→t σ H Q→wpAny (model X.prog X.w) X.A (Br (m4 pos (h8 es X.env))) (AP X pins σ Q) X.xe s
def PS (X:Cx)(st:Stmt)(t:TS):Prop:=
 ∀(pins:List (Addr×Obj)) (s:Shared) (σ:St) (H:Hp) (D:Ends),Inv X pins σ H s→t D σ H→wpAny (model X.prog X.w) X.A (exec st X.env) (SP X pins D) X.xe s
def lV (X:Cx)(st:List Stmt)(t:TS):Prop:=
 ∀(pins:List (Addr×Obj)) (s:Shared) (σ:St) (H:Hp) (D:Ends),Inv X pins σ H s→t D σ H→wpAny (model X.prog X.w) X.A (execs st X.env) (SP X pins D) X.xe s
theorem F3 {α:Type}{t:Sem α}{Q b:α→Shared→Prop}{M:Model}{A:Around}{E:Value→Shared→Prop}{s:Shared}(h:wpAny M A t Q E s)(c:∀a s,Q a s→b a s):wpAny M A t b E s:=z9 h c λ_ _ x=>x
section
variable {X:Cx}
noncomputable def ER (i:Nat):TE:=λσ H Q=>∃v,σ[i]?=e9 (e9 v)∧Q v H
noncomputable def tC (v:V):TE:=λ_ H Q=>Q v H
theorem bF(f:X.N[i]?=e9 x)(g:fB X.env.scope x)(hd:(x==("__debug__":Str))=f6:=by decide) (b:(x==("__classdict__":Str))=f6:=by decide):PE X (.Name x pos) (ER i):=by
 intro pins s σ H Q I h;obtain⟨v,e,h⟩:=h;obtain⟨m,j,hl⟩:=I.loc;obtain⟨u,r,l⟩:=hl i x v f e g;have fin:EP X pins σ Q u s:=⟨v,H,I,r,h⟩
 rcases l with⟨hk,k⟩ | ⟨hk,c,d,a⟩
 ·exact Hq (Et I.ok.kind hk j k fin) hd
 ·rcases hk with hk|hk
  ·exact Hq (GX I.ok.kind hk d a fin) hd
  ·exact Hq (wpAny_loadName_free I.ok.kind hk d a fin b) hd
theorem sE {i j pos}:PE X (.Constant (.int i) j pos) (tC (.int i)):=λ_ _ _ H _ I h=>Hr ⟨.int i,H,I.tok _,⟨_,rfl⟩,h⟩
theorem Ec {b j pos}:PE X (.Constant (.bool b) j pos) (tC (.bl b)):=λ_ _ _ H _ I h=>Constant_bool ⟨.bl b,H,I,rfl,h⟩
theorem Fz {j pos}:PE X (.Constant .none j pos) (tC .v1):=λ_ _ _ H _ I h=>xT ⟨.v1,H,I,rfl,h⟩
theorem Fx {x j pos}:PE X (.Constant (.str x) j pos) (tC (.str x)):=λ_ _ _ H _ I h=>Calls.Constant_str ⟨.str x,H,I.tok _,⟨_,rfl⟩,h⟩
def Gl (X:Cx)(x:Str):Prop:=X.env.kindOf x=e9 .globalImplicit
theorem oY(I:Inv X pins σ H s)(a:Gl X x)(b:X.mg x=e9 u)(h:Q u s)
  (hd:(x==("__debug__":Str))=f6:=by decide):wpAny (model X.prog X.w) X.A (eval (.Name x pos) X.env) Q E s:=
 oh I.ok.kind a (Calls.loadGlobal_global (by rw[I.ok.glob];exact I.mod.glob.keeps I.bk) b h) hd
theorem aJ(I:Inv X pins σ H s)(a:Gl X x)(b:X.mg x=f7)(c:K4 x=e9 u)(h:Q u s)
  (d:x≠"__name__":=by decide) (hd:(x==("__debug__":Str))=f6:=by decide):wpAny (model X.prog X.w) X.A (eval (.Name x pos) X.env) Q E s:=by
 obtain⟨mb,e,f⟩:=I.mod.blt;exact oh I.ok.kind a (Calls.loadGlobal_builtin (by rw[I.ok.glob];exact I.mod.glob.keeps I.bk) b (by rw[I.ok.blt];exact e.keeps I.bk) ((f x d).trans c) h) hd
theorem Cm(a:Gl X x)(b:X.mg x=e9 u)(r:RelV v u)(hd:(x==("__debug__":Str))=f6:=by decide):PE X (.Name x pos) (tC v):=
 λ_ _ _ H _ I h=>oY I a b ⟨v,H,I,r,h⟩ hd
theorem Cr(a:Gl X x)(b:X.mg x=f7)(c:K4 x=e9 u)(r:RelV v u)(d:x≠"__name__":=by decide) (hd:(x==("__debug__":Str))=f6:=by decide):PE X (.Name x pos) (tC v):=
 λ_ _ _ H _ I h=>aJ I a b c ⟨v,H,I,r,h⟩ d hd
variable {a b:Expr}{ta tb:TE}{pos:Pos}
def PC (X:Cx)(e:CmpOp)(a b:Expr)(t:TE):Prop:=
 ∀(pins:List (Addr×Obj)) (s:Shared) (σ:St) (H:Hp) (Q:VK),Inv X pins σ H s→t σ H Q→
  wpAny (model X.prog X.w) X.A (eval a X.env) (λv c=>wpAny (model X.prog X.w) X.A (eval b X.env) (λu d=>wpAny (model X.prog X.w) X.A (v9 e v u) (EP X pins σ Q) X.xe d) X.xe c) X.xe s
theorem zg (b:Expr){a:CmpOp}(h:a≠.In)(c:a≠.NotIn):z8 a b=f6:=by
 have d:(a==CmpOp.In)=f6:=by cases a<;>first|rfl|exact absurd rfl h
 have e:(a==CmpOp.NotIn)=f6:=by cases a<;>first|rfl|exact absurd rfl c
 cases b<;>simp[z8,d,e]
noncomputable def Kr (ta:TE):TE:=λσ H Q=>ta σ H λx a=>Q (.bl (decide (x=.v1))) a
noncomputable def HM (ta:TE):TE:=λσ H Q=>ta σ H λx a=>Q (.bl (!decide (x=.v1))) a
theorem RelV.qH(r:RelV x v):(v==Value.none)=decide (x=.v1):=by
 cases x with
 |v1=>cases r;rfl
 |bl _=>cases r;rfl
 |int _=>obtain⟨t,rfl⟩:=r;rfl
 |str _=>obtain⟨t,rfl⟩:=r;rfl
 |byt _=>obtain⟨t,rfl⟩:=r;rfl
 |flt _=>obtain⟨t,rfl⟩:=r;rfl
 |ref _=>cases r;rfl
 |ty _=>cases r;rfl
theorem FC {j dC}(b:PE X a ta):PC X .Is a (.Constant .none j dC) (Kr ta):=by
 intro pins s σ H Q I h;refine F3 (b pins s σ H _ I h) λv s1 ⟨x,c,d,e,f⟩=>?_;exact xT (is_none_gen ⟨.bl _,c,d,by rw[e.qH];rfl,f⟩)
theorem Cs {j dC}(b:PE X a ta):PC X .IsNot a (.Constant .none j dC) (HM ta):=by
 intro pins s σ H Q I h;refine F3 (b pins s σ H _ I h) λv s1 ⟨x,c,d,e,f⟩=>?_;exact xT (isnot_none_gen ⟨.bl _,c,d,by rw[e.qH];rfl,f⟩)
noncomputable def tB (t:TE):TT:=λσ H Q=>t σ H λx a=>∃c,x=.bl c∧Q c a
theorem yG(h:PC X e a b t)(f:z8 e b=f6:=by first|exact zg _ (by decide) (by decide) |rfl):PT X (.Compare a [e] [b] pos) (tB t):=by
 intro pins s σ H Q I g;refine DM (F3 (h pins s σ H _ I g) λv s1 f=>F3 f λu s2 i=>F3 i λc n ⟨x,j,k,l,m⟩=>?_) f;obtain⟨d,rfl,q⟩:=m;cases l;exact R4 ⟨j,k,q⟩
variable {tA JT:TT}{S2:List Expr}
noncomputable def HV (t u:TT):TT:=λσ H Q=>t σ H λc a=>if c=f8 then u σ a Q else Q f6 a
noncomputable def Me (t u:TT):TT:=λσ H Q=>t σ H λc a=>if c=f8 then Q f8 a else u σ a Q
noncomputable def Ko (t:TT):TT:=λσ H Q=>t σ H λc a=>Q (!c) a
theorem BY (b:PT X a tA):PW X (.BoolOp .And [a] pos) tA:=by
 intro d pins s σ H Q I h;refine isTrue_and (F3 (b pins s σ H Q I h) λc s1 e=>?_);cases c with
 |true=>exact isTrue_and_nil e
 |false=>exact e
theorem Fg (b:PT X a tA):PW X (.BoolOp .Or [a] pos) tA:=by
 intro d pins s σ H Q I h;refine isTrue_or (F3 (b pins s σ H Q I h) λc s1 e=>?_);cases c with
 |false=>exact isTrue_or_nil e
 |true=>exact e
theorem Fh (g:PT X a tA)(i:PW X (.BoolOp .And (b::S2) pos) JT):PW X (.BoolOp .And (a::b::S2) pos) (HV tA JT):=by
 intro j pins s σ H Q I h;refine isTrue_and (F3 (g pins s σ H _ I h) λc s1 ⟨d,e,f⟩=>?_);cases c with
 |true=>exact i j pins s1 σ d Q e f
 |false=>exact⟨d,e,f⟩
theorem Ii (g:PT X a tA)(i:PW X (.BoolOp .Or (b::S2) pos) JT):PW X (.BoolOp .Or (a::b::S2) pos) (Me tA JT):=by
 intro j pins s σ H Q I h;refine isTrue_or (F3 (g pins s σ H _ I h) λc s1 ⟨d,e,f⟩=>?_);cases c with
 |true=>exact⟨d,e,f⟩
 |false=>exact i j pins s1 σ d Q e f
theorem Fk (b:PT X a tA):PT X (.UnaryOp .Not a pos) (Ko tA):=by
 intro pins s σ H Q I h;exact isTrue_not (b pins s σ H (λc d=>Q (!c) d) I h)
noncomputable def DQ (ta tb:TE):TE:=λσ H Q=>ta σ H λx a=>∃c,x=.bl c∧if c=f8 then tb σ a Q else Q (.bl f6) a
theorem Fy {op}(h:PE X a t):PE X (.BoolOp op [a] pos) t:=λpins s σ H Q I b=>BoolOp_one (h pins s σ H Q I b)
theorem FB (g:PE X a ta)(i:PE X (.BoolOp .And (b::S2) pos) tb):PE X (.BoolOp .And (a::b::S2) pos) (DQ ta tb):=by
 intro pins s σ H Q I h;refine BoolOp_and (F3 (g pins s σ H _ I h) λv s1 ⟨x,e,f,j,d⟩=>?_);obtain⟨c,rfl,d⟩:=d;cases j;refine R4 ?_;cases c with
 |true=>exact i pins s1 σ e Q f d
 |false=>exact⟨.bl f6,e,f,rfl,d⟩
noncomputable def MD (t:TT)(ta tb:TE):TE:=λσ H Q=>t σ H λc a=>if c=f8 then ta σ a Q else tb σ a Q
theorem yS(i:PT X c tA)(j:PE X a ta)(k:PE X b tb):PE X (.IfExp c a b pos) (MD tA ta tb):=by
 intro pins s σ H Q I h;refine wpAny_IfExp (F3 (i pins s σ H _ I h) λd s1 ⟨e,f,g⟩=>?_);cases d with
 |true=>exact j pins s1 σ e Q f g
 |false=>exact k pins s1 σ e Q f g
end
def P7 (K:PySem.W.Frag)(H:Hp)(a:Addr)(xs:List V):Prop:=
 Rd H a (.lst xs)∨
  ∃(o:Obj) (b:Array Value) (n:Nat),K.lookup a=e9 o∧o.cls=.type "list"∧o.dict=f7∧o.data=.seq b n∧b.size≤sizeLine∧Vals xs b.toList
def bz (K:PySem.W.Frag)(H:Hp)(a:Addr)(xs:List V):Prop:=
 Rd H a (.tup xs)∨
  ∃(o:Obj) (b:Array Value) (n:Nat),K.lookup a=e9 o∧o.cls=.type "tuple"∧o.data=.seq b n∧b.size≤sizeLine∧Vals xs b.toList
noncomputable def Lb:Value→Option V
 |.none=>e9 .v1
 |.bool b=>e9 (.bl b)
 |.int i _=>e9 (.int i)
 |.str x _=>e9 (.str x)
 |.bytes b _=>e9 (.byt b)
 |.float b _=>e9 (.flt b)
 |.ref a=>e9 (.ref a)
 |.type n=>e9 (.ty n)
 |_=>f7
theorem RelV.abs(r:RelV x u):Lb u=e9 x:=by
 cases x with
 |v1=>cases r;rfl
 |bl _=>cases r;rfl
 |int _=>obtain⟨t,rfl⟩:=r;rfl
 |str _=>obtain⟨t,rfl⟩:=r;rfl
 |byt _=>obtain⟨t,rfl⟩:=r;rfl
 |flt _=>obtain⟨t,rfl⟩:=r;rfl
 |ref _=>cases r;rfl
 |ty _=>cases r;rfl
theorem RelV.inj(r:RelV x u)(q:RelV y u):x=y:=j7 (r.abs.symm.trans q.abs)
theorem Vals.inj:∀{xs a:List V} {us:List Value},Vals xs us→Vals a us→xs=a
 |_,_,_,.nil,.nil=>rfl
 |_,_,_,.cons r t,.cons b c=>by rw[r.inj b,Vals.inj t c]
section
variable {X:Cx}{pins:List (Addr×Obj)}{σ:St}{H:Hp}{s:Shared}{a:Addr}{xs ys:List V}
theorem P7.of {K:PySem.W.Frag}(h:H a=e9 (.lst xs)):P7 K H a xs:=.inl (.inl h)
theorem bz.of {K:PySem.W.Frag}(h:H a=e9 (.tup xs)):bz K H a xs:=.inl (.inl h)
theorem Inv.list (I:Inv X pins σ H s)(h:P7 X.K H a xs):∃b:List Value,Vals xs b∧PlainL s.heap a b.toArray∧xs.length≤sizeLine:=by
 rcases h with h| ⟨o,b,n,hk,c,hd,hs,d,r⟩
 ·obtain⟨z,b,n,r,e⟩:=h.ok I.hok;exact⟨b,r,⟨_,n,e,rfl,rfl,rfl⟩,z⟩
 ·refine⟨b.toList,r,⟨o,n,I.nv a o hk,c,hd,by simpa using hs⟩,?_⟩;have e:=r.length;simp only[J1]at e;omega
theorem Inv.tuple (I:Inv X pins σ H s)(h:bz X.K H a xs):∃b:List Value,Vals xs b∧EA s.heap a b.toArray∧xs.length≤sizeLine:=by
 rcases h with h| ⟨o,b,n,hk,c,hs,d,r⟩
 ·obtain⟨z,b,r,p⟩:=h.ok I.hok;exact⟨b,r,p,z⟩
 ·refine⟨b.toList,r,⟨o,I.nv a o hk,c,n,by simpa using hs⟩,?_⟩;have e:=r.length;simp only[J1]at e;omega
theorem Inv.hG (I:Inv X pins σ H s)(h:P7 X.K H a xs)(h':P7 X.K H a ys):xs=ys:=by
 obtain⟨c,r,⟨o,n,e,_,_,d⟩,_⟩:=I.list h;obtain⟨b,i,⟨o',k,f,_,_,g⟩,_⟩:=I.list h';rw[e]at f;cases f;rw[d]at g;injection g with j _
 have:c=b:=by simpa using congrArg HA j
 subst this;exact r.inj i
theorem Inv.iz (I:Inv X pins σ H s)(h:bz X.K H a xs)(h':bz X.K H a ys):xs=ys:=by
 obtain⟨c,r,⟨o,e,_,n,d⟩,_⟩:=I.tuple h;obtain⟨b,i,⟨o',f,_,k,g⟩,_⟩:=I.tuple h';rw[e]at f;cases f;rw[d]at g;injection g with j _
 have:c=b:=by simpa using congrArg HA j
 subst this;exact r.inj i
end
noncomputable abbrev Cx.X5 (X:Cx)(E:Value→Shared→Prop):Cx:={X with xe:=E}
noncomputable abbrev Cx.JH (X:Cx):Cx:=X.X5 λ_ _=>False
theorem Cx.Ok.X5 {X:Cx}(ok:X.Ok)(E:Value→Shared→Prop):(X.X5 E).Ok:=
 ⟨ok.mod,ok.kind,ok.glob,ok.blt,ok.above,ok.inj,ok.has,ok.cab,ok.hd,ok.frames,ok.stk,ok.exf,ok.bs,ok.bsz,ok.noex,ok.exfs,ok.hU,ok.frf⟩
theorem Cx.Ok.T3 {X:Cx}(ok:(X.X5 E).Ok):X.Ok:=
 ⟨ok.mod,ok.kind,ok.glob,ok.blt,ok.above,ok.inj,ok.has,ok.cab,ok.hd,ok.frames,ok.stk,ok.exf,ok.bs,ok.bsz,ok.noex,ok.exfs,ok.hU,ok.frf⟩
section
variable {X:Cx}{pins:List (Addr×Obj)}{σ:St}{H:Hp}{s:Shared}{E:Value→Shared→Prop}
theorem Inv.X5 (I:Inv X pins σ H s)(E:Value→Shared→Prop):Inv (X.X5 E) pins σ H s:=⟨I.ok.X5 E,I.os,I.bare,I.base,I.loc,I.cell,I.free,I.freeC,I.pin,I.hok,I.len⟩
theorem Inv.T3 (I:Inv (X.X5 E) pins σ H s):Inv X pins σ H s:=⟨I.ok.T3,I.os,I.bare,I.base,I.loc,I.cell,I.free,I.freeC,I.pin,I.hok,I.len⟩
theorem SP.T3(h:SP (X.X5 E) pins D f b):SP X pins D f b:=by
 cases f with
 |next=>obtain⟨a,H',I,q⟩:=h;exact⟨a,H',I.T3,q⟩
 |brk=>obtain⟨a,H',I,q⟩:=h;exact⟨a,H',I.T3,q⟩
 |cont=>obtain⟨a,H',I,q⟩:=h;exact⟨a,H',I.T3,q⟩
 |ret u=>obtain⟨v,a,H',I,r,q⟩:=h;exact⟨v,a,H',I.T3,r,q⟩
theorem lV.JH {st:List Stmt}{t:TS}(h:lV X.JH st t):lV X st t:=λpins s σ H D I a=>
 z9 (h pins s σ H D (I.X5 _) a) (λ_ _ q=>q.T3) λ_ _ z=>D9 z
end
section
variable {X:Cx}{st:Stmt}{S2:List Stmt}{t u:TS}{e:Expr}{te:TE}{pos:Pos}
noncomputable def HN:TS:=λD σ H=>D.nx σ H
noncomputable def Km (t u:TS):TS:=λD σ H=>t {D with nx:=u D} σ H
theorem Cb:lV X [] HN:=λ_ _ σ H _ I h=>ip ⟨σ,H,I,h⟩
theorem yH (b:PS X st t)(c:lV X S2 u):lV X (st::S2) (Km t u):=by
 intro pins s σ H D I h;refine JW (F3 (b pins s σ H {D with nx:=u D} I h) λf s1 q=>?_);cases f with
 |next=>
  obtain⟨a,H',d,q⟩:=q;exact c pins s1 a H' D d q
 |ret v=>exact q
 |brk=>exact q
 |cont=>exact q
theorem Ca (a:PS X st t):lV X [st] t:=by
 intro pins s σ H D I h;refine JW (F3 (a pins s σ H D I h) λf s1 q=>?_);cases f with
 |next=>exact ip q
 |ret v=>exact q
 |brk=>exact q
 |cont=>exact q
theorem Inv.quiet(I:Inv X pins σ H s):interactive X.env=f6:=by simp[interactive,I.ok.kind]
noncomputable def HQ (te:TE):TS:=λD σ H=>te σ H λ_ a=>D.nx σ a
theorem Cd (a:PE X e te)(hs:T2 e f7 pos.line X.env=pure f6:=by rfl):PS X (.Expr e pos) (HQ te):=by
 intro pins s σ H D I h;exact wpAny_Expr_any (F3 (a pins s σ H _ I h) λv s1 ⟨x,b,c,f,d⟩=>⟨σ,b,c,d⟩) I.quiet hs
noncomputable def Kn (te:TE):TS:=λD σ H=>te σ H D.rt
theorem Fl (a:PE X e te):PS X (.Return (e9 e) pos) (Kn te):=by
 intro pins s σ H D I h;exact wpAny_Return_some (F3 (a pins s σ H _ I h) λv s1 ⟨x,b,c,d,f⟩=>⟨x,σ,b,c,d,f⟩)
noncomputable def Ks (c:TT)(t u:TS):TS:=λD σ H=>c σ H λb a=>if b=f8 then t D σ a else u D σ a
theorem Ij {c:Expr}{a b:List Stmt}{e:TT}(j:PT X c e)(k:lV X a t)(l:lV X b u):PS X (.If c a b pos) (Ks e t u):=by
 intro pins s σ H D I h;refine wpAny_If (F3 (j pins s σ H _ I h) λd s1 ⟨f,g,i⟩=>?_);cases d with
 |true=>exact k pins s1 σ f D g i
 |false=>exact l pins s1 σ f D g i
noncomputable def ES:TS:=λ_ _ _=>False
theorem yK:PS X st ES:=λ_ _ _ _ _ _ h=>h.elim
end
noncomputable abbrev TG:=V→St→Hp→(St→Hp→Prop)→Prop
def PG (X:Cx)(a:Expr)(t:TG):Prop:=
 ∀(pins:List (Addr×Obj)) (s:Shared) (σ:St) (H:Hp) (v:V) (u:Value) (Q:St→Hp→Prop),Inv X pins σ H s→RelV v u→t v σ H Q→
  wpAny (model X.prog X.w) X.A (lX a X.env u) (λ_ c=>∃b H',Inv X pins b H' c∧Q b H') X.xe s
noncomputable abbrev Jf:=V→V→V→Hp→(Hp→Prop)→Prop
def uf (X:Cx)(t:Jf):Prop:=
 ∀(pins:List (Addr×Obj)) (s:Shared) (σ:St) (H:Hp) (o i v:V) (a b u:Value) (Q:Hp→Prop),Inv X pins σ H s→RelV o a→RelV i b→RelV v u→t o i v H Q→
  wpAny (model X.prog X.w) X.A (Jv a b u) (λ_ c=>∃H',Inv X pins σ H' c∧Q H') X.xe s
noncomputable abbrev Le:=V→V→Hp→VK→Prop
def Mg (X:Cx)(a:Operator)(t:Le):Prop:=
 ∀(pins:List (Addr×Obj)) (s:Shared) (σ:St) (H:Hp) (x y:V) (v u:Value) (Q:VK),Inv X pins σ H s→RelV x v→RelV y u→t x y H Q→
  wpAny (model X.prog X.w) X.A (JZ a v u) (EP X pins σ Q) X.xe s
section
variable {X:Cx}{pos:Pos}
noncomputable def js (i:Nat):TG:=λv σ H Q=>Q (σ.set i (e9 v)) H
theorem oN(a:X.N.Nodup)(hi:X.N[i]?=e9 x)(b:Loc X.env.scope x)(c:X.fn x=f8∨X.env.scope.names.lookup x=e9 .local:=by first|exact .inl rfl|exact .inr rfl|assumption):PG X (.Name x pos) (js i):=by
 intro pins s σ H v u Q I r h;exact Js (ks I a hi b r (λe d=>⟨_,H,d,h⟩) c)
noncomputable def KQ (to ti:TE)(t:Jf):TG:=λv σ H Q=>to σ H λo a=>ti σ a λi b=>t o i v b λc=>Q σ c
theorem Ft(c:PE X o to)(hi:PE X i ti)(hs:uf X t)
  (d:∀v,lX (.Subscript o i pos) X.env v=(do
   let a←W4 [v] (eval o X.env)
   let b←W4 [v,a] (eval i X.env)
   uj pos
   W4 [v,a,b] (Jv a b v)
   release [v,a,b] []):=by intro _;rfl):PG X (.Subscript o i pos) (KQ to ti t):=by
 intro pins s σ H v u Q I r h;rw[d];refine g8 (w6 (F3 (c pins s σ H _ I h) λa s1 ⟨x,e,f,g,j⟩=>?_));refine g8 (w6 (F3 (hi pins s1 σ e _ f j) λb s2 ⟨y,k,l,m,n⟩=>?_));refine g8 (lR (g8 (w6 (F3 (hs pins s2 σ k x y v a b u _ l g m r n) λ_ z ⟨p,q,w⟩=>?_))));exact wpAny_release ⟨σ,p,q,w⟩
noncomputable def BI (a:TE)(g:TG):TS:=λD σ H=>a σ H λx b=>g x σ b D.nx
theorem Fp(b:PE X e a)(c:PG X tg g)(hs:MS [tg] e pos.line X.env=pure f6:=by rfl)(d:MT [tg] e X.env=pure f7:=by rfl)
  (f:(assignEach [tg] X.env).map (·.2)=[lX tg X.env]:=by rfl):PS X (.Assign [tg] e pos) (BI a g):=by
 intro pins s σ H D I h;refine wpAny_Assign_stores (F3 (b pins s σ H _ I h) λv s1 ⟨x,i,j,k,l⟩=>?_) hs d;rw[f];exact F3 (c pins s1 σ i x v _ j k l) λ_ s2 q=>q
theorem yJ(c:X.N.Nodup)(hi:X.N[i]?=e9 x)(d:Loc X.env.scope x)(f:PE X e b)(hs:T2 e (e9 (.Name x a)) pos.line X.env=pure f6:=by rfl)(g:X.fn x=f8∨X.env.scope.names.lookup x=e9 .local:=by first|exact .inl rfl|exact .inr rfl|assumption):
  PS X (.Assign [.Name x a] e pos) (BI b (js i)):=by
 intro pins s σ H D I h;refine wpAny_Assign_Name (F3 (f pins s σ H _ I h) λv s1 ⟨y,j,k,l,m⟩=>?_) hs;exact ks k c hi d l (λs2 n=>⟨_,j,n,m⟩) g
noncomputable def Kv (i:Nat)(a:TE)(ti:Le):TS:=λD σ H=>∃x,σ[i]?=e9 (e9 x)∧a σ H λy b=>ti x y b λz c=>D.nx (σ.set i (e9 z)) c
theorem Fo(p:X.N.Nodup)(hi:X.N[i]?=e9 x)(j:Loc X.env.scope x)(q:PE X e o)(t:Mg X g ti)(B:X.fn x=f8∨X.env.scope.names.lookup x=e9 .local:=by first|exact .inl rfl|exact .inr rfl|assumption):
  PS X (.AugAssign (.Name x b) g e pos) (Kv i o ti):=by
 intro pins s σ H D I h;obtain⟨v,E,h⟩:=h;obtain⟨m,F,hl⟩:=I.loc;have n:fB X.env.scope x:=by rcases j with k|k;exact .inl k;exact .inr (.inl k)
 obtain⟨u,r,l⟩:=hl i x v hi E n;refine wpAny_AugAssign_Name ?_;have go:wpAny (model X.prog X.w) X.A (eval e X.env) (λw d=>wpAny (model X.prog X.w) X.A (JZ g u w) (λr f=>wpAny (model X.prog X.w) X.A (JY X.env x r) (λ_=>SP X pins D .next) X.xe f) X.xe d) X.xe s:=by
  refine F3 (q pins s σ H _ I h) λw s1 ⟨y,G,J,L,O⟩=>?_;refine F3 (t pins s1 σ G v y u w _ J r L O) λz s2 ⟨Z,P,Q,R,S⟩=>?_;exact ks Q p hi j R (λs3 T=>⟨_,P,T,S⟩) B
 rcases l with⟨hk,U⟩ | ⟨hk,c,Y,a⟩
 ·exact Et I.ok.kind hk F U go
 ·rcases hk with hk|hk
  ·exact GX I.ok.kind hk Y a go
  ·rcases j with k|k
   ·have:X.env.scope.names.lookup x=e9 .free:=hk;rw[k]at this;cases this
   ·have:X.env.scope.names.lookup x=e9 .free:=hk;rw[k]at this;cases this
noncomputable def MI (f:Int→Int→Int):Le:=λx y H Q=>∃i j,x=.int i∧y=.int j∧Q (.int (f i j)) H
theorem Gk:Mg X .Add (MI λi j=>i+j):=by
 intro pins s σ H x y v u Q I a b h;obtain⟨i,j,c,d,q⟩:=h;subst c;subst d;obtain⟨t,rfl⟩:=a;obtain⟨e,rfl⟩:=b;exact iadd_int ⟨.int _,H,I.tok _,⟨_,rfl⟩,q⟩
end
section
variable {X:Cx}{pos:Pos}
noncomputable def EQ (c:TT)(tb:TS):TS:=λD σ H=>∃W:Nat→St→Hp→Prop,(∃m,W m σ H)∧∀m σ H,W m σ H→
 c σ H λb d=>if b=f8 then∃N:St→Hp→Prop,(∀a H',N a H'→∃e,e<m∧W e a H')∧tb {D with nx:=N,ct:=N,bk:=D.nx} σ d else D.nx σ d
theorem yI(t:Kc (model X.prog X.w) X.A X.env X.xe)(z:PT X c r)(B:lV X d tb):PS X (.While c d [] pos) (EQ r tb):=by
 intro pins s σ H D I h;obtain⟨W,⟨E,F⟩,e⟩:=h;refine wpAny_While (codeAny_whileLoop (λn G=>∃g H',Inv X pins g H' G∧W n g H') ?_ E ⟨σ,H,I,F⟩)
 rintro n s1 ⟨σ1,H1,I1,w1⟩
 refine P1 t (F3 (z pins s1 σ1 H1 _ I1 (e n σ1 H1 w1)) λb s2 ⟨u,x,j⟩=>?_);cases b with
 |true=>
  obtain⟨N,y,j⟩:=j;rw[if_pos rfl];refine P1 t (F3 (B pins s2 σ1 u _ x j) λf J k=>?_);cases f with
  |next=>
   obtain⟨a,i,l,m⟩:=k;obtain⟨o,p,q⟩:=y a i m;exact⟨o,p,a,i,l,q⟩
  |cont=>
   obtain⟨a,i,l,m⟩:=k;obtain⟨o,p,q⟩:=y a i m;exact⟨o,p,a,i,l,q⟩
  |brk=>exact k
  |ret v=>exact k
 |false=>
  rw[if_neg p4];exact ip ⟨σ1,u,x,j⟩
end
structure It where
 go:Nat→Hp→Prop
 yld:Nat→Hp→V→Hp→Prop
 stop:Nat→Hp→Prop
def lP (X:Cx)(pins:List (Addr×Obj))(H:Hp)(b:Addr):Prop:=
 H b=f7∧b≠X.env.locals∧b∉X.fs∧(b∈X.ex∨X.s₀.heap.objs.size≤b)∧(∀x c,X.env.cells.lookup x=e9 c→c≠b)∧∀p∈X.pn++pins,p.1≠b
theorem Inv.xl(I:Inv X pins σ H s)(a:s.heap.objs.size≤b)(d:H' b=f7):lP X pins H' b:=by
 refine⟨d,Nat.ne_of_gt (Nat.lt_of_lt_of_le I.lt a),I.FO a,.inr (Nat.le_trans I.sz a),λx c e z=>?_,λp f z=>?_⟩
 ·obtain⟨v,q⟩:=I.cell x c e;exact absurd (Nat.lt_of_lt_of_le q.lt (by rw[z];exact a)) (Nat.lt_irrefl _)
 ·exact absurd (Nat.lt_of_lt_of_le (Heap.lt_size (I.pin p f).1) (by rw[z];exact a)) (Nat.lt_irrefl _)
structure Turn (P:Program) (w:World) (K:PySem.W.Frag) (tg:Expr) (J:It) (fp:List Addr) (it:Addr) (tn:Nat→Heap→Prop):Prop where
 mem:it∈fp
 obj:∀i h,tn i h→∀b∈fp,∃o,h.get? b=some o∧∀v,o.data≠.cell v
 keep:∀i h h',tn i h→(∀b∈fp,∀o,h.get? b=some o→h'.get? b=some o)→tn i h'
 item:∀(X:Cx),X.prog=P→X.w=w→X.K=K→X.calm=true→∀(i:Nat) (pins:List (Addr×Obj)) (s:Shared) (σ:St) (H:Hp) (E:Value→Shared→Prop),Inv X pins σ H s→(∀b∈fp,lP X pins H b)→tn i s.heap→J.go i H→
  wpAny (model P w) X.A (pyNext (.ref it)) (λr s1=>∃u,r=some u∧
   wpAny (model P w) X.A (iq tg (.ref it) u) (λ_ s2=>∃x H',Inv X pins σ H' s2∧RelV x u∧J.yld i H x H'∧tn (i+1) s2.heap∧∀b∈fp,H' b=none) E s1) E s
 done:∀(X:Cx),X.prog=P→X.w=w→X.K=K→X.calm=true→∀(i:Nat) (pins:List (Addr×Obj)) (s:Shared) (σ:St) (H:Hp) (E:Value→Shared→Prop),Inv X pins σ H s→(∀b∈fp,lP X pins H b)→tn i s.heap→J.stop i H→
  wpAny (model P w) X.A (pyNext (.ref it)) (λr s1=>r=none∧Inv X pins σ H s1) E s
 self:∀(A:Around) (i:Nat) (s:Shared) (Q:Value→Shared→Prop) (E:Value→Shared→Prop),tn i s.heap→Q (.ref it) s→wpAny (model P w) A (Ms (.ref it)) Q E s
noncomputable abbrev TI:=St→Hp→(It→Hp→Prop)→Prop
def Li (X:Cx)(pins:List (Addr×Obj))(σ:St)(tg:Expr)(R:It→Hp→Prop)(a:Value)(s2:Shared):Prop:=
 ∃(it:Addr) (fp:List Addr) (tn:Nat→Heap→Prop) (J:It) (H':Hp),a=.ref it∧Inv X pins σ H' s2∧Turn X.prog X.w X.K tg J fp it tn∧tn 0 s2.heap∧(∀b∈fp,lP X pins H' b)∧R J H'
def PI (X:Cx)(tg iter:Expr)(a:TI):Prop:=
 ∀(pins:List (Addr×Obj)) (s:Shared) (σ:St) (H:Hp) (R:It→Hp→Prop),Inv X pins σ H s→a σ H R→
  wpAny (model X.prog X.w) X.A (eval iter X.env) (λv s1=>wpAny (model X.prog X.w) X.A (Ms v) (Li X pins σ tg R) X.xe s1) X.xe s
theorem eF{s:Shared}(b:s.heap.get? it=e9 o)(c:o.cls=.type n)(hd:o.data=.fields vs)
    (d:["enumerate","zip","dict_itemiterator","dict_reverseitemiterator","odict_iterator","itertools.zip_longest","itertools.pairwise"].contains n=f6) (a:Q () s):wpAny M A (iq tg (.ref it) u) Q E s:=by
  unfold iq;cases tg<;>first
    |exact j5 a
    | (cases u<;>first
        |exact j5 a
        | (refine g8 (Hn b ?_)
           rw[c,hd];show wpAny M A (if(["enumerate","zip","dict_itemiterator","dict_reverseitemiterator","odict_iterator","itertools.zip_longest","itertools.pairwise"].contains n&&vs[0]?==e9 (rawInt _))=f8 then _ else _) Q E s;rw[if_neg (by intro h;rw[d,bV]at h;cases h)];exact j5 a))
noncomputable def JS (K:PySem.W.Frag)(a:Addr):It:=
 ⟨λi H=>∃xs x,P7 K H a xs∧xs[i]?=e9 x,λi H x H'=>H'=H∧∀xs,P7 K H a xs→xs[i]?=e9 x,λi H=>∃xs,P7 K H a xs∧xs.length≤i⟩
noncomputable def JR (K:PySem.W.Frag)(a:Addr):It:=
 ⟨λi H=>∃xs x,bz K H a xs∧xs[i]?=e9 x,λi H x H'=>H'=H∧∀xs,bz K H a xs→xs[i]?=e9 x,λi H=>∃xs,bz K H a xs∧xs.length≤i⟩
noncomputable def Jk (lo:Int)(n:Nat):It:=⟨λi _=>i<n,λi H x H'=>H'=H∧x=.int (lo+i),λi _=>n≤i⟩
theorem vX {P:Program}{w:World}{K:PySem.W.Frag}{tg:Expr}(a it:Addr):Turn P w K tg (JS K a) [it] it (λi h=>h.IsListIter it a i) where
 mem:=by simp
 obj:=λi h st b f=>by
  have e:b=it:=by simpa using f
  subst e;obtain⟨o,e,c,d⟩:=st;exact⟨o,e,λv z=>by rw[d]at z;cases z⟩
 keep:=λi h h' st k=>st.at λo e=>k it (by simp) o e
 item:=by
  intro X m n q J i pins s σ H E I j st r;subst m n q;obtain⟨xs,x,l,t⟩:=r;obtain⟨y,A,p,L⟩:=I.list l;obtain⟨u,N,O⟩:=A.get t;obtain⟨f0,f1,Q,B,F,G⟩:=j it (by simp);refine Bn st p.isList (x:=u) (by simpa using N) λh' g R=>?_;have S:Inv X pins σ H {s with heap:=h'}:=I.turned (t':=s.toks) (λb o f e=>(R.2 b f).trans e) f0 f1 B F G;obtain⟨o,e,c,d⟩:=id g;exact⟨u,rfl,eF (s:={s with heap:=h'}) e c d (by decide) ⟨x,H,S,O,⟨rfl,λY T=>by rw[I.hG T l];exact t⟩,g,λb f=>(j b f).1⟩⟩
 done:=by
  intro X m n q J i pins s σ H E I j st r;subst m n q;obtain⟨xs,l,t⟩:=r;obtain⟨y,A,p,L⟩:=I.list l;obtain⟨f0,f1,Q,B,F,G⟩:=j it (by simp);have hl:=A.length;exact DK (I.ok.hd J) st p.isList (by simp;omega) λh' U=>⟨rfl,I.turned (t':=s.toks) (λb o f e=>U b o f e) f0 f1 B F G⟩
 self:=λ_ _ _ _ _ st h=>wpAny_pyIter_listiter st h
theorem sj {P:Program}{w:World}{K:PySem.W.Frag}{tg:Expr}(a it:Addr):Turn P w K tg (JR K a) [it] it (λi h=>h.IsTupleIter it a i) where
 mem:=by simp
 obj:=λi h st b f=>by
  have e:b=it:=by simpa using f
  subst e;obtain⟨o,e,c,d⟩:=st;exact⟨o,e,λv z=>by rw[d]at z;cases z⟩
 keep:=λi h h' st k=>st.at λo e=>k it (by simp) o e
 item:=by
  intro X n q r J i pins s σ H E I l st t;subst n q r;obtain⟨xs,x,m,y⟩:=t;obtain⟨g,A,p,L⟩:=I.tuple m;obtain⟨u,N,O⟩:=A.get y;obtain⟨f0,f1,Q,B,F,G⟩:=l it (by simp);refine wpAny_pyNext_tuple_item st (show s.heap.IsTuple a g.toArray from p) (x:=u) (by simpa using N) λh' j R=>?_;have S:Inv X pins σ H {s with heap:=h'}:=I.turned (t':=s.toks) (λb o f e=>(R.2 b f).trans e) f0 f1 B F G;obtain⟨o,e,c,d⟩:=id j;exact⟨u,rfl,eF (s:={s with heap:=h'}) e c d (by decide) ⟨x,H,S,O,⟨rfl,λY T=>by rw[I.iz T m];exact y⟩,j,λb f=>(l b f).1⟩⟩
 done:=by
  intro X n q r J i pins s σ H E I l st t;subst n q r;obtain⟨xs,m,y⟩:=t;obtain⟨g,A,p,L⟩:=I.tuple m;obtain⟨f0,f1,Q,B,F,G⟩:=l it (by simp);have hl:=A.length;exact wpAny_pyNext_tuple_end (I.ok.hd J) st (show s.heap.IsTuple a g.toArray from p) (by simp;omega) λh' U=>⟨rfl,I.turned (t':=s.toks) (λb o f e=>U b o f e) f0 f1 B F G⟩
 self:=λ_ _ _ _ _ st h=>wpAny_pyIter_tupleiter st h
theorem sk {P:Program}{w:World}{K:PySem.W.Frag}{tg:Expr}(it:Addr)(lo:Int)(n:Nat):Turn P w K tg (Jk lo n) [it] it (λi h=>rT h it (lo+(i:Nat)*1) ((n:Int)-(i:Nat)) 1) where
 mem:=by simp
 obj:=λi h st b a=>by
  have e:b=it:=by simpa using a
  subst e;exact⟨_,st,λv z=>by
   have x:Data.fields _=Data.cell v:=z;cases x⟩
 keep:=λi h h' st k=>k it (by simp) _ st
 item:=by
  intro X f g j l i pins s σ H E I d st m;subst f g j;obtain⟨f0,f1,y,p,q,r⟩:=d it (by simp);have W:=Jw (prog:=X.prog) (w:=X.w) (I.ok.hd l) it lo 1 n;refine W.item i s _ _ m st λv h' u A c B=>?_;obtain⟨t,rfl⟩:=A;have F:Inv X pins σ H {s with heap:=h',toks:=u}:=I.turned (λb o a e=>B b o (by simpa using a) e) f0 f1 p q r;refine⟨_,rfl,eF (s:={s with heap:=h',toks:=u}) (n:="range_iterator") c rfl rfl (by decide) ⟨.int (lo+i),H,F,⟨t,?_⟩,⟨rfl,rfl⟩,c,λb a=>(d b a).1⟩⟩;rw[Int.mul_one]
 done:=by
  intro X f g j l i pins s σ H E I d st m;subst f g j;obtain⟨f0,f1,y,p,q,r⟩:=d it (by simp);exact Bm (I.ok.hd l) st (by have:n≤i:=m;omega) λh' G=>⟨rfl,I.turned (t':=s.toks) (λb o a e=>G b o a e) f0 f1 p q r⟩
 self:=λ_ _ _ _ _ st h=>Bo st h
section
variable {X:Cx}{tg:Expr}
theorem qy {pins:List (Addr×Obj)}{σ:St}{H:Hp}{s:Shared}{R:It→Hp→Prop}{E:Value→Shared→Prop}{lo hi:Int}{t u v:Tok}{a:Nat}(I:Inv X pins σ H s)(d:-(2 ^ 62)≤lo)(f:lo<2 ^ 62)(g:-(2 ^ 62)≤hi)(h:hi<2 ^ 62)
  (q:R (Jk lo (hi-lo).toNat) H):wpAny (model X.prog X.w) X.A (Ms (.ref s.heap.objs.size)) (Li X pins σ tg R) E {s with heap:=s.heap.push {cls:=.type "range",data:=.fields #[.int lo t,.int hi u,.int 1 v]},toks:=a}:=by
 refine Hm (Hb ..) (small_one d f g h) ?_;have c:Inv X pins σ H {s with heap:=s.heap.push {cls:=.type "range",data:=.fields #[.int lo t,.int hi u,.int 1 v]},toks:=a}:=I.kept λb o e=>Heap.get?_push_of_some _ e;refine⟨(s.heap.push {cls:=.type "range",data:=.fields #[.int lo t,.int hi u,.int 1 v]}).objs.size,[(s.heap.push {cls:=.type "range",data:=.fields #[.int lo t,.int hi u,.int 1 v]}).objs.size],_,_,H,rfl,
  c.kept (t':=a) λb o e=>Heap.get?_push_of_some _ e,sk _ lo (hi-lo).toNat,?_,λb i=>?_,q⟩
 ·have j:lo+((0:Nat):Int)*1=lo:=by simp
  have k:(((hi-lo).toNat:Nat):Int)-((0:Nat):Int)=P9 lo hi 1:=by rw[rangeSize_one];split<;>omega
  show rT _ _ (lo+((0:Nat):Int)*1) ((((hi-lo).toNat:Nat):Int)-((0:Nat):Int)) 1;rw[j,k];exact Heap.get?_push_size _ rfl
 ·have e:b=(s.heap.push {cls:=.type "range",data:=.fields #[.int lo t,.int hi u,.int 1 v]}).objs.size:=by simpa using i
  subst e;exact c.xl (Nat.le_refl _) (c.hok.fresh (Nat.le_refl _))
noncomputable def IL (a:TA):TI:=λσ H R=>a σ H λvs b=>∃j:Int,vs=[.int j]∧-(2 ^ 62)≤j∧j<2 ^ 62∧R (Jk 0 j.toNat) b
noncomputable def IK (a:TA):TI:=λσ H R=>a σ H λvs b=>∃i j:Int,vs=[.int i,.int j]∧(-(2 ^ 62)≤i∧i<2 ^ 62∧-(2 ^ 62)≤j∧j<2 ^ 62)∧R (Jk i (j-i).toNat) b
theorem wx(d:Gl X "range") (f:X.mg "range"=f7) (g:PA X [a] c) (hs:h8 [a] X.env=[(f6,eval a X.env)]:=by rfl):PI X tg (.Call (.Name "range" p) [a] [] pos) (IL c):=by
 intro pins s σ H R I h;refine Call_ (aJ I d f Hv (o3 (F3 (g pos pins s σ H _ I h) λus s1 ⟨vs,n,i,k,b⟩=>?_) hs rfl));obtain⟨j,e,b,l,q⟩:=b;subst e;cases k with
 |cons r m=>
  cases m;obtain⟨t,rfl⟩:=r;exact call_range_1 (qy i (by omega) (by omega) b l (by simpa using q))
theorem ww(k:Gl X "range") (l:X.mg "range"=f7) (m:PA X [a,b] g) (hs:h8 [a,b] X.env=[(f6,eval a X.env),(f6,eval b X.env)]:=by rfl) (c:h8 [b] X.env=[(f6,eval b X.env)]:=by rfl):
  PI X tg (.Call (.Name "range" p) [a,b] [] pos) (IK g):=by
 intro pins s σ H R I h;refine Call_ (aJ I k l Hv (o3 (F3 (m pos pins s σ H _ I h) λus s1 ⟨vs,y,n,o,d⟩=>?_) (by rw[hs,c]) (by rw[c];rfl)));obtain⟨i,j,e,⟨d,u,v,w⟩,q⟩:=d;subst e;cases o with
 |cons r f=>
  cases f with
  |cons x f=>
   cases f;obtain⟨t,rfl⟩:=r;obtain⟨z,rfl⟩:=x;exact call_range_2 (qy n d u v w q)
noncomputable def Kt (d:TI)(g:TG)(tb:TS):TS:=λD σ H=>d σ H λJ e=>∃W:Nat→Nat→St→Hp→Prop,(∃m,W 0 m σ e)∧∀i m σ H,W i m σ H→
 (J.stop i H∧D.nx σ H)∨(J.go i H∧∃N:St→Hp→Prop,(∀a H',N a H'→∃c,c<m∧W (i+1) c a H')∧∀x H',J.yld i H x H'→g x σ H' λb f=>tb {D with nx:=N,ct:=N,bk:=D.nx} b f)
noncomputable def kR (fp:List Addr)(h:Heap):List (Addr×Obj):=fp.filterMap λb=>(h.get? b).map λo=>(b,o)
theorem cW{h:Heap}(a:b∈fp)(e:h.get? b=e9 o):(b,o)∈kR fp h:=List.mem_filterMap.mpr ⟨b,a,by rw[e];rfl⟩
theorem wF(a:p∈kR fp h):p.1∈fp∧h.get? p.1=e9 p.2:=by
 obtain⟨b,c,e⟩:=List.mem_filterMap.mp a;cases q:h.get? b with
 |none=>rw[q]at e;cases e
 |some o=>
  rw[q]at e;have d:(b,o)=p:=j7 e;subst d;exact⟨c,q⟩
theorem Inv.pinned(I:Inv X pins σ H s)(f:∀b∈fp,lP X pins H b)(g:∀b∈fp,∃o,s.heap.get? b=e9 o∧∀v,o.data≠.cell v):Inv X (pins++kR fp s.heap) σ H s:=
 I.gV λp h=>(List.mem_append.mp h).elim (λz=>I.pin p (List.mem_append_right _ z)) λz=>by
  obtain⟨a,e⟩:=wF z;obtain⟨f0,f1,i,_⟩:=f p.1 a;obtain⟨o,c,d⟩:=g p.1 a;rw[e]at c;cases c;exact⟨e,f0,f1,i,d⟩
theorem Inv.gD(I:Inv X (pins++pl) σ H s):Inv X pins σ H s:=I.gV λp a=>I.pin p (List.mem_append_right _ (List.mem_append_left _ a))
theorem Fm(z:Kc (model X.prog X.w) X.A X.env X.xe)(R:X.calm=f8)(hi:PI X tg iter Q)(hg:PG X tg g)(c:lV X q tb)
  (hs:∀x,foldedSetIterable iter X.env x=pure x:=by intro _;rfl):PS X (.For tg iter q [] pos) (Kt Q g tb):=by
 intro pins s σ H D I h;refine wpAny_For (F3 (hi pins s σ H _ I h) λv s1 h1=>F3 h1 λa0 s2 h2=>?_) hs;obtain⟨it,fp,tn,J,H2,e,I2,T,F,S,W,⟨m0,w0⟩,B⟩:=h2;subst e
 
 have j:∀{H':Hp},(∀b∈fp,H' b=f7)→∀b∈fp,lP X pins H' b:=λhn b c=>⟨hn b c,(S b c).2⟩
 refine codeAny_forLoop_any (λn U=>∃i k H',Inv X pins k H' U∧tn i U.heap∧(∀b∈fp,H' b=f7)∧W i n k H') ?_ m0 ⟨0,σ,H2,I2,F,λb c=>(S b c).1,w0⟩
 rintro n s3 ⟨i,σ3,H3,I3,st3,fr3,w3⟩
 rcases B i n σ3 H3 w3 with⟨stop,qn⟩ | ⟨go,N,hN,step⟩
 ·refine P1 z (F3 (T.done X rfl rfl rfl R i pins s3 σ3 H3 X.xe I3 (j fr3) st3 stop) λr s4 ⟨hr,I4⟩=>?_);subst hr;exact ip ⟨σ3,H3,I4,qn⟩
 ·refine P1 z (F3 (T.item X rfl rfl rfl R i pins s3 σ3 H3 X.xe I3 (j fr3) st3 go) λr s4 ⟨u,hr,h4⟩=>?_);subst hr;refine P1 z (F3 h4 λ_ Y ⟨x,Z,I5,r5,y5,y,G⟩=>?_);have L:=I5.pinned (j G) (T.obj _ _ y);refine P1 z (F3 (hg _ Y σ3 Z x u _ L r5 (step x Z y5)) λ_ s6 ⟨O,H6,I6,q6⟩=>?_);refine P1 z (F3 (c _ s6 O H6 _ I6 q6) λf P t=>?_);have again:∀{a:St} {l:Hp},Inv X (pins++kR fp Y.heap) a l P→N a l→∃m,m<n∧∃i k H',Inv X pins k H' P∧tn i P.heap∧(∀b∈fp,H' b=f7)∧W i m k H':=λ{a l} p E=>by
   obtain⟨m',hm,w7⟩:=hN a l E;refine⟨m',hm,i+1,a,l,p.gD,T.keep _ _ _ y λb c o e=>(p.pin (b,o) (List.mem_append_right _ (List.mem_append_right _ (cW c e)))).1,λb c=>?_,w7⟩;obtain⟨o,e,d⟩:=T.obj _ _ y b c;exact(p.pin (b,o) (List.mem_append_right _ (List.mem_append_right _ (cW c e)))).2.1
  cases f with
  |next=>obtain⟨a,l,p,E⟩:=t;exact again p E
  |cont=>obtain⟨a,l,p,E⟩:=t;exact again p E
  |brk=>obtain⟨a,l,p,t⟩:=t;exact⟨a,l,p.gD,t⟩
  |ret v=>obtain⟨x7,a,l,p,r7,t⟩:=t;exact⟨x7,a,l,p.gD,r7,t⟩
end
noncomputable abbrev R2:=V→V→Hp→VK→Prop
def fC (X:Cx)(f:Value→Value→Sem Value)(r:R2):Prop:=
 ∀(pins:List (Addr×Obj)) (s:Shared) (σ:St) (H:Hp) (x y:V) (v u:Value) (Q:VK),Inv X pins σ H s→RelV x v→RelV y u→r x y H Q→
  wpAny (model X.prog X.w) X.A (f v u) (EP X pins σ Q) X.xe s
def JL (X:Cx)(f:Value→Sem Value)(r:V→Hp→VK→Prop):Prop:=
 ∀(pins:List (Addr×Obj)) (s:Shared) (σ:St) (H:Hp) (x:V) (v:Value) (Q:VK),Inv X pins σ H s→RelV x v→r x H Q→
  wpAny (model X.prog X.w) X.A (f v) (EP X pins σ Q) X.xe s
def J3 (X:Cx)(f:Value)(r:List V→Hp→VK→Prop):Prop:=
 ∀(pins:List (Addr×Obj)) (s:Shared) (σ:St) (H:Hp) (xs:List V) (us:List Value) (Q:VK),Inv X pins σ H s→Vals xs us→r xs H Q→
  wpAny (model X.prog X.w) X.A (call f us) (EP X pins σ Q) X.xe s
def Ld (X:Cx)(r:V→Hp→(Bool→Hp→Prop)→Prop):Prop:=
 ∀(pins:List (Addr×Obj)) (s:Shared) (σ:St) (H:Hp) (x:V) (v:Value) (Q:Bool→Hp→Prop),Inv X pins σ H s→RelV x v→r x H Q→
  wpAny (model X.prog X.w) X.A (truthy v) (TP X pins σ Q) X.xe s
noncomputable def HL (r:R2)(a tb:TE):TE:=λσ H Q=>a σ H λx b=>tb σ b λy c=>r x y c Q
noncomputable def Md (r:V→Hp→VK→Prop)(a:TE):TE:=λσ H Q=>a σ H λx b=>r x b Q
noncomputable def rI (C:Int→Int→Prop)(g:Int→Int→V):R2:=λx y H Q=>∃i j,x=.int i∧y=.int j∧C i j∧Q (g i j) H
noncomputable def Bi (g:Int→Int→V):R2:=λx y H Q=>∃i j,x=.int i∧y=.int j∧Q (g i j) H
noncomputable def rU (g:Int→V):V→Hp→VK→Prop:=λx H Q=>∃i,x=.int i∧Q (g i) H
section
variable {X:Cx}{a b c:Expr}{ta tb tc:TE}{pos:Pos}
theorem GN (i:PE X a ta)(j:PE X b tb){pins:List (Addr×Obj)}{s:Shared}{σ:St}{H:Hp}{R:V→V→Hp→Prop}(I:Inv X pins σ H s)
  (h:ta σ H λx g=>tb σ g λy c=>R x y c) {Q:Value→Shared→Prop} {f:Value→Value→Sem Value}
  (k:∀v u s2 x y c,Inv X pins σ c s2→RelV x v→RelV y u→R x y c→wpAny (model X.prog X.w) X.A (f v u) Q X.xe s2):
  wpAny (model X.prog X.w) X.A (eval a X.env) (λv d=>wpAny (model X.prog X.w) X.A (eval b X.env) (λu e=>wpAny (model X.prog X.w) X.A (f v u) Q X.xe e) X.xe d) X.xe s:=by
 refine F3 (i pins s σ H _ I h) λv s1 ⟨x,g,l,m,n⟩=>?_;refine F3 (j pins s1 σ g _ l n) λu s2 ⟨y,c,o,p,q⟩=>?_;exact k v u s2 x y c o m p q
theorem Im {c:Operator}{r:R2}(d:fC X (dO c) r)(e:PE X a ta)(f:PE X b tb):PE X (.BinOp a c b pos) (HL r ta tb):=by
 intro pins s σ H Q I h;exact wpAny_BinOp (GN e f I h λv u s2 x y g i j k q=>d pins s2 σ g x y v u Q i j k q)
theorem Ea {b:UnaryOp}{r:V→Hp→VK→Prop}(c:JL X (NH b) r)(d:PE X a ta):PE X (.UnaryOp b a pos) (Md r ta):=by
 intro pins s σ H Q I h;exact UnaryOp_ (F3 (d pins s σ H _ I h) λv s1 ⟨x,e,f,g,i⟩=>c pins s1 σ e x v Q f g i)
theorem KG {f:Value→Value→Sem Value}{C:Int→Int→Prop}{g:Int→Int→Int}
  (rule:∀(i j:Int) (t u:Tok) (s:Shared) (Q:Value→Shared→Prop) (E:Value→Shared→Prop),C i j→Q (.int (g i j) s.toks) {s with toks:=s.toks+1}→wpAny (model X.prog X.w) X.A (f (.int i t) (.int j u)) Q E s):
  fC X f (rI C λi j=>.int (g i j)):=by
 intro pins s σ H x y v u Q I a b h;obtain⟨i,j,rfl,rfl,c,q⟩:=h;obtain⟨t,rfl⟩:=a;obtain⟨d,rfl⟩:=b;exact rule i j t d s _ _ c ⟨.int (g i j),H,I.tok _,⟨_,rfl⟩,q⟩
theorem Iy {f:Value→Value→Sem Value}{g:Int→Int→Int}
  (rule:∀(i j:Int) (t u:Tok) (s:Shared) (Q:Value→Shared→Prop) (E:Value→Shared→Prop),Q (.int (g i j) s.toks) {s with toks:=s.toks+1}→wpAny (model X.prog X.w) X.A (f (.int i t) (.int j u)) Q E s):
  fC X f (Bi λi j=>.int (g i j)):=by
 intro pins s σ H x y v u Q I a b h;obtain⟨i,j,rfl,rfl,q⟩:=h;obtain⟨t,rfl⟩:=a;obtain⟨c,rfl⟩:=b;exact rule i j t c s _ _ ⟨.int (g i j),H,I.tok _,⟨_,rfl⟩,q⟩
theorem FL {f:Value→Value→Sem Value}{g:Int→Int→Bool}
  (rule:∀(i j:Int) (t u:Tok) (s:Shared) (Q:Value→Shared→Prop) (E:Value→Shared→Prop),Q (.bool (g i j)) s→wpAny (model X.prog X.w) X.A (f (.int i t) (.int j u)) Q E s):
  fC X f (Bi λi j=>.bl (g i j)):=by
 intro pins s σ H x y v u Q I a b h;obtain⟨i,j,rfl,rfl,q⟩:=h;obtain⟨t,rfl⟩:=a;obtain⟨c,rfl⟩:=b;exact rule i j t c s _ _ ⟨.bl (g i j),H,I,rfl,q⟩
def rQ (i j:Int):Prop:=0<j∧j<1073741824
def rP (i j:Int):Prop:=(-(2 ^ 64)<i∧i<2 ^ 64)∨(-(2 ^ 64)<j∧j<2 ^ 64)
theorem rP.ok(h:rP i j):IntMulOk i j:=by
 rcases h with⟨a,b⟩ | ⟨a,b⟩
 ·exact .of_left (MV a b)
 ·exact .of_right (MV a b)
theorem FK:fC X (dO .Add) (Bi λi j=>.int (i+j)):=Iy λ_ _ _ _ _ _ _ q=>add_int q
theorem FG:fC X (dO .Sub) (Bi λi j=>.int (i-j)):=Iy λ_ _ _ _ _ _ _ q=>sub_int q
theorem FI:fC X (dO .Mult) (rI rP λi j=>.int (i*j)):=KG λ_ _ _ _ _ _ _ a q=>mul_int q a.ok
theorem Cv:fC X (dO .FloorDiv) (rI rQ λi j=>.int (i / j)):=KG λi j _ _ _ _ _ a q=>by
 have b:(0:Int)<j:=a.1;have c:j<1073741824:=a.2;exact floordiv_int (by omega) (by rw[Int.fdiv_eq_ediv_of_nonneg i (by omega)];exact q) (.inl (PyProof.noPylong_small (by omega)))
theorem FJ:fC X (dO .Mod) (rI (λ_ j=>0<j) λi j=>.int (i % j)):=KG λi j _ _ _ _ _ a q=>by
 have b:(0:Int)<j:=a;exact mod_int' (by omega) (by rw[Int.fmod_eq_emod_of_nonneg i (by omega)];exact q)
theorem MA {f:Value→Sem Value}{g:Int→Int}
  (rule:∀(i:Int) (t:Tok) (s:Shared) (Q:Value→Shared→Prop) (E:Value→Shared→Prop),Q (.int (g i) s.toks) {s with toks:=s.toks+1}→wpAny (model X.prog X.w) X.A (f (.int i t)) Q E s):
  JL X f (rU λi=>.int (g i)):=by
 intro pins s σ H x v Q I a h;obtain⟨i,rfl,q⟩:=h;obtain⟨t,rfl⟩:=a;exact rule i t s _ _ ⟨.int (g i),H,I.tok _,⟨_,rfl⟩,q⟩
theorem xV:JL X (NH .USub) (rU λi=>.int (-i)):=MA λ_ _ _ _ _ q=>neg_int q
end
section
variable {X:Cx}{a b c:Expr}{ta tb tc:TE}{pos:Pos}
theorem gb {pins:List (Addr×Obj)}{σ:St}{H:Hp}{s:Shared}{Q:VK}{k a:Bool}(I:Inv X pins σ H s)(q:Q (.bl k) H)(e:k=a):EP X pins σ Q (.bool a) s:=by
 subst e;exact⟨.bl k,H,I,rfl,q⟩
theorem Ix:fC X (v9 .Lt) (Bi λi j=>.bl (decide (i<j))):=FL λ_ _ _ _ _ _ _ q=>lt_int q
theorem Ed:fC X (v9 .LtE) (Bi λi j=>.bl (decide (i≤j))):=FL λ_ _ _ _ _ _ _ q=>le_int q
theorem Ee:fC X (v9 .Gt) (Bi λi j=>.bl (decide (j<i))):=FL λ_ _ _ _ _ _ _ q=>gt_int q
theorem np:fC X (v9 .In) (λx y H Q=>∃i j,x=.str i∧y=.str j∧Q (.bl (!(A7 j i 0 j.length 1).isEmpty)) H):=by
 intro pins s σ H x y v u Q I a b h;obtain⟨i,j,rfl,rfl,q⟩:=h;obtain⟨t,rfl⟩:=a;obtain⟨c,rfl⟩:=b;exact in_str (gb I q rfl)
theorem fC.or {f:Value→Value→Sem Value}{r a:R2}(h:fC X f r)(h':fC X f a):fC X f (λx y H Q=>r x y H Q∨a x y H Q):=by
 intro pins s σ H x y v u Q I b c q;rcases q with q|q
 ·exact h pins s σ H x y v u Q I b c q
 ·exact h' pins s σ H x y v u Q I b c q
theorem er (b:Expr){a:CmpOp}(h:a≠.In:=by decide)(c:a≠.NotIn:=by decide):z8 a b=f6:=by
 have d:(a==CmpOp.In)=f6:=by cases a<;>first|rfl|exact absurd rfl h
 have e:(a==CmpOp.NotIn)=f6:=by cases a<;>first|rfl|exact absurd rfl c
 cases b<;>simp[z8,d,e]
theorem Cp {c:CmpOp}{r:R2}(d:fC X (v9 c) r)(e:PE X a ta)(f:PE X b tb)(g:z8 c b=f6):PE X (.Compare a [c] [b] pos) (HL r ta tb):=by
 intro pins s σ H Q I h;exact wpAny_Compare1 (GN e f I h λv u s2 x y i j k l q=>d pins s2 σ i x y v u Q j k l q) g
noncomputable def HI (t:TE):TT:=λσ H Q=>t σ H λx H'=>∃k,x=.bl k∧Q k H'
theorem BZ(f:fC X (v9 d) r)(g:PE X a ta)(i:PE X b tb)(j:z8 d b=f6):PT X (.Compare a [d] [b] pos) (HI (HL r ta tb)):=by
 intro pins s σ H Q I h;refine DM (F3 (g pins s σ H _ I h) λv s1 ⟨x,l,m,n,o⟩=>F3 (i pins s1 σ l _ m o) λu s2 ⟨y,p,q,t,w⟩=>
  F3 (f pins s2 σ p x y v u _ q n t w) λc G ⟨z,A,B,E,k,e,F⟩=>?_) j
 subst e;cases E;exact R4 ⟨A,B,F⟩
def DD (K:PySem.W.Frag)(x:V)(H:Hp)(k:Bool):Prop:=
 match x with
 |.v1=>k=f6
 |.bl b=>k=b
 |.int i=>k=(i != 0)
 |.str y=>y.length≤sizeLine∧k=((y.length:Int) != 0)
 |.byt y=>y.size≤sizeLine∧k=((y.size:Int) != 0)
 |.ref p=>(∃xs,P7 K H p xs∧k=!xs.isEmpty)∨(∃xs,bz K H p xs∧k=!xs.isEmpty)∨∃kvs,H p=e9 (.dK kvs)∧k=!kvs.isEmpty
 |_=>False
theorem tr {a:Type}{kvs:List (a×V)}{vs:List (a×Value)}(r:KV kvs vs):(!vs.isEmpty)=!kvs.isEmpty:=by
 cases r<;>rfl
theorem ll {xs:List V}{a:List Value}(r:Vals xs a):(!a.toArray.isEmpty)=!xs.isEmpty:=by
 cases r<;>simp
theorem fX:(sizeLine:Nat)<2 ^ 63:=by rw[v0];decide
theorem EI:Ld X (λx H Q=>∃k,DD X.K x H k∧Q k H):=by
 intro pins s σ H x v Q I d h;obtain⟨k,e,q⟩:=h;have hl:=fX;have hs:sizeLine=16777216:=v0;cases x with
 |v1=>
  cases d;have a:k=f6:=e;subst a;exact truthy_none ⟨H,I,q⟩
 |bl b=>
  cases d;have a:k=b:=e;subst a;exact R4 ⟨H,I,q⟩
 |int i=>
  obtain⟨t,rfl⟩:=d;have a:k=(i != 0):=e;subst a;exact PySem.P.truthy_int ⟨H,I,q⟩
 |str y=>
  obtain⟨t,rfl⟩:=d;obtain⟨l,a⟩:y.length≤sizeLine∧k=((y.length:Int) != 0):=e;subst a;exact PySem.P.truthy_str (by omega) ⟨H,I.tok _,q⟩
 |byt y=>
  obtain⟨t,rfl⟩:=d;obtain⟨l,a⟩:y.size≤sizeLine∧k=((y.size:Int) != 0):=e;subst a;exact PySem.W.truthy_bytes (by omega) ⟨H,I.tok _,q⟩
 |ref p=>
  cases d;have a:(∃xs,P7 X.K H p xs∧k=!xs.isEmpty)∨(∃xs,bz X.K H p xs∧k=!xs.isEmpty)∨∃kvs,H p=e9 (.dK kvs)∧k=!kvs.isEmpty:=e;rcases a with⟨xs,f,a⟩ | ⟨xs,f,a⟩ | ⟨kvs,f,a⟩
  ·subst a;obtain⟨g,r,pl,j⟩:=I.list f;have c:=r.length;exact wpAny_truthy_list pl.isList (by simp only[List.size_toArray];omega) ⟨H,I.tok _,by rw[ll r];exact q⟩
  ·subst a;obtain⟨g,r,pl,j⟩:=I.tuple f;have c:=r.length;exact truthy_tuple pl (by simp only[List.size_toArray];omega) ⟨H,I.tok _,by rw[ll r];exact q⟩
  ·subst a;obtain⟨j,n,vs,r,m⟩:kvs.length≤sizeLine∧(p==O4)=f6∧∃vs,KV kvs vs∧s.heap.DictOf (r0 X.prog X.w) p vs:=I.hok p _ f;have c:kvs.length=vs.length:=cF r;exact wpAny_truthy_dict n m (by omega) ⟨H,I.tok _,by rw[tr r];exact q⟩
 |_=>exact(show False from e).elim
theorem yF (c:PE X a ta)(d:∀b,Bv a X.env b=(do let v←b;uj a.pos;W4 [v] (truthy v))):
  PT X a (λσ H Q=>ta σ H λx H'=>∃k,DD X.K x H' k∧Q k H'):=by
 intro pins s σ H Q I h;exact isTrue_plain (F3 (c pins s σ H _ I h) λv s1 ⟨x,e,f,g,i⟩=>EI pins s1 σ e x v Q f g i) (d _)
theorem sJ:fC X (dO .Add) (λx y H Q=>∃i j,x=.str i∧y=.str j∧i.length+j.length≤sizeLine∧Q (.str (i++j)) H):=by
 intro pins s σ H x y v u Q I a b h;obtain⟨i,j,rfl,rfl,c,q⟩:=h;obtain⟨t,rfl⟩:=a;obtain⟨d,rfl⟩:=b;exact add_str (λd e=>⟨.str (i++j),H,I.tok _,⟨_,rfl⟩,q⟩) c
theorem vals1(r:Vals [x] us):∃u,us=[u]∧RelV x u:=by
 cases r with
 |cons a b=>cases b;exact⟨_,rfl,a⟩
theorem vals2(r:Vals [x,y] us):∃u a,us=[u,a]∧RelV x u∧RelV y a:=by
 cases r with
 |cons b c=>
  cases c with
  |cons d e=>cases e;exact⟨_,_,rfl,b,d⟩
theorem AM:J3 X (.builtin "abs") (λxs H Q=>∃i,xs=[.int i]∧Q (.int (if i<0 then -i else i)) H):=by
 intro pins s σ H xs us Q I r h;obtain⟨i,rfl,q⟩:=h;obtain⟨u,rfl,t,rfl⟩:=vals1 r;exact call_abs_int λu a=>⟨.int (if i<0 then -i else i),H,I.tok _,⟨_,rfl⟩,q⟩
end
structure ug (h:Heap) (x dx C:Addr) (mA:Str→Option Value):Prop where
 obj:h.get? x=some (PySem.W.instObj C dx)
 ns:h.Ns1 dx mA
 ne:dx≠x
theorem wO {h:Heap}(n:h.Ns1 dx mA):∃od,h.get? dx=e9 od∧∀name,PySem.W.lookIn name od=e9 (mA name):=by
 obtain⟨o,es,i,c,hd,hk,_,d⟩:=n;refine⟨o,c,λname=>?_⟩;have e:=d name;unfold nsFind findBy at e;rw[←Array.find?_toList]at e;unfold PySem.W.lookIn;rw[hd];dsimp only;split
 ·rename_i y q;rw[q]at e;exact congrArg e9 e
 ·rename_i q;rw[q]at e;have a:es.toList.any (·.refKey)=f6:=by
   rw[List.any_eq_false];intro y f;obtain⟨z,t,b⟩:=hk y (Array.mem_toList_iff.mp f);simp[NO,b]
  have g:¬es.toList.any (·.refKey)=f8:=by rw[a];exact p4
  rw[if_neg g];exact congrArg e9 e
theorem ug.look(I:ug h x dx C mA):∃od,PySem.W.InstAt h x (PySem.W.instObj C dx) C (e9 od)∧∀name,PySem.W.lookIn name od=e9 (mA name):=
 let⟨od,a,hl⟩:=wO I.ns
 ⟨od,⟨I.obj,rfl,rfl,a⟩,hl⟩
section
variable {prog:Program}{w:World}{A:Around}{E:Value→Shared→Prop}{s:Shared}{K:PySem.W.Frag}{x dx C f:Addr}{mA:Str→Option Value}{name:Str}{v:Value}
theorem get_map(X:K.In s.heap)(I:ug s.heap x dx C mA)(c:PySem.W.plainGet K C name=f8)(d:PySem.W.hasDictIn K C=f8)
  (e:PySem.W.findIn K (.ref C) name=e9 f7) (f:mA name=e9 v) (b:PySem.W.handedIn v=f8) (h:Q v {s with toks:=s.toks+1}):
  wpAny (model prog w) A (NN (.ref x) name a) Q E s:=by
 obtain⟨od,J,hl⟩:=I.look;exact PySem.W.get_value X J (PySem.W.plainGet_of c).1 (PySem.W.findObj_own d e rfl (by rw[hl,f])) b h
theorem zY(X:K.In s.heap)(I:ug s.heap x dx C mA)(a:PySem.W.plainGet K C name=f8)
  (b:PySem.W.findIn K (.ref C) name=e9 (e9 (.ref f))) (c:PySem.W.isFn K (.ref f)=f8) (d:mA name=f7) (h:Q (.ref f,[.ref x]) s):
  wpAny (model prog w) A (Bb (.ref x) name pl) Q E s:=by
 obtain⟨od,J,hl⟩:=I.look;exact PySem.W.method_fn X J (PySem.W.plainGet_of a).1 (PySem.W.plainGet_of a).2 b (beq_iff_eq.mp c) (by show(PySem.W.lookIn name od).map (·.isSome)=e9 f6;rw[hl,d];rfl) h
theorem BO(X:K.In s.heap)(I:ug s.heap x dx C mA)
  (hs:PySem.W.findIn K (.ref C) "__setattr__"=e9 (e9 (.builtin "object.__setattr__"))) (j:PySem.W.plainOver K C=f8) (k:PySem.W.takerIn K C name=e9 f7) (l:PySem.W.hasDictIn K C=f8)
  (m:PySem.Within mA ns) (n:ns.length≤sizeLine)
  (h:∀h',ug h' x dx C (λy=>if y=name then e9 v else mA y)→Heap.SameBut dx s.heap h'→Q () {s with heap:=h',toks:=s.toks+2}):
  wpAny (model prog w) A (setAttr (.ref x) name v) Q E s:=by
 obtain⟨od,J,hl⟩:=I.look;refine PySem.W.set_plain X J hs (PySem.W.osa_open (s:={s with toks:=s.toks+1}) (r:=f7) X J j k λb=>?_);obtain⟨u,o,e⟩:=PySem.W.any_some l;have p:s.heap.get? x=e9 ⟨.ref C,e9 dx,.plain,#[]⟩:=I.obj;refine g8 (j5 (g8 (g8 (wpAny_loadPart p (g8 (PySem.W.Looks.here (s:={s with toks:=s.toks+1}) (PySem.W.looks_clsIn X o) ?_))))));rw[e];refine j5 (a:=e9 dx) (g8 (j5 (g8 ?_)));refine wpAny_nsSet1 (s:={s with toks:=s.toks+1}) I.ns λh' c d=>?_;obtain⟨z,q,t,f,g,i⟩:=c.count (PySem.Within.cons name v m);refine g8 (wpAny_lookBehind f (by rw[g];exact pastItsLine_dict (Nat.le_trans i (by rw[List.length_cons];omega))) ?_);exact j5 (h _ ⟨(d.2 _ (x8 I.ne)).trans I.obj,c,I.ne⟩ d)
theorem zl(X:K.In s.heap)(b:PySem.W.makesIn K C=f8)
  (hi:PySem.W.findIn K (.ref C) "__init__"=e9 (e9 (.ref f))) (c:PySem.W.typeIn K (.ref f)=e9 (.type "function"))
  (h:Z4 (model prog w) (A.under (.builtin "type.__call__" ⟨.ref C::vs,a⟩)) (.call (.ref f) ⟨.ref (s.heap.objs.size+1)::vs,a⟩) (PySem.W.InitBack (s.heap.objs.size+1) R)
   {s with heap:=(s.heap.push PySem.W.emptyDict).push (PySem.W.instObj C s.heap.objs.size)}):
  Z4 (model prog w) A (.call (.ref C) ⟨vs,a⟩) R s:=by
 obtain⟨e,g,d,t,os⟩:=s;exact PySem.W.make_core (PySem.W.makes_of X b) (PySem.W.looks_findIn X hi) (λself=>PySem.W.bind_fn X self c) (.inl rfl) h
end
noncomputable def aX (f:Str)(v:V):List (Str×V)→List (Str×V)
 | []=>[(f,v)]
 | (g,x)::r=>if g=f then(g,v)::r else(g,x)::aX f v r
theorem bm (f g:Str)(v:V):∀fs:List (Str×V),(aX f v fs).lookup g=if g=f then e9 v else fs.lookup g
 | []=>by
  show List.lookup g [(f,v)]=_;by_cases h:g=f
  ·have a:(g==f)=f8:=beq_iff_eq.mpr h;simp only[List.lookup,a,if_pos h]
  ·have a:(g==f)=f6:=beq_eq_false_iff_ne.mpr h;simp only[List.lookup,a,if_neg h]
 | (k,x)::r=>by
  have ih:=bm f g v r;rw[show aX f v ((k,x)::r)=(if k=f then(k,v)::r else(k,x)::aX f v r)from rfl];by_cases hk:k=f
  ·rw[if_pos hk];by_cases h:g=k
   ·have a:(g==k)=f8:=beq_iff_eq.mpr h;simp only[List.lookup,a,if_pos (h.trans hk)]
   ·have a:(g==k)=f6:=beq_eq_false_iff_ne.mpr h;simp only[List.lookup,a,if_neg (λe:g=f=>h (e.trans hk.symm))]
  ·rw[if_neg hk];by_cases h:g=k
   ·have a:(g==k)=f8:=beq_iff_eq.mpr h;simp only[List.lookup,a,if_neg (λe:g=f=>hk (h.symm.trans e))]
   ·have a:(g==k)=f6:=beq_eq_false_iff_ne.mpr h;simp only[List.lookup,a];exact ih
theorem iM (f:Str)(v:V):∀fs:List (Str×V),f∈(aX f v fs).map (·.1)∧∀g,g∈fs.map (·.1)→g∈(aX f v fs).map (·.1)
 | []=>⟨by simp[aX],λg h=>by simp at h⟩
 | (k,x)::r=>by
  obtain⟨a,b⟩:=iM f v r;rw[show aX f v ((k,x)::r)=(if k=f then(k,v)::r else(k,x)::aX f v r)from rfl];by_cases hk:k=f
  ·rw[if_pos hk];subst hk;exact⟨by simp,λg h=>by simpa using h⟩
  ·rw[if_neg hk];refine⟨?_,λg h=>?_⟩
   ·rw[List.map_cons];exact List.mem_cons_of_mem _ a
   ·rw[List.map_cons]at h⊢;rcases List.mem_cons.mp h with e|e
    ·exact List.mem_cons.mpr (.inl e)
    ·exact List.mem_cons_of_mem _ (b g e)
theorem jo (f:Str)(v:V):∀fs:List (Str×V),(aX f v fs).length≤fs.length+1
 | []=>by simp[aX]
 | (k,x)::r=>by
  have ih:=jo f v r;rw[show aX f v ((k,x)::r)=(if k=f then(k,v)::r else(k,x)::aX f v r)from rfl];by_cases hk:k=f
  ·rw[if_pos hk,List.length_cons,List.length_cons];omega
  ·rw[if_neg hk,List.length_cons,List.length_cons];omega
theorem bb.some_of(r:bb (e9 v) o):∃u,o=e9 u∧RelV v u:=by
 cases o with
 |none=>exact(show False from r).elim
 |some u=>exact⟨u,rfl,r⟩
theorem bb.none_of(r:bb f7 o):o=f7:=by
 cases o with
 |none=>rfl
 |some u=>exact(show False from r).elim
theorem xg(r:RelV v u):PySem.W.handedIn u=f8:=by
 cases v with
 |v1=>cases(show u=Value.none from r);rfl
 |bl b=>cases(show u=Value.bool b from r);rfl
 |int i=>obtain⟨t,e⟩:=(show∃t,u=Value.int i t from r);cases e;rfl
 |str x=>obtain⟨t,e⟩:=(show∃t,u=Value.str x t from r);cases e;rfl
 |byt b=>obtain⟨t,e⟩:=(show∃t,u=Value.bytes b t from r);cases e;rfl
 |flt b=>obtain⟨t,e⟩:=(show∃t,u=Value.float b t from r);cases e;rfl
 |ref a=>cases(show u=Value.ref a from r);rfl
 |ty n=>cases(show u=Value.type n from r);rfl
section
variable {P:Program}{w:World}{H H':Hp}{h h':Heap}{a C dx:Addr}{fs GW:List (Str×V)}
theorem pd (hok:fj P w H h)(e:H a=e9 (.ins C dx fs)):∃mA,ug h a dx C mA∧(∀f,bb (fs.lookup f) (mA f))∧PySem.Within mA (fs.map (·.1))∧fs.length≤1000∧H dx=e9 (.own a):=by
 obtain⟨d,z,ne,ob,mA,n,r,q⟩:=(show I7 P w H h a (.ins C dx fs)from hok a _ e)
 exact⟨mA,⟨ob,n,ne⟩,r,q,z,d⟩
end
structure Bl (K:PySem.W.Frag) (C:Addr):Prop where
 pg:PySem.W.plainGet K C Str.empty=true
 hd:PySem.W.hasDictIn K C=true
 po:PySem.W.plainOver K C=true
 sa:PySem.W.findIn K (.ref C) "__setattr__"=some (some (.builtin "object.__setattr__"))
theorem Bl.get {K:PySem.W.Frag}{C:Addr}(c:Bl K C)(f:Str):PySem.W.plainGet K C f=f8:=c.pg
def eL (K:PySem.W.Frag)(C:Addr)(f:Str):Prop:=PySem.W.findIn K (.ref C) f=e9 f7
theorem eL.HG {K:PySem.W.Frag}{C:Addr}{f:Str}(n:eL K C f):PySem.W.takerIn K C f=e9 f7:=by
 unfold PySem.W.takerIn;rw[show PySem.W.findIn K (.ref C) f=e9 f7 from n];rfl
structure Meth (K:PySem.W.Frag) (C:Addr) (m:Str) (f:Addr):Prop where
 at_:PySem.W.findIn K (.ref C) m=some (some (.ref f))
 fn:PySem.W.isFn K (.ref f)=true
 kp:PySem.W.keepIn K (.ref f)=true
section
variable {X:Cx}{pins:List (Addr×Obj)}{σ:St}{H:Hp}{s:Shared}{a C dx:Addr}{fs:List (Str×V)}{f:Str}{v:V}{A:Around}{E:Value→Shared→Prop}
theorem lv(I:Inv X pins σ H s)(e:H a=e9 (.ins C dx fs))(c:Bl X.K C)(n:eL X.K C f)(l:fs.lookup f=e9 v)
  (h:∀u d,Inv X pins σ H d→RelV v u→Q u d):wpAny (model X.prog X.w) A (NN (.ref a) f b) Q E s:=by
 obtain⟨mA,O,r,_,_,_⟩:=pd I.hok e;obtain⟨u,i,g⟩:=bb.some_of (v:=v) (o:=mA f) (by rw[←l];exact r f);exact get_map I.nv O (c.get f) c.hd n i (xg g) (h u _ (I.tok _) g)
theorem tK(I:Inv X pins σ H s)(e:H a=e9 (.ins C dx fs))(c:Bl X.K C)(k:Meth X.K C m g)(l:fs.lookup m=f7)
  (h:Q (.ref g,[.ref a]) s):wpAny (model X.prog X.w) A (Bb (.ref a) m pl) Q E s:=by
 obtain⟨mA,O,r,_,_,_⟩:=pd I.hok e;have b:mA m=f7:=bb.none_of (by rw[←l];exact r m);exact zY I.nv O (c.get m) k.at_ k.fn b h
theorem kE(I:Inv X pins σ H s)(e:H a=e9 (.ins C dx fs))(c:Bl X.K C)(n:eL X.K C f)(hl:fs.length<1000)(l:RelV y u)
  (h:∀i,Inv X pins σ (upd H a (.ins C dx (aX f y fs))) i→Q () i):wpAny (model X.prog X.w) A (setAttr (.ref a) f u) Q E s:=by
 obtain⟨mA,O,r,j,_,k⟩:=pd I.hok e;have m:(fs.map (·.1)).length≤sizeLine:=by rw[List.length_map,v0];omega
 refine BO I.nv O c.sa c.po n.HG c.hd j m λh' d p=>h _ ?_;have hd:∃o,h'.get? dx=e9 o:=let⟨o,_,_,t,_⟩:=d.ns;⟨o,t⟩;refine I.write (x:=a) (e:=dx) (by rw[e];exact True.intro) (.inr k) (λb q v z=>(p.2 b v).trans z) hd ?_;refine⟨by rw[k0 O.ne];exact k,?_,O.ne,d.obj,_,d.ns,λg=>?_,λg B=>?_⟩
 ·have:=jo f y fs;omega
 ·show bb ((aX f y fs).lookup g) (if g=f then e9 u else mA g);rw[bm];by_cases q:g=f
  ·rw[if_pos q,if_pos q];exact l
  ·rw[if_neg q,if_neg q];exact r g
 ·by_cases q:g=f
  ·rw[q];exact(iM f y fs).1
  ·refine(iM f y fs).2 g (j g λz=>B ?_);show(if g=f then e9 u else mA g)=f7;rw[if_neg q];exact z
theorem Inv.made (I:Inv X pins σ H s):Inv X pins σ (upd (upd H s.heap.objs.size (.own (s.heap.objs.size+1))) (s.heap.objs.size+1) (.ins C s.heap.objs.size []))
  {s with heap:=(s.heap.push PySem.W.emptyDict).push (PySem.W.instObj C s.heap.objs.size)}:=by
 have c:(s.heap.push PySem.W.emptyDict).get? s.heap.objs.size=e9 PySem.W.emptyDict:=Heap.get?_push_size s.heap rfl;have d:((s.heap.push PySem.W.emptyDict).push (PySem.W.instObj C s.heap.objs.size)).get? (s.heap.objs.size+1)=e9 (PySem.W.instObj C s.heap.objs.size):=by
  have:=Heap.get?_push_size (s.heap.push PySem.W.emptyDict) (o:=PySem.W.instObj C s.heap.objs.size) rfl;rwa[Heap.size_push]at this
 have f:(s.heap.push PySem.W.emptyDict).Ns s.heap.objs.size (λ_=>f7):=⟨PySem.W.emptyDict,#[],_,c,rfl,(λe g=>absurd g (by simp)),λ_=>rfl⟩
 have h:=I.laid (a:=s.heap.objs.size) (o:=.own (s.heap.objs.size+1)) (h':=s.heap.push PySem.W.emptyDict) (t':=s.toks) (λb u q=>Heap.get?_push_of_some _ q) (Nat.le_refl _) ⟨_,c⟩;refine h.laid (a:=s.heap.objs.size+1) (o:=.ins C s.heap.objs.size []) (t':=s.toks) (λb u q=>Heap.get?_push_of_some _ q) (Nat.le_of_eq (Heap.size_push _ _)) ?_;have ne:s.heap.objs.size≠s.heap.objs.size+1:=Nat.ne_of_lt (Nat.lt_succ_self _);refine⟨by rw[k0 ne,m3],Nat.zero_le _,ne,d,λ_=>f7,(Heap.Ns1.of_empty f).at λo q=>Heap.get?_push_of_some _ q,λ_=>True.intro,λy i=>absurd rfl i⟩
theorem DA(b:x0 e f env (eval e env)=eval e env)
  (h:wpAny (model prog w) A (eval e env) (λo a=>wpAny (model prog w) A (NN o f f8) Q E a) E s):wpAny (model prog w) A (eval (.Attribute e f pos) env) Q E s:=
 Attribute_any_ h (by rw[arm_eval_Attribute,b])
end
noncomputable def Ku (K:PySem.W.Frag)(c:TE)(f:Str):TE:=λσ H Q=>c σ H λx b=>∃a C dx fs v,x=.ref a∧b a=e9 (.ins C dx fs)∧Bl K C∧eL K C f∧fs.lookup f=e9 v∧Q v b
noncomputable def Kz (K:PySem.W.Frag)(c d:TE)(f:Str):TS:=λD σ H=>d σ H λy e=>c σ e λx b=>∃a C dx fs,x=.ref a∧b a=e9 (.ins C dx fs)∧Bl K C∧eL K C f∧fs.length<1000∧
 D.nx σ (upd b a (.ins C dx (aX f y fs)))
def Jl (X:Cx)(a:Operator)(rd:V→V→Hp→VK→Prop):Prop:=
 ∀(pins:List (Addr×Obj)) (s:Shared) (σ:St) (H:Hp) (x y:V) (u v:Value) (Q:VK),Inv X pins σ H s→RelV x u→RelV y v→rd x y H Q→wpAny (model X.prog X.w) X.A (JZ a u v) (EP X pins σ Q) X.xe s
noncomputable def BQ (K:PySem.W.Frag)(g h:TE)(rd:V→V→Hp→VK→Prop)(f:Str):TS:=λD σ H=>g σ H λx d=>∃a C dx fs v,x=.ref a∧d a=e9 (.ins C dx fs)∧Bl K C∧eL K C f∧fs.lookup f=e9 v∧
 h σ d λy i=>rd v y i λz e=>∃c b,e a=e9 (.ins C c b)∧b.length<1000∧D.nx σ (upd e a (.ins C c (aX f z b)))
section
variable {X:Cx}{o e value:Expr}{f:Str}{pos dC Lo:Pos}{ta tv:TE}
theorem sF (b:PE X e ta)(d:x0 e f X.env (eval e X.env)=eval e X.env):PE X (.Attribute e f pos) (Ku X.K ta f):=by
 intro pins s σ H Q I h;refine DA d (F3 (b pins s σ H _ I h) λu s1 ⟨x,g,i,j,a,C,dx,fs,v,ex,k,c,n,l,q⟩=>?_);subst ex;obtain rfl:u=Value.ref a:=j;exact lv i k c n l λp s2 m o=>⟨v,g,m,o,q⟩
theorem yL (b:PE X o ta)(d:PE X value tv)(hs:T2 value (e9 (.Attribute o f dC)) pos.line X.env=pure f6):PS X (.Assign [.Attribute o f dC] value pos) (Kz X.K ta tv f):=by
 intro pins s σ H D I h;refine plainObj_wpAny_Assign_Attribute (F3 (d pins s σ H _ I h) λu s1 ⟨y,e,g,i,q⟩=>F3 (b pins s1 σ e _ g q) λj s2 ⟨x,v,k,m,a,C,dx,fs,ex,p,c,n,l,r⟩=>?_) hs;subst ex;obtain rfl:j=Value.ref a:=m;exact kE k p c n l i λw t=>⟨σ,_,t,r⟩
theorem wr {e:Operator}{rd:V→V→Hp→VK→Prop}(g:PE X o ta)(i:PE X value tv)(b:Jl X e rd):PS X (.AugAssign (.Attribute o f Lo) e value pos) (BQ X.K ta tv rd f):=by
 intro pins s σ H D I h;refine wpAny_AugAssign_AttributeAny (F3 (g pins s σ H _ I h) λj s1 ⟨x,k,m,p,a,C,dx,fs,v,ex,r,c,n,l,q⟩=>?_);subst ex;obtain rfl:j=Value.ref a:=p;refine lv m r c n l λu s2 t w=>F3 (i pins s2 σ k _ t q) λA B ⟨y,E,F,G,J⟩=>F3 (b pins B σ E v y u A _ F w G J) λS T ⟨z,U,L,rz,N,O,d,P,Q⟩=>?_;exact kE L d c n P rz λY R=>⟨σ,_,R,Q⟩
noncomputable def KD:V→V→Hp→VK→Prop:=λx y H Q=>∃i j,x=.int i∧y=.int j∧Q (.int (i+j)) H
theorem Go:Jl X .Add KD:=by
 rintro pins s σ H x y u v Q I rx ry ⟨i,j,rfl,rfl,q⟩
 obtain⟨t,rfl⟩:=(show∃t,u=Value.int i t from rx)
 obtain⟨a,rfl⟩:=(show∃a,v=Value.int j a from ry)
 exact LN ⟨.int (i+j),H,I.tok _,⟨_,rfl⟩,q⟩
end
structure O8 (k:Nat) (A:Around):Prop where
 hd:A.handled=none
 dp:A.depth+3*k+5<Mq
 un:A.units+16*k+200<C2
theorem O8.mono(r:O8 k A)(h:j≤k):O8 j A:=⟨r.hd,by have:=r.dp;omega,by have:=r.un;omega⟩
theorem O8.deeper(r:O8 (k+1) A)(env:Env):O8 k (A.deeper env):=
 ⟨r.hd,by have:=r.dp;show A.depth+1+3*k+5<_;omega,by have:=r.un;show A.units+3+16*k+200<_;omega⟩
theorem sV {A:Around}:(A.under (.builtin "type.__call__" ⟨.ref C::us,a⟩)).depth=A.depth+1:=by
 first|rfl|simp[rX,Code.weight,Code.isCreation,Code.isGuard,Code.isCaller,Ke,ul,guardIds]
theorem sU {A:Around}:(A.under (.builtin "type.__call__" ⟨.ref C::us,a⟩)).units=A.units+1:=by
 first|rfl|simp[rX,Code.cUnits,Ke,ul]
theorem O8.make(r:O8 (k+1) A)(C:Addr)(us:List Value)(a:List (Str×Value)):O8 k (A.under (.builtin "type.__call__" ⟨.ref C::us,a⟩)):=
 ⟨r.hd,by have:=r.dp;rw[sV];omega,by have:=r.un;rw[sU];omega⟩
theorem O8.depth(r:O8 k A):A.depth<Mq:=by have:=r.dp;omega
theorem O8.units(r:O8 k A):A.units+64<C2:=by have:=r.un;omega
noncomputable def Kp:TA:=λ_ H Q=>Q [] H
noncomputable def HS (a:TE)(b:TA):TA:=λσ H Q=>a σ H λx c=>b σ c λxs d=>Q (x::xs) d
section
variable {X:Cx}{e:Expr}{es:List Expr}{te:TE}{t:TA}{pos:Pos}
theorem FD:PA X [] Kp:=λ_ _ _ _ H Q I h=>V5 ⟨[],H,I,.nil,h⟩
theorem Ct (a:PE X e te)(hr:PA X es t)(hs:h8 (e::es) X.env=(f6,eval e X.env)::h8 es X.env:=by rfl):PA X (e::es) (HS te t):=by
 intro pos pins s σ H Q I h;rw[hs];show wpAny _ _ (Br ((f6,eval e X.env)::m4 pos (h8 es X.env))) _ _ s;refine M3 (F3 (a pins s σ H _ I h) λu s1 ⟨x,b,c,d,f⟩=>?_);exact F3 (hr pos pins s1 σ b _ c f) λus s2 ⟨xs,g,i,j,k⟩=>⟨x::xs,g,i,.cons d j,k⟩
noncomputable def Kl (t:TA):TE:=λσ H Q=>t σ H λxs a=>xs.length≤sizeLine∧∀p,a p=f7→Q (.ref p) (upd a p (.tup xs))
noncomputable def Kq (t:TA):TE:=λσ H Q=>t σ H λxs a=>xs.length≤sizeLine∧∀p,a p=f7→Q (.ref p) (upd a p (.lst xs))
theorem Fw {x1}(h:PA X es t):PE X (.Tuple es x1 pos) (Kl t):=by
 intro pins s σ H Q I d;refine wpAny_Tuple_spliced (F3 (h pos pins s σ H _ I d) λus s1 ⟨xs,a,c,r,z,q⟩=>⟨by rw[←r.length];exact z,?_⟩);have f:a s1.heap.objs.size=f7:=c.hok.fresh (Nat.le_refl _);refine⟨.ref s1.heap.objs.size,upd a s1.heap.objs.size (.tup xs),c.laid (t':=s1.toks) (λb u e=>Heap.get?_push_of_some _ e) (Nat.le_refl _) ?_,rfl,q _ f⟩;exact⟨z,us,r,⟨_,Heap.get?_push_size _ rfl,rfl,_,rfl⟩⟩
theorem FA (h:PA X es t):PE X (.List es pos) (Kq t):=by
 intro pins s σ H Q I d;refine wpAny_List_spliced (F3 (h pos pins s σ H _ I d) λus s1 ⟨xs,a,c,r,z,q⟩=>⟨by rw[←r.length];exact z,?_⟩);have f:a s1.heap.objs.size=f7:=c.hok.fresh (Nat.le_refl _);refine⟨.ref s1.heap.objs.size,upd a s1.heap.objs.size (.lst xs),c.laid (t':=s1.toks) (λb u e=>Heap.get?_push_of_some _ e) (Nat.le_refl _) ?_,rfl,q _ f⟩;exact⟨z,us,0,r,Heap.get?_push_size _ rfl⟩
end
noncomputable abbrev Sp:=List V→Hp→VK→XK→Prop
noncomputable abbrev DJ:=List Env→Hp→Shared→XK→Value→Shared→Prop
structure rO (P:Program) (w:World) (K:PySem.W.Frag) (mg:Str→Option Value) (base:Heap) (A:Around) (outer:List Env) (s:Shared) (H:Hp):Prop where
 frames:A.frames=some outer
 mod:Mod K mg base
 bs:∀b o,base.get? b=some o→s.heap.get? b=some o∧H b=none
 bsz:base.objs.size≤s.heap.objs.size
 hU:s.heap.FunFrames base outer
 frf:∀b∈frs outer,H b=none
 hok:fj P w H s.heap
 bare:gx s.gens
def CE (outer:List Env)(P:Program)(w:World)(H:Hp)(s:Shared)(Q:VK)(u:Value)(a:Shared):Prop:=
 ∃v H',a.os=s.os∧gx a.gens∧Un (frs outer) [] H H' s.heap a.heap∧fj P w H' a.heap∧RelV v u∧Q v H'
def CR (CX:DJ)(outer:List Env)(P:Program)(w:World)(H:Hp)(s:Shared)(Q:VK)(E:XK)(r:Mz)(a:Shared):Prop:=
 match r with
 |.ok (.ret u)=>CE outer P w H s Q u a
 |.ok _=>False
 |.error e=>CX outer H s E e a
structure x5 (P:Program) (w:World) (K:PySem.W.Frag) (mg:Str→Option Value) (base:Heap) (CX:DJ) (k:Nat) (f:Addr) (fd:FuncData) (ps:List Str) (sp:Sp):Prop where
 len:∀vs H Q E,sp vs H Q E→vs.length=ps.length
 run:∀(A:Around) (outer:List Env) (s:Shared) (H:Hp) (args:Args) (us:List Value) (vs:List V) (Q:VK) (E:XK),O8 k A→rO P w K mg base A outer s H→uo s fd args (ps.zip us)→Vals vs us→sp vs H Q E→
  Z4 (model P w) A (.call (.ref f) args) (CR CX outer P w H s Q E) s
theorem x5.imp {P:Program}{w:World}{K:PySem.W.Frag}{mg:Str→Option Value}{base:Heap}{CX:DJ}{k:Nat}{f:Addr}{fd:FuncData}{ps:List Str}{sp a:Sp}(F:x5 P w K mg base CX k f fd ps sp)
  (h:∀vs H Q E,a vs H Q E→sp vs H Q E):x5 P w K mg base CX k f fd ps a:=
 ⟨λvs H Q E q=>F.len vs H Q E (h _ _ _ _ q),λA outer s H args us vs Q E hr b c d hs=>F.run A outer s H args us vs Q E hr b c d (h _ _ _ _ hs)⟩
theorem rO.make {P:Program}{w:World}{K:PySem.W.Frag}{mg:Str→Option Value}{base:Heap}{A:Around}{outer:List Env}{s:Shared}{H:Hp}(e:rO P w K mg base A outer s H)(C:Addr)(us:List Value)(a:List (Str×Value)):
  rO P w K mg base (A.under (.builtin "type.__call__" ⟨.ref C::us,a⟩)) outer s H:=⟨by first|exact e.frames| (simpa[rX,Code.envs,ul,pushEnvs]using e.frames),e.mod,e.bs,e.bsz,e.hU,e.frf,e.hok,e.bare⟩
section
variable {X:Cx}{pins:List (Addr×Obj)}{σ:St}{H:Hp}{s s':Shared}
theorem Inv.IS (I:Inv X pins σ H s):rO X.prog X.w X.K X.mg X.base X.A X.stack s H:=
 ⟨I.ok.frames,I.ok.mod,I.bs,Nat.le_trans I.ok.bsz I.sz,I.stack,I.uy,I.hok,I.bare⟩
theorem Inv.after(I:Inv X pins σ H s)(h:CE X.stack X.prog X.w H s Q u s'):EP X pins σ Q u s':=by
 obtain⟨v,H',os,bare,un,hok,r,q⟩:=h;obtain⟨c,g,d,t,a⟩:=s';obtain rfl:a=s.os:=os;exact⟨v,H',I.call (h':=c) (g':=g) (d':=d) (t':=t) (ch:=[]) un hok bare (λb z=>absurd z (by simp)),r,q⟩
end
noncomputable def yb (sp:Sp)(a:List V)(E:XK)(t:TA):TE:=λσ H Q=>t σ H λvs b=>sp (vs++a) b Q E
noncomputable def DP (C:Addr)(m:Str)(sp:Sp)(b:List V)(E:XK)(d:TE)(t:TA):TE:=λσ H Q=>d σ H λx c=>∃a dx fs,x=.ref a∧c a=e9 (.ins C dx fs)∧fs.lookup m=f7∧
 t σ c λvs e=>sp (x::(vs++b)) e Q E
noncomputable def HP (C:Addr)(sp:Sp)(a:List V)(E:XK)(t:TA):TE:=λσ H Q=>t σ H λvs b=>∀x dx,b x=f7→b dx=f7→dx≠x→
 sp (.ref x::(vs++a)) (upd (upd b dx (.own x)) x (.ins C dx [])) (λv c=>v=.v1∧Q (.ref x) c) E
def Binds (K:PySem.W.Frag)(fd:FuncData)(ps:List Str)(ds:List Value):Prop:=
 ∀(s:Shared) (us:List Value),K.In s.heap→(us++ds).length=ps.length→uo s fd ⟨us,[]⟩ (ps.zip (us++ds))
theorem Binds.all {K:PySem.W.Frag}{fd:FuncData}{ps:List Str}(h:∀us:List Value,us.length=ps.length→og fd ⟨us,[]⟩=pure (ps.zip us)):Binds K fd ps []:=λs us _ hl=>by
 rw[List.append_nil]at hl⊢;exact .of_eq (h us hl)
def Passes (CX:DJ)(X:Cx)(E:XK):Prop:=∀(pins:List (Addr×Obj)) (σ:St) (H:Hp) (s:Shared) (e:Value) (a:Shared),Inv X pins σ H s→CX X.stack H s E e a→X.xe e a
section
variable {X:Cx}{CX:DJ}{k:Nat}{f C:Addr}{fd:FuncData}{ps:List Str}{sp:Sp}{xP:List V}{ds:List Value}{E:XK}{x m:Str}{p pos apos:Pos}{e o:Expr}{es:List Expr}{ta:TE}{t:TA}
theorem yx(F:x5 X.prog X.w X.K X.mg X.base CX k f fd ps sp)(hr:O8 k X.A)(c:Binds X.K fd ps ds)(hd:Vals xP ds)(d:Passes CX X E)
  (I:Inv X pins σ H s) (r:Vals vs us) (h:sp (vs++xP) H Q E):wpAny (model X.prog X.w) X.A (call (.ref f) us) (EP X pins σ Q) X.xe s:=by
 have b:Vals (vs++xP) (us++ds):=r.append hd;have hl:(us++ds).length=ps.length:=by rw[←b.length];exact F.len _ _ _ _ h
 refine Ho (Z3 (F.run X.A X.stack s H ⟨us,[]⟩ (us++ds) (vs++xP) Q E hr I.IS (c s us I.nv hl) b h) λr g a=>?_);cases r with
 |error e=>exact d pins σ H s e g I a
 |ok i=>
  cases i with
  |ret u=>exact I.after a
  |next=>exact D9 a
  |brk=>exact D9 a
  |cont=>exact D9 a
theorem Cq (F:x5 X.prog X.w X.K X.mg X.base CX k f fd ps sp)(hr:O8 k X.A)(d:Gl X x)(g:X.mg x=e9 (.ref f))(hk:PySem.W.keepIn X.K (.ref f)=f8)(i:Binds X.K fd ps ds)(hd:Vals xP ds)(j:Passes CX X E)
  (l:PA X (e::es) t) (a:(x==("__debug__":Str))=f6:=by decide) (m:h8 (e::es) X.env=(f6,eval e X.env)::h8 es X.env:=by rfl) (b:(m4 pos (h8 es X.env)).any (·.1)=f6:=by rfl):
  PE X (.Call (.Name x p) (e::es) [] pos) (yb sp xP E t):=by
 intro pins s σ H Q I h;refine x6 (oY I d g ?_ a);refine PySem.W.callWith_K (h₀:=X.base) I.ok.mod.kin hk (F3 (l pos pins s σ H _ I h) λus s1 ⟨vs,n,c,r,q⟩=>⟨c.nv,?_⟩) m b;exact yx F hr i hd j c r q
theorem Cj(p:PE X o ta)(c:Bl X.K C)(g:Meth X.K C m f)(F:x5 X.prog X.w X.K X.mg X.base CX k f fd ps sp)(hr:O8 k X.A)(v:Binds X.K fd ps ds)(hd:Vals xP ds)(y:Passes CX X E)(z:PA X (e::es) t)
  (b:h8 (e::es) X.env=(f6,eval e X.env)::h8 es X.env:=by rfl) (d:(m4 pos (h8 es X.env)).any (·.1)=f6:=by rfl)
  (B:eval (.Call (.Attribute o m apos) (e::es) [] pos) X.env=(do
   let i←eval o X.env
   uj apos.atName
   let(f,first)←W4 [i] (Bb i m pl)
   Ez pos f first (m4 pos (h8 (e::es) X.env)) (y4 pos (o1 [] X.env))):=by rfl):
  PE X (.Call (.Attribute o m apos) (e::es) [] pos) (DP C m sp xP E ta t):=by
 intro pins s σ H Q I h;refine PySem.W.methodCall_KW (pl:=pl) (F3 (p pins s σ H _ I h) λu s1 ⟨x,G,j,J,a,dx,fs,ex,L,l,q⟩=>?_) B;subst ex;obtain rfl:u=Value.ref a:=J;refine tK j L c g l ?_;refine PySem.W.callWith_K (first:=[.ref a]) (h₀:=X.base) I.ok.mod.kin g.kp (F3 (z pos pins s1 σ G _ j q) λus s2 ⟨vs,O,n,r,N⟩=>⟨n.nv,?_⟩) b d;exact yx (us:=.ref a::us) (vs:=.ref a::vs) F hr v hd y n (.cons rfl r) N
structure Mk (K:PySem.W.Frag) (C f:Addr):Prop where
 makes:PySem.W.makesIn K C=true
 init:PySem.W.findIn K (.ref C) "__init__"=some (some (.ref f))
 fn:PySem.W.isFn K (.ref f)=true
 kp:PySem.W.keepIn K (.ref C)=true
theorem yw(M:Mk X.K C f)(F:x5 X.prog X.w X.K X.mg X.base CX k f fd ps sp)(hr:O8 (k+1) X.A)(g:Binds X.K fd ps ds)(hd:Vals xP ds)
  (i:Passes CX X E) (I:Inv X pins σ H s) (r:Vals vs us)
  (h:∀x dx,H x=f7→H dx=f7→dx≠x→sp (.ref x::(vs++xP)) (upd (upd H dx (.own x)) x (.ins C dx [])) (λv j=>v=.v1∧Q (.ref x) j) E):
  wpAny (model X.prog X.w) X.A (call (.ref C) us) (EP X pins σ Q) X.xe s:=by
 have c:=h (s.heap.objs.size+1) s.heap.objs.size (I.hok.fresh (Nat.le_succ _)) (I.hok.fresh (Nat.le_refl _)) (Nat.ne_of_lt (Nat.lt_succ_self _));have b:=Inv.made (C:=C) I;have d:Vals (V.ref (s.heap.objs.size+1)::(vs++xP)) (Value.ref (s.heap.objs.size+1)::(us++ds)):=.cons rfl (r.append hd);have hl:(Value.ref (s.heap.objs.size+1)::us++ds).length=ps.length:=by
  have e:=d.length;rw[F.len _ _ _ _ c]at e;exact e.symm
 refine Ho (zl (f:=f) I.nv M.makes M.init (beq_iff_eq.mp M.fn) (Z3 (F.run _ X.stack _ _ ⟨Value.ref (s.heap.objs.size+1)::us,[]⟩ (Value.ref (s.heap.objs.size+1)::(us++ds)) _ _ E (hr.make C us [])
  (b.IS.make C us []) (g _ (Value.ref (s.heap.objs.size+1)::us) b.nv hl) d c) λr l a=>?_))
 cases r with
 |error e=>exact i pins σ _ _ e l b a
 |ok m=>
  cases m with
  |ret u=>
   obtain⟨v,H',n,o,p,q⟩:=b.after a;subst p;exact⟨o,⟨V.ref (s.heap.objs.size+1),H',n,rfl,q⟩⟩
  |next=>exact D9 a
  |brk=>exact D9 a
  |cont=>exact D9 a
theorem Ck (M:Mk X.K C f)(F:x5 X.prog X.w X.K X.mg X.base CX k f fd ps sp)(hr:O8 (k+1) X.A)(d:Gl X x)(g:X.mg x=e9 (.ref C))(i:Binds X.K fd ps ds)(hd:Vals xP ds)(j:Passes CX X E)
  (l:PA X (e::es) t) (a:(x==("__debug__":Str))=f6:=by decide) (m:h8 (e::es) X.env=(f6,eval e X.env)::h8 es X.env:=by rfl) (b:(m4 pos (h8 es X.env)).any (·.1)=f6:=by rfl):
  PE X (.Call (.Name x p) (e::es) [] pos) (HP C sp xP E t):=by
 intro pins s σ H Q I h;refine x6 (oY I d g ?_ a);refine PySem.W.callWith_K (h₀:=X.base) I.ok.mod.kin M.kp (F3 (l pos pins s σ H _ I h) λus s1 ⟨vs,n,c,r,q⟩=>⟨c.nv,?_⟩) m b;exact yw M F hr i hd j c r q
end
structure n2 (N P:List Str) (sc:Scope):Prop where
 kind:sc.kind=.function
 co:sc.isCoroutine=false
 gen:sc.isGenerator=false
 nd:N.Nodup
 pre:N.take P.length=P
 par:∀x∈P,sc.names.lookup x=some .local∨sc.names.lookup x=some .cell
 nofree:∀y∈sc.names,y.2≠.free
theorem nT {kindOf:Str→Option NameKind}{x:Str}:∀{a:List (Str×Value)} {m:Str→Option Value},(∀v,(x,v)∉a)→Be kindOf a m x=m x
 | [],_,_=>rfl
 | (n,v)::r,m,h=>by
  unfold Be;rw[nT λw b=>h w (List.mem_cons_of_mem _ b)];split
  ·have:x≠n:=by rintro rfl;exact h v List.mem_cons_self
   simp[this]
  ·rfl
theorem nV {kindOf:Str→Option NameKind}{x:Str}:∀{a:List (Str×Value)} {m:Str→Option Value},(∀v,(x,v)∉a)→Bf kindOf a m x=m x
 | [],_,_=>rfl
 | (n,v)::r,m,h=>by
  unfold Bf;rw[nV λw b=>h w (List.mem_cons_of_mem _ b)];split
  ·rfl
  ·have:x≠n:=by rintro rfl;exact h v List.mem_cons_self
   simp[this]
theorem nU {kindOf:Str→Option NameKind}{x:Str}{v:Value}:∀{P:List Str} {vs:List Value} {i:Nat} {m:Str→Option Value},P.Nodup→P[i]?=e9 x→vs[i]?=e9 v→kindOf x=e9 .local→
  Be kindOf (P.zip vs) m x=e9 v
 | [],_,_,_,_,h,_,_=>by simp at h
 |_::_,[],_,_,_,_,h,_=>by simp at h
 |p::P,w::vs,0,m,nd,a,b,hk=>by
  simp at a b;subst a;subst b;show Be kindOf ((p,w)::P.zip vs) m p=_;unfold Be;rw[nT λv c=>(List.nodup_cons.mp nd).1 (List.of_mem_zip c).1,if_pos hk];simp
 |p::P,w::vs,i+1,m,nd,a,b,hk=>by
  show Be kindOf ((p,w)::P.zip vs) m x=_;unfold Be;exact nU (i:=i) (List.nodup_cons.mp nd).2 (by simpa using a) (by simpa using b) hk
theorem nW {kindOf:Str→Option NameKind}{x:Str}{v:Value}:∀{P:List Str} {vs:List Value} {i:Nat} {m:Str→Option Value},P.Nodup→P[i]?=e9 x→vs[i]?=e9 v→kindOf x≠e9 .local→
  Bf kindOf (P.zip vs) m x=e9 v
 | [],_,_,_,_,h,_,_=>by simp at h
 |_::_,[],_,_,_,_,h,_=>by simp at h
 |p::P,w::vs,0,m,nd,a,b,hk=>by
  simp at a b;subst a;subst b;show Bf kindOf ((p,w)::P.zip vs) m p=_;unfold Bf;rw[nV λv c=>(List.nodup_cons.mp nd).1 (List.of_mem_zip c).1,if_neg hk];simp
 |p::P,w::vs,i+1,m,nd,a,b,hk=>by
  show Bf kindOf ((p,w)::P.zip vs) m x=_;unfold Bf;exact nW (i:=i) (List.nodup_cons.mp nd).2 (by simpa using a) (by simpa using b) hk
noncomputable def start (N:List Str)(vs:List V):St:=vs.map e9++List.replicate (N.length-vs.length) f7
noncomputable def lI (CX:DJ)(P:Program)(w:World)(K:PySem.W.Frag)(mg:Str→Option Value)(base:Heap)(N:List Str)(qual:Str)(scope:Scope)(f:Addr)(b:Value)(A:Around)(outer:List Env)(s:Shared)(H:Hp)(E:XK):Cx where
 prog:=P
 w:=w
 K:=K
 mg:=mg
 base:=base
 A:=A.deeper (bW qual scope s.heap.objs.size f b)
 N:=N
 s₀:=s
 H₀:=H
 env:=bW qual scope s.heap.objs.size f b
 outer:=outer
 stack:=bW qual scope s.heap.objs.size f b::outer
 ex:=[]
 calm:=f8
 fn:=λ_=>f8
 pn:=[]
 xe:=λe c=>wpAny (model P w) (A.deeper (bW qual scope s.heap.objs.size f b)) (leaving (bW qual scope s.heap.objs.size f b) e) (λ_ a=>CX outer H s E e a) (λd a=>CX outer H s E d a) c
theorem rE {sc:Scope}(h:sc.names.lookup x=e9 .cell):∃c,(cellsFrom n sc.names []).lookup x=e9 c:=by
 have q:=PySem.W.cellsFrom_some sc.names n [] (.inl h);exact A6.mp q
theorem wV {CX:DJ}{P:Program}{w:World}{K:PySem.W.Frag}{mg:Str→Option Value}{base:Heap}{N ps:List Str}{qual:Str}{scope:Scope}{f:Addr}{t:Value}{A:Around}{outer:List Env}{s s1:Shared}{H:Hp}{E:XK}{us:List Value}{vs:List V}
  (S:n2 N ps scope) (hd:A.handled=f7) (g:rO P w K mg base A outer s H) (hl:vs.length=ps.length) (r:Vals vs us)
  (x:InCallC s s.heap.objs.size (Be (bW qual scope s.heap.objs.size f t).kindOf (ps.zip us) λ_=>f7) (cellsFrom (s.heap.objs.size+1) scope.names []) (Bf (bW qual scope s.heap.objs.size f t).kindOf (ps.zip us) λ_=>f7) s1):
  Inv (lI CX P w K mg base N qual scope f t A outer s H E) [] (start N vs) H s1:=by
 have G:ps.length≤N.length:=by have:=congrArg List.length S.pre;rw[List.length_take]at this;omega
 obtain⟨B,L,rfl,hk⟩:=x.done;have j:∀b:Addr,b∉(lI CX P w K mg base N qual scope f t A outer s H E).ex:=λb z=>absurd (show b∈([]:List Addr)from z) (by simp);refine⟨⟨g.mod,S.kind,rfl,rfl,Nat.le_refl _,λy z c B d=>?_,λy l=>?_,λy c _ h=>?_,λ_=>hd,Around.frames_deeper g.frames,.inr ⟨rfl,rfl⟩,λb z=>absurd z (j b),g.bs,g.bsz,λb _ _=>j b,λb z=>absurd z (j b),g.hU,g.frf⟩,
  rfl,g.bare,Un.kept hk,⟨_,x.toInCall.ns,λi y v B d O=>?_⟩,λy c h=>⟨_,x.cell y c h⟩,g.hok.fresh (Nat.le_refl _),λy c h=>?_,λp m=>absurd (show p∈([]:List (Addr×Obj))from m) (by simp),g.hok.kept hk,?_⟩
 ·exact NM x.apart (PySem.mem_of_lookup B) (PySem.mem_of_lookup d)
 ·have l:scope.names.lookup y=e9 .cell∨scope.names.lookup y=e9 .free:=l;rcases l with l|l
  ·exact rE l
  ·exact absurd rfl (S.nofree _ (PySem.mem_of_lookup l))
 ·exact Nat.le_of_lt (x.above y c (PySem.mem_of_lookup h))
 ·have hi:i<vs.length:=by
   unfold start at d;by_cases hi:i<vs.length
   ·exact hi
   ·rw[List.getElem?_append_right (by simpa using hi)]at d;rw[List.getElem?_replicate]at d;split at d<;>cases d
  have I:vs[i]?=e9 v:=by
   unfold start at d;rw[List.getElem?_append_left (by simpa using hi),List.getElem?_map]at d;cases e:vs[i]? with
   |none=>rw[e]at d;cases d
   |some a=>rw[e]at d;cases d;rfl
  obtain⟨u,F,J⟩:=r.get I;have m:ps[i]?=e9 y:=by
   rw[←S.pre,List.getElem?_take_of_lt (by omega)];exact B
  have o:ps.Nodup:=by rw[←S.pre];exact S.nd.sublist (List.take_sublist _ _)
  refine⟨u,J,?_⟩;rcases S.par y (List.mem_of_getElem? m)with k|k
  ·exact .inl ⟨k,nU o m F k⟩
  ·obtain⟨c,e⟩:=rE (n:=s.heap.objs.size+1) k;refine .inr ⟨.inl k,c,e,?_⟩;have q:=x.cell y c e;rw[nW o m F (by show scope.names.lookup y≠_;rw[k];decide)]at q;exact q
 ·exact g.hok.fresh (Nat.le_of_lt (x.above y c (PySem.mem_of_lookup h)))
 ·unfold start;show _=N.length;rw[List.length_append,List.length_map,List.length_replicate];omega
theorem IN {CX:DJ}{P:Program}{w:World}{K:PySem.W.Frag}{mg:Str→Option Value}{base:Heap}{k:Nat}{f:Addr}{name qual:Str}{a:Arguments}{c:List Stmt}{scope:Scope}{B kV doc pm cdv ct oc:Value}{an od:Option Addr}
  {osl:Array (Option Value)} {N ps:List Str} {sp:Sp} (lk:K.lookup f=e9 ⟨oc,od,.func (PySem.W.fnOf name qual a c scope B kV doc pm an cdv ct),osl⟩) (l:PySem.W.codeIn K cdv qual=f8) (S:n2 N ps scope)
  (len:∀vs H Q E,sp vs H Q E→vs.length=ps.length)
  (g:∀(A:Around) (outer:List Env) (s:Shared) (H:Hp) (vs:List V) (Q:VK) (E:XK),O8 k (A.deeper (bW qual scope s.heap.objs.size f cdv))→sp vs H Q E→
   ∃t,lV (lI CX P w K mg base N qual scope f cdv A outer s H E) c t∧t {nx:=λ_ H'=>Q .v1 H',rt:=Q} (start N vs) H):
  x5 P w K mg base CX (k+1) f (PySem.W.fnOf name qual a c scope B kV doc pm an cdv ct) ps sp:=by
 refine⟨len,λA outer s H args us vs Q E hr i G r j=>?_⟩;have hl:=len _ _ _ _ j;have F:K.In s.heap:=i.mod.kin.keeps λb o e=>(i.bs b o e).1;have m:s.heap.NoLimit:=i.mod.nolimit.keeps λb o e=>(i.bs b o e).1;have h:∀y∈ps.zip us,scope.names.lookup y.1=e9 .local∨(scope.names.lookup y.1=e9 .cell∧((cellsFrom (s.heap.objs.size+1) scope.names []).lookup y.1).isSome=f8):=λ⟨n,v⟩ L=>by
  rcases S.par n (List.of_mem_zip L).1 with q|q
  ·exact .inl q
  ·exact .inr ⟨q,PySem.W.cellsFrom_some _ _ _ (.inl q)⟩
 refine codeAny_call_function hr.depth (F _ _ lk) rfl S.co S.gen rfl (PySem.W.codeRec_of F l) (G _ _ _ _ ?_);refine wpAny_newFunctionEnv_cells S.kind h λenv O s1 x=>?_;subst O;refine⟨m.keeps x.toInCall.keep,codeAny_func ?_⟩;obtain⟨t,R,T⟩:=g A outer s H vs Q E (hr.deeper _) j;have I:Inv (lI CX P w K mg base N qual scope f cdv A outer s H E) [] (start N vs) H s1:=wV S hr.hd i hl r x;refine z9 (R [] s1 (start N vs) H _ I T) (λU p hs=>?_) λe p hs=>hs;have fin:∀{d:St} {H':Hp} {v:V} {u:Value},Inv (lI CX P w K mg base N qual scope f cdv A outer s H E) [] d H' p→RelV v u→Q v H'→CE outer P w H s Q u p:=
  λ{d H' v u} J z q=>⟨v,H',J.os,J.bare,J.base,J.hok,z,q⟩
 cases U with
 |ret u=>
  obtain⟨v,d,H',J,z,q⟩:=hs;exact fin J z q
 |next=>
  obtain⟨d,H',J,q⟩:=hs;exact fin (v:=V.v1) (u:=Value.none) J rfl q
 |brk=>
  obtain⟨_,_,_,q⟩:=hs;exact D9 q
 |cont=>
  obtain⟨_,_,_,q⟩:=hs;exact D9 q
section
variable {X:Cx}{x:Str}{p pos:Pos}{e:Expr}{es:List Expr}{t:TA}{id T:String}{r:List V→Hp→VK→Prop}
noncomputable def HU (r:List V→Hp→VK→Prop)(t:TA):TE:=λσ H Q=>t σ H λvs a=>r vs a Q
theorem yW (c:J3 X (.builtin id) r)(d:Gl X x)(f:X.mg x=f7)(g:K4 x=e9 (.builtin id))(i:PA X (e::es) t)(j:x≠"__name__":=by decide) (a:(x==("__debug__":Str))=f6:=by decide)
  (k:h8 (e::es) X.env=(f6,eval e X.env)::h8 es X.env:=by rfl) (b:(m4 pos (h8 es X.env)).any (·.1)=f6:=by rfl):PE X (.Call (.Name x p) (e::es) [] pos) (HU r t):=by
 intro pins s σ H Q I h;refine x6 (aJ I d f g ?_ j a);exact LQ (F3 (i pos pins s σ H _ I h) λus s1 ⟨vs,l,m,n,o⟩=>c pins s1 σ l vs us Q m n o) k b
theorem wz (c:J3 X (.type T) r)(d:Gl X x)(f:X.mg x=f7)(g:K4 x=e9 (.type T))(i:PA X (e::es) t)(j:x≠"__name__":=by decide) (a:(x==("__debug__":Str))=f6:=by decide)
  (k:h8 (e::es) X.env=(f6,eval e X.env)::h8 es X.env:=by rfl) (b:(m4 pos (h8 es X.env)).any (·.1)=f6:=by rfl):PE X (.Call (.Name x p) (e::es) [] pos) (HU r t):=by
 intro pins s σ H Q I h;refine x6 (aJ I d f g ?_ j a);exact o3 (F3 (i pos pins s σ H _ I h) λus s1 ⟨vs,l,m,n,o⟩=>c pins s1 σ l vs us Q m n o) k b
end
end L2
namespace HT
open PySem PyProof.Rows
section
variable {prog:Program}{w:World}{A:Around}{E:Value→Shared→Prop}{s:Shared}
noncomputable def B4 (n d:Nat):Option Int→Nat
 |none=>d
 |some v=>if v<0 then(v+(n:Int)).toNat else min v.toNat n
theorem gR (n d:Nat):B4 n d f7=d:=rfl
theorem uB (n d k:Nat):B4 n d (e9 (k:Int))=min k n:=by
 show(if(k:Int)<0 then((k:Int)+(n:Int)).toNat else min (k:Int).toNat n)=min k n;rw[if_neg (by omega),G8]
theorem yv (n d:Nat)(hd:d≤n)(o:Option Int):B4 n d o≤n:=by
 cases o with
 |none=>exact hd
 |some v=>
  show(if v<0 then(v+(n:Int)).toNat else min v.toNat n)≤n;by_cases a:v<0
  ·rw[if_pos a];omega
  ·rw[if_neg a];exact Nat.min_le_right _ _
theorem vz (v:Int)(n d:Nat):(if v<0 then max (v+(n:Int)) 0 else min v (n:Int))=((B4 n d (e9 v):Nat):Int):=by
 show(if v<0 then max (v+(n:Int)) 0 else min v (n:Int))=(((if v<0 then(v+(n:Int)).toNat else min v.toNat n):Nat):Int)
 by_cases a:v<0
 ·simp only[if_pos a];omega
 ·simp only[if_neg a];omega
theorem ud (lo hi:Option Int)(n:Nat):Z5 lo hi 1 (n:Int)=(((B4 n 0 lo:Nat):Int),((B4 n n hi:Nat):Int)):=by
 have a:¬((1:Int)<0):=by omega
 unfold Z5;simp only[a,if_false];refine xQ ?_ ?_
 ·cases lo with
  |none=>rfl
  |some v=>exact vz v n 0
 ·cases hi with
  |none=>rfl
  |some v=>exact vz v n n
theorem sD (i j:Nat):N4 (i:Int) (j:Int) 1=j-i:=by
 unfold N4;have a:(1:Int)>0:=by omega
 simp only[a,if_true,Int.ediv_one];split<;>omega
theorem kC(p:IsPart v o)(h:Q o s):wpAny (model prog w) A (Kg v) Q E s:=by
 cases p with
 |none=>exact Mo h
 |int i t=>exact slicePart_int h
theorem ca {sl:Addr}{c d:Value}{lo hi:Option Int}{n:Nat}{Q:Int×Int×Nat→Shared→Prop}(hs:s.heap.IsSliceOf sl c d .none)(pl:IsPart c lo)(pu:IsPart d hi)
  (h:Q (((B4 n 0 lo:Nat):Int),1,B4 n n hi-B4 n 0 lo) s):wpAny (model prog w) A (iw (.ref sl) (pure (n:Int))) Q E s:=by
 obtain⟨os,a,e,b⟩:=id hs;unfold iw Kh;refine g8 (g8 (u5 a b (x:=c) rfl (g8 (u5 a b (x:=d) rfl (g8 (u5 a b (x:=.none) rfl (j5 ?_)))))));refine g8 (Mo ?_);show wpAny _ _ (if((1:Int)==0)=f8 then _ else _) _ _ s;rw[if_neg (by decide)];refine g8 (kC pl (g8 (kC pu (g8 (j5 ?_)))));show wpAny _ _ (match Z5 lo hi 1 (n:Int)with| (lo,hi)=>pure (lo,(1:Int),N4 lo hi 1)) _ _ s;rw[ud lo hi n];show wpAny _ _ (pure (((B4 n 0 lo:Nat):Int),(1:Int),N4 ((B4 n 0 lo:Nat):Int) ((B4 n n hi:Nat):Int) 1)) _ _ s;rw[sD];exact j5 h
theorem yP (xs:Array Value)(i k:Nat):((List.range k).filterMap λ(m:Nat)=>xs[((i:Int)+(m:Int)*1).toNat]?).toArray=((xs.toList.drop i).take k).toArray:=by
 have e:(λ(m:Nat)=>xs[((i:Int)+(m:Int)*1).toNat]?)=λm=>xs[i+m]?:=by
  funext m;have:((i:Int)+(m:Int)*1).toNat=i+m:=by omega
  rw[this]
 rw[e];have:=pick_run xs i k;rw[List.filterMap_map]at this;have a:((λx=>xs[x]?)∘λx=>i+x)=λm=>xs[i+m]?:=rfl;rw[a]at this;rw[this]
theorem hR {t sl:Addr}{a:Array Value}{i j:Value}{lo hi:Option Int}{Q:Value→Shared→Prop}(c:EA s.heap t a)(hs:s.heap.IsSliceOf sl i j .none)(pl:IsPart i lo)(pu:IsPart j hi)
  (k:¬(B4 a.size 0 lo=0∧B4 a.size a.size hi=a.size))
  (h:Q (.ref s.heap.objs.size) {s with heap:=s.heap.push {cls:=.type "tuple",data:=.seq ((a.toList.drop (B4 a.size 0 lo)).take (B4 a.size a.size hi-B4 a.size 0 lo)).toArray}})
  (l:a.size≤sizeLine):wpAny (model prog w) A (gq (.ref t) (.ref sl)) Q E s:=by
 have b:sizeOk (.seq ((a.toList.drop (B4 a.size 0 lo)).take (B4 a.size a.size hi-B4 a.size 0 lo)).toArray):=by
  show((a.toList.drop (B4 a.size 0 lo)).take (B4 a.size a.size hi-B4 a.size 0 lo)).toArray.size≤sizeLine;rw[List.size_toArray,List.length_take,List.length_drop,J1];omega
 have o:B4 a.size a.size hi≤a.size:=yv _ _ (Nat.le_refl _) hi;obtain⟨os,d,e,n⟩:=id hs;have f:s.TypeIs (.ref sl) "slice":=⟨os,d,e⟩
 unfold gq;try with_reducible refine w6 ?_
 first|refine g8 (j5 ?_) |skip
 refine g8 (Jr c.typeIs (by decide) ?_);refine g8 (Y4 (name:=Str.ofString "__getitem__") c.typeIs u3
  (aU u3 c.typeIs entry_tuple_getitem ?_ (args_tuple_getitem _ _)))
 show wpAny _ _ (iv (.ref t) >>= _) _ _ s;refine g8 (tupleItemsOf_ c ?_);refine g8 (T1 f ?_);rw[if_pos (by decide)];refine g8 (ca hs pl pu ?_);have g:¬((((B4 a.size 0 lo:Nat):Int)==0&&(1:Int)==1&&(B4 a.size a.size hi-B4 a.size 0 lo)==a.size)=f8):=by
  intro q;rw[k9,k9]at q;have p:((B4 a.size 0 lo:Nat):Int)=0:=eq_of_beq q.1.1;have r:B4 a.size a.size hi-B4 a.size 0 lo=a.size:=eq_of_beq q.2;exact k ⟨by omega,by omega⟩
 show wpAny _ _ (if(((B4 a.size 0 lo:Nat):Int)==0&&(1:Int)==1&&(B4 a.size a.size hi-B4 a.size 0 lo)==a.size)=f8 then _ else _) _ _ s;rw[if_neg g,yP];first
  |exact g8 (m:=y8 _) (D3 (j5 ⟨_,rfl,j5 h⟩) b)
  |exact g8 (m:=y8 _) (D3 (g8 (j5 (j5 ⟨_,rfl,j5 h⟩))) b)
  |exact g8 (g8 (m:=y8 _) (D3 (j5 (j5 ⟨_,rfl,j5 h⟩)) b))
  |exact g8 (g8 (m:=y8 _) (D3 (j5 ⟨_,rfl,j5 h⟩) b))
end
end HT
namespace L2
open PySem PySem.Spec PyProof.Rows
noncomputable abbrev TO:=St→Hp→(Option Int→Hp→Prop)→Prop
def PO (X:Cx)(e:Option Expr)(t:TO):Prop:=
 ∀(pins:List (Addr×Obj)) (s:Shared) (σ:St) (H:Hp) (Q:Option Int→Hp→Prop),Inv X pins σ H s→t σ H Q→
  wpAny (model X.prog X.w) X.A (evalPart e X.env) (λu a=>∃o H',Inv X pins σ H' a∧IsPart u o∧Q o H') X.xe s
noncomputable def BH:TO:=λ_ H Q=>Q f7 H
noncomputable def HJ (t:TE):TO:=λσ H Q=>t σ H λx a=>∃i,x=.int i∧Q (e9 i) a
theorem intsAre_of {ns:List Int}:∀{us:List Value},Vals (ns.map V.int) us→IntsAre us ns:=by
 induction ns with
 |nil=>intro us r;rw[List.map_nil]at r;cases r;exact .nil
 |cons n ns ih=>
  intro us r;rw[List.map_cons]at r;cases r with
  |cons a b=>
   obtain⟨t,e⟩:=a;subst e;exact .cons n t (ih b)
section
variable {X:Cx}{e:Expr}{te:TE}{lo hi:Option Expr}{tl th:TO}{pos p2:Pos}
theorem Cg:PO X f7 BH:=by
 intro pins s σ H Q I h;rw[MX];exact j5 ⟨f7,H,I,.none,h⟩
theorem Cf (h:PE X e te):PO X (e9 e) (HJ te):=by
 intro pins s σ H Q I a;rw[evalPart_some];refine F3 (h pins s σ H _ I a) λu s1 ⟨x,b,c,d,f⟩=>?_;obtain⟨i,rfl,q⟩:=f;obtain⟨t,rfl⟩:=d;exact⟨e9 i,b,c,.int i t,q⟩
def AU (X:Cx)(r:V→Option Int→Option Int→Hp→VK→Prop):Prop:=
 ∀(pins:List (Addr×Obj)) (s:Shared) (σ:St) (H:Hp) (x:V) (v a b:Value) (lo hi:Option Int) (sl:Addr) (Q:VK),Inv X pins σ H s→RelV x v→s.heap.IsSliceOf sl a b .none→IsPart a lo→IsPart b hi→r x lo hi H Q→
  ∃T id,aV (.type T) "__getitem__"=pure (e9 (.builtin id))∧s.TypeIs v T∧wpAny (model X.prog X.w) X.A (gq v (.ref sl)) (EP X pins σ Q) X.xe s
theorem AU.or(h:AU X r)(h':AU X a):AU X (λx lo hi H Q=>r x lo hi H Q∨a x lo hi H Q):=by
 intro pins s σ H x v b c lo hi sl Q I d hs pl pu q;rcases q with q|q
 ·exact h pins s σ H x v b c lo hi sl Q I d hs pl pu q
 ·exact h' pins s σ H x v b c lo hi sl Q I d hs pl pu q
noncomputable def MC (r:V→Option Int→Option Int→Hp→VK→Prop)(te:TE)(tl th:TO):TE:=λσ H Q=>te σ H λx a=>tl σ a λl b=>th σ b λu c=>r x l u c Q
theorem yQ(hr:AU X r)(g:PE X e te)(hl:PO X lo tl)(i:PO X hi th):PE X (.Subscript e (.Slice lo hi f7 p2) pos) (MC r te tl th):=by
 intro pins s σ H Q I h;refine Subscript_ (F3 (g pins s σ H _ I h) λv s1 ⟨x,j,k,m,n⟩=>?_);refine wpAny_Slice (F3 (hl pins s1 σ j _ k n) λc s2 ⟨l,o,p,pl,t⟩=>F3 (i pins s2 σ o _ p t) λd a ⟨u,f,y,pu,z⟩=>?_);rw[MX];refine j5 ?_;have B:Inv X pins σ f {a with heap:=a.heap.push {cls:=.type "slice",data:=.fields #[c,d,.none]}}:=y.kept (t':=a.toks) λb ob q=>Heap.get?_push_of_some _ q;obtain⟨T,id,E,F,G⟩:=hr pins {a with heap:=a.heap.push {cls:=.type "slice",data:=.fields #[c,d,.none]}} σ f x v c d l u a.heap.objs.size Q B m (Heap.IsSliceOf.new ..) pl pu z;show wpAny (model X.prog X.w) X.A (MU e (.Slice lo hi f7 p2) v (.ref a.heap.objs.size)) (EP X pins σ Q) X.xe {a with heap:=a.heap.push {cls:=.type "slice",data:=.fields #[c,d,.none]}};exact Mn (ops:=[.ref a.heap.objs.size,v]) F E G (by with_unfolding_all rfl)
noncomputable def mH (xs:List V)(lo hi:Option Int):List V:=(xs.drop (HT.B4 xs.length 0 lo)).take (HT.B4 xs.length xs.length hi-HT.B4 xs.length 0 lo)
theorem ju (xs:List V)(lo hi:Option Int):(mH xs lo hi).length≤xs.length:=by
 unfold mH;rw[List.length_take,List.length_drop];omega
noncomputable def Ic (K:PySem.W.Frag):V→Option Int→Option Int→Hp→VK→Prop:=λx lo hi H Q=>∃a xs,x=.ref a∧bz K H a xs∧
 ¬(HT.B4 xs.length 0 lo=0∧HT.B4 xs.length xs.length hi=xs.length)∧∀p,H p=f7→Q (.ref p) (upd H p (.tup (mH xs lo hi)))
theorem EW:AU X (Ic X.K):=by
 intro pins s σ H x v k l lo hi sl Q I g hs pl pu h;obtain⟨a,xs,rfl,i,j,q⟩:=h;cases g;obtain⟨d,r,e,f⟩:=I.tuple i;have c:d.toArray.size=xs.length:=by rw[List.size_toArray];exact r.length.symm
 refine⟨"tuple",_,u3.lookup,e.typeIs,?_⟩;refine HT.hR e hs pl pu (by rw[c];exact j) ?_ (by rw[c];exact f);rw[c];refine⟨.ref s.heap.objs.size,_,I.laid (t':=s.toks) (o:=.tup (mH xs lo hi)) (λb ob q=>Heap.get?_push_of_some _ q) (Nat.le_refl _) ?_,rfl,q _ (I.hok.fresh (Nat.le_refl _))⟩;exact⟨Nat.le_trans (ju xs lo hi) f,_,(r.drop (HT.B4 xs.length 0 lo)).take (HT.B4 xs.length xs.length hi-HT.B4 xs.length 0 lo),Bx _ _⟩
end
noncomputable def wU (n:Nat)(i:Int):Option Nat:=if 0≤i then(if i<n then e9 i.toNat else f7)else if -(n:Int)≤i then e9 (i+n).toNat else f7
noncomputable def fA {α:Type}(xs:List α)(i:Int):Option α:=(wU xs.length i).bind λj=>xs[j]?
theorem uY(h:wU n i=e9 j):seqIndex? i n=e9 j∧j<n∧-(n:Int)≤i∧i<n:=by
 unfold wU at h;by_cases b:0≤i
 ·rw[if_pos b]at h;by_cases a:i<n
  ·rw[if_pos a]at h;have e:i.toNat=j:=j7 h;exact⟨by rw[Ev b a,e],by omega,by omega,a⟩
  ·rw[if_neg a]at h;cases h
 ·rw[if_neg b]at h;by_cases a:-(n:Int)≤i
  ·rw[if_pos a]at h;have e:(i+n).toNat=j:=j7 h;exact⟨by rw[Bt (by omega) a,e],by omega,a,by omega⟩
  ·rw[if_neg a]at h;cases h
theorem pM {α:Type}{xs:List α}{i:Int}{v:α}(h:fA xs i=e9 v):∃j,seqIndex? i xs.length=e9 j∧xs[j]?=e9 v∧j<xs.length∧-(xs.length:Int)≤i∧i<xs.length:=by
 unfold fA at h;cases e:wU xs.length i with
 |none=>rw[e]at h;cases h
 |some j=>
  rw[e]at h;obtain⟨a,b,c,d⟩:=uY e;exact⟨j,a,h,b,c,d⟩
theorem ic {α:Type}{xs:List α}{j:Nat}{v:α}(h:xs[j]?=e9 v):fA xs (j:Int)=e9 v:=by
 have a:j<xs.length:=(List.getElem?_eq_some_iff.mp h).1;have e:wU xs.length (j:Int)=e9 j:=by
  unfold wU;rw[if_pos (by omega),if_pos (by omega)];simp
 unfold fA;rw[e];exact h
theorem rH {α:Type}(xs:List α)(v:α):fA (xs++[v]) (-1)=e9 v:=by
 have hl:(xs++[v]).length=xs.length+1:=by simp
 have e:wU (xs++[v]).length (-1)=e9 xs.length:=by
  unfold wU;rw[hl,if_neg (by decide),if_pos (by omega)];congr 1;omega
 unfold fA;rw[e];show(xs++[v])[xs.length]?=e9 v;simp
def pT (b:Expr):Prop:=∀o i,subscripted b f6 o i=operate [o,i] (gq o i)
def AW (X:Cx)(r:R2):Prop:=
 ∀(b a:Expr) (pins:List (Addr×Obj)) (s:Shared) (σ:St) (H:Hp) (x y:V) (v u:Value) (Q:VK),Inv X pins σ H s→RelV x v→RelV y u→r x y H Q→
  subscripted a f6 v u=operate [v,u] (gq v u)→wpAny (model X.prog X.w) X.A (MU b a v u) (EP X pins σ Q) X.xe s
def Lj (X:Cx)(id:String)(r:V→List V→Hp→VK→Prop):Prop:=
 ∀(pins:List (Addr×Obj)) (s:Shared) (σ:St) (H:Hp) (x:V) (xs:List V) (v:Value) (us:List Value) (Q:VK),Inv X pins σ H s→RelV x v→Vals xs us→r x xs H Q→
  wpAny (model X.prog X.w) X.A (call (.builtin id) (v::us)) (EP X pins σ Q) X.xe s
section
variable {X:Cx}{a b:Expr}{ta tb:TE}{pos:Pos}
theorem AW.or(h:AW X r)(h':AW X c):AW X (λx y H Q=>r x y H Q∨c x y H Q):=by
 intro a b pins s σ H x y v u Q I d e q hs;rcases q with q|q
 ·exact h a b pins s σ H x y v u Q I d e q hs
 ·exact h' a b pins s σ H x y v u Q I d e q hs
theorem Eb(hr:AW X r)(c:PE X a ta)(d:PE X b tb)(hs:pT b):PE X (.Subscript a b pos) (HL r ta tb):=by
 intro pins s σ H Q I h;exact Subscript_ (GN c d I h λv u s2 x y e f g i q=>hr a b pins s2 σ e x y v u Q f g i q (hs _ _))
noncomputable def Ff (K:PySem.W.Frag):R2:=λx y H Q=>∃p xs i v,x=.ref p∧y=.int i∧P7 K H p xs∧fA xs i=e9 v∧Q v H
noncomputable def Fe (K:PySem.W.Frag):R2:=λx y H Q=>∃p xs i v,x=.ref p∧y=.int i∧bz K H p xs∧fA xs i=e9 v∧Q v H
noncomputable def Ih:R2:=λx y H Q=>∃z i c,x=.str z∧y=.int i∧z.length≤sizeLine∧fA z.cps.toList i=e9 c∧Q (.str ⟨#[c]⟩) H
theorem CQ:AW X (Ff X.K):=by
 intro b c pins s σ H x y v u Q I l m h hs;obtain⟨p,xs,i,z,rfl,rfl,n,o,q⟩:=h;cases l;obtain⟨t,rfl⟩:=m;obtain⟨d,r,pl,G⟩:=I.list n;obtain⟨j,a,A,J,B,E⟩:=pM o;obtain⟨w,g,e⟩:=r.get A;have hl:=r.length;have L:=fX;have fin:EP X pins σ Q w s:=⟨z,H,I,e,q⟩
 by_cases k:0≤i
 ·have f:i.toNat=j:=by
   rw[Ev k E]at a;exact j7 a
  exact item_listR pl.isList k (by omega) (by rw[f];simpa using g) fin hs
 ·have f:(i+(d.toArray.size:Int)).toNat=j:=by
   rw[Bt (by omega) B]at a;rw[List.size_toArray,←hl];exact j7 a
  exact Bp (x:=w) pl.isList.typeIs Ju.lookup
   (wpAny_getItem_list_neg (Q:=λr F=>r=w∧EP X pins σ Q r F) pl.isList (by omega) (by rw[List.size_toArray]<;>omega) (by omega) (by rw[f];simpa using g) ⟨rfl,fin⟩) hs
theorem Gg:AW X (Fe X.K):=by
 intro a b pins s σ H x y v u Q I d e h hs;obtain⟨p,xs,i,z,rfl,rfl,f,g,q⟩:=h;cases d;obtain⟨t,rfl⟩:=e;obtain⟨k,r,pl,A⟩:=I.tuple f;obtain⟨j,l,m,B,E,F⟩:=pM g;obtain⟨w,n,c⟩:=r.get m;have hl:=r.length;have G:=fX;have fin:EP X pins σ Q w s:=⟨z,H,I,c,q⟩
 exact Bp (x:=w) pl.typeIs slot_tuple_getitem.lookup
  (getItem_tuple (j:=j) (Q:=λr o=>r=w∧EP X pins σ Q r o) pl (by omega) (by omega) (by rw[List.size_toArray,←hl];exact l) (by simpa using n) ⟨rfl,fin⟩) hs
theorem zy:AW X Ih:=by
 intro a b pins s σ H x y v u Q I e f h hs;obtain⟨z,i,c,rfl,rfl,p,g,q⟩:=h;obtain⟨t,rfl⟩:=e;obtain⟨r,rfl⟩:=f;obtain⟨j,d,k,w,l,m⟩:=pM g;have hl:z.cps.toList.length=z.length:=by simp[Str.length]
 rw[hl]at d l m;have A:=fX;exact Mn (Hs s z t) slot_str_getitem.lookup (getItem_str (c:=c) (by
  have n:decide (i < -(2 ^ 63:Int))=f6:=decide_eq_false (by omega);have o:decide (i≥2 ^ 63)=f6:=decide_eq_false (by omega);rw[n,o,rW]) (by rw[d];simpa using k) ⟨.str ⟨#[c]⟩,H,I.tok _,⟨_,rfl⟩,q⟩) hs
theorem sT (a:List Value)(n j:Nat)(u:Value):Obj.mapSeq (·.setIfInBounds j u) {cls:=.type "list",data:=.seq a.toArray n}={cls:=.type "list",data:=.seq (a.set j u).toArray n}:=by
 simp[Obj.mapSeq]
theorem Inv.lst {pins:List (Addr×Obj)}{σ:St}{H:Hp}{s:Shared}{p:Addr}{xs:List V}(I:Inv X pins σ H s)(h:H p=e9 (.lst xs)):
  ∃(a:List Value) (n:Nat),Vals xs a∧s.heap.get? p=e9 {cls:=.type "list",data:=.seq a.toArray n}∧xs.length≤sizeLine:=by
 obtain⟨z,a,n,r,e⟩:=I.hok p _ h;exact⟨a,n,r,e,z⟩
theorem Inv.FW{c a:List Value}(I:Inv X pins σ H s)(h:H p=e9 (.lst xs))
  (j:s.heap.get? p=e9 {cls:=.type "list",data:=.seq c.toArray n}) (i:f {cls:=.type "list",data:=.seq c.toArray n}={cls:=.type "list",data:=.seq a.toArray g}) (r:Vals d a) (k:d.length≤sizeLine) (t:Nat):
  Inv X pins σ (upd H p (.lst d)) {s with heap:=s.heap.update p f,toks:=t}:=by
 have e:(s.heap.update p f).get? p=e9 {cls:=.type "list",data:=.seq a.toArray g}:=by
  rw[Heap.get?_update_self f j (by rw[i]<;>rfl),i]
 refine I.write (x:=p) (e:=p) (by rw[h];trivial) (.inl rfl) (λb u l q=>(Heap.get?_update_other _ _ (x8 l)).trans q) ⟨_,e⟩ ?_;exact⟨k,a,g,r,e⟩
noncomputable def Ig:V→V→V→Hp→(Hp→Prop)→Prop:=λo i v H Q=>∃p xs k j,o=.ref p∧i=.int k∧H p=e9 (.lst xs)∧wU xs.length k=e9 j∧Q (upd H p (.lst (xs.set j v)))
theorem set_list:uf X Ig:=by
 intro pins s σ H o i v A B u Q I m w x h;obtain⟨p,xs,k,j,rfl,rfl,d,y,q⟩:=h;cases m;obtain⟨t,rfl⟩:=w;obtain⟨a,n,r,c,z⟩:=I.lst d;obtain⟨b,E,e,f⟩:=uY y;have hl:=r.length;have F:=fX;have g:Inv X pins σ (upd H p (.lst (xs.set j v))) {s with heap:=s.heap.update p (Obj.mapSeq (·.setIfInBounds j u))}:=
  I.FW d c (sT a n j u) (r.set x j) (by rw[List.length_set];exact z) s.toks
 by_cases l:0≤k
 ·have hk:k.toNat=j:=by
   rw[Ev l f]at b;exact j7 b
  exact PySem.W.ki_setAt c l (by omega) (by rw[List.size_toArray,←hl];exact f) (by rw[hk];exact⟨_,g,q⟩)
 ·have hk:(k+(a.toArray.size:Int)).toNat=j:=by
   rw[Bt (by omega) e]at b;rw[List.size_toArray,←hl];exact j7 b
  exact PySem.W.ki_setBack c (by omega) (by rw[List.size_toArray,←hl];exact e) (by omega) (by rw[hk];exact⟨_,g,q⟩)
theorem oz (lo hi:Option Int)(n:Nat):(bA lo hi f7 n).1=((HT.B4 n 0 lo:Nat):Int)∧(bA lo hi f7 n).2.1=((HT.B4 n n hi:Nat):Int)∧(bA lo hi f7 n).2.2=1:=by
 refine⟨?_,?_,rfl⟩
 ·cases lo with
  |none=>simp[bA,HT.B4]
  |some i=>
   simp only[bA,HT.B4,Bg,show(1:Int)>0 by decide,if_true];by_cases h:i<0
   ·simp only[h,if_true]<;>omega
   ·simp only[h,if_false]<;>omega
 ·cases hi with
  |none=>simp[bA,HT.B4]
  |some i=>
   simp only[bA,HT.B4,Bg,show(1:Int)>0 by decide,if_true];by_cases h:i<0
   ·simp only[h,if_true]<;>omega
   ·simp only[h,if_false]<;>omega
theorem mx (a:List Value)(lo hi:Option Int):slicePick a.toArray lo hi f7=((a.drop (HT.B4 a.length 0 lo)).take (HT.B4 a.length a.length hi-HT.B4 a.length 0 lo)).toArray:=by
 obtain⟨b,c,d⟩:=oz lo hi a.toArray.size;unfold slicePick;rw[b,c,d];simp only[sliceRange_one,pick_run,List.size_toArray]<;>rfl
noncomputable def Ie (K:PySem.W.Frag):V→Option Int→Option Int→Hp→VK→Prop:=λx lo hi H Q=>∃a xs,x=.ref a∧P7 K H a xs∧∀p,H p=f7→Q (.ref p) (upd H p (.lst (mH xs lo hi)))
theorem BL:AU X (Ie X.K):=by
 intro pins s σ H x v j k lo hi sl Q I e hs pl pu h;obtain⟨a,xs,rfl,f,q⟩:=h;cases e;obtain⟨g,r,d,i⟩:=I.list f;have c:=r.length;refine⟨"list",_,Ju.lookup,d.isList.typeIs,?_⟩;refine wpAny_getItem_list_slice d.isList hs pl pu .none (by simp) ?_ (by rw[List.size_toArray]<;>omega);rw[mx,←c];refine⟨.ref s.heap.objs.size,_,I.laid (t':=s.toks) (o:=.lst (mH xs lo hi)) (λb ob q=>Heap.get?_push_of_some _ q) (Nat.le_refl _) ?_,rfl,q _ (I.hok.fresh (Nat.le_refl _))⟩;exact⟨Nat.le_trans (ju xs lo hi) i,_,0,(r.drop (HT.B4 xs.length 0 lo)).take (HT.B4 xs.length xs.length hi-HT.B4 xs.length 0 lo),Heap.get?_push_size _ rfl⟩
theorem oQ:fC X (v9 .NotIn) (λx y H Q=>∃i j,x=.str i∧y=.str j∧Q (.bl (!(!(A7 j i 0 j.length 1).isEmpty))) H):=by
 intro pins s σ H x y v u Q I a b h;obtain⟨i,j,rfl,rfl,q⟩:=h;obtain⟨t,rfl⟩:=a;obtain⟨c,rfl⟩:=b;exact notIn_str ⟨.bl _,H,I,rfl,q⟩
theorem pK:J3 X (.builtin "len") (λxs H Q=>∃p b,xs=[.ref p]∧(P7 X.K H p b∨bz X.K H p b)∧Q (.int b.length) H):=by
 intro pins s σ H xs us Q I r h;obtain⟨p,b,rfl,c,q⟩:=h;obtain⟨u,rfl,f⟩:=vals1 r;cases f;have i:=fX;rcases c with c|c
 ·obtain⟨d,e,pl,g⟩:=I.list c;have a:=e.length;exact Calls.call_len_list pl.isList (by simp only[List.size_toArray]<;>omega) ⟨.int b.length,H,I.tok _,⟨s.toks+1,by rw[List.size_toArray,a]⟩,q⟩
 ·obtain⟨d,e,pl,g⟩:=I.tuple c;have a:=e.length;exact len_tuple pl (by simp only[List.size_toArray]<;>omega) ⟨.int b.length,H,I.tok _,⟨s.toks+1,by rw[List.size_toArray,a]⟩,q⟩
theorem pJ:J3 X (.builtin "len") (λxs H Q=>∃z,xs=[.str z]∧z.length≤sizeLine∧Q (.int z.length) H):=by
 intro pins s σ H xs us Q I r h;obtain⟨z,rfl,a,q⟩:=h;obtain⟨u,rfl,t,rfl⟩:=vals1 r;have b:=fX;exact len_str (by omega) ⟨.int z.length,H,I.tok _,⟨_,rfl⟩,q⟩
theorem J3.or {f:Value}{r a:List V→Hp→VK→Prop}(h:J3 X f r)(h':J3 X f a):J3 X f (λxs H Q=>r xs H Q∨a xs H Q):=by
 intro pins s σ H xs us Q I rs q;rcases q with q|q
 ·exact h pins s σ H xs us Q I rs q
 ·exact h' pins s σ H xs us Q I rs q
theorem pI:J3 X (.type "list") (λxs H Q=>∃p c,xs=[.ref p]∧(P7 X.K H p c∨bz X.K H p c)∧∀l,H l=f7→Q (.ref l) (upd H l (.lst c))):=by
 intro pins s σ H xs us Q I r h;obtain⟨p,c,rfl,g,q⟩:=h;obtain⟨u,rfl,t⟩:=vals1 r;cases t;have fin:∀(a:List Value),Vals c a→c.length≤sizeLine→∀(h':Heap) (d:Nat),(∀b o',s.heap.get? b=e9 o'→h'.get? b=e9 o')→
   h'.get? s.heap.objs.size=e9 {cls:=.type "list",dict:=f7,data:=.seq a.toArray d,slots:=#[]}→EP X pins σ Q (.ref s.heap.objs.size) {s with heap:=h'}:=λa f i h' d kp e=>
  ⟨.ref s.heap.objs.size,_,I.laid (t':=s.toks) kp (Nat.le_refl _) (show I7 X.prog X.w _ h' _ (.lst c)from⟨i,a,d,f,e⟩),rfl,q _ (I.hok.fresh (Nat.le_refl _))⟩
 rcases g with g|g
 ·obtain⟨a,f,pl,i⟩:=I.list g;have j:=f.length;obtain⟨o,k,m,n,hd⟩:=pl.isList;exact MZ p (.inl rfl) k m hd (λh' d kp e=>fin a f i h' d kp e) (by simp only[List.size_toArray]<;>omega)
 ·obtain⟨a,f,pl,i⟩:=I.tuple g;have j:=f.length;obtain⟨o,k,m,n,hd⟩:=pl;exact MZ p (.inr rfl) k m hd (λh' d kp e=>fin a f i h' d kp e) (by simp only[List.size_toArray]<;>omega)
theorem mI:J3 X (.type "tuple") (λxs H Q=>∃p c,xs=[.ref p]∧((P7 X.K H p c∧∀l,H l=f7→Q (.ref l) (upd H l (.tup c)))∨(bz X.K H p c∧Q (.ref p) H))):=by
 intro pins s σ H xs us Q I r h;obtain⟨p,c,rfl,h⟩:=h;obtain⟨u,rfl,k⟩:=vals1 r;cases k;rcases h with⟨d,q⟩ | ⟨d,q⟩
 ·obtain⟨a,f,pl,g⟩:=I.list d;have i:=f.length;refine call_tuple_list pl.isList (λh' kp=>?_) (by simp only[List.size_toArray]<;>omega);have j:Inv X pins σ H {s with heap:=h'}:=I.kept (t':=s.toks) kp;have m:Inv X pins σ (upd H h'.objs.size (.tup c)) {s with heap:=h'.push {cls:=.type "tuple",data:=.seq a.toArray}}:=
   j.laid (t':=s.toks) (λb o e=>Heap.get?_push_of_some _ e) (Nat.le_refl _) (show I7 X.prog X.w _ _ _ (.tup c)from⟨g,a,f,Bx _ _⟩)
  exact⟨.ref h'.objs.size,_,m,rfl,q _ (j.hok.fresh (Nat.le_refl _))⟩
 ·obtain⟨a,f,pl,g⟩:=I.tuple d;exact call_tuple_same pl ⟨.ref p,H,I,rfl,q⟩
def Hd (K:PySem.W.Frag)(T:String)(x:V)(H:Hp):Prop:=match x with
 |.str _=>T="str"
 |.int _=>T="int"
 |.ref p=>(T="list"∧∃xs,P7 K H p xs)∨(T="tuple"∧∃o,K.lookup p=e9 o∧o.cls=.type "tuple"∧o.dict=f7)∨
   (T="dict"∧((∃kvs,H p=e9 (.dK kvs))∨∃kvs,H p=e9 (.dT kvs)))∨(T="set"∧∃S n,H p=e9 (.set S n))
 |_=>False
theorem EE(I:Inv X pins σ H s)(r:RelV x v)(ty:Hd X.K T x H):
  s.TypeIs v T∧∀a,v=.ref a→∃ob,s.heap.get? a=e9 ob∧ob.dict=f7:=by
 cases x with
 |str z=>
  obtain⟨t,rfl⟩:=r;cases(show T="str" from ty);exact⟨Hs s z t,λ_ e=>nomatch e⟩
 |int i=>
  obtain⟨t,rfl⟩:=r;cases(show T="int" from ty);exact⟨typeIs_int s i t,λ_ e=>nomatch e⟩
 |ref p=>
  cases r;rcases ty with⟨rfl,xs,d⟩ | ⟨rfl,o,hk,f,hd⟩ | ⟨rfl,hk⟩ | ⟨rfl,S,n,hk⟩
  ·obtain⟨g,_,pl,_⟩:=I.list d;refine⟨pl.isList.typeIs,λa e=>?_⟩;cases e;obtain⟨o,n,e,c,hd,_⟩:=pl;exact⟨o,e,hd⟩
  ·refine⟨⟨o,I.nv p o hk,f⟩,λa e=>?_⟩;cases e;exact⟨o,I.nv _ o hk,hd⟩
  ·have z:∃o,s.heap.get? p=e9 o∧o.ExactDict:=by
    rcases hk with⟨kvs,hk⟩ | ⟨kvs,hk⟩
    ·obtain⟨_,_,_,_,o,_,_,e,ex,_⟩:=I.hok p _ hk;exact⟨o,e,ex⟩
    ·obtain⟨_,_,_,_,o,_,_,e,ex,_⟩:=I.hok p _ hk;exact⟨o,e,ex⟩
   obtain⟨o,e,ex⟩:=z;refine⟨⟨o,e,ex.1⟩,λa b=>?_⟩;cases b;exact⟨o,e,ex.2.1⟩
  ·obtain⟨o,_,_,_,e,ex,_⟩:=I.hok p _ hk;refine⟨⟨o,e,ex.1⟩,λa b=>?_⟩;cases b;exact⟨o,e,ex.2.1⟩
 |_=>exact D9 ty
noncomputable def ME (K:PySem.W.Frag)(T:String)(r:V→List V→Hp→VK→Prop)(to:TE)(t:TA):TE:=λσ H Q=>to σ H λx a=>Hd K T x a∧t σ a λxs b=>r x xs b Q
variable {o e:Expr}{es:List Expr}{to:TE}{t:TA}{name:Str}{apos cpos:Pos}{T id:String}{r:V→List V→Hp→VK→Prop}
theorem uE (k:PlainAttrs T)(slot:Slot T name id)(f:typeOf (.builtin id)=pure (.type "method_descriptor")) (l:Lj X id r) (m:PE X o to) (n:PA X (e::es) t)
  (b:x0 o name X.env (eval o X.env)=eval o X.env:=by rfl)
  (d:((m4 cpos (h8 (e::es) X.env)).all (λx=>!x.1)&&(y4 cpos (o1 [] X.env)).all (λx=>x.1.isSome)
   && decide ((e::es).length+([]:List Keyword).length+(if([]:List Keyword).isEmpty then 0 else 1)<30))=f8:=by rfl)
  (c:(apos.endLine==cpos.line)=f8:=by rfl) (hs:h8 (e::es) X.env=(f6,eval e X.env)::h8 es X.env:=by rfl) (a:(m4 cpos (h8 es X.env)).any (·.1)=f6:=by rfl):
  PE X (.Call (.Attribute o name apos) (e::es) [] cpos) (ME X.K T r to t):=by
 intro pins s σ H Q I h;refine wpAny_Call_method_late b d c rfl (F3 (m pins s σ H _ I h) λv s1 ⟨x,p,g,i,ty,q⟩=>?_);obtain⟨u,w⟩:=EE g i ty;refine⟨T,id,k,slot,f,u,w,?_⟩;have j:=n cpos pins s1 σ p _ g q;rw[hs]at j⊢;refine dV (by show(f6||(m4 cpos (h8 es X.env)).any (·.1))=f6;rw[a]<;>rfl) (fQ ?_);exact F3 j λus s2 ⟨vs,y,z,A,B⟩=>l pins s2 σ y x vs v us Q z i A B
end
def Lk (X:Cx)(id:String)(r:V→List V→Hp→VK→Prop):Prop:=
 ∀(pins:List (Addr×Obj)) (s:Shared) (σ:St) (H:Hp) (x:V) (xs:List V) (v:Value) (us:List Value) (Q:VK),Inv X pins σ H s→RelV x v→Vals xs us→r x xs H Q→
  wpAny (model X.prog X.w) X.A (call (.builtin id) (v::us)) (EP X pins σ Q) X.xe s
theorem Vals.one:∀{x:V} {us:List Value},Vals [x] us→∃u,us=[u]∧RelV x u
 |_,_,.cons r .nil=>⟨_,rfl,r⟩
section
variable {X:Cx}{pins:List (Addr×Obj)}{σ:St}{H:Hp}{s:Shared}{l b:Addr}{xs ys zs:List V}
theorem Inv.II {a Ba:List Value}(I:Inv X pins σ H s)(c:H l=e9 (.lst xs))
  (e:s.heap.get? l=e9 {cls:=.type "list",data:=.seq a.toArray n}) (d:f a.toArray=Ba.toArray) (g:Vals ys Ba) (h:ys.length≤sizeLine):
  Inv X pins σ (upd H l (.lst ys)) {s with heap:=s.heap.update l (Obj.mapSeq f),toks:=b}:=by
 have q:=PySem.IsL.update e f;rw[d]at q;refine I.write (x:=l) (e:=l) (by rw[c];exact trivial) (.inl rfl) (λk u i j=>(Heap.get?_update_other s.heap (Obj.mapSeq f) (x8 i)).trans j) ⟨_,q⟩ ?_;exact⟨h,Ba,_,g,q⟩
theorem Inv.KI(I:Inv X pins σ H s)(b:Vals ys a)(c:ys.length≤sizeLine):
  Inv X pins σ (upd H s.heap.objs.size (.lst ys)) {s with heap:=s.heap.push {cls:=.type "list",data:=.seq a.toArray},toks:=t'}:=
 I.laid (λ_ _ q=>Heap.get?_push_of_some _ q) (Nat.le_refl _) ⟨c,a,0,b,Heap.get?_push_size _ rfl⟩
theorem Inv.fresh (I:Inv X pins σ H s):H s.heap.objs.size=f7:=I.hok.fresh (Nat.le_refl _)
theorem Inv.IH (I:Inv X pins σ H s)(b:H l=e9 (.lst xs)):xs.length≤sizeLine∧∃(a:List Value) (n:Nat),Vals xs a∧xs.length=a.length∧s.heap.get? l=e9 {cls:=.type "list",data:=.seq a.toArray n}:=by
 obtain⟨z,a,n,r,e⟩:=I.hok l _ b;exact⟨z,a,n,r,r.length,e⟩
end
section
variable {X:Cx}
noncomputable def BX:V→List V→Hp→VK→Prop:=λx vs H Q=>∃l xs y,x=.ref l∧vs=[y]∧H l=e9 (.lst xs)∧xs.length<sizeLine∧Q .v1 (upd H l (.lst (xs++[y])))
theorem wM:Lk X "list.append" BX:=by
 intro pins s σ H x vs v us Q I c d h;obtain⟨l,xs,y,rfl,rfl,b,g,q⟩:=h;cases c;obtain⟨u,rfl,f⟩:=d.one;obtain⟨z,a,n,r,hl,e⟩:=I.IH b;refine vP F.slot_list_append ⟨_,e,rfl⟩ F.entry_list_append (F.args_list_append_2 _ _) (PySem.list_append l a.toArray n u (by rw[List.size_toArray];omega)) ⟨e,?_⟩;refine⟨.v1,_,I.II (Ba:=a++[u]) b e (by simp) (r.append (.cons f .nil)) ?_,rfl,q⟩;rw[List.length_append,List.length_singleton];omega
end
end L2
namespace Att
open PySem PySem.W PySem.Calls PyProof.Rows
theorem jK:∀(ns:List Int) (vs:List Value),WellAll P h vs (ns.map WData.int)→IntsAre vs ns:=by
 intro ns;induction ns with
 |nil=>
  intro vs w;rw[List.map_nil]at w;cases w;exact .nil
 |cons n ns ih=>
  intro vs w;rw[List.map_cons]at w;cases w with
  |cons a b=>
   cases a;exact .cons _ _ (ih _ b)
theorem wh {l:OpenLaw}(o:l.most=e9 n)
  (c:l.row.toRowW.claim.pre args=f8) (j:WellAll P h b args):
  ∃a vs ns,b=[Value.ref a]∧args=[WData.list (ns.map WData.int)]∧h.get? a=e9 {cls:=.type "list",data:=.seq vs.toArray}∧IntsAre vs ns∧ns.length≤n:=by
 have k:WShape.hasAll [] args [.list .int]=f8:=(pre_splitW c).1;have m:l.pre.holds [] {args:=args}=f8:=(pre_splitW c).2;obtain⟨d,r,rfl,p,s⟩:=hasAllW_cons k;obtain rfl:=hasAllW_nil s;obtain⟨xs,rfl,t⟩:=hasW_list p;obtain⟨ns,rfl⟩:=items_int t;have e:ns.length≤n:=by
  unfold OpenLaw.pre at m;have g:(WTm.not (.lt (.lit (.int (n:Int))) (.len (.arg 0)))).holds [] {args:=[.list (ns.map .int)]}=f8:=by
   have g:=(holds_andW m).1;rw[o]at g;exact g
  have i:=condW_of g (w_not (w_lt w_lit (w_len_list (w_arg rfl))));rw[List.length_map]at i;refine Nat.le_of_not_lt λq=>?_;have u:(n:Int)<((ns.length:Nat):Int):=by omega
  first
   | (rw[decide_eq_true u]at i;exact absurd i (by decide))
   | (simp at i;omega)
 cases j with
 |cons w1 v=>
  cases v;cases w1 with
  |list w f=>exact⟨_,_,ns,rfl,rfl,w,jK ns _ f,e⟩
theorem wt (l:OpenLaw)(args:List WData):l.row.toRowW.claim.post args (.bool f8) args=f8:=
 postW_of (r:=l.row.toRowW) (X:=(f8==f8))
  (show Jx [] (.bool f8) .bool=f8 by first|rfl|decide|simp[Jx,WShape.arms,WShape.armsAll])
  (show(WTm.eq .res (.lit (.bool f8))).value [] {args:=args,res:=e9 (.bool f8),after:=args}=e9 (.bool (f8==f8))from w_eq_bool (w_res rfl) w_lit) rfl
theorem rG {l:OpenLaw}{d:DefRec}
  (A:l.most=e9 n) (p:d.params.defaults=[])
  (call:∀(w:World) (s₀ b:Shared) (mg mb:Str→Option Value) (g:Addr) (o:Obj) (pm k doc:Value) (a:Addr) (vs:List Value) (ns:List Int),
   Ground q c [] XP w s₀ mg mb b.heap→v w b.heap→
   b.heap.get? g=e9 o→o.data=.func (docDef d.name d.params d.body d.scope pm k doc)→b.heap.CodeRec k d.name→mg d.name=e9 (.ref g)→
   b.heap.get? a=e9 {cls:=.type "list",data:=.seq vs.toArray}→IntsAre vs ns→ns.length≤n→b.gens=#[]→
   Z4 (model l.prog w) jN (.call (.ref g) ⟨[.ref a],[]⟩) (λr m=>r=.ok (.ret (.bool f8))∧OldK b.heap m.heap∧m.os=b.os∧gx m.gens) b):
  WalkO q c XP v l.row.toRowW d [] (λf vs=>PySem.call f vs):=by
 intro w s₀ b mg mb G Y g o pm k doc B kV E hd s x t F args y Q h z H u I;obtain rfl:B=.none:=Dflts.none x p;obtain rfl:kV=.none:=Dflts.noKw x;obtain⟨a,vs,ns,rfl,rfl,i,e,j⟩:=wh A h u;refine enter_call (Z3 (call w s₀ b mg mb g o pm k doc a vs ns G Y E (fd_plain hd) s t i e j F) λr m J=>?_);obtain⟨rfl,L,N,O⟩:=J;exact⟨.inl ⟨.bool f8,.bool f8,[],rfl,λ_=>rfl,.bool f8,wt l _,λ_=>⟨List.Pairwise.nil,λ_ P=>(nomatch P)⟩⟩,L,N,O⟩
end Att
namespace L2
open PySem PySem.Spec PyProof.Rows
theorem eN:∀{vs:List Value} {ns:List Int},IntsAre vs ns→Vals (ns.map V.int) vs
 |_,_,.nil=>.nil
 |_,_,.cons n t h=>.cons ⟨t,rfl⟩ (eN h)
def Jg (H:Hp):Prop:=∀b,H b=f7∨∃o xs,H b=e9 (.cH o (.lst xs))
theorem zv{K:PySem.W.Frag}{c:Shared}{vs:List Value}
  (T:K.In c.heap) (t:c.heap.Ns l6 mg) (g:c.heap.Ns Hu mb) (N:∀x:Str,x≠"__name__"→mb x=K4 x) (y:c.heap.NoLimit) (hg:c.gens=#[])
  (J:c.heap.get? a=e9 {cls:=.type "list",data:=.seq vs.toArray}) (hi:IntsAre vs ns) (hl:ns.length≤sizeLine) (hr:O8 k jN)
  (F:∀base:Heap,K.In base→base.Ns l6 mg→x5 P w K mg base CX k L fd [x] sp) (p:∀(s:Shared) (u:Value),uo s fd ⟨[u],[]⟩ [(x,u)])
  (O:∀H:Hp,Jg H→P7 K H a (ns.map V.int)→sp [.ref a] H (λv _=>v=.bl f8) λ_ _ _=>False)
  (Q:∀H e i,CX [] H c (λ_ _ _=>False) e i→False):
  Z4 (model P w) jN (.call (.ref L) ⟨[.ref a],[]⟩) (λr i=>r=.ok (.ret (.bool f8))∧OldK c.heap i.heap∧i.os=c.os∧gx i.gens) c:=by
 have U:=eN hi;have A:=hi.length
 
 have l:∀H:Hp,Jg H→P7 K H a (ns.map V.int)→fj P w H c.heap→(∀b,H b≠f7→b=a)→(H a≠f7→K.lookup a=f7)→
   Z4 (model P w) jN (.call (.ref L) ⟨[.ref a],[]⟩) (λr i=>r=.ok (.ret (.bool f8))∧OldK c.heap i.heap∧i.os=c.os∧gx i.gens) c:=by
  intro H X hS hok Y hK;have f:∀{b:Addr} {o:Obj},c.heap.get? b=e9 o→H b=f7→(pe c.heap H).get? b=e9 o:=λe n=>zX e n;have R:∀{b:Addr} {o:Obj} {es:Array DictEntry} {B:Nat},c.heap.get? b=e9 o→o.data=.dict es B→H b=f7:=λ{b o es B} e d=>by
   cases q:H b with
   |none=>rfl
   |some u=>
    have S:b=a:=Y b (by rw[q];simp);subst S;rw[J]at e;cases e;have d':Data.seq vs.toArray _=Data.dict es B:=d;cases d'
  have j:∀{b:Addr} {m:Str→Option Value},c.heap.Ns b m→(pe c.heap H).Ns b m:=λ{b m} ⟨o,es,B,e,d,r⟩=>⟨o,es,B,f e (R e d),d,r⟩
  have E:K.In (pe c.heap H):=λb o e=>f (T b o e) (by
   cases q:H b with
   |none=>rfl
   |some u=>
    have S:b=a:=Y b (by rw[q];simp);subst S;rw[hK (by rw[q];simp)]at e;cases e)
  have hM:Mod K mg (pe c.heap H):=⟨E,j t,⟨mb,j g,N⟩,let⟨mc,h1,h2⟩:=y;⟨mc,j h1,h2⟩⟩
  have e0:rO P w K mg (pe c.heap H) jN [] c H:=⟨rfl,hM,λb o e=>CC e,Nat.le_of_eq (xf _ _),trivial,λb g=>absurd (show b∈([]:List Addr)from g) (by simp),hok,.of_eq hg⟩
  refine Z3 ((F _ E (j t)).run jN [] c H ⟨[.ref a],[]⟩ [.ref a] [.ref a] _ _ hr e0 (p c (.ref a)) (.cons rfl .nil) (O H X hS)) λr i h=>?_;cases r with
  |error e=>exact(Q H e i h).elim
  |ok fl=>
   cases fl with
   |next=>exact D9 h
   |brk=>exact D9 h
   |cont=>exact D9 h
   |ret u=>
    obtain⟨v,H',os,bare,un,G,r',q⟩:=h;have q':v=.bl f8:=q;subst q';obtain rfl:u=Value.bool f8:=r';refine⟨rfl,OldK.of_keep λb o e=>?_,os,bare⟩;cases q:H b with
    |none=>exact un.keep b o e q (by intro z;exact absurd (show b∈([]:List Addr)from z) (by simp)) (by simp)
    |some u=>
     rcases X b with z| ⟨ob,xs,z⟩
     ·rw[q]at z;cases z
     ·have z2:=un.frzs b ob _ z;obtain⟨Z,_⟩:=hok b _ z;obtain⟨e2,_⟩:=G b _ z2;rw[e]at Z;cases Z;exact e2
 cases hk:K.lookup a with
 |some o=>
  
  have e:=T a o hk;rw[J]at e;cases e;refine l (λ_=>f7) (λ_=>.inl rfl) (.inr ⟨_,vs.toArray,_,hk,rfl,rfl,rfl,by rw[List.size_toArray,A];exact hl,by simpa using U⟩) (λb u z=>by have I:(f7:Option HO)=e9 u:=z;cases I) (λb z=>absurd rfl z) λz=>absurd rfl z
 |none=>
  refine l (λb=>if b=a then e9 (.cH {cls:=.type "list",data:=.seq vs.toArray} (.lst (ns.map V.int)))else f7) (λb=>?_) (.inl (.inr ⟨{cls:=.type "list",data:=.seq vs.toArray},if_pos rfl⟩)) (λb u z=>?_) (λb z=>?_) λ_=>hk
  ·by_cases g:b=a
   ·exact .inr ⟨_,_,if_pos g⟩
   ·exact .inl (if_neg g)
  ·by_cases g:b=a
   ·have I:=(if_pos g).symm.trans z;cases I;subst g;exact⟨J,by rw[List.length_map];exact hl,vs,_,U,J⟩
   ·have I:=(if_neg g).symm.trans z;cases I
  ·by_cases g:b=a
   ·exact g
   ·exact absurd (if_neg g) z
noncomputable def inClass (s:Stmt)(j:Nat):Stmt:=match s with
 |.ClassDef _ _ _ a _ _ _ _ _ _ _=>a.getD j (.Pass ⟨0,0,0,0⟩)
 |_=>.Pass ⟨0,0,0,0⟩
noncomputable def U6 (s:Stmt):Arguments:=match s with
 |.FunctionDef _ a _ _ _ _ _ _ _ _=>a
 |_=>{posonlyargs:=[],args:=[],vararg:=f7,kwonlyargs:=[],kw_defaults:=[],kwarg:=f7,defaults:=[]}
noncomputable def G7 (s:Stmt):List Stmt:=match s with
 |.FunctionDef _ _ b _ _ _ _ _ _ _=>b
 |_=>[]
noncomputable def j8 (s:Stmt):Scope:=match s with
 |.FunctionDef _ _ _ _ _ _ sc _ _ _=>sc
 |_=>{kind:=.function,names:=[],isGenerator:=f6,isCoroutine:=f6}
noncomputable abbrev V2:DJ:=λ_ _ _ _ _ _=>False
noncomputable abbrev E0:XK:=λ_ _ _=>False
theorem yX:Passes V2 X E0:=λ_ _ _ _ _ _ _ h=>h.elim
structure bc (K:PySem.W.Frag) (x qual:Str) (st:Stmt) (f:Addr) (fd:FuncData):Prop where
 ex:∃(oc:Value) (od:Option Addr) (kV doc pm:Value) (an:Option Addr) (cdv ct:Value) (osl:Array (Option Value)),
  fd=PySem.W.fnOf x qual (U6 st) (G7 st) (j8 st) .none kV doc pm an cdv ct∧K.lookup f=some ⟨oc,od,.func fd,osl⟩∧PySem.W.codeIn K cdv qual=true
 kp:PySem.W.keepIn K (.ref f)=true
section
variable {P:Program}{w:World}{K:PySem.W.Frag}{mg:Str→Option Value}{base:Heap}
theorem bc.ok {x qual:Str}{st:Stmt}{f:Addr}{fd:FuncData}{N ps:List Str}{k:Nat}{sp:Sp}(F:bc K x qual st f fd)(S:n2 N ps (j8 st))(len:∀vs H Q E,sp vs H Q E→vs.length=ps.length)
  (a:∀(cdv:Value) (A:Around) (outer:List Env) (s:Shared) (H:Hp) (vs:List V) (Q:VK) (E:XK),O8 k (A.deeper (bW qual (j8 st) s.heap.objs.size f cdv))→sp vs H Q E→
   ∃t,lV (lI V2 P w K mg base N qual (j8 st) f cdv A outer s H E).JH (G7 st) t∧t {nx:=λ_ H'=>Q .v1 H',rt:=Q} (start N vs) H):x5 P w K mg base V2 (k+1) f fd ps sp:=by
 obtain⟨oc,od,kV,doc,pm,an,cdv,ct,osl,rfl,lk,b⟩:=F.ex;refine IN lk b S len λA outer s H vs Q E hr c=>?_;obtain⟨t,h,q⟩:=a cdv A outer s H vs Q E hr c;exact⟨t,h.JH,q⟩
theorem Ab {x qual:Str}{st:Stmt}{f:Addr}{oc:Value}{od an:Option Addr}{osl:Array (Option Value)}{kV doc pm cdv ct:Value}(l:K.lookup f=e9 ⟨oc,od,.func (PySem.W.fnOf x qual (U6 st) (G7 st) (j8 st) .none kV doc pm an cdv ct),osl⟩)
  (c:PySem.W.codeIn K cdv qual=f8) (k:PySem.W.keepIn K (.ref f)=f8):bc K x qual st f (PySem.W.fnOf x qual (U6 st) (G7 st) (j8 st) .none kV doc pm an cdv ct):=⟨⟨oc,od,kV,doc,pm,an,cdv,ct,osl,rfl,l,c⟩,k⟩
end
def j6 (H H':Hp):Prop:=∀b o,H b=e9 o→H' b=e9 o
theorem j6.refl (H:Hp):j6 H H:=λ_ _ h=>h
theorem j6.trans(a:j6 H d)(b:j6 d e):j6 H e:=λc o h=>b c o (a c o h)
theorem j6.free(e:j6 H H')(h:H' l=Option.none):H l=Option.none:=by
 cases q:H l with
 |none=>rfl
 |some o=>
  rw[e l o q]at h;cases h
theorem j6.seq {K:PySem.W.Frag}{H H':Hp}{a:Addr}{xs:List V}(e:j6 H H')(h:P7 K H a xs):P7 K H' a xs:=by
 rcases h with(h| ⟨o,h⟩) |h
 ·exact .inl (.inl (e _ _ h))
 ·exact .inl (.inr ⟨o,e _ _ h⟩)
 ·exact .inr h
section
variable {κ:Type}[DecidableEq κ]
noncomputable def aW (kvs:List (κ×V))(k:κ):Option V:=(kvs.find? λkv=>decide (kv.1=k)).map (·.2)
noncomputable def putK (kvs:List (κ×V))(k:κ)(v:V):List (κ×V):=
 if(kvs.any λkv=>decide (kv.1=k))=f8 then kvs.map (λkv=>if kv.1=k then(kv.1,v)else kv)else kvs++[(k,v)]
noncomputable def hY (kvs:List (κ×V))(k:κ):List (κ×V):=kvs.filter λkv=>decide (kv.1≠k)
theorem gA {p:κ×V}(e:p.1=k):aW (p::r) k=e9 p.2:=by simp[aW,List.find?_cons,e]
theorem gB {p:κ×V}(e:¬p.1=k):aW (p::r) k=aW r k:=by simp[aW,List.find?_cons,e]
theorem qd (k:κ):∀kvs:List (κ×V),(kvs.any λkv=>decide (kv.1=k))=(aW kvs k).isSome
 | []=>rfl
 |p::r=>by
  rw[List.any_cons];by_cases e:p.1=k
  ·simp only[gA e,decide_eq_true e,Jy,bd]
  ·rw[gB e,decide_eq_false e,Hz];exact qd k r
theorem eB (kvs:List (κ×V))(k:κ)(v:V):(putK kvs k v).length≤kvs.length+1:=by
 unfold putK;split
 ·rw[List.length_map];omega
 ·rw[List.length_append,List.length_cons,List.length_nil];omega
theorem bb.cn(r:bb o u):o.isSome=u.isSome:=by
 cases o with
 |none=>cases u with
  |none=>rfl
  |some _=>exact(show False from r).elim
 |some _=>cases u with
  |none=>exact(show False from r).elim
  |some _=>rfl
theorem bb.getD(r:bb o u)(rd:RelV d a):RelV (o.getD d) (u.getD a):=by
 cases o with
 |none=>cases u with
  |none=>exact rd
  |some _=>exact(show False from r).elim
 |some _=>cases u with
  |none=>exact(show False from r).elim
  |some _=>exact r
theorem KV.val(r:KV kvs vs)(k:κ):bb (aW kvs k) (gn vs k):=by
 unfold KV at r;induction r with
 |nil=>exact True.intro
 | @cons p q ps a h t ih=>
  obtain⟨d,f⟩:=h;by_cases e:p.1=k
  ·have c:q.1=k:=d.symm.trans e;have b:gn (q::a) k=e9 q.2:=by simp[gn,List.find?_cons,c]
   rw[gA e,b];exact f
  ·have c:¬q.1=k:=λz=>e (d.trans z);have b:gn (q::a) k=gn a k:=by simp[gn,List.find?_cons,c]
   rw[gB e,b];exact ih
theorem KV.any(r:KV kvs vs)(k:κ):(kvs.any λkv=>decide (kv.1=k))=vs.any λkv=>decide (kv.1=k):=by
 unfold KV at r;induction r with
 |nil=>rfl
 |cons h t ih=>rw[List.any_cons,List.any_cons,ih,h.1]
theorem KV.repl(r:KV kvs vs)(k:κ)(b:RelV y u):
  KV (kvs.map λkv=>if kv.1=k then(kv.1,y)else kv) (vs.map λkv=>if kv.1=k then(kv.1,u)else kv):=by
 unfold KV at r⊢;induction r with
 |nil=>exact .nil
 | @cons p q ps d h t ih=>
  rw[List.map_cons,List.map_cons];refine .cons ?_ ih;obtain⟨a,c⟩:=h;by_cases e:p.1=k
  ·rw[if_pos e,if_pos (a.symm.trans e)];exact⟨a,b⟩
  ·rw[if_neg e,if_neg (λz=>e (a.trans z))];exact⟨a,c⟩
theorem KV.put(r:KV kvs vs)(k:κ)(a:RelV y u):KV (putK kvs k y) (Bq vs k u):=by
 unfold putK Bq;rw[r.any k];by_cases e:(vs.any λkv=>decide (kv.1=k))=f8
 ·rw[if_pos e,if_pos e];exact r.repl k a
 ·rw[if_neg e,if_neg e];exact Hw r ⟨rfl,a⟩
theorem KV.drop {kvs:List (κ×V)}{vs:List (κ×Value)}(r:KV kvs vs)(k:κ):KV (hY kvs k) (without vs k):=by
 unfold KV at r⊢;unfold hY without;induction r with
 |nil=>exact .nil
 | @cons p q ps g h t ih=>
  obtain⟨c,d⟩:=h;rw[List.filter_cons,List.filter_cons];by_cases e:p.1=k
  ·have a:¬decide (p.1≠k)=f8:=by simp[e]
   have b:¬decide (q.1≠k)=f8:=by simp[c.symm.trans e]
   rw[if_neg a,if_neg b];exact ih
  ·have f:¬q.1=k:=λz=>e (c.trans z);have a:decide (p.1≠k)=f8:=by simp[e]
   have b:decide (q.1≠k)=f8:=by simp[f]
   rw[if_pos a,if_pos b];exact .cons ⟨c,d⟩ ih
theorem KV.length {kvs:List (κ×V)}{vs:List (κ×Value)}(r:KV kvs vs):kvs.length=vs.length:=cF r
theorem As (kvs:List (κ×V))(k:κ):(hY kvs k).length≤kvs.length:=List.length_filter_le _ _
end
theorem eC(r:RelV (kV k) u):(r0 P w).is k u=f8:=by
 cases k with
 |inl i=>obtain⟨t,e⟩:=(show∃t,u=Value.int i t from r);subst e;exact qL P w i t
 |inr x=>obtain⟨t,e⟩:=(show∃t,u=Value.str x t from r);subst e;exact qK P w x t
theorem nw:∀{a:List Key} {us:List Value},Vals (a.map kV) us→ItemsAre (r0 P w) a us
 | [],_,r=>by rw[List.map_nil]at r;cases r;exact .nil
 |k::a,_,r=>by
  rw[List.map_cons]at r;cases r with
  |cons h t=>exact .cons (eC h) (nw t)
noncomputable abbrev KT (H:Hp):List (List Key×V)→List (List Key×Addr×Value)→Prop:=Paired λp q=>p.1=q.1∧H q.2.1=e9 (.tup (p.1.map kV))∧RelV p.2 q.2.2
theorem KT.val(r:KT H kvs xs)(k:List Key):bb (aW kvs k) ((vS xs k).map (·.2)):=by
 induction r with
 |nil=>exact True.intro
 | @cons p q ps a h t ih=>
  obtain⟨d,_,f⟩:=h;by_cases e:p.1=k
  ·have c:q.1=k:=d.symm.trans e;have b:vS (q::a) k=e9 q.2:=by simp[vS,List.find?_cons,c]
   rw[gA e,b];exact f
  ·have c:¬q.1=k:=λz=>e (d.trans z);have b:vS (q::a) k=vS a k:=by simp[vS,List.find?_cons,c]
   rw[gB e,b];exact ih
theorem KT.repl(r:KT H kvs xs)(k:List Key)(c:RelV y u):
  KT H (kvs.map λkv=>if kv.1=k then(kv.1,y)else kv) (xs.map (putAt k u)):=by
 induction r with
 |nil=>exact .nil
 | @cons p q ps f h t ih=>
  rw[List.map_cons,List.map_cons];refine .cons ?_ ih;obtain⟨a,b,d⟩:=h;unfold putAt;by_cases e:p.1=k
  ·rw[if_pos e,if_pos (a.symm.trans e)];exact⟨a,b,c⟩
  ·rw[if_neg e,if_neg (λz=>e (a.trans z))];exact⟨a,b,d⟩
theorem KT.put(r:KT H kvs xs)(k:List Key)(c:H b=e9 (.tup (k.map kV)))(a:RelV y u):
  KT H (putK kvs k y) (storedH xs k b u):=by
 have e:(kvs.any λkv=>decide (kv.1=k))=(vS xs k).isSome:=by
  rw[qd,(r.val k).cn,iW]
 unfold putK storedH;rw[e];by_cases q:(vS xs k).isSome=f8
 ·rw[if_pos q,if_pos q];exact r.repl k a
 ·rw[if_neg q,if_neg q];exact Hw r ⟨rfl,c,a⟩
theorem KT.keeps(r:KT H kvs xs)(c:∀b a,H b=e9 (.tup a)→H' b=e9 (.tup a)):KT H' kvs xs:=
 Paired.zk r λ_ _ z=>⟨z.1,c _ _ z.2.1,z.2.2⟩
section
variable {P:Program}{w:World}{H:Hp}{h:Heap}{a:Addr}
theorem DX(ok:fj P w H h)(e:Rd H a u):I7 P w H h a u:=e.ok ok
theorem S7(ok:fj P w H h)(e:Rd H a (.dK kvs)):kvs.length≤sizeLine∧(a==O4)=f6∧∃vs,KV kvs vs∧h.DictOf (r0 P w) a vs:=
 show I7 P w H h a (.dK kvs)from DX ok e
theorem rn(ok:fj P w H h)(e:H a=e9 (.dK kvs)):kvs.length≤sizeLine∧(a==O4)=f6∧∃vs,KV kvs vs∧h.DictOf (r0 P w) a vs:=S7 ok (.inl e)
theorem iN {b:List Key}(ok:fj P w H h)(e:H a=e9 (.tup (b.map kV))):(jM (r0 P w)).is h b a:=by
 obtain⟨_,c,r,o,d,f,n,g⟩:=(show I7 P w H h a (.tup (b.map kV))from ok a _ e)
 exact⟨o,c.toArray,n,d,f,g,by simpa using nw r⟩
theorem lE(ok:fj P w H h)(e:Rd H a (.dT kvs)):kvs.length≤sizeLine∧(a==O4)=f6∧
  ∃xs,KT H kvs xs∧h.DictOfH (jM (r0 P w)) a xs:=by
 obtain⟨z,y,xs,r,o,es,d,f,g,i,j,k⟩:=(show I7 P w H h a (.dT kvs)from DX ok e)
 refine⟨z,y,xs,r,o,es,d,f,g,i,j,λx b=>?_,k⟩;have all:∀{l:List (List Key×V)} {m:List (List Key×Addr×Value)},KT H l m→∀x∈m,(jM (r0 P w)).is h x.1 x.2.1:=by
  intro l m q;induction q with
  |nil=>intro x b;exact nomatch b
  | @cons p q ps n c t ih=>
   intro x b;rcases List.mem_cons.mp b with e|b
   ·subst e;exact iN ok (by rw[←c.1];exact c.2.1)
   ·exact ih x b
 exact all r x b
theorem IX(ok:fj P w H h)(e:H a=e9 (.dT kvs)):kvs.length≤sizeLine∧(a==O4)=f6∧
  ∃xs,KT H kvs xs∧h.DictOfH (jM (r0 P w)) a xs:=lE ok (.inl e)
end
def dS (H:Hp)(a:Addr)(y:V)(r:Option V):Prop:=
 (∃kvs k,Rd H a (.dK kvs)∧y=kV k∧r=aW kvs k)∨∃kvs k b,Rd H a (.dT kvs)∧y=.ref b∧H b=e9 (.tup (k.map kV))∧r=aW kvs k
def AY (H:Hp)(a:Addr)(y v:V)(H':Hp):Prop:=
 (∃kvs k,H a=e9 (.dK kvs)∧y=kV k∧kvs.length<sizeLine∧H'=upd H a (.dK (putK kvs k v)))∨
 ∃kvs k b,H a=e9 (.dT kvs)∧y=.ref b∧H b=e9 (.tup (k.map kV))∧kvs.length<sizeLine∧H'=upd H a (.dT (putK kvs k v))
theorem AY.k {H:Hp}{a:Addr}{kvs:List (Key×V)}{k:Key}{v:V}(e:H a=e9 (.dK kvs))(hl:kvs.length<sizeLine):AY H a (kV k) v (upd H a (.dK (putK kvs k v))):=.inl ⟨kvs,k,e,rfl,hl,rfl⟩
section
variable {X:Cx}{pins:List (Addr×Obj)}{σ:St}{H:Hp}{s:Shared}{a:Addr}{y v:V}{u r:Value}{o:Option V}{A:Around}{E:Value→Shared→Prop}
theorem Inv.big (I:Inv X pins σ H s):O4<s.heap.objs.size:=by
 have h:l6<s.heap.objs.size:=(I.mod.glob.keeps I.bk).lt;exact Nat.lt_trans (by decide) h
theorem xA(t:A.units+1<C2)(I:Inv X pins σ H s)(g:dS H a y (e9 v))(q:RelV y u)(h:∀f r,Inv X pins σ H r→RelV v f→Q f r):
  wpAny (model X.prog X.w) A (gq (.ref a) u) Q E s:=by
 rcases g with⟨kvs,k,e,i,l⟩ | ⟨kvs,k,b,e,i,x,l⟩
 ·subst i;obtain⟨z,hd,vs,c,j⟩:=S7 I.hok e;obtain⟨f,m,d⟩:=bb.some_of (v:=v) (o:=gn vs k) (by rw[l];exact c.val k);exact wpAny_getItem_of (eC q) j.mapOf m (h f _ (I.tok _) d)
 ·subst i;cases(show u=Value.ref b from q);obtain⟨z,hd,xs,c,j⟩:=lE I.hok e;obtain⟨f,m,d⟩:=bb.some_of (v:=v) (o:=(vS xs k).map (·.2)) (by rw[l];exact c.val k);obtain⟨p,B,n⟩:=h9.mp m;refine wpAny_getItem_heap (X4 t) (iN I.hok x) j B ?_;rw[n];exact h f _ (I.tok _) d
theorem KY(m:A.units+1<C2)(I:Inv X pins σ H s)(g:dS H a y o)(i:RelV y u)(h:∀j,Inv X pins σ H j→Q (.bool o.isSome) j):
  wpAny (model X.prog X.w) A (v9 .In u (.ref a)) Q E s:=by
 rcases g with⟨kvs,k,e,d,l⟩ | ⟨kvs,k,b,e,d,n,l⟩
 ·subst d;obtain⟨z,hd,vs,c,f⟩:=S7 I.hok e;refine wpAny_in_of (eC i) hd f.mapOf ?_;rw[←(c.val k).cn,←l];exact h _ (I.tok _)
 ·subst d;cases(show u=Value.ref b from i);obtain⟨z,hd,xs,c,f⟩:=lE I.hok e;refine wpAny_in_heap (X4 m) (iN I.hok n) hd f ?_;have q:=(c.val k).cn;rw[iW]at q;rw[←q,←l];exact h _ (I.tok _)
theorem Dt(m:A.units+1<C2)(I:Inv X pins σ H s)(g:dS H a y o)(i:RelV y u)(h:∀j,Inv X pins σ H j→Q (.bool (!o.isSome)) j):
  wpAny (model X.prog X.w) A (v9 .NotIn u (.ref a)) Q E s:=by
 rcases g with⟨kvs,k,e,d,l⟩ | ⟨kvs,k,b,e,d,n,l⟩
 ·subst d;obtain⟨z,hd,vs,c,f⟩:=S7 I.hok e;refine wpAny_notIn_of (eC i) hd f.mapOf ?_;rw[←(c.val k).cn,←l];exact h _ (I.tok _)
 ·subst d;cases(show u=Value.ref b from i);obtain⟨z,hd,xs,c,f⟩:=lE I.hok e;refine wpAny_notIn_heap (X4 m) (iN I.hok n) hd f ?_;have q:=(c.val k).cn;rw[iW]at q;rw[←q,←l];exact h _ (I.tok _)
theorem hZ(I:Inv X pins σ H s)(mu:Jh (H a))(hs:Heap.SameBut a s.heap h')(d:∃q,h'.get? a=e9 q)(new:I7 X.prog X.w (upd H a ob) h' a ob):
  Inv X pins σ (upd H a ob) {s with heap:=h',toks:=c}:=
 I.write (x:=a) (e:=a) mu (.inl rfl) (λb q f z=>(hs.2 b f).trans z) d new
theorem iP{h':Heap}{kvs:List (Key×V)}(z:kvs.length≤sizeLine)(hd:(a==O4)=f6)(b:KV kvs vs)(c:h'.DictOf (r0 P w) a vs):
  I7 P w H' h' a (.dK kvs):=⟨z,hd,vs,b,c⟩
theorem xz(G:A.units+1<C2)(I:Inv X pins σ H s)(g:AY H a y v H')(p:RelV y u)(t:RelV v r)(h:∀x,Inv X pins σ H' x→Q () x):
  wpAny (model X.prog X.w) A (Jv (.ref a) u r) Q E s:=by
 rcases g with⟨kvs,k,e,j,l,m⟩ | ⟨kvs,k,b,e,j,B,l,m⟩
 ·subst j m;obtain⟨z,hd,vs,d,n⟩:=rn I.hok e;have o:vs.length≤sizeLine:=by rw[←d.length];exact z
  have hl:(putK kvs k v).length≤sizeLine:=by have:=eB kvs k v;omega
  refine wpAny_setItem_pairs (hsz:=o) (eC p) n λh' f hs=>h _ ?_;have J:∃q,h'.get? a=e9 q:=let⟨q,_,_,i,_⟩:=f;⟨q,i⟩;exact hZ I (by rw[e];exact True.intro) hs J (iP hl hd (d.put k t) f)
 ·subst j m;cases(show u=Value.ref b from p);obtain⟨z,hd,xs,d,n⟩:=IX I.hok e;have o:xs.length≤sizeLine:=by rw[←cF d];exact z
  have hl:(putK kvs k v).length≤sizeLine:=by have:=eB kvs k v;omega
  refine wpAny_setItem_heap (hsz:=o) (X4 G) (iN I.hok B) n λh' f hs=>h _ ?_;obtain⟨q,es,L,i,N,O,P,_,R⟩:=f;refine hZ I (by rw[e];exact True.intro) hs ⟨q,i⟩ ⟨hl,hd,_,(d.put k B t).keeps λc S F=>?_,q,es,L,i,N,O,P,R⟩;rw[k0 (IA F e (λz=>nomatch z))];exact F
end
section
variable {X:Cx}{pins:List (Addr×Obj)}{σ:St}{H:Hp}{s:Shared}{a:Addr}{kvs:List (Key×V)}{k:Key}{u:Value}{A:Around}{E:Value→Shared→Prop}
theorem IZ(I:Inv X pins σ H s)(e:H a=e9 (.dK kvs))(f:RelV (kV k) u)(l:aW kvs k=e9 v)(j:more=[]∨∃x,more=[x])
  (h:∀c m,Inv X pins σ (upd H a (.dK (hY kvs k))) m→RelV v c→Q c m):wpAny (model X.prog X.w) A (call (.builtin "dict.pop") (.ref a::u::more)) Q E s:=by
 obtain⟨z,hd,vs,b,n⟩:=rn I.hok e;obtain⟨c,p,g⟩:=bb.some_of (v:=v) (o:=gn vs k) (by rw[←l];exact b.val k);have r:(keyPart u).isSome=f8:=by
  cases k with
  |inl i=>obtain⟨t,q⟩:=(show∃t,u=Value.int i t from f);subst q;rfl
  |inr x=>obtain⟨t,q⟩:=(show∃t,u=Value.str x t from f);subst q;rfl
 have y:argsOk "dict.pop" ⟨.ref a::u::more,[]⟩:=by
  rcases j with q| ⟨x,q⟩
  ·subst q;exact PySem.F.args_dict_pop_2 _ _
  ·subst q;exact PySem.F.args_dict_pop_3 _ _ _
 refine gu PySem.F.slot_dict_pop n.typeIs PySem.F.entry_dict_pop y (meets_dict_pop_there (r0 X.prog X.w) a (eC f) more j r)
  ⟨vs,c,n,by rw[←b.length];exact z,p,λh' d hs=>h c _ ?_ g⟩
 have B:∃q,h'.get? a=e9 q:=let⟨q,_,_,G,_⟩:=d;⟨q,G⟩;exact hZ I (by rw[e];exact True.intro) hs B (iP (Nat.le_trans (As kvs k) z) hd (b.drop k) d)
theorem GG(I:Inv X pins σ H s)(e:H a=e9 (.dK kvs))(b:RelV (kV k) u)(l:aW kvs k=f7)(h:∀d,Inv X pins σ H d→Q r d):
  wpAny (model X.prog X.w) A (call (.builtin "dict.pop") [.ref a,u,r]) Q E s:=by
 obtain⟨z,hd,vs,c,f⟩:=rn I.hok e;have g:gn vs k=f7:=bb.none_of (by rw[←l];exact c.val k);have j:(keyPart u).isSome=f8:=by
  cases k with
  |inl i=>obtain⟨t,q⟩:=(show∃t,u=Value.int i t from b);subst q;rfl
  |inr x=>obtain⟨t,q⟩:=(show∃t,u=Value.str x t from b);subst q;rfl
 exact gu PySem.F.slot_dict_pop f.typeIs PySem.F.entry_dict_pop (PySem.F.args_dict_pop_3 _ _ _) (meets_dict_pop_default (r0 X.prog X.w) a (eC b) hd j r) ⟨vs,f,g,h _ (I.tok _)⟩
theorem Y3(I:Inv X pins σ H s)(e:Rd H a (.dK kvs))(h:∀t c,Inv X pins σ H c→Q (.int kvs.length t) c):wpAny (model X.prog X.w) A (call (.builtin "len") [.ref a]) Q E s:=by
 obtain⟨z,hd,vs,b,d⟩:=S7 I.hok e;refine call_len_dict hd d (by rw[←b.length];rw[v0]at z;omega) ?_;rw[←b.length];exact h _ _ (I.tok _)
end
theorem rp(I:Inv X pins σ H s)(g:dS H a y o):s.TypeIs (.ref a) "dict":=by
 rcases g with⟨kvs,k,e,_,_⟩ | ⟨kvs,k,b,e,_,_,_⟩
 ·obtain⟨_,_,vs,_,c⟩:=S7 I.hok e;exact c.typeIs
 ·obtain⟨_,_,xs,_,c⟩:=lE I.hok e;exact c.typeIs
theorem ro(h:Heap)(a:O4<h.objs.size):I7 P w H (h.push {cls:=.type "dict",data:=.dict #[]}) h.objs.size (.dK []):=
 ⟨Nat.zero_le _,beq_eq_false_iff_ne.mpr (x8 (Nat.ne_of_lt a)),[],.nil,Heap.DictOf.new h⟩
noncomputable def EU:TE:=λ_ H Q=>∀p,H p=f7→Q (.ref p) (upd H p (.dK []))
section
variable {X:Cx}{pos:Pos}
theorem yU:PE X (.Dict [] [] pos) EU:=λpins s σ H Q I h=>
 wpAny_Dict_empty ⟨.ref s.heap.objs.size,_,I.laid (a:=s.heap.objs.size) (o:=.dK []) (t':=s.toks) (λ_ _ q=>Heap.get?_push_of_some _ q) (Nat.le_refl _) (ro s.heap I.big),rfl,h _ (I.hok.fresh (Nat.le_refl _))⟩
end
noncomputable def ss:List (TE×TE)→St→Hp→(List (V×V)→Hp→Prop)→Prop
 | [],_,H,Q=>Q [] H
 | (a,b)::r,σ,H,Q=>a σ H λx c=>b σ c λy d=>ss r σ d λps e=>Q ((x,y)::ps) e
noncomputable abbrev VV:List (V×V)→List (Value×Value)→Prop:=Paired λp q=>RelV p.1 q.1∧RelV p.2 q.2
def JM (X:Cx)(pos:Pos)(keys:List (Option Expr))(a:List Expr)(b:List (TE×TE)):Prop:=
 ∀(pins:List (Addr×Obj)) (s:Shared) (σ:St) (H:Hp) (Q:List (V×V)→Hp→Prop),Inv X pins σ H s→ss b σ H Q→
  wpAny (model X.prog X.w) X.A (evalPairs (pairTrees keys a X.env pos)) (λvs c=>∃ps H',Inv X pins σ H' c∧VV ps vs∧Q ps H') X.xe s
theorem Ce:JM X pos [] [] []:=λpins s σ H Q I h=>pairTrees_nil_walk ⟨[],H,I,.nil,h⟩
theorem yM(hk:PE X k d)(f:PE X v e)(hr:JM X pos c vs a):
  JM X pos (e9 k::c) (v::vs) ((d,e)::a):=λpins s σ H Q I h=>
 pairTrees_cons_walk (F3 (hk pins s σ H _ I h) λu s1 ⟨x,g,i,j,l⟩=>F3 (f pins s1 σ g _ i l) λw s2 ⟨y,m,n,o,p⟩=>
  F3 (hr pins s2 σ m _ n p) λz A ⟨ps,q,r,b,t⟩=>⟨(x,y)::ps,q,r,.cons ⟨j,o⟩ b,t⟩)
noncomputable def iK (kvs more:List (Key×V)):List (Key×V):=more.foldl (λa kv=>putK a kv.1 kv.2) kvs
theorem KV.merge:∀{more:List (Key×V)} {rs:List (Key×Value)} {kvs:List (Key×V)} {vs:List (Key×Value)},KV more rs→KV kvs vs→KV (iK kvs more) (Bu vs rs):=by
 intro more rs kvs vs r;unfold KV at r;induction r generalizing kvs vs with
 |nil=>intro q;exact q
 | @cons p q ps b h t ih=>
  intro a;have e:KV (putK kvs p.1 p.2) (Bq vs q.1 q.2):=by
   have:=a.put p.1 h.2;rw[←h.1];exact this
  exact ih e
theorem fN:∀(more kvs:List (Key×V)),(iK kvs more).length≤kvs.length+more.length
 | [],kvs=>by show kvs.length≤kvs.length+0;omega
 |p::r,kvs=>by
  have a:=fN r (putK kvs p.1 p.2);have b:=eB kvs p.1 p.2;show(iK (putK kvs p.1 p.2) r).length≤_;rw[List.length_cons];omega
theorem lK:∀{kvs:List (Key×V)} {d:List (Value×Value)},VV (kvs.map λkv=>(kV kv.1,kv.2)) d→∃rs,Carries (r0 P w) d rs∧KV kvs rs
 | [],_,r=>by rw[List.map_nil]at r;cases r;exact⟨[],True.intro,.nil⟩
 |p::kvs,_,r=>by
  rw[List.map_cons]at r;cases r with
  | @cons a b f bs h t=>
   obtain⟨rs,c,q⟩:=lK (P:=P) (w:=w) t;obtain⟨g,e⟩:=b;exact⟨(p.1,e)::rs,⟨eC h.1,rfl,c⟩,.cons ⟨rfl,h.2⟩ q⟩
noncomputable def HR (a:List (TE×TE)):TE:=λσ H Q=>∀p,H p=f7→ss a σ (upd H p (.dK [])) λps b=>b p=e9 (.dK [])∧∃kvs:List (Key×V),ps=kvs.map (λkv=>(kV kv.1,kv.2))∧kvs.length≤15∧Q (.ref p) (upd b p (.dK (iK [] kvs)))
theorem Co(h:JM X pos keys b d)(f:keys.all (·.isSome)=f8)(hl:keys.length=b.length)(l:keys≠[])
  (i:keys.length≤15):PE X (.Dict keys b pos) (HR d):=by
 intro pins s σ H Q I q;have m:=I.hok.fresh (Nat.le_refl s.heap.objs.size);have n:=I.laid (a:=s.heap.objs.size) (o:=.dK []) (h':=s.heap.push {cls:=.type "dict",data:=.dict #[]}) (t':=s.toks) (λ_ _ q=>Heap.get?_push_of_some _ q) (Nat.le_refl _) (ro s.heap I.big);refine wpAny_Dict_walk (knd:=r0 X.prog X.w) f hl l i (F3 (h pins _ σ _ _ n (q _ m)) λF s2 ⟨ps,G,k,j,e,kvs,p,lk,r⟩=>?_);subst p;obtain⟨rs,c,t⟩:=lK (P:=X.prog) (w:=X.w) j;obtain⟨z,hd,u,v,x⟩:=rn k.hok e;cases v;refine⟨rs,c,x,λh' g hs=>⟨.ref s.heap.objs.size,_,?_,rfl,r⟩⟩;have y:(iK [] kvs).length≤sizeLine:=by
  have A:=fN kvs [];rw[List.length_nil]at A;rw[v0];omega
 have B:∃q,h'.get? s.heap.objs.size=e9 q:=let⟨q,_,_,E,_⟩:=g;⟨q,E⟩;exact hZ k (by rw[e];exact True.intro) hs B (iP y hd (t.merge .nil) g)
structure M1 (X:Cx) (o:Expr) (m:Str) (apos:Pos) (e:Expr) (cpos:Pos):Prop where
 base:x0 o m X.env (eval o X.env)=eval o X.env
 few:((m4 cpos (h8 [e] X.env)).all (λx=>!x.1)&&(y4 cpos (o1 [] X.env)).all (λx=>x.1.isSome)
  && decide (([e]:List Expr).length+([]:List Keyword).length+(if([]:List Keyword).isEmpty then 0 else 1)<30))=true
 line:(apos.endLine==cpos.line)=true
 trees:m4 cpos (h8 [e] X.env)=[(false,eval e X.env)]
structure M2 (X:Cx) (o:Expr) (m:Str) (apos:Pos) (e f:Expr) (cpos:Pos):Prop where
 base:x0 o m X.env (eval o X.env)=eval o X.env
 few:((m4 cpos (h8 [e,f] X.env)).all (λx=>!x.1)&&(y4 cpos (o1 [] X.env)).all (λx=>x.1.isSome)
  && decide (([e,f]:List Expr).length+([]:List Keyword).length+(if([]:List Keyword).isEmpty then 0 else 1)<30))=true
 line:(apos.endLine==cpos.line)=true
 trees:m4 cpos (h8 [e,f] X.env)=[(false,eval e X.env),(false,eval f X.env)]
def Lm (H:Hp)(a:Addr):Prop:=(∃kvs,Rd H a (.dK kvs))∨∃kvs,Rd H a (.dT kvs)
theorem zD(I:Inv X pins σ H s)(d:Lm H a):
  s.TypeIs (.ref a) "dict"∧(∀b,Value.ref a=.ref b→∃ob,s.heap.get? b=e9 ob∧ob.dict=f7)∧(a==O4)=f6:=by
 rcases d with⟨kvs,e⟩ | ⟨kvs,e⟩
 ·obtain⟨_,hd,vs,_,c⟩:=S7 I.hok e;refine⟨c.typeIs,λb q=>?_,hd⟩;cases q;obtain⟨ob,_,_,f,g,_⟩:=c;exact⟨ob,f,g.2.1⟩
 ·obtain⟨_,hd,xs,_,c⟩:=lE I.hok e;refine⟨c.typeIs,λb q=>?_,hd⟩;cases q;obtain⟨ob,_,_,f,g,_⟩:=c;exact⟨ob,f,g.2.1⟩
section
variable {X:Cx}{pins:List (Addr×Obj)}{σ:St}{H:Hp}{s:Shared}{a:Addr}{y d:V}{u r:Value}{o:Option V}{A:Around}{E:Value→Shared→Prop}
theorem tT(n:A.units+1<C2)(I:Inv X pins σ H s)(g:dS H a y o)(i:RelV y u)(h:∀j m,Inv X pins σ H m→RelV (o.getD .v1) j→Q j m):
  wpAny (model X.prog X.w) A (call (.builtin "dict.get") [.ref a,u]) Q E s:=by
 rcases g with⟨kvs,k,e,f,l⟩ | ⟨kvs,k,b,e,f,p,l⟩
 ·subst f;obtain⟨z,hd,vs,c,d⟩:=S7 I.hok e;refine gu PySem.F.slot_dict_get d.typeIs PySem.F.entry_dict_get (PySem.F.args_dict_get_2 _ _) (meets_dict_get (r0 X.prog X.w) a (eC i) hd) ⟨_,d.mapOf,h _ _ (I.tok _) ?_⟩;rw[l];exact(c.val k).getD rfl
 ·subst f;cases(show u=Value.ref b from i);obtain⟨z,hd,xs,c,d⟩:=lE I.hok e;refine gu PySem.F.slot_dict_get d.typeIs PySem.F.entry_dict_get (PySem.F.args_dict_get_2 _ _) (meetsH_dict_get (jM (r0 X.prog X.w)) a b hd) ⟨X4 n,k,xs,iN I.hok p,d,h _ _ (I.tok _) ?_⟩;rw[l];exact(c.val k).getD rfl
end
noncomputable def EV (d ty:TE):TE:=λσ H Q=>d σ H λx b=>∃a,x=.ref a∧Lm b a∧ty σ b λy c=>∃o,dS c a y o∧Q (o.getD .v1) c
noncomputable def ET (d ty tx:TE):TE:=λσ H Q=>d σ H λx c=>∃a,x=.ref a∧Lm c a∧ty σ c λy e=>tx σ e λz b=>∃kvs k,b a=e9 (.dK kvs)∧y=kV k∧
 (∀v,aW kvs k=e9 v→Q v (upd b a (.dK (hY kvs k))))∧(aW kvs k=f7→Q z b)
section
variable {X:Cx}{o e f:Expr}{apos cpos:Pos}{td ty tx:TE}
theorem yV (f:X.A.units+1<C2)(i:PE X o td)(j:PE X e ty)(m:M1 X o "get" apos e cpos):PE X (.Call (.Attribute o "get" apos) [e] [] cpos) (EV td ty):=by
 intro pins s σ H Q I h;refine Jt m.base m.few m.line PySem.F.plainAttrs_dict PySem.F.slot_dict_get PySem.F.type_dict_get (F3 (i pins s σ H _ I h) λu s1 ⟨x,k,c,l,a,ex,d,n⟩=>?_);subst ex;obtain rfl:u=Value.ref a:=l;obtain⟨p,q,_⟩:=zD c d;refine⟨p,q,?_⟩;rw[m.trees];refine dV rfl (fQ (M3 (F3 (j pins s1 σ k _ c n) λB s2 ⟨y,r,t,v,E,g,w⟩=>V5 ?_)));exact tT f t g v λG J z b=>⟨_,r,z,b,w⟩
theorem yT (p:PE X o td)(q:PE X e ty)(r:PE X f tx)(m:M2 X o "pop" apos e f cpos):PE X (.Call (.Attribute o "pop" apos) [e,f] [] cpos) (ET td ty tx):=by
 intro pins s σ H Q I h;refine Jt m.base m.few m.line PySem.F.plainAttrs_dict PySem.F.slot_dict_pop PySem.F.type_dict_pop (F3 (p pins s σ H _ I h) λu s1 ⟨x,t,g,w,a,ex,d,A⟩=>?_);subst ex;obtain rfl:u=Value.ref a:=w;obtain⟨B,E,_⟩:=zD g d;refine⟨B,E,?_⟩;rw[m.trees];refine dV rfl (fQ (M3 (F3 (q pins s1 σ t _ g A) λU s2 ⟨y,G,J,i,L⟩=>
  M3 (F3 (r pins s2 σ G _ J L) λN Y ⟨z,O,j,rz,kvs,k,n,P,R,S⟩=>V5 ?_))))
 subst P;cases l:aW kvs k with
 |some v=>exact IZ j n i l (.inr ⟨N,rfl⟩) λZ T b c=>⟨v,_,b,c,R v l⟩
 |none=>exact GG j n i l λT b=>⟨z,O,b,rz,S l⟩
end
theorem gi {env:Env}:∀(names:List (Str×NameKind)) (cs:List (Str×Addr)),(∀n,(n,NameKind.free)∈names→∃c,env.cells.lookup n=e9 c)→(∀n c,cs.lookup n=e9 c→env.cells.lookup n=e9 c)→
  ∃cl,(forIn names cs (λx r=>match x with| (name,kind)=>if(kind==NameKind.free)=f8 then do
   let c←cellOf env name
   pure (ForInStep.yield ((name,c)::r))else pure (ForInStep.yield r)):Sem (List (Str×Addr)))=pure cl∧(∀n c,cl.lookup n=e9 c→env.cells.lookup n=e9 c)∧(∀n,(n,NameKind.free)∈names→∃c,cl.lookup n=e9 c)∧(∀n c,cs.lookup n=e9 c→∃i,cl.lookup n=e9 i)
 | [],cs,_,m=>⟨cs,rfl,m,λ_ h=>by simp at h,λn c h=>⟨c,h⟩⟩
 | (name,kind)::f,cs,p,m=>by
  have l:∀n,(n,NameKind.free)∈f→∃c,env.cells.lookup n=e9 c:=λn h=>p n (List.mem_cons_of_mem _ h);rw[List.forIn_cons];by_cases hk:kind=NameKind.free
  ·subst hk;obtain⟨c,q⟩:=p name List.mem_cons_self;have o:∀n i,((name,c)::cs).lookup n=e9 i→env.cells.lookup n=e9 i:=λn i h=>by
    rw[List.lookup_cons]at h;cases j:n==name with
    |true=>
     rw[j]at h;have e:n=name:=eq_of_beq j;subst e;have s:c=i:=by simpa using h
     subst s;exact q
    |false=>
     rw[j]at h;exact m n i h
   obtain⟨cl,e,a,b,d⟩:=gi f ((name,c)::cs) l o;refine⟨cl,?_,a,λn g=>?_,λn i h=>?_⟩
   ·have k:cellOf env name=pure c:=by unfold cellOf;rw[q]
    simp only[beq_self_eq_true,if_true,k,pure_bind];exact e
   ·rcases List.mem_cons.mp g with g|g
    ·have t:n=name:=(Ha g).1;subst t;exact d n c (by simp[List.lookup_cons])
    ·exact b n g
   ·cases j:n==name with
    |true=>exact d n c (by rw[List.lookup_cons,j])
    |false=>exact d n i (by rw[List.lookup_cons,j];exact h)
  ·have j:(kind==NameKind.free)=f6:=by simpa using hk
   obtain⟨cl,e,a,b,d⟩:=gi f cs l m;refine⟨cl,?_,a,λn g=>?_,d⟩
   ·simp only[j,Bh,if_false,pure_bind];exact e
   ·rcases List.mem_cons.mp g with g|g
    ·exact absurd (Ha g).2.symm hk
    ·exact b n g
theorem tW {scope:Scope}{env:Env}(h:∀n,(n,NameKind.free)∈scope.names→∃c,env.cells.lookup n=e9 c):
  ∃cl,closureFor scope env=pure cl∧(∀n c,cl.lookup n=e9 c→env.cells.lookup n=e9 c)∧(∀n,(n,NameKind.free)∈scope.names→∃c,cl.lookup n=e9 c):=by
 obtain⟨cl,e,a,b,_⟩:=gi (env:=env) scope.names [] h (λn c h=>by simp at h);refine⟨cl,?_,a,b⟩;unfold closureFor;have d:=congrArg (λ(m:Sem (List (Str×Addr)))=>m >>= λcs=>pure cs) e;simp only[pure_bind]at d;exact d
noncomputable abbrev Cx.fO (X:Cx)(scope:Scope)(cl:List (Str×Addr))(C:Addr)(M:List Str)(s:Shared)(H:Hp)(ex:List Addr):Cx:=
 {X with N:=M,s₀:=s,H₀:=H,env:=compEnvC scope cl C X.env,outer:=X.stack,stack:=X.stack,ex:=ex,fn:=λy=>scope.names.lookup y==e9 .cell,pn:=[],xe:=λ_ _=>False}
structure vL (X:Cx) (scope:Scope) (M:List Str) (own:Nat) (fr:List Nat):Prop where
 kind:scope.kind=.function
 cells:∀y∈scope.names,y.2=.cell→scope.names.lookup y.1=some .cell
 names:∀y∈scope.names,y.2=.local→scope.names.lookup y.1=some .local
 free:∀y∈scope.names,y.2=.free→X.env.kindOf y.1=some .cell∨X.env.kindOf y.1=some .free
 nd:M.Nodup
 len:M.length=own+fr.length
 at':∀i j,fr[i]?=some j→M[own+i]?=X.N[j]?∧∃n,X.N[j]?=some n∧scope.names.lookup n=some .free∧(X.env.kindOf n=some .cell∨X.env.kindOf n=some .free)
noncomputable def seen (own:Nat)(fr:List Nat)(σ:St):St:=List.replicate own f7++fr.map λj=>(σ[j]?).join
theorem cX {g:Str×NameKind→Str×NameKind}(a:∀p,(g p).1=p.1):∀(names:List (Str×NameKind)) (n:Str),(names.map g).lookup n=(names.lookup n).map λk=>(g (n,k)).2
 | [],_=>rfl
 | (m,k)::r,n=>by
  have e:g (m,k)=(m,(g (m,k)).2):=xQ (a (m,k)) rfl;rw[List.map_cons,e];by_cases b:n=m
  ·subst b;simp[List.lookup_cons]
  ·have c:(n==m)=f6:=by simpa using b
   simp only[List.lookup_cons,c];exact cX a r n
theorem bE (scope:Scope)(env:Env):∃g:Str×NameKind→Str×NameKind,(uk scope env).names=scope.names.map g∧(∀p,(g p).1=p.1)∧∀n k,(g (n,k)).2=k∨(k=.free∧(g (n,k)).2=.cell):=by
 refine⟨_,rfl,λp=>?_,λn k=>?_⟩
 ·obtain⟨n,k⟩:=p;dsimp only;split<;>rfl
 ·dsimp only;by_cases a:(k==NameKind.free&&env.scope.kind==ScopeKind.function&&env.kindOf n==e9 NameKind.cell)=f8
  ·rw[if_pos a];refine .inr ⟨?_,rfl⟩;simp only[k9]at a;exact eq_of_beq a.1.1
  ·rw[if_neg a];exact .inl rfl
theorem oK {scope:Scope}(h:scope.names.lookup n=e9 .free):(uk scope env).names.lookup n=e9 .free∨(uk scope env).names.lookup n=e9 .cell:=by
 obtain⟨g,e,a,b⟩:=bE scope env;rw[e,cX a,h];rcases b n .free with q| ⟨_,q⟩
 ·exact .inl (by show e9 (g (n,.free)).2=_;rw[q])
 ·exact .inr (by show e9 (g (n,.free)).2=_;rw[q])
theorem jg {scope:Scope}(h:scope.names.lookup n=e9 .cell):(uk scope env).names.lookup n=e9 .cell:=by
 obtain⟨g,e,a,b⟩:=bE scope env;rw[e,cX a,h];rcases b n .cell with q| ⟨q,_⟩
 ·show e9 (g (n,.cell)).2=_;rw[q]
 ·cases q
theorem oM(h:(uk scope env).names.lookup n=e9 .cell∨(uk scope env).names.lookup n=e9 .free):(n,NameKind.free)∈scope.names∨(n,NameKind.cell)∈scope.names:=by
 obtain⟨g,e,b,c⟩:=bE scope env;rw[e,cX b]at h;cases hk:scope.names.lookup n with
 |none=>rw[hk]at h;rcases h with h|h<;>cases h
 |some k=>
  have a:=PySem.mem_of_lookup hk;rw[hk]at h;have h':(g (n,k)).2=.cell∨(g (n,k)).2=.free:=by
   rcases h with h|h
   ·exact .inl (j7 h)
   ·exact .inr (j7 h)
  rcases c n k with q| ⟨q,_⟩
  ·rcases h' with z|z
   ·rw[q.symm.trans z]at a;exact .inr a
   ·rw[q.symm.trans z]at a;exact .inl a
  ·rw[q]at a;exact .inl a
theorem A1:∀(names:List (Str×NameKind)) (n:Nat) (a:List (Str×Addr)),cellsFrom n names a=cellsFrom n names []++a
 | [],_,_=>rfl
 | (x,k)::r,n,a=>by
  unfold cellsFrom;split
  ·rw[A1 r (n+1) ((x,n)::a),A1 r (n+1) [(x,n)],List.append_assoc];rfl
  ·exact A1 r n a
theorem aS:∀(names:List (Str×NameKind)) (n:Nat) (x:Str) (c:Addr),(x,c)∈cellsFrom n names []→(x,NameKind.cell)∈names
 | [],_,_,_,h=>by cases h
 | (y,k)::r,n,x,c,h=>by
  unfold cellsFrom at h;split at h
  ·rename_i hk;rw[A1]at h;rcases List.mem_append.mp h with h|h
   ·exact List.mem_cons_of_mem _ (aS r (n+1) x c h)
   ·have e:=List.mem_singleton.mp h;cases e;rw[eq_of_beq hk];exact List.mem_cons_self
  ·exact List.mem_cons_of_mem _ (aS r n x c h)
theorem X3:∀(names:List (Str×NameKind)) (n:Nat) (x:Str),(x,NameKind.cell)∈names→∃c,(x,c)∈cellsFrom n names []
 | [],_,_,h=>by cases h
 | (y,k)::r,n,x,h=>by
  unfold cellsFrom;rcases List.mem_cons.mp h with h|h
  ·cases h;rw[if_pos (by rfl),A1];exact⟨n,List.mem_append_right _ (List.mem_singleton.mpr rfl)⟩
  ·split
   ·obtain⟨c,a⟩:=X3 r (n+1) x h;rw[A1];exact⟨c,List.mem_append_left _ a⟩
   ·exact X3 r n x h
theorem bN:∀{l:List (Str×Addr)} {c:Addr},(x,c)∈l→∃a,l.lookup x=e9 a
 | (k,v)::r,c,h=>by
  rw[List.lookup_cons];cases b:x==k with
  |true=>exact⟨v,rfl⟩
  |false=>
   rcases List.mem_cons.mp h with e|h
   ·cases e;simp at b
   ·exact bN h
theorem gj {scope:Scope}(h:(cellsFrom n scope.names cl).lookup x=e9 c):((x,c)∈cellsFrom n scope.names []∧(cellsFrom n scope.names []).lookup x=e9 c)∨cl.lookup x=e9 c:=by
 rw[A1,List.lookup_append]at h;cases e:(cellsFrom n scope.names []).lookup x with
 |some a=>
  rw[e]at h;cases h;exact .inl ⟨mem_of_lookup e,rfl⟩
 |none=>rw[e]at h;exact .inr h
theorem rD {scope:Scope}{cl:List (Str×Addr)}(h:(x,NameKind.cell)∈scope.names∨∃c,cl.lookup x=e9 c):∃c,(cellsFrom n scope.names cl).lookup x=e9 c:=by
 rw[A1,List.lookup_append];cases e:(cellsFrom n scope.names []).lookup x with
 |some a=>exact⟨a,rfl⟩
 |none=>
  rcases h with h| ⟨c,h⟩
  ·obtain⟨c,d⟩:=X3 scope.names n x h;obtain⟨a,b⟩:=bN d;rw[e]at b;cases b
  ·exact⟨c,h⟩
theorem sP{s:Shared}{env:Env}
  (h:Q {scope,locals:=s.heap.objs.size,globals:=env.globals,cells:=cellsFrom (s.heap.objs.size+1) scope.names cl,qual:=env.qual,func:=f7,code:=env.code,frame:=env.frame,builtins:=env.builtins} {s with heap:=pushCells (s.heap.push {cls:=.type "dict",data:=.dict #[]}) scope.names}):
  wpAny M A (Mv scope env.globals cl [] env.qual f7 .none (e9 env)) Q E s:=by
 simp only[Mv,bd,if_true];refine g8 (wpAny_alloc ?_);refine g8 (wpAny_layCells _ (λname kind cells=>by cases a:kind==NameKind.cell<;>simp[a]) _ _ _ _ ?_);rw[show({s with heap:=s.heap.push {cls:=.type "dict",data:=.dict #[]}}:Shared).heap.objs.size=s.heap.objs.size+1 from Heap.size_push ..];exact j5 h
def PF (X:Cx)(a:List Expr)(t:TT):Prop:=
 ∀(pins:List (Addr×Obj)) (s:Shared) (σ:St) (H:Hp) (Q:Bool→Hp→Prop),Inv X pins σ H s→t σ H Q→
  wpAny (model X.prog X.w) X.A (forIn a f8 λc r=>if r=f8 then do let ok←Bv c X.env (eval c X.env);pure (ForInStep.yield ok)else pure (ForInStep.yield r)) (TP X pins σ Q) X.xe s
noncomputable def Kw:TT:=λ_ H Q=>Q f8 H
theorem Fv:PF X [] Kw:=λ_ _ _ H _ I h=>wpAny_tests_nil ⟨H,I,h⟩
theorem Fu(h:PT X c t):PF X [c] t:=λpins s σ H Q I a=>wpAny_tests_one (h pins s σ H Q I a)
section
variable {prog:Program}{w:World}{A:Around}{R:Mz→Shared→Prop}{s:Shared}
theorem pC(I:Nat→Shared→Prop)
  (f:∀n s,I n s→wpAny (model prog w) A (pyNext it) (λr s1=>match r with
   |none=>R (.ok .next) s1
   |some v=>wpAny (model prog w) A (iq a it v) (λ_ g=>wpAny (model prog w) A (lX a env v) (λ_ s2=>
     wpAny (model prog w) A (forIn d f8 λc r=>if r=f8 then do let ok←Bv c env (eval c env);pure (ForInStep.yield ok)else pure (ForInStep.yield r)) (λok i=>
      if ok=f8 then wpAny (model prog w) A (eval b env) (λx k=>
       wpAny (model prog w) A (call (.builtin "list.append") [e,x]) (λ_ l=>∃m,m<n∧I m l) (λ_ _=>False) k) (λ_ _=>False) i
      else∃m,m<n∧I m i) (λ_ _=>False) s2) (λ_ _=>False) g) (λ_ _=>False) s1) (λ_ _=>False) s)
  (n:Nat) (h:I n s):
  Z4 (model prog w) A (.compLoop (.ListComp b [⟨a,iter,d,0⟩] scope pos) 0 it e env) R s:=by
 refine codeAny_loop rfl I (λn s q=>?_) n h;show wpAny _ A ((compTurn (.ListComp b [⟨a,iter,d,0⟩] scope pos) 0 it e env).onRaise (λx=>do noteFrame x env;theTreesLotGoes x)) _ _ s;refine wpAny_noted ?_;rw[compTurn_list];refine g8 (lR (g8 (z9 (f n s q) (λr s1 o=>?_) λ_ _ h'=>h'.elim)));cases r with
 |none=>exact j5 o
 |some v=>
  refine g8 (z9 o (λ_ g j=>?_) λ_ _ h'=>h'.elim);refine g8 (z9 j (λ_ s2 t=>g8 (z9 t (λok i p=>?_) λ_ _ h'=>h'.elim)) λ_ _ h'=>h'.elim);cases ok with
  |false=>exact j5 ⟨rfl,p⟩
  |true=>
   exact g8 (g8 (z9 p (λx k u=>g8 (z9 u (λ_ l y=>j5 (j5 ⟨rfl,y⟩)) λ_ _ h'=>h'.elim)) λ_ _ h'=>h'.elim))
end
def pU (own:Nat)(fr:List Nat)(g:TG):Prop:=∀x σ H R,g x (seen own fr σ) H R→g x (seen own fr σ) H λa b=>(∀(i:Nat) v,(seen own fr σ)[i]?=e9 (e9 v)→a[i]?=e9 (e9 v))∧R a b
def GU (J:It)(g:TG)(j:TT)(k:TE)(own:Nat)(fr:List Nat)(σ:St)(Q:VK)(l:Hp):Prop:=
 ∃W:Nat→Nat→List V→Hp→Prop,(∃m,W 0 m [] l)∧∀i m b a,W i m b a→
  (J.stop i a∧∀p,a p=f7→Q (.ref p) (upd a p (.lst b)))∨
  (J.go i a∧b.length<sizeLine∧∃N:List V→Hp→Prop,(∀d H',N d H'→∃f,f<m∧W (i+1) f d H')∧
   ∀x H',J.yld i a x H'→g x (seen own fr σ) H' λe n=>j e n λc h=>if c=f8 then k e h λy o=>N (b++[y]) o else N b h)
noncomputable def mS (a:TI)(g:TG)(b:TT)(c:TE)(own:Nat)(fr:List Nat):TE:=λσ H Q=>a σ H λJ d=>GU J g b c own fr σ Q d
section
variable {X:Cx}{pins:List (Addr×Obj)}{σ:St}{H H2:Hp}{s s2:Shared}
theorem qp(h:(seen own fr σ)[i]?=e9 (e9 v)):∃k j,i=own+k∧fr[k]?=e9 j∧σ[j]?=e9 (e9 v):=by
 unfold seen at h;by_cases hi:i<own
 ·rw[List.getElem?_append_left (by simpa using hi),List.getElem?_replicate,if_pos hi]at h;cases h
 ·rw[List.getElem?_append_right (by simpa using hi)]at h;simp only[List.length_replicate,List.getElem?_map]at h;cases e:fr[i-own]? with
  |none=>rw[e]at h;cases h
  |some j=>
   rw[e]at h;simp only[t6,fP]at h;refine⟨i-own,j,by omega,e,?_⟩;cases q:σ[j]? with
   |none=>rw[q]at h;cases h
   |some o=>
    rw[q]at h;have h':o=e9 v:=h;rw[h']
theorem seen_length (own:Nat)(fr:List Nat)(σ:St):(seen own fr σ).length=own+fr.length:=by
 unfold seen;rw[List.length_append,List.length_replicate,List.length_map]
theorem vd(hi:i<own):pU own fr (js i):=λx σ H R h=>⟨λk v e=>by
 obtain⟨j,_,rfl,_⟩:=qp e;rw[List.getElem?_set_ne (by omega)];exact e,h⟩
theorem Inv.block {scope:Scope}{M:List Str}{own:Nat}{fr:List Nat}{cl:List (Str×Addr)}{h1:Heap}{fp:List Addr}{t1:Nat}(B:vL X scope M own fr)(I:Inv X pins σ H2 s2)
  (d:∀n c,cl.lookup n=e9 c→X.env.cells.lookup n=e9 c∨(scope.names.lookup n=e9 .cell∧s2.heap.objs.size+1<c∧h1.IsCell c f7)) (U:∀n n' c,cl.lookup n=e9 c→cl.lookup n'=e9 c→s2.heap.objs.size+1<c→n=n') (G:∀n,(n,NameKind.free)∈scope.names∨(n,NameKind.cell)∈scope.names→∃c,cl.lookup n=e9 c)
  (Y:∀n c,cl.lookup n=e9 c→scope.names.lookup n=e9 .cell→s2.heap.objs.size+1<c)
  (t:∀b∈fp,lP X pins H2 b∧b<s2.heap.objs.size)
  (Z:h1.Ns (s2.heap.objs.size+1) λ_=>f7) (F:∀b o,b<s2.heap.objs.size+1→(s2.heap.push {cls:=.type "list",data:=.seq ([]:List Value).toArray}).get? b=e9 o→h1.get? b=e9 o):
  Inv (X.fO scope cl (s2.heap.objs.size+1) M {s2 with heap:=s2.heap.push {cls:=.type "list",data:=.seq ([]:List Value).toArray}} H2 (s2.heap.objs.size::fp))
   [(s2.heap.objs.size,{cls:=.type "list",data:=.seq ([]:List Value).toArray})] (seen own fr σ) H2 {s2 with heap:=h1,toks:=t1}:=by
 have f:∀b o,s2.heap.get? b=e9 o→(s2.heap.push {cls:=.type "list",data:=.seq ([]:List Value).toArray}).get? b=e9 o:=λb o e=>Heap.get?_push_of_some _ e;have old:∀b o,s2.heap.get? b=e9 o→h1.get? b=e9 o:=λb o e=>F b o (Nat.lt_succ_of_lt (Heap.lt_size e)) (f b o e);have hD:h1.get? s2.heap.objs.size=e9 {cls:=.type "list",data:=.seq ([]:List Value).toArray}:=F _ _ (Nat.lt_succ_self _) (Heap.get?_push_size _ rfl);have a0:H2 s2.heap.objs.size=f7:=I.hok.fresh (Nat.le_refl _);have a1:H2 (s2.heap.objs.size+1)=f7:=I.hok.fresh (Nat.le_succ _);have s:∀x c,X.env.cells.lookup x=e9 c→c<s2.heap.objs.size:=λx c e=>by
  obtain⟨v,q⟩:=I.cell x c e;exact q.lt
 have A:(s2.heap.push {cls:=.type "list",data:=.seq ([]:List Value).toArray}).objs.size=s2.heap.objs.size+1:=Heap.size_push _ _;have Ok:(X.fO scope cl (s2.heap.objs.size+1) M {s2 with heap:=s2.heap.push {cls:=.type "list",data:=.seq ([]:List Value).toArray}} H2 (s2.heap.objs.size::fp)).Ok:=by
  refine⟨I.ok.mod,B.kind,I.ok.glob,I.ok.blt,?_,?_,?_,?_,I.ok.hd,I.ok.frames,.inl rfl,?_,?_,?_,?_,?_,?_,?_⟩
  ·show(s2.heap.push _).objs.size≤s2.heap.objs.size+1;rw[A];exact Nat.le_refl _
  ·intro x y c R S;rcases d _ _ R with T| ⟨_,T,_⟩
   ·rcases d _ _ S with q2| ⟨_,q2,_⟩
    ·exact I.ok.inj x y c T q2
    ·exact absurd (Nat.lt_trans (Nat.lt_succ_of_lt (s x c T)) q2) (Nat.lt_irrefl _)
   ·exact U x y c R S T
  ·intro x hx;exact G x (oM hx)
  ·intro x c hx e;have q:=Y x c e (eq_of_beq hx);show(s2.heap.push _).objs.size≤c;rw[A];omega
  ·intro b a;rcases List.mem_cons.mp a with rfl|a
   ·refine⟨Nat.ne_of_lt (Nat.lt_succ_self _),λx c e=>?_⟩;rcases d _ _ e with q| ⟨_,q,_⟩
    ·exact Nat.ne_of_lt (s x c q)
    ·exact Nat.ne_of_gt (Nat.lt_trans (Nat.lt_succ_self _) q)
   ·refine⟨Nat.ne_of_lt (Nat.lt_succ_of_lt (t b a).2),λx c e=>?_⟩;rcases d _ _ e with q| ⟨_,q,_⟩
    ·exact(t b a).1.2.2.2.2.1 x c q
    ·exact Nat.ne_of_gt (Nat.lt_trans (Nat.lt_succ_of_lt (t b a).2) q)
  ·intro b o e;exact⟨f b o (I.bs b o e).1,(I.bs b o e).2⟩
  ·show X.base.objs.size≤(s2.heap.push _).objs.size;rw[A];exact Nat.le_succ_of_le (Nat.le_trans I.ok.bsz I.sz)
  ·intro b o e a;rcases List.mem_cons.mp a with rfl|a
   ·exact absurd (Heap.lt_size (I.bs _ _ e).1) (Nat.lt_irrefl _)
   ·have q:=(t b a).1.2.2.2.1;rcases q with q|q
    ·exact I.ok.noex b o e q
    ·exact absurd (Nat.lt_of_lt_of_le (Heap.lt_size (I.ok.bs b o e).1) q) (Nat.lt_irrefl _)
  ·intro b a H;have J:b∈frs X.stack:=H;rcases List.mem_cons.mp a with rfl|a
   ·rcases List.mem_cons.mp (I.iC _ J)with e|e
    ·exact absurd I.lt (by rw[←e];exact Nat.lt_irrefl _)
    ·exact I.FO (Nat.le_refl _) e
   ·rcases List.mem_cons.mp (I.iC _ J)with e|e
    ·exact(t b a).1.2.1 e
    ·exact(t b a).1.2.2.1 e
  ·have q:=I.stack;have all:∀(l:List Env),s2.heap.FunFrames X.base l→(s2.heap.push {cls:=.type "list",data:=.seq ([]:List Value).toArray}).FunFrames X.base l:=by
    intro l;induction l with
    |nil=>intro _;trivial
    |cons env r ih=>
     intro hl;obtain⟨hk,⟨L,o,H,hn,N,hd⟩,hr⟩:=hl;exact⟨hk,⟨L,o,H,hn,f L o N,hd⟩,ih hr⟩
   exact all _ q
  ·intro b a;exact I.uy b a
 refine⟨Ok,rfl,I.bare,?_,?_,?_,a1,?_,?_,I.hok.kept old,?_⟩
 ·refine Un.kept λb u e=>?_;exact F b u (by have:=Heap.lt_size e;rw[A]at this;exact this) e
 ·refine⟨_,Z,λi x v R S e3=>?_⟩;obtain⟨k,j,rfl,hk,hv⟩:=qp S;obtain⟨e4,n,e5,g,w⟩:=B.at' k j hk;have ex:x=n:=by
   have O:M[own+k]?=e9 x:=R;rw[e4,e5]at O;exact(j7 O).symm
  subst ex;obtain⟨m,_,hl⟩:=I.loc;have P:fB X.env.scope x:=by
   rcases w with h|h
   ·exact .inr (.inl h)
   ·exact .inr (.inr h)
  obtain⟨u,ru,lk⟩:=hl j x v e5 hv P;refine⟨u,ru,.inr ⟨?_,?_⟩⟩
  ·have q:=oK (scope:=scope) (env:=X.env) g;exact q.symm
  ·have E:∃c,X.env.cells.lookup x=e9 c∧s2.heap.IsCell c (e9 u):=by
    rcases lk with⟨q,_⟩ | ⟨_,q⟩
    ·rcases w with h|h
     ·rw[h]at q;cases q
     ·rw[h]at q;cases q
    ·exact q
   obtain⟨c,e6,e7⟩:=E;obtain⟨c',e8⟩:=G x (.inl (PySem.mem_of_lookup g));rcases d x c' e8 with Q| ⟨Q,_⟩
   ·rw[e6]at Q;cases Q;obtain⟨o,N,hd⟩:=e7;exact⟨c,e8,o,old c o N,hd⟩
   ·rw[g]at Q;cases Q
 ·intro x c e;rcases d _ _ e with q| ⟨_,_,q⟩
  ·obtain⟨v,o,N,hd⟩:=I.cell x c q;exact⟨v,o,old c o N,hd⟩
  ·exact⟨_,q⟩
 ·intro x c e;rcases d _ _ e with q| ⟨_,q,_⟩
  ·exact I.freeC x c q
  ·exact I.hok.fresh (by omega)
 ·intro p hp;have e:p=(s2.heap.objs.size,{cls:=.type "list",data:=.seq ([]:List Value).toArray}):=List.mem_singleton.mp hp;subst e;refine⟨hD,a0,Nat.ne_of_lt (Nat.lt_succ_self _),λH=>?_,λv z=>?_⟩
  ·rcases List.mem_cons.mp (I.iC _ H)with e|e
   ·exact absurd I.lt (by rw[←e];exact Nat.lt_irrefl _)
   ·exact I.FO (Nat.le_refl _) e
  ·have z':Data.seq ([]:List Value).toArray _=Data.cell v:=z;cases z'
 ·rw[seen_length];exact B.len.symm
theorem Inv.AQ{i:List Value}(I:Inv X pins σ H2 s2)
  (r:∀b∈fp,lP X pins H2 b)
  (J:Inv (X.fO scope cl (s2.heap.objs.size+1) M {s2 with heap:=s2.heap.push {cls:=.type "list",data:=.seq ([]:List Value).toArray}} H2 (s2.heap.objs.size::fp))
   [(s2.heap.objs.size,{cls:=.type "list",data:=.seq i.toArray n})] w H' s')
  (x:Vals p i) (y:p.length≤sizeLine) (hs:Heap.SameBut (s2.heap.objs.size+1) s'.heap h'):Inv X pins σ (upd H' s2.heap.objs.size (.lst p)) {s' with heap:=h'}:=by
 obtain⟨A,B,_,_,_⟩:=J.pin _ (List.mem_append_right _ (List.mem_singleton.mpr rfl));have E:H' (s2.heap.objs.size+1)=f7:=J.free;have kp:∀b o,b≠s2.heap.objs.size+1→s'.heap.get? b=e9 o→h'.get? b=e9 o:=λb o j e=>(hs.2 b j).trans e;have d:∀b o,s2.heap.get? b=e9 o→(s2.heap.push {cls:=.type "list",data:=.seq ([]:List Value).toArray}).get? b=e9 o:=λb o e=>Heap.get?_push_of_some _ e;have m:∀b o,s2.heap.get? b=e9 o→b≠s2.heap.objs.size:=λb o e=>Nat.ne_of_lt (Heap.lt_size e);have k:∀b o,s2.heap.get? b=e9 o→b≠s2.heap.objs.size+1:=λb o e=>Nat.ne_of_lt (Nat.lt_succ_of_lt (Heap.lt_size e));have f:∀b o,s2.heap.get? b=e9 o→b∉fp→b∉s2.heap.objs.size::fp:=λb o e h z=>(List.mem_cons.mp z).elim (m b o e) h;have neT:∀b u,H' b=e9 u→b≠s2.heap.objs.size:=λb u e z=>by rw[z,B]at e;cases e
 have g:∀b u,H' b=e9 u→b≠s2.heap.objs.size+1:=λb u e z=>by rw[z,E]at e;cases e
 refine I.Jd (s':={s' with heap:=h'}) (ch:=fp) J.os ?_ ?_ J.bare λb j=>?_
 ·refine⟨λb o e n j l=>?_,λb o e n j l=>?_,λb o e n l=>?_,λb o e l=>?_,λb xs e=>?_,λb o xs e=>?_,λb ps e=>?_⟩
  ·exact kp b o (k b o e) (J.base.keep b o (d b o e) n j (f b o e l))
  ·obtain⟨sl,q⟩:=J.base.slot b o (d b o e) n j (f b o e l);exact⟨sl,kp b _ (k b o e) q⟩
  ·rw[k0 (m b o e)];exact J.base.free b o (d b o e) n (f b o e l)
  ·obtain⟨o',q⟩:=J.base.there b o (d b o e) (f b o e l);exact⟨o',kp b _ (k b o e) q⟩
  ·have q:=J.base.tups b xs e;rw[k0 (neT b _ q)];exact q
  ·have q:=J.base.frzs b o xs e;rw[k0 (neT b _ q)];exact q
  ·obtain⟨more,q⟩:=J.base.tbls b ps e;rw[k0 (neT b _ q)];exact⟨more,q⟩
 ·intro a o e;by_cases t:a=s2.heap.objs.size
  ·subst t;rw[m3]at e;cases e;exact⟨y,i,n,x,kp _ _ (Nat.ne_of_lt (Nat.lt_succ_self _)) A⟩
  ·rw[k0 t]at e;refine(J.hok a o e).stay (λc v s q=>kp c v ?_ q) (λc q=>by rw[k0 (neT c _ q)];exact q) λc xs q=>by rw[k0 (neT c _ q)];exact q
   rcases s with rfl|s
   ·exact g c o e
   ·exact g c _ s
 ·obtain⟨f0,f1,L,F,G,H⟩:=r b j;exact⟨F,f1,G,H⟩
theorem ua{a:List Value}(e:s.heap.get? D=e9 {cls:=.type "list",data:=.seq a.toArray n}) (k:a.length≤sizeLine)
  (h:∀h' d,h'.get? D=e9 {cls:=.type "list",data:=.seq (a++[u]).toArray d}→(∀b o,b≠D→s.heap.get? b=e9 o→h'.get? b=e9 o)→Q .none {s with heap:=h'}):
  wpAny (model c w) A (call (.builtin "list.append") [.ref D,u]) Q E s:=by
 refine vP F.slot_list_append ⟨_,e,rfl⟩ F.entry_list_append (F.args_list_append_2 _ _) (PySem.list_append D a.toArray n u (by rw[List.size_toArray];omega)) ⟨e,?_⟩;have q:=PySem.IsL.update e (λxs=>xs.push u);have f:a.toArray.push u=(a++[u]).toArray:=by simp
 have g:(s.heap.update D (Obj.mapSeq λxs=>xs.push u)).get? D=e9 {cls:=.type "list",data:=.seq (a++[u]).toArray (if(a.toArray.push u).size==a.toArray.size then n else n+1)}:=by
  rw[←f];exact q
 exact h _ _ g λb o i j=>(Heap.get?_update_other s.heap _ (x8 i)).trans j
variable {scope:Scope}{M:List Str}{own:Nat}{fr:List Nat}{tg iter nZ:Expr}{mL:List Expr}{pos:Pos}{wi:TI}{g:TG}{tf:TT}{te:TE}
theorem rB(B:vL X scope M own fr)(hc:X.calm=f8)(hi:PI X tg iter wi)
  (hg:∀cl C s H ex,PG (X.fO scope cl C M s H ex) tg g) (hk:pU own fr g) (hf:∀cl C s H ex,PF (X.fO scope cl C M s H ex) mL tf) (he:∀cl C s H ex,PE (X.fO scope cl C M s H ex) nZ te)
  (hs:∀x,foldedSetIterable iter X.env x=pure x) (I:Inv X pins σ H s) (h:mS wi g tf te own fr σ H Q)
  (fin:∀(D C:Addr) (H':Hp) (j:Shared),(∃m,j.heap.Ns C m)→lP X pins H' C→Inv X pins σ H' j→Q (.ref D) H'→compPost (model X.prog X.w) X.A X.xe use Q' (.ref D) C (.ok .next) j):
  wpAny (model X.prog X.w) X.A (MY (.ListComp nZ [⟨tg,iter,mL,0⟩] scope pos) scope X.env (firstIterPos [⟨tg,iter,mL,0⟩] pos) (NL []) f6 (eval iter X.env) use) Q' X.xe s:=by
 obtain⟨cl,Y,Z,b8⟩:=tW (scope:=scope) (env:=X.env) λn hn=>I.ok.has n (B.free _ hn rfl);refine wpAny_comprehension_free (cl:=cl) rfl hs Y B.kind B.names ?_;refine F3 (hi pins s σ H _ I h) λv s1 h1=>F3 h1 λc5 s2 h2=>?_;obtain⟨it,fp,tn,J,H2,e,I2,T,a6,f2,W,⟨m0,w0⟩,a7⟩:=h2;subst e;refine D3 (sP ?_);dsimp only;have a0:(s2.heap.push {cls:=.type "list",dict:=f7,data:=.seq ([]:List Value).toArray}).objs.size=s2.heap.objs.size+1:=Heap.size_push _ _;have t:=(Heap.Ns.new (s2.heap.push {cls:=.type "list",dict:=f7,data:=.seq ([]:List Value).toArray}) (.type "dict")).keeps (Lq scope.names _);have P:∀b o,(s2.heap.push {cls:=.type "list",dict:=f7,data:=.seq ([]:List Value).toArray}).get? b=e9 o→(pushCells ((s2.heap.push {cls:=.type "list",dict:=f7,data:=.seq ([]:List Value).toArray}).push {cls:=.type "dict",data:=.dict #[]}) scope.names).get? b=e9 o:=λb o e=>Lq _ _ b o (Heap.get?_push_of_some _ e);have E:=cellsFrom_ok scope.names ((s2.heap.push {cls:=.type "list",dict:=f7,data:=.seq ([]:List Value).toArray}).push {cls:=.type "dict",data:=.dict #[]}) (s2.heap.objs.size+2) [] ⟨λ_ _ hm=>(nomatch hm),List.Pairwise.nil⟩ (by rw[Heap.size_push,a0];exact Nat.le_refl _);rw[Heap.size_push,a0]at E;rw[a0]at t⊢;generalize pushCells ((s2.heap.push {cls:=.type "list",dict:=f7,data:=.seq ([]:List Value).toArray}).push {cls:=.type "dict",data:=.dict #[]}) scope.names=h1 at t P E⊢;have a8:∀n n' c,(cellsFrom (s2.heap.objs.size+1+1) scope.names cl).lookup n=e9 c→(cellsFrom (s2.heap.objs.size+1+1) scope.names cl).lookup n'=e9 c→s2.heap.objs.size+1<c→n=n':=by
  intro n n' c e1 e2 a9;rcases gj e1 with⟨m1,_⟩ |q1
  ·rcases gj e2 with⟨m2,_⟩ |q2
   ·exact NM E.apart m1 m2
   ·obtain⟨v,q⟩:=I2.cell _ _ (Z _ _ q2);exact absurd (Nat.lt_trans (Nat.lt_succ_of_lt q.lt) a9) (Nat.lt_irrefl _)
  ·obtain⟨v,q⟩:=I2.cell _ _ (Z _ _ q1);exact absurd (Nat.lt_trans (Nat.lt_succ_of_lt q.lt) a9) (Nat.lt_irrefl _)
 have a3:∀n c,(cellsFrom (s2.heap.objs.size+1+1) scope.names cl).lookup n=e9 c→X.env.cells.lookup n=e9 c∨(scope.names.lookup n=e9 .cell∧s2.heap.objs.size+1<c∧h1.IsCell c f7):=by
  intro n c e;rcases gj e with⟨m1,_⟩ |q1
  ·obtain⟨a1,a2⟩:=E.empty n c m1;exact .inr ⟨B.cells _ (aS _ _ _ _ m1) rfl,by omega,a1⟩
  ·exact .inl (Z _ _ q1)
 have b0:∀n c,(cellsFrom (s2.heap.objs.size+1+1) scope.names cl).lookup n=e9 c→scope.names.lookup n=e9 .cell→s2.heap.objs.size+1<c:=by
  intro n c e hn;obtain⟨c0,b9⟩:=X3 scope.names (s2.heap.objs.size+1+1) n (mem_of_lookup hn);obtain⟨c',e'⟩:=bN b9;rw[A1,List.lookup_append,e']at e;cases e;have:=(E.empty n c (mem_of_lookup e')).2;omega
 have b1:∀n,(n,NameKind.free)∈scope.names∨(n,NameKind.cell)∈scope.names→∃c,(cellsFrom (s2.heap.objs.size+1+1) scope.names cl).lookup n=e9 c:=λn h=>rD (h.symm.imp id (b8 n));generalize cellsFrom (s2.heap.objs.size+1+1) scope.names cl=G at a8 a3 b0 b1⊢;have l:∀b∈fp,b<s2.heap.objs.size:=λb a=>by
  obtain⟨o,eo,_⟩:=T.obj _ _ a6 b a;exact Heap.lt_size eo
 have R:∀b o,b<s2.heap.objs.size+1→(s2.heap.push {cls:=.type "list",data:=.seq ([]:List Value).toArray}).get? b=e9 o→h1.get? b=e9 o:=λb o a e=>
  P b o e
 have b2:h1.Ns (s2.heap.objs.size+1) λ_=>f7:=t;have J0:=Inv.block (cl:=G) (h1:=h1) (fp:=fp) (t1:=s2.toks) B I2 a3 a8 b1 b0 (λb a=>⟨f2 b a,l b a⟩) b2 R;have b3:tn 0 h1:=T.keep _ _ _ a6 λb a o e=>R b o (Nat.lt_succ_of_lt (l b a)) (Heap.get?_push_of_some _ e)
 
 have F:∀{H':Hp} {o:Obj},(∀b∈fp,H' b=f7)→∀b∈fp,lP (X.fO scope G (s2.heap.objs.size+1) M {s2 with heap:=s2.heap.push {cls:=.type "list",data:=.seq ([]:List Value).toArray}} H2 (s2.heap.objs.size::fp)) [(s2.heap.objs.size,o)] H' b:=by
  intro H' o hn b a;obtain⟨f0,f1,ff,f3,f4,f5⟩:=f2 b a;refine⟨hn b a,Nat.ne_of_lt (Nat.lt_succ_of_lt (l b a)),λz=>?_,.inl (List.mem_cons_of_mem _ a),λx c e=>?_,λp hp z=>?_⟩
  ·rcases List.mem_cons.mp (I2.iC b z)with e|e
   ·exact f1 e
   ·exact ff e
  ·rcases a3 x c e with q| ⟨_,q,_⟩
   ·exact f4 x c q
   ·exact Nat.ne_of_gt (Nat.lt_trans (Nat.lt_succ_of_lt (l b a)) q)
  ·have e:p=(s2.heap.objs.size,o):=List.mem_singleton.mp hp;subst e;exact absurd (l b a) (by rw[←z];exact Nat.lt_irrefl _)
 have S:∀s3:Shared,s3={s2 with heap:=h1,toks:=s2.toks}→
   Z4 (model X.prog X.w) X.A (.compLoop (.ListComp nZ [⟨tg,iter,mL,0⟩] scope pos) 0 (.ref it) (.ref s2.heap.objs.size) (compEnvC scope G (s2.heap.objs.size+1) X.env))
    (compPost (model X.prog X.w) X.A X.xe use Q' (.ref s2.heap.objs.size) (s2.heap.objs.size+1)) s3:=by
  rintro s3 rfl
  refine pC (λn j=>∃(i:Nat) (τ:St) (H':Hp) (L:List V) (f:List Value) (k:Nat),Inv (X.fO scope G (s2.heap.objs.size+1) M {s2 with heap:=s2.heap.push {cls:=.type "list",data:=.seq ([]:List Value).toArray}} H2 (s2.heap.objs.size::fp)) [(s2.heap.objs.size,{cls:=.type "list",data:=.seq f.toArray k})] (seen own fr σ) H' j∧
   tn i j.heap∧(∀b∈fp,H' b=f7)∧Vals L f∧L.length≤sizeLine∧W i n L H') ?_ m0 ⟨0,seen own fr σ,H2,[],[],0,J0,b3,λb a=>(f2 b a).1,.nil,Nat.zero_le _,w0⟩
  rintro n s4 ⟨i,τ,H4,L,f,k,J4,b4,b5,hv4,hz4,w4⟩
  rcases a7 i n L H4 w4 with⟨stop,qn⟩ | ⟨go,hz,N,hN,step⟩
  ·refine F3 (T.done (X.fO scope G (s2.heap.objs.size+1) M {s2 with heap:=s2.heap.push {cls:=.type "list",data:=.seq ([]:List Value).toArray}} H2 (s2.heap.objs.size::fp)) rfl rfl rfl hc i _ s4 _ H4 _ J4 (F b5) b4 stop) λr s5 ⟨hr,J5⟩=>?_;subst hr;obtain⟨m5,c1,_⟩:=J5.loc;have nD:H4 s2.heap.objs.size=f7:=(J5.pin _ (List.mem_append_right _ (List.mem_singleton.mpr rfl))).2.1;exact fin s2.heap.objs.size (s2.heap.objs.size+1) _ s5 ⟨m5,c1⟩ (I2.xl (Nat.le_succ _) (by rw[k0 (Nat.ne_of_gt (Nat.lt_succ_self _))];exact J5.free)) (Inv.AQ I2 f2 J5 hv4 hz4 (.refl ..)) (qn _ nD)
  ·refine F3 (T.item (X.fO scope G (s2.heap.objs.size+1) M {s2 with heap:=s2.heap.push {cls:=.type "list",data:=.seq ([]:List Value).toArray}} H2 (s2.heap.objs.size::fp)) rfl rfl rfl hc i _ s4 _ H4 _ J4 (F b5) b4 go) λr s5 ⟨u,hr,h5⟩=>?_;subst hr;refine F3 h5 λ_ s6 ⟨x,H6,J6,r6,y6,a4,c2⟩=>?_;have c3:=J6.pinned (F c2) (T.obj _ _ a4);refine F3 (hg _ _ _ _ _ _ s6 _ H6 x u _ c3 r6 (hk _ _ _ _ (step x H6 y6))) λ_ s7 ⟨O,H7,J7,c4,q7⟩=>?_;refine F3 (hf _ _ _ _ _ _ s7 O H7 _ J7 q7) λok s8 ⟨H8,J8,q8⟩=>?_;have b6:∀{b7:St} {H':Hp} {j:Shared},Inv (X.fO scope G (s2.heap.objs.size+1) M {s2 with heap:=s2.heap.push {cls:=.type "list",data:=.seq ([]:List Value).toArray}} H2 (s2.heap.objs.size::fp)) ([(s2.heap.objs.size,{cls:=.type "list",data:=.seq f.toArray k})]++kR fp s6.heap) b7 H' j→
     tn (i+1) j.heap∧(∀b∈fp,H' b=f7):=λ{b7 H' j} K=>by
    refine⟨T.keep _ _ _ a4 λb a o e=>(K.pin (b,o) (List.mem_append_right _ (List.mem_append_right _ (cW a e)))).1,λb a=>?_⟩;obtain⟨o,e,d⟩:=T.obj _ _ a4 b a;exact(K.pin (b,o) (List.mem_append_right _ (List.mem_append_right _ (cW a e)))).2.1
   have U:∀{pl:List (Addr×Obj)} {H':Hp} {j:Shared},Inv (X.fO scope G (s2.heap.objs.size+1) M {s2 with heap:=s2.heap.push {cls:=.type "list",data:=.seq ([]:List Value).toArray}} H2 (s2.heap.objs.size::fp)) pl O H' j→Inv (X.fO scope G (s2.heap.objs.size+1) M {s2 with heap:=s2.heap.push {cls:=.type "list",data:=.seq ([]:List Value).toArray}} H2 (s2.heap.objs.size::fp)) pl (seen own fr σ) H' j:=λ{pl H' j} K=>K.weak (by rw[seen_length,K.len];exact B.len.symm) c4;cases ok with
   |false=>
    obtain⟨a5,hl⟩:=b6 J8;obtain⟨m',hm,w8⟩:=hN L H8 (by simpa using q8);exact⟨m',hm,i+1,seen own fr σ,H8,L,f,k,U J8.gD,a5,hl,hv4,hz4,w8⟩
   |true=>
    simp only[if_true]at q8⊢;refine F3 (he _ _ _ _ _ _ s8 O H8 _ J8 q8) λu9 s9 ⟨y,H9,J9,r9,q9⟩=>?_;obtain⟨a5,hl⟩:=b6 J9;obtain⟨m',hm,w9⟩:=hN (L++[y]) H9 q9;obtain⟨eD,nD,d1,d2,d3⟩:=J9.pin (s2.heap.objs.size,{cls:=.type "list",data:=.seq f.toArray k}) (List.mem_append_right _ (List.mem_append_left _ (List.mem_singleton.mpr rfl)));refine ua eD (by rw[←hv4.length];exact Nat.le_of_lt hz) λh' n' e' kp=>?_;have K0:Inv (X.fO scope G (s2.heap.objs.size+1) M {s2 with heap:=s2.heap.push {cls:=.type "list",data:=.seq ([]:List Value).toArray}} H2 (s2.heap.objs.size::fp)) [] O H9 s9:=J9.gV λp hp=>absurd hp (by simp);have K1:=K0.turned (t':=s9.toks) (h':=h') (it:=s2.heap.objs.size) kp nD d1 (.inl List.mem_cons_self) (λx c e=>(J9.ok.exf _ List.mem_cons_self).2 x c e) (λp hp=>absurd (show p∈([]:List (Addr×Obj))from hp) (by simp));have K2:=K1.gV (Es:=[(s2.heap.objs.size,{cls:=.type "list",data:=.seq (f++[u9]).toArray n'})]) λp hp=>by
     have e:p=_:=List.mem_singleton.mp hp;subst e;exact⟨e',nD,d1,d2,λv z=>by
      have z':Data.seq (f++[u9]).toArray _=Data.cell v:=z;cases z'⟩
    refine⟨m',hm,i+1,seen own fr σ,H9,L++[y],f++[u9],n',U K2,T.keep _ _ _ a5 λb a o e=>kp b o (Nat.ne_of_lt (l b a)) e,hl,hv4.append (.cons r9 .nil),by rw[List.length_append,List.length_singleton];exact hz,w9⟩
 exact codeAny_compStart_list (S _ rfl) (T.self X.A 0 _ _ _ b3 (S _ rfl))
theorem yR (B:vL X scope M own fr)(c:X.calm=f8)(hi:PI X tg iter wi)
  (d:∀cl C s H ex,PG (X.fO scope cl C M s H ex) tg g) (hk:pU own fr g) (f:∀cl C s H ex,PF (X.fO scope cl C M s H ex) mL tf) (i:∀cl C s H ex,PE (X.fO scope cl C M s H ex) nZ te)
  (hs:∀x,foldedSetIterable iter X.env x=pure x:=by intro _;rfl):PE X (.ListComp nZ [⟨tg,iter,mL,0⟩] scope pos) (mS wi g tf te own fr):=by
 intro pins s σ H Q I h;rw[eval_ListComp];refine rB (use:=f7) B c hi d hk f i hs I h λD C H' j ⟨m,k⟩ l n q=>?_;obtain⟨f0,f1,v,p,r,t⟩:=l;exact⟨m,k,λh' a=>⟨.ref D,H',n.turned (t':=j.toks) (λb o u e=>(a.2 b u).trans e) f0 f1 p r t,rfl,q⟩⟩
theorem Cc{d c:Pos}(B:vL X scope M own fr)(u:X.calm=f8)(w:X.N.Nodup)(A:X.N[i]?=e9 y)(p:X.env.kindOf y=e9 .local)(hi:PI X tg iter wi)
  (E:∀cl C s H ex,PG (X.fO scope cl C M s H ex) tg g) (hk:pU own fr g) (F:∀cl C s H ex,PF (X.fO scope cl C M s H ex) mL tf) (G:∀cl C s H ex,PE (X.fO scope cl C M s H ex) nZ te)
  (f:T2 (.ListComp nZ [⟨tg,iter,mL,0⟩] scope pos) (e9 (.Name y d)) c.line X.env=pure f8:=by with_unfolding_all rfl)
  (hs:∀x,foldedSetIterable iter X.env x=pure x:=by intro _;rfl):PS X (.Assign [.Name y d] (.ListComp nZ [⟨tg,iter,mL,0⟩] scope pos) c) (BI (mS wi g tf te own fr) (js i)):=by
 intro pins s σ H D I h;rw[exec_Assign_Name_used _ _ _ _ f];refine g8 (lR (g8 ?_));show wpAny _ _ (do let _←MY (.ListComp nZ [⟨tg,iter,mL,0⟩] scope pos) scope X.env _ (NL []) f6 (eval iter X.env) (e9 (lX (.Name y d) X.env))) _ _ s;refine g8 (z9 (rB (use:=e9 (lX (.Name y d) X.env)) (Q':=λ_ j=>SP X pins D .next j) B u hi E hk F G hs I h λr C H' j ⟨m,J⟩ L O q=>?_) (λ_ j P=>j5 (j5 P)) λ_ _ e=>e);obtain⟨f0,f1,Y,Q,t,R⟩:=L;show wpAny _ _ (lX (.Name y d) X.env (.ref r)) _ _ _;refine Js (mU O w A (.inl p) (v:=.ref r) rfl (λs2 S ⟨a,T,k⟩=>?_) (.inr p));have l:C≠a:=by
  rcases k with rfl|k
  ·exact f1
  ·exact λz=>t _ _ k z.symm
 refine⟨m,J.sameBut T l,λh' n=>?_⟩;exact⟨_,H',S.turned (t':=s2.toks) (λb o U e=>(n.2 b U).trans e) f0 f1 Q t R,q⟩
noncomputable def namesOk (scope:Scope)(fs:List Str):Bool:=scope.names.all λy=>(y.2 != .cell||scope.names.lookup y.1==e9 .cell)&&(y.2 != .free||fs.contains y.1)&&(y.2 != .local||scope.names.lookup y.1==e9 .local)
theorem vL.mk'(kind:scope.kind=.function)(h:namesOk scope fs=f8)(nd:M.Nodup)(len:M.length=own+fr.length)(hk:∀n∈fs,X.env.kindOf n=e9 .cell∨X.env.kindOf n=e9 .free)
  (at':∀i j,fr[i]?=e9 j→M[own+i]?=X.N[j]?∧∃n,X.N[j]?=e9 n∧scope.names.lookup n=e9 .free∧(X.env.kindOf n=e9 .cell∨X.env.kindOf n=e9 .free)):vL X scope M own fr:=by
 have h':=List.all_eq_true.mp h;refine⟨kind,λy b e=>?_,λy b e=>?_,λy b e=>?_,nd,len,at'⟩
 ·have q:=h' y b;simp only[k9]at q;have a:=q.1.1;rw[e]at a;simpa using a
 ·have q:=h' y b;simp only[k9]at q;have a:=q.2;rw[e]at a;simpa using a
 ·have q:=h' y b;simp only[k9]at q;have a:=q.1.2;rw[e]at a;exact hk y.1 (by simpa using a)
theorem Io(B:vL X scope (x::a) 1 fr)(hi:PI X (.Name x b) iter wi)(d:∀cl C s H ex,PF (X.fO scope cl C (x::a) s H ex) mL tf)(e:∀cl C s H ex,PE (X.fO scope cl C (x::a) s H ex) nZ te)
  (f:X.calm=f8:=by rfl) (c:scope.names.lookup x=e9 .local∨scope.names.lookup x=e9 .cell:=by first|exact .inl rfl|exact .inr rfl) (hs:∀x,foldedSetIterable iter X.env x=pure x:=by intro _;rfl):PE X (.ListComp nZ [⟨.Name x b,iter,mL,0⟩] scope pos) (mS wi (js 0) tf te 1 fr):=
 yR B f hi (λ_ _ _ _ _=>oN B.nd rfl (c.imp bB jg) (c.symm.imp (λh=>by show(scope.names.lookup x==e9 .cell)=f8;rw[h];rfl) bB)) (vd (by decide)) d e hs
theorem Ik{f a:Pos}(B:vL X scope (x::c) 1 fr)(j:X.N.Nodup)(hi:PI X (.Name x b) iter wi)(k:∀cl C s H ex,PF (X.fO scope cl C (x::c) s H ex) mL tf)(l:∀cl C s H ex,PE (X.fO scope cl C (x::c) s H ex) nZ te)
  (m:X.N[i]?=e9 y:=by rfl) (d:X.env.kindOf y=e9 .local:=by rfl) (n:X.calm=f8:=by rfl) (g:scope.names.lookup x=e9 .local∨scope.names.lookup x=e9 .cell:=by first|exact .inl rfl|exact .inr rfl)
  (e:T2 (.ListComp nZ [⟨.Name x b,iter,mL,0⟩] scope pos) (e9 (.Name y f)) a.line X.env=pure f8:=by with_unfolding_all rfl)
  (hs:∀x,foldedSetIterable iter X.env x=pure x:=by intro _;rfl):PS X (.Assign [.Name y f] (.ListComp nZ [⟨.Name x b,iter,mL,0⟩] scope pos) a) (BI (mS wi (js 0) tf te 1 fr) (js i)):=
 Cc B n j m d hi (λ_ _ _ _ _=>oN B.nd rfl (g.imp bB jg) (g.symm.imp (λh=>by show(scope.names.lookup x==e9 .cell)=f8;rw[h];rfl) bB)) (vd (by decide)) k l e hs
end
noncomputable abbrev tx (cs:List Nat):Str:=⟨cs.toArray⟩
theorem EF (x:Str):tx x.cps.toList=x:=by cases x;rfl
theorem xW:tx a=tx b↔a=b:=by
 constructor
 ·intro h;have e:a.toArray=b.toArray:=congrArg Str.cps h;simpa using e
 ·rintro rfl;rfl
theorem dW (a:List Nat):(tx a).length=a.length:=by show a.toArray.size=a.length;simp
theorem EG (a b:List Nat):tx a++tx b=tx (a++b):=by
 show Str.mk (a.toArray++b.toArray)=Str.mk (a++b).toArray;congr 1;simp
noncomputable def GR (x:Str):It:=⟨λi _=>i<x.cps.size,λi H v H'=>H'=H∧∃c,x.cps[i]?=e9 c∧v=.str ⟨#[c]⟩,λi _=>x.cps.size≤i⟩
theorem vW {P:Program}{w:World}{K:PySem.W.Frag}{tg:Expr}(x:Str)(t:Tok)(it:Addr):Turn P w K tg (GR x) [it] it (λi h=>h.IsStrIter it "str_ascii_iterator" x t i) where
 mem:=by simp
 obj:=λi h st b f=>by
  have e:b=it:=by simpa using f
  subst e;obtain⟨o,e,c,d⟩:=st;exact⟨o,e,λv z=>by rw[d]at z;cases z⟩
 keep:=λi h h' st k=>let⟨o,B,r⟩:=st;⟨o,k it (by simp) o B,r⟩
 item:=by
  intro X l m n A i pins s σ H E I j st p;subst l m n;obtain⟨f0,f1,F,q,u,y⟩:=j it (by simp);have a:i<x.cps.size:=p;refine wpAny_pyNext_ascii_item st (c:=x.cps[i]) (by simp[a]) λh' g G=>?_;have J:Inv X pins σ H {s with heap:=h',toks:=s.toks+1}:=I.turned (λb o f e=>(G.2 b f).trans e) f0 f1 q u y;obtain⟨o,e,c,d⟩:=id g;exact⟨_,rfl,eF (s:={s with heap:=h',toks:=s.toks+1}) e c d (by decide) ⟨.str ⟨#[x.cps[i]]⟩,H,J,⟨_,rfl⟩,⟨rfl,_,by simp[a],rfl⟩,g,λb f=>(j b f).1⟩⟩
 done:=by
  intro X l m n A i pins s σ H E I j st p;subst l m n;obtain⟨f0,f1,F,q,u,y⟩:=j it (by simp);have a:x.cps.size≤i:=p;exact wpAny_pyNext_ascii_end (I.ok.hd A) st (by simp[a]) λh' L=>⟨rfl,I.turned (t':=s.toks) (λb o f e=>L b o f e) f0 f1 q u y⟩
 self:=λ_ _ _ _ _ st h=>wpAny_pyIter_striter_ascii st h
theorem vV {P:Program}{w:World}{K:PySem.W.Frag}{tg:Expr}(x:Str)(t:Tok)(it:Addr):Turn P w K tg (GR x) [it] it (λi h=>h.IsStrIter it "str_iterator" x t i) where
 mem:=by simp
 obj:=λi h st b f=>by
  have e:b=it:=by simpa using f
  subst e;obtain⟨o,e,c,d⟩:=st;exact⟨o,e,λv z=>by rw[d]at z;cases z⟩
 keep:=λi h h' st k=>let⟨o,B,r⟩:=st;⟨o,k it (by simp) o B,r⟩
 item:=by
  intro X l m n A i pins s σ H E I j st p;subst l m n;obtain⟨f0,f1,F,q,u,y⟩:=j it (by simp);have a:i<x.cps.size:=p;refine wpAny_pyNext_wide_item st (c:=x.cps[i]) (by simp[a]) λh' g G=>?_;have J:Inv X pins σ H {s with heap:=h',toks:=s.toks+1}:=I.turned (λb o f e=>(G.2 b f).trans e) f0 f1 q u y;obtain⟨o,e,c,d⟩:=id g;exact⟨_,rfl,eF (s:={s with heap:=h',toks:=s.toks+1}) e c d (by decide) ⟨.str ⟨#[x.cps[i]]⟩,H,J,⟨_,rfl⟩,⟨rfl,_,by simp[a],rfl⟩,g,λb f=>(j b f).1⟩⟩
 done:=by
  intro X l m n A i pins s σ H E I j st p;subst l m n;obtain⟨f0,f1,F,q,u,y⟩:=j it (by simp);have a:x.cps.size≤i:=p;exact wpAny_pyNext_wide_end (I.ok.hd A) st (by simp[a]) λh' L=>⟨rfl,I.turned (t':=s.toks) (λb o f e=>L b o f e) f0 f1 q u y⟩
 self:=λ_ _ _ _ _ st h=>wpAny_pyIter_striter_wide st h
section
variable {X:Cx}
noncomputable def pB (cs:List Nat)(lo hi:Option Int):List Nat:=(cs.drop (HT.B4 cs.length 0 lo)).take (HT.B4 cs.length cs.length hi-HT.B4 cs.length 0 lo)
theorem tu (lo hi:Option Int)(n:Nat):Y6 lo hi 1 n=(List.range (HT.B4 n n hi-HT.B4 n 0 lo)).map λk=>HT.B4 n 0 lo+k:=by
 have c:∀(o:Option Int) (d:Nat) (f:Int),f=(d:Int)→(match o with|none=>f|some i=>(if(1:Int)>0 then max 0 (min (if i<0 then i+(n:Int)else i) (n:Int))else max (-1) (min (if i<0 then i+(n:Int)else i) ((n:Int)-1))))=((HT.B4 n d o:Nat):Int):=by
  intro o d f hd;cases o with
  |none=>exact hd
  |some i=>
   show(if(1:Int)>0 then max 0 (min (if i<0 then i+(n:Int)else i) (n:Int))else _)=(((if i<0 then(i+(n:Int)).toNat else min i.toNat n):Nat):Int)
   rw[if_pos (by decide)];by_cases h:i<0
   ·rw[if_pos h,if_pos h];omega
   ·rw[if_neg h,if_neg h];omega
 unfold Y6;have l:=c lo 0 (if(1:Int)>0 then 0 else(n:Int)-1) (by simp);have m:=c hi n (if(1:Int)>0 then(n:Int)else -1) (by simp);refine Eq.trans (b:=vN ((HT.B4 n 0 lo:Nat):Int) ((HT.B4 n n hi:Nat):Int) 1) ?_ ?_
 ·have e:∀a b g j:Int,a=g→b=j→vN a b 1=vN g j 1:=λ_ _ _ _ h h'=>by rw[h,h']
  exact e _ _ _ _ l m
 unfold vN;have e:(if(1:Int)>0 then(if((HT.B4 n 0 lo:Nat):Int)<((HT.B4 n n hi:Nat):Int)then(((HT.B4 n n hi:Nat):Int)-((HT.B4 n 0 lo:Nat):Int)+1-1) / 1 else 0)else(if((HT.B4 n 0 lo:Nat):Int)>((HT.B4 n n hi:Nat):Int)then(((HT.B4 n 0 lo:Nat):Int)-((HT.B4 n n hi:Nat):Int)-1-1) / (-1)else 0)).toNat=HT.B4 n n hi-HT.B4 n 0 lo:=by
  rw[if_pos (by decide)];split<;>omega
 simp only[]at e⊢;rw[e];refine List.map_congr_left λk _=>?_;omega
theorem Il (cs:List Nat)(i k:Nat)(h:i+k≤cs.length):((List.range k).map λm=>i+m).filterMap (cs.toArray[·]?)=(cs.drop i).take k:=by
 rw[List.filterMap_map];refine List.ext_getElem? λj=>?_;have key:∀(k i:Nat),i+k≤cs.length→(List.range k).filterMap (λm=>cs[i+m]?)=(cs.drop i).take k:=by
  intro k;induction k with
  |zero=>intro i _;simp
  |succ k ih=>
   intro i b;rw[List.range_succ,List.filterMap_append,ih i (by omega)];have a:i+k<cs.length:=by omega
   rw[List.take_add_one,List.getElem?_drop];simp[a]
 have e:((λx=>cs.toArray[x]?)∘λm=>i+m)=λm=>cs[i+m]?:=by
  funext m;simp
 rw[e,key k i h]
theorem uC (n d:Nat)(hd:d≤n)(o:Option Int):HT.B4 n d o≤n:=HT.yv n d hd o
theorem kD {cs:List Nat}{l u:Option (Int×Tok)}(g:cs.length≤sizeLine)(h:∀d k,Q (.str (tx (pB cs (l.map (·.1)) (u.map (·.1)))) d) {s with toks:=k}):(sliceMade (tx cs) t l u f7).post Q s:=by
 have a:(tx cs).length=cs.length:=dW cs;have c:Eu (tx cs) l u f7=(List.range (HT.B4 cs.length cs.length (u.map (·.1))-HT.B4 cs.length 0 (l.map (·.1)))).map λk=>HT.B4 cs.length 0 (l.map (·.1))+k:=by
  show Y6 (l.map (·.1)) (u.map (·.1)) 1 (tx cs).length=_;rw[a,tu]
 have i:=uC cs.length 0 (Nat.zero_le _) (l.map (·.1));have j:=uC cs.length cs.length (Nat.le_refl _) (u.map (·.1));unfold sliceMade;by_cases b:(((f7:Option (Int×Tok)).map (·.1)).getD 1==1&&(Eu (tx cs) l u f7).length==(tx cs).length)=f8
 ·rw[if_pos b];have hl:HT.B4 cs.length cs.length (u.map (·.1))-HT.B4 cs.length 0 (l.map (·.1))=cs.length:=by
   rw[k9]at b;have q:=eq_of_beq b.2;rw[c,a,List.length_map,List.length_range]at q;exact q
  have e:pB cs (l.map (·.1)) (u.map (·.1))=cs:=by
   unfold pB;rw[hl];by_cases f:cs.length=0
   ·have:cs=[]:=List.length_eq_zero_iff.mp f;subst this;simp
   ·have:HT.B4 cs.length 0 (l.map (·.1))=0:=by omega
    rw[this];simp
  have q:=h t s.toks;rw[e]at q;exact q
 ·rw[if_neg b];have e:(Eu (tx cs) l u f7).filterMap ((tx cs).cps[·]?)=pB cs (l.map (·.1)) (u.map (·.1)):=by
   rw[c];by_cases m:HT.B4 cs.length 0 (l.map (·.1))≤HT.B4 cs.length cs.length (u.map (·.1))
   ·exact Il cs _ _ (by omega)
   ·have z:HT.B4 cs.length cs.length (u.map (·.1))-HT.B4 cs.length 0 (l.map (·.1))=0:=by omega
    unfold pB;rw[z];simp
  rw[e];refine⟨?_,h _ _⟩;show(pB cs (l.map (·.1)) (u.map (·.1))).toArray.size≤sizeLine;unfold pB;rw[List.size_toArray,List.length_take,List.length_drop];omega
theorem EX:AU X (λx lo hi H Q=>∃cs:List Nat,x=.str (tx cs)∧cs.length≤1000000∧Q (.str (tx (pB cs lo hi))) H):=by
 intro pins s σ H x v b c lo hi sl Q I d hs pl pu h;obtain⟨cs,rfl,r,q⟩:=h;obtain⟨t,rfl⟩:=d;refine⟨"str",_,F.slot_str_getitem.lookup,Hs s (tx cs) t,?_⟩;obtain⟨o,e,f,hd⟩:=hs;have key:∀(l u:Option (Int×Tok)),b=partValue l→c=partValue u→l.map (·.1)=lo→u.map (·.1)=hi→wpAny (model X.prog X.w) X.A (gq (.str (tx cs) t) (.ref sl)) (EP X pins σ Q) X.xe s:=by
  intro l u g m n p;subst g m;refine wpAny_getItem_str_slice (l:=l) (u:=u) (st:=f7) ⟨o,e,f,hd⟩ rfl (kD (by rw[v0];omega) λy k=>?_);rw[n,p];exact⟨.str _,H,I.tok k,⟨_,rfl⟩,q⟩
 cases pl with
 |none=>
  cases pu with
  |none=>exact key f7 f7 rfl rfl rfl rfl
  |int j a=>exact key f7 (e9 (j,a)) rfl rfl rfl rfl
 |int i ti=>
  cases pu with
  |none=>exact key (e9 (i,ti)) f7 rfl rfl rfl rfl
  |int j a=>exact key (e9 (i,ti)) (e9 (j,a)) rfl rfl rfl rfl
theorem all_range (bs:List Bool):(List.range bs.length).all (λi=>bs.getD i f6)=bs.all id:=by
 have key:∀(bs pre:List Bool),(List.range' pre.length bs.length).all (λi=>(pre++bs).getD i f6)=bs.all id:=by
  intro bs;induction bs with
  |nil=>intro pre;rfl
  |cons b r ih=>
   intro pre;have q:=ih (pre++[b]);rw[List.length_cons,List.range'_succ,List.all_cons,List.all_cons];have e:(pre++b::r).getD pre.length f6=b:=by simp
   have a:pre++b::r=(pre++[b])++r:=by simp
   rw[e,a];have c:(pre++[b]).length=pre.length+1:=by simp
   rw[c]at q;rw[q];rfl
 have q:=key bs [];simpa[List.range_eq_range']using q
theorem any_range (bs:List Bool):(List.range bs.length).any (λi=>bs.getD i f6)=bs.any id:=by
 have key:∀(bs pre:List Bool),(List.range' pre.length bs.length).any (λi=>(pre++bs).getD i f6)=bs.any id:=by
  intro bs;induction bs with
  |nil=>intro pre;rfl
  |cons b r ih=>
   intro pre;have q:=ih (pre++[b]);rw[List.length_cons,List.range'_succ,List.any_cons,List.any_cons];have e:(pre++b::r).getD pre.length f6=b:=by simp
   have a:pre++b::r=(pre++[b])++r:=by simp
   rw[e,a];have c:(pre++[b]).length=pre.length+1:=by simp
   rw[c]at q;rw[q];rfl
 have q:=key bs [];simpa[List.range_eq_range']using q
theorem nS {bs:List Bool}{a:List Value}{i:Nat}{v:Value}(r:Vals (bs.map V.bl) a)(h:a[i]?=e9 v):v=.bool (bs.getD i f6):=by
 have hi:i<a.length:=(List.getElem?_eq_some_iff.mp h).1;have hl:=r.length;rw[List.length_map]at hl;have b:i<bs.length:=by omega
 obtain⟨u,c,d⟩:=r.get (i:=i) (x:=V.bl bs[i]) (by simp[b]);rw[h]at c;cases c;have e:bs.getD i f6=bs[i]:=by simp[b]
 rw[e];exact d
theorem AL (f:X.calm=f8):J3 X (.builtin "all") (λxs H Q=>∃(p:Addr) (bs:List Bool),xs=[.ref p]∧P7 X.K H p (bs.map V.bl)∧Q (.bl (bs.all id)) H):=by
 intro pins s σ H xs us Q I r h;obtain⟨p,bs,rfl,g,q⟩:=h;obtain⟨u,rfl,j⟩:=vals1 r;cases j;obtain⟨a,d,pl,y⟩:=I.list g;have c:a.toArray.size=bs.length:=by
  rw[List.size_toArray,←d.length,List.length_map]
 have k:p<s.heap.objs.size:=by
  obtain⟨o,l,_⟩:=pl.isList;exact Heap.lt_size l
 refine call_all_walk (K3 pl.isList ?_);refine⟨s.heap.objs.size,_,_,a.toArray.size,_,_,λi=>bs.getD i f6,rfl,Kb (A:=X.A.in1) (I.ok.hd f) s.heap.objs.size p (Nat.ne_of_lt k) a.toArray,And.intro ⟨_,Heap.get?_push_size _ rfl,rfl,rfl⟩ (pl.isList.at λo e=>Heap.get?_push_of_some _ e),λi v s1 B E m n=>?_,λh' t hk=>?_⟩
 ·have w:v=.bool (bs.getD i f6):=nS d (by simpa using m);subst w;exact R4 n
 ·rw[c,all_range];refine⟨.bl _,H,I.kept (t':=t) λb o e=>hk b o (λz=>?_) (Heap.get?_push_of_some _ e),rfl,q⟩;have x:b=s.heap.objs.size:=by simpa using z
  subst x;exact absurd (Heap.lt_size e) (Nat.lt_irrefl _)
theorem AK (f:X.calm=f8):J3 X (.builtin "any") (λxs H Q=>∃(p:Addr) (bs:List Bool),xs=[.ref p]∧P7 X.K H p (bs.map V.bl)∧Q (.bl (bs.any id)) H):=by
 intro pins s σ H xs us Q I r h;obtain⟨p,bs,rfl,g,q⟩:=h;obtain⟨u,rfl,j⟩:=vals1 r;cases j;obtain⟨a,d,pl,y⟩:=I.list g;have c:a.toArray.size=bs.length:=by
  rw[List.size_toArray,←d.length,List.length_map]
 have k:p<s.heap.objs.size:=by
  obtain⟨o,l,_⟩:=pl.isList;exact Heap.lt_size l
 refine call_any_walk (K3 pl.isList ?_);refine⟨s.heap.objs.size,_,_,a.toArray.size,_,_,λi=>bs.getD i f6,rfl,Kb (A:=X.A.in1) (I.ok.hd f) s.heap.objs.size p (Nat.ne_of_lt k) a.toArray,And.intro ⟨_,Heap.get?_push_size _ rfl,rfl,rfl⟩ (pl.isList.at λo e=>Heap.get?_push_of_some _ e),λi v s1 B E m n=>?_,λh' t hk=>?_⟩
 ·have w:v=.bool (bs.getD i f6):=nS d (by simpa using m);subst w;exact R4 n
 ·rw[c,any_range];refine⟨.bl _,H,I.kept (t':=t) λb o e=>hk b o (λz=>?_) (Heap.get?_push_of_some _ e),rfl,q⟩;have x:b=s.heap.objs.size:=by simpa using z
  subst x;exact absurd (Heap.lt_size e) (Nat.lt_irrefl _)
end
def Def (K:PySem.W.Frag)(mg:Str→Option Value)(x:Str)(st:Stmt)(ps:List Str):Prop:=
 ∃(f:Addr) (fd:FuncData),bc K x x st f fd∧(∀us:List Value,us.length=ps.length→og fd ⟨us,[]⟩=pure (ps.zip us))∧mg x=e9 (.ref f)
theorem GF {K:PySem.W.Frag}{h:Heap}{mg:Str→Option Value}{x:Str}{st:Stmt}{ps:List Str}{f:Addr}{od an:Option Addr}{sl:Array (Option Value)}{oc kV e pm d ct:Value}(X:K.In h)(G:h.Ns l6 mg)
  (a:PySem.W.nsIn K l6 x=e9 (e9 (.ref f))) (l:K.lookup f=e9 ⟨oc,od,.func (PySem.W.fnOf x x (U6 st) (G7 st) (j8 st) .none kV e pm an d ct),sl⟩) (c:PySem.W.codeIn K d x=f8) (k:PySem.W.keepIn K (.ref f)=f8)
  (b:∀(kV doc pm:Value) (an:Option Addr) (cdv ct:Value) (us:List Value),us.length=ps.length→og (PySem.W.fnOf x x (U6 st) (G7 st) (j8 st) .none kV doc pm an cdv ct) ⟨us,[]⟩=pure (ps.zip us)):Def K mg x st ps:=
 ⟨f,_,Ab (st:=st) l c k,λus hl=>b kV e pm an d ct us hl,PySem.W.mg_of X G a⟩
def eM (P:Program)(w:World)(K:PySem.W.Frag)(mg:Str→Option Value)(base:Heap)(k:Nat)(x:Str)(ps:List Str)(sp:Sp):Prop:=
 ∃(f:Addr) (fd:FuncData),x5 P w K mg base V2 k f fd ps sp∧Binds K fd ps []∧mg x=e9 (.ref f)∧PySem.W.keepIn K (.ref f)=f8
theorem Def.has {P:Program}{w:World}{K:PySem.W.Frag}{mg:Str→Option Value}{base:Heap}{k:Nat}{x:Str}{st:Stmt}{ps:List Str}{sp:Sp}(D:Def K mg x st ps)(h:∀f fd,bc K x x st f fd→x5 P w K mg base V2 k f fd ps sp):eM P w K mg base k x ps sp:=by
 obtain⟨f,fd,F,b,m⟩:=D;exact⟨f,fd,h f fd F,Binds.all b,m,F.kp⟩
def DI (mg:Str→Option Value)(x:Str)(v:V):Prop:=∃u,mg x=e9 u∧RelV v u
theorem GK {K:PySem.W.Frag}(X:K.In h)(G:h.Ns l6 mg)(a:PySem.W.nsIn K l6 x=e9 (e9 u))(r:RelV v u):DI mg x v:=⟨u,PySem.W.mg_of X G a,r⟩
section
variable {X:Cx}{k:Nat}{x:Str}{ps:List Str}{sp:Sp}{e:Expr}{es:List Expr}{t:TA}{p pos:Pos}
theorem Iq (h:eM X.prog X.w X.K X.mg X.base k x ps sp)(hr:O8 k X.A)(d:PA X (e::es) t)(g:Gl X x:=by rfl)(a:(x==("__debug__":Str))=f6:=by decide)
  (i:h8 (e::es) X.env=(f6,eval e X.env)::h8 es X.env:=by rfl) (c:(m4 pos (h8 es X.env)).any (·.1)=f6:=by rfl):PE X (.Call (.Name x p) (e::es) [] pos) (yb sp [] E0 t):=by
 obtain⟨f,fd,F,b,m,kp⟩:=h;exact Cq F hr g m kp b .nil yX d a i c
theorem KF(h:DI X.mg x v)(a:Gl X x:=by rfl)(hd:(x==("__debug__":Str))=f6:=by decide):PE X (.Name x pos) (tC v):=by
 obtain⟨u,m,r⟩:=h;exact Cm a m r hd
theorem MF(a:X.mg x=f7)(b:K4 x=e9 (.type n))(c:Gl X x:=by rfl)(d:x≠"__name__":=by decide) (hd:(x==("__debug__":Str))=f6:=by decide):PE X (.Name x pos) (tC (.ty n)):=Cr c a b rfl d hd
end
theorem aE(h:H p=f7)(o:HO):j6 H (upd H p o):=λb u q=>by rw[k0 (t9 q h)];exact q
theorem j6.tup {K:PySem.W.Frag}{H H':Hp}{a:Addr}{xs:List V}(e:j6 H H')(h:bz K H a xs):bz K H' a xs:=by
 rcases h with(h| ⟨o,h⟩) |h
 ·exact .inl (.inl (e _ _ h))
 ·exact .inl (.inr ⟨o,e _ _ h⟩)
 ·exact .inr h
noncomputable def yg (K:PySem.W.Frag):Sp:=λvs H Q _=>∃(a:Addr) (ns:List Int),vs=[.ref a]∧P7 K H a (ns.map V.int)∧ns.length≤63∧∀H',Q (.bl f8) H'
theorem Ga {P:Program}{w:World}{K:PySem.W.Frag}{mg:Str→Option Value}{a:Addr}{k:Nat}{st:Stmt}{x n:Str}{sp:Sp}(D:Def K mg n st [x])(c:mg n=e9 (.ref a))
  (h:∀f fd,bc K n n st f fd→∀base:Heap,K.In base→base.Ns l6 mg→x5 P w K mg base V2 k f fd [x] sp):
  ∃fd:FuncData,(∀(s:Shared) (u:Value),uo s fd ⟨[u],[]⟩ [(x,u)])∧∀base:Heap,K.In base→base.Ns l6 mg→x5 P w K mg base V2 k a fd [x] sp:=by
 obtain⟨f,fd,F,b,m⟩:=D;have e:a=f:=by
  have e:=j7 (c.symm.trans m);injection e
 subst e;exact⟨fd,λs u=>.of_eq (b [u] rfl),h a fd F⟩
noncomputable def jv (ns:List Int)(k:Int):Int:=if ns.isEmpty then 0 else ns.getD (k % (ns.length:Int)).toNat 0
noncomputable def E9 (ns:List Int)(k:Int):Int:=
 ((jv ns k+104729*(k+1)) % 4294967291*48271 % 4294967279 / 64*69621+(jv ns k+104729*(k+1)) % 4294967291*48271 % 4294967279) % 4294967231
theorem Dz(h:ns≠[]):fA (ns.map V.int) (k % ((ns.map V.int).length:Int))=e9 (.int (jv ns k)):=by
 have hl:0<ns.length:=List.length_pos_iff.mpr h;have c:0≤k % (ns.length:Int):=C9 _ (by omega);have d:k % (ns.length:Int)<ns.length:=A8 _ (by omega);rw[List.length_map];have e:k % (ns.length:Int)=(((k % (ns.length:Int)).toNat:Nat):Int):=by omega
 rw[e];refine ic ?_;rw[List.getElem?_map,List.getElem?_eq_getElem (by omega)];unfold jv;have b:ns.isEmpty=f6:=by cases ns with
  |nil=>exact absurd rfl h
  |cons a r=>rfl
 rw[b];simp only[Bh,if_false,t6,fP,V.int.injEq];rw[List.getD_eq_getElem?_getD,List.getElem?_eq_getElem (by omega)];rfl
section
variable {X:Cx}
theorem lM (G:X.calm=f8):J3 X (.type "list") (λxs H Q=>∃a kvs,xs=[.ref a]∧Rd H a (.dK kvs)∧∀p,H p=f7→Q (.ref p) (upd H p (.lst (kvs.map λkv=>kV kv.1)))):=by
 intro pins s σ H xs us Q I r h;obtain⟨a,kvs,rfl,J,q⟩:=h;obtain⟨u,rfl,L⟩:=vals1 r;cases L;obtain⟨z,N,vs,g,O⟩:=S7 I.hok J;obtain⟨ep,l⟩:=O.dictAt;have B:=g.length;refine PySem.W.kdl_call (PySem.W.kdl_dict (knd:=r0 X.prog X.w) (kvs:=vs) (ep:=ep) N) (I.ok.hd G) l (by omega) λh' P d c kp e b=>?_;refine⟨.ref s.heap.objs.size,_,I.laid (a:=s.heap.objs.size) (o:=.lst (kvs.map λkv=>kV kv.1)) (t':=P) kp (Nat.le_refl _) ?_,rfl,q _ I.fresh⟩;refine⟨by rw[List.length_map];exact z,d.toList,c,?_,by simpa using e⟩;have R:d.toList.length=vs.length:=by rw[J1];exact b.1
 have key:∀(m:List (Key×V)) (us:List (Key×Value)) (f:List Value),KV m us→f.length=us.length→(∀(j:Nat) v,f[j]?=e9 v→∃k x,us[j]?=e9 (k,x)∧(r0 X.prog X.w).is k v=f8)→Vals (m.map λkv=>kV kv.1) f:=by
  intro m us f E;unfold KV at E;induction E generalizing f with
  |nil=>
   intro hl _;have:f=[]:=List.length_eq_zero_iff.mp hl;subst this;exact .nil
  | @cons p q ps qs n _ ih=>
   intro hl F;cases f with
   |nil=>simp at hl
   |cons v r=>
    obtain⟨k,x,S,T⟩:=F 0 v rfl;have U:q=(k,x):=j7 S;refine .cons ?_ (ih r (by simpa using hl) λj Y A=>F (j+1) Y A);have Z:p.1=k:=by rw[n.1,U]
    show RelV (kV p.1) v;rw[Z];have e5:hH k v=f8:=T;rcases x9 e5 with⟨i,t,rfl,rfl⟩ | ⟨y,t,rfl,rfl⟩
    ·exact⟨t,rfl⟩
    ·exact⟨t,rfl⟩
 exact key kvs vs d.toList g R λj v hv=>b.2 j v (by rw[←fk];exact hv)
end
section
variable {X:Cx}{K:PySem.W.Frag}
theorem xG (b:X.K=K):J3 X (.builtin "len") (λxs H Q=>∃p a,xs=[.ref p]∧(P7 K H p a∨bz K H p a)∧Q (.int a.length) H):=by subst b;exact pK
theorem qU (a:X.K=K):AW X (Ff K):=by subst a;exact CQ
theorem uW (a:X.K=K):AW X (Fe K):=by subst a;exact Gg
theorem xJ (a:X.K=K)(b:X.calm=f8):J3 X (.builtin "all") (λxs H Q=>∃(p:Addr) (bs:List Bool),xs=[.ref p]∧P7 K H p (bs.map V.bl)∧Q (.bl (bs.all id)) H):=by subst a;exact AL b
theorem xI (a:X.K=K)(b:X.calm=f8):J3 X (.builtin "any") (λxs H Q=>∃(p:Addr) (bs:List Bool),xs=[.ref p]∧P7 K H p (bs.map V.bl)∧Q (.bl (bs.any id)) H):=by subst a;exact AK b
end
end L2
namespace L3
open PySem PySem.Spec PyProof.Rows L2
noncomputable abbrev St:=L2.St
inductive D where
 |v1|bl (b:Bool) |int (i:Int) |str (cs:List Nat) |ty (n:String)
 |tup (xs:List D) |lst (xs:List D) |dct (kvs:List (Key×D))
instance:Inhabited D:=⟨.v1⟩
inductive Rep (K:PySem.W.Frag) (G:Hp):V→D→Prop
 |v1:Rep K G .v1 .v1
 |bl (b:Bool):Rep K G (.bl b) (.bl b)
 |int (i:Int):Rep K G (.int i) (.int i)
 |str (cs:List Nat):Rep K G (.str (tx cs)) (.str cs)
 |ty (n:String):Rep K G (.ty n) (.ty n)
 |tup {a:Addr} {xs:List V} {ds:List D} (h:bz K G a xs) (hl:xs.length=ds.length) (hr:∀(j:Nat) x d,xs[j]?=some x→ds[j]?=some d→Rep K G x d):Rep K G (.ref a) (.tup ds)
 |lst {a:Addr} {xs:List V} {ds:List D} (h:P7 K G a xs) (hl:xs.length=ds.length) (hr:∀(j:Nat) x d,xs[j]?=some x→ds[j]?=some d→Rep K G x d):Rep K G (.ref a) (.lst ds)
 |dct {a:Addr} {kvs:List (Key×V)} {es:List (Key×D)} (h:Rd G a (.dK kvs)) (hk:kvs.map (·.1)=es.map (·.1)) (hr:∀(j:Nat) p e,kvs[j]?=some p→es[j]?=some e→Rep K G p.2 e.2):Rep K G (.ref a) (.dct es)
theorem Rd.same(s:j6 G G')(h:Rd G a u):Rd G' a u:=by
 rcases h with h| ⟨o,h⟩
 ·exact .inl (s _ _ h)
 ·exact .inr ⟨o,s _ _ h⟩
theorem _root_.L2.dS.r(e:Rd H a (.dK kvs)):dS H a (kV k) (aW kvs k):=.inl ⟨kvs,k,e,rfl,rfl⟩
theorem Rep.same {K:PySem.W.Frag}{G G':Hp}(s:j6 G G'){v:V}{d:D}(h:Rep K G v d):Rep K G' v d:=by
 induction h with
 |v1=>exact .v1
 |bl b=>exact .bl b
 |int i=>exact .int i
 |str cs=>exact .str cs
 |ty n=>exact .ty n
 |tup h hl _ ih=>exact .tup (s.tup h) hl ih
 |lst h hl _ ih=>exact .lst (s.seq h) hl ih
 |dct h hk _ ih=>exact .dct (L3.Rd.same s h) hk ih
structure o9 (K:PySem.W.Frag) (G:Hp) (xs:List V) (ds:List D):Prop where
 len:xs.length=ds.length
 get:∀(j:Nat) x d,xs[j]?=some x→ds[j]?=some d→Rep K G x d
structure l9 (K:PySem.W.Frag) (G:Hp) (kvs:List (Key×V)) (es:List (Key×D)):Prop where
 keys:kvs.map (·.1)=es.map (·.1)
 get:∀(j:Nat) p e,kvs[j]?=some p→es[j]?=some e→Rep K G p.2 e.2
section
variable {K:PySem.W.Frag}{G G' H:Hp}
theorem o9.same (s:j6 G G')(h:o9 K G xs ds):o9 K G' xs ds:=⟨h.len,λj x d a b=>(h.get j x d a b).same s⟩
theorem l9.same (s:j6 G G')(h:l9 K G kvs es):l9 K G' kvs es:=⟨h.keys,λj x d a b=>(h.get j x d a b).same s⟩
theorem o9.nil:o9 K G [] []:=⟨rfl,λj x d h=>by simp at h⟩
theorem o9.cons {x:V}{d:D}{xs:List V}{ds:List D}(h:Rep K G x d)(r:o9 K G xs ds):o9 K G (x::xs) (d::ds):=by
 refine⟨by simp[r.len],λj y e a b=>?_⟩;cases j with
 |zero=>simp at a b;subst a b;exact h
 |succ j=>exact r.get j y e (by simpa using a) (by simpa using b)
theorem o9.head(r:o9 K G (x::xs) (d::ds)):Rep K G x d:=r.get 0 x d rfl rfl
theorem o9.tail(r:o9 K G (x::xs) (d::ds)):o9 K G xs ds:=⟨by have:=r.len;simpa using this,λj y e a b=>r.get (j+1) y e (by simpa using a) (by simpa using b)⟩
theorem o9.append(h:o9 K G xs ds)(r:o9 K G c es):o9 K G (xs++c) (ds++es):=by
 refine⟨by simp[h.len,r.len],λj x d a b=>?_⟩;by_cases e:j<xs.length
 ·rw[List.getElem?_append_left e]at a;rw[List.getElem?_append_left (by rw[←h.len];exact e)]at b;exact h.get j x d a b
 ·rw[List.getElem?_append_right (by omega)]at a;rw[List.getElem?_append_right (by rw[←h.len];omega),←h.len]at b;exact r.get _ x d a b
theorem o9.one(h:Rep K G x d):o9 K G [x] [d]:=.cons h .nil
theorem o9.at {xs:List V}{ds:List D}(h:o9 K G xs ds){j:Nat}{d:D}(e:ds[j]?=e9 d):∃x,xs[j]?=e9 x∧Rep K G x d:=by
 have a:j<xs.length:=by rw[h.len];exact(List.getElem?_eq_some_iff.mp e).1
 exact⟨xs[j],by simp[a],h.get j _ d (by simp[a]) e⟩
theorem o9.KZ {xs:List V}{ds:List D}(h:o9 K G xs ds){j:Nat}{x:V}(e:xs[j]?=e9 x):∃d,ds[j]?=e9 d∧Rep K G x d:=by
 have a:j<ds.length:=by rw[←h.len];exact(List.getElem?_eq_some_iff.mp e).1
 exact⟨ds[j],by simp[a],h.get j x _ e (by simp[a])⟩
theorem o9.take(h:o9 K G xs ds)(n:Nat):o9 K G (xs.take n) (ds.take n):=by
 refine⟨by simp[h.len],λj x d a b=>?_⟩;rw[List.getElem?_take]at a b;by_cases c:j<n
 ·rw[if_pos c]at a b;exact h.get j x d a b
 ·rw[if_neg c]at a;cases a
theorem o9.drop {xs:List V}{ds:List D}(h:o9 K G xs ds)(n:Nat):o9 K G (xs.drop n) (ds.drop n):=by
 refine⟨by simp[h.len],λj x d a b=>?_⟩;rw[List.getElem?_drop]at a b;exact h.get _ x d a b
theorem o9.set(h:o9 K G xs ds)(i:Rep K G x d)(n:Nat):o9 K G (xs.set n x) (ds.set n d):=by
 refine⟨by simp[h.len],λj y e a b=>?_⟩;by_cases g:n=j
 ·subst g;rw[List.getElem?_set_self']at a b;cases c:xs[n]? with
  |none=>rw[c]at a;simp at a
  |some _=>
   cases f:ds[n]? with
   |none=>rw[f]at b;simp at b
   |some _=>
    rw[c]at a;rw[f]at b;simp at a b;subst a b;exact i
 ·rw[List.getElem?_set_ne g]at a b;exact h.get j y e a b
theorem o9.ka (ns:List Int):o9 K G (ns.map V.int) (ns.map D.int):=by
 refine⟨by simp,λj x d a b=>?_⟩;rw[List.getElem?_map]at a b;cases h:ns[j]? with
 |none=>rw[h]at a;cases a
 |some n=>rw[h]at a b;cases a;cases b;exact .int n
end
inductive C where
 |sh (d:D) |ow (l:Bool) (d:D) |fz (es:List (Key×D)) |ob (l:Bool) (fds:List (Str×D)) |rd (fds:List (Str×D))
noncomputable def Gj:C→Bool
 |.ob _ _=>f8
 |.rd _=>f8
 |_=>f6
noncomputable abbrev l5:=List (Option C)
inductive W where
 |val (d:D) |slot (i:Nat) |own (d:D)
structure Bs where
 K:PySem.W.Frag
 H0:Hp
 HK:Hp
 G0:Hp
 L:Nat→Option Addr
 O:Option (Nat×Nat×Addr):=none
noncomputable def Bs.gh (B:Bs)(i:Nat):Bool:=match B.O with
 |some (_,j,_)=>decide (i=j)
 |none=>f6
noncomputable def Ji (B:Bs)(i:Nat):Bool→Addr→Prop
 |true,p=>B.L i=e9 p∨(B.gh i=f8∧B.L i=f7∧B.H0 p=f7)
 |false,p=>B.H0 p=f7
noncomputable def B2 (K:PySem.W.Frag)(G H:Hp)(p:Addr):D→Prop
 |.lst ds=>∃xs,H p=e9 (.lst xs)∧o9 K G xs ds
 |.dct es=>∃kvs,H p=e9 (.dK kvs)∧l9 K G kvs es
 |_=>False
theorem B2.some {K:PySem.W.Frag}{G H:Hp}{p:Addr}{d:D}(h:B2 K G H p d):∃o,H p=e9 o:=by
 cases d with
 |lst ds=>obtain⟨xs,e,_⟩:=h;exact⟨_,e⟩
 |dct es=>obtain⟨xs,e,_⟩:=h;exact⟨_,e⟩
 |_=>exact(show False from h).elim
theorem B2.same {K:PySem.W.Frag}{G G' H H':Hp}{p:Addr}{d:D}(s:j6 G G')(e:H' p=H p)(h:B2 K G H p d):B2 K G' H' p d:=by
 cases d with
 |lst ds=>obtain⟨xs,q,r⟩:=h;exact⟨xs,by rw[e];exact q,r.same s⟩
 |dct es=>obtain⟨xs,q,r⟩:=h;exact⟨xs,by rw[e];exact q,r.same s⟩
 |_=>exact(show False from h).elim
def FZ (K:PySem.W.Frag)(G:Hp)(σ:St)(ρ:l5):Prop:=∀(i:Nat) es,ρ[i]?=e9 (e9 (.fz es))→∃a o kvs,σ[i]?=e9 (e9 (.ref a))∧G a=e9 (.cH o (.dK kvs))∧l9 K G kvs es
theorem FZ.same {K:PySem.W.Frag}{G G':Hp}{σ:St}{ρ:l5}(h:FZ K G σ ρ)(s:j6 G G'):FZ K G' σ ρ:=λi es e=>by
 obtain⟨a,o,kvs,b,c,d⟩:=h i es e;exact⟨a,o,kvs,b,s _ _ c,d.same s⟩
theorem FZ.jD {K:PySem.W.Frag}{G:Hp}{σ:St}{ρ:l5}{i:Nat}{c:Option C}(h:FZ K G σ ρ)(a:∀es,c≠e9 (.fz es)):FZ K G σ (ρ.set i c):=λj es e=>by
 by_cases z:i=j
 ·subst z;rw[List.getElem?_set_self']at e;cases q:ρ[i]? with
  |none=>rw[q]at e;cases e
  |some b=>rw[q]at e;exact absurd (j7 e) (a es)
 ·rw[List.getElem?_set_ne z]at e;exact h j es e
theorem FZ.qo {K:PySem.W.Frag}{G:Hp}{σ:St}{ρ:l5}{i:Nat}{c:Option C}{v:Option V}(h:FZ K G σ ρ)(a:∀es,c≠e9 (.fz es)):FZ K G (σ.set i v) (ρ.set i c):=λj es e=>by
 by_cases z:i=j
 ·subst z;rw[List.getElem?_set_self']at e;cases q:ρ[i]? with
  |none=>rw[q]at e;cases e
  |some b=>rw[q]at e;exact absurd (j7 e) (a es)
 ·rw[List.getElem?_set_ne z]at e⊢;exact h j es e
noncomputable def S8:Str:="table"
def N3 (K:PySem.W.Frag)(G:Hp)(fs:List (Str×V))(fds:List (Str×D)):Prop:=Paired (λ(p:Str×V) (q:Str×D)=>p.1=q.1∧(p.1≠S8→Rep K G p.2 q.2)) fs fds
theorem N3.same {K:PySem.W.Frag}{G G':Hp}(s:j6 G G'){fs:List (Str×V)}{fds:List (Str×D)}(h:N3 K G fs fds):N3 K G' fs fds:=Paired.zk h λ_ _ z=>⟨z.1,λn=>(z.2 n).same s⟩
def OB (B:Bs)(G H:Hp)(σ:St)(ρ:l5):Prop:=(∀(i:Nat) l fds,ρ[i]?=e9 (e9 (.ob l fds))→∃j C p dx fs,B.O=e9 (i,j,C)∧σ[i]?=e9 (e9 (.ref p))∧G p=f7∧B.HK p=f7∧((l=f8→B.L i=e9 p)∧(l=f6→B.H0 p=f7))∧
 H p=e9 (.ins C dx fs)∧N3 B.K G fs fds∧∀v,fs.lookup S8=e9 v→∀d,ρ[j]?=e9 (e9 (.ow f8 d))→σ[j]?=e9 (e9 v))∧
 ∀(i:Nat) fds,ρ[i]?=e9 (e9 (.rd fds))→∃a b C p dx fs,B.O=e9 (a,b,C)∧σ[i]?=e9 (e9 (.ref p))∧B.HK p=e9 (.ins C dx fs)∧N3 B.K G fs fds
theorem OB.to(h:OB B G H σ ρ)(s:j6 G G')(r:∀p C dx fs,H p=e9 (.ins C dx fs)→G p=f7→G' p=f7)(t:∀p C dx fs,H p=e9 (.ins C dx fs)→B.HK p=f7→G p=f7→H' p=e9 (.ins C dx fs))
  (o:∀(i:Nat) c,Gj c=f8→ρ'[i]?=e9 (e9 c)→ρ[i]?=e9 (e9 c)∧a[i]?=σ[i]?) (u:∀(j:Nat) d,ρ'[j]?=e9 (e9 (.ow f8 d))→(∃g,ρ[j]?=e9 (e9 (.ow f8 g)))∧a[j]?=σ[j]?):OB B G' H' a ρ':=by
 refine⟨λi l fds e=>?_,λi fds e=>?_⟩
 ·obtain⟨k,es⟩:=o i _ rfl e;obtain⟨j,C,p,dx,fs,m,n,b,f,w,q,x,y⟩:=h.1 i l fds k;refine⟨j,C,p,dx,fs,m,by rw[es];exact n,r _ _ _ _ q b,f,w,t _ _ _ _ q f b,x.same s,λv z d hd=>?_⟩;obtain⟨⟨g,A⟩,E⟩:=u j d hd;rw[E];exact y v z g A
 ·obtain⟨k,es⟩:=o i _ rfl e;obtain⟨F,j,C,p,dx,fs,m,n,b,f⟩:=h.2 i fds k;exact⟨F,j,C,p,dx,fs,m,by rw[es];exact n,b,f.same s⟩
theorem OB.gh(h:OB B G H σ ρ)(s:j6 G G')(a:∀p C dx fs,H p=e9 (.ins C dx fs)→G p=f7→G' p=f7)(b:∀p C dx fs,H p=e9 (.ins C dx fs)→B.HK p=f7→G p=f7→H' p=e9 (.ins C dx fs)):OB B G' H' σ ρ:=
 h.to s a b (λ_ _ _ e=>⟨e,rfl⟩) λ_ d e=>⟨⟨d,e⟩,rfl⟩
theorem OB.re(h:OB B G H σ ρ)(a:∀(i:Nat) c,Gj c=f8→ρ'[i]?=e9 (e9 c)→ρ[i]?=e9 (e9 c))(b:∀(j:Nat) d,ρ'[j]?=e9 (e9 (.ow f8 d))→∃f,ρ[j]?=e9 (e9 (.ow f8 f))):OB B G H σ ρ':=
 h.to (j6.refl _) (λ_ _ _ _ _ g=>g) (λ_ _ _ _ e _ _=>e) (λi c z e=>⟨a i c z e,rfl⟩) λj d e=>⟨b j d e,rfl⟩
theorem S0 {ρ:l5}(e:(ρ.set i c)[j]?=e9 (e9 x)):(i=j∧c=e9 x)∨(i≠j∧ρ[j]?=e9 (e9 x)):=by
 by_cases z:i=j
 ·subst z;rw[List.getElem?_set_self']at e;cases q:ρ[i]? with
  |none=>rw[q]at e;cases e
  |some a=>rw[q]at e;exact .inl ⟨rfl,j7 e⟩
 ·rw[List.getElem?_set_ne z]at e;exact .inr ⟨z,e⟩
theorem OB.jD(h:OB B G H σ ρ)(b:∀x,c=e9 x→Gj x=f6)(f:∀d,c=e9 (.ow f8 d)→∃g,ρ[i]?=e9 (e9 (.ow f8 g))):OB B G H σ (ρ.set i c):=by
 refine h.re (λj x z e=>?_) λj d e=>?_
 ·rcases S0 e with⟨_,a⟩ | ⟨_,a⟩
  ·rw[b x a]at z;cases z
  ·exact a
 ·rcases S0 e with⟨z,a⟩ | ⟨_,a⟩
  ·subst z;exact f d a
  ·exact⟨d,a⟩
theorem OB.qo(h:OB B G H σ ρ)(b:∀x,c=e9 x→Gj x=f6)(f:∀d,c≠e9 (.ow f8 d)):OB B G H (σ.set i v) (ρ.set i c):=by
 refine h.to (j6.refl _) (λ_ _ _ _ _ g=>g) (λ_ _ _ _ e _ _=>e) (λj x z e=>?_) λj d e=>?_
 ·rcases S0 e with⟨_,a⟩ | ⟨n,a⟩
  ·rw[b x a]at z;cases z
  ·exact⟨a,List.getElem?_set_ne n⟩
 ·rcases S0 e with⟨_,a⟩ | ⟨n,a⟩
  ·exact absurd a (f d)
  ·exact⟨⟨d,a⟩,List.getElem?_set_ne n⟩
theorem bj {K:PySem.W.Frag}{G H:Hp}{p q:Addr}{d:D}{C dx:Addr}{fs:List (Str×V)}(o:B2 K G H q d)(h:H p=e9 (.ins C dx fs)):p≠q:=by
 rintro rfl
 cases d with
 |lst ds=>obtain⟨xs,e,_⟩:=o;rw[h]at e;cases e
 |dct es=>obtain⟨xs,e,_⟩:=o;rw[h]at e;cases e
 |_=>exact(show False from o).elim
structure RS (B:Bs) (G H:Hp) (σ:St) (ρ:l5):Prop where
 hk:j6 B.HK B.H0
 keep:j6 B.HK H
 g0:j6 B.G0 G
 gH:j6 G H
 gnew:∀p o,G p=some o→B.G0 p=some o∨B.H0 p=none
 dom:∀p,H p=none→B.H0 p=none
 len:σ.length=ρ.length
 sh:∀(i:Nat) d,ρ[i]?=some (some (.sh d))→∃v,σ[i]?=some (some v)∧Rep B.K G v d
 ow:∀(i:Nat) l d,ρ[i]?=some (some (.ow l d))→∃p,σ[i]?=some (some (.ref p))∧G p=none∧B.HK p=none∧Ji B i l p∧B2 B.K G H p d
 inj:∀(i j:Nat) l d k e p,ρ[i]?=some (some (.ow l d))→ρ[j]?=some (some (.ow k e))→σ[i]?=some (some (.ref p))→σ[j]?=some (some (.ref p))→i=j
 fz:FZ B.K G σ ρ
 ob:OB B G H σ ρ
noncomputable def E2 (B:Bs)(G H:Hp)(σ:St)(ρ:l5)(v:V):W→Prop
 |.val d=>Rep B.K G v d
 |.slot i=>σ[i]?=e9 (e9 v)
 |.own d=>∃p,v=.ref p∧G p=f7∧B.H0 p=f7∧B2 B.K G H p d∧∀(i:Nat) l e,ρ[i]?=e9 (e9 (.ow l e))→σ[i]?≠e9 (e9 (.ref p))
def O2 (K:PySem.W.Frag)(G H:Hp)(v:V)(d:D):Prop:=Rep K G v d∨∃p,v=.ref p∧B2 K G H p d
section
variable {K:PySem.W.Frag}{G H:Hp}{v:V}
theorem O2.int(h:O2 K G H v (.int i)):v=.int i:=by
 rcases h with h| ⟨p,_,h⟩
 ·cases h;rfl
 ·exact(show False from h).elim
theorem O2.bl(h:O2 K G H v (.bl b)):v=.bl b:=by
 rcases h with h| ⟨p,_,h⟩
 ·cases h;rfl
 ·exact(show False from h).elim
theorem O2.v1 (h:O2 K G H v .v1):v=.v1:=by
 rcases h with h| ⟨p,_,h⟩
 ·cases h;rfl
 ·exact(show False from h).elim
theorem O2.ty(h:O2 K G H v (.ty n)):v=.ty n:=by
 rcases h with h| ⟨p,_,h⟩
 ·cases h;rfl
 ·exact(show False from h).elim
theorem O2.str(h:O2 K G H v (.str cs)):v=.str (tx cs):=by
 rcases h with h| ⟨p,_,h⟩
 ·cases h;rfl
 ·exact(show False from h).elim
theorem O2.tup {ds:List D}(g:j6 G H)(h:O2 K G H v (.tup ds)):∃a xs,v=.ref a∧bz K H a xs∧o9 K G xs ds:=by
 rcases h with h| ⟨p,_,h⟩
 ·cases h with
  |tup h hl hr=>exact⟨_,_,rfl,g.tup h,hl,hr⟩
 ·exact(show False from h).elim
theorem O2.lst {ds:List D}(g:j6 G H)(h:O2 K G H v (.lst ds)):∃a xs,v=.ref a∧P7 K H a xs∧o9 K G xs ds:=by
 rcases h with h| ⟨p,rfl,xs,e,r⟩
 ·cases h with
  |lst h hl hr=>exact⟨_,_,rfl,g.seq h,hl,hr⟩
 ·exact⟨p,xs,rfl,P7.of e,r⟩
theorem O2.dct {es:List (Key×D)}(g:j6 G H)(h:O2 K G H v (.dct es)):∃a kvs,v=.ref a∧Rd H a (.dK kvs)∧l9 K G kvs es:=by
 rcases h with h| ⟨p,rfl,xs,e,r⟩
 ·cases h with
  |dct h hk hr=>exact⟨_,_,rfl,L3.Rd.same g h,hk,hr⟩
 ·exact⟨p,xs,rfl,.inl e,r⟩
end
noncomputable def getD (w:W)(ρ:l5):Option D:=match w with
 |.val d=>e9 d
 |.own d=>e9 d
 |.slot i=>match ρ[i]? with
  |some (e9 (.sh d))=>e9 d
  |some (e9 (.ow _ d))=>e9 d
  |some (e9 (.fz es))=>e9 (.dct es)
  |_=>f7
section
variable {B:Bs}{G G' H H':Hp}{σ:St}{ρ:l5}{v:V}{w:W}{d:D}
theorem E2.get (R:RS B G H σ ρ)(h:E2 B G H σ ρ v w)(e:getD w ρ=e9 d):O2 B.K G H v d:=by
 cases w with
 |val c=>cases e;exact .inl h
 |own c=>
  cases e;obtain⟨p,rfl,_,_,o,_⟩:=h;exact .inr ⟨p,rfl,o⟩
 |slot i=>
  have h':σ[i]?=e9 (e9 v):=h;unfold getD at e;simp only[]at e;split at e
  ·rename_i c q;cases e;obtain⟨j,b,r⟩:=R.sh i _ q;rw[h']at b;cases b;exact .inl r
  ·rename_i l c q;cases e;obtain⟨p,b,_,_,_,o⟩:=R.ow i _ _ q;rw[h']at b;cases b;exact .inr ⟨p,rfl,o⟩
  ·rename_i es q;cases e;obtain⟨a,o,kvs,b,g,f⟩:=R.fz i _ q;rw[h']at b;cases b;exact .inl (.dct (.inr ⟨o,g⟩) f.keys f.get)
  ·cases e
theorem E2.same(s:j6 G G')(h:E2 B G H σ ρ v w)(a:∀d,w≠.own d):E2 B G' H' σ ρ' v w:=by
 cases w with
 |val d=>exact Rep.same s h
 |slot i=>exact h
 |own d=>exact absurd rfl (a d)
theorem RS.cH(R:RS B G H σ ρ)(g:G p=f7)(k:B.H0 p=f7)(o:B2 B.K G H p d)(ne:∀(i:Nat) l e,ρ[i]?=e9 (e9 (.ow l e))→σ[i]?≠e9 (e9 (.ref p))):
  ∃G',j6 G G'∧RS B G' H σ ρ∧Rep B.K G' (.ref p) d:=by
 obtain⟨ob,a⟩:=o.some;have s:j6 G (upd G p ob):=aE g ob;refine⟨upd G p ob,s,⟨R.hk,R.keep,R.g0.trans s,?_,?_,R.dom,R.len,?_,?_,R.inj,R.fz.same s,R.ob.gh s (λq _ _ _ m n=>by rw[k0 (bj o m)];exact n) λ_ _ _ _ e _ _=>e⟩,?_⟩
 ·intro b u q;by_cases e:b=p
  ·subst e;rw[m3]at q;cases q;exact a
  ·rw[k0 e]at q;exact R.gH b u q
 ·intro b u q;by_cases e:b=p
  ·subst e;exact .inr k
  ·rw[k0 e]at q;exact R.gnew b u q
 ·intro i f q;obtain⟨v,h,r⟩:=R.sh i f q;exact⟨v,h,r.same s⟩
 ·intro i l f q;obtain⟨j,h,t,w,x,y⟩:=R.ow i l f q;have e:j≠p:=λz=>ne i l f q (by rw[h,z]);exact⟨j,h,by rw[k0 e];exact t,w,x,y.same s rfl⟩
 ·cases d with
  |lst ds=>
   obtain⟨xs,e,r⟩:=o;rw[e]at a;cases a;have c:=r.same s;exact .lst (P7.of m3) c.len c.get
  |dct es=>
   obtain⟨xs,e,r⟩:=o;rw[e]at a;cases a;have c:=r.same s;exact .dct (.inl m3) c.keys c.get
  |_=>exact(show False from o).elim
end
structure GT where
 cls:Str
 fs:List (Str×D)
inductive R' (α:Type) where
 |ok (a:α) (ρ:l5) |ex (x:GT) (ρ:l5)
noncomputable abbrev M (α:Type):=l5→Option (R' α)
noncomputable def M.pure {α:Type}(a:α):M α:=λρ=>e9 (.ok a ρ)
noncomputable def M.bind {α b:Type}(m:M α)(f:α→M b):M b:=λρ=>match m ρ with
 |none=>f7
 |some (.ex x ρ')=>e9 (.ex x ρ')
 |some (.ok a ρ')=>f a ρ'
theorem M.j9 {α b:Type}{m:M α}{f:α→M b}{ρ ρ':l5}{a:α}(h:m ρ=e9 (.ok a ρ')):M.bind m f ρ=f a ρ':=by unfold M.bind;rw[h]
theorem M.dB {α a:Type}{m:M α}{f:α→M a}{ρ ρ':l5}{x:GT}(h:m ρ=e9 (.ex x ρ')):M.bind m f ρ=e9 (.ex x ρ'):=by unfold M.bind;rw[h]
theorem M.bind_none {α a:Type}{m:M α}{f:α→M a}{ρ:l5}(h:m ρ=f7):M.bind m f ρ=f7:=by unfold M.bind;rw[h]
noncomputable def D8 (w:W):M D:=λρ=>match w with
 |.val d=>e9 (.ok d ρ)
 |.own d=>e9 (.ok d ρ)
 |.slot i=>match ρ[i]? with
  |some (e9 (.sh d))=>e9 (.ok d ρ)
  |some (e9 (.ow f6 d))=>e9 (.ok d (ρ.set i (e9 (.sh d))))
  |some (e9 (.fz es))=>e9 (.ok (.dct es) ρ)
  |_=>f7
theorem ag(h:D8 w ρ=e9 r):∃d ρ',r=.ok d ρ':=by
 unfold D8 at h;cases w with
 |val d=>cases h;exact⟨_,_,rfl⟩
 |own d=>cases h;exact⟨_,_,rfl⟩
 |slot i=>
  simp only[]at h;split at h
  ·cases h;exact⟨_,_,rfl⟩
  ·cases h;exact⟨_,_,rfl⟩
  ·cases h;exact⟨_,_,rfl⟩
  ·cases h
section
variable {B:Bs}{G G' H H':Hp}{σ:St}{ρ ρ':l5}{v:V}{w:W}{d:D}
theorem E2.D8 (R:RS B G H σ ρ)(h:E2 B G H σ ρ v w)(e:L3.D8 w ρ=e9 (.ok d ρ')):∃G',j6 G G'∧RS B G' H σ ρ'∧Rep B.K G' v d:=by
 unfold L3.D8 at e;cases w with
 |val m=>cases e;exact⟨G,j6.refl G,R,h⟩
 |own m=>
  cases e;obtain⟨p,rfl,g,I,o,ne⟩:=h;exact R.cH g I o ne
 |slot i=>
  have h':σ[i]?=e9 (e9 v):=h;simp only[]at e;split at e
  ·rename_i m q;cases e;obtain⟨N,n,r⟩:=R.sh i _ q;rw[h']at n;cases n;exact⟨G,j6.refl G,R,r⟩
  ·rename_i m q;cases e;obtain⟨p,n,x,y,J,o⟩:=R.ow i _ _ q;have hi:i<ρ.length:=(List.getElem?_eq_some_iff.mp q).1;rw[h']at n;cases n
   
   have L:RS B G H σ (ρ.set i f7):=by
    refine⟨R.hk,R.keep,R.g0,R.gH,R.gnew,R.dom,by simp[R.len],λj m f=>?_,λj l m f=>?_,λj k l m A u E a b=>?_,R.fz.jD (by intro _ h;cases h),R.ob.jD (by intro _ h;cases h<;>rfl) (by intro _ h;cases h)⟩
    ·by_cases z:i=j
     ·subst z;rw[List.getElem?_set_self hi]at f;cases f
     ·rw[List.getElem?_set_ne z]at f;exact R.sh j m f
    ·by_cases z:i=j
     ·subst z;rw[List.getElem?_set_self hi]at f;cases f
     ·rw[List.getElem?_set_ne z]at f;exact R.ow j l m f
    ·by_cases z:i=j
     ·subst z;rw[List.getElem?_set_self hi]at a;cases a
     ·by_cases t:i=k
      ·subst t;rw[List.getElem?_set_self hi]at b;cases b
      ·rw[List.getElem?_set_ne z]at a;rw[List.getElem?_set_ne t]at b;exact R.inj j k l m A u E a b
   obtain⟨G',s,R',r⟩:=L.cH x J o λj l u f z=>by
    by_cases F:i=j
    ·subst F;rw[List.getElem?_set_self hi]at f;cases f
    ·rw[List.getElem?_set_ne F]at f;exact F (R.inj i j _ _ _ _ p q f h' z)
   refine⟨G',s,⟨R'.hk,R'.keep,R'.g0,R'.gH,R'.gnew,R'.dom,by simp[R.len],λj m f=>?_,λj l m f=>?_,λj k l m A u E a b=>?_,(R.fz.same s).jD (by intro _ h;cases h),R'.ob.re (λj c t e=>?_) λj d e=>?_⟩,r⟩
   ·by_cases z:i=j
    ·subst z;rw[List.getElem?_set_self hi]at f;cases f;exact⟨_,h',r⟩
    ·rw[List.getElem?_set_ne z]at f;exact R'.sh j m (by rw[List.getElem?_set_ne z];exact f)
   ·by_cases z:i=j
    ·subst z;rw[List.getElem?_set_self hi]at f;cases f
    ·rw[List.getElem?_set_ne z]at f;exact R'.ow j l m (by rw[List.getElem?_set_ne z];exact f)
   ·by_cases z:i=j
    ·subst z;rw[List.getElem?_set_self hi]at a;cases a
    ·by_cases t:i=k
     ·subst t;rw[List.getElem?_set_self hi]at b;cases b
     ·rw[List.getElem?_set_ne z]at a;rw[List.getElem?_set_ne t]at b;exact R.inj j k l m A u E a b
   ·by_cases z:i=j
    ·subst z;rw[List.getElem?_set_self hi]at e;cases e;cases t
    ·rw[List.getElem?_set_ne z]at e⊢;exact e
   ·by_cases z:i=j
    ·subst z;rw[List.getElem?_set_self hi]at e;cases e
    ·rw[List.getElem?_set_ne z]at e⊢;exact⟨d,e⟩
  ·rename_i es q;cases e;obtain⟨a,o,kvs,n,x,y⟩:=R.fz i _ q;rw[h']at n;cases n;exact⟨G,j6.refl G,R,.dct (.inr ⟨o,x⟩) y.keys y.get⟩
  ·cases e
theorem RS.oV(R:RS B G H σ ρ)(c:H p=f7)(r:o9 B.K G xs ds):∃G',j6 G G'∧RS B G' (upd H p (.tup xs)) σ ρ∧Rep B.K G' (.ref p) (.tup ds):=by
 have g:G p=f7:=R.gH.free c;have s:j6 G (upd G p (.tup xs)):=aE g _;have o:j6 H (upd H p (.tup xs)):=aE c _;refine⟨upd G p (.tup xs),s,⟨R.hk,R.keep.trans o,R.g0.trans s,?_,?_,?_,R.len,?_,?_,R.inj,R.fz.same s,R.ob.gh s (λq _ _ _ f y=>by rw[k0 (t9 f c)];exact y) λq _ _ _ f _ _=>o q _ f⟩,.tup (bz.of m3) r.len λj x d a b=>(r.get j x d a b).same s⟩
 ·intro b u q;by_cases e:b=p
  ·subst e;rw[m3]at q⊢;exact q
  ·rw[k0 e]at q⊢;exact R.gH b u q
 ·intro b u q;by_cases e:b=p
  ·subst e;exact .inr (R.dom _ c)
  ·rw[k0 e]at q;exact R.gnew b u q
 ·intro b q;by_cases e:b=p
  ·subst e;exact R.dom _ c
  ·rw[k0 e]at q;exact R.dom b q
 ·intro i h q;obtain⟨v,k,m⟩:=R.sh i h q;exact⟨v,k,m.same s⟩
 ·intro i l h q;obtain⟨t,k,m,z,A,w⟩:=R.ow i l h q;obtain⟨ob,n⟩:=w.some;have e:t≠p:=t9 n c;exact⟨t,k,by rw[k0 e];exact m,z,A,w.same s (k0 e)⟩
theorem RS.heap(R:RS B G H σ ρ)(a:H p=f7):RS B G (upd H p o) σ ρ:=by
 have c:j6 H (upd H p o):=aE a _;refine⟨R.hk,R.keep.trans c,R.g0,R.gH.trans c,R.gnew,?_,R.len,R.sh,?_,R.inj,R.fz,R.ob.gh (j6.refl _) (λ_ _ _ _ _ h=>h) λq _ _ _ j _ _=>c q _ j⟩
 ·intro b q;by_cases e:b=p
  ·subst e;exact R.dom _ a
  ·rw[k0 e]at q;exact R.dom b q
 ·intro i l k q;obtain⟨f,m,n,r,s,g⟩:=R.ow i l k q;obtain⟨ob,d⟩:=g.some;have e:f≠p:=t9 d a;exact⟨f,m,n,r,s,g.same (j6.refl G) (k0 e)⟩
theorem RS.zh(R:RS B G H σ ρ)(b:H p=f7)(h:B2 B.K G (upd H p o) p d):RS B G (upd H p o) σ ρ∧E2 B G (upd H p o) σ ρ (.ref p) (.own d):=by
 refine⟨R.heap b,p,rfl,R.gH.free b,R.dom _ b,h,λi l e q z=>?_⟩;obtain⟨g,c,j,k,m,f⟩:=R.ow i l e q;obtain⟨ob,a⟩:=f.some;rw[c]at z;cases z;rw[b]at a;cases a
theorem RS.eu(R:RS B G H σ ρ)(a:H p=f7)(r:o9 B.K G xs ds):RS B G (upd H p (.lst xs)) σ ρ∧E2 B G (upd H p (.lst xs)) σ ρ (.ref p) (.own (.lst ds)):=
 R.zh a ⟨xs,m3,r⟩
theorem RS.kW(R:RS B G H σ ρ)(a:H p=f7)(r:l9 B.K G kvs es):RS B G (upd H p (.dK kvs)) σ ρ∧E2 B G (upd H p (.dK kvs)) σ ρ (.ref p) (.own (.dct es)):=
 R.zh a ⟨kvs,m3,r⟩
theorem RS.write(R:RS B G H σ ρ)(hi:ρ[i]?=e9 (e9 (.ow l d)))(hs:σ[i]?=e9 (e9 (.ref p)))(h:B2 B.K G (upd H p o) p s):
  RS B G (upd H p o) σ (ρ.set i (e9 (.ow l s))):=by
 obtain⟨Q,t,v,w,E,F⟩:=R.ow i l d hi;rw[hs]at t;cases t;have m:i<ρ.length:=(List.getElem?_eq_some_iff.mp hi).1;refine⟨R.hk,λb u q=>?_,R.g0,λb u q=>?_,R.gnew,λb q=>?_,by simp[R.len],λj e q=>?_,λj k e q=>?_,λj k a b c e f x y=>?_,R.fz.jD (by intro _ h;cases h),(R.ob.gh (j6.refl _) (λ_ _ _ _ _ I=>I) λq _ _ _ A _ _=>by rw[k0 (bj F A)];exact A).jD (by intro _ h;cases h<;>rfl) (by intro S h;cases h;exact⟨_,hi⟩)⟩
 ·rw[k0 (t9 q w)];exact R.keep b u q
 ·rw[k0 (t9 q v)];exact R.gH b u q
 ·by_cases z:b=p
  ·subst z;rw[m3]at q;cases q
  ·rw[k0 z]at q;exact R.dom b q
 ·by_cases z:i=j
  ·subst z;rw[List.getElem?_set_self m]at q;cases q
  ·rw[List.getElem?_set_ne z]at q;exact R.sh j e q
 ·by_cases z:i=j
  ·subst z;rw[List.getElem?_set_self m]at q;cases q;exact⟨p,hs,v,w,E,h⟩
  ·rw[List.getElem?_set_ne z]at q;obtain⟨f,g,n,J,L,N⟩:=R.ow j k e q;have O:f≠p:=λP=>z (R.inj i j _ _ _ _ p hi q hs (by rw[g,P]));exact⟨f,g,n,J,L,N.same (j6.refl G) (k0 O)⟩
 ·by_cases z:i=j
  ·by_cases r:i=k
   ·intro _ _;omega
   ·subst z;rw[List.getElem?_set_ne r]at y;intro g n;exact R.inj i k l d c e f hi y g n
  ·by_cases r:i=k
   ·subst r;rw[List.getElem?_set_ne z]at x;intro g n;exact R.inj j i a b l d f x hi g n
   ·rw[List.getElem?_set_ne z]at x;rw[List.getElem?_set_ne r]at y;exact R.inj j k a b c e f x y
end
structure il (fs xs:List Addr) (h h':Heap):Prop where
 keep:∀b o,h.get? b=some o→b∉fs→b∉xs→h'.get? b=some o
 slot:∀b o,h.get? b=some o→b∉xs→∃sl,h'.get? b=some {o with slots:=sl}
 there:∀b o,h.get? b=some o→∃o',h'.get? b=some o'
def AT (h:Heap)(e T:Addr)(cls:Value)(dct:Option Addr)(c:Value):Prop:=
 ∃a vs b ts,h.get? e=e9 a∧a.cls=cls∧a.dict=dct∧a.data=.fields vs∧vs[1]?=e9 (.ref T)∧T≠e∧h.get? T=e9 b∧b.data=.fields ts∧ts[3]?=e9 c
theorem lG (f:Array Value→Array Value)(o:Obj):(Obj.mapFields f o).dict=o.dict:=by
 obtain⟨c,d,a,sl⟩:=o;cases a<;>rfl
section
variable {M:Model}{A:Around}{E:Value→Shared→Prop}{s:Shared}{base:Heap}{env:Env}{outer:List Env}{L e T:Addr}{oe:Obj}{vs:Array Value}{cls fl:Value}{dct:Option Addr}{Q:Unit→Shared→Prop}
theorem Aq(l:A.frames=e9 (env::outer))(hl:s.heap.FunFrames base (env::outer))(z:env.frame=e9 L)(v:s.heap.get? e=e9 oe)(hd:oe.data=.fields vs)(k:1<vs.size)
  (h:∀h' w,il (frs (env::outer)) [e] s.heap h'→s.heap.get? w=f7→AT h' e w oe.cls oe.dict (rawInt L)→Q () {s with heap:=h'}):
  wpAny M A (do let a←frameOf env;let pl←entryPlaceOf L f;let b←pZ head a .none (rawInt L) .none pl;Mp (.ref e) 1 b) Q E s:=by
 have m:e∉(env::outer).filterMap (·.frame):=λB=>by
  obtain⟨_,o,x,n⟩:=hl.mem B;rw[v]at x;cases x;exact n vs hd
 refine g8 (wpAny_frameOf_fun l hl z λc hs=>?_);refine g8 (wpAny_entryPlaceOf λpl p=>?_);unfold pZ newFields;refine g8 (D3 ?_ (p.sizeOk5 _ _ _ _ _));have g:c.get? e=e9 oe:=(hs.2.1 e m).trans v;generalize y:({cls:=.type "traceback",dict:=f7,data:=.fields ([head,.ref L,.none,rawInt L,.none]++(if pl.isEmpty then List.replicate 6 Value.none else pl)).toArray}:Obj)=O;have r:O.data=.fields ([head,.ref L,.none,rawInt L,.none]++(if pl.isEmpty then List.replicate 6 Value.none else pl)).toArray:=by rw[←y]
 have t:O.isFreed=f6:=by rw[←y];rfl
 have d:=Heap.get?_push_of_some (h:=c) O g;have i:c.objs.size≠e:=Nat.ne_of_gt (Heap.lt_size g);refine vM d hd k (h _ c.objs.size ?_ ?_ ?_)
 ·have keep:∀b o,b≠e→c.get? b=e9 o→((c.push O).update e (Obj.mapFields (·.setIfInBounds 1 (Value.ref c.objs.size)))).get? b=e9 o:=λb o F j=>by
   rw[Heap.get?_update_other _ _ (x8 F)];exact Heap.get?_push_of_some _ j
  refine⟨λb o j G nx=>keep b o (λq=>nx (by simp[q])) ((hs.2.1 b G).trans j),λb o j nx=>?_,λb o j=>?_⟩
  ·obtain⟨sl,u⟩:=hs.2.2 b o j;exact⟨sl,keep b _ (λq=>nx (by simp[q])) u⟩
  ·by_cases q:b=e
   ·subst q;exact⟨_,Heap.get?_update_self _ d (Obj.isFreed_of_fields (Obj.data_mapFields hd _))⟩
   ·obtain⟨sl,u⟩:=hs.2.2 b o j;exact⟨_,keep b _ q u⟩
 ·exact Heap.get?_none_of_le (by rw[hs.1];exact Nat.le_refl _)
 ·have H:=(Heap.get?_update_other (c.push O) (Obj.mapFields (·.setIfInBounds 1 (Value.ref c.objs.size))) (x8 i)).trans (Heap.get?_push_size c t);refine⟨_,_,O,_,Heap.get?_update_self _ d (Obj.isFreed_of_fields (Obj.data_mapFields hd _)),Obj.cls_mapFields _ _,lG _ _,Obj.data_mapFields hd _,by simp[k],i,H,r,by simp⟩
theorem qR{h:Heap}(e:h.get? T=e9 d)(hd:d.data=.fields ts)(i:Nat)(v:Value):il fs [T] h (h.update T (Obj.mapFields (·.setIfInBounds i v))):=by
 have a:∀b,b≠T→(h.update T (Obj.mapFields (·.setIfInBounds i v))).get? b=h.get? b:=λb f=>Heap.get?_update_other _ _ (x8 f);refine⟨λb o c _ nx=>(a b λq=>nx (by simp[q])).trans c,λb o c nx=>⟨o.slots,(a b λq=>nx (by simp[q])).trans c⟩,λb o c=>?_⟩;by_cases q:b=T
 ·subst q;exact⟨_,Heap.get?_update_self _ e (Obj.isFreed_of_fields (Obj.data_mapFields hd _))⟩
 ·exact⟨o,(a b q).trans c⟩
theorem lx{h h':Heap}(hl:h.FunFrames base l)(k:il fs xs h h')(d:∀x∈xs,∀o,h.get? x=e9 o→∃vs,o.data=.fields vs):h'.FunFrames base l:=
 hl.of_keeps λb o c a=>by
  obtain⟨sl,e⟩:=k.slot b o c λm=>by
   obtain⟨vs,q⟩:=d b m o c;exact a vs q
  exact⟨_,e,rfl⟩
theorem sM (a:A.frames=e9 (env::outer))(hl:s.heap.FunFrames base (env::outer))(b:env.frame=e9 L)(c:s.heap.get? e=e9 oe)(hd:oe.data=.fields vs)(d:vs[1]?=e9 .none)
  (h:∀h' f,il (frs (env::outer)) [e] s.heap h'→s.heap.get? f=f7→AT h' e f oe.cls oe.dict (rawInt L)→Q () {s with heap:=h'}):wpAny M A (noteFrame (.ref e) env) Q E s:=by
 unfold noteFrame;simp only[b];refine g8 (u5 c hd d ?_);rw[if_neg (by decide)];exact Aq a hl b c hd (P3.mp d).1 h
theorem wI (i:A.frames=e9 (env::outer))(hl:s.heap.FunFrames base (env::outer))(r:env.frame=e9 L)(F:AT s.heap e T cls dct .none)
  (h:∀h' c,il (frs (env::outer)) [e,T] s.heap h'→s.heap.get? c=f7→AT h' e c cls dct (rawInt L)→Q () {s with heap:=h'}):wpAny M A (noteFrame (.ref e) env) Q E s:=by
 obtain⟨oe,vs,N,ts,t,G,j,hd,u,l,g,a,v⟩:=F;subst G j;unfold noteFrame;simp only[r];refine g8 (u5 t hd u ?_);rw[if_pos (show(Value.ref T != Value.none)=f8 from by simp)];refine g8 (u5 g a v ?_);rw[if_neg (show¬((Value.none==rawInt L)=f8)from by simp[rawInt])];refine g8 (vM g a (P3.mp v).1 ?_);have k:=qR (fs:=frs (env::outer)) g a 3 Value.none;have m:=(Heap.get?_update_other (h:=s.heap) (Obj.mapFields (·.setIfInBounds 3 Value.none)) l).trans t;refine Aq (base:=base) i (lx hl k λx w o y=>?_) r m hd (P3.mp u).1 λh' c n H I=>h h' c ⟨?_,?_,?_⟩ ?_ I
 ·rw[List.mem_singleton]at w;subst w;rw[g]at y;cases y;exact⟨ts,a⟩
 ·intro b o f z nx;simp at nx;exact n.keep b o (k.keep b o f z (by simpa using nx.2)) z (by simpa using nx.1)
 ·intro b o f nx;simp at nx;obtain⟨sl,d⟩:=k.slot b o f (by simpa using nx.2);obtain⟨p,J⟩:=n.slot b {o with slots:=sl} d (by simpa using nx.1);exact⟨p,J⟩
 ·intro b o f;obtain⟨B,d⟩:=k.there b o f;exact n.there b B d
 ·cases q:s.heap.get? c with
  |none=>rfl
  |some o=>
   obtain⟨B,d⟩:=k.there c o q;rw[H]at d;cases d
theorem CZ {f:Option Addr}(l:AT s.heap e T cls dct fl)(h:∀h',il [] [T] s.heap h'→AT h' e T cls dct (f.elim Value.none λa=>rawInt a)→Q () {s with heap:=h'}):wpAny M A (setFlight (.ref e) f) Q E s:=by
 obtain⟨oe,vs,o,ts,j,m,g,hd,k,c,i,b,n⟩:=l;have d:3<ts.size:=(P3.mp n).1;unfold setFlight;refine g8 (u5 j hd k ?_);rw[if_pos (show(Value.ref T != Value.none)=f8 from by simp)];refine vM i b d (h _ (qR i b 3 _) ?_);exact⟨oe,vs,_,_,(Heap.get?_update_other _ _ c).trans j,m,g,hd,k,c,Heap.get?_update_self _ i (Obj.isFreed_of_fields (Obj.data_mapFields b _)),Obj.data_mapFields b _,by simp[d]⟩
theorem sO (b:env.frame=e9 L)(c:AT s.heap e T cls dct (rawInt L))(h:Q () s):wpAny M A (noteFrame (.ref e) env) Q E s:=by
 obtain⟨oe,vs,l,ts,d,m,f,hd,g,i,j,a,k⟩:=c;unfold noteFrame;simp only[b];refine g8 (u5 d hd g ?_);rw[if_pos (show(Value.ref T != Value.none)=f8 from by simp)];refine g8 (u5 j a k ?_);rw[if_pos (show(rawInt L==rawInt L)=f8 from by simp)];exact j5 h
end
structure Off (X:Cx) (H:Hp) (a:Addr):Prop where
 new:X.s₀.heap.get? a=none
 free:H a=none
 loc:a≠X.env.locals
 cell:∀x c,X.env.cells.lookup x=some c→c≠a
section
variable {X:Cx}{pins:List (Addr×Obj)}{σ:St}{H:Hp}{s:Shared}{h':Heap}{xs:List Addr}
theorem zf {h h':Heap}(n:h.Ns a m)(k:∀o,h.get? a=e9 o→∃sl,h'.get? a=e9 {o with slots:=sl}):h'.Ns a m:=by
 obtain⟨o,es,b,e,d,c,f⟩:=n;obtain⟨sl,g⟩:=k o e;exact⟨_,es,b,g,d,c,f⟩
theorem lJ {h h':Heap}(n:h.IsCell c v)(k:∀o,h.get? c=e9 o→∃sl,h'.get? c=e9 {o with slots:=sl}):h'.IsCell c v:=by
 obtain⟨o,e,d⟩:=n;obtain⟨sl,a⟩:=k o e;exact⟨_,a,d⟩
theorem _root_.L2.Inv.Ad (I:Inv X [] σ H s)(L:X.pn=[])(k:il (X.env.locals::X.fs) xs s.heap h')(w:∀a∈xs,Off X H a):Inv X [] σ H {s with heap:=h'}:=by
 have f:∀b o,X.s₀.heap.get? b=e9 o→b∉xs:=λb o e m=>by rw[(w b m).new]at e;cases e
 have h:∀b o,X.s₀.heap.get? b=e9 o→b≠X.env.locals:=λb o e z=>absurd (Nat.lt_of_lt_of_le (Heap.lt_size e) I.ok.above) (by rw[z];exact Nat.lt_irrefl _);have g:∀b∈X.fs,H b=f7:=λb A=>by
  obtain⟨_,o,N,_⟩:=I.ok.hU.mem A;exact I.base.free b o N (I.ok.frf b A) λz=>I.ok.exfs b z A
 have cs:∀x c,X.env.cells.lookup x=e9 c→∀o,s.heap.get? c=e9 o→∃sl,h'.get? c=e9 {o with slots:=sl}:=λx c e o O=>k.slot c o O λm=>(w c m).cell x c e rfl;refine⟨I.ok,I.os,I.bare,⟨λb o e n y nx=>?_,λb o e n y nx=>?_,I.base.free,λb o e nx=>?_,I.base.tups,I.base.frzs,I.base.tbls⟩,?_,λx c e=>?_,I.free,I.freeC,?_,λa o e=>?_,I.len⟩
 ·exact k.keep b o (I.base.keep b o e n y nx) (λm=>(List.mem_cons.mp m).elim (h b o e) y) (f b o e)
 ·obtain⟨sl,j⟩:=I.base.slot b o e n y nx;obtain⟨B,E⟩:=k.slot b _ j (f b o e);exact⟨B,E⟩
 ·obtain⟨P,j⟩:=I.base.there b o e nx;exact k.there b P j
 ·obtain⟨m,n,l⟩:=I.loc;refine⟨m,zf n λo e=>k.slot _ o e λz=>(w _ z).loc rfl,λi x v j E Q=>?_⟩;obtain⟨u,r,lk⟩:=l i x v j E Q;refine⟨u,r,lk.imp id λ⟨q,c,G,F⟩=>⟨q,c,G,lJ F (cs x c G)⟩⟩
 ·obtain⟨v,F⟩:=I.cell x c e;exact⟨v,lJ F (cs x c e)⟩
 ·intro p t;rw[L]at t;cases t
 ·refine(I.hok a o e).stay (λc v J q=>k.keep c v q (λm=>?_) λm=>?_) (λ_ q=>q) λ_ _ q=>q
  ·have d:H c=f7:=by
    rcases List.mem_cons.mp m with z|z
    ·rw[z];exact I.free
    ·exact g c z
   rcases J with z|z
   ·rw[z,e]at d;cases d
   ·rw[z]at d;cases d
  ·have d:=(w c m).free;rcases J with z|z
   ·rw[z,e]at d;cases d
   ·rw[z]at d;cases d
def Lc (H:Hp)(fs:List (Str×D))(dct:Option Addr):Prop:=(fs=[]∧dct=f7)∨∃dx f n,fs=[(f,.int n)]∧dct=e9 dx∧H dx=e9 (.xd [(f,.int n)])
def Jo (K:PySem.W.Frag)(H:Hp)(x:GT)(cls:Value)(dct:Option Addr):Prop:=∃C,cls=.ref C∧PySem.W.nsIn K l6 x.cls=e9 (e9 (.ref C))∧Lc H x.fs dct
def Jn (X:Cx)(H:Hp)(a:Addr)(cls:Value)(dct:Option Addr)(h:Heap):Prop:=
 (∃b vs,h.get? a=e9 b∧b.cls=cls∧b.dict=dct∧b.data=.fields vs∧vs[1]?=e9 .none)∨∃T c,AT h a T cls dct c∧Off X H T∧(c=.none∨c=rawInt X.env.locals)
structure vK (X:Cx):Prop where
 pn:X.pn=[]
 ex:X.ex=[]
 stk:X.stack=X.env::X.outer
 fr:X.env.frame=some X.env.locals
theorem ya (I:Inv X pins σ H s)(e:H a=e9 o):∃ob,s.heap.get? a=e9 ob:=by
 have x:=I.hok a o e;generalize s.heap=h at x;cases o with
 |lst xs=>obtain⟨_,_,_,_,e⟩:=x;exact⟨_,e⟩
 |tup xs=>obtain⟨_,_,_,ob,e,_⟩:=x;exact⟨_,e⟩
 |dK kvs=>obtain⟨_,_,_,_,o,_,_,e,_⟩:=x;exact⟨_,e⟩
 |dT kvs=>obtain⟨_,_,_,_,o,_,_,e,_⟩:=x;exact⟨_,e⟩
 |set S n=>obtain⟨o,_,_,_,e,_⟩:=x;exact⟨_,e⟩
 |ins C dx fs=>obtain⟨_,_,_,e,_⟩:=x;exact⟨_,e⟩
 |own y=>exact x
 |xd fs=>obtain⟨_,⟨_,_,_,e,_⟩,_⟩:=x;exact⟨_,e⟩
 |rng lo hi=>obtain⟨_,_,_,e⟩:=x;exact⟨_,e⟩
 |cH ob u=>obtain⟨e,_⟩:=x;exact⟨_,e⟩
 |tbl ps=>exact⟨_,show h.get? a=e9 _ from x⟩
 |met f y=>exact⟨_,show h.get? a=e9 _ from x⟩
 |ext φ=>obtain⟨_,e,_⟩:=x;exact e
theorem uK (I:Inv X [] σ H s)(F:vK X)(e:s.heap.get? T=f7):Off X H T:=by
 refine⟨?_,?_,λz=>?_,λx c b z=>?_⟩
 ·cases q:X.s₀.heap.get? T with
  |none=>rfl
  |some o=>
   obtain⟨o',a⟩:=I.base.there T o q (by rw[F.ex];simp);rw[e]at a;cases a
 ·cases q:H T with
  |none=>rfl
  |some o=>
   obtain⟨ob,a⟩:=ya I q;rw[e]at a;cases a
 ·obtain⟨m,⟨o,_,_,a,_⟩,_⟩:=I.loc;rw[z,a]at e;cases e
 ·obtain⟨v,o,a,_⟩:=I.cell x c b;rw[z,e]at a;cases a
section
variable {M:Model}{E:Value→Shared→Prop}{Q:Unit→Shared→Prop}{a:Addr}{cls:Value}{dct:Option Addr}
theorem wT(k:il [] xs h h'):il fs xs h h':=⟨λb o e _ nx=>k.keep b o e (by simp) nx,k.slot,k.there⟩
theorem noted (I:Inv X [] σ H s)(F:vK X)(j:Off X H a)(l:Jn X H a cls dct s.heap)(h:∀h' T,Inv X [] σ H {s with heap:=h'}→AT h' a T cls dct (rawInt X.env.locals)→Off X H T→Q () {s with heap:=h'}):wpAny M X.A (noteFrame (.ref a) X.env) Q E s:=by
 have c:X.A.frames=e9 (X.env::X.outer):=by rw[←F.stk];exact I.ok.frames
 have hl:s.heap.FunFrames X.base (X.env::X.outer):=by rw[←F.stk];exact I.stack
 have f:frs (X.env::X.outer)=X.env.locals::X.fs:=by
  show List.filterMap _ _=_;rw[List.filterMap_cons,F.fr];rfl
 rcases l with⟨q,vs,e,rfl,rfl,d,o⟩ | ⟨T,l,t,m,rfl|rfl⟩
 ·refine sM c hl F.fr e d o λh' g k n t=>?_;rw[f]at k;exact h h' g (I.Ad F.pn k λb i=>by rw[List.mem_singleton.mp i];exact j) t (uK I F n)
 ·refine wI c hl F.fr t λh' g k n p=>?_;rw[f]at k;exact h h' g (I.Ad F.pn k λb i=>by
   rcases List.mem_cons.mp i with z|z
   ·rw[z];exact j
   ·rw[List.mem_singleton.mp z];exact m) p (uK I F n)
 ·exact sO F.fr t (h s.heap T I t m)
theorem marked (f:Option Addr)(I:Inv X [] σ H s)(F:vK X)(t:AT s.heap a T cls dct c)(d:Off X H T)(h:∀h',Inv X [] σ H {s with heap:=h'}→AT h' a T cls dct (f.elim Value.none λb=>rawInt b)→Q () {s with heap:=h'}):wpAny M X.A (setFlight (.ref a) f) Q E s:=
 CZ t λh' k e=>h h' (I.Ad F.pn (wT k) λb g=>by rw[List.mem_singleton.mp g];exact d) e
end
end
noncomputable abbrev XP:=GT→St→Hp→Prop
def ExcAt (X:Cx)(x:GT)(e:Value)(H:Hp)(s:Shared):Prop:=∃a cls dct,e=.ref a∧Jo X.K H x cls dct∧Off X H a∧Jn X H a cls dct s.heap∧vK X
noncomputable def XE (X:Cx)(ξ:XP):Value→Shared→Prop:=λe a=>∃x pins σ H,Inv X pins σ H a∧ExcAt X x e H a∧ξ x σ H
noncomputable abbrev rz (X:Cx)(ξ:XP):Cx:=X.X5 (XE X ξ)
noncomputable abbrev Rel (α a:Type):=Bs→Hp→Hp→St→l5→a→α→Prop
noncomputable def C4:Rel W V:=λB G H σ ρ v w=>E2 B G H σ ρ v w
noncomputable def cT:Rel Bool Bool:=λ_ _ _ _ _ v b=>v=b
noncomputable def DS:W→Bool
 |.own _=>f6
 |_=>f8
noncomputable def M8:Rel (List W) (List V):=λB G H σ ρ vs a=>Paired (λv w=>E2 B G H σ ρ v w∧DS w=f8) vs a
section
variable {α β Ml Mj:Type}{L8:Rel α β}{xO:Rel Ml Mj}{B:Bs}{ξ:XP}{G H:Hp}{σ:St}{ρ:l5}
noncomputable def Post (L8:Rel α β)(B:Bs)(ξ:XP)(G:Hp)(σ:St)(Q:β→Hp→Prop):R' α→Prop
 |.ok w ρ'=>∀v G' H',j6 G G'→RS B G' H' σ ρ'→L8 B G' H' σ ρ' v w→Q v H'
 |.ex x ρ'=>∀G' H',j6 G G'→RS B G' H' σ ρ'→ξ x σ H'
def cE (L8:Rel α β)(B:Bs)(ξ:XP)(G:Hp)(ρ:l5)(m:M α)(σ:St)(Q:β→Hp→Prop):Prop:=∃r,m ρ=e9 r∧Post L8 B ξ G σ Q r
noncomputable def TD (L8:Rel α β)(B:Bs)(ξ:XP)(m:M α):St→Hp→(β→Hp→Prop)→Prop:=λσ H Q=>∃G ρ,RS B G H σ ρ∧cE L8 B ξ G ρ m σ Q
theorem Post.same(s:j6 G G')(h:Post L8 B ξ G σ Q r):Post L8 B ξ G' σ Q r:=by
 cases r with
 |ok w ρ'=>exact λv a b s2=>h v a b (s.trans s2)
 |ex x ρ'=>exact λa b s2=>h a b (s.trans s2)
theorem cE.mono(h:∀v H,Q v H→a v H)(t:cE L8 B ξ G ρ m σ Q):cE L8 B ξ G ρ m σ a:=by
 obtain⟨r,e,p⟩:=t;refine⟨r,e,?_⟩;cases r with
 |ok w ρ'=>exact λv G' H' s R q=>h v H' (p v G' H' s R q)
 |ex x ρ'=>exact p
theorem TD.mono(h:∀v H,Q v H→a v H)(t:TD L8 B ξ m σ H Q):TD L8 B ξ m σ H a:=by
 obtain⟨G,ρ,R,t⟩:=t;exact⟨G,ρ,R,t.mono h⟩
theorem TD.bind(R:RS B G H σ ρ)(t:cE xO B ξ G ρ (M.bind m f) σ Q):
  TD L8 B ξ m σ H (λv g=>∃c b a,j6 G c∧RS B c g σ b∧L8 B c g σ b v a∧cE xO B ξ c b (f a) σ Q):=by
 obtain⟨r,e,p⟩:=t;cases d:m ρ with
 |none=>rw[M.bind_none d]at e;cases e
 |some h=>
  cases h with
  |ex x b=>
   rw[M.dB d]at e;cases e;exact⟨G,ρ,R,_,d,p⟩
  |ok a b=>
   rw[M.j9 d]at e;exact⟨G,ρ,R,_,d,λv c g s i q=>⟨c,b,a,s,i,q,r,e,p.same s⟩⟩
theorem TD.vF(R:RS B G H σ ρ)(t:cE xO B ξ G ρ (M.bind m f) σ Q):
  TD L8 B ξ m σ H (λv g=>∃c b a,m ρ=e9 (.ok a b)∧j6 G c∧RS B c g σ b∧L8 B c g σ b v a∧cE xO B ξ c b (f a) σ Q):=by
 obtain⟨r,e,p⟩:=t;cases d:m ρ with
 |none=>rw[M.bind_none d]at e;cases e
 |some h=>
  cases h with
  |ex x b=>
   rw[M.dB d]at e;cases e;exact⟨G,ρ,R,_,d,p⟩
  |ok a b=>
   rw[M.j9 d]at e;exact⟨G,ρ,R,_,d,λv c g s i q=>⟨c,b,a,rfl,s,i,q,r,e,p.same s⟩⟩
theorem cE.step {m:M α}{f:α→M Ml}{Q:Mj→Hp→Prop}(t:cE xO B ξ G ρ (M.bind m f) σ Q)(b:∀r,m ρ=e9 r→∃a ρ',r=.ok a ρ'):∃a ρ',m ρ=e9 (.ok a ρ')∧cE xO B ξ G ρ' (f a) σ Q:=by
 obtain⟨r,e,p⟩:=t;cases hr:m ρ with
 |none=>rw[M.bind_none hr]at e;cases e
 |some c=>
  obtain⟨a,ρ',rfl⟩:=b c hr;rw[M.j9 hr]at e;exact⟨a,ρ',rfl,r,e,p⟩
end
theorem _root_.L2.PE.imp(h:PE X e t)(i:∀σ H Q,a σ H Q→t σ H Q):PE X e a:=λpins s σ H Q I q=>h pins s σ H Q I (i σ H Q q)
theorem _root_.L2.PT.imp(h:PT X e t)(i:∀σ H Q,a σ H Q→t σ H Q):PT X e a:=λpins s σ H Q I q=>h pins s σ H Q I (i σ H Q q)
theorem _root_.L2.PW.imp(h:PW X e t)(i:∀σ H Q,a σ H Q→t σ H Q):PW X e a:=λb pins s σ H Q I q=>h b pins s σ H Q I (i σ H Q q)
theorem _root_.L2.PA.imp(h:PA X e t)(i:∀σ H Q,a σ H Q→t σ H Q):PA X e a:=λpos pins s σ H Q I q=>h pos pins s σ H Q I (i σ H Q q)
theorem _root_.L2.PS.imp(h:PS X e t)(i:∀D σ H,a D σ H→t D σ H):PS X e a:=λpins s σ H D I q=>h pins s σ H D I (i D σ H q)
theorem _root_.L2.lV.imp(h:lV X e t)(i:∀D σ H,a D σ H→t D σ H):lV X e a:=λpins s σ H D I q=>h pins s σ H D I (i D σ H q)
structure PD (X:Cx) (B:Bs) (e:Expr) (m:M W):Prop where
 ap:∀ξ,PE (rz X ξ) e (TD C4 B ξ m)
structure lW (X:Cx) (B:Bs) (e:Expr) (m:M Bool):Prop where
 ap:∀ξ,PT (rz X ξ) e (TD cT B ξ m)
structure Er (X:Cx) (B:Bs) (e:Expr) (m:M Bool):Prop where
 ap:∀ξ,PW (rz X ξ) e (TD cT B ξ m)
structure gl (X:Cx) (B:Bs) (es:List Expr) (m:M (List W)):Prop where
 ap:∀ξ,PA (rz X ξ) es (TD M8 B ξ m)
theorem Er.pt(h:Er X B e m):lW X B e m:=.mk λξ=>(h.ap ξ).pt
noncomputable def L1 (m:M W):M W:=M.bind m λw=>match w with
 |.own d=>M.pure (.val d)
 |w=>M.pure w
theorem yf(h:m ρ=e9 (.ok (.own d) ρ')):L1 m ρ=e9 (.ok (.val d) ρ'):=by unfold L1;rw[M.j9 h];rfl
theorem qg(h:m ρ=e9 (.ok (.val d) ρ')):L1 m ρ=e9 (.ok (.val d) ρ'):=by unfold L1;rw[M.j9 h];rfl
theorem mV(h:m ρ=e9 (.ok (.slot i) ρ')):L1 m ρ=e9 (.ok (.slot i) ρ'):=by unfold L1;rw[M.j9 h];rfl
noncomputable def gT:Rel W V:=λB G H σ ρ v w=>E2 B G H σ ρ v w∧DS w=f8
section
variable {X:Cx}{B:Bs}{e a b c:Expr}{ma mb mc:M W}{pos:Pos}
theorem TD.L1(t:TD gT B ξ (L1 m) σ H Q):TD C4 B ξ m σ H Q:=by
 obtain⟨G,ρ,R,t⟩:=t;have f:=TD.bind (L8:=C4) R t;refine f.mono λv a ⟨e,h,w,s,b,q,j⟩=>?_;obtain⟨r,c,p⟩:=j;cases w with
 |val d=>cases c;exact p v e a (j6.refl _) b ⟨q,rfl⟩
 |slot i=>cases c;exact p v e a (j6.refl _) b ⟨q,rfl⟩
 |own d=>
  cases c;obtain⟨u,rfl,g,k,o,ne⟩:=q;obtain⟨G',l,R',n⟩:=b.cH g k o ne;exact p _ G' a l R' ⟨n,rfl⟩
theorem E2.keep(s:j6 G G')(h:E2 B G H σ ρ v w)(a:DS w=f8):E2 B G' H' σ ρ' v w:=
 h.same s λd z=>by rw[z]at a;cases a
noncomputable def FM (f:D→D→Option W)(a b:W):M W:=λρ=>match getD a ρ,getD b ρ with
 |some x,e9 y=>(f x y).map (R'.ok · ρ)
 |_,_=>f7
noncomputable def Hg (f:D→Option W)(a:W):M W:=λρ=>match getD a ρ with
 |some x=>(f x).map (R'.ok · ρ)
 |_=>f7
noncomputable def i3 (f:D→D→Option W)(ma mb:M W):M W:=M.bind (L1 ma) λx=>M.bind mb λy=>FM f x y
noncomputable def aZ (f:D→Option W)(ma:M W):M W:=M.bind ma λx=>Hg f x
def fD (B:Bs)(r:R2)(f:D→D→Option W):Prop:=∀{G H:Hp} {σ:St} {ρ:l5} {x y:V} {dx a:D} {w:W} {Q:VK},RS B G H σ ρ→O2 B.K G H x dx→O2 B.K G H y a→f dx a=e9 w→
 (∀v G' H',j6 G G'→RS B G' H' σ ρ→E2 B G' H' σ ρ v w→Q v H')→r x y H Q
def AX (B:Bs)(r:V→Hp→VK→Prop)(f:D→Option W):Prop:=∀{G H:Hp} {σ:St} {ρ:l5} {x:V} {dx:D} {w:W} {Q:VK},RS B G H σ ρ→O2 B.K G H x dx→f dx=e9 w→
 (∀v G' H',j6 G G'→RS B G' H' σ ρ→E2 B G' H' σ ρ v w→Q v H')→r x H Q
theorem uI(t:cE C4 B ξ G ρ (FM f x y) σ Q):∃dx a w,getD x ρ=e9 dx∧getD y ρ=e9 a∧f dx a=e9 w∧∀v G' H',j6 G G'→RS B G' H' σ ρ→E2 B G' H' σ ρ v w→Q v H':=by
 obtain⟨r,e,p⟩:=t;unfold FM at e;cases b:getD x ρ with
 |none=>rw[b]at e;cases e
 |some dx=>
  cases d:getD y ρ with
  |none=>rw[b,d]at e;cases e
  |some a=>
   rw[b,d]at e;simp only[]at e;cases c:f dx a with
   |none=>rw[c]at e;cases e
   |some w=>
    rw[c]at e;cases e;exact⟨dx,a,w,rfl,rfl,c,p⟩
theorem uJ(t:cE C4 B ξ G ρ (Hg f x) σ Q):∃dx w,getD x ρ=e9 dx∧f dx=e9 w∧∀v G' H',j6 G G'→RS B G' H' σ ρ→E2 B G' H' σ ρ v w→Q v H':=by
 obtain⟨r,e,p⟩:=t;unfold Hg at e;cases b:getD x ρ with
 |none=>rw[b]at e;cases e
 |some dx=>
  rw[b]at e;simp only[]at e;cases a:f dx with
  |none=>rw[a]at e;cases e
  |some w=>
   rw[a]at e;cases e;exact⟨dx,w,rfl,a,p⟩
theorem om(hi:fD B r f)(t:TD C4 B ξ (i3 f ma mb) σ H Q):HL r (TD C4 B ξ ma) (TD C4 B ξ mb) σ H Q:=by
 obtain⟨G,ρ,R,t⟩:=t;have c:TD gT B ξ (L1 ma) σ H _:=TD.bind (L8:=gT) R t;refine TD.L1 (c.mono λx s ⟨u,d,e,s1,g,⟨h,a⟩,i⟩=>?_);refine(TD.bind (L8:=C4) g i).mono λy j ⟨k,b,v,s2,R2,l,m⟩=>?_;obtain⟨dx,z,w,n,o,q,p⟩:=uI m;exact hi R2 ((h.keep s2 a:E2 B k j σ b x e).get R2 n) (l.get R2 o) q p
theorem sq(hi:AX B r f)(t:TD C4 B ξ (aZ f ma) σ H Q):Md r (TD C4 B ξ ma) σ H Q:=by
 obtain⟨G,ρ,R,t⟩:=t;refine(TD.bind (L8:=C4) R t).mono λx h ⟨i,b,j,s1,a,c,d⟩=>?_;obtain⟨dx,w,e,g,p⟩:=uJ d;exact hi a (c.get a e) g p
theorem kS {c:Operator}{r:R2}{f:D→D→Option W}(d:∀ξ,fC (rz X ξ) (dO c) r)(hi:fD B r f)(e:PD X B a ma)(g:PD X B b mb):PD X B (.BinOp a c b pos) (i3 f ma mb):=.mk λξ=>
 (Im (d ξ) (e.ap ξ) (g.ap ξ)).imp λ_ _ _ t=>om hi t
theorem Ip {b:UnaryOp}{r:V→Hp→VK→Prop}{f:D→Option W}(c:∀ξ,JL (rz X ξ) (NH b) r)(hi:AX B r f)(d:PD X B a ma):PD X B (.UnaryOp b a pos) (aZ f ma):=.mk λξ=>
 (Ea (c ξ) (d.ap ξ)).imp λ_ _ _ t=>sq hi t
theorem oO {c:CmpOp}{r:R2}{f:D→D→Option W}(d:∀ξ,fC (rz X ξ) (v9 c) r)(hi:fD B r f)(e:PD X B a ma)(g:PD X B b mb)(h:z8 c b=f6):PD X B (.Compare a [c] [b] pos) (i3 f ma mb):=.mk λξ=>
 (Cp (d ξ) (e.ap ξ) (g.ap ξ) h).imp λ_ _ _ t=>om hi t
noncomputable def p6 (m:M W):M Bool:=M.bind m λw=>λρ=>match w with
 |.val (.bl b)=>e9 (.ok b ρ)
 |_=>f7
theorem so(t:TD cT B ξ (p6 m) σ H Q):TD C4 B ξ m σ H λx H'=>∃k,x=.bl k∧Q k H':=by
 obtain⟨G,ρ,R,t⟩:=t;refine(TD.bind (L8:=C4) R t).mono λx b ⟨a,c,w,s1,f,g,r,e,p⟩=>?_;cases w with
 |val d=>
  cases d with
  |bl k=>
   cases e;have h:Rep B.K a x (.bl k):=g;cases h;exact⟨k,rfl,p k a b (j6.refl _) f rfl⟩
  |_=>cases e
 |_=>cases e
theorem cU {c:CmpOp}{r:R2}{f:D→D→Option W}(d:∀ξ,fC (rz X ξ) (v9 c) r)(hi:fD B r f)(e:PD X B a ma)(g:PD X B b mb)(h:z8 c b=f6):lW X B (.Compare a [c] [b] pos) (p6 (i3 f ma mb)):=.mk λξ=>
 (BZ (d ξ) (e.ap ξ) (g.ap ξ) h).imp λ_ _ _ t=>TD.mono (λ_ _ q=>q) (om hi (so t))
noncomputable def h7 (i:Nat):M W:=λρ=>match ρ[i]? with
 |some (e9 _)=>e9 (.ok (.slot i) ρ)
 |_=>f7
noncomputable def mC (d:D):M W:=M.pure (.val d)
theorem EK(t:TD C4 B ξ (h7 i) σ H Q):ER i σ H Q:=by
 obtain⟨G,ρ,R,r,e,p⟩:=t;unfold h7 at e;cases h:ρ[i]? with
 |none=>rw[h]at e;cases e
 |some o=>
  cases o with
  |none=>rw[h]at e;cases e
  |some c=>
   rw[h]at e;cases e;have b:∃v,σ[i]?=e9 (e9 v):=by
    cases c with
    |sh d=>obtain⟨v,q,_⟩:=R.sh i d h;exact⟨v,q⟩
    |ow l d=>obtain⟨v,q,_⟩:=R.ow i l d h;exact⟨_,q⟩
    |fz es=>obtain⟨a,o,kvs,q,_⟩:=R.fz i es h;exact⟨_,q⟩
    |ob l fds=>obtain⟨_,_,_,_,_,_,q,_⟩:=R.ob.1 i l fds h;exact⟨_,q⟩
    |rd fds=>obtain⟨_,_,_,_,_,_,_,q,_⟩:=R.ob.2 i fds h;exact⟨_,q⟩
   obtain⟨v,q⟩:=b;exact⟨v,q,p v G H (j6.refl _) R q⟩
theorem we(a:∀G,Rep B.K G v d)(t:TD C4 B ξ (mC d) σ H Q):tC v σ H Q:=by
 obtain⟨G,ρ,R,r,e,p⟩:=t;cases e;exact p v G H (j6.refl _) R (a G)
theorem dv (i:Nat)(b:X.N[i]?=e9 x:=by rfl)(c:fB X.env.scope x:=by first|exact Or.inl rfl|exact Or.inr (Or.inl rfl) |exact Or.inr (Or.inr rfl))(hd:(x==("__debug__":Str))=f6:=by decide) (a:(x==("__classdict__":Str))=f6:=by decide):PD X B (.Name x pos) (h7 i):=.mk λξ=>
 (bF (X:=rz X ξ) b c hd a).imp λ_ _ _ t=>EK t
theorem i7 {i j pos}:PD X B (.Constant (.int i) j pos) (mC (.int i)):=.mk λξ=>(sE (X:=rz X ξ)).imp λ_ _ _ t=>we (λ_=>.int i) t
theorem aR {b j pos}:PD X B (.Constant (.bool b) j pos) (mC (.bl b)):=.mk λξ=>(Ec (X:=rz X ξ)).imp λ_ _ _ t=>we (λ_=>.bl b) t
theorem rA {j pos}:PD X B (.Constant .none j pos) (mC .v1):=.mk λξ=>(Fz (X:=rz X ξ)).imp λ_ _ _ t=>we (λ_=>.v1) t
theorem jU {K:PySem.W.Frag}{G:Hp}(x:Str):Rep K G (.str x) (.str x.cps.toList):=by
 have e:=EF x;have r:=Rep.str (K:=K) (G:=G) x.cps.toList;rw[e]at r;exact r
theorem IY {x j pos}:PD X B (.Constant (.str x) j pos) (mC (.str x.cps.toList)):=.mk λξ=>(Fx (X:=rz X ξ)).imp λ_ _ _ t=>we (λ_=>jU x) t
theorem nQ(h:DI X.mg x v)(a:∀G,Rep B.K G v d)(b:Gl X x:=by rfl)(hd:(x==("__debug__":Str))=f6:=by decide):PD X B (.Name x pos) (mC d):=.mk λξ=>
 (KF (X:=rz X ξ) h b hd).imp λ_ _ _ t=>we a t
theorem KS(a:X.mg x=f7)(b:K4 x=e9 (.type n))(c:Gl X x:=by rfl)(d:x≠"__name__":=by decide) (hd:(x==("__debug__":Str))=f6:=by decide):PD X B (.Name x pos) (mC (.ty n)):=.mk λξ=>
 (MF (X:=rz X ξ) a b c d hd).imp λ_ _ _ t=>we (λ_=>.ty n) t
end
noncomputable def dL (p:Prop)[Decidable p]{α:Type}(x:Option α):Option α:=if p then x else f7
theorem v7 {p:Prop}[Decidable p]{α:Type}{x:Option α}(h:p):dL p x=x:=if_pos h
theorem p5 {p:Prop}[Decidable p]{α:Type}{x:Option α}{a:α}(h:dL p x=e9 a):p∧x=e9 a:=by
 unfold dL at h;split at h
 ·exact⟨‹p›,h⟩
 ·cases h
noncomputable def vI (i:Int):Option W:=e9 (.val (.int i))
noncomputable def vB (b:Bool):Option W:=e9 (.val (.bl b))
def small (n:Nat):Prop:=n≤1000000
instance (n:Nat):Decidable (small n):=inferInstanceAs (Decidable (n≤1000000))
noncomputable def z7:D→D→Option W
 |.int i,.int j=>vI (i+j)
 |.str a,.str b=>dL (small (a.length+b.length)) (e9 (.val (.str (a++b))))
 |.lst a,.lst b=>dL (small (a.length+b.length)) (e9 (.own (.lst (a++b))))
 |_,_=>f7
noncomputable def lY:D→D→Option W
 |.int i,.int j=>vI (i-j)
 |_,_=>f7
instance (i j:Int):Decidable (rP i j):=by unfold rP;infer_instance
instance (i j:Int):Decidable (rQ i j):=by unfold rQ;infer_instance
noncomputable def bG:D→D→Option W
 |.int i,.int j=>dL (rP i j) (vI (i*j))
 |_,_=>f7
noncomputable def lF:D→D→Option W
 |.int i,.int j=>dL (rQ i j) (vI (i / j))
 |_,_=>f7
noncomputable def S9:D→D→Option W
 |.int i,.int j=>dL (0<j) (vI (i % j))
 |_,_=>f7
noncomputable def N1:D→Option W
 |.int i=>vI (-i)
 |_=>f7
noncomputable def U8 (f:Int→Int→Bool):D→D→Option W
 |.int i,.int j=>vB (f i j)
 |_,_=>f7
theorem Cw {X:Cx}{K:PySem.W.Frag}(B:X.K=K):fC X (dO .Add) (λx y H Q=>∃l b xs k,x=.ref l∧y=.ref b∧P7 K H l xs∧P7 K H b k∧xs.length+k.length≤sizeLine∧∀p,H p=f7→Q (.ref p) (upd H p (.lst (xs++k)))):=by
 subst B;intro pins s σ H x y v u Q I E G h;obtain⟨l,b,xs,k,rfl,rfl,J,L,P,q⟩:=h;cases E;cases G;obtain⟨d,r,pl,_⟩:=I.list J;obtain⟨a,t,m,_⟩:=I.list L;obtain⟨⟨cls,R,data,sl⟩,n,w,z,f,hd⟩:=pl;obtain⟨⟨A,N,data2,o⟩,O,g,i,c,j⟩:=m;simp only at z hd i j f c;subst z hd i j f c;have S:=r.length;have T:=t.length;have e:d.toArray++a.toArray=(d++a).toArray:=by simp
 refine concat_meets ⟨_,w,rfl⟩ ⟨_,g,rfl⟩ noFill_list_add seq_list_add PySem.F.slot_list_add PySem.F.entry_list_add (PySem.F.args_list_add_2 _ _) (list_addW l b d.toArray a.toArray n O f7 f7 sl o (by rw[List.size_toArray,List.size_toArray];omega)) ⟨w,g,?_⟩;rw[e];exact⟨.ref _,_,I.KI (t':=s.toks) (r.append t) (by rw[List.length_append];omega),rfl,q _ I.fresh⟩
theorem R9(h:small n):n≤sizeLine:=by unfold small at h;rw[v0];omega
section
variable {X:Cx}{B:Bs}{e a b c:Expr}{ma mb mc:M W}{pos:Pos}
theorem CT {g:Int→Int→Int}{f:D→D→Option W}(b:∀dx a w,f dx a=e9 w→∃i j,dx=.int i∧a=.int j∧w=.val (.int (g i j))):fD B (Bi λi j=>.int (g i j)) f:=by
 intro G H σ ρ x y dx a w Q R c d e p;obtain⟨i,j,rfl,rfl,rfl⟩:=b _ _ _ e;exact⟨i,j,c.int,d.int,p _ G H (j6.refl _) R (.int _)⟩
theorem tH {P:Int→Int→Prop}{g:Int→Int→Int}{f:D→D→Option W}(b:∀dx a w,f dx a=e9 w→∃i j,dx=.int i∧a=.int j∧P i j∧w=.val (.int (g i j))):fD B (rI P λi j=>.int (g i j)) f:=by
 intro G H σ ρ x y dx a w Q R c d e p;obtain⟨i,j,rfl,rfl,h,rfl⟩:=b _ _ _ e;exact⟨i,j,c.int,d.int,h,p _ G H (j6.refl _) R (.int _)⟩
theorem hP (g:Int→Int→Bool):fD B (Bi λi j=>.bl (g i j)) (U8 g):=by
 intro G H σ ρ x y dx a w Q R b c e p;cases dx<;>cases a<;>first|cases e|skip
 exact⟨_,_,b.int,c.int,p _ G H (j6.refl _) R (.bl _)⟩
theorem zO:fD B (Bi λi j=>.int (i-j)) lY:=CT λdx a w e=>by
 cases dx<;>cases a<;>first|cases e|skip
 exact⟨_,_,rfl,rfl,rfl⟩
theorem zQ:fD B (rI rP λi j=>.int (i*j)) bG:=tH λdx a w e=>by
 cases dx<;>cases a<;>first|cases e|skip
 obtain⟨h,e⟩:=p5 e;cases e;exact⟨_,_,rfl,rfl,h,rfl⟩
theorem zS:fD B (rI rQ λi j=>.int (i / j)) lF:=tH λdx a w e=>by
 cases dx<;>cases a<;>first|cases e|skip
 obtain⟨h,e⟩:=p5 e;cases e;exact⟨_,_,rfl,rfl,h,rfl⟩
theorem zR:fD B (rI (λ_ j=>0<j) λi j=>.int (i % j)) S9:=tH λdx a w e=>by
 cases dx<;>cases a<;>first|cases e|skip
 obtain⟨h,e⟩:=p5 e;cases e;exact⟨_,_,rfl,rfl,h,rfl⟩
theorem zT:AX B (rU λi=>.int (-i)) N1:=by
 intro G H σ ρ x dx w Q R a e p;cases dx<;>first|cases e|skip
 exact⟨_,a.int,p _ G H (j6.refl _) R (.int _)⟩
theorem nN (c:PD X B a ma)(d:PD X B b mb):PD X B (.BinOp a .Sub b pos) (i3 lY ma mb):=kS (λ_=>FG) zO c d
theorem cy (c:PD X B a ma)(d:PD X B b mb):PD X B (.BinOp a .Mult b pos) (i3 bG ma mb):=kS (λ_=>FI) zQ c d
theorem nP (c:PD X B a ma)(d:PD X B b mb):PD X B (.BinOp a .FloorDiv b pos) (i3 lF ma mb):=kS (λ_=>Cv) zS c d
theorem U7 (c:PD X B a ma)(d:PD X B b mb):PD X B (.BinOp a .Mod b pos) (i3 S9 ma mb):=kS (λ_=>FJ) zR c d
theorem P0 (b:PD X B a ma):PD X B (.UnaryOp .USub a pos) (aZ N1 ma):=Ip (λ_=>xV) zT b
theorem y0 (j:PD X B a ma)(k:PD X B b mb)(m:X.K=B.K:=by rfl):PD X B (.BinOp a .Add b pos) (i3 z7 ma mb):=by
 refine kS (λξ=>(FK (X:=rz X ξ)).or (sJ.or (Cw (K:=B.K) m))) ?_ j k;intro G H σ ρ x y dx n w Q R c d e p;cases dx<;>cases n<;>first|cases e|skip
 ·exact .inl ⟨_,_,c.int,d.int,p _ G H (j6.refl _) R (.int _)⟩
 ·obtain⟨h,e⟩:=p5 e;cases e;refine .inr (.inl ⟨_,_,c.str,d.str,by rw[dW,dW];exact R9 h,?_⟩);rw[EG];exact p _ G H (j6.refl _) R (.str _)
 ·obtain⟨h,e⟩:=p5 e;cases e;obtain⟨l,xs,rfl,o,g⟩:=c.lst R.gH;obtain⟨r,f,rfl,s,i⟩:=d.lst R.gH;refine .inr (.inr ⟨l,r,xs,f,rfl,rfl,o,s,by rw[g.len,i.len];exact R9 h,λq t=>?_⟩);obtain⟨R',u⟩:=R.eu t (g.append i);exact p _ G _ (j6.refl _) R' u
theorem KX (c:PD X B a ma)(d:PD X B b mb):PD X B (.Compare a [.LtE] [b] pos) (i3 (U8 λi j=>decide (i≤j)) ma mb):=oO (λ_=>Ed) (hP _) c d (er _)
theorem GH (c:PD X B a ma)(d:PD X B b mb):PD X B (.Compare a [.Gt] [b] pos) (i3 (U8 λi j=>decide (j<i)) ma mb):=oO (λ_=>Ee) (hP _) c d (er _)
theorem BG (c:PD X B a ma)(d:PD X B b mb):lW X B (.Compare a [.Lt] [b] pos) (p6 (i3 (U8 λi j=>decide (i<j)) ma mb)):=cU (λ_=>Ix) (hP _) c d (er _)
theorem Kk (c:PD X B a ma)(d:PD X B b mb):lW X B (.Compare a [.LtE] [b] pos) (p6 (i3 (U8 λi j=>decide (i≤j)) ma mb)):=cU (λ_=>Ed) (hP _) c d (er _)
theorem EO (c:PD X B a ma)(d:PD X B b mb):lW X B (.Compare a [.Gt] [b] pos) (p6 (i3 (U8 λi j=>decide (j<i)) ma mb)):=cU (λ_=>Ee) (hP _) c d (er _)
end
noncomputable def kg (f:D→D→Option Bool):List D→List D→Option Bool
 | [],[]=>e9 f8
 | [],_::_=>e9 f6
 |_::_,[]=>e9 f6
 |x::xs,y::c=>match f x y,kg f xs c with
  |some a,e9 b=>e9 (a&&b)
  |_,_=>f7
noncomputable def IR:D→D→Option Bool
 |.v1,.v1=>e9 f8
 |.bl a,.bl b=>e9 (a==b)
 |.int a,.int b=>e9 (a==b)
 |.str a,.str b=>e9 (a==b)
 |.v1,.bl _=>e9 f6
 |.v1,.int _=>e9 f6
 |.v1,.str _=>e9 f6
 |.bl _,.v1=>e9 f6
 |.int _,.v1=>e9 f6
 |.str _,.v1=>e9 f6
 |.tup _,.v1=>e9 f6
 |.lst _,.v1=>e9 f6
 |_,_=>f7
noncomputable def bR:Nat→D→D→Option Bool
 |n+1,.tup a,.tup b=>kg (bR n) a b
 |n+1,.lst a,.lst b=>kg (bR n) a b
 |_,d,e=>IR d e
theorem vu:∀{xs a:List D} {b:Bool},kg f xs a=e9 b→xs.length≠a.length→b=f6
 | [],[],_,_,h=>absurd rfl h
 | [],_::_,_,e,_=>by cases e;rfl
 |_::_,[],_,e,_=>by cases e;rfl
 |x::xs,y::a,b,e,h=>by
  unfold kg at e;cases c:f x y with
  |none=>rw[c]at e;cases e
  |some p=>
   cases d:kg f xs a with
   |none=>rw[c,d]at e;cases e
   |some q=>
    rw[c,d]at e;cases e;rw[vu d (by simpa using h),gk]
theorem pz:∀{xs d:List D} {b:Bool},kg f xs d=e9 b→∃g:Nat→Bool,(∀(j:Nat) x y,xs[j]?=e9 x→d[j]?=e9 y→f x y=e9 (g j))∧b=((List.range (min xs.length d.length)).all g&&(xs.length==d.length))
 | [],[],_,e=>by cases e;exact⟨λ_=>f8,λj x y h=>by simp at h,rfl⟩
 | [],_::_,_,e=>by cases e;exact⟨λ_=>f8,λj x y h=>by simp at h,by simp⟩
 |_::_,[],_,e=>by cases e;exact⟨λ_=>f8,λj x y _ h=>by simp at h,by simp⟩
 |x::xs,y::d,b,e=>by
  unfold kg at e;cases i:f x y with
  |none=>rw[i]at e;cases e
  |some p=>
   cases k:kg f xs d with
   |none=>rw[i,k]at e;cases e
   |some q=>
    rw[i,k]at e;cases e;obtain⟨g,l,m⟩:=pz k;refine⟨λj=>if j=0 then p else g (j-1),λj n o a c=>?_,?_⟩
    ·cases j with
     |zero=>simp at a c;subst a c;simpa using i
     |succ j=>simpa using l j n o (by simpa using a) (by simpa using c)
    ·have em:min (x::xs).length (y::d).length=min xs.length d.length+1:=by simp only[List.length_cons];omega
     rw[em,List.range_succ_eq_map,List.all_cons,List.all_map,m,List.length_cons,List.length_cons];simp only[if_pos,Bool.and_assoc];congr 2;simp
theorem ri(h:kg f xs a=e9 b)(hl:xs.length=a.length):∃g:Nat→Bool,(∀(j:Nat) x y,xs[j]?=e9 x→a[j]?=e9 y→f x y=e9 (g j))∧b=(List.range xs.length).all g:=by
 obtain⟨g,c,d⟩:=pz h;refine⟨g,c,?_⟩;rw[d,hl];simp
theorem O2.rep {K:PySem.W.Frag}{G H:Hp}{v:V}{d:D}(g:j6 G H)(h:O2 K G H v d):Rep K H v d:=by
 rcases h with h| ⟨p,rfl,h⟩
 ·exact h.same g
 ·cases d with
  |lst ds=>
   obtain⟨xs,e,r⟩:=h;have a:=r.same g;exact .lst (P7.of e) a.len a.get
  |dct es=>
   obtain⟨xs,e,r⟩:=h;have a:=r.same g;exact .dct (.inl e) a.keys a.get
  |_=>exact(show False from h).elim
section
variable {X:Cx}{pins:List (Addr×Obj)}{σ:St}{H:Hp}{s:Shared}
theorem str_beq (a b:List Nat):(tx a==tx b)=(a==b):=by
 rw[mO,beq_iff_eq,beq_iff_eq];exact xW
theorem Dm {A:Around}{ds es:List D}(I:Inv X pins σ H s)(F:bz X.K H a xs)(G:bz X.K H b f)(S:xs.length=ds.length)(T:f.length=es.length)(o:A.units<C2)
  (ih:∀(j:Nat) x y v u,xs[j]?=e9 x→f[j]?=e9 y→RelV x v→RelV y u→Y5 A.in1 s v u (g j)):
  iu A s (.ref a) (.ref b) ((List.range (min ds.length es.length)).all g&&(ds.length==es.length))∧dU A s (.ref a) (.ref b) (!((List.range (min ds.length es.length)).all g&&(ds.length==es.length))):=by
 obtain⟨d,q,p,_⟩:=I.tuple F;obtain⟨c,h,r,_⟩:=I.tuple G;have J:=q.length;have L:=h.length;have t:∀j (w:j<d.toArray.size) (z:j<c.toArray.size),Y5 A.in1 s d.toArray[j] c.toArray[j] (g j):=λj w z=>by
  have k:j<xs.length:=by simpa[←J]using w
  have l:j<f.length:=by simpa[←L]using z
  obtain⟨N,m,O⟩:=q.get (i:=j) (x:=xs[j]) (by simp[k]);obtain⟨P,n,Q⟩:=h.get (i:=j) (x:=f[j]) (by simp[l]);have f1:d.toArray[j]=N:=by
   have:=(List.getElem?_eq_some_iff.mp m).2;simpa using this
  have R:c.toArray[j]=P:=by
   have:=(List.getElem?_eq_some_iff.mp n).2;simpa using this
  rw[f1,R];exact ih j _ _ _ _ (by simp[k]) (by simp[l]) O Q
 have B:=Na (e:=g) (A:=A) p r o t;have E:=Ls (e:=g) (A:=A) p r o t;have m:d.toArray.size=ds.length:=by rw[List.size_toArray];omega
 have n:c.toArray.size=es.length:=by rw[List.size_toArray];omega
 rw[m,n]at B E;exact⟨B,E⟩
theorem Do {A:Around}{ds es:List D}(I:Inv X pins σ H s)(R:P7 X.K H a xs)(S:P7 X.K H b l)(l1:xs.length=ds.length)(l2:l.length=es.length)(z:A.units<C2)
  (hr:kg f ds es=e9 r) (ih:∀(j:Nat) x y d e k v u,xs[j]?=e9 x→l[j]?=e9 y→ds[j]?=e9 d→es[j]?=e9 e→f d e=e9 k→RelV x v→RelV y u→Y5 A.in1 s v u k):
  iu A s (.ref a) (.ref b) r∧dU A s (.ref a) (.ref b) (!r):=by
 obtain⟨h,J,p,_⟩:=I.list R;obtain⟨c,m,B,_⟩:=I.list S;have T:=J.length;have U:=m.length;have E:h.toArray.size=ds.length:=by rw[List.size_toArray];omega
 have F:c.toArray.size=es.length:=by rw[List.size_toArray];omega
 by_cases hl:ds.length=es.length
 ·obtain⟨g,Y,G⟩:=ri hr hl;have L:∀j (N:j<h.toArray.size) (O:j<c.toArray.size),Y5 A.in1 s h.toArray[j] c.toArray[j] (g j):=λj N O=>by
   have n:j<xs.length:=by simpa[←T]using N
   have o:j<l.length:=by simpa[←U]using O
   have q:j<ds.length:=by omega
   have t:j<es.length:=by omega
   obtain⟨Z,E,r1⟩:=J.get (i:=j) (x:=xs[j]) (by simp[n]);obtain⟨v2,F,r2⟩:=m.get (i:=j) (x:=l[j]) (by simp[o]);have f1:h.toArray[j]=Z:=by
    have:=(List.getElem?_eq_some_iff.mp E).2;simpa using this
   have f2:c.toArray[j]=v2:=by
    have:=(List.getElem?_eq_some_iff.mp F).2;simpa using this
   rw[f1,f2];exact ih j _ _ ds[j] es[j] _ _ _ (by simp[n]) (by simp[o]) (by simp[q]) (by simp[t]) (Y j _ _ (by simp[q]) (by simp[t])) r1 r2
  have P:=Nk (e:=g) (A:=A) p.isList B.isList (by omega) z L;have Q:=LC (e:=g) (A:=A) p.isList B.isList (by omega) z L;rw[E,←G]at P Q;exact⟨P,Q⟩
 ·have G:=vu hr hl;subst G;have w:(h.toArray.size != c.toArray.size)=f8:=by rw[E,F];simpa using hl
  exact⟨Nj p.isList B.isList w z,LB p.isList B.isList w z⟩
theorem vt(h:IR d e=e9 b)(I:Inv X pins σ H s){A:Around}(l:Rep X.K H x d)(f:Rep X.K H y e)(g:RelV x v)(c:RelV y u)(a:A.units<C2):
  Y5 A s v u b∧iu A s v u b∧dU A s v u (!b):=by
 cases l with
 |v1=>
  cases g;cases f with
  |v1=>cases h;cases c;exact⟨iV _,Ng,Ly⟩
  |bl _=>cases h;cases c;exact⟨Ny _,Ni _,LA _⟩
  |int _=>cases h;obtain⟨t,rfl⟩:=c;exact⟨Nx _ _,Nh _ _,Lz _ _⟩
  |str _=>cases h;obtain⟨t,rfl⟩:=c;exact⟨Nw _ _,Nf _ _,Lx _ _⟩
  |ty _=>cases h
  |tup _ _ _=>cases h
  |lst _ _ _=>cases h
  |dct _ _ _=>cases h
 |bl _=>
  cases g;cases f with
  |v1=>cases h;cases c;exact⟨ND _,Np _,LH _⟩
  |bl _=>cases h;cases c;exact⟨NE _ _,Nq _ _,LI _ _⟩
  |int _=>cases h
  |str _=>cases h
  |ty _=>cases h
  |tup _ _ _=>cases h
  |lst _ _ _=>cases h
  |dct _ _ _=>cases h
 |int _=>
  obtain⟨t,rfl⟩:=g;cases f with
  |v1=>cases h;cases c;exact⟨NB _ _,Nn _ _,LF _ _⟩
  |int _=>cases h;obtain⟨m,rfl⟩:=c;exact⟨NC _ _ _ _,No _ _ _ _,LG _ _ _ _⟩
  |bl _=>cases h
  |str _=>cases h
  |ty _=>cases h
  |tup _ _ _=>cases h
  |lst _ _ _=>cases h
  |dct _ _ _=>cases h
 |str cs=>
  obtain⟨t,rfl⟩:=g;cases f with
  |v1=>cases h;cases c;exact⟨Nu _ _,Nd _ _,Lw _ _⟩
  |str i=>
   have n:(cs==i)=b:=j7 h;rw[←n,←str_beq];obtain⟨m,rfl⟩:=c;exact⟨Nt _ _ _ _,Nc _ _ _ _,Lv _ _ _ _⟩
  |bl _=>cases h
  |int _=>cases h
  |ty _=>cases h
  |tup _ _ _=>cases h
  |lst _ _ _=>cases h
  |dct _ _ _=>cases h
 |ty _=>cases f<;>cases h
 |tup j _ _=>
  cases g;cases f with
  |v1=>
   cases h;cases c;obtain⟨k,_,p,_⟩:=I.tuple j;exact⟨Nr p a,Nb p a,Lu p a⟩
  |bl _=>cases h
  |int _=>cases h
  |str _=>cases h
  |ty _=>cases h
  |tup _ _ _=>cases h
  |lst _ _ _=>cases h
  |dct _ _ _=>cases h
 |lst j _ _=>
  cases g;cases f with
  |v1=>
   cases h;cases c;obtain⟨k,_,p,_⟩:=I.list j;exact⟨Nz p.isList a,Nl p.isList a,LD p.isList a⟩
  |bl _=>cases h
  |int _=>cases h
  |str _=>cases h
  |ty _=>cases h
  |tup _ _ _=>cases h
  |lst _ _ _=>cases h
  |dct _ _ _=>cases h
 |dct _ _ _=>cases f<;>cases h
theorem cx(h:IR d e=e9 b)(a:Rep X.K H x d)(c:Rep X.K H x e):b=f8:=by
 cases a<;>cases c<;>first| (exfalso;cases h;done) |skip
 all_goals first| (cases h;rfl) | (cases h;simp)
theorem GP(h:∀j,j<n→g j=f8):(List.range n).all g=f8:=by
 rw[List.all_eq_true];intro j a;exact h j (List.mem_range.mp a)
theorem rg{xs:List V}(h:kg f ds es=e9 b)(q:xs.length=ds.length)(r:xs.length=es.length)(l:∀(j:Nat) x d,xs[j]?=e9 x→ds[j]?=e9 d→Rep X.K H x d)(m:∀(j:Nat) x d,xs[j]?=e9 x→es[j]?=e9 d→Rep X.K H x d)
  (n:∀d e k x,f d e=e9 k→Rep X.K H x d→Rep X.K H x e→k=f8):b=f8:=by
 obtain⟨g,o,p⟩:=ri h (by omega);rw[p];refine GP λj i=>?_;have a:j<es.length:=by omega
 have c:j<xs.length:=by omega
 exact n ds[j] es[j] _ xs[j] (o j _ _ (by simp[i]) (by simp[a])) (l j _ _ (by simp[c]) (by simp[i])) (m j _ _ (by simp[c]) (by simp[a]))
theorem rh (I:Inv X pins σ H s):∀(n:Nat) {d e:D} {b:Bool} {x:V},bR n d e=e9 b→Rep X.K H x d→Rep X.K H x e→b=f8:=by
 intro n;induction n with
 |zero=>
  intro d e b x h p f;exact cx (by cases d<;>exact h) p f
 |succ n ih=>
  intro d e b x h p f;cases p with
  |tup l m o=>
   cases f with
   |tup g i j=>
    have e:=I.iz l g;subst e;exact rg (X:=X) (H:=H) (show kg (bR n) _ _=e9 b from h) m i o j λd e k x a b c=>ih a b c
   |lst g i j=>cases h
   |dct g i j=>cases h
  |lst l m o=>
   cases f with
   |lst g i j=>
    have e:=I.hG l g;subst e;exact rg (X:=X) (H:=H) (show kg (bR n) _ _=e9 b from h) m i o j λd e k x a b c=>ih a b c
   |tup g i j=>cases h
   |dct g i j=>cases h
  |v1=>exact cx (X:=X) (H:=H) (by cases e<;>exact h) .v1 f
  |bl k=>exact cx (X:=X) (H:=H) (by cases e<;>exact h) (.bl k) f
  |int k=>exact cx (X:=X) (H:=H) (by cases e<;>exact h) (.int k) f
  |str k=>exact cx (X:=X) (H:=H) (by cases e<;>exact h) (.str k) f
  |ty k=>exact cx (X:=X) (H:=H) (by cases e<;>exact h) (.ty k) f
  |dct l m o=>cases f<;>cases h
theorem kd (I:Inv X pins σ H s):∀(n:Nat) {d e:D} {b:Bool},bR n d e=e9 b→∀{A:Around} {x y:V} {v u:Value},Rep X.K H x d→Rep X.K H y e→RelV x v→RelV y u→A.units+n<C2→
  Y5 A s v u b∧iu A s v u b∧dU A s v u (!b):=by
 intro n;induction n with
 |zero=>
  intro d e b h A x y v u f i l m L;exact vt (by cases d<;>exact h) I f i l m (by omega)
 |succ n ih=>
  intro d e b h A x y v u f i l m L;have flat:IR d e=e9 b→Y5 A s v u b∧iu A s v u b∧dU A s v u (!b):=λh'=>vt h' I f i l m (by omega);cases d with
  |tup ds=>
   cases e with
   |tup es=>
    have c:=λ(o:Rep X.K H x (.tup es))=>rh I (n+1) h f o;cases f with
    | @tup a xs _ B z E=>
     cases i with
     | @tup F G _ q p r=>
      cases l;cases m;obtain⟨g,N,O⟩:=pz (show kg (bR n) ds es=e9 b from h);have key:=Dm (A:=A) (g:=g) I B q z p (by omega) λj x y v u f i l m=>by
       have t:j<ds.length:=by rw[←z];exact(List.getElem?_eq_some_iff.mp f).1
       have w:j<es.length:=by rw[←p];exact(List.getElem?_eq_some_iff.mp i).1
       exact(ih (N j ds[j] es[j] (by simp[t]) (by simp[w])) (A:=A.in1) (E j x _ f (by simp[t])) (r j y _ i (by simp[w])) l m (by show A.units+1+n<_;omega)).1
      rw[←O]at key;refine⟨?_,key⟩;by_cases e:a=F
      ·subst e;have J:=c (.tup q p r);subst J;exact iV _
      ·exact rS e key.1
   |_=>exact flat h
  |lst ds=>
   cases e with
   |lst es=>
    have c:=λ(o:Rep X.K H x (.lst es))=>rh I (n+1) h f o;cases f with
    | @lst a xs _ B z E=>
     cases i with
     | @lst F G _ q p r=>
      cases l;cases m;have key:=Do (A:=A) I B q z p (by omega) (show kg (bR n) ds es=e9 b from h) λj x y d e k v u f i hd P hk l m=>
       (ih hk (A:=A.in1) (E j x _ f hd) (r j y _ i P) l m (by show A.units+1+n<_;omega)).1
      refine⟨?_,key⟩;by_cases e:a=F
      ·subst e;have J:=c (.lst q p r);subst J;exact iV _
      ·exact rS e key.1
   |_=>exact flat h
  |_=>exact flat (by cases e<;>exact h)
end
theorem zb {X:Cx}{K:PySem.W.Frag}(a:X.K=K)(c:X.A.units+8<C2):fC X (v9 .Eq) (λx y H Q=>∃d e b,Rep K H x d∧Rep K H y e∧bR 8 d e=e9 b∧Q (.bl b) H):=by
 subst a;intro pins s σ H x y v u Q I f g h;obtain⟨d,e,b,i,j,k,q⟩:=h;exact(kd I 8 k i j f g c).2.1 _ _ _ _ (gb I q rfl)
theorem FH {X:Cx}{K:PySem.W.Frag}(a:X.K=K)(c:X.A.units+8<C2):fC X (v9 .NotEq) (λx y H Q=>∃d e b,Rep K H x d∧Rep K H y e∧bR 8 d e=e9 b∧Q (.bl (!b)) H):=by
 subst a;intro pins s σ H x y v u Q I f g h;obtain⟨d,e,b,i,j,k,q⟩:=h;exact(kd I 8 k i j f g c).2.2 _ _ _ _ (gb I q rfl)
section
variable {X:Cx}{pins:List (Addr×Obj)}{σ:St}{H:Hp}{s:Shared}
theorem V6(h:s.TypeIs (.ref a) T)(h':s.TypeIs (.ref a) b):T=b:=by
 obtain⟨o,e,c⟩:=h;obtain⟨o',d,f⟩:=h';rw[e]at d;cases d;rw[c]at f;injection f
theorem vl {xs:List V}{ds es:List D}(i:xs.length=ds.length)(k:xs.length=es.length)(h:∀(j:Nat) x d e,xs[j]?=e9 x→ds[j]?=e9 d→es[j]?=e9 e→d=e):ds=es:=by
 refine List.ext_getElem? λj=>?_;by_cases c:j<xs.length
 ·have f:j<ds.length:=by omega
  have g:j<es.length:=by omega
  have a:ds[j]?=e9 ds[j]:=by simp[f]
  have b:es[j]?=e9 es[j]:=by simp[g]
  rw[a,b,h j xs[j] _ _ (by simp[c]) a b]
 ·rw[List.getElem?_eq_none (by omega),List.getElem?_eq_none (by omega)]
theorem yC(c:Rd H a (.dK d))(b:Rd H a (.dK e)):d=e:=by
 rcases c with c| ⟨o,c⟩<;>rcases b with b| ⟨f,b⟩<;>rw[c]at b<;>cases b<;>rfl
theorem Rep.inj (I:Inv X pins σ H s)(h:Rep X.K H x d):∀{e:D},Rep X.K H x e→d=e:=by
 induction h with
 |v1=>intro e f;cases f;rfl
 |bl b=>intro e f;cases f;rfl
 |int b=>intro e f;cases f;rfl
 |ty b=>intro e f;cases f;rfl
 |str cs=>
  intro e f;generalize y:V.str (tx cs)=x at f;cases f<;>first| (cases y;done) |skip
  rename_i r;have q:tx cs=tx r:=by injection y
  rw[xW.mp q]
 | @tup a xs ds g n z ih=>
  intro e f;cases f with
  |tup f i k=>
   have q:=I.iz g f;subst q;rw[vl n i λj x d e a b c=>ih j x d a b (k j x e a c)]
  |lst f i k=>
   obtain⟨_,_,p,_⟩:=I.tuple g;obtain⟨_,_,l,_⟩:=I.list f;exact absurd (V6 p.typeIs l.isList.typeIs) (by decide)
  |dct f i k=>
   obtain⟨_,_,p,_⟩:=I.tuple g;obtain⟨_,_,vs,_,m⟩:=S7 I.hok f;exact absurd (V6 p.typeIs m.typeIs) (by decide)
 | @lst a xs ds g n z ih=>
  intro e f;cases f with
  |lst f i k=>
   have q:=I.hG g f;subst q;rw[vl n i λj x d e a b c=>ih j x d a b (k j x e a c)]
  |tup f i k=>
   obtain⟨_,_,p,_⟩:=I.list g;obtain⟨_,_,l,_⟩:=I.tuple f;exact absurd (V6 p.isList.typeIs l.typeIs) (by decide)
  |dct f i k=>
   obtain⟨_,_,p,_⟩:=I.list g;obtain⟨_,_,vs,_,m⟩:=S7 I.hok f;exact absurd (V6 p.isList.typeIs m.typeIs) (by decide)
 | @dct a kvs ds g n z ih=>
  intro e f;cases f with
  | @dct _ A es f i k=>
   have B:=yC g f;subst B;congr 1;have E:kvs.length=ds.length:=by have:=congrArg List.length n;simpa using this
   have F:kvs.length=es.length:=by have:=congrArg List.length i;simpa using this
   refine List.ext_getElem? λj=>?_;by_cases o:j<kvs.length
   ·have g:j<ds.length:=by omega
    have f:j<es.length:=by omega
    have t:ds[j]?=e9 ds[j]:=by simp[g]
    have u:es[j]?=e9 es[j]:=by simp[f]
    have v:(kvs.map (·.1))[j]?=(ds.map (·.1))[j]?:=by rw[n]
    have w:(kvs.map (·.1))[j]?=(es.map (·.1))[j]?:=by rw[i]
    rw[List.getElem?_map,List.getElem?_map,t,show kvs[j]?=e9 kvs[j] by simp[o]]at v;rw[List.getElem?_map,List.getElem?_map,u,show kvs[j]?=e9 kvs[j] by simp[o]]at w;have q:=ih j kvs[j] ds[j] (by simp[o]) t (k j kvs[j] es[j] (by simp[o]) u);rw[t,u];congr 1;refine xQ ?_ q;simp at v w;rw[←v,←w]
   ·rw[List.getElem?_eq_none (by omega),List.getElem?_eq_none (by omega)]
  |tup f i k=>
   obtain⟨_,_,vs,_,m⟩:=S7 I.hok g;obtain⟨_,_,l,_⟩:=I.tuple f;exact absurd (V6 m.typeIs l.typeIs) (by decide)
  |lst f i k=>
   obtain⟨_,_,vs,_,m⟩:=S7 I.hok g;obtain⟨_,_,l,_⟩:=I.list f;exact absurd (V6 m.typeIs l.isList.typeIs) (by decide)
end
noncomputable def lq (d:D):List D→Option Bool
 | []=>e9 f6
 |y::c=>match bR 7 y d,lq d c with
  |some a,e9 b=>e9 (a||b)
  |_,_=>f7
open Classical in
noncomputable def S6 (K:PySem.W.Frag) (H:Hp) (d:D) (u:Value):Bool:=decide (∃y e,RelV y u∧Rep K H y e∧bR 7 e d=e9 f8)
section
variable {X:Cx}{pins:List (Addr×Obj)}{σ:St}{H:Hp}{s:Shared}
theorem lD (I:Inv X pins σ H s)(r:RelV y u)(h:Rep X.K H y e)(a:bR 7 e d=e9 b):S6 X.K H d u=b:=by
 unfold S6;cases b with
 |true=>exact @decide_eq_true _ (mM _) ⟨y,e,r,h,a⟩
 |false=>
  refine @decide_eq_false _ (mM _) ?_
  rintro ⟨y',e',r',h',he'⟩
  have q:=r'.inj r;subst q;have c:=h'.inj I h;subst c;rw[a]at he';cases he'
theorem lp (I:Inv X pins σ H s):∀{ds:List D} {xs:List V} {us:List Value} {b:Bool},lq d ds=e9 b→o9 X.K H xs ds→Vals xs us→us.any (S6 X.K H d)=b
 | [],[],us,b,h,_,v=>by cases v;cases h;rfl
 | [],_::_,_,_,_,r,_=>by have:=r.len;simp at this
 |_::_,[],_,_,_,r,_=>by have:=r.len;simp at this
 |e::ds,x::xs,us,b,h,r,v=>by
  cases v with
  |cons f v=>
   unfold lq at h;cases a:bR 7 e d with
   |none=>rw[a]at h;cases h
   |some p=>
    cases c:lq d ds with
    |none=>rw[a,c]at h;cases h
    |some q=>
     rw[a,c]at h;cases h;rw[List.any_cons,lD I f r.head a,lp I c r.tail v]
theorem eZ (I:Inv X pins σ H s){A:Around}(i:Rep X.K H f d)(j:RelV f g)(a:A.units+7<C2):∀{ds:List D} {xs:List V} {us:List Value} {b:Bool},lq d ds=e9 b→o9 X.K H xs ds→Vals xs us→∀u∈us,Y5 A s u g (S6 X.K H d u)
 | [],[],us,b,h,_,v=>by cases v;intro u a;cases a
 | [],_::_,_,_,_,r,_=>by have:=r.len;simp at this
 |_::_,[],_,_,_,r,_=>by have:=r.len;simp at this
 |e::ds,x::xs,us,b,h,r,v=>by
  cases v with
  |cons k v=>
   unfold lq at h;cases c:bR 7 e d with
   |none=>rw[c]at h;cases h
   |some p=>
    cases l:lq d ds with
    |none=>rw[c,l]at h;cases h
    |some q=>
     intro u hm;rcases List.mem_cons.mp hm with rfl|hm
     ·rw[lD I k r.head c];exact(kd I 7 c r.head i k j a).1
     ·exact eZ I i j a l r.tail v u hm
end
theorem yZ {X:Cx}{K:PySem.W.Frag}(j:X.K=K)(m:X.A.units+8<C2):fC X (v9 .In) (λx y H Q=>∃d ds b p xs,Rep K H x d∧y=.ref p∧(P7 K H p xs∨bz K H p xs)∧o9 K H xs ds∧lq d ds=e9 b∧Q (.bl b) H):=by
 subst j;intro pins s σ H x y v u Q I g k h;obtain⟨d,ds,b,p,xs,i,rfl,c,hr,e,q⟩:=h;cases k;rcases c with c|c
 ·obtain⟨a,r,pl,l⟩:=I.list c;refine SeqAt.in_listAt (S6 X.K H d) pl.isList (λw f=>eZ I i g (by show X.A.units+1+7<_;omega) e hr r w (by simpa using f)) ⟨.bl _,H,I,rfl,?_⟩;rw[show a.toArray.any (S6 X.K H d)=a.any (S6 X.K H d) by simp,lp I e hr r];exact q
 ·obtain⟨a,r,pl,l⟩:=I.tuple c;refine SeqAt.in_tupleAt (S6 X.K H d) pl (λw f=>eZ I i g (by show X.A.units+1+7<_;omega) e hr r w (by simpa using f)) ⟨.bl _,H,I,rfl,?_⟩;rw[show a.toArray.any (S6 X.K H d)=a.any (S6 X.K H d) by simp,lp I e hr r];exact q
theorem wC {X:Cx}{K:PySem.W.Frag}(j:X.K=K)(m:X.A.units+8<C2):fC X (v9 .NotIn) (λx y H Q=>∃d ds b p xs,Rep K H x d∧y=.ref p∧(P7 K H p xs∨bz K H p xs)∧o9 K H xs ds∧lq d ds=e9 b∧Q (.bl (!b)) H):=by
 subst j;intro pins s σ H x y v u Q I g k h;obtain⟨d,ds,b,p,xs,i,rfl,c,hr,e,q⟩:=h;cases k;rcases c with c|c
 ·obtain⟨a,r,pl,l⟩:=I.list c;refine SeqAt.notIn_listAt (S6 X.K H d) pl.isList (λw f=>eZ I i g (by show X.A.units+1+7<_;omega) e hr r w (by simpa using f)) ⟨.bl _,H,I,rfl,?_⟩;rw[show a.toArray.any (S6 X.K H d)=a.any (S6 X.K H d) by simp,lp I e hr r];exact q
 ·obtain⟨a,r,pl,l⟩:=I.tuple c;refine SeqAt.notIn_tupleAt (S6 X.K H d) pl (λw f=>eZ I i g (by show X.A.units+1+7<_;omega) e hr r w (by simpa using f)) ⟨.bl _,H,I,rfl,?_⟩;rw[show a.toArray.any (S6 X.K H d)=a.any (S6 X.K H d) by simp,lp I e hr r];exact q
noncomputable def keyOf:D→Option Key
 |.int i=>e9 (.inl i)
 |.str cs=>e9 (.inr (tx cs))
 |_=>f7
noncomputable def K5 (es:List (Key×D))(k:Key):Option D:=(es.find? λkv=>decide (kv.1=k)).map (·.2)
noncomputable def putD (es:List (Key×D))(k:Key)(d:D):List (Key×D):=if(es.any λkv=>decide (kv.1=k))=f8 then es.map λkv=>if kv.1=k then(kv.1,d)else kv else es++[(k,d)]
noncomputable def aM (es:List (Key×D))(k:Key):List (Key×D):=es.filter λkv=>decide (kv.1≠k)
section
variable {K:PySem.W.Frag}{G:Hp}
theorem l9.nil:l9 K G [] []:=⟨rfl,λj p e h=>by simp at h⟩
theorem l9.cons {p:Key×V}{e:Key×D}{kvs:List (Key×V)}{es:List (Key×D)}(hk:p.1=e.1)(h:Rep K G p.2 e.2)(r:l9 K G kvs es):l9 K G (p::kvs) (e::es):=by
 refine⟨by rw[List.map_cons,List.map_cons,hk,r.keys],λj x y a b=>?_⟩;cases j with
 |zero=>simp at a b;subst a b;exact h
 |succ j=>exact r.get j x y (by simpa using a) (by simpa using b)
theorem l9.inv(r:l9 K G (p::kvs) (e::es)):p.1=e.1∧Rep K G p.2 e.2∧l9 K G kvs es:=by
 have k:=r.keys;rw[List.map_cons,List.map_cons]at k;exact⟨(List.cons.inj k).1,r.get 0 p e rfl rfl,(List.cons.inj k).2,λj x y a b=>r.get (j+1) x y (by simpa using a) (by simpa using b)⟩
theorem l9.len(r:l9 K G kvs es):kvs.length=es.length:=by have:=congrArg List.length r.keys;simpa using this
theorem l9.ind {P:List (Key×V)→List (Key×D)→Prop}(d:P [] [])(f:∀p e kvs es,p.1=e.1→Rep K G p.2 e.2→l9 K G kvs es→P kvs es→P (p::kvs) (e::es)):∀{kvs:List (Key×V)} {es:List (Key×D)},l9 K G kvs es→P kvs es
 | [],[],_=>d
 | [],_::_,r=>by have:=r.len;simp at this
 |_::_,[],r=>by have:=r.len;simp at this
 |p::kvs,e::es,r=>by
  obtain⟨a,b,c⟩:=r.inv;exact f p e kvs es a b c (l9.ind d f c)
theorem l9.val(r:l9 K G kvs es)(k:Key):(∀d,K5 es k=e9 d→∃v,aW kvs k=e9 v∧Rep K G v d)∧(K5 es k=f7→aW kvs k=f7):=by
 refine l9.ind (P:=λkvs es=>(∀d,K5 es k=e9 d→∃v,aW kvs k=e9 v∧Rep K G v d)∧(K5 es k=f7→aW kvs k=f7)) ⟨λd h=>by simp[K5]at h,λ_=>rfl⟩ (λp e kvs es hk hr _ ih=>?_) r;by_cases h:p.1=k
 ·have h':e.1=k:=by rw[←hk];exact h
  refine⟨λd q=>⟨p.2,gA h,?_⟩,λq=>?_⟩
  ·simp[K5,List.find?_cons,h']at q;subst q;exact hr
  ·simp[K5,List.find?_cons,h']at q
 ·have h':¬e.1=k:=by rw[←hk];exact h
  have a:K5 (e::es) k=K5 es k:=by simp[K5,List.find?_cons,h']
  rw[a,gB h];exact ih
theorem l9.append(r:l9 K G kvs es)(b:l9 K G a fs):l9 K G (kvs++a) (es++fs):=
 l9.ind (P:=λkvs es=>l9 K G (kvs++a) (es++fs)) b (λp e kvs es hk hr _ ih=>l9.cons hk hr ih) r
theorem l9.put(r:l9 K G kvs es)(k:Key)(h:Rep K G v d):l9 K G (putK kvs k v) (putD es k d):=by
 have b:(kvs.any λkv=>decide (kv.1=k))=(es.any λkv=>decide (kv.1=k)):=l9.ind (P:=λkvs es=>(kvs.any λkv=>decide (kv.1=k))=(es.any λkv=>decide (kv.1=k))) rfl (λp e kvs es hk hr _ ih=>by rw[List.any_cons,List.any_cons,hk,ih]) r;unfold putK putD;rw[b];split
 ·exact l9.ind (P:=λkvs es=>l9 K G (kvs.map λkv=>if kv.1=k then(kv.1,v)else kv) (es.map λkv=>if kv.1=k then(kv.1,d)else kv)) .nil (λp e kvs es hk hr _ ih=>by
   rw[List.map_cons,List.map_cons];by_cases a:p.1=k
   ·rw[if_pos a,if_pos (by rw[←hk];exact a)];exact l9.cons hk h ih
   ·rw[if_neg a,if_neg (by rw[←hk];exact a)];exact l9.cons hk hr ih) r
 ·exact r.append (l9.cons (p:=(k,v)) (e:=(k,d)) rfl h .nil)
theorem l9.drop {kvs:List (Key×V)}{es:List (Key×D)}(r:l9 K G kvs es)(k:Key):l9 K G (hY kvs k) (aM es k):=by
 refine l9.ind (P:=λkvs es=>l9 K G (hY kvs k) (aM es k)) .nil (λp e kvs es hk hr _ ih=>?_) r;unfold hY aM;by_cases a:p.1=k
 ·rw[List.filter_cons_of_neg (by simpa using a),List.filter_cons_of_neg (by simpa[←hk]using a)];exact ih
 ·rw[List.filter_cons_of_pos (by simpa using a),List.filter_cons_of_pos (by simpa[←hk]using a)];exact l9.cons hk hr ih
theorem cY(h:O2 K G H v d)(e:keyOf d=e9 k):v=kV k:=by
 cases d<;>first| (cases e;done) |skip
 ·cases e;exact h.int
 ·cases e;exact h.str
theorem o9.fA(h:o9 K G xs ds)(e:L2.fA ds i=e9 d):∃x,L2.fA xs i=e9 x∧Rep K G x d:=by
 unfold L2.fA at e⊢;rw[h.len];cases a:wU ds.length i with
 |none=>rw[a]at e;cases e
 |some j=>
  rw[a]at e;exact h.at e
end
theorem za {X:Cx}(e:X.A.units+8<C2):fC X (v9 .In) (λx y H Q=>∃a o,y=.ref a∧dS H a x o∧Q (.bl o.isSome) H):=by
 intro pins s σ H x y v u Q I b c h;obtain⟨a,o,rfl,g,q⟩:=h;cases c;exact KY (by omega) I g b λf d=>⟨.bl _,H,d,rfl,q⟩
theorem wD {X:Cx}(e:X.A.units+8<C2):fC X (v9 .NotIn) (λx y H Q=>∃a o,y=.ref a∧dS H a x o∧Q (.bl (!o.isSome)) H):=by
 intro pins s σ H x y v u Q I b c h;obtain⟨a,o,rfl,g,q⟩:=h;cases c;exact Dt (by omega) I g b λf d=>⟨.bl _,H,d,rfl,q⟩
noncomputable def Kx (a b:List Nat):Bool:=!(A7 (tx b) (tx a) 0 (tx b).length 1).isEmpty
noncomputable def zH:D→D→Option Bool
 |d,.lst ds=>lq d ds
 |d,.tup ds=>lq d ds
 |.str a,.str b=>e9 (Kx a b)
 |d,.dct es=>(keyOf d).map λk=>(K5 es k).isSome
 |_,_=>f7
noncomputable def inD (d e:D):Option W:=(zH d e).bind vB
noncomputable def N6 (d e:D):Option W:=(zH d e).bind λb=>vB (!b)
section
variable {X:Cx}{B:Bs}{e a b c:Expr}{ma mb mc:M W}{pos:Pos}
theorem zI {G H:Hp}{σ:St}{ρ:l5}{x y:V}{dx m:D}{b:Bool}(R:RS B G H σ ρ)(g:O2 B.K G H x dx)(h:O2 B.K G H y m)(e:zH dx m=e9 b):
  (∃d ds p xs,Rep B.K H x d∧y=.ref p∧(P7 B.K H p xs∨bz B.K H p xs)∧o9 B.K H xs ds∧lq d ds=e9 b)∨(∃i j,x=.str i∧y=.str j∧b=(!(A7 j i 0 j.length 1).isEmpty))∨(∃a o,y=.ref a∧dS H a x o∧b=o.isSome):=by
 cases m with
 |lst ds=>
  obtain⟨p,xs,rfl,c,f⟩:=h.lst R.gH;exact .inl ⟨dx,ds,p,xs,g.rep R.gH,rfl,.inl c,f.same R.gH,by cases dx<;>exact e⟩
 |tup ds=>
  obtain⟨p,xs,rfl,c,f⟩:=h.tup R.gH;exact .inl ⟨dx,ds,p,xs,g.rep R.gH,rfl,.inr c,f.same R.gH,by cases dx<;>exact e⟩
 |dct es=>
  obtain⟨p,kvs,rfl,c,f⟩:=h.dct R.gH;have l:(keyOf dx).map (λk=>(K5 es k).isSome)=e9 b:=by cases dx<;>exact e
  cases hk:keyOf dx with
  |none=>rw[hk]at l;cases l
  |some k=>
   rw[hk]at l;cases l;have n:=cY g hk;subst n;refine .inr (.inr ⟨p,aW kvs k,rfl,dS.r c,?_⟩);obtain⟨s,t⟩:=f.val k;show(K5 es k).isSome=_;cases hd:K5 es k with
   |none=>rw[t hd];rfl
   |some d=>
    obtain⟨v,q,_⟩:=s d hd;rw[q];rfl
 |str cs=>
  cases dx<;>first| (cases e;done) |skip
  cases e;exact .inr (.inl ⟨_,_,g.str,h.str,rfl⟩)
 |_=>cases dx<;>cases e
theorem vb:fD B (λx y H Q=>(∃d ds b p xs,Rep B.K H x d∧y=.ref p∧(P7 B.K H p xs∨bz B.K H p xs)∧o9 B.K H xs ds∧lq d ds=e9 b∧Q (.bl b) H)∨(∃i j,x=.str i∧y=.str j∧Q (.bl (!(A7 j i 0 j.length 1).isEmpty)) H)∨(∃a o,y=.ref a∧dS H a x o∧Q (.bl o.isSome) H)) inD:=by
 intro G H σ ρ x y dx k w Q R l m e p;unfold inD at e;cases h:zH dx k with
 |none=>rw[h]at e;cases e
 |some b=>
  rw[h]at e;cases e;have fin:Q (.bl b) H:=p _ G H (j6.refl _) R (.bl _);rcases zI R l m h with⟨d,ds,n,xs,c,f,g,q,r⟩ | ⟨i,j,c,f,g⟩ | ⟨a,o,c,f,g⟩
  ·exact .inl ⟨d,ds,b,n,xs,c,f,g,q,r,fin⟩
  ·exact .inr (.inl ⟨i,j,c,f,by rw[←g];exact fin⟩)
  ·exact .inr (.inr ⟨a,o,c,f,by rw[←g];exact fin⟩)
theorem tG:fD B (λx y H Q=>(∃d ds b p xs,Rep B.K H x d∧y=.ref p∧(P7 B.K H p xs∨bz B.K H p xs)∧o9 B.K H xs ds∧lq d ds=e9 b∧Q (.bl (!b)) H)∨(∃i j,x=.str i∧y=.str j∧Q (.bl (!(!(A7 j i 0 j.length 1).isEmpty))) H)∨(∃a o,y=.ref a∧dS H a x o∧Q (.bl (!o.isSome)) H)) N6:=by
 intro G H σ ρ x y dx k w Q R l m e p;unfold N6 at e;cases h:zH dx k with
 |none=>rw[h]at e;cases e
 |some b=>
  rw[h]at e;cases e;have fin:Q (.bl (!b)) H:=p _ G H (j6.refl _) R (.bl _);rcases zI R l m h with⟨d,ds,n,xs,c,f,g,q,r⟩ | ⟨i,j,c,f,g⟩ | ⟨a,o,c,f,g⟩
  ·exact .inl ⟨d,ds,b,n,xs,c,f,g,q,r,fin⟩
  ·exact .inr (.inl ⟨i,j,c,f,by rw[←g];exact fin⟩)
  ·exact .inr (.inr ⟨a,o,c,f,by rw[←g];exact fin⟩)
theorem Ei (c:X.A.units+8<C2)(d:PD X B a ma)(e:PD X B b mb)(f:z8 .In b=f6:=by with_unfolding_all rfl)(g:X.K=B.K:=by rfl):PD X B (.Compare a [.In] [b] pos) (i3 inD ma mb):=oO (λξ=>(yZ (X:=rz X ξ) g c).or (np.or (za c))) vb d e f
theorem on (c:X.A.units+8<C2)(d:PD X B a ma)(e:PD X B b mb)(f:z8 .In b=f6:=by with_unfolding_all rfl)(g:X.K=B.K:=by rfl):lW X B (.Compare a [.In] [b] pos) (p6 (i3 inD ma mb)):=cU (λξ=>(yZ (X:=rz X ξ) g c).or (np.or (za c))) vb d e f
theorem cJ (c:X.A.units+8<C2)(d:PD X B a ma)(e:PD X B b mb)(f:z8 .NotIn b=f6:=by with_unfolding_all rfl)(g:X.K=B.K:=by rfl):lW X B (.Compare a [.NotIn] [b] pos) (p6 (i3 N6 ma mb)):=cU (λξ=>(wC (X:=rz X ξ) g c).or (oQ.or (wD c))) tG d e f
end
noncomputable def cZ:D→Bool
 |.v1=>f8
 |_=>f6
section
variable {X:Cx}{B:Bs}{e a b c:Expr}{ma mb mc:M W}{pos:Pos}
theorem uZ {K:PySem.W.Frag}{G H:Hp}{v:V}{d:D}(h:O2 K G H v d):decide (v=.v1)=cZ d:=by
 cases d with
 |v1=>rw[h.v1];rfl
 |_=>
  refine decide_eq_false ?_
  rintro rfl
  rcases h with h| ⟨p,e,_⟩
  ·cases h
  ·cases e
theorem zU:AX B (λx H Q=>Q (.bl (decide (x=.v1))) H) (λd=>vB (cZ d)):=by
 intro G H σ ρ x dx w Q R a e p;cases e;rw[uZ a];exact p _ G H (j6.refl _) R (.bl _)
theorem wY:AX B (λx H Q=>Q (.bl (!decide (x=.v1))) H) (λd=>vB (!cZ d)):=by
 intro G H σ ρ x dx w Q R a e p;cases e;rw[uZ a];exact p _ G H (j6.refl _) R (.bl _)
theorem HH {j dC}(b:PD X B a ma):lW X B (.Compare a [.Is] [.Constant .none j dC] pos) (p6 (aZ (λd=>vB (cZ d)) ma)):=.mk λξ=>(yG (FC (b.ap ξ))).imp λ_ _ _ t=>sq zU (so t)
theorem EN {j dC}(b:PD X B a ma):lW X B (.Compare a [.IsNot] [.Constant .none j dC] pos) (p6 (aZ (λd=>vB (!cZ d)) ma)):=.mk λξ=>(yG (Cs (b.ap ξ))).imp λ_ _ _ t=>sq wY (so t)
end
noncomputable def wd:D→Option Bool
 |.v1=>e9 f6
 |.bl b=>e9 b
 |.int i=>e9 (i != 0)
 |.str cs=>dL (small cs.length) (e9 ((cs.length:Int) != 0))
 |.lst ds=>e9 (!ds.isEmpty)
 |.tup ds=>e9 (!ds.isEmpty)
 |_=>f7
noncomputable def T0 (m:M W):M Bool:=M.bind m λw=>λρ=>match getD w ρ with
 |some d=>(wd d).map (R'.ok · ρ)
 |none=>f7
noncomputable def hA (a b:M Bool):M Bool:=M.bind a λk=>if k=f8 then b else M.pure f6
noncomputable def rY (a b:M Bool):M Bool:=M.bind a λk=>if k=f8 then M.pure f8 else b
noncomputable def gY (a:M Bool):M Bool:=M.bind a λk=>M.pure (!k)
noncomputable def Hi (w:W):M Bool:=λρ=>match getD w ρ with
 |some (.bl b)=>e9 (.ok b ρ)
 |_=>f7
noncomputable def nr (a b:M W):M W:=M.bind a λw=>M.bind (Hi w) λk=>if k=f8 then b else mC (.bl f6)
noncomputable def sX (c:M Bool)(a b:M W):M W:=M.bind c λk=>if k=f8 then a else b
theorem jq {α b:Type}{xs:List α}{a:List b}(h:xs.length=a.length):xs.isEmpty=a.isEmpty:=by
 cases xs<;>cases a<;>simp_all
section
variable {X:Cx}{B:Bs}{e a b c:Expr}{ma mb mc:M W}{pos:Pos}{S2:List Expr}
theorem BC(R:RS B G H σ ρ)(h:O2 B.K G H x d)(e:wd d=e9 k):DD B.K x H k:=by
 cases d with
 |v1=>cases e;rw[h.v1];rfl
 |bl b=>cases e;rw[h.bl];rfl
 |int i=>cases e;rw[h.int];rfl
 |str cs=>
  obtain⟨z,e⟩:=p5 e;cases e;rw[h.str];exact⟨by rw[dW];exact R9 z,by rw[dW]⟩
 |lst ds=>
  cases e;obtain⟨p,xs,rfl,a,c⟩:=h.lst R.gH;exact .inl ⟨xs,a,by rw[jq c.len]⟩
 |tup ds=>
  cases e;obtain⟨p,xs,rfl,a,c⟩:=h.tup R.gH;exact .inr (.inl ⟨xs,a,by rw[jq c.len]⟩)
 |dct es=>cases e
 |ty n=>cases e
theorem Q1 (h:PD X B a ma)(i:∀b,Bv a X.env b=(do let v←b;uj a.pos;W4 [v] (truthy v)):=by exact λ_=>rfl)(j:X.K=B.K:=by rfl):lW X B a (T0 ma):=.mk λξ=>
 (yF (X:=rz X ξ) (h.ap ξ) i).imp λσ H Q t=>by
  obtain⟨G,ρ,R,t⟩:=t;refine(TD.bind (L8:=C4) R t).mono λx g ⟨l,c,w,s1,f,m,r,e,p⟩=>?_;cases hd:getD w c with
  |none=>simp only[hd]at e;cases e
  |some d=>
   simp only[hd]at e;cases hk:wd d with
   |none=>rw[hk]at e;cases e
   |some k=>
    rw[hk]at e;cases e;refine⟨k,?_,p k l g (j6.refl _) f rfl⟩;show DD X.K x g k;rw[j];exact BC f (m.get f hd) hk
theorem EL {ξ:XP}{b c:M Bool}{σ:St}{H:Hp}{Q:Bool→Hp→Prop}(t:TD cT B ξ (hA b c) σ H Q):HV (TD cT B ξ b) (TD cT B ξ c) σ H Q:=by
 obtain⟨G,ρ,R,t⟩:=t;refine(TD.bind (L8:=cT) R t).mono λk h ⟨d,a,i,s1,f,j,g⟩=>?_;cases(show k=i from j);cases k with
 |true=>exact⟨d,a,f,g⟩
 |false=>
  obtain⟨r,e,p⟩:=g;cases e;exact p f6 d h (j6.refl _) f rfl
theorem HF {ξ:XP}{b c:M Bool}{σ:St}{H:Hp}{Q:Bool→Hp→Prop}(t:TD cT B ξ (rY b c) σ H Q):Me (TD cT B ξ b) (TD cT B ξ c) σ H Q:=by
 obtain⟨G,ρ,R,t⟩:=t;refine(TD.bind (L8:=cT) R t).mono λk h ⟨d,a,i,s1,f,j,g⟩=>?_;cases(show k=i from j);cases k with
 |false=>exact⟨d,a,f,g⟩
 |true=>
  obtain⟨r,e,p⟩:=g;cases e;exact p f8 d h (j6.refl _) f rfl
theorem kn {b:M Bool}(c:lW X B a b):Er X B (.BoolOp .And [a] pos) b:=.mk λξ=>BY (c.ap ξ)
theorem km {b:M Bool}(c:lW X B a b):Er X B (.BoolOp .Or [a] pos) b:=.mk λξ=>Fg (c.ap ξ)
theorem w_and {c d:M Bool}(e:lW X B a c)(f:Er X B (.BoolOp .And (b::S2) pos) d):Er X B (.BoolOp .And (a::b::S2) pos) (hA c d):=.mk λξ=>(Fh (e.ap ξ) (f.ap ξ)).imp λ_ _ _ t=>EL t
theorem w_or {c d:M Bool}(e:lW X B a c)(f:Er X B (.BoolOp .Or (b::S2) pos) d):Er X B (.BoolOp .Or (a::b::S2) pos) (rY c d):=.mk λξ=>(Ii (e.ap ξ) (f.ap ξ)).imp λ_ _ _ t=>HF t
theorem dX {b:M Bool}(c:lW X B a b):lW X B (.UnaryOp .Not a pos) (gY b):=.mk λξ=>(Fk (c.ap ξ)).imp λσ H Q t=>by
 obtain⟨G,ρ,R,t⟩:=t;refine(TD.bind (L8:=cT) R t).mono λk d ⟨f,g,h,s1,i,j,r,e,p⟩=>?_;cases(show k=h from j);cases e;exact p (!k) f d (j6.refl _) i rfl
theorem CI {ξ:XP}{α c:Type}{a:Rel α c}{w:W}{f:Bool→M α}{G H:Hp}{ρ:l5}{σ:St}{Q:c→Hp→Prop}{x:V}(R:RS B G H σ ρ)(q:E2 B G H σ ρ x w)(t:cE a B ξ G ρ (M.bind (Hi w) f) σ Q):∃k,x=.bl k∧cE a B ξ G ρ (f k) σ Q:=by
 obtain⟨k,ρ',e,t⟩:=t.step λr h=>by
  unfold Hi at h;split at h
  ·cases h;exact⟨_,_,rfl⟩
  ·cases h
 unfold Hi at e;split at e
 ·rename_i b hd;cases e;exact⟨k,(q.get R hd).bl,t⟩
 ·cases e
theorem BF(t:TD C4 B ξ (nr ma mb) σ H Q):DQ (TD C4 B ξ ma) (TD C4 B ξ mb) σ H Q:=by
 obtain⟨G,ρ,R,t⟩:=t;refine(TD.bind (L8:=C4) R t).mono λx f ⟨c,a,w,s1,b,g,h⟩=>?_;obtain⟨k,rfl,d⟩:=CI b g h;refine⟨k,rfl,?_⟩;cases k with
 |true=>exact⟨c,a,b,d⟩
 |false=>
  obtain⟨r,e,p⟩:=d;cases e;exact p _ c f (j6.refl _) b (.bl _)
theorem Eh {op}(b:PD X B a ma):PD X B (.BoolOp op [a] pos) ma:=.mk λξ=>Fy (b.ap ξ)
theorem Ek (c:PD X B a ma)(d:PD X B (.BoolOp .And (b::S2) pos) mb):PD X B (.BoolOp .And (a::b::S2) pos) (nr ma mb):=.mk λξ=>(FB (c.ap ξ) (d.ap ξ)).imp λ_ _ _ t=>BF t
theorem Ej {e:M Bool}(i:lW X B c e)(j:PD X B a ma)(l:PD X B b mb):PD X B (.IfExp c a b pos) (sX e ma mb):=.mk λξ=>(yS (i.ap ξ) (j.ap ξ) (l.ap ξ)).imp λσ H Q t=>by
 obtain⟨G,ρ,R,t⟩:=t;refine(TD.bind (L8:=cT) R t).mono λk o ⟨f,d,m,s1,g,n,h⟩=>?_;cases(show k=m from n);cases k with
 |true=>exact⟨f,d,g,h⟩
 |false=>exact⟨f,d,g,h⟩
end
theorem uX {X:Cx}(j:X.A.units+8<C2):AW X (λx y H Q=>∃a v,x=.ref a∧dS H a y (e9 v)∧Q v H):=by
 intro b c pins s σ H x y v u Q I d e h hs;obtain⟨a,z,rfl,g,q⟩:=h;cases d;exact Mn (rp I g) PySem.F.slot_dict_getitem.lookup (xA (by omega) I g e λk l f i=>⟨z,H,f,i,q⟩) hs
noncomputable def u6:D→D→Option W
 |.lst ds,.int i=>(fA ds i).map W.val
 |.tup ds,.int i=>(fA ds i).map W.val
 |.str cs,.int i=>dL (small cs.length) ((fA cs i).map λc=>W.val (.str [c]))
 |.dct es,k=>(keyOf k).bind λk=>(K5 es k).map W.val
 |_,_=>f7
section
variable {X:Cx}{B:Bs}{e a b c:Expr}{ma mb mc:M W}{pos:Pos}
theorem va:fD B (λx y H Q=>Ff B.K x y H Q∨Fe B.K x y H Q∨Ih x y H Q∨∃a v,x=.ref a∧dS H a y (e9 v)∧Q v H) u6:=by
 intro G H σ ρ x y dx b w Q R l m e p;cases dx with
 |lst ds=>
  cases b<;>first| (cases e;done) |skip
  obtain⟨d,f,rfl⟩:=h9.mp e;obtain⟨q,xs,rfl,g,h⟩:=l.lst R.gH;obtain⟨v,i,j⟩:=h.fA f;exact .inl ⟨q,xs,_,v,rfl,m.int,g,i,p v G H (j6.refl _) R j⟩
 |tup ds=>
  cases b<;>first| (cases e;done) |skip
  obtain⟨d,f,rfl⟩:=h9.mp e;obtain⟨q,xs,rfl,g,h⟩:=l.tup R.gH;obtain⟨v,i,j⟩:=h.fA f;exact .inr (.inl ⟨q,xs,_,v,rfl,m.int,g,i,p v G H (j6.refl _) R j⟩)
 |str cs=>
  cases b<;>first| (cases e;done) |skip
  obtain⟨z,e⟩:=p5 e;obtain⟨c,f,rfl⟩:=h9.mp e;refine .inr (.inr (.inl ⟨tx cs,_,c,l.str,m.int,by rw[dW];exact R9 z,by simpa using f,p _ G H (j6.refl _) R (.str [c])⟩))
 |dct es=>
  have n:(keyOf b).bind (λk=>(K5 es k).map W.val)=e9 w:=by cases b<;>exact e
  cases hk:keyOf b with
  |none=>rw[hk]at n;cases n
  |some k=>
   rw[hk]at n;obtain⟨d,f,rfl⟩:=h9.mp n;obtain⟨q,kvs,rfl,g,h⟩:=l.dct R.gH;have o:=cY m hk;subst o;obtain⟨v,i,j⟩:=(h.val k).1 d f;refine .inr (.inr (.inr ⟨q,v,rfl,?_,p v G H (j6.refl _) R j⟩));rw[←i];exact dS.r g
 |_=>cases b<;>cases e
theorem p9 (d:X.A.units+8<C2)(e:PD X B a ma)(f:PD X B b mb)(hs:pT b:=by exact λ_ _=>rfl)(c:X.K=B.K:=by rfl):PD X B (.Subscript a b pos) (i3 u6 ma mb):=.mk λξ=>
 (Eb (X:=rz X ξ) ((qU (X:=rz X ξ) (K:=B.K) c).or ((uW (X:=rz X ξ) (K:=B.K) c).or (zy.or (uX d)))) (e.ap ξ) (f.ap ξ) hs).imp λ_ _ _ t=>om va t
end
noncomputable def Fc:Rel (Option Int) (Option Int):=λ_ _ _ _ _ v b=>v=b
structure JN (X:Cx) (B:Bs) (e:Option Expr) (m:M (Option Int)):Prop where
 ap:∀ξ,PO (rz X ξ) e (TD Fc B ξ m)
noncomputable def fJ (m:M W):M (Option Int):=M.bind m λw=>λρ=>match getD w ρ with
 |some (.int i)=>e9 (.ok (e9 i) ρ)
 |_=>f7
noncomputable def cutD (ds:List D)(lo hi:Option Int):List D:=(ds.drop (HT.B4 ds.length 0 lo)).take (HT.B4 ds.length ds.length hi-HT.B4 ds.length 0 lo)
noncomputable def EY:D→Option Int→Option Int→Option W
 |.lst ds,lo,hi=>e9 (.own (.lst (cutD ds lo hi)))
 |.str cs,lo,hi=>dL (small cs.length) (e9 (.val (.str (pB cs lo hi))))
 |.tup ds,lo,hi=>e9 (.val (.tup (cutD ds lo hi)))
 |_,_,_=>f7
noncomputable def Bj (a:M W)(b c:M (Option Int)):M W:=M.bind (L1 a) λx=>M.bind b λlo=>M.bind c λhi=>Hg (λd=>EY d lo hi) x
theorem vU {P:Program}{w:World}{A:Around}{E:Value→Shared→Prop}{s:Shared}{t c:Addr}{a:Array Value}{h i:Value}{lo hi:Option Int}{Q:Value→Shared→Prop}(it:EA s.heap t a)(is:s.heap.IsSliceOf c h i .none)(j:IsPart h lo)(k:IsPart i hi)
  (l:HT.B4 a.size 0 lo=0) (m:HT.B4 a.size a.size hi=a.size) (q:Q (.ref t) s):wpAny (model P w) A (gq (.ref t) (.ref c)) Q E s:=by
 have n:s.TypeIs (.ref c) "slice":=by obtain⟨o,b,e,_⟩:=id is;exact⟨o,b,e⟩
 unfold gq
 (try with_reducible refine w6 ?_)
 (first|refine g8 (j5 ?_) |skip)
 refine g8 (Jr (T:="tuple") it.typeIs (by decide) ?_);refine g8 (Y4 (T:="tuple") (name:=Str.ofString "__getitem__") it.typeIs u3 (aU (T:="tuple") u3 it.typeIs LO ?_ (LX _ _)));show wpAny (model P w) _ (iv (.ref t) >>= _) _ _ s;refine g8 (LJ it (g8 (T1 n ?_)));rw[if_pos (by decide)];refine g8 (HT.ca is j k ?_);rw[l,m];have f:((((0:Nat):Int)==0&&(1:Int)==1&&(a.size-0)==a.size)=f8):=by simp
 show wpAny (model P w) _ (if(((0:Nat):Int)==0&&(1:Int)==1&&(a.size-0)==a.size)=f8 then _ else _) _ _ s;rw[if_pos f];obtain⟨o,b,e,_⟩:=id it;have p:s.TypeIs (.ref t) "tuple":=⟨o,b,e⟩
 obtain⟨r,g,d,u,os⟩:=s;unfold Kf;repeat (any_goals (first|assumption|wp_step))
 exact⟨_,rfl,j5 q⟩
theorem yn {X:Cx}{K:PySem.W.Frag}(a:X.K=K):AU X (Ie K):=by subst a;exact BL
theorem yk {X:Cx}{K:PySem.W.Frag}(e:X.K=K):AU X (λx lo hi H Q=>∃a xs,x=.ref a∧bz K H a xs∧HT.B4 xs.length 0 lo=0∧HT.B4 xs.length xs.length hi=xs.length∧Q (.ref a) H):=by
 subst e;intro pins s σ H x v k l lo hi sl Q I f hs pl pu h;obtain⟨a,xs,rfl,g,i,j,q⟩:=h;cases f;obtain⟨c,r,d,m⟩:=I.tuple g;have b:c.toArray.size=xs.length:=by rw[List.size_toArray,r.length]
 exact⟨"tuple",_,u3.lookup,d.typeIs,vU d hs pl pu (by rw[b];exact i) (by rw[b];exact j) ⟨.ref a,H,I,rfl,q⟩⟩
theorem BK {X:Cx}{K:PySem.W.Frag}(a:X.K=K):AU X (Ic K):=by subst a;exact EW
section
variable {X:Cx}{B:Bs}{e a b c:Expr}{ma mb mc:M W}{pos p2:Pos}{lo hi:Option Expr}
theorem iH:JN X B f7 (M.pure f7):=.mk λξ pins s σ H Q I h=>Cg pins s σ H Q I (by
 obtain⟨G,ρ,R,r,e,p⟩:=h;cases e;exact p f7 G H (j6.refl _) R rfl)
theorem iG (h:PD X B e ma):JN X B (e9 e) (fJ ma):=.mk λξ pins s σ H Q I t=>Cf (h.ap ξ) pins s σ H Q I (by
 obtain⟨G,ρ,R,t⟩:=t;refine(TD.bind (L8:=C4) R t).mono λx b ⟨c,d,w,s1,a,f,r,e,p⟩=>?_;dsimp only at e;split at e
 ·rename_i i hd;cases e;exact⟨i,(f.get a hd).int,p (e9 i) c b (j6.refl _) a rfl⟩
 ·cases e)
theorem xy(E:PD X B a ma)(hl:JN X B lo y)(F:JN X B hi A)(k:X.K=B.K:=by rfl):PD X B (.Subscript a (.Slice lo hi f7 p2) pos) (Bj ma y A):=.mk λξ=>
 (yQ (X:=rz X ξ) ((yn (X:=rz X ξ) (K:=B.K) k).or (EX.or ((BK (X:=rz X ξ) (K:=B.K) k).or (yk (X:=rz X ξ) (K:=B.K) k)))) (E.ap ξ) (hl.ap ξ) (F.ap ξ)).imp λσ H Q t=>by
  obtain⟨G,ρ,R,t⟩:=t;have I:TD gT B ξ (L1 ma) σ H _:=TD.bind (L8:=gT) R t;refine TD.L1 (I.mono λx H1 ⟨G1,J,L,s1,N,⟨O,m⟩,P⟩=>?_);refine(TD.bind (L8:=Fc) N P).mono λl H2 ⟨G2,S,T,s2,R2,U,Y⟩=>?_;cases(show l=T from U);refine(TD.bind (L8:=Fc) R2 Y).mono λu n ⟨b,o,Z,s3,c,q3,t4⟩=>?_;cases(show u=Z from q3);obtain⟨dx,w,e1,e,p⟩:=uJ t4;have i:=(O.keep (s2.trans s3) m:E2 B b n σ o x L).get c e1;cases dx with
  |lst ds=>
   cases e;obtain⟨q,xs,rfl,j,d⟩:=i.lst c.gH;refine .inl ⟨q,xs,rfl,j,λpp r=>?_⟩;have s:o9 B.K b (mH xs l u) (cutD ds l u):=by
    unfold mH cutD;rw[d.len];exact(d.drop _).take _
   obtain⟨R',v⟩:=c.eu r s;exact p _ b _ (j6.refl _) R' v
  |str cs=>
   obtain⟨z,e⟩:=p5 e;cases e;exact .inr (.inl ⟨cs,i.str,z,p _ b n (j6.refl _) c (.str _)⟩)
  |tup ds=>
   cases e;have f:Rep B.K b x (.tup ds):=by
    rcases i with h| ⟨_,_,hf⟩
    ·exact h
    ·exact(show False from hf).elim
   obtain⟨q,xs,rfl,j,d⟩:=i.tup c.gH;by_cases g:HT.B4 xs.length 0 l=0∧HT.B4 xs.length xs.length u=xs.length
   ·have ec:cutD ds l u=ds:=by
     unfold cutD;rw[←d.len,g.1,g.2,List.drop_zero,List.take_of_length_le (by rw[d.len];omega)]
    rw[ec]at p;exact .inr (.inr (.inr ⟨q,xs,rfl,j,g.1,g.2,p _ b n (j6.refl _) c f⟩))
   ·refine .inr (.inr (.inl ⟨q,xs,rfl,j,g,λpp r=>?_⟩));have s:o9 B.K b (mH xs l u) (cutD ds l u):=by
     unfold mH cutD;rw[d.len];exact(d.drop _).take _
    obtain⟨G',s',R',v⟩:=c.oV r s;exact p _ G' _ s' R' v
  |_=>cases e
end
noncomputable def j4:M (List W):=M.pure []
noncomputable def g4 (m:M W)(r:M (List W)):M (List W):=M.bind (L1 m) λx=>M.bind r λxs=>M.pure (x::xs)
section
variable {X:Cx}{B:Bs}{e a b c:Expr}{es:List Expr}{ma mb mc:M W}{mr:M (List W)}{pos p2:Pos}
theorem i6:gl X B [] j4:=.mk λξ=>(FD (X:=rz X ξ)).imp λσ H Q t=>by
 obtain⟨G,ρ,R,r,e,p⟩:=t;cases e;exact p [] G H (j6.refl _) R .nil
theorem kP(s:j6 G G'):∀{vs:List V} {a:List W},M8 B G H σ ρ vs a→M8 B G' H' σ ρ' vs a
 |_,_,.nil=>.nil
 |_,_,.cons ⟨h,st⟩ t=>.cons ⟨h.keep s st,st⟩ (kP s t)
theorem f9 (b:PD X B e ma)(hr:gl X B es mr)(hs:h8 (e::es) X.env=(f6,eval e X.env)::h8 es X.env:=by rfl):gl X B (e::es) (g4 ma mr):=.mk λξ=>
 (Ct (X:=rz X ξ) (b.ap ξ) (hr.ap ξ) hs).imp λσ H Q t=>by
  obtain⟨G,ρ,R,t⟩:=t;have c:TD gT B ξ (L1 ma) σ H _:=TD.bind (L8:=gT) R t;refine TD.L1 (c.mono λx n ⟨o,d,q,s1,f,⟨g,a⟩,h⟩=>?_);refine(TD.bind (L8:=M8) f h).mono λxs i ⟨j,k,s,s2,R2,l,r,m,p⟩=>?_;cases m;exact p (x::xs) j i (j6.refl _) R2 (.cons ⟨g.keep s2 a,a⟩ l)
end
noncomputable def aI:List W→M (List D)
 | []=>M.pure []
 |w::a=>M.bind (D8 w) λd=>M.bind (aI a) λds=>M.pure (d::ds)
noncomputable def B5 (m:M (List W)):M W:=M.bind m λa=>M.bind (aI a) λds ρ=>dL (small ds.length) (e9 (.ok (.val (.tup ds)) ρ))
noncomputable def N2 (m:M (List W)):M W:=M.bind m λa=>M.bind (aI a) λds ρ=>dL (small ds.length) (e9 (.ok (.own (.lst ds)) ρ))
section
variable {X:Cx}{B:Bs}{e a b c:Expr}{es:List Expr}{ma mb mc:M W}{mr:M (List W)}{pos p2:Pos}
theorem cm:∀{a:List W} {ρ:l5} {r:R' (List D)},aI a ρ=e9 r→∃ds ρ',r=.ok ds ρ'
 | [],_,_,h=>by cases h;exact⟨_,_,rfl⟩
 |w::a,ρ,r,h=>by
  unfold aI at h;cases b:D8 w ρ with
  |none=>rw[M.bind_none b]at h;cases h
  |some g=>
   obtain⟨d,c,rfl⟩:=ag b;rw[M.j9 b]at h;cases e:aI a c with
   |none=>rw[M.bind_none e]at h;cases h
   |some i=>
    obtain⟨ds,f,rfl⟩:=cm e;rw[M.j9 e]at h;cases h;exact⟨_,_,rfl⟩
theorem ck:∀{c:List W} {vs:List V} {G H:Hp} {σ:St} {ρ ρ':l5} {ds:List D},RS B G H σ ρ→M8 B G H σ ρ vs c→aI c ρ=e9 (.ok ds ρ')→∃G',j6 G G'∧RS B G' H σ ρ'∧o9 B.K G' vs ds
 | [],_,G,H,σ,ρ,ρ',ds,R,q,e=>by
  cases q;cases e;exact⟨G,j6.refl _,R,.nil⟩
 |w::c,_,G,H,σ,ρ,ρ',ds,R,q,e=>by
  cases q with
  | @cons v _ vs _ f t=>
   unfold aI at e;cases hl:D8 w ρ with
   |none=>rw[M.bind_none hl]at e;cases e
   |some m=>
    obtain⟨d,b,rfl⟩:=ag hl;rw[M.j9 hl]at e;cases a:aI c b with
    |none=>rw[M.bind_none a]at e;cases e
    |some n=>
     obtain⟨g,h,rfl⟩:=cm a;rw[M.j9 a]at e;cases e;obtain⟨o,s1,i,j⟩:=f.1.D8 R hl;obtain⟨k,s2,R2,l⟩:=ck (ρ:=b) i (kP s1 t) a;exact⟨k,s1.trans s2,R2,.cons (j.same s2) l⟩
theorem x3 {x1}(h:gl X B es mr):PD X B (.Tuple es x1 pos) (B5 mr):=.mk λξ=>(Fw (h.ap ξ)).imp λσ H Q t=>by
 obtain⟨G,ρ,R,t⟩:=t;refine(TD.bind (L8:=M8) R t).mono λvs q ⟨s,c,u,s1,d,e,f⟩=>?_;obtain⟨ds,g,i,r,a,p⟩:=f.step λr h=>cm h;obtain⟨j,a⟩:=p5 a;cases a;obtain⟨v,s2,R2,b⟩:=ck d e i;refine⟨by rw[b.len];exact R9 j,λw k=>?_⟩;obtain⟨l,m,n,o⟩:=R2.oV k b;exact p _ l _ (s2.trans m) n o
theorem J2 (h:gl X B es mr):PD X B (.List es pos) (N2 mr):=.mk λξ=>(FA (h.ap ξ)).imp λσ H Q t=>by
 obtain⟨G,ρ,R,t⟩:=t;refine(TD.bind (L8:=M8) R t).mono λvs o ⟨q,c,s,s1,d,e,f⟩=>?_;obtain⟨ds,g,i,r,a,p⟩:=f.step λr h=>cm h;obtain⟨j,a⟩:=p5 a;cases a;obtain⟨k,s2,R2,b⟩:=ck d e i;refine⟨by rw[b.len];exact R9 j,λu l=>?_⟩;obtain⟨m,n⟩:=R2.eu l b;exact p _ k _ s2 m n
noncomputable def gZ:M W:=M.pure (.own (.dct []))
theorem iQ:PD X B (.Dict [] [] pos) gZ:=.mk λξ=>(yU (X:=rz X ξ)).imp λσ H Q t=>by
 obtain⟨G,ρ,R,r,e,p⟩:=t;cases e;intro d a;obtain⟨b,c⟩:=R.kW a .nil;exact p _ G _ (j6.refl _) b c
end
noncomputable def Y0:List W→l5→Option (List D)
 | [],_=>e9 []
 |w::a,ρ=>match getD w ρ,Y0 a ρ with
  |some d,e9 ds=>e9 (d::ds)
  |_,_=>f7
noncomputable def JE (f:List D→Option W)(a:List W):M W:=λρ=>match Y0 a ρ with
 |some ds=>(f ds).map (R'.ok · ρ)
 |none=>f7
noncomputable def D2 (f:List D→Option W)(m:M (List W)):M W:=M.bind m λa=>JE f a
noncomputable abbrev rN (K:PySem.W.Frag)(G H:Hp):List V→List D→Prop:=Paired λv d=>O2 K G H v d
def im (B:Bs)(r:List V→Hp→VK→Prop)(f:List D→Option W):Prop:=∀{G H:Hp} {σ:St} {ρ:l5} {xs:List V} {ds:List D} {w:W} {Q:VK},RS B G H σ ρ→rN B.K G H xs ds→f ds=e9 w→
 (∀v G' H',j6 G G'→RS B G' H' σ ρ→E2 B G' H' σ ρ v w→Q v H')→r xs H Q
theorem Cy(t:cE C4 B ξ G ρ (JE f a) σ Q):∃ds w,Y0 a ρ=e9 ds∧f ds=e9 w∧∀v G' H',j6 G G'→RS B G' H' σ ρ→E2 B G' H' σ ρ v w→Q v H':=by
 obtain⟨r,e,p⟩:=t;unfold JE at e;cases c:Y0 a ρ with
 |none=>rw[c]at e;cases e
 |some dx=>
  rw[c]at e;simp only[]at e;cases b:f dx with
  |none=>rw[b]at e;cases e
  |some w=>
   rw[b]at e;cases e;exact⟨dx,w,rfl,b,p⟩
theorem as(R:RS B G H σ ρ):∀{a:List W} {vs:List V} {ds:List D},M8 B G H σ ρ vs a→Y0 a ρ=e9 ds→rN B.K G H vs ds
 | [],_,ds,q,e=>by cases q;cases e;exact .nil
 |w::a,_,ds,q,e=>by
  cases q with
  |cons h t=>
   unfold Y0 at e;cases b:getD w ρ with
   |none=>rw[b]at e;cases e
   |some d=>
    cases c:Y0 a ρ with
    |none=>rw[b,c]at e;cases e
    |some f=>
     rw[b,c]at e;cases e;exact .cons (h.1.get R b) (as R t c)
section
variable {X:Cx}{B:Bs}{e a b c:Expr}{es:List Expr}{ma mb mc:M W}{mr:M (List W)}{pos p:Pos}{x:Str}{id T:String}
theorem uw(hi:im B r f)(t:TD C4 B ξ (D2 f mr) σ H Q):HU r (TD M8 B ξ mr) σ H Q:=by
 obtain⟨G,ρ,R,t⟩:=t;refine(TD.bind (L8:=M8) R t).mono λvs h ⟨i,b,j,s1,a,c,d⟩=>?_;obtain⟨ds,w,e,g,p⟩:=Cy d;exact hi a (as a c e) g p
theorem fh(c:∀ξ,J3 (rz X ξ) (.builtin id) r)(hi:im B r f)(d:Gl X x)(g:X.mg x=f7)(h:K4 x=e9 (.builtin id))(i:gl X B (e::es) mr)(j:x≠"__name__":=by decide) (a:(x==("__debug__":Str))=f6:=by decide)
  (k:h8 (e::es) X.env=(f6,eval e X.env)::h8 es X.env:=by rfl) (b:(m4 pos (h8 es X.env)).any (·.1)=f6:=by rfl):PD X B (.Call (.Name x p) (e::es) [] pos) (D2 f mr):=.mk λξ=>
 (yW (X:=rz X ξ) (c ξ) d g h (i.ap ξ) j a k b).imp λ_ _ _ t=>uw hi t
theorem lH(c:∀ξ,J3 (rz X ξ) (.type T) r)(hi:im B r f)(d:Gl X x)(g:X.mg x=f7)(h:K4 x=e9 (.type T))(i:gl X B (e::es) mr)(j:x≠"__name__":=by decide) (a:(x==("__debug__":Str))=f6:=by decide)
  (k:h8 (e::es) X.env=(f6,eval e X.env)::h8 es X.env:=by rfl) (b:(m4 pos (h8 es X.env)).any (·.1)=f6:=by rfl):PD X B (.Call (.Name x p) (e::es) [] pos) (D2 f mr):=.mk λξ=>
 (wz (X:=rz X ξ) (c ξ) d g h (i.ap ξ) j a k b).imp λ_ _ _ t=>uw hi t
end
noncomputable def V9:List D→Option W
 | [.lst ds]=>vI ds.length
 | [.tup ds]=>vI ds.length
 | [.str cs]=>dL (small cs.length) (vI cs.length)
 | [.dct es]=>vI es.length
 |_=>f7
noncomputable def Q9:List D→Option W
 | [.int i]=>vI i.natAbs
 |_=>f7
noncomputable def dI:List D→Option W
 | [.lst ds]=>e9 (.own (.lst ds))
 | [.tup ds]=>e9 (.own (.lst ds))
 | [.dct es]=>e9 (.own (.lst (es.map λe=>match e.1 with|.inl i=>D.int i|.inr x=>D.str x.cps.toList)))
 |_=>f7
noncomputable def cI:List D→Option W
 | [.lst ds]=>e9 (.val (.tup ds))
 | [.tup ds]=>e9 (.val (.tup ds))
 |_=>f7
noncomputable def cC:List D→Option (List Bool)
 | []=>e9 []
 |.bl b::ds=>(cC ds).map (b::·)
 |_=>f7
noncomputable def uc:List D→Option W
 | [.lst ds]=>(cC ds).bind λbs=>vB (bs.all id)
 |_=>f7
noncomputable def ub:List D→Option W
 | [.lst ds]=>(cC ds).bind λbs=>vB (bs.any id)
 |_=>f7
theorem lN:∀{ds:List D} {bs:List Bool},cC ds=e9 bs→ds=bs.map D.bl
 | [],_,h=>by cases h;rfl
 |.bl b::ds,bs,h=>by
  unfold cC at h;obtain⟨a,e,rfl⟩:=h9.mp h;rw[lN e];rfl
 |.v1::_,_,h=>by cases h
 |.int _::_,_,h=>by cases h
 |.str _::_,_,h=>by cases h
 |.ty _::_,_,h=>by cases h
 |.tup _::_,_,h=>by cases h
 |.lst _::_,_,h=>by cases h
 |.dct _::_,_,h=>by cases h
theorem AO {K:PySem.W.Frag}{G:Hp}:∀{bs:List Bool} {xs:List V},o9 K G xs (bs.map D.bl)→xs=bs.map V.bl
 | [],[],_=>rfl
 | [],_::_,r=>by have:=r.len;simp at this
 |_::_,[],r=>by have:=r.len;simp at this
 |b::bs,x::xs,r=>by
  have h:=r.head;cases h;rw[AO r.tail];rfl
section
variable {X:Cx}{B:Bs}{e a b c:Expr}{es:List Expr}{ma mb mc:M W}{mr:M (List W)}{pos p:Pos}
theorem I0 {K:PySem.W.Frag}{G H:Hp}{xs:List V}{d:D}(h:rN K G H xs [d]):∃x,xs=[x]∧O2 K G H x d:=by
 cases h with
 |cons h t=>cases t;exact⟨_,rfl,h⟩
theorem xX {K:PySem.W.Frag}{G H:Hp}{xs:List V}{d a:D}(h:rN K G H xs [d,a]):∃x y,xs=[x,y]∧O2 K G H x d∧O2 K G H y a:=by
 cases h with
 |cons h t=>
  obtain⟨y,rfl,b⟩:=I0 t;exact⟨_,y,rfl,h,b⟩
theorem tZ:∀{X:Cx},J3 X (.builtin "len") (λxs H Q=>∃a kvs,xs=[V.ref a]∧Rd H a (.dK kvs)∧Q (.int kvs.length) H):=by
 intro X pins s σ H xs us Q I r h;obtain⟨a,kvs,rfl,b,q⟩:=h;obtain⟨u,rfl,c⟩:=vals1 r;cases c;exact L2.Y3 I b λt e d=>⟨.int kvs.length,H,d,⟨t,rfl⟩,q⟩
theorem zJ:im B (λxs H Q=>(∃p b,xs=[.ref p]∧(P7 B.K H p b∨bz B.K H p b)∧Q (.int b.length) H)∨(∃z,xs=[.str z]∧z.length≤sizeLine∧Q (.int z.length) H)∨∃a kvs,xs=[V.ref a]∧Rd H a (.dK kvs)∧Q (.int kvs.length) H) V9:=by
 intro G H σ ρ xs ds w Q R h e p
 match ds,e with
 | [.lst ds],e=>
  cases e;obtain⟨x,rfl,c⟩:=I0 h;obtain⟨q,b,rfl,d,f⟩:=c.lst R.gH;exact .inl ⟨q,b,rfl,.inl d,by rw[f.len];exact p _ G H (j6.refl _) R (.int _)⟩
 | [.tup ds],e=>
  cases e;obtain⟨x,rfl,c⟩:=I0 h;obtain⟨q,b,rfl,d,f⟩:=c.tup R.gH;exact .inl ⟨q,b,rfl,.inr d,by rw[f.len];exact p _ G H (j6.refl _) R (.int _)⟩
 | [.str cs],e=>
  obtain⟨z,e⟩:=p5 e;cases e;obtain⟨x,rfl,c⟩:=I0 h;exact .inr (.inl ⟨tx cs,by rw[c.str],by rw[dW];exact R9 z,by rw[dW];exact p _ G H (j6.refl _) R (.int _)⟩)
 | [.dct es],e=>
  cases e;obtain⟨x,rfl,c⟩:=I0 h;obtain⟨q,b,rfl,d,f⟩:=c.dct R.gH;exact .inr (.inr ⟨q,b,rfl,d,by rw[f.len];exact p _ G H (j6.refl _) R (.int _)⟩)
theorem Y3 (b:X.mg "len"=f7) (c:gl X B [e] mr) (d:Gl X "len":=by rfl) (f:X.K=B.K:=by rfl) (g:h8 [e] X.env=(f6,eval e X.env)::h8 [] X.env:=by rfl) (a:(m4 pos (h8 [] X.env)).any (·.1)=f6:=by rfl):PD X B (.Call (.Name "len" p) [e] [] pos) (D2 V9 mr):=
 fh (λξ=>(xG (X:=rz X ξ) (K:=B.K) f).or (pJ.or tZ)) zJ d b PySem.boot_len c (by decide) (by decide) g a
theorem zN:im B (λxs H Q=>∃i,xs=[.int i]∧Q (.int (if i<0 then -i else i)) H) Q9:=by
 intro G H σ ρ xs ds w Q R h e p
 match ds,e with
 | [.int i],e=>
  cases e;obtain⟨x,rfl,a⟩:=I0 h;refine⟨i,by rw[a.int],?_⟩;have b:(if i<0 then -i else i)=((i.natAbs:Nat):Int):=by split<;>omega
  rw[b];exact p _ G H (j6.refl _) R (.int _)
theorem dN (b:X.mg "abs"=f7) (c:gl X B [e] mr) (d:Gl X "abs":=by rfl) (f:h8 [e] X.env=(f6,eval e X.env)::h8 [] X.env:=by rfl) (a:(m4 pos (h8 [] X.env)).any (·.1)=f6:=by rfl):PD X B (.Call (.Name "abs" p) [e] [] pos) (D2 Q9 mr):=
 fh (λξ=>AM) zN d b LW c (by decide) (by decide) f a
theorem mK {X:Cx}{K:PySem.W.Frag}(b:X.K=K):J3 X (.type "list") (λxs H Q=>∃p a,xs=[.ref p]∧(P7 K H p a∨bz K H p a)∧∀l,H l=f7→Q (.ref l) (upd H l (.lst a))):=by subst b;exact pI
theorem lL {X:Cx}{K:PySem.W.Frag}(b:X.K=K):J3 X (.type "tuple") (λxs H Q=>∃p a,xs=[.ref p]∧((P7 K H p a∧∀l,H l=f7→Q (.ref l) (upd H l (.tup a)))∨(bz K H p a∧Q (.ref p) H))):=by subst b;exact mI
theorem zw {K:PySem.W.Frag}{G:Hp}{kvs:List (Key×V)}{es:List (Key×D)}(r:l9 K G kvs es):o9 K G (kvs.map λkv=>kV kv.1) (es.map λe=>match e.1 with|.inl i=>D.int i|.inr x=>D.str x.cps.toList):=by
 refine l9.ind (P:=λkvs es=>o9 K G (kvs.map λkv=>kV kv.1) (es.map λe=>match e.1 with|.inl i=>D.int i|.inr x=>D.str x.cps.toList)) .nil (λp e kvs es hk hr _ ih=>?_) r;rw[List.map_cons,List.map_cons];refine .cons ?_ ih;rw[hk];cases e.1 with
 |inl i=>exact .int i
 |inr x=>exact jU x
theorem wX:im B (λxs H Q=>(∃p b,xs=[.ref p]∧(P7 B.K H p b∨bz B.K H p b)∧∀l,H l=f7→Q (.ref l) (upd H l (.lst b)))∨∃a kvs,xs=[.ref a]∧Rd H a (.dK kvs)∧∀p,H p=f7→Q (.ref p) (upd H p (.lst (kvs.map λkv=>kV kv.1)))) dI:=by
 intro G H σ ρ xs ds w Q R h e p
 match ds,e with
 | [.lst ds],e=>
  cases e;obtain⟨x,rfl,c⟩:=I0 h;obtain⟨q,b,rfl,d,f⟩:=c.lst R.gH;refine .inl ⟨q,b,rfl,.inl d,λl hl=>?_⟩;obtain⟨R',g⟩:=R.eu hl f;exact p _ G _ (j6.refl _) R' g
 | [.tup ds],e=>
  cases e;obtain⟨x,rfl,c⟩:=I0 h;obtain⟨q,b,rfl,d,f⟩:=c.tup R.gH;refine .inl ⟨q,b,rfl,.inr d,λl hl=>?_⟩;obtain⟨R',g⟩:=R.eu hl f;exact p _ G _ (j6.refl _) R' g
 | [.dct es],e=>
  cases e;obtain⟨x,rfl,c⟩:=I0 h;obtain⟨q,b,rfl,d,f⟩:=c.dct R.gH;refine .inr ⟨q,b,rfl,d,λl hl=>?_⟩;obtain⟨R',g⟩:=R.eu hl (zw f);exact p _ G _ (j6.refl _) R' g
theorem ge (b:X.calm=f8)(c:X.mg "list"=f7) (d:gl X B [e] mr) (f:Gl X "list":=by rfl) (g:X.K=B.K:=by rfl) (h:h8 [e] X.env=(f6,eval e X.env)::h8 [] X.env:=by rfl) (a:(m4 pos (h8 [] X.env)).any (·.1)=f6:=by rfl):PD X B (.Call (.Name "list" p) [e] [] pos) (D2 dI mr):=
 lH (λξ=>(mK (X:=rz X ξ) (K:=B.K) g).or (lM b)) wX f c lS d (by decide) (by decide) h a
theorem tD:im B (λxs H Q=>∃p b,xs=[.ref p]∧((P7 B.K H p b∧∀l,H l=f7→Q (.ref l) (upd H l (.tup b)))∨(bz B.K H p b∧Q (.ref p) H))) cI:=by
 intro G H σ ρ xs ds w Q R h e p
 match ds,e with
 | [.lst ds],e=>
  cases e;obtain⟨x,rfl,a⟩:=I0 h;obtain⟨q,b,rfl,c,d⟩:=a.lst R.gH;refine⟨q,b,rfl,.inl ⟨c,λl hl=>?_⟩⟩;obtain⟨G',f,R',g⟩:=R.oV hl d;exact p _ G' _ f R' g
 | [.tup ds],e=>
  cases e;obtain⟨x,rfl,a⟩:=I0 h;have i:=a;rcases a with a| ⟨_,_,j⟩
  ·cases a with
   |tup c k d=>exact⟨_,_,rfl,.inr ⟨R.gH.tup c,p _ G H (j6.refl _) R (.tup c k d)⟩⟩
  ·exact(show False from j).elim
theorem du (b:X.mg "tuple"=f7) (c:gl X B [e] mr) (d:Gl X "tuple":=by rfl) (f:X.K=B.K:=by rfl) (g:h8 [e] X.env=(f6,eval e X.env)::h8 [] X.env:=by rfl) (a:(m4 pos (h8 [] X.env)).any (·.1)=f6:=by rfl):PD X B (.Call (.Name "tuple" p) [e] [] pos) (D2 cI mr):=
 lH (λξ=>lL (X:=rz X ξ) (K:=B.K) f) tD d b kk c (by decide) (by decide) g a
theorem zM:im B (λxs H Q=>∃(p:Addr) (bs:List Bool),xs=[.ref p]∧P7 B.K H p (bs.map V.bl)∧Q (.bl (bs.all id)) H) uc:=by
 intro G H σ ρ xs ds w Q R h e p
 match ds,e with
 | [.lst ds],e=>
  obtain⟨x,rfl,b⟩:=I0 h;have e:(cC ds).bind (λbs=>vB (bs.all id))=e9 w:=e;cases a:cC ds with
  |none=>rw[a]at e;cases e
  |some bs=>
   rw[a]at e;cases e;rw[lN a]at b;obtain⟨q,f,rfl,c,d⟩:=b.lst R.gH;rw[AO d]at c;exact⟨q,bs,rfl,c,p _ G H (j6.refl _) R (.bl _)⟩
theorem zL:im B (λxs H Q=>∃(p:Addr) (bs:List Bool),xs=[.ref p]∧P7 B.K H p (bs.map V.bl)∧Q (.bl (bs.any id)) H) ub:=by
 intro G H σ ρ xs ds w Q R h e p
 match ds,e with
 | [.lst ds],e=>
  obtain⟨x,rfl,b⟩:=I0 h;have e:(cC ds).bind (λbs=>vB (bs.any id))=e9 w:=e;cases a:cC ds with
  |none=>rw[a]at e;cases e
  |some bs=>
   rw[a]at e;cases e;rw[lN a]at b;obtain⟨q,f,rfl,c,d⟩:=b.lst R.gH;rw[AO d]at c;exact⟨q,bs,rfl,c,p _ G H (j6.refl _) R (.bl _)⟩
theorem vy (b:X.calm=f8)(c:X.mg "all"=f7) (d:gl X B [e] mr) (f:Gl X "all":=by rfl) (g:X.K=B.K:=by rfl) (h:h8 [e] X.env=(f6,eval e X.env)::h8 [] X.env:=by rfl) (a:(m4 pos (h8 [] X.env)).any (·.1)=f6:=by rfl):PD X B (.Call (.Name "all" p) [e] [] pos) (D2 uc mr):=
 fh (λξ=>xJ (X:=rz X ξ) (K:=B.K) g b) zM f c LV d (by decide) (by decide) h a
theorem Ay (b:X.calm=f8)(c:X.mg "any"=f7) (d:gl X B [e] mr) (f:Gl X "any":=by rfl) (g:X.K=B.K:=by rfl) (h:h8 [e] X.env=(f6,eval e X.env)::h8 [] X.env:=by rfl) (a:(m4 pos (h8 [] X.env)).any (·.1)=f6:=by rfl):PD X B (.Call (.Name "any" p) [e] [] pos) (D2 ub mr):=
 fh (λξ=>xI (X:=rz X ξ) (K:=B.K) g b) zL f c LU d (by decide) (by decide) h a
end
inductive SR where
 |nx (ρ:l5) |rt (w:W) (ρ:l5) |bk (ρ:l5) |ct (ρ:l5) |ex (x:GT) (ρ:l5)
noncomputable abbrev SM:=l5→Option SR
noncomputable def jw (B:Bs)(ξ:XP)(G:Hp)(b:Ends):SR→Prop
 |.nx ρ'=>∀a G' H',j6 G G'→RS B G' H' a ρ'→b.nx a H'
 |.bk ρ'=>∀a G' H',j6 G G'→RS B G' H' a ρ'→b.bk a H'
 |.ct ρ'=>∀a G' H',j6 G G'→RS B G' H' a ρ'→b.ct a H'
 |.rt w ρ'=>∀v a G' H',j6 G G'→RS B G' H' a ρ'→E2 B G' H' a ρ' v w→b.rt v H'
 |.ex x ρ'=>∀a G' H',j6 G G'→RS B G' H' a ρ'→ξ x a H'
def pR (B:Bs)(ξ:XP)(G:Hp)(ρ:l5)(m:SM)(a:Ends):Prop:=∃r,m ρ=e9 r∧jw B ξ G a r
noncomputable def SD (B:Bs)(ξ:XP)(m:SM):TS:=λa σ H=>∃G ρ,RS B G H σ ρ∧pR B ξ G ρ m a
structure se (X:Cx) (B:Bs) (st:Stmt) (m:SM):Prop where
 ap:∀ξ,PS (rz X ξ) st (SD B ξ m)
structure iU (X:Cx) (B:Bs) (st:List Stmt) (m:SM):Prop where
 ap:∀ξ,lV (rz X ξ) st (SD B ξ m)
section
variable {X:Cx}{B:Bs}{ξ:XP}{G G' H:Hp}{σ:St}{ρ:l5}{Dn:Ends}{st:Stmt}{S2:List Stmt}{m1 m2:SM}{e c:Expr}{me:M W}{pos:Pos}
theorem jw.same(s:j6 G G')(h:jw B ξ G Dn r):jw B ξ G' Dn r:=by
 cases r with
 |nx ρ'=>exact λa b c s2=>h a b c (s.trans s2)
 |bk ρ'=>exact λa b c s2=>h a b c (s.trans s2)
 |ct ρ'=>exact λa b c s2=>h a b c (s.trans s2)
 |rt w ρ'=>exact λv a b c s2=>h v a b c (s.trans s2)
 |ex x ρ'=>exact λa b c s2=>h a b c (s.trans s2)
noncomputable def k8 (m1 m2:SM):SM:=λρ=>match m1 ρ with
 |some (.nx ρ')=>m2 ρ'
 |r=>r
theorem BP(h:m1 ρ=e9 (.nx ρ')):k8 m1 m2 ρ=m2 ρ':=by unfold k8;rw[h]
noncomputable def aq:SM:=λρ=>e9 (.nx ρ)
theorem w5:iU X B [] aq:=.mk λξ=>(Cb (X:=rz X ξ)).imp λDn σ H t=>by
 obtain⟨G,ρ,R,r,e,p⟩:=t;cases e;exact p σ G H (j6.refl _) R
theorem i9 (c:se X B st m1)(d:iU X B S2 m2):iU X B (st::S2) (k8 m1 m2):=.mk λξ=>(yH (c.ap ξ) (d.ap ξ)).imp λDn σ H t=>by
 obtain⟨G,ρ,R,r,e,p⟩:=t;unfold k8 at e;cases h:m1 ρ with
 |none=>rw[h]at e;cases e
 |some b=>
  rw[h]at e;refine⟨G,ρ,R,b,h,?_⟩;cases b with
  |nx a=>exact λf G' H' s R'=>⟨G',a,R',r,e,p.same s⟩
  |bk a=>cases e;exact p
  |ct a=>cases e;exact p
  |rt w a=>cases e;exact p
  |ex x a=>cases e;exact p
theorem k6 (a:se X B st m1):iU X B [st] m1:=.mk λξ=>Ca (a.ap ξ)
noncomputable def E4 {α:Type}(m:M α)(f:α→SM):SM:=λρ=>match m ρ with
 |none=>f7
 |some (.ex x ρ')=>e9 (.ex x ρ')
 |some (.ok a ρ')=>f a ρ'
theorem u1 {α:Type}{m:M α}{f:α→SM}{ρ ρ':l5}{a:α}(h:m ρ=e9 (.ok a ρ')):E4 m f ρ=f a ρ':=by unfold E4;rw[h]
theorem SD.step {α h:Type}{L8:Rel α h}{m:M α}{f:α→SM}(R:RS B G H σ ρ)(t:pR B ξ G ρ (E4 m f) Dn):TD L8 B ξ m σ H (λv g=>∃c b a,j6 G c∧RS B c g σ b∧L8 B c g σ b v a∧pR B ξ c b (f a) Dn):=by
 obtain⟨r,e,p⟩:=t;unfold E4 at e;cases d:m ρ with
 |none=>rw[d]at e;cases e
 |some i=>
  rw[d]at e;cases i with
  |ex x b=>
   cases e;exact⟨G,ρ,R,_,d,λG' H' s R'=>p σ G' H' s R'⟩
  |ok a b=>exact⟨G,ρ,R,_,d,λv c g s j q=>⟨c,b,a,s,j,q,r,e,p.same s⟩⟩
theorem SD.HX {α h:Type}{L8:Rel α h}{m:M α}{f:α→SM}(R:RS B G H σ ρ)(t:pR B ξ G ρ (E4 m f) Dn):TD L8 B ξ m σ H (λv g=>∃c b a,m ρ=e9 (.ok a b)∧j6 G c∧RS B c g σ b∧L8 B c g σ b v a∧pR B ξ c b (f a) Dn):=by
 obtain⟨r,e,p⟩:=t;unfold E4 at e;cases d:m ρ with
 |none=>rw[d]at e;cases e
 |some i=>
  rw[d]at e;cases i with
  |ex x b=>
   cases e;exact⟨G,ρ,R,_,d,λG' H' s R'=>p σ G' H' s R'⟩
  |ok a b=>exact⟨G,ρ,R,_,d,λv c g s j q=>⟨c,b,a,rfl,s,j,q,r,e,p.same s⟩⟩
noncomputable def F7 (m:M W):SM:=E4 m λ_=>aq
theorem G9 (b:PD X B e me)(hs:T2 e f7 pos.line X.env=pure f6:=by rfl):se X B (.Expr e pos) (F7 me):=.mk λξ=>(Cd (X:=rz X ξ) (b.ap ξ) hs).imp λDn σ H t=>by
 obtain⟨G,ρ,R,t⟩:=t;refine(SD.step (L8:=C4) R t).mono λv c ⟨d,f,a,s1,g,h,r,e,p⟩=>?_;cases e;exact p σ d c (j6.refl _) g
noncomputable def Fb (w:W):SM:=λρ=>match w with
 |.val d=>e9 (.rt (.val d) ρ)
 |.own d=>e9 (.rt (.own d) ρ)
 |.slot i=>match ρ[i]? with
  |some (e9 (.sh d))=>e9 (.rt (.val d) ρ)
  |some (e9 (.ow f6 d))=>e9 (.rt (.own d) (ρ.set i f7))
  |_=>f7
noncomputable def retS (m:M W):SM:=E4 m Fb
theorem RS.forget(R:RS B G H σ ρ):RS B G H σ (ρ.set i f7):=by
 by_cases hi:i<ρ.length
 ·refine⟨R.hk,R.keep,R.g0,R.gH,R.gnew,R.dom,by simp[R.len],λj d c=>?_,λj l d c=>?_,λj k l d f g m a b=>?_,R.fz.jD (by intro _ h;cases h),R.ob.jD (by intro _ h;cases h<;>rfl) (by intro _ h;cases h)⟩
  ·by_cases z:i=j
   ·subst z;rw[List.getElem?_set_self hi]at c;cases c
   ·rw[List.getElem?_set_ne z]at c;exact R.sh j d c
  ·by_cases z:i=j
   ·subst z;rw[List.getElem?_set_self hi]at c;cases c
   ·rw[List.getElem?_set_ne z]at c;exact R.ow j l d c
  ·by_cases z:i=j
   ·subst z;rw[List.getElem?_set_self hi]at a;cases a
   ·by_cases e:i=k
    ·subst e;rw[List.getElem?_set_self hi]at b;cases b
    ·rw[List.getElem?_set_ne z]at a;rw[List.getElem?_set_ne e]at b;exact R.inj j k l d f g m a b
 ·rw[List.set_eq_of_length_le (by omega)];exact R
theorem u2 (n:PD X B e me):se X B (.Return (e9 e) pos) (retS me):=.mk λξ=>(Fl (n.ap ξ)).imp λDn σ H t=>by
 obtain⟨G,ρ,R,t⟩:=t;refine(SD.step (L8:=C4) R t).mono λv c ⟨f,h,w,s1,b,a,r,e,p⟩=>?_;unfold Fb at e;cases w with
 |val d=>cases e;exact p v σ f c (j6.refl _) b a
 |own d=>cases e;exact p v σ f c (j6.refl _) b a
 |slot i=>
  have h':σ[i]?=e9 (e9 v):=a;simp only[]at e;split at e
  ·rename_i s q;cases e;obtain⟨y,a,r⟩:=b.sh i _ q;rw[h']at a;cases a;exact p v σ f c (j6.refl _) b r
  ·rename_i s q;cases e;obtain⟨m,a,u,A,x,o⟩:=b.ow i _ _ q;have hi:i<h.length:=(List.getElem?_eq_some_iff.mp q).1;rw[h']at a;cases a;refine p _ σ f c (j6.refl _) b.forget ⟨m,rfl,u,x,o,λj l E g z=>?_⟩;by_cases k:i=j
   ·subst k;rw[List.getElem?_set_self hi]at g;cases g
   ·rw[List.getElem?_set_ne k]at g;exact k (b.inj i j _ _ _ _ m q g h' z)
  ·cases e
noncomputable def X9 (c:M Bool)(a b:SM):SM:=E4 c λk=>if k=f8 then a else b
theorem E5 {e:M Bool}{a b:List Stmt}(i:lW X B c e)(j:iU X B a m1)(l:iU X B b m2):se X B (.If c a b pos) (X9 e m1 m2):=.mk λξ=>(Ij (i.ap ξ) (j.ap ξ) (l.ap ξ)).imp λDn σ H t=>by
 obtain⟨G,ρ,R,t⟩:=t;refine(SD.step (L8:=cT) R t).mono λk o ⟨f,d,m,s1,g,n,h⟩=>?_;cases(show k=m from n);cases k with
 |true=>exact⟨f,d,g,h⟩
 |false=>exact⟨f,d,g,h⟩
theorem RS.uA(R:RS B G H σ ρ)(hi:i<ρ.length)(h:Rep B.K G v d):RS B G H (σ.set i (e9 v)) (ρ.set i (e9 (.sh d))):=by
 have hs:i<σ.length:=by rw[R.len];exact hi
 refine⟨R.hk,R.keep,R.g0,R.gH,R.gnew,R.dom,by simp[R.len],λj e c=>?_,λj l e c=>?_,λj k l e g m n a b=>?_,R.fz.qo (by intro _ h;cases h),R.ob.qo (by intro _ h;cases h<;>rfl) (by intro _ h;cases h)⟩
 ·by_cases z:i=j
  ·subst z;rw[List.getElem?_set_self hi]at c;cases c;exact⟨v,by rw[List.getElem?_set_self hs],h⟩
  ·rw[List.getElem?_set_ne z]at c⊢;exact R.sh j e c
 ·by_cases z:i=j
  ·subst z;rw[List.getElem?_set_self hi]at c;cases c
  ·rw[List.getElem?_set_ne z]at c⊢;exact R.ow j l e c
 ·by_cases z:i=j
  ·subst z;rw[List.getElem?_set_self hi]at a;cases a
  ·by_cases f:i=k
   ·subst f;rw[List.getElem?_set_self hi]at b;cases b
   ·rw[List.getElem?_set_ne z]at a⊢;rw[List.getElem?_set_ne f]at b⊢;exact R.inj j k l e g m n a b
theorem RS.HY(R:RS B G H σ ρ)(hi:i<ρ.length)(h:E2 B G H σ ρ v (.own d)):RS B G H (σ.set i (e9 v)) (ρ.set i (e9 (.ow f6 d))):=by
 obtain⟨p,rfl,g,m,o,ne⟩:=h;have hs:i<σ.length:=by rw[R.len];exact hi
 refine⟨R.hk,R.keep,R.g0,R.gH,R.gnew,R.dom,by simp[R.len],λj e c=>?_,λj l e c=>?_,λj k l e r s t a b=>?_,R.fz.qo (by intro _ h;cases h),R.ob.qo (by intro _ h;cases h<;>rfl) (by intro _ h;cases h)⟩
 ·by_cases z:i=j
  ·subst z;rw[List.getElem?_set_self hi]at c;cases c
  ·rw[List.getElem?_set_ne z]at c⊢;exact R.sh j e c
 ·by_cases z:i=j
  ·subst z;rw[List.getElem?_set_self hi]at c;cases c;refine⟨p,by rw[List.getElem?_set_self hs],g,?_,m,o⟩;cases u:B.HK p with
   |none=>rfl
   |some ob=>rw[R.hk p ob u]at m;cases m
  ·rw[List.getElem?_set_ne z]at c⊢;exact R.ow j l e c
 ·by_cases z:i=j
  ·by_cases f:i=k
   ·intro _ _;omega
   ·subst z;rw[List.getElem?_set_self hs,List.getElem?_set_ne f];rw[List.getElem?_set_ne f]at b;intro n q;cases n;exact absurd q (ne k r s b)
  ·by_cases f:i=k
   ·subst f;rw[List.getElem?_set_self hs,List.getElem?_set_ne z];rw[List.getElem?_set_ne z]at a;intro n q;cases q;exact absurd n (ne j l e a)
   ·rw[List.getElem?_set_ne z]at a⊢;rw[List.getElem?_set_ne f]at b⊢;exact R.inj j k l e r s t a b
noncomputable def iB (i:Nat)(w:W):SM:=λρ=>if i<ρ.length then match w with
 |.own d=>e9 (.nx (ρ.set i (e9 (.ow f6 d))))
 |w=>match D8 w ρ with
  |some (.ok d ρ')=>e9 (.nx (ρ'.set i (e9 (.sh d))))
  |_=>f7
 else f7
noncomputable def n5 (i:Nat)(m:M W):SM:=E4 m (iB i)
theorem zt(h:D8 w ρ=e9 (.ok d ρ')):ρ'.length=ρ.length:=by
 unfold D8 at h;cases w with
 |val d=>cases h;rfl
 |own d=>cases h;rfl
 |slot i=>
  simp only[]at h;split at h
  ·cases h;rfl
  ·cases h;simp
  ·cases h;rfl
  ·cases h
theorem iA(R:RS B G H σ ρ)(q:E2 B G H σ ρ v w)(e:iB i w ρ=e9 r):∃ρ' G',r=.nx ρ'∧j6 G G'∧RS B G' H (σ.set i (e9 v)) ρ':=by
 unfold iB at e;split at e
 ·rename_i hi;cases w with
  |own d=>cases e;exact⟨_,G,rfl,j6.refl _,R.HY hi q⟩
  |val d=>
   cases e;exact⟨_,G,rfl,j6.refl _,R.uA hi q⟩
  |slot j=>
   simp only[]at e;split at e
   ·rename_i d a hl;cases e;obtain⟨G',b,R',c⟩:=q.D8 R hl;exact⟨_,G',rfl,b,R'.uA (by rw[zt hl];exact hi) c⟩
   ·cases e
 ·cases e
theorem m6(b:PD X B e me)(c:X.N.Nodup)(hi:X.N[i]?=e9 x:=by rfl)(d:Loc X.env.scope x:=by first|exact Or.inl rfl|exact Or.inr rfl)(hs:T2 e (e9 (.Name x a)) pos.line X.env=pure f6:=by rfl)(f:X.fn x=f8∨X.env.scope.names.lookup x=e9 .local:=by first|exact .inl rfl|exact .inr rfl):
  se X B (.Assign [.Name x a] e pos) (n5 i me):=.mk λξ=>(yJ (X:=rz X ξ) c hi d (b.ap ξ) hs f).imp λDn σ H t=>by
 obtain⟨G,ρ,R,t⟩:=t;refine(SD.step (L8:=C4) R t).mono λv g ⟨m,h,w,s1,j,k,r,e,p⟩=>?_;obtain⟨ρ',G',rfl,l,R'⟩:=iA j k e;exact p _ G' g l R'
end
structure Gives (K:PySem.W.Frag) (Gs:Hp) (J:It) (ds:List D):Prop where
 go:∀(G H:Hp) (i:Nat),j6 Gs G→j6 G H→i<ds.length→J.go i H
 stop:∀(G H:Hp),j6 Gs G→j6 G H→J.stop ds.length H
 yld:∀(G H H':Hp) (i:Nat) (x:V),j6 Gs G→j6 G H→i<ds.length→J.yld i H x H'→H'=H∧∃d,ds[i]?=some d∧Rep K G x d
noncomputable def Lf (B:Bs)(ξ:XP)(m:M (List D)):TI:=λσ H R=>∃G ρ r,RS B G H σ ρ∧m ρ=e9 r∧match r with
 |.ok ds ρ'=>∀J G' H',j6 G G'→RS B G' H' σ ρ'→Gives B.K G' J ds→R J H'
 |.ex x ρ'=>∀G' H',j6 G G'→RS B G' H' σ ρ'→ξ x σ H'
structure DF (X:Cx) (B:Bs) (tg iter:Expr) (m:M (List D)):Prop where
 ap:∀ξ,PI (rz X ξ) tg iter (Lf B ξ m)
theorem _root_.L2.PI.imp(h:PI X tg e t)(i:∀σ H R,a σ H R→t σ H R):PI X tg e a:=λpins s σ H R I q=>h pins s σ H R I (i σ H R q)
noncomputable def KL:D→Option (List D)
 |.lst ds=>e9 ds
 |.tup ds=>e9 ds
 |.str cs=>e9 (cs.map λc=>D.str [c])
 |_=>f7
noncomputable def A3 (m:M W):M (List D):=M.bind m λw=>M.bind (D8 w) λd=>λρ=>(KL d).map (R'.ok · ρ)
section
variable {X:Cx}{B:Bs}{tg e a b c:Expr}{ma mb mc:M W}{mr:M (List W)}{pos p:Pos}
noncomputable def KN (K:PySem.W.Frag)(c:TE):TI:=λσ H R=>c σ H λx b=>(∃a xs,x=.ref a∧P7 K b a xs∧R (JS K a) b)∨(∃a xs,x=.ref a∧bz K b a xs∧R (JR K a) b)∨∃y,x=.str y∧R (GR y) b
theorem Fq {l:Expr}{j:TE}{K:PySem.W.Frag}(m:X.K=K)(hl:PE X l j):PI X tg l (KN K j):=by
 subst m;intro pins s σ H R I h;refine F3 (hl pins s σ H _ I h) λv s1 ⟨x,d,c,g,n⟩=>?_;have fp:∀b∈[s1.heap.objs.size],lP X pins d b:=λb r=>by
  have e:b=s1.heap.objs.size:=by simpa using r
  subst e;exact c.xl (Nat.le_refl _) (c.hok.fresh (Nat.le_refl _))
 rcases n with⟨a,xs,rfl,i,q⟩ | ⟨a,xs,rfl,i,q⟩ | ⟨y,rfl,q⟩
 ·cases g;obtain⟨f,u,p,w⟩:=c.list i;refine K3 p.isList ?_;exact⟨s1.heap.objs.size,[s1.heap.objs.size],_,_,d,rfl,c.kept (t':=s1.toks) λb o e=>Heap.get?_push_of_some _ e,vX a _,⟨_,Heap.get?_push_size _ rfl,rfl,rfl⟩,fp,q⟩
 ·cases g;obtain⟨f,u,p,w⟩:=c.tuple i;refine wpAny_pyIter_tuple (show s1.heap.IsTuple a f.toArray from p) ?_;exact⟨s1.heap.objs.size,[s1.heap.objs.size],_,_,d,rfl,c.kept (t':=s1.toks) λb o e=>Heap.get?_push_of_some _ e,sj a _,⟨_,Heap.get?_push_size _ rfl,rfl,rfl⟩,fp,q⟩
 ·obtain⟨t,rfl⟩:=g;cases k:y.cps.all (· < 128)
  ·exact wpAny_pyIter_wide k ⟨s1.heap.objs.size,[s1.heap.objs.size],_,GR y,d,rfl,c.kept (t':=s1.toks) λb o e=>Heap.get?_push_of_some _ e,vV y t _,⟨_,Heap.get?_push_size _ rfl,rfl,rfl⟩,fp,q⟩
  ·exact wpAny_pyIter_ascii k ⟨s1.heap.objs.size,[s1.heap.objs.size],_,GR y,d,rfl,c.kept (t':=s1.toks) λb o e=>Heap.get?_push_of_some _ e,vW y t _,⟨_,Heap.get?_push_size _ rfl,rfl,rfl⟩,fp,q⟩
theorem tI {K:PySem.W.Frag}{G:Hp}{a:Addr}{xs:List V}{ds:List D}(h:P7 K G a xs)(r:o9 K G xs ds):Gives K G (JS K a) ds where
 go:=λG' H i s1 s2 hi=>by
  have b:i<xs.length:=by rw[r.len];exact hi
  exact⟨xs,xs[i],(s1.trans s2).seq h,by simp[b]⟩
 stop:=λG' H s1 s2=>⟨xs,(s1.trans s2).seq h,by rw[r.len];exact Nat.le_refl _⟩
 yld:=λG' H H' i x s1 s2 hi y=>by
  obtain⟨rfl,y⟩:=y;have e:=y xs ((s1.trans s2).seq h);obtain⟨d,c,f⟩:=r.KZ e;exact⟨rfl,d,c,f.same s1⟩
theorem xh {K:PySem.W.Frag}{G:Hp}{a:Addr}{xs:List V}{ds:List D}(h:bz K G a xs)(r:o9 K G xs ds):Gives K G (JR K a) ds where
 go:=λG' H i s1 s2 hi=>by
  have b:i<xs.length:=by rw[r.len];exact hi
  exact⟨xs,xs[i],(s1.trans s2).tup h,by simp[b]⟩
 stop:=λG' H s1 s2=>⟨xs,(s1.trans s2).tup h,by rw[r.len];exact Nat.le_refl _⟩
 yld:=λG' H H' i x s1 s2 hi y=>by
  obtain⟨rfl,y⟩:=y;have e:=y xs ((s1.trans s2).tup h);obtain⟨d,c,f⟩:=r.KZ e;exact⟨rfl,d,c,f.same s1⟩
theorem xi {K:PySem.W.Frag}{G:Hp}(cs:List Nat):Gives K G (GR (tx cs)) (cs.map λc=>D.str [c]) where
 go:=λG' H i s1 s2 hi=>by
  show i<(tx cs).cps.size;simpa using hi
 stop:=λG' H s1 s2=>by
  show(tx cs).cps.size≤_;simp
 yld:=λG' H H' i x s1 s2 hi y=>by
  obtain⟨rfl,c,b,rfl⟩:=y;refine⟨rfl,.str [c],?_,.str [c]⟩;rw[List.getElem?_map];have a:cs[i]?=e9 c:=by simpa using b
  rw[a];rfl
theorem jr {K:PySem.W.Frag}{G:Hp}(lo:Int)(n:Nat):Gives K G (Jk lo n) ((List.range n).map λk=>D.int (lo+((k:Nat):Int))) where
 go:=λG' H i s1 s2 hi=>by
  show i<n;simpa using hi
 stop:=λG' H s1 s2=>by
  show n≤_;simp
 yld:=λG' H H' i x s1 s2 hi y=>by
  obtain⟨rfl,rfl⟩:=y;have a:i<n:=by simpa using hi
  refine⟨rfl,.int (lo+i),?_,.int _⟩;rw[List.getElem?_map,List.getElem?_range a];rfl
theorem L5 (k:PD X B e ma)(m:X.K=B.K:=by rfl):DF X B tg e (A3 ma):=.mk λξ=>(Fq (X:=rz X ξ) (K:=B.K) m (k.ap ξ)).imp λσ H n t=>by
 obtain⟨G,ρ,r,R,e,p⟩:=t;have conv:cE (L8:=(λ(B:Bs) (G H:Hp) (σ:St) (ρ:l5) (J:It) (ds:List D)=>Gives B.K G J ds)) B ξ G ρ (A3 ma) σ (λJ H=>n J H):=by
  refine⟨r,e,?_⟩;cases r with
  |ok ds ρ'=>exact λJ G' H' s R' g=>p J G' H' s R' g
  |ex x ρ'=>exact p
 refine(TD.bind (L8:=C4) R conv).mono λx c ⟨E,o,w,s1,q,u,v⟩=>?_;obtain⟨d,y,z,F,b,f⟩:=v.step λr h=>ag h;obtain⟨i,s2,R2,A⟩:=u.D8 q z;cases hd:KL d with
 |none=>rw[hd]at b;cases b
 |some ds=>
  rw[hd]at b;cases b;cases A with
  | @lst a xs j h l r=>
   cases hd;refine .inl ⟨a,xs,rfl,R2.gH.seq h,f (JS B.K a) i c s2 R2 ?_⟩;exact tI h ⟨l,r⟩
  | @tup a xs j h l r=>
   cases hd;exact .inr (.inl ⟨a,xs,rfl,R2.gH.tup h,f (JR B.K a) i c s2 R2 (xh h ⟨l,r⟩)⟩)
  |str cs=>
   cases hd;exact .inr (.inr ⟨tx cs,rfl,f (GR (tx cs)) i c s2 R2 (xi cs)⟩)
  |_=>cases hd
end
noncomputable def ints1:List D→Option (List D)
 | [.int n]=>dL (-(2 ^ 62)≤n∧n<2 ^ 62) (e9 ((List.range n.toNat).map λk=>D.int (0+((k:Nat):Int))))
 |_=>f7
noncomputable def ints2:List D→Option (List D)
 | [.int i,.int j]=>dL (-(2 ^ 62)≤i∧i<2 ^ 62∧-(2 ^ 62)≤j∧j<2 ^ 62) (e9 ((List.range (j-i).toNat).map λk=>D.int (i+((k:Nat):Int))))
 |_=>f7
noncomputable def X7 (f:List D→Option (List D))(m:M (List W)):M (List D):=M.bind m λa=>λρ=>match Y0 a ρ with
 |some ds=>(f ds).map (R'.ok · ρ)
 |none=>f7
noncomputable def Ib:Rel (List D) It:=λB G H σ ρ J ds=>Gives B.K G J ds
section
variable {X:Cx}{B:Bs}{tg e a b c:Expr}{ma mb mc:M W}{mr:M (List W)}{pos p:Pos}
theorem ol {ξ:XP}{m:M (List D)}{σ:St}{H:Hp}{a:It→Hp→Prop}(t:Lf B ξ m σ H a):∃G ρ,RS B G H σ ρ∧cE Ib B ξ G ρ m σ a:=by
 obtain⟨G,ρ,r,R,e,p⟩:=t;refine⟨G,ρ,R,r,e,?_⟩;cases r with
 |ok ds ρ'=>exact λJ G' H' s R' g=>p J G' H' s R' g
 |ex x ρ'=>exact p
theorem oI {ξ:XP}{f:List D→Option (List D)}{a:List W}{G:Hp}{ρ:l5}{σ:St}{c:It→Hp→Prop}(t:cE Ib B ξ G ρ (λρ=>match Y0 a ρ with|some ds=>(f ds).map (R'.ok · ρ) |none=>f7) σ c):∃ds es,Y0 a ρ=e9 ds∧f ds=e9 es∧∀J G' H',j6 G G'→RS B G' H' σ ρ→Gives B.K G' J es→c J H':=by
 obtain⟨r,e,p⟩:=t;cases d:Y0 a ρ with
 |none=>simp only[d]at e;cases e
 |some ds=>
  simp only[d]at e;cases b:f ds with
  |none=>rw[b]at e;cases e
  |some es=>
   rw[b]at e;cases e;exact⟨ds,es,rfl,b,p⟩
theorem F1 (d:X.mg "range"=f7) (e:gl X B [a] mr) (f:Gl X "range":=by rfl) (hs:h8 [a] X.env=[(f6,eval a X.env)]:=by rfl):DF X B tg (.Call (.Name "range" p) [a] [] pos) (X7 ints1 mr):=.mk λξ=>
 (wx (X:=rz X ξ) f d (e.ap ξ) hs).imp λσ H q t=>by
  obtain⟨G,ρ,R,t⟩:=ol t;refine(TD.bind (L8:=M8) R t).mono λvs g ⟨i,j,r,s1,c,k,l⟩=>?_;obtain⟨ds,es,m,b,p⟩:=oI l;have h:=as c k m
  match ds,b with
  | [.int n],b=>
   obtain⟨z,b⟩:=p5 b;cases b;obtain⟨x,rfl,o⟩:=I0 h;exact⟨n,by rw[o.int],z.1,z.2,p _ i g (j6.refl _) c (jr 0 n.toNat)⟩
theorem qZ (f:X.mg "range"=f7) (g:gl X B [a,b] mr) (k:Gl X "range":=by rfl) (hs:h8 [a,b] X.env=[(f6,eval a X.env),(f6,eval b X.env)]:=by rfl) (d:h8 [b] X.env=[(f6,eval b X.env)]:=by rfl):DF X B tg (.Call (.Name "range" p) [a,b] [] pos) (X7 ints2 mr):=.mk λξ=>
 (ww (X:=rz X ξ) k f (g.ap ξ) hs d).imp λσ H v t=>by
  obtain⟨G,ρ,R,t⟩:=ol t;refine(TD.bind (L8:=M8) R t).mono λvs l ⟨m,n,w,s1,e,o,q⟩=>?_;obtain⟨ds,es,r,c,p⟩:=oI q;have h:=as e o r
  match ds,c with
  | [.int i,.int j],c=>
   obtain⟨z,c⟩:=p5 c;cases c;obtain⟨x,y,rfl,s,u⟩:=xX h;exact⟨i,j,by rw[s.int,u.int],z,p _ m l (j6.refl _) e (jr i (j-i).toNat)⟩
end
noncomputable abbrev FT:=D→l5→Option l5
noncomputable def MK (B:Bs)(f:FT):TG:=λv σ H b=>∃G ρ d ρ',RS B G H σ ρ∧Rep B.K G v d∧f d ρ=e9 ρ'∧∀a G' H',j6 G G'→RS B G' H' a ρ'→b a H'
structure Mh (X:Cx) (B:Bs) (tg:Expr) (f:FT):Prop where
 ap:∀ξ,PG (rz X ξ) tg (MK B f)
theorem _root_.L2.PG.imp(h:PG X tg t)(i:∀v σ H R,a v σ H R→t v σ H R):PG X tg a:=λpins s σ H v u Q I r q=>h pins s σ H v u Q I r (i v σ H _ q)
noncomputable def y7 (i:Nat):FT:=λd ρ=>if i<ρ.length then e9 (ρ.set i (e9 (.sh d)))else f7
section
variable {X:Cx}{B:Bs}{tg e:Expr}{pos:Pos}
theorem C5(a:X.N.Nodup)(hi:X.N[i]?=e9 x:=by rfl)(b:Loc X.env.scope x:=by first|exact Or.inl rfl|exact Or.inr rfl)(c:X.fn x=f8∨X.env.scope.names.lookup x=e9 .local:=by first|exact .inl rfl|exact .inr rfl):Mh X B (.Name x pos) (y7 i):=.mk λξ=>
 (oN (X:=rz X ξ) a hi b c).imp λv σ H f t=>by
  obtain⟨G,ρ,d,ρ',R,h,e,p⟩:=t;unfold y7 at e;split at e
  ·cases e;exact p _ G H (j6.refl _) (R.uA ‹_› h)
  ·cases e
end
noncomputable def forL (tg:FT)(b:SM):List D→SM
 | []=>λρ=>e9 (.nx ρ)
 |d::ds=>λρ=>match tg d ρ with
  |none=>f7
  |some c=>match b c with
   |some (.nx a)=>forL tg b ds a
   |some (.ct a)=>forL tg b ds a
   |some (.bk a)=>e9 (.nx a)
   |r=>r
noncomputable def T6 (a:M (List D))(tg:FT)(b:SM):SM:=E4 a λds=>forL tg b ds
theorem kT {X:Cx}:Kc (model X.prog X.w) X.A X.env (XE X ξ):=by
 rintro e s' ⟨x,pins,σ,H,I,⟨a,cls,dct,rfl,ix,oa,fl,F⟩,q⟩
 have c:Inv X [] σ H s':=I.gV λp d=>absurd d (by simp);refine noted c F oa fl λh' T f t b=>?_;obtain⟨m,vs,g,ts,h,n,i,hd,j,r⟩:=id t;refine g8 (u5 h hd j ?_);rw[if_neg (show¬((Value.ref T==Value.none)=f8)from by simp)];rw[F.fr];exact marked (e9 X.env.locals) f F t b λo k l=>⟨x,[],σ,H,k,⟨a,cls,dct,rfl,ix,oa,.inr ⟨T,_,l,b,.inr rfl⟩,F⟩,q⟩
section
variable {X:Cx}{B:Bs}{tg iter:Expr}{body:List Stmt}{mi:M (List D)}{f:FT}{mb:SM}{pos:Pos}
theorem M7 (hi:DF X B tg iter mi)(O:Mh X B tg f)(P:iU X B body mb)(Q:X.calm=f8:=by rfl)(hs:∀x,foldedSetIterable iter X.env x=pure x:=by intro _;rfl):se X B (.For tg iter body [] pos) (T6 mi f mb):=.mk λξ=>
 (Fm (X:=rz X ξ) kT Q (hi.ap ξ) (O.ap ξ) (P.ap ξ) hs).imp λL σ H t=>by
  obtain⟨G,ρ,R,r,e,p⟩:=t;unfold T6 E4 at e;cases z:mi ρ with
  |none=>rw[z]at e;cases e
  |some S=>
   rw[z]at e;cases S with
   |ex x q=>
    cases e;exact⟨G,ρ,_,R,z,λG' H' s R'=>p σ G' H' s R'⟩
   |ok ds q=>
    refine⟨G,ρ,_,R,z,λJ Gs H1 s1 T E=>?_⟩;refine⟨λi m σ H=>∃G ρ r,m=ds.length-i∧i≤ds.length∧j6 Gs G∧RS B G H σ ρ∧forL f mb (ds.drop i) ρ=e9 r∧jw B ξ G L r,⟨ds.length,Gs,q,r,by simp,Nat.zero_le _,j6.refl _,T,by simpa using e,p.same s1⟩,?_⟩
    rintro i m σ2 H2 ⟨G2,x2,r2,rfl,hle,s2,R2,e2,p2⟩
    by_cases c:i<ds.length
    ·have U:ds.drop i=ds[i]::ds.drop (i+1):=List.drop_eq_getElem_cons c;rw[U]at e2;unfold forL at e2;cases F:f ds[i] x2 with
     |none=>rw[F]at e2;cases e2
     |some k=>
      rw[F]at e2;refine .inr ⟨E.go G2 H2 i s2 R2.gH c,λu H'=>∃G' ρ' A,j6 Gs G'∧RS B G' H' u ρ'∧forL f mb (ds.drop (i+1)) ρ'=e9 A∧jw B ξ G' L A,λu H' ⟨G',ρ',A,Y,Z,a3,a4⟩=>⟨ds.length-(i+1),by omega,G',ρ',A,rfl,c,Y,Z,a3,a4⟩,λx H' y=>?_⟩;obtain⟨rfl,d,hd,rx⟩:=E.yld G2 H2 H' i x s2 R2.gH c y;have I:d=ds[i]:=by
       rw[List.getElem?_eq_getElem c]at hd;exact(j7 hd).symm
      subst I;refine⟨G2,x2,_,k,R2,rx,F,λa0 G3 H3 l R3=>?_⟩;cases n:mb k with
      |none=>simp only[n]at e2;cases e2
      |some N=>
       simp only[n]at e2;refine⟨G3,k,R3,N,n,?_⟩;cases N with
       |nx b=>exact λa h o g j=>⟨h,b,r2,(s2.trans l).trans g,j,e2,p2.same (l.trans g)⟩
       |ct b=>exact λa h o g j=>⟨h,b,r2,(s2.trans l).trans g,j,e2,p2.same (l.trans g)⟩
       |bk b=>
        cases e2;exact λa h o g j=>p2 a h o (l.trans g) j
       |rt w b=>
        cases e2;exact λv a h o g j q4=>p2 v a h o (l.trans g) j q4
       |ex x b=>
        cases e2;exact λa h o g j=>p2 a h o (l.trans g) j
    ·have ei:i=ds.length:=by omega
     subst ei;rw[List.drop_length]at e2;cases e2;exact .inl ⟨E.stop G2 H2 s2 R2.gH,p2 σ2 G2 H2 (j6.refl _) R2⟩
end
noncomputable def C3 (c:M Bool)(b:SM):Nat→SM
 |0=>λ_=>f7
 |n+1=>E4 c λk=>if k=f8 then(λρ=>match b ρ with
   |some (.nx a)=>C3 c b n a
   |some (.ct a)=>C3 c b n a
   |some (.bk a)=>e9 (.nx a)
   |r=>r)else aq
section
variable {X:Cx}{B:Bs}{c:Expr}{body:List Stmt}{mc:M Bool}{mb:SM}{pos:Pos}
theorem oA (n:Nat)(F:lW X B c mc)(I:iU X B body mb):se X B (.While c body [] pos) (C3 mc mb n):=.mk λξ=>
 (yI (X:=rz X ξ) kT (F.ap ξ) (I.ap ξ)).imp λu σ H t=>by
  obtain⟨G,ρ,R,r,e,p⟩:=t;refine⟨λm σ H=>∃G ρ r,RS B G H σ ρ∧C3 mc mb m ρ=e9 r∧jw B ξ G u r,⟨n,G,ρ,r,R,e,p⟩,?_⟩
  rintro m σ2 H2 ⟨G2,x2,r2,R2,e2,p2⟩
  cases m with
  |zero=>cases e2
  |succ m=>
   unfold C3 at e2;refine(SD.step (L8:=cT) R2 ⟨r2,e2,p2⟩).mono λk J ⟨y,o,L,T,z,N,A,d,l⟩=>?_;cases(show k=L from N);cases k with
   |false=>
    cases d;exact l σ2 y J (j6.refl _) z
   |true=>
    rw[if_pos rfl]at d;refine⟨λq H'=>∃G' ρ' s,RS B G' H' q ρ'∧C3 mc mb m ρ'=e9 s∧jw B ξ G' u s,λq H' ⟨G',ρ',s,O,P,Q⟩=>⟨m,Nat.lt_succ_self _,G',ρ',s,O,P,Q⟩,?_⟩;cases i:mb o with
    |none=>simp only[i]at d;cases d
    |some E=>
     simp only[i]at d;refine⟨y,o,z,E,i,?_⟩;cases E with
     |nx b=>exact λa f j g h=>⟨f,b,A,h,d,l.same g⟩
     |ct b=>exact λa f j g h=>⟨f,b,A,h,d,l.same g⟩
     |bk b=>cases d;exact λa f j g h=>l a f j g h
     |rt w b=>cases d;exact λv a f j g h S=>l v a f j g h S
     |ex x b=>cases d;exact λa f j g h=>l a f j g h
end
noncomputable def JC (T:String):D→Bool
 |.str _=>T == "str"
 |.lst _=>T == "list"
 |.dct _=>T == "dict"
 |_=>f6
noncomputable def rZ (T:String)(w:W):M Unit:=λρ=>match getD w ρ with
 |some d=>if JC T d=f8 then e9 (.ok () ρ)else f7
 |none=>f7
theorem bU(h:rZ T w ρ=e9 r):r=.ok () ρ∧∃d,getD w ρ=e9 d∧JC T d=f8:=by
 unfold rZ at h;split at h
 ·rename_i d hd;split at h
  ·cases h;exact⟨rfl,d,hd,‹_›⟩
  ·cases h
 ·cases h
theorem si(R:RS B G H σ ρ)(h:O2 B.K G H x d)(t:JC T d=f8)(a:T≠"dict":=by decide):Hd B.K T x H:=by
 cases d with
 |str cs=>rw[h.str];exact eq_of_beq t
 |lst ds=>
  obtain⟨p,xs,rfl,b,c⟩:=h.lst R.gH;exact .inl ⟨eq_of_beq t,xs,b⟩
 |dct es=>
  exact absurd (eq_of_beq t) a
 |_=>cases t
theorem ey(h:h7 i ρ=e9 (.ok w ρ')):w=.slot i∧ρ'=ρ:=by
 unfold h7 at h;split at h
 ·cases h;exact⟨rfl,rfl⟩
 ·cases h
noncomputable def ie (i:Nat)(d:D):M W:=λρ=>match ρ[i]? with
 |some (e9 (.ow l (.lst ds)))=>dL (small ds.length) (e9 (.ok (.val .v1) (ρ.set i (e9 (.ow l (.lst (ds++[d])))))))
 |_=>f7
noncomputable def D6 (i:Nat)(m:M (List W)):M W:=M.bind (h7 i) λx=>M.bind (rZ "list" x) λ_=>M.bind m λa=>match a with
 | [w]=>M.bind (D8 w) (ie i)
 |_=>λ_=>f7
section
variable {X:Cx}{B:Bs}{o e:Expr}{es:List Expr}{mr:M (List W)}{apos cpos Jq:Pos}{x:Str}
theorem slot_of {G H:Hp}{σ:St}{ρ:l5}{i:Nat}{l:Bool}{d:D}(R:RS B G H σ ρ)(h:ρ[i]?=e9 (e9 (.ow l d))){v:V}(b:σ[i]?=e9 (e9 v)):∃p,v=.ref p∧G p=f7∧B2 B.K G H p d:=by
 obtain⟨p,a,c,f,g,e⟩:=R.ow i l d h;rw[b]at a;cases a;exact⟨p,rfl,c,e⟩
theorem L7 (i:Nat)(E:PD X B o (h7 i))(I:gl X B [e] mr)
  (c:x0 o "append" X.env (eval o X.env)=eval o X.env:=by rfl)
  (j:((m4 cpos (h8 [e] X.env)).all (λx=>!x.1)&&(y4 cpos (o1 [] X.env)).all (λx=>x.1.isSome)
   && decide (([e]:List Expr).length+([]:List Keyword).length+(if([]:List Keyword).isEmpty then 0 else 1)<30))=f8:=by rfl)
  (f:(apos.endLine==cpos.line)=f8:=by rfl) (hs:h8 [e] X.env=(f6,eval e X.env)::h8 [] X.env:=by rfl) (b:(m4 cpos (h8 [] X.env)).any (·.1)=f6:=by rfl) (J:X.K=B.K:=by rfl):
  PD X B (.Call (.Attribute o "append" apos) [e] [] cpos) (D6 i mr):=.mk λξ=>
 (uE (X:=rz X ξ) PySem.F.plainAttrs_list PySem.F.slot_list_append PySem.F.type_list_append wM (E.ap ξ) (I.ap ξ) c j f hs b).imp λσ H Q t=>by
  obtain⟨G,ρ,R,t⟩:=t;refine(TD.vF (L8:=C4) R t).mono λx L ⟨G1,N,w,a,s1,k,s,O⟩=>?_;obtain⟨rfl,rfl⟩:=ey a;have y:σ[i]?=e9 (e9 x):=s;obtain⟨u,m,P,S⟩:=O.step λr h=>⟨(),_,(bU h).1⟩;obtain⟨T,d,hd,ty⟩:=bU P;cases T;refine⟨by show Hd X.K "list" x L;rw[J];exact si k (s.get k hd) ty,?_⟩;refine(TD.bind (L8:=M8) k S).mono λvs H2 ⟨G2,m,U,s2,R2,n,q⟩=>?_
  match U,n,q with
  | [],_,⟨r,a,_⟩=>cases a
  |_::_::_,_,⟨r,a,_⟩=>cases a
  | [w],n,q=>
   cases n with
   | @cons v _ vs _ h t=>
    cases t;obtain⟨dv,Y,Z,r,a,p⟩:=q.step λr h=>ag h;obtain⟨G3,s3,z,rv⟩:=h.1.D8 R2 Z;unfold ie at a;split at a
    ·rename_i l ds hi;obtain⟨hz,a⟩:=p5 a;cases a;obtain⟨pp,rfl,g,xs,hx,A⟩:=slot_of z hi y;refine⟨pp,xs,v,rfl,rfl,hx,?_,?_⟩
     ·rw[A.len,v0];unfold small at hz;omega
     ·exact p .v1 G3 _ s3 (z.write hi y ⟨xs++[v],m3,A.append (.one rv)⟩) .v1
    ·cases a
end
inductive FR where
 |ret (w:W) (fin:List D) |exc (x:GT) (fin:List D)
inductive V3 (K:PySem.W.Frag) (G H:Hp):List Bool→List V→List D→List Addr→Prop
 |nil:V3 K G H [] [] [] []
 |sh {v:V} {d:D} {ms:List Bool} {vs:List V} {ds:List D} {ps:List Addr} (h:Rep K G v d) (r:V3 K G H ms vs ds ps):V3 K G H (false::ms) (v::vs) (d::ds) ps
 |ln {p:Addr} {d:D} {ms:List Bool} {vs:List V} {ds:List D} {ps:List Addr} (g:G p=none) (o:B2 K G H p d) (n:p∉ps) (r:V3 K G H ms vs ds ps):V3 K G H (true::ms) (.ref p::vs) (d::ds) (p::ps)
noncomputable def minus (H:Hp)(ps:List Addr):Hp:=λb=>if b∈ps then f7 else H b
theorem cj(h:b∈ps):minus H ps b=f7:=if_pos h
theorem V8(h:b∉ps):minus H ps b=H b:=if_neg h
theorem N7 (H:Hp)(ps:List Addr):j6 (minus H ps) H:=λb o e=>by
 unfold minus at e;split at e
 ·cases e
 ·exact e
structure After (K:PySem.W.Frag) (G H:Hp) (ps:List Addr) (G' H':Hp) (fin:List D):Prop where
 keep:j6 (minus H ps) H'
 gg:j6 G G'
 gH:j6 G' H'
 gnew:∀p o,G' p=some o→G p=some o∨H p=none
 dom:∀p,H' p=none→H p=none
 lent:Paired (λp d=>G' p=none∧B2 K G' H' p d) ps fin
noncomputable def pS (K:PySem.W.Frag)(H G' H':Hp)(v:V):W→Prop
 |.val d=>Rep K G' v d
 |.own d=>∃p,v=.ref p∧G' p=f7∧H p=f7∧B2 K G' H' p d
 |.slot _=>False
noncomputable def E3 (K:PySem.W.Frag)(ms:List Bool)(a:List D→Option FR):Sp:=λvs H Q E=>∃G ds ps r,j6 G H∧V3 K G H ms vs ds ps∧a ds=e9 r∧match r with
 |.ret w fin=>∀v G' H',After K G H ps G' H' fin→pS K H G' H' v w→Q v H'
 |.exc _ _=>False
theorem E3.imp {K:PySem.W.Frag}{ms:List Bool}{f e:List D→Option FR}(h:∀ds r,f ds=e9 r→e ds=e9 r):∀vs H Q E,E3 K ms f vs H Q E→E3 K ms e vs H Q E:=by
 rintro vs H Q E ⟨G,ds,ps,r,a,b,c,d⟩
 exact⟨G,ds,ps,r,a,b,h ds r c,d⟩
theorem V3.len {K:PySem.W.Frag}{G H:Hp}:∀{ms:List Bool} {vs:List V} {ds:List D} {ps:List Addr},V3 K G H ms vs ds ps→vs.length=ms.length∧ds.length=ms.length
 |_,_,_,_,.nil=>⟨rfl,rfl⟩
 |_,_,_,_,.sh _ r=>by obtain⟨a,b⟩:=r.len;exact⟨by simp[a],by simp[b]⟩
 |_,_,_,_,.ln _ _ _ r=>by obtain⟨a,b⟩:=r.len;exact⟨by simp[a],by simp[b]⟩
noncomputable def ki (m:Bool)(d:D):Option C:=e9 (if m=f8 then .ow f8 d else .sh d)
noncomputable def cells:List Bool→List D→l5
 |m::ms,d::ds=>ki m d::cells ms ds
 |_,_=>[]
noncomputable def B3 (n:Nat)(ms:List Bool)(ds:List D):l5:=cells ms ds++List.replicate (n-ds.length) f7
noncomputable def bP:List Bool→l5→Option (List D)
 | [],_=>e9 []
 |false::ms,_::ρ=>bP ms ρ
 |true::ms,e9 (.ow f8 d)::ρ=>(bP ms ρ).map (d::·)
 |_,_=>f7
noncomputable def sI (ms:List Bool):SR→Option FR
 |.nx ρ=>(bP ms ρ).map (FR.ret (.val .v1))
 |.rt (.slot _) _=>f7
 |.rt w ρ=>(bP ms ρ).map (FR.ret w)
 |.ex x ρ=>(bP ms ρ).map (FR.exc x)
 |_=>f7
noncomputable def n8 (m:SM)(n:Nat)(ms:List Bool)(ds:List D):Option FR:=(m (B3 n ms ds)).bind (sI ms)
noncomputable def S1:List Bool→List Addr→Nat→Option Addr
 | [],_,_=>f7
 |false::_,_,0=>f7
 |false::ms,ps,i+1=>S1 ms ps i
 |true::_,p::_,0=>e9 p
 |true::ms,_::ps,i+1=>S1 ms ps i
 |true::_,[],_=>f7
section
variable {K:PySem.W.Frag}{G H:Hp}
theorem nR:∀{ms:List Bool} {ds:List D},ds.length=ms.length→(cells ms ds).length=ms.length
 | [],[],_=>rfl
 | [],_::_,h=>by simp at h
 |_::_,[],h=>by simp at h
 |m::ms,d::ds,h=>by
  show(cells ms ds).length+1=ms.length+1;rw[nR (by simpa using h)]
theorem V0:∀{ms:List Bool} {vs:List V} {ds:List D} {ps:List Addr} {i:Nat} {c:C},V3 K G H ms vs ds ps→(cells ms ds)[i]?=e9 (e9 c)→
  ∃v,vs[i]?=e9 v∧((∃d,c=.sh d∧Rep K G v d)∨∃p d,c=.ow f8 d∧v=.ref p∧p∈ps∧S1 ms ps i=e9 p∧G p=f7∧B2 K G H p d)
 |_,_,_,_,i,c,.nil,e=>by simp[cells]at e
 |_,_,_,_,0,c,.sh h r,e=>by
  simp[cells,ki]at e;subst e;exact⟨_,rfl,.inl ⟨_,rfl,h⟩⟩
 |_,_,_,_,i+1,c,.sh h r,e=>by
  obtain⟨v,j,f⟩:=V0 (i:=i) r (by simpa[cells]using e);exact⟨v,by simpa using j,f⟩
 |_,_,_,_,0,c,.ln g o n r,e=>by
  simp[cells,ki]at e;subst e;exact⟨_,rfl,.inr ⟨_,_,rfl,rfl,List.mem_cons_self,rfl,g,o⟩⟩
 |_,_,_,_,i+1,c,.ln g o n r,e=>by
  obtain⟨v,j,f⟩:=V0 (i:=i) r (by simpa[cells]using e);refine⟨v,by simpa using j,?_⟩;rcases f with f| ⟨p,d,a,b,k,l,m,q⟩
  ·exact .inl f
  ·exact .inr ⟨p,d,a,b,List.mem_cons_of_mem _ k,l,m,q⟩
theorem zq(r:V3 K G H ms vs ds ps):∀{i j:Nat} {p:Addr},S1 ms ps i=e9 p→S1 ms ps j=e9 p→i=j:=by
 have mem:∀{ms:List Bool} {ps:List Addr} {i:Nat} {p:Addr},S1 ms ps i=e9 p→p∈ps:=by
  intro ms;induction ms with
  |nil=>intro ps i p h;cases h
  |cons m ms ih=>
   intro ps i p h;cases m with
   |false=>
    cases i with
    |zero=>cases h
    |succ i=>exact ih (i:=i) h
   |true=>
    cases ps with
    |nil=>cases i<;>cases h
    |cons q ps=>
     cases i with
     |zero=>cases h;exact List.mem_cons_self
     |succ i=>exact List.mem_cons_of_mem _ (ih (i:=i) h)
 induction r with
 |nil=>intro i j p h;cases h
 |sh h r ih=>
  intro i j p a b;cases i with
  |zero=>cases a
  |succ i=>
   cases j with
   |zero=>cases b
   |succ j=>rw[ih (i:=i) (j:=j) a b]
 |ln g o n r ih=>
  intro i j p a b;cases i with
  |zero=>
   cases a;cases j with
   |zero=>rfl
   |succ j=>exact absurd (mem (i:=j) b) n
  |succ i=>
   cases j with
   |zero=>cases b;exact absurd (mem (i:=i) a) n
   |succ j=>rw[ih (i:=i) (j:=j) a b]
theorem S3 {N:List Str}{vs:List V}{i:Nat}{v:V}(h:vs[i]?=e9 v):(start N vs)[i]?=e9 (e9 v):=by
 unfold L2.start;have hi:i<vs.length:=(List.getElem?_eq_some_iff.mp h).1;rw[List.getElem?_append_left (by simpa using hi),List.getElem?_map,h];rfl
theorem N5 {n:Nat}{ms:List Bool}{ds:List D}{i:Nat}{c:C}(h:(B3 n ms ds)[i]?=e9 (e9 c)):(cells ms ds)[i]?=e9 (e9 c):=by
 unfold B3 at h;by_cases hi:i<(cells ms ds).length
 ·rw[List.getElem?_append_left hi]at h;exact h
 ·rw[List.getElem?_append_right (by omega),List.getElem?_replicate]at h;split at h<;>cases h
theorem kO {N:List Str}(g:j6 G H)(r:V3 K G H ms vs ds ps)(hl:vs.length≤N.length):
  RS ⟨K,H,minus H ps,G,S1 ms ps,f7⟩ G H (start N vs) (B3 N.length ms ds):=by
 obtain⟨I,z⟩:=r.len;refine⟨N7 H ps,N7 H ps,j6.refl _,g,λp o e=>.inl e,λp e=>e,?_,λi d e=>?_,λi l d e=>?_,λi j l d k e p a b=>?_,λi es e=>?_,λi l fds e=>?_,λi fds e=>?_⟩
 ·unfold L2.start B3;rw[List.length_append,List.length_append,List.length_map,List.length_replicate,List.length_replicate,nR z];omega
 ·obtain⟨v,n,c⟩:=V0 r (N5 e);rcases c with⟨f,q,h⟩ | ⟨p,f,q,_⟩
  ·cases q;exact⟨v,S3 n,h⟩
  ·cases q
 ·obtain⟨v,n,c⟩:=V0 r (N5 e);rcases c with⟨f,q,h⟩ | ⟨p,f,q,rfl,m,s,gp,o⟩
  ·cases q
  ·cases q;exact⟨p,S3 n,gp,cj m,.inl s,o⟩
 ·obtain⟨v,n,c⟩:=V0 r (N5 a);obtain⟨J,A,B⟩:=V0 r (N5 b);rcases c with⟨f,q,h⟩ | ⟨t,f,q,rfl,m,s,gp,o⟩
  ·cases q
  rcases B with⟨E,w,h⟩ | ⟨L,E,w,rfl,O,u,F,P⟩
  ·cases w
  intro x y;rw[S3 n]at x;rw[S3 A]at y;cases x;cases y;exact zq r s u
 ·obtain⟨v,n,c⟩:=V0 r (N5 e);rcases c with⟨f,q,h⟩ | ⟨t,f,q,_⟩<;>cases q
 ·obtain⟨v,n,c⟩:=V0 r (N5 e);rcases c with⟨f,q,h⟩ | ⟨t,f,q,_⟩<;>cases q
 ·obtain⟨v,n,c⟩:=V0 r (N5 e);rcases c with⟨f,q,h⟩ | ⟨t,f,q,_⟩<;>cases q
theorem fb {B:Bs}(j:∀i,B.gh i=f6)(R:RS B G' H' σ ρ):∀{ms:List Bool} {vs:List V} {ds:List D} {ps:List Addr} (_:V3 K G H ms vs ds ps) (k:Nat) (ρ':l5) (fin:List D),(∀i,ρ'[i]?=ρ[k+i]?)→(∀i,S1 ms ps i=B.L (k+i))→bP ms ρ'=e9 fin→Paired (λp d=>G' p=f7∧B2 B.K G' H' p d) ps fin
 |_,_,_,_,.nil,k,ρ',fin,_,_,e=>by cases e;exact .nil
 |_,_,_,_,.sh h r,k,ρ',fin,a,f,e=>by
  cases ρ' with
  |nil=>cases e
  |cons c ρ'=>
   refine fb j R r (k+1) ρ' fin (λi=>?_) (λi=>?_) e
   ·have:=a (i+1);rw[List.getElem?_cons_succ]at this;rw[this];congr 1;omega
   ·have:=f (i+1);rw[show k+1+i=k+(i+1) by omega,←this];rfl
 |_,_,_,_,.ln (p:=p) g o n r,k,ρ',fin,a,f,e=>by
  cases ρ' with
  |nil=>cases e
  |cons c ρ'=>
   match c,e with
   |some (.ow f8 d),e=>
    obtain⟨b,q,rfl⟩:=h9.mp e;refine .cons ?_ (fb j R r (k+1) ρ' b (λi=>?_) (λi=>?_) q)
    ·have s:=a 0;obtain⟨l,x,t,y,u,v⟩:=R.ow (k+0) f8 d s.symm;have m:B.L (k+0)=e9 l:=by
      rcases u with z| ⟨z,_⟩
      ·exact z
      ·rw[j]at z;cases z
     rw[←f 0]at m;have w:e9 p=e9 l:=m;cases w;exact⟨t,v⟩
    ·have:=a (i+1);rw[List.getElem?_cons_succ]at this;rw[this];congr 1;omega
    ·have:=f (i+1);rw[show k+1+i=k+(i+1) by omega,←this];rfl
   |none,e=>cases e
   |some (.sh _),e=>cases e
   |some (.ow f6 _),e=>cases e
   |some (.ob _ _),e=>cases e
   |some (.rd _),e=>cases e
end
theorem _root_.L2.lV.ay {X:Cx}{E c:Value→Shared→Prop}{st:List Stmt}{t:TS}(h:lV (X.X5 E) st t)(i:∀e s,E e s→c e s):lV (X.X5 c) st t:=λpins s σ H D I d=>
 z9 (h pins s σ H D (I.T3.X5 _) d) (λ_ _ q=>by
  have b:=q.T3;cases ‹Flow› with
  |next=>obtain⟨a,H',I,q⟩:=b;exact⟨a,H',I.X5 _,q⟩
  |brk=>obtain⟨a,H',I,q⟩:=b;exact⟨a,H',I.X5 _,q⟩
  |cont=>obtain⟨a,H',I,q⟩:=b;exact⟨a,H',I.X5 _,q⟩
  |ret u=>obtain⟨v,a,H',I,r,q⟩:=b;exact⟨v,a,H',I.X5 _,r,q⟩) λe s z=>i e s z
section
variable {P:Program}{w:World}{K:PySem.W.Frag}{mg:Str→Option Value}{base:Heap}
theorem M9 {x:Str}{st:Stmt}{f:Addr}{fd:FuncData}{N ps:List Str}{ms:List Bool}{k:Nat}{m:SM}(F:bc K x x st f fd)(S:n2 N ps (j8 st))(B:ms.length=ps.length)
  (l:∀(cdv:Value) (A:Around) (outer:List Env) (s:Shared) (H:Hp) (E:XK) (H0 HK G0:Hp) (L:Nat→Option Addr),O8 k (A.deeper (bW x (j8 st) s.heap.objs.size f cdv))→
   iU (lI V2 P w K mg base N x (j8 st) f cdv A outer s H E) ⟨K,H0,HK,G0,L,f7⟩ (G7 st) m):x5 P w K mg base V2 (k+1) f fd ps (E3 K ms (n8 m N.length ms)):=by
 have u:ps.length≤N.length:=by have:=congrArg List.length S.pre;rw[List.length_take]at this;omega
 refine F.ok S (λvs H Q E h=>?_) (λcdv A outer s H vs Q E hr h=>?_)
 ·obtain⟨G,ds,o,r,_,a,_⟩:=h;rw[a.len.1,B]
 obtain⟨G,ds,o,r,g,a,t,q⟩:=h;refine⟨_,((l cdv A outer s H E H (minus H o) G (S1 ms o) hr).ap λ_ _ _=>False).ay (λe s z=>?_),?_⟩
 ·obtain⟨_,_,_,_,_,_,z⟩:=z;exact z
 have J:=kO (N:=N) g a (by rw[a.len.1,B];exact u);unfold n8 at t;cases hs:m (B3 N.length ms ds)with
 |none=>rw[hs]at t;cases t
 |some y=>
  rw[hs]at t;have c:sI ms y=e9 r:=t;refine⟨G,B3 N.length ms ds,J,y,hs,?_⟩;have fin:∀{ρ':l5} {j:St} {G' H':Hp} {b:List D},bP ms ρ'=e9 b→RS ⟨K,H,minus H o,G,S1 ms o,f7⟩ G' H' j ρ'→After K G H o G' H' b:=λ{ρ' j G' H' b} e R'=>
   ⟨R'.keep,R'.g0,R'.gH,R'.gnew,R'.dom,fb (λ_=>rfl) R' a 0 ρ' b (λi=>by rw[Nat.zero_add]) (λi=>by rw[Nat.zero_add]) e⟩
  cases y with
  |nx ρ'=>
   obtain⟨b,e,rfl⟩:=h9.mp c;exact λj G' H' I R'=>q .v1 G' H' (fin e R') .v1
  |rt O ρ'=>
   cases O with
   |slot i=>cases c
   |val d=>
    obtain⟨b,e,rfl⟩:=h9.mp c;exact λv j G' H' I R' n=>q v G' H' (fin e R') n
   |own d=>
    obtain⟨b,e,rfl⟩:=h9.mp c;exact λv j G' H' I R' n=>q v G' H' (fin e R') (let⟨p,R,T,U,X,_⟩:=n;⟨p,R,T,U,X⟩)
  |ex x ρ'=>
   obtain⟨b,e,rfl⟩:=h9.mp c;exact q.elim
  |bk ρ'=>cases c
  |ct ρ'=>cases c
theorem fZ(hr:O8 k A):A.units+8<C2:=by have:=hr.units;omega
theorem CM(h:∀ns:List Int,ns.length≤63→b [.lst (ns.map D.int)]=e9 (.ret (.val (.bl f8)) [])):∀vs H Q E,yg K vs H Q E→E3 K [f6] b vs H Q E:=by
 rintro vs H Q E ⟨a,ns,rfl,hS,hl,q⟩
 refine⟨H,[.lst (ns.map D.int)],[],_,j6.refl _,.sh (.lst hS (o9.ka (K:=K) (G:=H) ns).len (o9.ka (K:=K) (G:=H) ns).get) .nil,h ns hl,λv G' H' _ r=>?_⟩;cases(show Rep K G' v (.bl f8)from r);exact q H'
end
noncomputable def hW:Nat→D→Bool
 |_,.v1=>f8
 |_,.bl _=>f8
 |_,.int _=>f8
 |_,.str _=>f8
 |_,.ty _=>f8
 |n+1,.tup ds=>ds.all (hW n)
 |_,_=>f6
noncomputable abbrev U1 (d:D):Bool:=hW 6 d
noncomputable def dM:W→Bool
 |.val d=>U1 d
 |.own (.lst ds)=>ds.all U1
 |.own (.dct es)=>es.all λe=>U1 e.2
 |_=>f6
noncomputable def U0:D→Bool
 |.lst ds=>ds.all U1
 |.dct es=>es.all λe=>U1 e.2
 |_=>f6
noncomputable def tq:Option HO→Prop
 |some (.lst _)=>True
 |some (.dK _)=>True
 |_=>False
section
variable {K:PySem.W.Frag}{G H:Hp}{bs:List Addr}
theorem wN(c:∀b∈bs,tq (G b))(h:bz K G a xs):bz K (minus G bs) a xs:=by
 rcases h with(h| ⟨o,h⟩) |h
 ·refine .inl (.inl ?_);rw[V8 λm=>?_]
  ·exact h
  ·have:=c a m;rw[h]at this;exact this
 ·refine .inl (.inr ⟨o,?_⟩);rw[V8 λm=>?_]
  ·exact h
  ·have:=c a m;rw[h]at this;exact this
 ·exact .inr h
theorem Rep.minus:∀(n:Nat) {v:V} {d:D},(∀b∈bs,tq (G b))→hW n d=f8→Rep K G v d→Rep K (minus G bs) v d:=by
 intro n;induction n with
 |zero=>
  intro v d e c h;cases h with
  |v1=>exact .v1
  |bl b=>exact .bl b
  |int b=>exact .int b
  |str b=>exact .str b
  |ty b=>exact .ty b
  |tup _ _ _=>cases c
  |lst _ _ _=>cases c
  |dct _ _ _=>cases c
 |succ n ih=>
  intro v d e c h;cases h with
  |v1=>exact .v1
  |bl b=>exact .bl b
  |int b=>exact .int b
  |str b=>exact .str b
  |ty b=>exact .ty b
  | @tup a xs ds h l r=>
   have f:=List.all_eq_true.mp (show ds.all (hW n)=f8 from c);exact .tup (wN e h) l λj x d a b=>ih e (f d (List.mem_of_getElem? b)) (r j x d a b)
  |lst _ _ _=>cases c
  |dct _ _ _=>cases c
theorem o9.minus{ds:List D}(c:∀b∈bs,tq (G b))(e:ds.all U1=f8)(h:o9 K G xs ds):o9 K (minus G bs) xs ds:=
 ⟨h.len,λj x d a b=>Rep.minus 6 c (List.all_eq_true.mp e d (List.mem_of_getElem? b)) (h.get j x d a b)⟩
theorem l9.minus{ds:List (Key×D)}(c:∀b∈bs,tq (G b))(f:(ds.all λe=>U1 e.2)=f8)(h:l9 K G xs ds):l9 K (minus G bs) xs ds:=
 ⟨h.keys,λj x d a b=>Rep.minus 6 c (List.all_eq_true.mp f d (List.mem_of_getElem? b)) (h.get j x d a b)⟩
theorem B2.minus(a:∀b∈bs,tq (G b))(c:U0 d=f8)(h:B2 K G H p d):B2 K (minus G bs) H p d:=by
 cases d with
 |lst ds=>obtain⟨xs,e,r⟩:=h;exact⟨xs,e,r.minus a c⟩
 |dct es=>obtain⟨xs,e,r⟩:=h;exact⟨xs,e,r.minus a c⟩
 |_=>exact(show False from h).elim
end
noncomputable def P6:List Bool→List W→l5→Option (List D)
 | [],[],_=>e9 []
 |false::ms,w::a,ρ=>match getD w ρ,P6 ms a ρ with
  |some d,e9 ds=>e9 (d::ds)
  |_,_=>f7
 |true::ms,.slot i::a,ρ=>match ρ[i]?,P6 ms a ρ with
  |some (e9 (.ow _ d)),e9 ds=>e9 (d::ds)
  |_,_=>f7
 |_,_,_=>f7
noncomputable def L4:List Bool→List W→List Nat
 |true::ms,.slot i::a=>i::L4 ms a
 |_::ms,_::a=>L4 ms a
 |_,_=>[]
noncomputable def cB (ρ:l5):List Bool→List W→List Nat
 |false::ms,.slot i::a=>match ρ[i]? with
  |some (e9 (.ow _ _))=>i::cB ρ ms a
  |_=>cB ρ ms a
 |_::ms,_::a=>cB ρ ms a
 |_,_=>[]
noncomputable def sv:List Nat→List D→l5→Option l5
 | [],[],ρ=>e9 ρ
 |i::is,d::ds,ρ=>match ρ[i]? with
  |some (e9 (.ow l _))=>sv is ds (ρ.set i (e9 (.ow l d)))
  |_=>f7
 |_,_,_=>f7
noncomputable def fV:List Nat→l5→Option l5
 | [],ρ=>e9 ρ
 |i::is,ρ=>match ρ[i]? with
  |some (e9 (.ow f6 d))=>fV is (ρ.set i (e9 (.sh d)))
  |some (e9 (.sh _))=>fV is ρ
  |_=>f7
noncomputable def pN (a bs:List Nat):Bool:=decide a.Nodup&&a.all λi=>!bs.contains i
noncomputable def vD (ms:List Bool)(c:List D→Option FR)(a:List W):M W:=λρ=>match P6 ms a ρ with
 |none=>f7
 |some ds=>if pN (L4 ms a) (cB ρ ms a)=f8 then match c ds with
  |some (.ret w fin)=>match sv (L4 ms a) fin ρ with
   |none=>f7
   |some b=>if(dM w&&fin.all U0)=f8 then e9 (.ok w b)else(fV (cB ρ ms a) b).map (R'.ok w ·)
  |_=>f7
  else f7
noncomputable def o8 (ms:List Bool)(a:List D→Option FR)(m:M (List W)):M W:=M.bind m λb=>vD ms a b
noncomputable def n4 (σ:St)(is:List Nat):List Addr:=is.filterMap λi=>match σ[i]? with
 |some (e9 (V.ref p))=>e9 p
 |_=>f7
section
variable {B:Bs}{G H:Hp}{σ:St}{ρ:l5}
theorem L9:p∈n4 σ is↔∃i∈is,σ[i]?=e9 (e9 (.ref p)):=by
 unfold n4;rw[List.mem_filterMap];constructor
 ·rintro ⟨i,hi,e⟩
  refine⟨i,hi,?_⟩;split at e
  ·cases e;assumption
  ·cases e
 ·rintro ⟨i,hi,e⟩
  exact⟨i,hi,by rw[e]⟩
noncomputable def plus (G H:Hp)(bs:List Addr):Hp:=λb=>if b∈bs then H b else G b
theorem ab(h:b∈bs):plus G H bs b=H b:=if_pos h
theorem T5(h:b∉bs):plus G H bs b=G b:=if_neg h
theorem fi:∀{ms:List Bool} {ws:List W} {i:Nat},i∈cB ρ ms ws→∃l d,ρ[i]?=e9 (e9 (.ow l d))
 | [],[],i,h=>by cases h
 | [],_::_,i,h=>by cases h
 |true::_,[],i,h=>by cases h
 |false::_,[],i,h=>by cases h
 |true::ms,w::ws,i,h=>by
  have h':i∈cB ρ ms ws:=by cases w<;>exact h
  exact fi h'
 |false::ms,.val _::ws,i,h=>fi (ms:=ms) (ws:=ws) h
 |false::ms,.own _::ws,i,h=>fi (ms:=ms) (ws:=ws) h
 |false::ms,.slot j::ws,i,h=>by
  unfold cB at h;split at h
  ·rename_i l d a;rcases List.mem_cons.mp h with rfl|h
   ·exact⟨l,d,a⟩
   ·exact fi h
  ·exact fi h
theorem args_call (R:RS B G H σ ρ)(g:j6 G (plus G H bs)):∀{ms:List Bool} {b:List W} {vs:List V} {ds:List D},M8 B G H σ ρ vs b→P6 ms b ρ=e9 ds→(∀i∈cB ρ ms b,∀p,σ[i]?=e9 (e9 (.ref p))→p∈bs)→(∀i∈L4 ms b,∀p,σ[i]?=e9 (e9 (.ref p))→p∉bs)→(L4 ms b).Nodup→
  V3 B.K (plus G H bs) H ms vs ds (n4 σ (L4 ms b))
 | [],[],_,ds,q,e,_,_,_=>by cases q;cases e;exact .nil
 | [],_::_,_,_,_,e,_,_,_=>by cases e
 |true::_,[],_,_,_,e,_,_,_=>by cases e
 |false::_,[],_,_,_,e,_,_,_=>by cases e
 |false::ms,w::b,_,ds,q,e,F,hl,nd=>by
  cases q with
  | @cons v _ vs _ h t=>
   unfold P6 at e;cases f:getD w ρ with
   |none=>rw[f]at e;cases e
   |some d=>
    cases n:P6 ms b ρ with
    |none=>rw[f,n]at e;cases e
    |some z=>
     rw[f,n]at e;cases e;have A:L4 (f6::ms) (w::b)=L4 ms b:=by cases w<;>rfl
     rw[A]at hl nd⊢;have L:∀i∈cB ρ ms b,∀p,σ[i]?=e9 (e9 (.ref p))→p∈bs:=λi hi=>F i (by
      cases w with
      |slot j=>
       unfold cB;split
       ·exact List.mem_cons_of_mem _ hi
       ·exact hi
      |val _=>exact hi
      |own _=>exact hi)
     refine .sh ?_ (args_call R g t n L hl nd);rcases h.1.get R f with r| ⟨p,rfl,o⟩
     ·exact r.same g
     ·
      cases w with
      |val _=>cases f;exact Rep.same g h.1
      |own _=>exact absurd (show f6=f8 from h.2) p4
      |slot j=>
       have u:σ[j]?=e9 (e9 (.ref p)):=h.1;have c:∃l s,ρ[j]?=e9 (e9 (.ow l s))∨(∃s,ρ[j]?=e9 (e9 (.sh s)))∨∃es,ρ[j]?=e9 (e9 (.fz es)):=by
        unfold getD at f;simp only[]at f;split at f
        ·rename_i s q;exact⟨f8,s,.inr (.inl ⟨_,q⟩)⟩
        ·rename_i l s q;exact⟨l,s,.inl q⟩
        ·rename_i es q;exact⟨f8,.v1,.inr (.inr ⟨es,q⟩)⟩
        ·cases f
       obtain⟨l,s,c| ⟨I,c⟩ | ⟨es,c⟩⟩:=c
       ·have E:d=s:=by
         unfold getD at f;simp only[c]at f;exact(j7 f).symm
        subst E;have J:p∈bs:=F j (by unfold cB;rw[c];exact List.mem_cons_self) p u;cases d with
        |lst ds=>
         obtain⟨xs,e,r⟩:=o;have x:=r.same g;exact .lst (P7.of (by rw[ab J];exact e)) x.len x.get
        |dct es=>
         obtain⟨xs,e,r⟩:=o;have x:=r.same g;exact .dct (.inl (by rw[ab J];exact e)) x.keys x.get
        |_=>exact(show False from o).elim
       ·obtain⟨v',y,r⟩:=R.sh j I c;rw[u]at y;cases y;have E:d=I:=by
         unfold getD at f;simp only[c]at f;exact(j7 f).symm
        subst E;exact r.same g
       ·obtain⟨a,ob,kvs,y,N,Q⟩:=R.fz j es c;rw[u]at y;cases y;have E:d=.dct es:=by
         unfold getD at f;simp only[c]at f;exact(j7 f).symm
        subst E;have x:=Q.same g;exact .dct (.inr ⟨ob,g _ _ N⟩) x.keys x.get
 |true::ms,.val _::b,_,ds,q,e,_,_,_=>by cases e
 |true::ms,.own _::b,_,ds,q,e,_,_,_=>by cases e
 |true::ms,.slot i::b,_,ds,q,e,F,hl,nd=>by
  cases q with
  | @cons v _ vs _ h t=>
   unfold P6 at e;split at e
   ·rename_i l d z hi n;cases e;have u:σ[i]?=e9 (e9 v):=h.1;obtain⟨p,y,N,Q,q4,X⟩:=R.ow i l d hi;rw[u]at y;cases y;have A:L4 (f8::ms) (.slot i::b)=i::L4 ms b:=rfl;rw[A]at hl nd⊢;obtain⟨S,T⟩:=List.nodup_cons.mp nd;have U:n4 σ (i::L4 ms b)=p::n4 σ (L4 ms b):=by
     unfold n4;rw[List.filterMap_cons,u]
    rw[U];have J:p∉bs:=hl i List.mem_cons_self p u;refine .ln (by rw[T5 J];exact N) (X.same g rfl) (λm=>?_) (args_call R g t n (λj c=>F j c) (λj c=>hl j (List.mem_cons_of_mem _ c)) T);obtain⟨j,c,Y⟩:=L9.mp m;have O:∃l d,ρ[j]?=e9 (e9 (.ow l d)):=by
     clear hl S T nd U m;have key:∀{ms:List Bool} {b:List W} {ds:List D},P6 ms b ρ=e9 ds→∀j∈L4 ms b,∃l d,ρ[j]?=e9 (e9 (.ow l d)):=by
      intro ms;induction ms with
      |nil=>intro b ds e j c;cases b<;>cases c
      |cons m ms ih=>
       intro b ds e j c;cases b with
       |nil=>cases m<;>cases c
       |cons w b=>
        cases m with
        |false=>
         have A:L4 (f6::ms) (w::b)=L4 ms b:=by cases w<;>rfl
         rw[A]at c;unfold P6 at e;split at e
         ·rename_i n;exact ih n j c
         ·cases e
        |true=>
         cases w with
         |val _=>cases e
         |own _=>cases e
         |slot k=>
          unfold P6 at e;split at e
          ·rename_i l d z hk n;rcases List.mem_cons.mp c with rfl|c
           ·exact⟨l,d,hk⟩
           ·exact ih n j c
          ·cases e
     exact key n j c
    obtain⟨Z,I,P⟩:=O;have:=R.inj i j l d Z I p hi P u Y;subst this;exact S c
   ·cases e
theorem qm:∀{is:List Nat} {ds:List D} {ρ ρ':l5},sv is ds ρ=e9 ρ'→is.Nodup→ρ'.length=ρ.length∧(∀i,i∉is→ρ'[i]?=ρ[i]?)∧∀(k i:Nat),is[k]?=e9 i→∃l d o,ρ[i]?=e9 (e9 (.ow l d))∧ds[k]?=e9 o∧ρ'[i]?=e9 (e9 (.ow l o))
 | [],[],ρ,ρ',e,_=>by cases e;exact⟨rfl,λ_ _=>rfl,λk i h=>by simp at h⟩
 | [],_::_,_,_,e,_=>by cases e
 |_::_,[],_,_,e,_=>by cases e
 |i::is,d::ds,ρ,ρ',e,nd=>by
  unfold sv at e;split at e
  ·rename_i l s hi;have g:i<ρ.length:=(List.getElem?_eq_some_iff.mp hi).1;obtain⟨p,t⟩:=List.nodup_cons.mp nd;obtain⟨a,b,c⟩:=qm e t;refine⟨by rw[a];simp,λj q=>?_,λk j hk=>?_⟩
   ·rw[b j λm=>q (List.mem_cons_of_mem _ m),List.getElem?_set_ne λz=>q (by rw[z];exact List.mem_cons_self)]
   ·cases k with
    |zero=>
     simp at hk;subst hk;exact⟨l,s,d,hi,rfl,by rw[b i p,List.getElem?_set_self g]⟩
    |succ k=>
     have f:is[k]?=e9 j:=by simpa using hk
     obtain⟨u,v,w,r,x,y⟩:=c k j f;have n:i≠j:=λz=>p (by rw[z];exact List.mem_of_getElem? f);rw[List.getElem?_set_ne n]at r;exact⟨u,v,w,r,by simpa using x,y⟩
  ·cases e
theorem fU:∀{is:List Nat} {ρ ρ':l5},fV is ρ=e9 ρ'→ρ'.length=ρ.length∧(∀i,i∉is→ρ'[i]?=ρ[i]?)∧∀i∈is,∃d,ρ'[i]?=e9 (e9 (.sh d))∧(ρ[i]?=e9 (e9 (.ow f6 d))∨ρ[i]?=e9 (e9 (.sh d)))
 | [],ρ,ρ',e=>by cases e;exact⟨rfl,λ_ _=>rfl,λi h=>by cases h⟩
 |i::is,ρ,ρ',e=>by
  unfold fV at e;split at e
  ·rename_i d hi;have k:i<ρ.length:=(List.getElem?_eq_some_iff.mp hi).1;obtain⟨a,b,c⟩:=fU e;refine⟨by rw[a];simp,λj f=>?_,λj f=>?_⟩
   ·rw[b j λm=>f (List.mem_cons_of_mem _ m),List.getElem?_set_ne λz=>f (by rw[z];exact List.mem_cons_self)]
   ·by_cases z:i=j
    ·subst z;by_cases m:i∈is
     ·obtain⟨o,l,g⟩:=c i m;rw[List.getElem?_set_self k]at g;rcases g with g|g
      ·cases g
      ·cases g;exact⟨d,l,.inl hi⟩
     ·exact⟨d,by rw[b i m,List.getElem?_set_self k],.inl hi⟩
    ·have n:j∈is:=by rcases List.mem_cons.mp f with h|h;exact absurd h.symm z;exact h
     obtain⟨o,l,g⟩:=c j n;rw[List.getElem?_set_ne z]at g;exact⟨o,l,g⟩
  ·rename_i d hi;obtain⟨a,b,c⟩:=fU e;refine⟨a,λj f=>b j λm=>f (List.mem_cons_of_mem _ m),λj f=>?_⟩;rcases List.mem_cons.mp f with rfl|f
   ·by_cases m:j∈is
    ·exact c j m
    ·exact⟨d,by rw[b j m];exact hi,.inr hi⟩
   ·exact c j f
  ·cases e
theorem nY:∀{is:List Nat} {k i:Nat} {p:Addr},(∀j∈is,∃q,σ[j]?=e9 (e9 (.ref q)))→is[k]?=e9 i→σ[i]?=e9 (e9 (.ref p))→(n4 σ is)[k]?=e9 p
 | [],k,i,p,_,h,_=>by simp at h
 |j::is,k,i,p,a,h,e=>by
  obtain⟨q,b⟩:=a j List.mem_cons_self;have c:n4 σ (j::is)=q::n4 σ is:=by
   unfold n4;rw[List.filterMap_cons,b]
  rw[c];cases k with
  |zero=>
   simp at h;subst h;rw[b]at e;cases e;rfl
  |succ k=>exact nY (λl hl=>a l (List.mem_cons_of_mem _ hl)) (by simpa using h) e
theorem fW {α c:Type}{F:α→c→Prop}:∀{xs:List α} {d:List c} {k:Nat} {x:α} {y:c},Paired F xs d→xs[k]?=e9 x→d[k]?=e9 y→F x y
 |_,_,0,_,_,.cons h _,a,b=>by simp at a b;subst a b;exact h
 |_,_,k+1,_,_,.cons _ t,a,b=>fW (k:=k) t (by simpa using a) (by simpa using b)
 |_,_,_,_,_,.nil,a,_=>by simp at a
theorem FE {p:Addr}{d:D}{K:PySem.W.Frag}(o:B2 K G H p d):tq (H p):=by
 cases d with
 |lst ds=>obtain⟨xs,e,_⟩:=o;rw[e];exact True.intro
 |dct es=>obtain⟨xs,e,_⟩:=o;rw[e];exact True.intro
 |_=>exact(show False from o).elim
theorem dA(R:RS B G H σ ρ)(c0:∀i∈J,∃l d,ρ[i]?=e9 (e9 (.ow l d)))(Y:∀i∈li,∃l d,ρ[i]?=e9 (e9 (.ow l d)))(nd:li.Nodup)(ap:∀i∈li,i∉J)
  (A:After B.K (plus G H (n4 σ J)) H (n4 σ li) G' H' fin) (hs:sv li fin ρ=e9 s) (rr:pS B.K H G' H' v w)
  (b4:((dM w&&fin.all U0)=f8∧S=s)∨fV J s=e9 S):∃Gn,j6 G Gn∧RS B Gn H' σ S∧E2 B Gn H' σ S v w:=by
 have u:∀{i l d},ρ[i]?=e9 (e9 (.ow l d))→∃p,σ[i]?=e9 (e9 (.ref p))∧G p=f7∧B.HK p=f7∧Ji B i l p∧B2 B.K G H p d:=λh=>R.ow _ _ _ h;have c1:∀j∈li,∃q,σ[j]?=e9 (e9 (.ref q)):=λj hj=>by
  obtain⟨l,d,h⟩:=Y j hj;obtain⟨p,q,_⟩:=u h;exact⟨p,q⟩
 have Z:∀{b},b∈n4 σ J→∃i l d,i∈J∧ρ[i]?=e9 (e9 (.ow l d))∧σ[i]?=e9 (e9 (.ref b))∧G b=f7∧B.HK b=f7∧Ji B i l b∧B2 B.K G H b d:=λ{b} hb=>by
  obtain⟨i,hi,e⟩:=L9.mp hb;obtain⟨l,d,h⟩:=c0 i hi;obtain⟨p,n,F,N,P,t⟩:=u h;rw[e]at n;cases n;exact⟨i,l,d,hi,h,e,F,N,P,t⟩
 have lq:∀{b},b∈n4 σ li→∃i l d,i∈li∧ρ[i]?=e9 (e9 (.ow l d))∧σ[i]?=e9 (e9 (.ref b))∧G b=f7∧B.HK b=f7:=λ{b} hb=>by
  obtain⟨i,hi,e⟩:=L9.mp hb;obtain⟨l,d,h⟩:=Y i hi;obtain⟨p,n,F,N,P,t⟩:=u h;rw[e]at n;cases n;exact⟨i,l,d,hi,h,e,F,N⟩
 have s1:j6 G (plus G H (n4 σ J)):=λb o e=>by
  rw[T5 λm=>?_]
  ·exact e
  ·obtain⟨_,_,_,_,_,_,g,_⟩:=Z m;rw[e]at g;cases g
 have s2:j6 G G':=s1.trans A.gg;have a3:∀b∈n4 σ J,tq (G' b):=λb hb=>by
  obtain⟨i,l,d,_,_,_,_,_,_,o⟩:=Z hb;obtain⟨ob,Q⟩:=o.some;have e:=A.gg b ob (by rw[ab hb];exact Q);have z:=FE o;rw[Q]at z;rw[e];exact z
 obtain⟨a9,y,a4⟩:=qm hs nd
 
 have T:∀b o,H b=e9 o→b∉n4 σ li→H' b=e9 o:=λb o e hb=>A.keep b o (by rw[V8 hb];exact e);have a5:j6 B.HK H':=λb o e=>T b o (R.keep b o e) λm=>by
  obtain⟨_,_,_,_,_,_,_,hk⟩:=lq m;rw[e]at hk;cases hk
 have L:∀p,G p=f7→p∉n4 σ J→(∃o,H p=e9 o)→G' p=f7:=λp g nb ⟨o,ho⟩=>by
  cases hg:G' p with
  |none=>rfl
  |some ob=>
   rcases A.gnew p ob hg with z|z
   ·rw[T5 nb,g]at z;cases z
   ·rw[ho]at z;cases z
 
 have U:∀{i},i∈li→∀{l O},s[i]?=e9 (e9 (.ow l O))→∃p,σ[i]?=e9 (e9 (.ref p))∧G' p=f7∧B.HK p=f7∧Ji B i l p∧B2 B.K G' H' p O∧O∈fin:=λ{i} hi {l O} e=>by
  obtain⟨k,hk⟩:=List.getElem?_of_mem hi;obtain⟨l0,d0,d1,e0,I,E⟩:=a4 k i hk;rw[e]at E;cases E;obtain⟨p,n,F,N,P,t⟩:=u e0;have hp:=nY c1 hk n;obtain⟨z1,z2⟩:=fW A.lent hp I;exact⟨p,n,z1,N,P,z2,List.mem_of_getElem? I⟩
 have x:∀{i},i∉li→∀{l O},s[i]?=e9 (e9 (.ow l O))→∃p,σ[i]?=e9 (e9 (.ref p))∧G p=f7∧B.HK p=f7∧Ji B i l p∧B2 B.K G H p O∧H' p=H p∧ρ[i]?=e9 (e9 (.ow l O)):=λ{i} hi {l O} e=>by
  rw[y i hi]at e;obtain⟨p,n,F,N,P,t⟩:=u e;obtain⟨o,ho⟩:=t.some;refine⟨p,n,F,N,P,t,?_,e⟩;rw[ho];refine T p o ho λm=>?_;obtain⟨j,l2,d2,hj,ej,b2,_⟩:=lq m;exact hi (by rw[R.inj i j _ _ _ _ p e ej n b2];exact hj)
 have b5:∀{i:Nat} {O:D},s[i]?=e9 (e9 (C.sh O))→ρ[i]?=e9 (e9 (C.sh O)):=λ{i O} e=>by
  by_cases hi:i∈li
  ·obtain⟨k,hk⟩:=List.getElem?_of_mem hi;obtain⟨l0,d0,d1,e0,I,E⟩:=a4 k i hk;rw[e]at E;cases E
  ·rw[y i hi]at e;exact e
 have b6:∀{i:Nat} {es:List (Key×D)},s[i]?=e9 (e9 (C.fz es))→ρ[i]?=e9 (e9 (C.fz es)):=λ{i es} e=>by
  by_cases hi:i∈li
  ·obtain⟨k,hk⟩:=List.getElem?_of_mem hi;obtain⟨l0,d0,d1,e0,I,E⟩:=a4 k i hk;rw[e]at E;cases E
  ·rw[y i hi]at e;exact e
 have b0:∀{i j:Nat} {l:Bool} {d:D} {k:Bool} {e:D} {p:Addr},s[i]?=e9 (e9 (.ow l d))→s[j]?=e9 (e9 (.ow k e))→σ[i]?=e9 (e9 (.ref p))→σ[j]?=e9 (e9 (.ref p))→i=j:=λ{i j l d k e p} a b c f=>by
  have old:∀{i:Nat} {l:Bool} {d:D},s[i]?=e9 (e9 (.ow l d))→∃l d,ρ[i]?=e9 (e9 (.ow l d)):=λ{i l d} a=>by
   by_cases hi:i∈li
   ·exact Y i hi
   ·rw[y i hi]at a;exact⟨_,_,a⟩
  obtain⟨l1,d1,a1⟩:=old a;obtain⟨l2,d2,a2⟩:=old b;exact R.inj i j l1 d1 l2 d2 p a1 a2 c f
 have b7:∀{i:Nat} {c:C},Gj c=f8→s[i]?=e9 (e9 c)→ρ[i]?=e9 (e9 c):=λ{i c} z e=>by
  by_cases hi:i∈li
  ·obtain⟨k,hk⟩:=List.getElem?_of_mem hi;obtain⟨l0,d0,d1,e0,I,E⟩:=a4 k i hk;rw[e]at E;cases E;cases z
  ·rw[y i hi]at e;exact e
 have b8:∀{i:Nat} {d:D},s[i]?=e9 (e9 (C.ow f8 d))→∃d0,ρ[i]?=e9 (e9 (C.ow f8 d0)):=λ{i d} e=>by
  by_cases hi:i∈li
  ·obtain⟨k,hk⟩:=List.getElem?_of_mem hi;obtain⟨l0,d0,d1,e0,I,E⟩:=a4 k i hk;rw[e]at E;cases E;exact⟨_,e0⟩
  ·rw[y i hi]at e;exact⟨_,e⟩
 have b1:∀p C dx fs,H p=e9 (.ins C dx fs)→H' p=e9 (.ins C dx fs):=λp C dx fs e=>T p _ e λm=>by
  obtain⟨i,hi,E⟩:=L9.mp m;obtain⟨l,d,h⟩:=Y i hi;obtain⟨p',n,_,_,_,t⟩:=u h;rw[E]at n;cases n;exact bj t e rfl
 have a6:∀p C dx fs,H p=e9 (.ins C dx fs)→p∉n4 σ J:=λp C dx fs e m=>by
  obtain⟨i,l,d,_,_,_,_,_,_,o⟩:=Z m;exact bj o e rfl
 rcases b4 with⟨hf,rfl⟩ |c2
 ·
  rw[k9]at hf;obtain⟨fw,ff⟩:=hf;have sN:j6 G (minus G' (n4 σ J)):=λb o e=>by
   rw[V8 λm=>?_]
   ·exact s2 b o e
   ·obtain⟨_,_,_,_,_,_,g,_⟩:=Z m;rw[e]at g;cases g
  refine⟨minus G' (n4 σ J),sN,⟨R.hk,a5,R.g0.trans sN,(N7 _ _).trans A.gH,λb o e=>?_,λb e=>R.dom b (A.dom b e),by rw[a9];exact R.len,λi d e=>?_,λi l d e=>?_,λi j l d k e p a b c f=>b0 a b c f,λi es e=>(R.fz.same sN) i es (b6 e),R.ob.to sN (λp C dx fs e g=>by rw[V8 (a6 p C dx fs e)];exact L p g (a6 p C dx fs e) ⟨_,e⟩) (λp C dx fs e _ _=>b1 p C dx fs e) (λi c z e=>⟨b7 z e,rfl⟩) λj d e=>⟨b8 e,rfl⟩⟩,?_⟩
  ·have e':=N7 _ _ b o e;have nb:b∉n4 σ J:=λm=>by rw[cj m]at e;cases e
   rcases A.gnew b o e' with z|z
   ·rw[T5 nb]at z;exact R.gnew b o z
   ·exact .inr (R.dom b z)
  ·obtain⟨v,n,F⟩:=R.sh i d (b5 e);exact⟨v,n,F.same sN⟩
  ·by_cases hi:i∈li
   ·obtain⟨p,n,F,N,P,t,q6⟩:=U hi e;refine⟨p,n,?_,N,P,t.minus a3 (List.all_eq_true.mp ff d q6)⟩;unfold minus;split
    ·rfl
    ·exact F
   ·obtain⟨p,n,F,N,P,t,q6,q7⟩:=x hi e;refine⟨p,n,?_,N,P,t.same sN q6⟩;unfold minus;split
    ·rfl
    ·exact L p F ‹_› t.some
  ·cases w with
   |val d=>exact Rep.minus 6 a3 fw rr
   |slot i=>exact rr.elim
   |own d=>
    obtain⟨p,rfl,g,h0,o⟩:=rr;have fo:U0 d=f8:=by
     cases d with
     |lst ds=>exact fw
     |dct es=>exact fw
     |_=>exact(show False from o).elim
    refine⟨p,rfl,?_,R.dom p h0,o.minus a3 fo,λi l e he z=>?_⟩
    ·unfold minus;split
     ·rfl
     ·exact g
    ·have hz:∃ob,H p=e9 ob:=by
      by_cases hi:i∈li
      ·obtain⟨l0,d0,a0⟩:=Y i hi;obtain⟨p',n,_,_,_,t⟩:=u a0;rw[z]at n;cases n;exact t.some
      ·obtain⟨p',n,F,N,P,t,_⟩:=x hi he;rw[z]at n;cases n;exact t.some
     obtain⟨ob,Q⟩:=hz;rw[h0]at Q;cases Q
 ·
  obtain⟨b9,X,a7⟩:=fU c2;have a8:∀{i:Nat} {l:Bool} {d:D},S[i]?=e9 (e9 (.ow l d))→i∉J∧s[i]?=e9 (e9 (.ow l d)):=λ{i l d} e=>by
   have hi:i∉J:=λm=>by
    obtain⟨O,I,_⟩:=a7 i m;rw[e]at I;cases I
   exact⟨hi,by rw[←X i hi];exact e⟩
  have c3:∀{i:Nat} {es:List (Key×D)},S[i]?=e9 (e9 (C.fz es))→s[i]?=e9 (e9 (C.fz es)):=λ{i es} e=>by
   have hi:i∉J:=λm=>by
    obtain⟨O,I,_⟩:=a7 i m;rw[e]at I;cases I
   rw[←X i hi];exact e
  have c4:∀{i:Nat} {c:C},Gj c=f8→S[i]?=e9 (e9 c)→s[i]?=e9 (e9 c):=λ{i c} z e=>by
   have hi:i∉J:=λm=>by
    obtain⟨O,I,_⟩:=a7 i m;rw[e]at I;cases I;cases z
   rw[←X i hi];exact e
  refine⟨G',s2,⟨R.hk,a5,R.g0.trans s2,A.gH,λb o e=>?_,λb e=>R.dom b (A.dom b e),by rw[b9,a9];exact R.len,λi d e=>?_,λi l d e=>?_,λi j l d k e p a b c f=>b0 (a8 a).2 (a8 b).2 c f,λi es e=>(R.fz.same s2) i es (b6 (c3 e)),R.ob.to s2 (λp C dx fs e g=>L p g (a6 p C dx fs e) ⟨_,e⟩) (λp C dx fs e _ _=>b1 p C dx fs e) (λi c z e=>⟨b7 z (c4 z e),rfl⟩) λj d e=>⟨b8 (a8 e).2,rfl⟩⟩,?_⟩
  ·rcases A.gnew b o e with z|z
   ·by_cases m:b∈n4 σ J
    ·obtain⟨i,l,d,hi,h,E,g,_,ln,o'⟩:=Z m;obtain⟨O,e3,e4⟩:=a7 i hi;have b3:i∉li:=λmm=>ap i mm hi;rw[y i b3,h]at e4;rcases e4 with e4|e4
     ·cases e4;exact .inr ln
     ·cases e4
    ·rw[T5 m]at z;exact R.gnew b o z
   ·exact .inr (R.dom b z)
  ·by_cases hi:i∈J
   ·obtain⟨O,I,E⟩:=a7 i hi;rw[e]at I;cases I;have b3:i∉li:=λmm=>ap i mm hi;rw[y i b3]at E;rcases E with E|E
    ·obtain⟨p,n,F,N,P,t⟩:=u E;have hp:p∈n4 σ J:=L9.mpr ⟨i,hi,n⟩;refine⟨_,n,?_⟩;cases d with
     |lst ds=>
      obtain⟨xs,e,r⟩:=t;have r':=r.same s2;exact .lst (P7.of (A.gg p _ (by rw[ab hp];exact e))) r'.len r'.get
     |dct es=>
      obtain⟨xs,e,r⟩:=t;have r':=r.same s2;exact .dct (.inl (A.gg p _ (by rw[ab hp];exact e))) r'.keys r'.get
     |_=>exact(show False from t).elim
    ·obtain⟨v,n,F⟩:=R.sh i d E;exact⟨v,n,F.same s2⟩
   ·rw[X i hi]at e;obtain⟨v,n,F⟩:=R.sh i d (b5 e);exact⟨v,n,F.same s2⟩
  ·obtain⟨hb,I⟩:=a8 e;by_cases hi:i∈li
   ·obtain⟨p,n,F,N,P,t,_⟩:=U hi I;exact⟨p,n,F,N,P,t⟩
   ·obtain⟨p,n,F,N,P,t,q6,q7⟩:=x hi I;refine⟨p,n,L p F (λm=>?_) t.some,N,P,t.same s2 q6⟩;obtain⟨j,l2,d2,hj,ej,b2,_⟩:=Z m;exact hb (by rw[R.inj i j _ _ _ _ p q7 ej n b2];exact hj)
  ·cases w with
   |val d=>exact rr
   |slot i=>exact rr.elim
   |own d=>
    obtain⟨p,rfl,g,h0,o⟩:=rr;refine⟨p,rfl,g,R.dom p h0,o,λi l e he z=>?_⟩;obtain⟨hb,I⟩:=a8 he;have hz:∃ob,H p=e9 ob:=by
     by_cases hi:i∈li
     ·obtain⟨l0,d0,a0⟩:=Y i hi;obtain⟨p',n,_,_,_,t⟩:=u a0;rw[z]at n;cases n;exact t.some
     ·obtain⟨p',n,F,N,P,t,_⟩:=x hi I;rw[z]at n;cases n;exact t.some
    obtain⟨ob,Q⟩:=hz;rw[h0]at Q;cases Q
theorem zo:∀{ms:List Bool} {a:List W} {ds:List D},P6 ms a ρ=e9 ds→∀j∈L4 ms a,∃l d,ρ[j]?=e9 (e9 (.ow l d)):=by
 intro ms;induction ms with
 |nil=>intro a ds e j b;cases a<;>cases b
 |cons m ms ih=>
  intro a ds e j b;cases a with
  |nil=>cases m<;>cases b
  |cons w a=>
   cases m with
   |false=>
    have f:L4 (f6::ms) (w::a)=L4 ms a:=by cases w<;>rfl
    rw[f]at b;unfold P6 at e;split at e
    ·rename_i c;exact ih c j b
    ·cases e
   |true=>
    cases w with
    |val _=>cases e
    |own _=>cases e
    |slot k=>
     unfold P6 at e;split at e
     ·rename_i l d g hk c;rcases List.mem_cons.mp b with rfl|b
      ·exact⟨l,d,hk⟩
      ·exact ih c j b
     ·cases e
end
section
variable {X:Cx}{B:Bs}{k:Nat}{x:Str}{ps:List Str}{ms:List Bool}{fm:List D→Option FR}{e:Expr}{es:List Expr}{mr:M (List W)}{p pos:Pos}
theorem BE(t:TD C4 B ξ (o8 ms fm mr) σ H Q):yb (E3 B.K ms fm) [] E0 (TD M8 B ξ mr) σ H Q:=by
 obtain⟨G,ρ,R,t⟩:=t;refine(TD.bind (L8:=M8) R t).mono λvs s ⟨u,a,k,s1,p,X,r,c,N⟩=>?_;rw[List.append_nil];unfold vD at c;cases q:P6 ms k a with
 |none=>simp only[q]at c;cases c
 |some ds=>
  simp only[q]at c;split at c
  ·rename_i f;unfold pN at f;rw[k9]at f;have nd:(L4 ms k).Nodup:=of_decide_eq_true f.1;have ap:∀i∈L4 ms k,i∉cB a ms k:=λi hi m=>by
    have:=List.all_eq_true.mp f.2 i hi;simp at this;exact this m
   split at c
   ·rename_i w fin x;split at c
    ·cases c
    ·rename_i Y hs;have n:=zo q;have g:∀i∈cB a ms k,∃l d,a[i]?=e9 (e9 (.ow l d)):=λi hi=>fi hi;have s2:j6 u (plus u s (n4 σ (cB a ms k))):=λb o e=>by
      rw[T5 λm=>?_]
      ·exact e
      ·obtain⟨i,hi,Z⟩:=L9.mp m;obtain⟨l,d,h⟩:=g i hi;obtain⟨y,O,P,_⟩:=p.ow i l d h;rw[Z]at O;cases O;rw[e]at P;cases P
     have gH:j6 (plus u s (n4 σ (cB a ms k))) s:=λb o e=>by
      by_cases m:b∈n4 σ (cB a ms k)
      ·rw[ab m]at e;exact e
      ·rw[T5 m]at e;exact p.gH b o e
     have A:=args_call p s2 X q (λi hi y e=>L9.mpr ⟨i,hi,e⟩) (λi hi y e m=>by
      obtain⟨j,S,ej⟩:=L9.mp m;obtain⟨l,d,h⟩:=n i hi;obtain⟨l2,d2,h2⟩:=g j S;have:=p.inj i j l d l2 d2 y h h2 e ej;subst this;exact ap i hi S) nd
     refine⟨_,ds,_,_,gH,A,x,λv G' H' T U=>?_⟩;split at c
     ·rename_i z;cases c;obtain⟨E,F,I,J⟩:=dA p g n nd ap T hs U (.inl ⟨z,rfl⟩);exact N v E H' F I J
     ·obtain⟨a0,L,rfl⟩:=h9.mp c;obtain⟨E,F,I,J⟩:=dA p g n nd ap T hs U (.inr L);exact N v E H' F I J
   ·cases c
  ·cases c
theorem p7 (h:eM X.prog X.w X.K X.mg X.base k x ps (E3 X.K ms fm))(hr:O8 k X.A)(d:gl X B (e::es) mr)(f:Gl X x:=by rfl)(g:X.K=B.K:=by rfl)(a:(x==("__debug__":Str))=f6:=by decide)
  (i:h8 (e::es) X.env=(f6,eval e X.env)::h8 es X.env:=by rfl) (b:(m4 pos (h8 es X.env)).any (·.1)=f6:=by rfl):PD X B (.Call (.Name x p) (e::es) [] pos) (o8 ms fm mr):=.mk λξ=>
 (Iq (X:=rz X ξ) h hr (d.ap ξ) f a i b).imp λσ H Q t=>by
  have c:=BE t;rw[←g]at c;exact c
end
noncomputable def GV (X:Cx)(scope:Scope):List (Str×Nat)→Prop
 | []=>True
 |c::r=>(X.N[c.2]?=e9 c.1∧scope.names.lookup c.1=e9 .free∧(X.env.kindOf c.1=e9 .cell∨X.env.kindOf c.1=e9 .free))∧GV X scope r
theorem pF:∀{cs:List (Str×Nat)},GV X scope cs→∀c∈cs,X.N[c.2]?=e9 c.1∧scope.names.lookup c.1=e9 .free∧(X.env.kindOf c.1=e9 .cell∨X.env.kindOf c.1=e9 .free)
 | [],_,c,h=>by cases h
 |c::r,h,a,hm=>by
  rcases List.mem_cons.mp hm with rfl|hm
  ·exact h.1
  ·exact pF h.2 a hm
theorem ba(cs:List (Str×Nat))(f:GV X scope cs)(kind:scope.kind=.function:=by rfl)(h:namesOk scope (cs.map (·.1))=f8:=by decide +kernel)(nd:(x::cs.map (·.1)).Nodup:=by decide +kernel):vL X scope (x::cs.map (·.1)) 1 (cs.map (·.2)):=by
 refine vL.mk' (fs:=cs.map (·.1)) kind h nd (by simp;omega) (λn g=>?_) λi j e=>?_
 ·obtain⟨c,k,rfl⟩:=List.mem_map.mp g;exact(pF f c k).2.2
 ·rw[List.getElem?_map]at e;cases hi:cs[i]? with
  |none=>rw[hi]at e;cases e
  |some c=>
   rw[hi]at e;cases e;obtain⟨a,b,d⟩:=pF f c (List.mem_of_getElem? hi);refine⟨?_,c.1,a,b,d⟩;rw[Nat.add_comm,List.getElem?_cons_succ,List.getElem?_map,hi];exact a.symm
theorem _root_.L2.PE.ay {X:Cx}(h:PE (X.X5 E) e t)(i:∀e s,E e s→a e s):PE (X.X5 a) e t:=λpins s σ H Q I b=>
 z9 (h pins s σ H Q (I.T3.X5 _) b) (λ_ _ ⟨v,H',c,r,q⟩=>⟨v,H',c.T3.X5 _,r,q⟩) λe s z=>i e s z
theorem _root_.L2.PF.ay {X:Cx}(h:PF (X.X5 E) e t)(i:∀e s,E e s→a e s):PF (X.X5 a) e t:=λpins s σ H Q I b=>
 z9 (h pins s σ H Q (I.T3.X5 _) b) (λ_ _ ⟨H',c,q⟩=>⟨H',c.T3.X5 _,q⟩) λe s z=>i e s z
theorem _root_.L2.PF.imp(h:PF X e t)(i:∀σ H Q,a σ H Q→t σ H Q):PF X e a:=λpins s σ H Q I q=>h pins s σ H Q I (i σ H Q q)
structure JO (X:Cx) (B:Bs) (e:List Expr) (m:M Bool):Prop where
 ap:∀ξ,PF (rz X ξ) e (TD cT B ξ m)
noncomputable def F5:M Bool:=M.pure f8
theorem V1:JO X B [] F5:=.mk λξ=>(Fv (X:=rz X ξ)).imp λσ H Q t=>by
 obtain⟨G,ρ,R,r,e,p⟩:=t;cases e;exact p f8 G H (j6.refl _) R rfl
theorem vk(h:lW X B c m):JO X B [c] m:=.mk λξ=>Fu (h.ap ξ)
noncomputable def KR:Option C→Option C
 |some (.ow _ d)=>e9 (.sh d)
 |some (.ob _ fds)=>e9 (.rd fds)
 |c=>c
noncomputable def Z1 (own:Nat)(fr:List Nat)(ρ:l5):l5:=List.replicate own f7++fr.map λj=>KR (ρ[j]?).join
noncomputable def compTurn (tg:FT)(mt:M Bool)(c:M W)(ρ:l5)(d:D):Option (Option D):=match tg d ρ with
 |none=>f7
 |some a=>match mt a with
  |some (.ok f6 _)=>e9 f7
  |some (.ok f8 b)=>match M.bind c D8 b with
   |some (.ok y _)=>e9 (e9 y)
   |_=>f7
  |_=>f7
noncomputable def C1 (tg:FT)(mt:M Bool)(b:M W)(ρ:l5):List D→Option (List D)
 | []=>e9 []
 |d::ds=>match compTurn tg mt b ρ d,C1 tg mt b ρ ds with
  |some (e9 y),e9 a=>e9 (y::a)
  |some f7,e9 a=>e9 a
  |_,_=>f7
noncomputable def fy (ρ:l5)(fr:List Nat):List Nat:=fr.filter λj=>match ρ[j]? with
 |some (e9 (.ow _ _))=>f8
 |_=>f6
noncomputable def AB (tg:FT)(mt:M Bool)(b:M W)(own:Nat)(fr:List Nat)(ds:List D):M W:=λρ=>match C1 tg mt b (Z1 own fr ρ) ds with
 |none=>f7
 |some a=>dL (small ds.length) (if a.all U1=f8 then e9 (.ok (.own (.lst a)) ρ)else(fV (fy ρ fr) ρ).map (R'.ok (.own (.lst a)) ·))
noncomputable def B9 (a:M (List D))(tg:FT)(mt:M Bool)(b:M W)(own:Nat)(fr:List Nat):M W:=M.bind a λds=>AB tg mt b own fr ds
theorem AJ(h:i∈fy ρ fr):i∈fr∧∃l d,ρ[i]?=e9 (e9 (.ow l d)):=by
 unfold fy at h;obtain⟨b,a⟩:=List.mem_filter.mp h;refine⟨b,?_⟩;split at a
 ·exact⟨_,_,‹_›⟩
 ·cases a
section
variable {B:Bs}{G H:Hp}{σ:St}{ρ:l5}{own:Nat}{fr:List Nat}
theorem ao(h:(Z1 own fr ρ)[i]?=e9 (e9 c)):∃k j,i=own+k∧fr[k]?=e9 j∧((∃d,c=.sh d∧(ρ[j]?=e9 (e9 (.sh d))∨∃l,ρ[j]?=e9 (e9 (.ow l d))))∨(∃es,c=.fz es∧ρ[j]?=e9 (e9 (.fz es)))∨∃fds,c=.rd fds∧(ρ[j]?=e9 (e9 (.rd fds))∨∃l,ρ[j]?=e9 (e9 (.ob l fds)))):=by
 unfold Z1 at h;by_cases hi:i<own
 ·rw[List.getElem?_append_left (by simpa using hi),List.getElem?_replicate,if_pos hi]at h;cases h
 ·rw[List.getElem?_append_right (by simpa using hi)]at h;simp only[List.length_replicate,List.getElem?_map]at h;cases e:fr[i-own]? with
  |none=>rw[e]at h;cases h
  |some j=>
   rw[e]at h;simp only[t6,fP]at h;refine⟨i-own,j,by omega,e,?_⟩;cases q:ρ[j]? with
   |none=>rw[q]at h;cases h
   |some o=>
    rw[q]at h;cases o with
    |none=>cases h
    |some a=>
     cases a with
     |sh d=>cases h;exact .inl ⟨d,rfl,.inl rfl⟩
     |ow l d=>cases h;exact .inl ⟨d,rfl,.inr ⟨l,rfl⟩⟩
     |fz es=>cases h;exact .inr (.inl ⟨es,rfl,rfl⟩)
     |ob l fds=>cases h;exact .inr (.inr ⟨fds,rfl,.inr ⟨l,rfl⟩⟩)
     |rd fds=>cases h;exact .inr (.inr ⟨fds,rfl,.inl rfl⟩)
theorem gJ(h:fr[k]?=e9 j)(e:σ[j]?=e9 (e9 v)):(seen own fr σ)[own+k]?=e9 (e9 v):=by
 unfold L2.seen;rw[List.getElem?_append_right (by simp)];simp only[List.length_replicate,List.getElem?_map,Nat.add_sub_cancel_left,h,t6,e];rfl
theorem yy(R:RS B G c σ ρ)(sg:j6 (plus G c (n4 σ (fy ρ fr))) u)(J:j6 u t)(kp:j6 c t)(gnew:∀p o,u p=e9 o→plus G c (n4 σ (fy ρ fr)) p=e9 o∨c p=f7)(dom:∀p,t p=f7→c p=f7)(s0:j6 G (plus G c (n4 σ (fy ρ fr)))):
  RS ⟨B.K,c,c,plus G c (n4 σ (fy ρ fr)),λ_=>f7,B.O⟩ u t (seen own fr σ) (Z1 own fr ρ):=by
 refine⟨j6.refl _,kp,sg,J,gnew,dom,?_,λi d e=>?_,λi l d e=>?_,λi j l d k e p a b=>?_,λi es e=>?_,λi l fds e=>?_,λi fds e=>?_⟩
 ·rw[L2.seen_length];unfold Z1;simp
 ·obtain⟨k,j,rfl,hk,⟨m,q,h⟩ | ⟨_,q,_⟩ | ⟨_,q,_⟩⟩:=ao e<;>cases q
  rcases h with h| ⟨l,h⟩
  ·obtain⟨v,g,w⟩:=R.sh j d h;exact⟨v,gJ hk g,(w.same s0).same sg⟩
  ·obtain⟨p,g,w,E,Q,x⟩:=R.ow j l d h;have F:p∈n4 σ (fy ρ fr):=L9.mpr ⟨j,List.mem_filter.mpr ⟨List.mem_of_getElem? hk,by rw[h]⟩,g⟩;refine⟨_,gJ hk g,?_⟩;cases d with
   |lst ds=>
    obtain⟨xs,e,r⟩:=x;have n:=(r.same s0).same sg;exact .lst (P7.of (sg p _ (by rw[ab F];exact e))) n.len n.get
   |dct es=>
    obtain⟨xs,e,r⟩:=x;have n:=(r.same s0).same sg;exact .dct (.inl (sg p _ (by rw[ab F];exact e))) n.keys n.get
   |_=>exact(show False from x).elim
 ·obtain⟨k,j,rfl,hk,⟨m,q,h⟩ | ⟨_,q,_⟩ | ⟨_,q,_⟩⟩:=ao e<;>cases q
 ·obtain⟨k,j,rfl,hk,⟨m,q,h⟩ | ⟨_,q,_⟩ | ⟨_,q,_⟩⟩:=ao a<;>cases q
 ·obtain⟨k,j,rfl,hk,⟨m,q,h⟩ | ⟨s,q,h⟩ | ⟨f,q,h⟩⟩:=ao e<;>cases q
  obtain⟨a,o,kvs,g,w,E⟩:=R.fz j es h;exact⟨a,o,kvs,gJ hk g,sg _ _ (s0 _ _ w),(E.same s0).same sg⟩
 ·obtain⟨k,j,rfl,hk,⟨m,q,h⟩ | ⟨s,q,h⟩ | ⟨f,q,h⟩⟩:=ao e<;>cases q
 ·obtain⟨k,j,rfl,hk,⟨m,q,h⟩ | ⟨s,q,h⟩ | ⟨f,q,h⟩⟩:=ao e<;>cases q
  rcases h with h| ⟨l,h⟩
  ·obtain⟨L,y,C,p,dx,fs,z,A,H,I⟩:=R.ob.2 j fds h;exact⟨L,y,C,p,dx,fs,z,gJ hk A,R.keep _ _ H,(I.same s0).same sg⟩
  ·obtain⟨y,C,p,dx,fs,z,A,H,I,S,N,P,T⟩:=R.ob.1 j l fds h;exact⟨j,y,C,p,dx,fs,z,gJ hk A,N,(P.same s0).same sg⟩
end
noncomputable abbrev X0:XP:=λ_ _ _=>False
section
variable {X:Cx}{B:Bs}{mi:M (List D)}{mt:M Bool}{me:M W}{own:Nat}{fr:List Nat}
theorem qf(hf:∀T,T.K=B.K∧T.O=B.O→∀σ H Q,TD cT T X0 mt σ H Q→tf σ H Q)(he:∀T,T.K=B.K∧T.O=B.O→∀σ H Q,TD C4 T X0 me σ H Q→te σ H Q)(t:TD C4 B ξ (B9 mi (y7 0) mt me 1 fr) σ H Q):
  mS (Lf B ξ mi) (js 0) tf te 1 fr σ H Q:=by
 obtain⟨G,ρ,R,r,e,pq⟩:=t;unfold B9 at e;cases Z:mi ρ with
 |none=>rw[M.bind_none Z]at e;cases e
 |some r1=>
  cases r1 with
  |ex x a=>
   rw[M.dB Z]at e;cases e;exact⟨G,ρ,_,R,Z,pq⟩
  |ok ds a=>
   rw[M.j9 Z]at e;refine⟨G,ρ,_,R,Z,λJ G1 g s1 R1 gv=>?_⟩;unfold AB at e;cases hc:C1 (y7 0) mt me (Z1 1 fr a) ds with
   |none=>rw[hc]at e;cases e
   |some ys=>
    rw[hc]at e;simp only[]at e;obtain⟨hz,e⟩:=p5 e;have U:∀i∈fy a fr,∃l d,a[i]?=e9 (e9 (.ow l d)):=λi hi=>(AJ hi).2;have s0:j6 G1 (plus G1 g (n4 σ (fy a fr))):=λb o e=>by
     rw[T5 λm=>?_]
     ·exact e
     ·obtain⟨i,hi,e2⟩:=L9.mp m;obtain⟨l,d,h⟩:=U i hi;obtain⟨p',I,L,_⟩:=R1.ow i l d h;rw[e2]at I;cases I;rw[e]at L;cases L
    have a0:j6 (plus G1 g (n4 σ (fy a fr))) g:=λb o e=>by
     by_cases m:b∈n4 σ (fy a fr)
     ·rw[ab m]at e;exact e
     ·rw[T5 m]at e;exact R1.gH b o e
    generalize b0:plus G1 g (n4 σ (fy a fr))=S at s0 a0;refine⟨λi m Y u=>∃n c f,m=ds.length-i∧i≤ds.length∧j6 S n∧j6 n u∧j6 g u∧(∀p o,n p=e9 o→S p=e9 o∨g p=f7)∧(∀p,u p=f7→g p=f7)∧o9 B.K n Y c∧c.length≤i∧C1 (y7 0) mt me (Z1 1 fr a) (ds.drop i)=e9 f∧c++f=ys,
     ⟨ds.length,S,[],ys,by simp,Nat.zero_le _,j6.refl _,a0,j6.refl _,λp o e=>.inl e,λp e=>e,.nil,Nat.le_refl _,by simpa using hc,rfl⟩,?_⟩
    rintro i m Y u ⟨n,c,f,rfl,hle,I,L,a3,a4,a5,a6,a7,a8,a9⟩
    by_cases E:i<ds.length
    ·have ed:ds.drop i=ds[i]::ds.drop (i+1):=List.drop_eq_getElem_cons E;rw[ed]at a8;unfold C1 at a8;cases j:compTurn (y7 0) mt me (Z1 1 fr a) ds[i]with
     |none=>rw[j]at a8;cases a8
     |some oy=>
      cases hr:C1 (y7 0) mt me (Z1 1 fr a) (ds.drop (i+1))with
      |none=>rw[j,hr]at a8;cases oy<;>cases a8
      |some s=>
       rw[j,hr]at a8;refine .inr ⟨gv.go n u i (s0.trans I) L E,?_,λc0 H'=>∃n c f,j6 S n∧j6 n H'∧j6 g H'∧(∀p o,n p=e9 o→S p=e9 o∨g p=f7)∧(∀p,H' p=f7→g p=f7)∧o9 B.K n c0 c∧c.length≤i+1∧C1 (y7 0) mt me (Z1 1 fr a) (ds.drop (i+1))=e9 f∧c++f=ys,
        λc0 H' ⟨c2,c1,s,b1,b2,b3,b4,b5,b6,b7,b8,b9⟩=>⟨ds.length-(i+1),by omega,c2,c1,s,rfl,E,b1,b2,b3,b4,b5,b6,b7,b8,b9⟩,λx H' y=>?_⟩
       ·rw[a6.len,v0];unfold small at hz;omega
       obtain⟨rfl,d,hd,rx⟩:=gv.yld n u H' i x (s0.trans I) L E y;have c3:d=ds[i]:=by
        rw[List.getElem?_eq_getElem E]at hd;exact(j7 hd).symm
       subst c3;have Rb:RS ⟨B.K,g,g,S,λ_=>f7,B.O⟩ n H' (seen 1 fr σ) (Z1 1 fr a):=by
        subst b0;exact yy R1 I L a3 a4 a5 s0
       unfold compTurn at j;cases hg:y7 0 ds[i] (Z1 1 fr a)with
       |none=>rw[hg]at j;cases j
       |some d0=>
        rw[hg]at j;simp only[]at j;have N:=hg;unfold y7 at N;split at N
        ·rename_i c4;cases N;have c5:=Rb.uA c4 rx;show tf ((seen 1 fr σ).set 0 (e9 x)) H' _;refine hf ⟨B.K,g,g,S,λ_=>f7,B.O⟩ ⟨rfl,rfl⟩ _ _ _ ⟨n,_,c5,?_⟩;cases X:mt ((Z1 1 fr a).set 0 (e9 (.sh ds[i])))with
         |none=>rw[X]at j;cases j
         |some r3=>
          rw[X]at j;cases r3 with
          |ex x' F=>cases j
          |ok k F=>
           refine⟨_,X,λk' G3 H3 s3 R3 qk=>?_⟩;cases(show k'=k from qk);cases k with
           |false=>
            cases j;cases a8;rw[if_neg p4];exact⟨G3,c,f,I.trans s3,R3.gH,R3.keep,R3.gnew,R3.dom,a6.same s3,by omega,hr,a9⟩
           |true=>
            rw[if_pos rfl];simp only[]at j;cases q:M.bind me D8 F with
            |none=>rw[q]at j;cases j
            |some r4=>
             rw[q]at j;cases r4 with
             |ex x' c6=>cases j
             |ok y' c6=>
              cases j;cases a8;cases P:me F with
              |none=>rw[M.bind_none P]at q;cases q
              |some r5=>
               cases r5 with
               |ex x' c7=>rw[M.dB P]at q;cases q
               |ok w c7=>
                rw[M.j9 P]at q;refine he ⟨B.K,g,g,S,λ_=>f7,B.O⟩ ⟨rfl,rfl⟩ _ _ _ ⟨G3,F,R3,_,P,λv G5 H5 s5 R5 q5=>?_⟩;obtain⟨G6,s6,R6,r6⟩:=q5.D8 R5 q;have sa:=(s3.trans s5).trans s6;exact⟨G6,c++[y'],s,I.trans sa,R6.gH,R6.keep,R6.gnew,R6.dom,(a6.same sa).append (.one r6),by rw[List.length_append];show c.length+1≤i+1;omega,hr,by rw[List.append_assoc];exact a9⟩
        ·cases N
    ·have ei:i=ds.length:=by omega
     subst ei;rw[List.drop_length]at a8;cases a8;rw[List.append_nil]at a9;subst a9;refine .inl ⟨gv.stop n u (s0.trans I) L,λp hp=>?_⟩;have gp:n p=f7:=L.free hp;have sH:j6 u (upd u p (.lst Y)):=aE hp _;have A:After B.K (plus G1 g (n4 σ (fy a fr))) g (n4 σ []) n (upd u p (.lst Y)) []:=by
      rw[b0];refine⟨λb o e=>sH b o (a3 b o (N7 _ _ b o e)),I,L.trans sH,a4,λb e=>?_,.nil⟩;by_cases z:b=p
      ·subst z;exact a5 _ hp
      ·rw[k0 z]at e;exact a5 b e
     have rr:pS B.K g n (upd u p (.lst Y)) (.ref p) (.own (.lst c)):=⟨p,rfl,gp,a5 p hp,Y,m3,a6⟩
     split at e
     ·rename_i c8;cases e;obtain⟨Gn,sn,Rn,wn⟩:=dA (li:=[]) R1 U (λi h=>by cases h) List.nodup_nil (λi h=>by cases h) A rfl rr (.inl ⟨by rw[List.all_nil,Z6];exact c8,rfl⟩);exact pq _ Gn _ (s1.trans sn) Rn wn
     ·obtain⟨F,c9,rfl⟩:=h9.mp e;obtain⟨Gn,sn,Rn,wn⟩:=dA (li:=[]) R1 U (λi h=>by cases h) List.nodup_nil (λi h=>by cases h) A rfl rr (.inr c9);exact pq _ Gn _ (s1.trans sn) Rn wn
variable {x:Str}{px pos:Pos}{M':List Str}{scope:Scope}{iter nZ:Expr}{mL:List Expr}
theorem JA:∀e s,XE Y X0 e s→False:=λe s ⟨_,_,_,_,_,_,h⟩=>h
theorem O0 (Bk:vL X scope (x::M') 1 fr)(hi:DF X B (.Name x px) iter mi)(h:∀cl C s H ex H0 HK G0 L,JO (X.fO scope cl C (x::M') s H ex) ⟨B.K,H0,HK,G0,L,B.O⟩ mL mt)(i:∀cl C s H ex H0 HK G0 L,PD (X.fO scope cl C (x::M') s H ex) ⟨B.K,H0,HK,G0,L,B.O⟩ nZ me)
  (j:X.calm=f8:=by rfl) (k:scope.names.lookup x=e9 .local∨scope.names.lookup x=e9 .cell:=by first|exact .inl rfl|exact .inr rfl) (hs:∀x,foldedSetIterable iter X.env x=pure x:=by intro _;rfl):PD X B (.ListComp nZ [⟨.Name x px,iter,mL,0⟩] scope pos) (B9 mi (y7 0) mt me 1 fr):=.mk λξ=>by
 have d:vL (rz X ξ) scope (x::M') 1 fr:=⟨Bk.kind,Bk.cells,Bk.names,Bk.free,Bk.nd,Bk.len,Bk.at'⟩
 refine(Io (X:=rz X ξ) (tf:=λσ H Q=>∃a,(a.K=B.K∧a.O=B.O)∧TD cT a X0 mt σ H Q) (te:=λσ H Q=>∃a,(a.K=B.K∧a.O=B.O)∧TD C4 a X0 me σ H Q) d (hi.ap ξ) (λcl C s H ex=>?_) (λcl C s H ex=>?_) j k hs).imp λσ H Q t=>qf (λa b σ H Q t=>⟨a,b,t⟩) (λa b σ H Q t=>⟨a,b,t⟩) t
 ·intro pins e c H' Q I ⟨a,b,t⟩;obtain⟨f,g,hk,g0,l,ob⟩:=a;cases(show f=B.K from b.1);cases(show ob=B.O from b.2);exact PF.ay (X:=X.fO scope cl C (x::M') s H ex) ((h cl C s H ex g hk g0 l).ap X0) JA pins e c H' Q I t
 ·intro pins e c H' Q I ⟨a,b,t⟩;obtain⟨f,g,hk,g0,l,ob⟩:=a;cases(show f=B.K from b.1);cases(show ob=B.O from b.2);exact PE.ay (X:=X.fO scope cl C (x::M') s H ex) ((i cl C s H ex g hk g0 l).ap X0) JA pins e c H' Q I t
theorem kJ{n c:Pos}(Bk:vL X scope (x::M') 1 fr)(o:X.N.Nodup)(hi:DF X B (.Name x px) iter mi)(q:∀cl C s H ex H0 HK G0 L,JO (X.fO scope cl C (x::M') s H ex) ⟨B.K,H0,HK,G0,L,B.O⟩ mL mt)(u:∀cl C s H ex H0 HK G0 L,PD (X.fO scope cl C (x::M') s H ex) ⟨B.K,H0,HK,G0,L,B.O⟩ nZ me)
  (z:X.N[i]?=e9 y:=by rfl) (g:X.env.kindOf y=e9 .local:=by rfl) (A:X.calm=f8:=by rfl) (E:scope.names.lookup x=e9 .local∨scope.names.lookup x=e9 .cell:=by first|exact .inl rfl|exact .inr rfl)
  (h:T2 (.ListComp nZ [⟨.Name x px,iter,mL,0⟩] scope pos) (e9 (.Name y n)) c.line X.env=pure f8:=by with_unfolding_all rfl)
  (hs:∀x,foldedSetIterable iter X.env x=pure x:=by intro _;rfl):se X B (.Assign [.Name y n] (.ListComp nZ [⟨.Name x px,iter,mL,0⟩] scope pos) c) (n5 i (B9 mi (y7 0) mt me 1 fr)):=.mk λξ=>by
 have j:vL (rz X ξ) scope (x::M') 1 fr:=⟨Bk.kind,Bk.cells,Bk.names,Bk.free,Bk.nd,Bk.len,Bk.at'⟩
 refine(Ik (X:=rz X ξ) (tf:=λσ H Q=>∃a,(a.K=B.K∧a.O=B.O)∧TD cT a X0 mt σ H Q) (te:=λσ H Q=>∃a,(a.K=B.K∧a.O=B.O)∧TD C4 a X0 me σ H Q) j o (hi.ap ξ) (λcl C s H ex=>?_) (λcl C s H ex=>?_) z g A E h hs).imp λT σ H t=>?_
 ·intro pins f d H' Q I ⟨a,b,t⟩;obtain⟨k,m,hk,g0,l,ob⟩:=a;cases(show k=B.K from b.1);cases(show ob=B.O from b.2);exact PF.ay (X:=X.fO scope cl C (x::M') s H ex) ((q cl C s H ex m hk g0 l).ap X0) JA pins f d H' Q I t
 ·intro pins f d H' Q I ⟨a,b,t⟩;obtain⟨k,m,hk,g0,l,ob⟩:=a;cases(show k=B.K from b.1);cases(show ob=B.O from b.2);exact PE.ay (X:=X.fO scope cl C (x::M') s H ex) ((u cl C s H ex m hk g0 l).ap X0) JA pins f d H' Q I t
 ·obtain⟨G,ρ,R,t⟩:=t;refine qf (λa b σ H Q t=>⟨a,b,t⟩) (λa b σ H Q t=>⟨a,b,t⟩) ((SD.step (L8:=C4) R t).mono λv F ⟨U,J,w,s1,P,S,r,e,p⟩=>?_);obtain⟨ρ',G',rfl,f,R'⟩:=iA P S e;exact p _ G' F f R'
end
noncomputable def Ef:D→D→Option W
 |.dct es,k=>(keyOf k).map λk=>W.val ((K5 es k).getD .v1)
 |_,_=>f7
noncomputable def qN (a b:M W):M W:=M.bind (L1 a) λx=>M.bind (rZ "dict" x) λ_=>M.bind b λy=>FM Ef x y
section
variable {X:Cx}{B:Bs}{o e f value:Expr}{mo me mf mv:M W}{mr:M (List W)}{apos cpos pos dC:Pos}
theorem zZ {K:PySem.W.Frag}{G:Hp}{kvs:List (Key×V)}{es:List (Key×D)}{k:Key}{z:V}{c:D}(r:l9 K G kvs es)(f:Rep K G z c):Rep K G ((aW kvs k).getD z) ((K5 es k).getD c):=by
 obtain⟨a,b⟩:=r.val k;cases hd:K5 es k with
 |none=>rw[b hd];exact f
 |some d=>
  obtain⟨v,e,g⟩:=a d hd;rw[e];exact g
theorem tT (hu:X.A.units+8<C2)(v:PD X B o mo)(z:PD X B e me)(m:M1 X o "get" apos e cpos:=by exact⟨rfl,rfl,rfl,rfl⟩):PD X B (.Call (.Attribute o "get" apos) [e] [] cpos) (qN mo me):=.mk λξ=>
 (yV (X:=rz X ξ) (show X.A.units+1<C2 by omega) (v.ap ξ) (z.ap ξ) ⟨m.base,m.few,m.line,m.trees⟩).imp λσ H Q t=>by
  obtain⟨G,ρ,R,t⟩:=t;have E:TD gT B ξ (L1 mo) σ H _:=TD.bind (L8:=gT) R t;refine TD.L1 (E.mono λx H1 ⟨G1,F,I,s1,c,⟨j,f⟩,J⟩=>?_);obtain⟨u,b,L,N⟩:=J.step λr h=>⟨(),_,(bU h).1⟩;obtain⟨O,d,hd,ty⟩:=bU L;cases O;cases d<;>first| (cases ty;done) | (exact absurd ty (by decide)) |skip
  obtain⟨a,kvs,rfl,P,r1⟩:=(j.get c hd).dct c.gH;refine⟨a,rfl,.inl ⟨kvs,P⟩,?_⟩;refine(TD.bind (L8:=C4) c N).mono λy l ⟨n,b,wb,s2,R2,S,T⟩=>?_;obtain⟨dx,dy,w,U,Y,q,p⟩:=uI T;have Z:=(j.keep s2 f:E2 B n l σ b _ I).get R2 U;cases dx<;>first| (cases q;done) |skip
  obtain⟨k,hk,rfl⟩:=h9.mp q;obtain⟨a',s,ea,g,i⟩:=Z.dct R2.gH;cases ea;have hv:=cY (S.get R2 Y) hk;subst hv;exact⟨_,dS.r g,p _ n l (j6.refl _) R2 (zZ i .v1)⟩
end
noncomputable def cg (i:Nat)(k d:D):SM:=λρ=>match ρ[i]? with
 |some (e9 (.ow l (.dct es)))=>match keyOf k with
  |some k=>dL (small es.length) (e9 (.nx (ρ.set i (e9 (.ow l (.dct (putD es k d)))))))
  |none=>f7
 |some (e9 (.ow l (.lst ds)))=>match k with
  |.int j=>match wU ds.length j with
   |some n=>e9 (.nx (ρ.set i (e9 (.ow l (.lst (ds.set n d))))))
   |none=>f7
  |_=>f7
 |_=>f7
noncomputable def wp (a:M W)(i:Nat)(b mk:M W):SM:=E4 (L1 b) λc=>E4 a λ_=>E4 mk λe=>E4 (D8 c) λd ρ=>match getD e ρ with
 |some k=>cg i k d ρ
 |none=>f7
noncomputable abbrev dR (i:Nat)(a mk:M W):SM:=wp (h7 i) i a mk
def vJ (i:Nat)(a:M W):Prop:=∀ρ w ρ',a ρ=e9 (.ok w ρ')→w=.slot i∧ρ'=ρ
theorem mX:vJ i (h7 i):=λ_ _ _ h=>ey h
theorem set_dict {X:Cx}(f:X.A.units+8<C2):uf X (λo i v H Q=>∃a H',o=.ref a∧AY H a i v H'∧Q H'):=by
 intro pins s σ H o i v j k u Q I b c d h;obtain⟨a,H',rfl,g,q⟩:=h;cases b;exact xz (by omega) I g c d λl e=>⟨H',e,q⟩
theorem _root_.L2.uf.or(h:uf X t)(h':uf X a):uf X (λo i v H Q=>t o i v H Q∨a o i v H Q):=by
 intro pins s σ H o i v b c u Q I d e f q;rcases q with q|q
 ·exact h pins s σ H o i v b c u Q I d e f q
 ·exact h' pins s σ H o i v b c u Q I d e f q
section
variable {X:Cx}{B:Bs}{ξ:XP}{G H:Hp}{σ:St}{ρ:l5}{Dn:Ends}{o e value:Expr}{mo me mv:M W}{pos dC:Pos}
theorem SD.HW(R:RS B G H σ ρ)(t:pR B ξ G ρ (E4 (L1 m) f) Dn):TD C4 B ξ m σ H (λv d=>∃c b a,j6 G c∧RS B c d σ b∧(E2 B c d σ b v a∧DS a=f8)∧pR B ξ c b (f a) Dn):=
 TD.L1 (SD.step (L8:=gT) R t)
theorem SD.quiet {α:Type}{m:M α}{f:α→SM}(t:pR B ξ G ρ (E4 m f) Dn)(b:∀r,m ρ=e9 r→∃a ρ',r=.ok a ρ'):∃a ρ',m ρ=e9 (.ok a ρ')∧pR B ξ G ρ' (f a) Dn:=by
 obtain⟨r,e,p⟩:=t;unfold E4 at e;cases hr:m ρ with
 |none=>rw[hr]at e;cases e
 |some c=>
  obtain⟨a,ρ',rfl⟩:=b c hr;rw[hr]at e;exact⟨a,ρ',rfl,r,e,p⟩
theorem cb (i:Nat)(Y:X.A.units+8<C2)(Z:PD X B value mv)(ho:PD X B o mo)(hi:PD X B e me)(hm:vJ i mo:=by exact mX)(hs:MS [.Subscript o e dC] value pos.line X.env=pure f6:=by rfl)(hw:MT [.Subscript o e dC] value X.env=pure f7:=by rfl)
  (h1:(assignEach [.Subscript o e dC] X.env).map (·.2)=[lX (.Subscript o e dC) X.env]:=by rfl)
  (ha:∀v,lX (.Subscript o e dC) X.env v=(do
   let s←W4 [v] (eval o X.env)
   let F←W4 [v,s] (eval e X.env)
   uj dC
   W4 [v,s,F] (Jv s F v)
   release [v,s,F] []):=by intro _;rfl):se X B (.Assign [.Subscript o e dC] value pos) (wp mo i mv me):=.mk λξ=>
 (Fp (X:=rz X ξ) (Z.ap ξ) (Ft (X:=rz X ξ) (ho.ap ξ) (hi.ap ξ) (set_list.or (set_dict Y)) ha) hs hw h1).imp λDn σ H t=>by
  obtain⟨G,ρ,R,t⟩:=t;refine(SD.HW R t).mono λv H1 ⟨G1,a0,wv,s1,R1,⟨q1,I⟩,t2⟩=>?_;refine(SD.HX (L8:=C4) R1 t2).mono λx H2 ⟨G2,a1,wo,a,s2,R2,q2,t3⟩=>?_;obtain⟨rfl,rfl⟩:=hm _ _ _ a;have u:σ[i]?=e9 (e9 x):=q2;refine(SD.step (L8:=C4) R2 t3).mono λy w ⟨G3,J,Q,s3,R3,L,t4⟩=>?_;obtain⟨d,b,e4,r,a,p⟩:=SD.quiet t4 λr h=>ag h;have N:E2 B G3 w σ J v wv:=q1.keep (s2.trans s3) I;obtain⟨m,z,f,S⟩:=N.D8 R3 e4;cases hk:getD Q b with
  |none=>simp only[hk]at a;cases a
  |some T=>
   simp only[hk]at a;have U:O2 B.K m w y T:=by
    cases Q with
    |val _=>exact E2.get f (L.keep z rfl:E2 B m w σ b y _) hk
    |slot _=>exact E2.get f (L.keep z rfl:E2 B m w σ b y _) hk
    |own d'=>
     cases hk;unfold cg at a;exfalso;obtain⟨E,rfl,_,_,oo,_⟩:=L;cases T<;>first|exact(show False from oo).elim|skip
     ·split at a
      ·simp[keyOf]at a
      ·cases a
      ·cases a
     ·split at a
      ·simp[keyOf]at a
      ·cases a
      ·cases a
   unfold cg at a;split at a
   ·rename_i l es hi;split at a
    ·rename_i k O;obtain⟨hz,a⟩:=p5 a;cases a;obtain⟨E,rfl,g,kvs,c,q⟩:=slot_of f hi u;have P:=cY U O;subst P;refine .inr ⟨E,_,rfl,AY.k c ?_,?_⟩
     ·rw[q.len,v0];unfold small at hz;omega
     ·exact p σ m _ z (f.write hi u ⟨_,m3,q.put k S⟩)
    ·cases a
   ·rename_i l ds hi;split at a
    ·rename_i j;split at a
     ·rename_i n hn;cases a;obtain⟨E,rfl,g,xs,c,q⟩:=slot_of f hi u;refine .inl ⟨E,xs,j,n,rfl,U.int,c,by rw[q.len];exact hn,?_⟩;exact p σ m _ z (f.write hi u ⟨_,m3,q.set S n⟩)
     ·cases a
    ·cases a
   ·cases a
end
noncomputable def JB:D→String
 |.v1=>"NoneType"
 |.bl _=>"bool"
 |.int _=>"int"
 |.str _=>"str"
 |.tup _=>"tuple"
 |.lst _=>"list"
 |.dct _=>"dict"
 |.ty _=>"type"
noncomputable def ye (a b:String):Bool:=a==b||(a == "bool" && b == "int")
noncomputable def KM:D→Bool
 |.ty _=>f8
 |_=>f6
noncomputable def Gi:List D→Option W
 | [d,.ty T]=>dL (KM d=f6∧T∈["int","bool","str","list","tuple","dict"]) (vB (ye (JB d) T))
 |_=>f7
theorem CN (K:PySem.W.Frag):∀a∈["NoneType","bool","int","str","tuple","list","dict"],∀b∈["int","bool","str","list","tuple","dict"],PySem.W.kitOne K (.type a) (.type b)=e9 (ye a b):=by
 intro a c b d;simp only[List.mem_cons,List.not_mem_nil,or_false]at c d;rcases c with rfl|rfl|rfl|rfl|rfl|rfl|rfl<;>rcases d with rfl|rfl|rfl|rfl|rfl|rfl<;>kernel_rfl
theorem xH {X:Cx}{K:PySem.W.Frag}(l:X.K=K):J3 X (.builtin "isinstance") (λxs H Q=>∃x T d,xs=[x,.ty T]∧Rep K H x d∧(∀n,d≠.ty n)∧T∈["int","bool","str","list","tuple","dict"]∧Q (.bl (ye (JB d) T)) H):=by
 subst l;intro pins s σ H xs us Q I r h;obtain⟨x,T,d,rfl,m,v,w,q⟩:=h;obtain⟨u,B,rfl,e,j⟩:=vals2 r;cases j;have fin:∀k,EP X pins σ Q (.bool (ye (JB d) T)) {s with toks:=k}:=λk=>⟨.bl _,H,I.tok k,rfl,q⟩
 have c:=λa y=>CN X.K a y T w;cases m with
 |v1=>cases e;exact PySem.W.kia_one PySem.W.kitx_none I.nv True.intro (c _ (by simp)) (λz=>nomatch z) fin
 |bl b=>cases e;exact PySem.W.kia_one PySem.W.kitx_bool I.nv True.intro (c _ (by simp)) (λz=>nomatch z) fin
 |int i=>obtain⟨t,rfl⟩:=e;exact PySem.W.kia_one PySem.W.kitx_int I.nv True.intro (c _ (by simp)) (λz=>nomatch z) fin
 |str cs=>obtain⟨t,rfl⟩:=e;exact PySem.W.kia_one PySem.W.kitx_str I.nv True.intro (c _ (by simp)) (λz=>nomatch z) fin
 |ty n=>exact absurd rfl (v n)
 |tup h _ _=>
  cases e;obtain⟨_,_,p,_⟩:=I.tuple h;obtain⟨o,f,g,_⟩:=p;exact PySem.W.kia_one PySem.W.kitx_tuple I.nv ⟨o,f,g⟩ (c _ (by simp)) (λz=>nomatch z) fin
 |lst h _ _=>
  cases e;obtain⟨_,_,p,_⟩:=I.list h;obtain⟨o,n,f,g,_⟩:=p;exact PySem.W.kia_one PySem.W.kitx_list I.nv ⟨o,f,g⟩ (c _ (by simp)) (λz=>nomatch z) fin
 |dct h _ _=>
  cases e;obtain⟨_,_,vs,_,A⟩:=S7 I.hok h;obtain⟨o,es,E,f,g,_⟩:=A;exact PySem.W.kia_one PySem.W.kitx_dict I.nv ⟨o,f,g.1⟩ (c _ (by simp)) (λz=>nomatch z) fin
section
variable {X:Cx}{B:Bs}{e a b c:Expr}{es:List Expr}{mr:M (List W)}{pos p:Pos}
theorem zK:im B (λxs H Q=>∃x T d,xs=[x,.ty T]∧Rep B.K H x d∧(∀n,d≠.ty n)∧T∈["int","bool","str","list","tuple","dict"]∧Q (.bl (ye (JB d) T)) H) Gi:=by
 intro G H σ ρ xs ds w Q R h e p
 match ds,e with
 | [d,.ty T],e=>
  obtain⟨⟨a,b⟩,e⟩:=p5 e;cases e;obtain⟨x,y,rfl,c,f⟩:=xX h;exact⟨x,T,d,by rw[f.ty],c.rep R.gH,(λn z=>by rw[z]at a;cases a),b,p _ G H (j6.refl _) R (.bl _)⟩
theorem Ja (c:X.mg "isinstance"=f7) (d:gl X B [e,a] mr) (f:Gl X "isinstance":=by rfl) (g:X.K=B.K:=by rfl) (h:h8 [e,a] X.env=(f6,eval e X.env)::h8 [a] X.env:=by rfl) (b:(m4 pos (h8 [a] X.env)).any (·.1)=f6:=by rfl):PD X B (.Call (.Name "isinstance" p) [e,a] [] pos) (D2 Gi mr):=
 fh (λξ=>xH (X:=rz X ξ) (K:=B.K) g) zK f c LS d (by decide) (by decide) h b
end
noncomputable def intsOf:List D→Option (List Int)
 | []=>e9 []
 |.int i::ds=>(intsOf ds).map (i::·)
 |_=>f7
theorem ny:∀{ds:List D} {ns:List Int},intsOf ds=e9 ns→ds=ns.map D.int
 | [],_,h=>by cases h;rfl
 |.int b::ds,bs,h=>by
  unfold intsOf at h;obtain⟨a,e,rfl⟩:=h9.mp h;rw[ny e];rfl
 |.v1::_,_,h=>by cases h
 |.bl _::_,_,h=>by cases h
 |.str _::_,_,h=>by cases h
 |.ty _::_,_,h=>by cases h
 |.tup _::_,_,h=>by cases h
 |.lst _::_,_,h=>by cases h
 |.dct _::_,_,h=>by cases h
theorem zE {K:PySem.W.Frag}{G:Hp}:∀{ns:List Int} {xs:List V},o9 K G xs (ns.map D.int)→xs=ns.map V.int
 | [],[],_=>rfl
 | [],_::_,r=>by have:=r.len;simp at this
 |_::_,[],r=>by have:=r.len;simp at this
 |b::bs,x::xs,r=>by
  have h:=r.head;cases h;rw[zE r.tail];rfl
noncomputable def rj (f:D→D→Option Bool)(fs:List (Key×D)):List (Key×D)→Option Bool
 | []=>e9 f8
 |e::es=>match K5 fs e.1 with
  |none=>e9 f6
  |some y=>match f e.2 y,rj f fs es with
   |some a,e9 b=>e9 (a&&b)
   |_,_=>f7
noncomputable def eqT:D→D→Option Bool
 |.dct es,.dct fs=>if es.length=fs.length then rj (bR 6) fs es else e9 f6
 |d,e=>bR 8 d e
noncomputable def M4 (d e:D):Option W:=(eqT d e).bind vB
noncomputable def iI (d e:D):Option W:=(eqT d e).bind λb=>vB (!b)
section
variable {X:Cx}{pins:List (Addr×Obj)}{σ:St}{H:Hp}{s:Shared}
theorem vc (I:Inv X pins σ H s){A:Around}(m:A.units+6<C2)(n:l9 X.K H c fs)(o:KV c d):∀{es:List (Key×D)} {kvs:List (Key×V)} {vs:List (Key×Value)} {b:Bool},rj (bR 6) fs es=e9 b→l9 X.K H kvs es→KV kvs vs→PySem.W.KeqHits A s d vs b:=by
 intro es kvs vs b h r k;revert vs b;refine l9.ind (P:=λkvs es=>∀{vs:List (Key×Value)} {b:Bool},rj (bR 6) fs es=e9 b→KV kvs vs→PySem.W.KeqHits A s d vs b) ?_ ?_ r
 ·intro vs b h k;cases k;cases h;exact .nil
 ·intro p e kvs es hk hr _ ih vs b h k;unfold KV at k;cases k with
  | @cons _ q _ J g t=>
   unfold rj at h;have i:=o.val p.1;obtain⟨w,x⟩:=n.val p.1;have z:q=(p.1,q.2):=by rw[g.1]
   rw[z];cases f:K5 fs e.1 with
   |none=>
    rw[f]at h;cases h;rw[←hk]at f;rw[x f]at i;exact .miss (bb.none_of i)
   |some y=>
    rw[f]at h;simp only[]at h;cases j:bR 6 e.2 y with
    |none=>rw[j]at h;cases h
    |some a=>
     cases l:rj (bR 6) fs es with
     |none=>rw[j,l]at h;cases h
     |some L=>
      rw[j,l]at h;cases h;rw[←hk]at f;obtain⟨v,B,E⟩:=w y f;rw[B]at i;obtain⟨u,F,G⟩:=bb.some_of i;exact .hit F (kd I 6 j hr E g.2 G m).1 (ih l t)
end
theorem uH {X:Cx}{K:PySem.W.Frag}(w:X.K=K)(J:X.A.units+8<C2):fC X (v9 .Eq) (λx y H Q=>∃a c d f es fs b,x=.ref a∧y=.ref c∧Rd H a (.dK d)∧Rd H c (.dK f)∧l9 K H d es∧l9 K H f fs∧eqT (.dct es) (.dct fs)=e9 b∧Q (.bl b) H):=by
 subst w;intro pins s σ H x y v u Q I B E h;obtain⟨a,c,d,f,es,fs,b,rfl,rfl,F,G,n,o,e,q⟩:=h;cases B;cases E;obtain⟨z,p,vs,j,t⟩:=S7 I.hok F;obtain⟨L,k,g,i,l⟩:=S7 I.hok G;have N:=j.length;have O:=i.length;have P:=n.len;have R:=o.len;have e:(if es.length=fs.length then rj (bR 6) fs es else e9 f6)=e9 b:=e;split at e
 ·rename_i hl;refine PySem.W.keq_eq (r:=b) p k t l (by omega) (λ_=>vc I (by show X.A.units+1+6<_;omega) o i e n j) ?_;have m:(vs.length==g.length&&b)=b:=by rw[show(vs.length==g.length)=f8 by simp;omega,rV]
  rw[m];exact gb I q rfl
 ·rename_i hl;cases e;refine PySem.W.keq_eq (r:=f8) p k t l (by omega) (λz=>absurd z (by omega)) ?_;have m:(vs.length==g.length&&f8)=f6:=by rw[show(vs.length==g.length)=f6 by simp;omega,bV]
  rw[m];exact gb I q rfl
theorem Cu {X:Cx}{K:PySem.W.Frag}(w:X.K=K)(J:X.A.units+8<C2):fC X (v9 .NotEq) (λx y H Q=>∃a c d f es fs b,x=.ref a∧y=.ref c∧Rd H a (.dK d)∧Rd H c (.dK f)∧l9 K H d es∧l9 K H f fs∧eqT (.dct es) (.dct fs)=e9 b∧Q (.bl (!b)) H):=by
 subst w;intro pins s σ H x y v u Q I B E h;obtain⟨a,c,d,f,es,fs,b,rfl,rfl,F,G,n,o,e,q⟩:=h;cases B;cases E;obtain⟨z,p,vs,j,t⟩:=S7 I.hok F;obtain⟨L,k,g,i,l⟩:=S7 I.hok G;have N:=j.length;have O:=i.length;have P:=n.len;have R:=o.len;have e:(if es.length=fs.length then rj (bR 6) fs es else e9 f6)=e9 b:=e;split at e
 ·rename_i hl;refine PySem.W.keq_ne (r:=b) p k t l (by omega) (λ_=>vc I (by show X.A.units+1+6<_;omega) o i e n j) ?_;have m:(vs.length==g.length&&b)=b:=by rw[show(vs.length==g.length)=f8 by simp;omega,rV]
  rw[m];exact gb I q rfl
 ·rename_i hl;cases e;refine PySem.W.keq_ne (r:=f8) p k t l (by omega) (λz=>absurd z (by omega)) ?_;have m:(vs.length==g.length&&f8)=f6:=by rw[show(vs.length==g.length)=f6 by simp;omega,bV]
  rw[m];exact gb I q rfl
section
variable {X:Cx}{B:Bs}{e a b c:Expr}{ma mb mc:M W}{pos:Pos}
theorem nL {d e:D}{b:Bool}(h:eqT d e=e9 b):(∃es fs,d=.dct es∧e=.dct fs)∨bR 8 d e=e9 b:=by
 unfold eqT at h;split at h
 ·exact .inl ⟨_,_,rfl,rfl⟩
 ·exact .inr h
theorem qY:fD B (λx y H Q=>(∃d e b,Rep B.K H x d∧Rep B.K H y e∧bR 8 d e=e9 b∧Q (.bl b) H)∨∃a c f g es fs b,x=.ref a∧y=.ref c∧Rd H a (.dK f)∧Rd H c (.dK g)∧l9 B.K H f es∧l9 B.K H g fs∧eqT (.dct es) (.dct fs)=e9 b∧Q (.bl b) H) M4:=by
 intro G H σ ρ x y dx i w Q R j k e p;unfold M4 at e;cases h:eqT dx i with
 |none=>rw[h]at e;cases e
 |some b=>
  rw[h]at e;cases e;rcases nL h with⟨es,fs,rfl,rfl⟩ |l
  ·obtain⟨m,n,rfl,o,q⟩:=j.dct R.gH;obtain⟨r,s,rfl,t,u⟩:=k.dct R.gH;exact .inr ⟨m,r,n,s,es,fs,b,rfl,rfl,o,t,q.same R.gH,u.same R.gH,h,p _ G H (j6.refl _) R (.bl _)⟩
  ·exact .inl ⟨dx,i,b,j.rep R.gH,k.rep R.gH,l,p _ G H (j6.refl _) R (.bl _)⟩
theorem zP:fD B (λx y H Q=>(∃d e b,Rep B.K H x d∧Rep B.K H y e∧bR 8 d e=e9 b∧Q (.bl (!b)) H)∨∃a c f g es fs b,x=.ref a∧y=.ref c∧Rd H a (.dK f)∧Rd H c (.dK g)∧l9 B.K H f es∧l9 B.K H g fs∧eqT (.dct es) (.dct fs)=e9 b∧Q (.bl (!b)) H) iI:=by
 intro G H σ ρ x y dx i w Q R j k e p;unfold iI at e;cases h:eqT dx i with
 |none=>rw[h]at e;cases e
 |some b=>
  rw[h]at e;cases e;rcases nL h with⟨es,fs,rfl,rfl⟩ |l
  ·obtain⟨m,n,rfl,o,q⟩:=j.dct R.gH;obtain⟨r,s,rfl,t,u⟩:=k.dct R.gH;exact .inr ⟨m,r,n,s,es,fs,b,rfl,rfl,o,t,q.same R.gH,u.same R.gH,h,p _ G H (j6.refl _) R (.bl _)⟩
  ·exact .inl ⟨dx,i,b,j.rep R.gH,k.rep R.gH,l,p _ G H (j6.refl _) R (.bl _)⟩
theorem nO (c:X.A.units+8<C2)(e:PD X B a ma)(f:PD X B b mb)(d:X.K=B.K:=by rfl):PD X B (.Compare a [.Eq] [b] pos) (i3 M4 ma mb):=oO (λξ=>(zb (X:=rz X ξ) d c).or (uH d c)) qY e f (er _)
theorem bY (c:X.A.units+8<C2)(e:PD X B a ma)(f:PD X B b mb)(d:X.K=B.K:=by rfl):lW X B (.Compare a [.Eq] [b] pos) (p6 (i3 M4 ma mb)):=cU (λξ=>(zb (X:=rz X ξ) d c).or (uH d c)) qY e f (er _)
theorem mR (c:X.A.units+8<C2)(e:PD X B a ma)(f:PD X B b mb)(d:X.K=B.K:=by rfl):lW X B (.Compare a [.NotEq] [b] pos) (p6 (i3 iI ma mb)):=cU (λξ=>(FH (X:=rz X ξ) d c).or (Cu d c)) zP e f (er _)
end
noncomputable def JF (f:D→List D→Option W)(x:W)(a:List W):M W:=λρ=>match getD x ρ,Y0 a ρ with
 |some d,e9 ds=>(f d ds).map (R'.ok · ρ)
 |_,_=>f7
noncomputable def Hh (T:String)(f:D→List D→Option W)(a:M W)(m:M (List W)):M W:=M.bind (L1 a) λx=>M.bind (rZ T x) λ_=>M.bind m λb=>JF f x b
def Jm (B:Bs)(r:V→List V→Hp→VK→Prop)(f:D→List D→Option W):Prop:=∀{G H:Hp} {σ:St} {ρ:l5} {x:V} {dx:D} {xs:List V} {ds:List D} {w:W} {Q:VK},RS B G H σ ρ→O2 B.K G H x dx→rN B.K G H xs ds→f dx ds=e9 w→
 (∀v G' H',j6 G G'→RS B G' H' σ ρ→E2 B G' H' σ ρ v w→Q v H')→r x xs H Q
theorem Cz(t:cE C4 B ξ G ρ (JF f x a) σ Q):∃d ds w,getD x ρ=e9 d∧Y0 a ρ=e9 ds∧f d ds=e9 w∧∀v G' H',j6 G G'→RS B G' H' σ ρ→E2 B G' H' σ ρ v w→Q v H':=by
 obtain⟨r,e,p⟩:=t;unfold JF at e;cases b:getD x ρ with
 |none=>rw[b]at e;cases e
 |some d=>
  cases g:Y0 a ρ with
  |none=>rw[b,g]at e;cases e
  |some ds=>
   rw[b,g]at e;simp only[]at e;cases c:f d ds with
   |none=>rw[c]at e;cases e
   |some w=>
    rw[c]at e;cases e;exact⟨d,ds,w,rfl,rfl,c,p⟩
section
variable {X:Cx}{B:Bs}{o e:Expr}{es:List Expr}{mo:M W}{mr:M (List W)}{apos cpos:Pos}{name:Str}{T id:String}
theorem KW(n:PlainAttrs T)(slot:Slot T name id)(j:typeOf (.builtin id)=pure (.type "method_descriptor")) (q:∀ξ,Lj (rz X ξ) id r) (hi:Jm B r f) (s:PD X B o mo) (v:gl X B (e::es) mr)
  (y:X.K=B.K)
  (b:x0 o name X.env (eval o X.env)=eval o X.env)
  (g:((m4 cpos (h8 (e::es) X.env)).all (λx=>!x.1)&&(y4 cpos (o1 [] X.env)).all (λx=>x.1.isSome)
   && decide ((e::es).length+([]:List Keyword).length+(if([]:List Keyword).isEmpty then 0 else 1)<30))=f8)
  (c:(apos.endLine==cpos.line)=f8) (hs:h8 (e::es) X.env=(f6,eval e X.env)::h8 es X.env) (a:(m4 cpos (h8 es X.env)).any (·.1)=f6) (z:T≠"dict":=by decide):
  PD X B (.Call (.Attribute o name apos) (e::es) [] cpos) (Hh T f mo mr):=.mk λξ=>
 (uE (X:=rz X ξ) n slot j (q ξ) (s.ap ξ) (v.ap ξ) b g c hs a).imp λσ H Q t=>by
  obtain⟨G,ρ,R,t⟩:=t;have A:TD gT B ξ (L1 mo) σ H _:=TD.bind (L8:=gT) R t;refine TD.L1 (A.mono λx E ⟨G1,F,I,s1,k,⟨m,l⟩,J⟩=>?_);obtain⟨u,i,L,N⟩:=J.step λr h=>⟨(),_,(bU h).1⟩;obtain⟨O,d,hd,ty⟩:=bU L;cases O;refine⟨by show Hd X.K T x E;rw[y];exact si k (m.get k hd) ty z,?_⟩;refine(TD.bind (L8:=M8) k N).mono λvs P ⟨S,i,ws,s2,R2,U,Y⟩=>?_;obtain⟨dx,ds,w,Z,e5,e6,p⟩:=Cz Y;exact hi R2 ((m.keep s2 l:E2 B S P σ i x I).get R2 Z) (as R2 U e5) e6 p
end
noncomputable def He:W→W
 |.own d=>.val d
 |w=>w
section
variable {m ma mb mo mk mf:M W}{mr:M (List W)}{ρ n3 x2 gm Hj:l5}{w wa wb wc:W}{ws:List W}{d dx dy dz:D}{ds:List D}{i j:Nat}{k k2:Bool}{f:D→D→Option W}{s1 s2:SM}{r:Option SR}{c c1 c2:M Bool}
theorem cu:getD (He w) ρ=getD w ρ:=by cases w<;>rfl
theorem eO (h:m ρ=e9 (.ok w n3)):L1 m ρ=e9 (.ok (He w) n3):=by
 cases w with
 |own d=>exact yf h
 |val d=>exact qg h
 |slot i=>exact mV h
theorem k7:mC d ρ=e9 (.ok (.val d) ρ):=rfl
theorem g7 {c:C}(h:ρ[i]?=e9 (e9 c)):h7 i ρ=e9 (.ok (.slot i) ρ):=by unfold h7;rw[h]
theorem i5 (a:ma ρ=e9 (.ok wa n3))(b:mb n3=e9 (.ok wb x2))(c:getD wa x2=e9 dx)(d:getD wb x2=e9 dy)(e:f dx dy=e9 w):i3 f ma mb ρ=e9 (.ok w x2):=by
 unfold i3;rw[M.j9 (eO a),M.j9 b];unfold FM;rw[cu,c,d];simp only[e,t6]
theorem U2 {f:D→Option W}(a:ma ρ=e9 (.ok wa n3))(b:getD wa n3=e9 dx)(c:f dx=e9 w):aZ f ma ρ=e9 (.ok w n3):=by
 unfold aZ;rw[M.j9 a];unfold Hg;rw[b];simp only[c,t6]
theorem i8:j4 ρ=e9 (.ok [] ρ):=rfl
theorem g9 (a:ma ρ=e9 (.ok wa n3))(b:mr n3=e9 (.ok ws x2)):g4 ma mr ρ=e9 (.ok (He wa::ws) x2):=by
 unfold g4;rw[M.j9 (eO a),M.j9 b];rfl
theorem v4 {f:List D→Option W}(a:mr ρ=e9 (.ok ws n3))(b:Y0 ws n3=e9 ds)(c:f ds=e9 w):D2 f mr ρ=e9 (.ok w n3):=by
 unfold D2;rw[M.j9 a];unfold JE;rw[b];simp only[c,t6]
theorem u8(b:mr ρ=e9 (.ok ws n3))(c:P6 ms ws n3=e9 ds)(d:pN (L4 ms ws) (cB n3 ms ws)=f8)(e:a ds=e9 (.ret w fin))(hs:sv (L4 ms ws) fin n3=e9 x2)
  (f:(dM w&&fin.all U0)=f8):o8 ms a mr ρ=e9 (.ok w x2):=by
 unfold o8;rw[M.j9 b];unfold vD;rw[c];simp only[];rw[if_pos d,e];simp only[hs];rw[if_pos f]
theorem Q8(b:mr ρ=e9 (.ok ws n3))(c:P6 ms ws n3=e9 ds)(d:pN (L4 ms ws) (cB n3 ms ws)=f8)(e:a ds=e9 (.ret w fin))(hs:sv (L4 ms ws) fin n3=e9 x2)
  (f:cB n3 ms ws=[]):o8 ms a mr ρ=e9 (.ok w x2):=by
 unfold o8;rw[M.j9 b];unfold vD;rw[c];simp only[];rw[if_pos d,e];simp only[hs];split
 ·rfl
 ·rw[f];rfl
theorem n0 (a:m ρ=e9 (.ok (.val (.bl k)) n3)):p6 m ρ=e9 (.ok k n3):=by unfold p6;rw[M.j9 a]
theorem z5 (a:m ρ=e9 (.ok w n3))(b:getD w n3=e9 d)(c:wd d=e9 k):T0 m ρ=e9 (.ok k n3):=by
 unfold T0;rw[M.j9 a];simp only[b,c,t6]
theorem pv (a:c1 ρ=e9 (.ok k n3))(b:c2 n3=e9 (.ok k2 n3)):hA c1 c2 ρ=e9 (.ok (k&&k2) n3):=by
 unfold hA;rw[M.j9 a];cases k with
 |true=>exact b
 |false=>rfl
theorem vq (a:c1 ρ=e9 (.ok k n3))(hk:k=f6):hA c1 c2 ρ=e9 (.ok f6 n3):=by
 subst hk;unfold hA;rw[M.j9 a];rfl
theorem Dl(b:c1 ρ=e9 (.ok k n3))(hk:k=f8)(c:c2 n3=a):hA c1 c2 ρ=a:=by
 subst hk;unfold hA;rw[M.j9 b];exact c
theorem tO (a:c1 ρ=e9 (.ok k n3))(hk:k=f8):rY c1 c2 ρ=e9 (.ok f8 n3):=by
 subst hk;unfold rY;rw[M.j9 a];rfl
theorem dg(b:c1 ρ=e9 (.ok k n3))(hk:k=f6)(c:c2 n3=a):rY c1 c2 ρ=a:=by
 subst hk;unfold rY;rw[M.j9 b];exact c
theorem U4 (a:c1 ρ=e9 (.ok k n3)):gY c1 ρ=e9 (.ok (!k) n3):=by unfold gY;rw[M.j9 a];rfl
theorem Je (a:getD w ρ=e9 (.bl k)):Hi w ρ=e9 (.ok k ρ):=by unfold Hi;rw[a]
theorem rc(b:ma ρ=e9 (.ok wa n3))(c:getD wa n3=e9 (.bl k))(hk:k=f8)(d:mb n3=a):nr ma mb ρ=a:=by
 subst hk;unfold nr;rw[M.j9 b,M.j9 (Je c)];exact d
theorem vm(b:c ρ=e9 (.ok k n3))(hk:k=f8)(d:ma n3=a):sX c ma mb ρ=a:=by
 subst hk;unfold sX;rw[M.j9 b];exact d
theorem vn(b:c ρ=e9 (.ok k n3))(hk:k=f6)(d:mb n3=a):sX c ma mb ρ=a:=by
 subst hk;unfold sX;rw[M.j9 b];exact d
theorem u7 (a:mr ρ=e9 (.ok ws n3))(hl:aI ws n3=e9 (.ok ds x2))(b:small ds.length):B5 mr ρ=e9 (.ok (.val (.tup ds)) x2):=by
 unfold B5;rw[M.j9 a,M.j9 hl];exact v7 b
theorem P4 (a:mr ρ=e9 (.ok ws n3))(hl:aI ws n3=e9 (.ok ds x2))(b:small ds.length):N2 mr ρ=e9 (.ok (.own (.lst ds)) x2):=by
 unfold N2;rw[M.j9 a,M.j9 hl];exact v7 b
theorem xx(b:ρ[i]?=e9 (e9 (.ow l (.lst a))))(c:mr ρ=e9 (.ok [w] n3))(hl:D8 w n3=e9 (.ok d x2))(e:x2[i]?=e9 (e9 (.ow l (.lst ds))))(f:small ds.length):
  D6 i mr ρ=e9 (.ok (.val .v1) (x2.set i (e9 (.ow l (.lst (ds++[d])))))):=by
 unfold D6;have g:rZ "list" (.slot i) ρ=e9 (.ok () ρ):=by
  unfold rZ getD;simp only[b];rfl
 rw[M.j9 (g7 b),M.j9 g,M.j9 c];show M.bind (D8 w) (ie i) n3=_;rw[M.j9 hl];unfold ie;rw[e];exact v7 f
theorem vo(c:mo ρ=e9 (.ok wa n3))(d:getD wa n3=e9 (.dct a))(e:mk n3=e9 (.ok wb x2))(f:getD wa x2=e9 (.dct es))(g:getD wb x2=e9 dy)(hk:keyOf dy=e9 b):qN mo mk ρ=e9 (.ok (.val ((K5 es b).getD .v1)) x2):=by
 unfold qN;have h:rZ "dict" (He wa) n3=e9 (.ok () n3):=by
  unfold rZ;rw[cu,d];rfl
 rw[M.j9 (eO c),M.j9 h,M.j9 e];unfold FM;rw[cu,f,g];simp only[Ef,hk,t6]
theorem IQ {T:String}{f:D→List D→Option W}(a:mo ρ=e9 (.ok wa n3))(b:getD wa n3=e9 d)(c:JC T d=f8)(e:mr n3=e9 (.ok ws x2))(g:getD wa x2=e9 dx)(h:Y0 ws x2=e9 ds)(i:f dx ds=e9 w):Hh T f mo mr ρ=e9 (.ok w x2):=by
 unfold Hh;have j:rZ T (He wa) n3=e9 (.ok () n3):=by
  unfold rZ;rw[cu,b];simp only[c,if_true]
 rw[M.j9 (eO a),M.j9 j,M.j9 e];unfold JF;rw[cu,g,h];simp only[i,t6]
theorem fe(a:m ρ=e9 (.ok w n3))(b:getD w n3=e9 (.int n)):fJ m ρ=e9 (.ok (e9 n) n3):=by
 unfold fJ;rw[M.j9 a];simp only[b]
theorem nJ:(M.pure f7:M (Option Int)) ρ=e9 (.ok f7 ρ):=rfl
theorem nI {a b:M (Option Int)}{lo hi:Option Int}(c:ma ρ=e9 (.ok wa n3))(hl:a n3=e9 (.ok lo x2))(d:b x2=e9 (.ok hi gm))(e:getD wa gm=e9 dx)(f:EY dx lo hi=e9 w):Bj ma a b ρ=e9 (.ok w gm):=by
 unfold Bj;rw[M.j9 (eO c),M.j9 hl,M.j9 d];unfold Hg;rw[cu,e];simp only[f,t6]
theorem j3 (a:s1 ρ=e9 (.nx n3))(b:s2 n3=r):k8 s1 s2 ρ=r:=by rw[BP a];exact b
theorem U3 (a:s1 ρ=e9 (.rt w n3)):k8 s1 s2 ρ=e9 (.rt w n3):=by unfold k8;rw[a]
theorem C8:aq ρ=e9 (.nx ρ):=rfl
theorem l7 (a:m ρ=e9 (.ok w n3))(hs:iB i w n3=e9 (.nx x2)):n5 i m ρ=e9 (.nx x2):=by unfold n5;rw[u1 a];exact hs
theorem z6(b:m ρ=e9 (.ok w n3))(hs:Fb w n3=e9 a):retS m ρ=e9 a:=by unfold retS;rw[u1 b];exact hs
theorem W9 (a:m ρ=e9 (.ok w n3)):F7 m ρ=e9 (.nx n3):=by unfold F7;rw[u1 a];rfl
theorem A5 (a:c ρ=e9 (.ok k n3))(hk:k=f8)(h:s1 n3=r):X9 c s1 s2 ρ=r:=by subst hk;unfold X9;rw[u1 a];exact h
theorem u0 (a:c ρ=e9 (.ok k n3))(hk:k=f6)(h:s2 n3=r):X9 c s1 s2 ρ=r:=by subst hk;unfold X9;rw[u1 a];exact h
theorem bQ (a:m ρ=e9 (.ok wa n3))(c:n3[i]?=e9 (e9 b))(hk:mk n3=e9 (.ok wb x2))(hl:D8 (He wa) x2=e9 (.ok d gm))(e:getD wb gm=e9 dy)(f:cg i dy d gm=r):dR i m mk ρ=r:=by
 unfold dR wp;rw[u1 (eO a),u1 (g7 c),u1 hk,u1 hl];simp only[e];exact f
theorem eH(hi:a ρ=e9 (.ok ds n3))(h:forL tg s1 ds n3=r):T6 a tg s1 ρ=r:=by unfold T6;rw[u1 hi];exact h
theorem lB(a:mr ρ=e9 (.ok ws n3))(b:Y0 ws n3=e9 ds)(c:g ds=e9 es):X7 g mr ρ=e9 (.ok es n3):=by
 unfold X7;rw[M.j9 a];simp only[b,c,t6]
theorem B0(a:m ρ=e9 (.ok w n3))(hl:D8 w n3=e9 (.ok d x2))(b:KL d=e9 es):A3 m ρ=e9 (.ok es x2):=by
 unfold A3;rw[M.j9 a,M.j9 hl];simp only[b,t6]
theorem br {mi:M (List D)}{tg:FT}{mt:M Bool}{b:M W}{own:Nat}{fr:List Nat}{a:List D}(hi:mi ρ=e9 (.ok ds n3))(c:small ds.length)(d:C1 tg mt b (Z1 own fr n3) ds=e9 a)(hf:a.all U1=f8∨fy n3 fr=[]):B9 mi tg mt b own fr ρ=e9 (.ok (.own (.lst a)) n3):=by
 unfold B9;rw[M.j9 hi];unfold AB;rw[d];simp only[];rw[v7 c];rcases hf with hf|hf
 ·rw[if_pos hf]
 ·split
  ·rfl
  ·rw[hf];rfl
theorem D1(h:den (B3 n ms ds)=e9 sr)(a:sI ms sr=e9 fr):n8 den n ms ds=e9 fr:=by unfold n8;rw[h];exact a
theorem eW(h:rP a b):bG (.int a) (.int b)=e9 (.val (.int (a*b))):=v7 h
theorem jX(h:rQ a b):lF (.int a) (.int b)=e9 (.val (.int (a / b))):=v7 h
theorem D5(h:0<b):S9 (.int a) (.int b)=e9 (.val (.int (a % b))):=v7 h
end
noncomputable def bZ (ns:List Int):List Int:=ns.mergeSort λa b=>decide (a≤b)
theorem fT (ns:List Int):(bZ ns).Perm ns:=List.mergeSort_perm _ _
theorem yh (ns:List Int):(bZ ns).Pairwise (·≤·):=by
 have:=List.pairwise_mergeSort (le:=λa b:Int=>decide (a≤b)) (λa b c d e=>by simp at *;omega) (λa b=>by simp;omega) ns;exact this.imp λh=>by simpa using h
theorem kA {ns ms:List Int}(c:ms.Perm ns)(hs:ms.Pairwise (·≤·)):ms=bZ ns:=by
 have h:=c.trans (fT ns).symm;exact List.Perm.eq_of_pairwise (le:=(·≤·)) (λa b _ _ d e=>Int.le_antisymm d e) hs (yh ns) h
section
variable {X:Cx}
theorem pH {K:PySem.W.Frag}(f:X.K=K):J3 X (.builtin "sorted") (λxs H Q=>∃(p:Addr) (ns:List Int),xs=[.ref p]∧P7 K H p (ns.map V.int)∧ns.length<64∧∀l,H l=f7→Q (.ref l) (upd H l (.lst ((bZ ns).map V.int)))):=by
 subst f;intro pins s σ H xs us Q I r h;obtain⟨p,ns,rfl,g,v,q⟩:=h;obtain⟨u,rfl,i⟩:=vals1 r;cases i;obtain⟨c,d,pl,_⟩:=I.list g;have hl:=d.length;rw[List.length_map]at hl;refine sorted_ints pl.isList (intsAre_of d) (by omega) λout j k m n=>?_;have hs:=kA m n;subst hs;obtain⟨e,t⟩:=sortedAll_at s.heap c out;refine⟨.ref (s.heap.objs.size+1),_,I.laid (a:=s.heap.objs.size+1) (o:=.lst ((bZ ns).map V.int)) (t':=s.toks) (λb o e=>sortedAll_old e) (Nat.le_succ _) ⟨?_,out.toList,e,?_,?_⟩,rfl,q _ (I.hok.fresh (Nat.le_succ _))⟩
 ·rw[List.length_map,(fT ns).length_eq,v0];omega
 ·exact eN k
 ·rw[t]
theorem zx:∀(b:List (Key×V)) (us:List (Key×Value)) (a:List Value),KV b us→a.length=us.length→(∀(j:Nat) v,a[j]?=e9 v→∃k x,us[j]?=e9 (k,x)∧(r0 P w).is k v=f8)→Vals (b.map λkv=>kV kv.1) a:=by
 intro b us a e;unfold KV at e;induction e generalizing a with
 |nil=>
  intro hl _;have:a=[]:=List.length_eq_zero_iff.mp hl;subst this;exact .nil
 | @cons p q ps s c _ ih=>
  intro hl f;cases a with
  |nil=>simp at hl
  |cons v r=>
   obtain⟨k,x,g,h⟩:=f 0 v rfl;have l:q=(k,x):=j7 g;refine .cons ?_ (ih r (by simpa using hl) λj m d=>f (j+1) m d);have n:p.1=k:=by rw[c.1,l]
   show RelV (kV p.1) v;rw[n];have o:hH k v=f8:=h;rcases x9 o with⟨i,t,rfl,rfl⟩ | ⟨x,t,rfl,rfl⟩
   ·exact⟨t,rfl⟩
   ·exact⟨t,rfl⟩
theorem mJ (B:X.calm=f8):J3 X (.builtin "sorted") (λxs H Q=>∃(a:Addr) (kvs:List (Key×V)) (ns:List Int),xs=[.ref a]∧Rd H a (.dK kvs)∧kvs.map (λkv=>kV kv.1)=ns.map V.int∧ns.length<64∧∀l,H l=f7→Q (.ref l) (upd H l (.lst ((bZ ns).map V.int)))):=by
 intro pins s σ H xs us Q I r h;obtain⟨a,kvs,ns,rfl,E,hk,Y,q⟩:=h;obtain⟨u,rfl,F⟩:=vals1 r;cases F;obtain⟨z,G,vs,g,J⟩:=S7 I.hok E;obtain⟨ep,k⟩:=J.dictAt;have x:=g.length;refine PySem.Calls.call_function_entry LM LL LP (LY _) ?_;unfold k5.«sorted»;refine g8 (m:=checkCount "sorted" 1 1 _) (j5 ?_);refine g8 (PySem.W.kdu_collect (PySem.W.kdl_dict (knd:=r0 X.prog X.w) (kvs:=vs) (ep:=ep) G) (I.ok.hd B) k (by omega) λh' n c kp d=>?_);have L:c.toList.length=vs.length:=by rw[J1];exact d.1
 have p:=zx (P:=X.prog) (w:=X.w) kvs vs c.toList g L λj v e=>d.2 j v (by rw[←fk];exact e);rw[hk]at p;have N:=intsAre_of p;have t:c.toList.length<64:=by have:=p.length;rw[List.length_map]at this;omega
 refine g8 (wpAny_newList ?_);have f:(h'.push (seqObj "list" c.toList.toArray 0)).get? h'.objs.size=e9 (seqObj "list" c.toList.toArray 0):=Heap.get?_push_size _ rfl;show wpAny _ _ _ _ _ {s with heap:=h'.push (seqObj "list" c.toList.toArray 0),toks:=n};refine g8 (w6 (aU slot_list_sort ⟨_,f,rfl⟩ entry_list_sort (list_sort_tree f N t λout O R S T=>⟨_,rfl,?_⟩) (args_list_sort _)));have hs:=kA S T;subst hs;refine j5 ⟨_,rfl,?_⟩;have y:Inv X pins σ H {s with heap:=h',toks:=n}:=I.kept kp;obtain⟨e,U⟩:=sortedHeap_at (out:=out) f;refine⟨.ref h'.objs.size,_,y.laid (a:=h'.objs.size) (o:=.lst ((bZ ns).map V.int)) (t':=n) (λb o A=>?_) (Nat.le_refl _) ⟨?_,out.toList,e,?_,?_⟩,rfl,q _ (y.hok.fresh (Nat.le_refl _))⟩
 ·have i:b<h'.objs.size:=Heap.lt_size A;rw[sortedHeap_old (Nat.ne_of_lt i) (by rw[size_push'];exact Nat.lt_succ_of_lt i)];exact Heap.get?_push_of_some _ A
 ·rw[List.length_map,(fT ns).length_eq,v0];omega
 ·exact eN R
 ·rw[U]
end
noncomputable def dJ:List (Key×D)→Option (List Int)
 | []=>e9 []
 | (.inl k,_)::r=>(dJ r).map (k::·)
 |_=>f7
theorem CO {K:PySem.W.Frag}{G:Hp}{kvs:List (Key×V)}{es:List (Key×D)}(r:l9 K G kvs es):∀{ns:List Int},dJ es=e9 ns→kvs.map (λkv=>kV kv.1)=ns.map V.int:=by
 refine l9.ind (P:=λkvs es=>∀{ns:List Int},dJ es=e9 ns→kvs.map (λkv=>kV kv.1)=ns.map V.int) ?_ ?_ r
 ·intro ns h;cases h;rfl
 ·intro p e kvs es hk _ _ ih ns h;obtain⟨k,d⟩:=e;cases k with
  |inr x=>cases h
  |inl k=>
   cases hr:dJ es with
   |none=>simp[dJ,hr]at h
   |some ms=>
    simp[dJ,hr]at h;subst h;rw[List.map_cons,List.map_cons,ih hr,hk];rfl
noncomputable def eP:List D→Option W
 | [.lst ds]=>(intsOf ds).bind λns=>dL (ns.length<64) (e9 (.own (.lst ((bZ ns).map D.int))))
 | [.dct es]=>(dJ es).bind λns=>dL (ns.length<64) (e9 (.own (.lst ((bZ ns).map D.int))))
 |_=>f7
section
variable {X:Cx}{B:Bs}{e f:Expr}{mr:M (List W)}{pos p:Pos}
theorem qX:im B (λxs H Q=>(∃(p:Addr) (ns:List Int),xs=[.ref p]∧P7 B.K H p (ns.map V.int)∧ns.length<64∧∀l,H l=f7→Q (.ref l) (upd H l (.lst ((bZ ns).map V.int))))∨
  ∃(a:Addr) (kvs:List (Key×V)) (ns:List Int),xs=[.ref a]∧Rd H a (.dK kvs)∧kvs.map (λkv=>kV kv.1)=ns.map V.int∧ns.length<64∧∀l,H l=f7→Q (.ref l) (upd H l (.lst ((bZ ns).map V.int)))) eP:=by
 intro G H σ ρ xs ds w Q R h e p
 match ds,e with
 | [.lst ds],e=>
  cases c:intsOf ds with
  |none=>simp[eP,c]at e
  |some ns=>
   have b:(intsOf ds).bind _=e9 w:=e;rw[c]at b;obtain⟨g,b⟩:=p5 b;cases b;obtain⟨x,rfl,d⟩:=I0 h;rw[ny c]at d;obtain⟨q,k,rfl,f,i⟩:=d.lst R.gH;rw[zE i]at f;refine .inl ⟨q,ns,rfl,f,g,λl hl=>?_⟩;obtain⟨R',j⟩:=R.eu hl (o9.ka (K:=B.K) (G:=G) (bZ ns));exact p _ G _ (j6.refl _) R' j
 | [.dct es],e=>
  cases c:dJ es with
  |none=>simp[eP,c]at e
  |some ns=>
   have b:(dJ es).bind _=e9 w:=e;rw[c]at b;obtain⟨g,b⟩:=p5 b;cases b;obtain⟨x,rfl,d⟩:=I0 h;obtain⟨a,kvs,rfl,f,i⟩:=d.dct R.gH;refine .inr ⟨a,kvs,ns,rfl,f,CO i c,g,λl hl=>?_⟩;obtain⟨R',j⟩:=R.eu hl (o9.ka (K:=B.K) (G:=G) (bZ ns));exact p _ G _ (j6.refl _) R' j
theorem Aw (b:X.calm=f8)(c:X.mg "sorted"=f7) (d:gl X B [e] mr) (f:Gl X "sorted":=by rfl) (g:X.K=B.K:=by rfl) (h:h8 [e] X.env=(f6,eval e X.env)::h8 [] X.env:=by rfl) (a:(m4 pos (h8 [] X.env)).any (·.1)=f6:=by rfl):PD X B (.Call (.Name "sorted" p) [e] [] pos) (D2 eP mr):=
 fh (λξ=>(pH (X:=rz X ξ) (K:=B.K) g).or (mJ b)) qX f c LR d (by decide) (by decide) h a
end
noncomputable def tP (i:Nat)(a b:W):M W:=λρ=>match ρ[i]?,getD a ρ,b with
 |some (e9 (.ow l (.dct es))),e9 k,.val f=>match keyOf k with
  |some k=>match K5 es k with
   |some d=>e9 (.ok (.val d) (ρ.set i (e9 (.ow l (.dct (aM es k))))))
   |none=>e9 (.ok (.val f) ρ)
  |none=>f7
 |_,_,_=>f7
noncomputable def kZ (a:M W)(i:Nat)(mk b:M W):M W:=M.bind a λx=>M.bind (rZ "dict" x) λ_=>M.bind (L1 mk) λk=>M.bind b λf=>tP i k f
noncomputable abbrev FV (i:Nat)(mk a:M W):M W:=kZ (h7 i) i mk a
section
variable {X:Cx}{B:Bs}{o e f:Expr}{me mf:M W}{apos cpos:Pos}
theorem vx (i:Nat)(ho:PD X B o mo)(he:PD X B e me)(hf:PD X B f mf)(hm:vJ i mo:=by exact mX)(m:M2 X o "pop" apos e f cpos:=by exact⟨rfl,rfl,rfl,rfl⟩):PD X B (.Call (.Attribute o "pop" apos) [e,f] [] cpos) (kZ mo i me mf):=.mk λξ=>
 (yT (X:=rz X ξ) (ho.ap ξ) (he.ap ξ) (hf.ap ξ) ⟨m.base,m.few,m.line,m.trees⟩).imp λσ H Q t=>by
  obtain⟨G,ρ,R,t⟩:=t;refine(TD.vF (L8:=C4) R t).mono λx H1 ⟨G1,a0,w,b,s1,F,U,t2⟩=>?_;obtain⟨rfl,rfl⟩:=hm _ _ _ b;have Y:σ[i]?=e9 (e9 x):=U;obtain⟨u,I,e2,t3⟩:=t2.step λr h=>⟨(),_,(bU h).1⟩;obtain⟨e3,d,hd,ty⟩:=bU e2;cases e3;cases d<;>first| (cases ty;done) | (exact absurd ty (by decide)) |skip
  obtain⟨a,kvs,rfl,h1,r1⟩:=(U.get F hd).dct F.gH;refine⟨a,rfl,.inl ⟨kvs,h1⟩,?_⟩;have J:TD gT B ξ (L1 me) σ H1 _:=TD.bind (L8:=gT) F t3;refine TD.L1 (J.mono λy H2 ⟨G2,I,wb,s2,R2,⟨q2,L⟩,t4⟩=>?_);refine(TD.bind (L8:=C4) R2 t4).mono λz Z ⟨N,O,wc,s3,A,q3,t5⟩=>?_;obtain⟨r,b,p⟩:=t5;unfold tP at b;split at b
  ·rename_i l es k f' hi hk;split at b
   ·rename_i n P;obtain⟨pp,ep,g,c,hx,E⟩:=slot_of A hi Y;cases ep;have hy:=cY ((q2.keep s3 L:E2 B N Z σ O _ wb).get A hk) P;refine⟨c,n,hx,hy,λv q=>?_,λS=>?_⟩
    ·split at b
     ·rename_i T j;cases b;obtain⟨v',s,r'⟩:=(E.val n).1 T j;rw[q]at s;cases s;exact p v N _ (j6.refl _) (A.write hi Y ⟨hY c n,m3,E.drop n⟩) r'
     ·rename_i hn;have:=(E.val n).2 hn;rw[q]at this;cases this
    ·split at b
     ·rename_i T j;obtain⟨v',s,r'⟩:=(E.val n).1 T j;rw[S]at s;cases s
     ·cases b;exact p z N Z (j6.refl _) A q3
   ·cases b
  ·cases b
end
noncomputable def cK:SM:=λ_=>f7
theorem bh {X:Cx}{B:Bs}{st:Stmt}:se X B st cK:=.mk λξ=>(yK (X:=rz X ξ)).imp λa σ H t=>by
 obtain⟨G,ρ,R,r,e,p⟩:=t;cases e
noncomputable def AR (i:Nat)(c:M W):SM:=λρ=>match ρ[i]? with
 |some (e9 _)=>E4 c (λy ρ=>match getD (.slot i) ρ,getD y ρ with
  |some (.int a),e9 (.int b)=>iB i (.val (.int (a+b))) ρ
  |_,_=>f7) ρ
 |_=>f7
section
variable {X:Cx}{B:Bs}{e:Expr}{me:M W}{pos:Pos}
theorem yt(s:PD X B e me)(u:X.N.Nodup)(hi:X.N[i]?=e9 x:=by rfl)(z:Loc X.env.scope x:=by first|exact Or.inl rfl|exact Or.inr rfl)(A:X.fn x=f8∨X.env.scope.names.lookup x=e9 .local:=by first|exact .inl rfl|exact .inr rfl):
  se X B (.AugAssign (.Name x f) .Add e pos) (AR i me):=.mk λξ=>(Fo (X:=rz X ξ) u hi z (s.ap ξ) Gk A).imp λL σ H t=>by
 obtain⟨G,ρ,R,r,e,p⟩:=t;unfold AR at e;split at e
 ·rename_i c g;have j:∃v,σ[i]?=e9 (e9 v):=by
   cases c with
   |sh d=>obtain⟨v,q,_⟩:=R.sh i d g;exact⟨v,q⟩
   |ow l d=>obtain⟨v,q,_⟩:=R.ow i l d g;exact⟨_,q⟩
   |fz es=>obtain⟨a,o,kvs,q,_⟩:=R.fz i es g;exact⟨_,q⟩
   |ob l fds=>obtain⟨_,_,_,_,_,_,q,_⟩:=R.ob.1 i l fds g;exact⟨_,q⟩
   |rd fds=>obtain⟨_,_,_,_,_,_,_,q,_⟩:=R.ob.2 i fds g;exact⟨_,q⟩
  obtain⟨v,j⟩:=j;refine⟨v,j,?_⟩;refine(SD.step (L8:=C4) R ⟨r,e,p⟩).mono λy k ⟨n,h,w,s1,m,E,r,e,p⟩=>?_;dsimp only at e;split at e
  ·rename_i a b F I;obtain⟨ρ',G',rfl,J,R'⟩:=iA (v:=.int (a+b)) m (show E2 B n k σ h (.int (a+b)) (.val (.int (a+b)))from Rep.int _) e;exact⟨a,b,((show E2 B n k σ h v (.slot i)from j).get m F).int,(E.get m I).int,p _ G' k J R'⟩
  ·cases e
 ·cases e
end
section
variable {me ma mb:M W}{ρ n3 x2:l5}{w:W}{i:Nat}{a b:Int}
theorem An(d:ρ[i]?=e9 (e9 c))(e:me ρ=e9 (.ok w n3))(f:getD (.slot i) n3=e9 (.int a))(g:getD w n3=e9 (.int b))(hs:iB i (.val (.int (a+b))) n3=e9 (.nx x2)):AR i me ρ=e9 (.nx x2):=by
 unfold AR;rw[d];show E4 me _ ρ=_;rw[u1 e];simp only[f,g];exact hs
end
noncomputable def gd (d:D):List D→Option (List Bool)
 | []=>e9 []
 |y::c=>match bR 7 y d,gd d c with
  |some a,e9 b=>e9 (a::b)
  |_,_=>f7
theorem Ao:∀{ds:List D} {bs:List Bool},gd d ds=e9 bs→∃b,lq d ds=e9 b
 | [],_,_=>⟨f6,rfl⟩
 |y::e,bs,h=>by
  unfold gd at h;cases a:bR 7 y d with
  |none=>rw[a]at h;cases h
  |some p=>
   cases c:gd d e with
   |none=>rw[a,c]at h;cases h
   |some q=>
    obtain⟨b,f⟩:=Ao c;exact⟨p||b,by unfold lq;rw[a,f]⟩
noncomputable def W1:List Bool→Option Nat
 | []=>f7
 |true::_=>e9 0
 |false::r=>(W1 r).map (· + 1)
theorem nA:∀{bs:List Bool} {j:Nat},W1 bs=e9 j→bs[j]?=e9 f8∧∀m,m<j→bs[m]?=e9 f6
 | [],_,h=>by cases h
 |true::_,_,h=>by cases h;exact⟨rfl,λm a=>by omega⟩
 |false::r,j,h=>by
  unfold W1 at h;obtain⟨k,hk,rfl⟩:=h9.mp h;obtain⟨b,c⟩:=nA hk;refine⟨by simpa using b,λm a=>?_⟩;cases m with
  |zero=>rfl
  |succ m=>simpa using c m (by omega)
section
variable {X:Cx}{pins:List (Addr×Obj)}{σ:St}{H:Hp}{s:Shared}
theorem vr (I:Inv X pins σ H s):∀{ds:List D} {xs:List V} {us:List Value} {bs:List Bool},gd d ds=e9 bs→o9 X.K H xs ds→Vals xs us→us.map (S6 X.K H d)=bs
 | [],[],us,b,h,_,v=>by cases v;cases h;rfl
 | [],_::_,_,_,_,r,_=>by have:=r.len;simp at this
 |_::_,[],_,_,_,r,_=>by have:=r.len;simp at this
 |e::ds,x::xs,us,b,h,r,v=>by
  cases v with
  |cons f v=>
   unfold gd at h;cases a:bR 7 e d with
   |none=>rw[a]at h;cases h
   |some p=>
    cases c:gd d ds with
    |none=>rw[a,c]at h;cases h
    |some q=>
     rw[a,c]at h;cases h;rw[List.map_cons,lD I f r.head a,vr I c r.tail v]
end
theorem wL {X:Cx}{K:PySem.W.Frag}(L:X.K=K)(hu:X.A.units+8<C2):Lj X "list.index" (λx xs H Q=>∃p g ds y d bs j,x=.ref p∧xs=[y]∧Rep K H y d∧P7 K H p g∧o9 K H g ds∧gd d ds=e9 bs∧W1 bs=e9 j∧Q (.int ((j:Nat):Int)) H):=by
 subst L;intro pins s σ H x xs v us Q I N O h;obtain⟨p,g,ds,y,d,bs,j,rfl,rfl,P,R,hr,z,S,q⟩:=h;cases N;obtain⟨u,rfl,T⟩:=vals1 O;obtain⟨a,r,pl,U⟩:=I.list R;obtain⟨b,i⟩:=Ao z;obtain⟨⟨cls,dd,data,sl⟩,n,B,E,c,hd⟩:=pl;simp only at E hd c;subst E hd c;have e:=vr I z hr r;obtain⟨k,Y⟩:=nA S;have f:j<a.length:=by
  have:=(List.getElem?_eq_some_iff.mp k).1;rw[←e]at this;simpa using this
 have l:S6 X.K H d a.toArray[j]=f8:=by
  rw[←e,List.getElem?_map,List.getElem?_eq_getElem f]at k;simpa using k
 have o:∀m (G:m<a.toArray.size),m<j→S6 X.K H d a.toArray[m]=f6:=by
  intro m G t;have J:=Y m t;rw[←e,List.getElem?_map,List.getElem?_eq_getElem (by simpa using G)]at J;simpa using J
 have hl:=r.length;rw[v0]at U;refine vP PySem.F.slot_list_index ⟨_,B,rfl⟩ PySem.F.entry_list_index (PySem.F.args_list_index_2 _ _) (SeqAt.list_indexAt p a.toArray n f7 sl u (S6 X.K H d) j (by simpa using f) (by omega) l o) ⟨B,λw Z=>eZ I P T (by show X.A.units+1+7<_;omega) i hr r w (by simpa using Z),?_⟩;exact⟨.int _,H,I.tok _,⟨_,rfl⟩,q⟩
noncomputable def lm:D→List D→Option W
 |.lst ds,[d]=>(gd d ds).bind λbs=>(W1 bs).bind λj=>vI ((j:Nat):Int)
 |_,_=>f7
section
variable {X:Cx}{B:Bs}{o e:Expr}{mo:M W}{mr:M (List W)}{apos cpos:Pos}
theorem tF:Jm B (λx xs H Q=>∃p a ds y d bs j,x=.ref p∧xs=[y]∧Rep B.K H y d∧P7 B.K H p a∧o9 B.K H a ds∧gd d ds=e9 bs∧W1 bs=e9 j∧Q (.int ((j:Nat):Int)) H) lm:=by
 intro G H σ ρ x dx xs ds w Q R f h e p
 match dx,ds,e with
 |.lst ds,[d],e=>
  obtain⟨y,rfl,g⟩:=I0 h;have e:(gd d ds).bind (λbs=>(W1 bs).bind λj=>vI ((j:Nat):Int))=e9 w:=e;cases b:gd d ds with
  |none=>rw[b]at e;cases e
  |some bs=>
   rw[b]at e;have e:(W1 bs).bind (λj=>vI ((j:Nat):Int))=e9 w:=e;cases c:W1 bs with
   |none=>rw[c]at e;cases e
   |some j=>
    rw[c]at e;cases e;obtain⟨q,a,rfl,i,k⟩:=f.lst R.gH;exact⟨q,a,ds,y,d,bs,j,rfl,rfl,g.rep R.gH,i,k.same R.gH,b,c,p _ G H (j6.refl _) R (.int _)⟩
theorem Du (g:X.A.units+8<C2)(h:PD X B o mo)(i:gl X B [e] mr)(f:X.K=B.K:=by rfl)(b:x0 o "index" X.env (eval o X.env)=eval o X.env:=by rfl)
  (d:((m4 cpos (h8 [e] X.env)).all (λx=>!x.1)&&(y4 cpos (o1 [] X.env)).all (λx=>x.1.isSome)&&decide (([e]:List Expr).length+([]:List Keyword).length+(if([]:List Keyword).isEmpty then 0 else 1)<30))=f8:=by rfl)
  (c:(apos.endLine==cpos.line)=f8:=by rfl) (hs:h8 [e] X.env=(f6,eval e X.env)::h8 [] X.env:=by rfl) (a:(m4 cpos (h8 [] X.env)).any (·.1)=f6:=by rfl):PD X B (.Call (.Attribute o "index" apos) [e] [] cpos) (Hh "list" lm mo mr):=
 KW PySem.F.plainAttrs_list PySem.F.slot_list_index PySem.F.type_list_index (λξ=>wL (X:=rz X ξ) (K:=B.K) f g) tF h i f b d c hs a
end
section
variable {tg:FT}{mt:M Bool}{me:M W}{ρ n3 x2 gm Hj:l5}{d y:D}{w:W}
theorem gE (a:tg d ρ=e9 n3)(b:mt n3=e9 (.ok f8 x2))(c:me x2=e9 (.ok w gm))(e:D8 w gm=e9 (.ok y Hj)):compTurn tg mt me ρ d=e9 (e9 y):=by
 unfold compTurn;rw[a];simp only[b];rw[M.j9 c,e]
theorem BA (a:tg d ρ=e9 n3)(b:mt n3=e9 (.ok f6 x2)):compTurn tg mt me ρ d=e9 f7:=by
 unfold compTurn;rw[a];simp only[b]
end
theorem AA {α:Type}(xs:List α)(k:Nat):(xs.drop (HT.B4 xs.length 0 (e9 (k:Int)))).take (HT.B4 xs.length xs.length f7-HT.B4 xs.length 0 (e9 (k:Int)))=xs.drop k:=by
 rw[HT.uB,HT.gR];by_cases h:k≤xs.length
 ·rw[Nat.min_eq_left h,List.take_of_length_le (by simp)]
 ·rw[Nat.min_eq_right (by omega),List.take_of_length_le (by simp),List.drop_eq_nil_of_le (Nat.le_refl _),List.drop_eq_nil_of_le (by omega)]
theorem GJ {α:Type}(xs:List α)(k:Nat):(xs.drop (HT.B4 xs.length 0 f7)).take (HT.B4 xs.length xs.length (e9 (k:Int))-HT.B4 xs.length 0 f7)=xs.take k:=by
 rw[HT.uB,HT.gR,List.drop_zero,Nat.sub_zero];by_cases h:k≤xs.length
 ·rw[Nat.min_eq_left h]
 ·rw[Nat.min_eq_right (by omega),List.take_of_length_le (Nat.le_refl _),List.take_of_length_le (by omega)]
theorem yu (n d:Nat):HT.B4 n d (e9 (-1))=n-1:=by
 show(if(-1:Int)<0 then((-1:Int)+(n:Int)).toNat else min (-1:Int).toNat n)=n-1;rw[if_pos (by decide)];omega
theorem Az {α:Type}(xs:List α):(xs.drop (HT.B4 xs.length 0 f7)).take (HT.B4 xs.length xs.length (e9 (-1))-HT.B4 xs.length 0 f7)=xs.dropLast:=by
 rw[yu,HT.gR,List.drop_zero,Nat.sub_zero,List.dropLast_eq_take]
theorem dw{x:Str}{j pos}(h:x.cps.toList=cs):PD X B (.Constant (.str x) j pos) (mC (.str cs)):=by
 subst h;exact IY
end L3
namespace PySem
open PyProof.Rows
theorem F.oX:aV (.type "list") "keys"=pure f7:=by rw[W3,F8];kernel_rfl
theorem F.jI:aV (.type "list") "__getattr__"=pure f7:=by rw[W3,F8];kernel_rfl
theorem F.Q2:isSubtype (.type "AttributeError") (.type "AttributeError")=pure f8:=by rw[Mx];kernel_rfl
section
variable {prog:Program}{w:World}{A:Around}{E:Value→Shared→Prop}{h:Heap}{g:Array GenState}{d:Drawn}{t:Nat}{os:OsState}{a:Addr}{items:Array Value}{n:Nat}{sl:Array (Option Value)}
theorem lg {α:Type}{c:Str}{Q:α→Shared→Prop}(i:A.handled=f7)(l:c.length≤sizeLine)
   (j:∀x h' k,(∀b o,h.get? b=e9 o→h'.get? b=e9 o)→(∃o,h'.get? x=e9 o∧o.cls=.type "AttributeError")→E (.ref x) ⟨h',g,d,k,os⟩):
    wpAny (model prog w) A (Mr (.ref a) (Str.ofString "keys") c:Sem α) Q E ⟨h,g,d,t,os⟩:=by
  have f1:=F.Q2;unfold Mr mkStr;repeat (any_goals (first|assumption|wp_step))
  refine wpAny_raiseNew_none i (j _ _ _ (λb o f=>?_) ⟨_,Heap.get?_update_self _ (Heap.get?_push_size _ rfl) rfl,rfl⟩);refine Eq.trans (Heap.get?_update_other _ _ ?_) (Heap.get?_push_of_some _ (Heap.get?_push_of_some _ f));have:=Heap.lt_size f;intro z;rw[←z]at this;have e:=LK h {cls:=Value.type "tuple",data:=Data.seq #[Value.str c t]};rw[e]at this;exact Nat.lt_irrefl _ (Nat.lt_trans (Nat.lt_succ_self _) this)
theorem jJ(e:A.handled=f7)(f:h.get? a=e9 {cls:=.type "list",dict:=f7,data:=.seq items n,slots:=sl})
   (i:∀x h' j,(∀b o,h.get? b=e9 o→h'.get? b=e9 o)→(∃o,h'.get? x=e9 o∧o.cls=.type "AttributeError")→E (.ref x) ⟨h',g,d,j,os⟩):
    wpAny (model prog w) A (k5.«object.__getattribute__» ⟨[.ref a,.str "keys" c],[]⟩) Q E ⟨h,g,d,t,os⟩:=by
  have k:(⟨h,g,d,t,os⟩:Shared).TypeIs (.ref a) "list":=⟨_,f,rfl⟩
  have l:=F.oX;repeat (any_goals (first|assumption|wp_step))
  refine lg e ?_ i;decide +kernel
theorem lh(f:A.handled=f7)(c:h.get? a=e9 {cls:=.type "list",dict:=f7,data:=.seq items n,slots:=sl})
   (i:∀x h' j,(∀b o,h.get? b=e9 o→h'.get? b=e9 o)→(∃o,h'.get? x=e9 o∧o.cls=.type "AttributeError")→R (.error (.ref x)) ⟨h',g,d,j,os⟩):
    Z4 (model prog w) A (.call (.builtin "list.__getattribute__") ⟨[.ref a,.str "keys" e],[]⟩) R ⟨h,g,d,t,os⟩:=
  bC F.slot_list_getattribute.plain F.entry_list_ga (F.slot_list_getattribute.check _ _ _ _ _ _ _ _ (show(⟨h,g,d,t,os⟩:Shared).TypeIs (.ref a) "list" from⟨_,c,rfl⟩) (F.args_list_getattribute_2 _ _) (jJ f c i))
theorem pa(i:A.handled=f7)(e:h.get? a=e9 {cls:=.type "list",dict:=f7,data:=.seq items n,slots:=sl})
   (j:∀x h' c,(∀b o,h.get? b=e9 o→h'.get? b=e9 o)→(∃o,h'.get? x=e9 o∧o.cls=.type "AttributeError")→E (.ref x) ⟨h',g,d,c,os⟩):wpAny (model prog w) A (getAttrBy (.ref a) (.str "keys" f) f6) Q E ⟨h,g,d,t,os⟩:=by
  have l:(⟨h,g,d,t,os⟩:Shared).TypeIs (.ref a) "list":=⟨_,e,rfl⟩
  have m:=F.slot_list_getattribute.lookup;have p:=F.slot_list_getattribute.bind (.ref a);have q:=F.jI;have r:=F.Q2;repeat (any_goals (first|assumption|wp_step))
  refine lh i e λx h' c kp ex=>?_;have k:(⟨h',g,d,c,os⟩:Shared).TypeIs (.ref x) "AttributeError":=ex;repeat (any_goals (first|assumption|wp_step))
  exact j x h' c kp ex
theorem lj(e:A.handled=f7)(f:h.get? a=e9 {cls:=.type "list",dict:=f7,data:=.seq items n,slots:=sl})
   (i:∀h' c,(∀b o,h.get? b=e9 o→h'.get? b=e9 o)→Q f7 ⟨h',g,d,c,os⟩):wpAny (model prog w) A (Ex (.ref a) "keys") Q E ⟨h,g,d,t,os⟩:=by
  unfold Ex getAttrBy?;have k:=F.Q2;repeat (any_goals (first|assumption|with_reducible apply pa e f|wp_step))
  intro x h' c kp ex;have j:(⟨h',g,d,c,os⟩:Shared).TypeIs (.ref x) "AttributeError":=ex;repeat (any_goals (first|assumption|wp_step))
  exact i h' c kp
end
theorem F.C7:entryFor table "dict.update.loop"=e9 k5.«dict.update.loop»:=entryFor_of_tree (by kernel_rfl)
theorem F.n9:plainId "dict.update.loop"=f8:=by decide +kernel
def Jj (d it:Addr)(h h':Heap):Prop:=∀b o,b≠d→b≠it→h.get? b=e9 o→h'.get? b=e9 o
section
variable {prog:Program}{w:World}{A:Around}{E:Value→Shared→Prop}{K:Type}[DecidableEq K]{knd:KeyKind prog w K}
theorem qe (d it l : Addr) (f : Array Value) (ps : List (K × Value)) (hh : A.in1.handled = f7) (H : l ≠ d) (I : l ≠ it) (q : d ≠ it) (c : Value) (a4 : ps.length = f.size) (R : Mz → Shared → Prop) :
  ∀ (m i : Nat) (kvs : List (K × Value)) (s : Shared), m = ps.length - i → i ≤ ps.length →
   s.heap.DictOf knd d kvs → s.heap.IsListIter it l i → s.heap.IsList l f →
   (∀ (j : Nat) (p : K × Value), ps[j]? = e9 p → ∃ t key, f[j]? = e9 (.ref t) ∧ t ≠ d ∧ t ≠ it ∧ s.heap.IsTuple t #[key, p.2] ∧ knd.is p.1 key = f8) →
   kvs.length + m ≤ sizeLine →
   (∀ h' J, h'.DictOf knd d (Bu kvs (ps.drop i)) → Jj d it s.heap h' → R (.ok (.ret c)) { s with heap := h', toks := J }) →
   Z4 (model prog w) A (.builtin "dict.update.loop" ⟨[.ref d, .ref it, rawInt i, c], []⟩) R s := by
  intro m
  induction m with
  | zero =>
    intro i kvs s hm hi hd r hl u L N
    have O : i = ps.length := by omega
    refine I9 F.C7 ?_
    rw [A9 F.n9 _]
    show wpAny _ A.in1 (pyNext (.ref it) >>= _) _ _ s
    refine g8 (DK hh r hl (by rw [sf]; omega) fun h' eb => ?_)
    show wpAny _ A.in1 (jQ d [] >>= fun _ => ret c) _ _ _
    refine g8 (j5 (j5 ?_))
    refine N h' s.toks ?_ fun b o v g e => eb b o g e
    rw [O, List.drop_length]
    obtain ⟨o, es, P, h, a⟩ := hd
    exact ⟨o, es, P, eb d o q h, a⟩
  | succ m ih =>
    intro i kvs s hm hi hd r hl u L N
    have y : i < ps.length := by omega
    obtain ⟨t, key, ht, a6, Q, z, B⟩ := u i ps[i] (List.getElem?_eq_getElem y)
    refine I9 F.C7 ?_
    rw [A9 F.n9 _]
    show wpAny _ A.in1 (pyNext (.ref it) >>= _) _ _ s
    refine g8 (Bn r hl ht fun h' E sb => ?_)
    have kp : ∀ b o, b ≠ it → s.heap.get? b = e9 o → h'.get? b = e9 o := fun b o v e => (sb.2 b v).trans e
    have S : h'.DictOf knd d kvs := by obtain ⟨o, es, P, h, a⟩ := hd; exact ⟨o, es, P, kp d o q h, a⟩
    have n : h'.IsTuple t #[key, ps[i].2] := by obtain ⟨o, h, a⟩ := z; exact ⟨o, kp t o Q h, a⟩
    have hT : ({ s with heap := h' } : Shared).TypeIs (.ref t) "tuple" := by obtain ⟨o, h, T, _⟩ := n; exact ⟨o, h, T⟩
    obtain ⟨ot, U, a7, nt, X⟩ := id n
    show wpAny _ A.in1 (W4 [Value.ref t] _ >>= _) _ _ { s with heap := h' }
    refine g8 (w6 ?_)
    refine g8 (Mm ?_)
    unfold lU
    refine g8 (T1 hT ?_)
    rw [if_pos (by decide)]
    refine g8 ?_
    unfold seqItems?
    refine g8 (Hn U ?_)
    rw [X]
    refine j5 (j5 ?_)
    show wpAny _ A.in1 (W4 [key, ps[i].2] (dictSet d key ps[i].2)) _ _ { s with heap := h' }
    refine w6 (GY (s := { s with heap := h' }) (k := ps[i].1) B S (fun h2 Y G => ?_) (by omega))
    have x : ∀ b o, b ≠ d → b ≠ it → s.heap.get? b = e9 o → h2.get? b = e9 o := fun b o v g e => (G.2 b v).trans (kp b o g e)
    have T : ((i : Int) + 1) = ((i + 1 : Nat) : Int) := by push_cast; rfl
    refine j5 ⟨V4 F.n9 _, ?_⟩
    rw [T]
    refine ih (i + 1) (Bq kvs ps[i].1 ps[i].2) { s with heap := h2, toks := s.toks + 1 } (by omega) (by omega) Y ?_ ?_ ?_ ?_ fun h3 J Z a0 => ?_
    · obtain ⟨o, h, a⟩ := E
      exact ⟨o, (G.2 it (x8 q)).trans h, a⟩
    · obtain ⟨o, h, a⟩ := hl
      exact ⟨o, x l o H I h, a⟩
    · intro j p hj
      obtain ⟨t, key, a1, a2, a3, ⟨o, h, a⟩, a5⟩ := u j p hj
      exact ⟨t, key, a1, a2, a3, ⟨o, x t o a2 a3 h, a⟩, a5⟩
    · have := JX kvs ps[i].1 ps[i].2
      omega
    · refine N h3 J ?_ fun b o v g e => a0 b o v g (x b o v g e)
      rw [List.drop_eq_getElem_cons y]
      exact Z
theorem jL {s:Shared}(ps:List (K×Value))(L:A.handled=f7)(hl:s.heap.get? l=e9 {cls:=.type "list",dict:=f7,data:=.seq items n,slots:=sl}) (i:ps.length=items.size) (u:ps.length≤sizeLine)
  (v:∀(j:Nat) (p:K×Value),ps[j]?=e9 p→∃t key,items[j]?=e9 (.ref t)∧s.heap.IsTuple t #[key,p.2]∧knd.is p.1 key=f8)
  (h:∀h' x,h'.DictOf knd s.heap.objs.size (Bu [] ps)→(∀b o,s.heap.get? b=e9 o→h'.get? b=e9 o)→Q (.ref s.heap.objs.size) {s with heap:=h',toks:=x}):
  wpAny (model prog w) A (call (.type "dict") [.ref l]) Q E s:=by
 refine vQ (Q₁:=λobj g=>obj=.ref s.heap.objs.size∧g={s with heap:=s.heap.push {cls:=.type "dict",data:=.dict #[]}}) F.kt_called_dict (F.kt_typeCall_dict_1 _) F.entry_dict_init (kt_code_dict_new _ ⟨rfl,rfl⟩) ?_
 rintro obj g ⟨rfl,rfl⟩
 have c:(s.heap.push {cls:=.type "dict",data:=.dict #[]}).DictOf knd s.heap.objs.size []:=Heap.DictOf.new s.heap;refine⟨c.typeIs,F.args_dict_init_2 _ _,?_⟩;unfold k5.«dict.__init__»;refine g8 ?_;unfold jP;refine g8 (DL c.typeIs ?_);show wpAny _ _ (pure (s.heap.objs.size,[Value.ref l])) _ _ _;refine j5 ?_;show wpAny _ _ (Q0 "dict.__init__" s.heap.objs.size (.ref l) [] .none) _ _ _;unfold Q0;have f:(s.heap.push {cls:=.type "dict",data:=.dict #[]}).get? l=e9 {cls:=.type "list",dict:=f7,data:=.seq items n,slots:=sl}:=Heap.get?_push_of_some _ hl;have y:=Heap.lt_size hl;refine g8 (T1 (T:="list") ⟨_,f,rfl⟩ ?_);rw[if_pos (by decide)];refine g8 (lj (h:=s.heap.push {cls:=.type "dict",data:=.dict #[]}) (by exact L) f λB S a=>?_);rw[if_pos (show(f7:Option Value).isNone=f8 from rfl)];refine g8 (Hl ?_);have k:=a _ _ f;refine g8 (K3 (items:=items) ⟨_,k,rfl,n,rfl⟩ ?_);refine j5 ⟨V4 F.n9 _,?_⟩;have G:B.get? s.heap.objs.size=e9 {cls:=.type "dict",data:=.dict #[]}:=a _ _ (Heap.get?_push_size _ rfl);have m:=Heap.lt_size G;have q:∀b o,s.heap.get? b=e9 o→(B.push {cls:=.type "list_iterator",data:=.fields #[.ref l,.int 0 0]}).get? b=e9 o:=λb o e=>Heap.get?_push_of_some _ (a _ _ (Heap.get?_push_of_some _ e));refine qe (knd:=knd) s.heap.objs.size B.objs.size l items ps (by exact L) (Nat.ne_of_lt y) (λz=>?_) (Nat.ne_of_lt m) .none i _ ps.length 0 [] _ rfl (Nat.zero_le _) ?_ ?_ ?_ ?_ (by simpa using u) λh' x H I=>⟨rfl,?_⟩
 ·have:=Heap.lt_size (a _ _ f);rw[←z]at this;exact Nat.lt_irrefl _ this
 ·obtain⟨o,es,N,r,d⟩:=c;exact⟨o,es,N,Heap.get?_push_of_some _ (a _ _ r),d⟩
 ·exact⟨_,Heap.get?_push_size _ rfl,rfl,rfl⟩
 ·exact⟨_,Heap.get?_push_of_some _ k,rfl,n,rfl⟩
 ·intro j p O;obtain⟨t,key,P,⟨o,r,d⟩,R⟩:=v j p O;have J:=Heap.lt_size r;refine⟨t,key,P,Nat.ne_of_lt J,Nat.ne_of_lt (Heap.lt_size (a _ _ (Heap.get?_push_of_some _ r))),⟨o,q _ _ r,d⟩,R⟩
 ·refine h h' x (by simpa using H) λb o e=>?_;exact I b o (Nat.ne_of_lt (Heap.lt_size e)) (Nat.ne_of_lt (Heap.lt_size (a _ _ (Heap.get?_push_of_some _ e)))) (q b o e)
end
end PySem
namespace L3
open PySem PySem.Spec PyProof.Rows L2
noncomputable def iJ (kvs a:List (Key×V)):List (Key×V):=a.foldl (λb p=>putK b p.1 p.2) kvs
noncomputable def ew (es ps:List (Key×D)):List (Key×D):=ps.foldl (λa p=>putD a p.1 p.2) es
theorem iL:∀{a:List (Key×V)} {ps:List (Key×Value)} {kvs:List (Key×V)} {vs:List (Key×Value)},KV a ps→KV kvs vs→KV (iJ kvs a) (Bu vs ps):=by
 intro a ps kvs vs h;unfold KV at h;induction h generalizing kvs vs with
 |nil=>intro r;exact r
 | @cons p q ps c b _ ih=>
  intro r;have e:KV (putK kvs p.1 p.2) (Bq vs q.1 q.2):=by rw[←b.1];exact r.put p.1 b.2
  exact ih e
theorem oJ {K:PySem.W.Frag}{G:Hp}{a:List (Key×V)}{ps:List (Key×D)}(h:l9 K G a ps):∀{kvs:List (Key×V)} {es:List (Key×D)},l9 K G kvs es→l9 K G (iJ kvs a) (ew es ps):=by
 refine l9.ind (P:=λa ps=>∀{kvs:List (Key×V)} {es:List (Key×D)},l9 K G kvs es→l9 K G (iJ kvs a) (ew es ps)) ?_ ?_ h
 ·intro kvs es r;exact r
 ·intro p e a ps hk hr _ ih kvs es r;have q:l9 K G (putK kvs p.1 p.2) (putD es e.1 e.2):=by rw[hk];exact r.put e.1 hr
  exact ih q
section
variable {X:Cx}{pins:List (Addr×Obj)}{σ:St}{H:Hp}{s:Shared}
theorem qD (I:Inv X pins σ H s):∀{Hk:List (Key×V)} {ys:List V} {c:List Value},ys.length=Hk.length→(∀(j:Nat) y pr,ys[j]?=e9 y→Hk[j]?=e9 pr→∃t,y=.ref t∧bz X.K H t [kV pr.1,pr.2])→Vals ys c→
  ∃ps:List (Key×Value),KV Hk ps∧∀(j:Nat) p,ps[j]?=e9 p→∃t key,c[j]?=e9 (.ref t)∧s.heap.IsTuple t #[key,p.2]∧(r0 X.prog X.w).is p.1 key=f8
 | [],[],c,_,_,v=>by cases v;exact⟨[],.nil,λj p h=>by simp at h⟩
 | [],_::_,_,h,_,_=>by simp at h
 |_::_,[],_,h,_,_=>by simp at h
 |pr::Hk,y::ys,c,hl,l,v=>by
  cases v with
  | @cons _ u _ us o v=>
   obtain⟨ps,g,i⟩:=qD I (Hk:=Hk) (ys:=ys) (by simpa using hl) (λj y pr a b=>l (j+1) y pr (by simpa using a) (by simpa using b)) v;obtain⟨t,rfl,q⟩:=l 0 y pr rfl rfl;cases o;obtain⟨m,d,r,_⟩:=I.tuple q;cases d with
   | @cons _ key _ x z d=>
    cases d with
    | @cons _ n _ A k d=>
     cases d;refine⟨(pr.1,n)::ps,.cons ⟨rfl,k⟩ g,λj p h=>?_⟩;cases j with
     |zero=>
      have e:(pr.1,n)=p:=by simpa using h
      subst e;exact⟨t,key,rfl,r,eC z⟩
     |succ j=>
      obtain⟨B,f,E,F,G⟩:=i j p (by simpa using h);exact⟨B,f,by simpa using E,F,G⟩
end
theorem iS {X:Cx}{K:PySem.W.Frag}(v:X.K=K)(x:X.calm=f8):J3 X (.type "dict") (λxs H Q=>∃p g b,xs=[.ref p]∧P7 K H p g∧g.length=b.length∧(∀(j:Nat) y pr,g[j]?=e9 y→b[j]?=e9 pr→∃t,y=.ref t∧bz K H t [kV pr.1,pr.2])∧∀l,H l=f7→Q (.ref l) (upd H l (.dK (iJ [] b)))):=by
 subst v;intro pins s σ H xs us Q I r h;obtain⟨p,g,b,rfl,z,hl,A,q⟩:=h;obtain⟨u,rfl,B⟩:=vals1 r;cases B;obtain⟨E,m,pl,S⟩:=I.list z;obtain⟨ps,c,i⟩:=qD I hl A m;obtain⟨⟨cls,T,data,sl⟩,n,F,d,f,hd⟩:=pl;simp only at d hd f;subst d hd f;have U:=c.length;have Y:=m.length;have G:(iJ [] b).length≤sizeLine:=by
  have e:=(iL c (kvs:=[]) (vs:=[]) .nil).length;have J:=pY ([]:List (Key×Value)) ps;simp at J;omega
 refine jL (knd:=r0 X.prog X.w) ps (I.ok.hd x) F (by rw[List.size_toArray];omega) (by omega) (λj p L=>?_) λh' N k kp=>?_
 ·obtain⟨t,key,O,P,R⟩:=i j p L;exact⟨t,key,by simpa using O,P,R⟩
 ·exact⟨.ref s.heap.objs.size,_,I.laid (a:=s.heap.objs.size) (o:=.dK (iJ [] b)) (t':=N) kp (Nat.le_refl _) (iP G (beq_eq_false_iff_ne.mpr (x8 (Nat.ne_of_lt I.big))) (iL c .nil) k),rfl,q _ I.fresh⟩
noncomputable def pairD:D→Option (Key×D)
 |.tup [k,v]=>(keyOf k).map λk=>(k,v)
 |_=>f7
noncomputable def V7:List D→Option (List (Key×D))
 | []=>e9 []
 |d::ds=>(pairD d).bind λp=>(V7 ds).map (p::·)
noncomputable def aN:List D→Option W
 | [.lst ds]=>(V7 ds).map λps=>.own (.dct (ew [] ps))
 |_=>f7
theorem uF {K:PySem.W.Frag}{G H:Hp}(g:j6 G H):∀{ds:List D} {ps:List (Key×D)} {e:List V},V7 ds=e9 ps→o9 K G e ds→
  ∃b,l9 K G b ps∧e.length=b.length∧∀(j:Nat) y c,e[j]?=e9 y→b[j]?=e9 c→∃t,y=.ref t∧bz K H t [kV c.1,c.2]
 | [],ps,[],h,_=>by cases h;exact⟨[],.nil,rfl,λj y c h=>by simp at h⟩
 | [],_,_::_,_,r=>by have:=r.len;simp at this
 |_::_,_,[],_,r=>by have:=r.len;simp at this
 |d::ds,ps,y::e,h,r=>by
  have h':(pairD d).bind (λp=>(V7 ds).map (p::·))=e9 ps:=h;cases hd:pairD d with
  |none=>rw[hd]at h';cases h'
  |some o=>
   rw[hd]at h';obtain⟨q,s,rfl⟩:=h9.mp (show(V7 ds).map (o::·)=e9 ps from h');obtain⟨b,u,w,x⟩:=uF g s r.tail;unfold pairD at hd;split at hd
   ·rename_i k v;obtain⟨f,hk,rfl⟩:=h9.mp hd;have z:=r.head;cases z with
    | @tup a xs _ hs hl hr=>
     match xs,hl with
     | [l,i],_=>
      have A:=hr 0 l k rfl rfl;have B:=hr 1 i v rfl rfl;have E:l=kV f:=cY (G:=G) (H:=H) (.inl A) hk;subst E;refine⟨(f,i)::b,.cons rfl B u,by simp[w],λj y c m n=>?_⟩;cases j with
      |zero=>
       have F:V.ref a=y:=by simpa using m
       have I:(f,i)=c:=by simpa using n
       subst F I;exact⟨a,rfl,g.tup hs⟩
      |succ j=>exact x j y c (by simpa using m) (by simpa using n)
   ·cases hd
section
variable {X:Cx}{B:Bs}{e:Expr}{mr:M (List W)}{pos p:Pos}
theorem tE:im B (λxs H Q=>∃p b a,xs=[.ref p]∧P7 B.K H p b∧b.length=a.length∧(∀(j:Nat) y pr,b[j]?=e9 y→a[j]?=e9 pr→∃t,y=.ref t∧bz B.K H t [kV pr.1,pr.2])∧∀l,H l=f7→Q (.ref l) (upd H l (.dK (iJ [] a)))) aN:=by
 intro G H σ ρ xs ds w Q R h e p
 match ds,e with
 | [.lst ds],e=>
  obtain⟨ps,c,rfl⟩:=h9.mp (show(V7 ds).map (λps=>W.own (.dct (ew [] ps)))=e9 w from e);obtain⟨x,rfl,d⟩:=I0 h;obtain⟨q,b,rfl,f,g⟩:=d.lst R.gH;obtain⟨a,i,k,m⟩:=uF R.gH c g;refine⟨q,b,a,rfl,f,k,m,λl hl=>?_⟩;obtain⟨R',n⟩:=R.kW hl (oJ i l9.nil);exact p _ G _ (j6.refl _) R' n
theorem kh (b:X.calm=f8)(c:X.mg "dict"=f7) (d:gl X B [e] mr) (f:Gl X "dict":=by rfl) (g:X.K=B.K:=by rfl) (h:h8 [e] X.env=(f6,eval e X.env)::h8 [] X.env:=by rfl) (a:(m4 pos (h8 [] X.env)).any (·.1)=f6:=by rfl):PD X B (.Call (.Name "dict" p) [e] [] pos) (D2 aN mr):=
 lH (λξ=>iS (X:=rz X ξ) (K:=B.K) g b) tE f c lT d (by decide) (by decide) h a
end
section
variable {P:Program}{w:World}{K:PySem.W.Frag}{G G' H H':Hp}{h h':Heap}{a b p:Addr}{o:Obj}{kvs:List (Key×V)}
theorem Gu (x:fj P w H h)(e:H a=e9 (.dK kvs))(g:h.get? a=e9 o):fj P w (upd H a (.cH o (.dK kvs))) h:=by
 have d:∀c b,H c=e9 (.own b)→upd H a (.cH o (.dK kvs)) c=e9 (.own b):=λc b r=>by
  rw[k0 (by rintro rfl;rw[e]at r;cases r)];exact r
 have f:∀c xs,H c=e9 (.tup xs)→upd H a (.cH o (.dK kvs)) c=e9 (.tup xs):=λc b r=>by
  rw[k0 (by rintro rfl;rw[e]at r;cases r)];exact r
 intro b u q;by_cases z:b=a
 ·subst z;rw[m3]at q;cases q;exact⟨g,(x _ _ e).stay (λc v _ r=>r) (λc r=>d c _ r) f⟩
 ·rw[k0 z]at q;exact(x b u q).stay (λc v _ r=>r) (λc r=>d c _ r) f
theorem Gq (x:fj P w H h)(e:H a=e9 (.cH o (.dK kvs))):fj P w (upd H a (.dK kvs)) h:=by
 have d:∀c b,H c=e9 (.own b)→upd H a (.dK kvs) c=e9 (.own b):=λc b r=>by
  rw[k0 (by rintro rfl;rw[e]at r;cases r)];exact r
 have f:∀c xs,H c=e9 (.tup xs)→upd H a (.dK kvs) c=e9 (.tup xs):=λc b r=>by
  rw[k0 (by rintro rfl;rw[e]at r;cases r)];exact r
 intro b u q;by_cases z:b=a
 ·subst z;rw[m3]at q;cases q;obtain⟨_,q⟩:=x _ _ e;exact q.stay (λc v _ r=>r) (λc r=>d c _ r) f
 ·rw[k0 z]at q;exact(x b u q).stay (λc v _ r=>r) (λc r=>d c _ r) f
theorem HD(u:Un fs [] (upd H a (.cH o (.dK kvs))) H' h h')(e:H a=e9 (.dK kvs)):Un fs [] H (upd H' a (.dK kvs)) h h':=by
 have ne:∀{b},H b=f7→b≠a:=λq z=>by rw[z,e]at q;cases q
 refine⟨λb ob q n c d=>u.keep b ob q (by rw[k0 (ne n)];exact n) c d,λb ob q n c d=>u.slot b ob q (by rw[k0 (ne n)];exact n) c d,λb ob q n c=>?_,u.there,λb xs q=>?_,λb ob v q=>?_,λb ps q=>?_⟩
 ·rw[k0 (ne n)];exact u.free b ob q (by rw[k0 (ne n)];exact n) c
 ·have z:b≠a:=by rintro rfl;rw[e]at q;cases q
  rw[k0 z];exact u.tups b xs (by rw[k0 z];exact q)
 ·have z:b≠a:=by rintro rfl;rw[e]at q;cases q
  rw[k0 z];exact u.frzs b ob v (by rw[k0 z];exact q)
 ·have z:b≠a:=by rintro rfl;rw[e]at q;cases q
  rw[k0 z];exact u.tbls b ps (by rw[k0 z];exact q)
structure Sw (a:Addr) (kvs:List (Key×V)) (G G':Hp):Prop where
 out:∀b,b≠a→G' b=G b
 was:Rd G a (.dK kvs)
 now:Rd G' a (.dK kvs)
theorem Sw.rd(s:Sw a kvs G G')(h:Rd G b u)(z:b≠a):Rd G' b u:=by
 rcases h with h| ⟨o,h⟩
 ·exact .inl (by rw[s.out b z];exact h)
 ·exact .inr ⟨o,by rw[s.out b z];exact h⟩
theorem Fd(c:Rd G a u)(b:Rd G a v)(d:∀o x,u≠.cH o x)(e:∀o x,v≠.cH o x):u=v:=by
 rcases c with c| ⟨f,c⟩<;>rcases b with b| ⟨g,b⟩<;>rw[c]at b
 ·exact j7 b
 ·exact absurd (j7 b) (d _ _)
 ·exact absurd (j7 b).symm (e _ _)
 ·cases b;rfl
theorem Sw.ne(s:Sw a kvs G G')(h:Rd G b u)(n:∀o x,u≠.cH o x)(c:u≠.dK kvs):b≠a:=by
 rintro rfl
 exact c (Fd h s.was n (by intro o x z;cases z))
theorem Sw.tup {xs:List V}(s:Sw a kvs G G')(h:bz K G b xs):bz K G' b xs:=by
 rcases h with h|h
 ·exact .inl (s.rd h (s.ne h (by intro o x z;cases z) (by intro z;cases z)))
 ·exact .inr h
theorem Sw.lst {xs:List V}(s:Sw a kvs G G')(h:P7 K G b xs):P7 K G' b xs:=by
 rcases h with h|h
 ·exact .inl (s.rd h (s.ne h (by intro o x z;cases z) (by intro z;cases z)))
 ·exact .inr h
theorem Sw.dct {c:List (Key×V)}(s:Sw a kvs G G')(h:Rd G b (.dK c)):Rd G' b (.dK c):=by
 by_cases z:b=a
 ·subst z;rw[yC h s.was];exact s.now
 ·exact s.rd h z
theorem Sw.rep (s:Sw a kvs G G')(h:Rep K G v d):Rep K G' v d:=by
 induction h with
 |v1=>exact .v1
 |bl b=>exact .bl b
 |int i=>exact .int i
 |str cs=>exact .str cs
 |ty n=>exact .ty n
 |tup h hl _ ih=>exact .tup (s.tup h) hl ih
 |lst h hl _ ih=>exact .lst (s.lst h) hl ih
 |dct h hk _ ih=>exact .dct (s.dct h) hk ih
theorem Sw.KB (s:Sw a kvs G G')(h:o9 K G xs ds):o9 K G' xs ds:=⟨h.len,λj x d a b=>s.rep (h.get j x d a b)⟩
theorem Sw.DW (s:Sw a kvs G G')(h:l9 K G xs ds):l9 K G' xs ds:=⟨h.keys,λj x d a b=>s.rep (h.get j x d a b)⟩
theorem Sw.own (s:Sw a kvs G G')(e:H' p=H p)(h:B2 K G H p d):B2 K G' H' p d:=by
 cases d with
 |lst ds=>obtain⟨xs,q,r⟩:=h;exact⟨xs,by rw[e];exact q,s.KB r⟩
 |dct es=>obtain⟨xs,q,r⟩:=h;exact⟨xs,by rw[e];exact q,s.DW r⟩
 |_=>exact(show False from h).elim
theorem Sw.args (s:Sw a kvs G G')(b:∀p,G p=f7→G' p=f7)(c:∀p,G p=f7→H' p=H p):∀{ms:List Bool} {vs:List V} {ds:List D} {ps:List Addr},V3 K G H ms vs ds ps→V3 K G' H' ms vs ds ps
 |_,_,_,_,.nil=>.nil
 |_,_,_,_,.sh h r=>.sh (s.rep h) (Sw.args s b c r)
 |_,_,_,_,.ln g o n r=>.ln (b _ g) (s.own (c _ g) o) n (Sw.args s b c r)
end
noncomputable def Aa (i:Nat)(ρ:l5):l5:=match ρ[i]? with
 |some (e9 (.sh (.dct es)))=>ρ.set i (e9 (.fz es))
 |_=>ρ
noncomputable def jf (m:SM)(n:Nat)(ms:List Bool)(i:Nat)(ds:List D):Option FR:=(m (Aa i (B3 n ms ds))).bind (sI ms)
noncomputable def ue (K:PySem.W.Frag)(ms:List Bool)(i:Nat)(b:List D→Option FR):Sp:=λvs H Q E=>∃G ds ps r,j6 G H∧V3 K G H ms vs ds ps∧(∃a o kvs es,vs[i]?=e9 (.ref a)∧G a=e9 (.cH o (.dK kvs))∧ds[i]?=e9 (.dct es)∧l9 K G kvs es)∧b ds=e9 r∧match r with
 |.ret w fin=>∀v G' H',After K G H ps G' H' fin→pS K H G' H' v w→Q v H'
 |.exc _ _=>False
theorem iR:∀{ms:List Bool} {ds:List D} {i:Nat} {m:Bool} {d:D},ms[i]?=e9 m→ds[i]?=e9 d→(cells ms ds)[i]?=e9 (ki m d)
 |m::ms,d::ds,0,_,_,a,b=>by simp at a b;subst a b;rfl
 |m::ms,d::ds,i+1,_,_,a,b=>by
  show(cells ms ds)[i]?=_;exact iR (by simpa using a) (by simpa using b)
 | [],_,_,_,_,a,_=>by simp at a
 |_::_,[],_,_,_,_,b=>by simp at b
theorem RS.Ki(R:RS B G H σ ρ)(hi:ρ[i]?=e9 (e9 (.sh (.dct es))))(m:∃a o kvs,σ[i]?=e9 (e9 (.ref a))∧G a=e9 (.cH o (.dK kvs))∧l9 B.K G kvs es):RS B G H σ (ρ.set i (e9 (.fz es))):=by
 have d:i<ρ.length:=(List.getElem?_eq_some_iff.mp hi).1;refine⟨R.hk,R.keep,R.g0,R.gH,R.gnew,R.dom,by simp[R.len],λj e c=>?_,λj l e c=>?_,λj k l e n p q a b=>?_,λj f c=>?_,R.ob.jD (by intro _ h;cases h<;>rfl) (by intro _ h;cases h)⟩
 ·by_cases z:i=j
  ·subst z;rw[List.getElem?_set_self d]at c;cases c
  ·rw[List.getElem?_set_ne z]at c;exact R.sh j e c
 ·by_cases z:i=j
  ·subst z;rw[List.getElem?_set_self d]at c;cases c
  ·rw[List.getElem?_set_ne z]at c;exact R.ow j l e c
 ·by_cases z:i=j
  ·subst z;rw[List.getElem?_set_self d]at a;cases a
  ·by_cases g:i=k
   ·subst g;rw[List.getElem?_set_self d]at b;cases b
   ·rw[List.getElem?_set_ne z]at a;rw[List.getElem?_set_ne g]at b;exact R.inj j k l e n p q a b
 ·by_cases z:i=j
  ·subst z;rw[List.getElem?_set_self d]at c;cases c;exact m
  ·rw[List.getElem?_set_ne z]at c;exact R.fz j f c
section
variable {P:Program}{w:World}{K:PySem.W.Frag}{mg:Str→Option Value}{base:Heap}
theorem Gv {x:Str}{st:Stmt}{f:Addr}{fd:FuncData}{N ps:List Str}{ms:List Bool}{k i:Nat}{m:SM}(F:bc K x x st f fd)(S:n2 N ps (j8 st))(X:ms.length=ps.length)(y:ms[i]?=e9 f6)
  (n:∀(cdv:Value) (A:Around) (outer:List Env) (s:Shared) (H:Hp) (E:XK) (H0 HK G0:Hp) (L:Nat→Option Addr),O8 k (A.deeper (bW x (j8 st) s.heap.objs.size f cdv))→
   iU (lI V2 P w K mg base N x (j8 st) f cdv A outer s H E) ⟨K,H0,HK,G0,L,f7⟩ (G7 st) m):x5 P w K mg base V2 (k+1) f fd ps (ue K ms i (jf m N.length ms i)):=by
 have B:ps.length≤N.length:=by have:=congrArg List.length S.pre;rw[List.length_take]at this;omega
 refine F.ok S (λvs H Q E h=>?_) (λcdv A outer s H vs Q E hr h=>?_)
 ·obtain⟨G,ds,t,r,_,a,_⟩:=h;rw[a.len.1,X]
 obtain⟨G,ds,t,r,g,a,⟨a0,o0,kvs,es,I,J,O,R⟩,u,q⟩:=h;refine⟨_,((n cdv A outer s H E H (minus H t) G (S1 ms t) hr).ap λ_ _ _=>False).ay (λe s z=>?_),?_⟩
 ·obtain⟨_,_,_,_,_,_,z⟩:=z;exact z
 have T:=kO (N:=N) g a (by rw[a.len.1,X];exact B);have j:(B3 N.length ms ds)[i]?=e9 (e9 (.sh (.dct es))):=by
  have Y:=iR y O;unfold B3;rw[List.getElem?_append_left (List.getElem?_eq_some_iff.mp Y).1,Y];rfl
 have R0:=T.Ki j ⟨a0,o0,kvs,S3 I,J,R⟩;have hE:Aa i (B3 N.length ms ds)=(B3 N.length ms ds).set i (e9 (.fz es)):=by unfold Aa;rw[j]
 unfold jf at u;rw[hE]at u;cases hs:m ((B3 N.length ms ds).set i (e9 (.fz es)))with
 |none=>rw[hs]at u;cases u
 |some U=>
  rw[hs]at u;have c:sI ms U=e9 r:=u;refine⟨G,_,R0,U,hs,?_⟩;have fin:∀{ρ':l5} {l:St} {G' H':Hp} {b:List D},bP ms ρ'=e9 b→RS ⟨K,H,minus H t,G,S1 ms t,f7⟩ G' H' l ρ'→After K G H t G' H' b:=λ{ρ' l G' H' b} e R'=>
   ⟨R'.keep,R'.g0,R'.gH,R'.gnew,R'.dom,fb (λ_=>rfl) R' a 0 ρ' b (λi=>by rw[Nat.zero_add]) (λi=>by rw[Nat.zero_add]) e⟩
  cases U with
  |nx ρ'=>
   obtain⟨b,e,rfl⟩:=h9.mp c;exact λl G' H' Z R'=>q .v1 G' H' (fin e R') .v1
  |rt w' ρ'=>
   cases w' with
   |slot i=>cases c
   |val d=>
    obtain⟨b,e,rfl⟩:=h9.mp c;exact λv l G' H' Z R' o=>q v G' H' (fin e R') o
   |own d=>
    obtain⟨b,e,rfl⟩:=h9.mp c;exact λv l G' H' Z R' o=>q v G' H' (fin e R') (let⟨p,a1,a2,a3,a4,_⟩:=o;⟨p,a1,a2,a3,a4⟩)
  |ex x ρ'=>
   obtain⟨b,e,rfl⟩:=h9.mp c;exact q.elim
  |bk ρ'=>cases c
  |ct ρ'=>cases c
theorem GO {G H:Hp}{ms:List Bool}{vs:List V}{ds:List D}{ps:List Addr}{i:Nat}{d:D}(r:V3 K G H ms vs ds ps)(a:ms[i]?=e9 f6)(b:ds[i]?=e9 d):∃v,vs[i]?=e9 v∧Rep K G v d:=by
 obtain⟨v,e,h⟩:=V0 r (iR a b);rcases h with⟨c,q,h⟩ | ⟨p,c,q,_⟩
 ·cases q;exact⟨v,e,h⟩
 ·cases q
theorem Kj(F:x5 P w K mg base V2 k f fd ps (ue K ms i X))(hm:ms.length=ps.length)(Y:ms[i]?=e9 f6)(hd:∀ds r,X ds=e9 r→∃es,ds[i]?=e9 (.dct es)):
  x5 P w K mg base V2 k f fd ps (E3 K ms X):=by
 refine⟨λvs H Q E h=>?_,λA outer s H args us vs Q E hr c hb hv h=>?_⟩
 ·obtain⟨G,ds,Z,r,_,a,_⟩:=h;rw[a.len.1,hm]
 obtain⟨G,ds,Z,r,g,ar,hf,q⟩:=h;obtain⟨es,t⟩:=hd ds r hf;obtain⟨v,L,N⟩:=GO ar Y t;cases N with
 | @dct a kvs _ a0 hk O=>
  rcases a0 with B| ⟨o,B⟩
  ·have R:=g _ _ B;obtain⟨U,z2,a1,z3,o,a2,ep,ho,z4⟩:=(show I7 P w H s.heap a (.dK kvs)from c.hok a _ R)
   have ne:∀{b},H b=f7→b≠a:=λq z=>by rw[z,R]at q;cases q
   have S:∀{b},G b=f7→b≠a:=λq z=>by rw[z,B]at q;cases q
   have e1:rO P w K mg base A outer s (upd H a (.cH o (.dK kvs))):=⟨c.frames,c.mod,λb ob q=>⟨(c.bs b ob q).1,by rw[k0 (ne (c.bs b ob q).2)];exact(c.bs b ob q).2⟩,c.bsz,c.hU,λb q=>by rw[k0 (ne (c.frf b q))];exact c.frf b q,Gu c.hok R ho,c.bare⟩
   have sw:Sw a kvs G (upd G a (.cH o (.dK kvs))):=⟨λb z=>k0 z,.inl B,.inr ⟨o,m3⟩⟩
   have gs:j6 (upd G a (.cH o (.dK kvs))) (upd H a (.cH o (.dK kvs))):=λb u q=>by
    by_cases z:b=a
    ·subst z;rw[m3]at q⊢;exact q
    ·rw[k0 z]at q⊢;exact g b u q
   refine Z3 (F.run A outer s (upd H a (.cH o (.dK kvs))) args us vs (λv H'=>Q v (upd H' a (.dK kvs))) E hr e1 hb hv ⟨upd G a (.cH o (.dK kvs)),ds,Z,r,gs,sw.args (λp z=>by rw[k0 (S z)];exact z) (λp z=>k0 (S z)) ar,⟨a,o,kvs,es,L,m3,t,sw.DW ⟨hk,O⟩⟩,hf,?_⟩) λT s' l=>?_
   ·cases r with
    |exc x fin=>exact q
    |ret w' fin=>
     intro v G' H' n T;have I:G' a=e9 (.cH o (.dK kvs)):=n.gg a _ m3;have a3:H' a=e9 (.cH o (.dK kvs)):=n.gH a _ I;have J:Sw a kvs G' (upd G' a (.dK kvs)):=⟨λb z=>k0 z,.inr ⟨o,I⟩,.inl m3⟩
     have m:∀{b},G' b=f7→b≠a:=λq z=>by rw[z,I]at q;cases q
     refine q v (upd G' a (.dK kvs)) (upd H' a (.dK kvs)) ⟨λb u e=>?_,λb u e=>?_,λb u e=>?_,λb u e=>?_,λb e=>?_,?_⟩ ?_
     ·by_cases z:b=a
      ·subst z;have:=N7 _ _ _ _ e;rw[R]at this;rw[m3];exact this
      ·rw[k0 z];refine n.keep b u ?_;unfold minus at e⊢;split at e
       ·cases e
       ·rename_i hn;rw[if_neg hn,k0 z];exact e
     ·by_cases z:b=a
      ·subst z;rw[B]at e;rw[m3];exact e
      ·rw[k0 z];exact n.gg b u (by rw[k0 z];exact e)
     ·by_cases z:b=a
      ·subst z;rw[m3]at e⊢;exact e
      ·rw[k0 z]at e⊢;exact n.gH b u e
     ·by_cases z:b=a
      ·subst z;rw[m3]at e;rw[B];exact .inl e
      ·rw[k0 z]at e;rcases n.gnew b u e with y|y
       ·rw[k0 z]at y;exact .inl y
       ·rw[k0 z]at y;exact .inr y
     ·by_cases z:b=a
      ·subst z;rw[m3]at e;cases e
      ·rw[k0 z]at e;have y:=n.dom b e;rw[k0 z]at y;exact y
     ·exact L2.Paired.imp' (λp d ⟨U,z2⟩=>⟨by rw[k0 (m U)];exact U,J.own (k0 (m U)) z2⟩) n.lent
     ·cases w' with
      |val d=>exact J.rep T
      |slot j=>exact T.elim
      |own d=>
       obtain⟨p,rfl,y1,y2,y3⟩:=T;have zp:p≠a:=m y1;refine⟨p,rfl,by rw[k0 zp];exact y1,by rw[k0 zp]at y2;exact y2,J.own (k0 zp) y3⟩
   ·cases T with
    |error e=>exact l
    |ok fl=>
     cases fl with
     |ret u=>
      obtain⟨v,H',b1,b2,b3,b4,b5,b6⟩:=l;exact⟨v,upd H' a (.dK kvs),b1,b2,HD b3 R,Gq b4 (b3.frzs a o _ m3),b5,b6⟩
     |next=>exact l
     |brk=>exact l
     |cont=>exact l
  ·exact F.run A outer s H args us vs Q E hr c hb hv ⟨G,ds,Z,r,g,ar,⟨a,o,kvs,es,L,B,t,⟨hk,O⟩⟩,hf,q⟩
end
noncomputable def Ll (a:Addr)(o:Obj)(kvs:List (Key×V)):It:=
 ⟨λi H=>H a=e9 (.cH o (.dK kvs))∧i<kvs.length,λi H x H'=>H'=H∧∃kv,kvs[i]?=e9 kv∧x=kV kv.1,λi H=>H a=e9 (.cH o (.dK kvs))∧kvs.length≤i⟩
theorem CP(h:hH k v=f8):RelV (kV k) v:=by
 rcases x9 h with⟨i,t,rfl,rfl⟩ | ⟨x,t,rfl,rfl⟩
 ·exact⟨t,rfl⟩
 ·exact⟨t,rfl⟩
theorem vZ {P:Program}{w:World}{K:PySem.W.Frag}{tg:Expr}(a it:Addr)(o:Obj)(kvs:List (Key×V))(B:Nat)(r:∃es,o.data=.dict es B):Turn P w K tg (Ll a o kvs) [it] it (λi h=>h.IsKeyIter it a i kvs.length B) where
 mem:=by simp
 obj:=λi h st b l=>by
  have e:b=it:=by simpa using l
  subst e;obtain⟨o,e,c,d⟩:=st;exact⟨o,e,λv z=>by rw[d]at z;cases z⟩
 keep:=λi h h' st k=>by
  obtain⟨o,e,c,d⟩:=st;exact⟨o,k it (by simp) o e,c,d⟩
 item:=by
  intro X G J L hc i pins s σ H E I F st N;subst G J L;obtain⟨O,Q⟩:=N;obtain⟨t,z1,z2,vs,j,o',m,f,g,R,n,S⟩:=(show I7 X.prog X.w H s.heap a (.cH o (.dK kvs))from I.hok a _ O)
  obtain⟨es,p⟩:=r;have T:o'=o:=by rw[t]at g;exact(j7 g).symm
  subst T;have q:f=B:=by rw[p]at n;cases n;rfl
  subst q;have hl:=j.length;have U:s.heap.DictAt (r0 X.prog X.w) a vs f:=⟨o',m,t,R,n,S⟩
  obtain⟨f0,f1,f2,Y,Z,f5⟩:=F it (by simp);have u:vs[i]?=e9 vs[i]:=List.getElem?_eq_getElem (by omega);have x:kvs[i]?=e9 kvs[i]:=List.getElem?_eq_getElem Q;have a0:kvs[i].1=vs[i].1:=(fW j x u).1;refine wpAny_pyNext_dict_item (kvs:=vs) (k:=vs[i].1) (v:=vs[i].2) (by rw[←hl];exact st) U (by rw[u]) λkey h' y A sb=>?_;have I1:Inv X pins σ H {s with heap:=h'}:=I.turned (t':=s.toks) (λb o l e=>(sb.2 b l).trans e) f0 f1 Y Z f5;obtain⟨oi,e,c,d⟩:=id A;refine⟨key,rfl,eF (s:={s with heap:=h'}) e c d (by decide) ⟨kV kvs[i].1,H,I1,?_,⟨rfl,kvs[i],x,rfl⟩,by rw[hl];exact A,λb l=>(F b l).1⟩⟩;rw[a0];exact CP y
 done:=by
  intro X G J L hc i pins s σ H E I F st N;subst G J L;obtain⟨O,a1⟩:=N;obtain⟨t,z1,z2,vs,j,o',m,f,g,R,n,S⟩:=(show I7 X.prog X.w H s.heap a (.cH o (.dK kvs))from I.hok a _ O)
  obtain⟨es,p⟩:=r;have T:o'=o:=by rw[t]at g;exact(j7 g).symm
  subst T;have q:f=B:=by rw[p]at n;cases n;rfl
  subst q;have hl:=j.length;have U:s.heap.DictAt (r0 X.prog X.w) a vs f:=⟨o',m,t,R,n,S⟩
  obtain⟨f0,f1,f2,Y,Z,f5⟩:=F it (by simp);exact wpAny_pyNext_dict_end (I.ok.hd hc) (kvs:=vs) (by rw[←hl];exact st) U (List.getElem?_eq_none (by omega)) λh' eb=>⟨rfl,I.turned (t':=s.toks) (λb o l e=>eb b o l e) f0 f1 Y Z f5⟩
 self:=λ_ _ _ _ _ st h=>wpAny_pyIter_keyiter st h
section
variable {X:Cx}{tg:Expr}
theorem Ci(hl:PE X l m):PI X tg l (λσ H R=>m σ H λx c=>∃a o kvs,x=.ref a∧c a=e9 (.cH o (.dK kvs))∧R (Ll a o kvs) c):=by
 intro pins s σ H R I h;refine F3 (hl pins s σ H _ I h) λv s1 ⟨x,c,i,j,a,o,kvs,ex,r,q⟩=>?_;subst ex;cases j;obtain⟨n,A,t,vs,k,o',d,ep,f,j,p,u⟩:=(show I7 X.prog X.w c s1.heap a (.cH o (.dK kvs))from i.hok a _ r)
 have y:o'=o:=by rw[n]at f;exact(j7 f).symm
 subst y;have g:=k.length;refine wpAny_pyIter_dict (knd:=r0 X.prog X.w) (kvs:=vs) (ep:=ep) t ⟨o',d,n,j,p,u⟩ ?_;refine⟨s1.heap.objs.size,[s1.heap.objs.size],_,_,c,rfl,i.kept (t':=s1.toks) λb o e=>Heap.get?_push_of_some _ e,vZ a _ o' kvs ep ⟨d,p⟩,?_,λb z=>?_,q⟩
 ·rw[g];exact⟨_,Heap.get?_push_size _ rfl,rfl,rfl⟩
 ·have e:b=s1.heap.objs.size:=by simpa using z
  subst e;exact i.xl (Nat.le_refl _) (i.hok.fresh (Nat.le_refl _))
end
noncomputable def jp (k:Key):D:=match k with
 |.inl i=>D.int i
 |.inr x=>D.str x.cps.toList
noncomputable def nq (i:Nat):M (List D):=λρ=>match ρ[i]? with
 |some (e9 (.fz es))=>e9 (.ok (es.map λe=>jp e.1) ρ)
 |_=>f7
theorem BU {K:PySem.W.Frag}{G:Hp}(k:Key):Rep K G (kV k) (jp k):=by
 cases k with
 |inl i=>exact .int i
 |inr x=>exact jU x
section
variable {X:Cx}{B:Bs}{tg:Expr}
theorem Gp (i:Nat)(n:X.N[i]?=e9 x:=by rfl)(q:fB X.env.scope x:=by first|exact Or.inl rfl|exact Or.inr (Or.inl rfl) |exact Or.inr (Or.inr rfl))(hd:(x==("__debug__":Str))=f6:=by decide) (c:(x==("__classdict__":Str))=f6:=by decide):DF X B tg (.Name x pos) (nq i):=.mk λξ=>
 (Ci (bF (X:=rz X ξ) (i:=i) (pos:=pos) n q hd c)).imp λσ H w t=>by
  obtain⟨G,ρ,r,R,e,p⟩:=t;unfold nq at e;split at e
  ·rename_i es s;cases e;obtain⟨a,o,kvs,u,d,f⟩:=R.fz i es s;refine⟨.ref a,u,a,o,kvs,rfl,R.gH _ _ d,p (Ll a o kvs) G H (j6.refl _) R ⟨λl m j s1 s2 g=>?_,λl m s1 s2=>?_,λl m z j y s1 s2 g v=>?_⟩⟩
   ·refine⟨s2 _ _ (s1 _ _ d),?_⟩;rw[List.length_map,←f.len]at g;exact g
   ·refine⟨s2 _ _ (s1 _ _ d),?_⟩;rw[List.length_map,←f.len];exact Nat.le_refl _
   ·obtain⟨rfl,kv,hk,rfl⟩:=v;have b:(kvs.map (·.1))[j]?=e9 kv.1:=by rw[List.getElem?_map,hk];rfl
    rw[f.keys,List.getElem?_map]at b;obtain⟨e,h,k⟩:=h9.mp b;refine⟨rfl,jp kv.1,?_,BU _⟩;rw[List.getElem?_map,h];show e9 (jp e.1)=_;rw[k]
  ·cases e
end
theorem ce {K:PySem.W.Frag}{G:Hp}{x:Str}{cs:List Nat}(h:x.cps.toList=cs):Rep K G (.str x) (.str cs):=by
 subst h;exact jU x
theorem ue.imp {K:PySem.W.Frag}{ms:List Bool}{i:Nat}{f e:List D→Option FR}(h:∀ds r,f ds=e9 r→e ds=e9 r):∀vs H Q E,ue K ms i f vs H Q E→ue K ms i e vs H Q E:=by
 rintro vs H Q E ⟨G,ds,ps,r,a,b,b2,c,d⟩
 exact⟨G,ds,ps,r,a,b,b2,h ds r c,d⟩
section
variable {tg:FT}{b:SM}{c:M Bool}{ρ n3 x2:l5}{d:D}{ds:List D}{w:W}{n i j:Nat}{r:Option SR}{es:List (Key×D)}
theorem vg:forL tg b [] ρ=e9 (.nx ρ):=rfl
theorem E1 (a:tg d ρ=e9 n3)(c:b n3=e9 (.nx x2))(e:forL tg b ds x2=r):forL tg b (d::ds) ρ=r:=by
 unfold forL;rw[a];simp only[c];exact e
theorem pf (a:tg d ρ=e9 n3)(c:b n3=e9 (.rt w x2)):forL tg b (d::ds) ρ=e9 (.rt w x2):=by
 unfold forL;rw[a];simp only[c]
theorem By (a:c ρ=e9 (.ok f6 n3)):C3 c b (n+1) ρ=e9 (.nx n3):=by
 unfold C3;rw[u1 a];rfl
theorem gy (a:c ρ=e9 (.ok f8 n3))(d:b n3=e9 (.nx x2))(h:C3 c b n x2=r):C3 c b (n+1) ρ=r:=by
 unfold C3;rw[u1 a];show(match b n3 with|some (.nx x2)=>C3 c b n x2|some (.ct x2)=>C3 c b n x2|some (.bk x2)=>e9 (.nx x2) |r=>r)=r;rw[d];exact h
theorem jR (a:c ρ=e9 (.ok f8 n3))(d:b n3=e9 (.rt w x2)):C3 c b (n+1) ρ=e9 (.rt w x2):=by
 unfold C3;rw[u1 a];show(match b n3 with|some (.nx x2)=>C3 c b n x2|some (.ct x2)=>C3 c b n x2|some (.bk x2)=>e9 (.nx x2) |r=>r)=_;rw[d]
theorem Dg (h:ρ[i]?=e9 (e9 (.fz es))):nq i ρ=e9 (.ok (es.map λe=>jp e.1) ρ):=by
 unfold nq;rw[h]
theorem uD(h:den (Aa i (B3 n ms ds))=e9 a)(b:sI ms a=e9 fr):jf den n ms i ds=e9 fr:=by unfold jf;rw[h];exact b
end
noncomputable def BW:V→List V→Hp→VK→Prop:=λx vs H Q=>∃l xs k y,x=.ref l∧vs=[.int ((k:Nat):Int),y]∧H l=e9 (.lst xs)∧xs.length<sizeLine∧k≤1000000∧Q .v1 (upd H l (.lst (xs.take k++y::xs.drop k)))
theorem qc(b:RelV y u):∀{xs:List V} {a:List Value} (k:Nat),Vals xs a→Vals (xs.take k++y::xs.drop k) (a.take k++u::a.drop k)
 |_,_,0,r=>.cons b r
 |_,_,k+1,.nil=>.cons b .nil
 |_,_,k+1,.cons c d=>.cons c (qc b k d)
theorem CS (a:List Value)(k:Nat)(u:Value):(a.toArray.extract 0 (min k a.toArray.size)).push u++a.toArray.extract (min k a.toArray.size)=(a.take k++u::a.drop k).toArray:=by
 apply Array.toList_inj.mp;by_cases h:k≤a.length
 ·simp[Nat.min_eq_left h];exact List.take_of_length_le (by rw[List.length_drop];omega)
 ·have h':a.length≤k:=by omega
  simp[Nat.min_eq_right h',List.drop_of_length_le h',List.take_of_length_le h']
theorem wK:Lk X "list.insert" BW:=by
 intro pins s σ H x vs v us Q I g i h;obtain⟨l,xs,k,y,rfl,rfl,f,B,hk,q⟩:=h;cases g;obtain⟨E,c,rfl,j,o⟩:=vals2 i;obtain⟨p,rfl⟩:=j;obtain⟨z,a,n,r,hl,e⟩:=I.IH f;have b:¬(!k5.List.listFitsIndex ((k:Nat):Int))=f8:=by
  unfold Ma;have t:(-(2 ^ 63:Int)≤((k:Nat):Int)):=by omega
  have u:(((k:Nat):Int)<2 ^ 63):=by omega
  rw[decide_eq_true t,decide_eq_true u];exact p4
 have d:a.toArray.size≤sizeLine:=by rw[List.size_toArray];omega
 generalize w:((k:Nat):Int)=x at *;have m:=PySem.AutoSeq1.list_insert_list_int_val_1 l a.toArray n x p c b d;refine vP F.slot_list_insert ⟨_,e,rfl⟩ F.entry_list_insert (F.args_list_insert_3 _ _ _) m ⟨e,?_⟩;refine⟨.v1,_,I.II (Ba:=a.take k++c::a.drop k) f e ?_ (qc o k r) ?_,rfl,q⟩
 ·subst w;have A:¬(((k:Nat):Int)<0):=by omega
  simp only[if_neg A,G8];exact CS a k c
 rw[List.length_append,List.length_cons,List.length_take,List.length_drop];omega
noncomputable def hJ (i:Nat)(n:Int)(d:D):M W:=λρ=>match ρ[i]? with
 |some (e9 (.ow l (.lst ds)))=>dL (small ds.length∧0≤n∧n≤1000000) (e9 (.ok (.val .v1) (ρ.set i (e9 (.ow l (.lst (ds.take n.toNat++d::ds.drop n.toNat)))))))
 |_=>f7
noncomputable def xk (w:W):M Int:=λρ=>match getD w ρ with
 |some (.int n)=>e9 (.ok n ρ)
 |_=>f7
theorem ve(h:xk w ρ=e9 r):∃n,getD w ρ=e9 (.int n)∧r=.ok n ρ:=by
 unfold xk at h;split at h
 ·rename_i n e;cases h;exact⟨n,e,rfl⟩
 ·cases h
noncomputable def kb (i:Nat)(m:M (List W)):M W:=M.bind (h7 i) λx=>M.bind (rZ "list" x) λ_=>M.bind m λa=>match a with
 | [b,w]=>M.bind (xk b) λn=>M.bind (D8 w) (hJ i n)
 |_=>λ_=>f7
section
variable {X:Cx}{B:Bs}{o e e2:Expr}{es:List Expr}{mr:M (List W)}{apos cpos Jq:Pos}{x:Str}
theorem yB {K:PySem.W.Frag}{G:Hp}{v:V}{d:D}(a:Rep K G v d):∀{xs:List V} {ds:List D} (k:Nat),o9 K G xs ds→o9 K G (xs.take k++v::xs.drop k) (ds.take k++d::ds.drop k):=by
 intro xs ds k r;exact(r.take k).append (.cons a (r.drop k))
theorem Ax (i:Nat)(P:PD X B o (h7 i))(S:gl X B [e,e2] mr)
  (c:x0 o "insert" X.env (eval o X.env)=eval o X.env:=by rfl)
  (j:((m4 cpos (h8 [e,e2] X.env)).all (λx=>!x.1)&&(y4 cpos (o1 [] X.env)).all (λx=>x.1.isSome)
   && decide (([e,e2]:List Expr).length+([]:List Keyword).length+(if([]:List Keyword).isEmpty then 0 else 1)<30))=f8:=by rfl)
  (f:(apos.endLine==cpos.line)=f8:=by rfl) (hs:h8 [e,e2] X.env=(f6,eval e X.env)::h8 [e2] X.env:=by rfl) (b:(m4 cpos (h8 [e2] X.env)).any (·.1)=f6:=by rfl) (T:X.K=B.K:=by rfl):
  PD X B (.Call (.Attribute o "insert" apos) [e,e2] [] cpos) (kb i mr):=.mk λξ=>
 (uE (X:=rz X ξ) PySem.F.plainAttrs_list PySem.F.slot_list_insert PySem.F.type_list_insert wK (P.ap ξ) (S.ap ξ) c j f hs b).imp λσ H Q t=>by
  obtain⟨G,ρ,R,t⟩:=t;refine(TD.vF (L8:=C4) R t).mono λx U ⟨G1,Y,w,a,s1,k,E,Z⟩=>?_;obtain⟨rfl,rfl⟩:=ey a;have I:σ[i]?=e9 (e9 x):=E;obtain⟨u,m,e2,t3⟩:=Z.step λr h=>⟨(),_,(bU h).1⟩;obtain⟨e3,d,hd,ty⟩:=bU e2;cases e3;refine⟨by show Hd X.K "list" x U;rw[T];exact si k (E.get k hd) ty,?_⟩;refine(TD.bind (L8:=M8) k t3).mono λvs H2 ⟨G2,m,ws,s2,R2,q,s⟩=>?_
  match ws,q,s with
  | [],_,⟨r,a,_⟩=>cases a
  | [_],_,⟨r,a,_⟩=>cases a
  |_::_::_::_,_,⟨r,a,_⟩=>cases a
  | [wi,w],q,s=>
   cases q with
   | @cons J _ vs _ h1 t1=>
    cases t1 with
    | @cons v _ vs _ h t=>
     cases t;obtain⟨n,L,e0,t5⟩:=s.step λr h=>by
      obtain⟨n,_,e⟩:=ve h;exact⟨n,_,e⟩
     obtain⟨n',y,z⟩:=ve e0;cases z;obtain⟨dv,a0,e4,r,a,p⟩:=t5.step λr h=>ag h;obtain⟨G3,s3,N,rv⟩:=h.1.D8 R2 e4;unfold hJ at a;split at a
     ·rename_i l ds hi;obtain⟨⟨hz,A,a1⟩,a⟩:=p5 a;cases a;obtain⟨pp,rfl,g,xs,hx,O⟩:=slot_of N hi I;have hn:J=.int ((n.toNat:Nat):Int):=by
       have:J=.int n:=(h1.1.get R2 y).int;rw[this,Int.toNat_of_nonneg A]
      refine⟨pp,xs,n.toNat,v,rfl,by rw[hn],hx,?_,by omega,?_⟩
      ·rw[O.len,v0];unfold small at hz;omega
      ·exact p .v1 G3 _ s3 (N.write hi I ⟨xs.take n.toNat++v::xs.drop n.toNat,m3,yB rv n.toNat O⟩) .v1
     ·cases a
variable {ρ n3 x2 gm:l5}{wi w:W}{d:D}{ds MP:List D}{i:Nat}{n:Int}{l:Bool}
theorem Dk (c:ρ[i]?=e9 (e9 (.ow l (.lst MP))))(e:mr ρ=e9 (.ok [wi,w] n3))(f:getD wi n3=e9 (.int n))(hl:D8 w n3=e9 (.ok d x2))(g:x2[i]?=e9 (e9 (.ow l (.lst ds))))(h:small ds.length)(a:0≤n)(b:n≤1000000)
  (hs:x2.set i (e9 (.ow l (.lst (ds.take n.toNat++d::ds.drop n.toNat))))=gm):F7 (kb i mr) ρ=e9 (.nx gm):=by
 subst hs;refine W9 (w:=.val .v1) ?_;unfold kb;have j:rZ "list" (.slot i) ρ=e9 (.ok () ρ):=by
  unfold rZ getD;simp only[c];rfl
 have k:xk wi n3=e9 (.ok n n3):=by unfold xk;rw[f]
 rw[M.j9 (g7 c),M.j9 j,M.j9 e];show M.bind (xk wi) (λn=>M.bind (D8 w) (hJ i n)) n3=_;rw[M.j9 k,M.j9 hl];unfold hJ;rw[g];exact v7 ⟨h,a,b⟩
end
def Kept (h h':Heap):Prop:=∀b o,h.get? b=e9 o→h'.get? b=e9 o
open AutoSeq1 (wpAny_loadPart')
theorem IT (a v:Value):checkTypeCall "enumerate" ⟨[a],[("start",v)]⟩=pure ():=by kernel_rfl
theorem IU (a v:Value):Ka "enumerate.__new__" ⟨[.type "enumerate",a],[("start",v)]⟩=pure ():=by kernel_rfl
theorem IV (o a v:Value):argsOk "object.__init__" ⟨[o,a],[("start",v)]⟩:=by unfold argsOk;kernel_rfl
theorem GC (l:Addr)(a:Array Value)(n:Nat)(dct:Option Addr)(sl:Array (Option Value))(t:Tok):
  Meets (k5.«enumerate.__new__» ⟨[.type "enumerate",.ref l],[("start",.int 1 t)]⟩) (λ_ R s=>s.heap.get? l=e9 {cls:=.type "list",dict:=dct,data:=.seq a n,slots:=sl}∧
   R (.ok (.ret (.ref (s.heap.push {cls:=.type "list_iterator",data:=.fields #[.ref l,.int 0 0]}).objs.size)))
    {s with heap:=(s.heap.push {cls:=.type "list_iterator",data:=.fields #[.ref l,.int 0 0]}).push {cls:=.type "enumerate",data:=.fields #[.none,.bool f6,.ref s.heap.objs.size,rawInt 1,.none,.none]}}):=
 .of_wp λprog w A R s h=>by
  obtain⟨f,g,d,i,os⟩:=s;obtain⟨hl,h⟩:=h;have e:=sub_enumerate;have b:Heap.IsList (Shared.heap ⟨f,g,d,i,os⟩) l a:=⟨_,hl,rfl,n,rfl⟩
  wp_walk using io hl
  refine wpAny_stack_any λst=>j5 ?_;split
  ·rename_i c _ _ _ _ _;cases(c==Value.type "enumerate")
   ·wp_walk using io hl,K3 b
    all_goals exact⟨_,rfl,h⟩
   ·wp_walk using io hl,K3 b
    all_goals exact⟨_,rfl,h⟩
  ·wp_walk using io hl,K3 b
   all_goals exact⟨_,rfl,h⟩
theorem Dq(hl:aV (.type T) "__init__"=pure (e9 (.builtin "object.__init__")))
  (g:Bind.madeBy (.type T)=pure (e9 b)) (f:(e9 b != e9 "object.__new__")=f8):
  Meets (k5.«object.__init__» ⟨self::c,d⟩) (λ_ R s=>s.TypeIs self T∧R (.ok (.ret .none)) s):=by
 refine Meets.of_wp λprog w A R s hs=>?_;obtain⟨h,e⟩:=hs;cases c with
 |nil=>
  cases d with
  |nil=>exact j5 ⟨_,rfl,e⟩
  |cons k d=>
   repeat (any_goals (first|assumption|wp_step))
   exact⟨_,rfl,e⟩
 |cons a c=>
  repeat (any_goals (first|assumption|wp_step))
  exact⟨_,rfl,e⟩
section
variable {prog:Program}{w:World}{A:Around}{E:Value→Shared→Prop}{s:Shared}
theorem Dr(y:s.heap.IsList l a)
  (h:∀h',IsEnum h' (s.heap.objs.size+1) s.heap.objs.size 1 .none→h'.IsListIter s.heap.objs.size l 0→Kept s.heap h'→Q (.ref (s.heap.objs.size+1)) {s with heap:=h'}):
  wpAny (model prog w) A (call (.type "enumerate") [.ref l] [("start",.int 1 t)]) Q E s:=by
 obtain⟨⟨c,dct,z,sl⟩,hl,g,n,hd⟩:=y;replace g:c=.type "list":=g;replace hd:z=.seq a n:=hd;subst g hd;have d:=F.called_enumerate;obtain⟨c,L,k⟩:=d.mro;have i:=d.made;have m:=d.sub;have B:=IT (.ref l) (.int 1 t);have p:(s.heap.push {cls:=.type "list_iterator",data:=.fields #[.ref l,.int 0 0]}).objs.size=s.heap.objs.size+1:=Heap.size_push ..;refine Ho (Lr (show wpAny _ _ (callAny (.type "enumerate") _) _ _ _ from j5 ⟨Code.quiet_builtin _ (by decide +kernel),I9 F.entry_type_call ?_⟩));rw[Around.under_plain (weight_type_call_type "enumerate" [.ref l] [("start",.int 1 t)]) (units_type_call_type "enumerate" [.ref l] [("start",.int 1 t)])];have N:=d.notType;have O:=d.canCreate;repeat (any_goals (first|assumption|wp_step))
 refine Z3 (bC d.plain F.entry_enumerate_new (wpAny_of_eq (IU (.ref l) (.int 1 t)) (GC l a n dct sl t prog w A.in1 (wants (λobj s1=>obj=.ref (s.heap.objs.size+1)∧s1={s with heap:=(s.heap.push {cls:=.type "list_iterator",data:=.fields #[.ref l,.int 0 0]}).push {cls:=.type "enumerate",data:=.fields #[.none,.bool f6,.ref s.heap.objs.size,rawInt 1,.none,.none]}}) E) s ⟨hl,by rw[p];exact⟨rfl,rfl⟩⟩))) λr s1 hr=>?_;cases r with
 |error e=>exact hr
 |ok G=>
  cases G with
  |ret obj=>
   obtain⟨rfl,rfl⟩:=hr;have q:IsEnum ((s.heap.push {cls:=.type "list_iterator",data:=.fields #[.ref l,.int 0 0]}).push {cls:=.type "enumerate",data:=.fields #[.none,.bool f6,.ref s.heap.objs.size,rawInt 1,.none,.none]}) (s.heap.objs.size+1) s.heap.objs.size 1 .none:=by
    have:=Heap.get?_push_size (s.heap.push {cls:=.type "list_iterator",data:=.fields #[.ref l,.int 0 0]}) (o:={cls:=.type "enumerate",data:=.fields #[.none,.bool f6,.ref s.heap.objs.size,rawInt 1,.none,.none]}) rfl;rw[p]at this;exact this
   have u:=h _ q ⟨_,Heap.get?_push_of_some _ (Heap.get?_push_size _ rfl),rfl,rfl⟩ (λb o x=>Heap.get?_push_of_some _ (Heap.get?_push_of_some _ x));have v:({s with heap:=(s.heap.push {cls:=.type "list_iterator",data:=.fields #[.ref l,.int 0 0]}).push {cls:=.type "enumerate",data:=.fields #[.none,.bool f6,.ref s.heap.objs.size,rawInt 1,.none,.none]}}:Shared).TypeIs (.ref (s.heap.objs.size+1)) "enumerate":=⟨_,q,rfl⟩
   have H:=d.init.lookup;have I:=d.init.bind (.ref (s.heap.objs.size+1));repeat (any_goals (first|assumption|wp_step))
   refine Z3 (bC d.init.plain F.entry_object_init (d.init.check _ _ _ _ _ _ _ _ v (IV _ _ _) (Dq d.init.lookup d.made (by decide) prog w A.in1 (wants (λr s2=>r=.none∧Q (.ref (s.heap.objs.size+1)) s2) E) _ ⟨v,rfl,u⟩))) λJ s2 f=>?_;cases J with
   |error e=>exact f
   |ok j=>
    cases j with
    |ret r=>
     obtain⟨rfl,u⟩:=f;repeat (any_goals (first|assumption|wp_step))
    |_=>exact f.elim
  |_=>exact hr.elim
end
theorem sZ:aV (.type "enumerate") "keys"=pure f7:=by rw[W3,F8];kernel_rfl
theorem mF:aV (.type "enumerate") "__getattr__"=pure f7:=by rw[W3,F8];kernel_rfl
theorem rm:entryFor table "enumerate.__getattribute__"=e9 k5.«object.__getattribute__»:=
 entryFor_alias (id':="object.__getattribute__") (by kernel_rfl) (by first|rfl|decide +kernel| (unfold String.splitOn;simp +decide [String.splitOnAux])) (by decide +kernel) (by kernel_rfl)
section
variable {prog:Program}{w:World}{A:Around}{E:Value→Shared→Prop}{h:Heap}{g:Array GenState}{d:Drawn}{t:Nat}{os:OsState}{a:Addr}{fs:Array Value}
theorem mG(e:A.handled=f7)(f:h.get? a=e9 {cls:=.type "enumerate",dict:=f7,data:=.fields fs,slots:=#[]})
   (i:∀x h' j,(∀b o,h.get? b=e9 o→h'.get? b=e9 o)→(∃o,h'.get? x=e9 o∧o.cls=.type "AttributeError")→E (.ref x) ⟨h',g,d,j,os⟩):
    wpAny (model prog w) A (k5.«object.__getattribute__» ⟨[.ref a,.str "keys" c],[]⟩) Q E ⟨h,g,d,t,os⟩:=by
  have k:(⟨h,g,d,t,os⟩:Shared).TypeIs (.ref a) "enumerate":=⟨_,f,rfl⟩
  have l:=sZ;repeat (any_goals (first|assumption|wp_step))
  refine PySem.lg e ?_ i;decide +kernel
theorem oZ(f:A.handled=f7)(c:h.get? a=e9 {cls:=.type "enumerate",dict:=f7,data:=.fields fs,slots:=#[]})
   (i:∀x h' j,(∀b o,h.get? b=e9 o→h'.get? b=e9 o)→(∃o,h'.get? x=e9 o∧o.cls=.type "AttributeError")→R (.error (.ref x)) ⟨h',g,d,j,os⟩):
    Z4 (model prog w) A (.call (.builtin "enumerate.__getattribute__") ⟨[.ref a,.str "keys" e],[]⟩) R ⟨h,g,d,t,os⟩:=
  bC F.slot_enumerate_getattribute.plain rm (F.slot_enumerate_getattribute.check _ _ _ _ _ _ _ _ (show(⟨h,g,d,t,os⟩:Shared).TypeIs (.ref a) "enumerate" from⟨_,c,rfl⟩) (F.args_enumerate_getattribute_2 _ _) (mG f c i))
theorem tj(i:A.handled=f7)(e:h.get? a=e9 {cls:=.type "enumerate",dict:=f7,data:=.fields fs,slots:=#[]})
   (j:∀x h' c,(∀b o,h.get? b=e9 o→h'.get? b=e9 o)→(∃o,h'.get? x=e9 o∧o.cls=.type "AttributeError")→E (.ref x) ⟨h',g,d,c,os⟩):wpAny (model prog w) A (getAttrBy (.ref a) (.str "keys" f) f6) Q E ⟨h,g,d,t,os⟩:=by
  have l:(⟨h,g,d,t,os⟩:Shared).TypeIs (.ref a) "enumerate":=⟨_,e,rfl⟩
  have m:=F.slot_enumerate_getattribute.lookup;have n:=F.slot_enumerate_getattribute.bind (.ref a);have p:=mF;have q:=PySem.F.Q2;repeat (any_goals (first|assumption|wp_step))
  refine oZ i e λx h' c kp ex=>?_;have k:(⟨h',g,d,c,os⟩:Shared).TypeIs (.ref x) "AttributeError":=ex;repeat (any_goals (first|assumption|wp_step))
  exact j x h' c kp ex
theorem pb(e:A.handled=f7)(f:h.get? a=e9 {cls:=.type "enumerate",dict:=f7,data:=.fields fs,slots:=#[]})
   (i:∀h' c,(∀b o,h.get? b=e9 o→h'.get? b=e9 o)→Q f7 ⟨h',g,d,c,os⟩):wpAny (model prog w) A (Ex (.ref a) "keys") Q E ⟨h,g,d,t,os⟩:=by
  unfold Ex getAttrBy?;have k:=PySem.F.Q2;repeat (any_goals (first|assumption|with_reducible apply tj e f|wp_step))
  intro x h' c kp ex;have j:(⟨h',g,d,c,os⟩:Shared).TypeIs (.ref x) "AttributeError":=ex;repeat (any_goals (first|assumption|wp_step))
  exact i h' c kp
end
structure uh (b0:Nat) (h:Heap) (e it:Addr) (i:Int):Prop where
 ex:∃f0 f1 old,h.get? e=some {cls:=.type "enumerate",dict:=none,data:=.fields #[f0,.bool f1,.ref it,rawInt i,.none,old],slots:=#[]}∧(f0=.none∨∃(a:Nat) (o:Obj),f0=rawInt a∧b0≤a∧a≠e∧a≠it∧h.get? a=some o)
theorem qa {M:Model}{A:Around}{E:Value→Shared→Prop}{s:Shared}{a:Addr}{Q:Option Obj→Shared→Prop}(h:Q (s.heap.get? a) s):wpAny M A (loadIfAlive a) Q E s:=λ_ _ _=>h
section
variable {prog:Program}{w:World}{A:Around}{E:Value→Shared→Prop}{s:Shared}
theorem Ar {b0:Nat}{e it l:Addr}{j:Nat}{i:Int}{k:Array Value}{x:Value}{Q:Value→Shared→Prop}(hE:uh b0 s.heap e it i)(hI:s.heap.IsListIter it l j)(hl:s.heap.IsList l k)(hx:k[j]?=e9 x)(n:e≠it)(T:b0≤s.heap.objs.size)
  (hQ:∀h',uh b0 h' e it (i+1)→h'.IsListIter it l (j+1)→h'.get? s.heap.objs.size=e9 {cls:=.type "tuple",data:=.seq #[.int i s.toks,x]}→(∀b o,b≠e→b≠it→s.heap.get? b=e9 o→h'.get? b=e9 o)→Q (.ref s.heap.objs.size) {s with heap:=h',toks:=s.toks+1}):
  wpAny (model prog w) A (k5.«enumerate.__next__» ⟨[.ref e],[]⟩) (λfin s'=>∃v,fin=.done (.ret v)∧Q v s') E s:=by
 obtain⟨p,g,d,c,os⟩:=s;obtain⟨f0,f1,old,U,hf⟩:=hE.ex;refine g8 (m:=My (.ref e) 2) (u5 U rfl (x:=.ref it) rfl (g8 (wpAny_nextOf_list_item hI hl hx λH X I=>?_)));have I:Heap.SameBut it p H:=I;have Y:=(I.2 e n).trans U;refine g8 (m:=My (.ref e) 3) (u5 (s:=⟨H,g,d,c,os⟩) Y rfl (x:=rawInt i) rfl ?_);refine g8 (m:=My (.ref e) 4) (u5 (s:=⟨H,g,d,c,os⟩) Y rfl (x:=.none) rfl ?_);refine g8 (m:=mkInt i) (wpAny_mkInt ?_);refine g8 (m:=Mp (.ref e) 3 (rawInt (i+1))) (O3 (s:=⟨H,g,d,c+1,os⟩) Y (by simp) λZ g2 J=>?_);have J:Heap.SameBut e H Z:=J;refine g8 (m:=Mp (.ref e) 4 .none) (O3 (s:=⟨Z,g,d,c+1,os⟩) g2 (by simp) λu g3 L=>?_);have L:Heap.SameBut e Z u:=L;have g3:u.get? e=e9 {cls:=.type "enumerate",dict:=f7,data:=.fields #[f0,.bool f1,.ref it,rawInt (i+1),.none,old],slots:=#[]}:=g3;refine g8 (m:=newTuple [.int i c,x]) (wpAny_newTuple ?_);have hz:u.objs.size=p.objs.size:=by rw[L.1,J.1,I.1]
 have F:(u.push {cls:=.type "tuple",data:=.seq #[.int i c,x]}).get? e=e9 {cls:=.type "enumerate",dict:=f7,data:=.fields #[f0,.bool f1,.ref it,rawInt (i+1),.none,old],slots:=#[]}:=Heap.get?_push_of_some _ g3;have t4:(u.push {cls:=.type "tuple",data:=.seq #[.int i c,x]}).get? p.objs.size=e9 {cls:=.type "tuple",data:=.seq #[.int i c,x]}:=by rw[←hz];exact Heap.get?_push_size _ rfl
 have k4:∀b o,b≠e→b≠it→p.get? b=e9 o→(u.push {cls:=.type "tuple",data:=.seq #[.int i c,x]}).get? b=e9 o:=λb o y N q=>Heap.get?_push_of_some _ ((L.2 b y).trans ((J.2 b y).trans ((I.2 b N).trans q)));have i4:(u.push {cls:=.type "tuple",data:=.seq #[.int i c,x]}).IsListIter it l (j+1):=by
  obtain⟨o,t,r⟩:=X;exact⟨o,Heap.get?_push_of_some _ ((L.2 it (x8 n)).trans ((J.2 it (x8 n)).trans t)),r⟩
 have G:e<p.objs.size:=Heap.lt_size U;have a1:it<p.objs.size:=by obtain⟨o,t,_⟩:=hI;exact Heap.lt_size t
 generalize u.push {cls:=.type "tuple",data:=.seq #[.int i c,x]}=f at *;rw[hz];rcases hf with rfl| ⟨a,o,rfl,a0,ae,ai,t⟩
 ·refine g8 (m:=bX (.ref e)) (g8 (u5 (s:=⟨f,g,d,c+1,os⟩) F rfl (x:=.none) rfl (j5 ?_)));simp only[if_true];refine g8 (Hl (g8 (u5 (s:=⟨f,g,d,c+1,os⟩) F rfl (x:=old) rfl (g8 (O3 (s:=⟨f,g,d,c+1,os⟩) F (by simp) λh5 g5 b5=>?_)))));have b5:Heap.SameBut e f h5:=b5;refine g8 (m:=DO (.ref e) (.ref p.objs.size)) (g8 (O3 (s:=⟨h5,g,d,c+1,os⟩) g5 (by simp) λh6 g6 b6=>O3 (s:=⟨h6,g,d,c+1,os⟩) g6 (by simp) λh O P=>?_));have b6:Heap.SameBut e h5 h6:=b6;have P:Heap.SameBut e h6 h:=P;have B:∀b o,b≠e→f.get? b=e9 o→h.get? b=e9 o:=λb o z q=>(P.2 b z).trans ((b6.2 b z).trans ((b5.2 b z).trans q));have t7:=B _ _ (Nat.ne_of_gt G) t4;refine g8 (wpAny_letGo (j5 ⟨_,rfl,hQ h ⟨⟨_,_,_,O,.inr ⟨p.objs.size,_,rfl,T,Nat.ne_of_gt G,Nat.ne_of_gt a1,t7⟩⟩⟩ ?_ t7 λb o y N q=>B b o y (k4 b o y N q)⟩));obtain⟨o,t,r⟩:=i4;exact⟨o,B _ _ (x8 n) t,r⟩
 ·have R:=k4 a o ae ai t;have fin:∀h,(∃S,h.get? e=e9 {cls:=.type "enumerate",dict:=f7,data:=.fields #[rawInt a,.bool S,.ref it,rawInt (i+1),.none,old],slots:=#[]})→(∀b o,b≠e→f.get? b=e9 o→h.get? b=e9 o)→Q (.ref p.objs.size) ⟨h,g,d,c+1,os⟩:=by
   intro h ⟨S,O⟩ B;refine hQ h ⟨⟨_,_,_,O,.inr ⟨a,o,rfl,a0,ae,ai,B _ _ ae R⟩⟩⟩ ?_ (B _ _ (Nat.ne_of_gt G) t4) λb o y N q=>B b o y (k4 b o y N q);obtain⟨o,t,r⟩:=i4;exact⟨o,B _ _ (x8 n) t,r⟩
  refine g8 (m:=bX (.ref e)) (g8 (u5 (s:=⟨f,g,d,c+1,os⟩) F rfl (x:=rawInt a) rfl ?_));refine g8 (m:=loadIfAlive ((a:Int).toNat)) (qa (s:=⟨f,g,d,c+1,os⟩) ?_);rw[show((a:Nat):Int).toNat=a from rfl];rw[show(Shared.heap ⟨f,g,d,c+1,os⟩).get? a=e9 o from R];show wpAny _ _ (My (.ref e) 1 >>= λ_=>_) _ _ _;refine g8 (u5 (s:=⟨f,g,d,c+1,os⟩) F rfl (x:=.bool f1) rfl ?_);cases f1 with
  |true=>exact j5 (j5 ⟨_,rfl,fin f ⟨f8,F⟩ λ_ _ _ q=>q⟩)
  |false=>exact g8 (O3 (s:=⟨f,g,d,c+1,os⟩) F (by simp) λh O P=>j5 (j5 ⟨_,rfl,fin h ⟨f8,O⟩ λb o z q=>((show Heap.SameBut e f h from P).2 b z).trans q⟩))
theorem Dp(h:uh b0 s.heap e it i)(n:s.heap.IsListIter it l j)(hl:s.heap.IsList l d)(p:d[j]?=e9 x)(f:e≠it)(g:b0≤s.heap.objs.size)
  (q:∀h',uh b0 h' e it (i+1)→h'.IsListIter it l (j+1)→h'.get? s.heap.objs.size=e9 {cls:=.type "tuple",data:=.seq #[.int i s.toks,x]}→(∀b o,b≠e→b≠it→s.heap.get? b=e9 o→h'.get? b=e9 o)→Q (e9 (.ref s.heap.objs.size)) {s with heap:=h',toks:=s.toks+1}):
  wpAny (model prog w) A (pyNext (.ref e)) Q E s:=by
 obtain⟨f0,f1,old,r,t⟩:=id h.ex;have m:s.TypeIs (.ref e) "enumerate":=⟨_,r,rfl⟩
 unfold pyNext;exact g8 (MQ (Y4 (name:=Str.ofString "__next__") m F.slot_enumerate_next (aU F.slot_enumerate_next m F.entry_enumerate_next (Ar h n hl p f g λh' a b c k=>j5 (q h' a b c k)) (F.args_enumerate_next_1 _))))
theorem GD(h:A.handled=f7)(k:uh b0 s.heap e it i)(n:s.heap.IsListIter it l j)(hl:s.heap.IsList l a)(p:a[j]?=f7)
  (q:∀h',Heap.ExtBut it s.heap h'→Q f7 {s with heap:=h'}):wpAny (model prog w) A (pyNext (.ref e)) Q E s:=by
 obtain⟨f0,f1,old,f,u⟩:=id k.ex;have g:s.TypeIs (.ref e) "enumerate":=⟨_,f,rfl⟩
 unfold pyNext;refine g8 (MQ (Y4 (name:=Str.ofString "__next__") g F.slot_enumerate_next (aU F.slot_enumerate_next g F.entry_enumerate_next (g8 (m:=My (.ref e) 2) (u5 f rfl (x:=.ref it) rfl ?_)) (F.args_enumerate_next_1 _))));refine g8 (wpAny_nextOf_list_end h n hl p λh' x c d=>?_);obtain⟨o,r,t⟩:=d;exact g8 (JV (T:="StopIteration") (b:=f8) ⟨o,r,t⟩ isSubtype_stop (j5 (q _ c)))
end
section
variable {prog:Program}{w:World}{A:Around}{E:Value→Shared→Prop}{K:Type}[DecidableEq K]{knd:KeyKind prog w K}
theorem GB (d e it l : Addr) (g : Array Value) (ps : List (K × Value)) (hh : A.in1.handled = f7) (L : l ≠ d) (N : l ≠ it) (O : l ≠ e) (n : d ≠ it) (B : d ≠ e) (P : e ≠ it) (b0 : Nat) (Q : d < b0) (f : Value) (a6 : ps.length = g.size)
    (S : ∀ (j : Nat) (p : K × Value), ps[j]? = e9 p → g[j]? = e9 p.2 ∧ ∀ E, knd.is p.1 (.int ((j : Int) + 1) E) = f8) (R : Mz → Shared → Prop) :
  ∀ (m i : Nat) (kvs : List (K × Value)) (s : Shared), m = ps.length - i → i ≤ ps.length → b0 ≤ s.heap.objs.size →
   s.heap.DictOf knd d kvs → uh b0 s.heap e it ((i : Int) + 1) → s.heap.IsListIter it l i → s.heap.IsList l g → kvs.length + m ≤ sizeLine →
   (∀ h' E, h'.DictOf knd d (Bu kvs (ps.drop i)) → (∀ b o, b ≠ d → b ≠ it → b ≠ e → s.heap.get? b = e9 o → h'.get? b = e9 o) → R (.ok (.ret f)) { s with heap := h', toks := E }) →
   Z4 (model prog w) A (.builtin "dict.update.loop" ⟨[.ref d, .ref e, rawInt i, f], []⟩) R s := by
  intro m
  induction m with
  | zero =>
    intro i kvs s hm hi r hd T t hl U X
    have Y : i = ps.length := by omega
    refine I9 PySem.F.C7 (by
      rw [A9 PySem.F.n9 _]
      show wpAny _ A.in1 (pyNext (.ref e) >>= fun _ => _) _ _ s
      refine g8 (GD hh T t hl (by rw [sf]; omega) fun h' eb => ?_)
      show wpAny _ A.in1 (jQ d [] >>= fun _ => ret f) _ _ _
      refine g8 (j5 (j5 (X h' s.toks ?_ fun b o hb Z a7 q => eb b o Z q)))
      rw [Y, List.drop_length]
      obtain ⟨o, es, ep, u, c⟩ := hd
      exact ⟨o, es, ep, eb d o n u, c⟩)
  | succ m ih =>
    intro i kvs s hm hi r hd T t hl U X
    have G : i < ps.length := by omega
    obtain ⟨hx, H⟩ := S i ps[i] (List.getElem?_eq_getElem G)
    refine I9 PySem.F.C7 (by
      rw [A9 PySem.F.n9 _]
      show wpAny _ A.in1 (pyNext (.ref e) >>= fun _ => _) _ _ s
      refine g8 (Dp T t hl hx P r fun h' a0 I ht kp => ?_)
      have a1 : h'.DictOf knd d kvs := by obtain ⟨o, es, ep, u, c⟩ := hd; exact ⟨o, es, ep, kp d o B n u, c⟩
      have hT : ({ s with heap := h', toks := s.toks + 1 } : Shared).TypeIs (.ref s.heap.objs.size) "tuple" := ⟨_, ht, rfl⟩
      show wpAny _ A.in1 (W4 [Value.ref s.heap.objs.size] _ >>= fun _ => _) _ _ { s with heap := h', toks := s.toks + 1 }
      refine g8 (w6 (g8 (Mm ?_)))
      unfold lU
      refine g8 (T1 hT ?_)
      rw [if_pos (by decide)]
      refine g8 (wpAny_seqItems ht rfl (j5 ?_))
      show wpAny _ A.in1 (W4 [.int ((i : Int) + 1) s.toks, ps[i].2] (dictSet d (.int ((i : Int) + 1) s.toks) ps[i].2)) _ _ { s with heap := h', toks := s.toks + 1 }
      refine w6 (GY (s := { s with heap := h', toks := s.toks + 1 }) (k := ps[i].1) (H _) a1 (fun v a2 h => ?_) (by omega))
      have h : Heap.SameBut d h' v := h
      have J : ∀ b o, b ≠ d → b ≠ it → b ≠ e → s.heap.get? b = e9 o → v.get? b = e9 o := fun b o x y z q => (h.2 b x).trans (kp b o z y q)
      have hc : ((i : Int) + 1) = ((i + 1 : Nat) : Int) := by push_cast; rfl
      refine j5 ⟨V4 PySem.F.n9 _, ?_⟩
      obtain ⟨f0, f1, old, g0, gf⟩ := a0.ex
      have g2 : v.get? e = e9 { cls := .type "enumerate", dict := f7, data := .fields #[f0, .bool f1, .ref it, rawInt ((i : Int) + 1 + 1), .none, old], slots := #[] } := (h.2 e (x8 B)).trans g0
      have a3 : uh b0 v e it (((i + 1 : Nat) : Int) + 1) := by
        refine ⟨⟨f0, f1, old, by rw [← hc]; exact g2, ?_⟩⟩
        rcases gf with gf | ⟨a, o, rfl, z0, x, y, z⟩
        · exact .inl gf
        · exact .inr ⟨a, o, rfl, z0, x, y, (h.2 a (Nat.ne_of_gt (Nat.lt_of_lt_of_le Q z0))).trans z⟩
      rw [hc]
      refine ih (i + 1) (Bq kvs ps[i].1 ps[i].2) { s with heap := v, toks := s.toks + 1 + 1 } (by omega) (by omega) ?_ a2 a3 ?_ ?_ ?_ fun h3 E a4 a5 => ?_
      · show b0 ≤ v.objs.size
        rw [h.1]
        exact Nat.le_of_lt (Nat.lt_of_le_of_lt r (Heap.lt_size ht))
      · obtain ⟨o, u, c⟩ := I
        exact ⟨o, (h.2 it (x8 n)).trans u, c⟩
      · obtain ⟨o, u, c⟩ := hl
        exact ⟨o, J l o L N O u, c⟩
      · have := JX kvs ps[i].1 ps[i].2
        omega
      · refine X h3 E ?_ fun b o x y z q => a5 b o x y z (J b o x y z q)
        rw [List.drop_eq_getElem_cons G]
        exact a4)
theorem pL {s:Shared}(ps:List (K×Value))(O:A.handled=f7)(P:IsEnum s.heap e it 1 .none)(n:s.heap.IsListIter it l 0)(hl:s.heap.IsList l a)(u:l≠it)(v:l≠e)(x:e≠it)(r:ps.length=a.size)(y:ps.length≤sizeLine)
  (z:∀(j:Nat) (p:K×Value),ps[j]?=e9 p→a[j]?=e9 p.2∧∀t,knd.is p.1 (.int ((j:Int)+1) t)=f8)
  (h:∀h' t,h'.DictOf knd s.heap.objs.size (Bu [] ps)→(∀b o,b≠e→b≠it→s.heap.get? b=e9 o→h'.get? b=e9 o)→Q (.ref s.heap.objs.size) {s with heap:=h',toks:=t}):
  wpAny (model prog w) A (call (.type "dict") [.ref e]) Q E s:=by
 refine vQ (Q₁:=λobj k=>obj=.ref s.heap.objs.size∧k={s with heap:=s.heap.push {cls:=.type "dict",data:=.dict #[]}}) F.kt_called_dict (F.kt_typeCall_dict_1 _) F.entry_dict_init (kt_code_dict_new _ ⟨rfl,rfl⟩) ?_
 rintro obj k ⟨rfl,rfl⟩
 have d:(s.heap.push {cls:=.type "dict",data:=.dict #[]}).DictOf knd s.heap.objs.size []:=Heap.DictOf.new s.heap;refine⟨d.typeIs,F.args_dict_init_2 _ _,?_⟩;unfold k5.«dict.__init__»;refine g8 ?_;unfold jP;refine g8 (DL d.typeIs ?_);show wpAny _ _ (pure (s.heap.objs.size,[Value.ref e])) _ _ _;refine j5 ?_;show wpAny _ _ (Q0 "dict.__init__" s.heap.objs.size (.ref e) [] .none) _ _ _;unfold Q0;have B:(s.heap.push {cls:=.type "dict",data:=.dict #[]}).get? e=e9 {cls:=.type "enumerate",dict:=f7,data:=.fields #[.none,.bool f6,.ref it,rawInt 1,.none,.none],slots:=#[]}:=Heap.get?_push_of_some _ P;have G:=Heap.lt_size P;refine g8 (T1 (T:="enumerate") ⟨_,B,rfl⟩ ?_);rw[if_pos (by decide)];refine g8 (pb (h:=s.heap.push {cls:=.type "dict",data:=.dict #[]}) (by exact O) B λR Z f=>?_);rw[if_pos (show(f7:Option Value).isNone=f8 from rfl)];have S:=f _ _ B;refine g8 (Hl (g8 (wpAny_pyIter_enum (i:=1) (old:=.none) S ?_)));refine j5 ⟨V4 PySem.F.n9 _,?_⟩;have H:R.get? s.heap.objs.size=e9 {cls:=.type "dict",data:=.dict #[]}:=f _ _ (Heap.get?_push_size _ rfl);have m:∀b o,s.heap.get? b=e9 o→R.get? b=e9 o:=λb o q=>f _ _ (Heap.get?_push_of_some _ q);have I:l<s.heap.objs.size:=let⟨o,g,_⟩:=hl;Heap.lt_size g;have J:it<s.heap.objs.size:=let⟨o,g,_⟩:=n;Heap.lt_size g;refine GB (knd:=knd) s.heap.objs.size e it l a ps (by exact O) (Nat.ne_of_lt I) u v (Nat.ne_of_gt J) (Nat.ne_of_gt G) x (s.heap.objs.size+1) (Nat.lt_succ_self _) .none r z _ ps.length 0 [] _ rfl (Nat.zero_le _) (Heap.lt_size H) ?_ ⟨⟨_,_,_,S,.inl rfl⟩⟩ ?_ ?_ (by simpa using y) λh' t L N=>⟨rfl,?_⟩
 ·obtain⟨o,es,U,g,c⟩:=d;exact⟨o,es,U,f _ _ g,c⟩
 ·obtain⟨o,g,c⟩:=n;exact⟨o,m _ _ g,c⟩
 ·obtain⟨o,g,c⟩:=hl;exact⟨o,m _ _ g,c⟩
 ·exact h h' t (by simpa using L) λb o X Y q=>N b o (Nat.ne_of_lt (Heap.lt_size q)) Y X (m b o q)
end
section
variable {M:Model}{A:Around}{E:Value→Shared→Prop}{s:Shared}{env:Env}
theorem tU
  (h:wpAny M A (Br (m4 pos (h8 [e] env))) (λvs c=>wpAny M A (evalAll ((y4 pos (o1 b env)).map (·.2))) (λkvs f=>wpAny M A (call (.type T) vs (((y4 pos (o1 b env)).filterMap (·.1)).zip kvs)) Q E f) E c) E s)
  (j:m4 pos (h8 [e] env)=(f6,eval e env)::m4 pos (h8 [] env):=by rfl)
  (d:(m4 pos (h8 [e] env)).any (·.1)=f6:=by rfl) (g:(y4 pos (o1 b env)).all (·.1.isSome)=f8:=by rfl) (i:(y4 pos (o1 b env)).any (·.1.isNone)=f6:=by rfl):
  wpAny M A (Ez pos (.type T) [] (m4 pos (h8 [e] env)) (y4 pos (o1 b env))) Q E s:=by
 have h':wpAny M A (evalArgs (.type T) f8 (m4 pos (h8 [e] env)) (y4 pos (o1 b env))) (λa c=>wpAny M A (call (.type T) ([]++a.pos) a.kw) Q E c) E s:=by
  rw[j]at h⊢;exact evalArgs_kwB g h
 unfold Ez;refine g8 (w6 (z9 h' (λa s1 k=>g8 (lR ?_)) λ_ _ x=>x));simp only[d,i,rW];exact g8 (j5 (g8 (z9 k (λr s2 hr=>g8 (w6 (wpAny_point (j5 hr)))) λ_ _ x=>x)))
end
noncomputable def wH (k:Int):List V→List (Key×V)
 | []=>[]
 |x::xs=>(.inl k,x)::wH (k+1) xs
noncomputable def mE (k:Int):List Value→List (Key×Value)
 | []=>[]
 |x::xs=>(.inl k,x)::mE (k+1) xs
theorem sL:∀{xs:List V} {us:List Value} (k:Int),Vals xs us→KV (wH k xs) (mE k us)
 |_,_,_,.nil=>.nil
 |_,_,k,.cons r rs=>.cons ⟨rfl,r⟩ (sL (k+1) rs)
theorem gW:∀(us:List Value) (k:Int),(mE k us).length=us.length
 | [],_=>rfl
 |u::us,k=>by
  show(mE (k+1) us).length+1=_;rw[gW us,List.length_cons]
theorem uM:∀(us:List Value) (k:Int) (j:Nat) (p:Key×Value),(mE k us)[j]?=e9 p→us[j]?=e9 p.2∧p.1=.inl (k+j)
 |u::us,k,0,p,h=>by
  have:(Sum.inl k,u)=p:=by simpa[mE]using h
  subst this;exact⟨rfl,by simp⟩
 |u::us,k,j+1,p,h=>by
  obtain⟨a,b⟩:=uM us (k+1) j p (by simpa[mE]using h);refine⟨by simpa using a,?_⟩;rw[b];congr 1
  push_cast
  omega
 | [],_,_,_,h=>by simp[mE]at h
section
variable {X:Cx}{p pos p2 P8 kp cp:Pos}{nn:Nat}{e:Expr}{t:TA}
noncomputable def Iz (K:PySem.W.Frag):List V→Hp→VK→Prop:=λxs H Q=>∃l a,xs=[.ref l]∧P7 K H l a∧a.length≤1000000∧∀d,H d=f7→Q (.ref d) (upd H d (.dK (iJ [] (wH 1 a))))
theorem qC {K:PySem.W.Frag}(hK:X.K=K)(hc:X.calm=f8)(B:Gl X "dict") (E:X.mg "dict"=f7) (F:Gl X "enumerate") (G:X.mg "enumerate"=f7) (ha:PA X [e] t)
  (i:h8 [Expr.Call (.Name "enumerate" p2) [e] [⟨e9 "start",.Constant (.int 1) nn cp,kp⟩] P8] X.env=(f6,eval (Expr.Call (.Name "enumerate" p2) [e] [⟨e9 "start",.Constant (.int 1) nn cp,kp⟩] P8) X.env)::h8 [] X.env) (m:(m4 pos (h8 [] X.env)).any (·.1)=f6)
  (h1:m4 P8 (h8 [e] X.env)=(f6,eval e X.env)::m4 P8 (h8 [] X.env)) (h2:(m4 P8 (h8 [e] X.env)).any (·.1)=f6) (h3:(y4 P8 (o1 [⟨e9 "start",.Constant (.int 1) nn cp,kp⟩] X.env)).all (·.1.isSome)=f8) (h4:(y4 P8 (o1 [⟨e9 "start",.Constant (.int 1) nn cp,kp⟩] X.env)).any (·.1.isNone)=f6)
  (J:(y4 P8 (o1 [⟨e9 "start",.Constant (.int 1) nn cp,kp⟩] X.env)).filterMap (·.1)=[("start":Str)])
  (n:∀(s:Shared) (Q:Value→Shared→Prop),(∀v c,Q (.int 1 v) {s with toks:=c})→wpAny (model X.prog X.w) X.A (eval (.Constant (.int 1) nn cp) X.env) Q X.xe s):
  PE X (.Call (.Name "dict" p) [.Call (.Name "enumerate" p2) [e] [⟨e9 "start",.Constant (.int 1) nn cp,kp⟩] P8] [] pos) (HU (Iz K) t):=by
 subst hK;intro pins s σ H Q I h;refine x6 (aJ I B E lT ?_ (by decide) (by decide));refine o3 ?_ i m;rw[i];show wpAny _ _ (Br ((f6,eval (Expr.Call (.Name "enumerate" p2) [e] [⟨e9 "start",.Constant (.int 1) nn cp,kp⟩] P8) X.env)::m4 pos (h8 [] X.env))) _ _ s;refine M3 (x6 (aJ I F G (u:=.type "enumerate") (by decide +kernel) ?_ (by decide) (by decide)));refine tU (F3 (ha P8 pins s σ H _ I h) λus s1 ⟨vs,Z,L,r1,l,ys,ev,hq,hz,q⟩=>?_) h1 h2 h3 h4;subst ev;obtain⟨u,rfl,ru⟩:=vals1 r1;cases ru;refine kws_cons (n s1 _ λv c=>kws_nil ?_);rw[J];have d:Inv X pins σ Z {s1 with toks:=c}:=L.tok _;obtain⟨f,N,pl,a0⟩:=d.list hq;refine Dr (t:=v) pl.isList λh' hE x kp=>V5 ?_;have y:l<s1.heap.objs.size:=let⟨o,z,_⟩:=pl.isList;Heap.lt_size z;have I2:Inv X pins σ Z {s1 with heap:=h',toks:=c}:=d.kept (t':=c) kp;have O:h'.IsList l f.toArray:=let⟨o,z,r⟩:=pl.isList;⟨o,kp _ _ z,r⟩;have hn:=N.length;have P:(iJ [] (wH 1 ys)).length≤sizeLine:=by
  have e1:=(iL (sL 1 N) (kvs:=[]) (vs:=[]) .nil).length;have e2:=pY ([]:List (Key×Value)) (mE 1 f);rw[gW]at e2;simp at e2;have:=v0;omega
 refine pL (knd:=r0 X.prog X.w) (mE 1 f) (L.ok.hd hc) hE x O (Nat.ne_of_lt y) (Nat.ne_of_lt (Nat.lt_succ_of_lt y)) (Nat.ne_of_gt (Nat.lt_succ_self _)) (by rw[gW,List.size_toArray]) (by rw[gW,v0];omega) (λj pr hj=>?_) λR S T U=>?_
 ·obtain⟨a,b⟩:=uM f 1 j pr hj;refine⟨by simpa using a,λv=>?_⟩;rw[b,vT];exact eC (k:=.inl ((j:Int)+1)) ⟨v,rfl⟩
 ·have Y:∀b o,s1.heap.get? b=e9 o→R.get? b=e9 o:=λb o q=>U b o (Nat.ne_of_lt (Nat.lt_succ_of_lt (Heap.lt_size q))) (Nat.ne_of_lt (Heap.lt_size q)) (kp b o q);have g:s1.heap.objs.size≤h'.objs.size:=Nat.le_of_lt (let⟨o,z,_⟩:=x;Heap.lt_size z);exact⟨.ref h'.objs.size,_,d.laid (a:=h'.objs.size) (o:=.dK (iJ [] (wH 1 ys))) (t':=S) Y g (iP P (beq_eq_false_iff_ne.mpr (x8 (Nat.ne_of_lt (Nat.lt_of_lt_of_le L.big g)))) (iL (sL 1 N) .nil) T),rfl,q _ (d.hok.fresh g)⟩
end
noncomputable def wG (k:Int):List D→List (Key×D)
 | []=>[]
 |d::ds=>(.inl k,d)::wG (k+1) ds
noncomputable def uL:List D→Option W
 | [.lst ds]=>dL (ds.length≤1000000) (e9 (.own (.dct (ew [] (wG 1 ds)))))
 |_=>f7
theorem num_rep {K:PySem.W.Frag}{G:Hp}:∀{a:List V} {ds:List D} (k:Int),o9 K G a ds→l9 K G (wH k a) (wG k ds)
 | [],[],_,_=>l9.nil
 | [],_::_,_,r=>by have:=r.len;simp at this
 |_::_,[],_,r=>by have:=r.len;simp at this
 |y::a,d::ds,k,r=>l9.cons rfl r.head (num_rep (k+1) r.tail)
section
variable {X:Cx}{B:Bs}{e:Expr}{mr:M (List W)}{nn:Nat}{p pos p2 P8 kp cp:Pos}
theorem wW:im B (Iz B.K) uL:=by
 intro G H σ ρ xs ds w Q R h a c
 match ds,a with
 | [.lst ds],a=>
  obtain⟨d,a⟩:=p5 a;cases a;obtain⟨x,rfl,e⟩:=I0 h;obtain⟨q,f,rfl,g,b⟩:=e.lst R.gH;refine⟨q,f,rfl,g,by rw[b.len];exact d,λl hl=>?_⟩;obtain⟨R',i⟩:=R.kW hl (oJ (num_rep 1 b) l9.nil);exact c _ G _ (j6.refl _) R' i
theorem tS (j:X.calm=f8)(b:X.mg "dict"=f7) (c:X.mg "enumerate"=f7) (k:gl X B [e] mr) (d:Gl X "dict":=by rfl) (f:Gl X "enumerate":=by rfl) (l:X.K=B.K:=by rfl)
  (g:h8 [Expr.Call (.Name "enumerate" p2) [e] [⟨e9 "start",.Constant (.int 1) nn cp,kp⟩] P8] X.env=(f6,eval (Expr.Call (.Name "enumerate" p2) [e] [⟨e9 "start",.Constant (.int 1) nn cp,kp⟩] P8) X.env)::h8 [] X.env:=by rfl) (a:(m4 pos (h8 [] X.env)).any (·.1)=f6:=by rfl)
  (m:m4 P8 (h8 [e] X.env)=(f6,eval e X.env)::m4 P8 (h8 [] X.env):=by rfl) (n:(m4 P8 (h8 [e] X.env)).any (·.1)=f6:=by rfl) (o:(y4 P8 (o1 [⟨e9 "start",.Constant (.int 1) nn cp,kp⟩] X.env)).all (·.1.isSome)=f8:=by rfl) (q:(y4 P8 (o1 [⟨e9 "start",.Constant (.int 1) nn cp,kp⟩] X.env)).any (·.1.isNone)=f6:=by rfl)
  (i:(y4 P8 (o1 [⟨e9 "start",.Constant (.int 1) nn cp,kp⟩] X.env)).filterMap (·.1)=[("start":Str)]:=by rfl):
  PD X B (.Call (.Name "dict" p) [.Call (.Name "enumerate" p2) [e] [⟨e9 "start",.Constant (.int 1) nn cp,kp⟩] P8] [] pos) (D2 uL mr):=.mk λξ=>
 (qC (X:=rz X ξ) (K:=B.K) l j d b f c (k.ap ξ) g a m n o q i (λs Q h=>Hr (h _ _))).imp λ_ _ _ t=>uw wW t
end
noncomputable def JQ (K:PySem.W.Frag)(a:Addr)(n:Nat):It:=
 ⟨λi H=>i<n∧∃xs,P7 K H a xs∧xs.length=n,λi H x H'=>H'=H∧∀xs,P7 K H a xs→xs[n-1-i]?=e9 x,λi H=>n≤i∧∃xs,P7 K H a xs∧xs.length=n⟩
theorem xY {P:Program}{w:World}{K:PySem.W.Frag}{tg:Expr}(a it:Addr)(n:Nat):Turn P w K tg (JQ K a n) [it] it (λi h=>i≤n∧h.IsRevIter it a ((n:Int)-1-(i:Int))) where
 mem:=by simp
 obj:=λi h st b g=>by
  have e:b=it:=by simpa using g
  subst e;obtain⟨_,o,e,c,d⟩:=st;exact⟨o,e,λv z=>by rw[d]at z;cases z⟩
 keep:=λi h h' st k=>⟨st.1,st.2.at λo e=>k it (by simp) o e⟩
 item:=by
  intro X m q r L i pins s σ H E I l st t;subst m q r;obtain⟨y,xs,A,Q⟩:=t;obtain⟨R,N,p,hz⟩:=I.list A;have hl:=N.length;obtain⟨x,O⟩:∃x,xs[n-1-i]?=e9 x:=⟨_,List.getElem?_eq_getElem (by omega)⟩
  obtain⟨u,S,T⟩:=N.get O;obtain⟨f0,f1,U,B,F,G⟩:=l it (by simp);have Y:(n:Int)-1-(i:Int)=((n-1-i:Nat):Int):=by omega
  have f:=st.2;rw[Y]at f;refine wpAny_pyNext_rev_item f p.isList (x:=u) (by simpa using S) λh' j Z=>?_;have e2:((n-1-i:Nat):Int)-1=(n:Int)-1-((i+1:Nat):Int):=by omega
  rw[e2]at j;have I1:Inv X pins σ H {s with heap:=h'}:=I.turned (t':=s.toks) (λb o g e=>(Z.2 b g).trans e) f0 f1 B F G;obtain⟨o,e,c,d⟩:=id j;exact⟨u,rfl,eF (s:={s with heap:=h'}) e c d (by decide) ⟨x,H,I1,T,⟨rfl,λys hy=>by rw[I.hG hy A];exact O⟩,⟨y,j⟩,λb g=>(l b g).1⟩⟩
 done:=by
  intro X m q r L i pins s σ H E I l st t;subst m q r;obtain⟨a0,xs,A,Q⟩:=t;obtain⟨f0,f1,U,B,F,G⟩:=l it (by simp);have f:=st.2;rw[show(n:Int)-1-(i:Int)=-1 by have:=st.1;omega]at f;exact wpAny_pyNext_rev_end (I.ok.hd L) f λh' J=>⟨rfl,I.turned (t':=s.toks) (λb o g e=>J b o g e) f0 f1 B F G⟩
 self:=λ_ _ _ _ _ st h=>jx st.2 h
section
variable {X:Cx}{tg e:Expr}{t:TA}{p pos:Pos}
theorem Fs {K:PySem.W.Frag}(j:X.K=K)(k:Gl X "reversed") (l:X.mg "reversed"=f7) (m:PA X [e] t) (n:h8 [e] X.env=(f6,eval e X.env)::h8 [] X.env) (i:(m4 pos (h8 [] X.env)).any (·.1)=f6):
  PI X tg (.Call (.Name "reversed" p) [e] [] pos) (λσ H R=>t σ H λvs f=>∃a xs,vs=[.ref a]∧P7 K f a xs∧R (JQ K a xs.length) f):=by
 subst j;intro pins s σ H R I h;refine x6 (aJ I k l (u:=.type "reversed") (by decide +kernel) ?_ (by decide) (by decide));refine o3 (F3 (m pos pins s σ H _ I h) λus s1 ⟨vs,f,g,r,a,xs,v,w,q⟩=>?_) n i;subst v;obtain⟨u,rfl,x⟩:=vals1 r;cases x;obtain⟨c,y,pl,A⟩:=g.list w;have hl:=y.length;refine Ht pl.isList ?_;have d:(s1.heap.push (revObj a ((c.toArray.size:Int)-1))).IsRevIter s1.heap.objs.size a ((xs.length:Int)-1-((0:Nat):Int)):=by
  rw[show(xs.length:Int)-1-((0:Nat):Int)=(c.toArray.size:Int)-1 by rw[List.size_toArray,hl];omega];exact⟨_,Heap.get?_push_size _ rfl,rfl,rfl⟩
 refine jx d ?_;refine⟨s1.heap.objs.size,[s1.heap.objs.size],_,_,f,rfl,g.kept (t':=s1.toks) λb o e=>Heap.get?_push_of_some _ e,xY a _ xs.length,⟨Nat.zero_le _,d⟩,λb z=>?_,q⟩;have e:b=s1.heap.objs.size:=by simpa using z
 subst e;exact g.xl (Nat.le_refl _) (g.hok.fresh (Nat.le_refl _))
end
noncomputable def sW (m:M (List W)):M (List D):=M.bind m λa=>match a with
 | [w]=>M.bind (D8 w) λd=>λρ=>match d with
  |.lst ds=>e9 (.ok ds.reverse ρ)
  |_=>f7
 |_=>λ_=>f7
theorem xj {K:PySem.W.Frag}{G:Hp}{a:Addr}{xs:List V}{ds:List D}(h:P7 K G a xs)(r:o9 K G xs ds):Gives K G (JQ K a xs.length) ds.reverse where
 go:=λG' H i s1 s2 hi=>by
  rw[List.length_reverse,←r.len]at hi;exact⟨hi,xs,(s1.trans s2).seq h,rfl⟩
 stop:=λG' H s1 s2=>⟨by rw[List.length_reverse,r.len];exact Nat.le_refl _,xs,(s1.trans s2).seq h,rfl⟩
 yld:=λG' H H' i x s1 s2 hi y=>by
  obtain⟨rfl,y⟩:=y;have ex:=y xs ((s1.trans s2).seq h);obtain⟨d,b,c⟩:=r.KZ ex;rw[List.length_reverse]at hi;exact⟨rfl,d,by rw[List.getElem?_reverse hi,←r.len];exact b,c.same s1⟩
section
variable {X:Cx}{B:Bs}{tg e:Expr}{mr:M (List W)}{p pos:Pos}
theorem zV (i:X.mg "reversed"=f7) (j:gl X B [e] mr) (k:Gl X "reversed":=by rfl) (m:X.K=B.K:=by rfl) (n:h8 [e] X.env=(f6,eval e X.env)::h8 [] X.env:=by rfl) (c:(m4 pos (h8 [] X.env)).any (·.1)=f6:=by rfl):
  DF X B tg (.Call (.Name "reversed" p) [e] [] pos) (sW mr):=.mk λξ=>(Fs (X:=rz X ξ) (K:=B.K) m k i (j.ap ξ) n c).imp λσ H J t=>by
 obtain⟨G,ρ,R,t⟩:=ol t;refine(TD.bind (L8:=M8) R t).mono λvs o ⟨L,q,s,s1,u,f,g⟩=>?_
 match s,f,g with
 | [],_,⟨r,b,_⟩=>cases b
 |_::_::_,_,⟨r,b,_⟩=>cases b
 | [w],f,g=>
  cases f with
  | @cons v _ vs _ h x=>
   cases x;obtain⟨d,y,z,N,b,A⟩:=g.step λr h=>ag h;obtain⟨E,s2,R2,F⟩:=h.1.D8 u z;cases d with
   |lst ds=>
    cases b;cases F with
    | @lst a xs I hs l r=>exact⟨a,xs,rfl,R2.gH.seq hs,A (JQ B.K a xs.length) E o s2 R2 (xj hs ⟨l,r⟩)⟩
   |_=>cases b
end
theorem pj(c:b ρ=e9 (.ok [w] n3))(hl:D8 w n3=e9 (.ok (.lst ds) a)):sW b ρ=e9 (.ok ds.reverse a):=by
 unfold sW;rw[M.j9 c];show M.bind (D8 w) _ n3=_;rw[M.j9 hl]
open AutoSeq1 (wpAny_loadPart')
theorem CL:aV (.type "list_reverseiterator") "__len__"=pure f7:=by rw[W3,F8];kernel_rfl
theorem zm:aV (.type "list_reverseiterator") "__length_hint__"=pure (e9 (.builtin "list_reverseiterator.__length_hint__")):=by rw[W3,F8];kernel_rfl
theorem CK:isSubtype (.type "list_reverseiterator") (.type "list_reverseiterator")=pure f8:=by rw[Mx];kernel_rfl
section
variable {prog:Program}{w:World}{A:Around}{E:Value→Shared→Prop}{s:Shared}{it l:Addr}{items:Array Value}
theorem Dx(B:A.handled=f7)(d:s.heap.IsRevIter it l ((items.size:Int)-1))(hl:s.heap.IsList l items)(p:l≠it)(G:items.size≤sizeLine)
  (H:∀e f,Moved [it] (λa b=>b=a) s e→Bw (λi v=>items[items.size-1-i]?=e9 v) f items.size→Q f.toList e):wpAny (model prog w) A (collect (.ref it)) Q E s:=by
 have W:=(Walks.listRev (prog:=prog) (w:=w) (A:=A.in1) B it l p items).toS;have g:it<s.heap.objs.size:=let⟨o,h,_⟩:=d;Heap.lt_size h;have r:l<s.heap.objs.size:=let⟨o,h,_⟩:=hl;Heap.lt_size h;have t:s.heap.objs.size∉[it,l]:=by
  intro z;simp only[List.mem_cons,List.not_mem_nil,or_false]at z;rcases z with z|z
  ·exact Nat.ne_of_gt g z
  ·exact Nat.ne_of_gt r z
 have I:(items.size:Int)-1-((0:Nat):Int)=(items.size:Int)-1:=by omega
 unfold collect;refine g8 (wpAny_runValue (I9 F.entry_proto_collect (by
  rw[A9 F.plain_proto_collect _];show wpAny _ A.in1 (NL [] >>= λl=>again (.builtin "list.__iadd__" ⟨[l,.ref it],[]⟩)) _ _ s;refine g8 (D3 (j5 ⟨V4 F.plain_list_iadd _,I9 F.entry_list_iadd ?_⟩));rw[A9 F.plain_list_iadd _];have J:(s.heap.push {cls:=.type "list",data:=.seq ([]:List Value).toArray}).get? s.heap.objs.size=e9 {cls:=.type "list",data:=.seq ([]:List Value).toArray}:=Heap.get?_push_size _ rfl;have c:(s.heap.push {cls:=.type "list",data:=.seq ([]:List Value).toArray}).IsRevIter it l ((items.size:Int)-1-((0:Nat):Int)):=by rw[I];exact d.at λo q=>Heap.get?_push_of_some _ q
  have u:(s.heap.push {cls:=.type "list",data:=.seq ([]:List Value).toArray}).IsList l items:=hl.at λo q=>Heap.get?_push_of_some _ q;have n:({s with heap:=s.heap.push {cls:=.type "list",data:=.seq ([]:List Value).toArray}}:Shared).TypeIs (.ref it) "list_reverseiterator":=let⟨o,h,L,_⟩:=c;⟨o,h,L⟩;have N:jO (.ref s.heap.objs.size) (.ref it)=f6:=by simp[jO,Nat.ne_of_gt g]
  show wpAny _ A.in1 (iy (.ref s.heap.objs.size) (.ref it) (.ref s.heap.objs.size)) _ _ _;unfold iy;refine g8 (T1 n ?_);rw[if_neg (by rw[N];decide)];refine g8 (jx c (g8 (w6 ?_)));unfold LZ;refine g8 (Lp n CL ?_);show wpAny _ A.in1 (specialOf (Value.ref it) (Str.ofString "__length_hint__") >>= λ_=>_) _ _ _;refine g8 (Lp n zm ?_);generalize j:("list_reverseiterator.__length_hint__":String)=x
  wp_delta
  rw[show splitId x=e9 ("list_reverseiterator","__length_hint__")from by subst j;decide +kernel];subst j;refine g8 (JV (b:=f8) n CK (j5 ?_));rw[if_neg (by decide)];refine j5 ⟨V4 F.plain_extend_loop _,codeAny_extend_loopS W G _ t _ items.size 0 _ _ _ rfl (Nat.zero_le _) ⟨Nat.zero_le _,c,u⟩ J (Bw.nil _) λe k P O y m=>?_⟩;show wpAny _ A (load s.heap.objs.size >>= λ_=>_) _ _ e;exact g8 (Hn y (j5 (H e k (Moved.drop_new (o:={cls:=.type "list",data:=.seq ([]:List Value).toArray}) (tk:=s.toks) O (Nat.le_refl _)) m))))))
theorem pD(n:A.handled=f7)(g:s.heap.IsRevIter it l ((items.size:Int)-1))(hl:s.heap.IsList l items)(j:l≠it)(m:items.size≤sizeLine)
  (h:∀f c,Moved [it] (λa b=>b=a) s f→Bw (λi v=>items[items.size-1-i]?=e9 v) c items.size→Q (.ref f.heap.objs.size) {f with heap:=f.heap.push {cls:=.type "tuple",data:=.seq c}}):
  Z4 (model prog w) A (.call (.builtin "tuple.__new__") ⟨[.type "tuple",.ref it],[]⟩) (wants Q E) s:=by
 refine Lr (show wpAny _ A.in1 (do Ka "tuple.__new__" ⟨[.type "tuple",.ref it],[]⟩;again (.builtin "tuple.__new__" ⟨[.type "tuple",.ref it],[]⟩)) _ _ s from g8 (wpAny_of_eq (F.newCall_tuple_1 _) (j5 ⟨V4 F.plain_tuple_new _,I9 F.entry_tuple_new ?_⟩)));rw[A9 F.plain_tuple_new _];have s1:=sub_tuple_self;have s2:=init_tuple_lookup;have q:=madeHere_tuple;have o:s.TypeIs (.ref it) "list_reverseiterator":=g.typeIs;have k:A.in1.handled=f7:=n
 wp_walk using T1 o,Dx (A:=A.in1) k g hl j m
 intro f c p d;show wpAny _ _ (y8 c.toList.toArray >>= λv=>ret v) _ _ _;unfold y8;have e:c.toList.toArray=c:=by simp
 rw[e];exact g8 (D3 (j5 (h f c p d)) (by show c.size≤sizeLine;rw[d.1];exact m))
theorem pG(m:A.handled=f7)(j:s.heap.IsRevIter it l ((items.size:Int)-1))(hl:s.heap.IsList l items)(k:l≠it)(n:items.size≤sizeLine)
  (h:∀f e,Moved [it] (λa b=>b=a) s f→Bw (λi v=>items[items.size-1-i]?=e9 v) e items.size→Q (.ref f.heap.objs.size) {f with heap:=f.heap.push {cls:=.type "tuple",data:=.seq e}}):
  wpAny (model prog w) A (call (.type "tuple") [.ref it]) Q E s:=by
 refine vQ (Q₁:=λobj c=>c.TypeIs obj "tuple"∧Q obj c) F.called_tuple (F.typeCall_tuple_1 _) F.entry_object_init (pD (A:=A.in1) m j hl k n λf e o g=>⟨⟨_,Heap.get?_push_size _ rfl,rfl⟩,h f e o g⟩) λobj c d=>?_;exact⟨d.1,F.args_object_init_2 obj _,object_init_meets F.called_tuple.init.lookup F.called_tuple.made (by decide) prog w A.in1 _ c ⟨d.1,rfl,d.2⟩⟩
end
theorem yz(e:Vals xs a)(h:Bw (λi v=>a.toArray[a.toArray.size-1-i]?=e9 v) b a.toArray.size):b.toList=a.reverse:=by
 apply List.ext_getElem?;intro j;have hs:b.size=a.length:=by rw[h.1,List.size_toArray]
 by_cases d:j<a.length
 ·have c:b[j]?=e9 (b[j]'(by omega)):=Array.getElem?_eq_getElem (by omega);have q:=h.2 j _ c;rw[List.size_toArray]at q;rw[fk,c,List.getElem?_reverse d];rw[List.getElem?_toArray]at q;exact q.symm
 ·rw[List.getElem?_eq_none (by rw[J1];omega),List.getElem?_eq_none (by rw[List.length_reverse];omega)]
theorem qb:∀{xs:List V} {us:List Value},Vals xs us→Vals xs.reverse us.reverse
 |_,_,.nil=>.nil
 |_,_,.cons r rs=>by
  rw[List.reverse_cons,List.reverse_cons];exact(qb rs).append (.cons r .nil)
section
variable {X:Cx}{e:Expr}{t:TA}{p pos p2 P8:Pos}
noncomputable def Mb (K:PySem.W.Frag):List V→Hp→VK→Prop:=λvs H Q=>∃a xs,vs=[.ref a]∧P7 K H a xs∧∀l,H l=f7→Q (.ref l) (upd H l (.tup xs.reverse))
theorem wy {K:PySem.W.Frag}(R:X.K=K)(S:X.calm=f8)(n:Gl X "tuple") (v:X.mg "tuple"=f7) (x:Gl X "reversed") (y:X.mg "reversed"=f7) (T:PA X [e] t)
  (f:h8 [Expr.Call (.Name "reversed" p2) [e] [] P8] X.env=(f6,eval (Expr.Call (.Name "reversed" p2) [e] [] P8) X.env)::h8 [] X.env) (g:(m4 pos (h8 [] X.env)).any (·.1)=f6)
  (A:h8 [e] X.env=(f6,eval e X.env)::h8 [] X.env) (i:(m4 P8 (h8 [] X.env)).any (·.1)=f6):
  PE X (.Call (.Name "tuple" p) [.Call (.Name "reversed" p2) [e] [] P8] [] pos) (HU (Mb K) t):=by
 subst R;intro pins s σ H Q I h;refine x6 (aJ I n v kk ?_ (by decide) (by decide));refine o3 ?_ f g;rw[f];show wpAny _ _ (Br ((f6,eval (Expr.Call (.Name "reversed" p2) [e] [] P8) X.env)::m4 pos (h8 [] X.env))) _ _ s;refine M3 (x6 (aJ I x y (u:=.type "reversed") (by decide +kernel) ?_ (by decide) (by decide)));refine o3 (F3 (T P8 pins s σ H _ I h) λus s1 ⟨vs,O,B,U,a,xs,Y,Z,q⟩=>?_) A i;subst Y;obtain⟨u,rfl,ru⟩:=vals1 U;cases ru;obtain⟨c,E,pl,hz⟩:=B.list Z;have hl:=E.length;have F:a<s1.heap.objs.size:=let⟨o,G,_⟩:=pl.isList;Heap.lt_size G;refine Ht pl.isList (V5 ?_);have J:(s1.heap.push (revObj a ((c.toArray.size:Int)-1))).IsRevIter s1.heap.objs.size a ((c.toArray.size:Int)-1):=⟨_,Heap.get?_push_size _ rfl,rfl,rfl⟩
 have L:(s1.heap.push (revObj a ((c.toArray.size:Int)-1))).IsList a c.toArray:=let⟨o,G,r⟩:=pl.isList;⟨o,Heap.get?_push_of_some _ G,r⟩;refine pG (B.ok.hd S) J L (Nat.ne_of_lt F) (by rw[List.size_toArray];omega) λs' j l k=>?_;obtain⟨h',g',d',d,N⟩:=s';have e1:g'=s1.gens:=l.gens;have e2:d'=s1.drawn:=l.drawn;have e3:N=s1.os:=l.os;subst e1 e2 e3;have kp:∀b o,s1.heap.get? b=e9 o→h'.get? b=e9 o:=λb o z=>l.heap b o (λm=>Nat.ne_of_lt (Heap.lt_size z) (List.mem_singleton.mp m)) (Heap.get?_push_of_some _ z);have P:Inv X pins σ O {s1 with heap:=h',toks:=d}:=B.kept kp;have ea:=yz E k;have eo:(Data.seq j:Data)=.seq (c.reverse).toArray:=by rw[←ea]
 have I3:Inv X pins σ (upd O h'.objs.size (.tup xs.reverse)) {s1 with heap:=h'.push {cls:=.type "tuple",data:=.seq j},toks:=d}:=by
  rw[eo];exact P.laid (t':=d) (λb o e=>Heap.get?_push_of_some _ e) (Nat.le_refl _) (show I7 X.prog X.w _ _ _ (.tup xs.reverse)from⟨by rw[List.length_reverse];exact hz,c.reverse,qb E,Bx _ _⟩)
 exact⟨.ref h'.objs.size,_,I3,rfl,q _ (P.hok.fresh (Nat.le_refl _))⟩
end
theorem qx {K:PySem.W.Frag}{G:Hp}:∀{xs:List V} {ds:List D},o9 K G xs ds→o9 K G xs.reverse ds.reverse
 | [],[],_=>o9.nil
 | [],_::_,r=>by have:=r.len;simp at this
 |_::_,[],r=>by have:=r.len;simp at this
 |x::xs,d::ds,r=>by
  rw[List.reverse_cons,List.reverse_cons];exact(qx r.tail).append (o9.one r.head)
noncomputable def jS:List D→Option W
 | [.lst ds]=>e9 (.val (.tup ds.reverse))
 |_=>f7
section
variable {X:Cx}{B:Bs}{e:Expr}{mr:M (List W)}{p pos p2 P8:Pos}
theorem qW:im B (Mb B.K) jS:=by
 intro G H σ ρ xs ds w Q R h a b
 match ds,a with
 | [.lst ds],a=>
  cases a;obtain⟨x,rfl,c⟩:=I0 h;obtain⟨q,d,rfl,e,f⟩:=c.lst R.gH;refine⟨q,d,rfl,e,λl hl=>?_⟩;obtain⟨G',g,R',i⟩:=R.oV hl (qx f);exact b _ G' _ g R' i
theorem Au (j:X.calm=f8)(c:X.mg "tuple"=f7) (d:X.mg "reversed"=f7) (k:gl X B [e] mr) (f:Gl X "tuple":=by rfl) (g:Gl X "reversed":=by rfl) (l:X.K=B.K:=by rfl)
  (h:h8 [Expr.Call (.Name "reversed" p2) [e] [] P8] X.env=(f6,eval (Expr.Call (.Name "reversed" p2) [e] [] P8) X.env)::h8 [] X.env:=by rfl) (a:(m4 pos (h8 [] X.env)).any (·.1)=f6:=by rfl)
  (i:h8 [e] X.env=(f6,eval e X.env)::h8 [] X.env:=by rfl) (b:(m4 P8 (h8 [] X.env)).any (·.1)=f6:=by rfl):
  PD X B (.Call (.Name "tuple" p) [.Call (.Name "reversed" p2) [e] [] P8] [] pos) (D2 jS mr):=.mk λξ=>
 (wy (X:=rz X ξ) (K:=B.K) l j f c g d (k.ap ξ) h a i b).imp λ_ _ _ t=>uw qW t
end
noncomputable def BV:V→List V→Hp→VK→Prop:=λx vs H Q=>∃a b kvs more,x=.ref a∧vs=[.ref b]∧a≠b∧H a=e9 (.dK kvs)∧Rd H b (.dK more)∧kvs.length+more.length≤sizeLine∧Q .v1 (upd H a (.dK (iJ kvs more)))
theorem wJ:Lk X "dict.update" BV:=by
 intro pins s σ H x vs v us Q I n o h;obtain⟨a,b,kvs,more,rfl,rfl,i,l,p,A,q⟩:=h;cases n;obtain⟨u,rfl,r⟩:=o.one;cases r;obtain⟨z,hd,vs,d,m⟩:=rn I.hok l;obtain⟨B,j,f,c,k⟩:=S7 I.hok p;have E:=d.length;have G:=c.length;have hl:(iJ kvs more).length≤sizeLine:=by
  have e:=(iL c d).length;have J:=pY vs f;omega
 refine gu PySem.F.slot_dict_update m.typeIs PySem.F.entry_dict_update (PySem.F.args_dict_update_2 _ _) (meets_dict_update (r0 X.prog X.w) a b i j)
  ⟨vs,f,m,k,by omega,λh' g _ hs=>?_⟩
 have t:∃q,h'.get? a=e9 q:=let⟨q,_,_,y,_⟩:=g;⟨q,y⟩;exact⟨.v1,_,hZ I (by rw[l];exact True.intro) hs t (iP hl hd (iL c d) g),rfl,q⟩
noncomputable def gC (i:Nat)(d:D):M W:=λρ=>match ρ[i]?,d with
 |some (e9 (.ow l (.dct es))),.dct ps=>dL (small (es.length+ps.length)) (e9 (.ok (.val .v1) (ρ.set i (e9 (.ow l (.dct (ew es ps)))))))
 |_,_=>f7
noncomputable def AG (i:Nat):M Unit:=λρ=>match ρ[i]? with
 |some (e9 (.ow _ (.dct _)))=>e9 (.ok () ρ)
 |_=>f7
theorem vC(h:AG i ρ=e9 r):r=.ok () ρ∧∃l es,ρ[i]?=e9 (e9 (.ow l (.dct es))):=by
 unfold AG at h;split at h
 ·rename_i l es e;cases h;exact⟨rfl,l,es,e⟩
 ·cases h
noncomputable def gX (i:Nat)(m:M (List W)):M W:=M.bind (h7 i) λx=>M.bind (AG i) λ_=>M.bind m λa=>match a with
 | [w]=>M.bind (D8 w) (gC i)
 |_=>λ_=>f7
section
variable {X:Cx}{B:Bs}{o e:Expr}{mr:M (List W)}{apos cpos Jq:Pos}{x:Str}
theorem rq (i:Nat)(m:PD X B o (h7 i))(U:gl X B [e] mr)
  (d:x0 o "update" X.env (eval o X.env)=eval o X.env:=by rfl)
  (j:((m4 cpos (h8 [e] X.env)).all (λx=>!x.1)&&(y4 cpos (o1 [] X.env)).all (λx=>x.1.isSome)
   && decide (([e]:List Expr).length+([]:List Keyword).length+(if([]:List Keyword).isEmpty then 0 else 1)<30))=f8:=by rfl)
  (f:(apos.endLine==cpos.line)=f8:=by rfl) (hs:h8 [e] X.env=(f6,eval e X.env)::h8 [] X.env:=by rfl) (c:(m4 cpos (h8 [] X.env)).any (·.1)=f6:=by rfl) (hK:X.K=B.K:=by rfl):
  PD X B (.Call (.Attribute o "update" apos) [e] [] cpos) (gX i mr):=.mk λξ=>
 (uE (X:=rz X ξ) PySem.F.plainAttrs_dict PySem.F.slot_dict_update PySem.F.type_dict_update wJ (m.ap ξ) (U.ap ξ) d j f hs c).imp λσ H Q t=>by
  obtain⟨G,ρ,R,t⟩:=t;refine(TD.vF (L8:=C4) R t).mono λx H1 ⟨G1,Y,w,a,s1,N,Z,t2⟩=>?_;obtain⟨rfl,rfl⟩:=ey a;have q:σ[i]?=e9 (e9 x):=Z;obtain⟨u,s,y,t3⟩:=t2.step λr h=>⟨(),_,(vC h).1⟩;obtain⟨e3,l0,a0,h0⟩:=vC y;cases e3;obtain⟨z,rfl,g0,k,A,_⟩:=slot_of N h0 q;refine⟨.inr (.inr (.inl ⟨rfl,.inl ⟨k,A⟩⟩)),?_⟩;refine(TD.bind (L8:=M8) N t3).mono λvs H2 ⟨G2,s,ws,s2,R2,E,I⟩=>?_
  match ws,E,I with
  | [],_,⟨r,a,_⟩=>cases a
  |_::_::_,_,⟨r,a,_⟩=>cases a
  | [w],E,I=>
   cases E with
   | @cons v _ vs _ h t=>
    cases t;obtain⟨dv,a1,e4,r,a,p⟩:=I.step λr h=>ag h;obtain⟨O,s3,J,P⟩:=h.1.D8 R2 e4;unfold gC at a;split at a
    ·rename_i l es ps hi;obtain⟨hz,a⟩:=p5 a;cases a;obtain⟨pp,ep,g,kvs,hx,S⟩:=slot_of J hi q;cases ep;obtain⟨b,more,rfl,hb,T⟩:=O2.dct J.gH (.inl P);have L:z≠b:=by
      rintro rfl
      obtain⟨o,m⟩:∃o,O z=e9 o:=by
       cases P with
       |dct n _=>rcases n with n| ⟨_,n⟩<;>exact⟨_,n⟩
      rw[g]at m;cases m
     refine⟨z,b,kvs,more,rfl,rfl,L,hx,hb,?_,?_⟩
     ·have e1:=S.len;have y:=T.len;rw[e1,y,v0];unfold small at hz;omega
     ·exact p .v1 O _ s3 (J.write hi q ⟨iJ kvs more,m3,oJ T S⟩) .v1
    ·cases a
variable {ρ n3 x2 gm:l5}{w:W}{es MO ps:List (Key×D)}{i:Nat}{l:Bool}
theorem nH (a:ρ[i]?=e9 (e9 (.ow l (.dct MO))))(b:mr ρ=e9 (.ok [w] n3))(hl:D8 w n3=e9 (.ok (.dct ps) x2))(c:x2[i]?=e9 (e9 (.ow l (.dct es))))(d:small (es.length+ps.length))
  (hs:x2.set i (e9 (.ow l (.dct (ew es ps))))=gm):F7 (gX i mr) ρ=e9 (.nx gm):=by
 subst hs;refine W9 (w:=.val .v1) ?_;unfold gX;have e:AG i ρ=e9 (.ok () ρ):=by
  unfold AG;rw[a]
 rw[M.j9 (g7 a),M.j9 e,M.j9 b];show M.bind (D8 w) (gC i) n3=_;rw[M.j9 hl];unfold gC;rw[c];exact v7 d
end
noncomputable def qA (f:Str)(d:D):List (Str×D)→List (Str×D)
 | []=>[(f,d)]
 | (g,x)::r=>if g=f then(g,d)::r else(g,x)::qA f d r
section
variable {K:PySem.W.Frag}{G:Hp}{f:Str}
theorem N3.put(a:f≠S8→Rep K G v d):∀{fs:List (Str×V)} {fds:List (Str×D)},N3 K G fs fds→N3 K G (aX f v fs) (qA f d fds)
 |_,_,.nil=>.cons ⟨rfl,a⟩ .nil
 | (g,x)::fs,(b,y)::fds,.cons h t=>by
  obtain⟨e,c⟩:=h;have e:g=b:=e;subst e;show N3 K G (if g=f then(g,v)::fs else(g,x)::aX f v fs) (if g=f then(g,d)::fds else(g,y)::qA f d fds);by_cases z:g=f
  ·rw[if_pos z,if_pos z];exact .cons ⟨rfl,λn=>a (λw=>n (z.trans w))⟩ t
  ·rw[if_neg z,if_neg z];exact .cons ⟨rfl,c⟩ (N3.put a t)
theorem N3.look:∀{fs:List (Str×V)} {fds:List (Str×D)},N3 K G fs fds→∀{d:D},fds.lookup f=e9 d→∃v,fs.lookup f=e9 v∧(f≠S8→Rep K G v d)
 |_,_,.nil,d,e=>by cases e
 | (g,x)::fs,(b,y)::fds,.cons h t,d,e=>by
  obtain⟨a,c⟩:=h;have a:g=b:=a;subst a;by_cases z:f=g
  ·subst z;rw[List.lookup_cons_self]at e⊢;cases e;exact⟨x,rfl,c⟩
  ·have i:(f==g)=f6:=beq_eq_false_iff_ne.mpr z;simp only[List.lookup,i]at e⊢;exact N3.look t e
theorem N3.qP:∀{fs:List (Str×V)} {fds:List (Str×D)},N3 K G fs fds→fds.lookup f=f7→fs.lookup f=f7
 |_,_,.nil,_=>rfl
 | (g,x)::fs,(b,y)::fds,.cons h t,e=>by
  obtain⟨a,d⟩:=h;have a:g=b:=a;subst a;by_cases z:f=g
  ·subst z;rw[List.lookup_cons_self]at e;cases e
  ·have c:(f==g)=f6:=beq_eq_false_iff_ne.mpr z;simp only[List.lookup,c]at e⊢;exact N3.qP t e
theorem N3.len(h:N3 K G fs fds):fs.length=fds.length:=cF h
end
structure ik (K:PySem.W.Frag) (C:Addr) (fns:List Str):Prop where
 cls:Bl K C
 no:∀(k:Nat) f,fns[k]?=some f→eL K C f
section
variable {B:Bs}{G H:Hp}{σ:St}{ρ:l5}
theorem RS.ur {i j:Nat}{C p dx:Addr}{l:Bool}{fds rR:List (Str×D)}{fs GW:List (Str×V)}(R:RS B G H σ ρ)(s:B.O=e9 (i,j,C))(hi:ρ[i]?=e9 (e9 (.ob l fds)))(hs:σ[i]?=e9 (e9 (.ref p)))(J:H p=e9 (.ins C dx fs))(hr:N3 B.K G GW rR)
  (hl:∀v,GW.lookup S8=e9 v→∀d,ρ[j]?=e9 (e9 (.ow f8 d))→σ[j]?=e9 (e9 v)):RS B G (upd H p (.ins C dx GW)) σ (ρ.set i (e9 (.ob l rR))):=by
 obtain⟨Y,Z,t,L,N,a1,w,A,E,P,a6,a7,a8⟩:=R.ob.1 i l fds hi;rw[hs]at w;cases w;have f:i<ρ.length:=(List.getElem?_eq_some_iff.mp hi).1;refine⟨R.hk,λb u q=>?_,R.g0,λb u q=>?_,R.gnew,λb q=>?_,by simp[R.len],λk e q=>?_,λk o e q=>?_,λk m a b c e t x y=>?_,R.fz.jD (by intro _ h;cases h),λk o g q=>?_,λk g q=>?_⟩
 ·rw[k0 (t9 q E)];exact R.keep b u q
 ·rw[k0 (t9 q A)];exact R.gH b u q
 ·by_cases z:b=p
  ·subst z;rw[m3]at q;cases q
  ·rw[k0 z]at q;exact R.dom b q
 ·by_cases z:i=k
  ·subst z;rw[List.getElem?_set_self f]at q;cases q
  ·rw[List.getElem?_set_ne z]at q;exact R.sh k e q
 ·by_cases z:i=k
  ·subst z;rw[List.getElem?_set_self f]at q;cases q
  ·rw[List.getElem?_set_ne z]at q;obtain⟨Q,n,S,T,U,F⟩:=R.ow k o e q;exact⟨Q,n,S,T,U,F.same (j6.refl G) (k0 (bj F J).symm)⟩
 ·by_cases z:i=k
  ·subst z;rw[List.getElem?_set_self f]at x;cases x
  ·by_cases I:i=m
   ·subst I;rw[List.getElem?_set_self f]at y;cases y
   ·rw[List.getElem?_set_ne z]at x;rw[List.getElem?_set_ne I]at y;exact R.inj k m a b c e t x y
 ·by_cases z:i=k
  ·subst z;rw[List.getElem?_set_self f]at q;cases q;refine⟨j,C,p,dx,GW,s,hs,A,E,P,m3,hr,λv X d hd=>?_⟩;have r:i≠j:=λz=>by rw[←z,List.getElem?_set_self f]at hd;cases hd
   rw[List.getElem?_set_ne r]at hd;exact hl v X d hd
  ·rw[List.getElem?_set_ne z]at q;obtain⟨_,_,_,_,_,n,_⟩:=R.ob.1 k o g q;rw[s]at n;cases n;exact absurd rfl z
 ·rcases S0 q with⟨_,z⟩ | ⟨_,z⟩
  ·cases z
  ·exact R.ob.2 k g z
end
noncomputable def xo (i:Nat)(f:Str)(ρ:l5):Option D:=match ρ[i]? with
 |some (e9 (.ob _ fds))=>if f=S8 then f7 else fds.lookup f
 |_=>f7
noncomputable def sY (i:Nat)(f:Str):M W:=λρ=>(xo i f ρ).map λd=>.ok (.val d) ρ
noncomputable def kQ (i:Nat)(f:Str)(d:D):SM:=λρ=>match ρ[i]? with
 |some (e9 (.ob l fds))=>if f=S8 then f7 else dL (fds.length<1000) (e9 (.nx (ρ.set i (e9 (.ob l (qA f d fds))))))
 |_=>f7
noncomputable def gI (i:Nat)(f:Str)(a:M W):SM:=E4 a λw=>E4 (D8 w) λd=>kQ i f d
noncomputable def rF (i:Nat)(f:Str)(d:M W):SM:=λρ=>match xo i f ρ with
 |some (.int a)=>E4 d (λy c=>match getD y c with
  |some (.int b)=>kQ i f (.int (a+b)) c
  |_=>f7) ρ
 |_=>f7
section
variable {X:Cx}{B:Bs}{x f:Str}{i j:Nat}{C:Addr}{fns:List Str}{e:Expr}{me:M W}{p1 p2 pos:Pos}{G H:Hp}{σ:St}{ρ:l5}
theorem vh(b:B.O=e9 (i,j,C))(R:RS B G H σ ρ)(h:xo i f ρ=e9 d):∃p dx fs v,σ[i]?=e9 (e9 (.ref p))∧H p=e9 (.ins C dx fs)∧fs.lookup f=e9 v∧Rep B.K G v d:=by
 unfold xo at h;split at h
 ·rename_i l fds hi;split at h
  ·cases h
  ·rename_i c;obtain⟨n,o,p,dx,fs,a,e,q,s,t,g,k,u⟩:=R.ob.1 i l fds hi;rw[b]at a;cases a;obtain⟨v,m,r⟩:=N3.look k h;exact⟨p,dx,fs,v,e,g,m,r c⟩
 ·cases h
theorem nl(a:B.O=e9 (i,j,C))(R:RS B G H σ ρ)(m:Rep B.K G v d)(h:kQ i f d ρ=e9 r):∃p dx fs ρ',σ[i]?=e9 (e9 (.ref p))∧H p=e9 (.ins C dx fs)∧fs.length<1000∧r=.nx ρ'∧RS B G (upd H p (.ins C dx (aX f v fs))) σ ρ':=by
 unfold kQ at h;split at h
 ·rename_i l fds hi;split at h
  ·cases h
  ·rename_i n;obtain⟨o,h⟩:=p5 h;cases h;obtain⟨s,t,p,dx,fs,b,c,w,x,y,e,g,q⟩:=R.ob.1 i l fds hi;rw[a]at b;cases b;refine⟨p,dx,fs,_,c,e,by rw[N3.len g];exact o,rfl,R.ur a hi c e (N3.put (λ_=>m) g) λu k d hd=>?_⟩;rw[bm,if_neg (λz=>n z.symm)]at k;exact q u k d hd
 ·cases h
theorem vw (i j:Nat)(O:ik X.K C fns)(k:Nat)(b:fns[k]?=e9 f:=by rfl)(c:B.O=e9 (i,j,C):=by rfl)(g:X.N[i]?=e9 x:=by rfl)(h:fB X.env.scope x:=by first|exact Or.inl rfl|exact Or.inr (Or.inl rfl) |exact Or.inr (Or.inr rfl))(hd:(x==("__debug__":Str))=f6:=by decide) (a:(x==("__classdict__":Str))=f6:=by decide)
  (l:x0 (.Name x p1) f X.env (eval (.Name x p1) X.env)=eval (.Name x p1) X.env:=by rfl):PD X B (.Attribute (.Name x p1) f pos) (sY i f):=.mk λξ=>
 (sF (X:=rz X ξ) (bF (X:=rz X ξ) (i:=i) (pos:=p1) g h hd a) l).imp λσ H Q t=>by
  obtain⟨G,ρ,R,r,e,p⟩:=t;obtain⟨d,hd,rfl⟩:=h9.mp e;obtain⟨q,dx,fs,v,m,n,o,s⟩:=vh c R hd;exact⟨_,m,q,C,dx,fs,v,rfl,n,O.cls,O.no k f b,o,p v G H (j6.refl _) R s⟩
theorem nh (i j:Nat)(O:ik X.K C fns)(k:Nat)(b:PD X B e me)(c:fns[k]?=e9 f:=by rfl)(g:B.O=e9 (i,j,C):=by rfl)(l:X.N[i]?=e9 x:=by rfl)(m:fB X.env.scope x:=by first|exact Or.inl rfl|exact Or.inr (Or.inl rfl) |exact Or.inr (Or.inr rfl))(hd:(x==("__debug__":Str))=f6:=by decide) (a:(x==("__classdict__":Str))=f6:=by decide)
  (hs:T2 e (e9 (.Attribute (.Name x p1) f p2)) pos.line X.env=pure f6:=by rfl):se X B (.Assign [.Attribute (.Name x p1) f p2] e pos) (gI i f me):=.mk λξ=>
 (yL (X:=rz X ξ) (bF (X:=rz X ξ) (i:=i) (pos:=p1) l m hd a) (b.ap ξ) hs).imp λP σ H t=>by
  obtain⟨G,ρ,R,t⟩:=t;refine(SD.step (L8:=C4) R t).mono λy Q ⟨S,n,w,s1,o,s,u⟩=>?_;obtain⟨d,v,z,r,A,p⟩:=SD.quiet u λr h=>ag h;obtain⟨E,s2,R2,F⟩:=s.D8 o z;obtain⟨q,dx,fs,ρ',I,J,L,rfl,R'⟩:=nl g R2 F A;exact⟨_,I,q,C,dx,fs,rfl,J,O.cls,O.no k f c,L,p σ E _ s2 R'⟩
theorem yr (i j:Nat)(O:ik X.K C fns)(k:Nat)(o:PD X B e me)(s:fns[k]?=e9 f:=by rfl)(h:B.O=e9 (i,j,C):=by rfl)(u:X.N[i]?=e9 x:=by rfl)(z:fB X.env.scope x:=by first|exact Or.inl rfl|exact Or.inr (Or.inl rfl) |exact Or.inr (Or.inr rfl))(hd:(x==("__debug__":Str))=f6:=by decide) (c:(x==("__classdict__":Str))=f6:=by decide):
  se X B (.AugAssign (.Attribute (.Name x p1) f p2) .Add e pos) (rF i f me):=.mk λξ=>
 (wr (X:=rz X ξ) (bF (X:=rz X ξ) (i:=i) (pos:=p1) u z hd c) (o.ap ξ) Go).imp λU σ H t=>by
  obtain⟨G,ρ,R,r,e,p⟩:=t;unfold rF at e;split at e
  ·rename_i a A;obtain⟨q,dx,fs,v,l,E,F,I⟩:=vh h R A;refine⟨_,l,q,C,dx,fs,v,rfl,E,O.cls,O.no k f s,F,?_⟩;refine(SD.step (L8:=C4) R ⟨r,e,p⟩).mono λy Y ⟨J,L,w,s1,m,P,r,e,p⟩=>?_;dsimp only at e;split at e
   ·rename_i b Q;cases I;obtain⟨Z,d,g,ρ',n,S,T,rfl,R'⟩:=nl (v:=.int (a+b)) h m (.int _) e;rw[l]at n;cases n;exact⟨a,b,rfl,(P.get m Q).int,d,g,S,T,p σ J _ (j6.refl _) R'⟩
   ·cases e
  ·cases e
noncomputable def iO (i j:Nat)(ρ:l5):Bool:=match ρ[i]?,ρ[j]? with
 |some (e9 (.ob _ fds)),e9 (e9 (.ow f8 _))=>(fds.lookup S8).isSome
 |_,_=>f6
noncomputable def qM (i j:Nat):M W:=λρ=>if iO i j ρ=f8 then e9 (.ok (.slot j) ρ)else f7
theorem mY:vJ j (qM i j):=λρ w ρ' h=>by
 unfold qM at h;split at h
 ·cases h;exact⟨rfl,rfl⟩
 ·cases h
theorem ux (m:B.O=e9 (i,j,C))(R:RS B G H σ ρ)(h:iO i j ρ=f8):∃l fds p dx fs t d,ρ[i]?=e9 (e9 (.ob l fds))∧ρ[j]?=e9 (e9 (.ow f8 d))∧σ[i]?=e9 (e9 (.ref p))∧H p=e9 (.ins C dx fs)∧N3 B.K G fs fds∧fs.lookup S8=e9 (.ref t)∧σ[j]?=e9 (e9 (.ref t))∧G p=f7∧B2 B.K G H t d:=by
 unfold iO at h;split at h
 ·rename_i l fds d hi a;obtain⟨u,b⟩:=A6.mp h;obtain⟨w,x,p,dx,fs,c,n,o,y,z,q,f,r⟩:=R.ob.1 i l fds hi;rw[m]at c;cases c;obtain⟨v,g,_⟩:=N3.look f b;have e:=r v g d a;obtain⟨t,k,A,E,F,s⟩:=R.ow j f8 d a;rw[e]at k;cases k;exact⟨l,fds,p,dx,fs,t,d,hi,a,n,q,f,g,e,o,s⟩
 ·cases h
theorem Av (i j:Nat)(O:ik X.K C fns)(k:Nat)(b:fns[k]?=e9 S8:=by rfl)(c:B.O=e9 (i,j,C):=by rfl)(f:X.N[i]?=e9 x:=by rfl)(g:fB X.env.scope x:=by first|exact Or.inl rfl|exact Or.inr (Or.inl rfl) |exact Or.inr (Or.inr rfl))(hd:(x==("__debug__":Str))=f6:=by decide) (a:(x==("__classdict__":Str))=f6:=by decide)
  (h:x0 (.Name x p1) S8 X.env (eval (.Name x p1) X.env)=eval (.Name x p1) X.env:=by rfl):PD X B (.Attribute (.Name x p1) S8 pos) (qM i j):=.mk λξ=>
 (sF (X:=rz X ξ) (bF (X:=rz X ξ) (i:=i) (pos:=p1) f g hd a) h).imp λσ H Q t=>by
  obtain⟨G,ρ,R,r,e,p⟩:=t;unfold qM at e;split at e
  ·rename_i m;cases e;obtain⟨l,fds,q,dx,fs,t,d,v,w,n,o,y,s,u,z,A⟩:=ux c R m;exact⟨_,n,q,C,dx,fs,_,rfl,o,O.cls,O.no k S8 b,s,p _ G H (j6.refl _) R u⟩
  ·cases e
end
theorem _root_.L2.Inv.ghost(v:Option V)(I:Inv X pins σ H s)(d:X.N[j]?=e9 g)(e:¬fB X.env.scope g):Inv X pins (σ.set j v) H s:=by
 obtain⟨m,f,h⟩:=I.loc;refine⟨I.ok,I.os,I.bare,I.base,⟨m,f,λi x u b c a=>h i x u b ?_ a⟩,I.cell,I.free,I.freeC,I.pin,I.hok,by rw[List.length_set];exact I.len⟩;by_cases z:j=i
 ·subst z;rw[d]at b;cases b;exact absurd a e
 ·rw[List.getElem?_set_ne z]at c;exact c
section
variable {X:Cx}{j:Nat}{g:Str}
theorem wq {st:List Stmt}{t:TS}(h:lV X st t)(a:X.N[j]?=e9 g)(b:¬fB X.env.scope g):lV X st (λD σ H=>∃v,t D (σ.set j v) H):=λpins s σ H D I ⟨v,q⟩=>h pins s _ H D (I.ghost v a b) q
theorem qB {st:Stmt}{t:TS}(h:PS X st t)(b:X.N[j]?=e9 g)(c:¬fB X.env.scope g):PS X st (λD σ H=>t {D with nx:=λa H'=>∃v,D.nx (a.set j v) H'} σ H):=λpins s σ H D I q=>
 z9 (h pins s σ H _ I q) (λd i z=>by
  cases d with
  |next=>obtain⟨a,H',f,v,q⟩:=z;exact⟨a.set j v,H',f.ghost v b c,q⟩
  |brk=>exact z
  |cont=>exact z
  |ret u=>exact z) λe s z=>z
end
section
variable {B:Bs}{G H:Hp}{σ:St}{ρ:l5}
theorem RS.DT {i j:Nat}{C t:Addr}{d:D}(R:RS B G H σ ρ)(w:B.O=e9 (i,j,C))(I:B.L j=f7)(f:j<ρ.length)(h:E2 B G H σ ρ (.ref t) (.own d))
  (hl:∀l fds p dx fs,ρ[i]?=e9 (e9 (.ob l fds))→σ[i]?=e9 (e9 (.ref p))→H p=e9 (.ins C dx fs)→∀v,fs.lookup S8=e9 v→v=.ref t):RS B G H (σ.set j (e9 (.ref t))) (ρ.set j (e9 (.ow f8 d))):=by
 obtain⟨p,e,g,x,o,ne⟩:=h;cases e;have hs:j<σ.length:=by rw[R.len];exact f
 have y:B.gh j=f8:=by unfold Bs.gh;rw[w];simp
 refine⟨R.hk,R.keep,R.g0,R.gH,R.gnew,R.dom,by simp[R.len],λk q c=>?_,λk l q c=>?_,λk m l q A E J a b=>?_,R.fz.qo (by intro _ h;cases h),λk l fds c=>?_,λk fds c=>?_⟩
 ·by_cases z:j=k
  ·subst z;rw[List.getElem?_set_self f]at c;cases c
  ·rw[List.getElem?_set_ne z]at c⊢;exact R.sh k q c
 ·by_cases z:j=k
  ·subst z;rw[List.getElem?_set_self f]at c;cases c;refine⟨t,by rw[List.getElem?_set_self hs],g,?_,.inr ⟨y,I,x⟩,o⟩;cases N:B.HK t with
   |none=>rfl
   |some ob=>rw[R.hk t ob N]at x;cases x
  ·rw[List.getElem?_set_ne z]at c⊢;exact R.ow k l q c
 ·by_cases z:j=k
  ·by_cases u:j=m
   ·intro _ _;omega
   ·subst z;rw[List.getElem?_set_self hs,List.getElem?_set_ne u];rw[List.getElem?_set_ne u]at b;intro r s;cases r;exact absurd s (ne m A E b)
  ·by_cases u:j=m
   ·subst u;rw[List.getElem?_set_self hs,List.getElem?_set_ne z];rw[List.getElem?_set_ne z]at a;intro r s;cases s;exact absurd r (ne k l q a)
   ·rw[List.getElem?_set_ne z]at a⊢;rw[List.getElem?_set_ne u]at b⊢;exact R.inj k m l q A E J a b
 ·by_cases z:j=k
  ·subst z;rw[List.getElem?_set_self f]at c;cases c
  ·rw[List.getElem?_set_ne z]at c⊢;obtain⟨Y,Z,p,dx,fs,r,s,P,Q,S,F,T,a8⟩:=R.ob.1 k l fds c;rw[w]at r;cases r;refine⟨j,C,p,dx,fs,w,s,P,Q,S,F,T,λv U q X=>?_⟩;rw[List.getElem?_set_self hs,hl l fds p dx fs c s F v U]
 ·rcases S0 c with⟨_,z⟩ | ⟨n,z⟩
  ·cases z
  ·rw[List.getElem?_set_ne n];exact R.ob.2 k fds z
end
noncomputable def tabS (i j:Nat)(a:M W):SM:=E4 a λw ρ=>match w,ρ[i]? with
 |.own (.dct es),e9 (e9 (.ob l fds))=>dL (j<ρ.length∧i≠j∧fds.length<1000∧ρ[j]?.join.isNone=f8) (e9 (.nx ((ρ.set i (e9 (.ob l (qA S8 .v1 fds)))).set j (e9 (.ow f8 (.dct es))))))
 |_,_=>f7
section
variable {X:Cx}{B:Bs}{x g:Str}{i j:Nat}{C:Addr}{fns:List Str}{e:Expr}{me:M W}{p1 p2 pos:Pos}
theorem Ia (i j:Nat)(O:ik X.K C fns)(k:Nat)(Z:PD X B e me)(hL:B.L j=f7)(hg:¬fB X.env.scope g)(hj:X.N[j]?=e9 g:=by rfl)(hf:fns[k]?=e9 S8:=by rfl)(f:B.O=e9 (i,j,C):=by rfl)(hN:X.N[i]?=e9 x:=by rfl)(b:fB X.env.scope x:=by first|exact Or.inl rfl|exact Or.inr (Or.inl rfl) |exact Or.inr (Or.inr rfl))(hd:(x==("__debug__":Str))=f6:=by decide) (m:(x==("__classdict__":Str))=f6:=by decide)
  (hs:T2 e (e9 (.Attribute (.Name x p1) S8 p2)) pos.line X.env=pure f6:=by rfl):se X B (.Assign [.Attribute (.Name x p1) S8 p2] e pos) (tabS i j me):=.mk λξ=>
 (qB (j:=j) (g:=g) (yL (X:=rz X ξ) (bF (X:=rz X ξ) (i:=i) (pos:=p1) hN b hd m) (Z.ap ξ) hs) hj hg).imp λDn σ H t=>by
  obtain⟨G,ρ,R,t⟩:=t;refine(SD.step (L8:=C4) R t).mono λy H1 ⟨E,a,w,s1,F,q1,r,e,p⟩=>?_;dsimp only at e;split at e
  ·rename_i es l fds hi;obtain⟨⟨z1,z2,z3,I⟩,e⟩:=p5 e;cases e;obtain⟨j',C',q,dx,fs,J,s,a3,a4,a5,u,P,a8⟩:=F.ob.1 i l fds hi;rw[f]at J;cases J;obtain⟨t,rfl,g1,g2,o,ne⟩:=q1;have nj:∀d,a[j]?≠e9 (e9 (.ow f8 d)):=λd h=>by rw[h]at I;cases I
   have R2:=F.ur (GW:=aX S8 (.ref t) fs) (rR:=qA S8 .v1 fds) f hi s u (N3.put (λn=>absurd rfl n) P) λv _ d hd=>absurd hd (nj d);have ho:B2 B.K E (upd H1 q (.ins C dx (aX S8 (.ref t) fs))) t (.dct es):=o.same (j6.refl _) (k0 (bj o u).symm);have R3:=R2.DT (d:=.dct es) f hL (by simpa using z1) ⟨t,rfl,g1,g2,ho,λk Q e2 c z=>?_⟩ λQ S p2 a0 a9 b1 T U v b=>?_
   ·refine⟨_,s,q,C,dx,fs,rfl,u,O.cls,O.no k S8 hf,by rw[N3.len P];exact z3,e9 (.ref t),p _ E _ (j6.refl _) R3⟩
   ·have A:i<a.length:=(List.getElem?_eq_some_iff.mp hi).1;by_cases Y:i=k
    ·subst Y;rw[List.getElem?_set_self A]at c;cases c
    ·rw[List.getElem?_set_ne Y]at c;exact ne k Q e2 c z
   ·rw[s]at T;cases T;rw[m3]at U;cases U;rw[bm,if_pos rfl]at b;exact(j7 b).symm
  ·cases e
end
inductive MR where
 |ret (d:D) (fds:List (Str×D)) (es:List (Key×D))
structure ui (K:PySem.W.Frag) (C:Addr) (G H:Hp) (p t:Addr) (G' H':Hp) (fds:List (Str×D)) (es:List (Key×D)):Prop where
 keep:j6 (minus H [p,t]) H'
 gg:j6 G G'
 gH:j6 G' H'
 gnew:∀q o,G' q=some o→G q=some o∨H q=none
 dom:∀q,H' q=none→H q=none
 ob:∃dx fs,H' p=some (.ins C dx fs)∧N3 K G' fs fds∧fs.lookup S8=some (.ref t)
 gp:G' p=none
 gt:G' t=none
 tb:B2 K G' H' t (.dct es)
noncomputable def pW (K:PySem.W.Frag)(C:Addr)(e:Nat)(f:List (Str×D)→List (Key×D)→List D→Option MR):Sp:=λvs H Q E=>∃G p t a dx fs fds es ds d b c,vs=.ref p::a∧ds.length+1=e∧j6 G H∧G p=f7∧G t=f7∧H p=e9 (.ins C dx fs)∧N3 K G fs fds∧fs.lookup S8=e9 (.ref t)∧
 B2 K G H t (.dct es)∧o9 K G a ds∧f fds es ds=e9 (.ret d b c)∧∀v G' H',ui K C G H p t G' H' b c→Rep K G' v d→Q v H'
theorem pW.imp {K:PySem.W.Frag}{C:Addr}{b:Nat}{c a:List (Str×D)→List (Key×D)→List D→Option MR}(h:∀fds es ds r,c fds es ds=e9 r→a fds es ds=e9 r):∀vs H Q E,pW K C b c vs H Q E→pW K C b a vs H Q E:=by
 rintro vs H Q E ⟨G,p,t,S2,dx,fs,fds,es,ds,d,rR,JU,a1,a2,a3,a4,a5,a6,a7,a8,a9,a10,a11,a12⟩
 exact⟨G,p,t,S2,dx,fs,fds,es,ds,d,rR,JU,a1,a2,a3,a4,a5,a6,a7,a8,a9,a10,h _ _ _ _ a11,a12⟩
noncomputable def aA (n:Nat)(fds:List (Str×D))(ds:List D):l5:=(e9 (.ob f8 fds)::ds.map λd=>e9 (C.sh d))++List.replicate (n-(ds.length+1)) f7
noncomputable def startM (n j:Nat)(fds:List (Str×D))(es:List (Key×D))(ds:List D):l5:=(aA n fds ds).set j (e9 (.ow f8 (.dct es)))
noncomputable def xq (j:Nat)(d:D)(ρ:l5):Option MR:=match(ρ[0]?:Option (Option C)),(ρ[j]?:Option (Option C))with
 |some (e9 (.ob f8 fds)),e9 (e9 (.ow f8 (.dct es)))=>if(fds.lookup S8).isSome=f8 then e9 (.ret d fds es)else f7
 |_,_=>f7
noncomputable def FF (j:Nat):SR→Option MR
 |.nx ρ=>xq j .v1 ρ
 |.rt (.val d) ρ=>xq j d ρ
 |_=>f7
noncomputable def runM (m:SM)(n j:Nat)(fds:List (Str×D))(es:List (Key×D))(ds:List D):Option MR:=(m (startM n j fds es ds)).bind (FF j)
theorem F4(h:(aA n fds ds)[i]?=e9 (e9 c)):(i=0∧c=.ob f8 fds)∨∃k d,i=k+1∧ds[k]?=e9 d∧c=.sh d:=by
 unfold aA at h;by_cases hi:i<(e9 (C.ob f8 fds)::ds.map λd=>e9 (C.sh d)).length
 ·rw[List.getElem?_append_left hi]at h;cases i with
  |zero=>cases h;exact .inl ⟨rfl,rfl⟩
  |succ k=>
   rw[List.getElem?_cons_succ,List.getElem?_map]at h;cases e:ds[k]? with
   |none=>rw[e]at h;cases h
   |some d=>rw[e]at h;cases h;exact .inr ⟨k,d,rfl,e,rfl⟩
 ·rw[List.getElem?_append_right (by omega),List.getElem?_replicate]at h;split at h<;>cases h
theorem kt{ds:List D}(h:ds.length+1≤n):(aA n fds ds).length=n:=by
 unfold aA;simp;omega
theorem gF {N:List Str}{vs:List V}(h:vs.length≤N.length):(start N vs).length=N.length:=by
 unfold L2.start;rw[List.length_append,List.length_map,List.length_replicate];omega
section
variable {K:PySem.W.Frag}{G H:Hp}{N:List Str}{C p t dx:Addr}{S2:List V}{fs:List (Str×V)}{fds:List (Str×D)}{es:List (Key×D)}{ds:List D}{j:Nat}
theorem ni(hk:j6 HK H)(h:HK p=f7)(t:L 0=e9 p)(g:j6 G H)(gp:G p=f7)(u:H p=e9 (.ins C dx fs))(rf:N3 K G fs fds)(m:o9 K G S2 ds)(n:ds.length+1≤N.length)(w:ds.length<j):
  RS ⟨K,H,HK,G,L,e9 (0,j,C)⟩ G H (start N (.ref p::S2)) (aA N.length fds ds):=by
 refine⟨hk,hk,j6.refl _,g,λq o e=>.inl e,λq e=>e,?_,λi d e=>?_,λi l d e=>?_,λi k l d x e y a b=>?_,λi es e=>?_,λi l f e=>?_,λi f e=>?_⟩
 ·rw[kt n,gF (by rw[List.length_cons,m.len];exact n)]
 ·rcases F4 e with⟨_,z⟩ | ⟨k,c,rfl,hd,z⟩
  ·cases z
  ·cases z;obtain⟨v,s,r⟩:=m.at hd;exact⟨v,S3 (by rw[List.getElem?_cons_succ];exact s),r⟩
 ·rcases F4 e with⟨_,z⟩ | ⟨k,c,_,_,z⟩<;>cases z
 ·rcases F4 a with⟨_,z⟩ | ⟨k,c,_,_,z⟩<;>cases z
 ·rcases F4 e with⟨_,z⟩ | ⟨k,c,_,_,z⟩<;>cases z
 ·rcases F4 e with⟨rfl,z⟩ | ⟨k,c,_,_,z⟩<;>cases z;refine⟨j,C,p,dx,fs,rfl,S3 rfl,gp,h,⟨λ_=>t,λz=>by cases z⟩,u,rf,λv s d hd=>?_⟩;rcases F4 hd with⟨_,z⟩ | ⟨k,c,_,_,z⟩<;>cases z
 ·rcases F4 e with⟨_,z⟩ | ⟨k,c,_,_,z⟩<;>cases z
theorem wm (g:j6 G H)(gp:G p=f7)(gt:G t=f7)(r:H p=e9 (.ins C dx fs))(rf:N3 K G fs fds)(lk:fs.lookup S8=e9 (.ref t))(tb:B2 K G H t (.dct es))(s:o9 K G S2 ds)(A:j<N.length)(x:ds.length<j):
  RS ⟨K,H,minus H [p,t],G,λi=>if i=0 then e9 p else if i=j then e9 t else f7,e9 (0,j,C)⟩ G H ((start N (.ref p::S2)).set j (e9 (.ref t))) (startM N.length j fds es ds):=by
 have R:=ni (N:=N) (S2:=S2) (L:=λi=>if i=0 then e9 p else if i=j then e9 t else f7) (N7 H [p,t]) (cj (by simp)) rfl g gp r rf s (by omega) x;have hl:(aA N.length fds ds).length=N.length:=kt (by omega);have hs:(start N (.ref p::S2)).length=N.length:=gF (by rw[List.length_cons,s.len];omega);have o:j≠0:=by omega
 have now:∀{k:Nat} {l:Bool} {d:D},(aA N.length fds ds)[k]?≠e9 (e9 (.ow l d)):=λ{k l d} e=>by rcases F4 e with⟨_,z⟩ | ⟨_,_,_,_,z⟩<;>cases z
 unfold startM;refine⟨R.hk,R.keep,R.g0,R.gH,R.gnew,R.dom,by simp[R.len],λk q c=>?_,λk l q c=>?_,λk m l q B E F a b=>?_,R.fz.qo (by intro _ h;cases h),λk l f c=>?_,λk f c=>?_⟩
 ·by_cases z:j=k
  ·subst z;rw[List.getElem?_set_self (by omega)]at c;cases c
  ·rw[List.getElem?_set_ne z]at c⊢;exact R.sh k q c
 ·by_cases z:j=k
  ·subst z;rw[List.getElem?_set_self (by omega)]at c;cases c;refine⟨t,by rw[List.getElem?_set_self (by omega)],gt,cj (by simp),.inl ?_,tb⟩;show(if j=0 then e9 p else if j=j then e9 t else f7)=e9 t;rw[if_neg o,if_pos rfl]
  ·rw[List.getElem?_set_ne z]at c;exact absurd c now
 ·by_cases z:j=k
  ·by_cases y:j=m
   ·intro _ _;omega
   ·rw[List.getElem?_set_ne y]at b;exact absurd b now
  ·rw[List.getElem?_set_ne z]at a;exact absurd a now
 ·by_cases z:j=k
  ·subst z;rw[List.getElem?_set_self (by omega)]at c;cases c
  ·rw[List.getElem?_set_ne z]at c⊢;rcases F4 c with⟨rfl,u⟩ | ⟨_,_,_,_,u⟩<;>cases u
   refine⟨j,C,p,dx,fs,rfl,S3 rfl,gp,cj (by simp),⟨λ_=>rfl,λz=>by cases z⟩,r,rf,λv w d hd=>?_⟩;rw[lk]at w;cases w;rw[List.getElem?_set_self (by omega)]
 ·rcases S0 c with⟨_,z⟩ | ⟨n,z⟩
  ·cases z
  ·rcases F4 z with⟨_,z⟩ | ⟨_,_,_,_,z⟩<;>cases z
end
section
variable {P:Program}{w:World}{K:PySem.W.Frag}{mg:Str→Option Value}{base:Heap}
theorem vf {x qual g:Str}{st:Stmt}{f C:Addr}{fd:FuncData}{N ps:List Str}{k:Nat}(j:Nat){m:SM}(F:bc K x qual st f fd)(S:n2 N ps (j8 st))(hj:N[j]?=e9 g)(hg:¬fB (j8 st) g)(b0:ps.length≤j)
  (n:∀(cdv:Value) (A:Around) (outer:List Env) (s:Shared) (H:Hp) (E:XK) (H0 HK G0:Hp) (L:Nat→Option Addr),O8 k (A.deeper (bW qual (j8 st) s.heap.objs.size f cdv))→
   iU (lI V2 P w K mg base N qual (j8 st) f cdv A outer s H E) ⟨K,H0,HK,G0,L,e9 (0,j,C)⟩ (G7 st) m):x5 P w K mg base V2 (k+1) f fd ps (pW K C ps.length (runM m N.length j)):=by
 have R:j<N.length:=(List.getElem?_eq_some_iff.mp hj).1;refine F.ok S (λvs H Q E h=>?_) (λcdv A outer s H vs Q E hr h=>?_)
 ·obtain⟨G,p,t,u,dx,fs,fds,es,ds,d,a,c,rfl,a2,a3,a4,a5,a6,a7,a8,a9,o,b9,c0⟩:=h;rw[List.length_cons,o.len,a2]
 obtain⟨G,p,t,u,dx,fs,fds,es,ds,d,a,c,rfl,a2,a3,a4,a5,a6,a7,a8,a9,o,y,q⟩:=h;refine⟨_,wq (j:=j) (g:=g) (((n cdv A outer s H E H (minus H [p,t]) G (λi=>if i=0 then e9 p else if i=j then e9 t else f7) hr).ap λ_ _ _=>False).ay (λe s z=>?_)) hj hg,?_⟩
 ·obtain⟨_,_,_,_,_,_,z⟩:=z;exact z
 have R0:=wm (N:=N) (j:=j) a3 a4 a5 a6 a7 a8 a9 o R (by omega);unfold runM at y;cases hs:m (startM N.length j fds es ds)with
 |none=>rw[hs]at y;cases y
 |some T=>
  rw[hs]at y;have b:FF j T=e9 (.ret d a c):=y;refine⟨e9 (.ref t),G,_,R0,T,hs,?_⟩;have fin:∀{ρ':l5} {l:St} {G' H':Hp} {O:D},xq j O ρ'=e9 (.ret d a c)→RS ⟨K,H,minus H [p,t],G,λi=>if i=0 then e9 p else if i=j then e9 t else f7,e9 (0,j,C)⟩ G' H' l ρ'→ui K C G H p t G' H' a c∧O=d:=λ{ρ' l G' H' O} e R'=>by
   unfold xq at e;split at e
   ·rename_i a1 c6 h0 B;split at e
    ·rename_i r;cases e;obtain⟨dd,U⟩:=A6.mp r;obtain⟨j',C',p',X,Y,b1,b2,b3,b4,b5,b6,b7,b8⟩:=R'.ob.1 0 f8 a h0;cases b1;have ep:e9 p=e9 p':=b5.1 rfl;cases ep;obtain⟨v,hv,_⟩:=N3.look b7 U;have ev:=b8 v hv _ B;obtain⟨t',c1,c2,c3,c4,c5⟩:=R'.ow j f8 _ B;have Z:j≠0:=by omega
     have et:t'=t:=by
      have I:(if j=0 then e9 p else if j=j then e9 t else f7)=e9 t:=by rw[if_neg Z,if_pos rfl]
      rcases c4 with z| ⟨_,z,_⟩
      ·have J:(if j=0 then e9 p else if j=j then e9 t else f7)=e9 t':=z;rw[I]at J;exact(j7 J).symm
      ·have J:(if j=0 then e9 p else if j=j then e9 t else f7)=f7:=z;rw[I]at J;cases J
     subst et;rw[ev]at c1;cases c1;exact⟨⟨R'.keep,R'.g0,R'.gH,R'.gnew,R'.dom,⟨X,Y,b6,b7,hv⟩,b3,c2,c5⟩,rfl⟩
    ·cases e
   ·cases e
  cases T with
  |nx ρ'=>
   refine λl G' H' s' R'=>?_;obtain⟨A',z⟩:=fin b R';exact q .v1 G' H' A' (z▸.v1)
  |rt w' ρ'=>
   cases w' with
   |slot i=>cases b
   |own d=>cases b
   |val O=>
    refine λv l G' H' s' R' a0=>?_;obtain⟨A',z⟩:=fin b R';exact q v G' H' A' (z▸a0)
  |ex x ρ'=>cases b
  |bk ρ'=>cases b
  |ct ρ'=>cases b
end
def xM (P:Program)(w:World)(K:PySem.W.Frag)(mg:Str→Option Value)(base:Heap)(k:Nat)(C:Addr)(m:Str)(ps:List Str)(sp:Sp):Prop:=
 ∃(f:Addr) (fd:FuncData),x5 P w K mg base V2 k f fd ps sp∧Binds K fd ps []∧Meth K C m f
noncomputable def KC (i:Nat)(f:Str)(ρ:l5):Option D:=match ρ[i]? with
 |some (e9 (.rd fds))=>if f=S8 then f7 else fds.lookup f
 |_=>f7
noncomputable def IF (i:Nat)(f:Str):M W:=λρ=>(KC i f ρ).map λd=>.ok (.val d) ρ
section
variable {X:Cx}{B:Bs}{x f:Str}{i:Nat}{C:Addr}{fns:List Str}{p1 pos:Pos}
theorem KU (i:Nat)(O:ik X.K C fns)(k:Nat)(j:fns[k]?=e9 f:=by rfl)(l:B.O=e9 (g,h,C):=by rfl)(m:X.N[i]?=e9 x:=by rfl)(a:fB X.env.scope x:=by first|exact Or.inl rfl|exact Or.inr (Or.inl rfl) |exact Or.inr (Or.inr rfl))(hd:(x==("__debug__":Str))=f6:=by decide) (b:(x==("__classdict__":Str))=f6:=by decide)
  (n:x0 (.Name x p1) f X.env (eval (.Name x p1) X.env)=eval (.Name x p1) X.env:=by rfl):PD X B (.Attribute (.Name x p1) f pos) (IF i f):=.mk λξ=>
 (sF (X:=rz X ξ) (bF (X:=rz X ξ) (i:=i) (pos:=p1) m a hd b) n).imp λσ H Q t=>by
  obtain⟨G,ρ,R,r,e,p⟩:=t;obtain⟨d,hd,rfl⟩:=h9.mp e;unfold KC at hd;split at hd
  ·rename_i fds hi;split at hd
   ·cases hd
   ·rename_i o;obtain⟨y,z,A,q,dx,fs,c,s,u,w⟩:=R.ob.2 i fds hi;rw[l]at c;cases c;obtain⟨v,a,r⟩:=N3.look w hd;exact⟨_,s,q,C,dx,fs,v,rfl,R.keep _ _ u,O.cls,O.no k f j,a,p v G H (j6.refl _) R (r o)⟩
  ·cases hd
end
section
variable {B:Bs}{G H G' H':Hp}{σ:St}{ρ:l5}
theorem RS.GQ {i j:Nat}{C p t dx:Addr}{l:Bool}{fs:List (Str×V)}{fds a:List (Str×D)}{f:List (Key×D)}{d:D}(R:RS B G H σ ρ)(hO:B.O=e9 (i,j,C))(hi:ρ[i]?=e9 (e9 (.ob l fds)))(I:ρ[j]?=e9 (e9 (.ow f8 d)))(hs:σ[i]?=e9 (e9 (.ref p)))(hp:H p=e9 (.ins C dx fs))(Q:σ[j]?=e9 (e9 (.ref t)))
  (A:ui B.K C G H p t G' H' a f):RS B G' H' σ ((ρ.set i (e9 (.ob l a))).set j (e9 (.ow f8 (.dct f)))):=by
 obtain⟨j',C',p',b6,J,a1,a2,a3,a4,a5,a6,a7,a8⟩:=R.ob.1 i l fds hi;rw[hs]at a2;cases a2;obtain⟨t',b1,b2,b3,b4,b5⟩:=R.ow j f8 d I;rw[Q]at b1;cases b1;have b7:i<ρ.length:=(List.getElem?_eq_some_iff.mp hi).1;have b8:j<ρ.length:=(List.getElem?_eq_some_iff.mp I).1;have b9:i≠j:=λz=>by rw[z,I]at hi;cases hi
 have n:∀b o,H b=e9 o→b≠p→b≠t→H' b=e9 o:=λb o e S L=>A.keep b o (by rw[V8 (by simp[S,L])];exact e);have N:∀b o,H b=e9 o→G b=f7→G' b=f7:=λb o e g=>by
  cases q:G' b with
  |none=>rfl
  |some u=>
   rcases A.gnew b u q with z|z
   ·rw[g]at z;cases z
   ·rw[e]at z;cases z
 have at':∀{k:Nat} {c:L3.C},((ρ.set i (e9 (.ob l a))).set j (e9 (.ow f8 (.dct f))))[k]?=e9 (e9 c)→(k=j∧c=.ow f8 (.dct f))∨(k≠j∧k=i∧c=.ob l a)∨(k≠j∧k≠i∧ρ[k]?=e9 (e9 c)):=λ{k c} e=>by
  rcases S0 e with⟨z,T⟩ | ⟨z,T⟩
  ·cases T;exact .inl ⟨z.symm,rfl⟩
  ·rcases S0 T with⟨U,P⟩ | ⟨U,P⟩
   ·cases P;exact .inr (.inl ⟨x8 z,U.symm,rfl⟩)
   ·exact .inr (.inr ⟨x8 z,x8 U,P⟩)
 refine⟨R.hk,λb u q=>n b u (R.keep b u q) (t9 q a4) (t9 q b3),R.g0.trans A.gg,A.gH,λb u q=>?_,λb q=>R.dom b (A.dom b q),by simp[R.len],λk e q=>?_,λk s e q=>?_,λk m la da lb db p' x y hx hy=>?_,(R.fz.same A.gg).jD (by intro _ h;cases h) |>.jD (by intro _ h;cases h),?_,?_⟩
 ·rcases A.gnew b u q with z|z
  ·exact R.gnew b u z
  ·exact .inr (R.dom b z)
 ·rcases at' q with⟨_,z⟩ | ⟨_,_,z⟩ | ⟨_,_,z⟩
  ·cases z
  ·cases z
  ·obtain⟨v,h1,h2⟩:=R.sh k e z;exact⟨v,h1,h2.same A.gg⟩
 ·rcases at' q with⟨E,z⟩ | ⟨_,_,z⟩ | ⟨S,L,z⟩
  ·cases z;subst E;exact⟨t,Q,A.gt,b3,b4,A.tb⟩
  ·cases z
  ·obtain⟨F,w,X,Y,Z,c5⟩:=R.ow k s e z;obtain⟨o,ho⟩:=c5.some;have e1:F≠p:=(bj c5 a6).symm;have P:F≠t:=λzz=>S (R.inj k j s e f8 d F z I w (by rw[Q,zz]));exact⟨F,w,N F o ho X,Y,Z,c5.same A.gg ((n F o ho e1 P).trans ho.symm)⟩
 ·have old:∀{k:Nat} {s:Bool} {e:D},((ρ.set i (e9 (.ob l a))).set j (e9 (.ow f8 (.dct f))))[k]?=e9 (e9 (.ow s e))→∃s e,ρ[k]?=e9 (e9 (.ow s e)):=λ{k s e} h=>by
   rcases at' h with⟨E,_⟩ | ⟨_,_,z⟩ | ⟨_,_,z⟩
   ·rw[E];exact⟨_,_,I⟩
   ·cases z
   ·exact⟨_,_,z⟩
  obtain⟨_,_,x'⟩:=old x;obtain⟨_,_,y'⟩:=old y;exact R.inj k m _ _ _ _ p' x' y' hx hy
 ·intro k s r q;rcases at' q with⟨_,z⟩ | ⟨_,E,z⟩ | ⟨_,L,z⟩
  ·cases z
  ·cases z;subst E;obtain⟨a0,a9,d1,d2,d3⟩:=A.ob;refine⟨j,C,p,a0,a9,hO,hs,A.gp,a4,a5,d1,d2,λv hv _ _=>?_⟩;rw[d3]at hv;cases hv;exact Q
  ·obtain⟨_,_,_,_,_,w,_⟩:=R.ob.1 k s r z;rw[hO]at w;cases w;exact absurd rfl L
 ·intro k r q;rcases at' q with⟨_,z⟩ | ⟨_,E,z⟩ | ⟨_,L,z⟩
  ·cases z
  ·cases z
  ·obtain⟨i0,j0,C0,p0,b0,J,w,X,Y,Z⟩:=R.ob.2 k r z;exact⟨i0,j0,C0,p0,b0,J,w,X,Y,Z.same A.gg⟩
end
noncomputable def AH (i:Nat)(m:Str):M Unit:=λρ=>match ρ[i]? with
 |some (e9 (.ob _ fds))=>if(fds.lookup m).isNone=f8 then e9 (.ok () ρ)else f7
 |_=>f7
noncomputable def sS (i j c:Nat)(e:List (Str×D)→List (Key×D)→List D→Option MR)(ds:List D):M W:=λρ=>match ρ[i]?,ρ[j]? with
 |some (e9 (.ob l fds)),e9 (e9 (.ow f8 (.dct es)))=>if iO i j ρ=f8∧ds.length+1=c then match e fds es ds with
  |some (.ret d a b)=>e9 (.ok (.val d) ((ρ.set i (e9 (.ob l a))).set j (e9 (.ow f8 (.dct b)))))
  |none=>f7
  else f7
 |_,_=>f7
noncomputable def ji (i j:Nat)(m:Str)(a:Nat)(b:List (Str×D)→List (Key×D)→List D→Option MR)(c:M (List W)):M W:=M.bind (h7 i) λ_=>M.bind (AH i m) λ_=>M.bind c λd=>M.bind (aI d) λds=>sS i j a b ds
section
variable {X:Cx}{B:Bs}{k i j:Nat}{x m:Str}{C:Addr}{fns ps:List Str}{fm:List (Str×D)→List (Key×D)→List D→Option MR}{e:Expr}{es:List Expr}{mr:M (List W)}{p1 apos pos:Pos}
theorem BD(n:B.O=e9 (i,j,C))(t:TD C4 B ξ (ji i j m E fm mr) σ H Q):DP C m (pW B.K C E fm) [] E0 (ER i) (TD M8 B ξ mr) σ H Q:=by
 obtain⟨G,ρ,R,t⟩:=t;obtain⟨w0,U,X,Y⟩:=t.step λr h=>by
  unfold h7 at h;split at h
  ·cases h;exact⟨_,_,rfl⟩
  ·cases h
 obtain⟨rfl,rfl⟩:=ey X;obtain⟨u,o,c,Z⟩:=Y.step λr h=>by
  unfold AH at h;split at h
  ·split at h
   ·cases h;exact⟨_,_,rfl⟩
   ·cases h
  ·cases h
 unfold AH at c;split at c
 ·rename_i l fds hi;split at c
  ·rename_i hn;cases c;obtain⟨j',C',p,dx,fs,F,q,a3,a4,a5,a6,a7,a8⟩:=R.ob.1 i l fds hi;rw[n]at F;cases F;refine⟨_,q,p,dx,fs,rfl,a6,N3.qP a7 (Option.isNone_iff_eq_none.mp hn),?_⟩;refine(TD.bind (L8:=M8) R Z).mono λvs H1 ⟨G1,o,ws,s1,R1,q1,t3⟩=>?_;obtain⟨ds,a0,e2,r,a,pp⟩:=t3.step λr h=>cm h;obtain⟨G2,s2,R2,rl⟩:=ck R1 q1 e2;unfold sS at a;split at a
   ·rename_i l2 e s f b;split at a
    ·rename_i hc;obtain⟨ht,g⟩:=hc;split at a
     ·rename_i d k w x;cases a;obtain⟨l3,I,p3,y,z,t,d3,J,L,N,P,b5,b6,S,b8,b9⟩:=ux n R2 ht;rw[f]at J;cases J;rw[b]at L;cases L;rw[q]at N;cases N;obtain⟨t',T,c2,c3,c4,c5⟩:=R2.ow j f8 _ b;rw[S]at T;cases T;rw[List.append_nil];exact⟨G2,p,t,vs,y,z,e,s,ds,d,k,w,rfl,g,R2.gH,b8,c2,P,b5,b6,c5,rl,x,λv G' H' A rv=>pp v G' H' (s2.trans A.gg) (R2.GQ n f b q P S A) rv⟩
     ·cases a
    ·cases a
   ·cases a
  ·cases c
 ·cases c
theorem pA (i j:Nat)(O:ik X.K C fns)(h:xM X.prog X.w X.K X.mg X.base k C m ps (pW X.K C g fm))(hr:O8 k X.A)(o:gl X B (e::es) mr)(p:B.O=e9 (i,j,C):=by rfl)(q:X.N[i]?=e9 x:=by rfl)(r:fB X.env.scope x:=by first|exact Or.inl rfl|exact Or.inr (Or.inl rfl) |exact Or.inr (Or.inr rfl))(hd:(x==("__debug__":Str))=f6:=by decide) (a:(x==("__classdict__":Str))=f6:=by decide) (s:X.K=B.K:=by rfl)
  (c:h8 (e::es) X.env=(f6,eval e X.env)::h8 es X.env:=by rfl) (d:(m4 pos (h8 es X.env)).any (·.1)=f6:=by rfl)
  (u:eval (.Call (.Attribute (.Name x p1) m apos) (e::es) [] pos) X.env=(do
   let l←eval (.Name x p1) X.env
   uj apos.atName
   let(f,first)←W4 [l] (Bb l m pl)
   Ez pos f first (m4 pos (h8 (e::es) X.env)) (y4 pos (o1 [] X.env))):=by rfl):
  PD X B (.Call (.Attribute (.Name x p1) m apos) (e::es) [] pos) (ji i j m g fm mr):=.mk λξ=>by
 obtain⟨f,fd,F,b,M⟩:=h;refine(Cj (X:=rz X ξ) (pl:=pl) (bF (X:=rz X ξ) (i:=i) (pos:=p1) q r hd a) O.cls M F hr b .nil yX (o.ap ξ) c d u).imp λσ H Q t=>?_;have n:=BD p t;rw[←s]at n;exact n
end
noncomputable abbrev Made:=List (Str×D)×List (Key×D)
structure AZ (K:PySem.W.Frag) (C:Addr) (G H:Hp) (p t:Addr) (G' H':Hp) (fds:List (Str×D)) (es:List (Key×D)):Prop where
 keep:j6 (minus H [p]) H'
 gg:j6 G G'
 gH:j6 G' H'
 gnew:∀q o,G' q=some o→G q=some o∨H q=none
 dom:∀q,H' q=none→H q=none
 ob:∃dx fs,H' p=some (.ins C dx fs)∧N3 K G' fs fds∧fs.lookup S8=some (.ref t)
 gp:G' p=none
 gt:G' t=none
 new:H t=none
 tb:B2 K G' H' t (.dct es)
noncomputable def Eo (K:PySem.W.Frag)(C:Addr)(b:Nat)(c:List D→Option Made):Sp:=λvs H Q E=>∃G p a dx ds r,vs=.ref p::a∧ds.length+1=b∧j6 G H∧G p=f7∧H p=e9 (.ins C dx [])∧o9 K G a ds∧c ds=e9 r∧∀G' H' t,AZ K C G H p t G' H' r.1 r.2→Q .v1 H'
theorem Eo.imp {K:PySem.W.Frag}{C:Addr}{b:Nat}{c a:List D→Option Made}(h:∀ds r,c ds=e9 r→a ds=e9 r):∀vs H Q E,Eo K C b c vs H Q E→Eo K C b a vs H Q E:=by
 rintro vs H Q E ⟨G,p,S2,dx,ds,r,a1,a2,a3,a4,a5,a6,a7,a8⟩
 exact⟨G,p,S2,dx,ds,r,a1,a2,a3,a4,a5,a6,h _ _ a7,a8⟩
noncomputable def outI (j:Nat):SR→Option Made
 |.nx ρ=>match xq j .v1 ρ with
  |some (.ret _ fds es)=>e9 (fds,es)
  |none=>f7
 |_=>f7
noncomputable def qw (m:SM)(n j:Nat)(ds:List D):Option Made:=(m (aA n [] ds)).bind (outI j)
section
variable {P:Program}{w:World}{K:PySem.W.Frag}{mg:Str→Option Value}{base:Heap}
theorem IM {x qual g:Str}{st:Stmt}{f C:Addr}{fd:FuncData}{N ps:List Str}{k:Nat}(j:Nat){m:SM}(F:bc K x qual st f fd)(S:n2 N ps (j8 st))(hj:N[j]?=e9 g)(hg:¬fB (j8 st) g)(a0:ps.length≤j)(a1:0<ps.length)
  (b:∀(cdv:Value) (A:Around) (outer:List Env) (s:Shared) (H:Hp) (E:XK) (H0 HK G0:Hp) (L:Nat→Option Addr),L j=f7→O8 k (A.deeper (bW qual (j8 st) s.heap.objs.size f cdv))→
   iU (lI V2 P w K mg base N qual (j8 st) f cdv A outer s H E) ⟨K,H0,HK,G0,L,e9 (0,j,C)⟩ (G7 st) m):x5 P w K mg base V2 (k+1) f fd ps (Eo K C ps.length (qw m N.length j)):=by
 have a9:j<N.length:=(List.getElem?_eq_some_iff.mp hj).1;have d:j≠0:=by omega
 refine F.ok S (λvs H Q E h=>?_) (λcdv A outer s H vs Q E hr h=>?_)
 ·obtain⟨G,p,l,dx,ds,r,rfl,R,T,U,X,u,a7,a8⟩:=h;rw[List.length_cons,u.len,R]
 obtain⟨G,p,l,dx,ds,r,rfl,R,T,U,X,u,n,q⟩:=h;have hL:(λi:Nat=>if i=0 then e9 p else f7) j=f7:=if_neg d;refine⟨_,((b cdv A outer s H E H (minus H [p]) G (λi=>if i=0 then e9 p else f7) hL hr).ap λ_ _ _=>False).ay (λe s z=>?_),?_⟩
 ·obtain⟨_,_,_,_,_,_,z⟩:=z;exact z
 have R0:=ni (N:=N) (C:=C) (j:=j) (L:=λi=>if i=0 then e9 p else f7) (fs:=[]) (fds:=[]) (N7 H [p]) (cj (by simp)) rfl T U X .nil u (by omega) (by omega);unfold qw at n;cases hs:m (aA N.length [] ds)with
 |none=>rw[hs]at n;cases n
 |some y=>
  rw[hs]at n;have a:outI j y=e9 r:=n;refine⟨G,_,R0,y,hs,?_⟩;cases y with
  |nx ρ'=>
   refine λb0 G' H' s' R'=>?_;unfold outI at a;dsimp only at a;split at a
   ·rename_i d0 o b9 e;cases a;unfold xq at e;split at e
    ·rename_i Y c0 h0 t;split at e
     ·rename_i c;cases e;obtain⟨dd,B⟩:=A6.mp c;obtain⟨j',C',p',I,J,b1,b2,b3,b4,b5,b6,Z,b8⟩:=R'.ob.1 0 f8 o h0;cases b1;have ep:e9 p=e9 p':=b5.1 rfl;cases ep;obtain⟨v,hv,_⟩:=N3.look Z B;have ev:=b8 v hv _ t;obtain⟨O,c1,c2,c3,c4,c5⟩:=R'.ow j f8 _ t;rw[ev]at c1;cases c1;have hn:H O=f7:=by
       rcases c4 with z| ⟨_,_,z⟩
       ·have z':(if j=0 then e9 p else f7)=e9 O:=z;rw[if_neg d]at z';cases z'
       ·exact z
      exact q G' H' O ⟨R'.keep,R'.g0,R'.gH,R'.gnew,R'.dom,⟨I,J,b6,Z,hv⟩,b3,c2,hn,c5⟩
     ·cases e
    ·cases e
   ·cases a
  |rt w' ρ'=>cases a
  |ex x ρ'=>cases a
  |bk ρ'=>cases a
  |ct ρ'=>cases a
end
def GS (P:Program)(w:World)(K:PySem.W.Frag)(mg:Str→Option Value)(base:Heap)(k:Nat)(C:Addr)(ps:List Str)(sp:Sp):Prop:=
 ∃(f:Addr) (fd:FuncData),x5 P w K mg base V2 k f fd ps sp∧Binds K fd ps []∧Mk K C f
section
variable {B:Bs}{G H G' H':Hp}{σ:St}{ρ:l5}
theorem RS.grow (R:RS B G H σ ρ)(s:j6 H H')(gg:j6 G G')(gH:j6 G' H')(gnew:∀q o,G' q=e9 o→G q=e9 o∨H q=f7)(dom:∀q,H' q=f7→H q=f7):RS B G' H' σ ρ:=by
 have a:∀b o,H b=e9 o→G b=f7→G' b=f7:=λb o e g=>by
  cases q:G' b with
  |none=>rfl
  |some u=>
   rcases gnew b u q with z|z
   ·rw[g]at z;cases z
   ·rw[e]at z;cases z
 refine⟨R.hk,R.keep.trans s,R.g0.trans gg,gH,λb u q=>?_,λb q=>R.dom b (dom b q),R.len,λk e q=>?_,λk l e q=>?_,R.inj,R.fz.same gg,R.ob.gh gg (λp C dx fs e g=>a p _ e g) λp C dx fs e _ _=>s p _ e⟩
 ·rcases gnew b u q with z|z
  ·exact R.gnew b u z
  ·exact .inr (R.dom b z)
 ·obtain⟨v,f,h⟩:=R.sh k e q;exact⟨v,f,h.same gg⟩
 ·obtain⟨p,i,j,m,n,d⟩:=R.ow k l e q;obtain⟨o,c⟩:=d.some;exact⟨p,i,a p o c j,m,n,d.same gg ((s p o c).trans c.symm)⟩
theorem RS.HZ {i j:Nat}{C p dx:Addr}{fs:List (Str×V)}{fds:List (Str×D)}(R:RS B G H σ ρ)(r:B.O=e9 (i,j,C))(hi:i<ρ.length)(t:i≠j)(u:∀c,ρ[j]?≠e9 (e9 c))(g:G p=f7)(o:B.H0 p=f7)(w:H p=e9 (.ins C dx fs))(rf:N3 B.K G fs fds):
  RS B G H (σ.set i (e9 (.ref p))) (ρ.set i (e9 (.ob f6 fds))):=by
 have hs:i<σ.length:=by rw[R.len];exact hi
 have ne:∀{k:Nat} {l:Bool} {d:D},(ρ.set i (e9 (.ob f6 fds)))[k]?=e9 (e9 (.ow l d))→i≠k∧ρ[k]?=e9 (e9 (.ow l d)):=λ{k l d} e=>by
  rcases S0 e with⟨_,z⟩ |z
  ·cases z
  ·exact z
 refine⟨R.hk,R.keep,R.g0,R.gH,R.gnew,R.dom,by simp[R.len],λk d q=>?_,λk l d q=>?_,λk m l d A E F a b x y=>?_,R.fz.qo (by intro _ h;cases h),λk l f q=>?_,λk f q=>?_⟩
 ·rcases S0 q with⟨_,z⟩ | ⟨n,z⟩
  ·cases z
  ·rw[List.getElem?_set_ne n];exact R.sh k d z
 ·obtain⟨n,z⟩:=ne q;rw[List.getElem?_set_ne n];exact R.ow k l d z
 ·obtain⟨I,J⟩:=ne a;obtain⟨L,N⟩:=ne b;rw[List.getElem?_set_ne I]at x;rw[List.getElem?_set_ne L]at y;exact R.inj k m l d A E F J N x y
 ·rcases S0 q with⟨rfl,z⟩ | ⟨n,z⟩
  ·cases z;refine⟨j,C,p,dx,fs,r,by rw[List.getElem?_set_self hs],g,?_,⟨λz=>(by cases z),λ_=>o⟩,w,rf,λv Q d hd=>?_⟩
   ·cases P:B.HK p with
    |none=>rfl
    |some ob=>rw[R.hk p ob P]at o;cases o
   ·obtain⟨_,z⟩:=ne hd;exact absurd z (u _)
  ·obtain⟨_,_,_,_,_,s,_⟩:=R.ob.1 k l f z;rw[r]at s;cases s;exact absurd rfl n
 ·rcases S0 q with⟨_,z⟩ | ⟨n,z⟩
  ·cases z
  ·rw[List.getElem?_set_ne n];exact R.ob.2 k f z
theorem RS.made {i j:Nat}{C p t dx:Addr}{fds:List (Str×D)}{es:List (Key×D)}(R:RS B G H σ ρ)(y:B.O=e9 (i,j,C))(T:B.L j=f7)(hi:i<ρ.length)(a:j<ρ.length)(f:i≠j)(m:H p=f7)(g:H dx=f7)(U:dx≠p)
  (A:AZ B.K C G (upd (upd H dx (.own p)) p (.ins C dx [])) p t G' H' fds es):RS B G' H' ((σ.set i (e9 (.ref p))).set j (e9 (.ref t))) ((ρ.set i (e9 (.ob f6 fds))).set j (e9 (.ow f8 (.dct es)))):=by
 have X:j6 H H':=λb o e=>A.keep b o (by
  rw[V8 (by simp;exact t9 e m),k0 (t9 e m),k0 (t9 e g)];exact e)
 have r:∀q,(upd (upd H dx (.own p)) p (.ins C dx [])) q=f7→H q=f7:=λq e=>by
  by_cases z:q=p
  ·subst z;exact m
  ·rw[k0 z]at e;by_cases E:q=dx
   ·subst E;exact g
   ·rw[k0 E]at e;exact e
 have Y:RS B G' H' σ ρ:=R.grow X A.gg A.gH (λq o e=>(A.gnew q o e).imp id (r q)) λq e=>r q (A.dom q e);have R2:=Y.forget (i:=j);obtain⟨Z,fs,s,b2,b3⟩:=A.ob;have u:∀c,(ρ.set j f7)[j]?≠e9 (e9 c):=λc e=>by rw[List.getElem?_set_self a]at e;cases e
 have R3:=R2.HZ (p:=p) (fds:=fds) y (by simpa using hi) f u A.gp (R.dom p m) s b2;have tp:t≠p:=(bj A.tb s).symm;have h:H t=f7:=r t A.new;have F:=R3.DT (t:=t) (d:=.dct es) y T (by simpa using a) ⟨t,rfl,A.gt,R.dom t h,A.tb,λk l e he z=>?_⟩ λl2 I p2 a0 a1 c1 J N v P=>?_
 ·have e1:((ρ.set j f7).set i (e9 (L3.C.ob f6 fds))).set j (e9 (.ow f8 (.dct es)))=(ρ.set i (e9 (L3.C.ob f6 fds))).set j (e9 (.ow f8 (.dct es))):=by
   rw[List.set_comm (l:=ρ) _ _ (x8 f),List.set_set]
  rw[e1]at F;exact F
 ·rcases S0 he with⟨_,w⟩ | ⟨n,w⟩
  ·cases w
  ·rw[List.getElem?_set_ne n]at z;rcases S0 w with⟨_,x⟩ | ⟨n1,x⟩
   ·cases x
   ·obtain⟨q0,Q,d2,d3,d4,d5⟩:=R.ow k l e x;obtain⟨o,S⟩:=d5.some;rw[z]at Q;cases Q;rw[h]at S;cases S
 ·rw[List.getElem?_set_self (by rw[R.len];exact hi)]at J;cases J;rw[s]at N;cases N;rw[b3]at P;exact(j7 P).symm
end
noncomputable def uP (i j a:Nat)(b:List D→Option Made)(c:M (List W)):SM:=E4 c λd=>E4 (aI d) λds ρ=>match b ds with
 |some r=>dL (i<ρ.length∧j<ρ.length∧i≠j∧ds.length+1=a) (e9 (.nx ((ρ.set i (e9 (.ob f6 r.1))).set j (e9 (.ow f8 (.dct r.2))))))
 |none=>f7
section
variable {X:Cx}{B:Bs}{k i j:Nat}{y x g:Str}{C:Addr}{fns ps:List Str}{fm:List D→Option Made}{e:Expr}{es:List Expr}{mr:M (List W)}{p py pos Jp:Pos}
theorem EZ (i j:Nat)(h:GS X.prog X.w X.K X.mg X.base k C ps (Eo X.K C v fm))(I:X.mg x=e9 (.ref C))(hr:O8 (k+1) X.A)(J:gl X B (e::es) mr)(P:B.L j=f7)(l:¬fB X.env.scope g)(m:X.N.Nodup)(Q:X.N[j]?=e9 g:=by rfl)(hi:X.N[i]?=e9 y:=by rfl)(S:Loc X.env.scope y:=by first|exact Or.inl rfl|exact Or.inr rfl)(T:B.O=e9 (i,j,C):=by rfl)(U:Gl X x:=by rfl)(z:X.K=B.K:=by rfl)(n:(x==("__debug__":Str))=f6:=by decide)
  (Y:h8 (e::es) X.env=(f6,eval e X.env)::h8 es X.env:=by rfl) (o:(m4 pos (h8 es X.env)).any (·.1)=f6:=by rfl) (hs:T2 (.Call (.Name x p) (e::es) [] pos) (e9 (.Name y py)) Jp.line X.env=pure f6:=by rfl) (Z:X.fn y=f8∨X.env.scope.names.lookup y=e9 .local:=by first|exact .inl rfl|exact .inr rfl):
  se X B (.Assign [.Name y py] (.Call (.Name x p) (e::es) [] pos) Jp) (uP i j v fm mr):=.mk λξ=>by
 obtain⟨f,fd,F,b,M⟩:=h;refine(qB (j:=j) (g:=g) (yJ (X:=rz X ξ) m hi S (Ck (X:=rz X ξ) M F hr U I b .nil yX (J.ap ξ) n Y o) hs Z) Q l).imp λDn σ H t=>?_;obtain⟨G,ρ,R,t⟩:=t;refine(SD.step (L8:=M8) R t).mono λvs E ⟨G1,a0,ws,s1,R1,q1,t2⟩=>?_;obtain⟨ds,a1,e2,r,a,pp⟩:=SD.quiet t2 λr h=>cm h;obtain⟨G2,s2,R2,rl⟩:=ck R1 q1 e2;dsimp only at a;split at a
 ·rename_i md s;obtain⟨⟨z1,z2,z3,z4⟩,a⟩:=p5 a;cases a;intro q dx u c d;have sN:j6 E (upd (upd E dx (.own q)) q (.ins C dx [])):=(aE c _).trans (aE (by rw[k0 (x8 d)];exact u) _);rw[List.append_nil];refine⟨G2,q,vs,dx,ds,md,rfl,z4,R2.gH.trans sN,R2.gH.free u,m3,by rw[z];exact rl,s,λG' H' t A=>⟨rfl,?_⟩⟩;rw[z]at A;exact⟨e9 (.ref t),pp _ G' H' (s2.trans A.gg) (R2.made T P z1 z2 z3 u c d A)⟩
 ·cases a
end
def lQ (K:PySem.W.Frag)(C:Addr)(m qual:Str)(st:Stmt)(ps:List Str):Prop:=∃(f:Addr) (fd:FuncData),bc K m qual st f fd∧(∀us:List Value,us.length=ps.length→og fd ⟨us,[]⟩=pure (ps.zip us))∧PySem.W.findIn K (.ref C) m=e9 (e9 (.ref f))∧PySem.W.isFn K (.ref f)=f8
theorem Ds {K:PySem.W.Frag}{C:Addr}{m qual:Str}{st:Stmt}{ps:List Str}{f:Addr}{od an:Option Addr}{sl:Array (Option Value)}{oc kV e pm d ct:Value}
  (a:PySem.W.findIn K (.ref C) m=e9 (e9 (.ref f))) (l:K.lookup f=e9 ⟨oc,od,.func (PySem.W.fnOf m qual (U6 st) (G7 st) (j8 st) .none kV e pm an d ct),sl⟩) (c:PySem.W.codeIn K d qual=f8) (k:PySem.W.keepIn K (.ref f)=f8) (n:PySem.W.isFn K (.ref f)=f8)
  (b:∀(kV doc pm:Value) (an:Option Addr) (cdv ct:Value) (us:List Value),us.length=ps.length→og (PySem.W.fnOf m qual (U6 st) (G7 st) (j8 st) .none kV doc pm an cdv ct) ⟨us,[]⟩=pure (ps.zip us)):lQ K C m qual st ps:=
 ⟨f,_,Ab (st:=st) l c k,λus hl=>b kV e pm an d ct us hl,a,n⟩
theorem lQ.has {P:Program}{w:World}{K:PySem.W.Frag}{mg:Str→Option Value}{base:Heap}{k:Nat}{C:Addr}{m qual:Str}{st:Stmt}{ps:List Str}{sp:Sp}(D:lQ K C m qual st ps)(h:∀f fd,bc K m qual st f fd→x5 P w K mg base V2 k f fd ps sp):xM P w K mg base k C m ps sp:=by
 obtain⟨f,fd,F,b,a,n⟩:=D;exact⟨f,fd,h f fd F,Binds.all b,⟨a,n,F.kp⟩⟩
theorem lQ.KP {P:Program}{w:World}{K:PySem.W.Frag}{mg:Str→Option Value}{base:Heap}{k:Nat}{C:Addr}{qual:Str}{st:Stmt}{ps:List Str}{sp:Sp}(D:lQ K C "__init__" qual st ps) (c:PySem.W.makesIn K C=f8) (hk:PySem.W.keepIn K (.ref C)=f8) (h:∀f fd,bc K "__init__" qual st f fd→x5 P w K mg base V2 k f fd ps sp):GS P w K mg base k C ps sp:=by
 obtain⟨f,fd,F,b,a,n⟩:=D;exact⟨f,fd,h f fd F,Binds.all b,⟨c,a,n,hk⟩⟩
theorem lO {K:PySem.W.Frag}{G H:Hp}:∀{ms:List Bool} {vs:List V} {ds:List D} {ps:List Addr},V3 K G H ms vs ds ps→ms.all (!·)=f8→ps=[]∧o9 K G vs ds
 |_,_,_,_,.nil,_=>⟨rfl,.nil⟩
 |_,_,_,_,.sh h r,e=>by
  obtain⟨a,b⟩:=lO r (by simpa using e);exact⟨a,.cons h b⟩
 |_,_,_,_,.ln _ _ _ _,e=>by simp at e
theorem lA:∀{ms:List Bool} {ρ:l5} {fin:List D},bP ms ρ=e9 fin→ms.all (!·)=f8→fin=[]
 | [],_,_,e,_=>by cases e;rfl
 |false::ms,[],_,e,_=>by cases e
 |false::ms,_::ρ,_,e,h=>lA (ms:=ms) (ρ:=ρ) e (by simpa using h)
 |true::_,_,_,_,h=>by simp at h
theorem lc:∀{ms:List Bool} {ps:List Addr} {i:Nat},ms.all (!·)=f8→S1 ms ps i=f7
 | [],_,_,_=>rfl
 |false::_,_,0,_=>rfl
 |false::ms,ps,i+1,h=>lc (ms:=ms) (ps:=ps) (i:=i) (by simpa using h)
 |true::_,_,_,h=>by simp at h
section
variable {P:Program}{w:World}{K:PySem.W.Frag}{mg:Str→Option Value}{base:Heap}
theorem RS.HB(O:Option (Nat×Nat×Addr))(R:RS ⟨K,H0,HK,G0,L,f7⟩ G H σ ρ)(a:∀(i:Nat) c,ρ[i]?=e9 (e9 c)→Gj c=f6):RS ⟨K,H0,HK,G0,L,O⟩ G H σ ρ:=by
 refine⟨R.hk,R.keep,R.g0,R.gH,R.gnew,R.dom,R.len,R.sh,λi l d q=>?_,R.inj,R.fz,λi l fds q=>?_,λi fds q=>?_⟩
 ·obtain⟨p,e,f,g,b,h⟩:=R.ow i l d q;refine⟨p,e,f,g,?_,h⟩;cases l with
  |false=>exact b
  |true=>
   rcases b with z| ⟨z,_⟩
   ·exact .inl z
   ·cases z
 ·have:=a i _ q;cases this
 ·have:=a i _ q;cases this
theorem Gw {x:Str}{st:Stmt}{f:Addr}{fd:FuncData}{N ps:List Str}{ms:List Bool}{k:Nat}{m:SM}(O:Nat×Nat×Addr)(F:bc K x x st f fd)(S:n2 N ps (j8 st))(R:ms.length=ps.length)(n:ms.all (!·)=f8)
  (o:∀(cdv:Value) (A:Around) (outer:List Env) (s:Shared) (H:Hp) (E:XK) (H0 HK G0:Hp) (L:Nat→Option Addr),(∀i,L i=f7)→O8 k (A.deeper (bW x (j8 st) s.heap.objs.size f cdv))→
   iU (lI V2 P w K mg base N x (j8 st) f cdv A outer s H E) ⟨K,H0,HK,G0,L,e9 O⟩ (G7 st) m):x5 P w K mg base V2 (k+1) f fd ps (E3 K ms (n8 m N.length ms)):=by
 have B:ps.length≤N.length:=by have:=congrArg List.length S.pre;rw[List.length_take]at this;omega
 refine F.ok S (λvs H Q E h=>?_) (λcdv A outer s H vs Q E hr h=>?_)
 ·obtain⟨G,ds,u,r,_,a,_⟩:=h;rw[a.len.1,R]
 obtain⟨G,ds,u,r,g,a,y,q⟩:=h;refine⟨_,((o cdv A outer s H E H (minus H u) G (S1 ms u) (λi=>lc n) hr).ap λ_ _ _=>False).ay (λe s z=>?_),?_⟩
 ·obtain⟨_,_,_,_,_,_,z⟩:=z;exact z
 have U:=RS.HB (e9 O) (kO (N:=N) g a (by rw[a.len.1,R];exact B)) λi c e=>by
  obtain⟨v,e1,X⟩:=V0 a (N5 e);rcases X with⟨Y,rfl,h⟩ | ⟨p,Y,rfl,_⟩<;>rfl
 obtain⟨I,_⟩:=lO a n;unfold n8 at y;cases hs:m (B3 N.length ms ds)with
 |none=>rw[hs]at y;cases y
 |some J=>
  rw[hs]at y;have j:sI ms J=e9 r:=y;refine⟨G,B3 N.length ms ds,U,J,hs,?_⟩;have fin:∀{ρ':l5} {l:St} {G' H':Hp} {b:List D},bP ms ρ'=e9 b→RS ⟨K,H,minus H u,G,S1 ms u,e9 O⟩ G' H' l ρ'→After K G H u G' H' b:=λ{ρ' l G' H' b} e R'=>
   ⟨R'.keep,R'.g0,R'.gH,R'.gnew,R'.dom,by rw[lA e n,I];exact .nil⟩
  cases J with
  |nx ρ'=>
   obtain⟨b,e,rfl⟩:=h9.mp j;exact λl G' H' T R'=>q .v1 G' H' (fin e R') .v1
  |rt Z ρ'=>
   cases Z with
   |slot i=>cases j
   |val d=>
    obtain⟨b,e,rfl⟩:=h9.mp j;exact λv l G' H' T R' t=>q v G' H' (fin e R') t
   |own d=>
    obtain⟨b,e,rfl⟩:=h9.mp j;exact λv l G' H' T R' t=>q v G' H' (fin e R') (let⟨p,a1,a2,a3,a4,_⟩:=t;⟨p,a1,a2,a3,a4⟩)
  |ex x ρ'=>
   obtain⟨b,e,rfl⟩:=h9.mp j;exact q.elim
  |bk ρ'=>cases j
  |ct ρ'=>cases j
end
end L3
namespace L2
open PySem PySem.Spec PyProof.Rows
noncomputable def DH (lo:Int)(n:Nat):It:=⟨λi _=>i<n,λi H x H'=>H'=H∧x=.int (lo-i),λi _=>n≤i⟩
theorem vY {P:Program}{w:World}{K:PySem.W.Frag}{tg:Expr}(it:Addr)(lo:Int)(n:Nat):Turn P w K tg (DH lo n) [it] it (λi h=>rT h it (lo+(i:Nat)*(-1)) ((n:Int)-(i:Nat)) (-1)) where
 mem:=by simp
 obj:=λi h st b a=>by
  have e:b=it:=by simpa using a
  subst e;exact⟨_,st,λv z=>by
   have x:Data.fields _=Data.cell v:=z;cases x⟩
 keep:=λi h h' st k=>k it (by simp) _ st
 item:=by
  intro X f g j l i pins s σ H E I d st m;subst f g j;obtain⟨f0,f1,y,p,q,r⟩:=d it (by simp);have W:=Jw (prog:=X.prog) (w:=X.w) (I.ok.hd l) it lo (-1) n;refine W.item i s _ _ m st λv h' u A c B=>?_;obtain⟨t,rfl⟩:=A;have F:Inv X pins σ H {s with heap:=h',toks:=u}:=I.turned (λb o a e=>B b o (by simpa using a) e) f0 f1 p q r;refine⟨_,rfl,eF (s:={s with heap:=h',toks:=u}) (n:="range_iterator") c rfl rfl (by decide) ⟨.int (lo-i),H,F,⟨t,?_⟩,⟨rfl,rfl⟩,c,λb a=>(d b a).1⟩⟩;rw[show lo+(i:Int)*(-1)=lo-i by omega]
 done:=by
  intro X f g j l i pins s σ H E I d st m;subst f g j;obtain⟨f0,f1,y,p,q,r⟩:=d it (by simp);exact Bm (I.ok.hd l) st (by have:n≤i:=m;omega) λh' G=>⟨rfl,I.turned (t':=s.toks) (λb o a e=>G b o a e) f0 f1 p q r⟩
 self:=λ_ _ _ _ _ st h=>Bo st h
theorem mZ (a b:Int):P9 a b (-1)=((a-b).toNat:Int):=by
 unfold P9;simp;split<;>omega
theorem small_down(e:-(2 ^ 40)≤a)(g:a<2 ^ 40)(h:-(2 ^ 40)≤b)(i:b<2 ^ 40):mN a b (-1)=f8:=by
 have f:∀x:Int,-(2 ^ 42)≤x→x<2 ^ 42→ir x=f8:=λx a b=>by
  unfold ir;simp;omega
 have d:=f a (by omega) (by omega);have c:=f b (by omega) (by omega);unfold mN;rw[mZ,d,c,f (-1) (by decide) (by decide),f _ (by omega) (by omega)];simp[c]
section
variable {X:Cx}{tg:Expr}
theorem sB {pins:List (Addr×Obj)}{σ:St}{H:Hp}{s:Shared}{R:It→Hp→Prop}{E:Value→Shared→Prop}{lo hi:Int}{t u v:Tok}{a:Nat}(I:Inv X pins σ H s)(d:-(2 ^ 40)≤lo)(f:lo<2 ^ 40)(g:-(2 ^ 40)≤hi)(h:hi<2 ^ 40)
  (q:R (DH lo (lo-hi).toNat) H):wpAny (model X.prog X.w) X.A (Ms (.ref s.heap.objs.size)) (Li X pins σ tg R) E {s with heap:=s.heap.push {cls:=.type "range",data:=.fields #[.int lo t,.int hi u,.int (-1) v]},toks:=a}:=by
 refine Hm (Hb ..) (small_down d f g h) ?_;have c:Inv X pins σ H {s with heap:=s.heap.push {cls:=.type "range",data:=.fields #[.int lo t,.int hi u,.int (-1) v]},toks:=a}:=I.kept λb o e=>Heap.get?_push_of_some _ e;refine⟨(s.heap.push {cls:=.type "range",data:=.fields #[.int lo t,.int hi u,.int (-1) v]}).objs.size,[(s.heap.push {cls:=.type "range",data:=.fields #[.int lo t,.int hi u,.int (-1) v]}).objs.size],_,_,H,rfl,
  c.kept (t':=a) λb o e=>Heap.get?_push_of_some _ e,vY _ lo (lo-hi).toNat,?_,λb i=>?_,q⟩
 ·have j:lo+((0:Nat):Int)*(-1)=lo:=by simp
  have k:(((lo-hi).toNat:Nat):Int)-((0:Nat):Int)=P9 lo hi (-1):=by rw[mZ];simp
  show rT _ _ (lo+((0:Nat):Int)*(-1)) ((((lo-hi).toNat:Nat):Int)-((0:Nat):Int)) (-1);rw[j,k];exact Heap.get?_push_size _ rfl
 ·have e:b=(s.heap.push {cls:=.type "range",data:=.fields #[.int lo t,.int hi u,.int (-1) v]}).objs.size:=by simpa using i
  subst e;exact c.xl (Nat.le_refl _) (c.hok.fresh (Nat.le_refl _))
noncomputable def IJ (a:TA):TI:=λσ H R=>a σ H λvs b=>∃i j:Int,vs=[.int i,.int j,.int (-1)]∧(-(2 ^ 40)≤i∧i<2 ^ 40∧-(2 ^ 40)≤j∧j<2 ^ 40)∧R (DH i (i-j).toNat) b
theorem wu(m:Gl X "range") (n:X.mg "range"=f7) (o:PA X [a,b,c] l) (hs:h8 [a,b,c] X.env=[(f6,eval a X.env),(f6,eval b X.env),(f6,eval c X.env)]:=by rfl) (d:h8 [b,c] X.env=[(f6,eval b X.env),(f6,eval c X.env)]:=by rfl):
  PI X tg (.Call (.Name "range" p) [a,b,c] [] pos) (IJ l):=by
 intro pins s σ H R I h;refine Call_ (aJ I m n Hv (o3 (F3 (o pos pins s σ H _ I h) λus s1 ⟨vs,E,u,v,g⟩=>?_) (by rw[hs,d]) (by rw[d];rfl)));obtain⟨i,j,e,⟨g,w,x,y⟩,q⟩:=g;subst e;cases v with
 |cons r f=>
  cases f with
  |cons A f=>
   cases f with
   |cons k f=>
    cases f;obtain⟨t,rfl⟩:=r;obtain⟨F,rfl⟩:=A;obtain⟨B,rfl⟩:=k;exact call_range_3 (by decide) (sB u g w x y q) (.inl (by unfold k5.divisionGoesByPylong;simp;intro z;exact absurd z (by decide)))
end
end L2
namespace L3
open PySem PySem.Spec PyProof.Rows L2
noncomputable def tt:List D→Option (List D)
 | [.int i,.int j,.int (-1)]=>dL (-(2 ^ 40)≤i∧i<2 ^ 40∧-(2 ^ 40)≤j∧j<2 ^ 40) (e9 ((List.range (i-j).toNat).map λk=>D.int (i-((k:Nat):Int))))
 |_=>f7
theorem tJ {K:PySem.W.Frag}{G:Hp}(lo:Int)(n:Nat):Gives K G (DH lo n) ((List.range n).map λk=>D.int (lo-((k:Nat):Int))) where
 go:=λG' H i s1 s2 hi=>by
  show i<n;simpa using hi
 stop:=λG' H s1 s2=>by
  show n≤_;simp
 yld:=λG' H H' i x s1 s2 hi y=>by
  obtain⟨rfl,rfl⟩:=y;have a:i<n:=by simpa using hi
  refine⟨rfl,.int (lo-i),?_,.int _⟩;rw[List.getElem?_map,List.getElem?_range a];rfl
section
variable {X:Cx}{B:Bs}{tg e a b c:Expr}{ma mb mc:M W}{mr:M (List W)}{pos p:Pos}
theorem wZ (g:X.mg "range"=f7) (k:gl X B [a,b,c] mr) (l:Gl X "range":=by rfl) (hs:h8 [a,b,c] X.env=[(f6,eval a X.env),(f6,eval b X.env),(f6,eval c X.env)]:=by rfl) (e:h8 [b,c] X.env=[(f6,eval b X.env),(f6,eval c X.env)]:=by rfl):DF X B tg (.Call (.Name "range" p) [a,b,c] [] pos) (X7 tt mr):=.mk λξ=>
 (wu (X:=rz X ξ) l g (k.ap ξ) hs e).imp λσ H x t=>by
  obtain⟨G,ρ,R,t⟩:=ol t;refine(TD.bind (L8:=M8) R t).mono λvs m ⟨n,o,y,s1,f,q,r⟩=>?_;obtain⟨ds,es,s,d,p⟩:=oI r;have h:=as f q s
  match ds,d with
  | [.int i,.int j,.int (-1)],d=>
   obtain⟨z,d⟩:=p5 d;cases d;cases h with
   |cons u h=>
    cases h with
    |cons v h=>
     cases h with
     |cons w h=>
      cases h;exact⟨i,j,by rw[u.int,v.int,w.int],z,p _ n m (j6.refl _) f (tJ i (i-j).toNat)⟩
end
structure Ep (X:Cx) (B:Bs) (e:Expr) (m:M W):Prop where
 ap:∀ξ,PE (rz X ξ) e λσ H Q=>∃G ρ,RS B G H σ ρ∧∃w,m ρ=some (.ok w ρ)∧∀v G',j6 G G'→RS B G' H σ ρ→E2 B G' H σ ρ v w→Q v H
 pu:∀ρ w ρ',m ρ=some (.ok w ρ')→ρ'=ρ∧DS w=true
section
variable {X:Cx}{B:Bs}{a b:Expr}{ma mb:M W}{pos:Pos}
theorem yj {G H:Hp}{σ:St}{ρ:l5}{i:Nat}{c:C}(R:RS B G H σ ρ)(h:ρ[i]?=e9 (e9 c)):∃v,σ[i]?=e9 (e9 v):=by
 cases c with
 |sh d=>obtain⟨v,q,_⟩:=R.sh i d h;exact⟨v,q⟩
 |ow l d=>obtain⟨v,q,_⟩:=R.ow i l d h;exact⟨_,q⟩
 |fz es=>obtain⟨a,o,kvs,q,_⟩:=R.fz i es h;exact⟨_,q⟩
 |ob l fds=>obtain⟨_,_,_,_,_,_,q,_⟩:=R.ob.1 i l fds h;exact⟨_,q⟩
 |rd fds=>obtain⟨_,_,_,_,_,_,_,q,_⟩:=R.ob.2 i fds h;exact⟨_,q⟩
theorem ut(e:h7 i ρ=e9 (.ok w ρ')):ρ'=ρ∧w=.slot i∧∃c,ρ[i]?=e9 (e9 c):=by
 unfold h7 at e;split at e
 ·rename_i c a;cases e;exact⟨rfl,rfl,c,a⟩
 ·cases e
theorem Ir (i:Nat)(b:X.N[i]?=e9 x:=by rfl)(d:fB X.env.scope x:=by first|exact Or.inl rfl|exact Or.inr (Or.inl rfl) |exact Or.inr (Or.inr rfl))(hd:(x==("__debug__":Str))=f6:=by decide) (a:(x==("__classdict__":Str))=f6:=by decide):Ep X B (.Name x pos) (h7 i) where
 ap ξ:=(bF (X:=rz X ξ) b d hd a).imp λσ H Q ⟨G,ρ,R,w,e,p⟩=>by
  obtain⟨_,rfl,c,f⟩:=ut e;obtain⟨v,q⟩:=yj R f;exact⟨v,q,p v G (j6.refl _) R q⟩
 pu ρ w ρ' e:=by
  obtain⟨h,rfl,_⟩:=ut e;exact⟨h,rfl⟩
theorem MH(h:∀ξ,PE (rz X ξ) e (tC v))(a:∀G,Rep B.K G v d):Ep X B e (mC d):=
 ⟨λξ=>(h ξ).imp λσ H Q ⟨G,ρ,R,w,e,p⟩=>(by cases e;exact p v G (j6.refl _) R (a G)),(λρ w ρ' e=>by cases e;exact⟨rfl,rfl⟩)⟩
theorem Iw{j pos}:Ep X B (.Constant (.int i) j pos) (mC (.int i)):=MH (λ_=>sE) λ_=>.int i
theorem vG(m:∀ρ w ρ',ma ρ=e9 (.ok w ρ')→ρ'=ρ∧DS w=f8)(n:∀ρ w ρ',mb ρ=e9 (.ok w ρ')→ρ'=ρ∧DS w=f8)(h:i3 f ma mb ρ=e9 (.ok w ρ')):ρ'=ρ∧∃b g dx j,ma ρ=e9 (.ok b ρ)∧mb ρ=e9 (.ok g ρ)∧getD b ρ=e9 dx∧getD g ρ=e9 j∧f dx j=e9 w:=by
 unfold i3 at h;cases c:ma ρ with
 |none=>rw[M.bind_none (show L1 ma ρ=f7 by unfold L1;exact M.bind_none c)]at h;cases h
 |some r=>
  cases r with
  |ex x a=>rw[M.dB (show L1 ma ρ=e9 (.ex x a) by unfold L1;exact M.dB c)]at h;cases h
  |ok b a=>
   obtain⟨rfl,s1⟩:=m _ _ _ c;have hs:L1 ma a=e9 (.ok b a):=by
    cases b with
    |own d=>cases s1
    |val d=>exact qg c
    |slot i=>exact mV c
   rw[M.j9 hs]at h;cases k:mb a with
   |none=>rw[M.bind_none k]at h;cases h
   |some r=>
    cases r with
    |ex x l=>rw[M.dB k]at h;cases h
    |ok g l=>
     obtain⟨rfl,s2⟩:=n _ _ _ k;rw[M.j9 k]at h;unfold FM at h;split at h
     ·rename_i dx j o p;obtain⟨z,q,e⟩:=h9.mp h;cases e;exact⟨rfl,b,g,dx,j,rfl,rfl,o,p,q⟩
     ·cases h
theorem Gh {dx a:D}{w:W}(h:u6 dx a=e9 w):DS w=f8:=by
 unfold u6 at h;split at h
 ·obtain⟨_,_,rfl⟩:=h9.mp h;rfl
 ·obtain⟨_,_,rfl⟩:=h9.mp h;rfl
 ·obtain⟨_,h⟩:=p5 h;obtain⟨_,_,rfl⟩:=h9.mp h;rfl
 ·obtain⟨_,_,h⟩:=B7.mp h;obtain⟨_,_,rfl⟩:=h9.mp h;rfl
 ·cases h
theorem Iu{j p1 p2}:Ep X B (.UnaryOp .USub (.Constant (.int i) j p1) p2) (aZ N1 (mC (.int i))) where
 ap ξ:=(Ea (X:=rz X ξ) xV sE).imp λσ H Q ⟨G,ρ,R,w,e,p⟩=>by
  cases e;exact⟨i,rfl,p _ G (j6.refl _) R (.int _)⟩
 pu ρ w ρ' e:=by cases e;exact⟨rfl,rfl⟩
theorem Iv (s:X.A.units+8<C2)(k:Ep X B a ma)(l:Ep X B b mb)(hs:pT b:=by exact λ_ _=>rfl)(n:X.K=B.K:=by rfl):Ep X B (.Subscript a b pos) (i3 u6 ma mb) where
 ap ξ:=(Eb (X:=rz X ξ) ((qU (X:=rz X ξ) (K:=B.K) n).or ((uW (X:=rz X ξ) (K:=B.K) n).or (zy.or (uX s)))) (k.ap ξ) (l.ap ξ) hs).imp λσ H Q ⟨G,ρ,R,w,e,p⟩=>by
  obtain⟨_,o,t,dx,T,r,u,E,F,m⟩:=vG k.pu l.pu e;refine⟨G,ρ,R,o,r,λx I s1 J L=>⟨I,ρ,J,t,u,λy N s2 R2 O=>?_⟩⟩;have st:=(k.pu _ _ _ r).2;have z:=va (Q:=λv H'=>H'=H→Q v H) R2 ((L.keep s2 st:E2 B N H σ ρ x o).get R2 E) (O.get R2 F) m λv G' H' P R' S e=>p v G' ((s1.trans s2).trans P) (e▸R') (e▸S);rcases z with⟨q,xs,i,v,d,f,g,j,h⟩ | ⟨q,xs,i,v,d,f,g,j,h⟩ | ⟨q,i,c,d,f,g,j,h⟩ | ⟨q,v,d,f,h⟩
  ·exact .inl ⟨q,xs,i,v,d,f,g,j,h rfl⟩
  ·exact .inr (.inl ⟨q,xs,i,v,d,f,g,j,h rfl⟩)
  ·exact .inr (.inr (.inl ⟨q,i,c,d,f,g,j,h rfl⟩))
  ·exact .inr (.inr (.inr ⟨q,v,d,f,h rfl⟩))
 pu ρ w ρ' e:=by
  obtain⟨h,_,_,_,_,_,_,_,_,m⟩:=vG k.pu l.pu e;exact⟨h,Gh m⟩
noncomputable def qO (ma:M W)(b:Bool):M W:=λρ=>match ma ρ with
 |some (.ok x a)=>(getD x a).bind λd=>(keyOf d).map λk=>.ok (.own (.dct [(k,.bl b)])) a
 |_=>f7
theorem GI{j p1}(f:Ep X B a ma):PD X B (.Dict [e9 a] [.Constant (.bool v) j p1] pos) (qO ma v):=.mk λξ=>
 (Co (X:=rz X ξ) (yM (f.ap ξ) Ec Ce) rfl rfl (by simp) (Nat.le_of_ble_eq_true rfl)).imp λσ H Q ⟨G,ρ,R,r,e,p⟩ q g=>by
  unfold qO at e;split at e
  ·rename_i w c h;obtain⟨rfl,st⟩:=f.pu _ _ _ h;obtain⟨d,i,e⟩:=B7.mp e;obtain⟨k,l,e⟩:=h9.mp e;cases e;obtain⟨m,w1⟩:=R.kW g .nil;refine⟨G,c,m,w,h,λx u s1 R2 n=>⟨m3,[(k,.bl v)],?_,Nat.le_of_ble_eq_true rfl,?_⟩⟩
   ·rw[cY (n.get R2 i) l];rfl
   ·obtain⟨o,s⟩:=R.kW (kvs:=[(k,.bl v)]) (es:=[(k,.bl v)]) g (.cons rfl (.bl v) .nil);have t:upd (upd H q (.dK [])) q (.dK (iK [] [(k,.bl v)]))=upd H q (.dK [(k,.bl v)]):=by
     funext b;by_cases z:b=q
     ·rw[z,m3,m3];rfl
     ·rw[k0 z,k0 z,k0 z]
    rw[t];exact p _ G _ (j6.refl _) o s
  ·cases e
end
end L3
namespace Op
open PySem PySem.W PyProof.Rows PySem.Calls
noncomputable def den:Code→Sem Fin:=PySem.W.Fast.tw11892475500146522536 PySem.W.Fast.tw14364793385576792824
theorem GE:denote pX=den:=congr PySem.W.Fast.te11892475500146522536 PySem.W.Fast.te14364793385576792824
noncomputable def go (p:Program) (w:World) (n:Nat):SharedT→Thread→Option SharedT:=
 @Nat.rec (λ_=>SharedT→Thread→Option SharedT) (λ_ _=>f7)
  (λ_ ih s t=>match NK t with
   |true=>e9 s
   |false=>match PySem.W.Fast.tw6613529449190102663 11 (e9 (.ref 6)) t with
    |false=>f7
    |true=>match PySem.W.Fast.tw10156331382660048174 den p w s t with
     |some (a,b)=>ih a b
     |none=>f7) n
theorem eF:∀{n:Nat} {s a:SharedT} {t:Thread},go p w n s t=e9 a→topRun pX p w 11 (e9 (.ref 6)) n s.abs t=e9 a.abs
 |0,_,_,_,h=>by cases h
 |n+1,s,a,t,h=>by
  change (match NK t with
   |true=>e9 s
   |false=>match PySem.W.Fast.tw6613529449190102663 11 (e9 (.ref 6)) t with
    |false=>f7
    |true=>match PySem.W.Fast.tw10156331382660048174 den p w s t with
     |some (a,e)=>go p w n a e
     |none=>f7)=e9 a at h
  rw[←PySem.W.Fast.te6613529449190102663,←PySem.W.Fast.te10156331382660048174,←GE]at h;unfold topRun;cases b:NK t with
  |true=>rw[b]at h;cases h;rfl
  |false=>
   rw[b]at h;cases hk:stepOk 11 (e9 (.ref 6)) t with
   |false=>rw[hk]at h;cases h
   |true=>
    rw[hk]at h;cases hs:stepT (denote pX) p w s t with
    |none=>rw[hs]at h;cases h
    |some r=>obtain⟨c,d⟩:=r;rw[hs]at h;rw[stepT_spec hs];exact eF h
noncomputable def tree (l:List Obj):Nat→BT→BT:=@List.rec Obj (λ_=>Nat→BT→BT) (λ_ t=>t) (λo _ ih n t=>ih (n+1) (t.ins n o)) l
noncomputable def s0 (w:World) (os:OsState):SharedT:=⟨tree (D4 w.params).objs.toList 0 .nil,11,(D4 w.params).life,Array.mk [],vR,Bc,os⟩
theorem Fa (w:World)(os:OsState):(s0 w os).abs=⟨D4 w.params,Array.mk [],vR,Bc,os⟩:=by kernel_rfl
theorem left {p q:Program}{a:List Str}{b:Shared→Bool}{α:Type}{c:Shared→α}{g:World→α}{N n:Nat}(e:opening p=plainProg p.main.scope.names)(i:Nat.ble 600 N=f8)(f:∀s,MW p s=e9 s)(le:Nat.ble n N=f8)
  (h:∀w,(λos=>(go p w n (s0 w os) (NI p)).map λs=>((staticsOk (P2 p.main.body) (D4 w.params) s.abs.heap&&vO p s.abs.heap&&Ey s.abs&&Ew (D4 w.params) s.abs.heap),
    Mt q a (P2 p.main.body) b f8 s.abs,c s.abs))=λ_=>e9 (f8,Mu q a,g w)):LeftO p q a b c g N:=λw=>by
 obtain⟨⟨j,l,d,k,os⟩,m,o⟩:=h9.mp (boot_open e i f w);obtain⟨rfl,rfl,rfl,rfl⟩:j=D4 w.params∧l=Array.mk []∧d=vR∧k=Bc:=by simpa using o
 obtain⟨s,hs,u⟩:=h9.mp (congrFun (h w) os);obtain⟨v,x,y⟩:_∧_∧_:=by simpa only[DN]using u
 have r:=topRun_mono (N-n) _ _ _ _ (eF hs);rw[show n+(N-n)=N by have:=Nat.le_of_ble_eq_true le;omega,Fa]at r;have z:((D4 w.params).isNs l6&&(Array.mk []:Array GenState).size==0,(D4 w.params).objs.size,(D4 w.params).nsMap l6 "__annotations__")=(f8,11,e9 (.ref 6)):=by kernel_rfl
 obtain⟨A,B,E⟩:_∧_∧_:=by simpa only[DN]using z
 have t:NJ pX p w N ⟨D4 w.params,Array.mk [],vR,Bc,os⟩=e9 s.abs:=by
  unfold NJ;dsimp only;rw[A,B,E,r];show(match staticsOk (P2 p.main.body) (D4 w.params) s.abs.heap&&vO p s.abs.heap&&Ey s.abs&&Ew (D4 w.params) s.abs.heap with|true=>_|false=>_)=_;rw[v]
 unfold openEnds;rw[m];show(NJ pX p w N _).map _=_;rw[t];exact congrArg e9 (xQ x y)
end Op
namespace Op
open PySem PySem.W PyProof.Rows PySem.Calls L2
noncomputable def CW (h:Heap):Frag:=(List.range h.objs.size).filterMap λa=>(h.get? a).map λo=>(a,o)
theorem X8 {K:Frag}(h:K.lookup a=e9 o):(a,o)∈K:=by
 induction K with
 |nil=>cases h
 |cons p r ih=>
  obtain⟨b,x⟩:=p;rw[List.lookup_cons]at h;split at h
  ·rename_i e;cases h;rw[eq_of_beq e];exact List.mem_cons_self
  ·exact List.mem_cons_of_mem _ (ih h)
theorem CV (h:Heap):(CW h).In h:=λa o e=>by
 obtain⟨b,_,c⟩:=List.mem_filterMap.mp (X8 e);obtain⟨o',d,q⟩:=h9.mp c;cases q;exact d
structure Fn where
 at_:Frag→Option (Option Value)
 x:Str
 q:Str
 st:Stmt
noncomputable def Fn.DU (K:Frag)(d:Fn):Option FuncData:=match d.at_ K with
 |some (e9 (.ref f))=>(match K.lookup f with
  |some ⟨.type t,_,.func fd,_⟩=>(match codeIn K fd.code d.q&&Mw K (.ref f)&&isFn K (.ref f)&&t == "function" with
   |true=>e9 {fd with kwdefaults:=.none,doc:=.none,pyModule:=.none,annotations:=f7,code:=.none,closureTuple:=.none}
   |false=>f7)
  |_=>f7)
 |_=>f7
noncomputable def Fn.due (d:Fn):FuncData:=fnOf d.x d.q (U6 d.st) (G7 d.st) (j8 d.st) .none .none .none .none f7 .none .none
theorem Fn.ok {K:Frag}{d:Fn}(h:d.DU K=e9 d.due):∃f od kV doc pm an cdv ct sl,d.at_ K=e9 (e9 (.ref f))∧K.lookup f=e9 ⟨.type "function",od,.func (fnOf d.x d.q (U6 d.st) (G7 d.st) (j8 d.st) .none kV doc pm an cdv ct),sl⟩∧codeIn K cdv d.q=f8∧Mw K (.ref f)=f8∧isFn K (.ref f)=f8:=by
 unfold Fn.DU at h;split at h
 ·rename_i f e;split at h
  ·rename_i t od fd sl l;split at h
   ·rename_i g;obtain⟨g,a⟩:=B6.mp g;obtain⟨g,c⟩:=B6.mp g;obtain⟨i,j⟩:=B6.mp g;cases eq_of_beq a;obtain⟨n,q,p,b,sc,m,cl,o,kV,doc,pm,an,k,ct,bl⟩:=fd;cases h;exact⟨f,od,kV,doc,pm,an,k,ct,sl,e,l,i,j,c⟩
   ·cases h
  ·cases h
 ·cases h
noncomputable def hook (ds:List Fn)(ok:Frag→Bool):Hook where
 α:=List (Option FuncData)×Bool
 obs s:=(ds.map (Fn.DU (CW s.heap)),ok (CW s.heap))
 val _:=(ds.map λd=>e9 d.due,f8)
 says _ h:=∃K:Frag,K.In h∧(∀d∈ds,d.DU K=e9 d.due)∧ok K=f8
 of _ s e:=⟨CW s.heap,CV _,λd hd=>by
  have e:=congrArg Prod.fst e;exact List.map_inj_left.mp e d hd,congrArg NF e⟩
 keeps _ _ _ y k:=let⟨K,a,b⟩:=y;⟨K,a.keeps k,b⟩
theorem EB {l:OpenLaw}{d:DefRec}(v:l.most=e9 63)(n:d.params.defaults=[])(hr:O8 k jN)
  (F:∀(w:World) (mg:Str→Option Value) (m:Addr) (h:Heap) (K:Frag),K.In h→(∀d∈ds,d.DU K=e9 d.due)→ok K=f8→h.Ns l6 mg→mg d.name=e9 (.ref m)→
   ∃fd:FuncData,(∀(s:Shared) (u:Value),uo s fd ⟨[u],[]⟩ [(x,u)])∧∀base:Heap,K.In base→base.Ns l6 mg→x5 l.prog w K mg base V2 k m fd [x] (yg K)):
  WalkO q e XP (hook ds ok).says l.row.toRowW d [] (λf vs=>PySem.call f vs):=by
 refine Att.rG v n λw s₀ r mg mb m o pm N doc a vs ns G Y O hd y p j i c A=>?_;obtain⟨K,t,B,E⟩:=Y;obtain⟨fd,I,J⟩:=F w mg m _ K t B E G.T.g p;exact zv t G.T.g G.T.b G.T.builtins G.T.nolimit A j i (Nat.le_trans c (by decide)) hr J I (λH P L=>⟨a,ns,rfl,L,c,λ_=>rfl⟩) λ_ _ _ z=>z
noncomputable def eJ (st:Stmt):DefRec:=match st with
 |.FunctionDef n a b _ _ _ sc _ _ pos=>⟨n,a,b,sc,pos⟩
 |_=>⟨"",U6 st,[],j8 st,⟨0,0,0,0⟩⟩
theorem holds {l:OpenLaw}{i n k:Nat}{ds:List Fn}{ok:Frag→Bool}{x:Str}{st:Stmt}
  (w1:PySem.W.Fast.tw9446332074065402090 l=f8) (e:opening l.prog=plainProg l.prog.main.scope.names) (f:∀s,MW l.prog s=e9 s) (le:Nat.ble n 9999=f8)
  (h:∀w,(λos=>(go l.prog w n (s0 w os) (NI l.prog)).map λs=>((staticsOk (P2 l.prog.main.body) (D4 w.params) s.abs.heap&&vO l.prog s.abs.heap&&Ey s.abs&&Ew (D4 w.params) s.abs.heap),
    Mt (view l.prog [i]) l.prog.boundNames (P2 l.prog.main.body) (λs=>xlAt (view l.prog [i]) [] s&&recOk [] s) f8 s.abs,(hook ds ok).obs s.abs))=λ_=>e9 (f8,Mu (view l.prog [i]) l.prog.boundNames,(hook ds ok).val w))
  (a:defOf (view l.prog [i]) l.name=e9 (eJ st,[])) (j:l.prog.theDef l.name=e9 ((eJ st).params,(eJ st).body,(eJ st).scope)) (hk:kwWritten? (eJ st).params.kwonlyargs (eJ st).params.kw_defaults=e9 [])
  (o:(chainsOk (view l.prog [i])&&opensWell l.prog&&(frees l.row.toRowW&&l.row.within.isEmpty))=f8) (m:l.prog.bare) (p:l.row.toRowW.promised) (t:l.most=e9 63) (c:(eJ st).params.defaults=[]) (hr:O8 k jN)
  (F:∀(w:World) (mg:Str→Option Value) (g:Addr) (h:Heap) (K:Frag),K.In h→(∀d∈ds,d.DU K=e9 d.due)→ok K=f8→h.Ns l6 mg→mg (eJ st).name=e9 (.ref g)→
   ∃fd:FuncData,(∀(s:Shared) (u:Value),uo s fd ⟨[u],[]⟩ [(x,u)])∧∀base:Heap,K.In base→base.Ns l6 mg→x5 l.prog w K mg base V2 k g fd [x] (yg K)):l.Holds:=
 holds_law (by rw[PySem.W.Fast.te9446332074065402090];exact w1) λb=>
  holds_open (r:=l.row) (q:=view l.prog [i]) (loose:=l.prog.boundNames) (Xt:=λs=>xlAt (view l.prog [i]) [] s&&recOk [] s) (XP:=XL (view l.prog [i]) []) (Yf:=(hook ds ok).obs) (Ya:=(hook ds ok).val) (YP:=(hook ds ok).says) (N:=9999)
   (left e (by decide) f le h) (hook ds ok).of (hook ds ok).keeps (λs e=>xl_of s (B6.mp e).1) XL.keeps a j hk (λs e=>recFacts_of (B6.mp e).2) (Jz _) b o m p (EB t c hr F)
section
variable {K:Frag}{h:Heap}{mg:Str→Option Value}{x q c:Str}{st:Stmt}{ps fns:List Str}{C:Addr}
noncomputable def fn (x:Str)(st:Stmt):Fn:=⟨λK=>nsIn K l6 x,x,x,st⟩
noncomputable def clsAt (K:Frag)(c:Str):Option Addr:=match nsIn K l6 c with
 |some (e9 (.ref C))=>e9 C
 |_=>f7
noncomputable def mt (c x q:Str)(st:Stmt):Fn:=⟨λK=>(clsAt K c).bind λC=>findIn K (.ref C) x,x,q,st⟩
def Bd (x q:Str)(st:Stmt)(ps:List Str):Prop:=∀(kV doc pm:Value) (an:Option Addr) (cdv ct:Value) (us:List Value),us.length=ps.length→og (fnOf x q (U6 st) (G7 st) (j8 st) .none kV doc pm an cdv ct) ⟨us,[]⟩=pure (ps.zip us)
theorem A4 (X:K.In h)(G:h.Ns l6 mg)(e:(fn x st).DU K=e9 (fn x st).due)(b:Bd x x st ps):L2.Def K mg x st ps:=by
 obtain⟨f,od,kV,doc,pm,an,cdv,ct,sl,a,l,c,k,n⟩:=Fn.ok e;exact L2.GF X G a l c k b
theorem kX (d:clsAt K c=e9 C)(e:(mt c x q st).DU K=e9 (mt c x q st).due)(b:Bd x q st ps):L3.lQ K C x q st ps:=by
 obtain⟨f,od,kV,doc,pm,an,cdv,ct,sl,a,l,c,k,n⟩:=Fn.ok e;have a:(clsAt K _).bind _=_:=a;rw[d]at a;exact L3.Ds a l c k n b
theorem GM (a:clsAt K c=e9 C):nsIn K l6 c=e9 (e9 (.ref C)):=by
 unfold clsAt at a;split at a
 ·rename_i e;cases a;exact e
 ·cases a
noncomputable def isObj (K:Frag)(fns:List Str)(C:Addr):Bool:=plainGet K C Str.empty&&hasDictIn K C&&plainOver K C&&decide (findIn K (.ref C) "__setattr__"=e9 (e9 (.builtin "object.__setattr__")))&&makesIn K C&&Mw K (.ref C)&&fns.all λf=>decide (findIn K (.ref C) f=e9 f7)
theorem FN (X:K.In h)(G:h.Ns l6 mg)(e:(clsAt K c).any (isObj K fns)=f8):∃C,clsAt K c=e9 C∧mg c=e9 (.ref C)∧L3.ik K C fns∧makesIn K C=f8∧Mw K (.ref C)=f8:=by
 cases a:clsAt K c with
 |none=>rw[a]at e;cases e
 |some C=>
  rw[a]at e;have e:isObj K fns C=f8:=e;unfold isObj at e;simp only[k9,List.all_eq_true,decide_eq_true_eq]at e;obtain⟨⟨⟨⟨⟨⟨b,d⟩,g⟩,i⟩,j⟩,l⟩,m⟩:=e;exact⟨C,rfl,mg_of X G (GM a),⟨⟨b,d,g,i⟩,λk f n=>m f (List.mem_of_getElem? n)⟩,j,l⟩
noncomputable def Mf (K:Frag)(bs:List Str):Bool:=bs.all λb=>decide (nsIn K l6 b=e9 f7)
theorem dD (X:K.In h)(G:h.Ns l6 mg)(e:Mf K bs=f8)(k:Nat)(a:bs[k]?=e9 b):mg b=f7:=mg_none_of X G (of_decide_eq_true (List.all_eq_true.mp e b (List.mem_of_getElem? a)))
noncomputable def isStr (s:Str):Option (Option Value)→Bool
 |some (e9 (.str t _))=>t==s
 |_=>f6
theorem tV (X:K.In h)(G:h.Ns l6 mg)(e:isStr s (nsIn K l6 x)=f8):L2.DI mg x (.str s):=by
 cases a:nsIn K l6 x with
 |none=>rw[a]at e;cases e
 |some o=>
  rw[a]at e;unfold isStr at e;split at e
  ·rename_i q;cases q;exact L2.GK X G a ⟨_,by rw[eq_of_beq e]⟩
  ·cases e
theorem pP(h:(a&&b)=f8):a=f8∧b=f8:=B6.mp h
end
end Op
namespace K30
open PySem L2 L3
noncomputable def top (i:Nat):Stmt:=PySem.Challenge.pw_clausekeep_k30_trimmed.main.body.getD i (.Pass ⟨0,0,0,0⟩)
noncomputable abbrev cM:Stmt:=top 1
theorem iY:n2 ["clauses"] ["clauses"] (j8 cM):=⟨rfl,rfl,rfl,by decide +kernel,rfl,by decide +kernel,by decide +kernel⟩
noncomputable abbrev bf:Stmt:=top 2
theorem gL:n2 ["literals"] ["literals"] (j8 bf):=⟨rfl,rfl,rfl,by decide +kernel,rfl,by decide +kernel,by decide +kernel⟩
noncomputable abbrev gQ:Stmt:=top 3
theorem ng:n2 ["truths","clause","found","literal"] ["truths","clause"] (j8 gQ):=⟨rfl,rfl,rfl,by decide +kernel,rfl,by decide +kernel,by decide +kernel⟩
noncomputable abbrev cS:Stmt:=top 4
theorem je:n2 ["clause","seen","literal"] ["clause"] (j8 cS):=⟨rfl,rfl,rfl,by decide +kernel,rfl,by decide +kernel,by decide +kernel⟩
noncomputable abbrev eU:Stmt:=top 13
theorem kI:n2 ["table","clause","hints","truths","place","outcome"] ["table","clause","hints"] (j8 eU):=⟨rfl,rfl,rfl,by decide +kernel,rfl,by decide +kernel,by decide +kernel⟩
noncomputable abbrev bg:Stmt:=top 14
theorem gM:n2 ["table","truths","hint","literals"] ["table","truths","hint"] (j8 bg):=⟨rfl,rfl,rfl,by decide +kernel,rfl,by decide +kernel,by decide +kernel⟩
noncomputable abbrev E7:Stmt:=inClass (top 20) 0
theorem aD:n2 ["self","variables","clauses","self.table"] ["self","variables","clauses"] (j8 E7):=⟨rfl,rfl,rfl,by decide +kernel,rfl,by decide +kernel,by decide +kernel⟩
noncomputable abbrev Q4:Stmt:=inClass (top 20) 1
theorem ek:n2 ["self","step","self.table"] ["self","step"] (j8 Q4):=⟨rfl,rfl,rfl,by decide +kernel,rfl,by decide +kernel,by decide +kernel⟩
noncomputable abbrev y9:Stmt:=inClass (top 20) 2
theorem T4:n2 ["self","numbers","number","self.table"] ["self","numbers"] (j8 y9):=⟨rfl,rfl,rfl,by decide +kernel,rfl,by decide +kernel,by decide +kernel⟩
noncomputable abbrev B8:Stmt:=inClass (top 20) 3
theorem X6:n2 ["self","number","clause","hints","self.table"] ["self","number","clause","hints"] (j8 B8):=⟨rfl,rfl,rfl,by decide +kernel,rfl,by decide +kernel,by decide +kernel⟩
noncomputable abbrev E6:Stmt:=inClass (top 20) 4
theorem aC:n2 ["self","number","clause","hints","self.table"] ["self","number","clause","hints"] (j8 E6):=⟨rfl,rfl,rfl,by decide +kernel,rfl,by decide +kernel,by decide +kernel⟩
noncomputable abbrev eR:Stmt:=top 22
theorem kF:n2 ["variables","clauses","steps","needed","wanted"] ["variables","clauses","steps"] (j8 eR):=⟨rfl,rfl,rfl,by decide +kernel,rfl,by decide +kernel,by decide +kernel⟩
noncomputable abbrev Q3:Stmt:=top 23
theorem eg:n2 ["variables","clauses","steps","keeper","needed","step","keeper.table"] ["variables","clauses","steps"] (j8 Q3):=⟨rfl,rfl,rfl,by decide +kernel,rfl,by decide +kernel,by decide +kernel⟩
noncomputable abbrev be:Stmt:=top 24
theorem gK:n2 ["steps","wanted","step"] ["steps"] (j8 be):=⟨rfl,rfl,rfl,by decide +kernel,rfl,by decide +kernel,by decide +kernel⟩
noncomputable abbrev M6:Stmt:=top 25
theorem aB:n2 ["step"] ["step"] (j8 M6):=⟨rfl,rfl,rfl,by decide +kernel,rfl,by decide +kernel,by decide +kernel⟩
noncomputable abbrev gP:Stmt:=top 27
theorem nc:n2 ["variables","clauses","table","steps","chosen","truths","reasons","conflict","free","step","clause"] ["variables","clauses"] (j8 gP):=⟨rfl,rfl,rfl,by decide +kernel,rfl,by decide +kernel,by decide +kernel⟩
noncomputable abbrev gO:Stmt:=top 28
theorem na:n2 ["table","truths","reasons","grown","number","literals"] ["table","truths","reasons"] (j8 gO):=⟨rfl,rfl,rfl,by decide +kernel,rfl,by decide +kernel,by decide +kernel⟩
noncomputable abbrev eS:Stmt:=top 29
theorem kG:n2 ["table","chosen","truths","reasons","conflict","needed","hints","variable","clause"] ["table","chosen","truths","reasons","conflict"] (j8 eS):=⟨rfl,rfl,rfl,by decide +kernel,rfl,by decide +kernel,by decide +kernel⟩
noncomputable abbrev cR:Stmt:=top 31
theorem jd:n2 ["_law_script","_law_k"] ["_law_script","_law_k"] (j8 cR):=⟨rfl,rfl,rfl,by decide +kernel,rfl,by decide +kernel,by decide +kernel⟩
noncomputable abbrev eT:Stmt:=top 32
theorem kH:n2 ["_law_script","_law_k","_law_number"] ["_law_script","_law_k"] (j8 eT):=⟨rfl,rfl,rfl,by decide +kernel,rfl,by decide +kernel,by decide +kernel⟩
noncomputable abbrev aa:Stmt:=top 35
theorem fI:n2 ["_law_script","_law_base","_law_variables","_law_most","_law_number","_law_size","_law_found","_law_k","_law_part"] ["_law_script","_law_base","_law_variables","_law_most"] (j8 aa):=⟨rfl,rfl,rfl,by decide +kernel,rfl,by decide +kernel,by decide +kernel⟩
noncomputable abbrev Z9:Stmt:=top 37
theorem fH:n2 ["_law_variables","_law_clauses","_law_found","_law_number","_law_model","_law_k"] ["_law_variables","_law_clauses"] (j8 Z9):=⟨rfl,rfl,rfl,by decide +kernel,rfl,by decide +kernel,by decide +kernel⟩
noncomputable abbrev cP:Stmt:=top 38
theorem jb:n2 ["_law_true_ones","_law_clause_here","_law_found","_law_literal"] ["_law_true_ones","_law_clause_here"] (j8 cP):=⟨rfl,rfl,rfl,by decide +kernel,rfl,by decide +kernel,by decide +kernel⟩
noncomputable abbrev bi:Stmt:=top 39
theorem gN:n2 ["_law_table_here","_law_literals","_law_true_ones","_law_hints_here","_law_k","_law_number","_law_left"] ["_law_table_here","_law_literals"] (j8 bi):=⟨rfl,rfl,rfl,by decide +kernel,rfl,by decide +kernel,by decide +kernel⟩
noncomputable abbrev cN:Stmt:=top 40
theorem iZ:n2 ["_law_table_here","_law_true_ones","_law_hints_here","_law_used","_law_hint","_law_left"] ["_law_table_here","_law_true_ones","_law_hints_here"] (j8 cN):=⟨rfl,rfl,rfl,by decide +kernel,rfl,by decide +kernel,by decide +kernel⟩
noncomputable abbrev W5:Stmt:=top 42
theorem eh:n2 ["_law_table_here","_law_clause_here","_law_hints_here","_law_true_ones","_law_end","_law_groups","_law_hint","_law_wanted_here"] ["_law_table_here","_law_clause_here","_law_hints_here"] (j8 W5):=⟨rfl,rfl,rfl,by decide +kernel,rfl,by decide +kernel,by decide +kernel⟩
noncomputable abbrev Z8:Stmt:=top 46
theorem fG:n2 ["_law_formula_here","_law_steps_here","_law_table_here","_law_k","_law_top","_law_step","_law_one","_law_good"] ["_law_formula_here","_law_steps_here"] (j8 Z8):=⟨rfl,rfl,rfl,by decide +kernel,rfl,by decide +kernel,by decide +kernel⟩
noncomputable abbrev cO:Stmt:=top 47
theorem ja:n2 ["_law_formula_here","_law_table_here","_law_k","_law_steps_here","_law_size","_law_number","_law_signs","_law_clause_here","_law_opposite","_law_hints_here","_law_place"] ["_law_formula_here"] (j8 cO):=⟨rfl,rfl,rfl,by decide +kernel,rfl,by decide +kernel,by decide +kernel⟩
noncomputable abbrev cQ:Stmt:=top 48
theorem jc:n2 ["_law_script","_law_base","_law_clauses","_law_number","_law_one","_law_at","_law_k","_law_variables","_law_many"] ["_law_script","_law_base"] (j8 cQ):=⟨rfl,rfl,rfl,by decide +kernel,rfl,by decide +kernel,by decide +kernel⟩
noncomputable abbrev Z7:Stmt:=top 49
theorem fF:n2 ["_law_steps_here","_law_found","_law_wanted_here","_law_step","_law_hint"] ["_law_steps_here"] (j8 Z7):=⟨rfl,rfl,rfl,by decide +kernel,rfl,by decide +kernel,by decide +kernel⟩
noncomputable abbrev qq:Stmt:=top 50
theorem yq:n2 ["_law_script","_law_formula_here","_law_steps_here","_law_drops","_law_tail","_law_handed","_law_found","_law_due"] ["_law_script"] (j8 qq):=⟨rfl,rfl,rfl,by decide +kernel,rfl,by decide +kernel,by decide +kernel⟩
noncomputable def qQ (p v:Int):Int:=(1+p / 2 % v)*(1-2*(p % 2))
noncomputable def sizeV (n a:Int):Int:=if n % 6=0 then 1 else if n % 6=1 then 2 else if n % 6=2 then 3 else if n % 6=3 then 2 else if n % 6=4 then 3 else n / 6 % (a+1)
noncomputable def X2 (ns:List Int)(b v a:Int):List Int:=(List.range (sizeV (E9 ns b) a).toNat).map λ(k:Nat)=>qQ (E9 ns (b+1+(k:Int))) v
noncomputable def l8 (ts:List (Int×Int)):List (Key×D):=ts.map λkv=>(.inl kv.1,.int kv.2)
noncomputable def l4 (ts:List (Int×Int))(k:Int):Option Int:=(ts.find? λkv=>decide (kv.1=k)).map (·.2)
noncomputable def O7 (a:List Int)(l:Int):List Int:=if l∈a then a else a++[l]
noncomputable def Z2 (ts:List (Int×Int))(a:List Int)(l:Int):List Int:=if l4 ts l.natAbs=e9 (-l)then a else O7 a l
noncomputable def t8 (ts:List (Int×Int))(a:List Int):List Int:=a.foldl (Z2 ts) []
noncomputable def x4 (cs:List (List Int)):List D:=cs.map λc=>D.tup (c.map D.int)
noncomputable def rJ (c M:List Int):Bool:=c.any λl=>decide (l∈M)
noncomputable abbrev O1:=List (Int×Int)
noncomputable def I8 (ts:O1)(k v:Int):O1:=if(ts.any λkv=>decide (kv.1=k))=f8 then ts.map λkv=>if kv.1=k then(kv.1,v)else kv else ts++[(k,v)]
noncomputable def n7 (x:Int):Int:=(x.natAbs:Int)
noncomputable def A0 (a:List Int):O1:=a.foldl (λts l=>I8 ts (n7 l) l) []
noncomputable abbrev Tab:=List (Int×List Int)
noncomputable def n6 (T:Tab):List (Key×D):=T.map λkv=>(.inl kv.1,.tup (kv.2.map D.int))
noncomputable def v3 (T:Tab)(k:Int):Option (List Int):=(T.find? λkv=>decide (kv.1=k)).map (·.2)
noncomputable def sK (T:Tab):Bool:=decide (T.length≤600)&&T.all λkv=>decide (kv.2.length≤1000)
noncomputable def r8:Int→List (List Int)→Tab
 |_,[]=>[]
 |k,c::cs=>(k,c)::r8 (k+1) cs
noncomputable def scan1 (ts rs:O1)(g:Bool)(n:Int):List Int→Option (O1×O1×Bool)
 | []=>f7
 | [l]=>if(l4 ts (n7 l)).isSome=f8 then e9 (ts,rs,g)else e9 (I8 ts (n7 l) l,I8 rs (n7 l) n,f8)
 |_=>e9 (ts,rs,g)
noncomputable def M5:O1→O1→Bool→Tab→Option Int×O1×O1×Bool
 |ts,rs,g,[]=>(f7,ts,rs,g)
 |ts,rs,g,kv::ns=>match scan1 ts rs g kv.1 (t8 ts kv.2)with
  |none=>(e9 kv.1,ts,rs,g)
  |some (a,b,c)=>M5 a b c ns
noncomputable def R7 (T:Tab):Nat→O1→O1→Option (Option Int×O1×O1)
 |0,_,_=>f7
 |n+1,ts,rs=>match M5 ts rs f6 T with
  | (e9 k,a,b,_)=>e9 (e9 k,a,b)
  | (f7,a,b,f6)=>e9 (f7,a,b)
  | (f7,a,b,f8)=>R7 T n a b
noncomputable def wA:Option Int→D
 |none=>.v1
 |some k=>.int k
noncomputable def am (c:List Int):List Int:=(c.map n7).foldl O7 []
noncomputable def U9 (T:Tab)(rs:O1):List Int→List Int→List Int→Option (List Int×List Int)
 | [],hs,nd=>e9 (hs,nd)
 |x::xs,hs,nd=>if x∈nd∧(l4 rs x).isSome=f8 then(v3 T ((l4 rs x).getD 0)).bind λc=>U9 T rs xs (hs++[(l4 rs x).getD 0]) ((am c).foldl O7 nd)else U9 T rs xs hs nd
noncomputable def bO (T:Tab)(ch:List Int)(ts rs:O1)(k:Int):Option (List Int×List Int):=(v3 T k).bind λc=>(U9 T rs (ts.map (·.1)).reverse [k] (am c)).map λr=>((ch.filter λl=>decide (n7 l∈r.2)).map (λl=>-l),r.1.reverse)
noncomputable abbrev aT:=Int×List Int×List Int
noncomputable def m7 (s:aT):D:=.tup [.str [97,100,100],.int s.1,.tup (s.2.1.map D.int),.tup (s.2.2.map D.int)]
noncomputable def F6 (v:Int)(ts:O1):List Int:=((List.range v.toNat).map λk=>(1:Int)+((k:Nat):Int)).filter λx=>!(l4 ts x).isSome
noncomputable def kr (v:Int)(ts:O1):List Int:=((List.range v.toNat).map λk=>(1:Int)+((k:Nat):Int)).map λx=>(l4 ts x).getD 0
noncomputable def CB (cs:List (List Int))(st:List aT)(ch:List Int):Bool:=decide (cs.length≤500∧st.length≤500∧ch.length≤20)&&cs.all λc=>decide (c.length≤100)
noncomputable def v6 (v:Int):Nat→List (List Int)→List aT→List Int→Option (Option (List Int)×List aT)
 |0,_,_,_=>f7
 |n+1,cs,st,ch=>if CB cs st ch=f8 then match R7 (r8 1 cs) 99 (A0 ch) []with
  |none=>f7
  |some (e9 k,ts,rs)=>if ts.length≤20∧rs.length≤1000 then match bO (r8 1 cs) ch ts rs k with
   |none=>f7
   |some (c,hs)=>match c.getLast? with
    |none=>e9 (f7,st++[(((cs.length+1:Nat):Int),c,hs)])
    |some l=>if -l∈ch then v6 v n (cs++[c]) (st++[(((cs.length+1:Nat):Int),c,hs)]) (ch.takeWhile λx=>!decide (x=-l))else f7
   else f7
  |some (f7,ts,rs)=>match F6 v ts with
   | []=>e9 (e9 (kr v ts),[])
   |x::_=>v6 v n cs st (ch++[-x])
  else f7
noncomputable def ID:Option (List Int)→D
 |none=>.v1
 |some M=>.tup (M.map D.int)
noncomputable abbrev uV:List Nat:=[101,110,100,115]
noncomputable abbrev qT:List Nat:=[103,111,101,115,32,111,110]
noncomputable abbrev Gf:List Nat:=[119,114,111,110,103]
noncomputable def zc (i:Nat)(f:List D→Option FR)(ds:List D):Option FR:=match ds[i]? with
 |some (.dct _)=>f ds
 |_=>f7
theorem kU(h:zc i f ds=e9 r):(∃es,ds[i]?=e9 (.dct es))∧f ds=e9 r:=by
 unfold zc at h;split at h
 ·rename_i es e;exact⟨⟨es,e⟩,h⟩
 ·cases h
section
variable {P:Program}{w:World}{K:PySem.W.Frag}{mg:Str→Option Value}{base:Heap}{f:Addr}{fd:FuncData}
noncomputable abbrev ak:SM:=(k8 (X9 (T0 (h7 0)) (retS (i3 u6 (h7 0) (i3 S9 (h7 1) (D2 V9 (g4 (h7 0) j4))))) aq)
 (retS (mC (.int 0))))
noncomputable def bp:List D→Option FR:=n8 ak 2 [f6,f6]
theorem mq:∀ds r,bp ds=e9 r→n8 ak 2 [f6,f6] ds=e9 r:=λ_ _ h=>h
theorem oG (F:bc K "_law_cell" "_law_cell" cR f fd) (a:mg "len"=f7):
  x5 P w K mg base V2 1 f fd ["_law_script","_law_k"] (E3 K [f6,f6] (n8 ak 2 [f6,f6])):=
 have nd:=jd.nd
 M9 (k:=0) F jd rfl (λcdv A outer s H E H0 HK G0 L hr=>by
  have b:=fZ hr;exact(i9 (E5 (Q1 (dv 0)) (k6 (u2 (p9 b (dv 0) (U7 (dv 1) (Y3 a (f9 (dv 0) i6)))))) w5)
   (k6 (u2 i7))))
noncomputable abbrev bu:SM:=(k8 (n5 2 (i3 S9 (i3 z7 (o8 [f6,f6] bp (g4 (h7 0) (g4 (h7 1) j4))) (i3 bG (mC (.int 104729)) (i3 z7 (h7 1) (mC (.int 1))))) (mC (.int 4294967291))))
 (k8 (n5 2 (i3 S9 (i3 bG (h7 2) (mC (.int 48271))) (mC (.int 4294967279))))
 (retS (i3 S9 (i3 z7 (i3 bG (i3 lF (h7 2) (mC (.int 64))) (mC (.int 69621))) (h7 2)) (mC (.int 4294967231))))))
noncomputable def u4:List D→Option FR:=n8 bu 3 [f6,f6]
theorem ov:∀ds r,u4 ds=e9 r→n8 bu 3 [f6,f6] ds=e9 r:=λ_ _ h=>h
theorem qu (F:bc K "_law_mix" "_law_mix" eT f fd)
  (a:eM P w K mg base 1 "_law_cell" ["_law_script","_law_k"] (E3 K [f6,f6] bp)):
  x5 P w K mg base V2 2 f fd ["_law_script","_law_k"] (E3 K [f6,f6] (n8 bu 3 [f6,f6])):=
 have nd:=kH.nd
 M9 (k:=1) F kH rfl (λcdv A outer s H E H0 HK G0 L hr=>by
  have b:=fZ hr;exact(i9 (m6 (i:=2) (U7 (y0 (p7 a (hr.mono (by decide)) (f9 (dv 0) (f9 (dv 1) i6))) (cy i7 (y0 (dv 1) i7))) i7) nd)
   (i9 (m6 (i:=2) (U7 (cy (dv 2) i7) i7) nd)
   (k6 (u2 (U7 (y0 (cy (nP (dv 2) i7) i7) (dv 2)) i7))))))
noncomputable abbrev dH:SM:=(k8 (n5 8 (o8 [f6,f6] u4 (g4 (h7 0) (g4 (i3 z7 (i3 z7 (h7 1) (mC (.int 1))) (h7 7)) j4))))
 (F7 (D6 6 (g4 (i3 bG (i3 z7 (mC (.int 1)) (i3 S9 (i3 lF (h7 8) (mC (.int 2))) (h7 2))) (i3 lY (mC (.int 1)) (i3 bG (mC (.int 2)) (i3 S9 (h7 8) (mC (.int 2)))))) j4))))
noncomputable abbrev U5:SM:=(k8 (n5 4 (o8 [f6,f6] u4 (g4 (h7 0) (g4 (h7 1) j4))))
 (k8 (n5 5 (i3 u6 (N2 (g4 (mC (.int 1)) (g4 (mC (.int 2)) (g4 (mC (.int 3)) (g4 (mC (.int 2)) (g4 (mC (.int 3)) (g4 (i3 S9 (i3 lF (h7 4) (mC (.int 6))) (i3 z7 (h7 3) (mC (.int 1)))) j4))))))) (i3 S9 (h7 4) (mC (.int 6)))))
 (k8 (n5 6 (N2 j4))
 (k8 (T6 (X7 ints1 (g4 (h7 5) j4)) (y7 7) dH)
 (retS (D2 cI (g4 (h7 6) j4)))))))
noncomputable def Q7:List D→Option FR:=n8 U5 9 [f6,f6,f6,f6]
theorem jC:∀ds r,Q7 ds=e9 r→n8 U5 9 [f6,f6,f6,f6] ds=e9 r:=λ_ _ h=>h
theorem kN (F:bc K "_law_clause" "_law_clause" aa f fd) (b:mg "range"=f7) (c:mg "tuple"=f7)
  (a:eM P w K mg base 2 "_law_mix" ["_law_script","_law_k"] (E3 K [f6,f6] u4)):
  x5 P w K mg base V2 3 f fd ["_law_script","_law_base","_law_variables","_law_most"] (E3 K [f6,f6,f6,f6] (n8 U5 9 [f6,f6,f6,f6])):=
 have nd:=fI.nd
 M9 (k:=2) F fI rfl (λcdv A outer s H E H0 HK G0 L hr=>by
  have d:=fZ hr;exact(i9 (m6 (i:=4) (p7 a (hr.mono (by decide)) (f9 (dv 0) (f9 (dv 1) i6))) nd)
   (i9 (m6 (i:=5) (p9 d (J2 (f9 i7 (f9 i7 (f9 i7 (f9 i7 (f9 i7 (f9 (U7 (nP (dv 4) i7) (y0 (dv 3) i7)) i6))))))) (U7 (dv 4) i7)) nd)
   (i9 (m6 (i:=6) (J2 i6) nd)
   (i9 (M7 (F1 b (f9 (dv 5) i6)) (C5 (i:=7) nd) (i9 (m6 (i:=8) (p7 a (hr.mono (by decide)) (f9 (dv 0) (f9 (y0 (y0 (dv 1) i7) (dv 7)) i6))) nd)
   (k6 (G9 (L7 6 (dv 6) (f9 (cy (y0 i7 (U7 (nP (dv 8) i7) (dv 2))) (nN i7 (cy i7 (U7 (dv 8) i7)))) i6))))))
   (k6 (u2 (du c (f9 (dv 6) i6)))))))))
noncomputable abbrev dG:SM:=(F7 (D6 4 (g4 (i3 bG (i3 z7 (h7 5) (mC (.int 1))) (i3 lY (i3 bG (mC (.int 2)) (i3 S9 (i3 lF (h7 3) (i3 u6 (N2 (g4 (mC (.int 1)) (g4 (mC (.int 2)) (g4 (mC (.int 4)) (g4 (mC (.int 8)) (g4 (mC (.int 16)) j4)))))) (i3 lY (i3 lY (h7 0) (mC (.int 1))) (h7 5)))) (mC (.int 2)))) (mC (.int 1)))) j4)))
noncomputable abbrev dF:SM:=(k8 (n5 4 (N2 j4))
 (k8 (T6 (X7 ints1 (g4 (h7 0) j4)) (y7 5) dG)
 (X9 (T0 (D2 uc (g4 (B9 (A3 (h7 1)) (y7 0) F5 (D2 ub (g4 (B9 (A3 (h7 0)) (y7 0) F5 (i3 inD (h7 0) (h7 1)) 1 [1]) j4)) 1 [4]) j4))) (F7 (D6 2 (g4 (D2 cI (g4 (h7 4) j4)) j4))) aq)))
noncomputable abbrev aQ:SM:=(k8 (n5 2 (N2 j4))
 (k8 (T6 (X7 ints1 (g4 (i3 u6 (N2 (g4 (mC (.int 1)) (g4 (mC (.int 2)) (g4 (mC (.int 4)) (g4 (mC (.int 8)) (g4 (mC (.int 16)) (g4 (mC (.int 32)) j4))))))) (h7 0)) j4)) (y7 3) dF)
 (retS (h7 2))))
noncomputable def W8:List D→Option FR:=n8 aQ 6 [f6,f6]
theorem jB:∀ds r,W8 ds=e9 r→n8 aQ 6 [f6,f6] ds=e9 r:=λ_ _ h=>h
theorem kM (F:bc K "_law_models" "_law_models" Z9 f fd) (a:mg "range"=f7) (c:mg "all"=f7) (d:mg "any"=f7) (b:mg "tuple"=f7):
  x5 P w K mg base V2 1 f fd ["_law_variables","_law_clauses"] (E3 K [f6,f6] (n8 aQ 6 [f6,f6])):=
 have nd:=fH.nd
 M9 (k:=0) F fH rfl (λcdv A outer s H E H0 HK G0 L hr=>by
  have e:=fZ hr;exact(i9 (m6 (i:=2) (J2 i6) nd)
   (i9 (M7 (F1 a (f9 (p9 e (J2 (f9 i7 (f9 i7 (f9 i7 (f9 i7 (f9 i7 (f9 i7 i6))))))) (dv 0)) i6)) (C5 (i:=3) nd) (i9 (m6 (i:=4) (J2 i6) nd)
   (i9 (M7 (F1 a (f9 (dv 0) i6)) (C5 (i:=5) nd) (k6 (G9 (L7 4 (dv 4) (f9 (cy (y0 (dv 5) i7) (nN (cy i7 (U7 (nP (dv 3) (p9 e (J2 (f9 i7 (f9 i7 (f9 i7 (f9 i7 (f9 i7 i6)))))) (nN (nN (dv 0) i7) (dv 5)))) i7)) i7)) i6)))))
   (k6 (E5 (Q1 (vy rfl c (f9 (O0 (ba [("_law_model",4)] ⟨⟨rfl,rfl,.inl rfl⟩,trivial⟩) (L5 (dv 1)) (λ_ _ _ _ _ _ _ _ _=>V1) (λ_ _ _ _ _ _ _ _ _=>(Ay rfl d (f9 (O0 (ba [("_law_model",1)] ⟨⟨rfl,rfl,.inl rfl⟩,trivial⟩) (L5 (dv 0)) (λ_ _ _ _ _ _ _ _ _=>V1) (λ_ _ _ _ _ _ _ _ _=>(Ei e (dv 0) (dv 1)))) i6)))) i6))) (k6 (G9 (L7 2 (dv 2) (f9 (du b (f9 (dv 4) i6)) i6)))) w5)))))
   (k6 (u2 (dv 2))))))
noncomputable abbrev bK:SM:=(X9 (hA (p6 (i3 N6 (aZ N1 (h7 3)) (h7 0))) (p6 (i3 N6 (h7 3) (h7 2)))) (F7 (D6 2 (g4 (h7 3) j4))) aq)
noncomputable abbrev dr:SM:=(k8 (n5 2 (N2 j4))
 (k8 (T6 (A3 (h7 1)) (y7 3) bK)
 (retS (h7 2))))
noncomputable def S5:List D→Option FR:=n8 dr 4 [f6,f6]
theorem ml:∀ds r,S5 ds=e9 r→n8 dr 4 [f6,f6] ds=e9 r:=λ_ _ h=>h
theorem oE (F:bc K "_law_open" "_law_open" cP f fd):
  x5 P w K mg base V2 1 f fd ["_law_true_ones","_law_clause_here"] (E3 K [f6,f6] (n8 dr 4 [f6,f6])):=
 have nd:=jb.nd
 M9 (k:=0) F jb rfl (λcdv A outer s H E H0 HK G0 L hr=>by
  have a:=fZ hr;exact(i9 (m6 (i:=2) (J2 i6) nd)
   (i9 (M7 (L5 (dv 1)) (C5 (i:=3) nd) (k6 (E5 ((w_and (cJ a (P0 (dv 3)) (dv 0)) (kn (cJ a (dv 3) (dv 2))))).pt (k6 (G9 (L7 2 (dv 2) (f9 (dv 3) i6)))) w5)))
   (k6 (u2 (dv 2))))))
noncomputable abbrev aH:SM:=(k8 (n5 6 (o8 [f6,f6] S5 (g4 (h7 2) (g4 (i3 u6 (h7 0) (h7 5)) j4))))
 (k8 (X9 (gY (T0 (h7 6))) (retS (i3 z7 (h7 3) (N2 (g4 (h7 5) j4)))) aq)
 (X9 (hA (p6 (i3 M4 (D2 V9 (g4 (h7 6) j4)) (mC (.int 1)))) (p6 (i3 N6 (i3 u6 (h7 6) (mC (.int 0))) (h7 2)))) (k8 (F7 (D6 2 (g4 (i3 u6 (h7 6) (mC (.int 0))) j4)))
 (F7 (D6 3 (g4 (h7 5) j4)))) aq)))
noncomputable abbrev eA:SM:=(T6 (A3 (D2 eP (g4 (h7 0) j4))) (y7 5) aH)
noncomputable abbrev bT:SM:=(k8 (n5 2 (D2 dI (g4 (h7 1) j4)))
 (k8 (n5 3 (N2 j4))
 (k8 (T6 (X7 ints1 (g4 (mC (.int 9)) j4)) (y7 4) eA)
 (retS (h7 3)))))
noncomputable def ah:List D→Option FR:=n8 bT 7 [f6,f6]
theorem kz:∀ds r,ah ds=e9 r→n8 bT 7 [f6,f6] ds=e9 r:=λ_ _ h=>h
theorem mD (F:bc K "_law_hints" "_law_hints" bi f fd) (d:mg "list"=f7) (c:mg "range"=f7) (b:mg "sorted"=f7) (e:mg "len"=f7)
  (a:eM P w K mg base 1 "_law_open" ["_law_true_ones","_law_clause_here"] (E3 K [f6,f6] S5)):
  x5 P w K mg base V2 2 f fd ["_law_table_here","_law_literals"] (E3 K [f6,f6] (n8 bT 7 [f6,f6])):=
 have nd:=gN.nd
 M9 (k:=1) F gN rfl (λcdv A outer s H E H0 HK G0 L hr=>by
  have g:=fZ hr;exact(i9 (m6 (i:=2) (ge rfl d (f9 (dv 1) i6)) nd)
   (i9 (m6 (i:=3) (J2 i6) nd)
   (i9 (M7 (F1 c (f9 i7 i6)) (C5 (i:=4) nd) (k6 (M7 (L5 (Aw rfl b (f9 (dv 0) i6))) (C5 (i:=5) nd) (i9 (m6 (i:=6) (p7 a (hr.mono (by decide)) (f9 (dv 2) (f9 (p9 g (dv 0) (dv 5)) i6))) nd)
   (i9 (E5 (dX (Q1 (dv 6))) (k6 (u2 (y0 (dv 3) (J2 (f9 (dv 5) i6))))) w5)
   (k6 (E5 ((w_and (bY g (Y3 e (f9 (dv 6) i6)) i7) (kn (cJ g (p9 g (dv 6) i7) (dv 2))))).pt (i9 (G9 (L7 2 (dv 2) (f9 (p9 g (dv 6) i7) i6)))
   (k6 (G9 (L7 3 (dv 3) (f9 (dv 5) i6))))) w5)))))))
   (k6 (u2 (dv 3)))))))
noncomputable abbrev W7:SM:=(k8 (X9 (p6 (i3 (U8 λi j=>decide (i<j)) (h7 4) (mC (.int 0)))) (retS (B5 (g4 (mC (.int 1)) (g4 (h7 3) j4)))) aq)
 (k8 (X9 (p6 (i3 N6 (h7 4) (h7 0))) (retS (B5 (g4 (mC (.int 0)) (g4 (h7 3) j4)))) aq)
 (k8 (n5 5 (o8 [f6,f6] S5 (g4 (h7 1) (g4 (i3 u6 (h7 0) (h7 4)) j4))))
 (k8 (n5 3 (i3 z7 (h7 3) (mC (.int 1))))
 (k8 (X9 (gY (T0 (h7 5))) (retS (B5 (g4 (mC (.int 2)) (g4 (h7 3) j4)))) aq)
 (k8 (X9 (rY (p6 (i3 (U8 λi j=>decide (j<i)) (D2 V9 (g4 (h7 5) j4)) (mC (.int 1)))) (p6 (i3 inD (i3 u6 (h7 5) (mC (.int 0))) (h7 1)))) (retS (B5 (g4 (mC (.int 0)) (g4 (h7 3) j4)))) aq)
 (F7 (D6 1 (g4 (i3 u6 (h7 5) (mC (.int 0))) j4)))))))))
noncomputable abbrev dn:SM:=(k8 (n5 3 (mC (.int 0)))
 (k8 (T6 (A3 (h7 2)) (y7 4) W7)
 (retS (B5 (g4 (mC (.int 1)) (g4 (h7 3) j4))))))
noncomputable def S4:List D→Option FR:=n8 dn 6 [f6,f8,f6]
theorem mh:∀ds r,S4 ds=e9 r→n8 dn 6 [f6,f8,f6] ds=e9 r:=λ_ _ h=>h
theorem oC (F:bc K "_law_walk" "_law_walk" cN f fd) (b:mg "len"=f7)
  (a:eM P w K mg base 1 "_law_open" ["_law_true_ones","_law_clause_here"] (E3 K [f6,f6] S5)):
  x5 P w K mg base V2 2 f fd ["_law_table_here","_law_true_ones","_law_hints_here"] (E3 K [f6,f8,f6] (n8 dn 6 [f6,f8,f6])):=
 have nd:=iZ.nd
 M9 (k:=1) F iZ rfl (λcdv A outer s H E H0 HK G0 L hr=>by
  have c:=fZ hr;exact(i9 (m6 (i:=3) i7 nd)
   (i9 (M7 (L5 (dv 2)) (C5 (i:=4) nd) (i9 (E5 (BG (dv 4) i7) (k6 (u2 (x3 (f9 i7 (f9 (dv 3) i6))))) w5)
   (i9 (E5 (cJ c (dv 4) (dv 0)) (k6 (u2 (x3 (f9 i7 (f9 (dv 3) i6))))) w5)
   (i9 (m6 (i:=5) (p7 a (hr.mono (by decide)) (f9 (dv 1) (f9 (p9 c (dv 0) (dv 4)) i6))) nd)
   (i9 (m6 (i:=3) (y0 (dv 3) i7) nd)
   (i9 (E5 (dX (Q1 (dv 5))) (k6 (u2 (x3 (f9 i7 (f9 (dv 3) i6))))) w5)
   (i9 (E5 ((w_or (EO (Y3 b (f9 (dv 5) i6)) i7) (km (on c (p9 c (dv 5) i7) (dv 1))))).pt (k6 (u2 (x3 (f9 i7 (f9 (dv 3) i6))))) w5)
   (k6 (G9 (L7 1 (dv 1) (f9 (p9 c (dv 5) i7) i6)))))))))))
   (k6 (u2 (x3 (f9 i7 (f9 (dv 3) i6))))))))
noncomputable abbrev Z0:SM:=(k8 (X9 (T0 (D2 ub (g4 (B9 (A3 (h7 1)) (y7 0) F5 (i3 inD (aZ N1 (h7 0)) (h7 1)) 1 [1]) j4))) (retS (mC (.bl f8))) aq)
 (k8 (n5 3 (B9 (A3 (h7 1)) (y7 0) F5 (aZ N1 (h7 0)) 1 []))
 (k8 (n5 4 (o8 [f6,f8,f6] S4 (g4 (h7 0) (g4 (h7 3) (g4 (h7 2) j4)))))
 (k8 (X9 (rY (p6 (i3 iI (i3 u6 (h7 4) (mC (.int 0))) (mC (.int 1)))) (p6 (i3 M4 (h7 1) (B5 j4)))) (retS (i3 M4 (i3 u6 (h7 4) (mC (.int 0))) (mC (.int 2)))) aq)
 (k8 cK
 (k8 cK
 (k8 cK
 (k8 cK
 cK))))))))
noncomputable def T9:List D→Option FR:=n8 Z0 8 [f6,f6,f6]
theorem iE:∀ds r,T9 ds=e9 r→n8 Z0 8 [f6,f6,f6] ds=e9 r:=λ_ _ h=>h
theorem jF (F:bc K "_law_follows" "_law_follows" W5 f fd) (b:mg "any"=f7)
  (a:eM P w K mg base 2 "_law_walk" ["_law_table_here","_law_true_ones","_law_hints_here"] (E3 K [f6,f8,f6] S4)):
  x5 P w K mg base V2 3 f fd ["_law_table_here","_law_clause_here","_law_hints_here"] (E3 K [f6,f6,f6] (n8 Z0 8 [f6,f6,f6])):=
 have nd:=eh.nd
 M9 (k:=2) F eh rfl (λcdv A outer s H E H0 HK G0 L hr=>by
  have c:=fZ hr;exact(i9 (E5 (Q1 (Ay rfl b (f9 (O0 (ba [("_law_clause_here",1)] ⟨⟨rfl,rfl,.inl rfl⟩,trivial⟩) (L5 (dv 1)) (λ_ _ _ _ _ _ _ _ _=>V1) (λ_ _ _ _ _ _ _ _ _=>(Ei c (P0 (dv 0)) (dv 1)))) i6))) (k6 (u2 aR)) w5)
   (i9 (m6 (i:=3) (O0 (ba [] trivial) (L5 (dv 1)) (λ_ _ _ _ _ _ _ _ _=>V1) (λ_ _ _ _ _ _ _ _ _=>(P0 (dv 0)))) nd)
   (i9 (m6 (i:=4) (p7 a (hr.mono (by decide)) (f9 (dv 0) (f9 (dv 3) (f9 (dv 2) i6)))) nd)
   (i9 (E5 ((w_or (mR c (p9 c (dv 4) i7) i7) (km (bY c (dv 1) (x3 i6))))).pt (k6 (u2 (nO c (p9 c (dv 4) i7) i7))) w5)
   (i9 bh
   (i9 bh
   (i9 bh
   (i9 bh
   (k6 bh))))))))))
noncomputable abbrev Y9:SM:=(dR 2 (i3 u6 (i3 u6 (h7 0) (mC (.int 1))) (h7 3)) (i3 z7 (h7 3) (mC (.int 1))))
noncomputable abbrev jH:SM:=(F7 (FV 2 (h7 6) (mC .v1)))
noncomputable abbrev Y8:SM:=(k8 (n5 5 (i3 u6 (h7 1) (h7 3)))
 (X9 (p6 (i3 M4 (i3 u6 (h7 5) (mC (.int 0))) (mC (.str [100,114,111,112])))) (T6 (A3 (i3 u6 (h7 5) (mC (.int 1)))) (y7 6) jH) (k8 (n5 7 (nr (i3 (U8 λi j=>decide (j<i)) (i3 u6 (h7 5) (mC (.int 1))) (h7 4)) (D2 uc (g4 (B9 (A3 (i3 u6 (h7 5) (mC (.int 2)))) (y7 0) F5 (i3 (U8 λi j=>decide (i≤j)) (D2 Q9 (g4 (h7 0) j4)) (i3 u6 (h7 1) (mC (.int 0)))) 1 [0]) j4))))
 (k8 (X9 (rY (gY (T0 (h7 7))) (gY (T0 (o8 [f6,f6,f6] T9 (g4 (h7 2) (g4 (i3 u6 (h7 5) (mC (.int 2))) (g4 (D2 dI (g4 (i3 u6 (h7 5) (mC (.int 3))) j4)) j4))))))) (retS (B5 (g4 (h7 3) (g4 (mC (.bl f6)) j4)))) aq)
 (k8 (n5 4 (i3 u6 (h7 5) (mC (.int 1))))
 (k8 (dR 2 (i3 u6 (h7 5) (mC (.int 2))) (h7 4))
 (X9 (p6 (i3 M4 (i3 u6 (h7 5) (mC (.int 2))) (B5 j4))) (retS (B5 (g4 (aZ N1 (mC (.int 1))) (g4 (mC (.bl f8)) j4)))) aq)))))))
noncomputable abbrev aP:SM:=(k8 (n5 2 gZ)
 (k8 (T6 (X7 ints1 (g4 (D2 V9 (g4 (i3 u6 (h7 0) (mC (.int 1))) j4)) j4)) (y7 3) Y9)
 (k8 (n5 4 (D2 V9 (g4 (i3 u6 (h7 0) (mC (.int 1))) j4)))
 (k8 (T6 (X7 ints1 (g4 (D2 V9 (g4 (h7 1) j4)) j4)) (y7 3) Y8)
 (retS (B5 (g4 (aZ N1 (mC (.int 1))) (g4 (mC (.bl f6)) j4))))))))
noncomputable def Q6:List D→Option FR:=n8 aP 8 [f6,f6]
theorem jA:∀ds r,Q6 ds=e9 r→n8 aP 8 [f6,f6] ds=e9 r:=λ_ _ h=>h
theorem kL (F:bc K "_law_played" "_law_played" Z8 f fd) (c:mg "range"=f7) (d:mg "len"=f7) (g:mg "all"=f7) (h:mg "abs"=f7) (e:mg "list"=f7)
  (a:eM P w K mg base 3 "_law_follows" ["_law_table_here","_law_clause_here","_law_hints_here"] (E3 K [f6,f6,f6] T9)):
  x5 P w K mg base V2 4 f fd ["_law_formula_here","_law_steps_here"] (E3 K [f6,f6] (n8 aP 8 [f6,f6])):=
 have nd:=fG.nd
 M9 (k:=3) F fG rfl (λcdv A outer s H E H0 HK G0 L hr=>by
  have b:=fZ hr;exact(i9 (m6 (i:=2) iQ nd)
   (i9 (M7 (F1 c (f9 (Y3 d (f9 (p9 b (dv 0) i7) i6)) i6)) (C5 (i:=3) nd) (k6 (cb 2 b (p9 b (p9 b (dv 0) i7) (dv 3)) (dv 2) (y0 (dv 3) i7))))
   (i9 (m6 (i:=4) (Y3 d (f9 (p9 b (dv 0) i7) i6)) nd)
   (i9 (M7 (F1 c (f9 (Y3 d (f9 (dv 1) i6)) i6)) (C5 (i:=3) nd) (i9 (m6 (i:=5) (p9 b (dv 1) (dv 3)) nd)
   (k6 (E5 (bY b (p9 b (dv 5) i7) (dw (cs:=[100,114,111,112]) (by decide +kernel))) (k6 (M7 (L5 (p9 b (dv 5) i7)) (C5 (i:=6) nd) (k6 (G9 (vx 2 (dv 2) (dv 6) rA))))) (i9 (m6 (i:=7) (Ek (GH (p9 b (dv 5) i7) (dv 4)) (Eh (vy rfl g (f9 (O0 (ba [("_law_formula_here",0)] ⟨⟨rfl,rfl,.inl rfl⟩,trivial⟩) (L5 (p9 b (dv 5) i7)) (λ_ _ _ _ _ _ _ _ _=>V1) (λ_ _ _ _ _ _ _ _ _=>(KX (dN h (f9 (dv 0) i6)) (p9 b (dv 1) i7)))) i6)))) nd)
   (i9 (E5 ((w_or (dX (Q1 (dv 7))) (km (dX (Q1 (p7 a (hr.mono (by decide)) (f9 (dv 2) (f9 (p9 b (dv 5) i7) (f9 (ge rfl e (f9 (p9 b (dv 5) i7) i6)) i6))))))))).pt (k6 (u2 (x3 (f9 (dv 3) (f9 aR i6))))) w5)
   (i9 (m6 (i:=4) (p9 b (dv 5) i7) nd)
   (i9 (cb 2 b (p9 b (dv 5) i7) (dv 2) (dv 4))
   (k6 (E5 (bY b (p9 b (dv 5) i7) (x3 i6)) (k6 (u2 (x3 (f9 (P0 i7) (f9 aR i6))))) w5))))))))))
   (k6 (u2 (x3 (f9 (P0 i7) (f9 aR i6))))))))))
noncomputable abbrev bJ:SM:=(dR 1 (i3 u6 (i3 u6 (h7 0) (mC (.int 1))) (h7 2)) (i3 z7 (h7 2) (mC (.int 1))))
noncomputable abbrev bI:SM:=(k8 (n5 6 (B9 (X7 ints1 (g4 (h7 4) j4)) (y7 0) F5 (i3 lY (mC (.int 1)) (i3 bG (mC (.int 2)) (i3 S9 (i3 lF (h7 1) (i3 u6 (N2 (g4 (mC (.int 1)) (g4 (mC (.int 2)) (g4 (mC (.int 4)) (g4 (mC (.int 8)) j4))))) (h7 0))) (mC (.int 2))))) 1 [5]))
 (k8 (n5 7 (D2 cI (g4 (B9 (X7 ints1 (g4 (h7 4) j4)) (y7 0) F5 (i3 bG (i3 z7 (h7 0) (mC (.int 1))) (i3 u6 (h7 1) (h7 0))) 1 [6]) j4)))
 (k8 (n5 8 (B9 (A3 (h7 7)) (y7 0) F5 (aZ N1 (h7 0)) 1 []))
 (k8 (n5 9 (o8 [f6,f6] ah (g4 (h7 1) (g4 (h7 8) j4))))
 (X9 (p6 (i3 M4 (i3 u6 (o8 [f6,f8,f6] S4 (g4 (h7 1) (g4 (h7 8) (g4 (h7 9) j4)))) (mC (.int 0))) (mC (.int 2)))) (k8 (n5 10 (i3 z7 (i3 z7 (D2 V9 (g4 (i3 u6 (h7 0) (mC (.int 1))) j4)) (D2 V9 (g4 (h7 3) j4))) (mC (.int 1))))
 (k8 (F7 (D6 3 (g4 (B5 (g4 (mC (.str [97,100,100])) (g4 (h7 10) (g4 (h7 7) (g4 (D2 cI (g4 (h7 9) j4)) j4))))) j4)))
 (dR 1 (h7 7) (h7 10)))) aq)))))
noncomputable abbrev bH:SM:=(T6 (X7 ints1 (g4 (i3 u6 (N2 (g4 (mC (.int 1)) (g4 (mC (.int 2)) (g4 (mC (.int 4)) (g4 (mC (.int 8)) (g4 (mC (.int 16)) j4)))))) (h7 4)) j4)) (y7 5) bI)
noncomputable abbrev dq:SM:=(k8 (n5 1 gZ)
 (k8 (T6 (X7 ints1 (g4 (D2 V9 (g4 (i3 u6 (h7 0) (mC (.int 1))) j4)) j4)) (y7 2) bJ)
 (k8 (n5 3 (N2 j4))
 (k8 (T6 (X7 tt (g4 (i3 u6 (h7 0) (mC (.int 0))) (g4 (aZ N1 (mC (.int 1))) (g4 (aZ N1 (mC (.int 1))) j4)))) (y7 4) bH)
 (retS (h7 3))))))
noncomputable def bn:List D→Option FR:=n8 dq 11 [f6]
theorem mj:∀ds r,bn ds=e9 r→n8 dq 11 [f6] ds=e9 r:=λ_ _ h=>h
theorem oD (F:bc K "_law_sure" "_law_sure" cO f fd) (a:mg "range"=f7) (e:mg "len"=f7) (c:mg "tuple"=f7)
  (b:eM P w K mg base 2 "_law_hints" ["_law_table_here","_law_literals"] (E3 K [f6,f6] ah))
  (d:eM P w K mg base 2 "_law_walk" ["_law_table_here","_law_true_ones","_law_hints_here"] (E3 K [f6,f8,f6] S4)):
  x5 P w K mg base V2 3 f fd ["_law_formula_here"] (E3 K [f6] (n8 dq 11 [f6])):=
 have nd:=ja.nd
 M9 (k:=2) F ja rfl (λcdv A outer s H E H0 HK G0 L hr=>by
  have g:=fZ hr;exact(i9 (m6 (i:=1) iQ nd)
   (i9 (M7 (F1 a (f9 (Y3 e (f9 (p9 g (dv 0) i7) i6)) i6)) (C5 (i:=2) nd) (k6 (cb 1 g (p9 g (p9 g (dv 0) i7) (dv 2)) (dv 1) (y0 (dv 2) i7))))
   (i9 (m6 (i:=3) (J2 i6) nd)
   (i9 (M7 (wZ a (f9 (p9 g (dv 0) i7) (f9 (P0 i7) (f9 (P0 i7) i6)))) (C5 (i:=4) nd) (k6 (M7 (F1 a (f9 (p9 g (J2 (f9 i7 (f9 i7 (f9 i7 (f9 i7 (f9 i7 i6)))))) (dv 4)) i6)) (C5 (i:=5) nd) (i9 (m6 (i:=6) (O0 (ba [("_law_number",5)] ⟨⟨rfl,rfl,.inl rfl⟩,trivial⟩) (F1 a (f9 (dv 4) i6)) (λ_ _ _ _ _ _ _ _ _=>V1) (λ_ _ _ _ _ _ _ _ _=>(nN i7 (cy i7 (U7 (nP (dv 1) (p9 g (J2 (f9 i7 (f9 i7 (f9 i7 (f9 i7 i6))))) (dv 0))) i7))))) nd)
   (i9 (m6 (i:=7) (du c (f9 (O0 (ba [("_law_signs",6)] ⟨⟨rfl,rfl,.inl rfl⟩,trivial⟩) (F1 a (f9 (dv 4) i6)) (λ_ _ _ _ _ _ _ _ _=>V1) (λ_ _ _ _ _ _ _ _ _=>(cy (y0 (dv 0) i7) (p9 g (dv 1) (dv 0))))) i6)) nd)
   (i9 (kJ (i:=8) (ba [] trivial) nd (L5 (dv 7)) (λ_ _ _ _ _ _ _ _ _=>V1) (λ_ _ _ _ _ _ _ _ _=>(P0 (dv 0))))
   (i9 (m6 (i:=9) (p7 b (hr.mono (by decide)) (f9 (dv 1) (f9 (dv 8) i6))) nd)
   (k6 (E5 (bY g (p9 g (p7 d (hr.mono (by decide)) (f9 (dv 1) (f9 (dv 8) (f9 (dv 9) i6)))) i7) i7) (i9 (m6 (i:=10) (y0 (y0 (Y3 e (f9 (p9 g (dv 0) i7) i6)) (Y3 e (f9 (dv 3) i6))) i7) nd)
   (i9 (G9 (L7 3 (dv 3) (f9 (x3 (f9 (dw (cs:=[97,100,100]) (by decide +kernel)) (f9 (dv 10) (f9 (dv 7) (f9 (du c (f9 (dv 9) i6)) i6))))) i6)))
   (k6 (cb 1 g (dv 7) (dv 1) (dv 10))))) w5)))))))))
   (k6 (u2 (dv 3))))))))
noncomputable abbrev bL:SM:=(k8 (n5 4 (B9 (X7 ints1 (g4 (mC (.int 3)) j4)) (y7 0) F5 (i3 bG (i3 z7 (mC (.int 1)) (h7 0)) (i3 lY (mC (.int 1)) (i3 bG (mC (.int 2)) (i3 S9 (i3 lF (h7 1) (i3 u6 (N2 (g4 (mC (.int 1)) (g4 (mC (.int 2)) (g4 (mC (.int 4)) j4)))) (h7 0))) (mC (.int 2)))))) 1 [3]))
 (k8 (n5 5 (i3 S9 (o8 [f6,f6] u4 (g4 (h7 0) (g4 (i3 z7 (i3 z7 (h7 1) (mC (.int 2))) (h7 3)) j4))) (mC (.int 3))))
 (F7 (kb 2 (g4 (i3 S9 (o8 [f6,f6] u4 (g4 (h7 0) (g4 (i3 z7 (h7 1) (mC (.int 3))) j4))) (i3 z7 (D2 V9 (g4 (h7 2) j4)) (mC (.int 1)))) (g4 (D2 cI (g4 (i3 z7 (Bj (h7 4) (fJ (h7 5)) (M.pure f7)) (Bj (h7 4) (M.pure f7) (fJ (h7 5)))) j4)) j4))))))
noncomputable abbrev fK:SM:=(k8 (n5 7 (i3 z7 (mC (.int 1)) (i3 S9 (o8 [f6,f6] u4 (g4 (h7 0) (g4 (i3 z7 (h7 1) (i3 bG (mC (.int 3)) (h7 6))) j4))) (mC (.int 3)))))
 (k8 (n5 8 (i3 z7 (mC (.int 2)) (i3 S9 (o8 [f6,f6] u4 (g4 (h7 0) (g4 (i3 z7 (i3 z7 (h7 1) (mC (.int 2))) (h7 6)) j4))) (mC (.int 11)))))
 (k8 (n5 2 (B9 (X7 ints1 (g4 (h7 8) j4)) (y7 0) F5 (o8 [f6,f6,f6,f6] Q7 (g4 (h7 1) (g4 (i3 z7 (i3 z7 (i3 z7 (h7 2) (mC (.int 4))) (i3 bG (mC (.int 5)) (h7 0))) (h7 3)) (g4 (h7 4) (g4 (mC (.int 3)) j4))))) 1 [0,1,6,7]))
 (X9 (gY (T0 (o8 [f6,f6] W8 (g4 (h7 7) (g4 (h7 2) j4))))) (retS (B5 (g4 (h7 7) (g4 (h7 2) j4)))) aq))))
noncomputable abbrev dt:SM:=(k8 (X9 (p6 (i3 M4 (i3 S9 (o8 [f6,f6] u4 (g4 (h7 0) (g4 (i3 z7 (h7 1) (mC (.int 1))) j4))) (mC (.int 4))) (mC (.int 0)))) (k8 (n5 2 (N2 j4))
 (k8 (T6 (X7 ints1 (g4 (mC (.int 8)) j4)) (y7 3) bL)
 (retS (B5 (g4 (mC (.int 3)) (g4 (h7 2) j4)))))) aq)
 (k8 (T6 (X7 ints1 (g4 (mC (.int 6)) j4)) (y7 6) fK)
 (retS (B5 (g4 (mC (.int 2)) (g4 (N2 (g4 (B5 (g4 (mC (.int 1)) (g4 (mC (.int 2)) j4))) (g4 (B5 (g4 (aZ N1 (mC (.int 1))) (g4 (mC (.int 2)) j4))) (g4 (B5 (g4 (mC (.int 1)) (g4 (aZ N1 (mC (.int 2))) j4))) (g4 (B5 (g4 (aZ N1 (mC (.int 1))) (g4 (aZ N1 (mC (.int 2))) j4))) j4))))) j4))))))
noncomputable def bo:List D→Option FR:=n8 dt 9 [f6,f6]
theorem mn:∀ds r,bo ds=e9 r→n8 dt 9 [f6,f6] ds=e9 r:=λ_ _ h=>h
theorem oF (F:bc K "_law_none" "_law_none" cQ f fd) (b:mg "range"=f7) (g:mg "len"=f7) (e:mg "tuple"=f7)
  (a:eM P w K mg base 2 "_law_mix" ["_law_script","_law_k"] (E3 K [f6,f6] u4))
  (c:eM P w K mg base 3 "_law_clause" ["_law_script","_law_base","_law_variables","_law_most"] (E3 K [f6,f6,f6,f6] Q7))
  (d:eM P w K mg base 1 "_law_models" ["_law_variables","_law_clauses"] (E3 K [f6,f6] W8)):
  x5 P w K mg base V2 4 f fd ["_law_script","_law_base"] (E3 K [f6,f6] (n8 dt 9 [f6,f6])):=
 have nd:=jc.nd
 M9 (k:=3) F jc rfl (λcdv A outer s H E H0 HK G0 L hr=>by
  have h:=fZ hr;exact(i9 (E5 (bY h (U7 (p7 a (hr.mono (by decide)) (f9 (dv 0) (f9 (y0 (dv 1) i7) i6))) i7) i7) (i9 (m6 (i:=2) (J2 i6) nd)
   (i9 (M7 (F1 b (f9 i7 i6)) (C5 (i:=3) nd) (i9 (kJ (i:=4) (ba [("_law_number",3)] ⟨⟨rfl,rfl,.inl rfl⟩,trivial⟩) nd (F1 b (f9 i7 i6)) (λ_ _ _ _ _ _ _ _ _=>V1) (λ_ _ _ _ _ _ _ _ _=>(cy (y0 i7 (dv 0)) (nN i7 (cy i7 (U7 (nP (dv 1) (p9 h (J2 (f9 i7 (f9 i7 (f9 i7 i6)))) (dv 0))) i7))))))
   (i9 (m6 (i:=5) (U7 (p7 a (hr.mono (by decide)) (f9 (dv 0) (f9 (y0 (y0 (dv 1) i7) (dv 3)) i6))) i7) nd)
   (k6 (G9 (Ax 2 (dv 2) (f9 (U7 (p7 a (hr.mono (by decide)) (f9 (dv 0) (f9 (y0 (dv 1) i7) i6))) (y0 (Y3 g (f9 (dv 2) i6)) i7)) (f9 (du e (f9 (y0 (xy (dv 4) (iG (dv 5)) iH) (xy (dv 4) iH (iG (dv 5)))) i6)) i6))))))))
   (k6 (u2 (x3 (f9 i7 (f9 (dv 2) i6))))))) w5)
   (i9 (M7 (F1 b (f9 i7 i6)) (C5 (i:=6) nd) (i9 (m6 (i:=7) (y0 i7 (U7 (p7 a (hr.mono (by decide)) (f9 (dv 0) (f9 (y0 (dv 1) (cy i7 (dv 6))) i6))) i7)) nd)
   (i9 (m6 (i:=8) (y0 i7 (U7 (p7 a (hr.mono (by decide)) (f9 (dv 0) (f9 (y0 (y0 (dv 1) i7) (dv 6)) i6))) i7)) nd)
   (i9 (kJ (i:=2) (ba [("_law_script",0),("_law_base",1),("_law_k",6),("_law_variables",7)] ⟨⟨rfl,rfl,.inl rfl⟩,⟨⟨rfl,rfl,.inl rfl⟩,⟨⟨rfl,rfl,.inl rfl⟩,⟨⟨rfl,rfl,.inl rfl⟩,trivial⟩⟩⟩⟩) nd (F1 b (f9 (dv 8) i6)) (λ_ _ _ _ _ _ _ _ _=>V1) (λ_ _ _ _ _ _ _ _ _=>(p7 c (hr.mono (by decide)) (f9 (dv 1) (f9 (y0 (y0 (y0 (dv 2) i7) (cy i7 (dv 0))) (dv 3)) (f9 (dv 4) (f9 i7 i6)))))))
   (k6 (E5 (dX (Q1 (p7 d (hr.mono (by decide)) (f9 (dv 7) (f9 (dv 2) i6))))) (k6 (u2 (x3 (f9 (dv 7) (f9 (dv 2) i6))))) w5))))))
   (k6 (u2 (x3 (f9 i7 (f9 (J2 (f9 (x3 (f9 i7 (f9 i7 i6))) (f9 (x3 (f9 (P0 i7) (f9 i7 i6))) (f9 (x3 (f9 i7 (f9 (P0 i7) i6))) (f9 (x3 (f9 (P0 i7) (f9 (P0 i7) i6))) i6))))) i6))))))))
noncomputable abbrev Y7:SM:=(X9 (p6 (i3 (U8 λi j=>decide (i<j)) (h7 4) (i3 u6 (h7 3) (mC (.int 1))))) (dR 2 (mC (.bl f8)) (h7 4)) aq)
noncomputable abbrev dE:SM:=(X9 (rY (p6 (i3 M4 (i3 u6 (h7 3) (mC (.int 2))) (B5 j4))) (p6 (i3 inD (i3 u6 (h7 3) (mC (.int 1))) (h7 2)))) (k8 (n5 1 (i3 z7 (N2 (g4 (h7 3) j4)) (h7 1)))
 (k8 (dR 2 (mC (.bl f8)) (i3 u6 (h7 3) (mC (.int 1))))
 (T6 (A3 (i3 u6 (h7 3) (mC (.int 3)))) (y7 4) Y7))) aq)
noncomputable abbrev aO:SM:=(k8 (n5 1 (N2 j4))
 (k8 (n5 2 gZ)
 (k8 (T6 (sW (g4 (h7 0) j4)) (y7 3) dE)
 (retS (h7 1)))))
noncomputable def Q5:List D→Option FR:=n8 aO 5 [f6]
theorem jz:∀ds r,Q5 ds=e9 r→n8 aO 5 [f6] ds=e9 r:=λ_ _ h=>h
theorem kK (F:bc K "_law_wanted" "_law_wanted" Z7 f fd) (a:mg "reversed"=f7):
  x5 P w K mg base V2 1 f fd ["_law_steps_here"] (E3 K [f6] (n8 aO 5 [f6])):=
 have nd:=fF.nd
 M9 (k:=0) F fF rfl (λcdv A outer s H E H0 HK G0 L hr=>by
  have b:=fZ hr;exact(i9 (m6 (i:=1) (J2 i6) nd)
   (i9 (m6 (i:=2) iQ nd)
   (i9 (M7 (zV a (f9 (dv 0) i6)) (C5 (i:=3) nd) (k6 (E5 ((w_or (bY b (p9 b (dv 3) i7) (x3 i6)) (km (on b (p9 b (dv 3) i7) (dv 2))))).pt (i9 (m6 (i:=1) (y0 (J2 (f9 (dv 3) i6)) (dv 1)) nd)
   (i9 (cb 2 b aR (dv 2) (p9 b (dv 3) i7))
   (k6 (M7 (L5 (p9 b (dv 3) i7)) (C5 (i:=4) nd) (k6 (E5 (BG (dv 4) (p9 b (dv 3) i7)) (k6 (cb 2 b aR (dv 2) (dv 4))) w5)))))) w5)))
   (k6 (u2 (dv 1)))))))
noncomputable abbrev aj:SM:=(retS (D2 uL (g4 (h7 0) j4)))
noncomputable def N8:List D→Option FR:=n8 aj 1 [f6]
theorem lZ:∀ds r,N8 ds=e9 r→n8 aj 1 [f6] ds=e9 r:=λ_ _ h=>h
theorem oB (F:bc K "numbered" "numbered" cM f fd) (b:mg "dict"=f7) (a:mg "enumerate"=f7):
  x5 P w K mg base V2 1 f fd ["clauses"] (E3 K [f6] (n8 aj 1 [f6])):=
 have nd:=iY.nd
 M9 (k:=0) F iY rfl (λcdv A outer s H E H0 HK G0 L hr=>by
  have c:=fZ hr;exact(k6 (u2 (tS rfl b a (f9 (dv 0) i6)))))
noncomputable abbrev X1:SM:=(retS (D2 aN (g4 (B9 (A3 (h7 0)) (y7 0) F5 (B5 (g4 (D2 Q9 (g4 (h7 0) j4)) (g4 (h7 0) j4))) 1 []) j4)))
noncomputable def K6:List D→Option FR:=n8 X1 1 [f6]
theorem kx:∀ds r,K6 ds=e9 r→n8 X1 1 [f6] ds=e9 r:=λ_ _ h=>h
theorem mz (F:bc K "truths_of" "truths_of" bf f fd) (a:mg "dict"=f7) (b:mg "abs"=f7):
  x5 P w K mg base V2 1 f fd ["literals"] (E3 K [f6] (n8 X1 1 [f6])):=
 have nd:=gL.nd
 M9 (k:=0) F gL rfl (λcdv A outer s H E H0 HK G0 L hr=>by
  have c:=fZ hr;exact(k6 (u2 (kh rfl a (f9 (O0 (ba [] trivial) (L5 (dv 0)) (λ_ _ _ _ _ _ _ _ _=>V1) (λ_ _ _ _ _ _ _ _ _=>(x3 (f9 (dN b (f9 (dv 0) i6)) (f9 (dv 0) i6))))) i6)))))
noncomputable abbrev jn:SM:=(X9 (p6 (i3 iI (qN (h7 0) (D2 Q9 (g4 (h7 3) j4))) (aZ N1 (h7 3)))) (dR 2 (mC (.bl f8)) (h7 3)) aq)
noncomputable abbrev dm:SM:=(k8 (n5 2 gZ)
 (k8 (T6 (A3 (h7 1)) (y7 3) jn)
 (retS (D2 dI (g4 (h7 2) j4)))))
noncomputable def W0:List D→Option FR:=n8 dm 4 [f6,f6]
theorem qj:∀ds r,W0 ds=e9 r→n8 dm 4 [f6,f6] ds=e9 r:=λ_ _ h=>h
theorem sA (F:bc K "opened" "opened" gQ f fd) (b:mg "abs"=f7) (a:mg "list"=f7):
  x5 P w K mg base V2 1 f fd ["truths","clause"] (E3 K [f6,f6] (n8 dm 4 [f6,f6])):=
 have nd:=ng.nd
 M9 (k:=0) F ng rfl (λcdv A outer s H E H0 HK G0 L hr=>by
  have c:=fZ hr;exact(i9 (m6 (i:=2) iQ nd)
   (i9 (M7 (L5 (dv 1)) (C5 (i:=3) nd) (k6 (E5 (mR c (tT c (dv 0) (dN b (f9 (dv 3) i6))) (P0 (dv 3))) (k6 (cb 2 c aR (dv 2) (dv 3))) w5)))
   (k6 (u2 (ge rfl a (f9 (dv 2) i6)))))))
noncomputable abbrev jl:SM:=(k8 (n5 5 (o8 [f6,f6] W0 (g4 (h7 1) (g4 (i3 u6 (h7 0) (h7 4)) j4))))
 (k8 (X9 (p6 (i3 M4 (h7 5) (N2 j4))) (retS (h7 4)) aq)
 (X9 (hA (p6 (i3 M4 (D2 V9 (g4 (h7 5) j4)) (mC (.int 1)))) (p6 (i3 N6 (D2 Q9 (g4 (i3 u6 (h7 5) (mC (.int 0))) j4)) (h7 1)))) (k8 (dR 1 (i3 u6 (h7 5) (mC (.int 0))) (D2 Q9 (g4 (i3 u6 (h7 5) (mC (.int 0))) j4)))
 (k8 (dR 2 (h7 4) (D2 Q9 (g4 (i3 u6 (h7 5) (mC (.int 0))) j4)))
 (n5 3 (mC (.bl f8))))) aq)))
noncomputable abbrev jk:SM:=(k8 (n5 3 (mC (.bl f6)))
 (T6 (nq 0) (y7 4) jl))
noncomputable abbrev dj:SM:=(k8 (n5 3 (mC (.bl f8)))
 (k8 (C3 (T0 (h7 3)) jk 100)
 (retS (mC .v1))))
noncomputable def au:List D→Option FR:=zc 0 (jf dj 6 [f6,f8,f8] 0)
theorem qh:∀ds r,au ds=e9 r→jf dj 6 [f6,f8,f8] 0 ds=e9 r:=λ_ _ h=>(kU h).2
theorem tR:∀ds r,au ds=e9 r→∃es,ds[0]?=e9 (.dct es):=λ_ _ h=>(kU h).1
theorem sx (F:bc K "spread" "spread" gO f fd) (d:mg "len"=f7) (a:mg "abs"=f7)
  (b:eM P w K mg base 1 "opened" ["truths","clause"] (E3 K [f6,f6] W0)):
  x5 P w K mg base V2 2 f fd ["table","truths","reasons"] (ue K [f6,f8,f8] 0 (jf dj 6 [f6,f8,f8] 0)):=
 have nd:=na.nd
 Gv (k:=1) F na rfl rfl (λcdv A outer s H E H0 HK G0 L hr=>by
  have c:=fZ hr;exact(i9 (m6 (i:=3) aR nd)
   (i9 (oA 100 (Q1 (dv 3)) (i9 (m6 (i:=3) aR nd)
   (k6 (M7 (Gp 0) (C5 (i:=4) nd) (i9 (m6 (i:=5) (p7 b (hr.mono (by decide)) (f9 (dv 1) (f9 (p9 c (dv 0) (dv 4)) i6))) nd)
   (i9 (E5 (bY c (dv 5) (J2 i6)) (k6 (u2 (dv 4))) w5)
   (k6 (E5 ((w_and (bY c (Y3 d (f9 (dv 5) i6)) i7) (kn (cJ c (dN a (f9 (p9 c (dv 5) i7) i6)) (dv 1))))).pt (i9 (cb 1 c (p9 c (dv 5) i7) (dv 1) (dN a (f9 (p9 c (dv 5) i7) i6)))
   (i9 (cb 2 c (dv 4) (dv 2) (dN a (f9 (p9 c (dv 5) i7) i6)))
   (k6 (m6 (i:=3) aR nd)))) w5))))))))
   (k6 (u2 rA)))))
noncomputable abbrev hB:SM:=(X9 (hA (p6 (i3 inD (h7 7) (h7 5))) (p6 (i3 inD (h7 7) (h7 3)))) (k8 (F7 (D6 6 (g4 (i3 u6 (h7 3) (h7 7)) j4)))
 (F7 (gX 5 (g4 (D2 aN (g4 (B9 (A3 (i3 u6 (h7 0) (i3 u6 (h7 3) (h7 7)))) (y7 0) F5 (B5 (g4 (D2 Q9 (g4 (h7 0) j4)) (g4 (mC (.bl f8)) j4))) 1 []) j4)) j4)))) aq)
noncomputable abbrev bt:SM:=(k8 (n5 5 (D2 aN (g4 (B9 (A3 (i3 u6 (h7 0) (h7 4))) (y7 0) F5 (B5 (g4 (D2 Q9 (g4 (h7 0) j4)) (g4 (mC (.bl f8)) j4))) 1 []) j4)))
 (k8 (n5 6 (N2 (g4 (h7 4) j4)))
 (k8 (T6 (sW (g4 (D2 dI (g4 (h7 2) j4)) j4)) (y7 7) hB)
 (k8 (n5 8 (B9 (A3 (h7 1)) (y7 0) (p6 (i3 inD (D2 Q9 (g4 (h7 0) j4)) (h7 1))) (aZ N1 (h7 0)) 1 [5]))
 (retS (B5 (g4 (mC (.str [97,100,100])) (g4 (i3 z7 (D2 V9 (g4 (h7 0) j4)) (mC (.int 1))) (g4 (D2 cI (g4 (h7 8) j4)) (g4 (D2 jS (g4 (h7 6) j4)) j4))))))))))
noncomputable def aL:List D→Option FR:=n8 bt 9 [f6,f6,f6,f6,f6]
theorem ou:∀ds r,aL ds=e9 r→n8 bt 9 [f6,f6,f6,f6,f6] ds=e9 r:=λ_ _ h=>h
theorem qt (F:bc K "learned" "learned" eS f fd) (d:mg "dict"=f7) (c:mg "abs"=f7) (a:mg "reversed"=f7) (e:mg "list"=f7) (g:mg "len"=f7) (b:mg "tuple"=f7):
  x5 P w K mg base V2 1 f fd ["table","chosen","truths","reasons","conflict"] (E3 K [f6,f6,f6,f6,f6] (n8 bt 9 [f6,f6,f6,f6,f6])):=
 have nd:=kG.nd
 M9 (k:=0) F kG rfl (λcdv A outer s H E H0 HK G0 L hr=>by
  have h:=fZ hr;exact(i9 (m6 (i:=5) (kh rfl d (f9 (O0 (ba [] trivial) (L5 (p9 h (dv 0) (dv 4))) (λ_ _ _ _ _ _ _ _ _=>V1) (λ_ _ _ _ _ _ _ _ _=>(x3 (f9 (dN c (f9 (dv 0) i6)) (f9 aR i6))))) i6)) nd)
   (i9 (m6 (i:=6) (J2 (f9 (dv 4) i6)) nd)
   (i9 (M7 (zV a (f9 (ge rfl e (f9 (dv 2) i6)) i6)) (C5 (i:=7) nd) (k6 (E5 ((w_and (on h (dv 7) (dv 5)) (kn (on h (dv 7) (dv 3))))).pt (i9 (G9 (L7 6 (dv 6) (f9 (p9 h (dv 3) (dv 7)) i6)))
   (k6 (G9 (rq 5 (dv 5) (f9 (kh rfl d (f9 (O0 (ba [] trivial) (L5 (p9 h (dv 0) (p9 h (dv 3) (dv 7)))) (λ_ _ _ _ _ _ _ _ _=>V1) (λ_ _ _ _ _ _ _ _ _=>(x3 (f9 (dN c (f9 (dv 0) i6)) (f9 aR i6))))) i6)) i6))))) w5)))
   (i9 (kJ (i:=8) (ba [("needed",5)] ⟨⟨rfl,rfl,.inl rfl⟩,trivial⟩) nd (L5 (dv 1)) (λ_ _ _ _ _ _ _ _ _=>vk (on h (dN c (f9 (dv 0) i6)) (dv 1))) (λ_ _ _ _ _ _ _ _ _=>(P0 (dv 0))))
   (k6 (u2 (x3 (f9 (dw (cs:=[97,100,100]) (by decide +kernel)) (f9 (y0 (Y3 g (f9 (dv 0) i6)) i7) (f9 (du b (f9 (dv 8) i6)) (f9 (Au rfl b a (f9 (dv 6) i6)) i6))))))))))))
noncomputable abbrev jm:SM:=(k8 (n5 5 (o8 [f6] K6 (g4 (h7 4) j4)))
 (k8 (n5 6 gZ)
 (k8 (n5 7 (o8 [f6,f8,f8] au (g4 (h7 2) (g4 (h7 5) (g4 (h7 6) j4)))))
 (k8 (n5 8 (B9 (X7 ints2 (g4 (mC (.int 1)) (g4 (i3 z7 (h7 0) (mC (.int 1))) j4))) (y7 0) (p6 (i3 N6 (h7 0) (h7 1))) (h7 0) 1 [5]))
 (X9 (p6 (aZ (λd=>vB (!cZ d)) (h7 7))) (k8 (n5 9 (o8 [f6,f6,f6,f6,f6] aL (g4 (h7 2) (g4 (h7 4) (g4 (h7 5) (g4 (h7 6) (g4 (h7 7) j4)))))))
 (k8 (n5 10 (i3 u6 (h7 9) (mC (.int 2))))
 (k8 (F7 (D6 3 (g4 (h7 9) j4)))
 (k8 (X9 (p6 (i3 M4 (h7 10) (B5 j4))) (retS (B5 (g4 (mC .v1) (g4 (h7 3) j4)))) aq)
 (k8 (dR 2 (h7 10) (i3 u6 (h7 9) (mC (.int 1))))
 (n5 4 (Bj (h7 4) (M.pure f7) (fJ (Hh "list" lm (h7 4) (g4 (aZ N1 (i3 u6 (h7 10) (aZ N1 (mC (.int 1))))) j4)))))))))) (X9 (T0 (h7 8)) (F7 (D6 4 (g4 (aZ N1 (i3 u6 (h7 8) (mC (.int 0)))) j4))) (retS (B5 (g4 (D2 cI (g4 (B9 (X7 ints2 (g4 (mC (.int 1)) (g4 (i3 z7 (h7 0) (mC (.int 1))) j4))) (y7 0) F5 (i3 u6 (h7 1) (h7 0)) 1 [5]) j4)) (g4 (N2 j4) j4))))))))))
noncomputable abbrev dk:SM:=(k8 (n5 2 (o8 [f6] N8 (g4 (h7 1) j4)))
 (k8 (n5 3 (N2 j4))
 (k8 (n5 4 (N2 j4))
 (C3 (T0 (mC (.bl f8))) jm 100000))))
noncomputable def cv:List D→Option FR:=n8 dk 11 [f6,f6]
theorem qi:∀ds r,cv ds=e9 r→n8 dk 11 [f6,f6] ds=e9 r:=λ_ _ h=>h
theorem sy (F:bc K "solved" "solved" gP f fd) (b:mg "range"=f7) (g:mg "tuple"=f7)
  (c:eM P w K mg base 1 "numbered" ["clauses"] (E3 K [f6] N8))
  (a:eM P w K mg base 1 "truths_of" ["literals"] (E3 K [f6] K6))
  (e:eM P w K mg base 2 "spread" ["table","truths","reasons"] (E3 K [f6,f8,f8] au))
  (d:eM P w K mg base 1 "learned" ["table","chosen","truths","reasons","conflict"] (E3 K [f6,f6,f6,f6,f6] aL)):
  x5 P w K mg base V2 3 f fd ["variables","clauses"] (E3 K [f6,f6] (n8 dk 11 [f6,f6])):=
 have nd:=nc.nd
 M9 (k:=2) F nc rfl (λcdv A outer s H E H0 HK G0 L hr=>by
  have h:=fZ hr;exact(i9 (m6 (i:=2) (p7 c (hr.mono (by decide)) (f9 (dv 1) i6)) nd)
   (i9 (m6 (i:=3) (J2 i6) nd)
   (i9 (m6 (i:=4) (J2 i6) nd)
   (k6 (oA 100000 (Q1 aR) (i9 (m6 (i:=5) (p7 a (hr.mono (by decide)) (f9 (dv 4) i6)) nd)
   (i9 (m6 (i:=6) iQ nd)
   (i9 (m6 (i:=7) (p7 e (hr.mono (by decide)) (f9 (dv 2) (f9 (dv 5) (f9 (dv 6) i6)))) nd)
   (i9 (kJ (i:=8) (ba [("truths",5)] ⟨⟨rfl,rfl,.inl rfl⟩,trivial⟩) nd (qZ b (f9 i7 (f9 (y0 (dv 0) i7) i6))) (λ_ _ _ _ _ _ _ _ _=>vk (cJ h (dv 0) (dv 1))) (λ_ _ _ _ _ _ _ _ _=>(dv 0)))
   (k6 (E5 (EN (dv 7)) (i9 (m6 (i:=9) (p7 d (hr.mono (by decide)) (f9 (dv 2) (f9 (dv 4) (f9 (dv 5) (f9 (dv 6) (f9 (dv 7) i6)))))) nd)
   (i9 (m6 (i:=10) (p9 h (dv 9) i7) nd)
   (i9 (G9 (L7 3 (dv 3) (f9 (dv 9) i6)))
   (i9 (E5 (bY h (dv 10) (x3 i6)) (k6 (u2 (x3 (f9 rA (f9 (dv 3) i6))))) w5)
   (i9 (cb 2 h (dv 10) (dv 2) (p9 h (dv 9) i7))
   (k6 (m6 (i:=4) (xy (dv 4) iH (iG (Du h (dv 4) (f9 (P0 (p9 h (dv 10) (P0 i7))) i6)))) nd))))))) (k6 (E5 (Q1 (dv 8)) (k6 (G9 (L7 4 (dv 4) (f9 (P0 (p9 h (dv 8) i7)) i6)))) (k6 (u2 (x3 (f9 (du g (f9 (O0 (ba [("truths",5)] ⟨⟨rfl,rfl,.inl rfl⟩,trivial⟩) (qZ b (f9 i7 (f9 (y0 (dv 0) i7) i6))) (λ_ _ _ _ _ _ _ _ _=>V1) (λ_ _ _ _ _ _ _ _ _=>(p9 h (dv 1) (dv 0)))) i6)) (f9 (J2 i6) i6)))))))))))))))))))
noncomputable abbrev fM:SM:=(k8 (X9 (p6 (i3 inD (aZ N1 (h7 2)) (h7 1))) (retS (mC (.bl f8))) aq)
 (dR 1 (mC (.bl f8)) (h7 2)))
noncomputable abbrev al:SM:=(k8 (n5 1 gZ)
 (k8 (T6 (A3 (h7 0)) (y7 2) fM)
 (retS (mC (.bl f6)))))
noncomputable def bq:List D→Option FR:=n8 al 3 [f6]
theorem mw:∀ds r,bq ds=e9 r→n8 al 3 [f6] ds=e9 r:=λ_ _ h=>h
theorem oH (F:bc K "has_both" "has_both" cS f fd):
  x5 P w K mg base V2 1 f fd ["clause"] (E3 K [f6] (n8 al 3 [f6])):=
 have nd:=je.nd
 M9 (k:=0) F je rfl (λcdv A outer s H E H0 HK G0 L hr=>by
  have a:=fZ hr;exact(i9 (m6 (i:=1) iQ nd)
   (i9 (M7 (L5 (dv 0)) (C5 (i:=2) nd) (i9 (E5 (on a (P0 (dv 2)) (dv 1)) (k6 (u2 aR)) w5)
   (k6 (cb 1 a aR (dv 1) (dv 2)))))
   (k6 (u2 aR)))))
noncomputable abbrev M0:SM:=(k8 (X9 (p6 (i3 N6 (h7 2) (h7 0))) (retS (mC (.str [119,114,111,110,103]))) aq)
 (k8 (n5 3 (o8 [f6,f6] W0 (g4 (h7 1) (g4 (i3 u6 (h7 0) (h7 2)) j4))))
 (k8 (X9 (p6 (i3 M4 (h7 3) (N2 j4))) (retS (mC (.str [101,110,100,115]))) aq)
 (k8 (X9 (rY (p6 (i3 (U8 λi j=>decide (j<i)) (D2 V9 (g4 (h7 3) j4)) (mC (.int 1)))) (p6 (i3 inD (D2 Q9 (g4 (i3 u6 (h7 3) (mC (.int 0))) j4)) (h7 1)))) (retS (mC (.str [119,114,111,110,103]))) aq)
 (k8 (dR 1 (i3 u6 (h7 3) (mC (.int 0))) (D2 Q9 (g4 (i3 u6 (h7 3) (mC (.int 0))) j4)))
 (retS (mC (.str [103,111,101,115,32,111,110]))))))))
noncomputable def O6:List D→Option FR:=n8 M0 4 [f6,f8,f6]
theorem ky:∀ds r,O6 ds=e9 r→n8 M0 4 [f6,f8,f6] ds=e9 r:=λ_ _ h=>h
theorem mB (F:bc K "take_hint" "take_hint" bg f fd) (h:mg "len"=f7) (d:mg "abs"=f7) (a:DI mg "WRONG" (.str "wrong")) (e:DI mg "ENDS" (.str "ends")) (b:DI mg "GOES_ON" (.str "goes on"))
  (c:eM P w K mg base 1 "opened" ["truths","clause"] (E3 K [f6,f6] W0)):
  x5 P w K mg base V2 2 f fd ["table","truths","hint"] (E3 K [f6,f8,f6] (n8 M0 4 [f6,f8,f6])):=
 have nd:=gM.nd
 M9 (k:=1) F gM rfl (λcdv A outer s H E H0 HK G0 L hr=>by
  have g:=fZ hr;exact(i9 (E5 (cJ g (dv 2) (dv 0)) (k6 (u2 (nQ a (λ_=>ce (by decide +kernel))))) w5)
   (i9 (m6 (i:=3) (p7 c (hr.mono (by decide)) (f9 (dv 1) (f9 (p9 g (dv 0) (dv 2)) i6))) nd)
   (i9 (E5 (bY g (dv 3) (J2 i6)) (k6 (u2 (nQ e (λ_=>ce (by decide +kernel))))) w5)
   (i9 (E5 ((w_or (EO (Y3 h (f9 (dv 3) i6)) i7) (km (on g (dN d (f9 (p9 g (dv 3) i7) i6)) (dv 1))))).pt (k6 (u2 (nQ a (λ_=>ce (by decide +kernel))))) w5)
   (i9 (cb 1 g (p9 g (dv 3) i7) (dv 1) (dN d (f9 (p9 g (dv 3) i7) i6)))
   (k6 (u2 (nQ b (λ_=>ce (by decide +kernel)))))))))))
noncomputable abbrev af:SM:=(k8 (n5 5 (o8 [f6,f8,f6] O6 (g4 (h7 0) (g4 (h7 3) (g4 (i3 u6 (h7 2) (h7 4)) j4)))))
 (k8 (X9 (p6 (i3 iI (h7 5) (mC (.str [103,111,101,115,32,111,110])))) (retS (i3 M4 (h7 5) (mC (.str [101,110,100,115])))) aq)
 (AR 4 (mC (.int 1)))))
noncomputable abbrev bv:SM:=(k8 (X9 (T0 (o8 [f6] bq (g4 (h7 1) j4))) (retS (mC (.bl f8))) aq)
 (k8 (n5 3 (o8 [f6] K6 (g4 (B9 (A3 (h7 1)) (y7 0) F5 (aZ N1 (h7 0)) 1 []) j4)))
 (k8 (n5 4 (mC (.int 0)))
 (k8 (C3 (hA (p6 (i3 (U8 λi j=>decide (i<j)) (h7 4) (D2 V9 (g4 (h7 2) j4)))) (p6 (i3 (U8 λi j=>decide (j<i)) (i3 u6 (h7 2) (h7 4)) (mC (.int 0))))) af 1000)
 cK))))
noncomputable def df:List D→Option FR:=n8 bv 6 [f6,f6,f6]
theorem ox:∀ds r,df ds=e9 r→n8 bv 6 [f6,f6,f6] ds=e9 r:=λ_ _ h=>h
theorem qv (F:bc K "follows" "follows" eU f fd) (g:mg "len"=f7) (d:DI mg "GOES_ON" (.str "goes on")) (e:DI mg "ENDS" (.str "ends"))
  (c:eM P w K mg base 1 "has_both" ["clause"] (E3 K [f6] bq))
  (a:eM P w K mg base 1 "truths_of" ["literals"] (E3 K [f6] K6))
  (b:eM P w K mg base 2 "take_hint" ["table","truths","hint"] (E3 K [f6,f8,f6] O6)):
  x5 P w K mg base V2 3 f fd ["table","clause","hints"] (E3 K [f6,f6,f6] (n8 bv 6 [f6,f6,f6])):=
 have nd:=kI.nd
 M9 (k:=2) F kI rfl (λcdv A outer s H E H0 HK G0 L hr=>by
  have h:=fZ hr;exact(i9 (E5 (Q1 (p7 c (hr.mono (by decide)) (f9 (dv 1) i6))) (k6 (u2 aR)) w5)
   (i9 (m6 (i:=3) (p7 a (hr.mono (by decide)) (f9 (O0 (ba [] trivial) (L5 (dv 1)) (λ_ _ _ _ _ _ _ _ _=>V1) (λ_ _ _ _ _ _ _ _ _=>(P0 (dv 0)))) i6)) nd)
   (i9 (m6 (i:=4) i7 nd)
   (i9 (oA 1000 ((w_and (BG (dv 4) (Y3 g (f9 (dv 2) i6))) (kn (EO (p9 h (dv 2) (dv 4)) i7)))).pt (i9 (m6 (i:=5) (p7 b (hr.mono (by decide)) (f9 (dv 0) (f9 (dv 3) (f9 (p9 h (dv 2) (dv 4)) i6)))) nd)
   (i9 (E5 (mR h (dv 5) (nQ d (λ_=>ce (by decide +kernel)))) (k6 (u2 (nO h (dv 5) (nQ e (λ_=>ce (by decide +kernel)))))) w5)
   (k6 (yt (i:=4) i7 nd)))))
   (k6 bh))))))
noncomputable abbrev G4:SM:=(k8 (gI 0 "variables" (h7 1))
 (k8 (tabS 0 3 (o8 [f6] N8 (g4 (h7 2) j4)))
 (k8 (gI 0 "greatest" (D2 V9 (g4 (h7 2) j4)))
 (k8 (gI 0 "taken" (mC (.int 0)))
 (gI 0 "refuted" (mC (.bl f6)))))))
theorem aK:¬fB (j8 E7) "self.table":=by unfold fB;decide +kernel
noncomputable def K9:List D→Option L3.Made:=qw G4 4 3
theorem ee:∀ds r,K9 ds=e9 r→qw G4 4 3 ds=e9 r:=λ_ _ h=>h
theorem fv (F:bc K "__init__" "Keeper.__init__" E7 f fd) (d:mg "len"=f7) (a:ik K b ["variables","table","greatest","taken","refuted"])
  (c:eM P w K mg base 1 "numbered" ["clauses"] (E3 K [f6] N8)):
  x5 P w K mg base V2 2 f fd ["self","variables","clauses"] (Eo K b 3 (qw G4 4 3)):=
 have nd:=aD.nd
 IM (k:=1) (C:=b) (g:="self.table") 3 F aD rfl aK (by decide) (by decide) (λcdv A outer s H E H0 HK G0 L e hr=>by
  have h:=fZ hr;exact(i9 (nh 0 3 a 0 (dv 1))
   (i9 (Ia 0 3 a 1 (p7 c (hr.mono (by decide)) (f9 (dv 2) i6)) e aK)
   (i9 (nh 0 3 a 2 (Y3 d (f9 (dv 2) i6)))
   (i9 (nh 0 3 a 3 i7)
   (k6 (nh 0 3 a 4 aR)))))))
noncomputable abbrev F9:SM:=(k8 (X9 (rY (p6 (i3 (U8 λi j=>decide (i≤j)) (h7 1) (sY 0 "greatest"))) (T0 (D2 ub (g4 (B9 (A3 (h7 2)) (y7 0) F5 (i3 (U8 λi j=>decide (j<i)) (D2 Q9 (g4 (h7 0) j4)) (IF 1 "variables")) 1 [0]) j4)))) (retS (mC (.bl f6))) aq)
 (retS (o8 [f6,f6,f6] df (g4 (qM 0 4) (g4 (h7 2) (g4 (h7 3) j4))))))
theorem ga:¬fB (j8 E6) "self.table":=by unfold fB;decide +kernel
noncomputable def K8:List (Str×D)→List (Key×D)→List D→Option MR:=runM F9 5 4
theorem dZ:∀fds es ds r,K8 fds es ds=e9 r→runM F9 5 4 fds es ds=e9 r:=λ_ _ _ _ h=>h
theorem fu (F:bc K "is_right" "Keeper.is_right" E6 f fd) (d:mg "any"=f7) (e:mg "abs"=f7) (b:ik K a ["variables","table","greatest","taken","refuted"])
  (c:eM P w K mg base 3 "follows" ["table","clause","hints"] (E3 K [f6,f6,f6] df)):
  x5 P w K mg base V2 4 f fd ["self","number","clause","hints"] (pW K a 4 (runM F9 5 4)):=
 have nd:=aC.nd
 vf (k:=3) (C:=a) (g:="self.table") 4 F aC rfl ga (by decide) (λcdv A outer s H E H0 HK G0 L hr=>by
  have h:=fZ hr;exact(i9 (E5 ((w_or (Kk (dv 1) (vw 0 4 b 2)) (km (Q1 (Ay rfl d (f9 (O0 (ba [("self",0)] ⟨⟨rfl,rfl,.inl rfl⟩,trivial⟩) (L5 (dv 2)) (λ_ _ _ _ _ _ _ _ _=>V1) (λ_ _ _ _ _ _ _ _ _=>(GH (dN e (f9 (dv 0) i6)) (KU 1 b 0)))) i6)))))).pt (k6 (u2 aR)) w5)
   (k6 (u2 (p7 c (hr.mono (by decide)) (f9 (Av 0 4 b 1) (f9 (dv 2) (f9 (dv 3) i6))))))))
noncomputable abbrev D7:SM:=(k8 (X9 (gY (T0 (ji 0 4 "is_right" 4 K8 (g4 (h7 1) (g4 (h7 2) (g4 (h7 3) j4)))))) cK aq)
 (k8 (wp (qM 0 4) 4 (h7 2) (h7 1))
 (k8 (gI 0 "greatest" (h7 1))
 (gI 0 "refuted" (i3 M4 (h7 2) (B5 j4))))))
theorem eE:¬fB (j8 B8) "self.table":=by unfold fB;decide +kernel
noncomputable def F2:List (Str×D)→List (Key×D)→List D→Option MR:=runM D7 5 4
theorem cL:∀fds es ds r,F2 fds es ds=e9 r→runM D7 5 4 fds es ds=e9 r:=λ_ _ _ _ h=>h
theorem dQ (F:bc K "add_clause" "Keeper.add_clause" B8 f fd) (b:ik K a ["variables","table","greatest","taken","refuted"])
  (c:xM P w K mg base 4 a "is_right" ["self","number","clause","hints"] (pW K a 4 K8)):
  x5 P w K mg base V2 5 f fd ["self","number","clause","hints"] (pW K a 4 (runM D7 5 4)):=
 have nd:=X6.nd
 vf (k:=4) (C:=a) (g:="self.table") 4 F X6 rfl eE (by decide) (λcdv A outer s H E H0 HK G0 L hr=>by
  have d:=fZ hr;exact(i9 (E5 (dX (Q1 (pA 0 4 b c (hr.mono (by decide)) (f9 (dv 1) (f9 (dv 2) (f9 (dv 3) i6)))))) (k6 bh) w5)
   (i9 (cb 4 d (dv 2) (Av 0 4 b 1) (dv 1) (hm:=mY))
   (i9 (nh 0 4 b 2 (dv 1))
   (k6 (nh 0 4 b 4 (nO d (dv 2) (x3 i6))))))))
noncomputable abbrev bM:SM:=(F7 (kZ (qM 0 3) 3 (h7 2) (mC .v1)))
noncomputable abbrev B1:SM:=(T6 (A3 (h7 1)) (y7 2) bM)
theorem dc:¬fB (j8 y9) "self.table":=by unfold fB;decide +kernel
noncomputable def C6:List (Str×D)→List (Key×D)→List D→Option MR:=runM B1 4 3
theorem bD:∀fds es ds r,C6 fds es ds=e9 r→runM B1 4 3 fds es ds=e9 r:=λ_ _ _ _ h=>h
theorem cd (F:bc K "drop_clauses" "Keeper.drop_clauses" y9 f fd) (b:ik K a ["variables","table","greatest","taken","refuted"]):
  x5 P w K mg base V2 1 f fd ["self","numbers"] (pW K a 2 (runM B1 4 3)):=
 have nd:=T4.nd
 vf (k:=0) (C:=a) (g:="self.table") 3 F T4 rfl dc (by decide) (λcdv A outer s H E H0 HK G0 L hr=>by
  have c:=fZ hr;exact(k6 (M7 (L5 (dv 1)) (C5 (i:=2) nd) (k6 (G9 (vx 3 (Av 0 3 b 1) (dv 2) rA (hm:=mY)))))))
noncomputable abbrev L6:SM:=(k8 (X9 (gY (T0 (sY 0 "refuted"))) (X9 (p6 (i3 M4 (i3 u6 (h7 1) (mC (.int 0))) (mC (.str [100,114,111,112])))) (F7 (ji 0 2 "drop_clauses" 2 C6 (g4 (i3 u6 (h7 1) (mC (.int 1))) j4))) (F7 (ji 0 2 "add_clause" 4 F2 (g4 (i3 u6 (h7 1) (mC (.int 1))) (g4 (i3 u6 (h7 1) (mC (.int 2))) (g4 (i3 u6 (h7 1) (mC (.int 3))) j4)))))) aq)
 (rF 0 "taken" (mC (.int 1))))
theorem lu:¬fB (j8 Q4) "self.table":=by unfold fB;decide +kernel
noncomputable def N9:List (Str×D)→List (Key×D)→List D→Option MR:=runM L6 3 2
theorem iF:∀fds es ds r,N9 fds es ds=e9 r→runM L6 3 2 fds es ds=e9 r:=λ_ _ _ _ h=>h
theorem jG (F:bc K "take" "Keeper.take" Q4 f fd) (d:ik K a ["variables","table","greatest","taken","refuted"])
  (b:xM P w K mg base 1 a "drop_clauses" ["self","numbers"] (pW K a 2 C6))
  (c:xM P w K mg base 5 a "add_clause" ["self","number","clause","hints"] (pW K a 4 F2)):
  x5 P w K mg base V2 6 f fd ["self","step"] (pW K a 2 (runM L6 3 2)):=
 have nd:=ek.nd
 vf (k:=5) (C:=a) (g:="self.table") 2 F ek rfl lu (by decide) (λcdv A outer s H E H0 HK G0 L hr=>by
  have e:=fZ hr;exact(i9 (E5 (dX (Q1 (vw 0 2 d 4))) (k6 (E5 (bY e (p9 e (dv 1) i7) (dw (cs:=[100,114,111,112]) (by decide +kernel))) (k6 (G9 (pA 0 2 d b (hr.mono (by decide)) (f9 (p9 e (dv 1) i7) i6)))) (k6 (G9 (pA 0 2 d c (hr.mono (by decide)) (f9 (p9 e (dv 1) i7) (f9 (p9 e (dv 1) i7) (f9 (p9 e (dv 1) i7) i6)))))))) w5)
   (k6 (yr 0 2 d 3 i7))))
noncomputable abbrev O5:SM:=(X9 (gY (T0 (sY 3 "refuted"))) (k8 (F7 (ji 3 6 "take" 2 N9 (g4 (h7 5) j4)))
 (F7 (D6 4 (g4 (h7 5) j4)))) aq)
noncomputable abbrev R8:SM:=(k8 (uP 3 6 3 K9 (g4 (h7 0) (g4 (h7 1) j4)))
 (k8 (n5 4 (N2 j4))
 (k8 (T6 (A3 (h7 2)) (y7 5) O5)
 (k8 (X9 (gY (T0 (sY 3 "refuted"))) cK aq)
 (retS (h7 4))))))
theorem lr:¬fB (j8 Q3) "keeper.table":=by unfold fB;decide +kernel
noncomputable def T8:List D→Option FR:=n8 R8 7 [f6,f6,f6]
theorem iD:∀ds r,T8 ds=e9 r→n8 R8 7 [f6,f6,f6] ds=e9 r:=λ_ _ h=>h
theorem jE (F:bc K "up_to_empty" "up_to_empty" Q3 f fd) (c:ik K a ["variables","table","greatest","taken","refuted"]) (e:mg "Keeper"=e9 (.ref a))
  (b:GS P w K mg base 2 a ["self","variables","clauses"] (Eo K a 3 K9))
  (d:xM P w K mg base 6 a "take" ["self","step"] (pW K a 2 N9)):
  x5 P w K mg base V2 7 f fd ["variables","clauses","steps"] (E3 K [f6,f6,f6] (n8 R8 7 [f6,f6,f6])):=
 have nd:=eg.nd
 Gw (k:=6) (3,6,a) F eg rfl rfl (λcdv A outer s H E H0 HK G0 L g hr=>by
  have h:=fZ hr;exact(i9 (EZ 3 6 b e (hr.mono (by decide)) (f9 (dv 0) (f9 (dv 1) i6)) (g 6) lr nd)
   (i9 (m6 (i:=4) (J2 i6) nd)
   (i9 (M7 (L5 (dv 2)) (C5 (i:=5) nd) (k6 (E5 (dX (Q1 (vw 3 6 c 4))) (i9 (G9 (pA 3 6 c d (hr.mono (by decide)) (f9 (dv 5) i6)))
   (k6 (G9 (L7 4 (dv 4) (f9 (dv 5) i6))))) w5)))
   (i9 (E5 (dX (Q1 (vw 3 6 c 4))) (k6 bh) w5)
   (k6 (u2 (dv 4))))))))
noncomputable abbrev P5:SM:=(retS (nr (i3 M4 (i3 u6 (h7 0) (mC (.int 0))) (mC (.str [97,100,100]))) (D2 uc (g4 (B9 (A3 (i3 u6 (h7 0) (mC (.int 3)))) (y7 0) F5 (i3 (U8 λi j=>decide (j<i)) (h7 0) (mC (.int 0))) 1 []) j4))))
noncomputable def v5:List D→Option FR:=n8 P5 1 [f6]
theorem dY:∀ds r,v5 ds=e9 r→n8 P5 1 [f6] ds=e9 r:=λ_ _ h=>h
theorem ft (F:bc K "has_plain_hints" "has_plain_hints" M6 f fd) (a:mg "all"=f7):
  x5 P w K mg base V2 1 f fd ["step"] (E3 K [f6] (n8 P5 1 [f6])):=
 have nd:=aB.nd
 M9 (k:=0) F aB rfl (λcdv A outer s H E H0 HK G0 L hr=>by
  have b:=fZ hr;exact(k6 (u2 (Ek (nO b (p9 b (dv 0) i7) (dw (cs:=[97,100,100]) (by decide +kernel))) (Eh (vy rfl a (f9 (O0 (ba [] trivial) (L5 (p9 b (dv 0) i7)) (λ_ _ _ _ _ _ _ _ _=>V1) (λ_ _ _ _ _ _ _ _ _=>(GH (dv 0) i7))) i6)))))))
noncomputable abbrev ez:SM:=(X9 (p6 (i3 inD (i3 u6 (h7 2) (mC (.int 1))) (h7 1))) (F7 (gX 1 (g4 (D2 aN (g4 (B9 (A3 (i3 u6 (h7 2) (mC (.int 3)))) (y7 0) (p6 (i3 (U8 λi j=>decide (i<j)) (h7 0) (i3 u6 (h7 1) (mC (.int 1))))) (B5 (g4 (h7 0) (g4 (mC (.bl f8)) j4))) 1 [2]) j4)) j4))) aq)
noncomputable abbrev bS:SM:=(k8 (X9 (gY (T0 (D2 uc (g4 (B9 (A3 (h7 0)) (y7 0) F5 (o8 [f6] v5 (g4 (h7 0) j4)) 1 []) j4)))) (retS (mC .v1)) aq)
 (k8 (n5 1 (qO (i3 u6 (i3 u6 (h7 0) (aZ N1 (mC (.int 1)))) (mC (.int 1))) f8))
 (k8 (T6 (sW (g4 (h7 0) j4)) (y7 2) ez)
 (retS (h7 1)))))
noncomputable def T7:List D→Option FR:=n8 bS 3 [f6]
theorem ku:∀ds r,T7 ds=e9 r→n8 bS 3 [f6] ds=e9 r:=λ_ _ h=>h
theorem my (F:bc K "wanted_in" "wanted_in" be f fd) (d:mg "all"=f7) (b:mg "reversed"=f7) (c:mg "dict"=f7)
  (a:eM P w K mg base 1 "has_plain_hints" ["step"] (E3 K [f6] v5)):
  x5 P w K mg base V2 2 f fd ["steps"] (E3 K [f6] (n8 bS 3 [f6])):=
 have nd:=gK.nd
 M9 (k:=1) F gK rfl (λcdv A outer s H E H0 HK G0 L hr=>by
  have e:=fZ hr;exact(i9 (E5 (dX (Q1 (vy rfl d (f9 (O0 (ba [] trivial) (L5 (dv 0)) (λ_ _ _ _ _ _ _ _ _=>V1) (λ_ _ _ _ _ _ _ _ _=>(p7 a (hr.mono (by decide)) (f9 (dv 0) i6)))) i6)))) (k6 (u2 rA)) w5)
   (i9 (m6 (i:=1) (GI (Iv e (Iv e (Ir 0) Iu) Iw)) nd)
   (i9 (M7 (zV b (f9 (dv 0) i6)) (C5 (i:=2) nd) (k6 (E5 (on e (p9 e (dv 2) i7) (dv 1)) (k6 (G9 (rq 1 (dv 1) (f9 (kh rfl c (f9 (O0 (ba [("step",2)] ⟨⟨rfl,rfl,.inl rfl⟩,trivial⟩) (L5 (p9 e (dv 2) i7)) (λ_ _ _ _ _ _ _ _ _=>vk (BG (dv 0) (p9 e (dv 1) i7))) (λ_ _ _ _ _ _ _ _ _=>(x3 (f9 (dv 0) (f9 aR i6))))) i6)) i6)))) w5)))
   (k6 (u2 (dv 1)))))))
noncomputable abbrev eI:SM:=(k8 (n5 3 (o8 [f6,f6,f6] T8 (g4 (h7 0) (g4 (h7 1) (g4 (h7 2) j4)))))
 (k8 (n5 4 (o8 [f6] T7 (g4 (h7 3) j4)))
 (retS (sX (p6 (aZ (λd=>vB (cZ d)) (h7 4))) (h7 3) (B9 (A3 (h7 3)) (y7 0) (p6 (i3 inD (i3 u6 (h7 0) (mC (.int 1))) (h7 1))) (h7 0) 1 [4])))))
noncomputable def K7:List D→Option FR:=n8 eI 5 [f6,f6,f6]
theorem oq:∀ds r,K7 ds=e9 r→n8 eI 5 [f6,f6,f6] ds=e9 r:=λ_ _ h=>h
theorem qr (F:bc K "trimmed" "trimmed" eR f fd)
  (a:eM P w K mg base 7 "up_to_empty" ["variables","clauses","steps"] (E3 K [f6,f6,f6] T8))
  (b:eM P w K mg base 2 "wanted_in" ["steps"] (E3 K [f6] T7)):
  x5 P w K mg base V2 8 f fd ["variables","clauses","steps"] (E3 K [f6,f6,f6] (n8 eI 5 [f6,f6,f6])):=
 have nd:=kF.nd
 M9 (k:=7) F kF rfl (λcdv A outer s H E H0 HK G0 L hr=>by
  have c:=fZ hr;exact(i9 (m6 (i:=3) (p7 a (hr.mono (by decide)) (f9 (dv 0) (f9 (dv 1) (f9 (dv 2) i6)))) nd)
   (i9 (m6 (i:=4) (p7 b (hr.mono (by decide)) (f9 (dv 3) i6)) nd)
   (k6 (u2 (Ej (HH (dv 4)) (dv 3) (O0 (ba [("wanted",4)] ⟨⟨rfl,rfl,.inl rfl⟩,trivial⟩) (L5 (dv 3)) (λ_ _ _ _ _ _ _ _ _=>vk (on c (p9 c (dv 0) i7) (dv 1))) (λ_ _ _ _ _ _ _ _ _=>(dv 0)))))))))
noncomputable abbrev vv:SM:=(k8 (n5 1 (o8 [f6,f6] bo (g4 (h7 0) (g4 (mC (.int 0)) j4))))
 (k8 (n5 2 (o8 [f6] bn (g4 (h7 1) j4)))
 (k8 (X9 (p6 (i3 M4 (i3 S9 (o8 [f6,f6] u4 (g4 (h7 0) (g4 (mC (.int 50)) j4))) (mC (.int 3))) (mC (.int 0)))) (n5 2 (i3 u6 (o8 [f6,f6] cv (g4 (i3 u6 (h7 1) (mC (.int 0))) (g4 (i3 u6 (h7 1) (mC (.int 1))) j4))) (mC (.int 1)))) aq)
 (k8 (n5 3 (i3 M4 (i3 S9 (o8 [f6,f6] u4 (g4 (h7 0) (g4 (mC (.int 51)) j4))) (mC (.int 4))) (mC (.int 0))))
 (k8 (X9 (T0 (h7 3)) (n5 2 (i3 z7 (i3 z7 (Bj (h7 2) (M.pure f7) (fJ (aZ N1 (mC (.int 1))))) (N2 (g4 (B5 (g4 (mC (.str [100,114,111,112])) (g4 (B5 (g4 (mC (.int 1000)) j4)) j4))) j4))) (Bj (h7 2) (fJ (aZ N1 (mC (.int 1)))) (M.pure f7)))) aq)
 (k8 (n5 4 (Bj (N2 (g4 (B5 (g4 (mC (.str [97,100,100])) (g4 (mC (.int 5000)) (g4 (B5 (g4 (mC (.int 1)) j4)) (g4 (B5 (g4 (mC (.int 7)) j4)) j4))))) (g4 (B5 (g4 (mC (.str [100,114,111,112])) (g4 (B5 (g4 (mC (.int 1)) (g4 (mC (.int 2)) j4))) j4))) (g4 (B5 (g4 (mC (.str [97,100,100])) (g4 (mC (.int 1)) (g4 (B5 j4) (g4 (B5 j4) j4))))) j4)))) (M.pure f7) (fJ (i3 S9 (o8 [f6,f6] u4 (g4 (h7 0) (g4 (mC (.int 52)) j4))) (mC (.int 4))))))
 (k8 (n5 5 (i3 z7 (h7 2) (h7 4)))
 (k8 (n5 6 (o8 [f6,f6,f6] K7 (g4 (i3 u6 (h7 1) (mC (.int 0))) (g4 (D2 dI (g4 (i3 u6 (h7 1) (mC (.int 1))) j4)) (g4 (h7 5) j4)))))
 (k8 (n5 7 (sX (T0 (h7 3)) (h7 2) (o8 [f6] Q5 (g4 (h7 2) j4))))
 (k8 (X9 (rY (gY (T0 (D2 Gi (g4 (h7 6) (g4 (mC (.ty "list")) j4))))) (rY (p6 (i3 iI (h7 6) (h7 7))) (p6 (i3 iI (h7 5) (i3 z7 (h7 2) (h7 4)))))) (retS (mC (.bl f6))) aq)
 (k8 (X9 (p6 (i3 iI (o8 [f6,f6] Q6 (g4 (h7 1) (g4 (h7 6) j4))) (B5 (g4 (aZ N1 (mC (.int 1))) (g4 (mC (.bl f8)) j4))))) (retS (mC (.bl f6))) aq)
 (retS (i3 M4 (o8 [f6,f6,f6] K7 (g4 (i3 u6 (h7 1) (mC (.int 0))) (g4 (D2 dI (g4 (i3 u6 (h7 1) (mC (.int 1))) j4)) (g4 (D2 dI (g4 (h7 6) j4)) j4)))) (h7 6))))))))))))))
theorem BS (F:bc K "law" "law" qq f fd) (b:mg "list"=f7) (d:mg "isinstance"=f7)
  (h:eM P w K mg base 4 "_law_none" ["_law_script","_law_base"] (E3 K [f6,f6] bo))
  (j:eM P w K mg base 3 "_law_sure" ["_law_formula_here"] (E3 K [f6] bn))
  (a:eM P w K mg base 2 "_law_mix" ["_law_script","_law_k"] (E3 K [f6,f6] u4))
  (l:eM P w K mg base 3 "solved" ["variables","clauses"] (E3 K [f6,f6] cv))
  (c:eM P w K mg base 8 "trimmed" ["variables","clauses","steps"] (E3 K [f6,f6,f6] K7))
  (e:eM P w K mg base 1 "_law_wanted" ["_law_steps_here"] (E3 K [f6] Q5))
  (g:eM P w K mg base 4 "_law_played" ["_law_formula_here","_law_steps_here"] (E3 K [f6,f6] Q6)):
  x5 P w K mg base V2 9 f fd ["_law_script"] (E3 K [f6] (n8 vv 8 [f6])):=
 have nd:=yq.nd
 M9 (k:=8) F yq rfl (λcdv A outer s H E H0 HK G0 L hr=>by
  have m:=fZ hr;exact(i9 (m6 (i:=1) (p7 h (hr.mono (by decide)) (f9 (dv 0) (f9 i7 i6))) nd)
   (i9 (m6 (i:=2) (p7 j (hr.mono (by decide)) (f9 (dv 1) i6)) nd)
   (i9 (E5 (bY m (U7 (p7 a (hr.mono (by decide)) (f9 (dv 0) (f9 i7 i6))) i7) i7) (k6 (m6 (i:=2) (p9 m (p7 l (hr.mono (by decide)) (f9 (p9 m (dv 1) i7) (f9 (p9 m (dv 1) i7) i6))) i7) nd)) w5)
   (i9 (m6 (i:=3) (nO m (U7 (p7 a (hr.mono (by decide)) (f9 (dv 0) (f9 i7 i6))) i7) i7) nd)
   (i9 (E5 (Q1 (dv 3)) (k6 (m6 (i:=2) (y0 (y0 (xy (dv 2) iH (iG (P0 i7))) (J2 (f9 (x3 (f9 (dw (cs:=[100,114,111,112]) (by decide +kernel)) (f9 (x3 (f9 i7 i6)) i6))) i6))) (xy (dv 2) (iG (P0 i7)) iH)) nd)) w5)
   (i9 (m6 (i:=4) (xy (J2 (f9 (x3 (f9 (dw (cs:=[97,100,100]) (by decide +kernel)) (f9 i7 (f9 (x3 (f9 i7 i6)) (f9 (x3 (f9 i7 i6)) i6))))) (f9 (x3 (f9 (dw (cs:=[100,114,111,112]) (by decide +kernel)) (f9 (x3 (f9 i7 (f9 i7 i6))) i6))) (f9 (x3 (f9 (dw (cs:=[97,100,100]) (by decide +kernel)) (f9 i7 (f9 (x3 i6) (f9 (x3 i6) i6))))) i6)))) iH (iG (U7 (p7 a (hr.mono (by decide)) (f9 (dv 0) (f9 i7 i6))) i7))) nd)
   (i9 (m6 (i:=5) (y0 (dv 2) (dv 4)) nd)
   (i9 (m6 (i:=6) (p7 c (hr.mono (by decide)) (f9 (p9 m (dv 1) i7) (f9 (ge rfl b (f9 (p9 m (dv 1) i7) i6)) (f9 (dv 5) i6)))) nd)
   (i9 (m6 (i:=7) (Ej (Q1 (dv 3)) (dv 2) (p7 e (hr.mono (by decide)) (f9 (dv 2) i6))) nd)
   (i9 (E5 ((w_or (dX (Q1 (Ja d (f9 (dv 6) (f9 (KS b lS) i6))))) (w_or (mR m (dv 6) (dv 7)) (km (mR m (dv 5) (y0 (dv 2) (dv 4))))))).pt (k6 (u2 aR)) w5)
   (i9 (E5 (mR m (p7 g (hr.mono (by decide)) (f9 (dv 1) (f9 (dv 6) i6))) (x3 (f9 (P0 i7) (f9 aR i6)))) (k6 (u2 aR)) w5)
   (k6 (u2 (nO m (p7 c (hr.mono (by decide)) (f9 (p9 m (dv 1) i7) (f9 (ge rfl b (f9 (p9 m (dv 1) i7) i6)) (f9 (ge rfl b (f9 (dv 6) i6)) i6)))) (dv 6))))))))))))))))
end
theorem fg:gZ ρ=e9 (.ok (.own (.dct [])) ρ):=rfl
theorem vH {α a:Type}(f:α→a)(xs:List α)(i:Int):L2.fA (xs.map f) i=(L2.fA xs i).map f:=by
 unfold L2.fA;rw[List.length_map];cases wU xs.length i with
 |none=>rfl
 |some j=>simp
theorem AI(h:ns≠[]):L2.fA ns (k % (ns.length:Int))=e9 (jv ns k):=by
 have q:=Dz (ns:=ns) (k:=k) h;rw[vH,List.length_map]at q;cases e:L2.fA ns (k % (ns.length:Int))with
 |none=>rw[e]at q;cases q
 |some v=>
  rw[e]at q;have:V.int v=V.int (jv ns k):=j7 q;injection this with z
  rw[z]
theorem A2 (ns:List Int):(ns.map D.int).all U1=f8:=by
 rw[List.all_map,List.all_eq_true];intro x _;rfl
theorem De {ns:List Int}:bp [.lst (ns.map D.int),.int k]=e9 (.ret (.val (.int (jv ns k))) []):=by
 show n8 ak 2 [f6,f6] _=_;cases ns with
 |nil=>rfl
 |cons n r=>
  have q:u6 (.lst ((n::r).map D.int)) (.int (k % ((((n::r).map D.int).length:Nat):Int)))=e9 (.val (.int (jv (n::r) k))):=by
   show(L2.fA _ _).map _=_;rw[List.length_map,vH,AI (List.cons_ne_nil _ _)];rfl
  exact D1 (U3 (A5 (z5 (g7 rfl) rfl rfl) rfl (z6 (i5 (g7 rfl) (i5 (g7 rfl) (v4 (g9 (g7 rfl) i8) rfl rfl) rfl rfl (D5 (Kd.mpr (Nat.succ_pos _)))) rfl rfl q) rfl))) rfl
theorem pi {ns:List Int}:u4 [.lst (ns.map D.int),.int k]=e9 (.ret (.val (.int (E9 ns k))) []):=
 D1 (den:=bu) (n:=3) (ms:=[f6,f6]) (j3 (l7 (i5 (i5 (Q8 (g9 (g7 rfl) (g9 (g7 rfl) i8)) rfl rfl De rfl rfl) (i5 k7 (i5 (g7 rfl) k7 rfl rfl rfl) rfl rfl (eW (.inl ⟨by decide,by decide⟩))) rfl rfl rfl) k7 rfl rfl (D5 (by decide))) rfl) (j3 (l7 (i5 (i5 (g7 rfl) k7 rfl rfl (eW (.inr ⟨by decide,by decide⟩))) k7 rfl rfl (D5 (by decide))) rfl) (z6 (i5 (i5 (i5 (i5 (g7 rfl) k7 rfl rfl (jX ⟨by decide,by decide⟩)) k7 rfl rfl (eW (.inr ⟨by decide,by decide⟩))) (g7 rfl) rfl rfl rfl) k7 rfl rfl (D5 (by decide))) rfl))) rfl
theorem o4(h:n≤100000):small n:=by unfold small;omega
theorem qV (l:Int)(c:List Int):lq (.int l) (c.map D.int)=e9 (decide (l∈c)):=by
 induction c with
 |nil=>rfl
 |cons a r ih=>
  show(match bR 7 (.int a) (.int l),lq (.int l) (r.map D.int)with|some a,e9 b=>e9 (a||b) |_,_=>f7)=_;rw[ih];show e9 ((a==l)||decide (l∈r))=_;by_cases h:l=a
  ·simp[h]
  ·have h':¬a=l:=λe=>h e.symm;simp[h,h']
theorem zG (l:Int)(c:List Int):inD (.int l) (.tup (c.map D.int))=e9 (.val (.bl (decide (l∈c)))):=by
 show(lq (.int l) (c.map D.int)).bind _=_;rw[qV];rfl
theorem AN (bs:List Bool):cC (bs.map D.bl)=e9 bs:=by
 induction bs with
 |nil=>rfl
 |cons b r ih=>
  show(cC (r.map D.bl)).map _=_;rw[ih];rfl
theorem ig (bs:List Bool):uc [.lst (bs.map D.bl)]=e9 (.val (.bl (bs.all id))):=by
 show(cC _).bind _=_;rw[AN];rfl
theorem pO (bs:List Bool):ub [.lst (bs.map D.bl)]=e9 (.val (.bl (bs.any id))):=by
 show(cC _).bind _=_;rw[AN];rfl
theorem Y1 (bs:List Bool):(bs.map D.bl).all U1=f8:=by
 rw[List.all_map,List.all_eq_true];intro x _;rfl
theorem di(g:ρ[i]?=e9 (e9 (.ow l (.lst e))))(h:f ρ=e9 (.ok [w] b))(hl:D8 w b=e9 (.ok d a))(j:a[i]?=e9 (e9 (.ow l (.lst ds))))(k:small ds.length)(hs:a.set i (e9 (.ow l (.lst (ds++[d]))))=c):F7 (D6 i f) ρ=e9 (.nx c):=by
 subst hs;exact W9 (xx g h hl j k)
theorem eq_int (a b:Int):M4 (.int a) (.int b)=e9 (.val (.bl (decide (a=b)))):=by
 show e9 (W.val (.bl (a==b)))=_;by_cases h:a=b<;>simp[h]
section
variable {tg:FT}{mt:M Bool}{me:M W}{ρ n3 x2 gm Hj:l5}{d y:D}{w:W}
theorem turn_if(c:tg d ρ=e9 n3)(e:mt n3=e9 (.ok k x2))(f:k=f8→∃w gm Hj,me x2=e9 (.ok w gm)∧D8 w gm=e9 (.ok y Hj)):compTurn tg mt me ρ d=e9 (if k=f8 then e9 y else f7):=by
 cases k with
 |true=>
  obtain⟨w,gm,Hj,a,b⟩:=f rfl;exact gE c e a b
 |false=>exact BA c e
theorem ax {α:Type}{f g:α→D}{t:α→Bool}{xs:List α}(h:∀x∈xs,compTurn tg mt me ρ (f x)=e9 (if t x=f8 then e9 (g x)else f7)):C1 tg mt me ρ (xs.map f)=e9 ((xs.filter t).map g):=by
 induction xs with
 |nil=>rfl
 |cons x r ih=>
  have b:=h x List.mem_cons_self;have ih:=ih λy c=>h y (List.mem_cons_of_mem _ c);rw[List.map_cons];unfold C1;rw[b];cases a:t x with
  |true=>rw[List.filter_cons_of_pos a,ih];rfl
  |false=>rw[List.filter_cons_of_neg (by rw[a];decide),ih];rfl
theorem cz {α:Type}{f g:α→D}{xs:List α}(h:∀x∈xs,∃n3 w x2 gm,tg (f x) ρ=e9 n3∧me n3=e9 (.ok w x2)∧D8 w x2=e9 (.ok (g x) gm)):C1 tg F5 me ρ (xs.map f)=e9 (xs.map g):=by
 have:=ax (tg:=tg) (mt:=F5) (me:=me) (ρ:=ρ) (f:=f) (g:=g) (t:=λ_=>f8) (xs:=xs) (λx d=>by
  obtain⟨n3,w,x2,gm,a,b,c⟩:=h x d;exact gE a rfl b c)
 rw[this,List.filter_eq_self.mpr (λ_ _=>rfl)]
end
theorem cA (cs:List (List Int)):(x4 cs).length=cs.length:=List.length_map _
theorem cw (c:List Int):U1 (.tup (c.map D.int))=f8:=by
 show(c.map D.int).all (hW 5)=f8;rw[List.all_map,List.all_eq_true];intro x _;rfl
theorem ly (cs:List (List Int)):(x4 cs).all U1=f8:=by
 unfold x4;rw[List.all_map,List.all_eq_true];intro c _;exact cw c
theorem rk (n:Nat)(a b:Int):bR n (.int a) (.int b)=e9 (decide (a=b)):=by
 have:IR (.int a) (.int b)=e9 (decide (a=b)):=by
  show e9 (a==b)=_;by_cases h:a=b<;>simp[h]
 cases n<;>exact this
theorem nM (n:Nat):∀a b:List Int,kg (bR n) (a.map D.int) (b.map D.int)=e9 (decide (a=b))
 | [],[]=>by simp[kg]
 | [],_::_=>by simp[kg]
 |_::_,[]=>by simp[kg]
 |x::r,y::t=>by
  show(match bR n (.int x) (.int y),kg (bR n) (r.map D.int) (t.map D.int)with|some a,e9 b=>e9 (a&&b) |_,_=>f7)=_;rw[rk,nM n r t];by_cases c:x=y<;>by_cases d:r=t<;>simp[c,d]
theorem BN (m x a:Int)(b:x=m / 6 % (a+1)):u6 (.lst [.int 1,.int 2,.int 3,.int 2,.int 3,.int x]) (.int (m % 6))=e9 (.val (.int (sizeV m a))):=by
 have h:m % 6=0∨m % 6=1∨m % 6=2∨m % 6=3∨m % 6=4∨m % 6=5:=by omega
 unfold sizeV;subst b;rcases h with h|h|h|h|h|h<;>rw[h]<;>rfl
theorem BM (m a:Int)(h:0≤a):0≤sizeV m a:=by
 unfold sizeV;have:=C9 (m / 6) (b:=a+1) (by omega);split<;>(try split)<;>(try split)<;>(try split)<;>(try split)<;>omega
theorem uz (m a:Int)(h:0≤a):sizeV m a≤a+3:=by
 unfold sizeV;have:=A8 (m / 6) (b:=a+1) (by omega);split<;>(try split)<;>(try split)<;>(try split)<;>(try split)<;>omega
noncomputable def JK (ns:List Int)(b v a n S:Int)(F:List Int)(c d:Option C):l5:=[e9 (.sh (.lst (ns.map D.int))),e9 (.sh (.int b)),e9 (.sh (.int v)),e9 (.sh (.int a)),e9 (.sh (.int n)),e9 (.sh (.int S)),e9 (.ow f6 (.lst (F.map D.int))),c,d]
theorem vA(a:0<v)(g:v<1000):∀(m k:Nat) (c d:Option C),m+k≤2000→∃e f,forL (y7 7) dH ((List.range' k m).map λj=>D.int (0+((j:Nat):Int))) (JK ns b v most n S ((List.range k).map λ(j:Nat)=>qQ (E9 ns (b+1+(j:Int))) v) c d)=e9 (.nx (JK ns b v most n S ((List.range (m+k)).map λ(j:Nat)=>qQ (E9 ns (b+1+(j:Int))) v) e f))
 |0,k,c,d,_=>⟨c,d,by rw[Nat.zero_add];rfl⟩
 |m+1,k,c,d,h=>by
  obtain⟨e,f,ih⟩:=vA a g m (k+1) (e9 (.sh (.int (k:Int)))) (e9 (.sh (.int (E9 ns (b+1+(k:Int)))))) (by omega);refine⟨e,f,?_⟩;rw[List.range'_succ,List.map_cons,v8,Nat.add_right_comm m 1 k];rw[show m+(k+1)=m+k+1 from rfl]at ih;refine E1 rfl (j3 (n3:=JK ns b v most n S ((List.range k).map λ(j:Nat)=>qQ (E9 ns (b+1+(j:Int))) v) (e9 (.sh (.int (k:Int)))) (e9 (.sh (.int (E9 ns (b+1+(k:Int))))))) (l7 (Q8 (g9 (g7 rfl) (g9 (i5 (i5 (g7 rfl) k7 rfl rfl rfl) (g7 rfl) rfl rfl rfl) i8)) rfl rfl pi rfl rfl) rfl) ?_) ih;have i:=C9 (E9 ns (b+1+(k:Int)) / 2) (Int.ne_of_gt a);have l:=A8 (E9 ns (b+1+(k:Int)) / 2) a;refine di rfl (g9 (i5 (i5 k7 (i5 (i5 (g7 rfl) k7 rfl rfl (jX ⟨by decide,by decide⟩)) (g7 rfl) rfl rfl (D5 a)) rfl rfl rfl) (i5 k7 (i5 k7 (i5 (g7 rfl) k7 rfl rfl (D5 (by decide))) rfl rfl (eW (.inl ⟨by decide,by decide⟩))) rfl rfl rfl) rfl rfl (eW (.inl ⟨by omega,by omega⟩))) i8) rfl rfl (o4 (by rw[List.length_map,List.length_map,List.length_range];omega)) ?_;unfold JK;rw[List.range_succ,List.map_append,List.map_append];rfl
theorem xw {ns:List Int}(d:0<v)(e:v<1000)(c:0≤most)(h:most<1000):Q7 [.lst (ns.map D.int),.int b,.int v,.int most]=e9 (.ret (.val (.tup ((X2 ns b v most).map D.int))) []):=by
 show n8 U5 9 [f6,f6,f6,f6] _=_;have a:=BN (E9 ns b) (E9 ns b / 6 % (most+1)) most rfl;have f:=BM (E9 ns b) most c;have g:=uz (E9 ns b) most c;unfold X2;generalize sizeV (E9 ns b) most=S at *;have hi:ints1 [.int S]=e9 ((List.range S.toNat).map λk=>D.int (0+((k:Nat):Int))):=v7 ⟨by omega,by omega⟩;obtain⟨i,j,hl⟩:=vA (ns:=ns) (b:=b) (most:=most) (n:=E9 ns b) (S:=S) d e S.toNat 0 f7 f7 (by omega);rw[←List.range_eq_range']at hl;exact D1 (j3 (l7 (Q8 (g9 (g7 rfl) (g9 (g7 rfl) i8)) rfl rfl pi rfl rfl) rfl) (j3 (l7 (i5 (P4 (g9 k7 (g9 k7 (g9 k7 (g9 k7 (g9 k7 (g9 (i5 (i5 (g7 rfl) k7 rfl rfl (jX ⟨by decide,by decide⟩)) (i5 (g7 rfl) k7 rfl rfl rfl) rfl rfl (D5 (by omega))) i8)))))) rfl (Nat.le_of_ble_eq_true rfl)) (i5 (g7 rfl) k7 rfl rfl (D5 (by decide))) rfl rfl a) rfl) (j3 (l7 (P4 i8 rfl (Nat.le_of_ble_eq_true rfl)) rfl) (j3 (eH (lB (g9 (g7 rfl) i8) rfl hi) hl) (z6 (v4 (g9 (g7 rfl) i8) rfl rfl) rfl))))) rfl
noncomputable def keyed (a:List Int):List (Key×D):=a.map λl=>(.inl l,.bl f8)
theorem gz (ts:List (Int×Int))(k:Int):K5 (l8 ts) (.inl k)=(l4 ts k).map D.int:=by
 induction ts with
 |nil=>rfl
 |cons t r ih=>
  unfold K5 l4 l8 at *;rw[List.map_cons,List.find?_cons,List.find?_cons];by_cases h:t.1=k
  ·simp[h]
  ·have a:decide ((Sum.inl t.1:Key)=Sum.inl k)=f6:=by simp[h]
   simp only[a,decide_eq_false h];exact ih
theorem mQ (a:List Int)(k:Int):(K5 (keyed a) (.inl k)).isSome=decide (k∈a):=by
 induction a with
 |nil=>rfl
 |cons t r ih=>
  unfold K5 keyed at *;rw[List.map_cons,List.find?_cons];by_cases h:t=k
  ·simp[h]
  ·have h':¬k=t:=λe=>h e.symm;have b:decide ((Sum.inl t:Key)=Sum.inl k)=f6:=by simp[h]
   simp only[b];rw[ih];simp[h']
theorem CG:iI ((K5 (l8 ts) (.inl k)).getD .v1) (.int j)=e9 (.val (.bl (decide (l4 ts k≠e9 j)))):=by
 rw[gz];cases l4 ts k with
 |none=>rfl
 |some v=>
  show e9 (W.val (.bl (!(v==j))))=_;by_cases h:v=j<;>simp[h]
theorem nk (a:List Int)(l:Int):putD (keyed a) (.inl l) (.bl f8)=keyed (O7 a l):=by
 unfold putD O7;by_cases h:l∈a
 ·rw[if_pos h,if_pos (by simp[keyed,h])];unfold keyed;rw[List.map_map];apply List.map_congr_left;intro x _;simp
 ·rw[if_neg h,if_neg (by simpa[keyed]using h)];simp[keyed]
theorem cD (a:List Int)(l:Int):(O7 a l).length≤a.length+1:=by unfold O7;split<;>simp
theorem jW(h:ρ[i]?=e9 (e9 (.ow f6 (.dct (keyed a)))))(b:a.length≤900000):cg i (.int l) (.bl f8) ρ=e9 (.nx (ρ.set i (e9 (.ow f6 (.dct (keyed (O7 a l))))))):=by
 unfold cg;rw[h,←nk];exact v7 (by unfold small;rw[show(keyed a).length=a.length from List.length_map _];omega)
noncomputable def JG (ts:List (Int×Int))(b a:List Int)(c:Option C):l5:=[e9 (.sh (.dct (l8 ts))),e9 (.sh (.tup (b.map D.int))),e9 (.ow f6 (.dct (keyed a))),c]
theorem oR:∀(b a:List Int) (e:Option C),a.length+b.length≤1000→∃d,forL (y7 3) jn (b.map D.int) (JG ts ls a e)=e9 (.nx (JG ts ls (b.foldl (Z2 ts) a) d))
 | [],a,e,_=>⟨e,rfl⟩
 |l::b,a,e,g=>by
  rw[List.length_cons]at g;have h:=CG (ts:=ts) (k:=l.natAbs) (j:=-l);have c:p6 (i3 iI (qN (h7 0) (D2 Q9 (g4 (h7 3) j4))) (aZ N1 (h7 3))) (JG ts ls a (e9 (.sh (.int l))))=e9 (.ok (decide (l4 ts l.natAbs≠e9 (-l))) (JG ts ls a (e9 (.sh (.int l))))):=n0 (i5 (vo (g7 rfl) rfl (v4 (g9 (g7 rfl) i8) rfl rfl) rfl rfl rfl) (U2 (g7 rfl) rfl rfl) rfl rfl h);rw[List.foldl_cons];by_cases f:l4 ts l.natAbs=e9 (-l)
  ·obtain⟨d,ih⟩:=oR b a (e9 (.sh (.int l))) (by omega);rw[show Z2 ts a l=a from if_pos f];exact⟨d,E1 rfl (u0 c (decide_eq_false λz=>z f) C8) ih⟩
  ·have i:=cD a l;obtain⟨d,ih⟩:=oR b (O7 a l) (e9 (.sh (.int l))) (by omega);rw[show Z2 ts a l=O7 a l from if_neg f];exact⟨d,E1 rfl (A5 c (decide_eq_true f) (bQ k7 rfl (g7 rfl) rfl rfl (jW rfl (by omega)))) ih⟩
theorem nG{ls:List Int}(h:ls.length≤1000):W0 [.dct (l8 ts),.tup (ls.map D.int)]=e9 (.ret (.own (.lst ((t8 ts ls).map D.int))) []):=by
 show n8 dm 4 [f6,f6] _=_;obtain⟨a,hl⟩:=oR (ts:=ts) (ls:=ls) ls [] f7 (by rw[List.length_nil];omega);have hd:dI [.dct (keyed (t8 ts ls))]=e9 (.own (.lst ((t8 ts ls).map D.int))):=by
  show e9 (W.own (.lst ((keyed _).map λe=>jp e.1)))=_;unfold keyed;rw[List.map_map];rfl
 exact D1 (j3 (l7 fg rfl) (j3 (eH (B0 (g7 rfl) rfl rfl) hl) (z6 (v4 (g9 (g7 rfl) i8) rfl hd) rfl))) rfl
theorem vE (L:List D){A:List Int}(h:∀l∈A,-l∉A):∀(e a:List Int) (o:Option C),a.length+e.length≤1000→(∀l∈a,l∈A)→(∀l∈e,l∈A)→∃b c,forL (y7 2) fM (e.map D.int) [e9 (.sh (.tup L)),e9 (.ow f6 (.dct (keyed a))),o]=e9 (.nx [e9 (.sh (.tup L)),b,c])
 | [],a,o,_,_,_=>⟨_,_,rfl⟩
 |l::e,a,o,j,f,i=>by
  rw[List.length_cons]at j;have m:=cD a l;have hl:=i l List.mem_cons_self;have k:-l∉a:=λz=>h l hl (f _ z);obtain⟨b,c,ih⟩:=vE L h e (O7 a l) (e9 (.sh (.int l))) (by omega) (λx d=>by
   unfold O7 at d;split at d
   ·exact f x d
   ·rcases List.mem_append.mp d with d|d
    ·exact f x d
    ·rw[List.mem_singleton.mp d];exact hl) λx d=>i x (List.mem_cons_of_mem _ d)
  have g:inD (.int (-l)) (.dct (keyed a))=e9 (.val (.bl f6)):=by
   show e9 (W.val (.bl (K5 (keyed a) (.inl (-l))).isSome))=_;rw[mQ,decide_eq_false k]
  exact⟨b,c,E1 rfl (j3 (u0 (n0 (i5 (U2 (g7 rfl) rfl rfl) (g7 rfl) rfl rfl g)) rfl C8) (bQ k7 rfl (g7 rfl) rfl rfl (jW rfl (by omega)))) ih⟩
theorem Df {a:List Int}(h:a.length≤1000)(d:∀l∈a,-l∉a):bq [.tup (a.map D.int)]=e9 (.ret (.val (.bl f6)) []):=by
 show n8 al 3 [f6] _=_;obtain⟨b,c,hl⟩:=vE (a.map D.int) d a [] f7 (by rw[List.length_nil];omega) (λ_ z=>nomatch z) λ_ z=>z;exact D1 (j3 (l7 fg rfl) (j3 (eH (B0 (g7 rfl) rfl rfl) hl) (z6 k7 rfl))) rfl
theorem qz (ts:O1)(k v:Int):putD (l8 ts) (.inl k) (.int v)=l8 (I8 ts k v):=by
 unfold putD I8 l8;have e:((ts.map λkv=>((Sum.inl kv.1:Key),D.int kv.2)).any λkv=>decide (kv.1=Sum.inl k))=ts.any λkv=>decide (kv.1=k):=by
  rw[List.any_map];congr 1;funext kv;simp
 rw[e];split
 ·rw[List.map_map,List.map_map];refine List.map_congr_left λkv _=>?_;by_cases h:kv.1=k
  ·simp[h]
  ·simp[h]
 ·simp
theorem el (ts:O1)(k v:Int):(I8 ts k v).length≤ts.length+1:=by
 unfold I8;split
 ·simp
 ·simp
theorem zj (a:List Int):∀ts:O1,ew (l8 ts) (a.map λl=>((Sum.inl (n7 l):Key),D.int l))=l8 (a.foldl (λts l=>I8 ts (n7 l) l) ts):=by
 induction a with
 |nil=>intro ts;rfl
 |cons l r ih=>
  intro ts;show ew (putD (l8 ts) (.inl (n7 l)) (.int l)) _=_;rw[qz,ih];rfl
theorem sG (a:List Int):V7 (a.map λl=>D.tup [.int (n7 l),.int l])=e9 (a.map λl=>((Sum.inl (n7 l):Key),D.int l)):=by
 induction a with
 |nil=>rfl
 |cons l r ih=>
  show(pairD (.tup [.int (n7 l),.int l])).bind _=_;show(V7 _).map _=_;rw[ih];rfl
theorem nC {ls:List Int}(h:ls.length≤1000):K6 [.lst (ls.map D.int)]=e9 (.ret (.own (.dct (l8 (A0 ls)))) []):=by
 show n8 X1 1 [f6] _=_;have a:C1 (y7 0) F5 (B5 (g4 (D2 Q9 (g4 (h7 0) j4)) (g4 (h7 0) j4))) [f7] (ls.map D.int)=e9 (ls.map λl=>D.tup [.int (n7 l),.int l]):=cz λl _=>⟨[e9 (.sh (.int l))],.val (.tup [.int (n7 l),.int l]),[e9 (.sh (.int l))],[e9 (.sh (.int l))],rfl,u7 (g9 (v4 (g9 (g7 rfl) i8) rfl rfl) (g9 (g7 rfl) i8)) rfl (Nat.le_of_ble_eq_true rfl),rfl⟩;have b:=br (mi:=A3 (h7 0)) (ρ:=B3 1 [f6] [.lst (ls.map D.int)]) (n3:=B3 1 [f6] [.lst (ls.map D.int)]) (own:=1) (fr:=[]) (B0 (g7 rfl) rfl rfl) (o4 (by rw[List.length_map];omega)) a (.inl (by rw[List.all_map,List.all_eq_true];exact λ_ _=>rfl));have hd:aN [.lst (ls.map λl=>D.tup [.int (n7 l),.int l])]=e9 (.own (.dct (l8 (A0 ls)))):=by
  show(V7 _).map _=_;rw[sG];show e9 (W.own (.dct (ew (l8 []) _)))=_;rw[zj];rfl
 exact D1 (z6 (v4 (g9 b i8) rfl hd) rfl) rfl
theorem aw (ts:O1):U0 (.dct (l8 ts))=f8:=by
 show(l8 ts).all _=f8;unfold l8;rw[List.all_map,List.all_eq_true];intro x _;rfl
theorem kq (T:Tab)(k:Int):K5 (n6 T) (.inl k)=(v3 T k).map λc=>D.tup (c.map D.int):=by
 induction T with
 |nil=>rfl
 |cons t r ih=>
  unfold K5 v3 n6 at *;rw[List.map_cons,List.find?_cons,List.find?_cons];by_cases h:t.1=k
  ·simp[h]
  ·have a:decide ((Sum.inl t.1:Key)=Sum.inl k)=f6:=by simp[h]
   simp only[a,decide_eq_false h];exact ih
theorem oS(h:sK T=f8):T.length≤600∧∀kv∈T,kv.2.length≤1000:=by
 unfold sK at h;simp only[k9,decide_eq_true_eq,List.all_eq_true]at h;exact h
theorem D0(h:v3 T k=e9 c):(k,c)∈T:=by
 unfold v3 at h;cases e:T.find? λkv=>decide (kv.1=k)with
 |none=>rw[e]at h;cases h
 |some kv=>
  rw[e]at h;have b:=List.mem_of_find?_eq_some e;have a:=List.find?_some e;simp at a h;rw[←a,←h];exact b
theorem jY (T:Tab)(h:Int):N6 (.int h) (.dct (n6 T))=e9 (.val (.bl (!(v3 T h).isSome))):=by
 show vB (!(K5 (n6 T) (.inl h)).isSome)=_;rw[kq];cases v3 T h<;>rfl
theorem fY(e:v3 T h=e9 c):u6 (.dct (n6 T)) (.int h)=e9 (.val (.tup (c.map D.int))):=by
 show(K5 (n6 T) (.inl h)).map _=_;rw[kq,e];rfl
theorem tw (ts:O1)(k:Int):inD (.int k) (.dct (l8 ts))=e9 (.val (.bl (l4 ts k).isSome)):=by
 show vB (K5 (l8 ts) (.inl k)).isSome=_;rw[gz];cases l4 ts k<;>rfl
theorem kf (a:List Int):M4 (.lst (a.map D.int)) (.lst [])=e9 (.val (.bl a.isEmpty)):=by cases a<;>rfl
theorem av (a:List Int):(dM (.own (.lst (a.map D.int)))&&([]:List D).all U0)=f8:=by
 show(List.all _ _&&f8)=f8;rw[A2];rfl
theorem aG:∀(cs:List (List Int)) (k:Int),(r8 k cs).length=cs.length
 | [],_=>rfl
 |c::cs,k=>by show(r8 (k+1) cs).length+1=_;rw[aG cs];rfl
theorem E8:∀(cs:List (List Int)) (k:Int) (kv:Int×List Int),kv∈r8 k cs→k≤kv.1∧kv.1<k+cs.length∧kv.2∈cs
 |c::cs,k,kv,h=>by
  rcases List.mem_cons.mp h with rfl|h
  ·exact⟨gw _,by simp only[List.length_cons];omega,List.mem_cons_self⟩
  ·obtain⟨a,b,d⟩:=E8 cs (k+1) kv h;exact⟨by omega,by simp only[List.length_cons];omega,List.mem_cons_of_mem _ d⟩
theorem aF:∀(cs:List (List Int)) (k:Int),((r8 k cs).map (·.1)).Nodup
 | [],_=>List.nodup_nil
 |c::cs,k=>by
  show(k::(r8 (k+1) cs).map (·.1)).Nodup;rw[List.nodup_cons];refine⟨λh=>?_,aF cs (k+1)⟩;obtain⟨kv,a,e⟩:=List.mem_map.mp h;have:=(E8 cs (k+1) kv a).1;omega
theorem eX (c:List Int):∀(cs:List (List Int)) (k:Int),r8 k (cs++[c])=r8 k cs++[(k+cs.length,c)]
 | [],k=>by show [(k,c)]=[(k+((0:Nat):Int),c)];rw[show k+((0:Nat):Int)=k by omega]
 |d::cs,k=>by
  show(k,d)::r8 (k+1) (cs++[c])=(k,d)::(r8 (k+1) cs++[(k+((cs.length+1:Nat):Int),c)])
  rw[eX c cs (k+1),show k+1+(cs.length:Int)=k+((cs.length+1:Nat):Int) by omega]
theorem qG:∀(cs:List (List Int)) (k:Int),wG k (x4 cs)=n6 (r8 k cs)
 | [],_=>rfl
 |c::cs,k=>by
  show(Sum.inl k,D.tup (c.map D.int))::wG (k+1) (x4 cs)=_;rw[qG cs];rfl
theorem jV{c:List Int}(h:∀kv∈T,kv.1≠k):putD (n6 T) (.inl k) (.tup (c.map D.int))=n6 (T++[(k,c)]):=by
 unfold putD;rw[if_neg]
 ·unfold n6;rw[List.map_append];rfl
 ·intro e;obtain⟨x,a,hk⟩:=List.any_eq_true.mp e;unfold n6 at a;obtain⟨kv,b,rfl⟩:=List.mem_map.mp a;exact h kv b (GZ (of_decide_eq_true hk))
theorem uO:∀(U T:Tab),((T++U).map (·.1)).Nodup→ew (n6 T) (n6 U)=n6 (T++U)
 | [],T,_=>by rw[List.append_nil];rfl
 |kv::U,T,h=>by
  have hk:∀x∈T,x.1≠kv.1:=λx a e=>by
   rw[List.map_append,List.map_cons,List.nodup_append]at h;exact h.2.2 x.1 (List.mem_map_of_mem a) kv.1 List.mem_cons_self e
  show ew (putD (n6 T) (.inl kv.1) (.tup (kv.2.map D.int))) (n6 U)=_;rw[jV hk,uO U (T++[(kv.1,kv.2)]) (by rw[List.append_assoc];exact h),List.append_assoc];rfl
theorem jt {cs:List (List Int)}(h:cs.length≤1000):N8 [.lst (x4 cs)]=e9 (.ret (.own (.dct (n6 (r8 1 cs)))) []):=by
 show n8 aj 1 [f6] _=_;have a:uL [.lst (x4 cs)]=e9 (.own (.dct (n6 (r8 1 cs)))):=by
  show dL _ (e9 (W.own (.dct (ew (n6 []) (wG 1 (x4 cs))))))=_;rw[qG,uO (r8 1 cs) [] (by rw[List.nil_append];exact aF cs 1),List.nil_append];exact v7 (by rw[cA];omega)
 exact D1 (z6 (v4 (g9 (g7 rfl) i8) rfl a) rfl) rfl
theorem keys_map (T:Tab):((n6 T).map λe=>jp e.1)=(T.map (·.1)).map D.int:=by
 unfold n6;rw[List.map_map,List.map_map];rfl
theorem kc {T:Tab}(hd:(T.map (·.1)).Nodup)(h:kv∈T):v3 T kv.1=e9 kv.2:=by
 induction T with
 |nil=>cases h
 |cons t r ih=>
  rw[List.map_cons,List.nodup_cons]at hd;unfold v3 at *;rw[List.find?_cons];rcases List.mem_cons.mp h with rfl|h
  ·simp
  ·have:t.1≠kv.1:=λe=>hd.1 (by rw[e];exact List.mem_map_of_mem h);simp only[decide_eq_false this];exact ih hd.2 h
theorem oU (ts:O1)(k:Int):N6 (.int k) (.dct (l8 ts))=e9 (.val (.bl (!(l4 ts k).isSome))):=by
 show vB (!(K5 (l8 ts) (.inl k)).isSome)=_;rw[gz];cases l4 ts k<;>rfl
theorem tm(h:l4 ts k=e9 l):u6 (.dct (l8 ts)) (.int k)=e9 (.val (.int l)):=by
 show(K5 (l8 ts) (.inl k)).map _=_;rw[gz,h];rfl
theorem lf (hs:List Int):V9 [.lst (hs.map D.int)]=e9 (.val (.int (hs.length:Nat))):=by
 show e9 (W.val (.int _))=_;rw[List.length_map]
theorem At (ts:O1):(l8 ts).length=ts.length:=List.length_map _
noncomputable def jy (T:Tab)(ts rs:O1)(g:Bool)(a b:Option C):l5:=[e9 (.fz (n6 T)),e9 (.ow f8 (.dct (l8 ts))),e9 (.ow f8 (.dct (l8 rs))),e9 (.sh (.bl g)),a,b]
theorem sC(h:ρ[i]?=e9 (e9 (.ow l (.dct (l8 ts)))))(a:ts.length≤100000):cg i (.int k) (.int v) ρ=e9 (.nx (ρ.set i (e9 (.ow l (.dct (l8 (I8 ts k v))))))):=by
 unfold cg;rw[h];show dL (small (l8 ts).length) (e9 (SR.nx (ρ.set i (e9 (.ow l (.dct (putD (l8 ts) (.inl k) (.int v))))))))=_;rw[qz];exact v7 (by unfold small;rw[At];omega)
theorem eQ(o:sK T=f8)(hd:(T.map (·.1)).Nodup):∀(U:Tab) (ts rs:O1) (g:Bool) (p j:Option C),(∀kv∈U,kv∈T)→ts.length+U.length≤90000→rs.length+U.length≤90000→
  ∃e f,forL (y7 4) jl ((U.map (·.1)).map D.int) (jy T ts rs g p j)=e9 (match M5 ts rs g U with
   | (e9 k,c,d,m)=>SR.rt (.val (.int k)) (jy T c d m e f)
   | (f7,c,d,m)=>SR.nx (jy T c d m e f))
 | [],ts,rs,g,p,j,_,_,_=>⟨p,j,rfl⟩
 |kv::U,ts,rs,g,p,j,q,w,y=>by
  rw[List.length_cons]at w y;have t:=q kv List.mem_cons_self;have hl:=kc hd t;have z:=(oS o).2 _ t;have A:=fY hl;have B:=nG (ts:=ts) z;have E:=av (t8 ts kv.2);have F:=kf (t8 ts kv.2);have ln:=lf (t8 ts kv.2);have s1:n5 5 (o8 [f6,f6] W0 (g4 (h7 1) (g4 (i3 u6 (h7 0) (h7 4)) j4))) (jy T ts rs g (e9 (.sh (.int kv.1))) j)=e9 (.nx (jy T ts rs g (e9 (.sh (.int kv.1))) (e9 (.ow f6 (.lst ((t8 ts kv.2).map D.int)))))):=
   l7 (u8 (g9 (g7 rfl) (g9 (i5 (g7 rfl) (g7 rfl) rfl rfl A) i8)) rfl rfl B rfl E) rfl
  have es:M5 ts rs g (kv::U)=match scan1 ts rs g kv.1 (t8 ts kv.2)with|none=>(e9 kv.1,ts,rs,g) |some (c,d,m)=>M5 c d m U:=rfl
  rw[es];generalize t8 ts kv.2=X at *;have c2:p6 (i3 M4 (h7 5) (N2 j4)) (jy T ts rs g (e9 (.sh (.int kv.1))) (e9 (.ow f6 (.lst (X.map D.int)))))=e9 (.ok X.isEmpty (jy T ts rs g (e9 (.sh (.int kv.1))) (e9 (.ow f6 (.lst (X.map D.int)))))):=n0 (i5 (g7 rfl) (P4 i8 rfl (Nat.le_of_ble_eq_true rfl)) rfl rfl F);have i:p6 (i3 M4 (D2 V9 (g4 (h7 5) j4)) (mC (.int 1))) (jy T ts rs g (e9 (.sh (.int kv.1))) (e9 (.ow f6 (.lst (X.map D.int)))))=e9 (.ok (decide ((X.length:Int)=1)) (jy T ts rs g (e9 (.sh (.int kv.1))) (e9 (.ow f6 (.lst (X.map D.int)))))):=n0 (i5 (v4 (g9 (g7 rfl) i8) rfl ln) k7 rfl rfl (eq_int _ _))
  match X,s1,c2,i with
  | [],s1,c2,i=>exact⟨e9 (.sh (.int kv.1)),e9 (.ow f6 (.lst [])),pf rfl (j3 s1 (U3 (A5 c2 rfl (z6 (g7 rfl) rfl))))⟩
  | [l],s1,c2,i=>
   have G:Q9 [.int l]=e9 (.val (.int (n7 l))):=rfl;have u:∀{ρ:l5},ρ[5]?=e9 (e9 (.ow f6 (.lst [.int l])))→i3 u6 (h7 5) (mC (.int 0)) ρ=e9 (.ok (.val (.int l)) ρ):=λ{ρ} h=>i5 (g7 h) k7 (show getD (.slot 5) ρ=e9 (.lst [.int l]) by unfold getD;simp only[h]) rfl rfl;have r:∀{ρ:l5},ρ[5]?=e9 (e9 (.ow f6 (.lst [.int l])))→D2 Q9 (g4 (i3 u6 (h7 5) (mC (.int 0))) j4) ρ=e9 (.ok (.val (.int (n7 l))) ρ):=λ{ρ} h=>v4 (g9 (u h) i8) rfl G;have H:p6 (i3 N6 (D2 Q9 (g4 (i3 u6 (h7 5) (mC (.int 0))) j4)) (h7 1)) (jy T ts rs g (e9 (.sh (.int kv.1))) (e9 (.ow f6 (.lst [.int l]))))=e9 (.ok (!(l4 ts (n7 l)).isSome) (jy T ts rs g (e9 (.sh (.int kv.1))) (e9 (.ow f6 (.lst [.int l]))))):=n0 (i5 (r rfl) (g7 rfl) rfl rfl (oU ts (n7 l)));have v:=pv (c2:=p6 (i3 N6 (D2 Q9 (g4 (i3 u6 (h7 5) (mC (.int 0))) j4)) (h7 1))) i H;by_cases hs:(l4 ts (n7 l)).isSome=f8
   ·obtain⟨e,f,ih⟩:=eQ o hd U ts rs g (e9 (.sh (.int kv.1))) (e9 (.ow f6 (.lst [.int l]))) (λx n=>q x (List.mem_cons_of_mem _ n)) (by omega) (by omega);refine⟨e,f,?_⟩;rw[show scan1 ts rs g kv.1 [l]=e9 (ts,rs,g)from if_pos hs];exact E1 rfl (j3 s1 (j3 (u0 c2 rfl C8) (u0 v (by rw[hs];simp) C8))) ih
   ·have s:(l4 ts (n7 l)).isSome=f6:=by simpa using hs
    have L:=el ts (n7 l) l;have N:=el rs (n7 l) kv.1;obtain⟨e,f,ih⟩:=eQ o hd U (I8 ts (n7 l) l) (I8 rs (n7 l) kv.1) f8 (e9 (.sh (.int kv.1))) (e9 (.ow f6 (.lst [.int l]))) (λx n=>q x (List.mem_cons_of_mem _ n)) (by omega) (by omega);refine⟨e,f,?_⟩;rw[show scan1 ts rs g kv.1 [l]=e9 (I8 ts (n7 l) l,I8 rs (n7 l) kv.1,f8)from if_neg hs];have I:dR 1 (i3 u6 (h7 5) (mC (.int 0))) (D2 Q9 (g4 (i3 u6 (h7 5) (mC (.int 0))) j4)) (jy T ts rs g (e9 (.sh (.int kv.1))) (e9 (.ow f6 (.lst [.int l]))))=e9 (.nx (jy T (I8 ts (n7 l) l) rs g (e9 (.sh (.int kv.1))) (e9 (.ow f6 (.lst [.int l]))))):=bQ (u rfl) rfl (r rfl) rfl rfl (sC rfl (by omega));have J:dR 2 (h7 4) (D2 Q9 (g4 (i3 u6 (h7 5) (mC (.int 0))) j4)) (jy T (I8 ts (n7 l) l) rs g (e9 (.sh (.int kv.1))) (e9 (.ow f6 (.lst [.int l]))))=e9 (.nx (jy T (I8 ts (n7 l) l) (I8 rs (n7 l) kv.1) g (e9 (.sh (.int kv.1))) (e9 (.ow f6 (.lst [.int l]))))):=bQ (g7 rfl) rfl (r rfl) rfl rfl (sC rfl (by omega));exact E1 rfl (j3 s1 (j3 (u0 c2 rfl C8) (A5 v (by rw[s];simp) (j3 I (j3 J (l7 k7 rfl)))))) ih
  |a::b::X,s1,c2,i=>
   obtain⟨e,f,ih⟩:=eQ o hd U ts rs g (e9 (.sh (.int kv.1))) (e9 (.ow f6 (.lst ((a::b::X).map D.int)))) (λx n=>q x (List.mem_cons_of_mem _ n)) (by omega) (by omega);exact⟨e,f,E1 rfl (j3 s1 (j3 (u0 c2 rfl C8) (u0 (vq i (by simp;omega)) rfl C8))) ih⟩
theorem scan_len:∀(U:Tab) (ts rs:O1) (g:Bool),(M5 ts rs g U).2.1.length≤ts.length+U.length∧(M5 ts rs g U).2.2.1.length≤rs.length+U.length
 | [],ts,rs,g=>⟨Nat.le_refl _,Nat.le_refl _⟩
 |kv::U,ts,rs,g=>by
  have es:M5 ts rs g (kv::U)=match scan1 ts rs g kv.1 (t8 ts kv.2)with|none=>(e9 kv.1,ts,rs,g) |some (c,d,e)=>M5 c d e U:=rfl
  rw[es,List.length_cons];generalize t8 ts kv.2=X
  match X with
  | []=>exact⟨by show ts.length≤_;omega,by show rs.length≤_;omega⟩
  | [l]=>
   by_cases hs:(l4 ts (n7 l)).isSome=f8
   ·rw[show scan1 ts rs g kv.1 [l]=e9 (ts,rs,g)from if_pos hs];have:=scan_len U ts rs g;exact⟨by show(M5 ts rs g U).2.1.length≤_;omega,by show(M5 ts rs g U).2.2.1.length≤_;omega⟩
   ·rw[show scan1 ts rs g kv.1 [l]=e9 (I8 ts (n7 l) l,I8 rs (n7 l) kv.1,f8)from if_neg hs];have:=scan_len U (I8 ts (n7 l) l) (I8 rs (n7 l) kv.1) f8;have f:=el ts (n7 l) l;have h:=el rs (n7 l) kv.1;exact⟨by show(M5 (I8 ts (n7 l) l) (I8 rs (n7 l) kv.1) f8 U).2.1.length≤_;omega,by show(M5 (I8 ts (n7 l) l) (I8 rs (n7 l) kv.1) f8 U).2.2.1.length≤_;omega⟩
  |a::b::X=>
   have:=scan_len U ts rs g;exact⟨by show(M5 ts rs g U).2.1.length≤_;omega,by show(M5 ts rs g U).2.2.1.length≤_;omega⟩
theorem iX(j:sK T=f8)(hd:(T.map (·.1)).Nodup):∀(n:Nat) (ts rs:O1) (c d:Option C) (r:Option Int×O1×O1),n≤100→ts.length+600*n≤70000→rs.length+600*n≤70000→R7 T n ts rs=e9 r→
  ∃g f i,C3 (T0 (h7 3)) jk (n+1) (jy T ts rs f8 c d)=e9 (match r with
   | (e9 k,a,b)=>SR.rt (.val (.int k)) (jy T a b g f i)
   | (f7,a,b)=>SR.nx (jy T a b g f i))
 |0,ts,rs,c,d,r,_,_,_,h=>by cases h
 |n+1,ts,rs,c,d,r,x,y,z,h=>by
  have A:=(oS j).1;obtain⟨f,i,m⟩:=eQ j hd T ts rs f6 c d (λ_ h=>h) (by omega) (by omega);have sl:=scan_len T ts rs f6;have l:T0 (h7 3) (jy T ts rs f8 c d)=e9 (.ok f8 (jy T ts rs f8 c d)):=z5 (g7 rfl) rfl rfl;have s0:n5 3 (mC (.bl f6)) (jy T ts rs f8 c d)=e9 (.nx (jy T ts rs f6 c d)):=l7 k7 rfl;have o:nq 0 (jy T ts rs f6 c d)=e9 (.ok ((T.map (·.1)).map D.int) (jy T ts rs f6 c d)):=by
   rw[←keys_map];exact Dg rfl
  have e:=j3 s0 (eH o m);have p:R7 T (n+1) ts rs=match M5 ts rs f6 T with
   | (e9 k,a,b,_)=>e9 (e9 k,a,b)
   | (f7,a,b,f6)=>e9 (f7,a,b)
   | (f7,a,b,f8)=>R7 T n a b:=rfl
  rw[p]at h
  match q:M5 ts rs f6 T,h,e with
  | (e9 k,a,b,s),h,e=>
   cases h;exact⟨s,f,i,jR l e⟩
  | (f7,a,b,f6),h,e=>
   cases h;exact⟨f6,f,i,gy l e (By (z5 (g7 rfl) rfl rfl))⟩
  | (f7,a,b,f8),h,e=>
   rw[q]at sl;have t:a.length≤_:=sl.1;have u:b.length≤_:=sl.2;obtain⟨g,v,w,ih⟩:=iX j hd n a b f i r (by omega) (by omega) (by omega) h;exact⟨g,v,w,gy l e ih⟩
theorem xt{ts rs:O1}(d:sK T=f8)(e:(T.map (·.1)).Nodup)(j:ts.length≤1000)(l:rs.length≤1000)(h:R7 T 99 ts rs=e9 r):au [.dct (n6 T),.dct (l8 ts),.dct (l8 rs)]=e9 (.ret (.val (wA r.1)) [.dct (l8 r.2.1),.dct (l8 r.2.2)]):=by
 show jf dj 6 [f6,f8,f8] 0 _=_;have f:=d;have i:=e;obtain⟨g,m,n,a⟩:=iX f i 99 ts rs f7 f7 r (by omega) (by omega) (by omega) h;have s1:n5 3 (mC (.bl f8)) (Aa 0 (B3 6 [f6,f8,f8] [.dct (n6 T),.dct (l8 ts),.dct (l8 rs)]))=e9 (.nx (jy T ts rs f8 f7 f7)):=l7 k7 rfl
 match r,a with
 | (e9 k,b,c),a=>exact uD (j3 s1 (U3 a)) rfl
 | (f7,b,c),a=>exact uD (j3 s1 (j3 a (z6 k7 rfl))) rfl
theorem ci:∀(a nd:List Int),ew (keyed nd) (keyed a)=keyed (a.foldl O7 nd)
 | [],nd=>rfl
 |k::a,nd=>by
  show ew (putD (keyed nd) (.inl k) (.bl f8)) (keyed a)=_;rw[nk,ci a];rfl
theorem cV:∀a:List Int,V7 (a.map λk=>D.tup [.int k,.bl f8])=e9 (keyed a)
 | []=>rfl
 |k::a=>by
  show(pairD (.tup [.int k,.bl f8])).bind _=_;show(V7 _).map _=_;rw[cV a];rfl
theorem eY (a:List Int):(keyed a).length=a.length:=List.length_map _
theorem eG:∀(a nd:List Int),(a.foldl O7 nd).length≤nd.length+a.length
 | [],nd=>Nat.le_refl _
 |k::a,nd=>by
  have b:=eG a (O7 nd k);have c:=cD nd k;rw[List.foldl_cons,List.length_cons];omega
theorem rM (c:List Int):(am c).length≤c.length:=by
 have:=eG (c.map n7) [];rw[List.length_map,List.length_nil,Nat.zero_add]at this;exact this
theorem rL{c:List Int}(hi:d ρ=e9 (.ok (c.map D.int) ρ))(e:c.length≤1000):D2 aN (g4 (B9 d (y7 0) F5 (B5 (g4 (D2 Q9 (g4 (h7 0) j4)) (g4 (mC (.bl f8)) j4))) 1 []) j4) ρ=e9 (.ok (.own (.dct (keyed (am c)))) ρ):=by
 have a:C1 (y7 0) F5 (B5 (g4 (D2 Q9 (g4 (h7 0) j4)) (g4 (mC (.bl f8)) j4))) (Z1 1 [] ρ) (c.map D.int)=e9 (c.map λl=>D.tup [.int (n7 l),.bl f8]):=by
  apply cz;intro l _;exact⟨[e9 (.sh (.int l))],.val (.tup [.int (n7 l),.bl f8]),[e9 (.sh (.int l))],[e9 (.sh (.int l))],rfl,u7 (g9 (v4 (g9 (g7 rfl) i8) rfl rfl) (g9 k7 i8)) rfl (Nat.le_of_ble_eq_true rfl),rfl⟩
 have b:(c.map λl=>D.tup [.int (n7 l),.bl f8]).all U1=f8:=by
  rw[List.all_map,List.all_eq_true];intro x _;rfl
 have m:=br (own:=1) (fr:=[]) hi (o4 (by rw[List.length_map];omega)) a (.inl b);have hd:aN [.lst (c.map λl=>D.tup [.int (n7 l),.bl f8])]=e9 (.own (.dct (keyed (am c)))):=by
  show(V7 _).map _=_;rw[show(c.map λl=>D.tup [.int (n7 l),.bl f8])=(c.map n7).map (λk=>D.tup [.int k,.bl f8]) by rw[List.map_map];rfl,cV];show e9 (W.own (.dct (ew (keyed []) (keyed (c.map n7)))))=_;rw[ci];rfl
 exact v4 (g9 m i8) rfl hd
theorem in_keyed (nd:List Int)(k:Int):inD (.int k) (.dct (keyed nd))=e9 (.val (.bl (decide (k∈nd)))):=by
 show vB (K5 (keyed nd) (.inl k)).isSome=_;rw[mQ];rfl
theorem yi (a:List Int)(l:Int):(a++[l]).map D.int=a.map D.int++[D.int l]:=by simp
noncomputable def uU (T:Tab)(ch:List Int)(ts rs:O1)(k:Int)(nd hs:List Int)(a:Option C):l5:=[e9 (.sh (.dct (n6 T))),e9 (.sh (.lst (ch.map D.int))),e9 (.sh (.dct (l8 ts))),e9 (.sh (.dct (l8 rs))),e9 (.sh (.int k)),e9 (.ow f6 (.dct (keyed nd))),e9 (.ow f6 (.lst (hs.map D.int))),a,f7]
theorem iT(e:∀kv∈T,kv.2.length≤100):∀(xs hs nd:List Int) (d:Option C) (r:List Int×List Int),hs.length+xs.length≤1000→nd.length+100*xs.length≤90000→U9 T rs xs hs nd=e9 r→
  ∃b,forL (y7 7) hB (xs.map D.int) (uU T ch ts rs k nd hs d)=e9 (.nx (uU T ch ts rs k r.2 r.1 b))
 | [],hs,nd,d,r,_,_,h=>by cases h;exact⟨d,rfl⟩
 |x::xs,hs,nd,d,r,l,m,h=>by
  rw[List.length_cons]at l m;have n:p6 (i3 inD (h7 7) (h7 5)) (uU T ch ts rs k nd hs (e9 (.sh (.int x))))=e9 (.ok (decide (x∈nd)) (uU T ch ts rs k nd hs (e9 (.sh (.int x))))):=n0 (i5 (g7 rfl) (g7 rfl) rfl rfl (in_keyed nd x));have o:p6 (i3 inD (h7 7) (h7 3)) (uU T ch ts rs k nd hs (e9 (.sh (.int x))))=e9 (.ok (l4 rs x).isSome (uU T ch ts rs k nd hs (e9 (.sh (.int x))))):=n0 (i5 (g7 rfl) (g7 rfl) rfl rfl (tw rs x));have g:=pv n o;have p:U9 T rs (x::xs) hs nd=if x∈nd∧(l4 rs x).isSome=f8 then(v3 T ((l4 rs x).getD 0)).bind λc=>U9 T rs xs (hs++[(l4 rs x).getD 0]) ((am c).foldl O7 nd)else U9 T rs xs hs nd:=rfl
  rw[p]at h;by_cases a:x∈nd∧(l4 rs x).isSome=f8
  ·rw[if_pos a]at h;obtain⟨q,f⟩:=A6.mp a.2;rw[f]at h;have h:(v3 T q).bind (λc=>U9 T rs xs (hs++[q]) ((am c).foldl O7 nd))=e9 r:=h;obtain⟨c,i,h⟩:=B7.mp h;have cl:=e _ (D0 i);have cl:c.length≤100:=cl;have t:=rM c;have u:=eG (am c) nd;obtain⟨b,ih⟩:=iT e (ch:=ch) (ts:=ts) (k:=k) xs (hs++[q]) ((am c).foldl O7 nd) (e9 (.sh (.int x))) r (by rw[List.length_append,List.length_singleton];omega) (by omega) h;refine⟨b,E1 rfl (A5 g (by rw[decide_eq_true a.1,a.2];rfl) (j3 (n3:=uU T ch ts rs k nd (hs++[q]) (e9 (.sh (.int x)))) ?_ ?_)) ih⟩
   ·refine di rfl (g9 (i5 (g7 rfl) (g7 rfl) rfl rfl (tm f)) i8) rfl rfl (o4 (by rw[List.length_map];omega)) ?_;unfold uU;rw[yi];rfl
   ·refine nH rfl (g9 (rL (c:=c) (B0 (i5 (g7 rfl) (i5 (g7 rfl) (g7 rfl) rfl rfl (tm f)) rfl rfl (fY i)) rfl rfl) (by omega)) i8) rfl rfl (o4 (by rw[eY,eY];omega)) ?_;rw[ci];rfl
  ·rw[if_neg a]at h;obtain⟨b,ih⟩:=iT e (ch:=ch) (ts:=ts) (k:=k) xs hs nd (e9 (.sh (.int x))) r (by omega) (by omega) h;refine⟨b,E1 rfl (u0 g ?_ C8) ih⟩;by_cases j:x∈nd
   ·have:(l4 rs x).isSome=f6:=by
     cases s:(l4 rs x).isSome with
     |false=>rfl
     |true=>exact absurd ⟨j,s⟩ a
    rw[this,gk]
   ·rw[decide_eq_false j,bV]
theorem ib:∀(xs hs nd:List Int) (r:List Int×List Int),U9 T rs xs hs nd=e9 r→r.1.length≤hs.length+xs.length
 | [],hs,nd,r,h=>by cases h;exact Nat.le_refl _
 |x::xs,hs,nd,r,h=>by
  have a:U9 T rs (x::xs) hs nd=if x∈nd∧(l4 rs x).isSome=f8 then(v3 T ((l4 rs x).getD 0)).bind λc=>U9 T rs xs (hs++[(l4 rs x).getD 0]) ((am c).foldl O7 nd)else U9 T rs xs hs nd:=rfl
  rw[a]at h;rw[List.length_cons];split at h
  ·obtain⟨c,b,h⟩:=B7.mp h;have:=ib xs _ _ r h;rw[List.length_append,List.length_singleton]at this;omega
  ·have:=ib xs _ _ r h;omega
theorem wP (ts:O1):dI [.dct (l8 ts)]=e9 (.own (.lst ((ts.map (·.1)).map D.int))):=by
 show e9 (W.own (.lst ((l8 ts).map λe=>jp e.1)))=_;unfold l8;rw[List.map_map,List.map_map];rfl
theorem tM{ch:List Int}{ts rs:O1}(u:sK T=f8)(v:ch.length≤1000)(w:ts.length≤20)(x:rs.length≤1000)(i:(T.all λkv=>decide (kv.2.length≤100))=f8)(h:bO T ch ts rs k=e9 r):
  aL [.dct (n6 T),.lst (ch.map D.int),.dct (l8 ts),.dct (l8 rs),.int k]=e9 (.ret (.val (m7 (((T.length+1:Nat):Int),r.1,r.2))) []):=by
 show n8 bt 9 [f6,f6,f6,f6,f6] _=_;have j:=i;have b:=h;have d:∀kv∈T,kv.2.length≤100:=λkv m=>of_decide_eq_true (List.all_eq_true.mp j kv m);obtain⟨c,e,b⟩:=B7.mp b;obtain⟨q,f,rfl⟩:=h9.mp b;have cl:c.length≤100:=d _ (D0 e);have y:=rM c;obtain⟨g,n⟩:=iT (ch:=ch) (ts:=ts) (k:=k) d (ts.map (·.1)).reverse [k] (am c) f7 q (by rw[List.length_reverse,List.length_map,List.length_singleton];omega) (by rw[List.length_reverse,List.length_map];omega) f;have bl:=ib _ _ _ _ f;rw[List.length_reverse,List.length_map,List.length_singleton]at bl;have s1:n5 5 (D2 aN (g4 (B9 (A3 (i3 u6 (h7 0) (h7 4))) (y7 0) F5 (B5 (g4 (D2 Q9 (g4 (h7 0) j4)) (g4 (mC (.bl f8)) j4))) 1 []) j4)) (B3 9 [f6,f6,f6,f6,f6] [.dct (n6 T),.lst (ch.map D.int),.dct (l8 ts),.dct (l8 rs),.int k])=e9 (.nx [e9 (.sh (.dct (n6 T))),e9 (.sh (.lst (ch.map D.int))),e9 (.sh (.dct (l8 ts))),e9 (.sh (.dct (l8 rs))),e9 (.sh (.int k)),e9 (.ow f6 (.dct (keyed (am c)))),f7,f7,f7]):=l7 (rL (c:=c) (B0 (i5 (g7 rfl) (g7 rfl) rfl rfl (fY e)) rfl rfl) (by omega)) rfl;have s2:n5 6 (N2 (g4 (h7 4) j4)) [e9 (.sh (.dct (n6 T))),e9 (.sh (.lst (ch.map D.int))),e9 (.sh (.dct (l8 ts))),e9 (.sh (.dct (l8 rs))),e9 (.sh (.int k)),e9 (.ow f6 (.dct (keyed (am c)))),f7,f7,f7]=e9 (.nx (uU T ch ts rs k (am c) [k] f7)):=l7 (P4 (g9 (g7 rfl) i8) rfl (Nat.le_of_ble_eq_true rfl)) rfl;have hr:sW (g4 (D2 dI (g4 (h7 2) j4)) j4) (uU T ch ts rs k (am c) [k] f7)=e9 (.ok ((ts.map (·.1)).reverse.map D.int) (uU T ch ts rs k (am c) [k] f7)):=by
  rw[List.map_reverse];exact pj (n3:=uU T ch ts rs k (am c) [k] f7) (g9 (v4 (g9 (g7 rfl) i8) rfl (wP ts)) i8) rfl
 have a:C1 (y7 0) (p6 (i3 inD (D2 Q9 (g4 (h7 0) j4)) (h7 1))) (aZ N1 (h7 0)) [f7,e9 (.sh (.dct (keyed q.2)))] (ch.map D.int)=e9 ((ch.filter λl=>decide (n7 l∈q.2)).map λl=>D.int (-l)):=by
  apply ax;intro l _;exact turn_if (n3:=[e9 (.sh (.int l)),e9 (.sh (.dct (keyed q.2)))]) (x2:=[e9 (.sh (.int l)),e9 (.sh (.dct (keyed q.2)))]) rfl (n0 (i5 (v4 (g9 (g7 rfl) i8) rfl rfl) (g7 rfl) rfl rfl (in_keyed q.2 (n7 l)))) (λ_=>⟨_,_,_,U2 (g7 rfl) rfl rfl,rfl⟩)
 rw[show((ch.filter λl=>decide (n7 l∈q.2)).map λl=>D.int (-l))=((ch.filter λl=>decide (n7 l∈q.2)).map λl=>-l).map D.int by rw[List.map_map];rfl]at a;have o:=br (mi:=A3 (h7 1)) (own:=1) (fr:=[5]) (ρ:=uU T ch ts rs k q.2 q.1 g) (n3:=uU T ch ts rs k q.2 q.1 g) (B0 (g7 rfl) rfl rfl) (o4 (by rw[List.length_map];omega)) a (.inl (A2 _));generalize p:(ch.filter λl=>decide (n7 l∈q.2)).map (λl=>-l)=s at *;have ln:V9 [.dct (n6 T)]=e9 (.val (.int (T.length:Nat))):=by
  show e9 (W.val (.int ((n6 T).length:Nat)))=_;rw[show(n6 T).length=T.length from List.length_map _]
 have ad:z7 (.int (T.length:Nat)) (.int 1)=e9 (.val (.int ((T.length+1:Nat):Int))):=by
  show e9 (W.val (.int _))=_;rw[show((T.length:Nat):Int)+1=((T.length+1:Nat):Int) by omega]
 have t:jS [.lst (q.1.map D.int)]=e9 (.val (.tup (q.1.reverse.map D.int))):=by
  show e9 (W.val (.tup (q.1.map D.int).reverse))=_;rw[←List.map_reverse]
 exact D1 (j3 s1 (j3 s2 (j3 (eH hr n) (j3 (l7 o rfl) (z6 (u7 (g9 k7 (g9 (i5 (v4 (g9 (g7 rfl) i8) rfl ln) k7 rfl rfl ad) (g9 (v4 (g9 (g7 rfl) i8) rfl rfl) (g9 (v4 (g9 (g7 rfl) i8) rfl t) i8)))) rfl (Nat.le_of_ble_eq_true rfl)) rfl))))) rfl
theorem ke (a:List Int):M4 (.tup (a.map D.int)) (.tup [])=e9 (.val (.bl a.isEmpty)):=by cases a<;>rfl
theorem nK (d:Int):∀ds:List Int,gd (.int d) (ds.map D.int)=e9 (ds.map λx=>decide (x=d))
 | []=>rfl
 |x::xs=>by
  show(match bR 7 (.int x) (.int d),gd (.int d) (xs.map D.int)with|some a,e9 b=>e9 (a::b) |_,_=>f7)=_;rw[nK d xs,rk];rfl
theorem lz:∀{ds:List Int},d∈ds→∃j:Nat,W1 (ds.map λx=>decide (x=d))=e9 j∧ds.take j=ds.takeWhile (λx=>!decide (x=d))
 |x::xs,h=>by
  by_cases e:x=d
  ·refine⟨0,?_,?_⟩
   ·rw[List.map_cons,decide_eq_true e];rfl
   ·rw[List.takeWhile_cons_of_neg (by simp[e])];rfl
  ·have h':d∈xs:=by
    rcases List.mem_cons.mp h with z|z
    ·exact absurd z.symm e
    ·exact z
   obtain⟨j,a,b⟩:=lz h';refine⟨j+1,?_,?_⟩
   ·rw[List.map_cons,decide_eq_false e];show(W1 _).map _=_;rw[a];rfl
   ·rw[List.takeWhile_cons_of_pos (by simp[e]),List.take_succ_cons,b]
theorem zF {ds:List Int}(h:W1 (ds.map λx=>decide (x=d))=e9 j):lm (.lst (ds.map D.int)) [.int d]=e9 (.val (.int (j:Int))):=by
 show(gd (.int d) (ds.map D.int)).bind _=_;rw[nK];show(W1 _).bind _=_;rw[h];rfl
theorem ym (hs:List Int)(k:Nat):EY (.lst (hs.map D.int)) f7 (e9 (k:Int))=e9 (.own (.lst ((hs.take k).map D.int))):=by
 show e9 (W.own (.lst (cutD _ f7 (e9 (k:Int)))))=_;unfold cutD;rw[L3.GJ,List.map_take]
theorem zB {c:List Int}(h:c.getLast?=e9 l):u6 (.tup (c.map D.int)) (.int (-1))=e9 (.val (.int l)):=by
 obtain⟨d,rfl⟩:=List.getLast?_eq_some_iff.mp h;rw[yi];show(L2.fA (d.map D.int++[D.int l]) (-1)).map W.val=_;rw[rH];rfl
theorem zd(h:CB cs st ch=f8):cs.length≤500∧st.length≤500∧ch.length≤20∧∀c∈cs,c.length≤100:=by
 unfold CB at h;simp only[k9,decide_eq_true_eq,List.all_eq_true]at h;exact⟨h.1.1,h.1.2.1,h.1.2.2,h.2⟩
theorem CA {cs:List (List Int)}(a:cs.length≤600)(b:∀c∈cs,c.length≤100):sK (r8 1 cs)=f8:=by
 unfold sK;rw[k9,aG,List.all_eq_true];refine⟨decide_eq_true a,λkv d=>decide_eq_true ?_⟩;have:=b _ (E8 cs 1 kv d).2.2;omega
theorem DB(a:∀c∈cs,c.length≤100):((r8 1 cs).all λkv=>decide (kv.2.length≤100))=f8:=List.all_eq_true.mpr λkv b=>decide_eq_true (a _ (E8 cs 1 kv b).2.2)
theorem ra (s:aT):U1 (m7 s)=f8:=by
 have a:=cw s.2.1;have b:=cw s.2.2;have c:(s.2.1.map D.int).all (hW 4)=f8:=by rw[List.all_map,List.all_eq_true];intro x _;rfl
 have d:(s.2.2.map D.int).all (hW 4)=f8:=by rw[List.all_map,List.all_eq_true];intro x _;rfl
 show(f8&&(f8&&((s.2.1.map D.int).all (hW 4)&&((s.2.2.map D.int).all (hW 4)&&f8))))=f8;rw[c,d];rfl
theorem fS:∀(a:List Int) (ts:O1),(a.foldl (λts l=>I8 ts (n7 l) l) ts).length≤ts.length+a.length
 | [],ts=>Nat.le_refl _
 |l::a,ts=>by
  have b:=fS a (I8 ts (n7 l) l);have c:=el ts (n7 l) l;rw[List.foldl_cons,List.length_cons];omega
noncomputable def dP (v:Int)(cs0 cs:List (List Int))(st:List aT)(ch:List Int)(b c d e f a:Option C):l5:=[e9 (.sh (.int v)),e9 (.sh (.lst (x4 cs0))),e9 (.ow f6 (.dct (n6 (r8 1 cs)))),e9 (.ow f6 (.lst (st.map m7))),e9 (.ow f6 (.lst (ch.map D.int))),b,c,d,e,f,a]
theorem mP {v:Int}(a:0≤v)(b:v≤1000){ρ:l5}(h:ρ[0]?=e9 (e9 (.sh (.int v)))):X7 ints2 (g4 (mC (.int 1)) (g4 (i3 z7 (h7 0) (mC (.int 1))) j4)) ρ=e9 (.ok (((List.range v.toNat).map λk=>(1:Int)+((k:Nat):Int)).map D.int) ρ):=by
 have g0:getD (.slot 0) ρ=e9 (.int v):=by unfold getD;simp only[h]
 have hi:ints2 [.int 1,.int (v+1)]=e9 (((List.range v.toNat).map λk=>(1:Int)+((k:Nat):Int)).map D.int):=by
  show dL _ (e9 ((List.range (v+1-1).toNat).map λk=>D.int (1+((k:Nat):Int))))=_;rw[show v+1-1=v by omega,List.map_map];exact v7 ⟨by omega,by omega,by omega,by omega⟩
 exact lB (g9 k7 (g9 (i5 (g7 h) k7 g0 rfl rfl) i8)) rfl hi
theorem xC (ts:O1)(xs:List Int):C1 (y7 0) (p6 (i3 N6 (h7 0) (h7 1))) (h7 0) [f7,e9 (.sh (.dct (l8 ts)))] (xs.map D.int)=e9 ((xs.filter λx=>!(l4 ts x).isSome).map D.int):=by
 apply ax;intro x _;exact turn_if (n3:=[e9 (.sh (.int x)),e9 (.sh (.dct (l8 ts)))]) (x2:=[e9 (.sh (.int x)),e9 (.sh (.dct (l8 ts)))]) rfl (n0 (i5 (g7 rfl) (g7 rfl) rfl rfl (oU ts x))) (λ_=>⟨_,_,_,g7 rfl,rfl⟩)
theorem xB {ts:O1}{xs:List Int}(h:∀x∈xs,(l4 ts x).isSome=f8):C1 (y7 0) F5 (i3 u6 (h7 1) (h7 0)) [f7,e9 (.sh (.dct (l8 ts)))] (xs.map D.int)=e9 ((xs.map λx=>(l4 ts x).getD 0).map D.int):=by
 rw[List.map_map];apply cz;intro x b;obtain⟨q,a⟩:=A6.mp (h x b);refine⟨[e9 (.sh (.int x)),e9 (.sh (.dct (l8 ts)))],.val (.int q),[e9 (.sh (.int x)),e9 (.sh (.dct (l8 ts)))],[e9 (.sh (.int x)),e9 (.sh (.dct (l8 ts)))],rfl,i5 (g7 rfl) (g7 rfl) rfl rfl (tm a),?_⟩;show e9 (R'.ok (D.int q) _)=e9 (.ok (D.int ((l4 ts x).getD 0)) _);rw[a];rfl
theorem ef(F:0≤v)(G:v≤1000)(cs0:List (List Int)):∀(n:Nat) (cs:List (List Int)) (st:List aT) (ch:List Int) (H u m i g f:Option C) (r:Option (List Int)×List aT),v6 v n cs st ch=e9 r→
  ∃a b ρ,C3 (T0 (mC (.bl f8))) jm (n+1) (dP v cs0 cs st ch H u m i g f)=e9 (.rt (.val (.tup [ID r.1,.lst (r.2.map m7)])) (a::b::ρ))
 |0,cs,st,ch,H,u,m,i,g,f,r,h=>by cases h
 |n+1,cs,st,ch,H,u,m,i,g,f,r,h=>by
  have eV:v6 v (n+1) cs st ch=if CB cs st ch=f8 then match R7 (r8 1 cs) 99 (A0 ch) []with
   |none=>f7
   |some (e9 k,ts,rs)=>if ts.length≤20∧rs.length≤1000 then match bO (r8 1 cs) ch ts rs k with
    |none=>f7
    |some (c,hs)=>match c.getLast? with
     |none=>e9 (f7,st++[(((cs.length+1:Nat):Int),c,hs)])
     |some l=>if -l∈ch then v6 v n (cs++[c]) (st++[(((cs.length+1:Nat):Int),c,hs)]) (ch.takeWhile λx=>!decide (x=-l))else f7
    else f7
   |some (f7,ts,rs)=>match F6 v ts with
    | []=>e9 (e9 (kr v ts),[])
    |x::_=>v6 v n cs st (ch++[-x])
   else f7:=rfl
  rw[eV]at h;by_cases hok:CB cs st ch=f8
  ·rw[if_pos hok]at h;obtain⟨k1,k2,k3,Y⟩:=zd hok;have Z:=CA (by omega:cs.length≤600) Y;have P:=aF cs 1;have tl:(A0 ch).length≤ch.length:=by
    have:=fS ch [];rw[List.length_nil,Nat.zero_add]at this;exact this
   have I:∀{ρ:l5},T0 (mC (.bl f8)) ρ=e9 (.ok f8 ρ):=λ{ρ}=>z5 k7 rfl rfl;have J:n5 5 (o8 [f6] K6 (g4 (h7 4) j4)) (dP v cs0 cs st ch H u m i g f)=e9 (.nx (dP v cs0 cs st ch (e9 (.ow f6 (.dct (l8 (A0 ch))))) u m i g f)):=l7 (u8 (g9 (g7 rfl) i8) rfl rfl (nC (by omega)) rfl (by rw[k9];exact⟨aw _,rfl⟩)) rfl;have L:n5 6 gZ (dP v cs0 cs st ch (e9 (.ow f6 (.dct (l8 (A0 ch))))) u m i g f)=e9 (.nx (dP v cs0 cs st ch (e9 (.ow f6 (.dct (l8 (A0 ch))))) (e9 (.ow f6 (.dct (l8 [])))) m i g f)):=l7 fg rfl;cases hs:R7 (r8 1 cs) 99 (A0 ch) []with
   |none=>rw[hs]at h;cases h
   |some q=>
    rw[hs]at h;have fs:=xt Z P (by omega) (by rw[List.length_nil];omega) hs;obtain⟨o,ts,rs⟩:=q;have fq:(dM (.val (wA o))&&([D.dct (l8 ts),D.dct (l8 rs)]).all U0)=f8:=by
     rw[k9];refine⟨by cases o<;>rfl,?_⟩;show(U0 _&&(U0 _&&f8))=f8;rw[aw,aw];rfl
    have N:n5 7 (o8 [f6,f8,f8] au (g4 (h7 2) (g4 (h7 5) (g4 (h7 6) j4)))) (dP v cs0 cs st ch (e9 (.ow f6 (.dct (l8 (A0 ch))))) (e9 (.ow f6 (.dct (l8 [])))) m i g f)=e9 (.nx (dP v cs0 cs st ch (e9 (.ow f6 (.dct (l8 ts)))) (e9 (.ow f6 (.dct (l8 rs)))) (e9 (.sh (wA o))) i g f)):=l7 (u8 (g9 (g7 rfl) (g9 (g7 rfl) (g9 (g7 rfl) i8))) rfl rfl fs rfl fq) rfl;have m8:=br (mi:=X7 ints2 (g4 (mC (.int 1)) (g4 (i3 z7 (h7 0) (mC (.int 1))) j4))) (own:=1) (fr:=[5]) (mP F G (ρ:=dP v cs0 cs st ch (e9 (.ow f6 (.dct (l8 ts)))) (e9 (.ow f6 (.dct (l8 rs)))) (e9 (.sh (wA o))) i g f) rfl) (o4 (by rw[List.length_map,List.length_map,List.length_range];omega)) (xC ts _) (.inl (A2 _));have w:n5 8 (B9 (X7 ints2 (g4 (mC (.int 1)) (g4 (i3 z7 (h7 0) (mC (.int 1))) j4))) (y7 0) (p6 (i3 N6 (h7 0) (h7 1))) (h7 0) 1 [5]) (dP v cs0 cs st ch (e9 (.ow f6 (.dct (l8 ts)))) (e9 (.ow f6 (.dct (l8 rs)))) (e9 (.sh (wA o))) i g f)=e9 (.nx (dP v cs0 cs st ch (e9 (.ow f6 (.dct (l8 ts)))) (e9 (.ow f6 (.dct (l8 rs)))) (e9 (.sh (wA o))) (e9 (.ow f6 (.lst ((F6 v ts).map D.int)))) g f)):=l7 m8 rfl;cases o with
    |some k=>
     have h:(if ts.length≤20∧rs.length≤1000 then match bO (r8 1 cs) ch ts rs k with
      |none=>f7
      |some (c,hs)=>match c.getLast? with
       |none=>e9 (f7,st++[(((cs.length+1:Nat):Int),c,hs)])
       |some l=>if -l∈ch then v6 v n (cs++[c]) (st++[(((cs.length+1:Nat):Int),c,hs)]) (ch.takeWhile λx=>!decide (x=-l))else f7
      else f7)=e9 r:=h
     by_cases hl:ts.length≤20∧rs.length≤1000
     ·rw[if_pos hl]at h;cases Q:bO (r8 1 cs) ch ts rs k with
      |none=>rw[Q]at h;cases h
      |some cq=>
       rw[Q]at h;obtain⟨c,p⟩:=cq;have fL:=tM Z (by omega) hl.1 hl.2 (DB Y) Q;rw[aG]at fL;have s:p6 (aZ (λd=>vB (!cZ d)) (h7 7)) (dP v cs0 cs st ch (e9 (.ow f6 (.dct (l8 ts)))) (e9 (.ow f6 (.dct (l8 rs)))) (e9 (.sh (.int k))) (e9 (.ow f6 (.lst ((F6 v ts).map D.int)))) g f)=e9 (.ok f8 (dP v cs0 cs st ch (e9 (.ow f6 (.dct (l8 ts)))) (e9 (.ow f6 (.dct (l8 rs)))) (e9 (.sh (.int k))) (e9 (.ow f6 (.lst ((F6 v ts).map D.int)))) g f)):=n0 (U2 (g7 rfl) rfl rfl);have h:(match c.getLast? with
        |none=>e9 (f7,st++[(((cs.length+1:Nat):Int),c,p)])
        |some l=>if -l∈ch then v6 v n (cs++[c]) (st++[(((cs.length+1:Nat):Int),c,p)]) (ch.takeWhile λx=>!decide (x=-l))else f7)=e9 r:=h
       generalize y:((((cs.length+1:Nat):Int),c,p):aT)=sp at *;have fp:=ra sp;have O:n5 9 (o8 [f6,f6,f6,f6,f6] aL (g4 (h7 2) (g4 (h7 4) (g4 (h7 5) (g4 (h7 6) (g4 (h7 7) j4)))))) (dP v cs0 cs st ch (e9 (.ow f6 (.dct (l8 ts)))) (e9 (.ow f6 (.dct (l8 rs)))) (e9 (.sh (.int k))) (e9 (.ow f6 (.lst ((F6 v ts).map D.int)))) g f)=e9 (.nx (dP v cs0 cs st ch (e9 (.ow f6 (.dct (l8 ts)))) (e9 (.ow f6 (.dct (l8 rs)))) (e9 (.sh (.int k))) (e9 (.ow f6 (.lst ((F6 v ts).map D.int)))) (e9 (.sh (m7 sp))) f)):=l7 (u8 (g9 (g7 rfl) (g9 (g7 rfl) (g9 (g7 rfl) (g9 (g7 rfl) (g9 (g7 rfl) i8))))) rfl rfl fL rfl (by rw[k9];exact⟨fp,rfl⟩)) rfl;have i2:u6 (m7 sp) (.int 2)=e9 (.val (.tup (c.map D.int))):=by rw[←y];rfl
       have i1:u6 (m7 sp) (.int 1)=e9 (.val (.int ((cs.length+1:Nat):Int))):=by rw[←y];rfl
       have z:n5 10 (i3 u6 (h7 9) (mC (.int 2))) (dP v cs0 cs st ch (e9 (.ow f6 (.dct (l8 ts)))) (e9 (.ow f6 (.dct (l8 rs)))) (e9 (.sh (.int k))) (e9 (.ow f6 (.lst ((F6 v ts).map D.int)))) (e9 (.sh (m7 sp))) f)=e9 (.nx (dP v cs0 cs st ch (e9 (.ow f6 (.dct (l8 ts)))) (e9 (.ow f6 (.dct (l8 rs)))) (e9 (.sh (.int k))) (e9 (.ow f6 (.lst ((F6 v ts).map D.int)))) (e9 (.sh (m7 sp))) (e9 (.sh (.tup (c.map D.int)))))):=l7 (i5 (g7 rfl) k7 rfl rfl i2) rfl;have A:F7 (D6 3 (g4 (h7 9) j4)) (dP v cs0 cs st ch (e9 (.ow f6 (.dct (l8 ts)))) (e9 (.ow f6 (.dct (l8 rs)))) (e9 (.sh (.int k))) (e9 (.ow f6 (.lst ((F6 v ts).map D.int)))) (e9 (.sh (m7 sp))) (e9 (.sh (.tup (c.map D.int)))))=e9 (.nx (dP v cs0 cs (st++[sp]) ch (e9 (.ow f6 (.dct (l8 ts)))) (e9 (.ow f6 (.dct (l8 rs)))) (e9 (.sh (.int k))) (e9 (.ow f6 (.lst ((F6 v ts).map D.int)))) (e9 (.sh (m7 sp))) (e9 (.sh (.tup (c.map D.int)))))):=by
        refine di rfl (g9 (g7 rfl) i8) rfl rfl (o4 (by rw[List.length_map];omega)) ?_;unfold dP;rw[List.map_append];rfl
       have B:p6 (i3 M4 (h7 10) (B5 j4)) (dP v cs0 cs (st++[sp]) ch (e9 (.ow f6 (.dct (l8 ts)))) (e9 (.ow f6 (.dct (l8 rs)))) (e9 (.sh (.int k))) (e9 (.ow f6 (.lst ((F6 v ts).map D.int)))) (e9 (.sh (m7 sp))) (e9 (.sh (.tup (c.map D.int)))))=e9 (.ok c.isEmpty (dP v cs0 cs (st++[sp]) ch (e9 (.ow f6 (.dct (l8 ts)))) (e9 (.ow f6 (.dct (l8 rs)))) (e9 (.sh (.int k))) (e9 (.ow f6 (.lst ((F6 v ts).map D.int)))) (e9 (.sh (m7 sp))) (e9 (.sh (.tup (c.map D.int)))))):=n0 (i5 (g7 rfl) (u7 i8 rfl (Nat.le_of_ble_eq_true rfl)) rfl rfl (ke c));cases E:c.getLast? with
       |none=>
        rw[E]at h;cases h;have hc:c=[]:=List.getLast?_eq_none_iff.mp E;exact⟨_,_,_,jR I (j3 J (j3 L (j3 N (j3 w (A5 s rfl (j3 O (j3 z (j3 A (U3 (A5 B (by rw[hc];rfl) (z6 (u7 (g9 k7 (g9 (g7 rfl) i8)) rfl (Nat.le_of_ble_eq_true rfl)) rfl)))))))))))⟩
       |some l=>
        rw[E]at h;have h:(if -l∈ch then v6 v n (cs++[c]) (st++[sp]) (ch.takeWhile λx=>!decide (x=-l))else f7)=e9 r:=h;by_cases t:-l∈ch
        ·rw[if_pos t]at h;obtain⟨j,j1,j2⟩:=lz t;have AC:c.isEmpty=f6:=by
          cases c with
          |nil=>cases E
          |cons _ _=>rfl
         have R:dR 2 (h7 10) (i3 u6 (h7 9) (mC (.int 1))) (dP v cs0 cs (st++[sp]) ch (e9 (.ow f6 (.dct (l8 ts)))) (e9 (.ow f6 (.dct (l8 rs)))) (e9 (.sh (.int k))) (e9 (.ow f6 (.lst ((F6 v ts).map D.int)))) (e9 (.sh (m7 sp))) (e9 (.sh (.tup (c.map D.int)))))=e9 (.nx (dP v cs0 (cs++[c]) (st++[sp]) ch (e9 (.ow f6 (.dct (l8 ts)))) (e9 (.ow f6 (.dct (l8 rs)))) (e9 (.sh (.int k))) (e9 (.ow f6 (.lst ((F6 v ts).map D.int)))) (e9 (.sh (m7 sp))) (e9 (.sh (.tup (c.map D.int)))))):=by
          refine bQ (g7 rfl) rfl (i5 (g7 rfl) k7 rfl rfl i1) rfl rfl ?_;have ep:putD (n6 (r8 1 cs)) (.inl ((cs.length+1:Nat):Int)) (.tup (c.map D.int))=n6 (r8 1 (cs++[c])):=by
           rw[eX,jV (λkv hm e=>by have:=(E8 cs 1 kv hm).2.1;omega)];rw[show((cs.length+1:Nat):Int)=1+(cs.length:Int) by omega]
          show dL (small (n6 (r8 1 cs)).length) (e9 (SR.nx _))=_;rw[v7 (by show _≤1000000;rw[show(n6 (r8 1 cs)).length=(r8 1 cs).length from List.length_map _,aG];omega)];unfold dP;rw[←ep];rfl
         have S:n5 4 (Bj (h7 4) (M.pure f7) (fJ (Hh "list" lm (h7 4) (g4 (aZ N1 (i3 u6 (h7 10) (aZ N1 (mC (.int 1))))) j4)))) (dP v cs0 (cs++[c]) (st++[sp]) ch (e9 (.ow f6 (.dct (l8 ts)))) (e9 (.ow f6 (.dct (l8 rs)))) (e9 (.sh (.int k))) (e9 (.ow f6 (.lst ((F6 v ts).map D.int)))) (e9 (.sh (m7 sp))) (e9 (.sh (.tup (c.map D.int)))))=e9 (.nx (dP v cs0 (cs++[c]) (st++[sp]) (ch.takeWhile λx=>!decide (x=-l)) (e9 (.ow f6 (.dct (l8 ts)))) (e9 (.ow f6 (.dct (l8 rs)))) (e9 (.sh (.int k))) (e9 (.ow f6 (.lst ((F6 v ts).map D.int)))) (e9 (.sh (m7 sp))) (e9 (.sh (.tup (c.map D.int)))))):=by
          rw[←j2];exact l7 (nI (g7 rfl) nJ (fe (IQ (g7 rfl) rfl rfl (g9 (U2 (i5 (g7 rfl) (U2 k7 rfl rfl) rfl rfl (zB E)) rfl rfl) i8) rfl rfl (zF j1)) rfl) rfl (ym ch j)) rfl
         obtain⟨a,b,ρ,ih⟩:=ef F G cs0 n (cs++[c]) (st++[sp]) (ch.takeWhile λx=>!decide (x=-l)) (e9 (.ow f6 (.dct (l8 ts)))) (e9 (.ow f6 (.dct (l8 rs)))) (e9 (.sh (.int k))) (e9 (.ow f6 (.lst ((F6 v ts).map D.int)))) (e9 (.sh (m7 sp))) (e9 (.sh (.tup (c.map D.int)))) r h;exact⟨a,b,ρ,gy I (j3 J (j3 L (j3 N (j3 w (A5 s rfl (j3 O (j3 z (j3 A (j3 (u0 B AC C8) (j3 R S)))))))))) ih⟩
        ·rw[if_neg t]at h;cases h
     ·rw[if_neg hl]at h;cases h
    |none=>
     have h:(match F6 v ts with
      | []=>e9 (e9 (kr v ts),[])
      |x::_=>v6 v n cs st (ch++[-x]))=e9 r:=h
     have s:p6 (aZ (λd=>vB (!cZ d)) (h7 7)) (dP v cs0 cs st ch (e9 (.ow f6 (.dct (l8 ts)))) (e9 (.ow f6 (.dct (l8 rs)))) (e9 (.sh .v1)) (e9 (.ow f6 (.lst ((F6 v ts).map D.int)))) g f)=e9 (.ok f6 (dP v cs0 cs st ch (e9 (.ow f6 (.dct (l8 ts)))) (e9 (.ow f6 (.dct (l8 rs)))) (e9 (.sh .v1)) (e9 (.ow f6 (.lst ((F6 v ts).map D.int)))) g f)):=n0 (U2 (g7 rfl) rfl rfl);cases T:F6 v ts with
     |nil=>
      rw[T]at h s w;cases h;have all:∀x∈(List.range v.toNat).map (λk=>(1:Int)+((k:Nat):Int)),(l4 ts x).isSome=f8:=λx hx=>by
       cases hh:(l4 ts x).isSome with
       |true=>rfl
       |false=>
        have:x∈F6 v ts:=List.mem_filter.mpr ⟨hx,by rw[hh];rfl⟩;rw[T]at this;cases this
      have U:T0 (h7 8) (dP v cs0 cs st ch (e9 (.ow f6 (.dct (l8 ts)))) (e9 (.ow f6 (.dct (l8 rs)))) (e9 (.sh .v1)) (e9 (.ow f6 (.lst []))) g f)=e9 (.ok f6 (dP v cs0 cs st ch (e9 (.ow f6 (.dct (l8 ts)))) (e9 (.ow f6 (.dct (l8 rs)))) (e9 (.sh .v1)) (e9 (.ow f6 (.lst []))) g f)):=z5 (g7 rfl) rfl rfl;have m9:=br (mi:=X7 ints2 (g4 (mC (.int 1)) (g4 (i3 z7 (h7 0) (mC (.int 1))) j4))) (own:=1) (fr:=[5]) (mP F G (ρ:=dP v cs0 cs st ch (e9 (.ow f6 (.dct (l8 ts)))) (e9 (.ow f6 (.dct (l8 rs)))) (e9 (.sh .v1)) (e9 (.ow f6 (.lst []))) g f) rfl) (o4 (by rw[List.length_map,List.length_map,List.length_range];omega)) (xB all) (.inl (A2 _));exact⟨_,_,_,jR I (j3 J (j3 L (j3 N (j3 w (u0 s rfl (u0 U rfl (z6 (u7 (g9 (v4 (g9 m9 i8) rfl rfl) (g9 (P4 i8 rfl (Nat.le_of_ble_eq_true rfl)) i8)) rfl (Nat.le_of_ble_eq_true rfl)) rfl)))))))⟩
     |cons x xs=>
      rw[T]at h s w;have h:v6 v n cs st (ch++[-x])=e9 r:=h;have U:T0 (h7 8) (dP v cs0 cs st ch (e9 (.ow f6 (.dct (l8 ts)))) (e9 (.ow f6 (.dct (l8 rs)))) (e9 (.sh .v1)) (e9 (.ow f6 (.lst ((x::xs).map D.int)))) g f)=e9 (.ok f8 (dP v cs0 cs st ch (e9 (.ow f6 (.dct (l8 ts)))) (e9 (.ow f6 (.dct (l8 rs)))) (e9 (.sh .v1)) (e9 (.ow f6 (.lst ((x::xs).map D.int)))) g f)):=z5 (g7 rfl) rfl rfl;have X:u6 (.lst ((x::xs).map D.int)) (.int 0)=e9 (.val (.int x)):=by simp[u6,L2.fA,wU]
      have O:F7 (D6 4 (g4 (aZ N1 (i3 u6 (h7 8) (mC (.int 0)))) j4)) (dP v cs0 cs st ch (e9 (.ow f6 (.dct (l8 ts)))) (e9 (.ow f6 (.dct (l8 rs)))) (e9 (.sh .v1)) (e9 (.ow f6 (.lst ((x::xs).map D.int)))) g f)=e9 (.nx (dP v cs0 cs st (ch++[-x]) (e9 (.ow f6 (.dct (l8 ts)))) (e9 (.ow f6 (.dct (l8 rs)))) (e9 (.sh .v1)) (e9 (.ow f6 (.lst ((x::xs).map D.int)))) g f)):=by
       refine di rfl (g9 (U2 (i5 (g7 rfl) k7 rfl rfl X) rfl rfl) i8) rfl rfl (o4 (by rw[List.length_map];omega)) ?_;unfold dP;rw[yi];rfl
      obtain⟨a,b,ρ,ih⟩:=ef F G cs0 n cs st (ch++[-x]) (e9 (.ow f6 (.dct (l8 ts)))) (e9 (.ow f6 (.dct (l8 rs)))) (e9 (.sh .v1)) (e9 (.ow f6 (.lst ((x::xs).map D.int)))) g f r h;exact⟨a,b,ρ,gy I (j3 J (j3 L (j3 N (j3 w (u0 s rfl (A5 U rfl O)))))) ih⟩
  ·rw[if_neg hok]at h;cases h
theorem su(h:v6 v n cs st ch=e9 r):CB cs st ch=f8:=by
 cases n with
 |zero=>cases h
 |succ n=>
  unfold v6 at h;split at h
  ·assumption
  ·cases h
theorem xu(b:0≤v)(c:v≤1000)(h:v6 v 99999 cs [] []=e9 r):cv [.int v,.lst (x4 cs)]=e9 (.ret (.val (.tup [ID r.1,.lst (r.2.map m7)])) []):=by
 show n8 dk 11 [f6,f6] _=_;obtain⟨a,g,ρ,d⟩:=ef b c cs 99999 cs [] [] f7 f7 f7 f7 f7 f7 r h;have ok:=zd (su h);have s1:n5 2 (o8 [f6] N8 (g4 (h7 1) j4)) (B3 11 [f6,f6] [.int v,.lst (x4 cs)])=e9 (.nx [e9 (.sh (.int v)),e9 (.sh (.lst (x4 cs))),e9 (.ow f6 (.dct (n6 (r8 1 cs)))),f7,f7,f7,f7,f7,f7,f7,f7]):=by
  refine l7 (u8 (g9 (g7 rfl) i8) rfl rfl (jt (by omega)) rfl ?_) rfl;rw[k9];refine⟨?_,rfl⟩;show(n6 (r8 1 cs)).all (λe=>U1 e.2)=f8;unfold n6;rw[List.all_map,List.all_eq_true];intro kv _;exact cw kv.2
 have s2:n5 3 (N2 j4) [e9 (.sh (.int v)),e9 (.sh (.lst (x4 cs))),e9 (.ow f6 (.dct (n6 (r8 1 cs)))),f7,f7,f7,f7,f7,f7,f7,f7]=e9 (.nx [e9 (.sh (.int v)),e9 (.sh (.lst (x4 cs))),e9 (.ow f6 (.dct (n6 (r8 1 cs)))),e9 (.ow f6 (.lst [])),f7,f7,f7,f7,f7,f7,f7]):=l7 (P4 i8 rfl (Nat.le_of_ble_eq_true rfl)) rfl;have f:n5 4 (N2 j4) [e9 (.sh (.int v)),e9 (.sh (.lst (x4 cs))),e9 (.ow f6 (.dct (n6 (r8 1 cs)))),e9 (.ow f6 (.lst [])),f7,f7,f7,f7,f7,f7,f7]=e9 (.nx (dP v cs cs [] [] f7 f7 f7 f7 f7 f7)):=l7 (P4 i8 rfl (Nat.le_of_ble_eq_true rfl)) rfl;exact D1 (j3 s1 (j3 s2 (j3 f d))) rfl
theorem ii:x∈O7 a l↔x∈a∨x=l:=by
 unfold O7;split
 ·rename_i h;constructor
  ·exact .inl
  ·rintro (h'|rfl)
   ·exact h'
   ·exact h
 ·simp
theorem DC {c:List Int}(h:c.Nodup):(O7 c l).Nodup:=by
 unfold O7;split
 ·exact h
 ·rename_i f;rw[List.nodup_append];refine⟨h,by simp,λa g b d e=>?_⟩;rw[List.mem_singleton]at d;exact f (by rw[←d,←e];exact g)
theorem de:∀(a nd:List Int) (x:Int),x∈a.foldl O7 nd↔x∈nd∨x∈a
 | [],nd,x=>by simp
 |k::a,nd,x=>by
  rw[List.foldl_cons,de a,ii,List.mem_cons];constructor
  ·rintro ((h|h) |h)
   ·exact .inl h
   ·exact .inr (.inl h)
   ·exact .inr (.inr h)
  ·rintro (h|h|h)
   ·exact .inl (.inl h)
   ·exact .inl (.inr h)
   ·exact .inr h
theorem pQ:x∈am c↔∃l∈c,n7 l=x:=by
 unfold am;rw[de,List.mem_map];simp
theorem qF (ts:O1):∀(b a:List Int) (x:Int),x∈b.foldl (Z2 ts) a↔x∈a∨(x∈b∧l4 ts (n7 x)≠e9 (-x))
 | [],a,x=>by simp
 |l::b,a,x=>by
  rw[List.foldl_cons,qF ts b,List.mem_cons];have e:x∈Z2 ts a l↔x∈a∨(x=l∧l4 ts (n7 x)≠e9 (-x)):=by
   unfold Z2;split
   ·rename_i h;constructor
    ·exact .inl
    ·rintro (h'| ⟨rfl,h'⟩)
     ·exact h'
     ·exact absurd h h'
   ·rename_i h;rw[ii];constructor
    ·rintro (h'|rfl)
     ·exact .inl h'
     ·exact .inr ⟨rfl,h⟩
    ·rintro (h'| ⟨rfl,_⟩)
     ·exact .inl h'
     ·exact .inr rfl
  rw[e];constructor
  ·rintro ((h| ⟨h,h'⟩) | ⟨h,h'⟩)
   ·exact .inl h
   ·exact .inr ⟨.inl h,h'⟩
   ·exact .inr ⟨.inr h,h'⟩
  ·rintro (h| ⟨h|h,h'⟩)
   ·exact .inl (.inl h)
   ·exact .inl (.inr ⟨h,h'⟩)
   ·exact .inr ⟨h,h'⟩
theorem W6:x∈t8 ts c↔x∈c∧l4 ts (n7 x)≠e9 (-x):=by
 unfold t8;rw[qF];simp
theorem qE (ts:O1):∀(b a:List Int),a.Nodup→(b.foldl (Z2 ts) a).Nodup
 | [],a,h=>h
 |l::b,a,h=>by
  rw[List.foldl_cons];refine qE ts b _ ?_;unfold Z2;split
  ·exact h
  ·exact DC h
theorem oP (ts:O1)(c:List Int):(t8 ts c).Nodup:=qE ts c [] List.nodup_nil
theorem en:∀{X:List Int},X.Nodup→(∀y∈X,y=x)→X=[]∨X=[x]
 | [],_,_=>.inl rfl
 | [a],_,h=>by rw[h a List.mem_cons_self];exact .inr rfl
 |a::b::X,hd,h=>by
  rw[List.nodup_cons]at hd;have c:=h a List.mem_cons_self;have d:=h b (List.mem_cons_of_mem _ List.mem_cons_self);exact absurd (by rw[c,d];exact List.mem_cons_self) hd.1
theorem X8(h:l4 ts k=e9 l):(k,l)∈ts:=by
 unfold l4 at h;cases e:ts.find? λkv=>decide (kv.1=k)with
 |none=>rw[e]at h;cases h
 |some kv=>
  rw[e]at h;have b:=List.mem_of_find?_eq_some e;have a:=List.find?_some e;simp at a h;rw[←a,←h];exact b
theorem F0:l4 ts k=f7↔∀kv∈ts,kv.1≠k:=by
 unfold l4;rw[Option.map_eq_none_iff,List.find?_eq_none];simp
theorem hF (ts us:O1)(k:Int):l4 (ts++us) k=(l4 ts k).or (l4 us k):=by
 unfold l4;rw[List.find?_append];cases ts.find? (λkv=>decide (kv.1=k))<;>rfl
theorem gU(h:l4 ts k=f7):I8 ts k v=ts++[(k,v)]:=by
 unfold I8;rw[if_neg];intro e;obtain⟨x,a,hk⟩:=List.any_eq_true.mp e;exact F0.mp h x a (of_decide_eq_true hk)
theorem bx (x:Int):n7 (-x)=n7 x:=by unfold n7;rw[Hx]
inductive Gr (T:Tab) (t0:O1):O1→O1→Prop
 |base:Gr T t0 t0 []
 |step {ts rs:O1} {n l:Int} {c:List Int}:Gr T t0 ts rs→(n,c)∈T→t8 ts c=[l]→l4 ts (n7 l)=none→Gr T t0 (ts++[(n7 l,l)]) (rs++[(n7 l,n)])
section
variable {T:Tab}{t0:O1}
theorem Gr.DV(g:Gr T t0 ts rs):∀kv∈rs,∃l,(kv.1,l)∈ts:=by
 induction g with
 |base=>intro kv h;cases h
 |step _ _ _ _ ih=>
  intro kv h;rcases List.mem_append.mp h with h|h
  ·obtain⟨l,hl⟩:=ih kv h;exact⟨l,List.mem_append_left _ hl⟩
  ·rw[List.mem_singleton]at h;rw[h];exact⟨_,List.mem_append_right _ List.mem_cons_self⟩
theorem Gr.KA(g:Gr T t0 ts rs):ts.length=t0.length+rs.length:=by
 induction g with
 |base=>rfl
 |step _ _ _ _ ih=>rw[List.length_append,List.length_append,ih];rfl
theorem Gr.qP(g:Gr T t0 ts rs)(h:l4 t0 k=e9 l):l4 ts k=e9 l:=by
 induction g with
 |base=>exact h
 |step _ _ _ _ ih=>rw[hF,ih];rfl
theorem Gr.put(g:Gr T t0 ts rs)(b:(n,c)∈T)(d:t8 ts c=[l])(a:l4 ts (n7 l)=f7):Gr T t0 (I8 ts (n7 l) l) (I8 rs (n7 l) n):=by
 rw[gU a,gU (F0.mpr λkv h e=>?_)]
 ·exact .step g b d a
 ·obtain⟨q,f⟩:=g.DV kv h;exact F0.mp a _ f e
theorem wj (ts rs:O1)(g:Bool)(kv:Int×List Int)(U:Tab):M5 ts rs g (kv::U)=match scan1 ts rs g kv.1 (t8 ts kv.2)with|none=>(e9 kv.1,ts,rs,g) |some (a,b,c)=>M5 a b c U:=rfl
structure MM (T:Tab) (t0 ts rs:O1) (g:Bool) (U:Tab) (z:Option Int×O1×O1×Bool):Prop where
 gr:Gr T t0 z.2.1 z.2.2.1
 cf:∀k,z.1=some k→∃c,(k,c)∈T∧t8 z.2.1 c=[]
 fx:z.1=none→z.2.2.2=false→g=false∧z.2.1=ts∧z.2.2.1=rs∧∀kv∈U,t8 ts kv.2≠[]∧∀l,t8 ts kv.2=[l]→l4 ts (n7 l)≠none
 lt:z.2.2.2=true→g=true∨ts.length<z.2.1.length
 le:ts.length≤z.2.1.length
theorem jT:∀(U:Tab) (ts rs:O1) (g:Bool),Gr T t0 ts rs→(∀kv∈U,kv∈T)→MM T t0 ts rs g U (M5 ts rs g U)
 | [],ts,rs,g,h,_=>⟨h,λk z=>(by cases z),λ_ z=>⟨z,rfl,rfl,λkv hk=>(by cases hk)⟩,λz=>.inl z,Nat.le_refl _⟩
 |kv::U,ts,rs,g,h,r=>by
  have s:=r kv List.mem_cons_self;have d:∀x∈U,x∈T:=λx c=>r x (List.mem_cons_of_mem _ c);rw[wj];cases j:t8 ts kv.2 with
  |nil=>exact⟨h,λk z=>⟨kv.2,by cases z;exact s,j⟩,λz=>(by cases z),λz=>.inl z,Nat.le_refl _⟩
  |cons a X=>
   cases X with
   |nil=>
    cases hs:l4 ts (n7 a)with
    |some q=>
     rw[show scan1 ts rs g kv.1 [a]=e9 (ts,rs,g)from if_pos (by rw[hs];rfl)];have ih:=jT U ts rs g h d;refine⟨ih.gr,ih.cf,λf i=>?_,ih.lt,ih.le⟩;obtain⟨m,n,o,p⟩:=ih.fx f i;refine⟨m,n,o,λx c=>?_⟩;rcases List.mem_cons.mp c with rfl|c
     ·rw[j];refine⟨by simp,λl e=>?_⟩;cases e;rw[hs];simp
     ·exact p x c
    |none=>
     rw[show scan1 ts rs g kv.1 [a]=e9 (I8 ts (n7 a) a,I8 rs (n7 a) kv.1,f8)from if_neg (by rw[hs];simp)];have ih:=jT U _ _ f8 (h.put s j hs) d;have hl:(I8 ts (n7 a) a).length=ts.length+1:=by rw[gU hs,List.length_append];rfl
     have le:=ih.le;rw[hl]at le;exact⟨ih.gr,ih.cf,λf i=>(by cases(ih.fx f i).1),λ_=>.inr (by show ts.length<(M5 (I8 ts (n7 a) a) (I8 rs (n7 a) kv.1) f8 U).2.1.length;omega),by show ts.length≤(M5 (I8 ts (n7 a) a) (I8 rs (n7 a) kv.1) f8 U).2.1.length;omega⟩
   |cons b X=>
    have ih:=jT U ts rs g h d;refine⟨ih.gr,ih.cf,λf i=>?_,ih.lt,ih.le⟩;obtain⟨m,n,o,p⟩:=ih.fx f i;refine⟨m,n,o,λx c=>?_⟩;rcases List.mem_cons.mp c with rfl|c
    ·rw[j];exact⟨by simp,λl e=>(by cases e)⟩
    ·exact p x c
structure ML (T:Tab) (t0:O1) (z:Option Int×O1×O1):Prop where
 gr:Gr T t0 z.2.1 z.2.2
 cf:∀k,z.1=some k→∃c,(k,c)∈T∧t8 z.2.1 c=[]
 fx:z.1=none→∀kv∈T,t8 z.2.1 kv.2≠[]∧∀l,t8 z.2.1 kv.2=[l]→l4 z.2.1 (n7 l)≠none
theorem mW(d:∀ts rs,Gr T t0 ts rs→ts.length≤m):∀(n:Nat) (ts rs:O1),Gr T t0 ts rs→m<n+ts.length→∃z,R7 T n ts rs=e9 z∧ML T t0 z
 |0,ts,rs,h,f=>by have:=d ts rs h;omega
 |n+1,ts,rs,h,f=>by
  have S:=jT T ts rs f6 h (λ_ h=>h);have e:R7 T (n+1) ts rs=match M5 ts rs f6 T with
   | (e9 k,a,b,_)=>e9 (e9 k,a,b)
   | (f7,a,b,f6)=>e9 (f7,a,b)
   | (f7,a,b,f8)=>R7 T n a b:=rfl
  rw[e]
  match i:M5 ts rs f6 T,S with
  | (e9 k,a,b,j),S=>exact⟨_,rfl,S.gr,S.cf,λz=>(by cases z)⟩
  | (f7,a,b,f6),S=>
   obtain⟨_,c,l,g⟩:=S.fx rfl rfl;have c:a=ts:=c;subst c;exact⟨_,rfl,S.gr,λk z=>(by cases z),λ_=>g⟩
  | (f7,a,b,f8),S=>
   have lt:ts.length<a.length:=by
    rcases S.lt rfl with z|z
    ·cases z
    ·exact z
   exact mW d n a b S.gr (by omega)
end
inductive Pg (T:Tab) (t0:O1):O1→List Int→Prop
 |nil:Pg T t0 t0 []
 |snoc {ts:O1} {hs:List Int} {h l:Int} {c:List Int}:Pg T t0 ts hs→v3 T h=some c→t8 ts c=[l]→l4 ts (n7 l)=none→Pg T t0 (ts++[(n7 l,l)]) (hs++[h])
theorem Pg.len(g:Pg T t0 ts hs):ts.length=t0.length+hs.length:=by
 induction g with
 |nil=>rfl
 |snoc _ _ _ _ ih=>rw[List.length_append,List.length_append,ih];rfl
noncomputable abbrev N0 (ch:List Int):O1:=ch.map λl=>(n7 l,l)
abbrev Uq (ts:O1):Prop:=∀k l a,(k,l)∈ts→(k,a)∈ts→l=a
theorem Gr.uq(f:Uq t0)(g:Gr T t0 ts rs):Uq ts:=by
 induction g with
 |base=>exact f
 | @step ts rs n l c g j m i ih=>
  have no:∀k q,(k,q)∈ts→k≠n7 l:=λk q h=>F0.mp i _ h;intro k a b d e;rcases List.mem_append.mp d with d|d<;>rcases List.mem_append.mp e with e|e
  ·exact ih k a b d e
  ·rw[List.mem_singleton]at e;cases e;exact absurd rfl (no _ _ d)
  ·rw[List.mem_singleton]at d;cases d;exact absurd rfl (no _ _ e)
  ·rw[List.mem_singleton]at d e;cases d;cases e;rfl
theorem bw {D:List Int}{k q:Int}(h:(k,q)∈N0 D):q∈D∧n7 q=k:=by
 obtain⟨x,a,e⟩:=List.mem_map.mp h;cases e;exact⟨a,rfl⟩
theorem ia {D:List Int}{ts:O1}(a:∀l∈D,(n7 l,l)∈ts)(uq:Uq ts){l:Int}(hl:l∈D):l4 (N0 D) (n7 l)=e9 l:=by
 cases e:l4 (N0 D) (n7 l)with
 |none=>exact absurd rfl (F0.mp e _ (List.mem_map_of_mem hl))
 |some q=>
  obtain⟨b,c⟩:=bw (X8 e);have z:=a q b;rw[c]at z;rw[uq _ _ _ z (a l hl)]
theorem nX (T:Tab)(rs:O1)(x:Int)(xs hs nd:List Int):U9 T rs (x::xs) hs nd=if x∈nd∧(l4 rs x).isSome=f8 then(v3 T ((l4 rs x).getD 0)).bind λc=>U9 T rs xs (hs++[(l4 rs x).getD 0]) ((am c).foldl O7 nd)else U9 T rs xs hs nd:=rfl
theorem xL(hs nd:List Int)(h:∀x∈xs,l4 rs x=f7):U9 T rs xs hs nd=e9 (hs,nd):=by
 induction xs with
 |nil=>rfl
 |cons x xs ih=>
  rw[nX,if_neg (by rw[h x List.mem_cons_self];exact λz=>p4 z.2)];exact ih λy a=>h y (List.mem_cons_of_mem _ a)
structure Bk (T:Tab) (ch:List Int) (ts:O1) (nd0 hs nd D:List Int):Prop where
 sub:∀x∈nd0,x∈nd
 key:∀x∈nd,x∈nd0∨∃l,(x,l)∈ts
 go:Pg T (N0 (ch.filter λl=>decide (n7 l∈nd))) (N0 D) hs.reverse
 all:∀kv∈ts,kv.1∈nd→kv.2∈D
 tru:∀l∈D,(n7 l,l)∈ts
theorem xK {T:Tab}(r:(T.map (·.1)).Nodup)(E:Uq (N0 ch))(g:Gr T (N0 ch) ts rs):∀(b:O1),(∀kv∈ts,l4 b kv.1=l4 rs kv.1)→∀(a nd0:List Int),∃hs nd D,U9 T b (ts.map (·.1)).reverse a nd0=e9 (a++hs,nd)∧Bk T ch ts nd0 hs nd D:=by
 induction g with
 |base=>
  intro b m a nd0;refine⟨[],nd0,ch.filter λl=>decide (n7 l∈nd0),?_,λ_ h=>h,λ_ h=>.inl h,.nil,λkv hk h=>?_,λl hl=>?_⟩
  ·rw[List.append_nil];refine xL a nd0 λx f=>?_;rw[List.mem_reverse]at f;obtain⟨kv,hk,rfl⟩:=List.mem_map.mp f;exact m kv hk
  ·obtain⟨l,hl,rfl⟩:=List.mem_map.mp hk;exact List.mem_filter.mpr ⟨hl,decide_eq_true h⟩
  ·exact List.mem_map.mpr ⟨l,(List.mem_filter.mp hl).1,rfl⟩
 | @step ts rs n l c g F u o ih=>
  intro b m a nd0;have hr:l4 rs (n7 l)=f7:=F0.mpr λkv h e=>by
   obtain⟨q,G⟩:=g.DV kv h;exact F0.mp o _ G e
  have j:l4 b (n7 l)=e9 n:=by
   rw[m (n7 l,l) (List.mem_append_right _ List.mem_cons_self),hF,hr];show l4 [(n7 l,n)] (n7 l)=_;unfold l4;rw[List.find?_cons_of_pos (by exact decide_eq_true rfl)];rfl
  have k:∀kv∈ts,l4 b kv.1=l4 rs kv.1:=λkv hk=>by
   rw[m kv (List.mem_append_left _ hk),hF];have:l4 [(n7 l,n)] kv.1=f7:=F0.mpr λx f=>by
    rw[List.mem_singleton]at f;rw[f];exact λz=>F0.mp o kv hk z.symm
   rw[this];cases l4 rs kv.1<;>rfl
  have v:v3 T n=e9 c:=kc r F;have uq:=g.uq E;have i:∀y∈c,y=l∨l4 ts (n7 y)=e9 (-y):=λy d=>by
   by_cases z:l4 ts (n7 y)=e9 (-y)
   ·exact .inr z
   ·have:y∈t8 ts c:=W6.mpr ⟨d,z⟩;rw[u,List.mem_singleton]at this;exact .inl this
  have H:l∈c:=(W6.mp (by rw[u];exact List.mem_cons_self)).1;have I:((ts++[(n7 l,l)]).map (·.1)).reverse=n7 l::(ts.map (·.1)).reverse:=by rw[List.map_append,List.reverse_append];rfl
  rw[I,nX];by_cases f:n7 l∈nd0
  ·rw[if_pos ⟨f,by rw[j];rfl⟩,j];show∃hs nd D,(v3 T n).bind (λc=>U9 T b (ts.map (·.1)).reverse (a++[n]) ((am c).foldl O7 nd0))=e9 (a++hs,nd)∧_;rw[v];obtain⟨hs,nd,D,s,B⟩:=ih b k (a++[n]) ((am c).foldl O7 nd0);have t:∀y∈c,n7 y∈nd:=λy d=>B.sub _ ((de _ _ _).mpr (.inr (pQ.mpr ⟨y,d,rfl⟩)));have w:l4 (N0 D) (n7 l)=f7:=F0.mpr λkv hk e=>by
    obtain⟨J,L⟩:=bw (show(kv.1,kv.2)∈N0 D from hk);exact F0.mp o _ (B.tru _ J) (L.trans e)
   have N:t8 (N0 D) c=[l]:=by
    have O:∀y∈t8 (N0 D) c,y=l:=λy d=>by
     obtain⟨p,P⟩:=W6.mp d;rcases i y p with e|e
     ·exact e
     ·have:=ia B.tru uq (B.all _ (X8 e) (t y p));rw[bx]at this;exact absurd this P
    have A:l∈t8 (N0 D) c:=W6.mpr ⟨H,by rw[w];exact λz=>nomatch z⟩;rcases en (oP (N0 D) c) O with e|e
    ·rw[e]at A;cases A
    ·exact e
   refine⟨n::hs,nd,D++[l],by rw[show a++n::hs=a++[n]++hs by rw[List.append_assoc];rfl];exact s,λx h=>B.sub x ((de _ _ _).mpr (.inl h)),λx h=>?_,?_,λkv hk h=>?_,λy d=>?_⟩
   ·rcases B.key x h with h| ⟨q,h⟩
    ·rcases(de _ _ _).mp h with h|h
     ·exact .inl h
     ·obtain⟨y,p,rfl⟩:=pQ.mp h;rcases i y p with e|e
      ·rw[e];exact .inr ⟨l,List.mem_append_right _ List.mem_cons_self⟩
      ·exact .inr ⟨-y,List.mem_append_left _ (X8 e)⟩
    ·exact .inr ⟨q,List.mem_append_left _ h⟩
   ·rw[List.reverse_cons,show N0 (D++[l])=N0 D++[(n7 l,l)]from List.map_append];exact B.go.snoc v N w
   ·rcases List.mem_append.mp hk with hk|hk
    ·exact List.mem_append_left _ (B.all kv hk h)
    ·rw[List.mem_singleton]at hk;rw[hk];exact List.mem_append_right _ List.mem_cons_self
   ·rcases List.mem_append.mp d with d|d
    ·exact List.mem_append_left _ (B.tru y d)
    ·rw[List.mem_singleton]at d;rw[d];exact List.mem_append_right _ List.mem_cons_self
  ·rw[if_neg (λz=>f z.1)];obtain⟨hs,nd,D,s,B⟩:=ih b k a nd0;refine⟨hs,nd,D,s,B.sub,λx h=>?_,B.go,λkv hk h=>?_,λy d=>List.mem_append_left _ (B.tru y d)⟩
   ·rcases B.key x h with h| ⟨q,h⟩
    ·exact .inl h
    ·exact .inr ⟨q,List.mem_append_left _ h⟩
   ·rcases List.mem_append.mp hk with hk|hk
    ·exact B.all kv hk h
    ·rw[List.mem_singleton]at hk;subst hk;rcases B.key _ h with h| ⟨q,h⟩
     ·exact absurd h f
     ·exact absurd rfl (F0.mp o _ h)
def AV (T:Tab)(c hs:List Int):Prop:=∃a k ts d,hs=a++[k]∧Pg T (A0 (c.map λl=>-l)) ts a∧v3 T k=e9 d∧t8 ts d=[]
structure MN (T:Tab) (ch C hs:List Int):Prop where
 sub:∀l∈C,-l∈ch
 len:C.length≤ch.length
 nd:(C.map n7).Nodup
 go:AV T C hs
theorem az:∀(ch:List Int) (ts:O1),(ch.map n7).Nodup→(∀l∈ch,l4 ts (n7 l)=f7)→ch.foldl (λts l=>I8 ts (n7 l) l) ts=ts++N0 ch
 | [],ts,_,_=>(List.append_nil _).symm
 |l::ch,ts,hd,h=>by
  rw[List.map_cons,List.nodup_cons]at hd;rw[List.foldl_cons,gU (h l List.mem_cons_self),az ch _ hd.2 λx a=>?_]
  ·rw[List.append_assoc];rfl
  ·rw[hF,h x (List.mem_cons_of_mem _ a)];show l4 [(n7 l,l)] (n7 x)=f7;refine F0.mpr λkv hk=>?_;rw[List.mem_singleton]at hk;rw[hk];exact λz=>hd.1 (by show n7 l∈_;rw[show n7 l=n7 x from z];exact List.mem_map_of_mem a)
theorem qJ (F:List Int):(F.map λl=>-l).map (λl=>-l)=F:=by
 rw[List.map_map]
 conv=>rhs;rw[←List.map_id F]
 exact List.map_congr_left λx _=>xS x
theorem zr {T:Tab}{ch:List Int}(b:(T.map (·.1)).Nodup)(c:(ch.map n7).Nodup)(d:Uq (N0 ch))(g:Gr T (N0 ch) ts rs)(hk:(k,a)∈T)(h:t8 ts a=[]):∃C hs,bO T ch ts rs k=e9 (C,hs)∧MN T ch C hs:=by
 obtain⟨hs,nd,D,i,B⟩:=xK b d g rs (λ_ _=>rfl) [k] (am a);have e:v3 T k=e9 a:=kc b hk;refine⟨(ch.filter λl=>decide (n7 l∈nd)).map (λl=>-l),hs.reverse++[k],?_,λl hl=>?_,?_,?_,hs.reverse,k,N0 D,a,rfl,?_,e,?_⟩
 ·unfold bO;rw[e];show(U9 T rs (ts.map (·.1)).reverse [k] (am a)).map _=_;rw[i];show e9 (_,([k]++hs).reverse)=_;rw[List.reverse_append];rfl
 ·obtain⟨x,j,rfl⟩:=List.mem_map.mp hl;rw[xS];exact(List.mem_filter.mp j).1
 ·rw[List.length_map];exact List.length_filter_le _ _
 ·rw[List.map_map,show n7∘(λl=>-l)=n7 from funext bx];exact(List.filter_sublist.map n7).nodup c
 ·rw[qJ];unfold A0;rw[az _ [] ((List.filter_sublist.map n7).nodup c) λ_ _=>rfl,List.nil_append];exact B.go
 ·cases m:t8 (N0 D) a with
  |nil=>rfl
  |cons y r=>
   obtain⟨f,n⟩:=W6.mp (show y∈t8 (N0 D) a by rw[m];exact List.mem_cons_self);have z:l4 ts (n7 y)=e9 (-y):=O9 λz=>by
    have:y∈t8 ts a:=W6.mpr ⟨f,z⟩;rw[h]at this;cases this
   have:=ia B.tru (g.uq d) (B.all _ (X8 z) (B.sub _ (pQ.mpr ⟨y,f,rfl⟩)));rw[bx]at this;exact absurd this n
theorem zi:∀(v:Nat) (xs:List Int),xs.Nodup→(∀x∈xs,1≤x∧x≤(v:Int))→xs.length≤v
 |0,xs,_,h=>by
  cases xs with
  |nil=>exact Nat.le_refl _
  |cons a r=>have:=h a List.mem_cons_self;omega
 |v+1,xs,hd,h=>by
  have ih:=zi v (xs.erase ((v:Int)+1)) (hd.erase _) λx c=>by
   obtain⟨a,b⟩:=(hd.mem_erase_iff).mp c;have:=h x b;omega
  have:=List.length_erase (a:=(v:Int)+1) (l:=xs);split at this<;>omega
structure KO (v:Nat) (ts:O1):Prop where
 nd:(ts.map (·.1)).Nodup
 ok:∀kv∈ts,kv.1=n7 kv.2∧kv.2≠0∧kv.2.natAbs≤v
theorem KO.len(h:KO v ts):ts.length≤v:=by
 have:=zi v (ts.map (·.1)) h.nd λx d=>by
  obtain⟨kv,hk,rfl⟩:=List.mem_map.mp d;obtain⟨a,b,c⟩:=h.ok kv hk;rw[a];unfold n7;omega
 rwa[List.length_map]at this
theorem Gr.ko(f:∀kv∈T,∀l∈kv.2,l≠0∧l.natAbs≤v)(h:KO v t0)(g:Gr T t0 ts rs):KO v ts:=by
 induction g with
 |base=>exact h
 | @step ts rs n l c g i j k ih=>
  have m:l∈c:=(W6.mp (by rw[j];exact List.mem_cons_self)).1;refine⟨?_,λkv hk=>?_⟩
  ·rw[List.map_append,List.nodup_append];refine⟨ih.nd,by simp,λa o b d e=>?_⟩;obtain⟨kv,hk,rfl⟩:=List.mem_map.mp o;have d:b=n7 l:=by simpa using d
   exact F0.mp k kv hk (by rw[e,d])
  ·rcases List.mem_append.mp hk with hk|hk
   ·exact ih.ok kv hk
   ·rw[List.mem_singleton]at hk;rw[hk];exact⟨rfl,f _ i l m⟩
structure xN (v:Nat) (ch:List Int):Prop where
 nd:(ch.map n7).Nodup
 ok:∀l∈ch,l<0∧l.natAbs≤v
theorem xN.ko(h:xN v ch):KO v (N0 ch):=by
 refine⟨?_,λkv hk=>?_⟩
 ·rw[List.map_map];exact h.nd
 ·obtain⟨l,hl,rfl⟩:=List.mem_map.mp hk;have:=h.ok l hl;exact⟨rfl,by omega,this.2⟩
theorem xN.len(h:xN v ch):ch.length≤v:=by
 have:=h.ko.len;rwa[List.length_map]at this
theorem xN.EH(h:xN v ch):A0 ch=N0 ch:=by
 unfold A0;rw[az ch [] h.nd λ_ _=>rfl,List.nil_append]
theorem xN.uq(h:xN v ch):Uq (N0 ch):=λk a b c d=>by
 obtain⟨e,f⟩:=bw c;obtain⟨g,i⟩:=bw d;have:=h.ok a e;have:=h.ok b g;unfold n7 at f i;omega
theorem xN.look(h:xN v ch)(hl:l∈ch):l4 (N0 ch) (n7 l)=e9 l:=ia (λ_ z=>List.mem_map_of_mem z) h.uq hl
theorem kY:x∈(List.range v).map (λk=>(1:Int)+((k:Nat):Int))↔1≤x∧x≤(v:Int):=by
 rw[List.mem_map];constructor
 ·rintro ⟨k,hk,rfl⟩
  have:=List.mem_range.mp hk;omega
 ·rintro ⟨h1,h2⟩
  exact⟨(x-1).toNat,List.mem_range.mpr (by omega),by omega⟩
noncomputable def fE:List Int→List (List Int)
 | []=>[[]]
 |x::xs=>fE xs++(fE xs).map (x::·)
theorem mT:∀xs:List Int,(fE xs).length=2 ^ xs.length
 | []=>rfl
 |x::xs=>by
  show(fE xs++(fE xs).map (x::·)).length=_;rw[List.length_append,List.length_map,mT xs,List.length_cons,Nat.pow_succ];omega
theorem nB (p:Int→Bool):∀xs:List Int,xs.filter p∈fE xs
 | []=>List.mem_cons_self
 |x::xs=>by
  have ih:=nB p xs;show _∈fE xs++(fE xs).map (x::·);cases h:p x with
  |true=>rw[List.filter_cons_of_pos h];exact List.mem_append_right _ (List.mem_map_of_mem ih)
  |false=>rw[List.filter_cons_of_neg (by rw[h];simp)];exact List.mem_append_left _ ih
theorem filter_lt {α:Type}{p q:α→Bool}(hi:∀x,q x=f8→p x=f8){a:α}(b:p a=f8)(c:q a=f6):∀{l:List α},a∈l→(l.filter q).length<(l.filter p).length
 |x::l,h=>by
  have le:(l.filter q).length≤(l.filter p).length:=by
   rw[←List.countP_eq_length_filter,←List.countP_eq_length_filter];exact List.countP_mono_left λx _=>hi x
  by_cases d:q x=f8
  ·rw[List.filter_cons_of_pos d,List.filter_cons_of_pos (hi x d),List.length_cons,List.length_cons];have:a∈l:=by
    rcases List.mem_cons.mp h with z|z
    ·rw[z,d]at c;cases c
    ·exact z
   have:=filter_lt hi b c this;omega
  ·rw[List.filter_cons_of_neg d];by_cases e:p x=f8
   ·rw[List.filter_cons_of_pos e,List.length_cons];omega
   ·rw[List.filter_cons_of_neg e];have:a∈l:=by
     rcases List.mem_cons.mp h with z|z
     ·rw[z]at b;exact absurd b e
     ·exact z
    exact filter_lt hi b c this
noncomputable abbrev ED (v:Nat):List Int:=(List.range v).map (λk=>(1:Int)+((k:Nat):Int))
noncomputable def FQ (cs:List (List Int))(S:List Int):Bool:=cs.all λc=>c.any λl=>!decide (l∈S)
noncomputable def mu (v:Nat)(cs:List (List Int)):Nat:=((fE (ED v)).filter (FQ cs)).length
theorem IC (v:Nat)(cs:List (List Int)):mu v cs≤2 ^ v:=by
 have:=List.length_filter_le (FQ cs) (fE (ED v));rw[mT,List.length_map,List.length_range]at this;exact this
theorem IB {v:Nat}{cs:List (List Int)}{ch C:List Int}(b:xN v ch)(J:∀c∈cs,∃l∈c,-l∉ch)(d:∀l∈C,-l∈ch):mu v (cs++[C])<mu v cs:=by
 refine filter_lt (p:=FQ cs) (q:=FQ (cs++[C])) (λS h=>?_) (a:=(ED v).filter λx=>decide (x∈C)) ?_ ?_ (nB _ _)
 ·unfold FQ at *;rw[List.all_append,k9]at h;exact h.1
 ·unfold FQ;rw[List.all_eq_true];intro c e;obtain⟨l,f,g⟩:=J c e;refine List.any_eq_true.mpr ⟨l,f,?_⟩;have:l∉(ED v).filter λx=>decide (x∈C):=λz=>g (d l (of_decide_eq_true (List.mem_filter.mp z).2));simp only[decide_eq_false this,pV]
 ·unfold FQ;rw[List.all_append];have:([C].all λc=>c.any λl=>!decide (l∈(ED v).filter λx=>decide (x∈C)))=f6:=by
   show((C.any λl=>!decide (l∈(ED v).filter λx=>decide (x∈C)))&&f8)=f6;rw[Z6,List.any_eq_false];intro l hl;have a:=b.ok _ (d l hl);have:l∈(ED v).filter λx=>decide (x∈C):=List.mem_filter.mpr ⟨kY.mpr ⟨by omega,by omega⟩,decide_eq_true hl⟩;rw[decide_eq_true this];simp
  rw[this,gk]
theorem sQ {f:Int→Int}:∀{L:List Int},(L.map f).Nodup→∀{a b:Int},a∈L→b∈L→f a=f b→a=b
 |x::L,nd,a,b,c,d,e=>by
  rw[List.map_cons,List.nodup_cons]at nd;rcases List.mem_cons.mp c with z|z<;>rcases List.mem_cons.mp d with y|y
  ·rw[z,y]
  ·exact absurd (by rw[←z,e];exact List.mem_map_of_mem y) nd.1
  ·exact absurd (by rw[←y,←e];exact List.mem_map_of_mem z) nd.1
  ·exact sQ nd.2 z y e
def JP (v:Nat)(c:List Int):Prop:=(∀l∈c,l≠0∧l.natAbs≤v)∧(c.map n7).Nodup
inductive ij (v:Nat) (cs0:List (List Int)):List (List Int)→List aT→Prop
 |nil:ij v cs0 cs0 []
 |snoc {cs:List (List Int)} {st:List aT} {c hs:List Int}:ij v cs0 cs st→c≠[]→hs.length≤300→AV (r8 1 cs) c hs→JP v c→ij v cs0 (cs++[c]) (st++[(((cs.length+1:Nat):Int),c,hs)])
theorem ij.len(h:ij v cs0 cs st):cs.length=cs0.length+st.length:=by
 induction h with
 |nil=>rfl
 |snoc _ _ _ _ _ ih=>rw[List.length_append,List.length_append,ih];rfl
theorem ij.FU(h:ij v cs0 cs st)(a:c∈cs0):c∈cs:=by
 induction h with
 |nil=>exact a
 |snoc _ _ _ _ _ ih=>exact List.mem_append_left _ ih
inductive Res (v:Nat) (cs0:List (List Int)):Option (List Int)×List aT→Prop
 |model {f:Nat→Int}:(∀k,k<v→f k=(k:Int)+1∨f k=-((k:Int)+1))→(∀c∈cs0,∃l∈c,l∈(List.range v).map f)→Res v cs0 (some ((List.range v).map f),[])
 |none {cs:List (List Int)} {st:List aT} {hs:List Int}:ij v cs0 cs st→cs.length≤500→(∀c∈cs,c.length≤100)→hs.length≤300→AV (r8 1 cs) [] hs→Res v cs0 (none,st++[(((cs.length+1:Nat):Int),[],hs)])
structure SI (v:Nat) (cs0 cs:List (List Int)) (st:List aT) (ch:List Int):Prop where
 stp:ij v cs0 cs st
 lit:∀c∈cs,∀l∈c,l≠0∧l.natAbs≤v
 len:∀c∈cs,c.length≤100
 chs:xN v ch
 jj:ch≠[]→∀c∈cs,∃l∈c,-l∉ch
 siz:cs.length+mu v cs≤500
theorem kB(w:v≤18):∀(n:Nat) (cs:List (List Int)) (st:List aT) (ch:List Int),SI v cs0 cs st ch→mu v cs*(v+1)+(v-ch.length)<n→∃r,v6 (v:Int) n cs st ch=e9 r∧Res v cs0 r
 |0,_,_,_,_,h=>absurd h (Nat.not_lt_zero _)
 |n+1,cs,st,ch,I,hn=>by
  have cl:=I.chs.len;have sl:=I.stp.len;have z:=I.siz;have Q:cs.length≤500:=Nat.le_trans (Nat.le_add_right _ _) z;have hok:CB cs st ch=f8:=by
   unfold CB;rw[k9,List.all_eq_true];exact⟨decide_eq_true ⟨Q,Nat.le_trans (Nat.le_add_left _ _) (sl▸Q),Nat.le_trans cl (Nat.le_trans w (by decide))⟩,λc f=>decide_eq_true (I.len c f)⟩
  have s:∀kv∈r8 1 cs,∀l∈kv.2,l≠0∧l.natAbs≤v:=λkv i=>I.lit _ (E8 cs 1 kv i).2.2;have hT:A0 ch=N0 ch:=I.chs.EH;obtain⟨q,hq,S⟩:=mW (T:=r8 1 cs) (t0:=N0 ch) (m:=v) (λts rs g=>(g.ko s I.chs.ko).len) 99 (N0 ch) [] .base (Nat.lt_of_le_of_lt w (Nat.lt_of_lt_of_le (by decide) (Nat.le_add_right 99 _)));have R:=aF cs 1;have ev:v6 (v:Int) (n+1) cs st ch=if CB cs st ch=f8 then match R7 (r8 1 cs) 99 (A0 ch) []with
   |none=>f7
   |some (e9 k,ts,rs)=>if ts.length≤20∧rs.length≤1000 then match bO (r8 1 cs) ch ts rs k with
    |none=>f7
    |some (c,hs)=>match c.getLast? with
     |none=>e9 (f7,st++[(((cs.length+1:Nat):Int),c,hs)])
     |some l=>if -l∈ch then v6 v n (cs++[c]) (st++[(((cs.length+1:Nat):Int),c,hs)]) (ch.takeWhile λx=>!decide (x=-l))else f7
    else f7
   |some (f7,ts,rs)=>match F6 v ts with
    | []=>e9 (e9 (kr v ts),[])
    |x::_=>v6 v n cs st (ch++[-x])
   else f7:=rfl
  rw[ev,if_pos hok,hT,hq];obtain⟨qk,ts,rs⟩:=q;have G:Gr (r8 1 cs) (N0 ch) ts rs:=S.gr;have K:=G.ko s I.chs.ko;have tl:=K.len;have rl:=G.KA;cases qk with
  |some k=>
   obtain⟨cc,hk,ho⟩:=S.cf k rfl;obtain⟨C,hs,hL,L⟩:=zr R I.chs.nd I.chs.uq G hk ho;show∃r,(if ts.length≤20∧rs.length≤1000 then match bO (r8 1 cs) ch ts rs k with
    |none=>f7
    |some (c,hs)=>match c.getLast? with
     |none=>e9 (f7,st++[(((cs.length+1:Nat):Int),c,hs)])
     |some l=>if -l∈ch then v6 v n (cs++[c]) (st++[(((cs.length+1:Nat):Int),c,hs)]) (ch.takeWhile λx=>!decide (x=-l))else f7
    else f7)=e9 r∧_
   have A:hs.length≤300:=by
    have:=hL;unfold bO at this;obtain⟨c1,_,U⟩:=B7.mp this;obtain⟨q2,h3,h4⟩:=h9.mp U;have bl:=ib _ _ _ _ h3;have e:q2.1.reverse=hs:=congrArg NF h4;have X:=congrArg List.length e;rw[List.length_reverse]at X;rw[List.length_reverse,List.length_map,List.length_singleton]at bl;omega
   rw[if_pos ⟨Nat.le_trans tl (Nat.le_trans w (by decide)),Nat.le_trans (Nat.le_add_left _ _) (rl▸Nat.le_trans tl (Nat.le_trans w (by decide)))⟩,hL];show∃r,(match C.getLast? with
    |none=>e9 (f7,st++[(((cs.length+1:Nat):Int),C,hs)])
    |some l=>if -l∈ch then v6 v n (cs++[C]) (st++[(((cs.length+1:Nat):Int),C,hs)]) (ch.takeWhile λx=>!decide (x=-l))else f7)=e9 r∧_
   cases hg:C.getLast? with
   |none=>
    have hC:C=[]:=List.getLast?_eq_none_iff.mp hg;subst hC;exact⟨_,rfl,.none I.stp Q I.len A L.go⟩
   |some l=>
    have H:l∈C:=List.mem_of_getLast? hg;have hl:=L.sub l H;have AC:C≠[]:=λe=>by rw[e]at H;cases H
    have B:ch≠[]:=λe=>by rw[e]at hl;cases hl
    have J:=I.jj B;have lt:=IB I.chs J L.sub;show∃r,(if -l∈ch then v6 v n (cs++[C]) (st++[(((cs.length+1:Nat):Int),C,hs)]) (ch.takeWhile λx=>!decide (x=-l))else f7)=e9 r∧_;rw[if_pos hl];have pre:(ch.takeWhile λx=>!decide (x=-l)).Sublist ch:=(List.takeWhile_prefix _).sublist;have a2:=L.len;refine kB w n (cs++[C]) _ _ ⟨.snoc I.stp AC A L.go ⟨λx t=>by have:=I.chs.ok _ (L.sub x t);omega,L.nd⟩,λc f=>?_,λc f=>?_,⟨(pre.map n7).nodup I.chs.nd,λx t=>I.chs.ok x (pre.subset t)⟩,λ_ c f=>?_,?_⟩ ?_
    ·rcases List.mem_append.mp f with f|f
     ·exact I.lit c f
     ·rw[List.mem_singleton]at f;rw[f];intro x t;have:=I.chs.ok _ (L.sub x t);omega
    ·rcases List.mem_append.mp f with f|f
     ·exact I.len c f
     ·rw[List.mem_singleton]at f;rw[f];omega
    ·rcases List.mem_append.mp f with f|f
     ·obtain⟨x,E,N⟩:=J c f;exact⟨x,E,λy=>N (pre.subset y)⟩
     ·rw[List.mem_singleton]at f;rw[f];refine⟨l,H,λy=>?_⟩;have:=List.all_takeWhile (p:=λx=>!decide (x=-l)) (l:=ch);have:=List.all_eq_true.mp this _ y;simp at this
    ·rw[List.length_append,List.length_singleton];omega
    ·have h1:mu v (cs++[C])*(v+1)+(v+1)≤mu v cs*(v+1):=by
      have:=Nat.mul_le_mul_right (v+1) (show mu v (cs++[C])+1≤mu v cs from lt);rw[Nat.add_mul,Nat.one_mul]at this;exact this
     omega
  |none=>
   have fx:=S.fx rfl;have fx:∀kv∈r8 1 cs,t8 ts kv.2≠[]∧∀l,t8 ts kv.2=[l]→l4 ts (n7 l)≠f7:=fx;have F:∀c∈cs,∃n,(n,c)∈r8 1 cs:=λc f=>by
    have:∀(ds:List (List Int)) (j:Int),c∈ds→∃n,(n,c)∈r8 j ds:=by
     intro ds;induction ds with
     |nil=>intro j h;cases h
     |cons d ds ih=>
      intro j h;rcases List.mem_cons.mp h with rfl|h
      ·exact⟨j,List.mem_cons_self⟩
      ·obtain⟨m,i⟩:=ih (j+1) h;exact⟨m,List.mem_cons_of_mem _ i⟩
    exact this cs 1 f
   show∃r,(match F6 v ts with
    | []=>e9 (e9 (kr v ts),[])
    |x::_=>v6 v n cs st (ch++[-x]))=e9 r∧_
   cases hf:F6 v ts with
   |nil=>
    have all:∀x:Int,1≤x→x≤(v:Int)→∃l,l4 ts x=e9 l:=λx h1 U=>by
     cases Y:l4 ts x with
     |some l=>exact⟨l,rfl⟩
     |none=>
      have:x∈F6 v ts:=List.mem_filter.mpr ⟨by rw[G8];exact kY.mpr ⟨h1,U⟩,by rw[Y];rfl⟩;rw[hf]at this;cases this
    have key:∀{x l:Int},l4 ts x=e9 l→x=n7 l:=λh=>(K.ok _ (X8 h)).1;have et:kr (v:Int) ts=(List.range v).map λk=>(l4 ts (1+((k:Nat):Int))).getD 0:=by
     unfold kr;rw[G8,List.map_map];rfl
    refine⟨_,rfl,?_⟩;rw[et];refine .model (λk hk=>?_) λc f=>?_
    ·obtain⟨l,hl⟩:=all (1+(k:Int)) (by omega) (by omega);rw[hl];have:=key hl;unfold n7 at this;show l=_∨l=_;omega
    ·obtain⟨m,i⟩:=F c (I.stp.FU f);have ne:=(fx _ i).1;obtain⟨y,Z⟩:=List.exists_mem_of_ne_nil _ ne;obtain⟨O,P⟩:=W6.mp Z;have yl:=s _ i y O;obtain⟨l,hl⟩:=all (n7 y) (by unfold n7;omega) (by unfold n7;omega);have e:=key hl;have:l=y:=by
      rw[hl]at P;have:l≠-y:=λz=>P (by rw[z]);unfold n7 at e;omega
     refine⟨y,O,List.mem_map.mpr ⟨y.natAbs-1,List.mem_range.mpr (by omega),?_⟩⟩;have X:(1:Int)+((y.natAbs-1:Nat):Int)=n7 y:=by unfold n7;omega
     rw[X,hl,this];rfl
   |cons x xs=>
    have t:x∈F6 v ts:=by rw[hf];exact List.mem_cons_self
    obtain⟨E,N⟩:=List.mem_filter.mp t;rw[G8]at E;have E:=kY.mp E;have xn:l4 ts x=f7:=by
     cases Y:l4 ts x with
     |none=>rfl
     |some l=>rw[Y]at N;cases N
    have a0:∀l∈ch,n7 l≠x:=λl hl e=>by
     have:=G.qP (I.chs.look hl);rw[e,xn]at this;cases this
    have o:xN v (ch++[-x]):=by
     refine⟨?_,λl hl=>?_⟩
     ·rw[List.map_append,List.nodup_append];refine⟨I.chs.nd,by simp,λa ha b hb e=>?_⟩;obtain⟨l,hl,rfl⟩:=List.mem_map.mp ha;have hb:b=n7 (-x):=by simpa using hb
      refine a0 l hl ?_;rw[e,hb];unfold n7;omega
     ·rcases List.mem_append.mp hl with hl|hl
      ·exact I.chs.ok l hl
      ·rw[List.mem_singleton]at hl;omega
    have a1:=o.len;rw[List.length_append,List.length_singleton]at a1;show∃r,v6 v n cs st (ch++[-x])=e9 r∧_;refine kB w n cs st (ch++[-x]) ⟨I.stp,I.lit,I.len,o,λ_ c f=>?_,I.siz⟩ ?_
    ·apply O9;intro u;have u:∀l∈c,-l∈ch++[-x]:=λl hl=>O9 λz=>u ⟨l,hl,z⟩;obtain⟨m,i⟩:=F c f;obtain⟨f1,f2⟩:=fx _ i;have only:∀y∈t8 ts c,y=x:=λy Z=>by
      obtain⟨O,P⟩:=W6.mp Z;rcases List.mem_append.mp (u y O)with z|z
      ·have:=G.qP (I.chs.look z);rw[bx]at this;exact absurd this P
      ·rw[List.mem_singleton]at z;omega
     rcases en (oP ts c) only with e|e
     ·exact f1 e
     ·refine f2 x e ?_;rw[show n7 x=x by unfold n7;omega];exact xn
    ·rw[List.length_append,List.length_singleton];omega
theorem ql {v:Nat}{cs0:List (List Int)}(b:v≤10)(hl:∀c∈cs0,∀l∈c,l≠0∧l.natAbs≤v)(a:∀c∈cs0,c.length≤100)(d:cs0.length+2 ^ v≤500):∃r,v6 (v:Int) 99999 cs0 [] []=e9 r∧Res v cs0 r:=by
 have e:=IC v cs0;refine kB (by omega) 99999 cs0 [] [] ⟨.nil,hl,a,⟨List.nodup_nil,λl h=>(by cases h)⟩,λh=>absurd rfl h,by omega⟩ ?_;have:mu v cs0*(v+1)≤500*11:=Nat.mul_le_mul (by omega) (by omega);rw[List.length_nil];omega
theorem FY(h:0<v):qQ p v≠0:=by
 unfold qQ;have c:=C9 (p / 2) (b:=v) (by omega);have a:p % 2=0∨p % 2=1:=by omega
 rcases a with a|a<;>rw[a]
 ·omega
 ·intro h;omega
theorem xE(h:0<v):∀l∈X2 ns b v a,l≠0:=by
 intro l hl;obtain⟨k,_,rfl⟩:=List.mem_map.mp hl;exact FY h
section
variable {tg:FT}{b:SM}{ρ n3 x2:l5}{d:D}{P:l5→Prop}
def Tn (tg:FT)(b:SM)(d:D)(ρ:l5)(P:l5→Prop):Prop:=∃n3 x2,tg d ρ=e9 n3∧b n3=e9 (.nx x2)∧P x2
theorem tn (a:tg d ρ=e9 n3)(c:b n3=e9 (.nx x2))(e:P x2):Tn tg b d ρ P:=⟨n3,x2,a,c,e⟩
theorem CY {α:Type}{f:α→D}(S:List α→l5→Prop)(xs:List α)(h:∀pre x post ρ,xs=pre++x::post→S pre ρ→Tn tg b (f x) ρ (S (pre++[x])))(c:S [] ρ):∃ρ',forL tg b (xs.map f) ρ=e9 (.nx ρ')∧S xs ρ':=by
 have key:∀(a pre:List α) (ρ:l5),xs=pre++a→S pre ρ→∃ρ',forL tg b (a.map f) ρ=e9 (.nx ρ')∧S xs ρ':=by
  intro a;induction a with
  |nil=>intro pre ρ e h;exact⟨ρ,rfl,by rw[e,List.append_nil];exact h⟩
  |cons y a ih=>
   intro pre ρ e hk;obtain⟨n3,x2,d,g,i⟩:=h pre y a ρ e hk;obtain⟨ρ',j,k⟩:=ih (pre++[y]) x2 (by rw[e,List.append_assoc];rfl) i;exact⟨ρ',E1 d g j,k⟩
 exact key xs [] ρ rfl c
theorem tL(S:Nat→l5→Prop)(n:Nat)(h:∀k ρ,k<n→S k ρ→Tn tg b (f k) ρ (S (k+1)))(a:S 0 ρ):∃ρ',forL tg b ((List.range n).map f) ρ=e9 (.nx ρ')∧S n ρ':=by
 have key:∀(m k:Nat) (ρ:l5),k+m=n→S k ρ→∃ρ',forL tg b ((List.range' k m).map f) ρ=e9 (.nx ρ')∧S n ρ':=by
  intro m;induction m with
  |zero=>intro k ρ e h;exact⟨ρ,rfl,by rw[←e];exact h⟩
  |succ m ih=>
   intro k ρ e hk;obtain⟨n3,x2,c,d,g⟩:=h k ρ (by omega) hk;obtain⟨ρ',i,j⟩:=ih (k+1) x2 (by omega) g;exact⟨ρ',E1 c d i,j⟩
 rw[List.range_eq_range'];exact key n 0 ρ (by omega) a
def Rt (tg:FT)(b:SM)(d:D)(ρ:l5)(P:W→l5→Prop):Prop:=∃n3 w x2,tg d ρ=e9 n3∧b n3=e9 (.rt w x2)∧P w x2
theorem rt {w:W}{P:W→l5→Prop}(a:tg d ρ=e9 n3)(c:b n3=e9 (.rt w x2))(e:P w x2):Rt tg b d ρ P:=⟨n3,w,x2,a,c,e⟩
theorem Gx {α:Type}{f:α→D}(S:List α→l5→Prop)(R:W→l5→Prop)(xs:List α)(h:∀pre x post ρ,xs=pre++x::post→S pre ρ→Tn tg b (f x) ρ (S (pre++[x]))∨Rt tg b (f x) ρ R)(k:S [] ρ):(∃ρ',forL tg b (xs.map f) ρ=e9 (.nx ρ')∧S xs ρ')∨∃w ρ',forL tg b (xs.map f) ρ=e9 (.rt w ρ')∧R w ρ':=by
 have key:∀(a pre:List α) (ρ:l5),xs=pre++a→S pre ρ→(∃ρ',forL tg b (a.map f) ρ=e9 (.nx ρ')∧S xs ρ')∨∃w ρ',forL tg b (a.map f) ρ=e9 (.rt w ρ')∧R w ρ':=by
  intro a;induction a with
  |nil=>intro pre ρ e h;exact .inl ⟨ρ,rfl,by rw[e,List.append_nil];exact h⟩
  |cons y a ih=>
   intro pre ρ e hk;rcases h pre y a ρ e hk with⟨n3,x2,c,d,g⟩ | ⟨n3,w,x2,c,d,g⟩
   ·rcases ih (pre++[y]) x2 (by rw[e,List.append_assoc];rfl) g with⟨ρ',i,j⟩ | ⟨w,ρ',i,j⟩
    ·exact .inl ⟨ρ',E1 c d i,j⟩
    ·exact .inr ⟨w,ρ',E1 c d i,j⟩
   ·exact .inr ⟨w,x2,pf c d,g⟩
 exact key xs [] ρ rfl k
end
theorem W2 {tg:FT}{me:M W}{ρ:l5}{α:Type}{f g:α→D}{xs:List α}(h:∀x∈xs,compTurn tg F5 me ρ (f x)=e9 (e9 (g x))):C1 tg F5 me ρ (xs.map f)=e9 (xs.map g):=by
 have:=ax (tg:=tg) (mt:=F5) (me:=me) (ρ:=ρ) (f:=f) (g:=g) (t:=λ_=>f8) h;rw[this,List.filter_eq_self.mpr (λ_ _=>rfl)]
theorem pc(h:n≤100000)(a:-1000≤n):ints1 [.int n]=e9 ((List.range n.toNat).map λk=>D.int (0+((k:Nat):Int))):=v7 ⟨by omega,by omega⟩
theorem uS (ds:List D):V9 [.lst ds]=e9 (.val (.int (ds.length:Nat))):=rfl
theorem uT (cs:List (List Int)):V9 [.lst (x4 cs)]=e9 (.val (.int (cs.length:Nat))):=by rw[uS,cA]
theorem Gm (l:Int)(c:List Int):inD (.int l) (.lst (c.map D.int))=e9 (.val (.bl (decide (l∈c)))):=zG l c
theorem CF (l:Int)(c:List Int):N6 (.int l) (.lst (c.map D.int))=e9 (.val (.bl (decide (l∉c)))):=by
 show(lq (.int l) (c.map D.int)).bind _=_;rw[qV];by_cases h:l∈c<;>simp[h,vB]
theorem xZ (c:List Int):wd (.lst (c.map D.int))=e9 (!c.isEmpty):=by cases c<;>rfl
theorem AD (F:List (List Int))(c:List Int):x4 (F++[c])=x4 F++[D.tup (c.map D.int)]:=List.map_append
theorem BB (cs:List (List Int)):wd (.lst (x4 cs))=e9 (!cs.isEmpty):=by cases cs<;>rfl
theorem Fj {cs:List (List Int)}{c:List Int}(f:cs.length≤1000)(a:n=(cs.length:Int)+1)(h:ρ[i]?=e9 (e9 (.ow l (.dct (n6 (r8 1 cs)))))):cg i (.int n) (.tup (c.map D.int)) ρ=e9 (.nx (ρ.set i (e9 (.ow l (.dct (n6 (r8 1 (cs++[c])))))))):=by
 have b:putD (n6 (r8 1 cs)) (.inl n) (.tup (c.map D.int))=n6 (r8 1 (cs++[c])):=by
  rw[eX,jV (λkv d e=>by have:=(E8 cs 1 kv d).2.1;omega),a,vT]
 unfold cg;rw[h];show dL (small (n6 (r8 1 cs)).length) (e9 (SR.nx (ρ.set i (e9 (.ow l (.dct (putD (n6 (r8 1 cs)) (.inl n) (.tup (c.map D.int)))))))))=_;rw[b];exact v7 (by show _≤1000000;rw[show(n6 (r8 1 cs)).length=(r8 1 cs).length from List.length_map _,aG];omega)
theorem cr {n:Nat}(h:n≤100000):ints1 [.int (n:Int)]=e9 ((List.range n).map λk=>D.int (0+((k:Nat):Int))):=by
 have:=pc (n:=(n:Int)) (by omega) (by omega);rwa[G8]at this
theorem uR {α:Type}(f:α→D)(xs:List α):V9 [.lst (xs.map f)]=e9 (.val (.int (xs.length:Nat))):=by rw[uS,List.length_map]
theorem zA {α:Type}{f:α→D}{xs:List α}{k:Nat}{x:α}(h:xs[k]?=e9 x):u6 (.lst (xs.map f)) (.int (k:Int))=e9 (.val (f x)):=by
 show(L2.fA _ _).map _=_;rw[ic (v:=f x) (by rw[List.getElem?_map,h];rfl)];rfl
theorem rC (c:List Int):C1 (y7 0) F5 (aZ N1 (h7 0)) [f7] (c.map D.int)=e9 ((c.map λl=>-l).map D.int):=by
 rw[List.map_map];exact cz λl _=>⟨[e9 (.sh (.int l))],.val (.int (-l)),[e9 (.sh (.int l))],[e9 (.sh (.int l))],rfl,U2 (g7 rfl) rfl rfl,rfl⟩
theorem Y2 {c:M (List D)}{tg:FT}{mt:M Bool}{d:M W}{fr:List Nat}{own:Nat}{ds b:List D}{ρ a E:l5}(hi:c ρ=e9 (.ok ds a))(f:small ds.length)(g:C1 tg mt d E ds=e9 b)(e:Z1 own fr a=E)(h:b.all U1=f8∨fy a fr=[]):B9 c tg mt d own fr ρ=e9 (.ok (.own (.lst b)) a):=br hi f (e▸g) h
theorem dh(hi:b ρ=e9 (.ok ds a))(h:forL tg s ds E=r)(e:a=E):T6 b tg s ρ=r:=eH hi (e▸h)
theorem zC {cs:List (List Int)}{k:Nat}{c:List Int}(h:cs[k]?=e9 c):u6 (.lst (x4 cs)) (.int (k:Int))=e9 (.val (.tup (c.map D.int))):=zA (f:=λ(c:List Int)=>D.tup (c.map D.int)) h
local macro_rules | `(tactic| walk_at "k")=>`(tactic| first
 | with_reducible rfl
 | with_reducible assumption
 | exact decide_eq_true (by with_reducible assumption)
 | exact decide_eq_false (by with_reducible assumption)
 | exact decide_eq_true (by omega)
 | exact decide_eq_false (by omega)
 | (simp only [*,Hy,pV,Z6,gk,rV,bV,Jz,rW,Jy,Hz,List.isEmpty_cons,List.isEmpty_nil,bd,xR]; done)
 | (simp only [List.length_cons,List.length_nil,List.isEmpty_cons,List.isEmpty_nil,bd,xR,Hy,pV]; (first | done | exact decide_eq_true (by omega) | exact decide_eq_false (by omega))))
local macro_rules | `(tactic| walk_at "o")=>`(tactic| first
 | with_reducible assumption
 | with_reducible exact eq_int _ _
 | with_reducible exact zG _ _
 | with_reducible exact Gm _ _
 | with_reducible exact CF _ _
 | with_reducible exact tw _ _
 | with_reducible exact oU _ _
 | with_reducible exact jY _ _
 | with_reducible exact lf _
 | with_reducible exact uT _
 | with_reducible exact kf _
 | with_reducible exact xZ _
 | with_reducible exact BB _
 | ((with_reducible apply D5); (first | decide | assumption | omega))
 | ((with_reducible apply jX); (first | exact ⟨by decide,by decide⟩ | assumption | exact ⟨by omega,by omega⟩))
 | ((with_reducible apply eW); (first | exact .inl ⟨by decide,by decide⟩ | exact .inr ⟨by decide,by decide⟩ | exact .inl ⟨by omega,by omega⟩ | exact .inr ⟨by omega,by omega⟩))
 | rfl)
local macro_rules | `(tactic| walk_at "s")=>`(tactic| first
 | with_reducible assumption
 | exact o4 (by (try simp only [List.length_map,List.length_range,List.length_append,cA,List.length_cons,List.length_nil]); omega))
local macro_rules | `(tactic| walk_at "f")=>`(tactic| first
 | with_reducible assumption
 | with_reducible exact pi
 | exact Fj (by (try simp only [List.length_take,List.length_append]); omega) (by (try simp only [List.length_take,List.length_append]); omega) rfl)
local macro_rules | `(tactic| walk_at "e")=>`(tactic| first
 | with_reducible exact k7
 | with_reducible exact i8
 | with_reducible exact fg
 | with_reducible exact C8
 | ((with_reducible apply g7); rfl)
 | with_reducible assumption
 | ((with_reducible apply g9); (· walk_at "e"); (· walk_at "e"))
 | ((with_reducible apply i5); (· walk_at "e"); (· walk_at "e"); (· rfl); (· rfl); (· walk_at "o"))
 | ((with_reducible apply U2); (· walk_at "e"); (· rfl); (· walk_at "o"))
 | ((with_reducible apply v4); (· walk_at "e"); (· rfl); (· walk_at "o"))
 | ((with_reducible apply Q8); (· walk_at "e"); (· rfl); (· rfl); (· walk_at "f"); (· rfl); (· rfl))
 | ((with_reducible apply u8); (· walk_at "e"); (· rfl); (· rfl); (· walk_at "f"); (· rfl); (· first | with_reducible assumption | rfl))
 | ((with_reducible apply n0); (· walk_at "e"))
 | ((with_reducible apply z5); (· walk_at "e"); (· rfl); (· walk_at "o"))
 | ((with_reducible apply U4); (· walk_at "e"))
 | ((with_reducible apply j3); (· walk_at "e"); (· walk_at "e"))
 | ((with_reducible apply U3); (· walk_at "e"))
 | ((with_reducible apply l7); (· walk_at "e"); (· rfl))
 | ((with_reducible apply z6); (· walk_at "e"); (· rfl))
 | ((with_reducible apply A5); (· walk_at "e"); (· walk_at "k"); (· walk_at "e"))
 | ((with_reducible apply u0); (· walk_at "e"); (· walk_at "k"); (· walk_at "e"))
 | ((with_reducible apply P4); (· walk_at "e"); (· rfl); (· first | exact Nat.le_of_ble_eq_true rfl | assumption))
 | ((with_reducible apply u7); (· walk_at "e"); (· rfl); (· first | exact Nat.le_of_ble_eq_true rfl | assumption))
 | ((with_reducible apply vq); (· walk_at "e"); (· walk_at "k"))
 | ((with_reducible apply Dl); (· walk_at "e"); (· walk_at "k"); (· walk_at "e"))
 | ((with_reducible apply tO); (· walk_at "e"); (· walk_at "k"))
 | ((with_reducible apply dg); (· walk_at "e"); (· walk_at "k"); (· walk_at "e"))
 | ((with_reducible apply pv); (· walk_at "e"); (· walk_at "e"))
 | ((with_reducible apply rc); (· walk_at "e"); (· rfl); (· walk_at "k"); (· walk_at "e"))
 | ((with_reducible apply dh); (· walk_at "e"); (· with_reducible assumption); (· rfl))
 | ((with_reducible apply lB); (· walk_at "e"); (· rfl); (· walk_at "o"))
 | ((with_reducible apply B0); (· walk_at "e"); (· rfl); (· rfl))
 | ((with_reducible apply pj); (· walk_at "e"); (· rfl))
 | ((with_reducible apply Y2); (· walk_at "e"); (· walk_at "s"); (· with_reducible assumption); (· rfl); (· first | with_reducible exact .inl (A2 _) | with_reducible exact .inl (Y1 _) | with_reducible exact .inl (ly _) | exact .inl (by with_reducible assumption) | exact .inr rfl))
 | ((with_reducible apply bQ); (· walk_at "e"); (· rfl); (· walk_at "e"); (· rfl); (· rfl); (· walk_at "f"))
 | ((with_reducible apply vo); (· walk_at "e"); (· rfl); (· walk_at "e"); (· rfl); (· rfl); (· rfl))
 | ((with_reducible apply di); (· rfl); (· walk_at "e"); (· rfl); (· rfl); (· walk_at "s"); (· rfl))
 | ((with_reducible apply Dk); (· rfl); (· walk_at "e"); (· rfl); (· rfl); (· rfl); (· walk_at "s"); (· first | assumption | omega); (· omega); (· rfl))
 | ((with_reducible apply W9); (· walk_at "e"))
 | with_reducible exact nJ
 | ((with_reducible apply fe); (· walk_at "e"); (· rfl))
 | ((with_reducible apply nI); (· walk_at "e"); (· walk_at "e"); (· walk_at "e"); (· rfl); (· walk_at "o"))
 | ((with_reducible apply An); (· rfl); (· walk_at "e"); (· rfl); (· rfl); (· rfl)))
local macro_rules | `(tactic| walk_at "r")=>`(tactic| (refine' D1 ?h ?o; (case h=>walk_at "e"); (case o=>rfl)))
local macro_rules | `(tactic| walk_at "d")=>`(tactic| ((with_reducible apply gE); (· rfl); (· rfl); (· walk_at "e"); (· rfl)))
local macro_rules | `(tactic| walk_at "c")=>`(tactic| (refine W2 fun _ _=>?_; walk_at "d"))
local macro_rules | `(tactic| walk_at "t")=>`(tactic| (apply tn; (· rfl); (· walk_at "e")))
local macro_rules | `(tactic| walk_at "u")=>`(tactic| (apply rt; (· rfl); (· walk_at "e")))
noncomputable def Fi (j:Int):Int:=if j=0 then 1 else if j=1 then 2 else if j=2 then 4 else if j=3 then 8 else 16
noncomputable def pE (v:Int):Nat:=if v=1 then 2 else if v=2 then 4 else if v=3 then 8 else 16
noncomputable def FS (v n:Int)(k:Nat):Int:=((k:Int)+1)*(2*(n / Fi (v-1-k) % 2)-1)
noncomputable def aY (v n:Int):List Int:=(List.range v.toNat).map (FS v n)
noncomputable def wl (cs:List (List Int))(M:List Int):Bool:=cs.all λc=>rJ c M
noncomputable def jZ (v:Int)(cs:List (List Int)):List (List Int):=((List.range (pE v)).map λ(n:Nat)=>aY v (n:Int)).filter (wl cs)
theorem DY(a:0≤j)(b:j<5):u6 (.lst [.int 1,.int 2,.int 4,.int 8,.int 16]) (.int j)=e9 (.val (.int (Fi j))):=by
 have:j=0∨j=1∨j=2∨j=3∨j=4:=by omega
 rcases this with rfl|rfl|rfl|rfl|rfl<;>rfl
theorem yD (j:Int):rQ n (Fi j):=by
 unfold Fi rQ;split<;>(try split)<;>(try split)<;>(try split)<;>omega
theorem GL(a:0<v)(b:v≤4):u6 (.lst [.int 1,.int 2,.int 4,.int 8,.int 16,.int 32]) (.int v)=e9 (.val (.int (pE v:Nat))):=by
 have:v=1∨v=2∨v=3∨v=4:=by omega
 rcases this with rfl|rfl|rfl|rfl<;>rfl
theorem Dw (O:List Int)(M:List Int):C1 (y7 0) F5 (i3 inD (h7 0) (h7 1)) [f7,e9 (.sh (.lst (M.map D.int)))] (O.map D.int)=e9 ((O.map λl=>decide (l∈M)).map D.bl):=by
 rw[List.map_map];walk_at"c"
noncomputable def IE (v:Int)(cs F:List (List Int))(a b c:Option C):l5:=[e9 (.sh (.int v)),e9 (.sh (.lst (x4 cs))),e9 (.ow f6 (.lst (x4 F))),a,b,c]
theorem xv{cs:List (List Int)}(o:0<v)(p:v≤4)(t:cs.length≤1000)(hl:∀c∈cs,c.length≤1000):W8 [.int v,.lst (x4 cs)]=e9 (.ret (.own (.lst (x4 (jZ v cs)))) []):=by
 have cl:pE v≤16:=by unfold pE;split<;>(try split)<;>(try split)<;>omega
 have:=GL o p;have:=cr (n:=pE v) (by omega);have:=pc (n:=v) (by omega) (by omega);obtain⟨_,u,d,g,a,rfl⟩:=tL (tg:=y7 3) (b:=dF) (f:=λk=>D.int (0+((k:Nat):Int))) (λk ρ=>∃d g a,ρ=IE v cs (((List.range k).map λ(n:Nat)=>aY v (n:Int)).filter (wl cs)) d g a) (pE v) (ρ:=IE v cs [] f7 f7 f7) (λn ρ w ⟨d,g,a,e⟩=>by
  subst e;have q:(((List.range n).map λ(n:Nat)=>aY v (n:Int)).filter (wl cs)).length≤16:=Nat.le_trans (List.length_filter_le _ _) (by simp;omega);rw[List.range_succ,List.map_append,List.filter_append];generalize ((List.range n).map λ(n:Nat)=>aY v (n:Int)).filter (wl cs)=F at q;rw[v8];obtain⟨_,x,i,rfl⟩:=tL (tg:=y7 5) (b:=dG) (f:=λk=>D.int (0+((k:Nat):Int))) (λk ρ=>∃m,ρ=IE v cs F (e9 (.sh (.int (n:Int)))) (e9 (.ow f6 (.lst (((List.range k).map (FS v n)).map D.int)))) m) v.toNat (ρ:=IE v cs F (e9 (.sh (.int (n:Int)))) (e9 (.ow f6 (.lst []))) a) (λk ρ hk ⟨m,e⟩=>by
   subst e;rw[v8,List.range_succ,List.map_append,List.map_append];have:=DY (j:=v-1-(k:Int)) (by omega) (by omega);have:=yD (n:=(n:Int)) (v-1-(k:Int));have:small (((List.range k).map (FS v n)).map D.int).length:=o4 (by simp;omega);walk_at"t";exact⟨_,rfl⟩) ⟨_,rfl⟩
  have hs:C1 (y7 0) F5 (D2 ub (g4 (B9 (A3 (h7 0)) (y7 0) F5 (i3 inD (h7 0) (h7 1)) 1 [1]) j4)) [f7,e9 (.sh (.lst ((aY v n).map D.int)))] (x4 cs)=e9 ((cs.map λc=>rJ c (aY v n)).map D.bl):=by
   unfold x4;rw[List.map_map];refine W2 λc r=>?_;have:=Dw c (aY v n);have:=pO (c.map λl=>decide (l∈aY v n));rw[List.any_map]at this;have:=Y1 (c.map λl=>decide (l∈aY v n));have:small (c.map D.int).length:=o4 (by have:=hl c r;simp;omega);walk_at"d"
  have s:=ig (cs.map λc=>rJ c (aY v n));rw[List.all_map]at s;have:=Y1 (cs.map λc=>rJ c (aY v n));have:small (x4 cs).length:=o4 (by rw[cA];omega);have:small (x4 F).length:=o4 (by rw[cA];omega);cases hs:wl cs (aY v n)with
  |false=>
   have h:cs.all (id∘λc=>rJ c (aY v n))=f6:=hs;walk_at"t";exact⟨_,_,i,by simp[hs];rfl⟩
  |true=>
   have h:cs.all (id∘λc=>rJ c (aY v n))=f8:=hs;walk_at"t";exact⟨_,_,i,by simp only[List.map_cons,List.map_nil,List.filter_cons,hs,if_true,List.filter_nil];unfold IE;rw[AD];rfl⟩) ⟨_,_,_,rfl⟩
 walk_at"r"
def DG (v:Int)(cs:List (List Int)):Prop:=∀n:Nat,n<pE v→∃c∈cs,rJ c (aY v n)=f6
theorem DG.of(h:jZ v cs=[]):DG v cs:=λn b=>by
 have:=List.filter_eq_nil_iff.mp h _ (List.mem_map.mpr ⟨n,List.mem_range.mpr b,rfl⟩);unfold wl at this;rw[List.all_eq_true]at this;obtain⟨c,a⟩:=NP.mp this;exact⟨c,(um.mp a).1,by simpa using(um.mp a).2⟩
structure Ln (v:Int) (cs:List (List Int)):Prop where
 lo:1≤v
 hi:v≤3
 cl:∀c∈cs,c.length≤7∧∀l∈c,l≠0∧l.natAbs≤v.toNat
 no:DG v cs
noncomputable def FP (ns:List Int)(b:Int)(a c d e f g h:Option C):l5:=[e9 (.sh (.lst (ns.map D.int))),e9 (.sh (.int b)),a,c,d,e,f,g,h]
noncomputable def Ky (n:Nat)(k:Int):Int:=(1+k)*(1-2*((n:Int) / (if k=0 then 1 else if k=1 then 2 else 4) % 2))
noncomputable def sg (n:Nat):List Int:=[Ky n 0,Ky n 1,Ky n 2]
theorem yp:(List.range 8).all (λn=>(sg n).all (λl=>decide (l≠0∧l.natAbs≤3)))=f8∧((List.range 8).all λm=>(List.range 8).any λn=>(sg n).all λl=>!decide (l∈aY 3 m))=f8:=by decide +kernel
theorem Dv (n:Nat):C1 (y7 0) F5 (i3 bG (i3 z7 (mC (.int 1)) (h7 0)) (i3 lY (mC (.int 1)) (i3 bG (mC (.int 2)) (i3 S9 (i3 lF (h7 1) (i3 u6 (N2 (g4 (mC (.int 1)) (g4 (mC (.int 2)) (g4 (mC (.int 4)) j4)))) (h7 0))) (mC (.int 2)))))) [f7,e9 (.sh (.int (n:Int)))] [.int 0,.int 1,.int 2]=e9 ((sg n).map D.int):=by kernel_rfl
theorem yo (hs:List Int)(k:Nat):EY (.lst (hs.map D.int)) (e9 (k:Int)) f7=e9 (.own (.lst ((hs.drop k).map D.int))):=by
 show e9 (W.own (.lst (cutD _ (e9 (k:Int)) f7)))=_;unfold cutD;rw[L3.AA,List.map_drop]
theorem rK {a b:List Int}(h:a.length+b.length≤100000):z7 (.lst (a.map D.int)) (.lst (b.map D.int))=e9 (.own (.lst ((a++b).map D.int))):=by
 show dL (small ((a.map D.int).length+(b.map D.int).length)) (e9 (W.own (.lst (a.map D.int++b.map D.int))))=_;rw[←List.map_append];exact v7 (o4 (by rw[List.length_map,List.length_map];exact h))
theorem Dy (cs:List (List Int))(i:Nat)(c:List Int):x4 (cs.take i++c::cs.drop i)=(x4 cs).take i++D.tup (c.map D.int)::(x4 cs).drop i:=by
 unfold x4;rw[List.map_append,List.map_cons,List.map_take,List.map_drop]
theorem oW {cs:List (List Int)}:d∈cs.take i++c::cs.drop i↔d=c∨d∈cs:=by
 have:=List.take_append_drop i cs
 conv=>rhs;rw[←this]
 simp only[List.mem_append,List.mem_cons];constructor
 ·rintro (h|h|h)<;>simp[h]
 ·rintro (h|h|h)<;>simp[h]
theorem IW (ns:List Int)(b:Int):∃cs g o p,forL (y7 3) bL ((List.range 8).map λj=>D.int (0+((j:Nat):Int))) (FP ns b (e9 (.ow f6 (.lst []))) f7 f7 f7 f7 f7 f7)=e9 (.nx (FP ns b (e9 (.ow f6 (.lst (x4 cs)))) g o p f7 f7 f7))∧cs.length=8∧Ln 3 cs:=by
 obtain⟨_,w,cs,g,o,p,rfl,s,q,r⟩:=tL (tg:=y7 3) (b:=bL) (f:=λj=>D.int (0+((j:Nat):Int))) (λk ρ=>∃cs g o p,ρ=FP ns b (e9 (.ow f6 (.lst (x4 cs)))) g o p f7 f7 f7∧cs.length=k∧(∀c∈cs,c.length≤7∧∀l∈c,l≠0∧l.natAbs≤3)∧∀n,n<k→∃c∈cs,∀l,l∈c→l∈sg n) 8 (ρ:=FP ns b (e9 (.ow f6 (.lst []))) f7 f7 f7 f7 f7 f7) (λk ρ hk ⟨cs,g,o,p,e,s,q,r⟩=>by
  subst e;rw[v8];have:=Dv k;have x:ints1 [.int 3]=e9 [.int 0,.int 1,.int 2]:=rfl;have t:=List.all_eq_true.mp yp.1 k (List.mem_range.mpr hk);rw[List.all_eq_true]at t;obtain⟨a,y⟩:∃a:Nat,E9 ns (b+2+(k:Int)) % 3=(a:Int):=⟨(E9 ns (b+2+(k:Int)) % 3).toNat,by omega⟩
  have E:S9 (.int (E9 ns (b+2+(k:Int)))) (.int 3)=e9 (.val (.int (a:Int))):=by
   rw[←y];exact D5 (by decide)
  have F:=C9 (E9 ns (b+3)) (b:=((cs.length:Nat):Int)+1) (by omega);have G:=A8 (E9 ns (b+3)) (b:=((cs.length:Nat):Int)+1) (by omega);have A:S9 (.int (E9 ns (b+3))) (.int (((cs.length:Nat):Int)+1))=e9 (.val (.int (E9 ns (b+3) % (((cs.length:Nat):Int)+1)))):=D5 (by omega);generalize E9 ns (b+3) % (((cs.length:Nat):Int)+1)=i at *;have:=yo (sg k) a;have:=ym (sg k) a;have H:(sg k).length=3:=rfl;have:=rK (a:=(sg k).drop a) (b:=(sg k).take a) (by rw[List.length_drop,List.length_take];omega);have u:∀l,l∈(sg k).drop a++(sg k).take a→l∈sg k:=λl hl=>by
   rcases List.mem_append.mp hl with h|h
   ·exact List.mem_of_mem_drop h
   ·exact List.mem_of_mem_take h
  walk_at"t"
  refine⟨cs.take i.toNat++((sg k).drop a++(sg k).take a)::cs.drop i.toNat,_,_,_,by rw[Dy];rfl,by simp;omega,λc d=>?_,λn v=>?_⟩
  ·rcases oW.mp d with rfl|d
   ·exact⟨by rw[List.length_append,List.length_drop,List.length_take];omega,λl hl=>of_decide_eq_true (t l (u l hl))⟩
   ·exact q c d
  ·by_cases z:n=k
   ·exact⟨_,oW.mpr (.inl rfl),by rw[z];exact u⟩
   ·obtain⟨c,d,e⟩:=r n (by omega);exact⟨c,oW.mpr (.inr d),e⟩) ⟨[],_,_,_,rfl,rfl,λ_ h=>(nomatch h),λ_ h=>absurd h (Nat.not_lt_zero _)⟩
 refine⟨cs,g,o,p,w,s,by decide,by decide,q,λm B=>?_⟩;have:=List.all_eq_true.mp yp.2 m (List.mem_range.mpr B);obtain⟨n,v,e⟩:=List.any_eq_true.mp this;obtain⟨c,d,z⟩:=r n (List.mem_range.mp v);refine⟨c,d,List.any_eq_false.mpr λl hl=>?_⟩;have:=List.all_eq_true.mp e l (z l hl);simpa using this
theorem FX(d:0<v):(qQ p v).natAbs≤v.toNat:=by
 unfold qQ;have e:=C9 (p / 2) (b:=v) (by omega);have f:=A8 (p / 2) (b:=v) d;have c:p % 2=0∨p % 2=1:=by omega
 generalize p / 2 % v=a at *;rcases c with c|c<;>rw[c]<;>omega
theorem xD (ns:List Int)(b:Int)(a:0<v):(X2 ns b v 3).length≤7∧∀l∈X2 ns b v 3,l≠0∧l.natAbs≤v.toNat:=by
 refine⟨?_,λl hl=>⟨xE a l hl,?_⟩⟩
 ·unfold X2;rw[List.length_map,List.length_range];have:=uz (E9 ns b) 3 (by decide);omega
 ·obtain⟨q,_,rfl⟩:=List.mem_map.mp hl;exact FX a
theorem Dc (ns:List Int)(b:Int):∃v cs,bo [.lst (ns.map D.int),.int b]=e9 (.ret (.val (.tup [.int v,.lst (x4 cs)])) [])∧cs.length≤12∧Ln v cs:=by
 have A:ints1 [.int 8]=e9 ((List.range 8).map λj=>D.int (0+((j:Nat):Int))):=rfl;have B:ints1 [.int 6]=e9 ((List.range 6).map λj=>D.int (0+((j:Nat):Int))):=rfl;by_cases h:E9 ns (b+1) % 4=0
 ·obtain⟨cs,E,F,G,p,q,o⟩:=IW ns b;exact⟨3,cs,by walk_at"r",by omega,o⟩
 ·rcases Gx (tg:=y7 6) (b:=fK) (f:=λj=>D.int (0+((j:Nat):Int))) (λ_ ρ=>∃a d g i,ρ=FP ns b a f7 f7 f7 d g i) (λw ρ=>∃v cs a d g i,w=.val (.tup [.int v,.lst (x4 cs)])∧ρ=FP ns b a f7 f7 f7 d g i∧cs.length≤12∧Ln v cs) (List.range 6) (ρ:=FP ns b f7 f7 f7 f7 f7 f7 f7) (λ_ k _ ρ _ ⟨a,d,g,i,e⟩=>by
   subst e;rw[v8];have H:=C9 (E9 ns (b+3*(k:Int))) (b:=3) (by omega);have I:=A8 (E9 ns (b+3*(k:Int))) (b:=3) (by omega);have J:=C9 (E9 ns (b+2+(k:Int))) (b:=11) (by omega);have L:=A8 (E9 ns (b+2+(k:Int))) (b:=11) (by omega);have r:S9 (.int (E9 ns (b+3*(k:Int)))) (.int 3)=e9 (.val (.int (E9 ns (b+3*(k:Int)) % 3))):=D5 (by decide);have s:S9 (.int (E9 ns (b+2+(k:Int)))) (.int 11)=e9 (.val (.int (E9 ns (b+2+(k:Int)) % 11))):=D5 (by decide);generalize E9 ns (b+3*(k:Int)) % 3=x at *;generalize E9 ns (b+2+(k:Int)) % 11=y at *;have:=pc (n:=2+y) (by omega) (by omega);have m:C1 (y7 0) F5 (o8 [f6,f6,f6,f6] Q7 (g4 (h7 1) (g4 (i3 z7 (i3 z7 (i3 z7 (h7 2) (mC (.int 4))) (i3 bG (mC (.int 5)) (h7 0))) (h7 3)) (g4 (h7 4) (g4 (mC (.int 3)) j4))))) [f7,e9 (.sh (.lst (ns.map D.int))),e9 (.sh (.int b)),e9 (.sh (.int (k:Int))),e9 (.sh (.int (1+x)))] ((List.range (2+y).toNat).map λj=>D.int (0+((j:Nat):Int)))=e9 (x4 ((List.range (2+y).toNat).map λ(j:Nat)=>X2 ns (b+4+5*(0+(j:Int))+(k:Int)) (1+x) 3)):=by
    unfold x4;rw[List.map_map];refine W2 λj _=>?_;have:=xw (ns:=ns) (b:=b+4+5*(0+(j:Int))+(k:Int)) (v:=1+x) (most:=3) (by omega) (by omega) (by decide) (by decide);walk_at"d"
   have hl:∀c∈(List.range (2+y).toNat).map λ(j:Nat)=>X2 ns (b+4+5*(0+(j:Int))+(k:Int)) (1+x) 3,c.length≤7∧∀l∈c,l≠0∧l.natAbs≤(1+x).toNat:=λc m=>by
    obtain⟨j,_,rfl⟩:=List.mem_map.mp m;exact xD ns _ (by omega)
   have t:((List.range (2+y).toNat).map λ(j:Nat)=>X2 ns (b+4+5*(0+(j:Int))+(k:Int)) (1+x) 3).length≤12:=by simp;omega
   generalize (List.range (2+y).toNat).map (λ(j:Nat)=>X2 ns (b+4+5*(0+(j:Int))+(k:Int)) (1+x) 3)=cs at *;have:=xv (v:=1+x) (cs:=cs) (by omega) (by omega) (by omega) λc m=>by have:=(hl c m).1;omega
   have:=ly cs;have:(dM (.own (.lst (x4 (jZ (1+x) cs))))&&([]:List D).all U0)=f8:=by rw[k9];exact⟨ly _,rfl⟩
   cases u:(jZ (1+x) cs).isEmpty with
   |false=>
    left;walk_at"t";exact⟨_,_,_,_,rfl⟩
   |true=>
    right;walk_at"u";exact⟨_,cs,_,_,_,_,rfl,rfl,t,by omega,by omega,hl,DG.of (List.isEmpty_iff.mp u)⟩) ⟨_,_,_,_,rfl⟩with⟨_,p,a,d,g,i,rfl⟩ | ⟨_,_,p,v,cs,a,d,g,i,rfl,rfl,q,o⟩
  ·exact⟨2,[[1,2],[-1,2],[1,-2],[-1,-2]],by walk_at"r",by decide,by decide,by decide,by decide,λn z=>by
    have:∀n:Nat,n<4→∃c∈[[1,2],[-1,2],[1,-2],[-1,-2]],rJ c (aY 2 n)=f6:=by decide +kernel
    exact this n z⟩
  ·exact⟨v,cs,by walk_at"r",q,o⟩
noncomputable def EJ (T:Tab)(ts:O1)(h:Int)(X:List Int):l5:=[e9 (.sh (.dct (n6 T))),e9 (.ow f8 (.dct (l8 ts))),e9 (.sh (.int h)),e9 (.ow f6 (.lst (X.map D.int)))]
section
variable {T:Tab}{ts:O1}{h:Int}{c:List Int}
theorem nz (b:sK T=f8)(hl:v3 T h=e9 c)(hr:(k8 (X9 (p6 (i3 M4 (h7 3) (N2 j4))) (retS (mC (.str uV))) aq) (k8 (X9 (rY (p6 (i3 (U8 λi j=>decide (j<i)) (D2 V9 (g4 (h7 3) j4)) (mC (.int 1)))) (p6 (i3 inD (D2 Q9 (g4 (i3 u6 (h7 3) (mC (.int 0))) j4)) (h7 1)))) (retS (mC (.str Gf))) aq) (k8 (dR 1 (i3 u6 (h7 3) (mC (.int 0))) (D2 Q9 (g4 (i3 u6 (h7 3) (mC (.int 0))) j4))) (retS (mC (.str qT)))))) (EJ T ts h (t8 ts c))=r):M0 (B3 4 [f6,f8,f6] [.dct (n6 T),.dct (l8 ts),.int h])=r:=by
 have a:=jY T h;rw[hl]at a;have d:c.length≤1000:=(oS b).2 _ (D0 hl);exact j3 (u0 (n0 (i5 (g7 rfl) (g7 rfl) rfl rfl a)) rfl C8) (j3 (n3:=EJ T ts h (t8 ts c)) (l7 (u8 (g9 (g7 rfl) (g9 (i5 (g7 rfl) (g7 rfl) rfl rfl (fY hl)) i8)) rfl rfl (nG (ts:=ts) d) rfl (av _)) rfl) hr)
theorem xc (a:sK T=f8)(hl:v3 T h=e9 c)(b:t8 ts c=[]):O6 [.dct (n6 T),.dct (l8 ts),.int h]=e9 (.ret (.val (.str uV)) [.dct (l8 ts)]):=by
 show n8 M0 4 [f6,f8,f6] _=_;refine D1 (nz a hl (U3 (A5 (n0 (i5 (g7 rfl) (P4 i8 rfl (Nat.le_of_ble_eq_true rfl)) rfl rfl (kf _))) (by rw[b];rfl) (z6 k7 rfl)))) rfl
theorem xb(e:sK T=f8)(hl:v3 T h=e9 c)(f:t8 ts c=[l])(a:l4 ts (n7 l)=f7)(i:ts.length≤10000):O6 [.dct (n6 T),.dct (l8 ts),.int h]=e9 (.ret (.val (.str qT)) [.dct (l8 (ts++[(n7 l,l)]))]):=by
 show n8 M0 4 [f6,f8,f6] _=_;have it:=tw ts (n7 l);rw[a]at it;rw[←gU a];have g:Q9 [.int l]=e9 (.val (.int (n7 l))):=rfl;have b:i3 u6 (h7 3) (mC (.int 0)) (EJ T ts h [l])=e9 (.ok (.val (.int l)) (EJ T ts h [l])):=i5 (g7 rfl) k7 rfl rfl rfl;have d:D2 Q9 (g4 (i3 u6 (h7 3) (mC (.int 0))) j4) (EJ T ts h [l])=e9 (.ok (.val (.int (n7 l))) (EJ T ts h [l])):=v4 (g9 b i8) rfl g;refine D1 (sr:=.rt (.val (.str qT)) (EJ T (I8 ts (n7 l) l) h [l])) (nz e hl ?_) rfl;rw[f];exact j3 (u0 (n0 (i5 (g7 rfl) (P4 i8 rfl (Nat.le_of_ble_eq_true rfl)) rfl rfl (kf [l]))) rfl C8) (j3 (u0 (dg (n0 (i5 (v4 (g9 (g7 rfl) i8) rfl (lf [l])) k7 rfl rfl rfl)) rfl (n0 (i5 d (g7 rfl) rfl rfl it))) rfl C8) (j3 (bQ b rfl d rfl rfl (sC rfl (by omega))) (z6 k7 rfl)))
end
noncomputable def xm (T:Tab)(c hs:List Int)(ts:O1)(k:Nat)(a:Option C):l5:=[e9 (.sh (.dct (n6 T))),e9 (.sh (.tup (c.map D.int))),e9 (.sh (.tup (hs.map D.int))),e9 (.ow f6 (.dct (l8 ts))),e9 (.sh (.int (k:Int))),a]
section
variable {T:Tab}{c hs:List Int}
noncomputable abbrev Gz:M Bool:=hA (p6 (i3 (U8 λi j=>decide (i<j)) (h7 4) (D2 V9 (g4 (h7 2) j4)))) (p6 (i3 (U8 λi j=>decide (j<i)) (i3 u6 (h7 2) (h7 4)) (mC (.int 0))))
theorem Ac(a:hs[k]?=e9 h)(b:0<h):Gz (xm T c hs ts k o5)=e9 (.ok f8 (xm T c hs ts k o5))∧i3 u6 (h7 2) (h7 4) (xm T c hs ts k o5)=e9 (.ok (.val (.int h)) (xm T c hs ts k o5)):=by
 have ln:V9 [.tup (hs.map D.int)]=e9 (.val (.int (hs.length:Nat))):=by
  show e9 (W.val (.int _))=_;rw[List.length_map]
 have lt:U8 (λi j=>decide (i<j)) (.int (k:Int)) (.int (hs.length:Nat))=e9 (.val (.bl f8)):=by
  show e9 (W.val (.bl (decide ((k:Int)<_))))=_;rw[decide_eq_true (Kd.mpr (List.getElem?_eq_some_iff.mp a).1)]
 have gt:U8 (λi j=>decide (j<i)) (.int h) (.int 0)=e9 (.val (.bl f8)):=by
  show e9 (W.val (.bl (decide (0<h))))=_;rw[decide_eq_true b]
 have d:u6 (.tup (hs.map D.int)) (.int (k:Int))=e9 (.val (.int h)):=by
  show(L2.fA (hs.map D.int) (k:Int)).map W.val=_;rw[ic (v:=D.int h) (by rw[List.getElem?_map,a];rfl)];rfl
 have m:i3 u6 (h7 2) (h7 4) (xm T c hs ts k o5)=e9 (.ok (.val (.int h)) (xm T c hs ts k o5)):=i5 (g7 rfl) (g7 rfl) rfl rfl d;exact⟨pv (n0 (i5 (g7 rfl) (v4 (g9 (g7 rfl) i8) rfl ln) rfl rfl lt)) (n0 (i5 m k7 rfl rfl gt)),m⟩
theorem Gy (i:sK T=f8)(b:∀kv∈T,0<kv.1)(g:Pg T t0 ts pre)(r:t0.length+hs.length≤10000):∀(a:List Int) (n:Nat),hs=pre++a→∃o5,C3 Gz af (n+pre.length) (xm T c hs t0 0 f7)=C3 Gz af n (xm T c hs ts pre.length o5):=by
 induction g with
 |nil=>exact λ_ n _=>⟨f7,rfl⟩
 | @snoc ts pre h l d g hl j k ih=>
  intro a n e;rw[List.append_assoc]at e;obtain⟨o5,ih⟩:=ih ([h]++a) (n+1) e;refine⟨e9 (.sh (.str qT)),?_⟩;have m:hs[pre.length]?=e9 h:=by rw[e,List.getElem?_append_right (Nat.le_refl _),Nat.sub_self];rfl
  have f:=congrArg List.length e;rw[List.length_append,List.length_append,List.length_singleton]at f;have s:=g.len;have o:=xb i hl j k (by omega);obtain⟨p,q⟩:=Ac (T:=T) (c:=c) (ts:=ts) (o5:=o5) m (b _ (D0 hl));rw[List.length_append,List.length_singleton,show n+(pre.length+1)=n+1+pre.length by omega,ih];refine gy p (j3 (n3:=xm T c hs (ts++[(n7 l,l)]) pre.length (e9 (.sh (.str qT)))) (l7 (u8 (g9 (g7 rfl) (g9 (g7 rfl) (g9 q i8))) rfl rfl o rfl ?_) rfl) (j3 (u0 (n0 (i5 (g7 rfl) k7 rfl rfl rfl)) rfl C8) (An rfl k7 rfl rfl rfl))) rfl;show(f8&&(U0 _&&f8))=f8;rw[aw];rfl
theorem tN (j:sK T=f8)(f:∀kv∈T,0<kv.1)(m:c.length≤1000)(o:hs.length≤900)(p:∀l∈c,-l∉c)(h:AV T c hs):df [.dct (n6 T),.tup (c.map D.int),.tup (hs.map D.int)]=e9 (.ret (.val (.bl f8)) []):=by
 show n8 bv 6 [f6,f6,f6] _=_;obtain⟨a,k,ts,d,rfl,g,hl,q⟩:=h;have r:=Df m p;have i:C1 (y7 0) F5 (aZ N1 (h7 0)) [f7] (c.map D.int)=e9 ((c.map λl=>-l).map D.int):=by
  rw[List.map_map];exact cz λl _=>⟨[e9 (.sh (.int l))],.val (.int (-l)),[e9 (.sh (.int l))],[e9 (.sh (.int l))],rfl,U2 (g7 rfl) rfl rfl,rfl⟩
 have s:=br (mi:=A3 (h7 1)) (own:=1) (fr:=[]) (ρ:=B3 6 [f6,f6,f6] [.dct (n6 T),.tup (c.map D.int),.tup ((a++[k]).map D.int)]) (n3:=B3 6 [f6,f6,f6] [.dct (n6 T),.tup (c.map D.int),.tup ((a++[k]).map D.int)]) (B0 (g7 rfl) rfl rfl) (o4 (by rw[List.length_map];omega)) i (.inl (A2 _));have t:=nC (ls:=c.map λl=>-l) (by rw[List.length_map];exact m);have u:=fS (c.map λl=>-l) [];rw[List.length_nil,List.length_map,Nat.zero_add]at u;have v:a.length+1≤900:=by rw[List.length_append]at o;exact o
 obtain⟨o5,w⟩:=Gy (c:=c) (hs:=a++[k]) j f g (by show(A0 _).length+_≤_;unfold A0;omega) [k] (999-a.length+1) rfl;obtain⟨x,y⟩:=Ac (T:=T) (c:=c) (hs:=a++[k]) (ts:=ts) (k:=a.length) (h:=k) (o5:=o5) (by rw[List.getElem?_append_right (Nat.le_refl _),Nat.sub_self];rfl) (f _ (D0 hl));have z:n5 5 (o8 [f6,f8,f6] O6 (g4 (h7 0) (g4 (h7 3) (g4 (i3 u6 (h7 2) (h7 4)) j4)))) (xm T c (a++[k]) ts a.length o5)=e9 (.nx (xm T c (a++[k]) ts a.length (e9 (.sh (.str uV))))):=l7 (u8 (g9 (g7 rfl) (g9 (g7 rfl) (g9 y i8))) rfl rfl (xc j hl q) rfl (by show(f8&&(U0 _&&f8))=f8;rw[aw];rfl)) rfl;have b:af (xm T c (a++[k]) ts a.length o5)=e9 (.rt (.val (.bl f8)) (xm T c (a++[k]) ts a.length (e9 (.sh (.str uV))))):=j3 z (U3 (A5 (n0 (i5 (g7 rfl) k7 rfl rfl rfl)) rfl (z6 (i5 (g7 rfl) k7 rfl rfl rfl) rfl)));have e:=jR (n:=999-a.length) x b;rw[←w,show 999-a.length+1+a.length=1000 by omega]at e;refine D1 (j3 (u0 (z5 (Q8 (g9 (g7 rfl) i8) rfl rfl r rfl rfl) rfl rfl) rfl C8) (j3 (l7 (u8 (g9 s i8) rfl rfl t rfl ?_) rfl) (j3 (l7 k7 rfl) (U3 e)))) rfl;rw[k9];exact⟨aw _,rfl⟩
end
section
variable {ρ n3 x2 gm:l5}{i j:Nat}{f m:Str}{me mv mk mo:M W}{mr:M (List W)}{w wv wk:W}{ws:List W}{d dy:D}{ds:List D}{l:Bool}{fds rR:List (Str×D)}{es JU:List (Key×D)}
theorem gc (h:xo i f ρ=e9 d):sY i f ρ=e9 (.ok (.val d) ρ):=by unfold sY;rw[h];rfl
theorem IP (h:KC i f ρ=e9 d):IF i f ρ=e9 (.ok (.val d) ρ):=by unfold IF;rw[h];rfl
theorem pk (h:iO i j ρ=f8):qM i j ρ=e9 (.ok (.slot j) ρ):=if_pos h
theorem fc (a:me ρ=e9 (.ok w n3))(hl:D8 w n3=e9 (.ok d x2))(b:kQ i f d x2=e9 (.nx gm)):gI i f me ρ=e9 (.nx gm):=by
 unfold gI;rw[u1 a,u1 hl];exact b
theorem vp(c:xo i f ρ=e9 (.int a))(d:me ρ=e9 (.ok w n3))(e:getD w n3=e9 (.int b))(g:kQ i f (.int (a+b)) n3=e9 (.nx x2)):rF i f me ρ=e9 (.nx x2):=by
 unfold rF;rw[c];show E4 me _ ρ=_;rw[u1 d];show(match getD w n3 with|some (.int b)=>kQ i f (.int (a+b)) n3|_=>f7)=_;rw[e];exact g
theorem Dh (a:me ρ=e9 (.ok (.own (.dct es)) n3))(b:n3[i]?=e9 (e9 (.ob l fds)))(c:j<n3.length∧i≠j∧fds.length<1000∧n3[j]?.join.isNone=f8)(hs:(n3.set i (e9 (.ob l (qA S8 .v1 fds)))).set j (e9 (.ow f8 (.dct es)))=x2):tabS i j me ρ=e9 (.nx x2):=by
 unfold tabS;rw[u1 a,←hs];show(match W.own (.dct es),n3[i]? with|.own (.dct es),e9 (e9 (.ob l fds))=>dL (j<n3.length∧i≠j∧fds.length<1000∧n3[j]?.join.isNone=f8) (e9 (SR.nx ((n3.set i (e9 (.ob l (qA S8 .v1 fds)))).set j (e9 (.ow f8 (.dct es)))))) |_,_=>f7)=_;rw[b];exact v7 c
theorem hX(e:ρ[i]?=e9 (e9 (.ob l fds)))(hk:(fds.lookup m).isNone=f8)(f:mr ρ=e9 (.ok ws n3))(hl:aI ws n3=e9 (.ok ds x2))(g:x2[i]?=e9 (e9 (.ob l fds)))(h:x2[j]?=e9 (e9 (.ow f8 (.dct es))))(k:iO i j x2=f8)(n:ds.length+1=a)(o:b fds es ds=e9 (.ret d rR JU))(hs:(x2.set i (e9 (.ob l rR))).set j (e9 (.ow f8 (.dct JU)))=gm):ji i j m a b mr ρ=e9 (.ok (.val d) gm):=by
 unfold ji;have c:AH i m ρ=e9 (.ok () ρ):=by
  unfold AH;rw[e];exact if_pos hk
 rw[M.j9 (g7 e),M.j9 c,M.j9 f,M.j9 hl];unfold sS;rw[g,h];dsimp only;rw[if_pos ⟨k,n⟩,o,←hs]
theorem Di(b:mv ρ=e9 (.ok (.slot i) ρ))(g:ρ[i]?=e9 (e9 a))(c:mo ρ=e9 (.ok w ρ))(hk:mk ρ=e9 (.ok wk ρ))(hl:D8 (.slot i) ρ=e9 (.ok d n3))(e:getD wk n3=e9 dy)(f:cg j dy d n3=r):wp mo j mv mk ρ=r:=by
 unfold wp;rw[u1 (show L1 mv ρ=e9 (.ok (.slot i) ρ) by unfold L1;rw[M.j9 b];rfl),u1 c,u1 hk,u1 hl,e];exact f
theorem Dj(c:mr ρ=e9 (.ok ws n3))(hl:aI ws n3=e9 (.ok ds x2))(d:b ds=e9 r)(e:i<x2.length∧j<x2.length∧i≠j∧ds.length+1=a)(hs:(x2.set i (e9 (.ob f6 r.1))).set j (e9 (.ow f8 (.dct r.2)))=gm):uP i j a b mr ρ=e9 (.nx gm):=by
 unfold uP;rw[u1 c,u1 hl,←hs,d];exact v7 e
theorem BR(h:den (aA n [] ds)=e9 a)(b:outI j a=e9 r):qw den n j ds=e9 r:=by unfold qw;rw[h];exact b
theorem gS(h:den (startM n j fds es ds)=e9 a)(b:FF j a=e9 r):runM den n j fds es ds=e9 r:=by unfold runM;rw[h];exact b
end
noncomputable def qS (v g t:Int)(b:Bool):List (Str×D):=[("variables",.int v),("table",.v1),("greatest",.int g),("taken",.int t),("refuted",.bl b)]
theorem Ae (T:Tab):(dM (.own (.dct (n6 T)))&&([]:List D).all U0)=f8:=by
 show((n6 T).all (λe=>U1 e.2)&&f8)=f8;rw[Z6];unfold n6;rw[List.all_map,List.all_eq_true];exact λkv _=>cw kv.2
theorem Dd{cs:List (List Int)}(h:cs.length≤1000):K9 [.int v,.lst (x4 cs)]=e9 (qS v cs.length 0 f6,n6 (r8 1 cs)):=by
 show qw G4 4 3 _=_;have ln:V9 [.lst (x4 cs)]=e9 (.val (.int (cs.length:Nat))):=by
  show e9 (W.val (.int _))=_;rw[cA]
 exact BR (j3 (fc (g7 rfl) rfl rfl) (j3 (Dh (u8 (g9 (g7 rfl) i8) rfl rfl (jt h) rfl (Ae _)) rfl ⟨Nat.le_of_ble_eq_true rfl,by decide,Nat.le_of_ble_eq_true rfl,rfl⟩ rfl) (j3 (fc (v4 (g9 (g7 rfl) i8) rfl ln) rfl rfl) (j3 (fc k7 rfl rfl) (fc k7 rfl rfl))))) rfl
noncomputable def JJ (v g t:Int)(b:Bool)(T:Tab)(n:Int)(c hs:List Int):l5:=[e9 (.ob f8 (qS v g t b)),e9 (.sh (.int n)),e9 (.sh (.tup (c.map D.int))),e9 (.sh (.tup (hs.map D.int))),e9 (.ow f8 (.dct (n6 T)))]
section
variable {v:Nat}{L:List Int}{l:Int}
theorem KO.uq (h:KO v (N0 L)):Uq (N0 L):=λk a b c d=>by
 have nd:=h.nd;rw[List.map_map]at nd;obtain⟨e,g⟩:=bw c;obtain⟨i,j⟩:=bw d;exact sQ (f:=n7) nd e i (g.trans j.symm)
theorem KO.snoc (h:KO v (N0 L))(c:l4 (N0 L) (n7 l)=f7)(d:l≠0∧l.natAbs≤v):KO v (N0 (L++[l])):=by
 rw[show N0 (L++[l])=N0 L++[(n7 l,l)]from List.map_append];refine⟨?_,λkv hk=>?_⟩
 ·rw[List.map_append,List.nodup_append];refine⟨h.nd,by simp,λa f b g e=>?_⟩;obtain⟨kv,hk,rfl⟩:=List.mem_map.mp f;exact F0.mp c kv hk (by rw[e];simpa using g)
 ·rcases List.mem_append.mp hk with hk|hk
  ·exact h.ok kv hk
  ·have:kv=(n7 l,l):=by simpa using hk
   rw[this];exact⟨rfl,d⟩
theorem uQ (h:KO v (N0 L)):l4 (N0 L) (n7 l)=e9 (-l)↔-l∈L:=⟨λh=>(bw (X8 h)).1,λz=>by
 have:=ia (λ_ z=>List.mem_map_of_mem z) h.uq z;rwa[bx]at this⟩
theorem zn (h:KO v (N0 L))(b:-l∉L)(c:l∉L):l4 (N0 L) (n7 l)=f7:=F0.mpr λkv hk e=>by
 obtain⟨a,d⟩:=bw (show(kv.1,kv.2)∈N0 L from hk);have:kv.2=l∨kv.2=-l:=by unfold n7 at d e;omega
 rcases this with z|z<;>rw[z]at a
 ·exact c a
 ·exact b a
theorem yY (h:KO v (N0 L)):x∈t8 (N0 L) c↔x∈c∧-x∉L:=by rw[W6,ne_eq,uQ h]
theorem uG (ts:O1):∀(b a:List Int),(b.foldl (Z2 ts) a).length≤a.length+b.length
 | [],a=>Nat.le_refl _
 |l::b,a=>by
  have:=uG ts b (Z2 ts a l);have:(Z2 ts a l).length≤a.length+1:=by
   unfold Z2;split
   ·omega
   ·exact cD _ _
  rw[List.foldl_cons,List.length_cons];omega
theorem ph (h:KO v (N0 L)){c:List Int}(p:c.length≤1000):S5 [.lst (L.map D.int),.tup (c.map D.int)]=e9 (.ret (.own (.lst ((t8 (N0 L) c).map D.int))) []):=by
 obtain⟨_,g,o,rfl⟩:=CY (tg:=y7 3) (b:=bK) (f:=D.int) (λpre ρ=>∃o,ρ=[e9 (.sh (.lst (L.map D.int))),e9 (.sh (.tup (c.map D.int))),e9 (.ow f6 (.lst ((pre.foldl (Z2 (N0 L)) []).map D.int))),o]) c (ρ:=[e9 (.sh (.lst (L.map D.int))),e9 (.sh (.tup (c.map D.int))),e9 (.ow f6 (.lst [])),f7]) (λpre l post ρ e ⟨o,j⟩=>by
  subst j;have k:=uG (N0 L) pre [];have:=congrArg List.length e;rw[List.length_append,List.length_cons]at this;rw[List.length_nil]at k;rw[List.foldl_append,List.foldl_cons,List.foldl_nil];generalize pre.foldl (Z2 (N0 L)) []=A at *;unfold Z2 O7;have i:=uQ h (l:=l);unfold n7 at i;simp only[i];by_cases a:-l∈L
  ·have m:¬-l∉L:=λz=>z a;rw[if_pos a];walk_at"t";exact⟨_,rfl⟩
  ·rw[if_neg a];by_cases d:l∈A
   ·have n:¬l∉A:=λz=>z d;rw[if_pos d];walk_at"t";exact⟨_,rfl⟩
   ·rw[if_neg d,List.map_append];walk_at"t";exact⟨_,rfl⟩) ⟨_,rfl⟩
 have g:forL (y7 3) bK (c.map D.int) [e9 (.sh (.lst (L.map D.int))),e9 (.sh (.tup (c.map D.int))),e9 (.ow f6 (.lst [])),f7]=e9 (.nx [e9 (.sh (.lst (L.map D.int))),e9 (.sh (.tup (c.map D.int))),e9 (.ow f6 (.lst ((t8 (N0 L) c).map D.int))),o]):=g;walk_at"r"
end
theorem wQ (T:Tab):dJ (n6 T)=e9 (T.map (·.1)):=by
 induction T with
 |nil=>rfl
 |cons t r ih=>
  show(dJ (n6 r)).map (t.1::·)=_;rw[ih];rfl
structure Tc (v:Nat) (T:Tab):Prop where
 cl:∀kv∈T,kv.2.length≤1000
 pos:∀kv∈T,0<kv.1
 lit:∀kv∈T,∀l∈kv.2,l≠0∧l.natAbs≤v
structure Tb (v:Nat) (T:Tab):Prop extends Tc v T where
 len:T.length<64
 nd:(T.map (·.1)).Nodup
 up:(T.map (·.1)).Pairwise (·≤·)
theorem wg(h:Tb v T):eP [.dct (n6 T)]=e9 (.own (.lst (T.map λkv=>D.int kv.1))):=by
 show(dJ (n6 T)).bind _=_;rw[wQ];show dL _ _=_;rw[←kA (List.Perm.refl _) h.up,List.map_map];exact v7 (by rw[List.length_map];exact h.len)
inductive Pl (T:Tab) (L0:List Int):List Int→List Int→Prop
 |nil:Pl T L0 L0 []
 |snoc {L hs:List Int} {h l:Int} {c:List Int}:Pl T L0 L hs→v3 T h=some c→t8 (N0 L) c=[l]→l∉L→Pl T L0 (L++[l]) (hs++[h])
def Cn (T:Tab)(L0 r:List Int):Prop:=∃L a k d,r=a++[k]∧Pl T L0 L a∧v3 T k=e9 d∧t8 (N0 L) d=[]
section
variable {v:Nat}{T:Tab}{L0 L hs:List Int}
theorem Pl.ko (tb:Tc v T)(d:KO v (N0 L0))(p:Pl T L0 L hs):KO v (N0 L)∧Pg T (N0 L0) (N0 L) hs:=by
 induction p with
 |nil=>exact⟨d,.nil⟩
 | @snoc L hs h l c _ a b e ih=>
  have hl:=(yY ih.1).mp (show l∈t8 (N0 L) c by rw[b];exact List.mem_cons_self);have no:=zn ih.1 hl.2 e;refine⟨ih.1.snoc no (tb.lit _ (D0 a) l hl.1),?_⟩;rw[show N0 (L++[l])=N0 L++[(n7 l,l)]from List.map_append];exact ih.2.snoc a b no
theorem Pl.len (tb:Tc v T)(c:KO v (N0 L0))(p:Pl T L0 L hs):L.length≤v∧hs.length≤v:=by
 obtain⟨a,b⟩:=p.ko tb c;have:=a.len;have:=b.len;rw[List.length_map]at *;rw[List.length_map]at this;omega
theorem Pg.pl(g:Pg T (N0 L0) ts hs):∃L,ts=N0 L∧Pl T L0 L hs:=by
 induction g with
 |nil=>exact⟨L0,rfl,.nil⟩
 | @snoc ts hs h l c g hl a b ih=>
  obtain⟨L,rfl,p⟩:=ih;exact⟨L++[l],(show N0 (L++[l])=N0 L++[(n7 l,l)]from List.map_append).symm,p.snoc hl a λz=>F0.mp b _ (List.mem_map_of_mem z) rfl⟩
noncomputable def CU (T:Tab)(L0 L hs:List Int)(a b c:Option C):l5:=[e9 (.sh (.dct (n6 T))),e9 (.sh (.lst (L0.map D.int))),e9 (.ow f6 (.lst (L.map D.int))),e9 (.ow f6 (.lst (hs.map D.int))),a,b,c]
theorem xa (P:v≤4)(tb:Tb v T)(u:KO v (N0 L0))(p:Pl T L0 L hs)(j k m:Option C):
  (∃ρ',forL (y7 5) aH (T.map λkv=>D.int kv.1) (CU T L0 L hs j k m)=e9 (.nx ρ')∧∃f d g i,ρ'=CU T L0 f d j g i∧Pl T L0 f d∧(∀l∈L,l∈f)∧∀kv∈T,∀x,(∀y∈kv.2,y=x∨-y∈L)→x∈f)∨
  ∃w ρ',forL (y7 5) aH (T.map λkv=>D.int kv.1) (CU T L0 L hs j k m)=e9 (.rt w ρ')∧∃r f d g i,w=.own (.lst (r.map D.int))∧Cn T L0 r∧ρ'=CU T L0 f d j g i:=by
 refine Gx (λpre ρ=>∃f d g i,ρ=CU T L0 f d j g i∧Pl T L0 f d∧(∀l∈L,l∈f)∧∀kv∈pre,∀x,(∀y∈kv.2,y=x∨-y∈L)→x∈f) _ T (λpre kv post ρ e ⟨f,d,g,i,F,q,sub,old⟩=>?_) ⟨L,hs,k,m,rfl,p,λ_ h=>h,λ_ h=>nomatch h⟩;subst F;have A:kv∈T:=by rw[e];exact List.mem_append_right _ List.mem_cons_self
 have n:=kc tb.nd A;have Q:=fY n;obtain⟨ko,_⟩:=q.ko tb.toTc u;have:=q.len tb.toTc u;have:=ph ko (tb.cl kv A);have G:=λx=>yY ko (c:=kv.2) (x:=x);have:=av (t8 (N0 f) kv.2);have:z7 (.lst (d.map D.int)) (.lst [.int kv.1])=e9 (.own (.lst ((d++[kv.1]).map D.int))):=rK (b:=[kv.1]) (by rw[List.length_singleton];omega);generalize o:t8 (N0 f) kv.2=X at *;have no:∀x,(∀y∈kv.2,y=x∨-y∈L)→X≠[]→X=[x]:=λx h ne=>by
  have only:∀y∈X,y=x:=λy H=>by
   obtain⟨I,J⟩:=(G y).mp H;rcases h y I with z|z
   ·exact z
   ·exact absurd (sub _ z) J
  rcases en (o▸oP _ _) only with z|z
  ·exact absurd z ne
  ·exact z
 have go:∀{L2:List Int},(∀l∈f,l∈L2)→(∀x,X=[x]→x∈L2)→X≠[]→(∀l∈L,l∈L2)∧∀s∈pre++[kv],∀x,(∀y∈s.2,y=x∨-y∈L)→x∈L2:=λB N ne=>⟨λl h=>B l (sub l h),λs hk x E=>by
  rcases List.mem_append.mp hk with hk|hk
  ·exact B x (old s hk x E)
  ·rw[List.mem_singleton]at hk;subst hk;exact N x (no x E ne)⟩
 cases X with
 |nil=>
  right;walk_at"u";exact⟨_,_,_,_,_,rfl,⟨f,d,kv.1,kv.2,rfl,q,n,o⟩,rfl⟩
 |cons a X=>
  left;cases X with
  |nil=>
   by_cases t:a∈f
   ·have O:¬a∉f:=λz=>z t;walk_at"t";exact⟨f,d,_,_,rfl,q,go (λ_ h=>h) (λx z=>by cases z;exact t) (by simp)⟩
   ·walk_at"t"
    exact⟨f++[a],d++[kv.1],_,_,by unfold CU;rw[List.map_append,List.map_append];rfl,q.snoc n o t,go (λ_ h=>List.mem_append_left _ h) (λx z=>by cases z;exact List.mem_append_right _ List.mem_cons_self) (by simp)⟩
  |cons b X=>
   walk_at"t"
   exact⟨f,d,_,_,rfl,q,go (λ_ h=>h) (λx z=>by cases z) (by simp)⟩
theorem Am (B:v≤4)(tb:Tb v T)(s:KO v (N0 L0))(E:m∈T)(F:n∈T)(G:∀y∈m.2,y=x∨-y∈L0)(H:∀y∈n.2,y=-x∨-y∈L0):∃r,ah [.dct (n6 T),.lst (L0.map D.int)]=e9 (.ret (.own (.lst (r.map D.int))) [])∧Cn T L0 r:=by
 have R:ints1 [.int 9]=e9 ((List.range 9).map λj=>D.int (0+((j:Nat):Int))):=rfl;have:=wg tb;rcases Gx (tg:=y7 4) (b:=eA) (f:=λj=>D.int (0+((j:Nat):Int))) (λpre ρ=>∃L hs k d g,ρ=CU T L0 L hs k d g∧Pl T L0 L hs∧(∀l∈L0,l∈L)∧pre.length≤1∧(pre≠[]→x∈L)) (λw ρ'=>∃r i c k d g,w=.own (.lst (r.map D.int))∧Cn T L0 r∧ρ'=CU T L0 i c k d g) (List.range 9) (ρ:=CU T L0 L0 [] f7 f7 f7) (λpre j post ρ e ⟨L,hs,k,d,g,I,q,sub,len,J⟩=>by
  subst I;rw[v8];rcases xa B tb s q (e9 (.sh (.int (j:Int)))) d g with⟨_,t,i,c,N,O,rfl,u,P,A⟩ | ⟨_,_,t,r,i,c,N,O,rfl,o,rfl⟩
  ·left;cases pre with
   |nil=>
    walk_at"t"
    exact⟨i,c,_,_,_,rfl,u,λl h=>P l (sub l h),Nat.le_refl _,λ_=>A m E x λy p=>(G y p).imp id (sub _)⟩
   |cons a pre=>
    have Q:=J (by simp);have all:∀z,z∈i:=λz=>A n F z λy p=>.inr (by
     rcases H y p with h|h
     ·rw[h,xS];exact Q
     ·exact sub _ h)
    have uq:=(u.ko tb.toTc s).1.uq;have:=uq 1 1 (-1) (List.mem_map.mpr ⟨1,all 1,rfl⟩) (List.mem_map.mpr ⟨-1,all (-1),rfl⟩);cases this
  ·right;walk_at"u";exact⟨r,_,_,_,_,_,rfl,o,rfl⟩) ⟨_,_,_,_,_,rfl,.nil,λ_ h=>h,Nat.zero_le _,λh=>absurd rfl h⟩with⟨_,_,_,_,_,_,_,_,_,_,len,_⟩ | ⟨_,_,t,r,i,c,k,d,g,rfl,o,rfl⟩
 ·exact absurd len (by decide)
 ·exact⟨r,by walk_at"r",o⟩
noncomputable def EC (T:Tab)(L hs:List Int)(u:Int)(a b:Option C):l5:=[e9 (.sh (.dct (n6 T))),e9 (.ow f8 (.lst (L.map D.int))),e9 (.sh (.lst (hs.map D.int))),e9 (.sh (.int u)),a,b]
theorem Bz (k:v≤4)(tb:Tc v T)(f:KO v (N0 L0))(p:Pl T L0 L hs):∀a:List Int,∃u g d,forL (y7 4) W7 ((hs++a).map D.int) (EC T L0 A 0 f7 f7)=forL (y7 4) W7 (a.map D.int) (EC T L A u g d):=by
 induction p with
 |nil=>exact λ_=>⟨0,f7,f7,rfl⟩
 | @snoc L hs h l c p b i m ih=>
  intro a;obtain⟨u,g,d,e⟩:=ih (h::a);obtain⟨ko,_⟩:=p.ko tb f;have:=p.len tb f;have n:0<h:=tb.pos _ (D0 b);have:=fY b;have j:=jY T h;rw[b]at j;have:=ph ko (tb.cl _ (D0 b));rw[i]at this;have:=av [l];refine⟨u+1,e9 (.sh (.int h)),e9 (.ow f6 (.lst [.int l])),?_⟩;rw[List.append_assoc];refine e.trans (E1 (n3:=EC T L A u (e9 (.sh (.int h))) d) rfl ?_ rfl);unfold EC;rw[List.map_append];walk_at"e"
theorem vi (f:v≤4)(tb:Tc v T)(c:KO v (N0 L0))(g:Cn T L0 r):∃(u:Int) (h:List Int),S4 [.dct (n6 T),.lst (L0.map D.int),.lst (r.map D.int)]=e9 (.ret (.val (.tup [.int 2,.int u])) [.lst (h.map D.int)]):=by
 obtain⟨L,a,k,d,rfl,p,b,i⟩:=g;obtain⟨u,m,j,e⟩:=Bz f tb c (A:=a++[k]) p [k];obtain⟨ko,_⟩:=p.ko tb c;have n:0<k:=tb.pos _ (D0 b);have:=fY b;have l:=jY T k;rw[b]at l;have:=ph ko (tb.cl _ (D0 b));rw[i]at this;have:=av [];have o:forL (y7 4) W7 ((a++[k]).map D.int) (EC T L0 (a++[k]) 0 f7 f7)=e9 (.rt (.val (.tup [.int 2,.int (u+1)])) (EC T L (a++[k]) (u+1) (e9 (.sh (.int k))) (e9 (.ow f6 (.lst []))))):=by
  rw[e];refine pf (n3:=EC T L (a++[k]) u (e9 (.sh (.int k))) j) rfl ?_;walk_at"e"
 exact⟨u+1,L,by walk_at"r"⟩
end
noncomputable def Hf (n:Nat)(k:Nat):Int:=1-2*((n:Int) / Fi k % 2)
noncomputable def eK (s n:Nat):List Int:=(List.range s).map λ(k:Nat)=>((k:Int)+1)*Hf n k
theorem AE:((List.range 3).all λs=>(List.range (2 ^ s)).all λn=>decide (eK (s+1) n=eK s n++[(s:Int)+1]∧eK (s+1) (n+2 ^ s)=eK s n++[-((s:Int)+1)]))=f8∧((List.range 4).all λs=>(List.range 8).all λn=>decide ((eK s n).map n7=(List.range s).map λk=>((k:Nat):Int)+1))=f8∧((List.range 3).all λv=>(List.range (2 ^(v+1))).all λn=>(List.range (pE ((v:Int)+1))).any λm=>decide ((eK (v+1) n).map (λl=>-l)=aY ((v:Int)+1) m))=f8:=by decide +kernel
theorem ze:∀(cs:List (List Int)) (k:Int),((r8 k cs).map (·.1)).Pairwise (·≤·)
 | [],_=>.nil
 |c::cs,k=>by
  refine .cons (λa b=>?_) (ze cs (k+1));obtain⟨kv,d,rfl⟩:=List.mem_map.mp b;have:=(E8 cs (k+1) kv d).1;show k≤kv.1;omega
theorem oT:∀{cs:List (List Int)} (k:Int),c∈cs→∃n,(n,c)∈r8 k cs
 |d::cs,k,h=>by
  rcases List.mem_cons.mp h with rfl|h
  ·exact⟨k,List.mem_cons_self⟩
  ·obtain⟨n,a⟩:=oT (k+1) h;exact⟨n,List.mem_cons_of_mem _ a⟩
theorem EM{cs:List (List Int)}(d:cs.length<64)(b:∀c∈cs,c.length≤100∧∀l∈c,l≠0∧l.natAbs≤v):Tb v (r8 1 cs):=by
 refine⟨⟨λkv a=>?_,λkv a=>?_,λkv a=>(b _ (E8 cs 1 kv a).2.2).2⟩,by rw[aG];exact d,aF cs 1,ze cs 1⟩
 ·have:=(b _ (E8 cs 1 kv a).2.2).1;omega
 ·have:=(E8 cs 1 kv a).1;omega
structure Nm (v:Nat) (cs0:List (List Int)) (s n:Nat) (cs:List (List Int)) (st:List aT):Prop where
 stp:ij v cs0 cs st
 cnt:st.length+2 ^(s+1)=2 ^(v+1)+n
 now:∀m,m<n→eK s m∈cs
 abv:s<v→∀m,m<2 ^(s+1)→eK (s+1) m∈cs
 lit:∀c∈cs,c.length≤100∧∀l∈c,l≠0∧l.natAbs≤v
section
variable {v s n:Nat}{cs0 cs:List (List Int)}{st:List aT}
theorem tX (hs:s≤3)(a:n<8):(eK s n).map n7=(List.range s).map λk=>((k:Nat):Int)+1:=of_decide_eq_true (List.all_eq_true.mp (List.all_eq_true.mp AE.2.1 s (List.mem_range.mpr (by omega))) n (List.mem_range.mpr a))
theorem AF (hs:s≤3)(a:n<8)(h:l∈eK s n):l≠0∧l.natAbs≤s:=by
 have:n7 l∈(eK s n).map n7:=List.mem_map_of_mem h;rw[tX hs a]at this;obtain⟨k,hk,e⟩:=List.mem_map.mp this;have:=List.mem_range.mp hk;unfold n7 at e;omega
theorem El (hs:s≤3)(a:n<8):((eK s n).map n7).Nodup:=by
 rw[tX hs a];exact List.pairwise_map.mpr (List.Pairwise.imp (λh=>by omega) List.nodup_range)
theorem Jb (hs:s≤3)(c:s≤v)(a:n<8):KO v (N0 ((eK s n).map λl=>-l)):=by
 refine⟨?_,λkv hk=>?_⟩
 ·rw[List.map_map,List.map_map];have:=El hs a;rwa[show(eK s n).map n7=(eK s n).map ((λx=>x.fst)∘(λl=>(n7 l,l))∘λl=>-l)from List.map_congr_left λx _=>(bx x).symm]at this
 ·obtain⟨l,hl,rfl⟩:=List.mem_map.mp hk;obtain⟨x,b,rfl⟩:=List.mem_map.mp hl;have:=AF hs a b;exact⟨rfl,by omega,by rw[Hx];omega⟩
theorem Jc (o:1≤v)(p:v≤3)(hs:s≤v)(q:n<2 ^ s)(no:DG (v:Int) cs0)(h:Nm v cs0 s n cs st):∃x,∃t∈r8 1 cs,∃w∈r8 1 cs,(∀y∈t.2,y=x∨-y∈(eK s n).map λl=>-l)∧∀y∈w.2,y=-x∨-y∈(eK s n).map λl=>-l:=by
 have J:2 ^ s≤8:=Nat.pow_le_pow_right (n:=2) (by omega) (Nat.le_trans hs p);have g:∀{y:Int},-y∈(eK s n).map (λl=>-l)↔y∈eK s n:=λ{y}=>by
  rw[List.mem_map];exact⟨λ⟨a,o,L⟩=>by rw[show y=a by omega];exact o,λh=>⟨y,h,rfl⟩⟩
 by_cases e:s=v
 ·subst e;obtain⟨u,rfl⟩:∃u,s=u+1:=⟨s-1,by omega⟩
  obtain⟨m,F,e⟩:=List.any_eq_true.mp (List.all_eq_true.mp (List.all_eq_true.mp AE.2.2 u (List.mem_range.mpr (by omega))) n (List.mem_range.mpr q));have e:=of_decide_eq_true e;obtain⟨c,A,f⟩:=no m (List.mem_range.mp F);obtain⟨k,hk⟩:=oT 1 (h.stp.FU A);have key:∀y∈c,-y∈(eK (u+1) n).map λl=>-l:=λy b=>by
   have B:=List.any_eq_false.mp f y b;rw[show((u+1:Nat):Int)=(u:Int)+1 from rfl,←e]at B;have hl:=(h.lit c (h.stp.FU A)).2 y b;have:n7 y∈(eK (u+1) n).map n7:=by
    rw[tX p (by omega)];exact List.mem_map.mpr ⟨y.natAbs-1,List.mem_range.mpr (by omega),by unfold n7;omega⟩
   obtain⟨z,E,G⟩:=List.mem_map.mp this;have:z=y∨z=-y:=by unfold n7 at G;omega
   rcases this with r|r
   ·exact g.mpr (r▸E)
   ·exact absurd (decide_eq_true (List.mem_map.mpr ⟨z,E,by omega⟩)) B
  exact⟨0,(k,c),hk,(k,c),hk,λy b=>.inr (key y b),λy b=>.inr (key y b)⟩
 ·have d:s<v:=by omega
  obtain⟨H,I⟩:=of_decide_eq_true (List.all_eq_true.mp (List.all_eq_true.mp AE.1 s (List.mem_range.mpr (by omega))) n (List.mem_range.mpr q));have N:2 ^(s+1)=2 ^ s+2 ^ s:=by rw[Nat.pow_succ];omega
  obtain⟨t,i⟩:=oT 1 (h.abv d n (by omega));obtain⟨w,j⟩:=oT 1 (h.abv d (n+2 ^ s) (by omega));refine⟨(s:Int)+1,_,i,_,j,λy b=>?_,λy b=>?_⟩
  ·rw[H]at b;rcases List.mem_append.mp b with z|z
   ·exact .inr (g.mpr z)
   ·exact .inl (List.mem_singleton.mp z)
  ·rw[I]at b;rcases List.mem_append.mp b with z|z
   ·exact .inr (g.mpr z)
   ·exact .inl (List.mem_singleton.mp z)
noncomputable def DR (v:Nat)(cs0 cs:List (List Int))(st:List aT)(b c d e f g h a:Option C):l5:=[e9 (.sh (.tup [.int (v:Int),.lst (x4 cs0)])),e9 (.ow f6 (.dct (n6 (r8 1 cs)))),b,e9 (.ow f6 (.lst (st.map m7))),c,d,e,f,g,h,a]
theorem wf (m:1≤v)(b:v≤3)(hs:s≤v)(o:n<2 ^ s)(no:DG (v:Int) cs0)(h:Nm v cs0 s n cs st)(S:cs0.length≤40)(g q t w y z c:Option C):∃a,a.length≤300∧AV (r8 1 cs) (eK s n) a∧Tn (y7 5) bI (D.int (0+(n:Int))) (DR v cs0 cs st g (e9 (.sh (.int (s:Int)))) q t w y z c) λρ=>∃A B E i F e,ρ=DR v cs0 (cs++[eK s n]) (st++[(((cs.length+1:Nat):Int),eK s n,a)]) g (e9 (.sh (.int (s:Int)))) A B E i F e:=by
 have i:2 ^ s≤8:=Nat.pow_le_pow_right (n:=2) (by omega) (Nat.le_trans hs b);have G:2 ^(v+1)≤16:=Nat.pow_le_pow_right (n:=2) (by omega) (Nat.succ_le_succ b);have cnt:=h.cnt;rw[Nat.pow_succ 2 s]at cnt;have sl:=h.stp.len;have tb:=EM (v:=v) (cs:=cs) (by omega) h.lit;have ko:=Jb (v:=v) (s:=s) (n:=n) (by omega) hs (by omega);obtain⟨x,T,H,U,I,J,N⟩:=Jc m b hs o no h;obtain⟨r,f1,j⟩:=Am (by omega) tb ko H I J N;obtain⟨u,O,X⟩:=vi (by omega) tb.toTc ko j;have l:AV (r8 1 cs) (eK s n) r∧r.length≤300:=by
  obtain⟨L,P,k,d,rfl,p,Q,R⟩:=j;have:=(p.len tb.toTc ko).2;refine⟨⟨P,k,N0 L,d,rfl,?_,Q,R⟩,by rw[List.length_append,List.length_singleton];omega⟩;unfold A0;rw[az _ [] (by have:=ko.nd;rwa[List.map_map]at this) λ_ _=>rfl,List.nil_append];exact(p.ko tb.toTc ko).2
 refine⟨r,l.2,l.1,?_⟩;rw[v8];have:=cr (n:=s) (by omega);have Y:C1 (y7 0) F5 (i3 lY (mC (.int 1)) (i3 bG (mC (.int 2)) (i3 S9 (i3 lF (h7 1) (i3 u6 (N2 (g4 (mC (.int 1)) (g4 (mC (.int 2)) (g4 (mC (.int 4)) (g4 (mC (.int 8)) j4))))) (h7 0))) (mC (.int 2))))) [f7,e9 (.sh (.int (n:Int)))] ((List.range s).map λk=>D.int (0+((k:Nat):Int)))=e9 (((List.range s).map (Hf n)).map D.int):=by
  rw[List.map_map];refine W2 λk hk=>?_;have hk:=List.mem_range.mp hk;rw[v8];have:u6 (.lst [.int 1,.int 2,.int 4,.int 8]) (.int (k:Int))=e9 (.val (.int (Fi k))):=by
   have:k=0∨k=1∨k=2:=by omega
   rcases this with rfl|rfl|rfl<;>rfl
  have:=yD (n:=(n:Int)) (k:Int);walk_at"d"
 have Z:C1 (y7 0) F5 (i3 bG (i3 z7 (h7 0) (mC (.int 1))) (i3 u6 (h7 1) (h7 0))) [f7,e9 (.sh (.lst (((List.range s).map (Hf n)).map D.int)))] ((List.range s).map λk=>D.int (0+((k:Nat):Int)))=e9 ((eK s n).map D.int):=by
  rw[show(eK s n).map D.int=(List.range s).map λ(k:Nat)=>D.int (((k:Int)+1)*Hf n k)from List.map_map];refine W2 λk hk=>?_;have hk:=List.mem_range.mp hk;rw[v8];have:=zA (f:=D.int) (xs:=(List.range s).map (Hf n)) (k:=k) (x:=Hf n k) (by rw[List.getElem?_map,List.getElem?_range hk];rfl);walk_at"d"
 have:=rC (eK s n);have cl:(eK s n).length=s:=by unfold eK;rw[List.length_map,List.length_range]
 have:=uR m7 st;have:=av r;have:(dM (.val (.tup [.int 2,.int u])) && [D.lst (O.map D.int)].all U0)=f8:=by
  show(f8&&(List.all _ _&&f8))=f8;rw[A2];rfl
 walk_at"t"
 exact⟨_,_,_,_,_,_,by unfold DR;rw[List.map_append,show((cs.length+1:Nat):Int)=(cs0.length:Int)+(st.length:Int)+1 by omega];rfl⟩
theorem CD (i:1≤v)(g:v≤3)(hs:s≤v)(j:n<2 ^ s)(k:0<s)(h:Nm v cs0 s n cs st){b:List Int}(hl:b.length≤300)(go:AV (r8 1 cs) (eK s n) b):Nm v cs0 s (n+1) (cs++[eK s n]) (st++[(((cs.length+1:Nat):Int),eK s n,b)]):=by
 have o:2 ^ s≤8:=Nat.pow_le_pow_right (n:=2) (by omega) (Nat.le_trans hs g);have cl:(eK s n).length=s:=by unfold eK;rw[List.length_map,List.length_range]
 have lit:=λl hl=>AF (s:=s) (n:=n) (l:=l) (by omega) (by omega) hl;refine⟨.snoc h.stp (λe=>by rw[e]at cl;simp at cl;omega) hl go ⟨λl hl=>by have:=lit l hl;omega,El (s:=s) (n:=n) (by omega) (by omega)⟩,by have:=h.cnt;rw[List.length_append,List.length_singleton];omega,λm f=>?_,λa m f=>List.mem_append_left _ (h.abv a m f),λc d=>?_⟩
 ·by_cases e:m=n
  ·rw[e];exact List.mem_append_right _ List.mem_cons_self
  ·exact List.mem_append_left _ (h.now m (by omega))
 ·rcases List.mem_append.mp d with d|d
  ·exact h.lit c d
  ·rw[List.mem_singleton]at d;subst d;exact⟨by omega,λl hl=>by have:=lit l hl;omega⟩
theorem yc (d:cs0.length≤40):∃a,forL (y7 2) bJ ((List.range cs0.length).map λk=>D.int (0+((k:Nat):Int))) [e9 (.sh (.tup [.int (v:Int),.lst (x4 cs0)])),e9 (.ow f6 (.dct [])),f7,f7,f7,f7,f7,f7,f7,f7,f7]=e9 (.nx [e9 (.sh (.tup [.int (v:Int),.lst (x4 cs0)])),e9 (.ow f6 (.dct (n6 (r8 1 cs0)))),a,f7,f7,f7,f7,f7,f7,f7,f7]):=by
 obtain⟨_,c,a,rfl⟩:=tL (tg:=y7 2) (b:=bJ) (f:=λk=>D.int (0+((k:Nat):Int))) (λk ρ=>∃a,ρ=[e9 (.sh (.tup [.int (v:Int),.lst (x4 cs0)])),e9 (.ow f6 (.dct (n6 (r8 1 (cs0.take k))))),a,f7,f7,f7,f7,f7,f7,f7,f7]) cs0.length (ρ:=[e9 (.sh (.tup [.int (v:Int),.lst (x4 cs0)])),e9 (.ow f6 (.dct [])),f7,f7,f7,f7,f7,f7,f7,f7,f7]) (λk ρ hk ⟨a,e⟩=>by
  subst e;rw[v8,List.take_succ,List.getElem?_eq_getElem hk];have:=zC (List.getElem?_eq_getElem hk);walk_at"t";exact⟨_,rfl⟩) ⟨f7,rfl⟩
 rw[List.take_length]at c;exact⟨a,c⟩
def Lh (v:Nat)(cs0:List (List Int))(s:Nat)(b:Option C)(n:Nat)(ρ:l5):Prop:=∃cs st c d e f g a,ρ=DR v cs0 cs st b (e9 (.sh (.int (s:Int)))) c d e f g a∧(Nm v cs0 s n cs st∧(s=0→n=0)∨s=0∧n=1∧Res v cs0 (f7,st))
theorem BJ (g:1≤v)(j:v≤3)(hs:s≤v)(no:DG (v:Int) cs0)(r:cs0.length≤40)(h:Lh v cs0 s i 0 ρ):∃ρ',forL (y7 5) bI ((List.range (2 ^ s)).map λk=>D.int (0+((k:Nat):Int))) ρ=e9 (.nx ρ')∧Lh v cs0 s i (2 ^ s) ρ':=by
 refine tL (f:=λk=>D.int (0+((k:Nat):Int))) (Lh v cs0 s i) (2 ^ s) (λn ρ d ⟨cs,st,t,u,w,x,A,l,e,h⟩=>?_) h;subst e;have h:Nm v cs0 s n cs st:=by
  rcases h with⟨h,_⟩ | ⟨g,B,_⟩
  ·exact h
  ·rw[g,B]at d;exact absurd d (by decide)
 obtain⟨E,hl,go,m,o,a,b,F,G,H,I,J,p,c⟩:=wf g j hs d no h r i t u w x A l;refine⟨m,o,a,b,_,_,F,G,H,I,J,p,c,?_⟩;by_cases z:s=0
 ·have q:n=0:=by rw[z]at d;exact Nat.lt_one_iff.mp d
  right;refine⟨z,by rw[q],?_⟩;rw[z,q]at go⊢;have:=h.cnt;have:=h.stp.len;have L:2 ^(v+1)≤16:=Nat.pow_le_pow_right (n:=2) (by omega) (Nat.succ_le_succ j);exact .none h.stp (by omega) (λc N=>(h.lit c N).1) hl go
 ·exact .inl ⟨CD g j hs d (by omega) h hl go,λy=>absurd y z⟩
def Lg (v:Nat)(cs0:List (List Int))(b:Option C)(k:Nat)(ρ:l5):Prop:=∃cs st c d e f g h a,ρ=DR v cs0 cs st b c d e f g h a∧(k≤v∧Nm v cs0 (v-k) 0 cs st∨k=v+1∧Res v cs0 (f7,st))
theorem yd (G:1≤v)(H:v≤3)(no:DG (v:Int) cs0)(I:cs0.length≤40)(h:Lg v cs0 o2 0 ρ):∃ρ',forL (y7 4) bH ((List.range (v+1)).map λk=>D.int ((v:Int)-((k:Nat):Int))) ρ=e9 (.nx ρ')∧Lg v cs0 o2 (v+1) ρ':=by
 refine tL (f:=λk=>D.int ((v:Int)-((k:Nat):Int))) (Lg v cs0 o2) (v+1) (λk ρ hk ⟨cs,st,J,p,q,r,u,w,d,e,h⟩=>?_) h;subst e;obtain⟨_,h⟩:k≤v∧Nm v cs0 (v-k) 0 cs st:=by
  rcases h with h|h
  ·exact h
  ·omega
 obtain⟨s,hs⟩:∃s,s=v-k:=⟨_,rfl⟩
 rw[←hs]at h;have es:(v:Int)-(k:Int)=(s:Int):=by omega
 rw[es];obtain⟨_,N,g,i,x,A,B,E,F,l,rfl,h'⟩:=BJ G H (by omega) no I ⟨cs,st,p,q,r,u,w,d,rfl,.inl ⟨h,λ_=>rfl⟩⟩;have:ints1 [.int (Fi (s:Int))]=e9 ((List.range (2 ^ s)).map λk=>D.int (0+((k:Nat):Int))):=by
  have:s=0∨s=1∨s=2∨s=3:=by omega
  rcases this with e|e|e|e<;>rw[e]<;>exact cr (by decide)
 have:=DY (j:=(s:Int)) (by omega) (by omega);have:Tn (y7 4) bH (.int (s:Int)) (DR v cs0 cs st o2 J p q r u w d) (·=DR v cs0 g i o2 (e9 (.sh (.int (s:Int)))) x A B E F l):=by
  walk_at"t"
  rfl
 obtain⟨n,o,a,b,c⟩:=this;refine⟨n,o,a,b,g,i,_,x,A,B,E,F,l,c,?_⟩;rcases h' with⟨h',z⟩ | ⟨z,_,h'⟩
 ·left;have:s≠0:=λy=>by have:=z y;rw[y]at this;cases this
  obtain⟨t,rfl⟩:∃t,s=t+1:=⟨s-1,by omega⟩
  refine⟨by omega,?_⟩;rw[show v-(k+1)=t by omega];have:=h'.cnt;rw[Nat.pow_succ 2 (t+1)]at this;exact⟨h'.stp,by omega,λ_ h=>absurd h (Nat.not_lt_zero _),λ_ m L=>h'.now m L,h'.lit⟩
 ·exact .inr ⟨by omega,h'⟩
theorem Da (d:1≤v)(e:v≤3)(no:DG (v:Int) cs0)(lit:∀c∈cs0,c.length≤100∧∀l∈c,l≠0∧l.natAbs≤v)(a:cs0.length≤40):∃r,bn [.tup [.int (v:Int),.lst (x4 cs0)]]=e9 (.ret (.own (.lst (r.map m7))) [])∧Res v cs0 (f7,r):=by
 obtain⟨b,g⟩:=yc (v:=v) a;obtain⟨_,i,cs,st,j,m,o,p,q,s,f,rfl,h⟩:=yd d e no a (o2:=b) (ρ:=DR v cs0 cs0 [] b f7 f7 f7 f7 f7 f7 f7) ⟨_,_,_,_,_,_,_,_,_,rfl,.inl ⟨Nat.zero_le _,⟨.nil,by rw[List.length_nil,Nat.zero_add];rfl,λ_ h=>absurd h (Nat.not_lt_zero _),λh=>absurd h (Nat.lt_irrefl v),lit⟩⟩⟩;have R:Res v cs0 (f7,st):=by
  rcases h with h|h
  ·omega
  ·exact h.2
 have:tt [.int (v:Int),.int (-1),.int (-1)]=e9 ((List.range (v+1)).map λk=>D.int ((v:Int)-((k:Nat):Int))):=by
  have:v=1∨v=2∨v=3:=by omega
  rcases this with rfl|rfl|rfl<;>rfl
 have:=cr (n:=cs0.length) (by omega);exact⟨st,by walk_at"r",R⟩
end
structure Ti (v:Nat) (T:Tab) (g:Int):Prop where
 len:(T.length:Int)≤g
 key:∀kv∈T,0<kv.1∧kv.1≤g
 cl:∀kv∈T,kv.2.length≤100
 lit:∀kv∈T,∀l∈kv.2,l≠0∧l.natAbs≤v
structure sd (v:Nat) (T:Tab) (g n:Int) (c hs:List Int):Prop where
 ti:Ti v T g
 lt:g<n
 le:n≤600
 cl:c.length≤100
 hl:hs.length≤300
 lts:JP v c
 go:AV T c hs
section
variable {v:Nat}{T:Tab}{g n t:Int}{c hs:List Int}
theorem JP.two (h:JP v c):∀l∈c,-l∉c:=λl hl a=>by
 have:=sQ h.2 hl a (bx l).symm;have:=(h.1 l hl).1;omega
theorem sd.snoc (R:sd v T g n c hs):Ti v (T++[(n,c)]) n:=by
 have:=R.lt;have key:∀kv∈T++[(n,c)],kv∈T∨kv=(n,c):=λkv h=>by simpa using h
 refine⟨by have:=R.ti.len;rw[List.length_append,List.length_singleton];omega,λkv h=>?_,λkv h=>?_,λkv h=>?_⟩
 ·rcases key kv h with h|rfl
  ·have:=R.ti.key kv h;omega
  ·have:=R.ti.len;exact⟨by show 0<n;omega,gw _⟩
 ·rcases key kv h with h|rfl
  ·exact R.ti.cl kv h
  ·exact R.cl
 ·rcases key kv h with h|rfl
  ·exact R.ti.lit kv h
  ·exact R.lts.1
theorem yE(R:sd v T g n c hs)(h:ρ[i]?=e9 (e9 (.ow l (.dct (n6 T))))):cg i (.int n) (.tup (c.map D.int)) ρ=e9 (.nx (ρ.set i (e9 (.ow l (.dct (n6 (T++[(n,c)]))))))):=by
 have:=R.ti.len;have:=R.lt;have:=R.le;unfold cg;rw[h];show dL (small (n6 T).length) (e9 (SR.nx (ρ.set i (e9 (.ow l (.dct (putD (n6 T) (.inl n) (.tup (c.map D.int)))))))))=_;rw[jV λkv a e=>by have:=(R.ti.key kv a).2;omega];exact v7 (by show _≤1000000;rw[show(n6 T).length=T.length from List.length_map _];omega)
theorem Ah (R:sd v T g n c hs):K8 (qS v g t f6) (n6 T) [.int n,.tup (c.map D.int),.tup (hs.map D.int)]=e9 (.ret (.bl f8) (qS v g t f6) (n6 T)):=by
 show runM F9 5 4 _ _ _=_;have:=R.ti.len;have:=R.lt;have:=R.le;have hk:=R.cl;have hl:=R.hl;have le:U8 (λi j=>decide (i≤j)) (.int n) (.int g)=e9 (.val (.bl f6)):=by
  show e9 (W.val (.bl (decide _)))=_;rw[decide_eq_false (by omega)]
 have b:C1 (y7 0) F5 (i3 (U8 λi j=>decide (j<i)) (D2 Q9 (g4 (h7 0) j4)) (IF 1 "variables")) [f7,e9 (.rd (qS v g t f6))] (c.map D.int)=e9 ((c.map λl=>decide ((v:Int)<n7 l)).map D.bl):=by
  rw[List.map_map];exact cz λl _=>⟨[e9 (.sh (.int l)),e9 (.rd (qS v g t f6))],.val (.bl (decide ((v:Int)<n7 l))),[e9 (.sh (.int l)),e9 (.rd (qS v g t f6))],[e9 (.sh (.int l)),e9 (.rd (qS v g t f6))],rfl,i5 (v4 (g9 (g7 rfl) i8) rfl rfl) (IP rfl) rfl rfl rfl,rfl⟩
 have m:=br (mi:=A3 (h7 2)) (own:=1) (fr:=[0]) (ρ:=JJ v g t f6 T n c hs) (n3:=JJ v g t f6 T n c hs) (B0 (g7 rfl) rfl rfl) (o4 (by rw[List.length_map];omega)) b (.inl (Y1 _));have an:=pO (c.map λl=>decide ((v:Int)<n7 l));rw[List.any_map,show(c.any (id∘λl=>decide ((v:Int)<n7 l)))=f6 from List.any_eq_false.mpr λl hl=>by
  have e:¬(v:Int)<n7 l:=by have:=(R.lts.1 l hl).2;unfold n7;omega
  show¬decide ((v:Int)<n7 l)=f8;rw[decide_eq_false e];exact p4]at an
 have a:sK T=f8:=by
  unfold sK;rw[k9,List.all_eq_true];exact⟨decide_eq_true (by omega),λkv h=>decide_eq_true (by have:=R.ti.cl kv h;omega)⟩
 have d:=tN a (λkv f=>(R.ti.key kv f).1) (by omega) (by omega) R.lts.two R.go;exact gS (j3 (u0 (dg (n0 (i5 (g7 rfl) (gc rfl) rfl rfl le)) rfl (z5 (v4 (g9 m i8) rfl an) rfl rfl)) rfl C8) (z6 (u8 (g9 (pk rfl) (g9 (g7 rfl) (g9 (g7 rfl) i8))) rfl rfl d rfl rfl) rfl)) rfl
theorem GA (R:sd v T g n c hs):F2 (qS v g t f6) (n6 T) [.int n,.tup (c.map D.int),.tup (hs.map D.int)]=e9 (.ret .v1 (qS v n t c.isEmpty) (n6 (T++[(n,c)]))):=by
 show runM D7 5 4 _ _ _=_;exact gS (j3 (n3:=JJ v g t f6 T n c hs) (u0 (U4 (z5 (hX rfl rfl (g9 (g7 rfl) (g9 (g7 rfl) (g9 (g7 rfl) i8))) rfl rfl rfl rfl rfl (Ah R) rfl) rfl (k:=f8) rfl)) rfl C8) (j3 (n3:=JJ v g t f6 (T++[(n,c)]) n c hs) (Di (g7 rfl) rfl (pk rfl) (g7 rfl) rfl rfl (yE R rfl)) (j3 (fc (g7 rfl) rfl rfl) (fc (i5 (g7 rfl) (u7 i8 rfl (Nat.le_of_ble_eq_true rfl)) rfl rfl (ke c)) rfl rfl)))) rfl
theorem Db (R:sd v T g n c hs):N9 (qS v g t f6) (n6 T) [m7 (n,c,hs)]=e9 (.ret .v1 (qS v n (t+1) c.isEmpty) (n6 (T++[(n,c)]))):=by
 show runM L6 3 2 _ _ _=_;exact gS (j3 (A5 (U4 (z5 (gc rfl) rfl (k:=f6) rfl)) rfl (u0 (n0 (i5 (i5 (g7 rfl) k7 rfl rfl rfl) k7 rfl rfl rfl)) rfl (W9 (hX rfl rfl (g9 (i5 (g7 rfl) k7 rfl rfl rfl) (g9 (i5 (g7 rfl) k7 rfl rfl rfl) (g9 (i5 (g7 rfl) k7 rfl rfl rfl) i8))) rfl rfl rfl rfl rfl (GA R) rfl)))) (vp rfl k7 rfl rfl)) rfl
theorem rb {a mk b:M W}{i:Nat}{l:Bool}{w c:W}{k:Key}{es:List (Key×D)}{d f:D}{ρ:l5}(g:a ρ=e9 (.ok w ρ))(j:rZ "dict" w ρ=e9 (.ok () ρ)) (hk:L1 mk ρ=e9 (.ok c ρ)) (m:b ρ=e9 (.ok (.val f) ρ)) (h:ρ[i]?=e9 (e9 (.ow l (.dct es)))) (n:getD c ρ=e9 d) (e:keyOf d=e9 k) (o:K5 es k=f7):kZ a i mk b ρ=e9 (.ok (.val f) ρ):=by
 unfold kZ;rw[M.j9 g,M.j9 j,M.j9 hk,M.j9 m];unfold tP;rw[h,n];dsimp only;rw[e];dsimp only;rw[o]
noncomputable abbrev aM:D:=.tup [.str [100,114,111,112],.tup [.int 1000]]
theorem uN (ti:Ti v T g)(h:g≤600):K5 (n6 T) (.inl 1000)=f7:=by
 rw[kq];cases e:v3 T 1000 with
 |none=>rfl
 |some c=>
  have:=(ti.key _ (D0 e)).2;have:(1000:Int)≤g:=this;omega
theorem take_drop (ti:Ti v T g)(h:g≤600):N9 (qS v g t f6) (n6 T) [aM]=e9 (.ret .v1 (qS v g (t+1) f6) (n6 T)):=by
 show runM L6 3 2 _ _ _=_;have n:=uN ti h;have d:C6 (qS v g t f6) (n6 T) [.tup [.int 1000]]=e9 (.ret .v1 (qS v g t f6) (n6 T)):=gS (den:=B1) (n:=4) (j:=3) (eH (B0 (g7 rfl) rfl rfl) (E1 rfl (W9 (rb (pk rfl) rfl rfl rfl rfl rfl rfl n)) vg)) rfl;exact gS (j3 (A5 (U4 (z5 (gc rfl) rfl (k:=f6) rfl)) rfl (A5 (n0 (i5 (i5 (g7 rfl) k7 rfl rfl rfl) k7 rfl rfl rfl)) rfl (W9 (hX rfl rfl (g9 (i5 (g7 rfl) k7 rfl rfl rfl) i8) rfl rfl rfl rfl rfl d rfl)))) (vp rfl k7 rfl rfl)) rfl
end
inductive Rf (v:Nat):Tab→Int→List (Option aT)→Prop
 |last {T:Tab} {g n:Int} {hs:List Int}:sd v T g n [] hs→Rf v T g [some (n,[],hs)]
 |add {T:Tab} {g n:Int} {c hs:List Int} {os:List (Option aT)}:sd v T g n c hs→c≠[]→Rf v (T++[(n,c)]) n os→Rf v T g (some (n,c,hs)::os)
 |drop {T:Tab} {g:Int} {os:List (Option aT)}:Ti v T g→g≤600→Rf v T g os→Rf v T g (none::os)
noncomputable def jh:Option aT→D
 |none=>aM
 |some s=>m7 s
noncomputable def kl:List aT→Int→Prop
 | [],_=>False
 |s::r,x=>kl r x∨(r=[]∨kl r s.1)∧x∈s.2.2∧x<s.1
open Classical in
noncomputable def wB (r:List aT) (N x:Int):Bool:=decide (x=N∨kl r x)
open Classical in
theorem fR:wB r N x=f8↔x=N∨kl r x:=decide_eq_true_iff
structure DE (r:List aT) (N:Int):Prop where
 hnt:∀s∈r,s.2.2.length≤300∧∀h∈s.2.2,0<h
 up:(r.map (·.1)).Pairwise (· < ·)
 num:∃st hs,r=st++[(N,[],hs)]∧∀s∈st,s.1≠N∧s.2.1≠[]
section
variable {v:Nat}{T T':Tab}{g g' N n x:Int}{c hs:List Int}{os:List (Option aT)}{r pre:List aT}
theorem sd.hnt (R:sd v T g n c hs):∀h∈hs,0<h∧h<n∧∃d,v3 T h=e9 d:=by
 obtain⟨b,k,ts,d,rfl,go,hl,e⟩:=R.go;have z:∀{k:Int} {d:List Int},v3 T k=e9 d→0<k∧k<n∧∃d,v3 T k=e9 d:=λh=>by
  have:=R.ti.key _ (D0 h);have:=R.lt;exact⟨by omega,by omega,_,h⟩
 have key:∀x∈b,0<x∧x<n∧∃d,v3 T x=e9 d:=by
  clear e hl R;induction go with
  |nil=>exact λ_ h=>nomatch h
  |snoc _ hl _ _ ih=>exact λx a=>(List.mem_append.mp a).elim (ih x) λa=>by rw[List.mem_singleton.mp a];exact z hl
 exact λx a=>(List.mem_append.mp a).elim (key x) λa=>by rw[List.mem_singleton.mp a];exact z hl
theorem Rf.hint (R:Rf v T g os):∀s,e9 s∈os→g<s.1∧s.1≤600∧s.2.2.length≤300∧∀h∈s.2.2,0<h:=by
 induction R with
 |last q=>
  intro s h;cases List.mem_singleton.mp h;exact⟨q.lt,q.le,q.hl,λh b=>(q.hnt h b).1⟩
 |add q _ _ ih=>
  intro s h;rcases List.mem_cons.mp h with h|h
  ·cases h;exact⟨q.lt,q.le,q.hl,λh b=>(q.hnt h b).1⟩
  ·have a:=ih s h;have:=q.lt;exact⟨by omega,a.2⟩
 |drop _ _ _ ih=>
  intro s h;rcases List.mem_cons.mp h with h|h
  ·cases h
  ·exact ih s h
theorem Rf.len (R:Rf v T g os):(os.length:Int)+g≤600+(os.filter λo=>o.isNone).length:=by
 induction R with
 |last q=>have:=q.lt;have:=q.le;show((1:Nat):Int)+_≤600+((0:Nat):Int);omega
 | @add T g n c hs os q _ _ ih=>
  have:=q.lt;rw[List.filter_cons_of_neg (by simp),List.length_cons];omega
 |drop _ _ _ ih=>
  rw[List.filter_cons_of_pos rfl,List.length_cons,List.length_cons];omega
theorem Rf.MG (R:Rf v T g (r.map e9)):∃N,DE r N:=by
 have hi:=R.hint;generalize e:r.map e9=os at *;induction R generalizing r with
 | @last T g n hs q=>
  obtain⟨s,rfl,h⟩:=List.map_eq_singleton_iff.mp e;cases h;exact⟨n,λs h=>(hi s (List.mem_map_of_mem h)).2.2,by simp,[],hs,rfl,λ_ h=>nomatch h⟩
 | @add T g n c hs os q b R ih=>
  obtain⟨s,r,rfl,h,rfl⟩:=List.map_eq_cons_iff.mp e;cases h;obtain⟨N,P⟩:=ih rfl R.hint;obtain⟨st,a,d,i⟩:=P.num;have lt:∀s∈r,n<s.1:=λs h=>(R.hint s (List.mem_map_of_mem h)).1;refine⟨N,λs h=>(hi s (List.mem_map_of_mem (f:=e9) h)).2.2,?_,(n,c,hs)::st,a,by rw[d];rfl,λs h=>?_⟩
  ·rw[List.map_cons,List.pairwise_cons];exact⟨λy j=>by obtain⟨s,hs,rfl⟩:=List.mem_map.mp j;exact lt s hs,P.up⟩
  ·rcases List.mem_cons.mp h with rfl|h
   ·have:=lt (N,[],a) (by rw[d];simp);exact⟨by show n≠N;omega,b⟩
   ·exact i s h
 |drop=>
  obtain⟨s,r,rfl,h,rfl⟩:=List.map_eq_cons_iff.mp e;cases h
theorem oj:∀(pre:List aT),kl r x→kl (pre++r) x
 | [],h=>h
 |_::pre,h=>.inl (oj pre h)
theorem xU:∀(pre:List aT),(∀s∈pre,s.1≤x)→kl (pre++r) x→kl r x
 | [],_,h=>h
 |s::pre,a,h=>by
  have:=a s List.mem_cons_self;exact xU pre (λy b=>a y (List.mem_cons_of_mem _ b)) (h.resolve_right λz=>by have:=z.2.2;omega)
theorem DE.cond (P:DE r N)(e:r=pre++s::post):wB r N s.1=f8↔post=[]∨kl post s.1:=by
 obtain⟨st,hs,c,d⟩:=P.num;have u:=P.up;rw[e,List.map_append,List.pairwise_append]at u;have lt:∀q∈pre,q.1<s.1:=λq a=>u.2.2 _ (List.mem_map_of_mem a) _ List.mem_cons_self;have f:s.1=N↔post=[]:=by
  have b:=e.symm.trans c;constructor
  ·intro h;rcases List.eq_nil_or_concat post with z| ⟨p,y,z⟩
   ·exact z
   ·rw[z,List.concat_eq_append,←List.cons_append,←List.append_assoc]at b;exact absurd h (d s (by rw[←(List.append_inj' b rfl).1];simp)).1
  ·rintro rfl
   rw[List.cons.inj (List.append_inj' b rfl).2|>.1]
 rw[fR,f];refine or_congr_right ⟨λh=>?_,λh=>?_⟩
 ·rw[e]at h;exact(xU pre (λq a=>Int.le_of_lt (lt q a)) h).resolve_right λz=>absurd z.2.2 (Int.lt_irrefl _)
 ·rw[e];exact oj pre (.inl h)
theorem nu:v3 (T++[(n,c)]) k=(v3 T k).or (if n=k then e9 c else f7):=by
 unfold v3;rw[List.find?_append];cases T.find? λkv=>decide (kv.1=k)with
 |some _=>rfl
 |none=>
  by_cases h:n=k
  ·rw[if_pos h,List.find?_cons_of_pos (by exact decide_eq_true h)];rfl
  ·rw[if_neg h,List.find?_cons_of_neg (by simpa using h)];rfl
theorem AV.keep (p:AV T c hs)(h:∀k∈hs,∀d,v3 T k=e9 d→v3 T' k=e9 d):AV T' c hs:=by
 obtain⟨b,k,ts,d,rfl,go,hl,a⟩:=p;have key:(∀k∈b,∀d,v3 T k=e9 d→v3 T' k=e9 d)→Pg T' (A0 (c.map λl=>-l)) ts b:=by
  clear h hl a;induction go with
  |nil=>exact λ_=>.nil
  |snoc _ hl a e ih=>exact λh=>.snoc (ih λk hk=>h k (List.mem_append_left _ hk)) (h _ (by simp) _ hl) a e
 exact⟨b,k,ts,d,rfl,key λk hk=>h k (List.mem_append_left _ hk),h k (by simp) d hl,a⟩
theorem sd.keep {p:Int→Bool}(q:sd v T g n c hs)(ti:Ti v T' g')(a:g'≤g)(b:∀k d,p k=f8→v3 T k=e9 d→v3 T' k=e9 d)(e:∀h∈hs,p h=f8):sd v T' g' n c hs:=⟨ti,Int.lt_of_le_of_lt a q.lt,q.le,q.cl,q.hl,q.lts,q.go.keep λk hk d hd=>b k d (e k hk) hd⟩
theorem Rf.trim {p:Int→Bool}(a:∀n,(∃hs,(n,[],hs)∈r)→p n=f8)(l:∀s∈r,p s.1=f8→∀h∈s.2.2,h<s.1→p h=f8)(R:Rf v T g (r.map e9))(ti:Ti v T' g')(o:g'≤g)(i:∀k d,p k=f8→v3 T k=e9 d→v3 T' k=e9 d):Rf v T' g' ((r.filter λs=>p s.1).map e9):=by
 generalize e:r.map e9=os at *;induction R generalizing r T' g' with
 | @last T g n hs q=>
  obtain⟨s,rfl,h⟩:=List.map_eq_singleton_iff.mp e;cases h;have pn:=a n ⟨hs,by simp⟩;rw[List.filter_cons_of_pos (by exact pn)];exact .last (q.keep ti o i λh b=>l _ List.mem_cons_self pn h b (q.hnt h b).2.1)
 | @add T g n c hs os q m R ih=>
  obtain⟨s,r,rfl,h,rfl⟩:=List.map_eq_cons_iff.mp e;cases h;have a:∀n,(∃hs,(n,[],hs)∈r)→p n=f8:=λn ⟨hs,h⟩=>a n ⟨hs,List.mem_cons_of_mem _ h⟩;have f:=λs hs=>l s (List.mem_cons_of_mem _ hs);have lt:=q.lt;by_cases pn:p n=f8
  ·rw[List.filter_cons_of_pos (by exact pn)];have t:=q.keep ti o i λh b=>l _ List.mem_cons_self pn h b (q.hnt h b).2.1;refine .add t m (ih a f t.snoc (gw _) (λk d j hd=>?_) rfl);rw[nu]at hd⊢;cases hl:v3 T k with
   |some y=>
    rw[hl]at hd;rw[i k y j hl];exact hd
   |none=>
    rw[hl]at hd;have:n=k:=O9 λz=>by rw[if_neg z]at hd;cases hd
    subst this;rw[show v3 T' n=f7 from Option.eq_none_iff_forall_ne_some.mpr λy u=>by have:=(ti.key _ (D0 u)).2;have:n≤g':=this;omega];exact hd
  ·rw[List.filter_cons_of_neg (by exact pn)];refine ih a f ti (by omega) (λk d j hd=>?_) rfl;rw[nu,if_neg (λz:n=k=>pn (by rw[z];exact j)),Option.or_none]at hd;exact i k d j hd
 |drop=>
  obtain⟨s,r,rfl,h,rfl⟩:=List.map_eq_cons_iff.mp e;cases h
theorem Rf.MB (R:Rf v T g (r.map e9))(ti:Ti v T g)(P:DE r N):Rf v T g ((r.filter λs=>wB r N s.1).map e9)∧DE (r.filter λs=>wB r N s.1) N∧∀s∈r.filter λs=>wB r N s.1,s.1=N∨kl (r.filter λs=>wB r N s.1) s.1:=by
 have R':=R.trim (p:=wB r N) (T':=T) (g':=g) (λn ⟨hs,h⟩=>by
  obtain⟨st,c,a,b⟩:=P.num;rw[a]at h;rcases List.mem_append.mp h with h|h
  ·exact absurd rfl (b _ h).2
  ·cases List.mem_singleton.mp h;exact fR.mpr (.inl rfl)) (λs hs ps h d lt=>by
  obtain⟨pre,post,e⟩:=List.append_of_mem hs;refine fR.mpr (.inr ?_);rw[e];exact oj pre (.inr ⟨(P.cond e).mp ps,d,lt⟩)) ti (gw _) λ_ _ _ h=>h
 obtain⟨st,hs,a,b⟩:=P.num;have f:wB r N N=f8:=fR.mpr (.inl rfl);refine⟨R',⟨λs h=>P.hnt s (List.mem_filter.mp h).1,P.up.sublist (List.filter_sublist.map _),st.filter λs=>wB r N s.1,hs,?_,λs h=>b s (List.mem_filter.mp h).1⟩,λs h=>?_⟩
 ·conv=>lhs;rw[a]
  rw[List.filter_append,←a,List.filter_cons_of_pos (by exact f)];rfl
 ·have key:∀(post pre:List aT) (x:Int),r=pre++post→kl post x→kl (post.filter λs=>wB r N s.1) x:=by
   intro post;induction post with
   |nil=>exact λ_ _ _ h=>h
   |cons s post ih=>
    intro pre x e h;have ih:=ih (pre++[s]);rw[List.append_assoc]at ih;by_cases ps:wB r N s.1=f8
    ·rw[List.filter_cons_of_pos (by exact ps)];refine h.imp (ih x e) λz=>⟨z.1.imp (λz=>by rw[z];rfl) (ih _ e),z.2⟩
    ·rw[List.filter_cons_of_neg (by exact ps)];exact ih x e (h.resolve_right λz=>ps ((P.cond e).mpr z.1))
  exact(fR.mp (List.mem_filter.mp h).2).imp id (key r [] _ rfl)
theorem sm(h:∀c∈cs,c.length≤100∧∀l∈c,l≠0∧l.natAbs≤v):Ti v (r8 1 cs) cs.length:=⟨by rw[aG];exact gw _,λkv a=>by have:=E8 cs 1 kv a;omega,λkv a=>(h _ (E8 cs 1 kv a).2.2).1,λkv a=>(h _ (E8 cs 1 kv a).2.2).2⟩
theorem ij.rf(S:ij v cs0 cs st):cs.length≤500→(∀c∈cs,c.length≤100∧∀l∈c,l≠0∧l.natAbs≤v)→∀os,Rf v (r8 1 cs) cs.length os→Rf v (r8 1 cs0) cs0.length (st.map e9++os):=by
 induction S with
 |nil=>exact λ_ _ _ h=>h
 | @snoc cs st c hs S a hl go f ih=>
  intro g b os h;rw[List.length_append,List.length_singleton]at g h;rw[List.map_append,List.append_assoc];have e:=λd hd=>b d (List.mem_append_left _ hd);refine ih (by omega) e _ (.add ⟨sm e,by omega,by omega,(b c (by simp)).1,hl,f,go⟩ a ?_);rw[eX,vT]at h;exact h
end
noncomputable def Hc (v:Int)(cs0:List (List Int))(L:List D)(T:Tab)(g t:Int)(b:Bool)(A:List D)(a:Option C):l5:=[e9 (.sh (.int v)),e9 (.sh (.lst (x4 cs0))),e9 (.sh (.lst L)),e9 (.ob f6 (qS v g t b)),e9 (.ow f6 (.lst A)),a,e9 (.ow f8 (.dct (n6 T)))]
section
variable {v:Nat}{cs0:List (List Int)}{T:Tab}{g n N:Int}{c hs:List Int}{os:List (Option aT)}{r:List aT}{L A tl:List D}
theorem uu(R:sd v T g n c hs)(a:A.length≤1000):O5 (Hc v cs0 L T g t f6 A (e9 (.sh (m7 (n,c,hs)))))=e9 (.nx (Hc v cs0 L (T++[(n,c)]) n (t+1) c.isEmpty (A++[m7 (n,c,hs)]) (e9 (.sh (m7 (n,c,hs)))))):=A5 (U4 (z5 (gc rfl) rfl (k:=f6) rfl)) rfl (j3 (W9 (hX rfl rfl (g9 (g7 rfl) i8) rfl rfl rfl rfl rfl (Db R) rfl)) (di rfl (g9 (g7 rfl) i8) rfl rfl (o4 (by omega)) rfl))
theorem uv:∀(tl:List D) (a:Option C),∃b,forL (y7 5) O5 tl (Hc v cs0 L T g t f8 A a)=e9 (.nx (Hc v cs0 L T g t f8 A b))
 | [],a=>⟨a,rfl⟩
 |d::tl,_=>by
  obtain⟨b,e⟩:=uv tl (e9 (.sh d));exact⟨b,E1 rfl (u0 (U4 (z5 (gc rfl) rfl (k:=f8) rfl)) rfl C8) e⟩
theorem HC (R:Rf v T g os):∀(t:Int) (i:Option C) (A:List D),A.length+os.length≤1000→∃b d f a,forL (y7 5) O5 (os.map jh++tl) (Hc v cs0 L T g t f6 A i)=e9 (.nx (Hc v cs0 L b d f f8 (A++os.map jh) a)):=by
 induction R with
 |last q=>
  intro t i A j;obtain⟨a,e⟩:=uv (v:=v) (cs0:=cs0) (L:=L) tl _;exact⟨_,_,_,a,E1 rfl (uu q (by omega)) e⟩
 | @add T g n c hs os q l _ ih=>
  intro t i A j;rw[List.length_cons]at j;have s:=uu (cs0:=cs0) (L:=L) (A:=A) (t:=t) q (by omega);rw[show c.isEmpty=f6 by cases c with|nil=>exact absurd rfl l|cons _ _=>rfl]at s;obtain⟨b,d,f,a,e⟩:=ih (t+1) (e9 (.sh (m7 (n,c,hs)))) (A++[m7 (n,c,hs)]) (by rw[List.length_append,List.length_singleton];omega);rw[List.append_assoc]at e;exact⟨b,d,f,a,E1 rfl s e⟩
 | @drop T g os ti h _ ih=>
  intro t i A j;rw[List.length_cons]at j;obtain⟨b,d,f,a,e⟩:=ih (t+1) (e9 (.sh aM)) (A++[aM]) (by rw[List.length_append,List.length_singleton];omega);rw[List.append_assoc]at e;exact⟨b,d,f,a,E1 rfl (A5 (U4 (z5 (gc rfl) rfl (k:=f6) rfl)) rfl (j3 (W9 (hX rfl rfl (g9 (g7 rfl) i8) rfl rfl rfl rfl rfl (take_drop ti h) rfl)) (di rfl (g9 (g7 rfl) i8) rfl rfl (o4 (by omega)) rfl))) e⟩
theorem Eg (R:Rf v (r8 1 cs0) cs0.length os)(a:cs0.length≤1000)(b:os.length≤1000):T8 [.int (v:Int),.lst (x4 cs0),.lst (os.map jh++tl)]=e9 (.ret (.own (.lst (os.map jh))) []):=by
 show n8 R8 7 [f6,f6,f6] _=_;obtain⟨c,d,f,g,e⟩:=HC (cs0:=cs0) (L:=os.map jh++tl) (tl:=tl) R 0 f7 [] (by rw[List.length_nil];omega);exact D1 (j3 (Dj (g9 (g7 rfl) (g9 (g7 rfl) i8)) rfl (Dd a) ⟨Nat.lt_of_sub_eq_succ rfl,Nat.lt_of_sub_eq_succ rfl,by decide,rfl⟩ rfl) (j3 (l7 (P4 i8 rfl (Nat.le_of_ble_eq_true rfl)) rfl) (j3 (dh (B0 (g7 rfl) rfl rfl) e rfl) (j3 (u0 (U4 (z5 (gc rfl) rfl (k:=f8) rfl)) rfl C8) (z6 (g7 rfl) rfl))))) rfl
theorem Ai {s:aT}(h:s.2.2.length≤300∧∀h∈s.2.2,0<h):v5 [m7 s]=e9 (.ret (.val (.bl f8)) []):=by
 have:C1 (y7 0) F5 (i3 (U8 λi j=>decide (j<i)) (h7 0) (mC (.int 0))) [f7] (s.2.2.map D.int)=e9 ((s.2.2.map λh=>decide (0<h)).map D.bl):=by
  rw[List.map_map];walk_at"c"
 have a:=ig (s.2.2.map λh=>decide (0<h));rw[List.all_map,show s.2.2.all (id∘λh=>decide (0<h))=f8 from List.all_eq_true.mpr λx b=>decide_eq_true (h.2 x b)]at a;have:=h.1;have e:M4 (.str [97,100,100]) (.str [97,100,100])=e9 (.val (.bl f8)):=rfl;walk_at"r"
theorem nF(h:∀s,e9 s∈os→s.2.2.length≤300∧∀h∈s.2.2,0<h):C1 (y7 0) F5 (o8 [f6] v5 (g4 (h7 0) j4)) [f7] (os.map jh)=e9 ((os.map cG).map D.bl):=by
 rw[List.map_map];refine W2 λo a=>?_;cases o with
 |none=>
  have:v5 [jh f7]=e9 (.ret (.val (.bl f6)) []):=by kernel_rfl
  walk_at"d"
 |some s=>
  have:v5 [jh (e9 s)]=e9 (.ret (.val (.bl f8)) []):=Ai (h s a);walk_at"d"
theorem zW (s:aT):C1 (y7 0) (p6 (i3 (U8 λi j=>decide (i<j)) (h7 0) (i3 u6 (h7 1) (mC (.int 1))))) (B5 (g4 (h7 0) (g4 (mC (.bl f8)) j4))) [f7,e9 (.sh (m7 s))] (s.2.2.map D.int)=e9 ((s.2.2.filter λh=>decide (h<s.1)).map λh=>D.tup [.int h,.bl f8]):=
 ax λx _=>turn_if (n3:=[e9 (.sh (.int x)),e9 (.sh (m7 s))]) (x2:=[e9 (.sh (.int x)),e9 (.sh (m7 s))]) rfl (n0 (i5 (g7 rfl) (i5 (g7 rfl) k7 rfl rfl rfl) rfl rfl rfl)) λ_=>⟨_,_,_,u7 (g9 (g7 rfl) (g9 k7 i8)) rfl (Nat.le_of_ble_eq_true rfl),rfl⟩
theorem tQ (a:List Int):aN [.lst (a.map λk=>D.tup [.int k,.bl f8])]=e9 (.own (.dct (keyed (a.foldl O7 [])))):=by
 show(V7 _).map _=_;rw[cV];show e9 (W.own (.dct (ew (keyed []) (keyed a))))=_;rw[ci]
theorem yN (P:DE r N)(e:r.reverse=pre++s::post):pre=[]∧s.1=N∧s.2.1=[]∨pre≠[]∧s.1≠N∧s.2.1≠[]:=by
 obtain⟨st,hs,b,c⟩:=P.num;rw[b,List.reverse_append,List.reverse_singleton,List.singleton_append]at e;cases pre with
 |nil=>
  rw[List.nil_append,List.cons.injEq]at e;rw[←e.1];exact .inl ⟨rfl,rfl,rfl⟩
 |cons a pre=>
  rw[List.cons_append,List.cons.injEq]at e;exact .inr ⟨by simp,c s (List.mem_reverse.mp (by rw[e.2];simp))⟩
noncomputable def wE (L:List D)(W:List Int)(a:Option C):l5:=[e9 (.sh (.lst L)),e9 (.ow f6 (.dct (keyed W))),a]
theorem xr (P:DE r N)(y:r.length≤601):∃W,T7 [.lst (r.map m7)]=e9 (.ret (.own (.dct (keyed W))) [])∧∀x,x∈W↔x=N∨kl r x:=by
 obtain⟨_,j,W,a,rfl,m,d⟩:=CY (tg:=y7 2) (b:=ez) (f:=m7) (λpre ρ=>∃W a,ρ=wE (r.map m7) W a∧W.length≤1+300*pre.length∧∀x,x∈W↔x=N∨kl pre.reverse x) r.reverse (ρ:=wE (r.map m7) [N] f7) (λpre s post ρ e ⟨W,a,n,m,d⟩=>by
  subst n;have A:=P.hnt s (List.mem_reverse.mp (by rw[e];simp));have le:=congrArg List.length e;rw[List.length_reverse,List.length_append,List.length_cons]at le;have cond:s.1∈W↔pre.reverse=[]∨kl pre.reverse s.1:=by
   rw[d];rcases yN P e with⟨g,i,_⟩ | ⟨g,i,_⟩
   ·exact⟨λ_=>.inl (by rw[g];rfl),λ_=>.inl i⟩
   ·exact⟨λh=>.inr (h.resolve_left i),λh=>.inr (h.resolve_left λz=>g (List.reverse_eq_nil_iff.mp z))⟩
  have t:=in_keyed W s.1;rw[List.length_append,List.length_singleton,List.reverse_append];by_cases h:s.1∈W
  ·have B:=List.length_filter_le (λh=>decide (h<s.1)) s.2.2;have c:=zW s;generalize o:s.2.2.filter (λh=>decide (h<s.1))=F at *;have p:=eG F [];rw[List.length_nil]at p;have E:=eG (F.foldl O7 []) W;refine tn rfl (A5 (n0 (i5 (i5 (g7 rfl) k7 rfl rfl rfl) (g7 rfl) rfl rfl t)) (decide_eq_true h) (nH rfl (g9 (v4 (g9 (Y2 (B0 (i5 (g7 rfl) k7 rfl rfl rfl) rfl rfl) (o4 (by rw[List.length_map];omega)) c rfl (.inl (by rw[List.all_map,List.all_eq_true];exact λ_ _=>rfl))) i8) rfl (tQ F)) i8) rfl rfl (show _≤1000000 by rw[eY,eY];omega) (by rw[ci];rfl))) ⟨(F.foldl O7 []).foldl O7 W,e9 (.sh (m7 s)),rfl,by omega,λx=>?_⟩;rw[de,de,d,or_assoc,←o,List.mem_filter,decide_eq_true_eq];show _↔x=N∨kl pre.reverse x∨(pre.reverse=[]∨kl pre.reverse s.1)∧x∈s.2.2∧x<s.1;constructor
   ·rintro (z|z|z|z)
    ·exact .inl z
    ·exact .inr (.inl z)
    ·cases z
    ·exact .inr (.inr ⟨cond.mp h,z⟩)
   ·rintro (z|z|z)
    ·exact .inl z
    ·exact .inr (.inl z)
    ·exact .inr (.inr (.inr z.2))
  ·refine tn rfl (u0 (n0 (i5 (i5 (g7 rfl) k7 rfl rfl rfl) (g7 rfl) rfl rfl t)) (decide_eq_false h) C8) ⟨W,e9 (.sh (m7 s)),rfl,by omega,λx=>?_⟩;rw[d];show _↔x=N∨kl pre.reverse x∨(pre.reverse=[]∨kl pre.reverse s.1)∧x∈s.2.2∧x<s.1;exact⟨λz=>z.imp id .inl,λz=>z.imp id λz=>z.elim id λz=>absurd (cond.mpr z.1) h⟩) ⟨_,_,rfl,Nat.le_add_right _ _,λx=>by rw[List.mem_singleton];exact⟨.inl,λh=>h.elim id nofun⟩⟩
 refine⟨W,?_,by rwa[List.reverse_reverse]at d⟩;obtain⟨st,hs,q,G⟩:=P.num;have k:=nF (os:=r.map e9) λs h=>P.hnt s (by obtain⟨x,u,e⟩:=List.mem_map.mp h;cases e;exact u);have l:=ig ((r.map e9).map cG);rw[show List.all ((r.map e9).map cG) id=f8 by rw[List.map_map,List.all_map,List.all_eq_true];exact λ_ _=>rfl]at l;rw[show(r.map e9).map jh=r.map m7 from List.map_map]at k;rw[List.map_reverse]at j;have v:u6 (.lst (r.map m7)) (.int (-1))=e9 (.val (m7 (N,[],hs))):=by
  show(L2.fA _ _).map _=_;rw[q,List.map_append];show(L2.fA (st.map m7++[m7 (N,[],hs)]) (-1)).map L3.W.val=_;rw[rH];rfl
 have w:∀{a:Option C},qO (i3 u6 (i3 u6 (h7 0) (aZ N1 (mC (.int 1)))) (mC (.int 1))) f8 [e9 (.sh (.lst (r.map m7))),f7,a]=e9 (.ok (.own (.dct (keyed [N]))) [e9 (.sh (.lst (r.map m7))),f7,a]):=by
  intro a;unfold qO;rw[i5 (i5 (g7 rfl) (U2 k7 rfl rfl) rfl rfl v) k7 rfl rfl rfl];rfl
 exact D1 (j3 (u0 (U4 (z5 (v4 (g9 (Y2 (B0 (g7 rfl) rfl rfl) (o4 (by rw[List.length_map];omega)) k rfl (.inl (Y1 _))) i8) rfl l) rfl rfl)) rfl C8) (j3 (l7 w rfl) (j3 (dh (pj (g9 (g7 rfl) i8) rfl) j rfl) (z6 (g7 rfl) rfl)))) rfl
theorem Af (h:∀s,e9 s∈os→s.2.2.length≤300∧∀h∈s.2.2,0<h)(b:f7∈os)(d:os.length≤1000):T7 [.lst (os.map jh)]=e9 (.ret (.val .v1) []):=by
 have c:=nF h;have a:=ig (os.map cG);rw[show(os.map cG).all id=f6 from List.all_eq_false.mpr ⟨f6,List.mem_map.mpr ⟨f7,b,rfl⟩,p4⟩]at a;exact D1 (U3 (A5 (U4 (z5 (v4 (g9 (Y2 (B0 (g7 rfl) rfl rfl) (o4 (by rw[List.length_map];omega)) c rfl (.inl (Y1 _))) i8) rfl a) rfl rfl)) rfl (z6 k7 rfl))) rfl
theorem hV (os:List (Option aT)):(dM (.own (.lst (os.map jh)))&&([]:List D).all U0)=f8:=by
 show(List.all _ _&&f8)=f8;rw[Z6,List.all_map,List.all_eq_true];intro o _;cases o with
 |none=>rfl
 |some s=>exact ra s
theorem Ag (R:Rf v (r8 1 cs0) cs0.length os)(b:cs0.length≤1000)(c:f7∈os)(a:os.length≤1000):K7 [.int (v:Int),.lst (x4 cs0),.lst (os.map jh++tl)]=e9 (.ret (.own (.lst (os.map jh))) []):=by
 have d:=Eg (tl:=tl) R b a;have e:=Af (λs h=>(R.hint s h).2.2) c a;have f:=hV os;generalize os.map jh=X at *;exact D1 (j3 (l7 (u8 (g9 (g7 rfl) (g9 (g7 rfl) (g9 (g7 rfl) i8))) rfl rfl d rfl f) rfl) (j3 (l7 (u8 (g9 (g7 rfl) i8) rfl rfl e rfl rfl) rfl) (z6 (vm (n0 (U2 (g7 rfl) rfl rfl)) rfl (g7 rfl)) rfl))) rfl
theorem gG (r:List aT):(r.map e9).map jh=r.map m7:=List.map_map
theorem vj (R:Rf v (r8 1 cs0) cs0.length (r.map e9))(e:cs0.length≤1000)(P:DE r N):K7 [.int (v:Int),.lst (x4 cs0),.lst (r.map m7++tl)]=e9 (.ret (.own (.lst ((r.filter λs=>wB r N s.1).map m7))) []):=by
 have f:=R.len;rw[List.length_map,List.filter_eq_nil_iff.mpr (λo g=>by obtain⟨s,_,rfl⟩:=List.mem_map.mp g;exact p4),List.length_nil]at f;have b:=Eg (tl:=tl) R e (by rw[List.length_map];omega);have d:=hV (r.map e9);rw[gG]at b d;obtain⟨W,h,i⟩:=xr P (by omega);have j:(dM (.own (.dct (keyed W)))&&([]:List D).all U0)=f8:=by
  show(List.all _ _&&f8)=f8;rw[Z6];unfold keyed;rw[List.all_map,List.all_eq_true];exact λ_ _=>rfl
 have c:C1 (y7 0) (p6 (i3 inD (i3 u6 (h7 0) (mC (.int 1))) (h7 1))) (h7 0) [f7,e9 (.sh (.dct (keyed W)))] (r.map m7)=e9 ((r.filter λs=>wB r N s.1).map m7):=by
  refine ax λs _=>?_;rw[show wB r N s.1=decide (s.1∈W) by rw[mO,fR,decide_eq_true_eq,i]];exact turn_if (n3:=[e9 (.sh (m7 s)),e9 (.sh (.dct (keyed W)))]) (x2:=[e9 (.sh (m7 s)),e9 (.sh (.dct (keyed W)))]) rfl (n0 (i5 (i5 (g7 rfl) k7 rfl rfl rfl) (g7 rfl) rfl rfl (in_keyed W s.1))) λ_=>⟨_,_,_,g7 rfl,rfl⟩
 have a:=hV ((r.filter λs=>wB r N s.1).map e9);rw[gG]at a;have a:((r.filter λs=>wB r N s.1).map m7).all U1=f8:=(B6.mp a).1;have k:(r.map m7).length≤1000:=by rw[List.length_map];omega
 generalize (r.filter λs=>wB r N s.1).map m7=X at *;generalize r.map m7=Y at *;exact D1 (j3 (l7 (u8 (g9 (g7 rfl) (g9 (g7 rfl) (g9 (g7 rfl) i8))) rfl rfl b rfl d) rfl) (j3 (l7 (u8 (g9 (g7 rfl) i8) rfl rfl h rfl j) rfl) (z6 (vn (n0 (U2 (g7 rfl) rfl rfl)) rfl (Y2 (B0 (g7 rfl) rfl rfl) (o4 (by omega)) c rfl (.inl a))) rfl))) rfl
end
section
variable {v:Nat}{cs0:List (List Int)}{T:Tab}{g n N:Int}{c hs:List Int}{os:List (Option aT)}{r:List aT}{L:List D}
theorem Ak (s:v≤3)(R:sd v T g n c hs):T9 [.dct (n6 T),.tup (c.map D.int),.lst (hs.map D.int)]=e9 (.ret (.val (.bl f8)) []):=by
 have hk:=R.cl;have b:Tc v T:=⟨λkv h=>by have:=R.ti.cl kv h;omega,λkv h=>(R.ti.key kv h).1,R.ti.lit⟩
 have nd:((c.map λl=>-l).map n7).Nodup:=by rw[List.map_map,show n7∘(λl=>-l)=n7 from funext bx];exact R.lts.2
 have ko:KO v (N0 (c.map λl=>-l)):=⟨by unfold N0;rw[List.map_map];exact nd,λkv h=>by
  obtain⟨x,e,rfl⟩:=List.mem_map.mp h;obtain⟨l,hl,rfl⟩:=List.mem_map.mp e;have:=R.lts.1 l hl;exact⟨rfl,by show -l≠0;omega,by show(-l).natAbs≤v;omega⟩⟩
 obtain⟨i,k,ts,d,rfl,go,hl,j⟩:=R.go;rw[show A0 (c.map λl=>-l)=N0 (c.map λl=>-l)from az _ [] nd λ_ _=>rfl]at go;obtain⟨L,rfl,p⟩:=go.pl;obtain⟨u,m,f⟩:=vi (by omega) b ko ⟨L,i,k,d,rfl,p,hl,j⟩;have o:C1 (y7 0) F5 (i3 inD (aZ N1 (h7 0)) (h7 1)) [f7,e9 (.sh (.tup (c.map D.int)))] (c.map D.int)=e9 ((c.map λl=>decide (-l∈c)).map D.bl):=by
  rw[List.map_map];walk_at"c"
 have an:=pO (c.map λl=>decide (-l∈c));rw[List.any_map,show c.any (id∘λl=>decide (-l∈c))=f6 from List.any_eq_false.mpr λl hl=>by
  show¬decide (-l∈c)=f8;rw[decide_eq_false (R.lts.two l hl)];exact p4]at an
 have q:=rC c;have r:(dM (.val (.tup [.int 2,.int u])) && [D.lst (m.map D.int)].all U0)=f8:=by
  show(f8&&(List.all _ _&&f8))=f8;rw[A2];rfl
 have a:small (c.map D.int).length:=o4 (by rw[List.length_map];omega);exact D1 (j3 (u0 (z5 (v4 (g9 (Y2 (B0 (g7 rfl) rfl rfl) a o rfl (.inl (Y1 _))) i8) rfl an) rfl rfl) rfl C8) (j3 (l7 (Y2 (B0 (g7 rfl) rfl rfl) a q rfl (.inl (A2 _))) rfl) (j3 (l7 (u8 (g9 (g7 rfl) (g9 (g7 rfl) (g9 (g7 rfl) i8))) rfl rfl f rfl r) rfl) (U3 (A5 (tO (n0 (i5 (i5 (g7 rfl) k7 rfl rfl rfl) k7 rfl rfl rfl)) rfl) rfl (z6 (i5 (i5 (g7 rfl) k7 rfl rfl rfl) k7 rfl rfl rfl) rfl)))))) rfl
noncomputable def DZ (v:Nat)(cs0:List (List Int))(L:List D)(T:Tab)(a b c d e:Option C):l5:=[e9 (.sh (.tup [.int (v:Int),.lst (x4 cs0)])),e9 (.sh (.lst L)),e9 (.ow f6 (.dct (n6 T))),a,b,c,d,e]
theorem yO (d:cs0.length≤40):∃a,forL (y7 3) Y9 ((List.range cs0.length).map λk=>D.int (0+((k:Nat):Int))) (DZ v cs0 L [] f7 f7 f7 f7 f7)=e9 (.nx (DZ v cs0 L (r8 1 cs0) a f7 f7 f7 f7)):=by
 obtain⟨_,c,a,rfl⟩:=tL (tg:=y7 3) (b:=Y9) (f:=λk=>D.int (0+((k:Nat):Int))) (λk ρ=>∃a,ρ=DZ v cs0 L (r8 1 (cs0.take k)) a f7 f7 f7 f7) cs0.length (ρ:=DZ v cs0 L [] f7 f7 f7 f7 f7) (λk ρ hk ⟨a,e⟩=>by
  subst e;rw[v8,List.take_succ,List.getElem?_eq_getElem hk];have:=zC (List.getElem?_eq_getElem hk);walk_at"t";exact⟨_,rfl⟩) ⟨f7,rfl⟩
 rw[List.take_length]at c;exact⟨a,c⟩
theorem nm (b:v≤3)(R:sd v T g n c hs){k:Nat}(hk:L[k]?=e9 (m7 (n,c,hs))){o5 o6 o7:Option C}{r:Option SR}(hr:X9 (p6 (i3 M4 (i3 u6 (h7 5) (mC (.int 2))) (B5 j4))) (retS (B5 (g4 (aZ N1 (mC (.int 1))) (g4 (mC (.bl f8)) j4)))) aq (DZ v cs0 L (T++[(n,c)]) (e9 (.sh (.int (k:Int)))) (e9 (.sh (.int n))) (e9 (.sh (m7 (n,c,hs)))) o6 (e9 (.sh (.bl f8))))=r):Y8 (DZ v cs0 L T (e9 (.sh (.int (k:Int)))) (e9 (.sh (.int g))) o5 o6 o7)=r:=by
 have d:=Ak b R;have hl:=R.cl;have e:u6 (.lst L) (.int (k:Int))=e9 (.val (m7 (n,c,hs))):=by
  show(L2.fA L (k:Int)).map W.val=_;rw[ic hk];rfl
 have gt:U8 (λi j=>decide (j<i)) (.int n) (.int g)=e9 (.val (.bl f8)):=by
  show e9 (W.val (.bl (decide (g<n))))=_;rw[decide_eq_true R.lt]
 have f:C1 (y7 0) F5 (i3 (U8 λi j=>decide (i≤j)) (D2 Q9 (g4 (h7 0) j4)) (i3 u6 (h7 1) (mC (.int 0)))) [f7,e9 (.sh (.tup [.int (v:Int),.lst (x4 cs0)]))] (c.map D.int)=e9 ((c.map λl=>decide (n7 l≤(v:Int))).map D.bl):=by
  rw[List.map_map];exact W2 λl _=>gE rfl rfl (i5 (v4 (g9 (g7 rfl) i8) rfl rfl) (i5 (g7 rfl) k7 rfl rfl rfl) rfl rfl rfl) rfl
 have a:=ig (c.map λl=>decide (n7 l≤(v:Int)));rw[List.all_map,show c.all (id∘λl=>decide (n7 l≤(v:Int)))=f8 from List.all_eq_true.mpr λl hl=>decide_eq_true (by have:=(R.lts.1 l hl).2;unfold n7;omega)]at a;exact j3 (l7 (i5 (g7 rfl) (g7 rfl) rfl rfl e) rfl) (u0 (n0 (i5 (i5 (g7 rfl) k7 rfl rfl rfl) k7 rfl rfl rfl)) rfl (j3 (l7 (rc (i5 (i5 (g7 rfl) k7 rfl rfl rfl) (g7 rfl) rfl rfl gt) rfl rfl (v4 (g9 (Y2 (B0 (i5 (g7 rfl) k7 rfl rfl rfl) rfl rfl) (o4 (by rw[List.length_map];exact Nat.le_trans hl (by decide))) f rfl (.inl (Y1 _))) i8) rfl a)) rfl) (j3 (u0 (dg (U4 (z5 (g7 rfl) rfl (k:=f8) rfl)) rfl (U4 (z5 (u8 (g9 (g7 rfl) (g9 (i5 (g7 rfl) k7 rfl rfl rfl) (g9 (v4 (g9 (i5 (g7 rfl) k7 rfl rfl rfl) i8) rfl rfl) i8))) rfl rfl d rfl rfl) rfl (k:=f8) rfl))) rfl C8) (j3 (l7 (i5 (g7 rfl) k7 rfl rfl rfl) rfl) (j3 (bQ (i5 (g7 rfl) k7 rfl rfl rfl) rfl (g7 rfl) rfl rfl (yE R rfl)) hr)))))
theorem Ch (t:v≤3)(R:Rf v T g os):∀(k:Nat) (m o5 o6 o7:Option C),(∀j o,os[j]?=e9 o→L[k+j]?=e9 (jh o))→∃a b d f i l,forL (y7 3) Y8 ((List.range' k os.length).map λj=>D.int (0+((j:Nat):Int))) (DZ v cs0 L T m (e9 (.sh (.int g))) o5 o6 o7)=e9 (.rt (.val (.tup [.int (-1),.bl f8])) (DZ v cs0 L a b d f i l)):=by
 have nx:∀{os:List (Option aT)} {o:Option aT} {k:Nat},(∀j p,(o::os)[j]?=e9 p→L[k+j]?=e9 (jh p))→L[k]?=e9 (jh o)∧∀j p,os[j]?=e9 p→L[k+1+j]?=e9 (jh p):=λh=>⟨h 0 _ rfl,λj p x=>by rw[Nat.add_right_comm];exact h (j+1) p x⟩
 induction R with
 |last q=>
  intro k m o5 o6 o7 h;have s:=nm (cs0:=cs0) (o5:=o5) (o6:=o6) (o7:=o7) t q (nx h).1 (A5 (n0 (i5 (i5 (g7 rfl) k7 rfl rfl rfl) (u7 i8 rfl (Nat.le_of_ble_eq_true rfl)) rfl rfl rfl)) rfl (z6 (u7 (g9 (U2 k7 rfl rfl) (g9 k7 i8)) rfl (Nat.le_of_ble_eq_true rfl)) rfl));rw[←v8 (k:Int)]at s;exact⟨_,_,_,_,_,_,pf rfl s⟩
 | @add T g n c hs os q r _ ih=>
  intro k m o5 o6 o7 h;have u:=ke c;rw[show c.isEmpty=f6 by cases c with|nil=>exact absurd rfl r|cons _ _=>rfl]at u;obtain⟨a,b,d,f,i,l,e⟩:=ih (k+1) (e9 (.sh (.int (0+(k:Int))))) (e9 (.sh (m7 (n,c,hs)))) o6 (e9 (.sh (.bl f8))) (nx h).2;have s:=nm (cs0:=cs0) (o5:=o5) (o6:=o6) (o7:=o7) t q (nx h).1 (u0 (n0 (i5 (i5 (g7 rfl) k7 rfl rfl rfl) (u7 i8 rfl (Nat.le_of_ble_eq_true rfl)) rfl rfl u)) rfl C8);rw[←v8 (k:Int)]at s;exact⟨a,b,d,f,i,l,E1 rfl s e⟩
 | @drop T g os ti y _ ih=>
  intro k m o5 o6 o7 h;have w:u6 (.lst L) (.int (k:Int))=e9 (.val aM):=by
   show(L2.fA L (k:Int)).map W.val=_;rw[ic (nx h).1];rfl
  rw[←v8 (k:Int)]at w;obtain⟨a,b,d,f,i,l,e⟩:=ih (k+1) (e9 (.sh (.int (0+(k:Int))))) (e9 (.sh aM)) (e9 (.sh (.int 1000))) o7 (nx h).2;exact⟨a,b,d,f,i,l,E1 rfl (j3 (l7 (i5 (g7 rfl) (g7 rfl) rfl rfl w) rfl) (A5 (n0 (i5 (i5 (g7 rfl) k7 rfl rfl rfl) k7 rfl rfl rfl)) rfl (eH (B0 (i5 (g7 rfl) k7 rfl rfl rfl) rfl rfl) (E1 rfl (W9 (rb (g7 rfl) rfl rfl rfl rfl rfl rfl (uN ti y))) vg)))) e⟩
theorem nE (c:v≤3)(R:Rf v (r8 1 cs0) cs0.length os)(d:cs0.length≤40)(l:os.length≤1000):Q6 [.tup [.int (v:Int),.lst (x4 cs0)],.lst (os.map jh)]=e9 (.ret (.val (.tup [.int (-1),.bl f8])) []):=by
 obtain⟨e,f⟩:=yO (v:=v) (L:=os.map jh) d;obtain⟨m,p,q,r,s,t,a⟩:=Ch (cs0:=cs0) (L:=os.map jh) c R 0 e f7 f7 f7 λj o h=>by rw[Nat.zero_add,List.getElem?_map,h];rfl
 rw[←List.range_eq_range']at a;have g:=cr (n:=cs0.length) (by omega);have i:=cr (n:=os.length) (by omega);have b:=uT cs0;have k:=uR jh os;exact D1 (j3 (l7 fg rfl) (j3 (dh (lB (g9 (v4 (g9 (i5 (g7 rfl) k7 rfl rfl rfl) i8) rfl b) i8) rfl g) f rfl) (j3 (l7 (v4 (g9 (i5 (g7 rfl) k7 rfl rfl rfl) i8) rfl b) rfl) (U3 (dh (lB (g9 (v4 (g9 (g7 rfl) i8) rfl k) i8) rfl i) a rfl))))) rfl
end
noncomputable def CJ (L F:List D)(W:List Int)(a b:Option C):l5:=[e9 (.sh (.lst L)),e9 (.ow f6 (.lst F)),e9 (.ow f6 (.dct (keyed W))),a,b]
section
variable {N:Int}{r:List aT}{L F:List D}
theorem IG (s:aT){W:List Int}(n:W.length≤300000)(hs:s.2.2.length≤300)(g:Option C):∃V d,forL (y7 4) Y7 (s.2.2.map D.int) (CJ L F W (e9 (.sh (m7 s))) g)=e9 (.nx (CJ L F V (e9 (.sh (m7 s))) d))∧V.length≤W.length+s.2.2.length∧∀x,x∈V↔x∈W∨x∈s.2.2∧x<s.1:=by
 obtain⟨_,k,V,d,rfl,i,c⟩:=CY (tg:=y7 4) (b:=Y7) (f:=D.int) (λa ρ=>∃V j,ρ=CJ L F V (e9 (.sh (m7 s))) j∧V.length≤W.length+a.length∧∀x,x∈V↔x∈W∨x∈a∧x<s.1) s.2.2 (ρ:=CJ L F W (e9 (.sh (m7 s))) g) (λa h po ρ e ⟨V,j,l,i,c⟩=>by
  subst l;have m:=congrArg List.length e;rw[List.length_append,List.length_cons]at m;have o:=cD V h;rw[List.length_append,List.length_singleton];have q:∀x,x∈a++[h]∧x<s.1↔(x∈a∧x<s.1)∨x=h∧h<s.1:=λx=>by
   rw[List.mem_append,List.mem_singleton,or_and_right];exact or_congr_right ⟨λz=>⟨z.1,z.1▸z.2⟩,λz=>⟨z.1,z.1▸z.2⟩⟩
  by_cases z:h<s.1
  ·refine tn rfl (A5 (n0 (i5 (g7 rfl) (i5 (g7 rfl) k7 rfl rfl rfl) rfl rfl rfl)) (decide_eq_true z) (bQ k7 rfl (g7 rfl) rfl rfl (jW rfl (by omega)))) ⟨O7 V h,e9 (.sh (.int h)),rfl,by omega,λx=>?_⟩;rw[q,ii,c,or_assoc,and_iff_left z]
  ·refine tn rfl (u0 (n0 (i5 (g7 rfl) (i5 (g7 rfl) k7 rfl rfl rfl) rfl rfl rfl)) (decide_eq_false z) C8) ⟨V,e9 (.sh (.int h)),rfl,by omega,λx=>?_⟩;rw[q,c];exact or_congr_right ⟨.inl,λy=>y.elim id λy=>absurd y.2 z⟩) ⟨_,_,rfl,Nat.le_refl _,λx=>⟨.inl,λz=>z.elim id λz=>nomatch z.1⟩⟩
 exact⟨V,d,k,i,c⟩
theorem Aj (P:DE r N)(G:r.length≤601):Q5 [.lst (r.map m7)]=e9 (.ret (.own (.lst ((r.filter λs=>wB r N s.1).map m7))) []):=by
 obtain⟨_,o,W,d,a,rfl,_⟩:=CY (tg:=y7 3) (b:=dE) (f:=m7) (λpre ρ=>∃W d a,ρ=CJ (r.map m7) ((pre.reverse.filter λs=>wB r N s.1).map m7) W d a∧W.length≤301*pre.length∧(∀x,kl pre.reverse x→x∈W)∧∀x∈W,kl pre.reverse x∨∃s∈pre,s.1=x) r.reverse (ρ:=CJ (r.map m7) [] [] f7 f7) (λpre s post ρ e ⟨W,d,a,w,H,i,j⟩=>by
  subst w;have k:r=post.reverse++s::pre.reverse:=by have:=congrArg List.reverse e;simpa using this
  have cond:=P.cond k;have p:=P.hnt s (by rw[k];simp);have le:=congrArg List.length e;rw[List.length_reverse,List.length_append,List.length_cons]at le;have y:=List.length_filter_le (λs:aT=>wB r N s.1) pre.reverse;rw[List.length_reverse]at y;have t:=in_keyed W s.1;have l:=ke s.2.1;rw[List.length_append,List.length_singleton,List.reverse_append];have t0:∀{F:List D},rY (p6 (i3 M4 (i3 u6 (h7 3) (mC (.int 2))) (B5 j4))) (p6 (i3 inD (i3 u6 (h7 3) (mC (.int 1))) (h7 2))) (CJ (r.map m7) F W (e9 (.sh (m7 s))) a)=e9 (.ok (wB r N s.1) (CJ (r.map m7) F W (e9 (.sh (m7 s))) a)):=by
   intro F;rcases yN P e with⟨m,_,n⟩ | ⟨m,_,n⟩
   ·rw[cond.mpr (.inl (by rw[m];rfl))];exact tO (n0 (i5 (i5 (g7 rfl) k7 rfl rfl rfl) (u7 i8 rfl (Nat.le_of_ble_eq_true rfl)) rfl rfl (by rw[l,n];rfl))) rfl
   ·rw[show s.2.1.isEmpty=f6 by cases A:s.2.1 with|nil=>exact absurd A n|cons _ _=>rfl]at l;rw[show wB r N s.1=decide (s.1∈W) by
     rw[mO,cond,decide_eq_true_eq];refine⟨λz=>i _ (z.resolve_left λz=>m (List.reverse_eq_nil_iff.mp z)),λz=>.inr ((j _ z).resolve_right ?_)⟩
     rintro ⟨q,g,z⟩
     have u:=P.up;rw[k,List.map_append,List.pairwise_append,List.map_cons,List.pairwise_cons]at u;have:=u.2.1.1 q.1 (List.mem_map_of_mem (List.mem_reverse.mpr g));omega]
    exact dg (n0 (i5 (i5 (g7 rfl) k7 rfl rfl rfl) (u7 i8 rfl (Nat.le_of_ble_eq_true rfl)) rfl rfl l)) rfl (n0 (i5 (i5 (g7 rfl) k7 rfl rfl rfl) (g7 rfl) rfl rfl t))
  show Tn _ _ _ _ λρ=>∃W d a,ρ=CJ _ (((s::pre.reverse).filter λs=>wB r N s.1).map m7) W d a∧_∧(∀x,kl (s::pre.reverse) x→_)∧∀x∈W,kl (s::pre.reverse) x∨_;by_cases h:wB r N s.1=f8
  ·have c:=cond.mp h;rw[List.filter_cons_of_pos (by exact h)];have ad:z7 (.lst [m7 s]) (.lst ((pre.reverse.filter λs=>wB r N s.1).map m7))=e9 (.own (.lst (m7 s::(pre.reverse.filter λs=>wB r N s.1).map m7))):=v7 (o4 (by rw[List.length_map,List.length_singleton];omega));have I:=cD W s.1;obtain⟨V,B,E,J,v⟩:=IG (L:=r.map m7) (F:=m7 s::(pre.reverse.filter λs=>wB r N s.1).map m7) s (W:=O7 W s.1) (by omega) p.1 a;refine tn rfl (A5 t0 h (j3 (l7 (i5 (P4 (g9 (g7 rfl) i8) rfl (Nat.le_of_ble_eq_true rfl)) (g7 rfl) rfl rfl ad) rfl) (j3 (bQ k7 rfl (i5 (g7 rfl) k7 rfl rfl rfl) rfl rfl (jW rfl (by omega))) (dh (B0 (i5 (g7 rfl) k7 rfl rfl rfl) rfl rfl) E rfl)))) ⟨V,_,B,rfl,by have:=p.1;omega,λx z=>?_,λx z=>?_⟩
   ·rw[v,ii];exact z.imp (λz=>.inl (i x z)) (·.2)
   ·rw[v,ii]at z;rcases z with(z|z) |z
    ·rcases j x z with z| ⟨q,g,z⟩
     ·exact .inl (.inl z)
     ·exact .inr ⟨q,List.mem_append_left _ g,z⟩
    ·exact .inr ⟨s,by simp,z.symm⟩
    ·exact .inl (.inr ⟨c,z⟩)
  ·rw[List.filter_cons_of_neg (by exact h)];exact tn rfl (u0 t0 (by simpa using h) C8) ⟨W,_,a,rfl,by omega,λx z=>i x (z.resolve_right λz=>h (cond.mpr z.1)),λx z=>(j x z).imp .inl λ⟨q,g,z⟩=>⟨q,List.mem_append_left _ g,z⟩⟩) ⟨[],f7,f7,rfl,Nat.zero_le _,λ_ h=>h.elim,λ_ h=>nomatch h⟩
 rw[List.reverse_reverse,List.map_reverse]at o;exact D1 (j3 (l7 (P4 i8 rfl (Nat.le_of_ble_eq_true rfl)) rfl) (j3 (l7 fg rfl) (j3 (dh (pj (g9 (g7 rfl) i8) rfl) o rfl) (z6 (g7 rfl) rfl)))) rfl
end
theorem lC:∀{xs:List D},(∀x∈xs,f x x=e9 f8)→kg f xs xs=e9 f8
 | [],_=>rfl
 |x::xs,h=>by
  unfold kg;rw[h x List.mem_cons_self,lC λy a=>h y (List.mem_cons_of_mem _ a)];rfl
theorem pw(h:∀x∈xs,bR 7 x x=e9 f8):M4 (.lst xs) (.lst xs)=e9 (.val (.bl f8))∧iI (.lst xs) (.lst xs)=e9 (.val (.bl f6)):=by
 have:eqT (.lst xs) (.lst xs)=e9 f8:=lC h;unfold M4 iI;rw[this];exact⟨rfl,rfl⟩
theorem Ap (os:List (Option aT)):∀x∈os.map jh,bR 7 x x=e9 f8:=λx b=>by
 obtain⟨o,_,rfl⟩:=List.mem_map.mp b;cases o with
 |none=>rfl
 |some s=>
  refine lC (f:=bR 6) λx b=>?_;have i:∀a:List Int,bR 6 (.tup (a.map D.int)) (.tup (a.map D.int))=e9 f8:=λa=>by
   show kg (bR 5) _ _=_;rw[nM,decide_eq_true rfl]
  have:x=.str [97,100,100]∨x=.int s.1∨x=.tup (s.2.1.map D.int)∨x=.tup (s.2.2.map D.int):=by simpa using b
  rcases this with rfl|rfl|rfl|rfl
  ·rfl
  ·show e9 (s.1==s.1)=_;rw[beq_self_eq_true]
  ·exact i _
  ·exact i _
noncomputable def Mc:List D:=[.tup [.str [97,100,100],.int 5000,.tup [.int 1],.tup [.int 7]],.tup [.str [100,114,111,112],.tup [.int 1,.int 2]],.tup [.str [97,100,100],.int 1,.tup [],.tup []]]
theorem HE(c:0≤m)(h:m<4):∃a,EY (.lst Mc) f7 (e9 m)=e9 (.own (.lst a))∧a.length≤3∧∀x∈a,bR 7 x x=e9 f8:=by
 have:m=0∨m=1∨m=2∨m=3:=by omega
 rcases this with rfl|rfl|rfl|rfl
 ·exact⟨[],rfl,by decide,λ_ h=>nomatch h⟩
 all_goals exact⟨_,rfl,by decide,λx b=>by simp[cutD,HT.B4,Mc]at b;rcases b with rfl|rfl|rfl<;>rfl⟩
section
variable {v:Nat}{cs:List (List Int)}{r:List aT}{tl:List D}
theorem ij.lit(S:ij v cs0 cs st)(h:∀c∈cs0,∀l∈c,l≠0∧l.natAbs≤v):∀c∈cs,∀l∈c,l≠0∧l.natAbs≤v:=by
 induction S with
 |nil=>exact h
 |snoc _ _ _ _ a ih=>exact λd hd=>(List.mem_append.mp hd).elim (ih d) λhd=>by rw[List.mem_singleton.mp hd];exact a.1
theorem yA (lit:∀c∈cs,c.length≤100∧∀l∈c,l≠0∧l.natAbs≤v)(R:Res v cs (f7,r)):∃st y,r=st++[y]∧Ti v (r8 1 cs) cs.length∧Rf v (r8 1 cs) cs.length (r.map e9)∧Rf v (r8 1 cs) cs.length (st.map e9++[f7,e9 y]):=by
 cases R with
 | @none a st hs S e f g go=>
  have d:∀c∈a,c.length≤100∧∀l∈c,l≠0∧l.natAbs≤v:=λc b=>⟨f c b,S.lit (λc b=>(lit c b).2) c b⟩
  have ti:=sm d;have R:Rf v (r8 1 a) a.length [e9 (((a.length+1:Nat):Int),[],hs)]:=.last ⟨ti,by omega,by omega,Nat.zero_le _,g,⟨λ_ h=>(nomatch h),.nil⟩,go⟩;refine⟨st,_,rfl,sm lit,?_,S.rf e d _ (.drop ti (by omega) R)⟩;rw[List.map_append];exact S.rf e d _ R
theorem kj {a b:List D}(h:a.length+b.length≤2000):z7 (.lst a) (.lst b)=e9 (.own (.lst (a++b))):=v7 (o4 (by omega))
structure Mi (v:Nat) (cs:List (List Int)) (X:List D):Prop where
 len:X.length≤1000
 play:Q6 [.tup [.int (v:Int),.lst (x4 cs)],.lst X]=some (.ret (.val (.tup [.int (-1),.bl true])) [])
 again:K7 [.int (v:Int),.lst (x4 cs),.lst X]=some (.ret (.own (.lst X)) [])
 self:∀x∈X,bR 7 x x=some true
 flat:(dM (.own (.lst X))&&([]:List D).all U0)=true
theorem xF (a:v≤3)(b:cs.length≤40)(lit:∀c∈cs,c.length≤100∧∀l∈c,l≠0∧l.natAbs≤v)(R:Res v cs (f7,r)):∃P y A,EY (.lst (r.map m7)) f7 (e9 (-1))=e9 (.own (.lst P))∧EY (.lst (r.map m7)) (e9 (-1)) f7=e9 (.own (.lst [y]))∧z7 (.lst P) (.lst [aM])=e9 (.own (.lst (P++[aM])))∧z7 (.lst (P++[aM])) (.lst [y])=e9 (.own (.lst A))∧Mi v cs A∧∀tl,K7 [.int (v:Int),.lst (x4 cs),.lst (A++tl)]=e9 (.ret (.own (.lst A)) []):=by
 obtain⟨st,y,rfl,ti,d,R2⟩:=yA lit R;have f:=d.len;rw[List.length_map,List.filter_eq_nil_iff.mpr (λo g=>by obtain⟨s,_,rfl⟩:=List.mem_map.mp g;exact p4),List.length_append,List.length_singleton,List.length_nil]at f;have lo:(st.map e9++[f7,e9 y]).length≤1000:=by rw[List.length_append,List.length_map];show _+2≤_;omega
 have e:(st++[y]).map m7=st.map m7++[m7 y]:=List.map_append;have h:(st.map e9++[f7,e9 y]).map jh=st.map m7++[aM]++[m7 y]:=by rw[List.map_append,gG,List.append_assoc];rfl
 have t:=λtl=>Ag (tl:=tl) R2 (by omega) (by simp) lo;refine⟨st.map m7,m7 y,(st.map e9++[f7,e9 y]).map jh,?_,?_,kj (by rw[List.length_map,List.length_singleton];omega),?_,⟨by rw[List.length_map];exact lo,nE a R2 b lo,by have:=t [];rw[List.append_nil]at this;exact this,Ap _,hV _⟩,t⟩
 ·show e9 (W.own (.lst (cutD _ f7 (e9 (-1)))))=_;unfold cutD;rw[L3.Az,e,List.dropLast_concat]
 ·show e9 (W.own (.lst (cutD _ (e9 (-1)) f7)))=_;unfold cutD;rw[L3.yu,e,List.length_append,List.length_singleton,Nat.add_sub_cancel,List.drop_left,HT.gR,Nat.add_sub_cancel_left];rfl
 ·rw[h];exact kj (by rw[List.length_append,List.length_map,List.length_singleton,List.length_singleton];omega)
theorem tY (g:v≤3)(h:cs.length≤40)(lit:∀c∈cs,c.length≤100∧∀l∈c,l≠0∧l.natAbs≤v)(R:Res v cs (f7,r)):∃X,Mi v cs X∧Q5 [.lst (r.map m7)]=e9 (.ret (.own (.lst X)) [])∧(∀tl,K7 [.int (v:Int),.lst (x4 cs),.lst (r.map m7++tl)]=e9 (.ret (.own (.lst X)) []))∧(r.map m7).length≤1000∧∀x∈r.map m7,bR 7 x x=e9 f8:=by
 obtain⟨_,_,_,ti,R,_⟩:=yA lit R;obtain⟨N,P⟩:=R.MG;have i:=R.len;rw[List.length_map,List.filter_eq_nil_iff.mpr (λo j=>by obtain⟨s,_,rfl⟩:=List.mem_map.mp j;exact p4),List.length_nil]at i;obtain⟨R',k,m⟩:=R.MB ti P;have p:=List.length_filter_le (λs:aT=>wB r N s.1) r;have f1:=Aj P (by omega);have n:=λtl=>vj (tl:=tl) R (by omega) P;have a:=vj (tl:=[]) R' (by omega) k;rw[List.append_nil,List.filter_eq_self.mpr λs hs=>fR.mpr (m s hs)]at a;have b:=nE g R' h (by rw[List.length_map];omega);have d:=hV ((r.filter λs=>wB r N s.1).map e9);have e:=Ap ((r.filter λs=>wB r N s.1).map e9);rw[gG]at b d e;have f:=Ap (r.map e9);rw[gG]at f;exact⟨_,⟨by rw[List.length_map];omega,b,a,e,d⟩,f1,n,by rw[List.length_map];omega,f⟩
end
theorem sR:(∀a∈[(1:Int),-1],∃n∈List.range 2,aY 1 (n:Nat)=[a])∧(∀a∈[(1:Int),-1],∀b∈[(2:Int),-2],∃n∈List.range 4,aY 2 (n:Nat)=[a,b])∧∀a∈[(1:Int),-1],∀b∈[(2:Int),-2],∀c∈[(3:Int),-3],∃n∈List.range 8,aY 3 (n:Nat)=[a,b,c]:=by decide +kernel
theorem CH {v:Nat}(c:1≤v∧v≤3){f:Nat→Int}(a:∀k,k<v→f k=(k:Int)+1∨f k=-((k:Int)+1)):∃n:Nat,n<pE (v:Int)∧aY (v:Int) n=(List.range v).map f:=by
 have a:∀k,k<v→f k∈[(k:Int)+1,-((k:Int)+1)]:=λk hk=>by simpa using a k hk
 have:v=1∨v=2∨v=3:=by omega
 rcases this with rfl|rfl|rfl
 ·obtain⟨n,b,e⟩:=sR.1 _ (a 0 (by decide));exact⟨n,List.mem_range.mp b,e⟩
 ·obtain⟨n,b,e⟩:=sR.2.1 _ (a 0 (by decide)) _ (a 1 (by decide));exact⟨n,List.mem_range.mp b,e⟩
 ·obtain⟨n,b,e⟩:=sR.2.2 _ (a 0 (by decide)) _ (a 1 (by decide)) _ (a 2 (by decide));exact⟨n,List.mem_range.mp b,e⟩
noncomputable def JI (ns:List Int)(u:Nat)(cs:List (List Int))(a b:Option C):l5:=[e9 (.sh (.lst (ns.map D.int))),e9 (.sh (.tup [.int (u:Int),.lst (x4 cs)])),a,b,f7,f7,f7,f7]
theorem zu:∀ns:List Int,ns.length≤63→n8 vv 8 [f6] [.lst (ns.map D.int)]=e9 (.ret (.val (.bl f8)) []):=by
 intro ns _;obtain⟨v,cs,f1,z0,F⟩:=Dc ns 0;obtain⟨u,rfl⟩:∃u:Nat,v=(u:Int):=⟨v.toNat,by have:=F.lo;omega⟩
 have j:1≤u∧u≤3:=⟨by have:=F.lo;omega,by have:=F.hi;omega⟩
 have lit:∀c∈cs,c.length≤100∧∀l∈c,l≠0∧l.natAbs≤u:=λc d=>by
  have:=F.cl c d;rw[G8]at this;exact⟨by omega,this.2⟩
 obtain⟨L,N,Z⟩:=Da j.1 j.2 F.no lit (by omega);have p8:2 ^ u≤8:=Nat.pow_le_pow_right (n:=2) (by omega) j.2;obtain⟨⟨q,r2⟩,hS,R2⟩:=ql (v:=u) (cs0:=cs) (by omega) (λc d=>(lit c d).2) (λc d=>(lit c d).1) (by omega);have f3:=xu (v:=(u:Int)) (by omega) (by omega) hS;have qn:q=f7:=by
  cases R2 with
  |none=>rfl
  | @model f hf hs=>
   obtain⟨n,hn,e⟩:=CH j hf;obtain⟨c,d,w⟩:=F.no n hn;obtain⟨l,l1,O⟩:=hs c d;rw[←e]at O;exact absurd (decide_eq_true O) (List.any_eq_false.mp w l l1)
 subst qn;have t:∀{a:Int} {b:Bool},decide (a=0)=b→M4 (.int a) (.int 0)=e9 (.val (.bl b)):=λh=>h▸eq_int _ _;have o:∀{k:Int} {g Q:Option C},o8 [f6,f6] u4 (g4 (h7 0) (g4 (mC (.int k)) j4)) (JI ns u cs g Q)=e9 (.ok (.val (.int (E9 ns k))) (JI ns u cs g Q)):=u8 (g9 (g7 rfl) (g9 k7 i8)) rfl rfl pi rfl rfl;obtain⟨r,g,R,S,T⟩:∃r g,Res u cs (f7,r)∧(g=C.ow f6 (.lst (r.map m7))∨g=.sh (.lst (r.map m7)))∧X9 (p6 (i3 M4 (i3 S9 (o8 [f6,f6] u4 (g4 (h7 0) (g4 (mC (.int 50)) j4))) (mC (.int 3))) (mC (.int 0)))) (n5 2 (i3 u6 (o8 [f6,f6] cv (g4 (i3 u6 (h7 1) (mC (.int 0))) (g4 (i3 u6 (h7 1) (mC (.int 1))) j4))) (mC (.int 1)))) aq (JI ns u cs (e9 (.ow f6 (.lst (L.map m7)))) f7)=e9 (.nx (JI ns u cs (e9 g) f7)):=by
  by_cases h:E9 ns 50 % 3=0
  ·exact⟨r2,_,R2,.inr rfl,A5 (n0 (i5 (i5 o k7 rfl rfl (D5 (by decide))) k7 rfl rfl (t (decide_eq_true h)))) rfl (l7 (i5 (Q8 (g9 (i5 (g7 rfl) k7 rfl rfl rfl) (g9 (i5 (g7 rfl) k7 rfl rfl rfl) i8)) rfl rfl f3 rfl rfl) k7 rfl rfl rfl) rfl)⟩
  ·exact⟨L,_,Z,.inl rfl,u0 (n0 (i5 (i5 o k7 rfl rfl (D5 (by decide))) k7 rfl rfl (t (decide_eq_false h)))) rfl C8⟩
 have z:S9 (.int (E9 ns 52)) (.int 4)=e9 (.val (.int (E9 ns 52 % 4))):=D5 (by decide);obtain⟨p,st,tz,U⟩:=HE (C9 (E9 ns 52) (b:=4) (by omega)) (A8 (E9 ns 52) (b:=4) (by omega));generalize E9 ns 52 % 4=m at *;by_cases Y:E9 ns 51 % 4=0
 ·have H:=t (decide_eq_true Y);obtain⟨P,y,A,s1,s2,a1,a2,⟨Al,pl,I,G,s⟩,i⟩:=xF j.2 (by omega) lit R;have i:=i p;have B:=kj (a:=A) (b:=p) (by omega);have E:=pw G;have w:=pw (xs:=A++p) λx J=>(List.mem_append.mp J).elim (G x) (U x);rcases S with rfl|rfl<;>exact D1 (j3 (l7 (Q8 (g9 (g7 rfl) (g9 k7 i8)) rfl rfl f1 rfl rfl) rfl) (j3 (l7 (Q8 (g9 (g7 rfl) i8) rfl rfl N rfl rfl) rfl) (j3 T (j3 (l7 (i5 (i5 o k7 rfl rfl (D5 (by decide))) k7 rfl rfl H) rfl) (j3 (A5 (z5 (g7 rfl) rfl rfl) rfl (l7 (i5 (i5 (nI (g7 rfl) nJ (fe (U2 k7 rfl rfl) rfl) rfl s1) (P4 (g9 (u7 (g9 k7 (g9 (u7 (g9 k7 i8) rfl (Nat.le_of_ble_eq_true rfl)) i8)) rfl (Nat.le_of_ble_eq_true rfl)) i8) rfl (Nat.le_of_ble_eq_true rfl)) rfl rfl a1) (nI (g7 rfl) (fe (U2 k7 rfl rfl) rfl) nJ rfl s2) rfl rfl a2) rfl)) (j3 (l7 (nI (P4 (g9 (u7 (g9 k7 (g9 k7 (g9 (u7 (g9 k7 i8) rfl (Nat.le_of_ble_eq_true rfl)) (g9 (u7 (g9 k7 i8) rfl (Nat.le_of_ble_eq_true rfl)) i8)))) rfl (Nat.le_of_ble_eq_true rfl)) (g9 (u7 (g9 k7 (g9 (u7 (g9 k7 (g9 k7 i8)) rfl (Nat.le_of_ble_eq_true rfl)) i8)) rfl (Nat.le_of_ble_eq_true rfl)) (g9 (u7 (g9 k7 (g9 k7 (g9 (u7 i8 rfl (Nat.le_of_ble_eq_true rfl)) (g9 (u7 i8 rfl (Nat.le_of_ble_eq_true rfl)) i8)))) rfl (Nat.le_of_ble_eq_true rfl)) i8))) rfl (Nat.le_of_ble_eq_true rfl)) nJ (fe (i5 o k7 rfl rfl z) rfl) rfl st) rfl) (j3 (l7 (i5 (g7 rfl) (g7 rfl) rfl rfl B) rfl) (j3 (l7 (u8 (g9 (i5 (g7 rfl) k7 rfl rfl rfl) (g9 (v4 (g9 (i5 (g7 rfl) k7 rfl rfl rfl) i8) rfl rfl) (g9 (g7 rfl) i8))) rfl rfl i rfl s) rfl) (j3 (l7 (vm (z5 (g7 rfl) rfl rfl) rfl (g7 rfl)) rfl) (j3 (u0 (dg (U4 (z5 (v4 (g9 (g7 rfl) (g9 k7 i8)) rfl rfl) rfl (k:=f8) rfl)) rfl (dg (n0 (i5 (g7 rfl) (g7 rfl) rfl rfl E.2)) rfl (n0 (i5 (g7 rfl) (i5 (g7 rfl) (g7 rfl) rfl rfl B) rfl rfl w.2)))) rfl C8) (j3 (u0 (n0 (i5 (u8 (g9 (g7 rfl) (g9 (g7 rfl) i8)) rfl rfl pl rfl rfl) (u7 (g9 (U2 k7 rfl rfl) (g9 k7 i8)) rfl (Nat.le_of_ble_eq_true rfl)) rfl rfl rfl)) rfl C8) (z6 (i5 (u8 (g9 (i5 (g7 rfl) k7 rfl rfl rfl) (g9 (v4 (g9 (i5 (g7 rfl) k7 rfl rfl rfl) i8) rfl rfl) (g9 (v4 (g9 (g7 rfl) i8) rfl rfl) i8))) rfl rfl I rfl s) (g7 rfl) rfl rfl E.1) rfl)))))))))))) rfl
 ·have H:=t (decide_eq_false Y);obtain⟨X,⟨Al,pl,I,G,s⟩,lw,i,rz,rs⟩:=tY j.2 (by omega) lit R;have i:=i p;have B:=kj (a:=r.map m7) (b:=p) (by omega);have E:=pw G;have w:=pw (xs:=r.map m7++p) λx J=>(List.mem_append.mp J).elim (rs x) (U x);rcases S with rfl|rfl<;>exact D1 (j3 (l7 (Q8 (g9 (g7 rfl) (g9 k7 i8)) rfl rfl f1 rfl rfl) rfl) (j3 (l7 (Q8 (g9 (g7 rfl) i8) rfl rfl N rfl rfl) rfl) (j3 T (j3 (l7 (i5 (i5 o k7 rfl rfl (D5 (by decide))) k7 rfl rfl H) rfl) (j3 (u0 (z5 (g7 rfl) rfl rfl) rfl C8) (j3 (l7 (nI (P4 (g9 (u7 (g9 k7 (g9 k7 (g9 (u7 (g9 k7 i8) rfl (Nat.le_of_ble_eq_true rfl)) (g9 (u7 (g9 k7 i8) rfl (Nat.le_of_ble_eq_true rfl)) i8)))) rfl (Nat.le_of_ble_eq_true rfl)) (g9 (u7 (g9 k7 (g9 (u7 (g9 k7 (g9 k7 i8)) rfl (Nat.le_of_ble_eq_true rfl)) i8)) rfl (Nat.le_of_ble_eq_true rfl)) (g9 (u7 (g9 k7 (g9 k7 (g9 (u7 i8 rfl (Nat.le_of_ble_eq_true rfl)) (g9 (u7 i8 rfl (Nat.le_of_ble_eq_true rfl)) i8)))) rfl (Nat.le_of_ble_eq_true rfl)) i8))) rfl (Nat.le_of_ble_eq_true rfl)) nJ (fe (i5 o k7 rfl rfl z) rfl) rfl st) rfl) (j3 (l7 (i5 (g7 rfl) (g7 rfl) rfl rfl B) rfl) (j3 (l7 (u8 (g9 (i5 (g7 rfl) k7 rfl rfl rfl) (g9 (v4 (g9 (i5 (g7 rfl) k7 rfl rfl rfl) i8) rfl rfl) (g9 (g7 rfl) i8))) rfl rfl i rfl s) rfl) (j3 (l7 (vn (z5 (g7 rfl) rfl rfl) rfl (u8 (g9 (g7 rfl) i8) rfl rfl lw rfl s)) rfl) (j3 (u0 (dg (U4 (z5 (v4 (g9 (g7 rfl) (g9 k7 i8)) rfl rfl) rfl (k:=f8) rfl)) rfl (dg (n0 (i5 (g7 rfl) (g7 rfl) rfl rfl E.2)) rfl (n0 (i5 (g7 rfl) (i5 (g7 rfl) (g7 rfl) rfl rfl B) rfl rfl w.2)))) rfl C8) (j3 (u0 (n0 (i5 (u8 (g9 (g7 rfl) (g9 (g7 rfl) i8)) rfl rfl pl rfl rfl) (u7 (g9 (U2 k7 rfl rfl) (g9 k7 i8)) rfl (Nat.le_of_ble_eq_true rfl)) rfl rfl rfl)) rfl C8) (z6 (i5 (u8 (g9 (i5 (g7 rfl) k7 rfl rfl rfl) (g9 (v4 (g9 (i5 (g7 rfl) k7 rfl rfl rfl) i8) rfl rfl) (g9 (v4 (g9 (g7 rfl) i8) rfl rfl) i8))) rfl rfl I rfl s) (g7 rfl) rfl rfl E.1) rfl)))))))))))) rfl
end K30
namespace L2
theorem En {α:Type}{P:List α→Prop}(h:∀a,P [a]):∀us:List α,us.length=1→P us
 | [a],_=>h a
theorem AS {α:Type}{P:List α→Prop}(h:∀a b,P [a,b]):∀us:List α,us.length=2→P us
 | [a,b],_=>h a b
theorem Em {α:Type}{P:List α→Prop}(h:∀a b c,P [a,b,c]):∀us:List α,us.length=3→P us
 | [a,b,c],_=>h a b c
theorem La {α:Type}{P:List α→Prop}(h:∀a b c d,P [a,b,c,d]):∀us:List α,us.length=4→P us
 | [a,b,c,d],_=>h a b c d
theorem MJ {α:Type}{P:List α→Prop}(h:∀a b c d e,P [a,b,c,d,e]):∀us:List α,us.length=5→P us
 | [a,b,c,d,e],_=>h a b c d e
end L2
open PySem PySem.W PyProof.Rows
namespace K30
noncomputable abbrev rw:=PySem.Challenge.rw_clausekeep_k30_trimmed
noncomputable def ds:List Op.Fn:=[Op.fn "_law_cell" cR,Op.fn "_law_mix" eT,Op.fn "_law_clause" aa,Op.fn "_law_models" Z9,Op.fn "_law_open" cP,Op.fn "_law_hints" bi,Op.fn "_law_walk" cN,Op.fn "_law_follows" W5,Op.fn "_law_played" Z8,Op.fn "_law_sure" cO,Op.fn "_law_none" cQ,Op.fn "_law_wanted" Z7,Op.fn "numbered" cM,Op.fn "truths_of" bf,Op.fn "opened" gQ,Op.fn "spread" gO,Op.fn "learned" eS,Op.fn "solved" gP,Op.fn "has_both" cS,Op.fn "take_hint" bg,Op.fn "follows" eU,Op.fn "up_to_empty" Q3,Op.fn "has_plain_hints" M6,Op.fn "wanted_in" be,Op.fn "trimmed" eR,Op.fn "law" qq,Op.mt "Keeper" "__init__" "Keeper.__init__" E7,Op.mt "Keeper" "is_right" "Keeper.is_right" E6,Op.mt "Keeper" "add_clause" "Keeper.add_clause" B8,Op.mt "Keeper" "drop_clauses" "Keeper.drop_clauses" y9,Op.mt "Keeper" "take" "Keeper.take" Q4]
noncomputable def ok (K:Frag):Bool:=Op.Mf K ["len","range","tuple","all","any","list","sorted","abs","reversed","dict","enumerate","isinstance"]&&Op.isStr "ends" (nsIn K l6 "ENDS")&&Op.isStr "goes on" (nsIn K l6 "GOES_ON")&&Op.isStr "wrong" (nsIn K l6 "WRONG")&&(Op.clsAt K "Keeper").any (Op.isObj K ["variables","table","greatest","taken","refuted"])
theorem w1:PySem.W.Fast.tw9446332074065402090 rw=f8:=by kernel_rfl
theorem run:∀w,(λos=>(Op.go rw.prog w 2300 (Op.s0 w os) (NI rw.prog)).map λs=>((staticsOk (P2 rw.prog.main.body) (D4 w.params) s.abs.heap&&vO rw.prog s.abs.heap&&Ey s.abs&&Ew (D4 w.params) s.abs.heap),Mt (view rw.prog [50]) rw.prog.boundNames (P2 rw.prog.main.body) (λs=>xlAt (view rw.prog [50]) [] s&&recOk [] s) f8 s.abs,(Op.hook ds ok).obs s.abs))=λ_=>e9 (f8,Mu (view rw.prog [50]) rw.prog.boundNames,(Op.hook ds ok).val w):=λw=>by kernel_rfl
theorem xp:PySem.Challenge.rw_clausekeep_k30_trimmed.Holds:=by
 refine Op.holds (i:=50) (n:=2300) (k:=9) (ds:=ds) (ok:=ok) (x:="_law_script") (st:=qq) w1 (by kernel_rfl) (λs=>by kernel_rfl) (by decide) run (by kernel_rfl) (by kernel_rfl) (by kernel_rfl) (by decide +kernel) ⟨rfl,rfl,rfl,rfl,rfl,by decide +kernel⟩ ⟨[.list []],by decide +kernel,by decide +kernel⟩ rfl (by kernel_rfl) ⟨rfl,by decide,by decide⟩ ?_;intro w mg fa h K e hd hk G e8;obtain⟨hk,k4⟩:=Op.pP hk;obtain⟨hk,k3⟩:=Op.pP hk;obtain⟨hk,k2⟩:=Op.pP hk;obtain⟨hk,k1⟩:=Op.pP hk;have b:mg "len"=f7:=Op.dD e G hk 0 rfl;have c:mg "range"=f7:=Op.dD e G hk 1 rfl;have g:mg "tuple"=f7:=Op.dD e G hk 2 rfl;have a8:mg "all"=f7:=Op.dD e G hk 3 rfl;have c8:mg "any"=f7:=Op.dD e G hk 4 rfl;have E:mg "list"=f7:=Op.dD e G hk 5 rfl;have d7:mg "sorted"=f7:=Op.dD e G hk 6 rfl;have r:mg "abs"=f7:=Op.dD e G hk 7 rfl;have o:mg "reversed"=f7:=Op.dD e G hk 8 rfl;have N:mg "dict"=f7:=Op.dD e G hk 9 rfl;have a9:mg "enumerate"=f7:=Op.dD e G hk 10 rfl;have Y:mg "isinstance"=f7:=Op.dD e G hk 11 rfl;have d6:=Op.tV e G k1;have O:=Op.tV e G k2;have e6:=Op.tV e G k3;obtain⟨j,d,d8,a,d9,e0⟩:=Op.FN e G k4;have b7:L2.Def K mg "_law_cell" cR ["_law_script","_law_k"]:=Op.A4 e G (hd _ (List.mem_of_getElem? (i:=0) rfl)) (λ_ _ _ _ _ _=>L2.AS (λ_ _=>rfl));have c9:L2.Def K mg "_law_mix" eT ["_law_script","_law_k"]:=Op.A4 e G (hd _ (List.mem_of_getElem? (i:=1) rfl)) (λ_ _ _ _ _ _=>L2.AS (λ_ _=>rfl));have Z:L2.Def K mg "_law_clause" aa ["_law_script","_law_base","_law_variables","_law_most"]:=Op.A4 e G (hd _ (List.mem_of_getElem? (i:=2) rfl)) (λ_ _ _ _ _ _=>L2.La (λ_ _ _ _=>rfl));have a0:L2.Def K mg "_law_models" Z9 ["_law_variables","_law_clauses"]:=Op.A4 e G (hd _ (List.mem_of_getElem? (i:=3) rfl)) (λ_ _ _ _ _ _=>L2.AS (λ_ _=>rfl));have b8:L2.Def K mg "_law_open" cP ["_law_true_ones","_law_clause_here"]:=Op.A4 e G (hd _ (List.mem_of_getElem? (i:=4) rfl)) (λ_ _ _ _ _ _=>L2.AS (λ_ _=>rfl));have b0:L2.Def K mg "_law_hints" bi ["_law_table_here","_law_literals"]:=Op.A4 e G (hd _ (List.mem_of_getElem? (i:=5) rfl)) (λ_ _ _ _ _ _=>L2.AS (λ_ _=>rfl));have b9:L2.Def K mg "_law_walk" cN ["_law_table_here","_law_true_ones","_law_hints_here"]:=Op.A4 e G (hd _ (List.mem_of_getElem? (i:=6) rfl)) (λ_ _ _ _ _ _=>L2.Em (λ_ _ _=>rfl));have Q:L2.Def K mg "_law_follows" W5 ["_law_table_here","_law_clause_here","_law_hints_here"]:=Op.A4 e G (hd _ (List.mem_of_getElem? (i:=7) rfl)) (λ_ _ _ _ _ _=>L2.Em (λ_ _ _=>rfl));have a1:L2.Def K mg "_law_played" Z8 ["_law_formula_here","_law_steps_here"]:=Op.A4 e G (hd _ (List.mem_of_getElem? (i:=8) rfl)) (λ_ _ _ _ _ _=>L2.AS (λ_ _=>rfl));have c0:L2.Def K mg "_law_sure" cO ["_law_formula_here"]:=Op.A4 e G (hd _ (List.mem_of_getElem? (i:=9) rfl)) (λ_ _ _ _ _ _=>L2.En (λ_=>rfl));have c1:L2.Def K mg "_law_none" cQ ["_law_script","_law_base"]:=Op.A4 e G (hd _ (List.mem_of_getElem? (i:=10) rfl)) (λ_ _ _ _ _ _=>L2.AS (λ_ _=>rfl));have a2:L2.Def K mg "_law_wanted" Z7 ["_law_steps_here"]:=Op.A4 e G (hd _ (List.mem_of_getElem? (i:=11) rfl)) (λ_ _ _ _ _ _=>L2.En (λ_=>rfl));have c2:L2.Def K mg "numbered" cM ["clauses"]:=Op.A4 e G (hd _ (List.mem_of_getElem? (i:=12) rfl)) (λ_ _ _ _ _ _=>L2.En (λ_=>rfl));have b1:L2.Def K mg "truths_of" bf ["literals"]:=Op.A4 e G (hd _ (List.mem_of_getElem? (i:=13) rfl)) (λ_ _ _ _ _ _=>L2.En (λ_=>rfl));have e1:L2.Def K mg "opened" gQ ["truths","clause"]:=Op.A4 e G (hd _ (List.mem_of_getElem? (i:=14) rfl)) (λ_ _ _ _ _ _=>L2.AS (λ_ _=>rfl));have e2:L2.Def K mg "spread" gO ["table","truths","reasons"]:=Op.A4 e G (hd _ (List.mem_of_getElem? (i:=15) rfl)) (λ_ _ _ _ _ _=>L2.Em (λ_ _ _=>rfl));have d0:L2.Def K mg "learned" eS ["table","chosen","truths","reasons","conflict"]:=Op.A4 e G (hd _ (List.mem_of_getElem? (i:=16) rfl)) (λ_ _ _ _ _ _=>L2.MJ (λ_ _ _ _ _=>rfl));have e3:L2.Def K mg "solved" gP ["variables","clauses"]:=Op.A4 e G (hd _ (List.mem_of_getElem? (i:=17) rfl)) (λ_ _ _ _ _ _=>L2.AS (λ_ _=>rfl));have c3:L2.Def K mg "has_both" cS ["clause"]:=Op.A4 e G (hd _ (List.mem_of_getElem? (i:=18) rfl)) (λ_ _ _ _ _ _=>L2.En (λ_=>rfl));have b2:L2.Def K mg "take_hint" bg ["table","truths","hint"]:=Op.A4 e G (hd _ (List.mem_of_getElem? (i:=19) rfl)) (λ_ _ _ _ _ _=>L2.Em (λ_ _ _=>rfl));have d1:L2.Def K mg "follows" eU ["table","clause","hints"]:=Op.A4 e G (hd _ (List.mem_of_getElem? (i:=20) rfl)) (λ_ _ _ _ _ _=>L2.Em (λ_ _ _=>rfl));have R:L2.Def K mg "up_to_empty" Q3 ["variables","clauses","steps"]:=Op.A4 e G (hd _ (List.mem_of_getElem? (i:=21) rfl)) (λ_ _ _ _ _ _=>L2.Em (λ_ _ _=>rfl));have t:L2.Def K mg "has_plain_hints" M6 ["step"]:=Op.A4 e G (hd _ (List.mem_of_getElem? (i:=22) rfl)) (λ_ _ _ _ _ _=>L2.En (λ_=>rfl));have b3:L2.Def K mg "wanted_in" be ["steps"]:=Op.A4 e G (hd _ (List.mem_of_getElem? (i:=23) rfl)) (λ_ _ _ _ _ _=>L2.En (λ_=>rfl));have d2:L2.Def K mg "trimmed" eR ["variables","clauses","steps"]:=Op.A4 e G (hd _ (List.mem_of_getElem? (i:=24) rfl)) (λ_ _ _ _ _ _=>L2.Em (λ_ _ _=>rfl));have e7:L2.Def K mg "law" qq ["_law_script"]:=Op.A4 e G (hd _ (List.mem_of_getElem? (i:=25) rfl)) (λ_ _ _ _ _ _=>L2.En (λ_=>rfl));have u:L3.lQ K j "__init__" "Keeper.__init__" E7 ["self","variables","clauses"]:=Op.kX d (hd _ (List.mem_of_getElem? (i:=26) rfl)) (λ_ _ _ _ _ _=>L2.Em (λ_ _ _=>rfl));have v:L3.lQ K j "is_right" "Keeper.is_right" E6 ["self","number","clause","hints"]:=Op.kX d (hd _ (List.mem_of_getElem? (i:=27) rfl)) (λ_ _ _ _ _ _=>L2.La (λ_ _ _ _=>rfl));have p:L3.lQ K j "add_clause" "Keeper.add_clause" B8 ["self","number","clause","hints"]:=Op.kX d (hd _ (List.mem_of_getElem? (i:=28) rfl)) (λ_ _ _ _ _ _=>L2.La (λ_ _ _ _=>rfl));have l:L3.lQ K j "drop_clauses" "Keeper.drop_clauses" y9 ["self","numbers"]:=Op.kX d (hd _ (List.mem_of_getElem? (i:=29) rfl)) (λ_ _ _ _ _ _=>L2.AS (λ_ _=>rfl));have S:L3.lQ K j "take" "Keeper.take" Q4 ["self","step"]:=Op.kX d (hd _ (List.mem_of_getElem? (i:=30) rfl)) (λ_ _ _ _ _ _=>L2.AS (λ_ _=>rfl));have c4:=λbase=>b7.has (P:=PySem.Challenge.rw_clausekeep_k30_trimmed.prog) (w:=w) (base:=base) λf fd F=>(K30.oG F b).imp (L3.E3.imp K30.mq);have y:=λbase=>c9.has (P:=PySem.Challenge.rw_clausekeep_k30_trimmed.prog) (w:=w) (base:=base) λf fd F=>(K30.qu F (c4 base)).imp (L3.E3.imp K30.ov);have a3:=λbase=>Z.has (P:=PySem.Challenge.rw_clausekeep_k30_trimmed.prog) (w:=w) (base:=base) λf fd F=>(K30.kN F c g (y base)).imp (L3.E3.imp K30.jC);have a4:=λbase=>a0.has (P:=PySem.Challenge.rw_clausekeep_k30_trimmed.prog) (w:=w) (base:=base) λf fd F=>(K30.kM F c a8 c8 g).imp (L3.E3.imp K30.jB);have I:=λbase=>b8.has (P:=PySem.Challenge.rw_clausekeep_k30_trimmed.prog) (w:=w) (base:=base) λf fd F=>(K30.oE F).imp (L3.E3.imp K30.ml);have b4:=λbase=>b0.has (P:=PySem.Challenge.rw_clausekeep_k30_trimmed.prog) (w:=w) (base:=base) λf fd F=>(K30.mD F E c d7 b (I base)).imp (L3.E3.imp K30.kz);have J:=λbase=>b9.has (P:=PySem.Challenge.rw_clausekeep_k30_trimmed.prog) (w:=w) (base:=base) λf fd F=>(K30.oC F b (I base)).imp (L3.E3.imp K30.mh);have T:=λbase=>Q.has (P:=PySem.Challenge.rw_clausekeep_k30_trimmed.prog) (w:=w) (base:=base) λf fd F=>(K30.jF F c8 (J base)).imp (L3.E3.imp K30.iE);have a5:=λbase=>a1.has (P:=PySem.Challenge.rw_clausekeep_k30_trimmed.prog) (w:=w) (base:=base) λf fd F=>(K30.kL F c b a8 r E (T base)).imp (L3.E3.imp K30.jA);have c5:=λbase=>c0.has (P:=PySem.Challenge.rw_clausekeep_k30_trimmed.prog) (w:=w) (base:=base) λf fd F=>(K30.oD F c b g (b4 base) (J base)).imp (L3.E3.imp K30.mj);have c6:=λbase=>c1.has (P:=PySem.Challenge.rw_clausekeep_k30_trimmed.prog) (w:=w) (base:=base) λf fd F=>(K30.oF F c b g (y base) (a3 base) (a4 base)).imp (L3.E3.imp K30.mn);have a6:=λbase=>a2.has (P:=PySem.Challenge.rw_clausekeep_k30_trimmed.prog) (w:=w) (base:=base) λf fd F=>(K30.kK F o).imp (L3.E3.imp K30.jz);have L:=λbase=>c2.has (P:=PySem.Challenge.rw_clausekeep_k30_trimmed.prog) (w:=w) (base:=base) λf fd F=>(K30.oB F N a9).imp (L3.E3.imp K30.lZ);have H:=λbase=>b1.has (P:=PySem.Challenge.rw_clausekeep_k30_trimmed.prog) (w:=w) (base:=base) λf fd F=>(K30.mz F N r).imp (L3.E3.imp K30.kx);have a7:=λbase=>e1.has (P:=PySem.Challenge.rw_clausekeep_k30_trimmed.prog) (w:=w) (base:=base) λf fd F=>(K30.sA F r E).imp (L3.E3.imp K30.qj);have e4:=λbase=>e2.has (P:=PySem.Challenge.rw_clausekeep_k30_trimmed.prog) (w:=w) (base:=base) λf fd F=>L3.Kj ((K30.sx F b r (a7 base)).imp (L3.ue.imp K30.qh)) rfl rfl K30.tR;have d3:=λbase=>d0.has (P:=PySem.Challenge.rw_clausekeep_k30_trimmed.prog) (w:=w) (base:=base) λf fd F=>(K30.qt F N r o E b g).imp (L3.E3.imp K30.ou);have e5:=λbase=>e3.has (P:=PySem.Challenge.rw_clausekeep_k30_trimmed.prog) (w:=w) (base:=base) λf fd F=>(K30.sy F c g (L base) (H base) (e4 base) (d3 base)).imp (L3.E3.imp K30.qi);have c7:=λbase=>c3.has (P:=PySem.Challenge.rw_clausekeep_k30_trimmed.prog) (w:=w) (base:=base) λf fd F=>(K30.oH F).imp (L3.E3.imp K30.mw);have b5:=λbase=>b2.has (P:=PySem.Challenge.rw_clausekeep_k30_trimmed.prog) (w:=w) (base:=base) λf fd F=>(K30.mB F b r e6 d6 O (a7 base)).imp (L3.E3.imp K30.ky);have d4:=λbase=>d1.has (P:=PySem.Challenge.rw_clausekeep_k30_trimmed.prog) (w:=w) (base:=base) λf fd F=>(K30.qv F b O d6 (c7 base) (H base) (b5 base)).imp (L3.E3.imp K30.ox);have z:=λbase=>u.KP (P:=PySem.Challenge.rw_clausekeep_k30_trimmed.prog) (w:=w) (mg:=mg) (base:=base) d9 e0 λf fd F=>(K30.fv F b a (L base)).imp (L3.Eo.imp K30.ee);have A:=λbase=>v.has (P:=PySem.Challenge.rw_clausekeep_k30_trimmed.prog) (w:=w) (mg:=mg) (base:=base) λf fd F=>(K30.fu F c8 r a (d4 base)).imp (L3.pW.imp K30.dZ);have q:=λbase=>p.has (P:=PySem.Challenge.rw_clausekeep_k30_trimmed.prog) (w:=w) (mg:=mg) (base:=base) λf fd F=>(K30.dQ F a (A base)).imp (L3.pW.imp K30.cL);have m:=λbase=>l.has (P:=PySem.Challenge.rw_clausekeep_k30_trimmed.prog) (w:=w) (mg:=mg) (base:=base) λf fd F=>(K30.cd F a).imp (L3.pW.imp K30.bD);have U:=λbase=>S.has (P:=PySem.Challenge.rw_clausekeep_k30_trimmed.prog) (w:=w) (mg:=mg) (base:=base) λf fd F=>(K30.jG F a (m base) (q base)).imp (L3.pW.imp K30.iF);have X:=λbase=>R.has (P:=PySem.Challenge.rw_clausekeep_k30_trimmed.prog) (w:=w) (base:=base) λf fd F=>(K30.jE F a d8 (z base) (U base)).imp (L3.E3.imp K30.iD);have B:=λbase=>t.has (P:=PySem.Challenge.rw_clausekeep_k30_trimmed.prog) (w:=w) (base:=base) λf fd F=>(K30.ft F a8).imp (L3.E3.imp K30.dY);have b6:=λbase=>b3.has (P:=PySem.Challenge.rw_clausekeep_k30_trimmed.prog) (w:=w) (base:=base) λf fd F=>(K30.my F a8 o N (B base)).imp (L3.E3.imp K30.ku);have d5:=λbase=>d2.has (P:=PySem.Challenge.rw_clausekeep_k30_trimmed.prog) (w:=w) (base:=base) λf fd F=>(K30.qr F (X base) (b6 base)).imp (L3.E3.imp K30.oq);exact L2.Ga e7 e8 (λf fd F base _ _=>(K30.BS F E Y (c6 base) (c5 base) (y base) (e5 base) (d5 base) (a6 base) (a5 base)).imp (L3.CM K30.zu))
end K30
theorem PySem.Challenge.cw_clausekeep_k30_trimmed_holds : PySem.Challenge.rw_clausekeep_k30_trimmed.Holds := by
 exact K30.xp
#print axioms PySem.Challenge.cw_clausekeep_k30_trimmed_holds
