import PyProof.Rows.All
import Wide.All
import OpenK.AllK
import Wide.FinOn
import Lean
import PyProof.EqAt
import PyProof.EqKinds
import PyProof.TupleCall
import KE.KDictList
import KE.KDictOf
import KE.KDictSum
import KE.KEqDict
import KE.KMinBuiltin
import KE.KRevIter
import OpenK.KCls
import OpenK.KOwn
import PyProof.AutoSeq1
import PyProof.CollectWalk
import PyProof.DictUpdate
import PyProof.EnumIter
import PyProof.EnumMake
import PyProof.EnumStmt
import PyProof.ExcArgs
import PyProof.ExcBaseAll.ValueError
import PyProof.ExcClass2
import PyProof.ExcInit
import PyProof.FString5
import PyProof.InstStoreFacts
import PyProof.IsInstance
import PyProof.IsiH_list
import PyProof.LayNew
import PyProof.ListRange
import PyProof.NeKinds
import PyProof.NsDelKeeps
import PyProof.Rows.CallKwBuiltin
import PyProof.Rows.Range3
import PyProof.Rows.RuleN_abs
import PyProof.Rows.SetFrom
import PyProof.Rows.SortWalk
import PyProof.Rows.TupAdd
import PyProof.RulesAs
import PyProof.StationsW
import PyProof.TupleIter
import PyProof.TupleOfGen
import PyProof.WalkInts
import PyProof.WalksMore
import PySem.Challenge.RW_clausekeep_k31_whole_core
set_option Elab.async false
set_option bootstrap.genMatcherCode false
set_option linter.all false
set_option maxRecDepth 100000
set_option maxHeartbeats 0
open Array renaming length_toList->C1,getElem?_eq_some_iff->P2,getElem?_toList->X6,getElem?_eq_none->rA,toList->GV
open Bool renaming and_eq_true->k6,false_ne_true->D5,and_eq_true_iff->F3,and_true->Y4,false_and->bL,and_false->fQ,not_false->pj,true_and->rk,or_false->rm,false_eq_true->AI,eq_iff_iff->Eb,not_true->GT,false_or->GU,true_or->IT,or_true->IU
open Classical renaming byContradiction->O7,not_imp->aP,propDecidable->ml,not_forall->pA
open False renaming elim->D1
open Int renaming emod_lt_of_pos->v9,emod_nonneg->y8,zero_add->C9,toNat_natCast->G7,neg_neg->mj,natAbs_neg->GS,ofNat_lt->Jz,add_comm->JA,mul_one->Lp,le_refl->Lq
open Nat renaming le_refl->g8,le_of_ble_eq_true->i5,ne_of_lt->j7,lt_of_lt_of_le->k8,le_trans->l7,lt_irrefl->n0,lt_succ_self->n6,lt_succ_of_lt->o1,ne_of_gt->r0,zero_le->u6,pow_le_pow_right->G4,zero_add->M5,lt_trans->Q6,le_of_lt->Q7,not_lt_zero->eU,le_succ->fU,pow_succ->jM,min_eq_right->lC,le_add_right->lD,min_eq_left->nC,lt_of_sub_eq_succ->xu,lt_of_le_of_lt->AX,succ_le_succ->DZ,le_add_left->GC,sub_self->Jw,le_of_eq->Jx,ble->Jy
open Ne renaming symm->w5
open Option renaming map_eq_some_iff->g7,map_some->r8,isSome_iff_exists->A1,bind_eq_some_iff->A9,isSome_some->aO,isSome->fT,isSome_map->iw,isSome_none->xt,getD_none->AH
open Option.some renaming inj->i9,injEq->ft
open Prod renaming ext->xr,snd->MS
open Prod.mk renaming injEq->Dt,inj->GB
open PyProof.Rows renaming callWith_type1->m4,slot_tuple_getitem->u2,boot_list->bK,envOfC->bM,AllBare->fV,boot_tuple->jL,boot_dict->lx,boot_range->vp,Constant_none->xx,subscriptTail_builtinR->AR,IsTup->Ea,tupleItemsOf_->KY,size_push'->KZ,plain_sorted->La,kind_sorted->Lb,iadd_int->Lc,entry_tuple_getitem->Ld,entry_sorted->Le,callWith_builtin1->Lf,boot_sorted->Lg,boot_isinstance->Lh,boot_int->Li,boot_bool->Lj,boot_any->Lk,boot_all->Ll,boot_abs->Lm,args_tuple_getitem->Ln,args_sorted1->Lo,tail_any->LF,slicePart_none->LG,subscriptTail->Mh
open PyProof.Rows.IsTup renaming new->AY
open PySem renaming wpAny_bind->f7,starEach->f9,wpAny_pure->i3,Builtin->k5,mainGlobals->l5,backTo->l8,keywordEach->o7,wpAny_Call_Name_kw->t9,wpAny_field->u4,sizeLine_eq->u5,compareOp->v7,wpAny_holding->v8,behindInMarks->y4,attributeBase->y7,wpAny_mono->z5,backToKw->z6,cLine->B3,wpAny_newObj_type->C5,builtinLookup_eq_fast->F2,codeAny_builtin->I9,wpAny_truthy_bool->J3,wpAny_pyIter_list->K3,bootBuiltins->K4,wpAny_setField_rec->O0,sysModules->O1,wpAny_passesOwn->P0,importedModules->P1,wpAny_typeOf->S7,swapsWith->S8,plainId_quiet->U7,typeLookup_type->W1,holding->W2,tupleKind_room_in1->W7,wpAny_callSpecial?_slot->X5,codeAny_mono->Y1,codeAny->Y2,wpAny_call_entry->aJ,typeLookup->aK,sliceBounds->bp,lookup_relabel_local->bq,codeAny_call_builtin->br,binaryOp->dh,getItem->fS,wpAny_loadPart'->hB,wpAny_execs_nil->hF,letOwnedTupleGo->hG,wpAny_pyIter_revIter->iX,tupleKind->jn,callerA->jo,wpAny_standAt->lw,assign->lB,valueAt->nA,bindArgs->nB,treeTable->pv,merged_length_le->pw,IsRangeIter->rj,standAt->tK,spliced->tL,relabel->tM,ItemsOf->tN,BindsTo->tP,wpAny_setField->vk,sliceRange->vl,call_meets->vn,callType_codes->vo,atKey->vr,Result->vt,getMethod->AD,bindL->AF,bindC->AG,wpAny_pyNext_range_end->AN,wpAny_pyNext_list_item->AO,wpAny_pyIter_rangeiter->AQ,stored->AS,seqIndex_neg->AT,merged->AU,isTrue->AV,call_meetsIn->AW,wpAny_pyNext_list_end->Dq,wpAny_notOrdered_dict->Dr,wpAny_isTrue_Compare1->Ds,wpAny_loadName_local->DS,slicePicked->DT,seqIndex_of->DU,getAttr?->DW,callWith->DY,wpAny_loadName_cell->Gy,wpAny_dictSet_pairs->Gz,wpAny_rule->GJ,wpAny_pyIter_range->GK,wpAny_load->GL,wpAny_call->GM,wpAny_Name->GN,wpAny_Constant_int->GO,typeIs_str->GP,call_reversed_list->GQ,builtinsNs->GR,wpAny_sequenceKey->IM,wpAny_assign_Name->IN,slot_list_getitem->IP,setItem->IQ,wpAny_isInstance->Jo,wpAny_execs_cons->Jp,stored_length_le->Jq,storeName->Jr,inplaceOp->Js,checkBuiltinCall->Jt,PassesOwn->Jv,wpAny_specialOf->KB,pushCells_keeps->KC,codeAny_of_tree->KD,wpAny_tryCatch->LD,setField->LH,recursionLimit->LI,raiseAttrError->LJ,pyIter->LK,newFunctionEnv->LN,isSubtype_type->LP,field->LQ,wpAny_attempt->Me,swapsWithSole->Mf,swappedStores->Mg,rangeSize_one->Mi,intBits_le_64->Mj,fenceModules?->Ml,evalPart_none->Mm,comprehension->Mn,call_list_seq->Mo,unaryOp->MT,newList->MX,name_of_addr->MY,getAttr->MZ,call_range_2->Na,IsRange->Nb
open PySem.Around renaming under_plainId->A4,under->rn
open PySem.Builtin.Dict renaming updateFrom->Q0,selfAndRest->jq,addKeywords->jr,pairItems->ly
open PySem.Builtin.List renaming listExtendWith->hU,listSameRef->jp,listLengthHint->Lr,listFitsIndex->Ls
open PySem.Builtin.Range renaming rangeSize->P9,rangeFitsLong->hH,small->mn
open PySem.Builtin.Slice renaming slicePlaces->M9,sliceAdjust->Y3,sliceApplied->hR,slicePartIndex->JD,sliceFields->JE
open PySem.Builtin.SmallTypes renaming ownedTupleIsFree->bN,ownedTupleHandOut->Du
open PySem.Builtin.Str renaming occurrences->A2,strSliceIndices->X8
open PySem.Builtin.Tuple renaming tupleExact->x5,tupleItemsOf->hP,tupleIsExact->JC
open PySem.Calls renaming spliced_cons->S9,spliced_nil->U8,Name_function_global->nE,callWith_builtin->rq,evalArgs_plain->vu
open PySem.Code renaming isFrame->tO,frames->JB
open PySem.DictEntry renaming refKey->Nc
open PySem.EntryCells renaming newEntry->pz
open PySem.IsRange renaming new->rp
open PySem.SeqAt renaming EqAt->X7,RcNeAt->dr,RcAt->hJ
open PySem.SeqAt.EqAt renaming same->iv,of_refs->ri,tuple_none->ME,str_str->MF,str_none->MG,str_int->MH,none_str->MI,none_int->MJ,none_bool->MK,list_none->ML,int_str->MM,int_none->MN,int_int->MO,bool_none->MP,bool_bool->MQ
open PySem.SeqAt.RcAt renaming tuples->Mp,tuple_none->Mq,str_str->Mr,str_none->Ms,none_str->Mt,none_none->Mu,none_int->Mv,none_bool->Mw,lists_lengths->Mx,lists->My,list_none->Mz,int_none->MA,int_int->MB,bool_none->MC,bool_bool->MD
open PySem.SeqAt.RcNeAt renaming tuples->KF,tuple_none->KG,str_str->KH,str_none->KI,none_str->KJ,none_none->KL,none_int->KM,none_bool->KN,lists_lengths->KP,lists->KQ,list_none->KR,int_none->KS,int_int->KU,bool_none->KW,bool_bool->KX
open PySem.W renaming boot_heap->C6,namesBound->vm,boot_drawn->vq,boot_toks->AE,laidKept->DV,gensDone->DX,openSeen->LL,openGood->LM,keepIn->LO,topStub->MU,topFrom->MV,through->MW
open PySem.W.WShape renaming has->IS
open PySem.Walks renaming range->IR,list->Ju
open Sum.inl renaming inj->GA
namespace L2
open PySem PySem.Spec PyProof.Rows
noncomputable abbrev Key:=Sum Int Str
noncomputable def gL:Key→Value→Bool
 |.inl k,v=>Value.isInt k v
 |.inr x,v=>Value.isStrOf x v
noncomputable def Kf (w:World):Key→Int
 |.inl k=>hashInt k
 |.inr x=>hashStr w x
theorem x3:∀{k:Key} {v:Value},gL k v=true→(∃i t,k=Sum.inl i∧v=Value.int i t)∨(∃x t,k=Sum.inr x∧v=Value.str x t)
 |.inl i,v,h=>by
  obtain⟨t,e⟩:=Value.isInt_shape (k:=i) (v:=v) h;exact .inl ⟨i,t,rfl,e⟩
 |.inr x,v,h=>by
  obtain⟨t,e⟩:=Value.isStrOf_shape (x:=x) (v:=v) h;exact .inr ⟨x,t,rfl,e⟩
theorem wx (i:Int)(t:Tok):gL (.inl i) (.int i t)=true:=by simp[gL,Value.isInt]
theorem ww (x:Str)(t:Tok):gL (.inr x) (.str x t)=true:=by simp[gL,Value.isStrOf]
theorem FB (a b:Int):decide ((Sum.inl a:Key)=Sum.inl b)=(a==b):=by
 by_cases e:a=b
 ·subst e;simp
 ·have h:¬(Sum.inl a:Key)=Sum.inl b:=λq=>e (GA q);rw[decide_eq_false h];exact(beq_eq_false_iff_ne.mpr e).symm
theorem Fy (a b:Str):decide ((Sum.inr a:Key)=Sum.inr b)=decide (a=b):=by
 by_cases e:a=b
 ·subst e;simp
 ·have h:¬(Sum.inr a:Key)=Sum.inr b:=λq=>e (Sum.inr.inj q);rw[decide_eq_false h,decide_eq_false e]
theorem FA (a:Int)(b:Str):decide ((Sum.inl a:Key)=Sum.inr b)=false:=decide_eq_false (λq=>nomatch q)
theorem Fz (a:Str)(b:Int):decide ((Sum.inr a:Key)=Sum.inl b)=false:=decide_eq_false (λq=>nomatch q)
noncomputable def u1 (prog:Program)(w:World):PySem.KeyKind prog w Key where
 is:=gL
 hash:=Kf w
 inj:=λv a b g f=>by
  rcases x3 g with⟨i,t,rfl,rfl⟩ | ⟨x,t,rfl,rfl⟩
  ·rcases x3 f with⟨j,u,rfl,e⟩ | ⟨y,u,rfl,e⟩
   ·injection e with c _;rw[c]
   ·exact nomatch e
  ·rcases x3 f with⟨j,u,rfl,e⟩ | ⟨y,u,rfl,e⟩
   ·exact nomatch e
   ·injection e with c _;rw[c]
 byValue:=λk v h=>by
  rcases x3 h with⟨i,t,rfl,rfl⟩ | ⟨x,t,rfl,rfl⟩<;>rfl
 pyHash:=λd h=>by
  rcases x3 d with⟨i,t,rfl,rfl⟩ | ⟨x,t,rfl,rfl⟩
  ·exact wpAny_pyHash_int h
  ·exact wpAny_pyHash_str h
 eqBool:=λl d h=>by
  rcases x3 l with⟨i,t,rfl,rfl⟩ | ⟨x,t,rfl,rfl⟩
  ·rcases x3 d with⟨j,u,rfl,rfl⟩ | ⟨y,u,rfl,rfl⟩
   ·rw[FB]at h;exact wpAny_eqBool_int h
   ·rw[FA]at h;exact MM i t y u _ _ _ _ h
  ·rcases x3 d with⟨j,u,rfl,rfl⟩ | ⟨y,u,rfl,rfl⟩
   ·rw[Fz]at h;exact MH x t j u _ _ _ _ h
   ·rw[Fy]at h;exact wpAny_eqBool_str h
 «strs»:=λk x t v h=>by
  rcases x3 h with⟨i,u,rfl,e⟩ | ⟨y,u,rfl,e⟩
  ·exact nomatch e
  ·injection e with c _;subst c;cases v<;>rfl
theorem qo (prog:Program)(w:World)(i:Int)(t:Tok):(u1 prog w).is (.inl i) (.int i t)=true:=wx i t
theorem qm (prog:Program)(w:World)(x:Str)(t:Tok):(u1 prog w).is (.inr x) (.str x t)=true:=ww x t
inductive V where
 |v1|bl (b:Bool) |int (i:Int) |str (x:Str) |byt (b:Array UInt8) |flt (b:UInt64) |ref (a:Addr) |ty (n:String)
 deriving DecidableEq
noncomputable def RelV:V→Value→Prop
 |.v1,u=>u=Value.none
 |.bl b,u=>u=Value.bool b
 |.int i,u=>∃t,u=Value.int i t
 |.str x,u=>∃t,u=Value.str x t
 |.byt b,u=>∃t,u=Value.bytes b t
 |.flt b,u=>∃t,u=Value.float b t
 |.ref a,u=>u=Value.ref a
 |.ty n,u=>u=Value.type n
noncomputable abbrev Vals:List V→List Value→Prop:=Paired RelV
theorem Vals.length {xs:List V}{us:List Value}(r:Vals xs us):xs.length=us.length:=Paired.length r
theorem Vals.get:∀{xs:List V} {us:List Value} {i:Nat} {x:V},Vals xs us→xs[i]?=some x→∃u,us[i]?=some u∧RelV x u
 |_,_,_,_,.nil,e=>by simp at e
 |_,_,0,_,.cons r _,e=>by simp at e;subst e;exact⟨_,rfl,r⟩
 |_,_,i+1,x,.cons _ t,e=>by
  obtain⟨u,a,b⟩:=Vals.get (i:=i) (x:=x) t (by simpa using e);exact⟨u,by simpa using a,b⟩
theorem Vals.set {x:V}{u:Value}(r:RelV x u):∀{xs:List V} {us:List Value} (i:Nat),Vals xs us→Vals (xs.set i x) (us.set i u)
 |_,_,_,.nil=>.nil
 |_,_,0,.cons _ t=>.cons r t
 |_,_,i+1,.cons q t=>.cons q (Vals.set r i t)
theorem Vals.append:∀{xs a:List V} {us b:List Value},Vals xs us→Vals a b→Vals (xs++a) (us++b)
 |_,_,_,_,.nil,s=>s
 |_,_,_,_,.cons r t,s=>.cons r (Vals.append t s)
theorem Vals.take:∀{xs:List V} {us:List Value} (n:Nat),Vals xs us→Vals (xs.take n) (us.take n)
 |_,_,0,_=>.nil
 |_,_,_+1,.nil=>.nil
 |_,_,n+1,.cons r t=>.cons r (Vals.take n t)
theorem Vals.drop:∀{xs:List V} {us:List Value} (n:Nat),Vals xs us→Vals (xs.drop n) (us.drop n)
 |_,_,0,r=>r
 |_,_,_+1,.nil=>.nil
 |_,_,n+1,.cons _ t=>Vals.drop n t
noncomputable def ck:Option V→Option Value→Prop
 |some v,some u=>RelV v u
 |none,none=>True
 |_,_=>False
noncomputable def KV {a:Type}:List (a×V)→List (a×Value)→Prop:=Paired λ(p:a×V) (q:a×Value)=>p.1=q.1∧RelV p.2 q.2
noncomputable def kV:Key→V
 |.inl i=>.int i
 |.inr x=>.str x
inductive HO where
 
 |lst (xs:List V)
 
 |tup (xs:List V)
 
 |dK (kvs:List (Key×V)) |dT (kvs:List (List Key×V))
 
 |set (S:Int→Bool) (n:Nat)
 
 |ins (C dx:Addr) (fs:List (Str×V))
 
 |own (x:Addr)
 
 |xd (fs:List (Str×V))
 
 |met (f x:Addr)
 
 |rng (lo hi:Int)
 
 |cn (o:Obj) (u:HO)
 
 |tbl (ps:Array Value)
 
 |ext (φ:Heap→Prop)
noncomputable abbrev Hp:=Addr→Option HO
noncomputable def upd (H:Hp)(a:Addr)(o:HO):Hp:=λb=>if b=a then some o else H b
theorem l9 {H:Hp}{a:Addr}{o:HO}:upd H a o a=some o:=by unfold upd;rw[if_pos rfl]
theorem j6 {H:Hp}{a b:Addr}{o:HO}(h:b≠a):upd H a o b=H b:=by unfold upd;rw[if_neg h]
theorem HQ {H:Hp}{a b:Addr}{o u:HO}(h:H a=some o)(h':H b=some u)(d:o≠u):a≠b:=by
 intro e;subst e;rw[h]at h';exact d (i9 h')
theorem t8 {H:Hp}{a b:Addr}{o:HO}(h:H a=some o)(h':H b=none):a≠b:=by
 intro e;subst e;rw[h]at h';cases h'
section
variable (P:Program)(w:World)
noncomputable def I7 (H:Hp)(h:Heap)(a:Addr):HO→Prop
 |.lst xs=>xs.length≤sizeLine∧∃(b:List Value) (n:Nat),Vals xs b∧h.get? a=some {cls:=.type "list",data:=.seq b.toArray n}
 |.tup xs=>xs.length≤sizeLine∧∃b:List Value,Vals xs b∧Ea h a b.toArray
 |.dK kvs=>kvs.length≤sizeLine∧(a==O1)=false∧∃vs,KV kvs vs∧h.DictOf (u1 P w) a vs
 |.dT kvs=>kvs.length≤sizeLine∧(a==O1)=false∧∃xs:List (List Key×Addr×Value),
   Paired (λ(p:List Key×V) (q:List Key×Addr×Value)=>p.1=q.1∧H q.2.1=some (.tup (p.1.map kV))∧RelV p.2 q.2.2) kvs xs∧
   ∃o es e,h.get? a=some o∧o.ExactDict∧o.data=.dict es e∧es.toList=xs.map (entryOfKey (jn (u1 P w)))∧(xs.map (·.1)).Nodup
 |.set S n=>h.SetOf (intKind P w) a S n
 |.ins C dx fs=>H dx=some (.own a)∧fs.length≤1000∧dx≠a∧h.get? a=some (PySem.W.instObj C dx)∧
   ∃mA,h.Ns1 dx mA∧(∀f,ck (fs.lookup f) (mA f))∧PySem.Within mA (fs.map (·.1))
 |.own _=>∃o,h.get? a=some o
 |.xd fs=>∃mA,h.Ns1 a mA∧∀f,ck (fs.lookup f) (mA f)
 |.rng lo hi=>∃t u v,h.get? a=some {cls:=.type "range",data:=.fields #[.int lo t,.int hi u,.int 1 v]}
 |.cn o u=>h.get? a=some o∧I7 H h a u
 |.tbl ps=>h.get? a=some {cls:=.none,data:=.fields ps}
 |.met f x=>h.get? a=some (PySem.W.methodObj (.ref f) (.ref x))
 |.ext φ=>φ h∧(∃o,h.get? a=some o)∧∀c d:Heap,φ c→(∀o,c.get? a=some o→d.get? a=some o)→φ d
def eM (H:Hp)(h:Heap):Prop:=∀a o,H a=some o→I7 P w H h a o
end
section
variable {P:Program}{w:World}{H H':Hp}{h h':Heap}{a:Addr}{o:HO}
theorem I7.lt (x:I7 P w H h a o):a<h.objs.size:=by
 cases o with
 |lst xs=>obtain⟨_,_,_,_,e⟩:=x;exact Heap.lt_size e
 |tup xs=>obtain⟨_,_,_,p⟩:=x;exact p.lt
 |dK kvs=>obtain⟨_,_,_,_,o,_,_,e,_⟩:=x;exact Heap.lt_size e
 |dT kvs=>obtain⟨_,_,_,_,o,_,_,e,_⟩:=x;exact Heap.lt_size e
 |set S n=>obtain⟨o,_,_,_,e,_⟩:=x;exact Heap.lt_size e
 |ins C dx fs=>obtain⟨_,_,_,e,_⟩:=x;exact Heap.lt_size e
 |own y=>obtain⟨_,e⟩:=x;exact Heap.lt_size e
 |xd fs=>obtain⟨_,⟨_,_,_,e,_⟩,_⟩:=x;exact Heap.lt_size e
 |rng lo hi=>obtain⟨_,_,_,e⟩:=x;exact Heap.lt_size e
 |cn ob u=>obtain⟨e,_⟩:=x;exact Heap.lt_size e
 |tbl ps=>exact Heap.lt_size (show h.get? a=some _ from x)
 |met f y=>exact Heap.lt_size (show h.get? a=some _ from x)
 |ext φ=>obtain⟨_,⟨_,e⟩,_⟩:=x;exact Heap.lt_size e
theorem Paired.yN {α e:Type}{F G:α→e→Prop}:∀{c:List α} {d:List e},Paired F c d→(∀a b,F a b→G a b)→Paired G c d
 |_,_,.nil,_=>.nil
 |_,_,.cons r t,f=>.cons (f _ _ r) (Paired.yN t f)
theorem Paired.imp' {α e:Type}{F G:α→e→Prop}(f:∀a b,F a b→G a b){c:List α}{d:List e}(r:Paired F c d):Paired G c d:=Paired.yN r f
theorem I7.stay (x:I7 P w H h a o)(k:∀b u,(b=a∨H b=some (.own a))→h.get? b=some u→h'.get? b=some u)
  (j:∀b,H b=some (.own a)→H' b=some (.own a)) (l:∀b xs,H b=some (.tup xs)→H' b=some (.tup xs)):I7 P w H' h' a o:=by
 induction o with
 |lst xs=>obtain⟨z,i,n,r,e⟩:=x;exact⟨z,i,n,r,k _ _ (.inl rfl) e⟩
 |tup xs=>obtain⟨z,i,r,ob,e,c⟩:=x;exact⟨z,i,r,ob,k _ _ (.inl rfl) e,c⟩
 |dK kvs=>obtain⟨z,y,vs,r,ob,es,g,e,c⟩:=x;exact⟨z,y,vs,r,ob,es,g,k _ _ (.inl rfl) e,c⟩
 |dT kvs=>
  obtain⟨z,y,xs,r,ob,es,g,e,c⟩:=x;exact⟨z,y,xs,Paired.yN r λp q z=>⟨z.1,l _ _ z.2.1,z.2.2⟩,ob,es,g,k _ _ (.inl rfl) e,c⟩
 |set S n=>obtain⟨ob,es,g,t,e,c⟩:=x;exact⟨ob,es,g,t,k _ _ (.inl rfl) e,c⟩
 |ins C dx fs=>
  obtain⟨d,z,ne,e,mA,⟨od,es,g,m,c⟩,r⟩:=x;exact⟨j _ d,z,ne,k _ _ (.inl rfl) e,mA,⟨od,es,g,k _ _ (.inr d) m,c⟩,r⟩
 |own y=>obtain⟨ob,e⟩:=x;exact⟨ob,k _ _ (.inl rfl) e⟩
 |xd fs=>obtain⟨mA,⟨od,es,g,e,c⟩,r⟩:=x;exact⟨mA,⟨od,es,g,k _ _ (.inl rfl) e,c⟩,r⟩
 |rng lo hi=>obtain⟨t,u,v,e⟩:=x;exact⟨t,u,v,k _ _ (.inl rfl) e⟩
 |cn ob u ih=>obtain⟨e,q⟩:=x;exact⟨k _ _ (.inl rfl) e,ih q⟩
 |tbl ps=>
  have e:h.get? a=some {cls:=.none,data:=.fields ps}:=x;show h'.get? a=some {cls:=.none,data:=.fields ps};exact k a _ (.inl rfl) e
 |met f y=>
  have e:h.get? a=some (PySem.W.methodObj (.ref f) (.ref y)):=x;show h'.get? a=some (PySem.W.methodObj (.ref f) (.ref y));exact k a _ (.inl rfl) e
 |ext φ=>obtain⟨p,⟨o,e⟩,st⟩:=x;exact⟨st _ _ p λo q=>k _ _ (.inl rfl) q,⟨o,k _ _ (.inl rfl) e⟩,st⟩
theorem eM.lt (x:eM P w H h)(e:H a=some o):a<h.objs.size:=(x a o e).lt
theorem eM.fresh (x:eM P w H h)(e:h.objs.size≤a):H a=none:=by
 cases q:H a with
 |none=>rfl
 |some u=>exact absurd (k8 (x.lt q) e) (n0 _)
theorem eM.kept (x:eM P w H h)(k:∀b u,h.get? b=some u→h'.get? b=some u):eM P w H h':=λa o e=>
 (x a o e).stay (λb u _ q=>k b u q) (λ_ q=>q) λ_ _ q=>q
theorem eM.laid (x:eM P w H h)(k:∀b u,h.get? b=some u→h'.get? b=some u)(g:h.objs.size≤a)(new:I7 P w (upd H a o) h' a o):eM P w (upd H a o) h':=λb u e=>by
 have d:=x.fresh g;by_cases f:b=a
 ·subst f;rw[l9]at e;cases e;exact new
 ·rw[j6 f]at e;exact(x b u e).stay (λc v _ q=>k c v q) (λc q=>by rw[j6 (t8 q d)];exact q) λc xs q=>by rw[j6 (t8 q d)];exact q
end
def Rd (H:Hp)(a:Addr)(u:HO):Prop:=H a=some u∨∃o,H a=some (.cn o u)
theorem Rd.ok {P:Program}{w:World}{H:Hp}{h:Heap}{a:Addr}{u:HO}(r:Rd H a u)(x:eM P w H h):I7 P w H h a u:=by
 rcases r with r| ⟨o,r⟩
 ·exact x a u r
 ·obtain⟨_,q⟩:=x a _ r;exact q
noncomputable def IE:Option HO→Prop
 |some (.lst _)=>True
 |some (.dK _)=>True
 |some (.dT _)=>True
 |some (.set _ _)=>True
 |some (.ins _ _ _)=>True
 |some (.ext _)=>True
 |_=>False
section
variable {P:Program}{w:World}{H:Hp}{h h':Heap}{x e:Addr}{o':HO}
theorem eM.write (ok:eM P w H h)(mu:IE (H x))(l:e=x∨H e=some (.own x))(k:∀b u,b≠e→h.get? b=some u→h'.get? b=some u)(j:∃u,h'.get? e=some u)
  (new:I7 P w (upd H x o') h' x o'):eM P w (upd H x o') h':=λb u q=>by
 have d:∀c y,H c=some (.own y)→c≠x:=λc y r z=>by subst z;rw[r]at mu;exact mu
 have f:∀c xs,H c=some (.tup xs)→c≠x:=λc xs r z=>by subst z;rw[r]at mu;exact mu
 by_cases g:b=x
 ·subst g;rw[l9]at q;cases q;exact new
 ·rw[j6 g]at q;by_cases a:b=e
  ·have m:H b=some (.own x):=by
    rcases l with z|z
    ·exact absurd (a.trans z) g
    ·rw[a];exact z
   rw[q]at m;cases m;obtain⟨v,n⟩:=j;exact⟨v,by rw[a];exact n⟩
  ·refine(ok b u q).stay (λc v i r=>k c v ?_ r) (λc r=>by rw[j6 (d c b r)];exact r) λc xs r=>by rw[j6 (f c xs r)];exact r
   rcases i with rfl|i
   ·exact a
   ·rintro rfl
    rcases l with z|z
    ·exact d c b i z
    ·rw[i]at z;cases z;exact g rfl
end
structure Un (fs ex:List Addr) (H H':Hp) (h h':Heap):Prop where
 keep:∀b o,h.get? b=some o→H b=none→b∉fs→b∉ex→h'.get? b=some o
 slot:∀b o,h.get? b=some o→H b=none→b∈fs→b∉ex→∃sl,h'.get? b=some {o with slots:=sl}
 free:∀b o,h.get? b=some o→H b=none→b∉ex→H' b=none
 there:∀b o,h.get? b=some o→b∉ex→∃o',h'.get? b=some o'
 tups:∀b xs,H b=some (.tup xs)→H' b=some (.tup xs)
 frzs:∀b o u,H b=some (.cn o u)→H' b=some (.cn o u)
 tbls:∀b ps,H b=some (.tbl ps)→∃more,H' b=some (.tbl (ps++more))
section
variable {fs fs' ex ex':List Addr}{H H1 H2:Hp}{h h1 h2 h':Heap}{a x e:Addr}{o:HO}
theorem Un.any (u:Un fs ex H H1 h h1){b:Addr}{ob:Obj}(q:h.get? b=some ob)(n:H b=none)(a:b∉ex):∃sl,h1.get? b=some {ob with slots:=sl}:=by
 by_cases c:b∈fs
 ·exact u.slot b ob q n c a
 ·exact⟨ob.slots,u.keep b ob q n c a⟩
theorem Un.kept (k:∀b u,h.get? b=some u→h'.get? b=some u):Un fs ex H H h h':=
 ⟨λb ob q _ _ _=>k b ob q,λb ob q _ _ _=>⟨ob.slots,k b ob q⟩,λ_ _ _ n _=>n,λb ob q _=>⟨ob,k b ob q⟩,λ_ _ q=>q,λ_ _ _ q=>q,λ_ ps q=>⟨#[],by rw[q];simp⟩⟩
theorem Un.refl:Un fs ex H H h h:=Un.kept λ_ _ q=>q
theorem Un.laid (k:∀b u,h.get? b=some u→h'.get? b=some u)(d:h.objs.size≤a)(c:H a=none):Un fs ex H (upd H a o) h h' where
 keep:=λb u q _ _ _=>k b u q
 slot:=λb u q _ _ _=>⟨u.slots,k b u q⟩
 free:=λb u q n _=>by rw[j6 (j7 (k8 (Heap.lt_size q) d))];exact n
 there:=λb u q _=>⟨u,k b u q⟩
 tups:=λb xs q=>by rw[j6 (t8 q c)];exact q
 frzs:=λb u xs q=>by rw[j6 (t8 q c)];exact q
 tbls:=λb ps q=>⟨#[],by rw[j6 (t8 q c),q];simp⟩
theorem Un.write (mu:IE (H x))(i:e=x∨H e=some (.own x))(k:∀b u,b≠e→h.get? b=some u→h'.get? b=some u)(c:∃u,h'.get? e=some u):Un fs ex H (upd H x o) h h':=by
 have f:∀b,H b=none→b≠x:=λb n z=>by subst z;rw[n]at mu;exact mu
 have g:∀b,H b=none→b≠e:=λb n z=>by
  subst z;rcases i with r|r
  ·exact f b n r
  ·rw[n]at r;cases r
 have d:∀b u,H b=some u→¬IE (some u)→b≠x:=λb u q j z=>by subst z;rw[q]at mu;exact j mu
 refine⟨λb u q n _ _=>k b u (g b n) q,λb u q n _ _=>⟨u.slots,k b u (g b n) q⟩,λb u q n _=>by rw[j6 (f b n)];exact n,λb u q _=>?_,
  λb xs q=>by rw[j6 (d b _ q λz=>z)];exact q,λb u xs q=>by rw[j6 (d b _ q λz=>z)];exact q,λb ps q=>⟨#[],by rw[j6 (d b _ q λz=>z),q];simp⟩⟩
 by_cases a:b=e
 ·subst a;exact c
 ·exact⟨u,k b u a q⟩
end
noncomputable def IY (h:Heap)(H:Hp):List Addr:=(List.range h.objs.size).filter λa=>(H a).isSome
noncomputable def oH (h:Heap)(H:Hp):Heap:=PySem.W.hideAll h (IY h H)
theorem wK (h:Heap)(H:Hp):(oH h H).objs.size=h.objs.size:=PySem.W.hideAll_size _ _
theorem zB {h:Heap}{H:Hp}{b:Addr}{o:Obj}(e:h.get? b=some o)(n:H b=none):(oH h H).get? b=some o:=
 PySem.W.hideAll_get _ e λa=>by
  have q:(H b).isSome=true:=(List.mem_filter.mp a).2;rw[n]at q;simp at q
theorem Cd {h:Heap}{H:Hp}{b:Addr}{o:Obj}(e:(oH h H).get? b=some o):h.get? b=some o∧H b=none:=by
 have a:h.get? b=some o:=PySem.W.of_hideAll (IY h H) e;refine⟨a,?_⟩;cases q:H b with
 |none=>rfl
 |some x=>
  have c:b∈IY h H:=List.mem_filter.mpr ⟨List.mem_range.mpr (Heap.lt_size a),by simp[q]⟩;have z:(oH h H).get? b=none:=PySem.W.hideAll_none (IY h H) c;rw[z]at e;cases e
structure Mod (K:PySem.W.Frag) (mg:Str→Option Value) (base:Heap):Prop where
 kin:K.In base
 glob:base.Ns l5 mg
 blt:∃mb,base.Ns GR mb∧∀x:Str,x≠"__name__"→mb x=K4 x
 nolimit:base.NoLimit
structure Cx where
 prog:Program
 w:World
 K:PySem.W.Frag
 mg:Str→Option Value
 base:Heap
 A:Around
 N:List Str
 s₀:Shared
 H₀:Hp
 env:Env
 outer:List Env
 stack:List Env
 ex:List Addr
 fn:Str→Bool
 calm:Bool
 pn:List (Addr×Obj)
 xe:Value→Shared→Prop
noncomputable def frs (l:List Env):List Addr:=l.filterMap (·.frame)
noncomputable abbrev Cx.fs (X:Cx):List Addr:=frs X.outer
def eR (sc:Scope)(x:Str):Prop:=sc.names.lookup x=some .local∨sc.names.lookup x=some .cell∨sc.names.lookup x=some .free
def Loc (sc:Scope)(x:Str):Prop:=sc.names.lookup x=some .local∨sc.names.lookup x=some .cell
def Look (env:Env)(h:Heap)(m:Str→Option Value)(x:Str)(u:Value):Prop:=
 (env.kindOf x=some .local∧m x=some u)∨((env.kindOf x=some .cell∨env.kindOf x=some .free)∧∃c,env.cells.lookup x=some c∧h.IsCell c (some u))
structure Cx.Ok (X:Cx):Prop where
 mod:Mod X.K X.mg X.base
 kind:X.env.scope.kind=.function
 glob:X.env.globals=l5
 blt:X.env.builtins=GR
 above:X.s₀.heap.objs.size≤X.env.locals
 inj:∀x y c,X.env.cells.lookup x=some c→X.env.cells.lookup y=some c→x=y
 has:∀x,(X.env.kindOf x=some .cell∨X.env.kindOf x=some .free)→∃c,X.env.cells.lookup x=some c
 cab:∀x c,X.fn x=true→X.env.cells.lookup x=some c→X.s₀.heap.objs.size≤c
 hd:X.calm=true→X.A.handled=none
 frames:X.A.frames=some X.stack
 stk:X.stack=X.outer∨(X.stack=X.env::X.outer∧X.env.frame=some X.env.locals)
 exf:∀b∈X.ex,b≠X.env.locals∧∀x c,X.env.cells.lookup x=some c→c≠b
 bs:∀b o,X.base.get? b=some o→X.s₀.heap.get? b=some o∧X.H₀ b=none
 bsz:X.base.objs.size≤X.s₀.heap.objs.size
 noex:∀b o,X.base.get? b=some o→b∉X.ex
 exfs:∀b∈X.ex,b∉X.fs
 gQ:X.s₀.heap.FunFrames X.base X.outer
 frf:∀b∈X.fs,X.H₀ b=none
structure Inv (X:Cx) (pins:List (Addr×Obj)) (σ:List (Option V)) (H:Hp) (s:Shared):Prop where
 ok:X.Ok
 os:s.os=X.s₀.os
 bare:fV s.gens
 base:Un X.fs X.ex X.H₀ H X.s₀.heap s.heap
 loc:∃m,s.heap.Ns X.env.locals m∧∀(i:Nat) (x:Str) (v:V),X.N[i]?=some x→σ[i]?=some (some v)→eR X.env.scope x→∃u,RelV v u∧Look X.env s.heap m x u
 cell:∀x c,X.env.cells.lookup x=some c→∃v,s.heap.IsCell c v
 free:H X.env.locals=none
 freeC:∀x c,X.env.cells.lookup x=some c→H c=none
 pin:∀p∈X.pn++pins,s.heap.get? p.1=some p.2∧H p.1=none∧p.1≠X.env.locals∧p.1∉X.fs∧∀v,p.2.data≠.cell v
 hok:eM X.prog X.w H s.heap
 len:σ.length=X.N.length
section
variable {X:Cx}{pins:List (Addr×Obj)}{σ:List (Option V)}{H H':Hp}{s:Shared}{h':Heap}
theorem Cx.Ok.Kd (ok:X.Ok){b:Addr}{o:Obj}(e:X.base.get? b=some o):b∉X.fs:=λa=>by
 have:=(ok.gQ.mem a).1;rw[e]at this;cases this
theorem Inv.bs (I:Inv X pins σ H s):∀b o,X.base.get? b=some o→s.heap.get? b=some o∧H b=none:=λb o e=>
 ⟨I.base.keep b o (I.ok.bs b o e).1 (I.ok.bs b o e).2 (I.ok.Kd e) (I.ok.noex b o e),I.base.free b o (I.ok.bs b o e).1 (I.ok.bs b o e).2 (I.ok.noex b o e)⟩
theorem Inv.bk (I:Inv X pins σ H s):∀b o,X.base.get? b=some o→s.heap.get? b=some o:=λb o e=>(I.bs b o e).1
theorem Inv.mod (I:Inv X pins σ H s):Mod X.K X.mg X.base:=I.ok.mod
theorem Inv.mQ (I:Inv X pins σ H s):X.K.In s.heap:=I.ok.mod.kin.keeps I.bk
theorem Inv.fr (I:Inv X pins σ H s):∃m,Fr X.base X.env.locals s.heap m:=
 let⟨m,a,_⟩:=I.loc
 ⟨m,a,I.bk,l7 I.ok.bsz I.ok.above⟩
theorem Inv.lt (I:Inv X pins σ H s):X.env.locals<s.heap.objs.size:=let⟨_,a,_⟩:=I.loc;a.lt
theorem Inv.sz (I:Inv X pins σ H s):X.s₀.heap.objs.size≤s.heap.objs.size:=l7 I.ok.above (Q7 I.lt)
theorem Inv.Fl (I:Inv X pins σ H s){a:Addr}(h:s.heap.objs.size≤a):a∉X.fs:=λb=>by
 obtain⟨_,o,c,_⟩:=I.ok.gQ.mem b;exact absurd (k8 (Heap.lt_size c) (l7 I.sz h)) (n0 _)
theorem Inv.Ae (I:Inv X pins σ H s):∀x c,X.env.cells.lookup x=some c→c≠X.env.locals:=λx c e z=>by
 obtain⟨v,o,d,hd⟩:=I.cell x c e;obtain⟨m,⟨o',es,f,a,b,_⟩,_⟩:=I.loc;rw[z,a]at d;cases d;rw[b]at hd;cases hd
theorem Inv.gQ (I:Inv X pins σ H s):s.heap.FunFrames X.base X.outer:=by
 have all:∀(l:List Env),(∀b∈frs l,b∈X.fs)→X.s₀.heap.FunFrames X.base l→s.heap.FunFrames X.base l:=by
  intro l;induction l with
  |nil=>intro _ _;trivial
  |cons env r ih=>
   intro hs hl;obtain⟨hk,⟨L,o,a,f,g,hd⟩,hr⟩:=hl;have c:L∈X.fs:=hs L (by unfold frs;rw[List.filterMap_cons,a];exact List.mem_cons_self);obtain⟨sl,e⟩:=I.base.slot L o g (I.ok.frf L c) c λz=>I.ok.exfs L z c;exact⟨hk,⟨L,_,a,f,e,hd⟩,ih (λb d=>hs b (by unfold frs;rw[List.filterMap_cons,a];exact List.mem_cons_of_mem _ d)) hr⟩
 exact all X.outer (λ_ d=>d) I.ok.gQ
theorem Inv.stack (I:Inv X pins σ H s):s.heap.FunFrames X.base X.stack:=by
 rcases I.ok.stk with e| ⟨e,a⟩
 ·rw[e];exact I.gQ
 ·rw[e];obtain⟨m,b,_⟩:=I.loc;refine .cons (by rw[I.ok.kind];decide) a b ?_ I.gQ;exact Heap.get?_none_of_le (l7 I.ok.bsz I.ok.above)
theorem Inv.hY (I:Inv X pins σ H s):∀b∈frs X.stack,b∈X.env.locals::X.fs:=λb a=>by
 rcases I.ok.stk with e| ⟨e,c⟩
 ·rw[e]at a;exact List.mem_cons_of_mem _ a
 ·rw[e]at a;unfold frs at a;rw[List.filterMap_cons,c]at a;exact a
theorem Inv.tU (I:Inv X pins σ H s):∀b∈frs X.stack,H b=none:=λb a=>by
 rcases List.mem_cons.mp (I.hY b a)with e|a
 ·rw[e];exact I.free
 ·obtain⟨_,o,c,_⟩:=I.ok.gQ.mem a;exact I.base.free b o c (I.ok.frf b a) λz=>I.ok.exfs b z a
theorem Inv.step {g':Array GenState}{N:Nat}{d':Drawn}{ch:List Addr}(I:Inv X pins σ H s)
  (f:∀b∈ch,(b∈X.ex∨X.s₀.heap.objs.size≤b)∧b≠X.env.locals∧(∀x c,X.env.cells.lookup x=some c→c≠b)∧∀p∈X.pn++pins,p.1≠b)
  (keep:∀b o,b≠X.env.locals→b∉X.fs→b∉ch→s.heap.get? b=some o→H b=none→h'.get? b=some o)
  (slot:∀b o,b≠X.env.locals→b∈X.fs→b∉ch→s.heap.get? b=some o→H b=none→∃sl,h'.get? b=some {o with slots:=sl}) (free:∀b o,b∉ch→s.heap.get? b=some o→H b=none→H' b=none)
  (there:∀b o,b∉ch→s.heap.get? b=some o→∃o',h'.get? b=some o')
  (tups:∀b xs,H b=some (.tup xs)→H' b=some (.tup xs)) (frzs:∀b o u,H b=some (.cn o u)→H' b=some (.cn o u)) (tbls:∀b ps,H b=some (.tbl ps)→∃more,H' b=some (.tbl (ps++more)))
  (ns:∀m,s.heap.Ns X.env.locals m→h'.Ns X.env.locals m) (hok:eM X.prog X.w H' h') (O:fV g'):
  Inv X pins σ H' {s with heap:=h',gens:=g',drawn:=d',toks:=N}:=by
 have B:∀b o,X.s₀.heap.get? b=some o→b≠X.env.locals:=λb o e=>j7 (k8 (Heap.lt_size e) I.ok.above);have j:∀b o,X.s₀.heap.get? b=some o→b∉X.ex→b∉ch:=λb o e a y=>by
  rcases(f b y).1 with z|z
  ·exact a z
  ·exact absurd (k8 (Heap.lt_size e) z) (n0 _)
 have g:∀x c,X.env.cells.lookup x=some c→∀v,s.heap.IsCell c v→h'.IsCell c v:=λx c e v ⟨o,A,hd⟩=>by
  have h:c∉ch:=λz=>(f c z).2.2.1 x c e rfl;by_cases G:c∈X.fs
  ·obtain⟨sl,q⟩:=slot c o (I.Ae x c e) G h A (I.freeC x c e);exact⟨_,q,hd⟩
  ·exact⟨o,keep c o (I.Ae x c e) G h A (I.freeC x c e),hd⟩
 refine⟨I.ok,I.os,O,⟨λb o e n y a=>?_,λb o e n y a=>?_,λb o e n a=>?_,λb o e a=>?_,λb xs e=>tups b xs (I.base.tups b xs e),λb o xs e=>frzs b o xs (I.base.frzs b o xs e),λb ps e=>?_⟩,?_,λx c e=>?_,?_,λx c e=>?_,λp J=>?_,hok,I.len⟩
 ·exact keep b o (B b o e) y (j b o e a) (I.base.keep b o e n y a) (I.base.free b o e n a)
 ·obtain⟨sl,t⟩:=I.base.slot b o e n y a;obtain⟨F,E⟩:=slot b _ (B b o e) y (j b o e a) t (I.base.free b o e n a);exact⟨F,E⟩
 ·obtain⟨o',t⟩:=I.base.there b o e a;exact free b o' (j b o e a) t (I.base.free b o e n a)
 ·obtain⟨o',t⟩:=I.base.there b o e a;exact there b o' (j b o e a) t
 ·obtain⟨P,t⟩:=I.base.tbls b ps e;obtain⟨Q,E⟩:=tbls b _ t;exact⟨P++Q,by rw[E,Array.append_assoc]⟩
 ·obtain⟨m,R,hl⟩:=I.loc;refine⟨m,ns m R,λi x v t E S=>?_⟩;obtain⟨u,r,l⟩:=hl i x v t E S;refine⟨u,r,?_⟩;rcases l with l| ⟨k,c,e,z⟩
  ·exact .inl l
  ·exact .inr ⟨k,c,e,g x c e _ z⟩
 ·obtain⟨v,z⟩:=I.cell x c e;exact⟨v,g x c e v z⟩
 ·obtain⟨m,⟨o,_,_,A,_⟩,_⟩:=I.loc;exact free _ o (λz=>(f _ z).2.1 rfl) A I.free
 ·obtain⟨v,o,A,hd⟩:=I.cell x c e;exact free c o (λz=>(f c z).2.2.1 x c e rfl) A (I.freeC x c e)
 ·obtain⟨e,n,ne,L,d⟩:=I.pin p J;have h:p.1∉ch:=λz=>(f p.1 z).2.2.2 p J rfl;exact⟨keep p.1 p.2 ne L h e n,free p.1 p.2 h e n,ne,L,d⟩
theorem Inv.un {t':Nat}(I:Inv X pins σ H s)(u:Un X.fs [] H H' s.heap h')(hok:eM X.prog X.w H' h'):Inv X pins σ H' {s with heap:=h',toks:=t'}:=by
 obtain⟨m,⟨o,es,k,g,r⟩,_⟩:=id I.loc;obtain⟨sl,h⟩:=u.any g I.free (by simp);exact I.step (g':=s.gens) (d':=s.drawn) (ch:=[]) (λ_ z=>nomatch z) (λb o _ c _ e n=>u.keep b o e n c (by simp)) (λb o _ c _ e n=>u.slot b o e n c (by simp)) (λb o _ e n=>u.free b o e n (by simp)) (λb o _ e=>u.there b o e (by simp)) u.tups u.frzs u.tbls (λl i=>by
  obtain⟨o',d,f,a,j⟩:=i;rw[g]at a;cases a;exact⟨_,d,f,h,j⟩) hok I.bare
theorem Inv.call {g':Array GenState}{t':Nat}{d':Drawn}{ch:List Addr}(I:Inv X pins σ H s)(u:Un (frs X.stack) ch H H' s.heap h')(hok:eM X.prog X.w H' h')(k:fV g')
  (d:∀b∈ch,(b∈X.ex∨X.s₀.heap.objs.size≤b)∧b≠X.env.locals∧(∀x c,X.env.cells.lookup x=some c→c≠b)∧∀p∈X.pn++pins,p.1≠b):
  Inv X pins σ H' {s with heap:=h',gens:=g',drawn:=d',toks:=t'}:=by
 obtain⟨m,⟨o,es,v,j,r⟩,_⟩:=id I.loc;obtain⟨sl,g⟩:=u.any j I.free λz=>(d _ z).2.1 rfl;exact I.step (ch:=ch) d (λb o g l a e n=>u.keep b o e n (λz=>(List.mem_cons.mp (I.hY b z)).elim g l) a) (λb o _ _ a e n=>u.any e n a) (λb o a e n=>u.free b o e n a) (λb o a e=>u.there b o e a) u.tups u.frzs u.tbls (λy q=>by
  obtain⟨o',h,i,f,t⟩:=q;rw[j]at f;cases f;exact⟨_,h,i,g,t⟩) hok k
theorem Inv.turned {t':Nat}{it:Addr}(I:Inv X pins σ H s)(k:∀b o,b≠it→s.heap.get? b=some o→h'.get? b=some o)(g:H it=none)(f:it≠X.env.locals)
  (h:it∈X.ex∨X.s₀.heap.objs.size≤it) (i:∀x c,X.env.cells.lookup x=some c→c≠it) (j:∀p∈X.pn++pins,p.1≠it):Inv X pins σ H {s with heap:=h',toks:=t'}:=by
 have d:∀b u,H b=some u→b≠it:=λb u e z=>by rw[z,g]at e;cases e
 refine I.step (g':=s.gens) (d':=s.drawn) (ch:=[it]) (λb l=>?_) (λb o _ _ a e _=>k b o (λz=>a (by simp[z])) e) (λb o _ _ a e _=>⟨o.slots,k b o (λz=>a (by simp[z])) e⟩) (λ_ _ _ _ n=>n)
  (λb o a e=>⟨o,k b o (λz=>a (by simp[z])) e⟩) (λ_ _ e=>e) (λ_ _ _ e=>e) (λb ps e=>⟨#[],by rw[e];simp⟩) (λm t=>?_) (λb u e=>?_) I.bare
 ·have e:b=it:=by simpa using l
  subst e;exact⟨h,f,i,j⟩
 ·obtain⟨o,es,w,y,r⟩:=t;exact⟨o,es,w,k _ o (w5 f) y,r⟩
 ·refine(I.hok b u e).stay (λc v a q=>k c v ?_ q) (λ_ q=>q) λ_ _ q=>q;rcases a with z|z
  ·rw[z];exact d b u e
  ·exact d c _ z
theorem Inv.tok (I:Inv X pins σ H s)(t:Nat):Inv X pins σ H {s with toks:=t}:=I.un (h':=s.heap) (t':=t) Un.refl I.hok
theorem Inv.kept {t':Nat}(I:Inv X pins σ H s)(k:∀b u,s.heap.get? b=some u→h'.get? b=some u):Inv X pins σ H {s with heap:=h',toks:=t'}:=I.un (Un.kept k) (I.hok.kept k)
theorem Inv.laid {a:Addr}{o:HO}{t':Nat}(I:Inv X pins σ H s)(k:∀b u,s.heap.get? b=some u→h'.get? b=some u)(c:s.heap.objs.size≤a)(new:I7 X.prog X.w (upd H a o) h' a o):
  Inv X pins σ (upd H a o) {s with heap:=h',toks:=t'}:=I.un (Un.laid k c (I.hok.fresh c)) (I.hok.laid k c new)
theorem Inv.write {x e:Addr}{o:HO}{d:Nat}(I:Inv X pins σ H s)(mu:IE (H x))(c:e=x∨H e=some (.own x))(k:∀b u,b≠e→s.heap.get? b=some u→h'.get? b=some u)(a:∃u,h'.get? e=some u)
  (new:I7 X.prog X.w (upd H x o) h' x o):Inv X pins σ (upd H x o) {s with heap:=h',toks:=d}:=I.un (Un.write mu c k a) (I.hok.write mu c k a new)
theorem Inv.weak {a:List (Option V)}(I:Inv X pins σ H s)(hl:a.length=σ.length)(w:∀(i:Nat) v,a[i]?=some (some v)→σ[i]?=some (some v)):Inv X pins a H s:=
 ⟨I.ok,I.os,I.bare,I.base,let⟨m,c,b⟩:=I.loc;⟨m,c,λi x v d e f=>b i x v d (w i v e) f⟩,I.cell,I.free,I.freeC,I.pin,I.hok,hl.trans I.len⟩
theorem Inv.gy {pins':List (Addr×Obj)}(I:Inv X pins σ H s)(h:∀p∈pins',s.heap.get? p.1=some p.2∧H p.1=none∧p.1≠X.env.locals∧p.1∉X.fs∧∀v,p.2.data≠.cell v):Inv X pins' σ H s:=
 ⟨I.ok,I.os,I.bare,I.base,I.loc,I.cell,I.free,I.freeC,λp a=>(List.mem_append.mp a).elim (λz=>I.pin p (List.mem_append_left _ z)) (h p),I.hok,I.len⟩
theorem qj {N:List Str}(c:N.Nodup){i j:Nat}{x:Str}(a:N[i]?=some x)(b:N[j]?=some x):i=j:=by
 obtain⟨f,d⟩:=List.getElem?_eq_some_iff.mp a;obtain⟨g,e⟩:=List.getElem?_eq_some_iff.mp b;exact(List.getElem_inj c).mp (d.trans e.symm)
theorem mB {M:Model}{A:Around}{E:Value→Shared→Prop}{i:Nat}{x:Str}{v:V}{u:Value}{Q:Unit→Shared→Prop}(I:Inv X pins σ H s)(hN:X.N.Nodup)(hi:X.N[i]?=some x)(t:Loc X.env.scope x)(r:RelV v u)
  (h:∀s',Inv X pins (σ.set i (some v)) H s'→(∃a,Heap.SameBut a s.heap s'.heap∧(a=X.env.locals∨X.env.cells.lookup x=some a))→Q () s') (hf:X.fn x=true∨X.env.scope.names.lookup x=some .local:=by first|exact .inl rfl|exact .inr rfl|assumption):wpAny M A (Jr X.env x u) Q E s:=by
 obtain⟨m,hn,hl⟩:=id I.loc;have P:(X.env.scope.kind == .class||(X.env.scope.kind == .module&&X.env.locals != X.env.globals))=false:=by rw[I.ok.kind];rfl
 have G:i<σ.length:=by rw[I.len];exact(List.getElem?_eq_some_iff.mp hi).1
 have Ae:=I.Ae;have f:∀{a:Addr} {h':Heap},(∃o,s.heap.get? a=some o∧H a=none)→Heap.SameBut a s.heap h'→eM X.prog X.w H h':=λ{a h'} ha hs b ob e=>by
  obtain⟨_,_,B⟩:=ha;refine(I.hok b ob e).stay (λc Y l q=>(hs.2 c ?_).trans q) (λ_ q=>q) λ_ _ q=>q
  rintro rfl
  rcases l with rfl|l
  ·rw[B]at e;cases e
  ·rw[B]at l;cases l
 rcases t with hk|hk
 ·refine wpAny_storeName_local hk hn (λh' a0 hs=>?_) P;obtain⟨oL,_,_,a1,_⟩:=id hn;refine h _ ⟨I.ok,I.os,I.bare,⟨λb o e n J t=>?_,λb o e n J t=>?_,I.base.free,λb o e t=>?_,I.base.tups,I.base.frzs,I.base.tbls⟩,⟨_,a0,λj y v' g F e3=>?_⟩,λy c e=>?_,I.free,I.freeC,λp hp=>?_,f ⟨oL,a1,I.free⟩ hs,by simpa using I.len⟩ ⟨_,hs,.inl rfl⟩
  ·exact(hs.2 b (j7 (k8 (Heap.lt_size e) I.ok.above))).trans (I.base.keep b o e n J t)
  ·obtain⟨sl,g⟩:=I.base.slot b o e n J t;exact⟨sl,(hs.2 b (j7 (k8 (Heap.lt_size e) I.ok.above))).trans g⟩
  ·obtain⟨o',g⟩:=I.base.there b o e t;exact⟨o',(hs.2 b (j7 (k8 (Heap.lt_size e) I.ok.above))).trans g⟩
  ·by_cases L:j=i
   ·subst L;rw[hi]at g;cases g;rw[List.getElem?_set_self G]at F;cases F;exact⟨u,r,.inl ⟨hk,by simp⟩⟩
   ·rw[List.getElem?_set_ne (w5 L)]at F;obtain⟨u',r',q⟩:=hl j y v' g F e3;refine⟨u',r',?_⟩;rcases q with⟨k,e⟩ | ⟨k,c,e,z⟩
    ·refine .inl ⟨k,?_⟩;have:y≠x:=λe=>L (qj hN g (e▸hi));simp[this,e]
    ·exact .inr ⟨k,c,e,z.sameBut hs (Ae y c e)⟩
  ·obtain⟨Y,z⟩:=I.cell y c e;exact⟨Y,z.sameBut hs (Ae y c e)⟩
  ·obtain⟨e,n,ne,nf,d⟩:=I.pin p hp;exact⟨(hs.2 p.1 ne).trans e,n,ne,nf,d⟩
 ·have O:X.fn x=true:=by
   rcases hf with z|z
   ·exact z
   ·rw[z]at hk;cases hk
  obtain⟨c,l⟩:=I.ok.has x (.inl hk);obtain⟨Y,z⟩:=I.cell x c l;refine wpAny_storeName_cell I.ok.kind hk l z (λh' R hs=>?_);obtain⟨oc,S,T⟩:=id z;refine h {s with heap:=h'} ⟨I.ok,I.os,I.bare,⟨λb o e n J t=>?_,λb o e n J t=>?_,I.base.free,λb o e t=>?_,I.base.tups,I.base.frzs,I.base.tbls⟩,⟨m,hn.sameBut hs (w5 (Ae x c l)),λj y v' g F e3=>?_⟩,λy Z e=>?_,I.free,I.freeC,λp hp=>?_,f ⟨oc,S,I.freeC x c l⟩ hs,by simpa using I.len⟩ ⟨c,hs,.inr l⟩
  ·exact(hs.2 b (j7 (k8 (Heap.lt_size e) (I.ok.cab x c O l)))).trans (I.base.keep b o e n J t)
  ·obtain⟨sl,g⟩:=I.base.slot b o e n J t;exact⟨sl,(hs.2 b (j7 (k8 (Heap.lt_size e) (I.ok.cab x c O l)))).trans g⟩
  ·obtain⟨o',g⟩:=I.base.there b o e t;exact⟨o',(hs.2 b (j7 (k8 (Heap.lt_size e) (I.ok.cab x c O l)))).trans g⟩
  ·by_cases L:j=i
   ·subst L;rw[hi]at g;cases g;rw[List.getElem?_set_self G]at F;cases F;exact⟨u,r,.inr ⟨.inl hk,c,l,R⟩⟩
   ·rw[List.getElem?_set_ne (w5 L)]at F;obtain⟨u',r',q⟩:=hl j y v' g F e3;refine⟨u',r',?_⟩;rcases q with q| ⟨k,Z,e,z'⟩
    ·exact .inl q
    ·refine .inr ⟨k,Z,e,z'.sameBut hs ?_⟩
     rintro rfl
     exact L (qj hN g (I.ok.inj _ _ _ e l▸hi))
  ·by_cases U:Z=c
   ·subst U;exact⟨_,R⟩
   ·obtain⟨w2,z2⟩:=I.cell y Z e;exact⟨w2,z2.sameBut hs U⟩
  ·obtain⟨e,n,ne,nf,d⟩:=I.pin p hp;refine⟨(hs.2 p.1 ?_).trans e,n,ne,nf,d⟩;intro q;rw[q,S]at e;have q':oc=p.2:=i9 e;exact d Y (by rw[←q'];exact T)
theorem jR {M:Model}{A:Around}{E:Value→Shared→Prop}{i:Nat}{x:Str}{v:V}{u:Value}{Q:Unit→Shared→Prop}(I:Inv X pins σ H s)(b:X.N.Nodup)(hi:X.N[i]?=some x)(c:Loc X.env.scope x)(r:RelV v u)
  (h:∀a,Inv X pins (σ.set i (some v)) H a→Q () a) (d:X.fn x=true∨X.env.scope.names.lookup x=some .local:=by first|exact .inl rfl|exact .inr rfl|assumption):wpAny M A (Jr X.env x u) Q E s:=
 mB I b hi c r (λa e _=>h a e) d
theorem Inv.IA {s':Shared}{ch:List Addr}(I:Inv X pins σ H s)(d:s'.os=s.os)(u:Un (frs X.stack) ch H H' s.heap s'.heap)(hok:eM X.prog X.w H' s'.heap)(f:fV s'.gens)
  (a:∀b∈ch,(b∈X.ex∨X.s₀.heap.objs.size≤b)∧b≠X.env.locals∧(∀x c,X.env.cells.lookup x=some c→c≠b)∧∀p∈X.pn++pins,p.1≠b):Inv X pins σ H' s':=by
 obtain⟨h',g',d',t',o'⟩:=s';have e:o'=s.os:=d;subst e;exact I.call (g':=g') (t':=t') (d':=d') u hok f a
end
noncomputable abbrev XK:=Value→Option Addr→Hp→Prop
noncomputable abbrev St:=List (Option V)
noncomputable abbrev VK:=V→Hp→Prop
noncomputable abbrev TE:=St→Hp→VK→Prop
noncomputable abbrev TT:=St→Hp→(Bool→Hp→Prop)→Prop
noncomputable abbrev TA:=St→Hp→(List V→Hp→Prop)→Prop
structure Ends where
 nx:St→Hp→Prop
 rt:VK
 bk:St→Hp→Prop:=λ_ _=>False
 ct:St→Hp→Prop:=λ_ _=>False
noncomputable abbrev TS:=Ends→St→Hp→Prop
def EP (X:Cx)(pins:List (Addr×Obj))(σ:St)(Q:VK)(u:Value)(a:Shared):Prop:=∃v H',Inv X pins σ H' a∧RelV v u∧Q v H'
def TP (X:Cx)(pins:List (Addr×Obj))(σ:St)(Q:Bool→Hp→Prop)(b:Bool)(a:Shared):Prop:=∃H',Inv X pins σ H' a∧Q b H'
def AP (X:Cx)(pins:List (Addr×Obj))(σ:St)(Q:List V→Hp→Prop)(us:List Value)(a:Shared):Prop:=∃vs H',Inv X pins σ H' a∧Vals vs us∧Q vs H'
def SP (X:Cx)(pins:List (Addr×Obj))(D:Ends)(f:Flow)(b:Shared):Prop:=
 match f with
 |.next=>∃a H',Inv X pins a H' b∧D.nx a H'
 |.brk=>∃a H',Inv X pins a H' b∧D.bk a H'
 |.cont=>∃a H',Inv X pins a H' b∧D.ct a H'
 |.ret u=>∃v a H',Inv X pins a H' b∧RelV v u∧D.rt v H'
def PE (X:Cx)(e:Expr)(t:TE):Prop:=
 ∀(pins:List (Addr×Obj)) (s:Shared) (σ:St) (H:Hp) (Q:VK),Inv X pins σ H s→t σ H Q→wpAny (model X.prog X.w) X.A (eval e X.env) (EP X pins σ Q) X.xe s
def PT (X:Cx)(e:Expr)(t:TT):Prop:=
 ∀(pins:List (Addr×Obj)) (s:Shared) (σ:St) (H:Hp) (Q:Bool→Hp→Prop),Inv X pins σ H s→t σ H Q→wpAny (model X.prog X.w) X.A (AV e X.env (eval e X.env)) (TP X pins σ Q) X.xe s
def PW (X:Cx)(e:Expr)(t:TT):Prop:=
 ∀(a:Sem Value) (pins:List (Addr×Obj)) (s:Shared) (σ:St) (H:Hp) (Q:Bool→Hp→Prop),Inv X pins σ H s→t σ H Q→wpAny (model X.prog X.w) X.A (AV e X.env a) (TP X pins σ Q) X.xe s
theorem PW.pt {X:Cx}{e:Expr}{t:TT}(h:PW X e t):PT X e t:=h _
def PA (X:Cx)(es:List Expr)(t:TA):Prop:=
 ∀(pos:Pos) (pins:List (Addr×Obj)) (s:Shared) (σ:St) (H:Hp) (Q:List V→Hp→Prop),Inv X pins σ H s→t σ H Q→wpAny (model X.prog X.w) X.A (tL (l8 pos (f9 es X.env))) (AP X pins σ Q) X.xe s
def PS (X:Cx)(st:Stmt)(t:TS):Prop:=
 ∀(pins:List (Addr×Obj)) (s:Shared) (σ:St) (H:Hp) (D:Ends),Inv X pins σ H s→t D σ H→wpAny (model X.prog X.w) X.A (exec st X.env) (SP X pins D) X.xe s
def lA (X:Cx)(st:List Stmt)(t:TS):Prop:=
 ∀(pins:List (Addr×Obj)) (s:Shared) (σ:St) (H:Hp) (D:Ends),Inv X pins σ H s→t D σ H→wpAny (model X.prog X.w) X.A (execs st X.env) (SP X pins D) X.xe s
theorem F0 {α:Type}{t:Sem α}{Q b:α→Shared→Prop}{M:Model}{A:Around}{E:Value→Shared→Prop}{s:Shared}(h:wpAny M A t Q E s)(c:∀a s,Q a s→b a s):wpAny M A t b E s:=z5 h c λ_ _ x=>x
section
variable {X:Cx}
noncomputable def Er (i:Nat):TE:=λσ H Q=>∃v,σ[i]?=some (some v)∧Q v H
noncomputable def tC (v:V):TE:=λ_ H Q=>Q v H
theorem bv {i:Nat}{x:Str}{pos:Pos}(f:X.N[i]?=some x)(g:eR X.env.scope x)(hd:(x==("__debug__":Str))=false:=by decide) (b:(x==("__classdict__":Str))=false:=by decide):PE X (.Name x pos) (Er i):=by
 intro pins s σ H Q I h;obtain⟨v,e,h⟩:=h;obtain⟨m,j,hl⟩:=I.loc;obtain⟨u,r,l⟩:=hl i x v f e g;have fin:EP X pins σ Q u s:=⟨v,H,I,r,h⟩
 rcases l with⟨hk,k⟩ | ⟨hk,c,d,a⟩
 ·exact GN (DS I.ok.kind hk j k fin) hd
 ·rcases hk with hk|hk
  ·exact GN (Gy I.ok.kind hk d a fin) hd
  ·exact GN (wpAny_loadName_free I.ok.kind hk d a fin b) hd
theorem rS {i j pos}:PE X (.Constant (.int i) j pos) (tC (.int i)):=λ_ _ _ H _ I h=>GO ⟨.int i,H,I.tok _,⟨_,rfl⟩,h⟩
theorem DH {b j pos}:PE X (.Constant (.bool b) j pos) (tC (.bl b)):=λ_ _ _ H _ I h=>Constant_bool ⟨.bl b,H,I,rfl,h⟩
theorem EW {j pos}:PE X (.Constant .none j pos) (tC .v1):=λ_ _ _ H _ I h=>xx ⟨.v1,H,I,rfl,h⟩
theorem ET {x j pos}:PE X (.Constant (.str x) j pos) (tC (.str x)):=λ_ _ _ H _ I h=>Calls.Constant_str ⟨.str x,H,I.tok _,⟨_,rfl⟩,h⟩
def Gl (X:Cx)(x:Str):Prop:=X.env.kindOf x=some .globalImplicit
theorem oB {E:Value→Shared→Prop}{pins:List (Addr×Obj)}{s:Shared}{σ:St}{H:Hp}{x:Str}{u:Value}{pos:Pos}{Q:Value→Shared→Prop}(I:Inv X pins σ H s)(a:Gl X x)(b:X.mg x=some u)(h:Q u s)
  (hd:(x==("__debug__":Str))=false:=by decide):wpAny (model X.prog X.w) X.A (eval (.Name x pos) X.env) Q E s:=
 nE I.ok.kind a (Calls.loadGlobal_global (by rw[I.ok.glob];exact I.mod.glob.keeps I.bk) b h) hd
theorem V6 {E:Value→Shared→Prop}{pins:List (Addr×Obj)}{s:Shared}{σ:St}{H:Hp}{x:Str}{u:Value}{pos:Pos}{Q:Value→Shared→Prop}(I:Inv X pins σ H s)(a:Gl X x)(b:X.mg x=none)(c:K4 x=some u)(h:Q u s)
  (d:x≠"__name__":=by decide) (hd:(x==("__debug__":Str))=false:=by decide):wpAny (model X.prog X.w) X.A (eval (.Name x pos) X.env) Q E s:=by
 obtain⟨mb,e,f⟩:=I.mod.blt;exact nE I.ok.kind a (Calls.loadGlobal_builtin (by rw[I.ok.glob];exact I.mod.glob.keeps I.bk) b (by rw[I.ok.blt];exact e.keeps I.bk) ((f x d).trans c) h) hd
theorem BP {x:Str}{v:V}{u:Value}{pos:Pos}(a:Gl X x)(b:X.mg x=some u)(r:RelV v u)(hd:(x==("__debug__":Str))=false:=by decide):PE X (.Name x pos) (tC v):=
 λ_ _ _ H _ I h=>oB I a b ⟨v,H,I,r,h⟩ hd
theorem BU {x:Str}{v:V}{u:Value}{pos:Pos}(a:Gl X x)(b:X.mg x=none)(c:K4 x=some u)(r:RelV v u)(d:x≠"__name__":=by decide) (hd:(x==("__debug__":Str))=false:=by decide):PE X (.Name x pos) (tC v):=
 λ_ _ _ H _ I h=>V6 I a b c ⟨v,H,I,r,h⟩ d hd
variable {a b:Expr}{ta tb:TE}{pos:Pos}
def PC (X:Cx)(e:CmpOp)(a b:Expr)(t:TE):Prop:=
 ∀(pins:List (Addr×Obj)) (s:Shared) (σ:St) (H:Hp) (Q:VK),Inv X pins σ H s→t σ H Q→
  wpAny (model X.prog X.w) X.A (eval a X.env) (λv c=>wpAny (model X.prog X.w) X.A (eval b X.env) (λu d=>wpAny (model X.prog X.w) X.A (v7 e v u) (EP X pins σ Q) X.xe d) X.xe c) X.xe s
theorem yJ (b:Expr){a:CmpOp}(h:a≠.In)(c:a≠.NotIn):y4 a b=false:=by
 have d:(a==CmpOp.In)=false:=by cases a<;>first|rfl|exact absurd rfl h
 have e:(a==CmpOp.NotIn)=false:=by cases a<;>first|rfl|exact absurd rfl c
 cases b<;>simp[y4,d,e]
noncomputable def JO (ta:TE):TE:=λσ H Q=>ta σ H λx a=>Q (.bl (decide (x=.v1))) a
noncomputable def Hf (ta:TE):TE:=λσ H Q=>ta σ H λx a=>Q (.bl (!decide (x=.v1))) a
theorem RelV.qi {x:V}{v:Value}(r:RelV x v):(v==Value.none)=decide (x=.v1):=by
 cases x with
 |v1=>cases r;rfl
 |bl _=>cases r;rfl
 |int _=>obtain⟨t,rfl⟩:=r;rfl
 |str _=>obtain⟨t,rfl⟩:=r;rfl
 |byt _=>obtain⟨t,rfl⟩:=r;rfl
 |flt _=>obtain⟨t,rfl⟩:=r;rfl
 |ref _=>cases r;rfl
 |ty _=>cases r;rfl
theorem EZ {j pos'}(b:PE X a ta):PC X .Is a (.Constant .none j pos') (JO ta):=by
 intro pins s σ H Q I h;refine F0 (b pins s σ H _ I h) λv s1 ⟨x,c,d,e,f⟩=>?_;exact xx (is_none_gen ⟨.bl _,c,d,by rw[e.qi];rfl,f⟩)
theorem BV {j pos'}(b:PE X a ta):PC X .IsNot a (.Constant .none j pos') (Hf ta):=by
 intro pins s σ H Q I h;refine F0 (b pins s σ H _ I h) λv s1 ⟨x,c,d,e,f⟩=>?_;exact xx (isnot_none_gen ⟨.bl _,c,d,by rw[e.qi];rfl,f⟩)
noncomputable def tB (t:TE):TT:=λσ H Q=>t σ H λx a=>∃c,x=.bl c∧Q c a
theorem yk {e:CmpOp}{t:TE}(h:PC X e a b t)(f:y4 e b=false:=by first|exact yJ _ (by decide) (by decide) |rfl):PT X (.Compare a [e] [b] pos) (tB t):=by
 intro pins s σ H Q I g;refine Ds (F0 (h pins s σ H _ I g) λv s1 f=>F0 f λu s2 i=>F0 i λc n ⟨x,j,k,l,m⟩=>?_) f;obtain⟨d,rfl,q⟩:=m;cases l;exact J3 ⟨j,k,q⟩
variable {tA tB':TT}{rest:List Expr}
noncomputable def Hl (t u:TT):TT:=λσ H Q=>t σ H λc a=>if c=true then u σ a Q else Q false a
noncomputable def Lw (t u:TT):TT:=λσ H Q=>t σ H λc a=>if c=true then Q true a else u σ a Q
noncomputable def JL (t:TT):TT:=λσ H Q=>t σ H λc a=>Q (!c) a
theorem BC (b:PT X a tA):PW X (.BoolOp .And [a] pos) tA:=by
 intro d pins s σ H Q I h;refine isTrue_and (F0 (b pins s σ H Q I h) λc s1 e=>?_);cases c with
 |true=>exact isTrue_and_nil e
 |false=>exact e
theorem EE (b:PT X a tA):PW X (.BoolOp .Or [a] pos) tA:=by
 intro d pins s σ H Q I h;refine isTrue_or (F0 (b pins s σ H Q I h) λc s1 e=>?_);cases c with
 |false=>exact isTrue_or_nil e
 |true=>exact e
theorem EF (g:PT X a tA)(i:PW X (.BoolOp .And (b::rest) pos) tB'):PW X (.BoolOp .And (a::b::rest) pos) (Hl tA tB'):=by
 intro j pins s σ H Q I h;refine isTrue_and (F0 (g pins s σ H _ I h) λc s1 ⟨d,e,f⟩=>?_);cases c with
 |true=>exact i j pins s1 σ d Q e f
 |false=>exact⟨d,e,f⟩
theorem Hx (g:PT X a tA)(i:PW X (.BoolOp .Or (b::rest) pos) tB'):PW X (.BoolOp .Or (a::b::rest) pos) (Lw tA tB'):=by
 intro j pins s σ H Q I h;refine isTrue_or (F0 (g pins s σ H _ I h) λc s1 ⟨d,e,f⟩=>?_);cases c with
 |true=>exact⟨d,e,f⟩
 |false=>exact i j pins s1 σ d Q e f
theorem EH (b:PT X a tA):PT X (.UnaryOp .Not a pos) (JL tA):=by
 intro pins s σ H Q I h;exact isTrue_not (b pins s σ H (λc d=>Q (!c) d) I h)
noncomputable def Dw (ta tb:TE):TE:=λσ H Q=>ta σ H λx a=>∃c,x=.bl c∧if c=true then tb σ a Q else Q (.bl false) a
noncomputable def He (ta:TE):TE:=λσ H Q=>ta σ H λx a=>∃c,x=.bl c∧Q (.bl (!c)) a
theorem EU {op}{t:TE}(h:PE X a t):PE X (.BoolOp op [a] pos) t:=λpins s σ H Q I b=>BoolOp_one (h pins s σ H Q I b)
theorem EY (g:PE X a ta)(i:PE X (.BoolOp .And (b::rest) pos) tb):PE X (.BoolOp .And (a::b::rest) pos) (Dw ta tb):=by
 intro pins s σ H Q I h;refine BoolOp_and (F0 (g pins s σ H _ I h) λv s1 ⟨x,e,f,j,d⟩=>?_);obtain⟨c,rfl,d⟩:=d;cases j;refine J3 ?_;cases c with
 |true=>exact i pins s1 σ e Q f d
 |false=>exact⟨.bl false,e,f,rfl,d⟩
theorem EV (d:PE X a ta):PE X (.UnaryOp .Not a pos) (He ta):=by
 intro pins s σ H Q I h;refine UnaryOp_ (F0 (d pins s σ H _ I h) λv s1 ⟨x,e,f,g,b⟩=>?_);obtain⟨c,rfl,b⟩:=b;cases g;exact not_of (J3 ⟨.bl (!c),e,f,rfl,b⟩)
end
def P8 (K:PySem.W.Frag)(H:Hp)(a:Addr)(xs:List V):Prop:=
 Rd H a (.lst xs)∨
  ∃(o:Obj) (b:Array Value) (n:Nat),K.lookup a=some o∧o.cls=.type "list"∧o.dict=none∧o.data=.seq b n∧b.size≤sizeLine∧Vals xs b.toList
def bn (K:PySem.W.Frag)(H:Hp)(a:Addr)(xs:List V):Prop:=
 Rd H a (.tup xs)∨
  ∃(o:Obj) (b:Array Value) (n:Nat),K.lookup a=some o∧o.cls=.type "tuple"∧o.data=.seq b n∧b.size≤sizeLine∧Vals xs b.toList
noncomputable def Kr:Value→Option V
 |.none=>some .v1
 |.bool b=>some (.bl b)
 |.int i _=>some (.int i)
 |.str x _=>some (.str x)
 |.bytes b _=>some (.byt b)
 |.float b _=>some (.flt b)
 |.ref a=>some (.ref a)
 |.type n=>some (.ty n)
 |_=>none
theorem RelV.abs {x:V}{u:Value}(r:RelV x u):Kr u=some x:=by
 cases x with
 |v1=>cases r;rfl
 |bl _=>cases r;rfl
 |int _=>obtain⟨t,rfl⟩:=r;rfl
 |str _=>obtain⟨t,rfl⟩:=r;rfl
 |byt _=>obtain⟨t,rfl⟩:=r;rfl
 |flt _=>obtain⟨t,rfl⟩:=r;rfl
 |ref _=>cases r;rfl
 |ty _=>cases r;rfl
theorem RelV.inj {x y:V}{u:Value}(r:RelV x u)(q:RelV y u):x=y:=i9 (r.abs.symm.trans q.abs)
theorem Vals.inj:∀{xs a:List V} {us:List Value},Vals xs us→Vals a us→xs=a
 |_,_,_,.nil,.nil=>rfl
 |_,_,_,.cons r t,.cons b c=>by rw[r.inj b,Vals.inj t c]
section
variable {X:Cx}{pins:List (Addr×Obj)}{σ:St}{H:Hp}{s:Shared}{a:Addr}{xs ys:List V}
theorem P8.of {K:PySem.W.Frag}(h:H a=some (.lst xs)):P8 K H a xs:=.inl (.inl h)
theorem bn.of {K:PySem.W.Frag}(h:H a=some (.tup xs)):bn K H a xs:=.inl (.inl h)
theorem Inv.list (I:Inv X pins σ H s)(h:P8 X.K H a xs):∃b:List Value,Vals xs b∧PlainL s.heap a b.toArray∧xs.length≤sizeLine:=by
 rcases h with h| ⟨o,b,n,hk,c,hd,hs,d,r⟩
 ·obtain⟨z,b,n,r,e⟩:=h.ok I.hok;exact⟨b,r,⟨_,n,e,rfl,rfl,rfl⟩,z⟩
 ·refine⟨b.toList,r,⟨o,n,I.mQ a o hk,c,hd,by simpa using hs⟩,?_⟩;have e:=r.length;simp only[C1]at e;omega
theorem Inv.tuple (I:Inv X pins σ H s)(h:bn X.K H a xs):∃b:List Value,Vals xs b∧Ea s.heap a b.toArray∧xs.length≤sizeLine:=by
 rcases h with h| ⟨o,b,n,hk,c,hs,d,r⟩
 ·obtain⟨z,b,r,p⟩:=h.ok I.hok;exact⟨b,r,p,z⟩
 ·refine⟨b.toList,r,⟨o,I.mQ a o hk,c,n,by simpa using hs⟩,?_⟩;have e:=r.length;simp only[C1]at e;omega
theorem Inv.gJ (I:Inv X pins σ H s)(h:P8 X.K H a xs)(h':P8 X.K H a ys):xs=ys:=by
 obtain⟨c,r,⟨o,n,e,_,_,d⟩,_⟩:=I.list h;obtain⟨b,i,⟨o',k,f,_,_,g⟩,_⟩:=I.list h';rw[e]at f;cases f;rw[d]at g;injection g with j _
 have:c=b:=by simpa using congrArg GV j
 subst this;exact r.inj i
theorem Inv.hV (I:Inv X pins σ H s)(h:bn X.K H a xs)(h':bn X.K H a ys):xs=ys:=by
 obtain⟨c,r,⟨o,e,_,n,d⟩,_⟩:=I.tuple h;obtain⟨b,i,⟨o',f,_,k,g⟩,_⟩:=I.tuple h';rw[e]at f;cases f;rw[d]at g;injection g with j _
 have:c=b:=by simpa using congrArg GV j
 subst this;exact r.inj i
end
noncomputable abbrev Cx.W8 (X:Cx)(E:Value→Shared→Prop):Cx:={X with xe:=E}
noncomputable abbrev Cx.Jd (X:Cx):Cx:=X.W8 λ_ _=>False
theorem Cx.Ok.W8 {X:Cx}(ok:X.Ok)(E:Value→Shared→Prop):(X.W8 E).Ok:=
 ⟨ok.mod,ok.kind,ok.glob,ok.blt,ok.above,ok.inj,ok.has,ok.cab,ok.hd,ok.frames,ok.stk,ok.exf,ok.bs,ok.bsz,ok.noex,ok.exfs,ok.gQ,ok.frf⟩
theorem Cx.Ok.T0 {X:Cx}{E:Value→Shared→Prop}(ok:(X.W8 E).Ok):X.Ok:=
 ⟨ok.mod,ok.kind,ok.glob,ok.blt,ok.above,ok.inj,ok.has,ok.cab,ok.hd,ok.frames,ok.stk,ok.exf,ok.bs,ok.bsz,ok.noex,ok.exfs,ok.gQ,ok.frf⟩
section
variable {X:Cx}{pins:List (Addr×Obj)}{σ:St}{H:Hp}{s:Shared}{E:Value→Shared→Prop}
theorem Inv.W8 (I:Inv X pins σ H s)(E:Value→Shared→Prop):Inv (X.W8 E) pins σ H s:=⟨I.ok.W8 E,I.os,I.bare,I.base,I.loc,I.cell,I.free,I.freeC,I.pin,I.hok,I.len⟩
theorem Inv.T0 (I:Inv (X.W8 E) pins σ H s):Inv X pins σ H s:=⟨I.ok.T0,I.os,I.bare,I.base,I.loc,I.cell,I.free,I.freeC,I.pin,I.hok,I.len⟩
theorem SP.T0 {D:Ends}{f:Flow}{b:Shared}(h:SP (X.W8 E) pins D f b):SP X pins D f b:=by
 cases f with
 |next=>obtain⟨a,H',I,q⟩:=h;exact⟨a,H',I.T0,q⟩
 |brk=>obtain⟨a,H',I,q⟩:=h;exact⟨a,H',I.T0,q⟩
 |cont=>obtain⟨a,H',I,q⟩:=h;exact⟨a,H',I.T0,q⟩
 |ret u=>obtain⟨v,a,H',I,r,q⟩:=h;exact⟨v,a,H',I.T0,r,q⟩
theorem lA.Jd {st:List Stmt}{t:TS}(h:lA X.Jd st t):lA X st t:=λpins s σ H D I a=>
 z5 (h pins s σ H D (I.W8 _) a) (λ_ _ q=>q.T0) λ_ _ z=>D1 z
end
section
variable {X:Cx}{st:Stmt}{rest:List Stmt}{t u:TS}{e:Expr}{te:TE}{pos:Pos}
noncomputable def Hg:TS:=λD σ H=>D.nx σ H
noncomputable def JJ (t u:TS):TS:=λD σ H=>t {D with nx:=u D} σ H
theorem BG:lA X [] Hg:=λ_ _ σ H _ I h=>hF ⟨σ,H,I,h⟩
theorem ym (b:PS X st t)(c:lA X rest u):lA X (st::rest) (JJ t u):=by
 intro pins s σ H D I h;refine Jp (F0 (b pins s σ H {D with nx:=u D} I h) λf s1 q=>?_);cases f with
 |next=>
  obtain⟨a,H',d,q⟩:=q;exact c pins s1 a H' D d q
 |ret v=>exact q
 |brk=>exact q
 |cont=>exact q
theorem BF (a:PS X st t):lA X [st] t:=by
 intro pins s σ H D I h;refine Jp (F0 (a pins s σ H D I h) λf s1 q=>?_);cases f with
 |next=>exact hF q
 |ret v=>exact q
 |brk=>exact q
 |cont=>exact q
theorem Inv.quiet {pins:List (Addr×Obj)}{σ:St}{H:Hp}{s:Shared}(I:Inv X pins σ H s):interactive X.env=false:=by simp[interactive,I.ok.kind]
noncomputable def Hi (te:TE):TS:=λD σ H=>te σ H λ_ a=>D.nx σ a
theorem BI (a:PE X e te)(hs:S8 e none pos.line X.env=pure false:=by rfl):PS X (.Expr e pos) (Hi te):=by
 intro pins s σ H D I h;exact wpAny_Expr_any (F0 (a pins s σ H _ I h) λv s1 ⟨x,b,c,f,d⟩=>⟨σ,b,c,d⟩) I.quiet hs
noncomputable def JK (te:TE):TS:=λD σ H=>te σ H D.rt
theorem EI (a:PE X e te):PS X (.Return (some e) pos) (JK te):=by
 intro pins s σ H D I h;exact wpAny_Return_some (F0 (a pins s σ H _ I h) λv s1 ⟨x,b,c,d,f⟩=>⟨x,σ,b,c,d,f⟩)
noncomputable def JP (c:TT)(t u:TS):TS:=λD σ H=>c σ H λb a=>if b=true then t D σ a else u D σ a
theorem Hy {c:Expr}{a b:List Stmt}{e:TT}(j:PT X c e)(k:lA X a t)(l:lA X b u):PS X (.If c a b pos) (JP e t u):=by
 intro pins s σ H D I h;refine wpAny_If (F0 (j pins s σ H _ I h) λd s1 ⟨f,g,i⟩=>?_);cases d with
 |true=>exact k pins s1 σ f D g i
 |false=>exact l pins s1 σ f D g i
noncomputable def Es:TS:=λ_ _ _=>False
theorem yp:PS X st Es:=λ_ _ _ _ _ _ h=>h.elim
end
noncomputable abbrev TG:=V→St→Hp→(St→Hp→Prop)→Prop
def PG (X:Cx)(a:Expr)(t:TG):Prop:=
 ∀(pins:List (Addr×Obj)) (s:Shared) (σ:St) (H:Hp) (v:V) (u:Value) (Q:St→Hp→Prop),Inv X pins σ H s→RelV v u→t v σ H Q→
  wpAny (model X.prog X.w) X.A (lB a X.env u) (λ_ c=>∃b H',Inv X pins b H' c∧Q b H') X.xe s
noncomputable abbrev Dl:=V→V→V→Hp→(Hp→Prop)→Prop
def tG (X:Cx)(t:Dl):Prop:=
 ∀(pins:List (Addr×Obj)) (s:Shared) (σ:St) (H:Hp) (o i v:V) (a b u:Value) (Q:Hp→Prop),Inv X pins σ H s→RelV o a→RelV i b→RelV v u→t o i v H Q→
  wpAny (model X.prog X.w) X.A (IQ a b u) (λ_ c=>∃H',Inv X pins σ H' c∧Q H') X.xe s
noncomputable abbrev Jh:=V→V→Hp→VK→Prop
def Lz (X:Cx)(a:Operator)(t:Jh):Prop:=
 ∀(pins:List (Addr×Obj)) (s:Shared) (σ:St) (H:Hp) (x y:V) (v u:Value) (Q:VK),Inv X pins σ H s→RelV x v→RelV y u→t x y H Q→
  wpAny (model X.prog X.w) X.A (Js a v u) (EP X pins σ Q) X.xe s
section
variable {X:Cx}{pos:Pos}
noncomputable def iS (i:Nat):TG:=λv σ H Q=>Q (σ.set i (some v)) H
theorem oh {i:Nat}{x:Str}(a:X.N.Nodup)(hi:X.N[i]?=some x)(b:Loc X.env.scope x)(c:X.fn x=true∨X.env.scope.names.lookup x=some .local:=by first|exact .inl rfl|exact .inr rfl|assumption):PG X (.Name x pos) (iS i):=by
 intro pins s σ H v u Q I r h;exact IN (jR I a hi b r (λe d=>⟨_,H,d,h⟩) c)
noncomputable def Kk (to a:TE)(t:Dl):TG:=λv σ H Q=>to σ H λo b=>a σ b λi c=>t o i v c λd=>Q σ d
theorem EO {o i:Expr}{to c:TE}{t:Dl}(d:PE X o to)(hi:PE X i c)(hs:tG X t)
  (e:∀v,lB (.Subscript o i pos) X.env v=(do
   let a←W2 [v] (eval o X.env)
   let b←W2 [v,a] (eval i X.env)
   tK pos
   W2 [v,a,b] (IQ a b v)
   release [v,a,b] []):=by intro _;rfl):PG X (.Subscript o i pos) (Kk to c t):=by
 intro pins s σ H v u Q I r h;rw[e];refine f7 (v8 (F0 (d pins s σ H _ I h) λa s1 ⟨x,f,g,j,k⟩=>?_));refine f7 (v8 (F0 (hi pins s1 σ f _ g k) λb s2 ⟨y,l,m,n,p⟩=>?_));refine f7 (lw (f7 (v8 (F0 (hs pins s2 σ l x y v a b u _ m j n r p) λ_ A ⟨q,w,z⟩=>?_))));exact wpAny_release ⟨σ,q,w,z⟩
noncomputable def Bm (a:TE)(g:TG):TS:=λD σ H=>a σ H λx b=>g x σ b D.nx
theorem EL {tg e:Expr}{a:TE}{g:TG}(b:PE X e a)(c:PG X tg g)(hs:Mf [tg] e pos.line X.env=pure false:=by rfl)(d:Mg [tg] e X.env=pure none:=by rfl)
  (f:(assignEach [tg] X.env).map (·.2)=[lB tg X.env]:=by rfl):PS X (.Assign [tg] e pos) (Bm a g):=by
 intro pins s σ H D I h;refine wpAny_Assign_stores (F0 (b pins s σ H _ I h) λv s1 ⟨x,i,j,k,l⟩=>?_) hs d;rw[f];exact F0 (c pins s1 σ i x v _ j k l) λ_ s2 q=>q
theorem yo {i:Nat}{x:Str}{e:Expr}{b:TE}{a:Pos}(c:X.N.Nodup)(hi:X.N[i]?=some x)(d:Loc X.env.scope x)(f:PE X e b)(hs:S8 e (some (.Name x a)) pos.line X.env=pure false:=by rfl)(g:X.fn x=true∨X.env.scope.names.lookup x=some .local:=by first|exact .inl rfl|exact .inr rfl|assumption):
  PS X (.Assign [.Name x a] e pos) (Bm b (iS i)):=by
 intro pins s σ H D I h;refine wpAny_Assign_Name (F0 (f pins s σ H _ I h) λv s1 ⟨y,j,k,l,m⟩=>?_) hs;exact jR k c hi d l (λs2 n=>⟨_,j,n,m⟩) g
noncomputable def JS (i:Nat)(a:TE)(b:Jh):TS:=λD σ H=>∃x,σ[i]?=some (some x)∧a σ H λy c=>b x y c λz d=>D.nx (σ.set i (some z)) d
theorem EK {i:Nat}{x:Str}{e:Expr}{o:TE}{g:Operator}{p:Jh}{b:Pos}(q:X.N.Nodup)(hi:X.N[i]?=some x)(j:Loc X.env.scope x)(t:PE X e o)(B:Lz X g p)(E:X.fn x=true∨X.env.scope.names.lookup x=some .local:=by first|exact .inl rfl|exact .inr rfl|assumption):
  PS X (.AugAssign (.Name x b) g e pos) (JS i o p):=by
 intro pins s σ H D I h;obtain⟨v,F,h⟩:=h;obtain⟨m,G,hl⟩:=I.loc;have n:eR X.env.scope x:=by rcases j with k|k;exact .inl k;exact .inr (.inl k)
 obtain⟨u,r,l⟩:=hl i x v hi F n;refine wpAny_AugAssign_Name ?_;have go:wpAny (model X.prog X.w) X.A (eval e X.env) (λw d=>wpAny (model X.prog X.w) X.A (Js g u w) (λr f=>wpAny (model X.prog X.w) X.A (Jr X.env x r) (λ_=>SP X pins D .next) X.xe f) X.xe d) X.xe s:=by
  refine F0 (t pins s σ H _ I h) λw s1 ⟨y,J,L,O,P⟩=>?_;refine F0 (B pins s1 σ J v y u w _ L r O P) λz s2 ⟨zv,Q,R,S,T⟩=>?_;exact jR R q hi j S (λs3 U=>⟨_,Q,U,T⟩) E
 rcases l with⟨hk,Y⟩ | ⟨hk,c,Z,a⟩
 ·exact DS I.ok.kind hk G Y go
 ·rcases hk with hk|hk
  ·exact Gy I.ok.kind hk Z a go
  ·rcases j with k|k
   ·have:X.env.scope.names.lookup x=some .free:=hk;rw[k]at this;cases this
   ·have:X.env.scope.names.lookup x=some .free:=hk;rw[k]at this;cases this
noncomputable def LY (f:Int→Int→Int):Jh:=λx y H Q=>∃i j,x=.int i∧y=.int j∧Q (.int (f i j)) H
theorem FH:Lz X .Add (LY λi j=>i+j):=by
 intro pins s σ H x y v u Q I a b h;obtain⟨i,j,c,d,q⟩:=h;subst c;subst d;obtain⟨t,rfl⟩:=a;obtain⟨e,rfl⟩:=b;exact iadd_int ⟨.int _,H,I.tok _,⟨_,rfl⟩,q⟩
end
section
variable {X:Cx}{pos:Pos}
noncomputable def Ep (c:TT)(tb:TS):TS:=λD σ H=>∃W:Nat→St→Hp→Prop,(∃m,W m σ H)∧∀m σ H,W m σ H→
 c σ H λb d=>if b=true then∃N:St→Hp→Prop,(∀a H',N a H'→∃e,e<m∧W e a H')∧tb {D with nx:=N,ct:=N,bk:=D.nx} σ d else D.nx σ d
theorem yn {c:Expr}{d:List Stmt}{r:TT}{tb:TS}(t:Jv (model X.prog X.w) X.A X.env X.xe)(z:PT X c r)(B:lA X d tb):PS X (.While c d [] pos) (Ep r tb):=by
 intro pins s σ H D I h;obtain⟨W,⟨E,F⟩,e⟩:=h;refine wpAny_While (codeAny_whileLoop (λn G=>∃g H',Inv X pins g H' G∧W n g H') ?_ E ⟨σ,H,I,F⟩)
 rintro n s1 ⟨σ1,H1,I1,w1⟩
 refine P0 t (F0 (z pins s1 σ1 H1 _ I1 (e n σ1 H1 w1)) λb s2 ⟨u,x,j⟩=>?_);cases b with
 |true=>
  obtain⟨N,y,j⟩:=j;rw[if_pos rfl];refine P0 t (F0 (B pins s2 σ1 u _ x j) λf J k=>?_);cases f with
  |next=>
   obtain⟨a,i,l,m⟩:=k;obtain⟨o,p,q⟩:=y a i m;exact⟨o,p,a,i,l,q⟩
  |cont=>
   obtain⟨a,i,l,m⟩:=k;obtain⟨o,p,q⟩:=y a i m;exact⟨o,p,a,i,l,q⟩
  |brk=>exact k
  |ret v=>exact k
 |false=>
  rw[if_neg D5];exact hF ⟨σ1,u,x,j⟩
end
structure It where
 go:Nat→Hp→Prop
 yld:Nat→Hp→V→Hp→Prop
 stop:Nat→Hp→Prop
def lu (X:Cx)(pins:List (Addr×Obj))(H:Hp)(b:Addr):Prop:=
 H b=none∧b≠X.env.locals∧b∉X.fs∧(b∈X.ex∨X.s₀.heap.objs.size≤b)∧(∀x c,X.env.cells.lookup x=some c→c≠b)∧∀p∈X.pn++pins,p.1≠b
theorem Inv.wQ {X:Cx}{pins:List (Addr×Obj)}{σ:St}{H H':Hp}{s:Shared}{b:Addr}(I:Inv X pins σ H s)(a:s.heap.objs.size≤b)(d:H' b=none):lu X pins H' b:=by
 refine⟨d,r0 (k8 I.lt a),I.Fl a,.inr (l7 I.sz a),λx c e z=>?_,λp f z=>?_⟩
 ·obtain⟨v,q⟩:=I.cell x c e;exact absurd (k8 q.lt (by rw[z];exact a)) (n0 _)
 ·exact absurd (k8 (Heap.lt_size (I.pin p f).1) (by rw[z];exact a)) (n0 _)
structure Turn (P:Program) (w:World) (K:PySem.W.Frag) (tg:Expr) (J:It) (fp:List Addr) (it:Addr) (tn:Nat→Heap→Prop):Prop where
 mem:it∈fp
 obj:∀i h,tn i h→∀b∈fp,∃o,h.get? b=some o∧∀v,o.data≠.cell v
 keep:∀i h h',tn i h→(∀b∈fp,∀o,h.get? b=some o→h'.get? b=some o)→tn i h'
 item:∀(X:Cx),X.prog=P→X.w=w→X.K=K→X.calm=true→∀(i:Nat) (pins:List (Addr×Obj)) (s:Shared) (σ:St) (H:Hp) (E:Value→Shared→Prop),Inv X pins σ H s→(∀b∈fp,lu X pins H b)→tn i s.heap→J.go i H→
  wpAny (model P w) X.A (pyNext (.ref it)) (λr s1=>∃u,r=some u∧
   wpAny (model P w) X.A (hG tg (.ref it) u) (λ_ s2=>∃x H',Inv X pins σ H' s2∧RelV x u∧J.yld i H x H'∧tn (i+1) s2.heap∧∀b∈fp,H' b=none) E s1) E s
 done:∀(X:Cx),X.prog=P→X.w=w→X.K=K→X.calm=true→∀(i:Nat) (pins:List (Addr×Obj)) (s:Shared) (σ:St) (H:Hp) (E:Value→Shared→Prop),Inv X pins σ H s→(∀b∈fp,lu X pins H b)→tn i s.heap→J.stop i H→
  wpAny (model P w) X.A (pyNext (.ref it)) (λr s1=>r=none∧Inv X pins σ H s1) E s
 self:∀(A:Around) (i:Nat) (s:Shared) (Q:Value→Shared→Prop) (E:Value→Shared→Prop),tn i s.heap→Q (.ref it) s→wpAny (model P w) A (LK (.ref it)) Q E s
noncomputable abbrev TI:=St→Hp→(It→Hp→Prop)→Prop
def Kx (X:Cx)(pins:List (Addr×Obj))(σ:St)(tg:Expr)(R:It→Hp→Prop)(a:Value)(s2:Shared):Prop:=
 ∃(it:Addr) (fp:List Addr) (tn:Nat→Heap→Prop) (J:It) (H':Hp),a=.ref it∧Inv X pins σ H' s2∧Turn X.prog X.w X.K tg J fp it tn∧tn 0 s2.heap∧(∀b∈fp,lu X pins H' b)∧R J H'
def PI (X:Cx)(tg iter:Expr)(a:TI):Prop:=
 ∀(pins:List (Addr×Obj)) (s:Shared) (σ:St) (H:Hp) (R:It→Hp→Prop),Inv X pins σ H s→a σ H R→
  wpAny (model X.prog X.w) X.A (eval iter X.env) (λv s1=>wpAny (model X.prog X.w) X.A (LK v) (Kx X pins σ tg R) X.xe s1) X.xe s
theorem dP {M:Model}{A:Around}{E:Value→Shared→Prop}{s:Shared}{tg:Expr}{it:Addr}{u:Value}{o:Obj}{n:String}{vs:Array Value}{Q:Unit→Shared→Prop}(b:s.heap.get? it=some o)(c:o.cls=.type n)(hd:o.data=.fields vs)
    (d:["enumerate","zip","dict_itemiterator","dict_reverseitemiterator","odict_iterator","itertools.zip_longest","itertools.pairwise"].contains n=false) (a:Q () s):wpAny M A (hG tg (.ref it) u) Q E s:=by
  unfold hG;cases tg<;>first
    |exact i3 a
    | (cases u<;>first
        |exact i3 a
        | (refine f7 (GL b ?_)
           rw[c,hd];show wpAny M A (if(["enumerate","zip","dict_itemiterator","dict_reverseitemiterator","odict_iterator","itertools.zip_longest","itertools.pairwise"].contains n&&vs[0]?==some (rawInt _))=true then _ else _) Q E s;rw[if_neg (by intro h;rw[d,bL]at h;cases h)];exact i3 a))
noncomputable def Jn (K:PySem.W.Frag)(a:Addr):It:=
 ⟨λi H=>∃xs x,P8 K H a xs∧xs[i]?=some x,λi H x H'=>H'=H∧∀xs,P8 K H a xs→xs[i]?=some x,λi H=>∃xs,P8 K H a xs∧xs.length≤i⟩
noncomputable def Jm (K:PySem.W.Frag)(a:Addr):It:=
 ⟨λi H=>∃xs x,bn K H a xs∧xs[i]?=some x,λi H x H'=>H'=H∧∀xs,bn K H a xs→xs[i]?=some x,λi H=>∃xs,bn K H a xs∧xs.length≤i⟩
noncomputable def IH (lo:Int)(n:Nat):It:=⟨λi _=>i<n,λi H x H'=>H'=H∧x=.int (lo+i),λi _=>n≤i⟩
theorem vz {P:Program}{w:World}{K:PySem.W.Frag}{tg:Expr}(a it:Addr):Turn P w K tg (Jn K a) [it] it (λi h=>h.IsListIter it a i) where
 mem:=by simp
 obj:=λi h st b f=>by
  have e:b=it:=by simpa using f
  subst e;obtain⟨o,e,c,d⟩:=st;exact⟨o,e,λv z=>by rw[d]at z;cases z⟩
 keep:=λi h h' st k=>st.at λo e=>k it (by simp) o e
 item:=by
  intro X m n q J i pins s σ H E I j st r;subst m n q;obtain⟨xs,x,l,t⟩:=r;obtain⟨y,A,p,L⟩:=I.list l;obtain⟨u,N,O⟩:=A.get t;obtain⟨f0,f1,Q,B,F,G⟩:=j it (by simp);refine AO st p.isList (x:=u) (by simpa using N) λh' g R=>?_;have S:Inv X pins σ H {s with heap:=h'}:=I.turned (t':=s.toks) (λb o f e=>(R.2 b f).trans e) f0 f1 B F G;obtain⟨o,e,c,d⟩:=id g;exact⟨u,rfl,dP (s:={s with heap:=h'}) e c d (by decide) ⟨x,H,S,O,⟨rfl,λY T=>by rw[I.gJ T l];exact t⟩,g,λb f=>(j b f).1⟩⟩
 done:=by
  intro X m n q J i pins s σ H E I j st r;subst m n q;obtain⟨xs,l,t⟩:=r;obtain⟨y,A,p,L⟩:=I.list l;obtain⟨f0,f1,Q,B,F,G⟩:=j it (by simp);have hl:=A.length;exact Dq (I.ok.hd J) st p.isList (by simp;omega) λh' U=>⟨rfl,I.turned (t':=s.toks) (λb o f e=>U b o f e) f0 f1 B F G⟩
 self:=λ_ _ _ _ _ st h=>wpAny_pyIter_listiter st h
theorem rD {P:Program}{w:World}{K:PySem.W.Frag}{tg:Expr}(a it:Addr):Turn P w K tg (Jm K a) [it] it (λi h=>h.IsTupleIter it a i) where
 mem:=by simp
 obj:=λi h st b f=>by
  have e:b=it:=by simpa using f
  subst e;obtain⟨o,e,c,d⟩:=st;exact⟨o,e,λv z=>by rw[d]at z;cases z⟩
 keep:=λi h h' st k=>st.at λo e=>k it (by simp) o e
 item:=by
  intro X n q r J i pins s σ H E I l st t;subst n q r;obtain⟨xs,x,m,y⟩:=t;obtain⟨g,A,p,L⟩:=I.tuple m;obtain⟨u,N,O⟩:=A.get y;obtain⟨f0,f1,Q,B,F,G⟩:=l it (by simp);refine wpAny_pyNext_tuple_item st (show s.heap.IsTuple a g.toArray from p) (x:=u) (by simpa using N) λh' j R=>?_;have S:Inv X pins σ H {s with heap:=h'}:=I.turned (t':=s.toks) (λb o f e=>(R.2 b f).trans e) f0 f1 B F G;obtain⟨o,e,c,d⟩:=id j;exact⟨u,rfl,dP (s:={s with heap:=h'}) e c d (by decide) ⟨x,H,S,O,⟨rfl,λY T=>by rw[I.hV T m];exact y⟩,j,λb f=>(l b f).1⟩⟩
 done:=by
  intro X n q r J i pins s σ H E I l st t;subst n q r;obtain⟨xs,m,y⟩:=t;obtain⟨g,A,p,L⟩:=I.tuple m;obtain⟨f0,f1,Q,B,F,G⟩:=l it (by simp);have hl:=A.length;exact wpAny_pyNext_tuple_end (I.ok.hd J) st (show s.heap.IsTuple a g.toArray from p) (by simp;omega) λh' U=>⟨rfl,I.turned (t':=s.toks) (λb o f e=>U b o f e) f0 f1 B F G⟩
 self:=λ_ _ _ _ _ st h=>wpAny_pyIter_tupleiter st h
theorem rE {P:Program}{w:World}{K:PySem.W.Frag}{tg:Expr}(it:Addr)(lo:Int)(n:Nat):Turn P w K tg (IH lo n) [it] it (λi h=>rj h it (lo+(i:Nat)*1) ((n:Int)-(i:Nat)) 1) where
 mem:=by simp
 obj:=λi h st b a=>by
  have e:b=it:=by simpa using a
  subst e;exact⟨_,st,λv z=>by
   have x:Data.fields _=Data.cell v:=z;cases x⟩
 keep:=λi h h' st k=>k it (by simp) _ st
 item:=by
  intro X f g j l i pins s σ H E I d st m;subst f g j;obtain⟨f0,f1,y,p,q,r⟩:=d it (by simp);have W:=IR (prog:=X.prog) (w:=X.w) (I.ok.hd l) it lo 1 n;refine W.item i s _ _ m st λv h' u A c B=>?_;obtain⟨t,rfl⟩:=A;have F:Inv X pins σ H {s with heap:=h',toks:=u}:=I.turned (λb o a e=>B b o (by simpa using a) e) f0 f1 p q r;refine⟨_,rfl,dP (s:={s with heap:=h',toks:=u}) (n:="range_iterator") c rfl rfl (by decide) ⟨.int (lo+i),H,F,⟨t,?_⟩,⟨rfl,rfl⟩,c,λb a=>(d b a).1⟩⟩;rw[Lp]
 done:=by
  intro X f g j l i pins s σ H E I d st m;subst f g j;obtain⟨f0,f1,y,p,q,r⟩:=d it (by simp);exact AN (I.ok.hd l) st (by have:n≤i:=m;omega) λh' G=>⟨rfl,I.turned (t':=s.toks) (λb o a e=>G b o a e) f0 f1 p q r⟩
 self:=λ_ _ _ _ _ st h=>AQ st h
section
variable {X:Cx}{tg:Expr}
theorem pZ {pins:List (Addr×Obj)}{σ:St}{H:Hp}{s:Shared}{R:It→Hp→Prop}{E:Value→Shared→Prop}{lo hi:Int}{t u v:Tok}{a:Nat}(I:Inv X pins σ H s)(d:-(2 ^ 62)≤lo)(f:lo<2 ^ 62)(g:-(2 ^ 62)≤hi)(h:hi<2 ^ 62)
  (q:R (IH lo (hi-lo).toNat) H):wpAny (model X.prog X.w) X.A (LK (.ref s.heap.objs.size)) (Kx X pins σ tg R) E {s with heap:=s.heap.push {cls:=.type "range",data:=.fields #[.int lo t,.int hi u,.int 1 v]},toks:=a}:=by
 refine GK (rp ..) (small_one d f g h) ?_;have c:Inv X pins σ H {s with heap:=s.heap.push {cls:=.type "range",data:=.fields #[.int lo t,.int hi u,.int 1 v]},toks:=a}:=I.kept λb o e=>Heap.get?_push_of_some _ e;refine⟨(s.heap.push {cls:=.type "range",data:=.fields #[.int lo t,.int hi u,.int 1 v]}).objs.size,[(s.heap.push {cls:=.type "range",data:=.fields #[.int lo t,.int hi u,.int 1 v]}).objs.size],_,_,H,rfl,
  c.kept (t':=a) λb o e=>Heap.get?_push_of_some _ e,rE _ lo (hi-lo).toNat,?_,λb i=>?_,q⟩
 ·have j:lo+((0:Nat):Int)*1=lo:=by simp
  have k:(((hi-lo).toNat:Nat):Int)-((0:Nat):Int)=P9 lo hi 1:=by rw[Mi];split<;>omega
  show rj _ _ (lo+((0:Nat):Int)*1) ((((hi-lo).toNat:Nat):Int)-((0:Nat):Int)) 1;rw[j,k];exact Heap.get?_push_size _ rfl
 ·have e:b=(s.heap.push {cls:=.type "range",data:=.fields #[.int lo t,.int hi u,.int 1 v]}).objs.size:=by simpa using i
  subst e;exact c.wQ (g8 _) (c.hok.fresh (g8 _))
noncomputable def Ib (a:TA):TI:=λσ H R=>a σ H λvs b=>∃j:Int,vs=[.int j]∧-(2 ^ 62)≤j∧j<2 ^ 62∧R (IH 0 j.toNat) b
noncomputable def Ia (a:TA):TI:=λσ H R=>a σ H λvs b=>∃i j:Int,vs=[.int i,.int j]∧(-(2 ^ 62)≤i∧i<2 ^ 62∧-(2 ^ 62)≤j∧j<2 ^ 62)∧R (IH i (j-i).toNat) b
theorem vV {a:Expr}{c:TA}{p pos:Pos}(d:Gl X "range") (f:X.mg "range"=none) (g:PA X [a] c) (hs:f9 [a] X.env=[(false,eval a X.env)]:=by rfl):PI X tg (.Call (.Name "range" p) [a] [] pos) (Ib c):=by
 intro pins s σ H R I h;refine Call_ (V6 I d f vp (m4 (F0 (g pos pins s σ H _ I h) λus s1 ⟨vs,n,i,k,b⟩=>?_) hs rfl));obtain⟨j,e,b,l,q⟩:=b;subst e;cases k with
 |cons r m=>
  cases m;obtain⟨t,rfl⟩:=r;exact call_range_1 (pZ i (by omega) (by omega) b l (by simpa using q))
theorem vU {a b:Expr}{g:TA}{p pos:Pos}(k:Gl X "range") (l:X.mg "range"=none) (m:PA X [a,b] g) (hs:f9 [a,b] X.env=[(false,eval a X.env),(false,eval b X.env)]:=by rfl) (c:f9 [b] X.env=[(false,eval b X.env)]:=by rfl):
  PI X tg (.Call (.Name "range" p) [a,b] [] pos) (Ia g):=by
 intro pins s σ H R I h;refine Call_ (V6 I k l vp (m4 (F0 (m pos pins s σ H _ I h) λus s1 ⟨vs,y,n,o,d⟩=>?_) (by rw[hs,c]) (by rw[c];rfl)));obtain⟨i,j,e,⟨d,u,v,w⟩,q⟩:=d;subst e;cases o with
 |cons r f=>
  cases f with
  |cons x f=>
   cases f;obtain⟨t,rfl⟩:=r;obtain⟨z,rfl⟩:=x;exact Na (pZ n d u v w q)
noncomputable def JQ (d:TI)(g:TG)(tb:TS):TS:=λD σ H=>d σ H λJ e=>∃W:Nat→Nat→St→Hp→Prop,(∃m,W 0 m σ e)∧∀i m σ H,W i m σ H→
 (J.stop i H∧D.nx σ H)∨(J.go i H∧∃N:St→Hp→Prop,(∀a H',N a H'→∃c,c<m∧W (i+1) c a H')∧∀x H',J.yld i H x H'→g x σ H' λb f=>tb {D with nx:=N,ct:=N,bk:=D.nx} b f)
noncomputable def km (fp:List Addr)(h:Heap):List (Addr×Obj):=fp.filterMap λb=>(h.get? b).map λo=>(b,o)
theorem cH {fp:List Addr}{h:Heap}{b:Addr}{o:Obj}(a:b∈fp)(e:h.get? b=some o):(b,o)∈km fp h:=List.mem_filterMap.mpr ⟨b,a,by rw[e];rfl⟩
theorem we {fp:List Addr}{h:Heap}{p:Addr×Obj}(a:p∈km fp h):p.1∈fp∧h.get? p.1=some p.2:=by
 obtain⟨b,c,e⟩:=List.mem_filterMap.mp a;cases q:h.get? b with
 |none=>rw[q]at e;cases e
 |some o=>
  rw[q]at e;have d:(b,o)=p:=i9 e;subst d;exact⟨c,q⟩
theorem Inv.pinned {pins:List (Addr×Obj)}{σ:St}{H:Hp}{s:Shared}{fp:List Addr}(I:Inv X pins σ H s)(f:∀b∈fp,lu X pins H b)(g:∀b∈fp,∃o,s.heap.get? b=some o∧∀v,o.data≠.cell v):Inv X (pins++km fp s.heap) σ H s:=
 I.gy λp h=>(List.mem_append.mp h).elim (λz=>I.pin p (List.mem_append_right _ z)) λz=>by
  obtain⟨a,e⟩:=we z;obtain⟨f0,f1,i,_⟩:=f p.1 a;obtain⟨o,c,d⟩:=g p.1 a;rw[e]at c;cases c;exact⟨e,f0,f1,i,d⟩
theorem Inv.gb {pins a:List (Addr×Obj)}{σ:St}{H:Hp}{s:Shared}(I:Inv X (pins++a) σ H s):Inv X pins σ H s:=I.gy λp b=>I.pin p (List.mem_append_right _ (List.mem_append_left _ b))
theorem EJ {iter:Expr}{q:List Stmt}{Q:TI}{g:TG}{tb:TS}{pos:Pos}(z:Jv (model X.prog X.w) X.A X.env X.xe)(R:X.calm=true)(hi:PI X tg iter Q)(hg:PG X tg g)(c:lA X q tb)
  (hs:∀x,foldedSetIterable iter X.env x=pure x:=by intro _;rfl):PS X (.For tg iter q [] pos) (JQ Q g tb):=by
 intro pins s σ H D I h;refine wpAny_For (F0 (hi pins s σ H _ I h) λv s1 h1=>F0 h1 λa0 s2 h2=>?_) hs;obtain⟨it,fp,tn,J,H2,e,I2,T,F,S,W,⟨m0,w0⟩,B⟩:=h2;subst e
 
 have j:∀{H':Hp},(∀b∈fp,H' b=none)→∀b∈fp,lu X pins H' b:=λhn b c=>⟨hn b c,(S b c).2⟩
 refine codeAny_forLoop_any (λn U=>∃i k H',Inv X pins k H' U∧tn i U.heap∧(∀b∈fp,H' b=none)∧W i n k H') ?_ m0 ⟨0,σ,H2,I2,F,λb c=>(S b c).1,w0⟩
 rintro n s3 ⟨i,σ3,H3,I3,st3,fr3,w3⟩
 rcases B i n σ3 H3 w3 with⟨stop,qn⟩ | ⟨go,N,hN,step⟩
 ·refine P0 z (F0 (T.done X rfl rfl rfl R i pins s3 σ3 H3 X.xe I3 (j fr3) st3 stop) λr s4 ⟨hr,I4⟩=>?_);subst hr;exact hF ⟨σ3,H3,I4,qn⟩
 ·refine P0 z (F0 (T.item X rfl rfl rfl R i pins s3 σ3 H3 X.xe I3 (j fr3) st3 go) λr s4 ⟨u,hr,h4⟩=>?_);subst hr;refine P0 z (F0 h4 λ_ Y ⟨x,Z,I5,r5,y5,y,G⟩=>?_);have L:=I5.pinned (j G) (T.obj _ _ y);refine P0 z (F0 (hg _ Y σ3 Z x u _ L r5 (step x Z y5)) λ_ s6 ⟨O,H6,I6,q6⟩=>?_);refine P0 z (F0 (c _ s6 O H6 _ I6 q6) λf P t=>?_);have again:∀{a:St} {l:Hp},Inv X (pins++km fp Y.heap) a l P→N a l→∃m,m<n∧∃i k H',Inv X pins k H' P∧tn i P.heap∧(∀b∈fp,H' b=none)∧W i m k H':=λ{a l} p E=>by
   obtain⟨m',hm,w7⟩:=hN a l E;refine⟨m',hm,i+1,a,l,p.gb,T.keep _ _ _ y λb c o e=>(p.pin (b,o) (List.mem_append_right _ (List.mem_append_right _ (cH c e)))).1,λb c=>?_,w7⟩;obtain⟨o,e,d⟩:=T.obj _ _ y b c;exact(p.pin (b,o) (List.mem_append_right _ (List.mem_append_right _ (cH c e)))).2.1
  cases f with
  |next=>obtain⟨a,l,p,E⟩:=t;exact again p E
  |cont=>obtain⟨a,l,p,E⟩:=t;exact again p E
  |brk=>obtain⟨a,l,p,t⟩:=t;exact⟨a,l,p.gb,t⟩
  |ret v=>obtain⟨x7,a,l,p,r7,t⟩:=t;exact⟨x7,a,l,p.gb,r7,t⟩
end
noncomputable abbrev R2:=V→V→Hp→VK→Prop
def eS (X:Cx)(f:Value→Value→Sem Value)(r:R2):Prop:=
 ∀(pins:List (Addr×Obj)) (s:Shared) (σ:St) (H:Hp) (x y:V) (v u:Value) (Q:VK),Inv X pins σ H s→RelV x v→RelV y u→r x y H Q→
  wpAny (model X.prog X.w) X.A (f v u) (EP X pins σ Q) X.xe s
def Jg (X:Cx)(f:Value→Sem Value)(r:V→Hp→VK→Prop):Prop:=
 ∀(pins:List (Addr×Obj)) (s:Shared) (σ:St) (H:Hp) (x:V) (v:Value) (Q:VK),Inv X pins σ H s→RelV x v→r x H Q→
  wpAny (model X.prog X.w) X.A (f v) (EP X pins σ Q) X.xe s
def J2 (X:Cx)(f:Value)(r:List V→Hp→VK→Prop):Prop:=
 ∀(pins:List (Addr×Obj)) (s:Shared) (σ:St) (H:Hp) (xs:List V) (us:List Value) (Q:VK),Inv X pins σ H s→Vals xs us→r xs H Q→
  wpAny (model X.prog X.w) X.A (call f us) (EP X pins σ Q) X.xe s
def Kt (X:Cx)(r:V→Hp→(Bool→Hp→Prop)→Prop):Prop:=
 ∀(pins:List (Addr×Obj)) (s:Shared) (σ:St) (H:Hp) (x:V) (v:Value) (Q:Bool→Hp→Prop),Inv X pins σ H s→RelV x v→r x H Q→
  wpAny (model X.prog X.w) X.A (truthy v) (TP X pins σ Q) X.xe s
noncomputable def Hd (r:R2)(a tb:TE):TE:=λσ H Q=>a σ H λx b=>tb σ b λy c=>r x y c Q
noncomputable def Lv (r:V→Hp→VK→Prop)(a:TE):TE:=λσ H Q=>a σ H λx b=>r x b Q
noncomputable def rI (C:Int→Int→Prop)(g:Int→Int→V):R2:=λx y H Q=>∃i j,x=.int i∧y=.int j∧C i j∧Q (g i j) H
noncomputable def AJ (g:Int→Int→V):R2:=λx y H Q=>∃i j,x=.int i∧y=.int j∧Q (g i j) H
noncomputable def rU (g:Int→V):V→Hp→VK→Prop:=λx H Q=>∃i,x=.int i∧Q (g i) H
section
variable {X:Cx}{a b c:Expr}{ta tb tc:TE}{pos:Pos}
theorem Gi (i:PE X a ta)(j:PE X b tb){pins:List (Addr×Obj)}{s:Shared}{σ:St}{H:Hp}{R:V→V→Hp→Prop}(I:Inv X pins σ H s)
  (h:ta σ H λx g=>tb σ g λy c=>R x y c) {Q:Value→Shared→Prop} {f:Value→Value→Sem Value}
  (k:∀v u s2 x y c,Inv X pins σ c s2→RelV x v→RelV y u→R x y c→wpAny (model X.prog X.w) X.A (f v u) Q X.xe s2):
  wpAny (model X.prog X.w) X.A (eval a X.env) (λv d=>wpAny (model X.prog X.w) X.A (eval b X.env) (λu e=>wpAny (model X.prog X.w) X.A (f v u) Q X.xe e) X.xe d) X.xe s:=by
 refine F0 (i pins s σ H _ I h) λv s1 ⟨x,g,l,m,n⟩=>?_;refine F0 (j pins s1 σ g _ l n) λu s2 ⟨y,c,o,p,q⟩=>?_;exact k v u s2 x y c o m p q
theorem HB {c:Operator}{r:R2}(d:eS X (dh c) r)(e:PE X a ta)(f:PE X b tb):PE X (.BinOp a c b pos) (Hd r ta tb):=by
 intro pins s σ H Q I h;exact wpAny_BinOp (Gi e f I h λv u s2 x y g i j k q=>d pins s2 σ g x y v u Q i j k q)
theorem DF {b:UnaryOp}{r:V→Hp→VK→Prop}(c:Jg X (MT b) r)(d:PE X a ta):PE X (.UnaryOp b a pos) (Lv r ta):=by
 intro pins s σ H Q I h;exact UnaryOp_ (F0 (d pins s σ H _ I h) λv s1 ⟨x,e,f,g,i⟩=>c pins s1 σ e x v Q f g i)
theorem Kc {f:Value→Value→Sem Value}{C:Int→Int→Prop}{g:Int→Int→Int}
  (rule:∀(i j:Int) (t u:Tok) (s:Shared) (Q:Value→Shared→Prop) (E:Value→Shared→Prop),C i j→Q (.int (g i j) s.toks) {s with toks:=s.toks+1}→wpAny (model X.prog X.w) X.A (f (.int i t) (.int j u)) Q E s):
  eS X f (rI C λi j=>.int (g i j)):=by
 intro pins s σ H x y v u Q I a b h;obtain⟨i,j,rfl,rfl,c,q⟩:=h;obtain⟨t,rfl⟩:=a;obtain⟨d,rfl⟩:=b;exact rule i j t d s _ _ c ⟨.int (g i j),H,I.tok _,⟨_,rfl⟩,q⟩
theorem HN {f:Value→Value→Sem Value}{g:Int→Int→Int}
  (rule:∀(i j:Int) (t u:Tok) (s:Shared) (Q:Value→Shared→Prop) (E:Value→Shared→Prop),Q (.int (g i j) s.toks) {s with toks:=s.toks+1}→wpAny (model X.prog X.w) X.A (f (.int i t) (.int j u)) Q E s):
  eS X f (AJ λi j=>.int (g i j)):=by
 intro pins s σ H x y v u Q I a b h;obtain⟨i,j,rfl,rfl,q⟩:=h;obtain⟨t,rfl⟩:=a;obtain⟨c,rfl⟩:=b;exact rule i j t c s _ _ ⟨.int (g i j),H,I.tok _,⟨_,rfl⟩,q⟩
theorem Fi {f:Value→Value→Sem Value}{g:Int→Int→Bool}
  (rule:∀(i j:Int) (t u:Tok) (s:Shared) (Q:Value→Shared→Prop) (E:Value→Shared→Prop),Q (.bool (g i j)) s→wpAny (model X.prog X.w) X.A (f (.int i t) (.int j u)) Q E s):
  eS X f (AJ λi j=>.bl (g i j)):=by
 intro pins s σ H x y v u Q I a b h;obtain⟨i,j,rfl,rfl,q⟩:=h;obtain⟨t,rfl⟩:=a;obtain⟨c,rfl⟩:=b;exact rule i j t c s _ _ ⟨.bl (g i j),H,I,rfl,q⟩
def rh (i j:Int):Prop:=0<j∧j<1073741824
def rg (i j:Int):Prop:=(-(2 ^ 64)<i∧i<2 ^ 64)∨(-(2 ^ 64)<j∧j<2 ^ 64)
theorem rg.ok {i j:Int}(h:rg i j):IntMulOk i j:=by
 rcases h with⟨a,b⟩ | ⟨a,b⟩
 ·exact .of_left (Mj a b)
 ·exact .of_right (Mj a b)
theorem Fh:eS X (dh .Add) (AJ λi j=>.int (i+j)):=HN λ_ _ _ _ _ _ _ q=>add_int q
theorem Fd:eS X (dh .Sub) (AJ λi j=>.int (i-j)):=HN λ_ _ _ _ _ _ _ q=>sub_int q
theorem Ff:eS X (dh .Mult) (rI rg λi j=>.int (i*j)):=Kc λ_ _ _ _ _ _ _ a q=>mul_int q a.ok
theorem BY:eS X (dh .FloorDiv) (rI rh λi j=>.int (i / j)):=Kc λi j _ _ _ _ _ a q=>by
 have b:(0:Int)<j:=a.1;have c:j<1073741824:=a.2;exact floordiv_int (by omega) (by rw[Int.fdiv_eq_ediv_of_nonneg i (by omega)];exact q) (.inl (PyProof.noPylong_small (by omega)))
theorem Fg:eS X (dh .Mod) (rI (λ_ j=>0<j) λi j=>.int (i % j)):=Kc λi j _ _ _ _ _ a q=>by
 have b:(0:Int)<j:=a;exact mod_int' (by omega) (by rw[Int.fmod_eq_emod_of_nonneg i (by omega)];exact q)
theorem LR {f:Value→Sem Value}{g:Int→Int}
  (rule:∀(i:Int) (t:Tok) (s:Shared) (Q:Value→Shared→Prop) (E:Value→Shared→Prop),Q (.int (g i) s.toks) {s with toks:=s.toks+1}→wpAny (model X.prog X.w) X.A (f (.int i t)) Q E s):
  Jg X f (rU λi=>.int (g i)):=by
 intro pins s σ H x v Q I a h;obtain⟨i,rfl,q⟩:=h;obtain⟨t,rfl⟩:=a;exact rule i t s _ _ ⟨.int (g i),H,I.tok _,⟨_,rfl⟩,q⟩
theorem xA:Jg X (MT .USub) (rU λi=>.int (-i)):=LR λ_ _ _ _ _ q=>neg_int q
end
section
variable {X:Cx}{a b c:Expr}{ta tb tc:TE}{pos:Pos}
theorem fH {pins:List (Addr×Obj)}{σ:St}{H:Hp}{s:Shared}{Q:VK}{k a:Bool}(I:Inv X pins σ H s)(q:Q (.bl k) H)(e:k=a):EP X pins σ Q (.bool a) s:=by
 subst e;exact⟨.bl k,H,I,rfl,q⟩
theorem HL:eS X (v7 .Lt) (AJ λi j=>.bl (decide (i<j))):=Fi λ_ _ _ _ _ _ _ q=>lt_int q
theorem HM:eS X (v7 .LtE) (AJ λi j=>.bl (decide (i≤j))):=Fi λ_ _ _ _ _ _ _ q=>le_int q
theorem DI:eS X (v7 .Gt) (AJ λi j=>.bl (decide (j<i))):=Fi λ_ _ _ _ _ _ _ q=>gt_int q
theorem mO:eS X (v7 .In) (λx y H Q=>∃i j,x=.str i∧y=.str j∧Q (.bl (!(A2 j i 0 j.length 1).isEmpty)) H):=by
 intro pins s σ H x y v u Q I a b h;obtain⟨i,j,rfl,rfl,q⟩:=h;obtain⟨t,rfl⟩:=a;obtain⟨c,rfl⟩:=b;exact in_str (fH I q rfl)
theorem eS.or {f:Value→Value→Sem Value}{r a:R2}(h:eS X f r)(h':eS X f a):eS X f (λx y H Q=>r x y H Q∨a x y H Q):=by
 intro pins s σ H x y v u Q I b c q;rcases q with q|q
 ·exact h pins s σ H x y v u Q I b c q
 ·exact h' pins s σ H x y v u Q I b c q
theorem fD (b:Expr){a:CmpOp}(h:a≠.In:=by decide)(c:a≠.NotIn:=by decide):y4 a b=false:=by
 have d:(a==CmpOp.In)=false:=by cases a<;>first|rfl|exact absurd rfl h
 have e:(a==CmpOp.NotIn)=false:=by cases a<;>first|rfl|exact absurd rfl c
 cases b<;>simp[y4,d,e]
theorem BR {c:CmpOp}{r:R2}(d:eS X (v7 c) r)(e:PE X a ta)(f:PE X b tb)(g:y4 c b=false):PE X (.Compare a [c] [b] pos) (Hd r ta tb):=by
 intro pins s σ H Q I h;exact wpAny_Compare1 (Gi e f I h λv u s2 x y i j k l q=>d pins s2 σ i x y v u Q j k l q) g
noncomputable def Hb (t:TE):TT:=λσ H Q=>t σ H λx H'=>∃k,x=.bl k∧Q k H'
theorem BE {d:CmpOp}{r:R2}(f:eS X (v7 d) r)(g:PE X a ta)(i:PE X b tb)(j:y4 d b=false):PT X (.Compare a [d] [b] pos) (Hb (Hd r ta tb)):=by
 intro pins s σ H Q I h;refine Ds (F0 (g pins s σ H _ I h) λv s1 ⟨x,l,m,n,o⟩=>F0 (i pins s1 σ l _ m o) λu s2 ⟨y,p,q,t,w⟩=>
  F0 (f pins s2 σ p x y v u _ q n t w) λc G ⟨z,A,B,E,k,e,F⟩=>?_) j
 subst e;cases E;exact J3 ⟨A,B,F⟩
def Dk (K:PySem.W.Frag)(x:V)(H:Hp)(k:Bool):Prop:=
 match x with
 |.v1=>k=false
 |.bl b=>k=b
 |.int i=>k=(i != 0)
 |.str y=>y.length≤sizeLine∧k=((y.length:Int) != 0)
 |.byt y=>y.size≤sizeLine∧k=((y.size:Int) != 0)
 |.ref p=>(∃xs,P8 K H p xs∧k=!xs.isEmpty)∨(∃xs,bn K H p xs∧k=!xs.isEmpty)∨∃kvs,H p=some (.dK kvs)∧k=!kvs.isEmpty
 |_=>False
theorem sE {a:Type}{kvs:List (a×V)}{vs:List (a×Value)}(r:KV kvs vs):(!vs.isEmpty)=!kvs.isEmpty:=by
 cases r<;>rfl
theorem kE {xs:List V}{a:List Value}(r:Vals xs a):(!a.toArray.isEmpty)=!xs.isEmpty:=by
 cases r<;>simp
theorem fE:(sizeLine:Nat)<2 ^ 63:=by rw[u5];decide
theorem Ei:Kt X (λx H Q=>∃k,Dk X.K x H k∧Q k H):=by
 intro pins s σ H x v Q I d h;obtain⟨k,e,q⟩:=h;have hl:=fE;have hs:sizeLine=16777216:=u5;cases x with
 |v1=>
  cases d;have a:k=false:=e;subst a;exact truthy_none ⟨H,I,q⟩
 |bl b=>
  cases d;have a:k=b:=e;subst a;exact J3 ⟨H,I,q⟩
 |int i=>
  obtain⟨t,rfl⟩:=d;have a:k=(i != 0):=e;subst a;exact PySem.P.truthy_int ⟨H,I,q⟩
 |str y=>
  obtain⟨t,rfl⟩:=d;obtain⟨n,a⟩:y.length≤sizeLine∧k=((y.length:Int) != 0):=e;subst a;exact PySem.P.truthy_str (by omega) ⟨H,I.tok _,q⟩
 |byt y=>
  obtain⟨t,rfl⟩:=d;obtain⟨n,a⟩:y.size≤sizeLine∧k=((y.size:Int) != 0):=e;subst a;exact PySem.W.truthy_bytes (by omega) ⟨H,I.tok _,q⟩
 |ref p=>
  cases d;have a:(∃xs,P8 X.K H p xs∧k=!xs.isEmpty)∨(∃xs,bn X.K H p xs∧k=!xs.isEmpty)∨∃kvs,H p=some (.dK kvs)∧k=!kvs.isEmpty:=e;rcases a with⟨xs,f,a⟩ | ⟨xs,f,a⟩ | ⟨kvs,f,a⟩
  ·subst a;obtain⟨g,r,j,l⟩:=I.list f;have c:=r.length;exact wpAny_truthy_list j.isList (by simp only[List.size_toArray];omega) ⟨H,I.tok _,by rw[kE r];exact q⟩
  ·subst a;obtain⟨g,r,j,l⟩:=I.tuple f;have c:=r.length;exact truthy_tuple j (by simp only[List.size_toArray];omega) ⟨H,I.tok _,by rw[kE r];exact q⟩
  ·subst a;obtain⟨l,o,vs,r,m⟩:kvs.length≤sizeLine∧(p==O1)=false∧∃vs,KV kvs vs∧s.heap.DictOf (u1 X.prog X.w) p vs:=I.hok p _ f;have c:kvs.length=vs.length:=Paired.length r;exact wpAny_truthy_dict o m (by omega) ⟨H,I.tok _,by rw[sE r];exact q⟩
 |_=>exact(show False from e).elim
theorem yj (c:PE X a ta)(d:∀b,AV a X.env b=(do let v←b;tK a.pos;W2 [v] (truthy v))):
  PT X a (λσ H Q=>ta σ H λx H'=>∃k,Dk X.K x H' k∧Q k H'):=by
 intro pins s σ H Q I h;exact isTrue_plain (F0 (c pins s σ H _ I h) λv s1 ⟨x,e,f,g,i⟩=>Ei pins s1 σ e x v Q f g i) (d _)
theorem rY:eS X (dh .Add) (λx y H Q=>∃i j,x=.str i∧y=.str j∧i.length+j.length≤sizeLine∧Q (.str (i++j)) H):=by
 intro pins s σ H x y v u Q I a b h;obtain⟨i,j,rfl,rfl,c,q⟩:=h;obtain⟨t,rfl⟩:=a;obtain⟨d,rfl⟩:=b;exact add_str (λd e=>⟨.str (i++j),H,I.tok _,⟨_,rfl⟩,q⟩) c
theorem vals1 {x:V}{us:List Value}(r:Vals [x] us):∃u,us=[u]∧RelV x u:=by
 cases r with
 |cons a b=>cases b;exact⟨_,rfl,a⟩
theorem vals2 {x y:V}{us:List Value}(r:Vals [x,y] us):∃u a,us=[u,a]∧RelV x u∧RelV y a:=by
 cases r with
 |cons b c=>
  cases c with
  |cons d e=>cases e;exact⟨_,_,rfl,b,d⟩
theorem Ao:J2 X (.builtin "abs") (λxs H Q=>∃i,xs=[.int i]∧Q (.int (if i<0 then -i else i)) H):=by
 intro pins s σ H xs us Q I r h;obtain⟨i,rfl,q⟩:=h;obtain⟨u,rfl,t,rfl⟩:=vals1 r;exact call_abs_int λu a=>⟨.int (if i<0 then -i else i),H,I.tok _,⟨_,rfl⟩,q⟩
end
structure tH (h:Heap) (x dx C:Addr) (mA:Str→Option Value):Prop where
 obj:h.get? x=some (PySem.W.instObj C dx)
 ns:h.Ns1 dx mA
 ne:dx≠x
theorem wr {h:Heap}{dx:Addr}{mA:Str→Option Value}(n:h.Ns1 dx mA):∃od,h.get? dx=some od∧∀name,PySem.W.lookIn name od=some (mA name):=by
 obtain⟨o,es,i,c,hd,hk,_,d⟩:=n;refine⟨o,c,λname=>?_⟩;have e:=d name;unfold nsFind findBy at e;rw[←Array.find?_toList]at e;unfold PySem.W.lookIn;rw[hd];dsimp only;split
 ·rename_i y q;rw[q]at e;exact congrArg some e
 ·rename_i q;rw[q]at e;have a:es.toList.any (·.refKey)=false:=by
   rw[List.any_eq_false];intro y f;obtain⟨z,t,b⟩:=hk y (Array.mem_toList_iff.mp f);simp[Nc,b]
  have g:¬es.toList.any (·.refKey)=true:=by rw[a];exact D5
  rw[if_neg g];exact congrArg some e
theorem tH.look {h:Heap}{x dx C:Addr}{mA:Str→Option Value}(I:tH h x dx C mA):∃od,PySem.W.InstAt h x (PySem.W.instObj C dx) C (some od)∧∀name,PySem.W.lookIn name od=some (mA name):=
 let⟨od,a,hl⟩:=wr I.ns
 ⟨od,⟨I.obj,rfl,rfl,a⟩,hl⟩
section
variable {prog:Program}{w:World}{A:Around}{E:Value→Shared→Prop}{s:Shared}{K:PySem.W.Frag}{x dx C f:Addr}{mA:Str→Option Value}{name:Str}{v:Value}
theorem get_map {a:Bool}{Q:Value→Shared→Prop}(X:K.In s.heap)(I:tH s.heap x dx C mA)(c:PySem.W.plainGet K C name=true)(d:PySem.W.hasDictIn K C=true)
  (e:PySem.W.findIn K (.ref C) name=some none) (f:mA name=some v) (b:PySem.W.handedIn v=true) (h:Q v {s with toks:=s.toks+1}):
  wpAny (model prog w) A (MZ (.ref x) name a) Q E s:=by
 obtain⟨od,J,hl⟩:=I.look;exact PySem.W.get_value X J (PySem.W.plainGet_of c).1 (PySem.W.findObj_own d e rfl (by rw[hl,f])) b h
theorem zC {b:Sem Bool}{Q:Value×List Value→Shared→Prop}(X:K.In s.heap)(I:tH s.heap x dx C mA)(a:PySem.W.plainGet K C name=true)
  (c:PySem.W.findIn K (.ref C) name=some (some (.ref f))) (d:PySem.W.isFn K (.ref f)=true) (e:mA name=none) (h:Q (.ref f,[.ref x]) s):
  wpAny (model prog w) A (AD (.ref x) name b) Q E s:=by
 obtain⟨od,J,hl⟩:=I.look;exact PySem.W.method_fn X J (PySem.W.plainGet_of a).1 (PySem.W.plainGet_of a).2 c (beq_iff_eq.mp d) (by show(PySem.W.lookIn name od).map (·.isSome)=some false;rw[hl,e];rfl) h
theorem Bt {ns:List Str}{Q:Unit→Shared→Prop}(X:K.In s.heap)(I:tH s.heap x dx C mA)
  (hs:PySem.W.findIn K (.ref C) "__setattr__"=some (some (.builtin "object.__setattr__"))) (j:PySem.W.plainOver K C=true) (k:PySem.W.takerIn K C name=some none) (l:PySem.W.hasDictIn K C=true)
  (m:PySem.Within mA ns) (n:ns.length≤sizeLine)
  (h:∀h',tH h' x dx C (λy=>if y=name then some v else mA y)→Heap.SameBut dx s.heap h'→Q () {s with heap:=h',toks:=s.toks+2}):
  wpAny (model prog w) A (setAttr (.ref x) name v) Q E s:=by
 obtain⟨od,J,hl⟩:=I.look;refine PySem.W.set_plain X J hs (PySem.W.osa_open (s:={s with toks:=s.toks+1}) (r:=none) X J j k λb=>?_);obtain⟨u,o,e⟩:=PySem.W.any_some l;have p:s.heap.get? x=some ⟨.ref C,some dx,.plain,#[]⟩:=I.obj;refine f7 (i3 (f7 (f7 (wpAny_loadPart p (f7 (PySem.W.Looks.here (s:={s with toks:=s.toks+1}) (PySem.W.looks_clsIn X o) ?_))))));rw[e];refine i3 (a:=some dx) (f7 (i3 (f7 ?_)));refine wpAny_nsSet1 (s:={s with toks:=s.toks+1}) I.ns λh' c d=>?_;obtain⟨z,q,t,f,g,i⟩:=c.count (PySem.Within.cons name v m);refine f7 (wpAny_lookBehind f (by rw[g];exact pastItsLine_dict (l7 i (by rw[List.length_cons];omega))) ?_);exact i3 (h _ ⟨(d.2 _ (w5 I.ne)).trans I.obj,c,I.ne⟩ d)
theorem yO {R:vt→Shared→Prop}{vs:List Value}{a:List (Str×Value)}(X:K.In s.heap)(b:PySem.W.makesIn K C=true)
  (hi:PySem.W.findIn K (.ref C) "__init__"=some (some (.ref f))) (c:PySem.W.typeIn K (.ref f)=some (.type "function"))
  (h:Y2 (model prog w) (A.under (.builtin "type.__call__" ⟨.ref C::vs,a⟩)) (.call (.ref f) ⟨.ref (s.heap.objs.size+1)::vs,a⟩) (PySem.W.InitBack (s.heap.objs.size+1) R)
   {s with heap:=(s.heap.push PySem.W.emptyDict).push (PySem.W.instObj C s.heap.objs.size)}):
  Y2 (model prog w) A (.call (.ref C) ⟨vs,a⟩) R s:=by
 obtain⟨e,g,d,t,os⟩:=s;exact PySem.W.make_core (PySem.W.makes_of X b) (PySem.W.looks_findIn X hi) (λself=>PySem.W.bind_fn X self c) (.inl rfl) h
end
noncomputable def aL (f:Str)(v:V):List (Str×V)→List (Str×V)
 | []=>[(f,v)]
 | (g,x)::r=>if g=f then(g,v)::r else(g,x)::aL f v r
theorem aX (f g:Str)(v:V):∀fs:List (Str×V),(aL f v fs).lookup g=if g=f then some v else fs.lookup g
 | []=>by
  show List.lookup g [(f,v)]=_;by_cases h:g=f
  ·have a:(g==f)=true:=beq_iff_eq.mpr h;simp only[List.lookup,a,if_pos h]
  ·have a:(g==f)=false:=beq_eq_false_iff_ne.mpr h;simp only[List.lookup,a,if_neg h]
 | (k,x)::r=>by
  have ih:=aX f g v r;rw[show aL f v ((k,x)::r)=(if k=f then(k,v)::r else(k,x)::aL f v r)from rfl];by_cases hk:k=f
  ·rw[if_pos hk];by_cases h:g=k
   ·have a:(g==k)=true:=beq_iff_eq.mpr h;simp only[List.lookup,a,if_pos (h.trans hk)]
   ·have a:(g==k)=false:=beq_eq_false_iff_ne.mpr h;simp only[List.lookup,a,if_neg (λe:g=f=>h (e.trans hk.symm))]
  ·rw[if_neg hk];by_cases h:g=k
   ·have a:(g==k)=true:=beq_iff_eq.mpr h;simp only[List.lookup,a,if_neg (λe:g=f=>hk (h.symm.trans e))]
   ·have a:(g==k)=false:=beq_eq_false_iff_ne.mpr h;simp only[List.lookup,a];exact ih
theorem ij (f:Str)(v:V):∀fs:List (Str×V),f∈(aL f v fs).map (·.1)∧∀g,g∈fs.map (·.1)→g∈(aL f v fs).map (·.1)
 | []=>⟨by simp[aL],λg h=>by simp at h⟩
 | (k,x)::r=>by
  obtain⟨a,b⟩:=ij f v r;rw[show aL f v ((k,x)::r)=(if k=f then(k,v)::r else(k,x)::aL f v r)from rfl];by_cases hk:k=f
  ·rw[if_pos hk];subst hk;exact⟨by simp,λg h=>by simpa using h⟩
  ·rw[if_neg hk];refine⟨?_,λg h=>?_⟩
   ·rw[List.map_cons];exact List.mem_cons_of_mem _ a
   ·rw[List.map_cons]at h⊢;rcases List.mem_cons.mp h with e|e
    ·exact List.mem_cons.mpr (.inl e)
    ·exact List.mem_cons_of_mem _ (b g e)
theorem iO (f:Str)(v:V):∀fs:List (Str×V),(aL f v fs).length≤fs.length+1
 | []=>by simp[aL]
 | (k,x)::r=>by
  have ih:=iO f v r;rw[show aL f v ((k,x)::r)=(if k=f then(k,v)::r else(k,x)::aL f v r)from rfl];by_cases hk:k=f
  ·rw[if_pos hk,List.length_cons,List.length_cons];omega
  ·rw[if_neg hk,List.length_cons,List.length_cons];omega
theorem ck.some_of {v:V}{o:Option Value}(r:ck (some v) o):∃u,o=some u∧RelV v u:=by
 cases o with
 |none=>exact(show False from r).elim
 |some u=>exact⟨u,rfl,r⟩
theorem ck.none_of {o:Option Value}(r:ck none o):o=none:=by
 cases o with
 |none=>rfl
 |some u=>exact(show False from r).elim
theorem wL {v:V}{u:Value}(r:RelV v u):PySem.W.handedIn u=true:=by
 cases v with
 |v1=>cases(show u=Value.none from r);rfl
 |bl b=>cases(show u=Value.bool b from r);rfl
 |int i=>obtain⟨t,e⟩:=(show∃t,u=Value.int i t from r);cases e;rfl
 |str x=>obtain⟨t,e⟩:=(show∃t,u=Value.str x t from r);cases e;rfl
 |byt b=>obtain⟨t,e⟩:=(show∃t,u=Value.bytes b t from r);cases e;rfl
 |flt b=>obtain⟨t,e⟩:=(show∃t,u=Value.float b t from r);cases e;rfl
 |ref a=>cases(show u=Value.ref a from r);rfl
 |ty n=>cases(show u=Value.type n from r);rfl
section
variable {P:Program}{w:World}{H H':Hp}{h h':Heap}{a C dx:Addr}{fs fs':List (Str×V)}
theorem oF (hok:eM P w H h)(e:H a=some (.ins C dx fs)):∃mA,tH h a dx C mA∧(∀f,ck (fs.lookup f) (mA f))∧PySem.Within mA (fs.map (·.1))∧fs.length≤1000∧H dx=some (.own a):=by
 obtain⟨d,z,ne,ob,mA,n,r,q⟩:=(show I7 P w H h a (.ins C dx fs)from hok a _ e)
 exact⟨mA,⟨ob,n,ne⟩,r,q,z,d⟩
end
structure AL (K:PySem.W.Frag) (C:Addr):Prop where
 pg:PySem.W.plainGet K C Str.empty=true
 hd:PySem.W.hasDictIn K C=true
 po:PySem.W.plainOver K C=true
 sa:PySem.W.findIn K (.ref C) "__setattr__"=some (some (.builtin "object.__setattr__"))
theorem AL.get {K:PySem.W.Frag}{C:Addr}(c:AL K C)(f:Str):PySem.W.plainGet K C f=true:=c.pg
def ef (K:PySem.W.Frag)(C:Addr)(f:Str):Prop:=PySem.W.findIn K (.ref C) f=some none
theorem ef.GZ {K:PySem.W.Frag}{C:Addr}{f:Str}(n:ef K C f):PySem.W.takerIn K C f=some none:=by
 unfold PySem.W.takerIn;rw[show PySem.W.findIn K (.ref C) f=some none from n];rfl
structure Meth (K:PySem.W.Frag) (C:Addr) (m:Str) (f:Addr):Prop where
 at_:PySem.W.findIn K (.ref C) m=some (some (.ref f))
 fn:PySem.W.isFn K (.ref f)=true
 kp:PySem.W.keepIn K (.ref f)=true
section
variable {X:Cx}{pins:List (Addr×Obj)}{σ:St}{H:Hp}{s:Shared}{a C dx:Addr}{fs:List (Str×V)}{f:Str}{v:V}{A:Around}{E:Value→Shared→Prop}
theorem kL {b:Bool}{Q:Value→Shared→Prop}(I:Inv X pins σ H s)(e:H a=some (.ins C dx fs))(c:AL X.K C)(n:ef X.K C f)(l:fs.lookup f=some v)
  (h:∀u d,Inv X pins σ H d→RelV v u→Q u d):wpAny (model X.prog X.w) A (MZ (.ref a) f b) Q E s:=by
 obtain⟨mA,O,r,_,_,_⟩:=oF I.hok e;obtain⟨u,i,g⟩:=ck.some_of (v:=v) (o:=mA f) (by rw[←l];exact r f);exact get_map I.mQ O (c.get f) c.hd n i (wL g) (h u _ (I.tok _) g)
theorem sR {m:Str}{g:Addr}{b:Sem Bool}{Q:Value×List Value→Shared→Prop}(I:Inv X pins σ H s)(e:H a=some (.ins C dx fs))(c:AL X.K C)(k:Meth X.K C m g)(l:fs.lookup m=none)
  (h:Q (.ref g,[.ref a]) s):wpAny (model X.prog X.w) A (AD (.ref a) m b) Q E s:=by
 obtain⟨mA,O,r,_,_,_⟩:=oF I.hok e;have d:mA m=none:=ck.none_of (by rw[←l];exact r m);exact zC I.mQ O (c.get m) k.at_ k.fn d h
theorem kc {y:V}{u:Value}{Q:Unit→Shared→Prop}(I:Inv X pins σ H s)(e:H a=some (.ins C dx fs))(c:AL X.K C)(n:ef X.K C f)(hl:fs.length<1000)(l:RelV y u)
  (h:∀i,Inv X pins σ (upd H a (.ins C dx (aL f y fs))) i→Q () i):wpAny (model X.prog X.w) A (setAttr (.ref a) f u) Q E s:=by
 obtain⟨mA,O,r,j,_,k⟩:=oF I.hok e;have m:(fs.map (·.1)).length≤sizeLine:=by rw[List.length_map,u5];omega
 refine Bt I.mQ O c.sa c.po n.GZ c.hd j m λh' d p=>h _ ?_;have hd:∃o,h'.get? dx=some o:=let⟨o,_,_,t,_⟩:=d.ns;⟨o,t⟩;refine I.write (x:=a) (e:=dx) (by rw[e];exact True.intro) (.inr k) (λb q v z=>(p.2 b v).trans z) hd ?_;refine⟨by rw[j6 O.ne];exact k,?_,O.ne,d.obj,_,d.ns,λg=>?_,λg B=>?_⟩
 ·have:=iO f y fs;omega
 ·show ck ((aL f y fs).lookup g) (if g=f then some u else mA g);rw[aX];by_cases q:g=f
  ·rw[if_pos q,if_pos q];exact l
  ·rw[if_neg q,if_neg q];exact r g
 ·by_cases q:g=f
  ·rw[q];exact(ij f y fs).1
  ·refine(ij f y fs).2 g (j g λz=>B ?_);show(if g=f then some u else mA g)=none;rw[if_neg q];exact z
theorem Inv.made (I:Inv X pins σ H s):Inv X pins σ (upd (upd H s.heap.objs.size (.own (s.heap.objs.size+1))) (s.heap.objs.size+1) (.ins C s.heap.objs.size []))
  {s with heap:=(s.heap.push PySem.W.emptyDict).push (PySem.W.instObj C s.heap.objs.size)}:=by
 have c:(s.heap.push PySem.W.emptyDict).get? s.heap.objs.size=some PySem.W.emptyDict:=Heap.get?_push_size s.heap rfl;have d:((s.heap.push PySem.W.emptyDict).push (PySem.W.instObj C s.heap.objs.size)).get? (s.heap.objs.size+1)=some (PySem.W.instObj C s.heap.objs.size):=by
  have:=Heap.get?_push_size (s.heap.push PySem.W.emptyDict) (o:=PySem.W.instObj C s.heap.objs.size) rfl;rwa[Heap.size_push]at this
 have f:(s.heap.push PySem.W.emptyDict).Ns s.heap.objs.size (λ_=>none):=⟨PySem.W.emptyDict,#[],_,c,rfl,(λe g=>absurd g (by simp)),λ_=>rfl⟩
 have h:=I.laid (a:=s.heap.objs.size) (o:=.own (s.heap.objs.size+1)) (h':=s.heap.push PySem.W.emptyDict) (t':=s.toks) (λb u q=>Heap.get?_push_of_some _ q) (g8 _) ⟨_,c⟩;refine h.laid (a:=s.heap.objs.size+1) (o:=.ins C s.heap.objs.size []) (t':=s.toks) (λb u q=>Heap.get?_push_of_some _ q) (Jx (Heap.size_push _ _)) ?_;have ne:s.heap.objs.size≠s.heap.objs.size+1:=j7 (n6 _);refine⟨by rw[j6 ne,l9],u6 _,ne,d,λ_=>none,(Heap.Ns1.of_empty f).at λo q=>Heap.get?_push_of_some _ q,λ_=>True.intro,λy i=>absurd rfl i⟩
theorem Dg {prog:Program}{w:World}{env:Env}{e:Expr}{f:Str}{pos:Pos}{s:Shared}{Q:Value→Shared→Prop}(b:y7 e f env (eval e env)=eval e env)
  (h:wpAny (model prog w) A (eval e env) (λo a=>wpAny (model prog w) A (MZ o f true) Q E a) E s):wpAny (model prog w) A (eval (.Attribute e f pos) env) Q E s:=
 Attribute_any_ h (by rw[arm_eval_Attribute,b])
end
noncomputable def JR (K:PySem.W.Frag)(c:TE)(f:Str):TE:=λσ H Q=>c σ H λx b=>∃a C dx fs v,x=.ref a∧b a=some (.ins C dx fs)∧AL K C∧ef K C f∧fs.lookup f=some v∧Q v b
noncomputable def JW (K:PySem.W.Frag)(c d:TE)(f:Str):TS:=λD σ H=>d σ H λy e=>c σ e λx b=>∃a C dx fs,x=.ref a∧b a=some (.ins C dx fs)∧AL K C∧ef K C f∧fs.length<1000∧
 D.nx σ (upd b a (.ins C dx (aL f y fs)))
def II (X:Cx)(a:Operator)(rd:V→V→Hp→VK→Prop):Prop:=
 ∀(pins:List (Addr×Obj)) (s:Shared) (σ:St) (H:Hp) (x y:V) (u v:Value) (Q:VK),Inv X pins σ H s→RelV x u→RelV y v→rd x y H Q→wpAny (model X.prog X.w) X.A (Js a u v) (EP X pins σ Q) X.xe s
noncomputable def Bv (K:PySem.W.Frag)(g h:TE)(rd:V→V→Hp→VK→Prop)(f:Str):TS:=λD σ H=>g σ H λx d=>∃a C dx fs v,x=.ref a∧d a=some (.ins C dx fs)∧AL K C∧ef K C f∧fs.lookup f=some v∧
 h σ d λy i=>rd v y i λz e=>∃c b,e a=some (.ins C c b)∧b.length<1000∧D.nx σ (upd e a (.ins C c (aL f z b)))
section
variable {X:Cx}{o e value:Expr}{f:Str}{pos pos' tpos:Pos}{ta tv:TE}
theorem rT (b:PE X e ta)(d:y7 e f X.env (eval e X.env)=eval e X.env):PE X (.Attribute e f pos) (JR X.K ta f):=by
 intro pins s σ H Q I h;refine Dg d (F0 (b pins s σ H _ I h) λu s1 ⟨x,g,i,j,a,C,dx,fs,v,ex,k,c,n,l,q⟩=>?_);subst ex;obtain rfl:u=Value.ref a:=j;exact kL i k c n l λp s2 m o=>⟨v,g,m,o,q⟩
theorem yq (b:PE X o ta)(d:PE X value tv)(hs:S8 value (some (.Attribute o f pos')) pos.line X.env=pure false):PS X (.Assign [.Attribute o f pos'] value pos) (JW X.K ta tv f):=by
 intro pins s σ H D I h;refine plainObj_wpAny_Assign_Attribute (F0 (d pins s σ H _ I h) λu s1 ⟨y,e,g,i,q⟩=>F0 (b pins s1 σ e _ g q) λj s2 ⟨x,v,k,m,a,C,dx,fs,ex,p,c,n,l,r⟩=>?_) hs;subst ex;obtain rfl:j=Value.ref a:=m;exact kc k p c n l i λw t=>⟨σ,_,t,r⟩
theorem vR {e:Operator}{rd:V→V→Hp→VK→Prop}(g:PE X o ta)(i:PE X value tv)(b:II X e rd):PS X (.AugAssign (.Attribute o f tpos) e value pos) (Bv X.K ta tv rd f):=by
 intro pins s σ H D I h;refine wpAny_AugAssign_AttributeAny (F0 (g pins s σ H _ I h) λj s1 ⟨x,k,m,p,a,C,dx,fs,v,ex,r,c,n,l,q⟩=>?_);subst ex;obtain rfl:j=Value.ref a:=p;refine kL m r c n l λu s2 t w=>F0 (i pins s2 σ k _ t q) λA B ⟨y,E,F,G,J⟩=>F0 (b pins B σ E v y u A _ F w G J) λS T ⟨z,U,L,rz,N,O,d,P,Q⟩=>?_;exact kc L d c n P rz λY R=>⟨σ,_,R,Q⟩
noncomputable def Ka:V→V→Hp→VK→Prop:=λx y H Q=>∃i j,x=.int i∧y=.int j∧Q (.int (i+j)) H
theorem FJ:II X .Add Ka:=by
 rintro pins s σ H x y u v Q I rx ry ⟨i,j,rfl,rfl,q⟩
 obtain⟨t,rfl⟩:=(show∃t,u=Value.int i t from rx)
 obtain⟨a,rfl⟩:=(show∃a,v=Value.int j a from ry)
 exact Lc ⟨.int (i+j),H,I.tok _,⟨_,rfl⟩,q⟩
end
structure O6 (k:Nat) (A:Around):Prop where
 hd:A.handled=none
 dp:A.depth+3*k+5<LI
 un:A.units+16*k+200<B3
theorem O6.mono {j k:Nat}{A:Around}(r:O6 k A)(h:j≤k):O6 j A:=⟨r.hd,by have:=r.dp;omega,by have:=r.un;omega⟩
theorem O6.deeper {k:Nat}{A:Around}(r:O6 (k+1) A)(env:Env):O6 k (A.deeper env):=
 ⟨r.hd,by have:=r.dp;show A.depth+1+3*k+5<_;omega,by have:=r.un;show A.units+3+16*k+200<_;omega⟩
theorem su {A:Around}{C:Addr}{us:List Value}{a:List (Str×Value)}:(A.under (.builtin "type.__call__" ⟨.ref C::us,a⟩)).depth=A.depth+1:=by
 first|rfl|simp[rn,Code.weight,Code.isCreation,Code.isGuard,Code.isCaller,JB,tO,guardIds]
theorem ss {A:Around}{C:Addr}{us:List Value}{a:List (Str×Value)}:(A.under (.builtin "type.__call__" ⟨.ref C::us,a⟩)).units=A.units+1:=by
 first|rfl|simp[rn,Code.cUnits,JB,tO]
theorem O6.make {k:Nat}{A:Around}(r:O6 (k+1) A)(C:Addr)(us:List Value)(a:List (Str×Value)):O6 k (A.under (.builtin "type.__call__" ⟨.ref C::us,a⟩)):=
 ⟨r.hd,by have:=r.dp;rw[su];omega,by have:=r.un;rw[ss];omega⟩
theorem O6.depth {k:Nat}{A:Around}(r:O6 k A):A.depth<LI:=by have:=r.dp;omega
theorem O6.units {k:Nat}{A:Around}(r:O6 k A):A.units+64<B3:=by have:=r.un;omega
noncomputable def JM:TA:=λ_ H Q=>Q [] H
noncomputable def Hk (a:TE)(b:TA):TA:=λσ H Q=>a σ H λx c=>b σ c λxs d=>Q (x::xs) d
section
variable {X:Cx}{e:Expr}{es:List Expr}{te:TE}{t:TA}{pos:Pos}
theorem Fa:PA X [] JM:=λ_ _ _ _ H Q I h=>U8 ⟨[],H,I,.nil,h⟩
theorem BW (a:PE X e te)(hr:PA X es t)(hs:f9 (e::es) X.env=(false,eval e X.env)::f9 es X.env:=by rfl):PA X (e::es) (Hk te t):=by
 intro pos pins s σ H Q I h;rw[hs];show wpAny _ _ (tL ((false,eval e X.env)::l8 pos (f9 es X.env))) _ _ s;refine S9 (F0 (a pins s σ H _ I h) λu s1 ⟨x,b,c,d,f⟩=>?_);exact F0 (hr pos pins s1 σ b _ c f) λus s2 ⟨xs,g,i,j,k⟩=>⟨x::xs,g,i,.cons d j,k⟩
noncomputable def JI (t:TA):TE:=λσ H Q=>t σ H λxs a=>xs.length≤sizeLine∧∀p,a p=none→Q (.ref p) (upd a p (.tup xs))
noncomputable def JN (t:TA):TE:=λσ H Q=>t σ H λxs a=>xs.length≤sizeLine∧∀p,a p=none→Q (.ref p) (upd a p (.lst xs))
theorem ES {x1}(h:PA X es t):PE X (.Tuple es x1 pos) (JI t):=by
 intro pins s σ H Q I d;refine wpAny_Tuple_spliced (F0 (h pos pins s σ H _ I d) λus s1 ⟨xs,a,c,r,z,q⟩=>⟨by rw[←r.length];exact z,?_⟩);have f:a s1.heap.objs.size=none:=c.hok.fresh (g8 _);refine⟨.ref s1.heap.objs.size,upd a s1.heap.objs.size (.tup xs),c.laid (t':=s1.toks) (λb u e=>Heap.get?_push_of_some _ e) (g8 _) ?_,rfl,q _ f⟩;exact⟨z,us,r,⟨_,Heap.get?_push_size _ rfl,rfl,_,rfl⟩⟩
theorem EX (h:PA X es t):PE X (.List es pos) (JN t):=by
 intro pins s σ H Q I d;refine wpAny_List_spliced (F0 (h pos pins s σ H _ I d) λus s1 ⟨xs,a,c,r,z,q⟩=>⟨by rw[←r.length];exact z,?_⟩);have f:a s1.heap.objs.size=none:=c.hok.fresh (g8 _);refine⟨.ref s1.heap.objs.size,upd a s1.heap.objs.size (.lst xs),c.laid (t':=s1.toks) (λb u e=>Heap.get?_push_of_some _ e) (g8 _) ?_,rfl,q _ f⟩;exact⟨z,us,0,r,Heap.get?_push_size _ rfl⟩
end
noncomputable abbrev Sp:=List V→Hp→VK→XK→Prop
noncomputable abbrev AM:=List Env→Hp→Shared→XK→Value→Shared→Prop
structure rf (P:Program) (w:World) (K:PySem.W.Frag) (mg:Str→Option Value) (base:Heap) (A:Around) (outer:List Env) (s:Shared) (H:Hp):Prop where
 frames:A.frames=some outer
 mod:Mod K mg base
 bs:∀b o,base.get? b=some o→s.heap.get? b=some o∧H b=none
 bsz:base.objs.size≤s.heap.objs.size
 gQ:s.heap.FunFrames base outer
 frf:∀b∈frs outer,H b=none
 hok:eM P w H s.heap
 bare:fV s.gens
def CE (outer:List Env)(P:Program)(w:World)(H:Hp)(s:Shared)(Q:VK)(u:Value)(a:Shared):Prop:=
 ∃v H',a.os=s.os∧fV a.gens∧Un (frs outer) [] H H' s.heap a.heap∧eM P w H' a.heap∧RelV v u∧Q v H'
def CR (CX:AM)(outer:List Env)(P:Program)(w:World)(H:Hp)(s:Shared)(Q:VK)(E:XK)(r:vt)(a:Shared):Prop:=
 match r with
 |.ok (.ret u)=>CE outer P w H s Q u a
 |.ok _=>False
 |.error e=>CX outer H s E e a
structure x2 (P:Program) (w:World) (K:PySem.W.Frag) (mg:Str→Option Value) (base:Heap) (CX:AM) (k:Nat) (f:Addr) (fd:FuncData) (ps:List Str) (sp:Sp):Prop where
 len:∀vs H Q E,sp vs H Q E→vs.length=ps.length
 run:∀(A:Around) (outer:List Env) (s:Shared) (H:Hp) (args:Args) (us:List Value) (vs:List V) (Q:VK) (E:XK),O6 k A→rf P w K mg base A outer s H→tP s fd args (ps.zip us)→Vals vs us→sp vs H Q E→
  Y2 (model P w) A (.call (.ref f) args) (CR CX outer P w H s Q E) s
theorem x2.imp {P:Program}{w:World}{K:PySem.W.Frag}{mg:Str→Option Value}{base:Heap}{CX:AM}{k:Nat}{f:Addr}{fd:FuncData}{ps:List Str}{sp a:Sp}(F:x2 P w K mg base CX k f fd ps sp)
  (h:∀vs H Q E,a vs H Q E→sp vs H Q E):x2 P w K mg base CX k f fd ps a:=
 ⟨λvs H Q E q=>F.len vs H Q E (h _ _ _ _ q),λA outer s H args us vs Q E hr b c d hs=>F.run A outer s H args us vs Q E hr b c d (h _ _ _ _ hs)⟩
theorem rf.make {P:Program}{w:World}{K:PySem.W.Frag}{mg:Str→Option Value}{base:Heap}{A:Around}{outer:List Env}{s:Shared}{H:Hp}(e:rf P w K mg base A outer s H)(C:Addr)(us:List Value)(a:List (Str×Value)):
  rf P w K mg base (A.under (.builtin "type.__call__" ⟨.ref C::us,a⟩)) outer s H:=⟨by first|exact e.frames| (simpa[rn,Code.envs,tO,pushEnvs]using e.frames),e.mod,e.bs,e.bsz,e.gQ,e.frf,e.hok,e.bare⟩
section
variable {X:Cx}{pins:List (Addr×Obj)}{σ:St}{H:Hp}{s s':Shared}
theorem Inv.Il (I:Inv X pins σ H s):rf X.prog X.w X.K X.mg X.base X.A X.stack s H:=
 ⟨I.ok.frames,I.ok.mod,I.bs,l7 I.ok.bsz I.sz,I.stack,I.tU,I.hok,I.bare⟩
theorem Inv.after {Q:VK}{u:Value}(I:Inv X pins σ H s)(h:CE X.stack X.prog X.w H s Q u s'):EP X pins σ Q u s':=by
 obtain⟨v,H',os,bare,un,hok,r,q⟩:=h;obtain⟨c,g,d,t,a⟩:=s';obtain rfl:a=s.os:=os;exact⟨v,H',I.call (h':=c) (g':=g) (d':=d) (t':=t) (ch:=[]) un hok bare (λb z=>absurd z (by simp)),r,q⟩
end
noncomputable def xG (sp:Sp)(a:List V)(E:XK)(t:TA):TE:=λσ H Q=>t σ H λvs b=>sp (vs++a) b Q E
noncomputable def Dv (C:Addr)(m:Str)(sp:Sp)(b:List V)(E:XK)(d:TE)(t:TA):TE:=λσ H Q=>d σ H λx c=>∃a dx fs,x=.ref a∧c a=some (.ins C dx fs)∧fs.lookup m=none∧
 t σ c λvs e=>sp (x::(vs++b)) e Q E
noncomputable def Hh (C:Addr)(sp:Sp)(a:List V)(E:XK)(t:TA):TE:=λσ H Q=>t σ H λvs b=>∀x dx,b x=none→b dx=none→dx≠x→
 sp (.ref x::(vs++a)) (upd (upd b dx (.own x)) x (.ins C dx [])) (λv c=>v=.v1∧Q (.ref x) c) E
def Binds (K:PySem.W.Frag)(fd:FuncData)(ps:List Str)(ds:List Value):Prop:=
 ∀(s:Shared) (us:List Value),K.In s.heap→(us++ds).length=ps.length→tP s fd ⟨us,[]⟩ (ps.zip (us++ds))
theorem Binds.all {K:PySem.W.Frag}{fd:FuncData}{ps:List Str}(h:∀us:List Value,us.length=ps.length→nB fd ⟨us,[]⟩=pure (ps.zip us)):Binds K fd ps []:=λs us _ hl=>by
 rw[List.append_nil]at hl⊢;exact .of_eq (h us hl)
def Passes (CX:AM)(X:Cx)(E:XK):Prop:=∀(pins:List (Addr×Obj)) (σ:St) (H:Hp) (s:Shared) (e:Value) (a:Shared),Inv X pins σ H s→CX X.stack H s E e a→X.xe e a
section
variable {X:Cx}{CX:AM}{k:Nat}{f C:Addr}{fd:FuncData}{ps:List Str}{sp:Sp}{dvs:List V}{ds:List Value}{E:XK}{x m:Str}{p pos apos:Pos}{e o:Expr}{es:List Expr}{ta:TE}{t:TA}
theorem xZ {pins:List (Addr×Obj)}{σ:St}{H:Hp}{s:Shared}{Q:VK}{us:List Value}{vs:List V}(F:x2 X.prog X.w X.K X.mg X.base CX k f fd ps sp)(hr:O6 k X.A)(c:Binds X.K fd ps ds)(hd:Vals dvs ds)(d:Passes CX X E)
  (I:Inv X pins σ H s) (r:Vals vs us) (h:sp (vs++dvs) H Q E):wpAny (model X.prog X.w) X.A (call (.ref f) us) (EP X pins σ Q) X.xe s:=by
 have b:Vals (vs++dvs) (us++ds):=r.append hd;have hl:(us++ds).length=ps.length:=by rw[←b.length];exact F.len _ _ _ _ h
 refine GM (Y1 (F.run X.A X.stack s H ⟨us,[]⟩ (us++ds) (vs++dvs) Q E hr I.Il (c s us I.mQ hl) b h) λr g a=>?_);cases r with
 |error e=>exact d pins σ H s e g I a
 |ok i=>
  cases i with
  |ret u=>exact I.after a
  |next=>exact D1 a
  |brk=>exact D1 a
  |cont=>exact D1 a
theorem BS (F:x2 X.prog X.w X.K X.mg X.base CX k f fd ps sp)(hr:O6 k X.A)(d:Gl X x)(g:X.mg x=some (.ref f))(hk:PySem.W.keepIn X.K (.ref f)=true)(i:Binds X.K fd ps ds)(hd:Vals dvs ds)(j:Passes CX X E)
  (l:PA X (e::es) t) (a:(x==("__debug__":Str))=false:=by decide) (m:f9 (e::es) X.env=(false,eval e X.env)::f9 es X.env:=by rfl) (b:(l8 pos (f9 es X.env)).any (·.1)=false:=by rfl):
  PE X (.Call (.Name x p) (e::es) [] pos) (xG sp dvs E t):=by
 intro pins s σ H Q I h;refine t9 (oB I d g ?_ a);refine PySem.W.callWith_K (h₀:=X.base) I.ok.mod.kin hk (F0 (l pos pins s σ H _ I h) λus s1 ⟨vs,n,c,r,q⟩=>⟨c.mQ,?_⟩) m b;exact xZ F hr i hd j c r q
theorem BN {pl:Sem Bool}(p:PE X o ta)(c:AL X.K C)(g:Meth X.K C m f)(F:x2 X.prog X.w X.K X.mg X.base CX k f fd ps sp)(hr:O6 k X.A)(v:Binds X.K fd ps ds)(hd:Vals dvs ds)(y:Passes CX X E)(z:PA X (e::es) t)
  (b:f9 (e::es) X.env=(false,eval e X.env)::f9 es X.env:=by rfl) (d:(l8 pos (f9 es X.env)).any (·.1)=false:=by rfl)
  (B:eval (.Call (.Attribute o m apos) (e::es) [] pos) X.env=(do
   let i←eval o X.env
   tK apos.atName
   let(f,first)←W2 [i] (AD i m pl)
   DY pos f first (l8 pos (f9 (e::es) X.env)) (z6 pos (o7 [] X.env))):=by rfl):
  PE X (.Call (.Attribute o m apos) (e::es) [] pos) (Dv C m sp dvs E ta t):=by
 intro pins s σ H Q I h;refine PySem.W.methodCall_KW (pl:=pl) (F0 (p pins s σ H _ I h) λu s1 ⟨x,G,j,J,a,dx,fs,ex,L,l,q⟩=>?_) B;subst ex;obtain rfl:u=Value.ref a:=J;refine sR j L c g l ?_;refine PySem.W.callWith_K (first:=[.ref a]) (h₀:=X.base) I.ok.mod.kin g.kp (F0 (z pos pins s1 σ G _ j q) λus s2 ⟨vs,O,n,r,N⟩=>⟨n.mQ,?_⟩) b d;exact xZ (us:=.ref a::us) (vs:=.ref a::vs) F hr v hd y n (.cons rfl r) N
structure Mk (K:PySem.W.Frag) (C f:Addr):Prop where
 makes:PySem.W.makesIn K C=true
 init:PySem.W.findIn K (.ref C) "__init__"=some (some (.ref f))
 fn:PySem.W.isFn K (.ref f)=true
 kp:PySem.W.keepIn K (.ref C)=true
theorem xY {pins:List (Addr×Obj)}{σ:St}{H:Hp}{s:Shared}{Q:VK}{us:List Value}{vs:List V}(M:Mk X.K C f)(F:x2 X.prog X.w X.K X.mg X.base CX k f fd ps sp)(hr:O6 (k+1) X.A)(g:Binds X.K fd ps ds)(hd:Vals dvs ds)
  (i:Passes CX X E) (I:Inv X pins σ H s) (r:Vals vs us)
  (h:∀x dx,H x=none→H dx=none→dx≠x→sp (.ref x::(vs++dvs)) (upd (upd H dx (.own x)) x (.ins C dx [])) (λv j=>v=.v1∧Q (.ref x) j) E):
  wpAny (model X.prog X.w) X.A (call (.ref C) us) (EP X pins σ Q) X.xe s:=by
 have c:=h (s.heap.objs.size+1) s.heap.objs.size (I.hok.fresh (fU _)) (I.hok.fresh (g8 _)) (j7 (n6 _));have b:=Inv.made (C:=C) I;have d:Vals (V.ref (s.heap.objs.size+1)::(vs++dvs)) (Value.ref (s.heap.objs.size+1)::(us++ds)):=.cons rfl (r.append hd);have hl:(Value.ref (s.heap.objs.size+1)::us++ds).length=ps.length:=by
  have e:=d.length;rw[F.len _ _ _ _ c]at e;exact e.symm
 refine GM (yO (f:=f) I.mQ M.makes M.init (beq_iff_eq.mp M.fn) (Y1 (F.run _ X.stack _ _ ⟨Value.ref (s.heap.objs.size+1)::us,[]⟩ (Value.ref (s.heap.objs.size+1)::(us++ds)) _ _ E (hr.make C us [])
  (b.Il.make C us []) (g _ (Value.ref (s.heap.objs.size+1)::us) b.mQ hl) d c) λr l a=>?_))
 cases r with
 |error e=>exact i pins σ _ _ e l b a
 |ok m=>
  cases m with
  |ret u=>
   obtain⟨v,H',n,o,p,q⟩:=b.after a;subst p;exact⟨o,⟨V.ref (s.heap.objs.size+1),H',n,rfl,q⟩⟩
  |next=>exact D1 a
  |brk=>exact D1 a
  |cont=>exact D1 a
theorem BO (M:Mk X.K C f)(F:x2 X.prog X.w X.K X.mg X.base CX k f fd ps sp)(hr:O6 (k+1) X.A)(d:Gl X x)(g:X.mg x=some (.ref C))(i:Binds X.K fd ps ds)(hd:Vals dvs ds)(j:Passes CX X E)
  (l:PA X (e::es) t) (a:(x==("__debug__":Str))=false:=by decide) (m:f9 (e::es) X.env=(false,eval e X.env)::f9 es X.env:=by rfl) (b:(l8 pos (f9 es X.env)).any (·.1)=false:=by rfl):
  PE X (.Call (.Name x p) (e::es) [] pos) (Hh C sp dvs E t):=by
 intro pins s σ H Q I h;refine t9 (oB I d g ?_ a);refine PySem.W.callWith_K (h₀:=X.base) I.ok.mod.kin M.kp (F0 (l pos pins s σ H _ I h) λus s1 ⟨vs,n,c,r,q⟩=>⟨c.mQ,?_⟩) m b;exact xY M F hr i hd j c r q
end
structure m7 (N P:List Str) (sc:Scope):Prop where
 kind:sc.kind=.function
 co:sc.isCoroutine=false
 gen:sc.isGenerator=false
 nd:N.Nodup
 pre:N.take P.length=P
 par:∀x∈P,sc.names.lookup x=some .local∨sc.names.lookup x=some .cell
 nofree:∀y∈sc.names,y.2≠.free
theorem nr {kindOf:Str→Option NameKind}{x:Str}:∀{a:List (Str×Value)} {m:Str→Option Value},(∀v,(x,v)∉a)→AF kindOf a m x=m x
 | [],_,_=>rfl
 | (n,v)::r,m,h=>by
  unfold AF;rw[nr λw b=>h w (List.mem_cons_of_mem _ b)];split
  ·have:x≠n:=by rintro rfl;exact h v List.mem_cons_self
   simp[this]
  ·rfl
theorem nv {kindOf:Str→Option NameKind}{x:Str}:∀{a:List (Str×Value)} {m:Str→Option Value},(∀v,(x,v)∉a)→AG kindOf a m x=m x
 | [],_,_=>rfl
 | (n,v)::r,m,h=>by
  unfold AG;rw[nv λw b=>h w (List.mem_cons_of_mem _ b)];split
  ·rfl
  ·have:x≠n:=by rintro rfl;exact h v List.mem_cons_self
   simp[this]
theorem nu {kindOf:Str→Option NameKind}{x:Str}{v:Value}:∀{P:List Str} {vs:List Value} {i:Nat} {m:Str→Option Value},P.Nodup→P[i]?=some x→vs[i]?=some v→kindOf x=some .local→
  AF kindOf (P.zip vs) m x=some v
 | [],_,_,_,_,h,_,_=>by simp at h
 |_::_,[],_,_,_,_,h,_=>by simp at h
 |p::P,w::vs,0,m,nd,a,b,hk=>by
  simp at a b;subst a;subst b;show AF kindOf ((p,w)::P.zip vs) m p=_;unfold AF;rw[nr λv c=>(List.nodup_cons.mp nd).1 (List.of_mem_zip c).1,if_pos hk];simp
 |p::P,w::vs,i+1,m,nd,a,b,hk=>by
  show AF kindOf ((p,w)::P.zip vs) m x=_;unfold AF;exact nu (i:=i) (List.nodup_cons.mp nd).2 (by simpa using a) (by simpa using b) hk
theorem nw {kindOf:Str→Option NameKind}{x:Str}{v:Value}:∀{P:List Str} {vs:List Value} {i:Nat} {m:Str→Option Value},P.Nodup→P[i]?=some x→vs[i]?=some v→kindOf x≠some .local→
  AG kindOf (P.zip vs) m x=some v
 | [],_,_,_,_,h,_,_=>by simp at h
 |_::_,[],_,_,_,_,h,_=>by simp at h
 |p::P,w::vs,0,m,nd,a,b,hk=>by
  simp at a b;subst a;subst b;show AG kindOf ((p,w)::P.zip vs) m p=_;unfold AG;rw[nv λv c=>(List.nodup_cons.mp nd).1 (List.of_mem_zip c).1,if_neg hk];simp
 |p::P,w::vs,i+1,m,nd,a,b,hk=>by
  show AG kindOf ((p,w)::P.zip vs) m x=_;unfold AG;exact nw (i:=i) (List.nodup_cons.mp nd).2 (by simpa using a) (by simpa using b) hk
noncomputable def start (N:List Str)(vs:List V):St:=vs.map some++List.replicate (N.length-vs.length) none
noncomputable def lg (CX:AM)(P:Program)(w:World)(K:PySem.W.Frag)(mg:Str→Option Value)(base:Heap)(N:List Str)(qual:Str)(scope:Scope)(f:Addr)(b:Value)(A:Around)(outer:List Env)(s:Shared)(H:Hp)(E:XK):Cx where
 prog:=P
 w:=w
 K:=K
 mg:=mg
 base:=base
 A:=A.deeper (bM qual scope s.heap.objs.size f b)
 N:=N
 s₀:=s
 H₀:=H
 env:=bM qual scope s.heap.objs.size f b
 outer:=outer
 stack:=bM qual scope s.heap.objs.size f b::outer
 ex:=[]
 calm:=true
 fn:=λ_=>true
 pn:=[]
 xe:=λe c=>wpAny (model P w) (A.deeper (bM qual scope s.heap.objs.size f b)) (leaving (bM qual scope s.heap.objs.size f b) e) (λ_ a=>CX outer H s E e a) (λd a=>CX outer H s E d a) c
theorem qU {sc:Scope}{n:Nat}{x:Str}(h:sc.names.lookup x=some .cell):∃c,(cellsFrom n sc.names []).lookup x=some c:=by
 have q:=PySem.W.cellsFrom_some sc.names n [] (.inl h);exact A1.mp q
theorem wB {CX:AM}{P:Program}{w:World}{K:PySem.W.Frag}{mg:Str→Option Value}{base:Heap}{N ps:List Str}{qual:Str}{scope:Scope}{f:Addr}{t:Value}{A:Around}{outer:List Env}{s s1:Shared}{H:Hp}{E:XK}{us:List Value}{vs:List V}
  (S:m7 N ps scope) (hd:A.handled=none) (g:rf P w K mg base A outer s H) (hl:vs.length=ps.length) (r:Vals vs us)
  (x:InCallC s s.heap.objs.size (AF (bM qual scope s.heap.objs.size f t).kindOf (ps.zip us) λ_=>none) (cellsFrom (s.heap.objs.size+1) scope.names []) (AG (bM qual scope s.heap.objs.size f t).kindOf (ps.zip us) λ_=>none) s1):
  Inv (lg CX P w K mg base N qual scope f t A outer s H E) [] (start N vs) H s1:=by
 have G:ps.length≤N.length:=by have:=congrArg List.length S.pre;rw[List.length_take]at this;omega
 obtain⟨B,L,rfl,hk⟩:=x.done;have j:∀b:Addr,b∉(lg CX P w K mg base N qual scope f t A outer s H E).ex:=λb z=>absurd (show b∈([]:List Addr)from z) (by simp);refine⟨⟨g.mod,S.kind,rfl,rfl,g8 _,λy z c B d=>?_,λy l=>?_,λy c _ h=>?_,λ_=>hd,Around.frames_deeper g.frames,.inr ⟨rfl,rfl⟩,λb z=>absurd z (j b),g.bs,g.bsz,λb _ _=>j b,λb z=>absurd z (j b),g.gQ,g.frf⟩,
  rfl,g.bare,Un.kept hk,⟨_,x.toInCall.ns,λi y v B d O=>?_⟩,λy c h=>⟨_,x.cell y c h⟩,g.hok.fresh (g8 _),λy c h=>?_,λp m=>absurd (show p∈([]:List (Addr×Obj))from m) (by simp),g.hok.kept hk,?_⟩
 ·exact MY x.apart (PySem.mem_of_lookup B) (PySem.mem_of_lookup d)
 ·have l:scope.names.lookup y=some .cell∨scope.names.lookup y=some .free:=l;rcases l with l|l
  ·exact qU l
  ·exact absurd rfl (S.nofree _ (PySem.mem_of_lookup l))
 ·exact Q7 (x.above y c (PySem.mem_of_lookup h))
 ·have hi:i<vs.length:=by
   unfold start at d;by_cases hi:i<vs.length
   ·exact hi
   ·rw[List.getElem?_append_right (by simpa using hi)]at d;rw[List.getElem?_replicate]at d;split at d<;>cases d
  have I:vs[i]?=some v:=by
   unfold start at d;rw[List.getElem?_append_left (by simpa using hi),List.getElem?_map]at d;cases e:vs[i]? with
   |none=>rw[e]at d;cases d
   |some a=>rw[e]at d;cases d;rfl
  obtain⟨u,F,J⟩:=r.get I;have m:ps[i]?=some y:=by
   rw[←S.pre,List.getElem?_take_of_lt (by omega)];exact B
  have o:ps.Nodup:=by rw[←S.pre];exact S.nd.sublist (List.take_sublist _ _)
  refine⟨u,J,?_⟩;rcases S.par y (List.mem_of_getElem? m)with k|k
  ·exact .inl ⟨k,nu o m F k⟩
  ·obtain⟨c,e⟩:=qU (n:=s.heap.objs.size+1) k;refine .inr ⟨.inl k,c,e,?_⟩;have q:=x.cell y c e;rw[nw o m F (by show scope.names.lookup y≠_;rw[k];decide)]at q;exact q
 ·exact g.hok.fresh (Q7 (x.above y c (PySem.mem_of_lookup h)))
 ·unfold start;show _=N.length;rw[List.length_append,List.length_map,List.length_replicate];omega
theorem Ie {CX:AM}{P:Program}{w:World}{K:PySem.W.Frag}{mg:Str→Option Value}{base:Heap}{k:Nat}{f:Addr}{name qual:Str}{a:Arguments}{c:List Stmt}{scope:Scope}{B kV doc pm cdv ct oc:Value}{an od:Option Addr}
  {osl:Array (Option Value)} {N ps:List Str} {sp:Sp} (lk:K.lookup f=some ⟨oc,od,.func (PySem.W.fnOf name qual a c scope B kV doc pm an cdv ct),osl⟩) (l:PySem.W.codeIn K cdv qual=true) (S:m7 N ps scope)
  (len:∀vs H Q E,sp vs H Q E→vs.length=ps.length)
  (g:∀(A:Around) (outer:List Env) (s:Shared) (H:Hp) (vs:List V) (Q:VK) (E:XK),O6 k (A.deeper (bM qual scope s.heap.objs.size f cdv))→sp vs H Q E→
   ∃t,lA (lg CX P w K mg base N qual scope f cdv A outer s H E) c t∧t {nx:=λ_ H'=>Q .v1 H',rt:=Q} (start N vs) H):
  x2 P w K mg base CX (k+1) f (PySem.W.fnOf name qual a c scope B kV doc pm an cdv ct) ps sp:=by
 refine⟨len,λA outer s H args us vs Q E hr i G r j=>?_⟩;have hl:=len _ _ _ _ j;have F:K.In s.heap:=i.mod.kin.keeps λb o e=>(i.bs b o e).1;have m:s.heap.NoLimit:=i.mod.nolimit.keeps λb o e=>(i.bs b o e).1;have h:∀y∈ps.zip us,scope.names.lookup y.1=some .local∨(scope.names.lookup y.1=some .cell∧((cellsFrom (s.heap.objs.size+1) scope.names []).lookup y.1).isSome=true):=λ⟨n,v⟩ L=>by
  rcases S.par n (List.of_mem_zip L).1 with q|q
  ·exact .inl q
  ·exact .inr ⟨q,PySem.W.cellsFrom_some _ _ _ (.inl q)⟩
 refine codeAny_call_function hr.depth (F _ _ lk) rfl S.co S.gen rfl (PySem.W.codeRec_of F l) (G _ _ _ _ ?_);refine wpAny_newFunctionEnv_cells S.kind h λenv O s1 x=>?_;subst O;refine⟨m.keeps x.toInCall.keep,codeAny_func ?_⟩;obtain⟨t,R,T⟩:=g A outer s H vs Q E (hr.deeper _) j;have I:Inv (lg CX P w K mg base N qual scope f cdv A outer s H E) [] (start N vs) H s1:=wB S hr.hd i hl r x;refine z5 (R [] s1 (start N vs) H _ I T) (λU p hs=>?_) λe p hs=>hs;have fin:∀{d:St} {H':Hp} {v:V} {u:Value},Inv (lg CX P w K mg base N qual scope f cdv A outer s H E) [] d H' p→RelV v u→Q v H'→CE outer P w H s Q u p:=
  λ{d H' v u} J z q=>⟨v,H',J.os,J.bare,J.base,J.hok,z,q⟩
 cases U with
 |ret u=>
  obtain⟨v,d,H',J,z,q⟩:=hs;exact fin J z q
 |next=>
  obtain⟨d,H',J,q⟩:=hs;exact fin (v:=V.v1) (u:=Value.none) J rfl q
 |brk=>
  obtain⟨_,_,_,q⟩:=hs;exact D1 q
 |cont=>
  obtain⟨_,_,_,q⟩:=hs;exact D1 q
section
variable {X:Cx}{x:Str}{p pos:Pos}{e:Expr}{es:List Expr}{t:TA}{id T:String}{r:List V→Hp→VK→Prop}
noncomputable def GE (r:List V→Hp→VK→Prop)(t:TA):TE:=λσ H Q=>t σ H λvs a=>r vs a Q
theorem yz (c:J2 X (.builtin id) r)(d:Gl X x)(f:X.mg x=none)(g:K4 x=some (.builtin id))(i:PA X (e::es) t)(j:x≠"__name__":=by decide) (a:(x==("__debug__":Str))=false:=by decide)
  (k:f9 (e::es) X.env=(false,eval e X.env)::f9 es X.env:=by rfl) (b:(l8 pos (f9 es X.env)).any (·.1)=false:=by rfl):PE X (.Call (.Name x p) (e::es) [] pos) (GE r t):=by
 intro pins s σ H Q I h;refine t9 (V6 I d f g ?_ j a);exact Lf (F0 (i pos pins s σ H _ I h) λus s1 ⟨vs,l,m,n,o⟩=>c pins s1 σ l vs us Q m n o) k b
theorem vX (c:J2 X (.type T) r)(d:Gl X x)(f:X.mg x=none)(g:K4 x=some (.type T))(i:PA X (e::es) t)(j:x≠"__name__":=by decide) (a:(x==("__debug__":Str))=false:=by decide)
  (k:f9 (e::es) X.env=(false,eval e X.env)::f9 es X.env:=by rfl) (b:(l8 pos (f9 es X.env)).any (·.1)=false:=by rfl):PE X (.Call (.Name x p) (e::es) [] pos) (GE r t):=by
 intro pins s σ H Q I h;refine t9 (V6 I d f g ?_ j a);exact m4 (F0 (i pos pins s σ H _ I h) λus s1 ⟨vs,l,m,n,o⟩=>c pins s1 σ l vs us Q m n o) k b
end
end L2
namespace HT
open PySem PyProof.Rows
section
variable {prog:Program}{w:World}{A:Around}{E:Value→Shared→Prop}{s:Shared}
noncomputable def B9 (n d:Nat):Option Int→Nat
 |none=>d
 |some v=>if v<0 then(v+(n:Int)).toNat else min v.toNat n
theorem pT (n d:Nat):B9 n d none=d:=rfl
theorem tY (n d k:Nat):B9 n d (some (k:Int))=min k n:=by
 show(if(k:Int)<0 then((k:Int)+(n:Int)).toNat else min (k:Int).toNat n)=min k n;rw[if_neg (by omega),G7]
theorem xX (n d:Nat)(hd:d≤n)(o:Option Int):B9 n d o≤n:=by
 cases o with
 |none=>exact hd
 |some v=>
  show(if v<0 then(v+(n:Int)).toNat else min v.toNat n)≤n;by_cases a:v<0
  ·rw[if_pos a];omega
  ·rw[if_neg a];exact Nat.min_le_right _ _
theorem uZ (v:Int)(n d:Nat):(if v<0 then max (v+(n:Int)) 0 else min v (n:Int))=((B9 n d (some v):Nat):Int):=by
 show(if v<0 then max (v+(n:Int)) 0 else min v (n:Int))=(((if v<0 then(v+(n:Int)).toNat else min v.toNat n):Nat):Int)
 by_cases a:v<0
 ·simp only[if_pos a];omega
 ·simp only[if_neg a];omega
theorem tE (lo hi:Option Int)(n:Nat):Y3 lo hi 1 (n:Int)=(((B9 n 0 lo:Nat):Int),((B9 n n hi:Nat):Int)):=by
 have a:¬((1:Int)<0):=by omega
 unfold Y3;simp only[a,if_false];refine xr ?_ ?_
 ·cases lo with
  |none=>rfl
  |some v=>exact uZ v n 0
 ·cases hi with
  |none=>rfl
  |some v=>exact uZ v n n
theorem rQ (i j:Nat):M9 (i:Int) (j:Int) 1=j-i:=by
 unfold M9;have a:(1:Int)>0:=by omega
 simp only[a,if_true,Int.ediv_one];split<;>omega
theorem ka {v:Value}{o:Option Int}{Q:Option Int→Shared→Prop}(p:IsPart v o)(h:Q o s):wpAny (model prog w) A (JD v) Q E s:=by
 cases p with
 |none=>exact LG h
 |int i t=>exact slicePart_int h
theorem bP {sl:Addr}{c d:Value}{lo hi:Option Int}{n:Nat}{Q:Int×Int×Nat→Shared→Prop}(hs:s.heap.IsSliceOf sl c d .none)(e:IsPart c lo)(pu:IsPart d hi)
  (h:Q (((B9 n 0 lo:Nat):Int),1,B9 n n hi-B9 n 0 lo) s):wpAny (model prog w) A (hR (.ref sl) (pure (n:Int))) Q E s:=by
 obtain⟨os,a,f,b⟩:=id hs;unfold hR JE;refine f7 (f7 (u4 a b (x:=c) rfl (f7 (u4 a b (x:=d) rfl (f7 (u4 a b (x:=.none) rfl (i3 ?_)))))));refine f7 (LG ?_);show wpAny _ _ (if((1:Int)==0)=true then _ else _) _ _ s;rw[if_neg (by decide)];refine f7 (ka e (f7 (ka pu (f7 (i3 ?_)))));show wpAny _ _ (match Y3 lo hi 1 (n:Int)with| (lo,hi)=>pure (lo,(1:Int),M9 lo hi 1)) _ _ s;rw[tE lo hi n];show wpAny _ _ (pure (((B9 n 0 lo:Nat):Int),(1:Int),M9 ((B9 n 0 lo:Nat):Int) ((B9 n n hi:Nat):Int) 1)) _ _ s;rw[rQ];exact i3 h
theorem yu (xs:Array Value)(i k:Nat):((List.range k).filterMap λ(m:Nat)=>xs[((i:Int)+(m:Int)*1).toNat]?).toArray=((xs.toList.drop i).take k).toArray:=by
 have e:(λ(m:Nat)=>xs[((i:Int)+(m:Int)*1).toNat]?)=λm=>xs[i+m]?:=by
  funext m;have:((i:Int)+(m:Int)*1).toNat=i+m:=by omega
  rw[this]
 rw[e];have:=pick_run xs i k;rw[List.filterMap_map]at this;have a:((λx=>xs[x]?)∘λx=>i+x)=λm=>xs[i+m]?:=rfl;rw[a]at this;rw[this]
theorem gP {t sl:Addr}{a:Array Value}{i j:Value}{lo hi:Option Int}{Q:Value→Shared→Prop}(c:Ea s.heap t a)(hs:s.heap.IsSliceOf sl i j .none)(k:IsPart i lo)(pu:IsPart j hi)
  (l:¬(B9 a.size 0 lo=0∧B9 a.size a.size hi=a.size))
  (h:Q (.ref s.heap.objs.size) {s with heap:=s.heap.push {cls:=.type "tuple",data:=.seq ((a.toList.drop (B9 a.size 0 lo)).take (B9 a.size a.size hi-B9 a.size 0 lo)).toArray}})
  (n:a.size≤sizeLine):wpAny (model prog w) A (fS (.ref t) (.ref sl)) Q E s:=by
 have b:sizeOk (.seq ((a.toList.drop (B9 a.size 0 lo)).take (B9 a.size a.size hi-B9 a.size 0 lo)).toArray):=by
  show((a.toList.drop (B9 a.size 0 lo)).take (B9 a.size a.size hi-B9 a.size 0 lo)).toArray.size≤sizeLine;rw[List.size_toArray,List.length_take,List.length_drop,C1];omega
 have p:B9 a.size a.size hi≤a.size:=xX _ _ (g8 _) hi;obtain⟨os,d,e,o⟩:=id hs;have f:s.TypeIs (.ref sl) "slice":=⟨os,d,e⟩
 unfold fS;try with_reducible refine v8 ?_
 first|refine f7 (i3 ?_) |skip
 refine f7 (IM c.typeIs (by decide) ?_);refine f7 (X5 (name:=Str.ofString "__getitem__") c.typeIs u2
  (aJ u2 c.typeIs entry_tuple_getitem ?_ (args_tuple_getitem _ _)))
 show wpAny _ _ (hP (.ref t) >>= _) _ _ s;refine f7 (tupleItemsOf_ c ?_);refine f7 (S7 f ?_);rw[if_pos (by decide)];refine f7 (bP hs k pu ?_);have g:¬((((B9 a.size 0 lo:Nat):Int)==0&&(1:Int)==1&&(B9 a.size a.size hi-B9 a.size 0 lo)==a.size)=true):=by
  intro q;rw[k6,k6]at q;have r:((B9 a.size 0 lo:Nat):Int)=0:=eq_of_beq q.1.1;have u:B9 a.size a.size hi-B9 a.size 0 lo=a.size:=eq_of_beq q.2;exact l ⟨by omega,by omega⟩
 show wpAny _ _ (if(((B9 a.size 0 lo:Nat):Int)==0&&(1:Int)==1&&(B9 a.size a.size hi-B9 a.size 0 lo)==a.size)=true then _ else _) _ _ s;rw[if_neg g,yu];first
  |exact f7 (m:=x5 _) (C5 (i3 ⟨_,rfl,i3 h⟩) b)
  |exact f7 (m:=x5 _) (C5 (f7 (i3 (i3 ⟨_,rfl,i3 h⟩))) b)
  |exact f7 (f7 (m:=x5 _) (C5 (i3 (i3 ⟨_,rfl,i3 h⟩)) b))
  |exact f7 (f7 (m:=x5 _) (C5 (i3 ⟨_,rfl,i3 h⟩) b))
end
end HT
namespace L2
open PySem PySem.Spec PyProof.Rows
noncomputable abbrev TO:=St→Hp→(Option Int→Hp→Prop)→Prop
def PO (X:Cx)(e:Option Expr)(t:TO):Prop:=
 ∀(pins:List (Addr×Obj)) (s:Shared) (σ:St) (H:Hp) (Q:Option Int→Hp→Prop),Inv X pins σ H s→t σ H Q→
  wpAny (model X.prog X.w) X.A (evalPart e X.env) (λu a=>∃o H',Inv X pins σ H' a∧IsPart u o∧Q o H') X.xe s
noncomputable def Bl:TO:=λ_ H Q=>Q none H
noncomputable def Hc (t:TE):TO:=λσ H Q=>t σ H λx a=>∃i,x=.int i∧Q (some i) a
theorem intsAre_of {ns:List Int}:∀{us:List Value},Vals (ns.map V.int) us→IntsAre us ns:=by
 induction ns with
 |nil=>intro us r;rw[List.map_nil]at r;cases r;exact .nil
 |cons n ns ih=>
  intro us r;rw[List.map_cons]at r;cases r with
  |cons a b=>
   obtain⟨t,e⟩:=a;subst e;exact .cons n t (ih b)
section
variable {X:Cx}{e:Expr}{te:TE}{lo hi:Option Expr}{tl th:TO}{pos p2:Pos}
theorem BL:PO X none Bl:=by
 intro pins s σ H Q I h;rw[Mm];exact i3 ⟨none,H,I,.none,h⟩
theorem BK (h:PE X e te):PO X (some e) (Hc te):=by
 intro pins s σ H Q I a;rw[evalPart_some];refine F0 (h pins s σ H _ I a) λu s1 ⟨x,b,c,d,f⟩=>?_;obtain⟨i,rfl,q⟩:=f;obtain⟨t,rfl⟩:=d;exact⟨some i,b,c,.int i t,q⟩
def Ax (X:Cx)(r:V→Option Int→Option Int→Hp→VK→Prop):Prop:=
 ∀(pins:List (Addr×Obj)) (s:Shared) (σ:St) (H:Hp) (x:V) (v a b:Value) (lo hi:Option Int) (sl:Addr) (Q:VK),Inv X pins σ H s→RelV x v→s.heap.IsSliceOf sl a b .none→IsPart a lo→IsPart b hi→r x lo hi H Q→
  ∃T id,aK (.type T) "__getitem__"=pure (some (.builtin id))∧s.TypeIs v T∧wpAny (model X.prog X.w) X.A (fS v (.ref sl)) (EP X pins σ Q) X.xe s
theorem Ax.or {r a:V→Option Int→Option Int→Hp→VK→Prop}(h:Ax X r)(h':Ax X a):Ax X (λx lo hi H Q=>r x lo hi H Q∨a x lo hi H Q):=by
 intro pins s σ H x v b c lo hi sl Q I d hs e pu q;rcases q with q|q
 ·exact h pins s σ H x v b c lo hi sl Q I d hs e pu q
 ·exact h' pins s σ H x v b c lo hi sl Q I d hs e pu q
noncomputable def LS (r:V→Option Int→Option Int→Hp→VK→Prop)(te:TE)(tl th:TO):TE:=λσ H Q=>te σ H λx a=>tl σ a λl b=>th σ b λu c=>r x l u c Q
theorem yv {r:V→Option Int→Option Int→Hp→VK→Prop}(hr:Ax X r)(g:PE X e te)(hl:PO X lo tl)(i:PO X hi th):PE X (.Subscript e (.Slice lo hi none p2) pos) (LS r te tl th):=by
 intro pins s σ H Q I h;refine Subscript_ (F0 (g pins s σ H _ I h) λv s1 ⟨x,j,k,m,n⟩=>?_);refine wpAny_Slice (F0 (hl pins s1 σ j _ k n) λc s2 ⟨l,o,p,t,y⟩=>F0 (i pins s2 σ o _ p y) λd a ⟨u,f,z,pu,B⟩=>?_);rw[Mm];refine i3 ?_;have E:Inv X pins σ f {a with heap:=a.heap.push {cls:=.type "slice",data:=.fields #[c,d,.none]}}:=z.kept (t':=a.toks) λb ob q=>Heap.get?_push_of_some _ q;obtain⟨T,id,F,G,J⟩:=hr pins {a with heap:=a.heap.push {cls:=.type "slice",data:=.fields #[c,d,.none]}} σ f x v c d l u a.heap.objs.size Q E m (Heap.IsSliceOf.new ..) t pu B;show wpAny (model X.prog X.w) X.A (Mh e (.Slice lo hi none p2) v (.ref a.heap.objs.size)) (EP X pins σ Q) X.xe {a with heap:=a.heap.push {cls:=.type "slice",data:=.fields #[c,d,.none]}};exact LF (ops:=[.ref a.heap.objs.size,v]) G F J (by with_unfolding_all rfl)
noncomputable def lV (xs:List V)(lo hi:Option Int):List V:=(xs.drop (HT.B9 xs.length 0 lo)).take (HT.B9 xs.length xs.length hi-HT.B9 xs.length 0 lo)
theorem iU (xs:List V)(lo hi:Option Int):(lV xs lo hi).length≤xs.length:=by
 unfold lV;rw[List.length_take,List.length_drop];omega
noncomputable def Ht (K:PySem.W.Frag):V→Option Int→Option Int→Hp→VK→Prop:=λx lo hi H Q=>∃a xs,x=.ref a∧bn K H a xs∧
 ¬(HT.B9 xs.length 0 lo=0∧HT.B9 xs.length xs.length hi=xs.length)∧∀p,H p=none→Q (.ref p) (upd H p (.tup (lV xs lo hi)))
theorem Ev:Ax X (Ht X.K):=by
 intro pins s σ H x v l m lo hi sl Q I g hs i pu h;obtain⟨a,xs,rfl,j,k,q⟩:=h;cases g;obtain⟨d,r,e,f⟩:=I.tuple j;have c:d.toArray.size=xs.length:=by rw[List.size_toArray];exact r.length.symm
 refine⟨"tuple",_,u2.lookup,e.typeIs,?_⟩;refine HT.gP e hs i pu (by rw[c];exact k) ?_ (by rw[c];exact f);rw[c];refine⟨.ref s.heap.objs.size,_,I.laid (t':=s.toks) (o:=.tup (lV xs lo hi)) (λb ob q=>Heap.get?_push_of_some _ q) (g8 _) ?_,rfl,q _ (I.hok.fresh (g8 _))⟩;exact⟨l7 (iU xs lo hi) f,_,(r.drop (HT.B9 xs.length 0 lo)).take (HT.B9 xs.length xs.length hi-HT.B9 xs.length 0 lo),AY _ _⟩
end
noncomputable def wz (n:Nat)(i:Int):Option Nat:=if 0≤i then(if i<n then some i.toNat else none)else if -(n:Int)≤i then some (i+n).toNat else none
noncomputable def fN {α:Type}(xs:List α)(i:Int):Option α:=(wz xs.length i).bind λj=>xs[j]?
theorem uC {n:Nat}{i:Int}{j:Nat}(h:wz n i=some j):seqIndex? i n=some j∧j<n∧-(n:Int)≤i∧i<n:=by
 unfold wz at h;by_cases b:0≤i
 ·rw[if_pos b]at h;by_cases a:i<n
  ·rw[if_pos a]at h;have e:i.toNat=j:=i9 h;exact⟨by rw[DU b a,e],by omega,by omega,a⟩
  ·rw[if_neg a]at h;cases h
 ·rw[if_neg b]at h;by_cases a:-(n:Int)≤i
  ·rw[if_pos a]at h;have e:(i+n).toNat=j:=i9 h;exact⟨by rw[AT (by omega) a,e],by omega,a,by omega⟩
  ·rw[if_neg a]at h;cases h
theorem oZ {α:Type}{xs:List α}{i:Int}{v:α}(h:fN xs i=some v):∃j,seqIndex? i xs.length=some j∧xs[j]?=some v∧j<xs.length∧-(xs.length:Int)≤i∧i<xs.length:=by
 unfold fN at h;cases e:wz xs.length i with
 |none=>rw[e]at h;cases h
 |some j=>
  rw[e]at h;obtain⟨a,b,c,d⟩:=uC e;exact⟨j,a,h,b,c,d⟩
theorem oY {α:Type}{xs:List α}{j:Nat}{v:α}(h:xs[j]?=some v):fN xs (j:Int)=some v:=by
 have a:j<xs.length:=(List.getElem?_eq_some_iff.mp h).1;have e:wz xs.length (j:Int)=some j:=by
  unfold wz;rw[if_pos (by omega),if_pos (by omega)];simp
 unfold fN;rw[e];exact h
theorem qX {α:Type}(xs:List α)(v:α):fN (xs++[v]) (-1)=some v:=by
 have hl:(xs++[v]).length=xs.length+1:=by simp
 have e:wz (xs++[v]).length (-1)=some xs.length:=by
  unfold wz;rw[hl,if_neg (by decide),if_pos (by omega)];congr 1;omega
 unfold fN;rw[e];show(xs++[v])[xs.length]?=some v;simp
def ph (b:Expr):Prop:=∀o i,subscripted b false o i=operate [o,i] (fS o i)
def Az (X:Cx)(r:R2):Prop:=
 ∀(b a:Expr) (pins:List (Addr×Obj)) (s:Shared) (σ:St) (H:Hp) (x y:V) (v u:Value) (Q:VK),Inv X pins σ H s→RelV x v→RelV y u→r x y H Q→
  subscripted a false v u=operate [v,u] (fS v u)→wpAny (model X.prog X.w) X.A (Mh b a v u) (EP X pins σ Q) X.xe s
def Ky (X:Cx)(id:String)(r:V→List V→Hp→VK→Prop):Prop:=
 ∀(pins:List (Addr×Obj)) (s:Shared) (σ:St) (H:Hp) (x:V) (xs:List V) (v:Value) (us:List Value) (Q:VK),Inv X pins σ H s→RelV x v→Vals xs us→r x xs H Q→
  wpAny (model X.prog X.w) X.A (call (.builtin id) (v::us)) (EP X pins σ Q) X.xe s
section
variable {X:Cx}{a b:Expr}{ta tb:TE}{pos:Pos}
theorem Az.or {r c:R2}(h:Az X r)(h':Az X c):Az X (λx y H Q=>r x y H Q∨c x y H Q):=by
 intro a b pins s σ H x y v u Q I d e q hs;rcases q with q|q
 ·exact h a b pins s σ H x y v u Q I d e q hs
 ·exact h' a b pins s σ H x y v u Q I d e q hs
theorem DG {r:R2}(hr:Az X r)(c:PE X a ta)(d:PE X b tb)(hs:ph b):PE X (.Subscript a b pos) (Hd r ta tb):=by
 intro pins s σ H Q I h;exact Subscript_ (Gi c d I h λv u s2 x y e f g i q=>hr a b pins s2 σ e x y v u Q f g i q (hs _ _))
noncomputable def ED (K:PySem.W.Frag):R2:=λx y H Q=>∃p xs i v,x=.ref p∧y=.int i∧P8 K H p xs∧fN xs i=some v∧Q v H
noncomputable def EC (K:PySem.W.Frag):R2:=λx y H Q=>∃p xs i v,x=.ref p∧y=.int i∧bn K H p xs∧fN xs i=some v∧Q v H
noncomputable def Hw:R2:=λx y H Q=>∃z i c,x=.str z∧y=.int i∧z.length≤sizeLine∧fN z.cps.toList i=some c∧Q (.str ⟨#[c]⟩) H
theorem Cs:Az X (ED X.K):=by
 intro b c pins s σ H x y v u Q I m n h hs;obtain⟨p,xs,i,z,rfl,rfl,o,A,q⟩:=h;cases m;obtain⟨t,rfl⟩:=n;obtain⟨d,r,e,J⟩:=I.list o;obtain⟨j,a,B,L,E,F⟩:=oZ A;obtain⟨w,k,f⟩:=r.get B;have hl:=r.length;have N:=fE;have fin:EP X pins σ Q w s:=⟨z,H,I,f,q⟩
 by_cases l:0≤i
 ·have g:i.toNat=j:=by
   rw[DU l F]at a;exact i9 a
  exact item_listR e.isList l (by omega) (by rw[g];simpa using k) fin hs
 ·have g:(i+(d.toArray.size:Int)).toNat=j:=by
   rw[AT (by omega) E]at a;rw[List.size_toArray,←hl];exact i9 a
  exact AR (x:=w) e.isList.typeIs IP.lookup
   (wpAny_getItem_list_neg (Q:=λr G=>r=w∧EP X pins σ Q r G) e.isList (by omega) (by rw[List.size_toArray]<;>omega) (by omega) (by rw[g];simpa using k) ⟨rfl,fin⟩) hs
theorem FD:Az X (EC X.K):=by
 intro a b pins s σ H x y v u Q I e f h hs;obtain⟨p,xs,i,z,rfl,rfl,g,k,q⟩:=h;cases e;obtain⟨t,rfl⟩:=f;obtain⟨l,r,d,B⟩:=I.tuple g;obtain⟨j,m,n,E,F,G⟩:=oZ k;obtain⟨w,o,c⟩:=r.get n;have hl:=r.length;have J:=fE;have fin:EP X pins σ Q w s:=⟨z,H,I,c,q⟩
 exact AR (x:=w) d.typeIs slot_tuple_getitem.lookup
  (getItem_tuple (j:=j) (Q:=λr A=>r=w∧EP X pins σ Q r A) d (by omega) (by omega) (by rw[List.size_toArray,←hl];exact m) (by simpa using o) ⟨rfl,fin⟩) hs
theorem za:Az X Hw:=by
 intro a b pins s σ H x y v u Q I e f h hs;obtain⟨z,i,c,rfl,rfl,p,g,q⟩:=h;obtain⟨t,rfl⟩:=e;obtain⟨r,rfl⟩:=f;obtain⟨j,d,k,w,l,m⟩:=oZ g;have hl:z.cps.toList.length=z.length:=by simp[Str.length]
 rw[hl]at d l m;have A:=fE;exact LF (GP s z t) slot_str_getitem.lookup (getItem_str (c:=c) (by
  have n:decide (i < -(2 ^ 63:Int))=false:=decide_eq_false (by omega);have o:decide (i≥2 ^ 63)=false:=decide_eq_false (by omega);rw[n,o,rm]) (by rw[d];simpa using k) ⟨.str ⟨#[c]⟩,H,I.tok _,⟨_,rfl⟩,q⟩) hs
theorem sq (a:List Value)(n j:Nat)(u:Value):Obj.mapSeq (·.setIfInBounds j u) {cls:=.type "list",data:=.seq a.toArray n}={cls:=.type "list",data:=.seq (a.set j u).toArray n}:=by
 simp[Obj.mapSeq]
theorem Inv.lst {pins:List (Addr×Obj)}{σ:St}{H:Hp}{s:Shared}{p:Addr}{xs:List V}(I:Inv X pins σ H s)(h:H p=some (.lst xs)):
  ∃(a:List Value) (n:Nat),Vals xs a∧s.heap.get? p=some {cls:=.type "list",data:=.seq a.toArray n}∧xs.length≤sizeLine:=by
 obtain⟨z,a,n,r,e⟩:=I.hok p _ h;exact⟨a,n,r,e,z⟩
theorem Inv.Fu {pins:List (Addr×Obj)}{σ:St}{H:Hp}{s:Shared}{p:Addr}{xs d:List V}{c a:List Value}{n g:Nat}{f:Obj→Obj}(I:Inv X pins σ H s)(h:H p=some (.lst xs))
  (j:s.heap.get? p=some {cls:=.type "list",data:=.seq c.toArray n}) (i:f {cls:=.type "list",data:=.seq c.toArray n}={cls:=.type "list",data:=.seq a.toArray g}) (r:Vals d a) (k:d.length≤sizeLine) (t:Nat):
  Inv X pins σ (upd H p (.lst d)) {s with heap:=s.heap.update p f,toks:=t}:=by
 have e:(s.heap.update p f).get? p=some {cls:=.type "list",data:=.seq a.toArray g}:=by
  rw[Heap.get?_update_self f j (by rw[i]<;>rfl),i]
 refine I.write (x:=p) (e:=p) (by rw[h];trivial) (.inl rfl) (λb u l q=>(Heap.get?_update_other _ _ (w5 l)).trans q) ⟨_,e⟩ ?_;exact⟨k,a,g,r,e⟩
noncomputable def Hv:V→V→V→Hp→(Hp→Prop)→Prop:=λo i v H Q=>∃p xs k j,o=.ref p∧i=.int k∧H p=some (.lst xs)∧wz xs.length k=some j∧Q (upd H p (.lst (xs.set j v)))
theorem set_list:tG X Hv:=by
 intro pins s σ H o i v A B u Q I m w x h;obtain⟨p,xs,k,j,rfl,rfl,d,y,q⟩:=h;cases m;obtain⟨t,rfl⟩:=w;obtain⟨a,n,r,c,z⟩:=I.lst d;obtain⟨b,E,e,f⟩:=uC y;have hl:=r.length;have F:=fE;have g:Inv X pins σ (upd H p (.lst (xs.set j v))) {s with heap:=s.heap.update p (Obj.mapSeq (·.setIfInBounds j u))}:=
  I.Fu d c (sq a n j u) (r.set x j) (by rw[List.length_set];exact z) s.toks
 by_cases l:0≤k
 ·have hk:k.toNat=j:=by
   rw[DU l f]at b;exact i9 b
  exact PySem.W.ki_setAt c l (by omega) (by rw[List.size_toArray,←hl];exact f) (by rw[hk];exact⟨_,g,q⟩)
 ·have hk:(k+(a.toArray.size:Int)).toNat=j:=by
   rw[AT (by omega) e]at b;rw[List.size_toArray,←hl];exact i9 b
  exact PySem.W.ki_setBack c (by omega) (by rw[List.size_toArray,←hl];exact e) (by omega) (by rw[hk];exact⟨_,g,q⟩)
theorem nL (lo hi:Option Int)(n:Nat):(bp lo hi none n).1=((HT.B9 n 0 lo:Nat):Int)∧(bp lo hi none n).2.1=((HT.B9 n n hi:Nat):Int)∧(bp lo hi none n).2.2=1:=by
 refine⟨?_,?_,rfl⟩
 ·cases lo with
  |none=>simp[bp,HT.B9]
  |some i=>
   simp only[bp,HT.B9,AH,show(1:Int)>0 by decide,if_true];by_cases h:i<0
   ·simp only[h,if_true]<;>omega
   ·simp only[h,if_false]<;>omega
 ·cases hi with
  |none=>simp[bp,HT.B9]
  |some i=>
   simp only[bp,HT.B9,AH,show(1:Int)>0 by decide,if_true];by_cases h:i<0
   ·simp only[h,if_true]<;>omega
   ·simp only[h,if_false]<;>omega
theorem lM (a:List Value)(lo hi:Option Int):slicePick a.toArray lo hi none=((a.drop (HT.B9 a.length 0 lo)).take (HT.B9 a.length a.length hi-HT.B9 a.length 0 lo)).toArray:=by
 obtain⟨b,c,d⟩:=nL lo hi a.toArray.size;unfold slicePick;rw[b,c,d];simp only[sliceRange_one,pick_run,List.size_toArray]<;>rfl
noncomputable def Hu (K:PySem.W.Frag):V→Option Int→Option Int→Hp→VK→Prop:=λx lo hi H Q=>∃a xs,x=.ref a∧P8 K H a xs∧∀p,H p=none→Q (.ref p) (upd H p (.lst (lV xs lo hi)))
theorem Bp:Ax X (Hu X.K):=by
 intro pins s σ H x v k l lo hi sl Q I e hs f pu h;obtain⟨a,xs,rfl,g,q⟩:=h;cases e;obtain⟨i,r,d,j⟩:=I.list g;have c:=r.length;refine⟨"list",_,IP.lookup,d.isList.typeIs,?_⟩;refine wpAny_getItem_list_slice d.isList hs f pu .none (by simp) ?_ (by rw[List.size_toArray]<;>omega);rw[lM,←c];refine⟨.ref s.heap.objs.size,_,I.laid (t':=s.toks) (o:=.lst (lV xs lo hi)) (λb ob q=>Heap.get?_push_of_some _ q) (g8 _) ?_,rfl,q _ (I.hok.fresh (g8 _))⟩;exact⟨l7 (iU xs lo hi) j,_,0,(r.drop (HT.B9 xs.length 0 lo)).take (HT.B9 xs.length xs.length hi-HT.B9 xs.length 0 lo),Heap.get?_push_size _ rfl⟩
theorem ol:eS X (v7 .NotIn) (λx y H Q=>∃i j,x=.str i∧y=.str j∧Q (.bl (!(!(A2 j i 0 j.length 1).isEmpty))) H):=by
 intro pins s σ H x y v u Q I a b h;obtain⟨i,j,rfl,rfl,q⟩:=h;obtain⟨t,rfl⟩:=a;obtain⟨c,rfl⟩:=b;exact notIn_str ⟨.bl _,H,I,rfl,q⟩
theorem oW:J2 X (.builtin "len") (λxs H Q=>∃p b,xs=[.ref p]∧(P8 X.K H p b∨bn X.K H p b)∧Q (.int b.length) H):=by
 intro pins s σ H xs us Q I r h;obtain⟨p,b,rfl,c,q⟩:=h;obtain⟨u,rfl,g⟩:=vals1 r;cases g;have j:=fE;rcases c with c|c
 ·obtain⟨d,e,f,i⟩:=I.list c;have a:=e.length;exact Calls.call_len_list f.isList (by simp only[List.size_toArray]<;>omega) ⟨.int b.length,H,I.tok _,⟨s.toks+1,by rw[List.size_toArray,a]⟩,q⟩
 ·obtain⟨d,e,f,i⟩:=I.tuple c;have a:=e.length;exact len_tuple f (by simp only[List.size_toArray]<;>omega) ⟨.int b.length,H,I.tok _,⟨s.toks+1,by rw[List.size_toArray,a]⟩,q⟩
theorem oV:J2 X (.builtin "len") (λxs H Q=>∃z,xs=[.str z]∧z.length≤sizeLine∧Q (.int z.length) H):=by
 intro pins s σ H xs us Q I r h;obtain⟨z,rfl,a,q⟩:=h;obtain⟨u,rfl,t,rfl⟩:=vals1 r;have b:=fE;exact len_str (by omega) ⟨.int z.length,H,I.tok _,⟨_,rfl⟩,q⟩
theorem J2.or {f:Value}{r a:List V→Hp→VK→Prop}(h:J2 X f r)(h':J2 X f a):J2 X f (λxs H Q=>r xs H Q∨a xs H Q):=by
 intro pins s σ H xs us Q I rs q;rcases q with q|q
 ·exact h pins s σ H xs us Q I rs q
 ·exact h' pins s σ H xs us Q I rs q
theorem oU:J2 X (.type "list") (λxs H Q=>∃p c,xs=[.ref p]∧(P8 X.K H p c∨bn X.K H p c)∧∀l,H l=none→Q (.ref l) (upd H l (.lst c))):=by
 intro pins s σ H xs us Q I r h;obtain⟨p,c,rfl,g,q⟩:=h;obtain⟨u,rfl,v⟩:=vals1 r;cases v;have fin:∀(a:List Value),Vals c a→c.length≤sizeLine→∀(h':Heap) (d:Nat),(∀b o',s.heap.get? b=some o'→h'.get? b=some o')→
   h'.get? s.heap.objs.size=some {cls:=.type "list",dict:=none,data:=.seq a.toArray d,slots:=#[]}→EP X pins σ Q (.ref s.heap.objs.size) {s with heap:=h'}:=λa f i h' d kp e=>
  ⟨.ref s.heap.objs.size,_,I.laid (t':=s.toks) kp (g8 _) (show I7 X.prog X.w _ h' _ (.lst c)from⟨i,a,d,f,e⟩),rfl,q _ (I.hok.fresh (g8 _))⟩
 rcases g with g|g
 ·obtain⟨a,f,k,i⟩:=I.list g;have j:=f.length;obtain⟨o,m,t,n,hd⟩:=k.isList;exact Mo p (.inl rfl) m t hd (λh' d kp e=>fin a f i h' d kp e) (by simp only[List.size_toArray]<;>omega)
 ·obtain⟨a,f,k,i⟩:=I.tuple g;have j:=f.length;obtain⟨o,m,t,n,hd⟩:=k;exact Mo p (.inr rfl) m t hd (λh' d kp e=>fin a f i h' d kp e) (by simp only[List.size_toArray]<;>omega)
theorem lX:J2 X (.type "tuple") (λxs H Q=>∃p c,xs=[.ref p]∧((P8 X.K H p c∧∀l,H l=none→Q (.ref l) (upd H l (.tup c)))∨(bn X.K H p c∧Q (.ref p) H))):=by
 intro pins s σ H xs us Q I r h;obtain⟨p,c,rfl,h⟩:=h;obtain⟨u,rfl,m⟩:=vals1 r;cases m;rcases h with⟨d,q⟩ | ⟨d,q⟩
 ·obtain⟨a,f,g,i⟩:=I.list d;have j:=f.length;refine call_tuple_list g.isList (λh' kp=>?_) (by simp only[List.size_toArray]<;>omega);have k:Inv X pins σ H {s with heap:=h'}:=I.kept (t':=s.toks) kp;have n:Inv X pins σ (upd H h'.objs.size (.tup c)) {s with heap:=h'.push {cls:=.type "tuple",data:=.seq a.toArray}}:=
   k.laid (t':=s.toks) (λb o e=>Heap.get?_push_of_some _ e) (g8 _) (show I7 X.prog X.w _ _ _ (.tup c)from⟨i,a,f,AY _ _⟩)
  exact⟨.ref h'.objs.size,_,n,rfl,q _ (k.hok.fresh (g8 _))⟩
 ·obtain⟨a,f,g,i⟩:=I.tuple d;exact call_tuple_same g ⟨.ref p,H,I,rfl,q⟩
def GD (K:PySem.W.Frag)(T:String)(x:V)(H:Hp):Prop:=match x with
 |.str _=>T="str"
 |.int _=>T="int"
 |.ref p=>(T="list"∧∃xs,P8 K H p xs)∨(T="tuple"∧∃o,K.lookup p=some o∧o.cls=.type "tuple"∧o.dict=none)∨
   (T="dict"∧((∃kvs,H p=some (.dK kvs))∨∃kvs,H p=some (.dT kvs)))∨(T="set"∧∃S n,H p=some (.set S n))
 |_=>False
theorem Ee {pins:List (Addr×Obj)}{σ:St}{H:Hp}{s:Shared}{T:String}{x:V}{v:Value}(I:Inv X pins σ H s)(r:RelV x v)(ty:GD X.K T x H):
  s.TypeIs v T∧∀a,v=.ref a→∃ob,s.heap.get? a=some ob∧ob.dict=none:=by
 cases x with
 |str z=>
  obtain⟨t,rfl⟩:=r;cases(show T="str" from ty);exact⟨GP s z t,λ_ e=>nomatch e⟩
 |int i=>
  obtain⟨t,rfl⟩:=r;cases(show T="int" from ty);exact⟨typeIs_int s i t,λ_ e=>nomatch e⟩
 |ref p=>
  cases r;rcases ty with⟨rfl,xs,f⟩ | ⟨rfl,o,hk,g,hd⟩ | ⟨rfl,hk⟩ | ⟨rfl,S,n,hk⟩
  ·obtain⟨h,_,d,_⟩:=I.list f;refine⟨d.isList.typeIs,λa e=>?_⟩;cases e;obtain⟨o,n,e,c,hd,_⟩:=d;exact⟨o,e,hd⟩
  ·refine⟨⟨o,I.mQ p o hk,g⟩,λa e=>?_⟩;cases e;exact⟨o,I.mQ _ o hk,hd⟩
  ·have z:∃o,s.heap.get? p=some o∧o.ExactDict:=by
    rcases hk with⟨kvs,hk⟩ | ⟨kvs,hk⟩
    ·obtain⟨_,_,_,_,o,_,_,e,ex,_⟩:=I.hok p _ hk;exact⟨o,e,ex⟩
    ·obtain⟨_,_,_,_,o,_,_,e,ex,_⟩:=I.hok p _ hk;exact⟨o,e,ex⟩
   obtain⟨o,e,ex⟩:=z;refine⟨⟨o,e,ex.1⟩,λa b=>?_⟩;cases b;exact⟨o,e,ex.2.1⟩
  ·obtain⟨o,_,_,_,e,ex,_⟩:=I.hok p _ hk;refine⟨⟨o,e,ex.1⟩,λa b=>?_⟩;cases b;exact⟨o,e,ex.2.1⟩
 |_=>exact D1 ty
noncomputable def LU (K:PySem.W.Frag)(T:String)(r:V→List V→Hp→VK→Prop)(to:TE)(t:TA):TE:=λσ H Q=>to σ H λx a=>GD K T x a∧t σ a λxs b=>r x xs b Q
variable {o e:Expr}{es:List Expr}{to:TE}{t:TA}{name:Str}{apos cpos:Pos}{T id:String}{r:V→List V→Hp→VK→Prop}
theorem uc (k:PlainAttrs T)(slot:Slot T name id)(f:typeOf (.builtin id)=pure (.type "method_descriptor")) (l:Ky X id r) (m:PE X o to) (n:PA X (e::es) t)
  (b:y7 o name X.env (eval o X.env)=eval o X.env:=by rfl)
  (d:((l8 cpos (f9 (e::es) X.env)).all (λx=>!x.1)&&(z6 cpos (o7 [] X.env)).all (λx=>x.1.isSome)
   && decide ((e::es).length+([]:List Keyword).length+(if([]:List Keyword).isEmpty then 0 else 1)<30))=true:=by rfl)
  (c:(apos.endLine==cpos.line)=true:=by rfl) (hs:f9 (e::es) X.env=(false,eval e X.env)::f9 es X.env:=by rfl) (a:(l8 cpos (f9 es X.env)).any (·.1)=false:=by rfl):
  PE X (.Call (.Attribute o name apos) (e::es) [] cpos) (LU X.K T r to t):=by
 intro pins s σ H Q I h;refine wpAny_Call_method_late b d c rfl (F0 (m pins s σ H _ I h) λv s1 ⟨x,p,g,i,ty,q⟩=>?_);obtain⟨u,w⟩:=Ee g i ty;refine⟨T,id,k,slot,f,u,w,?_⟩;have j:=n cpos pins s1 σ p _ g q;rw[hs]at j⊢;refine rq (by show(false||(l8 cpos (f9 es X.env)).any (·.1))=false;rw[a]<;>rfl) (vu ?_);exact F0 j λus s2 ⟨vs,y,z,A,B⟩=>l pins s2 σ y x vs v us Q z i A B
end
def Kz (X:Cx)(id:String)(r:V→List V→Hp→VK→Prop):Prop:=
 ∀(pins:List (Addr×Obj)) (s:Shared) (σ:St) (H:Hp) (x:V) (xs:List V) (v:Value) (us:List Value) (Q:VK),Inv X pins σ H s→RelV x v→Vals xs us→r x xs H Q→
  wpAny (model X.prog X.w) X.A (call (.builtin id) (v::us)) (EP X pins σ Q) X.xe s
theorem Vals.one:∀{x:V} {us:List Value},Vals [x] us→∃u,us=[u]∧RelV x u
 |_,_,.cons r .nil=>⟨_,rfl,r⟩
section
variable {X:Cx}{pins:List (Addr×Obj)}{σ:St}{H:Hp}{s:Shared}{l b:Addr}{xs ys zs:List V}
theorem Inv.HY {a its':List Value}{n:Nat}{f:Array Value→Array Value}{b:Nat}(I:Inv X pins σ H s)(c:H l=some (.lst xs))
  (e:s.heap.get? l=some {cls:=.type "list",data:=.seq a.toArray n}) (d:f a.toArray=its'.toArray) (g:Vals ys its') (h:ys.length≤sizeLine):
  Inv X pins σ (upd H l (.lst ys)) {s with heap:=s.heap.update l (Obj.mapSeq f),toks:=b}:=by
 have q:=PySem.IsL.update e f;rw[d]at q;refine I.write (x:=l) (e:=l) (by rw[c];exact trivial) (.inl rfl) (λk u i j=>(Heap.get?_update_other s.heap (Obj.mapSeq f) (w5 i)).trans j) ⟨_,q⟩ ?_;exact⟨h,its',_,g,q⟩
theorem Inv.Ke {a:List Value}{t':Nat}(I:Inv X pins σ H s)(b:Vals ys a)(c:ys.length≤sizeLine):
  Inv X pins σ (upd H s.heap.objs.size (.lst ys)) {s with heap:=s.heap.push {cls:=.type "list",data:=.seq a.toArray},toks:=t'}:=
 I.laid (λ_ _ q=>Heap.get?_push_of_some _ q) (g8 _) ⟨c,a,0,b,Heap.get?_push_size _ rfl⟩
theorem Inv.fresh (I:Inv X pins σ H s):H s.heap.objs.size=none:=I.hok.fresh (g8 _)
theorem Inv.HX (I:Inv X pins σ H s)(b:H l=some (.lst xs)):xs.length≤sizeLine∧∃(a:List Value) (n:Nat),Vals xs a∧xs.length=a.length∧s.heap.get? l=some {cls:=.type "list",data:=.seq a.toArray n}:=by
 obtain⟨z,a,n,r,e⟩:=I.hok l _ b;exact⟨z,a,n,r,r.length,e⟩
end
section
variable {X:Cx}
noncomputable def BB:V→List V→Hp→VK→Prop:=λx vs H Q=>∃l xs y,x=.ref l∧vs=[y]∧H l=some (.lst xs)∧xs.length<sizeLine∧Q .v1 (upd H l (.lst (xs++[y])))
theorem wp:Kz X "list.append" BB:=by
 intro pins s σ H x vs v us Q I c d h;obtain⟨l,xs,y,rfl,rfl,b,g,q⟩:=h;cases c;obtain⟨u,rfl,f⟩:=d.one;obtain⟨z,a,n,r,hl,e⟩:=I.HX b;refine vn F.slot_list_append ⟨_,e,rfl⟩ F.entry_list_append (F.args_list_append_2 _ _) (PySem.list_append l a.toArray n u (by rw[List.size_toArray];omega)) ⟨e,?_⟩;refine⟨.v1,_,I.HY (its':=a++[u]) b e (by simp) (r.append (.cons f .nil)) ?_,rfl,q⟩;rw[List.length_append,List.length_singleton];omega
end
end L2
namespace Att
open PySem PySem.W PySem.Calls PyProof.Rows
theorem jl {P:Params}{h:Heap}:∀(ns:List Int) (vs:List Value),WellAll P h vs (ns.map WData.int)→IntsAre vs ns:=by
 intro ns;induction ns with
 |nil=>
  intro vs w;rw[List.map_nil]at w;cases w;exact .nil
 |cons n ns ih=>
  intro vs w;rw[List.map_cons]at w;cases w with
  |cons a b=>
   cases a;exact .cons _ _ (ih _ b)
theorem vL {l:OpenLaw}{n:Nat}(o:l.most=some n){P:Params}{h:Heap}{args:List WData}{b:List Value}
  (c:l.row.toRowW.claim.pre args=true) (j:WellAll P h b args):
  ∃a vs ns,b=[Value.ref a]∧args=[WData.list (ns.map WData.int)]∧h.get? a=some {cls:=.type "list",data:=.seq vs.toArray}∧IntsAre vs ns∧ns.length≤n:=by
 have k:WShape.hasAll [] args [.list .int]=true:=(pre_splitW c).1;have m:l.pre.holds [] {args:=args}=true:=(pre_splitW c).2;obtain⟨d,r,rfl,p,s⟩:=hasAllW_cons k;obtain rfl:=hasAllW_nil s;obtain⟨xs,rfl,t⟩:=hasW_list p;obtain⟨ns,rfl⟩:=items_int t;have e:ns.length≤n:=by
  unfold OpenLaw.pre at m;have g:(WTm.not (.lt (.lit (.int (n:Int))) (.len (.arg 0)))).holds [] {args:=[.list (ns.map .int)]}=true:=by
   have g:=(holds_andW m).1;rw[o]at g;exact g
  have i:=condW_of g (w_not (w_lt w_lit (w_len_list (w_arg rfl))));rw[List.length_map]at i;refine Nat.le_of_not_lt λq=>?_;have u:(n:Int)<((ns.length:Nat):Int):=by omega
  first
   | (rw[decide_eq_true u]at i;exact absurd i (by decide))
   | (simp at i;omega)
 cases j with
 |cons w1 v=>
  cases v;cases w1 with
  |list w f=>exact⟨_,_,ns,rfl,rfl,w,jl ns _ f,e⟩
theorem vS (l:OpenLaw)(args:List WData):l.row.toRowW.claim.post args (.bool true) args=true:=
 postW_of (r:=l.row.toRowW) (X:=(true==true))
  (show IS [] (.bool true) .bool=true by first|rfl|decide|simp[IS,WShape.arms,WShape.armsAll])
  (show(WTm.eq .res (.lit (.bool true))).value [] {args:=args,res:=some (.bool true),after:=args}=some (.bool (true==true))from w_eq_bool (w_res rfl) w_lit) rfl
theorem qW {l:OpenLaw}{n:Nat}{q:Program}{c:List Str}{XP:(Str→Option Value)→Heap→Prop}{v:World→Heap→Prop}{d:DefRec}
  (A:l.most=some n) (p:d.params.defaults=[])
  (call:∀(w:World) (s₀ b:Shared) (mg mb:Str→Option Value) (g:Addr) (o:Obj) (pm k doc:Value) (a:Addr) (vs:List Value) (ns:List Int),
   Ground q c [] XP w s₀ mg mb b.heap→v w b.heap→
   b.heap.get? g=some o→o.data=.func (docDef d.name d.params d.body d.scope pm k doc)→b.heap.CodeRec k d.name→mg d.name=some (.ref g)→
   b.heap.get? a=some {cls:=.type "list",data:=.seq vs.toArray}→IntsAre vs ns→ns.length≤n→b.gens=#[]→
   Y2 (model l.prog w) jo (.call (.ref g) ⟨[.ref a],[]⟩) (λr m=>r=.ok (.ret (.bool true))∧OldK b.heap m.heap∧m.os=b.os∧fV m.gens) b):
  WalkO q c XP v l.row.toRowW d [] (λf vs=>PySem.call f vs):=by
 intro w s₀ b mg mb G Y g o pm k doc B kV E hd s x t F args y Q h z H u I;obtain rfl:B=.none:=Dflts.none x p;obtain rfl:kV=.none:=Dflts.noKw x;obtain⟨a,vs,ns,rfl,rfl,i,e,j⟩:=vL A h u;refine enter_call (Y1 (call w s₀ b mg mb g o pm k doc a vs ns G Y E (fd_plain hd) s t i e j F) λr m J=>?_);obtain⟨rfl,L,N,O⟩:=J;exact⟨.inl ⟨.bool true,.bool true,[],rfl,λ_=>rfl,.bool true,vS l _,λ_=>⟨List.Pairwise.nil,λ_ P=>(nomatch P)⟩⟩,L,N,O⟩
end Att
namespace L2
open PySem PySem.Spec PyProof.Rows
theorem eh:∀{vs:List Value} {ns:List Int},IntsAre vs ns→Vals (ns.map V.int) vs
 |_,_,.nil=>.nil
 |_,_,.cons n t h=>.cons ⟨t,rfl⟩ (eh h)
def ID (H:Hp):Prop:=∀b,H b=none∨∃o xs,H b=some (.cn o (.lst xs))
theorem yW {P:Program}{w:World}{K:PySem.W.Frag}{mg mb:Str→Option Value}{CX:AM}{k:Nat}{L a:Addr}{fd:FuncData}{x:Str}{sp:Sp}{c:Shared}{vs:List Value}{ns:List Int}
  (T:K.In c.heap) (t:c.heap.Ns l5 mg) (g:c.heap.Ns GR mb) (N:∀x:Str,x≠"__name__"→mb x=K4 x) (y:c.heap.NoLimit) (hg:c.gens=#[])
  (J:c.heap.get? a=some {cls:=.type "list",data:=.seq vs.toArray}) (hi:IntsAre vs ns) (hl:ns.length≤sizeLine) (hr:O6 k jo)
  (F:∀base:Heap,K.In base→base.Ns l5 mg→x2 P w K mg base CX k L fd [x] sp) (p:∀(s:Shared) (u:Value),tP s fd ⟨[u],[]⟩ [(x,u)])
  (O:∀H:Hp,ID H→P8 K H a (ns.map V.int)→sp [.ref a] H (λv _=>v=.bl true) λ_ _ _=>False)
  (Q:∀H e i,CX [] H c (λ_ _ _=>False) e i→False):
  Y2 (model P w) jo (.call (.ref L) ⟨[.ref a],[]⟩) (λr i=>r=.ok (.ret (.bool true))∧OldK c.heap i.heap∧i.os=c.os∧fV i.gens) c:=by
 have U:=eh hi;have A:=hi.length
 
 have l:∀H:Hp,ID H→P8 K H a (ns.map V.int)→eM P w H c.heap→(∀b,H b≠none→b=a)→(H a≠none→K.lookup a=none)→
   Y2 (model P w) jo (.call (.ref L) ⟨[.ref a],[]⟩) (λr i=>r=.ok (.ret (.bool true))∧OldK c.heap i.heap∧i.os=c.os∧fV i.gens) c:=by
  intro H X hS hok Y hK;have f:∀{b:Addr} {o:Obj},c.heap.get? b=some o→H b=none→(oH c.heap H).get? b=some o:=λe n=>zB e n;have R:∀{b:Addr} {o:Obj} {es:Array DictEntry} {B:Nat},c.heap.get? b=some o→o.data=.dict es B→H b=none:=λ{b o es B} e d=>by
   cases q:H b with
   |none=>rfl
   |some u=>
    have S:b=a:=Y b (by rw[q];simp);subst S;rw[J]at e;cases e;have d':Data.seq vs.toArray _=Data.dict es B:=d;cases d'
  have j:∀{b:Addr} {m:Str→Option Value},c.heap.Ns b m→(oH c.heap H).Ns b m:=λ{b m} ⟨o,es,B,e,d,r⟩=>⟨o,es,B,f e (R e d),d,r⟩
  have E:K.In (oH c.heap H):=λb o e=>f (T b o e) (by
   cases q:H b with
   |none=>rfl
   |some u=>
    have S:b=a:=Y b (by rw[q];simp);subst S;rw[hK (by rw[q];simp)]at e;cases e)
  have hM:Mod K mg (oH c.heap H):=⟨E,j t,⟨mb,j g,N⟩,let⟨mc,h1,h2⟩:=y;⟨mc,j h1,h2⟩⟩
  have e0:rf P w K mg (oH c.heap H) jo [] c H:=⟨rfl,hM,λb o e=>Cd e,Jx (wK _ _),trivial,λb g=>absurd (show b∈([]:List Addr)from g) (by simp),hok,.of_eq hg⟩
  refine Y1 ((F _ E (j t)).run jo [] c H ⟨[.ref a],[]⟩ [.ref a] [.ref a] _ _ hr e0 (p c (.ref a)) (.cons rfl .nil) (O H X hS)) λr i h=>?_;cases r with
  |error e=>exact(Q H e i h).elim
  |ok fl=>
   cases fl with
   |next=>exact D1 h
   |brk=>exact D1 h
   |cont=>exact D1 h
   |ret u=>
    obtain⟨v,H',os,bare,un,G,r',q⟩:=h;have q':v=.bl true:=q;subst q';obtain rfl:u=Value.bool true:=r';refine⟨rfl,OldK.of_keep λb o e=>?_,os,bare⟩;cases q:H b with
    |none=>exact un.keep b o e q (by intro z;exact absurd (show b∈([]:List Addr)from z) (by simp)) (by simp)
    |some u=>
     rcases X b with z| ⟨ob,xs,z⟩
     ·rw[q]at z;cases z
     ·have z2:=un.frzs b ob _ z;obtain⟨Z,_⟩:=hok b _ z;obtain⟨e2,_⟩:=G b _ z2;rw[e]at Z;cases Z;exact e2
 cases hk:K.lookup a with
 |some o=>
  
  have e:=T a o hk;rw[J]at e;cases e;refine l (λ_=>none) (λ_=>.inl rfl) (.inr ⟨_,vs.toArray,_,hk,rfl,rfl,rfl,by rw[List.size_toArray,A];exact hl,by simpa using U⟩) (λb u z=>by have I:(none:Option HO)=some u:=z;cases I) (λb z=>absurd rfl z) λz=>absurd rfl z
 |none=>
  refine l (λb=>if b=a then some (.cn {cls:=.type "list",data:=.seq vs.toArray} (.lst (ns.map V.int)))else none) (λb=>?_) (.inl (.inr ⟨{cls:=.type "list",data:=.seq vs.toArray},if_pos rfl⟩)) (λb u z=>?_) (λb z=>?_) λ_=>hk
  ·by_cases g:b=a
   ·exact .inr ⟨_,_,if_pos g⟩
   ·exact .inl (if_neg g)
  ·by_cases g:b=a
   ·have I:=(if_pos g).symm.trans z;cases I;subst g;exact⟨J,by rw[List.length_map];exact hl,vs,_,U,J⟩
   ·have I:=(if_neg g).symm.trans z;cases I
  ·by_cases g:b=a
   ·exact g
   ·exact absurd (if_neg g) z
noncomputable def inClass (s:Stmt)(j:Nat):Stmt:=match s with
 |.ClassDef _ _ _ a _ _ _ _ _ _ _=>a.getD j (.Pass ⟨0,0,0,0⟩)
 |_=>.Pass ⟨0,0,0,0⟩
noncomputable def T9 (s:Stmt):Arguments:=match s with
 |.FunctionDef _ a _ _ _ _ _ _ _ _=>a
 |_=>{posonlyargs:=[],args:=[],vararg:=none,kwonlyargs:=[],kw_defaults:=[],kwarg:=none,defaults:=[]}
noncomputable def F9 (s:Stmt):List Stmt:=match s with
 |.FunctionDef _ _ b _ _ _ _ _ _ _=>b
 |_=>[]
noncomputable def j3 (s:Stmt):Scope:=match s with
 |.FunctionDef _ _ _ _ _ _ sc _ _ _=>sc
 |_=>{kind:=.function,names:=[],isGenerator:=false,isCoroutine:=false}
noncomputable abbrev W0:AM:=λ_ _ _ _ _ _=>False
noncomputable abbrev E0:XK:=λ_ _ _=>False
theorem yA {X:Cx}:Passes W0 X E0:=λ_ _ _ _ _ _ _ h=>h.elim
structure bo (K:PySem.W.Frag) (x qual:Str) (st:Stmt) (f:Addr) (fd:FuncData):Prop where
 ex:∃(oc:Value) (od:Option Addr) (kV doc pm:Value) (an:Option Addr) (cdv ct:Value) (osl:Array (Option Value)),
  fd=PySem.W.fnOf x qual (T9 st) (F9 st) (j3 st) .none kV doc pm an cdv ct∧K.lookup f=some ⟨oc,od,.func fd,osl⟩∧PySem.W.codeIn K cdv qual=true
 kp:PySem.W.keepIn K (.ref f)=true
section
variable {P:Program}{w:World}{K:PySem.W.Frag}{mg:Str→Option Value}{base:Heap}
theorem bo.ok {x qual:Str}{st:Stmt}{f:Addr}{fd:FuncData}{N ps:List Str}{k:Nat}{sp:Sp}(F:bo K x qual st f fd)(S:m7 N ps (j3 st))(len:∀vs H Q E,sp vs H Q E→vs.length=ps.length)
  (a:∀(cdv:Value) (A:Around) (outer:List Env) (s:Shared) (H:Hp) (vs:List V) (Q:VK) (E:XK),O6 k (A.deeper (bM qual (j3 st) s.heap.objs.size f cdv))→sp vs H Q E→
   ∃t,lA (lg W0 P w K mg base N qual (j3 st) f cdv A outer s H E).Jd (F9 st) t∧t {nx:=λ_ H'=>Q .v1 H',rt:=Q} (start N vs) H):x2 P w K mg base W0 (k+1) f fd ps sp:=by
 obtain⟨oc,od,kV,doc,pm,an,cdv,ct,osl,rfl,lk,b⟩:=F.ex;refine Ie lk b S len λA outer s H vs Q E hr c=>?_;obtain⟨t,h,q⟩:=a cdv A outer s H vs Q E hr c;exact⟨t,h.Jd,q⟩
theorem zF {x qual:Str}{st:Stmt}{f:Addr}{oc:Value}{od an:Option Addr}{osl:Array (Option Value)}{kV doc pm cdv ct:Value}(l:K.lookup f=some ⟨oc,od,.func (PySem.W.fnOf x qual (T9 st) (F9 st) (j3 st) .none kV doc pm an cdv ct),osl⟩)
  (c:PySem.W.codeIn K cdv qual=true) (k:PySem.W.keepIn K (.ref f)=true):bo K x qual st f (PySem.W.fnOf x qual (T9 st) (F9 st) (j3 st) .none kV doc pm an cdv ct):=⟨⟨oc,od,kV,doc,pm,an,cdv,ct,osl,rfl,l,c⟩,k⟩
end
def i8 (H H':Hp):Prop:=∀b o,H b=some o→H' b=some o
theorem i8.refl (H:Hp):i8 H H:=λ_ _ h=>h
theorem i8.trans {H d e:Hp}(a:i8 H d)(b:i8 d e):i8 H e:=λc o h=>b c o (a c o h)
theorem i8.free {H H':Hp}(e:i8 H H'){l:Addr}(h:H' l=Option.none):H l=Option.none:=by
 cases q:H l with
 |none=>rfl
 |some o=>
  rw[e l o q]at h;cases h
theorem i8.seq {K:PySem.W.Frag}{H H':Hp}{a:Addr}{xs:List V}(e:i8 H H')(h:P8 K H a xs):P8 K H' a xs:=by
 rcases h with(h| ⟨o,h⟩) |h
 ·exact .inl (.inl (e _ _ h))
 ·exact .inl (.inr ⟨o,e _ _ h⟩)
 ·exact .inr h
section
variable {κ:Type}[DecidableEq κ]
noncomputable def dt (kvs:List (κ×V))(k:κ):Option V:=(kvs.find? λkv=>decide (kv.1=k)).map (·.2)
noncomputable def putK (kvs:List (κ×V))(k:κ)(v:V):List (κ×V):=
 if(kvs.any λkv=>decide (kv.1=k))=true then kvs.map (λkv=>if kv.1=k then(kv.1,v)else kv)else kvs++[(k,v)]
theorem fY {p:κ×V}{r:List (κ×V)}{k:κ}(e:p.1=k):dt (p::r) k=some p.2:=by simp[dt,List.find?_cons,e]
theorem fZ {p:κ×V}{r:List (κ×V)}{k:κ}(e:¬p.1=k):dt (p::r) k=dt r k:=by simp[dt,List.find?_cons,e]
theorem pG (k:κ):∀kvs:List (κ×V),(kvs.any λkv=>decide (kv.1=k))=(dt kvs k).isSome
 | []=>rfl
 |p::r=>by
  rw[List.any_cons];by_cases e:p.1=k
  ·simp only[fY e,decide_eq_true e,IT,aO]
  ·rw[fZ e,decide_eq_false e,GU];exact pG k r
theorem dN (kvs:List (κ×V))(k:κ)(v:V):(putK kvs k v).length≤kvs.length+1:=by
 unfold putK;split
 ·rw[List.length_map];omega
 ·rw[List.length_append,List.length_cons,List.length_nil];omega
theorem ck.bX {o:Option V}{u:Option Value}(r:ck o u):o.isSome=u.isSome:=by
 cases o with
 |none=>cases u with
  |none=>rfl
  |some _=>exact(show False from r).elim
 |some _=>cases u with
  |none=>exact(show False from r).elim
  |some _=>rfl
theorem ck.getD {o:Option V}{u:Option Value}{d:V}{a:Value}(r:ck o u)(rd:RelV d a):RelV (o.getD d) (u.getD a):=by
 cases o with
 |none=>cases u with
  |none=>exact rd
  |some _=>exact(show False from r).elim
 |some _=>cases u with
  |none=>exact(show False from r).elim
  |some _=>exact r
theorem KV.val {kvs:List (κ×V)}{vs:List (κ×Value)}(r:KV kvs vs)(k:κ):ck (dt kvs k) (nA vs k):=by
 unfold KV at r;induction r with
 |nil=>exact True.intro
 | @cons p q ps a h t ih=>
  obtain⟨d,f⟩:=h;by_cases e:p.1=k
  ·have c:q.1=k:=d.symm.trans e;have b:nA (q::a) k=some q.2:=by simp[nA,List.find?_cons,c]
   rw[fY e,b];exact f
  ·have c:¬q.1=k:=λz=>e (d.trans z);have b:nA (q::a) k=nA a k:=by simp[nA,List.find?_cons,c]
   rw[fZ e,b];exact ih
theorem KV.any {kvs:List (κ×V)}{vs:List (κ×Value)}(r:KV kvs vs)(k:κ):(kvs.any λkv=>decide (kv.1=k))=vs.any λkv=>decide (kv.1=k):=by
 unfold KV at r;induction r with
 |nil=>rfl
 |cons h t ih=>rw[List.any_cons,List.any_cons,ih,h.1]
theorem KV.repl {kvs:List (κ×V)}{vs:List (κ×Value)}(r:KV kvs vs)(k:κ){y:V}{u:Value}(b:RelV y u):
  KV (kvs.map λkv=>if kv.1=k then(kv.1,y)else kv) (vs.map λkv=>if kv.1=k then(kv.1,u)else kv):=by
 unfold KV at r⊢;induction r with
 |nil=>exact .nil
 | @cons p q ps d h t ih=>
  rw[List.map_cons,List.map_cons];refine .cons ?_ ih;obtain⟨a,c⟩:=h;by_cases e:p.1=k
  ·rw[if_pos e,if_pos (a.symm.trans e)];exact⟨a,b⟩
  ·rw[if_neg e,if_neg (λz=>e (a.trans z))];exact⟨a,c⟩
theorem KV.put {kvs:List (κ×V)}{vs:List (κ×Value)}(r:KV kvs vs)(k:κ){y:V}{u:Value}(a:RelV y u):KV (putK kvs k y) (AS vs k u):=by
 unfold putK AS;rw[r.any k];by_cases e:(vs.any λkv=>decide (kv.1=k))=true
 ·rw[if_pos e,if_pos e];exact r.repl k a
 ·rw[if_neg e,if_neg e];exact Paired.snoc r ⟨rfl,a⟩
theorem KV.length {kvs:List (κ×V)}{vs:List (κ×Value)}(r:KV kvs vs):kvs.length=vs.length:=Paired.length r
end
theorem gM {P:Program}{w:World}{k:Key}{u:Value}(r:RelV (kV k) u):(u1 P w).is k u=true:=by
 cases k with
 |inl i=>obtain⟨t,e⟩:=(show∃t,u=Value.int i t from r);subst e;exact qo P w i t
 |inr x=>obtain⟨t,e⟩:=(show∃t,u=Value.str x t from r);subst e;exact qm P w x t
theorem mR {P:Program}{w:World}:∀{a:List Key} {us:List Value},Vals (a.map kV) us→ItemsAre (u1 P w) a us
 | [],_,r=>by rw[List.map_nil]at r;cases r;exact .nil
 |k::a,_,r=>by
  rw[List.map_cons]at r;cases r with
  |cons h t=>exact .cons (gM h) (mR t)
noncomputable abbrev KT (H:Hp):List (List Key×V)→List (List Key×Addr×Value)→Prop:=Paired λp q=>p.1=q.1∧H q.2.1=some (.tup (p.1.map kV))∧RelV p.2 q.2.2
theorem KT.val {H:Hp}{kvs:List (List Key×V)}{xs:List (List Key×Addr×Value)}(r:KT H kvs xs)(k:List Key):ck (dt kvs k) ((vr xs k).map (·.2)):=by
 induction r with
 |nil=>exact True.intro
 | @cons p q ps a h t ih=>
  obtain⟨d,_,f⟩:=h;by_cases e:p.1=k
  ·have c:q.1=k:=d.symm.trans e;have b:vr (q::a) k=some q.2:=by simp[vr,List.find?_cons,c]
   rw[fY e,b];exact f
  ·have c:¬q.1=k:=λz=>e (d.trans z);have b:vr (q::a) k=vr a k:=by simp[vr,List.find?_cons,c]
   rw[fZ e,b];exact ih
theorem KT.repl {H:Hp}{kvs:List (List Key×V)}{xs:List (List Key×Addr×Value)}(r:KT H kvs xs)(k:List Key){y:V}{u:Value}(c:RelV y u):
  KT H (kvs.map λkv=>if kv.1=k then(kv.1,y)else kv) (xs.map (putAt k u)):=by
 induction r with
 |nil=>exact .nil
 | @cons p q ps f h t ih=>
  rw[List.map_cons,List.map_cons];refine .cons ?_ ih;obtain⟨a,b,d⟩:=h;unfold putAt;by_cases e:p.1=k
  ·rw[if_pos e,if_pos (a.symm.trans e)];exact⟨a,b,c⟩
  ·rw[if_neg e,if_neg (λz=>e (a.trans z))];exact⟨a,b,d⟩
theorem KT.put {H:Hp}{kvs:List (List Key×V)}{xs:List (List Key×Addr×Value)}(r:KT H kvs xs)(k:List Key){b:Addr}{y:V}{u:Value}(c:H b=some (.tup (k.map kV)))(a:RelV y u):
  KT H (putK kvs k y) (storedH xs k b u):=by
 have e:(kvs.any λkv=>decide (kv.1=k))=(vr xs k).isSome:=by
  rw[pG,(r.val k).bX,iw]
 unfold putK storedH;rw[e];by_cases q:(vr xs k).isSome=true
 ·rw[if_pos q,if_pos q];exact r.repl k a
 ·rw[if_neg q,if_neg q];exact Paired.snoc r ⟨rfl,c,a⟩
theorem KT.keeps {H H':Hp}{kvs:List (List Key×V)}{xs:List (List Key×Addr×Value)}(r:KT H kvs xs)(c:∀b a,H b=some (.tup a)→H' b=some (.tup a)):KT H' kvs xs:=
 Paired.yN r λ_ _ z=>⟨z.1,c _ _ z.2.1,z.2.2⟩
section
variable {P:Program}{w:World}{H:Hp}{h:Heap}{a:Addr}
theorem DD {u:HO}(ok:eM P w H h)(e:Rd H a u):I7 P w H h a u:=e.ok ok
theorem S2 {kvs:List (Key×V)}(ok:eM P w H h)(e:Rd H a (.dK kvs)):kvs.length≤sizeLine∧(a==O1)=false∧∃vs,KV kvs vs∧h.DictOf (u1 P w) a vs:=
 show I7 P w H h a (.dK kvs)from DD ok e
theorem zT {kvs:List (Key×V)}(ok:eM P w H h)(e:H a=some (.dK kvs)):kvs.length≤sizeLine∧(a==O1)=false∧∃vs,KV kvs vs∧h.DictOf (u1 P w) a vs:=S2 ok (.inl e)
theorem ik {b:List Key}(ok:eM P w H h)(e:H a=some (.tup (b.map kV))):(jn (u1 P w)).is h b a:=by
 obtain⟨_,c,r,o,d,f,n,g⟩:=(show I7 P w H h a (.tup (b.map kV))from ok a _ e)
 exact⟨o,c.toArray,n,d,f,g,by simpa using mR r⟩
theorem kS {kvs:List (List Key×V)}(ok:eM P w H h)(e:Rd H a (.dT kvs)):kvs.length≤sizeLine∧(a==O1)=false∧
  ∃xs,KT H kvs xs∧h.DictOfH (jn (u1 P w)) a xs:=by
 obtain⟨z,y,xs,r,o,es,d,f,g,i,j,k⟩:=(show I7 P w H h a (.dT kvs)from DD ok e)
 refine⟨z,y,xs,r,o,es,d,f,g,i,j,λx b=>?_,k⟩;have all:∀{l:List (List Key×V)} {m:List (List Key×Addr×Value)},KT H l m→∀x∈m,(jn (u1 P w)).is h x.1 x.2.1:=by
  intro l m q;induction q with
  |nil=>intro x b;exact nomatch b
  | @cons p q ps n c t ih=>
   intro x b;rcases List.mem_cons.mp b with e|b
   ·subst e;exact ik ok (by rw[←c.1];exact c.2.1)
   ·exact ih x b
 exact all r x b
theorem Ir {kvs:List (List Key×V)}(ok:eM P w H h)(e:H a=some (.dT kvs)):kvs.length≤sizeLine∧(a==O1)=false∧
  ∃xs,KT H kvs xs∧h.DictOfH (jn (u1 P w)) a xs:=kS ok (.inl e)
end
def dm (H:Hp)(a:Addr)(y:V)(r:Option V):Prop:=
 (∃kvs k,Rd H a (.dK kvs)∧y=kV k∧r=dt kvs k)∨∃kvs k b,Rd H a (.dT kvs)∧y=.ref b∧H b=some (.tup (k.map kV))∧r=dt kvs k
def AB (H:Hp)(a:Addr)(y v:V)(H':Hp):Prop:=
 (∃kvs k,H a=some (.dK kvs)∧y=kV k∧kvs.length<sizeLine∧H'=upd H a (.dK (putK kvs k v)))∨
 ∃kvs k b,H a=some (.dT kvs)∧y=.ref b∧H b=some (.tup (k.map kV))∧kvs.length<sizeLine∧H'=upd H a (.dT (putK kvs k v))
theorem AB.k {H:Hp}{a:Addr}{kvs:List (Key×V)}{k:Key}{v:V}(e:H a=some (.dK kvs))(hl:kvs.length<sizeLine):AB H a (kV k) v (upd H a (.dK (putK kvs k v))):=.inl ⟨kvs,k,e,rfl,hl,rfl⟩
section
variable {X:Cx}{pins:List (Addr×Obj)}{σ:St}{H:Hp}{s:Shared}{a:Addr}{y v:V}{u r:Value}{o:Option V}{A:Around}{E:Value→Shared→Prop}
theorem Inv.big (I:Inv X pins σ H s):O1<s.heap.objs.size:=by
 have h:l5<s.heap.objs.size:=(I.mod.glob.keeps I.bk).lt;exact Q6 (by decide) h
theorem xb {Q:Value→Shared→Prop}(t:A.units+1<B3)(I:Inv X pins σ H s)(g:dm H a y (some v))(q:RelV y u)(h:∀f r,Inv X pins σ H r→RelV v f→Q f r):
  wpAny (model X.prog X.w) A (fS (.ref a) u) Q E s:=by
 rcases g with⟨kvs,k,e,i,l⟩ | ⟨kvs,k,b,e,i,x,l⟩
 ·subst i;obtain⟨z,hd,vs,c,j⟩:=S2 I.hok e;obtain⟨f,m,d⟩:=ck.some_of (v:=v) (o:=nA vs k) (by rw[l];exact c.val k);exact wpAny_getItem_of (gM q) j.mapOf m (h f _ (I.tok _) d)
 ·subst i;cases(show u=Value.ref b from q);obtain⟨z,hd,xs,c,j⟩:=kS I.hok e;obtain⟨f,m,d⟩:=ck.some_of (v:=v) (o:=(vr xs k).map (·.2)) (by rw[l];exact c.val k);obtain⟨p,B,n⟩:=g7.mp m;refine wpAny_getItem_heap (W7 t) (ik I.hok x) j B ?_;rw[n];exact h f _ (I.tok _) d
theorem Ko {Q:Value→Shared→Prop}(m:A.units+1<B3)(I:Inv X pins σ H s)(g:dm H a y o)(i:RelV y u)(h:∀j,Inv X pins σ H j→Q (.bool o.isSome) j):
  wpAny (model X.prog X.w) A (v7 .In u (.ref a)) Q E s:=by
 rcases g with⟨kvs,k,e,d,l⟩ | ⟨kvs,k,b,e,d,n,l⟩
 ·subst d;obtain⟨z,hd,vs,c,f⟩:=S2 I.hok e;refine wpAny_in_of (gM i) hd f.mapOf ?_;rw[←(c.val k).bX,←l];exact h _ (I.tok _)
 ·subst d;cases(show u=Value.ref b from i);obtain⟨z,hd,xs,c,f⟩:=kS I.hok e;refine wpAny_in_heap (W7 m) (ik I.hok n) hd f ?_;have q:=(c.val k).bX;rw[iw]at q;rw[←q,←l];exact h _ (I.tok _)
theorem CZ {Q:Value→Shared→Prop}(m:A.units+1<B3)(I:Inv X pins σ H s)(g:dm H a y o)(i:RelV y u)(h:∀j,Inv X pins σ H j→Q (.bool (!o.isSome)) j):
  wpAny (model X.prog X.w) A (v7 .NotIn u (.ref a)) Q E s:=by
 rcases g with⟨kvs,k,e,d,l⟩ | ⟨kvs,k,b,e,d,n,l⟩
 ·subst d;obtain⟨z,hd,vs,c,f⟩:=S2 I.hok e;refine wpAny_notIn_of (gM i) hd f.mapOf ?_;rw[←(c.val k).bX,←l];exact h _ (I.tok _)
 ·subst d;cases(show u=Value.ref b from i);obtain⟨z,hd,xs,c,f⟩:=kS I.hok e;refine wpAny_notIn_heap (W7 m) (ik I.hok n) hd f ?_;have q:=(c.val k).bX;rw[iw]at q;rw[←q,←l];exact h _ (I.tok _)
theorem jH {h':Heap}{c:Nat}{ob:HO}(I:Inv X pins σ H s)(mu:IE (H a))(hs:Heap.SameBut a s.heap h')(d:∃q,h'.get? a=some q)(new:I7 X.prog X.w (upd H a ob) h' a ob):
  Inv X pins σ (upd H a ob) {s with heap:=h',toks:=c}:=
 I.write (x:=a) (e:=a) mu (.inl rfl) (λb q f z=>(hs.2 b f).trans z) d new
theorem kT {P:Program}{w:World}{H':Hp}{h':Heap}{kvs:List (Key×V)}{vs:List (Key×Value)}(z:kvs.length≤sizeLine)(hd:(a==O1)=false)(b:KV kvs vs)(c:h'.DictOf (u1 P w) a vs):
  I7 P w H' h' a (.dK kvs):=⟨z,hd,vs,b,c⟩
theorem wZ {H':Hp}{Q:Unit→Shared→Prop}(G:A.units+1<B3)(I:Inv X pins σ H s)(g:AB H a y v H')(p:RelV y u)(t:RelV v r)(h:∀x,Inv X pins σ H' x→Q () x):
  wpAny (model X.prog X.w) A (IQ (.ref a) u r) Q E s:=by
 rcases g with⟨kvs,k,e,j,l,m⟩ | ⟨kvs,k,b,e,j,B,l,m⟩
 ·subst j m;obtain⟨z,hd,vs,d,n⟩:=zT I.hok e;have o:vs.length≤sizeLine:=by rw[←d.length];exact z
  have hl:(putK kvs k v).length≤sizeLine:=by have:=dN kvs k v;omega
  refine wpAny_setItem_pairs (hsz:=o) (gM p) n λh' f hs=>h _ ?_;have J:∃q,h'.get? a=some q:=let⟨q,_,_,i,_⟩:=f;⟨q,i⟩;exact jH I (by rw[e];exact True.intro) hs J (kT hl hd (d.put k t) f)
 ·subst j m;cases(show u=Value.ref b from p);obtain⟨z,hd,xs,d,n⟩:=Ir I.hok e;have o:xs.length≤sizeLine:=by rw[←Paired.length d];exact z
  have hl:(putK kvs k v).length≤sizeLine:=by have:=dN kvs k v;omega
  refine wpAny_setItem_heap (hsz:=o) (W7 G) (ik I.hok B) n λh' f hs=>h _ ?_;obtain⟨q,es,L,i,N,O,P,_,R⟩:=f;refine jH I (by rw[e];exact True.intro) hs ⟨q,i⟩ ⟨hl,hd,_,(d.put k B t).keeps λc S F=>?_,q,es,L,i,N,O,P,R⟩;rw[j6 (HQ F e (λz=>nomatch z))];exact F
end
section
variable {X:Cx}{pins:List (Addr×Obj)}{σ:St}{H:Hp}{s:Shared}{a:Addr}{kvs:List (Key×V)}{k:Key}{u:Value}{A:Around}{E:Value→Shared→Prop}
theorem X4 {Q:Value→Shared→Prop}(I:Inv X pins σ H s)(e:Rd H a (.dK kvs))(h:∀t c,Inv X pins σ H c→Q (.int kvs.length t) c):wpAny (model X.prog X.w) A (call (.builtin "len") [.ref a]) Q E s:=by
 obtain⟨z,hd,vs,b,d⟩:=S2 I.hok e;refine call_len_dict hd d (by rw[←b.length];rw[u5]at z;omega) ?_;rw[←b.length];exact h _ _ (I.tok _)
end
theorem qO {X:Cx}{pins:List (Addr×Obj)}{σ:St}{H:Hp}{s:Shared}{a:Addr}{y:V}{o:Option V}(I:Inv X pins σ H s)(g:dm H a y o):s.TypeIs (.ref a) "dict":=by
 rcases g with⟨kvs,k,e,_,_⟩ | ⟨kvs,k,b,e,_,_,_⟩
 ·obtain⟨_,_,vs,_,c⟩:=S2 I.hok e;exact c.typeIs
 ·obtain⟨_,_,xs,_,c⟩:=kS I.hok e;exact c.typeIs
theorem qN {P:Program}{w:World}{H:Hp}(h:Heap)(a:O1<h.objs.size):I7 P w H (h.push {cls:=.type "dict",data:=.dict #[]}) h.objs.size (.dK []):=
 ⟨u6 _,beq_eq_false_iff_ne.mpr (w5 (j7 a)),[],.nil,Heap.DictOf.new h⟩
noncomputable def Et:TE:=λ_ H Q=>∀p,H p=none→Q (.ref p) (upd H p (.dK []))
section
variable {X:Cx}{pos:Pos}
theorem yx:PE X (.Dict [] [] pos) Et:=λpins s σ H Q I h=>
 wpAny_Dict_empty ⟨.ref s.heap.objs.size,_,I.laid (a:=s.heap.objs.size) (o:=.dK []) (t':=s.toks) (λ_ _ q=>Heap.get?_push_of_some _ q) (g8 _) (qN s.heap I.big),rfl,h _ (I.hok.fresh (g8 _))⟩
end
noncomputable def rH:List (TE×TE)→St→Hp→(List (V×V)→Hp→Prop)→Prop
 | [],_,H,Q=>Q [] H
 | (a,b)::r,σ,H,Q=>a σ H λx c=>b σ c λy d=>rH r σ d λps e=>Q ((x,y)::ps) e
noncomputable abbrev VV:List (V×V)→List (Value×Value)→Prop:=Paired λp q=>RelV p.1 q.1∧RelV p.2 q.2
def Ji (X:Cx)(pos:Pos)(keys:List (Option Expr))(a:List Expr)(b:List (TE×TE)):Prop:=
 ∀(pins:List (Addr×Obj)) (s:Shared) (σ:St) (H:Hp) (Q:List (V×V)→Hp→Prop),Inv X pins σ H s→rH b σ H Q→
  wpAny (model X.prog X.w) X.A (evalPairs (pairTrees keys a X.env pos)) (λvs c=>∃ps H',Inv X pins σ H' c∧VV ps vs∧Q ps H') X.xe s
theorem BJ {X:Cx}{pos:Pos}:Ji X pos [] [] []:=λpins s σ H Q I h=>pairTrees_nil_walk ⟨[],H,I,.nil,h⟩
theorem yr {X:Cx}{pos:Pos}{k v:Expr}{c:List (Option Expr)}{vs:List Expr}{d e:TE}{a:List (TE×TE)}(hk:PE X k d)(f:PE X v e)(hr:Ji X pos c vs a):
  Ji X pos (some k::c) (v::vs) ((d,e)::a):=λpins s σ H Q I h=>
 pairTrees_cons_walk (F0 (hk pins s σ H _ I h) λu s1 ⟨x,g,i,j,l⟩=>F0 (f pins s1 σ g _ i l) λw s2 ⟨y,m,n,o,p⟩=>
  F0 (hr pins s2 σ m _ n p) λz A ⟨ps,q,r,b,t⟩=>⟨(x,y)::ps,q,r,.cons ⟨j,o⟩ b,t⟩)
noncomputable def ie (kvs more:List (Key×V)):List (Key×V):=more.foldl (λa kv=>putK a kv.1 kv.2) kvs
theorem KV.merge:∀{more:List (Key×V)} {rs:List (Key×Value)} {kvs:List (Key×V)} {vs:List (Key×Value)},KV more rs→KV kvs vs→KV (ie kvs more) (AU vs rs):=by
 intro more rs kvs vs r;unfold KV at r;induction r generalizing kvs vs with
 |nil=>intro q;exact q
 | @cons p q ps b h t ih=>
  intro a;have e:KV (putK kvs p.1 p.2) (AS vs q.1 q.2):=by
   have:=a.put p.1 h.2;rw[←h.1];exact this
  exact ih e
theorem fj:∀(more kvs:List (Key×V)),(ie kvs more).length≤kvs.length+more.length
 | [],kvs=>by show kvs.length≤kvs.length+0;omega
 |p::r,kvs=>by
  have a:=fj r (putK kvs p.1 p.2);have b:=dN kvs p.1 p.2;show(ie (putK kvs p.1 p.2) r).length≤_;rw[List.length_cons];omega
theorem lj {P:Program}{w:World}:∀{kvs:List (Key×V)} {d:List (Value×Value)},VV (kvs.map λkv=>(kV kv.1,kv.2)) d→∃rs,Carries (u1 P w) d rs∧KV kvs rs
 | [],_,r=>by rw[List.map_nil]at r;cases r;exact⟨[],True.intro,.nil⟩
 |p::kvs,_,r=>by
  rw[List.map_cons]at r;cases r with
  | @cons a b f bs h t=>
   obtain⟨rs,c,q⟩:=lj (P:=P) (w:=w) t;obtain⟨g,e⟩:=b;exact⟨(p.1,e)::rs,⟨gM h.1,rfl,c⟩,.cons ⟨rfl,h.2⟩ q⟩
noncomputable def Hj (a:List (TE×TE)):TE:=λσ H Q=>∀p,H p=none→rH a σ (upd H p (.dK [])) λps b=>b p=some (.dK [])∧∃kvs:List (Key×V),ps=kvs.map (λkv=>(kV kv.1,kv.2))∧kvs.length≤15∧Q (.ref p) (upd b p (.dK (ie [] kvs)))
theorem BQ {X:Cx}{pos:Pos}{keys:List (Option Expr)}{b:List Expr}{d:List (TE×TE)}(h:Ji X pos keys b d)(f:keys.all (·.isSome)=true)(hl:keys.length=b.length)(l:keys≠[])
  (i:keys.length≤15):PE X (.Dict keys b pos) (Hj d):=by
 intro pins s σ H Q I q;have m:=I.hok.fresh (g8 s.heap.objs.size);have n:=I.laid (a:=s.heap.objs.size) (o:=.dK []) (h':=s.heap.push {cls:=.type "dict",data:=.dict #[]}) (t':=s.toks) (λ_ _ q=>Heap.get?_push_of_some _ q) (g8 _) (qN s.heap I.big);refine wpAny_Dict_walk (knd:=u1 X.prog X.w) f hl l i (F0 (h pins _ σ _ _ n (q _ m)) λF s2 ⟨ps,G,k,j,e,kvs,p,lk,r⟩=>?_);subst p;obtain⟨rs,c,t⟩:=lj (P:=X.prog) (w:=X.w) j;obtain⟨z,hd,u,v,x⟩:=zT k.hok e;cases v;refine⟨rs,c,x,λh' g hs=>⟨.ref s.heap.objs.size,_,?_,rfl,r⟩⟩;have y:(ie [] kvs).length≤sizeLine:=by
  have A:=fj kvs [];rw[List.length_nil]at A;rw[u5];omega
 have B:∃q,h'.get? s.heap.objs.size=some q:=let⟨q,_,_,E,_⟩:=g;⟨q,E⟩;exact jH k (by rw[e];exact True.intro) hs B (kT y hd (t.merge .nil) g)
structure M1 (X:Cx) (o:Expr) (m:Str) (apos:Pos) (e:Expr) (cpos:Pos):Prop where
 base:y7 o m X.env (eval o X.env)=eval o X.env
 few:((l8 cpos (f9 [e] X.env)).all (λx=>!x.1)&&(z6 cpos (o7 [] X.env)).all (λx=>x.1.isSome)
  && decide (([e]:List Expr).length+([]:List Keyword).length+(if([]:List Keyword).isEmpty then 0 else 1)<30))=true
 line:(apos.endLine==cpos.line)=true
 trees:l8 cpos (f9 [e] X.env)=[(false,eval e X.env)]
def LC (H:Hp)(a:Addr):Prop:=(∃kvs,Rd H a (.dK kvs))∨∃kvs,Rd H a (.dT kvs)
theorem FG {X:Cx}{pins:List (Addr×Obj)}{σ:St}{H:Hp}{s:Shared}{a:Addr}(I:Inv X pins σ H s)(d:LC H a):
  s.TypeIs (.ref a) "dict"∧(∀b,Value.ref a=.ref b→∃ob,s.heap.get? b=some ob∧ob.dict=none)∧(a==O1)=false:=by
 rcases d with⟨kvs,e⟩ | ⟨kvs,e⟩
 ·obtain⟨_,hd,vs,_,c⟩:=S2 I.hok e;refine⟨c.typeIs,λb q=>?_,hd⟩;cases q;obtain⟨ob,_,_,f,g,_⟩:=c;exact⟨ob,f,g.2.1⟩
 ·obtain⟨_,hd,xs,_,c⟩:=kS I.hok e;refine⟨c.typeIs,λb q=>?_,hd⟩;cases q;obtain⟨ob,_,_,f,g,_⟩:=c;exact⟨ob,f,g.2.1⟩
section
variable {X:Cx}{pins:List (Addr×Obj)}{σ:St}{H:Hp}{s:Shared}{a:Addr}{y d:V}{u r:Value}{o:Option V}{A:Around}{E:Value→Shared→Prop}
theorem tm {Q:Value→Shared→Prop}(n:A.units+1<B3)(I:Inv X pins σ H s)(g:dm H a y o)(i:RelV y u)(h:∀j m,Inv X pins σ H m→RelV (o.getD .v1) j→Q j m):
  wpAny (model X.prog X.w) A (call (.builtin "dict.get") [.ref a,u]) Q E s:=by
 rcases g with⟨kvs,k,e,f,l⟩ | ⟨kvs,k,b,e,f,p,l⟩
 ·subst f;obtain⟨z,hd,vs,c,d⟩:=S2 I.hok e;refine AW PySem.F.slot_dict_get d.typeIs PySem.F.entry_dict_get (PySem.F.args_dict_get_2 _ _) (meets_dict_get (u1 X.prog X.w) a (gM i) hd) ⟨_,d.mapOf,h _ _ (I.tok _) ?_⟩;rw[l];exact(c.val k).getD rfl
 ·subst f;cases(show u=Value.ref b from i);obtain⟨z,hd,xs,c,d⟩:=kS I.hok e;refine AW PySem.F.slot_dict_get d.typeIs PySem.F.entry_dict_get (PySem.F.args_dict_get_2 _ _) (meetsH_dict_get (jn (u1 X.prog X.w)) a b hd) ⟨W7 n,k,xs,ik I.hok p,d,h _ _ (I.tok _) ?_⟩;rw[l];exact(c.val k).getD rfl
end
noncomputable def Eu (d ty:TE):TE:=λσ H Q=>d σ H λx b=>∃a,x=.ref a∧LC b a∧ty σ b λy c=>∃o,dm c a y o∧Q (o.getD .v1) c
section
variable {X:Cx}{o e f:Expr}{apos cpos:Pos}{td ty tx:TE}
theorem yy (f:X.A.units+1<B3)(i:PE X o td)(j:PE X e ty)(m:M1 X o "get" apos e cpos):PE X (.Call (.Attribute o "get" apos) [e] [] cpos) (Eu td ty):=by
 intro pins s σ H Q I h;refine wpAny_Call_method m.base m.few m.line PySem.F.plainAttrs_dict PySem.F.slot_dict_get PySem.F.type_dict_get (F0 (i pins s σ H _ I h) λu s1 ⟨x,k,c,l,a,ex,d,n⟩=>?_);subst ex;obtain rfl:u=Value.ref a:=l;obtain⟨p,q,_⟩:=FG c d;refine⟨p,q,?_⟩;rw[m.trees];refine rq rfl (vu (S9 (F0 (j pins s1 σ k _ c n) λB s2 ⟨y,r,t,v,E,g,w⟩=>U8 ?_)));exact tm f t g v λG J z b=>⟨_,r,z,b,w⟩
end
theorem fK {env:Env}:∀(names:List (Str×NameKind)) (cs:List (Str×Addr)),(∀n,(n,NameKind.free)∈names→∃c,env.cells.lookup n=some c)→(∀n c,cs.lookup n=some c→env.cells.lookup n=some c)→
  ∃cl,(forIn names cs (λx r=>match x with| (name,kind)=>if(kind==NameKind.free)=true then do
   let c←cellOf env name
   pure (ForInStep.yield ((name,c)::r))else pure (ForInStep.yield r)):Sem (List (Str×Addr)))=pure cl∧(∀n c,cl.lookup n=some c→env.cells.lookup n=some c)∧(∀n,(n,NameKind.free)∈names→∃c,cl.lookup n=some c)∧(∀n c,cs.lookup n=some c→∃i,cl.lookup n=some i)
 | [],cs,_,m=>⟨cs,rfl,m,λ_ h=>by simp at h,λn c h=>⟨c,h⟩⟩
 | (name,kind)::f,cs,p,m=>by
  have l:∀n,(n,NameKind.free)∈f→∃c,env.cells.lookup n=some c:=λn h=>p n (List.mem_cons_of_mem _ h);rw[List.forIn_cons];by_cases hk:kind=NameKind.free
  ·subst hk;obtain⟨c,q⟩:=p name List.mem_cons_self;have o:∀n i,((name,c)::cs).lookup n=some i→env.cells.lookup n=some i:=λn i h=>by
    rw[List.lookup_cons]at h;cases j:n==name with
    |true=>
     rw[j]at h;have e:n=name:=eq_of_beq j;subst e;have s:c=i:=by simpa using h
     subst s;exact q
    |false=>
     rw[j]at h;exact m n i h
   obtain⟨cl,e,a,b,d⟩:=fK f ((name,c)::cs) l o;refine⟨cl,?_,a,λn g=>?_,λn i h=>?_⟩
   ·have k:cellOf env name=pure c:=by unfold cellOf;rw[q]
    simp only[beq_self_eq_true,if_true,k,pure_bind];exact e
   ·rcases List.mem_cons.mp g with g|g
    ·have t:n=name:=(GB g).1;subst t;exact d n c (by simp[List.lookup_cons])
    ·exact b n g
   ·cases j:n==name with
    |true=>exact d n c (by rw[List.lookup_cons,j])
    |false=>exact d n i (by rw[List.lookup_cons,j];exact h)
  ·have j:(kind==NameKind.free)=false:=by simpa using hk
   obtain⟨cl,e,a,b,d⟩:=fK f cs l m;refine⟨cl,?_,a,λn g=>?_,d⟩
   ·simp only[j,AI,if_false,pure_bind];exact e
   ·rcases List.mem_cons.mp g with g|g
    ·exact absurd (GB g).2.symm hk
    ·exact b n g
theorem tt {scope:Scope}{env:Env}(h:∀n,(n,NameKind.free)∈scope.names→∃c,env.cells.lookup n=some c):
  ∃cl,closureFor scope env=pure cl∧(∀n c,cl.lookup n=some c→env.cells.lookup n=some c)∧(∀n,(n,NameKind.free)∈scope.names→∃c,cl.lookup n=some c):=by
 obtain⟨cl,e,a,b,_⟩:=fK (env:=env) scope.names [] h (λn c h=>by simp at h);refine⟨cl,?_,a,b⟩;unfold closureFor;have d:=congrArg (λ(m:Sem (List (Str×Addr)))=>m >>= λcs=>pure cs) e;simp only[pure_bind]at d;exact d
noncomputable abbrev Cx.fk (X:Cx)(scope:Scope)(cl:List (Str×Addr))(C:Addr)(M:List Str)(s:Shared)(H:Hp)(ex:List Addr):Cx:=
 {X with N:=M,s₀:=s,H₀:=H,env:=compEnvC scope cl C X.env,outer:=X.stack,stack:=X.stack,ex:=ex,fn:=λy=>scope.names.lookup y==some .cell,pn:=[],xe:=λ_ _=>False}
structure vj (X:Cx) (scope:Scope) (M:List Str) (own:Nat) (fr:List Nat):Prop where
 kind:scope.kind=.function
 cells:∀y∈scope.names,y.2=.cell→scope.names.lookup y.1=some .cell
 names:∀y∈scope.names,y.2=.local→scope.names.lookup y.1=some .local
 free:∀y∈scope.names,y.2=.free→X.env.kindOf y.1=some .cell∨X.env.kindOf y.1=some .free
 nd:M.Nodup
 len:M.length=own+fr.length
 at':∀i j,fr[i]?=some j→M[own+i]?=X.N[j]?∧∃n,X.N[j]?=some n∧scope.names.lookup n=some .free∧(X.env.kindOf n=some .cell∨X.env.kindOf n=some .free)
noncomputable def seen (own:Nat)(fr:List Nat)(σ:St):St:=List.replicate own none++fr.map λj=>(σ[j]?).join
theorem cI {g:Str×NameKind→Str×NameKind}(a:∀p,(g p).1=p.1):∀(names:List (Str×NameKind)) (n:Str),(names.map g).lookup n=(names.lookup n).map λk=>(g (n,k)).2
 | [],_=>rfl
 | (m,k)::r,n=>by
  have e:g (m,k)=(m,(g (m,k)).2):=xr (a (m,k)) rfl;rw[List.map_cons,e];by_cases b:n=m
  ·subst b;simp[List.lookup_cons]
  ·have c:(n==m)=false:=by simpa using b
   simp only[List.lookup_cons,c];exact cI a r n
theorem bu (scope:Scope)(env:Env):∃g:Str×NameKind→Str×NameKind,(tM scope env).names=scope.names.map g∧(∀p,(g p).1=p.1)∧∀n k,(g (n,k)).2=k∨(k=.free∧(g (n,k)).2=.cell):=by
 refine⟨_,rfl,λp=>?_,λn k=>?_⟩
 ·obtain⟨n,k⟩:=p;dsimp only;split<;>rfl
 ·dsimp only;by_cases a:(k==NameKind.free&&env.scope.kind==ScopeKind.function&&env.kindOf n==some NameKind.cell)=true
  ·rw[if_pos a];refine .inr ⟨?_,rfl⟩;simp only[k6]at a;exact eq_of_beq a.1.1
  ·rw[if_neg a];exact .inl rfl
theorem nX {scope:Scope}{env:Env}{n:Str}(h:scope.names.lookup n=some .free):(tM scope env).names.lookup n=some .free∨(tM scope env).names.lookup n=some .cell:=by
 obtain⟨g,e,a,b⟩:=bu scope env;rw[e,cI a,h];rcases b n .free with q| ⟨_,q⟩
 ·exact .inl (by show some (g (n,.free)).2=_;rw[q])
 ·exact .inr (by show some (g (n,.free)).2=_;rw[q])
theorem iH {scope:Scope}{env:Env}{n:Str}(h:scope.names.lookup n=some .cell):(tM scope env).names.lookup n=some .cell:=by
 obtain⟨g,e,a,b⟩:=bu scope env;rw[e,cI a,h];rcases b n .cell with q| ⟨q,_⟩
 ·show some (g (n,.cell)).2=_;rw[q]
 ·cases q
theorem nY {scope:Scope}{env:Env}{n:Str}(h:(tM scope env).names.lookup n=some .cell∨(tM scope env).names.lookup n=some .free):(n,NameKind.free)∈scope.names∨(n,NameKind.cell)∈scope.names:=by
 obtain⟨g,e,b,c⟩:=bu scope env;rw[e,cI b]at h;cases hk:scope.names.lookup n with
 |none=>rw[hk]at h;rcases h with h|h<;>cases h
 |some k=>
  have a:=PySem.mem_of_lookup hk;rw[hk]at h;have h':(g (n,k)).2=.cell∨(g (n,k)).2=.free:=by
   rcases h with h|h
   ·exact .inl (i9 h)
   ·exact .inr (i9 h)
  rcases c n k with q| ⟨q,_⟩
  ·rcases h' with z|z
   ·rw[q.symm.trans z]at a;exact .inr a
   ·rw[q.symm.trans z]at a;exact .inl a
  ·rw[q]at a;exact .inl a
theorem z7:∀(names:List (Str×NameKind)) (n:Nat) (a:List (Str×Addr)),cellsFrom n names a=cellsFrom n names []++a
 | [],_,_=>rfl
 | (x,k)::r,n,a=>by
  unfold cellsFrom;split
  ·rw[z7 r (n+1) ((x,n)::a),z7 r (n+1) [(x,n)],List.append_assoc];rfl
  ·exact z7 r n a
theorem aI:∀(names:List (Str×NameKind)) (n:Nat) (x:Str) (c:Addr),(x,c)∈cellsFrom n names []→(x,NameKind.cell)∈names
 | [],_,_,_,h=>by cases h
 | (y,k)::r,n,x,c,h=>by
  unfold cellsFrom at h;split at h
  ·rename_i hk;rw[z7]at h;rcases List.mem_append.mp h with h|h
   ·exact List.mem_cons_of_mem _ (aI r (n+1) x c h)
   ·have e:=List.mem_singleton.mp h;cases e;rw[eq_of_beq hk];exact List.mem_cons_self
  ·exact List.mem_cons_of_mem _ (aI r n x c h)
theorem W6:∀(names:List (Str×NameKind)) (n:Nat) (x:Str),(x,NameKind.cell)∈names→∃c,(x,c)∈cellsFrom n names []
 | [],_,_,h=>by cases h
 | (y,k)::r,n,x,h=>by
  unfold cellsFrom;rcases List.mem_cons.mp h with h|h
  ·cases h;rw[if_pos (by rfl),z7];exact⟨n,List.mem_append_right _ (List.mem_singleton.mpr rfl)⟩
  ·split
   ·obtain⟨c,a⟩:=W6 r (n+1) x h;rw[z7];exact⟨c,List.mem_append_left _ a⟩
   ·exact W6 r n x h
theorem bE {x:Str}:∀{l:List (Str×Addr)} {c:Addr},(x,c)∈l→∃a,l.lookup x=some a
 | (k,v)::r,c,h=>by
  rw[List.lookup_cons];cases b:x==k with
  |true=>exact⟨v,rfl⟩
  |false=>
   rcases List.mem_cons.mp h with e|h
   ·cases e;simp at b
   ·exact bE h
theorem fM {scope:Scope}{n:Nat}{cl:List (Str×Addr)}{x:Str}{c:Addr}(h:(cellsFrom n scope.names cl).lookup x=some c):((x,c)∈cellsFrom n scope.names []∧(cellsFrom n scope.names []).lookup x=some c)∨cl.lookup x=some c:=by
 rw[z7,List.lookup_append]at h;cases e:(cellsFrom n scope.names []).lookup x with
 |some a=>
  rw[e]at h;cases h;exact .inl ⟨mem_of_lookup e,rfl⟩
 |none=>rw[e]at h;exact .inr h
theorem qT {scope:Scope}{n:Nat}{cl:List (Str×Addr)}{x:Str}(h:(x,NameKind.cell)∈scope.names∨∃c,cl.lookup x=some c):∃c,(cellsFrom n scope.names cl).lookup x=some c:=by
 rw[z7,List.lookup_append];cases e:(cellsFrom n scope.names []).lookup x with
 |some a=>exact⟨a,rfl⟩
 |none=>
  rcases h with h| ⟨c,h⟩
  ·obtain⟨c,d⟩:=W6 scope.names n x h;obtain⟨a,b⟩:=bE d;rw[e]at b;cases b
  ·exact⟨c,h⟩
theorem sj {M:Model}{A:Around}{E:Value→Shared→Prop}{s:Shared}{scope:Scope}{env:Env}{cl:List (Str×Addr)}{Q:Env→Shared→Prop}
  (h:Q {scope,locals:=s.heap.objs.size,globals:=env.globals,cells:=cellsFrom (s.heap.objs.size+1) scope.names cl,qual:=env.qual,func:=none,code:=env.code,frame:=env.frame,builtins:=env.builtins} {s with heap:=pushCells (s.heap.push {cls:=.type "dict",data:=.dict #[]}) scope.names}):
  wpAny M A (LN scope env.globals cl [] env.qual none .none (some env)) Q E s:=by
 simp only[LN,aO,if_true];refine f7 (wpAny_alloc ?_);refine f7 (wpAny_layCells _ (λname kind cells=>by cases a:kind==NameKind.cell<;>simp[a]) _ _ _ _ ?_);rw[show({s with heap:=s.heap.push {cls:=.type "dict",data:=.dict #[]}}:Shared).heap.objs.size=s.heap.objs.size+1 from Heap.size_push ..];exact i3 h
def PF (X:Cx)(a:List Expr)(t:TT):Prop:=
 ∀(pins:List (Addr×Obj)) (s:Shared) (σ:St) (H:Hp) (Q:Bool→Hp→Prop),Inv X pins σ H s→t σ H Q→
  wpAny (model X.prog X.w) X.A (forIn a true λc r=>if r=true then do let ok←AV c X.env (eval c X.env);pure (ForInStep.yield ok)else pure (ForInStep.yield r)) (TP X pins σ Q) X.xe s
noncomputable def JT:TT:=λ_ H Q=>Q true H
theorem ER {X:Cx}:PF X [] JT:=λ_ _ _ H _ I h=>wpAny_tests_nil ⟨H,I,h⟩
theorem EQ {X:Cx}{c:Expr}{t:TT}(h:PT X c t):PF X [c] t:=λpins s σ H Q I a=>wpAny_tests_one (h pins s σ H Q I a)
section
variable {prog:Program}{w:World}{A:Around}{R:vt→Shared→Prop}{s:Shared}
theorem oP {b a iter:Expr}{d:List Expr}{scope:Scope}{pos:Pos}{it e:Value}{env:Env}(I:Nat→Shared→Prop)
  (f:∀n s,I n s→wpAny (model prog w) A (pyNext it) (λr s1=>match r with
   |none=>R (.ok .next) s1
   |some v=>wpAny (model prog w) A (hG a it v) (λ_ g=>wpAny (model prog w) A (lB a env v) (λ_ s2=>
     wpAny (model prog w) A (forIn d true λc r=>if r=true then do let ok←AV c env (eval c env);pure (ForInStep.yield ok)else pure (ForInStep.yield r)) (λok i=>
      if ok=true then wpAny (model prog w) A (eval b env) (λx k=>
       wpAny (model prog w) A (call (.builtin "list.append") [e,x]) (λ_ l=>∃m,m<n∧I m l) (λ_ _=>False) k) (λ_ _=>False) i
      else∃m,m<n∧I m i) (λ_ _=>False) s2) (λ_ _=>False) g) (λ_ _=>False) s1) (λ_ _=>False) s)
  (n:Nat) (h:I n s):
  Y2 (model prog w) A (.compLoop (.ListComp b [⟨a,iter,d,0⟩] scope pos) 0 it e env) R s:=by
 refine codeAny_loop rfl I (λn s q=>?_) n h;show wpAny _ A ((compTurn (.ListComp b [⟨a,iter,d,0⟩] scope pos) 0 it e env).onRaise (λx=>do noteFrame x env;theTreesLotGoes x)) _ _ s;refine wpAny_noted ?_;rw[compTurn_list];refine f7 (lw (f7 (z5 (f n s q) (λr s1 o=>?_) λ_ _ h'=>h'.elim)));cases r with
 |none=>exact i3 o
 |some v=>
  refine f7 (z5 o (λ_ g j=>?_) λ_ _ h'=>h'.elim);refine f7 (z5 j (λ_ s2 t=>f7 (z5 t (λok i p=>?_) λ_ _ h'=>h'.elim)) λ_ _ h'=>h'.elim);cases ok with
  |false=>exact i3 ⟨rfl,p⟩
  |true=>
   exact f7 (f7 (z5 p (λx k u=>f7 (z5 u (λ_ l y=>i3 (i3 ⟨rfl,y⟩)) λ_ _ h'=>h'.elim)) λ_ _ h'=>h'.elim))
end
def pi (own:Nat)(fr:List Nat)(g:TG):Prop:=∀x σ H R,g x (seen own fr σ) H R→g x (seen own fr σ) H λa b=>(∀(i:Nat) v,(seen own fr σ)[i]?=some (some v)→a[i]?=some (some v))∧R a b
def Gw (J:It)(g:TG)(j:TT)(k:TE)(own:Nat)(fr:List Nat)(σ:St)(Q:VK)(l:Hp):Prop:=
 ∃W:Nat→Nat→List V→Hp→Prop,(∃m,W 0 m [] l)∧∀i m b a,W i m b a→
  (J.stop i a∧∀p,a p=none→Q (.ref p) (upd a p (.lst b)))∨
  (J.go i a∧b.length<sizeLine∧∃N:List V→Hp→Prop,(∀d H',N d H'→∃f,f<m∧W (i+1) f d H')∧
   ∀x H',J.yld i a x H'→g x (seen own fr σ) H' λe n=>j e n λc h=>if c=true then k e h λy o=>N (b++[y]) o else N b h)
noncomputable def my (a:TI)(g:TG)(b:TT)(c:TE)(own:Nat)(fr:List Nat):TE:=λσ H Q=>a σ H λJ d=>Gw J g b c own fr σ Q d
section
variable {X:Cx}{pins:List (Addr×Obj)}{σ:St}{H H2:Hp}{s s2:Shared}
theorem pR {own:Nat}{fr:List Nat}{σ:St}{i:Nat}{v:V}(h:(seen own fr σ)[i]?=some (some v)):∃k j,i=own+k∧fr[k]?=some j∧σ[j]?=some (some v):=by
 unfold seen at h;by_cases hi:i<own
 ·rw[List.getElem?_append_left (by simpa using hi),List.getElem?_replicate,if_pos hi]at h;cases h
 ·rw[List.getElem?_append_right (by simpa using hi)]at h;simp only[List.length_replicate,List.getElem?_map]at h;cases e:fr[i-own]? with
  |none=>rw[e]at h;cases h
  |some j=>
   rw[e]at h;simp only[r8,ft]at h;refine⟨i-own,j,by omega,e,?_⟩;cases q:σ[j]? with
   |none=>rw[q]at h;cases h
   |some o=>
    rw[q]at h;have h':o=some v:=h;rw[h']
theorem seen_length (own:Nat)(fr:List Nat)(σ:St):(seen own fr σ).length=own+fr.length:=by
 unfold seen;rw[List.length_append,List.length_replicate,List.length_map]
theorem uH {own:Nat}{fr:List Nat}{i:Nat}(hi:i<own):pi own fr (iS i):=λx σ H R h=>⟨λk v e=>by
 obtain⟨j,_,rfl,_⟩:=pR e;rw[List.getElem?_set_ne (by omega)];exact e,h⟩
theorem Inv.block {scope:Scope}{M:List Str}{own:Nat}{fr:List Nat}{cl:List (Str×Addr)}{h1:Heap}{fp:List Addr}{t1:Nat}(B:vj X scope M own fr)(I:Inv X pins σ H2 s2)
  (d:∀n c,cl.lookup n=some c→X.env.cells.lookup n=some c∨(scope.names.lookup n=some .cell∧s2.heap.objs.size+1<c∧h1.IsCell c none)) (U:∀n n' c,cl.lookup n=some c→cl.lookup n'=some c→s2.heap.objs.size+1<c→n=n') (G:∀n,(n,NameKind.free)∈scope.names∨(n,NameKind.cell)∈scope.names→∃c,cl.lookup n=some c)
  (Y:∀n c,cl.lookup n=some c→scope.names.lookup n=some .cell→s2.heap.objs.size+1<c)
  (t:∀b∈fp,lu X pins H2 b∧b<s2.heap.objs.size)
  (Z:h1.Ns (s2.heap.objs.size+1) λ_=>none) (F:∀b o,b<s2.heap.objs.size+1→(s2.heap.push {cls:=.type "list",data:=.seq ([]:List Value).toArray}).get? b=some o→h1.get? b=some o):
  Inv (X.fk scope cl (s2.heap.objs.size+1) M {s2 with heap:=s2.heap.push {cls:=.type "list",data:=.seq ([]:List Value).toArray}} H2 (s2.heap.objs.size::fp))
   [(s2.heap.objs.size,{cls:=.type "list",data:=.seq ([]:List Value).toArray})] (seen own fr σ) H2 {s2 with heap:=h1,toks:=t1}:=by
 have f:∀b o,s2.heap.get? b=some o→(s2.heap.push {cls:=.type "list",data:=.seq ([]:List Value).toArray}).get? b=some o:=λb o e=>Heap.get?_push_of_some _ e;have old:∀b o,s2.heap.get? b=some o→h1.get? b=some o:=λb o e=>F b o (o1 (Heap.lt_size e)) (f b o e);have hD:h1.get? s2.heap.objs.size=some {cls:=.type "list",data:=.seq ([]:List Value).toArray}:=F _ _ (n6 _) (Heap.get?_push_size _ rfl);have a0:H2 s2.heap.objs.size=none:=I.hok.fresh (g8 _);have a1:H2 (s2.heap.objs.size+1)=none:=I.hok.fresh (fU _);have s:∀x c,X.env.cells.lookup x=some c→c<s2.heap.objs.size:=λx c e=>by
  obtain⟨v,q⟩:=I.cell x c e;exact q.lt
 have A:(s2.heap.push {cls:=.type "list",data:=.seq ([]:List Value).toArray}).objs.size=s2.heap.objs.size+1:=Heap.size_push _ _;have Ok:(X.fk scope cl (s2.heap.objs.size+1) M {s2 with heap:=s2.heap.push {cls:=.type "list",data:=.seq ([]:List Value).toArray}} H2 (s2.heap.objs.size::fp)).Ok:=by
  refine⟨I.ok.mod,B.kind,I.ok.glob,I.ok.blt,?_,?_,?_,?_,I.ok.hd,I.ok.frames,.inl rfl,?_,?_,?_,?_,?_,?_,?_⟩
  ·show(s2.heap.push _).objs.size≤s2.heap.objs.size+1;rw[A];exact g8 _
  ·intro x y c R S;rcases d _ _ R with T| ⟨_,T,_⟩
   ·rcases d _ _ S with q2| ⟨_,q2,_⟩
    ·exact I.ok.inj x y c T q2
    ·exact absurd (Q6 (o1 (s x c T)) q2) (n0 _)
   ·exact U x y c R S T
  ·intro x hx;exact G x (nY hx)
  ·intro x c hx e;have q:=Y x c e (eq_of_beq hx);show(s2.heap.push _).objs.size≤c;rw[A];omega
  ·intro b a;rcases List.mem_cons.mp a with rfl|a
   ·refine⟨j7 (n6 _),λx c e=>?_⟩;rcases d _ _ e with q| ⟨_,q,_⟩
    ·exact j7 (s x c q)
    ·exact r0 (Q6 (n6 _) q)
   ·refine⟨j7 (o1 (t b a).2),λx c e=>?_⟩;rcases d _ _ e with q| ⟨_,q,_⟩
    ·exact(t b a).1.2.2.2.2.1 x c q
    ·exact r0 (Q6 (o1 (t b a).2) q)
  ·intro b o e;exact⟨f b o (I.bs b o e).1,(I.bs b o e).2⟩
  ·show X.base.objs.size≤(s2.heap.push _).objs.size;rw[A];exact Nat.le_succ_of_le (l7 I.ok.bsz I.sz)
  ·intro b o e a;rcases List.mem_cons.mp a with rfl|a
   ·exact absurd (Heap.lt_size (I.bs _ _ e).1) (n0 _)
   ·have q:=(t b a).1.2.2.2.1;rcases q with q|q
    ·exact I.ok.noex b o e q
    ·exact absurd (k8 (Heap.lt_size (I.ok.bs b o e).1) q) (n0 _)
  ·intro b a H;have J:b∈frs X.stack:=H;rcases List.mem_cons.mp a with rfl|a
   ·rcases List.mem_cons.mp (I.hY _ J)with e|e
    ·exact absurd I.lt (by rw[←e];exact n0 _)
    ·exact I.Fl (g8 _) e
   ·rcases List.mem_cons.mp (I.hY _ J)with e|e
    ·exact(t b a).1.2.1 e
    ·exact(t b a).1.2.2.1 e
  ·have q:=I.stack;have all:∀(l:List Env),s2.heap.FunFrames X.base l→(s2.heap.push {cls:=.type "list",data:=.seq ([]:List Value).toArray}).FunFrames X.base l:=by
    intro l;induction l with
    |nil=>intro _;trivial
    |cons env r ih=>
     intro hl;obtain⟨hk,⟨L,o,H,hn,N,hd⟩,hr⟩:=hl;exact⟨hk,⟨L,o,H,hn,f L o N,hd⟩,ih hr⟩
   exact all _ q
  ·intro b a;exact I.tU b a
 refine⟨Ok,rfl,I.bare,?_,?_,?_,a1,?_,?_,I.hok.kept old,?_⟩
 ·refine Un.kept λb u e=>?_;exact F b u (by have:=Heap.lt_size e;rw[A]at this;exact this) e
 ·refine⟨_,Z,λi x v R S e3=>?_⟩;obtain⟨k,j,rfl,hk,hv⟩:=pR S;obtain⟨e4,n,e5,g,w⟩:=B.at' k j hk;have ex:x=n:=by
   have O:M[own+k]?=some x:=R;rw[e4,e5]at O;exact(i9 O).symm
  subst ex;obtain⟨m,_,hl⟩:=I.loc;have P:eR X.env.scope x:=by
   rcases w with h|h
   ·exact .inr (.inl h)
   ·exact .inr (.inr h)
  obtain⟨u,ru,lk⟩:=hl j x v e5 hv P;refine⟨u,ru,.inr ⟨?_,?_⟩⟩
  ·have q:=nX (scope:=scope) (env:=X.env) g;exact q.symm
  ·have E:∃c,X.env.cells.lookup x=some c∧s2.heap.IsCell c (some u):=by
    rcases lk with⟨q,_⟩ | ⟨_,q⟩
    ·rcases w with h|h
     ·rw[h]at q;cases q
     ·rw[h]at q;cases q
    ·exact q
   obtain⟨c,e6,e7⟩:=E;obtain⟨c',e8⟩:=G x (.inl (PySem.mem_of_lookup g));rcases d x c' e8 with Q| ⟨Q,_⟩
   ·rw[e6]at Q;cases Q;obtain⟨o,N,hd⟩:=e7;exact⟨c,e8,o,old c o N,hd⟩
   ·rw[g]at Q;cases Q
 ·intro x c e;rcases d _ _ e with q| ⟨_,_,q⟩
  ·obtain⟨v,o,N,hd⟩:=I.cell x c q;exact⟨v,o,old c o N,hd⟩
  ·exact⟨_,q⟩
 ·intro x c e;rcases d _ _ e with q| ⟨_,q,_⟩
  ·exact I.freeC x c q
  ·exact I.hok.fresh (by omega)
 ·intro p hp;have e:p=(s2.heap.objs.size,{cls:=.type "list",data:=.seq ([]:List Value).toArray}):=List.mem_singleton.mp hp;subst e;refine⟨hD,a0,j7 (n6 _),λH=>?_,λv z=>?_⟩
  ·rcases List.mem_cons.mp (I.hY _ H)with e|e
   ·exact absurd I.lt (by rw[←e];exact n0 _)
   ·exact I.Fl (g8 _) e
  ·have z':Data.seq ([]:List Value).toArray _=Data.cell v:=z;cases z'
 ·rw[seen_length];exact B.len.symm
theorem Inv.Ar {scope:Scope}{M:List Str}{cl:List (Str×Addr)}{fp:List Addr}{w:St}{H':Hp}{s':Shared}{h':Heap}{p:List V}{i:List Value}{n:Nat}(I:Inv X pins σ H2 s2)
  (r:∀b∈fp,lu X pins H2 b)
  (J:Inv (X.fk scope cl (s2.heap.objs.size+1) M {s2 with heap:=s2.heap.push {cls:=.type "list",data:=.seq ([]:List Value).toArray}} H2 (s2.heap.objs.size::fp))
   [(s2.heap.objs.size,{cls:=.type "list",data:=.seq i.toArray n})] w H' s')
  (x:Vals p i) (y:p.length≤sizeLine) (hs:Heap.SameBut (s2.heap.objs.size+1) s'.heap h'):Inv X pins σ (upd H' s2.heap.objs.size (.lst p)) {s' with heap:=h'}:=by
 obtain⟨A,B,_,_,_⟩:=J.pin _ (List.mem_append_right _ (List.mem_singleton.mpr rfl));have E:H' (s2.heap.objs.size+1)=none:=J.free;have kp:∀b o,b≠s2.heap.objs.size+1→s'.heap.get? b=some o→h'.get? b=some o:=λb o j e=>(hs.2 b j).trans e;have d:∀b o,s2.heap.get? b=some o→(s2.heap.push {cls:=.type "list",data:=.seq ([]:List Value).toArray}).get? b=some o:=λb o e=>Heap.get?_push_of_some _ e;have m:∀b o,s2.heap.get? b=some o→b≠s2.heap.objs.size:=λb o e=>j7 (Heap.lt_size e);have k:∀b o,s2.heap.get? b=some o→b≠s2.heap.objs.size+1:=λb o e=>j7 (o1 (Heap.lt_size e));have f:∀b o,s2.heap.get? b=some o→b∉fp→b∉s2.heap.objs.size::fp:=λb o e h z=>(List.mem_cons.mp z).elim (m b o e) h;have neT:∀b u,H' b=some u→b≠s2.heap.objs.size:=λb u e z=>by rw[z,B]at e;cases e
 have g:∀b u,H' b=some u→b≠s2.heap.objs.size+1:=λb u e z=>by rw[z,E]at e;cases e
 refine I.IA (s':={s' with heap:=h'}) (ch:=fp) J.os ?_ ?_ J.bare λb j=>?_
 ·refine⟨λb o e n j l=>?_,λb o e n j l=>?_,λb o e n l=>?_,λb o e l=>?_,λb xs e=>?_,λb o xs e=>?_,λb ps e=>?_⟩
  ·exact kp b o (k b o e) (J.base.keep b o (d b o e) n j (f b o e l))
  ·obtain⟨sl,q⟩:=J.base.slot b o (d b o e) n j (f b o e l);exact⟨sl,kp b _ (k b o e) q⟩
  ·rw[j6 (m b o e)];exact J.base.free b o (d b o e) n (f b o e l)
  ·obtain⟨o',q⟩:=J.base.there b o (d b o e) (f b o e l);exact⟨o',kp b _ (k b o e) q⟩
  ·have q:=J.base.tups b xs e;rw[j6 (neT b _ q)];exact q
  ·have q:=J.base.frzs b o xs e;rw[j6 (neT b _ q)];exact q
  ·obtain⟨more,q⟩:=J.base.tbls b ps e;rw[j6 (neT b _ q)];exact⟨more,q⟩
 ·intro a o e;by_cases t:a=s2.heap.objs.size
  ·subst t;rw[l9]at e;cases e;exact⟨y,i,n,x,kp _ _ (j7 (n6 _)) A⟩
  ·rw[j6 t]at e;refine(J.hok a o e).stay (λc v s q=>kp c v ?_ q) (λc q=>by rw[j6 (neT c _ q)];exact q) λc xs q=>by rw[j6 (neT c _ q)];exact q
   rcases s with rfl|s
   ·exact g c o e
   ·exact g c _ s
 ·obtain⟨f0,f1,L,F,G,H⟩:=r b j;exact⟨F,f1,G,H⟩
theorem tz {E:Value→Shared→Prop}{D:Addr}{a:List Value}{n:Nat}{u:Value}{Q:Value→Shared→Prop}{c:Program}{w:World}{A:Around}(e:s.heap.get? D=some {cls:=.type "list",data:=.seq a.toArray n}) (k:a.length≤sizeLine)
  (h:∀h' d,h'.get? D=some {cls:=.type "list",data:=.seq (a++[u]).toArray d}→(∀b o,b≠D→s.heap.get? b=some o→h'.get? b=some o)→Q .none {s with heap:=h'}):
  wpAny (model c w) A (call (.builtin "list.append") [.ref D,u]) Q E s:=by
 refine vn F.slot_list_append ⟨_,e,rfl⟩ F.entry_list_append (F.args_list_append_2 _ _) (PySem.list_append D a.toArray n u (by rw[List.size_toArray];omega)) ⟨e,?_⟩;have q:=PySem.IsL.update e (λxs=>xs.push u);have f:a.toArray.push u=(a++[u]).toArray:=by simp
 have g:(s.heap.update D (Obj.mapSeq λxs=>xs.push u)).get? D=some {cls:=.type "list",data:=.seq (a++[u]).toArray (if(a.toArray.push u).size==a.toArray.size then n else n+1)}:=by
  rw[←f];exact q
 exact h _ _ g λb o i j=>(Heap.get?_update_other s.heap _ (w5 i)).trans j
variable {scope:Scope}{M:List Str}{own:Nat}{fr:List Nat}{tg iter elt:Expr}{ifs:List Expr}{pos:Pos}{wi:TI}{g:TG}{tf:TT}{te:TE}
theorem qS {use:Option (Value→Sem Unit)}{Q':Value→Shared→Prop}{Q:VK}(B:vj X scope M own fr)(hc:X.calm=true)(hi:PI X tg iter wi)
  (hg:∀cl C s H ex,PG (X.fk scope cl C M s H ex) tg g) (hk:pi own fr g) (hf:∀cl C s H ex,PF (X.fk scope cl C M s H ex) ifs tf) (he:∀cl C s H ex,PE (X.fk scope cl C M s H ex) elt te)
  (hs:∀x,foldedSetIterable iter X.env x=pure x) (I:Inv X pins σ H s) (h:my wi g tf te own fr σ H Q)
  (fin:∀(D C:Addr) (H':Hp) (j:Shared),(∃m,j.heap.Ns C m)→lu X pins H' C→Inv X pins σ H' j→Q (.ref D) H'→compPost (model X.prog X.w) X.A X.xe use Q' (.ref D) C (.ok .next) j):
  wpAny (model X.prog X.w) X.A (Mn (.ListComp elt [⟨tg,iter,ifs,0⟩] scope pos) scope X.env (firstIterPos [⟨tg,iter,ifs,0⟩] pos) (MX []) false (eval iter X.env) use) Q' X.xe s:=by
 obtain⟨cl,Y,Z,b8⟩:=tt (scope:=scope) (env:=X.env) λn hn=>I.ok.has n (B.free _ hn rfl);refine wpAny_comprehension_free (cl:=cl) rfl hs Y B.kind B.names ?_;refine F0 (hi pins s σ H _ I h) λv s1 h1=>F0 h1 λc5 s2 h2=>?_;obtain⟨it,fp,tn,J,H2,e,I2,T,a6,f2,W,⟨m0,w0⟩,a7⟩:=h2;subst e;refine C5 (sj ?_);dsimp only;have a0:(s2.heap.push {cls:=.type "list",dict:=none,data:=.seq ([]:List Value).toArray}).objs.size=s2.heap.objs.size+1:=Heap.size_push _ _;have t:=(Heap.Ns.new (s2.heap.push {cls:=.type "list",dict:=none,data:=.seq ([]:List Value).toArray}) (.type "dict")).keeps (KC scope.names _);have P:∀b o,(s2.heap.push {cls:=.type "list",dict:=none,data:=.seq ([]:List Value).toArray}).get? b=some o→(pushCells ((s2.heap.push {cls:=.type "list",dict:=none,data:=.seq ([]:List Value).toArray}).push {cls:=.type "dict",data:=.dict #[]}) scope.names).get? b=some o:=λb o e=>KC _ _ b o (Heap.get?_push_of_some _ e);have E:=cellsFrom_ok scope.names ((s2.heap.push {cls:=.type "list",dict:=none,data:=.seq ([]:List Value).toArray}).push {cls:=.type "dict",data:=.dict #[]}) (s2.heap.objs.size+2) [] ⟨λ_ _ hm=>(nomatch hm),List.Pairwise.nil⟩ (by rw[Heap.size_push,a0];exact g8 _);rw[Heap.size_push,a0]at E;rw[a0]at t⊢;generalize pushCells ((s2.heap.push {cls:=.type "list",dict:=none,data:=.seq ([]:List Value).toArray}).push {cls:=.type "dict",data:=.dict #[]}) scope.names=h1 at t P E⊢;have a8:∀n n' c,(cellsFrom (s2.heap.objs.size+1+1) scope.names cl).lookup n=some c→(cellsFrom (s2.heap.objs.size+1+1) scope.names cl).lookup n'=some c→s2.heap.objs.size+1<c→n=n':=by
  intro n n' c e1 e2 a9;rcases fM e1 with⟨m1,_⟩ |q1
  ·rcases fM e2 with⟨m2,_⟩ |q2
   ·exact MY E.apart m1 m2
   ·obtain⟨v,q⟩:=I2.cell _ _ (Z _ _ q2);exact absurd (Q6 (o1 q.lt) a9) (n0 _)
  ·obtain⟨v,q⟩:=I2.cell _ _ (Z _ _ q1);exact absurd (Q6 (o1 q.lt) a9) (n0 _)
 have a3:∀n c,(cellsFrom (s2.heap.objs.size+1+1) scope.names cl).lookup n=some c→X.env.cells.lookup n=some c∨(scope.names.lookup n=some .cell∧s2.heap.objs.size+1<c∧h1.IsCell c none):=by
  intro n c e;rcases fM e with⟨m1,_⟩ |q1
  ·obtain⟨a1,a2⟩:=E.empty n c m1;exact .inr ⟨B.cells _ (aI _ _ _ _ m1) rfl,by omega,a1⟩
  ·exact .inl (Z _ _ q1)
 have b0:∀n c,(cellsFrom (s2.heap.objs.size+1+1) scope.names cl).lookup n=some c→scope.names.lookup n=some .cell→s2.heap.objs.size+1<c:=by
  intro n c e hn;obtain⟨c0,b9⟩:=W6 scope.names (s2.heap.objs.size+1+1) n (mem_of_lookup hn);obtain⟨c',e'⟩:=bE b9;rw[z7,List.lookup_append,e']at e;cases e;have:=(E.empty n c (mem_of_lookup e')).2;omega
 have b1:∀n,(n,NameKind.free)∈scope.names∨(n,NameKind.cell)∈scope.names→∃c,(cellsFrom (s2.heap.objs.size+1+1) scope.names cl).lookup n=some c:=λn h=>qT (h.symm.imp id (b8 n));generalize cellsFrom (s2.heap.objs.size+1+1) scope.names cl=G at a8 a3 b0 b1⊢;have l:∀b∈fp,b<s2.heap.objs.size:=λb a=>by
  obtain⟨o,eo,_⟩:=T.obj _ _ a6 b a;exact Heap.lt_size eo
 have R:∀b o,b<s2.heap.objs.size+1→(s2.heap.push {cls:=.type "list",data:=.seq ([]:List Value).toArray}).get? b=some o→h1.get? b=some o:=λb o a e=>
  P b o e
 have b2:h1.Ns (s2.heap.objs.size+1) λ_=>none:=t;have J0:=Inv.block (cl:=G) (h1:=h1) (fp:=fp) (t1:=s2.toks) B I2 a3 a8 b1 b0 (λb a=>⟨f2 b a,l b a⟩) b2 R;have b3:tn 0 h1:=T.keep _ _ _ a6 λb a o e=>R b o (o1 (l b a)) (Heap.get?_push_of_some _ e)
 
 have F:∀{H':Hp} {o:Obj},(∀b∈fp,H' b=none)→∀b∈fp,lu (X.fk scope G (s2.heap.objs.size+1) M {s2 with heap:=s2.heap.push {cls:=.type "list",data:=.seq ([]:List Value).toArray}} H2 (s2.heap.objs.size::fp)) [(s2.heap.objs.size,o)] H' b:=by
  intro H' o hn b a;obtain⟨f0,f1,ff,f3,f4,f5⟩:=f2 b a;refine⟨hn b a,j7 (o1 (l b a)),λz=>?_,.inl (List.mem_cons_of_mem _ a),λx c e=>?_,λp hp z=>?_⟩
  ·rcases List.mem_cons.mp (I2.hY b z)with e|e
   ·exact f1 e
   ·exact ff e
  ·rcases a3 x c e with q| ⟨_,q,_⟩
   ·exact f4 x c q
   ·exact r0 (Q6 (o1 (l b a)) q)
  ·have e:p=(s2.heap.objs.size,o):=List.mem_singleton.mp hp;subst e;exact absurd (l b a) (by rw[←z];exact n0 _)
 have S:∀s3:Shared,s3={s2 with heap:=h1,toks:=s2.toks}→
   Y2 (model X.prog X.w) X.A (.compLoop (.ListComp elt [⟨tg,iter,ifs,0⟩] scope pos) 0 (.ref it) (.ref s2.heap.objs.size) (compEnvC scope G (s2.heap.objs.size+1) X.env))
    (compPost (model X.prog X.w) X.A X.xe use Q' (.ref s2.heap.objs.size) (s2.heap.objs.size+1)) s3:=by
  rintro s3 rfl
  refine oP (λn j=>∃(i:Nat) (τ:St) (H':Hp) (L:List V) (f:List Value) (k:Nat),Inv (X.fk scope G (s2.heap.objs.size+1) M {s2 with heap:=s2.heap.push {cls:=.type "list",data:=.seq ([]:List Value).toArray}} H2 (s2.heap.objs.size::fp)) [(s2.heap.objs.size,{cls:=.type "list",data:=.seq f.toArray k})] (seen own fr σ) H' j∧
   tn i j.heap∧(∀b∈fp,H' b=none)∧Vals L f∧L.length≤sizeLine∧W i n L H') ?_ m0 ⟨0,seen own fr σ,H2,[],[],0,J0,b3,λb a=>(f2 b a).1,.nil,u6 _,w0⟩
  rintro n s4 ⟨i,τ,H4,L,f,k,J4,b4,b5,hv4,hz4,w4⟩
  rcases a7 i n L H4 w4 with⟨stop,qn⟩ | ⟨go,hz,N,hN,step⟩
  ·refine F0 (T.done (X.fk scope G (s2.heap.objs.size+1) M {s2 with heap:=s2.heap.push {cls:=.type "list",data:=.seq ([]:List Value).toArray}} H2 (s2.heap.objs.size::fp)) rfl rfl rfl hc i _ s4 _ H4 _ J4 (F b5) b4 stop) λr s5 ⟨hr,J5⟩=>?_;subst hr;obtain⟨m5,c1,_⟩:=J5.loc;have nD:H4 s2.heap.objs.size=none:=(J5.pin _ (List.mem_append_right _ (List.mem_singleton.mpr rfl))).2.1;exact fin s2.heap.objs.size (s2.heap.objs.size+1) _ s5 ⟨m5,c1⟩ (I2.wQ (fU _) (by rw[j6 (r0 (n6 _))];exact J5.free)) (Inv.Ar I2 f2 J5 hv4 hz4 (.refl ..)) (qn _ nD)
  ·refine F0 (T.item (X.fk scope G (s2.heap.objs.size+1) M {s2 with heap:=s2.heap.push {cls:=.type "list",data:=.seq ([]:List Value).toArray}} H2 (s2.heap.objs.size::fp)) rfl rfl rfl hc i _ s4 _ H4 _ J4 (F b5) b4 go) λr s5 ⟨u,hr,h5⟩=>?_;subst hr;refine F0 h5 λ_ s6 ⟨x,H6,J6,r6,y6,a4,c2⟩=>?_;have c3:=J6.pinned (F c2) (T.obj _ _ a4);refine F0 (hg _ _ _ _ _ _ s6 _ H6 x u _ c3 r6 (hk _ _ _ _ (step x H6 y6))) λ_ s7 ⟨O,H7,J7,c4,q7⟩=>?_;refine F0 (hf _ _ _ _ _ _ s7 O H7 _ J7 q7) λok s8 ⟨H8,J8,q8⟩=>?_;have b6:∀{b7:St} {H':Hp} {j:Shared},Inv (X.fk scope G (s2.heap.objs.size+1) M {s2 with heap:=s2.heap.push {cls:=.type "list",data:=.seq ([]:List Value).toArray}} H2 (s2.heap.objs.size::fp)) ([(s2.heap.objs.size,{cls:=.type "list",data:=.seq f.toArray k})]++km fp s6.heap) b7 H' j→
     tn (i+1) j.heap∧(∀b∈fp,H' b=none):=λ{b7 H' j} K=>by
    refine⟨T.keep _ _ _ a4 λb a o e=>(K.pin (b,o) (List.mem_append_right _ (List.mem_append_right _ (cH a e)))).1,λb a=>?_⟩;obtain⟨o,e,d⟩:=T.obj _ _ a4 b a;exact(K.pin (b,o) (List.mem_append_right _ (List.mem_append_right _ (cH a e)))).2.1
   have U:∀{pl:List (Addr×Obj)} {H':Hp} {j:Shared},Inv (X.fk scope G (s2.heap.objs.size+1) M {s2 with heap:=s2.heap.push {cls:=.type "list",data:=.seq ([]:List Value).toArray}} H2 (s2.heap.objs.size::fp)) pl O H' j→Inv (X.fk scope G (s2.heap.objs.size+1) M {s2 with heap:=s2.heap.push {cls:=.type "list",data:=.seq ([]:List Value).toArray}} H2 (s2.heap.objs.size::fp)) pl (seen own fr σ) H' j:=λ{pl H' j} K=>K.weak (by rw[seen_length,K.len];exact B.len.symm) c4;cases ok with
   |false=>
    obtain⟨a5,hl⟩:=b6 J8;obtain⟨m',hm,w8⟩:=hN L H8 (by simpa using q8);exact⟨m',hm,i+1,seen own fr σ,H8,L,f,k,U J8.gb,a5,hl,hv4,hz4,w8⟩
   |true=>
    simp only[if_true]at q8⊢;refine F0 (he _ _ _ _ _ _ s8 O H8 _ J8 q8) λu9 s9 ⟨y,H9,J9,r9,q9⟩=>?_;obtain⟨a5,hl⟩:=b6 J9;obtain⟨m',hm,w9⟩:=hN (L++[y]) H9 q9;obtain⟨eD,nD,d1,d2,d3⟩:=J9.pin (s2.heap.objs.size,{cls:=.type "list",data:=.seq f.toArray k}) (List.mem_append_right _ (List.mem_append_left _ (List.mem_singleton.mpr rfl)));refine tz eD (by rw[←hv4.length];exact Q7 hz) λh' n' e' kp=>?_;have K0:Inv (X.fk scope G (s2.heap.objs.size+1) M {s2 with heap:=s2.heap.push {cls:=.type "list",data:=.seq ([]:List Value).toArray}} H2 (s2.heap.objs.size::fp)) [] O H9 s9:=J9.gy λp hp=>absurd hp (by simp);have K1:=K0.turned (t':=s9.toks) (h':=h') (it:=s2.heap.objs.size) kp nD d1 (.inl List.mem_cons_self) (λx c e=>(J9.ok.exf _ List.mem_cons_self).2 x c e) (λp hp=>absurd (show p∈([]:List (Addr×Obj))from hp) (by simp));have K2:=K1.gy (pins':=[(s2.heap.objs.size,{cls:=.type "list",data:=.seq (f++[u9]).toArray n'})]) λp hp=>by
     have e:p=_:=List.mem_singleton.mp hp;subst e;exact⟨e',nD,d1,d2,λv z=>by
      have z':Data.seq (f++[u9]).toArray _=Data.cell v:=z;cases z'⟩
    refine⟨m',hm,i+1,seen own fr σ,H9,L++[y],f++[u9],n',U K2,T.keep _ _ _ a5 λb a o e=>kp b o (j7 (l b a)) e,hl,hv4.append (.cons r9 .nil),by rw[List.length_append,List.length_singleton];exact hz,w9⟩
 exact codeAny_compStart_list (S _ rfl) (T.self X.A 0 _ _ _ b3 (S _ rfl))
theorem yw (B:vj X scope M own fr)(c:X.calm=true)(hi:PI X tg iter wi)
  (d:∀cl C s H ex,PG (X.fk scope cl C M s H ex) tg g) (hk:pi own fr g) (f:∀cl C s H ex,PF (X.fk scope cl C M s H ex) ifs tf) (i:∀cl C s H ex,PE (X.fk scope cl C M s H ex) elt te)
  (hs:∀x,foldedSetIterable iter X.env x=pure x:=by intro _;rfl):PE X (.ListComp elt [⟨tg,iter,ifs,0⟩] scope pos) (my wi g tf te own fr):=by
 intro pins s σ H Q I h;rw[eval_ListComp];refine qS (use:=none) B c hi d hk f i hs I h λD C H' j ⟨m,k⟩ l n q=>?_;obtain⟨f0,f1,v,p,r,t⟩:=l;exact⟨m,k,λh' a=>⟨.ref D,H',n.turned (t':=j.toks) (λb o u e=>(a.2 b u).trans e) f0 f1 p r t,rfl,q⟩⟩
theorem BH {i:Nat}{y:Str}{d c:Pos}(B:vj X scope M own fr)(u:X.calm=true)(w:X.N.Nodup)(A:X.N[i]?=some y)(p:X.env.kindOf y=some .local)(hi:PI X tg iter wi)
  (E:∀cl C s H ex,PG (X.fk scope cl C M s H ex) tg g) (hk:pi own fr g) (F:∀cl C s H ex,PF (X.fk scope cl C M s H ex) ifs tf) (G:∀cl C s H ex,PE (X.fk scope cl C M s H ex) elt te)
  (f:S8 (.ListComp elt [⟨tg,iter,ifs,0⟩] scope pos) (some (.Name y d)) c.line X.env=pure true:=by with_unfolding_all rfl)
  (hs:∀x,foldedSetIterable iter X.env x=pure x:=by intro _;rfl):PS X (.Assign [.Name y d] (.ListComp elt [⟨tg,iter,ifs,0⟩] scope pos) c) (Bm (my wi g tf te own fr) (iS i)):=by
 intro pins s σ H D I h;rw[exec_Assign_Name_used _ _ _ _ f];refine f7 (lw (f7 ?_));show wpAny _ _ (do let _←Mn (.ListComp elt [⟨tg,iter,ifs,0⟩] scope pos) scope X.env _ (MX []) false (eval iter X.env) (some (lB (.Name y d) X.env))) _ _ s;refine f7 (z5 (qS (use:=some (lB (.Name y d) X.env)) (Q':=λ_ j=>SP X pins D .next j) B u hi E hk F G hs I h λr C H' j ⟨m,J⟩ L O q=>?_) (λ_ j P=>i3 (i3 P)) λ_ _ e=>e);obtain⟨f0,f1,Y,Q,t,R⟩:=L;show wpAny _ _ (lB (.Name y d) X.env (.ref r)) _ _ _;refine IN (mB O w A (.inl p) (v:=.ref r) rfl (λs2 S ⟨a,T,k⟩=>?_) (.inr p));have l:C≠a:=by
  rcases k with rfl|k
  ·exact f1
  ·exact λz=>t _ _ k z.symm
 refine⟨m,J.sameBut T l,λh' n=>?_⟩;exact⟨_,H',S.turned (t':=s2.toks) (λb o U e=>(n.2 b U).trans e) f0 f1 Q t R,q⟩
noncomputable def namesOk (scope:Scope)(fs:List Str):Bool:=scope.names.all λy=>(y.2 != .cell||scope.names.lookup y.1==some .cell)&&(y.2 != .free||fs.contains y.1)&&(y.2 != .local||scope.names.lookup y.1==some .local)
theorem vj.mk' {fs:List Str}(kind:scope.kind=.function)(h:namesOk scope fs=true)(nd:M.Nodup)(len:M.length=own+fr.length)(hk:∀n∈fs,X.env.kindOf n=some .cell∨X.env.kindOf n=some .free)
  (at':∀i j,fr[i]?=some j→M[own+i]?=X.N[j]?∧∃n,X.N[j]?=some n∧scope.names.lookup n=some .free∧(X.env.kindOf n=some .cell∨X.env.kindOf n=some .free)):vj X scope M own fr:=by
 have h':=List.all_eq_true.mp h;refine⟨kind,λy b e=>?_,λy b e=>?_,λy b e=>?_,nd,len,at'⟩
 ·have q:=h' y b;simp only[k6]at q;have a:=q.1.1;rw[e]at a;simpa using a
 ·have q:=h' y b;simp only[k6]at q;have a:=q.2;rw[e]at a;simpa using a
 ·have q:=h' y b;simp only[k6]at q;have a:=q.1.2;rw[e]at a;exact hk y.1 (by simpa using a)
theorem HC {x:Str}{b:Pos}{a:List Str}(B:vj X scope (x::a) 1 fr)(hi:PI X (.Name x b) iter wi)(d:∀cl C s H ex,PF (X.fk scope cl C (x::a) s H ex) ifs tf)(e:∀cl C s H ex,PE (X.fk scope cl C (x::a) s H ex) elt te)
  (f:X.calm=true:=by rfl) (c:scope.names.lookup x=some .local∨scope.names.lookup x=some .cell:=by first|exact .inl rfl|exact .inr rfl) (hs:∀x,foldedSetIterable iter X.env x=pure x:=by intro _;rfl):PE X (.ListComp elt [⟨.Name x b,iter,ifs,0⟩] scope pos) (my wi (iS 0) tf te 1 fr):=
 yw B f hi (λ_ _ _ _ _=>oh B.nd rfl (c.imp bq iH) (c.symm.imp (λh=>by show(scope.names.lookup x==some .cell)=true;rw[h];rfl) bq)) (uH (by decide)) d e hs
theorem Hz {i:Nat}{y:Str}{f a:Pos}{x:Str}{b:Pos}{c:List Str}(B:vj X scope (x::c) 1 fr)(j:X.N.Nodup)(hi:PI X (.Name x b) iter wi)(k:∀cl C s H ex,PF (X.fk scope cl C (x::c) s H ex) ifs tf)(l:∀cl C s H ex,PE (X.fk scope cl C (x::c) s H ex) elt te)
  (m:X.N[i]?=some y:=by rfl) (d:X.env.kindOf y=some .local:=by rfl) (n:X.calm=true:=by rfl) (g:scope.names.lookup x=some .local∨scope.names.lookup x=some .cell:=by first|exact .inl rfl|exact .inr rfl)
  (e:S8 (.ListComp elt [⟨.Name x b,iter,ifs,0⟩] scope pos) (some (.Name y f)) a.line X.env=pure true:=by with_unfolding_all rfl)
  (hs:∀x,foldedSetIterable iter X.env x=pure x:=by intro _;rfl):PS X (.Assign [.Name y f] (.ListComp elt [⟨.Name x b,iter,ifs,0⟩] scope pos) a) (Bm (my wi (iS 0) tf te 1 fr) (iS i)):=
 BH B n j m d hi (λ_ _ _ _ _=>oh B.nd rfl (g.imp bq iH) (g.symm.imp (λh=>by show(scope.names.lookup x==some .cell)=true;rw[h];rfl) bq)) (uH (by decide)) k l e hs
end
noncomputable abbrev tx (cs:List Nat):Str:=⟨cs.toArray⟩
theorem Ef (x:Str):tx x.cps.toList=x:=by cases x;rfl
theorem xB {a b:List Nat}:tx a=tx b↔a=b:=by
 constructor
 ·intro h;have e:a.toArray=b.toArray:=congrArg Str.cps h;simpa using e
 ·rintro rfl;rfl
theorem du (a:List Nat):(tx a).length=a.length:=by show a.toArray.size=a.length;simp
theorem Eg (a b:List Nat):tx a++tx b=tx (a++b):=by
 show Str.mk (a.toArray++b.toArray)=Str.mk (a++b).toArray;congr 1;simp
noncomputable def Gp (x:Str):It:=⟨λi _=>i<x.cps.size,λi H v H'=>H'=H∧∃c,x.cps[i]?=some c∧v=.str ⟨#[c]⟩,λi _=>x.cps.size≤i⟩
theorem vy {P:Program}{w:World}{K:PySem.W.Frag}{tg:Expr}(x:Str)(t:Tok)(it:Addr):Turn P w K tg (Gp x) [it] it (λi h=>h.IsStrIter it "str_ascii_iterator" x t i) where
 mem:=by simp
 obj:=λi h st b f=>by
  have e:b=it:=by simpa using f
  subst e;obtain⟨o,e,c,d⟩:=st;exact⟨o,e,λv z=>by rw[d]at z;cases z⟩
 keep:=λi h h' st k=>let⟨o,B,r⟩:=st;⟨o,k it (by simp) o B,r⟩
 item:=by
  intro X l m n A i pins s σ H E I j st p;subst l m n;obtain⟨f0,f1,F,q,u,y⟩:=j it (by simp);have a:i<x.cps.size:=p;refine wpAny_pyNext_ascii_item st (c:=x.cps[i]) (by simp[a]) λh' g G=>?_;have J:Inv X pins σ H {s with heap:=h',toks:=s.toks+1}:=I.turned (λb o f e=>(G.2 b f).trans e) f0 f1 q u y;obtain⟨o,e,c,d⟩:=id g;exact⟨_,rfl,dP (s:={s with heap:=h',toks:=s.toks+1}) e c d (by decide) ⟨.str ⟨#[x.cps[i]]⟩,H,J,⟨_,rfl⟩,⟨rfl,_,by simp[a],rfl⟩,g,λb f=>(j b f).1⟩⟩
 done:=by
  intro X l m n A i pins s σ H E I j st p;subst l m n;obtain⟨f0,f1,F,q,u,y⟩:=j it (by simp);have a:x.cps.size≤i:=p;exact wpAny_pyNext_ascii_end (I.ok.hd A) st (by simp[a]) λh' L=>⟨rfl,I.turned (t':=s.toks) (λb o f e=>L b o f e) f0 f1 q u y⟩
 self:=λ_ _ _ _ _ st h=>wpAny_pyIter_striter_ascii st h
theorem vx {P:Program}{w:World}{K:PySem.W.Frag}{tg:Expr}(x:Str)(t:Tok)(it:Addr):Turn P w K tg (Gp x) [it] it (λi h=>h.IsStrIter it "str_iterator" x t i) where
 mem:=by simp
 obj:=λi h st b f=>by
  have e:b=it:=by simpa using f
  subst e;obtain⟨o,e,c,d⟩:=st;exact⟨o,e,λv z=>by rw[d]at z;cases z⟩
 keep:=λi h h' st k=>let⟨o,B,r⟩:=st;⟨o,k it (by simp) o B,r⟩
 item:=by
  intro X l m n A i pins s σ H E I j st p;subst l m n;obtain⟨f0,f1,F,q,u,y⟩:=j it (by simp);have a:i<x.cps.size:=p;refine wpAny_pyNext_wide_item st (c:=x.cps[i]) (by simp[a]) λh' g G=>?_;have J:Inv X pins σ H {s with heap:=h',toks:=s.toks+1}:=I.turned (λb o f e=>(G.2 b f).trans e) f0 f1 q u y;obtain⟨o,e,c,d⟩:=id g;exact⟨_,rfl,dP (s:={s with heap:=h',toks:=s.toks+1}) e c d (by decide) ⟨.str ⟨#[x.cps[i]]⟩,H,J,⟨_,rfl⟩,⟨rfl,_,by simp[a],rfl⟩,g,λb f=>(j b f).1⟩⟩
 done:=by
  intro X l m n A i pins s σ H E I j st p;subst l m n;obtain⟨f0,f1,F,q,u,y⟩:=j it (by simp);have a:x.cps.size≤i:=p;exact wpAny_pyNext_wide_end (I.ok.hd A) st (by simp[a]) λh' L=>⟨rfl,I.turned (t':=s.toks) (λb o f e=>L b o f e) f0 f1 q u y⟩
 self:=λ_ _ _ _ _ st h=>wpAny_pyIter_striter_wide st h
section
variable {X:Cx}
noncomputable def oO (cs:List Nat)(lo hi:Option Int):List Nat:=(cs.drop (HT.B9 cs.length 0 lo)).take (HT.B9 cs.length cs.length hi-HT.B9 cs.length 0 lo)
theorem sG (lo hi:Option Int)(n:Nat):X8 lo hi 1 n=(List.range (HT.B9 n n hi-HT.B9 n 0 lo)).map λk=>HT.B9 n 0 lo+k:=by
 have c:∀(o:Option Int) (d:Nat) (f:Int),f=(d:Int)→(match o with|none=>f|some i=>(if(1:Int)>0 then max 0 (min (if i<0 then i+(n:Int)else i) (n:Int))else max (-1) (min (if i<0 then i+(n:Int)else i) ((n:Int)-1))))=((HT.B9 n d o:Nat):Int):=by
  intro o d f hd;cases o with
  |none=>exact hd
  |some i=>
   show(if(1:Int)>0 then max 0 (min (if i<0 then i+(n:Int)else i) (n:Int))else _)=(((if i<0 then(i+(n:Int)).toNat else min i.toNat n):Nat):Int)
   rw[if_pos (by decide)];by_cases h:i<0
   ·rw[if_pos h,if_pos h];omega
   ·rw[if_neg h,if_neg h];omega
 unfold X8;have l:=c lo 0 (if(1:Int)>0 then 0 else(n:Int)-1) (by simp);have m:=c hi n (if(1:Int)>0 then(n:Int)else -1) (by simp);refine Eq.trans (b:=vl ((HT.B9 n 0 lo:Nat):Int) ((HT.B9 n n hi:Nat):Int) 1) ?_ ?_
 ·have e:∀a b g j:Int,a=g→b=j→vl a b 1=vl g j 1:=λ_ _ _ _ h h'=>by rw[h,h']
  exact e _ _ _ _ l m
 unfold vl;have e:(if(1:Int)>0 then(if((HT.B9 n 0 lo:Nat):Int)<((HT.B9 n n hi:Nat):Int)then(((HT.B9 n n hi:Nat):Int)-((HT.B9 n 0 lo:Nat):Int)+1-1) / 1 else 0)else(if((HT.B9 n 0 lo:Nat):Int)>((HT.B9 n n hi:Nat):Int)then(((HT.B9 n 0 lo:Nat):Int)-((HT.B9 n n hi:Nat):Int)-1-1) / (-1)else 0)).toNat=HT.B9 n n hi-HT.B9 n 0 lo:=by
  rw[if_pos (by decide)];split<;>omega
 simp only[]at e⊢;rw[e];refine List.map_congr_left λk _=>?_;omega
theorem HA (cs:List Nat)(i k:Nat)(h:i+k≤cs.length):((List.range k).map λm=>i+m).filterMap (cs.toArray[·]?)=(cs.drop i).take k:=by
 rw[List.filterMap_map];refine List.ext_getElem? λj=>?_;have key:∀(k i:Nat),i+k≤cs.length→(List.range k).filterMap (λm=>cs[i+m]?)=(cs.drop i).take k:=by
  intro k;induction k with
  |zero=>intro i _;simp
  |succ k ih=>
   intro i b;rw[List.range_succ,List.filterMap_append,ih i (by omega)];have a:i+k<cs.length:=by omega
   rw[List.take_add_one,List.getElem?_drop];simp[a]
 have e:((λx=>cs.toArray[x]?)∘λm=>i+m)=λm=>cs[i+m]?:=by
  funext m;simp
 rw[e,key k i h]
theorem tZ (n d:Nat)(hd:d≤n)(o:Option Int):HT.B9 n d o≤n:=HT.xX n d hd o
theorem kb {cs:List Nat}{t:Tok}{l u:Option (Int×Tok)}{Q:Value→Shared→Prop}{s:Shared}(g:cs.length≤sizeLine)(h:∀d k,Q (.str (tx (oO cs (l.map (·.1)) (u.map (·.1)))) d) {s with toks:=k}):(sliceMade (tx cs) t l u none).post Q s:=by
 have a:(tx cs).length=cs.length:=du cs;have c:DT (tx cs) l u none=(List.range (HT.B9 cs.length cs.length (u.map (·.1))-HT.B9 cs.length 0 (l.map (·.1)))).map λk=>HT.B9 cs.length 0 (l.map (·.1))+k:=by
  show X8 (l.map (·.1)) (u.map (·.1)) 1 (tx cs).length=_;rw[a,sG]
 have i:=tZ cs.length 0 (u6 _) (l.map (·.1));have j:=tZ cs.length cs.length (g8 _) (u.map (·.1));unfold sliceMade;by_cases b:(((none:Option (Int×Tok)).map (·.1)).getD 1==1&&(DT (tx cs) l u none).length==(tx cs).length)=true
 ·rw[if_pos b];have hl:HT.B9 cs.length cs.length (u.map (·.1))-HT.B9 cs.length 0 (l.map (·.1))=cs.length:=by
   rw[k6]at b;have q:=eq_of_beq b.2;rw[c,a,List.length_map,List.length_range]at q;exact q
  have e:oO cs (l.map (·.1)) (u.map (·.1))=cs:=by
   unfold oO;rw[hl];by_cases f:cs.length=0
   ·have:cs=[]:=List.length_eq_zero_iff.mp f;subst this;simp
   ·have:HT.B9 cs.length 0 (l.map (·.1))=0:=by omega
    rw[this];simp
  have q:=h t s.toks;rw[e]at q;exact q
 ·rw[if_neg b];have e:(DT (tx cs) l u none).filterMap ((tx cs).cps[·]?)=oO cs (l.map (·.1)) (u.map (·.1)):=by
   rw[c];by_cases m:HT.B9 cs.length 0 (l.map (·.1))≤HT.B9 cs.length cs.length (u.map (·.1))
   ·exact HA cs _ _ (by omega)
   ·have z:HT.B9 cs.length cs.length (u.map (·.1))-HT.B9 cs.length 0 (l.map (·.1))=0:=by omega
    unfold oO;rw[z];simp
  rw[e];refine⟨?_,h _ _⟩;show(oO cs (l.map (·.1)) (u.map (·.1))).toArray.size≤sizeLine;unfold oO;rw[List.size_toArray,List.length_take,List.length_drop];omega
theorem Ew:Ax X (λx lo hi H Q=>∃cs:List Nat,x=.str (tx cs)∧cs.length≤1000000∧Q (.str (tx (oO cs lo hi))) H):=by
 intro pins s σ H x v c d lo hi sl Q I e hs f pu h;obtain⟨cs,rfl,z,q⟩:=h;obtain⟨t,rfl⟩:=e;refine⟨"str",_,F.slot_str_getitem.lookup,GP s (tx cs) t,?_⟩;obtain⟨o,g,m,hd⟩:=hs;have key:∀(l u:Option (Int×Tok)),c=partValue l→d=partValue u→l.map (·.1)=lo→u.map (·.1)=hi→wpAny (model X.prog X.w) X.A (fS (.str (tx cs) t) (.ref sl)) (EP X pins σ Q) X.xe s:=by
  intro l u n p r y;subst n p;refine wpAny_getItem_str_slice (l:=l) (u:=u) (st:=none) ⟨o,g,m,hd⟩ rfl (kb (by rw[u5];omega) λB k=>?_);rw[r,y];exact⟨.str _,H,I.tok k,⟨_,rfl⟩,q⟩
 cases f with
 |none=>
  cases pu with
  |none=>exact key none none rfl rfl rfl rfl
  |int j a=>exact key none (some (j,a)) rfl rfl rfl rfl
 |int i b=>
  cases pu with
  |none=>exact key (some (i,b)) none rfl rfl rfl rfl
  |int j a=>exact key (some (i,b)) (some (j,a)) rfl rfl rfl rfl
theorem all_range (bs:List Bool):(List.range bs.length).all (λi=>bs.getD i false)=bs.all id:=by
 have key:∀(bs pre:List Bool),(List.range' pre.length bs.length).all (λi=>(pre++bs).getD i false)=bs.all id:=by
  intro bs;induction bs with
  |nil=>intro pre;rfl
  |cons b r ih=>
   intro pre;have q:=ih (pre++[b]);rw[List.length_cons,List.range'_succ,List.all_cons,List.all_cons];have e:(pre++b::r).getD pre.length false=b:=by simp
   have a:pre++b::r=(pre++[b])++r:=by simp
   rw[e,a];have c:(pre++[b]).length=pre.length+1:=by simp
   rw[c]at q;rw[q];rfl
 have q:=key bs [];simpa[List.range_eq_range']using q
theorem any_range (bs:List Bool):(List.range bs.length).any (λi=>bs.getD i false)=bs.any id:=by
 have key:∀(bs pre:List Bool),(List.range' pre.length bs.length).any (λi=>(pre++bs).getD i false)=bs.any id:=by
  intro bs;induction bs with
  |nil=>intro pre;rfl
  |cons b r ih=>
   intro pre;have q:=ih (pre++[b]);rw[List.length_cons,List.range'_succ,List.any_cons,List.any_cons];have e:(pre++b::r).getD pre.length false=b:=by simp
   have a:pre++b::r=(pre++[b])++r:=by simp
   rw[e,a];have c:(pre++[b]).length=pre.length+1:=by simp
   rw[c]at q;rw[q];rfl
 have q:=key bs [];simpa[List.range_eq_range']using q
theorem nq {bs:List Bool}{a:List Value}{i:Nat}{v:Value}(r:Vals (bs.map V.bl) a)(h:a[i]?=some v):v=.bool (bs.getD i false):=by
 have hi:i<a.length:=(List.getElem?_eq_some_iff.mp h).1;have hl:=r.length;rw[List.length_map]at hl;have b:i<bs.length:=by omega
 obtain⟨u,c,d⟩:=r.get (i:=i) (x:=V.bl bs[i]) (by simp[b]);rw[h]at c;cases c;have e:bs.getD i false=bs[i]:=by simp[b]
 rw[e];exact d
theorem An (g:X.calm=true):J2 X (.builtin "all") (λxs H Q=>∃(p:Addr) (bs:List Bool),xs=[.ref p]∧P8 X.K H p (bs.map V.bl)∧Q (.bl (bs.all id)) H):=by
 intro pins s σ H xs us Q I r h;obtain⟨p,bs,rfl,j,q⟩:=h;obtain⟨u,rfl,k⟩:=vals1 r;cases k;obtain⟨a,f,d,B⟩:=I.list j;have c:a.toArray.size=bs.length:=by
  rw[List.size_toArray,←f.length,List.length_map]
 have l:p<s.heap.objs.size:=by
  obtain⟨o,m,_⟩:=d.isList;exact Heap.lt_size m
 refine call_all_walk (K3 d.isList ?_);refine⟨s.heap.objs.size,_,_,a.toArray.size,_,_,λi=>bs.getD i false,rfl,Ju (A:=X.A.in1) (I.ok.hd g) s.heap.objs.size p (j7 l) a.toArray,And.intro ⟨_,Heap.get?_push_size _ rfl,rfl,rfl⟩ (d.isList.at λo e=>Heap.get?_push_of_some _ e),λi v s1 E F n t=>?_,λh' w hk=>?_⟩
 ·have x:v=.bool (bs.getD i false):=nq f (by simpa using n);subst x;exact J3 t
 ·rw[c,all_range];refine⟨.bl _,H,I.kept (t':=w) λb o e=>hk b o (λz=>?_) (Heap.get?_push_of_some _ e),rfl,q⟩;have y:b=s.heap.objs.size:=by simpa using z
  subst y;exact absurd (Heap.lt_size e) (n0 _)
theorem Am (g:X.calm=true):J2 X (.builtin "any") (λxs H Q=>∃(p:Addr) (bs:List Bool),xs=[.ref p]∧P8 X.K H p (bs.map V.bl)∧Q (.bl (bs.any id)) H):=by
 intro pins s σ H xs us Q I r h;obtain⟨p,bs,rfl,j,q⟩:=h;obtain⟨u,rfl,k⟩:=vals1 r;cases k;obtain⟨a,f,d,B⟩:=I.list j;have c:a.toArray.size=bs.length:=by
  rw[List.size_toArray,←f.length,List.length_map]
 have l:p<s.heap.objs.size:=by
  obtain⟨o,m,_⟩:=d.isList;exact Heap.lt_size m
 refine call_any_walk (K3 d.isList ?_);refine⟨s.heap.objs.size,_,_,a.toArray.size,_,_,λi=>bs.getD i false,rfl,Ju (A:=X.A.in1) (I.ok.hd g) s.heap.objs.size p (j7 l) a.toArray,And.intro ⟨_,Heap.get?_push_size _ rfl,rfl,rfl⟩ (d.isList.at λo e=>Heap.get?_push_of_some _ e),λi v s1 E F n t=>?_,λh' w hk=>?_⟩
 ·have x:v=.bool (bs.getD i false):=nq f (by simpa using n);subst x;exact J3 t
 ·rw[c,any_range];refine⟨.bl _,H,I.kept (t':=w) λb o e=>hk b o (λz=>?_) (Heap.get?_push_of_some _ e),rfl,q⟩;have y:b=s.heap.objs.size:=by simpa using z
  subst y;exact absurd (Heap.lt_size e) (n0 _)
end
def Def (K:PySem.W.Frag)(mg:Str→Option Value)(x:Str)(st:Stmt)(ps:List Str):Prop:=
 ∃(f:Addr) (fd:FuncData),bo K x x st f fd∧(∀us:List Value,us.length=ps.length→nB fd ⟨us,[]⟩=pure (ps.zip us))∧mg x=some (.ref f)
theorem Ga {K:PySem.W.Frag}{h:Heap}{mg:Str→Option Value}{x:Str}{st:Stmt}{ps:List Str}{f:Addr}{od an:Option Addr}{sl:Array (Option Value)}{oc kV e pm d ct:Value}(X:K.In h)(G:h.Ns l5 mg)
  (a:PySem.W.nsIn K l5 x=some (some (.ref f))) (l:K.lookup f=some ⟨oc,od,.func (PySem.W.fnOf x x (T9 st) (F9 st) (j3 st) .none kV e pm an d ct),sl⟩) (c:PySem.W.codeIn K d x=true) (k:PySem.W.keepIn K (.ref f)=true)
  (b:∀(kV doc pm:Value) (an:Option Addr) (cdv ct:Value) (us:List Value),us.length=ps.length→nB (PySem.W.fnOf x x (T9 st) (F9 st) (j3 st) .none kV doc pm an cdv ct) ⟨us,[]⟩=pure (ps.zip us)):Def K mg x st ps:=
 ⟨f,_,zF (st:=st) l c k,λus hl=>b kV e pm an d ct us hl,PySem.W.mg_of X G a⟩
def eg (P:Program)(w:World)(K:PySem.W.Frag)(mg:Str→Option Value)(base:Heap)(k:Nat)(x:Str)(ps:List Str)(sp:Sp):Prop:=
 ∃(f:Addr) (fd:FuncData),x2 P w K mg base W0 k f fd ps sp∧Binds K fd ps []∧mg x=some (.ref f)∧PySem.W.keepIn K (.ref f)=true
theorem Def.has {P:Program}{w:World}{K:PySem.W.Frag}{mg:Str→Option Value}{base:Heap}{k:Nat}{x:Str}{st:Stmt}{ps:List Str}{sp:Sp}(D:Def K mg x st ps)(h:∀f fd,bo K x x st f fd→x2 P w K mg base W0 k f fd ps sp):eg P w K mg base k x ps sp:=by
 obtain⟨f,fd,F,b,m⟩:=D;exact⟨f,fd,h f fd F,Binds.all b,m,F.kp⟩
def Dp (mg:Str→Option Value)(x:Str)(v:V):Prop:=∃u,mg x=some u∧RelV v u
theorem Gf {K:PySem.W.Frag}{h:Heap}{mg:Str→Option Value}{x:Str}{u:Value}{v:V}(X:K.In h)(G:h.Ns l5 mg)(a:PySem.W.nsIn K l5 x=some (some u))(r:RelV v u):Dp mg x v:=⟨u,PySem.W.mg_of X G a,r⟩
section
variable {X:Cx}{k:Nat}{x:Str}{ps:List Str}{sp:Sp}{e:Expr}{es:List Expr}{t:TA}{p pos:Pos}
theorem HE (h:eg X.prog X.w X.K X.mg X.base k x ps sp)(hr:O6 k X.A)(d:PA X (e::es) t)(g:Gl X x:=by rfl)(a:(x==("__debug__":Str))=false:=by decide)
  (i:f9 (e::es) X.env=(false,eval e X.env)::f9 es X.env:=by rfl) (c:(l8 pos (f9 es X.env)).any (·.1)=false:=by rfl):PE X (.Call (.Name x p) (e::es) [] pos) (xG sp [] E0 t):=by
 obtain⟨f,fd,F,b,m,kp⟩:=h;exact BS F hr g m kp b .nil yA d a i c
theorem Kb {v:V}(h:Dp X.mg x v)(a:Gl X x:=by rfl)(hd:(x==("__debug__":Str))=false:=by decide):PE X (.Name x pos) (tC v):=by
 obtain⟨u,m,r⟩:=h;exact BP a m r hd
theorem LV {n:String}(a:X.mg x=none)(b:K4 x=some (.type n))(c:Gl X x:=by rfl)(d:x≠"__name__":=by decide) (hd:(x==("__debug__":Str))=false:=by decide):PE X (.Name x pos) (tC (.ty n)):=BU c a b rfl d hd
end
theorem ao {H:Hp}{p:Addr}(h:H p=none)(o:HO):i8 H (upd H p o):=λb u q=>by rw[j6 (t8 q h)];exact q
theorem i8.tup {K:PySem.W.Frag}{H H':Hp}{a:Addr}{xs:List V}(e:i8 H H')(h:bn K H a xs):bn K H' a xs:=by
 rcases h with(h| ⟨o,h⟩) |h
 ·exact .inl (.inl (e _ _ h))
 ·exact .inl (.inr ⟨o,e _ _ h⟩)
 ·exact .inr h
noncomputable def xL (K:PySem.W.Frag):Sp:=λvs H Q _=>∃(a:Addr) (ns:List Int),vs=[.ref a]∧P8 K H a (ns.map V.int)∧ns.length≤63∧∀H',Q (.bl true) H'
theorem Fx {P:Program}{w:World}{K:PySem.W.Frag}{mg:Str→Option Value}{a:Addr}{k:Nat}{st:Stmt}{x n:Str}{sp:Sp}(D:Def K mg n st [x])(c:mg n=some (.ref a))
  (h:∀f fd,bo K n n st f fd→∀base:Heap,K.In base→base.Ns l5 mg→x2 P w K mg base W0 k f fd [x] sp):
  ∃fd:FuncData,(∀(s:Shared) (u:Value),tP s fd ⟨[u],[]⟩ [(x,u)])∧∀base:Heap,K.In base→base.Ns l5 mg→x2 P w K mg base W0 k a fd [x] sp:=by
 obtain⟨f,fd,F,b,m⟩:=D;have e:a=f:=by
  have e:=i9 (c.symm.trans m);injection e
 subst e;exact⟨fd,λs u=>.of_eq (b [u] rfl),h a fd F⟩
noncomputable def iV (ns:List Int)(k:Int):Int:=if ns.isEmpty then 0 else ns.getD (k % (ns.length:Int)).toNat 0
noncomputable def B6 (ns:List Int)(k:Int):Int:=
 ((iV ns k+104729*(k+1)) % 4294967291*48271 % 4294967279 / 64*69621+(iV ns k+104729*(k+1)) % 4294967291*48271 % 4294967279) % 4294967231
theorem Df {ns:List Int}{k:Int}(h:ns≠[]):fN (ns.map V.int) (k % ((ns.map V.int).length:Int))=some (.int (iV ns k)):=by
 have hl:0<ns.length:=List.length_pos_iff.mpr h;have c:0≤k % (ns.length:Int):=y8 _ (by omega);have d:k % (ns.length:Int)<ns.length:=v9 _ (by omega);rw[List.length_map];have e:k % (ns.length:Int)=(((k % (ns.length:Int)).toNat:Nat):Int):=by omega
 rw[e];refine oY ?_;rw[List.getElem?_map,List.getElem?_eq_getElem (by omega)];unfold iV;have b:ns.isEmpty=false:=by cases ns with
  |nil=>exact absurd rfl h
  |cons a r=>rfl
 rw[b];simp only[AI,if_false,r8,ft,V.int.injEq];rw[List.getD_eq_getElem?_getD,List.getElem?_eq_getElem (by omega)];rfl
section
variable {X:Cx}
theorem lm (G:X.calm=true):J2 X (.type "list") (λxs H Q=>∃a kvs,xs=[.ref a]∧Rd H a (.dK kvs)∧∀p,H p=none→Q (.ref p) (upd H p (.lst (kvs.map λkv=>kV kv.1)))):=by
 intro pins s σ H xs us Q I r h;obtain⟨a,kvs,rfl,J,q⟩:=h;obtain⟨u,rfl,L⟩:=vals1 r;cases L;obtain⟨z,N,vs,g,O⟩:=S2 I.hok J;obtain⟨ep,l⟩:=O.dictAt;have B:=g.length;refine PySem.W.kdl_call (PySem.W.kdl_dict (knd:=u1 X.prog X.w) (kvs:=vs) (ep:=ep) N) (I.ok.hd G) l (by omega) λh' P d c kp e b=>?_;refine⟨.ref s.heap.objs.size,_,I.laid (a:=s.heap.objs.size) (o:=.lst (kvs.map λkv=>kV kv.1)) (t':=P) kp (g8 _) ?_,rfl,q _ I.fresh⟩;refine⟨by rw[List.length_map];exact z,d.toList,c,?_,by simpa using e⟩;have R:d.toList.length=vs.length:=by rw[C1];exact b.1
 have key:∀(m:List (Key×V)) (us:List (Key×Value)) (f:List Value),KV m us→f.length=us.length→(∀(j:Nat) v,f[j]?=some v→∃k x,us[j]?=some (k,x)∧(u1 X.prog X.w).is k v=true)→Vals (m.map λkv=>kV kv.1) f:=by
  intro m us f E;unfold KV at E;induction E generalizing f with
  |nil=>
   intro hl _;have:f=[]:=List.length_eq_zero_iff.mp hl;subst this;exact .nil
  | @cons p q ps qs n _ ih=>
   intro hl F;cases f with
   |nil=>simp at hl
   |cons v r=>
    obtain⟨k,x,S,T⟩:=F 0 v rfl;have U:q=(k,x):=i9 S;refine .cons ?_ (ih r (by simpa using hl) λj Y A=>F (j+1) Y A);have Z:p.1=k:=by rw[n.1,U]
    show RelV (kV p.1) v;rw[Z];have e5:gL k v=true:=T;rcases x3 e5 with⟨i,t,rfl,rfl⟩ | ⟨y,t,rfl,rfl⟩
    ·exact⟨t,rfl⟩
    ·exact⟨t,rfl⟩
 exact key kvs vs d.toList g R λj v hv=>b.2 j v (by rw[←X6];exact hv)
end
section
variable {X:Cx}{K:PySem.W.Frag}
theorem xh (b:X.K=K):J2 X (.builtin "len") (λxs H Q=>∃p a,xs=[.ref p]∧(P8 K H p a∨bn K H p a)∧Q (.int a.length) H):=by subst b;exact oW
theorem qA (a:X.K=K):Az X (ED K):=by subst a;exact Cs
theorem uA (a:X.K=K):Az X (EC K):=by subst a;exact FD
theorem xk (a:X.K=K)(b:X.calm=true):J2 X (.builtin "all") (λxs H Q=>∃(p:Addr) (bs:List Bool),xs=[.ref p]∧P8 K H p (bs.map V.bl)∧Q (.bl (bs.all id)) H):=by subst a;exact An b
theorem xj (a:X.K=K)(b:X.calm=true):J2 X (.builtin "any") (λxs H Q=>∃(p:Addr) (bs:List Bool),xs=[.ref p]∧P8 K H p (bs.map V.bl)∧Q (.bl (bs.any id)) H):=by subst a;exact Am b
end
end L2
namespace L3
open PySem PySem.Spec PyProof.Rows L2
noncomputable abbrev St:=L2.St
inductive D where
 |v1|bl (b:Bool) |int (i:Int) |str (cs:List Nat) |ty (n:String)
 |tup (xs:List D) |lst (xs:List D) |dct (kvs:List (Key×D))
instance:Inhabited D:=⟨.v1⟩
inductive Rep (K:PySem.W.Frag) (G:Hp):V→D→Prop
 |v1:Rep K G .v1 .v1
 |bl (b:Bool):Rep K G (.bl b) (.bl b)
 |int (i:Int):Rep K G (.int i) (.int i)
 |str (cs:List Nat):Rep K G (.str (tx cs)) (.str cs)
 |ty (n:String):Rep K G (.ty n) (.ty n)
 |tup {a:Addr} {xs:List V} {ds:List D} (h:bn K G a xs) (hl:xs.length=ds.length) (hr:∀(j:Nat) x d,xs[j]?=some x→ds[j]?=some d→Rep K G x d):Rep K G (.ref a) (.tup ds)
 |lst {a:Addr} {xs:List V} {ds:List D} (h:P8 K G a xs) (hl:xs.length=ds.length) (hr:∀(j:Nat) x d,xs[j]?=some x→ds[j]?=some d→Rep K G x d):Rep K G (.ref a) (.lst ds)
 |dct {a:Addr} {kvs:List (Key×V)} {es:List (Key×D)} (h:Rd G a (.dK kvs)) (hk:kvs.map (·.1)=es.map (·.1)) (hr:∀(j:Nat) p e,kvs[j]?=some p→es[j]?=some e→Rep K G p.2 e.2):Rep K G (.ref a) (.dct es)
theorem Rd.same {G G':Hp}{a:Addr}{u:HO}(s:i8 G G')(h:Rd G a u):Rd G' a u:=by
 rcases h with h| ⟨o,h⟩
 ·exact .inl (s _ _ h)
 ·exact .inr ⟨o,s _ _ h⟩
theorem _root_.L2.dm.r {H:Hp}{a:Addr}{kvs:List (Key×V)}{k:Key}(e:Rd H a (.dK kvs)):dm H a (kV k) (dt kvs k):=.inl ⟨kvs,k,e,rfl,rfl⟩
theorem Rep.same {K:PySem.W.Frag}{G G':Hp}(s:i8 G G'){v:V}{d:D}(h:Rep K G v d):Rep K G' v d:=by
 induction h with
 |v1=>exact .v1
 |bl b=>exact .bl b
 |int i=>exact .int i
 |str cs=>exact .str cs
 |ty n=>exact .ty n
 |tup h hl _ ih=>exact .tup (s.tup h) hl ih
 |lst h hl _ ih=>exact .lst (s.seq h) hl ih
 |dct h hk _ ih=>exact .dct (L3.Rd.same s h) hk ih
structure n9 (K:PySem.W.Frag) (G:Hp) (xs:List V) (ds:List D):Prop where
 len:xs.length=ds.length
 get:∀(j:Nat) x d,xs[j]?=some x→ds[j]?=some d→Rep K G x d
structure m3 (K:PySem.W.Frag) (G:Hp) (kvs:List (Key×V)) (es:List (Key×D)):Prop where
 keys:kvs.map (·.1)=es.map (·.1)
 get:∀(j:Nat) p e,kvs[j]?=some p→es[j]?=some e→Rep K G p.2 e.2
section
variable {K:PySem.W.Frag}{G G' H:Hp}
theorem n9.same (s:i8 G G'){xs:List V}{ds:List D}(h:n9 K G xs ds):n9 K G' xs ds:=⟨h.len,λj x d a b=>(h.get j x d a b).same s⟩
theorem m3.same (s:i8 G G'){kvs:List (Key×V)}{es:List (Key×D)}(h:m3 K G kvs es):m3 K G' kvs es:=⟨h.keys,λj x d a b=>(h.get j x d a b).same s⟩
theorem n9.nil:n9 K G [] []:=⟨rfl,λj x d h=>by simp at h⟩
theorem n9.cons {x:V}{d:D}{xs:List V}{ds:List D}(h:Rep K G x d)(r:n9 K G xs ds):n9 K G (x::xs) (d::ds):=by
 refine⟨by simp[r.len],λj y e a b=>?_⟩;cases j with
 |zero=>simp at a b;subst a b;exact h
 |succ j=>exact r.get j y e (by simpa using a) (by simpa using b)
theorem n9.head {x:V}{d:D}{xs:List V}{ds:List D}(r:n9 K G (x::xs) (d::ds)):Rep K G x d:=r.get 0 x d rfl rfl
theorem n9.tail {x:V}{d:D}{xs:List V}{ds:List D}(r:n9 K G (x::xs) (d::ds)):n9 K G xs ds:=⟨by have:=r.len;simpa using this,λj y e a b=>r.get (j+1) y e (by simpa using a) (by simpa using b)⟩
theorem n9.append {xs c:List V}{ds es:List D}(h:n9 K G xs ds)(r:n9 K G c es):n9 K G (xs++c) (ds++es):=by
 refine⟨by simp[h.len,r.len],λj x d a b=>?_⟩;by_cases e:j<xs.length
 ·rw[List.getElem?_append_left e]at a;rw[List.getElem?_append_left (by rw[←h.len];exact e)]at b;exact h.get j x d a b
 ·rw[List.getElem?_append_right (by omega)]at a;rw[List.getElem?_append_right (by rw[←h.len];omega),←h.len]at b;exact r.get _ x d a b
theorem n9.one {x:V}{d:D}(h:Rep K G x d):n9 K G [x] [d]:=.cons h .nil
theorem n9.at {xs:List V}{ds:List D}(h:n9 K G xs ds){j:Nat}{d:D}(e:ds[j]?=some d):∃x,xs[j]?=some x∧Rep K G x d:=by
 have a:j<xs.length:=by rw[h.len];exact(List.getElem?_eq_some_iff.mp e).1
 exact⟨xs[j],by simp[a],h.get j _ d (by simp[a]) e⟩
theorem n9.Kp {xs:List V}{ds:List D}(h:n9 K G xs ds){j:Nat}{x:V}(e:xs[j]?=some x):∃d,ds[j]?=some d∧Rep K G x d:=by
 have a:j<ds.length:=by rw[←h.len];exact(List.getElem?_eq_some_iff.mp e).1
 exact⟨ds[j],by simp[a],h.get j x _ e (by simp[a])⟩
theorem n9.take {xs:List V}{ds:List D}(h:n9 K G xs ds)(n:Nat):n9 K G (xs.take n) (ds.take n):=by
 refine⟨by simp[h.len],λj x d a b=>?_⟩;rw[List.getElem?_take]at a b;by_cases c:j<n
 ·rw[if_pos c]at a b;exact h.get j x d a b
 ·rw[if_neg c]at a;cases a
theorem n9.drop {xs:List V}{ds:List D}(h:n9 K G xs ds)(n:Nat):n9 K G (xs.drop n) (ds.drop n):=by
 refine⟨by simp[h.len],λj x d a b=>?_⟩;rw[List.getElem?_drop]at a b;exact h.get _ x d a b
theorem n9.set {xs:List V}{ds:List D}{x:V}{d:D}(h:n9 K G xs ds)(i:Rep K G x d)(n:Nat):n9 K G (xs.set n x) (ds.set n d):=by
 refine⟨by simp[h.len],λj y e a b=>?_⟩;by_cases g:n=j
 ·subst g;rw[List.getElem?_set_self']at a b;cases c:xs[n]? with
  |none=>rw[c]at a;simp at a
  |some _=>
   cases f:ds[n]? with
   |none=>rw[f]at b;simp at b
   |some _=>
    rw[c]at a;rw[f]at b;simp at a b;subst a b;exact i
 ·rw[List.getElem?_set_ne g]at a b;exact h.get j y e a b
theorem n9.gB (ns:List Int):n9 K G (ns.map V.int) (ns.map D.int):=by
 refine⟨by simp,λj x d a b=>?_⟩;rw[List.getElem?_map]at a b;cases h:ns[j]? with
 |none=>rw[h]at a;cases a
 |some n=>rw[h]at a b;cases a;cases b;exact .int n
end
inductive C where
 |sh (d:D) |ow (l:Bool) (d:D) |fz (es:List (Key×D)) |ob (l:Bool) (fds:List (Str×D)) |rd (fds:List (Str×D))
noncomputable def FF:C→Bool
 |.ob _ _=>true
 |.rd _=>true
 |_=>false
noncomputable abbrev k0:=List (Option C)
inductive W where
 |val (d:D) |slot (i:Nat) |own (d:D)
structure Bs where
 K:PySem.W.Frag
 H0:Hp
 HK:Hp
 G0:Hp
 L:Nat→Option Addr
 O:Option (Nat×Nat×Addr):=none
noncomputable def Bs.gh (B:Bs)(i:Nat):Bool:=match B.O with
 |some (_,j,_)=>decide (i=j)
 |none=>false
noncomputable def IF (B:Bs)(i:Nat):Bool→Addr→Prop
 |true,p=>B.L i=some p∨(B.gh i=true∧B.L i=none∧B.H0 p=none)
 |false,p=>B.H0 p=none
noncomputable def A6 (K:PySem.W.Frag)(G H:Hp)(p:Addr):D→Prop
 |.lst ds=>∃xs,H p=some (.lst xs)∧n9 K G xs ds
 |.dct es=>∃kvs,H p=some (.dK kvs)∧m3 K G kvs es
 |_=>False
theorem A6.some {K:PySem.W.Frag}{G H:Hp}{p:Addr}{d:D}(h:A6 K G H p d):∃o,H p=some o:=by
 cases d with
 |lst ds=>obtain⟨xs,e,_⟩:=h;exact⟨_,e⟩
 |dct es=>obtain⟨xs,e,_⟩:=h;exact⟨_,e⟩
 |_=>exact(show False from h).elim
theorem A6.same {K:PySem.W.Frag}{G G' H H':Hp}{p:Addr}{d:D}(s:i8 G G')(e:H' p=H p)(h:A6 K G H p d):A6 K G' H' p d:=by
 cases d with
 |lst ds=>obtain⟨xs,q,r⟩:=h;exact⟨xs,by rw[e];exact q,r.same s⟩
 |dct es=>obtain⟨xs,q,r⟩:=h;exact⟨xs,by rw[e];exact q,r.same s⟩
 |_=>exact(show False from h).elim
def FZ (K:PySem.W.Frag)(G:Hp)(σ:St)(ρ:k0):Prop:=∀(i:Nat) es,ρ[i]?=some (some (.fz es))→∃a o kvs,σ[i]?=some (some (.ref a))∧G a=some (.cn o (.dK kvs))∧m3 K G kvs es
theorem FZ.same {K:PySem.W.Frag}{G G':Hp}{σ:St}{ρ:k0}(h:FZ K G σ ρ)(s:i8 G G'):FZ K G' σ ρ:=λi es e=>by
 obtain⟨a,o,kvs,b,c,d⟩:=h i es e;exact⟨a,o,kvs,b,s _ _ c,d.same s⟩
theorem FZ.jd {K:PySem.W.Frag}{G:Hp}{σ:St}{ρ:k0}{i:Nat}{c:Option C}(h:FZ K G σ ρ)(a:∀es,c≠some (.fz es)):FZ K G σ (ρ.set i c):=λj es e=>by
 by_cases z:i=j
 ·subst z;rw[List.getElem?_set_self']at e;cases q:ρ[i]? with
  |none=>rw[q]at e;cases e
  |some b=>rw[q]at e;exact absurd (i9 e) (a es)
 ·rw[List.getElem?_set_ne z]at e;exact h j es e
theorem FZ.pQ {K:PySem.W.Frag}{G:Hp}{σ:St}{ρ:k0}{i:Nat}{c:Option C}{v:Option V}(h:FZ K G σ ρ)(a:∀es,c≠some (.fz es)):FZ K G (σ.set i v) (ρ.set i c):=λj es e=>by
 by_cases z:i=j
 ·subst z;rw[List.getElem?_set_self']at e;cases q:ρ[i]? with
  |none=>rw[q]at e;cases e
  |some b=>rw[q]at e;exact absurd (i9 e) (a es)
 ·rw[List.getElem?_set_ne z]at e⊢;exact h j es e
noncomputable def S5:Str:="table"
def M8 (K:PySem.W.Frag)(G:Hp)(fs:List (Str×V))(fds:List (Str×D)):Prop:=Paired (λ(p:Str×V) (q:Str×D)=>p.1=q.1∧(p.1≠S5→Rep K G p.2 q.2)) fs fds
theorem M8.same {K:PySem.W.Frag}{G G':Hp}(s:i8 G G'){fs:List (Str×V)}{fds:List (Str×D)}(h:M8 K G fs fds):M8 K G' fs fds:=Paired.yN h λ_ _ z=>⟨z.1,λn=>(z.2 n).same s⟩
def OB (B:Bs)(G H:Hp)(σ:St)(ρ:k0):Prop:=(∀(i:Nat) l fds,ρ[i]?=some (some (.ob l fds))→∃j C p dx fs,B.O=some (i,j,C)∧σ[i]?=some (some (.ref p))∧G p=none∧B.HK p=none∧((l=true→B.L i=some p)∧(l=false→B.H0 p=none))∧
 H p=some (.ins C dx fs)∧M8 B.K G fs fds∧∀v,fs.lookup S5=some v→∀d,ρ[j]?=some (some (.ow true d))→σ[j]?=some (some v))∧
 ∀(i:Nat) fds,ρ[i]?=some (some (.rd fds))→∃a b C p dx fs,B.O=some (a,b,C)∧σ[i]?=some (some (.ref p))∧B.HK p=some (.ins C dx fs)∧M8 B.K G fs fds
theorem OB.to {B:Bs}{G H G' H':Hp}{σ a:St}{ρ ρ':k0}(h:OB B G H σ ρ)(s:i8 G G')(r:∀p C dx fs,H p=some (.ins C dx fs)→G p=none→G' p=none)(t:∀p C dx fs,H p=some (.ins C dx fs)→B.HK p=none→G p=none→H' p=some (.ins C dx fs))
  (o:∀(i:Nat) c,FF c=true→ρ'[i]?=some (some c)→ρ[i]?=some (some c)∧a[i]?=σ[i]?) (u:∀(j:Nat) d,ρ'[j]?=some (some (.ow true d))→(∃g,ρ[j]?=some (some (.ow true g)))∧a[j]?=σ[j]?):OB B G' H' a ρ':=by
 refine⟨λi l fds e=>?_,λi fds e=>?_⟩
 ·obtain⟨k,es⟩:=o i _ rfl e;obtain⟨j,C,p,dx,fs,m,n,b,f,w,q,x,y⟩:=h.1 i l fds k;refine⟨j,C,p,dx,fs,m,by rw[es];exact n,r _ _ _ _ q b,f,w,t _ _ _ _ q f b,x.same s,λv z d hd=>?_⟩;obtain⟨⟨g,A⟩,E⟩:=u j d hd;rw[E];exact y v z g A
 ·obtain⟨k,es⟩:=o i _ rfl e;obtain⟨F,j,C,p,dx,fs,m,n,b,f⟩:=h.2 i fds k;exact⟨F,j,C,p,dx,fs,m,by rw[es];exact n,b,f.same s⟩
theorem OB.gh {B:Bs}{G H G' H':Hp}{σ:St}{ρ:k0}(h:OB B G H σ ρ)(s:i8 G G')(a:∀p C dx fs,H p=some (.ins C dx fs)→G p=none→G' p=none)(b:∀p C dx fs,H p=some (.ins C dx fs)→B.HK p=none→G p=none→H' p=some (.ins C dx fs)):OB B G' H' σ ρ:=
 h.to s a b (λ_ _ _ e=>⟨e,rfl⟩) λ_ d e=>⟨⟨d,e⟩,rfl⟩
theorem OB.re {B:Bs}{G H:Hp}{σ:St}{ρ ρ':k0}(h:OB B G H σ ρ)(a:∀(i:Nat) c,FF c=true→ρ'[i]?=some (some c)→ρ[i]?=some (some c))(b:∀(j:Nat) d,ρ'[j]?=some (some (.ow true d))→∃f,ρ[j]?=some (some (.ow true f))):OB B G H σ ρ':=
 h.to (i8.refl _) (λ_ _ _ _ _ g=>g) (λ_ _ _ _ e _ _=>e) (λi c z e=>⟨a i c z e,rfl⟩) λj d e=>⟨b j d e,rfl⟩
theorem Q9 {ρ:k0}{i j:Nat}{c:Option C}{x:C}(e:(ρ.set i c)[j]?=some (some x)):(i=j∧c=some x)∨(i≠j∧ρ[j]?=some (some x)):=by
 by_cases z:i=j
 ·subst z;rw[List.getElem?_set_self']at e;cases q:ρ[i]? with
  |none=>rw[q]at e;cases e
  |some a=>rw[q]at e;exact .inl ⟨rfl,i9 e⟩
 ·rw[List.getElem?_set_ne z]at e;exact .inr ⟨z,e⟩
theorem OB.jd {B:Bs}{G H:Hp}{σ:St}{ρ:k0}{i:Nat}{c:Option C}(h:OB B G H σ ρ)(b:∀x,c=some x→FF x=false)(f:∀d,c=some (.ow true d)→∃g,ρ[i]?=some (some (.ow true g))):OB B G H σ (ρ.set i c):=by
 refine h.re (λj x z e=>?_) λj d e=>?_
 ·rcases Q9 e with⟨_,a⟩ | ⟨_,a⟩
  ·rw[b x a]at z;cases z
  ·exact a
 ·rcases Q9 e with⟨z,a⟩ | ⟨_,a⟩
  ·subst z;exact f d a
  ·exact⟨d,a⟩
theorem OB.pQ {B:Bs}{G H:Hp}{σ:St}{ρ:k0}{i:Nat}{c:Option C}{v:Option V}(h:OB B G H σ ρ)(b:∀x,c=some x→FF x=false)(f:∀d,c≠some (.ow true d)):OB B G H (σ.set i v) (ρ.set i c):=by
 refine h.to (i8.refl _) (λ_ _ _ _ _ g=>g) (λ_ _ _ _ e _ _=>e) (λj x z e=>?_) λj d e=>?_
 ·rcases Q9 e with⟨_,a⟩ | ⟨n,a⟩
  ·rw[b x a]at z;cases z
  ·exact⟨a,List.getElem?_set_ne n⟩
 ·rcases Q9 e with⟨_,a⟩ | ⟨n,a⟩
  ·exact absurd a (f d)
  ·exact⟨⟨d,a⟩,List.getElem?_set_ne n⟩
theorem aV {K:PySem.W.Frag}{G H:Hp}{p q:Addr}{d:D}{C dx:Addr}{fs:List (Str×V)}(o:A6 K G H q d)(h:H p=some (.ins C dx fs)):p≠q:=by
 rintro rfl
 cases d with
 |lst ds=>obtain⟨xs,e,_⟩:=o;rw[h]at e;cases e
 |dct es=>obtain⟨xs,e,_⟩:=o;rw[h]at e;cases e
 |_=>exact(show False from o).elim
structure RS (B:Bs) (G H:Hp) (σ:St) (ρ:k0):Prop where
 hk:i8 B.HK B.H0
 keep:i8 B.HK H
 g0:i8 B.G0 G
 gH:i8 G H
 gnew:∀p o,G p=some o→B.G0 p=some o∨B.H0 p=none
 dom:∀p,H p=none→B.H0 p=none
 len:σ.length=ρ.length
 sh:∀(i:Nat) d,ρ[i]?=some (some (.sh d))→∃v,σ[i]?=some (some v)∧Rep B.K G v d
 ow:∀(i:Nat) l d,ρ[i]?=some (some (.ow l d))→∃p,σ[i]?=some (some (.ref p))∧G p=none∧B.HK p=none∧IF B i l p∧A6 B.K G H p d
 inj:∀(i j:Nat) l d k e p,ρ[i]?=some (some (.ow l d))→ρ[j]?=some (some (.ow k e))→σ[i]?=some (some (.ref p))→σ[j]?=some (some (.ref p))→i=j
 fz:FZ B.K G σ ρ
 ob:OB B G H σ ρ
noncomputable def E2 (B:Bs)(G H:Hp)(σ:St)(ρ:k0)(v:V):W→Prop
 |.val d=>Rep B.K G v d
 |.slot i=>σ[i]?=some (some v)
 |.own d=>∃p,v=.ref p∧G p=none∧B.H0 p=none∧A6 B.K G H p d∧∀(i:Nat) l e,ρ[i]?=some (some (.ow l e))→σ[i]?≠some (some (.ref p))
def N9 (K:PySem.W.Frag)(G H:Hp)(v:V)(d:D):Prop:=Rep K G v d∨∃p,v=.ref p∧A6 K G H p d
section
variable {K:PySem.W.Frag}{G H:Hp}{v:V}
theorem N9.int {i:Int}(h:N9 K G H v (.int i)):v=.int i:=by
 rcases h with h| ⟨p,_,h⟩
 ·cases h;rfl
 ·exact(show False from h).elim
theorem N9.bl {b:Bool}(h:N9 K G H v (.bl b)):v=.bl b:=by
 rcases h with h| ⟨p,_,h⟩
 ·cases h;rfl
 ·exact(show False from h).elim
theorem N9.v1 (h:N9 K G H v .v1):v=.v1:=by
 rcases h with h| ⟨p,_,h⟩
 ·cases h;rfl
 ·exact(show False from h).elim
theorem N9.ty {n:String}(h:N9 K G H v (.ty n)):v=.ty n:=by
 rcases h with h| ⟨p,_,h⟩
 ·cases h;rfl
 ·exact(show False from h).elim
theorem N9.str {cs:List Nat}(h:N9 K G H v (.str cs)):v=.str (tx cs):=by
 rcases h with h| ⟨p,_,h⟩
 ·cases h;rfl
 ·exact(show False from h).elim
theorem N9.tup {ds:List D}(g:i8 G H)(h:N9 K G H v (.tup ds)):∃a xs,v=.ref a∧bn K H a xs∧n9 K G xs ds:=by
 rcases h with h| ⟨p,_,h⟩
 ·cases h with
  |tup h hl hr=>exact⟨_,_,rfl,g.tup h,hl,hr⟩
 ·exact(show False from h).elim
theorem N9.lst {ds:List D}(g:i8 G H)(h:N9 K G H v (.lst ds)):∃a xs,v=.ref a∧P8 K H a xs∧n9 K G xs ds:=by
 rcases h with h| ⟨p,rfl,xs,e,r⟩
 ·cases h with
  |lst h hl hr=>exact⟨_,_,rfl,g.seq h,hl,hr⟩
 ·exact⟨p,xs,rfl,P8.of e,r⟩
theorem N9.dct {es:List (Key×D)}(g:i8 G H)(h:N9 K G H v (.dct es)):∃a kvs,v=.ref a∧Rd H a (.dK kvs)∧m3 K G kvs es:=by
 rcases h with h| ⟨p,rfl,xs,e,r⟩
 ·cases h with
  |dct h hk hr=>exact⟨_,_,rfl,L3.Rd.same g h,hk,hr⟩
 ·exact⟨p,xs,rfl,.inl e,r⟩
end
noncomputable def getD (w:W)(ρ:k0):Option D:=match w with
 |.val d=>some d
 |.own d=>some d
 |.slot i=>match ρ[i]? with
  |some (some (.sh d))=>some d
  |some (some (.ow _ d))=>some d
  |some (some (.fz es))=>some (.dct es)
  |_=>none
section
variable {B:Bs}{G G' H H':Hp}{σ:St}{ρ:k0}{v:V}{w:W}{d:D}
theorem E2.get (R:RS B G H σ ρ)(h:E2 B G H σ ρ v w)(e:getD w ρ=some d):N9 B.K G H v d:=by
 cases w with
 |val c=>cases e;exact .inl h
 |own c=>
  cases e;obtain⟨p,rfl,_,_,o,_⟩:=h;exact .inr ⟨p,rfl,o⟩
 |slot i=>
  have h':σ[i]?=some (some v):=h;unfold getD at e;simp only[]at e;split at e
  ·rename_i c q;cases e;obtain⟨j,b,r⟩:=R.sh i _ q;rw[h']at b;cases b;exact .inl r
  ·rename_i l c q;cases e;obtain⟨p,b,_,_,_,o⟩:=R.ow i _ _ q;rw[h']at b;cases b;exact .inr ⟨p,rfl,o⟩
  ·rename_i es q;cases e;obtain⟨a,o,kvs,b,g,f⟩:=R.fz i _ q;rw[h']at b;cases b;exact .inl (.dct (.inr ⟨o,g⟩) f.keys f.get)
  ·cases e
theorem E2.same {ρ':k0}(s:i8 G G')(h:E2 B G H σ ρ v w)(a:∀d,w≠.own d):E2 B G' H' σ ρ' v w:=by
 cases w with
 |val d=>exact Rep.same s h
 |slot i=>exact h
 |own d=>exact absurd rfl (a d)
theorem RS.cn {p:Addr}{d:D}(R:RS B G H σ ρ)(g:G p=none)(k:B.H0 p=none)(o:A6 B.K G H p d)(ne:∀(i:Nat) l e,ρ[i]?=some (some (.ow l e))→σ[i]?≠some (some (.ref p))):
  ∃G',i8 G G'∧RS B G' H σ ρ∧Rep B.K G' (.ref p) d:=by
 obtain⟨ob,a⟩:=o.some;have s:i8 G (upd G p ob):=ao g ob;refine⟨upd G p ob,s,⟨R.hk,R.keep,R.g0.trans s,?_,?_,R.dom,R.len,?_,?_,R.inj,R.fz.same s,R.ob.gh s (λq _ _ _ m n=>by rw[j6 (aV o m)];exact n) λ_ _ _ _ e _ _=>e⟩,?_⟩
 ·intro b u q;by_cases e:b=p
  ·subst e;rw[l9]at q;cases q;exact a
  ·rw[j6 e]at q;exact R.gH b u q
 ·intro b u q;by_cases e:b=p
  ·subst e;exact .inr k
  ·rw[j6 e]at q;exact R.gnew b u q
 ·intro i f q;obtain⟨v,h,r⟩:=R.sh i f q;exact⟨v,h,r.same s⟩
 ·intro i l f q;obtain⟨j,h,t,w,x,y⟩:=R.ow i l f q;have e:j≠p:=λz=>ne i l f q (by rw[h,z]);exact⟨j,h,by rw[j6 e];exact t,w,x,y.same s rfl⟩
 ·cases d with
  |lst ds=>
   obtain⟨xs,e,r⟩:=o;rw[e]at a;cases a;have c:=r.same s;exact .lst (P8.of l9) c.len c.get
  |dct es=>
   obtain⟨xs,e,r⟩:=o;rw[e]at a;cases a;have c:=r.same s;exact .dct (.inl l9) c.keys c.get
  |_=>exact(show False from o).elim
end
structure Gv where
 cls:Str
 fs:List (Str×D)
inductive R' (α:Type) where
 |ok (a:α) (ρ:k0) |ex (x:Gv) (ρ:k0)
noncomputable abbrev M (α:Type):=k0→Option (R' α)
noncomputable def M.pure {α:Type}(a:α):M α:=λρ=>some (.ok a ρ)
noncomputable def M.bind {α b:Type}(m:M α)(f:α→M b):M b:=λρ=>match m ρ with
 |none=>none
 |some (.ex x ρ')=>some (.ex x ρ')
 |some (.ok a ρ')=>f a ρ'
theorem M.j5 {α b:Type}{m:M α}{f:α→M b}{ρ ρ':k0}{a:α}(h:m ρ=some (.ok a ρ')):M.bind m f ρ=f a ρ':=by unfold M.bind;rw[h]
theorem M.cX {α a:Type}{m:M α}{f:α→M a}{ρ ρ':k0}{x:Gv}(h:m ρ=some (.ex x ρ')):M.bind m f ρ=some (.ex x ρ'):=by unfold M.bind;rw[h]
theorem M.bind_none {α a:Type}{m:M α}{f:α→M a}{ρ:k0}(h:m ρ=none):M.bind m f ρ=none:=by unfold M.bind;rw[h]
noncomputable def D0 (w:W):M D:=λρ=>match w with
 |.val d=>some (.ok d ρ)
 |.own d=>some (.ok d ρ)
 |.slot i=>match ρ[i]? with
  |some (some (.sh d))=>some (.ok d ρ)
  |some (some (.ow false d))=>some (.ok d (ρ.set i (some (.sh d))))
  |some (some (.fz es))=>some (.ok (.dct es) ρ)
  |_=>none
theorem Z0 {w:W}{ρ:k0}{r:R' D}(h:D0 w ρ=some r):∃d ρ',r=.ok d ρ':=by
 unfold D0 at h;cases w with
 |val d=>cases h;exact⟨_,_,rfl⟩
 |own d=>cases h;exact⟨_,_,rfl⟩
 |slot i=>
  simp only[]at h;split at h
  ·cases h;exact⟨_,_,rfl⟩
  ·cases h;exact⟨_,_,rfl⟩
  ·cases h;exact⟨_,_,rfl⟩
  ·cases h
section
variable {B:Bs}{G G' H H':Hp}{σ:St}{ρ ρ':k0}{v:V}{w:W}{d:D}
theorem E2.D0 (R:RS B G H σ ρ)(h:E2 B G H σ ρ v w)(e:L3.D0 w ρ=some (.ok d ρ')):∃G',i8 G G'∧RS B G' H σ ρ'∧Rep B.K G' v d:=by
 unfold L3.D0 at e;cases w with
 |val m=>cases e;exact⟨G,i8.refl G,R,h⟩
 |own m=>
  cases e;obtain⟨p,rfl,g,I,o,ne⟩:=h;exact R.cn g I o ne
 |slot i=>
  have h':σ[i]?=some (some v):=h;simp only[]at e;split at e
  ·rename_i m q;cases e;obtain⟨N,n,r⟩:=R.sh i _ q;rw[h']at n;cases n;exact⟨G,i8.refl G,R,r⟩
  ·rename_i m q;cases e;obtain⟨p,n,x,y,J,o⟩:=R.ow i _ _ q;have hi:i<ρ.length:=(List.getElem?_eq_some_iff.mp q).1;rw[h']at n;cases n
   
   have L:RS B G H σ (ρ.set i none):=by
    refine⟨R.hk,R.keep,R.g0,R.gH,R.gnew,R.dom,by simp[R.len],λj m f=>?_,λj l m f=>?_,λj k l m A u E a b=>?_,R.fz.jd (by intro _ h;cases h),R.ob.jd (by intro _ h;cases h<;>rfl) (by intro _ h;cases h)⟩
    ·by_cases z:i=j
     ·subst z;rw[List.getElem?_set_self hi]at f;cases f
     ·rw[List.getElem?_set_ne z]at f;exact R.sh j m f
    ·by_cases z:i=j
     ·subst z;rw[List.getElem?_set_self hi]at f;cases f
     ·rw[List.getElem?_set_ne z]at f;exact R.ow j l m f
    ·by_cases z:i=j
     ·subst z;rw[List.getElem?_set_self hi]at a;cases a
     ·by_cases t:i=k
      ·subst t;rw[List.getElem?_set_self hi]at b;cases b
      ·rw[List.getElem?_set_ne z]at a;rw[List.getElem?_set_ne t]at b;exact R.inj j k l m A u E a b
   obtain⟨G',s,R',r⟩:=L.cn x J o λj l u f z=>by
    by_cases F:i=j
    ·subst F;rw[List.getElem?_set_self hi]at f;cases f
    ·rw[List.getElem?_set_ne F]at f;exact F (R.inj i j _ _ _ _ p q f h' z)
   refine⟨G',s,⟨R'.hk,R'.keep,R'.g0,R'.gH,R'.gnew,R'.dom,by simp[R.len],λj m f=>?_,λj l m f=>?_,λj k l m A u E a b=>?_,(R.fz.same s).jd (by intro _ h;cases h),R'.ob.re (λj c t e=>?_) λj d e=>?_⟩,r⟩
   ·by_cases z:i=j
    ·subst z;rw[List.getElem?_set_self hi]at f;cases f;exact⟨_,h',r⟩
    ·rw[List.getElem?_set_ne z]at f;exact R'.sh j m (by rw[List.getElem?_set_ne z];exact f)
   ·by_cases z:i=j
    ·subst z;rw[List.getElem?_set_self hi]at f;cases f
    ·rw[List.getElem?_set_ne z]at f;exact R'.ow j l m (by rw[List.getElem?_set_ne z];exact f)
   ·by_cases z:i=j
    ·subst z;rw[List.getElem?_set_self hi]at a;cases a
    ·by_cases t:i=k
     ·subst t;rw[List.getElem?_set_self hi]at b;cases b
     ·rw[List.getElem?_set_ne z]at a;rw[List.getElem?_set_ne t]at b;exact R.inj j k l m A u E a b
   ·by_cases z:i=j
    ·subst z;rw[List.getElem?_set_self hi]at e;cases e;cases t
    ·rw[List.getElem?_set_ne z]at e⊢;exact e
   ·by_cases z:i=j
    ·subst z;rw[List.getElem?_set_self hi]at e;cases e
    ·rw[List.getElem?_set_ne z]at e⊢;exact⟨d,e⟩
  ·rename_i es q;cases e;obtain⟨a,o,kvs,n,x,y⟩:=R.fz i _ q;rw[h']at n;cases n;exact⟨G,i8.refl G,R,.dct (.inr ⟨o,x⟩) y.keys y.get⟩
  ·cases e
theorem RS.ov {p:Addr}{xs:List V}{ds:List D}(R:RS B G H σ ρ)(c:H p=none)(r:n9 B.K G xs ds):∃G',i8 G G'∧RS B G' (upd H p (.tup xs)) σ ρ∧Rep B.K G' (.ref p) (.tup ds):=by
 have g:G p=none:=R.gH.free c;have s:i8 G (upd G p (.tup xs)):=ao g _;have o:i8 H (upd H p (.tup xs)):=ao c _;refine⟨upd G p (.tup xs),s,⟨R.hk,R.keep.trans o,R.g0.trans s,?_,?_,?_,R.len,?_,?_,R.inj,R.fz.same s,R.ob.gh s (λq _ _ _ f y=>by rw[j6 (t8 f c)];exact y) λq _ _ _ f _ _=>o q _ f⟩,.tup (bn.of l9) r.len λj x d a b=>(r.get j x d a b).same s⟩
 ·intro b u q;by_cases e:b=p
  ·subst e;rw[l9]at q⊢;exact q
  ·rw[j6 e]at q⊢;exact R.gH b u q
 ·intro b u q;by_cases e:b=p
  ·subst e;exact .inr (R.dom _ c)
  ·rw[j6 e]at q;exact R.gnew b u q
 ·intro b q;by_cases e:b=p
  ·subst e;exact R.dom _ c
  ·rw[j6 e]at q;exact R.dom b q
 ·intro i h q;obtain⟨v,k,m⟩:=R.sh i h q;exact⟨v,k,m.same s⟩
 ·intro i l h q;obtain⟨t,k,m,z,A,w⟩:=R.ow i l h q;obtain⟨ob,n⟩:=w.some;have e:t≠p:=t8 n c;exact⟨t,k,by rw[j6 e];exact m,z,A,w.same s (j6 e)⟩
theorem RS.heap {p:Addr}{o:HO}(R:RS B G H σ ρ)(a:H p=none):RS B G (upd H p o) σ ρ:=by
 have c:i8 H (upd H p o):=ao a _;refine⟨R.hk,R.keep.trans c,R.g0,R.gH.trans c,R.gnew,?_,R.len,R.sh,?_,R.inj,R.fz,R.ob.gh (i8.refl _) (λ_ _ _ _ _ h=>h) λq _ _ _ j _ _=>c q _ j⟩
 ·intro b q;by_cases e:b=p
  ·subst e;exact R.dom _ a
  ·rw[j6 e]at q;exact R.dom b q
 ·intro i l k q;obtain⟨f,m,n,r,s,g⟩:=R.ow i l k q;obtain⟨ob,d⟩:=g.some;have e:f≠p:=t8 d a;exact⟨f,m,n,r,s,g.same (i8.refl G) (j6 e)⟩
theorem RS.yK {p:Addr}{o:HO}(R:RS B G H σ ρ)(b:H p=none)(h:A6 B.K G (upd H p o) p d):RS B G (upd H p o) σ ρ∧E2 B G (upd H p o) σ ρ (.ref p) (.own d):=by
 refine⟨R.heap b,p,rfl,R.gH.free b,R.dom _ b,h,λi l e q z=>?_⟩;obtain⟨g,c,j,k,m,f⟩:=R.ow i l e q;obtain⟨ob,a⟩:=f.some;rw[c]at z;cases z;rw[b]at a;cases a
theorem RS.cG {p:Addr}{xs:List V}{ds:List D}(R:RS B G H σ ρ)(a:H p=none)(r:n9 B.K G xs ds):RS B G (upd H p (.lst xs)) σ ρ∧E2 B G (upd H p (.lst xs)) σ ρ (.ref p) (.own (.lst ds)):=
 R.yK a ⟨xs,l9,r⟩
theorem RS.ks {p:Addr}{kvs:List (Key×V)}{es:List (Key×D)}(R:RS B G H σ ρ)(a:H p=none)(r:m3 B.K G kvs es):RS B G (upd H p (.dK kvs)) σ ρ∧E2 B G (upd H p (.dK kvs)) σ ρ (.ref p) (.own (.dct es)):=
 R.yK a ⟨kvs,l9,r⟩
theorem RS.write {i:Nat}{l:Bool}{p:Addr}{s:D}{o:HO}(R:RS B G H σ ρ)(hi:ρ[i]?=some (some (.ow l d)))(hs:σ[i]?=some (some (.ref p)))(h:A6 B.K G (upd H p o) p s):
  RS B G (upd H p o) σ (ρ.set i (some (.ow l s))):=by
 obtain⟨Q,t,v,w,E,F⟩:=R.ow i l d hi;rw[hs]at t;cases t;have m:i<ρ.length:=(List.getElem?_eq_some_iff.mp hi).1;refine⟨R.hk,λb u q=>?_,R.g0,λb u q=>?_,R.gnew,λb q=>?_,by simp[R.len],λj e q=>?_,λj k e q=>?_,λj k a b c e f x y=>?_,R.fz.jd (by intro _ h;cases h),(R.ob.gh (i8.refl _) (λ_ _ _ _ _ I=>I) λq _ _ _ A _ _=>by rw[j6 (aV F A)];exact A).jd (by intro _ h;cases h<;>rfl) (by intro S h;cases h;exact⟨_,hi⟩)⟩
 ·rw[j6 (t8 q w)];exact R.keep b u q
 ·rw[j6 (t8 q v)];exact R.gH b u q
 ·by_cases z:b=p
  ·subst z;rw[l9]at q;cases q
  ·rw[j6 z]at q;exact R.dom b q
 ·by_cases z:i=j
  ·subst z;rw[List.getElem?_set_self m]at q;cases q
  ·rw[List.getElem?_set_ne z]at q;exact R.sh j e q
 ·by_cases z:i=j
  ·subst z;rw[List.getElem?_set_self m]at q;cases q;exact⟨p,hs,v,w,E,h⟩
  ·rw[List.getElem?_set_ne z]at q;obtain⟨f,g,n,J,L,N⟩:=R.ow j k e q;have O:f≠p:=λP=>z (R.inj i j _ _ _ _ p hi q hs (by rw[g,P]));exact⟨f,g,n,J,L,N.same (i8.refl G) (j6 O)⟩
 ·by_cases z:i=j
  ·by_cases r:i=k
   ·intro _ _;omega
   ·subst z;rw[List.getElem?_set_ne r]at y;intro g n;exact R.inj i k l d c e f hi y g n
  ·by_cases r:i=k
   ·subst r;rw[List.getElem?_set_ne z]at x;intro g n;exact R.inj j i a b l d f x hi g n
   ·rw[List.getElem?_set_ne z]at x;rw[List.getElem?_set_ne r]at y;exact R.inj j k a b c e f x y
end
structure hA (fs xs:List Addr) (h h':Heap):Prop where
 keep:∀b o,h.get? b=some o→b∉fs→b∉xs→h'.get? b=some o
 slot:∀b o,h.get? b=some o→b∉xs→∃sl,h'.get? b=some {o with slots:=sl}
 there:∀b o,h.get? b=some o→∃o',h'.get? b=some o'
def Av (h:Heap)(e T:Addr)(cls:Value)(dct:Option Addr)(c:Value):Prop:=
 ∃a vs b ts,h.get? e=some a∧a.cls=cls∧a.dict=dct∧a.data=.fields vs∧vs[1]?=some (.ref T)∧T≠e∧h.get? T=some b∧b.data=.fields ts∧ts[3]?=some c
theorem kW (f:Array Value→Array Value)(o:Obj):(Obj.mapFields f o).dict=o.dict:=by
 obtain⟨c,d,a,sl⟩:=o;cases a<;>rfl
section
variable {M:Model}{A:Around}{E:Value→Shared→Prop}{s:Shared}{base:Heap}{env:Env}{outer:List Env}{L e T:Addr}{oe:Obj}{vs:Array Value}{cls fl:Value}{dct:Option Addr}{Q:Unit→Shared→Prop}
theorem zR {head:Value}{f:Bool}(m:A.frames=some (env::outer))(hl:s.heap.FunFrames base (env::outer))(B:env.frame=some L)(w:s.heap.get? e=some oe)(hd:oe.data=.fields vs)(l:1<vs.size)
  (h:∀h' x,hA (frs (env::outer)) [e] s.heap h'→s.heap.get? x=none→Av h' e x oe.cls oe.dict (rawInt L)→Q () {s with heap:=h'}):
  wpAny M A (do let a←frameOf env;let k←entryPlaceOf L f;let b←pz head a .none (rawInt L) .none k;LH (.ref e) 1 b) Q E s:=by
 have n:e∉(env::outer).filterMap (·.frame):=λF=>by
  obtain⟨_,o,y,p⟩:=hl.mem F;rw[w]at y;cases y;exact p vs hd
 refine f7 (wpAny_frameOf_fun m hl B λc hs=>?_);refine f7 (wpAny_entryPlaceOf λk r=>?_);unfold pz newFields;refine f7 (C5 ?_ (r.sizeOk5 _ _ _ _ _));have g:c.get? e=some oe:=(hs.2.1 e n).trans w;generalize z:({cls:=.type "traceback",dict:=none,data:=.fields ([head,.ref L,.none,rawInt L,.none]++(if k.isEmpty then List.replicate 6 Value.none else k)).toArray}:Obj)=O;have t:O.data=.fields ([head,.ref L,.none,rawInt L,.none]++(if k.isEmpty then List.replicate 6 Value.none else k)).toArray:=by rw[←z]
 have u:O.isFreed=false:=by rw[←z];rfl
 have d:=Heap.get?_push_of_some (h:=c) O g;have i:c.objs.size≠e:=r0 (Heap.lt_size g);refine vk d hd l (h _ c.objs.size ?_ ?_ ?_)
 ·have keep:∀b o,b≠e→c.get? b=some o→((c.push O).update e (Obj.mapFields (·.setIfInBounds 1 (Value.ref c.objs.size)))).get? b=some o:=λb o G j=>by
   rw[Heap.get?_update_other _ _ (w5 G)];exact Heap.get?_push_of_some _ j
  refine⟨λb o j H nx=>keep b o (λq=>nx (by simp[q])) ((hs.2.1 b H).trans j),λb o j nx=>?_,λb o j=>?_⟩
  ·obtain⟨sl,v⟩:=hs.2.2 b o j;exact⟨sl,keep b _ (λq=>nx (by simp[q])) v⟩
  ·by_cases q:b=e
   ·subst q;exact⟨_,Heap.get?_update_self _ d (Obj.isFreed_of_fields (Obj.data_mapFields hd _))⟩
   ·obtain⟨sl,v⟩:=hs.2.2 b o j;exact⟨_,keep b _ q v⟩
 ·exact Heap.get?_none_of_le (by rw[hs.1];exact g8 _)
 ·have I:=(Heap.get?_update_other (c.push O) (Obj.mapFields (·.setIfInBounds 1 (Value.ref c.objs.size))) (w5 i)).trans (Heap.get?_push_size c u);refine⟨_,_,O,_,Heap.get?_update_self _ d (Obj.isFreed_of_fields (Obj.data_mapFields hd _)),Obj.cls_mapFields _ _,kW _ _,Obj.data_mapFields hd _,by simp[l],i,I,t,by simp⟩
theorem qx {fs:List Addr}{h:Heap}{T:Addr}{d:Obj}{ts:Array Value}(e:h.get? T=some d)(hd:d.data=.fields ts)(i:Nat)(v:Value):hA fs [T] h (h.update T (Obj.mapFields (·.setIfInBounds i v))):=by
 have a:∀b,b≠T→(h.update T (Obj.mapFields (·.setIfInBounds i v))).get? b=h.get? b:=λb f=>Heap.get?_update_other _ _ (w5 f);refine⟨λb o c _ nx=>(a b λq=>nx (by simp[q])).trans c,λb o c nx=>⟨o.slots,(a b λq=>nx (by simp[q])).trans c⟩,λb o c=>?_⟩;by_cases q:b=T
 ·subst q;exact⟨_,Heap.get?_update_self _ e (Obj.isFreed_of_fields (Obj.data_mapFields hd _))⟩
 ·exact⟨o,(a b q).trans c⟩
theorem kM {l:List Env}{fs xs:List Addr}{h h':Heap}(hl:h.FunFrames base l)(k:hA fs xs h h')(d:∀x∈xs,∀o,h.get? x=some o→∃vs,o.data=.fields vs):h'.FunFrames base l:=
 hl.of_keeps λb o c a=>by
  obtain⟨sl,e⟩:=k.slot b o c λm=>by
   obtain⟨vs,q⟩:=d b m o c;exact a vs q
  exact⟨_,e,rfl⟩
theorem sf (a:A.frames=some (env::outer))(hl:s.heap.FunFrames base (env::outer))(b:env.frame=some L)(c:s.heap.get? e=some oe)(hd:oe.data=.fields vs)(d:vs[1]?=some .none)
  (h:∀h' f,hA (frs (env::outer)) [e] s.heap h'→s.heap.get? f=none→Av h' e f oe.cls oe.dict (rawInt L)→Q () {s with heap:=h'}):wpAny M A (noteFrame (.ref e) env) Q E s:=by
 unfold noteFrame;simp only[b];refine f7 (u4 c hd d ?_);rw[if_neg (by decide)];exact zR a hl b c hd (P2.mp d).1 h
theorem wh (i:A.frames=some (env::outer))(hl:s.heap.FunFrames base (env::outer))(r:env.frame=some L)(F:Av s.heap e T cls dct .none)
  (h:∀h' c,hA (frs (env::outer)) [e,T] s.heap h'→s.heap.get? c=none→Av h' e c cls dct (rawInt L)→Q () {s with heap:=h'}):wpAny M A (noteFrame (.ref e) env) Q E s:=by
 obtain⟨oe,vs,N,ts,t,G,j,hd,u,l,g,a,v⟩:=F;subst G j;unfold noteFrame;simp only[r];refine f7 (u4 t hd u ?_);rw[if_pos (show(Value.ref T != Value.none)=true from by simp)];refine f7 (u4 g a v ?_);rw[if_neg (show¬((Value.none==rawInt L)=true)from by simp[rawInt])];refine f7 (vk g a (P2.mp v).1 ?_);have k:=qx (fs:=frs (env::outer)) g a 3 Value.none;have m:=(Heap.get?_update_other (h:=s.heap) (Obj.mapFields (·.setIfInBounds 3 Value.none)) l).trans t;refine zR (base:=base) i (kM hl k λx w o y=>?_) r m hd (P2.mp u).1 λh' c n H I=>h h' c ⟨?_,?_,?_⟩ ?_ I
 ·rw[List.mem_singleton]at w;subst w;rw[g]at y;cases y;exact⟨ts,a⟩
 ·intro b o f z nx;simp at nx;exact n.keep b o (k.keep b o f z (by simpa using nx.2)) z (by simpa using nx.1)
 ·intro b o f nx;simp at nx;obtain⟨sl,d⟩:=k.slot b o f (by simpa using nx.2);obtain⟨p,J⟩:=n.slot b {o with slots:=sl} d (by simpa using nx.1);exact⟨p,J⟩
 ·intro b o f;obtain⟨B,d⟩:=k.there b o f;exact n.there b B d
 ·cases q:s.heap.get? c with
  |none=>rfl
  |some o=>
   obtain⟨B,d⟩:=k.there c o q;rw[H]at d;cases d
theorem CA {f:Option Addr}(l:Av s.heap e T cls dct fl)(h:∀h',hA [] [T] s.heap h'→Av h' e T cls dct (f.elim Value.none λa=>rawInt a)→Q () {s with heap:=h'}):wpAny M A (setFlight (.ref e) f) Q E s:=by
 obtain⟨oe,vs,o,ts,j,m,g,hd,k,c,i,b,n⟩:=l;have d:3<ts.size:=(P2.mp n).1;unfold setFlight;refine f7 (u4 j hd k ?_);rw[if_pos (show(Value.ref T != Value.none)=true from by simp)];refine vk i b d (h _ (qx i b 3 _) ?_);exact⟨oe,vs,_,_,(Heap.get?_update_other _ _ c).trans j,m,g,hd,k,c,Heap.get?_update_self _ i (Obj.isFreed_of_fields (Obj.data_mapFields b _)),Obj.data_mapFields b _,by simp[d]⟩
theorem si (b:env.frame=some L)(c:Av s.heap e T cls dct (rawInt L))(h:Q () s):wpAny M A (noteFrame (.ref e) env) Q E s:=by
 obtain⟨oe,vs,l,ts,d,m,f,hd,g,i,j,a,k⟩:=c;unfold noteFrame;simp only[b];refine f7 (u4 d hd g ?_);rw[if_pos (show(Value.ref T != Value.none)=true from by simp)];refine f7 (u4 j a k ?_);rw[if_pos (show(rawInt L==rawInt L)=true from by simp)];exact i3 h
end
structure Off (X:Cx) (H:Hp) (a:Addr):Prop where
 new:X.s₀.heap.get? a=none
 free:H a=none
 loc:a≠X.env.locals
 cell:∀x c,X.env.cells.lookup x=some c→c≠a
section
variable {X:Cx}{pins:List (Addr×Obj)}{σ:St}{H:Hp}{s:Shared}{h':Heap}{xs:List Addr}
theorem yI {h h':Heap}{a:Addr}{m:Str→Option Value}(n:h.Ns a m)(k:∀o,h.get? a=some o→∃sl,h'.get? a=some {o with slots:=sl}):h'.Ns a m:=by
 obtain⟨o,es,b,e,d,c,f⟩:=n;obtain⟨sl,g⟩:=k o e;exact⟨_,es,b,g,d,c,f⟩
theorem lh {h h':Heap}{c:Addr}{v:Option Value}(n:h.IsCell c v)(k:∀o,h.get? c=some o→∃sl,h'.get? c=some {o with slots:=sl}):h'.IsCell c v:=by
 obtain⟨o,e,d⟩:=n;obtain⟨sl,a⟩:=k o e;exact⟨_,a,d⟩
theorem _root_.L2.Inv.zH (I:Inv X [] σ H s)(L:X.pn=[])(k:hA (X.env.locals::X.fs) xs s.heap h')(w:∀a∈xs,Off X H a):Inv X [] σ H {s with heap:=h'}:=by
 have f:∀b o,X.s₀.heap.get? b=some o→b∉xs:=λb o e m=>by rw[(w b m).new]at e;cases e
 have h:∀b o,X.s₀.heap.get? b=some o→b≠X.env.locals:=λb o e z=>absurd (k8 (Heap.lt_size e) I.ok.above) (by rw[z];exact n0 _);have g:∀b∈X.fs,H b=none:=λb A=>by
  obtain⟨_,o,N,_⟩:=I.ok.gQ.mem A;exact I.base.free b o N (I.ok.frf b A) λz=>I.ok.exfs b z A
 have cs:∀x c,X.env.cells.lookup x=some c→∀o,s.heap.get? c=some o→∃sl,h'.get? c=some {o with slots:=sl}:=λx c e o O=>k.slot c o O λm=>(w c m).cell x c e rfl;refine⟨I.ok,I.os,I.bare,⟨λb o e n y nx=>?_,λb o e n y nx=>?_,I.base.free,λb o e nx=>?_,I.base.tups,I.base.frzs,I.base.tbls⟩,?_,λx c e=>?_,I.free,I.freeC,?_,λa o e=>?_,I.len⟩
 ·exact k.keep b o (I.base.keep b o e n y nx) (λm=>(List.mem_cons.mp m).elim (h b o e) y) (f b o e)
 ·obtain⟨sl,j⟩:=I.base.slot b o e n y nx;obtain⟨B,E⟩:=k.slot b _ j (f b o e);exact⟨B,E⟩
 ·obtain⟨P,j⟩:=I.base.there b o e nx;exact k.there b P j
 ·obtain⟨m,n,l⟩:=I.loc;refine⟨m,yI n λo e=>k.slot _ o e λz=>(w _ z).loc rfl,λi x v j E Q=>?_⟩;obtain⟨u,r,lk⟩:=l i x v j E Q;refine⟨u,r,lk.imp id λ⟨q,c,G,F⟩=>⟨q,c,G,lh F (cs x c G)⟩⟩
 ·obtain⟨v,F⟩:=I.cell x c e;exact⟨v,lh F (cs x c e)⟩
 ·intro p t;rw[L]at t;cases t
 ·refine(I.hok a o e).stay (λc v J q=>k.keep c v q (λm=>?_) λm=>?_) (λ_ q=>q) λ_ _ q=>q
  ·have d:H c=none:=by
    rcases List.mem_cons.mp m with z|z
    ·rw[z];exact I.free
    ·exact g c z
   rcases J with z|z
   ·rw[z,e]at d;cases d
   ·rw[z]at d;cases d
  ·have d:=(w c m).free;rcases J with z|z
   ·rw[z,e]at d;cases d
   ·rw[z]at d;cases d
def Ks (H:Hp)(fs:List (Str×D))(dct:Option Addr):Prop:=(fs=[]∧dct=none)∨∃dx f n,fs=[(f,.int n)]∧dct=some dx∧H dx=some (.xd [(f,.int n)])
def IL (K:PySem.W.Frag)(H:Hp)(x:Gv)(cls:Value)(dct:Option Addr):Prop:=∃C,cls=.ref C∧PySem.W.nsIn K l5 x.cls=some (some (.ref C))∧Ks H x.fs dct
def IK (X:Cx)(H:Hp)(a:Addr)(cls:Value)(dct:Option Addr)(h:Heap):Prop:=
 (∃b vs,h.get? a=some b∧b.cls=cls∧b.dict=dct∧b.data=.fields vs∧vs[1]?=some .none)∨∃T c,Av h a T cls dct c∧Off X H T∧(c=.none∨c=rawInt X.env.locals)
structure vi (X:Cx):Prop where
 pn:X.pn=[]
 ex:X.ex=[]
 stk:X.stack=X.env::X.outer
 fr:X.env.frame=some X.env.locals
theorem xE (I:Inv X pins σ H s){a:Addr}{o:HO}(e:H a=some o):∃ob,s.heap.get? a=some ob:=by
 have x:=I.hok a o e;generalize s.heap=h at x;cases o with
 |lst xs=>obtain⟨_,_,_,_,e⟩:=x;exact⟨_,e⟩
 |tup xs=>obtain⟨_,_,_,ob,e,_⟩:=x;exact⟨_,e⟩
 |dK kvs=>obtain⟨_,_,_,_,o,_,_,e,_⟩:=x;exact⟨_,e⟩
 |dT kvs=>obtain⟨_,_,_,_,o,_,_,e,_⟩:=x;exact⟨_,e⟩
 |set S n=>obtain⟨o,_,_,_,e,_⟩:=x;exact⟨_,e⟩
 |ins C dx fs=>obtain⟨_,_,_,e,_⟩:=x;exact⟨_,e⟩
 |own y=>exact x
 |xd fs=>obtain⟨_,⟨_,_,_,e,_⟩,_⟩:=x;exact⟨_,e⟩
 |rng lo hi=>obtain⟨_,_,_,e⟩:=x;exact⟨_,e⟩
 |cn ob u=>obtain⟨e,_⟩:=x;exact⟨_,e⟩
 |tbl ps=>exact⟨_,show h.get? a=some _ from x⟩
 |met f y=>exact⟨_,show h.get? a=some _ from x⟩
 |ext φ=>obtain⟨_,e,_⟩:=x;exact e
theorem uk (I:Inv X [] σ H s)(F:vi X){T:Addr}(e:s.heap.get? T=none):Off X H T:=by
 refine⟨?_,?_,λz=>?_,λx c b z=>?_⟩
 ·cases q:X.s₀.heap.get? T with
  |none=>rfl
  |some o=>
   obtain⟨o',a⟩:=I.base.there T o q (by rw[F.ex];simp);rw[e]at a;cases a
 ·cases q:H T with
  |none=>rfl
  |some o=>
   obtain⟨ob,a⟩:=xE I q;rw[e]at a;cases a
 ·obtain⟨m,⟨o,_,_,a,_⟩,_⟩:=I.loc;rw[z,a]at e;cases e
 ·obtain⟨v,o,a,_⟩:=I.cell x c b;rw[z,e]at a;cases a
section
variable {M:Model}{E:Value→Shared→Prop}{Q:Unit→Shared→Prop}{a:Addr}{cls:Value}{dct:Option Addr}
theorem wy {fs:List Addr}{h h':Heap}(k:hA [] xs h h'):hA fs xs h h':=⟨λb o e _ nx=>k.keep b o e (by simp) nx,k.slot,k.there⟩
theorem noted (I:Inv X [] σ H s)(F:vi X)(j:Off X H a)(l:IK X H a cls dct s.heap)(h:∀h' T,Inv X [] σ H {s with heap:=h'}→Av h' a T cls dct (rawInt X.env.locals)→Off X H T→Q () {s with heap:=h'}):wpAny M X.A (noteFrame (.ref a) X.env) Q E s:=by
 have c:X.A.frames=some (X.env::X.outer):=by rw[←F.stk];exact I.ok.frames
 have hl:s.heap.FunFrames X.base (X.env::X.outer):=by rw[←F.stk];exact I.stack
 have f:frs (X.env::X.outer)=X.env.locals::X.fs:=by
  show List.filterMap _ _=_;rw[List.filterMap_cons,F.fr];rfl
 rcases l with⟨q,vs,e,rfl,rfl,d,o⟩ | ⟨T,l,t,m,rfl|rfl⟩
 ·refine sf c hl F.fr e d o λh' g k n t=>?_;rw[f]at k;exact h h' g (I.zH F.pn k λb i=>by rw[List.mem_singleton.mp i];exact j) t (uk I F n)
 ·refine wh c hl F.fr t λh' g k n p=>?_;rw[f]at k;exact h h' g (I.zH F.pn k λb i=>by
   rcases List.mem_cons.mp i with z|z
   ·rw[z];exact j
   ·rw[List.mem_singleton.mp z];exact m) p (uk I F n)
 ·exact si F.fr t (h s.heap T I t m)
theorem marked (f:Option Addr)(I:Inv X [] σ H s)(F:vi X){T:Addr}{c:Value}(t:Av s.heap a T cls dct c)(d:Off X H T)(h:∀h',Inv X [] σ H {s with heap:=h'}→Av h' a T cls dct (f.elim Value.none λb=>rawInt b)→Q () {s with heap:=h'}):wpAny M X.A (setFlight (.ref a) f) Q E s:=
 CA t λh' k e=>h h' (I.zH F.pn (wy k) λb g=>by rw[List.mem_singleton.mp g];exact d) e
end
end
noncomputable abbrev XP:=Gv→St→Hp→Prop
def ExcAt (X:Cx)(x:Gv)(e:Value)(H:Hp)(s:Shared):Prop:=∃a cls dct,e=.ref a∧IL X.K H x cls dct∧Off X H a∧IK X H a cls dct s.heap∧vi X
noncomputable def XE (X:Cx)(ξ:XP):Value→Shared→Prop:=λe a=>∃x pins σ H,Inv X pins σ H a∧ExcAt X x e H a∧ξ x σ H
noncomputable abbrev rz (X:Cx)(ξ:XP):Cx:=X.W8 (XE X ξ)
noncomputable abbrev Rel (α a:Type):=Bs→Hp→Hp→St→k0→a→α→Prop
noncomputable def C2:Rel W V:=λB G H σ ρ v w=>E2 B G H σ ρ v w
noncomputable def dk:Rel Bool Bool:=λ_ _ _ _ _ v b=>v=b
noncomputable def Dy:W→Bool
 |.own _=>false
 |_=>true
noncomputable def M3:Rel (List W) (List V):=λB G H σ ρ vs a=>Paired (λv w=>E2 B G H σ ρ v w∧Dy w=true) vs a
section
variable {α β α' β':Type}{rel:Rel α β}{rel':Rel α' β'}{B:Bs}{ξ:XP}{G H:Hp}{σ:St}{ρ:k0}
noncomputable def Post (rel:Rel α β)(B:Bs)(ξ:XP)(G:Hp)(σ:St)(Q:β→Hp→Prop):R' α→Prop
 |.ok w ρ'=>∀v G' H',i8 G G'→RS B G' H' σ ρ'→rel B G' H' σ ρ' v w→Q v H'
 |.ex x ρ'=>∀G' H',i8 G G'→RS B G' H' σ ρ'→ξ x σ H'
def cj (rel:Rel α β)(B:Bs)(ξ:XP)(G:Hp)(ρ:k0)(m:M α)(σ:St)(Q:β→Hp→Prop):Prop:=∃r,m ρ=some r∧Post rel B ξ G σ Q r
noncomputable def TD (rel:Rel α β)(B:Bs)(ξ:XP)(m:M α):St→Hp→(β→Hp→Prop)→Prop:=λσ H Q=>∃G ρ,RS B G H σ ρ∧cj rel B ξ G ρ m σ Q
theorem Post.same {Q:β→Hp→Prop}{r:R' α}{G':Hp}(s:i8 G G')(h:Post rel B ξ G σ Q r):Post rel B ξ G' σ Q r:=by
 cases r with
 |ok w ρ'=>exact λv a b s2=>h v a b (s.trans s2)
 |ex x ρ'=>exact λa b s2=>h a b (s.trans s2)
theorem cj.mono {m:M α}{Q a:β→Hp→Prop}(h:∀v H,Q v H→a v H)(t:cj rel B ξ G ρ m σ Q):cj rel B ξ G ρ m σ a:=by
 obtain⟨r,e,p⟩:=t;refine⟨r,e,?_⟩;cases r with
 |ok w ρ'=>exact λv G' H' s R q=>h v H' (p v G' H' s R q)
 |ex x ρ'=>exact p
theorem TD.mono {m:M α}{Q a:β→Hp→Prop}(h:∀v H,Q v H→a v H)(t:TD rel B ξ m σ H Q):TD rel B ξ m σ H a:=by
 obtain⟨G,ρ,R,t⟩:=t;exact⟨G,ρ,R,t.mono h⟩
theorem TD.bind {m:M α}{f:α→M α'}{Q:β'→Hp→Prop}(R:RS B G H σ ρ)(t:cj rel' B ξ G ρ (M.bind m f) σ Q):
  TD rel B ξ m σ H (λv g=>∃c b a,i8 G c∧RS B c g σ b∧rel B c g σ b v a∧cj rel' B ξ c b (f a) σ Q):=by
 obtain⟨r,e,p⟩:=t;cases d:m ρ with
 |none=>rw[M.bind_none d]at e;cases e
 |some h=>
  cases h with
  |ex x b=>
   rw[M.cX d]at e;cases e;exact⟨G,ρ,R,_,d,p⟩
  |ok a b=>
   rw[M.j5 d]at e;exact⟨G,ρ,R,_,d,λv c g s i q=>⟨c,b,a,s,i,q,r,e,p.same s⟩⟩
theorem TD.At {m:M α}{f:α→M α'}{Q:β'→Hp→Prop}(R:RS B G H σ ρ)(t:cj rel' B ξ G ρ (M.bind m f) σ Q):
  TD rel B ξ m σ H (λv g=>∃c b a,m ρ=some (.ok a b)∧i8 G c∧RS B c g σ b∧rel B c g σ b v a∧cj rel' B ξ c b (f a) σ Q):=by
 obtain⟨r,e,p⟩:=t;cases d:m ρ with
 |none=>rw[M.bind_none d]at e;cases e
 |some h=>
  cases h with
  |ex x b=>
   rw[M.cX d]at e;cases e;exact⟨G,ρ,R,_,d,p⟩
  |ok a b=>
   rw[M.j5 d]at e;exact⟨G,ρ,R,_,d,λv c g s i q=>⟨c,b,a,rfl,s,i,q,r,e,p.same s⟩⟩
theorem cj.step {m:M α}{f:α→M α'}{Q:β'→Hp→Prop}(t:cj rel' B ξ G ρ (M.bind m f) σ Q)(b:∀r,m ρ=some r→∃a ρ',r=.ok a ρ'):∃a ρ',m ρ=some (.ok a ρ')∧cj rel' B ξ G ρ' (f a) σ Q:=by
 obtain⟨r,e,p⟩:=t;cases hr:m ρ with
 |none=>rw[M.bind_none hr]at e;cases e
 |some c=>
  obtain⟨a,ρ',rfl⟩:=b c hr;rw[M.j5 hr]at e;exact⟨a,ρ',rfl,r,e,p⟩
end
theorem _root_.L2.PE.imp {X:Cx}{e:Expr}{t a:TE}(h:PE X e t)(i:∀σ H Q,a σ H Q→t σ H Q):PE X e a:=λpins s σ H Q I q=>h pins s σ H Q I (i σ H Q q)
theorem _root_.L2.PT.imp {X:Cx}{e:Expr}{t a:TT}(h:PT X e t)(i:∀σ H Q,a σ H Q→t σ H Q):PT X e a:=λpins s σ H Q I q=>h pins s σ H Q I (i σ H Q q)
theorem _root_.L2.PW.imp {X:Cx}{e:Expr}{t a:TT}(h:PW X e t)(i:∀σ H Q,a σ H Q→t σ H Q):PW X e a:=λb pins s σ H Q I q=>h b pins s σ H Q I (i σ H Q q)
theorem _root_.L2.PA.imp {X:Cx}{e:List Expr}{t a:TA}(h:PA X e t)(i:∀σ H Q,a σ H Q→t σ H Q):PA X e a:=λpos pins s σ H Q I q=>h pos pins s σ H Q I (i σ H Q q)
theorem _root_.L2.PS.imp {X:Cx}{e:Stmt}{t a:TS}(h:PS X e t)(i:∀D σ H,a D σ H→t D σ H):PS X e a:=λpins s σ H D I q=>h pins s σ H D I (i D σ H q)
theorem _root_.L2.lA.imp {X:Cx}{e:List Stmt}{t a:TS}(h:lA X e t)(i:∀D σ H,a D σ H→t D σ H):lA X e a:=λpins s σ H D I q=>h pins s σ H D I (i D σ H q)
structure PD (X:Cx) (B:Bs) (e:Expr) (m:M W):Prop where
 ap:∀ξ,PE (rz X ξ) e (TD C2 B ξ m)
structure mh (X:Cx) (B:Bs) (e:Expr) (m:M Bool):Prop where
 ap:∀ξ,PT (rz X ξ) e (TD dk B ξ m)
structure DR (X:Cx) (B:Bs) (e:Expr) (m:M Bool):Prop where
 ap:∀ξ,PW (rz X ξ) e (TD dk B ξ m)
structure fO (X:Cx) (B:Bs) (es:List Expr) (m:M (List W)):Prop where
 ap:∀ξ,PA (rz X ξ) es (TD M3 B ξ m)
theorem DR.pt {X:Cx}{B:Bs}{e:Expr}{m:M Bool}(h:DR X B e m):mh X B e m:=.mk λξ=>(h.ap ξ).pt
noncomputable def O2 (m:M W):M W:=M.bind m λw=>match w with
 |.own d=>M.pure (.val d)
 |w=>M.pure w
theorem xK {m:M W}{ρ ρ':k0}{d:D}(h:m ρ=some (.ok (.own d) ρ')):O2 m ρ=some (.ok (.val d) ρ'):=by unfold O2;rw[M.j5 h];rfl
theorem pK {m:M W}{ρ ρ':k0}{d:D}(h:m ρ=some (.ok (.val d) ρ')):O2 m ρ=some (.ok (.val d) ρ'):=by unfold O2;rw[M.j5 h];rfl
theorem mD {m:M W}{ρ ρ':k0}{i:Nat}(h:m ρ=some (.ok (.slot i) ρ')):O2 m ρ=some (.ok (.slot i) ρ'):=by unfold O2;rw[M.j5 h];rfl
noncomputable def jg:Rel W V:=λB G H σ ρ v w=>E2 B G H σ ρ v w∧Dy w=true
section
variable {X:Cx}{B:Bs}{e a b c:Expr}{ma mb mc:M W}{pos:Pos}
theorem TD.O2 {ξ:XP}{m:M W}{σ:St}{H:Hp}{Q:VK}(t:TD jg B ξ (O2 m) σ H Q):TD C2 B ξ m σ H Q:=by
 obtain⟨G,ρ,R,t⟩:=t;have f:=TD.bind (rel:=C2) R t;refine f.mono λv a ⟨e,h,w,s,b,q,j⟩=>?_;obtain⟨r,c,p⟩:=j;cases w with
 |val d=>cases c;exact p v e a (i8.refl _) b ⟨q,rfl⟩
 |slot i=>cases c;exact p v e a (i8.refl _) b ⟨q,rfl⟩
 |own d=>
  cases c;obtain⟨u,rfl,g,k,o,ne⟩:=q;obtain⟨G',l,R',n⟩:=b.cn g k o ne;exact p _ G' a l R' ⟨n,rfl⟩
theorem E2.keep {G G' H H':Hp}{σ:St}{ρ ρ':k0}{v:V}{w:W}(s:i8 G G')(h:E2 B G H σ ρ v w)(a:Dy w=true):E2 B G' H' σ ρ' v w:=
 h.same s λd z=>by rw[z]at a;cases a
noncomputable def Fj (f:D→D→Option W)(a b:W):M W:=λρ=>match getD a ρ,getD b ρ with
 |some x,some y=>(f x y).map (R'.ok · ρ)
 |_,_=>none
noncomputable def GH (f:D→Option W)(a:W):M W:=λρ=>match getD a ρ with
 |some x=>(f x).map (R'.ok · ρ)
 |_=>none
noncomputable def g9 (f:D→D→Option W)(ma mb:M W):M W:=M.bind (O2 ma) λx=>M.bind mb λy=>Fj f x y
noncomputable def cZ (f:D→Option W)(ma:M W):M W:=M.bind ma λx=>GH f x
def eT (B:Bs)(r:R2)(f:D→D→Option W):Prop:=∀{G H:Hp} {σ:St} {ρ:k0} {x y:V} {dx a:D} {w:W} {Q:VK},RS B G H σ ρ→N9 B.K G H x dx→N9 B.K G H y a→f dx a=some w→
 (∀v G' H',i8 G G'→RS B G' H' σ ρ→E2 B G' H' σ ρ v w→Q v H')→r x y H Q
def AA (B:Bs)(r:V→Hp→VK→Prop)(f:D→Option W):Prop:=∀{G H:Hp} {σ:St} {ρ:k0} {x:V} {dx:D} {w:W} {Q:VK},RS B G H σ ρ→N9 B.K G H x dx→f dx=some w→
 (∀v G' H',i8 G G'→RS B G' H' σ ρ→E2 B G' H' σ ρ v w→Q v H')→r x H Q
theorem ug {ξ:XP}{f:D→D→Option W}{x y:W}{G:Hp}{ρ:k0}{σ:St}{Q:VK}(t:cj C2 B ξ G ρ (Fj f x y) σ Q):∃dx a w,getD x ρ=some dx∧getD y ρ=some a∧f dx a=some w∧∀v G' H',i8 G G'→RS B G' H' σ ρ→E2 B G' H' σ ρ v w→Q v H':=by
 obtain⟨r,e,p⟩:=t;unfold Fj at e;cases b:getD x ρ with
 |none=>rw[b]at e;cases e
 |some dx=>
  cases d:getD y ρ with
  |none=>rw[b,d]at e;cases e
  |some a=>
   rw[b,d]at e;simp only[]at e;cases c:f dx a with
   |none=>rw[c]at e;cases e
   |some w=>
    rw[c]at e;cases e;exact⟨dx,a,w,rfl,rfl,c,p⟩
theorem uh {ξ:XP}{f:D→Option W}{x:W}{G:Hp}{ρ:k0}{σ:St}{Q:VK}(t:cj C2 B ξ G ρ (GH f x) σ Q):∃dx w,getD x ρ=some dx∧f dx=some w∧∀v G' H',i8 G G'→RS B G' H' σ ρ→E2 B G' H' σ ρ v w→Q v H':=by
 obtain⟨r,e,p⟩:=t;unfold GH at e;cases b:getD x ρ with
 |none=>rw[b]at e;cases e
 |some dx=>
  rw[b]at e;simp only[]at e;cases a:f dx with
  |none=>rw[a]at e;cases e
  |some w=>
   rw[a]at e;cases e;exact⟨dx,w,rfl,a,p⟩
theorem nH {ξ:XP}{r:R2}{f:D→D→Option W}(hi:eT B r f){σ:St}{H:Hp}{Q:VK}(t:TD C2 B ξ (g9 f ma mb) σ H Q):Hd r (TD C2 B ξ ma) (TD C2 B ξ mb) σ H Q:=by
 obtain⟨G,ρ,R,t⟩:=t;have c:TD jg B ξ (O2 ma) σ H _:=TD.bind (rel:=jg) R t;refine TD.O2 (c.mono λx s ⟨u,d,e,s1,g,⟨h,a⟩,i⟩=>?_);refine(TD.bind (rel:=C2) g i).mono λy j ⟨k,b,v,s2,R2,l,m⟩=>?_;obtain⟨dx,z,w,n,o,q,p⟩:=ug m;exact hi R2 ((h.keep s2 a:E2 B k j σ b x e).get R2 n) (l.get R2 o) q p
theorem rG {ξ:XP}{r:V→Hp→VK→Prop}{f:D→Option W}(hi:AA B r f){σ:St}{H:Hp}{Q:VK}(t:TD C2 B ξ (cZ f ma) σ H Q):Lv r (TD C2 B ξ ma) σ H Q:=by
 obtain⟨G,ρ,R,t⟩:=t;refine(TD.bind (rel:=C2) R t).mono λx h ⟨i,b,j,s1,a,c,d⟩=>?_;obtain⟨dx,w,e,g,p⟩:=uh d;exact hi a (c.get a e) g p
theorem kn {c:Operator}{r:R2}{f:D→D→Option W}(d:∀ξ,eS (rz X ξ) (dh c) r)(hi:eT B r f)(e:PD X B a ma)(g:PD X B b mb):PD X B (.BinOp a c b pos) (g9 f ma mb):=.mk λξ=>
 (HB (d ξ) (e.ap ξ) (g.ap ξ)).imp λ_ _ _ t=>nH hi t
theorem HD {b:UnaryOp}{r:V→Hp→VK→Prop}{f:D→Option W}(c:∀ξ,Jg (rz X ξ) (MT b) r)(hi:AA B r f)(d:PD X B a ma):PD X B (.UnaryOp b a pos) (cZ f ma):=.mk λξ=>
 (DF (c ξ) (d.ap ξ)).imp λ_ _ _ t=>rG hi t
theorem rV {c:CmpOp}{r:R2}{f:D→D→Option W}(d:∀ξ,eS (rz X ξ) (v7 c) r)(hi:eT B r f)(e:PD X B a ma)(g:PD X B b mb)(h:y4 c b=false):PD X B (.Compare a [c] [b] pos) (g9 f ma mb):=.mk λξ=>
 (BR (d ξ) (e.ap ξ) (g.ap ξ) h).imp λ_ _ _ t=>nH hi t
noncomputable def p6 (m:M W):M Bool:=M.bind m λw=>λρ=>match w with
 |.val (.bl b)=>some (.ok b ρ)
 |_=>none
theorem rF {ξ:XP}{σ:St}{H:Hp}{Q:Bool→Hp→Prop}{m:M W}(t:TD dk B ξ (p6 m) σ H Q):TD C2 B ξ m σ H λx H'=>∃k,x=.bl k∧Q k H':=by
 obtain⟨G,ρ,R,t⟩:=t;refine(TD.bind (rel:=C2) R t).mono λx b ⟨a,c,w,s1,f,g,r,e,p⟩=>?_;cases w with
 |val d=>
  cases d with
  |bl k=>
   cases e;have h:Rep B.K a x (.bl k):=g;cases h;exact⟨k,rfl,p k a b (i8.refl _) f rfl⟩
  |_=>cases e
 |_=>cases e
theorem cE {c:CmpOp}{r:R2}{f:D→D→Option W}(d:∀ξ,eS (rz X ξ) (v7 c) r)(hi:eT B r f)(e:PD X B a ma)(g:PD X B b mb)(h:y4 c b=false):mh X B (.Compare a [c] [b] pos) (p6 (g9 f ma mb)):=.mk λξ=>
 (BE (d ξ) (e.ap ξ) (g.ap ξ) h).imp λ_ _ _ t=>TD.mono (λ_ _ q=>q) (nH hi (rF t))
noncomputable def f8 (i:Nat):M W:=λρ=>match ρ[i]? with
 |some (some _)=>some (.ok (.slot i) ρ)
 |_=>none
noncomputable def mC (d:D):M W:=M.pure (.val d)
theorem Ek {ξ:XP}{i:Nat}{σ:St}{H:Hp}{Q:VK}(t:TD C2 B ξ (f8 i) σ H Q):Er i σ H Q:=by
 obtain⟨G,ρ,R,r,e,p⟩:=t;unfold f8 at e;cases h:ρ[i]? with
 |none=>rw[h]at e;cases e
 |some o=>
  cases o with
  |none=>rw[h]at e;cases e
  |some c=>
   rw[h]at e;cases e;have b:∃v,σ[i]?=some (some v):=by
    cases c with
    |sh d=>obtain⟨v,q,_⟩:=R.sh i d h;exact⟨v,q⟩
    |ow l d=>obtain⟨v,q,_⟩:=R.ow i l d h;exact⟨_,q⟩
    |fz es=>obtain⟨a,o,kvs,q,_⟩:=R.fz i es h;exact⟨_,q⟩
    |ob l fds=>obtain⟨_,_,_,_,_,_,q,_⟩:=R.ob.1 i l fds h;exact⟨_,q⟩
    |rd fds=>obtain⟨_,_,_,_,_,_,_,q,_⟩:=R.ob.2 i fds h;exact⟨_,q⟩
   obtain⟨v,q⟩:=b;exact⟨v,q,p v G H (i8.refl _) R q⟩
theorem vE {ξ:XP}{d:D}{v:V}(a:∀G,Rep B.K G v d){σ:St}{H:Hp}{Q:VK}(t:TD C2 B ξ (mC d) σ H Q):tC v σ H Q:=by
 obtain⟨G,ρ,R,r,e,p⟩:=t;cases e;exact p v G H (i8.refl _) R (a G)
theorem dv (i:Nat){x:Str}{pos:Pos}(b:X.N[i]?=some x:=by rfl)(c:eR X.env.scope x:=by first|exact Or.inl rfl|exact Or.inr (Or.inl rfl) |exact Or.inr (Or.inr rfl))(hd:(x==("__debug__":Str))=false:=by decide) (a:(x==("__classdict__":Str))=false:=by decide):PD X B (.Name x pos) (f8 i):=.mk λξ=>
 (bv (X:=rz X ξ) b c hd a).imp λ_ _ _ t=>Ek t
theorem h9 {i j pos}:PD X B (.Constant (.int i) j pos) (mC (.int i)):=.mk λξ=>(rS (X:=rz X ξ)).imp λ_ _ _ t=>vE (λ_=>.int i) t
theorem dW {b j pos}:PD X B (.Constant (.bool b) j pos) (mC (.bl b)):=.mk λξ=>(DH (X:=rz X ξ)).imp λ_ _ _ t=>vE (λ_=>.bl b) t
theorem zY {j pos}:PD X B (.Constant .none j pos) (mC .v1):=.mk λξ=>(EW (X:=rz X ξ)).imp λ_ _ _ t=>vE (λ_=>.v1) t
theorem jx {K:PySem.W.Frag}{G:Hp}(x:Str):Rep K G (.str x) (.str x.cps.toList):=by
 have e:=Ef x;have r:=Rep.str (K:=K) (G:=G) x.cps.toList;rw[e]at r;exact r
theorem Iu {x j pos}:PD X B (.Constant (.str x) j pos) (mC (.str x.cps.toList)):=.mk λξ=>(ET (X:=rz X ξ)).imp λ_ _ _ t=>vE (λ_=>jx x) t
theorem nl {x:Str}{v:V}{d:D}(h:Dp X.mg x v)(a:∀G,Rep B.K G v d)(b:Gl X x:=by rfl)(hd:(x==("__debug__":Str))=false:=by decide):PD X B (.Name x pos) (mC d):=.mk λξ=>
 (Kb (X:=rz X ξ) h b hd).imp λ_ _ _ t=>vE a t
theorem Gb {x:Str}{n:String}(a:X.mg x=none)(b:K4 x=some (.type n))(c:Gl X x:=by rfl)(d:x≠"__name__":=by decide) (hd:(x==("__debug__":Str))=false:=by decide):PD X B (.Name x pos) (mC (.ty n)):=.mk λξ=>
 (LV (X:=rz X ξ) a b c d hd).imp λ_ _ _ t=>vE (λ_=>.ty n) t
end
noncomputable def cm (p:Prop)[Decidable p]{α:Type}(x:Option α):Option α:=if p then x else none
theorem v6 {p:Prop}[Decidable p]{α:Type}{x:Option α}(h:p):cm p x=x:=if_pos h
theorem o4 {p:Prop}[Decidable p]{α:Type}{x:Option α}{a:α}(h:cm p x=some a):p∧x=some a:=by
 unfold cm at h;split at h
 ·exact⟨‹p›,h⟩
 ·cases h
noncomputable def vI (i:Int):Option W:=some (.val (.int i))
noncomputable def vB (b:Bool):Option W:=some (.val (.bl b))
def small (n:Nat):Prop:=n≤1000000
instance (n:Nat):Decidable (small n):=inferInstanceAs (Decidable (n≤1000000))
noncomputable def A3:D→D→Option W
 |.int i,.int j=>vI (i+j)
 |.str a,.str b=>cm (small (a.length+b.length)) (some (.val (.str (a++b))))
 |.lst a,.lst b=>cm (small (a.length+b.length)) (some (.own (.lst (a++b))))
 |_,_=>none
noncomputable def iY:D→D→Option W
 |.int i,.int j=>vI (i-j)
 |_,_=>none
instance (i j:Int):Decidable (rg i j):=by unfold rg;infer_instance
instance (i j:Int):Decidable (rh i j):=by unfold rh;infer_instance
noncomputable def aM:D→D→Option W
 |.int i,.int j=>cm (rg i j) (vI (i*j))
 |_,_=>none
noncomputable def kU:D→D→Option W
 |.int i,.int j=>cm (rh i j) (vI (i / j))
 |_,_=>none
noncomputable def R4:D→D→Option W
 |.int i,.int j=>cm (0<j) (vI (i % j))
 |_,_=>none
noncomputable def V1:D→Option W
 |.int i=>vI (-i)
 |_=>none
noncomputable def Z7 (f:Int→Int→Bool):D→D→Option W
 |.int i,.int j=>vB (f i j)
 |_,_=>none
theorem BZ {X:Cx}{K:PySem.W.Frag}(B:X.K=K):eS X (dh .Add) (λx y H Q=>∃l b xs k,x=.ref l∧y=.ref b∧P8 K H l xs∧P8 K H b k∧xs.length+k.length≤sizeLine∧∀p,H p=none→Q (.ref p) (upd H p (.lst (xs++k)))):=by
 subst B;intro pins s σ H x y v u Q I E G h;obtain⟨l,b,xs,k,rfl,rfl,J,L,R,q⟩:=h;cases E;cases G;obtain⟨d,r,N,_⟩:=I.list J;obtain⟨a,t,m,_⟩:=I.list L;obtain⟨⟨cls,S,data,sl⟩,n,w,z,f,hd⟩:=N;obtain⟨⟨A,O,data2,o⟩,P,g,i,c,j⟩:=m;simp only at z hd i j f c;subst z hd i j f c;have T:=r.length;have U:=t.length;have e:d.toArray++a.toArray=(d++a).toArray:=by simp
 refine concat_meets ⟨_,w,rfl⟩ ⟨_,g,rfl⟩ noFill_list_add seq_list_add PySem.F.slot_list_add PySem.F.entry_list_add (PySem.F.args_list_add_2 _ _) (list_addW l b d.toArray a.toArray n P none none sl o (by rw[List.size_toArray,List.size_toArray];omega)) ⟨w,g,?_⟩;rw[e];exact⟨.ref _,_,I.Ke (t':=s.toks) (r.append t) (by rw[List.length_append];omega),rfl,q _ I.fresh⟩
theorem Q8 {n:Nat}(h:small n):n≤sizeLine:=by unfold small at h;rw[u5];omega
section
variable {X:Cx}{B:Bs}{e a b c:Expr}{ma mb mc:M W}{pos:Pos}
theorem Cu {g:Int→Int→Int}{f:D→D→Option W}(b:∀dx a w,f dx a=some w→∃i j,dx=.int i∧a=.int j∧w=.val (.int (g i j))):eT B (AJ λi j=>.int (g i j)) f:=by
 intro G H σ ρ x y dx a w Q R c d e p;obtain⟨i,j,rfl,rfl,rfl⟩:=b _ _ _ e;exact⟨i,j,c.int,d.int,p _ G H (i8.refl _) R (.int _)⟩
theorem sO {P:Int→Int→Prop}{g:Int→Int→Int}{f:D→D→Option W}(b:∀dx a w,f dx a=some w→∃i j,dx=.int i∧a=.int j∧P i j∧w=.val (.int (g i j))):eT B (rI P λi j=>.int (g i j)) f:=by
 intro G H σ ρ x y dx a w Q R c d e p;obtain⟨i,j,rfl,rfl,h,rfl⟩:=b _ _ _ e;exact⟨i,j,c.int,d.int,h,p _ G H (i8.refl _) R (.int _)⟩
theorem jD (g:Int→Int→Bool):eT B (AJ λi j=>.bl (g i j)) (Z7 g):=by
 intro G H σ ρ x y dx a w Q R b c e p;cases dx<;>cases a<;>first|cases e|skip
 exact⟨_,_,b.int,c.int,p _ G H (i8.refl _) R (.bl _)⟩
theorem zo:eT B (AJ λi j=>.int (i-j)) iY:=Cu λdx a w e=>by
 cases dx<;>cases a<;>first|cases e|skip
 exact⟨_,_,rfl,rfl,rfl⟩
theorem zr:eT B (rI rg λi j=>.int (i*j)) aM:=sO λdx a w e=>by
 cases dx<;>cases a<;>first|cases e|skip
 obtain⟨h,e⟩:=o4 e;cases e;exact⟨_,_,rfl,rfl,h,rfl⟩
theorem zu:eT B (rI rh λi j=>.int (i / j)) kU:=sO λdx a w e=>by
 cases dx<;>cases a<;>first|cases e|skip
 obtain⟨h,e⟩:=o4 e;cases e;exact⟨_,_,rfl,rfl,h,rfl⟩
theorem zt:eT B (rI (λ_ j=>0<j) λi j=>.int (i % j)) R4:=sO λdx a w e=>by
 cases dx<;>cases a<;>first|cases e|skip
 obtain⟨h,e⟩:=o4 e;cases e;exact⟨_,_,rfl,rfl,h,rfl⟩
theorem zw:AA B (rU λi=>.int (-i)) V1:=by
 intro G H σ ρ x dx w Q R a e p;cases dx<;>first|cases e|skip
 exact⟨_,a.int,p _ G H (i8.refl _) R (.int _)⟩
theorem kY (c:PD X B a ma)(d:PD X B b mb):PD X B (.BinOp a .Sub b pos) (g9 iY ma mb):=kn (λ_=>Fd) zo c d
theorem bj (c:PD X B a ma)(d:PD X B b mb):PD X B (.BinOp a .Mult b pos) (g9 aM ma mb):=kn (λ_=>Ff) zr c d
theorem nk (c:PD X B a ma)(d:PD X B b mb):PD X B (.BinOp a .FloorDiv b pos) (g9 kU ma mb):=kn (λ_=>BY) zu c d
theorem S3 (c:PD X B a ma)(d:PD X B b mb):PD X B (.BinOp a .Mod b pos) (g9 R4 ma mb):=kn (λ_=>Fg) zt c d
theorem aH (b:PD X B a ma):PD X B (.UnaryOp .USub a pos) (cZ V1 ma):=HD (λ_=>xA) zw b
theorem x4 (j:PD X B a ma)(k:PD X B b mb)(m:X.K=B.K:=by rfl):PD X B (.BinOp a .Add b pos) (g9 A3 ma mb):=by
 refine kn (λξ=>(Fh (X:=rz X ξ)).or (rY.or (BZ (K:=B.K) m))) ?_ j k;intro G H σ ρ x y dx n w Q R c d e p;cases dx<;>cases n<;>first|cases e|skip
 ·exact .inl ⟨_,_,c.int,d.int,p _ G H (i8.refl _) R (.int _)⟩
 ·obtain⟨h,e⟩:=o4 e;cases e;refine .inr (.inl ⟨_,_,c.str,d.str,by rw[du,du];exact Q8 h,?_⟩);rw[Eg];exact p _ G H (i8.refl _) R (.str _)
 ·obtain⟨h,e⟩:=o4 e;cases e;obtain⟨l,xs,rfl,o,g⟩:=c.lst R.gH;obtain⟨r,f,rfl,s,i⟩:=d.lst R.gH;refine .inr (.inr ⟨l,r,xs,f,rfl,rfl,o,s,by rw[g.len,i.len];exact Q8 h,λq t=>?_⟩);obtain⟨R',u⟩:=R.cG t (g.append i);exact p _ G _ (i8.refl _) R' u
theorem Ix (c:PD X B a ma)(d:PD X B b mb):PD X B (.Compare a [.Gt] [b] pos) (g9 (Z7 λi j=>decide (j<i)) ma mb):=rV (λ_=>DI) (jD _) c d (fD _)
theorem Bj (c:PD X B a ma)(d:PD X B b mb):mh X B (.Compare a [.Lt] [b] pos) (p6 (g9 (Z7 λi j=>decide (i<j)) ma mb)):=cE (λ_=>HL) (jD _) c d (fD _)
theorem JH (c:PD X B a ma)(d:PD X B b mb):mh X B (.Compare a [.LtE] [b] pos) (p6 (g9 (Z7 λi j=>decide (i≤j)) ma mb)):=cE (λ_=>HM) (jD _) c d (fD _)
theorem Eo (c:PD X B a ma)(d:PD X B b mb):mh X B (.Compare a [.Gt] [b] pos) (p6 (g9 (Z7 λi j=>decide (j<i)) ma mb)):=cE (λ_=>DI) (jD _) c d (fD _)
end
noncomputable def lz (f:D→D→Option Bool):List D→List D→Option Bool
 | [],[]=>some true
 | [],_::_=>some false
 |_::_,[]=>some false
 |x::xs,y::c=>match f x y,lz f xs c with
  |some a,some b=>some (a&&b)
  |_,_=>none
noncomputable def Ik:D→D→Option Bool
 |.v1,.v1=>some true
 |.bl a,.bl b=>some (a==b)
 |.int a,.int b=>some (a==b)
 |.str a,.str b=>some (a==b)
 |.v1,.bl _=>some false
 |.v1,.int _=>some false
 |.v1,.str _=>some false
 |.bl _,.v1=>some false
 |.int _,.v1=>some false
 |.str _,.v1=>some false
 |.tup _,.v1=>some false
 |.lst _,.v1=>some false
 |_,_=>none
noncomputable def dn:Nat→D→D→Option Bool
 |n+1,.tup a,.tup b=>lz (dn n) a b
 |n+1,.lst a,.lst b=>lz (dn n) a b
 |_,d,e=>Ik d e
theorem uU {f:D→D→Option Bool}:∀{xs a:List D} {b:Bool},lz f xs a=some b→xs.length≠a.length→b=false
 | [],[],_,_,h=>absurd rfl h
 | [],_::_,_,e,_=>by cases e;rfl
 |_::_,[],_,e,_=>by cases e;rfl
 |x::xs,y::a,b,e,h=>by
  unfold lz at e;cases c:f x y with
  |none=>rw[c]at e;cases e
  |some p=>
   cases d:lz f xs a with
   |none=>rw[c,d]at e;cases e
   |some q=>
    rw[c,d]at e;cases e;rw[uU d (by simpa using h),fQ]
theorem oM {f:D→D→Option Bool}:∀{xs d:List D} {b:Bool},lz f xs d=some b→∃g:Nat→Bool,(∀(j:Nat) x y,xs[j]?=some x→d[j]?=some y→f x y=some (g j))∧b=((List.range (min xs.length d.length)).all g&&(xs.length==d.length))
 | [],[],_,e=>by cases e;exact⟨λ_=>true,λj x y h=>by simp at h,rfl⟩
 | [],_::_,_,e=>by cases e;exact⟨λ_=>true,λj x y h=>by simp at h,by simp⟩
 |_::_,[],_,e=>by cases e;exact⟨λ_=>true,λj x y _ h=>by simp at h,by simp⟩
 |x::xs,y::d,b,e=>by
  unfold lz at e;cases i:f x y with
  |none=>rw[i]at e;cases e
  |some p=>
   cases k:lz f xs d with
   |none=>rw[i,k]at e;cases e
   |some q=>
    rw[i,k]at e;cases e;obtain⟨g,l,m⟩:=oM k;refine⟨λj=>if j=0 then p else g (j-1),λj n o a c=>?_,?_⟩
    ·cases j with
     |zero=>simp at a c;subst a c;simpa using i
     |succ j=>simpa using l j n o (by simpa using a) (by simpa using c)
    ·have em:min (x::xs).length (y::d).length=min xs.length d.length+1:=by simp only[List.length_cons];omega
     rw[em,List.range_succ_eq_map,List.all_cons,List.all_map,m,List.length_cons,List.length_cons];simp only[if_pos,Bool.and_assoc];congr 2;simp
theorem qJ {f:D→D→Option Bool}{xs a:List D}{b:Bool}(h:lz f xs a=some b)(hl:xs.length=a.length):∃g:Nat→Bool,(∀(j:Nat) x y,xs[j]?=some x→a[j]?=some y→f x y=some (g j))∧b=(List.range xs.length).all g:=by
 obtain⟨g,c,d⟩:=oM h;refine⟨g,c,?_⟩;rw[d,hl];simp
theorem N9.rep {K:PySem.W.Frag}{G H:Hp}{v:V}{d:D}(g:i8 G H)(h:N9 K G H v d):Rep K H v d:=by
 rcases h with h| ⟨p,rfl,h⟩
 ·exact h.same g
 ·cases d with
  |lst ds=>
   obtain⟨xs,e,r⟩:=h;have a:=r.same g;exact .lst (P8.of e) a.len a.get
  |dct es=>
   obtain⟨xs,e,r⟩:=h;have a:=r.same g;exact .dct (.inl e) a.keys a.get
  |_=>exact(show False from h).elim
section
variable {X:Cx}{pins:List (Addr×Obj)}{σ:St}{H:Hp}{s:Shared}
theorem str_beq (a b:List Nat):(tx a==tx b)=(a==b):=by
 rw[Eb,beq_iff_eq,beq_iff_eq];exact xB
theorem CS {A:Around}{a b:Addr}{xs f:List V}{ds es:List D}{g:Nat→Bool}(I:Inv X pins σ H s)(F:bn X.K H a xs)(G:bn X.K H b f)(S:xs.length=ds.length)(T:f.length=es.length)(o:A.units<B3)
  (ih:∀(j:Nat) x y v u,xs[j]?=some x→f[j]?=some y→RelV x v→RelV y u→X7 A.in1 s v u (g j)):
  hJ A s (.ref a) (.ref b) ((List.range (min ds.length es.length)).all g&&(ds.length==es.length))∧dr A s (.ref a) (.ref b) (!((List.range (min ds.length es.length)).all g&&(ds.length==es.length))):=by
 obtain⟨d,q,p,_⟩:=I.tuple F;obtain⟨c,h,r,_⟩:=I.tuple G;have J:=q.length;have L:=h.length;have t:∀j (w:j<d.toArray.size) (z:j<c.toArray.size),X7 A.in1 s d.toArray[j] c.toArray[j] (g j):=λj w z=>by
  have k:j<xs.length:=by simpa[←J]using w
  have l:j<f.length:=by simpa[←L]using z
  obtain⟨N,m,O⟩:=q.get (i:=j) (x:=xs[j]) (by simp[k]);obtain⟨P,n,Q⟩:=h.get (i:=j) (x:=f[j]) (by simp[l]);have f1:d.toArray[j]=N:=by
   have:=(List.getElem?_eq_some_iff.mp m).2;simpa using this
  have R:c.toArray[j]=P:=by
   have:=(List.getElem?_eq_some_iff.mp n).2;simpa using this
  rw[f1,R];exact ih j _ _ _ _ (by simp[k]) (by simp[l]) O Q
 have B:=Mp (e:=g) (A:=A) p r o t;have E:=KF (e:=g) (A:=A) p r o t;have m:d.toArray.size=ds.length:=by rw[List.size_toArray];omega
 have n:c.toArray.size=es.length:=by rw[List.size_toArray];omega
 rw[m,n]at B E;exact⟨B,E⟩
theorem CT {A:Around}{a b:Addr}{xs l:List V}{ds es:List D}{f:D→D→Option Bool}{r:Bool}(I:Inv X pins σ H s)(R:P8 X.K H a xs)(S:P8 X.K H b l)(l1:xs.length=ds.length)(l2:l.length=es.length)(z:A.units<B3)
  (hr:lz f ds es=some r) (ih:∀(j:Nat) x y d e k v u,xs[j]?=some x→l[j]?=some y→ds[j]?=some d→es[j]?=some e→f d e=some k→RelV x v→RelV y u→X7 A.in1 s v u k):
  hJ A s (.ref a) (.ref b) r∧dr A s (.ref a) (.ref b) (!r):=by
 obtain⟨h,J,p,_⟩:=I.list R;obtain⟨c,m,B,_⟩:=I.list S;have T:=J.length;have U:=m.length;have E:h.toArray.size=ds.length:=by rw[List.size_toArray];omega
 have F:c.toArray.size=es.length:=by rw[List.size_toArray];omega
 by_cases hl:ds.length=es.length
 ·obtain⟨g,Y,G⟩:=qJ hr hl;have L:∀j (N:j<h.toArray.size) (O:j<c.toArray.size),X7 A.in1 s h.toArray[j] c.toArray[j] (g j):=λj N O=>by
   have n:j<xs.length:=by simpa[←T]using N
   have o:j<l.length:=by simpa[←U]using O
   have q:j<ds.length:=by omega
   have t:j<es.length:=by omega
   obtain⟨Z,E,r1⟩:=J.get (i:=j) (x:=xs[j]) (by simp[n]);obtain⟨v2,F,r2⟩:=m.get (i:=j) (x:=l[j]) (by simp[o]);have f1:h.toArray[j]=Z:=by
    have:=(List.getElem?_eq_some_iff.mp E).2;simpa using this
   have f2:c.toArray[j]=v2:=by
    have:=(List.getElem?_eq_some_iff.mp F).2;simpa using this
   rw[f1,f2];exact ih j _ _ ds[j] es[j] _ _ _ (by simp[n]) (by simp[o]) (by simp[q]) (by simp[t]) (Y j _ _ (by simp[q]) (by simp[t])) r1 r2
  have P:=My (e:=g) (A:=A) p.isList B.isList (by omega) z L;have Q:=KQ (e:=g) (A:=A) p.isList B.isList (by omega) z L;rw[E,←G]at P Q;exact⟨P,Q⟩
 ·have G:=uU hr hl;subst G;have w:(h.toArray.size != c.toArray.size)=true:=by rw[E,F];simpa using hl
  exact⟨Mx p.isList B.isList w z,KP p.isList B.isList w z⟩
theorem uT {d e:D}{b:Bool}(h:Ik d e=some b)(I:Inv X pins σ H s){A:Around}{x y:V}{v u:Value}(l:Rep X.K H x d)(f:Rep X.K H y e)(g:RelV x v)(c:RelV y u)(a:A.units<B3):
  X7 A s v u b∧hJ A s v u b∧dr A s v u (!b):=by
 cases l with
 |v1=>
  cases g;cases f with
  |v1=>cases h;cases c;exact⟨iv _,Mu,KL⟩
  |bl _=>cases h;cases c;exact⟨MK _,Mw _,KN _⟩
  |int _=>cases h;obtain⟨t,rfl⟩:=c;exact⟨MJ _ _,Mv _ _,KM _ _⟩
  |str _=>cases h;obtain⟨t,rfl⟩:=c;exact⟨MI _ _,Mt _ _,KJ _ _⟩
  |ty _=>cases h
  |tup _ _ _=>cases h
  |lst _ _ _=>cases h
  |dct _ _ _=>cases h
 |bl _=>
  cases g;cases f with
  |v1=>cases h;cases c;exact⟨MP _,MC _,KW _⟩
  |bl _=>cases h;cases c;exact⟨MQ _ _,MD _ _,KX _ _⟩
  |int _=>cases h
  |str _=>cases h
  |ty _=>cases h
  |tup _ _ _=>cases h
  |lst _ _ _=>cases h
  |dct _ _ _=>cases h
 |int _=>
  obtain⟨t,rfl⟩:=g;cases f with
  |v1=>cases h;cases c;exact⟨MN _ _,MA _ _,KS _ _⟩
  |int _=>cases h;obtain⟨m,rfl⟩:=c;exact⟨MO _ _ _ _,MB _ _ _ _,KU _ _ _ _⟩
  |bl _=>cases h
  |str _=>cases h
  |ty _=>cases h
  |tup _ _ _=>cases h
  |lst _ _ _=>cases h
  |dct _ _ _=>cases h
 |str cs=>
  obtain⟨t,rfl⟩:=g;cases f with
  |v1=>cases h;cases c;exact⟨MG _ _,Ms _ _,KI _ _⟩
  |str i=>
   have n:(cs==i)=b:=i9 h;rw[←n,←str_beq];obtain⟨m,rfl⟩:=c;exact⟨MF _ _ _ _,Mr _ _ _ _,KH _ _ _ _⟩
  |bl _=>cases h
  |int _=>cases h
  |ty _=>cases h
  |tup _ _ _=>cases h
  |lst _ _ _=>cases h
  |dct _ _ _=>cases h
 |ty _=>cases f<;>cases h
 |tup j _ _=>
  cases g;cases f with
  |v1=>
   cases h;cases c;obtain⟨k,_,p,_⟩:=I.tuple j;exact⟨ME p a,Mq p a,KG p a⟩
  |bl _=>cases h
  |int _=>cases h
  |str _=>cases h
  |ty _=>cases h
  |tup _ _ _=>cases h
  |lst _ _ _=>cases h
  |dct _ _ _=>cases h
 |lst j _ _=>
  cases g;cases f with
  |v1=>
   cases h;cases c;obtain⟨k,_,p,_⟩:=I.list j;exact⟨ML p.isList a,Mz p.isList a,KR p.isList a⟩
  |bl _=>cases h
  |int _=>cases h
  |str _=>cases h
  |ty _=>cases h
  |tup _ _ _=>cases h
  |lst _ _ _=>cases h
  |dct _ _ _=>cases h
 |dct _ _ _=>cases f<;>cases h
theorem cb {d e:D}{b:Bool}(h:Ik d e=some b){x:V}(a:Rep X.K H x d)(c:Rep X.K H x e):b=true:=by
 cases a<;>cases c<;>first| (exfalso;cases h;done) |skip
 all_goals first| (cases h;rfl) | (cases h;simp)
theorem Gm {g:Nat→Bool}{n:Nat}(h:∀j,j<n→g j=true):(List.range n).all g=true:=by
 rw[List.all_eq_true];intro j a;exact h j (List.mem_range.mp a)
theorem qH {f:D→D→Option Bool}{ds es:List D}{b:Bool}{xs:List V}(h:lz f ds es=some b)(q:xs.length=ds.length)(r:xs.length=es.length)(l:∀(j:Nat) x d,xs[j]?=some x→ds[j]?=some d→Rep X.K H x d)(m:∀(j:Nat) x d,xs[j]?=some x→es[j]?=some d→Rep X.K H x d)
  (n:∀d e k x,f d e=some k→Rep X.K H x d→Rep X.K H x e→k=true):b=true:=by
 obtain⟨g,o,p⟩:=qJ h (by omega);rw[p];refine Gm λj i=>?_;have a:j<es.length:=by omega
 have c:j<xs.length:=by omega
 exact n ds[j] es[j] _ xs[j] (o j _ _ (by simp[i]) (by simp[a])) (l j _ _ (by simp[c]) (by simp[i])) (m j _ _ (by simp[c]) (by simp[a]))
theorem qI (I:Inv X pins σ H s):∀(n:Nat) {d e:D} {b:Bool} {x:V},dn n d e=some b→Rep X.K H x d→Rep X.K H x e→b=true:=by
 intro n;induction n with
 |zero=>
  intro d e b x h p f;exact cb (by cases d<;>exact h) p f
 |succ n ih=>
  intro d e b x h p f;cases p with
  |tup l m o=>
   cases f with
   |tup g i j=>
    have e:=I.hV l g;subst e;exact qH (X:=X) (H:=H) (show lz (dn n) _ _=some b from h) m i o j λd e k x a b c=>ih a b c
   |lst g i j=>cases h
   |dct g i j=>cases h
  |lst l m o=>
   cases f with
   |lst g i j=>
    have e:=I.gJ l g;subst e;exact qH (X:=X) (H:=H) (show lz (dn n) _ _=some b from h) m i o j λd e k x a b c=>ih a b c
   |tup g i j=>cases h
   |dct g i j=>cases h
  |v1=>exact cb (X:=X) (H:=H) (by cases e<;>exact h) .v1 f
  |bl k=>exact cb (X:=X) (H:=H) (by cases e<;>exact h) (.bl k) f
  |int k=>exact cb (X:=X) (H:=H) (by cases e<;>exact h) (.int k) f
  |str k=>exact cb (X:=X) (H:=H) (by cases e<;>exact h) (.str k) f
  |ty k=>exact cb (X:=X) (H:=H) (by cases e<;>exact h) (.ty k) f
  |dct l m o=>cases f<;>cases h
theorem jF (I:Inv X pins σ H s):∀(n:Nat) {d e:D} {b:Bool},dn n d e=some b→∀{A:Around} {x y:V} {v u:Value},Rep X.K H x d→Rep X.K H y e→RelV x v→RelV y u→A.units+n<B3→
  X7 A s v u b∧hJ A s v u b∧dr A s v u (!b):=by
 intro n;induction n with
 |zero=>
  intro d e b h A x y v u f l m o N;exact uT (by cases d<;>exact h) I f l m o (by omega)
 |succ n ih=>
  intro d e b h A x y v u f l m o N;have i:Ik d e=some b→X7 A s v u b∧hJ A s v u b∧dr A s v u (!b):=λh'=>uT h' I f l m o (by omega);cases d with
  |tup ds=>
   cases e with
   |tup es=>
    have c:=λ(p:Rep X.K H x (.tup es))=>qI I (n+1) h f p;cases f with
    | @tup a xs _ E B F=>
     cases l with
     | @tup G J _ r q t=>
      cases m;cases o;obtain⟨g,O,P⟩:=oM (show lz (dn n) ds es=some b from h);have key:=CS (A:=A) (g:=g) I E r B q (by omega) λj x y v u f l m o=>by
       have w:j<ds.length:=by rw[←B];exact(List.getElem?_eq_some_iff.mp f).1
       have z:j<es.length:=by rw[←q];exact(List.getElem?_eq_some_iff.mp l).1
       exact(ih (O j ds[j] es[j] (by simp[w]) (by simp[z])) (A:=A.in1) (F j x _ f (by simp[w])) (t j y _ l (by simp[z])) m o (by show A.units+1+n<_;omega)).1
      rw[←P]at key;refine⟨?_,key⟩;by_cases e:a=G
      ·subst e;have L:=c (.tup r q t);subst L;exact iv _
      ·exact ri e key.1
   |_=>exact i h
  |lst ds=>
   cases e with
   |lst es=>
    have c:=λ(p:Rep X.K H x (.lst es))=>qI I (n+1) h f p;cases f with
    | @lst a xs _ E B F=>
     cases l with
     | @lst G J _ r q t=>
      cases m;cases o;have key:=CT (A:=A) I E r B q (by omega) (show lz (dn n) ds es=some b from h) λj x y d e k v u f l hd Q hk m o=>
       (ih hk (A:=A.in1) (F j x _ f hd) (t j y _ l Q) m o (by show A.units+1+n<_;omega)).1
      refine⟨?_,key⟩;by_cases e:a=G
      ·subst e;have L:=c (.lst r q t);subst L;exact iv _
      ·exact ri e key.1
   |_=>exact i h
  |_=>exact i (by cases e<;>exact h)
end
theorem yE {X:Cx}{K:PySem.W.Frag}(a:X.K=K)(c:X.A.units+8<B3):eS X (v7 .Eq) (λx y H Q=>∃d e b,Rep K H x d∧Rep K H y e∧dn 8 d e=some b∧Q (.bl b) H):=by
 subst a;intro pins s σ H x y v u Q I f g h;obtain⟨d,e,b,i,j,k,q⟩:=h;exact(jF I 8 k i j f g c).2.1 _ _ _ _ (fH I q rfl)
theorem Fe {X:Cx}{K:PySem.W.Frag}(a:X.K=K)(c:X.A.units+8<B3):eS X (v7 .NotEq) (λx y H Q=>∃d e b,Rep K H x d∧Rep K H y e∧dn 8 d e=some b∧Q (.bl (!b)) H):=by
 subst a;intro pins s σ H x y v u Q I f g h;obtain⟨d,e,b,i,j,k,q⟩:=h;exact(jF I 8 k i j f g c).2.2 _ _ _ _ (fH I q rfl)
section
variable {X:Cx}{pins:List (Addr×Obj)}{σ:St}{H:Hp}{s:Shared}
theorem U9 {a:Addr}{T b:String}(h:s.TypeIs (.ref a) T)(h':s.TypeIs (.ref a) b):T=b:=by
 obtain⟨o,e,c⟩:=h;obtain⟨o',d,f⟩:=h';rw[e]at d;cases d;rw[c]at f;injection f
theorem uM {xs:List V}{ds es:List D}(i:xs.length=ds.length)(k:xs.length=es.length)(h:∀(j:Nat) x d e,xs[j]?=some x→ds[j]?=some d→es[j]?=some e→d=e):ds=es:=by
 refine List.ext_getElem? λj=>?_;by_cases c:j<xs.length
 ·have f:j<ds.length:=by omega
  have g:j<es.length:=by omega
  have a:ds[j]?=some ds[j]:=by simp[f]
  have b:es[j]?=some es[j]:=by simp[g]
  rw[a,b,h j xs[j] _ _ (by simp[c]) a b]
 ·rw[List.getElem?_eq_none (by omega),List.getElem?_eq_none (by omega)]
theorem yg {a:Addr}{d e:List (Key×V)}(c:Rd H a (.dK d))(b:Rd H a (.dK e)):d=e:=by
 rcases c with c| ⟨o,c⟩<;>rcases b with b| ⟨f,b⟩<;>rw[c]at b<;>cases b<;>rfl
theorem Rep.inj (I:Inv X pins σ H s){x:V}{d:D}(h:Rep X.K H x d):∀{e:D},Rep X.K H x e→d=e:=by
 induction h with
 |v1=>intro e f;cases f;rfl
 |bl b=>intro e f;cases f;rfl
 |int b=>intro e f;cases f;rfl
 |ty b=>intro e f;cases f;rfl
 |str cs=>
  intro e f;generalize y:V.str (tx cs)=x at f;cases f<;>first| (cases y;done) |skip
  rename_i r;have q:tx cs=tx r:=by injection y
  rw[xB.mp q]
 | @tup a xs ds g n z ih=>
  intro e f;cases f with
  |tup f i k=>
   have q:=I.hV g f;subst q;rw[uM n i λj x d e a b c=>ih j x d a b (k j x e a c)]
  |lst f i k=>
   obtain⟨_,_,p,_⟩:=I.tuple g;obtain⟨_,_,l,_⟩:=I.list f;exact absurd (U9 p.typeIs l.isList.typeIs) (by decide)
  |dct f i k=>
   obtain⟨_,_,p,_⟩:=I.tuple g;obtain⟨_,_,vs,_,m⟩:=S2 I.hok f;exact absurd (U9 p.typeIs m.typeIs) (by decide)
 | @lst a xs ds g n z ih=>
  intro e f;cases f with
  |lst f i k=>
   have q:=I.gJ g f;subst q;rw[uM n i λj x d e a b c=>ih j x d a b (k j x e a c)]
  |tup f i k=>
   obtain⟨_,_,p,_⟩:=I.list g;obtain⟨_,_,l,_⟩:=I.tuple f;exact absurd (U9 p.isList.typeIs l.typeIs) (by decide)
  |dct f i k=>
   obtain⟨_,_,p,_⟩:=I.list g;obtain⟨_,_,vs,_,m⟩:=S2 I.hok f;exact absurd (U9 p.isList.typeIs m.typeIs) (by decide)
 | @dct a kvs ds g n z ih=>
  intro e f;cases f with
  | @dct _ A es f i k=>
   have B:=yg g f;subst B;congr 1;have E:kvs.length=ds.length:=by have:=congrArg List.length n;simpa using this
   have F:kvs.length=es.length:=by have:=congrArg List.length i;simpa using this
   refine List.ext_getElem? λj=>?_;by_cases o:j<kvs.length
   ·have g:j<ds.length:=by omega
    have f:j<es.length:=by omega
    have t:ds[j]?=some ds[j]:=by simp[g]
    have u:es[j]?=some es[j]:=by simp[f]
    have v:(kvs.map (·.1))[j]?=(ds.map (·.1))[j]?:=by rw[n]
    have w:(kvs.map (·.1))[j]?=(es.map (·.1))[j]?:=by rw[i]
    rw[List.getElem?_map,List.getElem?_map,t,show kvs[j]?=some kvs[j] by simp[o]]at v;rw[List.getElem?_map,List.getElem?_map,u,show kvs[j]?=some kvs[j] by simp[o]]at w;have q:=ih j kvs[j] ds[j] (by simp[o]) t (k j kvs[j] es[j] (by simp[o]) u);rw[t,u];congr 1;refine xr ?_ q;simp at v w;rw[←v,←w]
   ·rw[List.getElem?_eq_none (by omega),List.getElem?_eq_none (by omega)]
  |tup f i k=>
   obtain⟨_,_,vs,_,m⟩:=S2 I.hok g;obtain⟨_,_,l,_⟩:=I.tuple f;exact absurd (U9 m.typeIs l.typeIs) (by decide)
  |lst f i k=>
   obtain⟨_,_,vs,_,m⟩:=S2 I.hok g;obtain⟨_,_,l,_⟩:=I.list f;exact absurd (U9 m.typeIs l.isList.typeIs) (by decide)
end
noncomputable def kH (d:D):List D→Option Bool
 | []=>some false
 |y::c=>match dn 7 y d,kH d c with
  |some a,some b=>some (a||b)
  |_,_=>none
open Classical in
noncomputable def S1 (K:PySem.W.Frag) (H:Hp) (d:D) (u:Value):Bool:=decide (∃y e,RelV y u∧Rep K H y e∧dn 7 e d=some true)
section
variable {X:Cx}{pins:List (Addr×Obj)}{σ:St}{H:Hp}{s:Shared}
theorem kR (I:Inv X pins σ H s){y:V}{u:Value}{d e:D}{b:Bool}(r:RelV y u)(h:Rep X.K H y e)(a:dn 7 e d=some b):S1 X.K H d u=b:=by
 unfold S1;cases b with
 |true=>exact @decide_eq_true _ (ml _) ⟨y,e,r,h,a⟩
 |false=>
  refine @decide_eq_false _ (ml _) ?_
  rintro ⟨y',e',r',h',he'⟩
  have q:=r'.inj r;subst q;have c:=h'.inj I h;subst c;rw[a]at he';cases he'
theorem kG (I:Inv X pins σ H s){d:D}:∀{ds:List D} {xs:List V} {us:List Value} {b:Bool},kH d ds=some b→n9 X.K H xs ds→Vals xs us→us.any (S1 X.K H d)=b
 | [],[],us,b,h,_,v=>by cases v;cases h;rfl
 | [],_::_,_,_,_,r,_=>by have:=r.len;simp at this
 |_::_,[],_,_,_,r,_=>by have:=r.len;simp at this
 |e::ds,x::xs,us,b,h,r,v=>by
  cases v with
  |cons f v=>
   unfold kH at h;cases a:dn 7 e d with
   |none=>rw[a]at h;cases h
   |some p=>
    cases c:kH d ds with
    |none=>rw[a,c]at h;cases h
    |some q=>
     rw[a,c]at h;cases h;rw[List.any_cons,kR I f r.head a,kG I c r.tail v]
theorem eE (I:Inv X pins σ H s){d:D}{f:V}{g:Value}{A:Around}(i:Rep X.K H f d)(j:RelV f g)(a:A.units+7<B3):∀{ds:List D} {xs:List V} {us:List Value} {b:Bool},kH d ds=some b→n9 X.K H xs ds→Vals xs us→∀u∈us,X7 A s u g (S1 X.K H d u)
 | [],[],us,b,h,_,v=>by cases v;intro u a;cases a
 | [],_::_,_,_,_,r,_=>by have:=r.len;simp at this
 |_::_,[],_,_,_,r,_=>by have:=r.len;simp at this
 |e::ds,x::xs,us,b,h,r,v=>by
  cases v with
  |cons k v=>
   unfold kH at h;cases c:dn 7 e d with
   |none=>rw[c]at h;cases h
   |some p=>
    cases l:kH d ds with
    |none=>rw[c,l]at h;cases h
    |some q=>
     intro u hm;rcases List.mem_cons.mp hm with rfl|hm
     ·rw[kR I k r.head c];exact(jF I 7 c r.head i k j a).1
     ·exact eE I i j a l r.tail v u hm
end
theorem yC {X:Cx}{K:PySem.W.Frag}(k:X.K=K)(n:X.A.units+8<B3):eS X (v7 .In) (λx y H Q=>∃d ds b p xs,Rep K H x d∧y=.ref p∧(P8 K H p xs∨bn K H p xs)∧n9 K H xs ds∧kH d ds=some b∧Q (.bl b) H):=by
 subst k;intro pins s σ H x y v u Q I i l h;obtain⟨d,ds,b,p,xs,j,rfl,c,hr,e,q⟩:=h;cases l;rcases c with c|c
 ·obtain⟨a,r,f,m⟩:=I.list c;refine SeqAt.in_listAt (S1 X.K H d) f.isList (λw g=>eE I j i (by show X.A.units+1+7<_;omega) e hr r w (by simpa using g)) ⟨.bl _,H,I,rfl,?_⟩;rw[show a.toArray.any (S1 X.K H d)=a.any (S1 X.K H d) by simp,kG I e hr r];exact q
 ·obtain⟨a,r,f,m⟩:=I.tuple c;refine SeqAt.in_tupleAt (S1 X.K H d) f (λw g=>eE I j i (by show X.A.units+1+7<_;omega) e hr r w (by simpa using g)) ⟨.bl _,H,I,rfl,?_⟩;rw[show a.toArray.any (S1 X.K H d)=a.any (S1 X.K H d) by simp,kG I e hr r];exact q
theorem vZ {X:Cx}{K:PySem.W.Frag}(k:X.K=K)(n:X.A.units+8<B3):eS X (v7 .NotIn) (λx y H Q=>∃d ds b p xs,Rep K H x d∧y=.ref p∧(P8 K H p xs∨bn K H p xs)∧n9 K H xs ds∧kH d ds=some b∧Q (.bl (!b)) H):=by
 subst k;intro pins s σ H x y v u Q I i l h;obtain⟨d,ds,b,p,xs,j,rfl,c,hr,e,q⟩:=h;cases l;rcases c with c|c
 ·obtain⟨a,r,f,m⟩:=I.list c;refine SeqAt.notIn_listAt (S1 X.K H d) f.isList (λw g=>eE I j i (by show X.A.units+1+7<_;omega) e hr r w (by simpa using g)) ⟨.bl _,H,I,rfl,?_⟩;rw[show a.toArray.any (S1 X.K H d)=a.any (S1 X.K H d) by simp,kG I e hr r];exact q
 ·obtain⟨a,r,f,m⟩:=I.tuple c;refine SeqAt.notIn_tupleAt (S1 X.K H d) f (λw g=>eE I j i (by show X.A.units+1+7<_;omega) e hr r w (by simpa using g)) ⟨.bl _,H,I,rfl,?_⟩;rw[show a.toArray.any (S1 X.K H d)=a.any (S1 X.K H d) by simp,kG I e hr r];exact q
noncomputable def keyOf:D→Option Key
 |.int i=>some (.inl i)
 |.str cs=>some (.inr (tx cs))
 |_=>none
noncomputable def M6 (es:List (Key×D))(k:Key):Option D:=(es.find? λkv=>decide (kv.1=k)).map (·.2)
noncomputable def putD (es:List (Key×D))(k:Key)(d:D):List (Key×D):=if(es.any λkv=>decide (kv.1=k))=true then es.map λkv=>if kv.1=k then(kv.1,d)else kv else es++[(k,d)]
section
variable {K:PySem.W.Frag}{G:Hp}
theorem m3.nil:m3 K G [] []:=⟨rfl,λj p e h=>by simp at h⟩
theorem m3.cons {p:Key×V}{e:Key×D}{kvs:List (Key×V)}{es:List (Key×D)}(hk:p.1=e.1)(h:Rep K G p.2 e.2)(r:m3 K G kvs es):m3 K G (p::kvs) (e::es):=by
 refine⟨by rw[List.map_cons,List.map_cons,hk,r.keys],λj x y a b=>?_⟩;cases j with
 |zero=>simp at a b;subst a b;exact h
 |succ j=>exact r.get j x y (by simpa using a) (by simpa using b)
theorem m3.inv {p:Key×V}{e:Key×D}{kvs:List (Key×V)}{es:List (Key×D)}(r:m3 K G (p::kvs) (e::es)):p.1=e.1∧Rep K G p.2 e.2∧m3 K G kvs es:=by
 have k:=r.keys;rw[List.map_cons,List.map_cons]at k;exact⟨(List.cons.inj k).1,r.get 0 p e rfl rfl,(List.cons.inj k).2,λj x y a b=>r.get (j+1) x y (by simpa using a) (by simpa using b)⟩
theorem m3.len {kvs:List (Key×V)}{es:List (Key×D)}(r:m3 K G kvs es):kvs.length=es.length:=by have:=congrArg List.length r.keys;simpa using this
theorem m3.ind {P:List (Key×V)→List (Key×D)→Prop}(d:P [] [])(f:∀p e kvs es,p.1=e.1→Rep K G p.2 e.2→m3 K G kvs es→P kvs es→P (p::kvs) (e::es)):∀{kvs:List (Key×V)} {es:List (Key×D)},m3 K G kvs es→P kvs es
 | [],[],_=>d
 | [],_::_,r=>by have:=r.len;simp at this
 |_::_,[],r=>by have:=r.len;simp at this
 |p::kvs,e::es,r=>by
  obtain⟨a,b,c⟩:=r.inv;exact f p e kvs es a b c (m3.ind d f c)
theorem m3.val {kvs:List (Key×V)}{es:List (Key×D)}(r:m3 K G kvs es)(k:Key):(∀d,M6 es k=some d→∃v,dt kvs k=some v∧Rep K G v d)∧(M6 es k=none→dt kvs k=none):=by
 refine m3.ind (P:=λkvs es=>(∀d,M6 es k=some d→∃v,dt kvs k=some v∧Rep K G v d)∧(M6 es k=none→dt kvs k=none)) ⟨λd h=>by simp[M6]at h,λ_=>rfl⟩ (λp e kvs es hk hr _ ih=>?_) r;by_cases h:p.1=k
 ·have h':e.1=k:=by rw[←hk];exact h
  refine⟨λd q=>⟨p.2,fY h,?_⟩,λq=>?_⟩
  ·simp[M6,List.find?_cons,h']at q;subst q;exact hr
  ·simp[M6,List.find?_cons,h']at q
 ·have h':¬e.1=k:=by rw[←hk];exact h
  have a:M6 (e::es) k=M6 es k:=by simp[M6,List.find?_cons,h']
  rw[a,fZ h];exact ih
theorem m3.append {kvs a:List (Key×V)}{es fs:List (Key×D)}(r:m3 K G kvs es)(b:m3 K G a fs):m3 K G (kvs++a) (es++fs):=
 m3.ind (P:=λkvs es=>m3 K G (kvs++a) (es++fs)) b (λp e kvs es hk hr _ ih=>m3.cons hk hr ih) r
theorem m3.put {kvs:List (Key×V)}{es:List (Key×D)}{v:V}{d:D}(r:m3 K G kvs es)(k:Key)(h:Rep K G v d):m3 K G (putK kvs k v) (putD es k d):=by
 have b:(kvs.any λkv=>decide (kv.1=k))=(es.any λkv=>decide (kv.1=k)):=m3.ind (P:=λkvs es=>(kvs.any λkv=>decide (kv.1=k))=(es.any λkv=>decide (kv.1=k))) rfl (λp e kvs es hk hr _ ih=>by rw[List.any_cons,List.any_cons,hk,ih]) r;unfold putK putD;rw[b];split
 ·exact m3.ind (P:=λkvs es=>m3 K G (kvs.map λkv=>if kv.1=k then(kv.1,v)else kv) (es.map λkv=>if kv.1=k then(kv.1,d)else kv)) .nil (λp e kvs es hk hr _ ih=>by
   rw[List.map_cons,List.map_cons];by_cases a:p.1=k
   ·rw[if_pos a,if_pos (by rw[←hk];exact a)];exact m3.cons hk h ih
   ·rw[if_neg a,if_neg (by rw[←hk];exact a)];exact m3.cons hk hr ih) r
 ·exact r.append (m3.cons (p:=(k,v)) (e:=(k,d)) rfl h .nil)
theorem eC {K:PySem.W.Frag}{G H:Hp}{v:V}{d:D}{k:Key}(h:N9 K G H v d)(e:keyOf d=some k):v=kV k:=by
 cases d<;>first| (cases e;done) |skip
 ·cases e;exact h.int
 ·cases e;exact h.str
theorem n9.fN {xs:List V}{ds:List D}(h:n9 K G xs ds){i:Int}{d:D}(e:L2.fN ds i=some d):∃x,L2.fN xs i=some x∧Rep K G x d:=by
 unfold L2.fN at e⊢;rw[h.len];cases a:wz ds.length i with
 |none=>rw[a]at e;cases e
 |some j=>
  rw[a]at e;exact h.at e
end
theorem yD {X:Cx}(e:X.A.units+8<B3):eS X (v7 .In) (λx y H Q=>∃a o,y=.ref a∧dm H a x o∧Q (.bl o.isSome) H):=by
 intro pins s σ H x y v u Q I b c h;obtain⟨a,o,rfl,g,q⟩:=h;cases c;exact Ko (by omega) I g b λf d=>⟨.bl _,H,d,rfl,q⟩
theorem wd {X:Cx}(e:X.A.units+8<B3):eS X (v7 .NotIn) (λx y H Q=>∃a o,y=.ref a∧dm H a x o∧Q (.bl (!o.isSome)) H):=by
 intro pins s σ H x y v u Q I b c h;obtain⟨a,o,rfl,g,q⟩:=h;cases c;exact CZ (by omega) I g b λf d=>⟨.bl _,H,d,rfl,q⟩
noncomputable def JU (a b:List Nat):Bool:=!(A2 (tx b) (tx a) 0 (tx b).length 1).isEmpty
noncomputable def zh:D→D→Option Bool
 |d,.lst ds=>kH d ds
 |d,.tup ds=>kH d ds
 |.str a,.str b=>some (JU a b)
 |d,.dct es=>(keyOf d).map λk=>(M6 es k).isSome
 |_,_=>none
noncomputable def inD (d e:D):Option W:=(zh d e).bind vB
noncomputable def N1 (d e:D):Option W:=(zh d e).bind λb=>vB (!b)
section
variable {X:Cx}{B:Bs}{e a b c:Expr}{ma mb mc:M W}{pos:Pos}
theorem zi {G H:Hp}{σ:St}{ρ:k0}{x y:V}{dx m:D}{b:Bool}(R:RS B G H σ ρ)(g:N9 B.K G H x dx)(h:N9 B.K G H y m)(e:zh dx m=some b):
  (∃d ds p xs,Rep B.K H x d∧y=.ref p∧(P8 B.K H p xs∨bn B.K H p xs)∧n9 B.K H xs ds∧kH d ds=some b)∨(∃i j,x=.str i∧y=.str j∧b=(!(A2 j i 0 j.length 1).isEmpty))∨(∃a o,y=.ref a∧dm H a x o∧b=o.isSome):=by
 cases m with
 |lst ds=>
  obtain⟨p,xs,rfl,c,f⟩:=h.lst R.gH;exact .inl ⟨dx,ds,p,xs,g.rep R.gH,rfl,.inl c,f.same R.gH,by cases dx<;>exact e⟩
 |tup ds=>
  obtain⟨p,xs,rfl,c,f⟩:=h.tup R.gH;exact .inl ⟨dx,ds,p,xs,g.rep R.gH,rfl,.inr c,f.same R.gH,by cases dx<;>exact e⟩
 |dct es=>
  obtain⟨p,kvs,rfl,c,f⟩:=h.dct R.gH;have l:(keyOf dx).map (λk=>(M6 es k).isSome)=some b:=by cases dx<;>exact e
  cases hk:keyOf dx with
  |none=>rw[hk]at l;cases l
  |some k=>
   rw[hk]at l;cases l;have n:=eC g hk;subst n;refine .inr (.inr ⟨p,dt kvs k,rfl,dm.r c,?_⟩);obtain⟨s,t⟩:=f.val k;show(M6 es k).isSome=_;cases hd:M6 es k with
   |none=>rw[t hd];rfl
   |some d=>
    obtain⟨v,q,_⟩:=s d hd;rw[q];rfl
 |str cs=>
  cases dx<;>first| (cases e;done) |skip
  cases e;exact .inr (.inl ⟨_,_,g.str,h.str,rfl⟩)
 |_=>cases dx<;>cases e
theorem uF:eT B (λx y H Q=>(∃d ds b p xs,Rep B.K H x d∧y=.ref p∧(P8 B.K H p xs∨bn B.K H p xs)∧n9 B.K H xs ds∧kH d ds=some b∧Q (.bl b) H)∨(∃i j,x=.str i∧y=.str j∧Q (.bl (!(A2 j i 0 j.length 1).isEmpty)) H)∨(∃a o,y=.ref a∧dm H a x o∧Q (.bl o.isSome) H)) inD:=by
 intro G H σ ρ x y dx k w Q R l m e p;unfold inD at e;cases h:zh dx k with
 |none=>rw[h]at e;cases e
 |some b=>
  rw[h]at e;cases e;have fin:Q (.bl b) H:=p _ G H (i8.refl _) R (.bl _);rcases zi R l m h with⟨d,ds,n,xs,c,f,g,q,r⟩ | ⟨i,j,c,f,g⟩ | ⟨a,o,c,f,g⟩
  ·exact .inl ⟨d,ds,b,n,xs,c,f,g,q,r,fin⟩
  ·exact .inr (.inl ⟨i,j,c,f,by rw[←g];exact fin⟩)
  ·exact .inr (.inr ⟨a,o,c,f,by rw[←g];exact fin⟩)
theorem sM:eT B (λx y H Q=>(∃d ds b p xs,Rep B.K H x d∧y=.ref p∧(P8 B.K H p xs∨bn B.K H p xs)∧n9 B.K H xs ds∧kH d ds=some b∧Q (.bl (!b)) H)∨(∃i j,x=.str i∧y=.str j∧Q (.bl (!(!(A2 j i 0 j.length 1).isEmpty))) H)∨(∃a o,y=.ref a∧dm H a x o∧Q (.bl (!o.isSome)) H)) N1:=by
 intro G H σ ρ x y dx k w Q R l m e p;unfold N1 at e;cases h:zh dx k with
 |none=>rw[h]at e;cases e
 |some b=>
  rw[h]at e;cases e;have fin:Q (.bl (!b)) H:=p _ G H (i8.refl _) R (.bl _);rcases zi R l m h with⟨d,ds,n,xs,c,f,g,q,r⟩ | ⟨i,j,c,f,g⟩ | ⟨a,o,c,f,g⟩
  ·exact .inl ⟨d,ds,b,n,xs,c,f,g,q,r,fin⟩
  ·exact .inr (.inl ⟨i,j,c,f,by rw[←g];exact fin⟩)
  ·exact .inr (.inr ⟨a,o,c,f,by rw[←g];exact fin⟩)
theorem Iw (c:X.A.units+8<B3)(d:PD X B a ma)(e:PD X B b mb)(f:y4 .In b=false:=by with_unfolding_all rfl)(g:X.K=B.K:=by rfl):PD X B (.Compare a [.In] [b] pos) (g9 inD ma mb):=rV (λξ=>(yC (X:=rz X ξ) g c).or (mO.or (yD c))) uF d e f
theorem lE (c:X.A.units+8<B3)(d:PD X B a ma)(e:PD X B b mb)(f:y4 .In b=false:=by with_unfolding_all rfl)(g:X.K=B.K:=by rfl):mh X B (.Compare a [.In] [b] pos) (p6 (g9 inD ma mb)):=cE (λξ=>(yC (X:=rz X ξ) g c).or (mO.or (yD c))) uF d e f
theorem cv (c:X.A.units+8<B3)(d:PD X B a ma)(e:PD X B b mb)(f:y4 .NotIn b=false:=by with_unfolding_all rfl)(g:X.K=B.K:=by rfl):mh X B (.Compare a [.NotIn] [b] pos) (p6 (g9 N1 ma mb)):=cE (λξ=>(vZ (X:=rz X ξ) g c).or (ol.or (wd c))) sM d e f
end
noncomputable def aw:D→Bool
 |.v1=>true
 |_=>false
section
variable {X:Cx}{B:Bs}{e a b c:Expr}{ma mb mc:M W}{pos:Pos}
theorem uD {K:PySem.W.Frag}{G H:Hp}{v:V}{d:D}(h:N9 K G H v d):decide (v=.v1)=aw d:=by
 cases d with
 |v1=>rw[h.v1];rfl
 |_=>
  refine decide_eq_false ?_
  rintro rfl
  rcases h with h| ⟨p,e,_⟩
  ·cases h
  ·cases e
theorem zx:AA B (λx H Q=>Q (.bl (decide (x=.v1))) H) (λd=>vB (aw d)):=by
 intro G H σ ρ x dx w Q R a e p;cases e;rw[uD a];exact p _ G H (i8.refl _) R (.bl _)
theorem wF:AA B (λx H Q=>Q (.bl (!decide (x=.v1))) H) (λd=>vB (!aw d)):=by
 intro G H σ ρ x dx w Q R a e p;cases e;rw[uD a];exact p _ G H (i8.refl _) R (.bl _)
theorem Ha {j pos'}(b:PD X B a ma):mh X B (.Compare a [.Is] [.Constant .none j pos'] pos) (p6 (cZ (λd=>vB (aw d)) ma)):=.mk λξ=>(yk (EZ (b.ap ξ))).imp λ_ _ _ t=>rG zx (rF t)
theorem En {j pos'}(b:PD X B a ma):mh X B (.Compare a [.IsNot] [.Constant .none j pos'] pos) (p6 (cZ (λd=>vB (!aw d)) ma)):=.mk λξ=>(yk (BV (b.ap ξ))).imp λ_ _ _ t=>rG wF (rF t)
end
noncomputable def vD:D→Option Bool
 |.v1=>some false
 |.bl b=>some b
 |.int i=>some (i != 0)
 |.str cs=>cm (small cs.length) (some ((cs.length:Int) != 0))
 |.lst ds=>some (!ds.isEmpty)
 |.tup ds=>some (!ds.isEmpty)
 |_=>none
noncomputable def V4 (m:M W):M Bool:=M.bind m λw=>λρ=>match getD w ρ with
 |some d=>(vD d).map (R'.ok · ρ)
 |none=>none
noncomputable def gF (a b:M Bool):M Bool:=M.bind a λk=>if k=true then b else M.pure false
noncomputable def qp (a b:M Bool):M Bool:=M.bind a λk=>if k=true then M.pure true else b
noncomputable def ig (a:M Bool):M Bool:=M.bind a λk=>M.pure (!k)
noncomputable def Ft (w:W):M Bool:=λρ=>match getD w ρ with
 |some (.bl b)=>some (.ok b ρ)
 |_=>none
noncomputable def gE (a b:M W):M W:=M.bind a λw=>M.bind (Ft w) λk=>if k=true then b else mC (.bl false)
noncomputable def uu (a:M W):M W:=M.bind a λw=>M.bind (Ft w) λk=>mC (.bl (!k))
theorem iQ {α b:Type}{xs:List α}{a:List b}(h:xs.length=a.length):xs.isEmpty=a.isEmpty:=by
 cases xs<;>cases a<;>simp_all
section
variable {X:Cx}{B:Bs}{e a b c:Expr}{ma mb mc:M W}{pos:Pos}{rest:List Expr}
theorem Bf {G H:Hp}{σ:St}{ρ:k0}{x:V}{d:D}{k:Bool}(R:RS B G H σ ρ)(h:N9 B.K G H x d)(e:vD d=some k):Dk B.K x H k:=by
 cases d with
 |v1=>cases e;rw[h.v1];rfl
 |bl b=>cases e;rw[h.bl];rfl
 |int i=>cases e;rw[h.int];rfl
 |str cs=>
  obtain⟨z,e⟩:=o4 e;cases e;rw[h.str];exact⟨by rw[du];exact Q8 z,by rw[du]⟩
 |lst ds=>
  cases e;obtain⟨p,xs,rfl,a,c⟩:=h.lst R.gH;exact .inl ⟨xs,a,by rw[iQ c.len]⟩
 |tup ds=>
  cases e;obtain⟨p,xs,rfl,a,c⟩:=h.tup R.gH;exact .inr (.inl ⟨xs,a,by rw[iQ c.len]⟩)
 |dct es=>cases e
 |ty n=>cases e
theorem U3 (h:PD X B a ma)(i:∀b,AV a X.env b=(do let v←b;tK a.pos;W2 [v] (truthy v)):=by exact λ_=>rfl)(j:X.K=B.K:=by rfl):mh X B a (V4 ma):=.mk λξ=>
 (yj (X:=rz X ξ) (h.ap ξ) i).imp λσ H Q t=>by
  obtain⟨G,ρ,R,t⟩:=t;refine(TD.bind (rel:=C2) R t).mono λx g ⟨l,c,w,s1,f,m,r,e,p⟩=>?_;cases hd:getD w c with
  |none=>simp only[hd]at e;cases e
  |some d=>
   simp only[hd]at e;cases hk:vD d with
   |none=>rw[hk]at e;cases e
   |some k=>
    rw[hk]at e;cases e;refine⟨k,?_,p k l g (i8.refl _) f rfl⟩;show Dk X.K x g k;rw[j];exact Bf f (m.get f hd) hk
theorem El {ξ:XP}{b c:M Bool}{σ:St}{H:Hp}{Q:Bool→Hp→Prop}(t:TD dk B ξ (gF b c) σ H Q):Hl (TD dk B ξ b) (TD dk B ξ c) σ H Q:=by
 obtain⟨G,ρ,R,t⟩:=t;refine(TD.bind (rel:=dk) R t).mono λk h ⟨d,a,i,s1,f,j,g⟩=>?_;cases(show k=i from j);cases k with
 |true=>exact⟨d,a,f,g⟩
 |false=>
  obtain⟨r,e,p⟩:=g;cases e;exact p false d h (i8.refl _) f rfl
theorem GY {ξ:XP}{b c:M Bool}{σ:St}{H:Hp}{Q:Bool→Hp→Prop}(t:TD dk B ξ (qp b c) σ H Q):Lw (TD dk B ξ b) (TD dk B ξ c) σ H Q:=by
 obtain⟨G,ρ,R,t⟩:=t;refine(TD.bind (rel:=dk) R t).mono λk h ⟨d,a,i,s1,f,j,g⟩=>?_;cases(show k=i from j);cases k with
 |false=>exact⟨d,a,f,g⟩
 |true=>
  obtain⟨r,e,p⟩:=g;cases e;exact p true d h (i8.refl _) f rfl
theorem jN {b:M Bool}(c:mh X B a b):DR X B (.BoolOp .And [a] pos) b:=.mk λξ=>BC (c.ap ξ)
theorem pC {b:M Bool}(c:mh X B a b):DR X B (.BoolOp .Or [a] pos) b:=.mk λξ=>EE (c.ap ξ)
theorem w_and {c d:M Bool}(e:mh X B a c)(f:DR X B (.BoolOp .And (b::rest) pos) d):DR X B (.BoolOp .And (a::b::rest) pos) (gF c d):=.mk λξ=>(EF (e.ap ξ) (f.ap ξ)).imp λ_ _ _ t=>El t
theorem w_or {c d:M Bool}(e:mh X B a c)(f:DR X B (.BoolOp .Or (b::rest) pos) d):DR X B (.BoolOp .Or (a::b::rest) pos) (qp c d):=.mk λξ=>(Hx (e.ap ξ) (f.ap ξ)).imp λ_ _ _ t=>GY t
theorem eX {b:M Bool}(c:mh X B a b):mh X B (.UnaryOp .Not a pos) (ig b):=.mk λξ=>(EH (c.ap ξ)).imp λσ H Q t=>by
 obtain⟨G,ρ,R,t⟩:=t;refine(TD.bind (rel:=dk) R t).mono λk d ⟨f,g,h,s1,i,j,r,e,p⟩=>?_;cases(show k=h from j);cases e;exact p (!k) f d (i8.refl _) i rfl
theorem uv {ξ:XP}{α c:Type}{a:Rel α c}{w:W}{f:Bool→M α}{G H:Hp}{ρ:k0}{σ:St}{Q:c→Hp→Prop}{x:V}(R:RS B G H σ ρ)(q:E2 B G H σ ρ x w)(t:cj a B ξ G ρ (M.bind (Ft w) f) σ Q):∃k,x=.bl k∧cj a B ξ G ρ (f k) σ Q:=by
 obtain⟨k,ρ',e,t⟩:=t.step λr h=>by
  unfold Ft at h;split at h
  ·cases h;exact⟨_,_,rfl⟩
  ·cases h
 unfold Ft at e;split at e
 ·rename_i b hd;cases e;exact⟨k,(q.get R hd).bl,t⟩
 ·cases e
theorem Bi {ξ:XP}{σ:St}{H:Hp}{Q:VK}(t:TD C2 B ξ (gE ma mb) σ H Q):Dw (TD C2 B ξ ma) (TD C2 B ξ mb) σ H Q:=by
 obtain⟨G,ρ,R,t⟩:=t;refine(TD.bind (rel:=C2) R t).mono λx f ⟨c,a,w,s1,b,g,h⟩=>?_;obtain⟨k,rfl,d⟩:=uv b g h;refine⟨k,rfl,?_⟩;cases k with
 |true=>exact⟨c,a,b,d⟩
 |false=>
  obtain⟨r,e,p⟩:=d;cases e;exact p _ c f (i8.refl _) b (.bl _)
theorem zX {op}(b:PD X B a ma):PD X B (.BoolOp op [a] pos) ma:=.mk λξ=>EU (b.ap ξ)
theorem Aa (c:PD X B a ma)(d:PD X B (.BoolOp .And (b::rest) pos) mb):PD X B (.BoolOp .And (a::b::rest) pos) (gE ma mb):=.mk λξ=>(EY (c.ap ξ) (d.ap ξ)).imp λ_ _ _ t=>Bi t
theorem Iv (c:PD X B a ma):PD X B (.UnaryOp .Not a pos) (uu ma):=.mk λξ=>(EV (c.ap ξ)).imp λσ H Q t=>by
 obtain⟨G,ρ,R,t⟩:=t;refine(TD.bind (rel:=C2) R t).mono λx d ⟨f,g,w,s1,b,h,i⟩=>?_;obtain⟨k,rfl,r,e,p⟩:=uv b h i;cases e;exact⟨k,rfl,p _ f d (i8.refl _) b (.bl _)⟩
end
theorem uB {X:Cx}(j:X.A.units+8<B3):Az X (λx y H Q=>∃a v,x=.ref a∧dm H a y (some v)∧Q v H):=by
 intro b c pins s σ H x y v u Q I d e h hs;obtain⟨a,z,rfl,g,q⟩:=h;cases d;exact LF (qO I g) PySem.F.slot_dict_getitem.lookup (xb (by omega) I g e λk l f i=>⟨z,H,f,i,q⟩) hs
noncomputable def x0:D→D→Option W
 |.lst ds,.int i=>(fN ds i).map W.val
 |.tup ds,.int i=>(fN ds i).map W.val
 |.str cs,.int i=>cm (small cs.length) ((fN cs i).map λc=>W.val (.str [c]))
 |.dct es,k=>(keyOf k).bind λk=>(M6 es k).map W.val
 |_,_=>none
section
variable {X:Cx}{B:Bs}{e a b c:Expr}{ma mb mc:M W}{pos:Pos}
theorem uE:eT B (λx y H Q=>ED B.K x y H Q∨EC B.K x y H Q∨Hw x y H Q∨∃a v,x=.ref a∧dm H a y (some v)∧Q v H) x0:=by
 intro G H σ ρ x y dx b w Q R l m e p;cases dx with
 |lst ds=>
  cases b<;>first| (cases e;done) |skip
  obtain⟨d,f,rfl⟩:=g7.mp e;obtain⟨q,xs,rfl,g,h⟩:=l.lst R.gH;obtain⟨v,i,j⟩:=h.fN f;exact .inl ⟨q,xs,_,v,rfl,m.int,g,i,p v G H (i8.refl _) R j⟩
 |tup ds=>
  cases b<;>first| (cases e;done) |skip
  obtain⟨d,f,rfl⟩:=g7.mp e;obtain⟨q,xs,rfl,g,h⟩:=l.tup R.gH;obtain⟨v,i,j⟩:=h.fN f;exact .inr (.inl ⟨q,xs,_,v,rfl,m.int,g,i,p v G H (i8.refl _) R j⟩)
 |str cs=>
  cases b<;>first| (cases e;done) |skip
  obtain⟨z,e⟩:=o4 e;obtain⟨c,f,rfl⟩:=g7.mp e;refine .inr (.inr (.inl ⟨tx cs,_,c,l.str,m.int,by rw[du];exact Q8 z,by simpa using f,p _ G H (i8.refl _) R (.str [c])⟩))
 |dct es=>
  have n:(keyOf b).bind (λk=>(M6 es k).map W.val)=some w:=by cases b<;>exact e
  cases hk:keyOf b with
  |none=>rw[hk]at n;cases n
  |some k=>
   rw[hk]at n;obtain⟨d,f,rfl⟩:=g7.mp n;obtain⟨q,kvs,rfl,g,h⟩:=l.dct R.gH;have o:=eC m hk;subst o;obtain⟨v,i,j⟩:=(h.val k).1 d f;refine .inr (.inr (.inr ⟨q,v,rfl,?_,p v G H (i8.refl _) R j⟩));rw[←i];exact dm.r g
 |_=>cases b<;>cases e
theorem v4 (d:X.A.units+8<B3)(e:PD X B a ma)(f:PD X B b mb)(hs:ph b:=by exact λ_ _=>rfl)(c:X.K=B.K:=by rfl):PD X B (.Subscript a b pos) (g9 x0 ma mb):=.mk λξ=>
 (DG (X:=rz X ξ) ((qA (X:=rz X ξ) (K:=B.K) c).or ((uA (X:=rz X ξ) (K:=B.K) c).or (za.or (uB d)))) (e.ap ξ) (f.ap ξ) hs).imp λ_ _ _ t=>nH uE t
end
noncomputable def EA:Rel (Option Int) (Option Int):=λ_ _ _ _ _ v b=>v=b
structure Jj (X:Cx) (B:Bs) (e:Option Expr) (m:M (Option Int)):Prop where
 ap:∀ξ,PO (rz X ξ) e (TD EA B ξ m)
noncomputable def ku (m:M W):M (Option Int):=M.bind m λw=>λρ=>match getD w ρ with
 |some (.int i)=>some (.ok (some i) ρ)
 |_=>none
noncomputable def cutD (ds:List D)(lo hi:Option Int):List D:=(ds.drop (HT.B9 ds.length 0 lo)).take (HT.B9 ds.length ds.length hi-HT.B9 ds.length 0 lo)
noncomputable def IZ:D→Option Int→Option Int→Option W
 |.lst ds,lo,hi=>some (.own (.lst (cutD ds lo hi)))
 |.str cs,lo,hi=>cm (small cs.length) (some (.val (.str (oO cs lo hi))))
 |.tup ds,lo,hi=>some (.val (.tup (cutD ds lo hi)))
 |_,_,_=>none
noncomputable def Fs (a:M W)(b c:M (Option Int)):M W:=M.bind (O2 a) λx=>M.bind b λlo=>M.bind c λhi=>GH (λd=>IZ d lo hi) x
theorem vw {P:Program}{w:World}{A:Around}{E:Value→Shared→Prop}{s:Shared}{t c:Addr}{a:Array Value}{h i:Value}{lo hi:Option Int}{Q:Value→Shared→Prop}(it:Ea s.heap t a)(is:s.heap.IsSliceOf c h i .none)(j:IsPart h lo)(k:IsPart i hi)
  (l:HT.B9 a.size 0 lo=0) (m:HT.B9 a.size a.size hi=a.size) (q:Q (.ref t) s):wpAny (model P w) A (fS (.ref t) (.ref c)) Q E s:=by
 have n:s.TypeIs (.ref c) "slice":=by obtain⟨o,b,e,_⟩:=id is;exact⟨o,b,e⟩
 unfold fS
 (try with_reducible refine v8 ?_)
 (first|refine f7 (i3 ?_) |skip)
 refine f7 (IM (T:="tuple") it.typeIs (by decide) ?_);refine f7 (X5 (T:="tuple") (name:=Str.ofString "__getitem__") it.typeIs u2 (aJ (T:="tuple") u2 it.typeIs Ld ?_ (Ln _ _)));show wpAny (model P w) _ (hP (.ref t) >>= _) _ _ s;refine f7 (KY it (f7 (S7 n ?_)));rw[if_pos (by decide)];refine f7 (HT.bP is j k ?_);rw[l,m];have f:((((0:Nat):Int)==0&&(1:Int)==1&&(a.size-0)==a.size)=true):=by simp
 show wpAny (model P w) _ (if(((0:Nat):Int)==0&&(1:Int)==1&&(a.size-0)==a.size)=true then _ else _) _ _ s;rw[if_pos f];obtain⟨o,b,e,_⟩:=id it;have p:s.TypeIs (.ref t) "tuple":=⟨o,b,e⟩
 obtain⟨r,g,d,u,os⟩:=s;unfold JC;repeat (any_goals (first|assumption|wp_step))
 exact⟨_,rfl,i3 q⟩
theorem xR {X:Cx}{K:PySem.W.Frag}(a:X.K=K):Ax X (Hu K):=by subst a;exact Bp
theorem xP {X:Cx}{K:PySem.W.Frag}(e:X.K=K):Ax X (λx lo hi H Q=>∃a xs,x=.ref a∧bn K H a xs∧HT.B9 xs.length 0 lo=0∧HT.B9 xs.length xs.length hi=xs.length∧Q (.ref a) H):=by
 subst e;intro pins s σ H x v l m lo hi sl Q I f hs g pu h;obtain⟨a,xs,rfl,i,j,k,q⟩:=h;cases f;obtain⟨c,r,d,n⟩:=I.tuple i;have b:c.toArray.size=xs.length:=by rw[List.size_toArray,r.length]
 exact⟨"tuple",_,u2.lookup,d.typeIs,vw d hs g pu (by rw[b];exact j) (by rw[b];exact k) ⟨.ref a,H,I,rfl,q⟩⟩
theorem Bo {X:Cx}{K:PySem.W.Frag}(a:X.K=K):Ax X (Ht K):=by subst a;exact Ev
section
variable {X:Cx}{B:Bs}{e a b c:Expr}{ma mb mc:M W}{pos p2:Pos}{lo hi:Option Expr}
theorem sd:Jj X B none (M.pure none):=.mk λξ pins s σ H Q I h=>BL pins s σ H Q I (by
 obtain⟨G,ρ,R,r,e,p⟩:=h;cases e;exact p none G H (i8.refl _) R rfl)
theorem rZ (h:PD X B e ma):Jj X B (some e) (ku ma):=.mk λξ pins s σ H Q I t=>BK (h.ap ξ) pins s σ H Q I (by
 obtain⟨G,ρ,R,t⟩:=t;refine(TD.bind (rel:=C2) R t).mono λx b ⟨c,d,w,s1,a,f,r,e,p⟩=>?_;dsimp only at e;split at e
 ·rename_i i hd;cases e;exact⟨i,(f.get a hd).int,p (some i) c b (i8.refl _) a rfl⟩
 ·cases e)
theorem Gc {y A:M (Option Int)}(E:PD X B a ma)(hl:Jj X B lo y)(F:Jj X B hi A)(k:X.K=B.K:=by rfl):PD X B (.Subscript a (.Slice lo hi none p2) pos) (Fs ma y A):=.mk λξ=>
 (yv (X:=rz X ξ) ((xR (X:=rz X ξ) (K:=B.K) k).or (Ew.or ((Bo (X:=rz X ξ) (K:=B.K) k).or (xP (X:=rz X ξ) (K:=B.K) k)))) (E.ap ξ) (hl.ap ξ) (F.ap ξ)).imp λσ H Q t=>by
  obtain⟨G,ρ,R,t⟩:=t;have I:TD jg B ξ (O2 ma) σ H _:=TD.bind (rel:=jg) R t;refine TD.O2 (I.mono λx H1 ⟨G1,J,L,s1,N,⟨O,m⟩,P⟩=>?_);refine(TD.bind (rel:=EA) N P).mono λl H2 ⟨G2,S,T,s2,R2,U,Y⟩=>?_;cases(show l=T from U);refine(TD.bind (rel:=EA) R2 Y).mono λu n ⟨b,o,Z,s3,c,q3,t4⟩=>?_;cases(show u=Z from q3);obtain⟨dx,w,e1,e,p⟩:=uh t4;have i:=(O.keep (s2.trans s3) m:E2 B b n σ o x L).get c e1;cases dx with
  |lst ds=>
   cases e;obtain⟨q,xs,rfl,j,d⟩:=i.lst c.gH;refine .inl ⟨q,xs,rfl,j,λpp r=>?_⟩;have s:n9 B.K b (lV xs l u) (cutD ds l u):=by
    unfold lV cutD;rw[d.len];exact(d.drop _).take _
   obtain⟨R',v⟩:=c.cG r s;exact p _ b _ (i8.refl _) R' v
  |str cs=>
   obtain⟨z,e⟩:=o4 e;cases e;exact .inr (.inl ⟨cs,i.str,z,p _ b n (i8.refl _) c (.str _)⟩)
  |tup ds=>
   cases e;have f:Rep B.K b x (.tup ds):=by
    rcases i with h| ⟨_,_,hf⟩
    ·exact h
    ·exact(show False from hf).elim
   obtain⟨q,xs,rfl,j,d⟩:=i.tup c.gH;by_cases g:HT.B9 xs.length 0 l=0∧HT.B9 xs.length xs.length u=xs.length
   ·have ec:cutD ds l u=ds:=by
     unfold cutD;rw[←d.len,g.1,g.2,List.drop_zero,List.take_of_length_le (by rw[d.len];omega)]
    rw[ec]at p;exact .inr (.inr (.inr ⟨q,xs,rfl,j,g.1,g.2,p _ b n (i8.refl _) c f⟩))
   ·refine .inr (.inr (.inl ⟨q,xs,rfl,j,g,λpp r=>?_⟩));have s:n9 B.K b (lV xs l u) (cutD ds l u):=by
     unfold lV cutD;rw[d.len];exact(d.drop _).take _
    obtain⟨G',s',R',v⟩:=c.ov r s;exact p _ G' _ s' R' v
  |_=>cases e
end
noncomputable def i7:M (List W):=M.pure []
noncomputable def f6 (m:M W)(r:M (List W)):M (List W):=M.bind (O2 m) λx=>M.bind r λxs=>M.pure (x::xs)
section
variable {X:Cx}{B:Bs}{e a b c:Expr}{es:List Expr}{ma mb mc:M W}{mr:M (List W)}{pos p2:Pos}
theorem h8:fO X B [] i7:=.mk λξ=>(Fa (X:=rz X ξ)).imp λσ H Q t=>by
 obtain⟨G,ρ,R,r,e,p⟩:=t;cases e;exact p [] G H (i8.refl _) R .nil
theorem kk {G G' H H':Hp}{σ:St}{ρ ρ':k0}(s:i8 G G'):∀{vs:List V} {a:List W},M3 B G H σ ρ vs a→M3 B G' H' σ ρ' vs a
 |_,_,.nil=>.nil
 |_,_,.cons ⟨h,st⟩ t=>.cons ⟨h.keep s st,st⟩ (kk s t)
theorem e9 (b:PD X B e ma)(hr:fO X B es mr)(hs:f9 (e::es) X.env=(false,eval e X.env)::f9 es X.env:=by rfl):fO X B (e::es) (f6 ma mr):=.mk λξ=>
 (BW (X:=rz X ξ) (b.ap ξ) (hr.ap ξ) hs).imp λσ H Q t=>by
  obtain⟨G,ρ,R,t⟩:=t;have c:TD jg B ξ (O2 ma) σ H _:=TD.bind (rel:=jg) R t;refine TD.O2 (c.mono λx n ⟨o,d,q,s1,f,⟨g,a⟩,h⟩=>?_);refine(TD.bind (rel:=M3) f h).mono λxs i ⟨j,k,s,s2,R2,l,r,m,p⟩=>?_;cases m;exact p (x::xs) j i (i8.refl _) R2 (.cons ⟨g.keep s2 a,a⟩ l)
end
noncomputable def av:List W→M (List D)
 | []=>M.pure []
 |w::a=>M.bind (D0 w) λd=>M.bind (av a) λds=>M.pure (d::ds)
noncomputable def M7 (m:M (List W)):M W:=M.bind m λa=>M.bind (av a) λds ρ=>cm (small ds.length) (some (.ok (.val (.tup ds)) ρ))
noncomputable def O3 (m:M (List W)):M W:=M.bind m λa=>M.bind (av a) λds ρ=>cm (small ds.length) (some (.ok (.own (.lst ds)) ρ))
section
variable {X:Cx}{B:Bs}{e a b c:Expr}{es:List Expr}{ma mb mc:M W}{mr:M (List W)}{pos p2:Pos}
theorem bW:∀{a:List W} {ρ:k0} {r:R' (List D)},av a ρ=some r→∃ds ρ',r=.ok ds ρ'
 | [],_,_,h=>by cases h;exact⟨_,_,rfl⟩
 |w::a,ρ,r,h=>by
  unfold av at h;cases b:D0 w ρ with
  |none=>rw[M.bind_none b]at h;cases h
  |some g=>
   obtain⟨d,c,rfl⟩:=Z0 b;rw[M.j5 b]at h;cases e:av a c with
   |none=>rw[M.bind_none e]at h;cases h
   |some i=>
    obtain⟨ds,f,rfl⟩:=bW e;rw[M.j5 e]at h;cases h;exact⟨_,_,rfl⟩
theorem bV:∀{c:List W} {vs:List V} {G H:Hp} {σ:St} {ρ ρ':k0} {ds:List D},RS B G H σ ρ→M3 B G H σ ρ vs c→av c ρ=some (.ok ds ρ')→∃G',i8 G G'∧RS B G' H σ ρ'∧n9 B.K G' vs ds
 | [],_,G,H,σ,ρ,ρ',ds,R,q,e=>by
  cases q;cases e;exact⟨G,i8.refl _,R,.nil⟩
 |w::c,_,G,H,σ,ρ,ρ',ds,R,q,e=>by
  cases q with
  | @cons v _ vs _ f t=>
   unfold av at e;cases hl:D0 w ρ with
   |none=>rw[M.bind_none hl]at e;cases e
   |some m=>
    obtain⟨d,b,rfl⟩:=Z0 hl;rw[M.j5 hl]at e;cases a:av c b with
    |none=>rw[M.bind_none a]at e;cases e
    |some n=>
     obtain⟨g,h,rfl⟩:=bW a;rw[M.j5 a]at e;cases e;obtain⟨o,s1,i,j⟩:=f.1.D0 R hl;obtain⟨k,s2,R2,l⟩:=bV (ρ:=b) i (kk s1 t) a;exact⟨k,s1.trans s2,R2,.cons (j.same s2) l⟩
theorem J1 {x1}(h:fO X B es mr):PD X B (.Tuple es x1 pos) (M7 mr):=.mk λξ=>(ES (h.ap ξ)).imp λσ H Q t=>by
 obtain⟨G,ρ,R,t⟩:=t;refine(TD.bind (rel:=M3) R t).mono λvs q ⟨s,c,u,s1,d,e,f⟩=>?_;obtain⟨ds,g,i,r,a,p⟩:=f.step λr h=>bW h;obtain⟨j,a⟩:=o4 a;cases a;obtain⟨v,s2,R2,b⟩:=bV d e i;refine⟨by rw[b.len];exact Q8 j,λw k=>?_⟩;obtain⟨l,m,n,o⟩:=R2.ov k b;exact p _ l _ (s2.trans m) n o
theorem M4 (h:fO X B es mr):PD X B (.List es pos) (O3 mr):=.mk λξ=>(EX (h.ap ξ)).imp λσ H Q t=>by
 obtain⟨G,ρ,R,t⟩:=t;refine(TD.bind (rel:=M3) R t).mono λvs o ⟨q,c,s,s1,d,e,f⟩=>?_;obtain⟨ds,g,i,r,a,p⟩:=f.step λr h=>bW h;obtain⟨j,a⟩:=o4 a;cases a;obtain⟨k,s2,R2,b⟩:=bV d e i;refine⟨by rw[b.len];exact Q8 j,λu l=>?_⟩;obtain⟨m,n⟩:=R2.cG l b;exact p _ k _ s2 m n
noncomputable def iJ:M W:=M.pure (.own (.dct []))
theorem lc:PD X B (.Dict [] [] pos) iJ:=.mk λξ=>(yx (X:=rz X ξ)).imp λσ H Q t=>by
 obtain⟨G,ρ,R,r,e,p⟩:=t;cases e;intro d a;obtain⟨b,c⟩:=R.ks a .nil;exact p _ G _ (i8.refl _) b c
end
noncomputable def X2:List W→k0→Option (List D)
 | [],_=>some []
 |w::a,ρ=>match getD w ρ,X2 a ρ with
  |some d,some ds=>some (d::ds)
  |_,_=>none
noncomputable def Ja (f:List D→Option W)(a:List W):M W:=λρ=>match X2 a ρ with
 |some ds=>(f ds).map (R'.ok · ρ)
 |none=>none
noncomputable def C4 (f:List D→Option W)(m:M (List W)):M W:=M.bind m λa=>Ja f a
noncomputable abbrev rc (K:PySem.W.Frag)(G H:Hp):List V→List D→Prop:=Paired λv d=>N9 K G H v d
def fP (B:Bs)(r:List V→Hp→VK→Prop)(f:List D→Option W):Prop:=∀{G H:Hp} {σ:St} {ρ:k0} {xs:List V} {ds:List D} {w:W} {Q:VK},RS B G H σ ρ→rc B.K G H xs ds→f ds=some w→
 (∀v G' H',i8 G G'→RS B G' H' σ ρ→E2 B G' H' σ ρ v w→Q v H')→r xs H Q
theorem Ca {B:Bs}{ξ:XP}{f:List D→Option W}{a:List W}{G:Hp}{ρ:k0}{σ:St}{Q:VK}(t:cj C2 B ξ G ρ (Ja f a) σ Q):∃ds w,X2 a ρ=some ds∧f ds=some w∧∀v G' H',i8 G G'→RS B G' H' σ ρ→E2 B G' H' σ ρ v w→Q v H':=by
 obtain⟨r,e,p⟩:=t;unfold Ja at e;cases c:X2 a ρ with
 |none=>rw[c]at e;cases e
 |some dx=>
  rw[c]at e;simp only[]at e;cases b:f dx with
  |none=>rw[b]at e;cases e
  |some w=>
   rw[b]at e;cases e;exact⟨dx,w,rfl,b,p⟩
theorem aa {B:Bs}{G H:Hp}{σ:St}{ρ:k0}(R:RS B G H σ ρ):∀{a:List W} {vs:List V} {ds:List D},M3 B G H σ ρ vs a→X2 a ρ=some ds→rc B.K G H vs ds
 | [],_,ds,q,e=>by cases q;cases e;exact .nil
 |w::a,_,ds,q,e=>by
  cases q with
  |cons h t=>
   unfold X2 at e;cases b:getD w ρ with
   |none=>rw[b]at e;cases e
   |some d=>
    cases c:X2 a ρ with
    |none=>rw[b,c]at e;cases e
    |some f=>
     rw[b,c]at e;cases e;exact .cons (h.1.get R b) (aa R t c)
section
variable {X:Cx}{B:Bs}{e a b c:Expr}{es:List Expr}{ma mb mc:M W}{mr:M (List W)}{pos p:Pos}{x:Str}{id T:String}
theorem pJ {ξ:XP}{r:List V→Hp→VK→Prop}{f:List D→Option W}(hi:fP B r f){σ:St}{H:Hp}{Q:VK}(t:TD C2 B ξ (C4 f mr) σ H Q):GE r (TD M3 B ξ mr) σ H Q:=by
 obtain⟨G,ρ,R,t⟩:=t;refine(TD.bind (rel:=M3) R t).mono λvs h ⟨i,b,j,s1,a,c,d⟩=>?_;obtain⟨ds,w,e,g,p⟩:=Ca d;exact hi a (aa a c e) g p
theorem eJ {r:List V→Hp→VK→Prop}{f:List D→Option W}(c:∀ξ,J2 (rz X ξ) (.builtin id) r)(hi:fP B r f)(d:Gl X x)(g:X.mg x=none)(h:K4 x=some (.builtin id))(i:fO X B (e::es) mr)(j:x≠"__name__":=by decide) (a:(x==("__debug__":Str))=false:=by decide)
  (k:f9 (e::es) X.env=(false,eval e X.env)::f9 es X.env:=by rfl) (b:(l8 pos (f9 es X.env)).any (·.1)=false:=by rfl):PD X B (.Call (.Name x p) (e::es) [] pos) (C4 f mr):=.mk λξ=>
 (yz (X:=rz X ξ) (c ξ) d g h (i.ap ξ) j a k b).imp λ_ _ _ t=>pJ hi t
theorem lf {r:List V→Hp→VK→Prop}{f:List D→Option W}(c:∀ξ,J2 (rz X ξ) (.type T) r)(hi:fP B r f)(d:Gl X x)(g:X.mg x=none)(h:K4 x=some (.type T))(i:fO X B (e::es) mr)(j:x≠"__name__":=by decide) (a:(x==("__debug__":Str))=false:=by decide)
  (k:f9 (e::es) X.env=(false,eval e X.env)::f9 es X.env:=by rfl) (b:(l8 pos (f9 es X.env)).any (·.1)=false:=by rfl):PD X B (.Call (.Name x p) (e::es) [] pos) (C4 f mr):=.mk λξ=>
 (vX (X:=rz X ξ) (c ξ) d g h (i.ap ξ) j a k b).imp λ_ _ _ t=>pJ hi t
end
noncomputable def V5:List D→Option W
 | [.lst ds]=>vI ds.length
 | [.tup ds]=>vI ds.length
 | [.str cs]=>cm (small cs.length) (vI cs.length)
 | [.dct es]=>vI es.length
 |_=>none
noncomputable def S6:List D→Option W
 | [.int i]=>vI i.natAbs
 |_=>none
noncomputable def dM:List D→Option W
 | [.lst ds]=>some (.own (.lst ds))
 | [.tup ds]=>some (.own (.lst ds))
 | [.dct es]=>some (.own (.lst (es.map λe=>match e.1 with|.inl i=>D.int i|.inr x=>D.str x.cps.toList)))
 |_=>none
noncomputable def cr:List D→Option W
 | [.lst ds]=>some (.val (.tup ds))
 | [.tup ds]=>some (.val (.tup ds))
 |_=>none
noncomputable def ci:List D→Option (List Bool)
 | []=>some []
 |.bl b::ds=>(ci ds).map (b::·)
 |_=>none
noncomputable def tD:List D→Option W
 | [.lst ds]=>(ci ds).bind λbs=>vB (bs.all id)
 |_=>none
noncomputable def xo:List D→Option W
 | [.lst ds]=>(ci ds).bind λbs=>vB (bs.any id)
 |_=>none
theorem lp:∀{ds:List D} {bs:List Bool},ci ds=some bs→ds=bs.map D.bl
 | [],_,h=>by cases h;rfl
 |.bl b::ds,bs,h=>by
  unfold ci at h;obtain⟨a,e,rfl⟩:=g7.mp h;rw[lp e];rfl
 |.v1::_,_,h=>by cases h
 |.int _::_,_,h=>by cases h
 |.str _::_,_,h=>by cases h
 |.ty _::_,_,h=>by cases h
 |.tup _::_,_,h=>by cases h
 |.lst _::_,_,h=>by cases h
 |.dct _::_,_,h=>by cases h
theorem Aq {K:PySem.W.Frag}{G:Hp}:∀{bs:List Bool} {xs:List V},n9 K G xs (bs.map D.bl)→xs=bs.map V.bl
 | [],[],_=>rfl
 | [],_::_,r=>by have:=r.len;simp at this
 |_::_,[],r=>by have:=r.len;simp at this
 |b::bs,x::xs,r=>by
  have h:=r.head;cases h;rw[Aq r.tail];rfl
section
variable {X:Cx}{B:Bs}{e a b c:Expr}{es:List Expr}{ma mb mc:M W}{mr:M (List W)}{pos p:Pos}
theorem G8 {K:PySem.W.Frag}{G H:Hp}{xs:List V}{d:D}(h:rc K G H xs [d]):∃x,xs=[x]∧N9 K G H x d:=by
 cases h with
 |cons h t=>cases t;exact⟨_,rfl,h⟩
theorem rC {K:PySem.W.Frag}{G H:Hp}{xs:List V}{d a:D}(h:rc K G H xs [d,a]):∃x y,xs=[x,y]∧N9 K G H x d∧N9 K G H y a:=by
 cases h with
 |cons h t=>
  obtain⟨y,rfl,b⟩:=G8 t;exact⟨_,y,rfl,h,b⟩
theorem tw:∀{X:Cx},J2 X (.builtin "len") (λxs H Q=>∃a kvs,xs=[V.ref a]∧Rd H a (.dK kvs)∧Q (.int kvs.length) H):=by
 intro X pins s σ H xs us Q I r h;obtain⟨a,kvs,rfl,b,q⟩:=h;obtain⟨u,rfl,c⟩:=vals1 r;cases c;exact L2.X4 I b λt e d=>⟨.int kvs.length,H,d,⟨t,rfl⟩,q⟩
theorem zj:fP B (λxs H Q=>(∃p b,xs=[.ref p]∧(P8 B.K H p b∨bn B.K H p b)∧Q (.int b.length) H)∨(∃z,xs=[.str z]∧z.length≤sizeLine∧Q (.int z.length) H)∨∃a kvs,xs=[V.ref a]∧Rd H a (.dK kvs)∧Q (.int kvs.length) H) V5:=by
 intro G H σ ρ xs ds w Q R h e p
 match ds,e with
 | [.lst ds],e=>
  cases e;obtain⟨x,rfl,c⟩:=G8 h;obtain⟨q,b,rfl,d,f⟩:=c.lst R.gH;exact .inl ⟨q,b,rfl,.inl d,by rw[f.len];exact p _ G H (i8.refl _) R (.int _)⟩
 | [.tup ds],e=>
  cases e;obtain⟨x,rfl,c⟩:=G8 h;obtain⟨q,b,rfl,d,f⟩:=c.tup R.gH;exact .inl ⟨q,b,rfl,.inr d,by rw[f.len];exact p _ G H (i8.refl _) R (.int _)⟩
 | [.str cs],e=>
  obtain⟨z,e⟩:=o4 e;cases e;obtain⟨x,rfl,c⟩:=G8 h;exact .inr (.inl ⟨tx cs,by rw[c.str],by rw[du];exact Q8 z,by rw[du];exact p _ G H (i8.refl _) R (.int _)⟩)
 | [.dct es],e=>
  cases e;obtain⟨x,rfl,c⟩:=G8 h;obtain⟨q,b,rfl,d,f⟩:=c.dct R.gH;exact .inr (.inr ⟨q,b,rfl,d,by rw[f.len];exact p _ G H (i8.refl _) R (.int _)⟩)
theorem X4 (b:X.mg "len"=none) (c:fO X B [e] mr) (d:Gl X "len":=by rfl) (f:X.K=B.K:=by rfl) (g:f9 [e] X.env=(false,eval e X.env)::f9 [] X.env:=by rfl) (a:(l8 pos (f9 [] X.env)).any (·.1)=false:=by rfl):PD X B (.Call (.Name "len" p) [e] [] pos) (C4 V5 mr):=
 eJ (λξ=>(xh (X:=rz X ξ) (K:=B.K) f).or (oV.or tw)) zj d b PySem.boot_len c (by decide) (by decide) g a
theorem zn:fP B (λxs H Q=>∃i,xs=[.int i]∧Q (.int (if i<0 then -i else i)) H) S6:=by
 intro G H σ ρ xs ds w Q R h e p
 match ds,e with
 | [.int i],e=>
  cases e;obtain⟨x,rfl,a⟩:=G8 h;refine⟨i,by rw[a.int],?_⟩;have b:(if i<0 then -i else i)=((i.natAbs:Nat):Int):=by split<;>omega
  rw[b];exact p _ G H (i8.refl _) R (.int _)
theorem dX (b:X.mg "abs"=none) (c:fO X B [e] mr) (d:Gl X "abs":=by rfl) (f:f9 [e] X.env=(false,eval e X.env)::f9 [] X.env:=by rfl) (a:(l8 pos (f9 [] X.env)).any (·.1)=false:=by rfl):PD X B (.Call (.Name "abs" p) [e] [] pos) (C4 S6 mr):=
 eJ (λξ=>Ao) zn d b Lm c (by decide) (by decide) f a
theorem lZ {X:Cx}{K:PySem.W.Frag}(b:X.K=K):J2 X (.type "list") (λxs H Q=>∃p a,xs=[.ref p]∧(P8 K H p a∨bn K H p a)∧∀l,H l=none→Q (.ref l) (upd H l (.lst a))):=by subst b;exact oU
theorem ll {X:Cx}{K:PySem.W.Frag}(b:X.K=K):J2 X (.type "tuple") (λxs H Q=>∃p a,xs=[.ref p]∧((P8 K H p a∧∀l,H l=none→Q (.ref l) (upd H l (.tup a)))∨(bn K H p a∧Q (.ref p) H))):=by subst b;exact lX
theorem yY {K:PySem.W.Frag}{G:Hp}{kvs:List (Key×V)}{es:List (Key×D)}(r:m3 K G kvs es):n9 K G (kvs.map λkv=>kV kv.1) (es.map λe=>match e.1 with|.inl i=>D.int i|.inr x=>D.str x.cps.toList):=by
 refine m3.ind (P:=λkvs es=>n9 K G (kvs.map λkv=>kV kv.1) (es.map λe=>match e.1 with|.inl i=>D.int i|.inr x=>D.str x.cps.toList)) .nil (λp e kvs es hk hr _ ih=>?_) r;rw[List.map_cons,List.map_cons];refine .cons ?_ ih;rw[hk];cases e.1 with
 |inl i=>exact .int i
 |inr x=>exact jx x
theorem wD:fP B (λxs H Q=>(∃p b,xs=[.ref p]∧(P8 B.K H p b∨bn B.K H p b)∧∀l,H l=none→Q (.ref l) (upd H l (.lst b)))∨∃a kvs,xs=[.ref a]∧Rd H a (.dK kvs)∧∀p,H p=none→Q (.ref p) (upd H p (.lst (kvs.map λkv=>kV kv.1)))) dM:=by
 intro G H σ ρ xs ds w Q R h e p
 match ds,e with
 | [.lst ds],e=>
  cases e;obtain⟨x,rfl,c⟩:=G8 h;obtain⟨q,b,rfl,d,f⟩:=c.lst R.gH;refine .inl ⟨q,b,rfl,.inl d,λl hl=>?_⟩;obtain⟨R',g⟩:=R.cG hl f;exact p _ G _ (i8.refl _) R' g
 | [.tup ds],e=>
  cases e;obtain⟨x,rfl,c⟩:=G8 h;obtain⟨q,b,rfl,d,f⟩:=c.tup R.gH;refine .inl ⟨q,b,rfl,.inr d,λl hl=>?_⟩;obtain⟨R',g⟩:=R.cG hl f;exact p _ G _ (i8.refl _) R' g
 | [.dct es],e=>
  cases e;obtain⟨x,rfl,c⟩:=G8 h;obtain⟨q,b,rfl,d,f⟩:=c.dct R.gH;refine .inr ⟨q,b,rfl,d,λl hl=>?_⟩;obtain⟨R',g⟩:=R.cG hl (yY f);exact p _ G _ (i8.refl _) R' g
theorem io (b:X.calm=true)(c:X.mg "list"=none) (d:fO X B [e] mr) (f:Gl X "list":=by rfl) (g:X.K=B.K:=by rfl) (h:f9 [e] X.env=(false,eval e X.env)::f9 [] X.env:=by rfl) (a:(l8 pos (f9 [] X.env)).any (·.1)=false:=by rfl):PD X B (.Call (.Name "list" p) [e] [] pos) (C4 dM mr):=
 lf (λξ=>(lZ (X:=rz X ξ) (K:=B.K) g).or (lm b)) wD f c bK d (by decide) (by decide) h a
theorem sJ:fP B (λxs H Q=>∃p b,xs=[.ref p]∧((P8 B.K H p b∧∀l,H l=none→Q (.ref l) (upd H l (.tup b)))∨(bn B.K H p b∧Q (.ref p) H))) cr:=by
 intro G H σ ρ xs ds w Q R h e p
 match ds,e with
 | [.lst ds],e=>
  cases e;obtain⟨x,rfl,a⟩:=G8 h;obtain⟨q,b,rfl,c,d⟩:=a.lst R.gH;refine⟨q,b,rfl,.inl ⟨c,λl hl=>?_⟩⟩;obtain⟨G',f,R',g⟩:=R.ov hl d;exact p _ G' _ f R' g
 | [.tup ds],e=>
  cases e;obtain⟨x,rfl,a⟩:=G8 h;have i:=a;rcases a with a| ⟨_,_,j⟩
  ·cases a with
   |tup c k d=>exact⟨_,_,rfl,.inr ⟨R.gH.tup c,p _ G H (i8.refl _) R (.tup c k d)⟩⟩
  ·exact(show False from j).elim
theorem cV (b:X.mg "tuple"=none) (c:fO X B [e] mr) (d:Gl X "tuple":=by rfl) (f:X.K=B.K:=by rfl) (g:f9 [e] X.env=(false,eval e X.env)::f9 [] X.env:=by rfl) (a:(l8 pos (f9 [] X.env)).any (·.1)=false:=by rfl):PD X B (.Call (.Name "tuple" p) [e] [] pos) (C4 cr mr):=
 lf (λξ=>ll (X:=rz X ξ) (K:=B.K) f) sJ d b jL c (by decide) (by decide) g a
theorem zm:fP B (λxs H Q=>∃(p:Addr) (bs:List Bool),xs=[.ref p]∧P8 B.K H p (bs.map V.bl)∧Q (.bl (bs.all id)) H) tD:=by
 intro G H σ ρ xs ds w Q R h e p
 match ds,e with
 | [.lst ds],e=>
  obtain⟨x,rfl,b⟩:=G8 h;have e:(ci ds).bind (λbs=>vB (bs.all id))=some w:=e;cases a:ci ds with
  |none=>rw[a]at e;cases e
  |some bs=>
   rw[a]at e;cases e;rw[lp a]at b;obtain⟨q,f,rfl,c,d⟩:=b.lst R.gH;rw[Aq d]at c;exact⟨q,bs,rfl,c,p _ G H (i8.refl _) R (.bl _)⟩
theorem zl:fP B (λxs H Q=>∃(p:Addr) (bs:List Bool),xs=[.ref p]∧P8 B.K H p (bs.map V.bl)∧Q (.bl (bs.any id)) H) xo:=by
 intro G H σ ρ xs ds w Q R h e p
 match ds,e with
 | [.lst ds],e=>
  obtain⟨x,rfl,b⟩:=G8 h;have e:(ci ds).bind (λbs=>vB (bs.any id))=some w:=e;cases a:ci ds with
  |none=>rw[a]at e;cases e
  |some bs=>
   rw[a]at e;cases e;rw[lp a]at b;obtain⟨q,f,rfl,c,d⟩:=b.lst R.gH;rw[Aq d]at c;exact⟨q,bs,rfl,c,p _ G H (i8.refl _) R (.bl _)⟩
theorem uX (b:X.calm=true)(c:X.mg "all"=none) (d:fO X B [e] mr) (f:Gl X "all":=by rfl) (g:X.K=B.K:=by rfl) (h:f9 [e] X.env=(false,eval e X.env)::f9 [] X.env:=by rfl) (a:(l8 pos (f9 [] X.env)).any (·.1)=false:=by rfl):PD X B (.Call (.Name "all" p) [e] [] pos) (C4 tD mr):=
 eJ (λξ=>xk (X:=rz X ξ) (K:=B.K) g b) zm f c Ll d (by decide) (by decide) h a
theorem DN (b:X.calm=true)(c:X.mg "any"=none) (d:fO X B [e] mr) (f:Gl X "any":=by rfl) (g:X.K=B.K:=by rfl) (h:f9 [e] X.env=(false,eval e X.env)::f9 [] X.env:=by rfl) (a:(l8 pos (f9 [] X.env)).any (·.1)=false:=by rfl):PD X B (.Call (.Name "any" p) [e] [] pos) (C4 xo mr):=
 eJ (λξ=>xj (X:=rz X ξ) (K:=B.K) g b) zl f c Lk d (by decide) (by decide) h a
end
inductive SR where
 |nx (ρ:k0) |rt (w:W) (ρ:k0) |bk (ρ:k0) |ct (ρ:k0) |ex (x:Gv) (ρ:k0)
noncomputable abbrev SM:=k0→Option SR
noncomputable def iW (B:Bs)(ξ:XP)(G:Hp)(b:Ends):SR→Prop
 |.nx ρ'=>∀a G' H',i8 G G'→RS B G' H' a ρ'→b.nx a H'
 |.bk ρ'=>∀a G' H',i8 G G'→RS B G' H' a ρ'→b.bk a H'
 |.ct ρ'=>∀a G' H',i8 G G'→RS B G' H' a ρ'→b.ct a H'
 |.rt w ρ'=>∀v a G' H',i8 G G'→RS B G' H' a ρ'→E2 B G' H' a ρ' v w→b.rt v H'
 |.ex x ρ'=>∀a G' H',i8 G G'→RS B G' H' a ρ'→ξ x a H'
def pe (B:Bs)(ξ:XP)(G:Hp)(ρ:k0)(m:SM)(a:Ends):Prop:=∃r,m ρ=some r∧iW B ξ G a r
noncomputable def SD (B:Bs)(ξ:XP)(m:SM):TS:=λa σ H=>∃G ρ,RS B G H σ ρ∧pe B ξ G ρ m a
structure ro (X:Cx) (B:Bs) (st:Stmt) (m:SM):Prop where
 ap:∀ξ,PS (rz X ξ) st (SD B ξ m)
structure iu (X:Cx) (B:Bs) (st:List Stmt) (m:SM):Prop where
 ap:∀ξ,lA (rz X ξ) st (SD B ξ m)
section
variable {X:Cx}{B:Bs}{ξ:XP}{G G' H:Hp}{σ:St}{ρ:k0}{Dn:Ends}{st:Stmt}{rest:List Stmt}{m1 m2:SM}{e c:Expr}{me:M W}{pos:Pos}
theorem iW.same {r:SR}(s:i8 G G')(h:iW B ξ G Dn r):iW B ξ G' Dn r:=by
 cases r with
 |nx ρ'=>exact λa b c s2=>h a b c (s.trans s2)
 |bk ρ'=>exact λa b c s2=>h a b c (s.trans s2)
 |ct ρ'=>exact λa b c s2=>h a b c (s.trans s2)
 |rt w ρ'=>exact λv a b c s2=>h v a b c (s.trans s2)
 |ex x ρ'=>exact λa b c s2=>h a b c (s.trans s2)
noncomputable def l4 (m1 m2:SM):SM:=λρ=>match m1 ρ with
 |some (.nx ρ')=>m2 ρ'
 |r=>r
theorem Bu {m1 m2:SM}{ρ ρ':k0}(h:m1 ρ=some (.nx ρ')):l4 m1 m2 ρ=m2 ρ':=by unfold l4;rw[h]
noncomputable def bw:SM:=λρ=>some (.nx ρ)
theorem x6:iu X B [] bw:=.mk λξ=>(BG (X:=rz X ξ)).imp λDn σ H t=>by
 obtain⟨G,ρ,R,r,e,p⟩:=t;cases e;exact p σ G H (i8.refl _) R
theorem i6 (c:ro X B st m1)(d:iu X B rest m2):iu X B (st::rest) (l4 m1 m2):=.mk λξ=>(ym (c.ap ξ) (d.ap ξ)).imp λDn σ H t=>by
 obtain⟨G,ρ,R,r,e,p⟩:=t;unfold l4 at e;cases h:m1 ρ with
 |none=>rw[h]at e;cases e
 |some b=>
  rw[h]at e;refine⟨G,ρ,R,b,h,?_⟩;cases b with
  |nx a=>exact λf G' H' s R'=>⟨G',a,R',r,e,p.same s⟩
  |bk a=>cases e;exact p
  |ct a=>cases e;exact p
  |rt w a=>cases e;exact p
  |ex x a=>cases e;exact p
theorem k7 (a:ro X B st m1):iu X B [st] m1:=.mk λξ=>BF (a.ap ξ)
noncomputable def D6 {α:Type}(m:M α)(f:α→SM):SM:=λρ=>match m ρ with
 |none=>none
 |some (.ex x ρ')=>some (.ex x ρ')
 |some (.ok a ρ')=>f a ρ'
theorem u0 {α:Type}{m:M α}{f:α→SM}{ρ ρ':k0}{a:α}(h:m ρ=some (.ok a ρ')):D6 m f ρ=f a ρ':=by unfold D6;rw[h]
theorem SD.step {α h:Type}{rel:Rel α h}{m:M α}{f:α→SM}(R:RS B G H σ ρ)(t:pe B ξ G ρ (D6 m f) Dn):TD rel B ξ m σ H (λv g=>∃c b a,i8 G c∧RS B c g σ b∧rel B c g σ b v a∧pe B ξ c b (f a) Dn):=by
 obtain⟨r,e,p⟩:=t;unfold D6 at e;cases d:m ρ with
 |none=>rw[d]at e;cases e
 |some i=>
  rw[d]at e;cases i with
  |ex x b=>
   cases e;exact⟨G,ρ,R,_,d,λG' H' s R'=>p σ G' H' s R'⟩
  |ok a b=>exact⟨G,ρ,R,_,d,λv c g s j q=>⟨c,b,a,s,j,q,r,e,p.same s⟩⟩
theorem SD.Hn {α h:Type}{rel:Rel α h}{m:M α}{f:α→SM}(R:RS B G H σ ρ)(t:pe B ξ G ρ (D6 m f) Dn):TD rel B ξ m σ H (λv g=>∃c b a,m ρ=some (.ok a b)∧i8 G c∧RS B c g σ b∧rel B c g σ b v a∧pe B ξ c b (f a) Dn):=by
 obtain⟨r,e,p⟩:=t;unfold D6 at e;cases d:m ρ with
 |none=>rw[d]at e;cases e
 |some i=>
  rw[d]at e;cases i with
  |ex x b=>
   cases e;exact⟨G,ρ,R,_,d,λG' H' s R'=>p σ G' H' s R'⟩
  |ok a b=>exact⟨G,ρ,R,_,d,λv c g s j q=>⟨c,b,a,rfl,s,j,q,r,e,p.same s⟩⟩
noncomputable def I0 (m:M W):SM:=D6 m λ_=>bw
theorem K5 (b:PD X B e me)(hs:S8 e none pos.line X.env=pure false:=by rfl):ro X B (.Expr e pos) (I0 me):=.mk λξ=>(BI (X:=rz X ξ) (b.ap ξ) hs).imp λDn σ H t=>by
 obtain⟨G,ρ,R,t⟩:=t;refine(SD.step (rel:=C2) R t).mono λv c ⟨d,f,a,s1,g,h,r,e,p⟩=>?_;cases e;exact p σ d c (i8.refl _) g
noncomputable def Ez (w:W):SM:=λρ=>match w with
 |.val d=>some (.rt (.val d) ρ)
 |.own d=>some (.rt (.own d) ρ)
 |.slot i=>match ρ[i]? with
  |some (some (.sh d))=>some (.rt (.val d) ρ)
  |some (some (.ow false d))=>some (.rt (.own d) (ρ.set i none))
  |_=>none
noncomputable def retS (m:M W):SM:=D6 m Ez
theorem RS.forget {i:Nat}(R:RS B G H σ ρ):RS B G H σ (ρ.set i none):=by
 by_cases hi:i<ρ.length
 ·refine⟨R.hk,R.keep,R.g0,R.gH,R.gnew,R.dom,by simp[R.len],λj d c=>?_,λj l d c=>?_,λj k l d f g m a b=>?_,R.fz.jd (by intro _ h;cases h),R.ob.jd (by intro _ h;cases h<;>rfl) (by intro _ h;cases h)⟩
  ·by_cases z:i=j
   ·subst z;rw[List.getElem?_set_self hi]at c;cases c
   ·rw[List.getElem?_set_ne z]at c;exact R.sh j d c
  ·by_cases z:i=j
   ·subst z;rw[List.getElem?_set_self hi]at c;cases c
   ·rw[List.getElem?_set_ne z]at c;exact R.ow j l d c
  ·by_cases z:i=j
   ·subst z;rw[List.getElem?_set_self hi]at a;cases a
   ·by_cases e:i=k
    ·subst e;rw[List.getElem?_set_self hi]at b;cases b
    ·rw[List.getElem?_set_ne z]at a;rw[List.getElem?_set_ne e]at b;exact R.inj j k l d f g m a b
 ·rw[List.set_eq_of_length_le (by omega)];exact R
theorem u7 (n:PD X B e me):ro X B (.Return (some e) pos) (retS me):=.mk λξ=>(EI (n.ap ξ)).imp λDn σ H t=>by
 obtain⟨G,ρ,R,t⟩:=t;refine(SD.step (rel:=C2) R t).mono λv c ⟨f,h,w,s1,b,a,r,e,p⟩=>?_;unfold Ez at e;cases w with
 |val d=>cases e;exact p v σ f c (i8.refl _) b a
 |own d=>cases e;exact p v σ f c (i8.refl _) b a
 |slot i=>
  have h':σ[i]?=some (some v):=a;simp only[]at e;split at e
  ·rename_i s q;cases e;obtain⟨y,a,r⟩:=b.sh i _ q;rw[h']at a;cases a;exact p v σ f c (i8.refl _) b r
  ·rename_i s q;cases e;obtain⟨m,a,u,A,x,o⟩:=b.ow i _ _ q;have hi:i<h.length:=(List.getElem?_eq_some_iff.mp q).1;rw[h']at a;cases a;refine p _ σ f c (i8.refl _) b.forget ⟨m,rfl,u,x,o,λj l E g z=>?_⟩;by_cases k:i=j
   ·subst k;rw[List.getElem?_set_self hi]at g;cases g
   ·rw[List.getElem?_set_ne k]at g;exact k (b.inj i j _ _ _ _ m q g h' z)
  ·cases e
noncomputable def ax (c:M Bool)(a b:SM):SM:=D6 c λk=>if k=true then a else b
theorem I8 {e:M Bool}{a b:List Stmt}(i:mh X B c e)(j:iu X B a m1)(l:iu X B b m2):ro X B (.If c a b pos) (ax e m1 m2):=.mk λξ=>(Hy (i.ap ξ) (j.ap ξ) (l.ap ξ)).imp λDn σ H t=>by
 obtain⟨G,ρ,R,t⟩:=t;refine(SD.step (rel:=dk) R t).mono λk o ⟨f,d,m,s1,g,n,h⟩=>?_;cases(show k=m from n);cases k with
 |true=>exact⟨f,d,g,h⟩
 |false=>exact⟨f,d,g,h⟩
theorem RS.tW {i:Nat}{v:V}{d:D}(R:RS B G H σ ρ)(hi:i<ρ.length)(h:Rep B.K G v d):RS B G H (σ.set i (some v)) (ρ.set i (some (.sh d))):=by
 have hs:i<σ.length:=by rw[R.len];exact hi
 refine⟨R.hk,R.keep,R.g0,R.gH,R.gnew,R.dom,by simp[R.len],λj e c=>?_,λj l e c=>?_,λj k l e g m n a b=>?_,R.fz.pQ (by intro _ h;cases h),R.ob.pQ (by intro _ h;cases h<;>rfl) (by intro _ h;cases h)⟩
 ·by_cases z:i=j
  ·subst z;rw[List.getElem?_set_self hi]at c;cases c;exact⟨v,by rw[List.getElem?_set_self hs],h⟩
  ·rw[List.getElem?_set_ne z]at c⊢;exact R.sh j e c
 ·by_cases z:i=j
  ·subst z;rw[List.getElem?_set_self hi]at c;cases c
  ·rw[List.getElem?_set_ne z]at c⊢;exact R.ow j l e c
 ·by_cases z:i=j
  ·subst z;rw[List.getElem?_set_self hi]at a;cases a
  ·by_cases f:i=k
   ·subst f;rw[List.getElem?_set_self hi]at b;cases b
   ·rw[List.getElem?_set_ne z]at a⊢;rw[List.getElem?_set_ne f]at b⊢;exact R.inj j k l e g m n a b
theorem RS.Ho {i:Nat}{v:V}{d:D}(R:RS B G H σ ρ)(hi:i<ρ.length)(h:E2 B G H σ ρ v (.own d)):RS B G H (σ.set i (some v)) (ρ.set i (some (.ow false d))):=by
 obtain⟨p,rfl,g,m,o,ne⟩:=h;have hs:i<σ.length:=by rw[R.len];exact hi
 refine⟨R.hk,R.keep,R.g0,R.gH,R.gnew,R.dom,by simp[R.len],λj e c=>?_,λj l e c=>?_,λj k l e r s t a b=>?_,R.fz.pQ (by intro _ h;cases h),R.ob.pQ (by intro _ h;cases h<;>rfl) (by intro _ h;cases h)⟩
 ·by_cases z:i=j
  ·subst z;rw[List.getElem?_set_self hi]at c;cases c
  ·rw[List.getElem?_set_ne z]at c⊢;exact R.sh j e c
 ·by_cases z:i=j
  ·subst z;rw[List.getElem?_set_self hi]at c;cases c;refine⟨p,by rw[List.getElem?_set_self hs],g,?_,m,o⟩;cases u:B.HK p with
   |none=>rfl
   |some ob=>rw[R.hk p ob u]at m;cases m
  ·rw[List.getElem?_set_ne z]at c⊢;exact R.ow j l e c
 ·by_cases z:i=j
  ·by_cases f:i=k
   ·intro _ _;omega
   ·subst z;rw[List.getElem?_set_self hs,List.getElem?_set_ne f];rw[List.getElem?_set_ne f]at b;intro n q;cases n;exact absurd q (ne k r s b)
  ·by_cases f:i=k
   ·subst f;rw[List.getElem?_set_self hs,List.getElem?_set_ne z];rw[List.getElem?_set_ne z]at a;intro n q;cases q;exact absurd n (ne j l e a)
   ·rw[List.getElem?_set_ne z]at a⊢;rw[List.getElem?_set_ne f]at b⊢;exact R.inj j k l e r s t a b
noncomputable def hX (i:Nat)(w:W):SM:=λρ=>if i<ρ.length then match w with
 |.own d=>some (.nx (ρ.set i (some (.ow false d))))
 |w=>match D0 w ρ with
  |some (.ok d ρ')=>some (.nx (ρ'.set i (some (.sh d))))
  |_=>none
 else none
noncomputable def o3 (i:Nat)(m:M W):SM:=D6 m (hX i)
theorem yU {w:W}{ρ ρ':k0}{d:D}(h:D0 w ρ=some (.ok d ρ')):ρ'.length=ρ.length:=by
 unfold D0 at h;cases w with
 |val d=>cases h;rfl
 |own d=>cases h;rfl
 |slot i=>
  simp only[]at h;split at h
  ·cases h;rfl
  ·cases h;simp
  ·cases h;rfl
  ·cases h
theorem hW {i:Nat}{w:W}{v:V}{r:SR}(R:RS B G H σ ρ)(q:E2 B G H σ ρ v w)(e:hX i w ρ=some r):∃ρ' G',r=.nx ρ'∧i8 G G'∧RS B G' H (σ.set i (some v)) ρ':=by
 unfold hX at e;split at e
 ·rename_i hi;cases w with
  |own d=>cases e;exact⟨_,G,rfl,i8.refl _,R.Ho hi q⟩
  |val d=>
   cases e;exact⟨_,G,rfl,i8.refl _,R.tW hi q⟩
  |slot j=>
   simp only[]at e;split at e
   ·rename_i d a hl;cases e;obtain⟨G',b,R',c⟩:=q.D0 R hl;exact⟨_,G',rfl,b,R'.tW (by rw[yU hl];exact hi) c⟩
   ·cases e
 ·cases e
theorem n2 {i:Nat}{x:Str}{a:Pos}(b:PD X B e me)(c:X.N.Nodup)(hi:X.N[i]?=some x:=by rfl)(d:Loc X.env.scope x:=by first|exact Or.inl rfl|exact Or.inr rfl)(hs:S8 e (some (.Name x a)) pos.line X.env=pure false:=by rfl)(f:X.fn x=true∨X.env.scope.names.lookup x=some .local:=by first|exact .inl rfl|exact .inr rfl):
  ro X B (.Assign [.Name x a] e pos) (o3 i me):=.mk λξ=>(yo (X:=rz X ξ) c hi d (b.ap ξ) hs f).imp λDn σ H t=>by
 obtain⟨G,ρ,R,t⟩:=t;refine(SD.step (rel:=C2) R t).mono λv g ⟨m,h,w,s1,j,k,r,e,p⟩=>?_;obtain⟨ρ',G',rfl,l,R'⟩:=hW j k e;exact p _ G' g l R'
end
structure Gives (K:PySem.W.Frag) (Gs:Hp) (J:It) (ds:List D):Prop where
 go:∀(G H:Hp) (i:Nat),i8 Gs G→i8 G H→i<ds.length→J.go i H
 stop:∀(G H:Hp),i8 Gs G→i8 G H→J.stop ds.length H
 yld:∀(G H H':Hp) (i:Nat) (x:V),i8 Gs G→i8 G H→i<ds.length→J.yld i H x H'→H'=H∧∃d,ds[i]?=some d∧Rep K G x d
noncomputable def Ku (B:Bs)(ξ:XP)(m:M (List D)):TI:=λσ H R=>∃G ρ r,RS B G H σ ρ∧m ρ=some r∧match r with
 |.ok ds ρ'=>∀J G' H',i8 G G'→RS B G' H' σ ρ'→Gives B.K G' J ds→R J H'
 |.ex x ρ'=>∀G' H',i8 G G'→RS B G' H' σ ρ'→ξ x σ H'
structure Dm (X:Cx) (B:Bs) (tg iter:Expr) (m:M (List D)):Prop where
 ap:∀ξ,PI (rz X ξ) tg iter (Ku B ξ m)
theorem _root_.L2.PI.imp {X:Cx}{tg e:Expr}{t a:TI}(h:PI X tg e t)(i:∀σ H R,a σ H R→t σ H R):PI X tg e a:=λpins s σ H R I q=>h pins s σ H R I (i σ H R q)
noncomputable def Kg:D→Option (List D)
 |.lst ds=>some ds
 |.tup ds=>some ds
 |.str cs=>some (cs.map λc=>D.str [c])
 |_=>none
noncomputable def B1 (m:M W):M (List D):=M.bind m λw=>M.bind (D0 w) λd=>λρ=>(Kg d).map (R'.ok · ρ)
section
variable {X:Cx}{B:Bs}{tg e a b c:Expr}{ma mb mc:M W}{mr:M (List W)}{pos p:Pos}
noncomputable def Ki (K:PySem.W.Frag)(c:TE):TI:=λσ H R=>c σ H λx b=>(∃a xs,x=.ref a∧P8 K b a xs∧R (Jn K a) b)∨(∃a xs,x=.ref a∧bn K b a xs∧R (Jm K a) b)∨∃y,x=.str y∧R (Gp y) b
theorem EM {l:Expr}{j:TE}{K:PySem.W.Frag}(m:X.K=K)(hl:PE X l j):PI X tg l (Ki K j):=by
 subst m;intro pins s σ H R I h;refine F0 (hl pins s σ H _ I h) λv s1 ⟨x,d,c,g,n⟩=>?_;have fp:∀b∈[s1.heap.objs.size],lu X pins d b:=λb r=>by
  have e:b=s1.heap.objs.size:=by simpa using r
  subst e;exact c.wQ (g8 _) (c.hok.fresh (g8 _))
 rcases n with⟨a,xs,rfl,i,q⟩ | ⟨a,xs,rfl,i,q⟩ | ⟨y,rfl,q⟩
 ·cases g;obtain⟨f,u,p,w⟩:=c.list i;refine K3 p.isList ?_;exact⟨s1.heap.objs.size,[s1.heap.objs.size],_,_,d,rfl,c.kept (t':=s1.toks) λb o e=>Heap.get?_push_of_some _ e,vz a _,⟨_,Heap.get?_push_size _ rfl,rfl,rfl⟩,fp,q⟩
 ·cases g;obtain⟨f,u,p,w⟩:=c.tuple i;refine wpAny_pyIter_tuple (show s1.heap.IsTuple a f.toArray from p) ?_;exact⟨s1.heap.objs.size,[s1.heap.objs.size],_,_,d,rfl,c.kept (t':=s1.toks) λb o e=>Heap.get?_push_of_some _ e,rD a _,⟨_,Heap.get?_push_size _ rfl,rfl,rfl⟩,fp,q⟩
 ·obtain⟨t,rfl⟩:=g;cases k:y.cps.all (· < 128)
  ·exact wpAny_pyIter_wide k ⟨s1.heap.objs.size,[s1.heap.objs.size],_,Gp y,d,rfl,c.kept (t':=s1.toks) λb o e=>Heap.get?_push_of_some _ e,vx y t _,⟨_,Heap.get?_push_size _ rfl,rfl,rfl⟩,fp,q⟩
  ·exact wpAny_pyIter_ascii k ⟨s1.heap.objs.size,[s1.heap.objs.size],_,Gp y,d,rfl,c.kept (t':=s1.toks) λb o e=>Heap.get?_push_of_some _ e,vy y t _,⟨_,Heap.get?_push_size _ rfl,rfl,rfl⟩,fp,q⟩
theorem sP {K:PySem.W.Frag}{G:Hp}{a:Addr}{xs:List V}{ds:List D}(h:P8 K G a xs)(r:n9 K G xs ds):Gives K G (Jn K a) ds where
 go:=λG' H i s1 s2 hi=>by
  have b:i<xs.length:=by rw[r.len];exact hi
  exact⟨xs,xs[i],(s1.trans s2).seq h,by simp[b]⟩
 stop:=λG' H s1 s2=>⟨xs,(s1.trans s2).seq h,by rw[r.len];exact g8 _⟩
 yld:=λG' H H' i x s1 s2 hi y=>by
  obtain⟨rfl,y⟩:=y;have e:=y xs ((s1.trans s2).seq h);obtain⟨d,c,f⟩:=r.Kp e;exact⟨rfl,d,c,f.same s1⟩
theorem wM {K:PySem.W.Frag}{G:Hp}{a:Addr}{xs:List V}{ds:List D}(h:bn K G a xs)(r:n9 K G xs ds):Gives K G (Jm K a) ds where
 go:=λG' H i s1 s2 hi=>by
  have b:i<xs.length:=by rw[r.len];exact hi
  exact⟨xs,xs[i],(s1.trans s2).tup h,by simp[b]⟩
 stop:=λG' H s1 s2=>⟨xs,(s1.trans s2).tup h,by rw[r.len];exact g8 _⟩
 yld:=λG' H H' i x s1 s2 hi y=>by
  obtain⟨rfl,y⟩:=y;have e:=y xs ((s1.trans s2).tup h);obtain⟨d,c,f⟩:=r.Kp e;exact⟨rfl,d,c,f.same s1⟩
theorem wN {K:PySem.W.Frag}{G:Hp}(cs:List Nat):Gives K G (Gp (tx cs)) (cs.map λc=>D.str [c]) where
 go:=λG' H i s1 s2 hi=>by
  show i<(tx cs).cps.size;simpa using hi
 stop:=λG' H s1 s2=>by
  show(tx cs).cps.size≤_;simp
 yld:=λG' H H' i x s1 s2 hi y=>by
  obtain⟨rfl,c,b,rfl⟩:=y;refine⟨rfl,.str [c],?_,.str [c]⟩;rw[List.getElem?_map];have a:cs[i]?=some c:=by simpa using b
  rw[a];rfl
theorem iR {K:PySem.W.Frag}{G:Hp}(lo:Int)(n:Nat):Gives K G (IH lo n) ((List.range n).map λk=>D.int (lo+((k:Nat):Int))) where
 go:=λG' H i s1 s2 hi=>by
  show i<n;simpa using hi
 stop:=λG' H s1 s2=>by
  show n≤_;simp
 yld:=λG' H H' i x s1 s2 hi y=>by
  obtain⟨rfl,rfl⟩:=y;have a:i<n:=by simpa using hi
  refine⟨rfl,.int (lo+i),?_,.int _⟩;rw[List.getElem?_map,List.getElem?_range a];rfl
theorem N3 (k:PD X B e ma)(m:X.K=B.K:=by rfl):Dm X B tg e (B1 ma):=.mk λξ=>(EM (X:=rz X ξ) (K:=B.K) m (k.ap ξ)).imp λσ H n t=>by
 obtain⟨G,ρ,r,R,e,p⟩:=t;have conv:cj (rel:=(λ(B:Bs) (G H:Hp) (σ:St) (ρ:k0) (J:It) (ds:List D)=>Gives B.K G J ds)) B ξ G ρ (B1 ma) σ (λJ H=>n J H):=by
  refine⟨r,e,?_⟩;cases r with
  |ok ds ρ'=>exact λJ G' H' s R' g=>p J G' H' s R' g
  |ex x ρ'=>exact p
 refine(TD.bind (rel:=C2) R conv).mono λx c ⟨E,o,w,s1,q,u,v⟩=>?_;obtain⟨d,y,z,F,b,f⟩:=v.step λr h=>Z0 h;obtain⟨i,s2,R2,A⟩:=u.D0 q z;cases hd:Kg d with
 |none=>rw[hd]at b;cases b
 |some ds=>
  rw[hd]at b;cases b;cases A with
  | @lst a xs j h l r=>
   cases hd;refine .inl ⟨a,xs,rfl,R2.gH.seq h,f (Jn B.K a) i c s2 R2 ?_⟩;exact sP h ⟨l,r⟩
  | @tup a xs j h l r=>
   cases hd;exact .inr (.inl ⟨a,xs,rfl,R2.gH.tup h,f (Jm B.K a) i c s2 R2 (wM h ⟨l,r⟩)⟩)
  |str cs=>
   cases hd;exact .inr (.inr ⟨tx cs,rfl,f (Gp (tx cs)) i c s2 R2 (wN cs)⟩)
  |_=>cases hd
end
noncomputable def ints1:List D→Option (List D)
 | [.int n]=>cm (-(2 ^ 62)≤n∧n<2 ^ 62) (some ((List.range n.toNat).map λk=>D.int (0+((k:Nat):Int))))
 |_=>none
noncomputable def ints2:List D→Option (List D)
 | [.int i,.int j]=>cm (-(2 ^ 62)≤i∧i<2 ^ 62∧-(2 ^ 62)≤j∧j<2 ^ 62) (some ((List.range (j-i).toNat).map λk=>D.int (i+((k:Nat):Int))))
 |_=>none
noncomputable def X1 (f:List D→Option (List D))(m:M (List W)):M (List D):=M.bind m λa=>λρ=>match X2 a ρ with
 |some ds=>(f ds).map (R'.ok · ρ)
 |none=>none
noncomputable def Hs:Rel (List D) It:=λB G H σ ρ J ds=>Gives B.K G J ds
section
variable {X:Cx}{B:Bs}{tg e a b c:Expr}{ma mb mc:M W}{mr:M (List W)}{pos p:Pos}
theorem nG {ξ:XP}{m:M (List D)}{σ:St}{H:Hp}{a:It→Hp→Prop}(t:Ku B ξ m σ H a):∃G ρ,RS B G H σ ρ∧cj Hs B ξ G ρ m σ a:=by
 obtain⟨G,ρ,r,R,e,p⟩:=t;refine⟨G,ρ,R,r,e,?_⟩;cases r with
 |ok ds ρ'=>exact λJ G' H' s R' g=>p J G' H' s R' g
 |ex x ρ'=>exact p
theorem nV {ξ:XP}{f:List D→Option (List D)}{a:List W}{G:Hp}{ρ:k0}{σ:St}{c:It→Hp→Prop}(t:cj Hs B ξ G ρ (λρ=>match X2 a ρ with|some ds=>(f ds).map (R'.ok · ρ) |none=>none) σ c):∃ds es,X2 a ρ=some ds∧f ds=some es∧∀J G' H',i8 G G'→RS B G' H' σ ρ→Gives B.K G' J es→c J H':=by
 obtain⟨r,e,p⟩:=t;cases d:X2 a ρ with
 |none=>simp only[d]at e;cases e
 |some ds=>
  simp only[d]at e;cases b:f ds with
  |none=>rw[b]at e;cases e
  |some es=>
   rw[b]at e;cases e;exact⟨ds,es,rfl,b,p⟩
theorem G9 (d:X.mg "range"=none) (e:fO X B [a] mr) (f:Gl X "range":=by rfl) (hs:f9 [a] X.env=[(false,eval a X.env)]:=by rfl):Dm X B tg (.Call (.Name "range" p) [a] [] pos) (X1 ints1 mr):=.mk λξ=>
 (vV (X:=rz X ξ) f d (e.ap ξ) hs).imp λσ H q t=>by
  obtain⟨G,ρ,R,t⟩:=nG t;refine(TD.bind (rel:=M3) R t).mono λvs g ⟨i,j,r,s1,c,k,l⟩=>?_;obtain⟨ds,es,m,b,p⟩:=nV l;have h:=aa c k m
  match ds,b with
  | [.int n],b=>
   obtain⟨z,b⟩:=o4 b;cases b;obtain⟨x,rfl,o⟩:=G8 h;exact⟨n,by rw[o.int],z.1,z.2,p _ i g (i8.refl _) c (iR 0 n.toNat)⟩
theorem kI (f:X.mg "range"=none) (g:fO X B [a,b] mr) (k:Gl X "range":=by rfl) (hs:f9 [a,b] X.env=[(false,eval a X.env),(false,eval b X.env)]:=by rfl) (d:f9 [b] X.env=[(false,eval b X.env)]:=by rfl):Dm X B tg (.Call (.Name "range" p) [a,b] [] pos) (X1 ints2 mr):=.mk λξ=>
 (vU (X:=rz X ξ) k f (g.ap ξ) hs d).imp λσ H v t=>by
  obtain⟨G,ρ,R,t⟩:=nG t;refine(TD.bind (rel:=M3) R t).mono λvs l ⟨m,n,w,s1,e,o,q⟩=>?_;obtain⟨ds,es,r,c,p⟩:=nV q;have h:=aa e o r
  match ds,c with
  | [.int i,.int j],c=>
   obtain⟨z,c⟩:=o4 c;cases c;obtain⟨x,y,rfl,s,u⟩:=rC h;exact⟨i,j,by rw[s.int,u.int],z,p _ m l (i8.refl _) e (iR i (j-i).toNat)⟩
end
noncomputable abbrev FT:=D→k0→Option k0
noncomputable def Ma (B:Bs)(f:FT):TG:=λv σ H b=>∃G ρ d ρ',RS B G H σ ρ∧Rep B.K G v d∧f d ρ=some ρ'∧∀a G' H',i8 G G'→RS B G' H' a ρ'→b a H'
structure LA (X:Cx) (B:Bs) (tg:Expr) (f:FT):Prop where
 ap:∀ξ,PG (rz X ξ) tg (Ma B f)
theorem _root_.L2.PG.imp {X:Cx}{tg:Expr}{t a:TG}(h:PG X tg t)(i:∀v σ H R,a v σ H R→t v σ H R):PG X tg a:=λpins s σ H v u Q I r q=>h pins s σ H v u Q I r (i v σ H _ q)
noncomputable def w6 (i:Nat):FT:=λd ρ=>if i<ρ.length then some (ρ.set i (some (.sh d)))else none
section
variable {X:Cx}{B:Bs}{tg e:Expr}{pos:Pos}
theorem D2 {i:Nat}{x:Str}(a:X.N.Nodup)(hi:X.N[i]?=some x:=by rfl)(b:Loc X.env.scope x:=by first|exact Or.inl rfl|exact Or.inr rfl)(c:X.fn x=true∨X.env.scope.names.lookup x=some .local:=by first|exact .inl rfl|exact .inr rfl):LA X B (.Name x pos) (w6 i):=.mk λξ=>
 (oh (X:=rz X ξ) a hi b c).imp λv σ H f t=>by
  obtain⟨G,ρ,d,ρ',R,h,e,p⟩:=t;unfold w6 at e;split at e
  ·cases e;exact p _ G H (i8.refl _) (R.tW ‹_› h)
  ·cases e
end
noncomputable def forL (tg:FT)(b:SM):List D→SM
 | []=>λρ=>some (.nx ρ)
 |d::ds=>λρ=>match tg d ρ with
  |none=>none
  |some c=>match b c with
   |some (.nx a)=>forL tg b ds a
   |some (.ct a)=>forL tg b ds a
   |some (.bk a)=>some (.nx a)
   |r=>r
noncomputable def V7 (a:M (List D))(tg:FT)(b:SM):SM:=D6 a λds=>forL tg b ds
theorem kq {X:Cx}{ξ:XP}:Jv (model X.prog X.w) X.A X.env (XE X ξ):=by
 rintro e s' ⟨x,pins,σ,H,I,⟨a,cls,dct,rfl,ix,oa,fl,F⟩,q⟩
 have c:Inv X [] σ H s':=I.gy λp d=>absurd d (by simp);refine noted c F oa fl λh' T f t b=>?_;obtain⟨m,vs,g,ts,h,n,i,hd,j,r⟩:=id t;refine f7 (u4 h hd j ?_);rw[if_neg (show¬((Value.ref T==Value.none)=true)from by simp)];rw[F.fr];exact marked (some X.env.locals) f F t b λo k l=>⟨x,[],σ,H,k,⟨a,cls,dct,rfl,ix,oa,.inr ⟨T,_,l,b,.inr rfl⟩,F⟩,q⟩
section
variable {X:Cx}{B:Bs}{tg iter:Expr}{body:List Stmt}{mi:M (List D)}{f:FT}{mb:SM}{pos:Pos}
theorem O8 (hi:Dm X B tg iter mi)(O:LA X B tg f)(P:iu X B body mb)(Q:X.calm=true:=by rfl)(hs:∀x,foldedSetIterable iter X.env x=pure x:=by intro _;rfl):ro X B (.For tg iter body [] pos) (V7 mi f mb):=.mk λξ=>
 (EJ (X:=rz X ξ) kq Q (hi.ap ξ) (O.ap ξ) (P.ap ξ) hs).imp λL σ H t=>by
  obtain⟨G,ρ,R,r,e,p⟩:=t;unfold V7 D6 at e;cases z:mi ρ with
  |none=>rw[z]at e;cases e
  |some S=>
   rw[z]at e;cases S with
   |ex x q=>
    cases e;exact⟨G,ρ,_,R,z,λG' H' s R'=>p σ G' H' s R'⟩
   |ok ds q=>
    refine⟨G,ρ,_,R,z,λJ Gs H1 s1 T E=>?_⟩;refine⟨λi m σ H=>∃G ρ r,m=ds.length-i∧i≤ds.length∧i8 Gs G∧RS B G H σ ρ∧forL f mb (ds.drop i) ρ=some r∧iW B ξ G L r,⟨ds.length,Gs,q,r,by simp,u6 _,i8.refl _,T,by simpa using e,p.same s1⟩,?_⟩
    rintro i m σ2 H2 ⟨G2,ρ2,r2,rfl,hle,s2,R2,e2,p2⟩
    by_cases c:i<ds.length
    ·have U:ds.drop i=ds[i]::ds.drop (i+1):=List.drop_eq_getElem_cons c;rw[U]at e2;unfold forL at e2;cases F:f ds[i] ρ2 with
     |none=>rw[F]at e2;cases e2
     |some k=>
      rw[F]at e2;refine .inr ⟨E.go G2 H2 i s2 R2.gH c,λu H'=>∃G' ρ' A,i8 Gs G'∧RS B G' H' u ρ'∧forL f mb (ds.drop (i+1)) ρ'=some A∧iW B ξ G' L A,λu H' ⟨G',ρ',A,Y,Z,a3,a4⟩=>⟨ds.length-(i+1),by omega,G',ρ',A,rfl,c,Y,Z,a3,a4⟩,λx H' y=>?_⟩;obtain⟨rfl,d,hd,rx⟩:=E.yld G2 H2 H' i x s2 R2.gH c y;have I:d=ds[i]:=by
       rw[List.getElem?_eq_getElem c]at hd;exact(i9 hd).symm
      subst I;refine⟨G2,ρ2,_,k,R2,rx,F,λa0 G3 H3 l R3=>?_⟩;cases n:mb k with
      |none=>simp only[n]at e2;cases e2
      |some N=>
       simp only[n]at e2;refine⟨G3,k,R3,N,n,?_⟩;cases N with
       |nx b=>exact λa h o g j=>⟨h,b,r2,(s2.trans l).trans g,j,e2,p2.same (l.trans g)⟩
       |ct b=>exact λa h o g j=>⟨h,b,r2,(s2.trans l).trans g,j,e2,p2.same (l.trans g)⟩
       |bk b=>
        cases e2;exact λa h o g j=>p2 a h o (l.trans g) j
       |rt w b=>
        cases e2;exact λv a h o g j q4=>p2 v a h o (l.trans g) j q4
       |ex x b=>
        cases e2;exact λa h o g j=>p2 a h o (l.trans g) j
    ·have ei:i=ds.length:=by omega
     subst ei;rw[List.drop_length]at e2;cases e2;exact .inl ⟨E.stop G2 H2 s2 R2.gH,p2 σ2 G2 H2 (i8.refl _) R2⟩
end
noncomputable def B4 (c:M Bool)(b:SM):Nat→SM
 |0=>λ_=>none
 |n+1=>D6 c λk=>if k=true then(λρ=>match b ρ with
   |some (.nx a)=>B4 c b n a
   |some (.ct a)=>B4 c b n a
   |some (.bk a)=>some (.nx a)
   |r=>r)else bw
section
variable {X:Cx}{B:Bs}{c:Expr}{body:List Stmt}{mc:M Bool}{mb:SM}{pos:Pos}
theorem nM (n:Nat)(F:mh X B c mc)(I:iu X B body mb):ro X B (.While c body [] pos) (B4 mc mb n):=.mk λξ=>
 (yn (X:=rz X ξ) kq (F.ap ξ) (I.ap ξ)).imp λu σ H t=>by
  obtain⟨G,ρ,R,r,e,p⟩:=t;refine⟨λm σ H=>∃G ρ r,RS B G H σ ρ∧B4 mc mb m ρ=some r∧iW B ξ G u r,⟨n,G,ρ,r,R,e,p⟩,?_⟩
  rintro m σ2 H2 ⟨G2,ρ2,r2,R2,e2,p2⟩
  cases m with
  |zero=>cases e2
  |succ m=>
   unfold B4 at e2;refine(SD.step (rel:=dk) R2 ⟨r2,e2,p2⟩).mono λk J ⟨y,o,L,T,z,N,A,d,l⟩=>?_;cases(show k=L from N);cases k with
   |false=>
    cases d;exact l σ2 y J (i8.refl _) z
   |true=>
    rw[if_pos rfl]at d;refine⟨λq H'=>∃G' ρ' s,RS B G' H' q ρ'∧B4 mc mb m ρ'=some s∧iW B ξ G' u s,λq H' ⟨G',ρ',s,O,P,Q⟩=>⟨m,n6 _,G',ρ',s,O,P,Q⟩,?_⟩;cases i:mb o with
    |none=>simp only[i]at d;cases d
    |some E=>
     simp only[i]at d;refine⟨y,o,z,E,i,?_⟩;cases E with
     |nx b=>exact λa f j g h=>⟨f,b,A,h,d,l.same g⟩
     |ct b=>exact λa f j g h=>⟨f,b,A,h,d,l.same g⟩
     |bk b=>cases d;exact λa f j g h=>l a f j g h
     |rt w b=>cases d;exact λv a f j g h S=>l v a f j g h S
     |ex x b=>cases d;exact λa f j g h=>l a f j g h
end
noncomputable def IX (T:String):D→Bool
 |.str _=>T == "str"
 |.lst _=>T == "list"
 |.dct _=>T == "dict"
 |_=>false
noncomputable def vc (T:String)(w:W):M Unit:=λρ=>match getD w ρ with
 |some d=>if IX T d=true then some (.ok () ρ)else none
 |none=>none
theorem dZ {T:String}{w:W}{ρ:k0}{r:R' Unit}(h:vc T w ρ=some r):r=.ok () ρ∧∃d,getD w ρ=some d∧IX T d=true:=by
 unfold vc at h;split at h
 ·rename_i d hd;split at h
  ·cases h;exact⟨rfl,d,hd,‹_›⟩
  ·cases h
 ·cases h
theorem rB {B:Bs}{G H:Hp}{σ:St}{ρ:k0}{x:V}{d:D}{T:String}(R:RS B G H σ ρ)(h:N9 B.K G H x d)(t:IX T d=true)(a:T≠"dict":=by decide):GD B.K T x H:=by
 cases d with
 |str cs=>rw[h.str];exact eq_of_beq t
 |lst ds=>
  obtain⟨p,xs,rfl,b,c⟩:=h.lst R.gH;exact .inl ⟨eq_of_beq t,xs,b⟩
 |dct es=>
  exact absurd (eq_of_beq t) a
 |_=>cases t
theorem dI {i:Nat}{w:W}{ρ ρ':k0}(h:f8 i ρ=some (.ok w ρ')):w=.slot i∧ρ'=ρ:=by
 unfold f8 at h;split at h
 ·cases h;exact⟨rfl,rfl⟩
 ·cases h
noncomputable def gW (i:Nat)(d:D):M W:=λρ=>match ρ[i]? with
 |some (some (.ow l (.lst ds)))=>cm (small ds.length) (some (.ok (.val .v1) (ρ.set i (some (.ow l (.lst (ds++[d])))))))
 |_=>none
noncomputable def C7 (i:Nat)(m:M (List W)):M W:=M.bind (f8 i) λx=>M.bind (vc "list" x) λ_=>M.bind m λa=>match a with
 | [w]=>M.bind (D0 w) (gW i)
 |_=>λ_=>none
section
variable {X:Cx}{B:Bs}{o e:Expr}{es:List Expr}{mr:M (List W)}{apos cpos opos:Pos}{x:Str}
theorem slot_of {G H:Hp}{σ:St}{ρ:k0}{i:Nat}{l:Bool}{d:D}(R:RS B G H σ ρ)(h:ρ[i]?=some (some (.ow l d))){v:V}(b:σ[i]?=some (some v)):∃p,v=.ref p∧G p=none∧A6 B.K G H p d:=by
 obtain⟨p,a,c,f,g,e⟩:=R.ow i l d h;rw[b]at a;cases a;exact⟨p,rfl,c,e⟩
theorem L5 (i:Nat)(E:PD X B o (f8 i))(I:fO X B [e] mr)
  (c:y7 o "append" X.env (eval o X.env)=eval o X.env:=by rfl)
  (j:((l8 cpos (f9 [e] X.env)).all (λx=>!x.1)&&(z6 cpos (o7 [] X.env)).all (λx=>x.1.isSome)
   && decide (([e]:List Expr).length+([]:List Keyword).length+(if([]:List Keyword).isEmpty then 0 else 1)<30))=true:=by rfl)
  (f:(apos.endLine==cpos.line)=true:=by rfl) (hs:f9 [e] X.env=(false,eval e X.env)::f9 [] X.env:=by rfl) (b:(l8 cpos (f9 [] X.env)).any (·.1)=false:=by rfl) (J:X.K=B.K:=by rfl):
  PD X B (.Call (.Attribute o "append" apos) [e] [] cpos) (C7 i mr):=.mk λξ=>
 (uc (X:=rz X ξ) PySem.F.plainAttrs_list PySem.F.slot_list_append PySem.F.type_list_append wp (E.ap ξ) (I.ap ξ) c j f hs b).imp λσ H Q t=>by
  obtain⟨G,ρ,R,t⟩:=t;refine(TD.At (rel:=C2) R t).mono λx L ⟨G1,N,w,a,s1,k,s,O⟩=>?_;obtain⟨rfl,rfl⟩:=dI a;have y:σ[i]?=some (some x):=s;obtain⟨u,m,P,S⟩:=O.step λr h=>⟨(),_,(dZ h).1⟩;obtain⟨T,d,hd,ty⟩:=dZ P;cases T;refine⟨by show GD X.K "list" x L;rw[J];exact rB k (s.get k hd) ty,?_⟩;refine(TD.bind (rel:=M3) k S).mono λvs H2 ⟨G2,m,U,s2,R2,n,q⟩=>?_
  match U,n,q with
  | [],_,⟨r,a,_⟩=>cases a
  |_::_::_,_,⟨r,a,_⟩=>cases a
  | [w],n,q=>
   cases n with
   | @cons v _ vs _ h t=>
    cases t;obtain⟨dv,Y,Z,r,a,p⟩:=q.step λr h=>Z0 h;obtain⟨G3,s3,z,rv⟩:=h.1.D0 R2 Z;unfold gW at a;split at a
    ·rename_i l ds hi;obtain⟨hz,a⟩:=o4 a;cases a;obtain⟨pp,rfl,g,xs,hx,A⟩:=slot_of z hi y;refine⟨pp,xs,v,rfl,rfl,hx,?_,?_⟩
     ·rw[A.len,u5];unfold small at hz;omega
     ·exact p .v1 G3 _ s3 (z.write hi y ⟨xs++[v],l9,A.append (.one rv)⟩) .v1
    ·cases a
end
inductive FR where
 |ret (w:W) (fin:List D) |exc (x:Gv) (fin:List D)
inductive U6 (K:PySem.W.Frag) (G H:Hp):List Bool→List V→List D→List Addr→Prop
 |nil:U6 K G H [] [] [] []
 |sh {v:V} {d:D} {ms:List Bool} {vs:List V} {ds:List D} {ps:List Addr} (h:Rep K G v d) (r:U6 K G H ms vs ds ps):U6 K G H (false::ms) (v::vs) (d::ds) ps
 |ln {p:Addr} {d:D} {ms:List Bool} {vs:List V} {ds:List D} {ps:List Addr} (g:G p=none) (o:A6 K G H p d) (n:p∉ps) (r:U6 K G H ms vs ds ps):U6 K G H (true::ms) (.ref p::vs) (d::ds) (p::ps)
noncomputable def minus (H:Hp)(ps:List Addr):Hp:=λb=>if b∈ps then none else H b
theorem bU {H:Hp}{ps:List Addr}{b:Addr}(h:b∈ps):minus H ps b=none:=if_pos h
theorem V3 {H:Hp}{ps:List Addr}{b:Addr}(h:b∉ps):minus H ps b=H b:=if_neg h
theorem N2 (H:Hp)(ps:List Addr):i8 (minus H ps) H:=λb o e=>by
 unfold minus at e;split at e
 ·cases e
 ·exact e
structure After (K:PySem.W.Frag) (G H:Hp) (ps:List Addr) (G' H':Hp) (fin:List D):Prop where
 keep:i8 (minus H ps) H'
 gg:i8 G G'
 gH:i8 G' H'
 gnew:∀p o,G' p=some o→G p=some o∨H p=none
 dom:∀p,H' p=none→H p=none
 lent:Paired (λp d=>G' p=none∧A6 K G' H' p d) ps fin
noncomputable def pf (K:PySem.W.Frag)(H G' H':Hp)(v:V):W→Prop
 |.val d=>Rep K G' v d
 |.own d=>∃p,v=.ref p∧G' p=none∧H p=none∧A6 K G' H' p d
 |.slot _=>False
noncomputable def E3 (K:PySem.W.Frag)(ms:List Bool)(a:List D→Option FR):Sp:=λvs H Q E=>∃G ds ps r,i8 G H∧U6 K G H ms vs ds ps∧a ds=some r∧match r with
 |.ret w fin=>∀v G' H',After K G H ps G' H' fin→pf K H G' H' v w→Q v H'
 |.exc _ _=>False
theorem E3.imp {K:PySem.W.Frag}{ms:List Bool}{f e:List D→Option FR}(h:∀ds r,f ds=some r→e ds=some r):∀vs H Q E,E3 K ms f vs H Q E→E3 K ms e vs H Q E:=by
 rintro vs H Q E ⟨G,ds,ps,r,a,b,c,d⟩
 exact⟨G,ds,ps,r,a,b,h ds r c,d⟩
theorem U6.len {K:PySem.W.Frag}{G H:Hp}:∀{ms:List Bool} {vs:List V} {ds:List D} {ps:List Addr},U6 K G H ms vs ds ps→vs.length=ms.length∧ds.length=ms.length
 |_,_,_,_,.nil=>⟨rfl,rfl⟩
 |_,_,_,_,.sh _ r=>by obtain⟨a,b⟩:=r.len;exact⟨by simp[a],by simp[b]⟩
 |_,_,_,_,.ln _ _ _ r=>by obtain⟨a,b⟩:=r.len;exact⟨by simp[a],by simp[b]⟩
noncomputable def jK (m:Bool)(d:D):Option C:=some (if m=true then .ow true d else .sh d)
noncomputable def cells:List Bool→List D→k0
 |m::ms,d::ds=>jK m d::cells ms ds
 |_,_=>[]
noncomputable def A7 (n:Nat)(ms:List Bool)(ds:List D):k0:=cells ms ds++List.replicate (n-ds.length) none
noncomputable def bG:List Bool→k0→Option (List D)
 | [],_=>some []
 |false::ms,_::ρ=>bG ms ρ
 |true::ms,some (.ow true d)::ρ=>(bG ms ρ).map (d::·)
 |_,_=>none
noncomputable def rX (ms:List Bool):SR→Option FR
 |.nx ρ=>(bG ms ρ).map (FR.ret (.val .v1))
 |.rt (.slot _) _=>none
 |.rt w ρ=>(bG ms ρ).map (FR.ret w)
 |.ex x ρ=>(bG ms ρ).map (FR.exc x)
 |_=>none
noncomputable def n3 (m:SM)(n:Nat)(ms:List Bool)(ds:List D):Option FR:=(m (A7 n ms ds)).bind (rX ms)
noncomputable def R7:List Bool→List Addr→Nat→Option Addr
 | [],_,_=>none
 |false::_,_,0=>none
 |false::ms,ps,i+1=>R7 ms ps i
 |true::_,p::_,0=>some p
 |true::ms,_::ps,i+1=>R7 ms ps i
 |true::_,[],_=>none
section
variable {K:PySem.W.Frag}{G H:Hp}
theorem np:∀{ms:List Bool} {ds:List D},ds.length=ms.length→(cells ms ds).length=ms.length
 | [],[],_=>rfl
 | [],_::_,h=>by simp at h
 |_::_,[],h=>by simp at h
 |m::ms,d::ds,h=>by
  show(cells ms ds).length+1=ms.length+1;rw[np (by simpa using h)]
theorem U2:∀{ms:List Bool} {vs:List V} {ds:List D} {ps:List Addr} {i:Nat} {c:C},U6 K G H ms vs ds ps→(cells ms ds)[i]?=some (some c)→
  ∃v,vs[i]?=some v∧((∃d,c=.sh d∧Rep K G v d)∨∃p d,c=.ow true d∧v=.ref p∧p∈ps∧R7 ms ps i=some p∧G p=none∧A6 K G H p d)
 |_,_,_,_,i,c,.nil,e=>by simp[cells]at e
 |_,_,_,_,0,c,.sh h r,e=>by
  simp[cells,jK]at e;subst e;exact⟨_,rfl,.inl ⟨_,rfl,h⟩⟩
 |_,_,_,_,i+1,c,.sh h r,e=>by
  obtain⟨v,j,f⟩:=U2 (i:=i) r (by simpa[cells]using e);exact⟨v,by simpa using j,f⟩
 |_,_,_,_,0,c,.ln g o n r,e=>by
  simp[cells,jK]at e;subst e;exact⟨_,rfl,.inr ⟨_,_,rfl,rfl,List.mem_cons_self,rfl,g,o⟩⟩
 |_,_,_,_,i+1,c,.ln g o n r,e=>by
  obtain⟨v,j,f⟩:=U2 (i:=i) r (by simpa[cells]using e);refine⟨v,by simpa using j,?_⟩;rcases f with f| ⟨p,d,a,b,k,l,m,q⟩
  ·exact .inl f
  ·exact .inr ⟨p,d,a,b,List.mem_cons_of_mem _ k,l,m,q⟩
theorem yS {ms:List Bool}{vs:List V}{ds:List D}{ps:List Addr}(r:U6 K G H ms vs ds ps):∀{i j:Nat} {p:Addr},R7 ms ps i=some p→R7 ms ps j=some p→i=j:=by
 have mem:∀{ms:List Bool} {ps:List Addr} {i:Nat} {p:Addr},R7 ms ps i=some p→p∈ps:=by
  intro ms;induction ms with
  |nil=>intro ps i p h;cases h
  |cons m ms ih=>
   intro ps i p h;cases m with
   |false=>
    cases i with
    |zero=>cases h
    |succ i=>exact ih (i:=i) h
   |true=>
    cases ps with
    |nil=>cases i<;>cases h
    |cons q ps=>
     cases i with
     |zero=>cases h;exact List.mem_cons_self
     |succ i=>exact List.mem_cons_of_mem _ (ih (i:=i) h)
 induction r with
 |nil=>intro i j p h;cases h
 |sh h r ih=>
  intro i j p a b;cases i with
  |zero=>cases a
  |succ i=>
   cases j with
   |zero=>cases b
   |succ j=>rw[ih (i:=i) (j:=j) a b]
 |ln g o n r ih=>
  intro i j p a b;cases i with
  |zero=>
   cases a;cases j with
   |zero=>rfl
   |succ j=>exact absurd (mem (i:=j) b) n
  |succ i=>
   cases j with
   |zero=>cases b;exact absurd (mem (i:=i) a) n
   |succ j=>rw[ih (i:=i) (j:=j) a b]
theorem R9 {N:List Str}{vs:List V}{i:Nat}{v:V}(h:vs[i]?=some v):(start N vs)[i]?=some (some v):=by
 unfold L2.start;have hi:i<vs.length:=(List.getElem?_eq_some_iff.mp h).1;rw[List.getElem?_append_left (by simpa using hi),List.getElem?_map,h];rfl
theorem N0 {n:Nat}{ms:List Bool}{ds:List D}{i:Nat}{c:C}(h:(A7 n ms ds)[i]?=some (some c)):(cells ms ds)[i]?=some (some c):=by
 unfold A7 at h;by_cases hi:i<(cells ms ds).length
 ·rw[List.getElem?_append_left hi]at h;exact h
 ·rw[List.getElem?_append_right (by omega),List.getElem?_replicate]at h;split at h<;>cases h
theorem kj {N:List Str}{ms:List Bool}{vs:List V}{ds:List D}{ps:List Addr}(g:i8 G H)(r:U6 K G H ms vs ds ps)(hl:vs.length≤N.length):
  RS ⟨K,H,minus H ps,G,R7 ms ps,none⟩ G H (start N vs) (A7 N.length ms ds):=by
 obtain⟨I,z⟩:=r.len;refine⟨N2 H ps,N2 H ps,i8.refl _,g,λp o e=>.inl e,λp e=>e,?_,λi d e=>?_,λi l d e=>?_,λi j l d k e p a b=>?_,λi es e=>?_,λi l fds e=>?_,λi fds e=>?_⟩
 ·unfold L2.start A7;rw[List.length_append,List.length_append,List.length_map,List.length_replicate,List.length_replicate,np z];omega
 ·obtain⟨v,n,c⟩:=U2 r (N0 e);rcases c with⟨f,q,h⟩ | ⟨p,f,q,_⟩
  ·cases q;exact⟨v,R9 n,h⟩
  ·cases q
 ·obtain⟨v,n,c⟩:=U2 r (N0 e);rcases c with⟨f,q,h⟩ | ⟨p,f,q,rfl,m,s,gp,o⟩
  ·cases q
  ·cases q;exact⟨p,R9 n,gp,bU m,.inl s,o⟩
 ·obtain⟨v,n,c⟩:=U2 r (N0 a);obtain⟨J,A,B⟩:=U2 r (N0 b);rcases c with⟨f,q,h⟩ | ⟨t,f,q,rfl,m,s,gp,o⟩
  ·cases q
  rcases B with⟨E,w,h⟩ | ⟨L,E,w,rfl,O,u,F,P⟩
  ·cases w
  intro x y;rw[R9 n]at x;rw[R9 A]at y;cases x;cases y;exact yS r s u
 ·obtain⟨v,n,c⟩:=U2 r (N0 e);rcases c with⟨f,q,h⟩ | ⟨t,f,q,_⟩<;>cases q
 ·obtain⟨v,n,c⟩:=U2 r (N0 e);rcases c with⟨f,q,h⟩ | ⟨t,f,q,_⟩<;>cases q
 ·obtain⟨v,n,c⟩:=U2 r (N0 e);rcases c with⟨f,q,h⟩ | ⟨t,f,q,_⟩<;>cases q
theorem eG {B:Bs}{G' H':Hp}{σ:St}{ρ:k0}(j:∀i,B.gh i=false)(R:RS B G' H' σ ρ):∀{ms:List Bool} {vs:List V} {ds:List D} {ps:List Addr} (_:U6 K G H ms vs ds ps) (k:Nat) (ρ':k0) (fin:List D),(∀i,ρ'[i]?=ρ[k+i]?)→(∀i,R7 ms ps i=B.L (k+i))→bG ms ρ'=some fin→Paired (λp d=>G' p=none∧A6 B.K G' H' p d) ps fin
 |_,_,_,_,.nil,k,ρ',fin,_,_,e=>by cases e;exact .nil
 |_,_,_,_,.sh h r,k,ρ',fin,a,f,e=>by
  cases ρ' with
  |nil=>cases e
  |cons c ρ'=>
   refine eG j R r (k+1) ρ' fin (λi=>?_) (λi=>?_) e
   ·have:=a (i+1);rw[List.getElem?_cons_succ]at this;rw[this];congr 1;omega
   ·have:=f (i+1);rw[show k+1+i=k+(i+1) by omega,←this];rfl
 |_,_,_,_,.ln (p:=p) g o n r,k,ρ',fin,a,f,e=>by
  cases ρ' with
  |nil=>cases e
  |cons c ρ'=>
   match c,e with
   |some (.ow true d),e=>
    obtain⟨b,q,rfl⟩:=g7.mp e;refine .cons ?_ (eG j R r (k+1) ρ' b (λi=>?_) (λi=>?_) q)
    ·have s:=a 0;obtain⟨l,x,t,y,u,v⟩:=R.ow (k+0) true d s.symm;have m:B.L (k+0)=some l:=by
      rcases u with z| ⟨z,_⟩
      ·exact z
      ·rw[j]at z;cases z
     rw[←f 0]at m;have w:some p=some l:=m;cases w;exact⟨t,v⟩
    ·have:=a (i+1);rw[List.getElem?_cons_succ]at this;rw[this];congr 1;omega
    ·have:=f (i+1);rw[show k+1+i=k+(i+1) by omega,←this];rfl
   |none,e=>cases e
   |some (.sh _),e=>cases e
   |some (.ow false _),e=>cases e
   |some (.ob _ _),e=>cases e
   |some (.rd _),e=>cases e
end
theorem _root_.L2.lA.ah {X:Cx}{E c:Value→Shared→Prop}{st:List Stmt}{t:TS}(h:lA (X.W8 E) st t)(i:∀e s,E e s→c e s):lA (X.W8 c) st t:=λpins s σ H D I d=>
 z5 (h pins s σ H D (I.T0.W8 _) d) (λ_ _ q=>by
  have b:=q.T0;cases ‹Flow› with
  |next=>obtain⟨a,H',I,q⟩:=b;exact⟨a,H',I.W8 _,q⟩
  |brk=>obtain⟨a,H',I,q⟩:=b;exact⟨a,H',I.W8 _,q⟩
  |cont=>obtain⟨a,H',I,q⟩:=b;exact⟨a,H',I.W8 _,q⟩
  |ret u=>obtain⟨v,a,H',I,r,q⟩:=b;exact⟨v,a,H',I.W8 _,r,q⟩) λe s z=>i e s z
section
variable {P:Program}{w:World}{K:PySem.W.Frag}{mg:Str→Option Value}{base:Heap}
theorem N4 {x:Str}{st:Stmt}{f:Addr}{fd:FuncData}{N ps:List Str}{ms:List Bool}{k:Nat}{m:SM}(F:bo K x x st f fd)(S:m7 N ps (j3 st))(B:ms.length=ps.length)
  (l:∀(cdv:Value) (A:Around) (outer:List Env) (s:Shared) (H:Hp) (E:XK) (H0 HK G0:Hp) (L:Nat→Option Addr),O6 k (A.deeper (bM x (j3 st) s.heap.objs.size f cdv))→
   iu (lg W0 P w K mg base N x (j3 st) f cdv A outer s H E) ⟨K,H0,HK,G0,L,none⟩ (F9 st) m):x2 P w K mg base W0 (k+1) f fd ps (E3 K ms (n3 m N.length ms)):=by
 have u:ps.length≤N.length:=by have:=congrArg List.length S.pre;rw[List.length_take]at this;omega
 refine F.ok S (λvs H Q E h=>?_) (λcdv A outer s H vs Q E hr h=>?_)
 ·obtain⟨G,ds,o,r,_,a,_⟩:=h;rw[a.len.1,B]
 obtain⟨G,ds,o,r,g,a,t,q⟩:=h;refine⟨_,((l cdv A outer s H E H (minus H o) G (R7 ms o) hr).ap λ_ _ _=>False).ah (λe s z=>?_),?_⟩
 ·obtain⟨_,_,_,_,_,_,z⟩:=z;exact z
 have J:=kj (N:=N) g a (by rw[a.len.1,B];exact u);unfold n3 at t;cases hs:m (A7 N.length ms ds)with
 |none=>rw[hs]at t;cases t
 |some y=>
  rw[hs]at t;have c:rX ms y=some r:=t;refine⟨G,A7 N.length ms ds,J,y,hs,?_⟩;have fin:∀{ρ':k0} {j:St} {G' H':Hp} {b:List D},bG ms ρ'=some b→RS ⟨K,H,minus H o,G,R7 ms o,none⟩ G' H' j ρ'→After K G H o G' H' b:=λ{ρ' j G' H' b} e R'=>
   ⟨R'.keep,R'.g0,R'.gH,R'.gnew,R'.dom,eG (λ_=>rfl) R' a 0 ρ' b (λi=>by rw[M5]) (λi=>by rw[M5]) e⟩
  cases y with
  |nx ρ'=>
   obtain⟨b,e,rfl⟩:=g7.mp c;exact λj G' H' I R'=>q .v1 G' H' (fin e R') .v1
  |rt O ρ'=>
   cases O with
   |slot i=>cases c
   |val d=>
    obtain⟨b,e,rfl⟩:=g7.mp c;exact λv j G' H' I R' n=>q v G' H' (fin e R') n
   |own d=>
    obtain⟨b,e,rfl⟩:=g7.mp c;exact λv j G' H' I R' n=>q v G' H' (fin e R') (let⟨p,R,T,U,X,_⟩:=n;⟨p,R,T,U,X⟩)
  |ex x ρ'=>
   obtain⟨b,e,rfl⟩:=g7.mp c;exact q.elim
  |bk ρ'=>cases c
  |ct ρ'=>cases c
theorem fR {A:Around}{k:Nat}(hr:O6 k A):A.units+8<B3:=by have:=hr.units;omega
theorem Co {K:PySem.W.Frag}{b:List D→Option FR}(h:∀ns:List Int,ns.length≤63→b [.lst (ns.map D.int)]=some (.ret (.val (.bl true)) [])):∀vs H Q E,xL K vs H Q E→E3 K [false] b vs H Q E:=by
 rintro vs H Q E ⟨a,ns,rfl,hS,hl,q⟩
 refine⟨H,[.lst (ns.map D.int)],[],_,i8.refl _,.sh (.lst hS (n9.gB (K:=K) (G:=H) ns).len (n9.gB (K:=K) (G:=H) ns).get) .nil,h ns hl,λv G' H' _ r=>?_⟩;cases(show Rep K G' v (.bl true)from r);exact q H'
end
noncomputable def gR:Nat→D→Bool
 |_,.v1=>true
 |_,.bl _=>true
 |_,.int _=>true
 |_,.str _=>true
 |_,.ty _=>true
 |n+1,.tup ds=>ds.all (gR n)
 |_,_=>false
noncomputable abbrev U5 (d:D):Bool:=gR 6 d
noncomputable def dR:W→Bool
 |.val d=>U5 d
 |.own (.lst ds)=>ds.all U5
 |.own (.dct es)=>es.all λe=>U5 e.2
 |_=>false
noncomputable def U4:D→Bool
 |.lst ds=>ds.all U5
 |.dct es=>es.all λe=>U5 e.2
 |_=>false
noncomputable def sD:Option HO→Prop
 |some (.lst _)=>True
 |some (.dK _)=>True
 |_=>False
section
variable {K:PySem.W.Frag}{G H:Hp}{bs:List Addr}
theorem wq {a:Addr}{xs:List V}(c:∀b∈bs,sD (G b))(h:bn K G a xs):bn K (minus G bs) a xs:=by
 rcases h with(h| ⟨o,h⟩) |h
 ·refine .inl (.inl ?_);rw[V3 λm=>?_]
  ·exact h
  ·have:=c a m;rw[h]at this;exact this
 ·refine .inl (.inr ⟨o,?_⟩);rw[V3 λm=>?_]
  ·exact h
  ·have:=c a m;rw[h]at this;exact this
 ·exact .inr h
theorem Rep.minus:∀(n:Nat) {v:V} {d:D},(∀b∈bs,sD (G b))→gR n d=true→Rep K G v d→Rep K (minus G bs) v d:=by
 intro n;induction n with
 |zero=>
  intro v d e c h;cases h with
  |v1=>exact .v1
  |bl b=>exact .bl b
  |int b=>exact .int b
  |str b=>exact .str b
  |ty b=>exact .ty b
  |tup _ _ _=>cases c
  |lst _ _ _=>cases c
  |dct _ _ _=>cases c
 |succ n ih=>
  intro v d e c h;cases h with
  |v1=>exact .v1
  |bl b=>exact .bl b
  |int b=>exact .int b
  |str b=>exact .str b
  |ty b=>exact .ty b
  | @tup a xs ds h l r=>
   have f:=List.all_eq_true.mp (show ds.all (gR n)=true from c);exact .tup (wq e h) l λj x d a b=>ih e (f d (List.mem_of_getElem? b)) (r j x d a b)
  |lst _ _ _=>cases c
  |dct _ _ _=>cases c
theorem n9.minus {xs:List V}{ds:List D}(c:∀b∈bs,sD (G b))(e:ds.all U5=true)(h:n9 K G xs ds):n9 K (minus G bs) xs ds:=
 ⟨h.len,λj x d a b=>Rep.minus 6 c (List.all_eq_true.mp e d (List.mem_of_getElem? b)) (h.get j x d a b)⟩
theorem m3.minus {xs:List (Key×V)}{ds:List (Key×D)}(c:∀b∈bs,sD (G b))(f:(ds.all λe=>U5 e.2)=true)(h:m3 K G xs ds):m3 K (minus G bs) xs ds:=
 ⟨h.keys,λj x d a b=>Rep.minus 6 c (List.all_eq_true.mp f d (List.mem_of_getElem? b)) (h.get j x d a b)⟩
theorem A6.minus {p:Addr}{d:D}(a:∀b∈bs,sD (G b))(c:U4 d=true)(h:A6 K G H p d):A6 K (minus G bs) H p d:=by
 cases d with
 |lst ds=>obtain⟨xs,e,r⟩:=h;exact⟨xs,e,r.minus a c⟩
 |dct es=>obtain⟨xs,e,r⟩:=h;exact⟨xs,e,r.minus a c⟩
 |_=>exact(show False from h).elim
end
noncomputable def P6:List Bool→List W→k0→Option (List D)
 | [],[],_=>some []
 |false::ms,w::a,ρ=>match getD w ρ,P6 ms a ρ with
  |some d,some ds=>some (d::ds)
  |_,_=>none
 |true::ms,.slot i::a,ρ=>match ρ[i]?,P6 ms a ρ with
  |some (some (.ow _ d)),some ds=>some (d::ds)
  |_,_=>none
 |_,_,_=>none
noncomputable def L1:List Bool→List W→List Nat
 |true::ms,.slot i::a=>i::L1 ms a
 |_::ms,_::a=>L1 ms a
 |_,_=>[]
noncomputable def cg (ρ:k0):List Bool→List W→List Nat
 |false::ms,.slot i::a=>match ρ[i]? with
  |some (some (.ow _ _))=>i::cg ρ ms a
  |_=>cg ρ ms a
 |_::ms,_::a=>cg ρ ms a
 |_,_=>[]
noncomputable def rK:List Nat→List D→k0→Option k0
 | [],[],ρ=>some ρ
 |i::is,d::ds,ρ=>match ρ[i]? with
  |some (some (.ow l _))=>rK is ds (ρ.set i (some (.ow l d)))
  |_=>none
 |_,_,_=>none
noncomputable def fA:List Nat→k0→Option k0
 | [],ρ=>some ρ
 |i::is,ρ=>match ρ[i]? with
  |some (some (.ow false d))=>fA is (ρ.set i (some (.sh d)))
  |some (some (.sh _))=>fA is ρ
  |_=>none
noncomputable def pa (a bs:List Nat):Bool:=decide a.Nodup&&a.all λi=>!bs.contains i
noncomputable def vd (ms:List Bool)(c:List D→Option FR)(a:List W):M W:=λρ=>match P6 ms a ρ with
 |none=>none
 |some ds=>if pa (L1 ms a) (cg ρ ms a)=true then match c ds with
  |some (.ret w fin)=>match rK (L1 ms a) fin ρ with
   |none=>none
   |some b=>if(dR w&&fin.all U4)=true then some (.ok w b)else(fA (cg ρ ms a) b).map (R'.ok w ·)
  |_=>none
  else none
noncomputable def o9 (ms:List Bool)(a:List D→Option FR)(m:M (List W)):M W:=M.bind m λb=>vd ms a b
noncomputable def m6 (σ:St)(is:List Nat):List Addr:=is.filterMap λi=>match σ[i]? with
 |some (some (V.ref p))=>some p
 |_=>none
section
variable {B:Bs}{G H:Hp}{σ:St}{ρ:k0}
theorem L6 {is:List Nat}{p:Addr}:p∈m6 σ is↔∃i∈is,σ[i]?=some (some (.ref p)):=by
 unfold m6;rw[List.mem_filterMap];constructor
 ·rintro ⟨i,hi,e⟩
  refine⟨i,hi,?_⟩;split at e
  ·cases e;assumption
  ·cases e
 ·rintro ⟨i,hi,e⟩
  exact⟨i,hi,by rw[e]⟩
noncomputable def plus (G H:Hp)(bs:List Addr):Hp:=λb=>if b∈bs then H b else G b
theorem Y8 {bs:List Addr}{b:Addr}(h:b∈bs):plus G H bs b=H b:=if_pos h
theorem T2 {bs:List Addr}{b:Addr}(h:b∉bs):plus G H bs b=G b:=if_neg h
theorem eK:∀{ms:List Bool} {ws:List W} {i:Nat},i∈cg ρ ms ws→∃l d,ρ[i]?=some (some (.ow l d))
 | [],[],i,h=>by cases h
 | [],_::_,i,h=>by cases h
 |true::_,[],i,h=>by cases h
 |false::_,[],i,h=>by cases h
 |true::ms,w::ws,i,h=>by
  have h':i∈cg ρ ms ws:=by cases w<;>exact h
  exact eK h'
 |false::ms,.val _::ws,i,h=>eK (ms:=ms) (ws:=ws) h
 |false::ms,.own _::ws,i,h=>eK (ms:=ms) (ws:=ws) h
 |false::ms,.slot j::ws,i,h=>by
  unfold cg at h;split at h
  ·rename_i l d a;rcases List.mem_cons.mp h with rfl|h
   ·exact⟨l,d,a⟩
   ·exact eK h
  ·exact eK h
theorem args_call (R:RS B G H σ ρ){bs:List Addr}(g:i8 G (plus G H bs)):∀{ms:List Bool} {b:List W} {vs:List V} {ds:List D},M3 B G H σ ρ vs b→P6 ms b ρ=some ds→(∀i∈cg ρ ms b,∀p,σ[i]?=some (some (.ref p))→p∈bs)→(∀i∈L1 ms b,∀p,σ[i]?=some (some (.ref p))→p∉bs)→(L1 ms b).Nodup→
  U6 B.K (plus G H bs) H ms vs ds (m6 σ (L1 ms b))
 | [],[],_,ds,q,e,_,_,_=>by cases q;cases e;exact .nil
 | [],_::_,_,_,_,e,_,_,_=>by cases e
 |true::_,[],_,_,_,e,_,_,_=>by cases e
 |false::_,[],_,_,_,e,_,_,_=>by cases e
 |false::ms,w::b,_,ds,q,e,F,hl,nd=>by
  cases q with
  | @cons v _ vs _ h t=>
   unfold P6 at e;cases f:getD w ρ with
   |none=>rw[f]at e;cases e
   |some d=>
    cases n:P6 ms b ρ with
    |none=>rw[f,n]at e;cases e
    |some z=>
     rw[f,n]at e;cases e;have A:L1 (false::ms) (w::b)=L1 ms b:=by cases w<;>rfl
     rw[A]at hl nd⊢;have L:∀i∈cg ρ ms b,∀p,σ[i]?=some (some (.ref p))→p∈bs:=λi hi=>F i (by
      cases w with
      |slot j=>
       unfold cg;split
       ·exact List.mem_cons_of_mem _ hi
       ·exact hi
      |val _=>exact hi
      |own _=>exact hi)
     refine .sh ?_ (args_call R g t n L hl nd);rcases h.1.get R f with r| ⟨p,rfl,o⟩
     ·exact r.same g
     ·
      cases w with
      |val _=>cases f;exact Rep.same g h.1
      |own _=>exact absurd (show false=true from h.2) D5
      |slot j=>
       have u:σ[j]?=some (some (.ref p)):=h.1;have c:∃l s,ρ[j]?=some (some (.ow l s))∨(∃s,ρ[j]?=some (some (.sh s)))∨∃es,ρ[j]?=some (some (.fz es)):=by
        unfold getD at f;simp only[]at f;split at f
        ·rename_i s q;exact⟨true,s,.inr (.inl ⟨_,q⟩)⟩
        ·rename_i l s q;exact⟨l,s,.inl q⟩
        ·rename_i es q;exact⟨true,.v1,.inr (.inr ⟨es,q⟩)⟩
        ·cases f
       obtain⟨l,s,c| ⟨I,c⟩ | ⟨es,c⟩⟩:=c
       ·have E:d=s:=by
         unfold getD at f;simp only[c]at f;exact(i9 f).symm
        subst E;have J:p∈bs:=F j (by unfold cg;rw[c];exact List.mem_cons_self) p u;cases d with
        |lst ds=>
         obtain⟨xs,e,r⟩:=o;have x:=r.same g;exact .lst (P8.of (by rw[Y8 J];exact e)) x.len x.get
        |dct es=>
         obtain⟨xs,e,r⟩:=o;have x:=r.same g;exact .dct (.inl (by rw[Y8 J];exact e)) x.keys x.get
        |_=>exact(show False from o).elim
       ·obtain⟨v',y,r⟩:=R.sh j I c;rw[u]at y;cases y;have E:d=I:=by
         unfold getD at f;simp only[c]at f;exact(i9 f).symm
        subst E;exact r.same g
       ·obtain⟨a,ob,kvs,y,N,Q⟩:=R.fz j es c;rw[u]at y;cases y;have E:d=.dct es:=by
         unfold getD at f;simp only[c]at f;exact(i9 f).symm
        subst E;have x:=Q.same g;exact .dct (.inr ⟨ob,g _ _ N⟩) x.keys x.get
 |true::ms,.val _::b,_,ds,q,e,_,_,_=>by cases e
 |true::ms,.own _::b,_,ds,q,e,_,_,_=>by cases e
 |true::ms,.slot i::b,_,ds,q,e,F,hl,nd=>by
  cases q with
  | @cons v _ vs _ h t=>
   unfold P6 at e;split at e
   ·rename_i l d z hi n;cases e;have u:σ[i]?=some (some v):=h.1;obtain⟨p,y,N,Q,q4,X⟩:=R.ow i l d hi;rw[u]at y;cases y;have A:L1 (true::ms) (.slot i::b)=i::L1 ms b:=rfl;rw[A]at hl nd⊢;obtain⟨S,T⟩:=List.nodup_cons.mp nd;have U:m6 σ (i::L1 ms b)=p::m6 σ (L1 ms b):=by
     unfold m6;rw[List.filterMap_cons,u]
    rw[U];have J:p∉bs:=hl i List.mem_cons_self p u;refine .ln (by rw[T2 J];exact N) (X.same g rfl) (λm=>?_) (args_call R g t n (λj c=>F j c) (λj c=>hl j (List.mem_cons_of_mem _ c)) T);obtain⟨j,c,Y⟩:=L6.mp m;have O:∃l d,ρ[j]?=some (some (.ow l d)):=by
     clear hl S T nd U m;have key:∀{ms:List Bool} {b:List W} {ds:List D},P6 ms b ρ=some ds→∀j∈L1 ms b,∃l d,ρ[j]?=some (some (.ow l d)):=by
      intro ms;induction ms with
      |nil=>intro b ds e j c;cases b<;>cases c
      |cons m ms ih=>
       intro b ds e j c;cases b with
       |nil=>cases m<;>cases c
       |cons w b=>
        cases m with
        |false=>
         have A:L1 (false::ms) (w::b)=L1 ms b:=by cases w<;>rfl
         rw[A]at c;unfold P6 at e;split at e
         ·rename_i n;exact ih n j c
         ·cases e
        |true=>
         cases w with
         |val _=>cases e
         |own _=>cases e
         |slot k=>
          unfold P6 at e;split at e
          ·rename_i l d z hk n;rcases List.mem_cons.mp c with rfl|c
           ·exact⟨l,d,hk⟩
           ·exact ih n j c
          ·cases e
     exact key n j c
    obtain⟨Z,I,P⟩:=O;have:=R.inj i j l d Z I p hi P u Y;subst this;exact S c
   ·cases e
theorem pP:∀{is:List Nat} {ds:List D} {ρ ρ':k0},rK is ds ρ=some ρ'→is.Nodup→ρ'.length=ρ.length∧(∀i,i∉is→ρ'[i]?=ρ[i]?)∧∀(k i:Nat),is[k]?=some i→∃l d o,ρ[i]?=some (some (.ow l d))∧ds[k]?=some o∧ρ'[i]?=some (some (.ow l o))
 | [],[],ρ,ρ',e,_=>by cases e;exact⟨rfl,λ_ _=>rfl,λk i h=>by simp at h⟩
 | [],_::_,_,_,e,_=>by cases e
 |_::_,[],_,_,e,_=>by cases e
 |i::is,d::ds,ρ,ρ',e,nd=>by
  unfold rK at e;split at e
  ·rename_i l s hi;have g:i<ρ.length:=(List.getElem?_eq_some_iff.mp hi).1;obtain⟨p,t⟩:=List.nodup_cons.mp nd;obtain⟨a,b,c⟩:=pP e t;refine⟨by rw[a];simp,λj q=>?_,λk j hk=>?_⟩
   ·rw[b j λm=>q (List.mem_cons_of_mem _ m),List.getElem?_set_ne λz=>q (by rw[z];exact List.mem_cons_self)]
   ·cases k with
    |zero=>
     simp at hk;subst hk;exact⟨l,s,d,hi,rfl,by rw[b i p,List.getElem?_set_self g]⟩
    |succ k=>
     have f:is[k]?=some j:=by simpa using hk
     obtain⟨u,v,w,r,x,y⟩:=c k j f;have n:i≠j:=λz=>p (by rw[z];exact List.mem_of_getElem? f);rw[List.getElem?_set_ne n]at r;exact⟨u,v,w,r,by simpa using x,y⟩
  ·cases e
theorem fy:∀{is:List Nat} {ρ ρ':k0},fA is ρ=some ρ'→ρ'.length=ρ.length∧(∀i,i∉is→ρ'[i]?=ρ[i]?)∧∀i∈is,∃d,ρ'[i]?=some (some (.sh d))∧(ρ[i]?=some (some (.ow false d))∨ρ[i]?=some (some (.sh d)))
 | [],ρ,ρ',e=>by cases e;exact⟨rfl,λ_ _=>rfl,λi h=>by cases h⟩
 |i::is,ρ,ρ',e=>by
  unfold fA at e;split at e
  ·rename_i d hi;have k:i<ρ.length:=(List.getElem?_eq_some_iff.mp hi).1;obtain⟨a,b,c⟩:=fy e;refine⟨by rw[a];simp,λj f=>?_,λj f=>?_⟩
   ·rw[b j λm=>f (List.mem_cons_of_mem _ m),List.getElem?_set_ne λz=>f (by rw[z];exact List.mem_cons_self)]
   ·by_cases z:i=j
    ·subst z;by_cases m:i∈is
     ·obtain⟨o,l,g⟩:=c i m;rw[List.getElem?_set_self k]at g;rcases g with g|g
      ·cases g
      ·cases g;exact⟨d,l,.inl hi⟩
     ·exact⟨d,by rw[b i m,List.getElem?_set_self k],.inl hi⟩
    ·have n:j∈is:=by rcases List.mem_cons.mp f with h|h;exact absurd h.symm z;exact h
     obtain⟨o,l,g⟩:=c j n;rw[List.getElem?_set_ne z]at g;exact⟨o,l,g⟩
  ·rename_i d hi;obtain⟨a,b,c⟩:=fy e;refine⟨a,λj f=>b j λm=>f (List.mem_cons_of_mem _ m),λj f=>?_⟩;rcases List.mem_cons.mp f with rfl|f
   ·by_cases m:j∈is
    ·exact c j m
    ·exact⟨d,by rw[b j m];exact hi,.inr hi⟩
   ·exact c j f
  ·cases e
theorem nz:∀{is:List Nat} {k i:Nat} {p:Addr},(∀j∈is,∃q,σ[j]?=some (some (.ref q)))→is[k]?=some i→σ[i]?=some (some (.ref p))→(m6 σ is)[k]?=some p
 | [],k,i,p,_,h,_=>by simp at h
 |j::is,k,i,p,a,h,e=>by
  obtain⟨q,b⟩:=a j List.mem_cons_self;have c:m6 σ (j::is)=q::m6 σ is:=by
   unfold m6;rw[List.filterMap_cons,b]
  rw[c];cases k with
  |zero=>
   simp at h;subst h;rw[b]at e;cases e;rfl
  |succ k=>exact nz (λl hl=>a l (List.mem_cons_of_mem _ hl)) (by simpa using h) e
theorem fC {α c:Type}{F:α→c→Prop}:∀{xs:List α} {d:List c} {k:Nat} {x:α} {y:c},Paired F xs d→xs[k]?=some x→d[k]?=some y→F x y
 |_,_,0,_,_,.cons h _,a,b=>by simp at a b;subst a b;exact h
 |_,_,k+1,_,_,.cons _ t,a,b=>fC (k:=k) t (by simpa using a) (by simpa using b)
 |_,_,_,_,_,.nil,a,_=>by simp at a
theorem Fb {p:Addr}{d:D}{K:PySem.W.Frag}(o:A6 K G H p d):sD (H p):=by
 cases d with
 |lst ds=>obtain⟨xs,e,_⟩:=o;rw[e];exact True.intro
 |dct es=>obtain⟨xs,e,_⟩:=o;rw[e];exact True.intro
 |_=>exact(show False from o).elim
theorem cW {J li:List Nat}{G' H':Hp}{fin:List D}{s S:k0}{v:V}{w:W}(R:RS B G H σ ρ)(c0:∀i∈J,∃l d,ρ[i]?=some (some (.ow l d)))(Y:∀i∈li,∃l d,ρ[i]?=some (some (.ow l d)))(nd:li.Nodup)(ap:∀i∈li,i∉J)
  (A:After B.K (plus G H (m6 σ J)) H (m6 σ li) G' H' fin) (hs:rK li fin ρ=some s) (rr:pf B.K H G' H' v w)
  (b4:((dR w&&fin.all U4)=true∧S=s)∨fA J s=some S):∃Gn,i8 G Gn∧RS B Gn H' σ S∧E2 B Gn H' σ S v w:=by
 have u:∀{i l d},ρ[i]?=some (some (.ow l d))→∃p,σ[i]?=some (some (.ref p))∧G p=none∧B.HK p=none∧IF B i l p∧A6 B.K G H p d:=λh=>R.ow _ _ _ h;have c1:∀j∈li,∃q,σ[j]?=some (some (.ref q)):=λj hj=>by
  obtain⟨l,d,h⟩:=Y j hj;obtain⟨p,q,_⟩:=u h;exact⟨p,q⟩
 have Z:∀{b},b∈m6 σ J→∃i l d,i∈J∧ρ[i]?=some (some (.ow l d))∧σ[i]?=some (some (.ref b))∧G b=none∧B.HK b=none∧IF B i l b∧A6 B.K G H b d:=λ{b} hb=>by
  obtain⟨i,hi,e⟩:=L6.mp hb;obtain⟨l,d,h⟩:=c0 i hi;obtain⟨p,n,F,N,P,t⟩:=u h;rw[e]at n;cases n;exact⟨i,l,d,hi,h,e,F,N,P,t⟩
 have kH:∀{b},b∈m6 σ li→∃i l d,i∈li∧ρ[i]?=some (some (.ow l d))∧σ[i]?=some (some (.ref b))∧G b=none∧B.HK b=none:=λ{b} hb=>by
  obtain⟨i,hi,e⟩:=L6.mp hb;obtain⟨l,d,h⟩:=Y i hi;obtain⟨p,n,F,N,P,t⟩:=u h;rw[e]at n;cases n;exact⟨i,l,d,hi,h,e,F,N⟩
 have s1:i8 G (plus G H (m6 σ J)):=λb o e=>by
  rw[T2 λm=>?_]
  ·exact e
  ·obtain⟨_,_,_,_,_,_,g,_⟩:=Z m;rw[e]at g;cases g
 have s2:i8 G G':=s1.trans A.gg;have a3:∀b∈m6 σ J,sD (G' b):=λb hb=>by
  obtain⟨i,l,d,_,_,_,_,_,_,o⟩:=Z hb;obtain⟨ob,Q⟩:=o.some;have e:=A.gg b ob (by rw[Y8 hb];exact Q);have z:=Fb o;rw[Q]at z;rw[e];exact z
 obtain⟨a9,y,a4⟩:=pP hs nd
 
 have T:∀b o,H b=some o→b∉m6 σ li→H' b=some o:=λb o e hb=>A.keep b o (by rw[V3 hb];exact e);have a5:i8 B.HK H':=λb o e=>T b o (R.keep b o e) λm=>by
  obtain⟨_,_,_,_,_,_,_,hk⟩:=kH m;rw[e]at hk;cases hk
 have L:∀p,G p=none→p∉m6 σ J→(∃o,H p=some o)→G' p=none:=λp g nb ⟨o,ho⟩=>by
  cases hg:G' p with
  |none=>rfl
  |some ob=>
   rcases A.gnew p ob hg with z|z
   ·rw[T2 nb,g]at z;cases z
   ·rw[ho]at z;cases z
 
 have U:∀{i},i∈li→∀{l O},s[i]?=some (some (.ow l O))→∃p,σ[i]?=some (some (.ref p))∧G' p=none∧B.HK p=none∧IF B i l p∧A6 B.K G' H' p O∧O∈fin:=λ{i} hi {l O} e=>by
  obtain⟨k,hk⟩:=List.getElem?_of_mem hi;obtain⟨l0,d0,d1,e0,I,E⟩:=a4 k i hk;rw[e]at E;cases E;obtain⟨p,n,F,N,P,t⟩:=u e0;have hp:=nz c1 hk n;obtain⟨z1,z2⟩:=fC A.lent hp I;exact⟨p,n,z1,N,P,z2,List.mem_of_getElem? I⟩
 have x:∀{i},i∉li→∀{l O},s[i]?=some (some (.ow l O))→∃p,σ[i]?=some (some (.ref p))∧G p=none∧B.HK p=none∧IF B i l p∧A6 B.K G H p O∧H' p=H p∧ρ[i]?=some (some (.ow l O)):=λ{i} hi {l O} e=>by
  rw[y i hi]at e;obtain⟨p,n,F,N,P,t⟩:=u e;obtain⟨o,ho⟩:=t.some;refine⟨p,n,F,N,P,t,?_,e⟩;rw[ho];refine T p o ho λm=>?_;obtain⟨j,l2,d2,hj,ej,b2,_⟩:=kH m;exact hi (by rw[R.inj i j _ _ _ _ p e ej n b2];exact hj)
 have b5:∀{i:Nat} {O:D},s[i]?=some (some (C.sh O))→ρ[i]?=some (some (C.sh O)):=λ{i O} e=>by
  by_cases hi:i∈li
  ·obtain⟨k,hk⟩:=List.getElem?_of_mem hi;obtain⟨l0,d0,d1,e0,I,E⟩:=a4 k i hk;rw[e]at E;cases E
  ·rw[y i hi]at e;exact e
 have b6:∀{i:Nat} {es:List (Key×D)},s[i]?=some (some (C.fz es))→ρ[i]?=some (some (C.fz es)):=λ{i es} e=>by
  by_cases hi:i∈li
  ·obtain⟨k,hk⟩:=List.getElem?_of_mem hi;obtain⟨l0,d0,d1,e0,I,E⟩:=a4 k i hk;rw[e]at E;cases E
  ·rw[y i hi]at e;exact e
 have b0:∀{i j:Nat} {l:Bool} {d:D} {k:Bool} {e:D} {p:Addr},s[i]?=some (some (.ow l d))→s[j]?=some (some (.ow k e))→σ[i]?=some (some (.ref p))→σ[j]?=some (some (.ref p))→i=j:=λ{i j l d k e p} a b c f=>by
  have old:∀{i:Nat} {l:Bool} {d:D},s[i]?=some (some (.ow l d))→∃l d,ρ[i]?=some (some (.ow l d)):=λ{i l d} a=>by
   by_cases hi:i∈li
   ·exact Y i hi
   ·rw[y i hi]at a;exact⟨_,_,a⟩
  obtain⟨l1,d1,a1⟩:=old a;obtain⟨l2,d2,a2⟩:=old b;exact R.inj i j l1 d1 l2 d2 p a1 a2 c f
 have b7:∀{i:Nat} {c:C},FF c=true→s[i]?=some (some c)→ρ[i]?=some (some c):=λ{i c} z e=>by
  by_cases hi:i∈li
  ·obtain⟨k,hk⟩:=List.getElem?_of_mem hi;obtain⟨l0,d0,d1,e0,I,E⟩:=a4 k i hk;rw[e]at E;cases E;cases z
  ·rw[y i hi]at e;exact e
 have b8:∀{i:Nat} {d:D},s[i]?=some (some (C.ow true d))→∃d0,ρ[i]?=some (some (C.ow true d0)):=λ{i d} e=>by
  by_cases hi:i∈li
  ·obtain⟨k,hk⟩:=List.getElem?_of_mem hi;obtain⟨l0,d0,d1,e0,I,E⟩:=a4 k i hk;rw[e]at E;cases E;exact⟨_,e0⟩
  ·rw[y i hi]at e;exact⟨_,e⟩
 have b1:∀p C dx fs,H p=some (.ins C dx fs)→H' p=some (.ins C dx fs):=λp C dx fs e=>T p _ e λm=>by
  obtain⟨i,hi,E⟩:=L6.mp m;obtain⟨l,d,h⟩:=Y i hi;obtain⟨p',n,_,_,_,t⟩:=u h;rw[E]at n;cases n;exact aV t e rfl
 have a6:∀p C dx fs,H p=some (.ins C dx fs)→p∉m6 σ J:=λp C dx fs e m=>by
  obtain⟨i,l,d,_,_,_,_,_,_,o⟩:=Z m;exact aV o e rfl
 rcases b4 with⟨hf,rfl⟩ |c2
 ·
  rw[k6]at hf;obtain⟨fw,ff⟩:=hf;have sN:i8 G (minus G' (m6 σ J)):=λb o e=>by
   rw[V3 λm=>?_]
   ·exact s2 b o e
   ·obtain⟨_,_,_,_,_,_,g,_⟩:=Z m;rw[e]at g;cases g
  refine⟨minus G' (m6 σ J),sN,⟨R.hk,a5,R.g0.trans sN,(N2 _ _).trans A.gH,λb o e=>?_,λb e=>R.dom b (A.dom b e),by rw[a9];exact R.len,λi d e=>?_,λi l d e=>?_,λi j l d k e p a b c f=>b0 a b c f,λi es e=>(R.fz.same sN) i es (b6 e),R.ob.to sN (λp C dx fs e g=>by rw[V3 (a6 p C dx fs e)];exact L p g (a6 p C dx fs e) ⟨_,e⟩) (λp C dx fs e _ _=>b1 p C dx fs e) (λi c z e=>⟨b7 z e,rfl⟩) λj d e=>⟨b8 e,rfl⟩⟩,?_⟩
  ·have e':=N2 _ _ b o e;have nb:b∉m6 σ J:=λm=>by rw[bU m]at e;cases e
   rcases A.gnew b o e' with z|z
   ·rw[T2 nb]at z;exact R.gnew b o z
   ·exact .inr (R.dom b z)
  ·obtain⟨v,n,F⟩:=R.sh i d (b5 e);exact⟨v,n,F.same sN⟩
  ·by_cases hi:i∈li
   ·obtain⟨p,n,F,N,P,t,q6⟩:=U hi e;refine⟨p,n,?_,N,P,t.minus a3 (List.all_eq_true.mp ff d q6)⟩;unfold minus;split
    ·rfl
    ·exact F
   ·obtain⟨p,n,F,N,P,t,q6,q7⟩:=x hi e;refine⟨p,n,?_,N,P,t.same sN q6⟩;unfold minus;split
    ·rfl
    ·exact L p F ‹_› t.some
  ·cases w with
   |val d=>exact Rep.minus 6 a3 fw rr
   |slot i=>exact rr.elim
   |own d=>
    obtain⟨p,rfl,g,h0,o⟩:=rr;have fo:U4 d=true:=by
     cases d with
     |lst ds=>exact fw
     |dct es=>exact fw
     |_=>exact(show False from o).elim
    refine⟨p,rfl,?_,R.dom p h0,o.minus a3 fo,λi l e he z=>?_⟩
    ·unfold minus;split
     ·rfl
     ·exact g
    ·have hz:∃ob,H p=some ob:=by
      by_cases hi:i∈li
      ·obtain⟨l0,d0,a0⟩:=Y i hi;obtain⟨p',n,_,_,_,t⟩:=u a0;rw[z]at n;cases n;exact t.some
      ·obtain⟨p',n,F,N,P,t,_⟩:=x hi he;rw[z]at n;cases n;exact t.some
     obtain⟨ob,Q⟩:=hz;rw[h0]at Q;cases Q
 ·
  obtain⟨b9,X,a7⟩:=fy c2;have a8:∀{i:Nat} {l:Bool} {d:D},S[i]?=some (some (.ow l d))→i∉J∧s[i]?=some (some (.ow l d)):=λ{i l d} e=>by
   have hi:i∉J:=λm=>by
    obtain⟨O,I,_⟩:=a7 i m;rw[e]at I;cases I
   exact⟨hi,by rw[←X i hi];exact e⟩
  have c3:∀{i:Nat} {es:List (Key×D)},S[i]?=some (some (C.fz es))→s[i]?=some (some (C.fz es)):=λ{i es} e=>by
   have hi:i∉J:=λm=>by
    obtain⟨O,I,_⟩:=a7 i m;rw[e]at I;cases I
   rw[←X i hi];exact e
  have c4:∀{i:Nat} {c:C},FF c=true→S[i]?=some (some c)→s[i]?=some (some c):=λ{i c} z e=>by
   have hi:i∉J:=λm=>by
    obtain⟨O,I,_⟩:=a7 i m;rw[e]at I;cases I;cases z
   rw[←X i hi];exact e
  refine⟨G',s2,⟨R.hk,a5,R.g0.trans s2,A.gH,λb o e=>?_,λb e=>R.dom b (A.dom b e),by rw[b9,a9];exact R.len,λi d e=>?_,λi l d e=>?_,λi j l d k e p a b c f=>b0 (a8 a).2 (a8 b).2 c f,λi es e=>(R.fz.same s2) i es (b6 (c3 e)),R.ob.to s2 (λp C dx fs e g=>L p g (a6 p C dx fs e) ⟨_,e⟩) (λp C dx fs e _ _=>b1 p C dx fs e) (λi c z e=>⟨b7 z (c4 z e),rfl⟩) λj d e=>⟨b8 (a8 e).2,rfl⟩⟩,?_⟩
  ·rcases A.gnew b o e with z|z
   ·by_cases m:b∈m6 σ J
    ·obtain⟨i,l,d,hi,h,E,g,_,ln,o'⟩:=Z m;obtain⟨O,e3,e4⟩:=a7 i hi;have b3:i∉li:=λmm=>ap i mm hi;rw[y i b3,h]at e4;rcases e4 with e4|e4
     ·cases e4;exact .inr ln
     ·cases e4
    ·rw[T2 m]at z;exact R.gnew b o z
   ·exact .inr (R.dom b z)
  ·by_cases hi:i∈J
   ·obtain⟨O,I,E⟩:=a7 i hi;rw[e]at I;cases I;have b3:i∉li:=λmm=>ap i mm hi;rw[y i b3]at E;rcases E with E|E
    ·obtain⟨p,n,F,N,P,t⟩:=u E;have hp:p∈m6 σ J:=L6.mpr ⟨i,hi,n⟩;refine⟨_,n,?_⟩;cases d with
     |lst ds=>
      obtain⟨xs,e,r⟩:=t;have r':=r.same s2;exact .lst (P8.of (A.gg p _ (by rw[Y8 hp];exact e))) r'.len r'.get
     |dct es=>
      obtain⟨xs,e,r⟩:=t;have r':=r.same s2;exact .dct (.inl (A.gg p _ (by rw[Y8 hp];exact e))) r'.keys r'.get
     |_=>exact(show False from t).elim
    ·obtain⟨v,n,F⟩:=R.sh i d E;exact⟨v,n,F.same s2⟩
   ·rw[X i hi]at e;obtain⟨v,n,F⟩:=R.sh i d (b5 e);exact⟨v,n,F.same s2⟩
  ·obtain⟨hb,I⟩:=a8 e;by_cases hi:i∈li
   ·obtain⟨p,n,F,N,P,t,_⟩:=U hi I;exact⟨p,n,F,N,P,t⟩
   ·obtain⟨p,n,F,N,P,t,q6,q7⟩:=x hi I;refine⟨p,n,L p F (λm=>?_) t.some,N,P,t.same s2 q6⟩;obtain⟨j,l2,d2,hj,ej,b2,_⟩:=Z m;exact hb (by rw[R.inj i j _ _ _ _ p q7 ej n b2];exact hj)
  ·cases w with
   |val d=>exact rr
   |slot i=>exact rr.elim
   |own d=>
    obtain⟨p,rfl,g,h0,o⟩:=rr;refine⟨p,rfl,g,R.dom p h0,o,λi l e he z=>?_⟩;obtain⟨hb,I⟩:=a8 he;have hz:∃ob,H p=some ob:=by
     by_cases hi:i∈li
     ·obtain⟨l0,d0,a0⟩:=Y i hi;obtain⟨p',n,_,_,_,t⟩:=u a0;rw[z]at n;cases n;exact t.some
     ·obtain⟨p',n,F,N,P,t,_⟩:=x hi I;rw[z]at n;cases n;exact t.some
    obtain⟨ob,Q⟩:=hz;rw[h0]at Q;cases Q
theorem yR:∀{ms:List Bool} {a:List W} {ds:List D},P6 ms a ρ=some ds→∀j∈L1 ms a,∃l d,ρ[j]?=some (some (.ow l d)):=by
 intro ms;induction ms with
 |nil=>intro a ds e j b;cases a<;>cases b
 |cons m ms ih=>
  intro a ds e j b;cases a with
  |nil=>cases m<;>cases b
  |cons w a=>
   cases m with
   |false=>
    have f:L1 (false::ms) (w::a)=L1 ms a:=by cases w<;>rfl
    rw[f]at b;unfold P6 at e;split at e
    ·rename_i c;exact ih c j b
    ·cases e
   |true=>
    cases w with
    |val _=>cases e
    |own _=>cases e
    |slot k=>
     unfold P6 at e;split at e
     ·rename_i l d g hk c;rcases List.mem_cons.mp b with rfl|b
      ·exact⟨l,d,hk⟩
      ·exact ih c j b
     ·cases e
end
section
variable {X:Cx}{B:Bs}{k:Nat}{x:Str}{ps:List Str}{ms:List Bool}{fm:List D→Option FR}{e:Expr}{es:List Expr}{mr:M (List W)}{p pos:Pos}
theorem Bh {ξ:XP}{σ:St}{H:Hp}{Q:VK}(t:TD C2 B ξ (o9 ms fm mr) σ H Q):xG (E3 B.K ms fm) [] E0 (TD M3 B ξ mr) σ H Q:=by
 obtain⟨G,ρ,R,t⟩:=t;refine(TD.bind (rel:=M3) R t).mono λvs s ⟨u,a,k,s1,p,X,r,c,N⟩=>?_;rw[List.append_nil];unfold vd at c;cases q:P6 ms k a with
 |none=>simp only[q]at c;cases c
 |some ds=>
  simp only[q]at c;split at c
  ·rename_i f;unfold pa at f;rw[k6]at f;have nd:(L1 ms k).Nodup:=of_decide_eq_true f.1;have ap:∀i∈L1 ms k,i∉cg a ms k:=λi hi m=>by
    have:=List.all_eq_true.mp f.2 i hi;simp at this;exact this m
   split at c
   ·rename_i w fin x;split at c
    ·cases c
    ·rename_i Y hs;have n:=yR q;have g:∀i∈cg a ms k,∃l d,a[i]?=some (some (.ow l d)):=λi hi=>eK hi;have s2:i8 u (plus u s (m6 σ (cg a ms k))):=λb o e=>by
      rw[T2 λm=>?_]
      ·exact e
      ·obtain⟨i,hi,Z⟩:=L6.mp m;obtain⟨l,d,h⟩:=g i hi;obtain⟨y,O,P,_⟩:=p.ow i l d h;rw[Z]at O;cases O;rw[e]at P;cases P
     have gH:i8 (plus u s (m6 σ (cg a ms k))) s:=λb o e=>by
      by_cases m:b∈m6 σ (cg a ms k)
      ·rw[Y8 m]at e;exact e
      ·rw[T2 m]at e;exact p.gH b o e
     have A:=args_call p s2 X q (λi hi y e=>L6.mpr ⟨i,hi,e⟩) (λi hi y e m=>by
      obtain⟨j,S,ej⟩:=L6.mp m;obtain⟨l,d,h⟩:=n i hi;obtain⟨l2,d2,h2⟩:=g j S;have:=p.inj i j l d l2 d2 y h h2 e ej;subst this;exact ap i hi S) nd
     refine⟨_,ds,_,_,gH,A,x,λv G' H' T U=>?_⟩;split at c
     ·rename_i z;cases c;obtain⟨E,F,I,J⟩:=cW p g n nd ap T hs U (.inl ⟨z,rfl⟩);exact N v E H' F I J
     ·obtain⟨a0,L,rfl⟩:=g7.mp c;obtain⟨E,F,I,J⟩:=cW p g n nd ap T hs U (.inr L);exact N v E H' F I J
   ·cases c
  ·cases c
theorem p4 (h:eg X.prog X.w X.K X.mg X.base k x ps (E3 X.K ms fm))(hr:O6 k X.A)(d:fO X B (e::es) mr)(f:Gl X x:=by rfl)(g:X.K=B.K:=by rfl)(a:(x==("__debug__":Str))=false:=by decide)
  (i:f9 (e::es) X.env=(false,eval e X.env)::f9 es X.env:=by rfl) (b:(l8 pos (f9 es X.env)).any (·.1)=false:=by rfl):PD X B (.Call (.Name x p) (e::es) [] pos) (o9 ms fm mr):=.mk λξ=>
 (HE (X:=rz X ξ) h hr (d.ap ξ) f a i b).imp λσ H Q t=>by
  have c:=Bh t;rw[←g]at c;exact c
end
noncomputable def Gx (X:Cx)(scope:Scope):List (Str×Nat)→Prop
 | []=>True
 |c::r=>(X.N[c.2]?=some c.1∧scope.names.lookup c.1=some .free∧(X.env.kindOf c.1=some .cell∨X.env.kindOf c.1=some .free))∧Gx X scope r
theorem oR {X:Cx}{scope:Scope}:∀{cs:List (Str×Nat)},Gx X scope cs→∀c∈cs,X.N[c.2]?=some c.1∧scope.names.lookup c.1=some .free∧(X.env.kindOf c.1=some .cell∨X.env.kindOf c.1=some .free)
 | [],_,c,h=>by cases h
 |c::r,h,a,hm=>by
  rcases List.mem_cons.mp hm with rfl|hm
  ·exact h.1
  ·exact oR h.2 a hm
theorem aN {X:Cx}{scope:Scope}{x:Str}(cs:List (Str×Nat))(f:Gx X scope cs)(kind:scope.kind=.function:=by rfl)(h:namesOk scope (cs.map (·.1))=true:=by decide +kernel)(nd:(x::cs.map (·.1)).Nodup:=by decide +kernel):vj X scope (x::cs.map (·.1)) 1 (cs.map (·.2)):=by
 refine vj.mk' (fs:=cs.map (·.1)) kind h nd (by simp;omega) (λn g=>?_) λi j e=>?_
 ·obtain⟨c,k,rfl⟩:=List.mem_map.mp g;exact(oR f c k).2.2
 ·rw[List.getElem?_map]at e;cases hi:cs[i]? with
  |none=>rw[hi]at e;cases e
  |some c=>
   rw[hi]at e;cases e;obtain⟨a,b,d⟩:=oR f c (List.mem_of_getElem? hi);refine⟨?_,c.1,a,b,d⟩;rw[Nat.add_comm,List.getElem?_cons_succ,List.getElem?_map,hi];exact a.symm
theorem _root_.L2.PE.ah {X:Cx}{E a:Value→Shared→Prop}{e:Expr}{t:TE}(h:PE (X.W8 E) e t)(i:∀e s,E e s→a e s):PE (X.W8 a) e t:=λpins s σ H Q I b=>
 z5 (h pins s σ H Q (I.T0.W8 _) b) (λ_ _ ⟨v,H',c,r,q⟩=>⟨v,H',c.T0.W8 _,r,q⟩) λe s z=>i e s z
theorem _root_.L2.PF.ah {X:Cx}{E a:Value→Shared→Prop}{e:List Expr}{t:TT}(h:PF (X.W8 E) e t)(i:∀e s,E e s→a e s):PF (X.W8 a) e t:=λpins s σ H Q I b=>
 z5 (h pins s σ H Q (I.T0.W8 _) b) (λ_ _ ⟨H',c,q⟩=>⟨H',c.T0.W8 _,q⟩) λe s z=>i e s z
theorem _root_.L2.PF.imp {X:Cx}{e:List Expr}{t a:TT}(h:PF X e t)(i:∀σ H Q,a σ H Q→t σ H Q):PF X e a:=λpins s σ H Q I q=>h pins s σ H Q I (i σ H Q q)
structure Jk (X:Cx) (B:Bs) (e:List Expr) (m:M Bool):Prop where
 ap:∀ξ,PF (rz X ξ) e (TD dk B ξ m)
noncomputable def F1:M Bool:=M.pure true
theorem X3 {X:Cx}{B:Bs}:Jk X B [] F1:=.mk λξ=>(ER (X:=rz X ξ)).imp λσ H Q t=>by
 obtain⟨G,ρ,R,r,e,p⟩:=t;cases e;exact p true G H (i8.refl _) R rfl
theorem qG {X:Cx}{B:Bs}{c:Expr}{m:M Bool}(h:mh X B c m):Jk X B [c] m:=.mk λξ=>EQ (h.ap ξ)
noncomputable def Kl:Option C→Option C
 |some (.ow _ d)=>some (.sh d)
 |some (.ob _ fds)=>some (.rd fds)
 |c=>c
noncomputable def X9 (own:Nat)(fr:List Nat)(ρ:k0):k0:=List.replicate own none++fr.map λj=>Kl (ρ[j]?).join
noncomputable def compTurn (tg:FT)(mt:M Bool)(c:M W)(ρ:k0)(d:D):Option (Option D):=match tg d ρ with
 |none=>none
 |some a=>match mt a with
  |some (.ok false _)=>some none
  |some (.ok true b)=>match M.bind c D0 b with
   |some (.ok y _)=>some (some y)
   |_=>none
  |_=>none
noncomputable def y9 (tg:FT)(mt:M Bool)(b:M W)(ρ:k0):List D→Option (List D)
 | []=>some []
 |d::ds=>match compTurn tg mt b ρ d,y9 tg mt b ρ ds with
  |some (some y),some a=>some (y::a)
  |some none,some a=>some a
  |_,_=>none
noncomputable def eQ (ρ:k0)(fr:List Nat):List Nat:=fr.filter λj=>match ρ[j]? with
 |some (some (.ow _ _))=>true
 |_=>false
noncomputable def Ad (tg:FT)(mt:M Bool)(b:M W)(own:Nat)(fr:List Nat)(ds:List D):M W:=λρ=>match y9 tg mt b (X9 own fr ρ) ds with
 |none=>none
 |some a=>cm (small ds.length) (if a.all U5=true then some (.ok (.own (.lst a)) ρ)else(fA (eQ ρ fr) ρ).map (R'.ok (.own (.lst a)) ·))
noncomputable def B2 (a:M (List D))(tg:FT)(mt:M Bool)(b:M W)(own:Nat)(fr:List Nat):M W:=M.bind a λds=>Ad tg mt b own fr ds
theorem Al {ρ:k0}{fr:List Nat}{i:Nat}(h:i∈eQ ρ fr):i∈fr∧∃l d,ρ[i]?=some (some (.ow l d)):=by
 unfold eQ at h;obtain⟨b,a⟩:=List.mem_filter.mp h;refine⟨b,?_⟩;split at a
 ·exact⟨_,_,‹_›⟩
 ·cases a
section
variable {B:Bs}{G H:Hp}{σ:St}{ρ:k0}{own:Nat}{fr:List Nat}
theorem Z9 {i:Nat}{c:C}(h:(X9 own fr ρ)[i]?=some (some c)):∃k j,i=own+k∧fr[k]?=some j∧((∃d,c=.sh d∧(ρ[j]?=some (some (.sh d))∨∃l,ρ[j]?=some (some (.ow l d))))∨(∃es,c=.fz es∧ρ[j]?=some (some (.fz es)))∨∃fds,c=.rd fds∧(ρ[j]?=some (some (.rd fds))∨∃l,ρ[j]?=some (some (.ob l fds)))):=by
 unfold X9 at h;by_cases hi:i<own
 ·rw[List.getElem?_append_left (by simpa using hi),List.getElem?_replicate,if_pos hi]at h;cases h
 ·rw[List.getElem?_append_right (by simpa using hi)]at h;simp only[List.length_replicate,List.getElem?_map]at h;cases e:fr[i-own]? with
  |none=>rw[e]at h;cases h
  |some j=>
   rw[e]at h;simp only[r8,ft]at h;refine⟨i-own,j,by omega,e,?_⟩;cases q:ρ[j]? with
   |none=>rw[q]at h;cases h
   |some o=>
    rw[q]at h;cases o with
    |none=>cases h
    |some a=>
     cases a with
     |sh d=>cases h;exact .inl ⟨d,rfl,.inl rfl⟩
     |ow l d=>cases h;exact .inl ⟨d,rfl,.inr ⟨l,rfl⟩⟩
     |fz es=>cases h;exact .inr (.inl ⟨es,rfl,rfl⟩)
     |ob l fds=>cases h;exact .inr (.inr ⟨fds,rfl,.inr ⟨l,rfl⟩⟩)
     |rd fds=>cases h;exact .inr (.inr ⟨fds,rfl,.inl rfl⟩)
theorem ge {k j:Nat}{v:V}(h:fr[k]?=some j)(e:σ[j]?=some (some v)):(seen own fr σ)[own+k]?=some (some v):=by
 unfold L2.seen;rw[List.getElem?_append_right (by simp)];simp only[List.length_replicate,List.getElem?_map,Nat.add_sub_cancel_left,h,r8,e];rfl
theorem yb {c t u:Hp}(R:RS B G c σ ρ)(sg:i8 (plus G c (m6 σ (eQ ρ fr))) u)(J:i8 u t)(kp:i8 c t)(gnew:∀p o,u p=some o→plus G c (m6 σ (eQ ρ fr)) p=some o∨c p=none)(dom:∀p,t p=none→c p=none)(s0:i8 G (plus G c (m6 σ (eQ ρ fr)))):
  RS ⟨B.K,c,c,plus G c (m6 σ (eQ ρ fr)),λ_=>none,B.O⟩ u t (seen own fr σ) (X9 own fr ρ):=by
 refine⟨i8.refl _,kp,sg,J,gnew,dom,?_,λi d e=>?_,λi l d e=>?_,λi j l d k e p a b=>?_,λi es e=>?_,λi l fds e=>?_,λi fds e=>?_⟩
 ·rw[L2.seen_length];unfold X9;simp
 ·obtain⟨k,j,rfl,hk,⟨m,q,h⟩ | ⟨_,q,_⟩ | ⟨_,q,_⟩⟩:=Z9 e<;>cases q
  rcases h with h| ⟨l,h⟩
  ·obtain⟨v,g,w⟩:=R.sh j d h;exact⟨v,ge hk g,(w.same s0).same sg⟩
  ·obtain⟨p,g,w,E,Q,x⟩:=R.ow j l d h;have F:p∈m6 σ (eQ ρ fr):=L6.mpr ⟨j,List.mem_filter.mpr ⟨List.mem_of_getElem? hk,by rw[h]⟩,g⟩;refine⟨_,ge hk g,?_⟩;cases d with
   |lst ds=>
    obtain⟨xs,e,r⟩:=x;have n:=(r.same s0).same sg;exact .lst (P8.of (sg p _ (by rw[Y8 F];exact e))) n.len n.get
   |dct es=>
    obtain⟨xs,e,r⟩:=x;have n:=(r.same s0).same sg;exact .dct (.inl (sg p _ (by rw[Y8 F];exact e))) n.keys n.get
   |_=>exact(show False from x).elim
 ·obtain⟨k,j,rfl,hk,⟨m,q,h⟩ | ⟨_,q,_⟩ | ⟨_,q,_⟩⟩:=Z9 e<;>cases q
 ·obtain⟨k,j,rfl,hk,⟨m,q,h⟩ | ⟨_,q,_⟩ | ⟨_,q,_⟩⟩:=Z9 a<;>cases q
 ·obtain⟨k,j,rfl,hk,⟨m,q,h⟩ | ⟨s,q,h⟩ | ⟨f,q,h⟩⟩:=Z9 e<;>cases q
  obtain⟨a,o,kvs,g,w,E⟩:=R.fz j es h;exact⟨a,o,kvs,ge hk g,sg _ _ (s0 _ _ w),(E.same s0).same sg⟩
 ·obtain⟨k,j,rfl,hk,⟨m,q,h⟩ | ⟨s,q,h⟩ | ⟨f,q,h⟩⟩:=Z9 e<;>cases q
 ·obtain⟨k,j,rfl,hk,⟨m,q,h⟩ | ⟨s,q,h⟩ | ⟨f,q,h⟩⟩:=Z9 e<;>cases q
  rcases h with h| ⟨l,h⟩
  ·obtain⟨L,y,C,p,dx,fs,z,A,H,I⟩:=R.ob.2 j fds h;exact⟨L,y,C,p,dx,fs,z,ge hk A,R.keep _ _ H,(I.same s0).same sg⟩
  ·obtain⟨y,C,p,dx,fs,z,A,H,I,S,N,P,T⟩:=R.ob.1 j l fds h;exact⟨j,y,C,p,dx,fs,z,ge hk A,N,(P.same s0).same sg⟩
end
noncomputable abbrev X0:XP:=λ_ _ _=>False
section
variable {X:Cx}{B:Bs}{mi:M (List D)}{mt:M Bool}{me:M W}{own:Nat}{fr:List Nat}
theorem pI {ξ:XP}{tf:TT}{te:TE}(hf:∀T,T.K=B.K∧T.O=B.O→∀σ H Q,TD dk T X0 mt σ H Q→tf σ H Q)(he:∀T,T.K=B.K∧T.O=B.O→∀σ H Q,TD C2 T X0 me σ H Q→te σ H Q){σ:St}{H:Hp}{Q:VK}(t:TD C2 B ξ (B2 mi (w6 0) mt me 1 fr) σ H Q):
  my (Ku B ξ mi) (iS 0) tf te 1 fr σ H Q:=by
 obtain⟨G,ρ,R,r,e,pq⟩:=t;unfold B2 at e;cases Z:mi ρ with
 |none=>rw[M.bind_none Z]at e;cases e
 |some r1=>
  cases r1 with
  |ex x a=>
   rw[M.cX Z]at e;cases e;exact⟨G,ρ,_,R,Z,pq⟩
  |ok ds a=>
   rw[M.j5 Z]at e;refine⟨G,ρ,_,R,Z,λJ G1 g s1 R1 gv=>?_⟩;unfold Ad at e;cases hc:y9 (w6 0) mt me (X9 1 fr a) ds with
   |none=>rw[hc]at e;cases e
   |some ys=>
    rw[hc]at e;simp only[]at e;obtain⟨hz,e⟩:=o4 e;have U:∀i∈eQ a fr,∃l d,a[i]?=some (some (.ow l d)):=λi hi=>(Al hi).2;have s0:i8 G1 (plus G1 g (m6 σ (eQ a fr))):=λb o e=>by
     rw[T2 λm=>?_]
     ·exact e
     ·obtain⟨i,hi,e2⟩:=L6.mp m;obtain⟨l,d,h⟩:=U i hi;obtain⟨p',I,L,_⟩:=R1.ow i l d h;rw[e2]at I;cases I;rw[e]at L;cases L
    have a0:i8 (plus G1 g (m6 σ (eQ a fr))) g:=λb o e=>by
     by_cases m:b∈m6 σ (eQ a fr)
     ·rw[Y8 m]at e;exact e
     ·rw[T2 m]at e;exact R1.gH b o e
    generalize b0:plus G1 g (m6 σ (eQ a fr))=S at s0 a0;refine⟨λi m Y u=>∃n c f,m=ds.length-i∧i≤ds.length∧i8 S n∧i8 n u∧i8 g u∧(∀p o,n p=some o→S p=some o∨g p=none)∧(∀p,u p=none→g p=none)∧n9 B.K n Y c∧c.length≤i∧y9 (w6 0) mt me (X9 1 fr a) (ds.drop i)=some f∧c++f=ys,
     ⟨ds.length,S,[],ys,by simp,u6 _,i8.refl _,a0,i8.refl _,λp o e=>.inl e,λp e=>e,.nil,g8 _,by simpa using hc,rfl⟩,?_⟩
    rintro i m Y u ⟨n,c,f,rfl,hle,I,L,a3,a4,a5,a6,a7,a8,a9⟩
    by_cases E:i<ds.length
    ·have ed:ds.drop i=ds[i]::ds.drop (i+1):=List.drop_eq_getElem_cons E;rw[ed]at a8;unfold y9 at a8;cases j:compTurn (w6 0) mt me (X9 1 fr a) ds[i]with
     |none=>rw[j]at a8;cases a8
     |some oy=>
      cases hr:y9 (w6 0) mt me (X9 1 fr a) (ds.drop (i+1))with
      |none=>rw[j,hr]at a8;cases oy<;>cases a8
      |some s=>
       rw[j,hr]at a8;refine .inr ⟨gv.go n u i (s0.trans I) L E,?_,λc0 H'=>∃n c f,i8 S n∧i8 n H'∧i8 g H'∧(∀p o,n p=some o→S p=some o∨g p=none)∧(∀p,H' p=none→g p=none)∧n9 B.K n c0 c∧c.length≤i+1∧y9 (w6 0) mt me (X9 1 fr a) (ds.drop (i+1))=some f∧c++f=ys,
        λc0 H' ⟨c2,c1,s,b1,b2,b3,b4,b5,b6,b7,b8,b9⟩=>⟨ds.length-(i+1),by omega,c2,c1,s,rfl,E,b1,b2,b3,b4,b5,b6,b7,b8,b9⟩,λx H' y=>?_⟩
       ·rw[a6.len,u5];unfold small at hz;omega
       obtain⟨rfl,d,hd,rx⟩:=gv.yld n u H' i x (s0.trans I) L E y;have c3:d=ds[i]:=by
        rw[List.getElem?_eq_getElem E]at hd;exact(i9 hd).symm
       subst c3;have Rb:RS ⟨B.K,g,g,S,λ_=>none,B.O⟩ n H' (seen 1 fr σ) (X9 1 fr a):=by
        subst b0;exact yb R1 I L a3 a4 a5 s0
       unfold compTurn at j;cases hg:w6 0 ds[i] (X9 1 fr a)with
       |none=>rw[hg]at j;cases j
       |some d0=>
        rw[hg]at j;simp only[]at j;have N:=hg;unfold w6 at N;split at N
        ·rename_i c4;cases N;have c5:=Rb.tW c4 rx;show tf ((seen 1 fr σ).set 0 (some x)) H' _;refine hf ⟨B.K,g,g,S,λ_=>none,B.O⟩ ⟨rfl,rfl⟩ _ _ _ ⟨n,_,c5,?_⟩;cases X:mt ((X9 1 fr a).set 0 (some (.sh ds[i])))with
         |none=>rw[X]at j;cases j
         |some r3=>
          rw[X]at j;cases r3 with
          |ex x' F=>cases j
          |ok k F=>
           refine⟨_,X,λk' G3 H3 s3 R3 qk=>?_⟩;cases(show k'=k from qk);cases k with
           |false=>
            cases j;cases a8;rw[if_neg D5];exact⟨G3,c,f,I.trans s3,R3.gH,R3.keep,R3.gnew,R3.dom,a6.same s3,by omega,hr,a9⟩
           |true=>
            rw[if_pos rfl];simp only[]at j;cases q:M.bind me D0 F with
            |none=>rw[q]at j;cases j
            |some r4=>
             rw[q]at j;cases r4 with
             |ex x' c6=>cases j
             |ok y' c6=>
              cases j;cases a8;cases P:me F with
              |none=>rw[M.bind_none P]at q;cases q
              |some r5=>
               cases r5 with
               |ex x' c7=>rw[M.cX P]at q;cases q
               |ok w c7=>
                rw[M.j5 P]at q;refine he ⟨B.K,g,g,S,λ_=>none,B.O⟩ ⟨rfl,rfl⟩ _ _ _ ⟨G3,F,R3,_,P,λv G5 H5 s5 R5 q5=>?_⟩;obtain⟨G6,s6,R6,r6⟩:=q5.D0 R5 q;have sa:=(s3.trans s5).trans s6;exact⟨G6,c++[y'],s,I.trans sa,R6.gH,R6.keep,R6.gnew,R6.dom,(a6.same sa).append (.one r6),by rw[List.length_append];show c.length+1≤i+1;omega,hr,by rw[List.append_assoc];exact a9⟩
        ·cases N
    ·have ei:i=ds.length:=by omega
     subst ei;rw[List.drop_length]at a8;cases a8;rw[List.append_nil]at a9;subst a9;refine .inl ⟨gv.stop n u (s0.trans I) L,λp hp=>?_⟩;have gp:n p=none:=L.free hp;have sH:i8 u (upd u p (.lst Y)):=ao hp _;have A:After B.K (plus G1 g (m6 σ (eQ a fr))) g (m6 σ []) n (upd u p (.lst Y)) []:=by
      rw[b0];refine⟨λb o e=>sH b o (a3 b o (N2 _ _ b o e)),I,L.trans sH,a4,λb e=>?_,.nil⟩;by_cases z:b=p
      ·subst z;exact a5 _ hp
      ·rw[j6 z]at e;exact a5 b e
     have rr:pf B.K g n (upd u p (.lst Y)) (.ref p) (.own (.lst c)):=⟨p,rfl,gp,a5 p hp,Y,l9,a6⟩
     split at e
     ·rename_i c8;cases e;obtain⟨Gn,sn,Rn,wn⟩:=cW (li:=[]) R1 U (λi h=>by cases h) List.nodup_nil (λi h=>by cases h) A rfl rr (.inl ⟨by rw[List.all_nil,Y4];exact c8,rfl⟩);exact pq _ Gn _ (s1.trans sn) Rn wn
     ·obtain⟨F,c9,rfl⟩:=g7.mp e;obtain⟨Gn,sn,Rn,wn⟩:=cW (li:=[]) R1 U (λi h=>by cases h) List.nodup_nil (λi h=>by cases h) A rfl rr (.inr c9);exact pq _ Gn _ (s1.trans sn) Rn wn
variable {x:Str}{px pos:Pos}{M':List Str}{scope:Scope}{iter elt:Expr}{ifs:List Expr}
theorem IV {Y:Cx}:∀e s,XE Y X0 e s→False:=λe s ⟨_,_,_,_,_,_,h⟩=>h
theorem P4 (Bk:vj X scope (x::M') 1 fr)(hi:Dm X B (.Name x px) iter mi)(h:∀cl C s H ex H0 HK G0 L,Jk (X.fk scope cl C (x::M') s H ex) ⟨B.K,H0,HK,G0,L,B.O⟩ ifs mt)(i:∀cl C s H ex H0 HK G0 L,PD (X.fk scope cl C (x::M') s H ex) ⟨B.K,H0,HK,G0,L,B.O⟩ elt me)
  (j:X.calm=true:=by rfl) (k:scope.names.lookup x=some .local∨scope.names.lookup x=some .cell:=by first|exact .inl rfl|exact .inr rfl) (hs:∀x,foldedSetIterable iter X.env x=pure x:=by intro _;rfl):PD X B (.ListComp elt [⟨.Name x px,iter,ifs,0⟩] scope pos) (B2 mi (w6 0) mt me 1 fr):=.mk λξ=>by
 have d:vj (rz X ξ) scope (x::M') 1 fr:=⟨Bk.kind,Bk.cells,Bk.names,Bk.free,Bk.nd,Bk.len,Bk.at'⟩
 refine(HC (X:=rz X ξ) (tf:=λσ H Q=>∃a,(a.K=B.K∧a.O=B.O)∧TD dk a X0 mt σ H Q) (te:=λσ H Q=>∃a,(a.K=B.K∧a.O=B.O)∧TD C2 a X0 me σ H Q) d (hi.ap ξ) (λcl C s H ex=>?_) (λcl C s H ex=>?_) j k hs).imp λσ H Q t=>pI (λa b σ H Q t=>⟨a,b,t⟩) (λa b σ H Q t=>⟨a,b,t⟩) t
 ·intro pins e c H' Q I ⟨a,b,t⟩;obtain⟨f,g,hk,g0,l,ob⟩:=a;cases(show f=B.K from b.1);cases(show ob=B.O from b.2);exact PF.ah (X:=X.fk scope cl C (x::M') s H ex) ((h cl C s H ex g hk g0 l).ap X0) IV pins e c H' Q I t
 ·intro pins e c H' Q I ⟨a,b,t⟩;obtain⟨f,g,hk,g0,l,ob⟩:=a;cases(show f=B.K from b.1);cases(show ob=B.O from b.2);exact PE.ah (X:=X.fk scope cl C (x::M') s H ex) ((i cl C s H ex g hk g0 l).ap X0) IV pins e c H' Q I t
theorem ib {i:Nat}{y:Str}{n c:Pos}(Bk:vj X scope (x::M') 1 fr)(o:X.N.Nodup)(hi:Dm X B (.Name x px) iter mi)(q:∀cl C s H ex H0 HK G0 L,Jk (X.fk scope cl C (x::M') s H ex) ⟨B.K,H0,HK,G0,L,B.O⟩ ifs mt)(u:∀cl C s H ex H0 HK G0 L,PD (X.fk scope cl C (x::M') s H ex) ⟨B.K,H0,HK,G0,L,B.O⟩ elt me)
  (z:X.N[i]?=some y:=by rfl) (g:X.env.kindOf y=some .local:=by rfl) (A:X.calm=true:=by rfl) (E:scope.names.lookup x=some .local∨scope.names.lookup x=some .cell:=by first|exact .inl rfl|exact .inr rfl)
  (h:S8 (.ListComp elt [⟨.Name x px,iter,ifs,0⟩] scope pos) (some (.Name y n)) c.line X.env=pure true:=by with_unfolding_all rfl)
  (hs:∀x,foldedSetIterable iter X.env x=pure x:=by intro _;rfl):ro X B (.Assign [.Name y n] (.ListComp elt [⟨.Name x px,iter,ifs,0⟩] scope pos) c) (o3 i (B2 mi (w6 0) mt me 1 fr)):=.mk λξ=>by
 have j:vj (rz X ξ) scope (x::M') 1 fr:=⟨Bk.kind,Bk.cells,Bk.names,Bk.free,Bk.nd,Bk.len,Bk.at'⟩
 refine(Hz (X:=rz X ξ) (tf:=λσ H Q=>∃a,(a.K=B.K∧a.O=B.O)∧TD dk a X0 mt σ H Q) (te:=λσ H Q=>∃a,(a.K=B.K∧a.O=B.O)∧TD C2 a X0 me σ H Q) j o (hi.ap ξ) (λcl C s H ex=>?_) (λcl C s H ex=>?_) z g A E h hs).imp λT σ H t=>?_
 ·intro pins f d H' Q I ⟨a,b,t⟩;obtain⟨k,m,hk,g0,l,ob⟩:=a;cases(show k=B.K from b.1);cases(show ob=B.O from b.2);exact PF.ah (X:=X.fk scope cl C (x::M') s H ex) ((q cl C s H ex m hk g0 l).ap X0) IV pins f d H' Q I t
 ·intro pins f d H' Q I ⟨a,b,t⟩;obtain⟨k,m,hk,g0,l,ob⟩:=a;cases(show k=B.K from b.1);cases(show ob=B.O from b.2);exact PE.ah (X:=X.fk scope cl C (x::M') s H ex) ((u cl C s H ex m hk g0 l).ap X0) IV pins f d H' Q I t
 ·obtain⟨G,ρ,R,t⟩:=t;refine pI (λa b σ H Q t=>⟨a,b,t⟩) (λa b σ H Q t=>⟨a,b,t⟩) ((SD.step (rel:=C2) R t).mono λv F ⟨U,J,w,s1,P,S,r,e,p⟩=>?_);obtain⟨ρ',G',rfl,f,R'⟩:=hW P S e;exact p _ G' F f R'
end
noncomputable def DJ:D→D→Option W
 |.dct es,k=>(keyOf k).map λk=>W.val ((M6 es k).getD .v1)
 |_,_=>none
noncomputable def qq (a b:M W):M W:=M.bind (O2 a) λx=>M.bind (vc "dict" x) λ_=>M.bind b λy=>Fj DJ x y
section
variable {X:Cx}{B:Bs}{o e f value:Expr}{mo me mf mv:M W}{mr:M (List W)}{apos cpos pos pos':Pos}
theorem zD {K:PySem.W.Frag}{G:Hp}{kvs:List (Key×V)}{es:List (Key×D)}{k:Key}{z:V}{c:D}(r:m3 K G kvs es)(f:Rep K G z c):Rep K G ((dt kvs k).getD z) ((M6 es k).getD c):=by
 obtain⟨a,b⟩:=r.val k;cases hd:M6 es k with
 |none=>rw[b hd];exact f
 |some d=>
  obtain⟨v,e,g⟩:=a d hd;rw[e];exact g
theorem tm (hu:X.A.units+8<B3)(v:PD X B o mo)(z:PD X B e me)(m:M1 X o "get" apos e cpos:=by exact⟨rfl,rfl,rfl,rfl⟩):PD X B (.Call (.Attribute o "get" apos) [e] [] cpos) (qq mo me):=.mk λξ=>
 (yy (X:=rz X ξ) (show X.A.units+1<B3 by omega) (v.ap ξ) (z.ap ξ) ⟨m.base,m.few,m.line,m.trees⟩).imp λσ H Q t=>by
  obtain⟨G,ρ,R,t⟩:=t;have E:TD jg B ξ (O2 mo) σ H _:=TD.bind (rel:=jg) R t;refine TD.O2 (E.mono λx H1 ⟨G1,F,I,s1,c,⟨j,f⟩,J⟩=>?_);obtain⟨u,b,L,N⟩:=J.step λr h=>⟨(),_,(dZ h).1⟩;obtain⟨O,d,hd,ty⟩:=dZ L;cases O;cases d<;>first| (cases ty;done) | (exact absurd ty (by decide)) |skip
  obtain⟨a,kvs,rfl,P,r1⟩:=(j.get c hd).dct c.gH;refine⟨a,rfl,.inl ⟨kvs,P⟩,?_⟩;refine(TD.bind (rel:=C2) c N).mono λy l ⟨n,b,wb,s2,R2,S,T⟩=>?_;obtain⟨dx,dy,w,U,Y,q,p⟩:=ug T;have Z:=(j.keep s2 f:E2 B n l σ b _ I).get R2 U;cases dx<;>first| (cases q;done) |skip
  obtain⟨k,hk,rfl⟩:=g7.mp q;obtain⟨a',s,ea,g,i⟩:=Z.dct R2.gH;cases ea;have hv:=eC (S.get R2 Y) hk;subst hv;exact⟨_,dm.r g,p _ n l (i8.refl _) R2 (zD i .v1)⟩
end
noncomputable def cY (i:Nat)(k d:D):SM:=λρ=>match ρ[i]? with
 |some (some (.ow l (.dct es)))=>match keyOf k with
  |some k=>cm (small es.length) (some (.nx (ρ.set i (some (.ow l (.dct (putD es k d)))))))
  |none=>none
 |some (some (.ow l (.lst ds)))=>match k with
  |.int j=>match wz ds.length j with
   |some n=>some (.nx (ρ.set i (some (.ow l (.lst (ds.set n d))))))
   |none=>none
  |_=>none
 |_=>none
noncomputable def vP (a:M W)(i:Nat)(b mk:M W):SM:=D6 (O2 b) λc=>D6 a λ_=>D6 mk λe=>D6 (D0 c) λd ρ=>match getD e ρ with
 |some k=>cY i k d ρ
 |none=>none
noncomputable abbrev fB (i:Nat)(a mk:M W):SM:=vP (f8 i) i a mk
def Aw (i:Nat)(a:M W):Prop:=∀ρ w ρ',a ρ=some (.ok w ρ')→w=.slot i∧ρ'=ρ
theorem vJ {i:Nat}:Aw i (f8 i):=λ_ _ _ h=>dI h
theorem set_dict {X:Cx}(f:X.A.units+8<B3):tG X (λo i v H Q=>∃a H',o=.ref a∧AB H a i v H'∧Q H'):=by
 intro pins s σ H o i v j k u Q I b c d h;obtain⟨a,H',rfl,g,q⟩:=h;cases b;exact wZ (by omega) I g c d λl e=>⟨H',e,q⟩
theorem _root_.L2.tG.or {X:Cx}{t a:Dl}(h:tG X t)(h':tG X a):tG X (λo i v H Q=>t o i v H Q∨a o i v H Q):=by
 intro pins s σ H o i v b c u Q I d e f q;rcases q with q|q
 ·exact h pins s σ H o i v b c u Q I d e f q
 ·exact h' pins s σ H o i v b c u Q I d e f q
section
variable {X:Cx}{B:Bs}{ξ:XP}{G H:Hp}{σ:St}{ρ:k0}{Dn:Ends}{o e value:Expr}{mo me mv:M W}{pos pos':Pos}
theorem SD.Hm {m:M W}{f:W→SM}(R:RS B G H σ ρ)(t:pe B ξ G ρ (D6 (O2 m) f) Dn):TD C2 B ξ m σ H (λv d=>∃c b a,i8 G c∧RS B c d σ b∧(E2 B c d σ b v a∧Dy a=true)∧pe B ξ c b (f a) Dn):=
 TD.O2 (SD.step (rel:=jg) R t)
theorem SD.quiet {α:Type}{m:M α}{f:α→SM}(t:pe B ξ G ρ (D6 m f) Dn)(b:∀r,m ρ=some r→∃a ρ',r=.ok a ρ'):∃a ρ',m ρ=some (.ok a ρ')∧pe B ξ G ρ' (f a) Dn:=by
 obtain⟨r,e,p⟩:=t;unfold D6 at e;cases hr:m ρ with
 |none=>rw[hr]at e;cases e
 |some c=>
  obtain⟨a,ρ',rfl⟩:=b c hr;rw[hr]at e;exact⟨a,ρ',rfl,r,e,p⟩
theorem fg (i:Nat)(Y:X.A.units+8<B3)(Z:PD X B value mv)(ho:PD X B o mo)(hi:PD X B e me)(hm:Aw i mo:=by exact vJ)(hs:Mf [.Subscript o e pos'] value pos.line X.env=pure false:=by rfl)(hw:Mg [.Subscript o e pos'] value X.env=pure none:=by rfl)
  (h1:(assignEach [.Subscript o e pos'] X.env).map (·.2)=[lB (.Subscript o e pos') X.env]:=by rfl)
  (ha:∀v,lB (.Subscript o e pos') X.env v=(do
   let s←W2 [v] (eval o X.env)
   let F←W2 [v,s] (eval e X.env)
   tK pos'
   W2 [v,s,F] (IQ s F v)
   release [v,s,F] []):=by intro _;rfl):ro X B (.Assign [.Subscript o e pos'] value pos) (vP mo i mv me):=.mk λξ=>
 (EL (X:=rz X ξ) (Z.ap ξ) (EO (X:=rz X ξ) (ho.ap ξ) (hi.ap ξ) (set_list.or (set_dict Y)) ha) hs hw h1).imp λDn σ H t=>by
  obtain⟨G,ρ,R,t⟩:=t;refine(SD.Hm R t).mono λv H1 ⟨G1,a0,wv,s1,R1,⟨q1,I⟩,t2⟩=>?_;refine(SD.Hn (rel:=C2) R1 t2).mono λx H2 ⟨G2,a1,wo,a,s2,R2,q2,t3⟩=>?_;obtain⟨rfl,rfl⟩:=hm _ _ _ a;have u:σ[i]?=some (some x):=q2;refine(SD.step (rel:=C2) R2 t3).mono λy w ⟨G3,J,Q,s3,R3,L,t4⟩=>?_;obtain⟨d,b,e4,r,a,p⟩:=SD.quiet t4 λr h=>Z0 h;have N:E2 B G3 w σ J v wv:=q1.keep (s2.trans s3) I;obtain⟨m,z,f,S⟩:=N.D0 R3 e4;cases hk:getD Q b with
  |none=>simp only[hk]at a;cases a
  |some T=>
   simp only[hk]at a;have U:N9 B.K m w y T:=by
    cases Q with
    |val _=>exact E2.get f (L.keep z rfl:E2 B m w σ b y _) hk
    |slot _=>exact E2.get f (L.keep z rfl:E2 B m w σ b y _) hk
    |own d'=>
     cases hk;unfold cY at a;exfalso;obtain⟨E,rfl,_,_,oo,_⟩:=L;cases T<;>first|exact(show False from oo).elim|skip
     ·split at a
      ·simp[keyOf]at a
      ·cases a
      ·cases a
     ·split at a
      ·simp[keyOf]at a
      ·cases a
      ·cases a
   unfold cY at a;split at a
   ·rename_i l es hi;split at a
    ·rename_i k O;obtain⟨hz,a⟩:=o4 a;cases a;obtain⟨E,rfl,g,kvs,c,q⟩:=slot_of f hi u;have P:=eC U O;subst P;refine .inr ⟨E,_,rfl,AB.k c ?_,?_⟩
     ·rw[q.len,u5];unfold small at hz;omega
     ·exact p σ m _ z (f.write hi u ⟨_,l9,q.put k S⟩)
    ·cases a
   ·rename_i l ds hi;split at a
    ·rename_i j;split at a
     ·rename_i n hn;cases a;obtain⟨E,rfl,g,xs,c,q⟩:=slot_of f hi u;refine .inl ⟨E,xs,j,n,rfl,U.int,c,by rw[q.len];exact hn,?_⟩;exact p σ m _ z (f.write hi u ⟨_,l9,q.set S n⟩)
     ·cases a
    ·cases a
   ·cases a
end
noncomputable def IW:D→String
 |.v1=>"NoneType"
 |.bl _=>"bool"
 |.int _=>"int"
 |.str _=>"str"
 |.tup _=>"tuple"
 |.lst _=>"list"
 |.dct _=>"dict"
 |.ty _=>"type"
noncomputable def xJ (a b:String):Bool:=a==b||(a == "bool" && b == "int")
noncomputable def Kh:D→Bool
 |.ty _=>true
 |_=>false
noncomputable def wA:List D→Option W
 | [d,.ty T]=>cm (Kh d=false∧T∈["int","bool","str","list","tuple","dict"]) (vB (xJ (IW d) T))
 |_=>none
theorem Cp (K:PySem.W.Frag):∀a∈["NoneType","bool","int","str","tuple","list","dict"],∀b∈["int","bool","str","list","tuple","dict"],PySem.W.kitOne K (.type a) (.type b)=some (xJ a b):=by
 intro a c b d;simp only[List.mem_cons,List.not_mem_nil,or_false]at c d;rcases c with rfl|rfl|rfl|rfl|rfl|rfl|rfl<;>rcases d with rfl|rfl|rfl|rfl|rfl|rfl<;>kernel_rfl
theorem xi {X:Cx}{K:PySem.W.Frag}(k:X.K=K):J2 X (.builtin "isinstance") (λxs H Q=>∃x T d,xs=[x,.ty T]∧Rep K H x d∧(∀n,d≠.ty n)∧T∈["int","bool","str","list","tuple","dict"]∧Q (.bl (xJ (IW d) T)) H):=by
 subst k;intro pins s σ H xs us Q I r h;obtain⟨x,T,d,rfl,l,m,v,q⟩:=h;obtain⟨u,A,rfl,c,g⟩:=vals2 r;cases g;have fin:∀j,EP X pins σ Q (.bool (xJ (IW d) T)) {s with toks:=j}:=λj=>⟨.bl _,H,I.tok j,rfl,q⟩
 have tab:=λa w=>Cp X.K a w T v;cases l with
 |v1=>cases c;exact PySem.W.kia_one PySem.W.kitx_none I.mQ True.intro (tab _ (by simp)) (λz=>nomatch z) fin
 |bl b=>cases c;exact PySem.W.kia_one PySem.W.kitx_bool I.mQ True.intro (tab _ (by simp)) (λz=>nomatch z) fin
 |int i=>obtain⟨t,rfl⟩:=c;exact PySem.W.kia_one PySem.W.kitx_int I.mQ True.intro (tab _ (by simp)) (λz=>nomatch z) fin
 |str cs=>obtain⟨t,rfl⟩:=c;exact PySem.W.kia_one PySem.W.kitx_str I.mQ True.intro (tab _ (by simp)) (λz=>nomatch z) fin
 |ty n=>exact absurd rfl (m n)
 |tup h _ _=>
  cases c;obtain⟨_,_,p,_⟩:=I.tuple h;obtain⟨o,e,f,_⟩:=p;exact PySem.W.kia_one PySem.W.kitx_tuple I.mQ ⟨o,e,f⟩ (tab _ (by simp)) (λz=>nomatch z) fin
 |lst h _ _=>
  cases c;obtain⟨_,_,p,_⟩:=I.list h;obtain⟨o,n,e,f,_⟩:=p;exact PySem.W.kia_one PySem.W.kitx_list I.mQ ⟨o,e,f⟩ (tab _ (by simp)) (λz=>nomatch z) fin
 |dct h _ _=>
  cases c;obtain⟨_,_,vs,_,y⟩:=S2 I.hok h;obtain⟨o,es,B,e,f,_⟩:=y;exact PySem.W.kia_one PySem.W.kitx_dict I.mQ ⟨o,e,f.1⟩ (tab _ (by simp)) (λz=>nomatch z) fin
section
variable {X:Cx}{B:Bs}{e a b c:Expr}{es:List Expr}{mr:M (List W)}{pos p:Pos}
theorem zk:fP B (λxs H Q=>∃x T d,xs=[x,.ty T]∧Rep B.K H x d∧(∀n,d≠.ty n)∧T∈["int","bool","str","list","tuple","dict"]∧Q (.bl (xJ (IW d) T)) H) wA:=by
 intro G H σ ρ xs ds w Q R h e p
 match ds,e with
 | [d,.ty T],e=>
  obtain⟨⟨a,b⟩,e⟩:=o4 e;cases e;obtain⟨x,y,rfl,c,f⟩:=rC h;exact⟨x,T,d,by rw[f.ty],c.rep R.gH,(λn z=>by rw[z]at a;cases a),b,p _ G H (i8.refl _) R (.bl _)⟩
theorem zZ (c:X.mg "isinstance"=none) (d:fO X B [e,a] mr) (f:Gl X "isinstance":=by rfl) (g:X.K=B.K:=by rfl) (h:f9 [e,a] X.env=(false,eval e X.env)::f9 [a] X.env:=by rfl) (b:(l8 pos (f9 [a] X.env)).any (·.1)=false:=by rfl):PD X B (.Call (.Name "isinstance" p) [e,a] [] pos) (C4 wA mr):=
 eJ (λξ=>xi (X:=rz X ξ) (K:=B.K) g) zk f c Lh d (by decide) (by decide) h b
end
noncomputable def intsOf:List D→Option (List Int)
 | []=>some []
 |.int i::ds=>(intsOf ds).map (i::·)
 |_=>none
theorem mS:∀{ds:List D} {ns:List Int},intsOf ds=some ns→ds=ns.map D.int
 | [],_,h=>by cases h;rfl
 |.int b::ds,bs,h=>by
  unfold intsOf at h;obtain⟨a,e,rfl⟩:=g7.mp h;rw[mS e];rfl
 |.v1::_,_,h=>by cases h
 |.bl _::_,_,h=>by cases h
 |.str _::_,_,h=>by cases h
 |.ty _::_,_,h=>by cases h
 |.tup _::_,_,h=>by cases h
 |.lst _::_,_,h=>by cases h
 |.dct _::_,_,h=>by cases h
theorem ze {K:PySem.W.Frag}{G:Hp}:∀{ns:List Int} {xs:List V},n9 K G xs (ns.map D.int)→xs=ns.map V.int
 | [],[],_=>rfl
 | [],_::_,r=>by have:=r.len;simp at this
 |_::_,[],r=>by have:=r.len;simp at this
 |b::bs,x::xs,r=>by
  have h:=r.head;cases h;rw[ze r.tail];rfl
noncomputable def qK (f:D→D→Option Bool)(fs:List (Key×D)):List (Key×D)→Option Bool
 | []=>some true
 |e::es=>match M6 fs e.1 with
  |none=>some false
  |some y=>match f e.2 y,qK f fs es with
   |some a,some b=>some (a&&b)
   |_,_=>none
noncomputable def eqT:D→D→Option Bool
 |.dct es,.dct fs=>if es.length=fs.length then qK (dn 6) fs es else some false
 |d,e=>dn 8 d e
noncomputable def R8 (d e:D):Option W:=(eqT d e).bind vB
noncomputable def ox (d e:D):Option W:=(eqT d e).bind λb=>vB (!b)
section
variable {X:Cx}{pins:List (Addr×Obj)}{σ:St}{H:Hp}{s:Shared}
theorem uG (I:Inv X pins σ H s){A:Around}{fs:List (Key×D)}{c:List (Key×V)}{d:List (Key×Value)}(m:A.units+6<B3)(n:m3 X.K H c fs)(o:KV c d):∀{es:List (Key×D)} {kvs:List (Key×V)} {vs:List (Key×Value)} {b:Bool},qK (dn 6) fs es=some b→m3 X.K H kvs es→KV kvs vs→PySem.W.KeqHits A s d vs b:=by
 intro es kvs vs b h r k;revert vs b;refine m3.ind (P:=λkvs es=>∀{vs:List (Key×Value)} {b:Bool},qK (dn 6) fs es=some b→KV kvs vs→PySem.W.KeqHits A s d vs b) ?_ ?_ r
 ·intro vs b h k;cases k;cases h;exact .nil
 ·intro p e kvs es hk hr _ ih vs b h k;unfold KV at k;cases k with
  | @cons _ q _ J g t=>
   unfold qK at h;have i:=o.val p.1;obtain⟨w,x⟩:=n.val p.1;have z:q=(p.1,q.2):=by rw[g.1]
   rw[z];cases f:M6 fs e.1 with
   |none=>
    rw[f]at h;cases h;rw[←hk]at f;rw[x f]at i;exact .miss (ck.none_of i)
   |some y=>
    rw[f]at h;simp only[]at h;cases j:dn 6 e.2 y with
    |none=>rw[j]at h;cases h
    |some a=>
     cases l:qK (dn 6) fs es with
     |none=>rw[j,l]at h;cases h
     |some L=>
      rw[j,l]at h;cases h;rw[←hk]at f;obtain⟨v,B,E⟩:=w y f;rw[B]at i;obtain⟨u,F,G⟩:=ck.some_of i;exact .hit F (jF I 6 j hr E g.2 G m).1 (ih l t)
end
theorem uf {X:Cx}{K:PySem.W.Frag}(w:X.K=K)(J:X.A.units+8<B3):eS X (v7 .Eq) (λx y H Q=>∃a c d f es fs b,x=.ref a∧y=.ref c∧Rd H a (.dK d)∧Rd H c (.dK f)∧m3 K H d es∧m3 K H f fs∧eqT (.dct es) (.dct fs)=some b∧Q (.bl b) H):=by
 subst w;intro pins s σ H x y v u Q I B E h;obtain⟨a,c,d,f,es,fs,b,rfl,rfl,F,G,n,o,e,q⟩:=h;cases B;cases E;obtain⟨z,p,vs,j,t⟩:=S2 I.hok F;obtain⟨L,k,g,i,l⟩:=S2 I.hok G;have N:=j.length;have O:=i.length;have P:=n.len;have R:=o.len;have e:(if es.length=fs.length then qK (dn 6) fs es else some false)=some b:=e;split at e
 ·rename_i hl;refine PySem.W.keq_eq (r:=b) p k t l (by omega) (λ_=>uG I (by show X.A.units+1+6<_;omega) o i e n j) ?_;have m:(vs.length==g.length&&b)=b:=by rw[show(vs.length==g.length)=true by simp;omega,rk]
  rw[m];exact fH I q rfl
 ·rename_i hl;cases e;refine PySem.W.keq_eq (r:=true) p k t l (by omega) (λz=>absurd z (by omega)) ?_;have m:(vs.length==g.length&&true)=false:=by rw[show(vs.length==g.length)=false by simp;omega,bL]
  rw[m];exact fH I q rfl
theorem BX {X:Cx}{K:PySem.W.Frag}(w:X.K=K)(J:X.A.units+8<B3):eS X (v7 .NotEq) (λx y H Q=>∃a c d f es fs b,x=.ref a∧y=.ref c∧Rd H a (.dK d)∧Rd H c (.dK f)∧m3 K H d es∧m3 K H f fs∧eqT (.dct es) (.dct fs)=some b∧Q (.bl (!b)) H):=by
 subst w;intro pins s σ H x y v u Q I B E h;obtain⟨a,c,d,f,es,fs,b,rfl,rfl,F,G,n,o,e,q⟩:=h;cases B;cases E;obtain⟨z,p,vs,j,t⟩:=S2 I.hok F;obtain⟨L,k,g,i,l⟩:=S2 I.hok G;have N:=j.length;have O:=i.length;have P:=n.len;have R:=o.len;have e:(if es.length=fs.length then qK (dn 6) fs es else some false)=some b:=e;split at e
 ·rename_i hl;refine PySem.W.keq_ne (r:=b) p k t l (by omega) (λ_=>uG I (by show X.A.units+1+6<_;omega) o i e n j) ?_;have m:(vs.length==g.length&&b)=b:=by rw[show(vs.length==g.length)=true by simp;omega,rk]
  rw[m];exact fH I q rfl
 ·rename_i hl;cases e;refine PySem.W.keq_ne (r:=true) p k t l (by omega) (λz=>absurd z (by omega)) ?_;have m:(vs.length==g.length&&true)=false:=by rw[show(vs.length==g.length)=false by simp;omega,bL]
  rw[m];exact fH I q rfl
section
variable {X:Cx}{B:Bs}{e a b c:Expr}{ma mb mc:M W}{pos:Pos}
theorem nh {d e:D}{b:Bool}(h:eqT d e=some b):(∃es fs,d=.dct es∧e=.dct fs)∨dn 8 d e=some b:=by
 unfold eqT at h;split at h
 ·exact .inl ⟨_,_,rfl,rfl⟩
 ·exact .inr h
theorem qE:eT B (λx y H Q=>(∃d e b,Rep B.K H x d∧Rep B.K H y e∧dn 8 d e=some b∧Q (.bl b) H)∨∃a c f g es fs b,x=.ref a∧y=.ref c∧Rd H a (.dK f)∧Rd H c (.dK g)∧m3 B.K H f es∧m3 B.K H g fs∧eqT (.dct es) (.dct fs)=some b∧Q (.bl b) H) R8:=by
 intro G H σ ρ x y dx i w Q R j k e p;unfold R8 at e;cases h:eqT dx i with
 |none=>rw[h]at e;cases e
 |some b=>
  rw[h]at e;cases e;rcases nh h with⟨es,fs,rfl,rfl⟩ |l
  ·obtain⟨m,n,rfl,o,q⟩:=j.dct R.gH;obtain⟨r,s,rfl,t,u⟩:=k.dct R.gH;exact .inr ⟨m,r,n,s,es,fs,b,rfl,rfl,o,t,q.same R.gH,u.same R.gH,h,p _ G H (i8.refl _) R (.bl _)⟩
  ·exact .inl ⟨dx,i,b,j.rep R.gH,k.rep R.gH,l,p _ G H (i8.refl _) R (.bl _)⟩
theorem zq:eT B (λx y H Q=>(∃d e b,Rep B.K H x d∧Rep B.K H y e∧dn 8 d e=some b∧Q (.bl (!b)) H)∨∃a c f g es fs b,x=.ref a∧y=.ref c∧Rd H a (.dK f)∧Rd H c (.dK g)∧m3 B.K H f es∧m3 B.K H g fs∧eqT (.dct es) (.dct fs)=some b∧Q (.bl (!b)) H) ox:=by
 intro G H σ ρ x y dx i w Q R j k e p;unfold ox at e;cases h:eqT dx i with
 |none=>rw[h]at e;cases e
 |some b=>
  rw[h]at e;cases e;rcases nh h with⟨es,fs,rfl,rfl⟩ |l
  ·obtain⟨m,n,rfl,o,q⟩:=j.dct R.gH;obtain⟨r,s,rfl,t,u⟩:=k.dct R.gH;exact .inr ⟨m,r,n,s,es,fs,b,rfl,rfl,o,t,q.same R.gH,u.same R.gH,h,p _ G H (i8.refl _) R (.bl _)⟩
  ·exact .inl ⟨dx,i,b,j.rep R.gH,k.rep R.gH,l,p _ G H (i8.refl _) R (.bl _)⟩
theorem qR (c:X.A.units+8<B3)(e:PD X B a ma)(f:PD X B b mb)(d:X.K=B.K:=by rfl):PD X B (.Compare a [.Eq] [b] pos) (g9 R8 ma mb):=rV (λξ=>(yE (X:=rz X ξ) d c).or (uf d c)) qE e f (fD _)
theorem eY (c:X.A.units+8<B3)(e:PD X B a ma)(f:PD X B b mb)(d:X.K=B.K:=by rfl):mh X B (.Compare a [.Eq] [b] pos) (p6 (g9 R8 ma mb)):=cE (λξ=>(yE (X:=rz X ξ) d c).or (uf d c)) qE e f (fD _)
theorem xF (c:X.A.units+8<B3)(e:PD X B a ma)(f:PD X B b mb)(d:X.K=B.K:=by rfl):mh X B (.Compare a [.NotEq] [b] pos) (p6 (g9 ox ma mb)):=cE (λξ=>(Fe (X:=rz X ξ) d c).or (BX d c)) zq e f (fD _)
end
noncomputable def Jb (f:D→List D→Option W)(x:W)(a:List W):M W:=λρ=>match getD x ρ,X2 a ρ with
 |some d,some ds=>(f d ds).map (R'.ok · ρ)
 |_,_=>none
noncomputable def GI (T:String)(f:D→List D→Option W)(a:M W)(m:M (List W)):M W:=M.bind (O2 a) λx=>M.bind (vc T x) λ_=>M.bind m λb=>Jb f x b
def IJ (B:Bs)(r:V→List V→Hp→VK→Prop)(f:D→List D→Option W):Prop:=∀{G H:Hp} {σ:St} {ρ:k0} {x:V} {dx:D} {xs:List V} {ds:List D} {w:W} {Q:VK},RS B G H σ ρ→N9 B.K G H x dx→rc B.K G H xs ds→f dx ds=some w→
 (∀v G' H',i8 G G'→RS B G' H' σ ρ→E2 B G' H' σ ρ v w→Q v H')→r x xs H Q
theorem Cb {B:Bs}{ξ:XP}{f:D→List D→Option W}{x:W}{a:List W}{G:Hp}{ρ:k0}{σ:St}{Q:VK}(t:cj C2 B ξ G ρ (Jb f x a) σ Q):∃d ds w,getD x ρ=some d∧X2 a ρ=some ds∧f d ds=some w∧∀v G' H',i8 G G'→RS B G' H' σ ρ→E2 B G' H' σ ρ v w→Q v H':=by
 obtain⟨r,e,p⟩:=t;unfold Jb at e;cases b:getD x ρ with
 |none=>rw[b]at e;cases e
 |some d=>
  cases g:X2 a ρ with
  |none=>rw[b,g]at e;cases e
  |some ds=>
   rw[b,g]at e;simp only[]at e;cases c:f d ds with
   |none=>rw[c]at e;cases e
   |some w=>
    rw[c]at e;cases e;exact⟨d,ds,w,rfl,rfl,c,p⟩
section
variable {X:Cx}{B:Bs}{o e:Expr}{es:List Expr}{mo:M W}{mr:M (List W)}{apos cpos:Pos}{name:Str}{T id:String}
theorem Kn {r:V→List V→Hp→VK→Prop}{f:D→List D→Option W}(n:PlainAttrs T)(slot:Slot T name id)(j:typeOf (.builtin id)=pure (.type "method_descriptor")) (q:∀ξ,Ky (rz X ξ) id r) (hi:IJ B r f) (s:PD X B o mo) (v:fO X B (e::es) mr)
  (y:X.K=B.K)
  (b:y7 o name X.env (eval o X.env)=eval o X.env)
  (g:((l8 cpos (f9 (e::es) X.env)).all (λx=>!x.1)&&(z6 cpos (o7 [] X.env)).all (λx=>x.1.isSome)
   && decide ((e::es).length+([]:List Keyword).length+(if([]:List Keyword).isEmpty then 0 else 1)<30))=true)
  (c:(apos.endLine==cpos.line)=true) (hs:f9 (e::es) X.env=(false,eval e X.env)::f9 es X.env) (a:(l8 cpos (f9 es X.env)).any (·.1)=false) (z:T≠"dict":=by decide):
  PD X B (.Call (.Attribute o name apos) (e::es) [] cpos) (GI T f mo mr):=.mk λξ=>
 (uc (X:=rz X ξ) n slot j (q ξ) (s.ap ξ) (v.ap ξ) b g c hs a).imp λσ H Q t=>by
  obtain⟨G,ρ,R,t⟩:=t;have A:TD jg B ξ (O2 mo) σ H _:=TD.bind (rel:=jg) R t;refine TD.O2 (A.mono λx E ⟨G1,F,I,s1,k,⟨m,l⟩,J⟩=>?_);obtain⟨u,i,L,N⟩:=J.step λr h=>⟨(),_,(dZ h).1⟩;obtain⟨O,d,hd,ty⟩:=dZ L;cases O;refine⟨by show GD X.K T x E;rw[y];exact rB k (m.get k hd) ty z,?_⟩;refine(TD.bind (rel:=M3) k N).mono λvs P ⟨S,i,ws,s2,R2,U,Y⟩=>?_;obtain⟨dx,ds,w,Z,e5,e6,p⟩:=Cb Y;exact hi R2 ((m.keep s2 l:E2 B S P σ i x I).get R2 Z) (aa R2 U e5) e6 p
end
noncomputable def GF:W→W
 |.own d=>.val d
 |w=>w
section
variable {m ma mb mo mk mf:M W}{mr:M (List W)}{ρ ρ1 ρ2 ρ3 ρ4:k0}{w wa wb wc:W}{ws:List W}{d dx dy dz:D}{ds:List D}{i j:Nat}{k k2:Bool}{f:D→D→Option W}{s1 s2:SM}{r:Option SR}{c c1 c2:M Bool}
theorem bY:getD (GF w) ρ=getD w ρ:=by cases w<;>rfl
theorem ek (h:m ρ=some (.ok w ρ1)):O2 m ρ=some (.ok (GF w) ρ1):=by
 cases w with
 |own d=>exact xK h
 |val d=>exact pK h
 |slot i=>exact mD h
theorem o6:mC d ρ=some (.ok (.val d) ρ):=rfl
theorem g4 {c:C}(h:ρ[i]?=some (some c)):f8 i ρ=some (.ok (.slot i) ρ):=by unfold f8;rw[h]
theorem j4 (a:ma ρ=some (.ok wa ρ1))(b:mb ρ1=some (.ok wb ρ2))(c:getD wa ρ2=some dx)(d:getD wb ρ2=some dy)(e:f dx dy=some w):g9 f ma mb ρ=some (.ok w ρ2):=by
 unfold g9;rw[M.j5 (ek a),M.j5 b];unfold Fj;rw[bY,c,d];simp only[e,r8]
theorem bd {f:D→Option W}(a:ma ρ=some (.ok wa ρ1))(b:getD wa ρ1=some dx)(c:f dx=some w):cZ f ma ρ=some (.ok w ρ1):=by
 unfold cZ;rw[M.j5 a];unfold GH;rw[b];simp only[c,r8]
theorem j9:i7 ρ=some (.ok [] ρ):=rfl
theorem h7 (a:ma ρ=some (.ok wa ρ1))(b:mr ρ1=some (.ok ws ρ2)):f6 ma mr ρ=some (.ok (GF wa::ws) ρ2):=by
 unfold f6;rw[M.j5 (ek a),M.j5 b];rfl
theorem E1 {f:List D→Option W}(a:mr ρ=some (.ok ws ρ1))(b:X2 ws ρ1=some ds)(c:f ds=some w):C4 f mr ρ=some (.ok w ρ1):=by
 unfold C4;rw[M.j5 a];unfold Ja;rw[b];simp only[c,r8]
theorem F6 {ms:List Bool}{a:List D→Option FR}{fin:List D}(b:mr ρ=some (.ok ws ρ1))(c:P6 ms ws ρ1=some ds)(d:pa (L1 ms ws) (cg ρ1 ms ws)=true)(e:a ds=some (.ret w fin))(hs:rK (L1 ms ws) fin ρ1=some ρ2)
  (f:(dR w&&fin.all U4)=true):o9 ms a mr ρ=some (.ok w ρ2):=by
 unfold o9;rw[M.j5 b];unfold vd;rw[c];simp only[];rw[if_pos d,e];simp only[hs];rw[if_pos f]
theorem dU {ms:List Bool}{a:List D→Option FR}{fin:List D}(b:mr ρ=some (.ok ws ρ1))(c:P6 ms ws ρ1=some ds)(d:pa (L1 ms ws) (cg ρ1 ms ws)=true)(e:a ds=some (.ret w fin))(hs:rK (L1 ms ws) fin ρ1=some ρ2)
  (f:cg ρ1 ms ws=[]):o9 ms a mr ρ=some (.ok w ρ2):=by
 unfold o9;rw[M.j5 b];unfold vd;rw[c];simp only[];rw[if_pos d,e];simp only[hs];split
 ·rfl
 ·rw[f];rfl
theorem p9 (a:m ρ=some (.ok (.val (.bl k)) ρ1)):p6 m ρ=some (.ok k ρ1):=by unfold p6;rw[M.j5 a]
theorem N8 (a:m ρ=some (.ok w ρ1))(b:getD w ρ1=some d)(c:vD d=some k):V4 m ρ=some (.ok k ρ1):=by
 unfold V4;rw[M.j5 a];simp only[b,c,r8]
theorem oJ (a:c1 ρ=some (.ok k ρ1))(b:c2 ρ1=some (.ok k2 ρ1)):gF c1 c2 ρ=some (.ok (k&&k2) ρ1):=by
 unfold gF;rw[M.j5 a];cases k with
 |true=>exact b
 |false=>rfl
theorem uR (a:c1 ρ=some (.ok k ρ1))(hk:k=false):gF c1 c2 ρ=some (.ok false ρ1):=by
 subst hk;unfold gF;rw[M.j5 a];rfl
theorem CQ {a:Option (R' Bool)}(b:c1 ρ=some (.ok k ρ1))(hk:k=true)(c:c2 ρ1=a):gF c1 c2 ρ=a:=by
 subst hk;unfold gF;rw[M.j5 b];exact c
theorem Ii (a:c1 ρ=some (.ok k ρ1))(b:c2 ρ1=some (.ok k2 ρ1)):qp c1 c2 ρ=some (.ok (k||k2) ρ1):=by
 unfold qp;rw[M.j5 a];cases k with
 |true=>rfl
 |false=>exact b
theorem sY (a:c1 ρ=some (.ok k ρ1))(hk:k=true):qp c1 c2 ρ=some (.ok true ρ1):=by
 subst hk;unfold qp;rw[M.j5 a];rfl
theorem kQ {a:Option (R' Bool)}(b:c1 ρ=some (.ok k ρ1))(hk:k=false)(c:c2 ρ1=a):qp c1 c2 ρ=a:=by
 subst hk;unfold qp;rw[M.j5 b];exact c
theorem cM (a:c1 ρ=some (.ok k ρ1)):ig c1 ρ=some (.ok (!k) ρ1):=by unfold ig;rw[M.j5 a];rfl
theorem As (a:getD w ρ=some (.bl k)):Ft w ρ=some (.ok k ρ):=by unfold Ft;rw[a]
theorem zO {a:Option (R' W)}(b:ma ρ=some (.ok wa ρ1))(c:getD wa ρ1=some (.bl k))(hk:k=true)(d:mb ρ1=a):gE ma mb ρ=a:=by
 subst hk;unfold gE;rw[M.j5 b,M.j5 (As c)];exact d
theorem zP (a:ma ρ=some (.ok wa ρ1))(b:getD wa ρ1=some (.bl k))(hk:k=false):gE ma mb ρ=some (.ok (.val (.bl false)) ρ1):=by
 subst hk;unfold gE;rw[M.j5 a,M.j5 (As b)];rfl
theorem CN (a:ma ρ=some (.ok wa ρ1))(b:getD wa ρ1=some (.bl k)):uu ma ρ=some (.ok (.val (.bl (!k))) ρ1):=by
 unfold uu;rw[M.j5 a,M.j5 (As b)];rfl
theorem aB (a:mr ρ=some (.ok ws ρ1))(hl:av ws ρ1=some (.ok ds ρ2))(b:small ds.length):M7 mr ρ=some (.ok (.val (.tup ds)) ρ2):=by
 unfold M7;rw[M.j5 a,M.j5 hl];exact v6 b
theorem aC (a:mr ρ=some (.ok ws ρ1))(hl:av ws ρ1=some (.ok ds ρ2))(b:small ds.length):O3 mr ρ=some (.ok (.own (.lst ds)) ρ2):=by
 unfold O3;rw[M.j5 a,M.j5 hl];exact v6 b
theorem wY {l:Bool}{a:List D}(b:ρ[i]?=some (some (.ow l (.lst a))))(c:mr ρ=some (.ok [w] ρ1))(hl:D0 w ρ1=some (.ok d ρ2))(e:ρ2[i]?=some (some (.ow l (.lst ds))))(f:small ds.length):
  C7 i mr ρ=some (.ok (.val .v1) (ρ2.set i (some (.ow l (.lst (ds++[d])))))):=by
 unfold C7;have g:vc "list" (.slot i) ρ=some (.ok () ρ):=by
  unfold vc getD;simp only[b];rfl
 rw[M.j5 (g4 b),M.j5 g,M.j5 c];show M.bind (D0 w) (gW i) ρ1=_;rw[M.j5 hl];unfold gW;rw[e];exact v6 f
theorem uP {es a:List (Key×D)}{b:Key}(c:mo ρ=some (.ok wa ρ1))(d:getD wa ρ1=some (.dct a))(e:mk ρ1=some (.ok wb ρ2))(f:getD wa ρ2=some (.dct es))(g:getD wb ρ2=some dy)(hk:keyOf dy=some b):qq mo mk ρ=some (.ok (.val ((M6 es b).getD .v1)) ρ2):=by
 unfold qq;have h:vc "dict" (GF wa) ρ1=some (.ok () ρ1):=by
  unfold vc;rw[bY,d];rfl
 rw[M.j5 (ek c),M.j5 h,M.j5 e];unfold Fj;rw[bY,f,g];simp only[DJ,hk,r8]
theorem Ij {T:String}{f:D→List D→Option W}(a:mo ρ=some (.ok wa ρ1))(b:getD wa ρ1=some d)(c:IX T d=true)(e:mr ρ1=some (.ok ws ρ2))(g:getD wa ρ2=some dx)(h:X2 ws ρ2=some ds)(i:f dx ds=some w):GI T f mo mr ρ=some (.ok w ρ2):=by
 unfold GI;have j:vc T (GF wa) ρ1=some (.ok () ρ1):=by
  unfold vc;rw[bY,b];simp only[c,if_true]
 rw[M.j5 (ek a),M.j5 j,M.j5 e];unfold Jb;rw[bY,g,h];simp only[i,r8]
theorem uN {n:Int}(a:m ρ=some (.ok w ρ1))(b:getD w ρ1=some (.int n)):ku m ρ=some (.ok (some n) ρ1):=by
 unfold ku;rw[M.j5 a];simp only[b]
theorem DL:(M.pure none:M (Option Int)) ρ=some (.ok none ρ):=rfl
theorem DK {a b:M (Option Int)}{lo hi:Option Int}(c:ma ρ=some (.ok wa ρ1))(hl:a ρ1=some (.ok lo ρ2))(d:b ρ2=some (.ok hi ρ3))(e:getD wa ρ3=some dx)(f:IZ dx lo hi=some w):Fs ma a b ρ=some (.ok w ρ3):=by
 unfold Fs;rw[M.j5 (ek c),M.j5 hl,M.j5 d];unfold GH;rw[bY,e];simp only[f,r8]
theorem j8 (a:s1 ρ=some (.nx ρ1))(b:s2 ρ1=r):l4 s1 s2 ρ=r:=by rw[Bu a];exact b
theorem Z3 (a:s1 ρ=some (.rt w ρ1)):l4 s1 s2 ρ=some (.rt w ρ1):=by unfold l4;rw[a]
theorem O9:bw ρ=some (.nx ρ):=rfl
theorem u3 (a:m ρ=some (.ok w ρ1))(hs:hX i w ρ1=some (.nx ρ2)):o3 i m ρ=some (.nx ρ2):=by unfold o3;rw[u0 a];exact hs
theorem D3 {a:SR}(b:m ρ=some (.ok w ρ1))(hs:Ez w ρ1=some a):retS m ρ=some a:=by unfold retS;rw[u0 b];exact hs
theorem be (a:m ρ=some (.ok w ρ1)):I0 m ρ=some (.nx ρ1):=by unfold I0;rw[u0 a];rfl
theorem D4 (a:c ρ=some (.ok k ρ1))(hk:k=true)(h:s1 ρ1=r):ax c s1 s2 ρ=r:=by subst hk;unfold ax;rw[u0 a];exact h
theorem A0 (a:c ρ=some (.ok k ρ1))(hk:k=false)(h:s2 ρ1=r):ax c s1 s2 ρ=r:=by subst hk;unfold ax;rw[u0 a];exact h
theorem dS (a:m ρ=some (.ok wa ρ1)){b:C}(c:ρ1[i]?=some (some b))(hk:mk ρ1=some (.ok wb ρ2))(hl:D0 (GF wa) ρ2=some (.ok d ρ3))(e:getD wb ρ3=some dy)(f:cY i dy d ρ3=r):fB i m mk ρ=r:=by
 unfold fB vP;rw[u0 (ek a),u0 (g4 c),u0 hk,u0 hl];simp only[e];exact f
theorem fI {a:M (List D)}{tg:FT}(hi:a ρ=some (.ok ds ρ1))(h:forL tg s1 ds ρ1=r):V7 a tg s1 ρ=r:=by unfold V7;rw[u0 hi];exact h
theorem kP {g:List D→Option (List D)}{es:List D}(a:mr ρ=some (.ok ws ρ1))(b:X2 ws ρ1=some ds)(c:g ds=some es):X1 g mr ρ=some (.ok es ρ1):=by
 unfold X1;rw[M.j5 a];simp only[b,c,r8]
theorem F5 {es:List D}(a:m ρ=some (.ok w ρ1))(hl:D0 w ρ1=some (.ok d ρ2))(b:Kg d=some es):B1 m ρ=some (.ok es ρ2):=by
 unfold B1;rw[M.j5 a,M.j5 hl];simp only[b,r8]
theorem bf {mi:M (List D)}{tg:FT}{mt:M Bool}{b:M W}{own:Nat}{fr:List Nat}{a:List D}(hi:mi ρ=some (.ok ds ρ1))(c:small ds.length)(d:y9 tg mt b (X9 own fr ρ1) ds=some a)(hf:a.all U5=true∨eQ ρ1 fr=[]):B2 mi tg mt b own fr ρ=some (.ok (.own (.lst a)) ρ1):=by
 unfold B2;rw[M.j5 hi];unfold Ad;rw[d];simp only[];rw[v6 c];rcases hf with hf|hf
 ·rw[if_pos hf]
 ·split
  ·rfl
  ·rw[hf];rfl
theorem L9 {den:SM}{n:Nat}{ms:List Bool}{sr:SR}{fr:FR}(h:den (A7 n ms ds)=some sr)(a:rX ms sr=some fr):n3 den n ms ds=some fr:=by unfold n3;rw[h];exact a
theorem ey {a b:Int}(h:rg a b):aM (.int a) (.int b)=some (.val (.int (a*b))):=v6 h
theorem jy {a b:Int}(h:rh a b):kU (.int a) (.int b)=some (.val (.int (a / b))):=v6 h
theorem K6 {a b:Int}(h:0<b):R4 (.int a) (.int b)=some (.val (.int (a % b))):=v6 h
end
noncomputable def bO (ns:List Int):List Int:=ns.mergeSort λa b=>decide (a≤b)
theorem fv (ns:List Int):(bO ns).Perm ns:=List.mergeSort_perm _ _
theorem xM (ns:List Int):(bO ns).Pairwise (·≤·):=by
 have:=List.pairwise_mergeSort (le:=λa b:Int=>decide (a≤b)) (λa b c d e=>by simp at *;omega) (λa b=>by simp;omega) ns;exact this.imp λh=>by simpa using h
theorem jY {ns ms:List Int}(c:ms.Perm ns)(hs:ms.Pairwise (·≤·)):ms=bO ns:=by
 have h:=c.trans (fv ns).symm;exact List.Perm.eq_of_pairwise (le:=(·≤·)) (λa b _ _ d e=>Int.le_antisymm d e) hs (xM ns) h
section
variable {X:Cx}
theorem oT {K:PySem.W.Frag}(f:X.K=K):J2 X (.builtin "sorted") (λxs H Q=>∃(p:Addr) (ns:List Int),xs=[.ref p]∧P8 K H p (ns.map V.int)∧ns.length<64∧∀l,H l=none→Q (.ref l) (upd H l (.lst ((bO ns).map V.int)))):=by
 subst f;intro pins s σ H xs us Q I r h;obtain⟨p,ns,rfl,g,w,q⟩:=h;obtain⟨u,rfl,i⟩:=vals1 r;cases i;obtain⟨c,d,j,_⟩:=I.list g;have hl:=d.length;rw[List.length_map]at hl;refine sorted_ints j.isList (intsAre_of d) (by omega) λout k m n t=>?_;have hs:=jY n t;subst hs;obtain⟨e,v⟩:=sortedAll_at s.heap c out;refine⟨.ref (s.heap.objs.size+1),_,I.laid (a:=s.heap.objs.size+1) (o:=.lst ((bO ns).map V.int)) (t':=s.toks) (λb o e=>sortedAll_old e) (fU _) ⟨?_,out.toList,e,?_,?_⟩,rfl,q _ (I.hok.fresh (fU _))⟩
 ·rw[List.length_map,(fv ns).length_eq,u5];omega
 ·exact eh m
 ·rw[v]
theorem yZ {P:Program}{w:World}:∀(b:List (Key×V)) (us:List (Key×Value)) (a:List Value),KV b us→a.length=us.length→(∀(j:Nat) v,a[j]?=some v→∃k x,us[j]?=some (k,x)∧(u1 P w).is k v=true)→Vals (b.map λkv=>kV kv.1) a:=by
 intro b us a e;unfold KV at e;induction e generalizing a with
 |nil=>
  intro hl _;have:a=[]:=List.length_eq_zero_iff.mp hl;subst this;exact .nil
 | @cons p q ps s c _ ih=>
  intro hl f;cases a with
  |nil=>simp at hl
  |cons v r=>
   obtain⟨k,x,g,h⟩:=f 0 v rfl;have l:q=(k,x):=i9 g;refine .cons ?_ (ih r (by simpa using hl) λj m d=>f (j+1) m d);have n:p.1=k:=by rw[c.1,l]
   show RelV (kV p.1) v;rw[n];have o:gL k v=true:=h;rcases x3 o with⟨i,t,rfl,rfl⟩ | ⟨x,t,rfl,rfl⟩
   ·exact⟨t,rfl⟩
   ·exact⟨t,rfl⟩
theorem lY (B:X.calm=true):J2 X (.builtin "sorted") (λxs H Q=>∃(a:Addr) (kvs:List (Key×V)) (ns:List Int),xs=[.ref a]∧Rd H a (.dK kvs)∧kvs.map (λkv=>kV kv.1)=ns.map V.int∧ns.length<64∧∀l,H l=none→Q (.ref l) (upd H l (.lst ((bO ns).map V.int)))):=by
 intro pins s σ H xs us Q I r h;obtain⟨a,kvs,ns,rfl,E,hk,Y,q⟩:=h;obtain⟨u,rfl,F⟩:=vals1 r;cases F;obtain⟨z,G,vs,g,J⟩:=S2 I.hok E;obtain⟨ep,k⟩:=J.dictAt;have x:=g.length;refine PySem.Calls.call_function_entry Lb La Le (Lo _) ?_;unfold k5.«sorted»;refine f7 (m:=checkCount "sorted" 1 1 _) (i3 ?_);refine f7 (PySem.W.kdu_collect (PySem.W.kdl_dict (knd:=u1 X.prog X.w) (kvs:=vs) (ep:=ep) G) (I.ok.hd B) k (by omega) λh' n c kp d=>?_);have L:c.toList.length=vs.length:=by rw[C1];exact d.1
 have p:=yZ (P:=X.prog) (w:=X.w) kvs vs c.toList g L λj v e=>d.2 j v (by rw[←X6];exact e);rw[hk]at p;have N:=intsAre_of p;have t:c.toList.length<64:=by have:=p.length;rw[List.length_map]at this;omega
 refine f7 (wpAny_newList ?_);have f:(h'.push (seqObj "list" c.toList.toArray 0)).get? h'.objs.size=some (seqObj "list" c.toList.toArray 0):=Heap.get?_push_size _ rfl;show wpAny _ _ _ _ _ {s with heap:=h'.push (seqObj "list" c.toList.toArray 0),toks:=n};refine f7 (v8 (aJ slot_list_sort ⟨_,f,rfl⟩ entry_list_sort (list_sort_tree f N t λout O R S T=>⟨_,rfl,?_⟩) (args_list_sort _)));have hs:=jY S T;subst hs;refine i3 ⟨_,rfl,?_⟩;have y:Inv X pins σ H {s with heap:=h',toks:=n}:=I.kept kp;obtain⟨e,U⟩:=sortedHeap_at (out:=out) f;refine⟨.ref h'.objs.size,_,y.laid (a:=h'.objs.size) (o:=.lst ((bO ns).map V.int)) (t':=n) (λb o A=>?_) (g8 _) ⟨?_,out.toList,e,?_,?_⟩,rfl,q _ (y.hok.fresh (g8 _))⟩
 ·have i:b<h'.objs.size:=Heap.lt_size A;rw[sortedHeap_old (j7 i) (by rw[size_push'];exact o1 i)];exact Heap.get?_push_of_some _ A
 ·rw[List.length_map,(fv ns).length_eq,u5];omega
 ·exact eh R
 ·rw[U]
end
noncomputable def dg:List (Key×D)→Option (List Int)
 | []=>some []
 | (.inl k,_)::r=>(dg r).map (k::·)
 |_=>none
theorem Cq {K:PySem.W.Frag}{G:Hp}{kvs:List (Key×V)}{es:List (Key×D)}(r:m3 K G kvs es):∀{ns:List Int},dg es=some ns→kvs.map (λkv=>kV kv.1)=ns.map V.int:=by
 refine m3.ind (P:=λkvs es=>∀{ns:List Int},dg es=some ns→kvs.map (λkv=>kV kv.1)=ns.map V.int) ?_ ?_ r
 ·intro ns h;cases h;rfl
 ·intro p e kvs es hk _ _ ih ns h;obtain⟨k,d⟩:=e;cases k with
  |inr x=>cases h
  |inl k=>
   cases hr:dg es with
   |none=>simp[dg,hr]at h
   |some ms=>
    simp[dg,hr]at h;subst h;rw[List.map_cons,List.map_cons,ih hr,hk];rfl
noncomputable def el:List D→Option W
 | [.lst ds]=>(intsOf ds).bind λns=>cm (ns.length<64) (some (.own (.lst ((bO ns).map D.int))))
 | [.dct es]=>(dg es).bind λns=>cm (ns.length<64) (some (.own (.lst ((bO ns).map D.int))))
 |_=>none
section
variable {X:Cx}{B:Bs}{e f:Expr}{mr:M (List W)}{pos p:Pos}
theorem qD:fP B (λxs H Q=>(∃(p:Addr) (ns:List Int),xs=[.ref p]∧P8 B.K H p (ns.map V.int)∧ns.length<64∧∀l,H l=none→Q (.ref l) (upd H l (.lst ((bO ns).map V.int))))∨
  ∃(a:Addr) (kvs:List (Key×V)) (ns:List Int),xs=[.ref a]∧Rd H a (.dK kvs)∧kvs.map (λkv=>kV kv.1)=ns.map V.int∧ns.length<64∧∀l,H l=none→Q (.ref l) (upd H l (.lst ((bO ns).map V.int)))) el:=by
 intro G H σ ρ xs ds w Q R h e p
 match ds,e with
 | [.lst ds],e=>
  cases c:intsOf ds with
  |none=>simp[el,c]at e
  |some ns=>
   have b:(intsOf ds).bind _=some w:=e;rw[c]at b;obtain⟨g,b⟩:=o4 b;cases b;obtain⟨x,rfl,d⟩:=G8 h;rw[mS c]at d;obtain⟨q,k,rfl,f,i⟩:=d.lst R.gH;rw[ze i]at f;refine .inl ⟨q,ns,rfl,f,g,λl hl=>?_⟩;obtain⟨R',j⟩:=R.cG hl (n9.gB (K:=B.K) (G:=G) (bO ns));exact p _ G _ (i8.refl _) R' j
 | [.dct es],e=>
  cases c:dg es with
  |none=>simp[el,c]at e
  |some ns=>
   have b:(dg es).bind _=some w:=e;rw[c]at b;obtain⟨g,b⟩:=o4 b;cases b;obtain⟨x,rfl,d⟩:=G8 h;obtain⟨a,kvs,rfl,f,i⟩:=d.dct R.gH;refine .inr ⟨a,kvs,ns,rfl,f,Cq i c,g,λl hl=>?_⟩;obtain⟨R',j⟩:=R.cG hl (n9.gB (K:=B.K) (G:=G) (bO ns));exact p _ G _ (i8.refl _) R' j
theorem zW (b:X.calm=true)(c:X.mg "sorted"=none) (d:fO X B [e] mr) (f:Gl X "sorted":=by rfl) (g:X.K=B.K:=by rfl) (h:f9 [e] X.env=(false,eval e X.env)::f9 [] X.env:=by rfl) (a:(l8 pos (f9 [] X.env)).any (·.1)=false:=by rfl):PD X B (.Call (.Name "sorted" p) [e] [] pos) (C4 el mr):=
 eJ (λξ=>(oT (X:=rz X ξ) (K:=B.K) g).or (lY b)) qD f c Lg d (by decide) (by decide) h a
end
noncomputable def jQ:SM:=λ_=>none
theorem jv {X:Cx}{B:Bs}{st:Stmt}:ro X B st jQ:=.mk λξ=>(yp (X:=rz X ξ)).imp λa σ H t=>by
 obtain⟨G,ρ,R,r,e,p⟩:=t;cases e
noncomputable def Au (i:Nat)(c:M W):SM:=λρ=>match ρ[i]? with
 |some (some _)=>D6 c (λy ρ=>match getD (.slot i) ρ,getD y ρ with
  |some (.int a),some (.int b)=>hX i (.val (.int (a+b))) ρ
  |_,_=>none) ρ
 |_=>none
section
variable {X:Cx}{B:Bs}{e:Expr}{me:M W}{pos:Pos}
theorem xW {i:Nat}{x:Str}{f:Pos}(s:PD X B e me)(u:X.N.Nodup)(hi:X.N[i]?=some x:=by rfl)(z:Loc X.env.scope x:=by first|exact Or.inl rfl|exact Or.inr rfl)(A:X.fn x=true∨X.env.scope.names.lookup x=some .local:=by first|exact .inl rfl|exact .inr rfl):
  ro X B (.AugAssign (.Name x f) .Add e pos) (Au i me):=.mk λξ=>(EK (X:=rz X ξ) u hi z (s.ap ξ) FH A).imp λL σ H t=>by
 obtain⟨G,ρ,R,r,e,p⟩:=t;unfold Au at e;split at e
 ·rename_i c g;have j:∃v,σ[i]?=some (some v):=by
   cases c with
   |sh d=>obtain⟨v,q,_⟩:=R.sh i d g;exact⟨v,q⟩
   |ow l d=>obtain⟨v,q,_⟩:=R.ow i l d g;exact⟨_,q⟩
   |fz es=>obtain⟨a,o,kvs,q,_⟩:=R.fz i es g;exact⟨_,q⟩
   |ob l fds=>obtain⟨_,_,_,_,_,_,q,_⟩:=R.ob.1 i l fds g;exact⟨_,q⟩
   |rd fds=>obtain⟨_,_,_,_,_,_,_,q,_⟩:=R.ob.2 i fds g;exact⟨_,q⟩
  obtain⟨v,j⟩:=j;refine⟨v,j,?_⟩;refine(SD.step (rel:=C2) R ⟨r,e,p⟩).mono λy k ⟨n,h,w,s1,m,E,r,e,p⟩=>?_;dsimp only at e;split at e
  ·rename_i a b F I;obtain⟨ρ',G',rfl,J,R'⟩:=hW (v:=.int (a+b)) m (show E2 B n k σ h (.int (a+b)) (.val (.int (a+b)))from Rep.int _) e;exact⟨a,b,((show E2 B n k σ h v (.slot i)from j).get m F).int,(E.get m I).int,p _ G' k J R'⟩
  ·cases e
 ·cases e
end
section
variable {me ma mb:M W}{ρ ρ1 ρ2:k0}{w:W}{i:Nat}{a b:Int}
theorem zN {c:C}(d:ρ[i]?=some (some c))(e:me ρ=some (.ok w ρ1))(f:getD (.slot i) ρ1=some (.int a))(g:getD w ρ1=some (.int b))(hs:hX i (.val (.int (a+b))) ρ1=some (.nx ρ2)):Au i me ρ=some (.nx ρ2):=by
 unfold Au;rw[d];show D6 me _ ρ=_;rw[u0 e];simp only[f,g];exact hs
end
noncomputable def fJ (d:D):List D→Option (List Bool)
 | []=>some []
 |y::c=>match dn 7 y d,fJ d c with
  |some a,some b=>some (a::b)
  |_,_=>none
theorem zQ {d:D}:∀{ds:List D} {bs:List Bool},fJ d ds=some bs→∃b,kH d ds=some b
 | [],_,_=>⟨false,rfl⟩
 |y::e,bs,h=>by
  unfold fJ at h;cases a:dn 7 y d with
  |none=>rw[a]at h;cases h
  |some p=>
   cases c:fJ d e with
   |none=>rw[a,c]at h;cases h
   |some q=>
    obtain⟨b,f⟩:=zQ c;exact⟨p||b,by unfold kH;rw[a,f]⟩
noncomputable def V9:List Bool→Option Nat
 | []=>none
 |true::_=>some 0
 |false::r=>(V9 r).map (· + 1)
theorem mU:∀{bs:List Bool} {j:Nat},V9 bs=some j→bs[j]?=some true∧∀m,m<j→bs[m]?=some false
 | [],_,h=>by cases h
 |true::_,_,h=>by cases h;exact⟨rfl,λm a=>by omega⟩
 |false::r,j,h=>by
  unfold V9 at h;obtain⟨k,hk,rfl⟩:=g7.mp h;obtain⟨b,c⟩:=mU hk;refine⟨by simpa using b,λm a=>?_⟩;cases m with
  |zero=>rfl
  |succ m=>simpa using c m (by omega)
section
variable {X:Cx}{pins:List (Addr×Obj)}{σ:St}{H:Hp}{s:Shared}
theorem uS (I:Inv X pins σ H s){d:D}:∀{ds:List D} {xs:List V} {us:List Value} {bs:List Bool},fJ d ds=some bs→n9 X.K H xs ds→Vals xs us→us.map (S1 X.K H d)=bs
 | [],[],us,b,h,_,v=>by cases v;cases h;rfl
 | [],_::_,_,_,_,r,_=>by have:=r.len;simp at this
 |_::_,[],_,_,_,r,_=>by have:=r.len;simp at this
 |e::ds,x::xs,us,b,h,r,v=>by
  cases v with
  |cons f v=>
   unfold fJ at h;cases a:dn 7 e d with
   |none=>rw[a]at h;cases h
   |some p=>
    cases c:fJ d ds with
    |none=>rw[a,c]at h;cases h
    |some q=>
     rw[a,c]at h;cases h;rw[List.map_cons,kR I f r.head a,uS I c r.tail v]
end
theorem wm {X:Cx}{K:PySem.W.Frag}(L:X.K=K)(hu:X.A.units+8<B3):Ky X "list.index" (λx xs H Q=>∃p g ds y d bs j,x=.ref p∧xs=[y]∧Rep K H y d∧P8 K H p g∧n9 K H g ds∧fJ d ds=some bs∧V9 bs=some j∧Q (.int ((j:Nat):Int)) H):=by
 subst L;intro pins s σ H x xs v us Q I N O h;obtain⟨p,g,ds,y,d,bs,j,rfl,rfl,P,R,hr,z,S,q⟩:=h;cases N;obtain⟨u,rfl,T⟩:=vals1 O;obtain⟨a,r,U,Y⟩:=I.list R;obtain⟨b,i⟩:=zQ z;obtain⟨⟨cls,dd,data,sl⟩,n,B,E,c,hd⟩:=U;simp only at E hd c;subst E hd c;have e:=uS I z hr r;obtain⟨k,Z⟩:=mU S;have f:j<a.length:=by
  have:=(List.getElem?_eq_some_iff.mp k).1;rw[←e]at this;simpa using this
 have l:S1 X.K H d a.toArray[j]=true:=by
  rw[←e,List.getElem?_map,List.getElem?_eq_getElem f]at k;simpa using k
 have o:∀m (G:m<a.toArray.size),m<j→S1 X.K H d a.toArray[m]=false:=by
  intro m G t;have J:=Z m t;rw[←e,List.getElem?_map,List.getElem?_eq_getElem (by simpa using G)]at J;simpa using J
 have hl:=r.length;rw[u5]at Y;refine vn PySem.F.slot_list_index ⟨_,B,rfl⟩ PySem.F.entry_list_index (PySem.F.args_list_index_2 _ _) (SeqAt.list_indexAt p a.toArray n none sl u (S1 X.K H d) j (by simpa using f) (by omega) l o) ⟨B,λw hw=>eE I P T (by show X.A.units+1+7<_;omega) i hr r w (by simpa using hw),?_⟩;exact⟨.int _,H,I.tok _,⟨_,rfl⟩,q⟩
noncomputable def kF:D→List D→Option W
 |.lst ds,[d]=>(fJ d ds).bind λbs=>(V9 bs).bind λj=>vI ((j:Nat):Int)
 |_,_=>none
section
variable {X:Cx}{B:Bs}{o e:Expr}{mo:M W}{mr:M (List W)}{apos cpos:Pos}
theorem sL:IJ B (λx xs H Q=>∃p a ds y d bs j,x=.ref p∧xs=[y]∧Rep B.K H y d∧P8 B.K H p a∧n9 B.K H a ds∧fJ d ds=some bs∧V9 bs=some j∧Q (.int ((j:Nat):Int)) H) kF:=by
 intro G H σ ρ x dx xs ds w Q R f h e p
 match dx,ds,e with
 |.lst ds,[d],e=>
  obtain⟨y,rfl,g⟩:=G8 h;have e:(fJ d ds).bind (λbs=>(V9 bs).bind λj=>vI ((j:Nat):Int))=some w:=e;cases b:fJ d ds with
  |none=>rw[b]at e;cases e
  |some bs=>
   rw[b]at e;have e:(V9 bs).bind (λj=>vI ((j:Nat):Int))=some w:=e;cases c:V9 bs with
   |none=>rw[c]at e;cases e
   |some j=>
    rw[c]at e;cases e;obtain⟨q,a,rfl,i,k⟩:=f.lst R.gH;exact⟨q,a,ds,y,d,bs,j,rfl,rfl,g.rep R.gH,i,k.same R.gH,b,c,p _ G H (i8.refl _) R (.int _)⟩
theorem Da (g:X.A.units+8<B3)(h:PD X B o mo)(i:fO X B [e] mr)(f:X.K=B.K:=by rfl)(b:y7 o "index" X.env (eval o X.env)=eval o X.env:=by rfl)
  (d:((l8 cpos (f9 [e] X.env)).all (λx=>!x.1)&&(z6 cpos (o7 [] X.env)).all (λx=>x.1.isSome)&&decide (([e]:List Expr).length+([]:List Keyword).length+(if([]:List Keyword).isEmpty then 0 else 1)<30))=true:=by rfl)
  (c:(apos.endLine==cpos.line)=true:=by rfl) (hs:f9 [e] X.env=(false,eval e X.env)::f9 [] X.env:=by rfl) (a:(l8 cpos (f9 [] X.env)).any (·.1)=false:=by rfl):PD X B (.Call (.Attribute o "index" apos) [e] [] cpos) (GI "list" kF mo mr):=
 Kn PySem.F.plainAttrs_list PySem.F.slot_list_index PySem.F.type_list_index (λξ=>wm (X:=rz X ξ) (K:=B.K) f g) sL h i f b d c hs a
end
section
variable {tg:FT}{mt:M Bool}{me:M W}{ρ ρ1 ρ2 ρ3 ρ4:k0}{d y:D}{w:W}
theorem jO (a:tg d ρ=some ρ1)(b:mt ρ1=some (.ok true ρ2))(c:me ρ2=some (.ok w ρ3))(e:D0 w ρ3=some (.ok y ρ4)):compTurn tg mt me ρ d=some (some y):=by
 unfold compTurn;rw[a];simp only[b];rw[M.j5 c,e]
theorem Bc (a:tg d ρ=some ρ1)(b:mt ρ1=some (.ok false ρ2)):compTurn tg mt me ρ d=some none:=by
 unfold compTurn;rw[a];simp only[b]
end
theorem Ab {α:Type}(xs:List α)(k:Nat):(xs.drop (HT.B9 xs.length 0 (some (k:Int)))).take (HT.B9 xs.length xs.length none-HT.B9 xs.length 0 (some (k:Int)))=xs.drop k:=by
 rw[HT.tY,HT.pT];by_cases h:k≤xs.length
 ·rw[nC h,List.take_of_length_le (by simp)]
 ·rw[lC (by omega),List.take_of_length_le (by simp),List.drop_eq_nil_of_le (g8 _),List.drop_eq_nil_of_le (by omega)]
theorem Ge {α:Type}(xs:List α)(k:Nat):(xs.drop (HT.B9 xs.length 0 none)).take (HT.B9 xs.length xs.length (some (k:Int))-HT.B9 xs.length 0 none)=xs.take k:=by
 rw[HT.tY,HT.pT,List.drop_zero,Nat.sub_zero];by_cases h:k≤xs.length
 ·rw[nC h]
 ·rw[lC (by omega),List.take_of_length_le (g8 _),List.take_of_length_le (by omega)]
theorem kZ {X:Cx}{B:Bs}{x:Str}{cs:List Nat}{j pos}(h:x.cps.toList=cs):PD X B (.Constant (.str x) j pos) (mC (.str cs)):=by
 subst h;exact Iu
end L3
namespace PySem
open PyProof.Rows
theorem F.oz:aK (.type "list") "keys"=pure none:=by rw[W1,F2];kernel_rfl
theorem F.ji:aK (.type "list") "__getattr__"=pure none:=by rw[W1,F2];kernel_rfl
theorem F.Q1:isSubtype (.type "AttributeError") (.type "AttributeError")=pure true:=by rw[LP];kernel_rfl
section
variable {prog:Program}{w:World}{A:Around}{E:Value→Shared→Prop}{h:Heap}{g:Array GenState}{d:Drawn}{t:Nat}{os:OsState}{a:Addr}{items:Array Value}{n:Nat}{sl:Array (Option Value)}
theorem kB {α:Type}{c:Str}{Q:α→Shared→Prop}(i:A.handled=none)(l:c.length≤sizeLine)
   (j:∀x h' k,(∀b o,h.get? b=some o→h'.get? b=some o)→(∃o,h'.get? x=some o∧o.cls=.type "AttributeError")→E (.ref x) ⟨h',g,d,k,os⟩):
    wpAny (model prog w) A (LJ (.ref a) (Str.ofString "keys") c:Sem α) Q E ⟨h,g,d,t,os⟩:=by
  have f1:=F.Q1;unfold LJ mkStr;repeat (any_goals (first|assumption|wp_step))
  refine wpAny_raiseNew_none i (j _ _ _ (λb o f=>?_) ⟨_,Heap.get?_update_self _ (Heap.get?_push_size _ rfl) rfl,rfl⟩);refine Eq.trans (Heap.get?_update_other _ _ ?_) (Heap.get?_push_of_some _ (Heap.get?_push_of_some _ f));have:=Heap.lt_size f;intro z;rw[←z]at this;have e:=KZ h {cls:=Value.type "tuple",data:=Data.seq #[Value.str c t]};rw[e]at this;exact n0 _ (Q6 (n6 _) this)
theorem jk {c:Tok}{Q:Fin→Shared→Prop}(e:A.handled=none)(f:h.get? a=some {cls:=.type "list",dict:=none,data:=.seq items n,slots:=sl})
   (i:∀x h' j,(∀b o,h.get? b=some o→h'.get? b=some o)→(∃o,h'.get? x=some o∧o.cls=.type "AttributeError")→E (.ref x) ⟨h',g,d,j,os⟩):
    wpAny (model prog w) A (k5.«object.__getattribute__» ⟨[.ref a,.str "keys" c],[]⟩) Q E ⟨h,g,d,t,os⟩:=by
  have k:(⟨h,g,d,t,os⟩:Shared).TypeIs (.ref a) "list":=⟨_,f,rfl⟩
  have l:=F.oz;repeat (any_goals (first|assumption|wp_step))
  refine kB e ?_ i;decide +kernel
theorem kC {e:Tok}{R:vt→Shared→Prop}(f:A.handled=none)(c:h.get? a=some {cls:=.type "list",dict:=none,data:=.seq items n,slots:=sl})
   (i:∀x h' j,(∀b o,h.get? b=some o→h'.get? b=some o)→(∃o,h'.get? x=some o∧o.cls=.type "AttributeError")→R (.error (.ref x)) ⟨h',g,d,j,os⟩):
    Y2 (model prog w) A (.call (.builtin "list.__getattribute__") ⟨[.ref a,.str "keys" e],[]⟩) R ⟨h,g,d,t,os⟩:=
  br F.slot_list_getattribute.plain F.entry_list_ga (F.slot_list_getattribute.check _ _ _ _ _ _ _ _ (show(⟨h,g,d,t,os⟩:Shared).TypeIs (.ref a) "list" from⟨_,c,rfl⟩) (F.args_list_getattribute_2 _ _) (jk f c i))
theorem oD {f:Tok}{Q:Value→Shared→Prop}(i:A.handled=none)(e:h.get? a=some {cls:=.type "list",dict:=none,data:=.seq items n,slots:=sl})
   (j:∀x h' c,(∀b o,h.get? b=some o→h'.get? b=some o)→(∃o,h'.get? x=some o∧o.cls=.type "AttributeError")→E (.ref x) ⟨h',g,d,c,os⟩):wpAny (model prog w) A (getAttrBy (.ref a) (.str "keys" f) false) Q E ⟨h,g,d,t,os⟩:=by
  have l:(⟨h,g,d,t,os⟩:Shared).TypeIs (.ref a) "list":=⟨_,e,rfl⟩
  have m:=F.slot_list_getattribute.lookup;have p:=F.slot_list_getattribute.bind (.ref a);have q:=F.ji;have r:=F.Q1;repeat (any_goals (first|assumption|wp_step))
  refine kC i e λx h' c kp ex=>?_;have k:(⟨h',g,d,c,os⟩:Shared).TypeIs (.ref x) "AttributeError":=ex;repeat (any_goals (first|assumption|wp_step))
  exact j x h' c kp ex
theorem kD {Q:Option Value→Shared→Prop}(e:A.handled=none)(f:h.get? a=some {cls:=.type "list",dict:=none,data:=.seq items n,slots:=sl})
   (i:∀h' c,(∀b o,h.get? b=some o→h'.get? b=some o)→Q none ⟨h',g,d,c,os⟩):wpAny (model prog w) A (DW (.ref a) "keys") Q E ⟨h,g,d,t,os⟩:=by
  unfold DW getAttrBy?;have k:=F.Q1;repeat (any_goals (first|assumption|with_reducible apply oD e f|wp_step))
  intro x h' c kp ex;have j:(⟨h',g,d,c,os⟩:Shared).TypeIs (.ref x) "AttributeError":=ex;repeat (any_goals (first|assumption|wp_step))
  exact i h' c kp
end
theorem F.B8:entryFor table "dict.update.loop"=some k5.«dict.update.loop»:=entryFor_of_tree (by kernel_rfl)
theorem F.n4:plainId "dict.update.loop"=true:=by decide +kernel
def IG (d it:Addr)(h h':Heap):Prop:=∀b o,b≠d→b≠it→h.get? b=some o→h'.get? b=some o
section
variable {prog:Program}{w:World}{A:Around}{E:Value→Shared→Prop}{K:Type}[DecidableEq K]{knd:KeyKind prog w K}
theorem pH (d it l : Addr) (f : Array Value) (ps : List (K × Value)) (hh : A.in1.handled = none) (H : l ≠ d) (I : l ≠ it) (q : d ≠ it) (c : Value) (a4 : ps.length = f.size) (R : vt → Shared → Prop) :
  ∀ (m i : Nat) (kvs : List (K × Value)) (s : Shared), m = ps.length - i → i ≤ ps.length →
   s.heap.DictOf knd d kvs → s.heap.IsListIter it l i → s.heap.IsList l f →
   (∀ (j : Nat) (p : K × Value), ps[j]? = some p → ∃ t key, f[j]? = some (.ref t) ∧ t ≠ d ∧ t ≠ it ∧ s.heap.IsTuple t #[key, p.2] ∧ knd.is p.1 key = true) →
   kvs.length + m ≤ sizeLine →
   (∀ h' J, h'.DictOf knd d (AU kvs (ps.drop i)) → IG d it s.heap h' → R (.ok (.ret c)) { s with heap := h', toks := J }) →
   Y2 (model prog w) A (.builtin "dict.update.loop" ⟨[.ref d, .ref it, rawInt i, c], []⟩) R s := by
  intro m
  induction m with
  | zero =>
    intro i kvs s hm hi hd r hl u L N
    have O : i = ps.length := by omega
    refine I9 F.B8 ?_
    rw [A4 F.n4 _]
    show wpAny _ A.in1 (pyNext (.ref it) >>= _) _ _ s
    refine f7 (Dq hh r hl (by rw [rA]; omega) fun h' eb => ?_)
    show wpAny _ A.in1 (jr d [] >>= fun _ => ret c) _ _ _
    refine f7 (i3 (i3 ?_))
    refine N h' s.toks ?_ fun b o v g e => eb b o g e
    rw [O, List.drop_length]
    obtain ⟨o, es, P, h, a⟩ := hd
    exact ⟨o, es, P, eb d o q h, a⟩
  | succ m ih =>
    intro i kvs s hm hi hd r hl u L N
    have y : i < ps.length := by omega
    obtain ⟨t, key, ht, a6, Q, z, B⟩ := u i ps[i] (List.getElem?_eq_getElem y)
    refine I9 F.B8 ?_
    rw [A4 F.n4 _]
    show wpAny _ A.in1 (pyNext (.ref it) >>= _) _ _ s
    refine f7 (AO r hl ht fun h' E sb => ?_)
    have kp : ∀ b o, b ≠ it → s.heap.get? b = some o → h'.get? b = some o := fun b o v e => (sb.2 b v).trans e
    have S : h'.DictOf knd d kvs := by obtain ⟨o, es, P, h, a⟩ := hd; exact ⟨o, es, P, kp d o q h, a⟩
    have n : h'.IsTuple t #[key, ps[i].2] := by obtain ⟨o, h, a⟩ := z; exact ⟨o, kp t o Q h, a⟩
    have hT : ({ s with heap := h' } : Shared).TypeIs (.ref t) "tuple" := by obtain ⟨o, h, T, _⟩ := n; exact ⟨o, h, T⟩
    obtain ⟨ot, U, a7, nt, X⟩ := id n
    show wpAny _ A.in1 (W2 [Value.ref t] _ >>= _) _ _ { s with heap := h' }
    refine f7 (v8 ?_)
    refine f7 (LD ?_)
    unfold ly
    refine f7 (S7 hT ?_)
    rw [if_pos (by decide)]
    refine f7 ?_
    unfold seqItems?
    refine f7 (GL U ?_)
    rw [X]
    refine i3 (i3 ?_)
    show wpAny _ A.in1 (W2 [key, ps[i].2] (dictSet d key ps[i].2)) _ _ { s with heap := h' }
    refine v8 (Gz (s := { s with heap := h' }) (k := ps[i].1) B S (fun h2 Y G => ?_) (by omega))
    have x : ∀ b o, b ≠ d → b ≠ it → s.heap.get? b = some o → h2.get? b = some o := fun b o v g e => (G.2 b v).trans (kp b o g e)
    have T : ((i : Int) + 1) = ((i + 1 : Nat) : Int) := by push_cast; rfl
    refine i3 ⟨U7 F.n4 _, ?_⟩
    rw [T]
    refine ih (i + 1) (AS kvs ps[i].1 ps[i].2) { s with heap := h2, toks := s.toks + 1 } (by omega) (by omega) Y ?_ ?_ ?_ ?_ fun h3 J Z a0 => ?_
    · obtain ⟨o, h, a⟩ := E
      exact ⟨o, (G.2 it (w5 q)).trans h, a⟩
    · obtain ⟨o, h, a⟩ := hl
      exact ⟨o, x l o H I h, a⟩
    · intro j p hj
      obtain ⟨t, key, a1, a2, a3, ⟨o, h, a⟩, a5⟩ := u j p hj
      exact ⟨t, key, a1, a2, a3, ⟨o, x t o a2 a3 h, a⟩, a5⟩
    · have := Jq kvs ps[i].1 ps[i].2
      omega
    · refine N h3 J ?_ fun b o v g e => a0 b o v g (x b o v g e)
      rw [List.drop_eq_getElem_cons y]
      exact Z
theorem jm {s:Shared}{l:Addr}{items:Array Value}{n:Nat}{sl:Array (Option Value)}(ps:List (K×Value)){Q:Value→Shared→Prop}(L:A.handled=none)(hl:s.heap.get? l=some {cls:=.type "list",dict:=none,data:=.seq items n,slots:=sl}) (i:ps.length=items.size) (u:ps.length≤sizeLine)
  (v:∀(j:Nat) (p:K×Value),ps[j]?=some p→∃t key,items[j]?=some (.ref t)∧s.heap.IsTuple t #[key,p.2]∧knd.is p.1 key=true)
  (h:∀h' x,h'.DictOf knd s.heap.objs.size (AU [] ps)→(∀b o,s.heap.get? b=some o→h'.get? b=some o)→Q (.ref s.heap.objs.size) {s with heap:=h',toks:=x}):
  wpAny (model prog w) A (call (.type "dict") [.ref l]) Q E s:=by
 refine vo (Q₁:=λobj g=>obj=.ref s.heap.objs.size∧g={s with heap:=s.heap.push {cls:=.type "dict",data:=.dict #[]}}) F.kt_called_dict (F.kt_typeCall_dict_1 _) F.entry_dict_init (kt_code_dict_new _ ⟨rfl,rfl⟩) ?_
 rintro obj g ⟨rfl,rfl⟩
 have c:(s.heap.push {cls:=.type "dict",data:=.dict #[]}).DictOf knd s.heap.objs.size []:=Heap.DictOf.new s.heap;refine⟨c.typeIs,F.args_dict_init_2 _ _,?_⟩;unfold k5.«dict.__init__»;refine f7 ?_;unfold jq;refine f7 (Dr c.typeIs ?_);show wpAny _ _ (pure (s.heap.objs.size,[Value.ref l])) _ _ _;refine i3 ?_;show wpAny _ _ (Q0 "dict.__init__" s.heap.objs.size (.ref l) [] .none) _ _ _;unfold Q0;have f:(s.heap.push {cls:=.type "dict",data:=.dict #[]}).get? l=some {cls:=.type "list",dict:=none,data:=.seq items n,slots:=sl}:=Heap.get?_push_of_some _ hl;have y:=Heap.lt_size hl;refine f7 (S7 (T:="list") ⟨_,f,rfl⟩ ?_);rw[if_pos (by decide)];refine f7 (kD (h:=s.heap.push {cls:=.type "dict",data:=.dict #[]}) (by exact L) f λB S a=>?_);rw[if_pos (show(none:Option Value).isNone=true from rfl)];refine f7 (GJ ?_);have k:=a _ _ f;refine f7 (K3 (items:=items) ⟨_,k,rfl,n,rfl⟩ ?_);refine i3 ⟨U7 F.n4 _,?_⟩;have G:B.get? s.heap.objs.size=some {cls:=.type "dict",data:=.dict #[]}:=a _ _ (Heap.get?_push_size _ rfl);have m:=Heap.lt_size G;have q:∀b o,s.heap.get? b=some o→(B.push {cls:=.type "list_iterator",data:=.fields #[.ref l,.int 0 0]}).get? b=some o:=λb o e=>Heap.get?_push_of_some _ (a _ _ (Heap.get?_push_of_some _ e));refine pH (knd:=knd) s.heap.objs.size B.objs.size l items ps (by exact L) (j7 y) (λz=>?_) (j7 m) .none i _ ps.length 0 [] _ rfl (u6 _) ?_ ?_ ?_ ?_ (by simpa using u) λh' x H I=>⟨rfl,?_⟩
 ·have:=Heap.lt_size (a _ _ f);rw[←z]at this;exact n0 _ this
 ·obtain⟨o,es,N,r,d⟩:=c;exact⟨o,es,N,Heap.get?_push_of_some _ (a _ _ r),d⟩
 ·exact⟨_,Heap.get?_push_size _ rfl,rfl,rfl⟩
 ·exact⟨_,Heap.get?_push_of_some _ k,rfl,n,rfl⟩
 ·intro j p O;obtain⟨t,key,P,⟨o,r,d⟩,R⟩:=v j p O;have J:=Heap.lt_size r;refine⟨t,key,P,j7 J,j7 (Heap.lt_size (a _ _ (Heap.get?_push_of_some _ r))),⟨o,q _ _ r,d⟩,R⟩
 ·refine h h' x (by simpa using H) λb o e=>?_;exact I b o (j7 (Heap.lt_size e)) (j7 (Heap.lt_size (a _ _ (Heap.get?_push_of_some _ e)))) (q b o e)
end
end PySem
namespace L3
open PySem PySem.Spec PyProof.Rows L2
noncomputable def ic (kvs a:List (Key×V)):List (Key×V):=a.foldl (λb p=>putK b p.1 p.2) kvs
noncomputable def dH (es ps:List (Key×D)):List (Key×D):=ps.foldl (λa p=>putD a p.1 p.2) es
theorem ii:∀{a:List (Key×V)} {ps:List (Key×Value)} {kvs:List (Key×V)} {vs:List (Key×Value)},KV a ps→KV kvs vs→KV (ic kvs a) (AU vs ps):=by
 intro a ps kvs vs h;unfold KV at h;induction h generalizing kvs vs with
 |nil=>intro r;exact r
 | @cons p q ps c b _ ih=>
  intro r;have e:KV (putK kvs p.1 p.2) (AS vs q.1 q.2):=by rw[←b.1];exact r.put p.1 b.2
  exact ih e
theorem nW {K:PySem.W.Frag}{G:Hp}{a:List (Key×V)}{ps:List (Key×D)}(h:m3 K G a ps):∀{kvs:List (Key×V)} {es:List (Key×D)},m3 K G kvs es→m3 K G (ic kvs a) (dH es ps):=by
 refine m3.ind (P:=λa ps=>∀{kvs:List (Key×V)} {es:List (Key×D)},m3 K G kvs es→m3 K G (ic kvs a) (dH es ps)) ?_ ?_ h
 ·intro kvs es r;exact r
 ·intro p e a ps hk hr _ ih kvs es r;have q:m3 K G (putK kvs p.1 p.2) (putD es e.1 e.2):=by rw[hk];exact r.put e.1 hr
  exact ih q
section
variable {X:Cx}{pins:List (Addr×Obj)}{σ:St}{H:Hp}{s:Shared}
theorem qe (I:Inv X pins σ H s):∀{prs:List (Key×V)} {ys:List V} {c:List Value},ys.length=prs.length→(∀(j:Nat) y pr,ys[j]?=some y→prs[j]?=some pr→∃t,y=.ref t∧bn X.K H t [kV pr.1,pr.2])→Vals ys c→
  ∃ps:List (Key×Value),KV prs ps∧∀(j:Nat) p,ps[j]?=some p→∃t key,c[j]?=some (.ref t)∧s.heap.IsTuple t #[key,p.2]∧(u1 X.prog X.w).is p.1 key=true
 | [],[],c,_,_,v=>by cases v;exact⟨[],.nil,λj p h=>by simp at h⟩
 | [],_::_,_,h,_,_=>by simp at h
 |_::_,[],_,h,_,_=>by simp at h
 |pr::prs,y::ys,c,hl,l,v=>by
  cases v with
  | @cons _ u _ us o v=>
   obtain⟨ps,g,i⟩:=qe I (prs:=prs) (ys:=ys) (by simpa using hl) (λj y pr a b=>l (j+1) y pr (by simpa using a) (by simpa using b)) v;obtain⟨t,rfl,q⟩:=l 0 y pr rfl rfl;cases o;obtain⟨m,d,r,_⟩:=I.tuple q;cases d with
   | @cons _ key _ x z d=>
    cases d with
    | @cons _ n _ A k d=>
     cases d;refine⟨(pr.1,n)::ps,.cons ⟨rfl,k⟩ g,λj p h=>?_⟩;cases j with
     |zero=>
      have e:(pr.1,n)=p:=by simpa using h
      subst e;exact⟨t,key,rfl,r,gM z⟩
     |succ j=>
      obtain⟨B,f,E,F,G⟩:=i j p (by simpa using h);exact⟨B,f,by simpa using E,F,G⟩
end
theorem iq {X:Cx}{K:PySem.W.Frag}(v:X.K=K)(x:X.calm=true):J2 X (.type "dict") (λxs H Q=>∃p g b,xs=[.ref p]∧P8 K H p g∧g.length=b.length∧(∀(j:Nat) y pr,g[j]?=some y→b[j]?=some pr→∃t,y=.ref t∧bn K H t [kV pr.1,pr.2])∧∀l,H l=none→Q (.ref l) (upd H l (.dK (ic [] b)))):=by
 subst v;intro pins s σ H xs us Q I r h;obtain⟨p,g,b,rfl,z,hl,A,q⟩:=h;obtain⟨u,rfl,B⟩:=vals1 r;cases B;obtain⟨E,m,F,T⟩:=I.list z;obtain⟨ps,c,i⟩:=qe I hl A m;obtain⟨⟨cls,U,data,sl⟩,n,G,d,f,hd⟩:=F;simp only at d hd f;subst d hd f;have Y:=c.length;have Z:=m.length;have J:(ic [] b).length≤sizeLine:=by
  have e:=(ii c (kvs:=[]) (vs:=[]) .nil).length;have L:=pw ([]:List (Key×Value)) ps;simp at L;omega
 refine jm (knd:=u1 X.prog X.w) ps (I.ok.hd x) G (by rw[List.size_toArray];omega) (by omega) (λj p N=>?_) λh' O k kp=>?_
 ·obtain⟨t,key,P,R,S⟩:=i j p N;exact⟨t,key,by simpa using P,R,S⟩
 ·exact⟨.ref s.heap.objs.size,_,I.laid (a:=s.heap.objs.size) (o:=.dK (ic [] b)) (t':=O) kp (g8 _) (kT J (beq_eq_false_iff_ne.mpr (w5 (j7 I.big))) (ii c .nil) k),rfl,q _ I.fresh⟩
noncomputable def pairD:D→Option (Key×D)
 |.tup [k,v]=>(keyOf k).map λk=>(k,v)
 |_=>none
noncomputable def V0:List D→Option (List (Key×D))
 | []=>some []
 |d::ds=>(pairD d).bind λp=>(V0 ds).map (p::·)
noncomputable def aE:List D→Option W
 | [.lst ds]=>(V0 ds).map λps=>.own (.dct (dH [] ps))
 |_=>none
theorem ud {K:PySem.W.Frag}{G H:Hp}(g:i8 G H):∀{ds:List D} {ps:List (Key×D)} {e:List V},V0 ds=some ps→n9 K G e ds→
  ∃b,m3 K G b ps∧e.length=b.length∧∀(j:Nat) y c,e[j]?=some y→b[j]?=some c→∃t,y=.ref t∧bn K H t [kV c.1,c.2]
 | [],ps,[],h,_=>by cases h;exact⟨[],.nil,rfl,λj y c h=>by simp at h⟩
 | [],_,_::_,_,r=>by have:=r.len;simp at this
 |_::_,_,[],_,r=>by have:=r.len;simp at this
 |d::ds,ps,y::e,h,r=>by
  have h':(pairD d).bind (λp=>(V0 ds).map (p::·))=some ps:=h;cases hd:pairD d with
  |none=>rw[hd]at h';cases h'
  |some o=>
   rw[hd]at h';obtain⟨q,s,rfl⟩:=g7.mp (show(V0 ds).map (o::·)=some ps from h');obtain⟨b,u,w,x⟩:=ud g s r.tail;unfold pairD at hd;split at hd
   ·rename_i k v;obtain⟨f,hk,rfl⟩:=g7.mp hd;have z:=r.head;cases z with
    | @tup a xs _ hs hl hr=>
     match xs,hl with
     | [l,i],_=>
      have A:=hr 0 l k rfl rfl;have B:=hr 1 i v rfl rfl;have E:l=kV f:=eC (G:=G) (H:=H) (.inl A) hk;subst E;refine⟨(f,i)::b,.cons rfl B u,by simp[w],λj y c m n=>?_⟩;cases j with
      |zero=>
       have F:V.ref a=y:=by simpa using m
       have I:(f,i)=c:=by simpa using n
       subst F I;exact⟨a,rfl,g.tup hs⟩
      |succ j=>exact x j y c (by simpa using m) (by simpa using n)
   ·cases hd
section
variable {X:Cx}{B:Bs}{e:Expr}{mr:M (List W)}{pos p:Pos}
theorem sK:fP B (λxs H Q=>∃p b a,xs=[.ref p]∧P8 B.K H p b∧b.length=a.length∧(∀(j:Nat) y pr,b[j]?=some y→a[j]?=some pr→∃t,y=.ref t∧bn B.K H t [kV pr.1,pr.2])∧∀l,H l=none→Q (.ref l) (upd H l (.dK (ic [] a)))) aE:=by
 intro G H σ ρ xs ds w Q R h e p
 match ds,e with
 | [.lst ds],e=>
  obtain⟨ps,c,rfl⟩:=g7.mp (show(V0 ds).map (λps=>W.own (.dct (dH [] ps)))=some w from e);obtain⟨x,rfl,d⟩:=G8 h;obtain⟨q,b,rfl,f,g⟩:=d.lst R.gH;obtain⟨a,i,k,m⟩:=ud R.gH c g;refine⟨q,b,a,rfl,f,k,m,λl hl=>?_⟩;obtain⟨R',n⟩:=R.ks hl (nW i m3.nil);exact p _ G _ (i8.refl _) R' n
theorem jI (b:X.calm=true)(c:X.mg "dict"=none) (d:fO X B [e] mr) (f:Gl X "dict":=by rfl) (g:X.K=B.K:=by rfl) (h:f9 [e] X.env=(false,eval e X.env)::f9 [] X.env:=by rfl) (a:(l8 pos (f9 [] X.env)).any (·.1)=false:=by rfl):PD X B (.Call (.Name "dict" p) [e] [] pos) (C4 aE mr):=
 lf (λξ=>iq (X:=rz X ξ) (K:=B.K) g b) sK f c lx d (by decide) (by decide) h a
end
section
variable {P:Program}{w:World}{K:PySem.W.Frag}{G G' H H':Hp}{h h':Heap}{a b p:Addr}{o:Obj}{kvs:List (Key×V)}
theorem FM (x:eM P w H h)(e:H a=some (.dK kvs))(g:h.get? a=some o):eM P w (upd H a (.cn o (.dK kvs))) h:=by
 have d:∀c b,H c=some (.own b)→upd H a (.cn o (.dK kvs)) c=some (.own b):=λc b r=>by
  rw[j6 (by rintro rfl;rw[e]at r;cases r)];exact r
 have f:∀c xs,H c=some (.tup xs)→upd H a (.cn o (.dK kvs)) c=some (.tup xs):=λc b r=>by
  rw[j6 (by rintro rfl;rw[e]at r;cases r)];exact r
 intro b u q;by_cases z:b=a
 ·subst z;rw[l9]at q;cases q;exact⟨g,(x _ _ e).stay (λc v _ r=>r) (λc r=>d c _ r) f⟩
 ·rw[j6 z]at q;exact(x b u q).stay (λc v _ r=>r) (λc r=>d c _ r) f
theorem FL (x:eM P w H h)(e:H a=some (.cn o (.dK kvs))):eM P w (upd H a (.dK kvs)) h:=by
 have d:∀c b,H c=some (.own b)→upd H a (.dK kvs) c=some (.own b):=λc b r=>by
  rw[j6 (by rintro rfl;rw[e]at r;cases r)];exact r
 have f:∀c xs,H c=some (.tup xs)→upd H a (.dK kvs) c=some (.tup xs):=λc b r=>by
  rw[j6 (by rintro rfl;rw[e]at r;cases r)];exact r
 intro b u q;by_cases z:b=a
 ·subst z;rw[l9]at q;cases q;obtain⟨_,q⟩:=x _ _ e;exact q.stay (λc v _ r=>r) (λc r=>d c _ r) f
 ·rw[j6 z]at q;exact(x b u q).stay (λc v _ r=>r) (λc r=>d c _ r) f
theorem GX {fs:List Addr}(u:Un fs [] (upd H a (.cn o (.dK kvs))) H' h h')(e:H a=some (.dK kvs)):Un fs [] H (upd H' a (.dK kvs)) h h':=by
 have ne:∀{b},H b=none→b≠a:=λq z=>by rw[z,e]at q;cases q
 refine⟨λb ob q n c d=>u.keep b ob q (by rw[j6 (ne n)];exact n) c d,λb ob q n c d=>u.slot b ob q (by rw[j6 (ne n)];exact n) c d,λb ob q n c=>?_,u.there,λb xs q=>?_,λb ob v q=>?_,λb ps q=>?_⟩
 ·rw[j6 (ne n)];exact u.free b ob q (by rw[j6 (ne n)];exact n) c
 ·have z:b≠a:=by rintro rfl;rw[e]at q;cases q
  rw[j6 z];exact u.tups b xs (by rw[j6 z];exact q)
 ·have z:b≠a:=by rintro rfl;rw[e]at q;cases q
  rw[j6 z];exact u.frzs b ob v (by rw[j6 z];exact q)
 ·have z:b≠a:=by rintro rfl;rw[e]at q;cases q
  rw[j6 z];exact u.tbls b ps (by rw[j6 z];exact q)
structure Sw (a:Addr) (kvs:List (Key×V)) (G G':Hp):Prop where
 out:∀b,b≠a→G' b=G b
 was:Rd G a (.dK kvs)
 now:Rd G' a (.dK kvs)
theorem Sw.rd {u:HO}(s:Sw a kvs G G')(h:Rd G b u)(z:b≠a):Rd G' b u:=by
 rcases h with h| ⟨o,h⟩
 ·exact .inl (by rw[s.out b z];exact h)
 ·exact .inr ⟨o,by rw[s.out b z];exact h⟩
theorem EB {u v:HO}(c:Rd G a u)(b:Rd G a v)(d:∀o x,u≠.cn o x)(e:∀o x,v≠.cn o x):u=v:=by
 rcases c with c| ⟨f,c⟩<;>rcases b with b| ⟨g,b⟩<;>rw[c]at b
 ·exact i9 b
 ·exact absurd (i9 b) (d _ _)
 ·exact absurd (i9 b).symm (e _ _)
 ·cases b;rfl
theorem Sw.ne {u:HO}(s:Sw a kvs G G')(h:Rd G b u)(n:∀o x,u≠.cn o x)(c:u≠.dK kvs):b≠a:=by
 rintro rfl
 exact c (EB h s.was n (by intro o x z;cases z))
theorem Sw.tup {xs:List V}(s:Sw a kvs G G')(h:bn K G b xs):bn K G' b xs:=by
 rcases h with h|h
 ·exact .inl (s.rd h (s.ne h (by intro o x z;cases z) (by intro z;cases z)))
 ·exact .inr h
theorem Sw.lst {xs:List V}(s:Sw a kvs G G')(h:P8 K G b xs):P8 K G' b xs:=by
 rcases h with h|h
 ·exact .inl (s.rd h (s.ne h (by intro o x z;cases z) (by intro z;cases z)))
 ·exact .inr h
theorem Sw.dct {c:List (Key×V)}(s:Sw a kvs G G')(h:Rd G b (.dK c)):Rd G' b (.dK c):=by
 by_cases z:b=a
 ·subst z;rw[yg h s.was];exact s.now
 ·exact s.rd h z
theorem Sw.rep (s:Sw a kvs G G'){v:V}{d:D}(h:Rep K G v d):Rep K G' v d:=by
 induction h with
 |v1=>exact .v1
 |bl b=>exact .bl b
 |int i=>exact .int i
 |str cs=>exact .str cs
 |ty n=>exact .ty n
 |tup h hl _ ih=>exact .tup (s.tup h) hl ih
 |lst h hl _ ih=>exact .lst (s.lst h) hl ih
 |dct h hk _ ih=>exact .dct (s.dct h) hk ih
theorem Sw.JY (s:Sw a kvs G G'){xs:List V}{ds:List D}(h:n9 K G xs ds):n9 K G' xs ds:=⟨h.len,λj x d a b=>s.rep (h.get j x d a b)⟩
theorem Sw.DC (s:Sw a kvs G G'){xs:List (Key×V)}{ds:List (Key×D)}(h:m3 K G xs ds):m3 K G' xs ds:=⟨h.keys,λj x d a b=>s.rep (h.get j x d a b)⟩
theorem Sw.own (s:Sw a kvs G G'){d:D}(e:H' p=H p)(h:A6 K G H p d):A6 K G' H' p d:=by
 cases d with
 |lst ds=>obtain⟨xs,q,r⟩:=h;exact⟨xs,by rw[e];exact q,s.JY r⟩
 |dct es=>obtain⟨xs,q,r⟩:=h;exact⟨xs,by rw[e];exact q,s.DC r⟩
 |_=>exact(show False from h).elim
theorem Sw.args (s:Sw a kvs G G')(b:∀p,G p=none→G' p=none)(c:∀p,G p=none→H' p=H p):∀{ms:List Bool} {vs:List V} {ds:List D} {ps:List Addr},U6 K G H ms vs ds ps→U6 K G' H' ms vs ds ps
 |_,_,_,_,.nil=>.nil
 |_,_,_,_,.sh h r=>.sh (s.rep h) (Sw.args s b c r)
 |_,_,_,_,.ln g o n r=>.ln (b _ g) (s.own (c _ g) o) n (Sw.args s b c r)
end
noncomputable def zE (i:Nat)(ρ:k0):k0:=match ρ[i]? with
 |some (some (.sh (.dct es)))=>ρ.set i (some (.fz es))
 |_=>ρ
noncomputable def iG (m:SM)(n:Nat)(ms:List Bool)(i:Nat)(ds:List D):Option FR:=(m (zE i (A7 n ms ds))).bind (rX ms)
noncomputable def tF (K:PySem.W.Frag)(ms:List Bool)(i:Nat)(b:List D→Option FR):Sp:=λvs H Q E=>∃G ds ps r,i8 G H∧U6 K G H ms vs ds ps∧(∃a o kvs es,vs[i]?=some (.ref a)∧G a=some (.cn o (.dK kvs))∧ds[i]?=some (.dct es)∧m3 K G kvs es)∧b ds=some r∧match r with
 |.ret w fin=>∀v G' H',After K G H ps G' H' fin→pf K H G' H' v w→Q v H'
 |.exc _ _=>False
theorem ip:∀{ms:List Bool} {ds:List D} {i:Nat} {m:Bool} {d:D},ms[i]?=some m→ds[i]?=some d→(cells ms ds)[i]?=some (jK m d)
 |m::ms,d::ds,0,_,_,a,b=>by simp at a b;subst a b;rfl
 |m::ms,d::ds,i+1,_,_,a,b=>by
  show(cells ms ds)[i]?=_;exact ip (by simpa using a) (by simpa using b)
 | [],_,_,_,_,a,_=>by simp at a
 |_::_,[],_,_,_,_,b=>by simp at b
theorem RS.JF {B:Bs}{G H:Hp}{σ:St}{ρ:k0}{i:Nat}{es:List (Key×D)}(R:RS B G H σ ρ)(hi:ρ[i]?=some (some (.sh (.dct es))))(m:∃a o kvs,σ[i]?=some (some (.ref a))∧G a=some (.cn o (.dK kvs))∧m3 B.K G kvs es):RS B G H σ (ρ.set i (some (.fz es))):=by
 have d:i<ρ.length:=(List.getElem?_eq_some_iff.mp hi).1;refine⟨R.hk,R.keep,R.g0,R.gH,R.gnew,R.dom,by simp[R.len],λj e c=>?_,λj l e c=>?_,λj k l e n p q a b=>?_,λj f c=>?_,R.ob.jd (by intro _ h;cases h<;>rfl) (by intro _ h;cases h)⟩
 ·by_cases z:i=j
  ·subst z;rw[List.getElem?_set_self d]at c;cases c
  ·rw[List.getElem?_set_ne z]at c;exact R.sh j e c
 ·by_cases z:i=j
  ·subst z;rw[List.getElem?_set_self d]at c;cases c
  ·rw[List.getElem?_set_ne z]at c;exact R.ow j l e c
 ·by_cases z:i=j
  ·subst z;rw[List.getElem?_set_self d]at a;cases a
  ·by_cases g:i=k
   ·subst g;rw[List.getElem?_set_self d]at b;cases b
   ·rw[List.getElem?_set_ne z]at a;rw[List.getElem?_set_ne g]at b;exact R.inj j k l e n p q a b
 ·by_cases z:i=j
  ·subst z;rw[List.getElem?_set_self d]at c;cases c;exact m
  ·rw[List.getElem?_set_ne z]at c;exact R.fz j f c
section
variable {P:Program}{w:World}{K:PySem.W.Frag}{mg:Str→Option Value}{base:Heap}
theorem FN {x:Str}{st:Stmt}{f:Addr}{fd:FuncData}{N ps:List Str}{ms:List Bool}{k i:Nat}{m:SM}(F:bo K x x st f fd)(S:m7 N ps (j3 st))(X:ms.length=ps.length)(y:ms[i]?=some false)
  (n:∀(cdv:Value) (A:Around) (outer:List Env) (s:Shared) (H:Hp) (E:XK) (H0 HK G0:Hp) (L:Nat→Option Addr),O6 k (A.deeper (bM x (j3 st) s.heap.objs.size f cdv))→
   iu (lg W0 P w K mg base N x (j3 st) f cdv A outer s H E) ⟨K,H0,HK,G0,L,none⟩ (F9 st) m):x2 P w K mg base W0 (k+1) f fd ps (tF K ms i (iG m N.length ms i)):=by
 have B:ps.length≤N.length:=by have:=congrArg List.length S.pre;rw[List.length_take]at this;omega
 refine F.ok S (λvs H Q E h=>?_) (λcdv A outer s H vs Q E hr h=>?_)
 ·obtain⟨G,ds,t,r,_,a,_⟩:=h;rw[a.len.1,X]
 obtain⟨G,ds,t,r,g,a,⟨a0,o0,kvs,es,I,J,O,R⟩,u,q⟩:=h;refine⟨_,((n cdv A outer s H E H (minus H t) G (R7 ms t) hr).ap λ_ _ _=>False).ah (λe s z=>?_),?_⟩
 ·obtain⟨_,_,_,_,_,_,z⟩:=z;exact z
 have T:=kj (N:=N) g a (by rw[a.len.1,X];exact B);have j:(A7 N.length ms ds)[i]?=some (some (.sh (.dct es))):=by
  have Y:=ip y O;unfold A7;rw[List.getElem?_append_left (List.getElem?_eq_some_iff.mp Y).1,Y];rfl
 have R0:=T.JF j ⟨a0,o0,kvs,R9 I,J,R⟩;have hE:zE i (A7 N.length ms ds)=(A7 N.length ms ds).set i (some (.fz es)):=by unfold zE;rw[j]
 unfold iG at u;rw[hE]at u;cases hs:m ((A7 N.length ms ds).set i (some (.fz es)))with
 |none=>rw[hs]at u;cases u
 |some U=>
  rw[hs]at u;have c:rX ms U=some r:=u;refine⟨G,_,R0,U,hs,?_⟩;have fin:∀{ρ':k0} {l:St} {G' H':Hp} {b:List D},bG ms ρ'=some b→RS ⟨K,H,minus H t,G,R7 ms t,none⟩ G' H' l ρ'→After K G H t G' H' b:=λ{ρ' l G' H' b} e R'=>
   ⟨R'.keep,R'.g0,R'.gH,R'.gnew,R'.dom,eG (λ_=>rfl) R' a 0 ρ' b (λi=>by rw[M5]) (λi=>by rw[M5]) e⟩
  cases U with
  |nx ρ'=>
   obtain⟨b,e,rfl⟩:=g7.mp c;exact λl G' H' Z R'=>q .v1 G' H' (fin e R') .v1
  |rt w' ρ'=>
   cases w' with
   |slot i=>cases c
   |val d=>
    obtain⟨b,e,rfl⟩:=g7.mp c;exact λv l G' H' Z R' o=>q v G' H' (fin e R') o
   |own d=>
    obtain⟨b,e,rfl⟩:=g7.mp c;exact λv l G' H' Z R' o=>q v G' H' (fin e R') (let⟨p,a1,a2,a3,a4,_⟩:=o;⟨p,a1,a2,a3,a4⟩)
  |ex x ρ'=>
   obtain⟨b,e,rfl⟩:=g7.mp c;exact q.elim
  |bk ρ'=>cases c
  |ct ρ'=>cases c
theorem Gj {G H:Hp}{ms:List Bool}{vs:List V}{ds:List D}{ps:List Addr}{i:Nat}{d:D}(r:U6 K G H ms vs ds ps)(a:ms[i]?=some false)(b:ds[i]?=some d):∃v,vs[i]?=some v∧Rep K G v d:=by
 obtain⟨v,e,h⟩:=U2 r (ip a b);rcases h with⟨c,q,h⟩ | ⟨p,c,q,_⟩
 ·cases q;exact⟨v,e,h⟩
 ·cases q
theorem JG {f:Addr}{fd:FuncData}{ps:List Str}{ms:List Bool}{k i:Nat}{X:List D→Option FR}(F:x2 P w K mg base W0 k f fd ps (tF K ms i X))(hm:ms.length=ps.length)(Y:ms[i]?=some false)(hd:∀ds r,X ds=some r→∃es,ds[i]?=some (.dct es)):
  x2 P w K mg base W0 k f fd ps (E3 K ms X):=by
 refine⟨λvs H Q E h=>?_,λA outer s H args us vs Q E hr c hb hv h=>?_⟩
 ·obtain⟨G,ds,Z,r,_,a,_⟩:=h;rw[a.len.1,hm]
 obtain⟨G,ds,Z,r,g,ar,hf,q⟩:=h;obtain⟨es,t⟩:=hd ds r hf;obtain⟨v,L,N⟩:=Gj ar Y t;cases N with
 | @dct a kvs _ a0 hk O=>
  rcases a0 with B| ⟨o,B⟩
  ·have R:=g _ _ B;obtain⟨U,z2,a1,z3,o,a2,ep,ho,z4⟩:=(show I7 P w H s.heap a (.dK kvs)from c.hok a _ R)
   have ne:∀{b},H b=none→b≠a:=λq z=>by rw[z,R]at q;cases q
   have S:∀{b},G b=none→b≠a:=λq z=>by rw[z,B]at q;cases q
   have e1:rf P w K mg base A outer s (upd H a (.cn o (.dK kvs))):=⟨c.frames,c.mod,λb ob q=>⟨(c.bs b ob q).1,by rw[j6 (ne (c.bs b ob q).2)];exact(c.bs b ob q).2⟩,c.bsz,c.gQ,λb q=>by rw[j6 (ne (c.frf b q))];exact c.frf b q,FM c.hok R ho,c.bare⟩
   have sw:Sw a kvs G (upd G a (.cn o (.dK kvs))):=⟨λb z=>j6 z,.inl B,.inr ⟨o,l9⟩⟩
   have gs:i8 (upd G a (.cn o (.dK kvs))) (upd H a (.cn o (.dK kvs))):=λb u q=>by
    by_cases z:b=a
    ·subst z;rw[l9]at q⊢;exact q
    ·rw[j6 z]at q⊢;exact g b u q
   refine Y1 (F.run A outer s (upd H a (.cn o (.dK kvs))) args us vs (λv H'=>Q v (upd H' a (.dK kvs))) E hr e1 hb hv ⟨upd G a (.cn o (.dK kvs)),ds,Z,r,gs,sw.args (λp z=>by rw[j6 (S z)];exact z) (λp z=>j6 (S z)) ar,⟨a,o,kvs,es,L,l9,t,sw.DC ⟨hk,O⟩⟩,hf,?_⟩) λT s' l=>?_
   ·cases r with
    |exc x fin=>exact q
    |ret w' fin=>
     intro v G' H' n T;have I:G' a=some (.cn o (.dK kvs)):=n.gg a _ l9;have a3:H' a=some (.cn o (.dK kvs)):=n.gH a _ I;have J:Sw a kvs G' (upd G' a (.dK kvs)):=⟨λb z=>j6 z,.inr ⟨o,I⟩,.inl l9⟩
     have m:∀{b},G' b=none→b≠a:=λq z=>by rw[z,I]at q;cases q
     refine q v (upd G' a (.dK kvs)) (upd H' a (.dK kvs)) ⟨λb u e=>?_,λb u e=>?_,λb u e=>?_,λb u e=>?_,λb e=>?_,?_⟩ ?_
     ·by_cases z:b=a
      ·subst z;have:=N2 _ _ _ _ e;rw[R]at this;rw[l9];exact this
      ·rw[j6 z];refine n.keep b u ?_;unfold minus at e⊢;split at e
       ·cases e
       ·rename_i hn;rw[if_neg hn,j6 z];exact e
     ·by_cases z:b=a
      ·subst z;rw[B]at e;rw[l9];exact e
      ·rw[j6 z];exact n.gg b u (by rw[j6 z];exact e)
     ·by_cases z:b=a
      ·subst z;rw[l9]at e⊢;exact e
      ·rw[j6 z]at e⊢;exact n.gH b u e
     ·by_cases z:b=a
      ·subst z;rw[l9]at e;rw[B];exact .inl e
      ·rw[j6 z]at e;rcases n.gnew b u e with y|y
       ·rw[j6 z]at y;exact .inl y
       ·rw[j6 z]at y;exact .inr y
     ·by_cases z:b=a
      ·subst z;rw[l9]at e;cases e
      ·rw[j6 z]at e;have y:=n.dom b e;rw[j6 z]at y;exact y
     ·exact L2.Paired.imp' (λp d ⟨U,z2⟩=>⟨by rw[j6 (m U)];exact U,J.own (j6 (m U)) z2⟩) n.lent
     ·cases w' with
      |val d=>exact J.rep T
      |slot j=>exact T.elim
      |own d=>
       obtain⟨p,rfl,y1,y2,y3⟩:=T;have zp:p≠a:=m y1;refine⟨p,rfl,by rw[j6 zp];exact y1,by rw[j6 zp]at y2;exact y2,J.own (j6 zp) y3⟩
   ·cases T with
    |error e=>exact l
    |ok fl=>
     cases fl with
     |ret u=>
      obtain⟨v,H',b1,b2,b3,b4,b5,b6⟩:=l;exact⟨v,upd H' a (.dK kvs),b1,b2,GX b3 R,FL b4 (b3.frzs a o _ l9),b5,b6⟩
     |next=>exact l
     |brk=>exact l
     |cont=>exact l
  ·exact F.run A outer s H args us vs Q E hr c hb hv ⟨G,ds,Z,r,g,ar,⟨a,o,kvs,es,L,B,t,⟨hk,O⟩⟩,hf,q⟩
end
noncomputable def KA (a:Addr)(o:Obj)(kvs:List (Key×V)):It:=
 ⟨λi H=>H a=some (.cn o (.dK kvs))∧i<kvs.length,λi H x H'=>H'=H∧∃kv,kvs[i]?=some kv∧x=kV kv.1,λi H=>H a=some (.cn o (.dK kvs))∧kvs.length≤i⟩
theorem Cr {k:Key}{v:Value}(h:gL k v=true):RelV (kV k) v:=by
 rcases x3 h with⟨i,t,rfl,rfl⟩ | ⟨x,t,rfl,rfl⟩
 ·exact⟨t,rfl⟩
 ·exact⟨t,rfl⟩
theorem vC {P:Program}{w:World}{K:PySem.W.Frag}{tg:Expr}(a it:Addr)(o:Obj)(kvs:List (Key×V))(B:Nat)(r:∃es,o.data=.dict es B):Turn P w K tg (KA a o kvs) [it] it (λi h=>h.IsKeyIter it a i kvs.length B) where
 mem:=by simp
 obj:=λi h st b l=>by
  have e:b=it:=by simpa using l
  subst e;obtain⟨o,e,c,d⟩:=st;exact⟨o,e,λv z=>by rw[d]at z;cases z⟩
 keep:=λi h h' st k=>by
  obtain⟨o,e,c,d⟩:=st;exact⟨o,k it (by simp) o e,c,d⟩
 item:=by
  intro X G J L hc i pins s σ H E I F st N;subst G J L;obtain⟨O,Q⟩:=N;obtain⟨t,z1,z2,vs,j,o',m,f,g,R,n,S⟩:=(show I7 X.prog X.w H s.heap a (.cn o (.dK kvs))from I.hok a _ O)
  obtain⟨es,p⟩:=r;have T:o'=o:=by rw[t]at g;exact(i9 g).symm
  subst T;have q:f=B:=by rw[p]at n;cases n;rfl
  subst q;have hl:=j.length;have U:s.heap.DictAt (u1 X.prog X.w) a vs f:=⟨o',m,t,R,n,S⟩
  obtain⟨f0,f1,f2,Y,Z,f5⟩:=F it (by simp);have u:vs[i]?=some vs[i]:=List.getElem?_eq_getElem (by omega);have x:kvs[i]?=some kvs[i]:=List.getElem?_eq_getElem Q;have a0:kvs[i].1=vs[i].1:=(fC j x u).1;refine wpAny_pyNext_dict_item (kvs:=vs) (k:=vs[i].1) (v:=vs[i].2) (by rw[←hl];exact st) U (by rw[u]) λkey h' y A sb=>?_;have I1:Inv X pins σ H {s with heap:=h'}:=I.turned (t':=s.toks) (λb o l e=>(sb.2 b l).trans e) f0 f1 Y Z f5;obtain⟨oi,e,c,d⟩:=id A;refine⟨key,rfl,dP (s:={s with heap:=h'}) e c d (by decide) ⟨kV kvs[i].1,H,I1,?_,⟨rfl,kvs[i],x,rfl⟩,by rw[hl];exact A,λb l=>(F b l).1⟩⟩;rw[a0];exact Cr y
 done:=by
  intro X G J L hc i pins s σ H E I F st N;subst G J L;obtain⟨O,a1⟩:=N;obtain⟨t,z1,z2,vs,j,o',m,f,g,R,n,S⟩:=(show I7 X.prog X.w H s.heap a (.cn o (.dK kvs))from I.hok a _ O)
  obtain⟨es,p⟩:=r;have T:o'=o:=by rw[t]at g;exact(i9 g).symm
  subst T;have q:f=B:=by rw[p]at n;cases n;rfl
  subst q;have hl:=j.length;have U:s.heap.DictAt (u1 X.prog X.w) a vs f:=⟨o',m,t,R,n,S⟩
  obtain⟨f0,f1,f2,Y,Z,f5⟩:=F it (by simp);exact wpAny_pyNext_dict_end (I.ok.hd hc) (kvs:=vs) (by rw[←hl];exact st) U (List.getElem?_eq_none (by omega)) λh' eb=>⟨rfl,I.turned (t':=s.toks) (λb o l e=>eb b o l e) f0 f1 Y Z f5⟩
 self:=λ_ _ _ _ _ st h=>wpAny_pyIter_keyiter st h
section
variable {X:Cx}{tg:Expr}
theorem BM {l:Expr}{m:TE}(hl:PE X l m):PI X tg l (λσ H R=>m σ H λx c=>∃a o kvs,x=.ref a∧c a=some (.cn o (.dK kvs))∧R (KA a o kvs) c):=by
 intro pins s σ H R I h;refine F0 (hl pins s σ H _ I h) λv s1 ⟨x,c,i,j,a,o,kvs,ex,r,q⟩=>?_;subst ex;cases j;obtain⟨n,A,t,vs,k,o',d,ep,f,j,p,u⟩:=(show I7 X.prog X.w c s1.heap a (.cn o (.dK kvs))from i.hok a _ r)
 have y:o'=o:=by rw[n]at f;exact(i9 f).symm
 subst y;have g:=k.length;refine wpAny_pyIter_dict (knd:=u1 X.prog X.w) (kvs:=vs) (ep:=ep) t ⟨o',d,n,j,p,u⟩ ?_;refine⟨s1.heap.objs.size,[s1.heap.objs.size],_,_,c,rfl,i.kept (t':=s1.toks) λb o e=>Heap.get?_push_of_some _ e,vC a _ o' kvs ep ⟨d,p⟩,?_,λb z=>?_,q⟩
 ·rw[g];exact⟨_,Heap.get?_push_size _ rfl,rfl,rfl⟩
 ·have e:b=s1.heap.objs.size:=by simpa using z
  subst e;exact i.wQ (g8 _) (i.hok.fresh (g8 _))
end
noncomputable def iP (k:Key):D:=match k with
 |.inl i=>D.int i
 |.inr x=>D.str x.cps.toList
noncomputable def mP (i:Nat):M (List D):=λρ=>match ρ[i]? with
 |some (some (.fz es))=>some (.ok (es.map λe=>iP e.1) ρ)
 |_=>none
theorem By {K:PySem.W.Frag}{G:Hp}(k:Key):Rep K G (kV k) (iP k):=by
 cases k with
 |inl i=>exact .int i
 |inr x=>exact jx x
section
variable {X:Cx}{B:Bs}{tg:Expr}
theorem FK (i:Nat){x:Str}{pos:Pos}(n:X.N[i]?=some x:=by rfl)(q:eR X.env.scope x:=by first|exact Or.inl rfl|exact Or.inr (Or.inl rfl) |exact Or.inr (Or.inr rfl))(hd:(x==("__debug__":Str))=false:=by decide) (c:(x==("__classdict__":Str))=false:=by decide):Dm X B tg (.Name x pos) (mP i):=.mk λξ=>
 (BM (bv (X:=rz X ξ) (i:=i) (pos:=pos) n q hd c)).imp λσ H w t=>by
  obtain⟨G,ρ,r,R,e,p⟩:=t;unfold mP at e;split at e
  ·rename_i es s;cases e;obtain⟨a,o,kvs,u,d,f⟩:=R.fz i es s;refine⟨.ref a,u,a,o,kvs,rfl,R.gH _ _ d,p (KA a o kvs) G H (i8.refl _) R ⟨λl m j s1 s2 g=>?_,λl m s1 s2=>?_,λl m z j y s1 s2 g v=>?_⟩⟩
   ·refine⟨s2 _ _ (s1 _ _ d),?_⟩;rw[List.length_map,←f.len]at g;exact g
   ·refine⟨s2 _ _ (s1 _ _ d),?_⟩;rw[List.length_map,←f.len];exact g8 _
   ·obtain⟨rfl,kv,hk,rfl⟩:=v;have b:(kvs.map (·.1))[j]?=some kv.1:=by rw[List.getElem?_map,hk];rfl
    rw[f.keys,List.getElem?_map]at b;obtain⟨e,h,k⟩:=g7.mp b;refine⟨rfl,iP kv.1,?_,By _⟩;rw[List.getElem?_map,h];show some (iP e.1)=_;rw[k]
  ·cases e
end
theorem bR {K:PySem.W.Frag}{G:Hp}{x:Str}{cs:List Nat}(h:x.cps.toList=cs):Rep K G (.str x) (.str cs):=by
 subst h;exact jx x
theorem tF.imp {K:PySem.W.Frag}{ms:List Bool}{i:Nat}{f e:List D→Option FR}(h:∀ds r,f ds=some r→e ds=some r):∀vs H Q E,tF K ms i f vs H Q E→tF K ms i e vs H Q E:=by
 rintro vs H Q E ⟨G,ds,ps,r,a,b,b2,c,d⟩
 exact⟨G,ds,ps,r,a,b,b2,h ds r c,d⟩
section
variable {tg:FT}{b:SM}{c:M Bool}{ρ ρ1 ρ2:k0}{d:D}{ds:List D}{w:W}{n i j:Nat}{r:Option SR}{es:List (Key×D)}
theorem uK:forL tg b [] ρ=some (.nx ρ):=rfl
theorem N5 (a:tg d ρ=some ρ1)(c:b ρ1=some (.nx ρ2))(e:forL tg b ds ρ2=r):forL tg b (d::ds) ρ=r:=by
 unfold forL;rw[a];simp only[c];exact e
theorem sS (a:tg d ρ=some ρ1)(c:b ρ1=some (.rt w ρ2)):forL tg b (d::ds) ρ=some (.rt w ρ2):=by
 unfold forL;rw[a];simp only[c]
theorem AZ (a:c ρ=some (.ok false ρ1)):B4 c b (n+1) ρ=some (.nx ρ1):=by
 unfold B4;rw[u0 a];rfl
theorem fW (a:c ρ=some (.ok true ρ1))(d:b ρ1=some (.nx ρ2))(h:B4 c b n ρ2=r):B4 c b (n+1) ρ=r:=by
 unfold B4;rw[u0 a];show(match b ρ1 with|some (.nx ρ2)=>B4 c b n ρ2|some (.ct ρ2)=>B4 c b n ρ2|some (.bk ρ2)=>some (.nx ρ2) |r=>r)=r;rw[d];exact h
theorem js (a:c ρ=some (.ok true ρ1))(d:b ρ1=some (.rt w ρ2)):B4 c b (n+1) ρ=some (.rt w ρ2):=by
 unfold B4;rw[u0 a];show(match b ρ1 with|some (.nx ρ2)=>B4 c b n ρ2|some (.ct ρ2)=>B4 c b n ρ2|some (.bk ρ2)=>some (.nx ρ2) |r=>r)=_;rw[d]
theorem CK (h:ρ[i]?=some (some (.fz es))):mP i ρ=some (.ok (es.map λe=>iP e.1) ρ):=by
 unfold mP;rw[h]
theorem ua {den:SM}{ms:List Bool}{a:SR}{fr:FR}(h:den (zE i (A7 n ms ds))=some a)(b:rX ms a=some fr):iG den n ms i ds=some fr:=by unfold iG;rw[h];exact b
end
noncomputable def BA:V→List V→Hp→VK→Prop:=λx vs H Q=>∃l xs k y,x=.ref l∧vs=[.int ((k:Nat):Int),y]∧H l=some (.lst xs)∧xs.length<sizeLine∧k≤1000000∧Q .v1 (upd H l (.lst (xs.take k++y::xs.drop k)))
theorem pE {y:V}{u:Value}(b:RelV y u):∀{xs:List V} {a:List Value} (k:Nat),Vals xs a→Vals (xs.take k++y::xs.drop k) (a.take k++u::a.drop k)
 |_,_,0,r=>.cons b r
 |_,_,k+1,.nil=>.cons b .nil
 |_,_,k+1,.cons c d=>.cons c (pE b k d)
theorem Ct (a:List Value)(k:Nat)(u:Value):(a.toArray.extract 0 (min k a.toArray.size)).push u++a.toArray.extract (min k a.toArray.size)=(a.take k++u::a.drop k).toArray:=by
 apply Array.toList_inj.mp;by_cases h:k≤a.length
 ·simp[nC h];exact List.take_of_length_le (by rw[List.length_drop];omega)
 ·have h':a.length≤k:=by omega
  simp[lC h',List.drop_of_length_le h',List.take_of_length_le h']
theorem wl {X:Cx}:Kz X "list.insert" BA:=by
 intro pins s σ H x vs v us Q I g i h;obtain⟨l,xs,k,y,rfl,rfl,f,B,hk,q⟩:=h;cases g;obtain⟨E,c,rfl,j,o⟩:=vals2 i;obtain⟨p,rfl⟩:=j;obtain⟨z,a,n,r,hl,e⟩:=I.HX f;have b:¬(!k5.List.listFitsIndex ((k:Nat):Int))=true:=by
  unfold Ls;have t:(-(2 ^ 63:Int)≤((k:Nat):Int)):=by omega
  have u:(((k:Nat):Int)<2 ^ 63):=by omega
  rw[decide_eq_true t,decide_eq_true u];exact D5
 have d:a.toArray.size≤sizeLine:=by rw[List.size_toArray];omega
 generalize w:((k:Nat):Int)=x at *;have m:=PySem.AutoSeq1.list_insert_list_int_val_1 l a.toArray n x p c b d;refine vn F.slot_list_insert ⟨_,e,rfl⟩ F.entry_list_insert (F.args_list_insert_3 _ _ _) m ⟨e,?_⟩;refine⟨.v1,_,I.HY (its':=a.take k++c::a.drop k) f e ?_ (pE o k r) ?_,rfl,q⟩
 ·subst w;have A:¬(((k:Nat):Int)<0):=by omega
  simp only[if_neg A,G7];exact Ct a k c
 rw[List.length_append,List.length_cons,List.length_take,List.length_drop];omega
noncomputable def gO (i:Nat)(n:Int)(d:D):M W:=λρ=>match ρ[i]? with
 |some (some (.ow l (.lst ds)))=>cm (small ds.length∧0≤n∧n≤1000000) (some (.ok (.val .v1) (ρ.set i (some (.ow l (.lst (ds.take n.toNat++d::ds.drop n.toNat)))))))
 |_=>none
noncomputable def wP (w:W):M Int:=λρ=>match getD w ρ with
 |some (.int n)=>some (.ok n ρ)
 |_=>none
theorem uI {w:W}{ρ:k0}{r:R' Int}(h:wP w ρ=some r):∃n,getD w ρ=some (.int n)∧r=.ok n ρ:=by
 unfold wP at h;split at h
 ·rename_i n e;cases h;exact⟨n,e,rfl⟩
 ·cases h
noncomputable def gD (i:Nat)(m:M (List W)):M W:=M.bind (f8 i) λx=>M.bind (vc "list" x) λ_=>M.bind m λa=>match a with
 | [b,w]=>M.bind (wP b) λn=>M.bind (D0 w) (gO i n)
 |_=>λ_=>none
section
variable {X:Cx}{B:Bs}{o e e2:Expr}{es:List Expr}{mr:M (List W)}{apos cpos opos:Pos}{x:Str}
theorem yf {K:PySem.W.Frag}{G:Hp}{v:V}{d:D}(a:Rep K G v d):∀{xs:List V} {ds:List D} (k:Nat),n9 K G xs ds→n9 K G (xs.take k++v::xs.drop k) (ds.take k++d::ds.drop k):=by
 intro xs ds k r;exact(r.take k).append (.cons a (r.drop k))
theorem qQ (i:Nat)(P:PD X B o (f8 i))(S:fO X B [e,e2] mr)
  (c:y7 o "insert" X.env (eval o X.env)=eval o X.env:=by rfl)
  (j:((l8 cpos (f9 [e,e2] X.env)).all (λx=>!x.1)&&(z6 cpos (o7 [] X.env)).all (λx=>x.1.isSome)
   && decide (([e,e2]:List Expr).length+([]:List Keyword).length+(if([]:List Keyword).isEmpty then 0 else 1)<30))=true:=by rfl)
  (f:(apos.endLine==cpos.line)=true:=by rfl) (hs:f9 [e,e2] X.env=(false,eval e X.env)::f9 [e2] X.env:=by rfl) (b:(l8 cpos (f9 [e2] X.env)).any (·.1)=false:=by rfl) (T:X.K=B.K:=by rfl):
  PD X B (.Call (.Attribute o "insert" apos) [e,e2] [] cpos) (gD i mr):=.mk λξ=>
 (uc (X:=rz X ξ) PySem.F.plainAttrs_list PySem.F.slot_list_insert PySem.F.type_list_insert wl (P.ap ξ) (S.ap ξ) c j f hs b).imp λσ H Q t=>by
  obtain⟨G,ρ,R,t⟩:=t;refine(TD.At (rel:=C2) R t).mono λx U ⟨G1,Y,w,a,s1,k,E,Z⟩=>?_;obtain⟨rfl,rfl⟩:=dI a;have I:σ[i]?=some (some x):=E;obtain⟨u,m,e2,t3⟩:=Z.step λr h=>⟨(),_,(dZ h).1⟩;obtain⟨e3,d,hd,ty⟩:=dZ e2;cases e3;refine⟨by show GD X.K "list" x U;rw[T];exact rB k (E.get k hd) ty,?_⟩;refine(TD.bind (rel:=M3) k t3).mono λvs H2 ⟨G2,m,ws,s2,R2,q,s⟩=>?_
  match ws,q,s with
  | [],_,⟨r,a,_⟩=>cases a
  | [_],_,⟨r,a,_⟩=>cases a
  |_::_::_::_,_,⟨r,a,_⟩=>cases a
  | [wi,w],q,s=>
   cases q with
   | @cons J _ vs _ h1 t1=>
    cases t1 with
    | @cons v _ vs _ h t=>
     cases t;obtain⟨n,L,e0,t5⟩:=s.step λr h=>by
      obtain⟨n,_,e⟩:=uI h;exact⟨n,_,e⟩
     obtain⟨n',y,z⟩:=uI e0;cases z;obtain⟨dv,a0,e4,r,a,p⟩:=t5.step λr h=>Z0 h;obtain⟨G3,s3,N,rv⟩:=h.1.D0 R2 e4;unfold gO at a;split at a
     ·rename_i l ds hi;obtain⟨⟨hz,A,a1⟩,a⟩:=o4 a;cases a;obtain⟨pp,rfl,g,xs,hx,O⟩:=slot_of N hi I;have hn:J=.int ((n.toNat:Nat):Int):=by
       have:J=.int n:=(h1.1.get R2 y).int;rw[this,Int.toNat_of_nonneg A]
      refine⟨pp,xs,n.toNat,v,rfl,by rw[hn],hx,?_,by omega,?_⟩
      ·rw[O.len,u5];unfold small at hz;omega
      ·exact p .v1 G3 _ s3 (N.write hi I ⟨xs.take n.toNat++v::xs.drop n.toNat,l9,yf rv n.toNat O⟩) .v1
     ·cases a
variable {ρ ρ1 ρ2 ρ3:k0}{wi w:W}{d:D}{ds ds0:List D}{i:Nat}{n:Int}{l:Bool}
theorem CP (c:ρ[i]?=some (some (.ow l (.lst ds0))))(e:mr ρ=some (.ok [wi,w] ρ1))(f:getD wi ρ1=some (.int n))(hl:D0 w ρ1=some (.ok d ρ2))(g:ρ2[i]?=some (some (.ow l (.lst ds))))(h:small ds.length)(a:0≤n)(b:n≤1000000)
  (hs:ρ2.set i (some (.ow l (.lst (ds.take n.toNat++d::ds.drop n.toNat))))=ρ3):I0 (gD i mr) ρ=some (.nx ρ3):=by
 subst hs;refine be (w:=.val .v1) ?_;unfold gD;have j:vc "list" (.slot i) ρ=some (.ok () ρ):=by
  unfold vc getD;simp only[c];rfl
 have k:wP wi ρ1=some (.ok n ρ1):=by unfold wP;rw[f]
 rw[M.j5 (g4 c),M.j5 j,M.j5 e];show M.bind (wP wi) (λn=>M.bind (D0 w) (gO i n)) ρ1=_;rw[M.j5 k,M.j5 hl];unfold gO;rw[g];exact v6 ⟨h,a,b⟩
end
def Kept (h h':Heap):Prop:=∀b o,h.get? b=some o→h'.get? b=some o
open AutoSeq1 (wpAny_loadPart')
theorem Im (a v:Value):checkTypeCall "enumerate" ⟨[a],[("start",v)]⟩=pure ():=by kernel_rfl
theorem Io (a v:Value):Jt "enumerate.__new__" ⟨[.type "enumerate",a],[("start",v)]⟩=pure ():=by kernel_rfl
theorem Ip (o a v:Value):argsOk "object.__init__" ⟨[o,a],[("start",v)]⟩:=by unfold argsOk;kernel_rfl
theorem FW (l:Addr)(a:Array Value)(n:Nat)(dct:Option Addr)(sl:Array (Option Value))(t:Tok):
  Meets (k5.«enumerate.__new__» ⟨[.type "enumerate",.ref l],[("start",.int 1 t)]⟩) (λ_ R s=>s.heap.get? l=some {cls:=.type "list",dict:=dct,data:=.seq a n,slots:=sl}∧
   R (.ok (.ret (.ref (s.heap.push {cls:=.type "list_iterator",data:=.fields #[.ref l,.int 0 0]}).objs.size)))
    {s with heap:=(s.heap.push {cls:=.type "list_iterator",data:=.fields #[.ref l,.int 0 0]}).push {cls:=.type "enumerate",data:=.fields #[.none,.bool false,.ref s.heap.objs.size,rawInt 1,.none,.none]}}):=
 .of_wp λprog w A R s h=>by
  obtain⟨f,g,d,i,os⟩:=s;obtain⟨hl,h⟩:=h;have e:=sub_enumerate;have b:Heap.IsList (Shared.heap ⟨f,g,d,i,os⟩) l a:=⟨_,hl,rfl,n,rfl⟩
  wp_walk using hB hl
  refine wpAny_stack_any λst=>i3 ?_;split
  ·rename_i c _ _ _ _ _;cases(c==Value.type "enumerate")
   ·wp_walk using hB hl,K3 b
    all_goals exact⟨_,rfl,h⟩
   ·wp_walk using hB hl,K3 b
    all_goals exact⟨_,rfl,h⟩
  ·wp_walk using hB hl,K3 b
   all_goals exact⟨_,rfl,h⟩
theorem CV {T b:String}{self:Value}{c:List Value}{d:List (Str×Value)}(hl:aK (.type T) "__init__"=pure (some (.builtin "object.__init__")))
  (g:Bind.madeBy (.type T)=pure (some b)) (f:(some b != some "object.__new__")=true):
  Meets (k5.«object.__init__» ⟨self::c,d⟩) (λ_ R s=>s.TypeIs self T∧R (.ok (.ret .none)) s):=by
 refine Meets.of_wp λprog w A R s hs=>?_;obtain⟨h,e⟩:=hs;cases c with
 |nil=>
  cases d with
  |nil=>exact i3 ⟨_,rfl,e⟩
  |cons k d=>
   repeat (any_goals (first|assumption|wp_step))
   exact⟨_,rfl,e⟩
 |cons a c=>
  repeat (any_goals (first|assumption|wp_step))
  exact⟨_,rfl,e⟩
section
variable {prog:Program}{w:World}{A:Around}{E:Value→Shared→Prop}{s:Shared}
theorem CW {l:Addr}{a:Array Value}{t:Tok}{Q:Value→Shared→Prop}(y:s.heap.IsList l a)
  (h:∀h',IsEnum h' (s.heap.objs.size+1) s.heap.objs.size 1 .none→h'.IsListIter s.heap.objs.size l 0→Kept s.heap h'→Q (.ref (s.heap.objs.size+1)) {s with heap:=h'}):
  wpAny (model prog w) A (call (.type "enumerate") [.ref l] [("start",.int 1 t)]) Q E s:=by
 obtain⟨⟨c,dct,z,sl⟩,hl,g,n,hd⟩:=y;replace g:c=.type "list":=g;replace hd:z=.seq a n:=hd;subst g hd;have d:=F.called_enumerate;obtain⟨c,L,k⟩:=d.mro;have i:=d.made;have m:=d.sub;have B:=Im (.ref l) (.int 1 t);have p:(s.heap.push {cls:=.type "list_iterator",data:=.fields #[.ref l,.int 0 0]}).objs.size=s.heap.objs.size+1:=Heap.size_push ..;refine GM (KD (show wpAny _ _ (callAny (.type "enumerate") _) _ _ _ from i3 ⟨Code.quiet_builtin _ (by decide +kernel),I9 F.entry_type_call ?_⟩));rw[Around.under_plain (weight_type_call_type "enumerate" [.ref l] [("start",.int 1 t)]) (units_type_call_type "enumerate" [.ref l] [("start",.int 1 t)])];have N:=d.notType;have O:=d.canCreate;repeat (any_goals (first|assumption|wp_step))
 refine Y1 (br d.plain F.entry_enumerate_new (wpAny_of_eq (Io (.ref l) (.int 1 t)) (FW l a n dct sl t prog w A.in1 (wants (λobj s1=>obj=.ref (s.heap.objs.size+1)∧s1={s with heap:=(s.heap.push {cls:=.type "list_iterator",data:=.fields #[.ref l,.int 0 0]}).push {cls:=.type "enumerate",data:=.fields #[.none,.bool false,.ref s.heap.objs.size,rawInt 1,.none,.none]}}) E) s ⟨hl,by rw[p];exact⟨rfl,rfl⟩⟩))) λr s1 hr=>?_;cases r with
 |error e=>exact hr
 |ok G=>
  cases G with
  |ret obj=>
   obtain⟨rfl,rfl⟩:=hr;have q:IsEnum ((s.heap.push {cls:=.type "list_iterator",data:=.fields #[.ref l,.int 0 0]}).push {cls:=.type "enumerate",data:=.fields #[.none,.bool false,.ref s.heap.objs.size,rawInt 1,.none,.none]}) (s.heap.objs.size+1) s.heap.objs.size 1 .none:=by
    have:=Heap.get?_push_size (s.heap.push {cls:=.type "list_iterator",data:=.fields #[.ref l,.int 0 0]}) (o:={cls:=.type "enumerate",data:=.fields #[.none,.bool false,.ref s.heap.objs.size,rawInt 1,.none,.none]}) rfl;rw[p]at this;exact this
   have u:=h _ q ⟨_,Heap.get?_push_of_some _ (Heap.get?_push_size _ rfl),rfl,rfl⟩ (λb o x=>Heap.get?_push_of_some _ (Heap.get?_push_of_some _ x));have v:({s with heap:=(s.heap.push {cls:=.type "list_iterator",data:=.fields #[.ref l,.int 0 0]}).push {cls:=.type "enumerate",data:=.fields #[.none,.bool false,.ref s.heap.objs.size,rawInt 1,.none,.none]}}:Shared).TypeIs (.ref (s.heap.objs.size+1)) "enumerate":=⟨_,q,rfl⟩
   have H:=d.init.lookup;have I:=d.init.bind (.ref (s.heap.objs.size+1));repeat (any_goals (first|assumption|wp_step))
   refine Y1 (br d.init.plain F.entry_object_init (d.init.check _ _ _ _ _ _ _ _ v (Ip _ _ _) (CV d.init.lookup d.made (by decide) prog w A.in1 (wants (λr s2=>r=.none∧Q (.ref (s.heap.objs.size+1)) s2) E) _ ⟨v,rfl,u⟩))) λJ s2 f=>?_;cases J with
   |error e=>exact f
   |ok j=>
    cases j with
    |ret r=>
     obtain⟨rfl,u⟩:=f;repeat (any_goals (first|assumption|wp_step))
    |_=>exact f.elim
  |_=>exact hr.elim
end
theorem sA:aK (.type "enumerate") "keys"=pure none:=by rw[W1,F2];kernel_rfl
theorem lT:aK (.type "enumerate") "__getattr__"=pure none:=by rw[W1,F2];kernel_rfl
theorem qM:entryFor table "enumerate.__getattribute__"=some k5.«object.__getattribute__»:=
 entryFor_alias (id':="object.__getattribute__") (by kernel_rfl) (by first|rfl|decide +kernel| (unfold String.splitOn;simp +decide [String.splitOnAux])) (by decide +kernel) (by kernel_rfl)
section
variable {prog:Program}{w:World}{A:Around}{E:Value→Shared→Prop}{h:Heap}{g:Array GenState}{d:Drawn}{t:Nat}{os:OsState}{a:Addr}{fs:Array Value}
theorem lU {c:Tok}{Q:Fin→Shared→Prop}(e:A.handled=none)(f:h.get? a=some {cls:=.type "enumerate",dict:=none,data:=.fields fs,slots:=#[]})
   (i:∀x h' j,(∀b o,h.get? b=some o→h'.get? b=some o)→(∃o,h'.get? x=some o∧o.cls=.type "AttributeError")→E (.ref x) ⟨h',g,d,j,os⟩):
    wpAny (model prog w) A (k5.«object.__getattribute__» ⟨[.ref a,.str "keys" c],[]⟩) Q E ⟨h,g,d,t,os⟩:=by
  have k:(⟨h,g,d,t,os⟩:Shared).TypeIs (.ref a) "enumerate":=⟨_,f,rfl⟩
  have l:=sA;repeat (any_goals (first|assumption|wp_step))
  refine PySem.kB e ?_ i;decide +kernel
theorem oC {e:Tok}{R:vt→Shared→Prop}(f:A.handled=none)(c:h.get? a=some {cls:=.type "enumerate",dict:=none,data:=.fields fs,slots:=#[]})
   (i:∀x h' j,(∀b o,h.get? b=some o→h'.get? b=some o)→(∃o,h'.get? x=some o∧o.cls=.type "AttributeError")→R (.error (.ref x)) ⟨h',g,d,j,os⟩):
    Y2 (model prog w) A (.call (.builtin "enumerate.__getattribute__") ⟨[.ref a,.str "keys" e],[]⟩) R ⟨h,g,d,t,os⟩:=
  br F.slot_enumerate_getattribute.plain qM (F.slot_enumerate_getattribute.check _ _ _ _ _ _ _ _ (show(⟨h,g,d,t,os⟩:Shared).TypeIs (.ref a) "enumerate" from⟨_,c,rfl⟩) (F.args_enumerate_getattribute_2 _ _) (lU f c i))
theorem sB {f:Tok}{Q:Value→Shared→Prop}(i:A.handled=none)(e:h.get? a=some {cls:=.type "enumerate",dict:=none,data:=.fields fs,slots:=#[]})
   (j:∀x h' c,(∀b o,h.get? b=some o→h'.get? b=some o)→(∃o,h'.get? x=some o∧o.cls=.type "AttributeError")→E (.ref x) ⟨h',g,d,c,os⟩):wpAny (model prog w) A (getAttrBy (.ref a) (.str "keys" f) false) Q E ⟨h,g,d,t,os⟩:=by
  have l:(⟨h,g,d,t,os⟩:Shared).TypeIs (.ref a) "enumerate":=⟨_,e,rfl⟩
  have m:=F.slot_enumerate_getattribute.lookup;have n:=F.slot_enumerate_getattribute.bind (.ref a);have p:=lT;have q:=PySem.F.Q1;repeat (any_goals (first|assumption|wp_step))
  refine oC i e λx h' c kp ex=>?_;have k:(⟨h',g,d,c,os⟩:Shared).TypeIs (.ref x) "AttributeError":=ex;repeat (any_goals (first|assumption|wp_step))
  exact j x h' c kp ex
theorem oE {Q:Option Value→Shared→Prop}(e:A.handled=none)(f:h.get? a=some {cls:=.type "enumerate",dict:=none,data:=.fields fs,slots:=#[]})
   (i:∀h' c,(∀b o,h.get? b=some o→h'.get? b=some o)→Q none ⟨h',g,d,c,os⟩):wpAny (model prog w) A (DW (.ref a) "keys") Q E ⟨h,g,d,t,os⟩:=by
  unfold DW getAttrBy?;have k:=PySem.F.Q1;repeat (any_goals (first|assumption|with_reducible apply sB e f|wp_step))
  intro x h' c kp ex;have j:(⟨h',g,d,c,os⟩:Shared).TypeIs (.ref x) "AttributeError":=ex;repeat (any_goals (first|assumption|wp_step))
  exact i h' c kp
end
structure tI (b0:Nat) (h:Heap) (e it:Addr) (i:Int):Prop where
 ex:∃f0 f1 old,h.get? e=some {cls:=.type "enumerate",dict:=none,data:=.fields #[f0,.bool f1,.ref it,rawInt i,.none,old],slots:=#[]}∧(f0=.none∨∃(a:Nat) (o:Obj),f0=rawInt a∧b0≤a∧a≠e∧a≠it∧h.get? a=some o)
theorem pB {M:Model}{A:Around}{E:Value→Shared→Prop}{s:Shared}{a:Addr}{Q:Option Obj→Shared→Prop}(h:Q (s.heap.get? a) s):wpAny M A (loadIfAlive a) Q E s:=λ_ _ _=>h
section
variable {prog:Program}{w:World}{A:Around}{E:Value→Shared→Prop}{s:Shared}
theorem zS {b0:Nat}{e it l:Addr}{j:Nat}{i:Int}{k:Array Value}{x:Value}{Q:Value→Shared→Prop}(hE:tI b0 s.heap e it i)(hI:s.heap.IsListIter it l j)(hl:s.heap.IsList l k)(hx:k[j]?=some x)(n:e≠it)(T:b0≤s.heap.objs.size)
  (hQ:∀h',tI b0 h' e it (i+1)→h'.IsListIter it l (j+1)→h'.get? s.heap.objs.size=some {cls:=.type "tuple",data:=.seq #[.int i s.toks,x]}→(∀b o,b≠e→b≠it→s.heap.get? b=some o→h'.get? b=some o)→Q (.ref s.heap.objs.size) {s with heap:=h',toks:=s.toks+1}):
  wpAny (model prog w) A (k5.«enumerate.__next__» ⟨[.ref e],[]⟩) (λfin s'=>∃v,fin=.done (.ret v)∧Q v s') E s:=by
 obtain⟨p,g,d,c,os⟩:=s;obtain⟨f0,f1,old,U,hf⟩:=hE.ex;refine f7 (m:=LQ (.ref e) 2) (u4 U rfl (x:=.ref it) rfl (f7 (wpAny_nextOf_list_item hI hl hx λH X I=>?_)));have I:Heap.SameBut it p H:=I;have Y:=(I.2 e n).trans U;refine f7 (m:=LQ (.ref e) 3) (u4 (s:=⟨H,g,d,c,os⟩) Y rfl (x:=rawInt i) rfl ?_);refine f7 (m:=LQ (.ref e) 4) (u4 (s:=⟨H,g,d,c,os⟩) Y rfl (x:=.none) rfl ?_);refine f7 (m:=mkInt i) (wpAny_mkInt ?_);refine f7 (m:=LH (.ref e) 3 (rawInt (i+1))) (O0 (s:=⟨H,g,d,c+1,os⟩) Y (by simp) λZ g2 J=>?_);have J:Heap.SameBut e H Z:=J;refine f7 (m:=LH (.ref e) 4 .none) (O0 (s:=⟨Z,g,d,c+1,os⟩) g2 (by simp) λu g3 L=>?_);have L:Heap.SameBut e Z u:=L;have g3:u.get? e=some {cls:=.type "enumerate",dict:=none,data:=.fields #[f0,.bool f1,.ref it,rawInt (i+1),.none,old],slots:=#[]}:=g3;refine f7 (m:=newTuple [.int i c,x]) (wpAny_newTuple ?_);have hz:u.objs.size=p.objs.size:=by rw[L.1,J.1,I.1]
 have F:(u.push {cls:=.type "tuple",data:=.seq #[.int i c,x]}).get? e=some {cls:=.type "enumerate",dict:=none,data:=.fields #[f0,.bool f1,.ref it,rawInt (i+1),.none,old],slots:=#[]}:=Heap.get?_push_of_some _ g3;have t4:(u.push {cls:=.type "tuple",data:=.seq #[.int i c,x]}).get? p.objs.size=some {cls:=.type "tuple",data:=.seq #[.int i c,x]}:=by rw[←hz];exact Heap.get?_push_size _ rfl
 have k4:∀b o,b≠e→b≠it→p.get? b=some o→(u.push {cls:=.type "tuple",data:=.seq #[.int i c,x]}).get? b=some o:=λb o y N q=>Heap.get?_push_of_some _ ((L.2 b y).trans ((J.2 b y).trans ((I.2 b N).trans q)));have i4:(u.push {cls:=.type "tuple",data:=.seq #[.int i c,x]}).IsListIter it l (j+1):=by
  obtain⟨o,t,r⟩:=X;exact⟨o,Heap.get?_push_of_some _ ((L.2 it (w5 n)).trans ((J.2 it (w5 n)).trans t)),r⟩
 have G:e<p.objs.size:=Heap.lt_size U;have a1:it<p.objs.size:=by obtain⟨o,t,_⟩:=hI;exact Heap.lt_size t
 generalize u.push {cls:=.type "tuple",data:=.seq #[.int i c,x]}=f at *;rw[hz];rcases hf with rfl| ⟨a,o,rfl,a0,ae,ai,t⟩
 ·refine f7 (m:=bN (.ref e)) (f7 (u4 (s:=⟨f,g,d,c+1,os⟩) F rfl (x:=.none) rfl (i3 ?_)));simp only[if_true];refine f7 (GJ (f7 (u4 (s:=⟨f,g,d,c+1,os⟩) F rfl (x:=old) rfl (f7 (O0 (s:=⟨f,g,d,c+1,os⟩) F (by simp) λh5 g5 b5=>?_)))));have b5:Heap.SameBut e f h5:=b5;refine f7 (m:=Du (.ref e) (.ref p.objs.size)) (f7 (O0 (s:=⟨h5,g,d,c+1,os⟩) g5 (by simp) λh6 g6 b6=>O0 (s:=⟨h6,g,d,c+1,os⟩) g6 (by simp) λh O P=>?_));have b6:Heap.SameBut e h5 h6:=b6;have P:Heap.SameBut e h6 h:=P;have B:∀b o,b≠e→f.get? b=some o→h.get? b=some o:=λb o z q=>(P.2 b z).trans ((b6.2 b z).trans ((b5.2 b z).trans q));have t7:=B _ _ (r0 G) t4;refine f7 (wpAny_letGo (i3 ⟨_,rfl,hQ h ⟨⟨_,_,_,O,.inr ⟨p.objs.size,_,rfl,T,r0 G,r0 a1,t7⟩⟩⟩ ?_ t7 λb o y N q=>B b o y (k4 b o y N q)⟩));obtain⟨o,t,r⟩:=i4;exact⟨o,B _ _ (w5 n) t,r⟩
 ·have R:=k4 a o ae ai t;have fin:∀h,(∃S,h.get? e=some {cls:=.type "enumerate",dict:=none,data:=.fields #[rawInt a,.bool S,.ref it,rawInt (i+1),.none,old],slots:=#[]})→(∀b o,b≠e→f.get? b=some o→h.get? b=some o)→Q (.ref p.objs.size) ⟨h,g,d,c+1,os⟩:=by
   intro h ⟨S,O⟩ B;refine hQ h ⟨⟨_,_,_,O,.inr ⟨a,o,rfl,a0,ae,ai,B _ _ ae R⟩⟩⟩ ?_ (B _ _ (r0 G) t4) λb o y N q=>B b o y (k4 b o y N q);obtain⟨o,t,r⟩:=i4;exact⟨o,B _ _ (w5 n) t,r⟩
  refine f7 (m:=bN (.ref e)) (f7 (u4 (s:=⟨f,g,d,c+1,os⟩) F rfl (x:=rawInt a) rfl ?_));refine f7 (m:=loadIfAlive ((a:Int).toNat)) (pB (s:=⟨f,g,d,c+1,os⟩) ?_);rw[show((a:Nat):Int).toNat=a from rfl];rw[show(Shared.heap ⟨f,g,d,c+1,os⟩).get? a=some o from R];show wpAny _ _ (LQ (.ref e) 1 >>= λ_=>_) _ _ _;refine f7 (u4 (s:=⟨f,g,d,c+1,os⟩) F rfl (x:=.bool f1) rfl ?_);cases f1 with
  |true=>exact i3 (i3 ⟨_,rfl,fin f ⟨true,F⟩ λ_ _ _ q=>q⟩)
  |false=>exact f7 (O0 (s:=⟨f,g,d,c+1,os⟩) F (by simp) λh O P=>i3 (i3 ⟨_,rfl,fin h ⟨true,O⟩ λb o z q=>((show Heap.SameBut e f h from P).2 b z).trans q⟩))
theorem CU {b0:Nat}{e it l:Addr}{j:Nat}{i:Int}{d:Array Value}{x:Value}{Q:Option Value→Shared→Prop}(h:tI b0 s.heap e it i)(n:s.heap.IsListIter it l j)(hl:s.heap.IsList l d)(p:d[j]?=some x)(f:e≠it)(g:b0≤s.heap.objs.size)
  (q:∀h',tI b0 h' e it (i+1)→h'.IsListIter it l (j+1)→h'.get? s.heap.objs.size=some {cls:=.type "tuple",data:=.seq #[.int i s.toks,x]}→(∀b o,b≠e→b≠it→s.heap.get? b=some o→h'.get? b=some o)→Q (some (.ref s.heap.objs.size)) {s with heap:=h',toks:=s.toks+1}):
  wpAny (model prog w) A (pyNext (.ref e)) Q E s:=by
 obtain⟨f0,f1,old,r,t⟩:=id h.ex;have m:s.TypeIs (.ref e) "enumerate":=⟨_,r,rfl⟩
 unfold pyNext;exact f7 (Me (X5 (name:=Str.ofString "__next__") m F.slot_enumerate_next (aJ F.slot_enumerate_next m F.entry_enumerate_next (zS h n hl p f g λh' a b c k=>i3 (q h' a b c k)) (F.args_enumerate_next_1 _))))
theorem FX {b0:Nat}{e it l:Addr}{j:Nat}{i:Int}{a:Array Value}{Q:Option Value→Shared→Prop}(h:A.handled=none)(k:tI b0 s.heap e it i)(n:s.heap.IsListIter it l j)(hl:s.heap.IsList l a)(p:a[j]?=none)
  (q:∀h',Heap.ExtBut it s.heap h'→Q none {s with heap:=h'}):wpAny (model prog w) A (pyNext (.ref e)) Q E s:=by
 obtain⟨f0,f1,old,f,u⟩:=id k.ex;have g:s.TypeIs (.ref e) "enumerate":=⟨_,f,rfl⟩
 unfold pyNext;refine f7 (Me (X5 (name:=Str.ofString "__next__") g F.slot_enumerate_next (aJ F.slot_enumerate_next g F.entry_enumerate_next (f7 (m:=LQ (.ref e) 2) (u4 f rfl (x:=.ref it) rfl ?_)) (F.args_enumerate_next_1 _))));refine f7 (wpAny_nextOf_list_end h n hl p λh' x c d=>?_);obtain⟨o,r,t⟩:=d;exact f7 (Jo (T:="StopIteration") (b:=true) ⟨o,r,t⟩ isSubtype_stop (i3 (q _ c)))
end
section
variable {prog:Program}{w:World}{A:Around}{E:Value→Shared→Prop}{K:Type}[DecidableEq K]{knd:KeyKind prog w K}
theorem FV (d e it l : Addr) (g : Array Value) (ps : List (K × Value)) (hh : A.in1.handled = none) (L : l ≠ d) (N : l ≠ it) (O : l ≠ e) (n : d ≠ it) (B : d ≠ e) (P : e ≠ it) (b0 : Nat) (Q : d < b0) (f : Value) (a6 : ps.length = g.size)
    (S : ∀ (j : Nat) (p : K × Value), ps[j]? = some p → g[j]? = some p.2 ∧ ∀ E, knd.is p.1 (.int ((j : Int) + 1) E) = true) (R : vt → Shared → Prop) :
  ∀ (m i : Nat) (kvs : List (K × Value)) (s : Shared), m = ps.length - i → i ≤ ps.length → b0 ≤ s.heap.objs.size →
   s.heap.DictOf knd d kvs → tI b0 s.heap e it ((i : Int) + 1) → s.heap.IsListIter it l i → s.heap.IsList l g → kvs.length + m ≤ sizeLine →
   (∀ h' E, h'.DictOf knd d (AU kvs (ps.drop i)) → (∀ b o, b ≠ d → b ≠ it → b ≠ e → s.heap.get? b = some o → h'.get? b = some o) → R (.ok (.ret f)) { s with heap := h', toks := E }) →
   Y2 (model prog w) A (.builtin "dict.update.loop" ⟨[.ref d, .ref e, rawInt i, f], []⟩) R s := by
  intro m
  induction m with
  | zero =>
    intro i kvs s hm hi r hd T t hl U X
    have Y : i = ps.length := by omega
    refine I9 PySem.F.B8 (by
      rw [A4 PySem.F.n4 _]
      show wpAny _ A.in1 (pyNext (.ref e) >>= fun _ => _) _ _ s
      refine f7 (FX hh T t hl (by rw [rA]; omega) fun h' eb => ?_)
      show wpAny _ A.in1 (jr d [] >>= fun _ => ret f) _ _ _
      refine f7 (i3 (i3 (X h' s.toks ?_ fun b o hb Z a7 q => eb b o Z q)))
      rw [Y, List.drop_length]
      obtain ⟨o, es, ep, u, c⟩ := hd
      exact ⟨o, es, ep, eb d o n u, c⟩)
  | succ m ih =>
    intro i kvs s hm hi r hd T t hl U X
    have G : i < ps.length := by omega
    obtain ⟨hx, H⟩ := S i ps[i] (List.getElem?_eq_getElem G)
    refine I9 PySem.F.B8 (by
      rw [A4 PySem.F.n4 _]
      show wpAny _ A.in1 (pyNext (.ref e) >>= fun _ => _) _ _ s
      refine f7 (CU T t hl hx P r fun h' a0 I ht kp => ?_)
      have a1 : h'.DictOf knd d kvs := by obtain ⟨o, es, ep, u, c⟩ := hd; exact ⟨o, es, ep, kp d o B n u, c⟩
      have hT : ({ s with heap := h', toks := s.toks + 1 } : Shared).TypeIs (.ref s.heap.objs.size) "tuple" := ⟨_, ht, rfl⟩
      show wpAny _ A.in1 (W2 [Value.ref s.heap.objs.size] _ >>= fun _ => _) _ _ { s with heap := h', toks := s.toks + 1 }
      refine f7 (v8 (f7 (LD ?_)))
      unfold ly
      refine f7 (S7 hT ?_)
      rw [if_pos (by decide)]
      refine f7 (wpAny_seqItems ht rfl (i3 ?_))
      show wpAny _ A.in1 (W2 [.int ((i : Int) + 1) s.toks, ps[i].2] (dictSet d (.int ((i : Int) + 1) s.toks) ps[i].2)) _ _ { s with heap := h', toks := s.toks + 1 }
      refine v8 (Gz (s := { s with heap := h', toks := s.toks + 1 }) (k := ps[i].1) (H _) a1 (fun v a2 h => ?_) (by omega))
      have h : Heap.SameBut d h' v := h
      have J : ∀ b o, b ≠ d → b ≠ it → b ≠ e → s.heap.get? b = some o → v.get? b = some o := fun b o x y z q => (h.2 b x).trans (kp b o z y q)
      have hc : ((i : Int) + 1) = ((i + 1 : Nat) : Int) := by push_cast; rfl
      refine i3 ⟨U7 PySem.F.n4 _, ?_⟩
      obtain ⟨f0, f1, old, g0, gf⟩ := a0.ex
      have g2 : v.get? e = some { cls := .type "enumerate", dict := none, data := .fields #[f0, .bool f1, .ref it, rawInt ((i : Int) + 1 + 1), .none, old], slots := #[] } := (h.2 e (w5 B)).trans g0
      have a3 : tI b0 v e it (((i + 1 : Nat) : Int) + 1) := by
        refine ⟨⟨f0, f1, old, by rw [← hc]; exact g2, ?_⟩⟩
        rcases gf with gf | ⟨a, o, rfl, z0, x, y, z⟩
        · exact .inl gf
        · exact .inr ⟨a, o, rfl, z0, x, y, (h.2 a (r0 (k8 Q z0))).trans z⟩
      rw [hc]
      refine ih (i + 1) (AS kvs ps[i].1 ps[i].2) { s with heap := v, toks := s.toks + 1 + 1 } (by omega) (by omega) ?_ a2 a3 ?_ ?_ ?_ fun h3 E a4 a5 => ?_
      · show b0 ≤ v.objs.size
        rw [h.1]
        exact Q7 (AX r (Heap.lt_size ht))
      · obtain ⟨o, u, c⟩ := I
        exact ⟨o, (h.2 it (w5 n)).trans u, c⟩
      · obtain ⟨o, u, c⟩ := hl
        exact ⟨o, J l o L N O u, c⟩
      · have := Jq kvs ps[i].1 ps[i].2
        omega
      · refine X h3 E ?_ fun b o x y z q => a5 b o x y z (J b o x y z q)
        rw [List.drop_eq_getElem_cons G]
        exact a4)
theorem oX {s:Shared}{e it l:Addr}{a:Array Value}(ps:List (K×Value)){Q:Value→Shared→Prop}(O:A.handled=none)(P:IsEnum s.heap e it 1 .none)(n:s.heap.IsListIter it l 0)(hl:s.heap.IsList l a)(u:l≠it)(v:l≠e)(x:e≠it)(r:ps.length=a.size)(y:ps.length≤sizeLine)
  (z:∀(j:Nat) (p:K×Value),ps[j]?=some p→a[j]?=some p.2∧∀t,knd.is p.1 (.int ((j:Int)+1) t)=true)
  (h:∀h' t,h'.DictOf knd s.heap.objs.size (AU [] ps)→(∀b o,b≠e→b≠it→s.heap.get? b=some o→h'.get? b=some o)→Q (.ref s.heap.objs.size) {s with heap:=h',toks:=t}):
  wpAny (model prog w) A (call (.type "dict") [.ref e]) Q E s:=by
 refine vo (Q₁:=λobj k=>obj=.ref s.heap.objs.size∧k={s with heap:=s.heap.push {cls:=.type "dict",data:=.dict #[]}}) F.kt_called_dict (F.kt_typeCall_dict_1 _) F.entry_dict_init (kt_code_dict_new _ ⟨rfl,rfl⟩) ?_
 rintro obj k ⟨rfl,rfl⟩
 have d:(s.heap.push {cls:=.type "dict",data:=.dict #[]}).DictOf knd s.heap.objs.size []:=Heap.DictOf.new s.heap;refine⟨d.typeIs,F.args_dict_init_2 _ _,?_⟩;unfold k5.«dict.__init__»;refine f7 ?_;unfold jq;refine f7 (Dr d.typeIs ?_);show wpAny _ _ (pure (s.heap.objs.size,[Value.ref e])) _ _ _;refine i3 ?_;show wpAny _ _ (Q0 "dict.__init__" s.heap.objs.size (.ref e) [] .none) _ _ _;unfold Q0;have B:(s.heap.push {cls:=.type "dict",data:=.dict #[]}).get? e=some {cls:=.type "enumerate",dict:=none,data:=.fields #[.none,.bool false,.ref it,rawInt 1,.none,.none],slots:=#[]}:=Heap.get?_push_of_some _ P;have G:=Heap.lt_size P;refine f7 (S7 (T:="enumerate") ⟨_,B,rfl⟩ ?_);rw[if_pos (by decide)];refine f7 (oE (h:=s.heap.push {cls:=.type "dict",data:=.dict #[]}) (by exact O) B λR Z f=>?_);rw[if_pos (show(none:Option Value).isNone=true from rfl)];have S:=f _ _ B;refine f7 (GJ (f7 (wpAny_pyIter_enum (i:=1) (old:=.none) S ?_)));refine i3 ⟨U7 PySem.F.n4 _,?_⟩;have H:R.get? s.heap.objs.size=some {cls:=.type "dict",data:=.dict #[]}:=f _ _ (Heap.get?_push_size _ rfl);have m:∀b o,s.heap.get? b=some o→R.get? b=some o:=λb o q=>f _ _ (Heap.get?_push_of_some _ q);have I:l<s.heap.objs.size:=let⟨o,g,_⟩:=hl;Heap.lt_size g;have J:it<s.heap.objs.size:=let⟨o,g,_⟩:=n;Heap.lt_size g;refine FV (knd:=knd) s.heap.objs.size e it l a ps (by exact O) (j7 I) u v (r0 J) (r0 G) x (s.heap.objs.size+1) (n6 _) .none r z _ ps.length 0 [] _ rfl (u6 _) (Heap.lt_size H) ?_ ⟨⟨_,_,_,S,.inl rfl⟩⟩ ?_ ?_ (by simpa using y) λh' t L N=>⟨rfl,?_⟩
 ·obtain⟨o,es,U,g,c⟩:=d;exact⟨o,es,U,f _ _ g,c⟩
 ·obtain⟨o,g,c⟩:=n;exact⟨o,m _ _ g,c⟩
 ·obtain⟨o,g,c⟩:=hl;exact⟨o,m _ _ g,c⟩
 ·exact h h' t (by simpa using L) λb o X Y q=>N b o (j7 (Heap.lt_size q)) Y X (m b o q)
end
section
variable {M:Model}{A:Around}{E:Value→Shared→Prop}{s:Shared}{env:Env}
theorem tq {pos:Pos}{T:String}{e:Expr}{b:List Keyword}{Q:Value→Shared→Prop}
  (h:wpAny M A (tL (l8 pos (f9 [e] env))) (λvs c=>wpAny M A (evalAll ((z6 pos (o7 b env)).map (·.2))) (λkvs f=>wpAny M A (call (.type T) vs (((z6 pos (o7 b env)).filterMap (·.1)).zip kvs)) Q E f) E c) E s)
  (j:l8 pos (f9 [e] env)=(false,eval e env)::l8 pos (f9 [] env):=by rfl)
  (d:(l8 pos (f9 [e] env)).any (·.1)=false:=by rfl) (g:(z6 pos (o7 b env)).all (·.1.isSome)=true:=by rfl) (i:(z6 pos (o7 b env)).any (·.1.isNone)=false:=by rfl):
  wpAny M A (DY pos (.type T) [] (l8 pos (f9 [e] env)) (z6 pos (o7 b env))) Q E s:=by
 have h':wpAny M A (evalArgs (.type T) true (l8 pos (f9 [e] env)) (z6 pos (o7 b env))) (λa c=>wpAny M A (call (.type T) ([]++a.pos) a.kw) Q E c) E s:=by
  rw[j]at h⊢;exact evalArgs_kwB g h
 unfold DY;refine f7 (v8 (z5 h' (λa s1 k=>f7 (lw ?_)) λ_ _ x=>x));simp only[d,i,rm];exact f7 (i3 (f7 (z5 k (λr s2 hr=>f7 (v8 (wpAny_point (i3 hr)))) λ_ _ x=>x)))
end
noncomputable def wg (k:Int):List V→List (Key×V)
 | []=>[]
 |x::xs=>(.inl k,x)::wg (k+1) xs
noncomputable def lS (k:Int):List Value→List (Key×Value)
 | []=>[]
 |x::xs=>(.inl k,x)::lS (k+1) xs
theorem se:∀{xs:List V} {us:List Value} (k:Int),Vals xs us→KV (wg k xs) (lS k us)
 |_,_,_,.nil=>.nil
 |_,_,k,.cons r rs=>.cons ⟨rfl,r⟩ (se (k+1) rs)
theorem gz:∀(us:List Value) (k:Int),(lS k us).length=us.length
 | [],_=>rfl
 |u::us,k=>by
  show(lS (k+1) us).length+1=_;rw[gz us,List.length_cons]
theorem uo:∀(us:List Value) (k:Int) (j:Nat) (p:Key×Value),(lS k us)[j]?=some p→us[j]?=some p.2∧p.1=.inl (k+j)
 |u::us,k,0,p,h=>by
  have:(Sum.inl k,u)=p:=by simpa[lS]using h
  subst this;exact⟨rfl,by simp⟩
 |u::us,k,j+1,p,h=>by
  obtain⟨a,b⟩:=uo us (k+1) j p (by simpa[lS]using h);refine⟨by simpa using a,?_⟩;rw[b];congr 1
  push_cast
  omega
 | [],_,_,_,h=>by simp[lS]at h
section
variable {X:Cx}{p pos p2 pos2 kp cp:Pos}{nn:Nat}{e:Expr}{t:TA}
noncomputable def HP (K:PySem.W.Frag):List V→Hp→VK→Prop:=λxs H Q=>∃l a,xs=[.ref l]∧P8 K H l a∧a.length≤1000000∧∀d,H d=none→Q (.ref d) (upd H d (.dK (ic [] (wg 1 a))))
theorem qd {K:PySem.W.Frag}(hK:X.K=K)(hc:X.calm=true)(B:Gl X "dict") (E:X.mg "dict"=none) (F:Gl X "enumerate") (G:X.mg "enumerate"=none) (ha:PA X [e] t)
  (i:f9 [Expr.Call (.Name "enumerate" p2) [e] [⟨some "start",.Constant (.int 1) nn cp,kp⟩] pos2] X.env=(false,eval (Expr.Call (.Name "enumerate" p2) [e] [⟨some "start",.Constant (.int 1) nn cp,kp⟩] pos2) X.env)::f9 [] X.env) (m:(l8 pos (f9 [] X.env)).any (·.1)=false)
  (h1:l8 pos2 (f9 [e] X.env)=(false,eval e X.env)::l8 pos2 (f9 [] X.env)) (h2:(l8 pos2 (f9 [e] X.env)).any (·.1)=false) (h3:(z6 pos2 (o7 [⟨some "start",.Constant (.int 1) nn cp,kp⟩] X.env)).all (·.1.isSome)=true) (h4:(z6 pos2 (o7 [⟨some "start",.Constant (.int 1) nn cp,kp⟩] X.env)).any (·.1.isNone)=false)
  (J:(z6 pos2 (o7 [⟨some "start",.Constant (.int 1) nn cp,kp⟩] X.env)).filterMap (·.1)=[("start":Str)])
  (n:∀(s:Shared) (Q:Value→Shared→Prop),(∀v c,Q (.int 1 v) {s with toks:=c})→wpAny (model X.prog X.w) X.A (eval (.Constant (.int 1) nn cp) X.env) Q X.xe s):
  PE X (.Call (.Name "dict" p) [.Call (.Name "enumerate" p2) [e] [⟨some "start",.Constant (.int 1) nn cp,kp⟩] pos2] [] pos) (GE (HP K) t):=by
 subst hK;intro pins s σ H Q I h;refine t9 (V6 I B E lx ?_ (by decide) (by decide));refine m4 ?_ i m;rw[i];show wpAny _ _ (tL ((false,eval (Expr.Call (.Name "enumerate" p2) [e] [⟨some "start",.Constant (.int 1) nn cp,kp⟩] pos2) X.env)::l8 pos (f9 [] X.env))) _ _ s;refine S9 (t9 (V6 I F G (u:=.type "enumerate") (by decide +kernel) ?_ (by decide) (by decide)));refine tq (F0 (ha pos2 pins s σ H _ I h) λus s1 ⟨vs,H1,L,r1,l,ys,ev,hq,hz,q⟩=>?_) h1 h2 h3 h4;subst ev;obtain⟨u,rfl,ru⟩:=vals1 r1;cases ru;refine kws_cons (n s1 _ λv c=>kws_nil ?_);rw[J];have d:Inv X pins σ H1 {s1 with toks:=c}:=L.tok _;obtain⟨f,N,O,a0⟩:=d.list hq;refine CW (t:=v) O.isList λh' hE x kp=>U8 ?_;have y:l<s1.heap.objs.size:=let⟨o,z,_⟩:=O.isList;Heap.lt_size z;have I2:Inv X pins σ H1 {s1 with heap:=h',toks:=c}:=d.kept (t':=c) kp;have P:h'.IsList l f.toArray:=let⟨o,z,r⟩:=O.isList;⟨o,kp _ _ z,r⟩;have hn:=N.length;have R:(ic [] (wg 1 ys)).length≤sizeLine:=by
  have e1:=(ii (se 1 N) (kvs:=[]) (vs:=[]) .nil).length;have e2:=pw ([]:List (Key×Value)) (lS 1 f);rw[gz]at e2;simp at e2;have:=u5;omega
 refine oX (knd:=u1 X.prog X.w) (lS 1 f) (L.ok.hd hc) hE x P (j7 y) (j7 (o1 y)) (r0 (n6 _)) (by rw[gz,List.size_toArray]) (by rw[gz,u5];omega) (λj pr hj=>?_) λS T U Y=>?_
 ·obtain⟨a,b⟩:=uo f 1 j pr hj;refine⟨by simpa using a,λv=>?_⟩;rw[b,JA];exact gM (k:=.inl ((j:Int)+1)) ⟨v,rfl⟩
 ·have Z:∀b o,s1.heap.get? b=some o→S.get? b=some o:=λb o q=>Y b o (j7 (o1 (Heap.lt_size q))) (j7 (Heap.lt_size q)) (kp b o q);have g:s1.heap.objs.size≤h'.objs.size:=Q7 (let⟨o,z,_⟩:=x;Heap.lt_size z);exact⟨.ref h'.objs.size,_,d.laid (a:=h'.objs.size) (o:=.dK (ic [] (wg 1 ys))) (t':=T) Z g (kT R (beq_eq_false_iff_ne.mpr (w5 (j7 (k8 L.big g)))) (ii (se 1 N) .nil) U),rfl,q _ (d.hok.fresh g)⟩
end
noncomputable def wf (k:Int):List D→List (Key×D)
 | []=>[]
 |d::ds=>(.inl k,d)::wf (k+1) ds
noncomputable def ul:List D→Option W
 | [.lst ds]=>cm (ds.length≤1000000) (some (.own (.dct (dH [] (wf 1 ds)))))
 |_=>none
theorem num_rep {K:PySem.W.Frag}{G:Hp}:∀{a:List V} {ds:List D} (k:Int),n9 K G a ds→m3 K G (wg k a) (wf k ds)
 | [],[],_,_=>m3.nil
 | [],_::_,_,r=>by have:=r.len;simp at this
 |_::_,[],_,r=>by have:=r.len;simp at this
 |y::a,d::ds,k,r=>m3.cons rfl r.head (num_rep (k+1) r.tail)
section
variable {X:Cx}{B:Bs}{e:Expr}{mr:M (List W)}{nn:Nat}{p pos p2 pos2 kp cp:Pos}
theorem wC:fP B (HP B.K) ul:=by
 intro G H σ ρ xs ds w Q R h a c
 match ds,a with
 | [.lst ds],a=>
  obtain⟨d,a⟩:=o4 a;cases a;obtain⟨x,rfl,e⟩:=G8 h;obtain⟨q,f,rfl,g,b⟩:=e.lst R.gH;refine⟨q,f,rfl,g,by rw[b.len];exact d,λl hl=>?_⟩;obtain⟨R',i⟩:=R.ks hl (nW (num_rep 1 b) m3.nil);exact c _ G _ (i8.refl _) R' i
theorem tj (j:X.calm=true)(b:X.mg "dict"=none) (c:X.mg "enumerate"=none) (k:fO X B [e] mr) (d:Gl X "dict":=by rfl) (f:Gl X "enumerate":=by rfl) (l:X.K=B.K:=by rfl)
  (g:f9 [Expr.Call (.Name "enumerate" p2) [e] [⟨some "start",.Constant (.int 1) nn cp,kp⟩] pos2] X.env=(false,eval (Expr.Call (.Name "enumerate" p2) [e] [⟨some "start",.Constant (.int 1) nn cp,kp⟩] pos2) X.env)::f9 [] X.env:=by rfl) (a:(l8 pos (f9 [] X.env)).any (·.1)=false:=by rfl)
  (m:l8 pos2 (f9 [e] X.env)=(false,eval e X.env)::l8 pos2 (f9 [] X.env):=by rfl) (n:(l8 pos2 (f9 [e] X.env)).any (·.1)=false:=by rfl) (o:(z6 pos2 (o7 [⟨some "start",.Constant (.int 1) nn cp,kp⟩] X.env)).all (·.1.isSome)=true:=by rfl) (q:(z6 pos2 (o7 [⟨some "start",.Constant (.int 1) nn cp,kp⟩] X.env)).any (·.1.isNone)=false:=by rfl)
  (i:(z6 pos2 (o7 [⟨some "start",.Constant (.int 1) nn cp,kp⟩] X.env)).filterMap (·.1)=[("start":Str)]:=by rfl):
  PD X B (.Call (.Name "dict" p) [.Call (.Name "enumerate" p2) [e] [⟨some "start",.Constant (.int 1) nn cp,kp⟩] pos2] [] pos) (C4 ul mr):=.mk λξ=>
 (qd (X:=rz X ξ) (K:=B.K) l j d b f c (k.ap ξ) g a m n o q i (λs Q h=>GO (h _ _))).imp λ_ _ _ t=>pJ wC t
end
noncomputable def Jl (K:PySem.W.Frag)(a:Addr)(n:Nat):It:=
 ⟨λi H=>i<n∧∃xs,P8 K H a xs∧xs.length=n,λi H x H'=>H'=H∧∀xs,P8 K H a xs→xs[n-1-i]?=some x,λi H=>n≤i∧∃xs,P8 K H a xs∧xs.length=n⟩
theorem xC {P:Program}{w:World}{K:PySem.W.Frag}{tg:Expr}(a it:Addr)(n:Nat):Turn P w K tg (Jl K a n) [it] it (λi h=>i≤n∧h.IsRevIter it a ((n:Int)-1-(i:Int))) where
 mem:=by simp
 obj:=λi h st b g=>by
  have e:b=it:=by simpa using g
  subst e;obtain⟨_,o,e,c,d⟩:=st;exact⟨o,e,λv z=>by rw[d]at z;cases z⟩
 keep:=λi h h' st k=>⟨st.1,st.2.at λo e=>k it (by simp) o e⟩
 item:=by
  intro X m q r L i pins s σ H E I l st t;subst m q r;obtain⟨y,xs,A,Q⟩:=t;obtain⟨R,N,p,hz⟩:=I.list A;have hl:=N.length;obtain⟨x,O⟩:∃x,xs[n-1-i]?=some x:=⟨_,List.getElem?_eq_getElem (by omega)⟩
  obtain⟨u,S,T⟩:=N.get O;obtain⟨f0,f1,U,B,F,G⟩:=l it (by simp);have Y:(n:Int)-1-(i:Int)=((n-1-i:Nat):Int):=by omega
  have f:=st.2;rw[Y]at f;refine wpAny_pyNext_rev_item f p.isList (x:=u) (by simpa using S) λh' j Z=>?_;have e2:((n-1-i:Nat):Int)-1=(n:Int)-1-((i+1:Nat):Int):=by omega
  rw[e2]at j;have I1:Inv X pins σ H {s with heap:=h'}:=I.turned (t':=s.toks) (λb o g e=>(Z.2 b g).trans e) f0 f1 B F G;obtain⟨o,e,c,d⟩:=id j;exact⟨u,rfl,dP (s:={s with heap:=h'}) e c d (by decide) ⟨x,H,I1,T,⟨rfl,λys hy=>by rw[I.gJ hy A];exact O⟩,⟨y,j⟩,λb g=>(l b g).1⟩⟩
 done:=by
  intro X m q r L i pins s σ H E I l st t;subst m q r;obtain⟨a0,xs,A,Q⟩:=t;obtain⟨f0,f1,U,B,F,G⟩:=l it (by simp);have f:=st.2;rw[show(n:Int)-1-(i:Int)=-1 by have:=st.1;omega]at f;exact wpAny_pyNext_rev_end (I.ok.hd L) f λh' J=>⟨rfl,I.turned (t':=s.toks) (λb o g e=>J b o g e) f0 f1 B F G⟩
 self:=λ_ _ _ _ _ st h=>iX st.2 h
section
variable {X:Cx}{tg e:Expr}{t:TA}{p pos:Pos}
theorem EN {K:PySem.W.Frag}(j:X.K=K)(k:Gl X "reversed") (l:X.mg "reversed"=none) (m:PA X [e] t) (n:f9 [e] X.env=(false,eval e X.env)::f9 [] X.env) (i:(l8 pos (f9 [] X.env)).any (·.1)=false):
  PI X tg (.Call (.Name "reversed" p) [e] [] pos) (λσ H R=>t σ H λvs f=>∃a xs,vs=[.ref a]∧P8 K f a xs∧R (Jl K a xs.length) f):=by
 subst j;intro pins s σ H R I h;refine t9 (V6 I k l (u:=.type "reversed") (by decide +kernel) ?_ (by decide) (by decide));refine m4 (F0 (m pos pins s σ H _ I h) λus s1 ⟨vs,f,g,r,a,xs,v,w,q⟩=>?_) n i;subst v;obtain⟨u,rfl,x⟩:=vals1 r;cases x;obtain⟨c,y,z,B⟩:=g.list w;have hl:=y.length;refine GQ z.isList ?_;have d:(s1.heap.push (revObj a ((c.toArray.size:Int)-1))).IsRevIter s1.heap.objs.size a ((xs.length:Int)-1-((0:Nat):Int)):=by
  rw[show(xs.length:Int)-1-((0:Nat):Int)=(c.toArray.size:Int)-1 by rw[List.size_toArray,hl];omega];exact⟨_,Heap.get?_push_size _ rfl,rfl,rfl⟩
 refine iX d ?_;refine⟨s1.heap.objs.size,[s1.heap.objs.size],_,_,f,rfl,g.kept (t':=s1.toks) λb o e=>Heap.get?_push_of_some _ e,xC a _ xs.length,⟨u6 _,d⟩,λb A=>?_,q⟩;have e:b=s1.heap.objs.size:=by simpa using A
 subst e;exact g.wQ (g8 _) (g.hok.fresh (g8 _))
end
noncomputable def sx (m:M (List W)):M (List D):=M.bind m λa=>match a with
 | [w]=>M.bind (D0 w) λd=>λρ=>match d with
  |.lst ds=>some (.ok ds.reverse ρ)
  |_=>none
 |_=>λ_=>none
theorem wO {K:PySem.W.Frag}{G:Hp}{a:Addr}{xs:List V}{ds:List D}(h:P8 K G a xs)(r:n9 K G xs ds):Gives K G (Jl K a xs.length) ds.reverse where
 go:=λG' H i s1 s2 hi=>by
  rw[List.length_reverse,←r.len]at hi;exact⟨hi,xs,(s1.trans s2).seq h,rfl⟩
 stop:=λG' H s1 s2=>⟨by rw[List.length_reverse,r.len];exact g8 _,xs,(s1.trans s2).seq h,rfl⟩
 yld:=λG' H H' i x s1 s2 hi y=>by
  obtain⟨rfl,y⟩:=y;have ex:=y xs ((s1.trans s2).seq h);obtain⟨d,b,c⟩:=r.Kp ex;rw[List.length_reverse]at hi;exact⟨rfl,d,by rw[List.getElem?_reverse hi,←r.len];exact b,c.same s1⟩
section
variable {X:Cx}{B:Bs}{tg e:Expr}{mr:M (List W)}{p pos:Pos}
theorem zy (i:X.mg "reversed"=none) (j:fO X B [e] mr) (k:Gl X "reversed":=by rfl) (m:X.K=B.K:=by rfl) (n:f9 [e] X.env=(false,eval e X.env)::f9 [] X.env:=by rfl) (c:(l8 pos (f9 [] X.env)).any (·.1)=false:=by rfl):
  Dm X B tg (.Call (.Name "reversed" p) [e] [] pos) (sx mr):=.mk λξ=>(EN (X:=rz X ξ) (K:=B.K) m k i (j.ap ξ) n c).imp λσ H J t=>by
 obtain⟨G,ρ,R,t⟩:=nG t;refine(TD.bind (rel:=M3) R t).mono λvs o ⟨L,q,s,s1,u,f,g⟩=>?_
 match s,f,g with
 | [],_,⟨r,b,_⟩=>cases b
 |_::_::_,_,⟨r,b,_⟩=>cases b
 | [w],f,g=>
  cases f with
  | @cons v _ vs _ h x=>
   cases x;obtain⟨d,y,z,N,b,A⟩:=g.step λr h=>Z0 h;obtain⟨E,s2,R2,F⟩:=h.1.D0 u z;cases d with
   |lst ds=>
    cases b;cases F with
    | @lst a xs I hs l r=>exact⟨a,xs,rfl,R2.gH.seq hs,A (Jl B.K a xs.length) E o s2 R2 (wO hs ⟨l,r⟩)⟩
   |_=>cases b
end
theorem sX {b:M (List W)}{ρ ρ1 a:k0}{w:W}{ds:List D}(c:b ρ=some (.ok [w] ρ1))(hl:D0 w ρ1=some (.ok (.lst ds) a)):sx b ρ=some (.ok ds.reverse a):=by
 unfold sx;rw[M.j5 c];show M.bind (D0 w) _ ρ1=_;rw[M.j5 hl]
open AutoSeq1 (wpAny_loadPart')
theorem Ck:aK (.type "list_reverseiterator") "__len__"=pure none:=by rw[W1,F2];kernel_rfl
theorem yP:aK (.type "list_reverseiterator") "__length_hint__"=pure (some (.builtin "list_reverseiterator.__length_hint__")):=by rw[W1,F2];kernel_rfl
theorem Cj:isSubtype (.type "list_reverseiterator") (.type "list_reverseiterator")=pure true:=by rw[LP];kernel_rfl
section
variable {prog:Program}{w:World}{A:Around}{E:Value→Shared→Prop}{s:Shared}{it l:Addr}{items:Array Value}
theorem De {Q:List Value→Shared→Prop}(B:A.handled=none)(d:s.heap.IsRevIter it l ((items.size:Int)-1))(hl:s.heap.IsList l items)(p:l≠it)(G:items.size≤sizeLine)
  (H:∀e f,Moved [it] (λa b=>b=a) s e→tN (λi v=>items[items.size-1-i]?=some v) f items.size→Q f.toList e):wpAny (model prog w) A (collect (.ref it)) Q E s:=by
 have W:=(Walks.listRev (prog:=prog) (w:=w) (A:=A.in1) B it l p items).toS;have g:it<s.heap.objs.size:=let⟨o,h,_⟩:=d;Heap.lt_size h;have r:l<s.heap.objs.size:=let⟨o,h,_⟩:=hl;Heap.lt_size h;have t:s.heap.objs.size∉[it,l]:=by
  intro z;simp only[List.mem_cons,List.not_mem_nil,or_false]at z;rcases z with z|z
  ·exact r0 g z
  ·exact r0 r z
 have I:(items.size:Int)-1-((0:Nat):Int)=(items.size:Int)-1:=by omega
 unfold collect;refine f7 (wpAny_runValue (I9 F.entry_proto_collect (by
  rw[A4 F.plain_proto_collect _];show wpAny _ A.in1 (MX [] >>= λl=>again (.builtin "list.__iadd__" ⟨[l,.ref it],[]⟩)) _ _ s;refine f7 (C5 (i3 ⟨U7 F.plain_list_iadd _,I9 F.entry_list_iadd ?_⟩));rw[A4 F.plain_list_iadd _];have J:(s.heap.push {cls:=.type "list",data:=.seq ([]:List Value).toArray}).get? s.heap.objs.size=some {cls:=.type "list",data:=.seq ([]:List Value).toArray}:=Heap.get?_push_size _ rfl;have c:(s.heap.push {cls:=.type "list",data:=.seq ([]:List Value).toArray}).IsRevIter it l ((items.size:Int)-1-((0:Nat):Int)):=by rw[I];exact d.at λo q=>Heap.get?_push_of_some _ q
  have u:(s.heap.push {cls:=.type "list",data:=.seq ([]:List Value).toArray}).IsList l items:=hl.at λo q=>Heap.get?_push_of_some _ q;have n:({s with heap:=s.heap.push {cls:=.type "list",data:=.seq ([]:List Value).toArray}}:Shared).TypeIs (.ref it) "list_reverseiterator":=let⟨o,h,L,_⟩:=c;⟨o,h,L⟩;have N:jp (.ref s.heap.objs.size) (.ref it)=false:=by simp[jp,r0 g]
  show wpAny _ A.in1 (hU (.ref s.heap.objs.size) (.ref it) (.ref s.heap.objs.size)) _ _ _;unfold hU;refine f7 (S7 n ?_);rw[if_neg (by rw[N];decide)];refine f7 (iX c (f7 (v8 ?_)));unfold Lr;refine f7 (KB n Ck ?_);show wpAny _ A.in1 (specialOf (Value.ref it) (Str.ofString "__length_hint__") >>= λ_=>_) _ _ _;refine f7 (KB n yP ?_);generalize j:("list_reverseiterator.__length_hint__":String)=x
  wp_delta
  rw[show splitId x=some ("list_reverseiterator","__length_hint__")from by subst j;decide +kernel];subst j;refine f7 (Jo (b:=true) n Cj (i3 ?_));rw[if_neg (by decide)];refine i3 ⟨U7 F.plain_extend_loop _,codeAny_extend_loopS W G _ t _ items.size 0 _ _ _ rfl (u6 _) ⟨u6 _,c,u⟩ J (tN.nil _) λe k P O y m=>?_⟩;show wpAny _ A (load s.heap.objs.size >>= λ_=>_) _ _ e;exact f7 (GL y (i3 (H e k (Moved.drop_new (o:={cls:=.type "list",data:=.seq ([]:List Value).toArray}) (tk:=s.toks) O (g8 _)) m))))))
theorem oQ {Q:Value→Shared→Prop}(n:A.handled=none)(g:s.heap.IsRevIter it l ((items.size:Int)-1))(hl:s.heap.IsList l items)(j:l≠it)(m:items.size≤sizeLine)
  (h:∀f c,Moved [it] (λa b=>b=a) s f→tN (λi v=>items[items.size-1-i]?=some v) c items.size→Q (.ref f.heap.objs.size) {f with heap:=f.heap.push {cls:=.type "tuple",data:=.seq c}}):
  Y2 (model prog w) A (.call (.builtin "tuple.__new__") ⟨[.type "tuple",.ref it],[]⟩) (wants Q E) s:=by
 refine KD (show wpAny _ A.in1 (do Jt "tuple.__new__" ⟨[.type "tuple",.ref it],[]⟩;again (.builtin "tuple.__new__" ⟨[.type "tuple",.ref it],[]⟩)) _ _ s from f7 (wpAny_of_eq (F.newCall_tuple_1 _) (i3 ⟨U7 F.plain_tuple_new _,I9 F.entry_tuple_new ?_⟩)));rw[A4 F.plain_tuple_new _];have s1:=sub_tuple_self;have s2:=init_tuple_lookup;have q:=madeHere_tuple;have o:s.TypeIs (.ref it) "list_reverseiterator":=g.typeIs;have k:A.in1.handled=none:=n
 wp_walk using S7 o,De (A:=A.in1) k g hl j m
 intro f c p d;show wpAny _ _ (x5 c.toList.toArray >>= λv=>ret v) _ _ _;unfold x5;have e:c.toList.toArray=c:=by simp
 rw[e];exact f7 (C5 (i3 (h f c p d)) (by show c.size≤sizeLine;rw[d.1];exact m))
theorem oS {Q:Value→Shared→Prop}(m:A.handled=none)(j:s.heap.IsRevIter it l ((items.size:Int)-1))(hl:s.heap.IsList l items)(k:l≠it)(n:items.size≤sizeLine)
  (h:∀f e,Moved [it] (λa b=>b=a) s f→tN (λi v=>items[items.size-1-i]?=some v) e items.size→Q (.ref f.heap.objs.size) {f with heap:=f.heap.push {cls:=.type "tuple",data:=.seq e}}):
  wpAny (model prog w) A (call (.type "tuple") [.ref it]) Q E s:=by
 refine vo (Q₁:=λobj c=>c.TypeIs obj "tuple"∧Q obj c) F.called_tuple (F.typeCall_tuple_1 _) F.entry_object_init (oQ (A:=A.in1) m j hl k n λf e o g=>⟨⟨_,Heap.get?_push_size _ rfl,rfl⟩,h f e o g⟩) λobj c d=>?_;exact⟨d.1,F.args_object_init_2 obj _,object_init_meets F.called_tuple.init.lookup F.called_tuple.made (by decide) prog w A.in1 _ c ⟨d.1,rfl,d.2⟩⟩
end
theorem ye {xs:List V}{a:List Value}{b:Array Value}(e:Vals xs a)(h:tN (λi v=>a.toArray[a.toArray.size-1-i]?=some v) b a.toArray.size):b.toList=a.reverse:=by
 apply List.ext_getElem?;intro j;have hs:b.size=a.length:=by rw[h.1,List.size_toArray]
 by_cases d:j<a.length
 ·have c:b[j]?=some (b[j]'(by omega)):=Array.getElem?_eq_getElem (by omega);have q:=h.2 j _ c;rw[List.size_toArray]at q;rw[X6,c,List.getElem?_reverse d];rw[List.getElem?_toArray]at q;exact q.symm
 ·rw[List.getElem?_eq_none (by rw[C1];omega),List.getElem?_eq_none (by rw[List.length_reverse];omega)]
theorem pD:∀{xs:List V} {us:List Value},Vals xs us→Vals xs.reverse us.reverse
 |_,_,.nil=>.nil
 |_,_,.cons r rs=>by
  rw[List.reverse_cons,List.reverse_cons];exact(pD rs).append (.cons r .nil)
section
variable {X:Cx}{e:Expr}{t:TA}{p pos p2 pos2:Pos}
noncomputable def Lu (K:PySem.W.Frag):List V→Hp→VK→Prop:=λvs H Q=>∃a xs,vs=[.ref a]∧P8 K H a xs∧∀l,H l=none→Q (.ref l) (upd H l (.tup xs.reverse))
theorem vW {K:PySem.W.Frag}(S:X.K=K)(T:X.calm=true)(n:Gl X "tuple") (v:X.mg "tuple"=none) (x:Gl X "reversed") (y:X.mg "reversed"=none) (U:PA X [e] t)
  (f:f9 [Expr.Call (.Name "reversed" p2) [e] [] pos2] X.env=(false,eval (Expr.Call (.Name "reversed" p2) [e] [] pos2) X.env)::f9 [] X.env) (g:(l8 pos (f9 [] X.env)).any (·.1)=false)
  (A:f9 [e] X.env=(false,eval e X.env)::f9 [] X.env) (i:(l8 pos2 (f9 [] X.env)).any (·.1)=false):
  PE X (.Call (.Name "tuple" p) [.Call (.Name "reversed" p2) [e] [] pos2] [] pos) (GE (Lu K) t):=by
 subst S;intro pins s σ H Q I h;refine t9 (V6 I n v jL ?_ (by decide) (by decide));refine m4 ?_ f g;rw[f];show wpAny _ _ (tL ((false,eval (Expr.Call (.Name "reversed" p2) [e] [] pos2) X.env)::l8 pos (f9 [] X.env))) _ _ s;refine S9 (t9 (V6 I x y (u:=.type "reversed") (by decide +kernel) ?_ (by decide) (by decide)));refine m4 (F0 (U pos2 pins s σ H _ I h) λus s1 ⟨vs,P,B,Y,a,xs,Z,hq,q⟩=>?_) A i;subst Z;obtain⟨u,rfl,ru⟩:=vals1 Y;cases ru;obtain⟨c,E,F,hz⟩:=B.list hq;have hl:=E.length;have G:a<s1.heap.objs.size:=let⟨o,J,_⟩:=F.isList;Heap.lt_size J;refine GQ F.isList (U8 ?_);have L:(s1.heap.push (revObj a ((c.toArray.size:Int)-1))).IsRevIter s1.heap.objs.size a ((c.toArray.size:Int)-1):=⟨_,Heap.get?_push_size _ rfl,rfl,rfl⟩
 have N:(s1.heap.push (revObj a ((c.toArray.size:Int)-1))).IsList a c.toArray:=let⟨o,J,r⟩:=F.isList;⟨o,Heap.get?_push_of_some _ J,r⟩;refine oS (B.ok.hd T) L N (j7 G) (by rw[List.size_toArray];omega) λs' j l k=>?_;obtain⟨h',g',d',d,O⟩:=s';have e1:g'=s1.gens:=l.gens;have e2:d'=s1.drawn:=l.drawn;have e3:O=s1.os:=l.os;subst e1 e2 e3;have kp:∀b o,s1.heap.get? b=some o→h'.get? b=some o:=λb o z=>l.heap b o (λm=>j7 (Heap.lt_size z) (List.mem_singleton.mp m)) (Heap.get?_push_of_some _ z);have R:Inv X pins σ P {s1 with heap:=h',toks:=d}:=B.kept kp;have ea:=ye E k;have eo:(Data.seq j:Data)=.seq (c.reverse).toArray:=by rw[←ea]
 have I3:Inv X pins σ (upd P h'.objs.size (.tup xs.reverse)) {s1 with heap:=h'.push {cls:=.type "tuple",data:=.seq j},toks:=d}:=by
  rw[eo];exact R.laid (t':=d) (λb o e=>Heap.get?_push_of_some _ e) (g8 _) (show I7 X.prog X.w _ _ _ (.tup xs.reverse)from⟨by rw[List.length_reverse];exact hz,c.reverse,pD E,AY _ _⟩)
 exact⟨.ref h'.objs.size,_,I3,rfl,q _ (R.hok.fresh (g8 _))⟩
end
theorem pY {K:PySem.W.Frag}{G:Hp}:∀{xs:List V} {ds:List D},n9 K G xs ds→n9 K G xs.reverse ds.reverse
 | [],[],_=>n9.nil
 | [],_::_,r=>by have:=r.len;simp at this
 |_::_,[],r=>by have:=r.len;simp at this
 |x::xs,d::ds,r=>by
  rw[List.reverse_cons,List.reverse_cons];exact(pY r.tail).append (n9.one r.head)
noncomputable def jt:List D→Option W
 | [.lst ds]=>some (.val (.tup ds.reverse))
 |_=>none
section
variable {X:Cx}{B:Bs}{e:Expr}{mr:M (List W)}{p pos p2 pos2:Pos}
theorem qC:fP B (Lu B.K) jt:=by
 intro G H σ ρ xs ds w Q R h a b
 match ds,a with
 | [.lst ds],a=>
  cases a;obtain⟨x,rfl,c⟩:=G8 h;obtain⟨q,d,rfl,e,f⟩:=c.lst R.gH;refine⟨q,d,rfl,e,λl hl=>?_⟩;obtain⟨G',g,R',i⟩:=R.ov hl (pY f);exact b _ G' _ g R' i
theorem zV (j:X.calm=true)(c:X.mg "tuple"=none) (d:X.mg "reversed"=none) (k:fO X B [e] mr) (f:Gl X "tuple":=by rfl) (g:Gl X "reversed":=by rfl) (l:X.K=B.K:=by rfl)
  (h:f9 [Expr.Call (.Name "reversed" p2) [e] [] pos2] X.env=(false,eval (Expr.Call (.Name "reversed" p2) [e] [] pos2) X.env)::f9 [] X.env:=by rfl) (a:(l8 pos (f9 [] X.env)).any (·.1)=false:=by rfl)
  (i:f9 [e] X.env=(false,eval e X.env)::f9 [] X.env:=by rfl) (b:(l8 pos2 (f9 [] X.env)).any (·.1)=false:=by rfl):
  PD X B (.Call (.Name "tuple" p) [.Call (.Name "reversed" p2) [e] [] pos2] [] pos) (C4 jt mr):=.mk λξ=>
 (vW (X:=rz X ξ) (K:=B.K) l j f c g d (k.ap ξ) h a i b).imp λ_ _ _ t=>pJ qC t
end
noncomputable def Bz:V→List V→Hp→VK→Prop:=λx vs H Q=>∃a b kvs more,x=.ref a∧vs=[.ref b]∧a≠b∧H a=some (.dK kvs)∧Rd H b (.dK more)∧kvs.length+more.length≤sizeLine∧Q .v1 (upd H a (.dK (ic kvs more)))
theorem wj {X:Cx}:Kz X "dict.update" Bz:=by
 intro pins s σ H x vs v us Q I n o h;obtain⟨a,b,kvs,more,rfl,rfl,i,l,p,A,q⟩:=h;cases n;obtain⟨u,rfl,r⟩:=o.one;cases r;obtain⟨z,hd,vs,d,m⟩:=zT I.hok l;obtain⟨B,j,f,c,k⟩:=S2 I.hok p;have E:=d.length;have G:=c.length;have hl:(ic kvs more).length≤sizeLine:=by
  have e:=(ii c d).length;have J:=pw vs f;omega
 refine AW PySem.F.slot_dict_update m.typeIs PySem.F.entry_dict_update (PySem.F.args_dict_update_2 _ _) (meets_dict_update (u1 X.prog X.w) a b i j)
  ⟨vs,f,m,k,by omega,λh' g _ hs=>?_⟩
 have t:∃q,h'.get? a=some q:=let⟨q,_,_,y,_⟩:=g;⟨q,y⟩;exact⟨.v1,_,jH I (by rw[l];exact True.intro) hs t (kT hl hd (ii c d) g),rfl,q⟩
noncomputable def ga (i:Nat)(d:D):M W:=λρ=>match ρ[i]?,d with
 |some (some (.ow l (.dct es))),.dct ps=>cm (small (es.length+ps.length)) (some (.ok (.val .v1) (ρ.set i (some (.ow l (.dct (dH es ps)))))))
 |_,_=>none
noncomputable def Ai (i:Nat):M Unit:=λρ=>match ρ[i]? with
 |some (some (.ow _ (.dct _)))=>some (.ok () ρ)
 |_=>none
theorem vb {i:Nat}{ρ:k0}{r:R' Unit}(h:Ai i ρ=some r):r=.ok () ρ∧∃l es,ρ[i]?=some (some (.ow l (.dct es))):=by
 unfold Ai at h;split at h
 ·rename_i l es e;cases h;exact⟨rfl,l,es,e⟩
 ·cases h
noncomputable def gC (i:Nat)(m:M (List W)):M W:=M.bind (f8 i) λx=>M.bind (Ai i) λ_=>M.bind m λa=>match a with
 | [w]=>M.bind (D0 w) (ga i)
 |_=>λ_=>none
section
variable {X:Cx}{B:Bs}{o e:Expr}{mr:M (List W)}{apos cpos opos:Pos}{x:Str}
theorem qP (i:Nat)(m:PD X B o (f8 i))(U:fO X B [e] mr)
  (d:y7 o "update" X.env (eval o X.env)=eval o X.env:=by rfl)
  (j:((l8 cpos (f9 [e] X.env)).all (λx=>!x.1)&&(z6 cpos (o7 [] X.env)).all (λx=>x.1.isSome)
   && decide (([e]:List Expr).length+([]:List Keyword).length+(if([]:List Keyword).isEmpty then 0 else 1)<30))=true:=by rfl)
  (f:(apos.endLine==cpos.line)=true:=by rfl) (hs:f9 [e] X.env=(false,eval e X.env)::f9 [] X.env:=by rfl) (c:(l8 cpos (f9 [] X.env)).any (·.1)=false:=by rfl) (hK:X.K=B.K:=by rfl):
  PD X B (.Call (.Attribute o "update" apos) [e] [] cpos) (gC i mr):=.mk λξ=>
 (uc (X:=rz X ξ) PySem.F.plainAttrs_dict PySem.F.slot_dict_update PySem.F.type_dict_update wj (m.ap ξ) (U.ap ξ) d j f hs c).imp λσ H Q t=>by
  obtain⟨G,ρ,R,t⟩:=t;refine(TD.At (rel:=C2) R t).mono λx H1 ⟨G1,Y,w,a,s1,N,Z,t2⟩=>?_;obtain⟨rfl,rfl⟩:=dI a;have q:σ[i]?=some (some x):=Z;obtain⟨u,s,y,t3⟩:=t2.step λr h=>⟨(),_,(vb h).1⟩;obtain⟨e3,l0,a0,h0⟩:=vb y;cases e3;obtain⟨z,rfl,g0,k,A,_⟩:=slot_of N h0 q;refine⟨.inr (.inr (.inl ⟨rfl,.inl ⟨k,A⟩⟩)),?_⟩;refine(TD.bind (rel:=M3) N t3).mono λvs H2 ⟨G2,s,ws,s2,R2,E,I⟩=>?_
  match ws,E,I with
  | [],_,⟨r,a,_⟩=>cases a
  |_::_::_,_,⟨r,a,_⟩=>cases a
  | [w],E,I=>
   cases E with
   | @cons v _ vs _ h t=>
    cases t;obtain⟨dv,a1,e4,r,a,p⟩:=I.step λr h=>Z0 h;obtain⟨O,s3,J,P⟩:=h.1.D0 R2 e4;unfold ga at a;split at a
    ·rename_i l es ps hi;obtain⟨hz,a⟩:=o4 a;cases a;obtain⟨pp,ep,g,kvs,hx,S⟩:=slot_of J hi q;cases ep;obtain⟨b,more,rfl,hb,T⟩:=N9.dct J.gH (.inl P);have L:z≠b:=by
      rintro rfl
      obtain⟨o,m⟩:∃o,O z=some o:=by
       cases P with
       |dct n _=>rcases n with n| ⟨_,n⟩<;>exact⟨_,n⟩
      rw[g]at m;cases m
     refine⟨z,b,kvs,more,rfl,rfl,L,hx,hb,?_,?_⟩
     ·have e1:=S.len;have y:=T.len;rw[e1,y,u5];unfold small at hz;omega
     ·exact p .v1 O _ s3 (J.write hi q ⟨ic kvs more,l9,nW T S⟩) .v1
    ·cases a
variable {ρ ρ1 ρ2 ρ3:k0}{w:W}{es es0 ps:List (Key×D)}{i:Nat}{l:Bool}
theorem nc (a:ρ[i]?=some (some (.ow l (.dct es0))))(b:mr ρ=some (.ok [w] ρ1))(hl:D0 w ρ1=some (.ok (.dct ps) ρ2))(c:ρ2[i]?=some (some (.ow l (.dct es))))(d:small (es.length+ps.length))
  (hs:ρ2.set i (some (.ow l (.dct (dH es ps))))=ρ3):I0 (gC i mr) ρ=some (.nx ρ3):=by
 subst hs;refine be (w:=.val .v1) ?_;unfold gC;have e:Ai i ρ=some (.ok () ρ):=by
  unfold Ai;rw[a]
 rw[M.j5 (g4 a),M.j5 e,M.j5 b];show M.bind (D0 w) (ga i) ρ1=_;rw[M.j5 hl];unfold ga;rw[c];exact v6 d
end
noncomputable def qb (f:Str)(d:D):List (Str×D)→List (Str×D)
 | []=>[(f,d)]
 | (g,x)::r=>if g=f then(g,d)::r else(g,x)::qb f d r
section
variable {K:PySem.W.Frag}{G:Hp}{f:Str}
theorem M8.put {v:V}{d:D}(a:f≠S5→Rep K G v d):∀{fs:List (Str×V)} {fds:List (Str×D)},M8 K G fs fds→M8 K G (aL f v fs) (qb f d fds)
 |_,_,.nil=>.cons ⟨rfl,a⟩ .nil
 | (g,x)::fs,(b,y)::fds,.cons h t=>by
  obtain⟨e,c⟩:=h;have e:g=b:=e;subst e;show M8 K G (if g=f then(g,v)::fs else(g,x)::aL f v fs) (if g=f then(g,d)::fds else(g,y)::qb f d fds);by_cases z:g=f
  ·rw[if_pos z,if_pos z];exact .cons ⟨rfl,λn=>a (λw=>n (z.trans w))⟩ t
  ·rw[if_neg z,if_neg z];exact .cons ⟨rfl,c⟩ (M8.put a t)
theorem M8.look:∀{fs:List (Str×V)} {fds:List (Str×D)},M8 K G fs fds→∀{d:D},fds.lookup f=some d→∃v,fs.lookup f=some v∧(f≠S5→Rep K G v d)
 |_,_,.nil,d,e=>by cases e
 | (g,x)::fs,(b,y)::fds,.cons h t,d,e=>by
  obtain⟨a,c⟩:=h;have a:g=b:=a;subst a;by_cases z:f=g
  ·subst z;rw[List.lookup_cons_self]at e⊢;cases e;exact⟨x,rfl,c⟩
  ·have i:(f==g)=false:=beq_eq_false_iff_ne.mpr z;simp only[List.lookup,i]at e⊢;exact M8.look t e
theorem M8.qv:∀{fs:List (Str×V)} {fds:List (Str×D)},M8 K G fs fds→fds.lookup f=none→fs.lookup f=none
 |_,_,.nil,_=>rfl
 | (g,x)::fs,(b,y)::fds,.cons h t,e=>by
  obtain⟨a,d⟩:=h;have a:g=b:=a;subst a;by_cases z:f=g
  ·subst z;rw[List.lookup_cons_self]at e;cases e
  ·have c:(f==g)=false:=beq_eq_false_iff_ne.mpr z;simp only[List.lookup,c]at e⊢;exact M8.qv t e
theorem M8.len {fs:List (Str×V)}{fds:List (Str×D)}(h:M8 K G fs fds):fs.length=fds.length:=Paired.length h
end
structure gZ (K:PySem.W.Frag) (C:Addr) (fns:List Str):Prop where
 cls:AL K C
 no:∀(k:Nat) f,fns[k]?=some f→ef K C f
section
variable {B:Bs}{G H:Hp}{σ:St}{ρ:k0}
theorem RS.tQ {i j:Nat}{C p dx:Addr}{l:Bool}{fds fds':List (Str×D)}{fs fs':List (Str×V)}(R:RS B G H σ ρ)(s:B.O=some (i,j,C))(hi:ρ[i]?=some (some (.ob l fds)))(hs:σ[i]?=some (some (.ref p)))(J:H p=some (.ins C dx fs))(hr:M8 B.K G fs' fds')
  (hl:∀v,fs'.lookup S5=some v→∀d,ρ[j]?=some (some (.ow true d))→σ[j]?=some (some v)):RS B G (upd H p (.ins C dx fs')) σ (ρ.set i (some (.ob l fds'))):=by
 obtain⟨Y,Z,t,L,N,a1,w,A,E,P,a6,a7,a8⟩:=R.ob.1 i l fds hi;rw[hs]at w;cases w;have f:i<ρ.length:=(List.getElem?_eq_some_iff.mp hi).1;refine⟨R.hk,λb u q=>?_,R.g0,λb u q=>?_,R.gnew,λb q=>?_,by simp[R.len],λk e q=>?_,λk o e q=>?_,λk m a b c e t x y=>?_,R.fz.jd (by intro _ h;cases h),λk o g q=>?_,λk g q=>?_⟩
 ·rw[j6 (t8 q E)];exact R.keep b u q
 ·rw[j6 (t8 q A)];exact R.gH b u q
 ·by_cases z:b=p
  ·subst z;rw[l9]at q;cases q
  ·rw[j6 z]at q;exact R.dom b q
 ·by_cases z:i=k
  ·subst z;rw[List.getElem?_set_self f]at q;cases q
  ·rw[List.getElem?_set_ne z]at q;exact R.sh k e q
 ·by_cases z:i=k
  ·subst z;rw[List.getElem?_set_self f]at q;cases q
  ·rw[List.getElem?_set_ne z]at q;obtain⟨Q,n,S,T,U,F⟩:=R.ow k o e q;exact⟨Q,n,S,T,U,F.same (i8.refl G) (j6 (aV F J).symm)⟩
 ·by_cases z:i=k
  ·subst z;rw[List.getElem?_set_self f]at x;cases x
  ·by_cases I:i=m
   ·subst I;rw[List.getElem?_set_self f]at y;cases y
   ·rw[List.getElem?_set_ne z]at x;rw[List.getElem?_set_ne I]at y;exact R.inj k m a b c e t x y
 ·by_cases z:i=k
  ·subst z;rw[List.getElem?_set_self f]at q;cases q;refine⟨j,C,p,dx,fs',s,hs,A,E,P,l9,hr,λv X d hd=>?_⟩;have r:i≠j:=λz=>by rw[←z,List.getElem?_set_self f]at hd;cases hd
   rw[List.getElem?_set_ne r]at hd;exact hl v X d hd
  ·rw[List.getElem?_set_ne z]at q;obtain⟨_,_,_,_,_,n,_⟩:=R.ob.1 k o g q;rw[s]at n;cases n;exact absurd rfl z
 ·rcases Q9 q with⟨_,z⟩ | ⟨_,z⟩
  ·cases z
  ·exact R.ob.2 k g z
end
noncomputable def wS (i:Nat)(f:Str)(ρ:k0):Option D:=match ρ[i]? with
 |some (some (.ob _ fds))=>if f=S5 then none else fds.lookup f
 |_=>none
noncomputable def sy (i:Nat)(f:Str):M W:=λρ=>(wS i f ρ).map λd=>.ok (.val d) ρ
noncomputable def kl (i:Nat)(f:Str)(d:D):SM:=λρ=>match ρ[i]? with
 |some (some (.ob l fds))=>if f=S5 then none else cm (fds.length<1000) (some (.nx (ρ.set i (some (.ob l (qb f d fds))))))
 |_=>none
noncomputable def gd (i:Nat)(f:Str)(a:M W):SM:=D6 a λw=>D6 (D0 w) λd=>kl i f d
noncomputable def qV (i:Nat)(f:Str)(d:M W):SM:=λρ=>match wS i f ρ with
 |some (.int a)=>D6 d (λy c=>match getD y c with
  |some (.int b)=>kl i f (.int (a+b)) c
  |_=>none) ρ
 |_=>none
section
variable {X:Cx}{B:Bs}{x f:Str}{i j:Nat}{C:Addr}{fns:List Str}{e:Expr}{me:M W}{p1 p2 pos:Pos}{G H:Hp}{σ:St}{ρ:k0}
theorem uL {d:D}(b:B.O=some (i,j,C))(R:RS B G H σ ρ)(h:wS i f ρ=some d):∃p dx fs v,σ[i]?=some (some (.ref p))∧H p=some (.ins C dx fs)∧fs.lookup f=some v∧Rep B.K G v d:=by
 unfold wS at h;split at h
 ·rename_i l fds hi;split at h
  ·cases h
  ·rename_i c;obtain⟨n,o,p,dx,fs,a,e,q,s,t,g,k,u⟩:=R.ob.1 i l fds hi;rw[b]at a;cases a;obtain⟨v,m,r⟩:=M8.look k h;exact⟨p,dx,fs,v,e,g,m,r c⟩
 ·cases h
theorem mM {d:D}{v:V}{r:SR}(a:B.O=some (i,j,C))(R:RS B G H σ ρ)(m:Rep B.K G v d)(h:kl i f d ρ=some r):∃p dx fs ρ',σ[i]?=some (some (.ref p))∧H p=some (.ins C dx fs)∧fs.length<1000∧r=.nx ρ'∧RS B G (upd H p (.ins C dx (aL f v fs))) σ ρ':=by
 unfold kl at h;split at h
 ·rename_i l fds hi;split at h
  ·cases h
  ·rename_i n;obtain⟨o,h⟩:=o4 h;cases h;obtain⟨s,t,p,dx,fs,b,c,w,x,y,e,g,q⟩:=R.ob.1 i l fds hi;rw[a]at b;cases b;refine⟨p,dx,fs,_,c,e,by rw[M8.len g];exact o,rfl,R.tQ a hi c e (M8.put (λ_=>m) g) λu k d hd=>?_⟩;rw[aX,if_neg (λz=>n z.symm)]at k;exact q u k d hd
 ·cases h
theorem uW (i j:Nat)(O:gZ X.K C fns)(k:Nat)(b:fns[k]?=some f:=by rfl)(c:B.O=some (i,j,C):=by rfl)(g:X.N[i]?=some x:=by rfl)(h:eR X.env.scope x:=by first|exact Or.inl rfl|exact Or.inr (Or.inl rfl) |exact Or.inr (Or.inr rfl))(hd:(x==("__debug__":Str))=false:=by decide) (a:(x==("__classdict__":Str))=false:=by decide)
  (l:y7 (.Name x p1) f X.env (eval (.Name x p1) X.env)=eval (.Name x p1) X.env:=by rfl):PD X B (.Attribute (.Name x p1) f pos) (sy i f):=.mk λξ=>
 (rT (X:=rz X ξ) (bv (X:=rz X ξ) (i:=i) (pos:=p1) g h hd a) l).imp λσ H Q t=>by
  obtain⟨G,ρ,R,r,e,p⟩:=t;obtain⟨d,hd,rfl⟩:=g7.mp e;obtain⟨q,dx,fs,v,m,n,o,s⟩:=uL c R hd;exact⟨_,m,q,C,dx,fs,v,rfl,n,O.cls,O.no k f b,o,p v G H (i8.refl _) R s⟩
theorem mJ (i j:Nat)(O:gZ X.K C fns)(k:Nat)(b:PD X B e me)(c:fns[k]?=some f:=by rfl)(g:B.O=some (i,j,C):=by rfl)(l:X.N[i]?=some x:=by rfl)(m:eR X.env.scope x:=by first|exact Or.inl rfl|exact Or.inr (Or.inl rfl) |exact Or.inr (Or.inr rfl))(hd:(x==("__debug__":Str))=false:=by decide) (a:(x==("__classdict__":Str))=false:=by decide)
  (hs:S8 e (some (.Attribute (.Name x p1) f p2)) pos.line X.env=pure false:=by rfl):ro X B (.Assign [.Attribute (.Name x p1) f p2] e pos) (gd i f me):=.mk λξ=>
 (yq (X:=rz X ξ) (bv (X:=rz X ξ) (i:=i) (pos:=p1) l m hd a) (b.ap ξ) hs).imp λP σ H t=>by
  obtain⟨G,ρ,R,t⟩:=t;refine(SD.step (rel:=C2) R t).mono λy Q ⟨S,n,w,s1,o,s,u⟩=>?_;obtain⟨d,v,z,r,A,p⟩:=SD.quiet u λr h=>Z0 h;obtain⟨E,s2,R2,F⟩:=s.D0 o z;obtain⟨q,dx,fs,ρ',I,J,L,rfl,R'⟩:=mM g R2 F A;exact⟨_,I,q,C,dx,fs,rfl,J,O.cls,O.no k f c,L,p σ E _ s2 R'⟩
theorem xV (i j:Nat)(O:gZ X.K C fns)(k:Nat)(o:PD X B e me)(s:fns[k]?=some f:=by rfl)(h:B.O=some (i,j,C):=by rfl)(u:X.N[i]?=some x:=by rfl)(z:eR X.env.scope x:=by first|exact Or.inl rfl|exact Or.inr (Or.inl rfl) |exact Or.inr (Or.inr rfl))(hd:(x==("__debug__":Str))=false:=by decide) (c:(x==("__classdict__":Str))=false:=by decide):
  ro X B (.AugAssign (.Attribute (.Name x p1) f p2) .Add e pos) (qV i f me):=.mk λξ=>
 (vR (X:=rz X ξ) (bv (X:=rz X ξ) (i:=i) (pos:=p1) u z hd c) (o.ap ξ) FJ).imp λU σ H t=>by
  obtain⟨G,ρ,R,r,e,p⟩:=t;unfold qV at e;split at e
  ·rename_i a A;obtain⟨q,dx,fs,v,l,E,F,I⟩:=uL h R A;refine⟨_,l,q,C,dx,fs,v,rfl,E,O.cls,O.no k f s,F,?_⟩;refine(SD.step (rel:=C2) R ⟨r,e,p⟩).mono λy Y ⟨J,L,w,s1,m,P,r,e,p⟩=>?_;dsimp only at e;split at e
   ·rename_i b Q;cases I;obtain⟨Z,d,g,ρ',n,S,T,rfl,R'⟩:=mM (v:=.int (a+b)) h m (.int _) e;rw[l]at n;cases n;exact⟨a,b,rfl,(P.get m Q).int,d,g,S,T,p σ J _ (i8.refl _) R'⟩
   ·cases e
  ·cases e
noncomputable def il (i j:Nat)(ρ:k0):Bool:=match ρ[i]?,ρ[j]? with
 |some (some (.ob _ fds)),some (some (.ow true _))=>(fds.lookup S5).isSome
 |_,_=>false
noncomputable def sv (i j:Nat):M W:=λρ=>if il i j ρ=true then some (.ok (.slot j) ρ)else none
theorem vK {i j:Nat}:Aw j (sv i j):=λρ w ρ' h=>by
 unfold sv at h;split at h
 ·cases h;exact⟨rfl,rfl⟩
 ·cases h
theorem tT (m:B.O=some (i,j,C))(R:RS B G H σ ρ)(h:il i j ρ=true):∃l fds p dx fs t d,ρ[i]?=some (some (.ob l fds))∧ρ[j]?=some (some (.ow true d))∧σ[i]?=some (some (.ref p))∧H p=some (.ins C dx fs)∧M8 B.K G fs fds∧fs.lookup S5=some (.ref t)∧σ[j]?=some (some (.ref t))∧G p=none∧A6 B.K G H t d:=by
 unfold il at h;split at h
 ·rename_i l fds d hi a;obtain⟨u,b⟩:=A1.mp h;obtain⟨w,x,p,dx,fs,c,n,o,y,z,q,f,r⟩:=R.ob.1 i l fds hi;rw[m]at c;cases c;obtain⟨v,g,_⟩:=M8.look f b;have e:=r v g d a;obtain⟨t,k,A,E,F,s⟩:=R.ow j true d a;rw[e]at k;cases k;exact⟨l,fds,p,dx,fs,t,d,hi,a,n,q,f,g,e,o,s⟩
 ·cases h
theorem DM (i j:Nat)(O:gZ X.K C fns)(k:Nat)(b:fns[k]?=some S5:=by rfl)(c:B.O=some (i,j,C):=by rfl)(f:X.N[i]?=some x:=by rfl)(g:eR X.env.scope x:=by first|exact Or.inl rfl|exact Or.inr (Or.inl rfl) |exact Or.inr (Or.inr rfl))(hd:(x==("__debug__":Str))=false:=by decide) (a:(x==("__classdict__":Str))=false:=by decide)
  (h:y7 (.Name x p1) S5 X.env (eval (.Name x p1) X.env)=eval (.Name x p1) X.env:=by rfl):PD X B (.Attribute (.Name x p1) S5 pos) (sv i j):=.mk λξ=>
 (rT (X:=rz X ξ) (bv (X:=rz X ξ) (i:=i) (pos:=p1) f g hd a) h).imp λσ H Q t=>by
  obtain⟨G,ρ,R,r,e,p⟩:=t;unfold sv at e;split at e
  ·rename_i m;cases e;obtain⟨l,fds,q,dx,fs,t,d,v,w,n,o,y,s,u,z,A⟩:=tT c R m;exact⟨_,n,q,C,dx,fs,_,rfl,o,O.cls,O.no k S5 b,s,p _ G H (i8.refl _) R u⟩
  ·cases e
end
theorem _root_.L2.Inv.ghost {X:Cx}{pins:List (Addr×Obj)}{σ:St}{H:Hp}{s:Shared}{j:Nat}{g:Str}(v:Option V)(I:Inv X pins σ H s)(d:X.N[j]?=some g)(e:¬eR X.env.scope g):Inv X pins (σ.set j v) H s:=by
 obtain⟨m,f,h⟩:=I.loc;refine⟨I.ok,I.os,I.bare,I.base,⟨m,f,λi x u b c a=>h i x u b ?_ a⟩,I.cell,I.free,I.freeC,I.pin,I.hok,by rw[List.length_set];exact I.len⟩;by_cases z:j=i
 ·subst z;rw[d]at b;cases b;exact absurd a e
 ·rw[List.getElem?_set_ne z]at c;exact c
section
variable {X:Cx}{j:Nat}{g:Str}
theorem vQ {st:List Stmt}{t:TS}(h:lA X st t)(a:X.N[j]?=some g)(b:¬eR X.env.scope g):lA X st (λD σ H=>∃v,t D (σ.set j v) H):=λpins s σ H D I ⟨v,q⟩=>h pins s _ H D (I.ghost v a b) q
theorem qc {st:Stmt}{t:TS}(h:PS X st t)(b:X.N[j]?=some g)(c:¬eR X.env.scope g):PS X st (λD σ H=>t {D with nx:=λa H'=>∃v,D.nx (a.set j v) H'} σ H):=λpins s σ H D I q=>
 z5 (h pins s σ H _ I q) (λd i z=>by
  cases d with
  |next=>obtain⟨a,H',f,v,q⟩:=z;exact⟨a.set j v,H',f.ghost v b c,q⟩
  |brk=>exact z
  |cont=>exact z
  |ret u=>exact z) λe s z=>z
end
section
variable {B:Bs}{G H:Hp}{σ:St}{ρ:k0}
theorem RS.Dz {i j:Nat}{C t:Addr}{d:D}(R:RS B G H σ ρ)(w:B.O=some (i,j,C))(I:B.L j=none)(f:j<ρ.length)(h:E2 B G H σ ρ (.ref t) (.own d))
  (hl:∀l fds p dx fs,ρ[i]?=some (some (.ob l fds))→σ[i]?=some (some (.ref p))→H p=some (.ins C dx fs)→∀v,fs.lookup S5=some v→v=.ref t):RS B G H (σ.set j (some (.ref t))) (ρ.set j (some (.ow true d))):=by
 obtain⟨p,e,g,x,o,ne⟩:=h;cases e;have hs:j<σ.length:=by rw[R.len];exact f
 have y:B.gh j=true:=by unfold Bs.gh;rw[w];simp
 refine⟨R.hk,R.keep,R.g0,R.gH,R.gnew,R.dom,by simp[R.len],λk q c=>?_,λk l q c=>?_,λk m l q A E J a b=>?_,R.fz.pQ (by intro _ h;cases h),λk l fds c=>?_,λk fds c=>?_⟩
 ·by_cases z:j=k
  ·subst z;rw[List.getElem?_set_self f]at c;cases c
  ·rw[List.getElem?_set_ne z]at c⊢;exact R.sh k q c
 ·by_cases z:j=k
  ·subst z;rw[List.getElem?_set_self f]at c;cases c;refine⟨t,by rw[List.getElem?_set_self hs],g,?_,.inr ⟨y,I,x⟩,o⟩;cases N:B.HK t with
   |none=>rfl
   |some ob=>rw[R.hk t ob N]at x;cases x
  ·rw[List.getElem?_set_ne z]at c⊢;exact R.ow k l q c
 ·by_cases z:j=k
  ·by_cases u:j=m
   ·intro _ _;omega
   ·subst z;rw[List.getElem?_set_self hs,List.getElem?_set_ne u];rw[List.getElem?_set_ne u]at b;intro r s;cases r;exact absurd s (ne m A E b)
  ·by_cases u:j=m
   ·subst u;rw[List.getElem?_set_self hs,List.getElem?_set_ne z];rw[List.getElem?_set_ne z]at a;intro r s;cases s;exact absurd r (ne k l q a)
   ·rw[List.getElem?_set_ne z]at a⊢;rw[List.getElem?_set_ne u]at b⊢;exact R.inj k m l q A E J a b
 ·by_cases z:j=k
  ·subst z;rw[List.getElem?_set_self f]at c;cases c
  ·rw[List.getElem?_set_ne z]at c⊢;obtain⟨Y,Z,p,dx,fs,r,s,P,Q,S,F,T,a8⟩:=R.ob.1 k l fds c;rw[w]at r;cases r;refine⟨j,C,p,dx,fs,w,s,P,Q,S,F,T,λv U q X=>?_⟩;rw[List.getElem?_set_self hs,hl l fds p dx fs c s F v U]
 ·rcases Q9 c with⟨_,z⟩ | ⟨n,z⟩
  ·cases z
  ·rw[List.getElem?_set_ne n];exact R.ob.2 k fds z
end
noncomputable def tabS (i j:Nat)(a:M W):SM:=D6 a λw ρ=>match w,ρ[i]? with
 |.own (.dct es),some (some (.ob l fds))=>cm (j<ρ.length∧i≠j∧fds.length<1000∧ρ[j]?.join.isNone=true) (some (.nx ((ρ.set i (some (.ob l (qb S5 .v1 fds)))).set j (some (.ow true (.dct es))))))
 |_,_=>none
section
variable {X:Cx}{B:Bs}{x g:Str}{i j:Nat}{C:Addr}{fns:List Str}{e:Expr}{me:M W}{p1 p2 pos:Pos}
theorem Hr (i j:Nat)(O:gZ X.K C fns)(k:Nat)(Z:PD X B e me)(hL:B.L j=none)(hg:¬eR X.env.scope g)(hj:X.N[j]?=some g:=by rfl)(hf:fns[k]?=some S5:=by rfl)(f:B.O=some (i,j,C):=by rfl)(hN:X.N[i]?=some x:=by rfl)(b:eR X.env.scope x:=by first|exact Or.inl rfl|exact Or.inr (Or.inl rfl) |exact Or.inr (Or.inr rfl))(hd:(x==("__debug__":Str))=false:=by decide) (m:(x==("__classdict__":Str))=false:=by decide)
  (hs:S8 e (some (.Attribute (.Name x p1) S5 p2)) pos.line X.env=pure false:=by rfl):ro X B (.Assign [.Attribute (.Name x p1) S5 p2] e pos) (tabS i j me):=.mk λξ=>
 (qc (j:=j) (g:=g) (yq (X:=rz X ξ) (bv (X:=rz X ξ) (i:=i) (pos:=p1) hN b hd m) (Z.ap ξ) hs) hj hg).imp λDn σ H t=>by
  obtain⟨G,ρ,R,t⟩:=t;refine(SD.step (rel:=C2) R t).mono λy H1 ⟨E,a,w,s1,F,q1,r,e,p⟩=>?_;dsimp only at e;split at e
  ·rename_i es l fds hi;obtain⟨⟨z1,z2,z3,I⟩,e⟩:=o4 e;cases e;obtain⟨j',C',q,dx,fs,J,s,a3,a4,a5,u,P,a8⟩:=F.ob.1 i l fds hi;rw[f]at J;cases J;obtain⟨t,rfl,g1,g2,o,ne⟩:=q1;have nj:∀d,a[j]?≠some (some (.ow true d)):=λd h=>by rw[h]at I;cases I
   have R2:=F.tQ (fs':=aL S5 (.ref t) fs) (fds':=qb S5 .v1 fds) f hi s u (M8.put (λn=>absurd rfl n) P) λv _ d hd=>absurd hd (nj d);have ho:A6 B.K E (upd H1 q (.ins C dx (aL S5 (.ref t) fs))) t (.dct es):=o.same (i8.refl _) (j6 (aV o u).symm);have R3:=R2.Dz (d:=.dct es) f hL (by simpa using z1) ⟨t,rfl,g1,g2,ho,λk Q e2 c z=>?_⟩ λQ S p2 a0 a9 b1 T U v b=>?_
   ·refine⟨_,s,q,C,dx,fs,rfl,u,O.cls,O.no k S5 hf,by rw[M8.len P];exact z3,some (.ref t),p _ E _ (i8.refl _) R3⟩
   ·have A:i<a.length:=(List.getElem?_eq_some_iff.mp hi).1;by_cases Y:i=k
    ·subst Y;rw[List.getElem?_set_self A]at c;cases c
    ·rw[List.getElem?_set_ne Y]at c;exact ne k Q e2 c z
   ·rw[s]at T;cases T;rw[l9]at U;cases U;rw[aX,if_pos rfl]at b;exact(i9 b).symm
  ·cases e
end
inductive MR where
 |ret (d:D) (fds:List (Str×D)) (es:List (Key×D))
structure tJ (K:PySem.W.Frag) (C:Addr) (G H:Hp) (p t:Addr) (G' H':Hp) (fds:List (Str×D)) (es:List (Key×D)):Prop where
 keep:i8 (minus H [p,t]) H'
 gg:i8 G G'
 gH:i8 G' H'
 gnew:∀q o,G' q=some o→G q=some o∨H q=none
 dom:∀q,H' q=none→H q=none
 ob:∃dx fs,H' p=some (.ins C dx fs)∧M8 K G' fs fds∧fs.lookup S5=some (.ref t)
 gp:G' p=none
 gt:G' t=none
 tb:A6 K G' H' t (.dct es)
noncomputable def pk (K:PySem.W.Frag)(C:Addr)(e:Nat)(f:List (Str×D)→List (Key×D)→List D→Option MR):Sp:=λvs H Q E=>∃G p t a dx fs fds es ds d b c,vs=.ref p::a∧ds.length+1=e∧i8 G H∧G p=none∧G t=none∧H p=some (.ins C dx fs)∧M8 K G fs fds∧fs.lookup S5=some (.ref t)∧
 A6 K G H t (.dct es)∧n9 K G a ds∧f fds es ds=some (.ret d b c)∧∀v G' H',tJ K C G H p t G' H' b c→Rep K G' v d→Q v H'
theorem pk.imp {K:PySem.W.Frag}{C:Addr}{b:Nat}{c a:List (Str×D)→List (Key×D)→List D→Option MR}(h:∀fds es ds r,c fds es ds=some r→a fds es ds=some r):∀vs H Q E,pk K C b c vs H Q E→pk K C b a vs H Q E:=by
 rintro vs H Q E ⟨G,p,t,rest,dx,fs,fds,es,ds,d,fds',es',a1,a2,a3,a4,a5,a6,a7,a8,a9,a10,a11,a12⟩
 exact⟨G,p,t,rest,dx,fs,fds,es,ds,d,fds',es',a1,a2,a3,a4,a5,a6,a7,a8,a9,a10,h _ _ _ _ a11,a12⟩
noncomputable def aj (n:Nat)(fds:List (Str×D))(ds:List D):k0:=(some (.ob true fds)::ds.map λd=>some (C.sh d))++List.replicate (n-(ds.length+1)) none
noncomputable def startM (n j:Nat)(fds:List (Str×D))(es:List (Key×D))(ds:List D):k0:=(aj n fds ds).set j (some (.ow true (.dct es)))
noncomputable def wU (j:Nat)(d:D)(ρ:k0):Option MR:=match(ρ[0]?:Option (Option C)),(ρ[j]?:Option (Option C))with
 |some (some (.ob true fds)),some (some (.ow true (.dct es)))=>if(fds.lookup S5).isSome=true then some (.ret d fds es)else none
 |_,_=>none
noncomputable def Fc (j:Nat):SR→Option MR
 |.nx ρ=>wU j .v1 ρ
 |.rt (.val d) ρ=>wU j d ρ
 |_=>none
noncomputable def runM (m:SM)(n j:Nat)(fds:List (Str×D))(es:List (Key×D))(ds:List D):Option MR:=(m (startM n j fds es ds)).bind (Fc j)
theorem E4 {n i:Nat}{fds:List (Str×D)}{ds:List D}{c:C}(h:(aj n fds ds)[i]?=some (some c)):(i=0∧c=.ob true fds)∨∃k d,i=k+1∧ds[k]?=some d∧c=.sh d:=by
 unfold aj at h;by_cases hi:i<(some (C.ob true fds)::ds.map λd=>some (C.sh d)).length
 ·rw[List.getElem?_append_left hi]at h;cases i with
  |zero=>cases h;exact .inl ⟨rfl,rfl⟩
  |succ k=>
   rw[List.getElem?_cons_succ,List.getElem?_map]at h;cases e:ds[k]? with
   |none=>rw[e]at h;cases h
   |some d=>rw[e]at h;cases h;exact .inr ⟨k,d,rfl,e,rfl⟩
 ·rw[List.getElem?_append_right (by omega),List.getElem?_replicate]at h;split at h<;>cases h
theorem jS {n:Nat}{fds:List (Str×D)}{ds:List D}(h:ds.length+1≤n):(aj n fds ds).length=n:=by
 unfold aj;simp;omega
theorem gc {N:List Str}{vs:List V}(h:vs.length≤N.length):(start N vs).length=N.length:=by
 unfold L2.start;rw[List.length_append,List.length_map,List.length_replicate];omega
section
variable {K:PySem.W.Frag}{G H:Hp}{N:List Str}{C p t dx:Addr}{rest:List V}{fs:List (Str×V)}{fds:List (Str×D)}{es:List (Key×D)}{ds:List D}{j:Nat}
theorem mK {L:Nat→Option Addr}{HK:Hp}(hk:i8 HK H)(h:HK p=none)(t:L 0=some p)(g:i8 G H)(gp:G p=none)(u:H p=some (.ins C dx fs))(w:M8 K G fs fds)(m:n9 K G rest ds)(n:ds.length+1≤N.length)(x:ds.length<j):
  RS ⟨K,H,HK,G,L,some (0,j,C)⟩ G H (start N (.ref p::rest)) (aj N.length fds ds):=by
 refine⟨hk,hk,i8.refl _,g,λq o e=>.inl e,λq e=>e,?_,λi d e=>?_,λi l d e=>?_,λi k l d y e A a b=>?_,λi es e=>?_,λi l f e=>?_,λi f e=>?_⟩
 ·rw[jS n,gc (by rw[List.length_cons,m.len];exact n)]
 ·rcases E4 e with⟨_,z⟩ | ⟨k,c,rfl,hd,z⟩
  ·cases z
  ·cases z;obtain⟨v,s,r⟩:=m.at hd;exact⟨v,R9 (by rw[List.getElem?_cons_succ];exact s),r⟩
 ·rcases E4 e with⟨_,z⟩ | ⟨k,c,_,_,z⟩<;>cases z
 ·rcases E4 a with⟨_,z⟩ | ⟨k,c,_,_,z⟩<;>cases z
 ·rcases E4 e with⟨_,z⟩ | ⟨k,c,_,_,z⟩<;>cases z
 ·rcases E4 e with⟨rfl,z⟩ | ⟨k,c,_,_,z⟩<;>cases z;refine⟨j,C,p,dx,fs,rfl,R9 rfl,gp,h,⟨λ_=>t,λz=>by cases z⟩,u,w,λv s d hd=>?_⟩;rcases E4 hd with⟨_,z⟩ | ⟨k,c,_,_,z⟩<;>cases z
 ·rcases E4 e with⟨_,z⟩ | ⟨k,c,_,_,z⟩<;>cases z
theorem vO (g:i8 G H)(gp:G p=none)(gt:G t=none)(r:H p=some (.ins C dx fs))(s:M8 K G fs fds)(lk:fs.lookup S5=some (.ref t))(tb:A6 K G H t (.dct es))(u:n9 K G rest ds)(B:j<N.length)(y:ds.length<j):
  RS ⟨K,H,minus H [p,t],G,λi=>if i=0 then some p else if i=j then some t else none,some (0,j,C)⟩ G H ((start N (.ref p::rest)).set j (some (.ref t))) (startM N.length j fds es ds):=by
 have R:=mK (N:=N) (rest:=rest) (L:=λi=>if i=0 then some p else if i=j then some t else none) (N2 H [p,t]) (bU (by simp)) rfl g gp r s u (by omega) y;have hl:(aj N.length fds ds).length=N.length:=jS (by omega);have hs:(start N (.ref p::rest)).length=N.length:=gc (by rw[List.length_cons,u.len];omega);have o:j≠0:=by omega
 have now:∀{k:Nat} {l:Bool} {d:D},(aj N.length fds ds)[k]?≠some (some (.ow l d)):=λ{k l d} e=>by rcases E4 e with⟨_,z⟩ | ⟨_,_,_,_,z⟩<;>cases z
 unfold startM;refine⟨R.hk,R.keep,R.g0,R.gH,R.gnew,R.dom,by simp[R.len],λk q c=>?_,λk l q c=>?_,λk m l q E F I a b=>?_,R.fz.pQ (by intro _ h;cases h),λk l f c=>?_,λk f c=>?_⟩
 ·by_cases z:j=k
  ·subst z;rw[List.getElem?_set_self (by omega)]at c;cases c
  ·rw[List.getElem?_set_ne z]at c⊢;exact R.sh k q c
 ·by_cases z:j=k
  ·subst z;rw[List.getElem?_set_self (by omega)]at c;cases c;refine⟨t,by rw[List.getElem?_set_self (by omega)],gt,bU (by simp),.inl ?_,tb⟩;show(if j=0 then some p else if j=j then some t else none)=some t;rw[if_neg o,if_pos rfl]
  ·rw[List.getElem?_set_ne z]at c;exact absurd c now
 ·by_cases z:j=k
  ·by_cases A:j=m
   ·intro _ _;omega
   ·rw[List.getElem?_set_ne A]at b;exact absurd b now
  ·rw[List.getElem?_set_ne z]at a;exact absurd a now
 ·by_cases z:j=k
  ·subst z;rw[List.getElem?_set_self (by omega)]at c;cases c
  ·rw[List.getElem?_set_ne z]at c⊢;rcases E4 c with⟨rfl,w⟩ | ⟨_,_,_,_,w⟩<;>cases w
   refine⟨j,C,p,dx,fs,rfl,R9 rfl,gp,bU (by simp),⟨λ_=>rfl,λz=>by cases z⟩,r,s,λv x d hd=>?_⟩;rw[lk]at x;cases x;rw[List.getElem?_set_self (by omega)]
 ·rcases Q9 c with⟨_,z⟩ | ⟨n,z⟩
  ·cases z
  ·rcases E4 z with⟨_,z⟩ | ⟨_,_,_,_,z⟩<;>cases z
end
section
variable {P:Program}{w:World}{K:PySem.W.Frag}{mg:Str→Option Value}{base:Heap}
theorem uJ {x qual g:Str}{st:Stmt}{f C:Addr}{fd:FuncData}{N ps:List Str}{k:Nat}(j:Nat){m:SM}(F:bo K x qual st f fd)(S:m7 N ps (j3 st))(hj:N[j]?=some g)(hg:¬eR (j3 st) g)(b0:ps.length≤j)
  (n:∀(cdv:Value) (A:Around) (outer:List Env) (s:Shared) (H:Hp) (E:XK) (H0 HK G0:Hp) (L:Nat→Option Addr),O6 k (A.deeper (bM qual (j3 st) s.heap.objs.size f cdv))→
   iu (lg W0 P w K mg base N qual (j3 st) f cdv A outer s H E) ⟨K,H0,HK,G0,L,some (0,j,C)⟩ (F9 st) m):x2 P w K mg base W0 (k+1) f fd ps (pk K C ps.length (runM m N.length j)):=by
 have R:j<N.length:=(List.getElem?_eq_some_iff.mp hj).1;refine F.ok S (λvs H Q E h=>?_) (λcdv A outer s H vs Q E hr h=>?_)
 ·obtain⟨G,p,t,u,dx,fs,fds,es,ds,d,a,c,rfl,a2,a3,a4,a5,a6,a7,a8,a9,o,b9,c0⟩:=h;rw[List.length_cons,o.len,a2]
 obtain⟨G,p,t,u,dx,fs,fds,es,ds,d,a,c,rfl,a2,a3,a4,a5,a6,a7,a8,a9,o,y,q⟩:=h;refine⟨_,vQ (j:=j) (g:=g) (((n cdv A outer s H E H (minus H [p,t]) G (λi=>if i=0 then some p else if i=j then some t else none) hr).ap λ_ _ _=>False).ah (λe s z=>?_)) hj hg,?_⟩
 ·obtain⟨_,_,_,_,_,_,z⟩:=z;exact z
 have R0:=vO (N:=N) (j:=j) a3 a4 a5 a6 a7 a8 a9 o R (by omega);unfold runM at y;cases hs:m (startM N.length j fds es ds)with
 |none=>rw[hs]at y;cases y
 |some T=>
  rw[hs]at y;have b:Fc j T=some (.ret d a c):=y;refine⟨some (.ref t),G,_,R0,T,hs,?_⟩;have fin:∀{ρ':k0} {l:St} {G' H':Hp} {O:D},wU j O ρ'=some (.ret d a c)→RS ⟨K,H,minus H [p,t],G,λi=>if i=0 then some p else if i=j then some t else none,some (0,j,C)⟩ G' H' l ρ'→tJ K C G H p t G' H' a c∧O=d:=λ{ρ' l G' H' O} e R'=>by
   unfold wU at e;split at e
   ·rename_i a1 c6 h0 B;split at e
    ·rename_i r;cases e;obtain⟨dd,U⟩:=A1.mp r;obtain⟨j',C',p',X,Y,b1,b2,b3,b4,b5,b6,b7,b8⟩:=R'.ob.1 0 true a h0;cases b1;have ep:some p=some p':=b5.1 rfl;cases ep;obtain⟨v,hv,_⟩:=M8.look b7 U;have ev:=b8 v hv _ B;obtain⟨t',c1,c2,c3,c4,c5⟩:=R'.ow j true _ B;have Z:j≠0:=by omega
     have et:t'=t:=by
      have I:(if j=0 then some p else if j=j then some t else none)=some t:=by rw[if_neg Z,if_pos rfl]
      rcases c4 with z| ⟨_,z,_⟩
      ·have J:(if j=0 then some p else if j=j then some t else none)=some t':=z;rw[I]at J;exact(i9 J).symm
      ·have J:(if j=0 then some p else if j=j then some t else none)=none:=z;rw[I]at J;cases J
     subst et;rw[ev]at c1;cases c1;exact⟨⟨R'.keep,R'.g0,R'.gH,R'.gnew,R'.dom,⟨X,Y,b6,b7,hv⟩,b3,c2,c5⟩,rfl⟩
    ·cases e
   ·cases e
  cases T with
  |nx ρ'=>
   refine λl G' H' s' R'=>?_;obtain⟨A',z⟩:=fin b R';exact q .v1 G' H' A' (z▸.v1)
  |rt w' ρ'=>
   cases w' with
   |slot i=>cases b
   |own d=>cases b
   |val O=>
    refine λv l G' H' s' R' a0=>?_;obtain⟨A',z⟩:=fin b R';exact q v G' H' A' (z▸a0)
  |ex x ρ'=>cases b
  |bk ρ'=>cases b
  |ct ρ'=>cases b
end
def xp (P:Program)(w:World)(K:PySem.W.Frag)(mg:Str→Option Value)(base:Heap)(k:Nat)(C:Addr)(m:Str)(ps:List Str)(sp:Sp):Prop:=
 ∃(f:Addr) (fd:FuncData),x2 P w K mg base W0 k f fd ps sp∧Binds K fd ps []∧Meth K C m f
noncomputable def JZ (i:Nat)(f:Str)(ρ:k0):Option D:=match ρ[i]? with
 |some (some (.rd fds))=>if f=S5 then none else fds.lookup f
 |_=>none
noncomputable def HW (i:Nat)(f:Str):M W:=λρ=>(JZ i f ρ).map λd=>.ok (.val d) ρ
section
variable {X:Cx}{B:Bs}{x f:Str}{i:Nat}{C:Addr}{fns:List Str}{p1 pos:Pos}
theorem Km (i:Nat){g h:Nat}(O:gZ X.K C fns)(k:Nat)(j:fns[k]?=some f:=by rfl)(l:B.O=some (g,h,C):=by rfl)(m:X.N[i]?=some x:=by rfl)(a:eR X.env.scope x:=by first|exact Or.inl rfl|exact Or.inr (Or.inl rfl) |exact Or.inr (Or.inr rfl))(hd:(x==("__debug__":Str))=false:=by decide) (b:(x==("__classdict__":Str))=false:=by decide)
  (n:y7 (.Name x p1) f X.env (eval (.Name x p1) X.env)=eval (.Name x p1) X.env:=by rfl):PD X B (.Attribute (.Name x p1) f pos) (HW i f):=.mk λξ=>
 (rT (X:=rz X ξ) (bv (X:=rz X ξ) (i:=i) (pos:=p1) m a hd b) n).imp λσ H Q t=>by
  obtain⟨G,ρ,R,r,e,p⟩:=t;obtain⟨d,hd,rfl⟩:=g7.mp e;unfold JZ at hd;split at hd
  ·rename_i fds hi;split at hd
   ·cases hd
   ·rename_i o;obtain⟨y,z,A,q,dx,fs,c,s,u,w⟩:=R.ob.2 i fds hi;rw[l]at c;cases c;obtain⟨v,a,r⟩:=M8.look w hd;exact⟨_,s,q,C,dx,fs,v,rfl,R.keep _ _ u,O.cls,O.no k f j,a,p v G H (i8.refl _) R (r o)⟩
  ·cases hd
end
section
variable {B:Bs}{G H G' H':Hp}{σ:St}{ρ:k0}
theorem RS.Go {i j:Nat}{C p t dx:Addr}{l:Bool}{fs:List (Str×V)}{fds a:List (Str×D)}{f:List (Key×D)}{d:D}(R:RS B G H σ ρ)(hO:B.O=some (i,j,C))(hi:ρ[i]?=some (some (.ob l fds)))(I:ρ[j]?=some (some (.ow true d)))(hs:σ[i]?=some (some (.ref p)))(hp:H p=some (.ins C dx fs))(Q:σ[j]?=some (some (.ref t)))
  (A:tJ B.K C G H p t G' H' a f):RS B G' H' σ ((ρ.set i (some (.ob l a))).set j (some (.ow true (.dct f)))):=by
 obtain⟨j',C',p',b6,J,a1,a2,a3,a4,a5,a6,a7,a8⟩:=R.ob.1 i l fds hi;rw[hs]at a2;cases a2;obtain⟨t',b1,b2,b3,b4,b5⟩:=R.ow j true d I;rw[Q]at b1;cases b1;have b7:i<ρ.length:=(List.getElem?_eq_some_iff.mp hi).1;have b8:j<ρ.length:=(List.getElem?_eq_some_iff.mp I).1;have b9:i≠j:=λz=>by rw[z,I]at hi;cases hi
 have n:∀b o,H b=some o→b≠p→b≠t→H' b=some o:=λb o e S L=>A.keep b o (by rw[V3 (by simp[S,L])];exact e);have N:∀b o,H b=some o→G b=none→G' b=none:=λb o e g=>by
  cases q:G' b with
  |none=>rfl
  |some u=>
   rcases A.gnew b u q with z|z
   ·rw[g]at z;cases z
   ·rw[e]at z;cases z
 have at':∀{k:Nat} {c:L3.C},((ρ.set i (some (.ob l a))).set j (some (.ow true (.dct f))))[k]?=some (some c)→(k=j∧c=.ow true (.dct f))∨(k≠j∧k=i∧c=.ob l a)∨(k≠j∧k≠i∧ρ[k]?=some (some c)):=λ{k c} e=>by
  rcases Q9 e with⟨z,T⟩ | ⟨z,T⟩
  ·cases T;exact .inl ⟨z.symm,rfl⟩
  ·rcases Q9 T with⟨U,P⟩ | ⟨U,P⟩
   ·cases P;exact .inr (.inl ⟨w5 z,U.symm,rfl⟩)
   ·exact .inr (.inr ⟨w5 z,w5 U,P⟩)
 refine⟨R.hk,λb u q=>n b u (R.keep b u q) (t8 q a4) (t8 q b3),R.g0.trans A.gg,A.gH,λb u q=>?_,λb q=>R.dom b (A.dom b q),by simp[R.len],λk e q=>?_,λk s e q=>?_,λk m la da lb db p' x y hx hy=>?_,(R.fz.same A.gg).jd (by intro _ h;cases h) |>.jd (by intro _ h;cases h),?_,?_⟩
 ·rcases A.gnew b u q with z|z
  ·exact R.gnew b u z
  ·exact .inr (R.dom b z)
 ·rcases at' q with⟨_,z⟩ | ⟨_,_,z⟩ | ⟨_,_,z⟩
  ·cases z
  ·cases z
  ·obtain⟨v,h1,h2⟩:=R.sh k e z;exact⟨v,h1,h2.same A.gg⟩
 ·rcases at' q with⟨E,z⟩ | ⟨_,_,z⟩ | ⟨S,L,z⟩
  ·cases z;subst E;exact⟨t,Q,A.gt,b3,b4,A.tb⟩
  ·cases z
  ·obtain⟨F,w,X,Y,Z,c5⟩:=R.ow k s e z;obtain⟨o,ho⟩:=c5.some;have e1:F≠p:=(aV c5 a6).symm;have P:F≠t:=λzz=>S (R.inj k j s e true d F z I w (by rw[Q,zz]));exact⟨F,w,N F o ho X,Y,Z,c5.same A.gg ((n F o ho e1 P).trans ho.symm)⟩
 ·have old:∀{k:Nat} {s:Bool} {e:D},((ρ.set i (some (.ob l a))).set j (some (.ow true (.dct f))))[k]?=some (some (.ow s e))→∃s e,ρ[k]?=some (some (.ow s e)):=λ{k s e} h=>by
   rcases at' h with⟨E,_⟩ | ⟨_,_,z⟩ | ⟨_,_,z⟩
   ·rw[E];exact⟨_,_,I⟩
   ·cases z
   ·exact⟨_,_,z⟩
  obtain⟨_,_,x'⟩:=old x;obtain⟨_,_,y'⟩:=old y;exact R.inj k m _ _ _ _ p' x' y' hx hy
 ·intro k s r q;rcases at' q with⟨_,z⟩ | ⟨_,E,z⟩ | ⟨_,L,z⟩
  ·cases z
  ·cases z;subst E;obtain⟨a0,a9,d1,d2,d3⟩:=A.ob;refine⟨j,C,p,a0,a9,hO,hs,A.gp,a4,a5,d1,d2,λv hv _ _=>?_⟩;rw[d3]at hv;cases hv;exact Q
  ·obtain⟨_,_,_,_,_,w,_⟩:=R.ob.1 k s r z;rw[hO]at w;cases w;exact absurd rfl L
 ·intro k r q;rcases at' q with⟨_,z⟩ | ⟨_,E,z⟩ | ⟨_,L,z⟩
  ·cases z
  ·cases z
  ·obtain⟨i0,j0,C0,p0,b0,J,w,X,Y,Z⟩:=R.ob.2 k r z;exact⟨i0,j0,C0,p0,b0,J,w,X,Y,Z.same A.gg⟩
end
noncomputable def Aj (i:Nat)(m:Str):M Unit:=λρ=>match ρ[i]? with
 |some (some (.ob _ fds))=>if(fds.lookup m).isNone=true then some (.ok () ρ)else none
 |_=>none
noncomputable def so (i j c:Nat)(e:List (Str×D)→List (Key×D)→List D→Option MR)(ds:List D):M W:=λρ=>match ρ[i]?,ρ[j]? with
 |some (some (.ob l fds)),some (some (.ow true (.dct es)))=>if il i j ρ=true∧ds.length+1=c then match e fds es ds with
  |some (.ret d a b)=>some (.ok (.val d) ((ρ.set i (some (.ob l a))).set j (some (.ow true (.dct b)))))
  |none=>none
  else none
 |_,_=>none
noncomputable def iI (i j:Nat)(m:Str)(a:Nat)(b:List (Str×D)→List (Key×D)→List D→Option MR)(c:M (List W)):M W:=M.bind (f8 i) λ_=>M.bind (Aj i m) λ_=>M.bind c λd=>M.bind (av d) λds=>so i j a b ds
section
variable {X:Cx}{B:Bs}{k i j:Nat}{x m:Str}{C:Addr}{fns ps:List Str}{fm:List (Str×D)→List (Key×D)→List D→Option MR}{e:Expr}{es:List Expr}{mr:M (List W)}{p1 apos pos:Pos}
theorem Bg {ξ:XP}{σ:St}{H:Hp}{Q:VK}{E:Nat}(n:B.O=some (i,j,C))(t:TD C2 B ξ (iI i j m E fm mr) σ H Q):Dv C m (pk B.K C E fm) [] E0 (Er i) (TD M3 B ξ mr) σ H Q:=by
 obtain⟨G,ρ,R,t⟩:=t;obtain⟨w0,U,X,Y⟩:=t.step λr h=>by
  unfold f8 at h;split at h
  ·cases h;exact⟨_,_,rfl⟩
  ·cases h
 obtain⟨rfl,rfl⟩:=dI X;obtain⟨u,o,c,Z⟩:=Y.step λr h=>by
  unfold Aj at h;split at h
  ·split at h
   ·cases h;exact⟨_,_,rfl⟩
   ·cases h
  ·cases h
 unfold Aj at c;split at c
 ·rename_i l fds hi;split at c
  ·rename_i hn;cases c;obtain⟨j',C',p,dx,fs,F,q,a3,a4,a5,a6,a7,a8⟩:=R.ob.1 i l fds hi;rw[n]at F;cases F;refine⟨_,q,p,dx,fs,rfl,a6,M8.qv a7 (Option.isNone_iff_eq_none.mp hn),?_⟩;refine(TD.bind (rel:=M3) R Z).mono λvs H1 ⟨G1,o,ws,s1,R1,q1,t3⟩=>?_;obtain⟨ds,a0,e2,r,a,pp⟩:=t3.step λr h=>bW h;obtain⟨G2,s2,R2,rl⟩:=bV R1 q1 e2;unfold so at a;split at a
   ·rename_i l2 e s f b;split at a
    ·rename_i hc;obtain⟨ht,g⟩:=hc;split at a
     ·rename_i d k w x;cases a;obtain⟨l3,I,p3,y,z,t,d3,J,L,N,P,b5,b6,S,b8,b9⟩:=tT n R2 ht;rw[f]at J;cases J;rw[b]at L;cases L;rw[q]at N;cases N;obtain⟨t',T,c2,c3,c4,c5⟩:=R2.ow j true _ b;rw[S]at T;cases T;rw[List.append_nil];exact⟨G2,p,t,vs,y,z,e,s,ds,d,k,w,rfl,g,R2.gH,b8,c2,P,b5,b6,c5,rl,x,λv G' H' A rv=>pp v G' H' (s2.trans A.gg) (R2.Go n f b q P S A) rv⟩
     ·cases a
    ·cases a
   ·cases a
  ·cases c
 ·cases c
theorem oN (i j:Nat){pl:Sem Bool}{g:Nat}(O:gZ X.K C fns)(h:xp X.prog X.w X.K X.mg X.base k C m ps (pk X.K C g fm))(hr:O6 k X.A)(o:fO X B (e::es) mr)(p:B.O=some (i,j,C):=by rfl)(q:X.N[i]?=some x:=by rfl)(r:eR X.env.scope x:=by first|exact Or.inl rfl|exact Or.inr (Or.inl rfl) |exact Or.inr (Or.inr rfl))(hd:(x==("__debug__":Str))=false:=by decide) (a:(x==("__classdict__":Str))=false:=by decide) (s:X.K=B.K:=by rfl)
  (c:f9 (e::es) X.env=(false,eval e X.env)::f9 es X.env:=by rfl) (d:(l8 pos (f9 es X.env)).any (·.1)=false:=by rfl)
  (u:eval (.Call (.Attribute (.Name x p1) m apos) (e::es) [] pos) X.env=(do
   let l←eval (.Name x p1) X.env
   tK apos.atName
   let(f,first)←W2 [l] (AD l m pl)
   DY pos f first (l8 pos (f9 (e::es) X.env)) (z6 pos (o7 [] X.env))):=by rfl):
  PD X B (.Call (.Attribute (.Name x p1) m apos) (e::es) [] pos) (iI i j m g fm mr):=.mk λξ=>by
 obtain⟨f,fd,F,b,M⟩:=h;refine(BN (X:=rz X ξ) (pl:=pl) (bv (X:=rz X ξ) (i:=i) (pos:=p1) q r hd a) O.cls M F hr b .nil yA (o.ap ξ) c d u).imp λσ H Q t=>?_;have n:=Bg p t;rw[←s]at n;exact n
end
noncomputable abbrev Made:=List (Str×D)×List (Key×D)
structure AC (K:PySem.W.Frag) (C:Addr) (G H:Hp) (p t:Addr) (G' H':Hp) (fds:List (Str×D)) (es:List (Key×D)):Prop where
 keep:i8 (minus H [p]) H'
 gg:i8 G G'
 gH:i8 G' H'
 gnew:∀q o,G' q=some o→G q=some o∨H q=none
 dom:∀q,H' q=none→H q=none
 ob:∃dx fs,H' p=some (.ins C dx fs)∧M8 K G' fs fds∧fs.lookup S5=some (.ref t)
 gp:G' p=none
 gt:G' t=none
 new:H t=none
 tb:A6 K G' H' t (.dct es)
noncomputable def DP (K:PySem.W.Frag)(C:Addr)(b:Nat)(c:List D→Option Made):Sp:=λvs H Q E=>∃G p a dx ds r,vs=.ref p::a∧ds.length+1=b∧i8 G H∧G p=none∧H p=some (.ins C dx [])∧n9 K G a ds∧c ds=some r∧∀G' H' t,AC K C G H p t G' H' r.1 r.2→Q .v1 H'
theorem DP.imp {K:PySem.W.Frag}{C:Addr}{b:Nat}{c a:List D→Option Made}(h:∀ds r,c ds=some r→a ds=some r):∀vs H Q E,DP K C b c vs H Q E→DP K C b a vs H Q E:=by
 rintro vs H Q E ⟨G,p,rest,dx,ds,r,a1,a2,a3,a4,a5,a6,a7,a8⟩
 exact⟨G,p,rest,dx,ds,r,a1,a2,a3,a4,a5,a6,h _ _ a7,a8⟩
noncomputable def outI (j:Nat):SR→Option Made
 |.nx ρ=>match wU j .v1 ρ with
  |some (.ret _ fds es)=>some (fds,es)
  |none=>none
 |_=>none
noncomputable def pX (m:SM)(n j:Nat)(ds:List D):Option Made:=(m (aj n [] ds)).bind (outI j)
section
variable {P:Program}{w:World}{K:PySem.W.Frag}{mg:Str→Option Value}{base:Heap}
theorem Ic {x qual g:Str}{st:Stmt}{f C:Addr}{fd:FuncData}{N ps:List Str}{k:Nat}(j:Nat){m:SM}(F:bo K x qual st f fd)(S:m7 N ps (j3 st))(hj:N[j]?=some g)(hg:¬eR (j3 st) g)(a0:ps.length≤j)(a1:0<ps.length)
  (b:∀(cdv:Value) (A:Around) (outer:List Env) (s:Shared) (H:Hp) (E:XK) (H0 HK G0:Hp) (L:Nat→Option Addr),L j=none→O6 k (A.deeper (bM qual (j3 st) s.heap.objs.size f cdv))→
   iu (lg W0 P w K mg base N qual (j3 st) f cdv A outer s H E) ⟨K,H0,HK,G0,L,some (0,j,C)⟩ (F9 st) m):x2 P w K mg base W0 (k+1) f fd ps (DP K C ps.length (pX m N.length j)):=by
 have a9:j<N.length:=(List.getElem?_eq_some_iff.mp hj).1;have d:j≠0:=by omega
 refine F.ok S (λvs H Q E h=>?_) (λcdv A outer s H vs Q E hr h=>?_)
 ·obtain⟨G,p,l,dx,ds,r,rfl,R,T,U,X,u,a7,a8⟩:=h;rw[List.length_cons,u.len,R]
 obtain⟨G,p,l,dx,ds,r,rfl,R,T,U,X,u,n,q⟩:=h;have hL:(λi:Nat=>if i=0 then some p else none) j=none:=if_neg d;refine⟨_,((b cdv A outer s H E H (minus H [p]) G (λi=>if i=0 then some p else none) hL hr).ap λ_ _ _=>False).ah (λe s z=>?_),?_⟩
 ·obtain⟨_,_,_,_,_,_,z⟩:=z;exact z
 have R0:=mK (N:=N) (C:=C) (j:=j) (L:=λi=>if i=0 then some p else none) (fs:=[]) (fds:=[]) (N2 H [p]) (bU (by simp)) rfl T U X .nil u (by omega) (by omega);unfold pX at n;cases hs:m (aj N.length [] ds)with
 |none=>rw[hs]at n;cases n
 |some y=>
  rw[hs]at n;have a:outI j y=some r:=n;refine⟨G,_,R0,y,hs,?_⟩;cases y with
  |nx ρ'=>
   refine λb0 G' H' s' R'=>?_;unfold outI at a;dsimp only at a;split at a
   ·rename_i d0 o b9 e;cases a;unfold wU at e;split at e
    ·rename_i Y c0 h0 t;split at e
     ·rename_i c;cases e;obtain⟨dd,B⟩:=A1.mp c;obtain⟨j',C',p',I,J,b1,b2,b3,b4,b5,b6,Z,b8⟩:=R'.ob.1 0 true o h0;cases b1;have ep:some p=some p':=b5.1 rfl;cases ep;obtain⟨v,hv,_⟩:=M8.look Z B;have ev:=b8 v hv _ t;obtain⟨O,c1,c2,c3,c4,c5⟩:=R'.ow j true _ t;rw[ev]at c1;cases c1;have hn:H O=none:=by
       rcases c4 with z| ⟨_,_,z⟩
       ·have z':(if j=0 then some p else none)=some O:=z;rw[if_neg d]at z';cases z'
       ·exact z
      exact q G' H' O ⟨R'.keep,R'.g0,R'.gH,R'.gnew,R'.dom,⟨I,J,b6,Z,hv⟩,b3,c2,hn,c5⟩
     ·cases e
    ·cases e
   ·cases a
  |rt w' ρ'=>cases a
  |ex x ρ'=>cases a
  |bk ρ'=>cases a
  |ct ρ'=>cases a
end
def Gq (P:Program)(w:World)(K:PySem.W.Frag)(mg:Str→Option Value)(base:Heap)(k:Nat)(C:Addr)(ps:List Str)(sp:Sp):Prop:=
 ∃(f:Addr) (fd:FuncData),x2 P w K mg base W0 k f fd ps sp∧Binds K fd ps []∧Mk K C f
section
variable {B:Bs}{G H G' H':Hp}{σ:St}{ρ:k0}
theorem RS.grow (R:RS B G H σ ρ)(s:i8 H H')(gg:i8 G G')(gH:i8 G' H')(gnew:∀q o,G' q=some o→G q=some o∨H q=none)(dom:∀q,H' q=none→H q=none):RS B G' H' σ ρ:=by
 have a:∀b o,H b=some o→G b=none→G' b=none:=λb o e g=>by
  cases q:G' b with
  |none=>rfl
  |some u=>
   rcases gnew b u q with z|z
   ·rw[g]at z;cases z
   ·rw[e]at z;cases z
 refine⟨R.hk,R.keep.trans s,R.g0.trans gg,gH,λb u q=>?_,λb q=>R.dom b (dom b q),R.len,λk e q=>?_,λk l e q=>?_,R.inj,R.fz.same gg,R.ob.gh gg (λp C dx fs e g=>a p _ e g) λp C dx fs e _ _=>s p _ e⟩
 ·rcases gnew b u q with z|z
  ·exact R.gnew b u z
  ·exact .inr (R.dom b z)
 ·obtain⟨v,f,h⟩:=R.sh k e q;exact⟨v,f,h.same gg⟩
 ·obtain⟨p,i,j,m,n,d⟩:=R.ow k l e q;obtain⟨o,c⟩:=d.some;exact⟨p,i,a p o c j,m,n,d.same gg ((s p o c).trans c.symm)⟩
theorem RS.Hq {i j:Nat}{C p dx:Addr}{fs:List (Str×V)}{fds:List (Str×D)}(R:RS B G H σ ρ)(r:B.O=some (i,j,C))(hi:i<ρ.length)(t:i≠j)(u:∀c,ρ[j]?≠some (some c))(g:G p=none)(o:B.H0 p=none)(w:H p=some (.ins C dx fs))(A:M8 B.K G fs fds):
  RS B G H (σ.set i (some (.ref p))) (ρ.set i (some (.ob false fds))):=by
 have hs:i<σ.length:=by rw[R.len];exact hi
 have ne:∀{k:Nat} {l:Bool} {d:D},(ρ.set i (some (.ob false fds)))[k]?=some (some (.ow l d))→i≠k∧ρ[k]?=some (some (.ow l d)):=λ{k l d} e=>by
  rcases Q9 e with⟨_,z⟩ |z
  ·cases z
  ·exact z
 refine⟨R.hk,R.keep,R.g0,R.gH,R.gnew,R.dom,by simp[R.len],λk d q=>?_,λk l d q=>?_,λk m l d E F I a b x y=>?_,R.fz.pQ (by intro _ h;cases h),λk l f q=>?_,λk f q=>?_⟩
 ·rcases Q9 q with⟨_,z⟩ | ⟨n,z⟩
  ·cases z
  ·rw[List.getElem?_set_ne n];exact R.sh k d z
 ·obtain⟨n,z⟩:=ne q;rw[List.getElem?_set_ne n];exact R.ow k l d z
 ·obtain⟨J,L⟩:=ne a;obtain⟨N,P⟩:=ne b;rw[List.getElem?_set_ne J]at x;rw[List.getElem?_set_ne N]at y;exact R.inj k m l d E F I L P x y
 ·rcases Q9 q with⟨rfl,z⟩ | ⟨n,z⟩
  ·cases z;refine⟨j,C,p,dx,fs,r,by rw[List.getElem?_set_self hs],g,?_,⟨λz=>(by cases z),λ_=>o⟩,w,A,λv S d hd=>?_⟩
   ·cases Q:B.HK p with
    |none=>rfl
    |some ob=>rw[R.hk p ob Q]at o;cases o
   ·obtain⟨_,z⟩:=ne hd;exact absurd z (u _)
  ·obtain⟨_,_,_,_,_,s,_⟩:=R.ob.1 k l f z;rw[r]at s;cases s;exact absurd rfl n
 ·rcases Q9 q with⟨_,z⟩ | ⟨n,z⟩
  ·cases z
  ·rw[List.getElem?_set_ne n];exact R.ob.2 k f z
theorem RS.made {i j:Nat}{C p t dx:Addr}{fds:List (Str×D)}{es:List (Key×D)}(R:RS B G H σ ρ)(y:B.O=some (i,j,C))(T:B.L j=none)(hi:i<ρ.length)(a:j<ρ.length)(f:i≠j)(m:H p=none)(g:H dx=none)(U:dx≠p)
  (A:AC B.K C G (upd (upd H dx (.own p)) p (.ins C dx [])) p t G' H' fds es):RS B G' H' ((σ.set i (some (.ref p))).set j (some (.ref t))) ((ρ.set i (some (.ob false fds))).set j (some (.ow true (.dct es)))):=by
 have X:i8 H H':=λb o e=>A.keep b o (by
  rw[V3 (by simp;exact t8 e m),j6 (t8 e m),j6 (t8 e g)];exact e)
 have r:∀q,(upd (upd H dx (.own p)) p (.ins C dx [])) q=none→H q=none:=λq e=>by
  by_cases z:q=p
  ·subst z;exact m
  ·rw[j6 z]at e;by_cases E:q=dx
   ·subst E;exact g
   ·rw[j6 E]at e;exact e
 have Y:RS B G' H' σ ρ:=R.grow X A.gg A.gH (λq o e=>(A.gnew q o e).imp id (r q)) λq e=>r q (A.dom q e);have R2:=Y.forget (i:=j);obtain⟨Z,fs,s,b2,b3⟩:=A.ob;have u:∀c,(ρ.set j none)[j]?≠some (some c):=λc e=>by rw[List.getElem?_set_self a]at e;cases e
 have R3:=R2.Hq (p:=p) (fds:=fds) y (by simpa using hi) f u A.gp (R.dom p m) s b2;have tp:t≠p:=(aV A.tb s).symm;have h:H t=none:=r t A.new;have F:=R3.Dz (t:=t) (d:=.dct es) y T (by simpa using a) ⟨t,rfl,A.gt,R.dom t h,A.tb,λk l e he z=>?_⟩ λl2 I p2 a0 a1 c1 J N v P=>?_
 ·have e1:((ρ.set j none).set i (some (L3.C.ob false fds))).set j (some (.ow true (.dct es)))=(ρ.set i (some (L3.C.ob false fds))).set j (some (.ow true (.dct es))):=by
   rw[List.set_comm (l:=ρ) _ _ (w5 f),List.set_set]
  rw[e1]at F;exact F
 ·rcases Q9 he with⟨_,w⟩ | ⟨n,w⟩
  ·cases w
  ·rw[List.getElem?_set_ne n]at z;rcases Q9 w with⟨_,x⟩ | ⟨n1,x⟩
   ·cases x
   ·obtain⟨q0,Q,d2,d3,d4,d5⟩:=R.ow k l e x;obtain⟨o,S⟩:=d5.some;rw[z]at Q;cases Q;rw[h]at S;cases S
 ·rw[List.getElem?_set_self (by rw[R.len];exact hi)]at J;cases J;rw[s]at N;cases N;rw[b3]at P;exact(i9 P).symm
end
noncomputable def ut (i j a:Nat)(b:List D→Option Made)(c:M (List W)):SM:=D6 c λd=>D6 (av d) λds ρ=>match b ds with
 |some r=>cm (i<ρ.length∧j<ρ.length∧i≠j∧ds.length+1=a) (some (.nx ((ρ.set i (some (.ob false r.1))).set j (some (.ow true (.dct r.2))))))
 |none=>none
section
variable {X:Cx}{B:Bs}{k i j:Nat}{y x g:Str}{C:Addr}{fns ps:List Str}{fm:List D→Option Made}{e:Expr}{es:List Expr}{mr:M (List W)}{p py pos spos:Pos}
theorem Ex (i j:Nat){v:Nat}(h:Gq X.prog X.w X.K X.mg X.base k C ps (DP X.K C v fm))(I:X.mg x=some (.ref C))(hr:O6 (k+1) X.A)(J:fO X B (e::es) mr)(P:B.L j=none)(l:¬eR X.env.scope g)(m:X.N.Nodup)(Q:X.N[j]?=some g:=by rfl)(hi:X.N[i]?=some y:=by rfl)(S:Loc X.env.scope y:=by first|exact Or.inl rfl|exact Or.inr rfl)(T:B.O=some (i,j,C):=by rfl)(U:Gl X x:=by rfl)(z:X.K=B.K:=by rfl)(n:(x==("__debug__":Str))=false:=by decide)
  (Y:f9 (e::es) X.env=(false,eval e X.env)::f9 es X.env:=by rfl) (o:(l8 pos (f9 es X.env)).any (·.1)=false:=by rfl) (hs:S8 (.Call (.Name x p) (e::es) [] pos) (some (.Name y py)) spos.line X.env=pure false:=by rfl) (Z:X.fn y=true∨X.env.scope.names.lookup y=some .local:=by first|exact .inl rfl|exact .inr rfl):
  ro X B (.Assign [.Name y py] (.Call (.Name x p) (e::es) [] pos) spos) (ut i j v fm mr):=.mk λξ=>by
 obtain⟨f,fd,F,b,M⟩:=h;refine(qc (j:=j) (g:=g) (yo (X:=rz X ξ) m hi S (BO (X:=rz X ξ) M F hr U I b .nil yA (J.ap ξ) n Y o) hs Z) Q l).imp λDn σ H t=>?_;obtain⟨G,ρ,R,t⟩:=t;refine(SD.step (rel:=M3) R t).mono λvs E ⟨G1,a0,ws,s1,R1,q1,t2⟩=>?_;obtain⟨ds,a1,e2,r,a,pp⟩:=SD.quiet t2 λr h=>bW h;obtain⟨G2,s2,R2,rl⟩:=bV R1 q1 e2;dsimp only at a;split at a
 ·rename_i md s;obtain⟨⟨z1,z2,z3,z4⟩,a⟩:=o4 a;cases a;intro q dx u c d;have sN:i8 E (upd (upd E dx (.own q)) q (.ins C dx [])):=(ao c _).trans (ao (by rw[j6 (w5 d)];exact u) _);rw[List.append_nil];refine⟨G2,q,vs,dx,ds,md,rfl,z4,R2.gH.trans sN,R2.gH.free u,l9,by rw[z];exact rl,s,λG' H' t A=>⟨rfl,?_⟩⟩;rw[z]at A;exact⟨some (.ref t),pp _ G' H' (s2.trans A.gg) (R2.made T P z1 z2 z3 u c d A)⟩
 ·cases a
end
def lv (K:PySem.W.Frag)(C:Addr)(m qual:Str)(st:Stmt)(ps:List Str):Prop:=∃(f:Addr) (fd:FuncData),bo K m qual st f fd∧(∀us:List Value,us.length=ps.length→nB fd ⟨us,[]⟩=pure (ps.zip us))∧PySem.W.findIn K (.ref C) m=some (some (.ref f))∧PySem.W.isFn K (.ref f)=true
theorem CY {K:PySem.W.Frag}{C:Addr}{m qual:Str}{st:Stmt}{ps:List Str}{f:Addr}{od an:Option Addr}{sl:Array (Option Value)}{oc kV e pm d ct:Value}
  (a:PySem.W.findIn K (.ref C) m=some (some (.ref f))) (l:K.lookup f=some ⟨oc,od,.func (PySem.W.fnOf m qual (T9 st) (F9 st) (j3 st) .none kV e pm an d ct),sl⟩) (c:PySem.W.codeIn K d qual=true) (k:PySem.W.keepIn K (.ref f)=true) (n:PySem.W.isFn K (.ref f)=true)
  (b:∀(kV doc pm:Value) (an:Option Addr) (cdv ct:Value) (us:List Value),us.length=ps.length→nB (PySem.W.fnOf m qual (T9 st) (F9 st) (j3 st) .none kV doc pm an cdv ct) ⟨us,[]⟩=pure (ps.zip us)):lv K C m qual st ps:=
 ⟨f,_,zF (st:=st) l c k,λus hl=>b kV e pm an d ct us hl,a,n⟩
theorem lv.has {P:Program}{w:World}{K:PySem.W.Frag}{mg:Str→Option Value}{base:Heap}{k:Nat}{C:Addr}{m qual:Str}{st:Stmt}{ps:List Str}{sp:Sp}(D:lv K C m qual st ps)(h:∀f fd,bo K m qual st f fd→x2 P w K mg base W0 k f fd ps sp):xp P w K mg base k C m ps sp:=by
 obtain⟨f,fd,F,b,a,n⟩:=D;exact⟨f,fd,h f fd F,Binds.all b,⟨a,n,F.kp⟩⟩
theorem lv.Kj {P:Program}{w:World}{K:PySem.W.Frag}{mg:Str→Option Value}{base:Heap}{k:Nat}{C:Addr}{qual:Str}{st:Stmt}{ps:List Str}{sp:Sp}(D:lv K C "__init__" qual st ps) (c:PySem.W.makesIn K C=true) (hk:PySem.W.keepIn K (.ref C)=true) (h:∀f fd,bo K "__init__" qual st f fd→x2 P w K mg base W0 k f fd ps sp):Gq P w K mg base k C ps sp:=by
 obtain⟨f,fd,F,b,a,n⟩:=D;exact⟨f,fd,h f fd F,Binds.all b,⟨c,a,n,hk⟩⟩
theorem lq {K:PySem.W.Frag}{G H:Hp}:∀{ms:List Bool} {vs:List V} {ds:List D} {ps:List Addr},U6 K G H ms vs ds ps→ms.all (!·)=true→ps=[]∧n9 K G vs ds
 |_,_,_,_,.nil,_=>⟨rfl,.nil⟩
 |_,_,_,_,.sh h r,e=>by
  obtain⟨a,b⟩:=lq r (by simpa using e);exact⟨a,.cons h b⟩
 |_,_,_,_,.ln _ _ _ _,e=>by simp at e
theorem kO:∀{ms:List Bool} {ρ:k0} {fin:List D},bG ms ρ=some fin→ms.all (!·)=true→fin=[]
 | [],_,_,e,_=>by cases e;rfl
 |false::ms,[],_,e,_=>by cases e
 |false::ms,_::ρ,_,e,h=>kO (ms:=ms) (ρ:=ρ) e (by simpa using h)
 |true::_,_,_,_,h=>by simp at h
theorem ky:∀{ms:List Bool} {ps:List Addr} {i:Nat},ms.all (!·)=true→R7 ms ps i=none
 | [],_,_,_=>rfl
 |false::_,_,0,_=>rfl
 |false::ms,ps,i+1,h=>ky (ms:=ms) (ps:=ps) (i:=i) (by simpa using h)
 |true::_,_,_,h=>by simp at h
section
variable {P:Program}{w:World}{K:PySem.W.Frag}{mg:Str→Option Value}{base:Heap}
theorem RS.GW {H0 HK G0 G H:Hp}{L:Nat→Option Addr}{σ:St}{ρ:k0}(O:Option (Nat×Nat×Addr))(R:RS ⟨K,H0,HK,G0,L,none⟩ G H σ ρ)(a:∀(i:Nat) c,ρ[i]?=some (some c)→FF c=false):RS ⟨K,H0,HK,G0,L,O⟩ G H σ ρ:=by
 refine⟨R.hk,R.keep,R.g0,R.gH,R.gnew,R.dom,R.len,R.sh,λi l d q=>?_,R.inj,R.fz,λi l fds q=>?_,λi fds q=>?_⟩
 ·obtain⟨p,e,f,g,b,h⟩:=R.ow i l d q;refine⟨p,e,f,g,?_,h⟩;cases l with
  |false=>exact b
  |true=>
   rcases b with z| ⟨z,_⟩
   ·exact .inl z
   ·cases z
 ·have:=a i _ q;cases this
 ·have:=a i _ q;cases this
theorem FO {x:Str}{st:Stmt}{f:Addr}{fd:FuncData}{N ps:List Str}{ms:List Bool}{k:Nat}{m:SM}(O:Nat×Nat×Addr)(F:bo K x x st f fd)(S:m7 N ps (j3 st))(R:ms.length=ps.length)(n:ms.all (!·)=true)
  (o:∀(cdv:Value) (A:Around) (outer:List Env) (s:Shared) (H:Hp) (E:XK) (H0 HK G0:Hp) (L:Nat→Option Addr),(∀i,L i=none)→O6 k (A.deeper (bM x (j3 st) s.heap.objs.size f cdv))→
   iu (lg W0 P w K mg base N x (j3 st) f cdv A outer s H E) ⟨K,H0,HK,G0,L,some O⟩ (F9 st) m):x2 P w K mg base W0 (k+1) f fd ps (E3 K ms (n3 m N.length ms)):=by
 have B:ps.length≤N.length:=by have:=congrArg List.length S.pre;rw[List.length_take]at this;omega
 refine F.ok S (λvs H Q E h=>?_) (λcdv A outer s H vs Q E hr h=>?_)
 ·obtain⟨G,ds,u,r,_,a,_⟩:=h;rw[a.len.1,R]
 obtain⟨G,ds,u,r,g,a,y,q⟩:=h;refine⟨_,((o cdv A outer s H E H (minus H u) G (R7 ms u) (λi=>ky n) hr).ap λ_ _ _=>False).ah (λe s z=>?_),?_⟩
 ·obtain⟨_,_,_,_,_,_,z⟩:=z;exact z
 have U:=RS.GW (some O) (kj (N:=N) g a (by rw[a.len.1,R];exact B)) λi c e=>by
  obtain⟨v,e1,X⟩:=U2 a (N0 e);rcases X with⟨Y,rfl,h⟩ | ⟨p,Y,rfl,_⟩<;>rfl
 obtain⟨I,_⟩:=lq a n;unfold n3 at y;cases hs:m (A7 N.length ms ds)with
 |none=>rw[hs]at y;cases y
 |some J=>
  rw[hs]at y;have j:rX ms J=some r:=y;refine⟨G,A7 N.length ms ds,U,J,hs,?_⟩;have fin:∀{ρ':k0} {l:St} {G' H':Hp} {b:List D},bG ms ρ'=some b→RS ⟨K,H,minus H u,G,R7 ms u,some O⟩ G' H' l ρ'→After K G H u G' H' b:=λ{ρ' l G' H' b} e R'=>
   ⟨R'.keep,R'.g0,R'.gH,R'.gnew,R'.dom,by rw[kO e n,I];exact .nil⟩
  cases J with
  |nx ρ'=>
   obtain⟨b,e,rfl⟩:=g7.mp j;exact λl G' H' T R'=>q .v1 G' H' (fin e R') .v1
  |rt Z ρ'=>
   cases Z with
   |slot i=>cases j
   |val d=>
    obtain⟨b,e,rfl⟩:=g7.mp j;exact λv l G' H' T R' t=>q v G' H' (fin e R') t
   |own d=>
    obtain⟨b,e,rfl⟩:=g7.mp j;exact λv l G' H' T R' t=>q v G' H' (fin e R') (let⟨p,a1,a2,a3,a4,_⟩:=t;⟨p,a1,a2,a3,a4⟩)
  |ex x ρ'=>
   obtain⟨b,e,rfl⟩:=g7.mp j;exact q.elim
  |bk ρ'=>cases j
  |ct ρ'=>cases j
end
noncomputable def Ly:List V→Hp→VK→Prop:=λvs H Q=>∃i j:Int,vs=[.int i,.int j]∧(-(2 ^ 62)≤i∧i<2 ^ 62∧-(2 ^ 62)≤j∧j<2 ^ 62)∧(j-i).toNat≤1000000∧∀l,H l=none→Q (.ref l) (upd H l (.lst ((List.range (j-i).toNat).map λk=>V.int (i+((k:Nat):Int)))))
theorem xz {i:Int}{n:Nat}{a:Array Value}(h:tN (λk v=>∃t,v=Value.int (i+k*1) t) a n):Vals ((List.range n).map λk=>V.int (i+((k:Nat):Int))) a.toList:=by
 have hl:a.toList.length=n:=by rw[C1,h.1]
 have:∀(m:Nat),m≤n→Vals ((List.range m).map λk=>V.int (i+((k:Nat):Int))) (a.toList.take m):=λm=>by
  induction m with
  |zero=>intro _;exact .nil
  |succ m ih=>
   intro d;have b:m<a.toList.length:=by omega
   rw[List.range_succ,List.map_append,List.take_add_one,List.getElem?_eq_getElem b];refine(ih (by omega)).append (.cons ?_ .nil);have c:a[m]?=some (a.toList[m]):=by rw[←X6,List.getElem?_eq_getElem b]
   obtain⟨t,e⟩:=h.2 m _ c;rw[e,Lp];exact⟨t,rfl⟩
 have q:=this n (g8 _);rwa[List.take_of_length_le (by omega)]at q
section
variable {X:Cx}{a b:Expr}{t:TA}{p pos p2 pos2:Pos}
theorem rR (B:X.calm=true)(m:Gl X "list") (u:X.mg "list"=none) (v:Gl X "range") (w:X.mg "range"=none) (E:PA X [a,b] t)
  (d:f9 [Expr.Call (.Name "range" p2) [a,b] [] pos2] X.env=(false,eval (Expr.Call (.Name "range" p2) [a,b] [] pos2) X.env)::f9 [] X.env) (f:(l8 pos (f9 [] X.env)).any (·.1)=false)
  (hs:f9 [a,b] X.env=[(false,eval a X.env),(false,eval b X.env)]) (g:f9 [b] X.env=[(false,eval b X.env)]):
  PE X (.Call (.Name "list" p) [.Call (.Name "range" p2) [a,b] [] pos2] [] pos) (GE Ly t):=by
 intro pins s σ H Q I h;refine t9 (V6 I m u bK ?_ (by decide) (by decide));refine m4 ?_ d f;rw[d];show wpAny _ _ (tL ((false,eval (Expr.Call (.Name "range" p2) [a,b] [] pos2) X.env)::l8 pos (f9 [] X.env))) _ _ s;refine S9 (t9 (V6 I v w vp ?_ (by decide) (by decide)));refine m4 (F0 (E pos2 pins s σ H _ I h) λus s1 ⟨vs,U,x,F,i,j,G,⟨J,L,N,O⟩,Y,q⟩=>?_) (by rw[hs,g]) (by rw[g];rfl);subst G;cases F with
 |cons r y=>
  cases y with
  |cons P y=>
   cases y;obtain⟨t,rfl⟩:=r;obtain⟨t',rfl⟩:=P;refine Na (U8 ?_);refine call_list_range (n:=(j-i).toNat) (x.ok.hd B) (rp ..) (small_one J L N O) (by rw[Mi];split<;>omega) (by omega) λh' R z c kp S l=>?_;have A:∀b o,s1.heap.get? b=some o→h'.get? b=some o:=λb o e=>kp b o (Heap.get?_push_of_some _ e);have T:=xz l;refine⟨.ref _,_,x.laid (t':=R) (o:=.lst ((List.range (j-i).toNat).map λk=>V.int (i+((k:Nat):Int)))) A (Q7 (by rw[Heap.size_push];exact n6 _)) ⟨?_,z.toList,c,T,by simpa using S⟩,rfl,q _ (x.hok.fresh (Q7 (by rw[Heap.size_push];exact n6 _)))⟩;rw[List.length_map,List.length_range,u5];omega
end
noncomputable def gK:List D→Option W
 | [.int i,.int j]=>cm (-(2 ^ 62)≤i∧i<2 ^ 62∧-(2 ^ 62)≤j∧j<2 ^ 62∧(j-i).toNat≤1000000) (some (.own (.lst ((List.range (j-i).toNat).map λk=>D.int (i+((k:Nat):Int))))))
 |_=>none
section
variable {X:Cx}{B:Bs}{a b:Expr}{mr:M (List W)}{p pos p2 pos2:Pos}
theorem oG:fP B Ly gK:=by
 intro G H σ ρ xs ds w Q R h a b
 match ds,a with
 | [.int i,.int j],a=>
  obtain⟨⟨c,d,e,f,g⟩,a⟩:=o4 a;cases a;obtain⟨x,y,rfl,m,n⟩:=rC h;refine⟨i,j,by rw[m.int,n.int],⟨c,d,e,f⟩,g,λl hl=>?_⟩;have r:n9 B.K G ((List.range (j-i).toNat).map λk=>V.int (i+((k:Nat):Int))) ((List.range (j-i).toNat).map λk=>D.int (i+((k:Nat):Int))):=by
   have:=n9.gB (K:=B.K) (G:=G) ((List.range (j-i).toNat).map λk=>i+((k:Nat):Int));rwa[List.map_map,List.map_map]at this
  obtain⟨R',o⟩:=R.cG hl r;exact b _ G _ (i8.refl _) R' o
theorem xa (j:X.calm=true)(d:X.mg "list"=none) (e:X.mg "range"=none) (k:fO X B [a,b] mr) (f:Gl X "list":=by rfl) (g:Gl X "range":=by rfl)
  (h:f9 [Expr.Call (.Name "range" p2) [a,b] [] pos2] X.env=(false,eval (Expr.Call (.Name "range" p2) [a,b] [] pos2) X.env)::f9 [] X.env:=by rfl) (c:(l8 pos (f9 [] X.env)).any (·.1)=false:=by rfl)
  (hs:f9 [a,b] X.env=[(false,eval a X.env),(false,eval b X.env)]:=by rfl) (i:f9 [b] X.env=[(false,eval b X.env)]:=by rfl):
  PD X B (.Call (.Name "list" p) [.Call (.Name "range" p2) [a,b] [] pos2] [] pos) (C4 gK mr):=.mk λξ=>
 (rR (X:=rz X ξ) j f d g e (k.ap ξ) h c hs i).imp λ_ _ _ t=>pJ oG t
end
end L3
namespace L2
open PySem PySem.Spec PyProof.Rows
noncomputable def Do (lo:Int)(n:Nat):It:=⟨λi _=>i<n,λi H x H'=>H'=H∧x=.int (lo-i),λi _=>n≤i⟩
theorem vA {P:Program}{w:World}{K:PySem.W.Frag}{tg:Expr}(it:Addr)(lo:Int)(n:Nat):Turn P w K tg (Do lo n) [it] it (λi h=>rj h it (lo+(i:Nat)*(-1)) ((n:Int)-(i:Nat)) (-1)) where
 mem:=by simp
 obj:=λi h st b a=>by
  have e:b=it:=by simpa using a
  subst e;exact⟨_,st,λv z=>by
   have x:Data.fields _=Data.cell v:=z;cases x⟩
 keep:=λi h h' st k=>k it (by simp) _ st
 item:=by
  intro X f g j l i pins s σ H E I d st m;subst f g j;obtain⟨f0,f1,y,p,q,r⟩:=d it (by simp);have W:=IR (prog:=X.prog) (w:=X.w) (I.ok.hd l) it lo (-1) n;refine W.item i s _ _ m st λv h' u A c B=>?_;obtain⟨t,rfl⟩:=A;have F:Inv X pins σ H {s with heap:=h',toks:=u}:=I.turned (λb o a e=>B b o (by simpa using a) e) f0 f1 p q r;refine⟨_,rfl,dP (s:={s with heap:=h',toks:=u}) (n:="range_iterator") c rfl rfl (by decide) ⟨.int (lo-i),H,F,⟨t,?_⟩,⟨rfl,rfl⟩,c,λb a=>(d b a).1⟩⟩;rw[show lo+(i:Int)*(-1)=lo-i by omega]
 done:=by
  intro X f g j l i pins s σ H E I d st m;subst f g j;obtain⟨f0,f1,y,p,q,r⟩:=d it (by simp);exact AN (I.ok.hd l) st (by have:n≤i:=m;omega) λh' G=>⟨rfl,I.turned (t':=s.toks) (λb o a e=>G b o a e) f0 f1 p q r⟩
 self:=λ_ _ _ _ _ st h=>AQ st h
theorem mF (a b:Int):P9 a b (-1)=((a-b).toNat:Int):=by
 unfold P9;simp;split<;>omega
theorem small_down {a b:Int}(e:-(2 ^ 40)≤a)(g:a<2 ^ 40)(h:-(2 ^ 40)≤b)(i:b<2 ^ 40):mn a b (-1)=true:=by
 have f:∀x:Int,-(2 ^ 42)≤x→x<2 ^ 42→hH x=true:=λx a b=>by
  unfold hH;simp;omega
 have d:=f a (by omega) (by omega);have c:=f b (by omega) (by omega);unfold mn;rw[mF,d,c,f (-1) (by decide) (by decide),f _ (by omega) (by omega)];simp[c]
section
variable {X:Cx}{tg:Expr}
theorem rO {pins:List (Addr×Obj)}{σ:St}{H:Hp}{s:Shared}{R:It→Hp→Prop}{E:Value→Shared→Prop}{lo hi:Int}{t u v:Tok}{a:Nat}(I:Inv X pins σ H s)(d:-(2 ^ 40)≤lo)(f:lo<2 ^ 40)(g:-(2 ^ 40)≤hi)(h:hi<2 ^ 40)
  (q:R (Do lo (lo-hi).toNat) H):wpAny (model X.prog X.w) X.A (LK (.ref s.heap.objs.size)) (Kx X pins σ tg R) E {s with heap:=s.heap.push {cls:=.type "range",data:=.fields #[.int lo t,.int hi u,.int (-1) v]},toks:=a}:=by
 refine GK (rp ..) (small_down d f g h) ?_;have c:Inv X pins σ H {s with heap:=s.heap.push {cls:=.type "range",data:=.fields #[.int lo t,.int hi u,.int (-1) v]},toks:=a}:=I.kept λb o e=>Heap.get?_push_of_some _ e;refine⟨(s.heap.push {cls:=.type "range",data:=.fields #[.int lo t,.int hi u,.int (-1) v]}).objs.size,[(s.heap.push {cls:=.type "range",data:=.fields #[.int lo t,.int hi u,.int (-1) v]}).objs.size],_,_,H,rfl,
  c.kept (t':=a) λb o e=>Heap.get?_push_of_some _ e,vA _ lo (lo-hi).toNat,?_,λb i=>?_,q⟩
 ·have j:lo+((0:Nat):Int)*(-1)=lo:=by simp
  have k:(((lo-hi).toNat:Nat):Int)-((0:Nat):Int)=P9 lo hi (-1):=by rw[mF];simp
  show rj _ _ (lo+((0:Nat):Int)*(-1)) ((((lo-hi).toNat:Nat):Int)-((0:Nat):Int)) (-1);rw[j,k];exact Heap.get?_push_size _ rfl
 ·have e:b=(s.heap.push {cls:=.type "range",data:=.fields #[.int lo t,.int hi u,.int (-1) v]}).objs.size:=by simpa using i
  subst e;exact c.wQ (g8 _) (c.hok.fresh (g8 _))
noncomputable def HZ (a:TA):TI:=λσ H R=>a σ H λvs b=>∃i j:Int,vs=[.int i,.int j,.int (-1)]∧(-(2 ^ 40)≤i∧i<2 ^ 40∧-(2 ^ 40)≤j∧j<2 ^ 40)∧R (Do i (i-j).toNat) b
theorem vT {a b c:Expr}{l:TA}{p pos:Pos}(m:Gl X "range") (n:X.mg "range"=none) (o:PA X [a,b,c] l) (hs:f9 [a,b,c] X.env=[(false,eval a X.env),(false,eval b X.env),(false,eval c X.env)]:=by rfl) (d:f9 [b,c] X.env=[(false,eval b X.env),(false,eval c X.env)]:=by rfl):
  PI X tg (.Call (.Name "range" p) [a,b,c] [] pos) (HZ l):=by
 intro pins s σ H R I h;refine Call_ (V6 I m n vp (m4 (F0 (o pos pins s σ H _ I h) λus s1 ⟨vs,E,u,v,g⟩=>?_) (by rw[hs,d]) (by rw[d];rfl)));obtain⟨i,j,e,⟨g,w,x,y⟩,q⟩:=g;subst e;cases v with
 |cons r f=>
  cases f with
  |cons A f=>
   cases f with
   |cons k f=>
    cases f;obtain⟨t,rfl⟩:=r;obtain⟨F,rfl⟩:=A;obtain⟨B,rfl⟩:=k;exact call_range_3 (by decide) (rO u g w x y q) (.inl (by unfold k5.divisionGoesByPylong;simp;intro z;exact absurd z (by decide)))
end
end L2
namespace L3
open PySem PySem.Spec PyProof.Rows L2
noncomputable def sF:List D→Option (List D)
 | [.int i,.int j,.int (-1)]=>cm (-(2 ^ 40)≤i∧i<2 ^ 40∧-(2 ^ 40)≤j∧j<2 ^ 40) (some ((List.range (i-j).toNat).map λk=>D.int (i-((k:Nat):Int))))
 |_=>none
theorem sQ {K:PySem.W.Frag}{G:Hp}(lo:Int)(n:Nat):Gives K G (Do lo n) ((List.range n).map λk=>D.int (lo-((k:Nat):Int))) where
 go:=λG' H i s1 s2 hi=>by
  show i<n;simpa using hi
 stop:=λG' H s1 s2=>by
  show n≤_;simp
 yld:=λG' H H' i x s1 s2 hi y=>by
  obtain⟨rfl,rfl⟩:=y;have a:i<n:=by simpa using hi
  refine⟨rfl,.int (lo-i),?_,.int _⟩;rw[List.getElem?_map,List.getElem?_range a];rfl
section
variable {X:Cx}{B:Bs}{tg e a b c:Expr}{ma mb mc:M W}{mr:M (List W)}{pos p:Pos}
theorem wG (g:X.mg "range"=none) (k:fO X B [a,b,c] mr) (l:Gl X "range":=by rfl) (hs:f9 [a,b,c] X.env=[(false,eval a X.env),(false,eval b X.env),(false,eval c X.env)]:=by rfl) (e:f9 [b,c] X.env=[(false,eval b X.env),(false,eval c X.env)]:=by rfl):Dm X B tg (.Call (.Name "range" p) [a,b,c] [] pos) (X1 sF mr):=.mk λξ=>
 (vT (X:=rz X ξ) l g (k.ap ξ) hs e).imp λσ H x t=>by
  obtain⟨G,ρ,R,t⟩:=nG t;refine(TD.bind (rel:=M3) R t).mono λvs m ⟨n,o,y,s1,f,q,r⟩=>?_;obtain⟨ds,es,s,d,p⟩:=nV r;have h:=aa f q s
  match ds,d with
  | [.int i,.int j,.int (-1)],d=>
   obtain⟨z,d⟩:=o4 d;cases d;cases h with
   |cons u h=>
    cases h with
    |cons v h=>
     cases h with
     |cons w h=>
      cases h;exact⟨i,j,by rw[u.int,v.int,w.int],z,p _ n m (i8.refl _) f (sQ i (i-j).toNat)⟩
end
structure DQ (X:Cx) (B:Bs) (e:Expr) (m:M W):Prop where
 ap:∀ξ,PE (rz X ξ) e λσ H Q=>∃G ρ,RS B G H σ ρ∧∃w,m ρ=some (.ok w ρ)∧∀v G',i8 G G'→RS B G' H σ ρ→E2 B G' H σ ρ v w→Q v H
 pu:∀ρ w ρ',m ρ=some (.ok w ρ')→ρ'=ρ∧Dy w=true
section
variable {X:Cx}{B:Bs}{a b:Expr}{ma mb:M W}{pos:Pos}
theorem xO {G H:Hp}{σ:St}{ρ:k0}{i:Nat}{c:C}(R:RS B G H σ ρ)(h:ρ[i]?=some (some c)):∃v,σ[i]?=some (some v):=by
 cases c with
 |sh d=>obtain⟨v,q,_⟩:=R.sh i d h;exact⟨v,q⟩
 |ow l d=>obtain⟨v,q,_⟩:=R.ow i l d h;exact⟨_,q⟩
 |fz es=>obtain⟨a,o,kvs,q,_⟩:=R.fz i es h;exact⟨_,q⟩
 |ob l fds=>obtain⟨_,_,_,_,_,_,q,_⟩:=R.ob.1 i l fds h;exact⟨_,q⟩
 |rd fds=>obtain⟨_,_,_,_,_,_,_,q,_⟩:=R.ob.2 i fds h;exact⟨_,q⟩
theorem tR {i:Nat}{ρ ρ':k0}{w:W}(e:f8 i ρ=some (.ok w ρ')):ρ'=ρ∧w=.slot i∧∃c,ρ[i]?=some (some c):=by
 unfold f8 at e;split at e
 ·rename_i c a;cases e;exact⟨rfl,rfl,c,a⟩
 ·cases e
theorem HF (i:Nat){x:Str}{pos:Pos}(b:X.N[i]?=some x:=by rfl)(d:eR X.env.scope x:=by first|exact Or.inl rfl|exact Or.inr (Or.inl rfl) |exact Or.inr (Or.inr rfl))(hd:(x==("__debug__":Str))=false:=by decide) (a:(x==("__classdict__":Str))=false:=by decide):DQ X B (.Name x pos) (f8 i) where
 ap ξ:=(bv (X:=rz X ξ) b d hd a).imp λσ H Q ⟨G,ρ,R,w,e,p⟩=>by
  obtain⟨_,rfl,c,f⟩:=tR e;obtain⟨v,q⟩:=xO R f;exact⟨v,q,p v G (i8.refl _) R q⟩
 pu ρ w ρ' e:=by
  obtain⟨h,rfl,_⟩:=tR e;exact⟨h,rfl⟩
theorem LX {e:Expr}{v:V}{d:D}(h:∀ξ,PE (rz X ξ) e (tC v))(a:∀G,Rep B.K G v d):DQ X B e (mC d):=
 ⟨λξ=>(h ξ).imp λσ H Q ⟨G,ρ,R,w,e,p⟩=>(by cases e;exact p v G (i8.refl _) R (a G)),(λρ w ρ' e=>by cases e;exact⟨rfl,rfl⟩)⟩
theorem HI {i:Int}{j pos}:DQ X B (.Constant (.int i) j pos) (mC (.int i)):=LX (λ_=>rS) λ_=>.int i
theorem vf {f:D→D→Option W}{ρ ρ':k0}{w:W}(m:∀ρ w ρ',ma ρ=some (.ok w ρ')→ρ'=ρ∧Dy w=true)(n:∀ρ w ρ',mb ρ=some (.ok w ρ')→ρ'=ρ∧Dy w=true)(h:g9 f ma mb ρ=some (.ok w ρ')):ρ'=ρ∧∃b g dx j,ma ρ=some (.ok b ρ)∧mb ρ=some (.ok g ρ)∧getD b ρ=some dx∧getD g ρ=some j∧f dx j=some w:=by
 unfold g9 at h;cases c:ma ρ with
 |none=>rw[M.bind_none (show O2 ma ρ=none by unfold O2;exact M.bind_none c)]at h;cases h
 |some r=>
  cases r with
  |ex x a=>rw[M.cX (show O2 ma ρ=some (.ex x a) by unfold O2;exact M.cX c)]at h;cases h
  |ok b a=>
   obtain⟨rfl,s1⟩:=m _ _ _ c;have hs:O2 ma a=some (.ok b a):=by
    cases b with
    |own d=>cases s1
    |val d=>exact pK c
    |slot i=>exact mD c
   rw[M.j5 hs]at h;cases k:mb a with
   |none=>rw[M.bind_none k]at h;cases h
   |some r=>
    cases r with
    |ex x l=>rw[M.cX k]at h;cases h
    |ok g l=>
     obtain⟨rfl,s2⟩:=n _ _ _ k;rw[M.j5 k]at h;unfold Fj at h;split at h
     ·rename_i dx j o p;obtain⟨z,q,e⟩:=g7.mp h;cases e;exact⟨rfl,b,g,dx,j,rfl,rfl,o,p,q⟩
     ·cases h
theorem FE {dx a:D}{w:W}(h:x0 dx a=some w):Dy w=true:=by
 unfold x0 at h;split at h
 ·obtain⟨_,_,rfl⟩:=g7.mp h;rfl
 ·obtain⟨_,_,rfl⟩:=g7.mp h;rfl
 ·obtain⟨_,h⟩:=o4 h;obtain⟨_,_,rfl⟩:=g7.mp h;rfl
 ·obtain⟨_,_,h⟩:=A9.mp h;obtain⟨_,_,rfl⟩:=g7.mp h;rfl
 ·cases h
theorem HG {i:Int}{j p1 p2}:DQ X B (.UnaryOp .USub (.Constant (.int i) j p1) p2) (cZ V1 (mC (.int i))) where
 ap ξ:=(DF (X:=rz X ξ) xA rS).imp λσ H Q ⟨G,ρ,R,w,e,p⟩=>by
  cases e;exact⟨i,rfl,p _ G (i8.refl _) R (.int _)⟩
 pu ρ w ρ' e:=by cases e;exact⟨rfl,rfl⟩
theorem HH (s:X.A.units+8<B3)(k:DQ X B a ma)(l:DQ X B b mb)(hs:ph b:=by exact λ_ _=>rfl)(n:X.K=B.K:=by rfl):DQ X B (.Subscript a b pos) (g9 x0 ma mb) where
 ap ξ:=(DG (X:=rz X ξ) ((qA (X:=rz X ξ) (K:=B.K) n).or ((uA (X:=rz X ξ) (K:=B.K) n).or (za.or (uB s)))) (k.ap ξ) (l.ap ξ) hs).imp λσ H Q ⟨G,ρ,R,w,e,p⟩=>by
  obtain⟨_,o,t,dx,T,r,u,E,F,m⟩:=vf k.pu l.pu e;refine⟨G,ρ,R,o,r,λx I s1 J L=>⟨I,ρ,J,t,u,λy N s2 R2 O=>?_⟩⟩;have st:=(k.pu _ _ _ r).2;have z:=uE (Q:=λv H'=>H'=H→Q v H) R2 ((L.keep s2 st:E2 B N H σ ρ x o).get R2 E) (O.get R2 F) m λv G' H' P R' S e=>p v G' ((s1.trans s2).trans P) (e▸R') (e▸S);rcases z with⟨q,xs,i,v,d,f,g,j,h⟩ | ⟨q,xs,i,v,d,f,g,j,h⟩ | ⟨q,i,c,d,f,g,j,h⟩ | ⟨q,v,d,f,h⟩
  ·exact .inl ⟨q,xs,i,v,d,f,g,j,h rfl⟩
  ·exact .inr (.inl ⟨q,xs,i,v,d,f,g,j,h rfl⟩)
  ·exact .inr (.inr (.inl ⟨q,i,c,d,f,g,j,h rfl⟩))
  ·exact .inr (.inr (.inr ⟨q,v,d,f,h rfl⟩))
 pu ρ w ρ' e:=by
  obtain⟨h,_,_,_,_,_,_,_,_,m⟩:=vf k.pu l.pu e;exact⟨h,FE m⟩
noncomputable def qr (ma:M W)(b:Bool):M W:=λρ=>match ma ρ with
 |some (.ok x a)=>(getD x a).bind λd=>(keyOf d).map λk=>.ok (.own (.dct [(k,.bl b)])) a
 |_=>none
theorem Gd {v:Bool}{j p1}(f:DQ X B a ma):PD X B (.Dict [some a] [.Constant (.bool v) j p1] pos) (qr ma v):=.mk λξ=>
 (BQ (X:=rz X ξ) (yr (f.ap ξ) DH BJ) rfl rfl (by simp) (i5 rfl)).imp λσ H Q ⟨G,ρ,R,r,e,p⟩ q g=>by
  unfold qr at e;split at e
  ·rename_i w c h;obtain⟨rfl,st⟩:=f.pu _ _ _ h;obtain⟨d,i,e⟩:=A9.mp e;obtain⟨k,l,e⟩:=g7.mp e;cases e;obtain⟨m,w1⟩:=R.ks g .nil;refine⟨G,c,m,w,h,λx u s1 R2 n=>⟨l9,[(k,.bl v)],?_,i5 rfl,?_⟩⟩
   ·rw[eC (n.get R2 i) l];rfl
   ·obtain⟨o,s⟩:=R.ks (kvs:=[(k,.bl v)]) (es:=[(k,.bl v)]) g (.cons rfl (.bl v) .nil);have t:upd (upd H q (.dK [])) q (.dK (ie [] [(k,.bl v)]))=upd H q (.dK [(k,.bl v)]):=by
     funext b;by_cases z:b=q
     ·rw[z,l9,l9];rfl
     ·rw[j6 z,j6 z,j6 z]
    rw[t];exact p _ G _ (i8.refl _) o s
  ·cases e
end
end L3
namespace Op
open PySem PySem.W PyProof.Rows PySem.Calls
noncomputable def den:Code→Sem Fin:=PySem.W.Fast.tw11892475500146522536 PySem.W.Fast.tw14364793385576792824
theorem FY:denote pv=den:=congr PySem.W.Fast.te11892475500146522536 PySem.W.Fast.te14364793385576792824
noncomputable def go (p:Program) (w:World) (n:Nat):SharedT→Thread→Option SharedT:=
 @Nat.rec (λ_=>SharedT→Thread→Option SharedT) (λ_ _=>none)
  (λ_ ih s t=>match MW t with
   |true=>some s
   |false=>match PySem.W.Fast.tw6613529449190102663 11 (some (.ref 6)) t with
    |false=>none
    |true=>match PySem.W.Fast.tw10156331382660048174 den p w s t with
     |some (a,b)=>ih a b
     |none=>none) n
theorem dP {p:Program}{w:World}:∀{n:Nat} {s a:SharedT} {t:Thread},go p w n s t=some a→topRun pv p w 11 (some (.ref 6)) n s.abs t=some a.abs
 |0,_,_,_,h=>by cases h
 |n+1,s,a,t,h=>by
  change (match MW t with
   |true=>some s
   |false=>match PySem.W.Fast.tw6613529449190102663 11 (some (.ref 6)) t with
    |false=>none
    |true=>match PySem.W.Fast.tw10156331382660048174 den p w s t with
     |some (a,e)=>go p w n a e
     |none=>none)=some a at h
  rw[←PySem.W.Fast.te6613529449190102663,←PySem.W.Fast.te10156331382660048174,←FY]at h;unfold topRun;cases b:MW t with
  |true=>rw[b]at h;cases h;rfl
  |false=>
   rw[b]at h;cases hk:stepOk 11 (some (.ref 6)) t with
   |false=>rw[hk]at h;cases h
   |true=>
    rw[hk]at h;cases hs:stepT (denote pv) p w s t with
    |none=>rw[hs]at h;cases h
    |some r=>obtain⟨c,d⟩:=r;rw[hs]at h;rw[stepT_spec hs];exact dP h
noncomputable def tree (l:List Obj):Nat→BT→BT:=@List.rec Obj (λ_=>Nat→BT→BT) (λ_ t=>t) (λo _ ih n t=>ih (n+1) (t.ins n o)) l
noncomputable def s0 (w:World) (os:OsState):SharedT:=⟨tree (C6 w.params).objs.toList 0 .nil,11,(C6 w.params).life,Array.mk [],vq,AE,os⟩
theorem Ey (w:World)(os:OsState):(s0 w os).abs=⟨C6 w.params,Array.mk [],vq,AE,os⟩:=by kernel_rfl
theorem left {p q:Program}{a:List Str}{b:Shared→Bool}{α:Type}{c:Shared→α}{g:World→α}{N n:Nat}(e:opening p=plainProg p.main.scope.names)(i:Jy 600 N=true)(f:∀s,Ml p s=some s)(le:Jy n N=true)
  (h:∀w,(λos=>(go p w n (s0 w os) (MU p)).map λs=>((staticsOk (P1 p.main.body) (C6 w.params) s.abs.heap&&vm p s.abs.heap&&DX s.abs&&DV (C6 w.params) s.abs.heap),
    LL q a (P1 p.main.body) b true s.abs,c s.abs))=λ_=>some (true,LM q a,g w)):LeftO p q a b c g N:=λw=>by
 obtain⟨⟨j,l,d,k,os⟩,m,o⟩:=g7.mp (boot_open e i f w);obtain⟨rfl,rfl,rfl,rfl⟩:j=C6 w.params∧l=Array.mk []∧d=vq∧k=AE:=by simpa using o
 obtain⟨s,hs,u⟩:=g7.mp (congrFun (h w) os);obtain⟨v,x,y⟩:_∧_∧_:=by simpa only[Dt]using u
 have r:=topRun_mono (N-n) _ _ _ _ (dP hs);rw[show n+(N-n)=N by have:=i5 le;omega,Ey]at r;have z:((C6 w.params).isNs l5&&(Array.mk []:Array GenState).size==0,(C6 w.params).objs.size,(C6 w.params).nsMap l5 "__annotations__")=(true,11,some (.ref 6)):=by kernel_rfl
 obtain⟨A,B,E⟩:_∧_∧_:=by simpa only[Dt]using z
 have t:MV pv p w N ⟨C6 w.params,Array.mk [],vq,AE,os⟩=some s.abs:=by
  unfold MV;dsimp only;rw[A,B,E,r];show(match staticsOk (P1 p.main.body) (C6 w.params) s.abs.heap&&vm p s.abs.heap&&DX s.abs&&DV (C6 w.params) s.abs.heap with|true=>_|false=>_)=_;rw[v]
 unfold openEnds;rw[m];show(MV pv p w N _).map _=_;rw[t];exact congrArg some (xr x y)
end Op
namespace Op
open PySem PySem.W PyProof.Rows PySem.Calls L2
noncomputable def Cy (h:Heap):Frag:=(List.range h.objs.size).filterMap λa=>(h.get? a).map λo=>(a,o)
theorem T4 {K:Frag}{a:Addr}{o:Obj}(h:K.lookup a=some o):(a,o)∈K:=by
 induction K with
 |nil=>cases h
 |cons p r ih=>
  obtain⟨b,x⟩:=p;rw[List.lookup_cons]at h;split at h
  ·rename_i e;cases h;rw[eq_of_beq e];exact List.mem_cons_self
  ·exact List.mem_cons_of_mem _ (ih h)
theorem Cw (h:Heap):(Cy h).In h:=λa o e=>by
 obtain⟨b,_,c⟩:=List.mem_filterMap.mp (T4 e);obtain⟨o',d,q⟩:=g7.mp c;cases q;exact d
structure Fn where
 at_:Frag→Option (Option Value)
 x:Str
 q:Str
 st:Stmt
noncomputable def Fn.DA (K:Frag)(d:Fn):Option FuncData:=match d.at_ K with
 |some (some (.ref f))=>(match K.lookup f with
  |some ⟨.type t,_,.func fd,_⟩=>(match codeIn K fd.code d.q&&LO K (.ref f)&&isFn K (.ref f)&&t == "function" with
   |true=>some {fd with kwdefaults:=.none,doc:=.none,pyModule:=.none,annotations:=none,code:=.none,closureTuple:=.none}
   |false=>none)
  |_=>none)
 |_=>none
noncomputable def Fn.due (d:Fn):FuncData:=fnOf d.x d.q (T9 d.st) (F9 d.st) (j3 d.st) .none .none .none .none none .none .none
theorem Fn.ok {K:Frag}{d:Fn}(h:d.DA K=some d.due):∃f od kV doc pm an cdv ct sl,d.at_ K=some (some (.ref f))∧K.lookup f=some ⟨.type "function",od,.func (fnOf d.x d.q (T9 d.st) (F9 d.st) (j3 d.st) .none kV doc pm an cdv ct),sl⟩∧codeIn K cdv d.q=true∧LO K (.ref f)=true∧isFn K (.ref f)=true:=by
 unfold Fn.DA at h;split at h
 ·rename_i f e;split at h
  ·rename_i t od fd sl l;split at h
   ·rename_i g;obtain⟨g,a⟩:=F3.mp g;obtain⟨g,c⟩:=F3.mp g;obtain⟨i,j⟩:=F3.mp g;cases eq_of_beq a;obtain⟨n,q,p,b,sc,m,cl,o,kV,doc,pm,an,k,ct,bl⟩:=fd;cases h;exact⟨f,od,kV,doc,pm,an,k,ct,sl,e,l,i,j,c⟩
   ·cases h
  ·cases h
 ·cases h
noncomputable def hook (ds:List Fn)(ok:Frag→Bool):Hook where
 α:=List (Option FuncData)×Bool
 obs s:=(ds.map (Fn.DA (Cy s.heap)),ok (Cy s.heap))
 val _:=(ds.map λd=>some d.due,true)
 says _ h:=∃K:Frag,K.In h∧(∀d∈ds,d.DA K=some d.due)∧ok K=true
 of _ s e:=⟨Cy s.heap,Cw _,λd hd=>by
  have e:=congrArg Prod.fst e;exact List.map_inj_left.mp e d hd,congrArg MS e⟩
 keeps _ _ _ y k:=let⟨K,a,b⟩:=y;⟨K,a.keeps k,b⟩
theorem Ec {l:OpenLaw}{k:Nat}{q:Program}{e:List Str}{XP:(Str→Option Value)→Heap→Prop}{d:DefRec}{ds:List Fn}{ok:Frag→Bool}{x:Str}(v:l.most=some 63)(n:d.params.defaults=[])(hr:O6 k jo)
  (F:∀(w:World) (mg:Str→Option Value) (m:Addr) (h:Heap) (K:Frag),K.In h→(∀d∈ds,d.DA K=some d.due)→ok K=true→h.Ns l5 mg→mg d.name=some (.ref m)→
   ∃fd:FuncData,(∀(s:Shared) (u:Value),tP s fd ⟨[u],[]⟩ [(x,u)])∧∀base:Heap,K.In base→base.Ns l5 mg→x2 l.prog w K mg base W0 k m fd [x] (xL K)):
  WalkO q e XP (hook ds ok).says l.row.toRowW d [] (λf vs=>PySem.call f vs):=by
 refine Att.qW v n λw s₀ r mg mb m o pm N doc a vs ns G Y O hd y p j i c A=>?_;obtain⟨K,t,B,E⟩:=Y;obtain⟨fd,I,J⟩:=F w mg m _ K t B E G.T.g p;exact yW t G.T.g G.T.b G.T.builtins G.T.nolimit A j i (l7 c (by decide)) hr J I (λH P L=>⟨a,ns,rfl,L,c,λ_=>rfl⟩) λ_ _ _ z=>z
noncomputable def dV (st:Stmt):DefRec:=match st with
 |.FunctionDef n a b _ _ _ sc _ _ pos=>⟨n,a,b,sc,pos⟩
 |_=>⟨"",T9 st,[],j3 st,⟨0,0,0,0⟩⟩
theorem holds {l:OpenLaw}{i n k:Nat}{ds:List Fn}{ok:Frag→Bool}{x:Str}{st:Stmt}
  (w1:PySem.W.Fast.tw9446332074065402090 l=true) (e:opening l.prog=plainProg l.prog.main.scope.names) (f:∀s,Ml l.prog s=some s) (le:Jy n 9999=true)
  (h:∀w,(λos=>(go l.prog w n (s0 w os) (MU l.prog)).map λs=>((staticsOk (P1 l.prog.main.body) (C6 w.params) s.abs.heap&&vm l.prog s.abs.heap&&DX s.abs&&DV (C6 w.params) s.abs.heap),
    LL (view l.prog [i]) l.prog.boundNames (P1 l.prog.main.body) (λs=>xlAt (view l.prog [i]) [] s&&recOk [] s) true s.abs,(hook ds ok).obs s.abs))=λ_=>some (true,LM (view l.prog [i]) l.prog.boundNames,(hook ds ok).val w))
  (a:defOf (view l.prog [i]) l.name=some (dV st,[])) (j:l.prog.theDef l.name=some ((dV st).params,(dV st).body,(dV st).scope)) (hk:kwWritten? (dV st).params.kwonlyargs (dV st).params.kw_defaults=some [])
  (o:(chainsOk (view l.prog [i])&&opensWell l.prog&&(frees l.row.toRowW&&l.row.within.isEmpty))=true) (m:l.prog.bare) (p:l.row.toRowW.promised) (t:l.most=some 63) (c:(dV st).params.defaults=[]) (hr:O6 k jo)
  (F:∀(w:World) (mg:Str→Option Value) (g:Addr) (h:Heap) (K:Frag),K.In h→(∀d∈ds,d.DA K=some d.due)→ok K=true→h.Ns l5 mg→mg (dV st).name=some (.ref g)→
   ∃fd:FuncData,(∀(s:Shared) (u:Value),tP s fd ⟨[u],[]⟩ [(x,u)])∧∀base:Heap,K.In base→base.Ns l5 mg→x2 l.prog w K mg base W0 k g fd [x] (xL K)):l.Holds:=
 holds_law (by rw[PySem.W.Fast.te9446332074065402090];exact w1) λb=>
  holds_open (r:=l.row) (q:=view l.prog [i]) (loose:=l.prog.boundNames) (Xt:=λs=>xlAt (view l.prog [i]) [] s&&recOk [] s) (XP:=XL (view l.prog [i]) []) (Yf:=(hook ds ok).obs) (Ya:=(hook ds ok).val) (YP:=(hook ds ok).says) (N:=9999)
   (left e (by decide) f le h) (hook ds ok).of (hook ds ok).keeps (λs e=>xl_of s (F3.mp e).1) XL.keeps a j hk (λs e=>recFacts_of (F3.mp e).2) (IU _) b o m p (Ec t c hr F)
section
variable {K:Frag}{h:Heap}{mg:Str→Option Value}{x q c:Str}{st:Stmt}{ps fns:List Str}{C:Addr}
noncomputable def fn (x:Str)(st:Stmt):Fn:=⟨λK=>nsIn K l5 x,x,x,st⟩
noncomputable def clsAt (K:Frag)(c:Str):Option Addr:=match nsIn K l5 c with
 |some (some (.ref C))=>some C
 |_=>none
noncomputable def mt (c x q:Str)(st:Stmt):Fn:=⟨λK=>(clsAt K c).bind λC=>findIn K (.ref C) x,x,q,st⟩
def Bd (x q:Str)(st:Stmt)(ps:List Str):Prop:=∀(kV doc pm:Value) (an:Option Addr) (cdv ct:Value) (us:List Value),us.length=ps.length→nB (fnOf x q (T9 st) (F9 st) (j3 st) .none kV doc pm an cdv ct) ⟨us,[]⟩=pure (ps.zip us)
theorem A8 (X:K.In h)(G:h.Ns l5 mg)(e:(fn x st).DA K=some (fn x st).due)(b:Bd x x st ps):L2.Def K mg x st ps:=by
 obtain⟨f,od,kV,doc,pm,an,cdv,ct,sl,a,l,c,k,n⟩:=Fn.ok e;exact L2.Ga X G a l c k b
theorem kt (d:clsAt K c=some C)(e:(mt c x q st).DA K=some (mt c x q st).due)(b:Bd x q st ps):L3.lv K C x q st ps:=by
 obtain⟨f,od,kV,doc,pm,an,cdv,ct,sl,a,l,c,k,n⟩:=Fn.ok e;have a:(clsAt K _).bind _=_:=a;rw[d]at a;exact L3.CY a l c k n b
theorem Gh (a:clsAt K c=some C):nsIn K l5 c=some (some (.ref C)):=by
 unfold clsAt at a;split at a
 ·rename_i e;cases a;exact e
 ·cases a
noncomputable def isObj (K:Frag)(fns:List Str)(C:Addr):Bool:=plainGet K C Str.empty&&hasDictIn K C&&plainOver K C&&decide (findIn K (.ref C) "__setattr__"=some (some (.builtin "object.__setattr__")))&&makesIn K C&&LO K (.ref C)&&fns.all λf=>decide (findIn K (.ref C) f=some none)
theorem Fk (X:K.In h)(G:h.Ns l5 mg)(e:(clsAt K c).any (isObj K fns)=true):∃C,clsAt K c=some C∧mg c=some (.ref C)∧L3.gZ K C fns∧makesIn K C=true∧LO K (.ref C)=true:=by
 cases a:clsAt K c with
 |none=>rw[a]at e;cases e
 |some C=>
  rw[a]at e;have e:isObj K fns C=true:=e;unfold isObj at e;simp only[k6,List.all_eq_true,decide_eq_true_eq]at e;obtain⟨⟨⟨⟨⟨⟨b,d⟩,g⟩,i⟩,j⟩,l⟩,m⟩:=e;exact⟨C,rfl,mg_of X G (Gh a),⟨⟨b,d,g,i⟩,λk f n=>m f (List.mem_of_getElem? n)⟩,j,l⟩
noncomputable def Lx (K:Frag)(bs:List Str):Bool:=bs.all λb=>decide (nsIn K l5 b=some none)
theorem aW (X:K.In h)(G:h.Ns l5 mg){bs:List Str}(e:Lx K bs=true)(k:Nat){b:Str}(a:bs[k]?=some b):mg b=none:=mg_none_of X G (of_decide_eq_true (List.all_eq_true.mp e b (List.mem_of_getElem? a)))
noncomputable def isStr (s:Str):Option (Option Value)→Bool
 |some (some (.str t _))=>t==s
 |_=>false
theorem tr (X:K.In h)(G:h.Ns l5 mg){s:Str}(e:isStr s (nsIn K l5 x)=true):L2.Dp mg x (.str s):=by
 cases a:nsIn K l5 x with
 |none=>rw[a]at e;cases e
 |some o=>
  rw[a]at e;unfold isStr at e;split at e
  ·rename_i q;cases q;exact L2.Gf X G a ⟨_,by rw[eq_of_beq e]⟩
  ·cases e
theorem pb {a b:Bool}(h:(a&&b)=true):a=true∧b=true:=F3.mp h
end
end Op
namespace K31
open PySem L2 L3
noncomputable def top (i:Nat):Stmt:=PySem.Challenge.pw_clausekeep_k31_whole_core.main.body.getD i (.Pass ⟨0,0,0,0⟩)
noncomputable abbrev cx:Stmt:=top 1
theorem iz:m7 ["clauses"] ["clauses"] (j3 cx):=⟨rfl,rfl,rfl,by decide +kernel,rfl,by decide +kernel,by decide +kernel⟩
noncomputable abbrev aR:Stmt:=top 2
theorem gj:m7 ["literals"] ["literals"] (j3 aR):=⟨rfl,rfl,rfl,by decide +kernel,rfl,by decide +kernel,by decide +kernel⟩
noncomputable abbrev gu:Stmt:=top 3
theorem mI:m7 ["truths","clause","found","literal"] ["truths","clause"] (j3 gu):=⟨rfl,rfl,rfl,by decide +kernel,rfl,by decide +kernel,by decide +kernel⟩
noncomputable abbrev cD:Stmt:=top 4
theorem iF:m7 ["clause","seen","literal"] ["clause"] (j3 cD):=⟨rfl,rfl,rfl,by decide +kernel,rfl,by decide +kernel,by decide +kernel⟩
noncomputable abbrev ew:Stmt:=top 13
theorem kf:m7 ["table","clause","hints","truths","place","outcome"] ["table","clause","hints"] (j3 ew):=⟨rfl,rfl,rfl,by decide +kernel,rfl,by decide +kernel,by decide +kernel⟩
noncomputable abbrev aS:Stmt:=top 14
theorem gk:m7 ["table","truths","hint","literals"] ["table","truths","hint"] (j3 aS):=⟨rfl,rfl,rfl,by decide +kernel,rfl,by decide +kernel,by decide +kernel⟩
noncomputable abbrev D8:Stmt:=inClass (top 20) 0
theorem am:m7 ["self","variables","clauses","self.table"] ["self","variables","clauses"] (j3 D8):=⟨rfl,rfl,rfl,by decide +kernel,rfl,by decide +kernel,by decide +kernel⟩
noncomputable abbrev Q3:Stmt:=inClass (top 20) 1
theorem dE:m7 ["self","step","self.table"] ["self","step"] (j3 Q3):=⟨rfl,rfl,rfl,by decide +kernel,rfl,by decide +kernel,by decide +kernel⟩
noncomputable abbrev x8:Stmt:=inClass (top 20) 2
theorem T1:m7 ["self","numbers","number","self.table"] ["self","numbers"] (j3 x8):=⟨rfl,rfl,rfl,by decide +kernel,rfl,by decide +kernel,by decide +kernel⟩
noncomputable abbrev B0:Stmt:=inClass (top 20) 3
theorem W9:m7 ["self","number","clause","hints","self.table"] ["self","number","clause","hints"] (j3 B0):=⟨rfl,rfl,rfl,by decide +kernel,rfl,by decide +kernel,by decide +kernel⟩
noncomputable abbrev D7:Stmt:=inClass (top 20) 4
theorem al:m7 ["self","number","clause","hints","self.table"] ["self","number","clause","hints"] (j3 D7):=⟨rfl,rfl,rfl,by decide +kernel,rfl,by decide +kernel,by decide +kernel⟩
noncomputable abbrev nN:Stmt:=top 22
theorem tX:m7 ["variables","clauses","steps","wanted"] ["variables","clauses","steps"] (j3 nN):=⟨rfl,rfl,rfl,by decide +kernel,rfl,by decide +kernel,by decide +kernel⟩
noncomputable abbrev Q2:Stmt:=top 23
theorem dD:m7 ["variables","clauses","steps","keeper","needed","step","keeper.table"] ["variables","clauses","steps"] (j3 Q2):=⟨rfl,rfl,rfl,by decide +kernel,rfl,by decide +kernel,by decide +kernel⟩
noncomputable abbrev aQ:Stmt:=top 24
theorem gi:m7 ["steps","wanted","step"] ["steps"] (j3 aQ):=⟨rfl,rfl,rfl,by decide +kernel,rfl,by decide +kernel,by decide +kernel⟩
noncomputable abbrev M2:Stmt:=top 25
theorem ak:m7 ["step"] ["step"] (j3 M2):=⟨rfl,rfl,rfl,by decide +kernel,rfl,by decide +kernel,by decide +kernel⟩
noncomputable abbrev gq:Stmt:=top 27
theorem mH:m7 ["variables","clauses","table","steps","chosen","truths","reasons","conflict","free","step","clause"] ["variables","clauses"] (j3 gq):=⟨rfl,rfl,rfl,by decide +kernel,rfl,by decide +kernel,by decide +kernel⟩
noncomputable abbrev gn:Stmt:=top 28
theorem mG:m7 ["table","truths","reasons","grown","number","literals"] ["table","truths","reasons"] (j3 gn):=⟨rfl,rfl,rfl,by decide +kernel,rfl,by decide +kernel,by decide +kernel⟩
noncomputable abbrev er:Stmt:=top 29
theorem kd:m7 ["table","chosen","truths","reasons","conflict","needed","hints","variable","clause"] ["table","chosen","truths","reasons","conflict"] (j3 er):=⟨rfl,rfl,rfl,by decide +kernel,rfl,by decide +kernel,by decide +kernel⟩
noncomputable abbrev cC:Stmt:=top 31
theorem iE:m7 ["_law_script","_law_k"] ["_law_script","_law_k"] (j3 cC):=⟨rfl,rfl,rfl,by decide +kernel,rfl,by decide +kernel,by decide +kernel⟩
noncomputable abbrev eu:Stmt:=top 32
theorem ke:m7 ["_law_script","_law_k","_law_number"] ["_law_script","_law_k"] (j3 eu):=⟨rfl,rfl,rfl,by decide +kernel,rfl,by decide +kernel,by decide +kernel⟩
noncomputable abbrev aT:Stmt:=top 33
theorem gl:m7 ["_law_found"] ["_law_found"] (j3 aT):=⟨rfl,rfl,rfl,by decide +kernel,rfl,by decide +kernel,by decide +kernel⟩
noncomputable abbrev Y5:Stmt:=top 34
theorem fb:m7 ["_law_found"] ["_law_found"] (j3 Y5):=⟨rfl,rfl,rfl,by decide +kernel,rfl,by decide +kernel,by decide +kernel⟩
noncomputable abbrev Y7:Stmt:=top 35
theorem fe:m7 ["_law_script","_law_base","_law_variables","_law_most","_law_number","_law_size","_law_found","_law_k","_law_part"] ["_law_script","_law_base","_law_variables","_law_most"] (j3 Y7):=⟨rfl,rfl,rfl,by decide +kernel,rfl,by decide +kernel,by decide +kernel⟩
noncomputable abbrev Y6:Stmt:=top 37
theorem fc:m7 ["_law_variables","_law_clauses","_law_found","_law_number","_law_model","_law_k"] ["_law_variables","_law_clauses"] (j3 Y6):=⟨rfl,rfl,rfl,by decide +kernel,rfl,by decide +kernel,by decide +kernel⟩
noncomputable abbrev cA:Stmt:=top 38
theorem iC:m7 ["_law_true_ones","_law_clause_here","_law_found","_law_literal"] ["_law_true_ones","_law_clause_here"] (j3 cA):=⟨rfl,rfl,rfl,by decide +kernel,rfl,by decide +kernel,by decide +kernel⟩
noncomputable abbrev aU:Stmt:=top 39
theorem gm:m7 ["_law_table_here","_law_literals","_law_true_ones","_law_hints_here","_law_k","_law_number","_law_left"] ["_law_table_here","_law_literals"] (j3 aU):=⟨rfl,rfl,rfl,by decide +kernel,rfl,by decide +kernel,by decide +kernel⟩
noncomputable abbrev cy:Stmt:=top 40
theorem iA:m7 ["_law_table_here","_law_true_ones","_law_hints_here","_law_used","_law_hint","_law_left"] ["_law_table_here","_law_true_ones","_law_hints_here"] (j3 cy):=⟨rfl,rfl,rfl,by decide +kernel,rfl,by decide +kernel,by decide +kernel⟩
noncomputable abbrev cz:Stmt:=top 47
theorem iB:m7 ["_law_formula_here","_law_table_here","_law_k","_law_steps_here","_law_size","_law_number","_law_signs","_law_clause_here","_law_opposite","_law_hints_here","_law_place"] ["_law_formula_here"] (j3 cz):=⟨rfl,rfl,rfl,by decide +kernel,rfl,by decide +kernel,by decide +kernel⟩
noncomputable abbrev cB:Stmt:=top 48
theorem iD:m7 ["_law_script","_law_base","_law_clauses","_law_number","_law_one","_law_at","_law_k","_law_variables","_law_many"] ["_law_script","_law_base"] (j3 cB):=⟨rfl,rfl,rfl,by decide +kernel,rfl,by decide +kernel,by decide +kernel⟩
noncomputable abbrev pS:Stmt:=top 49
theorem xU:m7 ["_law_script","_law_formula_here","_law_clauses","_law_k","_law_at","_law_steps_here","_law_drops","_law_found","_law_due","_law_wanted","_law_step","_law_hint"] ["_law_script"] (j3 pS):=⟨rfl,rfl,rfl,by decide +kernel,rfl,by decide +kernel,by decide +kernel⟩
noncomputable def qw (p v:Int):Int:=(1+p / 2 % v)*(1-2*(p % 2))
noncomputable def sizeV (n a:Int):Int:=if n % 6=0 then 1 else if n % 6=1 then 2 else if n % 6=2 then 3 else if n % 6=3 then 2 else if n % 6=4 then 3 else n / 6 % (a+1)
noncomputable def U0 (ns:List Int)(b v a:Int):List Int:=(List.range (sizeV (B6 ns b) a).toNat).map λ(k:Nat)=>qw (B6 ns (b+1+(k:Int))) v
noncomputable def l6 (ts:List (Int×Int)):List (Key×D):=ts.map λkv=>(.inl kv.1,.int kv.2)
noncomputable def k9 (ts:List (Int×Int))(k:Int):Option Int:=(ts.find? λkv=>decide (kv.1=k)).map (·.2)
noncomputable def P7 (a:List Int)(l:Int):List Int:=if l∈a then a else a++[l]
noncomputable def Y0 (ts:List (Int×Int))(a:List Int)(l:Int):List Int:=if k9 ts l.natAbs=some (-l)then a else P7 a l
noncomputable def p7 (ts:List (Int×Int))(a:List Int):List Int:=a.foldl (Y0 ts) []
noncomputable def u8 (cs:List (List Int)):List D:=cs.map λc=>D.tup (c.map D.int)
noncomputable def qY (c M:List Int):Bool:=c.any λl=>decide (l∈M)
noncomputable abbrev C3:=List (Int×Int)
noncomputable def E5 (ts:C3)(k v:Int):C3:=if(ts.any λkv=>decide (kv.1=k))=true then ts.map λkv=>if kv.1=k then(kv.1,v)else kv else ts++[(k,v)]
noncomputable def n5 (x:Int):Int:=(x.natAbs:Int)
noncomputable def B5 (a:List Int):C3:=a.foldl (λts l=>E5 ts (n5 l) l) []
noncomputable abbrev Tab:=List (Int×List Int)
noncomputable def n8 (T:Tab):List (Key×D):=T.map λkv=>(.inl kv.1,.tup (kv.2.map D.int))
noncomputable def E8 (T:Tab)(k:Int):Option (List Int):=(T.find? λkv=>decide (kv.1=k)).map (·.2)
noncomputable def uj (T:Tab):Bool:=decide (T.length≤600)&&T.all λkv=>decide (kv.2.length≤1000)
noncomputable def n7:Int→List (List Int)→Tab
 |_,[]=>[]
 |k,c::cs=>(k,c)::n7 (k+1) cs
noncomputable def scan1 (ts rs:C3)(g:Bool)(n:Int):List Int→Option (C3×C3×Bool)
 | []=>none
 | [l]=>if(k9 ts (n5 l)).isSome=true then some (ts,rs,g)else some (E5 ts (n5 l) l,E5 rs (n5 l) n,true)
 |_=>some (ts,rs,g)
noncomputable def M0:C3→C3→Bool→Tab→Option Int×C3×C3×Bool
 |ts,rs,g,[]=>(none,ts,rs,g)
 |ts,rs,g,kv::ns=>match scan1 ts rs g kv.1 (p7 ts kv.2)with
  |none=>(some kv.1,ts,rs,g)
  |some (a,b,c)=>M0 a b c ns
noncomputable def Q4 (T:Tab):Nat→C3→C3→Option (Option Int×C3×C3)
 |0,_,_=>none
 |n+1,ts,rs=>match M0 ts rs false T with
  | (some k,a,b,_)=>some (some k,a,b)
  | (none,a,b,false)=>some (none,a,b)
  | (none,a,b,true)=>Q4 T n a b
noncomputable def vY:Option Int→D
 |none=>.v1
 |some k=>.int k
noncomputable def Z8 (c:List Int):List Int:=(c.map n5).foldl P7 []
noncomputable def U1 (T:Tab)(rs:C3):List Int→List Int→List Int→Option (List Int×List Int)
 | [],hs,nd=>some (hs,nd)
 |x::xs,hs,nd=>if x∈nd∧(k9 rs x).isSome=true then(E8 T ((k9 rs x).getD 0)).bind λc=>U1 T rs xs (hs++[(k9 rs x).getD 0]) ((Z8 c).foldl P7 nd)else U1 T rs xs hs nd
noncomputable def bF (T:Tab)(ch:List Int)(ts rs:C3)(k:Int):Option (List Int×List Int):=(E8 T k).bind λc=>(U1 T rs (ts.map (·.1)).reverse [k] (Z8 c)).map λr=>((ch.filter λl=>decide (n5 l∈r.2)).map (λl=>-l),r.1.reverse)
noncomputable abbrev dq:=Int×List Int×List Int
noncomputable def o8 (s:dq):D:=.tup [.str [97,100,100],.int s.1,.tup (s.2.1.map D.int),.tup (s.2.2.map D.int)]
noncomputable def E9 (v:Int)(ts:C3):List Int:=((List.range v.toNat).map λk=>(1:Int)+((k:Nat):Int)).filter λx=>!(k9 ts x).isSome
noncomputable def jP (v:Int)(ts:C3):List Int:=((List.range v.toNat).map λk=>(1:Int)+((k:Nat):Int)).map λx=>(k9 ts x).getD 0
noncomputable def Cc (cs:List (List Int))(st:List dq)(ch:List Int):Bool:=decide (cs.length≤500∧st.length≤500∧ch.length≤20)&&cs.all λc=>decide (c.length≤100)
noncomputable def v5 (v:Int):Nat→List (List Int)→List dq→List Int→Option (Option (List Int)×List dq)
 |0,_,_,_=>none
 |n+1,cs,st,ch=>if Cc cs st ch=true then match Q4 (n7 1 cs) 99 (B5 ch) []with
  |none=>none
  |some (some k,ts,rs)=>if ts.length≤20∧rs.length≤1000 then match bF (n7 1 cs) ch ts rs k with
   |none=>none
   |some (c,hs)=>match c.getLast? with
    |none=>some (none,st++[(((cs.length+1:Nat):Int),c,hs)])
    |some l=>if -l∈ch then v5 v n (cs++[c]) (st++[(((cs.length+1:Nat):Int),c,hs)]) (ch.takeWhile λx=>!decide (x=-l))else none
   else none
  |some (none,ts,rs)=>match E9 v ts with
   | []=>some (some (jP v ts),[])
   |x::_=>v5 v n cs st (ch++[-x])
  else none
noncomputable def HU:Option (List Int)→D
 |none=>.v1
 |some M=>.tup (M.map D.int)
noncomputable abbrev uz:List Nat:=[101,110,100,115]
noncomputable abbrev qz:List Nat:=[103,111,101,115,32,111,110]
noncomputable abbrev FC:List Nat:=[119,114,111,110,103]
noncomputable def yF (i:Nat)(f:List D→Option FR)(ds:List D):Option FR:=match ds[i]? with
 |some (.dct _)=>f ds
 |_=>none
theorem kr {i:Nat}{f:List D→Option FR}{ds:List D}{r:FR}(h:yF i f ds=some r):(∃es,ds[i]?=some (.dct es))∧f ds=some r:=by
 unfold yF at h;split at h
 ·rename_i es e;exact⟨⟨es,e⟩,h⟩
 ·cases h
section
variable {P:Program}{w:World}{K:PySem.W.Frag}{mg:Str→Option Value}{base:Heap}{f:Addr}{fd:FuncData}
noncomputable abbrev Z5:SM:=(l4 (ax (V4 (f8 0)) (retS (g9 x0 (f8 0) (g9 R4 (f8 1) (C4 V5 (f6 (f8 0) i7))))) bw)
 (retS (mC (.int 0))))
noncomputable def bb:List D→Option FR:=n3 Z5 2 [false,false]
theorem lK:∀ds r,bb ds=some r→n3 Z5 2 [false,false] ds=some r:=λ_ _ h=>h
theorem nT (F:bo K "_law_cell" "_law_cell" cC f fd) (a:mg "len"=none):
  x2 P w K mg base W0 1 f fd ["_law_script","_law_k"] (E3 K [false,false] (n3 Z5 2 [false,false])):=
 have nd:=iE.nd
 N4 (k:=0) F iE rfl (λcdv A outer s H E H0 HK G0 L hr=>by
  have b:=fR hr;exact(i6 (I8 (U3 (dv 0)) (k7 (u7 (v4 b (dv 0) (S3 (dv 1) (X4 a (e9 (dv 0) h8)))))) x6)
   (k7 (u7 h9))))
noncomputable abbrev bh:SM:=(l4 (o3 2 (g9 R4 (g9 A3 (o9 [false,false] bb (f6 (f8 0) (f6 (f8 1) i7))) (g9 aM (mC (.int 104729)) (g9 A3 (f8 1) (mC (.int 1))))) (mC (.int 4294967291))))
 (l4 (o3 2 (g9 R4 (g9 aM (f8 2) (mC (.int 48271))) (mC (.int 4294967279))))
 (retS (g9 R4 (g9 A3 (g9 aM (g9 kU (f8 2) (mC (.int 64))) (mC (.int 69621))) (f8 2)) (mC (.int 4294967231))))))
noncomputable def v0:List D→Option FR:=n3 bh 3 [false,false]
theorem nJ:∀ds r,v0 ds=some r→n3 bh 3 [false,false] ds=some r:=λ_ _ h=>h
theorem pV (F:bo K "_law_mix" "_law_mix" eu f fd)
  (a:eg P w K mg base 1 "_law_cell" ["_law_script","_law_k"] (E3 K [false,false] bb)):
  x2 P w K mg base W0 2 f fd ["_law_script","_law_k"] (E3 K [false,false] (n3 bh 3 [false,false])):=
 have nd:=ke.nd
 N4 (k:=1) F ke rfl (λcdv A outer s H E H0 HK G0 L hr=>by
  have b:=fR hr;exact(i6 (n2 (i:=2) (S3 (x4 (p4 a (hr.mono (by decide)) (e9 (dv 0) (e9 (dv 1) h8))) (bj h9 (x4 (dv 1) h9))) h9) nd)
   (i6 (n2 (i:=2) (S3 (bj (dv 2) h9) h9) nd)
   (k7 (u7 (S3 (x4 (bj (nk (dv 2) h9) h9) (dv 2)) h9))))))
noncomputable abbrev bI:SM:=(retS (gE (C4 wA (f6 (f8 0) (f6 (mC (.ty "int")) i7))) (uu (C4 wA (f6 (f8 0) (f6 (mC (.ty "bool")) i7))))))
noncomputable def T7:List D→Option FR:=n3 bI 1 [false]
theorem jW:∀ds r,T7 ds=some r→n3 bI 1 [false] ds=some r:=λ_ _ h=>h
theorem lQ (F:bo K "_law_whole" "_law_whole" aT f fd) (a:mg "isinstance"=none) (c:mg "int"=none) (b:mg "bool"=none):
  x2 P w K mg base W0 1 f fd ["_law_found"] (E3 K [false] (n3 bI 1 [false])):=
 have nd:=gl.nd
 N4 (k:=0) F gl rfl (λcdv A outer s H E H0 HK G0 L hr=>by
  have d:=fR hr;exact(k7 (u7 (Aa (zZ a (e9 (dv 0) (e9 (Gb c Li) h8))) (zX (Iv (zZ a (e9 (dv 0) (e9 (Gb b Lj) h8)))))))))
noncomputable abbrev aF:SM:=(retS (gE (C4 wA (f6 (f8 0) (f6 (mC (.ty "list")) i7))) (C4 tD (f6 (B2 (B1 (f8 0)) (w6 0) F1 (o9 [false] T7 (f6 (f8 0) i7)) 1 []) i7))))
noncomputable def W4:List D→Option FR:=n3 aF 1 [false]
theorem ja:∀ds r,W4 ds=some r→n3 aF 1 [false] ds=some r:=λ_ _ h=>h
theorem kg (F:bo K "_law_wholes" "_law_wholes" Y5 f fd) (a:mg "isinstance"=none) (c:mg "list"=none) (d:mg "all"=none)
  (b:eg P w K mg base 1 "_law_whole" ["_law_found"] (E3 K [false] T7)):
  x2 P w K mg base W0 2 f fd ["_law_found"] (E3 K [false] (n3 aF 1 [false])):=
 have nd:=fb.nd
 N4 (k:=1) F fb rfl (λcdv A outer s H E H0 HK G0 L hr=>by
  have e:=fR hr;exact(k7 (u7 (Aa (zZ a (e9 (dv 0) (e9 (Gb c bK) h8))) (zX (uX rfl d (e9 (P4 (aN [] trivial) (N3 (dv 0)) (λ_ _ _ _ _ _ _ _ _=>X3) (λ_ _ _ _ _ _ _ _ _=>(p4 b (hr.mono (by decide)) (e9 (dv 0) h8)))) h8)))))))
noncomputable abbrev df:SM:=(l4 (o3 8 (o9 [false,false] v0 (f6 (f8 0) (f6 (g9 A3 (g9 A3 (f8 1) (mC (.int 1))) (f8 7)) i7))))
 (I0 (C7 6 (f6 (g9 aM (g9 A3 (mC (.int 1)) (g9 R4 (g9 kU (f8 8) (mC (.int 2))) (f8 2))) (g9 iY (mC (.int 1)) (g9 aM (mC (.int 2)) (g9 R4 (f8 8) (mC (.int 2)))))) i7))))
noncomputable abbrev T8:SM:=(l4 (o3 4 (o9 [false,false] v0 (f6 (f8 0) (f6 (f8 1) i7))))
 (l4 (o3 5 (g9 x0 (O3 (f6 (mC (.int 1)) (f6 (mC (.int 2)) (f6 (mC (.int 3)) (f6 (mC (.int 2)) (f6 (mC (.int 3)) (f6 (g9 R4 (g9 kU (f8 4) (mC (.int 6))) (g9 A3 (f8 3) (mC (.int 1)))) i7))))))) (g9 R4 (f8 4) (mC (.int 6)))))
 (l4 (o3 6 (O3 i7))
 (l4 (V7 (X1 ints1 (f6 (f8 5) i7)) (w6 7) df)
 (retS (C4 cr (f6 (f8 6) i7)))))))
noncomputable def E7:List D→Option FR:=n3 T8 9 [false,false,false,false]
theorem jc:∀ds r,E7 ds=some r→n3 T8 9 [false,false,false,false] ds=some r:=λ_ _ h=>h
theorem ki (F:bo K "_law_clause" "_law_clause" Y7 f fd) (b:mg "range"=none) (c:mg "tuple"=none)
  (a:eg P w K mg base 2 "_law_mix" ["_law_script","_law_k"] (E3 K [false,false] v0)):
  x2 P w K mg base W0 3 f fd ["_law_script","_law_base","_law_variables","_law_most"] (E3 K [false,false,false,false] (n3 T8 9 [false,false,false,false])):=
 have nd:=fe.nd
 N4 (k:=2) F fe rfl (λcdv A outer s H E H0 HK G0 L hr=>by
  have d:=fR hr;exact(i6 (n2 (i:=4) (p4 a (hr.mono (by decide)) (e9 (dv 0) (e9 (dv 1) h8))) nd)
   (i6 (n2 (i:=5) (v4 d (M4 (e9 h9 (e9 h9 (e9 h9 (e9 h9 (e9 h9 (e9 (S3 (nk (dv 4) h9) (x4 (dv 3) h9)) h8))))))) (S3 (dv 4) h9)) nd)
   (i6 (n2 (i:=6) (M4 h8) nd)
   (i6 (O8 (G9 b (e9 (dv 5) h8)) (D2 (i:=7) nd) (i6 (n2 (i:=8) (p4 a (hr.mono (by decide)) (e9 (dv 0) (e9 (x4 (x4 (dv 1) h9) (dv 7)) h8))) nd)
   (k7 (K5 (L5 6 (dv 6) (e9 (bj (x4 h9 (S3 (nk (dv 8) h9) (dv 2))) (kY h9 (bj h9 (S3 (dv 8) h9)))) h8))))))
   (k7 (u7 (cV c (e9 (dv 6) h8)))))))))
noncomputable abbrev de:SM:=(I0 (C7 4 (f6 (g9 aM (g9 A3 (f8 5) (mC (.int 1))) (g9 iY (g9 aM (mC (.int 2)) (g9 R4 (g9 kU (f8 3) (g9 x0 (O3 (f6 (mC (.int 1)) (f6 (mC (.int 2)) (f6 (mC (.int 4)) (f6 (mC (.int 8)) (f6 (mC (.int 16)) i7)))))) (g9 iY (g9 iY (f8 0) (mC (.int 1))) (f8 5)))) (mC (.int 2)))) (mC (.int 1)))) i7)))
noncomputable abbrev dc:SM:=(l4 (o3 4 (O3 i7))
 (l4 (V7 (X1 ints1 (f6 (f8 0) i7)) (w6 5) de)
 (ax (V4 (C4 tD (f6 (B2 (B1 (f8 1)) (w6 0) F1 (C4 xo (f6 (B2 (B1 (f8 0)) (w6 0) F1 (g9 inD (f8 0) (f8 1)) 1 [1]) i7)) 1 [4]) i7))) (I0 (C7 2 (f6 (C4 cr (f6 (f8 4) i7)) i7))) bw)))
noncomputable abbrev aG:SM:=(l4 (o3 2 (O3 i7))
 (l4 (V7 (X1 ints1 (f6 (g9 x0 (O3 (f6 (mC (.int 1)) (f6 (mC (.int 2)) (f6 (mC (.int 4)) (f6 (mC (.int 8)) (f6 (mC (.int 16)) (f6 (mC (.int 32)) i7))))))) (f8 0)) i7)) (w6 3) dc)
 (retS (f8 2))))
noncomputable def E6:List D→Option FR:=n3 aG 6 [false,false]
theorem jb:∀ds r,E6 ds=some r→n3 aG 6 [false,false] ds=some r:=λ_ _ h=>h
theorem kh (F:bo K "_law_models" "_law_models" Y6 f fd) (a:mg "range"=none) (c:mg "all"=none) (d:mg "any"=none) (b:mg "tuple"=none):
  x2 P w K mg base W0 1 f fd ["_law_variables","_law_clauses"] (E3 K [false,false] (n3 aG 6 [false,false])):=
 have nd:=fc.nd
 N4 (k:=0) F fc rfl (λcdv A outer s H E H0 HK G0 L hr=>by
  have e:=fR hr;exact(i6 (n2 (i:=2) (M4 h8) nd)
   (i6 (O8 (G9 a (e9 (v4 e (M4 (e9 h9 (e9 h9 (e9 h9 (e9 h9 (e9 h9 (e9 h9 h8))))))) (dv 0)) h8)) (D2 (i:=3) nd) (i6 (n2 (i:=4) (M4 h8) nd)
   (i6 (O8 (G9 a (e9 (dv 0) h8)) (D2 (i:=5) nd) (k7 (K5 (L5 4 (dv 4) (e9 (bj (x4 (dv 5) h9) (kY (bj h9 (S3 (nk (dv 3) (v4 e (M4 (e9 h9 (e9 h9 (e9 h9 (e9 h9 (e9 h9 h8)))))) (kY (kY (dv 0) h9) (dv 5)))) h9)) h9)) h8)))))
   (k7 (I8 (U3 (uX rfl c (e9 (P4 (aN [("_law_model",4)] ⟨⟨rfl,rfl,.inl rfl⟩,trivial⟩) (N3 (dv 1)) (λ_ _ _ _ _ _ _ _ _=>X3) (λ_ _ _ _ _ _ _ _ _=>(DN rfl d (e9 (P4 (aN [("_law_model",1)] ⟨⟨rfl,rfl,.inl rfl⟩,trivial⟩) (N3 (dv 0)) (λ_ _ _ _ _ _ _ _ _=>X3) (λ_ _ _ _ _ _ _ _ _=>(Iw e (dv 0) (dv 1)))) h8)))) h8))) (k7 (K5 (L5 2 (dv 2) (e9 (cV b (e9 (dv 4) h8)) h8)))) x6)))))
   (k7 (u7 (dv 2))))))
noncomputable abbrev bB:SM:=(ax (gF (p6 (g9 N1 (cZ V1 (f8 3)) (f8 0))) (p6 (g9 N1 (f8 3) (f8 2)))) (I0 (C7 2 (f6 (f8 3) i7))) bw)
noncomputable abbrev cT:SM:=(l4 (o3 2 (O3 i7))
 (l4 (V7 (B1 (f8 1)) (w6 3) bB)
 (retS (f8 2))))
noncomputable def S0:List D→Option FR:=n3 cT 4 [false,false]
theorem lI:∀ds r,S0 ds=some r→n3 cT 4 [false,false] ds=some r:=λ_ _ h=>h
theorem nR (F:bo K "_law_open" "_law_open" cA f fd):
  x2 P w K mg base W0 1 f fd ["_law_true_ones","_law_clause_here"] (E3 K [false,false] (n3 cT 4 [false,false])):=
 have nd:=iC.nd
 N4 (k:=0) F iC rfl (λcdv A outer s H E H0 HK G0 L hr=>by
  have a:=fR hr;exact(i6 (n2 (i:=2) (M4 h8) nd)
   (i6 (O8 (N3 (dv 1)) (D2 (i:=3) nd) (k7 (I8 ((w_and (cv a (aH (dv 3)) (dv 0)) (jN (cv a (dv 3) (dv 2))))).pt (k7 (K5 (L5 2 (dv 2) (e9 (dv 3) h8)))) x6)))
   (k7 (u7 (dv 2))))))
noncomputable abbrev au:SM:=(l4 (o3 6 (o9 [false,false] S0 (f6 (f8 2) (f6 (g9 x0 (f8 0) (f8 5)) i7))))
 (l4 (ax (ig (V4 (f8 6))) (retS (g9 A3 (f8 3) (O3 (f6 (f8 5) i7)))) bw)
 (ax (gF (p6 (g9 R8 (C4 V5 (f6 (f8 6) i7)) (mC (.int 1)))) (p6 (g9 N1 (g9 x0 (f8 6) (mC (.int 0))) (f8 2)))) (l4 (I0 (C7 2 (f6 (g9 x0 (f8 6) (mC (.int 0))) i7)))
 (I0 (C7 3 (f6 (f8 5) i7)))) bw)))
noncomputable abbrev dL:SM:=(V7 (B1 (C4 el (f6 (f8 0) i7))) (w6 5) au)
noncomputable abbrev bJ:SM:=(l4 (o3 2 (C4 dM (f6 (f8 1) i7)))
 (l4 (o3 3 (O3 i7))
 (l4 (V7 (X1 ints1 (f6 (mC (.int 9)) i7)) (w6 4) dL)
 (retS (f8 3)))))
noncomputable def Z1:List D→Option FR:=n3 bJ 7 [false,false]
theorem jX:∀ds r,Z1 ds=some r→n3 bJ 7 [false,false] ds=some r:=λ_ _ h=>h
theorem lR (F:bo K "_law_hints" "_law_hints" aU f fd) (d:mg "list"=none) (c:mg "range"=none) (b:mg "sorted"=none) (e:mg "len"=none)
  (a:eg P w K mg base 1 "_law_open" ["_law_true_ones","_law_clause_here"] (E3 K [false,false] S0)):
  x2 P w K mg base W0 2 f fd ["_law_table_here","_law_literals"] (E3 K [false,false] (n3 bJ 7 [false,false])):=
 have nd:=gm.nd
 N4 (k:=1) F gm rfl (λcdv A outer s H E H0 HK G0 L hr=>by
  have g:=fR hr;exact(i6 (n2 (i:=2) (io rfl d (e9 (dv 1) h8)) nd)
   (i6 (n2 (i:=3) (M4 h8) nd)
   (i6 (O8 (G9 c (e9 h9 h8)) (D2 (i:=4) nd) (k7 (O8 (N3 (zW rfl b (e9 (dv 0) h8))) (D2 (i:=5) nd) (i6 (n2 (i:=6) (p4 a (hr.mono (by decide)) (e9 (dv 2) (e9 (v4 g (dv 0) (dv 5)) h8))) nd)
   (i6 (I8 (eX (U3 (dv 6))) (k7 (u7 (x4 (dv 3) (M4 (e9 (dv 5) h8))))) x6)
   (k7 (I8 ((w_and (eY g (X4 e (e9 (dv 6) h8)) h9) (jN (cv g (v4 g (dv 6) h9) (dv 2))))).pt (i6 (K5 (L5 2 (dv 2) (e9 (v4 g (dv 6) h9) h8)))
   (k7 (K5 (L5 3 (dv 3) (e9 (dv 5) h8))))) x6)))))))
   (k7 (u7 (dv 3)))))))
noncomputable abbrev W3:SM:=(l4 (ax (p6 (g9 (Z7 λi j=>decide (i<j)) (f8 4) (mC (.int 0)))) (retS (M7 (f6 (mC (.int 1)) (f6 (f8 3) i7)))) bw)
 (l4 (ax (p6 (g9 N1 (f8 4) (f8 0))) (retS (M7 (f6 (mC (.int 0)) (f6 (f8 3) i7)))) bw)
 (l4 (o3 5 (o9 [false,false] S0 (f6 (f8 1) (f6 (g9 x0 (f8 0) (f8 4)) i7))))
 (l4 (o3 3 (g9 A3 (f8 3) (mC (.int 1))))
 (l4 (ax (ig (V4 (f8 5))) (retS (M7 (f6 (mC (.int 2)) (f6 (f8 3) i7)))) bw)
 (l4 (ax (qp (p6 (g9 (Z7 λi j=>decide (j<i)) (C4 V5 (f6 (f8 5) i7)) (mC (.int 1)))) (p6 (g9 inD (g9 x0 (f8 5) (mC (.int 0))) (f8 1)))) (retS (M7 (f6 (mC (.int 0)) (f6 (f8 3) i7)))) bw)
 (I0 (C7 1 (f6 (g9 x0 (f8 5) (mC (.int 0))) i7)))))))))
noncomputable abbrev cR:SM:=(l4 (o3 3 (mC (.int 0)))
 (l4 (V7 (B1 (f8 2)) (w6 4) W3)
 (retS (M7 (f6 (mC (.int 1)) (f6 (f8 3) i7))))))
noncomputable def aY:List D→Option FR:=n3 cR 6 [false,true,false]
theorem lG:∀ds r,aY ds=some r→n3 cR 6 [false,true,false] ds=some r:=λ_ _ h=>h
theorem nP (F:bo K "_law_walk" "_law_walk" cy f fd) (b:mg "len"=none)
  (a:eg P w K mg base 1 "_law_open" ["_law_true_ones","_law_clause_here"] (E3 K [false,false] S0)):
  x2 P w K mg base W0 2 f fd ["_law_table_here","_law_true_ones","_law_hints_here"] (E3 K [false,true,false] (n3 cR 6 [false,true,false])):=
 have nd:=iA.nd
 N4 (k:=1) F iA rfl (λcdv A outer s H E H0 HK G0 L hr=>by
  have c:=fR hr;exact(i6 (n2 (i:=3) h9 nd)
   (i6 (O8 (N3 (dv 2)) (D2 (i:=4) nd) (i6 (I8 (Bj (dv 4) h9) (k7 (u7 (J1 (e9 h9 (e9 (dv 3) h8))))) x6)
   (i6 (I8 (cv c (dv 4) (dv 0)) (k7 (u7 (J1 (e9 h9 (e9 (dv 3) h8))))) x6)
   (i6 (n2 (i:=5) (p4 a (hr.mono (by decide)) (e9 (dv 1) (e9 (v4 c (dv 0) (dv 4)) h8))) nd)
   (i6 (n2 (i:=3) (x4 (dv 3) h9) nd)
   (i6 (I8 (eX (U3 (dv 5))) (k7 (u7 (J1 (e9 h9 (e9 (dv 3) h8))))) x6)
   (i6 (I8 ((w_or (Eo (X4 b (e9 (dv 5) h8)) h9) (pC (lE c (v4 c (dv 5) h9) (dv 1))))).pt (k7 (u7 (J1 (e9 h9 (e9 (dv 3) h8))))) x6)
   (k7 (K5 (L5 1 (dv 1) (e9 (v4 c (dv 5) h9) h8)))))))))))
   (k7 (u7 (J1 (e9 h9 (e9 (dv 3) h8))))))))
noncomputable abbrev bA:SM:=(fB 1 (g9 x0 (g9 x0 (f8 0) (mC (.int 1))) (f8 2)) (g9 A3 (f8 2) (mC (.int 1))))
noncomputable abbrev bz:SM:=(l4 (o3 6 (B2 (X1 ints1 (f6 (f8 4) i7)) (w6 0) F1 (g9 iY (mC (.int 1)) (g9 aM (mC (.int 2)) (g9 R4 (g9 kU (f8 1) (g9 x0 (O3 (f6 (mC (.int 1)) (f6 (mC (.int 2)) (f6 (mC (.int 4)) (f6 (mC (.int 8)) i7))))) (f8 0))) (mC (.int 2))))) 1 [5]))
 (l4 (o3 7 (C4 cr (f6 (B2 (X1 ints1 (f6 (f8 4) i7)) (w6 0) F1 (g9 aM (g9 A3 (f8 0) (mC (.int 1))) (g9 x0 (f8 1) (f8 0))) 1 [6]) i7)))
 (l4 (o3 8 (B2 (B1 (f8 7)) (w6 0) F1 (cZ V1 (f8 0)) 1 []))
 (l4 (o3 9 (o9 [false,false] Z1 (f6 (f8 1) (f6 (f8 8) i7))))
 (ax (p6 (g9 R8 (g9 x0 (o9 [false,true,false] aY (f6 (f8 1) (f6 (f8 8) (f6 (f8 9) i7)))) (mC (.int 0))) (mC (.int 2)))) (l4 (o3 10 (g9 A3 (g9 A3 (C4 V5 (f6 (g9 x0 (f8 0) (mC (.int 1))) i7)) (C4 V5 (f6 (f8 3) i7))) (mC (.int 1))))
 (l4 (I0 (C7 3 (f6 (M7 (f6 (mC (.str [97,100,100])) (f6 (f8 10) (f6 (f8 7) (f6 (C4 cr (f6 (f8 9) i7)) i7))))) i7)))
 (fB 1 (f8 7) (f8 10)))) bw)))))
noncomputable abbrev bx:SM:=(V7 (X1 ints1 (f6 (g9 x0 (O3 (f6 (mC (.int 1)) (f6 (mC (.int 2)) (f6 (mC (.int 4)) (f6 (mC (.int 8)) (f6 (mC (.int 16)) i7)))))) (f8 4)) i7)) (w6 5) bz)
noncomputable abbrev cS:SM:=(l4 (o3 1 iJ)
 (l4 (V7 (X1 ints1 (f6 (C4 V5 (f6 (g9 x0 (f8 0) (mC (.int 1))) i7)) i7)) (w6 2) bA)
 (l4 (o3 3 (O3 i7))
 (l4 (V7 (X1 sF (f6 (g9 x0 (f8 0) (mC (.int 0))) (f6 (cZ V1 (mC (.int 1))) (f6 (cZ V1 (mC (.int 1))) i7)))) (w6 4) bx)
 (retS (f8 3))))))
noncomputable def aZ:List D→Option FR:=n3 cS 11 [false]
theorem lH:∀ds r,aZ ds=some r→n3 cS 11 [false] ds=some r:=λ_ _ h=>h
theorem nQ (F:bo K "_law_sure" "_law_sure" cz f fd) (a:mg "range"=none) (e:mg "len"=none) (c:mg "tuple"=none)
  (b:eg P w K mg base 2 "_law_hints" ["_law_table_here","_law_literals"] (E3 K [false,false] Z1))
  (d:eg P w K mg base 2 "_law_walk" ["_law_table_here","_law_true_ones","_law_hints_here"] (E3 K [false,true,false] aY)):
  x2 P w K mg base W0 3 f fd ["_law_formula_here"] (E3 K [false] (n3 cS 11 [false])):=
 have nd:=iB.nd
 N4 (k:=2) F iB rfl (λcdv A outer s H E H0 HK G0 L hr=>by
  have g:=fR hr;exact(i6 (n2 (i:=1) lc nd)
   (i6 (O8 (G9 a (e9 (X4 e (e9 (v4 g (dv 0) h9) h8)) h8)) (D2 (i:=2) nd) (k7 (fg 1 g (v4 g (v4 g (dv 0) h9) (dv 2)) (dv 1) (x4 (dv 2) h9))))
   (i6 (n2 (i:=3) (M4 h8) nd)
   (i6 (O8 (wG a (e9 (v4 g (dv 0) h9) (e9 (aH h9) (e9 (aH h9) h8)))) (D2 (i:=4) nd) (k7 (O8 (G9 a (e9 (v4 g (M4 (e9 h9 (e9 h9 (e9 h9 (e9 h9 (e9 h9 h8)))))) (dv 4)) h8)) (D2 (i:=5) nd) (i6 (n2 (i:=6) (P4 (aN [("_law_number",5)] ⟨⟨rfl,rfl,.inl rfl⟩,trivial⟩) (G9 a (e9 (dv 4) h8)) (λ_ _ _ _ _ _ _ _ _=>X3) (λ_ _ _ _ _ _ _ _ _=>(kY h9 (bj h9 (S3 (nk (dv 1) (v4 g (M4 (e9 h9 (e9 h9 (e9 h9 (e9 h9 h8))))) (dv 0))) h9))))) nd)
   (i6 (n2 (i:=7) (cV c (e9 (P4 (aN [("_law_signs",6)] ⟨⟨rfl,rfl,.inl rfl⟩,trivial⟩) (G9 a (e9 (dv 4) h8)) (λ_ _ _ _ _ _ _ _ _=>X3) (λ_ _ _ _ _ _ _ _ _=>(bj (x4 (dv 0) h9) (v4 g (dv 1) (dv 0))))) h8)) nd)
   (i6 (ib (i:=8) (aN [] trivial) nd (N3 (dv 7)) (λ_ _ _ _ _ _ _ _ _=>X3) (λ_ _ _ _ _ _ _ _ _=>(aH (dv 0))))
   (i6 (n2 (i:=9) (p4 b (hr.mono (by decide)) (e9 (dv 1) (e9 (dv 8) h8))) nd)
   (k7 (I8 (eY g (v4 g (p4 d (hr.mono (by decide)) (e9 (dv 1) (e9 (dv 8) (e9 (dv 9) h8)))) h9) h9) (i6 (n2 (i:=10) (x4 (x4 (X4 e (e9 (v4 g (dv 0) h9) h8)) (X4 e (e9 (dv 3) h8))) h9) nd)
   (i6 (K5 (L5 3 (dv 3) (e9 (J1 (e9 (kZ (cs:=[97,100,100]) (by decide +kernel)) (e9 (dv 10) (e9 (dv 7) (e9 (cV c (e9 (dv 9) h8)) h8))))) h8)))
   (k7 (fg 1 g (dv 7) (dv 1) (dv 10))))) x6)))))))))
   (k7 (u7 (dv 3))))))))
noncomputable abbrev bC:SM:=(l4 (o3 4 (B2 (X1 ints1 (f6 (mC (.int 3)) i7)) (w6 0) F1 (g9 aM (g9 A3 (mC (.int 1)) (f8 0)) (g9 iY (mC (.int 1)) (g9 aM (mC (.int 2)) (g9 R4 (g9 kU (f8 1) (g9 x0 (O3 (f6 (mC (.int 1)) (f6 (mC (.int 2)) (f6 (mC (.int 4)) i7)))) (f8 0))) (mC (.int 2)))))) 1 [3]))
 (l4 (o3 5 (g9 R4 (o9 [false,false] v0 (f6 (f8 0) (f6 (g9 A3 (g9 A3 (f8 1) (mC (.int 2))) (f8 3)) i7))) (mC (.int 3))))
 (I0 (gD 2 (f6 (g9 R4 (o9 [false,false] v0 (f6 (f8 0) (f6 (g9 A3 (f8 1) (mC (.int 3))) i7))) (g9 A3 (C4 V5 (f6 (f8 2) i7)) (mC (.int 1)))) (f6 (C4 cr (f6 (g9 A3 (Fs (f8 4) (ku (f8 5)) (M.pure none)) (Fs (f8 4) (M.pure none) (ku (f8 5)))) i7)) i7))))))
noncomputable abbrev fh:SM:=(l4 (o3 7 (g9 A3 (mC (.int 1)) (g9 R4 (o9 [false,false] v0 (f6 (f8 0) (f6 (g9 A3 (f8 1) (g9 aM (mC (.int 3)) (f8 6))) i7))) (mC (.int 3)))))
 (l4 (o3 8 (g9 A3 (mC (.int 2)) (g9 R4 (o9 [false,false] v0 (f6 (f8 0) (f6 (g9 A3 (g9 A3 (f8 1) (mC (.int 2))) (f8 6)) i7))) (mC (.int 11)))))
 (l4 (o3 2 (B2 (X1 ints1 (f6 (f8 8) i7)) (w6 0) F1 (o9 [false,false,false,false] E7 (f6 (f8 1) (f6 (g9 A3 (g9 A3 (g9 A3 (f8 2) (mC (.int 4))) (g9 aM (mC (.int 5)) (f8 0))) (f8 3)) (f6 (f8 4) (f6 (mC (.int 3)) i7))))) 1 [0,1,6,7]))
 (ax (ig (V4 (o9 [false,false] E6 (f6 (f8 7) (f6 (f8 2) i7))))) (retS (M7 (f6 (f8 7) (f6 (f8 2) i7)))) bw))))
noncomputable abbrev cU:SM:=(l4 (ax (p6 (g9 R8 (g9 R4 (o9 [false,false] v0 (f6 (f8 0) (f6 (g9 A3 (f8 1) (mC (.int 1))) i7))) (mC (.int 4))) (mC (.int 0)))) (l4 (o3 2 (O3 i7))
 (l4 (V7 (X1 ints1 (f6 (mC (.int 8)) i7)) (w6 3) bC)
 (retS (M7 (f6 (mC (.int 3)) (f6 (f8 2) i7)))))) bw)
 (l4 (V7 (X1 ints1 (f6 (mC (.int 6)) i7)) (w6 6) fh)
 (retS (M7 (f6 (mC (.int 2)) (f6 (O3 (f6 (M7 (f6 (mC (.int 1)) (f6 (mC (.int 2)) i7))) (f6 (M7 (f6 (cZ V1 (mC (.int 1))) (f6 (mC (.int 2)) i7))) (f6 (M7 (f6 (mC (.int 1)) (f6 (cZ V1 (mC (.int 2))) i7))) (f6 (M7 (f6 (cZ V1 (mC (.int 1))) (f6 (cZ V1 (mC (.int 2))) i7))) i7))))) i7))))))
noncomputable def ba:List D→Option FR:=n3 cU 9 [false,false]
theorem lJ:∀ds r,ba ds=some r→n3 cU 9 [false,false] ds=some r:=λ_ _ h=>h
theorem nS (F:bo K "_law_none" "_law_none" cB f fd) (b:mg "range"=none) (g:mg "len"=none) (e:mg "tuple"=none)
  (a:eg P w K mg base 2 "_law_mix" ["_law_script","_law_k"] (E3 K [false,false] v0))
  (c:eg P w K mg base 3 "_law_clause" ["_law_script","_law_base","_law_variables","_law_most"] (E3 K [false,false,false,false] E7))
  (d:eg P w K mg base 1 "_law_models" ["_law_variables","_law_clauses"] (E3 K [false,false] E6)):
  x2 P w K mg base W0 4 f fd ["_law_script","_law_base"] (E3 K [false,false] (n3 cU 9 [false,false])):=
 have nd:=iD.nd
 N4 (k:=3) F iD rfl (λcdv A outer s H E H0 HK G0 L hr=>by
  have h:=fR hr;exact(i6 (I8 (eY h (S3 (p4 a (hr.mono (by decide)) (e9 (dv 0) (e9 (x4 (dv 1) h9) h8))) h9) h9) (i6 (n2 (i:=2) (M4 h8) nd)
   (i6 (O8 (G9 b (e9 h9 h8)) (D2 (i:=3) nd) (i6 (ib (i:=4) (aN [("_law_number",3)] ⟨⟨rfl,rfl,.inl rfl⟩,trivial⟩) nd (G9 b (e9 h9 h8)) (λ_ _ _ _ _ _ _ _ _=>X3) (λ_ _ _ _ _ _ _ _ _=>(bj (x4 h9 (dv 0)) (kY h9 (bj h9 (S3 (nk (dv 1) (v4 h (M4 (e9 h9 (e9 h9 (e9 h9 h8)))) (dv 0))) h9))))))
   (i6 (n2 (i:=5) (S3 (p4 a (hr.mono (by decide)) (e9 (dv 0) (e9 (x4 (x4 (dv 1) h9) (dv 3)) h8))) h9) nd)
   (k7 (K5 (qQ 2 (dv 2) (e9 (S3 (p4 a (hr.mono (by decide)) (e9 (dv 0) (e9 (x4 (dv 1) h9) h8))) (x4 (X4 g (e9 (dv 2) h8)) h9)) (e9 (cV e (e9 (x4 (Gc (dv 4) (rZ (dv 5)) sd) (Gc (dv 4) sd (rZ (dv 5)))) h8)) h8))))))))
   (k7 (u7 (J1 (e9 h9 (e9 (dv 2) h8))))))) x6)
   (i6 (O8 (G9 b (e9 h9 h8)) (D2 (i:=6) nd) (i6 (n2 (i:=7) (x4 h9 (S3 (p4 a (hr.mono (by decide)) (e9 (dv 0) (e9 (x4 (dv 1) (bj h9 (dv 6))) h8))) h9)) nd)
   (i6 (n2 (i:=8) (x4 h9 (S3 (p4 a (hr.mono (by decide)) (e9 (dv 0) (e9 (x4 (x4 (dv 1) h9) (dv 6)) h8))) h9)) nd)
   (i6 (ib (i:=2) (aN [("_law_script",0),("_law_base",1),("_law_k",6),("_law_variables",7)] ⟨⟨rfl,rfl,.inl rfl⟩,⟨⟨rfl,rfl,.inl rfl⟩,⟨⟨rfl,rfl,.inl rfl⟩,⟨⟨rfl,rfl,.inl rfl⟩,trivial⟩⟩⟩⟩) nd (G9 b (e9 (dv 8) h8)) (λ_ _ _ _ _ _ _ _ _=>X3) (λ_ _ _ _ _ _ _ _ _=>(p4 c (hr.mono (by decide)) (e9 (dv 1) (e9 (x4 (x4 (x4 (dv 2) h9) (bj h9 (dv 0))) (dv 3)) (e9 (dv 4) (e9 h9 h8)))))))
   (k7 (I8 (eX (U3 (p4 d (hr.mono (by decide)) (e9 (dv 7) (e9 (dv 2) h8))))) (k7 (u7 (J1 (e9 (dv 7) (e9 (dv 2) h8))))) x6))))))
   (k7 (u7 (J1 (e9 h9 (e9 (M4 (e9 (J1 (e9 h9 (e9 h9 h8))) (e9 (J1 (e9 (aH h9) (e9 h9 h8))) (e9 (J1 (e9 h9 (e9 (aH h9) h8))) (e9 (J1 (e9 (aH h9) (e9 (aH h9) h8))) h8))))) h8))))))))
noncomputable abbrev Z4:SM:=(retS (C4 ul (f6 (f8 0) i7)))
noncomputable def N6:List D→Option FR:=n3 Z4 1 [false]
theorem lF:∀ds r,N6 ds=some r→n3 Z4 1 [false] ds=some r:=λ_ _ h=>h
theorem nO (F:bo K "numbered" "numbered" cx f fd) (b:mg "dict"=none) (a:mg "enumerate"=none):
  x2 P w K mg base W0 1 f fd ["clauses"] (E3 K [false] (n3 Z4 1 [false])):=
 have nd:=iz.nd
 N4 (k:=0) F iz rfl (λcdv A outer s H E H0 HK G0 L hr=>by
  have c:=fR hr;exact(k7 (u7 (tj rfl b a (e9 (dv 0) h8)))))
noncomputable abbrev W5:SM:=(retS (C4 aE (f6 (B2 (B1 (f8 0)) (w6 0) F1 (M7 (f6 (C4 S6 (f6 (f8 0) i7)) (f6 (f8 0) i7))) 1 []) i7)))
noncomputable def K7:List D→Option FR:=n3 W5 1 [false]
theorem jU:∀ds r,K7 ds=some r→n3 W5 1 [false] ds=some r:=λ_ _ h=>h
theorem lO (F:bo K "truths_of" "truths_of" aR f fd) (a:mg "dict"=none) (b:mg "abs"=none):
  x2 P w K mg base W0 1 f fd ["literals"] (E3 K [false] (n3 W5 1 [false])):=
 have nd:=gj.nd
 N4 (k:=0) F gj rfl (λcdv A outer s H E H0 HK G0 L hr=>by
  have c:=fR hr;exact(k7 (u7 (jI rfl a (e9 (P4 (aN [] trivial) (N3 (dv 0)) (λ_ _ _ _ _ _ _ _ _=>X3) (λ_ _ _ _ _ _ _ _ _=>(J1 (e9 (dX b (e9 (dv 0) h8)) (e9 (dv 0) h8))))) h8)))))
noncomputable abbrev iN:SM:=(ax (p6 (g9 ox (qq (f8 0) (C4 S6 (f6 (f8 3) i7))) (cZ V1 (f8 3)))) (fB 2 (mC (.bl true)) (f8 3)) bw)
noncomputable abbrev cQ:SM:=(l4 (o3 2 iJ)
 (l4 (V7 (B1 (f8 1)) (w6 3) iN)
 (retS (C4 dM (f6 (f8 2) i7)))))
noncomputable def V8:List D→Option FR:=n3 cQ 4 [false,false]
theorem pN:∀ds r,V8 ds=some r→n3 cQ 4 [false,false] ds=some r:=λ_ _ h=>h
theorem rN (F:bo K "opened" "opened" gu f fd) (b:mg "abs"=none) (a:mg "list"=none):
  x2 P w K mg base W0 1 f fd ["truths","clause"] (E3 K [false,false] (n3 cQ 4 [false,false])):=
 have nd:=mI.nd
 N4 (k:=0) F mI rfl (λcdv A outer s H E H0 HK G0 L hr=>by
  have c:=fR hr;exact(i6 (n2 (i:=2) lc nd)
   (i6 (O8 (N3 (dv 1)) (D2 (i:=3) nd) (k7 (I8 (xF c (tm c (dv 0) (dX b (e9 (dv 3) h8))) (aH (dv 3))) (k7 (fg 2 c dW (dv 2) (dv 3))) x6)))
   (k7 (u7 (io rfl a (e9 (dv 2) h8)))))))
noncomputable abbrev iL:SM:=(l4 (o3 5 (o9 [false,false] V8 (f6 (f8 1) (f6 (g9 x0 (f8 0) (f8 4)) i7))))
 (l4 (ax (p6 (g9 R8 (f8 5) (O3 i7))) (retS (f8 4)) bw)
 (ax (gF (p6 (g9 R8 (C4 V5 (f6 (f8 5) i7)) (mC (.int 1)))) (p6 (g9 N1 (C4 S6 (f6 (g9 x0 (f8 5) (mC (.int 0))) i7)) (f8 1)))) (l4 (fB 1 (g9 x0 (f8 5) (mC (.int 0))) (C4 S6 (f6 (g9 x0 (f8 5) (mC (.int 0))) i7)))
 (l4 (fB 2 (f8 4) (C4 S6 (f6 (g9 x0 (f8 5) (mC (.int 0))) i7)))
 (o3 3 (mC (.bl true))))) bw)))
noncomputable abbrev iK:SM:=(l4 (o3 3 (mC (.bl false)))
 (V7 (mP 0) (w6 4) iL))
noncomputable abbrev cO:SM:=(l4 (o3 3 (mC (.bl true)))
 (l4 (B4 (V4 (f8 3)) iK 100)
 (retS (mC .v1))))
noncomputable def ab:List D→Option FR:=yF 0 (iG cO 6 [false,true,true] 0)
theorem pL:∀ds r,ab ds=some r→iG cO 6 [false,true,true] 0 ds=some r:=λ_ _ h=>(kr h).2
theorem ti:∀ds r,ab ds=some r→∃es,ds[0]?=some (.dct es):=λ_ _ h=>(kr h).1
theorem rL (F:bo K "spread" "spread" gn f fd) (d:mg "len"=none) (a:mg "abs"=none)
  (b:eg P w K mg base 1 "opened" ["truths","clause"] (E3 K [false,false] V8)):
  x2 P w K mg base W0 2 f fd ["table","truths","reasons"] (tF K [false,true,true] 0 (iG cO 6 [false,true,true] 0)):=
 have nd:=mG.nd
 FN (k:=1) F mG rfl rfl (λcdv A outer s H E H0 HK G0 L hr=>by
  have c:=fR hr;exact(i6 (n2 (i:=3) dW nd)
   (i6 (nM 100 (U3 (dv 3)) (i6 (n2 (i:=3) dW nd)
   (k7 (O8 (FK 0) (D2 (i:=4) nd) (i6 (n2 (i:=5) (p4 b (hr.mono (by decide)) (e9 (dv 1) (e9 (v4 c (dv 0) (dv 4)) h8))) nd)
   (i6 (I8 (eY c (dv 5) (M4 h8)) (k7 (u7 (dv 4))) x6)
   (k7 (I8 ((w_and (eY c (X4 d (e9 (dv 5) h8)) h9) (jN (cv c (dX a (e9 (v4 c (dv 5) h9) h8)) (dv 1))))).pt (i6 (fg 1 c (v4 c (dv 5) h9) (dv 1) (dX a (e9 (v4 c (dv 5) h9) h8)))
   (i6 (fg 2 c (dv 4) (dv 2) (dX a (e9 (v4 c (dv 5) h9) h8)))
   (k7 (n2 (i:=3) dW nd)))) x6))))))))
   (k7 (u7 zY)))))
noncomputable abbrev gG:SM:=(ax (gF (p6 (g9 inD (f8 7) (f8 5))) (p6 (g9 inD (f8 7) (f8 3)))) (l4 (I0 (C7 6 (f6 (g9 x0 (f8 3) (f8 7)) i7)))
 (I0 (gC 5 (f6 (C4 aE (f6 (B2 (B1 (g9 x0 (f8 0) (g9 x0 (f8 3) (f8 7)))) (w6 0) F1 (M7 (f6 (C4 S6 (f6 (f8 0) i7)) (f6 (mC (.bl true)) i7))) 1 []) i7)) i7)))) bw)
noncomputable abbrev bg:SM:=(l4 (o3 5 (C4 aE (f6 (B2 (B1 (g9 x0 (f8 0) (f8 4))) (w6 0) F1 (M7 (f6 (C4 S6 (f6 (f8 0) i7)) (f6 (mC (.bl true)) i7))) 1 []) i7)))
 (l4 (o3 6 (O3 (f6 (f8 4) i7)))
 (l4 (V7 (sx (f6 (C4 dM (f6 (f8 2) i7)) i7)) (w6 7) gG)
 (l4 (o3 8 (B2 (B1 (f8 1)) (w6 0) (p6 (g9 inD (C4 S6 (f6 (f8 0) i7)) (f8 1))) (cZ V1 (f8 0)) 1 [5]))
 (retS (M7 (f6 (mC (.str [97,100,100])) (f6 (g9 A3 (C4 V5 (f6 (f8 0) i7)) (mC (.int 1))) (f6 (C4 cr (f6 (f8 8) i7)) (f6 (C4 jt (f6 (f8 6) i7)) i7))))))))))
noncomputable def az:List D→Option FR:=n3 bg 9 [false,false,false,false,false]
theorem nI:∀ds r,az ds=some r→n3 bg 9 [false,false,false,false,false] ds=some r:=λ_ _ h=>h
theorem pU (F:bo K "learned" "learned" er f fd) (d:mg "dict"=none) (c:mg "abs"=none) (a:mg "reversed"=none) (e:mg "list"=none) (g:mg "len"=none) (b:mg "tuple"=none):
  x2 P w K mg base W0 1 f fd ["table","chosen","truths","reasons","conflict"] (E3 K [false,false,false,false,false] (n3 bg 9 [false,false,false,false,false])):=
 have nd:=kd.nd
 N4 (k:=0) F kd rfl (λcdv A outer s H E H0 HK G0 L hr=>by
  have h:=fR hr;exact(i6 (n2 (i:=5) (jI rfl d (e9 (P4 (aN [] trivial) (N3 (v4 h (dv 0) (dv 4))) (λ_ _ _ _ _ _ _ _ _=>X3) (λ_ _ _ _ _ _ _ _ _=>(J1 (e9 (dX c (e9 (dv 0) h8)) (e9 dW h8))))) h8)) nd)
   (i6 (n2 (i:=6) (M4 (e9 (dv 4) h8)) nd)
   (i6 (O8 (zy a (e9 (io rfl e (e9 (dv 2) h8)) h8)) (D2 (i:=7) nd) (k7 (I8 ((w_and (lE h (dv 7) (dv 5)) (jN (lE h (dv 7) (dv 3))))).pt (i6 (K5 (L5 6 (dv 6) (e9 (v4 h (dv 3) (dv 7)) h8)))
   (k7 (K5 (qP 5 (dv 5) (e9 (jI rfl d (e9 (P4 (aN [] trivial) (N3 (v4 h (dv 0) (v4 h (dv 3) (dv 7)))) (λ_ _ _ _ _ _ _ _ _=>X3) (λ_ _ _ _ _ _ _ _ _=>(J1 (e9 (dX c (e9 (dv 0) h8)) (e9 dW h8))))) h8)) h8))))) x6)))
   (i6 (ib (i:=8) (aN [("needed",5)] ⟨⟨rfl,rfl,.inl rfl⟩,trivial⟩) nd (N3 (dv 1)) (λ_ _ _ _ _ _ _ _ _=>qG (lE h (dX c (e9 (dv 0) h8)) (dv 1))) (λ_ _ _ _ _ _ _ _ _=>(aH (dv 0))))
   (k7 (u7 (J1 (e9 (kZ (cs:=[97,100,100]) (by decide +kernel)) (e9 (x4 (X4 g (e9 (dv 0) h8)) h9) (e9 (cV b (e9 (dv 8) h8)) (e9 (zV rfl b a (e9 (dv 6) h8)) h8))))))))))))
noncomputable abbrev iM:SM:=(l4 (o3 5 (o9 [false] K7 (f6 (f8 4) i7)))
 (l4 (o3 6 iJ)
 (l4 (o3 7 (o9 [false,true,true] ab (f6 (f8 2) (f6 (f8 5) (f6 (f8 6) i7)))))
 (l4 (o3 8 (B2 (X1 ints2 (f6 (mC (.int 1)) (f6 (g9 A3 (f8 0) (mC (.int 1))) i7))) (w6 0) (p6 (g9 N1 (f8 0) (f8 1))) (f8 0) 1 [5]))
 (ax (p6 (cZ (λd=>vB (!aw d)) (f8 7))) (l4 (o3 9 (o9 [false,false,false,false,false] az (f6 (f8 2) (f6 (f8 4) (f6 (f8 5) (f6 (f8 6) (f6 (f8 7) i7)))))))
 (l4 (o3 10 (g9 x0 (f8 9) (mC (.int 2))))
 (l4 (I0 (C7 3 (f6 (f8 9) i7)))
 (l4 (ax (p6 (g9 R8 (f8 10) (M7 i7))) (retS (M7 (f6 (mC .v1) (f6 (f8 3) i7)))) bw)
 (l4 (fB 2 (f8 10) (g9 x0 (f8 9) (mC (.int 1))))
 (o3 4 (Fs (f8 4) (M.pure none) (ku (GI "list" kF (f8 4) (f6 (cZ V1 (g9 x0 (f8 10) (cZ V1 (mC (.int 1))))) i7)))))))))) (ax (V4 (f8 8)) (I0 (C7 4 (f6 (cZ V1 (g9 x0 (f8 8) (mC (.int 0)))) i7))) (retS (M7 (f6 (C4 cr (f6 (B2 (X1 ints2 (f6 (mC (.int 1)) (f6 (g9 A3 (f8 0) (mC (.int 1))) i7))) (w6 0) F1 (g9 x0 (f8 1) (f8 0)) 1 [5]) i7)) (f6 (O3 i7) i7))))))))))
noncomputable abbrev cP:SM:=(l4 (o3 2 (o9 [false] N6 (f6 (f8 1) i7)))
 (l4 (o3 3 (O3 i7))
 (l4 (o3 4 (O3 i7))
 (B4 (V4 (mC (.bl true))) iM 100000))))
noncomputable def eF:List D→Option FR:=n3 cP 11 [false,false]
theorem pM:∀ds r,eF ds=some r→n3 cP 11 [false,false] ds=some r:=λ_ _ h=>h
theorem rM (F:bo K "solved" "solved" gq f fd) (b:mg "range"=none) (g:mg "tuple"=none)
  (c:eg P w K mg base 1 "numbered" ["clauses"] (E3 K [false] N6))
  (a:eg P w K mg base 1 "truths_of" ["literals"] (E3 K [false] K7))
  (e:eg P w K mg base 2 "spread" ["table","truths","reasons"] (E3 K [false,true,true] ab))
  (d:eg P w K mg base 1 "learned" ["table","chosen","truths","reasons","conflict"] (E3 K [false,false,false,false,false] az)):
  x2 P w K mg base W0 3 f fd ["variables","clauses"] (E3 K [false,false] (n3 cP 11 [false,false])):=
 have nd:=mH.nd
 N4 (k:=2) F mH rfl (λcdv A outer s H E H0 HK G0 L hr=>by
  have h:=fR hr;exact(i6 (n2 (i:=2) (p4 c (hr.mono (by decide)) (e9 (dv 1) h8)) nd)
   (i6 (n2 (i:=3) (M4 h8) nd)
   (i6 (n2 (i:=4) (M4 h8) nd)
   (k7 (nM 100000 (U3 dW) (i6 (n2 (i:=5) (p4 a (hr.mono (by decide)) (e9 (dv 4) h8)) nd)
   (i6 (n2 (i:=6) lc nd)
   (i6 (n2 (i:=7) (p4 e (hr.mono (by decide)) (e9 (dv 2) (e9 (dv 5) (e9 (dv 6) h8)))) nd)
   (i6 (ib (i:=8) (aN [("truths",5)] ⟨⟨rfl,rfl,.inl rfl⟩,trivial⟩) nd (kI b (e9 h9 (e9 (x4 (dv 0) h9) h8))) (λ_ _ _ _ _ _ _ _ _=>qG (cv h (dv 0) (dv 1))) (λ_ _ _ _ _ _ _ _ _=>(dv 0)))
   (k7 (I8 (En (dv 7)) (i6 (n2 (i:=9) (p4 d (hr.mono (by decide)) (e9 (dv 2) (e9 (dv 4) (e9 (dv 5) (e9 (dv 6) (e9 (dv 7) h8)))))) nd)
   (i6 (n2 (i:=10) (v4 h (dv 9) h9) nd)
   (i6 (K5 (L5 3 (dv 3) (e9 (dv 9) h8)))
   (i6 (I8 (eY h (dv 10) (J1 h8)) (k7 (u7 (J1 (e9 zY (e9 (dv 3) h8))))) x6)
   (i6 (fg 2 h (dv 10) (dv 2) (v4 h (dv 9) h9))
   (k7 (n2 (i:=4) (Gc (dv 4) sd (rZ (Da h (dv 4) (e9 (aH (v4 h (dv 10) (aH h9))) h8)))) nd))))))) (k7 (I8 (U3 (dv 8)) (k7 (K5 (L5 4 (dv 4) (e9 (aH (v4 h (dv 8) h9)) h8)))) (k7 (u7 (J1 (e9 (cV g (e9 (P4 (aN [("truths",5)] ⟨⟨rfl,rfl,.inl rfl⟩,trivial⟩) (kI b (e9 h9 (e9 (x4 (dv 0) h9) h8))) (λ_ _ _ _ _ _ _ _ _=>X3) (λ_ _ _ _ _ _ _ _ _=>(v4 h (dv 1) (dv 0)))) h8)) (e9 (M4 h8) h8)))))))))))))))))))
noncomputable abbrev fi:SM:=(l4 (ax (p6 (g9 inD (cZ V1 (f8 2)) (f8 1))) (retS (mC (.bl true))) bw)
 (fB 1 (mC (.bl true)) (f8 2)))
noncomputable abbrev Z6:SM:=(l4 (o3 1 iJ)
 (l4 (V7 (B1 (f8 0)) (w6 2) fi)
 (retS (mC (.bl false)))))
noncomputable def bc:List D→Option FR:=n3 Z6 3 [false]
theorem lL:∀ds r,bc ds=some r→n3 Z6 3 [false] ds=some r:=λ_ _ h=>h
theorem nU (F:bo K "has_both" "has_both" cD f fd):
  x2 P w K mg base W0 1 f fd ["clause"] (E3 K [false] (n3 Z6 3 [false])):=
 have nd:=iF.nd
 N4 (k:=0) F iF rfl (λcdv A outer s H E H0 HK G0 L hr=>by
  have a:=fR hr;exact(i6 (n2 (i:=1) lc nd)
   (i6 (O8 (N3 (dv 0)) (D2 (i:=2) nd) (i6 (I8 (lE a (aH (dv 2)) (dv 1)) (k7 (u7 dW)) x6)
   (k7 (fg 1 a dW (dv 1) (dv 2)))))
   (k7 (u7 dW)))))
noncomputable abbrev L8:SM:=(l4 (ax (p6 (g9 N1 (f8 2) (f8 0))) (retS (mC (.str [119,114,111,110,103]))) bw)
 (l4 (o3 3 (o9 [false,false] V8 (f6 (f8 1) (f6 (g9 x0 (f8 0) (f8 2)) i7))))
 (l4 (ax (p6 (g9 R8 (f8 3) (O3 i7))) (retS (mC (.str [101,110,100,115]))) bw)
 (l4 (ax (qp (p6 (g9 (Z7 λi j=>decide (j<i)) (C4 V5 (f6 (f8 3) i7)) (mC (.int 1)))) (p6 (g9 inD (C4 S6 (f6 (g9 x0 (f8 3) (mC (.int 0))) i7)) (f8 1)))) (retS (mC (.str [119,114,111,110,103]))) bw)
 (l4 (fB 1 (g9 x0 (f8 3) (mC (.int 0))) (C4 S6 (f6 (g9 x0 (f8 3) (mC (.int 0))) i7)))
 (retS (mC (.str [103,111,101,115,32,111,110]))))))))
noncomputable def O4:List D→Option FR:=n3 L8 4 [false,true,false]
theorem jV:∀ds r,O4 ds=some r→n3 L8 4 [false,true,false] ds=some r:=λ_ _ h=>h
theorem lP (F:bo K "take_hint" "take_hint" aS f fd) (h:mg "len"=none) (d:mg "abs"=none) (a:Dp mg "WRONG" (.str "wrong")) (e:Dp mg "ENDS" (.str "ends")) (b:Dp mg "GOES_ON" (.str "goes on"))
  (c:eg P w K mg base 1 "opened" ["truths","clause"] (E3 K [false,false] V8)):
  x2 P w K mg base W0 2 f fd ["table","truths","hint"] (E3 K [false,true,false] (n3 L8 4 [false,true,false])):=
 have nd:=gk.nd
 N4 (k:=1) F gk rfl (λcdv A outer s H E H0 HK G0 L hr=>by
  have g:=fR hr;exact(i6 (I8 (cv g (dv 2) (dv 0)) (k7 (u7 (nl a (λ_=>bR (by decide +kernel))))) x6)
   (i6 (n2 (i:=3) (p4 c (hr.mono (by decide)) (e9 (dv 1) (e9 (v4 g (dv 0) (dv 2)) h8))) nd)
   (i6 (I8 (eY g (dv 3) (M4 h8)) (k7 (u7 (nl e (λ_=>bR (by decide +kernel))))) x6)
   (i6 (I8 ((w_or (Eo (X4 h (e9 (dv 3) h8)) h9) (pC (lE g (dX d (e9 (v4 g (dv 3) h9) h8)) (dv 1))))).pt (k7 (u7 (nl a (λ_=>bR (by decide +kernel))))) x6)
   (i6 (fg 1 g (v4 g (dv 3) h9) (dv 1) (dX d (e9 (v4 g (dv 3) h9) h8)))
   (k7 (u7 (nl b (λ_=>bR (by decide +kernel)))))))))))
noncomputable abbrev Y9:SM:=(l4 (o3 5 (o9 [false,true,false] O4 (f6 (f8 0) (f6 (f8 3) (f6 (g9 x0 (f8 2) (f8 4)) i7)))))
 (l4 (ax (p6 (g9 ox (f8 5) (mC (.str [103,111,101,115,32,111,110])))) (retS (g9 R8 (f8 5) (mC (.str [101,110,100,115])))) bw)
 (Au 4 (mC (.int 1)))))
noncomputable abbrev bi:SM:=(l4 (ax (V4 (o9 [false] bc (f6 (f8 1) i7))) (retS (mC (.bl true))) bw)
 (l4 (o3 3 (o9 [false] K7 (f6 (B2 (B1 (f8 1)) (w6 0) F1 (cZ V1 (f8 0)) 1 []) i7)))
 (l4 (o3 4 (mC (.int 0)))
 (l4 (B4 (gF (p6 (g9 (Z7 λi j=>decide (i<j)) (f8 4) (C4 V5 (f6 (f8 2) i7)))) (p6 (g9 (Z7 λi j=>decide (j<i)) (g9 x0 (f8 2) (f8 4)) (mC (.int 0))))) Y9 1000)
 jQ))))
noncomputable def cL:List D→Option FR:=n3 bi 6 [false,false,false]
theorem nK:∀ds r,cL ds=some r→n3 bi 6 [false,false,false] ds=some r:=λ_ _ h=>h
theorem pW (F:bo K "follows" "follows" ew f fd) (g:mg "len"=none) (d:Dp mg "GOES_ON" (.str "goes on")) (e:Dp mg "ENDS" (.str "ends"))
  (c:eg P w K mg base 1 "has_both" ["clause"] (E3 K [false] bc))
  (a:eg P w K mg base 1 "truths_of" ["literals"] (E3 K [false] K7))
  (b:eg P w K mg base 2 "take_hint" ["table","truths","hint"] (E3 K [false,true,false] O4)):
  x2 P w K mg base W0 3 f fd ["table","clause","hints"] (E3 K [false,false,false] (n3 bi 6 [false,false,false])):=
 have nd:=kf.nd
 N4 (k:=2) F kf rfl (λcdv A outer s H E H0 HK G0 L hr=>by
  have h:=fR hr;exact(i6 (I8 (U3 (p4 c (hr.mono (by decide)) (e9 (dv 1) h8))) (k7 (u7 dW)) x6)
   (i6 (n2 (i:=3) (p4 a (hr.mono (by decide)) (e9 (P4 (aN [] trivial) (N3 (dv 1)) (λ_ _ _ _ _ _ _ _ _=>X3) (λ_ _ _ _ _ _ _ _ _=>(aH (dv 0)))) h8)) nd)
   (i6 (n2 (i:=4) h9 nd)
   (i6 (nM 1000 ((w_and (Bj (dv 4) (X4 g (e9 (dv 2) h8))) (jN (Eo (v4 h (dv 2) (dv 4)) h9)))).pt (i6 (n2 (i:=5) (p4 b (hr.mono (by decide)) (e9 (dv 0) (e9 (dv 3) (e9 (v4 h (dv 2) (dv 4)) h8)))) nd)
   (i6 (I8 (xF h (dv 5) (nl d (λ_=>bR (by decide +kernel)))) (k7 (u7 (qR h (dv 5) (nl e (λ_=>bR (by decide +kernel)))))) x6)
   (k7 (xW (i:=4) h9 nd)))))
   (k7 jv))))))
noncomputable abbrev F8:SM:=(l4 (gd 0 "variables" (f8 1))
 (l4 (tabS 0 3 (o9 [false] N6 (f6 (f8 2) i7)))
 (l4 (gd 0 "greatest" (C4 V5 (f6 (f8 2) i7)))
 (l4 (gd 0 "taken" (mC (.int 0)))
 (gd 0 "refuted" (mC (.bl false)))))))
theorem ay:¬eR (j3 D8) "self.table":=by unfold eR;decide +kernel
noncomputable def K9:List D→Option L3.Made:=pX F8 4 3
theorem dB:∀ds r,K9 ds=some r→pX F8 4 3 ds=some r:=λ_ _ h=>h
theorem eP (F:bo K "__init__" "Keeper.__init__" D8 f fd) (d:mg "len"=none) {b:Addr} (a:gZ K b ["variables","table","greatest","taken","refuted"])
  (c:eg P w K mg base 1 "numbered" ["clauses"] (E3 K [false] N6)):
  x2 P w K mg base W0 2 f fd ["self","variables","clauses"] (DP K b 3 (pX F8 4 3)):=
 have nd:=am.nd
 Ic (k:=1) (C:=b) (g:="self.table") 3 F am rfl ay (by decide) (by decide) (λcdv A outer s H E H0 HK G0 L e hr=>by
  have h:=fR hr;exact(i6 (mJ 0 3 a 0 (dv 1))
   (i6 (Hr 0 3 a 1 (p4 c (hr.mono (by decide)) (e9 (dv 2) h8)) e ay)
   (i6 (mJ 0 3 a 2 (X4 d (e9 (dv 2) h8)))
   (i6 (mJ 0 3 a 3 h9)
   (k7 (mJ 0 3 a 4 dW)))))))
noncomputable abbrev F7:SM:=(l4 (ax (qp (p6 (g9 (Z7 λi j=>decide (i≤j)) (f8 1) (sy 0 "greatest"))) (V4 (C4 xo (f6 (B2 (B1 (f8 2)) (w6 0) F1 (g9 (Z7 λi j=>decide (j<i)) (C4 S6 (f6 (f8 0) i7)) (HW 1 "variables")) 1 [0]) i7)))) (retS (mC (.bl false))) bw)
 (retS (o9 [false,false,false] cL (f6 (sv 0 4) (f6 (f8 2) (f6 (f8 3) i7))))))
theorem fG:¬eR (j3 D7) "self.table":=by unfold eR;decide +kernel
noncomputable def K8:List (Str×D)→List (Key×D)→List D→Option MR:=runM F7 5 4
theorem dA:∀fds es ds r,K8 fds es ds=some r→runM F7 5 4 fds es ds=some r:=λ_ _ _ _ h=>h
theorem eO (F:bo K "is_right" "Keeper.is_right" D7 f fd) (d:mg "any"=none) (e:mg "abs"=none) {a:Addr} (b:gZ K a ["variables","table","greatest","taken","refuted"])
  (c:eg P w K mg base 3 "follows" ["table","clause","hints"] (E3 K [false,false,false] cL)):
  x2 P w K mg base W0 4 f fd ["self","number","clause","hints"] (pk K a 4 (runM F7 5 4)):=
 have nd:=al.nd
 uJ (k:=3) (C:=a) (g:="self.table") 4 F al rfl fG (by decide) (λcdv A outer s H E H0 HK G0 L hr=>by
  have h:=fR hr;exact(i6 (I8 ((w_or (JH (dv 1) (uW 0 4 b 2)) (pC (U3 (DN rfl d (e9 (P4 (aN [("self",0)] ⟨⟨rfl,rfl,.inl rfl⟩,trivial⟩) (N3 (dv 2)) (λ_ _ _ _ _ _ _ _ _=>X3) (λ_ _ _ _ _ _ _ _ _=>(Ix (dX e (e9 (dv 0) h8)) (Km 1 b 0)))) h8)))))).pt (k7 (u7 dW)) x6)
   (k7 (u7 (p4 c (hr.mono (by decide)) (e9 (DM 0 4 b 1) (e9 (dv 2) (e9 (dv 3) h8))))))))
noncomputable abbrev C8:SM:=(l4 (ax (ig (V4 (iI 0 4 "is_right" 4 K8 (f6 (f8 1) (f6 (f8 2) (f6 (f8 3) i7)))))) jQ bw)
 (l4 (vP (sv 0 4) 4 (f8 2) (f8 1))
 (l4 (gd 0 "greatest" (f8 1))
 (gd 0 "refuted" (g9 R8 (f8 2) (M7 i7))))))
theorem dO:¬eR (j3 B0) "self.table":=by unfold eR;decide +kernel
noncomputable def D9:List (Str×D)→List (Key×D)→List D→Option MR:=runM C8 5 4
theorem cw:∀fds es ds r,D9 fds es ds=some r→runM C8 5 4 fds es ds=some r:=λ_ _ _ _ h=>h
theorem dj (F:bo K "add_clause" "Keeper.add_clause" B0 f fd) {a:Addr} (b:gZ K a ["variables","table","greatest","taken","refuted"])
  (c:xp P w K mg base 4 a "is_right" ["self","number","clause","hints"] (pk K a 4 K8)):
  x2 P w K mg base W0 5 f fd ["self","number","clause","hints"] (pk K a 4 (runM C8 5 4)):=
 have nd:=W9.nd
 uJ (k:=4) (C:=a) (g:="self.table") 4 F W9 rfl dO (by decide) (λcdv A outer s H E H0 HK G0 L hr=>by
  have d:=fR hr;exact(i6 (I8 (eX (U3 (oN 0 4 b c (hr.mono (by decide)) (e9 (dv 1) (e9 (dv 2) (e9 (dv 3) h8)))))) (k7 jv) x6)
   (i6 (fg 4 d (dv 2) (DM 0 4 b 1) (dv 1) (hm:=vK))
   (i6 (mJ 0 4 b 2 (dv 1))
   (k7 (mJ 0 4 b 4 (qR d (dv 2) (J1 h8))))))))
noncomputable abbrev bD:SM:=jQ
noncomputable abbrev A5:SM:=(V7 (B1 (f8 1)) (w6 2) bD)
theorem cJ:¬eR (j3 x8) "self.table":=by unfold eR;decide +kernel
noncomputable def B7:List (Str×D)→List (Key×D)→List D→Option MR:=runM A5 4 3
theorem bt:∀fds es ds r,B7 fds es ds=some r→runM A5 4 3 fds es ds=some r:=λ_ _ _ _ h=>h
theorem bQ (F:bo K "drop_clauses" "Keeper.drop_clauses" x8 f fd) {a:Addr} (b:gZ K a ["variables","table","greatest","taken","refuted"]):
  x2 P w K mg base W0 1 f fd ["self","numbers"] (pk K a 2 (runM A5 4 3)):=
 have nd:=T1.nd
 uJ (k:=0) (C:=a) (g:="self.table") 3 F T1 rfl cJ (by decide) (λcdv A outer s H E H0 HK G0 L hr=>by
  have c:=fR hr;exact(k7 (O8 (N3 (dv 1)) (D2 (i:=2) nd) (k7 jv))))
noncomputable abbrev L4:SM:=(l4 (ax (ig (V4 (sy 0 "refuted"))) (ax (p6 (g9 R8 (g9 x0 (f8 1) (mC (.int 0))) (mC (.str [100,114,111,112])))) (I0 (iI 0 2 "drop_clauses" 2 B7 (f6 (g9 x0 (f8 1) (mC (.int 1))) i7))) (I0 (iI 0 2 "add_clause" 4 D9 (f6 (g9 x0 (f8 1) (mC (.int 1))) (f6 (g9 x0 (f8 1) (mC (.int 2))) (f6 (g9 x0 (f8 1) (mC (.int 3))) i7)))))) bw)
 (qV 0 "taken" (mC (.int 1))))
theorem kK:¬eR (j3 Q3) "self.table":=by unfold eR;decide +kernel
noncomputable def N7:List (Str×D)→List (Key×D)→List D→Option MR:=runM L4 3 2
theorem ia:∀fds es ds r,N7 fds es ds=some r→runM L4 3 2 fds es ds=some r:=λ_ _ _ _ h=>h
theorem jf (F:bo K "take" "Keeper.take" Q3 f fd) {a:Addr} (d:gZ K a ["variables","table","greatest","taken","refuted"])
  (b:xp P w K mg base 1 a "drop_clauses" ["self","numbers"] (pk K a 2 B7))
  (c:xp P w K mg base 5 a "add_clause" ["self","number","clause","hints"] (pk K a 4 D9)):
  x2 P w K mg base W0 6 f fd ["self","step"] (pk K a 2 (runM L4 3 2)):=
 have nd:=dE.nd
 uJ (k:=5) (C:=a) (g:="self.table") 2 F dE rfl kK (by decide) (λcdv A outer s H E H0 HK G0 L hr=>by
  have e:=fR hr;exact(i6 (I8 (eX (U3 (uW 0 2 d 4))) (k7 (I8 (eY e (v4 e (dv 1) h9) (kZ (cs:=[100,114,111,112]) (by decide +kernel))) (k7 (K5 (oN 0 2 d b (hr.mono (by decide)) (e9 (v4 e (dv 1) h9) h8)))) (k7 (K5 (oN 0 2 d c (hr.mono (by decide)) (e9 (v4 e (dv 1) h9) (e9 (v4 e (dv 1) h9) (e9 (v4 e (dv 1) h9) h8)))))))) x6)
   (k7 (xV 0 2 d 3 h9))))
noncomputable abbrev x9:SM:=(ax (ig (V4 (sy 3 "refuted"))) (l4 (I0 (iI 3 6 "take" 2 N7 (f6 (f8 5) i7)))
 (I0 (C7 4 (f6 (f8 5) i7)))) bw)
noncomputable abbrev Q5:SM:=(l4 (ut 3 6 3 K9 (f6 (f8 0) (f6 (f8 1) i7)))
 (l4 (o3 4 (O3 i7))
 (l4 (V7 (B1 (f8 2)) (w6 5) x9)
 (l4 (ax (ig (V4 (sy 3 "refuted"))) jQ bw)
 (retS (f8 4))))))
theorem kJ:¬eR (j3 Q2) "keeper.table":=by unfold eR;decide +kernel
noncomputable def T6:List D→Option FR:=n3 Q5 7 [false,false,false]
theorem hZ:∀ds r,T6 ds=some r→n3 Q5 7 [false,false,false] ds=some r:=λ_ _ h=>h
theorem je (F:bo K "up_to_empty" "up_to_empty" Q2 f fd) {a:Addr} (c:gZ K a ["variables","table","greatest","taken","refuted"]) (e:mg "Keeper"=some (.ref a))
  (b:Gq P w K mg base 2 a ["self","variables","clauses"] (DP K a 3 K9))
  (d:xp P w K mg base 6 a "take" ["self","step"] (pk K a 2 N7)):
  x2 P w K mg base W0 7 f fd ["variables","clauses","steps"] (E3 K [false,false,false] (n3 Q5 7 [false,false,false])):=
 have nd:=dD.nd
 FO (k:=6) (3,6,a) F dD rfl rfl (λcdv A outer s H E H0 HK G0 L g hr=>by
  have h:=fR hr;exact(i6 (Ex 3 6 b e (hr.mono (by decide)) (e9 (dv 0) (e9 (dv 1) h8)) (g 6) kJ nd)
   (i6 (n2 (i:=4) (M4 h8) nd)
   (i6 (O8 (N3 (dv 2)) (D2 (i:=5) nd) (k7 (I8 (eX (U3 (uW 3 6 c 4))) (i6 (K5 (oN 3 6 c d (hr.mono (by decide)) (e9 (dv 5) h8)))
   (k7 (K5 (L5 4 (dv 4) (e9 (dv 5) h8))))) x6)))
   (i6 (I8 (eX (U3 (uW 3 6 c 4))) (k7 jv) x6)
   (k7 (u7 (dv 4))))))))
noncomputable abbrev P3:SM:=(retS (gE (g9 R8 (g9 x0 (f8 0) (mC (.int 0))) (mC (.str [97,100,100]))) (C4 tD (f6 (B2 (B1 (g9 x0 (f8 0) (mC (.int 3)))) (w6 0) F1 (g9 (Z7 λi j=>decide (j<i)) (f8 0) (mC (.int 0))) 1 []) i7))))
noncomputable def v3:List D→Option FR:=n3 P3 1 [false]
theorem dw:∀ds r,v3 ds=some r→n3 P3 1 [false] ds=some r:=λ_ _ h=>h
theorem eN (F:bo K "has_plain_hints" "has_plain_hints" M2 f fd) (a:mg "all"=none):
  x2 P w K mg base W0 1 f fd ["step"] (E3 K [false] (n3 P3 1 [false])):=
 have nd:=ak.nd
 N4 (k:=0) F ak rfl (λcdv A outer s H E H0 HK G0 L hr=>by
  have b:=fR hr;exact(k7 (u7 (Aa (qR b (v4 b (dv 0) h9) (kZ (cs:=[97,100,100]) (by decide +kernel))) (zX (uX rfl a (e9 (P4 (aN [] trivial) (N3 (v4 b (dv 0) h9)) (λ_ _ _ _ _ _ _ _ _=>X3) (λ_ _ _ _ _ _ _ _ _=>(Ix (dv 0) h9))) h8)))))))
noncomputable abbrev dJ:SM:=(ax (p6 (g9 inD (g9 x0 (f8 2) (mC (.int 1))) (f8 1))) (I0 (gC 1 (f6 (C4 aE (f6 (B2 (B1 (g9 x0 (f8 2) (mC (.int 3)))) (w6 0) (p6 (g9 (Z7 λi j=>decide (i<j)) (f8 0) (g9 x0 (f8 1) (mC (.int 1))))) (M7 (f6 (f8 0) (f6 (mC (.bl true)) i7))) 1 [2]) i7)) i7))) bw)
noncomputable abbrev bH:SM:=(l4 (ax (ig (V4 (C4 tD (f6 (B2 (B1 (f8 0)) (w6 0) F1 (o9 [false] v3 (f6 (f8 0) i7)) 1 []) i7)))) (retS (mC .v1)) bw)
 (l4 (o3 1 (qr (g9 x0 (g9 x0 (f8 0) (cZ V1 (mC (.int 1)))) (mC (.int 1))) true))
 (l4 (V7 (sx (f6 (f8 0) i7)) (w6 2) dJ)
 (retS (f8 1)))))
noncomputable def T5:List D→Option FR:=n3 bH 3 [false]
theorem jT:∀ds r,T5 ds=some r→n3 bH 3 [false] ds=some r:=λ_ _ h=>h
theorem lN (F:bo K "wanted_in" "wanted_in" aQ f fd) (d:mg "all"=none) (b:mg "reversed"=none) (c:mg "dict"=none)
  (a:eg P w K mg base 1 "has_plain_hints" ["step"] (E3 K [false] v3)):
  x2 P w K mg base W0 2 f fd ["steps"] (E3 K [false] (n3 bH 3 [false])):=
 have nd:=gi.nd
 N4 (k:=1) F gi rfl (λcdv A outer s H E H0 HK G0 L hr=>by
  have e:=fR hr;exact(i6 (I8 (eX (U3 (uX rfl d (e9 (P4 (aN [] trivial) (N3 (dv 0)) (λ_ _ _ _ _ _ _ _ _=>X3) (λ_ _ _ _ _ _ _ _ _=>(p4 a (hr.mono (by decide)) (e9 (dv 0) h8)))) h8)))) (k7 (u7 zY)) x6)
   (i6 (n2 (i:=1) (Gd (HH e (HH e (HF 0) HG) HI)) nd)
   (i6 (O8 (zy b (e9 (dv 0) h8)) (D2 (i:=2) nd) (k7 (I8 (lE e (v4 e (dv 2) h9) (dv 1)) (k7 (K5 (qP 1 (dv 1) (e9 (jI rfl c (e9 (P4 (aN [("step",2)] ⟨⟨rfl,rfl,.inl rfl⟩,trivial⟩) (N3 (v4 e (dv 2) h9)) (λ_ _ _ _ _ _ _ _ _=>qG (Bj (dv 0) (v4 e (dv 1) h9))) (λ_ _ _ _ _ _ _ _ _=>(J1 (e9 (dv 0) (e9 dW h8))))) h8)) h8)))) x6)))
   (k7 (u7 (dv 1)))))))
noncomputable abbrev kX:SM:=(l4 (o3 3 (o9 [false] T5 (f6 (o9 [false,false,false] T6 (f6 (f8 0) (f6 (f8 1) (f6 (f8 2) i7)))) i7)))
 (retS (B2 (X1 ints2 (f6 (mC (.int 1)) (f6 (g9 A3 (C4 V5 (f6 (f8 1) i7)) (mC (.int 1))) i7))) (w6 0) (qp (p6 (cZ (λd=>vB (aw d)) (f8 1))) (p6 (g9 inD (f8 0) (f8 1)))) (f8 0) 1 [3])))
noncomputable def Z2:List D→Option FR:=n3 kX 4 [false,false,false]
theorem vG:∀ds r,Z2 ds=some r→n3 kX 4 [false,false,false] ds=some r:=λ_ _ h=>h
theorem ya (F:bo K "core" "core" nN f fd) (c:mg "range"=none) (d:mg "len"=none)
  (b:eg P w K mg base 2 "wanted_in" ["steps"] (E3 K [false] T5))
  (a:eg P w K mg base 7 "up_to_empty" ["variables","clauses","steps"] (E3 K [false,false,false] T6)):
  x2 P w K mg base W0 8 f fd ["variables","clauses","steps"] (E3 K [false,false,false] (n3 kX 4 [false,false,false])):=
 have nd:=tX.nd
 N4 (k:=7) F tX rfl (λcdv A outer s H E H0 HK G0 L hr=>by
  have e:=fR hr;exact(i6 (n2 (i:=3) (p4 b (hr.mono (by decide)) (e9 (p4 a (hr.mono (by decide)) (e9 (dv 0) (e9 (dv 1) (e9 (dv 2) h8)))) h8)) nd)
   (k7 (u7 (P4 (aN [("wanted",3)] ⟨⟨rfl,rfl,.inl rfl⟩,trivial⟩) (kI c (e9 h9 (e9 (x4 (X4 d (e9 (dv 1) h8)) h9) h8))) (λ_ _ _ _ _ _ _ _ _=>qG ((w_or (Ha (dv 1)) (pC (lE e (dv 0) (dv 1))))).pt) (λ_ _ _ _ _ _ _ _ _=>(dv 0)))))))
noncomputable abbrev qu:SM:=(l4 (o3 4 (g9 R4 (o9 [false,false] v0 (f6 (f8 0) (f6 (g9 A3 (mC (.int 51)) (f8 3)) i7))) (g9 A3 (C4 V5 (f6 (f8 2) i7)) (mC (.int 1)))))
 (I0 (gD 2 (f6 (f8 4) (f6 (o9 [false,false,false,false] E7 (f6 (f8 0) (f6 (g9 A3 (mC (.int 30)) (g9 aM (mC (.int 5)) (f8 3))) (f6 (g9 x0 (f8 1) (mC (.int 0))) (f6 (mC (.int 3)) i7))))) i7)))))
noncomputable abbrev qt:SM:=(ax (p6 (g9 (Z7 λi j=>decide (i<j)) (f8 11) (g9 x0 (f8 10) (mC (.int 1))))) (fB 9 (mC (.bl true)) (f8 11)) bw)
noncomputable abbrev kx:SM:=(ax (qp (p6 (g9 R8 (g9 x0 (f8 10) (mC (.int 2))) (M7 i7))) (p6 (g9 inD (g9 x0 (f8 10) (mC (.int 1))) (f8 9)))) (V7 (B1 (g9 x0 (f8 10) (mC (.int 3)))) (w6 11) qt) bw)
noncomputable abbrev uV:SM:=(l4 (o3 1 (o9 [false,false] ba (f6 (f8 0) (f6 (mC (.int 0)) i7))))
 (l4 (o3 2 (C4 dM (f6 (g9 x0 (f8 1) (mC (.int 1))) i7)))
 (l4 (V7 (X1 ints1 (f6 (g9 R4 (o9 [false,false] v0 (f6 (f8 0) (f6 (mC (.int 50)) i7))) (mC (.int 5))) i7)) (w6 3) qu)
 (l4 (o3 1 (M7 (f6 (g9 x0 (f8 1) (mC (.int 0))) (f6 (f8 2) i7))))
 (l4 (o3 5 (o9 [false] aZ (f6 (f8 1) i7)))
 (l4 (ax (p6 (g9 R8 (g9 R4 (o9 [false,false] v0 (f6 (f8 0) (f6 (mC (.int 56)) i7))) (mC (.int 3))) (mC (.int 0)))) (o3 5 (g9 x0 (o9 [false,false] eF (f6 (g9 x0 (f8 1) (mC (.int 0))) (f6 (C4 dM (f6 (f8 2) i7)) i7))) (mC (.int 1)))) bw)
 (l4 (o3 6 (g9 R8 (g9 R4 (o9 [false,false] v0 (f6 (f8 0) (f6 (mC (.int 57)) i7))) (mC (.int 4))) (mC (.int 0))))
 (l4 (ax (V4 (f8 6)) (o3 5 (g9 A3 (O3 (f6 (M7 (f6 (mC (.str [100,114,111,112])) (f6 (M7 i7) i7))) i7)) (f8 5))) bw)
 (l4 (o3 7 (o9 [false,false,false] Z2 (f6 (g9 x0 (f8 1) (mC (.int 0))) (f6 (C4 dM (f6 (f8 2) i7)) (f6 (f8 5) i7)))))
 (l4 (ax (ig (V4 (o9 [false] W4 (f6 (f8 7) i7)))) (retS (mC (.bl false))) bw)
 (l4 (o3 8 (C4 gK (f6 (mC (.int 1)) (f6 (g9 A3 (C4 V5 (f6 (f8 2) i7)) (mC (.int 1))) i7))))
 (l4 (ax (ig (V4 (f8 6))) (l4 (o3 9 iJ)
 (l4 (V7 (sx (f6 (f8 5) i7)) (w6 10) kx)
 (o3 8 (B2 (B1 (f8 8)) (w6 0) (p6 (g9 inD (f8 0) (f8 1))) (f8 0) 1 [9])))) bw)
 (l4 (ax (p6 (g9 ox (f8 7) (f8 8))) (retS (mC (.bl false))) bw)
 (retS (g9 R8 (o9 [false,false] E6 (f6 (g9 x0 (f8 1) (mC (.int 0))) (f6 (B2 (B1 (f8 7)) (w6 0) F1 (g9 x0 (f8 1) (g9 iY (f8 0) (mC (.int 1)))) 1 [2]) i7))) (O3 i7))))))))))))))))
theorem Bx (F:bo K "law" "law" pS f fd) (b:mg "list"=none) (h:mg "range"=none) (o:mg "len"=none) (j:mg "reversed"=none)
  (l:eg P w K mg base 4 "_law_none" ["_law_script","_law_base"] (E3 K [false,false] ba))
  (a:eg P w K mg base 2 "_law_mix" ["_law_script","_law_k"] (E3 K [false,false] v0))
  (c:eg P w K mg base 3 "_law_clause" ["_law_script","_law_base","_law_variables","_law_most"] (E3 K [false,false,false,false] E7))
  (m:eg P w K mg base 3 "_law_sure" ["_law_formula_here"] (E3 K [false] aZ))
  (n:eg P w K mg base 3 "solved" ["variables","clauses"] (E3 K [false,false] eF))
  (p:eg P w K mg base 8 "core" ["variables","clauses","steps"] (E3 K [false,false,false] Z2))
  (d:eg P w K mg base 2 "_law_wholes" ["_law_found"] (E3 K [false] W4))
  (e:eg P w K mg base 1 "_law_models" ["_law_variables","_law_clauses"] (E3 K [false,false] E6)):
  x2 P w K mg base W0 9 f fd ["_law_script"] (E3 K [false] (n3 uV 12 [false])):=
 have nd:=xU.nd
 N4 (k:=8) F xU rfl (λcdv A outer s H E H0 HK G0 L hr=>by
  have g:=fR hr;exact(i6 (n2 (i:=1) (p4 l (hr.mono (by decide)) (e9 (dv 0) (e9 h9 h8))) nd)
   (i6 (n2 (i:=2) (io rfl b (e9 (v4 g (dv 1) h9) h8)) nd)
   (i6 (O8 (G9 h (e9 (S3 (p4 a (hr.mono (by decide)) (e9 (dv 0) (e9 h9 h8))) h9) h8)) (D2 (i:=3) nd) (i6 (n2 (i:=4) (S3 (p4 a (hr.mono (by decide)) (e9 (dv 0) (e9 (x4 h9 (dv 3)) h8))) (x4 (X4 o (e9 (dv 2) h8)) h9)) nd)
   (k7 (K5 (qQ 2 (dv 2) (e9 (dv 4) (e9 (p4 c (hr.mono (by decide)) (e9 (dv 0) (e9 (x4 h9 (bj h9 (dv 3))) (e9 (v4 g (dv 1) h9) (e9 h9 h8))))) h8)))))))
   (i6 (n2 (i:=1) (J1 (e9 (v4 g (dv 1) h9) (e9 (dv 2) h8))) nd)
   (i6 (n2 (i:=5) (p4 m (hr.mono (by decide)) (e9 (dv 1) h8)) nd)
   (i6 (I8 (eY g (S3 (p4 a (hr.mono (by decide)) (e9 (dv 0) (e9 h9 h8))) h9) h9) (k7 (n2 (i:=5) (v4 g (p4 n (hr.mono (by decide)) (e9 (v4 g (dv 1) h9) (e9 (io rfl b (e9 (dv 2) h8)) h8))) h9) nd)) x6)
   (i6 (n2 (i:=6) (qR g (S3 (p4 a (hr.mono (by decide)) (e9 (dv 0) (e9 h9 h8))) h9) h9) nd)
   (i6 (I8 (U3 (dv 6)) (k7 (n2 (i:=5) (x4 (M4 (e9 (J1 (e9 (kZ (cs:=[100,114,111,112]) (by decide +kernel)) (e9 (J1 h8) h8))) h8)) (dv 5)) nd)) x6)
   (i6 (n2 (i:=7) (p4 p (hr.mono (by decide)) (e9 (v4 g (dv 1) h9) (e9 (io rfl b (e9 (dv 2) h8)) (e9 (dv 5) h8)))) nd)
   (i6 (I8 (eX (U3 (p4 d (hr.mono (by decide)) (e9 (dv 7) h8)))) (k7 (u7 dW)) x6)
   (i6 (n2 (i:=8) (xa rfl b h (e9 h9 (e9 (x4 (X4 o (e9 (dv 2) h8)) h9) h8))) nd)
   (i6 (I8 (eX (U3 (dv 6))) (i6 (n2 (i:=9) lc nd)
   (i6 (O8 (zy j (e9 (dv 5) h8)) (D2 (i:=10) nd) (k7 (I8 ((w_or (eY g (v4 g (dv 10) h9) (J1 h8)) (pC (lE g (v4 g (dv 10) h9) (dv 9))))).pt (k7 (O8 (N3 (v4 g (dv 10) h9)) (D2 (i:=11) nd) (k7 (I8 (Bj (dv 11) (v4 g (dv 10) h9)) (k7 (fg 9 g dW (dv 9) (dv 11))) x6)))) x6)))
   (k7 (ib (i:=8) (aN [("_law_wanted",9)] ⟨⟨rfl,rfl,.inl rfl⟩,trivial⟩) nd (N3 (dv 8)) (λ_ _ _ _ _ _ _ _ _=>qG (lE g (dv 0) (dv 1))) (λ_ _ _ _ _ _ _ _ _=>(dv 0)))))) x6)
   (i6 (I8 (xF g (dv 7) (dv 8)) (k7 (u7 dW)) x6)
   (k7 (u7 (qR g (p4 e (hr.mono (by decide)) (e9 (v4 g (dv 1) h9) (e9 (P4 (aN [("_law_clauses",2)] ⟨⟨rfl,rfl,.inl rfl⟩,trivial⟩) (N3 (dv 7)) (λ_ _ _ _ _ _ _ _ _=>X3) (λ_ _ _ _ _ _ _ _ _=>(v4 g (dv 1) (kY (dv 0) h9)))) h8))) (M4 h8))))))))))))))))))
end
theorem jE {ρ:k0}:iJ ρ=some (.ok (.own (.dct [])) ρ):=rfl
theorem vg {α a:Type}(f:α→a)(xs:List α)(i:Int):L2.fN (xs.map f) i=(L2.fN xs i).map f:=by
 unfold L2.fN;rw[List.length_map];cases wz xs.length i with
 |none=>rfl
 |some j=>simp
theorem Ak {ns:List Int}{k:Int}(h:ns≠[]):L2.fN ns (k % (ns.length:Int))=some (iV ns k):=by
 have q:=Df (ns:=ns) (k:=k) h;rw[vg,List.length_map]at q;cases e:L2.fN ns (k % (ns.length:Int))with
 |none=>rw[e]at q;cases q
 |some v=>
  rw[e]at q;have:V.int v=V.int (iV ns k):=i9 q;injection this with z
  rw[z]
theorem z8 (ns:List Int):(ns.map D.int).all U5=true:=by
 rw[List.all_map,List.all_eq_true];intro x _;rfl
theorem CI {ns:List Int}{k:Int}:bb [.lst (ns.map D.int),.int k]=some (.ret (.val (.int (iV ns k))) []):=by
 show n3 Z5 2 [false,false] _=_;cases ns with
 |nil=>rfl
 |cons n r=>
  have q:x0 (.lst ((n::r).map D.int)) (.int (k % ((((n::r).map D.int).length:Nat):Int)))=some (.val (.int (iV (n::r) k))):=by
   show(L2.fN _ _).map _=_;rw[List.length_map,vg,Ak (List.cons_ne_nil _ _)];rfl
  exact L9 (Z3 (D4 (N8 (g4 rfl) rfl rfl) rfl (D3 (j4 (g4 rfl) (j4 (g4 rfl) (E1 (h7 (g4 rfl) j9) rfl rfl) rfl rfl (K6 (Jz.mpr (Nat.succ_pos _)))) rfl rfl q) rfl))) rfl
theorem sU {ns:List Int}{k:Int}:v0 [.lst (ns.map D.int),.int k]=some (.ret (.val (.int (B6 ns k))) []):=
 L9 (den:=bh) (n:=3) (ms:=[false,false]) (j8 (u3 (j4 (j4 (dU (h7 (g4 rfl) (h7 (g4 rfl) j9)) rfl rfl CI rfl rfl) (j4 o6 (j4 (g4 rfl) o6 rfl rfl rfl) rfl rfl (ey (.inl ⟨by decide,by decide⟩))) rfl rfl rfl) o6 rfl rfl (K6 (by decide))) rfl) (j8 (u3 (j4 (j4 (g4 rfl) o6 rfl rfl (ey (.inr ⟨by decide,by decide⟩))) o6 rfl rfl (K6 (by decide))) rfl) (D3 (j4 (j4 (j4 (j4 (g4 rfl) o6 rfl rfl (jy ⟨by decide,by decide⟩)) o6 rfl rfl (ey (.inr ⟨by decide,by decide⟩))) (g4 rfl) rfl rfl rfl) o6 rfl rfl (K6 (by decide))) rfl))) rfl
theorem p5 {n:Nat}(h:n≤100000):small n:=by unfold small;omega
theorem qB (l:Int)(c:List Int):kH (.int l) (c.map D.int)=some (decide (l∈c)):=by
 induction c with
 |nil=>rfl
 |cons a r ih=>
  show(match dn 7 (.int a) (.int l),kH (.int l) (r.map D.int)with|some a,some b=>some (a||b) |_,_=>none)=_;rw[ih];show some ((a==l)||decide (l∈r))=_;by_cases h:l=a
  ·simp[h]
  ·have h':¬a=l:=λe=>h e.symm;simp[h,h']
theorem zg (l:Int)(c:List Int):inD (.int l) (.tup (c.map D.int))=some (.val (.bl (decide (l∈c)))):=by
 show(kH (.int l) (c.map D.int)).bind _=_;rw[qB];rfl
theorem Ap (bs:List Bool):ci (bs.map D.bl)=some bs:=by
 induction bs with
 |nil=>rfl
 |cons b r ih=>
  show(ci (r.map D.bl)).map _=_;rw[ih];rfl
theorem gX (bs:List Bool):tD [.lst (bs.map D.bl)]=some (.val (.bl (bs.all id))):=by
 show(ci _).bind _=_;rw[Ap];rfl
theorem vh (bs:List Bool):xo [.lst (bs.map D.bl)]=some (.val (.bl (bs.any id))):=by
 show(ci _).bind _=_;rw[Ap];rfl
theorem bZ (bs:List Bool):(bs.map D.bl).all U5=true:=by
 rw[List.all_map,List.all_eq_true];intro x _;rfl
theorem cN {i:Nat}{f:M (List W)}{w:W}{d:D}{ds:List D}{ρ b a c:k0}{l:Bool}{e:List D}(g:ρ[i]?=some (some (.ow l (.lst e))))(h:f ρ=some (.ok [w] b))(hl:D0 w b=some (.ok d a))(j:a[i]?=some (some (.ow l (.lst ds))))(k:small ds.length)(hs:a.set i (some (.ow l (.lst (ds++[d]))))=c):I0 (C7 i f) ρ=some (.nx c):=by
 subst hs;exact be (wY g h hl j k)
theorem eq_int (a b:Int):R8 (.int a) (.int b)=some (.val (.bl (decide (a=b)))):=by
 show some (W.val (.bl (a==b)))=_;by_cases h:a=b<;>simp[h]
section
variable {tg:FT}{mt:M Bool}{me:M W}{ρ ρ1 ρ2 ρ3 ρ4:k0}{d y:D}{w:W}
theorem turn_if {k:Bool}(c:tg d ρ=some ρ1)(e:mt ρ1=some (.ok k ρ2))(f:k=true→∃w ρ3 ρ4,me ρ2=some (.ok w ρ3)∧D0 w ρ3=some (.ok y ρ4)):compTurn tg mt me ρ d=some (if k=true then some y else none):=by
 cases k with
 |true=>
  obtain⟨w,ρ3,ρ4,a,b⟩:=f rfl;exact jO c e a b
 |false=>exact Bc c e
theorem O5 {α:Type}{f g:α→D}{t:α→Bool}{xs:List α}(h:∀x∈xs,compTurn tg mt me ρ (f x)=some (if t x=true then some (g x)else none)):y9 tg mt me ρ (xs.map f)=some ((xs.filter t).map g):=by
 induction xs with
 |nil=>rfl
 |cons x r ih=>
  have b:=h x List.mem_cons_self;have ih:=ih λy c=>h y (List.mem_cons_of_mem _ c);rw[List.map_cons];unfold y9;rw[b];cases a:t x with
  |true=>rw[List.filter_cons_of_pos a,ih];rfl
  |false=>rw[List.filter_cons_of_neg (by rw[a];decide),ih];rfl
theorem cd {α:Type}{f g:α→D}{xs:List α}(h:∀x∈xs,∃ρ1 w ρ2 ρ3,tg (f x) ρ=some ρ1∧me ρ1=some (.ok w ρ2)∧D0 w ρ2=some (.ok (g x) ρ3)):y9 tg F1 me ρ (xs.map f)=some (xs.map g):=by
 have:=O5 (tg:=tg) (mt:=F1) (me:=me) (ρ:=ρ) (f:=f) (g:=g) (t:=λ_=>true) (xs:=xs) (λx d=>by
  obtain⟨ρ1,w,ρ2,ρ3,a,b,c⟩:=h x d;exact jO a rfl b c)
 rw[this,List.filter_eq_self.mpr (λ_ _=>rfl)]
end
theorem ce (cs:List (List Int)):(u8 cs).length=cs.length:=List.length_map _
theorem af (c:List Int):U5 (.tup (c.map D.int))=true:=by
 show(c.map D.int).all (gR 5)=true;rw[List.all_map,List.all_eq_true];intro x _;rfl
theorem aA (cs:List (List Int)):(u8 cs).all U5=true:=by
 unfold u8;rw[List.all_map,List.all_eq_true];intro c _;exact af c
theorem qL (n:Nat)(a b:Int):dn n (.int a) (.int b)=some (decide (a=b)):=by
 have:Ik (.int a) (.int b)=some (decide (a=b)):=by
  show some (a==b)=_;by_cases h:a=b<;>simp[h]
 cases n<;>exact this
theorem ni (n:Nat):∀a b:List Int,lz (dn n) (a.map D.int) (b.map D.int)=some (decide (a=b))
 | [],[]=>by simp[lz]
 | [],_::_=>by simp[lz]
 |_::_,[]=>by simp[lz]
 |x::r,y::t=>by
  show(match dn n (.int x) (.int y),lz (dn n) (r.map D.int) (t.map D.int)with|some a,some b=>some (a&&b) |_,_=>none)=_;rw[qL,ni n r t];by_cases c:x=y<;>by_cases d:r=t<;>simp[c,d]
theorem Br (m x a:Int)(b:x=m / 6 % (a+1)):x0 (.lst [.int 1,.int 2,.int 3,.int 2,.int 3,.int x]) (.int (m % 6))=some (.val (.int (sizeV m a))):=by
 have h:m % 6=0∨m % 6=1∨m % 6=2∨m % 6=3∨m % 6=4∨m % 6=5:=by omega
 unfold sizeV;subst b;rcases h with h|h|h|h|h|h<;>rw[h]<;>rfl
theorem Bq (m a:Int)(h:0≤a):0≤sizeV m a:=by
 unfold sizeV;have:=y8 (m / 6) (b:=a+1) (by omega);split<;>(try split)<;>(try split)<;>(try split)<;>(try split)<;>omega
theorem tV (m a:Int)(h:0≤a):sizeV m a≤a+3:=by
 unfold sizeV;have:=v9 (m / 6) (b:=a+1) (by omega);split<;>(try split)<;>(try split)<;>(try split)<;>(try split)<;>omega
noncomputable def Jf (ns:List Int)(b v a n S:Int)(F:List Int)(c d:Option C):k0:=[some (.sh (.lst (ns.map D.int))),some (.sh (.int b)),some (.sh (.int v)),some (.sh (.int a)),some (.sh (.int n)),some (.sh (.int S)),some (.ow false (.lst (F.map D.int))),c,d]
theorem va {ns:List Int}{b v most n S:Int}(a:0<v)(g:v<1000):∀(m k:Nat) (c d:Option C),m+k≤2000→∃e f,forL (w6 7) df ((List.range' k m).map λj=>D.int (0+((j:Nat):Int))) (Jf ns b v most n S ((List.range k).map λ(j:Nat)=>qw (B6 ns (b+1+(j:Int))) v) c d)=some (.nx (Jf ns b v most n S ((List.range (m+k)).map λ(j:Nat)=>qw (B6 ns (b+1+(j:Int))) v) e f))
 |0,k,c,d,_=>⟨c,d,by rw[M5];rfl⟩
 |m+1,k,c,d,h=>by
  obtain⟨e,f,ih⟩:=va a g m (k+1) (some (.sh (.int (k:Int)))) (some (.sh (.int (B6 ns (b+1+(k:Int)))))) (by omega);refine⟨e,f,?_⟩;rw[List.range'_succ,List.map_cons,C9,Nat.add_right_comm m 1 k];rw[show m+(k+1)=m+k+1 from rfl]at ih;refine N5 rfl (j8 (ρ1:=Jf ns b v most n S ((List.range k).map λ(j:Nat)=>qw (B6 ns (b+1+(j:Int))) v) (some (.sh (.int (k:Int)))) (some (.sh (.int (B6 ns (b+1+(k:Int))))))) (u3 (dU (h7 (g4 rfl) (h7 (j4 (j4 (g4 rfl) o6 rfl rfl rfl) (g4 rfl) rfl rfl rfl) j9)) rfl rfl sU rfl rfl) rfl) ?_) ih;have i:=y8 (B6 ns (b+1+(k:Int)) / 2) (Int.ne_of_gt a);have l:=v9 (B6 ns (b+1+(k:Int)) / 2) a;refine cN rfl (h7 (j4 (j4 o6 (j4 (j4 (g4 rfl) o6 rfl rfl (jy ⟨by decide,by decide⟩)) (g4 rfl) rfl rfl (K6 a)) rfl rfl rfl) (j4 o6 (j4 o6 (j4 (g4 rfl) o6 rfl rfl (K6 (by decide))) rfl rfl (ey (.inl ⟨by decide,by decide⟩))) rfl rfl rfl) rfl rfl (ey (.inl ⟨by omega,by omega⟩))) j9) rfl rfl (p5 (by rw[List.length_map,List.length_map,List.length_range];omega)) ?_;unfold Jf;rw[List.range_succ,List.map_append,List.map_append];rfl
theorem na {ns:List Int}{b v most:Int}(d:0<v)(e:v<1000)(c:0≤most)(h:most<1000):E7 [.lst (ns.map D.int),.int b,.int v,.int most]=some (.ret (.val (.tup ((U0 ns b v most).map D.int))) []):=by
 show n3 T8 9 [false,false,false,false] _=_;have a:=Br (B6 ns b) (B6 ns b / 6 % (most+1)) most rfl;have f:=Bq (B6 ns b) most c;have g:=tV (B6 ns b) most c;unfold U0;generalize sizeV (B6 ns b) most=S at *;have hi:ints1 [.int S]=some ((List.range S.toNat).map λk=>D.int (0+((k:Nat):Int))):=v6 ⟨by omega,by omega⟩;obtain⟨i,j,hl⟩:=va (ns:=ns) (b:=b) (most:=most) (n:=B6 ns b) (S:=S) d e S.toNat 0 none none (by omega);rw[←List.range_eq_range']at hl;exact L9 (j8 (u3 (dU (h7 (g4 rfl) (h7 (g4 rfl) j9)) rfl rfl sU rfl rfl) rfl) (j8 (u3 (j4 (aC (h7 o6 (h7 o6 (h7 o6 (h7 o6 (h7 o6 (h7 (j4 (j4 (g4 rfl) o6 rfl rfl (jy ⟨by decide,by decide⟩)) (j4 (g4 rfl) o6 rfl rfl rfl) rfl rfl (K6 (by omega))) j9)))))) rfl (i5 rfl)) (j4 (g4 rfl) o6 rfl rfl (K6 (by decide))) rfl rfl a) rfl) (j8 (u3 (aC j9 rfl (i5 rfl)) rfl) (j8 (fI (kP (h7 (g4 rfl) j9) rfl hi) hl) (D3 (E1 (h7 (g4 rfl) j9) rfl rfl) rfl))))) rfl
noncomputable def keyed (a:List Int):List (Key×D):=a.map λl=>(.inl l,.bl true)
theorem fX (ts:List (Int×Int))(k:Int):M6 (l6 ts) (.inl k)=(k9 ts k).map D.int:=by
 induction ts with
 |nil=>rfl
 |cons t r ih=>
  unfold M6 k9 l6 at *;rw[List.map_cons,List.find?_cons,List.find?_cons];by_cases h:t.1=k
  ·simp[h]
  ·have a:decide ((Sum.inl t.1:Key)=Sum.inl k)=false:=by simp[h]
   simp only[a,decide_eq_false h];exact ih
theorem mw (a:List Int)(k:Int):(M6 (keyed a) (.inl k)).isSome=decide (k∈a):=by
 induction a with
 |nil=>rfl
 |cons t r ih=>
  unfold M6 keyed at *;rw[List.map_cons,List.find?_cons];by_cases h:t=k
  ·simp[h]
  ·have h':¬k=t:=λe=>h e.symm;have b:decide ((Sum.inl t:Key)=Sum.inl k)=false:=by simp[h]
   simp only[b];rw[ih];simp[h']
theorem Cg {ts:List (Int×Int)}{k j:Int}:ox ((M6 (l6 ts) (.inl k)).getD .v1) (.int j)=some (.val (.bl (decide (k9 ts k≠some j)))):=by
 rw[fX];cases k9 ts k with
 |none=>rfl
 |some v=>
  show some (W.val (.bl (!(v==j))))=_;by_cases h:v=j<;>simp[h]
theorem mL (a:List Int)(l:Int):putD (keyed a) (.inl l) (.bl true)=keyed (P7 a l):=by
 unfold putD P7;by_cases h:l∈a
 ·rw[if_pos h,if_pos (by simp[keyed,h])];unfold keyed;rw[List.map_map];apply List.map_congr_left;intro x _;simp
 ·rw[if_neg h,if_neg (by simpa[keyed]using h)];simp[keyed]
theorem ee (a:List Int)(l:Int):(P7 a l).length≤a.length+1:=by unfold P7;split<;>simp
theorem og {ρ:k0}{i:Nat}{a:List Int}{l:Int}(h:ρ[i]?=some (some (.ow false (.dct (keyed a)))))(b:a.length≤900000):cY i (.int l) (.bl true) ρ=some (.nx (ρ.set i (some (.ow false (.dct (keyed (P7 a l))))))):=by
 unfold cY;rw[h,←mL];exact v6 (by unfold small;rw[show(keyed a).length=a.length from List.length_map _];omega)
noncomputable def Jc (ts:List (Int×Int))(b a:List Int)(c:Option C):k0:=[some (.sh (.dct (l6 ts))),some (.sh (.tup (b.map D.int))),some (.ow false (.dct (keyed a))),c]
theorem om {ts:List (Int×Int)}{ls:List Int}:∀(b a:List Int) (e:Option C),a.length+b.length≤1000→∃d,forL (w6 3) iN (b.map D.int) (Jc ts ls a e)=some (.nx (Jc ts ls (b.foldl (Y0 ts) a) d))
 | [],a,e,_=>⟨e,rfl⟩
 |l::b,a,e,g=>by
  rw[List.length_cons]at g;have h:=Cg (ts:=ts) (k:=l.natAbs) (j:=-l);have c:p6 (g9 ox (qq (f8 0) (C4 S6 (f6 (f8 3) i7))) (cZ V1 (f8 3))) (Jc ts ls a (some (.sh (.int l))))=some (.ok (decide (k9 ts l.natAbs≠some (-l))) (Jc ts ls a (some (.sh (.int l))))):=p9 (j4 (uP (g4 rfl) rfl (E1 (h7 (g4 rfl) j9) rfl rfl) rfl rfl rfl) (bd (g4 rfl) rfl rfl) rfl rfl h);rw[List.foldl_cons];by_cases f:k9 ts l.natAbs=some (-l)
  ·obtain⟨d,ih⟩:=om b a (some (.sh (.int l))) (by omega);rw[show Y0 ts a l=a from if_pos f];exact⟨d,N5 rfl (A0 c (decide_eq_false λz=>z f) O9) ih⟩
  ·have i:=ee a l;obtain⟨d,ih⟩:=om b (P7 a l) (some (.sh (.int l))) (by omega);rw[show Y0 ts a l=P7 a l from if_neg f];exact⟨d,N5 rfl (D4 c (decide_eq_true f) (dS o6 rfl (g4 rfl) rfl rfl (og rfl (by omega)))) ih⟩
theorem mY {ts:List (Int×Int)}{ls:List Int}(h:ls.length≤1000):V8 [.dct (l6 ts),.tup (ls.map D.int)]=some (.ret (.own (.lst ((p7 ts ls).map D.int))) []):=by
 show n3 cQ 4 [false,false] _=_;obtain⟨a,hl⟩:=om (ts:=ts) (ls:=ls) ls [] none (by rw[List.length_nil];omega);have hd:dM [.dct (keyed (p7 ts ls))]=some (.own (.lst ((p7 ts ls).map D.int))):=by
  show some (W.own (.lst ((keyed _).map λe=>iP e.1)))=_;unfold keyed;rw[List.map_map];rfl
 exact L9 (j8 (u3 jE rfl) (j8 (fI (F5 (g4 rfl) rfl rfl) hl) (D3 (E1 (h7 (g4 rfl) j9) rfl hd) rfl))) rfl
theorem ve (L:List D){A:List Int}(h:∀l∈A,-l∉A):∀(e a:List Int) (o:Option C),a.length+e.length≤1000→(∀l∈a,l∈A)→(∀l∈e,l∈A)→∃b c,forL (w6 2) fi (e.map D.int) [some (.sh (.tup L)),some (.ow false (.dct (keyed a))),o]=some (.nx [some (.sh (.tup L)),b,c])
 | [],a,o,_,_,_=>⟨_,_,rfl⟩
 |l::e,a,o,j,f,i=>by
  rw[List.length_cons]at j;have m:=ee a l;have hl:=i l List.mem_cons_self;have k:-l∉a:=λz=>h l hl (f _ z);obtain⟨b,c,ih⟩:=ve L h e (P7 a l) (some (.sh (.int l))) (by omega) (λx d=>by
   unfold P7 at d;split at d
   ·exact f x d
   ·rcases List.mem_append.mp d with d|d
    ·exact f x d
    ·rw[List.mem_singleton.mp d];exact hl) λx d=>i x (List.mem_cons_of_mem _ d)
  have g:inD (.int (-l)) (.dct (keyed a))=some (.val (.bl false)):=by
   show some (W.val (.bl (M6 (keyed a) (.inl (-l))).isSome))=_;rw[mw,decide_eq_false k]
  exact⟨b,c,N5 rfl (j8 (A0 (p9 (j4 (bd (g4 rfl) rfl rfl) (g4 rfl) rfl rfl g)) rfl O9) (dS o6 rfl (g4 rfl) rfl rfl (og rfl (by omega)))) ih⟩
theorem CJ {a:List Int}(h:a.length≤1000)(d:∀l∈a,-l∉a):bc [.tup (a.map D.int)]=some (.ret (.val (.bl false)) []):=by
 show n3 Z6 3 [false] _=_;obtain⟨b,c,hl⟩:=ve (a.map D.int) d a [] none (by rw[List.length_nil];omega) (λ_ z=>nomatch z) λ_ z=>z;exact L9 (j8 (u3 jE rfl) (j8 (fI (F5 (g4 rfl) rfl rfl) hl) (D3 o6 rfl))) rfl
theorem qa (ts:C3)(k v:Int):putD (l6 ts) (.inl k) (.int v)=l6 (E5 ts k v):=by
 unfold putD E5 l6;have e:((ts.map λkv=>((Sum.inl kv.1:Key),D.int kv.2)).any λkv=>decide (kv.1=Sum.inl k))=ts.any λkv=>decide (kv.1=k):=by
  rw[List.any_map];congr 1;funext kv;simp
 rw[e];split
 ·rw[List.map_map,List.map_map];refine List.map_congr_left λkv _=>?_;by_cases h:kv.1=k
  ·simp[h]
  ·simp[h]
 ·simp
theorem dF (ts:C3)(k v:Int):(E5 ts k v).length≤ts.length+1:=by
 unfold E5;split
 ·simp
 ·simp
theorem yM (a:List Int):∀ts:C3,dH (l6 ts) (a.map λl=>((Sum.inl (n5 l):Key),D.int l))=l6 (a.foldl (λts l=>E5 ts (n5 l) l) ts):=by
 induction a with
 |nil=>intro ts;rfl
 |cons l r ih=>
  intro ts;show dH (putD (l6 ts) (.inl (n5 l)) (.int l)) _=_;rw[qa,ih];rfl
theorem rW (a:List Int):V0 (a.map λl=>D.tup [.int (n5 l),.int l])=some (a.map λl=>((Sum.inl (n5 l):Key),D.int l)):=by
 induction a with
 |nil=>rfl
 |cons l r ih=>
  show(pairD (.tup [.int (n5 l),.int l])).bind _=_;show(V0 _).map _=_;rw[ih];rfl
theorem mW {ls:List Int}(h:ls.length≤1000):K7 [.lst (ls.map D.int)]=some (.ret (.own (.dct (l6 (B5 ls)))) []):=by
 show n3 W5 1 [false] _=_;have a:y9 (w6 0) F1 (M7 (f6 (C4 S6 (f6 (f8 0) i7)) (f6 (f8 0) i7))) [none] (ls.map D.int)=some (ls.map λl=>D.tup [.int (n5 l),.int l]):=cd λl _=>⟨[some (.sh (.int l))],.val (.tup [.int (n5 l),.int l]),[some (.sh (.int l))],[some (.sh (.int l))],rfl,aB (h7 (E1 (h7 (g4 rfl) j9) rfl rfl) (h7 (g4 rfl) j9)) rfl (i5 rfl),rfl⟩;have b:=bf (mi:=B1 (f8 0)) (ρ:=A7 1 [false] [.lst (ls.map D.int)]) (ρ1:=A7 1 [false] [.lst (ls.map D.int)]) (own:=1) (fr:=[]) (F5 (g4 rfl) rfl rfl) (p5 (by rw[List.length_map];omega)) a (.inl (by rw[List.all_map,List.all_eq_true];exact λ_ _=>rfl));have hd:aE [.lst (ls.map λl=>D.tup [.int (n5 l),.int l])]=some (.own (.dct (l6 (B5 ls)))):=by
  show(V0 _).map _=_;rw[rW];show some (W.own (.dct (dH (l6 []) _)))=_;rw[yM];rfl
 exact L9 (D3 (E1 (h7 b j9) rfl hd) rfl) rfl
theorem ag (ts:C3):U4 (.dct (l6 ts))=true:=by
 show(l6 ts).all _=true;unfold l6;rw[List.all_map,List.all_eq_true];intro x _;rfl
theorem pF (T:Tab)(k:Int):M6 (n8 T) (.inl k)=(E8 T k).map λc=>D.tup (c.map D.int):=by
 induction T with
 |nil=>rfl
 |cons t r ih=>
  unfold M6 E8 n8 at *;rw[List.map_cons,List.find?_cons,List.find?_cons];by_cases h:t.1=k
  ·simp[h]
  ·have a:decide ((Sum.inl t.1:Key)=Sum.inl k)=false:=by simp[h]
   simp only[a,decide_eq_false h];exact ih
theorem on {T:Tab}(h:uj T=true):T.length≤600∧∀kv∈T,kv.2.length≤1000:=by
 unfold uj at h;simp only[k6,decide_eq_true_eq,List.all_eq_true]at h;exact h
theorem y0 {T:Tab}{k:Int}{c:List Int}(h:E8 T k=some c):(k,c)∈T:=by
 unfold E8 at h;cases e:T.find? λkv=>decide (kv.1=k)with
 |none=>rw[e]at h;cases h
 |some kv=>
  rw[e]at h;have b:=List.mem_of_find?_eq_some e;have a:=List.find?_some e;simp at a h;rw[←a,←h];exact b
theorem jz (T:Tab)(h:Int):N1 (.int h) (.dct (n8 T))=some (.val (.bl (!(E8 T h).isSome))):=by
 show vB (!(M6 (n8 T) (.inl h)).isSome)=_;rw[pF];cases E8 T h<;>rfl
theorem fF {T:Tab}{h:Int}{c:List Int}(e:E8 T h=some c):x0 (.dct (n8 T)) (.int h)=some (.val (.tup (c.map D.int))):=by
 show(M6 (n8 T) (.inl h)).map _=_;rw[pF,e];rfl
theorem sI (ts:C3)(k:Int):inD (.int k) (.dct (l6 ts))=some (.val (.bl (k9 ts k).isSome)):=by
 show vB (M6 (l6 ts) (.inl k)).isSome=_;rw[fX];cases k9 ts k<;>rfl
theorem jG (a:List Int):R8 (.lst (a.map D.int)) (.lst [])=some (.val (.bl a.isEmpty)):=by cases a<;>rfl
theorem L7 (a:List Int):(dR (.own (.lst (a.map D.int)))&&([]:List D).all U4)=true:=by
 show(List.all _ _&&true)=true;rw[z8];rfl
theorem bS:∀(cs:List (List Int)) (k:Int),(n7 k cs).length=cs.length
 | [],_=>rfl
 |c::cs,k=>by show(n7 (k+1) cs).length+1=_;rw[bS cs];rfl
theorem z9:∀(cs:List (List Int)) (k:Int) (kv:Int×List Int),kv∈n7 k cs→k≤kv.1∧kv.1<k+cs.length∧kv.2∈cs
 |c::cs,k,kv,h=>by
  rcases List.mem_cons.mp h with rfl|h
  ·exact⟨Lq _,by simp only[List.length_cons];omega,List.mem_cons_self⟩
  ·obtain⟨a,b,d⟩:=z9 cs (k+1) kv h;exact⟨by omega,by simp only[List.length_cons];omega,List.mem_cons_of_mem _ d⟩
theorem aq:∀(cs:List (List Int)) (k:Int),((n7 k cs).map (·.1)).Nodup
 | [],_=>List.nodup_nil
 |c::cs,k=>by
  show(k::(n7 (k+1) cs).map (·.1)).Nodup;rw[List.nodup_cons];refine⟨λh=>?_,aq cs (k+1)⟩;obtain⟨kv,a,e⟩:=List.mem_map.mp h;have:=(z9 cs (k+1) kv a).1;omega
theorem ez (c:List Int):∀(cs:List (List Int)) (k:Int),n7 k (cs++[c])=n7 k cs++[(k+cs.length,c)]
 | [],k=>by show [(k,c)]=[(k+((0:Nat):Int),c)];rw[show k+((0:Nat):Int)=k by omega]
 |d::cs,k=>by
  show(k,d)::n7 (k+1) (cs++[c])=(k,d)::(n7 (k+1) cs++[(k+((cs.length+1:Nat):Int),c)])
  rw[ez c cs (k+1),show k+1+(cs.length:Int)=k+((cs.length+1:Nat):Int) by omega]
theorem qh:∀(cs:List (List Int)) (k:Int),wf k (u8 cs)=n8 (n7 k cs)
 | [],_=>rfl
 |c::cs,k=>by
  show(Sum.inl k,D.tup (c.map D.int))::wf (k+1) (u8 cs)=_;rw[qh cs];rfl
theorem nZ {T:Tab}{k:Int}{c:List Int}(h:∀kv∈T,kv.1≠k):putD (n8 T) (.inl k) (.tup (c.map D.int))=n8 (T++[(k,c)]):=by
 unfold putD;rw[if_neg]
 ·unfold n8;rw[List.map_append];rfl
 ·intro e;obtain⟨x,a,hk⟩:=List.any_eq_true.mp e;unfold n8 at a;obtain⟨kv,b,rfl⟩:=List.mem_map.mp a;exact h kv b (GA (of_decide_eq_true hk))
theorem ur:∀(U T:Tab),((T++U).map (·.1)).Nodup→dH (n8 T) (n8 U)=n8 (T++U)
 | [],T,_=>by rw[List.append_nil];rfl
 |kv::U,T,h=>by
  have hk:∀x∈T,x.1≠kv.1:=λx a e=>by
   rw[List.map_append,List.map_cons,List.nodup_append]at h;exact h.2.2 x.1 (List.mem_map_of_mem a) kv.1 List.mem_cons_self e
  show dH (putD (n8 T) (.inl kv.1) (.tup (kv.2.map D.int))) (n8 U)=_;rw[nZ hk,ur U (T++[(kv.1,kv.2)]) (by rw[List.append_assoc];exact h),List.append_assoc];rfl
theorem iT {cs:List (List Int)}(h:cs.length≤1000):N6 [.lst (u8 cs)]=some (.ret (.own (.dct (n8 (n7 1 cs)))) []):=by
 show n3 Z4 1 [false] _=_;have a:ul [.lst (u8 cs)]=some (.own (.dct (n8 (n7 1 cs)))):=by
  show cm _ (some (W.own (.dct (dH (n8 []) (wf 1 (u8 cs))))))=_;rw[qh,ur (n7 1 cs) [] (by rw[List.nil_append];exact aq cs 1),List.nil_append];exact v6 (by rw[ce];omega)
 exact L9 (D3 (E1 (h7 (g4 rfl) j9) rfl a) rfl) rfl
theorem keys_map (T:Tab):((n8 T).map λe=>iP e.1)=(T.map (·.1)).map D.int:=by
 unfold n8;rw[List.map_map,List.map_map];rfl
theorem jB {T:Tab}(hd:(T.map (·.1)).Nodup){kv:Int×List Int}(h:kv∈T):E8 T kv.1=some kv.2:=by
 induction T with
 |nil=>cases h
 |cons t r ih=>
  rw[List.map_cons,List.nodup_cons]at hd;unfold E8 at *;rw[List.find?_cons];rcases List.mem_cons.mp h with rfl|h
  ·simp
  ·have:t.1≠kv.1:=λe=>hd.1 (by rw[e];exact List.mem_map_of_mem h);simp only[decide_eq_false this];exact ih hd.2 h
theorem ou (ts:C3)(k:Int):N1 (.int k) (.dct (l6 ts))=some (.val (.bl (!(k9 ts k).isSome))):=by
 show vB (!(M6 (l6 ts) (.inl k)).isSome)=_;rw[fX];cases k9 ts k<;>rfl
theorem sC {ts:C3}{k l:Int}(h:k9 ts k=some l):x0 (.dct (l6 ts)) (.int k)=some (.val (.int l)):=by
 show(M6 (l6 ts) (.inl k)).map _=_;rw[fX,h];rfl
theorem kz (hs:List Int):V5 [.lst (hs.map D.int)]=some (.val (.int (hs.length:Nat))):=by
 show some (W.val (.int _))=_;rw[List.length_map]
theorem zU (ts:C3):(l6 ts).length=ts.length:=List.length_map _
noncomputable def iZ (T:Tab)(ts rs:C3)(g:Bool)(a b:Option C):k0:=[some (.fz (n8 T)),some (.ow true (.dct (l6 ts))),some (.ow true (.dct (l6 rs))),some (.sh (.bl g)),a,b]
theorem rP {ρ:k0}{i:Nat}{l:Bool}{ts:C3}{k v:Int}(h:ρ[i]?=some (some (.ow l (.dct (l6 ts)))))(a:ts.length≤100000):cY i (.int k) (.int v) ρ=some (.nx (ρ.set i (some (.ow l (.dct (l6 (E5 ts k v))))))):=by
 unfold cY;rw[h];show cm (small (l6 ts).length) (some (SR.nx (ρ.set i (some (.ow l (.dct (putD (l6 ts) (.inl k) (.int v))))))))=_;rw[qa];exact v6 (by unfold small;rw[zU];omega)
theorem en {T:Tab}(o:uj T=true)(hd:(T.map (·.1)).Nodup):∀(U:Tab) (ts rs:C3) (g:Bool) (p j:Option C),(∀kv∈U,kv∈T)→ts.length+U.length≤90000→rs.length+U.length≤90000→
  ∃e f,forL (w6 4) iL ((U.map (·.1)).map D.int) (iZ T ts rs g p j)=some (match M0 ts rs g U with
   | (some k,c,d,m)=>SR.rt (.val (.int k)) (iZ T c d m e f)
   | (none,c,d,m)=>SR.nx (iZ T c d m e f))
 | [],ts,rs,g,p,j,_,_,_=>⟨p,j,rfl⟩
 |kv::U,ts,rs,g,p,j,q,w,y=>by
  rw[List.length_cons]at w y;have t:=q kv List.mem_cons_self;have hl:=jB hd t;have z:=(on o).2 _ t;have A:=fF hl;have B:=mY (ts:=ts) z;have E:=L7 (p7 ts kv.2);have F:=jG (p7 ts kv.2);have ln:=kz (p7 ts kv.2);have s1:o3 5 (o9 [false,false] V8 (f6 (f8 1) (f6 (g9 x0 (f8 0) (f8 4)) i7))) (iZ T ts rs g (some (.sh (.int kv.1))) j)=some (.nx (iZ T ts rs g (some (.sh (.int kv.1))) (some (.ow false (.lst ((p7 ts kv.2).map D.int)))))):=
   u3 (F6 (h7 (g4 rfl) (h7 (j4 (g4 rfl) (g4 rfl) rfl rfl A) j9)) rfl rfl B rfl E) rfl
  have es:M0 ts rs g (kv::U)=match scan1 ts rs g kv.1 (p7 ts kv.2)with|none=>(some kv.1,ts,rs,g) |some (c,d,m)=>M0 c d m U:=rfl
  rw[es];generalize p7 ts kv.2=X at *;have c2:p6 (g9 R8 (f8 5) (O3 i7)) (iZ T ts rs g (some (.sh (.int kv.1))) (some (.ow false (.lst (X.map D.int)))))=some (.ok X.isEmpty (iZ T ts rs g (some (.sh (.int kv.1))) (some (.ow false (.lst (X.map D.int)))))):=p9 (j4 (g4 rfl) (aC j9 rfl (i5 rfl)) rfl rfl F);have i:p6 (g9 R8 (C4 V5 (f6 (f8 5) i7)) (mC (.int 1))) (iZ T ts rs g (some (.sh (.int kv.1))) (some (.ow false (.lst (X.map D.int)))))=some (.ok (decide ((X.length:Int)=1)) (iZ T ts rs g (some (.sh (.int kv.1))) (some (.ow false (.lst (X.map D.int)))))):=p9 (j4 (E1 (h7 (g4 rfl) j9) rfl ln) o6 rfl rfl (eq_int _ _))
  match X,s1,c2,i with
  | [],s1,c2,i=>exact⟨some (.sh (.int kv.1)),some (.ow false (.lst [])),sS rfl (j8 s1 (Z3 (D4 c2 rfl (D3 (g4 rfl) rfl))))⟩
  | [l],s1,c2,i=>
   have G:S6 [.int l]=some (.val (.int (n5 l))):=rfl;have u:∀{ρ:k0},ρ[5]?=some (some (.ow false (.lst [.int l])))→g9 x0 (f8 5) (mC (.int 0)) ρ=some (.ok (.val (.int l)) ρ):=λ{ρ} h=>j4 (g4 h) o6 (show getD (.slot 5) ρ=some (.lst [.int l]) by unfold getD;simp only[h]) rfl rfl;have r:∀{ρ:k0},ρ[5]?=some (some (.ow false (.lst [.int l])))→C4 S6 (f6 (g9 x0 (f8 5) (mC (.int 0))) i7) ρ=some (.ok (.val (.int (n5 l))) ρ):=λ{ρ} h=>E1 (h7 (u h) j9) rfl G;have H:p6 (g9 N1 (C4 S6 (f6 (g9 x0 (f8 5) (mC (.int 0))) i7)) (f8 1)) (iZ T ts rs g (some (.sh (.int kv.1))) (some (.ow false (.lst [.int l]))))=some (.ok (!(k9 ts (n5 l)).isSome) (iZ T ts rs g (some (.sh (.int kv.1))) (some (.ow false (.lst [.int l]))))):=p9 (j4 (r rfl) (g4 rfl) rfl rfl (ou ts (n5 l)));have v:=oJ (c2:=p6 (g9 N1 (C4 S6 (f6 (g9 x0 (f8 5) (mC (.int 0))) i7)) (f8 1))) i H;by_cases hs:(k9 ts (n5 l)).isSome=true
   ·obtain⟨e,f,ih⟩:=en o hd U ts rs g (some (.sh (.int kv.1))) (some (.ow false (.lst [.int l]))) (λx n=>q x (List.mem_cons_of_mem _ n)) (by omega) (by omega);refine⟨e,f,?_⟩;rw[show scan1 ts rs g kv.1 [l]=some (ts,rs,g)from if_pos hs];exact N5 rfl (j8 s1 (j8 (A0 c2 rfl O9) (A0 v (by rw[hs];simp) O9))) ih
   ·have s:(k9 ts (n5 l)).isSome=false:=by simpa using hs
    have L:=dF ts (n5 l) l;have N:=dF rs (n5 l) kv.1;obtain⟨e,f,ih⟩:=en o hd U (E5 ts (n5 l) l) (E5 rs (n5 l) kv.1) true (some (.sh (.int kv.1))) (some (.ow false (.lst [.int l]))) (λx n=>q x (List.mem_cons_of_mem _ n)) (by omega) (by omega);refine⟨e,f,?_⟩;rw[show scan1 ts rs g kv.1 [l]=some (E5 ts (n5 l) l,E5 rs (n5 l) kv.1,true)from if_neg hs];have I:fB 1 (g9 x0 (f8 5) (mC (.int 0))) (C4 S6 (f6 (g9 x0 (f8 5) (mC (.int 0))) i7)) (iZ T ts rs g (some (.sh (.int kv.1))) (some (.ow false (.lst [.int l]))))=some (.nx (iZ T (E5 ts (n5 l) l) rs g (some (.sh (.int kv.1))) (some (.ow false (.lst [.int l]))))):=dS (u rfl) rfl (r rfl) rfl rfl (rP rfl (by omega));have J:fB 2 (f8 4) (C4 S6 (f6 (g9 x0 (f8 5) (mC (.int 0))) i7)) (iZ T (E5 ts (n5 l) l) rs g (some (.sh (.int kv.1))) (some (.ow false (.lst [.int l]))))=some (.nx (iZ T (E5 ts (n5 l) l) (E5 rs (n5 l) kv.1) g (some (.sh (.int kv.1))) (some (.ow false (.lst [.int l]))))):=dS (g4 rfl) rfl (r rfl) rfl rfl (rP rfl (by omega));exact N5 rfl (j8 s1 (j8 (A0 c2 rfl O9) (D4 v (by rw[s];simp) (j8 I (j8 J (u3 o6 rfl)))))) ih
  |a::b::X,s1,c2,i=>
   obtain⟨e,f,ih⟩:=en o hd U ts rs g (some (.sh (.int kv.1))) (some (.ow false (.lst ((a::b::X).map D.int)))) (λx n=>q x (List.mem_cons_of_mem _ n)) (by omega) (by omega);exact⟨e,f,N5 rfl (j8 s1 (j8 (A0 c2 rfl O9) (A0 (uR i (by simp;omega)) rfl O9))) ih⟩
theorem scan_len:∀(U:Tab) (ts rs:C3) (g:Bool),(M0 ts rs g U).2.1.length≤ts.length+U.length∧(M0 ts rs g U).2.2.1.length≤rs.length+U.length
 | [],ts,rs,g=>⟨g8 _,g8 _⟩
 |kv::U,ts,rs,g=>by
  have es:M0 ts rs g (kv::U)=match scan1 ts rs g kv.1 (p7 ts kv.2)with|none=>(some kv.1,ts,rs,g) |some (c,d,e)=>M0 c d e U:=rfl
  rw[es,List.length_cons];generalize p7 ts kv.2=X
  match X with
  | []=>exact⟨by show ts.length≤_;omega,by show rs.length≤_;omega⟩
  | [l]=>
   by_cases hs:(k9 ts (n5 l)).isSome=true
   ·rw[show scan1 ts rs g kv.1 [l]=some (ts,rs,g)from if_pos hs];have:=scan_len U ts rs g;exact⟨by show(M0 ts rs g U).2.1.length≤_;omega,by show(M0 ts rs g U).2.2.1.length≤_;omega⟩
   ·rw[show scan1 ts rs g kv.1 [l]=some (E5 ts (n5 l) l,E5 rs (n5 l) kv.1,true)from if_neg hs];have:=scan_len U (E5 ts (n5 l) l) (E5 rs (n5 l) kv.1) true;have f:=dF ts (n5 l) l;have h:=dF rs (n5 l) kv.1;exact⟨by show(M0 (E5 ts (n5 l) l) (E5 rs (n5 l) kv.1) true U).2.1.length≤_;omega,by show(M0 (E5 ts (n5 l) l) (E5 rs (n5 l) kv.1) true U).2.2.1.length≤_;omega⟩
  |a::b::X=>
   have:=scan_len U ts rs g;exact⟨by show(M0 ts rs g U).2.1.length≤_;omega,by show(M0 ts rs g U).2.2.1.length≤_;omega⟩
theorem iy {T:Tab}(j:uj T=true)(hd:(T.map (·.1)).Nodup):∀(n:Nat) (ts rs:C3) (c d:Option C) (r:Option Int×C3×C3),n≤100→ts.length+600*n≤70000→rs.length+600*n≤70000→Q4 T n ts rs=some r→
  ∃g f i,B4 (V4 (f8 3)) iK (n+1) (iZ T ts rs true c d)=some (match r with
   | (some k,a,b)=>SR.rt (.val (.int k)) (iZ T a b g f i)
   | (none,a,b)=>SR.nx (iZ T a b g f i))
 |0,ts,rs,c,d,r,_,_,_,h=>by cases h
 |n+1,ts,rs,c,d,r,x,y,z,h=>by
  have A:=(on j).1;obtain⟨f,i,m⟩:=en j hd T ts rs false c d (λ_ h=>h) (by omega) (by omega);have sl:=scan_len T ts rs false;have l:V4 (f8 3) (iZ T ts rs true c d)=some (.ok true (iZ T ts rs true c d)):=N8 (g4 rfl) rfl rfl;have s0:o3 3 (mC (.bl false)) (iZ T ts rs true c d)=some (.nx (iZ T ts rs false c d)):=u3 o6 rfl;have o:mP 0 (iZ T ts rs false c d)=some (.ok ((T.map (·.1)).map D.int) (iZ T ts rs false c d)):=by
   rw[←keys_map];exact CK rfl
  have e:=j8 s0 (fI o m);have p:Q4 T (n+1) ts rs=match M0 ts rs false T with
   | (some k,a,b,_)=>some (some k,a,b)
   | (none,a,b,false)=>some (none,a,b)
   | (none,a,b,true)=>Q4 T n a b:=rfl
  rw[p]at h
  match q:M0 ts rs false T,h,e with
  | (some k,a,b,s),h,e=>
   cases h;exact⟨s,f,i,js l e⟩
  | (none,a,b,false),h,e=>
   cases h;exact⟨false,f,i,fW l e (AZ (N8 (g4 rfl) rfl rfl))⟩
  | (none,a,b,true),h,e=>
   rw[q]at sl;have t:a.length≤_:=sl.1;have u:b.length≤_:=sl.2;obtain⟨g,v,w,ih⟩:=iy j hd n a b f i r (by omega) (by omega) (by omega) h;exact⟨g,v,w,fW l e ih⟩
theorem wW {T:Tab}{ts rs:C3}{r:Option Int×C3×C3}(d:uj T=true)(e:(T.map (·.1)).Nodup)(j:ts.length≤1000)(l:rs.length≤1000)(h:Q4 T 99 ts rs=some r):ab [.dct (n8 T),.dct (l6 ts),.dct (l6 rs)]=some (.ret (.val (vY r.1)) [.dct (l6 r.2.1),.dct (l6 r.2.2)]):=by
 show iG cO 6 [false,true,true] 0 _=_;have f:=d;have i:=e;obtain⟨g,m,n,a⟩:=iy f i 99 ts rs none none r (by omega) (by omega) (by omega) h;have s1:o3 3 (mC (.bl true)) (zE 0 (A7 6 [false,true,true] [.dct (n8 T),.dct (l6 ts),.dct (l6 rs)]))=some (.nx (iZ T ts rs true none none)):=u3 o6 rfl
 match r,a with
 | (some k,b,c),a=>exact ua (j8 s1 (Z3 a)) rfl
 | (none,b,c),a=>exact ua (j8 s1 (j8 a (D3 o6 rfl))) rfl
theorem bT:∀(a nd:List Int),dH (keyed nd) (keyed a)=keyed (a.foldl P7 nd)
 | [],nd=>rfl
 |k::a,nd=>by
  show dH (putD (keyed nd) (.inl k) (.bl true)) (keyed a)=_;rw[mL,bT a];rfl
theorem cF:∀a:List Int,V0 (a.map λk=>D.tup [.int k,.bl true])=some (keyed a)
 | []=>rfl
 |k::a=>by
  show(pairD (.tup [.int k,.bl true])).bind _=_;show(V0 _).map _=_;rw[cF a];rfl
theorem eB (a:List Int):(keyed a).length=a.length:=List.length_map _
theorem dQ:∀(a nd:List Int),(a.foldl P7 nd).length≤nd.length+a.length
 | [],nd=>g8 _
 |k::a,nd=>by
  have b:=dQ a (P7 nd k);have c:=ee nd k;rw[List.foldl_cons,List.length_cons];omega
theorem rb (c:List Int):(Z8 c).length≤c.length:=by
 have:=dQ (c.map n5) [];rw[List.length_map,List.length_nil,M5]at this;exact this
theorem ra {d:M (List D)}{ρ:k0}{c:List Int}(hi:d ρ=some (.ok (c.map D.int) ρ))(e:c.length≤1000):C4 aE (f6 (B2 d (w6 0) F1 (M7 (f6 (C4 S6 (f6 (f8 0) i7)) (f6 (mC (.bl true)) i7))) 1 []) i7) ρ=some (.ok (.own (.dct (keyed (Z8 c)))) ρ):=by
 have a:y9 (w6 0) F1 (M7 (f6 (C4 S6 (f6 (f8 0) i7)) (f6 (mC (.bl true)) i7))) (X9 1 [] ρ) (c.map D.int)=some (c.map λl=>D.tup [.int (n5 l),.bl true]):=by
  apply cd;intro l _;exact⟨[some (.sh (.int l))],.val (.tup [.int (n5 l),.bl true]),[some (.sh (.int l))],[some (.sh (.int l))],rfl,aB (h7 (E1 (h7 (g4 rfl) j9) rfl rfl) (h7 o6 j9)) rfl (i5 rfl),rfl⟩
 have b:(c.map λl=>D.tup [.int (n5 l),.bl true]).all U5=true:=by
  rw[List.all_map,List.all_eq_true];intro x _;rfl
 have m:=bf (own:=1) (fr:=[]) hi (p5 (by rw[List.length_map];omega)) a (.inl b);have hd:aE [.lst (c.map λl=>D.tup [.int (n5 l),.bl true])]=some (.own (.dct (keyed (Z8 c)))):=by
  show(V0 _).map _=_;rw[show(c.map λl=>D.tup [.int (n5 l),.bl true])=(c.map n5).map (λk=>D.tup [.int k,.bl true]) by rw[List.map_map];rfl,cF];show some (W.own (.dct (dH (keyed []) (keyed (c.map n5)))))=_;rw[bT];rfl
 exact E1 (h7 m j9) rfl hd
theorem in_keyed (nd:List Int)(k:Int):inD (.int k) (.dct (keyed nd))=some (.val (.bl (decide (k∈nd)))):=by
 show vB (M6 (keyed nd) (.inl k)).isSome=_;rw[mw];rfl
theorem xN (a:List Int)(l:Int):(a++[l]).map D.int=a.map D.int++[D.int l]:=by simp
noncomputable def uy (T:Tab)(ch:List Int)(ts rs:C3)(k:Int)(nd hs:List Int)(a:Option C):k0:=[some (.sh (.dct (n8 T))),some (.sh (.lst (ch.map D.int))),some (.sh (.dct (l6 ts))),some (.sh (.dct (l6 rs))),some (.sh (.int k)),some (.ow false (.dct (keyed nd))),some (.ow false (.lst (hs.map D.int))),a,none]
theorem ir {T:Tab}{ch:List Int}{ts rs:C3}{k:Int}(e:∀kv∈T,kv.2.length≤100):∀(xs hs nd:List Int) (d:Option C) (r:List Int×List Int),hs.length+xs.length≤1000→nd.length+100*xs.length≤90000→U1 T rs xs hs nd=some r→
  ∃b,forL (w6 7) gG (xs.map D.int) (uy T ch ts rs k nd hs d)=some (.nx (uy T ch ts rs k r.2 r.1 b))
 | [],hs,nd,d,r,_,_,h=>by cases h;exact⟨d,rfl⟩
 |x::xs,hs,nd,d,r,l,m,h=>by
  rw[List.length_cons]at l m;have n:p6 (g9 inD (f8 7) (f8 5)) (uy T ch ts rs k nd hs (some (.sh (.int x))))=some (.ok (decide (x∈nd)) (uy T ch ts rs k nd hs (some (.sh (.int x))))):=p9 (j4 (g4 rfl) (g4 rfl) rfl rfl (in_keyed nd x));have o:p6 (g9 inD (f8 7) (f8 3)) (uy T ch ts rs k nd hs (some (.sh (.int x))))=some (.ok (k9 rs x).isSome (uy T ch ts rs k nd hs (some (.sh (.int x))))):=p9 (j4 (g4 rfl) (g4 rfl) rfl rfl (sI rs x));have g:=oJ n o;have p:U1 T rs (x::xs) hs nd=if x∈nd∧(k9 rs x).isSome=true then(E8 T ((k9 rs x).getD 0)).bind λc=>U1 T rs xs (hs++[(k9 rs x).getD 0]) ((Z8 c).foldl P7 nd)else U1 T rs xs hs nd:=rfl
  rw[p]at h;by_cases a:x∈nd∧(k9 rs x).isSome=true
  ·rw[if_pos a]at h;obtain⟨q,f⟩:=A1.mp a.2;rw[f]at h;have h:(E8 T q).bind (λc=>U1 T rs xs (hs++[q]) ((Z8 c).foldl P7 nd))=some r:=h;obtain⟨c,i,h⟩:=A9.mp h;have cl:=e _ (y0 i);have cl:c.length≤100:=cl;have t:=rb c;have u:=dQ (Z8 c) nd;obtain⟨b,ih⟩:=ir e (ch:=ch) (ts:=ts) (k:=k) xs (hs++[q]) ((Z8 c).foldl P7 nd) (some (.sh (.int x))) r (by rw[List.length_append,List.length_singleton];omega) (by omega) h;refine⟨b,N5 rfl (D4 g (by rw[decide_eq_true a.1,a.2];rfl) (j8 (ρ1:=uy T ch ts rs k nd (hs++[q]) (some (.sh (.int x)))) ?_ ?_)) ih⟩
   ·refine cN rfl (h7 (j4 (g4 rfl) (g4 rfl) rfl rfl (sC f)) j9) rfl rfl (p5 (by rw[List.length_map];omega)) ?_;unfold uy;rw[xN];rfl
   ·refine nc rfl (h7 (ra (c:=c) (F5 (j4 (g4 rfl) (j4 (g4 rfl) (g4 rfl) rfl rfl (sC f)) rfl rfl (fF i)) rfl rfl) (by omega)) j9) rfl rfl (p5 (by rw[eB,eB];omega)) ?_;rw[bT];rfl
  ·rw[if_neg a]at h;obtain⟨b,ih⟩:=ir e (ch:=ch) (ts:=ts) (k:=k) xs hs nd (some (.sh (.int x))) r (by omega) (by omega) h;refine⟨b,N5 rfl (A0 g ?_ O9) ih⟩;by_cases j:x∈nd
   ·have:(k9 rs x).isSome=false:=by
     cases s:(k9 rs x).isSome with
     |false=>rfl
     |true=>exact absurd ⟨j,s⟩ a
    rw[this,fQ]
   ·rw[decide_eq_false j,bL]
theorem gV {T:Tab}{rs:C3}:∀(xs hs nd:List Int) (r:List Int×List Int),U1 T rs xs hs nd=some r→r.1.length≤hs.length+xs.length
 | [],hs,nd,r,h=>by cases h;exact g8 _
 |x::xs,hs,nd,r,h=>by
  have a:U1 T rs (x::xs) hs nd=if x∈nd∧(k9 rs x).isSome=true then(E8 T ((k9 rs x).getD 0)).bind λc=>U1 T rs xs (hs++[(k9 rs x).getD 0]) ((Z8 c).foldl P7 nd)else U1 T rs xs hs nd:=rfl
  rw[a]at h;rw[List.length_cons];split at h
  ·obtain⟨c,b,h⟩:=A9.mp h;have:=gV xs _ _ r h;rw[List.length_append,List.length_singleton]at this;omega
  ·have:=gV xs _ _ r h;omega
theorem wt (ts:C3):dM [.dct (l6 ts)]=some (.own (.lst ((ts.map (·.1)).map D.int))):=by
 show some (W.own (.lst ((l6 ts).map λe=>iP e.1)))=_;unfold l6;rw[List.map_map,List.map_map];rfl
theorem sV {T:Tab}{ch:List Int}{ts rs:C3}{k:Int}{r:List Int×List Int}(u:uj T=true)(v:ch.length≤1000)(w:ts.length≤20)(x:rs.length≤1000)(i:(T.all λkv=>decide (kv.2.length≤100))=true)(h:bF T ch ts rs k=some r):
  az [.dct (n8 T),.lst (ch.map D.int),.dct (l6 ts),.dct (l6 rs),.int k]=some (.ret (.val (o8 (((T.length+1:Nat):Int),r.1,r.2))) []):=by
 show n3 bg 9 [false,false,false,false,false] _=_;have j:=i;have b:=h;have d:∀kv∈T,kv.2.length≤100:=λkv m=>of_decide_eq_true (List.all_eq_true.mp j kv m);obtain⟨c,e,b⟩:=A9.mp b;obtain⟨q,f,rfl⟩:=g7.mp b;have cl:c.length≤100:=d _ (y0 e);have y:=rb c;obtain⟨g,n⟩:=ir (ch:=ch) (ts:=ts) (k:=k) d (ts.map (·.1)).reverse [k] (Z8 c) none q (by rw[List.length_reverse,List.length_map,List.length_singleton];omega) (by rw[List.length_reverse,List.length_map];omega) f;have bl:=gV _ _ _ _ f;rw[List.length_reverse,List.length_map,List.length_singleton]at bl;have s1:o3 5 (C4 aE (f6 (B2 (B1 (g9 x0 (f8 0) (f8 4))) (w6 0) F1 (M7 (f6 (C4 S6 (f6 (f8 0) i7)) (f6 (mC (.bl true)) i7))) 1 []) i7)) (A7 9 [false,false,false,false,false] [.dct (n8 T),.lst (ch.map D.int),.dct (l6 ts),.dct (l6 rs),.int k])=some (.nx [some (.sh (.dct (n8 T))),some (.sh (.lst (ch.map D.int))),some (.sh (.dct (l6 ts))),some (.sh (.dct (l6 rs))),some (.sh (.int k)),some (.ow false (.dct (keyed (Z8 c)))),none,none,none]):=u3 (ra (c:=c) (F5 (j4 (g4 rfl) (g4 rfl) rfl rfl (fF e)) rfl rfl) (by omega)) rfl;have s2:o3 6 (O3 (f6 (f8 4) i7)) [some (.sh (.dct (n8 T))),some (.sh (.lst (ch.map D.int))),some (.sh (.dct (l6 ts))),some (.sh (.dct (l6 rs))),some (.sh (.int k)),some (.ow false (.dct (keyed (Z8 c)))),none,none,none]=some (.nx (uy T ch ts rs k (Z8 c) [k] none)):=u3 (aC (h7 (g4 rfl) j9) rfl (i5 rfl)) rfl;have hr:sx (f6 (C4 dM (f6 (f8 2) i7)) i7) (uy T ch ts rs k (Z8 c) [k] none)=some (.ok ((ts.map (·.1)).reverse.map D.int) (uy T ch ts rs k (Z8 c) [k] none)):=by
  rw[List.map_reverse];exact sX (ρ1:=uy T ch ts rs k (Z8 c) [k] none) (h7 (E1 (h7 (g4 rfl) j9) rfl (wt ts)) j9) rfl
 have a:y9 (w6 0) (p6 (g9 inD (C4 S6 (f6 (f8 0) i7)) (f8 1))) (cZ V1 (f8 0)) [none,some (.sh (.dct (keyed q.2)))] (ch.map D.int)=some ((ch.filter λl=>decide (n5 l∈q.2)).map λl=>D.int (-l)):=by
  apply O5;intro l _;exact turn_if (ρ1:=[some (.sh (.int l)),some (.sh (.dct (keyed q.2)))]) (ρ2:=[some (.sh (.int l)),some (.sh (.dct (keyed q.2)))]) rfl (p9 (j4 (E1 (h7 (g4 rfl) j9) rfl rfl) (g4 rfl) rfl rfl (in_keyed q.2 (n5 l)))) (λ_=>⟨_,_,_,bd (g4 rfl) rfl rfl,rfl⟩)
 rw[show((ch.filter λl=>decide (n5 l∈q.2)).map λl=>D.int (-l))=((ch.filter λl=>decide (n5 l∈q.2)).map λl=>-l).map D.int by rw[List.map_map];rfl]at a;have o:=bf (mi:=B1 (f8 1)) (own:=1) (fr:=[5]) (ρ:=uy T ch ts rs k q.2 q.1 g) (ρ1:=uy T ch ts rs k q.2 q.1 g) (F5 (g4 rfl) rfl rfl) (p5 (by rw[List.length_map];omega)) a (.inl (z8 _));generalize p:(ch.filter λl=>decide (n5 l∈q.2)).map (λl=>-l)=s at *;have ln:V5 [.dct (n8 T)]=some (.val (.int (T.length:Nat))):=by
  show some (W.val (.int ((n8 T).length:Nat)))=_;rw[show(n8 T).length=T.length from List.length_map _]
 have ad:A3 (.int (T.length:Nat)) (.int 1)=some (.val (.int ((T.length+1:Nat):Int))):=by
  show some (W.val (.int _))=_;rw[show((T.length:Nat):Int)+1=((T.length+1:Nat):Int) by omega]
 have t:jt [.lst (q.1.map D.int)]=some (.val (.tup (q.1.reverse.map D.int))):=by
  show some (W.val (.tup (q.1.map D.int).reverse))=_;rw[←List.map_reverse]
 exact L9 (j8 s1 (j8 s2 (j8 (fI hr n) (j8 (u3 o rfl) (D3 (aB (h7 o6 (h7 (j4 (E1 (h7 (g4 rfl) j9) rfl ln) o6 rfl rfl ad) (h7 (E1 (h7 (g4 rfl) j9) rfl rfl) (h7 (E1 (h7 (g4 rfl) j9) rfl t) j9)))) rfl (i5 rfl)) rfl))))) rfl
theorem oK (a:List Int):R8 (.tup (a.map D.int)) (.tup [])=some (.val (.bl a.isEmpty)):=by cases a<;>rfl
theorem ng (d:Int):∀ds:List Int,fJ (.int d) (ds.map D.int)=some (ds.map λx=>decide (x=d))
 | []=>rfl
 |x::xs=>by
  show(match dn 7 (.int x) (.int d),fJ (.int d) (xs.map D.int)with|some a,some b=>some (a::b) |_,_=>none)=_;rw[ng d xs,qL];rfl
theorem kN {d:Int}:∀{ds:List Int},d∈ds→∃j:Nat,V9 (ds.map λx=>decide (x=d))=some j∧ds.take j=ds.takeWhile (λx=>!decide (x=d))
 |x::xs,h=>by
  by_cases e:x=d
  ·refine⟨0,?_,?_⟩
   ·rw[List.map_cons,decide_eq_true e];rfl
   ·rw[List.takeWhile_cons_of_neg (by simp[e])];rfl
  ·have h':d∈xs:=by
    rcases List.mem_cons.mp h with z|z
    ·exact absurd z.symm e
    ·exact z
   obtain⟨j,a,b⟩:=kN h';refine⟨j+1,?_,?_⟩
   ·rw[List.map_cons,decide_eq_false e];show(V9 _).map _=_;rw[a];rfl
   ·rw[List.takeWhile_cons_of_pos (by simp[e]),List.take_succ_cons,b]
theorem zf {ds:List Int}{d:Int}{j:Nat}(h:V9 (ds.map λx=>decide (x=d))=some j):kF (.lst (ds.map D.int)) [.int d]=some (.val (.int (j:Int))):=by
 show(fJ (.int d) (ds.map D.int)).bind _=_;rw[ng];show(V9 _).bind _=_;rw[h];rfl
theorem xQ (hs:List Int)(k:Nat):IZ (.lst (hs.map D.int)) none (some (k:Int))=some (.own (.lst ((hs.take k).map D.int))):=by
 show some (W.own (.lst (cutD _ none (some (k:Int)))))=_;unfold cutD;rw[L3.Ge,List.map_take]
theorem zc {c:List Int}{l:Int}(h:c.getLast?=some l):x0 (.tup (c.map D.int)) (.int (-1))=some (.val (.int l)):=by
 obtain⟨d,rfl⟩:=List.getLast?_eq_some_iff.mp h;rw[xN];show(L2.fN (d.map D.int++[D.int l]) (-1)).map W.val=_;rw[qX];rfl
theorem yG {cs:List (List Int)}{st:List dq}{ch:List Int}(h:Cc cs st ch=true):cs.length≤500∧st.length≤500∧ch.length≤20∧∀c∈cs,c.length≤100:=by
 unfold Cc at h;simp only[k6,decide_eq_true_eq,List.all_eq_true]at h;exact⟨h.1.1,h.1.2.1,h.1.2.2,h.2⟩
theorem ui {cs:List (List Int)}(a:cs.length≤600)(b:∀c∈cs,c.length≤100):uj (n7 1 cs)=true:=by
 unfold uj;rw[k6,bS,List.all_eq_true];refine⟨decide_eq_true a,λkv d=>decide_eq_true ?_⟩;have:=b _ (z9 cs 1 kv d).2.2;omega
theorem Di {cs:List (List Int)}(a:∀c∈cs,c.length≤100):((n7 1 cs).all λkv=>decide (kv.2.length≤100))=true:=List.all_eq_true.mpr λkv b=>decide_eq_true (a _ (z9 cs 1 kv b).2.2)
theorem qF (s:dq):U5 (o8 s)=true:=by
 have a:=af s.2.1;have b:=af s.2.2;have c:(s.2.1.map D.int).all (gR 4)=true:=by rw[List.all_map,List.all_eq_true];intro x _;rfl
 have d:(s.2.2.map D.int).all (gR 4)=true:=by rw[List.all_map,List.all_eq_true];intro x _;rfl
 show(true&&(true&&((s.2.1.map D.int).all (gR 4)&&((s.2.2.map D.int).all (gR 4)&&true))))=true;rw[c,d];rfl
theorem fu:∀(a:List Int) (ts:C3),(a.foldl (λts l=>E5 ts (n5 l) l) ts).length≤ts.length+a.length
 | [],ts=>g8 _
 |l::a,ts=>by
  have b:=fu a (E5 ts (n5 l) l);have c:=dF ts (n5 l) l;rw[List.foldl_cons,List.length_cons];omega
noncomputable def di (v:Int)(cs0 cs:List (List Int))(st:List dq)(ch:List Int)(b c d e f a:Option C):k0:=[some (.sh (.int v)),some (.sh (.lst (u8 cs0))),some (.ow false (.dct (n8 (n7 1 cs)))),some (.ow false (.lst (st.map o8))),some (.ow false (.lst (ch.map D.int))),b,c,d,e,f,a]
theorem mq {v:Int}(a:0≤v)(b:v≤1000){ρ:k0}(h:ρ[0]?=some (some (.sh (.int v)))):X1 ints2 (f6 (mC (.int 1)) (f6 (g9 A3 (f8 0) (mC (.int 1))) i7)) ρ=some (.ok (((List.range v.toNat).map λk=>(1:Int)+((k:Nat):Int)).map D.int) ρ):=by
 have g0:getD (.slot 0) ρ=some (.int v):=by unfold getD;simp only[h]
 have hi:ints2 [.int 1,.int (v+1)]=some (((List.range v.toNat).map λk=>(1:Int)+((k:Nat):Int)).map D.int):=by
  show cm _ (some ((List.range (v+1-1).toNat).map λk=>D.int (1+((k:Nat):Int))))=_;rw[show v+1-1=v by omega,List.map_map];exact v6 ⟨by omega,by omega,by omega,by omega⟩
 exact kP (h7 o6 (h7 (j4 (g4 h) o6 g0 rfl rfl) j9)) rfl hi
theorem xf (ts:C3)(xs:List Int):y9 (w6 0) (p6 (g9 N1 (f8 0) (f8 1))) (f8 0) [none,some (.sh (.dct (l6 ts)))] (xs.map D.int)=some ((xs.filter λx=>!(k9 ts x).isSome).map D.int):=by
 apply O5;intro x _;exact turn_if (ρ1:=[some (.sh (.int x)),some (.sh (.dct (l6 ts)))]) (ρ2:=[some (.sh (.int x)),some (.sh (.dct (l6 ts)))]) rfl (p9 (j4 (g4 rfl) (g4 rfl) rfl rfl (ou ts x))) (λ_=>⟨_,_,_,g4 rfl,rfl⟩)
theorem xc {ts:C3}{xs:List Int}(h:∀x∈xs,(k9 ts x).isSome=true):y9 (w6 0) F1 (g9 x0 (f8 1) (f8 0)) [none,some (.sh (.dct (l6 ts)))] (xs.map D.int)=some ((xs.map λx=>(k9 ts x).getD 0).map D.int):=by
 rw[List.map_map];apply cd;intro x b;obtain⟨q,a⟩:=A1.mp (h x b);refine⟨[some (.sh (.int x)),some (.sh (.dct (l6 ts)))],.val (.int q),[some (.sh (.int x)),some (.sh (.dct (l6 ts)))],[some (.sh (.int x)),some (.sh (.dct (l6 ts)))],rfl,j4 (g4 rfl) (g4 rfl) rfl rfl (sC a),?_⟩;show some (R'.ok (D.int q) _)=some (.ok (D.int ((k9 ts x).getD 0)) _);rw[a];rfl
theorem dC {v:Int}(F:0≤v)(G:v≤1000)(cs0:List (List Int)):∀(n:Nat) (cs:List (List Int)) (st:List dq) (ch:List Int) (H u m i g f:Option C) (r:Option (List Int)×List dq),v5 v n cs st ch=some r→
  ∃a b ρ,B4 (V4 (mC (.bl true))) iM (n+1) (di v cs0 cs st ch H u m i g f)=some (.rt (.val (.tup [HU r.1,.lst (r.2.map o8)])) (a::b::ρ))
 |0,cs,st,ch,H,u,m,i,g,f,r,h=>by cases h
 |n+1,cs,st,ch,H,u,m,i,g,f,r,h=>by
  have eV:v5 v (n+1) cs st ch=if Cc cs st ch=true then match Q4 (n7 1 cs) 99 (B5 ch) []with
   |none=>none
   |some (some k,ts,rs)=>if ts.length≤20∧rs.length≤1000 then match bF (n7 1 cs) ch ts rs k with
    |none=>none
    |some (c,hs)=>match c.getLast? with
     |none=>some (none,st++[(((cs.length+1:Nat):Int),c,hs)])
     |some l=>if -l∈ch then v5 v n (cs++[c]) (st++[(((cs.length+1:Nat):Int),c,hs)]) (ch.takeWhile λx=>!decide (x=-l))else none
    else none
   |some (none,ts,rs)=>match E9 v ts with
    | []=>some (some (jP v ts),[])
    |x::_=>v5 v n cs st (ch++[-x])
   else none:=rfl
  rw[eV]at h;by_cases hok:Cc cs st ch=true
  ·rw[if_pos hok]at h;obtain⟨k1,k2,k3,Y⟩:=yG hok;have Z:=ui (by omega:cs.length≤600) Y;have P:=aq cs 1;have tl:(B5 ch).length≤ch.length:=by
    have:=fu ch [];rw[List.length_nil,M5]at this;exact this
   have I:∀{ρ:k0},V4 (mC (.bl true)) ρ=some (.ok true ρ):=λ{ρ}=>N8 o6 rfl rfl;have J:o3 5 (o9 [false] K7 (f6 (f8 4) i7)) (di v cs0 cs st ch H u m i g f)=some (.nx (di v cs0 cs st ch (some (.ow false (.dct (l6 (B5 ch))))) u m i g f)):=u3 (F6 (h7 (g4 rfl) j9) rfl rfl (mW (by omega)) rfl (by rw[k6];exact⟨ag _,rfl⟩)) rfl;have L:o3 6 iJ (di v cs0 cs st ch (some (.ow false (.dct (l6 (B5 ch))))) u m i g f)=some (.nx (di v cs0 cs st ch (some (.ow false (.dct (l6 (B5 ch))))) (some (.ow false (.dct (l6 [])))) m i g f)):=u3 jE rfl;cases hs:Q4 (n7 1 cs) 99 (B5 ch) []with
   |none=>rw[hs]at h;cases h
   |some q=>
    rw[hs]at h;have fs:=wW Z P (by omega) (by rw[List.length_nil];omega) hs;obtain⟨o,ts,rs⟩:=q;have fq:(dR (.val (vY o))&&([D.dct (l6 ts),D.dct (l6 rs)]).all U4)=true:=by
     rw[k6];refine⟨by cases o<;>rfl,?_⟩;show(U4 _&&(U4 _&&true))=true;rw[ag,ag];rfl
    have N:o3 7 (o9 [false,true,true] ab (f6 (f8 2) (f6 (f8 5) (f6 (f8 6) i7)))) (di v cs0 cs st ch (some (.ow false (.dct (l6 (B5 ch))))) (some (.ow false (.dct (l6 [])))) m i g f)=some (.nx (di v cs0 cs st ch (some (.ow false (.dct (l6 ts)))) (some (.ow false (.dct (l6 rs)))) (some (.sh (vY o))) i g f)):=u3 (F6 (h7 (g4 rfl) (h7 (g4 rfl) (h7 (g4 rfl) j9))) rfl rfl fs rfl fq) rfl;have m8:=bf (mi:=X1 ints2 (f6 (mC (.int 1)) (f6 (g9 A3 (f8 0) (mC (.int 1))) i7))) (own:=1) (fr:=[5]) (mq F G (ρ:=di v cs0 cs st ch (some (.ow false (.dct (l6 ts)))) (some (.ow false (.dct (l6 rs)))) (some (.sh (vY o))) i g f) rfl) (p5 (by rw[List.length_map,List.length_map,List.length_range];omega)) (xf ts _) (.inl (z8 _));have w:o3 8 (B2 (X1 ints2 (f6 (mC (.int 1)) (f6 (g9 A3 (f8 0) (mC (.int 1))) i7))) (w6 0) (p6 (g9 N1 (f8 0) (f8 1))) (f8 0) 1 [5]) (di v cs0 cs st ch (some (.ow false (.dct (l6 ts)))) (some (.ow false (.dct (l6 rs)))) (some (.sh (vY o))) i g f)=some (.nx (di v cs0 cs st ch (some (.ow false (.dct (l6 ts)))) (some (.ow false (.dct (l6 rs)))) (some (.sh (vY o))) (some (.ow false (.lst ((E9 v ts).map D.int)))) g f)):=u3 m8 rfl;cases o with
    |some k=>
     have h:(if ts.length≤20∧rs.length≤1000 then match bF (n7 1 cs) ch ts rs k with
      |none=>none
      |some (c,hs)=>match c.getLast? with
       |none=>some (none,st++[(((cs.length+1:Nat):Int),c,hs)])
       |some l=>if -l∈ch then v5 v n (cs++[c]) (st++[(((cs.length+1:Nat):Int),c,hs)]) (ch.takeWhile λx=>!decide (x=-l))else none
      else none)=some r:=h
     by_cases hl:ts.length≤20∧rs.length≤1000
     ·rw[if_pos hl]at h;cases Q:bF (n7 1 cs) ch ts rs k with
      |none=>rw[Q]at h;cases h
      |some cq=>
       rw[Q]at h;obtain⟨c,p⟩:=cq;have fL:=sV Z (by omega) hl.1 hl.2 (Di Y) Q;rw[bS]at fL;have s:p6 (cZ (λd=>vB (!aw d)) (f8 7)) (di v cs0 cs st ch (some (.ow false (.dct (l6 ts)))) (some (.ow false (.dct (l6 rs)))) (some (.sh (.int k))) (some (.ow false (.lst ((E9 v ts).map D.int)))) g f)=some (.ok true (di v cs0 cs st ch (some (.ow false (.dct (l6 ts)))) (some (.ow false (.dct (l6 rs)))) (some (.sh (.int k))) (some (.ow false (.lst ((E9 v ts).map D.int)))) g f)):=p9 (bd (g4 rfl) rfl rfl);have h:(match c.getLast? with
        |none=>some (none,st++[(((cs.length+1:Nat):Int),c,p)])
        |some l=>if -l∈ch then v5 v n (cs++[c]) (st++[(((cs.length+1:Nat):Int),c,p)]) (ch.takeWhile λx=>!decide (x=-l))else none)=some r:=h
       generalize y:((((cs.length+1:Nat):Int),c,p):dq)=sp at *;have fp:=qF sp;have O:o3 9 (o9 [false,false,false,false,false] az (f6 (f8 2) (f6 (f8 4) (f6 (f8 5) (f6 (f8 6) (f6 (f8 7) i7)))))) (di v cs0 cs st ch (some (.ow false (.dct (l6 ts)))) (some (.ow false (.dct (l6 rs)))) (some (.sh (.int k))) (some (.ow false (.lst ((E9 v ts).map D.int)))) g f)=some (.nx (di v cs0 cs st ch (some (.ow false (.dct (l6 ts)))) (some (.ow false (.dct (l6 rs)))) (some (.sh (.int k))) (some (.ow false (.lst ((E9 v ts).map D.int)))) (some (.sh (o8 sp))) f)):=u3 (F6 (h7 (g4 rfl) (h7 (g4 rfl) (h7 (g4 rfl) (h7 (g4 rfl) (h7 (g4 rfl) j9))))) rfl rfl fL rfl (by rw[k6];exact⟨fp,rfl⟩)) rfl;have i2:x0 (o8 sp) (.int 2)=some (.val (.tup (c.map D.int))):=by rw[←y];rfl
       have i1:x0 (o8 sp) (.int 1)=some (.val (.int ((cs.length+1:Nat):Int))):=by rw[←y];rfl
       have z:o3 10 (g9 x0 (f8 9) (mC (.int 2))) (di v cs0 cs st ch (some (.ow false (.dct (l6 ts)))) (some (.ow false (.dct (l6 rs)))) (some (.sh (.int k))) (some (.ow false (.lst ((E9 v ts).map D.int)))) (some (.sh (o8 sp))) f)=some (.nx (di v cs0 cs st ch (some (.ow false (.dct (l6 ts)))) (some (.ow false (.dct (l6 rs)))) (some (.sh (.int k))) (some (.ow false (.lst ((E9 v ts).map D.int)))) (some (.sh (o8 sp))) (some (.sh (.tup (c.map D.int)))))):=u3 (j4 (g4 rfl) o6 rfl rfl i2) rfl;have A:I0 (C7 3 (f6 (f8 9) i7)) (di v cs0 cs st ch (some (.ow false (.dct (l6 ts)))) (some (.ow false (.dct (l6 rs)))) (some (.sh (.int k))) (some (.ow false (.lst ((E9 v ts).map D.int)))) (some (.sh (o8 sp))) (some (.sh (.tup (c.map D.int)))))=some (.nx (di v cs0 cs (st++[sp]) ch (some (.ow false (.dct (l6 ts)))) (some (.ow false (.dct (l6 rs)))) (some (.sh (.int k))) (some (.ow false (.lst ((E9 v ts).map D.int)))) (some (.sh (o8 sp))) (some (.sh (.tup (c.map D.int)))))):=by
        refine cN rfl (h7 (g4 rfl) j9) rfl rfl (p5 (by rw[List.length_map];omega)) ?_;unfold di;rw[List.map_append];rfl
       have B:p6 (g9 R8 (f8 10) (M7 i7)) (di v cs0 cs (st++[sp]) ch (some (.ow false (.dct (l6 ts)))) (some (.ow false (.dct (l6 rs)))) (some (.sh (.int k))) (some (.ow false (.lst ((E9 v ts).map D.int)))) (some (.sh (o8 sp))) (some (.sh (.tup (c.map D.int)))))=some (.ok c.isEmpty (di v cs0 cs (st++[sp]) ch (some (.ow false (.dct (l6 ts)))) (some (.ow false (.dct (l6 rs)))) (some (.sh (.int k))) (some (.ow false (.lst ((E9 v ts).map D.int)))) (some (.sh (o8 sp))) (some (.sh (.tup (c.map D.int)))))):=p9 (j4 (g4 rfl) (aB j9 rfl (i5 rfl)) rfl rfl (oK c));cases E:c.getLast? with
       |none=>
        rw[E]at h;cases h;have hc:c=[]:=List.getLast?_eq_none_iff.mp E;exact⟨_,_,_,js I (j8 J (j8 L (j8 N (j8 w (D4 s rfl (j8 O (j8 z (j8 A (Z3 (D4 B (by rw[hc];rfl) (D3 (aB (h7 o6 (h7 (g4 rfl) j9)) rfl (i5 rfl)) rfl)))))))))))⟩
       |some l=>
        rw[E]at h;have h:(if -l∈ch then v5 v n (cs++[c]) (st++[sp]) (ch.takeWhile λx=>!decide (x=-l))else none)=some r:=h;by_cases t:-l∈ch
        ·rw[if_pos t]at h;obtain⟨j,j1,j2⟩:=kN t;have Ae:c.isEmpty=false:=by
          cases c with
          |nil=>cases E
          |cons _ _=>rfl
         have R:fB 2 (f8 10) (g9 x0 (f8 9) (mC (.int 1))) (di v cs0 cs (st++[sp]) ch (some (.ow false (.dct (l6 ts)))) (some (.ow false (.dct (l6 rs)))) (some (.sh (.int k))) (some (.ow false (.lst ((E9 v ts).map D.int)))) (some (.sh (o8 sp))) (some (.sh (.tup (c.map D.int)))))=some (.nx (di v cs0 (cs++[c]) (st++[sp]) ch (some (.ow false (.dct (l6 ts)))) (some (.ow false (.dct (l6 rs)))) (some (.sh (.int k))) (some (.ow false (.lst ((E9 v ts).map D.int)))) (some (.sh (o8 sp))) (some (.sh (.tup (c.map D.int)))))):=by
          refine dS (g4 rfl) rfl (j4 (g4 rfl) o6 rfl rfl i1) rfl rfl ?_;have ep:putD (n8 (n7 1 cs)) (.inl ((cs.length+1:Nat):Int)) (.tup (c.map D.int))=n8 (n7 1 (cs++[c])):=by
           rw[ez,nZ (λkv hm e=>by have:=(z9 cs 1 kv hm).2.1;omega)];rw[show((cs.length+1:Nat):Int)=1+(cs.length:Int) by omega]
          show cm (small (n8 (n7 1 cs)).length) (some (SR.nx _))=_;rw[v6 (by show _≤1000000;rw[show(n8 (n7 1 cs)).length=(n7 1 cs).length from List.length_map _,bS];omega)];unfold di;rw[←ep];rfl
         have S:o3 4 (Fs (f8 4) (M.pure none) (ku (GI "list" kF (f8 4) (f6 (cZ V1 (g9 x0 (f8 10) (cZ V1 (mC (.int 1))))) i7)))) (di v cs0 (cs++[c]) (st++[sp]) ch (some (.ow false (.dct (l6 ts)))) (some (.ow false (.dct (l6 rs)))) (some (.sh (.int k))) (some (.ow false (.lst ((E9 v ts).map D.int)))) (some (.sh (o8 sp))) (some (.sh (.tup (c.map D.int)))))=some (.nx (di v cs0 (cs++[c]) (st++[sp]) (ch.takeWhile λx=>!decide (x=-l)) (some (.ow false (.dct (l6 ts)))) (some (.ow false (.dct (l6 rs)))) (some (.sh (.int k))) (some (.ow false (.lst ((E9 v ts).map D.int)))) (some (.sh (o8 sp))) (some (.sh (.tup (c.map D.int)))))):=by
          rw[←j2];exact u3 (DK (g4 rfl) DL (uN (Ij (g4 rfl) rfl rfl (h7 (bd (j4 (g4 rfl) (bd o6 rfl rfl) rfl rfl (zc E)) rfl rfl) j9) rfl rfl (zf j1)) rfl) rfl (xQ ch j)) rfl
         obtain⟨a,b,ρ,ih⟩:=dC F G cs0 n (cs++[c]) (st++[sp]) (ch.takeWhile λx=>!decide (x=-l)) (some (.ow false (.dct (l6 ts)))) (some (.ow false (.dct (l6 rs)))) (some (.sh (.int k))) (some (.ow false (.lst ((E9 v ts).map D.int)))) (some (.sh (o8 sp))) (some (.sh (.tup (c.map D.int)))) r h;exact⟨a,b,ρ,fW I (j8 J (j8 L (j8 N (j8 w (D4 s rfl (j8 O (j8 z (j8 A (j8 (A0 B Ae O9) (j8 R S)))))))))) ih⟩
        ·rw[if_neg t]at h;cases h
     ·rw[if_neg hl]at h;cases h
    |none=>
     have h:(match E9 v ts with
      | []=>some (some (jP v ts),[])
      |x::_=>v5 v n cs st (ch++[-x]))=some r:=h
     have s:p6 (cZ (λd=>vB (!aw d)) (f8 7)) (di v cs0 cs st ch (some (.ow false (.dct (l6 ts)))) (some (.ow false (.dct (l6 rs)))) (some (.sh .v1)) (some (.ow false (.lst ((E9 v ts).map D.int)))) g f)=some (.ok false (di v cs0 cs st ch (some (.ow false (.dct (l6 ts)))) (some (.ow false (.dct (l6 rs)))) (some (.sh .v1)) (some (.ow false (.lst ((E9 v ts).map D.int)))) g f)):=p9 (bd (g4 rfl) rfl rfl);cases T:E9 v ts with
     |nil=>
      rw[T]at h s w;cases h;have all:∀x∈(List.range v.toNat).map (λk=>(1:Int)+((k:Nat):Int)),(k9 ts x).isSome=true:=λx hx=>by
       cases hh:(k9 ts x).isSome with
       |true=>rfl
       |false=>
        have:x∈E9 v ts:=List.mem_filter.mpr ⟨hx,by rw[hh];rfl⟩;rw[T]at this;cases this
      have U:V4 (f8 8) (di v cs0 cs st ch (some (.ow false (.dct (l6 ts)))) (some (.ow false (.dct (l6 rs)))) (some (.sh .v1)) (some (.ow false (.lst []))) g f)=some (.ok false (di v cs0 cs st ch (some (.ow false (.dct (l6 ts)))) (some (.ow false (.dct (l6 rs)))) (some (.sh .v1)) (some (.ow false (.lst []))) g f)):=N8 (g4 rfl) rfl rfl;have m9:=bf (mi:=X1 ints2 (f6 (mC (.int 1)) (f6 (g9 A3 (f8 0) (mC (.int 1))) i7))) (own:=1) (fr:=[5]) (mq F G (ρ:=di v cs0 cs st ch (some (.ow false (.dct (l6 ts)))) (some (.ow false (.dct (l6 rs)))) (some (.sh .v1)) (some (.ow false (.lst []))) g f) rfl) (p5 (by rw[List.length_map,List.length_map,List.length_range];omega)) (xc all) (.inl (z8 _));exact⟨_,_,_,js I (j8 J (j8 L (j8 N (j8 w (A0 s rfl (A0 U rfl (D3 (aB (h7 (E1 (h7 m9 j9) rfl rfl) (h7 (aC j9 rfl (i5 rfl)) j9)) rfl (i5 rfl)) rfl)))))))⟩
     |cons x xs=>
      rw[T]at h s w;have h:v5 v n cs st (ch++[-x])=some r:=h;have U:V4 (f8 8) (di v cs0 cs st ch (some (.ow false (.dct (l6 ts)))) (some (.ow false (.dct (l6 rs)))) (some (.sh .v1)) (some (.ow false (.lst ((x::xs).map D.int)))) g f)=some (.ok true (di v cs0 cs st ch (some (.ow false (.dct (l6 ts)))) (some (.ow false (.dct (l6 rs)))) (some (.sh .v1)) (some (.ow false (.lst ((x::xs).map D.int)))) g f)):=N8 (g4 rfl) rfl rfl;have X:x0 (.lst ((x::xs).map D.int)) (.int 0)=some (.val (.int x)):=by simp[x0,L2.fN,wz]
      have O:I0 (C7 4 (f6 (cZ V1 (g9 x0 (f8 8) (mC (.int 0)))) i7)) (di v cs0 cs st ch (some (.ow false (.dct (l6 ts)))) (some (.ow false (.dct (l6 rs)))) (some (.sh .v1)) (some (.ow false (.lst ((x::xs).map D.int)))) g f)=some (.nx (di v cs0 cs st (ch++[-x]) (some (.ow false (.dct (l6 ts)))) (some (.ow false (.dct (l6 rs)))) (some (.sh .v1)) (some (.ow false (.lst ((x::xs).map D.int)))) g f)):=by
       refine cN rfl (h7 (bd (j4 (g4 rfl) o6 rfl rfl X) rfl rfl) j9) rfl rfl (p5 (by rw[List.length_map];omega)) ?_;unfold di;rw[xN];rfl
      obtain⟨a,b,ρ,ih⟩:=dC F G cs0 n cs st (ch++[-x]) (some (.ow false (.dct (l6 ts)))) (some (.ow false (.dct (l6 rs)))) (some (.sh .v1)) (some (.ow false (.lst ((x::xs).map D.int)))) g f r h;exact⟨a,b,ρ,fW I (j8 J (j8 L (j8 N (j8 w (A0 s rfl (D4 U rfl O)))))) ih⟩
  ·rw[if_neg hok]at h;cases h
theorem rJ {v:Int}{n:Nat}{cs:List (List Int)}{st:List dq}{ch:List Int}{r:Option (List Int)×List dq}(h:v5 v n cs st ch=some r):Cc cs st ch=true:=by
 cases n with
 |zero=>cases h
 |succ n=>
  unfold v5 at h;split at h
  ·assumption
  ·cases h
theorem wX {v:Int}{cs:List (List Int)}{r:Option (List Int)×List dq}(b:0≤v)(c:v≤1000)(h:v5 v 99999 cs [] []=some r):eF [.int v,.lst (u8 cs)]=some (.ret (.val (.tup [HU r.1,.lst (r.2.map o8)])) []):=by
 show n3 cP 11 [false,false] _=_;obtain⟨a,g,ρ,d⟩:=dC b c cs 99999 cs [] [] none none none none none none r h;have ok:=yG (rJ h);have s1:o3 2 (o9 [false] N6 (f6 (f8 1) i7)) (A7 11 [false,false] [.int v,.lst (u8 cs)])=some (.nx [some (.sh (.int v)),some (.sh (.lst (u8 cs))),some (.ow false (.dct (n8 (n7 1 cs)))),none,none,none,none,none,none,none,none]):=by
  refine u3 (F6 (h7 (g4 rfl) j9) rfl rfl (iT (by omega)) rfl ?_) rfl;rw[k6];refine⟨?_,rfl⟩;show(n8 (n7 1 cs)).all (λe=>U5 e.2)=true;unfold n8;rw[List.all_map,List.all_eq_true];intro kv _;exact af kv.2
 have s2:o3 3 (O3 i7) [some (.sh (.int v)),some (.sh (.lst (u8 cs))),some (.ow false (.dct (n8 (n7 1 cs)))),none,none,none,none,none,none,none,none]=some (.nx [some (.sh (.int v)),some (.sh (.lst (u8 cs))),some (.ow false (.dct (n8 (n7 1 cs)))),some (.ow false (.lst [])),none,none,none,none,none,none,none]):=u3 (aC j9 rfl (i5 rfl)) rfl;have f:o3 4 (O3 i7) [some (.sh (.int v)),some (.sh (.lst (u8 cs))),some (.ow false (.dct (n8 (n7 1 cs)))),some (.ow false (.lst [])),none,none,none,none,none,none,none]=some (.nx (di v cs cs [] [] none none none none none none)):=u3 (aC j9 rfl (i5 rfl)) rfl;exact L9 (j8 s1 (j8 s2 (j8 f d))) rfl
theorem pc {a:List Int}{l x:Int}:x∈P7 a l↔x∈a∨x=l:=by
 unfold P7;split
 ·rename_i h;constructor
  ·exact .inl
  ·rintro (h'|rfl)
   ·exact h'
   ·exact h
 ·simp
theorem Dj {c:List Int}{l:Int}(h:c.Nodup):(P7 c l).Nodup:=by
 unfold P7;split
 ·exact h
 ·rename_i f;rw[List.nodup_append];refine⟨h,by simp,λa g b d e=>?_⟩;rw[List.mem_singleton]at d;exact f (by rw[←d,←e];exact g)
theorem cK:∀(a nd:List Int) (x:Int),x∈a.foldl P7 nd↔x∈nd∨x∈a
 | [],nd,x=>by simp
 |k::a,nd,x=>by
  rw[List.foldl_cons,cK a,pc,List.mem_cons];constructor
  ·rintro ((h|h) |h)
   ·exact .inl h
   ·exact .inr (.inl h)
   ·exact .inr (.inr h)
  ·rintro (h|h|h)
   ·exact .inl (.inl h)
   ·exact .inl (.inr h)
   ·exact .inr h
theorem pd {c:List Int}{x:Int}:x∈Z8 c↔∃l∈c,n5 l=x:=by
 unfold Z8;rw[cK,List.mem_map];simp
theorem qg (ts:C3):∀(b a:List Int) (x:Int),x∈b.foldl (Y0 ts) a↔x∈a∨(x∈b∧k9 ts (n5 x)≠some (-x))
 | [],a,x=>by simp
 |l::b,a,x=>by
  rw[List.foldl_cons,qg ts b,List.mem_cons];have e:x∈Y0 ts a l↔x∈a∨(x=l∧k9 ts (n5 x)≠some (-x)):=by
   unfold Y0;split
   ·rename_i h;constructor
    ·exact .inl
    ·rintro (h'| ⟨rfl,h'⟩)
     ·exact h'
     ·exact absurd h h'
   ·rename_i h;rw[pc];constructor
    ·rintro (h'|rfl)
     ·exact .inl h'
     ·exact .inr ⟨rfl,h⟩
    ·rintro (h'| ⟨rfl,_⟩)
     ·exact .inl h'
     ·exact .inr rfl
  rw[e];constructor
  ·rintro ((h| ⟨h,h'⟩) | ⟨h,h'⟩)
   ·exact .inl h
   ·exact .inr ⟨.inl h,h'⟩
   ·exact .inr ⟨.inr h,h'⟩
  ·rintro (h| ⟨h|h,h'⟩)
   ·exact .inl (.inl h)
   ·exact .inl (.inr ⟨h,h'⟩)
   ·exact .inr ⟨h,h'⟩
theorem T3 {ts:C3}{c:List Int}{x:Int}:x∈p7 ts c↔x∈c∧k9 ts (n5 x)≠some (-x):=by
 unfold p7;rw[qg];simp
theorem qf (ts:C3):∀(b a:List Int),a.Nodup→(b.foldl (Y0 ts) a).Nodup
 | [],a,h=>h
 |l::b,a,h=>by
  rw[List.foldl_cons];refine qf ts b _ ?_;unfold Y0;split
  ·exact h
  ·exact Dj h
theorem oj (ts:C3)(c:List Int):(p7 ts c).Nodup:=qf ts c [] List.nodup_nil
theorem dG {x:Int}:∀{X:List Int},X.Nodup→(∀y∈X,y=x)→X=[]∨X=[x]
 | [],_,_=>.inl rfl
 | [a],_,h=>by rw[h a List.mem_cons_self];exact .inr rfl
 |a::b::X,hd,h=>by
  rw[List.nodup_cons]at hd;have c:=h a List.mem_cons_self;have d:=h b (List.mem_cons_of_mem _ List.mem_cons_self);exact absurd (by rw[c,d];exact List.mem_cons_self) hd.1
theorem T4 {ts:C3}{k l:Int}(h:k9 ts k=some l):(k,l)∈ts:=by
 unfold k9 at h;cases e:ts.find? λkv=>decide (kv.1=k)with
 |none=>rw[e]at h;cases h
 |some kv=>
  rw[e]at h;have b:=List.mem_of_find?_eq_some e;have a:=List.find?_some e;simp at a h;rw[←a,←h];exact b
theorem F4 {ts:C3}{k:Int}:k9 ts k=none↔∀kv∈ts,kv.1≠k:=by
 unfold k9;rw[Option.map_eq_none_iff,List.find?_eq_none];simp
theorem gI (ts us:C3)(k:Int):k9 (ts++us) k=(k9 ts k).or (k9 us k):=by
 unfold k9;rw[List.find?_append];cases ts.find? (λkv=>decide (kv.1=k))<;>rfl
theorem gx {ts:C3}{k v:Int}(h:k9 ts k=none):E5 ts k v=ts++[(k,v)]:=by
 unfold E5;rw[if_neg];intro e;obtain⟨x,a,hk⟩:=List.any_eq_true.mp e;exact F4.mp h x a (of_decide_eq_true hk)
theorem eL (x:Int):n5 (-x)=n5 x:=by unfold n5;rw[GS]
inductive Gr (T:Tab) (t0:C3):C3→C3→Prop
 |base:Gr T t0 t0 []
 |step {ts rs:C3} {n l:Int} {c:List Int}:Gr T t0 ts rs→(n,c)∈T→p7 ts c=[l]→k9 ts (n5 l)=none→Gr T t0 (ts++[(n5 l,l)]) (rs++[(n5 l,n)])
section
variable {T:Tab}{t0:C3}
theorem Gr.DB {ts rs:C3}(g:Gr T t0 ts rs):∀kv∈rs,∃l,(kv.1,l)∈ts:=by
 induction g with
 |base=>intro kv h;cases h
 |step _ _ _ _ ih=>
  intro kv h;rcases List.mem_append.mp h with h|h
  ·obtain⟨l,hl⟩:=ih kv h;exact⟨l,List.mem_append_left _ hl⟩
  ·rw[List.mem_singleton]at h;rw[h];exact⟨_,List.mem_append_right _ List.mem_cons_self⟩
theorem Gr.JX {ts rs:C3}(g:Gr T t0 ts rs):ts.length=t0.length+rs.length:=by
 induction g with
 |base=>rfl
 |step _ _ _ _ ih=>rw[List.length_append,List.length_append,ih];rfl
theorem Gr.qv {ts rs:C3}(g:Gr T t0 ts rs){k l:Int}(h:k9 t0 k=some l):k9 ts k=some l:=by
 induction g with
 |base=>exact h
 |step _ _ _ _ ih=>rw[gI,ih];rfl
theorem Gr.put {ts rs:C3}(g:Gr T t0 ts rs){n l:Int}{c:List Int}(b:(n,c)∈T)(d:p7 ts c=[l])(a:k9 ts (n5 l)=none):Gr T t0 (E5 ts (n5 l) l) (E5 rs (n5 l) n):=by
 rw[gx a,gx (F4.mpr λkv h e=>?_)]
 ·exact .step g b d a
 ·obtain⟨q,f⟩:=g.DB kv h;exact F4.mp a _ f e
theorem vM (ts rs:C3)(g:Bool)(kv:Int×List Int)(U:Tab):M0 ts rs g (kv::U)=match scan1 ts rs g kv.1 (p7 ts kv.2)with|none=>(some kv.1,ts,rs,g) |some (a,b,c)=>M0 a b c U:=rfl
structure Mc (T:Tab) (t0 ts rs:C3) (g:Bool) (U:Tab) (z:Option Int×C3×C3×Bool):Prop where
 gr:Gr T t0 z.2.1 z.2.2.1
 cf:∀k,z.1=some k→∃c,(k,c)∈T∧p7 z.2.1 c=[]
 fx:z.1=none→z.2.2.2=false→g=false∧z.2.1=ts∧z.2.2.1=rs∧∀kv∈U,p7 ts kv.2≠[]∧∀l,p7 ts kv.2=[l]→k9 ts (n5 l)≠none
 lt:z.2.2.2=true→g=true∨ts.length<z.2.1.length
 le:ts.length≤z.2.1.length
theorem ju:∀(U:Tab) (ts rs:C3) (g:Bool),Gr T t0 ts rs→(∀kv∈U,kv∈T)→Mc T t0 ts rs g U (M0 ts rs g U)
 | [],ts,rs,g,h,_=>⟨h,λk z=>(by cases z),λ_ z=>⟨z,rfl,rfl,λkv hk=>(by cases hk)⟩,λz=>.inl z,g8 _⟩
 |kv::U,ts,rs,g,h,r=>by
  have s:=r kv List.mem_cons_self;have d:∀x∈U,x∈T:=λx c=>r x (List.mem_cons_of_mem _ c);rw[vM];cases j:p7 ts kv.2 with
  |nil=>exact⟨h,λk z=>⟨kv.2,by cases z;exact s,j⟩,λz=>(by cases z),λz=>.inl z,g8 _⟩
  |cons a X=>
   cases X with
   |nil=>
    cases hs:k9 ts (n5 a)with
    |some q=>
     rw[show scan1 ts rs g kv.1 [a]=some (ts,rs,g)from if_pos (by rw[hs];rfl)];have ih:=ju U ts rs g h d;refine⟨ih.gr,ih.cf,λf i=>?_,ih.lt,ih.le⟩;obtain⟨m,n,o,p⟩:=ih.fx f i;refine⟨m,n,o,λx c=>?_⟩;rcases List.mem_cons.mp c with rfl|c
     ·rw[j];refine⟨by simp,λl e=>?_⟩;cases e;rw[hs];simp
     ·exact p x c
    |none=>
     rw[show scan1 ts rs g kv.1 [a]=some (E5 ts (n5 a) a,E5 rs (n5 a) kv.1,true)from if_neg (by rw[hs];simp)];have ih:=ju U _ _ true (h.put s j hs) d;have hl:(E5 ts (n5 a) a).length=ts.length+1:=by rw[gx hs,List.length_append];rfl
     have le:=ih.le;rw[hl]at le;exact⟨ih.gr,ih.cf,λf i=>(by cases(ih.fx f i).1),λ_=>.inr (by show ts.length<(M0 (E5 ts (n5 a) a) (E5 rs (n5 a) kv.1) true U).2.1.length;omega),by show ts.length≤(M0 (E5 ts (n5 a) a) (E5 rs (n5 a) kv.1) true U).2.1.length;omega⟩
   |cons b X=>
    have ih:=ju U ts rs g h d;refine⟨ih.gr,ih.cf,λf i=>?_,ih.lt,ih.le⟩;obtain⟨m,n,o,p⟩:=ih.fx f i;refine⟨m,n,o,λx c=>?_⟩;rcases List.mem_cons.mp c with rfl|c
    ·rw[j];exact⟨by simp,λl e=>(by cases e)⟩
    ·exact p x c
structure Mb (T:Tab) (t0:C3) (z:Option Int×C3×C3):Prop where
 gr:Gr T t0 z.2.1 z.2.2
 cf:∀k,z.1=some k→∃c,(k,c)∈T∧p7 z.2.1 c=[]
 fx:z.1=none→∀kv∈T,p7 z.2.1 kv.2≠[]∧∀l,p7 z.2.1 kv.2=[l]→k9 z.2.1 (n5 l)≠none
theorem mE {m:Nat}(d:∀ts rs,Gr T t0 ts rs→ts.length≤m):∀(n:Nat) (ts rs:C3),Gr T t0 ts rs→m<n+ts.length→∃z,Q4 T n ts rs=some z∧Mb T t0 z
 |0,ts,rs,h,f=>by have:=d ts rs h;omega
 |n+1,ts,rs,h,f=>by
  have S:=ju T ts rs false h (λ_ h=>h);have e:Q4 T (n+1) ts rs=match M0 ts rs false T with
   | (some k,a,b,_)=>some (some k,a,b)
   | (none,a,b,false)=>some (none,a,b)
   | (none,a,b,true)=>Q4 T n a b:=rfl
  rw[e]
  match i:M0 ts rs false T,S with
  | (some k,a,b,j),S=>exact⟨_,rfl,S.gr,S.cf,λz=>(by cases z)⟩
  | (none,a,b,false),S=>
   obtain⟨_,c,l,g⟩:=S.fx rfl rfl;have c:a=ts:=c;subst c;exact⟨_,rfl,S.gr,λk z=>(by cases z),λ_=>g⟩
  | (none,a,b,true),S=>
   have lt:ts.length<a.length:=by
    rcases S.lt rfl with z|z
    ·cases z
    ·exact z
   exact mE d n a b S.gr (by omega)
end
inductive Pg (T:Tab) (t0:C3):C3→List Int→Prop
 |nil:Pg T t0 t0 []
 |snoc {ts:C3} {hs:List Int} {h l:Int} {c:List Int}:Pg T t0 ts hs→E8 T h=some c→p7 ts c=[l]→k9 ts (n5 l)=none→Pg T t0 (ts++[(n5 l,l)]) (hs++[h])
theorem Pg.len {T:Tab}{t0 ts:C3}{hs:List Int}(g:Pg T t0 ts hs):ts.length=t0.length+hs.length:=by
 induction g with
 |nil=>rfl
 |snoc _ _ _ _ ih=>rw[List.length_append,List.length_append,ih];rfl
noncomputable abbrev P5 (ch:List Int):C3:=ch.map λl=>(n5 l,l)
abbrev Uq (ts:C3):Prop:=∀k l a,(k,l)∈ts→(k,a)∈ts→l=a
theorem Gr.uq {T:Tab}{t0 ts rs:C3}(f:Uq t0)(g:Gr T t0 ts rs):Uq ts:=by
 induction g with
 |base=>exact f
 | @step ts rs n l c g j m i ih=>
  have no:∀k q,(k,q)∈ts→k≠n5 l:=λk q h=>F4.mp i _ h;intro k a b d e;rcases List.mem_append.mp d with d|d<;>rcases List.mem_append.mp e with e|e
  ·exact ih k a b d e
  ·rw[List.mem_singleton]at e;cases e;exact absurd rfl (no _ _ d)
  ·rw[List.mem_singleton]at d;cases d;exact absurd rfl (no _ _ e)
  ·rw[List.mem_singleton]at d e;cases d;cases e;rfl
theorem bm {D:List Int}{k q:Int}(h:(k,q)∈P5 D):q∈D∧n5 q=k:=by
 obtain⟨x,a,e⟩:=List.mem_map.mp h;cases e;exact⟨a,rfl⟩
theorem gU {D:List Int}{ts:C3}(a:∀l∈D,(n5 l,l)∈ts)(uq:Uq ts){l:Int}(hl:l∈D):k9 (P5 D) (n5 l)=some l:=by
 cases e:k9 (P5 D) (n5 l)with
 |none=>exact absurd rfl (F4.mp e _ (List.mem_map_of_mem hl))
 |some q=>
  obtain⟨b,c⟩:=bm (T4 e);have z:=a q b;rw[c]at z;rw[uq _ _ _ z (a l hl)]
theorem ny (T:Tab)(rs:C3)(x:Int)(xs hs nd:List Int):U1 T rs (x::xs) hs nd=if x∈nd∧(k9 rs x).isSome=true then(E8 T ((k9 rs x).getD 0)).bind λc=>U1 T rs xs (hs++[(k9 rs x).getD 0]) ((Z8 c).foldl P7 nd)else U1 T rs xs hs nd:=rfl
theorem xm {T:Tab}{rs:C3}{xs:List Int}(hs nd:List Int)(h:∀x∈xs,k9 rs x=none):U1 T rs xs hs nd=some (hs,nd):=by
 induction xs with
 |nil=>rfl
 |cons x xs ih=>
  rw[ny,if_neg (by rw[h x List.mem_cons_self];exact λz=>D5 z.2)];exact ih λy a=>h y (List.mem_cons_of_mem _ a)
structure Bk (T:Tab) (ch:List Int) (ts:C3) (nd0 hs nd D:List Int):Prop where
 sub:∀x∈nd0,x∈nd
 key:∀x∈nd,x∈nd0∨∃l,(x,l)∈ts
 go:Pg T (P5 (ch.filter λl=>decide (n5 l∈nd))) (P5 D) hs.reverse
 all:∀kv∈ts,kv.1∈nd→kv.2∈D
 tru:∀l∈D,(n5 l,l)∈ts
theorem xl {T:Tab}{ch:List Int}(r:(T.map (·.1)).Nodup)(E:Uq (P5 ch)){ts rs:C3}(g:Gr T (P5 ch) ts rs):∀(b:C3),(∀kv∈ts,k9 b kv.1=k9 rs kv.1)→∀(a nd0:List Int),∃hs nd D,U1 T b (ts.map (·.1)).reverse a nd0=some (a++hs,nd)∧Bk T ch ts nd0 hs nd D:=by
 induction g with
 |base=>
  intro b m a nd0;refine⟨[],nd0,ch.filter λl=>decide (n5 l∈nd0),?_,λ_ h=>h,λ_ h=>.inl h,.nil,λkv hk h=>?_,λl hl=>?_⟩
  ·rw[List.append_nil];refine xm a nd0 λx f=>?_;rw[List.mem_reverse]at f;obtain⟨kv,hk,rfl⟩:=List.mem_map.mp f;exact m kv hk
  ·obtain⟨l,hl,rfl⟩:=List.mem_map.mp hk;exact List.mem_filter.mpr ⟨hl,decide_eq_true h⟩
  ·exact List.mem_map.mpr ⟨l,(List.mem_filter.mp hl).1,rfl⟩
 | @step ts rs n l c g F u o ih=>
  intro b m a nd0;have hr:k9 rs (n5 l)=none:=F4.mpr λkv h e=>by
   obtain⟨q,G⟩:=g.DB kv h;exact F4.mp o _ G e
  have j:k9 b (n5 l)=some n:=by
   rw[m (n5 l,l) (List.mem_append_right _ List.mem_cons_self),gI,hr];show k9 [(n5 l,n)] (n5 l)=_;unfold k9;rw[List.find?_cons_of_pos (by exact decide_eq_true rfl)];rfl
  have k:∀kv∈ts,k9 b kv.1=k9 rs kv.1:=λkv hk=>by
   rw[m kv (List.mem_append_left _ hk),gI];have:k9 [(n5 l,n)] kv.1=none:=F4.mpr λx f=>by
    rw[List.mem_singleton]at f;rw[f];exact λz=>F4.mp o kv hk z.symm
   rw[this];cases k9 rs kv.1<;>rfl
  have v:E8 T n=some c:=jB r F;have uq:=g.uq E;have i:∀y∈c,y=l∨k9 ts (n5 y)=some (-y):=λy d=>by
   by_cases z:k9 ts (n5 y)=some (-y)
   ·exact .inr z
   ·have:y∈p7 ts c:=T3.mpr ⟨d,z⟩;rw[u,List.mem_singleton]at this;exact .inl this
  have H:l∈c:=(T3.mp (by rw[u];exact List.mem_cons_self)).1;have I:((ts++[(n5 l,l)]).map (·.1)).reverse=n5 l::(ts.map (·.1)).reverse:=by rw[List.map_append,List.reverse_append];rfl
  rw[I,ny];by_cases f:n5 l∈nd0
  ·rw[if_pos ⟨f,by rw[j];rfl⟩,j];show∃hs nd D,(E8 T n).bind (λc=>U1 T b (ts.map (·.1)).reverse (a++[n]) ((Z8 c).foldl P7 nd0))=some (a++hs,nd)∧_;rw[v];obtain⟨hs,nd,D,s,B⟩:=ih b k (a++[n]) ((Z8 c).foldl P7 nd0);have t:∀y∈c,n5 y∈nd:=λy d=>B.sub _ ((cK _ _ _).mpr (.inr (pd.mpr ⟨y,d,rfl⟩)));have w:k9 (P5 D) (n5 l)=none:=F4.mpr λkv hk e=>by
    obtain⟨J,L⟩:=bm (show(kv.1,kv.2)∈P5 D from hk);exact F4.mp o _ (B.tru _ J) (L.trans e)
   have N:p7 (P5 D) c=[l]:=by
    have O:∀y∈p7 (P5 D) c,y=l:=λy d=>by
     obtain⟨p,P⟩:=T3.mp d;rcases i y p with e|e
     ·exact e
     ·have:=gU B.tru uq (B.all _ (T4 e) (t y p));rw[eL]at this;exact absurd this P
    have A:l∈p7 (P5 D) c:=T3.mpr ⟨H,by rw[w];exact λz=>nomatch z⟩;rcases dG (oj (P5 D) c) O with e|e
    ·rw[e]at A;cases A
    ·exact e
   refine⟨n::hs,nd,D++[l],by rw[show a++n::hs=a++[n]++hs by rw[List.append_assoc];rfl];exact s,λx h=>B.sub x ((cK _ _ _).mpr (.inl h)),λx h=>?_,?_,λkv hk h=>?_,λy d=>?_⟩
   ·rcases B.key x h with h| ⟨q,h⟩
    ·rcases(cK _ _ _).mp h with h|h
     ·exact .inl h
     ·obtain⟨y,p,rfl⟩:=pd.mp h;rcases i y p with e|e
      ·rw[e];exact .inr ⟨l,List.mem_append_right _ List.mem_cons_self⟩
      ·exact .inr ⟨-y,List.mem_append_left _ (T4 e)⟩
    ·exact .inr ⟨q,List.mem_append_left _ h⟩
   ·rw[List.reverse_cons,show P5 (D++[l])=P5 D++[(n5 l,l)]from List.map_append];exact B.go.snoc v N w
   ·rcases List.mem_append.mp hk with hk|hk
    ·exact List.mem_append_left _ (B.all kv hk h)
    ·rw[List.mem_singleton]at hk;rw[hk];exact List.mem_append_right _ List.mem_cons_self
   ·rcases List.mem_append.mp d with d|d
    ·exact List.mem_append_left _ (B.tru y d)
    ·rw[List.mem_singleton]at d;rw[d];exact List.mem_append_right _ List.mem_cons_self
  ·rw[if_neg (λz=>f z.1)];obtain⟨hs,nd,D,s,B⟩:=ih b k a nd0;refine⟨hs,nd,D,s,B.sub,λx h=>?_,B.go,λkv hk h=>?_,λy d=>List.mem_append_left _ (B.tru y d)⟩
   ·rcases B.key x h with h| ⟨q,h⟩
    ·exact .inl h
    ·exact .inr ⟨q,List.mem_append_left _ h⟩
   ·rcases List.mem_append.mp hk with hk|hk
    ·exact B.all kv hk h
    ·rw[List.mem_singleton]at hk;subst hk;rcases B.key _ h with h| ⟨q,h⟩
     ·exact absurd h f
     ·exact absurd rfl (F4.mp o _ h)
def Ay (T:Tab)(c hs:List Int):Prop:=∃a k ts d,hs=a++[k]∧Pg T (B5 (c.map λl=>-l)) ts a∧E8 T k=some d∧p7 ts d=[]
structure Md (T:Tab) (ch C hs:List Int):Prop where
 sub:∀l∈C,-l∈ch
 len:C.length≤ch.length
 go:Ay T C hs
theorem cu:∀(ch:List Int) (ts:C3),(ch.map n5).Nodup→(∀l∈ch,k9 ts (n5 l)=none)→ch.foldl (λts l=>E5 ts (n5 l) l) ts=ts++P5 ch
 | [],ts,_,_=>(List.append_nil _).symm
 |l::ch,ts,hd,h=>by
  rw[List.map_cons,List.nodup_cons]at hd;rw[List.foldl_cons,gx (h l List.mem_cons_self),cu ch _ hd.2 λx a=>?_]
  ·rw[List.append_assoc];rfl
  ·rw[gI,h x (List.mem_cons_of_mem _ a)];show k9 [(n5 l,l)] (n5 x)=none;refine F4.mpr λkv hk=>?_;rw[List.mem_singleton]at hk;rw[hk];exact λz=>hd.1 (by show n5 l∈_;rw[show n5 l=n5 x from z];exact List.mem_map_of_mem a)
theorem ql (F:List Int):(F.map λl=>-l).map (λl=>-l)=F:=by
 rw[List.map_map]
 conv=>rhs;rw[←List.map_id F]
 exact List.map_congr_left λx _=>mj x
theorem yT {T:Tab}{ch:List Int}(b:(T.map (·.1)).Nodup)(c:(ch.map n5).Nodup)(d:Uq (P5 ch)){ts rs:C3}(g:Gr T (P5 ch) ts rs){k:Int}{a:List Int}(hk:(k,a)∈T)(h:p7 ts a=[]):∃C hs,bF T ch ts rs k=some (C,hs)∧Md T ch C hs:=by
 obtain⟨hs,nd,D,i,B⟩:=xl b d g rs (λ_ _=>rfl) [k] (Z8 a);have e:E8 T k=some a:=jB b hk;refine⟨(ch.filter λl=>decide (n5 l∈nd)).map (λl=>-l),hs.reverse++[k],?_,λl hl=>?_,?_,hs.reverse,k,P5 D,a,rfl,?_,e,?_⟩
 ·unfold bF;rw[e];show(U1 T rs (ts.map (·.1)).reverse [k] (Z8 a)).map _=_;rw[i];show some (_,([k]++hs).reverse)=_;rw[List.reverse_append];rfl
 ·obtain⟨x,j,rfl⟩:=List.mem_map.mp hl;rw[mj];exact(List.mem_filter.mp j).1
 ·rw[List.length_map];exact List.length_filter_le _ _
 ·rw[ql];unfold B5;rw[cu _ [] ((List.filter_sublist.map n5).nodup c) λ_ _=>rfl,List.nil_append];exact B.go
 ·cases m:p7 (P5 D) a with
  |nil=>rfl
  |cons y r=>
   obtain⟨f,n⟩:=T3.mp (show y∈p7 (P5 D) a by rw[m];exact List.mem_cons_self);have z:k9 ts (n5 y)=some (-y):=O7 λz=>by
    have:y∈p7 ts a:=T3.mpr ⟨f,z⟩;rw[h]at this;cases this
   have:=gU B.tru (g.uq d) (B.all _ (T4 z) (B.sub _ (pd.mpr ⟨y,f,rfl⟩)));rw[eL]at this;exact absurd this n
theorem yL:∀(v:Nat) (xs:List Int),xs.Nodup→(∀x∈xs,1≤x∧x≤(v:Int))→xs.length≤v
 |0,xs,_,h=>by
  cases xs with
  |nil=>exact g8 _
  |cons a r=>have:=h a List.mem_cons_self;omega
 |v+1,xs,hd,h=>by
  have ih:=yL v (xs.erase ((v:Int)+1)) (hd.erase _) λx c=>by
   obtain⟨a,b⟩:=(hd.mem_erase_iff).mp c;have:=h x b;omega
  have:=List.length_erase (a:=(v:Int)+1) (l:=xs);split at this<;>omega
structure KO (v:Nat) (ts:C3):Prop where
 nd:(ts.map (·.1)).Nodup
 ok:∀kv∈ts,kv.1=n5 kv.2∧kv.2≠0∧kv.2.natAbs≤v
theorem KO.len {v:Nat}{ts:C3}(h:KO v ts):ts.length≤v:=by
 have:=yL v (ts.map (·.1)) h.nd λx d=>by
  obtain⟨kv,hk,rfl⟩:=List.mem_map.mp d;obtain⟨a,b,c⟩:=h.ok kv hk;rw[a];unfold n5;omega
 rwa[List.length_map]at this
theorem Gr.ko {v:Nat}{T:Tab}{t0 ts rs:C3}(f:∀kv∈T,∀l∈kv.2,l≠0∧l.natAbs≤v)(h:KO v t0)(g:Gr T t0 ts rs):KO v ts:=by
 induction g with
 |base=>exact h
 | @step ts rs n l c g i j k ih=>
  have m:l∈c:=(T3.mp (by rw[j];exact List.mem_cons_self)).1;refine⟨?_,λkv hk=>?_⟩
  ·rw[List.map_append,List.nodup_append];refine⟨ih.nd,by simp,λa o b d e=>?_⟩;obtain⟨kv,hk,rfl⟩:=List.mem_map.mp o;have d:b=n5 l:=by simpa using d
   exact F4.mp k kv hk (by rw[e,d])
  ·rcases List.mem_append.mp hk with hk|hk
   ·exact ih.ok kv hk
   ·rw[List.mem_singleton]at hk;rw[hk];exact⟨rfl,f _ i l m⟩
structure xq (v:Nat) (ch:List Int):Prop where
 nd:(ch.map n5).Nodup
 ok:∀l∈ch,l<0∧l.natAbs≤v
theorem xq.ko {v:Nat}{ch:List Int}(h:xq v ch):KO v (P5 ch):=by
 refine⟨?_,λkv hk=>?_⟩
 ·rw[List.map_map];exact h.nd
 ·obtain⟨l,hl,rfl⟩:=List.mem_map.mp hk;have:=h.ok l hl;exact⟨rfl,by omega,this.2⟩
theorem xq.len {v:Nat}{ch:List Int}(h:xq v ch):ch.length≤v:=by
 have:=h.ko.len;rwa[List.length_map]at this
theorem xq.Eh {v:Nat}{ch:List Int}(h:xq v ch):B5 ch=P5 ch:=by
 unfold B5;rw[cu ch [] h.nd λ_ _=>rfl,List.nil_append]
theorem xq.uq {v:Nat}{ch:List Int}(h:xq v ch):Uq (P5 ch):=λk a b c d=>by
 obtain⟨e,f⟩:=bm c;obtain⟨g,i⟩:=bm d;have:=h.ok a e;have:=h.ok b g;unfold n5 at f i;omega
theorem xq.look {v:Nat}{ch:List Int}(h:xq v ch){l:Int}(hl:l∈ch):k9 (P5 ch) (n5 l)=some l:=gU (λ_ z=>List.mem_map_of_mem z) h.uq hl
theorem as {v:Nat}{x:Int}:x∈(List.range v).map (λk=>(1:Int)+((k:Nat):Int))↔1≤x∧x≤(v:Int):=by
 rw[List.mem_map];constructor
 ·rintro ⟨k,hk,rfl⟩
  have:=List.mem_range.mp hk;omega
 ·rintro ⟨h1,h2⟩
  exact⟨(x-1).toNat,List.mem_range.mpr (by omega),by omega⟩
noncomputable def eZ:List Int→List (List Int)
 | []=>[[]]
 |x::xs=>eZ xs++(eZ xs).map (x::·)
theorem mz:∀xs:List Int,(eZ xs).length=2 ^ xs.length
 | []=>rfl
 |x::xs=>by
  show(eZ xs++(eZ xs).map (x::·)).length=_;rw[List.length_append,List.length_map,mz xs,List.length_cons,jM];omega
theorem mV (p:Int→Bool):∀xs:List Int,xs.filter p∈eZ xs
 | []=>List.mem_cons_self
 |x::xs=>by
  have ih:=mV p xs;show _∈eZ xs++(eZ xs).map (x::·);cases h:p x with
  |true=>rw[List.filter_cons_of_pos h];exact List.mem_append_right _ (List.mem_map_of_mem ih)
  |false=>rw[List.filter_cons_of_neg (by rw[h];simp)];exact List.mem_append_left _ ih
theorem filter_lt {α:Type}{p q:α→Bool}(hi:∀x,q x=true→p x=true){a:α}(b:p a=true)(c:q a=false):∀{l:List α},a∈l→(l.filter q).length<(l.filter p).length
 |x::l,h=>by
  have le:(l.filter q).length≤(l.filter p).length:=by
   rw[←List.countP_eq_length_filter,←List.countP_eq_length_filter];exact List.countP_mono_left λx _=>hi x
  by_cases d:q x=true
  ·rw[List.filter_cons_of_pos d,List.filter_cons_of_pos (hi x d),List.length_cons,List.length_cons];have:a∈l:=by
    rcases List.mem_cons.mp h with z|z
    ·rw[z,d]at c;cases c
    ·exact z
   have:=filter_lt hi b c this;omega
  ·rw[List.filter_cons_of_neg d];by_cases e:p x=true
   ·rw[List.filter_cons_of_pos e,List.length_cons];omega
   ·rw[List.filter_cons_of_neg e];have:a∈l:=by
     rcases List.mem_cons.mp h with z|z
     ·rw[z]at b;exact absurd b e
     ·exact z
    exact filter_lt hi b c this
noncomputable abbrev eW (v:Nat):List Int:=(List.range v).map (λk=>(1:Int)+((k:Nat):Int))
noncomputable def Fo (cs:List (List Int))(S:List Int):Bool:=cs.all λc=>c.any λl=>!decide (l∈S)
noncomputable def mu (v:Nat)(cs:List (List Int)):Nat:=((eZ (eW v)).filter (Fo cs)).length
theorem HS (v:Nat)(cs:List (List Int)):mu v cs≤2 ^ v:=by
 have:=List.length_filter_le (Fo cs) (eZ (eW v));rw[mz,List.length_map,List.length_range]at this;exact this
theorem HR {v:Nat}{cs:List (List Int)}{ch C:List Int}(b:xq v ch)(J:∀c∈cs,∃l∈c,-l∉ch)(d:∀l∈C,-l∈ch):mu v (cs++[C])<mu v cs:=by
 refine filter_lt (p:=Fo cs) (q:=Fo (cs++[C])) (λS h=>?_) (a:=(eW v).filter λx=>decide (x∈C)) ?_ ?_ (mV _ _)
 ·unfold Fo at *;rw[List.all_append,k6]at h;exact h.1
 ·unfold Fo;rw[List.all_eq_true];intro c e;obtain⟨l,f,g⟩:=J c e;refine List.any_eq_true.mpr ⟨l,f,?_⟩;have:l∉(eW v).filter λx=>decide (x∈C):=λz=>g (d l (of_decide_eq_true (List.mem_filter.mp z).2));simp only[decide_eq_false this,pj]
 ·unfold Fo;rw[List.all_append];have:([C].all λc=>c.any λl=>!decide (l∈(eW v).filter λx=>decide (x∈C)))=false:=by
   show((C.any λl=>!decide (l∈(eW v).filter λx=>decide (x∈C)))&&true)=false;rw[Y4,List.any_eq_false];intro l hl;have a:=b.ok _ (d l hl);have:l∈(eW v).filter λx=>decide (x∈C):=List.mem_filter.mpr ⟨as.mpr ⟨by omega,by omega⟩,decide_eq_true hl⟩;rw[decide_eq_true this];simp
  rw[this,fQ]
def LB (v:Nat)(c:List Int):Prop:=(∀l∈c,l.natAbs≤v)∧∀l∈c,-l∉c
inductive gY (v:Nat) (cs0:List (List Int)):List (List Int)→List dq→Prop
 |nil:gY v cs0 cs0 []
 |snoc {cs:List (List Int)} {st:List dq} {c hs:List Int}:gY v cs0 cs st→c≠[]→hs.length≤300→Ay (n7 1 cs) c hs→LB v c→gY v cs0 (cs++[c]) (st++[(((cs.length+1:Nat):Int),c,hs)])
theorem gY.len {v:Nat}{cs0 cs:List (List Int)}{st:List dq}(h:gY v cs0 cs st):cs.length=cs0.length+st.length:=by
 induction h with
 |nil=>rfl
 |snoc _ _ _ _ _ ih=>rw[List.length_append,List.length_append,ih];rfl
theorem gY.Fq {v:Nat}{cs0 cs:List (List Int)}{st:List dq}(h:gY v cs0 cs st){c:List Int}(a:c∈cs0):c∈cs:=by
 induction h with
 |nil=>exact a
 |snoc _ _ _ _ _ ih=>exact List.mem_append_left _ ih
inductive Res (v:Nat) (cs0:List (List Int)):Option (List Int)×List dq→Prop
 |model {f:Nat→Int}:(∀k,k<v→f k=(k:Int)+1∨f k=-((k:Int)+1))→(∀c∈cs0,∃l∈c,l∈(List.range v).map f)→Res v cs0 (some ((List.range v).map f),[])
 |none {cs:List (List Int)} {st:List dq} {hs:List Int}:gY v cs0 cs st→cs.length≤500→(∀c∈cs,c.length≤100)→hs.length≤300→Ay (n7 1 cs) [] hs→Res v cs0 (none,st++[(((cs.length+1:Nat):Int),[],hs)])
structure SI (v:Nat) (cs0 cs:List (List Int)) (st:List dq) (ch:List Int):Prop where
 stp:gY v cs0 cs st
 lit:∀c∈cs,∀l∈c,l≠0∧l.natAbs≤v
 len:∀c∈cs,c.length≤100
 chs:xq v ch
 jj:ch≠[]→∀c∈cs,∃l∈c,-l∉ch
 siz:cs.length+mu v cs≤500
theorem jZ {v:Nat}(w:v≤18){cs0:List (List Int)}:∀(n:Nat) (cs:List (List Int)) (st:List dq) (ch:List Int),SI v cs0 cs st ch→mu v cs*(v+1)+(v-ch.length)<n→∃r,v5 (v:Int) n cs st ch=some r∧Res v cs0 r
 |0,_,_,_,_,h=>absurd h (eU _)
 |n+1,cs,st,ch,I,hn=>by
  have cl:=I.chs.len;have sl:=I.stp.len;have z:=I.siz;have Q:cs.length≤500:=l7 (lD _ _) z;have hok:Cc cs st ch=true:=by
   unfold Cc;rw[k6,List.all_eq_true];exact⟨decide_eq_true ⟨Q,l7 (GC _ _) (sl▸Q),l7 cl (l7 w (by decide))⟩,λc f=>decide_eq_true (I.len c f)⟩
  have t:∀kv∈n7 1 cs,∀l∈kv.2,l≠0∧l.natAbs≤v:=λkv o=>I.lit _ (z9 cs 1 kv o).2.2;have hT:B5 ch=P5 ch:=I.chs.Eh;obtain⟨q,hq,S⟩:=mE (T:=n7 1 cs) (t0:=P5 ch) (m:=v) (λts rs g=>(g.ko t I.chs.ko).len) 99 (P5 ch) [] .base (AX w (k8 (by decide) (lD 99 _)));have R:=aq cs 1;have ev:v5 (v:Int) (n+1) cs st ch=if Cc cs st ch=true then match Q4 (n7 1 cs) 99 (B5 ch) []with
   |none=>none
   |some (some k,ts,rs)=>if ts.length≤20∧rs.length≤1000 then match bF (n7 1 cs) ch ts rs k with
    |none=>none
    |some (c,hs)=>match c.getLast? with
     |none=>some (none,st++[(((cs.length+1:Nat):Int),c,hs)])
     |some l=>if -l∈ch then v5 v n (cs++[c]) (st++[(((cs.length+1:Nat):Int),c,hs)]) (ch.takeWhile λx=>!decide (x=-l))else none
    else none
   |some (none,ts,rs)=>match E9 v ts with
    | []=>some (some (jP v ts),[])
    |x::_=>v5 v n cs st (ch++[-x])
   else none:=rfl
  rw[ev,if_pos hok,hT,hq];obtain⟨qk,ts,rs⟩:=q;have G:Gr (n7 1 cs) (P5 ch) ts rs:=S.gr;have K:=G.ko t I.chs.ko;have tl:=K.len;have rl:=G.JX;cases qk with
  |some k=>
   obtain⟨cc,hk,ho⟩:=S.cf k rfl;obtain⟨C,hs,hL,L⟩:=yT R I.chs.nd I.chs.uq G hk ho;show∃r,(if ts.length≤20∧rs.length≤1000 then match bF (n7 1 cs) ch ts rs k with
    |none=>none
    |some (c,hs)=>match c.getLast? with
     |none=>some (none,st++[(((cs.length+1:Nat):Int),c,hs)])
     |some l=>if -l∈ch then v5 v n (cs++[c]) (st++[(((cs.length+1:Nat):Int),c,hs)]) (ch.takeWhile λx=>!decide (x=-l))else none
    else none)=some r∧_
   have A:hs.length≤300:=by
    have:=hL;unfold bF at this;obtain⟨c1,_,U⟩:=A9.mp this;obtain⟨q2,h3,h4⟩:=g7.mp U;have bl:=gV _ _ _ _ h3;have e:q2.1.reverse=hs:=congrArg MS h4;have X:=congrArg List.length e;rw[List.length_reverse]at X;rw[List.length_reverse,List.length_map,List.length_singleton]at bl;omega
   rw[if_pos ⟨l7 tl (l7 w (by decide)),l7 (GC _ _) (rl▸l7 tl (l7 w (by decide)))⟩,hL];show∃r,(match C.getLast? with
    |none=>some (none,st++[(((cs.length+1:Nat):Int),C,hs)])
    |some l=>if -l∈ch then v5 v n (cs++[C]) (st++[(((cs.length+1:Nat):Int),C,hs)]) (ch.takeWhile λx=>!decide (x=-l))else none)=some r∧_
   cases hg:C.getLast? with
   |none=>
    have hC:C=[]:=List.getLast?_eq_none_iff.mp hg;subst hC;exact⟨_,rfl,.none I.stp Q I.len A L.go⟩
   |some l=>
    have H:l∈C:=List.mem_of_getLast? hg;have hl:=L.sub l H;have Ae:C≠[]:=λe=>by rw[e]at H;cases H
    have B:ch≠[]:=λe=>by rw[e]at hl;cases hl
    have J:=I.jj B;have lt:=HR I.chs J L.sub;show∃r,(if -l∈ch then v5 v n (cs++[C]) (st++[(((cs.length+1:Nat):Int),C,hs)]) (ch.takeWhile λx=>!decide (x=-l))else none)=some r∧_;rw[if_pos hl];have pre:(ch.takeWhile λx=>!decide (x=-l)).Sublist ch:=(List.takeWhile_prefix _).sublist;have a2:=L.len;refine jZ w n (cs++[C]) _ _ ⟨.snoc I.stp Ae A L.go ⟨λx i=>by have:=I.chs.ok _ (L.sub x i);omega,λx i y=>by have:=I.chs.ok _ (L.sub x i);have:=I.chs.ok _ (L.sub _ y);omega⟩,λc f=>?_,λc f=>?_,⟨(pre.map n5).nodup I.chs.nd,λx i=>I.chs.ok x (pre.subset i)⟩,λ_ c f=>?_,?_⟩ ?_
    ·rcases List.mem_append.mp f with f|f
     ·exact I.lit c f
     ·rw[List.mem_singleton]at f;rw[f];intro x i;have:=I.chs.ok _ (L.sub x i);omega
    ·rcases List.mem_append.mp f with f|f
     ·exact I.len c f
     ·rw[List.mem_singleton]at f;rw[f];omega
    ·rcases List.mem_append.mp f with f|f
     ·obtain⟨x,E,N⟩:=J c f;exact⟨x,E,λy=>N (pre.subset y)⟩
     ·rw[List.mem_singleton]at f;rw[f];refine⟨l,H,λy=>?_⟩;have:=List.all_takeWhile (p:=λx=>!decide (x=-l)) (l:=ch);have:=List.all_eq_true.mp this _ y;simp at this
    ·rw[List.length_append,List.length_singleton];omega
    ·have h1:mu v (cs++[C])*(v+1)+(v+1)≤mu v cs*(v+1):=by
      have:=Nat.mul_le_mul_right (v+1) (show mu v (cs++[C])+1≤mu v cs from lt);rw[Nat.add_mul,Nat.one_mul]at this;exact this
     omega
  |none=>
   have fx:=S.fx rfl;have fx:∀kv∈n7 1 cs,p7 ts kv.2≠[]∧∀l,p7 ts kv.2=[l]→k9 ts (n5 l)≠none:=fx;have F:∀c∈cs,∃n,(n,c)∈n7 1 cs:=λc f=>by
    have:∀(ds:List (List Int)) (j:Int),c∈ds→∃n,(n,c)∈n7 j ds:=by
     intro ds;induction ds with
     |nil=>intro j h;cases h
     |cons d ds ih=>
      intro j h;rcases List.mem_cons.mp h with rfl|h
      ·exact⟨j,List.mem_cons_self⟩
      ·obtain⟨m,o⟩:=ih (j+1) h;exact⟨m,List.mem_cons_of_mem _ o⟩
    exact this cs 1 f
   show∃r,(match E9 v ts with
    | []=>some (some (jP v ts),[])
    |x::_=>v5 v n cs st (ch++[-x]))=some r∧_
   cases hf:E9 v ts with
   |nil=>
    have all:∀x:Int,1≤x→x≤(v:Int)→∃l,k9 ts x=some l:=λx h1 U=>by
     cases Y:k9 ts x with
     |some l=>exact⟨l,rfl⟩
     |none=>
      have:x∈E9 v ts:=List.mem_filter.mpr ⟨by rw[G7];exact as.mpr ⟨h1,U⟩,by rw[Y];rfl⟩;rw[hf]at this;cases this
    have key:∀{x l:Int},k9 ts x=some l→x=n5 l:=λh=>(K.ok _ (T4 h)).1;have et:jP (v:Int) ts=(List.range v).map λk=>(k9 ts (1+((k:Nat):Int))).getD 0:=by
     unfold jP;rw[G7,List.map_map];rfl
    refine⟨_,rfl,?_⟩;rw[et];refine .model (λk hk=>?_) λc f=>?_
    ·obtain⟨l,hl⟩:=all (1+(k:Int)) (by omega) (by omega);rw[hl];have:=key hl;unfold n5 at this;show l=_∨l=_;omega
    ·obtain⟨m,o⟩:=F c (I.stp.Fq f);have ne:=(fx _ o).1;obtain⟨y,Z⟩:=List.exists_mem_of_ne_nil _ ne;obtain⟨O,P⟩:=T3.mp Z;have yl:=t _ o y O;obtain⟨l,hl⟩:=all (n5 y) (by unfold n5;omega) (by unfold n5;omega);have e:=key hl;have:l=y:=by
      rw[hl]at P;have:l≠-y:=λz=>P (by rw[z]);unfold n5 at e;omega
     refine⟨y,O,List.mem_map.mpr ⟨y.natAbs-1,List.mem_range.mpr (by omega),?_⟩⟩;have X:(1:Int)+((y.natAbs-1:Nat):Int)=n5 y:=by unfold n5;omega
     rw[X,hl,this];rfl
   |cons x xs=>
    have i:x∈E9 v ts:=by rw[hf];exact List.mem_cons_self
    obtain⟨E,N⟩:=List.mem_filter.mp i;rw[G7]at E;have E:=as.mp E;have xn:k9 ts x=none:=by
     cases Y:k9 ts x with
     |none=>rfl
     |some l=>rw[Y]at N;cases N
    have a0:∀l∈ch,n5 l≠x:=λl hl e=>by
     have:=G.qv (I.chs.look hl);rw[e,xn]at this;cases this
    have s:xq v (ch++[-x]):=by
     refine⟨?_,λl hl=>?_⟩
     ·rw[List.map_append,List.nodup_append];refine⟨I.chs.nd,by simp,λa ha b hb e=>?_⟩;obtain⟨l,hl,rfl⟩:=List.mem_map.mp ha;have hb:b=n5 (-x):=by simpa using hb
      refine a0 l hl ?_;rw[e,hb];unfold n5;omega
     ·rcases List.mem_append.mp hl with hl|hl
      ·exact I.chs.ok l hl
      ·rw[List.mem_singleton]at hl;omega
    have a1:=s.len;rw[List.length_append,List.length_singleton]at a1;show∃r,v5 v n cs st (ch++[-x])=some r∧_;refine jZ w n cs st (ch++[-x]) ⟨I.stp,I.lit,I.len,s,λ_ c f=>?_,I.siz⟩ ?_
    ·apply O7;intro u;have u:∀l∈c,-l∈ch++[-x]:=λl hl=>O7 λz=>u ⟨l,hl,z⟩;obtain⟨m,o⟩:=F c f;obtain⟨f1,f2⟩:=fx _ o;have only:∀y∈p7 ts c,y=x:=λy Z=>by
      obtain⟨O,P⟩:=T3.mp Z;rcases List.mem_append.mp (u y O)with z|z
      ·have:=G.qv (I.chs.look z);rw[eL]at this;exact absurd this P
      ·rw[List.mem_singleton]at z;omega
     rcases dG (oj ts c) only with e|e
     ·exact f1 e
     ·refine f2 x e ?_;rw[show n5 x=x by unfold n5;omega];exact xn
    ·rw[List.length_append,List.length_singleton];omega
theorem pO {v:Nat}{cs0:List (List Int)}(b:v≤10)(hl:∀c∈cs0,∀l∈c,l≠0∧l.natAbs≤v)(a:∀c∈cs0,c.length≤100)(d:cs0.length+2 ^ v≤500):∃r,v5 (v:Int) 99999 cs0 [] []=some r∧Res v cs0 r:=by
 have e:=HS v cs0;refine jZ (by omega) 99999 cs0 [] [] ⟨.nil,hl,a,⟨List.nodup_nil,λl h=>(by cases h)⟩,λh=>absurd rfl h,by omega⟩ ?_;have:mu v cs0*(v+1)≤500*11:=Nat.mul_le_mul (by omega) (by omega);rw[List.length_nil];omega
theorem Fw {p v:Int}(h:0<v):qw p v≠0:=by
 unfold qw;have c:=y8 (p / 2) (b:=v) (by omega);have a:p % 2=0∨p % 2=1:=by omega
 rcases a with a|a<;>rw[a]
 ·omega
 ·intro h;omega
theorem xg {ns:List Int}{b v a:Int}(h:0<v):∀l∈U0 ns b v a,l≠0:=by
 intro l hl;obtain⟨k,_,rfl⟩:=List.mem_map.mp hl;exact Fw h
section
variable {tg:FT}{b:SM}{ρ ρ1 ρ2:k0}{d:D}{P:k0→Prop}
def Tn (tg:FT)(b:SM)(d:D)(ρ:k0)(P:k0→Prop):Prop:=∃ρ1 ρ2,tg d ρ=some ρ1∧b ρ1=some (.nx ρ2)∧P ρ2
theorem tn (a:tg d ρ=some ρ1)(c:b ρ1=some (.nx ρ2))(e:P ρ2):Tn tg b d ρ P:=⟨ρ1,ρ2,a,c,e⟩
theorem Cz {α:Type}{f:α→D}(S:List α→k0→Prop)(xs:List α)(h:∀pre x post ρ,xs=pre++x::post→S pre ρ→Tn tg b (f x) ρ (S (pre++[x])))(c:S [] ρ):∃ρ',forL tg b (xs.map f) ρ=some (.nx ρ')∧S xs ρ':=by
 have key:∀(a pre:List α) (ρ:k0),xs=pre++a→S pre ρ→∃ρ',forL tg b (a.map f) ρ=some (.nx ρ')∧S xs ρ':=by
  intro a;induction a with
  |nil=>intro pre ρ e h;exact⟨ρ,rfl,by rw[e,List.append_nil];exact h⟩
  |cons y a ih=>
   intro pre ρ e hk;obtain⟨ρ1,ρ2,d,g,i⟩:=h pre y a ρ e hk;obtain⟨ρ',j,k⟩:=ih (pre++[y]) ρ2 (by rw[e,List.append_assoc];rfl) i;exact⟨ρ',N5 d g j,k⟩
 exact key xs [] ρ rfl c
theorem sT {f:Nat→D}(S:Nat→k0→Prop)(n:Nat)(h:∀k ρ,k<n→S k ρ→Tn tg b (f k) ρ (S (k+1)))(a:S 0 ρ):∃ρ',forL tg b ((List.range n).map f) ρ=some (.nx ρ')∧S n ρ':=by
 have key:∀(m k:Nat) (ρ:k0),k+m=n→S k ρ→∃ρ',forL tg b ((List.range' k m).map f) ρ=some (.nx ρ')∧S n ρ':=by
  intro m;induction m with
  |zero=>intro k ρ e h;exact⟨ρ,rfl,by rw[←e];exact h⟩
  |succ m ih=>
   intro k ρ e hk;obtain⟨ρ1,ρ2,c,d,g⟩:=h k ρ (by omega) hk;obtain⟨ρ',i,j⟩:=ih (k+1) ρ2 (by omega) g;exact⟨ρ',N5 c d i,j⟩
 rw[List.range_eq_range'];exact key n 0 ρ (by omega) a
def Rt (tg:FT)(b:SM)(d:D)(ρ:k0)(P:W→k0→Prop):Prop:=∃ρ1 w ρ2,tg d ρ=some ρ1∧b ρ1=some (.rt w ρ2)∧P w ρ2
theorem rt {w:W}{P:W→k0→Prop}(a:tg d ρ=some ρ1)(c:b ρ1=some (.rt w ρ2))(e:P w ρ2):Rt tg b d ρ P:=⟨ρ1,w,ρ2,a,c,e⟩
theorem FP {α:Type}{f:α→D}(S:List α→k0→Prop)(R:W→k0→Prop)(xs:List α)(h:∀pre x post ρ,xs=pre++x::post→S pre ρ→Tn tg b (f x) ρ (S (pre++[x]))∨Rt tg b (f x) ρ R)(k:S [] ρ):(∃ρ',forL tg b (xs.map f) ρ=some (.nx ρ')∧S xs ρ')∨∃w ρ',forL tg b (xs.map f) ρ=some (.rt w ρ')∧R w ρ':=by
 have key:∀(a pre:List α) (ρ:k0),xs=pre++a→S pre ρ→(∃ρ',forL tg b (a.map f) ρ=some (.nx ρ')∧S xs ρ')∨∃w ρ',forL tg b (a.map f) ρ=some (.rt w ρ')∧R w ρ':=by
  intro a;induction a with
  |nil=>intro pre ρ e h;exact .inl ⟨ρ,rfl,by rw[e,List.append_nil];exact h⟩
  |cons y a ih=>
   intro pre ρ e hk;rcases h pre y a ρ e hk with⟨ρ1,ρ2,c,d,g⟩ | ⟨ρ1,w,ρ2,c,d,g⟩
   ·rcases ih (pre++[y]) ρ2 (by rw[e,List.append_assoc];rfl) g with⟨ρ',i,j⟩ | ⟨w,ρ',i,j⟩
    ·exact .inl ⟨ρ',N5 c d i,j⟩
    ·exact .inr ⟨w,ρ',N5 c d i,j⟩
   ·exact .inr ⟨w,ρ2,sS c d,g⟩
 exact key xs [] ρ rfl k
end
theorem S4 {tg:FT}{me:M W}{ρ:k0}{α:Type}{f g:α→D}{xs:List α}(h:∀x∈xs,compTurn tg F1 me ρ (f x)=some (some (g x))):y9 tg F1 me ρ (xs.map f)=some (xs.map g):=by
 have:=O5 (tg:=tg) (mt:=F1) (me:=me) (ρ:=ρ) (f:=f) (g:=g) (t:=λ_=>true) h;rw[this,List.filter_eq_self.mpr (λ_ _=>rfl)]
theorem jC {n:Int}(h:n≤100000)(a:-1000≤n):ints1 [.int n]=some ((List.range n.toNat).map λk=>D.int (0+((k:Nat):Int))):=v6 ⟨by omega,by omega⟩
theorem ux (ds:List D):V5 [.lst ds]=some (.val (.int (ds.length:Nat))):=rfl
theorem oA (cs:List (List Int)):V5 [.lst (u8 cs)]=some (.val (.int (cs.length:Nat))):=by rw[ux,ce]
theorem FI (l:Int)(c:List Int):inD (.int l) (.lst (c.map D.int))=some (.val (.bl (decide (l∈c)))):=zg l c
theorem Cf (l:Int)(c:List Int):N1 (.int l) (.lst (c.map D.int))=some (.val (.bl (decide (l∉c)))):=by
 show(kH (.int l) (c.map D.int)).bind _=_;rw[qB];by_cases h:l∈c<;>simp[h,vB]
theorem xD (c:List Int):vD (.lst (c.map D.int))=some (!c.isEmpty):=by cases c<;>rfl
theorem Af (F:List (List Int))(c:List Int):u8 (F++[c])=u8 F++[D.tup (c.map D.int)]:=List.map_append
theorem Be (cs:List (List Int)):vD (.lst (u8 cs))=some (!cs.isEmpty):=by cases cs<;>rfl
theorem yi {cs:List (List Int)}{c:List Int}{n:Int}{i:Nat}{l:Bool}{ρ:k0}(f:cs.length≤1000)(a:n=(cs.length:Int)+1)(h:ρ[i]?=some (some (.ow l (.dct (n8 (n7 1 cs)))))):cY i (.int n) (.tup (c.map D.int)) ρ=some (.nx (ρ.set i (some (.ow l (.dct (n8 (n7 1 (cs++[c])))))))):=by
 have b:putD (n8 (n7 1 cs)) (.inl n) (.tup (c.map D.int))=n8 (n7 1 (cs++[c])):=by
  rw[ez,nZ (λkv d e=>by have:=(z9 cs 1 kv d).2.1;omega),a,JA]
 unfold cY;rw[h];show cm (small (n8 (n7 1 cs)).length) (some (SR.nx (ρ.set i (some (.ow l (.dct (putD (n8 (n7 1 cs)) (.inl n) (.tup (c.map D.int)))))))))=_;rw[b];exact v6 (by show _≤1000000;rw[show(n8 (n7 1 cs)).length=(n7 1 cs).length from List.length_map _,bS];omega)
theorem gN {n:Nat}(h:n≤100000):ints1 [.int (n:Int)]=some ((List.range n).map λk=>D.int (0+((k:Nat):Int))):=by
 have:=jC (n:=(n:Int)) (by omega) (by omega);rwa[G7]at this
theorem Cm {α:Type}(f:α→D)(xs:List α):V5 [.lst (xs.map f)]=some (.val (.int (xs.length:Nat))):=by rw[ux,List.length_map]
theorem zb {α:Type}{f:α→D}{xs:List α}{k:Nat}{x:α}(h:xs[k]?=some x):x0 (.lst (xs.map f)) (.int (k:Int))=some (.val (f x)):=by
 show(L2.fN _ _).map _=_;rw[oY (v:=f x) (by rw[List.getElem?_map,h];rfl)];rfl
theorem Ac (c:List Int):y9 (w6 0) F1 (cZ V1 (f8 0)) [none] (c.map D.int)=some ((c.map λl=>-l).map D.int):=by
 rw[List.map_map];exact cd λl _=>⟨[some (.sh (.int l))],.val (.int (-l)),[some (.sh (.int l))],[some (.sh (.int l))],rfl,bd (g4 rfl) rfl rfl,rfl⟩
theorem ca {c:M (List D)}{tg:FT}{mt:M Bool}{d:M W}{fr:List Nat}{own:Nat}{ds b:List D}{ρ a E:k0}(hi:c ρ=some (.ok ds a))(f:small ds.length)(g:y9 tg mt d E ds=some b)(e:X9 own fr a=E)(h:b.all U5=true∨eQ a fr=[]):B2 c tg mt d own fr ρ=some (.ok (.own (.lst b)) a):=bf hi f (e▸g) h
theorem gT {b:M (List D)}{tg:FT}{s:SM}{ds:List D}{ρ a E:k0}{r:Option SR}(hi:b ρ=some (.ok ds a))(h:forL tg s ds E=r)(e:a=E):V7 b tg s ρ=r:=fI hi (e▸h)
theorem zd {cs:List (List Int)}{k:Nat}{c:List Int}(h:cs[k]?=some c):x0 (.lst (u8 cs)) (.int (k:Int))=some (.val (.tup (c.map D.int))):=zb (f:=λ(c:List Int)=>D.tup (c.map D.int)) h
local macro_rules | `(tactic| walk_at "k")=>`(tactic| first
 | with_reducible rfl
 | with_reducible assumption
 | exact decide_eq_true (by with_reducible assumption)
 | exact decide_eq_false (by with_reducible assumption)
 | exact decide_eq_true (by omega)
 | exact decide_eq_false (by omega)
 | (simp only [*,GT,pj,Y4,fQ,rk,bL,IU,rm,IT,GU,List.isEmpty_cons,List.isEmpty_nil,aO,xt]; done)
 | (simp only [List.length_cons,List.length_nil,List.isEmpty_cons,List.isEmpty_nil,aO,xt,GT,pj]; (first | done | exact decide_eq_true (by omega) | exact decide_eq_false (by omega))))
local macro_rules | `(tactic| walk_at "o")=>`(tactic| first
 | with_reducible assumption
 | with_reducible exact eq_int _ _
 | with_reducible exact zg _ _
 | with_reducible exact FI _ _
 | with_reducible exact Cf _ _
 | with_reducible exact sI _ _
 | with_reducible exact ou _ _
 | with_reducible exact jz _ _
 | with_reducible exact kz _
 | with_reducible exact oA _
 | with_reducible exact jG _
 | with_reducible exact xD _
 | with_reducible exact Be _
 | ((with_reducible apply K6); (first | decide | assumption | omega))
 | ((with_reducible apply jy); (first | exact ⟨by decide,by decide⟩ | assumption | exact ⟨by omega,by omega⟩))
 | ((with_reducible apply ey); (first | exact .inl ⟨by decide,by decide⟩ | exact .inr ⟨by decide,by decide⟩ | exact .inl ⟨by omega,by omega⟩ | exact .inr ⟨by omega,by omega⟩))
 | rfl)
local macro_rules | `(tactic| walk_at "s")=>`(tactic| first
 | with_reducible assumption
 | exact p5 (by (try simp only [List.length_map,List.length_range,List.length_append,ce,List.length_cons,List.length_nil]); omega))
local macro_rules | `(tactic| walk_at "f")=>`(tactic| first
 | with_reducible assumption
 | with_reducible exact sU
 | exact yi (by (try simp only [List.length_take,List.length_append]); omega) (by (try simp only [List.length_take,List.length_append]); omega) rfl)
local macro_rules | `(tactic| walk_at "e")=>`(tactic| first
 | with_reducible exact o6
 | with_reducible exact j9
 | with_reducible exact jE
 | with_reducible exact O9
 | ((with_reducible apply g4); rfl)
 | with_reducible assumption
 | ((with_reducible apply h7); (· walk_at "e"); (· walk_at "e"))
 | ((with_reducible apply j4); (· walk_at "e"); (· walk_at "e"); (· rfl); (· rfl); (· walk_at "o"))
 | ((with_reducible apply bd); (· walk_at "e"); (· rfl); (· walk_at "o"))
 | ((with_reducible apply E1); (· walk_at "e"); (· rfl); (· walk_at "o"))
 | ((with_reducible apply dU); (· walk_at "e"); (· rfl); (· rfl); (· walk_at "f"); (· rfl); (· rfl))
 | ((with_reducible apply F6); (· walk_at "e"); (· rfl); (· rfl); (· walk_at "f"); (· rfl); (· first | with_reducible assumption | rfl))
 | ((with_reducible apply p9); (· walk_at "e"))
 | ((with_reducible apply N8); (· walk_at "e"); (· rfl); (· walk_at "o"))
 | ((with_reducible apply cM); (· walk_at "e"))
 | ((with_reducible apply j8); (· walk_at "e"); (· walk_at "e"))
 | ((with_reducible apply Z3); (· walk_at "e"))
 | ((with_reducible apply u3); (· walk_at "e"); (· rfl))
 | ((with_reducible apply D3); (· walk_at "e"); (· rfl))
 | ((with_reducible apply D4); (· walk_at "e"); (· walk_at "k"); (· walk_at "e"))
 | ((with_reducible apply A0); (· walk_at "e"); (· walk_at "k"); (· walk_at "e"))
 | ((with_reducible apply aC); (· walk_at "e"); (· rfl); (· first | exact i5 rfl | assumption))
 | ((with_reducible apply aB); (· walk_at "e"); (· rfl); (· first | exact i5 rfl | assumption))
 | ((with_reducible apply uR); (· walk_at "e"); (· walk_at "k"))
 | ((with_reducible apply CQ); (· walk_at "e"); (· walk_at "k"); (· walk_at "e"))
 | ((with_reducible apply sY); (· walk_at "e"); (· walk_at "k"))
 | ((with_reducible apply kQ); (· walk_at "e"); (· walk_at "k"); (· walk_at "e"))
 | ((with_reducible apply oJ); (· walk_at "e"); (· walk_at "e"))
 | ((with_reducible apply Ii); (· walk_at "e"); (· walk_at "e"))
 | ((with_reducible apply zO); (· walk_at "e"); (· rfl); (· walk_at "k"); (· walk_at "e"))
 | ((with_reducible apply zP); (· walk_at "e"); (· rfl); (· walk_at "k"))
 | ((with_reducible apply CN); (· walk_at "e"); (· rfl))
 | ((with_reducible apply gT); (· walk_at "e"); (· with_reducible assumption); (· rfl))
 | ((with_reducible apply kP); (· walk_at "e"); (· rfl); (· walk_at "o"))
 | ((with_reducible apply F5); (· walk_at "e"); (· rfl); (· rfl))
 | ((with_reducible apply sX); (· walk_at "e"); (· rfl))
 | ((with_reducible apply ca); (· walk_at "e"); (· walk_at "s"); (· with_reducible assumption); (· rfl); (· first | with_reducible exact .inl (z8 _) | with_reducible exact .inl (bZ _) | with_reducible exact .inl (aA _) | exact .inl (by with_reducible assumption) | exact .inr rfl))
 | ((with_reducible apply dS); (· walk_at "e"); (· rfl); (· walk_at "e"); (· rfl); (· rfl); (· walk_at "f"))
 | ((with_reducible apply uP); (· walk_at "e"); (· rfl); (· walk_at "e"); (· rfl); (· rfl); (· rfl))
 | ((with_reducible apply cN); (· rfl); (· walk_at "e"); (· rfl); (· rfl); (· walk_at "s"); (· rfl))
 | ((with_reducible apply CP); (· rfl); (· walk_at "e"); (· rfl); (· rfl); (· rfl); (· walk_at "s"); (· first | assumption | omega); (· omega); (· rfl))
 | ((with_reducible apply be); (· walk_at "e"))
 | with_reducible exact DL
 | ((with_reducible apply uN); (· walk_at "e"); (· rfl))
 | ((with_reducible apply DK); (· walk_at "e"); (· walk_at "e"); (· walk_at "e"); (· rfl); (· walk_at "o"))
 | ((with_reducible apply zN); (· rfl); (· walk_at "e"); (· rfl); (· rfl); (· rfl)))
local macro_rules | `(tactic| walk_at "r")=>`(tactic| (refine' L9 ?h ?o; (case h=>walk_at "e"); (case o=>rfl)))
local macro_rules | `(tactic| walk_at "d")=>`(tactic| ((with_reducible apply jO); (· rfl); (· rfl); (· walk_at "e"); (· rfl)))
local macro_rules | `(tactic| walk_at "c")=>`(tactic| (refine S4 fun _ _=>?_; walk_at "d"))
local macro_rules | `(tactic| walk_at "t")=>`(tactic| (apply tn; (· rfl); (· walk_at "e")))
local macro_rules | `(tactic| walk_at "u")=>`(tactic| (apply rt; (· rfl); (· walk_at "e")))
noncomputable def EG (j:Int):Int:=if j=0 then 1 else if j=1 then 2 else if j=2 then 4 else if j=3 then 8 else 16
noncomputable def lW (v:Int):Nat:=if v=1 then 2 else if v=2 then 4 else if v=3 then 8 else 16
noncomputable def Fp (v n:Int)(k:Nat):Int:=((k:Int)+1)*(2*(n / EG (v-1-k) % 2)-1)
noncomputable def V2 (v n:Int):List Int:=(List.range v.toNat).map (Fp v n)
noncomputable def vN (cs:List (List Int))(M:List Int):Bool:=cs.all λc=>qY c M
noncomputable def eA (v:Int)(cs:List (List Int)):List (List Int):=((List.range (lW v)).map λ(n:Nat)=>V2 v (n:Int)).filter (vN cs)
theorem DE {j:Int}(a:0≤j)(b:j<5):x0 (.lst [.int 1,.int 2,.int 4,.int 8,.int 16]) (.int j)=some (.val (.int (EG j))):=by
 have:j=0∨j=1∨j=2∨j=3∨j=4:=by omega
 rcases this with rfl|rfl|rfl|rfl|rfl<;>rfl
theorem yh (j:Int):rh n (EG j):=by
 unfold EG rh;split<;>(try split)<;>(try split)<;>(try split)<;>omega
theorem Gg {v:Int}(a:0<v)(b:v≤4):x0 (.lst [.int 1,.int 2,.int 4,.int 8,.int 16,.int 32]) (.int v)=some (.val (.int (lW v:Nat))):=by
 have:v=1∨v=2∨v=3∨v=4:=by omega
 rcases this with rfl|rfl|rfl|rfl<;>rfl
theorem Dd (O:List Int)(M:List Int):y9 (w6 0) F1 (g9 inD (f8 0) (f8 1)) [none,some (.sh (.lst (M.map D.int)))] (O.map D.int)=some ((O.map λl=>decide (l∈M)).map D.bl):=by
 rw[List.map_map];walk_at"c"
noncomputable def HV (v:Int)(cs F:List (List Int))(a b c:Option C):k0:=[some (.sh (.int v)),some (.sh (.lst (u8 cs))),some (.ow false (.lst (u8 F))),a,b,c]
theorem mZ {v:Int}{cs:List (List Int)}(o:0<v)(p:v≤4)(t:cs.length≤1000)(hl:∀c∈cs,c.length≤1000):E6 [.int v,.lst (u8 cs)]=some (.ret (.own (.lst (u8 (eA v cs)))) []):=by
 have cl:lW v≤16:=by unfold lW;split<;>(try split)<;>(try split)<;>omega
 have:=Gg o p;have:=gN (n:=lW v) (by omega);have:=jC (n:=v) (by omega) (by omega);obtain⟨_,u,d,g,a,rfl⟩:=sT (tg:=w6 3) (b:=dc) (f:=λk=>D.int (0+((k:Nat):Int))) (λk ρ=>∃d g a,ρ=HV v cs (((List.range k).map λ(n:Nat)=>V2 v (n:Int)).filter (vN cs)) d g a) (lW v) (ρ:=HV v cs [] none none none) (λn ρ w ⟨d,g,a,e⟩=>by
  subst e;have q:(((List.range n).map λ(n:Nat)=>V2 v (n:Int)).filter (vN cs)).length≤16:=l7 (List.length_filter_le _ _) (by simp;omega);rw[List.range_succ,List.map_append,List.filter_append];generalize ((List.range n).map λ(n:Nat)=>V2 v (n:Int)).filter (vN cs)=F at q;rw[C9];obtain⟨_,x,i,rfl⟩:=sT (tg:=w6 5) (b:=de) (f:=λk=>D.int (0+((k:Nat):Int))) (λk ρ=>∃m,ρ=HV v cs F (some (.sh (.int (n:Int)))) (some (.ow false (.lst (((List.range k).map (Fp v n)).map D.int)))) m) v.toNat (ρ:=HV v cs F (some (.sh (.int (n:Int)))) (some (.ow false (.lst []))) a) (λk ρ hk ⟨m,e⟩=>by
   subst e;rw[C9,List.range_succ,List.map_append,List.map_append];have:=DE (j:=v-1-(k:Int)) (by omega) (by omega);have:=yh (n:=(n:Int)) (v-1-(k:Int));have:small (((List.range k).map (Fp v n)).map D.int).length:=p5 (by simp;omega);walk_at"t";exact⟨_,rfl⟩) ⟨_,rfl⟩
  have hs:y9 (w6 0) F1 (C4 xo (f6 (B2 (B1 (f8 0)) (w6 0) F1 (g9 inD (f8 0) (f8 1)) 1 [1]) i7)) [none,some (.sh (.lst ((V2 v n).map D.int)))] (u8 cs)=some ((cs.map λc=>qY c (V2 v n)).map D.bl):=by
   unfold u8;rw[List.map_map];refine S4 λc r=>?_;have:=Dd c (V2 v n);have:=vh (c.map λl=>decide (l∈V2 v n));rw[List.any_map]at this;have:=bZ (c.map λl=>decide (l∈V2 v n));have:small (c.map D.int).length:=p5 (by have:=hl c r;simp;omega);walk_at"d"
  have s:=gX (cs.map λc=>qY c (V2 v n));rw[List.all_map]at s;have:=bZ (cs.map λc=>qY c (V2 v n));have:small (u8 cs).length:=p5 (by rw[ce];omega);have:small (u8 F).length:=p5 (by rw[ce];omega);cases hs:vN cs (V2 v n)with
  |false=>
   have h:cs.all (id∘λc=>qY c (V2 v n))=false:=hs;walk_at"t";exact⟨_,_,i,by simp[hs];rfl⟩
  |true=>
   have h:cs.all (id∘λc=>qY c (V2 v n))=true:=hs;walk_at"t";exact⟨_,_,i,by simp only[List.map_cons,List.map_nil,List.filter_cons,hs,if_true,List.filter_nil];unfold HV;rw[Af];rfl⟩) ⟨_,_,_,rfl⟩
 walk_at"r"
def xw (v:Int)(cs:List (List Int)):Prop:=∀n:Nat,n<lW v→∃c∈cs,qY c (V2 v n)=false
theorem xw.nil {v:Int}{cs:List (List Int)}(h:xw v cs):eA v cs=[]:=by
 unfold eA;rw[List.filter_eq_nil_iff];intro M a;obtain⟨n,b,rfl⟩:=List.mem_map.mp a;obtain⟨c,d,e⟩:=h n (List.mem_range.mp b);intro s;have:=List.all_eq_true.mp s c d;rw[e]at this;cases this
theorem xw.of {v:Int}{cs:List (List Int)}(h:eA v cs=[]):xw v cs:=λn b=>by
 have:=List.filter_eq_nil_iff.mp h _ (List.mem_map.mpr ⟨n,List.mem_range.mpr b,rfl⟩);unfold vN at this;rw[List.all_eq_true]at this;obtain⟨c,a⟩:=pA.mp this;exact⟨c,(aP.mp a).1,by simpa using(aP.mp a).2⟩
structure Gu (v:Int) (cs:List (List Int)):Prop where
 lo:1≤v
 hi:v≤3
 cl:∀c∈cs,c.length≤7∧∀l∈c,l≠0∧l.natAbs≤v.toNat
 no:xw v cs
noncomputable def Fm (ns:List Int)(b:Int)(a c d e f g h:Option C):k0:=[some (.sh (.lst (ns.map D.int))),some (.sh (.int b)),a,c,d,e,f,g,h]
noncomputable def JV (n:Nat)(k:Int):Int:=(1+k)*(1-2*((n:Int) / (if k=0 then 1 else if k=1 then 2 else 4) % 2))
noncomputable def sg (n:Nat):List Int:=[JV n 0,JV n 1,JV n 2]
theorem xT:(List.range 8).all (λn=>(sg n).all (λl=>decide (l≠0∧l.natAbs≤3)))=true∧((List.range 8).all λm=>(List.range 8).any λn=>(sg n).all λl=>!decide (l∈V2 3 m))=true:=by decide +kernel
theorem Dc (n:Nat):y9 (w6 0) F1 (g9 aM (g9 A3 (mC (.int 1)) (f8 0)) (g9 iY (mC (.int 1)) (g9 aM (mC (.int 2)) (g9 R4 (g9 kU (f8 1) (g9 x0 (O3 (f6 (mC (.int 1)) (f6 (mC (.int 2)) (f6 (mC (.int 4)) i7)))) (f8 0))) (mC (.int 2)))))) [none,some (.sh (.int (n:Int)))] [.int 0,.int 1,.int 2]=some ((sg n).map D.int):=by kernel_rfl
theorem xS (hs:List Int)(k:Nat):IZ (.lst (hs.map D.int)) (some (k:Int)) none=some (.own (.lst ((hs.drop k).map D.int))):=by
 show some (W.own (.lst (cutD _ (some (k:Int)) none)))=_;unfold cutD;rw[L3.Ab,List.map_drop]
theorem qZ {a b:List Int}(h:a.length+b.length≤100000):A3 (.lst (a.map D.int)) (.lst (b.map D.int))=some (.own (.lst ((a++b).map D.int))):=by
 show cm (small ((a.map D.int).length+(b.map D.int).length)) (some (W.own (.lst (a.map D.int++b.map D.int))))=_;rw[←List.map_append];exact v6 (p5 (by rw[List.length_map,List.length_map];exact h))
theorem uY (cs:List (List Int))(i:Nat)(c:List Int):u8 (cs.take i++c::cs.drop i)=(u8 cs).take i++D.tup (c.map D.int)::(u8 cs).drop i:=by
 unfold u8;rw[List.map_append,List.map_cons,List.map_take,List.map_drop]
theorem gA {cs:List (List Int)}{i:Nat}{c d:List Int}:d∈cs.take i++c::cs.drop i↔d=c∨d∈cs:=by
 have:=List.take_append_drop i cs
 conv=>rhs;rw[←this]
 simp only[List.mem_append,List.mem_cons];constructor
 ·rintro (h|h|h)<;>simp[h]
 ·rintro (h|h|h)<;>simp[h]
theorem Iq (ns:List Int)(b:Int):∃cs g o p,forL (w6 3) bC ((List.range 8).map λj=>D.int (0+((j:Nat):Int))) (Fm ns b (some (.ow false (.lst []))) none none none none none none)=some (.nx (Fm ns b (some (.ow false (.lst (u8 cs)))) g o p none none none))∧cs.length=8∧Gu 3 cs:=by
 obtain⟨_,w,cs,g,o,p,rfl,s,q,r⟩:=sT (tg:=w6 3) (b:=bC) (f:=λj=>D.int (0+((j:Nat):Int))) (λk ρ=>∃cs g o p,ρ=Fm ns b (some (.ow false (.lst (u8 cs)))) g o p none none none∧cs.length=k∧(∀c∈cs,c.length≤7∧∀l∈c,l≠0∧l.natAbs≤3)∧∀n,n<k→∃c∈cs,∀l,l∈c→l∈sg n) 8 (ρ:=Fm ns b (some (.ow false (.lst []))) none none none none none none) (λk ρ hk ⟨cs,g,o,p,e,s,q,r⟩=>by
  subst e;rw[C9];have:=Dc k;have x:ints1 [.int 3]=some [.int 0,.int 1,.int 2]:=rfl;have t:=List.all_eq_true.mp xT.1 k (List.mem_range.mpr hk);rw[List.all_eq_true]at t;obtain⟨a,y⟩:∃a:Nat,B6 ns (b+2+(k:Int)) % 3=(a:Int):=⟨(B6 ns (b+2+(k:Int)) % 3).toNat,by omega⟩
  have E:R4 (.int (B6 ns (b+2+(k:Int)))) (.int 3)=some (.val (.int (a:Int))):=by
   rw[←y];exact K6 (by decide)
  have F:=y8 (B6 ns (b+3)) (b:=((cs.length:Nat):Int)+1) (by omega);have G:=v9 (B6 ns (b+3)) (b:=((cs.length:Nat):Int)+1) (by omega);have A:R4 (.int (B6 ns (b+3))) (.int (((cs.length:Nat):Int)+1))=some (.val (.int (B6 ns (b+3) % (((cs.length:Nat):Int)+1)))):=K6 (by omega);generalize B6 ns (b+3) % (((cs.length:Nat):Int)+1)=i at *;have:=xS (sg k) a;have:=xQ (sg k) a;have H:(sg k).length=3:=rfl;have:=qZ (a:=(sg k).drop a) (b:=(sg k).take a) (by rw[List.length_drop,List.length_take];omega);have u:∀l,l∈(sg k).drop a++(sg k).take a→l∈sg k:=λl hl=>by
   rcases List.mem_append.mp hl with h|h
   ·exact List.mem_of_mem_drop h
   ·exact List.mem_of_mem_take h
  walk_at"t"
  refine⟨cs.take i.toNat++((sg k).drop a++(sg k).take a)::cs.drop i.toNat,_,_,_,by rw[uY];rfl,by simp;omega,λc d=>?_,λn v=>?_⟩
  ·rcases gA.mp d with rfl|d
   ·exact⟨by rw[List.length_append,List.length_drop,List.length_take];omega,λl hl=>of_decide_eq_true (t l (u l hl))⟩
   ·exact q c d
  ·by_cases z:n=k
   ·exact⟨_,gA.mpr (.inl rfl),by rw[z];exact u⟩
   ·obtain⟨c,d,e⟩:=r n (by omega);exact⟨c,gA.mpr (.inr d),e⟩) ⟨[],_,_,_,rfl,rfl,λ_ h=>(nomatch h),λ_ h=>absurd h (eU _)⟩
 refine⟨cs,g,o,p,w,s,by decide,by decide,q,λm B=>?_⟩;have:=List.all_eq_true.mp xT.2 m (List.mem_range.mpr B);obtain⟨n,v,e⟩:=List.any_eq_true.mp this;obtain⟨c,d,z⟩:=r n (List.mem_range.mp v);refine⟨c,d,List.any_eq_false.mpr λl hl=>?_⟩;have:=List.all_eq_true.mp e l (z l hl);simpa using this
theorem Fv {p v:Int}(d:0<v):(qw p v).natAbs≤v.toNat:=by
 unfold qw;have e:=y8 (p / 2) (b:=v) (by omega);have f:=v9 (p / 2) (b:=v) d;have c:p % 2=0∨p % 2=1:=by omega
 generalize p / 2 % v=a at *;rcases c with c|c<;>rw[c]<;>omega
theorem nm (ns:List Int)(b:Int){v:Int}(a:0<v):(U0 ns b v 3).length≤7∧∀l∈U0 ns b v 3,l≠0∧l.natAbs≤v.toNat:=by
 refine⟨?_,λl hl=>⟨xg a l hl,?_⟩⟩
 ·unfold U0;rw[List.length_map,List.length_range];have:=tV (B6 ns b) 3 (by decide);omega
 ·obtain⟨q,_,rfl⟩:=List.mem_map.mp hl;exact Fv a
theorem CF (ns:List Int)(b:Int):∃v cs,ba [.lst (ns.map D.int),.int b]=some (.ret (.val (.tup [.int v,.lst (u8 cs)])) [])∧cs.length≤12∧Gu v cs:=by
 have A:ints1 [.int 8]=some ((List.range 8).map λj=>D.int (0+((j:Nat):Int))):=rfl;have B:ints1 [.int 6]=some ((List.range 6).map λj=>D.int (0+((j:Nat):Int))):=rfl;by_cases h:B6 ns (b+1) % 4=0
 ·obtain⟨cs,E,F,G,p,q,o⟩:=Iq ns b;exact⟨3,cs,by walk_at"r",by omega,o⟩
 ·rcases FP (tg:=w6 6) (b:=fh) (f:=λj=>D.int (0+((j:Nat):Int))) (λ_ ρ=>∃a d g i,ρ=Fm ns b a none none none d g i) (λw ρ=>∃v cs a d g i,w=.val (.tup [.int v,.lst (u8 cs)])∧ρ=Fm ns b a none none none d g i∧cs.length≤12∧Gu v cs) (List.range 6) (ρ:=Fm ns b none none none none none none none) (λ_ k _ ρ _ ⟨a,d,g,i,e⟩=>by
   subst e;rw[C9];have H:=y8 (B6 ns (b+3*(k:Int))) (b:=3) (by omega);have I:=v9 (B6 ns (b+3*(k:Int))) (b:=3) (by omega);have J:=y8 (B6 ns (b+2+(k:Int))) (b:=11) (by omega);have L:=v9 (B6 ns (b+2+(k:Int))) (b:=11) (by omega);have r:R4 (.int (B6 ns (b+3*(k:Int)))) (.int 3)=some (.val (.int (B6 ns (b+3*(k:Int)) % 3))):=K6 (by decide);have s:R4 (.int (B6 ns (b+2+(k:Int)))) (.int 11)=some (.val (.int (B6 ns (b+2+(k:Int)) % 11))):=K6 (by decide);generalize B6 ns (b+3*(k:Int)) % 3=x at *;generalize B6 ns (b+2+(k:Int)) % 11=y at *;have:=jC (n:=2+y) (by omega) (by omega);have m:y9 (w6 0) F1 (o9 [false,false,false,false] E7 (f6 (f8 1) (f6 (g9 A3 (g9 A3 (g9 A3 (f8 2) (mC (.int 4))) (g9 aM (mC (.int 5)) (f8 0))) (f8 3)) (f6 (f8 4) (f6 (mC (.int 3)) i7))))) [none,some (.sh (.lst (ns.map D.int))),some (.sh (.int b)),some (.sh (.int (k:Int))),some (.sh (.int (1+x)))] ((List.range (2+y).toNat).map λj=>D.int (0+((j:Nat):Int)))=some (u8 ((List.range (2+y).toNat).map λ(j:Nat)=>U0 ns (b+4+5*(0+(j:Int))+(k:Int)) (1+x) 3)):=by
    unfold u8;rw[List.map_map];refine S4 λj _=>?_;have:=na (ns:=ns) (b:=b+4+5*(0+(j:Int))+(k:Int)) (v:=1+x) (most:=3) (by omega) (by omega) (by decide) (by decide);walk_at"d"
   have hl:∀c∈(List.range (2+y).toNat).map λ(j:Nat)=>U0 ns (b+4+5*(0+(j:Int))+(k:Int)) (1+x) 3,c.length≤7∧∀l∈c,l≠0∧l.natAbs≤(1+x).toNat:=λc m=>by
    obtain⟨j,_,rfl⟩:=List.mem_map.mp m;exact nm ns _ (by omega)
   have t:((List.range (2+y).toNat).map λ(j:Nat)=>U0 ns (b+4+5*(0+(j:Int))+(k:Int)) (1+x) 3).length≤12:=by simp;omega
   generalize (List.range (2+y).toNat).map (λ(j:Nat)=>U0 ns (b+4+5*(0+(j:Int))+(k:Int)) (1+x) 3)=cs at *;have:=mZ (v:=1+x) (cs:=cs) (by omega) (by omega) (by omega) λc m=>by have:=(hl c m).1;omega
   have:=aA cs;have:(dR (.own (.lst (u8 (eA (1+x) cs))))&&([]:List D).all U4)=true:=by rw[k6];exact⟨aA _,rfl⟩
   cases u:(eA (1+x) cs).isEmpty with
   |false=>
    left;walk_at"t";exact⟨_,_,_,_,rfl⟩
   |true=>
    right;walk_at"u";exact⟨_,cs,_,_,_,_,rfl,rfl,t,by omega,by omega,hl,xw.of (List.isEmpty_iff.mp u)⟩) ⟨_,_,_,_,rfl⟩with⟨_,p,a,d,g,i,rfl⟩ | ⟨_,_,p,v,cs,a,d,g,i,rfl,rfl,q,o⟩
  ·exact⟨2,[[1,2],[-1,2],[1,-2],[-1,-2]],by walk_at"r",by decide,by decide,by decide,by decide,λn z=>by
    have:∀n:Nat,n<4→∃c∈[[1,2],[-1,2],[1,-2],[-1,-2]],qY c (V2 2 n)=false:=by decide +kernel
    exact this n z⟩
  ·exact⟨v,cs,by walk_at"r",q,o⟩
noncomputable def Ej (T:Tab)(ts:C3)(h:Int)(X:List Int):k0:=[some (.sh (.dct (n8 T))),some (.ow true (.dct (l6 ts))),some (.sh (.int h)),some (.ow false (.lst (X.map D.int)))]
section
variable {T:Tab}{ts:C3}{h:Int}{c:List Int}
theorem mT (b:uj T=true)(hl:E8 T h=some c){r:Option SR}(hr:(l4 (ax (p6 (g9 R8 (f8 3) (O3 i7))) (retS (mC (.str uz))) bw) (l4 (ax (qp (p6 (g9 (Z7 λi j=>decide (j<i)) (C4 V5 (f6 (f8 3) i7)) (mC (.int 1)))) (p6 (g9 inD (C4 S6 (f6 (g9 x0 (f8 3) (mC (.int 0))) i7)) (f8 1)))) (retS (mC (.str FC))) bw) (l4 (fB 1 (g9 x0 (f8 3) (mC (.int 0))) (C4 S6 (f6 (g9 x0 (f8 3) (mC (.int 0))) i7))) (retS (mC (.str qz)))))) (Ej T ts h (p7 ts c))=r):L8 (A7 4 [false,true,false] [.dct (n8 T),.dct (l6 ts),.int h])=r:=by
 have a:=jz T h;rw[hl]at a;have d:c.length≤1000:=(on b).2 _ (y0 hl);exact j8 (A0 (p9 (j4 (g4 rfl) (g4 rfl) rfl rfl a)) rfl O9) (j8 (ρ1:=Ej T ts h (p7 ts c)) (u3 (F6 (h7 (g4 rfl) (h7 (j4 (g4 rfl) (g4 rfl) rfl rfl (fF hl)) j9)) rfl rfl (mY (ts:=ts) d) rfl (L7 _)) rfl) hr)
theorem wJ (a:uj T=true)(hl:E8 T h=some c)(b:p7 ts c=[]):O4 [.dct (n8 T),.dct (l6 ts),.int h]=some (.ret (.val (.str uz)) [.dct (l6 ts)]):=by
 show n3 L8 4 [false,true,false] _=_;refine L9 (mT a hl (Z3 (D4 (p9 (j4 (g4 rfl) (aC j9 rfl (i5 rfl)) rfl rfl (jG _))) (by rw[b];rfl) (D3 o6 rfl)))) rfl
theorem wI {l:Int}(e:uj T=true)(hl:E8 T h=some c)(f:p7 ts c=[l])(a:k9 ts (n5 l)=none)(i:ts.length≤10000):O4 [.dct (n8 T),.dct (l6 ts),.int h]=some (.ret (.val (.str qz)) [.dct (l6 (ts++[(n5 l,l)]))]):=by
 show n3 L8 4 [false,true,false] _=_;have it:=sI ts (n5 l);rw[a]at it;rw[←gx a];have g:S6 [.int l]=some (.val (.int (n5 l))):=rfl;have b:g9 x0 (f8 3) (mC (.int 0)) (Ej T ts h [l])=some (.ok (.val (.int l)) (Ej T ts h [l])):=j4 (g4 rfl) o6 rfl rfl rfl;have d:C4 S6 (f6 (g9 x0 (f8 3) (mC (.int 0))) i7) (Ej T ts h [l])=some (.ok (.val (.int (n5 l))) (Ej T ts h [l])):=E1 (h7 b j9) rfl g;refine L9 (sr:=.rt (.val (.str qz)) (Ej T (E5 ts (n5 l) l) h [l])) (mT e hl ?_) rfl;rw[f];exact j8 (A0 (p9 (j4 (g4 rfl) (aC j9 rfl (i5 rfl)) rfl rfl (jG [l]))) rfl O9) (j8 (A0 (kQ (p9 (j4 (E1 (h7 (g4 rfl) j9) rfl (kz [l])) o6 rfl rfl rfl)) rfl (p9 (j4 d (g4 rfl) rfl rfl it))) rfl O9) (j8 (dS b rfl d rfl rfl (rP rfl (by omega))) (D3 o6 rfl)))
end
noncomputable def wR (T:Tab)(c hs:List Int)(ts:C3)(k:Nat)(a:Option C):k0:=[some (.sh (.dct (n8 T))),some (.sh (.tup (c.map D.int))),some (.sh (.tup (hs.map D.int))),some (.ow false (.dct (l6 ts))),some (.sh (.int (k:Int))),a]
section
variable {T:Tab}{c hs:List Int}
noncomputable abbrev FS:M Bool:=gF (p6 (g9 (Z7 λi j=>decide (i<j)) (f8 4) (C4 V5 (f6 (f8 2) i7)))) (p6 (g9 (Z7 λi j=>decide (j<i)) (g9 x0 (f8 2) (f8 4)) (mC (.int 0))))
theorem zG {ts:C3}{k:Nat}{h:Int}{o5:Option C}(a:hs[k]?=some h)(b:0<h):FS (wR T c hs ts k o5)=some (.ok true (wR T c hs ts k o5))∧g9 x0 (f8 2) (f8 4) (wR T c hs ts k o5)=some (.ok (.val (.int h)) (wR T c hs ts k o5)):=by
 have ln:V5 [.tup (hs.map D.int)]=some (.val (.int (hs.length:Nat))):=by
  show some (W.val (.int _))=_;rw[List.length_map]
 have lt:Z7 (λi j=>decide (i<j)) (.int (k:Int)) (.int (hs.length:Nat))=some (.val (.bl true)):=by
  show some (W.val (.bl (decide ((k:Int)<_))))=_;rw[decide_eq_true (Jz.mpr (List.getElem?_eq_some_iff.mp a).1)]
 have gt:Z7 (λi j=>decide (j<i)) (.int h) (.int 0)=some (.val (.bl true)):=by
  show some (W.val (.bl (decide (0<h))))=_;rw[decide_eq_true b]
 have d:x0 (.tup (hs.map D.int)) (.int (k:Int))=some (.val (.int h)):=by
  show(L2.fN (hs.map D.int) (k:Int)).map W.val=_;rw[oY (v:=D.int h) (by rw[List.getElem?_map,a];rfl)];rfl
 have m:g9 x0 (f8 2) (f8 4) (wR T c hs ts k o5)=some (.ok (.val (.int h)) (wR T c hs ts k o5)):=j4 (g4 rfl) (g4 rfl) rfl rfl d;exact⟨oJ (p9 (j4 (g4 rfl) (E1 (h7 (g4 rfl) j9) rfl ln) rfl rfl lt)) (p9 (j4 m o6 rfl rfl gt)),m⟩
theorem FQ (i:uj T=true)(b:∀kv∈T,0<kv.1){t0 ts:C3}{pre:List Int}(g:Pg T t0 ts pre)(r:t0.length+hs.length≤10000):∀(a:List Int) (n:Nat),hs=pre++a→∃o5,B4 FS Y9 (n+pre.length) (wR T c hs t0 0 none)=B4 FS Y9 n (wR T c hs ts pre.length o5):=by
 induction g with
 |nil=>exact λ_ n _=>⟨none,rfl⟩
 | @snoc ts pre h l d g hl j k ih=>
  intro a n e;rw[List.append_assoc]at e;obtain⟨o5,ih⟩:=ih ([h]++a) (n+1) e;refine⟨some (.sh (.str qz)),?_⟩;have m:hs[pre.length]?=some h:=by rw[e,List.getElem?_append_right (g8 _),Jw];rfl
  have f:=congrArg List.length e;rw[List.length_append,List.length_append,List.length_singleton]at f;have s:=g.len;have o:=wI i hl j k (by omega);obtain⟨p,q⟩:=zG (T:=T) (c:=c) (ts:=ts) (o5:=o5) m (b _ (y0 hl));rw[List.length_append,List.length_singleton,show n+(pre.length+1)=n+1+pre.length by omega,ih];refine fW p (j8 (ρ1:=wR T c hs (ts++[(n5 l,l)]) pre.length (some (.sh (.str qz)))) (u3 (F6 (h7 (g4 rfl) (h7 (g4 rfl) (h7 q j9))) rfl rfl o rfl ?_) rfl) (j8 (A0 (p9 (j4 (g4 rfl) o6 rfl rfl rfl)) rfl O9) (zN rfl o6 rfl rfl rfl))) rfl;show(true&&(U4 _&&true))=true;rw[ag];rfl
theorem sW (j:uj T=true)(f:∀kv∈T,0<kv.1)(m:c.length≤1000)(o:hs.length≤900)(p:∀l∈c,-l∉c)(h:Ay T c hs):cL [.dct (n8 T),.tup (c.map D.int),.tup (hs.map D.int)]=some (.ret (.val (.bl true)) []):=by
 show n3 bi 6 [false,false,false] _=_;obtain⟨a,k,ts,d,rfl,g,hl,q⟩:=h;have r:=CJ m p;have i:y9 (w6 0) F1 (cZ V1 (f8 0)) [none] (c.map D.int)=some ((c.map λl=>-l).map D.int):=by
  rw[List.map_map];exact cd λl _=>⟨[some (.sh (.int l))],.val (.int (-l)),[some (.sh (.int l))],[some (.sh (.int l))],rfl,bd (g4 rfl) rfl rfl,rfl⟩
 have s:=bf (mi:=B1 (f8 1)) (own:=1) (fr:=[]) (ρ:=A7 6 [false,false,false] [.dct (n8 T),.tup (c.map D.int),.tup ((a++[k]).map D.int)]) (ρ1:=A7 6 [false,false,false] [.dct (n8 T),.tup (c.map D.int),.tup ((a++[k]).map D.int)]) (F5 (g4 rfl) rfl rfl) (p5 (by rw[List.length_map];omega)) i (.inl (z8 _));have t:=mW (ls:=c.map λl=>-l) (by rw[List.length_map];exact m);have u:=fu (c.map λl=>-l) [];rw[List.length_nil,List.length_map,M5]at u;have v:a.length+1≤900:=by rw[List.length_append]at o;exact o
 obtain⟨o5,w⟩:=FQ (c:=c) (hs:=a++[k]) j f g (by show(B5 _).length+_≤_;unfold B5;omega) [k] (999-a.length+1) rfl;obtain⟨x,y⟩:=zG (T:=T) (c:=c) (hs:=a++[k]) (ts:=ts) (k:=a.length) (h:=k) (o5:=o5) (by rw[List.getElem?_append_right (g8 _),Jw];rfl) (f _ (y0 hl));have z:o3 5 (o9 [false,true,false] O4 (f6 (f8 0) (f6 (f8 3) (f6 (g9 x0 (f8 2) (f8 4)) i7)))) (wR T c (a++[k]) ts a.length o5)=some (.nx (wR T c (a++[k]) ts a.length (some (.sh (.str uz))))):=u3 (F6 (h7 (g4 rfl) (h7 (g4 rfl) (h7 y j9))) rfl rfl (wJ j hl q) rfl (by show(true&&(U4 _&&true))=true;rw[ag];rfl)) rfl;have b:Y9 (wR T c (a++[k]) ts a.length o5)=some (.rt (.val (.bl true)) (wR T c (a++[k]) ts a.length (some (.sh (.str uz))))):=j8 z (Z3 (D4 (p9 (j4 (g4 rfl) o6 rfl rfl rfl)) rfl (D3 (j4 (g4 rfl) o6 rfl rfl rfl) rfl)));have e:=js (n:=999-a.length) x b;rw[←w,show 999-a.length+1+a.length=1000 by omega]at e;refine L9 (j8 (A0 (N8 (dU (h7 (g4 rfl) j9) rfl rfl r rfl rfl) rfl rfl) rfl O9) (j8 (u3 (F6 (h7 s j9) rfl rfl t rfl ?_) rfl) (j8 (u3 o6 rfl) (Z3 e)))) rfl;rw[k6];exact⟨ag _,rfl⟩
end
section
variable {ρ ρ1 ρ2 ρ3:k0}{i j:Nat}{f m:Str}{me mv mk mo:M W}{mr:M (List W)}{w wv wk:W}{ws:List W}{d dy:D}{ds:List D}{l:Bool}{fds fds':List (Str×D)}{es es':List (Key×D)}
theorem im (h:wS i f ρ=some d):sy i f ρ=some (.ok (.val d) ρ):=by unfold sy;rw[h];rfl
theorem Ih (h:JZ i f ρ=some d):HW i f ρ=some (.ok (.val d) ρ):=by unfold HW;rw[h];rfl
theorem uO (h:il i j ρ=true):sv i j ρ=some (.ok (.slot j) ρ):=if_pos h
theorem eI (a:me ρ=some (.ok w ρ1))(hl:D0 w ρ1=some (.ok d ρ2))(b:kl i f d ρ2=some (.nx ρ3)):gd i f me ρ=some (.nx ρ3):=by
 unfold gd;rw[u0 a,u0 hl];exact b
theorem uQ {a b:Int}(c:wS i f ρ=some (.int a))(d:me ρ=some (.ok w ρ1))(e:getD w ρ1=some (.int b))(g:kl i f (.int (a+b)) ρ1=some (.nx ρ2)):qV i f me ρ=some (.nx ρ2):=by
 unfold qV;rw[c];show D6 me _ ρ=_;rw[u0 d];show(match getD w ρ1 with|some (.int b)=>kl i f (.int (a+b)) ρ1|_=>none)=_;rw[e];exact g
theorem CL (a:me ρ=some (.ok (.own (.dct es)) ρ1))(b:ρ1[i]?=some (some (.ob l fds)))(c:j<ρ1.length∧i≠j∧fds.length<1000∧ρ1[j]?.join.isNone=true)(hs:(ρ1.set i (some (.ob l (qb S5 .v1 fds)))).set j (some (.ow true (.dct es)))=ρ2):tabS i j me ρ=some (.nx ρ2):=by
 unfold tabS;rw[u0 a,←hs];show(match W.own (.dct es),ρ1[i]? with|.own (.dct es),some (some (.ob l fds))=>cm (j<ρ1.length∧i≠j∧fds.length<1000∧ρ1[j]?.join.isNone=true) (some (SR.nx ((ρ1.set i (some (.ob l (qb S5 .v1 fds)))).set j (some (.ow true (.dct es)))))) |_,_=>none)=_;rw[b];exact v6 c
theorem gS {a:Nat}{b:List (Str×D)→List (Key×D)→List D→Option MR}(e:ρ[i]?=some (some (.ob l fds)))(hk:(fds.lookup m).isNone=true)(f:mr ρ=some (.ok ws ρ1))(hl:av ws ρ1=some (.ok ds ρ2))(g:ρ2[i]?=some (some (.ob l fds)))(h:ρ2[j]?=some (some (.ow true (.dct es))))(k:il i j ρ2=true)(n:ds.length+1=a)(o:b fds es ds=some (.ret d fds' es'))(hs:(ρ2.set i (some (.ob l fds'))).set j (some (.ow true (.dct es')))=ρ3):iI i j m a b mr ρ=some (.ok (.val d) ρ3):=by
 unfold iI;have c:Aj i m ρ=some (.ok () ρ):=by
  unfold Aj;rw[e];exact if_pos hk
 rw[M.j5 (g4 e),M.j5 c,M.j5 f,M.j5 hl];unfold so;rw[g,h];dsimp only;rw[if_pos ⟨k,n⟩,o,←hs]
theorem CM {a:C}(b:mv ρ=some (.ok (.slot i) ρ))(g:ρ[i]?=some (some a))(c:mo ρ=some (.ok w ρ))(hk:mk ρ=some (.ok wk ρ))(hl:D0 (.slot i) ρ=some (.ok d ρ1))(e:getD wk ρ1=some dy){r:Option SR}(f:cY j dy d ρ1=r):vP mo j mv mk ρ=r:=by
 unfold vP;rw[u0 (show O2 mv ρ=some (.ok (.slot i) ρ) by unfold O2;rw[M.j5 b];rfl),u0 c,u0 hk,u0 hl,e];exact f
theorem CO {a:Nat}{b:List D→Option L3.Made}{r:L3.Made}(c:mr ρ=some (.ok ws ρ1))(hl:av ws ρ1=some (.ok ds ρ2))(d:b ds=some r)(e:i<ρ2.length∧j<ρ2.length∧i≠j∧ds.length+1=a)(hs:(ρ2.set i (some (.ob false r.1))).set j (some (.ow true (.dct r.2)))=ρ3):ut i j a b mr ρ=some (.nx ρ3):=by
 unfold ut;rw[u0 c,u0 hl,←hs,d];exact v6 e
theorem Bw {den:SM}{n:Nat}{a:SR}{r:L3.Made}(h:den (aj n [] ds)=some a)(b:outI j a=some r):pX den n j ds=some r:=by unfold pX;rw[h];exact b
theorem gw {den:SM}{n:Nat}{a:SR}{r:MR}(h:den (startM n j fds es ds)=some a)(b:Fc j a=some r):runM den n j fds es ds=some r:=by unfold runM;rw[h];exact b
end
noncomputable def qy (v g t:Int)(b:Bool):List (Str×D):=[("variables",.int v),("table",.v1),("greatest",.int g),("taken",.int t),("refuted",.bl b)]
theorem zI (T:Tab):(dR (.own (.dct (n8 T)))&&([]:List D).all U4)=true:=by
 show((n8 T).all (λe=>U5 e.2)&&true)=true;rw[Y4];unfold n8;rw[List.all_map,List.all_eq_true];exact λkv _=>af kv.2
theorem CG {v:Int}{cs:List (List Int)}(h:cs.length≤1000):K9 [.int v,.lst (u8 cs)]=some (qy v cs.length 0 false,n8 (n7 1 cs)):=by
 show pX F8 4 3 _=_;have ln:V5 [.lst (u8 cs)]=some (.val (.int (cs.length:Nat))):=by
  show some (W.val (.int _))=_;rw[ce]
 exact Bw (j8 (eI (g4 rfl) rfl rfl) (j8 (CL (F6 (h7 (g4 rfl) j9) rfl rfl (iT h) rfl (zI _)) rfl ⟨i5 rfl,by decide,i5 rfl,rfl⟩ rfl) (j8 (eI (E1 (h7 (g4 rfl) j9) rfl ln) rfl rfl) (j8 (eI o6 rfl rfl) (eI o6 rfl rfl))))) rfl
noncomputable def Je (v g t:Int)(b:Bool)(T:Tab)(n:Int)(c hs:List Int):k0:=[some (.ob true (qy v g t b)),some (.sh (.int n)),some (.sh (.tup (c.map D.int))),some (.sh (.tup (hs.map D.int))),some (.ow true (.dct (n8 T)))]
section
variable {v t:Int}{cs:List (List Int)}{c hs:List Int}
structure IB (v:Int) (cs:List (List Int)) (c hs:List Int):Prop where
 tab:uj (n7 1 cs)=true
 len:cs.length≤1000
 cl:c.length≤1000
 hl:hs.length≤900
 lit:∀l∈c,n5 l≤v
 two:∀l∈c,-l∉c
 go:Ay (n7 1 cs) c hs
theorem zK (R:IB v cs c hs):K8 (qy v cs.length t false) (n8 (n7 1 cs)) [.int ((cs.length+1:Nat):Int),.tup (c.map D.int),.tup (hs.map D.int)]=some (.ret (.bl true) (qy v cs.length t false) (n8 (n7 1 cs))):=by
 show runM F7 5 4 _ _ _=_;have le:Z7 (λi j=>decide (i≤j)) (.int ((cs.length+1:Nat):Int)) (.int (cs.length:Nat))=some (.val (.bl false)):=by
  show some (W.val (.bl (decide _)))=_;rw[decide_eq_false (by omega)]
 have a:y9 (w6 0) F1 (g9 (Z7 λi j=>decide (j<i)) (C4 S6 (f6 (f8 0) i7)) (HW 1 "variables")) [none,some (.rd (qy v cs.length t false))] (c.map D.int)=some ((c.map λl=>decide (v<n5 l)).map D.bl):=by
  rw[List.map_map];exact cd λl _=>⟨[some (.sh (.int l)),some (.rd (qy v cs.length t false))],.val (.bl (decide (v<n5 l))),[some (.sh (.int l)),some (.rd (qy v cs.length t false))],[some (.sh (.int l)),some (.rd (qy v cs.length t false))],rfl,j4 (E1 (h7 (g4 rfl) j9) rfl rfl) (Ih rfl) rfl rfl rfl,rfl⟩
 have m:=bf (mi:=B1 (f8 2)) (own:=1) (fr:=[0]) (ρ:=Je v cs.length t false (n7 1 cs) ((cs.length+1:Nat):Int) c hs) (ρ1:=Je v cs.length t false (n7 1 cs) ((cs.length+1:Nat):Int) c hs) (F5 (g4 rfl) rfl rfl) (p5 (by rw[List.length_map];have:=R.cl;omega)) a (.inl (bZ _));have an:=vh (c.map λl=>decide (v<n5 l));rw[List.any_map,show(c.any (id∘λl=>decide (v<n5 l)))=false from List.any_eq_false.mpr λl hl=>by
  have e:¬v<n5 l:=Int.not_lt.mpr (R.lit l hl);show¬decide (v<n5 l)=true;rw[decide_eq_false e];exact D5]at an
 have b:=sW R.tab (λkv d=>by have:=(z9 cs 1 kv d).1;omega) R.cl R.hl R.two R.go;exact gw (j8 (A0 (kQ (p9 (j4 (g4 rfl) (im rfl) rfl rfl le)) rfl (N8 (E1 (h7 m j9) rfl an) rfl rfl)) rfl O9) (D3 (F6 (h7 (uO rfl) (h7 (g4 rfl) (h7 (g4 rfl) j9))) rfl rfl b rfl rfl) rfl)) rfl
theorem BD {i:Nat}{l:Bool}{ρ:k0}(a:cs.length≤1000)(h:ρ[i]?=some (some (.ow l (.dct (n8 (n7 1 cs)))))):cY i (.int ((cs.length+1:Nat):Int)) (.tup (c.map D.int)) ρ=some (.nx (ρ.set i (some (.ow l (.dct (n8 (n7 1 (cs++[c])))))))):=yi a rfl h
theorem FU (R:IB v cs c hs):D9 (qy v cs.length t false) (n8 (n7 1 cs)) [.int ((cs.length+1:Nat):Int),.tup (c.map D.int),.tup (hs.map D.int)]=some (.ret .v1 (qy v ((cs.length+1:Nat):Int) t c.isEmpty) (n8 (n7 1 (cs++[c])))):=by
 show runM C8 5 4 _ _ _=_;exact gw (j8 (ρ1:=Je v cs.length t false (n7 1 cs) ((cs.length+1:Nat):Int) c hs) (A0 (cM (N8 (gS rfl rfl (h7 (g4 rfl) (h7 (g4 rfl) (h7 (g4 rfl) j9))) rfl rfl rfl rfl rfl (zK R) rfl) rfl (k:=true) rfl)) rfl O9) (j8 (ρ1:=Je v cs.length t false (n7 1 (cs++[c])) ((cs.length+1:Nat):Int) c hs) (CM (g4 rfl) rfl (uO rfl) (g4 rfl) rfl rfl (BD R.len rfl)) (j8 (eI (g4 rfl) rfl rfl) (eI (j4 (g4 rfl) (aB j9 rfl (i5 rfl)) rfl rfl (oK c)) rfl rfl)))) rfl
theorem CD (R:IB v cs c hs):N7 (qy v cs.length t false) (n8 (n7 1 cs)) [o8 (((cs.length+1:Nat):Int),c,hs)]=some (.ret .v1 (qy v ((cs.length+1:Nat):Int) (t+1) c.isEmpty) (n8 (n7 1 (cs++[c])))):=by
 show runM L4 3 2 _ _ _=_;exact gw (j8 (D4 (cM (N8 (im rfl) rfl (k:=false) rfl)) rfl (A0 (p9 (j4 (j4 (g4 rfl) o6 rfl rfl rfl) o6 rfl rfl rfl)) rfl (be (gS rfl rfl (h7 (j4 (g4 rfl) o6 rfl rfl rfl) (h7 (j4 (g4 rfl) o6 rfl rfl rfl) (h7 (j4 (g4 rfl) o6 rfl rfl rfl) j9))) rfl rfl rfl rfl rfl (FU R) rfl)))) (uQ rfl o6 rfl rfl)) rfl
end
theorem sk {f:Int→Int}:∀{L:List Int},(L.map f).Nodup→∀{a b:Int},a∈L→b∈L→f a=f b→a=b
 |x::L,nd,a,b,c,d,e=>by
  rw[List.map_cons,List.nodup_cons]at nd;rcases List.mem_cons.mp c with z|z<;>rcases List.mem_cons.mp d with y|y
  ·rw[z,y]
  ·exact absurd (by rw[←z,e];exact List.mem_map_of_mem y) nd.1
  ·exact absurd (by rw[←y,←e];exact List.mem_map_of_mem z) nd.1
  ·exact sk nd.2 z y e
section
variable {v:Nat}{L:List Int}{l:Int}
theorem KO.uq (h:KO v (P5 L)):Uq (P5 L):=λk a b c d=>by
 have nd:=h.nd;rw[List.map_map]at nd;obtain⟨e,g⟩:=bm c;obtain⟨i,j⟩:=bm d;exact sk (f:=n5) nd e i (g.trans j.symm)
theorem KO.snoc (h:KO v (P5 L))(c:k9 (P5 L) (n5 l)=none)(d:l≠0∧l.natAbs≤v):KO v (P5 (L++[l])):=by
 rw[show P5 (L++[l])=P5 L++[(n5 l,l)]from List.map_append];refine⟨?_,λkv hk=>?_⟩
 ·rw[List.map_append,List.nodup_append];refine⟨h.nd,by simp,λa f b g e=>?_⟩;obtain⟨kv,hk,rfl⟩:=List.mem_map.mp f;exact F4.mp c kv hk (by rw[e];simpa using g)
 ·rcases List.mem_append.mp hk with hk|hk
  ·exact h.ok kv hk
  ·have:kv=(n5 l,l):=by simpa using hk
   rw[this];exact⟨rfl,d⟩
theorem uw (h:KO v (P5 L)):k9 (P5 L) (n5 l)=some (-l)↔-l∈L:=⟨λh=>(bm (T4 h)).1,λz=>by
 have:=gU (λ_ z=>List.mem_map_of_mem z) h.uq z;rwa[eL]at this⟩
theorem yQ (h:KO v (P5 L))(b:-l∉L)(c:l∉L):k9 (P5 L) (n5 l)=none:=F4.mpr λkv hk e=>by
 obtain⟨a,d⟩:=bm (show(kv.1,kv.2)∈P5 L from hk);have:kv.2=l∨kv.2=-l:=by unfold n5 at d e;omega
 rcases this with z|z<;>rw[z]at a
 ·exact c a
 ·exact b a
theorem yB (h:KO v (P5 L)){c:List Int}{x:Int}:x∈p7 (P5 L) c↔x∈c∧-x∉L:=by rw[T3,ne_eq,uw h]
theorem ue (ts:C3):∀(b a:List Int),(b.foldl (Y0 ts) a).length≤a.length+b.length
 | [],a=>g8 _
 |l::b,a=>by
  have:=ue ts b (Y0 ts a l);have:(Y0 ts a l).length≤a.length+1:=by
   unfold Y0;split
   ·omega
   ·exact ee _ _
  rw[List.foldl_cons,List.length_cons];omega
theorem oI (h:KO v (P5 L)){c:List Int}(p:c.length≤1000):S0 [.lst (L.map D.int),.tup (c.map D.int)]=some (.ret (.own (.lst ((p7 (P5 L) c).map D.int))) []):=by
 obtain⟨_,g,o,rfl⟩:=Cz (tg:=w6 3) (b:=bB) (f:=D.int) (λpre ρ=>∃o,ρ=[some (.sh (.lst (L.map D.int))),some (.sh (.tup (c.map D.int))),some (.ow false (.lst ((pre.foldl (Y0 (P5 L)) []).map D.int))),o]) c (ρ:=[some (.sh (.lst (L.map D.int))),some (.sh (.tup (c.map D.int))),some (.ow false (.lst [])),none]) (λpre l post ρ e ⟨o,j⟩=>by
  subst j;have k:=ue (P5 L) pre [];have:=congrArg List.length e;rw[List.length_append,List.length_cons]at this;rw[List.length_nil]at k;rw[List.foldl_append,List.foldl_cons,List.foldl_nil];generalize pre.foldl (Y0 (P5 L)) []=A at *;unfold Y0 P7;have i:=uw h (l:=l);unfold n5 at i;simp only[i];by_cases a:-l∈L
  ·have m:¬-l∉L:=λz=>z a;rw[if_pos a];walk_at"t";exact⟨_,rfl⟩
  ·rw[if_neg a];by_cases d:l∈A
   ·have n:¬l∉A:=λz=>z d;rw[if_pos d];walk_at"t";exact⟨_,rfl⟩
   ·rw[if_neg d,List.map_append];walk_at"t";exact⟨_,rfl⟩) ⟨_,rfl⟩
 have g:forL (w6 3) bB (c.map D.int) [some (.sh (.lst (L.map D.int))),some (.sh (.tup (c.map D.int))),some (.ow false (.lst [])),none]=some (.nx [some (.sh (.lst (L.map D.int))),some (.sh (.tup (c.map D.int))),some (.ow false (.lst ((p7 (P5 L) c).map D.int))),o]):=g;walk_at"r"
end
theorem wu (T:Tab):dg (n8 T)=some (T.map (·.1)):=by
 induction T with
 |nil=>rfl
 |cons t r ih=>
  show(dg (n8 r)).map (t.1::·)=_;rw[ih];rfl
structure Tb (v:Nat) (T:Tab):Prop where
 len:T.length<64
 cl:∀kv∈T,kv.2.length≤1000
 nd:(T.map (·.1)).Nodup
 up:(T.map (·.1)).Pairwise (·≤·)
 pos:∀kv∈T,0<kv.1
 lit:∀kv∈T,∀l∈kv.2,l≠0∧l.natAbs≤v
theorem vH {v:Nat}{T:Tab}(h:Tb v T):el [.dct (n8 T)]=some (.own (.lst (T.map λkv=>D.int kv.1))):=by
 show(dg (n8 T)).bind _=_;rw[wu];show cm _ _=_;rw[←jY (List.Perm.refl _) h.up,List.map_map];exact v6 (by rw[List.length_map];exact h.len)
inductive Pl (T:Tab) (L0:List Int):List Int→List Int→Prop
 |nil:Pl T L0 L0 []
 |snoc {L hs:List Int} {h l:Int} {c:List Int}:Pl T L0 L hs→E8 T h=some c→p7 (P5 L) c=[l]→l∉L→Pl T L0 (L++[l]) (hs++[h])
def Cn (T:Tab)(L0 r:List Int):Prop:=∃L a k d,r=a++[k]∧Pl T L0 L a∧E8 T k=some d∧p7 (P5 L) d=[]
section
variable {v:Nat}{T:Tab}{L0 L hs:List Int}
theorem Pl.ko (tb:Tb v T)(d:KO v (P5 L0))(p:Pl T L0 L hs):KO v (P5 L)∧Pg T (P5 L0) (P5 L) hs:=by
 induction p with
 |nil=>exact⟨d,.nil⟩
 | @snoc L hs h l c _ a b e ih=>
  have hl:=(yB ih.1).mp (show l∈p7 (P5 L) c by rw[b];exact List.mem_cons_self);have no:=yQ ih.1 hl.2 e;refine⟨ih.1.snoc no (tb.lit _ (y0 a) l hl.1),?_⟩;rw[show P5 (L++[l])=P5 L++[(n5 l,l)]from List.map_append];exact ih.2.snoc a b no
theorem Pl.len (tb:Tb v T)(c:KO v (P5 L0))(p:Pl T L0 L hs):L.length≤v∧hs.length≤v:=by
 obtain⟨a,b⟩:=p.ko tb c;have:=a.len;have:=b.len;rw[List.length_map]at *;rw[List.length_map]at this;omega
noncomputable def Cv (T:Tab)(L0 L hs:List Int)(a b c:Option C):k0:=[some (.sh (.dct (n8 T))),some (.sh (.lst (L0.map D.int))),some (.ow false (.lst (L.map D.int))),some (.ow false (.lst (hs.map D.int))),a,b,c]
theorem wH (P:v≤4)(tb:Tb v T)(u:KO v (P5 L0))(p:Pl T L0 L hs)(j k m:Option C):
  (∃ρ',forL (w6 5) au (T.map λkv=>D.int kv.1) (Cv T L0 L hs j k m)=some (.nx ρ')∧∃f d g i,ρ'=Cv T L0 f d j g i∧Pl T L0 f d∧(∀l∈L,l∈f)∧∀kv∈T,∀x,(∀y∈kv.2,y=x∨-y∈L)→x∈f)∨
  ∃w ρ',forL (w6 5) au (T.map λkv=>D.int kv.1) (Cv T L0 L hs j k m)=some (.rt w ρ')∧∃r f d g i,w=.own (.lst (r.map D.int))∧Cn T L0 r∧ρ'=Cv T L0 f d j g i:=by
 refine FP (λpre ρ=>∃f d g i,ρ=Cv T L0 f d j g i∧Pl T L0 f d∧(∀l∈L,l∈f)∧∀kv∈pre,∀x,(∀y∈kv.2,y=x∨-y∈L)→x∈f) _ T (λpre kv post ρ e ⟨f,d,g,i,F,q,sub,old⟩=>?_) ⟨L,hs,k,m,rfl,p,λ_ h=>h,λ_ h=>nomatch h⟩;subst F;have A:kv∈T:=by rw[e];exact List.mem_append_right _ List.mem_cons_self
 have n:=jB tb.nd A;have Q:=fF n;obtain⟨ko,_⟩:=q.ko tb u;have:=q.len tb u;have:=oI ko (tb.cl kv A);have G:=λx=>yB ko (c:=kv.2) (x:=x);have:=L7 (p7 (P5 f) kv.2);have:A3 (.lst (d.map D.int)) (.lst [.int kv.1])=some (.own (.lst ((d++[kv.1]).map D.int))):=qZ (b:=[kv.1]) (by rw[List.length_singleton];omega);generalize o:p7 (P5 f) kv.2=X at *;have no:∀x,(∀y∈kv.2,y=x∨-y∈L)→X≠[]→X=[x]:=λx h ne=>by
  have only:∀y∈X,y=x:=λy H=>by
   obtain⟨I,J⟩:=(G y).mp H;rcases h y I with z|z
   ·exact z
   ·exact absurd (sub _ z) J
  rcases dG (o▸oj _ _) only with z|z
  ·exact absurd z ne
  ·exact z
 have go:∀{L2:List Int},(∀l∈f,l∈L2)→(∀x,X=[x]→x∈L2)→X≠[]→(∀l∈L,l∈L2)∧∀s∈pre++[kv],∀x,(∀y∈s.2,y=x∨-y∈L)→x∈L2:=λB N ne=>⟨λl h=>B l (sub l h),λs hk x E=>by
  rcases List.mem_append.mp hk with hk|hk
  ·exact B x (old s hk x E)
  ·rw[List.mem_singleton]at hk;subst hk;exact N x (no x E ne)⟩
 cases X with
 |nil=>
  right;walk_at"u";exact⟨_,_,_,_,_,rfl,⟨f,d,kv.1,kv.2,rfl,q,n,o⟩,rfl⟩
 |cons a X=>
  left;cases X with
  |nil=>
   by_cases t:a∈f
   ·have O:¬a∉f:=λz=>z t;walk_at"t";exact⟨f,d,_,_,rfl,q,go (λ_ h=>h) (λx z=>by cases z;exact t) (by simp)⟩
   ·walk_at"t"
    exact⟨f++[a],d++[kv.1],_,_,by unfold Cv;rw[List.map_append,List.map_append];rfl,q.snoc n o t,go (λ_ h=>List.mem_append_left _ h) (λx z=>by cases z;exact List.mem_append_right _ List.mem_cons_self) (by simp)⟩
  |cons b X=>
   walk_at"t"
   exact⟨f,d,_,_,rfl,q,go (λ_ h=>h) (λx z=>by cases z) (by simp)⟩
theorem zM (B:v≤4)(tb:Tb v T)(s:KO v (P5 L0)){x:Int}{m n:Int×List Int}(E:m∈T)(F:n∈T)(G:∀y∈m.2,y=x∨-y∈L0)(H:∀y∈n.2,y=-x∨-y∈L0):∃r,Z1 [.dct (n8 T),.lst (L0.map D.int)]=some (.ret (.own (.lst (r.map D.int))) [])∧Cn T L0 r:=by
 have R:ints1 [.int 9]=some ((List.range 9).map λj=>D.int (0+((j:Nat):Int))):=rfl;have:=vH tb;rcases FP (tg:=w6 4) (b:=dL) (f:=λj=>D.int (0+((j:Nat):Int))) (λpre ρ=>∃L hs k d g,ρ=Cv T L0 L hs k d g∧Pl T L0 L hs∧(∀l∈L0,l∈L)∧pre.length≤1∧(pre≠[]→x∈L)) (λw ρ'=>∃r i c k d g,w=.own (.lst (r.map D.int))∧Cn T L0 r∧ρ'=Cv T L0 i c k d g) (List.range 9) (ρ:=Cv T L0 L0 [] none none none) (λpre j post ρ e ⟨L,hs,k,d,g,I,q,sub,len,J⟩=>by
  subst I;rw[C9];rcases wH B tb s q (some (.sh (.int (j:Int)))) d g with⟨_,t,i,c,N,O,rfl,u,P,A⟩ | ⟨_,_,t,r,i,c,N,O,rfl,o,rfl⟩
  ·left;cases pre with
   |nil=>
    walk_at"t"
    exact⟨i,c,_,_,_,rfl,u,λl h=>P l (sub l h),g8 _,λ_=>A m E x λy p=>(G y p).imp id (sub _)⟩
   |cons a pre=>
    have Q:=J (by simp);have all:∀z,z∈i:=λz=>A n F z λy p=>.inr (by
     rcases H y p with h|h
     ·rw[h,mj];exact Q
     ·exact sub _ h)
    have uq:=(u.ko tb s).1.uq;have:=uq 1 1 (-1) (List.mem_map.mpr ⟨1,all 1,rfl⟩) (List.mem_map.mpr ⟨-1,all (-1),rfl⟩);cases this
  ·right;walk_at"u";exact⟨r,_,_,_,_,_,rfl,o,rfl⟩) ⟨_,_,_,_,_,rfl,.nil,λ_ h=>h,u6 _,λh=>absurd rfl h⟩with⟨_,_,_,_,_,_,_,_,_,_,len,_⟩ | ⟨_,_,t,r,i,c,k,d,g,rfl,o,rfl⟩
 ·exact absurd len (by decide)
 ·exact⟨r,by walk_at"r",o⟩
noncomputable def Ed (T:Tab)(L hs:List Int)(u:Int)(a b:Option C):k0:=[some (.sh (.dct (n8 T))),some (.ow true (.lst (L.map D.int))),some (.sh (.lst (hs.map D.int))),some (.sh (.int u)),a,b]
theorem Ba (k:v≤4)(tb:Tb v T)(f:KO v (P5 L0)){A:List Int}(p:Pl T L0 L hs):∀a:List Int,∃u g d,forL (w6 4) W3 ((hs++a).map D.int) (Ed T L0 A 0 none none)=forL (w6 4) W3 (a.map D.int) (Ed T L A u g d):=by
 induction p with
 |nil=>exact λ_=>⟨0,none,none,rfl⟩
 | @snoc L hs h l c p b i m ih=>
  intro a;obtain⟨u,g,d,e⟩:=ih (h::a);obtain⟨ko,_⟩:=p.ko tb f;have:=p.len tb f;have n:0<h:=tb.pos _ (y0 b);have:=fF b;have j:=jz T h;rw[b]at j;have:=oI ko (tb.cl _ (y0 b));rw[i]at this;have:=L7 [l];refine⟨u+1,some (.sh (.int h)),some (.ow false (.lst [.int l])),?_⟩;rw[List.append_assoc];refine e.trans (N5 (ρ1:=Ed T L A u (some (.sh (.int h))) d) rfl ?_ rfl);unfold Ed;rw[List.map_append];walk_at"e"
theorem CB (f:v≤4)(tb:Tb v T)(c:KO v (P5 L0)){r:List Int}(g:Cn T L0 r):∃(u:Int) (h:List Int),aY [.dct (n8 T),.lst (L0.map D.int),.lst (r.map D.int)]=some (.ret (.val (.tup [.int 2,.int u])) [.lst (h.map D.int)]):=by
 obtain⟨L,a,k,d,rfl,p,b,i⟩:=g;obtain⟨u,m,j,e⟩:=Ba f tb c (A:=a++[k]) p [k];obtain⟨ko,_⟩:=p.ko tb c;have n:0<k:=tb.pos _ (y0 b);have:=fF b;have l:=jz T k;rw[b]at l;have:=oI ko (tb.cl _ (y0 b));rw[i]at this;have:=L7 [];have o:forL (w6 4) W3 ((a++[k]).map D.int) (Ed T L0 (a++[k]) 0 none none)=some (.rt (.val (.tup [.int 2,.int (u+1)])) (Ed T L (a++[k]) (u+1) (some (.sh (.int k))) (some (.ow false (.lst []))))):=by
  rw[e];refine sS (ρ1:=Ed T L (a++[k]) u (some (.sh (.int k))) j) rfl ?_;walk_at"e"
 exact⟨u+1,L,by walk_at"r"⟩
end
noncomputable def GG (n:Nat)(k:Nat):Int:=1-2*((n:Int) / EG k % 2)
noncomputable def dY (s n:Nat):List Int:=(List.range s).map λ(k:Nat)=>((k:Int)+1)*GG n k
theorem Ag:((List.range 3).all λs=>(List.range (2 ^ s)).all λn=>decide (dY (s+1) n=dY s n++[(s:Int)+1]∧dY (s+1) (n+2 ^ s)=dY s n++[-((s:Int)+1)]))=true∧((List.range 4).all λs=>(List.range 8).all λn=>decide ((dY s n).map n5=(List.range s).map λk=>((k:Nat):Int)+1))=true∧((List.range 3).all λv=>(List.range (2 ^(v+1))).all λn=>(List.range (lW ((v:Int)+1))).any λm=>decide ((dY (v+1) n).map (λl=>-l)=V2 ((v:Int)+1) m))=true:=by decide +kernel
theorem yH:∀(cs:List (List Int)) (k:Int),((n7 k cs).map (·.1)).Pairwise (·≤·)
 | [],_=>.nil
 |c::cs,k=>by
  refine .cons (λa b=>?_) (yH cs (k+1));obtain⟨kv,d,rfl⟩:=List.mem_map.mp b;have:=(z9 cs (k+1) kv d).1;show k≤kv.1;omega
theorem oq {c:List Int}:∀{cs:List (List Int)} (k:Int),c∈cs→∃n,(n,c)∈n7 k cs
 |d::cs,k,h=>by
  rcases List.mem_cons.mp h with rfl|h
  ·exact⟨k,List.mem_cons_self⟩
  ·obtain⟨n,a⟩:=oq (k+1) h;exact⟨n,List.mem_cons_of_mem _ a⟩
theorem Em {v:Nat}{cs:List (List Int)}(d:cs.length<64)(b:∀c∈cs,c.length≤100∧∀l∈c,l≠0∧l.natAbs≤v):Tb v (n7 1 cs):=by
 refine⟨by rw[bS];exact d,λkv a=>?_,aq cs 1,yH cs 1,λkv a=>?_,λkv a=>(b _ (z9 cs 1 kv a).2.2).2⟩
 ·have:=(b _ (z9 cs 1 kv a).2.2).1;omega
 ·have:=(z9 cs 1 kv a).1;omega
structure Nm (v:Nat) (cs0:List (List Int)) (s n:Nat) (cs:List (List Int)) (st:List dq):Prop where
 stp:gY v cs0 cs st
 cnt:st.length+2 ^(s+1)=2 ^(v+1)+n
 now:∀m,m<n→dY s m∈cs
 abv:s<v→∀m,m<2 ^(s+1)→dY (s+1) m∈cs
 lit:∀c∈cs,c.length≤100∧∀l∈c,l≠0∧l.natAbs≤v
section
variable {v s n:Nat}{cs0 cs:List (List Int)}{st:List dq}
theorem tu (hs:s≤3)(a:n<8):(dY s n).map n5=(List.range s).map λk=>((k:Nat):Int)+1:=of_decide_eq_true (List.all_eq_true.mp (List.all_eq_true.mp Ag.2.1 s (List.mem_range.mpr (by omega))) n (List.mem_range.mpr a))
theorem Ah (hs:s≤3)(a:n<8){l:Int}(h:l∈dY s n):l≠0∧l.natAbs≤s:=by
 have:n5 l∈(dY s n).map n5:=List.mem_map_of_mem h;rw[tu hs a]at this;obtain⟨k,hk,e⟩:=List.mem_map.mp this;have:=List.mem_range.mp hk;unfold n5 at e;omega
theorem DO (hs:s≤3)(a:n<8):((dY s n).map n5).Nodup:=by
 rw[tu hs a];exact List.pairwise_map.mpr (List.Pairwise.imp (λh=>by omega) List.nodup_range)
theorem Iy (hs:s≤3)(c:s≤v)(a:n<8):KO v (P5 ((dY s n).map λl=>-l)):=by
 refine⟨?_,λkv hk=>?_⟩
 ·rw[List.map_map,List.map_map];have:=DO hs a;rwa[show(dY s n).map n5=(dY s n).map ((λx=>x.fst)∘(λl=>(n5 l,l))∘λl=>-l)from List.map_congr_left λx _=>(eL x).symm]at this
 ·obtain⟨l,hl,rfl⟩:=List.mem_map.mp hk;obtain⟨x,b,rfl⟩:=List.mem_map.mp hl;have:=Ah hs a b;exact⟨rfl,by omega,by rw[GS];omega⟩
theorem Iz (o:1≤v)(p:v≤3)(hs:s≤v)(q:n<2 ^ s)(no:xw (v:Int) cs0)(h:Nm v cs0 s n cs st):∃x,∃t∈n7 1 cs,∃w∈n7 1 cs,(∀y∈t.2,y=x∨-y∈(dY s n).map λl=>-l)∧∀y∈w.2,y=-x∨-y∈(dY s n).map λl=>-l:=by
 have J:2 ^ s≤8:=G4 (n:=2) (by omega) (l7 hs p);have g:∀{y:Int},-y∈(dY s n).map (λl=>-l)↔y∈dY s n:=λ{y}=>by
  rw[List.mem_map];exact⟨λ⟨a,o,L⟩=>by rw[show y=a by omega];exact o,λh=>⟨y,h,rfl⟩⟩
 by_cases e:s=v
 ·subst e;obtain⟨u,rfl⟩:∃u,s=u+1:=⟨s-1,by omega⟩
  obtain⟨m,F,e⟩:=List.any_eq_true.mp (List.all_eq_true.mp (List.all_eq_true.mp Ag.2.2 u (List.mem_range.mpr (by omega))) n (List.mem_range.mpr q));have e:=of_decide_eq_true e;obtain⟨c,A,f⟩:=no m (List.mem_range.mp F);obtain⟨k,hk⟩:=oq 1 (h.stp.Fq A);have key:∀y∈c,-y∈(dY (u+1) n).map λl=>-l:=λy b=>by
   have B:=List.any_eq_false.mp f y b;rw[show((u+1:Nat):Int)=(u:Int)+1 from rfl,←e]at B;have hl:=(h.lit c (h.stp.Fq A)).2 y b;have:n5 y∈(dY (u+1) n).map n5:=by
    rw[tu p (by omega)];exact List.mem_map.mpr ⟨y.natAbs-1,List.mem_range.mpr (by omega),by unfold n5;omega⟩
   obtain⟨z,E,G⟩:=List.mem_map.mp this;have:z=y∨z=-y:=by unfold n5 at G;omega
   rcases this with r|r
   ·exact g.mpr (r▸E)
   ·exact absurd (decide_eq_true (List.mem_map.mpr ⟨z,E,by omega⟩)) B
  exact⟨0,(k,c),hk,(k,c),hk,λy b=>.inr (key y b),λy b=>.inr (key y b)⟩
 ·have d:s<v:=by omega
  obtain⟨H,I⟩:=of_decide_eq_true (List.all_eq_true.mp (List.all_eq_true.mp Ag.1 s (List.mem_range.mpr (by omega))) n (List.mem_range.mpr q));have N:2 ^(s+1)=2 ^ s+2 ^ s:=by rw[jM];omega
  obtain⟨t,i⟩:=oq 1 (h.abv d n (by omega));obtain⟨w,j⟩:=oq 1 (h.abv d (n+2 ^ s) (by omega));refine⟨(s:Int)+1,_,i,_,j,λy b=>?_,λy b=>?_⟩
  ·rw[H]at b;rcases List.mem_append.mp b with z|z
   ·exact .inr (g.mpr z)
   ·exact .inl (List.mem_singleton.mp z)
  ·rw[I]at b;rcases List.mem_append.mp b with z|z
   ·exact .inr (g.mpr z)
   ·exact .inl (List.mem_singleton.mp z)
noncomputable def Dx (v:Nat)(cs0 cs:List (List Int))(st:List dq)(b c d e f g h a:Option C):k0:=[some (.sh (.tup [.int (v:Int),.lst (u8 cs0)])),some (.ow false (.dct (n8 (n7 1 cs)))),b,some (.ow false (.lst (st.map o8))),c,d,e,f,g,h,a]
theorem vF (m:1≤v)(b:v≤3)(hs:s≤v)(o:n<2 ^ s)(no:xw (v:Int) cs0)(h:Nm v cs0 s n cs st)(S:cs0.length≤40)(g q t w y z c:Option C):∃a,a.length≤300∧Ay (n7 1 cs) (dY s n) a∧Tn (w6 5) bz (D.int (0+(n:Int))) (Dx v cs0 cs st g (some (.sh (.int (s:Int)))) q t w y z c) λρ=>∃A B E i F e,ρ=Dx v cs0 (cs++[dY s n]) (st++[(((cs.length+1:Nat):Int),dY s n,a)]) g (some (.sh (.int (s:Int)))) A B E i F e:=by
 have i:2 ^ s≤8:=G4 (n:=2) (by omega) (l7 hs b);have G:2 ^(v+1)≤16:=G4 (n:=2) (by omega) (DZ b);have cnt:=h.cnt;rw[jM 2 s]at cnt;have sl:=h.stp.len;have tb:=Em (v:=v) (cs:=cs) (by omega) h.lit;have ko:=Iy (v:=v) (s:=s) (n:=n) (by omega) hs (by omega);obtain⟨x,T,H,U,I,J,N⟩:=Iz m b hs o no h;obtain⟨r,f1,j⟩:=zM (by omega) tb ko H I J N;obtain⟨u,O,X⟩:=CB (by omega) tb ko j;have l:Ay (n7 1 cs) (dY s n) r∧r.length≤300:=by
  obtain⟨L,P,k,d,rfl,p,Q,R⟩:=j;have:=(p.len tb ko).2;refine⟨⟨P,k,P5 L,d,rfl,?_,Q,R⟩,by rw[List.length_append,List.length_singleton];omega⟩;unfold B5;rw[cu _ [] (by have:=ko.nd;rwa[List.map_map]at this) λ_ _=>rfl,List.nil_append];exact(p.ko tb ko).2
 refine⟨r,l.2,l.1,?_⟩;rw[C9];have:=gN (n:=s) (by omega);have Y:y9 (w6 0) F1 (g9 iY (mC (.int 1)) (g9 aM (mC (.int 2)) (g9 R4 (g9 kU (f8 1) (g9 x0 (O3 (f6 (mC (.int 1)) (f6 (mC (.int 2)) (f6 (mC (.int 4)) (f6 (mC (.int 8)) i7))))) (f8 0))) (mC (.int 2))))) [none,some (.sh (.int (n:Int)))] ((List.range s).map λk=>D.int (0+((k:Nat):Int)))=some (((List.range s).map (GG n)).map D.int):=by
  rw[List.map_map];refine S4 λk hk=>?_;have hk:=List.mem_range.mp hk;rw[C9];have:x0 (.lst [.int 1,.int 2,.int 4,.int 8]) (.int (k:Int))=some (.val (.int (EG k))):=by
   have:k=0∨k=1∨k=2:=by omega
   rcases this with rfl|rfl|rfl<;>rfl
  have:=yh (n:=(n:Int)) (k:Int);walk_at"d"
 have Z:y9 (w6 0) F1 (g9 aM (g9 A3 (f8 0) (mC (.int 1))) (g9 x0 (f8 1) (f8 0))) [none,some (.sh (.lst (((List.range s).map (GG n)).map D.int)))] ((List.range s).map λk=>D.int (0+((k:Nat):Int)))=some ((dY s n).map D.int):=by
  rw[show(dY s n).map D.int=(List.range s).map λ(k:Nat)=>D.int (((k:Int)+1)*GG n k)from List.map_map];refine S4 λk hk=>?_;have hk:=List.mem_range.mp hk;rw[C9];have:=zb (f:=D.int) (xs:=(List.range s).map (GG n)) (k:=k) (x:=GG n k) (by rw[List.getElem?_map,List.getElem?_range hk];rfl);walk_at"d"
 have:=Ac (dY s n);have cl:(dY s n).length=s:=by unfold dY;rw[List.length_map,List.length_range]
 have:=Cm o8 st;have:=L7 r;have:(dR (.val (.tup [.int 2,.int u])) && [D.lst (O.map D.int)].all U4)=true:=by
  show(true&&(List.all _ _&&true))=true;rw[z8];rfl
 walk_at"t"
 exact⟨_,_,_,_,_,_,by unfold Dx;rw[List.map_append,show((cs.length+1:Nat):Int)=(cs0.length:Int)+(st.length:Int)+1 by omega];rfl⟩
theorem Ce (i:1≤v)(g:v≤3)(hs:s≤v)(j:n<2 ^ s)(k:0<s)(h:Nm v cs0 s n cs st){b:List Int}(hl:b.length≤300)(go:Ay (n7 1 cs) (dY s n) b):Nm v cs0 s (n+1) (cs++[dY s n]) (st++[(((cs.length+1:Nat):Int),dY s n,b)]):=by
 have o:2 ^ s≤8:=G4 (n:=2) (by omega) (l7 hs g);have cl:(dY s n).length=s:=by unfold dY;rw[List.length_map,List.length_range]
 have lit:=λl hl=>Ah (s:=s) (n:=n) (l:=l) (by omega) (by omega) hl;refine⟨.snoc h.stp (λe=>by rw[e]at cl;simp at cl;omega) hl go ⟨λl hl=>by have:=lit l hl;omega,λl hl f=>?_⟩,by have:=h.cnt;rw[List.length_append,List.length_singleton];omega,λm f=>?_,λa m f=>List.mem_append_left _ (h.abv a m f),λc d=>?_⟩
 ·have:=sk (DO (s:=s) (n:=n) (by omega) (by omega)) hl f (eL l).symm;have:=(lit l hl).1;omega
 ·by_cases e:m=n
  ·rw[e];exact List.mem_append_right _ List.mem_cons_self
  ·exact List.mem_append_left _ (h.now m (by omega))
 ·rcases List.mem_append.mp d with d|d
  ·exact h.lit c d
  ·rw[List.mem_singleton]at d;subst d;exact⟨by omega,λl hl=>by have:=lit l hl;omega⟩
theorem xH (d:cs0.length≤40):∃a,forL (w6 2) bA ((List.range cs0.length).map λk=>D.int (0+((k:Nat):Int))) [some (.sh (.tup [.int (v:Int),.lst (u8 cs0)])),some (.ow false (.dct [])),none,none,none,none,none,none,none,none,none]=some (.nx [some (.sh (.tup [.int (v:Int),.lst (u8 cs0)])),some (.ow false (.dct (n8 (n7 1 cs0)))),a,none,none,none,none,none,none,none,none]):=by
 obtain⟨_,c,a,rfl⟩:=sT (tg:=w6 2) (b:=bA) (f:=λk=>D.int (0+((k:Nat):Int))) (λk ρ=>∃a,ρ=[some (.sh (.tup [.int (v:Int),.lst (u8 cs0)])),some (.ow false (.dct (n8 (n7 1 (cs0.take k))))),a,none,none,none,none,none,none,none,none]) cs0.length (ρ:=[some (.sh (.tup [.int (v:Int),.lst (u8 cs0)])),some (.ow false (.dct [])),none,none,none,none,none,none,none,none,none]) (λk ρ hk ⟨a,e⟩=>by
  subst e;rw[C9,List.take_succ,List.getElem?_eq_getElem hk];have:=zd (List.getElem?_eq_getElem hk);walk_at"t";exact⟨_,rfl⟩) ⟨none,rfl⟩
 rw[List.take_length]at c;exact⟨a,c⟩
def Kw (v:Nat)(cs0:List (List Int))(s:Nat)(b:Option C)(n:Nat)(ρ:k0):Prop:=∃cs st c d e f g a,ρ=Dx v cs0 cs st b (some (.sh (.int (s:Int)))) c d e f g a∧(Nm v cs0 s n cs st∧(s=0→n=0)∨s=0∧n=1∧Res v cs0 (none,st))
theorem Bn (g:1≤v)(j:v≤3)(hs:s≤v)(no:xw (v:Int) cs0)(r:cs0.length≤40){i:Option C}{ρ:k0}(h:Kw v cs0 s i 0 ρ):∃ρ',forL (w6 5) bz ((List.range (2 ^ s)).map λk=>D.int (0+((k:Nat):Int))) ρ=some (.nx ρ')∧Kw v cs0 s i (2 ^ s) ρ':=by
 refine sT (f:=λk=>D.int (0+((k:Nat):Int))) (Kw v cs0 s i) (2 ^ s) (λn ρ d ⟨cs,st,t,u,w,x,A,l,e,h⟩=>?_) h;subst e;have h:Nm v cs0 s n cs st:=by
  rcases h with⟨h,_⟩ | ⟨g,B,_⟩
  ·exact h
  ·rw[g,B]at d;exact absurd d (by decide)
 obtain⟨E,hl,go,m,o,a,b,F,G,H,I,J,p,c⟩:=vF g j hs d no h r i t u w x A l;refine⟨m,o,a,b,_,_,F,G,H,I,J,p,c,?_⟩;by_cases z:s=0
 ·have q:n=0:=by rw[z]at d;exact Nat.lt_one_iff.mp d
  right;refine⟨z,by rw[q],?_⟩;rw[z,q]at go⊢;have:=h.cnt;have:=h.stp.len;have L:2 ^(v+1)≤16:=G4 (n:=2) (by omega) (DZ j);exact .none h.stp (by omega) (λc N=>(h.lit c N).1) hl go
 ·exact .inl ⟨Ce g j hs d (by omega) h hl go,λy=>absurd y z⟩
def Kv (v:Nat)(cs0:List (List Int))(b:Option C)(k:Nat)(ρ:k0):Prop:=∃cs st c d e f g h a,ρ=Dx v cs0 cs st b c d e f g h a∧(k≤v∧Nm v cs0 (v-k) 0 cs st∨k=v+1∧Res v cs0 (none,st))
theorem xI (G:1≤v)(H:v≤3)(no:xw (v:Int) cs0)(I:cs0.length≤40){o2:Option C}{ρ:k0}(h:Kv v cs0 o2 0 ρ):∃ρ',forL (w6 4) bx ((List.range (v+1)).map λk=>D.int ((v:Int)-((k:Nat):Int))) ρ=some (.nx ρ')∧Kv v cs0 o2 (v+1) ρ':=by
 refine sT (f:=λk=>D.int ((v:Int)-((k:Nat):Int))) (Kv v cs0 o2) (v+1) (λk ρ hk ⟨cs,st,J,p,q,r,u,w,d,e,h⟩=>?_) h;subst e;obtain⟨_,h⟩:k≤v∧Nm v cs0 (v-k) 0 cs st:=by
  rcases h with h|h
  ·exact h
  ·omega
 obtain⟨s,hs⟩:∃s,s=v-k:=⟨_,rfl⟩
 rw[←hs]at h;have es:(v:Int)-(k:Int)=(s:Int):=by omega
 rw[es];obtain⟨_,N,g,i,x,A,B,E,F,l,rfl,h'⟩:=Bn G H (by omega) no I ⟨cs,st,p,q,r,u,w,d,rfl,.inl ⟨h,λ_=>rfl⟩⟩;have:ints1 [.int (EG (s:Int))]=some ((List.range (2 ^ s)).map λk=>D.int (0+((k:Nat):Int))):=by
  have:s=0∨s=1∨s=2∨s=3:=by omega
  rcases this with e|e|e|e<;>rw[e]<;>exact gN (by decide)
 have:=DE (j:=(s:Int)) (by omega) (by omega);have:Tn (w6 4) bx (.int (s:Int)) (Dx v cs0 cs st o2 J p q r u w d) (·=Dx v cs0 g i o2 (some (.sh (.int (s:Int)))) x A B E F l):=by
  walk_at"t"
  rfl
 obtain⟨n,o,a,b,c⟩:=this;refine⟨n,o,a,b,g,i,_,x,A,B,E,F,l,c,?_⟩;rcases h' with⟨h',z⟩ | ⟨z,_,h'⟩
 ·left;have:s≠0:=λy=>by have:=z y;rw[y]at this;cases this
  obtain⟨t,rfl⟩:∃t,s=t+1:=⟨s-1,by omega⟩
  refine⟨by omega,?_⟩;rw[show v-(k+1)=t by omega];have:=h'.cnt;rw[jM 2 (t+1)]at this;exact⟨h'.stp,by omega,λ_ h=>absurd h (eU _),λ_ m L=>h'.now m L,h'.lit⟩
 ·exact .inr ⟨by omega,h'⟩
theorem CC (d:1≤v)(e:v≤3)(no:xw (v:Int) cs0)(lit:∀c∈cs0,c.length≤100∧∀l∈c,l≠0∧l.natAbs≤v)(a:cs0.length≤40):∃r,aZ [.tup [.int (v:Int),.lst (u8 cs0)]]=some (.ret (.own (.lst (r.map o8))) [])∧Res v cs0 (none,r):=by
 obtain⟨b,g⟩:=xH (v:=v) a;obtain⟨_,i,cs,st,j,m,o,p,q,s,f,rfl,h⟩:=xI d e no a (o2:=b) (ρ:=Dx v cs0 cs0 [] b none none none none none none none) ⟨_,_,_,_,_,_,_,_,_,rfl,.inl ⟨u6 _,⟨.nil,by rw[List.length_nil,M5];rfl,λ_ h=>absurd h (eU _),λh=>absurd h (n0 v),lit⟩⟩⟩;have R:Res v cs0 (none,st):=by
  rcases h with h|h
  ·omega
  ·exact h.2
 have:sF [.int (v:Int),.int (-1),.int (-1)]=some ((List.range (v+1)).map λk=>D.int ((v:Int)-((k:Nat):Int))):=by
  have:v=1∨v=2∨v=3:=by omega
  rcases this with rfl|rfl|rfl<;>rfl
 have:=gN (n:=cs0.length) (by omega);exact⟨st,by walk_at"r",R⟩
end
theorem mx {M:List Int}:∀(a:List Int) (ts:C3),(∀l∈a,l∈M)→(∀kv∈ts,kv.2∈M)→∀kv∈a.foldl (λts l=>E5 ts (n5 l) l) ts,kv.2∈M
 | [],_,_,h=>h
 |l::a,ts,b,h=>mx a _ (λx c=>b x (List.mem_cons_of_mem _ c)) λkv hk=>by
  have hl:=b l List.mem_cons_self;have hk:kv∈E5 ts (n5 l) l:=hk;unfold E5 at hk;split at hk
  ·obtain⟨q,d,rfl⟩:=List.mem_map.mp hk;split
   ·exact hl
   ·exact h _ d
  ·rcases List.mem_append.mp hk with hk|hk
   ·exact h _ hk
   ·rw[List.mem_singleton.mp hk];exact hl
section
variable {v:Nat}{T:Tab}{M c hs:List Int}{cs0 cs:List (List Int)}{st r:List dq}
theorem mN (h:Ay T c hs)(ok:∀l∈M,-l∉M)(m:∀l∈c,l∈M∨-l∈M)(a:∀h∈hs,∀d,E8 T h=some d→∃l∈d,l∈M):∃l∈c,l∈M:=by
 apply O7;intro no;obtain⟨n,k,ts,d,rfl,g,hl,f⟩:=h;have i:∀{ts:C3} {d:List Int},(∀kv∈ts,kv.2∈M)→(∃l∈d,l∈M)→∃l∈p7 ts d,l∈M:=λh ⟨l,o,j⟩=>⟨l,T3.mpr ⟨o,λz=>ok l j (h _ (T4 z))⟩,j⟩
 have key:(∀h∈n,∀d,E8 T h=some d→∃l∈d,l∈M)→∀kv∈ts,kv.2∈M:=by
  clear a f hl;induction g with
  |nil=>exact λ_=>mx _ _ (λl hl=>by
    obtain⟨x,b,rfl⟩:=List.mem_map.mp hl;exact(m x b).resolve_left λz=>no ⟨x,b,z⟩) λ_ h=>nomatch h
  | @snoc ts hs h l c g hl f q ih=>
   intro a kv hk;have ih:=ih λx b=>a x (List.mem_append_left _ b);rcases List.mem_append.mp hk with hk|hk
   ·exact ih kv hk
   ·obtain⟨y,e,p⟩:=i ih (a h (List.mem_append_right _ List.mem_cons_self) c hl);rw[f,List.mem_singleton]at e;rw[List.mem_singleton.mp hk,←e];exact p
 obtain⟨y,e,_⟩:=i (key λx b=>a x (List.mem_append_left _ b)) (a k (List.mem_append_right _ List.mem_cons_self) d hl);rw[f]at e;cases e
noncomputable def nF:List dq→Int→Prop
 | [],_=>False
 |s::r,x=>nF r x∨(r=[]∨nF r s.1)∧x∈s.2.2∧x<s.1
theorem vv (S:gY v cs0 cs st)(ok:∀l∈M,-l∉M)(b:∀l:Int,l≠0→l.natAbs≤v→l∈M∨-l∈M):∀r,(r≠[]∧¬∀kv∈n7 1 cs,nF r kv.1→∃l∈kv.2,l∈M)→¬∀kv∈n7 1 cs0,nF (st++r) kv.1→∃l∈kv.2,l∈M:=by
 induction S with
 |nil=>exact λr h=>h.2
 | @snoc cs st c hs S e hl go a ih=>
  intro r h;rw[List.append_assoc];refine ih _ ⟨by simp,λH=>h.2 λkv hm f=>?_⟩;rw[ez]at hm;rcases List.mem_append.mp hm with hm|hm
  ·exact H kv hm (.inl f)
  ·rw[List.mem_singleton]at hm;subst hm;refine mN go ok (λl hl=>b l (λz=>a.2 l hl (by rw[z]at hl⊢;exact hl)) (a.1 l hl)) λx g d hd=>?_;have:=(z9 cs 1 _ (y0 hd)).2.1;refine H _ (y0 hd) (.inr ⟨.inr ?_,g,?_⟩)
   ·rwa[show((cs.length+1:Nat):Int)=1+(cs.length:Int) by omega]
   ·show x<((cs.length+1:Nat):Int);omega
theorem xy (R:Res v cs0 (none,r))(ok:∀l∈M,-l∉M)(a:∀l:Int,l≠0→l.natAbs≤v→l∈M∨-l∈M):¬∀kv∈n7 1 cs0,nF r kv.1→∃l∈kv.2,l∈M:=by
 cases R with
 | @none cs st hs S c e f go=>
  refine vv S ok a _ ⟨by simp,λH=>?_⟩;obtain⟨l,h,_⟩:=mN go ok (λ_ h=>nomatch h) λx b d hd=>by
   have:=(z9 cs 1 _ (y0 hd)).2.1;exact H _ (y0 hd) (.inr ⟨.inl rfl,b,by show x<((cs.length+1:Nat):Int);omega⟩)
  cases h
theorem Ci:((List.range 3).all λv=>(List.range 8).all λn=>(V2 ((v:Int)+1) n).all (λl=>!decide (-l∈V2 ((v:Int)+1) n))&&(List.range (v+1)).all λk=>decide ((k:Int)+1∈V2 ((v:Int)+1) n∨-((k:Int)+1)∈V2 ((v:Int)+1) n))=true:=by decide +kernel
structure IC (r:List dq) (N:Int):Prop where
 len:r.length≤501
 hnt:∀s∈r,s.2.2.length≤300∧∀h∈s.2.2,0<h
 num:∃st hs,r=st++[(N,[],hs)]∧∀s∈st,s.1≠N∧s.2.1≠[]
theorem ub (h:Ay (n7 1 cs) c hs):∀x∈hs,0<x:=by
 obtain⟨e,k,ts,d,rfl,g,hl,b⟩:=h;have z:∀{k:Int} {d:List Int},E8 (n7 1 cs) k=some d→0<k:=λh=>by
  have:=(z9 cs 1 _ (y0 h)).1;omega
 have key:∀x∈e,0<x:=by
  clear b hl;induction g with
  |nil=>exact λ_ h=>nomatch h
  |snoc g hl b f ih=>
   intro x a;rcases List.mem_append.mp a with a|a
   ·exact ih x a
   ·rw[List.mem_singleton.mp a];exact z hl
 intro x a;rcases List.mem_append.mp a with a|a
 ·exact key x a
 ·rw[List.mem_singleton.mp a];exact z hl
theorem gY.LW (S:gY v cs0 cs st):∀s∈st,s.1≤cs.length∧s.2.1≠[]∧s.2.2.length≤300∧∀h∈s.2.2,0<h:=by
 induction S with
 |nil=>exact λ_ h=>nomatch h
 | @snoc cs st c hs S a hl go b ih=>
  intro s h;rw[List.length_append,List.length_singleton];rcases List.mem_append.mp h with h|h
  ·have:=ih s h;exact⟨by omega,this.2⟩
  ·rw[List.mem_singleton.mp h];exact⟨Lq _,a,hl,ub go⟩
theorem jw (R:Res v cs0 (none,r)):∃N:Int,(cs0.length:Int)<N∧IC r N:=by
 cases R with
 | @none cs st hs S b c a go=>
  have:=S.len;have p:=S.LW;refine⟨((cs.length+1:Nat):Int),by omega,by rw[List.length_append,List.length_singleton];omega,λs h=>?_,st,hs,rfl,λs h=>⟨by have:=(p s h).1;omega,(p s h).2.1⟩⟩;rcases List.mem_append.mp h with h|h
  ·exact(p s h).2.2
  ·rw[List.mem_singleton.mp h];exact⟨a,ub go⟩
end
noncomputable abbrev aD:D:=.tup [.str [100,114,111,112],.tup []]
noncomputable def xv (v:Int)(cs0:List (List Int))(L:List D)(cs:List (List Int))(t:Int)(b:Bool)(A:List D)(a:Option C):k0:=[some (.sh (.int v)),some (.sh (.lst (u8 cs0))),some (.sh (.lst L)),some (.ob false (qy v cs.length t b)),some (.ow false (.lst A)),a,some (.ow true (.dct (n8 (n7 1 cs))))]
section
variable {v:Nat}{cs0 cs:List (List Int)}{st r:List dq}{c hs:List Int}{L A:List D}{N:Int}
theorem yd (f:cs.length≤500)(b:∀d∈cs,d.length≤100)(g:c.length≤100)(h:hs.length≤300)(a:LB v c)(e:Ay (n7 1 cs) c hs):IB (v:Int) cs c hs:=⟨ui (by omega) b,by omega,by omega,by omega,λl hl=>by have:=a.1 l hl;unfold n5;omega,a.2,e⟩
theorem tS {t:Int}(R:IB (v:Int) cs c hs)(a:A.length≤1000):x9 (xv v cs0 L cs t false A (some (.sh (o8 (((cs.length+1:Nat):Int),c,hs)))))=some (.nx (xv v cs0 L (cs++[c]) (t+1) c.isEmpty (A++[o8 (((cs.length+1:Nat):Int),c,hs)]) (some (.sh (o8 (((cs.length+1:Nat):Int),c,hs)))))):=by
 unfold xv;rw[List.length_append,List.length_singleton];exact D4 (cM (N8 (im rfl) rfl (k:=false) rfl)) rfl (j8 (be (gS rfl rfl (h7 (g4 rfl) j9) rfl rfl rfl rfl rfl (CD R) rfl)) (cN rfl (h7 (g4 rfl) j9) rfl rfl (p5 (by omega)) rfl))
theorem Bb (S:gY v cs0 cs st):cs.length≤500→(∀c∈cs,c.length≤100)→∀(t:Int) (b:Option C) (a:List D),A.length≤1→∃f i,forL (w6 5) x9 (st.map o8++a) (xv v cs0 L cs0 t false A b)=forL (w6 5) x9 a (xv v cs0 L cs f false (A++st.map o8) i):=by
 induction S with
 |nil=>exact λ_ _ t b _ _=>⟨t,b,by rw[List.map_nil,List.append_nil];rfl⟩
 | @snoc cs st c hs S g hl go j ih=>
  intro k h t b a l;have sl:=S.len;rw[List.length_append,List.length_singleton]at k;obtain⟨f,i,e⟩:=ih (by omega) (λd hd=>h d (List.mem_append_left _ hd)) t b (o8 (((cs.length+1:Nat):Int),c,hs)::a) l;have s:=tS (cs0:=cs0) (L:=L) (A:=A++st.map o8) (t:=f) (yd (v:=v) (by omega) (λd hd=>h d (List.mem_append_left _ hd)) (h c (List.mem_append_right _ List.mem_cons_self)) hl j go) (by rw[List.length_append,List.length_map];omega);rw[show c.isEmpty=false by cases c with|nil=>exact absurd rfl g|cons _ _=>rfl]at s;refine⟨f+1,some (.sh (o8 (((cs.length+1:Nat):Int),c,hs))),?_⟩;rw[List.map_append,List.append_assoc,←List.append_assoc A];exact e.trans (N5 rfl s rfl)
theorem take_drop {t:Int}{T:Tab}{g:Int}:N7 (qy v g t false) (n8 T) [aD]=some (.ret .v1 (qy v g (t+1) false) (n8 T)):=by
 show runM L4 3 2 _ _ _=_;have d:B7 (qy v g t false) (n8 T) [.tup []]=some (.ret .v1 (qy v g t false) (n8 T)):=gw (den:=A5) (n:=4) (j:=3) (fI (F5 (g4 rfl) rfl rfl) uK) rfl;exact gw (j8 (D4 (cM (N8 (im rfl) rfl (k:=false) rfl)) rfl (D4 (p9 (j4 (j4 (g4 rfl) o6 rfl rfl rfl) o6 rfl rfl rfl)) rfl (be (gS rfl rfl (h7 (j4 (g4 rfl) o6 rfl rfl rfl) j9) rfl rfl rfl rfl rfl d rfl)))) (uQ rfl o6 rfl rfl)) rfl
noncomputable def jh (b:Bool):List D:=if b=true then [aD]else []
theorem Ig (R:Res v cs0 (none,r))(b:Bool):T6 [.int (v:Int),.lst (u8 cs0),.lst (jh b++r.map o8)]=some (.ret (.own (.lst (jh b++r.map o8))) []):=by
 show n3 Q5 7 [false,false,false] _=_;cases R with
 | @none cs st hs S j g l go=>
  have sl:=S.len;generalize i:jh b++(st++[(((cs.length+1:Nat):Int),[],hs)]).map o8=L;have key:∀{A:List D} {t:Int} {o5:Option C},A.length≤1→∃a f,forL (w6 5) x9 ((st++[(((cs.length+1:Nat):Int),[],hs)]).map o8) (xv v cs0 L cs0 t false A o5)=some (.nx (xv v cs0 L (cs++[[]]) a true (A++(st++[(((cs.length+1:Nat):Int),[],hs)]).map o8) f)):=λ{A t o5} m=>by
   obtain⟨a,f,e⟩:=Bb (L:=L) S j g t o5 [o8 (((cs.length+1:Nat):Int),[],hs)] m;have s:=tS (cs0:=cs0) (L:=L) (A:=A++st.map o8) (t:=a) (yd (v:=v) (c:=[]) (by omega) g (u6 _) l ⟨λ_ h=>(nomatch h),λ_ h=>nomatch h⟩ go) (by rw[List.length_append,List.length_map];omega);refine⟨a+1,some (.sh (o8 (((cs.length+1:Nat):Int),[],hs))),?_⟩;rw[List.map_append,←List.append_assoc];exact e.trans (N5 rfl s uK)
  have all:∃a f,forL (w6 5) x9 L (xv v cs0 L cs0 0 false [] none)=some (.nx (xv v cs0 L (cs++[[]]) a true L f)):=by
   cases b with
   |false=>
    obtain⟨a,f,e⟩:=key (A:=[]) (t:=0) (o5:=none) (u6 _);exact⟨a,f,by subst i;exact e⟩
   |true=>
    obtain⟨a,f,e⟩:=key (A:=[aD]) (t:=0+1) (o5:=some (.sh aD)) (g8 _);refine⟨a,f,?_⟩;have:x9 (xv v cs0 L cs0 0 false [] (some (.sh aD)))=some (.nx (xv v cs0 L cs0 (0+1) false [aD] (some (.sh aD)))):=D4 (cM (N8 (im rfl) rfl (k:=false) rfl)) rfl (j8 (be (gS rfl rfl (h7 (g4 rfl) j9) rfl rfl rfl rfl rfl take_drop rfl)) (cN rfl (h7 (g4 rfl) j9) rfl rfl (p5 (u6 _)) rfl));have e:=N5 (tg:=w6 5) (d:=aD) (ρ:=xv v cs0 L cs0 0 false [] none) rfl this e;subst i;exact e
  obtain⟨a,f,e⟩:=all;exact L9 (j8 (CO (h7 (g4 rfl) (h7 (g4 rfl) j9)) rfl (CG (by omega)) ⟨xu rfl,xu rfl,by decide,rfl⟩ rfl) (j8 (u3 (aC j9 rfl (i5 rfl)) rfl) (j8 (gT (F5 (g4 rfl) rfl rfl) e rfl) (j8 (A0 (cM (N8 (im rfl) rfl (k:=true) rfl)) rfl O9) (D3 (g4 rfl) rfl))))) rfl
noncomputable def HJ:Option dq→D
 |none=>aD
 |some s=>o8 s
theorem zL {s:dq}(h:s.2.2.length≤300∧∀h∈s.2.2,0<h):v3 [o8 s]=some (.ret (.val (.bl true)) []):=by
 have:y9 (w6 0) F1 (g9 (Z7 λi j=>decide (j<i)) (f8 0) (mC (.int 0))) [none] (s.2.2.map D.int)=some ((s.2.2.map λh=>decide (0<h)).map D.bl):=by
  rw[List.map_map];walk_at"c"
 have a:=gX (s.2.2.map λh=>decide (0<h));rw[List.all_map,show s.2.2.all (id∘λh=>decide (0<h))=true from List.all_eq_true.mpr λx b=>decide_eq_true (h.2 x b)]at a;have:=h.1;have e:R8 (.str [97,100,100]) (.str [97,100,100])=some (.val (.bl true)):=rfl;walk_at"r"
theorem mX {os:List (Option dq)}(h:∀s,some s∈os→s.2.2.length≤300∧∀h∈s.2.2,0<h):y9 (w6 0) F1 (o9 [false] v3 (f6 (f8 0) i7)) [none] (os.map HJ)=some ((os.map fT).map D.bl):=by
 rw[List.map_map];refine S4 λo a=>?_;cases o with
 |none=>
  have:v3 [HJ none]=some (.ret (.val (.bl false)) []):=by kernel_rfl
  walk_at"d"
 |some s=>
  have:v3 [HJ (some s)]=some (.ret (.val (.bl true)) []):=zL (h s a);walk_at"d"
theorem zA (s:dq):y9 (w6 0) (p6 (g9 (Z7 λi j=>decide (i<j)) (f8 0) (g9 x0 (f8 1) (mC (.int 1))))) (M7 (f6 (f8 0) (f6 (mC (.bl true)) i7))) [none,some (.sh (o8 s))] (s.2.2.map D.int)=some ((s.2.2.filter λh=>decide (h<s.1)).map λh=>D.tup [.int h,.bl true]):=
 O5 λx _=>turn_if (ρ1:=[some (.sh (.int x)),some (.sh (o8 s))]) (ρ2:=[some (.sh (.int x)),some (.sh (o8 s))]) rfl (p9 (j4 (g4 rfl) (j4 (g4 rfl) o6 rfl rfl rfl) rfl rfl rfl)) λ_=>⟨_,_,_,aB (h7 (g4 rfl) (h7 o6 j9)) rfl (i5 rfl),rfl⟩
theorem sZ (a:List Int):aE [.lst (a.map λk=>D.tup [.int k,.bl true])]=some (.own (.dct (keyed (a.foldl P7 [])))):=by
 show(V0 _).map _=_;rw[cF];show some (W.own (.dct (dH (keyed []) (keyed a))))=_;rw[bT]
theorem yt (P:IC r N){pre post:List dq}{s:dq}(e:r.reverse=pre++s::post):pre=[]∧s.1=N∧s.2.1=[]∨pre≠[]∧s.1≠N∧s.2.1≠[]:=by
 obtain⟨st,hs,b,c⟩:=P.num;rw[b,List.reverse_append,List.reverse_singleton,List.singleton_append]at e;cases pre with
 |nil=>
  rw[List.nil_append,List.cons.injEq]at e;rw[←e.1];exact .inl ⟨rfl,rfl,rfl⟩
 |cons a pre=>
  rw[List.cons_append,List.cons.injEq]at e;exact .inr ⟨by simp,c s (List.mem_reverse.mp (by rw[e.2];simp))⟩
noncomputable def wE (L:List D)(W:List Int)(a:Option C):k0:=[some (.sh (.lst L)),some (.ow false (.dct (keyed W))),a]
theorem wV (P:IC r N):∃W,T5 [.lst (r.map o8)]=some (.ret (.own (.dct (keyed W))) [])∧∀x,x∈W↔x=N∨nF r x:=by
 have y:=P.len;obtain⟨_,j,W,a,rfl,m,d⟩:=Cz (tg:=w6 2) (b:=dJ) (f:=o8) (λpre ρ=>∃W a,ρ=wE (r.map o8) W a∧W.length≤1+300*pre.length∧∀x,x∈W↔x=N∨nF pre.reverse x) r.reverse (ρ:=wE (r.map o8) [N] none) (λpre s post ρ e ⟨W,a,n,m,d⟩=>by
  subst n;have A:=P.hnt s (List.mem_reverse.mp (by rw[e];simp));have le:=congrArg List.length e;rw[List.length_reverse,List.length_append,List.length_cons]at le;have cond:s.1∈W↔pre.reverse=[]∨nF pre.reverse s.1:=by
   rw[d];rcases yt P e with⟨g,i,_⟩ | ⟨g,i,_⟩
   ·exact⟨λ_=>.inl (by rw[g];rfl),λ_=>.inl i⟩
   ·exact⟨λh=>.inr (h.resolve_left i),λh=>.inr (h.resolve_left λz=>g (List.reverse_eq_nil_iff.mp z))⟩
  have t:=in_keyed W s.1;rw[List.length_append,List.length_singleton,List.reverse_append];by_cases h:s.1∈W
  ·have B:=List.length_filter_le (λh=>decide (h<s.1)) s.2.2;have c:=zA s;generalize o:s.2.2.filter (λh=>decide (h<s.1))=F at *;have p:=dQ F [];rw[List.length_nil]at p;have E:=dQ (F.foldl P7 []) W;refine tn rfl (D4 (p9 (j4 (j4 (g4 rfl) o6 rfl rfl rfl) (g4 rfl) rfl rfl t)) (decide_eq_true h) (nc rfl (h7 (E1 (h7 (ca (F5 (j4 (g4 rfl) o6 rfl rfl rfl) rfl rfl) (p5 (by rw[List.length_map];omega)) c rfl (.inl (by rw[List.all_map,List.all_eq_true];exact λ_ _=>rfl))) j9) rfl (sZ F)) j9) rfl rfl (show _≤1000000 by rw[eB,eB];omega) (by rw[bT];rfl))) ⟨(F.foldl P7 []).foldl P7 W,some (.sh (o8 s)),rfl,by omega,λx=>?_⟩;rw[cK,cK,d,or_assoc,←o,List.mem_filter,decide_eq_true_eq];show _↔x=N∨nF pre.reverse x∨(pre.reverse=[]∨nF pre.reverse s.1)∧x∈s.2.2∧x<s.1;constructor
   ·rintro (z|z|z|z)
    ·exact .inl z
    ·exact .inr (.inl z)
    ·cases z
    ·exact .inr (.inr ⟨cond.mp h,z⟩)
   ·rintro (z|z|z)
    ·exact .inl z
    ·exact .inr (.inl z)
    ·exact .inr (.inr (.inr z.2))
  ·refine tn rfl (A0 (p9 (j4 (j4 (g4 rfl) o6 rfl rfl rfl) (g4 rfl) rfl rfl t)) (decide_eq_false h) O9) ⟨W,some (.sh (o8 s)),rfl,by omega,λx=>?_⟩;rw[d];show _↔x=N∨nF pre.reverse x∨(pre.reverse=[]∨nF pre.reverse s.1)∧x∈s.2.2∧x<s.1;exact⟨λz=>z.imp id .inl,λz=>z.imp id λz=>z.elim id λz=>absurd (cond.mpr z.1) h⟩) ⟨_,_,rfl,lD _ _,λx=>by rw[List.mem_singleton];exact⟨.inl,λh=>h.elim id nofun⟩⟩
 refine⟨W,?_,by rwa[List.reverse_reverse]at d⟩;obtain⟨st,hs,q,G⟩:=P.num;have k:=mX (os:=r.map some) λs h=>P.hnt s (by obtain⟨x,u,e⟩:=List.mem_map.mp h;cases e;exact u);have l:=gX ((r.map some).map fT);rw[show List.all ((r.map some).map fT) id=true by rw[List.map_map,List.all_map,List.all_eq_true];exact λ_ _=>rfl]at l;rw[show(r.map some).map HJ=r.map o8 from List.map_map]at k;rw[List.map_reverse]at j;have v:x0 (.lst (r.map o8)) (.int (-1))=some (.val (o8 (N,[],hs))):=by
  show(L2.fN _ _).map _=_;rw[q,List.map_append];show(L2.fN (st.map o8++[o8 (N,[],hs)]) (-1)).map L3.W.val=_;rw[qX];rfl
 have w:∀{a:Option C},qr (g9 x0 (g9 x0 (f8 0) (cZ V1 (mC (.int 1)))) (mC (.int 1))) true [some (.sh (.lst (r.map o8))),none,a]=some (.ok (.own (.dct (keyed [N]))) [some (.sh (.lst (r.map o8))),none,a]):=by
  intro a;unfold qr;rw[j4 (j4 (g4 rfl) (bd o6 rfl rfl) rfl rfl v) o6 rfl rfl rfl];rfl
 exact L9 (j8 (A0 (cM (N8 (E1 (h7 (ca (F5 (g4 rfl) rfl rfl) (p5 (by rw[List.length_map];omega)) k rfl (.inl (bZ _))) j9) rfl l) rfl rfl)) rfl O9) (j8 (u3 w rfl) (j8 (gT (sX (h7 (g4 rfl) j9) rfl) j rfl) (D3 (g4 rfl) rfl)))) rfl
theorem zJ (P:IC r N):T5 [.lst (jh true++r.map o8)]=some (.ret (.val .v1) []):=by
 have d:=P.len;have a:=mX (os:=none::r.map some) λs h=>P.hnt s (by
  rcases List.mem_cons.mp h with h|h
  ·cases h
  ·obtain⟨x,b,e⟩:=List.mem_map.mp h;cases e;exact b)
 have c:=gX ((none::r.map some).map fT);rw[show(none::r.map some).map HJ=jh true++r.map o8 from congrArg (aD::·) List.map_map]at a;have f:(jh true++r.map o8).length≤1000:=by
  show(aD::r.map o8).length≤_;rw[List.length_cons,List.length_map];omega
 generalize jh true++r.map o8=L at *;exact L9 (Z3 (D4 (cM (N8 (E1 (h7 (ca (F5 (g4 rfl) rfl rfl) (p5 (by omega)) a rfl (.inl (bZ _))) j9) rfl c) rfl rfl)) rfl (D3 o6 rfl))) rfl
theorem yc {n:Nat}(h:n≤1000):ints2 [.int 1,.int ((n:Int)+1)]=some ((eW n).map D.int)∧gK [.int 1,.int ((n:Int)+1)]=some (.own (.lst ((eW n).map D.int))):=by
 have e:((n:Int)+1-1).toNat=n:=by omega
 constructor
 ·show cm _ (some ((List.range ((n:Int)+1-1).toNat).map _))=_;rw[e,List.map_map];exact v6 ⟨by decide,by decide,by omega,by omega⟩
 ·show cm _ (some (W.own (.lst ((List.range ((n:Int)+1-1).toNat).map _))))=_;rw[e,List.map_map];exact v6 ⟨by decide,by decide,by omega,by omega,by omega⟩
theorem CH (R:Res v cs0 (none,r))(b:Bool):∃p:Int→Bool,Z2 [.int (v:Int),.lst (u8 cs0),.lst (jh b++r.map o8)]=some (.ret (.own (.lst (((eW cs0.length).filter p).map D.int))) [])∧∀x∈eW cs0.length,p x=true↔b=true∨nF r x:=by
 obtain⟨N,l,P⟩:=jw R;have m:cs0.length≤500:=by
  cases R with
  |none S o=>have:=S.len;omega
 have e:=Ig R b;have f:=(yc (n:=cs0.length) (by omega)).1;have ln:=oA cs0;have g:(dR (.own (.lst (jh b++r.map o8)))&&([]:List D).all U4)=true:=by
  show(List.all _ _&&true)=true;rw[Y4,List.all_append,k6];exact⟨by cases b<;>rfl,by rw[List.all_map,List.all_eq_true];exact λs _=>qF s⟩
 cases b with
 |true=>
  have a:=zJ P;have c:y9 (w6 0) (qp (p6 (cZ (λd=>vB (aw d)) (f8 1))) (p6 (g9 inD (f8 0) (f8 1)))) (f8 0) [none,some (.sh .v1)] ((eW cs0.length).map D.int)=some (((eW cs0.length).filter λ_=>true).map D.int):=
   O5 λx _=>turn_if (ρ1:=[some (.sh (.int x)),some (.sh .v1)]) (ρ2:=[some (.sh (.int x)),some (.sh .v1)]) rfl (sY (p9 (bd (g4 rfl) rfl rfl)) rfl) λ_=>⟨_,_,_,g4 rfl,rfl⟩
  refine⟨λ_=>true,?_,λx _=>⟨λ_=>.inl rfl,λ_=>rfl⟩⟩;generalize jh true++r.map o8=L at *;exact L9 (j8 (u3 (F6 (h7 (F6 (h7 (g4 rfl) (h7 (g4 rfl) (h7 (g4 rfl) j9))) rfl rfl e rfl g) j9) rfl rfl a rfl rfl) rfl) (D3 (ca (kP (h7 o6 (h7 (j4 (E1 (h7 (g4 rfl) j9) rfl ln) o6 rfl rfl rfl) j9)) rfl f) (p5 (by rw[List.length_map,List.length_map,List.length_range];omega)) c rfl (.inl (z8 _))) rfl)) rfl
 |false=>
  obtain⟨W,a,i⟩:=wV P;have j:(dR (.own (.dct (keyed W)))&&([]:List D).all U4)=true:=by
   show(List.all _ _&&true)=true;rw[Y4];unfold keyed;rw[List.all_map,List.all_eq_true];exact λ_ _=>rfl
  have c:y9 (w6 0) (qp (p6 (cZ (λd=>vB (aw d)) (f8 1))) (p6 (g9 inD (f8 0) (f8 1)))) (f8 0) [none,some (.sh (.dct (keyed W)))] ((eW cs0.length).map D.int)=some (((eW cs0.length).filter λx=>decide (x∈W)).map D.int):=
   O5 λx _=>turn_if (ρ1:=[some (.sh (.int x)),some (.sh (.dct (keyed W)))]) (ρ2:=[some (.sh (.int x)),some (.sh (.dct (keyed W)))]) rfl (kQ (p9 (bd (g4 rfl) rfl rfl)) rfl (p9 (j4 (g4 rfl) (g4 rfl) rfl rfl (in_keyed W x)))) λ_=>⟨_,_,_,g4 rfl,rfl⟩
  refine⟨λx=>decide (x∈W),?_,λx k=>?_⟩
  ·rw[show jh false++r.map o8=r.map o8 from rfl]at *;generalize r.map o8=L at *;exact L9 (j8 (u3 (F6 (h7 (F6 (h7 (g4 rfl) (h7 (g4 rfl) (h7 (g4 rfl) j9))) rfl rfl e rfl g) j9) rfl rfl a rfl j) rfl) (D3 (ca (kP (h7 o6 (h7 (j4 (E1 (h7 (g4 rfl) j9) rfl ln) o6 rfl rfl rfl) j9)) rfl f) (p5 (by rw[List.length_map,List.length_map,List.length_range];omega)) c rfl (.inl (z8 _))) rfl)) rfl
  ·have:=(as.mp k).2;rw[decide_eq_true_eq,i];exact⟨λh=>.inr (h.resolve_left (by omega)),λh=>.inr (h.resolve_left (by decide))⟩
end
theorem eH {xs:List Int}(h:xs.length≤1000):W4 [.lst (xs.map D.int)]=some (.ret (.val (.bl true)) []):=by
 have w:∀n:Int,T7 [.int n]=some (.ret (.val (.bl true)) []):=λn=>by kernel_rfl
 have c:y9 (w6 0) F1 (o9 [false] T7 (f6 (f8 0) i7)) [none] (xs.map D.int)=some ((xs.map λ_=>true).map D.bl):=by
  rw[List.map_map];refine S4 λx _=>?_;have:=w x;walk_at"d"
 have a:=gX (xs.map λ_=>true);rw[List.all_map,show xs.all (id∘λ_=>true)=true from List.all_eq_true.mpr λ_ _=>rfl]at a;have:wA [.lst (xs.map D.int),.ty "list"]=some (.val (.bl true)):=rfl;walk_at"r"
theorem jA (a:List Int):ox (.lst (a.map D.int)) (.lst (a.map D.int))=some (.val (.bl false)):=by
 show(lz (dn 7) _ _).bind _=_;rw[ni,decide_eq_true rfl];rfl
noncomputable def yX (ns:List Int)(c d e f g h i j k a b:Option C):k0:=[some (.sh (.lst (ns.map D.int))),c,d,e,f,g,h,i,j,k,a,b]
section
variable {v:Nat}{cs0:List (List Int)}{r:List dq}{N:Int}
theorem kA (P:IC r N)(ns:List Int)(g j k m n o p u:Option C):∃W d a,forL (w6 10) kx (r.map o8).reverse (yX ns g j k m n o p u (some (.ow false (.dct []))) none none)=some (.nx (yX ns g j k m n o p u (some (.ow false (.dct (keyed W)))) d a))∧∀x,x∈W↔nF r x:=by
 have T:=P.len;obtain⟨_,I,W,d,a,rfl,L,v⟩:=Cz (tg:=w6 10) (b:=kx) (f:=o8) (λpre ρ=>∃W d a,ρ=yX ns g j k m n o p u (some (.ow false (.dct (keyed W)))) d a∧W.length≤300*pre.length∧∀x,x∈W↔nF pre.reverse x) r.reverse (ρ:=yX ns g j k m n o p u (some (.ow false (.dct []))) none none) (λpre s post ρ e ⟨W,d,a,F,L,v⟩=>by
  subst F;have U:=P.hnt s (List.mem_reverse.mp (by rw[e];simp));have le:=congrArg List.length e;rw[List.length_reverse,List.length_append,List.length_cons]at le;have t:=in_keyed W s.1;have w:=oK s.2.1;rw[List.length_append,List.length_singleton,List.reverse_append];obtain⟨_,J,V,A,rfl,O,E⟩:=Cz (tg:=w6 11) (b:=qt) (f:=D.int) (λB ρ=>∃V a,ρ=yX ns g j k m n o p u (some (.ow false (.dct (keyed V)))) (some (.sh (o8 s))) a∧V.length≤W.length+B.length∧∀x,x∈V↔x∈W∨x∈B∧x<s.1) s.2.2 (ρ:=yX ns g j k m n o p u (some (.ow false (.dct (keyed W)))) (some (.sh (o8 s))) a) (λB h po ρ e ⟨V,a,F,O,E⟩=>by
   subst F;have Q:=congrArg List.length e;rw[List.length_append,List.length_cons]at Q;have X:=ee V h;rw[List.length_append,List.length_singleton];have R:=og (ρ:=yX ns g j k m n o p u (some (.ow false (.dct (keyed V)))) (some (.sh (o8 s))) (some (.sh (.int h)))) (i:=9) (l:=h) rfl (by omega);have q:∀x,x∈B++[h]∧x<s.1↔(x∈B∧x<s.1)∨x=h∧h<s.1:=λx=>by
    rw[List.mem_append,List.mem_singleton,or_and_right];exact or_congr_right ⟨λz=>⟨z.1,z.1▸z.2⟩,λz=>⟨z.1,z.1▸z.2⟩⟩
   by_cases z:h<s.1
   ·refine tn rfl (D4 (p9 (j4 (g4 rfl) (j4 (g4 rfl) o6 rfl rfl rfl) rfl rfl rfl)) (decide_eq_true z) (dS o6 rfl (g4 rfl) rfl rfl R)) ⟨P7 V h,some (.sh (.int h)),rfl,by omega,λx=>?_⟩;rw[q,pc,E,or_assoc,and_iff_left z]
   ·refine tn rfl (A0 (p9 (j4 (g4 rfl) (j4 (g4 rfl) o6 rfl rfl rfl) rfl rfl rfl)) (decide_eq_false z) O9) ⟨V,some (.sh (.int h)),rfl,by omega,λx=>?_⟩;rw[q,E];exact or_congr_right ⟨.inl,λy=>y.elim id λy=>absurd y.2 z⟩) ⟨_,_,rfl,g8 _,λx=>⟨.inl,λz=>z.elim id λz=>nomatch z.1⟩⟩
  have up:(pre.reverse=[]∨nF pre.reverse s.1)→∀x,x∈V↔nF (s::pre.reverse) x:=λc x=>by
   rw[E,v];exact or_congr_right ⟨λz=>⟨c,z⟩,λz=>z.2⟩
  rcases yt P e with⟨G,_,H⟩ | ⟨G,_,H⟩
  ·have w:R8 (.tup (s.2.1.map D.int)) (.tup [])=some (.val (.bl true)):=by rw[w,H];rfl
   exact tn rfl (D4 (sY (p9 (j4 (j4 (g4 rfl) o6 rfl rfl rfl) (aB j9 rfl (i5 rfl)) rfl rfl w)) rfl) rfl (gT (F5 (j4 (g4 rfl) o6 rfl rfl rfl) rfl rfl) J rfl)) ⟨V,_,A,rfl,by omega,up (.inl (by rw[G];rfl))⟩
  ·have w:R8 (.tup (s.2.1.map D.int)) (.tup [])=some (.val (.bl false)):=by
    rw[w];cases S:s.2.1 with
    |nil=>exact absurd S H
    |cons _ _=>rfl
   have t0:qp (p6 (g9 R8 (g9 x0 (f8 10) (mC (.int 2))) (M7 i7))) (p6 (g9 inD (g9 x0 (f8 10) (mC (.int 1))) (f8 9))) (yX ns g j k m n o p u (some (.ow false (.dct (keyed W)))) (some (.sh (o8 s))) a)=some (.ok (decide (s.1∈W)) (yX ns g j k m n o p u (some (.ow false (.dct (keyed W)))) (some (.sh (o8 s))) a)):=kQ (p9 (j4 (j4 (g4 rfl) o6 rfl rfl rfl) (aB j9 rfl (i5 rfl)) rfl rfl w)) rfl (p9 (j4 (j4 (g4 rfl) o6 rfl rfl rfl) (g4 rfl) rfl rfl t));by_cases h:s.1∈W
   ·exact tn rfl (D4 t0 (decide_eq_true h) (gT (F5 (j4 (g4 rfl) o6 rfl rfl rfl) rfl rfl) J rfl)) ⟨V,_,A,rfl,by omega,up (.inr ((v _).mp h))⟩
   ·exact tn rfl (A0 t0 (decide_eq_false h) O9) ⟨W,_,a,rfl,by omega,λx=>by
     rw[v];exact⟨.inl,λz=>z.elim id λz=>absurd (z.1.elim (λy=>absurd (List.reverse_eq_nil_iff.mp y) G) (v _).mpr) h⟩⟩) ⟨[],_,_,rfl,u6 _,λx=>⟨λh=>(nomatch h),nofun⟩⟩
 rw[List.reverse_reverse]at v;rw[List.map_reverse]at I;exact⟨W,d,a,I,v⟩
theorem um:∀(cs:List (List Int)) (k:Int) (kv:Int×List Int),kv∈n7 k cs→cs[(kv.1-k).toNat]?=some kv.2
 |c::cs,k,kv,h=>by
  rcases List.mem_cons.mp h with h|h
  ·rw[h,Int.sub_self];rfl
  ·have:=z9 cs (k+1) kv h;have e:=um cs (k+1) kv h;rw[show(kv.1-k).toNat=(kv.1-(k+1)).toNat+1 by omega];exact e
theorem Db (h:1≤v∧v≤3)(R:Res v cs0 (none,r)){b:Bool}{p:Int→Bool}(d:∀x∈eW cs0.length,p x=true↔b=true∨nF r x):xw (v:Int) (((eW cs0.length).filter p).map λk=>(cs0[(k-1).toNat]?).getD []):=λn i=>by
 obtain⟨u,rfl⟩:∃u,v=u+1:=⟨v-1,by omega⟩
 have j:lW ((u+1:Nat):Int)≤8:=by
  have:u=0∨u=1∨u=2:=by omega
  rcases this with rfl|rfl|rfl<;>decide
 have m:=List.all_eq_true.mp (List.all_eq_true.mp Ci u (List.mem_range.mpr (by omega))) n (List.mem_range.mpr (by omega));rw[k6,List.all_eq_true,List.all_eq_true]at m;have no:=xy (M:=V2 ((u+1:Nat):Int) n) R (λl hl=>by have:=m.1 l hl;simpa using this) λl o hl=>by
  have:=of_decide_eq_true (m.2 (l.natAbs-1) (List.mem_range.mpr (by omega)));have e:((l.natAbs-1:Nat):Int)+1=l∨((l.natAbs-1:Nat):Int)+1=-l:=by omega
  rcases e with e|e<;>rw[e]at this
  ·exact this
  ·rw[mj]at this;exact this.symm
 obtain⟨kv,hk⟩:=pA.mp no;obtain⟨a,hk⟩:=aP.mp hk;obtain⟨f,hk⟩:=aP.mp hk;have g:=z9 cs0 1 kv a;have c:kv.1∈eW cs0.length:=as.mpr ⟨g.1,by omega⟩;refine⟨kv.2,List.mem_map.mpr ⟨kv.1,List.mem_filter.mpr ⟨c,(d _ c).mpr (.inr f)⟩,by rw[um cs0 1 kv a];rfl⟩,?_⟩;exact List.any_eq_false.mpr λl hl z=>hk ⟨l,hl,of_decide_eq_true z⟩
theorem jJ (j:1≤v∧v≤3)(R:Res v cs0 (none,r))(m:cs0.length≤20)(hl:∀c∈cs0,c.length≤100)(b:Bool):∃F:List Int,F.length≤1000∧Z2 [.int (v:Int),.lst (u8 cs0),.lst (jh b++r.map o8)]=some (.ret (.own (.lst (F.map D.int))) [])∧(b=true→F=eW cs0.length)∧(b=false→∀W:List Int,(∀x,x∈W↔nF r x)→(eW cs0.length).filter (λx=>decide (x∈W))=F)∧∃G:List (List Int),y9 (w6 0) F1 (g9 x0 (f8 1) (g9 iY (f8 0) (mC (.int 1)))) [none,some (.sh (.lst (u8 cs0)))] (F.map D.int)=some (u8 G)∧E6 [.int (v:Int),.lst (u8 G)]=some (.ret (.own (.lst [])) []):=by
 obtain⟨p,h,a⟩:=CH R b;have no:=Db j R a;have g:((eW cs0.length).filter p).length≤1000:=l7 (List.length_filter_le _ _) (by rw[List.length_map,List.length_range];omega);have gt:∀k∈(eW cs0.length).filter p,∃c∈cs0,cs0[(k-1).toNat]?=some c:=λk hk=>by
  have:=as.mp (List.mem_filter.mp hk).1;exact⟨_,List.getElem_mem (show(k-1).toNat<cs0.length by omega),List.getElem?_eq_getElem _⟩
 refine⟨_,g,h,λe=>List.filter_eq_self.mpr λx d=>(a x d).mpr (.inl e),λe W l=>List.filter_congr λx d=>?_,((eW cs0.length).filter p).map λk=>(cs0[(k-1).toNat]?).getD [],?_,?_⟩
 ·have:=a x d;rw[e]at this;rw[Eb,decide_eq_true_eq,l,this];exact⟨.inr,λz=>z.resolve_left (by decide)⟩
 ·unfold u8;rw[List.map_map];refine S4 λk hk=>?_;obtain⟨c,_,e⟩:=gt k hk;have:=as.mp (List.mem_filter.mp hk).1;have i:=zd e;rw[show(((k-1).toNat:Nat):Int)=k-1 by omega]at i;show _=some (some (D.tup (((cs0[(k-1).toNat]?).getD []).map D.int)));rw[e];unfold u8 at i;walk_at"d"
 ·have:=mZ (v:=(v:Int)) (cs:=((eW cs0.length).filter p).map λk=>(cs0[(k-1).toNat]?).getD []) (by omega) (by omega) (by rw[List.length_map];exact g) λc f=>by
   obtain⟨k,hk,rfl⟩:=List.mem_map.mp f;obtain⟨c,f,e⟩:=gt k hk;rw[e];exact l7 (hl c f) (by decide)
  rw[no.nil]at this;exact this
end
theorem sm:(∀a∈[(1:Int),-1],∃n∈List.range 2,V2 1 (n:Nat)=[a])∧(∀a∈[(1:Int),-1],∀b∈[(2:Int),-2],∃n∈List.range 4,V2 2 (n:Nat)=[a,b])∧∀a∈[(1:Int),-1],∀b∈[(2:Int),-2],∀c∈[(3:Int),-3],∃n∈List.range 8,V2 3 (n:Nat)=[a,b,c]:=by decide +kernel
theorem Ch {v:Nat}(c:1≤v∧v≤3){f:Nat→Int}(a:∀k,k<v→f k=(k:Int)+1∨f k=-((k:Int)+1)):∃n:Nat,n<lW (v:Int)∧V2 (v:Int) n=(List.range v).map f:=by
 have a:∀k,k<v→f k∈[(k:Int)+1,-((k:Int)+1)]:=λk hk=>by simpa using a k hk
 have:v=1∨v=2∨v=3:=by omega
 rcases this with rfl|rfl|rfl
 ·obtain⟨n,b,e⟩:=sm.1 _ (a 0 (by decide));exact⟨n,List.mem_range.mp b,e⟩
 ·obtain⟨n,b,e⟩:=sm.2.1 _ (a 0 (by decide)) _ (a 1 (by decide));exact⟨n,List.mem_range.mp b,e⟩
 ·obtain⟨n,b,e⟩:=sm.2.2 _ (a 0 (by decide)) _ (a 1 (by decide)) _ (a 2 (by decide));exact⟨n,List.mem_range.mp b,e⟩
theorem Gu.ins {v:Int}{cs:List (List Int)}{c:List Int}{i:Nat}(F:Gu v cs)(h:c.length≤7∧∀l∈c,l≠0∧l.natAbs≤v.toNat):Gu v (cs.take i++c::cs.drop i):=⟨F.lo,F.hi,λd hd=>by
 rcases gA.mp hd with rfl|hd
 ·exact h
 ·exact F.cl d hd,λn a=>by
 obtain⟨d,hd,e⟩:=F.no n a;exact⟨d,gA.mpr (.inr hd),e⟩⟩
theorem yV:∀ns:List Int,ns.length≤63→n3 uV 12 [false] [.lst (ns.map D.int)]=some (.ret (.val (.bl true)) []):=by
 intro ns _;obtain⟨v,g,f1,U,X⟩:=CF ns 0;have Y:R4 (.int (B6 ns 50)) (.int 5)=some (.val (.int (B6 ns 50 % 5))):=K6 (by decide);have Z:=y8 (B6 ns 50) (b:=5) (by omega);have a0:=v9 (B6 ns 50) (b:=5) (by omega);generalize B6 ns 50 % 5=m at *;have a3:=jC (n:=m) (by omega) (by omega);obtain⟨_,hI,cs,w,y,rfl,z,F⟩:=sT (tg:=w6 3) (b:=qu) (f:=λk=>D.int (0+((k:Nat):Int))) (λk ρ=>∃cs w y,ρ=yX ns (some (.sh (.tup [.int v,.lst (u8 g)]))) (some (.ow false (.lst (u8 cs)))) w y none none none none none none none∧cs.length≤12+k∧Gu v cs) m.toNat (ρ:=yX ns (some (.sh (.tup [.int v,.lst (u8 g)]))) (some (.ow false (.lst (u8 g)))) none none none none none none none none none) (λk ρ hk ⟨cs,w,y,e,z,F⟩=>by
  subst e;rw[C9];have q2:=y8 (B6 ns (51+(k:Int))) (b:=((cs.length:Nat):Int)+1) (by omega);have q3:=v9 (B6 ns (51+(k:Int))) (b:=((cs.length:Nat):Int)+1) (by omega);have a4:R4 (.int (B6 ns (51+(k:Int)))) (.int (((cs.length:Nat):Int)+1))=some (.val (.int (B6 ns (51+(k:Int)) % (((cs.length:Nat):Int)+1)))):=K6 (by omega);generalize B6 ns (51+(k:Int)) % (((cs.length:Nat):Int)+1)=i at *;have lo:=F.lo;have hi:=F.hi;have:=na (ns:=ns) (b:=30+5*(k:Int)) (v:=v) (most:=3) (by omega) (by omega) (by decide) (by decide);have ok:=nm ns (30+5*(k:Int)) (v:=v) (by omega);generalize U0 ns (30+5*(k:Int)) v 3=c at *;have:(dR (.val (.tup (c.map D.int)))&&([]:List D).all U4)=true:=by rw[k6];exact⟨af _,rfl⟩
  walk_at"t"
  exact⟨cs.take i.toNat++c::cs.drop i.toNat,_,_,by rw[uY];rfl,by simp;omega,F.ins ok⟩) ⟨_,_,_,rfl,U,X⟩
 obtain⟨u,rfl⟩:∃u:Nat,v=(u:Int):=⟨v.toNat,by have:=F.lo;omega⟩
 have p:1≤u∧u≤3:=⟨by have:=F.lo;omega,by have:=F.hi;omega⟩
 have lit:∀c∈cs,c.length≤100∧∀l∈c,l≠0∧l.natAbs≤u:=λc d=>by
  have:=F.cl c d;rw[G7]at this;exact⟨by omega,this.2⟩
 obtain⟨E,f2,B⟩:=CC p.1 p.2 F.no lit (by omega);have p8:2 ^ u≤8:=G4 (n:=2) (by omega) p.2;obtain⟨⟨q,H⟩,hS,R2⟩:=pO (v:=u) (cs0:=cs) (by omega) (λc d=>(lit c d).2) (λc d=>(lit c d).1) (by omega);have f3:=wX (v:=(u:Int)) (by omega) (by omega) hS;have qn:q=none:=by
  cases R2 with
  |none=>rfl
  | @model f hf hs=>
   obtain⟨n,hn,e⟩:=Ch p hf;obtain⟨c,d,e2⟩:=F.no n hn;obtain⟨l,l1,S⟩:=hs c d;rw[←e]at S;exact absurd (decide_eq_true S) (List.any_eq_false.mp e2 l l1)
 subst qn;have ln:=oA cs;have lr:=(yc (n:=cs.length) (by omega)).2;have ad:∀{r:List dq},Res u cs (none,r)→A3 (.lst [aD]) (.lst (r.map o8))=some (.own (.lst (aD::r.map o8))):=λR=>by
  obtain⟨_,_,P⟩:=jw R;exact v6 (p5 (by have:=P.len;rw[List.length_map,List.length_singleton];omega))
 have a1:=ad B;have a2:=ad R2;have t:∀{a:Int} {b:Bool},decide (a=0)=b→R8 (.int a) (.int 0)=some (.val (.bl b)):=λh=>h▸eq_int _ _;by_cases T:B6 ns 56 % 3=0
 ·have t6:=t (decide_eq_true T);by_cases A:B6 ns 57 % 4=0
  ·have I:=t (decide_eq_true A);obtain⟨F,s,j,o,_,G,J,L⟩:=jJ p R2 (by omega) (λc d=>(lit c d).1) true;have o:=o rfl;subst o;have j:Z2 [.int (u:Int),.lst (u8 cs),.lst (aD::H.map o8)]=_:=j;have:=eH s;have:=jA (eW cs.length);have:=L7 (eW cs.length);have:=aA G;walk_at"r"
  ·have I:=t (decide_eq_false A);obtain⟨F,s,j,_,o,G,J,L⟩:=jJ p R2 (by omega) (λc d=>(lit c d).1) false;have j:Z2 [.int (u:Int),.lst (u8 cs),.lst (H.map o8)]=_:=j;obtain⟨_,_,P⟩:=jw R2;obtain⟨W,N,O,hL,Q⟩:=kA P ns (some (.sh (.tup [.int (u:Int),.lst (u8 cs)]))) (some (.sh (.lst (u8 cs)))) w y (some (.sh (.lst (H.map o8)))) (some (.sh (.bl false))) (some (.ow false (.lst (F.map D.int)))) (some (.ow false (.lst ((eW cs.length).map D.int))));have c8:y9 (w6 0) (p6 (g9 inD (f8 0) (f8 1))) (f8 0) [none,some (.sh (.dct (keyed W)))] ((eW cs.length).map D.int)=some (F.map D.int):=by
    rw[←o rfl W Q];exact O5 λx _=>turn_if (ρ1:=[some (.sh (.int x)),some (.sh (.dct (keyed W)))]) (ρ2:=[some (.sh (.int x)),some (.sh (.dct (keyed W)))]) rfl (p9 (j4 (g4 rfl) (g4 rfl) rfl rfl (in_keyed W x))) λ_=>⟨_,_,_,g4 rfl,rfl⟩
   have:=eH s;have:=jA F;have:=L7 F;have:=aA G;walk_at"r"
 ·have t6:=t (decide_eq_false T);by_cases A:B6 ns 57 % 4=0
  ·have I:=t (decide_eq_true A);obtain⟨F,s,j,o,_,G,J,L⟩:=jJ p B (by omega) (λc d=>(lit c d).1) true;have o:=o rfl;subst o;have j:Z2 [.int (u:Int),.lst (u8 cs),.lst (aD::E.map o8)]=_:=j;have:=eH s;have:=jA (eW cs.length);have:=L7 (eW cs.length);have:=aA G;walk_at"r"
  ·have I:=t (decide_eq_false A);obtain⟨F,s,j,_,o,G,J,L⟩:=jJ p B (by omega) (λc d=>(lit c d).1) false;have j:Z2 [.int (u:Int),.lst (u8 cs),.lst (E.map o8)]=_:=j;obtain⟨_,_,P⟩:=jw B;obtain⟨W,N,O,hL,Q⟩:=kA P ns (some (.sh (.tup [.int (u:Int),.lst (u8 cs)]))) (some (.sh (.lst (u8 cs)))) w y (some (.sh (.lst (E.map o8)))) (some (.sh (.bl false))) (some (.ow false (.lst (F.map D.int)))) (some (.ow false (.lst ((eW cs.length).map D.int))));have c8:y9 (w6 0) (p6 (g9 inD (f8 0) (f8 1))) (f8 0) [none,some (.sh (.dct (keyed W)))] ((eW cs.length).map D.int)=some (F.map D.int):=by
    rw[←o rfl W Q];exact O5 λx _=>turn_if (ρ1:=[some (.sh (.int x)),some (.sh (.dct (keyed W)))]) (ρ2:=[some (.sh (.int x)),some (.sh (.dct (keyed W)))]) rfl (p9 (j4 (g4 rfl) (g4 rfl) rfl rfl (in_keyed W x))) λ_=>⟨_,_,_,g4 rfl,rfl⟩
   have:=eH s;have:=jA F;have:=L7 F;have:=aA G;walk_at"r"
end K31
namespace L2
theorem Dh {α:Type}{P:List α→Prop}(h:∀a,P [a]):∀us:List α,us.length=1→P us
 | [a],_=>h a
theorem AK {α:Type}{P:List α→Prop}(h:∀a b,P [a,b]):∀us:List α,us.length=2→P us
 | [a,b],_=>h a b
theorem Gk {α:Type}{P:List α→Prop}(h:∀a b c,P [a,b,c]):∀us:List α,us.length=3→P us
 | [a,b,c],_=>h a b c
theorem Kq {α:Type}{P:List α→Prop}(h:∀a b c d,P [a,b,c,d]):∀us:List α,us.length=4→P us
 | [a,b,c,d],_=>h a b c d
theorem LZ {α:Type}{P:List α→Prop}(h:∀a b c d e,P [a,b,c,d,e]):∀us:List α,us.length=5→P us
 | [a,b,c,d,e],_=>h a b c d e
end L2
open PySem PySem.W PyProof.Rows
namespace K31
noncomputable abbrev rw:=PySem.Challenge.rw_clausekeep_k31_whole_core
noncomputable def ds:List Op.Fn:=[Op.fn "_law_cell" cC,Op.fn "_law_mix" eu,Op.fn "_law_whole" aT,Op.fn "_law_wholes" Y5,Op.fn "_law_clause" Y7,Op.fn "_law_models" Y6,Op.fn "_law_open" cA,Op.fn "_law_hints" aU,Op.fn "_law_walk" cy,Op.fn "_law_sure" cz,Op.fn "_law_none" cB,Op.fn "numbered" cx,Op.fn "truths_of" aR,Op.fn "opened" gu,Op.fn "spread" gn,Op.fn "learned" er,Op.fn "solved" gq,Op.fn "has_both" cD,Op.fn "take_hint" aS,Op.fn "follows" ew,Op.fn "up_to_empty" Q2,Op.fn "has_plain_hints" M2,Op.fn "wanted_in" aQ,Op.fn "core" nN,Op.fn "law" pS,Op.mt "Keeper" "__init__" "Keeper.__init__" D8,Op.mt "Keeper" "is_right" "Keeper.is_right" D7,Op.mt "Keeper" "add_clause" "Keeper.add_clause" B0,Op.mt "Keeper" "drop_clauses" "Keeper.drop_clauses" x8,Op.mt "Keeper" "take" "Keeper.take" Q3]
noncomputable def ok (K:Frag):Bool:=Op.Lx K ["len","isinstance","int","bool","list","all","range","tuple","any","sorted","dict","enumerate","abs","reversed"]&&Op.isStr "ends" (nsIn K l5 "ENDS")&&Op.isStr "goes on" (nsIn K l5 "GOES_ON")&&Op.isStr "wrong" (nsIn K l5 "WRONG")&&(Op.clsAt K "Keeper").any (Op.isObj K ["variables","table","greatest","taken","refuted"])
theorem w1:PySem.W.Fast.tw9446332074065402090 rw=true:=by kernel_rfl
theorem run:∀w,(λos=>(Op.go rw.prog w 2300 (Op.s0 w os) (MU rw.prog)).map λs=>((staticsOk (P1 rw.prog.main.body) (C6 w.params) s.abs.heap&&vm rw.prog s.abs.heap&&DX s.abs&&DV (C6 w.params) s.abs.heap),LL (view rw.prog [49]) rw.prog.boundNames (P1 rw.prog.main.body) (λs=>xlAt (view rw.prog [49]) [] s&&recOk [] s) true s.abs,(Op.hook ds ok).obs s.abs))=λ_=>some (true,LM (view rw.prog [49]) rw.prog.boundNames,(Op.hook ds ok).val w):=λw=>by kernel_rfl
theorem wT:PySem.Challenge.rw_clausekeep_k31_whole_core.Holds:=by
 refine Op.holds (i:=49) (n:=2300) (k:=9) (ds:=ds) (ok:=ok) (x:="_law_script") (st:=pS) w1 (by kernel_rfl) (λs=>by kernel_rfl) (by decide) run (by kernel_rfl) (by kernel_rfl) (by kernel_rfl) (by decide +kernel) ⟨rfl,rfl,rfl,rfl,rfl,by decide +kernel⟩ ⟨[.list []],by decide +kernel,by decide +kernel⟩ rfl (by kernel_rfl) ⟨rfl,by decide,by decide⟩ ?_;intro w mg fa h K e hd hk G e8;obtain⟨hk,k4⟩:=Op.pb hk;obtain⟨hk,k3⟩:=Op.pb hk;obtain⟨hk,k2⟩:=Op.pb hk;obtain⟨hk,k1⟩:=Op.pb hk;have b:mg "len"=none:=Op.aW e G hk 0 rfl;have r:mg "isinstance"=none:=Op.aW e G hk 1 rfl;have e6:mg "int"=none:=Op.aW e G hk 2 rfl;have e3:mg "bool"=none:=Op.aW e G hk 3 rfl;have I:mg "list"=none:=Op.aW e G hk 4 rfl;have a3:mg "all"=none:=Op.aW e G hk 5 rfl;have a:mg "range"=none:=Op.aW e G hk 6 rfl;have g:mg "tuple"=none:=Op.aW e G hk 7 rfl;have e1:mg "any"=none:=Op.aW e G hk 8 rfl;have d2:mg "sorted"=none:=Op.aW e G hk 9 rfl;have Q:mg "dict"=none:=Op.aW e G hk 10 rfl;have a4:mg "enumerate"=none:=Op.aW e G hk 11 rfl;have L:mg "abs"=none:=Op.aW e G hk 12 rfl;have o:mg "reversed"=none:=Op.aW e G hk 13 rfl;have d1:=Op.tr e G k1;have R:=Op.tr e G k2;have e2:=Op.tr e G k3;obtain⟨j,d,d3,c,d4,d5⟩:=Op.Fk e G k4;have b4:L2.Def K mg "_law_cell" cC ["_law_script","_law_k"]:=Op.A8 e G (hd _ (List.mem_of_getElem? (i:=0) rfl)) (λ_ _ _ _ _ _=>L2.AK (λ_ _=>rfl));have c6:L2.Def K mg "_law_mix" eu ["_law_script","_law_k"]:=Op.A8 e G (hd _ (List.mem_of_getElem? (i:=1) rfl)) (λ_ _ _ _ _ _=>L2.AK (λ_ _=>rfl));have a5:L2.Def K mg "_law_whole" aT ["_law_found"]:=Op.A8 e G (hd _ (List.mem_of_getElem? (i:=2) rfl)) (λ_ _ _ _ _ _=>L2.Dh (λ_=>rfl));have Y:L2.Def K mg "_law_wholes" Y5 ["_law_found"]:=Op.A8 e G (hd _ (List.mem_of_getElem? (i:=3) rfl)) (λ_ _ _ _ _ _=>L2.Dh (λ_=>rfl));have Z:L2.Def K mg "_law_clause" Y7 ["_law_script","_law_base","_law_variables","_law_most"]:=Op.A8 e G (hd _ (List.mem_of_getElem? (i:=4) rfl)) (λ_ _ _ _ _ _=>L2.Kq (λ_ _ _ _=>rfl));have a0:L2.Def K mg "_law_models" Y6 ["_law_variables","_law_clauses"]:=Op.A8 e G (hd _ (List.mem_of_getElem? (i:=5) rfl)) (λ_ _ _ _ _ _=>L2.AK (λ_ _=>rfl));have b5:L2.Def K mg "_law_open" cA ["_law_true_ones","_law_clause_here"]:=Op.A8 e G (hd _ (List.mem_of_getElem? (i:=6) rfl)) (λ_ _ _ _ _ _=>L2.AK (λ_ _=>rfl));have a6:L2.Def K mg "_law_hints" aU ["_law_table_here","_law_literals"]:=Op.A8 e G (hd _ (List.mem_of_getElem? (i:=7) rfl)) (λ_ _ _ _ _ _=>L2.AK (λ_ _=>rfl));have b6:L2.Def K mg "_law_walk" cy ["_law_table_here","_law_true_ones","_law_hints_here"]:=Op.A8 e G (hd _ (List.mem_of_getElem? (i:=8) rfl)) (λ_ _ _ _ _ _=>L2.Gk (λ_ _ _=>rfl));have b7:L2.Def K mg "_law_sure" cz ["_law_formula_here"]:=Op.A8 e G (hd _ (List.mem_of_getElem? (i:=9) rfl)) (λ_ _ _ _ _ _=>L2.Dh (λ_=>rfl));have b8:L2.Def K mg "_law_none" cB ["_law_script","_law_base"]:=Op.A8 e G (hd _ (List.mem_of_getElem? (i:=10) rfl)) (λ_ _ _ _ _ _=>L2.AK (λ_ _=>rfl));have b9:L2.Def K mg "numbered" cx ["clauses"]:=Op.A8 e G (hd _ (List.mem_of_getElem? (i:=11) rfl)) (λ_ _ _ _ _ _=>L2.Dh (λ_=>rfl));have a7:L2.Def K mg "truths_of" aR ["literals"]:=Op.A8 e G (hd _ (List.mem_of_getElem? (i:=12) rfl)) (λ_ _ _ _ _ _=>L2.Dh (λ_=>rfl));have d6:L2.Def K mg "opened" gu ["truths","clause"]:=Op.A8 e G (hd _ (List.mem_of_getElem? (i:=13) rfl)) (λ_ _ _ _ _ _=>L2.AK (λ_ _=>rfl));have d7:L2.Def K mg "spread" gn ["table","truths","reasons"]:=Op.A8 e G (hd _ (List.mem_of_getElem? (i:=14) rfl)) (λ_ _ _ _ _ _=>L2.Gk (λ_ _ _=>rfl));have c7:L2.Def K mg "learned" er ["table","chosen","truths","reasons","conflict"]:=Op.A8 e G (hd _ (List.mem_of_getElem? (i:=15) rfl)) (λ_ _ _ _ _ _=>L2.LZ (λ_ _ _ _ _=>rfl));have d8:L2.Def K mg "solved" gq ["variables","clauses"]:=Op.A8 e G (hd _ (List.mem_of_getElem? (i:=16) rfl)) (λ_ _ _ _ _ _=>L2.AK (λ_ _=>rfl));have c0:L2.Def K mg "has_both" cD ["clause"]:=Op.A8 e G (hd _ (List.mem_of_getElem? (i:=17) rfl)) (λ_ _ _ _ _ _=>L2.Dh (λ_=>rfl));have a8:L2.Def K mg "take_hint" aS ["table","truths","hint"]:=Op.A8 e G (hd _ (List.mem_of_getElem? (i:=18) rfl)) (λ_ _ _ _ _ _=>L2.Gk (λ_ _ _=>rfl));have c8:L2.Def K mg "follows" ew ["table","clause","hints"]:=Op.A8 e G (hd _ (List.mem_of_getElem? (i:=19) rfl)) (λ_ _ _ _ _ _=>L2.Gk (λ_ _ _=>rfl));have S:L2.Def K mg "up_to_empty" Q2 ["variables","clauses","steps"]:=Op.A8 e G (hd _ (List.mem_of_getElem? (i:=20) rfl)) (λ_ _ _ _ _ _=>L2.Gk (λ_ _ _=>rfl));have v:L2.Def K mg "has_plain_hints" M2 ["step"]:=Op.A8 e G (hd _ (List.mem_of_getElem? (i:=21) rfl)) (λ_ _ _ _ _ _=>L2.Dh (λ_=>rfl));have a9:L2.Def K mg "wanted_in" aQ ["steps"]:=Op.A8 e G (hd _ (List.mem_of_getElem? (i:=22) rfl)) (λ_ _ _ _ _ _=>L2.Dh (λ_=>rfl));have e4:L2.Def K mg "core" nN ["variables","clauses","steps"]:=Op.A8 e G (hd _ (List.mem_of_getElem? (i:=23) rfl)) (λ_ _ _ _ _ _=>L2.Gk (λ_ _ _=>rfl));have e7:L2.Def K mg "law" pS ["_law_script"]:=Op.A8 e G (hd _ (List.mem_of_getElem? (i:=24) rfl)) (λ_ _ _ _ _ _=>L2.Dh (λ_=>rfl));have y:L3.lv K j "__init__" "Keeper.__init__" D8 ["self","variables","clauses"]:=Op.kt d (hd _ (List.mem_of_getElem? (i:=25) rfl)) (λ_ _ _ _ _ _=>L2.Gk (λ_ _ _=>rfl));have z:L3.lv K j "is_right" "Keeper.is_right" D7 ["self","number","clause","hints"]:=Op.kt d (hd _ (List.mem_of_getElem? (i:=26) rfl)) (λ_ _ _ _ _ _=>L2.Kq (λ_ _ _ _=>rfl));have p:L3.lv K j "add_clause" "Keeper.add_clause" B0 ["self","number","clause","hints"]:=Op.kt d (hd _ (List.mem_of_getElem? (i:=27) rfl)) (λ_ _ _ _ _ _=>L2.Kq (λ_ _ _ _=>rfl));have l:L3.lv K j "drop_clauses" "Keeper.drop_clauses" x8 ["self","numbers"]:=Op.kt d (hd _ (List.mem_of_getElem? (i:=28) rfl)) (λ_ _ _ _ _ _=>L2.AK (λ_ _=>rfl));have T:L3.lv K j "take" "Keeper.take" Q3 ["self","step"]:=Op.kt d (hd _ (List.mem_of_getElem? (i:=29) rfl)) (λ_ _ _ _ _ _=>L2.AK (λ_ _=>rfl));have c1:=λbase=>b4.has (P:=PySem.Challenge.rw_clausekeep_k31_whole_core.prog) (w:=w) (base:=base) λf fd F=>(K31.nT F b).imp (L3.E3.imp K31.lK);have A:=λbase=>c6.has (P:=PySem.Challenge.rw_clausekeep_k31_whole_core.prog) (w:=w) (base:=base) λf fd F=>(K31.pV F (c1 base)).imp (L3.E3.imp K31.nJ);have b0:=λbase=>a5.has (P:=PySem.Challenge.rw_clausekeep_k31_whole_core.prog) (w:=w) (base:=base) λf fd F=>(K31.lQ F r e6 e3).imp (L3.E3.imp K31.jW);have a1:=λbase=>Y.has (P:=PySem.Challenge.rw_clausekeep_k31_whole_core.prog) (w:=w) (base:=base) λf fd F=>(K31.kg F r I a3 (b0 base)).imp (L3.E3.imp K31.ja);have t:=λbase=>Z.has (P:=PySem.Challenge.rw_clausekeep_k31_whole_core.prog) (w:=w) (base:=base) λf fd F=>(K31.ki F a g (A base)).imp (L3.E3.imp K31.jc);have u:=λbase=>a0.has (P:=PySem.Challenge.rw_clausekeep_k31_whole_core.prog) (w:=w) (base:=base) λf fd F=>(K31.kh F a a3 e1 g).imp (L3.E3.imp K31.jb);have N:=λbase=>b5.has (P:=PySem.Challenge.rw_clausekeep_k31_whole_core.prog) (w:=w) (base:=base) λf fd F=>(K31.nR F).imp (L3.E3.imp K31.lI);have b1:=λbase=>a6.has (P:=PySem.Challenge.rw_clausekeep_k31_whole_core.prog) (w:=w) (base:=base) λf fd F=>(K31.lR F I a d2 b (N base)).imp (L3.E3.imp K31.jX);have c2:=λbase=>b6.has (P:=PySem.Challenge.rw_clausekeep_k31_whole_core.prog) (w:=w) (base:=base) λf fd F=>(K31.nP F b (N base)).imp (L3.E3.imp K31.lG);have c3:=λbase=>b7.has (P:=PySem.Challenge.rw_clausekeep_k31_whole_core.prog) (w:=w) (base:=base) λf fd F=>(K31.nQ F a b g (b1 base) (c2 base)).imp (L3.E3.imp K31.lH);have c4:=λbase=>b8.has (P:=PySem.Challenge.rw_clausekeep_k31_whole_core.prog) (w:=w) (base:=base) λf fd F=>(K31.nS F a b g (A base) (t base) (u base)).imp (L3.E3.imp K31.lJ);have O:=λbase=>b9.has (P:=PySem.Challenge.rw_clausekeep_k31_whole_core.prog) (w:=w) (base:=base) λf fd F=>(K31.nO F Q a4).imp (L3.E3.imp K31.lF);have J:=λbase=>a7.has (P:=PySem.Challenge.rw_clausekeep_k31_whole_core.prog) (w:=w) (base:=base) λf fd F=>(K31.lO F Q L).imp (L3.E3.imp K31.jU);have a2:=λbase=>d6.has (P:=PySem.Challenge.rw_clausekeep_k31_whole_core.prog) (w:=w) (base:=base) λf fd F=>(K31.rN F L I).imp (L3.E3.imp K31.pN);have d9:=λbase=>d7.has (P:=PySem.Challenge.rw_clausekeep_k31_whole_core.prog) (w:=w) (base:=base) λf fd F=>L3.JG ((K31.rL F b L (a2 base)).imp (L3.tF.imp K31.pL)) rfl rfl K31.ti;have c9:=λbase=>c7.has (P:=PySem.Challenge.rw_clausekeep_k31_whole_core.prog) (w:=w) (base:=base) λf fd F=>(K31.pU F Q L o I b g).imp (L3.E3.imp K31.nI);have e0:=λbase=>d8.has (P:=PySem.Challenge.rw_clausekeep_k31_whole_core.prog) (w:=w) (base:=base) λf fd F=>(K31.rM F a g (O base) (J base) (d9 base) (c9 base)).imp (L3.E3.imp K31.pM);have c5:=λbase=>c0.has (P:=PySem.Challenge.rw_clausekeep_k31_whole_core.prog) (w:=w) (base:=base) λf fd F=>(K31.nU F).imp (L3.E3.imp K31.lL);have b2:=λbase=>a8.has (P:=PySem.Challenge.rw_clausekeep_k31_whole_core.prog) (w:=w) (base:=base) λf fd F=>(K31.lP F b L e2 d1 R (a2 base)).imp (L3.E3.imp K31.jV);have d0:=λbase=>c8.has (P:=PySem.Challenge.rw_clausekeep_k31_whole_core.prog) (w:=w) (base:=base) λf fd F=>(K31.pW F b R d1 (c5 base) (J base) (b2 base)).imp (L3.E3.imp K31.nK);have B:=λbase=>y.Kj (P:=PySem.Challenge.rw_clausekeep_k31_whole_core.prog) (w:=w) (mg:=mg) (base:=base) d4 d5 λf fd F=>(K31.eP F b c (O base)).imp (L3.DP.imp K31.dB);have E:=λbase=>z.has (P:=PySem.Challenge.rw_clausekeep_k31_whole_core.prog) (w:=w) (mg:=mg) (base:=base) λf fd F=>(K31.eO F e1 L c (d0 base)).imp (L3.pk.imp K31.dA);have q:=λbase=>p.has (P:=PySem.Challenge.rw_clausekeep_k31_whole_core.prog) (w:=w) (mg:=mg) (base:=base) λf fd F=>(K31.dj F c (E base)).imp (L3.pk.imp K31.cw);have m:=λbase=>l.has (P:=PySem.Challenge.rw_clausekeep_k31_whole_core.prog) (w:=w) (mg:=mg) (base:=base) λf fd F=>(K31.bQ F c).imp (L3.pk.imp K31.bt);have U:=λbase=>T.has (P:=PySem.Challenge.rw_clausekeep_k31_whole_core.prog) (w:=w) (mg:=mg) (base:=base) λf fd F=>(K31.jf F c (m base) (q base)).imp (L3.pk.imp K31.ia);have X:=λbase=>S.has (P:=PySem.Challenge.rw_clausekeep_k31_whole_core.prog) (w:=w) (base:=base) λf fd F=>(K31.je F c d3 (B base) (U base)).imp (L3.E3.imp K31.hZ);have H:=λbase=>v.has (P:=PySem.Challenge.rw_clausekeep_k31_whole_core.prog) (w:=w) (base:=base) λf fd F=>(K31.eN F a3).imp (L3.E3.imp K31.dw);have b3:=λbase=>a9.has (P:=PySem.Challenge.rw_clausekeep_k31_whole_core.prog) (w:=w) (base:=base) λf fd F=>(K31.lN F a3 o Q (H base)).imp (L3.E3.imp K31.jT);have e5:=λbase=>e4.has (P:=PySem.Challenge.rw_clausekeep_k31_whole_core.prog) (w:=w) (base:=base) λf fd F=>(K31.ya F a b (b3 base) (X base)).imp (L3.E3.imp K31.vG);exact L2.Fx e7 e8 (λf fd F base _ _=>(K31.Bx F I a b o (c4 base) (A base) (t base) (c3 base) (e0 base) (e5 base) (a1 base) (u base)).imp (L3.Co K31.yV))
end K31
theorem PySem.Challenge.cw_clausekeep_k31_whole_core_holds : PySem.Challenge.rw_clausekeep_k31_whole_core.Holds := by
 exact K31.wT
#print axioms PySem.Challenge.cw_clausekeep_k31_whole_core_holds
