import PyProof.Rows.All
import Wide.All
import OpenK.AllK
import Wide.FinOn
import Lean
import PyProof.EqAt
import PyProof.EqKinds
import PyProof.TupleCall
import KE.KDictList
import KE.KDictOf
import KE.KDictSum
import KE.KEqDict
import KE.KMinBuiltin
import KE.KRevIter
import OpenK.KCls
import OpenK.KOwn
import PyProof.AutoSeq1
import PyProof.CollectWalk
import PyProof.DictUpdate
import PyProof.EnumIter
import PyProof.EnumMake
import PyProof.EnumStmt
import PyProof.ExcArgs
import PyProof.ExcBaseAll.ValueError
import PyProof.ExcClass2
import PyProof.ExcInit
import PyProof.FString5
import PyProof.InstStoreFacts
import PyProof.IsInstance
import PyProof.IsiH_list
import PyProof.LayNew
import PyProof.ListRange
import PyProof.NeKinds
import PyProof.NsDelKeeps
import PyProof.Rows.CallKwBuiltin
import PyProof.Rows.Range3
import PyProof.Rows.RuleN_abs
import PyProof.Rows.SetFrom
import PyProof.Rows.SortWalk
import PyProof.Rows.TupAdd
import PyProof.RulesAs
import PyProof.StationsW
import PyProof.TupleIter
import PyProof.TupleOfGen
import PyProof.WalkInts
import PyProof.WalksMore
import PySem.Challenge.RW_clausekeep_k13_steps_taken
set_option Elab.async false
set_option bootstrap.genMatcherCode false
set_option linter.all false
set_option maxRecDepth 100000
set_option maxHeartbeats 0
open Array renaming getElem?_eq_some_iff->R4,length_toList->U4,getElem?_eq_none->tI,getElem?_toList->vh,find?_toList->yK,toList->IG
open Bool renaming false->g8,true->h7,and_eq_true->l8,and_eq_true_iff->K5,false_ne_true->N3,false_and->Y2,true_and->dR,or_true->fj,and_false->gT,not_true->ja,false_eq_true->jB,or_false->tE,false_or->tF,and_true->tG,not_false->Ig,true_or->Kj
open Char renaming toNat->jA
open Classical renaming propDecidable->nS
open Decidable renaming byContradiction->OQ
open False renaming elim->v6
open Int renaming emod_lt_of_pos->x5,emod_nonneg->x6,zero_add->U3,add_zero->wT,neg_neg->yI,le_refl->yJ,toNat_natCast->EN,add_comm->KO
open Nat renaming le_refl->i8,ne_of_lt->j9,lt_of_lt_of_le->l7,le_of_ble_eq_true->m6,le_trans->m8,lt_irrefl->n8,lt_succ_of_lt->t9,zero_le->u3,lt_succ_self->u7,ne_of_gt->y0,succ_le_succ->U1,lt_trans->U2,zero_add->Z3,le_succ->bd,not_lt_zero->bM,le_of_lt->cv,lt_of_le_of_lt->kb,le_succ_of_le->kP,le_add_right->mW,le_of_eq->wS,lt_of_sub_eq_succ->yD,min_eq_right->FF,toList_repr->Ic,min_eq_left->Ie,add_le_add->IF,sub_zero->KL,ble->KM,add_comm->KN,repr->OO
open Ne renaming symm->o1
open Option renaming some->g7,none->g9
open Prod renaming ext->yC
open Prod.mk renaming injEq->EM,inj->Ib
open PyProof.Rows renaming slot_tuple_getitem->v9,boot_isinstance->L5,envOfC->Z2,callWith_type1->ak,boot_dict->cF,boot_bool->cG,AllBare->fk,callWith_builtin1->gS,boot_int->mV,subscriptTail_builtinR->Cu,IsTup->Ki,tupleItemsOf_->Mt,size_push'->Mu,signs_ofString->Mv,plain_sorted->Mw,kind_sorted->Mx,joinParts_nil->My,joinParts_cons->Mz,iadd_int->MA,formatField_str->MB,formatField_int_small->MC,entry_tuple_getitem->MD,entry_sorted->ME,boot_tuple->MF,boot_sorted->MG,boot_max->MH,boot_list->MI,boot_any->MK,boot_all->ML,boot_abs->MM,args_tuple_getitem->MN,args_sorted1->MO,JoinedStr_many->MP,FormattedValue_plain->MQ,tail_any->Ni,slicePart_none->Nj,subscriptTail->NQ,isTrue_plain->OM
open PyProof.Rows.IsTup renaming new->MS
open PySem renaming starEach->i1,wpAny_pure->i6,mainGlobals->k8,Builtin->m3,backTo->m4,keywordEach->n7,attributeBase->v7,sizeLine_eq->v8,wpAny_holding->x0,wpAny_field->x2,wpAny_loadPart_at->x4,backToKw->y7,compareOp->A0,swapsWith->B4,codeAny_call_builtin->D7,cLine->E7,wpAny_Call_Name_kw->J3,wpAny_truthy_bool->L7,wpAny_pyIter_list->L8,codeAny_mono->L9,bootBuiltins->M0,behindInMarks->M5,wpAny_setField_rec->P3,sysModules->P4,holding->P5,wpAny_passesOwn->Q8,importedModules->Q9,wpAny_newObj_type->T4,wpAny_isSubtype_exc->X4,wpAny_execs_nil->Y1,tupleKind_room_in1->Z1,wpAny_callSpecial?_slot->aj,wpAny_typeOf->aF,codeAny->aH,builtinLookup_eq_fast->bI,wpAny_call_entry->bK,wpAny_call->bL,sliceBounds->cr,lookup_relabel_local->cu,codeAny_builtin->cH,typeLookup->ee,evalEach->ef,binaryOp->eg,excClassObj->fi,wpAny_execs_cons->gk,bindArgs->gm,valueAt->gU,standAt->gV,getItem->gW,wpAny_loadPart'->iT,typeLookup_type->iU,letOwnedTupleGo->iV,callWith->ka,tupleKind->ky,getMethod->kz,callerA->kA,plainId_quiet->mQ,assign->mU,call_meetsIn->pa,plainObj_wpAny_Assign_Attribute->qU,treeTable->qX,wpAny_point->tz,relabel->ve,BindsTo->vg,wpAny_setField->wL,wpAny_newFunctionEnv_cells->wM,sliceRange->wN,isTrue->wP,atKey->wR,bindL->Cn,bindC->Co,wpAny_pyNext_list_item->Ct,seqIndex_neg->Cv,leaving->Cw,getAttr->Cy,wpAny_pyNext_list_end->EJ,wpAny_notOrdered_dict->EK,codeAny_call_function->EL,wpAny_loadName_local->Fx,unbindBehindTheSuite->Fy,slicePicked->Fz,seqIndex_of->FA,getAttr?->FD,wpAny_raiseNew_none->HY,wpAny_loadName_cell->HZ,wpAny_dictSet_pairs->Ia,wpAny_rule->Iv,wpAny_Name->Iw,wpAny_Constant_int->Ix,typeIs_str->Iy,stored->Iz,merged->IA,isInstance->IB,builtinsNs->IC,Result->ID,wpAny_sequenceKey->Kb,wpAny_assign_Name->Kc,wpAny_Call_method->Kd,spliced->Ke,slot_list_getitem->Kf,setItem->Kg,wpAny_lookBehind->Kz,stored_length_le->KA,storeName->KB,pastItsLine_dict->KC,merged_length_le->KD,isinstance_outer->KF,inplaceOp->KG,PassesOwn->KJ,pushCells_keeps->LZ,codeAny_of_tree->Ma,call_isinstance->Mb,wpAny_tryCatch->Nd,wpAny_loadPart->Nf,typeOf->Ng,truthy->Nh,setField->Nk,refuseLoop_ref->Nl,recursionLimit->Nm,raiseAttrError->Nn,newFunctionEnv->Nq,field->Nt,callType_codes->Nv,wpAny_attempt->NN,swapsWithSole->NO,swappedStores->NP,intBits_le_64->NR,fenceModules?->NS,evalPart_none->NT,comprehension->NU,call_list_seq->NV,wpAny_nsSet1->OE,unaryOp->OG,setAttr->OK,name_of_addr->OL,codeAny_func->ON
open PySem.Around renaming under_plainId->aA,under->tH
open PySem.Builtin.Dict renaming updateFrom->S3,selfAndRest->kB,addKeywords->kC,pairItems->mR
open PySem.Builtin.Range renaming rangeSize->KU
open PySem.Builtin.Slice renaming slicePlaces->O1,sliceAdjust->aJ,sliceApplied->iZ,slicePartIndex->KR,sliceFields->KS
open PySem.Builtin.SmallTypes renaming ownedTupleIsFree->cI,ownedTupleHandOut->EO
open PySem.Builtin.Str renaming occurrences->C2,strSliceIndices->am
open PySem.Builtin.Tuple renaming tupleExact->P6,tupleItemsOf->iY,tupleIsExact->KQ
open PySem.Calls renaming spliced_cons->W1,evalArgs_plain->aI,spliced_nil->de,callWith_builtin->ez,Name_function_global->pb
open PySem.Code renaming quiet_builtin->jz,isFrame->vf,frames->KP
open PySem.DictEntry renaming refKey->OP
open PySem.EntryCells renaming newEntry->qY
open PySem.Paired renaming length->cZ,snoc->IE
open PySem.SeqAt renaming EqAt->al,RcNeAt->ew,RcAt->iX
open PySem.SeqAt.EqAt renaming same->jy,of_refs->tD,tuple_none->Om,str_str->On,str_none->Oo,str_int->Oq,none_str->Os,none_int->Ot,none_bool->Ou,list_none->Ov,int_str->Ow,int_none->Ox,int_int->Oy,bool_none->Oz,bool_bool->OA
open PySem.SeqAt.RcAt renaming tuples->NW,tuple_none->NX,str_str->NY,str_none->NZ,none_str->Oa,none_none->Ob,none_int->Oc,none_bool->Od,lists_lengths->Oe,lists->Of,list_none->Og,int_none->Oh,int_int->Oi,bool_none->Oj,bool_bool->Ol
open PySem.SeqAt.RcNeAt renaming tuples->Mc,tuple_none->Md,str_str->Me,str_none->Mf,none_str->Mg,none_none->Mh,none_int->Mi,none_bool->Mj,lists_lengths->Ml,lists->Mm,list_none->Mn,int_none->Mp,int_int->Mq,bool_none->Mr,bool_bool->Ms
open PySem.W renaming boot_heap->E8,findIn->aG,looks_findIn->oZ,namesBound->wO,boot_drawn->wQ,boot_toks->Cm,looks_clsIn->FB,laidKept->FC,gensDone->FE,openSeen->No,openGood->Np,keepIn->Nr,clsIn->Nu,topStub->OH,topFrom->OI,through->OJ
open PySem.W.WShape renaming has->Kh
open PySem.Walks renaming list->KH
set_option autoImplicit true
namespace L2
open PySem PySem.Spec PyProof.Rows
noncomputable abbrev Key:=Sum Int Str
noncomputable def iA:Key→Value→Bool
 |.inl k,v=>Value.isInt k v
 |.inr x,v=>Value.isStrOf x v
noncomputable def LC (w:World):Key→Int
 |.inl k=>hashInt k
 |.inr x=>hashStr w x
theorem z8:∀{k:Key} {v:Value},iA k v=h7→(∃i t,k=Sum.inl i∧v=Value.int i t)∨(∃x t,k=Sum.inr x∧v=Value.str x t)
 |.inl i,v,h=>by
  obtain⟨t,e⟩:=Value.isInt_shape (k:=i) (v:=v) h;exact .inl ⟨i,t,rfl,e⟩
 |.inr x,v,h=>by
  obtain⟨t,e⟩:=Value.isStrOf_shape (x:=x) (v:=v) h;exact .inr ⟨x,t,rfl,e⟩
theorem xM (i:Int)(t:Tok):iA (.inl i) (.int i t)=h7:=by simp[iA,Value.isInt]
theorem xL (x:Str)(t:Tok):iA (.inr x) (.str x t)=h7:=by simp[iA,Value.isStrOf]
theorem GX (a b:Int):decide ((Sum.inl a:Key)=Sum.inl b)=(a==b):=by
 by_cases e:a=b
 ·subst e;simp
 ·have h:¬(Sum.inl a:Key)=Sum.inl b:=λq=>e (Sum.inl.inj q);rw[decide_eq_false h];exact(beq_eq_false_iff_ne.mpr e).symm
theorem GU (a b:Str):decide ((Sum.inr a:Key)=Sum.inr b)=decide (a=b):=by
 by_cases e:a=b
 ·subst e;simp
 ·have h:¬(Sum.inr a:Key)=Sum.inr b:=λq=>e (Sum.inr.inj q);rw[decide_eq_false h,decide_eq_false e]
theorem GW (a:Int)(b:Str):decide ((Sum.inl a:Key)=Sum.inr b)=g8:=decide_eq_false (λq=>nomatch q)
theorem GV (a:Str)(b:Int):decide ((Sum.inr a:Key)=Sum.inl b)=g8:=decide_eq_false (λq=>nomatch q)
noncomputable def w6 (prog:Program)(w:World):PySem.KeyKind prog w Key where
 is:=iA
 hash:=LC w
 inj:=λv a b g f=>by
  rcases z8 g with⟨i,t,rfl,rfl⟩ | ⟨x,t,rfl,rfl⟩
  ·rcases z8 f with⟨j,u,rfl,e⟩ | ⟨y,u,rfl,e⟩
   ·injection e with c _;rw[c]
   ·exact nomatch e
  ·rcases z8 f with⟨j,u,rfl,e⟩ | ⟨y,u,rfl,e⟩
   ·exact nomatch e
   ·injection e with c _;rw[c]
 byValue:=λk v h=>by
  rcases z8 h with⟨i,t,rfl,rfl⟩ | ⟨x,t,rfl,rfl⟩<;>rfl
 pyHash:=λd h=>by
  rcases z8 d with⟨i,t,rfl,rfl⟩ | ⟨x,t,rfl,rfl⟩
  ·exact wpAny_pyHash_int h
  ·exact wpAny_pyHash_str h
 eqBool:=λl d h=>by
  rcases z8 l with⟨i,t,rfl,rfl⟩ | ⟨x,t,rfl,rfl⟩
  ·rcases z8 d with⟨j,u,rfl,rfl⟩ | ⟨y,u,rfl,rfl⟩
   ·rw[GX]at h;exact wpAny_eqBool_int h
   ·rw[GW]at h;exact Ow i t y u _ _ _ _ h
  ·rcases z8 d with⟨j,u,rfl,rfl⟩ | ⟨y,u,rfl,rfl⟩
   ·rw[GV]at h;exact Oq x t j u _ _ _ _ h
   ·rw[GU]at h;exact wpAny_eqBool_str h
 «strs»:=λk x t v h=>by
  rcases z8 h with⟨i,u,rfl,e⟩ | ⟨y,u,rfl,e⟩
  ·exact nomatch e
  ·injection e with c _;subst c;cases v<;>rfl
theorem rT (prog:Program)(w:World)(i:Int)(t:Tok):(w6 prog w).is (.inl i) (.int i t)=h7:=xM i t
theorem rS (prog:Program)(w:World)(x:Str)(t:Tok):(w6 prog w).is (.inr x) (.str x t)=h7:=xL x t
inductive V where
 |z5|bl (b:Bool) |int (i:Int) |str (x:Str) |byt (b:Array UInt8) |flt (b:UInt64) |ref (a:Addr) |ty (n:String)
 deriving DecidableEq
noncomputable def RelV:V→Value→Prop
 |.z5,u=>u=Value.none
 |.bl b,u=>u=Value.bool b
 |.int i,u=>∃t,u=Value.int i t
 |.str x,u=>∃t,u=Value.str x t
 |.byt b,u=>∃t,u=Value.bytes b t
 |.flt b,u=>∃t,u=Value.float b t
 |.ref a,u=>u=Value.ref a
 |.ty n,u=>u=Value.type n
noncomputable abbrev Vals:List V→List Value→Prop:=Paired RelV
theorem Vals.length(r:Vals xs us):xs.length=us.length:=cZ r
theorem Vals.get:∀{xs:List V} {us:List Value} {i:Nat} {x:V},Vals xs us→xs[i]?=g7 x→∃u,us[i]?=g7 u∧RelV x u
 |_,_,_,_,.nil,e=>by simp at e
 |_,_,0,_,.cons r _,e=>by simp at e;subst e;exact⟨_,rfl,r⟩
 |_,_,i+1,x,.cons _ t,e=>by
  obtain⟨u,a,b⟩:=Vals.get (i:=i) (x:=x) t (by simpa using e);exact⟨u,by simpa using a,b⟩
theorem Vals.set(r:RelV x u):∀{xs:List V} {us:List Value} (i:Nat),Vals xs us→Vals (xs.set i x) (us.set i u)
 |_,_,_,.nil=>.nil
 |_,_,0,.cons _ t=>.cons r t
 |_,_,i+1,.cons q t=>.cons q (Vals.set r i t)
theorem Vals.append:∀{xs a:List V} {us b:List Value},Vals xs us→Vals a b→Vals (xs++a) (us++b)
 |_,_,_,_,.nil,s=>s
 |_,_,_,_,.cons r t,s=>.cons r (Vals.append t s)
theorem Vals.take:∀{xs:List V} {us:List Value} (n:Nat),Vals xs us→Vals (xs.take n) (us.take n)
 |_,_,0,_=>.nil
 |_,_,_+1,.nil=>.nil
 |_,_,n+1,.cons r t=>.cons r (Vals.take n t)
theorem Vals.drop:∀{xs:List V} {us:List Value} (n:Nat),Vals xs us→Vals (xs.drop n) (us.drop n)
 |_,_,0,r=>r
 |_,_,_+1,.nil=>.nil
 |_,_,n+1,.cons _ t=>Vals.drop n t
noncomputable def bG:Option V→Option Value→Prop
 |some v,g7 u=>RelV v u
 |none,g9=>True
 |_,_=>False
noncomputable def KV {a:Type}:List (a×V)→List (a×Value)→Prop:=Paired λ(p:a×V) (q:a×Value)=>p.1=q.1∧RelV p.2 q.2
noncomputable def kV:Key→V
 |.inl i=>.int i
 |.inr x=>.str x
inductive HO where
 
 |lst (xs:List V)
 
 |tup (xs:List V)
 
 |dK (kvs:List (Key×V)) |dT (kvs:List (List Key×V))
 
 |set (S:Int→Bool) (n:Nat)
 
 |ins (C dx:Addr) (fs:List (Str×V))
 
 |own (x:Addr)
 
 |xd (fs:List (Str×V))
 
 |met (f x:Addr)
 
 |rng (lo hi:Int)
 
 |df (o:Obj) (u:HO)
 
 |tbl (ps:Array Value)
 
 |ext (φ:Heap→Prop)
noncomputable abbrev Hp:=Addr→Option HO
noncomputable def upd (H:Hp)(a:Addr)(o:HO):Hp:=λb=>if b=a then g7 o else H b
theorem l5:upd H a o a=g7 o:=by unfold upd;rw[if_pos rfl]
theorem i9(h:b≠a):upd H a o b=H b:=by unfold upd;rw[if_neg h]
theorem Js {H:Hp}{a b:Addr}{o u:HO}(h:H a=g7 o)(h':H b=g7 u)(d:o≠u):a≠b:=by
 intro e;subst e;rw[h]at h';exact d (Option.some.inj h')
theorem t8 {H:Hp}{a b:Addr}{o:HO}(h:H a=g7 o)(h':H b=g9):a≠b:=by
 intro e;subst e;rw[h]at h';cases h'
section
variable (P:Program)(w:World)
noncomputable def B9 (H:Hp)(h:Heap)(a:Addr):HO→Prop
 |.lst xs=>xs.length≤sizeLine∧∃(b:List Value) (n:Nat),Vals xs b∧h.get? a=g7 {cls:=.type "list",data:=.seq b.toArray n}
 |.tup xs=>xs.length≤sizeLine∧∃b:List Value,Vals xs b∧Ki h a b.toArray
 |.dK kvs=>kvs.length≤sizeLine∧(a==P4)=g8∧∃vs,KV kvs vs∧h.DictOf (w6 P w) a vs
 |.dT kvs=>kvs.length≤sizeLine∧(a==P4)=g8∧∃xs:List (List Key×Addr×Value),
   Paired (λ(p:List Key×V) (q:List Key×Addr×Value)=>p.1=q.1∧H q.2.1=g7 (.tup (p.1.map kV))∧RelV p.2 q.2.2) kvs xs∧
   ∃o es e,h.get? a=g7 o∧o.ExactDict∧o.data=.dict es e∧es.toList=xs.map (entryOfKey (ky (w6 P w)))∧(xs.map (·.1)).Nodup
 |.set S n=>h.SetOf (intKind P w) a S n
 |.ins C dx fs=>H dx=g7 (.own a)∧fs.length≤1000∧dx≠a∧h.get? a=g7 (PySem.W.instObj C dx)∧
   ∃mA,h.Ns1 dx mA∧(∀f,bG (fs.lookup f) (mA f))∧PySem.Within mA (fs.map (·.1))
 |.own _=>∃o,h.get? a=g7 o
 |.xd fs=>∃mA,h.Ns1 a mA∧∀f,bG (fs.lookup f) (mA f)
 |.rng lo hi=>∃t u v,h.get? a=g7 {cls:=.type "range",data:=.fields #[.int lo t,.int hi u,.int 1 v]}
 |.df o u=>h.get? a=g7 o∧B9 H h a u
 |.tbl ps=>h.get? a=g7 {cls:=.none,data:=.fields ps}
 |.met f x=>h.get? a=g7 (PySem.W.methodObj (.ref f) (.ref x))
 |.ext φ=>φ h∧(∃o,h.get? a=g7 o)∧∀c d:Heap,φ c→(∀o,c.get? a=g7 o→d.get? a=g7 o)→φ d
def fb (H:Hp)(h:Heap):Prop:=∀a o,H a=g7 o→B9 P w H h a o
end
section
variable {P:Program}{w:World}{H H':Hp}{h h':Heap}{a:Addr}{o:HO}
theorem B9.lt (x:B9 P w H h a o):a<h.objs.size:=by
 cases o with
 |lst xs=>obtain⟨_,_,_,_,e⟩:=x;exact Heap.lt_size e
 |tup xs=>obtain⟨_,_,_,p⟩:=x;exact p.lt
 |dK kvs=>obtain⟨_,_,_,_,o,_,_,e,_⟩:=x;exact Heap.lt_size e
 |dT kvs=>obtain⟨_,_,_,_,o,_,_,e,_⟩:=x;exact Heap.lt_size e
 |set S n=>obtain⟨o,_,_,_,e,_⟩:=x;exact Heap.lt_size e
 |ins C dx fs=>obtain⟨_,_,_,e,_⟩:=x;exact Heap.lt_size e
 |own y=>obtain⟨_,e⟩:=x;exact Heap.lt_size e
 |xd fs=>obtain⟨_,⟨_,_,_,e,_⟩,_⟩:=x;exact Heap.lt_size e
 |rng lo hi=>obtain⟨_,_,_,e⟩:=x;exact Heap.lt_size e
 |df ob u=>obtain⟨e,_⟩:=x;exact Heap.lt_size e
 |tbl ps=>exact Heap.lt_size (show h.get? a=g7 _ from x)
 |met f y=>exact Heap.lt_size (show h.get? a=g7 _ from x)
 |ext φ=>obtain⟨_,⟨_,e⟩,_⟩:=x;exact Heap.lt_size e
theorem Paired.Ai {α e:Type}{F G:α→e→Prop}:∀{c:List α} {d:List e},Paired F c d→(∀a b,F a b→G a b)→Paired G c d
 |_,_,.nil,_=>.nil
 |_,_,.cons r t,f=>.cons (f _ _ r) (Paired.Ai t f)
theorem Paired.imp' {α e:Type}{F G:α→e→Prop}(f:∀a b,F a b→G a b){c:List α}{d:List e}(r:Paired F c d):Paired G c d:=Paired.Ai r f
theorem B9.stay (x:B9 P w H h a o)(k:∀b u,(b=a∨H b=g7 (.own a))→h.get? b=g7 u→h'.get? b=g7 u)
  (j:∀b,H b=g7 (.own a)→H' b=g7 (.own a)) (l:∀b xs,H b=g7 (.tup xs)→H' b=g7 (.tup xs)):B9 P w H' h' a o:=by
 induction o with
 |lst xs=>obtain⟨z,i,n,r,e⟩:=x;exact⟨z,i,n,r,k _ _ (.inl rfl) e⟩
 |tup xs=>obtain⟨z,i,r,ob,e,c⟩:=x;exact⟨z,i,r,ob,k _ _ (.inl rfl) e,c⟩
 |dK kvs=>obtain⟨z,y,vs,r,ob,es,g,e,c⟩:=x;exact⟨z,y,vs,r,ob,es,g,k _ _ (.inl rfl) e,c⟩
 |dT kvs=>
  obtain⟨z,y,xs,r,ob,es,g,e,c⟩:=x;exact⟨z,y,xs,Paired.Ai r λp q z=>⟨z.1,l _ _ z.2.1,z.2.2⟩,ob,es,g,k _ _ (.inl rfl) e,c⟩
 |set S n=>obtain⟨ob,es,g,t,e,c⟩:=x;exact⟨ob,es,g,t,k _ _ (.inl rfl) e,c⟩
 |ins C dx fs=>
  obtain⟨d,z,ne,e,mA,⟨od,es,g,m,c⟩,r⟩:=x;exact⟨j _ d,z,ne,k _ _ (.inl rfl) e,mA,⟨od,es,g,k _ _ (.inr d) m,c⟩,r⟩
 |own y=>obtain⟨ob,e⟩:=x;exact⟨ob,k _ _ (.inl rfl) e⟩
 |xd fs=>obtain⟨mA,⟨od,es,g,e,c⟩,r⟩:=x;exact⟨mA,⟨od,es,g,k _ _ (.inl rfl) e,c⟩,r⟩
 |rng lo hi=>obtain⟨t,u,v,e⟩:=x;exact⟨t,u,v,k _ _ (.inl rfl) e⟩
 |df ob u ih=>obtain⟨e,q⟩:=x;exact⟨k _ _ (.inl rfl) e,ih q⟩
 |tbl ps=>
  have e:h.get? a=g7 {cls:=.none,data:=.fields ps}:=x;show h'.get? a=g7 {cls:=.none,data:=.fields ps};exact k a _ (.inl rfl) e
 |met f y=>
  have e:h.get? a=g7 (PySem.W.methodObj (.ref f) (.ref y)):=x;show h'.get? a=g7 (PySem.W.methodObj (.ref f) (.ref y));exact k a _ (.inl rfl) e
 |ext φ=>obtain⟨p,⟨o,e⟩,st⟩:=x;exact⟨st _ _ p λo q=>k _ _ (.inl rfl) q,⟨o,k _ _ (.inl rfl) e⟩,st⟩
theorem fb.lt (x:fb P w H h)(e:H a=g7 o):a<h.objs.size:=(x a o e).lt
theorem fb.fresh (x:fb P w H h)(e:h.objs.size≤a):H a=g9:=by
 cases q:H a with
 |none=>rfl
 |some u=>exact absurd (l7 (x.lt q) e) (n8 _)
theorem fb.kept (x:fb P w H h)(k:∀b u,h.get? b=g7 u→h'.get? b=g7 u):fb P w H h':=λa o e=>
 (x a o e).stay (λb u _ q=>k b u q) (λ_ q=>q) λ_ _ q=>q
theorem fb.laid (x:fb P w H h)(k:∀b u,h.get? b=g7 u→h'.get? b=g7 u)(g:h.objs.size≤a)(new:B9 P w (upd H a o) h' a o):fb P w (upd H a o) h':=λb u e=>by
 have d:=x.fresh g;by_cases f:b=a
 ·subst f;rw[l5]at e;cases e;exact new
 ·rw[i9 f]at e;exact(x b u e).stay (λc v _ q=>k c v q) (λc q=>by rw[i9 (t8 q d)];exact q) λc xs q=>by rw[i9 (t8 q d)];exact q
end
def Rd (H:Hp)(a:Addr)(u:HO):Prop:=H a=g7 u∨∃o,H a=g7 (.df o u)
theorem Rd.ok(r:Rd H a u)(x:fb P w H h):B9 P w H h a u:=by
 rcases r with r| ⟨o,r⟩
 ·exact x a u r
 ·obtain⟨_,q⟩:=x a _ r;exact q
noncomputable def JU:Option HO→Prop
 |some (.lst _)=>True
 |some (.dK _)=>True
 |some (.dT _)=>True
 |some (.set _ _)=>True
 |some (.ins _ _ _)=>True
 |some (.ext _)=>True
 |_=>False
section
variable {P:Program}{w:World}{H:Hp}{h h':Heap}{x e:Addr}{o':HO}
theorem fb.write (ok:fb P w H h)(g:JU (H x))(m:e=x∨H e=g7 (.own x))(k:∀b u,b≠e→h.get? b=g7 u→h'.get? b=g7 u)(l:∃u,h'.get? e=g7 u)
  (new:B9 P w (upd H x o') h' x o'):fb P w (upd H x o') h':=λb u q=>by
 have d:∀c y,H c=g7 (.own y)→c≠x:=λc y r z=>by subst z;rw[r]at g;exact g
 have f:∀c xs,H c=g7 (.tup xs)→c≠x:=λc xs r z=>by subst z;rw[r]at g;exact g
 by_cases i:b=x
 ·subst i;rw[l5]at q;cases q;exact new
 ·rw[i9 i]at q;by_cases a:b=e
  ·have n:H b=g7 (.own x):=by
    rcases m with z|z
    ·exact absurd (a.trans z) i
    ·rw[a];exact z
   rw[q]at n;cases n;obtain⟨v,o⟩:=l;exact⟨v,by rw[a];exact o⟩
  ·refine(ok b u q).stay (λc v j r=>k c v ?_ r) (λc r=>by rw[i9 (d c b r)];exact r) λc xs r=>by rw[i9 (f c xs r)];exact r
   rcases j with rfl|j
   ·exact a
   ·rintro rfl
    rcases m with z|z
    ·exact d c b j z
    ·rw[j]at z;cases z;exact i rfl
end
structure Un (fs ex:List Addr) (H H':Hp) (h h':Heap):Prop where
 keep:∀b o,h.get? b=some o→H b=none→b∉fs→b∉ex→h'.get? b=some o
 slot:∀b o,h.get? b=some o→H b=none→b∈fs→b∉ex→∃sl,h'.get? b=some {o with slots:=sl}
 free:∀b o,h.get? b=some o→H b=none→b∉ex→H' b=none
 there:∀b o,h.get? b=some o→b∉ex→∃o',h'.get? b=some o'
 tups:∀b xs,H b=some (.tup xs)→H' b=some (.tup xs)
 frzs:∀b o u,H b=some (.df o u)→H' b=some (.df o u)
 tbls:∀b ps,H b=some (.tbl ps)→∃more,H' b=some (.tbl (ps++more))
section
variable {fs HW ex OD:List Addr}{H H1 H2:Hp}{h h1 h2 h':Heap}{a x e:Addr}{o:HO}
theorem Un.any (u:Un fs ex H H1 h h1)(q:h.get? b=g7 ob)(n:H b=g9)(hx:b∉ex):∃sl,h1.get? b=g7 {ob with slots:=sl}:=by
 by_cases a:b∈fs
 ·exact u.slot b ob q n a hx
 ·exact⟨ob.slots,u.keep b ob q n a hx⟩
theorem Un.kept (k:∀b u,h.get? b=g7 u→h'.get? b=g7 u):Un fs ex H H h h':=
 ⟨λb ob q _ _ _=>k b ob q,λb ob q _ _ _=>⟨ob.slots,k b ob q⟩,λ_ _ _ n _=>n,λb ob q _=>⟨ob,k b ob q⟩,λ_ _ q=>q,λ_ _ _ q=>q,λ_ ps q=>⟨#[],by rw[q];simp⟩⟩
theorem Un.refl:Un fs ex H H h h:=Un.kept λ_ _ q=>q
theorem Un.laid (k:∀b u,h.get? b=g7 u→h'.get? b=g7 u)(d:h.objs.size≤a)(c:H a=g9):Un fs ex H (upd H a o) h h' where
 keep:=λb u q _ _ _=>k b u q
 slot:=λb u q _ _ _=>⟨u.slots,k b u q⟩
 free:=λb u q n _=>by rw[i9 (j9 (l7 (Heap.lt_size q) d))];exact n
 there:=λb u q _=>⟨u,k b u q⟩
 tups:=λb xs q=>by rw[i9 (t8 q c)];exact q
 frzs:=λb u xs q=>by rw[i9 (t8 q c)];exact q
 tbls:=λb ps q=>⟨#[],by rw[i9 (t8 q c),q];simp⟩
theorem Un.write (c:JU (H x))(i:e=x∨H e=g7 (.own x))(k:∀b u,b≠e→h.get? b=g7 u→h'.get? b=g7 u)(d:∃u,h'.get? e=g7 u):Un fs ex H (upd H x o) h h':=by
 have hx:∀b,H b=g9→b≠x:=λb n z=>by subst z;rw[n]at c;exact c
 have g:∀b,H b=g9→b≠e:=λb n z=>by
  subst z;rcases i with r|r
  ·exact hx b n r
  ·rw[n]at r;cases r
 have f:∀b u,H b=g7 u→¬JU (g7 u)→b≠x:=λb u q nm z=>by subst z;rw[q]at c;exact nm c
 refine⟨λb u q n _ _=>k b u (g b n) q,λb u q n _ _=>⟨u.slots,k b u (g b n) q⟩,λb u q n _=>by rw[i9 (hx b n)];exact n,λb u q _=>?_,
  λb xs q=>by rw[i9 (f b _ q λz=>z)];exact q,λb u xs q=>by rw[i9 (f b _ q λz=>z)];exact q,λb ps q=>⟨#[],by rw[i9 (f b _ q λz=>z),q];simp⟩⟩
 by_cases a:b=e
 ·subst a;exact d
 ·exact⟨u,k b u a q⟩
end
noncomputable def Km (h:Heap)(H:Hp):List Addr:=(List.range h.objs.size).filter λa=>(H a).isSome
noncomputable def pW (h:Heap)(H:Hp):Heap:=PySem.W.hideAll h (Km h H)
theorem xU (h:Heap)(H:Hp):(pW h H).objs.size=h.objs.size:=PySem.W.hideAll_size _ _
theorem AT {h:Heap}(e:h.get? b=g7 o)(n:H b=g9):(pW h H).get? b=g7 o:=
 PySem.W.hideAll_get _ e λa=>by
  have q:(H b).isSome=h7:=(List.mem_filter.mp a).2;rw[n]at q;simp at q
theorem Du(e:(pW h H).get? b=g7 o):h.get? b=g7 o∧H b=g9:=by
 have a:h.get? b=g7 o:=PySem.W.of_hideAll (Km h H) e;refine⟨a,?_⟩;cases q:H b with
 |none=>rfl
 |some x=>
  have c:b∈Km h H:=List.mem_filter.mpr ⟨List.mem_range.mpr (Heap.lt_size a),by simp[q]⟩;have z:(pW h H).get? b=g9:=PySem.W.hideAll_none (Km h H) c;rw[z]at e;cases e
structure Mod (K:PySem.W.Frag) (mg:Str→Option Value) (base:Heap):Prop where
 kin:K.In base
 glob:base.Ns k8 mg
 blt:∃mb,base.Ns IC mb∧∀x:Str,x≠"__name__"→mb x=M0 x
 nolimit:base.NoLimit
structure Cx where
 prog:Program
 w:World
 K:PySem.W.Frag
 mg:Str→Option Value
 base:Heap
 A:Around
 N:List Str
 s₀:Shared
 H₀:Hp
 env:Env
 outer:List Env
 stack:List Env
 ex:List Addr
 fn:Str→Bool
 calm:Bool
 pn:List (Addr×Obj)
 xe:Value→Shared→Prop
noncomputable def frs (l:List Env):List Addr:=l.filterMap (·.frame)
noncomputable abbrev Cx.fs (X:Cx):List Addr:=frs X.outer
def cq (sc:Scope)(x:Str):Prop:=sc.names.lookup x=g7 .local∨sc.names.lookup x=g7 .cell∨sc.names.lookup x=g7 .free
def Loc (sc:Scope)(x:Str):Prop:=sc.names.lookup x=g7 .local∨sc.names.lookup x=g7 .cell
def Look (env:Env)(h:Heap)(m:Str→Option Value)(x:Str)(u:Value):Prop:=
 (env.kindOf x=g7 .local∧m x=g7 u)∨((env.kindOf x=g7 .cell∨env.kindOf x=g7 .free)∧∃c,env.cells.lookup x=g7 c∧h.IsCell c (g7 u))
structure Cx.Ok (X:Cx):Prop where
 mod:Mod X.K X.mg X.base
 kind:X.env.scope.kind=.function
 glob:X.env.globals=k8
 blt:X.env.builtins=IC
 above:X.s₀.heap.objs.size≤X.env.locals
 inj:∀x y c,X.env.cells.lookup x=some c→X.env.cells.lookup y=some c→x=y
 has:∀x,(X.env.kindOf x=some .cell∨X.env.kindOf x=some .free)→∃c,X.env.cells.lookup x=some c
 cab:∀x c,X.fn x=true→X.env.cells.lookup x=some c→X.s₀.heap.objs.size≤c
 hd:X.calm=true→X.A.handled=none
 frames:X.A.frames=some X.stack
 stk:X.stack=X.outer∨(X.stack=X.env::X.outer∧X.env.frame=some X.env.locals)
 exf:∀b∈X.ex,b≠X.env.locals∧∀x c,X.env.cells.lookup x=some c→c≠b
 bs:∀b o,X.base.get? b=some o→X.s₀.heap.get? b=some o∧X.H₀ b=none
 bsz:X.base.objs.size≤X.s₀.heap.objs.size
 noex:∀b o,X.base.get? b=some o→b∉X.ex
 exfs:∀b∈X.ex,b∉X.fs
 iG:X.s₀.heap.FunFrames X.base X.outer
 frf:∀b∈X.fs,X.H₀ b=none
structure Inv (X:Cx) (pins:List (Addr×Obj)) (σ:List (Option V)) (H:Hp) (s:Shared):Prop where
 ok:X.Ok
 os:s.os=X.s₀.os
 bare:fk s.gens
 base:Un X.fs X.ex X.H₀ H X.s₀.heap s.heap
 loc:∃m,s.heap.Ns X.env.locals m∧∀(i:Nat) (x:Str) (v:V),X.N[i]?=some x→σ[i]?=some (some v)→cq X.env.scope x→∃u,RelV v u∧Look X.env s.heap m x u
 cell:∀x c,X.env.cells.lookup x=some c→∃v,s.heap.IsCell c v
 free:H X.env.locals=none
 freeC:∀x c,X.env.cells.lookup x=some c→H c=none
 pin:∀p∈X.pn++pins,s.heap.get? p.1=some p.2∧H p.1=none∧p.1≠X.env.locals∧p.1∉X.fs∧∀v,p.2.data≠.cell v
 hok:fb X.prog X.w H s.heap
 len:σ.length=X.N.length
section
variable {X:Cx}{pins:List (Addr×Obj)}{σ:List (Option V)}{H H':Hp}{s:Shared}{h':Heap}
theorem Cx.Ok.Lu (ok:X.Ok)(e:X.base.get? b=g7 o):b∉X.fs:=λa=>by
 have:=(ok.iG.mem a).1;rw[e]at this;cases this
theorem Inv.bs (I:Inv X pins σ H s):∀b o,X.base.get? b=g7 o→s.heap.get? b=g7 o∧H b=g9:=λb o e=>
 ⟨I.base.keep b o (I.ok.bs b o e).1 (I.ok.bs b o e).2 (I.ok.Lu e) (I.ok.noex b o e),I.base.free b o (I.ok.bs b o e).1 (I.ok.bs b o e).2 (I.ok.noex b o e)⟩
theorem Inv.bk (I:Inv X pins σ H s):∀b o,X.base.get? b=g7 o→s.heap.get? b=g7 o:=λb o e=>(I.bs b o e).1
theorem Inv.mod (I:Inv X pins σ H s):Mod X.K X.mg X.base:=I.ok.mod
theorem Inv.fD (I:Inv X pins σ H s):X.K.In s.heap:=I.ok.mod.kin.keeps I.bk
theorem Inv.fr (I:Inv X pins σ H s):∃m,Fr X.base X.env.locals s.heap m:=
 let⟨m,a,_⟩:=I.loc
 ⟨m,a,I.bk,m8 I.ok.bsz I.ok.above⟩
theorem Inv.lt (I:Inv X pins σ H s):X.env.locals<s.heap.objs.size:=let⟨_,a,_⟩:=I.loc;a.lt
theorem Inv.sz (I:Inv X pins σ H s):X.s₀.heap.objs.size≤s.heap.objs.size:=m8 I.ok.above (cv I.lt)
theorem Inv.GO (I:Inv X pins σ H s)(h:s.heap.objs.size≤a):a∉X.fs:=λb=>by
 obtain⟨_,o,c,_⟩:=I.ok.iG.mem b;exact absurd (l7 (Heap.lt_size c) (m8 I.sz h)) (n8 _)
theorem Inv.EB (I:Inv X pins σ H s):∀x c,X.env.cells.lookup x=g7 c→c≠X.env.locals:=λx c e z=>by
 obtain⟨v,o,d,hd⟩:=I.cell x c e;obtain⟨m,⟨o',es,f,a,b,_⟩,_⟩:=I.loc;rw[z,a]at d;cases d;rw[b]at hd;cases hd
theorem Inv.iG (I:Inv X pins σ H s):s.heap.FunFrames X.base X.outer:=by
 have all:∀(l:List Env),(∀b∈frs l,b∈X.fs)→X.s₀.heap.FunFrames X.base l→s.heap.FunFrames X.base l:=by
  intro l;induction l with
  |nil=>intro _ _;trivial
  |cons env r ih=>
   intro hs hl;obtain⟨hk,⟨L,o,a,f,g,hd⟩,hr⟩:=hl;have c:L∈X.fs:=hs L (by unfold frs;rw[List.filterMap_cons,a];exact List.mem_cons_self);obtain⟨sl,e⟩:=I.base.slot L o g (I.ok.frf L c) c λz=>I.ok.exfs L z c;exact⟨hk,⟨L,_,a,f,e,hd⟩,ih (λb d=>hs b (by unfold frs;rw[List.filterMap_cons,a];exact List.mem_cons_of_mem _ d)) hr⟩
 exact all X.outer (λ_ d=>d) I.ok.iG
theorem Inv.stack (I:Inv X pins σ H s):s.heap.FunFrames X.base X.stack:=by
 rcases I.ok.stk with e| ⟨e,a⟩
 ·rw[e];exact I.iG
 ·rw[e];obtain⟨m,b,_⟩:=I.loc;refine .cons (by rw[I.ok.kind];decide) a b ?_ I.iG;exact Heap.get?_none_of_le (m8 I.ok.bsz I.ok.above)
theorem Inv.jc (I:Inv X pins σ H s):∀b∈frs X.stack,b∈X.env.locals::X.fs:=λb a=>by
 rcases I.ok.stk with e| ⟨e,c⟩
 ·rw[e]at a;exact List.mem_cons_of_mem _ a
 ·rw[e]at a;unfold frs at a;rw[List.filterMap_cons,c]at a;exact a
theorem Inv.vo (I:Inv X pins σ H s):∀b∈frs X.stack,H b=g9:=λb a=>by
 rcases List.mem_cons.mp (I.jc b a)with e|a
 ·rw[e];exact I.free
 ·obtain⟨_,o,c,_⟩:=I.ok.iG.mem a;exact I.base.free b o c (I.ok.frf b a) λz=>I.ok.exfs b z a
theorem Inv.step {g':Array GenState}{L:Nat}{d':Drawn}{ch:List Addr}(I:Inv X pins σ H s)
  (a:∀b∈ch,(b∈X.ex∨X.s₀.heap.objs.size≤b)∧b≠X.env.locals∧(∀x c,X.env.cells.lookup x=g7 c→c≠b)∧∀p∈X.pn++pins,p.1≠b)
  (keep:∀b o,b≠X.env.locals→b∉X.fs→b∉ch→s.heap.get? b=g7 o→H b=g9→h'.get? b=g7 o)
  (slot:∀b o,b≠X.env.locals→b∈X.fs→b∉ch→s.heap.get? b=g7 o→H b=g9→∃sl,h'.get? b=g7 {o with slots:=sl}) (free:∀b o,b∉ch→s.heap.get? b=g7 o→H b=g9→H' b=g9)
  (there:∀b o,b∉ch→s.heap.get? b=g7 o→∃o',h'.get? b=g7 o')
  (tups:∀b xs,H b=g7 (.tup xs)→H' b=g7 (.tup xs)) (frzs:∀b o u,H b=g7 (.df o u)→H' b=g7 (.df o u)) (tbls:∀b ps,H b=g7 (.tbl ps)→∃more,H' b=g7 (.tbl (ps++more)))
  (ns:∀m,s.heap.Ns X.env.locals m→h'.Ns X.env.locals m) (hok:fb X.prog X.w H' h') (N:fk g'):
  Inv X pins σ H' {s with heap:=h',gens:=g',drawn:=d',toks:=L}:=by
 have A:∀b o,X.s₀.heap.get? b=g7 o→b≠X.env.locals:=λb o e=>j9 (l7 (Heap.lt_size e) I.ok.above);have h:∀b o,X.s₀.heap.get? b=g7 o→b∉X.ex→b∉ch:=λb o e hx t=>by
  rcases(a b t).1 with z|z
  ·exact hx z
  ·exact absurd (l7 (Heap.lt_size e) z) (n8 _)
 have f:∀x c,X.env.cells.lookup x=g7 c→∀v,s.heap.IsCell c v→h'.IsCell c v:=λx c e v ⟨o,y,hd⟩=>by
  have g:c∉ch:=λz=>(a c z).2.2.1 x c e rfl;by_cases F:c∈X.fs
  ·obtain⟨sl,q⟩:=slot c o (I.EB x c e) F g y (I.freeC x c e);exact⟨_,q,hd⟩
  ·exact⟨o,keep c o (I.EB x c e) F g y (I.freeC x c e),hd⟩
 refine⟨I.ok,I.os,N,⟨λb o e n t hx=>?_,λb o e n t hx=>?_,λb o e n hx=>?_,λb o e hx=>?_,λb xs e=>tups b xs (I.base.tups b xs e),λb o xs e=>frzs b o xs (I.base.frzs b o xs e),λb ps e=>?_⟩,?_,λx c e=>?_,?_,λx c e=>?_,λp G=>?_,hok,I.len⟩
 ·exact keep b o (A b o e) t (h b o e hx) (I.base.keep b o e n t hx) (I.base.free b o e n hx)
 ·obtain⟨sl,j⟩:=I.base.slot b o e n t hx;obtain⟨E,B⟩:=slot b _ (A b o e) t (h b o e hx) j (I.base.free b o e n hx);exact⟨E,B⟩
 ·obtain⟨o',j⟩:=I.base.there b o e hx;exact free b o' (h b o e hx) j (I.base.free b o e n hx)
 ·obtain⟨o',j⟩:=I.base.there b o e hx;exact there b o' (h b o e hx) j
 ·obtain⟨O,j⟩:=I.base.tbls b ps e;obtain⟨P,B⟩:=tbls b _ j;exact⟨O++P,by rw[B,Array.append_assoc]⟩
 ·obtain⟨m,Q,hl⟩:=I.loc;refine⟨m,ns m Q,λi x v j B R=>?_⟩;obtain⟨u,r,l⟩:=hl i x v j B R;refine⟨u,r,?_⟩;rcases l with l| ⟨k,c,e,z⟩
  ·exact .inl l
  ·exact .inr ⟨k,c,e,f x c e _ z⟩
 ·obtain⟨v,z⟩:=I.cell x c e;exact⟨v,f x c e v z⟩
 ·obtain⟨m,⟨o,_,_,y,_⟩,_⟩:=I.loc;exact free _ o (λz=>(a _ z).2.1 rfl) y I.free
 ·obtain⟨v,o,y,hd⟩:=I.cell x c e;exact free c o (λz=>(a c z).2.2.1 x c e rfl) y (I.freeC x c e)
 ·obtain⟨e,n,ne,J,d⟩:=I.pin p G;have g:p.1∉ch:=λz=>(a p.1 z).2.2.2 p G rfl;exact⟨keep p.1 p.2 ne J g e n,free p.1 p.2 g e n,ne,J,d⟩
theorem Inv.un(I:Inv X pins σ H s)(u:Un X.fs [] H H' s.heap h')(hok:fb X.prog X.w H' h'):Inv X pins σ H' {s with heap:=h',toks:=t'}:=by
 obtain⟨m,⟨o,es,k,g,r⟩,_⟩:=id I.loc;obtain⟨sl,h⟩:=u.any g I.free (by simp);exact I.step (g':=s.gens) (d':=s.drawn) (ch:=[]) (λ_ z=>nomatch z) (λb o _ c _ e n=>u.keep b o e n c (by simp)) (λb o _ c _ e n=>u.slot b o e n c (by simp)) (λb o _ e n=>u.free b o e n (by simp)) (λb o _ e=>u.there b o e (by simp)) u.tups u.frzs u.tbls (λl i=>by
  obtain⟨o',d,f,a,j⟩:=i;rw[g]at a;cases a;exact⟨_,d,f,h,j⟩) hok I.bare
theorem Inv.call(I:Inv X pins σ H s)(u:Un (frs X.stack) ch H H' s.heap h')(hok:fb X.prog X.w H' h')(k:fk g')
  (d:∀b∈ch,(b∈X.ex∨X.s₀.heap.objs.size≤b)∧b≠X.env.locals∧(∀x c,X.env.cells.lookup x=g7 c→c≠b)∧∀p∈X.pn++pins,p.1≠b):
  Inv X pins σ H' {s with heap:=h',gens:=g',drawn:=d',toks:=t'}:=by
 obtain⟨m,⟨o,es,v,j,r⟩,_⟩:=id I.loc;obtain⟨sl,g⟩:=u.any j I.free λz=>(d _ z).2.1 rfl;exact I.step (ch:=ch) d (λb o g l a e n=>u.keep b o e n (λz=>(List.mem_cons.mp (I.jc b z)).elim g l) a) (λb o _ _ a e n=>u.any e n a) (λb o a e n=>u.free b o e n a) (λb o a e=>u.there b o e a) u.tups u.frzs u.tbls (λy q=>by
  obtain⟨o',h,i,f,t⟩:=q;rw[j]at f;cases f;exact⟨_,h,i,g,t⟩) hok k
theorem Inv.turned(I:Inv X pins σ H s)(k:∀b o,b≠it→s.heap.get? b=g7 o→h'.get? b=g7 o)(g:H it=g9)(f:it≠X.env.locals)
  (h:it∈X.ex∨X.s₀.heap.objs.size≤it) (i:∀x c,X.env.cells.lookup x=g7 c→c≠it) (j:∀p∈X.pn++pins,p.1≠it):Inv X pins σ H {s with heap:=h',toks:=t'}:=by
 have d:∀b u,H b=g7 u→b≠it:=λb u e z=>by rw[z,g]at e;cases e
 refine I.step (g':=s.gens) (d':=s.drawn) (ch:=[it]) (λb l=>?_) (λb o _ _ a e _=>k b o (λz=>a (by simp[z])) e) (λb o _ _ a e _=>⟨o.slots,k b o (λz=>a (by simp[z])) e⟩) (λ_ _ _ _ n=>n)
  (λb o a e=>⟨o,k b o (λz=>a (by simp[z])) e⟩) (λ_ _ e=>e) (λ_ _ _ e=>e) (λb ps e=>⟨#[],by rw[e];simp⟩) (λm t=>?_) (λb u e=>?_) I.bare
 ·have e:b=it:=by simpa using l
  subst e;exact⟨h,f,i,j⟩
 ·obtain⟨o,es,w,y,r⟩:=t;exact⟨o,es,w,k _ o (o1 f) y,r⟩
 ·refine(I.hok b u e).stay (λc v a q=>k c v ?_ q) (λ_ q=>q) λ_ _ q=>q;rcases a with z|z
  ·rw[z];exact d b u e
  ·exact d c _ z
theorem Inv.tok (I:Inv X pins σ H s)(t:Nat):Inv X pins σ H {s with toks:=t}:=I.un (h':=s.heap) (t':=t) Un.refl I.hok
theorem Inv.kept(I:Inv X pins σ H s)(k:∀b u,s.heap.get? b=g7 u→h'.get? b=g7 u):Inv X pins σ H {s with heap:=h',toks:=t'}:=I.un (Un.kept k) (I.hok.kept k)
theorem Inv.laid(I:Inv X pins σ H s)(k:∀b u,s.heap.get? b=g7 u→h'.get? b=g7 u)(c:s.heap.objs.size≤a)(new:B9 X.prog X.w (upd H a o) h' a o):
  Inv X pins σ (upd H a o) {s with heap:=h',toks:=t'}:=I.un (Un.laid k c (I.hok.fresh c)) (I.hok.laid k c new)
theorem Inv.write(I:Inv X pins σ H s)(c:JU (H x))(d:e=x∨H e=g7 (.own x))(k:∀b u,b≠e→s.heap.get? b=g7 u→h'.get? b=g7 u)(a:∃u,h'.get? e=g7 u)
  (new:B9 X.prog X.w (upd H x o) h' x o):Inv X pins σ (upd H x o) {s with heap:=h',toks:=t'}:=I.un (Un.write c d k a) (I.hok.write c d k a new)
theorem Inv.weak {a:List (Option V)}(I:Inv X pins σ H s)(hl:a.length=σ.length)(w:∀(i:Nat) v,a[i]?=g7 (g7 v)→σ[i]?=g7 (g7 v)):Inv X pins a H s:=
 ⟨I.ok,I.os,I.bare,I.base,let⟨m,c,b⟩:=I.loc;⟨m,c,λi x v d e f=>b i x v d (w i v e) f⟩,I.cell,I.free,I.freeC,I.pin,I.hok,hl.trans I.len⟩
theorem Inv.Y7(I:Inv X pins σ H s)(h:∀p∈wJ,s.heap.get? p.1=g7 p.2∧H p.1=g9∧p.1≠X.env.locals∧p.1∉X.fs∧∀v,p.2.data≠.cell v):Inv X wJ σ H s:=
 ⟨I.ok,I.os,I.bare,I.base,I.loc,I.cell,I.free,I.freeC,λp a=>(List.mem_append.mp a).elim (λz=>I.pin p (List.mem_append_left _ z)) (h p),I.hok,I.len⟩
theorem rR {N:List Str}(hN:N.Nodup){i j:Nat}{x:Str}(a:N[i]?=g7 x)(b:N[j]?=g7 x):i=j:=by
 obtain⟨e,c⟩:=List.getElem?_eq_some_iff.mp a;obtain⟨f,d⟩:=List.getElem?_eq_some_iff.mp b;exact(List.getElem_inj hN).mp (c.trans d.symm)
theorem nV(I:Inv X pins σ H s)(hN:X.N.Nodup)(hi:X.N[i]?=g7 x)(hx:Loc X.env.scope x)(r:RelV v u)
  (h:∀Z,Inv X pins (σ.set i (g7 v)) H Z→(∃a,Heap.SameBut a s.heap Z.heap∧(a=X.env.locals∨X.env.cells.lookup x=g7 a))→Q () Z) (hf:X.fn x=h7∨X.env.scope.names.lookup x=g7 .local:=by first|exact .inl rfl|exact .inr rfl|assumption):wpAny M A (KB X.env x u) Q E s:=by
 obtain⟨m,hn,hl⟩:=id I.loc;have O:(X.env.scope.kind == .class||(X.env.scope.kind == .module&&X.env.locals != X.env.globals))=g8:=by rw[I.ok.kind];rfl
 have F:i<σ.length:=by rw[I.len];exact(List.getElem?_eq_some_iff.mp hi).1
 have EB:=I.EB;have f:∀{a:Addr} {h':Heap},(∃o,s.heap.get? a=g7 o∧H a=g9)→Heap.SameBut a s.heap h'→fb X.prog X.w H h':=λ{a h'} ha hs b ob e=>by
  obtain⟨_,_,t⟩:=ha;refine(I.hok b ob e).stay (λc U l q=>(hs.2 c ?_).trans q) (λ_ q=>q) λ_ _ q=>q
  rintro rfl
  rcases l with rfl|l
  ·rw[t]at e;cases e
  ·rw[t]at l;cases l
 rcases hx with hk|hk
 ·refine wpAny_storeName_local hk hn (λh' a0 hs=>?_) O;obtain⟨oL,_,_,a1,_⟩:=id hn;refine h _ ⟨I.ok,I.os,I.bare,⟨λb o e n G hx=>?_,λb o e n G hx=>?_,I.base.free,λb o e hx=>?_,I.base.tups,I.base.frzs,I.base.tbls⟩,⟨_,a0,λj y v' g B e3=>?_⟩,λy c e=>?_,I.free,I.freeC,λp hp=>?_,f ⟨oL,a1,I.free⟩ hs,by simpa using I.len⟩ ⟨_,hs,.inl rfl⟩
  ·exact(hs.2 b (j9 (l7 (Heap.lt_size e) I.ok.above))).trans (I.base.keep b o e n G hx)
  ·obtain⟨sl,g⟩:=I.base.slot b o e n G hx;exact⟨sl,(hs.2 b (j9 (l7 (Heap.lt_size e) I.ok.above))).trans g⟩
  ·obtain⟨o',g⟩:=I.base.there b o e hx;exact⟨o',(hs.2 b (j9 (l7 (Heap.lt_size e) I.ok.above))).trans g⟩
  ·by_cases J:j=i
   ·subst J;rw[hi]at g;cases g;rw[List.getElem?_set_self F]at B;cases B;exact⟨u,r,.inl ⟨hk,by simp⟩⟩
   ·rw[List.getElem?_set_ne (o1 J)]at B;obtain⟨u',r',q⟩:=hl j y v' g B e3;refine⟨u',r',?_⟩;rcases q with⟨k,e⟩ | ⟨k,c,e,z⟩
    ·refine .inl ⟨k,?_⟩;have:y≠x:=λe=>J (rR hN g (e▸hi));simp[this,e]
    ·exact .inr ⟨k,c,e,z.sameBut hs (EB y c e)⟩
  ·obtain⟨U,z⟩:=I.cell y c e;exact⟨U,z.sameBut hs (EB y c e)⟩
  ·obtain⟨e,n,ne,nf,d⟩:=I.pin p hp;exact⟨(hs.2 p.1 ne).trans e,n,ne,nf,d⟩
 ·have L:X.fn x=h7:=by
   rcases hf with z|z
   ·exact z
   ·rw[z]at hk;cases hk
  obtain⟨c,l⟩:=I.ok.has x (.inl hk);obtain⟨U,z⟩:=I.cell x c l;refine wpAny_storeName_cell I.ok.kind hk l z (λh' P hs=>?_);obtain⟨oc,R,S⟩:=id z;refine h {s with heap:=h'} ⟨I.ok,I.os,I.bare,⟨λb o e n G hx=>?_,λb o e n G hx=>?_,I.base.free,λb o e hx=>?_,I.base.tups,I.base.frzs,I.base.tbls⟩,⟨m,hn.sameBut hs (o1 (EB x c l)),λj y v' g B e3=>?_⟩,λy Y e=>?_,I.free,I.freeC,λp hp=>?_,f ⟨oc,R,I.freeC x c l⟩ hs,by simpa using I.len⟩ ⟨c,hs,.inr l⟩
  ·exact(hs.2 b (j9 (l7 (Heap.lt_size e) (I.ok.cab x c L l)))).trans (I.base.keep b o e n G hx)
  ·obtain⟨sl,g⟩:=I.base.slot b o e n G hx;exact⟨sl,(hs.2 b (j9 (l7 (Heap.lt_size e) (I.ok.cab x c L l)))).trans g⟩
  ·obtain⟨o',g⟩:=I.base.there b o e hx;exact⟨o',(hs.2 b (j9 (l7 (Heap.lt_size e) (I.ok.cab x c L l)))).trans g⟩
  ·by_cases J:j=i
   ·subst J;rw[hi]at g;cases g;rw[List.getElem?_set_self F]at B;cases B;exact⟨u,r,.inr ⟨.inl hk,c,l,P⟩⟩
   ·rw[List.getElem?_set_ne (o1 J)]at B;obtain⟨u',r',q⟩:=hl j y v' g B e3;refine⟨u',r',?_⟩;rcases q with q| ⟨k,Y,e,z'⟩
    ·exact .inl q
    ·refine .inr ⟨k,Y,e,z'.sameBut hs ?_⟩
     rintro rfl
     exact J (rR hN g (I.ok.inj _ _ _ e l▸hi))
  ·by_cases T:Y=c
   ·subst T;exact⟨_,P⟩
   ·obtain⟨w2,z2⟩:=I.cell y Y e;exact⟨w2,z2.sameBut hs T⟩
  ·obtain⟨e,n,ne,nf,d⟩:=I.pin p hp;refine⟨(hs.2 p.1 ?_).trans e,n,ne,nf,d⟩;intro q;rw[q,R]at e;have q':oc=p.2:=Option.some.inj e;exact d U (by rw[←q'];exact S)
theorem eB(I:Inv X pins σ H s)(hN:X.N.Nodup)(hi:X.N[i]?=g7 x)(hx:Loc X.env.scope x)(r:RelV v u)
  (h:∀a,Inv X pins (σ.set i (g7 v)) H a→Q () a) (b:X.fn x=h7∨X.env.scope.names.lookup x=g7 .local:=by first|exact .inl rfl|exact .inr rfl|assumption):wpAny M A (KB X.env x u) Q E s:=
 nV I hN hi hx r (λa c _=>h a c) b
theorem Inv.Fm {s':Shared}(I:Inv X pins σ H s)(d:s'.os=s.os)(u:Un (frs X.stack) ch H H' s.heap s'.heap)(hok:fb X.prog X.w H' s'.heap)(f:fk s'.gens)
  (a:∀b∈ch,(b∈X.ex∨X.s₀.heap.objs.size≤b)∧b≠X.env.locals∧(∀x c,X.env.cells.lookup x=g7 c→c≠b)∧∀p∈X.pn++pins,p.1≠b):Inv X pins σ H' s':=by
 obtain⟨h',g',d',t',o'⟩:=s';have e:o'=s.os:=d;subst e;exact I.call (g':=g') (t':=t') (d':=d') u hok f a
end
noncomputable abbrev XK:=Value→Option Addr→Hp→Prop
noncomputable abbrev St:=List (Option V)
noncomputable abbrev VK:=V→Hp→Prop
noncomputable abbrev TE:=St→Hp→VK→Prop
noncomputable abbrev TT:=St→Hp→(Bool→Hp→Prop)→Prop
noncomputable abbrev TA:=St→Hp→(List V→Hp→Prop)→Prop
structure Ends where
 nx:St→Hp→Prop
 rt:VK
 bk:St→Hp→Prop:=λ_ _=>False
 ct:St→Hp→Prop:=λ_ _=>False
noncomputable abbrev TS:=Ends→St→Hp→Prop
def EP (X:Cx)(pins:List (Addr×Obj))(σ:St)(Q:VK)(u:Value)(a:Shared):Prop:=∃v H',Inv X pins σ H' a∧RelV v u∧Q v H'
def TP (X:Cx)(pins:List (Addr×Obj))(σ:St)(Q:Bool→Hp→Prop)(b:Bool)(a:Shared):Prop:=∃H',Inv X pins σ H' a∧Q b H'
def AP (X:Cx)(pins:List (Addr×Obj))(σ:St)(Q:List V→Hp→Prop)(us:List Value)(a:Shared):Prop:=∃vs H',Inv X pins σ H' a∧Vals vs us∧Q vs H'
def SP (X:Cx)(pins:List (Addr×Obj))(D:Ends)(f:Flow)(b:Shared):Prop:=
 match f with
 |.next=>∃a H',Inv X pins a H' b∧D.nx a H'
 |.brk=>∃a H',Inv X pins a H' b∧D.bk a H'
 |.cont=>∃a H',Inv X pins a H' b∧D.ct a H'
 |.ret u=>∃v a H',Inv X pins a H' b∧RelV v u∧D.rt v H'
def PE (X:Cx)(e:Expr)(t:TE):Prop:=
 ∀(pins:List (Addr×Obj)) (s:Shared) (σ:St) (H:Hp) (Q:VK),Inv X pins σ H s→t σ H Q→wpAny (model X.prog X.w) X.A (eval e X.env) (EP X pins σ Q) X.xe s
def PT (X:Cx)(e:Expr)(t:TT):Prop:=
 ∀(pins:List (Addr×Obj)) (s:Shared) (σ:St) (H:Hp) (Q:Bool→Hp→Prop),Inv X pins σ H s→t σ H Q→wpAny (model X.prog X.w) X.A (wP e X.env (eval e X.env)) (TP X pins σ Q) X.xe s
def PW (X:Cx)(e:Expr)(t:TT):Prop:=
 ∀(a:Sem Value) (pins:List (Addr×Obj)) (s:Shared) (σ:St) (H:Hp) (Q:Bool→Hp→Prop),Inv X pins σ H s→t σ H Q→wpAny (model X.prog X.w) X.A (wP e X.env a) (TP X pins σ Q) X.xe s
theorem PW.pt(h:PW X e t):PT X e t:=h _
def PA (X:Cx)(es:List Expr)(t:TA):Prop:=
 ∀(pos:Pos) (pins:List (Addr×Obj)) (s:Shared) (σ:St) (H:Hp) (Q:List V→Hp→Prop),Inv X pins σ H s→t σ H Q→wpAny (model X.prog X.w) X.A (Ke (m4 pos (i1 es X.env))) (AP X pins σ Q) X.xe s
def PS (X:Cx)(st:Stmt)(t:TS):Prop:=
 ∀(pins:List (Addr×Obj)) (s:Shared) (σ:St) (H:Hp) (D:Ends),Inv X pins σ H s→t D σ H→wpAny (model X.prog X.w) X.A (exec st X.env) (SP X pins D) X.xe s
def nQ (X:Cx)(st:List Stmt)(t:TS):Prop:=
 ∀(pins:List (Addr×Obj)) (s:Shared) (σ:St) (H:Hp) (D:Ends),Inv X pins σ H s→t D σ H→wpAny (model X.prog X.w) X.A (execs st X.env) (SP X pins D) X.xe s
theorem F9 {α:Type}{t:Sem α}{Q b:α→Shared→Prop}{M:Model}{A:Around}{E:Value→Shared→Prop}{s:Shared}(h:wpAny M A t Q E s)(hQ:∀a s,Q a s→b a s):wpAny M A t b E s:=wpAny_mono h hQ λ_ _ x=>x
section
variable {X:Cx}
noncomputable def kW (i:Nat):TE:=λσ H Q=>∃v,σ[i]?=g7 (g7 v)∧Q v H
noncomputable def tC (v:V):TE:=λ_ H Q=>Q v H
theorem A3(hN:X.N[i]?=g7 x)(f:cq X.env.scope x)(hd:(x==("__debug__":Str))=g8:=by decide) (b:(x==("__classdict__":Str))=g8:=by decide):PE X (.Name x pos) (kW i):=by
 intro pins s σ H Q I h;obtain⟨v,e,h⟩:=h;obtain⟨m,g,hl⟩:=I.loc;obtain⟨u,r,l⟩:=hl i x v hN e f;have fin:EP X pins σ Q u s:=⟨v,H,I,r,h⟩
 rcases l with⟨hk,j⟩ | ⟨hk,c,d,a⟩
 ·exact Iw (Fx I.ok.kind hk g j fin) hd
 ·rcases hk with hk|hk
  ·exact Iw (HZ I.ok.kind hk d a fin) hd
  ·exact Iw (wpAny_loadName_free I.ok.kind hk d a fin b) hd
theorem dr {i j pos}:PE X (.Constant (.int i) j pos) (tC (.int i)):=λ_ _ _ H _ I h=>Ix ⟨.int i,H,I.tok _,⟨_,rfl⟩,h⟩
theorem Jm {b j pos}:PE X (.Constant (.bool b) j pos) (tC (.bl b)):=λ_ _ _ H _ I h=>Constant_bool ⟨.bl b,H,I,rfl,h⟩
theorem GD {j pos}:PE X (.Constant .none j pos) (tC .z5):=λ_ _ _ H _ I h=>Constant_none ⟨.z5,H,I,rfl,h⟩
theorem Gz {x j pos}:PE X (.Constant (.str x) j pos) (tC (.str x)):=λ_ _ _ H _ I h=>Calls.Constant_str ⟨.str x,H,I.tok _,⟨_,rfl⟩,h⟩
def Gl (X:Cx)(x:Str):Prop:=X.env.kindOf x=g7 .globalImplicit
theorem dC(I:Inv X pins σ H s)(a:Gl X x)(b:X.mg x=g7 u)(h:Q u s)
  (hd:(x==("__debug__":Str))=g8:=by decide):wpAny (model X.prog X.w) X.A (eval (.Name x pos) X.env) Q E s:=
 pb I.ok.kind a (Calls.loadGlobal_global (by rw[I.ok.glob];exact I.mod.glob.keeps I.bk) b h) hd
theorem jh(I:Inv X pins σ H s)(a:Gl X x)(b:X.mg x=g9)(c:M0 x=g7 u)(h:Q u s)
  (d:x≠"__name__":=by decide) (hd:(x==("__debug__":Str))=g8:=by decide):wpAny (model X.prog X.w) X.A (eval (.Name x pos) X.env) Q E s:=by
 obtain⟨mb,e,f⟩:=I.mod.blt;exact pb I.ok.kind a (Calls.loadGlobal_builtin (by rw[I.ok.glob];exact I.mod.glob.keeps I.bk) b (by rw[I.ok.blt];exact e.keeps I.bk) ((f x d).trans c) h) hd
theorem pJ(a:Gl X x)(b:X.mg x=g7 u)(r:RelV v u)(hd:(x==("__debug__":Str))=g8:=by decide):PE X (.Name x pos) (tC v):=
 λ_ _ _ H _ I h=>dC I a b ⟨v,H,I,r,h⟩ hd
theorem vA(a:Gl X x)(b:X.mg x=g9)(c:M0 x=g7 u)(r:RelV v u)(d:x≠"__name__":=by decide) (hd:(x==("__debug__":Str))=g8:=by decide):PE X (.Name x pos) (tC v):=
 λ_ _ _ H _ I h=>jh I a b c ⟨v,H,I,r,h⟩ d hd
variable {a b:Expr}{ta tb:TE}{pos:Pos}
noncomputable def tB (t:TE):TT:=λσ H Q=>t σ H λx H1=>∃c,x=.bl c∧Q c H1
theorem tR(h:PE X e t)(b:∀a,wP e X.env a=(do let v←a;gV e.pos;P5 [v] (Nh v)):=by intro _;rfl):PT X e (tB t):=by
 intro pins s σ H Q I c;refine OM (F9 (h pins s σ H _ I c) λv s1 ⟨x,H1,f,g,i⟩=>?_) (b _);obtain⟨d,rfl,q⟩:=i;cases g;exact L7 ⟨H1,f,q⟩
variable {tA Kx:TT}{F3:List Expr}
noncomputable def IS (t u:TT):TT:=λσ H Q=>t σ H λc H1=>if c=h7 then u σ H1 Q else Q g8 H1
noncomputable def MT (t u:TT):TT:=λσ H Q=>t σ H λc H1=>if c=h7 then Q h7 H1 else u σ H1 Q
noncomputable def Ld (t:TT):TT:=λσ H Q=>t σ H λc H1=>Q (!c) H1
theorem vx (b:PT X a tA):PW X (.BoolOp .And [a] pos) tA:=by
 intro d pins s σ H Q I h;refine isTrue_and (F9 (b pins s σ H Q I h) λc s1 e=>?_);cases c with
 |true=>exact isTrue_and_nil e
 |false=>exact e
theorem Gk (b:PT X a tA):PW X (.BoolOp .Or [a] pos) tA:=by
 intro d pins s σ H Q I h;refine isTrue_or (F9 (b pins s σ H Q I h) λc s1 e=>?_);cases c with
 |false=>exact isTrue_or_nil e
 |true=>exact e
theorem zC (f:PT X a tA)(g:PW X (.BoolOp .And (b::F3) pos) Kx):PW X (.BoolOp .And (a::b::F3) pos) (IS tA Kx):=by
 intro i pins s σ H Q I h;refine isTrue_and (F9 (f pins s σ H _ I h) λc s1 ⟨H1,d,e⟩=>?_);cases c with
 |true=>exact g i pins s1 σ H1 Q d e
 |false=>exact⟨H1,d,e⟩
theorem Jh (f:PT X a tA)(g:PW X (.BoolOp .Or (b::F3) pos) Kx):PW X (.BoolOp .Or (a::b::F3) pos) (MT tA Kx):=by
 intro i pins s σ H Q I h;refine isTrue_or (F9 (f pins s σ H _ I h) λc s1 ⟨H1,d,e⟩=>?_);cases c with
 |true=>exact⟨H1,d,e⟩
 |false=>exact g i pins s1 σ H1 Q d e
theorem Go (b:PT X a tA):PT X (.UnaryOp .Not a pos) (Ld tA):=by
 intro pins s σ H Q I h;exact isTrue_not (b pins s σ H (λc H1=>Q (!c) H1) I h)
noncomputable def ET (ta tb:TE):TE:=λσ H Q=>ta σ H λx H1=>∃c,x=.bl c∧if c=h7 then tb σ H1 Q else Q (.bl g8) H1
noncomputable def IP (ta:TE):TE:=λσ H Q=>ta σ H λx H1=>∃c,x=.bl c∧Q (.bl (!c)) H1
theorem GB {op}(h:PE X a t):PE X (.BoolOp op [a] pos) t:=λpins s σ H Q I b=>BoolOp_one (h pins s σ H Q I b)
theorem GF (f:PE X a ta)(g:PE X (.BoolOp .And (b::F3) pos) tb):PE X (.BoolOp .And (a::b::F3) pos) (ET ta tb):=by
 intro pins s σ H Q I h;refine BoolOp_and (F9 (f pins s σ H _ I h) λv s1 ⟨x,H1,e,i,d⟩=>?_);obtain⟨c,rfl,d⟩:=d;cases i;refine L7 ?_;cases c with
 |true=>exact g pins s1 σ H1 Q e d
 |false=>exact⟨.bl g8,H1,e,rfl,d⟩
theorem GC (d:PE X a ta):PE X (.UnaryOp .Not a pos) (IP ta):=by
 intro pins s σ H Q I h;refine UnaryOp_ (F9 (d pins s σ H _ I h) λv s1 ⟨x,H1,e,f,b⟩=>?_);obtain⟨c,rfl,b⟩:=b;cases f;exact not_of (L7 ⟨.bl (!c),H1,e,rfl,b⟩)
noncomputable def NA (t:TT)(ta tb:TE):TE:=λσ H Q=>t σ H λc H1=>if c=h7 then ta σ H1 Q else tb σ H1 Q
theorem rK(g:PT X c tA)(i:PE X a ta)(j:PE X b tb):PE X (.IfExp c a b pos) (NA tA ta tb):=by
 intro pins s σ H Q I h;refine wpAny_IfExp (F9 (g pins s σ H _ I h) λd s1 ⟨H1,e,f⟩=>?_);cases d with
 |true=>exact i pins s1 σ H1 Q e f
 |false=>exact j pins s1 σ H1 Q e f
end
def T9 (K:PySem.W.Frag)(H:Hp)(a:Addr)(xs:List V):Prop:=
 Rd H a (.lst xs)∨
  ∃(o:Obj) (b:Array Value) (n:Nat),K.lookup a=g7 o∧o.cls=.type "list"∧o.dict=g9∧o.data=.seq b n∧b.size≤sizeLine∧Vals xs b.toList
def bJ (K:PySem.W.Frag)(H:Hp)(a:Addr)(xs:List V):Prop:=
 Rd H a (.tup xs)∨
  ∃(o:Obj) (b:Array Value) (n:Nat),K.lookup a=g7 o∧o.cls=.type "tuple"∧o.data=.seq b n∧b.size≤sizeLine∧Vals xs b.toList
noncomputable def LR:Value→Option V
 |.none=>g7 .z5
 |.bool b=>g7 (.bl b)
 |.int i _=>g7 (.int i)
 |.str x _=>g7 (.str x)
 |.bytes b _=>g7 (.byt b)
 |.float b _=>g7 (.flt b)
 |.ref a=>g7 (.ref a)
 |.type n=>g7 (.ty n)
 |_=>g9
theorem RelV.abs(r:RelV x u):LR u=g7 x:=by
 cases x with
 |z5=>cases r;rfl
 |bl _=>cases r;rfl
 |int _=>obtain⟨t,rfl⟩:=r;rfl
 |str _=>obtain⟨t,rfl⟩:=r;rfl
 |byt _=>obtain⟨t,rfl⟩:=r;rfl
 |flt _=>obtain⟨t,rfl⟩:=r;rfl
 |ref _=>cases r;rfl
 |ty _=>cases r;rfl
theorem RelV.inj(r:RelV x u)(q:RelV y u):x=y:=Option.some.inj (r.abs.symm.trans q.abs)
theorem Vals.inj:∀{xs a:List V} {us:List Value},Vals xs us→Vals a us→xs=a
 |_,_,_,.nil,.nil=>rfl
 |_,_,_,.cons r t,.cons b c=>by rw[r.inj b,Vals.inj t c]
section
variable {X:Cx}{pins:List (Addr×Obj)}{σ:St}{H:Hp}{s:Shared}{a:Addr}{xs ys:List V}
theorem T9.of {K:PySem.W.Frag}(h:H a=g7 (.lst xs)):T9 K H a xs:=.inl (.inl h)
theorem bJ.of {K:PySem.W.Frag}(h:H a=g7 (.tup xs)):bJ K H a xs:=.inl (.inl h)
theorem Inv.list (I:Inv X pins σ H s)(h:T9 X.K H a xs):∃b:List Value,Vals xs b∧PlainL s.heap a b.toArray∧xs.length≤sizeLine:=by
 rcases h with h| ⟨o,b,n,hk,c,hd,hs,d,r⟩
 ·obtain⟨z,b,n,r,e⟩:=h.ok I.hok;exact⟨b,r,⟨_,n,e,rfl,rfl,rfl⟩,z⟩
 ·refine⟨b.toList,r,⟨o,n,I.fD a o hk,c,hd,by simpa using hs⟩,?_⟩;have e:=r.length;simp only[U4]at e;omega
theorem Inv.tuple (I:Inv X pins σ H s)(h:bJ X.K H a xs):∃b:List Value,Vals xs b∧Ki s.heap a b.toArray∧xs.length≤sizeLine:=by
 rcases h with h| ⟨o,b,n,hk,c,hs,d,r⟩
 ·obtain⟨z,b,r,p⟩:=h.ok I.hok;exact⟨b,r,p,z⟩
 ·refine⟨b.toList,r,⟨o,I.fD a o hk,c,n,by simpa using hs⟩,?_⟩;have e:=r.length;simp only[U4]at e;omega
theorem Inv.lH (I:Inv X pins σ H s)(h:T9 X.K H a xs)(h':T9 X.K H a ys):xs=ys:=by
 obtain⟨c,r,⟨o,n,e,_,_,d⟩,_⟩:=I.list h;obtain⟨b,i,⟨o',k,f,_,_,g⟩,_⟩:=I.list h';rw[e]at f;cases f;rw[d]at g;injection g with j _
 have:c=b:=by simpa using congrArg IG j
 subst this;exact r.inj i
theorem Inv.jb (I:Inv X pins σ H s)(h:bJ X.K H a xs)(h':bJ X.K H a ys):xs=ys:=by
 obtain⟨c,r,⟨o,e,_,n,d⟩,_⟩:=I.tuple h;obtain⟨b,i,⟨o',f,_,k,g⟩,_⟩:=I.tuple h';rw[e]at f;cases f;rw[d]at g;injection g with j _
 have:c=b:=by simpa using congrArg IG j
 subst this;exact r.inj i
end
noncomputable abbrev Cx.A1 (X:Cx)(E:Value→Shared→Prop):Cx:={X with xe:=E}
noncomputable abbrev Cx.Fb (X:Cx):Cx:=X.A1 λ_ _=>False
theorem Cx.Ok.A1 {X:Cx}(ok:X.Ok)(E:Value→Shared→Prop):(X.A1 E).Ok:=
 ⟨ok.mod,ok.kind,ok.glob,ok.blt,ok.above,ok.inj,ok.has,ok.cab,ok.hd,ok.frames,ok.stk,ok.exf,ok.bs,ok.bsz,ok.noex,ok.exfs,ok.iG,ok.frf⟩
theorem Cx.Ok.G4 {X:Cx}(ok:(X.A1 E).Ok):X.Ok:=
 ⟨ok.mod,ok.kind,ok.glob,ok.blt,ok.above,ok.inj,ok.has,ok.cab,ok.hd,ok.frames,ok.stk,ok.exf,ok.bs,ok.bsz,ok.noex,ok.exfs,ok.iG,ok.frf⟩
section
variable {X:Cx}{pins:List (Addr×Obj)}{σ:St}{H:Hp}{s:Shared}{E:Value→Shared→Prop}
theorem Inv.A1 (I:Inv X pins σ H s)(E:Value→Shared→Prop):Inv (X.A1 E) pins σ H s:=⟨I.ok.A1 E,I.os,I.bare,I.base,I.loc,I.cell,I.free,I.freeC,I.pin,I.hok,I.len⟩
theorem Inv.G4 (I:Inv (X.A1 E) pins σ H s):Inv X pins σ H s:=⟨I.ok.G4,I.os,I.bare,I.base,I.loc,I.cell,I.free,I.freeC,I.pin,I.hok,I.len⟩
theorem SP.G4(h:SP (X.A1 E) pins D f b):SP X pins D f b:=by
 cases f with
 |next=>obtain⟨a,H',I,q⟩:=h;exact⟨a,H',I.G4,q⟩
 |brk=>obtain⟨a,H',I,q⟩:=h;exact⟨a,H',I.G4,q⟩
 |cont=>obtain⟨a,H',I,q⟩:=h;exact⟨a,H',I.G4,q⟩
 |ret u=>obtain⟨v,a,H',I,r,q⟩:=h;exact⟨v,a,H',I.G4,r,q⟩
theorem nQ.Fb {st:List Stmt}{t:TS}(h:nQ X.Fb st t):nQ X st t:=λpins s σ H D I a=>
 wpAny_mono (h pins s σ H D (I.A1 _) a) (λ_ _ q=>q.G4) λ_ _ z=>v6 z
end
section
variable {X:Cx}{st:Stmt}{F3:List Stmt}{t u:TS}{e:Expr}{te:TE}{pos:Pos}
noncomputable def IQ:TS:=λD σ H=>D.nx σ H
noncomputable def Lb (t u:TS):TS:=λD σ H=>t {D with nx:=u D} σ H
theorem De:nQ X [] IQ:=λ_ _ σ H _ I h=>Y1 ⟨σ,H,I,h⟩
theorem rF (b:PS X st t)(c:nQ X F3 u):nQ X (st::F3) (Lb t u):=by
 intro pins s σ H D I h;refine gk (F9 (b pins s σ H {D with nx:=u D} I h) λf s1 q=>?_);cases f with
 |next=>
  obtain⟨a,H',d,q⟩:=q;exact c pins s1 a H' D d q
 |ret v=>exact q
 |brk=>exact q
 |cont=>exact q
theorem aM (a:PS X st t):nQ X [st] t:=by
 intro pins s σ H D I h;refine gk (F9 (a pins s σ H D I h) λf s1 q=>?_);cases f with
 |next=>exact Y1 q
 |ret v=>exact q
 |brk=>exact q
 |cont=>exact q
theorem Inv.quiet(I:Inv X pins σ H s):interactive X.env=g8:=by simp[interactive,I.ok.kind]
noncomputable def yX (te:TE):TS:=λD σ H=>te σ H λ_ H1=>D.nx σ H1
theorem fx (a:PE X e te)(hs:B4 e g9 pos.line X.env=pure g8:=by rfl):PS X (.Expr e pos) (yX te):=by
 intro pins s σ H D I h;exact wpAny_Expr_any (F9 (a pins s σ H _ I h) λv s1 ⟨x,H1,b,d,c⟩=>⟨σ,H1,b,c⟩) I.quiet hs
noncomputable def Lc (te:TE):TS:=λD σ H=>te σ H D.rt
theorem Gp (a:PE X e te):PS X (.Return (g7 e) pos) (Lc te):=by
 intro pins s σ H D I h;exact wpAny_Return_some (F9 (a pins s σ H _ I h) λv s1 ⟨x,H1,b,c,d⟩=>⟨x,σ,H1,b,c,d⟩)
noncomputable def FS (c:TT)(t u:TS):TS:=λD σ H=>c σ H λb H1=>if b=h7 then t D σ H1 else u D σ H1
theorem zG {c:Expr}{a b:List Stmt}{e:TT}(i:PT X c e)(j:nQ X a t)(k:nQ X b u):PS X (.If c a b pos) (FS e t u):=by
 intro pins s σ H D I h;refine wpAny_If (F9 (i pins s σ H _ I h) λd s1 ⟨H1,f,g⟩=>?_);cases d with
 |true=>exact j pins s1 σ H1 D f g
 |false=>exact k pins s1 σ H1 D f g
end
noncomputable abbrev TG:=V→St→Hp→(St→Hp→Prop)→Prop
def PG (X:Cx)(a:Expr)(t:TG):Prop:=
 ∀(pins:List (Addr×Obj)) (s:Shared) (σ:St) (H:Hp) (v:V) (u:Value) (Q:St→Hp→Prop),Inv X pins σ H s→RelV v u→t v σ H Q→
  wpAny (model X.prog X.w) X.A (mU a X.env u) (λ_ c=>∃b H',Inv X pins b H' c∧Q b H') X.xe s
noncomputable abbrev JS:=V→V→V→Hp→(Hp→Prop)→Prop
def va (X:Cx)(t:JS):Prop:=
 ∀(pins:List (Addr×Obj)) (s:Shared) (σ:St) (H:Hp) (o i v:V) (a iv u:Value) (Q:Hp→Prop),Inv X pins σ H s→RelV o a→RelV i iv→RelV v u→t o i v H Q→
  wpAny (model X.prog X.w) X.A (Kg a iv u) (λ_ b=>∃H',Inv X pins σ H' b∧Q H') X.xe s
noncomputable abbrev LU:=V→V→Hp→VK→Prop
def MY (X:Cx)(a:Operator)(t:LU):Prop:=
 ∀(pins:List (Addr×Obj)) (s:Shared) (σ:St) (H:Hp) (x y:V) (v u:Value) (Q:VK),Inv X pins σ H s→RelV x v→RelV y u→t x y H Q→
  wpAny (model X.prog X.w) X.A (KG a v u) (EP X pins σ Q) X.xe s
section
variable {X:Cx}{pos:Pos}
noncomputable def jN (i:Nat):TG:=λv σ H Q=>Q (σ.set i (g7 v)) H
theorem kF(hN:X.N.Nodup)(hi:X.N[i]?=g7 x)(hx:Loc X.env.scope x)(a:X.fn x=h7∨X.env.scope.names.lookup x=g7 .local:=by first|exact .inl rfl|exact .inr rfl|assumption):PG X (.Name x pos) (jN i):=by
 intro pins s σ H v u Q I r h;exact Kc (eB I hN hi hx r (λc b=>⟨_,H,b,h⟩) a)
noncomputable def LK (to a:TE)(t:JS):TG:=λv σ H Q=>to σ H λo H1=>a σ H1 λi b=>t o i v b λc=>Q σ c
theorem Gw(c:PE X o to)(hi:PE X i b)(hs:va X t)
  (d:∀v,mU (.Subscript o i pos) X.env v=(do
   let a←P5 [v] (eval o X.env)
   let iv←P5 [v,a] (eval i X.env)
   gV pos
   P5 [v,a,iv] (Kg a iv v)
   release [v,a,iv] []):=by intro _;rfl):PG X (.Subscript o i pos) (LK to b t):=by
 intro pins s σ H v u Q I r h;rw[d];refine wpAny_bind (x0 (F9 (c pins s σ H _ I h) λa s1 ⟨x,H1,e,f,g⟩=>?_));refine wpAny_bind (x0 (F9 (hi pins s1 σ H1 _ e g) λiv s2 ⟨y,j,k,l,m⟩=>?_));refine wpAny_bind (wpAny_standAt (wpAny_bind (x0 (F9 (hs pins s2 σ j x y v a iv u _ k f l r m) λ_ w ⟨n,p,q⟩=>?_))));exact wpAny_release ⟨σ,n,p,q⟩
noncomputable def CI (a:TE)(g:TG):TS:=λD σ H=>a σ H λx H1=>g x σ H1 D.nx
theorem Gr(b:PE X e a)(c:PG X tg g)(hs:NO [tg] e pos.line X.env=pure g8:=by rfl)(d:NP [tg] e X.env=pure g9:=by rfl)
  (f:(assignEach [tg] X.env).map (·.2)=[mU tg X.env]:=by rfl):PS X (.Assign [tg] e pos) (CI a g):=by
 intro pins s σ H D I h;refine wpAny_Assign_stores (F9 (b pins s σ H _ I h) λv s1 ⟨x,H1,i,j,k⟩=>?_) hs d;rw[f];exact F9 (c pins s1 σ H1 x v _ i j k) λ_ s2 q=>q
theorem pH(hN:X.N.Nodup)(hi:X.N[i]?=g7 x)(hx:Loc X.env.scope x)(c:PE X e b)(hs:B4 e (g7 (.Name x a)) pos.line X.env=pure g8:=by rfl)(d:X.fn x=h7∨X.env.scope.names.lookup x=g7 .local:=by first|exact .inl rfl|exact .inr rfl|assumption):
  PS X (.Assign [.Name x a] e pos) (CI b (jN i)):=by
 intro pins s σ H D I h;refine wpAny_Assign_Name (F9 (c pins s σ H _ I h) λv s1 ⟨y,H1,f,g,j⟩=>?_) hs;exact eB f hN hi hx g (λs2 k=>⟨_,H1,k,j⟩) d
noncomputable def Li (i:Nat)(a:TE)(b:LU):TS:=λD σ H=>∃x,σ[i]?=g7 (g7 x)∧a σ H λy H1=>b x y H1 λz c=>D.nx (σ.set i (g7 z)) c
theorem Gq(hN:X.N.Nodup)(hi:X.N[i]?=g7 x)(hx:Loc X.env.scope x)(p:PE X e n)(q:MY X g o)(t:X.fn x=h7∨X.env.scope.names.lookup x=g7 .local:=by first|exact .inl rfl|exact .inr rfl|assumption):
  PS X (.AugAssign (.Name x b) g e pos) (Li i n o):=by
 intro pins s σ H D I h;obtain⟨v,B,h⟩:=h;obtain⟨m,E,hl⟩:=I.loc;have j:cq X.env.scope x:=by rcases hx with k|k;exact .inl k;exact .inr (.inl k)
 obtain⟨u,r,l⟩:=hl i x v hi B j;refine wpAny_AugAssign_Name ?_;have go:wpAny (model X.prog X.w) X.A (eval e X.env) (λw d=>wpAny (model X.prog X.w) X.A (KG g u w) (λr f=>wpAny (model X.prog X.w) X.A (KB X.env x r) (λ_=>SP X pins D .next) X.xe f) X.xe d) X.xe s:=by
  refine F9 (p pins s σ H _ I h) λw s1 ⟨y,H1,F,G,J⟩=>?_;refine F9 (q pins s1 σ H1 v y u w _ F r G J) λz s2 ⟨U,L,O,P,Q⟩=>?_;exact eB O hN hi hx P (λY R=>⟨_,L,R,Q⟩) t
 rcases l with⟨hk,S⟩ | ⟨hk,c,T,a⟩
 ·exact Fx I.ok.kind hk E S go
 ·rcases hk with hk|hk
  ·exact HZ I.ok.kind hk T a go
  ·rcases hx with k|k
   ·have:X.env.scope.names.lookup x=g7 .free:=hk;rw[k]at this;cases this
   ·have:X.env.scope.names.lookup x=g7 .free:=hk;rw[k]at this;cases this
noncomputable def NC (f:Int→Int→Int):LU:=λx y H Q=>∃i j,x=.int i∧y=.int j∧Q (.int (f i j)) H
theorem Ha:MY X .Add (NC λi j=>i+j):=by
 intro pins s σ H x y v u Q I a b h;obtain⟨i,j,c,d,q⟩:=h;subst c;subst d;obtain⟨t,rfl⟩:=a;obtain⟨e,rfl⟩:=b;exact iadd_int ⟨.int _,H,I.tok _,⟨_,rfl⟩,q⟩
end
section
variable {X:Cx}{pos:Pos}
noncomputable def FQ (c:TT)(tb:TS):TS:=λD σ H=>∃W:Nat→St→Hp→Prop,(∃m,W m σ H)∧∀m σ H,W m σ H→
 c σ H λb H1=>if b=h7 then∃N:St→Hp→Prop,(∀a H',N a H'→∃d,d<m∧W d a H')∧tb {D with nx:=N,ct:=N,bk:=D.nx} σ H1 else D.nx σ H1
theorem zF(t:KJ (model X.prog X.w) X.A X.env X.xe)(y:PT X c r)(z:nQ X d tb):PS X (.While c d [] pos) (FQ r tb):=by
 intro pins s σ H D I h;obtain⟨W,⟨B,E⟩,e⟩:=h;refine wpAny_While (codeAny_whileLoop (λn F=>∃g H',Inv X pins g H' F∧W n g H') ?_ B ⟨σ,H,I,E⟩)
 rintro n s1 ⟨σ1,H1,I1,w1⟩
 refine Q8 t (F9 (y pins s1 σ1 H1 _ I1 (e n σ1 H1 w1)) λb s2 ⟨u,x,j⟩=>?_);cases b with
 |true=>
  obtain⟨N,hN,j⟩:=j;rw[if_pos rfl];refine Q8 t (F9 (z pins s2 σ1 u _ x j) λf G k=>?_);cases f with
  |next=>
   obtain⟨a,i,l,m⟩:=k;obtain⟨o,p,q⟩:=hN a i m;exact⟨o,p,a,i,l,q⟩
  |cont=>
   obtain⟨a,i,l,m⟩:=k;obtain⟨o,p,q⟩:=hN a i m;exact⟨o,p,a,i,l,q⟩
  |brk=>exact k
  |ret v=>exact k
 |false=>
  rw[if_neg N3];exact Y1 ⟨σ1,u,x,j⟩
end
structure It where
 go:Nat→Hp→Prop
 yld:Nat→Hp→V→Hp→Prop
 stop:Nat→Hp→Prop
def mL (X:Cx)(pins:List (Addr×Obj))(H:Hp)(b:Addr):Prop:=
 H b=g9∧b≠X.env.locals∧b∉X.fs∧(b∈X.ex∨X.s₀.heap.objs.size≤b)∧(∀x c,X.env.cells.lookup x=g7 c→c≠b)∧∀p∈X.pn++pins,p.1≠b
theorem Inv.DQ(I:Inv X pins σ H s)(a:s.heap.objs.size≤b)(d:H' b=g9):mL X pins H' b:=by
 refine⟨d,y0 (l7 I.lt a),I.GO a,.inr (m8 I.sz a),λx c e z=>?_,λp f z=>?_⟩
 ·obtain⟨v,q⟩:=I.cell x c e;exact absurd (l7 q.lt (by rw[z];exact a)) (n8 _)
 ·exact absurd (l7 (Heap.lt_size (I.pin p f).1) (by rw[z];exact a)) (n8 _)
structure Turn (P:Program) (w:World) (K:PySem.W.Frag) (tg:Expr) (J:It) (fp:List Addr) (it:Addr) (tn:Nat→Heap→Prop):Prop where
 mem:it∈fp
 obj:∀i h,tn i h→∀b∈fp,∃o,h.get? b=some o∧∀v,o.data≠.cell v
 keep:∀i h h',tn i h→(∀b∈fp,∀o,h.get? b=some o→h'.get? b=some o)→tn i h'
 item:∀(X:Cx),X.prog=P→X.w=w→X.K=K→X.calm=true→∀(i:Nat) (pins:List (Addr×Obj)) (s:Shared) (σ:St) (H:Hp) (E:Value→Shared→Prop),Inv X pins σ H s→(∀b∈fp,mL X pins H b)→tn i s.heap→J.go i H→
  wpAny (model P w) X.A (pyNext (.ref it)) (λr s1=>∃u,r=some u∧
   wpAny (model P w) X.A (iV tg (.ref it) u) (λ_ s2=>∃x H',Inv X pins σ H' s2∧RelV x u∧J.yld i H x H'∧tn (i+1) s2.heap∧∀b∈fp,H' b=none) E s1) E s
 done:∀(X:Cx),X.prog=P→X.w=w→X.K=K→X.calm=true→∀(i:Nat) (pins:List (Addr×Obj)) (s:Shared) (σ:St) (H:Hp) (E:Value→Shared→Prop),Inv X pins σ H s→(∀b∈fp,mL X pins H b)→tn i s.heap→J.stop i H→
  wpAny (model P w) X.A (pyNext (.ref it)) (λr s1=>r=none∧Inv X pins σ H s1) E s
 self:∀(A:Around) (i:Nat) (s:Shared) (Q:Value→Shared→Prop) (E:Value→Shared→Prop),tn i s.heap→Q (.ref it) s→wpAny (model P w) A (pyIter (.ref it)) Q E s
noncomputable abbrev TI:=St→Hp→(It→Hp→Prop)→Prop
def MZ (X:Cx)(pins:List (Addr×Obj))(σ:St)(tg:Expr)(R:It→Hp→Prop)(a:Value)(s2:Shared):Prop:=
 ∃(it:Addr) (fp:List Addr) (tn:Nat→Heap→Prop) (J:It) (H':Hp),a=.ref it∧Inv X pins σ H' s2∧Turn X.prog X.w X.K tg J fp it tn∧tn 0 s2.heap∧(∀b∈fp,mL X pins H' b)∧R J H'
def PI (X:Cx)(tg iter:Expr)(a:TI):Prop:=
 ∀(pins:List (Addr×Obj)) (s:Shared) (σ:St) (H:Hp) (R:It→Hp→Prop),Inv X pins σ H s→a σ H R→
  wpAny (model X.prog X.w) X.A (eval iter X.env) (λv s1=>wpAny (model X.prog X.w) X.A (pyIter v) (MZ X pins σ tg R) X.xe s1) X.xe s
theorem iD{s:Shared}(a:s.heap.get? it=g7 o)(b:o.cls=.type n)(hd:o.data=.fields vs)
    (c:["enumerate","zip","dict_itemiterator","dict_reverseitemiterator","odict_iterator","itertools.zip_longest","itertools.pairwise"].contains n=g8) (hQ:Q () s):wpAny M A (iV tg (.ref it) u) Q E s:=by
  unfold iV;cases tg<;>first
    |exact i6 hQ
    | (cases u<;>first
        |exact i6 hQ
        | (refine wpAny_bind (wpAny_load a ?_)
           rw[b,hd];show wpAny M A (if(["enumerate","zip","dict_itemiterator","dict_reverseitemiterator","odict_iterator","itertools.zip_longest","itertools.pairwise"].contains n&&vs[0]?==g7 (rawInt _))=h7 then _ else _) Q E s;rw[if_neg (by intro h;rw[c,Y2]at h;cases h)];exact i6 hQ))
noncomputable def Kw (K:PySem.W.Frag)(a:Addr):It:=
 ⟨λi H=>∃xs x,T9 K H a xs∧xs[i]?=g7 x,λi H x H'=>H'=H∧∀xs,T9 K H a xs→xs[i]?=g7 x,λi H=>∃xs,T9 K H a xs∧xs.length≤i⟩
noncomputable def Ku (K:PySem.W.Frag)(a:Addr):It:=
 ⟨λi H=>∃xs x,bJ K H a xs∧xs[i]?=g7 x,λi H x H'=>H'=H∧∀xs,bJ K H a xs→xs[i]?=g7 x,λi H=>∃xs,bJ K H a xs∧xs.length≤i⟩
noncomputable def Kv (lo:Int)(n:Nat):It:=⟨λi _=>i<n,λi H x H'=>H'=H∧x=.int (lo+i),λi _=>n≤i⟩
theorem wZ {P:Program}{w:World}{K:PySem.W.Frag}{tg:Expr}(a it:Addr):Turn P w K tg (Kw K a) [it] it (λi h=>h.IsListIter it a i) where
 mem:=by simp
 obj:=λi h st b f=>by
  have e:b=it:=by simpa using f
  subst e;obtain⟨o,e,c,d⟩:=st;exact⟨o,e,λv z=>by rw[d]at z;cases z⟩
 keep:=λi h h' st k=>st.at λo e=>k it (by simp) o e
 item:=by
  intro X m n q G i pins s σ H E I j st r;subst m n q;obtain⟨xs,x,l,hx⟩:=r;obtain⟨t,y,p,J⟩:=I.list l;obtain⟨u,L,N⟩:=y.get hx;obtain⟨f0,f1,O,A,B,F⟩:=j it (by simp);refine Ct st p.isList (x:=u) (by simpa using L) λh' g Q=>?_;have R:Inv X pins σ H {s with heap:=h'}:=I.turned (t':=s.toks) (λb o f e=>(Q.2 b f).trans e) f0 f1 A B F;obtain⟨o,e,c,d⟩:=id g;exact⟨u,rfl,iD (s:={s with heap:=h'}) e c d (by decide) ⟨x,H,R,N,⟨rfl,λU S=>by rw[I.lH S l];exact hx⟩,g,λb f=>(j b f).1⟩⟩
 done:=by
  intro X m n q G i pins s σ H E I j st r;subst m n q;obtain⟨xs,l,hx⟩:=r;obtain⟨t,y,p,J⟩:=I.list l;obtain⟨f0,f1,O,A,B,F⟩:=j it (by simp);have hl:=y.length;exact EJ (I.ok.hd G) st p.isList (by simp;omega) λh' T=>⟨rfl,I.turned (t':=s.toks) (λb o f e=>T b o f e) f0 f1 A B F⟩
 self:=λ_ _ _ _ _ st h=>wpAny_pyIter_listiter st h
theorem tK {P:Program}{w:World}{K:PySem.W.Frag}{tg:Expr}(a it:Addr):Turn P w K tg (Ku K a) [it] it (λi h=>h.IsTupleIter it a i) where
 mem:=by simp
 obj:=λi h st b f=>by
  have e:b=it:=by simpa using f
  subst e;obtain⟨o,e,c,d⟩:=st;exact⟨o,e,λv z=>by rw[d]at z;cases z⟩
 keep:=λi h h' st k=>st.at λo e=>k it (by simp) o e
 item:=by
  intro X n q r G i pins s σ H E I l st t;subst n q r;obtain⟨xs,x,m,hx⟩:=t;obtain⟨g,y,p,J⟩:=I.tuple m;obtain⟨u,L,N⟩:=y.get hx;obtain⟨f0,f1,O,A,B,F⟩:=l it (by simp);refine wpAny_pyNext_tuple_item st (show s.heap.IsTuple a g.toArray from p) (x:=u) (by simpa using L) λh' j Q=>?_;have R:Inv X pins σ H {s with heap:=h'}:=I.turned (t':=s.toks) (λb o f e=>(Q.2 b f).trans e) f0 f1 A B F;obtain⟨o,e,c,d⟩:=id j;exact⟨u,rfl,iD (s:={s with heap:=h'}) e c d (by decide) ⟨x,H,R,N,⟨rfl,λU S=>by rw[I.jb S m];exact hx⟩,j,λb f=>(l b f).1⟩⟩
 done:=by
  intro X n q r G i pins s σ H E I l st t;subst n q r;obtain⟨xs,m,hx⟩:=t;obtain⟨g,y,p,J⟩:=I.tuple m;obtain⟨f0,f1,O,A,B,F⟩:=l it (by simp);have hl:=y.length;exact wpAny_pyNext_tuple_end (I.ok.hd G) st (show s.heap.IsTuple a g.toArray from p) (by simp;omega) λh' T=>⟨rfl,I.turned (t':=s.toks) (λb o f e=>T b o f e) f0 f1 A B F⟩
 self:=λ_ _ _ _ _ st h=>wpAny_pyIter_tupleiter st h
theorem tL {P:Program}{w:World}{K:PySem.W.Frag}{tg:Expr}(it:Addr)(lo:Int)(n:Nat):Turn P w K tg (Kv lo n) [it] it (λi h=>IsRangeIter h it (lo+(i:Nat)*1) ((n:Int)-(i:Nat)) 1) where
 mem:=by simp
 obj:=λi h st b a=>by
  have e:b=it:=by simpa using a
  subst e;exact⟨_,st,λv z=>by
   have x:Data.fields _=Data.cell v:=z;cases x⟩
 keep:=λi h h' st k=>k it (by simp) _ st
 item:=by
  intro X f g j l i pins s σ H E I d st m;subst f g j;obtain⟨f0,f1,y,p,q,r⟩:=d it (by simp);have W:=Walks.range (prog:=X.prog) (w:=X.w) (I.ok.hd l) it lo 1 n;refine W.item i s _ _ m st λv h' u A c B=>?_;obtain⟨t,rfl⟩:=A;have F:Inv X pins σ H {s with heap:=h',toks:=u}:=I.turned (λb o a e=>B b o (by simpa using a) e) f0 f1 p q r;refine⟨_,rfl,iD (s:={s with heap:=h',toks:=u}) (n:="range_iterator") c rfl rfl (by decide) ⟨.int (lo+i),H,F,⟨t,?_⟩,⟨rfl,rfl⟩,c,λb a=>(d b a).1⟩⟩;rw[Int.mul_one]
 done:=by
  intro X f g j l i pins s σ H E I d st m;subst f g j;obtain⟨f0,f1,y,p,q,r⟩:=d it (by simp);exact wpAny_pyNext_range_end (I.ok.hd l) st (by have:n≤i:=m;omega) λh' G=>⟨rfl,I.turned (t':=s.toks) (λb o a e=>G b o a e) f0 f1 p q r⟩
 self:=λ_ _ _ _ _ st h=>wpAny_pyIter_rangeiter st h
section
variable {X:Cx}{tg:Expr}
theorem zy {pins:List (Addr×Obj)}{σ:St}{H:Hp}{s:Shared}{R:It→Hp→Prop}{E:Value→Shared→Prop}{lo hi:Int}{t u v:Tok}{a:Nat}(I:Inv X pins σ H s)(d:-(2 ^ 62)≤lo)(f:lo<2 ^ 62)(g:-(2 ^ 62)≤hi)(h:hi<2 ^ 62)
  (q:R (Kv lo (hi-lo).toNat) H):wpAny (model X.prog X.w) X.A (pyIter (.ref s.heap.objs.size)) (MZ X pins σ tg R) E {s with heap:=s.heap.push {cls:=.type "range",data:=.fields #[.int lo t,.int hi u,.int 1 v]},toks:=a}:=by
 refine wpAny_pyIter_range (IsRange.new ..) (small_one d f g h) ?_;have c:Inv X pins σ H {s with heap:=s.heap.push {cls:=.type "range",data:=.fields #[.int lo t,.int hi u,.int 1 v]},toks:=a}:=I.kept λb o e=>Heap.get?_push_of_some _ e;refine⟨(s.heap.push {cls:=.type "range",data:=.fields #[.int lo t,.int hi u,.int 1 v]}).objs.size,[(s.heap.push {cls:=.type "range",data:=.fields #[.int lo t,.int hi u,.int 1 v]}).objs.size],_,_,H,rfl,
  c.kept (t':=a) λb o e=>Heap.get?_push_of_some _ e,tL _ lo (hi-lo).toNat,?_,λb i=>?_,q⟩
 ·have j:lo+((0:Nat):Int)*1=lo:=by simp
  have k:(((hi-lo).toNat:Nat):Int)-((0:Nat):Int)=KU lo hi 1:=by rw[rangeSize_one];split<;>omega
  show IsRangeIter _ _ (lo+((0:Nat):Int)*1) ((((hi-lo).toNat:Nat):Int)-((0:Nat):Int)) 1;rw[j,k];exact Heap.get?_push_size _ rfl
 ·have e:b=(s.heap.push {cls:=.type "range",data:=.fields #[.int lo t,.int hi u,.int 1 v]}).objs.size:=by simpa using i
  subst e;exact c.DQ (i8 _) (c.hok.fresh (i8 _))
noncomputable def Jy (a:TA):TI:=λσ H R=>a σ H λvs H1=>∃j:Int,vs=[.int j]∧-(2 ^ 62)≤j∧j<2 ^ 62∧R (Kv 0 j.toNat) H1
theorem xu(d:Gl X "range") (f:X.mg "range"=g9) (g:PA X [a] c) (hs:i1 [a] X.env=[(g8,eval a X.env)]:=by rfl):PI X tg (.Call (.Name "range" p) [a] [] pos) (Jy c):=by
 intro pins s σ H R I h;refine Call_ (jh I d f boot_range (ak (F9 (g pos pins s σ H _ I h) λus s1 ⟨vs,H1,i,k,b⟩=>?_) hs rfl));obtain⟨j,e,b,l,q⟩:=b;subst e;cases k with
 |cons r m=>
  cases m;obtain⟨t,rfl⟩:=r;exact call_range_1 (zy i (by omega) (by omega) b l (by simpa using q))
noncomputable def Le (d:TI)(g:TG)(tb:TS):TS:=λD σ H=>d σ H λJ H1=>∃W:Nat→Nat→St→Hp→Prop,(∃m,W 0 m σ H1)∧∀i m σ H,W i m σ H→
 (J.stop i H∧D.nx σ H)∨(J.go i H∧∃N:St→Hp→Prop,(∀a H',N a H'→∃c,c<m∧W (i+1) c a H')∧∀x H',J.yld i H x H'→g x σ H' λb e=>tb {D with nx:=N,ct:=N,bk:=D.nx} b e)
noncomputable def lx (fp:List Addr)(h:Heap):List (Addr×Obj):=fp.filterMap λb=>(h.get? b).map λo=>(b,o)
theorem dA{h:Heap}(a:b∈fp)(e:h.get? b=g7 o):(b,o)∈lx fp h:=List.mem_filterMap.mpr ⟨b,a,by rw[e];rfl⟩
theorem xA(a:p∈lx fp h):p.1∈fp∧h.get? p.1=g7 p.2:=by
 obtain⟨b,c,e⟩:=List.mem_filterMap.mp a;cases q:h.get? b with
 |none=>rw[q]at e;cases e
 |some o=>
  rw[q]at e;have d:(b,o)=p:=Option.some.inj e;subst d;exact⟨c,q⟩
theorem Inv.pinned(I:Inv X pins σ H s)(f:∀b∈fp,mL X pins H b)(g:∀b∈fp,∃o,s.heap.get? b=g7 o∧∀v,o.data≠.cell v):Inv X (pins++lx fp s.heap) σ H s:=
 I.Y7 λp h=>(List.mem_append.mp h).elim (λz=>I.pin p (List.mem_append_right _ z)) λz=>by
  obtain⟨a,e⟩:=xA z;obtain⟨f0,f1,i,_⟩:=f p.1 a;obtain⟨o,c,d⟩:=g p.1 a;rw[e]at c;cases c;exact⟨e,f0,f1,i,d⟩
theorem Inv.gZ(I:Inv X (pins++a) σ H s):Inv X pins σ H s:=I.Y7 λp b=>I.pin p (List.mem_append_right _ (List.mem_append_left _ b))
theorem zH(z:KJ (model X.prog X.w) X.A X.env X.xe)(R:X.calm=h7)(hi:PI X tg iter Q)(hg:PG X tg g)(c:nQ X q tb)
  (hs:∀x,foldedSetIterable iter X.env x=pure x:=by intro _;rfl):PS X (.For tg iter q [] pos) (Le Q g tb):=by
 intro pins s σ H D I h;refine wpAny_For (F9 (hi pins s σ H _ I h) λv s1 h1=>F9 h1 λa0 s2 h2=>?_) hs;obtain⟨it,fp,tn,J,H2,e,I2,T,F,S,W,⟨m0,w0⟩,B⟩:=h2;subst e
 
 have j:∀{H':Hp},(∀b∈fp,H' b=g9)→∀b∈fp,mL X pins H' b:=λhn b c=>⟨hn b c,(S b c).2⟩
 refine codeAny_forLoop_any (λn U=>∃i k H',Inv X pins k H' U∧tn i U.heap∧(∀b∈fp,H' b=g9)∧W i n k H') ?_ m0 ⟨0,σ,H2,I2,F,λb c=>(S b c).1,w0⟩
 rintro n s3 ⟨i,σ3,H3,I3,st3,fr3,w3⟩
 rcases B i n σ3 H3 w3 with⟨stop,qn⟩ | ⟨go,N,hN,step⟩
 ·refine Q8 z (F9 (T.done X rfl rfl rfl R i pins s3 σ3 H3 X.xe I3 (j fr3) st3 stop) λr s4 ⟨hr,I4⟩=>?_);subst hr;exact Y1 ⟨σ3,H3,I4,qn⟩
 ·refine Q8 z (F9 (T.item X rfl rfl rfl R i pins s3 σ3 H3 X.xe I3 (j fr3) st3 go) λr s4 ⟨u,hr,h4⟩=>?_);subst hr;refine Q8 z (F9 h4 λ_ Y ⟨x,Z,I5,r5,y5,y,G⟩=>?_);have L:=I5.pinned (j G) (T.obj _ _ y);refine Q8 z (F9 (hg _ Y σ3 Z x u _ L r5 (step x Z y5)) λ_ s6 ⟨O,H6,I6,q6⟩=>?_);refine Q8 z (F9 (c _ s6 O H6 _ I6 q6) λf P t=>?_);have again:∀{a:St} {l:Hp},Inv X (pins++lx fp Y.heap) a l P→N a l→∃m,m<n∧∃i k H',Inv X pins k H' P∧tn i P.heap∧(∀b∈fp,H' b=g9)∧W i m k H':=λ{a l} p E=>by
   obtain⟨m',hm,w7⟩:=hN a l E;refine⟨m',hm,i+1,a,l,p.gZ,T.keep _ _ _ y λb c o e=>(p.pin (b,o) (List.mem_append_right _ (List.mem_append_right _ (dA c e)))).1,λb c=>?_,w7⟩;obtain⟨o,e,d⟩:=T.obj _ _ y b c;exact(p.pin (b,o) (List.mem_append_right _ (List.mem_append_right _ (dA c e)))).2.1
  cases f with
  |next=>obtain⟨a,l,p,E⟩:=t;exact again p E
  |cont=>obtain⟨a,l,p,E⟩:=t;exact again p E
  |brk=>obtain⟨a,l,p,t⟩:=t;exact⟨a,l,p.gZ,t⟩
  |ret v=>obtain⟨x7,a,l,p,r7,t⟩:=t;exact⟨x7,a,l,p.gZ,r7,t⟩
end
noncomputable abbrev R2:=V→V→Hp→VK→Prop
def fP (X:Cx)(f:Value→Value→Sem Value)(r:R2):Prop:=
 ∀(pins:List (Addr×Obj)) (s:Shared) (σ:St) (H:Hp) (x y:V) (v u:Value) (Q:VK),Inv X pins σ H s→RelV x v→RelV y u→r x y H Q→
  wpAny (model X.prog X.w) X.A (f v u) (EP X pins σ Q) X.xe s
def Kq (X:Cx)(f:Value→Sem Value)(r:V→Hp→VK→Prop):Prop:=
 ∀(pins:List (Addr×Obj)) (s:Shared) (σ:St) (H:Hp) (x:V) (v:Value) (Q:VK),Inv X pins σ H s→RelV x v→r x H Q→
  wpAny (model X.prog X.w) X.A (f v) (EP X pins σ Q) X.xe s
def E6 (X:Cx)(f:Value)(r:List V→Hp→VK→Prop):Prop:=
 ∀(pins:List (Addr×Obj)) (s:Shared) (σ:St) (H:Hp) (xs:List V) (us:List Value) (Q:VK),Inv X pins σ H s→Vals xs us→r xs H Q→
  wpAny (model X.prog X.w) X.A (call f us) (EP X pins σ Q) X.xe s
def LS (X:Cx)(r:V→Hp→(Bool→Hp→Prop)→Prop):Prop:=
 ∀(pins:List (Addr×Obj)) (s:Shared) (σ:St) (H:Hp) (x:V) (v:Value) (Q:Bool→Hp→Prop),Inv X pins σ H s→RelV x v→r x H Q→
  wpAny (model X.prog X.w) X.A (Nh v) (TP X pins σ Q) X.xe s
noncomputable def ES (r:R2)(a tb:TE):TE:=λσ H Q=>a σ H λx H1=>tb σ H1 λy b=>r x y b Q
noncomputable def IL (r:V→Hp→VK→Prop)(a:TE):TE:=λσ H Q=>a σ H λx H1=>r x H1 Q
noncomputable def rI (C:Int→Int→Prop)(g:Int→Int→V):R2:=λx y H Q=>∃i j,x=.int i∧y=.int j∧C i j∧Q (g i j) H
noncomputable def zB (g:Int→Int→V):R2:=λx y H Q=>∃i j,x=.int i∧y=.int j∧Q (g i j) H
noncomputable def rU (g:Int→V):V→Hp→VK→Prop:=λx H Q=>∃i,x=.int i∧Q (g i) H
section
variable {X:Cx}{a b c:Expr}{ta tb tc:TE}{pos:Pos}
theorem HI (g:PE X a ta)(i:PE X b tb){pins:List (Addr×Obj)}{s:Shared}{σ:St}{H:Hp}{R:V→V→Hp→Prop}(I:Inv X pins σ H s)
  (h:ta σ H λx H1=>tb σ H1 λy c=>R x y c) {Q:Value→Shared→Prop} {f:Value→Value→Sem Value}
  (j:∀v u s2 x y c,Inv X pins σ c s2→RelV x v→RelV y u→R x y c→wpAny (model X.prog X.w) X.A (f v u) Q X.xe s2):
  wpAny (model X.prog X.w) X.A (eval a X.env) (λv d=>wpAny (model X.prog X.w) X.A (eval b X.env) (λu e=>wpAny (model X.prog X.w) X.A (f v u) Q X.xe e) X.xe d) X.xe s:=by
 refine F9 (g pins s σ H _ I h) λv s1 ⟨x,H1,k,l,m⟩=>?_;refine F9 (i pins s1 σ H1 _ k m) λu s2 ⟨y,c,n,o,p⟩=>?_;exact j v u s2 x y c n l o p
theorem Jk {c:Operator}{r:R2}(d:fP X (eg c) r)(e:PE X a ta)(f:PE X b tb):PE X (.BinOp a c b pos) (ES r ta tb):=by
 intro pins s σ H Q I h;exact wpAny_BinOp (HI e f I h λv u s2 x y g i j k q=>d pins s2 σ g x y v u Q i j k q)
theorem ly {b:UnaryOp}{r:V→Hp→VK→Prop}(c:Kq X (OG b) r)(d:PE X a ta):PE X (.UnaryOp b a pos) (IL r ta):=by
 intro pins s σ H Q I h;exact UnaryOp_ (F9 (d pins s σ H _ I h) λv s1 ⟨x,H1,e,f,g⟩=>c pins s1 σ H1 x v Q e f g)
theorem Ls {f:Value→Value→Sem Value}{C:Int→Int→Prop}{g:Int→Int→Int}
  (rule:∀(i j:Int) (t u:Tok) (s:Shared) (Q:Value→Shared→Prop) (E:Value→Shared→Prop),C i j→Q (.int (g i j) s.toks) {s with toks:=s.toks+1}→wpAny (model X.prog X.w) X.A (f (.int i t) (.int j u)) Q E s):
  fP X f (rI C λi j=>.int (g i j)):=by
 intro pins s σ H x y v u Q I a b h;obtain⟨i,j,rfl,rfl,c,q⟩:=h;obtain⟨t,rfl⟩:=a;obtain⟨d,rfl⟩:=b;exact rule i j t d s _ _ c ⟨.int (g i j),H,I.tok _,⟨_,rfl⟩,q⟩
theorem Jp {f:Value→Value→Sem Value}{g:Int→Int→Int}
  (rule:∀(i j:Int) (t u:Tok) (s:Shared) (Q:Value→Shared→Prop) (E:Value→Shared→Prop),Q (.int (g i j) s.toks) {s with toks:=s.toks+1}→wpAny (model X.prog X.w) X.A (f (.int i t) (.int j u)) Q E s):
  fP X f (zB λi j=>.int (g i j)):=by
 intro pins s σ H x y v u Q I a b h;obtain⟨i,j,rfl,rfl,q⟩:=h;obtain⟨t,rfl⟩:=a;obtain⟨c,rfl⟩:=b;exact rule i j t c s _ _ ⟨.int (g i j),H,I.tok _,⟨_,rfl⟩,q⟩
theorem GM {f:Value→Value→Sem Value}{g:Int→Int→Bool}
  (rule:∀(i j:Int) (t u:Tok) (s:Shared) (Q:Value→Shared→Prop) (E:Value→Shared→Prop),Q (.bool (g i j)) s→wpAny (model X.prog X.w) X.A (f (.int i t) (.int j u)) Q E s):
  fP X f (zB λi j=>.bl (g i j)):=by
 intro pins s σ H x y v u Q I a b h;obtain⟨i,j,rfl,rfl,q⟩:=h;obtain⟨t,rfl⟩:=a;obtain⟨c,rfl⟩:=b;exact rule i j t c s _ _ ⟨.bl (g i j),H,I,rfl,q⟩
def yA (i j:Int):Prop:=0<j∧j<1073741824
def tu (i j:Int):Prop:=(-(2 ^ 64)<i∧i<2 ^ 64)∨(-(2 ^ 64)<j∧j<2 ^ 64)
theorem tu.ok(h:tu i j):IntMulOk i j:=by
 rcases h with⟨a,b⟩ | ⟨a,b⟩
 ·exact .of_left (NR a b)
 ·exact .of_right (NR a b)
theorem GL:fP X (eg .Add) (zB λi j=>.int (i+j)):=Jp λ_ _ _ _ _ _ _ q=>add_int q
theorem GI:fP X (eg .Sub) (zB λi j=>.int (i-j)):=Jp λ_ _ _ _ _ _ _ q=>sub_int q
theorem GJ:fP X (eg .Mult) (rI tu λi j=>.int (i*j)):=Ls λ_ _ _ _ _ _ _ a q=>mul_int q a.ok
theorem Dr:fP X (eg .FloorDiv) (rI yA λi j=>.int (i / j)):=Ls λi j _ _ _ _ _ a q=>by
 have b:(0:Int)<j:=a.1;have c:j<1073741824:=a.2;exact floordiv_int (by omega) (by rw[Int.fdiv_eq_ediv_of_nonneg i (by omega)];exact q) (.inl (PyProof.noPylong_small (by omega)))
theorem GK:fP X (eg .Mod) (rI (λ_ j=>0<j) λi j=>.int (i % j)):=Ls λi j _ _ _ _ _ a q=>by
 have b:(0:Int)<j:=a;exact mod_int' (by omega) (by rw[Int.fmod_eq_emod_of_nonneg i (by omega)];exact q)
theorem Nw {f:Value→Sem Value}{g:Int→Int}
  (rule:∀(i:Int) (t:Tok) (s:Shared) (Q:Value→Shared→Prop) (E:Value→Shared→Prop),Q (.int (g i) s.toks) {s with toks:=s.toks+1}→wpAny (model X.prog X.w) X.A (f (.int i t)) Q E s):
  Kq X f (rU λi=>.int (g i)):=by
 intro pins s σ H x v Q I a h;obtain⟨i,rfl,q⟩:=h;obtain⟨t,rfl⟩:=a;exact rule i t s _ _ ⟨.int (g i),H,I.tok _,⟨_,rfl⟩,q⟩
theorem gn:Kq X (OG .USub) (rU λi=>.int (-i)):=Nw λ_ _ _ _ _ q=>neg_int q
end
section
variable {X:Cx}{a b c:Expr}{ta tb tc:TE}{pos:Pos}
theorem gL {pins:List (Addr×Obj)}{σ:St}{H:Hp}{s:Shared}{Q:VK}{k a:Bool}(I:Inv X pins σ H s)(q:Q (.bl k) H)(e:k=a):EP X pins σ Q (.bool a) s:=by
 subst e;exact⟨.bl k,H,I,rfl,q⟩
theorem zY:fP X (A0 .Lt) (zB λi j=>.bl (decide (i<j))):=GM λ_ _ _ _ _ _ _ q=>lt_int q
theorem EZ:fP X (A0 .LtE) (zB λi j=>.bl (decide (i≤j))):=GM λ_ _ _ _ _ _ _ q=>le_int q
theorem Fa:fP X (A0 .Gt) (zB λi j=>.bl (decide (j<i))):=GM λ_ _ _ _ _ _ _ q=>gt_int q
theorem om:fP X (A0 .In) (λx y H Q=>∃i j,x=.str i∧y=.str j∧Q (.bl (!(C2 j i 0 j.length 1).isEmpty)) H):=by
 intro pins s σ H x y v u Q I a b h;obtain⟨i,j,rfl,rfl,q⟩:=h;obtain⟨t,rfl⟩:=a;obtain⟨c,rfl⟩:=b;exact in_str (gL I q rfl)
theorem fP.or {f:Value→Value→Sem Value}{r a:R2}(h:fP X f r)(h':fP X f a):fP X f (λx y H Q=>r x y H Q∨a x y H Q):=by
 intro pins s σ H x y v u Q I b c q;rcases q with q|q
 ·exact h pins s σ H x y v u Q I b c q
 ·exact h' pins s σ H x y v u Q I b c q
theorem bq (b:Expr){a:CmpOp}(h:a≠.In:=by decide)(c:a≠.NotIn:=by decide):M5 a b=g8:=by
 have d:(a==CmpOp.In)=g8:=by cases a<;>first|rfl|exact absurd rfl h
 have e:(a==CmpOp.NotIn)=g8:=by cases a<;>first|rfl|exact absurd rfl c
 cases b<;>simp[M5,d,e]
theorem Dp {c:CmpOp}{r:R2}(d:fP X (A0 c) r)(e:PE X a ta)(f:PE X b tb)(g:M5 c b=g8):PE X (.Compare a [c] [b] pos) (ES r ta tb):=by
 intro pins s σ H Q I h;exact wpAny_Compare1 (HI e f I h λv u s2 x y i j k l q=>d pins s2 σ i x y v u Q j k l q) g
noncomputable def ER (t:TE):TT:=λσ H Q=>t σ H λx H'=>∃k,x=.bl k∧Q k H'
theorem pG(f:fP X (A0 d) r)(g:PE X a ta)(i:PE X b tb)(j:M5 d b=g8):PT X (.Compare a [d] [b] pos) (ER (ES r ta tb)):=by
 intro pins s σ H Q I h;refine wpAny_isTrue_Compare1 (F9 (g pins s σ H _ I h) λv s1 ⟨x,H1,l,m,n⟩=>F9 (i pins s1 σ H1 _ l n) λu s2 ⟨y,o,p,q,t⟩=>
  F9 (f pins s2 σ o x y v u _ p m q t) λc F ⟨z,w,A,B,k,e,E⟩=>?_) j
 subst e;cases B;exact L7 ⟨w,A,E⟩
def uX (K:PySem.W.Frag)(x:V)(H:Hp)(k:Bool):Prop:=
 match x with
 |.z5=>k=g8
 |.bl b=>k=b
 |.int i=>k=(i != 0)
 |.str y=>y.length≤sizeLine∧k=((y.length:Int) != 0)
 |.byt y=>y.size≤sizeLine∧k=((y.size:Int) != 0)
 |.ref p=>(∃xs,T9 K H p xs∧k=!xs.isEmpty)∨(∃xs,bJ K H p xs∧k=!xs.isEmpty)∨∃kvs,H p=g7 (.dK kvs)∧k=!kvs.isEmpty
 |_=>False
theorem ul {a:Type}{kvs:List (a×V)}{vs:List (a×Value)}(r:KV kvs vs):(!vs.isEmpty)=!kvs.isEmpty:=by
 cases r<;>rfl
theorem lM {xs:List V}{a:List Value}(r:Vals xs a):(!a.toArray.isEmpty)=!xs.isEmpty:=by
 cases r<;>simp
theorem gD:(sizeLine:Nat)<2 ^ 63:=by rw[v8];decide
theorem yR:LS X (λx H Q=>∃k,uX X.K x H k∧Q k H):=by
 intro pins s σ H x v Q I d h;obtain⟨k,e,q⟩:=h;have hl:=gD;have hs:sizeLine=16777216:=v8;cases x with
 |z5=>
  cases d;have a:k=g8:=e;subst a;exact truthy_none ⟨H,I,q⟩
 |bl b=>
  cases d;have a:k=b:=e;subst a;exact L7 ⟨H,I,q⟩
 |int i=>
  obtain⟨t,rfl⟩:=d;have a:k=(i != 0):=e;subst a;exact PySem.P.truthy_int ⟨H,I,q⟩
 |str y=>
  obtain⟨t,rfl⟩:=d;obtain⟨l,a⟩:y.length≤sizeLine∧k=((y.length:Int) != 0):=e;subst a;exact PySem.P.truthy_str (by omega) ⟨H,I.tok _,q⟩
 |byt y=>
  obtain⟨t,rfl⟩:=d;obtain⟨l,a⟩:y.size≤sizeLine∧k=((y.size:Int) != 0):=e;subst a;exact PySem.W.truthy_bytes (by omega) ⟨H,I.tok _,q⟩
 |ref p=>
  cases d;have a:(∃xs,T9 X.K H p xs∧k=!xs.isEmpty)∨(∃xs,bJ X.K H p xs∧k=!xs.isEmpty)∨∃kvs,H p=g7 (.dK kvs)∧k=!kvs.isEmpty:=e;rcases a with⟨xs,hx,a⟩ | ⟨xs,hx,a⟩ | ⟨kvs,hx,a⟩
  ·subst a;obtain⟨f,r,g,j⟩:=I.list hx;have c:=r.length;exact wpAny_truthy_list g.isList (by simp only[List.size_toArray];omega) ⟨H,I.tok _,by rw[lM r];exact q⟩
  ·subst a;obtain⟨f,r,g,j⟩:=I.tuple hx;have c:=r.length;exact truthy_tuple g (by simp only[List.size_toArray];omega) ⟨H,I.tok _,by rw[lM r];exact q⟩
  ·subst a;obtain⟨j,n,vs,r,m⟩:kvs.length≤sizeLine∧(p==P4)=g8∧∃vs,KV kvs vs∧s.heap.DictOf (w6 X.prog X.w) p vs:=I.hok p _ hx;have c:kvs.length=vs.length:=cZ r;exact wpAny_truthy_dict n m (by omega) ⟨H,I.tok _,by rw[ul r];exact q⟩
 |_=>exact(show False from e).elim
theorem zE (c:PE X a ta)(d:∀b,wP a X.env b=(do let v←b;gV a.pos;P5 [v] (Nh v))):
  PT X a (λσ H Q=>ta σ H λx H'=>∃k,uX X.K x H' k∧Q k H'):=by
 intro pins s σ H Q I h;exact OM (F9 (c pins s σ H _ I h) λv s1 ⟨x,H1,e,f,g⟩=>yR pins s1 σ H1 x v Q e f g) (d _)
theorem tX:fP X (eg .Add) (λx y H Q=>∃i j,x=.str i∧y=.str j∧i.length+j.length≤sizeLine∧Q (.str (i++j)) H):=by
 intro pins s σ H x y v u Q I a b h;obtain⟨i,j,rfl,rfl,c,q⟩:=h;obtain⟨t,rfl⟩:=a;obtain⟨d,rfl⟩:=b;exact add_str (λd e=>⟨.str (i++j),H,I.tok _,⟨_,rfl⟩,q⟩) c
theorem vals1(r:Vals [x] us):∃u,us=[u]∧RelV x u:=by
 cases r with
 |cons a b=>cases b;exact⟨_,rfl,a⟩
theorem vals2(r:Vals [x,y] us):∃u a,us=[u,a]∧RelV x u∧RelV y a:=by
 cases r with
 |cons b c=>
  cases c with
  |cons d e=>cases e;exact⟨_,_,rfl,b,d⟩
theorem BR:E6 X (.builtin "abs") (λxs H Q=>∃i,xs=[.int i]∧Q (.int (if i<0 then -i else i)) H):=by
 intro pins s σ H xs us Q I r h;obtain⟨i,rfl,q⟩:=h;obtain⟨u,rfl,t,rfl⟩:=vals1 r;exact call_abs_int λu a=>⟨.int (if i<0 then -i else i),H,I.tok _,⟨_,rfl⟩,q⟩
theorem yq (b:X.calm=h7):E6 X (.builtin "max") (λxs H Q=>∃i j,xs=[.int i,.int j]∧Q (.int (if j>i then j else i)) H):=by
 intro pins s σ H xs us Q I r h;obtain⟨i,j,rfl,q⟩:=h;obtain⟨u,c,rfl,⟨t,rfl⟩,⟨d,rfl⟩⟩:=vals2 r;refine max_two_ints (I.ok.hd b) λh' e k=>⟨_,H,I.kept k,?_,q⟩;by_cases a:j>i
 ·rw[if_pos a,if_pos a];exact⟨_,rfl⟩
 ·rw[if_neg a,if_neg a];exact⟨_,rfl⟩
theorem yu:E6 X (.type "int") (λxs H Q=>(∃i,xs=[.int i]∧Q (.int i) H)∨∃k,xs=[.bl k]∧Q (.int (if k then 1 else 0)) H):=by
 intro pins s σ H xs us Q I r h;rcases h with⟨i,rfl,q⟩ | ⟨k,rfl,q⟩
 ·obtain⟨u,rfl,t,rfl⟩:=vals1 r;exact call_int_int ⟨.int i,H,I,⟨_,rfl⟩,q⟩
 ·obtain⟨u,rfl,a⟩:=vals1 r;cases a;exact call_int_bool ⟨.int (if k then 1 else 0),H,I.tok _,⟨_,rfl⟩,q⟩
end
structure vb (h:Heap) (x dx C:Addr) (mA:Str→Option Value):Prop where
 obj:h.get? x=some (PySem.W.instObj C dx)
 ns:h.Ns1 dx mA
 ne:dx≠x
theorem xJ {h:Heap}(n:h.Ns1 dx mA):∃od,h.get? dx=g7 od∧∀name,PySem.W.lookIn name od=g7 (mA name):=by
 obtain⟨o,es,i,c,hd,hk,_,d⟩:=n;refine⟨o,c,λname=>?_⟩;have e:=d name;unfold nsFind findBy at e;rw[←yK]at e;unfold PySem.W.lookIn;rw[hd];dsimp only;split
 ·rename_i y q;rw[q]at e;exact congrArg g7 e
 ·rename_i q;rw[q]at e;have a:es.toList.any (·.refKey)=g8:=by
   rw[List.any_eq_false];intro y f;obtain⟨z,t,b⟩:=hk y (Array.mem_toList_iff.mp f);simp[OP,b]
  have g:¬es.toList.any (·.refKey)=h7:=by rw[a];exact N3
  rw[if_neg g];exact congrArg g7 e
theorem vb.look(I:vb h x dx C mA):∃od,PySem.W.InstAt h x (PySem.W.instObj C dx) C (g7 od)∧∀name,PySem.W.lookIn name od=g7 (mA name):=
 let⟨od,a,hl⟩:=xJ I.ns
 ⟨od,⟨I.obj,rfl,rfl,a⟩,hl⟩
section
variable {prog:Program}{w:World}{A:Around}{E:Value→Shared→Prop}{s:Shared}{K:PySem.W.Frag}{x dx C f:Addr}{mA:Str→Option Value}{name:Str}{v:Value}
theorem get_map(X:K.In s.heap)(I:vb s.heap x dx C mA)(c:PySem.W.plainGet K C name=h7)(d:PySem.W.hasDictIn K C=h7)
  (e:PySem.W.findIn K (.ref C) name=g7 g9) (f:mA name=g7 v) (b:PySem.W.handedIn v=h7) (h:Q v {s with toks:=s.toks+1}):
  wpAny (model prog w) A (Cy (.ref x) name a) Q E s:=by
 obtain⟨od,J,hl⟩:=I.look;exact PySem.W.get_value X J (PySem.W.plainGet_of c).1 (PySem.W.findObj_own d e rfl (by rw[hl,f])) b h
theorem AW(X:K.In s.heap)(I:vb s.heap x dx C mA)(a:PySem.W.plainGet K C name=h7)
  (c:PySem.W.findIn K (.ref C) name=g7 (g7 (.ref f))) (d:PySem.W.isFn K (.ref f)=h7) (e:mA name=g9) (h:Q (.ref f,[.ref x]) s):
  wpAny (model prog w) A (kz (.ref x) name b) Q E s:=by
 obtain⟨od,J,hl⟩:=I.look;exact PySem.W.method_fn X J (PySem.W.plainGet_of a).1 (PySem.W.plainGet_of a).2 c (beq_iff_eq.mp d) (by show(PySem.W.lookIn name od).map (·.isSome)=g7 g8;rw[hl,e];rfl) h
theorem CQ(X:K.In s.heap)(I:vb s.heap x dx C mA)
  (hs:PySem.W.findIn K (.ref C) "__setattr__"=g7 (g7 (.builtin "object.__setattr__"))) (j:PySem.W.plainOver K C=h7) (k:PySem.W.takerIn K C name=g7 g9) (l:PySem.W.hasDictIn K C=h7)
  (m:PySem.Within mA ns) (n:ns.length≤sizeLine)
  (h:∀h',vb h' x dx C (λy=>if y=name then g7 v else mA y)→Heap.SameBut dx s.heap h'→Q () {s with heap:=h',toks:=s.toks+2}):
  wpAny (model prog w) A (OK (.ref x) name v) Q E s:=by
 obtain⟨od,J,hl⟩:=I.look;refine PySem.W.set_plain X J hs (PySem.W.osa_open (s:={s with toks:=s.toks+1}) (r:=g9) X J j k λb=>?_);obtain⟨cd,o,e⟩:=PySem.W.any_some l;have hx:s.heap.get? x=g7 ⟨.ref C,g7 dx,.plain,#[]⟩:=I.obj;refine wpAny_bind (i6 (wpAny_bind (wpAny_bind (Nf hx (wpAny_bind (PySem.W.Looks.here (s:={s with toks:=s.toks+1}) (PySem.W.looks_clsIn X o) ?_))))));rw[e];refine i6 (a:=g7 dx) (wpAny_bind (i6 (wpAny_bind ?_)));refine OE (s:={s with toks:=s.toks+1}) I.ns λh' c d=>?_;obtain⟨t,p,q,f,g,i⟩:=c.count (PySem.Within.cons name v m);refine wpAny_bind (Kz f (by rw[g];exact KC (m8 i (by rw[List.length_cons];omega))) ?_);exact i6 (h _ ⟨(d.2 _ (o1 I.ne)).trans I.obj,c,I.ne⟩ d)
theorem Aj(X:K.In s.heap)(b:PySem.W.makesIn K C=h7)
  (hi:PySem.W.findIn K (.ref C) "__init__"=g7 (g7 (.ref f))) (c:PySem.W.typeIn K (.ref f)=g7 (.type "function"))
  (h:aH (model prog w) (A.under (.builtin "type.__call__" ⟨.ref C::vs,a⟩)) (.call (.ref f) ⟨.ref (s.heap.objs.size+1)::vs,a⟩) (PySem.W.InitBack (s.heap.objs.size+1) R)
   {s with heap:=(s.heap.push PySem.W.emptyDict).push (PySem.W.instObj C s.heap.objs.size)}):
  aH (model prog w) A (.call (.ref C) ⟨vs,a⟩) R s:=by
 obtain⟨e,g,d,t,os⟩:=s;exact PySem.W.make_core (PySem.W.makes_of X b) (PySem.W.looks_findIn X hi) (λself=>PySem.W.bind_fn X self c) (.inl rfl) h
end
noncomputable def bO (f:Str)(v:V):List (Str×V)→List (Str×V)
 | []=>[(f,v)]
 | (g,x)::r=>if g=f then(g,v)::r else(g,x)::bO f v r
theorem cc (f g:Str)(v:V):∀fs:List (Str×V),(bO f v fs).lookup g=if g=f then g7 v else fs.lookup g
 | []=>by
  show List.lookup g [(f,v)]=_;by_cases h:g=f
  ·have a:(g==f)=h7:=beq_iff_eq.mpr h;simp only[List.lookup,a,if_pos h]
  ·have a:(g==f)=g8:=beq_eq_false_iff_ne.mpr h;simp only[List.lookup,a,if_neg h]
 | (k,x)::r=>by
  have ih:=cc f g v r;rw[show bO f v ((k,x)::r)=(if k=f then(k,v)::r else(k,x)::bO f v r)from rfl];by_cases hk:k=f
  ·rw[if_pos hk];by_cases h:g=k
   ·have a:(g==k)=h7:=beq_iff_eq.mpr h;simp only[List.lookup,a,if_pos (h.trans hk)]
   ·have a:(g==k)=g8:=beq_eq_false_iff_ne.mpr h;simp only[List.lookup,a,if_neg (λe:g=f=>h (e.trans hk.symm))]
  ·rw[if_neg hk];by_cases h:g=k
   ·have a:(g==k)=h7:=beq_iff_eq.mpr h;simp only[List.lookup,a,if_neg (λe:g=f=>hk (h.symm.trans e))]
   ·have a:(g==k)=g8:=beq_eq_false_iff_ne.mpr h;simp only[List.lookup,a];exact ih
theorem ji (f:Str)(v:V):∀fs:List (Str×V),f∈(bO f v fs).map (·.1)∧∀g,g∈fs.map (·.1)→g∈(bO f v fs).map (·.1)
 | []=>⟨by simp[bO],λg h=>by simp at h⟩
 | (k,x)::r=>by
  obtain⟨a,b⟩:=ji f v r;rw[show bO f v ((k,x)::r)=(if k=f then(k,v)::r else(k,x)::bO f v r)from rfl];by_cases hk:k=f
  ·rw[if_pos hk];subst hk;exact⟨by simp,λg h=>by simpa using h⟩
  ·rw[if_neg hk];refine⟨?_,λg h=>?_⟩
   ·rw[List.map_cons];exact List.mem_cons_of_mem _ a
   ·rw[List.map_cons]at h⊢;rcases List.mem_cons.mp h with e|e
    ·exact List.mem_cons.mpr (.inl e)
    ·exact List.mem_cons_of_mem _ (b g e)
theorem jL (f:Str)(v:V):∀fs:List (Str×V),(bO f v fs).length≤fs.length+1
 | []=>by simp[bO]
 | (k,x)::r=>by
  have ih:=jL f v r;rw[show bO f v ((k,x)::r)=(if k=f then(k,v)::r else(k,x)::bO f v r)from rfl];by_cases hk:k=f
  ·rw[if_pos hk,List.length_cons,List.length_cons];omega
  ·rw[if_neg hk,List.length_cons,List.length_cons];omega
theorem bG.some_of(r:bG (g7 v) o):∃u,o=g7 u∧RelV v u:=by
 cases o with
 |none=>exact(show False from r).elim
 |some u=>exact⟨u,rfl,r⟩
theorem bG.none_of(r:bG g9 o):o=g9:=by
 cases o with
 |none=>rfl
 |some u=>exact(show False from r).elim
theorem oC(r:RelV v u):PySem.W.handedIn u=h7:=by
 cases v with
 |z5=>cases(show u=Value.none from r);rfl
 |bl b=>cases(show u=Value.bool b from r);rfl
 |int i=>obtain⟨t,e⟩:=(show∃t,u=Value.int i t from r);cases e;rfl
 |str x=>obtain⟨t,e⟩:=(show∃t,u=Value.str x t from r);cases e;rfl
 |byt b=>obtain⟨t,e⟩:=(show∃t,u=Value.bytes b t from r);cases e;rfl
 |flt b=>obtain⟨t,e⟩:=(show∃t,u=Value.float b t from r);cases e;rfl
 |ref a=>cases(show u=Value.ref a from r);rfl
 |ty n=>cases(show u=Value.type n from r);rfl
section
variable {P:Program}{w:World}{H H':Hp}{h h':Heap}{a C dx:Addr}{fs HW:List (Str×V)}
theorem pV (hok:fb P w H h)(e:H a=g7 (.ins C dx fs)):∃mA,vb h a dx C mA∧(∀f,bG (fs.lookup f) (mA f))∧PySem.Within mA (fs.map (·.1))∧fs.length≤1000∧H dx=g7 (.own a):=by
 obtain⟨d,z,ne,ob,mA,n,r,q⟩:=(show B9 P w H h a (.ins C dx fs)from hok a _ e)
 exact⟨mA,⟨ob,n,ne⟩,r,q,z,d⟩
end
structure Cs (K:PySem.W.Frag) (C:Addr):Prop where
 pg:PySem.W.plainGet K C Str.empty=true
 hd:PySem.W.hasDictIn K C=true
 po:PySem.W.plainOver K C=true
 sa:PySem.W.findIn K (.ref C) "__setattr__"=some (some (.builtin "object.__setattr__"))
theorem Cs.get {K:PySem.W.Frag}{C:Addr}(c:Cs K C)(f:Str):PySem.W.plainGet K C f=h7:=c.pg
def eY (K:PySem.W.Frag)(C:Addr)(f:Str):Prop:=PySem.W.findIn K (.ref C) f=g7 g9
theorem eY.IK {K:PySem.W.Frag}{C:Addr}{f:Str}(n:eY K C f):PySem.W.takerIn K C f=g7 g9:=by
 unfold PySem.W.takerIn;rw[show PySem.W.findIn K (.ref C) f=g7 g9 from n];rfl
structure Meth (K:PySem.W.Frag) (C:Addr) (m:Str) (f:Addr):Prop where
 at_:PySem.W.findIn K (.ref C) m=some (some (.ref f))
 fn:PySem.W.isFn K (.ref f)=true
 kp:PySem.W.keepIn K (.ref f)=true
section
variable {X:Cx}{pins:List (Addr×Obj)}{σ:St}{H:Hp}{s:Shared}{a C dx:Addr}{fs:List (Str×V)}{f:Str}{v:V}{A:Around}{E:Value→Shared→Prop}
theorem lS(I:Inv X pins σ H s)(e:H a=g7 (.ins C dx fs))(c:Cs X.K C)(n:eY X.K C f)(l:fs.lookup f=g7 v)
  (h:∀u d,Inv X pins σ H d→RelV v u→Q u d):wpAny (model X.prog X.w) A (Cy (.ref a) f b) Q E s:=by
 obtain⟨mA,O,r,_,_,_⟩:=pV I.hok e;obtain⟨u,i,g⟩:=bG.some_of (v:=v) (o:=mA f) (by rw[←l];exact r f);exact get_map I.fD O (c.get f) c.hd n i (oC g) (h u _ (I.tok _) g)
theorem uB(I:Inv X pins σ H s)(e:H a=g7 (.ins C dx fs))(c:Cs X.K C)(k:Meth X.K C m g)(l:fs.lookup m=g9)
  (h:Q (.ref g,[.ref a]) s):wpAny (model X.prog X.w) A (kz (.ref a) m b) Q E s:=by
 obtain⟨mA,O,r,_,_,_⟩:=pV I.hok e;have d:mA m=g9:=bG.none_of (by rw[←l];exact r m);exact AW I.fD O (c.get m) k.at_ k.fn d h
theorem lg(I:Inv X pins σ H s)(e:H a=g7 (.ins C dx fs))(c:Cs X.K C)(n:eY X.K C f)(hl:fs.length<1000)(l:RelV y u)
  (h:∀i,Inv X pins σ (upd H a (.ins C dx (bO f y fs))) i→Q () i):wpAny (model X.prog X.w) A (OK (.ref a) f u) Q E s:=by
 obtain⟨mA,O,r,j,_,k⟩:=pV I.hok e;have m:(fs.map (·.1)).length≤sizeLine:=by rw[List.length_map,v8];omega
 refine CQ I.fD O c.sa c.po n.IK c.hd j m λh' d p=>h _ ?_;have hd:∃o,h'.get? dx=g7 o:=let⟨o,_,_,t,_⟩:=d.ns;⟨o,t⟩;refine I.write (x:=a) (e:=dx) (by rw[e];exact True.intro) (.inr k) (λb q v z=>(p.2 b v).trans z) hd ?_;refine⟨by rw[i9 O.ne];exact k,?_,O.ne,d.obj,_,d.ns,λg=>?_,λg B=>?_⟩
 ·have:=jL f y fs;omega
 ·show bG ((bO f y fs).lookup g) (if g=f then g7 u else mA g);rw[cc];by_cases q:g=f
  ·rw[if_pos q,if_pos q];exact l
  ·rw[if_neg q,if_neg q];exact r g
 ·by_cases q:g=f
  ·rw[q];exact(ji f y fs).1
  ·refine(ji f y fs).2 g (j g λz=>B ?_);show(if g=f then g7 u else mA g)=g9;rw[if_neg q];exact z
theorem Inv.made (I:Inv X pins σ H s):Inv X pins σ (upd (upd H s.heap.objs.size (.own (s.heap.objs.size+1))) (s.heap.objs.size+1) (.ins C s.heap.objs.size []))
  {s with heap:=(s.heap.push PySem.W.emptyDict).push (PySem.W.instObj C s.heap.objs.size)}:=by
 have c:(s.heap.push PySem.W.emptyDict).get? s.heap.objs.size=g7 PySem.W.emptyDict:=Heap.get?_push_size s.heap rfl;have d:((s.heap.push PySem.W.emptyDict).push (PySem.W.instObj C s.heap.objs.size)).get? (s.heap.objs.size+1)=g7 (PySem.W.instObj C s.heap.objs.size):=by
  have:=Heap.get?_push_size (s.heap.push PySem.W.emptyDict) (o:=PySem.W.instObj C s.heap.objs.size) rfl;rwa[Heap.size_push]at this
 have f:(s.heap.push PySem.W.emptyDict).Ns s.heap.objs.size (λ_=>g9):=⟨PySem.W.emptyDict,#[],_,c,rfl,(λe g=>absurd g (by simp)),λ_=>rfl⟩
 have h:=I.laid (a:=s.heap.objs.size) (o:=.own (s.heap.objs.size+1)) (h':=s.heap.push PySem.W.emptyDict) (t':=s.toks) (λb u q=>Heap.get?_push_of_some _ q) (i8 _) ⟨_,c⟩;refine h.laid (a:=s.heap.objs.size+1) (o:=.ins C s.heap.objs.size []) (t':=s.toks) (λb u q=>Heap.get?_push_of_some _ q) (wS (Heap.size_push _ _)) ?_;have ne:s.heap.objs.size≠s.heap.objs.size+1:=j9 (u7 _);refine⟨by rw[i9 ne,l5],u3 _,ne,d,λ_=>g9,(Heap.Ns1.of_empty f).at λo q=>Heap.get?_push_of_some _ q,λ_=>True.intro,λy i=>absurd rfl i⟩
theorem wC(b:v7 e f env (eval e env)=eval e env)
  (h:wpAny (model prog w) A (eval e env) (λo a=>wpAny (model prog w) A (Cy o f h7) Q E a) E s):wpAny (model prog w) A (eval (.Attribute e f pos) env) Q E s:=
 Attribute_any_ h (by rw[arm_eval_Attribute,b])
end
noncomputable def Lf (K:PySem.W.Frag)(b:TE)(f:Str):TE:=λσ H Q=>b σ H λx H1=>∃a C dx fs v,x=.ref a∧H1 a=g7 (.ins C dx fs)∧Cs K C∧eY K C f∧fs.lookup f=g7 v∧Q v H1
noncomputable def Lm (K:PySem.W.Frag)(c d:TE)(f:Str):TS:=λD σ H=>d σ H λy H1=>c σ H1 λx b=>∃a C dx fs,x=.ref a∧b a=g7 (.ins C dx fs)∧Cs K C∧eY K C f∧fs.length<1000∧
 D.nx σ (upd b a (.ins C dx (bO f y fs)))
def JX (X:Cx)(a:Operator)(rd:V→V→Hp→VK→Prop):Prop:=
 ∀(pins:List (Addr×Obj)) (s:Shared) (σ:St) (H:Hp) (x y:V) (u v:Value) (Q:VK),Inv X pins σ H s→RelV x u→RelV y v→rd x y H Q→wpAny (model X.prog X.w) X.A (KG a u v) (EP X pins σ Q) X.xe s
noncomputable def CV (K:PySem.W.Frag)(e g:TE)(rd:V→V→Hp→VK→Prop)(f:Str):TS:=λD σ H=>e σ H λx H1=>∃a C dx fs v,x=.ref a∧H1 a=g7 (.ins C dx fs)∧Cs K C∧eY K C f∧fs.lookup f=g7 v∧
 g σ H1 λy h=>rd v y h λz d=>∃c b,d a=g7 (.ins C c b)∧b.length<1000∧D.nx σ (upd d a (.ins C c (bO f z b)))
section
variable {X:Cx}{o e value:Expr}{f:Str}{pos mP LY:Pos}{ta tv:TE}
theorem tU (b:PE X e ta)(d:v7 e f X.env (eval e X.env)=eval e X.env):PE X (.Attribute e f pos) (Lf X.K ta f):=by
 intro pins s σ H Q I h;refine wC d (F9 (b pins s σ H _ I h) λu s1 ⟨x,H1,g,i,a,C,dx,fs,v,ex,j,c,n,l,q⟩=>?_);subst ex;obtain rfl:u=Value.ref a:=i;exact lS g j c n l λo s2 k m=>⟨v,H1,k,m,q⟩
theorem zI (b:PE X o ta)(d:PE X value tv)(hs:B4 value (g7 (.Attribute o f mP)) pos.line X.env=pure g8):PS X (.Assign [.Attribute o f mP] value pos) (Lm X.K ta tv f):=by
 intro pins s σ H D I h;refine qU (F9 (d pins s σ H _ I h) λu s1 ⟨y,H1,e,g,q⟩=>F9 (b pins s1 σ H1 _ e q) λi s2 ⟨x,t,j,k,a,C,dx,fs,ex,m,c,n,l,p⟩=>?_) hs;subst ex;obtain rfl:i=Value.ref a:=k;exact lg j m c n l g λv r=>⟨σ,_,r,p⟩
theorem xr {e:Operator}{rd:V→V→Hp→VK→Prop}(g:PE X o ta)(i:PE X value tv)(b:JX X e rd):PS X (.AugAssign (.Attribute o f LY) e value pos) (CV X.K ta tv rd f):=by
 intro pins s σ H D I h;refine wpAny_AugAssign_AttributeAny (F9 (g pins s σ H _ I h) λj s1 ⟨x,H1,k,m,a,C,dx,fs,v,ex,p,c,n,l,q⟩=>?_);subst ex;obtain rfl:j=Value.ref a:=m;refine lS k p c n l λu s2 r t=>F9 (i pins s2 σ H1 _ r q) λw A ⟨y,B,E,F,G⟩=>F9 (b pins A σ B v y u w _ E t F G) λR S ⟨z,T,J,rz,L,N,d,O,P⟩=>?_;exact lg J d c n O rz λU Q=>⟨σ,_,Q,P⟩
noncomputable def Lp:V→V→Hp→VK→Prop:=λx y H Q=>∃i j,x=.int i∧y=.int j∧Q (.int (i+j)) H
theorem Hd:JX X .Add Lp:=by
 rintro pins s σ H x y u v Q I rx ry ⟨i,j,rfl,rfl,q⟩
 obtain⟨t,rfl⟩:=(show∃t,u=Value.int i t from rx)
 obtain⟨a,rfl⟩:=(show∃a,v=Value.int j a from ry)
 exact MA ⟨.int (i+j),H,I.tok _,⟨_,rfl⟩,q⟩
end
structure K4 (k:Nat) (A:Around):Prop where
 hd:A.handled=none
 dp:A.depth+3*k+5<Nm
 un:A.units+16*k+200<E7
theorem K4.mono(r:K4 k A)(h:j≤k):K4 j A:=⟨r.hd,by have:=r.dp;omega,by have:=r.un;omega⟩
theorem K4.deeper(r:K4 (k+1) A)(env:Env):K4 k (A.deeper env):=
 ⟨r.hd,by have:=r.dp;show A.depth+1+3*k+5<_;omega,by have:=r.un;show A.units+3+16*k+200<_;omega⟩
theorem uf {A:Around}:(A.under (.builtin "type.__call__" ⟨.ref C::us,a⟩)).depth=A.depth+1:=by
 first|rfl|simp[tH,Code.weight,Code.isCreation,Code.isGuard,Code.isCaller,KP,vf,guardIds]
theorem ue {A:Around}:(A.under (.builtin "type.__call__" ⟨.ref C::us,a⟩)).units=A.units+1:=by
 first|rfl|simp[tH,Code.cUnits,KP,vf]
theorem K4.make(r:K4 (k+1) A)(C:Addr)(us:List Value)(a:List (Str×Value)):K4 k (A.under (.builtin "type.__call__" ⟨.ref C::us,a⟩)):=
 ⟨r.hd,by have:=r.dp;rw[uf];omega,by have:=r.un;rw[ue];omega⟩
theorem K4.depth(r:K4 k A):A.depth<Nm:=by have:=r.dp;omega
theorem K4.units(r:K4 k A):A.units+64<E7:=by have:=r.un;omega
noncomputable def tO:TA:=λ_ H Q=>Q [] H
noncomputable def kX (a:TE)(tr:TA):TA:=λσ H Q=>a σ H λx H1=>tr σ H1 λxs b=>Q (x::xs) b
section
variable {X:Cx}{e:Expr}{es:List Expr}{te:TE}{t:TA}{pos:Pos}
theorem X8:PA X [] tO:=λ_ _ _ _ H Q I h=>de ⟨[],H,I,.nil,h⟩
theorem E9 (a:PE X e te)(hr:PA X es t)(hs:i1 (e::es) X.env=(g8,eval e X.env)::i1 es X.env:=by rfl):PA X (e::es) (kX te t):=by
 intro pos pins s σ H Q I h;rw[hs];show wpAny _ _ (Ke ((g8,eval e X.env)::m4 pos (i1 es X.env))) _ _ s;refine W1 (F9 (a pins s σ H _ I h) λu s1 ⟨x,H1,b,c,d⟩=>?_);exact F9 (hr pos pins s1 σ H1 _ b d) λus s2 ⟨xs,f,g,i,j⟩=>⟨x::xs,f,g,.cons c i,j⟩
noncomputable def IM (t:TA):TE:=λσ H Q=>t σ H λxs H1=>xs.length≤sizeLine∧∀p,H1 p=g9→Q (.ref p) (upd H1 p (.tup xs))
noncomputable def CH (t:TA):TE:=λσ H Q=>t σ H λxs H1=>xs.length≤sizeLine∧∀p,H1 p=g9→Q (.ref p) (upd H1 p (.lst xs))
theorem zM {x1}(h:PA X es t):PE X (.Tuple es x1 pos) (IM t):=by
 intro pins s σ H Q I c;refine wpAny_Tuple_spliced (F9 (h pos pins s σ H _ I c) λus s1 ⟨xs,H1,a,r,z,q⟩=>⟨by rw[←r.length];exact z,?_⟩);have d:H1 s1.heap.objs.size=g9:=a.hok.fresh (i8 _);refine⟨.ref s1.heap.objs.size,upd H1 s1.heap.objs.size (.tup xs),a.laid (t':=s1.toks) (λb u e=>Heap.get?_push_of_some _ e) (i8 _) ?_,rfl,q _ d⟩;exact⟨z,us,r,⟨_,Heap.get?_push_size _ rfl,rfl,_,rfl⟩⟩
theorem pI (h:PA X es t):PE X (.List es pos) (CH t):=by
 intro pins s σ H Q I c;refine wpAny_List_spliced (F9 (h pos pins s σ H _ I c) λus s1 ⟨xs,H1,a,r,z,q⟩=>⟨by rw[←r.length];exact z,?_⟩);have d:H1 s1.heap.objs.size=g9:=a.hok.fresh (i8 _);refine⟨.ref s1.heap.objs.size,upd H1 s1.heap.objs.size (.lst xs),a.laid (t':=s1.toks) (λb u e=>Heap.get?_push_of_some _ e) (i8 _) ?_,rfl,q _ d⟩;exact⟨z,us,0,r,Heap.get?_push_size _ rfl⟩
end
noncomputable abbrev Sp:=List V→Hp→VK→XK→Prop
noncomputable abbrev Ch:=List Env→Hp→Shared→XK→Value→Shared→Prop
structure tt (P:Program) (w:World) (K:PySem.W.Frag) (mg:Str→Option Value) (base:Heap) (A:Around) (outer:List Env) (s:Shared) (H:Hp):Prop where
 frames:A.frames=some outer
 mod:Mod K mg base
 bs:∀b o,base.get? b=some o→s.heap.get? b=some o∧H b=none
 bsz:base.objs.size≤s.heap.objs.size
 iG:s.heap.FunFrames base outer
 frf:∀b∈frs outer,H b=none
 hok:fb P w H s.heap
 bare:fk s.gens
def CE (outer:List Env)(P:Program)(w:World)(H:Hp)(s:Shared)(Q:VK)(u:Value)(a:Shared):Prop:=
 ∃v H',a.os=s.os∧fk a.gens∧Un (frs outer) [] H H' s.heap a.heap∧fb P w H' a.heap∧RelV v u∧Q v H'
def CR (CX:Ch)(outer:List Env)(P:Program)(w:World)(H:Hp)(s:Shared)(Q:VK)(E:XK)(r:ID)(a:Shared):Prop:=
 match r with
 |.ok (.ret u)=>CE outer P w H s Q u a
 |.ok _=>False
 |.error e=>CX outer H s E e a
structure x8 (P:Program) (w:World) (K:PySem.W.Frag) (mg:Str→Option Value) (base:Heap) (CX:Ch) (k:Nat) (f:Addr) (fd:FuncData) (ps:List Str) (sp:Sp):Prop where
 len:∀vs H Q E,sp vs H Q E→vs.length=ps.length
 run:∀(A:Around) (outer:List Env) (s:Shared) (H:Hp) (args:Args) (us:List Value) (vs:List V) (Q:VK) (E:XK),K4 k A→tt P w K mg base A outer s H→vg s fd args (ps.zip us)→Vals vs us→sp vs H Q E→
  aH (model P w) A (.call (.ref f) args) (CR CX outer P w H s Q E) s
theorem x8.imp {P:Program}{w:World}{K:PySem.W.Frag}{mg:Str→Option Value}{base:Heap}{CX:Ch}{k:Nat}{f:Addr}{fd:FuncData}{ps:List Str}{sp a:Sp}(F:x8 P w K mg base CX k f fd ps sp)
  (h:∀vs H Q E,a vs H Q E→sp vs H Q E):x8 P w K mg base CX k f fd ps a:=
 ⟨λvs H Q E q=>F.len vs H Q E (h _ _ _ _ q),λA outer s H args us vs Q E hr b c d hs=>F.run A outer s H args us vs Q E hr b c d (h _ _ _ _ hs)⟩
theorem tt.make {P:Program}{w:World}{K:PySem.W.Frag}{mg:Str→Option Value}{base:Heap}{A:Around}{outer:List Env}{s:Shared}{H:Hp}(e:tt P w K mg base A outer s H)(C:Addr)(us:List Value)(a:List (Str×Value)):
  tt P w K mg base (A.under (.builtin "type.__call__" ⟨.ref C::us,a⟩)) outer s H:=⟨by first|exact e.frames| (simpa[tH,Code.envs,vf,pushEnvs]using e.frames),e.mod,e.bs,e.bsz,e.iG,e.frf,e.hok,e.bare⟩
section
variable {X:Cx}{pins:List (Addr×Obj)}{σ:St}{H:Hp}{s s':Shared}
theorem Inv.Br (I:Inv X pins σ H s):tt X.prog X.w X.K X.mg X.base X.A X.stack s H:=
 ⟨I.ok.frames,I.ok.mod,I.bs,m8 I.ok.bsz I.sz,I.stack,I.vo,I.hok,I.bare⟩
theorem Inv.after(I:Inv X pins σ H s)(h:CE X.stack X.prog X.w H s Q u s'):EP X pins σ Q u s':=by
 obtain⟨v,H',os,bare,un,hok,r,q⟩:=h;obtain⟨c,g,d,t,a⟩:=s';obtain rfl:a=s.os:=os;exact⟨v,H',I.call (h':=c) (g':=g) (d':=d) (t':=t) (ch:=[]) un hok bare (λb z=>absurd z (by simp)),r,q⟩
end
noncomputable def yZ (sp:Sp)(a:List V)(E:XK)(t:TA):TE:=λσ H Q=>t σ H λvs H1=>sp (vs++a) H1 Q E
noncomputable def IR (C:Addr)(sp:Sp)(a:List V)(E:XK)(t:TA):TE:=λσ H Q=>t σ H λvs H1=>∀x dx,H1 x=g9→H1 dx=g9→dx≠x→
 sp (.ref x::(vs++a)) (upd (upd H1 dx (.own x)) x (.ins C dx [])) (λv b=>v=.z5∧Q (.ref x) b) E
def Binds (K:PySem.W.Frag)(fd:FuncData)(ps:List Str)(ds:List Value):Prop:=
 ∀(s:Shared) (us:List Value),K.In s.heap→(us++ds).length=ps.length→vg s fd ⟨us,[]⟩ (ps.zip (us++ds))
theorem Binds.all {K:PySem.W.Frag}{fd:FuncData}{ps:List Str}(h:∀us:List Value,us.length=ps.length→gm fd ⟨us,[]⟩=pure (ps.zip us)):Binds K fd ps []:=λs us _ hl=>by
 rw[List.append_nil]at hl⊢;exact .of_eq (h us hl)
def Passes (CX:Ch)(X:Cx)(E:XK):Prop:=∀(pins:List (Addr×Obj)) (σ:St) (H:Hp) (s:Shared) (e:Value) (a:Shared),Inv X pins σ H s→CX X.stack H s E e a→X.xe e a
section
variable {X:Cx}{CX:Ch}{k:Nat}{f C:Addr}{fd:FuncData}{ps:List Str}{sp:Sp}{Ck:List V}{ds:List Value}{E:XK}{x m:Str}{p pos apos:Pos}{e o:Expr}{es:List Expr}{ta:TE}{t:TA}
theorem Gg(F:x8 X.prog X.w X.K X.mg X.base CX k f fd ps sp)(hr:K4 k X.A)(c:Binds X.K fd ps ds)(hd:Vals Ck ds)(hx:Passes CX X E)
  (I:Inv X pins σ H s) (r:Vals vs us) (h:sp (vs++Ck) H Q E):wpAny (model X.prog X.w) X.A (call (.ref f) us) (EP X pins σ Q) X.xe s:=by
 have b:Vals (vs++Ck) (us++ds):=r.append hd;have hl:(us++ds).length=ps.length:=by rw[←b.length];exact F.len _ _ _ _ h
 refine bL (L9 (F.run X.A X.stack s H ⟨us,[]⟩ (us++ds) (vs++Ck) Q E hr I.Br (c s us I.fD hl) b h) λr d a=>?_);cases r with
 |error e=>exact hx pins σ H s e d I a
 |ok g=>
  cases g with
  |ret u=>exact I.after a
  |next=>exact v6 a
  |brk=>exact v6 a
  |cont=>exact v6 a
theorem Dq (F:x8 X.prog X.w X.K X.mg X.base CX k f fd ps sp)(hr:K4 k X.A)(d:Gl X x)(g:X.mg x=g7 (.ref f))(hk:PySem.W.keepIn X.K (.ref f)=h7)(i:Binds X.K fd ps ds)(hd:Vals Ck ds)(hx:Passes CX X E)
  (j:PA X (e::es) t) (a:(x==("__debug__":Str))=g8:=by decide) (l:i1 (e::es) X.env=(g8,eval e X.env)::i1 es X.env:=by rfl) (b:(m4 pos (i1 es X.env)).any (·.1)=g8:=by rfl):
  PE X (.Call (.Name x p) (e::es) [] pos) (yZ sp Ck E t):=by
 intro pins s σ H Q I h;refine J3 (dC I d g ?_ a);refine PySem.W.callWith_K (h₀:=X.base) I.ok.mod.kin hk (F9 (j pos pins s σ H _ I h) λus s1 ⟨vs,H1,c,r,q⟩=>⟨c.fD,?_⟩) l b;exact Gg F hr i hd hx c r q
structure Mk (K:PySem.W.Frag) (C f:Addr):Prop where
 makes:PySem.W.makesIn K C=true
 init:PySem.W.findIn K (.ref C) "__init__"=some (some (.ref f))
 fn:PySem.W.isFn K (.ref f)=true
 kp:PySem.W.keepIn K (.ref C)=true
theorem zu(M:Mk X.K C f)(F:x8 X.prog X.w X.K X.mg X.base CX k f fd ps sp)(hr:K4 (k+1) X.A)(g:Binds X.K fd ps ds)(hd:Vals Ck ds)
  (hx:Passes CX X E) (I:Inv X pins σ H s) (r:Vals vs us)
  (h:∀x dx,H x=g9→H dx=g9→dx≠x→sp (.ref x::(vs++Ck)) (upd (upd H dx (.own x)) x (.ins C dx [])) (λv i=>v=.z5∧Q (.ref x) i) E):
  wpAny (model X.prog X.w) X.A (call (.ref C) us) (EP X pins σ Q) X.xe s:=by
 have c:=h (s.heap.objs.size+1) s.heap.objs.size (I.hok.fresh (bd _)) (I.hok.fresh (i8 _)) (j9 (u7 _));have b:=Inv.made (C:=C) I;have d:Vals (V.ref (s.heap.objs.size+1)::(vs++Ck)) (Value.ref (s.heap.objs.size+1)::(us++ds)):=.cons rfl (r.append hd);have hl:(Value.ref (s.heap.objs.size+1)::us++ds).length=ps.length:=by
  have e:=d.length;rw[F.len _ _ _ _ c]at e;exact e.symm
 refine bL (Aj (f:=f) I.fD M.makes M.init (beq_iff_eq.mp M.fn) (L9 (F.run _ X.stack _ _ ⟨Value.ref (s.heap.objs.size+1)::us,[]⟩ (Value.ref (s.heap.objs.size+1)::(us++ds)) _ _ E (hr.make C us [])
  (b.Br.make C us []) (g _ (Value.ref (s.heap.objs.size+1)::us) b.fD hl) d c) λr j a=>?_))
 cases r with
 |error e=>exact hx pins σ _ _ e j b a
 |ok l=>
  cases l with
  |ret u=>
   obtain⟨v,H',m,n,o,p⟩:=b.after a;subst o;exact⟨n,⟨V.ref (s.heap.objs.size+1),H',m,rfl,p⟩⟩
  |next=>exact v6 a
  |brk=>exact v6 a
  |cont=>exact v6 a
theorem Do (M:Mk X.K C f)(F:x8 X.prog X.w X.K X.mg X.base CX k f fd ps sp)(hr:K4 (k+1) X.A)(d:Gl X x)(g:X.mg x=g7 (.ref C))(i:Binds X.K fd ps ds)(hd:Vals Ck ds)(hx:Passes CX X E)
  (j:PA X (e::es) t) (a:(x==("__debug__":Str))=g8:=by decide) (l:i1 (e::es) X.env=(g8,eval e X.env)::i1 es X.env:=by rfl) (b:(m4 pos (i1 es X.env)).any (·.1)=g8:=by rfl):
  PE X (.Call (.Name x p) (e::es) [] pos) (IR C sp Ck E t):=by
 intro pins s σ H Q I h;refine J3 (dC I d g ?_ a);refine PySem.W.callWith_K (h₀:=X.base) I.ok.mod.kin M.kp (F9 (j pos pins s σ H _ I h) λus s1 ⟨vs,H1,c,r,q⟩=>⟨c.fD,?_⟩) l b;exact zu M F hr i hd hx c r q
end
structure n4 (N P:List Str) (sc:Scope):Prop where
 kind:sc.kind=.function
 co:sc.isCoroutine=false
 gen:sc.isGenerator=false
 nd:N.Nodup
 pre:N.take P.length=P
 par:∀x∈P,sc.names.lookup x=some .local∨sc.names.lookup x=some .cell
 nofree:∀y∈sc.names,y.2≠.free
theorem oR {kindOf:Str→Option NameKind}{x:Str}:∀{a:List (Str×Value)} {m:Str→Option Value},(∀v,(x,v)∉a)→Cn kindOf a m x=m x
 | [],_,_=>rfl
 | (n,v)::r,m,h=>by
  unfold Cn;rw[oR λw b=>h w (List.mem_cons_of_mem _ b)];split
  ·have:x≠n:=by rintro rfl;exact h v List.mem_cons_self
   simp[this]
  ·rfl
theorem oU {kindOf:Str→Option NameKind}{x:Str}:∀{a:List (Str×Value)} {m:Str→Option Value},(∀v,(x,v)∉a)→Co kindOf a m x=m x
 | [],_,_=>rfl
 | (n,v)::r,m,h=>by
  unfold Co;rw[oU λw b=>h w (List.mem_cons_of_mem _ b)];split
  ·rfl
  ·have:x≠n:=by rintro rfl;exact h v List.mem_cons_self
   simp[this]
theorem oS {kindOf:Str→Option NameKind}{x:Str}{v:Value}:∀{P:List Str} {vs:List Value} {i:Nat} {m:Str→Option Value},P.Nodup→P[i]?=g7 x→vs[i]?=g7 v→kindOf x=g7 .local→
  Cn kindOf (P.zip vs) m x=g7 v
 | [],_,_,_,_,h,_,_=>by simp at h
 |_::_,[],_,_,_,_,h,_=>by simp at h
 |p::P,w::vs,0,m,nd,a,b,hk=>by
  simp at a b;subst a;subst b;show Cn kindOf ((p,w)::P.zip vs) m p=_;unfold Cn;rw[oR λv c=>(List.nodup_cons.mp nd).1 (List.of_mem_zip c).1,if_pos hk];simp
 |p::P,w::vs,i+1,m,nd,a,b,hk=>by
  show Cn kindOf ((p,w)::P.zip vs) m x=_;unfold Cn;exact oS (i:=i) (List.nodup_cons.mp nd).2 (by simpa using a) (by simpa using b) hk
theorem oV {kindOf:Str→Option NameKind}{x:Str}{v:Value}:∀{P:List Str} {vs:List Value} {i:Nat} {m:Str→Option Value},P.Nodup→P[i]?=g7 x→vs[i]?=g7 v→kindOf x≠g7 .local→
  Co kindOf (P.zip vs) m x=g7 v
 | [],_,_,_,_,h,_,_=>by simp at h
 |_::_,[],_,_,_,_,h,_=>by simp at h
 |p::P,w::vs,0,m,nd,a,b,hk=>by
  simp at a b;subst a;subst b;show Co kindOf ((p,w)::P.zip vs) m p=_;unfold Co;rw[oU λv c=>(List.nodup_cons.mp nd).1 (List.of_mem_zip c).1,if_neg hk];simp
 |p::P,w::vs,i+1,m,nd,a,b,hk=>by
  show Co kindOf ((p,w)::P.zip vs) m x=_;unfold Co;exact oV (i:=i) (List.nodup_cons.mp nd).2 (by simpa using a) (by simpa using b) hk
noncomputable def start (N:List Str)(vs:List V):St:=vs.map g7++List.replicate (N.length-vs.length) g9
noncomputable def X5 (CX:Ch)(P:Program)(w:World)(K:PySem.W.Frag)(mg:Str→Option Value)(base:Heap)(N:List Str)(qual:Str)(scope:Scope)(f:Addr)(cd:Value)(A:Around)(outer:List Env)(s:Shared)(H:Hp)(E:XK):Cx where
 prog:=P
 w:=w
 K:=K
 mg:=mg
 base:=base
 A:=A.deeper (Z2 qual scope s.heap.objs.size f cd)
 N:=N
 s₀:=s
 H₀:=H
 env:=Z2 qual scope s.heap.objs.size f cd
 outer:=outer
 stack:=Z2 qual scope s.heap.objs.size f cd::outer
 ex:=[]
 calm:=h7
 fn:=λ_=>h7
 pn:=[]
 xe:=λe b=>wpAny (model P w) (A.deeper (Z2 qual scope s.heap.objs.size f cd)) (Cw (Z2 qual scope s.heap.objs.size f cd) e) (λ_ a=>CX outer H s E e a) (λc a=>CX outer H s E c a) b
theorem sX {sc:Scope}(h:sc.names.lookup x=g7 .cell):∃c,(cellsFrom n sc.names []).lookup x=g7 c:=by
 have q:=PySem.W.cellsFrom_some sc.names n [] (.inl h);exact Option.isSome_iff_exists.mp q
theorem oA {CX:Ch}{P:Program}{w:World}{K:PySem.W.Frag}{mg:Str→Option Value}{base:Heap}{N ps:List Str}{qual:Str}{scope:Scope}{f:Addr}{cd:Value}{A:Around}{outer:List Env}{s s1:Shared}{H:Hp}{E:XK}{us:List Value}{vs:List V}
  (S:n4 N ps scope) (hd:A.handled=g9) (g:tt P w K mg base A outer s H) (hl:vs.length=ps.length) (r:Vals vs us)
  (x:InCallC s s.heap.objs.size (Cn (Z2 qual scope s.heap.objs.size f cd).kindOf (ps.zip us) λ_=>g9) (cellsFrom (s.heap.objs.size+1) scope.names []) (Co (Z2 qual scope s.heap.objs.size f cd).kindOf (ps.zip us) λ_=>g9) s1):
  Inv (X5 CX P w K mg base N qual scope f cd A outer s H E) [] (start N vs) H s1:=by
 have F:ps.length≤N.length:=by have:=congrArg List.length S.pre;rw[List.length_take]at this;omega
 obtain⟨t,J,rfl,hk⟩:=x.done;have j:∀b:Addr,b∉(X5 CX P w K mg base N qual scope f cd A outer s H E).ex:=λb z=>absurd (show b∈([]:List Addr)from z) (by simp);refine⟨⟨g.mod,S.kind,rfl,rfl,i8 _,λy z c t d=>?_,λy l=>?_,λy c _ h=>?_,λ_=>hd,Around.frames_deeper g.frames,.inr ⟨rfl,rfl⟩,λb z=>absurd z (j b),g.bs,g.bsz,λb _ _=>j b,λb z=>absurd z (j b),g.iG,g.frf⟩,
  rfl,g.bare,Un.kept hk,⟨_,x.toInCall.ns,λi y v t d L=>?_⟩,λy c h=>⟨_,x.cell y c h⟩,g.hok.fresh (i8 _),λy c h=>?_,λp m=>absurd (show p∈([]:List (Addr×Obj))from m) (by simp),g.hok.kept hk,?_⟩
 ·exact OL x.apart (PySem.mem_of_lookup t) (PySem.mem_of_lookup d)
 ·have l:scope.names.lookup y=g7 .cell∨scope.names.lookup y=g7 .free:=l;rcases l with l|l
  ·exact sX l
  ·exact absurd rfl (S.nofree _ (PySem.mem_of_lookup l))
 ·exact cv (x.above y c (PySem.mem_of_lookup h))
 ·have hi:i<vs.length:=by
   unfold start at d;by_cases hi:i<vs.length
   ·exact hi
   ·rw[List.getElem?_append_right (by simpa using hi)]at d;rw[List.getElem?_replicate]at d;split at d<;>cases d
  have G:vs[i]?=g7 v:=by
   unfold start at d;rw[List.getElem?_append_left (by simpa using hi),List.getElem?_map]at d;cases e:vs[i]? with
   |none=>rw[e]at d;cases d
   |some a=>rw[e]at d;cases d;rfl
  obtain⟨u,B,I⟩:=r.get G;have m:ps[i]?=g7 y:=by
   rw[←S.pre,List.getElem?_take_of_lt (by omega)];exact t
  have o:ps.Nodup:=by rw[←S.pre];exact S.nd.sublist (List.take_sublist _ _)
  refine⟨u,I,?_⟩;rcases S.par y (List.mem_of_getElem? m)with k|k
  ·exact .inl ⟨k,oS o m B k⟩
  ·obtain⟨c,e⟩:=sX (n:=s.heap.objs.size+1) k;refine .inr ⟨.inl k,c,e,?_⟩;have q:=x.cell y c e;rw[oV o m B (by show scope.names.lookup y≠_;rw[k];decide)]at q;exact q
 ·exact g.hok.fresh (cv (x.above y c (PySem.mem_of_lookup h)))
 ·unfold start;show _=N.length;rw[List.length_append,List.length_map,List.length_replicate];omega
theorem JA {CX:Ch}{P:Program}{w:World}{K:PySem.W.Frag}{mg:Str→Option Value}{base:Heap}{k:Nat}{f:Addr}{name qual:Str}{a:Arguments}{c:List Stmt}{scope:Scope}{B kV doc pm cdv ct oc:Value}{an od:Option Addr}
  {osl:Array (Option Value)} {N ps:List Str} {sp:Sp} (lk:K.lookup f=g7 ⟨oc,od,.func (PySem.W.fnOf name qual a c scope B kV doc pm an cdv ct),osl⟩) (l:PySem.W.codeIn K cdv qual=h7) (S:n4 N ps scope)
  (len:∀vs H Q E,sp vs H Q E→vs.length=ps.length)
  (g:∀(A:Around) (outer:List Env) (s:Shared) (H:Hp) (vs:List V) (Q:VK) (E:XK),K4 k (A.deeper (Z2 qual scope s.heap.objs.size f cdv))→sp vs H Q E→
   ∃t,nQ (X5 CX P w K mg base N qual scope f cdv A outer s H E) c t∧t {nx:=λ_ H'=>Q .z5 H',rt:=Q} (start N vs) H):
  x8 P w K mg base CX (k+1) f (PySem.W.fnOf name qual a c scope B kV doc pm an cdv ct) ps sp:=by
 refine⟨len,λA outer s H args us vs Q E hr i G r j=>?_⟩;have hl:=len _ _ _ _ j;have F:K.In s.heap:=i.mod.kin.keeps λb o e=>(i.bs b o e).1;have m:s.heap.NoLimit:=i.mod.nolimit.keeps λb o e=>(i.bs b o e).1;have h:∀y∈ps.zip us,scope.names.lookup y.1=g7 .local∨(scope.names.lookup y.1=g7 .cell∧((cellsFrom (s.heap.objs.size+1) scope.names []).lookup y.1).isSome=h7):=λ⟨n,v⟩ L=>by
  rcases S.par n (List.of_mem_zip L).1 with q|q
  ·exact .inl q
  ·exact .inr ⟨q,PySem.W.cellsFrom_some _ _ _ (.inl q)⟩
 refine EL hr.depth (F _ _ lk) rfl S.co S.gen rfl (PySem.W.codeRec_of F l) (G _ _ _ _ ?_);refine wM S.kind h λenv O s1 x=>?_;subst O;refine⟨m.keeps x.toInCall.keep,ON ?_⟩;obtain⟨t,R,T⟩:=g A outer s H vs Q E (hr.deeper _) j;have I:Inv (X5 CX P w K mg base N qual scope f cdv A outer s H E) [] (start N vs) H s1:=oA S hr.hd i hl r x;refine wpAny_mono (R [] s1 (start N vs) H _ I T) (λU p hs=>?_) λe p hs=>hs;have fin:∀{d:St} {H':Hp} {v:V} {u:Value},Inv (X5 CX P w K mg base N qual scope f cdv A outer s H E) [] d H' p→RelV v u→Q v H'→CE outer P w H s Q u p:=
  λ{d H' v u} J z q=>⟨v,H',J.os,J.bare,J.base,J.hok,z,q⟩
 cases U with
 |ret u=>
  obtain⟨v,d,H',J,z,q⟩:=hs;exact fin J z q
 |next=>
  obtain⟨d,H',J,q⟩:=hs;exact fin (v:=V.z5) (u:=Value.none) J rfl q
 |brk=>
  obtain⟨_,_,_,q⟩:=hs;exact v6 q
 |cont=>
  obtain⟨_,_,_,q⟩:=hs;exact v6 q
section
variable {X:Cx}{x:Str}{p pos:Pos}{e:Expr}{es:List Expr}{t:TA}{id T:String}{r:List V→Hp→VK→Prop}
noncomputable def Kn (r:List V→Hp→VK→Prop)(t:TA):TE:=λσ H Q=>t σ H λvs H1=>r vs H1 Q
theorem im (c:E6 X (.builtin id) r)(d:Gl X x)(f:X.mg x=g9)(g:M0 x=g7 (.builtin id))(i:PA X (e::es) t)(j:x≠"__name__":=by decide) (a:(x==("__debug__":Str))=g8:=by decide)
  (k:i1 (e::es) X.env=(g8,eval e X.env)::i1 es X.env:=by rfl) (b:(m4 pos (i1 es X.env)).any (·.1)=g8:=by rfl):PE X (.Call (.Name x p) (e::es) [] pos) (Kn r t):=by
 intro pins s σ H Q I h;refine J3 (jh I d f g ?_ j a);exact gS (F9 (i pos pins s σ H _ I h) λus s1 ⟨vs,H1,l,m,n⟩=>c pins s1 σ H1 vs us Q l m n) k b
theorem xx (c:E6 X (.type T) r)(d:Gl X x)(f:X.mg x=g9)(g:M0 x=g7 (.type T))(i:PA X (e::es) t)(j:x≠"__name__":=by decide) (a:(x==("__debug__":Str))=g8:=by decide)
  (k:i1 (e::es) X.env=(g8,eval e X.env)::i1 es X.env:=by rfl) (b:(m4 pos (i1 es X.env)).any (·.1)=g8:=by rfl):PE X (.Call (.Name x p) (e::es) [] pos) (Kn r t):=by
 intro pins s σ H Q I h;refine J3 (jh I d f g ?_ j a);exact ak (F9 (i pos pins s σ H _ I h) λus s1 ⟨vs,H1,l,m,n⟩=>c pins s1 σ H1 vs us Q l m n) k b
end
end L2
namespace HT
open PySem PyProof.Rows
section
variable {prog:Program}{w:World}{A:Around}{E:Value→Shared→Prop}{s:Shared}
noncomputable def C8 (n d:Nat):Option Int→Nat
 |none=>d
 |some v=>if v<0 then(v+(n:Int)).toNat else min v.toNat n
theorem lm (n d:Nat):C8 n d g9=d:=rfl
theorem vr (n d k:Nat):C8 n d (g7 (k:Int))=min k n:=by
 show(if(k:Int)<0 then((k:Int)+(n:Int)).toNat else min (k:Int).toNat n)=min k n;rw[if_neg (by omega),EN]
theorem zr (n d:Nat)(hd:d≤n)(o:Option Int):C8 n d o≤n:=by
 cases o with
 |none=>exact hd
 |some v=>
  show(if v<0 then(v+(n:Int)).toNat else min v.toNat n)≤n;by_cases a:v<0
  ·rw[if_pos a];omega
  ·rw[if_neg a];exact Nat.min_le_right _ _
theorem wA (v:Int)(n d:Nat):(if v<0 then max (v+(n:Int)) 0 else min v (n:Int))=((C8 n d (g7 v):Nat):Int):=by
 show(if v<0 then max (v+(n:Int)) 0 else min v (n:Int))=(((if v<0 then(v+(n:Int)).toNat else min v.toNat n):Nat):Int)
 by_cases a:v<0
 ·simp only[if_pos a];omega
 ·simp only[if_neg a];omega
theorem uV (lo hi:Option Int)(n:Nat):aJ lo hi 1 (n:Int)=(((C8 n 0 lo:Nat):Int),((C8 n n hi:Nat):Int)):=by
 have a:¬((1:Int)<0):=by omega
 unfold aJ;simp only[a,if_false];refine yC ?_ ?_
 ·cases lo with
  |none=>rfl
  |some v=>exact wA v n 0
 ·cases hi with
  |none=>rfl
  |some v=>exact wA v n n
theorem tT (i j:Nat):O1 (i:Int) (j:Int) 1=j-i:=by
 unfold O1;have a:(1:Int)>0:=by omega
 simp only[a,if_true,Int.ediv_one];split<;>omega
theorem lc(p:IsPart v o)(h:Q o s):wpAny (model prog w) A (KR v) Q E s:=by
 cases p with
 |none=>exact Nj h
 |int i t=>exact slicePart_int h
theorem cK {sl:Addr}{c d:Value}{lo hi:Option Int}{n:Nat}{Q:Int×Int×Nat→Shared→Prop}(hs:s.heap.IsSliceOf sl c d .none)(e:IsPart c lo)(f:IsPart d hi)
  (h:Q (((C8 n 0 lo:Nat):Int),1,C8 n n hi-C8 n 0 lo) s):wpAny (model prog w) A (iZ (.ref sl) (pure (n:Int))) Q E s:=by
 obtain⟨os,a,g,b⟩:=id hs;unfold iZ KS;refine wpAny_bind (wpAny_bind (x2 a b (x:=c) rfl (wpAny_bind (x2 a b (x:=d) rfl (wpAny_bind (x2 a b (x:=.none) rfl (i6 ?_)))))));refine wpAny_bind (Nj ?_);show wpAny _ _ (if((1:Int)==0)=h7 then _ else _) _ _ s;rw[if_neg (by decide)];refine wpAny_bind (lc e (wpAny_bind (lc f (wpAny_bind (i6 ?_)))));show wpAny _ _ (match aJ lo hi 1 (n:Int)with| (lo,hi)=>pure (lo,(1:Int),O1 lo hi 1)) _ _ s;rw[uV lo hi n];show wpAny _ _ (pure (((C8 n 0 lo:Nat):Int),(1:Int),O1 ((C8 n 0 lo:Nat):Int) ((C8 n n hi:Nat):Int) 1)) _ _ s;rw[tT];exact i6 h
theorem zL (xs:Array Value)(i k:Nat):((List.range k).filterMap λ(m:Nat)=>xs[((i:Int)+(m:Int)*1).toNat]?).toArray=((xs.toList.drop i).take k).toArray:=by
 have e:(λ(m:Nat)=>xs[((i:Int)+(m:Int)*1).toNat]?)=λm=>xs[i+m]?:=by
  funext m;have:((i:Int)+(m:Int)*1).toNat=i+m:=by omega
  rw[this]
 rw[e];have:=pick_run xs i k;rw[List.filterMap_map]at this;have a:((λx=>xs[x]?)∘λx=>i+x)=λm=>xs[i+m]?:=rfl;rw[a]at this;rw[this]
theorem iF {t sl:Addr}{a:Array Value}{i j:Value}{lo hi:Option Int}{Q:Value→Shared→Prop}(c:Ki s.heap t a)(hs:s.heap.IsSliceOf sl i j .none)(k:IsPart i lo)(l:IsPart j hi)
  (n:¬(C8 a.size 0 lo=0∧C8 a.size a.size hi=a.size))
  (h:Q (.ref s.heap.objs.size) {s with heap:=s.heap.push {cls:=.type "tuple",data:=.seq ((a.toList.drop (C8 a.size 0 lo)).take (C8 a.size a.size hi-C8 a.size 0 lo)).toArray}})
  (o:a.size≤sizeLine):wpAny (model prog w) A (gW (.ref t) (.ref sl)) Q E s:=by
 have b:sizeOk (.seq ((a.toList.drop (C8 a.size 0 lo)).take (C8 a.size a.size hi-C8 a.size 0 lo)).toArray):=by
  show((a.toList.drop (C8 a.size 0 lo)).take (C8 a.size a.size hi-C8 a.size 0 lo)).toArray.size≤sizeLine;rw[List.size_toArray,List.length_take,List.length_drop,U4];omega
 have r:C8 a.size a.size hi≤a.size:=zr _ _ (i8 _) hi;obtain⟨os,d,e,p⟩:=id hs;have f:s.TypeIs (.ref sl) "slice":=⟨os,d,e⟩
 unfold gW;try with_reducible refine x0 ?_
 first|refine wpAny_bind (i6 ?_) |skip
 refine wpAny_bind (Kb c.typeIs (by decide) ?_);refine wpAny_bind (aj (name:=Str.ofString "__getitem__") c.typeIs v9
  (bK v9 c.typeIs entry_tuple_getitem ?_ (args_tuple_getitem _ _)))
 show wpAny _ _ (iY (.ref t) >>= _) _ _ s;refine wpAny_bind (tupleItemsOf_ c ?_);refine wpAny_bind (aF f ?_);rw[if_pos (by decide)];refine wpAny_bind (cK hs k l ?_);have g:¬((((C8 a.size 0 lo:Nat):Int)==0&&(1:Int)==1&&(C8 a.size a.size hi-C8 a.size 0 lo)==a.size)=h7):=by
  intro q;rw[l8,l8]at q;have u:((C8 a.size 0 lo:Nat):Int)=0:=eq_of_beq q.1.1;have v:C8 a.size a.size hi-C8 a.size 0 lo=a.size:=eq_of_beq q.2;exact n ⟨by omega,by omega⟩
 show wpAny _ _ (if(((C8 a.size 0 lo:Nat):Int)==0&&(1:Int)==1&&(C8 a.size a.size hi-C8 a.size 0 lo)==a.size)=h7 then _ else _) _ _ s;rw[if_neg g,zL];first
  |exact wpAny_bind (m:=P6 _) (T4 (i6 ⟨_,rfl,i6 h⟩) b)
  |exact wpAny_bind (m:=P6 _) (T4 (wpAny_bind (i6 (i6 ⟨_,rfl,i6 h⟩))) b)
  |exact wpAny_bind (wpAny_bind (m:=P6 _) (T4 (i6 (i6 ⟨_,rfl,i6 h⟩)) b))
  |exact wpAny_bind (wpAny_bind (m:=P6 _) (T4 (i6 ⟨_,rfl,i6 h⟩) b))
end
end HT
namespace L2
open PySem PySem.Spec PyProof.Rows
noncomputable abbrev TO:=St→Hp→(Option Int→Hp→Prop)→Prop
def PO (X:Cx)(e:Option Expr)(t:TO):Prop:=
 ∀(pins:List (Addr×Obj)) (s:Shared) (σ:St) (H:Hp) (Q:Option Int→Hp→Prop),Inv X pins σ H s→t σ H Q→
  wpAny (model X.prog X.w) X.A (evalPart e X.env) (λu a=>∃o H',Inv X pins σ H' a∧IsPart u o∧Q o H') X.xe s
noncomputable def CG:TO:=λ_ H Q=>Q g9 H
noncomputable def IN (t:TE):TO:=λσ H Q=>t σ H λx H1=>∃i,x=.int i∧Q (g7 i) H1
theorem intsAre_of {ns:List Int}:∀{us:List Value},Vals (ns.map V.int) us→IntsAre us ns:=by
 induction ns with
 |nil=>intro us r;rw[List.map_nil]at r;cases r;exact .nil
 |cons n ns ih=>
  intro us r;rw[List.map_cons]at r;cases r with
  |cons a b=>
   obtain⟨t,e⟩:=a;subst e;exact .cons n t (ih b)
section
variable {X:Cx}{e:Expr}{te:TE}{lo hi:Option Expr}{tl th:TO}{pos p2:Pos}
theorem Dj:PO X g9 CG:=by
 intro pins s σ H Q I h;rw[NT];exact i6 ⟨g9,H,I,.none,h⟩
theorem Di (h:PE X e te):PO X (g7 e) (IN te):=by
 intro pins s σ H Q I a;rw[evalPart_some];refine F9 (h pins s σ H _ I a) λu s1 ⟨x,H1,b,c,d⟩=>?_;obtain⟨i,rfl,q⟩:=d;obtain⟨t,rfl⟩:=c;exact⟨g7 i,H1,b,.int i t,q⟩
def Cb (X:Cx)(r:V→Option Int→Option Int→Hp→VK→Prop):Prop:=
 ∀(pins:List (Addr×Obj)) (s:Shared) (σ:St) (H:Hp) (x:V) (v a b:Value) (lo hi:Option Int) (sl:Addr) (Q:VK),Inv X pins σ H s→RelV x v→s.heap.IsSliceOf sl a b .none→IsPart a lo→IsPart b hi→r x lo hi H Q→
  ∃T id,ee (.type T) "__getitem__"=pure (g7 (.builtin id))∧s.TypeIs v T∧wpAny (model X.prog X.w) X.A (gW v (.ref sl)) (EP X pins σ Q) X.xe s
theorem Cb.or(h:Cb X r)(h':Cb X a):Cb X (λx lo hi H Q=>r x lo hi H Q∨a x lo hi H Q):=by
 intro pins s σ H x v b c lo hi sl Q I d hs e f q;rcases q with q|q
 ·exact h pins s σ H x v b c lo hi sl Q I d hs e f q
 ·exact h' pins s σ H x v b c lo hi sl Q I d hs e f q
noncomputable def Nz (r:V→Option Int→Option Int→Hp→VK→Prop)(te:TE)(tl th:TO):TE:=λσ H Q=>te σ H λx H1=>tl σ H1 λl a=>th σ a λu b=>r x l u b Q
theorem zN(hr:Cb X r)(g:PE X e te)(hl:PO X lo tl)(i:PO X hi th):PE X (.Subscript e (.Slice lo hi g9 p2) pos) (Nz r te tl th):=by
 intro pins s σ H Q I h;refine Subscript_ (F9 (g pins s σ H _ I h) λv s1 ⟨x,H1,j,k,m⟩=>?_);refine wpAny_Slice (F9 (hl pins s1 σ H1 _ j m) λc s2 ⟨l,n,o,p,t⟩=>F9 (i pins s2 σ n _ o t) λd a ⟨u,f,y,z,B⟩=>?_);rw[NT];refine i6 ?_;have E:Inv X pins σ f {a with heap:=a.heap.push {cls:=.type "slice",data:=.fields #[c,d,.none]}}:=y.kept (t':=a.toks) λb ob q=>Heap.get?_push_of_some _ q;obtain⟨T,id,F,G,J⟩:=hr pins {a with heap:=a.heap.push {cls:=.type "slice",data:=.fields #[c,d,.none]}} σ f x v c d l u a.heap.objs.size Q E k (Heap.IsSliceOf.new ..) p z B;show wpAny (model X.prog X.w) X.A (NQ e (.Slice lo hi g9 p2) v (.ref a.heap.objs.size)) (EP X pins σ Q) X.xe {a with heap:=a.heap.push {cls:=.type "slice",data:=.fields #[c,d,.none]}};exact Ni (ops:=[.ref a.heap.objs.size,v]) G F J (by with_unfolding_all rfl)
noncomputable def nL (xs:List V)(lo hi:Option Int):List V:=(xs.drop (HT.C8 xs.length 0 lo)).take (HT.C8 xs.length xs.length hi-HT.C8 xs.length 0 lo)
theorem jU (xs:List V)(lo hi:Option Int):(nL xs lo hi).length≤xs.length:=by
 unfold nL;rw[List.length_take,List.length_drop];omega
noncomputable def Jd (K:PySem.W.Frag):V→Option Int→Option Int→Hp→VK→Prop:=λx lo hi H Q=>∃a xs,x=.ref a∧bJ K H a xs∧
 ¬(HT.C8 xs.length 0 lo=0∧HT.C8 xs.length xs.length hi=xs.length)∧∀p,H p=g9→Q (.ref p) (upd H p (.tup (nL xs lo hi)))
theorem FY:Cb X (Jd X.K):=by
 intro pins s σ H x v l m lo hi sl Q I g hs i j h;obtain⟨a,xs,rfl,hx,k,q⟩:=h;cases g;obtain⟨d,r,e,f⟩:=I.tuple hx;have c:d.toArray.size=xs.length:=by rw[List.size_toArray];exact r.length.symm
 refine⟨"tuple",_,v9.lookup,e.typeIs,?_⟩;refine HT.iF e hs i j (by rw[c];exact k) ?_ (by rw[c];exact f);rw[c];refine⟨.ref s.heap.objs.size,_,I.laid (t':=s.toks) (o:=.tup (nL xs lo hi)) (λb ob q=>Heap.get?_push_of_some _ q) (i8 _) ?_,rfl,q _ (I.hok.fresh (i8 _))⟩;exact⟨m8 (jU xs lo hi) f,_,(r.drop (HT.C8 xs.length 0 lo)).take (HT.C8 xs.length xs.length hi-HT.C8 xs.length 0 lo),MS _ _⟩
end
noncomputable def yF (n:Nat)(i:Int):Option Nat:=if 0≤i then(if i<n then g7 i.toNat else g9)else if -(n:Int)≤i then g7 (i+n).toNat else g9
noncomputable def eW {α:Type}(xs:List α)(i:Int):Option α:=(yF xs.length i).bind λj=>xs[j]?
theorem vS(h:yF n i=g7 j):seqIndex? i n=g7 j∧j<n∧-(n:Int)≤i∧i<n:=by
 unfold yF at h;by_cases b:0≤i
 ·rw[if_pos b]at h;by_cases a:i<n
  ·rw[if_pos a]at h;have e:i.toNat=j:=Option.some.inj h;exact⟨by rw[FA b a,e],by omega,by omega,a⟩
  ·rw[if_neg a]at h;cases h
 ·rw[if_neg b]at h;by_cases a:-(n:Int)≤i
  ·rw[if_pos a]at h;have e:(i+n).toNat=j:=Option.some.inj h;exact⟨by rw[Cv (by omega) a,e],by omega,a,by omega⟩
  ·rw[if_neg a]at h;cases h
theorem qM {α:Type}{xs:List α}{i:Int}{v:α}(h:eW xs i=g7 v):∃j,seqIndex? i xs.length=g7 j∧xs[j]?=g7 v∧j<xs.length∧-(xs.length:Int)≤i∧i<xs.length:=by
 unfold eW at h;cases e:yF xs.length i with
 |none=>rw[e]at h;cases h
 |some j=>
  rw[e]at h;obtain⟨a,b,c,d⟩:=vS e;exact⟨j,a,h,b,c,d⟩
theorem kN {α:Type}{xs:List α}{j:Nat}{v:α}(h:xs[j]?=g7 v):eW xs (j:Int)=g7 v:=by
 have a:j<xs.length:=(List.getElem?_eq_some_iff.mp h).1;have e:yF xs.length (j:Int)=g7 j:=by
  unfold yF;rw[if_pos (by omega),if_pos (by omega)];simp
 unfold eW;rw[e];exact h
theorem mH {α:Type}(xs:List α)(v:α):eW (xs++[v]) (-1)=g7 v:=by
 have hl:(xs++[v]).length=xs.length+1:=by simp
 have e:yF (xs++[v]).length (-1)=g7 xs.length:=by
  unfold yF;rw[hl,if_neg (by decide),if_pos (by omega)];congr 1;omega
 unfold eW;rw[e];show(xs++[v])[xs.length]?=g7 v;simp
def fL (b:Expr):Prop:=∀o i,subscripted b g8 o i=operate [o,i] (gW o i)
def Cd (X:Cx)(r:R2):Prop:=
 ∀(b a:Expr) (pins:List (Addr×Obj)) (s:Shared) (σ:St) (H:Hp) (x y:V) (v u:Value) (Q:VK),Inv X pins σ H s→RelV x v→RelV y u→r x y H Q→
  subscripted a g8 v u=operate [v,u] (gW v u)→wpAny (model X.prog X.w) X.A (NQ b a v u) (EP X pins σ Q) X.xe s
def NI (X:Cx)(id:String)(r:V→List V→Hp→VK→Prop):Prop:=
 ∀(pins:List (Addr×Obj)) (s:Shared) (σ:St) (H:Hp) (x:V) (xs:List V) (v:Value) (us:List Value) (Q:VK),Inv X pins σ H s→RelV x v→Vals xs us→r x xs H Q→
  wpAny (model X.prog X.w) X.A (call (.builtin id) (v::us)) (EP X pins σ Q) X.xe s
section
variable {X:Cx}{a b:Expr}{ta tb:TE}{pos:Pos}
theorem Cd.or(h:Cd X r)(h':Cd X c):Cd X (λx y H Q=>r x y H Q∨c x y H Q):=by
 intro a b pins s σ H x y v u Q I d e q hs;rcases q with q|q
 ·exact h a b pins s σ H x y v u Q I d e q hs
 ·exact h' a b pins s σ H x y v u Q I d e q hs
theorem rJ(hr:Cd X r)(c:PE X a ta)(d:PE X b tb)(hs:fL b):PE X (.Subscript a b pos) (ES r ta tb):=by
 intro pins s σ H Q I h;exact Subscript_ (HI c d I h λv u s2 x y e f g i q=>hr a b pins s2 σ e x y v u Q f g i q (hs _ _))
noncomputable def zA (K:PySem.W.Frag):R2:=λx y H Q=>∃p xs i v,x=.ref p∧y=.int i∧T9 K H p xs∧eW xs i=g7 v∧Q v H
noncomputable def Dc (K:PySem.W.Frag):R2:=λx y H Q=>∃p xs i v,x=.ref p∧y=.int i∧bJ K H p xs∧eW xs i=g7 v∧Q v H
noncomputable def Jg:R2:=λx y H Q=>∃z i c,x=.str z∧y=.int i∧z.length≤sizeLine∧eW z.cps.toList i=g7 c∧Q (.str ⟨#[c]⟩) H
theorem kH:Cd X (zA X.K):=by
 intro b c pins s σ H x y v u Q I m n h hs;obtain⟨p,xs,i,z,rfl,rfl,o,A,q⟩:=h;cases m;obtain⟨t,rfl⟩:=n;obtain⟨d,r,e,J⟩:=I.list o;obtain⟨j,a,B,L,E,F⟩:=qM A;obtain⟨w,k,f⟩:=r.get B;have hl:=r.length;have N:=gD;have fin:EP X pins σ Q w s:=⟨z,H,I,f,q⟩
 by_cases l:0≤i
 ·have g:i.toNat=j:=by
   rw[FA l F]at a;exact Option.some.inj a
  exact item_listR e.isList l (by omega) (by rw[g];simpa using k) fin hs
 ·have g:(i+(d.toArray.size:Int)).toNat=j:=by
   rw[Cv (by omega) E]at a;rw[List.size_toArray,←hl];exact Option.some.inj a
  exact Cu (x:=w) e.isList.typeIs Kf.lookup
   (wpAny_getItem_list_neg (Q:=λr G=>r=w∧EP X pins σ Q r G) e.isList (by omega) (by rw[List.size_toArray]<;>omega) (by omega) (by rw[g];simpa using k) ⟨rfl,fin⟩) hs
theorem Ax:Cd X (Dc X.K):=by
 intro a b pins s σ H x y v u Q I e f h hs;obtain⟨p,xs,i,z,rfl,rfl,g,k,q⟩:=h;cases e;obtain⟨t,rfl⟩:=f;obtain⟨l,r,d,B⟩:=I.tuple g;obtain⟨j,m,n,E,F,G⟩:=qM k;obtain⟨w,o,c⟩:=r.get n;have hl:=r.length;have J:=gD;have fin:EP X pins σ Q w s:=⟨z,H,I,c,q⟩
 exact Cu (x:=w) d.typeIs slot_tuple_getitem.lookup
  (getItem_tuple (j:=j) (Q:=λr A=>r=w∧EP X pins σ Q r A) d (by omega) (by omega) (by rw[List.size_toArray,←hl];exact m) (by simpa using o) ⟨rfl,fin⟩) hs
theorem GY:Cd X Jg:=by
 intro a b pins s σ H x y v u Q I e f h hs;obtain⟨z,i,c,rfl,rfl,p,g,q⟩:=h;obtain⟨t,rfl⟩:=e;obtain⟨r,rfl⟩:=f;obtain⟨j,d,k,w,l,m⟩:=qM g;have hl:z.cps.toList.length=z.length:=by simp[Str.length]
 rw[hl]at d l m;have A:=gD;exact Ni (Iy s z t) slot_str_getitem.lookup (getItem_str (c:=c) (by
  have n:decide (i < -(2 ^ 63:Int))=g8:=decide_eq_false (by omega);have o:decide (i≥2 ^ 63)=g8:=decide_eq_false (by omega);rw[n,o,tE]) (by rw[d];simpa using k) ⟨.str ⟨#[c]⟩,H,I.tok _,⟨_,rfl⟩,q⟩) hs
theorem ud (a:List Value)(n j:Nat)(u:Value):Obj.mapSeq (·.setIfInBounds j u) {cls:=.type "list",data:=.seq a.toArray n}={cls:=.type "list",data:=.seq (a.set j u).toArray n}:=by
 simp[Obj.mapSeq]
theorem Inv.lst {pins:List (Addr×Obj)}{σ:St}{H:Hp}{s:Shared}{p:Addr}{xs:List V}(I:Inv X pins σ H s)(h:H p=g7 (.lst xs)):
  ∃(a:List Value) (n:Nat),Vals xs a∧s.heap.get? p=g7 {cls:=.type "list",data:=.seq a.toArray n}∧xs.length≤sizeLine:=by
 obtain⟨z,a,n,r,e⟩:=I.hok p _ h;exact⟨a,n,r,e,z⟩
theorem Inv.GQ{c a:List Value}(I:Inv X pins σ H s)(h:H p=g7 (.lst xs))
  (j:s.heap.get? p=g7 {cls:=.type "list",data:=.seq c.toArray n}) (i:f {cls:=.type "list",data:=.seq c.toArray n}={cls:=.type "list",data:=.seq a.toArray g}) (r:Vals d a) (k:d.length≤sizeLine) (t:Nat):
  Inv X pins σ (upd H p (.lst d)) {s with heap:=s.heap.update p f,toks:=t}:=by
 have e:(s.heap.update p f).get? p=g7 {cls:=.type "list",data:=.seq a.toArray g}:=by
  rw[Heap.get?_update_self f j (by rw[i]<;>rfl),i]
 refine I.write (x:=p) (e:=p) (by rw[h];trivial) (.inl rfl) (λb u l q=>(Heap.get?_update_other _ _ (o1 l)).trans q) ⟨_,e⟩ ?_;exact⟨k,a,g,r,e⟩
noncomputable def Jf:V→V→V→Hp→(Hp→Prop)→Prop:=λo i v H Q=>∃p xs k j,o=.ref p∧i=.int k∧H p=g7 (.lst xs)∧yF xs.length k=g7 j∧Q (upd H p (.lst (xs.set j v)))
theorem set_list:va X Jf:=by
 intro pins s σ H o i v A iv u Q I m w x h;obtain⟨p,xs,k,j,rfl,rfl,d,y,q⟩:=h;cases m;obtain⟨t,rfl⟩:=w;obtain⟨a,n,r,c,z⟩:=I.lst d;obtain⟨b,B,e,f⟩:=vS y;have hl:=r.length;have E:=gD;have g:Inv X pins σ (upd H p (.lst (xs.set j v))) {s with heap:=s.heap.update p (Obj.mapSeq (·.setIfInBounds j u))}:=
  I.GQ d c (ud a n j u) (r.set x j) (by rw[List.length_set];exact z) s.toks
 by_cases l:0≤k
 ·have hk:k.toNat=j:=by
   rw[FA l f]at b;exact Option.some.inj b
  exact PySem.W.ki_setAt c l (by omega) (by rw[List.size_toArray,←hl];exact f) (by rw[hk];exact⟨_,g,q⟩)
 ·have hk:(k+(a.toArray.size:Int)).toNat=j:=by
   rw[Cv (by omega) e]at b;rw[List.size_toArray,←hl];exact Option.some.inj b
  exact PySem.W.ki_setBack c (by omega) (by rw[List.size_toArray,←hl];exact e) (by omega) (by rw[hk];exact⟨_,g,q⟩)
theorem pi (lo hi:Option Int)(n:Nat):(cr lo hi g9 n).1=((HT.C8 n 0 lo:Nat):Int)∧(cr lo hi g9 n).2.1=((HT.C8 n n hi:Nat):Int)∧(cr lo hi g9 n).2.2=1:=by
 refine⟨?_,?_,rfl⟩
 ·cases lo with
  |none=>simp[cr,HT.C8]
  |some i=>
   simp only[cr,HT.C8,Option.getD_none,show(1:Int)>0 by decide,if_true];by_cases h:i<0
   ·simp only[h,if_true]<;>omega
   ·simp only[h,if_false]<;>omega
 ·cases hi with
  |none=>simp[cr,HT.C8]
  |some i=>
   simp only[cr,HT.C8,Option.getD_none,show(1:Int)>0 by decide,if_true];by_cases h:i<0
   ·simp only[h,if_true]<;>omega
   ·simp only[h,if_false]<;>omega
theorem mY (a:List Value)(lo hi:Option Int):slicePick a.toArray lo hi g9=((a.drop (HT.C8 a.length 0 lo)).take (HT.C8 a.length a.length hi-HT.C8 a.length 0 lo)).toArray:=by
 obtain⟨b,c,d⟩:=pi lo hi a.toArray.size;unfold slicePick;rw[b,c,d];simp only[sliceRange_one,pick_run,List.size_toArray]<;>rfl
noncomputable def Je (K:PySem.W.Frag):V→Option Int→Option Int→Hp→VK→Prop:=λx lo hi H Q=>∃a xs,x=.ref a∧T9 K H a xs∧∀p,H p=g9→Q (.ref p) (upd H p (.lst (nL xs lo hi)))
theorem CM:Cb X (Je X.K):=by
 intro pins s σ H x v k l lo hi sl Q I e hs f g h;obtain⟨a,xs,rfl,hx,q⟩:=h;cases e;obtain⟨i,r,d,j⟩:=I.list hx;have c:=r.length;refine⟨"list",_,Kf.lookup,d.isList.typeIs,?_⟩;refine wpAny_getItem_list_slice d.isList hs f g .none (by simp) ?_ (by rw[List.size_toArray]<;>omega);rw[mY,←c];refine⟨.ref s.heap.objs.size,_,I.laid (t':=s.toks) (o:=.lst (nL xs lo hi)) (λb ob q=>Heap.get?_push_of_some _ q) (i8 _) ?_,rfl,q _ (I.hok.fresh (i8 _))⟩;exact⟨m8 (jU xs lo hi) j,_,0,(r.drop (HT.C8 xs.length 0 lo)).take (HT.C8 xs.length xs.length hi-HT.C8 xs.length 0 lo),Heap.get?_push_size _ rfl⟩
theorem pK:fP X (A0 .NotIn) (λx y H Q=>∃i j,x=.str i∧y=.str j∧Q (.bl (!(!(C2 j i 0 j.length 1).isEmpty))) H):=by
 intro pins s σ H x y v u Q I a b h;obtain⟨i,j,rfl,rfl,q⟩:=h;obtain⟨t,rfl⟩:=a;obtain⟨c,rfl⟩:=b;exact notIn_str ⟨.bl _,H,I,rfl,q⟩
theorem qI:E6 X (.builtin "len") (λxs H Q=>∃p b,xs=[.ref p]∧(T9 X.K H p b∨bJ X.K H p b)∧Q (.int b.length) H):=by
 intro pins s σ H xs us Q I r h;obtain⟨p,b,rfl,c,q⟩:=h;obtain⟨u,rfl,g⟩:=vals1 r;cases g;have j:=gD;rcases c with c|c
 ·obtain⟨d,e,f,i⟩:=I.list c;have a:=e.length;exact Calls.call_len_list f.isList (by simp only[List.size_toArray]<;>omega) ⟨.int b.length,H,I.tok _,⟨s.toks+1,by rw[List.size_toArray,a]⟩,q⟩
 ·obtain⟨d,e,f,i⟩:=I.tuple c;have a:=e.length;exact len_tuple f (by simp only[List.size_toArray]<;>omega) ⟨.int b.length,H,I.tok _,⟨s.toks+1,by rw[List.size_toArray,a]⟩,q⟩
theorem qH:E6 X (.builtin "len") (λxs H Q=>∃z,xs=[.str z]∧z.length≤sizeLine∧Q (.int z.length) H):=by
 intro pins s σ H xs us Q I r h;obtain⟨z,rfl,a,q⟩:=h;obtain⟨u,rfl,t,rfl⟩:=vals1 r;have b:=gD;exact len_str (by omega) ⟨.int z.length,H,I.tok _,⟨_,rfl⟩,q⟩
theorem E6.or {f:Value}{r a:List V→Hp→VK→Prop}(h:E6 X f r)(h':E6 X f a):E6 X f (λxs H Q=>r xs H Q∨a xs H Q):=by
 intro pins s σ H xs us Q I b q;rcases q with q|q
 ·exact h pins s σ H xs us Q I b q
 ·exact h' pins s σ H xs us Q I b q
theorem qG:E6 X (.type "list") (λxs H Q=>∃p c,xs=[.ref p]∧(T9 X.K H p c∨bJ X.K H p c)∧∀l,H l=g9→Q (.ref l) (upd H l (.lst c))):=by
 intro pins s σ H xs us Q I r h;obtain⟨p,c,rfl,g,q⟩:=h;obtain⟨u,rfl,v⟩:=vals1 r;cases v;have fin:∀(a:List Value),Vals c a→c.length≤sizeLine→∀(h':Heap) (d:Nat),(∀b o',s.heap.get? b=g7 o'→h'.get? b=g7 o')→
   h'.get? s.heap.objs.size=g7 {cls:=.type "list",dict:=g9,data:=.seq a.toArray d,slots:=#[]}→EP X pins σ Q (.ref s.heap.objs.size) {s with heap:=h'}:=λa f i h' d kp e=>
  ⟨.ref s.heap.objs.size,_,I.laid (t':=s.toks) kp (i8 _) (show B9 X.prog X.w _ h' _ (.lst c)from⟨i,a,d,f,e⟩),rfl,q _ (I.hok.fresh (i8 _))⟩
 rcases g with g|g
 ·obtain⟨a,f,k,i⟩:=I.list g;have j:=f.length;obtain⟨o,m,t,n,hd⟩:=k.isList;exact NV p (.inl rfl) m t hd (λh' d kp e=>fin a f i h' d kp e) (by simp only[List.size_toArray]<;>omega)
 ·obtain⟨a,f,k,i⟩:=I.tuple g;have j:=f.length;obtain⟨o,m,t,n,hd⟩:=k;exact NV p (.inr rfl) m t hd (λh' d kp e=>fin a f i h' d kp e) (by simp only[List.size_toArray]<;>omega)
theorem nM:E6 X (.type "tuple") (λxs H Q=>∃p c,xs=[.ref p]∧((T9 X.K H p c∧∀l,H l=g9→Q (.ref l) (upd H l (.tup c)))∨(bJ X.K H p c∧Q (.ref p) H))):=by
 intro pins s σ H xs us Q I r h;obtain⟨p,c,rfl,h⟩:=h;obtain⟨u,rfl,m⟩:=vals1 r;cases m;rcases h with⟨d,q⟩ | ⟨d,q⟩
 ·obtain⟨a,f,g,i⟩:=I.list d;have j:=f.length;refine call_tuple_list g.isList (λh' kp=>?_) (by simp only[List.size_toArray]<;>omega);have k:Inv X pins σ H {s with heap:=h'}:=I.kept (t':=s.toks) kp;have n:Inv X pins σ (upd H h'.objs.size (.tup c)) {s with heap:=h'.push {cls:=.type "tuple",data:=.seq a.toArray}}:=
   k.laid (t':=s.toks) (λb o e=>Heap.get?_push_of_some _ e) (i8 _) (show B9 X.prog X.w _ _ _ (.tup c)from⟨i,a,f,MS _ _⟩)
  exact⟨.ref h'.objs.size,_,n,rfl,q _ (k.hok.fresh (i8 _))⟩
 ·obtain⟨a,f,g,i⟩:=I.tuple d;exact call_tuple_same g ⟨.ref p,H,I,rfl,q⟩
def II (K:PySem.W.Frag)(T:String)(x:V)(H:Hp):Prop:=match x with
 |.str _=>T="str"
 |.int _=>T="int"
 |.ref p=>(T="list"∧∃xs,T9 K H p xs)∨(T="tuple"∧∃o,K.lookup p=g7 o∧o.cls=.type "tuple"∧o.dict=g9)∨
   (T="dict"∧((∃kvs,H p=g7 (.dK kvs))∨∃kvs,H p=g7 (.dT kvs)))∨(T="set"∧∃S n,H p=g7 (.set S n))
 |_=>False
theorem FI(I:Inv X pins σ H s)(r:RelV x v)(ty:II X.K T x H):
  s.TypeIs v T∧∀a,v=.ref a→∃ob,s.heap.get? a=g7 ob∧ob.dict=g9:=by
 cases x with
 |str z=>
  obtain⟨t,rfl⟩:=r;cases(show T="str" from ty);exact⟨Iy s z t,λ_ e=>nomatch e⟩
 |int i=>
  obtain⟨t,rfl⟩:=r;cases(show T="int" from ty);exact⟨typeIs_int s i t,λ_ e=>nomatch e⟩
 |ref p=>
  cases r;rcases ty with⟨rfl,xs,f⟩ | ⟨rfl,o,hk,g,hd⟩ | ⟨rfl,hk⟩ | ⟨rfl,S,n,hk⟩
  ·obtain⟨h,_,d,_⟩:=I.list f;refine⟨d.isList.typeIs,λa e=>?_⟩;cases e;obtain⟨o,n,e,c,hd,_⟩:=d;exact⟨o,e,hd⟩
  ·refine⟨⟨o,I.fD p o hk,g⟩,λa e=>?_⟩;cases e;exact⟨o,I.fD _ o hk,hd⟩
  ·have z:∃o,s.heap.get? p=g7 o∧o.ExactDict:=by
    rcases hk with⟨kvs,hk⟩ | ⟨kvs,hk⟩
    ·obtain⟨_,_,_,_,o,_,_,e,ex,_⟩:=I.hok p _ hk;exact⟨o,e,ex⟩
    ·obtain⟨_,_,_,_,o,_,_,e,ex,_⟩:=I.hok p _ hk;exact⟨o,e,ex⟩
   obtain⟨o,e,ex⟩:=z;refine⟨⟨o,e,ex.1⟩,λa b=>?_⟩;cases b;exact⟨o,e,ex.2.1⟩
  ·obtain⟨o,_,_,_,e,ex,_⟩:=I.hok p _ hk;refine⟨⟨o,e,ex.1⟩,λa b=>?_⟩;cases b;exact⟨o,e,ex.2.1⟩
 |_=>exact v6 ty
noncomputable def Lh (K:PySem.W.Frag)(T:String)(r:V→List V→Hp→VK→Prop)(to:TE)(t:TA):TE:=λσ H Q=>to σ H λx H1=>II K T x H1∧t σ H1 λxs a=>r x xs a Q
variable {o e:Expr}{es:List Expr}{to:TE}{t:TA}{name:Str}{apos cpos:Pos}{T id:String}{r:V→List V→Hp→VK→Prop}
theorem rL (k:PlainAttrs T)(slot:Slot T name id)(f:Ng (.builtin id)=pure (.type "method_descriptor")) (l:NI X id r) (m:PE X o to) (n:PA X (e::es) t)
  (b:v7 o name X.env (eval o X.env)=eval o X.env:=by rfl)
  (d:((m4 cpos (i1 (e::es) X.env)).all (λx=>!x.1)&&(y7 cpos (n7 [] X.env)).all (λx=>x.1.isSome)
   && decide ((e::es).length+([]:List Keyword).length+(if([]:List Keyword).isEmpty then 0 else 1)<30))=h7:=by rfl)
  (c:(apos.endLine==cpos.line)=h7:=by rfl) (hs:i1 (e::es) X.env=(g8,eval e X.env)::i1 es X.env:=by rfl) (a:(m4 cpos (i1 es X.env)).any (·.1)=g8:=by rfl):
  PE X (.Call (.Attribute o name apos) (e::es) [] cpos) (Lh X.K T r to t):=by
 intro pins s σ H Q I h;refine wpAny_Call_method_late b d c rfl (F9 (m pins s σ H _ I h) λv s1 ⟨x,H1,g,i,ty,p⟩=>?_);obtain⟨q,u⟩:=FI g i ty;refine⟨T,id,k,slot,f,q,u,?_⟩;have j:=n cpos pins s1 σ H1 _ g p;rw[hs]at j⊢;refine ez (by show(g8||(m4 cpos (i1 es X.env)).any (·.1))=g8;rw[a]<;>rfl) (aI ?_);exact F9 j λus s2 ⟨vs,w,y,z,A⟩=>l pins s2 σ w x vs v us Q y i z A
end
def NJ (X:Cx)(id:String)(r:V→List V→Hp→VK→Prop):Prop:=
 ∀(pins:List (Addr×Obj)) (s:Shared) (σ:St) (H:Hp) (x:V) (xs:List V) (v:Value) (us:List Value) (Q:VK),Inv X pins σ H s→RelV x v→Vals xs us→r x xs H Q→
  wpAny (model X.prog X.w) X.A (call (.builtin id) (v::us)) (EP X pins σ Q) X.xe s
theorem Vals.one:∀{x:V} {us:List Value},Vals [x] us→∃u,us=[u]∧RelV x u
 |_,_,.cons r .nil=>⟨_,rfl,r⟩
section
variable {X:Cx}{pins:List (Addr×Obj)}{σ:St}{H:Hp}{s:Shared}{l b:Addr}{xs ys zs:List V}
theorem Inv.Lz {a EI:List Value}(I:Inv X pins σ H s)(c:H l=g7 (.lst xs))
  (e:s.heap.get? l=g7 {cls:=.type "list",data:=.seq a.toArray n}) (d:f a.toArray=EI.toArray) (g:Vals ys EI) (h:ys.length≤sizeLine):
  Inv X pins σ (upd H l (.lst ys)) {s with heap:=s.heap.update l (Obj.mapSeq f),toks:=b}:=by
 have q:=PySem.IsL.update e f;rw[d]at q;refine I.write (x:=l) (e:=l) (by rw[c];exact trivial) (.inl rfl) (λk u i j=>(Heap.get?_update_other s.heap (Obj.mapSeq f) (o1 i)).trans j) ⟨_,q⟩ ?_;exact⟨h,EI,_,g,q⟩
theorem Inv.LA(I:Inv X pins σ H s)(b:Vals ys a)(c:ys.length≤sizeLine):
  Inv X pins σ (upd H s.heap.objs.size (.lst ys)) {s with heap:=s.heap.push {cls:=.type "list",data:=.seq a.toArray},toks:=t'}:=
 I.laid (λ_ _ q=>Heap.get?_push_of_some _ q) (i8 _) ⟨c,a,0,b,Heap.get?_push_size _ rfl⟩
theorem Inv.fresh (I:Inv X pins σ H s):H s.heap.objs.size=g9:=I.hok.fresh (i8 _)
theorem Inv.Ly (I:Inv X pins σ H s)(b:H l=g7 (.lst xs)):xs.length≤sizeLine∧∃(a:List Value) (n:Nat),Vals xs a∧xs.length=a.length∧s.heap.get? l=g7 {cls:=.type "list",data:=.seq a.toArray n}:=by
 obtain⟨z,a,n,r,e⟩:=I.hok l _ b;exact⟨z,a,n,r,r.length,e⟩
end
section
variable {X:Cx}
noncomputable def pD:V→List V→Hp→VK→Prop:=λx vs H Q=>∃l xs y,x=.ref l∧vs=[y]∧H l=g7 (.lst xs)∧xs.length<sizeLine∧Q .z5 (upd H l (.lst (xs++[y])))
theorem cR:NJ X "list.append" pD:=by
 intro pins s σ H x vs v us Q I c d h;obtain⟨l,xs,y,rfl,rfl,b,g,q⟩:=h;cases c;obtain⟨u,rfl,f⟩:=d.one;obtain⟨z,a,n,r,hl,e⟩:=I.Ly b;refine call_meets F.slot_list_append ⟨_,e,rfl⟩ F.entry_list_append (F.args_list_append_2 _ _) (PySem.list_append l a.toArray n u (by rw[List.size_toArray];omega)) ⟨e,?_⟩;refine⟨.z5,_,I.Lz (EI:=a++[u]) b e (by simp) (r.append (.cons f .nil)) ?_,rfl,q⟩;rw[List.length_append,List.length_singleton];omega
end
end L2
namespace Att
open PySem PySem.W PySem.Calls PyProof.Rows
theorem ko:∀(ns:List Int) (vs:List Value),WellAll P h vs (ns.map WData.int)→IntsAre vs ns:=by
 intro ns;induction ns with
 |nil=>
  intro vs w;rw[List.map_nil]at w;cases w;exact .nil
 |cons n ns ih=>
  intro vs w;rw[List.map_cons]at w;cases w with
  |cons a b=>
   cases a;exact .cons _ _ (ih _ b)
theorem xj {l:OpenLaw}(o:l.most=g7 n)
  (c:l.row.toRowW.claim.pre args=h7) (j:WellAll P h b args):
  ∃a vs ns,b=[Value.ref a]∧args=[WData.list (ns.map WData.int)]∧h.get? a=g7 {cls:=.type "list",data:=.seq vs.toArray}∧IntsAre vs ns∧ns.length≤n:=by
 have k:WShape.hasAll [] args [.list .int]=h7:=(pre_splitW c).1;have m:l.pre.holds [] {args:=args}=h7:=(pre_splitW c).2;obtain⟨d,r,rfl,p,s⟩:=hasAllW_cons k;obtain rfl:=hasAllW_nil s;obtain⟨xs,rfl,t⟩:=hasW_list p;obtain⟨ns,rfl⟩:=items_int t;have e:ns.length≤n:=by
  unfold OpenLaw.pre at m;have g:(WTm.not (.lt (.lit (.int (n:Int))) (.len (.arg 0)))).holds [] {args:=[.list (ns.map .int)]}=h7:=by
   have g:=(holds_andW m).1;rw[o]at g;exact g
  have i:=condW_of g (w_not (w_lt w_lit (w_len_list (w_arg rfl))));rw[List.length_map]at i;refine Nat.le_of_not_lt λq=>?_;have u:(n:Int)<((ns.length:Nat):Int):=by omega
  first
   | (rw[decide_eq_true u]at i;exact absurd i (by decide))
   | (simp at i;omega)
 cases j with
 |cons w1 v=>
  cases v;cases w1 with
  |list w f=>exact⟨_,_,ns,rfl,rfl,w,ko ns _ f,e⟩
theorem xt (l:OpenLaw)(args:List WData):l.row.toRowW.claim.post args (.bool h7) args=h7:=
 postW_of (r:=l.row.toRowW) (X:=(h7==h7))
  (show Kh [] (.bool h7) .bool=h7 by first|rfl|decide|simp[Kh,WShape.arms,WShape.armsAll])
  (show(WTm.eq .res (.lit (.bool h7))).value [] {args:=args,res:=g7 (.bool h7),after:=args}=g7 (.bool (h7==h7))from w_eq_bool (w_res rfl) w_lit) rfl
theorem ti {l:OpenLaw}{d:DefRec}
  (z:l.most=g7 n) (m:d.params.defaults=[])
  (call:∀(w:World) (s₀ b:Shared) (mg mb:Str→Option Value) (g:Addr) (o:Obj) (pm cd doc:Value) (a:Addr) (vs:List Value) (ns:List Int),
   Ground q c [] XP w s₀ mg mb b.heap→u w b.heap→
   b.heap.get? g=g7 o→o.data=.func (docDef d.name d.params d.body d.scope pm cd doc)→b.heap.CodeRec cd d.name→mg d.name=g7 (.ref g)→
   b.heap.get? a=g7 {cls:=.type "list",data:=.seq vs.toArray}→IntsAre vs ns→ns.length≤n→b.gens=#[]→
   aH (model l.prog w) kA (.call (.ref g) ⟨[.ref a],[]⟩) (λr k=>r=.ok (.ret (.bool h7))∧OldK b.heap k.heap∧k.os=b.os∧fk k.gens) b):
  WalkO q c XP u l.row.toRowW d [] (λf vs=>PySem.call f vs):=by
 intro w s₀ b mg mb G Y g o pm cd doc A kV B hd p v s E args x P h y F t H;obtain rfl:A=.none:=Dflts.none v m;obtain rfl:kV=.none:=Dflts.noKw v;obtain⟨a,vs,ns,rfl,rfl,i,e,j⟩:=xj z h t;refine enter_call (L9 (call w s₀ b mg mb g o pm cd doc a vs ns G Y B (fd_plain hd) p s i e j E) λr k I=>?_);obtain⟨rfl,J,L,N⟩:=I;exact⟨.inl ⟨.bool h7,.bool h7,[],rfl,λ_=>rfl,.bool h7,xt l _,λ_=>⟨List.Pairwise.nil,λ_ O=>(nomatch O)⟩⟩,J,L,N⟩
end Att
namespace L2
open PySem PySem.Spec PyProof.Rows
theorem fq:∀{vs:List Value} {ns:List Int},IntsAre vs ns→Vals (ns.map V.int) vs
 |_,_,.nil=>.nil
 |_,_,.cons n t h=>.cons ⟨t,rfl⟩ (fq h)
def JT (H:Hp):Prop:=∀b,H b=g9∨∃o xs,H b=g7 (.df o (.lst xs))
theorem Au{K:PySem.W.Frag}{c:Shared}{vs:List Value}
  (T:K.In c.heap) (t:c.heap.Ns k8 mg) (g:c.heap.Ns IC mb) (N:∀x:Str,x≠"__name__"→mb x=M0 x) (y:c.heap.NoLimit) (hg:c.gens=#[])
  (J:c.heap.get? a=g7 {cls:=.type "list",data:=.seq vs.toArray}) (hi:IntsAre vs ns) (hl:ns.length≤sizeLine) (hr:K4 k kA)
  (F:∀base:Heap,K.In base→base.Ns k8 mg→x8 P w K mg base CX k L fd [x] sp) (p:∀(s:Shared) (u:Value),vg s fd ⟨[u],[]⟩ [(x,u)])
  (O:∀H:Hp,JT H→T9 K H a (ns.map V.int)→sp [.ref a] H (λv _=>v=.bl h7) λ_ _ _=>False)
  (Q:∀H e i,CX [] H c (λ_ _ _=>False) e i→False):
  aH (model P w) kA (.call (.ref L) ⟨[.ref a],[]⟩) (λr i=>r=.ok (.ret (.bool h7))∧OldK c.heap i.heap∧i.os=c.os∧fk i.gens) c:=by
 have U:=fq hi;have A:=hi.length
 
 have l:∀H:Hp,JT H→T9 K H a (ns.map V.int)→fb P w H c.heap→(∀b,H b≠g9→b=a)→(H a≠g9→K.lookup a=g9)→
   aH (model P w) kA (.call (.ref L) ⟨[.ref a],[]⟩) (λr i=>r=.ok (.ret (.bool h7))∧OldK c.heap i.heap∧i.os=c.os∧fk i.gens) c:=by
  intro H X hS hok Y hK;have f:∀{b:Addr} {o:Obj},c.heap.get? b=g7 o→H b=g9→(pW c.heap H).get? b=g7 o:=λe n=>AT e n;have R:∀{b:Addr} {o:Obj} {es:Array DictEntry} {B:Nat},c.heap.get? b=g7 o→o.data=.dict es B→H b=g9:=λ{b o es B} e d=>by
   cases q:H b with
   |none=>rfl
   |some u=>
    have S:b=a:=Y b (by rw[q];simp);subst S;rw[J]at e;cases e;have d':Data.seq vs.toArray _=Data.dict es B:=d;cases d'
  have j:∀{b:Addr} {m:Str→Option Value},c.heap.Ns b m→(pW c.heap H).Ns b m:=λ{b m} ⟨o,es,B,e,d,r⟩=>⟨o,es,B,f e (R e d),d,r⟩
  have E:K.In (pW c.heap H):=λb o e=>f (T b o e) (by
   cases q:H b with
   |none=>rfl
   |some u=>
    have S:b=a:=Y b (by rw[q];simp);subst S;rw[hK (by rw[q];simp)]at e;cases e)
  have hM:Mod K mg (pW c.heap H):=⟨E,j t,⟨mb,j g,N⟩,let⟨mc,h1,h2⟩:=y;⟨mc,j h1,h2⟩⟩
  have e0:tt P w K mg (pW c.heap H) kA [] c H:=⟨rfl,hM,λb o e=>Du e,wS (xU _ _),trivial,λb g=>absurd (show b∈([]:List Addr)from g) (by simp),hok,.of_eq hg⟩
  refine L9 ((F _ E (j t)).run kA [] c H ⟨[.ref a],[]⟩ [.ref a] [.ref a] _ _ hr e0 (p c (.ref a)) (.cons rfl .nil) (O H X hS)) λr i h=>?_;cases r with
  |error e=>exact(Q H e i h).elim
  |ok fl=>
   cases fl with
   |next=>exact v6 h
   |brk=>exact v6 h
   |cont=>exact v6 h
   |ret u=>
    obtain⟨v,H',os,bare,un,G,r',q⟩:=h;have q':v=.bl h7:=q;subst q';obtain rfl:u=Value.bool h7:=r';refine⟨rfl,OldK.of_keep λb o e=>?_,os,bare⟩;cases q:H b with
    |none=>exact un.keep b o e q (by intro z;exact absurd (show b∈([]:List Addr)from z) (by simp)) (by simp)
    |some u=>
     rcases X b with z| ⟨ob,xs,z⟩
     ·rw[q]at z;cases z
     ·have z2:=un.frzs b ob _ z;obtain⟨Z,_⟩:=hok b _ z;obtain⟨e2,_⟩:=G b _ z2;rw[e]at Z;cases Z;exact e2
 cases hk:K.lookup a with
 |some o=>
  
  have e:=T a o hk;rw[J]at e;cases e;refine l (λ_=>g9) (λ_=>.inl rfl) (.inr ⟨_,vs.toArray,_,hk,rfl,rfl,rfl,by rw[List.size_toArray,A];exact hl,by simpa using U⟩) (λb u z=>by have I:(g9:Option HO)=g7 u:=z;cases I) (λb z=>absurd rfl z) λz=>absurd rfl z
 |none=>
  refine l (λb=>if b=a then g7 (.df {cls:=.type "list",data:=.seq vs.toArray} (.lst (ns.map V.int)))else g9) (λb=>?_) (.inl (.inr ⟨{cls:=.type "list",data:=.seq vs.toArray},if_pos rfl⟩)) (λb u z=>?_) (λb z=>?_) λ_=>hk
  ·by_cases g:b=a
   ·exact .inr ⟨_,_,if_pos g⟩
   ·exact .inl (if_neg g)
  ·by_cases g:b=a
   ·have I:=(if_pos g).symm.trans z;cases I;subst g;exact⟨J,by rw[List.length_map];exact hl,vs,_,U,J⟩
   ·have I:=(if_neg g).symm.trans z;cases I
  ·by_cases g:b=a
   ·exact g
   ·exact absurd (if_neg g) z
noncomputable def inClass (s:Stmt)(j:Nat):Stmt:=match s with
 |.ClassDef _ _ _ a _ _ _ _ _ _ _=>a.getD j (.Pass ⟨0,0,0,0⟩)
 |_=>.Pass ⟨0,0,0,0⟩
noncomputable def Q5 (s:Stmt):Arguments:=match s with
 |.FunctionDef _ a _ _ _ _ _ _ _ _=>a
 |_=>{posonlyargs:=[],args:=[],vararg:=g9,kwonlyargs:=[],kw_defaults:=[],kwarg:=g9,defaults:=[]}
noncomputable def C5 (s:Stmt):List Stmt:=match s with
 |.FunctionDef _ _ b _ _ _ _ _ _ _=>b
 |_=>[]
noncomputable def i7 (s:Stmt):Scope:=match s with
 |.FunctionDef _ _ _ _ _ _ sc _ _ _=>sc
 |_=>{kind:=.function,names:=[],isGenerator:=g8,isCoroutine:=g8}
noncomputable abbrev V1:Ch:=λ_ _ _ _ _ _=>False
noncomputable abbrev E0:XK:=λ_ _ _=>False
theorem EY:Passes V1 X E0:=λ_ _ _ _ _ _ _ h=>h.elim
structure az (K:PySem.W.Frag) (x qual:Str) (st:Stmt) (f:Addr) (fd:FuncData):Prop where
 ex:∃(oc:Value) (od:Option Addr) (kV doc pm:Value) (an:Option Addr) (cdv ct:Value) (osl:Array (Option Value)),
  fd=PySem.W.fnOf x qual (Q5 st) (C5 st) (i7 st) .none kV doc pm an cdv ct∧K.lookup f=some ⟨oc,od,.func fd,osl⟩∧PySem.W.codeIn K cdv qual=true
 kp:PySem.W.keepIn K (.ref f)=true
section
variable {P:Program}{w:World}{K:PySem.W.Frag}{mg:Str→Option Value}{base:Heap}
theorem az.ok {x qual:Str}{st:Stmt}{f:Addr}{fd:FuncData}{N ps:List Str}{k:Nat}{sp:Sp}(F:az K x qual st f fd)(S:n4 N ps (i7 st))(len:∀vs H Q E,sp vs H Q E→vs.length=ps.length)
  (a:∀(cdv:Value) (A:Around) (outer:List Env) (s:Shared) (H:Hp) (vs:List V) (Q:VK) (E:XK),K4 k (A.deeper (Z2 qual (i7 st) s.heap.objs.size f cdv))→sp vs H Q E→
   ∃t,nQ (X5 V1 P w K mg base N qual (i7 st) f cdv A outer s H E).Fb (C5 st) t∧t {nx:=λ_ H'=>Q .z5 H',rt:=Q} (start N vs) H):x8 P w K mg base V1 (k+1) f fd ps sp:=by
 obtain⟨oc,od,kV,doc,pm,an,cdv,ct,osl,rfl,lk,b⟩:=F.ex;refine JA lk b S len λA outer s H vs Q E hr c=>?_;obtain⟨t,h,q⟩:=a cdv A outer s H vs Q E hr c;exact⟨t,h.Fb,q⟩
theorem uC {x qual:Str}{st:Stmt}{f:Addr}{oc:Value}{od an:Option Addr}{osl:Array (Option Value)}{kV doc pm cdv ct:Value}(l:K.lookup f=g7 ⟨oc,od,.func (PySem.W.fnOf x qual (Q5 st) (C5 st) (i7 st) .none kV doc pm an cdv ct),osl⟩)
  (c:PySem.W.codeIn K cdv qual=h7) (k:PySem.W.keepIn K (.ref f)=h7):az K x qual st f (PySem.W.fnOf x qual (Q5 st) (C5 st) (i7 st) .none kV doc pm an cdv ct):=⟨⟨oc,od,kV,doc,pm,an,cdv,ct,osl,rfl,l,c⟩,k⟩
end
def j5 (H H':Hp):Prop:=∀b o,H b=g7 o→H' b=g7 o
theorem j5.refl (H:Hp):j5 H H:=λ_ _ h=>h
theorem j5.trans(a:j5 H H1)(b:j5 H1 d):j5 H d:=λc o h=>b c o (a c o h)
theorem j5.free(e:j5 H H')(h:H' l=Option.none):H l=Option.none:=by
 cases q:H l with
 |none=>rfl
 |some o=>
  rw[e l o q]at h;cases h
theorem j5.seq {K:PySem.W.Frag}{H H':Hp}{a:Addr}{xs:List V}(e:j5 H H')(h:T9 K H a xs):T9 K H' a xs:=by
 rcases h with(h| ⟨o,h⟩) |h
 ·exact .inl (.inl (e _ _ h))
 ·exact .inl (.inr ⟨o,e _ _ h⟩)
 ·exact .inr h
section
variable {κ:Type}[DecidableEq κ]
noncomputable def bN (kvs:List (κ×V))(k:κ):Option V:=(kvs.find? λkv=>decide (kv.1=k)).map (·.2)
noncomputable def putK (kvs:List (κ×V))(k:κ)(v:V):List (κ×V):=
 if(kvs.any λkv=>decide (kv.1=k))=h7 then kvs.map (λkv=>if kv.1=k then(kv.1,v)else kv)else kvs++[(k,v)]
noncomputable def iK (kvs:List (κ×V))(k:κ):List (κ×V):=kvs.filter λkv=>decide (kv.1≠k)
theorem gX {p:κ×V}(e:p.1=k):bN (p::r) k=g7 p.2:=by simp[bN,List.find?_cons,e]
theorem gY {p:κ×V}(e:¬p.1=k):bN (p::r) k=bN r k:=by simp[bN,List.find?_cons,e]
theorem ra (k:κ):∀kvs:List (κ×V),(kvs.any λkv=>decide (kv.1=k))=(bN kvs k).isSome
 | []=>rfl
 |p::r=>by
  rw[List.any_cons];by_cases e:p.1=k
  ·simp only[gX e,decide_eq_true e,Kj,Option.isSome_some]
  ·rw[gY e,decide_eq_false e,tF];exact ra k r
theorem jK (kvs:List (κ×V))(k:κ)(v:V):(putK kvs k v).length≤kvs.length+1:=by
 unfold putK;split
 ·rw[List.length_map];omega
 ·rw[List.length_append,List.length_cons,List.length_nil];omega
theorem bG.cU(r:bG o u):o.isSome=u.isSome:=by
 cases o with
 |none=>cases u with
  |none=>rfl
  |some _=>exact(show False from r).elim
 |some _=>cases u with
  |none=>exact(show False from r).elim
  |some _=>rfl
theorem bG.getD(r:bG o u)(rd:RelV d a):RelV (o.getD d) (u.getD a):=by
 cases o with
 |none=>cases u with
  |none=>exact rd
  |some _=>exact(show False from r).elim
 |some _=>cases u with
  |none=>exact(show False from r).elim
  |some _=>exact r
theorem KV.val(r:KV kvs vs)(k:κ):bG (bN kvs k) (gU vs k):=by
 unfold KV at r;induction r with
 |nil=>exact True.intro
 | @cons p q ps a h t ih=>
  obtain⟨d,f⟩:=h;by_cases e:p.1=k
  ·have c:q.1=k:=d.symm.trans e;have b:gU (q::a) k=g7 q.2:=by simp[gU,List.find?_cons,c]
   rw[gX e,b];exact f
  ·have c:¬q.1=k:=λz=>e (d.trans z);have b:gU (q::a) k=gU a k:=by simp[gU,List.find?_cons,c]
   rw[gY e,b];exact ih
theorem KV.any(r:KV kvs vs)(k:κ):(kvs.any λkv=>decide (kv.1=k))=vs.any λkv=>decide (kv.1=k):=by
 unfold KV at r;induction r with
 |nil=>rfl
 |cons h t ih=>rw[List.any_cons,List.any_cons,ih,h.1]
theorem KV.repl(r:KV kvs vs)(k:κ)(b:RelV y u):
  KV (kvs.map λkv=>if kv.1=k then(kv.1,y)else kv) (vs.map λkv=>if kv.1=k then(kv.1,u)else kv):=by
 unfold KV at r⊢;induction r with
 |nil=>exact .nil
 | @cons p q ps d h t ih=>
  rw[List.map_cons,List.map_cons];refine .cons ?_ ih;obtain⟨a,c⟩:=h;by_cases e:p.1=k
  ·rw[if_pos e,if_pos (a.symm.trans e)];exact⟨a,b⟩
  ·rw[if_neg e,if_neg (λz=>e (a.trans z))];exact⟨a,c⟩
theorem KV.put(r:KV kvs vs)(k:κ)(a:RelV y u):KV (putK kvs k y) (Iz vs k u):=by
 unfold putK Iz;rw[r.any k];by_cases e:(vs.any λkv=>decide (kv.1=k))=h7
 ·rw[if_pos e,if_pos e];exact r.repl k a
 ·rw[if_neg e,if_neg e];exact IE r ⟨rfl,a⟩
theorem KV.drop(r:KV kvs vs)(k:κ):KV (iK kvs k) (without vs k):=by
 unfold KV at r⊢;unfold iK without;induction r with
 |nil=>exact .nil
 | @cons p q ps g h t ih=>
  obtain⟨c,d⟩:=h;rw[List.filter_cons,List.filter_cons];by_cases e:p.1=k
  ·have a:¬decide (p.1≠k)=h7:=by simp[e]
   have b:¬decide (q.1≠k)=h7:=by simp[c.symm.trans e]
   rw[if_neg a,if_neg b];exact ih
  ·have f:¬q.1=k:=λz=>e (c.trans z);have a:decide (p.1≠k)=h7:=by simp[e]
   have b:decide (q.1≠k)=h7:=by simp[f]
   rw[if_pos a,if_pos b];exact .cons ⟨c,d⟩ ih
theorem KV.length {kvs:List (κ×V)}{vs:List (κ×Value)}(r:KV kvs vs):kvs.length=vs.length:=cZ r
theorem Bv (kvs:List (κ×V))(k:κ):(iK kvs k).length≤kvs.length:=List.length_filter_le _ _
end
theorem fZ(r:RelV (kV k) u):(w6 P w).is k u=h7:=by
 cases k with
 |inl i=>obtain⟨t,e⟩:=(show∃t,u=Value.int i t from r);subst e;exact rT P w i t
 |inr x=>obtain⟨t,e⟩:=(show∃t,u=Value.str x t from r);subst e;exact rS P w x t
theorem oz:∀{a:List Key} {us:List Value},Vals (a.map kV) us→ItemsAre (w6 P w) a us
 | [],_,r=>by rw[List.map_nil]at r;cases r;exact .nil
 |k::a,_,r=>by
  rw[List.map_cons]at r;cases r with
  |cons h t=>exact .cons (fZ h) (oz t)
noncomputable abbrev KT (H:Hp):List (List Key×V)→List (List Key×Addr×Value)→Prop:=Paired λp q=>p.1=q.1∧H q.2.1=g7 (.tup (p.1.map kV))∧RelV p.2 q.2.2
theorem KT.val(r:KT H kvs xs)(k:List Key):bG (bN kvs k) ((wR xs k).map (·.2)):=by
 induction r with
 |nil=>exact True.intro
 | @cons p q ps a h t ih=>
  obtain⟨d,_,f⟩:=h;by_cases e:p.1=k
  ·have c:q.1=k:=d.symm.trans e;have b:wR (q::a) k=g7 q.2:=by simp[wR,List.find?_cons,c]
   rw[gX e,b];exact f
  ·have c:¬q.1=k:=λz=>e (d.trans z);have b:wR (q::a) k=wR a k:=by simp[wR,List.find?_cons,c]
   rw[gY e,b];exact ih
theorem KT.repl(r:KT H kvs xs)(k:List Key)(c:RelV y u):
  KT H (kvs.map λkv=>if kv.1=k then(kv.1,y)else kv) (xs.map (putAt k u)):=by
 induction r with
 |nil=>exact .nil
 | @cons p q ps f h t ih=>
  rw[List.map_cons,List.map_cons];refine .cons ?_ ih;obtain⟨a,b,d⟩:=h;unfold putAt;by_cases e:p.1=k
  ·rw[if_pos e,if_pos (a.symm.trans e)];exact⟨a,b,c⟩
  ·rw[if_neg e,if_neg (λz=>e (a.trans z))];exact⟨a,b,d⟩
theorem KT.put(r:KT H kvs xs)(k:List Key)(c:H b=g7 (.tup (k.map kV)))(a:RelV y u):
  KT H (putK kvs k y) (storedH xs k b u):=by
 have e:(kvs.any λkv=>decide (kv.1=k))=(wR xs k).isSome:=by
  rw[ra,(r.val k).cU,Option.isSome_map]
 unfold putK storedH;rw[e];by_cases q:(wR xs k).isSome=h7
 ·rw[if_pos q,if_pos q];exact r.repl k a
 ·rw[if_neg q,if_neg q];exact IE r ⟨rfl,c,a⟩
theorem KT.keeps(r:KT H kvs xs)(c:∀b a,H b=g7 (.tup a)→H' b=g7 (.tup a)):KT H' kvs xs:=
 Paired.Ai r λ_ _ z=>⟨z.1,c _ _ z.2.1,z.2.2⟩
section
variable {P:Program}{w:World}{H:Hp}{h:Heap}{a:Addr}
theorem EX(ok:fb P w H h)(e:Rd H a u):B9 P w H h a u:=e.ok ok
theorem V8(ok:fb P w H h)(e:Rd H a (.dK kvs)):kvs.length≤sizeLine∧(a==P4)=g8∧∃vs,KV kvs vs∧h.DictOf (w6 P w) a vs:=
 show B9 P w H h a (.dK kvs)from EX ok e
theorem Bw(ok:fb P w H h)(e:H a=g7 (.dK kvs)):kvs.length≤sizeLine∧(a==P4)=g8∧∃vs,KV kvs vs∧h.DictOf (w6 P w) a vs:=V8 ok (.inl e)
theorem jj {b:List Key}(ok:fb P w H h)(e:H a=g7 (.tup (b.map kV))):(ky (w6 P w)).is h b a:=by
 obtain⟨_,c,r,o,d,f,n,g⟩:=(show B9 P w H h a (.tup (b.map kV))from ok a _ e)
 exact⟨o,c.toArray,n,d,f,g,by simpa using oz r⟩
theorem mq(ok:fb P w H h)(e:Rd H a (.dT kvs)):kvs.length≤sizeLine∧(a==P4)=g8∧
  ∃xs,KT H kvs xs∧h.DictOfH (ky (w6 P w)) a xs:=by
 obtain⟨z,y,xs,r,o,es,c,d,f,g,i,j⟩:=(show B9 P w H h a (.dT kvs)from EX ok e)
 refine⟨z,y,xs,r,o,es,c,d,f,g,i,λx hx=>?_,j⟩;have all:∀{l:List (List Key×V)} {m:List (List Key×Addr×Value)},KT H l m→∀x∈m,(ky (w6 P w)).is h x.1 x.2.1:=by
  intro l m q;induction q with
  |nil=>intro x hx;exact nomatch hx
  | @cons p q ps k b t ih=>
   intro x hx;rcases List.mem_cons.mp hx with e|hx
   ·subst e;exact jj ok (by rw[←b.1];exact b.2.1)
   ·exact ih x hx
 exact all r x hx
theorem JK(ok:fb P w H h)(e:H a=g7 (.dT kvs)):kvs.length≤sizeLine∧(a==P4)=g8∧
  ∃xs,KT H kvs xs∧h.DictOfH (ky (w6 P w)) a xs:=mq ok (.inl e)
end
def eu (H:Hp)(a:Addr)(y:V)(r:Option V):Prop:=
 (∃kvs k,Rd H a (.dK kvs)∧y=kV k∧r=bN kvs k)∨∃kvs k b,Rd H a (.dT kvs)∧y=.ref b∧H b=g7 (.tup (k.map kV))∧r=bN kvs k
def Cf (H:Hp)(a:Addr)(y v:V)(H':Hp):Prop:=
 (∃kvs k,H a=g7 (.dK kvs)∧y=kV k∧kvs.length<sizeLine∧H'=upd H a (.dK (putK kvs k v)))∨
 ∃kvs k b,H a=g7 (.dT kvs)∧y=.ref b∧H b=g7 (.tup (k.map kV))∧kvs.length<sizeLine∧H'=upd H a (.dT (putK kvs k v))
theorem Cf.k {H:Hp}{a:Addr}{kvs:List (Key×V)}{k:Key}{v:V}(e:H a=g7 (.dK kvs))(hl:kvs.length<sizeLine):Cf H a (kV k) v (upd H a (.dK (putK kvs k v))):=.inl ⟨kvs,k,e,rfl,hl,rfl⟩
section
variable {X:Cx}{pins:List (Addr×Obj)}{σ:St}{H:Hp}{s:Shared}{a:Addr}{y v:V}{u r:Value}{o:Option V}{A:Around}{E:Value→Shared→Prop}
theorem Inv.big (I:Inv X pins σ H s):P4<s.heap.objs.size:=by
 have h:k8<s.heap.objs.size:=(I.mod.glob.keeps I.bk).lt;exact U2 (by decide) h
theorem yo(r:A.units+1<E7)(I:Inv X pins σ H s)(g:eu H a y (g7 v))(n:RelV y u)(h:∀f q,Inv X pins σ H q→RelV v f→Q f q):
  wpAny (model X.prog X.w) A (gW (.ref a) u) Q E s:=by
 rcases g with⟨kvs,k,e,i,l⟩ | ⟨kvs,k,b,e,i,t,l⟩
 ·subst i;obtain⟨z,hd,vs,c,dd⟩:=V8 I.hok e;obtain⟨f,j,d⟩:=bG.some_of (v:=v) (o:=gU vs k) (by rw[l];exact c.val k);exact wpAny_getItem_of (fZ n) dd.mapOf j (h f _ (I.tok _) d)
 ·subst i;cases(show u=Value.ref b from n);obtain⟨z,hd,xs,c,dd⟩:=mq I.hok e;obtain⟨f,j,d⟩:=bG.some_of (v:=v) (o:=(wR xs k).map (·.2)) (by rw[l];exact c.val k);obtain⟨p,x,m⟩:=Option.map_eq_some_iff.mp j;refine wpAny_getItem_heap (Z1 r) (jj I.hok t) dd x ?_;rw[m];exact h f _ (I.tok _) d
theorem LQ(j:A.units+1<E7)(I:Inv X pins σ H s)(g:eu H a y o)(f:RelV y u)(h:∀i,Inv X pins σ H i→Q (.bool o.isSome) i):
  wpAny (model X.prog X.w) A (A0 .In u (.ref a)) Q E s:=by
 rcases g with⟨kvs,k,e,d,l⟩ | ⟨kvs,k,b,e,d,m,l⟩
 ·subst d;obtain⟨z,hd,vs,c,dd⟩:=V8 I.hok e;refine wpAny_in_of (fZ f) hd dd.mapOf ?_;rw[←(c.val k).cU,←l];exact h _ (I.tok _)
 ·subst d;cases(show u=Value.ref b from f);obtain⟨z,hd,xs,c,dd⟩:=mq I.hok e;refine wpAny_in_heap (Z1 j) (jj I.hok m) hd dd ?_;have q:=(c.val k).cU;rw[Option.isSome_map]at q;rw[←q,←l];exact h _ (I.tok _)
theorem Ev(j:A.units+1<E7)(I:Inv X pins σ H s)(g:eu H a y o)(f:RelV y u)(h:∀i,Inv X pins σ H i→Q (.bool (!o.isSome)) i):
  wpAny (model X.prog X.w) A (A0 .NotIn u (.ref a)) Q E s:=by
 rcases g with⟨kvs,k,e,d,l⟩ | ⟨kvs,k,b,e,d,m,l⟩
 ·subst d;obtain⟨z,hd,vs,c,dd⟩:=V8 I.hok e;refine wpAny_notIn_of (fZ f) hd dd.mapOf ?_;rw[←(c.val k).cU,←l];exact h _ (I.tok _)
 ·subst d;cases(show u=Value.ref b from f);obtain⟨z,hd,xs,c,dd⟩:=mq I.hok e;refine wpAny_notIn_heap (Z1 j) (jj I.hok m) hd dd ?_;have q:=(c.val k).cU;rw[Option.isSome_map]at q;rw[←q,←l];exact h _ (I.tok _)
theorem qw(I:Inv X pins σ H s)(d:JU (H a))(hs:Heap.SameBut a s.heap h')(f:∃q,h'.get? a=g7 q)(new:B9 X.prog X.w (upd H a ob) h' a ob):
  Inv X pins σ (upd H a ob) {s with heap:=h',toks:=c}:=
 I.write (x:=a) (e:=a) d (.inl rfl) (λb q g z=>(hs.2 b g).trans z) f new
theorem mu{h':Heap}{kvs:List (Key×V)}(z:kvs.length≤sizeLine)(hd:(a==P4)=g8)(b:KV kvs vs)(dd:h'.DictOf (w6 P w) a vs):
  B9 P w H' h' a (.dK kvs):=⟨z,hd,vs,b,dd⟩
theorem yl(F:A.units+1<E7)(I:Inv X pins σ H s)(g:Cf H a y v H')(o:RelV y u)(p:RelV v r)(h:∀t,Inv X pins σ H' t→Q () t):
  wpAny (model X.prog X.w) A (Kg (.ref a) u r) Q E s:=by
 rcases g with⟨kvs,k,e,j,l,m⟩ | ⟨kvs,k,b,e,j,x,l,m⟩
 ·subst j m;obtain⟨z,hd,vs,d,dd⟩:=Bw I.hok e;have n:vs.length≤sizeLine:=by rw[←d.length];exact z
  have hl:(putK kvs k v).length≤sizeLine:=by have:=jK kvs k v;omega
  refine wpAny_setItem_pairs (hsz:=n) (fZ o) dd λh' f hs=>h _ ?_;have G:∃q,h'.get? a=g7 q:=let⟨q,_,_,i,_⟩:=f;⟨q,i⟩;exact qw I (by rw[e];exact True.intro) hs G (mu hl hd (d.put k p) f)
 ·subst j m;cases(show u=Value.ref b from o);obtain⟨z,hd,xs,d,dd⟩:=JK I.hok e;have n:xs.length≤sizeLine:=by rw[←cZ d];exact z
  have hl:(putK kvs k v).length≤sizeLine:=by have:=jK kvs k v;omega
  refine wpAny_setItem_heap (hsz:=n) (Z1 F) (jj I.hok x) dd λh' f hs=>h _ ?_;obtain⟨q,es,J,i,L,N,O,_,P⟩:=f;refine qw I (by rw[e];exact True.intro) hs ⟨q,i⟩ ⟨hl,hd,_,(d.put k x p).keeps λc R B=>?_,q,es,J,i,L,N,O,P⟩;rw[i9 (Js B e (λz=>nomatch z))];exact B
end
section
variable {X:Cx}{pins:List (Addr×Obj)}{σ:St}{H:Hp}{s:Shared}{a:Addr}{kvs:List (Key×V)}{k:Key}{u:Value}{A:Around}{E:Value→Shared→Prop}
theorem JM(I:Inv X pins σ H s)(e:H a=g7 (.dK kvs))(f:RelV (kV k) u)(l:bN kvs k=g7 v)(j:more=[]∨∃x,more=[x])
  (h:∀c m,Inv X pins σ (upd H a (.dK (iK kvs k))) m→RelV v c→Q c m):wpAny (model X.prog X.w) A (call (.builtin "dict.pop") (.ref a::u::more)) Q E s:=by
 obtain⟨z,hd,vs,b,dd⟩:=Bw I.hok e;obtain⟨c,n,g⟩:=bG.some_of (v:=v) (o:=gU vs k) (by rw[←l];exact b.val k);have p:(keyPart u).isSome=h7:=by
  cases k with
  |inl i=>obtain⟨t,q⟩:=(show∃t,u=Value.int i t from f);subst q;rfl
  |inr x=>obtain⟨t,q⟩:=(show∃t,u=Value.str x t from f);subst q;rfl
 have r:argsOk "dict.pop" ⟨.ref a::u::more,[]⟩:=by
  rcases j with q| ⟨x,q⟩
  ·subst q;exact PySem.F.args_dict_pop_2 _ _
  ·subst q;exact PySem.F.args_dict_pop_3 _ _ _
 refine pa PySem.F.slot_dict_pop dd.typeIs PySem.F.entry_dict_pop r (meets_dict_pop_there (w6 X.prog X.w) a (fZ f) more j p)
  ⟨vs,c,dd,by rw[←b.length];exact z,n,λh' d hs=>h c _ ?_ g⟩
 have y:∃q,h'.get? a=g7 q:=let⟨q,_,_,B,_⟩:=d;⟨q,B⟩;exact qw I (by rw[e];exact True.intro) hs y (mu (m8 (Bv kvs k) z) hd (b.drop k) d)
theorem HB(I:Inv X pins σ H s)(e:H a=g7 (.dK kvs))(b:RelV (kV k) u)(l:bN kvs k=g9)(h:∀d,Inv X pins σ H d→Q r d):
  wpAny (model X.prog X.w) A (call (.builtin "dict.pop") [.ref a,u,r]) Q E s:=by
 obtain⟨z,hd,vs,c,dd⟩:=Bw I.hok e;have f:gU vs k=g9:=bG.none_of (by rw[←l];exact c.val k);have g:(keyPart u).isSome=h7:=by
  cases k with
  |inl i=>obtain⟨t,q⟩:=(show∃t,u=Value.int i t from b);subst q;rfl
  |inr x=>obtain⟨t,q⟩:=(show∃t,u=Value.str x t from b);subst q;rfl
 exact pa PySem.F.slot_dict_pop dd.typeIs PySem.F.entry_dict_pop (PySem.F.args_dict_pop_3 _ _ _) (meets_dict_pop_default (w6 X.prog X.w) a (fZ b) hd g r) ⟨vs,dd,f,h _ (I.tok _)⟩
theorem ag(I:Inv X pins σ H s)(e:Rd H a (.dK kvs))(h:∀t c,Inv X pins σ H c→Q (.int kvs.length t) c):wpAny (model X.prog X.w) A (call (.builtin "len") [.ref a]) Q E s:=by
 obtain⟨z,hd,vs,b,dd⟩:=V8 I.hok e;refine call_len_dict hd dd (by rw[←b.length];rw[v8]at z;omega) ?_;rw[←b.length];exact h _ _ (I.tok _)
end
theorem sP(I:Inv X pins σ H s)(g:eu H a y o):s.TypeIs (.ref a) "dict":=by
 rcases g with⟨kvs,k,e,_,_⟩ | ⟨kvs,k,b,e,_,_,_⟩
 ·obtain⟨_,_,vs,_,dd⟩:=V8 I.hok e;exact dd.typeIs
 ·obtain⟨_,_,xs,_,dd⟩:=mq I.hok e;exact dd.typeIs
theorem Bx(h:Heap)(a:P4<h.objs.size):B9 P w H (h.push {cls:=.type "dict",data:=.dict #[]}) h.objs.size (.dK []):=
 ⟨u3 _,beq_eq_false_iff_ne.mpr (o1 (j9 a)),[],.nil,Heap.DictOf.new h⟩
noncomputable def FV:TE:=λ_ H Q=>∀p,H p=g9→Q (.ref p) (upd H p (.dK []))
section
variable {X:Cx}{pos:Pos}
theorem zS:PE X (.Dict [] [] pos) FV:=λpins s σ H Q I h=>
 wpAny_Dict_empty ⟨.ref s.heap.objs.size,_,I.laid (a:=s.heap.objs.size) (o:=.dK []) (t':=s.toks) (λ_ _ q=>Heap.get?_push_of_some _ q) (i8 _) (Bx s.heap I.big),rfl,h _ (I.hok.fresh (i8 _))⟩
end
structure M1 (X:Cx) (o:Expr) (m:Str) (apos:Pos) (e:Expr) (cpos:Pos):Prop where
 base:v7 o m X.env (eval o X.env)=eval o X.env
 few:((m4 cpos (i1 [e] X.env)).all (λx=>!x.1)&&(y7 cpos (n7 [] X.env)).all (λx=>x.1.isSome)
  && decide (([e]:List Expr).length+([]:List Keyword).length+(if([]:List Keyword).isEmpty then 0 else 1)<30))=true
 line:(apos.endLine==cpos.line)=true
 trees:m4 cpos (i1 [e] X.env)=[(false,eval e X.env)]
structure M2 (X:Cx) (o:Expr) (m:Str) (apos:Pos) (e f:Expr) (cpos:Pos):Prop where
 base:v7 o m X.env (eval o X.env)=eval o X.env
 few:((m4 cpos (i1 [e,f] X.env)).all (λx=>!x.1)&&(y7 cpos (n7 [] X.env)).all (λx=>x.1.isSome)
  && decide (([e,f]:List Expr).length+([]:List Keyword).length+(if([]:List Keyword).isEmpty then 0 else 1)<30))=true
 line:(apos.endLine==cpos.line)=true
 trees:m4 cpos (i1 [e,f] X.env)=[(false,eval e X.env),(false,eval f X.env)]
def LX (H:Hp)(a:Addr):Prop:=(∃kvs,Rd H a (.dK kvs))∨∃kvs,Rd H a (.dT kvs)
theorem AA(I:Inv X pins σ H s)(d:LX H a):
  s.TypeIs (.ref a) "dict"∧(∀b,Value.ref a=.ref b→∃ob,s.heap.get? b=g7 ob∧ob.dict=g9)∧(a==P4)=g8:=by
 rcases d with⟨kvs,e⟩ | ⟨kvs,e⟩
 ·obtain⟨_,hd,vs,_,dd⟩:=V8 I.hok e;refine⟨dd.typeIs,λb q=>?_,hd⟩;cases q;obtain⟨ob,_,_,c,f,_⟩:=dd;exact⟨ob,c,f.2.1⟩
 ·obtain⟨_,hd,xs,_,dd⟩:=mq I.hok e;refine⟨dd.typeIs,λb q=>?_,hd⟩;cases q;obtain⟨ob,_,_,c,f,_⟩:=dd;exact⟨ob,c,f.2.1⟩
section
variable {X:Cx}{pins:List (Addr×Obj)}{σ:St}{H:Hp}{s:Shared}{a:Addr}{y d:V}{u r:Value}{o:Option V}{A:Around}{E:Value→Shared→Prop}
theorem qy(m:A.units+1<E7)(I:Inv X pins σ H s)(g:eu H a y o)(f:RelV y u)(h:∀i j,Inv X pins σ H j→RelV (o.getD .z5) i→Q i j):
  wpAny (model X.prog X.w) A (call (.builtin "dict.get") [.ref a,u]) Q E s:=by
 rcases g with⟨kvs,k,e,d,l⟩ | ⟨kvs,k,b,e,d,n,l⟩
 ·subst d;obtain⟨z,hd,vs,c,dd⟩:=V8 I.hok e;refine pa PySem.F.slot_dict_get dd.typeIs PySem.F.entry_dict_get (PySem.F.args_dict_get_2 _ _) (meets_dict_get (w6 X.prog X.w) a (fZ f) hd) ⟨_,dd.mapOf,h _ _ (I.tok _) ?_⟩;rw[l];exact(c.val k).getD rfl
 ·subst d;cases(show u=Value.ref b from f);obtain⟨z,hd,xs,c,dd⟩:=mq I.hok e;refine pa PySem.F.slot_dict_get dd.typeIs PySem.F.entry_dict_get (PySem.F.args_dict_get_2 _ _) (meetsH_dict_get (ky (w6 X.prog X.w)) a b hd) ⟨Z1 m,k,xs,jj I.hok n,dd,h _ _ (I.tok _) ?_⟩;rw[l];exact(c.val k).getD rfl
end
noncomputable def FW (c ty:TE):TE:=λσ H Q=>c σ H λx H1=>∃a,x=.ref a∧LX H1 a∧ty σ H1 λy b=>∃o,eu b a y o∧Q (o.getD .z5) b
noncomputable def FU (c ty tx:TE):TE:=λσ H Q=>c σ H λx H1=>∃a,x=.ref a∧LX H1 a∧ty σ H1 λy d=>tx σ d λz b=>∃kvs k,b a=g7 (.dK kvs)∧y=kV k∧
 (∀v,bN kvs k=g7 v→Q v (upd b a (.dK (iK kvs k))))∧(bN kvs k=g9→Q z b)
section
variable {X:Cx}{o e f:Expr}{apos cpos:Pos}{td ty tx:TE}
theorem zT (f:X.A.units+1<E7)(i:PE X o td)(j:PE X e ty)(m:M1 X o "get" apos e cpos):PE X (.Call (.Attribute o "get" apos) [e] [] cpos) (FW td ty):=by
 intro pins s σ H Q I h;refine Kd m.base m.few m.line PySem.F.plainAttrs_dict PySem.F.slot_dict_get PySem.F.type_dict_get (F9 (i pins s σ H _ I h) λu s1 ⟨x,H1,c,k,a,ex,d,l⟩=>?_);subst ex;obtain rfl:u=Value.ref a:=k;obtain⟨n,p,_⟩:=AA c d;refine⟨n,p,?_⟩;rw[m.trees];refine ez rfl (aI (W1 (F9 (j pins s1 σ H1 _ c l) λiv s2 ⟨y,q,r,t,z,g,v⟩=>de ?_)));exact qy f r g t λB E w b=>⟨_,q,w,b,v⟩
theorem zR (p:PE X o td)(q:PE X e ty)(r:PE X f tx)(m:M2 X o "pop" apos e f cpos):PE X (.Call (.Attribute o "pop" apos) [e,f] [] cpos) (FU td ty tx):=by
 intro pins s σ H Q I h;refine Kd m.base m.few m.line PySem.F.plainAttrs_dict PySem.F.slot_dict_pop PySem.F.type_dict_pop (F9 (p pins s σ H _ I h) λu s1 ⟨x,H1,g,t,a,ex,d,w⟩=>?_);subst ex;obtain rfl:u=Value.ref a:=t;obtain⟨A,B,_⟩:=AA g d;refine⟨A,B,?_⟩;rw[m.trees];refine ez rfl (aI (W1 (F9 (q pins s1 σ H1 _ g w) λiv s2 ⟨y,E,G,i,J⟩=>
  W1 (F9 (r pins s2 σ E _ G J) λL T ⟨z,N,j,rz,kvs,k,n,O,P,R⟩=>de ?_))))
 subst O;cases l:bN kvs k with
 |some v=>exact JM j n i l (.inr ⟨L,rfl⟩) λU S b c=>⟨v,_,b,c,P v l⟩
 |none=>exact HB j n i l λS b=>⟨z,N,b,rz,R l⟩
end
section
variable {X:Cx}{pins:List (Addr×Obj)}{σ:St}{H:Hp}{s:Shared}{a:Addr}{kvs:List (Key×V)}{A:Around}{E:Value→Shared→Prop}
theorem BD(I:Inv X pins σ H s)(e:Rd H a (.dK kvs))(h:∀p f,H p=g9→Inv X pins σ (upd H p (.dK kvs)) f→Q (.ref p) f):wpAny (model X.prog X.w) A (call (.type "dict") [.ref a]) Q E s:=by
 obtain⟨z,hd,vs,c,dd⟩:=V8 I.hok e;refine kt_call_dict hd dd (by rw[←c.length];exact z) λh' d hs=>?_;refine h _ _ (I.hok.fresh (i8 _)) (I.laid (a:=s.heap.objs.size) (o:=.dK kvs) (t':=s.toks) (λb q g=>?_) (i8 _) (mu z (beq_eq_false_iff_ne.mpr (o1 (j9 I.big))) c d));exact(hs.2 b (j9 (Heap.lt_size g))).trans (Heap.get?_push_of_some _ g)
end
theorem gN {env:Env}:∀(names:List (Str×NameKind)) (cs:List (Str×Addr)),(∀n,(n,NameKind.free)∈names→∃c,env.cells.lookup n=g7 c)→(∀n c,cs.lookup n=g7 c→env.cells.lookup n=g7 c)→
  ∃cl,(forIn names cs (λx r=>match x with| (name,kind)=>if(kind==NameKind.free)=h7 then do
   let c←cellOf env name
   pure (ForInStep.yield ((name,c)::r))else pure (ForInStep.yield r)):Sem (List (Str×Addr)))=pure cl∧(∀n c,cl.lookup n=g7 c→env.cells.lookup n=g7 c)∧(∀n,(n,NameKind.free)∈names→∃c,cl.lookup n=g7 c)∧(∀n c,cs.lookup n=g7 c→∃i,cl.lookup n=g7 i)
 | [],cs,_,m=>⟨cs,rfl,m,λ_ h=>by simp at h,λn c h=>⟨c,h⟩⟩
 | (name,kind)::f,cs,p,m=>by
  have l:∀n,(n,NameKind.free)∈f→∃c,env.cells.lookup n=g7 c:=λn h=>p n (List.mem_cons_of_mem _ h);rw[List.forIn_cons];by_cases hk:kind=NameKind.free
  ·subst hk;obtain⟨c,q⟩:=p name List.mem_cons_self;have o:∀n i,((name,c)::cs).lookup n=g7 i→env.cells.lookup n=g7 i:=λn i h=>by
    rw[List.lookup_cons]at h;cases j:n==name with
    |true=>
     rw[j]at h;have e:n=name:=eq_of_beq j;subst e;have s:c=i:=by simpa using h
     subst s;exact q
    |false=>
     rw[j]at h;exact m n i h
   obtain⟨cl,e,a,b,d⟩:=gN f ((name,c)::cs) l o;refine⟨cl,?_,a,λn g=>?_,λn i h=>?_⟩
   ·have k:cellOf env name=pure c:=by unfold cellOf;rw[q]
    simp only[beq_self_eq_true,if_true,k,pure_bind];exact e
   ·rcases List.mem_cons.mp g with g|g
    ·have t:n=name:=(Ib g).1;subst t;exact d n c (by simp[List.lookup_cons])
    ·exact b n g
   ·cases j:n==name with
    |true=>exact d n c (by rw[List.lookup_cons,j])
    |false=>exact d n i (by rw[List.lookup_cons,j];exact h)
  ·have j:(kind==NameKind.free)=g8:=by simpa using hk
   obtain⟨cl,e,a,b,d⟩:=gN f cs l m;refine⟨cl,?_,a,λn g=>?_,d⟩
   ·simp only[j,jB,if_false,pure_bind];exact e
   ·rcases List.mem_cons.mp g with g|g
    ·exact absurd (Ib g).2.symm hk
    ·exact b n g
theorem uQ {scope:Scope}{env:Env}(h:∀n,(n,NameKind.free)∈scope.names→∃c,env.cells.lookup n=g7 c):
  ∃cl,closureFor scope env=pure cl∧(∀n c,cl.lookup n=g7 c→env.cells.lookup n=g7 c)∧(∀n,(n,NameKind.free)∈scope.names→∃c,cl.lookup n=g7 c):=by
 obtain⟨cl,e,a,b,_⟩:=gN (env:=env) scope.names [] h (λn c h=>by simp at h);refine⟨cl,?_,a,b⟩;unfold closureFor;have d:=congrArg (λ(m:Sem (List (Str×Addr)))=>m >>= λcs=>pure cs) e;simp only[pure_bind]at d;exact d
noncomputable abbrev Cx.gj (X:Cx)(scope:Scope)(cl:List (Str×Addr))(C:Addr)(M:List Str)(s:Shared)(H:Hp)(ex:List Addr):Cx:=
 {X with N:=M,s₀:=s,H₀:=H,env:=compEnvC scope cl C X.env,outer:=X.stack,stack:=X.stack,ex:=ex,fn:=λy=>scope.names.lookup y==g7 .cell,pn:=[],xe:=λ_ _=>False}
structure wI (X:Cx) (scope:Scope) (M:List Str) (own:Nat) (fr:List Nat):Prop where
 kind:scope.kind=.function
 cells:∀y∈scope.names,y.2=.cell→scope.names.lookup y.1=some .cell
 names:∀y∈scope.names,y.2=.local→scope.names.lookup y.1=some .local
 free:∀y∈scope.names,y.2=.free→X.env.kindOf y.1=some .cell∨X.env.kindOf y.1=some .free
 nd:M.Nodup
 len:M.length=own+fr.length
 at':∀i j,fr[i]?=some j→M[own+i]?=X.N[j]?∧∃n,X.N[j]?=some n∧scope.names.lookup n=some .free∧(X.env.kindOf n=some .cell∨X.env.kindOf n=some .free)
noncomputable def seen (own:Nat)(fr:List Nat)(σ:St):St:=List.replicate own g9++fr.map λj=>(σ[j]?).join
theorem dB {g:Str×NameKind→Str×NameKind}(a:∀p,(g p).1=p.1):∀(names:List (Str×NameKind)) (n:Str),(names.map g).lookup n=(names.lookup n).map λk=>(g (n,k)).2
 | [],_=>rfl
 | (m,k)::r,n=>by
  have e:g (m,k)=(m,(g (m,k)).2):=yC (a (m,k)) rfl;rw[List.map_cons,e];by_cases hx:n=m
  ·subst hx;simp[List.lookup_cons]
  ·have b:(n==m)=g8:=by simpa using hx
   simp only[List.lookup_cons,b];exact dB a r n
theorem cw (scope:Scope)(env:Env):∃g:Str×NameKind→Str×NameKind,(ve scope env).names=scope.names.map g∧(∀p,(g p).1=p.1)∧∀n k,(g (n,k)).2=k∨(k=.free∧(g (n,k)).2=.cell):=by
 refine⟨_,rfl,λp=>?_,λn k=>?_⟩
 ·obtain⟨n,k⟩:=p;dsimp only;split<;>rfl
 ·dsimp only;by_cases a:(k==NameKind.free&&env.scope.kind==ScopeKind.function&&env.kindOf n==g7 NameKind.cell)=h7
  ·rw[if_pos a];refine .inr ⟨?_,rfl⟩;simp only[l8]at a;exact eq_of_beq a.1.1
  ·rw[if_neg a];exact .inl rfl
theorem pB {scope:Scope}(h:scope.names.lookup n=g7 .free):(ve scope env).names.lookup n=g7 .free∨(ve scope env).names.lookup n=g7 .cell:=by
 obtain⟨g,e,a,b⟩:=cw scope env;rw[e,dB a,h];rcases b n .free with q| ⟨_,q⟩
 ·exact .inl (by show g7 (g (n,.free)).2=_;rw[q])
 ·exact .inr (by show g7 (g (n,.free)).2=_;rw[q])
theorem jI {scope:Scope}(h:scope.names.lookup n=g7 .cell):(ve scope env).names.lookup n=g7 .cell:=by
 obtain⟨g,e,a,b⟩:=cw scope env;rw[e,dB a,h];rcases b n .cell with q| ⟨q,_⟩
 ·show g7 (g (n,.cell)).2=_;rw[q]
 ·cases q
theorem pC(h:(ve scope env).names.lookup n=g7 .cell∨(ve scope env).names.lookup n=g7 .free):(n,NameKind.free)∈scope.names∨(n,NameKind.cell)∈scope.names:=by
 obtain⟨g,e,b,c⟩:=cw scope env;rw[e,dB b]at h;cases hk:scope.names.lookup n with
 |none=>rw[hk]at h;rcases h with h|h<;>cases h
 |some k=>
  have a:=PySem.mem_of_lookup hk;rw[hk]at h;have h':(g (n,k)).2=.cell∨(g (n,k)).2=.free:=by
   rcases h with h|h
   ·exact .inl (Option.some.inj h)
   ·exact .inr (Option.some.inj h)
  rcases c n k with q| ⟨q,_⟩
  ·rcases h' with z|z
   ·rw[q.symm.trans z]at a;exact .inr a
   ·rw[q.symm.trans z]at a;exact .inl a
  ·rw[q]at a;exact .inl a
theorem B3:∀(names:List (Str×NameKind)) (n:Nat) (a:List (Str×Addr)),cellsFrom n names a=cellsFrom n names []++a
 | [],_,_=>rfl
 | (x,k)::r,n,a=>by
  unfold cellsFrom;split
  ·rw[B3 r (n+1) ((x,n)::a),B3 r (n+1) [(x,n)],List.append_assoc];rfl
  ·exact B3 r n a
theorem bF:∀(names:List (Str×NameKind)) (n:Nat) (x:Str) (c:Addr),(x,c)∈cellsFrom n names []→(x,NameKind.cell)∈names
 | [],_,_,_,h=>by cases h
 | (y,k)::r,n,x,c,h=>by
  unfold cellsFrom at h;split at h
  ·rename_i hk;rw[B3]at h;rcases List.mem_append.mp h with h|h
   ·exact List.mem_cons_of_mem _ (bF r (n+1) x c h)
   ·have e:=List.mem_singleton.mp h;cases e;rw[eq_of_beq hk];exact List.mem_cons_self
  ·exact List.mem_cons_of_mem _ (bF r n x c h)
theorem Z0:∀(names:List (Str×NameKind)) (n:Nat) (x:Str),(x,NameKind.cell)∈names→∃c,(x,c)∈cellsFrom n names []
 | [],_,_,h=>by cases h
 | (y,k)::r,n,x,h=>by
  unfold cellsFrom;rcases List.mem_cons.mp h with h|h
  ·cases h;rw[if_pos (by rfl),B3];exact⟨n,List.mem_append_right _ (List.mem_singleton.mpr rfl)⟩
  ·split
   ·obtain⟨c,a⟩:=Z0 r (n+1) x h;rw[B3];exact⟨c,List.mem_append_left _ a⟩
   ·exact Z0 r n x h
theorem cz:∀{l:List (Str×Addr)} {c:Addr},(x,c)∈l→∃a,l.lookup x=g7 a
 | (k,v)::r,c,h=>by
  rw[List.lookup_cons];cases b:x==k with
  |true=>exact⟨v,rfl⟩
  |false=>
   rcases List.mem_cons.mp h with e|h
   ·cases e;simp at b
   ·exact cz h
theorem gO {scope:Scope}(h:(cellsFrom n scope.names cl).lookup x=g7 c):((x,c)∈cellsFrom n scope.names []∧(cellsFrom n scope.names []).lookup x=g7 c)∨cl.lookup x=g7 c:=by
 rw[B3,List.lookup_append]at h;cases e:(cellsFrom n scope.names []).lookup x with
 |some a=>
  rw[e]at h;cases h;exact .inl ⟨mem_of_lookup e,rfl⟩
 |none=>rw[e]at h;exact .inr h
theorem sW {scope:Scope}{cl:List (Str×Addr)}(h:(x,NameKind.cell)∈scope.names∨∃c,cl.lookup x=g7 c):∃c,(cellsFrom n scope.names cl).lookup x=g7 c:=by
 rw[B3,List.lookup_append];cases e:(cellsFrom n scope.names []).lookup x with
 |some a=>exact⟨a,rfl⟩
 |none=>
  rcases h with h| ⟨c,h⟩
  ·obtain⟨c,d⟩:=Z0 scope.names n x h;obtain⟨a,b⟩:=cz d;rw[e]at b;cases b
  ·exact⟨c,h⟩
theorem uc{s:Shared}{env:Env}
  (h:Q {scope,locals:=s.heap.objs.size,globals:=env.globals,cells:=cellsFrom (s.heap.objs.size+1) scope.names cl,qual:=env.qual,func:=g9,code:=env.code,frame:=env.frame,builtins:=env.builtins} {s with heap:=pushCells (s.heap.push {cls:=.type "dict",data:=.dict #[]}) scope.names}):
  wpAny M A (Nq scope env.globals cl [] env.qual g9 .none (g7 env)) Q E s:=by
 simp only[Nq,Option.isSome_some,if_true];refine wpAny_bind (wpAny_alloc ?_);refine wpAny_bind (wpAny_layCells _ (λname kind cells=>by cases a:kind==NameKind.cell<;>simp[a]) _ _ _ _ ?_);rw[show({s with heap:=s.heap.push {cls:=.type "dict",data:=.dict #[]}}:Shared).heap.objs.size=s.heap.objs.size+1 from Heap.size_push ..];exact i6 h
def PF (X:Cx)(a:List Expr)(t:TT):Prop:=
 ∀(pins:List (Addr×Obj)) (s:Shared) (σ:St) (H:Hp) (Q:Bool→Hp→Prop),Inv X pins σ H s→t σ H Q→
  wpAny (model X.prog X.w) X.A (forIn a h7 λc r=>if r=h7 then do let ok←wP c X.env (eval c X.env);pure (ForInStep.yield ok)else pure (ForInStep.yield r)) (TP X pins σ Q) X.xe s
noncomputable def Lj:TT:=λ_ H Q=>Q h7 H
theorem Gy:PF X [] Lj:=λ_ _ _ H _ I h=>wpAny_tests_nil ⟨H,I,h⟩
theorem Gx(h:PT X c t):PF X [c] t:=λpins s σ H Q I a=>wpAny_tests_one (h pins s σ H Q I a)
section
variable {prog:Program}{w:World}{A:Around}{R:ID→Shared→Prop}{s:Shared}
theorem qC(I:Nat→Shared→Prop)
  (f:∀n s,I n s→wpAny (model prog w) A (pyNext it) (λr s1=>match r with
   |none=>R (.ok .next) s1
   |some v=>wpAny (model prog w) A (iV a it v) (λ_ g=>wpAny (model prog w) A (mU a env v) (λ_ s2=>
     wpAny (model prog w) A (forIn d h7 λc r=>if r=h7 then do let ok←wP c env (eval c env);pure (ForInStep.yield ok)else pure (ForInStep.yield r)) (λok i=>
      if ok=h7 then wpAny (model prog w) A (eval b env) (λx k=>
       wpAny (model prog w) A (call (.builtin "list.append") [e,x]) (λ_ l=>∃m,m<n∧I m l) (λ_ _=>False) k) (λ_ _=>False) i
      else∃m,m<n∧I m i) (λ_ _=>False) s2) (λ_ _=>False) g) (λ_ _=>False) s1) (λ_ _=>False) s)
  (n:Nat) (h:I n s):
  aH (model prog w) A (.compLoop (.ListComp b [⟨a,iter,d,0⟩] scope pos) 0 it e env) R s:=by
 refine codeAny_loop rfl I (λn s q=>?_) n h;show wpAny _ A ((compTurn (.ListComp b [⟨a,iter,d,0⟩] scope pos) 0 it e env).onRaise (λx=>do noteFrame x env;theTreesLotGoes x)) _ _ s;refine wpAny_noted ?_;rw[compTurn_list];refine wpAny_bind (wpAny_standAt (wpAny_bind (wpAny_mono (f n s q) (λr s1 o=>?_) λ_ _ h'=>h'.elim)));cases r with
 |none=>exact i6 o
 |some v=>
  refine wpAny_bind (wpAny_mono o (λ_ g j=>?_) λ_ _ h'=>h'.elim);refine wpAny_bind (wpAny_mono j (λ_ s2 t=>wpAny_bind (wpAny_mono t (λok i p=>?_) λ_ _ h'=>h'.elim)) λ_ _ h'=>h'.elim);cases ok with
  |false=>exact i6 ⟨rfl,p⟩
  |true=>
   exact wpAny_bind (wpAny_bind (wpAny_mono p (λx k u=>wpAny_bind (wpAny_mono u (λ_ l y=>i6 (i6 ⟨rfl,y⟩)) λ_ _ h'=>h'.elim)) λ_ _ h'=>h'.elim))
end
def qQ (own:Nat)(fr:List Nat)(g:TG):Prop:=∀x σ H R,g x (seen own fr σ) H R→g x (seen own fr σ) H λa b=>(∀(i:Nat) v,(seen own fr σ)[i]?=g7 (g7 v)→a[i]?=g7 (g7 v))∧R a b
def HU (J:It)(g:TG)(j:TT)(k:TE)(own:Nat)(fr:List Nat)(σ:St)(Q:VK)(H1:Hp):Prop:=
 ∃W:Nat→Nat→List V→Hp→Prop,(∃m,W 0 m [] H1)∧∀i m b a,W i m b a→
  (J.stop i a∧∀p,a p=g9→Q (.ref p) (upd a p (.lst b)))∨
  (J.go i a∧b.length<sizeLine∧∃N:List V→Hp→Prop,(∀d H',N d H'→∃f,f<m∧W (i+1) f d H')∧
   ∀x H',J.yld i a x H'→g x (seen own fr σ) H' λe l=>j e l λc h=>if c=h7 then k e h λy n=>N (b++[y]) n else N b h)
noncomputable def nU (a:TI)(g:TG)(b:TT)(c:TE)(own:Nat)(fr:List Nat):TE:=λσ H Q=>a σ H λJ H1=>HU J g b c own fr σ Q H1
section
variable {X:Cx}{pins:List (Addr×Obj)}{σ:St}{H H2:Hp}{s s2:Shared}
theorem rp(h:(seen own fr σ)[i]?=g7 (g7 v)):∃k j,i=own+k∧fr[k]?=g7 j∧σ[j]?=g7 (g7 v):=by
 unfold seen at h;by_cases hi:i<own
 ·rw[List.getElem?_append_left (by simpa using hi),List.getElem?_replicate,if_pos hi]at h;cases h
 ·rw[List.getElem?_append_right (by simpa using hi)]at h;simp only[List.length_replicate,List.getElem?_map]at h;cases e:fr[i-own]? with
  |none=>rw[e]at h;cases h
  |some j=>
   rw[e]at h;simp only[Option.map_some,Option.some.injEq]at h;refine⟨i-own,j,by omega,e,?_⟩;cases q:σ[j]? with
   |none=>rw[q]at h;cases h
   |some o=>
    rw[q]at h;have h':o=g7 v:=h;rw[h']
theorem seen_length (own:Nat)(fr:List Nat)(σ:St):(seen own fr σ).length=own+fr.length:=by
 unfold seen;rw[List.length_append,List.length_replicate,List.length_map]
theorem vW(hi:i<own):qQ own fr (jN i):=λx σ H R h=>⟨λk v e=>by
 obtain⟨j,_,rfl,_⟩:=rp e;rw[List.getElem?_set_ne (by omega)];exact e,h⟩
theorem Inv.block {scope:Scope}{M:List Str}{own:Nat}{fr:List Nat}{cl:List (Str×Addr)}{h1:Heap}{fp:List Addr}{t1:Nat}(B:wI X scope M own fr)(I:Inv X pins σ H2 s2)
  (d:∀n c,cl.lookup n=g7 c→X.env.cells.lookup n=g7 c∨(scope.names.lookup n=g7 .cell∧s2.heap.objs.size+1<c∧h1.IsCell c g9)) (U:∀n n' c,cl.lookup n=g7 c→cl.lookup n'=g7 c→s2.heap.objs.size+1<c→n=n') (G:∀n,(n,NameKind.free)∈scope.names∨(n,NameKind.cell)∈scope.names→∃c,cl.lookup n=g7 c)
  (Y:∀n c,cl.lookup n=g7 c→scope.names.lookup n=g7 .cell→s2.heap.objs.size+1<c)
  (t:∀b∈fp,mL X pins H2 b∧b<s2.heap.objs.size)
  (Z:h1.Ns (s2.heap.objs.size+1) λ_=>g9) (F:∀b o,b<s2.heap.objs.size+1→(s2.heap.push {cls:=.type "list",data:=.seq ([]:List Value).toArray}).get? b=g7 o→h1.get? b=g7 o):
  Inv (X.gj scope cl (s2.heap.objs.size+1) M {s2 with heap:=s2.heap.push {cls:=.type "list",data:=.seq ([]:List Value).toArray}} H2 (s2.heap.objs.size::fp))
   [(s2.heap.objs.size,{cls:=.type "list",data:=.seq ([]:List Value).toArray})] (seen own fr σ) H2 {s2 with heap:=h1,toks:=t1}:=by
 have f:∀b o,s2.heap.get? b=g7 o→(s2.heap.push {cls:=.type "list",data:=.seq ([]:List Value).toArray}).get? b=g7 o:=λb o e=>Heap.get?_push_of_some _ e;have old:∀b o,s2.heap.get? b=g7 o→h1.get? b=g7 o:=λb o e=>F b o (t9 (Heap.lt_size e)) (f b o e);have hD:h1.get? s2.heap.objs.size=g7 {cls:=.type "list",data:=.seq ([]:List Value).toArray}:=F _ _ (u7 _) (Heap.get?_push_size _ rfl);have a0:H2 s2.heap.objs.size=g9:=I.hok.fresh (i8 _);have a1:H2 (s2.heap.objs.size+1)=g9:=I.hok.fresh (bd _);have s:∀x c,X.env.cells.lookup x=g7 c→c<s2.heap.objs.size:=λx c e=>by
  obtain⟨v,q⟩:=I.cell x c e;exact q.lt
 have A:(s2.heap.push {cls:=.type "list",data:=.seq ([]:List Value).toArray}).objs.size=s2.heap.objs.size+1:=Heap.size_push _ _;have Ok:(X.gj scope cl (s2.heap.objs.size+1) M {s2 with heap:=s2.heap.push {cls:=.type "list",data:=.seq ([]:List Value).toArray}} H2 (s2.heap.objs.size::fp)).Ok:=by
  refine⟨I.ok.mod,B.kind,I.ok.glob,I.ok.blt,?_,?_,?_,?_,I.ok.hd,I.ok.frames,.inl rfl,?_,?_,?_,?_,?_,?_,?_⟩
  ·show(s2.heap.push _).objs.size≤s2.heap.objs.size+1;rw[A];exact i8 _
  ·intro x y c R S;rcases d _ _ R with T| ⟨_,T,_⟩
   ·rcases d _ _ S with q2| ⟨_,q2,_⟩
    ·exact I.ok.inj x y c T q2
    ·exact absurd (U2 (t9 (s x c T)) q2) (n8 _)
   ·exact U x y c R S T
  ·intro x hx;exact G x (pC hx)
  ·intro x c hx e;have q:=Y x c e (eq_of_beq hx);show(s2.heap.push _).objs.size≤c;rw[A];omega
  ·intro b a;rcases List.mem_cons.mp a with rfl|a
   ·refine⟨j9 (u7 _),λx c e=>?_⟩;rcases d _ _ e with q| ⟨_,q,_⟩
    ·exact j9 (s x c q)
    ·exact y0 (U2 (u7 _) q)
   ·refine⟨j9 (t9 (t b a).2),λx c e=>?_⟩;rcases d _ _ e with q| ⟨_,q,_⟩
    ·exact(t b a).1.2.2.2.2.1 x c q
    ·exact y0 (U2 (t9 (t b a).2) q)
  ·intro b o e;exact⟨f b o (I.bs b o e).1,(I.bs b o e).2⟩
  ·show X.base.objs.size≤(s2.heap.push _).objs.size;rw[A];exact kP (m8 I.ok.bsz I.sz)
  ·intro b o e a;rcases List.mem_cons.mp a with rfl|a
   ·exact absurd (Heap.lt_size (I.bs _ _ e).1) (n8 _)
   ·have q:=(t b a).1.2.2.2.1;rcases q with q|q
    ·exact I.ok.noex b o e q
    ·exact absurd (l7 (Heap.lt_size (I.ok.bs b o e).1) q) (n8 _)
  ·intro b a H;have J:b∈frs X.stack:=H;rcases List.mem_cons.mp a with rfl|a
   ·rcases List.mem_cons.mp (I.jc _ J)with e|e
    ·exact absurd I.lt (by rw[←e];exact n8 _)
    ·exact I.GO (i8 _) e
   ·rcases List.mem_cons.mp (I.jc _ J)with e|e
    ·exact(t b a).1.2.1 e
    ·exact(t b a).1.2.2.1 e
  ·have q:=I.stack;have all:∀(l:List Env),s2.heap.FunFrames X.base l→(s2.heap.push {cls:=.type "list",data:=.seq ([]:List Value).toArray}).FunFrames X.base l:=by
    intro l;induction l with
    |nil=>intro _;trivial
    |cons env r ih=>
     intro hl;obtain⟨hk,⟨L,o,H,hn,N,hd⟩,hr⟩:=hl;exact⟨hk,⟨L,o,H,hn,f L o N,hd⟩,ih hr⟩
   exact all _ q
  ·intro b a;exact I.vo b a
 refine⟨Ok,rfl,I.bare,?_,?_,?_,a1,?_,?_,I.hok.kept old,?_⟩
 ·refine Un.kept λb u e=>?_;exact F b u (by have:=Heap.lt_size e;rw[A]at this;exact this) e
 ·refine⟨_,Z,λi x v R S e3=>?_⟩;obtain⟨k,j,rfl,hk,hv⟩:=rp S;obtain⟨e4,n,e5,g,w⟩:=B.at' k j hk;have ex:x=n:=by
   have O:M[own+k]?=g7 x:=R;rw[e4,e5]at O;exact(Option.some.inj O).symm
  subst ex;obtain⟨m,_,hl⟩:=I.loc;have P:cq X.env.scope x:=by
   rcases w with h|h
   ·exact .inr (.inl h)
   ·exact .inr (.inr h)
  obtain⟨u,ru,lk⟩:=hl j x v e5 hv P;refine⟨u,ru,.inr ⟨?_,?_⟩⟩
  ·have q:=pB (scope:=scope) (env:=X.env) g;exact q.symm
  ·have E:∃c,X.env.cells.lookup x=g7 c∧s2.heap.IsCell c (g7 u):=by
    rcases lk with⟨q,_⟩ | ⟨_,q⟩
    ·rcases w with h|h
     ·rw[h]at q;cases q
     ·rw[h]at q;cases q
    ·exact q
   obtain⟨c,e6,e7⟩:=E;obtain⟨c',e8⟩:=G x (.inl (PySem.mem_of_lookup g));rcases d x c' e8 with Q| ⟨Q,_⟩
   ·rw[e6]at Q;cases Q;obtain⟨o,N,hd⟩:=e7;exact⟨c,e8,o,old c o N,hd⟩
   ·rw[g]at Q;cases Q
 ·intro x c e;rcases d _ _ e with q| ⟨_,_,q⟩
  ·obtain⟨v,o,N,hd⟩:=I.cell x c q;exact⟨v,o,old c o N,hd⟩
  ·exact⟨_,q⟩
 ·intro x c e;rcases d _ _ e with q| ⟨_,q,_⟩
  ·exact I.freeC x c q
  ·exact I.hok.fresh (by omega)
 ·intro p hp;have e:p=(s2.heap.objs.size,{cls:=.type "list",data:=.seq ([]:List Value).toArray}):=List.mem_singleton.mp hp;subst e;refine⟨hD,a0,j9 (u7 _),λH=>?_,λv z=>?_⟩
  ·rcases List.mem_cons.mp (I.jc _ H)with e|e
   ·exact absurd I.lt (by rw[←e];exact n8 _)
   ·exact I.GO (i8 _) e
  ·have z':Data.seq ([]:List Value).toArray _=Data.cell v:=z;cases z'
 ·rw[seen_length];exact B.len.symm
theorem Inv.BV{i:List Value}(I:Inv X pins σ H2 s2)
  (p:∀b∈fp,mL X pins H2 b)
  (J:Inv (X.gj scope cl (s2.heap.objs.size+1) M {s2 with heap:=s2.heap.push {cls:=.type "list",data:=.seq ([]:List Value).toArray}} H2 (s2.heap.objs.size::fp))
   [(s2.heap.objs.size,{cls:=.type "list",data:=.seq i.toArray n})] t H' s')
  (w:Vals m i) (x:m.length≤sizeLine) (hs:Heap.SameBut (s2.heap.objs.size+1) s'.heap h'):Inv X pins σ (upd H' s2.heap.objs.size (.lst m)) {s' with heap:=h'}:=by
 obtain⟨y,A,_,_,_⟩:=J.pin _ (List.mem_append_right _ (List.mem_singleton.mpr rfl));have B:H' (s2.heap.objs.size+1)=g9:=J.free;have kp:∀b o,b≠s2.heap.objs.size+1→s'.heap.get? b=g7 o→h'.get? b=g7 o:=λb o j e=>(hs.2 b j).trans e;have d:∀b o,s2.heap.get? b=g7 o→(s2.heap.push {cls:=.type "list",data:=.seq ([]:List Value).toArray}).get? b=g7 o:=λb o e=>Heap.get?_push_of_some _ e;have l:∀b o,s2.heap.get? b=g7 o→b≠s2.heap.objs.size:=λb o e=>j9 (Heap.lt_size e);have k:∀b o,s2.heap.get? b=g7 o→b≠s2.heap.objs.size+1:=λb o e=>j9 (t9 (Heap.lt_size e));have f:∀b o,s2.heap.get? b=g7 o→b∉fp→b∉s2.heap.objs.size::fp:=λb o e h z=>(List.mem_cons.mp z).elim (l b o e) h;have neT:∀b u,H' b=g7 u→b≠s2.heap.objs.size:=λb u e z=>by rw[z,A]at e;cases e
 have g:∀b u,H' b=g7 u→b≠s2.heap.objs.size+1:=λb u e z=>by rw[z,B]at e;cases e
 refine I.Fm (s':={s' with heap:=h'}) (ch:=fp) J.os ?_ ?_ J.bare λb j=>?_
 ·refine⟨λb o e n j hx=>?_,λb o e n j hx=>?_,λb o e n hx=>?_,λb o e hx=>?_,λb xs e=>?_,λb o xs e=>?_,λb ps e=>?_⟩
  ·exact kp b o (k b o e) (J.base.keep b o (d b o e) n j (f b o e hx))
  ·obtain⟨sl,q⟩:=J.base.slot b o (d b o e) n j (f b o e hx);exact⟨sl,kp b _ (k b o e) q⟩
  ·rw[i9 (l b o e)];exact J.base.free b o (d b o e) n (f b o e hx)
  ·obtain⟨o',q⟩:=J.base.there b o (d b o e) (f b o e hx);exact⟨o',kp b _ (k b o e) q⟩
  ·have q:=J.base.tups b xs e;rw[i9 (neT b _ q)];exact q
  ·have q:=J.base.frzs b o xs e;rw[i9 (neT b _ q)];exact q
  ·obtain⟨more,q⟩:=J.base.tbls b ps e;rw[i9 (neT b _ q)];exact⟨more,q⟩
 ·intro a o e;by_cases s:a=s2.heap.objs.size
  ·subst s;rw[l5]at e;cases e;exact⟨x,i,n,w,kp _ _ (j9 (u7 _)) y⟩
  ·rw[i9 s]at e;refine(J.hok a o e).stay (λc v r q=>kp c v ?_ q) (λc q=>by rw[i9 (neT c _ q)];exact q) λc xs q=>by rw[i9 (neT c _ q)];exact q
   rcases r with rfl|r
   ·exact g c o e
   ·exact g c _ r
 ·obtain⟨f0,f1,H,E,F,G⟩:=p b j;exact⟨E,f1,F,G⟩
theorem uT{a:List Value}(e:s.heap.get? D=g7 {cls:=.type "list",data:=.seq a.toArray n}) (j:a.length≤sizeLine)
  (h:∀h' c,h'.get? D=g7 {cls:=.type "list",data:=.seq (a++[u]).toArray c}→(∀b o,b≠D→s.heap.get? b=g7 o→h'.get? b=g7 o)→Q .none {s with heap:=h'}):
  wpAny (model pr w) A (call (.builtin "list.append") [.ref D,u]) Q E s:=by
 refine call_meets F.slot_list_append ⟨_,e,rfl⟩ F.entry_list_append (F.args_list_append_2 _ _) (PySem.list_append D a.toArray n u (by rw[List.size_toArray];omega)) ⟨e,?_⟩;have q:=PySem.IsL.update e (λxs=>xs.push u);have d:a.toArray.push u=(a++[u]).toArray:=by simp
 have f:(s.heap.update D (Obj.mapSeq λxs=>xs.push u)).get? D=g7 {cls:=.type "list",data:=.seq (a++[u]).toArray (if(a.toArray.push u).size==a.toArray.size then n else n+1)}:=by
  rw[←d];exact q
 exact h _ _ f λb o g i=>(Heap.get?_update_other s.heap _ (o1 g)).trans i
variable {scope:Scope}{M:List Str}{own:Nat}{fr:List Nat}{tg iter oY:Expr}{nR:List Expr}{pos:Pos}{wi:TI}{g:TG}{tf:TT}{te:TE}
theorem sS(B:wI X scope M own fr)(hc:X.calm=h7)(hi:PI X tg iter wi)
  (hg:∀cl C s H ex,PG (X.gj scope cl C M s H ex) tg g) (hk:qQ own fr g) (hf:∀cl C s H ex,PF (X.gj scope cl C M s H ex) nR tf) (he:∀cl C s H ex,PE (X.gj scope cl C M s H ex) oY te)
  (hs:∀x,foldedSetIterable iter X.env x=pure x) (I:Inv X pins σ H s) (h:nU wi g tf te own fr σ H Q)
  (fin:∀(D C:Addr) (H':Hp) (j:Shared),(∃m,j.heap.Ns C m)→mL X pins H' C→Inv X pins σ H' j→Q (.ref D) H'→compPost (model X.prog X.w) X.A X.xe use Q' (.ref D) C (.ok .next) j):
  wpAny (model X.prog X.w) X.A (NU (.ListComp oY [⟨tg,iter,nR,0⟩] scope pos) scope X.env (firstIterPos [⟨tg,iter,nR,0⟩] pos) (newList []) g8 (eval iter X.env) use) Q' X.xe s:=by
 obtain⟨cl,Y,Z,b8⟩:=uQ (scope:=scope) (env:=X.env) λn hn=>I.ok.has n (B.free _ hn rfl);refine wpAny_comprehension_free (cl:=cl) rfl hs Y B.kind B.names ?_;refine F9 (hi pins s σ H _ I h) λv s1 h1=>F9 h1 λc5 s2 h2=>?_;obtain⟨it,fp,tn,J,H2,e,I2,T,a6,f2,W,⟨m0,w0⟩,a7⟩:=h2;subst e;refine T4 (uc ?_);dsimp only;have a0:(s2.heap.push {cls:=.type "list",dict:=g9,data:=.seq ([]:List Value).toArray}).objs.size=s2.heap.objs.size+1:=Heap.size_push _ _;have t:=(Heap.Ns.new (s2.heap.push {cls:=.type "list",dict:=g9,data:=.seq ([]:List Value).toArray}) (.type "dict")).keeps (LZ scope.names _);have P:∀b o,(s2.heap.push {cls:=.type "list",dict:=g9,data:=.seq ([]:List Value).toArray}).get? b=g7 o→(pushCells ((s2.heap.push {cls:=.type "list",dict:=g9,data:=.seq ([]:List Value).toArray}).push {cls:=.type "dict",data:=.dict #[]}) scope.names).get? b=g7 o:=λb o e=>LZ _ _ b o (Heap.get?_push_of_some _ e);have E:=cellsFrom_ok scope.names ((s2.heap.push {cls:=.type "list",dict:=g9,data:=.seq ([]:List Value).toArray}).push {cls:=.type "dict",data:=.dict #[]}) (s2.heap.objs.size+2) [] ⟨λ_ _ hm=>(nomatch hm),List.Pairwise.nil⟩ (by rw[Heap.size_push,a0];exact i8 _);rw[Heap.size_push,a0]at E;rw[a0]at t⊢;generalize pushCells ((s2.heap.push {cls:=.type "list",dict:=g9,data:=.seq ([]:List Value).toArray}).push {cls:=.type "dict",data:=.dict #[]}) scope.names=h1 at t P E⊢;have a8:∀n n' c,(cellsFrom (s2.heap.objs.size+1+1) scope.names cl).lookup n=g7 c→(cellsFrom (s2.heap.objs.size+1+1) scope.names cl).lookup n'=g7 c→s2.heap.objs.size+1<c→n=n':=by
  intro n n' c e1 e2 a9;rcases gO e1 with⟨m1,_⟩ |q1
  ·rcases gO e2 with⟨m2,_⟩ |q2
   ·exact OL E.apart m1 m2
   ·obtain⟨v,q⟩:=I2.cell _ _ (Z _ _ q2);exact absurd (U2 (t9 q.lt) a9) (n8 _)
  ·obtain⟨v,q⟩:=I2.cell _ _ (Z _ _ q1);exact absurd (U2 (t9 q.lt) a9) (n8 _)
 have a3:∀n c,(cellsFrom (s2.heap.objs.size+1+1) scope.names cl).lookup n=g7 c→X.env.cells.lookup n=g7 c∨(scope.names.lookup n=g7 .cell∧s2.heap.objs.size+1<c∧h1.IsCell c g9):=by
  intro n c e;rcases gO e with⟨m1,_⟩ |q1
  ·obtain⟨a1,a2⟩:=E.empty n c m1;exact .inr ⟨B.cells _ (bF _ _ _ _ m1) rfl,by omega,a1⟩
  ·exact .inl (Z _ _ q1)
 have b0:∀n c,(cellsFrom (s2.heap.objs.size+1+1) scope.names cl).lookup n=g7 c→scope.names.lookup n=g7 .cell→s2.heap.objs.size+1<c:=by
  intro n c e hn;obtain⟨c0,b9⟩:=Z0 scope.names (s2.heap.objs.size+1+1) n (mem_of_lookup hn);obtain⟨c',e'⟩:=cz b9;rw[B3,List.lookup_append,e']at e;cases e;have:=(E.empty n c (mem_of_lookup e')).2;omega
 have b1:∀n,(n,NameKind.free)∈scope.names∨(n,NameKind.cell)∈scope.names→∃c,(cellsFrom (s2.heap.objs.size+1+1) scope.names cl).lookup n=g7 c:=λn h=>sW (h.symm.imp id (b8 n));generalize cellsFrom (s2.heap.objs.size+1+1) scope.names cl=G at a8 a3 b0 b1⊢;have l:∀b∈fp,b<s2.heap.objs.size:=λb a=>by
  obtain⟨o,eo,_⟩:=T.obj _ _ a6 b a;exact Heap.lt_size eo
 have R:∀b o,b<s2.heap.objs.size+1→(s2.heap.push {cls:=.type "list",data:=.seq ([]:List Value).toArray}).get? b=g7 o→h1.get? b=g7 o:=λb o a e=>
  P b o e
 have b2:h1.Ns (s2.heap.objs.size+1) λ_=>g9:=t;have J0:=Inv.block (cl:=G) (h1:=h1) (fp:=fp) (t1:=s2.toks) B I2 a3 a8 b1 b0 (λb a=>⟨f2 b a,l b a⟩) b2 R;have b3:tn 0 h1:=T.keep _ _ _ a6 λb a o e=>R b o (t9 (l b a)) (Heap.get?_push_of_some _ e)
 
 have F:∀{H':Hp} {o:Obj},(∀b∈fp,H' b=g9)→∀b∈fp,mL (X.gj scope G (s2.heap.objs.size+1) M {s2 with heap:=s2.heap.push {cls:=.type "list",data:=.seq ([]:List Value).toArray}} H2 (s2.heap.objs.size::fp)) [(s2.heap.objs.size,o)] H' b:=by
  intro H' o hn b a;obtain⟨f0,f1,ff,f3,f4,f5⟩:=f2 b a;refine⟨hn b a,j9 (t9 (l b a)),λz=>?_,.inl (List.mem_cons_of_mem _ a),λx c e=>?_,λp hp z=>?_⟩
  ·rcases List.mem_cons.mp (I2.jc b z)with e|e
   ·exact f1 e
   ·exact ff e
  ·rcases a3 x c e with q| ⟨_,q,_⟩
   ·exact f4 x c q
   ·exact y0 (U2 (t9 (l b a)) q)
  ·have e:p=(s2.heap.objs.size,o):=List.mem_singleton.mp hp;subst e;exact absurd (l b a) (by rw[←z];exact n8 _)
 have S:∀s3:Shared,s3={s2 with heap:=h1,toks:=s2.toks}→
   aH (model X.prog X.w) X.A (.compLoop (.ListComp oY [⟨tg,iter,nR,0⟩] scope pos) 0 (.ref it) (.ref s2.heap.objs.size) (compEnvC scope G (s2.heap.objs.size+1) X.env))
    (compPost (model X.prog X.w) X.A X.xe use Q' (.ref s2.heap.objs.size) (s2.heap.objs.size+1)) s3:=by
  rintro s3 rfl
  refine qC (λn j=>∃(i:Nat) (τ:St) (H':Hp) (L:List V) (f:List Value) (k:Nat),Inv (X.gj scope G (s2.heap.objs.size+1) M {s2 with heap:=s2.heap.push {cls:=.type "list",data:=.seq ([]:List Value).toArray}} H2 (s2.heap.objs.size::fp)) [(s2.heap.objs.size,{cls:=.type "list",data:=.seq f.toArray k})] (seen own fr σ) H' j∧
   tn i j.heap∧(∀b∈fp,H' b=g9)∧Vals L f∧L.length≤sizeLine∧W i n L H') ?_ m0 ⟨0,seen own fr σ,H2,[],[],0,J0,b3,λb a=>(f2 b a).1,.nil,u3 _,w0⟩
  rintro n s4 ⟨i,τ,H4,L,f,k,J4,b4,b5,hv4,hz4,w4⟩
  rcases a7 i n L H4 w4 with⟨stop,qn⟩ | ⟨go,hz,N,hN,step⟩
  ·refine F9 (T.done (X.gj scope G (s2.heap.objs.size+1) M {s2 with heap:=s2.heap.push {cls:=.type "list",data:=.seq ([]:List Value).toArray}} H2 (s2.heap.objs.size::fp)) rfl rfl rfl hc i _ s4 _ H4 _ J4 (F b5) b4 stop) λr s5 ⟨hr,J5⟩=>?_;subst hr;obtain⟨m5,c1,_⟩:=J5.loc;have nD:H4 s2.heap.objs.size=g9:=(J5.pin _ (List.mem_append_right _ (List.mem_singleton.mpr rfl))).2.1;exact fin s2.heap.objs.size (s2.heap.objs.size+1) _ s5 ⟨m5,c1⟩ (I2.DQ (bd _) (by rw[i9 (y0 (u7 _))];exact J5.free)) (Inv.BV I2 f2 J5 hv4 hz4 (.refl ..)) (qn _ nD)
  ·refine F9 (T.item (X.gj scope G (s2.heap.objs.size+1) M {s2 with heap:=s2.heap.push {cls:=.type "list",data:=.seq ([]:List Value).toArray}} H2 (s2.heap.objs.size::fp)) rfl rfl rfl hc i _ s4 _ H4 _ J4 (F b5) b4 go) λr s5 ⟨u,hr,h5⟩=>?_;subst hr;refine F9 h5 λ_ s6 ⟨x,H6,J6,r6,y6,a4,c2⟩=>?_;have c3:=J6.pinned (F c2) (T.obj _ _ a4);refine F9 (hg _ _ _ _ _ _ s6 _ H6 x u _ c3 r6 (hk _ _ _ _ (step x H6 y6))) λ_ s7 ⟨O,H7,J7,c4,q7⟩=>?_;refine F9 (hf _ _ _ _ _ _ s7 O H7 _ J7 q7) λok s8 ⟨H8,J8,q8⟩=>?_;have b6:∀{b7:St} {H':Hp} {j:Shared},Inv (X.gj scope G (s2.heap.objs.size+1) M {s2 with heap:=s2.heap.push {cls:=.type "list",data:=.seq ([]:List Value).toArray}} H2 (s2.heap.objs.size::fp)) ([(s2.heap.objs.size,{cls:=.type "list",data:=.seq f.toArray k})]++lx fp s6.heap) b7 H' j→
     tn (i+1) j.heap∧(∀b∈fp,H' b=g9):=λ{b7 H' j} K=>by
    refine⟨T.keep _ _ _ a4 λb a o e=>(K.pin (b,o) (List.mem_append_right _ (List.mem_append_right _ (dA a e)))).1,λb a=>?_⟩;obtain⟨o,e,d⟩:=T.obj _ _ a4 b a;exact(K.pin (b,o) (List.mem_append_right _ (List.mem_append_right _ (dA a e)))).2.1
   have U:∀{pl:List (Addr×Obj)} {H':Hp} {j:Shared},Inv (X.gj scope G (s2.heap.objs.size+1) M {s2 with heap:=s2.heap.push {cls:=.type "list",data:=.seq ([]:List Value).toArray}} H2 (s2.heap.objs.size::fp)) pl O H' j→Inv (X.gj scope G (s2.heap.objs.size+1) M {s2 with heap:=s2.heap.push {cls:=.type "list",data:=.seq ([]:List Value).toArray}} H2 (s2.heap.objs.size::fp)) pl (seen own fr σ) H' j:=λ{pl H' j} K=>K.weak (by rw[seen_length,K.len];exact B.len.symm) c4;cases ok with
   |false=>
    obtain⟨a5,hl⟩:=b6 J8;obtain⟨m',hm,w8⟩:=hN L H8 (by simpa using q8);exact⟨m',hm,i+1,seen own fr σ,H8,L,f,k,U J8.gZ,a5,hl,hv4,hz4,w8⟩
   |true=>
    simp only[if_true]at q8⊢;refine F9 (he _ _ _ _ _ _ s8 O H8 _ J8 q8) λu9 s9 ⟨y,H9,J9,r9,q9⟩=>?_;obtain⟨a5,hl⟩:=b6 J9;obtain⟨m',hm,w9⟩:=hN (L++[y]) H9 q9;obtain⟨eD,nD,d1,d2,d3⟩:=J9.pin (s2.heap.objs.size,{cls:=.type "list",data:=.seq f.toArray k}) (List.mem_append_right _ (List.mem_append_left _ (List.mem_singleton.mpr rfl)));refine uT eD (by rw[←hv4.length];exact cv hz) λh' n' e' kp=>?_;have K0:Inv (X.gj scope G (s2.heap.objs.size+1) M {s2 with heap:=s2.heap.push {cls:=.type "list",data:=.seq ([]:List Value).toArray}} H2 (s2.heap.objs.size::fp)) [] O H9 s9:=J9.Y7 λp hp=>absurd hp (by simp);have K1:=K0.turned (t':=s9.toks) (h':=h') (it:=s2.heap.objs.size) kp nD d1 (.inl List.mem_cons_self) (λx c e=>(J9.ok.exf _ List.mem_cons_self).2 x c e) (λp hp=>absurd (show p∈([]:List (Addr×Obj))from hp) (by simp));have K2:=K1.Y7 (wJ:=[(s2.heap.objs.size,{cls:=.type "list",data:=.seq (f++[u9]).toArray n'})]) λp hp=>by
     have e:p=_:=List.mem_singleton.mp hp;subst e;exact⟨e',nD,d1,d2,λv z=>by
      have z':Data.seq (f++[u9]).toArray _=Data.cell v:=z;cases z'⟩
    refine⟨m',hm,i+1,seen own fr σ,H9,L++[y],f++[u9],n',U K2,T.keep _ _ _ a5 λb a o e=>kp b o (j9 (l b a)) e,hl,hv4.append (.cons r9 .nil),by rw[List.length_append,List.length_singleton];exact hz,w9⟩
 exact codeAny_compStart_list (S _ rfl) (T.self X.A 0 _ _ _ b3 (S _ rfl))
theorem zP (B:wI X scope M own fr)(c:X.calm=h7)(hi:PI X tg iter wi)
  (d:∀cl C s H ex,PG (X.gj scope cl C M s H ex) tg g) (hk:qQ own fr g) (f:∀cl C s H ex,PF (X.gj scope cl C M s H ex) nR tf) (i:∀cl C s H ex,PE (X.gj scope cl C M s H ex) oY te)
  (hs:∀x,foldedSetIterable iter X.env x=pure x:=by intro _;rfl):PE X (.ListComp oY [⟨tg,iter,nR,0⟩] scope pos) (nU wi g tf te own fr):=by
 intro pins s σ H Q I h;rw[eval_ListComp];refine sS (use:=g9) B c hi d hk f i hs I h λD C H' j ⟨m,k⟩ fc l q=>?_;obtain⟨f0,f1,u,n,p,r⟩:=fc;exact⟨m,k,λh' a=>⟨.ref D,H',l.turned (t':=j.toks) (λb o t e=>(a.2 b t).trans e) f0 f1 n p r,rfl,q⟩⟩
theorem Df{d c:Pos}(B:wI X scope M own fr)(t:X.calm=h7)(hN:X.N.Nodup)(u:X.N[i]?=g7 y)(hx:X.env.kindOf y=g7 .local)(hi:PI X tg iter wi)
  (w:∀cl C s H ex,PG (X.gj scope cl C M s H ex) tg g) (hk:qQ own fr g) (A:∀cl C s H ex,PF (X.gj scope cl C M s H ex) nR tf) (E:∀cl C s H ex,PE (X.gj scope cl C M s H ex) oY te)
  (f:B4 (.ListComp oY [⟨tg,iter,nR,0⟩] scope pos) (g7 (.Name y d)) c.line X.env=pure h7:=by with_unfolding_all rfl)
  (hs:∀x,foldedSetIterable iter X.env x=pure x:=by intro _;rfl):PS X (.Assign [.Name y d] (.ListComp oY [⟨tg,iter,nR,0⟩] scope pos) c) (CI (nU wi g tf te own fr) (jN i)):=by
 intro pins s σ H D I h;rw[exec_Assign_Name_used _ _ _ _ f];refine wpAny_bind (wpAny_standAt (wpAny_bind ?_));show wpAny _ _ (do let _←NU (.ListComp oY [⟨tg,iter,nR,0⟩] scope pos) scope X.env _ (newList []) g8 (eval iter X.env) (g7 (mU (.Name y d) X.env))) _ _ s;refine wpAny_bind (wpAny_mono (sS (use:=g7 (mU (.Name y d) X.env)) (Q':=λ_ j=>SP X pins D .next j) B t hi w hk A E hs I h λp C H' j ⟨m,F⟩ fc G q=>?_) (λ_ j J=>i6 (i6 J)) λ_ _ e=>e);obtain⟨f0,f1,S,L,r,O⟩:=fc;show wpAny _ _ (mU (.Name y d) X.env (.ref p)) _ _ _;refine Kc (nV G hN u (.inl hx) (v:=.ref p) rfl (λs2 P ⟨a,Q,k⟩=>?_) (.inr hx));have l:C≠a:=by
  rcases k with rfl|k
  ·exact f1
  ·exact λz=>r _ _ k z.symm
 refine⟨m,F.sameBut Q l,λh' n=>?_⟩;exact⟨_,H',P.turned (t':=s2.toks) (λb o R e=>(n.2 b R).trans e) f0 f1 L r O,q⟩
noncomputable def namesOk (scope:Scope)(fs:List Str):Bool:=scope.names.all λy=>(y.2 != .cell||scope.names.lookup y.1==g7 .cell)&&(y.2 != .free||fs.contains y.1)&&(y.2 != .local||scope.names.lookup y.1==g7 .local)
theorem wI.mk'(kind:scope.kind=.function)(h:namesOk scope fs=h7)(nd:M.Nodup)(len:M.length=own+fr.length)(hk:∀n∈fs,X.env.kindOf n=g7 .cell∨X.env.kindOf n=g7 .free)
  (at':∀i j,fr[i]?=g7 j→M[own+i]?=X.N[j]?∧∃n,X.N[j]?=g7 n∧scope.names.lookup n=g7 .free∧(X.env.kindOf n=g7 .cell∨X.env.kindOf n=g7 .free)):wI X scope M own fr:=by
 have h':=List.all_eq_true.mp h;refine⟨kind,λy b e=>?_,λy b e=>?_,λy b e=>?_,nd,len,at'⟩
 ·have q:=h' y b;simp only[l8]at q;have a:=q.1.1;rw[e]at a;simpa using a
 ·have q:=h' y b;simp only[l8]at q;have a:=q.2;rw[e]at a;simpa using a
 ·have q:=h' y b;simp only[l8]at q;have a:=q.1.2;rw[e]at a;exact hk y.1 (by simpa using a)
theorem Jl(B:wI X scope (x::a) 1 fr)(hi:PI X (.Name x b) iter wi)(c:∀cl C s H ex,PF (X.gj scope cl C (x::a) s H ex) nR tf)(d:∀cl C s H ex,PE (X.gj scope cl C (x::a) s H ex) oY te)
  (e:X.calm=h7:=by rfl) (hx:scope.names.lookup x=g7 .local∨scope.names.lookup x=g7 .cell:=by first|exact .inl rfl|exact .inr rfl) (hs:∀x,foldedSetIterable iter X.env x=pure x:=by intro _;rfl):PE X (.ListComp oY [⟨.Name x b,iter,nR,0⟩] scope pos) (nU wi (jN 0) tf te 1 fr):=
 zP B e hi (λ_ _ _ _ _=>kF B.nd rfl (hx.imp cu jI) (hx.symm.imp (λh=>by show(scope.names.lookup x==g7 .cell)=h7;rw[h];rfl) cu)) (vW (by decide)) c d hs
theorem Ji{f a:Pos}(B:wI X scope (x::c) 1 fr)(hN:X.N.Nodup)(hi:PI X (.Name x b) iter wi)(g:∀cl C s H ex,PF (X.gj scope cl C (x::c) s H ex) nR tf)(j:∀cl C s H ex,PE (X.gj scope cl C (x::c) s H ex) oY te)
  (k:X.N[i]?=g7 y:=by rfl) (d:X.env.kindOf y=g7 .local:=by rfl) (l:X.calm=h7:=by rfl) (hx:scope.names.lookup x=g7 .local∨scope.names.lookup x=g7 .cell:=by first|exact .inl rfl|exact .inr rfl)
  (e:B4 (.ListComp oY [⟨.Name x b,iter,nR,0⟩] scope pos) (g7 (.Name y f)) a.line X.env=pure h7:=by with_unfolding_all rfl)
  (hs:∀x,foldedSetIterable iter X.env x=pure x:=by intro _;rfl):PS X (.Assign [.Name y f] (.ListComp oY [⟨.Name x b,iter,nR,0⟩] scope pos) a) (CI (nU wi (jN 0) tf te 1 fr) (jN i)):=
 Df B l hN k d hi (λ_ _ _ _ _=>kF B.nd rfl (hx.imp cu jI) (hx.symm.imp (λh=>by show(scope.names.lookup x==g7 .cell)=h7;rw[h];rfl) cu)) (vW (by decide)) g j e hs
end
noncomputable abbrev tx (cs:List Nat):Str:=⟨cs.toArray⟩
theorem FJ (x:Str):tx x.cps.toList=x:=by cases x;rfl
theorem yP:tx a=tx b↔a=b:=by
 constructor
 ·intro h;have e:a.toArray=b.toArray:=congrArg Str.cps h;simpa using e
 ·rintro rfl;rfl
theorem ao (a:List Nat):(tx a).length=a.length:=by show a.toArray.size=a.length;simp
theorem tJ (a b:List Nat):tx a++tx b=tx (a++b):=by
 show Str.mk (a.toArray++b.toArray)=Str.mk (a++b).toArray;congr 1;simp
noncomputable def HQ (x:Str):It:=⟨λi _=>i<x.cps.size,λi H v H'=>H'=H∧∃c,x.cps[i]?=g7 c∧v=.str ⟨#[c]⟩,λi _=>x.cps.size≤i⟩
theorem wY {P:Program}{w:World}{K:PySem.W.Frag}{tg:Expr}(x:Str)(t:Tok)(it:Addr):Turn P w K tg (HQ x) [it] it (λi h=>h.IsStrIter it "str_ascii_iterator" x t i) where
 mem:=by simp
 obj:=λi h st b f=>by
  have e:b=it:=by simpa using f
  subst e;obtain⟨o,e,c,d⟩:=st;exact⟨o,e,λv z=>by rw[d]at z;cases z⟩
 keep:=λi h h' st k=>let⟨o,B,r⟩:=st;⟨o,k it (by simp) o B,r⟩
 item:=by
  intro X l m n A i pins s σ H E I j st p;subst l m n;obtain⟨f0,f1,F,q,u,y⟩:=j it (by simp);have a:i<x.cps.size:=p;refine wpAny_pyNext_ascii_item st (c:=x.cps[i]) (by simp[a]) λh' g G=>?_;have J:Inv X pins σ H {s with heap:=h',toks:=s.toks+1}:=I.turned (λb o f e=>(G.2 b f).trans e) f0 f1 q u y;obtain⟨o,e,c,d⟩:=id g;exact⟨_,rfl,iD (s:={s with heap:=h',toks:=s.toks+1}) e c d (by decide) ⟨.str ⟨#[x.cps[i]]⟩,H,J,⟨_,rfl⟩,⟨rfl,_,by simp[a],rfl⟩,g,λb f=>(j b f).1⟩⟩
 done:=by
  intro X l m n A i pins s σ H E I j st p;subst l m n;obtain⟨f0,f1,F,q,u,y⟩:=j it (by simp);have a:x.cps.size≤i:=p;exact wpAny_pyNext_ascii_end (I.ok.hd A) st (by simp[a]) λh' L=>⟨rfl,I.turned (t':=s.toks) (λb o f e=>L b o f e) f0 f1 q u y⟩
 self:=λ_ _ _ _ _ st h=>wpAny_pyIter_striter_ascii st h
theorem wX {P:Program}{w:World}{K:PySem.W.Frag}{tg:Expr}(x:Str)(t:Tok)(it:Addr):Turn P w K tg (HQ x) [it] it (λi h=>h.IsStrIter it "str_iterator" x t i) where
 mem:=by simp
 obj:=λi h st b f=>by
  have e:b=it:=by simpa using f
  subst e;obtain⟨o,e,c,d⟩:=st;exact⟨o,e,λv z=>by rw[d]at z;cases z⟩
 keep:=λi h h' st k=>let⟨o,B,r⟩:=st;⟨o,k it (by simp) o B,r⟩
 item:=by
  intro X l m n A i pins s σ H E I j st p;subst l m n;obtain⟨f0,f1,F,q,u,y⟩:=j it (by simp);have a:i<x.cps.size:=p;refine wpAny_pyNext_wide_item st (c:=x.cps[i]) (by simp[a]) λh' g G=>?_;have J:Inv X pins σ H {s with heap:=h',toks:=s.toks+1}:=I.turned (λb o f e=>(G.2 b f).trans e) f0 f1 q u y;obtain⟨o,e,c,d⟩:=id g;exact⟨_,rfl,iD (s:={s with heap:=h',toks:=s.toks+1}) e c d (by decide) ⟨.str ⟨#[x.cps[i]]⟩,H,J,⟨_,rfl⟩,⟨rfl,_,by simp[a],rfl⟩,g,λb f=>(j b f).1⟩⟩
 done:=by
  intro X l m n A i pins s σ H E I j st p;subst l m n;obtain⟨f0,f1,F,q,u,y⟩:=j it (by simp);have a:x.cps.size≤i:=p;exact wpAny_pyNext_wide_end (I.ok.hd A) st (by simp[a]) λh' L=>⟨rfl,I.turned (t':=s.toks) (λb o f e=>L b o f e) f0 f1 q u y⟩
 self:=λ_ _ _ _ _ st h=>wpAny_pyIter_striter_wide st h
section
variable {X:Cx}
theorem qJ:E6 X (.type "int") (λxs H Q=>∃x n,xs=[.str x]∧intText? x=g7 n∧x.length≤640∧Q (.int n) H):=by
 intro pins s σ H xs us Q I r h;obtain⟨x,n,rfl,a,hl,q⟩:=h;obtain⟨u,rfl,t,rfl⟩:=vals1 r;exact PySem.W.KIN.call_text a hl ⟨.int n,H,I.tok _,⟨_,rfl⟩,q⟩
noncomputable def qB (cs:List Nat)(lo hi:Option Int):List Nat:=(cs.drop (HT.C8 cs.length 0 lo)).take (HT.C8 cs.length cs.length hi-HT.C8 cs.length 0 lo)
theorem uq (lo hi:Option Int)(n:Nat):am lo hi 1 n=(List.range (HT.C8 n n hi-HT.C8 n 0 lo)).map λk=>HT.C8 n 0 lo+k:=by
 have c:∀(o:Option Int) (d:Nat) (f:Int),f=(d:Int)→(match o with|none=>f|some i=>(if(1:Int)>0 then max 0 (min (if i<0 then i+(n:Int)else i) (n:Int))else max (-1) (min (if i<0 then i+(n:Int)else i) ((n:Int)-1))))=((HT.C8 n d o:Nat):Int):=by
  intro o d f hd;cases o with
  |none=>exact hd
  |some i=>
   show(if(1:Int)>0 then max 0 (min (if i<0 then i+(n:Int)else i) (n:Int))else _)=(((if i<0 then(i+(n:Int)).toNat else min i.toNat n):Nat):Int)
   rw[if_pos (by decide)];by_cases h:i<0
   ·rw[if_pos h,if_pos h];omega
   ·rw[if_neg h,if_neg h];omega
 unfold am;have l:=c lo 0 (if(1:Int)>0 then 0 else(n:Int)-1) (by simp);have m:=c hi n (if(1:Int)>0 then(n:Int)else -1) (by simp);refine Eq.trans (b:=wN ((HT.C8 n 0 lo:Nat):Int) ((HT.C8 n n hi:Nat):Int) 1) ?_ ?_
 ·have e:∀a b g j:Int,a=g→b=j→wN a b 1=wN g j 1:=λ_ _ _ _ h h'=>by rw[h,h']
  exact e _ _ _ _ l m
 unfold wN;have e:(if(1:Int)>0 then(if((HT.C8 n 0 lo:Nat):Int)<((HT.C8 n n hi:Nat):Int)then(((HT.C8 n n hi:Nat):Int)-((HT.C8 n 0 lo:Nat):Int)+1-1) / 1 else 0)else(if((HT.C8 n 0 lo:Nat):Int)>((HT.C8 n n hi:Nat):Int)then(((HT.C8 n 0 lo:Nat):Int)-((HT.C8 n n hi:Nat):Int)-1-1) / (-1)else 0)).toNat=HT.C8 n n hi-HT.C8 n 0 lo:=by
  rw[if_pos (by decide)];split<;>omega
 simp only[]at e⊢;rw[e];refine List.map_congr_left λk _=>?_;omega
theorem Jj (cs:List Nat)(i k:Nat)(h:i+k≤cs.length):((List.range k).map λm=>i+m).filterMap (cs.toArray[·]?)=(cs.drop i).take k:=by
 rw[List.filterMap_map];refine List.ext_getElem? λj=>?_;have key:∀(k i:Nat),i+k≤cs.length→(List.range k).filterMap (λm=>cs[i+m]?)=(cs.drop i).take k:=by
  intro k;induction k with
  |zero=>intro i _;simp
  |succ k ih=>
   intro i b;rw[List.range_succ,List.filterMap_append,ih i (by omega)];have a:i+k<cs.length:=by omega
   rw[List.take_add_one,List.getElem?_drop];simp[a]
 have e:((λx=>cs.toArray[x]?)∘λm=>i+m)=λm=>cs[i+m]?:=by
  funext m;simp
 rw[e,key k i h]
theorem vt (n d:Nat)(hd:d≤n)(o:Option Int):HT.C8 n d o≤n:=HT.zr n d hd o
theorem lf {cs:List Nat}{l u:Option (Int×Tok)}(g:cs.length≤sizeLine)(h:∀d k,Q (.str (tx (qB cs (l.map (·.1)) (u.map (·.1)))) d) {s with toks:=k}):(sliceMade (tx cs) t l u g9).post Q s:=by
 have a:(tx cs).length=cs.length:=ao cs;have c:Fz (tx cs) l u g9=(List.range (HT.C8 cs.length cs.length (u.map (·.1))-HT.C8 cs.length 0 (l.map (·.1)))).map λk=>HT.C8 cs.length 0 (l.map (·.1))+k:=by
  show am (l.map (·.1)) (u.map (·.1)) 1 (tx cs).length=_;rw[a,uq]
 have i:=vt cs.length 0 (u3 _) (l.map (·.1));have j:=vt cs.length cs.length (i8 _) (u.map (·.1));unfold sliceMade;by_cases b:(((g9:Option (Int×Tok)).map (·.1)).getD 1==1&&(Fz (tx cs) l u g9).length==(tx cs).length)=h7
 ·rw[if_pos b];have hl:HT.C8 cs.length cs.length (u.map (·.1))-HT.C8 cs.length 0 (l.map (·.1))=cs.length:=by
   rw[l8]at b;have q:=eq_of_beq b.2;rw[c,a,List.length_map,List.length_range]at q;exact q
  have e:qB cs (l.map (·.1)) (u.map (·.1))=cs:=by
   unfold qB;rw[hl];by_cases f:cs.length=0
   ·have:cs=[]:=List.length_eq_zero_iff.mp f;subst this;simp
   ·have:HT.C8 cs.length 0 (l.map (·.1))=0:=by omega
    rw[this];simp
  have q:=h t s.toks;rw[e]at q;exact q
 ·rw[if_neg b];have e:(Fz (tx cs) l u g9).filterMap ((tx cs).cps[·]?)=qB cs (l.map (·.1)) (u.map (·.1)):=by
   rw[c];by_cases m:HT.C8 cs.length 0 (l.map (·.1))≤HT.C8 cs.length cs.length (u.map (·.1))
   ·exact Jj cs _ _ (by omega)
   ·have z:HT.C8 cs.length cs.length (u.map (·.1))-HT.C8 cs.length 0 (l.map (·.1))=0:=by omega
    unfold qB;rw[z];simp
  rw[e];refine⟨?_,h _ _⟩;show(qB cs (l.map (·.1)) (u.map (·.1))).toArray.size≤sizeLine;unfold qB;rw[List.size_toArray,List.length_take,List.length_drop];omega
theorem Ga:Cb X (λx lo hi H Q=>∃cs:List Nat,x=.str (tx cs)∧cs.length≤1000000∧Q (.str (tx (qB cs lo hi))) H):=by
 intro pins s σ H x v d e lo hi sl Q I f hs g b h;obtain⟨cs,rfl,B,q⟩:=h;obtain⟨t,rfl⟩:=f;refine⟨"str",_,F.slot_str_getitem.lookup,Iy s (tx cs) t,?_⟩;obtain⟨o,m,n,hd⟩:=hs;have key:∀(l u:Option (Int×Tok)),d=partValue l→e=partValue u→l.map (·.1)=lo→u.map (·.1)=hi→wpAny (model X.prog X.w) X.A (gW (.str (tx cs) t) (.ref sl)) (EP X pins σ Q) X.xe s:=by
  intro l u p r y z;subst p r;refine wpAny_getItem_str_slice (l:=l) (u:=u) (st:=g9) ⟨o,m,n,hd⟩ rfl (lf (by rw[v8];omega) λE k=>?_);rw[y,z];exact⟨.str _,H,I.tok k,⟨_,rfl⟩,q⟩
 cases g with
 |none=>
  cases b with
  |none=>exact key g9 g9 rfl rfl rfl rfl
  |int j a=>exact key g9 (g7 (j,a)) rfl rfl rfl rfl
 |int i c=>
  cases b with
  |none=>exact key (g7 (i,c)) g9 rfl rfl rfl rfl
  |int j a=>exact key (g7 (i,c)) (g7 (j,a)) rfl rfl rfl rfl
theorem all_range (bs:List Bool):(List.range bs.length).all (λi=>bs.getD i g8)=bs.all id:=by
 have key:∀(bs pre:List Bool),(List.range' pre.length bs.length).all (λi=>(pre++bs).getD i g8)=bs.all id:=by
  intro bs;induction bs with
  |nil=>intro pre;rfl
  |cons b r ih=>
   intro pre;have q:=ih (pre++[b]);rw[List.length_cons,List.range'_succ,List.all_cons,List.all_cons];have e:(pre++b::r).getD pre.length g8=b:=by simp
   have a:pre++b::r=(pre++[b])++r:=by simp
   rw[e,a];have c:(pre++[b]).length=pre.length+1:=by simp
   rw[c]at q;rw[q];rfl
 have q:=key bs [];simpa[List.range_eq_range']using q
theorem any_range (bs:List Bool):(List.range bs.length).any (λi=>bs.getD i g8)=bs.any id:=by
 have key:∀(bs pre:List Bool),(List.range' pre.length bs.length).any (λi=>(pre++bs).getD i g8)=bs.any id:=by
  intro bs;induction bs with
  |nil=>intro pre;rfl
  |cons b r ih=>
   intro pre;have q:=ih (pre++[b]);rw[List.length_cons,List.range'_succ,List.any_cons,List.any_cons];have e:(pre++b::r).getD pre.length g8=b:=by simp
   have a:pre++b::r=(pre++[b])++r:=by simp
   rw[e,a];have c:(pre++[b]).length=pre.length+1:=by simp
   rw[c]at q;rw[q];rfl
 have q:=key bs [];simpa[List.range_eq_range']using q
theorem oQ {bs:List Bool}{a:List Value}{i:Nat}{v:Value}(r:Vals (bs.map V.bl) a)(h:a[i]?=g7 v):v=.bool (bs.getD i g8):=by
 have hi:i<a.length:=(List.getElem?_eq_some_iff.mp h).1;have hl:=r.length;rw[List.length_map]at hl;have b:i<bs.length:=by omega
 obtain⟨u,c,d⟩:=r.get (i:=i) (x:=V.bl bs[i]) (by simp[b]);rw[h]at c;cases c;have e:bs.getD i g8=bs[i]:=by simp[b]
 rw[e];exact d
theorem BQ (g:X.calm=h7):E6 X (.builtin "all") (λxs H Q=>∃(p:Addr) (bs:List Bool),xs=[.ref p]∧T9 X.K H p (bs.map V.bl)∧Q (.bl (bs.all id)) H):=by
 intro pins s σ H xs us Q I r h;obtain⟨p,bs,rfl,j,q⟩:=h;obtain⟨u,rfl,k⟩:=vals1 r;cases k;obtain⟨a,f,d,y⟩:=I.list j;have c:a.toArray.size=bs.length:=by
  rw[List.size_toArray,←f.length,List.length_map]
 have l:p<s.heap.objs.size:=by
  obtain⟨o,m,_⟩:=d.isList;exact Heap.lt_size m
 refine call_all_walk (L8 d.isList ?_);refine⟨s.heap.objs.size,_,_,a.toArray.size,_,_,λi=>bs.getD i g8,rfl,KH (A:=X.A.in1) (I.ok.hd g) s.heap.objs.size p (j9 l) a.toArray,And.intro ⟨_,Heap.get?_push_size _ rfl,rfl,rfl⟩ (d.isList.at λo e=>Heap.get?_push_of_some _ e),λi v s1 B E n hQ=>?_,λh' t hk=>?_⟩
 ·have w:v=.bool (bs.getD i g8):=oQ f (by simpa using n);subst w;exact L7 hQ
 ·rw[c,all_range];refine⟨.bl _,H,I.kept (t':=t) λb o e=>hk b o (λz=>?_) (Heap.get?_push_of_some _ e),rfl,q⟩;have x:b=s.heap.objs.size:=by simpa using z
  subst x;exact absurd (Heap.lt_size e) (n8 _)
theorem BP (g:X.calm=h7):E6 X (.builtin "any") (λxs H Q=>∃(p:Addr) (bs:List Bool),xs=[.ref p]∧T9 X.K H p (bs.map V.bl)∧Q (.bl (bs.any id)) H):=by
 intro pins s σ H xs us Q I r h;obtain⟨p,bs,rfl,j,q⟩:=h;obtain⟨u,rfl,k⟩:=vals1 r;cases k;obtain⟨a,f,d,y⟩:=I.list j;have c:a.toArray.size=bs.length:=by
  rw[List.size_toArray,←f.length,List.length_map]
 have l:p<s.heap.objs.size:=by
  obtain⟨o,m,_⟩:=d.isList;exact Heap.lt_size m
 refine call_any_walk (L8 d.isList ?_);refine⟨s.heap.objs.size,_,_,a.toArray.size,_,_,λi=>bs.getD i g8,rfl,KH (A:=X.A.in1) (I.ok.hd g) s.heap.objs.size p (j9 l) a.toArray,And.intro ⟨_,Heap.get?_push_size _ rfl,rfl,rfl⟩ (d.isList.at λo e=>Heap.get?_push_of_some _ e),λi v s1 B E n hQ=>?_,λh' t hk=>?_⟩
 ·have w:v=.bool (bs.getD i g8):=oQ f (by simpa using n);subst w;exact L7 hQ
 ·rw[c,any_range];refine⟨.bl _,H,I.kept (t':=t) λb o e=>hk b o (λz=>?_) (Heap.get?_push_of_some _ e),rfl,q⟩;have x:b=s.heap.objs.size:=by simpa using z
  subst x;exact absurd (Heap.lt_size e) (n8 _)
end
def Def (K:PySem.W.Frag)(mg:Str→Option Value)(x:Str)(st:Stmt)(ps:List Str):Prop:=
 ∃(f:Addr) (fd:FuncData),az K x x st f fd∧(∀us:List Value,us.length=ps.length→gm fd ⟨us,[]⟩=pure (ps.zip us))∧mg x=g7 (.ref f)
theorem HA {K:PySem.W.Frag}{h:Heap}{mg:Str→Option Value}{x:Str}{st:Stmt}{ps:List Str}{f:Addr}{od an:Option Addr}{sl:Array (Option Value)}{oc kV d pm cd ct:Value}(X:K.In h)(G:h.Ns k8 mg)
  (a:PySem.W.nsIn K k8 x=g7 (g7 (.ref f))) (l:K.lookup f=g7 ⟨oc,od,.func (PySem.W.fnOf x x (Q5 st) (C5 st) (i7 st) .none kV d pm an cd ct),sl⟩) (c:PySem.W.codeIn K cd x=h7) (k:PySem.W.keepIn K (.ref f)=h7)
  (b:∀(kV doc pm:Value) (an:Option Addr) (cdv ct:Value) (us:List Value),us.length=ps.length→gm (PySem.W.fnOf x x (Q5 st) (C5 st) (i7 st) .none kV doc pm an cdv ct) ⟨us,[]⟩=pure (ps.zip us)):Def K mg x st ps:=
 ⟨f,_,uC (st:=st) l c k,λus hl=>b kV d pm an cd ct us hl,PySem.W.mg_of X G a⟩
def eZ (P:Program)(w:World)(K:PySem.W.Frag)(mg:Str→Option Value)(base:Heap)(k:Nat)(x:Str)(ps:List Str)(sp:Sp):Prop:=
 ∃(f:Addr) (fd:FuncData),x8 P w K mg base V1 k f fd ps sp∧Binds K fd ps []∧mg x=g7 (.ref f)∧PySem.W.keepIn K (.ref f)=h7
theorem Def.has {P:Program}{w:World}{K:PySem.W.Frag}{mg:Str→Option Value}{base:Heap}{k:Nat}{x:Str}{st:Stmt}{ps:List Str}{sp:Sp}(D:Def K mg x st ps)(h:∀f fd,az K x x st f fd→x8 P w K mg base V1 k f fd ps sp):eZ P w K mg base k x ps sp:=by
 obtain⟨f,fd,F,b,m⟩:=D;exact⟨f,fd,h f fd F,Binds.all b,m,F.kp⟩
def Cg (mg:Str→Option Value)(x:Str)(v:V):Prop:=∃u,mg x=g7 u∧RelV v u
theorem HF {K:PySem.W.Frag}(X:K.In h)(G:h.Ns k8 mg)(a:PySem.W.nsIn K k8 x=g7 (g7 u))(r:RelV v u):Cg mg x v:=⟨u,PySem.W.mg_of X G a,r⟩
section
variable {X:Cx}{k:Nat}{x:Str}{ps:List Str}{sp:Sp}{e:Expr}{es:List Expr}{t:TA}{p pos:Pos}
theorem Jo (h:eZ X.prog X.w X.K X.mg X.base k x ps sp)(hr:K4 k X.A)(d:PA X (e::es) t)(g:Gl X x:=by rfl)(a:(x==("__debug__":Str))=g8:=by decide)
  (i:i1 (e::es) X.env=(g8,eval e X.env)::i1 es X.env:=by rfl) (c:(m4 pos (i1 es X.env)).any (·.1)=g8:=by rfl):PE X (.Call (.Name x p) (e::es) [] pos) (yZ sp [] E0 t):=by
 obtain⟨f,fd,F,b,m,kp⟩:=h;exact Dq F hr g m kp b .nil EY d a i c
theorem Lq(h:Cg X.mg x v)(a:Gl X x:=by rfl)(hd:(x==("__debug__":Str))=g8:=by decide):PE X (.Name x pos) (tC v):=by
 obtain⟨u,m,r⟩:=h;exact pJ a m r hd
theorem NB(a:X.mg x=g9)(b:M0 x=g7 (.type n))(c:Gl X x:=by rfl)(d:x≠"__name__":=by decide) (hd:(x==("__debug__":Str))=g8:=by decide):PE X (.Name x pos) (tC (.ty n)):=vA c a b rfl d hd
end
theorem bp(h:H p=g9)(o:HO):j5 H (upd H p o):=λb u q=>by rw[i9 (t8 q h)];exact q
theorem j5.tup {K:PySem.W.Frag}{H H':Hp}{a:Addr}{xs:List V}(e:j5 H H')(h:bJ K H a xs):bJ K H' a xs:=by
 rcases h with(h| ⟨o,h⟩) |h
 ·exact .inl (.inl (e _ _ h))
 ·exact .inl (.inr ⟨o,e _ _ h⟩)
 ·exact .inr h
noncomputable def zg (K:PySem.W.Frag):Sp:=λvs H Q _=>∃(a:Addr) (ns:List Int),vs=[.ref a]∧T9 K H a (ns.map V.int)∧ns.length≤63∧∀H',Q (.bl h7) H'
theorem GT {P:Program}{w:World}{K:PySem.W.Frag}{mg:Str→Option Value}{a:Addr}{k:Nat}{st:Stmt}{x n:Str}{sp:Sp}(D:Def K mg n st [x])(c:mg n=g7 (.ref a))
  (h:∀f fd,az K n n st f fd→∀base:Heap,K.In base→base.Ns k8 mg→x8 P w K mg base V1 k f fd [x] sp):
  ∃fd:FuncData,(∀(s:Shared) (u:Value),vg s fd ⟨[u],[]⟩ [(x,u)])∧∀base:Heap,K.In base→base.Ns k8 mg→x8 P w K mg base V1 k a fd [x] sp:=by
 obtain⟨f,fd,F,b,m⟩:=D;have e:a=f:=by
  have e:=Option.some.inj (c.symm.trans m);injection e
 subst e;exact⟨fd,λs u=>.of_eq (b [u] rfl),h a fd F⟩
noncomputable def jV (ns:List Int)(k:Int):Int:=if ns.isEmpty then 0 else ns.getD (k % (ns.length:Int)).toNat 0
noncomputable def K6 (ns:List Int)(k:Int):Int:=
 ((jV ns k+104729*(k+1)) % 4294967291*48271 % 4294967279 / 64*69621+(jV ns k+104729*(k+1)) % 4294967291*48271 % 4294967279) % 4294967231
theorem EC(h:ns≠[]):eW (ns.map V.int) (k % ((ns.map V.int).length:Int))=g7 (.int (jV ns k)):=by
 have hl:0<ns.length:=List.length_pos_iff.mpr h;have c:0≤k % (ns.length:Int):=x6 _ (by omega);have d:k % (ns.length:Int)<ns.length:=x5 _ (by omega);rw[List.length_map];have e:k % (ns.length:Int)=(((k % (ns.length:Int)).toNat:Nat):Int):=by omega
 rw[e];refine kN ?_;rw[List.getElem?_map,List.getElem?_eq_getElem (by omega)];unfold jV;have b:ns.isEmpty=g8:=by cases ns with
  |nil=>exact absurd rfl h
  |cons a r=>rfl
 rw[b];simp only[jB,if_false,Option.map_some,Option.some.injEq,V.int.injEq];rw[List.getD_eq_getElem?_getD,List.getElem?_eq_getElem (by omega)];rfl
section
variable {X:Cx}
theorem qK:E6 X (.type "dict") (λxs H Q=>∃a kvs,xs=[.ref a]∧Rd H a (.dK kvs)∧∀p,H p=g9→Q (.ref p) (upd H p (.dK kvs))):=by
 intro pins s σ H xs us Q I r h;obtain⟨a,kvs,rfl,b,q⟩:=h;obtain⟨u,rfl,c⟩:=vals1 r;cases c;exact BD I b λp f d e=>⟨.ref p,_,e,rfl,q p d⟩
theorem mF (G:X.calm=h7):E6 X (.type "list") (λxs H Q=>∃a kvs,xs=[.ref a]∧Rd H a (.dK kvs)∧∀p,H p=g9→Q (.ref p) (upd H p (.lst (kvs.map λkv=>kV kv.1)))):=by
 intro pins s σ H xs us Q I r h;obtain⟨a,kvs,rfl,J,q⟩:=h;obtain⟨u,rfl,L⟩:=vals1 r;cases L;obtain⟨z,N,vs,g,dd⟩:=V8 I.hok J;obtain⟨ep,l⟩:=dd.dictAt;have B:=g.length;refine PySem.W.kdl_call (PySem.W.kdl_dict (knd:=w6 X.prog X.w) (kvs:=vs) (ep:=ep) N) (I.ok.hd G) l (by omega) λh' O d c kp e b=>?_;refine⟨.ref s.heap.objs.size,_,I.laid (a:=s.heap.objs.size) (o:=.lst (kvs.map λkv=>kV kv.1)) (t':=O) kp (i8 _) ?_,rfl,q _ I.fresh⟩;refine⟨by rw[List.length_map];exact z,d.toList,c,?_,by simpa using e⟩;have P:d.toList.length=vs.length:=by rw[U4];exact b.1
 have key:∀(m:List (Key×V)) (us:List (Key×Value)) (f:List Value),KV m us→f.length=us.length→(∀(j:Nat) v,f[j]?=g7 v→∃k x,us[j]?=g7 (k,x)∧(w6 X.prog X.w).is k v=h7)→Vals (m.map λkv=>kV kv.1) f:=by
  intro m us f E;unfold KV at E;induction E generalizing f with
  |nil=>
   intro hl _;have:f=[]:=List.length_eq_zero_iff.mp hl;subst this;exact .nil
  | @cons p q ps qs n _ ih=>
   intro hl F;cases f with
   |nil=>simp at hl
   |cons v r=>
    obtain⟨k,x,R,S⟩:=F 0 v rfl;have T:q=(k,x):=Option.some.inj R;refine .cons ?_ (ih r (by simpa using hl) λj U A=>F (j+1) U A);have Y:p.1=k:=by rw[n.1,T]
    show RelV (kV p.1) v;rw[Y];have Z:iA k v=h7:=S;rcases z8 Z with⟨i,t,rfl,rfl⟩ | ⟨y,t,rfl,rfl⟩
    ·exact⟨t,rfl⟩
    ·exact⟨t,rfl⟩
 exact key kvs vs d.toList g P λj v hv=>b.2 j v (by rw[←vh];exact hv)
end
end L2
namespace Wd
open PySem
theorem zj (s:String):(Str.ofString s).cps.toList=s.toList.map jA:=Mv s
noncomputable def yk (m:Nat):List Nat:=(Nat.toDigits 10 m).map jA
noncomputable def hw (n:Int):List Nat:=if n<0 then 45::yk n.natAbs else yk n.natAbs
theorem Bz(h:0<k)(a:m<10 ^ k):(yk m).length≤k:=by
 unfold yk;rw[List.length_map];exact(Nat.length_toDigits_le_iff (by decide) h).mpr a
theorem str_int (n:Int):Str.ofString (toString n)=⟨(hw n).toArray⟩:=by
 have e:∀s:String,Str.ofString s=⟨(s.toList.map jA).toArray⟩:=λs=>by
  have q:=zj s;cases h:Str.ofString s with
  |mk a=>
   rw[h]at q;have b:a.toList=s.toList.map jA:=q;rw[←b]
 rw[e];congr 2;cases n with
 |ofNat m=>
  show(OO m).toList.map jA=_;rw[Ic];unfold hw yk;rw[if_neg (by simp)];rfl
 |negSucc m=>
  have c:toString (Int.negSucc m)="-"++OO (m+1):=rfl;rw[c,String.toList_append,List.map_append,Ic];unfold hw yk;rw[if_pos (Int.negSucc_lt_zero m)];rfl
theorem yO {n:Int}(hk:0<k)(h:n.natAbs<10 ^ k):(hw n).length≤k+1:=by
 unfold hw;have:=Bz hk h;split
 ·rw[List.length_cons];omega
 ·omega
end Wd
namespace L2
open PySem PySem.Spec PyProof.Rows
section
variable {X:Cx}{e:Expr}{es:List Expr}{te:TE}{pos:Pos}
noncomputable abbrev TJ:=St→Hp→Str→VK→Prop
def PJ (X:Cx)(es:List Expr)(t:TJ):Prop:=
 ∀(pins:List (Addr×Obj)) (s:Shared) (σ:St) (H:Hp) (out:Str) (Q:VK),Inv X pins σ H s→t σ H out Q→wpAny (model X.prog X.w) X.A (joinParts out (ef es X.env)) (EP X pins σ Q) X.xe s
noncomputable def LD:TJ:=λ_ H out Q=>out.length≤sizeLine∧Q (.str out) H
noncomputable def Jw (te:TE)(t:TJ):TJ:=λσ H out Q=>te σ H λv H1=>∃y:Str,v=.str y∧(out++y).length≤sizeLine∧t σ H1 (out++y) Q
theorem Gu:PJ X [] LD:=by
 intro pins s σ H out Q I h;exact My ⟨.str out,H,I.tok _,⟨_,rfl⟩,h.2⟩ h.1
theorem Dl(a:PE X e te)(hr:PJ X es t)(hs:ef (e::es) X.env=eval e X.env::ef es X.env:=by rfl):PJ X (e::es) (Jw te t):=by
 intro pins s σ H out Q I h;rw[hs];refine Mz (F9 (a pins s σ H _ I h) λu s1 ⟨v,H1,b,r,y,c,hl,q⟩=>?_);subst c;obtain⟨d,rfl⟩:=r;exact⟨hl,hr pins s1 σ H1 _ Q b q⟩
theorem xw(h:PJ X (a::b::es) t)(hs:ef (a::b::es) X.env=eval a X.env::eval b X.env::ef es X.env:=by rfl):PE X (.JoinedStr (a::b::es) pos) (λσ H Q=>t σ H Str.empty Q):=by
 intro pins s σ H Q I c;have q:=h pins s σ H Str.empty Q I c;rw[hs]at q;exact MP q
end
section
variable {X:Cx}{K:PySem.W.Frag}
theorem yr (b:X.K=K):E6 X (.builtin "len") (λxs H Q=>∃p a,xs=[.ref p]∧(T9 K H p a∨bJ K H p a)∧Q (.int a.length) H):=by subst b;exact qI
theorem Ay (a:X.K=K):Cd X (zA K):=by subst a;exact kH
theorem DE (a:X.K=K):Cd X (Dc K):=by subst a;exact Ax
theorem yx (a:X.K=K)(b:X.calm=h7):E6 X (.builtin "all") (λxs H Q=>∃(p:Addr) (bs:List Bool),xs=[.ref p]∧T9 K H p (bs.map V.bl)∧Q (.bl (bs.all id)) H):=by subst a;exact BQ b
theorem yw (a:X.K=K)(b:X.calm=h7):E6 X (.builtin "any") (λxs H Q=>∃(p:Addr) (bs:List Bool),xs=[.ref p]∧T9 K H p (bs.map V.bl)∧Q (.bl (bs.any id)) H):=by subst a;exact BP b
end
end L2
namespace L3
open PySem PySem.Spec PyProof.Rows L2
noncomputable abbrev St:=L2.St
inductive D where
 |z5|bl (b:Bool) |int (i:Int) |str (cs:List Nat) |ty (n:String)
 |tup (xs:List D) |lst (xs:List D) |dct (kvs:List (Key×D))
instance:Inhabited D:=⟨.z5⟩
inductive Rep (K:PySem.W.Frag) (G:Hp):V→D→Prop
 |z5:Rep K G .z5 .z5
 |bl (b:Bool):Rep K G (.bl b) (.bl b)
 |int (i:Int):Rep K G (.int i) (.int i)
 |str (cs:List Nat):Rep K G (.str (tx cs)) (.str cs)
 |ty (n:String):Rep K G (.ty n) (.ty n)
 |tup {a:Addr} {xs:List V} {ds:List D} (h:bJ K G a xs) (hl:xs.length=ds.length) (hr:∀(j:Nat) x d,xs[j]?=some x→ds[j]?=some d→Rep K G x d):Rep K G (.ref a) (.tup ds)
 |lst {a:Addr} {xs:List V} {ds:List D} (h:T9 K G a xs) (hl:xs.length=ds.length) (hr:∀(j:Nat) x d,xs[j]?=some x→ds[j]?=some d→Rep K G x d):Rep K G (.ref a) (.lst ds)
 |dct {a:Addr} {kvs:List (Key×V)} {es:List (Key×D)} (h:Rd G a (.dK kvs)) (hk:kvs.map (·.1)=es.map (·.1)) (hr:∀(j:Nat) p e,kvs[j]?=some p→es[j]?=some e→Rep K G p.2 e.2):Rep K G (.ref a) (.dct es)
theorem Rd.same {G G':Hp}{a:Addr}{u:HO}(s:j5 G G')(h:Rd G a u):Rd G' a u:=by
 rcases h with h| ⟨o,h⟩
 ·exact .inl (s _ _ h)
 ·exact .inr ⟨o,s _ _ h⟩
theorem _root_.L2.eu.r(e:Rd H a (.dK kvs)):eu H a (kV k) (bN kvs k):=.inl ⟨kvs,k,e,rfl,rfl⟩
theorem Rep.same {K:PySem.W.Frag}{G G':Hp}(s:j5 G G'){v:V}{d:D}(h:Rep K G v d):Rep K G' v d:=by
 induction h with
 |z5=>exact .z5
 |bl b=>exact .bl b
 |int i=>exact .int i
 |str cs=>exact .str cs
 |ty n=>exact .ty n
 |tup h hl _ ih=>exact .tup (s.tup h) hl ih
 |lst h hl _ ih=>exact .lst (s.seq h) hl ih
 |dct h hk _ ih=>exact .dct (L3.Rd.same s h) hk ih
structure v5 (K:PySem.W.Frag) (G:Hp) (xs:List V) (ds:List D):Prop where
 len:xs.length=ds.length
 get:∀(j:Nat) x d,xs[j]?=some x→ds[j]?=some d→Rep K G x d
structure m7 (K:PySem.W.Frag) (G:Hp) (kvs:List (Key×V)) (es:List (Key×D)):Prop where
 keys:kvs.map (·.1)=es.map (·.1)
 get:∀(j:Nat) p e,kvs[j]?=some p→es[j]?=some e→Rep K G p.2 e.2
section
variable {K:PySem.W.Frag}{G G' H:Hp}
theorem v5.same (s:j5 G G'){xs:List V}{ds:List D}(h:v5 K G xs ds):v5 K G' xs ds:=⟨h.len,λj x d a b=>(h.get j x d a b).same s⟩
theorem m7.same (s:j5 G G'){kvs:List (Key×V)}{es:List (Key×D)}(h:m7 K G kvs es):m7 K G' kvs es:=⟨h.keys,λj x d a b=>(h.get j x d a b).same s⟩
theorem v5.nil:v5 K G [] []:=⟨rfl,λj x d h=>by simp at h⟩
theorem v5.cons {x:V}{d:D}{xs:List V}{ds:List D}(h:Rep K G x d)(r:v5 K G xs ds):v5 K G (x::xs) (d::ds):=by
 refine⟨by simp[r.len],λj y e a b=>?_⟩;cases j with
 |zero=>simp at a b;subst a b;exact h
 |succ j=>exact r.get j y e (by simpa using a) (by simpa using b)
theorem v5.head(r:v5 K G (x::xs) (d::ds)):Rep K G x d:=r.get 0 x d rfl rfl
theorem v5.tail(r:v5 K G (x::xs) (d::ds)):v5 K G xs ds:=⟨by have:=r.len;simpa using this,λj y e a b=>r.get (j+1) y e (by simpa using a) (by simpa using b)⟩
theorem v5.append(h:v5 K G xs ds)(r:v5 K G c es):v5 K G (xs++c) (ds++es):=by
 refine⟨by simp[h.len,r.len],λj x d a b=>?_⟩;by_cases e:j<xs.length
 ·rw[List.getElem?_append_left e]at a;rw[List.getElem?_append_left (by rw[←h.len];exact e)]at b;exact h.get j x d a b
 ·rw[List.getElem?_append_right (by omega)]at a;rw[List.getElem?_append_right (by rw[←h.len];omega),←h.len]at b;exact r.get _ x d a b
theorem v5.one(h:Rep K G x d):v5 K G [x] [d]:=.cons h .nil
theorem v5.at {xs:List V}{ds:List D}(h:v5 K G xs ds){j:Nat}{d:D}(e:ds[j]?=g7 d):∃x,xs[j]?=g7 x∧Rep K G x d:=by
 have a:j<xs.length:=by rw[h.len];exact(List.getElem?_eq_some_iff.mp e).1
 exact⟨xs[j],by simp[a],h.get j _ d (by simp[a]) e⟩
theorem v5.MW {xs:List V}{ds:List D}(h:v5 K G xs ds){j:Nat}{x:V}(e:xs[j]?=g7 x):∃d,ds[j]?=g7 d∧Rep K G x d:=by
 have a:j<ds.length:=by rw[←h.len];exact(List.getElem?_eq_some_iff.mp e).1
 exact⟨ds[j],by simp[a],h.get j x _ e (by simp[a])⟩
theorem v5.take(h:v5 K G xs ds)(n:Nat):v5 K G (xs.take n) (ds.take n):=by
 refine⟨by simp[h.len],λj x d a b=>?_⟩;rw[List.getElem?_take]at a b;by_cases c:j<n
 ·rw[if_pos c]at a b;exact h.get j x d a b
 ·rw[if_neg c]at a;cases a
theorem v5.drop(h:v5 K G xs ds)(n:Nat):v5 K G (xs.drop n) (ds.drop n):=by
 refine⟨by simp[h.len],λj x d a b=>?_⟩;rw[List.getElem?_drop]at a b;exact h.get _ x d a b
theorem v5.set(h:v5 K G xs ds)(hx:Rep K G x d)(n:Nat):v5 K G (xs.set n x) (ds.set n d):=by
 refine⟨by simp[h.len],λj y e a b=>?_⟩;by_cases g:n=j
 ·subst g;rw[List.getElem?_set_self']at a b;cases c:xs[n]? with
  |none=>rw[c]at a;simp at a
  |some _=>
   cases f:ds[n]? with
   |none=>rw[f]at b;simp at b
   |some _=>
    rw[c]at a;rw[f]at b;simp at a b;subst a b;exact hx
 ·rw[List.getElem?_set_ne g]at a b;exact h.get j y e a b
theorem v5.iw (ns:List Int):v5 K G (ns.map V.int) (ns.map D.int):=by
 refine⟨by simp,λj x d a b=>?_⟩;rw[List.getElem?_map]at a b;cases h:ns[j]? with
 |none=>rw[h]at a;cases a
 |some n=>rw[h]at a b;cases a;cases b;exact .int n
end
inductive C where
 |sh (d:D) |ow (l:Bool) (d:D) |fz (es:List (Key×D)) |ob (l:Bool) (fds:List (Str×D)) |rd (fds:List (Str×D))
noncomputable def GZ:C→Bool
 |.ob _ _=>h7
 |.rd _=>h7
 |_=>g8
noncomputable abbrev l9:=List (Option C)
inductive W where
 |val (d:D) |slot (i:Nat) |own (d:D)
structure Bs where
 K:PySem.W.Frag
 H0:Hp
 HK:Hp
 G0:Hp
 L:Nat→Option Addr
 O:Option (Nat×Nat×Addr):=none
noncomputable def Bs.gh (B:Bs)(i:Nat):Bool:=match B.O with
 |some (_,j,_)=>decide (i=j)
 |none=>g8
noncomputable def JV (B:Bs)(i:Nat):Bool→Addr→Prop
 |true,p=>B.L i=g7 p∨(B.gh i=h7∧B.L i=g9∧B.H0 p=g9)
 |false,p=>B.H0 p=g9
noncomputable def C6 (K:PySem.W.Frag)(G H:Hp)(p:Addr):D→Prop
 |.lst ds=>∃xs,H p=g7 (.lst xs)∧v5 K G xs ds
 |.dct es=>∃kvs,H p=g7 (.dK kvs)∧m7 K G kvs es
 |_=>False
theorem C6.some {K:PySem.W.Frag}{G H:Hp}{p:Addr}{d:D}(h:C6 K G H p d):∃o,H p=g7 o:=by
 cases d with
 |lst ds=>obtain⟨xs,e,_⟩:=h;exact⟨_,e⟩
 |dct es=>obtain⟨xs,e,_⟩:=h;exact⟨_,e⟩
 |_=>exact(show False from h).elim
theorem C6.same {K:PySem.W.Frag}{G G' H H':Hp}{p:Addr}{d:D}(s:j5 G G')(e:H' p=H p)(h:C6 K G H p d):C6 K G' H' p d:=by
 cases d with
 |lst ds=>obtain⟨xs,q,r⟩:=h;exact⟨xs,by rw[e];exact q,r.same s⟩
 |dct es=>obtain⟨xs,q,r⟩:=h;exact⟨xs,by rw[e];exact q,r.same s⟩
 |_=>exact(show False from h).elim
def FZ (K:PySem.W.Frag)(G:Hp)(σ:St)(ρ:l9):Prop:=∀(i:Nat) es,ρ[i]?=g7 (g7 (.fz es))→∃a o kvs,σ[i]?=g7 (g7 (.ref a))∧G a=g7 (.df o (.dK kvs))∧m7 K G kvs es
theorem FZ.same {K:PySem.W.Frag}{G G':Hp}{σ:St}{ρ:l9}(h:FZ K G σ ρ)(s:j5 G G'):FZ K G' σ ρ:=λi es e=>by
 obtain⟨a,o,kvs,b,c,d⟩:=h i es e;exact⟨a,o,kvs,b,s _ _ c,d.same s⟩
theorem FZ.hJ {K:PySem.W.Frag}{G:Hp}{σ:St}{ρ:l9}{i:Nat}{c:Option C}(h:FZ K G σ ρ)(a:∀es,c≠g7 (.fz es)):FZ K G σ (ρ.set i c):=λj es e=>by
 by_cases z:i=j
 ·subst z;rw[List.getElem?_set_self']at e;cases q:ρ[i]? with
  |none=>rw[q]at e;cases e
  |some b=>rw[q]at e;exact absurd (Option.some.inj e) (a es)
 ·rw[List.getElem?_set_ne z]at e;exact h j es e
theorem FZ.ro {K:PySem.W.Frag}{G:Hp}{σ:St}{ρ:l9}{i:Nat}{c:Option C}{v:Option V}(h:FZ K G σ ρ)(a:∀es,c≠g7 (.fz es)):FZ K G (σ.set i v) (ρ.set i c):=λj es e=>by
 by_cases z:i=j
 ·subst z;rw[List.getElem?_set_self']at e;cases q:ρ[i]? with
  |none=>rw[q]at e;cases e
  |some b=>rw[q]at e;exact absurd (Option.some.inj e) (a es)
 ·rw[List.getElem?_set_ne z]at e⊢;exact h j es e
noncomputable def U5:Str:="table"
def O0 (K:PySem.W.Frag)(G:Hp)(fs:List (Str×V))(fds:List (Str×D)):Prop:=Paired (λ(p:Str×V) (q:Str×D)=>p.1=q.1∧(p.1≠U5→Rep K G p.2 q.2)) fs fds
theorem O0.same {K:PySem.W.Frag}{G G':Hp}(s:j5 G G'){fs:List (Str×V)}{fds:List (Str×D)}(h:O0 K G fs fds):O0 K G' fs fds:=Paired.Ai h λ_ _ z=>⟨z.1,λn=>(z.2 n).same s⟩
def OB (B:Bs)(G H:Hp)(σ:St)(ρ:l9):Prop:=(∀(i:Nat) l fds,ρ[i]?=g7 (g7 (.ob l fds))→∃j C p dx fs,B.O=g7 (i,j,C)∧σ[i]?=g7 (g7 (.ref p))∧G p=g9∧B.HK p=g9∧((l=h7→B.L i=g7 p)∧(l=g8→B.H0 p=g9))∧
 H p=g7 (.ins C dx fs)∧O0 B.K G fs fds∧∀v,fs.lookup U5=g7 v→∀d,ρ[j]?=g7 (g7 (.ow h7 d))→σ[j]?=g7 (g7 v))∧
 ∀(i:Nat) fds,ρ[i]?=g7 (g7 (.rd fds))→∃a b C p dx fs,B.O=g7 (a,b,C)∧σ[i]?=g7 (g7 (.ref p))∧B.HK p=g7 (.ins C dx fs)∧O0 B.K G fs fds
theorem OB.to(h:OB B G H σ ρ)(s:j5 G G')(t:∀p C dx fs,H p=g7 (.ins C dx fs)→G p=g9→G' p=g9)(u:∀p C dx fs,H p=g7 (.ins C dx fs)→B.HK p=g9→G p=g9→H' p=g7 (.ins C dx fs))
  (q:∀(i:Nat) c,GZ c=h7→b[i]?=g7 (g7 c)→ρ[i]?=g7 (g7 c)∧a[i]?=σ[i]?) (w:∀(j:Nat) d,b[j]?=g7 (g7 (.ow h7 d))→(∃k,ρ[j]?=g7 (g7 (.ow h7 k)))∧a[j]?=σ[j]?):OB B G' H' a b:=by
 refine⟨λi l fds e=>?_,λi fds e=>?_⟩
 ·obtain⟨m,es⟩:=q i _ rfl e;obtain⟨j,C,p,dx,fs,n,o,f,g,x,r,y,z⟩:=h.1 i l fds m;refine⟨j,C,p,dx,fs,n,by rw[es];exact o,t _ _ _ _ r f,g,x,u _ _ _ _ r g f,y.same s,λv A d hd=>?_⟩;obtain⟨⟨k,E⟩,F⟩:=w j d hd;rw[F];exact z v A k E
 ·obtain⟨m,es⟩:=q i _ rfl e;obtain⟨I,j,C,p,dx,fs,n,o,f,g⟩:=h.2 i fds m;exact⟨I,j,C,p,dx,fs,n,by rw[es];exact o,f,g.same s⟩
theorem OB.gh(h:OB B G H σ ρ)(s:j5 G G')(a:∀p C dx fs,H p=g7 (.ins C dx fs)→G p=g9→G' p=g9)(b:∀p C dx fs,H p=g7 (.ins C dx fs)→B.HK p=g9→G p=g9→H' p=g7 (.ins C dx fs)):OB B G' H' σ ρ:=
 h.to s a b (λ_ _ _ e=>⟨e,rfl⟩) λ_ d e=>⟨⟨d,e⟩,rfl⟩
theorem OB.re(h:OB B G H σ ρ)(b:∀(i:Nat) c,GZ c=h7→a[i]?=g7 (g7 c)→ρ[i]?=g7 (g7 c))(f:∀(j:Nat) d,a[j]?=g7 (g7 (.ow h7 d))→∃k,ρ[j]?=g7 (g7 (.ow h7 k))):OB B G H σ a:=
 h.to (j5.refl _) (λ_ _ _ _ _ g=>g) (λ_ _ _ _ e _ _=>e) (λi c z e=>⟨b i c z e,rfl⟩) λj d e=>⟨f j d e,rfl⟩
theorem U6 {ρ:l9}(e:(ρ.set i c)[j]?=g7 (g7 x)):(i=j∧c=g7 x)∨(i≠j∧ρ[j]?=g7 (g7 x)):=by
 by_cases z:i=j
 ·subst z;rw[List.getElem?_set_self']at e;cases q:ρ[i]? with
  |none=>rw[q]at e;cases e
  |some a=>rw[q]at e;exact .inl ⟨rfl,Option.some.inj e⟩
 ·rw[List.getElem?_set_ne z]at e;exact .inr ⟨z,e⟩
theorem OB.hJ(h:OB B G H σ ρ)(b:∀x,c=g7 x→GZ x=g8)(f:∀d,c=g7 (.ow h7 d)→∃g,ρ[i]?=g7 (g7 (.ow h7 g))):OB B G H σ (ρ.set i c):=by
 refine h.re (λj x z e=>?_) λj d e=>?_
 ·rcases U6 e with⟨_,a⟩ | ⟨_,a⟩
  ·rw[b x a]at z;cases z
  ·exact a
 ·rcases U6 e with⟨z,a⟩ | ⟨_,a⟩
  ·subst z;exact f d a
  ·exact⟨d,a⟩
theorem OB.ro(h:OB B G H σ ρ)(b:∀x,c=g7 x→GZ x=g8)(f:∀d,c≠g7 (.ow h7 d)):OB B G H (σ.set i v) (ρ.set i c):=by
 refine h.to (j5.refl _) (λ_ _ _ _ _ g=>g) (λ_ _ _ _ e _ _=>e) (λj x z e=>?_) λj d e=>?_
 ·rcases U6 e with⟨_,a⟩ | ⟨n,a⟩
  ·rw[b x a]at z;cases z
  ·exact⟨a,List.getElem?_set_ne n⟩
 ·rcases U6 e with⟨_,a⟩ | ⟨n,a⟩
  ·exact absurd a (f d)
  ·exact⟨⟨d,a⟩,List.getElem?_set_ne n⟩
theorem aN {K:PySem.W.Frag}{G H:Hp}{p q:Addr}{d:D}{C dx:Addr}{fs:List (Str×V)}(o:C6 K G H q d)(h:H p=g7 (.ins C dx fs)):p≠q:=by
 rintro rfl
 cases d with
 |lst ds=>obtain⟨xs,e,_⟩:=o;rw[h]at e;cases e
 |dct es=>obtain⟨xs,e,_⟩:=o;rw[h]at e;cases e
 |_=>exact(show False from o).elim
structure RS (B:Bs) (G H:Hp) (σ:St) (ρ:l9):Prop where
 hk:j5 B.HK B.H0
 keep:j5 B.HK H
 g0:j5 B.G0 G
 gH:j5 G H
 gnew:∀p o,G p=some o→B.G0 p=some o∨B.H0 p=none
 dom:∀p,H p=none→B.H0 p=none
 len:σ.length=ρ.length
 sh:∀(i:Nat) d,ρ[i]?=some (some (.sh d))→∃v,σ[i]?=some (some v)∧Rep B.K G v d
 ow:∀(i:Nat) l d,ρ[i]?=some (some (.ow l d))→∃p,σ[i]?=some (some (.ref p))∧G p=none∧B.HK p=none∧JV B i l p∧C6 B.K G H p d
 inj:∀(i j:Nat) l d k e p,ρ[i]?=some (some (.ow l d))→ρ[j]?=some (some (.ow k e))→σ[i]?=some (some (.ref p))→σ[j]?=some (some (.ref p))→i=j
 fz:FZ B.K G σ ρ
 ob:OB B G H σ ρ
noncomputable def L4 (B:Bs)(G H:Hp)(σ:St)(ρ:l9)(v:V):W→Prop
 |.val d=>Rep B.K G v d
 |.slot i=>σ[i]?=g7 (g7 v)
 |.own d=>∃p,v=.ref p∧G p=g9∧B.H0 p=g9∧C6 B.K G H p d∧∀(i:Nat) l e,ρ[i]?=g7 (g7 (.ow l e))→σ[i]?≠g7 (g7 (.ref p))
def T3 (K:PySem.W.Frag)(G H:Hp)(v:V)(d:D):Prop:=Rep K G v d∨∃p,v=.ref p∧C6 K G H p d
section
variable {K:PySem.W.Frag}{G H:Hp}{v:V}
theorem T3.int(h:T3 K G H v (.int i)):v=.int i:=by
 rcases h with h| ⟨p,_,h⟩
 ·cases h;rfl
 ·exact(show False from h).elim
theorem T3.bl(h:T3 K G H v (.bl b)):v=.bl b:=by
 rcases h with h| ⟨p,_,h⟩
 ·cases h;rfl
 ·exact(show False from h).elim
theorem T3.z5 (h:T3 K G H v .z5):v=.z5:=by
 rcases h with h| ⟨p,_,h⟩
 ·cases h;rfl
 ·exact(show False from h).elim
theorem T3.ty(h:T3 K G H v (.ty n)):v=.ty n:=by
 rcases h with h| ⟨p,_,h⟩
 ·cases h;rfl
 ·exact(show False from h).elim
theorem T3.str(h:T3 K G H v (.str cs)):v=.str (tx cs):=by
 rcases h with h| ⟨p,_,h⟩
 ·cases h;rfl
 ·exact(show False from h).elim
theorem T3.tup {ds:List D}(g:j5 G H)(h:T3 K G H v (.tup ds)):∃a xs,v=.ref a∧bJ K H a xs∧v5 K G xs ds:=by
 rcases h with h| ⟨p,_,h⟩
 ·cases h with
  |tup h hl hr=>exact⟨_,_,rfl,g.tup h,hl,hr⟩
 ·exact(show False from h).elim
theorem T3.lst {ds:List D}(g:j5 G H)(h:T3 K G H v (.lst ds)):∃a xs,v=.ref a∧T9 K H a xs∧v5 K G xs ds:=by
 rcases h with h| ⟨p,rfl,xs,e,r⟩
 ·cases h with
  |lst h hl hr=>exact⟨_,_,rfl,g.seq h,hl,hr⟩
 ·exact⟨p,xs,rfl,T9.of e,r⟩
theorem T3.dct {es:List (Key×D)}(g:j5 G H)(h:T3 K G H v (.dct es)):∃a kvs,v=.ref a∧Rd H a (.dK kvs)∧m7 K G kvs es:=by
 rcases h with h| ⟨p,rfl,xs,e,r⟩
 ·cases h with
  |dct h hk hr=>exact⟨_,_,rfl,L3.Rd.same g h,hk,hr⟩
 ·exact⟨p,xs,rfl,.inl e,r⟩
end
noncomputable def getD (w:W)(ρ:l9):Option D:=match w with
 |.val d=>g7 d
 |.own d=>g7 d
 |.slot i=>match ρ[i]? with
  |some (g7 (.sh d))=>g7 d
  |some (g7 (.ow _ d))=>g7 d
  |some (g7 (.fz es))=>g7 (.dct es)
  |_=>g9
section
variable {B:Bs}{G G' H H':Hp}{σ:St}{ρ:l9}{v:V}{w:W}{d:D}
theorem L4.get (R:RS B G H σ ρ)(h:L4 B G H σ ρ v w)(e:getD w ρ=g7 d):T3 B.K G H v d:=by
 cases w with
 |val c=>cases e;exact .inl h
 |own c=>
  cases e;obtain⟨p,rfl,_,_,o,_⟩:=h;exact .inr ⟨p,rfl,o⟩
 |slot i=>
  have h':σ[i]?=g7 (g7 v):=h;unfold getD at e;simp only[]at e;split at e
  ·rename_i c q;cases e;obtain⟨j,b,r⟩:=R.sh i _ q;rw[h']at b;cases b;exact .inl r
  ·rename_i l c q;cases e;obtain⟨p,b,_,_,_,o⟩:=R.ow i _ _ q;rw[h']at b;cases b;exact .inr ⟨p,rfl,o⟩
  ·rename_i es q;cases e;obtain⟨a,o,kvs,b,g,f⟩:=R.fz i _ q;rw[h']at b;cases b;exact .inl (.dct (.inr ⟨o,g⟩) f.keys f.get)
  ·cases e
theorem L4.same {a:l9}(s:j5 G G')(h:L4 B G H σ ρ v w)(b:∀d,w≠.own d):L4 B G' H' σ a v w:=by
 cases w with
 |val d=>exact Rep.same s h
 |slot i=>exact h
 |own d=>exact absurd rfl (b d)
theorem RS.df(R:RS B G H σ ρ)(g:G p=g9)(k:B.H0 p=g9)(o:C6 B.K G H p d)(ne:∀(i:Nat) l e,ρ[i]?=g7 (g7 (.ow l e))→σ[i]?≠g7 (g7 (.ref p))):
  ∃G',j5 G G'∧RS B G' H σ ρ∧Rep B.K G' (.ref p) d:=by
 obtain⟨ob,a⟩:=o.some;have s:j5 G (upd G p ob):=bp g ob;refine⟨upd G p ob,s,⟨R.hk,R.keep,R.g0.trans s,?_,?_,R.dom,R.len,?_,?_,R.inj,R.fz.same s,R.ob.gh s (λq _ _ _ m n=>by rw[i9 (aN o m)];exact n) λ_ _ _ _ e _ _=>e⟩,?_⟩
 ·intro b u q;by_cases e:b=p
  ·subst e;rw[l5]at q;cases q;exact a
  ·rw[i9 e]at q;exact R.gH b u q
 ·intro b u q;by_cases e:b=p
  ·subst e;exact .inr k
  ·rw[i9 e]at q;exact R.gnew b u q
 ·intro i f q;obtain⟨v,h,r⟩:=R.sh i f q;exact⟨v,h,r.same s⟩
 ·intro i l f q;obtain⟨j,h,t,w,x,y⟩:=R.ow i l f q;have e:j≠p:=λz=>ne i l f q (by rw[h,z]);exact⟨j,h,by rw[i9 e];exact t,w,x,y.same s rfl⟩
 ·cases d with
  |lst ds=>
   obtain⟨xs,e,r⟩:=o;rw[e]at a;cases a;have c:=r.same s;exact .lst (T9.of l5) c.len c.get
  |dct es=>
   obtain⟨xs,e,r⟩:=o;rw[e]at a;cases a;have c:=r.same s;exact .dct (.inl l5) c.keys c.get
  |_=>exact(show False from o).elim
end
structure vc where
 cls:Str
 fs:List (Str×D)
inductive R' (α:Type) where
 |ok (a:α) (ρ:l9) |ex (x:vc) (ρ:l9)
noncomputable abbrev M (α:Type):=l9→Option (R' α)
noncomputable def M.pure {α:Type}(a:α):M α:=λρ=>g7 (.ok a ρ)
noncomputable def M.bind {α c:Type}(m:M α)(f:α→M c):M c:=λρ=>match m ρ with
 |none=>g9
 |some (.ex x b)=>g7 (.ex x b)
 |some (.ok a b)=>f a b
theorem M.k9 {α c:Type}{m:M α}{f:α→M c}{ρ b:l9}{a:α}(h:m ρ=g7 (.ok a b)):M.bind m f ρ=f a b:=by unfold M.bind;rw[h]
theorem M.kM {α b:Type}{m:M α}{f:α→M b}{ρ a:l9}{x:vc}(h:m ρ=g7 (.ex x a)):M.bind m f ρ=g7 (.ex x a):=by unfold M.bind;rw[h]
theorem M.bind_none {α a:Type}{m:M α}{f:α→M a}{ρ:l9}(h:m ρ=g9):M.bind m f ρ=g9:=by unfold M.bind;rw[h]
noncomputable def Q1 (w:W):M D:=λρ=>match w with
 |.val d=>g7 (.ok d ρ)
 |.own d=>g7 (.ok d ρ)
 |.slot i=>match ρ[i]? with
  |some (g7 (.sh d))=>g7 (.ok d ρ)
  |some (g7 (.ow g8 d))=>g7 (.ok d (ρ.set i (g7 (.sh d))))
  |some (g7 (.fz es))=>g7 (.ok (.dct es) ρ)
  |_=>g9
theorem fB(h:Q1 w ρ=g7 r):∃d a,r=.ok d a:=by
 unfold Q1 at h;cases w with
 |val d=>cases h;exact⟨_,_,rfl⟩
 |own d=>cases h;exact⟨_,_,rfl⟩
 |slot i=>
  simp only[]at h;split at h
  ·cases h;exact⟨_,_,rfl⟩
  ·cases h;exact⟨_,_,rfl⟩
  ·cases h;exact⟨_,_,rfl⟩
  ·cases h
section
variable {B:Bs}{G G' H H':Hp}{σ:St}{ρ Nb:l9}{v:V}{w:W}{d:D}
theorem L4.Q1 (R:RS B G H σ ρ)(h:L4 B G H σ ρ v w)(e:L3.Q1 w ρ=g7 (.ok d Nb)):∃G',j5 G G'∧RS B G' H σ Nb∧Rep B.K G' v d:=by
 unfold L3.Q1 at e;cases w with
 |val m=>cases e;exact⟨G,j5.refl G,R,h⟩
 |own m=>
  cases e;obtain⟨p,rfl,g,I,o,ne⟩:=h;exact R.df g I o ne
 |slot i=>
  have h':σ[i]?=g7 (g7 v):=h;simp only[]at e;split at e
  ·rename_i m q;cases e;obtain⟨N,n,r⟩:=R.sh i _ q;rw[h']at n;cases n;exact⟨G,j5.refl G,R,r⟩
  ·rename_i m q;cases e;obtain⟨p,n,x,y,J,o⟩:=R.ow i _ _ q;have hi:i<ρ.length:=(List.getElem?_eq_some_iff.mp q).1;rw[h']at n;cases n
   
   have L:RS B G H σ (ρ.set i g9):=by
    refine⟨R.hk,R.keep,R.g0,R.gH,R.gnew,R.dom,by simp[R.len],λj m f=>?_,λj l m f=>?_,λj k l m A u E a b=>?_,R.fz.hJ (by intro _ h;cases h),R.ob.hJ (by intro _ h;cases h<;>rfl) (by intro _ h;cases h)⟩
    ·by_cases z:i=j
     ·subst z;rw[List.getElem?_set_self hi]at f;cases f
     ·rw[List.getElem?_set_ne z]at f;exact R.sh j m f
    ·by_cases z:i=j
     ·subst z;rw[List.getElem?_set_self hi]at f;cases f
     ·rw[List.getElem?_set_ne z]at f;exact R.ow j l m f
    ·by_cases z:i=j
     ·subst z;rw[List.getElem?_set_self hi]at a;cases a
     ·by_cases t:i=k
      ·subst t;rw[List.getElem?_set_self hi]at b;cases b
      ·rw[List.getElem?_set_ne z]at a;rw[List.getElem?_set_ne t]at b;exact R.inj j k l m A u E a b
   obtain⟨G',s,R',r⟩:=L.df x J o λj l u f z=>by
    by_cases F:i=j
    ·subst F;rw[List.getElem?_set_self hi]at f;cases f
    ·rw[List.getElem?_set_ne F]at f;exact F (R.inj i j _ _ _ _ p q f h' z)
   refine⟨G',s,⟨R'.hk,R'.keep,R'.g0,R'.gH,R'.gnew,R'.dom,by simp[R.len],λj m f=>?_,λj l m f=>?_,λj k l m A u E a b=>?_,(R.fz.same s).hJ (by intro _ h;cases h),R'.ob.re (λj c t e=>?_) λj d e=>?_⟩,r⟩
   ·by_cases z:i=j
    ·subst z;rw[List.getElem?_set_self hi]at f;cases f;exact⟨_,h',r⟩
    ·rw[List.getElem?_set_ne z]at f;exact R'.sh j m (by rw[List.getElem?_set_ne z];exact f)
   ·by_cases z:i=j
    ·subst z;rw[List.getElem?_set_self hi]at f;cases f
    ·rw[List.getElem?_set_ne z]at f;exact R'.ow j l m (by rw[List.getElem?_set_ne z];exact f)
   ·by_cases z:i=j
    ·subst z;rw[List.getElem?_set_self hi]at a;cases a
    ·by_cases t:i=k
     ·subst t;rw[List.getElem?_set_self hi]at b;cases b
     ·rw[List.getElem?_set_ne z]at a;rw[List.getElem?_set_ne t]at b;exact R.inj j k l m A u E a b
   ·by_cases z:i=j
    ·subst z;rw[List.getElem?_set_self hi]at e;cases e;cases t
    ·rw[List.getElem?_set_ne z]at e⊢;exact e
   ·by_cases z:i=j
    ·subst z;rw[List.getElem?_set_self hi]at e;cases e
    ·rw[List.getElem?_set_ne z]at e⊢;exact⟨d,e⟩
  ·rename_i es q;cases e;obtain⟨a,o,kvs,n,x,y⟩:=R.fz i _ q;rw[h']at n;cases n;exact⟨G,j5.refl G,R,.dct (.inr ⟨o,x⟩) y.keys y.get⟩
  ·cases e
theorem RS.ub(R:RS B G H σ ρ)(c:H p=g9)(r:v5 B.K G xs ds):∃G',j5 G G'∧RS B G' (upd H p (.tup xs)) σ ρ∧Rep B.K G' (.ref p) (.tup ds):=by
 have g:G p=g9:=R.gH.free c;have s:j5 G (upd G p (.tup xs)):=bp g _;have o:j5 H (upd H p (.tup xs)):=bp c _;refine⟨upd G p (.tup xs),s,⟨R.hk,R.keep.trans o,R.g0.trans s,?_,?_,?_,R.len,?_,?_,R.inj,R.fz.same s,R.ob.gh s (λq _ _ _ f y=>by rw[i9 (t8 f c)];exact y) λq _ _ _ f _ _=>o q _ f⟩,.tup (bJ.of l5) r.len λj x d a b=>(r.get j x d a b).same s⟩
 ·intro b u q;by_cases e:b=p
  ·subst e;rw[l5]at q⊢;exact q
  ·rw[i9 e]at q⊢;exact R.gH b u q
 ·intro b u q;by_cases e:b=p
  ·subst e;exact .inr (R.dom _ c)
  ·rw[i9 e]at q;exact R.gnew b u q
 ·intro b q;by_cases e:b=p
  ·subst e;exact R.dom _ c
  ·rw[i9 e]at q;exact R.dom b q
 ·intro i h q;obtain⟨v,k,m⟩:=R.sh i h q;exact⟨v,k,m.same s⟩
 ·intro i l h q;obtain⟨t,k,m,z,A,w⟩:=R.ow i l h q;obtain⟨ob,n⟩:=w.some;have e:t≠p:=t8 n c;exact⟨t,k,by rw[i9 e];exact m,z,A,w.same s (i9 e)⟩
theorem RS.heap(R:RS B G H σ ρ)(a:H p=g9):RS B G (upd H p o) σ ρ:=by
 have c:j5 H (upd H p o):=bp a _;refine⟨R.hk,R.keep.trans c,R.g0,R.gH.trans c,R.gnew,?_,R.len,R.sh,?_,R.inj,R.fz,R.ob.gh (j5.refl _) (λ_ _ _ _ _ h=>h) λq _ _ _ j _ _=>c q _ j⟩
 ·intro b q;by_cases e:b=p
  ·subst e;exact R.dom _ a
  ·rw[i9 e]at q;exact R.dom b q
 ·intro i l k q;obtain⟨f,m,n,r,s,g⟩:=R.ow i l k q;obtain⟨ob,d⟩:=g.some;have e:f≠p:=t8 d a;exact⟨f,m,n,r,s,g.same (j5.refl G) (i9 e)⟩
theorem RS.Ae(R:RS B G H σ ρ)(b:H p=g9)(h:C6 B.K G (upd H p o) p d):RS B G (upd H p o) σ ρ∧L4 B G (upd H p o) σ ρ (.ref p) (.own d):=by
 refine⟨R.heap b,p,rfl,R.gH.free b,R.dom _ b,h,λi l e q z=>?_⟩;obtain⟨g,c,j,k,m,f⟩:=R.ow i l e q;obtain⟨ob,a⟩:=f.some;rw[c]at z;cases z;rw[b]at a;cases a
theorem RS.eM(R:RS B G H σ ρ)(a:H p=g9)(r:v5 B.K G xs ds):RS B G (upd H p (.lst xs)) σ ρ∧L4 B G (upd H p (.lst xs)) σ ρ (.ref p) (.own (.lst ds)):=
 R.Ae a ⟨xs,l5,r⟩
theorem RS.pM(R:RS B G H σ ρ)(a:H p=g9)(r:m7 B.K G kvs es):RS B G (upd H p (.dK kvs)) σ ρ∧L4 B G (upd H p (.dK kvs)) σ ρ (.ref p) (.own (.dct es)):=
 R.Ae a ⟨kvs,l5,r⟩
theorem RS.write(R:RS B G H σ ρ)(hi:ρ[i]?=g7 (g7 (.ow l d)))(hs:σ[i]?=g7 (g7 (.ref p)))(h:C6 B.K G (upd H p o) p s):
  RS B G (upd H p o) σ (ρ.set i (g7 (.ow l s))):=by
 obtain⟨Q,t,v,w,E,F⟩:=R.ow i l d hi;rw[hs]at t;cases t;have m:i<ρ.length:=(List.getElem?_eq_some_iff.mp hi).1;refine⟨R.hk,λb u q=>?_,R.g0,λb u q=>?_,R.gnew,λb q=>?_,by simp[R.len],λj e q=>?_,λj k e q=>?_,λj k a b c e f x y=>?_,R.fz.hJ (by intro _ h;cases h),(R.ob.gh (j5.refl _) (λ_ _ _ _ _ I=>I) λq _ _ _ A _ _=>by rw[i9 (aN F A)];exact A).hJ (by intro _ h;cases h<;>rfl) (by intro S h;cases h;exact⟨_,hi⟩)⟩
 ·rw[i9 (t8 q w)];exact R.keep b u q
 ·rw[i9 (t8 q v)];exact R.gH b u q
 ·by_cases z:b=p
  ·subst z;rw[l5]at q;cases q
  ·rw[i9 z]at q;exact R.dom b q
 ·by_cases z:i=j
  ·subst z;rw[List.getElem?_set_self m]at q;cases q
  ·rw[List.getElem?_set_ne z]at q;exact R.sh j e q
 ·by_cases z:i=j
  ·subst z;rw[List.getElem?_set_self m]at q;cases q;exact⟨p,hs,v,w,E,h⟩
  ·rw[List.getElem?_set_ne z]at q;obtain⟨f,g,n,J,L,N⟩:=R.ow j k e q;have O:f≠p:=λP=>z (R.inj i j _ _ _ _ p hi q hs (by rw[g,P]));exact⟨f,g,n,J,L,N.same (j5.refl G) (i9 O)⟩
 ·by_cases z:i=j
  ·by_cases r:i=k
   ·intro _ _;omega
   ·subst z;rw[List.getElem?_set_ne r]at y;intro g n;exact R.inj i k l d c e f hi y g n
  ·by_cases r:i=k
   ·subst r;rw[List.getElem?_set_ne z]at x;intro g n;exact R.inj j i a b l d f x hi g n
   ·rw[List.getElem?_set_ne z]at x;rw[List.getElem?_set_ne r]at y;exact R.inj j k a b c e f x y
end
structure iS (fs xs:List Addr) (h h':Heap):Prop where
 keep:∀b o,h.get? b=some o→b∉fs→b∉xs→h'.get? b=some o
 slot:∀b o,h.get? b=some o→b∉xs→∃sl,h'.get? b=some {o with slots:=sl}
 there:∀b o,h.get? b=some o→∃o',h'.get? b=some o'
def yG (h:Heap)(e T:Addr)(cls:Value)(dct:Option Addr)(c:Value):Prop:=
 ∃a vs b ts,h.get? e=g7 a∧a.cls=cls∧a.dict=dct∧a.data=.fields vs∧vs[1]?=g7 (.ref T)∧T≠e∧h.get? T=g7 b∧b.data=.fields ts∧ts[3]?=g7 c
theorem mw (f:Array Value→Array Value)(o:Obj):(Obj.mapFields f o).dict=o.dict:=by
 obtain⟨c,d,a,sl⟩:=o;cases a<;>rfl
section
variable {M:Model}{A:Around}{E:Value→Shared→Prop}{s:Shared}{base:Heap}{env:Env}{outer:List Env}{L e T:Addr}{oe:Obj}{vs:Array Value}{cls fl:Value}{dct:Option Addr}{Q:Unit→Shared→Prop}
theorem Bt(m:A.frames=g7 (env::outer))(hl:s.heap.FunFrames base (env::outer))(B:env.frame=g7 L)(w:s.heap.get? e=g7 oe)(hd:oe.data=.fields vs)(l:1<vs.size)
  (h:∀h' x,iS (frs (env::outer)) [e] s.heap h'→s.heap.get? x=g9→yG h' e x oe.cls oe.dict (rawInt L)→Q () {s with heap:=h'}):
  wpAny M A (do let a←frameOf env;let k←entryPlaceOf L f;let b←qY head a .none (rawInt L) .none k;Nk (.ref e) 1 b) Q E s:=by
 have n:e∉(env::outer).filterMap (·.frame):=λF=>by
  obtain⟨_,o,y,p⟩:=hl.mem F;rw[w]at y;cases y;exact p vs hd
 refine wpAny_bind (wpAny_frameOf_fun m hl B λc hs=>?_);refine wpAny_bind (wpAny_entryPlaceOf λk r=>?_);unfold qY newFields;refine wpAny_bind (T4 ?_ (r.sizeOk5 _ _ _ _ _));have g:c.get? e=g7 oe:=(hs.2.1 e n).trans w;generalize z:({cls:=.type "traceback",dict:=g9,data:=.fields ([head,.ref L,.none,rawInt L,.none]++(if k.isEmpty then List.replicate 6 Value.none else k)).toArray}:Obj)=O;have t:O.data=.fields ([head,.ref L,.none,rawInt L,.none]++(if k.isEmpty then List.replicate 6 Value.none else k)).toArray:=by rw[←z]
 have u:O.isFreed=g8:=by rw[←z];rfl
 have d:=Heap.get?_push_of_some (h:=c) O g;have i:c.objs.size≠e:=y0 (Heap.lt_size g);refine wL d hd l (h _ c.objs.size ?_ ?_ ?_)
 ·have keep:∀b o,b≠e→c.get? b=g7 o→((c.push O).update e (Obj.mapFields (·.setIfInBounds 1 (Value.ref c.objs.size)))).get? b=g7 o:=λb o G j=>by
   rw[Heap.get?_update_other _ _ (o1 G)];exact Heap.get?_push_of_some _ j
  refine⟨λb o j H nx=>keep b o (λq=>nx (by simp[q])) ((hs.2.1 b H).trans j),λb o j nx=>?_,λb o j=>?_⟩
  ·obtain⟨sl,v⟩:=hs.2.2 b o j;exact⟨sl,keep b _ (λq=>nx (by simp[q])) v⟩
  ·by_cases q:b=e
   ·subst q;exact⟨_,Heap.get?_update_self _ d (Obj.isFreed_of_fields (Obj.data_mapFields hd _))⟩
   ·obtain⟨sl,v⟩:=hs.2.2 b o j;exact⟨_,keep b _ q v⟩
 ·exact Heap.get?_none_of_le (by rw[hs.1];exact i8 _)
 ·have I:=(Heap.get?_update_other (c.push O) (Obj.mapFields (·.setIfInBounds 1 (Value.ref c.objs.size))) (o1 i)).trans (Heap.get?_push_size c u);refine⟨_,_,O,_,Heap.get?_update_self _ d (Obj.isFreed_of_fields (Obj.data_mapFields hd _)),Obj.cls_mapFields _ _,mw _ _,Obj.data_mapFields hd _,by simp[l],i,I,t,by simp⟩
theorem sd{h:Heap}(e:h.get? T=g7 d)(hd:d.data=.fields ts)(i:Nat)(v:Value):iS fs [T] h (h.update T (Obj.mapFields (·.setIfInBounds i v))):=by
 have a:∀b,b≠T→(h.update T (Obj.mapFields (·.setIfInBounds i v))).get? b=h.get? b:=λb f=>Heap.get?_update_other _ _ (o1 f);refine⟨λb o c _ nx=>(a b λq=>nx (by simp[q])).trans c,λb o c nx=>⟨o.slots,(a b λq=>nx (by simp[q])).trans c⟩,λb o c=>?_⟩;by_cases q:b=T
 ·subst q;exact⟨_,Heap.get?_update_self _ e (Obj.isFreed_of_fields (Obj.data_mapFields hd _))⟩
 ·exact⟨o,(a b q).trans c⟩
theorem lW{h h':Heap}(hl:h.FunFrames base l)(k:iS fs xs h h')(hx:∀x∈xs,∀o,h.get? x=g7 o→∃vs,o.data=.fields vs):h'.FunFrames base l:=
 hl.of_keeps λb o c a=>by
  obtain⟨sl,d⟩:=k.slot b o c λm=>by
   obtain⟨vs,q⟩:=hx b m o c;exact a vs q
  exact⟨_,d,rfl⟩
theorem tZ (a:A.frames=g7 (env::outer))(hl:s.heap.FunFrames base (env::outer))(b:env.frame=g7 L)(c:s.heap.get? e=g7 oe)(hd:oe.data=.fields vs)(d:vs[1]?=g7 .none)
  (h:∀h' f,iS (frs (env::outer)) [e] s.heap h'→s.heap.get? f=g9→yG h' e f oe.cls oe.dict (rawInt L)→Q () {s with heap:=h'}):wpAny M A (noteFrame (.ref e) env) Q E s:=by
 unfold noteFrame;simp only[b];refine wpAny_bind (x2 c hd d ?_);rw[if_neg (by decide)];exact Bt a hl b c hd (R4.mp d).1 h
theorem xD (i:A.frames=g7 (env::outer))(hl:s.heap.FunFrames base (env::outer))(p:env.frame=g7 L)(z:yG s.heap e T cls dct .none)
  (h:∀h' c,iS (frs (env::outer)) [e,T] s.heap h'→s.heap.get? c=g9→yG h' e c cls dct (rawInt L)→Q () {s with heap:=h'}):wpAny M A (noteFrame (.ref e) env) Q E s:=by
 obtain⟨oe,vs,I,ts,r,B,j,hd,t,l,g,a,u⟩:=z;subst B j;unfold noteFrame;simp only[p];refine wpAny_bind (x2 r hd t ?_);rw[if_pos (show(Value.ref T != Value.none)=h7 from by simp)];refine wpAny_bind (x2 g a u ?_);rw[if_neg (show¬((Value.none==rawInt L)=h7)from by simp[rawInt])];refine wpAny_bind (wL g a (R4.mp u).1 ?_);have k:=sd (fs:=frs (env::outer)) g a 3 Value.none;have m:=(Heap.get?_update_other (h:=s.heap) (Obj.mapFields (·.setIfInBounds 3 Value.none)) l).trans r;refine Bt (base:=base) i (lW hl k λx hx o v=>?_) p m hd (R4.mp t).1 λh' c k2 F G=>h h' c ⟨?_,?_,?_⟩ ?_ G
 ·rw[List.mem_singleton]at hx;subst hx;rw[g]at v;cases v;exact⟨ts,a⟩
 ·intro b o f w nx;simp at nx;exact k2.keep b o (k.keep b o f w (by simpa using nx.2)) w (by simpa using nx.1)
 ·intro b o f nx;simp at nx;obtain⟨sl,d⟩:=k.slot b o f (by simpa using nx.2);obtain⟨n,H⟩:=k2.slot b {o with slots:=sl} d (by simpa using nx.1);exact⟨n,H⟩
 ·intro b o f;obtain⟨y,d⟩:=k.there b o f;exact k2.there b y d
 ·cases q:s.heap.get? c with
  |none=>rfl
  |some o=>
   obtain⟨y,d⟩:=k.there c o q;rw[F]at d;cases d
theorem DU {f:Option Addr}(l:yG s.heap e T cls dct fl)(h:∀h',iS [] [T] s.heap h'→yG h' e T cls dct (f.elim Value.none λa=>rawInt a)→Q () {s with heap:=h'}):wpAny M A (setFlight (.ref e) f) Q E s:=by
 obtain⟨oe,vs,o,ts,j,m,g,hd,k,c,i,b,n⟩:=l;have d:3<ts.size:=(R4.mp n).1;unfold setFlight;refine wpAny_bind (x2 j hd k ?_);rw[if_pos (show(Value.ref T != Value.none)=h7 from by simp)];refine wL i b d (h _ (sd i b 3 _) ?_);exact⟨oe,vs,_,_,(Heap.get?_update_other _ _ c).trans j,m,g,hd,k,c,Heap.get?_update_self _ i (Obj.isFreed_of_fields (Obj.data_mapFields b _)),Obj.data_mapFields b _,by simp[d]⟩
theorem ua (b:env.frame=g7 L)(c:yG s.heap e T cls dct (rawInt L))(h:Q () s):wpAny M A (noteFrame (.ref e) env) Q E s:=by
 obtain⟨oe,vs,l,ts,d,m,f,hd,g,i,j,a,k⟩:=c;unfold noteFrame;simp only[b];refine wpAny_bind (x2 d hd g ?_);rw[if_pos (show(Value.ref T != Value.none)=h7 from by simp)];refine wpAny_bind (x2 j a k ?_);rw[if_pos (show(rawInt L==rawInt L)=h7 from by simp)];exact i6 h
end
structure Off (X:Cx) (H:Hp) (a:Addr):Prop where
 new:X.s₀.heap.get? a=none
 free:H a=none
 loc:a≠X.env.locals
 cell:∀x c,X.env.cells.lookup x=some c→c≠a
section
variable {X:Cx}{pins:List (Addr×Obj)}{σ:St}{H:Hp}{s:Shared}{h':Heap}{xs:List Addr}
theorem Ad {h h':Heap}(n:h.Ns a m)(k:∀o,h.get? a=g7 o→∃sl,h'.get? a=g7 {o with slots:=sl}):h'.Ns a m:=by
 obtain⟨o,es,b,e,d,c,f⟩:=n;obtain⟨sl,g⟩:=k o e;exact⟨_,es,b,g,d,c,f⟩
theorem mD {h h':Heap}(n:h.IsCell c v)(k:∀o,h.get? c=g7 o→∃sl,h'.get? c=g7 {o with slots:=sl}):h'.IsCell c v:=by
 obtain⟨o,e,d⟩:=n;obtain⟨sl,a⟩:=k o e;exact⟨_,a,d⟩
theorem _root_.L2.Inv.Bb (I:Inv X [] σ H s)(J:X.pn=[])(k:iS (X.env.locals::X.fs) xs s.heap h')(hx:∀a∈xs,Off X H a):Inv X [] σ H {s with heap:=h'}:=by
 have f:∀b o,X.s₀.heap.get? b=g7 o→b∉xs:=λb o e m=>by rw[(hx b m).new]at e;cases e
 have h:∀b o,X.s₀.heap.get? b=g7 o→b≠X.env.locals:=λb o e z=>absurd (l7 (Heap.lt_size e) I.ok.above) (by rw[z];exact n8 _);have g:∀b∈X.fs,H b=g9:=λb y=>by
  obtain⟨_,o,L,_⟩:=I.ok.iG.mem y;exact I.base.free b o L (I.ok.frf b y) λz=>I.ok.exfs b z y
 have cs:∀x c,X.env.cells.lookup x=g7 c→∀o,s.heap.get? c=g7 o→∃sl,h'.get? c=g7 {o with slots:=sl}:=λx c e o N=>k.slot c o N λm=>(hx c m).cell x c e rfl;refine⟨I.ok,I.os,I.bare,⟨λb o e n w nx=>?_,λb o e n w nx=>?_,I.base.free,λb o e nx=>?_,I.base.tups,I.base.frzs,I.base.tbls⟩,?_,λx c e=>?_,I.free,I.freeC,?_,λa o e=>?_,I.len⟩
 ·exact k.keep b o (I.base.keep b o e n w nx) (λm=>(List.mem_cons.mp m).elim (h b o e) w) (f b o e)
 ·obtain⟨sl,j⟩:=I.base.slot b o e n w nx;obtain⟨A,B⟩:=k.slot b _ j (f b o e);exact⟨A,B⟩
 ·obtain⟨O,j⟩:=I.base.there b o e nx;exact k.there b O j
 ·obtain⟨m,n,l⟩:=I.loc;refine⟨m,Ad n λo e=>k.slot _ o e λz=>(hx _ z).loc rfl,λi x v j B P=>?_⟩;obtain⟨u,r,lk⟩:=l i x v j B P;refine⟨u,r,lk.imp id λ⟨q,c,F,E⟩=>⟨q,c,F,mD E (cs x c F)⟩⟩
 ·obtain⟨v,E⟩:=I.cell x c e;exact⟨v,mD E (cs x c e)⟩
 ·intro p t;rw[J]at t;cases t
 ·refine(I.hok a o e).stay (λc v G q=>k.keep c v q (λm=>?_) λm=>?_) (λ_ q=>q) λ_ _ q=>q
  ·have d:H c=g9:=by
    rcases List.mem_cons.mp m with z|z
    ·rw[z];exact I.free
    ·exact g c z
   rcases G with z|z
   ·rw[z,e]at d;cases d
   ·rw[z]at d;cases d
  ·have d:=(hx c m).free;rcases G with z|z
   ·rw[z,e]at d;cases d
   ·rw[z]at d;cases d
def uW (H:Hp)(fs:List (Str×D))(dct:Option Addr):Prop:=(fs=[]∧dct=g9)∨∃dx f n,fs=[(f,.int n)]∧dct=g7 dx∧H dx=g7 (.xd [(f,.int n)])
def ea (K:PySem.W.Frag)(H:Hp)(x:vc)(cls:Value)(dct:Option Addr):Prop:=∃C,cls=.ref C∧PySem.W.nsIn K k8 x.cls=g7 (g7 (.ref C))∧uW H x.fs dct
def JY (X:Cx)(H:Hp)(a:Addr)(cls:Value)(dct:Option Addr)(h:Heap):Prop:=
 (∃b vs,h.get? a=g7 b∧b.cls=cls∧b.dict=dct∧b.data=.fields vs∧vs[1]?=g7 .none)∨∃T c,yG h a T cls dct c∧Off X H T∧(c=.none∨c=rawInt X.env.locals)
structure aE (X:Cx):Prop where
 pn:X.pn=[]
 ex:X.ex=[]
 stk:X.stack=X.env::X.outer
 fr:X.env.frame=some X.env.locals
theorem yT (I:Inv X pins σ H s)(e:H a=g7 o):∃ob,s.heap.get? a=g7 ob:=by
 have x:=I.hok a o e;generalize s.heap=h at x;cases o with
 |lst xs=>obtain⟨_,_,_,_,e⟩:=x;exact⟨_,e⟩
 |tup xs=>obtain⟨_,_,_,ob,e,_⟩:=x;exact⟨_,e⟩
 |dK kvs=>obtain⟨_,_,_,_,o,_,_,e,_⟩:=x;exact⟨_,e⟩
 |dT kvs=>obtain⟨_,_,_,_,o,_,_,e,_⟩:=x;exact⟨_,e⟩
 |set S n=>obtain⟨o,_,_,_,e,_⟩:=x;exact⟨_,e⟩
 |ins C dx fs=>obtain⟨_,_,_,e,_⟩:=x;exact⟨_,e⟩
 |own y=>exact x
 |xd fs=>obtain⟨_,⟨_,_,_,e,_⟩,_⟩:=x;exact⟨_,e⟩
 |rng lo hi=>obtain⟨_,_,_,e⟩:=x;exact⟨_,e⟩
 |df ob u=>obtain⟨e,_⟩:=x;exact⟨_,e⟩
 |tbl ps=>exact⟨_,show h.get? a=g7 _ from x⟩
 |met f y=>exact⟨_,show h.get? a=g7 _ from x⟩
 |ext φ=>obtain⟨_,e,_⟩:=x;exact e
theorem ip (I:Inv X [] σ H s)(F:aE X)(e:s.heap.get? T=g9):Off X H T:=by
 refine⟨?_,?_,λz=>?_,λx c b z=>?_⟩
 ·cases q:X.s₀.heap.get? T with
  |none=>rfl
  |some o=>
   obtain⟨o',a⟩:=I.base.there T o q (by rw[F.ex];simp);rw[e]at a;cases a
 ·cases q:H T with
  |none=>rfl
  |some o=>
   obtain⟨ob,a⟩:=yT I q;rw[e]at a;cases a
 ·obtain⟨m,⟨o,_,_,a,_⟩,_⟩:=I.loc;rw[z,a]at e;cases e
 ·obtain⟨v,o,a,_⟩:=I.cell x c b;rw[z,e]at a;cases a
section
variable {M:Model}{E:Value→Shared→Prop}{Q:Unit→Shared→Prop}{a:Addr}{cls:Value}{dct:Option Addr}
theorem xN(k:iS [] xs h h'):iS fs xs h h':=⟨λb o e _ nx=>k.keep b o e (by simp) nx,k.slot,k.there⟩
theorem noted (I:Inv X [] σ H s)(F:aE X)(j:Off X H a)(l:JY X H a cls dct s.heap)(h:∀h' T,Inv X [] σ H {s with heap:=h'}→yG h' a T cls dct (rawInt X.env.locals)→Off X H T→Q () {s with heap:=h'}):wpAny M X.A (noteFrame (.ref a) X.env) Q E s:=by
 have c:X.A.frames=g7 (X.env::X.outer):=by rw[←F.stk];exact I.ok.frames
 have hl:s.heap.FunFrames X.base (X.env::X.outer):=by rw[←F.stk];exact I.stack
 have f:frs (X.env::X.outer)=X.env.locals::X.fs:=by
  show List.filterMap _ _=_;rw[List.filterMap_cons,F.fr];rfl
 rcases l with⟨q,vs,e,rfl,rfl,d,o⟩ | ⟨T,l,t,m,rfl|rfl⟩
 ·refine tZ c hl F.fr e d o λh' g k n t=>?_;rw[f]at k;exact h h' g (I.Bb F.pn k λb i=>by rw[List.mem_singleton.mp i];exact j) t (ip I F n)
 ·refine xD c hl F.fr t λh' g k n p=>?_;rw[f]at k;exact h h' g (I.Bb F.pn k λb i=>by
   rcases List.mem_cons.mp i with z|z
   ·rw[z];exact j
   ·rw[List.mem_singleton.mp z];exact m) p (ip I F n)
 ·exact ua F.fr t (h s.heap T I t m)
theorem marked (f:Option Addr)(I:Inv X [] σ H s)(F:aE X)(t:yG s.heap a T cls dct c)(d:Off X H T)(h:∀h',Inv X [] σ H {s with heap:=h'}→yG h' a T cls dct (f.elim Value.none λb=>rawInt b)→Q () {s with heap:=h'}):wpAny M X.A (setFlight (.ref a) f) Q E s:=
 DU t λh' k e=>h h' (I.Bb F.pn (xN k) λb g=>by rw[List.mem_singleton.mp g];exact d) e
end
end
noncomputable abbrev XP:=vc→St→Hp→Prop
def ExcAt (X:Cx)(x:vc)(e:Value)(H:Hp)(s:Shared):Prop:=∃a cls dct,e=.ref a∧ea X.K H x cls dct∧Off X H a∧JY X H a cls dct s.heap∧aE X
noncomputable def XE (X:Cx)(ξ:XP):Value→Shared→Prop:=λe a=>∃x pins σ H,Inv X pins σ H a∧ExcAt X x e H a∧ξ x σ H
noncomputable abbrev rz (X:Cx)(ξ:XP):Cx:=X.A1 (XE X ξ)
noncomputable abbrev Rel (α a:Type):=Bs→Hp→Hp→St→l9→a→α→Prop
noncomputable def C4:Rel W V:=λB G H σ ρ v w=>L4 B G H σ ρ v w
noncomputable def er:Rel Bool Bool:=λ_ _ _ _ _ v b=>v=b
noncomputable def Ko:W→Bool
 |.own _=>g8
 |_=>h7
noncomputable def O5:Rel (List W) (List V):=λB G H σ ρ vs a=>Paired (λv w=>L4 B G H σ ρ v w∧Ko w=h7) vs a
section
variable {α β NL NK:Type}{O2:Rel α β}{yB:Rel NL NK}{B:Bs}{ξ:XP}{G H:Hp}{σ:St}{ρ:l9}
noncomputable def Post (O2:Rel α β)(B:Bs)(ξ:XP)(G:Hp)(σ:St)(Q:β→Hp→Prop):R' α→Prop
 |.ok w a=>∀v G' H',j5 G G'→RS B G' H' σ a→O2 B G' H' σ a v w→Q v H'
 |.ex x a=>∀G' H',j5 G G'→RS B G' H' σ a→ξ x σ H'
def dP (O2:Rel α β)(B:Bs)(ξ:XP)(G:Hp)(ρ:l9)(m:M α)(σ:St)(Q:β→Hp→Prop):Prop:=∃r,m ρ=g7 r∧Post O2 B ξ G σ Q r
noncomputable def TD (O2:Rel α β)(B:Bs)(ξ:XP)(m:M α):St→Hp→(β→Hp→Prop)→Prop:=λσ H Q=>∃G ρ,RS B G H σ ρ∧dP O2 B ξ G ρ m σ Q
theorem Post.same {Q:β→Hp→Prop}{r:R' α}{G':Hp}(s:j5 G G')(h:Post O2 B ξ G σ Q r):Post O2 B ξ G' σ Q r:=by
 cases r with
 |ok w a=>exact λv b c s2=>h v b c (s.trans s2)
 |ex x a=>exact λb c s2=>h b c (s.trans s2)
theorem dP.mono(h:∀v H,Q v H→b v H)(t:dP O2 B ξ G ρ m σ Q):dP O2 B ξ G ρ m σ b:=by
 obtain⟨r,e,p⟩:=t;refine⟨r,e,?_⟩;cases r with
 |ok w a=>exact λv G' H' s R q=>h v H' (p v G' H' s R q)
 |ex x a=>exact p
theorem TD.mono(h:∀v H,Q v H→a v H)(t:TD O2 B ξ m σ H Q):TD O2 B ξ m σ H a:=by
 obtain⟨G,ρ,R,t⟩:=t;exact⟨G,ρ,R,t.mono h⟩
theorem TD.bind(R:RS B G H σ ρ)(t:dP yB B ξ G ρ (M.bind m f) σ Q):
  TD O2 B ξ m σ H (λv H1=>∃c b a,j5 G c∧RS B c H1 σ b∧O2 B c H1 σ b v a∧dP yB B ξ c b (f a) σ Q):=by
 obtain⟨r,e,p⟩:=t;cases d:m ρ with
 |none=>rw[M.bind_none d]at e;cases e
 |some g=>
  cases g with
  |ex x b=>
   rw[M.kM d]at e;cases e;exact⟨G,ρ,R,_,d,p⟩
  |ok a b=>
   rw[M.k9 d]at e;exact⟨G,ρ,R,_,d,λv c H1 s h q=>⟨c,b,a,s,h,q,r,e,p.same s⟩⟩
theorem TD.Fp(R:RS B G H σ ρ)(t:dP yB B ξ G ρ (M.bind m f) σ Q):
  TD O2 B ξ m σ H (λv H1=>∃c b a,m ρ=g7 (.ok a b)∧j5 G c∧RS B c H1 σ b∧O2 B c H1 σ b v a∧dP yB B ξ c b (f a) σ Q):=by
 obtain⟨r,e,p⟩:=t;cases d:m ρ with
 |none=>rw[M.bind_none d]at e;cases e
 |some g=>
  cases g with
  |ex x b=>
   rw[M.kM d]at e;cases e;exact⟨G,ρ,R,_,d,p⟩
  |ok a b=>
   rw[M.k9 d]at e;exact⟨G,ρ,R,_,d,λv c H1 s h q=>⟨c,b,a,rfl,s,h,q,r,e,p.same s⟩⟩
theorem dP.step(t:dP yB B ξ G ρ (M.bind m f) σ Q)(c:∀r,m ρ=g7 r→∃a b,r=.ok a b):∃a b,m ρ=g7 (.ok a b)∧dP yB B ξ G b (f a) σ Q:=by
 obtain⟨r,e,p⟩:=t;cases hr:m ρ with
 |none=>rw[M.bind_none hr]at e;cases e
 |some d=>
  obtain⟨a,b,rfl⟩:=c d hr;rw[M.k9 hr]at e;exact⟨a,b,rfl,r,e,p⟩
end
theorem _root_.L2.PE.imp(h:PE X e t)(i:∀σ H Q,a σ H Q→t σ H Q):PE X e a:=λpins s σ H Q I q=>h pins s σ H Q I (i σ H Q q)
theorem _root_.L2.PT.imp(h:PT X e t)(i:∀σ H Q,a σ H Q→t σ H Q):PT X e a:=λpins s σ H Q I q=>h pins s σ H Q I (i σ H Q q)
theorem _root_.L2.PW.imp(h:PW X e t)(i:∀σ H Q,a σ H Q→t σ H Q):PW X e a:=λb pins s σ H Q I q=>h b pins s σ H Q I (i σ H Q q)
theorem _root_.L2.PA.imp(h:PA X e t)(i:∀σ H Q,a σ H Q→t σ H Q):PA X e a:=λpos pins s σ H Q I q=>h pos pins s σ H Q I (i σ H Q q)
theorem _root_.L2.PS.imp(h:PS X e t)(i:∀D σ H,a D σ H→t D σ H):PS X e a:=λpins s σ H D I q=>h pins s σ H D I (i D σ H q)
theorem _root_.L2.nQ.imp(h:nQ X e t)(i:∀D σ H,a D σ H→t D σ H):nQ X e a:=λpins s σ H D I q=>h pins s σ H D I (i D σ H q)
structure PD (X:Cx) (B:Bs) (e:Expr) (m:M W):Prop where
 ap:∀ξ,PE (rz X ξ) e (TD C4 B ξ m)
structure qP (X:Cx) (B:Bs) (e:Expr) (m:M Bool):Prop where
 ap:∀ξ,PT (rz X ξ) e (TD er B ξ m)
structure Ft (X:Cx) (B:Bs) (e:Expr) (m:M Bool):Prop where
 ap:∀ξ,PW (rz X ξ) e (TD er B ξ m)
structure iW (X:Cx) (B:Bs) (es:List Expr) (m:M (List W)):Prop where
 ap:∀ξ,PA (rz X ξ) es (TD O5 B ξ m)
theorem Ft.pt(h:Ft X B e m):qP X B e m:=.mk λξ=>(h.ap ξ).pt
noncomputable def R7 (m:M W):M W:=M.bind m λw=>match w with
 |.own d=>M.pure (.val d)
 |w=>M.pure w
theorem ze(h:m ρ=g7 (.ok (.own d) a)):R7 m ρ=g7 (.ok (.val d) a):=by unfold R7;rw[M.k9 h];rfl
theorem zd(h:m ρ=g7 (.ok (.val d) a)):R7 m ρ=g7 (.ok (.val d) a):=by unfold R7;rw[M.k9 h];rfl
theorem xf(h:m ρ=g7 (.ok (.slot i) a)):R7 m ρ=g7 (.ok (.slot i) a):=by unfold R7;rw[M.k9 h];rfl
noncomputable def ik:Rel W V:=λB G H σ ρ v w=>L4 B G H σ ρ v w∧Ko w=h7
section
variable {X:Cx}{B:Bs}{e a b c:Expr}{ma mb mc:M W}{pos:Pos}
theorem TD.R7(t:TD ik B ξ (R7 m) σ H Q):TD C4 B ξ m σ H Q:=by
 obtain⟨G,ρ,R,t⟩:=t;have e:=TD.bind (O2:=C4) R t;refine e.mono λv H1 ⟨c,f,w,s,a,q,h⟩=>?_;obtain⟨r,b,p⟩:=h;cases w with
 |val d=>cases b;exact p v c H1 (j5.refl _) a ⟨q,rfl⟩
 |slot i=>cases b;exact p v c H1 (j5.refl _) a ⟨q,rfl⟩
 |own d=>
  cases b;obtain⟨n,rfl,g,j,o,ne⟩:=q;obtain⟨G',k,R',l⟩:=a.df g j o ne;exact p _ G' H1 k R' ⟨l,rfl⟩
theorem L4.keep {G G' H H':Hp}{σ:St}{ρ a:l9}{v:V}{w:W}(s:j5 G G')(h:L4 B G H σ ρ v w)(b:Ko w=h7):L4 B G' H' σ a v w:=
 h.same s λd z=>by rw[z]at b;cases b
noncomputable def Ii (f:D→D→Option W)(a b:W):M W:=λρ=>match getD a ρ,getD b ρ with
 |some x,g7 y=>(f x y).map (R'.ok · ρ)
 |_,_=>g9
noncomputable def Ij (f:D→Option W)(a:W):M W:=λρ=>match getD a ρ with
 |some x=>(f x).map (R'.ok · ρ)
 |_=>g9
noncomputable def i3 (f:D→D→Option W)(ma mb:M W):M W:=M.bind (R7 ma) λx=>M.bind mb λy=>Ii f x y
noncomputable def dV (f:D→Option W)(ma:M W):M W:=M.bind ma λx=>Ij f x
def fS (B:Bs)(r:R2)(f:D→D→Option W):Prop:=∀{G H:Hp} {σ:St} {ρ:l9} {x y:V} {dx a:D} {w:W} {Q:VK},RS B G H σ ρ→T3 B.K G H x dx→T3 B.K G H y a→f dx a=g7 w→
 (∀v G' H',j5 G G'→RS B G' H' σ ρ→L4 B G' H' σ ρ v w→Q v H')→r x y H Q
def HR (B:Bs)(r:V→Hp→VK→Prop)(f:D→Option W):Prop:=∀{G H:Hp} {σ:St} {ρ:l9} {x:V} {dx:D} {w:W} {Q:VK},RS B G H σ ρ→T3 B.K G H x dx→f dx=g7 w→
 (∀v G' H',j5 G G'→RS B G' H' σ ρ→L4 B G' H' σ ρ v w→Q v H')→r x H Q
theorem vF(t:dP C4 B ξ G ρ (Ii f x y) σ Q):∃dx a w,getD x ρ=g7 dx∧getD y ρ=g7 a∧f dx a=g7 w∧∀v G' H',j5 G G'→RS B G' H' σ ρ→L4 B G' H' σ ρ v w→Q v H':=by
 obtain⟨r,e,p⟩:=t;unfold Ii at e;cases hx:getD x ρ with
 |none=>rw[hx]at e;cases e
 |some dx=>
  cases c:getD y ρ with
  |none=>rw[hx,c]at e;cases e
  |some a=>
   rw[hx,c]at e;simp only[]at e;cases b:f dx a with
   |none=>rw[b]at e;cases e
   |some w=>
    rw[b]at e;cases e;exact⟨dx,a,w,rfl,rfl,b,p⟩
theorem vG(t:dP C4 B ξ G ρ (Ij f x) σ Q):∃dx w,getD x ρ=g7 dx∧f dx=g7 w∧∀v G' H',j5 G G'→RS B G' H' σ ρ→L4 B G' H' σ ρ v w→Q v H':=by
 obtain⟨r,e,p⟩:=t;unfold Ij at e;cases hx:getD x ρ with
 |none=>rw[hx]at e;cases e
 |some dx=>
  rw[hx]at e;simp only[]at e;cases a:f dx with
  |none=>rw[a]at e;cases e
  |some w=>
   rw[a]at e;cases e;exact⟨dx,w,rfl,a,p⟩
theorem ph(hi:fS B r f)(t:TD C4 B ξ (i3 f ma mb) σ H Q):ES r (TD C4 B ξ ma) (TD C4 B ξ mb) σ H Q:=by
 obtain⟨G,ρ,R,t⟩:=t;have c:TD ik B ξ (R7 ma) σ H _:=TD.bind (O2:=ik) R t;refine TD.R7 (c.mono λx H1 ⟨s,d,e,s1,g,⟨h,a⟩,i⟩=>?_);refine(TD.bind (O2:=C4) g i).mono λy j ⟨k,b,u,s2,R2,l,m⟩=>?_;obtain⟨dx,v,w,n,o,q,p⟩:=vF m;exact hi R2 ((h.keep s2 a:L4 B k j σ b x e).get R2 n) (l.get R2 o) q p
theorem FO(hi:HR B r f)(t:TD C4 B ξ (dV f ma) σ H Q):IL r (TD C4 B ξ ma) σ H Q:=by
 obtain⟨G,ρ,R,t⟩:=t;refine(TD.bind (O2:=C4) R t).mono λx H1 ⟨h,b,i,s1,a,c,d⟩=>?_;obtain⟨dx,w,e,g,p⟩:=vG d;exact hi a (c.get a e) g p
theorem lz {c:Operator}{r:R2}{f:D→D→Option W}(d:∀ξ,fP (rz X ξ) (eg c) r)(hi:fS B r f)(e:PD X B a ma)(g:PD X B b mb):PD X B (.BinOp a c b pos) (i3 f ma mb):=.mk λξ=>
 (Jk (d ξ) (e.ap ξ) (g.ap ξ)).imp λ_ _ _ t=>ph hi t
theorem Jn {b:UnaryOp}{r:V→Hp→VK→Prop}{f:D→Option W}(c:∀ξ,Kq (rz X ξ) (OG b) r)(hi:HR B r f)(d:PD X B a ma):PD X B (.UnaryOp b a pos) (dV f ma):=.mk λξ=>
 (ly (c ξ) (d.ap ξ)).imp λ_ _ _ t=>FO hi t
theorem lA {c:CmpOp}{r:R2}{f:D→D→Option W}(d:∀ξ,fP (rz X ξ) (A0 c) r)(hi:fS B r f)(e:PD X B a ma)(g:PD X B b mb)(h:M5 c b=g8):PD X B (.Compare a [c] [b] pos) (i3 f ma mb):=.mk λξ=>
 (Dp (d ξ) (e.ap ξ) (g.ap ξ) h).imp λ_ _ _ t=>ph hi t
noncomputable def v4 (m:M W):M Bool:=M.bind m λw=>λρ=>match w with
 |.val (.bl b)=>g7 (.ok b ρ)
 |_=>g9
theorem FN(t:TD er B ξ (v4 m) σ H Q):TD C4 B ξ m σ H λx H'=>∃k,x=.bl k∧Q k H':=by
 obtain⟨G,ρ,R,t⟩:=t;refine(TD.bind (O2:=C4) R t).mono λx H1 ⟨a,b,w,s1,c,f,r,e,p⟩=>?_;cases w with
 |val d=>
  cases d with
  |bl k=>
   cases e;have g:Rep B.K a x (.bl k):=f;cases g;exact⟨k,rfl,p k a H1 (j5.refl _) c rfl⟩
  |_=>cases e
 |_=>cases e
theorem du {c:CmpOp}{r:R2}{f:D→D→Option W}(d:∀ξ,fP (rz X ξ) (A0 c) r)(hi:fS B r f)(e:PD X B a ma)(g:PD X B b mb)(h:M5 c b=g8):qP X B (.Compare a [c] [b] pos) (v4 (i3 f ma mb)):=.mk λξ=>
 (pG (d ξ) (e.ap ξ) (g.ap ξ) h).imp λ_ _ _ t=>TD.mono (λ_ _ q=>q) (ph hi (FN t))
noncomputable def h8 (i:Nat):M W:=λρ=>match ρ[i]? with
 |some (g7 _)=>g7 (.ok (.slot i) ρ)
 |_=>g9
noncomputable def mC (d:D):M W:=M.pure (.val d)
theorem FL(t:TD C4 B ξ (h8 i) σ H Q):kW i σ H Q:=by
 obtain⟨G,ρ,R,r,e,p⟩:=t;unfold h8 at e;cases h:ρ[i]? with
 |none=>rw[h]at e;cases e
 |some o=>
  cases o with
  |none=>rw[h]at e;cases e
  |some c=>
   rw[h]at e;cases e;have b:∃v,σ[i]?=g7 (g7 v):=by
    cases c with
    |sh d=>obtain⟨v,q,_⟩:=R.sh i d h;exact⟨v,q⟩
    |ow l d=>obtain⟨v,q,_⟩:=R.ow i l d h;exact⟨_,q⟩
    |fz es=>obtain⟨a,o,kvs,q,_⟩:=R.fz i es h;exact⟨_,q⟩
    |ob l fds=>obtain⟨_,_,_,_,_,_,q,_⟩:=R.ob.1 i l fds h;exact⟨_,q⟩
    |rd fds=>obtain⟨_,_,_,_,_,_,_,q,_⟩:=R.ob.2 i fds h;exact⟨_,q⟩
   obtain⟨v,q⟩:=b;exact⟨v,q,p v G H (j5.refl _) R q⟩
theorem xb(a:∀G,Rep B.K G v d)(t:TD C4 B ξ (mC d) σ H Q):tC v σ H Q:=by
 obtain⟨G,ρ,R,r,e,p⟩:=t;cases e;exact p v G H (j5.refl _) R (a G)
theorem dv (i:Nat)(hN:X.N[i]?=g7 x:=by rfl)(b:cq X.env.scope x:=by first|exact Or.inl rfl|exact Or.inr (Or.inl rfl) |exact Or.inr (Or.inr rfl))(hd:(x==("__debug__":Str))=g8:=by decide) (a:(x==("__classdict__":Str))=g8:=by decide):PD X B (.Name x pos) (h8 i):=.mk λξ=>
 (A3 (X:=rz X ξ) hN b hd a).imp λ_ _ _ t=>FL t
theorem j4 {i j pos}:PD X B (.Constant (.int i) j pos) (mC (.int i)):=.mk λξ=>(dr (X:=rz X ξ)).imp λ_ _ _ t=>xb (λ_=>.int i) t
theorem dN {b j pos}:PD X B (.Constant (.bool b) j pos) (mC (.bl b)):=.mk λξ=>(Jm (X:=rz X ξ)).imp λ_ _ _ t=>xb (λ_=>.bl b) t
theorem wx {j pos}:PD X B (.Constant .none j pos) (mC .z5):=.mk λξ=>(GD (X:=rz X ξ)).imp λ_ _ _ t=>xb (λ_=>.z5) t
theorem kE {K:PySem.W.Frag}{G:Hp}(x:Str):Rep K G (.str x) (.str x.cps.toList):=by
 have e:=FJ x;have r:=Rep.str (K:=K) (G:=G) x.cps.toList;rw[e]at r;exact r
theorem JL {x j pos}:PD X B (.Constant (.str x) j pos) (mC (.str x.cps.toList)):=.mk λξ=>(Gz (X:=rz X ξ)).imp λ_ _ _ t=>xb (λ_=>kE x) t
theorem jS(h:Cg X.mg x v)(a:∀G,Rep B.K G v d)(b:Gl X x:=by rfl)(hd:(x==("__debug__":Str))=g8:=by decide):PD X B (.Name x pos) (mC d):=.mk λξ=>
 (Lq (X:=rz X ξ) h b hd).imp λ_ _ _ t=>xb a t
theorem Eu(a:X.mg x=g9)(b:M0 x=g7 (.type n))(c:Gl X x:=by rfl)(d:x≠"__name__":=by decide) (hd:(x==("__debug__":Str))=g8:=by decide):PD X B (.Name x pos) (mC (.ty n)):=.mk λξ=>
 (NB (X:=rz X ξ) a b c d hd).imp λ_ _ _ t=>xb (λ_=>.ty n) t
end
noncomputable def cf (p:Prop)[Decidable p]{α:Type}(x:Option α):Option α:=if p then x else g9
theorem x9 {p:Prop}[Decidable p]{α:Type}{x:Option α}(h:p):cf p x=x:=if_pos h
theorem t6 {p:Prop}[Decidable p]{α:Type}{x:Option α}{a:α}(h:cf p x=g7 a):p∧x=g7 a:=by
 unfold cf at h;split at h
 ·exact⟨‹p›,h⟩
 ·cases h
noncomputable def vI (i:Int):Option W:=g7 (.val (.int i))
noncomputable def vB (b:Bool):Option W:=g7 (.val (.bl b))
def small (n:Nat):Prop:=n≤1000000
instance (n:Nat):Decidable (small n):=inferInstanceAs (Decidable (n≤1000000))
noncomputable def A4:D→D→Option W
 |.int i,.int j=>vI (i+j)
 |.str a,.str b=>cf (small (a.length+b.length)) (g7 (.val (.str (a++b))))
 |.lst a,.lst b=>cf (small (a.length+b.length)) (g7 (.own (.lst (a++b))))
 |_,_=>g9
noncomputable def xc:D→D→Option W
 |.int i,.int j=>vI (i-j)
 |_,_=>g9
instance (i j:Int):Decidable (tu i j):=by unfold tu;infer_instance
instance (i j:Int):Decidable (yA i j):=by unfold yA;infer_instance
noncomputable def gB:D→D→Option W
 |.int i,.int j=>cf (tu i j) (vI (i*j))
 |_,_=>g9
noncomputable def cC:D→D→Option W
 |.int i,.int j=>cf (yA i j) (vI (i / j))
 |_,_=>g9
noncomputable def K3:D→D→Option W
 |.int i,.int j=>cf (0<j) (vI (i % j))
 |_,_=>g9
noncomputable def N9:D→Option W
 |.int i=>vI (-i)
 |_=>g9
noncomputable def Q6 (f:Int→Int→Bool):D→D→Option W
 |.int i,.int j=>vB (f i j)
 |_,_=>g9
theorem Ds {X:Cx}{K:PySem.W.Frag}(B:X.K=K):fP X (eg .Add) (λx y H Q=>∃l b xs k,x=.ref l∧y=.ref b∧T9 K H l xs∧T9 K H b k∧xs.length+k.length≤sizeLine∧∀p,H p=g9→Q (.ref p) (upd H p (.lst (xs++k)))):=by
 subst B;intro pins s σ H x y v u Q I E G h;obtain⟨l,b,xs,k,rfl,rfl,J,L,R,q⟩:=h;cases E;cases G;obtain⟨d,r,N,_⟩:=I.list J;obtain⟨a,t,m,_⟩:=I.list L;obtain⟨⟨cls,dd,data,sl⟩,n,w,z,f,hd⟩:=N;obtain⟨⟨A,O,data2,o⟩,P,g,i,c,j⟩:=m;simp only at z hd i j f c;subst z hd i j f c;have S:=r.length;have T:=t.length;have e:d.toArray++a.toArray=(d++a).toArray:=by simp
 refine concat_meets ⟨_,w,rfl⟩ ⟨_,g,rfl⟩ noFill_list_add seq_list_add PySem.F.slot_list_add PySem.F.entry_list_add (PySem.F.args_list_add_2 _ _) (list_addW l b d.toArray a.toArray n P g9 g9 sl o (by rw[List.size_toArray,List.size_toArray];omega)) ⟨w,g,?_⟩;rw[e];exact⟨.ref _,_,I.LA (t':=s.toks) (r.append t) (by rw[List.length_append];omega),rfl,q _ I.fresh⟩
theorem G9(h:small n):n≤sizeLine:=by unfold small at h;rw[v8];omega
section
variable {X:Cx}{B:Bs}{e a b c:Expr}{ma mb mc:M W}{pos:Pos}
theorem DH {g:Int→Int→Int}{f:D→D→Option W}(b:∀dx a w,f dx a=g7 w→∃i j,dx=.int i∧a=.int j∧w=.val (.int (g i j))):fS B (zB λi j=>.int (g i j)) f:=by
 intro G H σ ρ x y dx a w Q R hx c e p;obtain⟨i,j,rfl,rfl,rfl⟩:=b _ _ _ e;exact⟨i,j,hx.int,c.int,p _ G H (j5.refl _) R (.int _)⟩
theorem uw {P:Int→Int→Prop}{g:Int→Int→Int}{f:D→D→Option W}(b:∀dx a w,f dx a=g7 w→∃i j,dx=.int i∧a=.int j∧P i j∧w=.val (.int (g i j))):fS B (rI P λi j=>.int (g i j)) f:=by
 intro G H σ ρ x y dx a w Q R hx c e p;obtain⟨i,j,rfl,rfl,d,rfl⟩:=b _ _ _ e;exact⟨i,j,hx.int,c.int,d,p _ G H (j5.refl _) R (.int _)⟩
theorem iC (g:Int→Int→Bool):fS B (zB λi j=>.bl (g i j)) (Q6 g):=by
 intro G H σ ρ x y dx a w Q R hx b e p;cases dx<;>cases a<;>first|cases e|skip
 exact⟨_,_,hx.int,b.int,p _ G H (j5.refl _) R (.bl _)⟩
theorem AM:fS B (zB λi j=>.int (i-j)) xc:=DH λdx a w e=>by
 cases dx<;>cases a<;>first|cases e|skip
 exact⟨_,_,rfl,rfl,rfl⟩
theorem AN:fS B (rI tu λi j=>.int (i*j)) gB:=uw λdx a w e=>by
 cases dx<;>cases a<;>first|cases e|skip
 obtain⟨h,e⟩:=t6 e;cases e;exact⟨_,_,rfl,rfl,h,rfl⟩
theorem AQ:fS B (rI yA λi j=>.int (i / j)) cC:=uw λdx a w e=>by
 cases dx<;>cases a<;>first|cases e|skip
 obtain⟨h,e⟩:=t6 e;cases e;exact⟨_,_,rfl,rfl,h,rfl⟩
theorem AO:fS B (rI (λ_ j=>0<j) λi j=>.int (i % j)) K3:=uw λdx a w e=>by
 cases dx<;>cases a<;>first|cases e|skip
 obtain⟨h,e⟩:=t6 e;cases e;exact⟨_,_,rfl,rfl,h,rfl⟩
theorem AR:HR B (rU λi=>.int (-i)) N9:=by
 intro G H σ ρ x dx w Q R hx e p;cases dx<;>first|cases e|skip
 exact⟨_,hx.int,p _ G H (j5.refl _) R (.int _)⟩
theorem BB (c:PD X B a ma)(d:PD X B b mb):PD X B (.BinOp a .Sub b pos) (i3 xc ma mb):=lz (λ_=>GI) AM c d
theorem gi (c:PD X B a ma)(d:PD X B b mb):PD X B (.BinOp a .Mult b pos) (i3 gB ma mb):=lz (λ_=>GJ) AN c d
theorem ah (c:PD X B a ma)(d:PD X B b mb):PD X B (.BinOp a .FloorDiv b pos) (i3 cC ma mb):=lz (λ_=>Dr) AQ c d
theorem E4 (c:PD X B a ma)(d:PD X B b mb):PD X B (.BinOp a .Mod b pos) (i3 K3 ma mb):=lz (λ_=>GK) AO c d
theorem M9 (b:PD X B a ma):PD X B (.UnaryOp .USub a pos) (dV N9 ma):=Jn (λ_=>gn) AR b
theorem y9 (i:PD X B a ma)(j:PD X B b mb)(k:X.K=B.K:=by rfl):PD X B (.BinOp a .Add b pos) (i3 A4 ma mb):=by
 refine lz (λξ=>(GL (X:=rz X ξ)).or (tX.or (Ds (K:=B.K) k))) ?_ i j;intro G H σ ρ x y dx m w Q R hx c e p;cases dx<;>cases m<;>first|cases e|skip
 ·exact .inl ⟨_,_,hx.int,c.int,p _ G H (j5.refl _) R (.int _)⟩
 ·obtain⟨h,e⟩:=t6 e;cases e;refine .inr (.inl ⟨_,_,hx.str,c.str,by rw[ao,ao];exact G9 h,?_⟩);rw[tJ];exact p _ G H (j5.refl _) R (.str _)
 ·obtain⟨h,e⟩:=t6 e;cases e;obtain⟨l,xs,rfl,n,f⟩:=hx.lst R.gH;obtain⟨o,d,rfl,r,g⟩:=c.lst R.gH;refine .inr (.inr ⟨l,o,xs,d,rfl,rfl,n,r,by rw[f.len,g.len];exact G9 h,λq s=>?_⟩);obtain⟨R',t⟩:=R.eM s (f.append g);exact p _ G _ (j5.refl _) R' t
theorem LP (c:PD X B a ma)(d:PD X B b mb):PD X B (.Compare a [.LtE] [b] pos) (i3 (Q6 λi j=>decide (i≤j)) ma mb):=lA (λ_=>EZ) (iC _) c d (bq _)
theorem JQ (c:PD X B a ma)(d:PD X B b mb):PD X B (.Compare a [.Gt] [b] pos) (i3 (Q6 λi j=>decide (j<i)) ma mb):=lA (λ_=>Fa) (iC _) c d (bq _)
theorem CF (c:PD X B a ma)(d:PD X B b mb):qP X B (.Compare a [.Lt] [b] pos) (v4 (i3 (Q6 λi j=>decide (i<j)) ma mb)):=du (λ_=>zY) (iC _) c d (bq _)
theorem KZ (c:PD X B a ma)(d:PD X B b mb):qP X B (.Compare a [.LtE] [b] pos) (v4 (i3 (Q6 λi j=>decide (i≤j)) ma mb)):=du (λ_=>EZ) (iC _) c d (bq _)
theorem tN (c:PD X B a ma)(d:PD X B b mb):qP X B (.Compare a [.Gt] [b] pos) (v4 (i3 (Q6 λi j=>decide (j<i)) ma mb)):=du (λ_=>Fa) (iC _) c d (bq _)
end
noncomputable def mT (f:D→D→Option Bool):List D→List D→Option Bool
 | [],[]=>g7 h7
 | [],_::_=>g7 g8
 |_::_,[]=>g7 g8
 |x::xs,y::c=>match f x y,mT f xs c with
  |some a,g7 b=>g7 (a&&b)
  |_,_=>g9
noncomputable def JG:D→D→Option Bool
 |.z5,.z5=>g7 h7
 |.bl a,.bl b=>g7 (a==b)
 |.int a,.int b=>g7 (a==b)
 |.str a,.str b=>g7 (a==b)
 |.z5,.bl _=>g7 g8
 |.z5,.int _=>g7 g8
 |.z5,.str _=>g7 g8
 |.bl _,.z5=>g7 g8
 |.int _,.z5=>g7 g8
 |.str _,.z5=>g7 g8
 |.tup _,.z5=>g7 g8
 |.lst _,.z5=>g7 g8
 |_,_=>g9
noncomputable def gd:Nat→D→D→Option Bool
 |n+1,.tup a,.tup b=>mT (gd n) a b
 |n+1,.lst a,.lst b=>mT (gd n) a b
 |_,d,e=>JG d e
theorem wr:∀{xs a:List D} {b:Bool},mT f xs a=g7 b→xs.length≠a.length→b=g8
 | [],[],_,_,h=>absurd rfl h
 | [],_::_,_,e,_=>by cases e;rfl
 |_::_,[],_,e,_=>by cases e;rfl
 |x::xs,y::a,b,e,h=>by
  unfold mT at e;cases c:f x y with
  |none=>rw[c]at e;cases e
  |some p=>
   cases d:mT f xs a with
   |none=>rw[c,d]at e;cases e
   |some q=>
    rw[c,d]at e;cases e;rw[wr d (by simpa using h),gT]
theorem qq:∀{xs d:List D} {b:Bool},mT f xs d=g7 b→∃g:Nat→Bool,(∀(j:Nat) x y,xs[j]?=g7 x→d[j]?=g7 y→f x y=g7 (g j))∧b=((List.range (min xs.length d.length)).all g&&(xs.length==d.length))
 | [],[],_,e=>by cases e;exact⟨λ_=>h7,λj x y h=>by simp at h,rfl⟩
 | [],_::_,_,e=>by cases e;exact⟨λ_=>h7,λj x y h=>by simp at h,by simp⟩
 |_::_,[],_,e=>by cases e;exact⟨λ_=>h7,λj x y _ h=>by simp at h,by simp⟩
 |x::xs,y::d,b,e=>by
  unfold mT at e;cases i:f x y with
  |none=>rw[i]at e;cases e
  |some p=>
   cases k:mT f xs d with
   |none=>rw[i,k]at e;cases e
   |some q=>
    rw[i,k]at e;cases e;obtain⟨g,l,m⟩:=qq k;refine⟨λj=>if j=0 then p else g (j-1),λj n o a c=>?_,?_⟩
    ·cases j with
     |zero=>simp at a c;subst a c;simpa using i
     |succ j=>simpa using l j n o (by simpa using a) (by simpa using c)
    ·have em:min (x::xs).length (y::d).length=min xs.length d.length+1:=by simp only[List.length_cons];omega
     rw[em,List.range_succ_eq_map,List.all_cons,List.all_map,m,List.length_cons,List.length_cons];simp only[if_pos,Bool.and_assoc];congr 2;simp
theorem sJ(h:mT f xs a=g7 b)(hl:xs.length=a.length):∃g:Nat→Bool,(∀(j:Nat) x y,xs[j]?=g7 x→a[j]?=g7 y→f x y=g7 (g j))∧b=(List.range xs.length).all g:=by
 obtain⟨g,c,d⟩:=qq h;refine⟨g,c,?_⟩;rw[d,hl];simp
theorem T3.rep {K:PySem.W.Frag}{G H:Hp}{v:V}{d:D}(g:j5 G H)(h:T3 K G H v d):Rep K H v d:=by
 rcases h with h| ⟨p,rfl,h⟩
 ·exact h.same g
 ·cases d with
  |lst ds=>
   obtain⟨xs,e,r⟩:=h;have a:=r.same g;exact .lst (T9.of e) a.len a.get
  |dct es=>
   obtain⟨xs,e,r⟩:=h;have a:=r.same g;exact .dct (.inl e) a.keys a.get
  |_=>exact(show False from h).elim
section
variable {X:Cx}{pins:List (Addr×Obj)}{σ:St}{H:Hp}{s:Shared}
theorem str_beq (a b:List Nat):(tx a==tx b)=(a==b):=by
 rw[Bool.eq_iff_iff,beq_iff_eq,beq_iff_eq];exact yP
theorem El {A:Around}{ds es:List D}(I:Inv X pins σ H s)(F:bJ X.K H a xs)(G:bJ X.K H b f)(Q:xs.length=ds.length)(R:f.length=es.length)(o:A.units<E7)
  (ih:∀(j:Nat) x y v u,xs[j]?=g7 x→f[j]?=g7 y→RelV x v→RelV y u→al A.in1 s v u (g j)):
  iX A s (.ref a) (.ref b) ((List.range (min ds.length es.length)).all g&&(ds.length==es.length))∧ew A s (.ref a) (.ref b) (!((List.range (min ds.length es.length)).all g&&(ds.length==es.length))):=by
 obtain⟨d,q,p,_⟩:=I.tuple F;obtain⟨c,h,r,_⟩:=I.tuple G;have k1:=q.length;have k2:=h.length;have t:∀j (w:j<d.toArray.size) (z:j<c.toArray.size),al A.in1 s d.toArray[j] c.toArray[j] (g j):=λj w z=>by
  have k:j<xs.length:=by simpa[←k1]using w
  have l:j<f.length:=by simpa[←k2]using z
  obtain⟨J,m,L⟩:=q.get (i:=j) (x:=xs[j]) (by simp[k]);obtain⟨N,n,O⟩:=h.get (i:=j) (x:=f[j]) (by simp[l]);have f1:d.toArray[j]=J:=by
   have:=(List.getElem?_eq_some_iff.mp m).2;simpa using this
  have P:c.toArray[j]=N:=by
   have:=(List.getElem?_eq_some_iff.mp n).2;simpa using this
  rw[f1,P];exact ih j _ _ _ _ (by simp[k]) (by simp[l]) L O
 have B:=NW (e:=g) (A:=A) p r o t;have E:=Mc (e:=g) (A:=A) p r o t;have m:d.toArray.size=ds.length:=by rw[List.size_toArray];omega
 have n:c.toArray.size=es.length:=by rw[List.size_toArray];omega
 rw[m,n]at B E;exact⟨B,E⟩
theorem En {A:Around}{ds es:List D}(I:Inv X pins σ H s)(R:T9 X.K H a xs)(S:T9 X.K H b l)(l1:xs.length=ds.length)(l2:l.length=es.length)(z:A.units<E7)
  (hr:mT f ds es=g7 r) (ih:∀(j:Nat) x y d e k v u,xs[j]?=g7 x→l[j]?=g7 y→ds[j]?=g7 d→es[j]?=g7 e→f d e=g7 k→RelV x v→RelV y u→al A.in1 s v u k):
  iX A s (.ref a) (.ref b) r∧ew A s (.ref a) (.ref b) (!r):=by
 obtain⟨h,J,p,_⟩:=I.list R;obtain⟨c,m,B,_⟩:=I.list S;have k1:=J.length;have k2:=m.length;have E:h.toArray.size=ds.length:=by rw[List.size_toArray];omega
 have F:c.toArray.size=es.length:=by rw[List.size_toArray];omega
 by_cases hl:ds.length=es.length
 ·obtain⟨g,T,G⟩:=sJ hr hl;have L:∀j (N:j<h.toArray.size) (O:j<c.toArray.size),al A.in1 s h.toArray[j] c.toArray[j] (g j):=λj N O=>by
   have n:j<xs.length:=by simpa[←k1]using N
   have o:j<l.length:=by simpa[←k2]using O
   have q:j<ds.length:=by omega
   have t:j<es.length:=by omega
   obtain⟨U,E,Y⟩:=J.get (i:=j) (x:=xs[j]) (by simp[n]);obtain⟨Z,F,r2⟩:=m.get (i:=j) (x:=l[j]) (by simp[o]);have f1:h.toArray[j]=U:=by
    have:=(List.getElem?_eq_some_iff.mp E).2;simpa using this
   have f2:c.toArray[j]=Z:=by
    have:=(List.getElem?_eq_some_iff.mp F).2;simpa using this
   rw[f1,f2];exact ih j _ _ ds[j] es[j] _ _ _ (by simp[n]) (by simp[o]) (by simp[q]) (by simp[t]) (T j _ _ (by simp[q]) (by simp[t])) Y r2
  have P:=Of (e:=g) (A:=A) p.isList B.isList (by omega) z L;have Q:=Mm (e:=g) (A:=A) p.isList B.isList (by omega) z L;rw[E,←G]at P Q;exact⟨P,Q⟩
 ·have G:=wr hr hl;subst G;have w:(h.toArray.size != c.toArray.size)=h7:=by rw[E,F];simpa using hl
  exact⟨Oe p.isList B.isList w z,Ml p.isList B.isList w z⟩
theorem wm(h:JG d e=g7 b)(I:Inv X pins σ H s){A:Around}(hx:Rep X.K H x d)(f:Rep X.K H y e)(g:RelV x v)(c:RelV y u)(a:A.units<E7):
  al A s v u b∧iX A s v u b∧ew A s v u (!b):=by
 cases hx with
 |z5=>
  cases g;cases f with
  |z5=>cases h;cases c;exact⟨jy _,Ob,Mh⟩
  |bl _=>cases h;cases c;exact⟨Ou _,Od _,Mj _⟩
  |int _=>cases h;obtain⟨t,rfl⟩:=c;exact⟨Ot _ _,Oc _ _,Mi _ _⟩
  |str _=>cases h;obtain⟨t,rfl⟩:=c;exact⟨Os _ _,Oa _ _,Mg _ _⟩
  |ty _=>cases h
  |tup _ _ _=>cases h
  |lst _ _ _=>cases h
  |dct _ _ _=>cases h
 |bl _=>
  cases g;cases f with
  |z5=>cases h;cases c;exact⟨Oz _,Oj _,Mr _⟩
  |bl _=>cases h;cases c;exact⟨OA _ _,Ol _ _,Ms _ _⟩
  |int _=>cases h
  |str _=>cases h
  |ty _=>cases h
  |tup _ _ _=>cases h
  |lst _ _ _=>cases h
  |dct _ _ _=>cases h
 |int _=>
  obtain⟨t,rfl⟩:=g;cases f with
  |z5=>cases h;cases c;exact⟨Ox _ _,Oh _ _,Mp _ _⟩
  |int _=>cases h;obtain⟨l,rfl⟩:=c;exact⟨Oy _ _ _ _,Oi _ _ _ _,Mq _ _ _ _⟩
  |bl _=>cases h
  |str _=>cases h
  |ty _=>cases h
  |tup _ _ _=>cases h
  |lst _ _ _=>cases h
  |dct _ _ _=>cases h
 |str cs=>
  obtain⟨t,rfl⟩:=g;cases f with
  |z5=>cases h;cases c;exact⟨Oo _ _,NZ _ _,Mf _ _⟩
  |str i=>
   have m:(cs==i)=b:=Option.some.inj h;rw[←m,←str_beq];obtain⟨l,rfl⟩:=c;exact⟨On _ _ _ _,NY _ _ _ _,Me _ _ _ _⟩
  |bl _=>cases h
  |int _=>cases h
  |ty _=>cases h
  |tup _ _ _=>cases h
  |lst _ _ _=>cases h
  |dct _ _ _=>cases h
 |ty _=>cases f<;>cases h
 |tup j _ _=>
  cases g;cases f with
  |z5=>
   cases h;cases c;obtain⟨k,_,p,_⟩:=I.tuple j;exact⟨Om p a,NX p a,Md p a⟩
  |bl _=>cases h
  |int _=>cases h
  |str _=>cases h
  |ty _=>cases h
  |tup _ _ _=>cases h
  |lst _ _ _=>cases h
  |dct _ _ _=>cases h
 |lst j _ _=>
  cases g;cases f with
  |z5=>
   cases h;cases c;obtain⟨k,_,p,_⟩:=I.list j;exact⟨Ov p.isList a,Og p.isList a,Mn p.isList a⟩
  |bl _=>cases h
  |int _=>cases h
  |str _=>cases h
  |ty _=>cases h
  |tup _ _ _=>cases h
  |lst _ _ _=>cases h
  |dct _ _ _=>cases h
 |dct _ _ _=>cases f<;>cases h
theorem cX(h:JG d e=g7 b)(hx:Rep X.K H x d)(a:Rep X.K H x e):b=h7:=by
 cases hx<;>cases a<;>first| (exfalso;cases h;done) |skip
 all_goals first| (cases h;rfl) | (cases h;simp)
theorem HP(h:∀j,j<n→g j=h7):(List.range n).all g=h7:=by
 rw[List.all_eq_true];intro j a;exact h j (List.mem_range.mp a)
theorem sE{xs:List V}(h:mT f ds es=g7 b)(q:xs.length=ds.length)(r:xs.length=es.length)(l:∀(j:Nat) x d,xs[j]?=g7 x→ds[j]?=g7 d→Rep X.K H x d)(m:∀(j:Nat) x d,xs[j]?=g7 x→es[j]?=g7 d→Rep X.K H x d)
  (n:∀d e k x,f d e=g7 k→Rep X.K H x d→Rep X.K H x e→k=h7):b=h7:=by
 obtain⟨g,o,p⟩:=sJ h (by omega);rw[p];refine HP λj i=>?_;have a:j<es.length:=by omega
 have c:j<xs.length:=by omega
 exact n ds[j] es[j] _ xs[j] (o j _ _ (by simp[i]) (by simp[a])) (l j _ _ (by simp[c]) (by simp[i])) (m j _ _ (by simp[c]) (by simp[a]))
theorem sF (I:Inv X pins σ H s):∀(n:Nat) {d e:D} {b:Bool} {x:V},gd n d e=g7 b→Rep X.K H x d→Rep X.K H x e→b=h7:=by
 intro n;induction n with
 |zero=>
  intro d e b x h hx f;exact cX (by cases d<;>exact h) hx f
 |succ n ih=>
  intro d e b x h hx f;cases hx with
  |tup l m o=>
   cases f with
   |tup g i j=>
    have e:=I.jb l g;subst e;exact sE (X:=X) (H:=H) (show mT (gd n) _ _=g7 b from h) m i o j λd e k x a b c=>ih a b c
   |lst g i j=>cases h
   |dct g i j=>cases h
  |lst l m o=>
   cases f with
   |lst g i j=>
    have e:=I.lH l g;subst e;exact sE (X:=X) (H:=H) (show mT (gd n) _ _=g7 b from h) m i o j λd e k x a b c=>ih a b c
   |tup g i j=>cases h
   |dct g i j=>cases h
  |z5=>exact cX (X:=X) (H:=H) (by cases e<;>exact h) .z5 f
  |bl k=>exact cX (X:=X) (H:=H) (by cases e<;>exact h) (.bl k) f
  |int k=>exact cX (X:=X) (H:=H) (by cases e<;>exact h) (.int k) f
  |str k=>exact cX (X:=X) (H:=H) (by cases e<;>exact h) (.str k) f
  |ty k=>exact cX (X:=X) (H:=H) (by cases e<;>exact h) (.ty k) f
  |dct l m o=>cases f<;>cases h
theorem kK (I:Inv X pins σ H s):∀(n:Nat) {d e:D} {b:Bool},gd n d e=g7 b→∀{A:Around} {x y:V} {v u:Value},Rep X.K H x d→Rep X.K H y e→RelV x v→RelV y u→A.units+n<E7→
  al A s v u b∧iX A s v u b∧ew A s v u (!b):=by
 intro n;induction n with
 |zero=>
  intro d e b h A x y v u hx i l m L;exact wm (by cases d<;>exact h) I hx i l m (by omega)
 |succ n ih=>
  intro d e b h A x y v u hx i l m L;have f:JG d e=g7 b→al A s v u b∧iX A s v u b∧ew A s v u (!b):=λh'=>wm h' I hx i l m (by omega);cases d with
  |tup ds=>
   cases e with
   |tup es=>
    have c:=λ(o:Rep X.K H x (.tup es))=>sF I (n+1) h hx o;cases hx with
    | @tup a xs _ B z E=>
     cases i with
     | @tup F G _ q p r=>
      cases l;cases m;obtain⟨g,N,O⟩:=qq (show mT (gd n) ds es=g7 b from h);have key:=El (A:=A) (g:=g) I B q z p (by omega) λj x y v u hx i l m=>by
       have t:j<ds.length:=by rw[←z];exact(List.getElem?_eq_some_iff.mp hx).1
       have w:j<es.length:=by rw[←p];exact(List.getElem?_eq_some_iff.mp i).1
       exact(ih (N j ds[j] es[j] (by simp[t]) (by simp[w])) (A:=A.in1) (E j x _ hx (by simp[t])) (r j y _ i (by simp[w])) l m (by show A.units+1+n<_;omega)).1
      rw[←O]at key;refine⟨?_,key⟩;by_cases e:a=F
      ·subst e;have J:=c (.tup q p r);subst J;exact jy _
      ·exact tD e key.1
   |_=>exact f h
  |lst ds=>
   cases e with
   |lst es=>
    have c:=λ(o:Rep X.K H x (.lst es))=>sF I (n+1) h hx o;cases hx with
    | @lst a xs _ B z E=>
     cases i with
     | @lst F G _ q p r=>
      cases l;cases m;have key:=En (A:=A) I B q z p (by omega) (show mT (gd n) ds es=g7 b from h) λj x y d e k v u hx i hd P hk l m=>
       (ih hk (A:=A.in1) (E j x _ hx hd) (r j y _ i P) l m (by show A.units+1+n<_;omega)).1
      refine⟨?_,key⟩;by_cases e:a=F
      ·subst e;have J:=c (.lst q p r);subst J;exact jy _
      ·exact tD e key.1
   |_=>exact f h
  |_=>exact f (by cases e<;>exact h)
end
theorem Ab {X:Cx}{K:PySem.W.Frag}(a:X.K=K)(c:X.A.units+8<E7):fP X (A0 .Eq) (λx y H Q=>∃d e b,Rep K H x d∧Rep K H y e∧gd 8 d e=g7 b∧Q (.bl b) H):=by
 subst a;intro pins s σ H x y v u Q I f g h;obtain⟨d,e,b,hx,i,j,q⟩:=h;exact(kK I 8 j hx i f g c).2.1 _ _ _ _ (gL I q rfl)
theorem zW {X:Cx}{K:PySem.W.Frag}(a:X.K=K)(c:X.A.units+8<E7):fP X (A0 .NotEq) (λx y H Q=>∃d e b,Rep K H x d∧Rep K H y e∧gd 8 d e=g7 b∧Q (.bl (!b)) H):=by
 subst a;intro pins s σ H x y v u Q I f g h;obtain⟨d,e,b,hx,i,j,q⟩:=h;exact(kK I 8 j hx i f g c).2.2 _ _ _ _ (gL I q rfl)
section
variable {X:Cx}{pins:List (Addr×Obj)}{σ:St}{H:Hp}{s:Shared}
theorem X7(h:s.TypeIs (.ref a) T)(h':s.TypeIs (.ref a) b):T=b:=by
 obtain⟨o,e,c⟩:=h;obtain⟨o',d,f⟩:=h';rw[e]at d;cases d;rw[c]at f;injection f
theorem wd {xs:List V}{ds es:List D}(i:xs.length=ds.length)(k:xs.length=es.length)(h:∀(j:Nat) x d e,xs[j]?=g7 x→ds[j]?=g7 d→es[j]?=g7 e→d=e):ds=es:=by
 refine List.ext_getElem? λj=>?_;by_cases c:j<xs.length
 ·have f:j<ds.length:=by omega
  have g:j<es.length:=by omega
  have a:ds[j]?=g7 ds[j]:=by simp[f]
  have b:es[j]?=g7 es[j]:=by simp[g]
  rw[a,b,h j xs[j] _ _ (by simp[c]) a b]
 ·rw[List.getElem?_eq_none (by omega),List.getElem?_eq_none (by omega)]
theorem zx(c:Rd H a (.dK k1))(b:Rd H a (.dK k2)):k1=k2:=by
 rcases c with c| ⟨o,c⟩<;>rcases b with b| ⟨d,b⟩<;>rw[c]at b<;>cases b<;>rfl
theorem Rep.inj (I:Inv X pins σ H s)(h:Rep X.K H x d):∀{e:D},Rep X.K H x e→d=e:=by
 induction h with
 |z5=>intro e f;cases f;rfl
 |bl b=>intro e f;cases f;rfl
 |int b=>intro e f;cases f;rfl
 |ty b=>intro e f;cases f;rfl
 |str cs=>
  intro e f;generalize hx:V.str (tx cs)=x at f;cases f<;>first| (cases hx;done) |skip
  rename_i o;have q:tx cs=tx o:=by injection hx
  rw[yP.mp q]
 | @tup a xs ds g m u ih=>
  intro e f;cases f with
  |tup f i k=>
   have q:=I.jb g f;subst q;rw[wd m i λj x d e a b c=>ih j x d a b (k j x e a c)]
  |lst f i k=>
   obtain⟨_,_,p,_⟩:=I.tuple g;obtain⟨_,_,l,_⟩:=I.list f;exact absurd (X7 p.typeIs l.isList.typeIs) (by decide)
  |dct f i k=>
   obtain⟨_,_,p,_⟩:=I.tuple g;obtain⟨_,_,vs,_,dd⟩:=V8 I.hok f;exact absurd (X7 p.typeIs dd.typeIs) (by decide)
 | @lst a xs ds g m u ih=>
  intro e f;cases f with
  |lst f i k=>
   have q:=I.lH g f;subst q;rw[wd m i λj x d e a b c=>ih j x d a b (k j x e a c)]
  |tup f i k=>
   obtain⟨_,_,p,_⟩:=I.list g;obtain⟨_,_,l,_⟩:=I.tuple f;exact absurd (X7 p.isList.typeIs l.typeIs) (by decide)
  |dct f i k=>
   obtain⟨_,_,p,_⟩:=I.list g;obtain⟨_,_,vs,_,dd⟩:=V8 I.hok f;exact absurd (X7 p.isList.typeIs dd.typeIs) (by decide)
 | @dct a kvs ds g m u ih=>
  intro e f;cases f with
  | @dct _ v es f i k=>
   have w:=zx g f;subst w;congr 1;have y:kvs.length=ds.length:=by have:=congrArg List.length m;simpa using this
   have z:kvs.length=es.length:=by have:=congrArg List.length i;simpa using this
   refine List.ext_getElem? λj=>?_;by_cases n:j<kvs.length
   ·have g:j<ds.length:=by omega
    have f:j<es.length:=by omega
    have r:ds[j]?=g7 ds[j]:=by simp[g]
    have t:es[j]?=g7 es[j]:=by simp[f]
    have k1:(kvs.map (·.1))[j]?=(ds.map (·.1))[j]?:=by rw[m]
    have k2:(kvs.map (·.1))[j]?=(es.map (·.1))[j]?:=by rw[i]
    rw[List.getElem?_map,List.getElem?_map,r,show kvs[j]?=g7 kvs[j] by simp[n]]at k1;rw[List.getElem?_map,List.getElem?_map,t,show kvs[j]?=g7 kvs[j] by simp[n]]at k2;have q:=ih j kvs[j] ds[j] (by simp[n]) r (k j kvs[j] es[j] (by simp[n]) t);rw[r,t];congr 1;refine yC ?_ q;simp at k1 k2;rw[←k1,←k2]
   ·rw[List.getElem?_eq_none (by omega),List.getElem?_eq_none (by omega)]
  |tup f i k=>
   obtain⟨_,_,vs,_,dd⟩:=V8 I.hok g;obtain⟨_,_,l,_⟩:=I.tuple f;exact absurd (X7 dd.typeIs l.typeIs) (by decide)
  |lst f i k=>
   obtain⟨_,_,vs,_,dd⟩:=V8 I.hok g;obtain⟨_,_,l,_⟩:=I.list f;exact absurd (X7 dd.typeIs l.isList.typeIs) (by decide)
end
noncomputable def jm (d:D):List D→Option Bool
 | []=>g7 g8
 |y::c=>match gd 7 y d,jm d c with
  |some a,g7 b=>g7 (a||b)
  |_,_=>g9
open Classical in
noncomputable def aB (K:PySem.W.Frag) (H:Hp) (d:D) (u:Value):Bool:=decide (∃y e,RelV y u∧Rep K H y e∧gd 7 e d=g7 h7)
section
variable {X:Cx}{pins:List (Addr×Obj)}{σ:St}{H:Hp}{s:Shared}
theorem sM (I:Inv X pins σ H s)(r:RelV y u)(h:Rep X.K H y e)(a:gd 7 e d=g7 b):aB X.K H d u=b:=by
 unfold aB;cases b with
 |true=>exact @decide_eq_true _ (nS _) ⟨y,e,r,h,a⟩
 |false=>
  refine @decide_eq_false _ (nS _) ?_
  rintro ⟨y',e',r',h',he'⟩
  have q:=r'.inj r;subst q;have c:=h'.inj I h;subst c;rw[a]at he';cases he'
theorem lQ (I:Inv X pins σ H s):∀{ds:List D} {xs:List V} {us:List Value} {b:Bool},jm d ds=g7 b→v5 X.K H xs ds→Vals xs us→us.any (aB X.K H d)=b
 | [],[],us,b,h,_,v=>by cases v;cases h;rfl
 | [],_::_,_,_,_,r,_=>by have:=r.len;simp at this
 |_::_,[],_,_,_,r,_=>by have:=r.len;simp at this
 |e::ds,x::xs,us,b,h,r,v=>by
  cases v with
  |cons f v=>
   unfold jm at h;cases a:gd 7 e d with
   |none=>rw[a]at h;cases h
   |some p=>
    cases c:jm d ds with
    |none=>rw[a,c]at h;cases h
    |some q=>
     rw[a,c]at h;cases h;rw[List.any_cons,sM I f r.head a,lQ I c r.tail v]
theorem iB (I:Inv X pins σ H s){A:Around}(hx:Rep X.K H f d)(i:RelV f g)(a:A.units+7<E7):∀{ds:List D} {xs:List V} {us:List Value} {b:Bool},jm d ds=g7 b→v5 X.K H xs ds→Vals xs us→∀u∈us,al A s u g (aB X.K H d u)
 | [],[],us,b,h,_,v=>by cases v;intro u a;cases a
 | [],_::_,_,_,_,r,_=>by have:=r.len;simp at this
 |_::_,[],_,_,_,r,_=>by have:=r.len;simp at this
 |e::ds,x::xs,us,b,h,r,v=>by
  cases v with
  |cons j v=>
   unfold jm at h;cases c:gd 7 e d with
   |none=>rw[c]at h;cases h
   |some p=>
    cases k:jm d ds with
    |none=>rw[c,k]at h;cases h
    |some q=>
     intro u hm;rcases List.mem_cons.mp hm with rfl|hm
     ·rw[sM I j r.head c];exact(kK I 7 c r.head hx j i a).1
     ·exact iB I hx i a k r.tail v u hm
end
theorem zZ {X:Cx}{K:PySem.W.Frag}(j:X.K=K)(m:X.A.units+8<E7):fP X (A0 .In) (λx y H Q=>∃d ds b p xs,Rep K H x d∧y=.ref p∧(T9 K H p xs∨bJ K H p xs)∧v5 K H xs ds∧jm d ds=g7 b∧Q (.bl b) H):=by
 subst j;intro pins s σ H x y v u Q I i k h;obtain⟨d,ds,b,p,xs,hx,rfl,c,hr,e,q⟩:=h;cases k;rcases c with c|c
 ·obtain⟨a,r,f,l⟩:=I.list c;refine SeqAt.in_listAt (aB X.K H d) f.isList (λw g=>iB I hx i (by show X.A.units+1+7<_;omega) e hr r w (by simpa using g)) ⟨.bl _,H,I,rfl,?_⟩;rw[show a.toArray.any (aB X.K H d)=a.any (aB X.K H d) by simp,lQ I e hr r];exact q
 ·obtain⟨a,r,f,l⟩:=I.tuple c;refine SeqAt.in_tupleAt (aB X.K H d) f (λw g=>iB I hx i (by show X.A.units+1+7<_;omega) e hr r w (by simpa using g)) ⟨.bl _,H,I,rfl,?_⟩;rw[show a.toArray.any (aB X.K H d)=a.any (aB X.K H d) by simp,lQ I e hr r];exact q
theorem xy {X:Cx}{K:PySem.W.Frag}(j:X.K=K)(m:X.A.units+8<E7):fP X (A0 .NotIn) (λx y H Q=>∃d ds b p xs,Rep K H x d∧y=.ref p∧(T9 K H p xs∨bJ K H p xs)∧v5 K H xs ds∧jm d ds=g7 b∧Q (.bl (!b)) H):=by
 subst j;intro pins s σ H x y v u Q I i k h;obtain⟨d,ds,b,p,xs,hx,rfl,c,hr,e,q⟩:=h;cases k;rcases c with c|c
 ·obtain⟨a,r,f,l⟩:=I.list c;refine SeqAt.notIn_listAt (aB X.K H d) f.isList (λw g=>iB I hx i (by show X.A.units+1+7<_;omega) e hr r w (by simpa using g)) ⟨.bl _,H,I,rfl,?_⟩;rw[show a.toArray.any (aB X.K H d)=a.any (aB X.K H d) by simp,lQ I e hr r];exact q
 ·obtain⟨a,r,f,l⟩:=I.tuple c;refine SeqAt.notIn_tupleAt (aB X.K H d) f (λw g=>iB I hx i (by show X.A.units+1+7<_;omega) e hr r w (by simpa using g)) ⟨.bl _,H,I,rfl,?_⟩;rw[show a.toArray.any (aB X.K H d)=a.any (aB X.K H d) by simp,lQ I e hr r];exact q
noncomputable def keyOf:D→Option Key
 |.int i=>g7 (.inl i)
 |.str cs=>g7 (.inr (tx cs))
 |_=>g9
noncomputable def O3 (es:List (Key×D))(k:Key):Option D:=(es.find? λkv=>decide (kv.1=k)).map (·.2)
noncomputable def putD (es:List (Key×D))(k:Key)(d:D):List (Key×D):=if(es.any λkv=>decide (kv.1=k))=h7 then es.map λkv=>if kv.1=k then(kv.1,d)else kv else es++[(k,d)]
noncomputable def oJ (es:List (Key×D))(k:Key):List (Key×D):=es.filter λkv=>decide (kv.1≠k)
section
variable {K:PySem.W.Frag}{G:Hp}
theorem m7.nil:m7 K G [] []:=⟨rfl,λj p e h=>by simp at h⟩
theorem m7.cons {p:Key×V}{e:Key×D}{kvs:List (Key×V)}{es:List (Key×D)}(hk:p.1=e.1)(h:Rep K G p.2 e.2)(r:m7 K G kvs es):m7 K G (p::kvs) (e::es):=by
 refine⟨by rw[List.map_cons,List.map_cons,hk,r.keys],λj x y a b=>?_⟩;cases j with
 |zero=>simp at a b;subst a b;exact h
 |succ j=>exact r.get j x y (by simpa using a) (by simpa using b)
theorem m7.inv(r:m7 K G (p::kvs) (e::es)):p.1=e.1∧Rep K G p.2 e.2∧m7 K G kvs es:=by
 have k:=r.keys;rw[List.map_cons,List.map_cons]at k;exact⟨(List.cons.inj k).1,r.get 0 p e rfl rfl,(List.cons.inj k).2,λj x y a b=>r.get (j+1) x y (by simpa using a) (by simpa using b)⟩
theorem m7.len(r:m7 K G kvs es):kvs.length=es.length:=by have:=congrArg List.length r.keys;simpa using this
theorem m7.ind {P:List (Key×V)→List (Key×D)→Prop}(d:P [] [])(f:∀p e kvs es,p.1=e.1→Rep K G p.2 e.2→m7 K G kvs es→P kvs es→P (p::kvs) (e::es)):∀{kvs:List (Key×V)} {es:List (Key×D)},m7 K G kvs es→P kvs es
 | [],[],_=>d
 | [],_::_,r=>by have:=r.len;simp at this
 |_::_,[],r=>by have:=r.len;simp at this
 |p::kvs,e::es,r=>by
  obtain⟨a,b,c⟩:=r.inv;exact f p e kvs es a b c (m7.ind d f c)
theorem m7.val(r:m7 K G kvs es)(k:Key):(∀d,O3 es k=g7 d→∃v,bN kvs k=g7 v∧Rep K G v d)∧(O3 es k=g9→bN kvs k=g9):=by
 refine m7.ind (P:=λkvs es=>(∀d,O3 es k=g7 d→∃v,bN kvs k=g7 v∧Rep K G v d)∧(O3 es k=g9→bN kvs k=g9)) ⟨λd h=>by simp[O3]at h,λ_=>rfl⟩ (λp e kvs es hk hr _ ih=>?_) r;by_cases h:p.1=k
 ·have h':e.1=k:=by rw[←hk];exact h
  refine⟨λd q=>⟨p.2,gX h,?_⟩,λq=>?_⟩
  ·simp[O3,List.find?_cons,h']at q;subst q;exact hr
  ·simp[O3,List.find?_cons,h']at q
 ·have h':¬e.1=k:=by rw[←hk];exact h
  have a:O3 (e::es) k=O3 es k:=by simp[O3,List.find?_cons,h']
  rw[a,gY h];exact ih
theorem m7.append(r:m7 K G kvs es)(b:m7 K G a fs):m7 K G (kvs++a) (es++fs):=
 m7.ind (P:=λkvs es=>m7 K G (kvs++a) (es++fs)) b (λp e kvs es hk hr _ ih=>m7.cons hk hr ih) r
theorem m7.put(r:m7 K G kvs es)(k:Key)(h:Rep K G v d):m7 K G (putK kvs k v) (putD es k d):=by
 have b:(kvs.any λkv=>decide (kv.1=k))=(es.any λkv=>decide (kv.1=k)):=m7.ind (P:=λkvs es=>(kvs.any λkv=>decide (kv.1=k))=(es.any λkv=>decide (kv.1=k))) rfl (λp e kvs es hk hr _ ih=>by rw[List.any_cons,List.any_cons,hk,ih]) r;unfold putK putD;rw[b];split
 ·exact m7.ind (P:=λkvs es=>m7 K G (kvs.map λkv=>if kv.1=k then(kv.1,v)else kv) (es.map λkv=>if kv.1=k then(kv.1,d)else kv)) .nil (λp e kvs es hk hr _ ih=>by
   rw[List.map_cons,List.map_cons];by_cases a:p.1=k
   ·rw[if_pos a,if_pos (by rw[←hk];exact a)];exact m7.cons hk h ih
   ·rw[if_neg a,if_neg (by rw[←hk];exact a)];exact m7.cons hk hr ih) r
 ·exact r.append (m7.cons (p:=(k,v)) (e:=(k,d)) rfl h .nil)
theorem m7.drop(r:m7 K G kvs es)(k:Key):m7 K G (iK kvs k) (oJ es k):=by
 refine m7.ind (P:=λkvs es=>m7 K G (iK kvs k) (oJ es k)) .nil (λp e kvs es hk hr _ ih=>?_) r;unfold iK oJ;by_cases a:p.1=k
 ·rw[List.filter_cons_of_neg (by simpa using a),List.filter_cons_of_neg (by simpa[←hk]using a)];exact ih
 ·rw[List.filter_cons_of_pos (by simpa using a),List.filter_cons_of_pos (by simpa[←hk]using a)];exact m7.cons hk hr ih
theorem fC(h:T3 K G H v d)(e:keyOf d=g7 k):v=kV k:=by
 cases d<;>first| (cases e;done) |skip
 ·cases e;exact h.int
 ·cases e;exact h.str
theorem v5.eW(h:v5 K G xs ds)(e:L2.eW ds i=g7 d):∃x,L2.eW xs i=g7 x∧Rep K G x d:=by
 unfold L2.eW at e⊢;rw[h.len];cases a:yF ds.length i with
 |none=>rw[a]at e;cases e
 |some j=>
  rw[a]at e;exact h.at e
end
theorem Aa {X:Cx}(e:X.A.units+8<E7):fP X (A0 .In) (λx y H Q=>∃a o,y=.ref a∧eu H a x o∧Q (.bl o.isSome) H):=by
 intro pins s σ H x y v u Q I b c h;obtain⟨a,o,rfl,g,q⟩:=h;cases c;exact LQ (by omega) I g b λf d=>⟨.bl _,H,d,rfl,q⟩
theorem xz {X:Cx}(e:X.A.units+8<E7):fP X (A0 .NotIn) (λx y H Q=>∃a o,y=.ref a∧eu H a x o∧Q (.bl (!o.isSome)) H):=by
 intro pins s σ H x y v u Q I b c h;obtain⟨a,o,rfl,g,q⟩:=h;cases c;exact Ev (by omega) I g b λf d=>⟨.bl _,H,d,rfl,q⟩
noncomputable def Lk (a b:List Nat):Bool:=!(C2 (tx b) (tx a) 0 (tx b).length 1).isEmpty
noncomputable def AD:D→D→Option Bool
 |d,.lst ds=>jm d ds
 |d,.tup ds=>jm d ds
 |.str a,.str b=>g7 (Lk a b)
 |d,.dct es=>(keyOf d).map λk=>(O3 es k).isSome
 |_,_=>g9
noncomputable def inD (d e:D):Option W:=(AD d e).bind vB
noncomputable def cy (d e:D):Option W:=(AD d e).bind λb=>vB (!b)
section
variable {X:Cx}{B:Bs}{e a b c:Expr}{ma mb mc:M W}{pos:Pos}
theorem AE {G H:Hp}{σ:St}{ρ:l9}{x y:V}{dx l:D}{b:Bool}(R:RS B G H σ ρ)(hx:T3 B.K G H x dx)(g:T3 B.K G H y l)(e:AD dx l=g7 b):
  (∃d ds p xs,Rep B.K H x d∧y=.ref p∧(T9 B.K H p xs∨bJ B.K H p xs)∧v5 B.K H xs ds∧jm d ds=g7 b)∨(∃i j,x=.str i∧y=.str j∧b=(!(C2 j i 0 j.length 1).isEmpty))∨(∃a o,y=.ref a∧eu H a x o∧b=o.isSome):=by
 cases l with
 |lst ds=>
  obtain⟨p,xs,rfl,c,f⟩:=g.lst R.gH;exact .inl ⟨dx,ds,p,xs,hx.rep R.gH,rfl,.inl c,f.same R.gH,by cases dx<;>exact e⟩
 |tup ds=>
  obtain⟨p,xs,rfl,c,f⟩:=g.tup R.gH;exact .inl ⟨dx,ds,p,xs,hx.rep R.gH,rfl,.inr c,f.same R.gH,by cases dx<;>exact e⟩
 |dct es=>
  obtain⟨p,kvs,rfl,c,f⟩:=g.dct R.gH;have h:(keyOf dx).map (λk=>(O3 es k).isSome)=g7 b:=by cases dx<;>exact e
  cases hk:keyOf dx with
  |none=>rw[hk]at h;cases h
  |some k=>
   rw[hk]at h;cases h;have m:=fC hx hk;subst m;refine .inr (.inr ⟨p,bN kvs k,rfl,eu.r c,?_⟩);obtain⟨n,s⟩:=f.val k;show(O3 es k).isSome=_;cases hd:O3 es k with
   |none=>rw[s hd];rfl
   |some d=>
    obtain⟨v,q,_⟩:=n d hd;rw[q];rfl
 |str cs=>
  cases dx<;>first| (cases e;done) |skip
  cases e;exact .inr (.inl ⟨_,_,hx.str,g.str,rfl⟩)
 |_=>cases dx<;>cases e
theorem vT:fS B (λx y H Q=>(∃d ds b p xs,Rep B.K H x d∧y=.ref p∧(T9 B.K H p xs∨bJ B.K H p xs)∧v5 B.K H xs ds∧jm d ds=g7 b∧Q (.bl b) H)∨(∃i j,x=.str i∧y=.str j∧Q (.bl (!(C2 j i 0 j.length 1).isEmpty)) H)∨(∃a o,y=.ref a∧eu H a x o∧Q (.bl o.isSome) H)) inD:=by
 intro G H σ ρ x y dx k w Q R hx l e p;unfold inD at e;cases h:AD dx k with
 |none=>rw[h]at e;cases e
 |some b=>
  rw[h]at e;cases e;have fin:Q (.bl b) H:=p _ G H (j5.refl _) R (.bl _);rcases AE R hx l h with⟨d,ds,m,xs,c,f,g,n,q⟩ | ⟨i,j,c,f,g⟩ | ⟨a,o,c,f,g⟩
  ·exact .inl ⟨d,ds,b,m,xs,c,f,g,n,q,fin⟩
  ·exact .inr (.inl ⟨i,j,c,f,by rw[←g];exact fin⟩)
  ·exact .inr (.inr ⟨a,o,c,f,by rw[←g];exact fin⟩)
theorem uv:fS B (λx y H Q=>(∃d ds b p xs,Rep B.K H x d∧y=.ref p∧(T9 B.K H p xs∨bJ B.K H p xs)∧v5 B.K H xs ds∧jm d ds=g7 b∧Q (.bl (!b)) H)∨(∃i j,x=.str i∧y=.str j∧Q (.bl (!(!(C2 j i 0 j.length 1).isEmpty))) H)∨(∃a o,y=.ref a∧eu H a x o∧Q (.bl (!o.isSome)) H)) cy:=by
 intro G H σ ρ x y dx k w Q R hx l e p;unfold cy at e;cases h:AD dx k with
 |none=>rw[h]at e;cases e
 |some b=>
  rw[h]at e;cases e;have fin:Q (.bl (!b)) H:=p _ G H (j5.refl _) R (.bl _);rcases AE R hx l h with⟨d,ds,m,xs,c,f,g,n,q⟩ | ⟨i,j,c,f,g⟩ | ⟨a,o,c,f,g⟩
  ·exact .inl ⟨d,ds,b,m,xs,c,f,g,n,q,fin⟩
  ·exact .inr (.inl ⟨i,j,c,f,by rw[←g];exact fin⟩)
  ·exact .inr (.inr ⟨a,o,c,f,by rw[←g];exact fin⟩)
theorem Fk (c:X.A.units+8<E7)(d:PD X B a ma)(e:PD X B b mb)(f:M5 .In b=g8:=by with_unfolding_all rfl)(g:X.K=B.K:=by rfl):PD X B (.Compare a [.In] [b] pos) (i3 inD ma mb):=lA (λξ=>(zZ (X:=rz X ξ) g c).or (om.or (Aa c))) vT d e f
theorem tM (c:X.A.units+8<E7)(d:PD X B a ma)(e:PD X B b mb)(f:M5 .In b=g8:=by with_unfolding_all rfl)(g:X.K=B.K:=by rfl):qP X B (.Compare a [.In] [b] pos) (v4 (i3 inD ma mb)):=du (λξ=>(zZ (X:=rz X ξ) g c).or (om.or (Aa c))) vT d e f
theorem hA (c:X.A.units+8<E7)(d:PD X B a ma)(e:PD X B b mb)(f:M5 .NotIn b=g8:=by with_unfolding_all rfl)(g:X.K=B.K:=by rfl):qP X B (.Compare a [.NotIn] [b] pos) (v4 (i3 cy ma mb)):=du (λξ=>(xy (X:=rz X ξ) g c).or (pK.or (xz c))) uv d e f
end
noncomputable def pf:D→Option Bool
 |.z5=>g7 g8
 |.bl b=>g7 b
 |.int i=>g7 (i != 0)
 |.str cs=>cf (small cs.length) (g7 ((cs.length:Int) != 0))
 |.lst ds=>g7 (!ds.isEmpty)
 |.tup ds=>g7 (!ds.isEmpty)
 |_=>g9
noncomputable def as (m:M W):M Bool:=M.bind m λw=>λρ=>match getD w ρ with
 |some d=>(pf d).map (R'.ok · ρ)
 |none=>g9
noncomputable def bP (a b:M Bool):M Bool:=M.bind a λk=>if k=h7 then b else M.pure g8
noncomputable def qV (a b:M Bool):M Bool:=M.bind a λk=>if k=h7 then M.pure h7 else b
noncomputable def kk (a:M Bool):M Bool:=M.bind a λk=>M.pure (!k)
noncomputable def GP (w:W):M Bool:=λρ=>match getD w ρ with
 |some (.bl b)=>g7 (.ok b ρ)
 |_=>g9
noncomputable def eN (a b:M W):M W:=M.bind a λw=>M.bind (GP w) λk=>if k=h7 then b else mC (.bl g8)
noncomputable def Fc (a:M W):M W:=M.bind a λw=>M.bind (GP w) λk=>mC (.bl (!k))
theorem jM {α b:Type}{xs:List α}{a:List b}(h:xs.length=a.length):xs.isEmpty=a.isEmpty:=by
 cases xs<;>cases a<;>simp_all
section
variable {X:Cx}{B:Bs}{e a b c:Expr}{ma mb mc:M W}{pos:Pos}{F3:List Expr}
theorem pd(R:RS B G H σ ρ)(h:T3 B.K G H x d)(e:pf d=g7 k):uX B.K x H k:=by
 cases d with
 |z5=>cases e;rw[h.z5];rfl
 |bl b=>cases e;rw[h.bl];rfl
 |int i=>cases e;rw[h.int];rfl
 |str cs=>
  obtain⟨z,e⟩:=t6 e;cases e;rw[h.str];exact⟨by rw[ao];exact G9 z,by rw[ao]⟩
 |lst ds=>
  cases e;obtain⟨p,xs,rfl,a,c⟩:=h.lst R.gH;exact .inl ⟨xs,a,by rw[jM c.len]⟩
 |tup ds=>
  cases e;obtain⟨p,xs,rfl,a,c⟩:=h.tup R.gH;exact .inr (.inl ⟨xs,a,by rw[jM c.len]⟩)
 |dct es=>cases e
 |ty n=>cases e
theorem V2 (g:PD X B a ma)(h:∀b,wP a X.env b=(do let v←b;gV a.pos;P5 [v] (Nh v)):=by exact λ_=>rfl)(i:X.K=B.K:=by rfl):qP X B a (as ma):=.mk λξ=>
 (zE (X:=rz X ξ) (g.ap ξ) h).imp λσ H Q t=>by
  obtain⟨G,ρ,R,t⟩:=t;refine(TD.bind (O2:=C4) R t).mono λx H1 ⟨j,c,w,s1,f,l,r,e,p⟩=>?_;cases hd:getD w c with
  |none=>simp only[hd]at e;cases e
  |some d=>
   simp only[hd]at e;cases hk:pf d with
   |none=>rw[hk]at e;cases e
   |some k=>
    rw[hk]at e;cases e;refine⟨k,?_,p k j H1 (j5.refl _) f rfl⟩;show uX X.K x H1 k;rw[i];exact pd f (l.get f hd) hk
theorem FP {ξ:XP}{b c:M Bool}{σ:St}{H:Hp}{Q:Bool→Hp→Prop}(t:TD er B ξ (bP b c) σ H Q):IS (TD er B ξ b) (TD er B ξ c) σ H Q:=by
 obtain⟨G,ρ,R,t⟩:=t;refine(TD.bind (O2:=er) R t).mono λk H1 ⟨d,a,h,s1,f,i,g⟩=>?_;cases(show k=h from i);cases k with
 |true=>exact⟨d,a,f,g⟩
 |false=>
  obtain⟨r,e,p⟩:=g;cases e;exact p g8 d H1 (j5.refl _) f rfl
theorem IJ {ξ:XP}{b c:M Bool}{σ:St}{H:Hp}{Q:Bool→Hp→Prop}(t:TD er B ξ (qV b c) σ H Q):MT (TD er B ξ b) (TD er B ξ c) σ H Q:=by
 obtain⟨G,ρ,R,t⟩:=t;refine(TD.bind (O2:=er) R t).mono λk H1 ⟨d,a,h,s1,f,i,g⟩=>?_;cases(show k=h from i);cases k with
 |false=>exact⟨d,a,f,g⟩
 |true=>
  obtain⟨r,e,p⟩:=g;cases e;exact p h7 d H1 (j5.refl _) f rfl
theorem bg {b:M Bool}(c:qP X B a b):Ft X B (.BoolOp .And [a] pos) b:=.mk λξ=>vx (c.ap ξ)
theorem fT {b:M Bool}(c:qP X B a b):Ft X B (.BoolOp .Or [a] pos) b:=.mk λξ=>Gk (c.ap ξ)
theorem w_and {c d:M Bool}(e:qP X B a c)(f:Ft X B (.BoolOp .And (b::F3) pos) d):Ft X B (.BoolOp .And (a::b::F3) pos) (bP c d):=.mk λξ=>(zC (e.ap ξ) (f.ap ξ)).imp λ_ _ _ t=>FP t
theorem w_or {c d:M Bool}(e:qP X B a c)(f:Ft X B (.BoolOp .Or (b::F3) pos) d):Ft X B (.BoolOp .Or (a::b::F3) pos) (qV c d):=.mk λξ=>(Jh (e.ap ξ) (f.ap ξ)).imp λ_ _ _ t=>IJ t
theorem hB {b:M Bool}(c:qP X B a b):qP X B (.UnaryOp .Not a pos) (kk b):=.mk λξ=>(Go (c.ap ξ)).imp λσ H Q t=>by
 obtain⟨G,ρ,R,t⟩:=t;refine(TD.bind (O2:=er) R t).mono λk H1 ⟨d,f,g,s1,h,i,r,e,p⟩=>?_;cases(show k=g from i);cases e;exact p (!k) d H1 (j5.refl _) h rfl
theorem vN {ξ:XP}{α c:Type}{a:Rel α c}{w:W}{f:Bool→M α}{G H:Hp}{ρ:l9}{σ:St}{Q:c→Hp→Prop}{x:V}(R:RS B G H σ ρ)(q:L4 B G H σ ρ x w)(t:dP a B ξ G ρ (M.bind (GP w) f) σ Q):∃k,x=.bl k∧dP a B ξ G ρ (f k) σ Q:=by
 obtain⟨k,d,e,t⟩:=t.step λr h=>by
  unfold GP at h;split at h
  ·cases h;exact⟨_,_,rfl⟩
  ·cases h
 unfold GP at e;split at e
 ·rename_i b hd;cases e;exact⟨k,(q.get R hd).bl,t⟩
 ·cases e
theorem CD(t:TD C4 B ξ (eN ma mb) σ H Q):ET (TD C4 B ξ ma) (TD C4 B ξ mb) σ H Q:=by
 obtain⟨G,ρ,R,t⟩:=t;refine(TD.bind (O2:=C4) R t).mono λx H1 ⟨c,a,w,s1,b,f,g⟩=>?_;obtain⟨k,rfl,d⟩:=vN b f g;refine⟨k,rfl,?_⟩;cases k with
 |true=>exact⟨c,a,b,d⟩
 |false=>
  obtain⟨r,e,p⟩:=d;cases e;exact p _ c H1 (j5.refl _) b (.bl _)
theorem sR {op}(b:PD X B a ma):PD X B (.BoolOp op [a] pos) ma:=.mk λξ=>GB (b.ap ξ)
theorem wz (c:PD X B a ma)(d:PD X B (.BoolOp .And (b::F3) pos) mb):PD X B (.BoolOp .And (a::b::F3) pos) (eN ma mb):=.mk λξ=>(GF (c.ap ξ) (d.ap ξ)).imp λ_ _ _ t=>CD t
theorem JO (c:PD X B a ma):PD X B (.UnaryOp .Not a pos) (Fc ma):=.mk λξ=>(GC (c.ap ξ)).imp λσ H Q t=>by
 obtain⟨G,ρ,R,t⟩:=t;refine(TD.bind (O2:=C4) R t).mono λx H1 ⟨d,f,w,s1,b,g,h⟩=>?_;obtain⟨k,rfl,r,e,p⟩:=vN b g h;cases e;exact⟨k,rfl,p _ d H1 (j5.refl _) b (.bl _)⟩
end
theorem DF {X:Cx}(j:X.A.units+8<E7):Cd X (λx y H Q=>∃a v,x=.ref a∧eu H a y (g7 v)∧Q v H):=by
 intro b c pins s σ H x y v u Q I d e h hs;obtain⟨a,z,rfl,g,q⟩:=h;cases d;exact Ni (sP I g) PySem.F.slot_dict_getitem.lookup (yo (by omega) I g e λk l f i=>⟨z,H,f,i,q⟩) hs
noncomputable def B1:D→D→Option W
 |.lst ds,.int i=>(eW ds i).map W.val
 |.tup ds,.int i=>(eW ds i).map W.val
 |.str cs,.int i=>cf (small cs.length) ((eW cs i).map λc=>W.val (.str [c]))
 |.dct es,k=>(keyOf k).bind λk=>(O3 es k).map W.val
 |_,_=>g9
section
variable {X:Cx}{B:Bs}{e a b c:Expr}{ma mb mc:M W}{pos:Pos}
theorem DG:fS B (λx y H Q=>zA B.K x y H Q∨Dc B.K x y H Q∨Jg x y H Q∨∃a v,x=.ref a∧eu H a y (g7 v)∧Q v H) B1:=by
 intro G H σ ρ x y dx b w Q R hx l e p;cases dx with
 |lst ds=>
  cases b<;>first| (cases e;done) |skip
  obtain⟨d,f,rfl⟩:=Option.map_eq_some_iff.mp e;obtain⟨q,xs,rfl,g,h⟩:=hx.lst R.gH;obtain⟨v,i,j⟩:=h.eW f;exact .inl ⟨q,xs,_,v,rfl,l.int,g,i,p v G H (j5.refl _) R j⟩
 |tup ds=>
  cases b<;>first| (cases e;done) |skip
  obtain⟨d,f,rfl⟩:=Option.map_eq_some_iff.mp e;obtain⟨q,xs,rfl,g,h⟩:=hx.tup R.gH;obtain⟨v,i,j⟩:=h.eW f;exact .inr (.inl ⟨q,xs,_,v,rfl,l.int,g,i,p v G H (j5.refl _) R j⟩)
 |str cs=>
  cases b<;>first| (cases e;done) |skip
  obtain⟨z,e⟩:=t6 e;obtain⟨c,f,rfl⟩:=Option.map_eq_some_iff.mp e;refine .inr (.inr (.inl ⟨tx cs,_,c,hx.str,l.int,by rw[ao];exact G9 z,by simpa using f,p _ G H (j5.refl _) R (.str [c])⟩))
 |dct es=>
  have m:(keyOf b).bind (λk=>(O3 es k).map W.val)=g7 w:=by cases b<;>exact e
  cases hk:keyOf b with
  |none=>rw[hk]at m;cases m
  |some k=>
   rw[hk]at m;obtain⟨d,f,rfl⟩:=Option.map_eq_some_iff.mp m;obtain⟨q,kvs,rfl,g,h⟩:=hx.dct R.gH;have n:=fC l hk;subst n;obtain⟨v,i,j⟩:=(h.val k).1 d f;refine .inr (.inr (.inr ⟨q,v,rfl,?_,p v G H (j5.refl _) R j⟩));rw[←i];exact eu.r g
 |_=>cases b<;>cases e
theorem w5 (d:X.A.units+8<E7)(e:PD X B a ma)(f:PD X B b mb)(hs:fL b:=by exact λ_ _=>rfl)(c:X.K=B.K:=by rfl):PD X B (.Subscript a b pos) (i3 B1 ma mb):=.mk λξ=>
 (rJ (X:=rz X ξ) ((Ay (X:=rz X ξ) (K:=B.K) c).or ((DE (X:=rz X ξ) (K:=B.K) c).or (GY.or (DF d)))) (e.ap ξ) (f.ap ξ) hs).imp λ_ _ _ t=>ph DG t
end
noncomputable def Gi:Rel (Option Int) (Option Int):=λ_ _ _ _ _ v b=>v=b
structure Kr (X:Cx) (B:Bs) (e:Option Expr) (m:M (Option Int)):Prop where
 ap:∀ξ,PO (rz X ξ) e (TD Gi B ξ m)
noncomputable def dW (m:M W):M (Option Int):=M.bind m λw=>λρ=>match getD w ρ with
 |some (.int i)=>g7 (.ok (g7 i) ρ)
 |_=>g9
noncomputable def cutD (ds:List D)(lo hi:Option Int):List D:=(ds.drop (HT.C8 ds.length 0 lo)).take (HT.C8 ds.length ds.length hi-HT.C8 ds.length 0 lo)
noncomputable def Gb:D→Option Int→Option Int→Option W
 |.lst ds,lo,hi=>g7 (.own (.lst (cutD ds lo hi)))
 |.str cs,lo,hi=>cf (small cs.length) (g7 (.val (.str (qB cs lo hi))))
 |.tup ds,lo,hi=>g7 (.val (.tup (cutD ds lo hi)))
 |_,_,_=>g9
noncomputable def yE (a:M W)(b c:M (Option Int)):M W:=M.bind (R7 a) λx=>M.bind b λlo=>M.bind c λhi=>Ij (λd=>Gb d lo hi) x
theorem wU {P:Program}{w:World}{A:Around}{E:Value→Shared→Prop}{s:Shared}{t c:Addr}{a:Array Value}{f h:Value}{lo hi:Option Int}{Q:Value→Shared→Prop}(it:Ki s.heap t a)(is:s.heap.IsSliceOf c f h .none)(i:IsPart f lo)(j:IsPart h hi)
  (k:HT.C8 a.size 0 lo=0) (l:HT.C8 a.size a.size hi=a.size) (q:Q (.ref t) s):wpAny (model P w) A (gW (.ref t) (.ref c)) Q E s:=by
 have m:s.TypeIs (.ref c) "slice":=by obtain⟨o,b,e,_⟩:=id is;exact⟨o,b,e⟩
 unfold gW
 (try with_reducible refine x0 ?_)
 (first|refine wpAny_bind (i6 ?_) |skip)
 refine wpAny_bind (Kb (T:="tuple") it.typeIs (by decide) ?_);refine wpAny_bind (aj (T:="tuple") (name:=Str.ofString "__getitem__") it.typeIs v9 (bK (T:="tuple") v9 it.typeIs MD ?_ (MN _ _)));show wpAny (model P w) _ (iY (.ref t) >>= _) _ _ s;refine wpAny_bind (Mt it (wpAny_bind (aF m ?_)));rw[if_pos (by decide)];refine wpAny_bind (HT.cK is i j ?_);rw[k,l];have yes:((((0:Nat):Int)==0&&(1:Int)==1&&(a.size-0)==a.size)=h7):=by simp
 show wpAny (model P w) _ (if(((0:Nat):Int)==0&&(1:Int)==1&&(a.size-0)==a.size)=h7 then _ else _) _ _ s;rw[if_pos yes];obtain⟨o,b,e,_⟩:=id it;have n:s.TypeIs (.ref t) "tuple":=⟨o,b,e⟩
 obtain⟨p,g,d,r,os⟩:=s;unfold KQ;repeat (any_goals (first|assumption|wp_step))
 exact⟨_,rfl,i6 q⟩
theorem zi {X:Cx}{K:PySem.W.Frag}(a:X.K=K):Cb X (Je K):=by subst a;exact CM
theorem zh {X:Cx}{K:PySem.W.Frag}(e:X.K=K):Cb X (λx lo hi H Q=>∃a xs,x=.ref a∧bJ K H a xs∧HT.C8 xs.length 0 lo=0∧HT.C8 xs.length xs.length hi=xs.length∧Q (.ref a) H):=by
 subst e;intro pins s σ H x v l m lo hi sl Q I f hs g i h;obtain⟨a,xs,rfl,hx,j,k,q⟩:=h;cases f;obtain⟨c,r,d,n⟩:=I.tuple hx;have b:c.toArray.size=xs.length:=by rw[List.size_toArray,r.length]
 exact⟨"tuple",_,v9.lookup,d.typeIs,wU d hs g i (by rw[b];exact j) (by rw[b];exact k) ⟨.ref a,H,I,rfl,q⟩⟩
theorem CL {X:Cx}{K:PySem.W.Frag}(a:X.K=K):Cb X (Jd K):=by subst a;exact FY
section
variable {X:Cx}{B:Bs}{e a b c:Expr}{ma mb mc:M W}{pos p2:Pos}{lo hi:Option Expr}
theorem gz:Kr X B g9 (M.pure g9):=.mk λξ pins s σ H Q I h=>Dj pins s σ H Q I (by
 obtain⟨G,ρ,R,r,e,p⟩:=h;cases e;exact p g9 G H (j5.refl _) R rfl)
theorem gy (h:PD X B e ma):Kr X B (g7 e) (dW ma):=.mk λξ pins s σ H Q I t=>Di (h.ap ξ) pins s σ H Q I (by
 obtain⟨G,ρ,R,t⟩:=t;refine(TD.bind (O2:=C4) R t).mono λx H1 ⟨b,c,w,s1,a,d,r,e,p⟩=>?_;dsimp only at e;split at e
 ·rename_i i hd;cases e;exact⟨i,(d.get a hd).int,p (g7 i) b H1 (j5.refl _) a rfl⟩
 ·cases e)
theorem uM(A:PD X B a ma)(hl:Kr X B lo v)(E:Kr X B hi y)(j:X.K=B.K:=by rfl):PD X B (.Subscript a (.Slice lo hi g9 p2) pos) (yE ma v y):=.mk λξ=>
 (zN (X:=rz X ξ) ((zi (X:=rz X ξ) (K:=B.K) j).or (Ga.or ((CL (X:=rz X ξ) (K:=B.K) j).or (zh (X:=rz X ξ) (K:=B.K) j)))) (A.ap ξ) (hl.ap ξ) (E.ap ξ)).imp λσ H Q t=>by
  obtain⟨G,ρ,R,t⟩:=t;have F:TD ik B ξ (R7 ma) σ H _:=TD.bind (O2:=ik) R t;refine TD.R7 (F.mono λx H1 ⟨G1,I,J,s1,L,⟨N,k⟩,O⟩=>?_);refine(TD.bind (O2:=Gi) L O).mono λl H2 ⟨G2,P,S,s2,R2,T,U⟩=>?_;cases(show l=S from T);refine(TD.bind (O2:=Gi) R2 U).mono λu m ⟨b,n,Y,Z,c,q3,t4⟩=>?_;cases(show u=Y from q3);obtain⟨dx,w,e1,e,p⟩:=vG t4;have hx:=(N.keep (s2.trans Z) k:L4 B b m σ n x J).get c e1;cases dx with
  |lst ds=>
   cases e;obtain⟨q,xs,rfl,i,d⟩:=hx.lst c.gH;refine .inl ⟨q,xs,rfl,i,λpp o=>?_⟩;have r:v5 B.K b (nL xs l u) (cutD ds l u):=by
    unfold nL cutD;rw[d.len];exact(d.drop _).take _
   obtain⟨R',s⟩:=c.eM o r;exact p _ b _ (j5.refl _) R' s
  |str cs=>
   obtain⟨z,e⟩:=t6 e;cases e;exact .inr (.inl ⟨cs,hx.str,z,p _ b m (j5.refl _) c (.str _)⟩)
  |tup ds=>
   cases e;have f:Rep B.K b x (.tup ds):=by
    rcases hx with h| ⟨_,_,hf⟩
    ·exact h
    ·exact(show False from hf).elim
   obtain⟨q,xs,rfl,i,d⟩:=hx.tup c.gH;by_cases g:HT.C8 xs.length 0 l=0∧HT.C8 xs.length xs.length u=xs.length
   ·have ec:cutD ds l u=ds:=by
     unfold cutD;rw[←d.len,g.1,g.2,List.drop_zero,List.take_of_length_le (by rw[d.len];omega)]
    rw[ec]at p;exact .inr (.inr (.inr ⟨q,xs,rfl,i,g.1,g.2,p _ b m (j5.refl _) c f⟩))
   ·refine .inr (.inr (.inl ⟨q,xs,rfl,i,g,λpp o=>?_⟩));have r:v5 B.K b (nL xs l u) (cutD ds l u):=by
     unfold nL cutD;rw[d.len];exact(d.drop _).take _
    obtain⟨G',s',R',s⟩:=c.ub o r;exact p _ G' _ s' R' s
  |_=>cases e
end
noncomputable def k6:M (List W):=M.pure []
noncomputable def i2 (m:M W)(r:M (List W)):M (List W):=M.bind (R7 m) λx=>M.bind r λxs=>M.pure (x::xs)
section
variable {X:Cx}{B:Bs}{e a b c:Expr}{es:List Expr}{ma mb mc:M W}{mr:M (List W)}{pos p2:Pos}
theorem j6:iW X B [] k6:=.mk λξ=>(X8 (X:=rz X ξ)).imp λσ H Q t=>by
 obtain⟨G,ρ,R,r,e,p⟩:=t;cases e;exact p [] G H (j5.refl _) R .nil
theorem lu {G G' H H':Hp}{σ:St}{ρ a:l9}(s:j5 G G'):∀{vs:List V} {b:List W},O5 B G H σ ρ vs b→O5 B G' H' σ a vs b
 |_,_,.nil=>.nil
 |_,_,.cons ⟨h,st⟩ t=>.cons ⟨h.keep s st,st⟩ (lu s t)
theorem h9 (b:PD X B e ma)(hr:iW X B es mr)(hs:i1 (e::es) X.env=(g8,eval e X.env)::i1 es X.env:=by rfl):iW X B (e::es) (i2 ma mr):=.mk λξ=>
 (E9 (X:=rz X ξ) (b.ap ξ) (hr.ap ξ) hs).imp λσ H Q t=>by
  obtain⟨G,ρ,R,t⟩:=t;have c:TD ik B ξ (R7 ma) σ H _:=TD.bind (O2:=ik) R t;refine TD.R7 (c.mono λx H1 ⟨n,d,o,s1,f,⟨g,a⟩,h⟩=>?_);refine(TD.bind (O2:=O5) f h).mono λxs i ⟨j,k,q,s2,R2,l,r,m,p⟩=>?_;cases m;exact p (x::xs) j i (j5.refl _) R2 (.cons ⟨g.keep s2 a,a⟩ l)
end
noncomputable def Z9:List W→M (List D)
 | []=>M.pure []
 |w::a=>M.bind (Q1 w) λd=>M.bind (Z9 a) λds=>M.pure (d::ds)
noncomputable def aP (m:M (List W)):M W:=M.bind m λa=>M.bind (Z9 a) λds ρ=>cf (small ds.length) (g7 (.ok (.val (.tup ds)) ρ))
noncomputable def aQ (m:M (List W)):M W:=M.bind m λa=>M.bind (Z9 a) λds ρ=>cf (small ds.length) (g7 (.ok (.own (.lst ds)) ρ))
section
variable {X:Cx}{B:Bs}{e a b c:Expr}{es:List Expr}{ma mb mc:M W}{mr:M (List W)}{pos p2:Pos}
theorem cT:∀{a:List W} {ρ:l9} {r:R' (List D)},Z9 a ρ=g7 r→∃ds b,r=.ok ds b
 | [],_,_,h=>by cases h;exact⟨_,_,rfl⟩
 |w::a,ρ,r,h=>by
  unfold Z9 at h;cases c:Q1 w ρ with
  |none=>rw[M.bind_none c]at h;cases h
  |some i=>
   obtain⟨d,e,rfl⟩:=fB c;rw[M.k9 c]at h;cases f:Z9 a e with
   |none=>rw[M.bind_none f]at h;cases h
   |some j=>
    obtain⟨ds,g,rfl⟩:=cT f;rw[M.k9 f]at h;cases h;exact⟨_,_,rfl⟩
theorem cS:∀{f:List W} {vs:List V} {G H:Hp} {σ:St} {ρ a:l9} {ds:List D},RS B G H σ ρ→O5 B G H σ ρ vs f→Z9 f ρ=g7 (.ok ds a)→∃G',j5 G G'∧RS B G' H σ a∧v5 B.K G' vs ds
 | [],_,G,H,σ,ρ,a,ds,R,q,e=>by
  cases q;cases e;exact⟨G,j5.refl _,R,.nil⟩
 |w::f,_,G,H,σ,ρ,a,ds,R,q,e=>by
  cases q with
  | @cons v _ vs _ g t=>
   unfold Z9 at e;cases hl:Q1 w ρ with
   |none=>rw[M.bind_none hl]at e;cases e
   |some n=>
    obtain⟨d,c,rfl⟩:=fB hl;rw[M.k9 hl]at e;cases b:Z9 f c with
    |none=>rw[M.bind_none b]at e;cases e
    |some o=>
     obtain⟨h,i,rfl⟩:=cT b;rw[M.k9 b]at e;cases e;obtain⟨p,s1,j,k⟩:=g.1.Q1 R hl;obtain⟨l,s2,R2,m⟩:=cS (ρ:=c) j (lu s1 t) b;exact⟨l,s1.trans s2,R2,.cons (k.same s2) m⟩
theorem X6 {x1}(h:iW X B es mr):PD X B (.Tuple es x1 pos) (aP mr):=.mk λξ=>(zM (h.ap ξ)).imp λσ H Q t=>by
 obtain⟨G,ρ,R,t⟩:=t;refine(TD.bind (O2:=O5) R t).mono λvs H1 ⟨q,c,s,s1,d,e,f⟩=>?_;obtain⟨ds,g,i,r,a,p⟩:=f.step λr h=>cT h;obtain⟨j,a⟩:=t6 a;cases a;obtain⟨u,s2,R2,b⟩:=cS d e i;refine⟨by rw[b.len];exact G9 j,λv k=>?_⟩;obtain⟨l,m,n,o⟩:=R2.ub k b;exact p _ l _ (s2.trans m) n o
theorem S8 (h:iW X B es mr):PD X B (.List es pos) (aQ mr):=.mk λξ=>(pI (h.ap ξ)).imp λσ H Q t=>by
 obtain⟨G,ρ,R,t⟩:=t;refine(TD.bind (O2:=O5) R t).mono λvs H1 ⟨o,c,q,s1,d,e,f⟩=>?_;obtain⟨ds,g,i,r,a,p⟩:=f.step λr h=>cT h;obtain⟨j,a⟩:=t6 a;cases a;obtain⟨k,s2,R2,b⟩:=cS d e i;refine⟨by rw[b.len];exact G9 j,λs l=>?_⟩;obtain⟨m,n⟩:=R2.eM l b;exact p _ k _ s2 m n
noncomputable def ou:M W:=M.pure (.own (.dct []))
theorem qA:PD X B (.Dict [] [] pos) ou:=.mk λξ=>(zS (X:=rz X ξ)).imp λσ H Q t=>by
 obtain⟨G,ρ,R,r,e,p⟩:=t;cases e;intro d a;obtain⟨b,c⟩:=R.pM a .nil;exact p _ G _ (j5.refl _) b c
end
noncomputable def bz:List W→l9→Option (List D)
 | [],_=>g7 []
 |w::a,ρ=>match getD w ρ,bz a ρ with
  |some d,g7 ds=>g7 (d::ds)
  |_,_=>g9
noncomputable def Kp (f:List D→Option W)(a:List W):M W:=λρ=>match bz a ρ with
 |some ds=>(f ds).map (R'.ok · ρ)
 |none=>g9
noncomputable def L6 (f:List D→Option W)(m:M (List W)):M W:=M.bind m λa=>Kp f a
noncomputable abbrev tm (K:PySem.W.Frag)(G H:Hp):List V→List D→Prop:=Paired λv d=>T3 K G H v d
def fR (B:Bs)(r:List V→Hp→VK→Prop)(f:List D→Option W):Prop:=∀{G H:Hp} {σ:St} {ρ:l9} {xs:List V} {ds:List D} {w:W} {Q:VK},RS B G H σ ρ→tm B.K G H xs ds→f ds=g7 w→
 (∀v G' H',j5 G G'→RS B G' H' σ ρ→L4 B G' H' σ ρ v w→Q v H')→r xs H Q
theorem Dt(t:dP C4 B ξ G ρ (Kp f a) σ Q):∃ds w,bz a ρ=g7 ds∧f ds=g7 w∧∀v G' H',j5 G G'→RS B G' H' σ ρ→L4 B G' H' σ ρ v w→Q v H':=by
 obtain⟨r,e,p⟩:=t;unfold Kp at e;cases hx:bz a ρ with
 |none=>rw[hx]at e;cases e
 |some dx=>
  rw[hx]at e;simp only[]at e;cases b:f dx with
  |none=>rw[b]at e;cases e
  |some w=>
   rw[b]at e;cases e;exact⟨dx,w,rfl,b,p⟩
theorem fF(R:RS B G H σ ρ):∀{a:List W} {vs:List V} {ds:List D},O5 B G H σ ρ vs a→bz a ρ=g7 ds→tm B.K G H vs ds
 | [],_,ds,q,e=>by cases q;cases e;exact .nil
 |w::a,_,ds,q,e=>by
  cases q with
  |cons h t=>
   unfold bz at e;cases b:getD w ρ with
   |none=>rw[b]at e;cases e
   |some d=>
    cases c:bz a ρ with
    |none=>rw[b,c]at e;cases e
    |some f=>
     rw[b,c]at e;cases e;exact .cons (h.1.get R b) (fF R t c)
section
variable {X:Cx}{B:Bs}{e a b c:Expr}{es:List Expr}{ma mb mc:M W}{mr:M (List W)}{pos p:Pos}{x:Str}{id T:String}
theorem yV(hi:fR B r f)(t:TD C4 B ξ (L6 f mr) σ H Q):Kn r (TD O5 B ξ mr) σ H Q:=by
 obtain⟨G,ρ,R,t⟩:=t;refine(TD.bind (O2:=O5) R t).mono λvs H1 ⟨h,b,i,s1,a,c,d⟩=>?_;obtain⟨ds,w,e,g,p⟩:=Dt d;exact hi a (fF a c e) g p
theorem dM(c:∀ξ,E6 (rz X ξ) (.builtin id) r)(hi:fR B r f)(d:Gl X x)(g:X.mg x=g9)(h:M0 x=g7 (.builtin id))(i:iW X B (e::es) mr)(j:x≠"__name__":=by decide) (a:(x==("__debug__":Str))=g8:=by decide)
  (k:i1 (e::es) X.env=(g8,eval e X.env)::i1 es X.env:=by rfl) (b:(m4 pos (i1 es X.env)).any (·.1)=g8:=by rfl):PD X B (.Call (.Name x p) (e::es) [] pos) (L6 f mr):=.mk λξ=>
 (im (X:=rz X ξ) (c ξ) d g h (i.ap ξ) j a k b).imp λ_ _ _ t=>yV hi t
theorem eV(c:∀ξ,E6 (rz X ξ) (.type T) r)(hi:fR B r f)(d:Gl X x)(g:X.mg x=g9)(h:M0 x=g7 (.type T))(i:iW X B (e::es) mr)(j:x≠"__name__":=by decide) (a:(x==("__debug__":Str))=g8:=by decide)
  (k:i1 (e::es) X.env=(g8,eval e X.env)::i1 es X.env:=by rfl) (b:(m4 pos (i1 es X.env)).any (·.1)=g8:=by rfl):PD X B (.Call (.Name x p) (e::es) [] pos) (L6 f mr):=.mk λξ=>
 (xx (X:=rz X ξ) (c ξ) d g h (i.ap ξ) j a k b).imp λ_ _ _ t=>yV hi t
end
noncomputable def aw:List D→Option W
 | [.lst ds]=>vI ds.length
 | [.tup ds]=>vI ds.length
 | [.str cs]=>cf (small cs.length) (vI cs.length)
 | [.dct es]=>vI es.length
 |_=>g9
noncomputable def iR:List D→Option W
 | [.int i]=>vI i.natAbs
 |_=>g9
noncomputable def intD:List D→Option W
 | [.int i]=>vI i
 | [.bl b]=>vI (if b then 1 else 0)
 | [.str cs]=>match intText? (tx cs)with
  |some n=>cf (cs.length≤640) (vI n)
  |none=>g9
 |_=>g9
noncomputable def fY:List D→Option W
 | [.lst ds]=>g7 (.own (.lst ds))
 | [.tup ds]=>g7 (.own (.lst ds))
 | [.dct es]=>g7 (.own (.lst (es.map λe=>match e.1 with|.inl i=>D.int i|.inr x=>D.str x.cps.toList)))
 |_=>g9
noncomputable def kT:List D→Option W
 | [.lst ds]=>g7 (.val (.tup ds))
 | [.tup ds]=>g7 (.val (.tup ds))
 |_=>g9
noncomputable def By:List D→Option W
 | [.dct es]=>g7 (.own (.dct es))
 |_=>g9
noncomputable def cY:List D→Option (List Bool)
 | []=>g7 []
 |.bl b::ds=>(cY ds).map (b::·)
 |_=>g9
noncomputable def uU:List D→Option W
 | [.lst ds]=>(cY ds).bind λbs=>vB (bs.all id)
 |_=>g9
noncomputable def yy:List D→Option W
 | [.lst ds]=>(cY ds).bind λbs=>vB (bs.any id)
 |_=>g9
theorem mG:∀{ds:List D} {bs:List Bool},cY ds=g7 bs→ds=bs.map D.bl
 | [],_,h=>by cases h;rfl
 |.bl b::ds,bs,h=>by
  unfold cY at h;obtain⟨a,e,rfl⟩:=Option.map_eq_some_iff.mp h;rw[mG e];rfl
 |.z5::_,_,h=>by cases h
 |.int _::_,_,h=>by cases h
 |.str _::_,_,h=>by cases h
 |.ty _::_,_,h=>by cases h
 |.tup _::_,_,h=>by cases h
 |.lst _::_,_,h=>by cases h
 |.dct _::_,_,h=>by cases h
theorem BU {K:PySem.W.Frag}{G:Hp}:∀{bs:List Bool} {xs:List V},v5 K G xs (bs.map D.bl)→xs=bs.map V.bl
 | [],[],_=>rfl
 | [],_::_,r=>by have:=r.len;simp at this
 |_::_,[],r=>by have:=r.len;simp at this
 |b::bs,x::xs,r=>by
  have h:=r.head;cases h;rw[BU r.tail];rfl
section
variable {X:Cx}{B:Bs}{e a b c:Expr}{es:List Expr}{ma mb mc:M W}{mr:M (List W)}{pos p:Pos}
theorem E1 {K:PySem.W.Frag}{G H:Hp}{xs:List V}{d:D}(h:tm K G H xs [d]):∃x,xs=[x]∧T3 K G H x d:=by
 cases h with
 |cons h t=>cases t;exact⟨_,rfl,h⟩
theorem yQ {K:PySem.W.Frag}{G H:Hp}{xs:List V}{d a:D}(h:tm K G H xs [d,a]):∃x y,xs=[x,y]∧T3 K G H x d∧T3 K G H y a:=by
 cases h with
 |cons h t=>
  obtain⟨y,rfl,b⟩:=E1 t;exact⟨_,y,rfl,h,b⟩
theorem uR:∀{X:Cx},E6 X (.builtin "len") (λxs H Q=>∃a kvs,xs=[V.ref a]∧Rd H a (.dK kvs)∧Q (.int kvs.length) H):=by
 intro X pins s σ H xs us Q I r h;obtain⟨a,kvs,rfl,b,q⟩:=h;obtain⟨u,rfl,c⟩:=vals1 r;cases c;exact L2.ag I b λt e d=>⟨.int kvs.length,H,d,⟨t,rfl⟩,q⟩
theorem AG:fR B (λxs H Q=>(∃p b,xs=[.ref p]∧(T9 B.K H p b∨bJ B.K H p b)∧Q (.int b.length) H)∨(∃z,xs=[.str z]∧z.length≤sizeLine∧Q (.int z.length) H)∨∃a kvs,xs=[V.ref a]∧Rd H a (.dK kvs)∧Q (.int kvs.length) H) aw:=by
 intro G H σ ρ xs ds w Q R h e p
 match ds,e with
 | [.lst ds],e=>
  cases e;obtain⟨x,rfl,hx⟩:=E1 h;obtain⟨q,b,rfl,c,d⟩:=hx.lst R.gH;exact .inl ⟨q,b,rfl,.inl c,by rw[d.len];exact p _ G H (j5.refl _) R (.int _)⟩
 | [.tup ds],e=>
  cases e;obtain⟨x,rfl,hx⟩:=E1 h;obtain⟨q,b,rfl,c,d⟩:=hx.tup R.gH;exact .inl ⟨q,b,rfl,.inr c,by rw[d.len];exact p _ G H (j5.refl _) R (.int _)⟩
 | [.str cs],e=>
  obtain⟨z,e⟩:=t6 e;cases e;obtain⟨x,rfl,hx⟩:=E1 h;exact .inr (.inl ⟨tx cs,by rw[hx.str],by rw[ao];exact G9 z,by rw[ao];exact p _ G H (j5.refl _) R (.int _)⟩)
 | [.dct es],e=>
  cases e;obtain⟨x,rfl,hx⟩:=E1 h;obtain⟨q,b,rfl,c,d⟩:=hx.dct R.gH;exact .inr (.inr ⟨q,b,rfl,c,by rw[d.len];exact p _ G H (j5.refl _) R (.int _)⟩)
theorem ag (b:X.mg "len"=g9) (c:iW X B [e] mr) (d:Gl X "len":=by rfl) (f:X.K=B.K:=by rfl) (g:i1 [e] X.env=(g8,eval e X.env)::i1 [] X.env:=by rfl) (a:(m4 pos (i1 [] X.env)).any (·.1)=g8:=by rfl):PD X B (.Call (.Name "len" p) [e] [] pos) (L6 aw mr):=
 dM (λξ=>(yr (X:=rz X ξ) (K:=B.K) f).or (qH.or uR)) AG d b PySem.boot_len c (by decide) (by decide) g a
theorem AL:fR B (λxs H Q=>∃i,xs=[.int i]∧Q (.int (if i<0 then -i else i)) H) iR:=by
 intro G H σ ρ xs ds w Q R h e p
 match ds,e with
 | [.int i],e=>
  cases e;obtain⟨x,rfl,hx⟩:=E1 h;refine⟨i,by rw[hx.int],?_⟩;have a:(if i<0 then -i else i)=((i.natAbs:Nat):Int):=by split<;>omega
  rw[a];exact p _ G H (j5.refl _) R (.int _)
theorem jT (b:X.mg "abs"=g9) (c:iW X B [e] mr) (d:Gl X "abs":=by rfl) (f:i1 [e] X.env=(g8,eval e X.env)::i1 [] X.env:=by rfl) (a:(m4 pos (i1 [] X.env)).any (·.1)=g8:=by rfl):PD X B (.Call (.Name "abs" p) [e] [] pos) (L6 iR mr):=
 dM (λξ=>BR) AL d b MM c (by decide) (by decide) f a
theorem AI:fR B (λxs H Q=>((∃i,xs=[.int i]∧Q (.int i) H)∨∃k,xs=[.bl k]∧Q (.int (if k then 1 else 0)) H)∨∃x n,xs=[.str x]∧intText? x=g7 n∧x.length≤640∧Q (.int n) H) intD:=by
 intro G H σ ρ xs ds w Q R h e p
 match ds,e with
 | [.int i],e=>
  cases e;obtain⟨x,rfl,hx⟩:=E1 h;exact .inl (.inl ⟨i,by rw[hx.int],p _ G H (j5.refl _) R (.int _)⟩)
 | [.bl k],e=>
  cases e;obtain⟨x,rfl,hx⟩:=E1 h;exact .inl (.inr ⟨k,by rw[hx.bl],p _ G H (j5.refl _) R (.int _)⟩)
 | [.str cs],e=>
  obtain⟨x,rfl,hx⟩:=E1 h;have e:(match intText? (tx cs)with|some n=>cf (cs.length≤640) (vI n) |none=>g9)=g7 w:=e;split at e
  ·rename_i n a;obtain⟨z,e⟩:=t6 e;cases e;exact .inr ⟨tx cs,n,by rw[hx.str],a,by rw[ao];exact z,p _ G H (j5.refl _) R (.int _)⟩
  ·cases e
theorem HC (b:X.mg "int"=g9) (c:iW X B [e] mr) (d:Gl X "int":=by rfl) (f:i1 [e] X.env=(g8,eval e X.env)::i1 [] X.env:=by rfl) (a:(m4 pos (i1 [] X.env)).any (·.1)=g8:=by rfl):PD X B (.Call (.Name "int" p) [e] [] pos) (L6 intD mr):=
 eV (λξ=>yu.or qJ) AI d b mV c (by decide) (by decide) f a
theorem nO {X:Cx}{K:PySem.W.Frag}(b:X.K=K):E6 X (.type "list") (λxs H Q=>∃p a,xs=[.ref p]∧(T9 K H p a∨bJ K H p a)∧∀l,H l=g9→Q (.ref l) (upd H l (.lst a))):=by subst b;exact qG
theorem mE {X:Cx}{K:PySem.W.Frag}(b:X.K=K):E6 X (.type "tuple") (λxs H Q=>∃p a,xs=[.ref p]∧((T9 K H p a∧∀l,H l=g9→Q (.ref l) (upd H l (.tup a)))∨(bJ K H p a∧Q (.ref p) H))):=by subst b;exact nM
theorem Av {K:PySem.W.Frag}{G:Hp}{kvs:List (Key×V)}{es:List (Key×D)}(r:m7 K G kvs es):v5 K G (kvs.map λkv=>kV kv.1) (es.map λe=>match e.1 with|.inl i=>D.int i|.inr x=>D.str x.cps.toList):=by
 refine m7.ind (P:=λkvs es=>v5 K G (kvs.map λkv=>kV kv.1) (es.map λe=>match e.1 with|.inl i=>D.int i|.inr x=>D.str x.cps.toList)) .nil (λp e kvs es hk hr _ ih=>?_) r;rw[List.map_cons,List.map_cons];refine .cons ?_ ih;rw[hk];cases e.1 with
 |inl i=>exact .int i
 |inr x=>exact kE x
theorem xS:fR B (λxs H Q=>(∃p b,xs=[.ref p]∧(T9 B.K H p b∨bJ B.K H p b)∧∀l,H l=g9→Q (.ref l) (upd H l (.lst b)))∨∃a kvs,xs=[.ref a]∧Rd H a (.dK kvs)∧∀p,H p=g9→Q (.ref p) (upd H p (.lst (kvs.map λkv=>kV kv.1)))) fY:=by
 intro G H σ ρ xs ds w Q R h e p
 match ds,e with
 | [.lst ds],e=>
  cases e;obtain⟨x,rfl,hx⟩:=E1 h;obtain⟨q,b,rfl,c,d⟩:=hx.lst R.gH;refine .inl ⟨q,b,rfl,.inl c,λl hl=>?_⟩;obtain⟨R',f⟩:=R.eM hl d;exact p _ G _ (j5.refl _) R' f
 | [.tup ds],e=>
  cases e;obtain⟨x,rfl,hx⟩:=E1 h;obtain⟨q,b,rfl,c,d⟩:=hx.tup R.gH;refine .inl ⟨q,b,rfl,.inr c,λl hl=>?_⟩;obtain⟨R',f⟩:=R.eM hl d;exact p _ G _ (j5.refl _) R' f
 | [.dct es],e=>
  cases e;obtain⟨x,rfl,hx⟩:=E1 h;obtain⟨q,b,rfl,c,d⟩:=hx.dct R.gH;refine .inr ⟨q,b,rfl,c,λl hl=>?_⟩;obtain⟨R',f⟩:=R.eM hl (Av d);exact p _ G _ (j5.refl _) R' f
theorem gM (b:X.calm=h7)(c:X.mg "list"=g9) (d:iW X B [e] mr) (f:Gl X "list":=by rfl) (g:X.K=B.K:=by rfl) (h:i1 [e] X.env=(g8,eval e X.env)::i1 [] X.env:=by rfl) (a:(m4 pos (i1 [] X.env)).any (·.1)=g8:=by rfl):PD X B (.Call (.Name "list" p) [e] [] pos) (L6 fY mr):=
 eV (λξ=>(nO (X:=rz X ξ) (K:=B.K) g).or (mF b)) xS f c MI d (by decide) (by decide) h a
theorem ut:fR B (λxs H Q=>∃p a,xs=[.ref p]∧((T9 B.K H p a∧∀l,H l=g9→Q (.ref l) (upd H l (.tup a)))∨(bJ B.K H p a∧Q (.ref p) H))) kT:=by
 intro G H σ ρ xs ds w Q R h e p
 match ds,e with
 | [.lst ds],e=>
  cases e;obtain⟨x,rfl,hx⟩:=E1 h;obtain⟨q,a,rfl,b,c⟩:=hx.lst R.gH;refine⟨q,a,rfl,.inl ⟨b,λl hl=>?_⟩⟩;obtain⟨G',d,R',f⟩:=R.ub hl c;exact p _ G' _ d R' f
 | [.tup ds],e=>
  cases e;obtain⟨x,rfl,hx⟩:=E1 h;have g:=hx;rcases hx with hx| ⟨_,_,i⟩
  ·cases hx with
   |tup b j c=>exact⟨_,_,rfl,.inr ⟨R.gH.tup b,p _ G H (j5.refl _) R (.tup b j c)⟩⟩
  ·exact(show False from i).elim
theorem qx (b:X.mg "tuple"=g9) (c:iW X B [e] mr) (d:Gl X "tuple":=by rfl) (f:X.K=B.K:=by rfl) (g:i1 [e] X.env=(g8,eval e X.env)::i1 [] X.env:=by rfl) (a:(m4 pos (i1 [] X.env)).any (·.1)=g8:=by rfl):PD X B (.Call (.Name "tuple" p) [e] [] pos) (L6 kT mr):=
 eV (λξ=>mE (X:=rz X ξ) (K:=B.K) f) ut d b MF c (by decide) (by decide) g a
theorem xT:fR B (λxs H Q=>∃a kvs,xs=[.ref a]∧Rd H a (.dK kvs)∧∀p,H p=g9→Q (.ref p) (upd H p (.dK kvs))) By:=by
 intro G H σ ρ xs ds w Q R h e p
 match ds,e with
 | [.dct es],e=>
  cases e;obtain⟨x,rfl,hx⟩:=E1 h;obtain⟨q,b,rfl,c,d⟩:=hx.dct R.gH;refine⟨q,b,rfl,c,λl hl=>?_⟩;obtain⟨R',f⟩:=R.pM hl d;exact p _ G _ (j5.refl _) R' f
theorem HD (b:X.mg "dict"=g9) (c:iW X B [e] mr) (d:Gl X "dict":=by rfl) (f:i1 [e] X.env=(g8,eval e X.env)::i1 [] X.env:=by rfl) (a:(m4 pos (i1 [] X.env)).any (·.1)=g8:=by rfl):PD X B (.Call (.Name "dict" p) [e] [] pos) (L6 By mr):=
 eV (λξ=>qK) xT d b cF c (by decide) (by decide) f a
theorem AK:fR B (λxs H Q=>∃(p:Addr) (bs:List Bool),xs=[.ref p]∧T9 B.K H p (bs.map V.bl)∧Q (.bl (bs.all id)) H) uU:=by
 intro G H σ ρ xs ds w Q R h e p
 match ds,e with
 | [.lst ds],e=>
  obtain⟨x,rfl,hx⟩:=E1 h;have e:(cY ds).bind (λbs=>vB (bs.all id))=g7 w:=e;cases a:cY ds with
  |none=>rw[a]at e;cases e
  |some bs=>
   rw[a]at e;cases e;rw[mG a]at hx;obtain⟨q,d,rfl,b,c⟩:=hx.lst R.gH;rw[BU c]at b;exact⟨q,bs,rfl,b,p _ G H (j5.refl _) R (.bl _)⟩
theorem AJ:fR B (λxs H Q=>∃(p:Addr) (bs:List Bool),xs=[.ref p]∧T9 B.K H p (bs.map V.bl)∧Q (.bl (bs.any id)) H) yy:=by
 intro G H σ ρ xs ds w Q R h e p
 match ds,e with
 | [.lst ds],e=>
  obtain⟨x,rfl,hx⟩:=E1 h;have e:(cY ds).bind (λbs=>vB (bs.any id))=g7 w:=e;cases a:cY ds with
  |none=>rw[a]at e;cases e
  |some bs=>
   rw[a]at e;cases e;rw[mG a]at hx;obtain⟨q,d,rfl,b,c⟩:=hx.lst R.gH;rw[BU c]at b;exact⟨q,bs,rfl,b,p _ G H (j5.refl _) R (.bl _)⟩
theorem BF (b:X.calm=h7)(c:X.mg "all"=g9) (d:iW X B [e] mr) (f:Gl X "all":=by rfl) (g:X.K=B.K:=by rfl) (h:i1 [e] X.env=(g8,eval e X.env)::i1 [] X.env:=by rfl) (a:(m4 pos (i1 [] X.env)).any (·.1)=g8:=by rfl):PD X B (.Call (.Name "all" p) [e] [] pos) (L6 uU mr):=
 dM (λξ=>yx (X:=rz X ξ) (K:=B.K) g b) AK f c ML d (by decide) (by decide) h a
theorem BE (b:X.calm=h7)(c:X.mg "any"=g9) (d:iW X B [e] mr) (f:Gl X "any":=by rfl) (g:X.K=B.K:=by rfl) (h:i1 [e] X.env=(g8,eval e X.env)::i1 [] X.env:=by rfl) (a:(m4 pos (i1 [] X.env)).any (·.1)=g8:=by rfl):PD X B (.Call (.Name "any" p) [e] [] pos) (L6 yy mr):=
 dM (λξ=>yw (X:=rz X ξ) (K:=B.K) g b) AJ f c MK d (by decide) (by decide) h a
end
inductive SR where
 |nx (ρ:l9) |rt (w:W) (ρ:l9) |bk (ρ:l9) |ct (ρ:l9) |ex (x:vc) (ρ:l9)
noncomputable abbrev SM:=l9→Option SR
noncomputable def jX (B:Bs)(ξ:XP)(G:Hp)(c:Ends):SR→Prop
 |.nx b=>∀a G' H',j5 G G'→RS B G' H' a b→c.nx a H'
 |.bk b=>∀a G' H',j5 G G'→RS B G' H' a b→c.bk a H'
 |.ct b=>∀a G' H',j5 G G'→RS B G' H' a b→c.ct a H'
 |.rt w b=>∀v a G' H',j5 G G'→RS B G' H' a b→L4 B G' H' a b v w→c.rt v H'
 |.ex x b=>∀a G' H',j5 G G'→RS B G' H' a b→ξ x a H'
def qO (B:Bs)(ξ:XP)(G:Hp)(ρ:l9)(m:SM)(a:Ends):Prop:=∃r,m ρ=g7 r∧jX B ξ G a r
noncomputable def SD (B:Bs)(ξ:XP)(m:SM):TS:=λa σ H=>∃G ρ,RS B G H σ ρ∧qO B ξ G ρ m a
structure oX (X:Cx) (B:Bs) (st:Stmt) (m:SM):Prop where
 ap:∀ξ,PS (rz X ξ) st (SD B ξ m)
structure jw (X:Cx) (B:Bs) (st:List Stmt) (m:SM):Prop where
 ap:∀ξ,nQ (rz X ξ) st (SD B ξ m)
section
variable {X:Cx}{B:Bs}{ξ:XP}{G G' H:Hp}{σ:St}{ρ:l9}{Dn:Ends}{st:Stmt}{F3:List Stmt}{m1 m2:SM}{e c:Expr}{me:M W}{pos:Pos}
theorem jX.same {r:SR}(s:j5 G G')(h:jX B ξ G Dn r):jX B ξ G' Dn r:=by
 cases r with
 |nx b=>exact λa c d s2=>h a c d (s.trans s2)
 |bk b=>exact λa c d s2=>h a c d (s.trans s2)
 |ct b=>exact λa c d s2=>h a c d (s.trans s2)
 |rt w b=>exact λv a c d s2=>h v a c d (s.trans s2)
 |ex x b=>exact λa c d s2=>h a c d (s.trans s2)
noncomputable def l6 (m1 m2:SM):SM:=λρ=>match m1 ρ with
 |some (.nx a)=>m2 a
 |r=>r
theorem CS(h:m1 ρ=g7 (.nx a)):l6 m1 m2 ρ=m2 a:=by unfold l6;rw[h]
noncomputable def Z8:SM:=λρ=>g7 (.nx ρ)
theorem x3:jw X B [] Z8:=.mk λξ=>(De (X:=rz X ξ)).imp λDn σ H t=>by
 obtain⟨G,ρ,R,r,e,p⟩:=t;cases e;exact p σ G H (j5.refl _) R
theorem j7 (c:oX X B st m1)(d:jw X B F3 m2):jw X B (st::F3) (l6 m1 m2):=.mk λξ=>(rF (c.ap ξ) (d.ap ξ)).imp λDn σ H t=>by
 obtain⟨G,ρ,R,r,e,p⟩:=t;unfold l6 at e;cases h:m1 ρ with
 |none=>rw[h]at e;cases e
 |some b=>
  rw[h]at e;refine⟨G,ρ,R,b,h,?_⟩;cases b with
  |nx a=>exact λf G' H' s R'=>⟨G',a,R',r,e,p.same s⟩
  |bk a=>cases e;exact p
  |ct a=>cases e;exact p
  |rt w a=>cases e;exact p
  |ex x a=>cases e;exact p
theorem l4 (a:oX X B st m1):jw X B [st] m1:=.mk λξ=>aM (a.ap ξ)
noncomputable def C9 {α:Type}(m:M α)(f:α→SM):SM:=λρ=>match m ρ with
 |none=>g9
 |some (.ex x b)=>g7 (.ex x b)
 |some (.ok a b)=>f a b
theorem u8 {α:Type}{m:M α}{f:α→SM}{ρ b:l9}{a:α}(h:m ρ=g7 (.ok a b)):C9 m f ρ=f a b:=by unfold C9;rw[h]
theorem SD.step {α g:Type}{O2:Rel α g}{m:M α}{f:α→SM}(R:RS B G H σ ρ)(t:qO B ξ G ρ (C9 m f) Dn):TD O2 B ξ m σ H (λv H1=>∃c b a,j5 G c∧RS B c H1 σ b∧O2 B c H1 σ b v a∧qO B ξ c b (f a) Dn):=by
 obtain⟨r,e,p⟩:=t;unfold C9 at e;cases d:m ρ with
 |none=>rw[d]at e;cases e
 |some h=>
  rw[d]at e;cases h with
  |ex x b=>
   cases e;exact⟨G,ρ,R,_,d,λG' H' s R'=>p σ G' H' s R'⟩
  |ok a b=>exact⟨G,ρ,R,_,d,λv c H1 s i q=>⟨c,b,a,s,i,q,r,e,p.same s⟩⟩
theorem SD.IU {α g:Type}{O2:Rel α g}{m:M α}{f:α→SM}(R:RS B G H σ ρ)(t:qO B ξ G ρ (C9 m f) Dn):TD O2 B ξ m σ H (λv H1=>∃c b a,m ρ=g7 (.ok a b)∧j5 G c∧RS B c H1 σ b∧O2 B c H1 σ b v a∧qO B ξ c b (f a) Dn):=by
 obtain⟨r,e,p⟩:=t;unfold C9 at e;cases d:m ρ with
 |none=>rw[d]at e;cases e
 |some h=>
  rw[d]at e;cases h with
  |ex x b=>
   cases e;exact⟨G,ρ,R,_,d,λG' H' s R'=>p σ G' H' s R'⟩
  |ok a b=>exact⟨G,ρ,R,_,d,λv c H1 s i q=>⟨c,b,a,rfl,s,i,q,r,e,p.same s⟩⟩
noncomputable def M8 (m:M W):SM:=C9 m λ_=>Z8
theorem R8 (b:PD X B e me)(hs:B4 e g9 pos.line X.env=pure g8:=by rfl):oX X B (.Expr e pos) (M8 me):=.mk λξ=>(fx (X:=rz X ξ) (b.ap ξ) hs).imp λDn σ H t=>by
 obtain⟨G,ρ,R,t⟩:=t;refine(SD.step (O2:=C4) R t).mono λv H1 ⟨c,d,a,s1,f,g,r,e,p⟩=>?_;cases e;exact p σ c H1 (j5.refl _) f
noncomputable def Gh (w:W):SM:=λρ=>match w with
 |.val d=>g7 (.rt (.val d) ρ)
 |.own d=>g7 (.rt (.own d) ρ)
 |.slot i=>match ρ[i]? with
  |some (g7 (.sh d))=>g7 (.rt (.val d) ρ)
  |some (g7 (.ow g8 d))=>g7 (.rt (.own d) (ρ.set i g9))
  |_=>g9
noncomputable def retS (m:M W):SM:=C9 m Gh
theorem RS.forget(R:RS B G H σ ρ):RS B G H σ (ρ.set i g9):=by
 by_cases hi:i<ρ.length
 ·refine⟨R.hk,R.keep,R.g0,R.gH,R.gnew,R.dom,by simp[R.len],λj d c=>?_,λj l d c=>?_,λj k l d f g m a b=>?_,R.fz.hJ (by intro _ h;cases h),R.ob.hJ (by intro _ h;cases h<;>rfl) (by intro _ h;cases h)⟩
  ·by_cases z:i=j
   ·subst z;rw[List.getElem?_set_self hi]at c;cases c
   ·rw[List.getElem?_set_ne z]at c;exact R.sh j d c
  ·by_cases z:i=j
   ·subst z;rw[List.getElem?_set_self hi]at c;cases c
   ·rw[List.getElem?_set_ne z]at c;exact R.ow j l d c
  ·by_cases z:i=j
   ·subst z;rw[List.getElem?_set_self hi]at a;cases a
   ·by_cases e:i=k
    ·subst e;rw[List.getElem?_set_self hi]at b;cases b
    ·rw[List.getElem?_set_ne z]at a;rw[List.getElem?_set_ne e]at b;exact R.inj j k l d f g m a b
 ·rw[List.set_eq_of_length_le (by omega)];exact R
theorem u4 (m:PD X B e me):oX X B (.Return (g7 e) pos) (retS me):=.mk λξ=>(Gp (m.ap ξ)).imp λDn σ H t=>by
 obtain⟨G,ρ,R,t⟩:=t;refine(SD.step (O2:=C4) R t).mono λv H1 ⟨c,g,w,s1,b,a,r,e,p⟩=>?_;unfold Gh at e;cases w with
 |val d=>cases e;exact p v σ c H1 (j5.refl _) b a
 |own d=>cases e;exact p v σ c H1 (j5.refl _) b a
 |slot i=>
  have h':σ[i]?=g7 (g7 v):=a;simp only[]at e;split at e
  ·rename_i n q;cases e;obtain⟨x,a,r⟩:=b.sh i _ q;rw[h']at a;cases a;exact p v σ c H1 (j5.refl _) b r
  ·rename_i n q;cases e;obtain⟨k,a,s,y,u,o⟩:=b.ow i _ _ q;have hi:i<g.length:=(List.getElem?_eq_some_iff.mp q).1;rw[h']at a;cases a;refine p _ σ c H1 (j5.refl _) b.forget ⟨k,rfl,s,u,o,λj l A f z=>?_⟩;by_cases h:i=j
   ·subst h;rw[List.getElem?_set_self hi]at f;cases f
   ·rw[List.getElem?_set_ne h]at f;exact h (b.inj i j _ _ _ _ k q f h' z)
  ·cases e
noncomputable def W6 (c:M Bool)(a b:SM):SM:=C9 c λk=>if k=h7 then a else b
theorem D2 {e:M Bool}{a b:List Stmt}(i:qP X B c e)(j:jw X B a m1)(l:jw X B b m2):oX X B (.If c a b pos) (W6 e m1 m2):=.mk λξ=>(zG (i.ap ξ) (j.ap ξ) (l.ap ξ)).imp λDn σ H t=>by
 obtain⟨G,ρ,R,t⟩:=t;refine(SD.step (O2:=er) R t).mono λk H1 ⟨f,d,m,s1,g,n,h⟩=>?_;cases(show k=m from n);cases k with
 |true=>exact⟨f,d,g,h⟩
 |false=>exact⟨f,d,g,h⟩
theorem RS.rk(R:RS B G H σ ρ)(hi:i<ρ.length)(h:Rep B.K G v d):RS B G H (σ.set i (g7 v)) (ρ.set i (g7 (.sh d))):=by
 have hs:i<σ.length:=by rw[R.len];exact hi
 refine⟨R.hk,R.keep,R.g0,R.gH,R.gnew,R.dom,by simp[R.len],λj e c=>?_,λj l e c=>?_,λj k l e g m n a b=>?_,R.fz.ro (by intro _ h;cases h),R.ob.ro (by intro _ h;cases h<;>rfl) (by intro _ h;cases h)⟩
 ·by_cases z:i=j
  ·subst z;rw[List.getElem?_set_self hi]at c;cases c;exact⟨v,by rw[List.getElem?_set_self hs],h⟩
  ·rw[List.getElem?_set_ne z]at c⊢;exact R.sh j e c
 ·by_cases z:i=j
  ·subst z;rw[List.getElem?_set_self hi]at c;cases c
  ·rw[List.getElem?_set_ne z]at c⊢;exact R.ow j l e c
 ·by_cases z:i=j
  ·subst z;rw[List.getElem?_set_self hi]at a;cases a
  ·by_cases f:i=k
   ·subst f;rw[List.getElem?_set_self hi]at b;cases b
   ·rw[List.getElem?_set_ne z]at a⊢;rw[List.getElem?_set_ne f]at b⊢;exact R.inj j k l e g m n a b
theorem RS.IY(R:RS B G H σ ρ)(hi:i<ρ.length)(h:L4 B G H σ ρ v (.own d)):RS B G H (σ.set i (g7 v)) (ρ.set i (g7 (.ow g8 d))):=by
 obtain⟨p,rfl,g,m,o,ne⟩:=h;have hs:i<σ.length:=by rw[R.len];exact hi
 refine⟨R.hk,R.keep,R.g0,R.gH,R.gnew,R.dom,by simp[R.len],λj e c=>?_,λj l e c=>?_,λj k l e r s t a b=>?_,R.fz.ro (by intro _ h;cases h),R.ob.ro (by intro _ h;cases h<;>rfl) (by intro _ h;cases h)⟩
 ·by_cases z:i=j
  ·subst z;rw[List.getElem?_set_self hi]at c;cases c
  ·rw[List.getElem?_set_ne z]at c⊢;exact R.sh j e c
 ·by_cases z:i=j
  ·subst z;rw[List.getElem?_set_self hi]at c;cases c;refine⟨p,by rw[List.getElem?_set_self hs],g,?_,m,o⟩;cases u:B.HK p with
   |none=>rfl
   |some ob=>rw[R.hk p ob u]at m;cases m
  ·rw[List.getElem?_set_ne z]at c⊢;exact R.ow j l e c
 ·by_cases z:i=j
  ·by_cases f:i=k
   ·intro _ _;omega
   ·subst z;rw[List.getElem?_set_self hs,List.getElem?_set_ne f];rw[List.getElem?_set_ne f]at b;intro n q;cases n;exact absurd q (ne k r s b)
  ·by_cases f:i=k
   ·subst f;rw[List.getElem?_set_self hs,List.getElem?_set_ne z];rw[List.getElem?_set_ne z]at a;intro n q;cases q;exact absurd n (ne j l e a)
   ·rw[List.getElem?_set_ne z]at a⊢;rw[List.getElem?_set_ne f]at b⊢;exact R.inj j k l e r s t a b
noncomputable def eC (i:Nat)(w:W):SM:=λρ=>if i<ρ.length then match w with
 |.own d=>g7 (.nx (ρ.set i (g7 (.ow g8 d))))
 |w=>match Q1 w ρ with
  |some (.ok d a)=>g7 (.nx (a.set i (g7 (.sh d))))
  |_=>g9
 else g9
noncomputable def u1 (i:Nat)(m:M W):SM:=C9 m (eC i)
theorem Ar(h:Q1 w ρ=g7 (.ok d a)):a.length=ρ.length:=by
 unfold Q1 at h;cases w with
 |val d=>cases h;rfl
 |own d=>cases h;rfl
 |slot i=>
  simp only[]at h;split at h
  ·cases h;rfl
  ·cases h;simp
  ·cases h;rfl
  ·cases h
theorem ft(R:RS B G H σ ρ)(q:L4 B G H σ ρ v w)(e:eC i w ρ=g7 r):∃a G',r=.nx a∧j5 G G'∧RS B G' H (σ.set i (g7 v)) a:=by
 unfold eC at e;split at e
 ·rename_i hi;cases w with
  |own d=>cases e;exact⟨_,G,rfl,j5.refl _,R.IY hi q⟩
  |val d=>
   cases e;exact⟨_,G,rfl,j5.refl _,R.rk hi q⟩
  |slot j=>
   simp only[]at e;split at e
   ·rename_i d b hl;cases e;obtain⟨G',c,R',f⟩:=q.Q1 R hl;exact⟨_,G',rfl,c,R'.rk (by rw[Ar hl];exact hi) f⟩
   ·cases e
 ·cases e
theorem n5(b:PD X B e me)(hN:X.N.Nodup)(hi:X.N[i]?=g7 x:=by rfl)(hx:Loc X.env.scope x:=by first|exact Or.inl rfl|exact Or.inr rfl)(hs:B4 e (g7 (.Name x a)) pos.line X.env=pure g8:=by rfl)(c:X.fn x=h7∨X.env.scope.names.lookup x=g7 .local:=by first|exact .inl rfl|exact .inr rfl):
  oX X B (.Assign [.Name x a] e pos) (u1 i me):=.mk λξ=>(pH (X:=rz X ξ) hN hi hx (b.ap ξ) hs c).imp λDn σ H t=>by
 obtain⟨G,ρ,R,t⟩:=t;refine(SD.step (O2:=C4) R t).mono λv H1 ⟨k,d,w,s1,f,g,r,e,p⟩=>?_;obtain⟨h,G',rfl,j,R'⟩:=ft f g e;exact p _ G' H1 j R'
end
structure Gives (K:PySem.W.Frag) (Gs:Hp) (J:It) (ds:List D):Prop where
 go:∀(G H:Hp) (i:Nat),j5 Gs G→j5 G H→i<ds.length→J.go i H
 stop:∀(G H:Hp),j5 Gs G→j5 G H→J.stop ds.length H
 yld:∀(G H H':Hp) (i:Nat) (x:V),j5 Gs G→j5 G H→i<ds.length→J.yld i H x H'→H'=H∧∃d,ds[i]?=some d∧Rep K G x d
noncomputable def LV (B:Bs)(ξ:XP)(m:M (List D)):TI:=λσ H R=>∃G ρ r,RS B G H σ ρ∧m ρ=g7 r∧match r with
 |.ok ds a=>∀J G' H',j5 G G'→RS B G' H' σ a→Gives B.K G' J ds→R J H'
 |.ex x a=>∀G' H',j5 G G'→RS B G' H' σ a→ξ x σ H'
structure EE (X:Cx) (B:Bs) (tg iter:Expr) (m:M (List D)):Prop where
 ap:∀ξ,PI (rz X ξ) tg iter (LV B ξ m)
theorem _root_.L2.PI.imp(h:PI X tg e t)(i:∀σ H R,a σ H R→t σ H R):PI X tg e a:=λpins s σ H R I q=>h pins s σ H R I (i σ H R q)
noncomputable def LF:D→Option (List D)
 |.lst ds=>g7 ds
 |.tup ds=>g7 ds
 |.str cs=>g7 (cs.map λc=>D.str [c])
 |_=>g9
noncomputable def z6 (m:M W):M (List D):=M.bind m λw=>M.bind (Q1 w) λd=>λρ=>(LF d).map (R'.ok · ρ)
section
variable {X:Cx}{B:Bs}{tg e a b c:Expr}{ma mb mc:M W}{mr:M (List W)}{pos p:Pos}
noncomputable def LH (K:PySem.W.Frag)(b:TE):TI:=λσ H R=>b σ H λx H1=>(∃a xs,x=.ref a∧T9 K H1 a xs∧R (Kw K a) H1)∨(∃a xs,x=.ref a∧bJ K H1 a xs∧R (Ku K a) H1)∨∃y,x=.str y∧R (HQ y) H1
theorem Gv {l:Expr}{i:TE}{K:PySem.W.Frag}(k:X.K=K)(hl:PE X l i):PI X tg l (LH K i):=by
 subst k;intro pins s σ H R I h;refine F9 (hl pins s σ H _ I h) λv s1 ⟨x,H1,c,f,m⟩=>?_;have fp:∀b∈[s1.heap.objs.size],mL X pins H1 b:=λb n=>by
  have e:b=s1.heap.objs.size:=by simpa using n
  subst e;exact c.DQ (i8 _) (c.hok.fresh (i8 _))
 rcases m with⟨a,xs,rfl,g,q⟩ | ⟨a,xs,rfl,g,q⟩ | ⟨y,rfl,q⟩
 ·cases f;obtain⟨d,r,p,u⟩:=c.list g;refine L8 p.isList ?_;exact⟨s1.heap.objs.size,[s1.heap.objs.size],_,_,H1,rfl,c.kept (t':=s1.toks) λb o e=>Heap.get?_push_of_some _ e,wZ a _,⟨_,Heap.get?_push_size _ rfl,rfl,rfl⟩,fp,q⟩
 ·cases f;obtain⟨d,r,p,u⟩:=c.tuple g;refine wpAny_pyIter_tuple (show s1.heap.IsTuple a d.toArray from p) ?_;exact⟨s1.heap.objs.size,[s1.heap.objs.size],_,_,H1,rfl,c.kept (t':=s1.toks) λb o e=>Heap.get?_push_of_some _ e,tK a _,⟨_,Heap.get?_push_size _ rfl,rfl,rfl⟩,fp,q⟩
 ·obtain⟨t,rfl⟩:=f;cases j:y.cps.all (· < 128)
  ·exact wpAny_pyIter_wide j ⟨s1.heap.objs.size,[s1.heap.objs.size],_,HQ y,H1,rfl,c.kept (t':=s1.toks) λb o e=>Heap.get?_push_of_some _ e,wX y t _,⟨_,Heap.get?_push_size _ rfl,rfl,rfl⟩,fp,q⟩
  ·exact wpAny_pyIter_ascii j ⟨s1.heap.objs.size,[s1.heap.objs.size],_,HQ y,H1,rfl,c.kept (t':=s1.toks) λb o e=>Heap.get?_push_of_some _ e,wY y t _,⟨_,Heap.get?_push_size _ rfl,rfl,rfl⟩,fp,q⟩
theorem uA {K:PySem.W.Frag}{G:Hp}{a:Addr}{xs:List V}{ds:List D}(h:T9 K G a xs)(r:v5 K G xs ds):Gives K G (Kw K a) ds where
 go:=λG' H i s1 s2 hi=>by
  have hx:i<xs.length:=by rw[r.len];exact hi
  exact⟨xs,xs[i],(s1.trans s2).seq h,by simp[hx]⟩
 stop:=λG' H s1 s2=>⟨xs,(s1.trans s2).seq h,by rw[r.len];exact i8 _⟩
 yld:=λG' H H' i x s1 s2 hi y=>by
  obtain⟨rfl,y⟩:=y;have e:=y xs ((s1.trans s2).seq h);obtain⟨d,b,c⟩:=r.MW e;exact⟨rfl,d,b,c.same s1⟩
theorem xW {K:PySem.W.Frag}{G:Hp}{a:Addr}{xs:List V}{ds:List D}(h:bJ K G a xs)(r:v5 K G xs ds):Gives K G (Ku K a) ds where
 go:=λG' H i s1 s2 hi=>by
  have hx:i<xs.length:=by rw[r.len];exact hi
  exact⟨xs,xs[i],(s1.trans s2).tup h,by simp[hx]⟩
 stop:=λG' H s1 s2=>⟨xs,(s1.trans s2).tup h,by rw[r.len];exact i8 _⟩
 yld:=λG' H H' i x s1 s2 hi y=>by
  obtain⟨rfl,y⟩:=y;have e:=y xs ((s1.trans s2).tup h);obtain⟨d,b,c⟩:=r.MW e;exact⟨rfl,d,b,c.same s1⟩
theorem xX {K:PySem.W.Frag}{G:Hp}(cs:List Nat):Gives K G (HQ (tx cs)) (cs.map λc=>D.str [c]) where
 go:=λG' H i s1 s2 hi=>by
  show i<(tx cs).cps.size;simpa using hi
 stop:=λG' H s1 s2=>by
  show(tx cs).cps.size≤_;simp
 yld:=λG' H H' i x s1 s2 hi y=>by
  obtain⟨rfl,c,b,rfl⟩:=y;refine⟨rfl,.str [c],?_,.str [c]⟩;rw[List.getElem?_map];have a:cs[i]?=g7 c:=by simpa using b
  rw[a];rfl
theorem su {K:PySem.W.Frag}{G:Hp}(lo:Int)(n:Nat):Gives K G (Kv lo n) ((List.range n).map λk=>D.int (lo+((k:Nat):Int))) where
 go:=λG' H i s1 s2 hi=>by
  show i<n;simpa using hi
 stop:=λG' H s1 s2=>by
  show n≤_;simp
 yld:=λG' H H' i x s1 s2 hi y=>by
  obtain⟨rfl,rfl⟩:=y;have a:i<n:=by simpa using hi
  refine⟨rfl,.int (lo+i),?_,.int _⟩;rw[List.getElem?_map,List.getElem?_range a];rfl
theorem D1 (k:PD X B e ma)(m:X.K=B.K:=by rfl):EE X B tg e (z6 ma):=.mk λξ=>(Gv (X:=rz X ξ) (K:=B.K) m (k.ap ξ)).imp λσ H n t=>by
 obtain⟨G,ρ,r,R,e,p⟩:=t;have conv:dP (O2:=(λ(B:Bs) (G H:Hp) (σ:St) (ρ:l9) (J:It) (ds:List D)=>Gives B.K G J ds)) B ξ G ρ (z6 ma) σ (λJ H=>n J H):=by
  refine⟨r,e,?_⟩;cases r with
  |ok ds c=>exact λJ G' H' s R' g=>p J G' H' s R' g
  |ex x c=>exact p
 refine(TD.bind (O2:=C4) R conv).mono λx H1 ⟨E,o,w,s1,q,u,v⟩=>?_;obtain⟨d,y,z,F,b,f⟩:=v.step λr h=>fB h;obtain⟨i,s2,R2,A⟩:=u.Q1 q z;cases hd:LF d with
 |none=>rw[hd]at b;cases b
 |some ds=>
  rw[hd]at b;cases b;cases A with
  | @lst a xs j h l r=>
   cases hd;refine .inl ⟨a,xs,rfl,R2.gH.seq h,f (Kw B.K a) i H1 s2 R2 ?_⟩;exact uA h ⟨l,r⟩
  | @tup a xs j h l r=>
   cases hd;exact .inr (.inl ⟨a,xs,rfl,R2.gH.tup h,f (Ku B.K a) i H1 s2 R2 (xW h ⟨l,r⟩)⟩)
  |str cs=>
   cases hd;exact .inr (.inr ⟨tx cs,rfl,f (HQ (tx cs)) i H1 s2 R2 (xX cs)⟩)
  |_=>cases hd
end
noncomputable def ints1:List D→Option (List D)
 | [.int n]=>cf (-(2 ^ 62)≤n∧n<2 ^ 62) (g7 ((List.range n.toNat).map λk=>D.int (0+((k:Nat):Int))))
 |_=>g9
noncomputable def kh (f:List D→Option (List D))(m:M (List W)):M (List D):=M.bind m λa=>λρ=>match bz a ρ with
 |some ds=>(f ds).map (R'.ok · ρ)
 |none=>g9
noncomputable def Jc:Rel (List D) It:=λB G H σ ρ J ds=>Gives B.K G J ds
section
variable {X:Cx}{B:Bs}{tg e a b c:Expr}{ma mb mc:M W}{mr:M (List W)}{pos p:Pos}
theorem FK {ξ:XP}{m:M (List D)}{σ:St}{H:Hp}{b:It→Hp→Prop}(t:LV B ξ m σ H b):∃G ρ,RS B G H σ ρ∧dP Jc B ξ G ρ m σ b:=by
 obtain⟨G,ρ,r,R,e,p⟩:=t;refine⟨G,ρ,R,r,e,?_⟩;cases r with
 |ok ds a=>exact λJ G' H' s R' g=>p J G' H' s R' g
 |ex x a=>exact p
theorem Da {ξ:XP}{f:List D→Option (List D)}{a:List W}{G:Hp}{ρ:l9}{σ:St}{c:It→Hp→Prop}(t:dP Jc B ξ G ρ (λρ=>match bz a ρ with|some ds=>(f ds).map (R'.ok · ρ) |none=>g9) σ c):∃ds es,bz a ρ=g7 ds∧f ds=g7 es∧∀J G' H',j5 G G'→RS B G' H' σ ρ→Gives B.K G' J es→c J H':=by
 obtain⟨r,e,p⟩:=t;cases hx:bz a ρ with
 |none=>simp only[hx]at e;cases e
 |some ds=>
  simp only[hx]at e;cases b:f ds with
  |none=>rw[b]at e;cases e
  |some es=>
   rw[b]at e;cases e;exact⟨ds,es,rfl,b,p⟩
theorem W7 (d:X.mg "range"=g9) (e:iW X B [a] mr) (f:Gl X "range":=by rfl) (hs:i1 [a] X.env=[(g8,eval a X.env)]:=by rfl):EE X B tg (.Call (.Name "range" p) [a] [] pos) (kh ints1 mr):=.mk λξ=>
 (xu (X:=rz X ξ) f d (e.ap ξ) hs).imp λσ H m t=>by
  obtain⟨G,ρ,R,t⟩:=FK t;refine(TD.bind (O2:=O5) R t).mono λvs H1 ⟨g,i,o,s1,c,j,k⟩=>?_;obtain⟨ds,es,l,b,p⟩:=Da k;have h:=fF c j l
  match ds,b with
  | [.int n],b=>
   obtain⟨z,b⟩:=t6 b;cases b;obtain⟨x,rfl,hx⟩:=E1 h;exact⟨n,by rw[hx.int],z.1,z.2,p _ g H1 (j5.refl _) c (su 0 n.toNat)⟩
end
noncomputable abbrev FT:=D→l9→Option l9
noncomputable def NG (B:Bs)(f:FT):TG:=λv σ H c=>∃G ρ d a,RS B G H σ ρ∧Rep B.K G v d∧f d ρ=g7 a∧∀b G' H',j5 G G'→RS B G' H' b a→c b H'
structure Na (X:Cx) (B:Bs) (tg:Expr) (f:FT):Prop where
 ap:∀ξ,PG (rz X ξ) tg (NG B f)
theorem _root_.L2.PG.imp(h:PG X tg t)(i:∀v σ H R,a v σ H R→t v σ H R):PG X tg a:=λpins s σ H v u Q I r q=>h pins s σ H v u Q I r (i v σ H _ q)
noncomputable def C3 (i:Nat):FT:=λd ρ=>if i<ρ.length then g7 (ρ.set i (g7 (.sh d)))else g9
section
variable {X:Cx}{B:Bs}{tg e:Expr}{pos:Pos}
theorem K9(hN:X.N.Nodup)(hi:X.N[i]?=g7 x:=by rfl)(hx:Loc X.env.scope x:=by first|exact Or.inl rfl|exact Or.inr rfl)(a:X.fn x=h7∨X.env.scope.names.lookup x=g7 .local:=by first|exact .inl rfl|exact .inr rfl):Na X B (.Name x pos) (C3 i):=.mk λξ=>
 (kF (X:=rz X ξ) hN hi hx a).imp λv σ H c t=>by
  obtain⟨G,ρ,d,b,R,h,e,p⟩:=t;unfold C3 at e;split at e
  ·cases e;exact p _ G H (j5.refl _) (R.rk ‹_› h)
  ·cases e
end
noncomputable def forL (tg:FT)(b:SM):List D→SM
 | []=>λρ=>g7 (.nx ρ)
 |d::ds=>λρ=>match tg d ρ with
  |none=>g9
  |some c=>match b c with
   |some (.nx a)=>forL tg b ds a
   |some (.ct a)=>forL tg b ds a
   |some (.bk a)=>g7 (.nx a)
   |r=>r
noncomputable def aa (a:M (List D))(tg:FT)(b:SM):SM:=C9 a λds=>forL tg b ds
theorem gw {X:Cx}:KJ (model X.prog X.w) X.A X.env (XE X ξ):=by
 rintro e s' ⟨x,pins,σ,H,I,⟨a,cls,dct,rfl,ix,oa,fl,F⟩,q⟩
 have c:Inv X [] σ H s':=I.Y7 λp d=>absurd d (by simp);refine noted c F oa fl λh' T f t b=>?_;obtain⟨m,vs,g,ts,h,n,i,hd,j,r⟩:=id t;refine wpAny_bind (x2 h hd j ?_);rw[if_neg (show¬((Value.ref T==Value.none)=h7)from by simp)];rw[F.fr];exact marked (g7 X.env.locals) f F t b λo k l=>⟨x,[],σ,H,k,⟨a,cls,dct,rfl,ix,oa,.inr ⟨T,_,l,b,.inr rfl⟩,F⟩,q⟩
section
variable {X:Cx}{B:Bs}{tg iter:Expr}{body:List Stmt}{mi:M (List D)}{f:FT}{mb:SM}{pos:Pos}
theorem V4 (hi:EE X B tg iter mi)(P:Na X B tg f)(Q:jw X B body mb)(S:X.calm=h7:=by rfl)(hs:∀x,foldedSetIterable iter X.env x=pure x:=by intro _;rfl):oX X B (.For tg iter body [] pos) (aa mi f mb):=.mk λξ=>
 (zH (X:=rz X ξ) gw S (hi.ap ξ) (P.ap ξ) (Q.ap ξ) hs).imp λN σ H t=>by
  obtain⟨G,ρ,R,r,e,p⟩:=t;unfold aa C9 at e;cases A:mi ρ with
  |none=>rw[A]at e;cases e
  |some T=>
   rw[A]at e;cases T with
   |ex x u=>
    cases e;exact⟨G,ρ,_,R,A,λG' H' s R'=>p σ G' H' s R'⟩
   |ok ds u=>
    refine⟨G,ρ,_,R,A,λJ Gs H1 s1 U F=>?_⟩;refine⟨λi m σ H=>∃G ρ r,m=ds.length-i∧i≤ds.length∧j5 Gs G∧RS B G H σ ρ∧forL f mb (ds.drop i) ρ=g7 r∧jX B ξ G N r,⟨ds.length,Gs,u,r,by simp,u3 _,j5.refl _,U,by simpa using e,p.same s1⟩,?_⟩
    rintro i m σ2 H2 ⟨G2,A5,r2,rfl,hle,s2,R2,e2,p2⟩
    by_cases c:i<ds.length
    ·have Y:ds.drop i=ds[i]::ds.drop (i+1):=List.drop_eq_getElem_cons c;rw[Y]at e2;unfold forL at e2;cases I:f ds[i] A5 with
     |none=>rw[I]at e2;cases e2
     |some l=>
      rw[I]at e2;refine .inr ⟨F.go G2 H2 i s2 R2.gH c,λz H'=>∃G' h E,j5 Gs G'∧RS B G' H' z h∧forL f mb (ds.drop (i+1)) h=g7 E∧jX B ξ G' N E,λz H' ⟨G',h,E,Z,a2,a3,a4⟩=>⟨ds.length-(i+1),by omega,G',h,E,rfl,c,Z,a2,a3,a4⟩,λx H' y=>?_⟩;obtain⟨rfl,d,hd,rx⟩:=F.yld G2 H2 H' i x s2 R2.gH c y;have L:d=ds[i]:=by
       rw[List.getElem?_eq_getElem c]at hd;exact(Option.some.inj hd).symm
      subst L;refine⟨G2,A5,_,l,R2,rx,I,λa0 G3 H3 n R3=>?_⟩;cases o:mb l with
      |none=>simp only[o]at e2;cases e2
      |some O=>
       simp only[o]at e2;refine⟨G3,l,R3,O,o,?_⟩;cases O with
       |nx b=>exact λa j q g k=>⟨j,b,r2,(s2.trans n).trans g,k,e2,p2.same (n.trans g)⟩
       |ct b=>exact λa j q g k=>⟨j,b,r2,(s2.trans n).trans g,k,e2,p2.same (n.trans g)⟩
       |bk b=>
        cases e2;exact λa j q g k=>p2 a j q (n.trans g) k
       |rt w b=>
        cases e2;exact λv a j q g k q4=>p2 v a j q (n.trans g) k q4
       |ex x b=>
        cases e2;exact λa j q g k=>p2 a j q (n.trans g) k
    ·have ei:i=ds.length:=by omega
     subst ei;rw[List.drop_length]at e2;cases e2;exact .inl ⟨F.stop G2 H2 s2 R2.gH,p2 σ2 G2 H2 (j5.refl _) R2⟩
end
noncomputable def F0 (c:M Bool)(b:SM):Nat→SM
 |0=>λ_=>g9
 |n+1=>C9 c λk=>if k=h7 then(λρ=>match b ρ with
   |some (.nx a)=>F0 c b n a
   |some (.ct a)=>F0 c b n a
   |some (.bk a)=>g7 (.nx a)
   |r=>r)else Z8
section
variable {X:Cx}{B:Bs}{c:Expr}{body:List Stmt}{mc:M Bool}{mb:SM}{pos:Pos}
theorem CU (n:Nat)(I:qP X B c mc)(J:jw X B body mb):oX X B (.While c body [] pos) (F0 mc mb n):=.mk λξ=>
 (zF (X:=rz X ξ) gw (I.ap ξ) (J.ap ξ)).imp λy σ H t=>by
  obtain⟨G,ρ,R,r,e,p⟩:=t;refine⟨λm σ H=>∃G ρ r,RS B G H σ ρ∧F0 mc mb m ρ=g7 r∧jX B ξ G y r,⟨n,G,ρ,r,R,e,p⟩,?_⟩
  rintro m σ2 H2 ⟨G2,A5,r2,R2,e2,p2⟩
  cases m with
  |zero=>cases e2
  |succ m=>
   unfold F0 at e2;refine(SD.step (O2:=er) R2 ⟨r2,e2,p2⟩).mono λk L ⟨z,q,N,U,A,O,E,d,o⟩=>?_;cases(show k=N from O);cases k with
   |false=>
    cases d;exact o σ2 z L (j5.refl _) A
   |true=>
    rw[if_pos rfl]at d;refine⟨λs H'=>∃G' f u,RS B G' H' s f∧F0 mc mb m f=g7 u∧jX B ξ G' y u,λs H' ⟨G',f,u,P,Q,S⟩=>⟨m,u7 _,G',f,u,P,Q,S⟩,?_⟩;cases j:mb q with
    |none=>simp only[j]at d;cases d
    |some F=>
     simp only[j]at d;refine⟨z,q,A,F,j,?_⟩;cases F with
     |nx b=>exact λa g l h i=>⟨g,b,E,i,d,o.same h⟩
     |ct b=>exact λa g l h i=>⟨g,b,E,i,d,o.same h⟩
     |bk b=>cases d;exact λa g l h i=>o a g l h i
     |rt w b=>cases d;exact λv a g l h i T=>o v a g l h i T
     |ex x b=>cases d;exact λa g l h i=>o a g l h i
end
noncomputable def KW (T:String):D→Bool
 |.str _=>T == "str"
 |.lst _=>T == "list"
 |.dct _=>T == "dict"
 |_=>g8
noncomputable def Cr (T:String)(w:W):M Unit:=λρ=>match getD w ρ with
 |some d=>if KW T d=h7 then g7 (.ok () ρ)else g9
 |none=>g9
theorem js(h:Cr T w ρ=g7 r):r=.ok () ρ∧∃d,getD w ρ=g7 d∧KW T d=h7:=by
 unfold Cr at h;split at h
 ·rename_i d hd;split at h
  ·cases h;exact⟨rfl,d,hd,‹_›⟩
  ·cases h
 ·cases h
theorem FH(R:RS B G H σ ρ)(h:T3 B.K G H x d)(t:KW T d=h7)(a:T≠"dict":=by decide):II B.K T x H:=by
 cases d with
 |str cs=>rw[h.str];exact eq_of_beq t
 |lst ds=>
  obtain⟨p,xs,rfl,b,c⟩:=h.lst R.gH;exact .inl ⟨eq_of_beq t,xs,b⟩
 |dct es=>
  exact absurd (eq_of_beq t) a
 |_=>cases t
theorem lF(h:h8 i ρ=g7 (.ok w a)):w=.slot i∧a=ρ:=by
 unfold h8 at h;split at h
 ·cases h;exact⟨rfl,rfl⟩
 ·cases h
noncomputable def iQ (i:Nat)(d:D):M W:=λρ=>match ρ[i]? with
 |some (g7 (.ow l (.lst ds)))=>cf (small ds.length) (g7 (.ok (.val .z5) (ρ.set i (g7 (.ow l (.lst (ds++[d])))))))
 |_=>g9
noncomputable def N7 (i:Nat)(m:M (List W)):M W:=M.bind (h8 i) λx=>M.bind (Cr "list" x) λ_=>M.bind m λa=>match a with
 | [w]=>M.bind (Q1 w) (iQ i)
 |_=>λ_=>g9
section
variable {X:Cx}{B:Bs}{o e:Expr}{es:List Expr}{mr:M (List W)}{apos cpos NM:Pos}{x:Str}
theorem slot_of {G H:Hp}{σ:St}{ρ:l9}{i:Nat}{l:Bool}{d:D}(R:RS B G H σ ρ)(h:ρ[i]?=g7 (g7 (.ow l d))){v:V}(b:σ[i]?=g7 (g7 v)):∃p,v=.ref p∧G p=g9∧C6 B.K G H p d:=by
 obtain⟨p,a,c,f,g,e⟩:=R.ow i l d h;rw[b]at a;cases a;exact⟨p,rfl,c,e⟩
theorem X2 (i:Nat)(E:PD X B o (h8 i))(I:iW X B [e] mr)
  (c:v7 o "append" X.env (eval o X.env)=eval o X.env:=by rfl)
  (j:((m4 cpos (i1 [e] X.env)).all (λx=>!x.1)&&(y7 cpos (n7 [] X.env)).all (λx=>x.1.isSome)
   && decide (([e]:List Expr).length+([]:List Keyword).length+(if([]:List Keyword).isEmpty then 0 else 1)<30))=h7:=by rfl)
  (f:(apos.endLine==cpos.line)=h7:=by rfl) (hs:i1 [e] X.env=(g8,eval e X.env)::i1 [] X.env:=by rfl) (b:(m4 cpos (i1 [] X.env)).any (·.1)=g8:=by rfl) (J:X.K=B.K:=by rfl):
  PD X B (.Call (.Attribute o "append" apos) [e] [] cpos) (N7 i mr):=.mk λξ=>
 (rL (X:=rz X ξ) PySem.F.plainAttrs_list PySem.F.slot_list_append PySem.F.type_list_append cR (E.ap ξ) (I.ap ξ) c j f hs b).imp λσ H Q t=>by
  obtain⟨G,ρ,R,t⟩:=t;refine(TD.Fp (O2:=C4) R t).mono λx H1 ⟨G1,L,w,a,s1,k,s,N⟩=>?_;obtain⟨rfl,rfl⟩:=lF a;have y:σ[i]?=g7 (g7 x):=s;obtain⟨u,m,O,P⟩:=N.step λr h=>⟨(),_,(js h).1⟩;obtain⟨S,d,hd,ty⟩:=js O;cases S;refine⟨by show II X.K "list" x H1;rw[J];exact FH k (s.get k hd) ty,?_⟩;refine(TD.bind (O2:=O5) k P).mono λvs H2 ⟨G2,m,T,s2,R2,n,q⟩=>?_
  match T,n,q with
  | [],_,⟨r,a,_⟩=>cases a
  |_::_::_,_,⟨r,a,_⟩=>cases a
  | [w],n,q=>
   cases n with
   | @cons v _ vs _ h t=>
    cases t;obtain⟨dv,U,Y,r,a,p⟩:=q.step λr h=>fB h;obtain⟨Z,s3,z,rv⟩:=h.1.Q1 R2 Y;unfold iQ at a;split at a
    ·rename_i l ds hi;obtain⟨hz,a⟩:=t6 a;cases a;obtain⟨pp,rfl,g,xs,hx,A⟩:=slot_of z hi y;refine⟨pp,xs,v,rfl,rfl,hx,?_,?_⟩
     ·rw[A.len,v8];unfold small at hz;omega
     ·exact p .z5 Z _ s3 (z.write hi y ⟨xs++[v],l5,A.append (.one rv)⟩) .z5
    ·cases a
end
inductive FR where
 |ret (w:W) (fin:List D) |exc (x:vc) (fin:List D)
inductive W0 (K:PySem.W.Frag) (G H:Hp):List Bool→List V→List D→List Addr→Prop
 |nil:W0 K G H [] [] [] []
 |sh {v:V} {d:D} {ms:List Bool} {vs:List V} {ds:List D} {ps:List Addr} (h:Rep K G v d) (r:W0 K G H ms vs ds ps):W0 K G H (false::ms) (v::vs) (d::ds) ps
 |ln {p:Addr} {d:D} {ms:List Bool} {vs:List V} {ds:List D} {ps:List Addr} (g:G p=none) (o:C6 K G H p d) (n:p∉ps) (r:W0 K G H ms vs ds ps):W0 K G H (true::ms) (.ref p::vs) (d::ds) (p::ps)
noncomputable def minus (H:Hp)(ps:List Addr):Hp:=λb=>if b∈ps then g9 else H b
theorem bt(h:b∈ps):minus H ps b=g9:=if_pos h
theorem P9(h:b∉ps):minus H ps b=H b:=if_neg h
theorem O6 (H:Hp)(ps:List Addr):j5 (minus H ps) H:=λb o e=>by
 unfold minus at e;split at e
 ·cases e
 ·exact e
structure After (K:PySem.W.Frag) (G H:Hp) (ps:List Addr) (G' H':Hp) (fin:List D):Prop where
 keep:j5 (minus H ps) H'
 gg:j5 G G'
 gH:j5 G' H'
 gnew:∀p o,G' p=some o→G p=some o∨H p=none
 dom:∀p,H' p=none→H p=none
 lent:Paired (λp d=>G' p=none∧C6 K G' H' p d) ps fin
noncomputable def mJ (K:PySem.W.Frag)(H G' H':Hp)(v:V):W→Prop
 |.val d=>Rep K G' v d
 |.own d=>∃p,v=.ref p∧G' p=g9∧H p=g9∧C6 K G' H' p d
 |.slot _=>False
noncomputable def U0 (K:PySem.W.Frag)(ms:List Bool)(a:List D→Option FR):Sp:=λvs H Q E=>∃G ds ps r,j5 G H∧W0 K G H ms vs ds ps∧a ds=g7 r∧match r with
 |.ret w fin=>∀v G' H',After K G H ps G' H' fin→mJ K H G' H' v w→Q v H'
 |.exc _ _=>False
theorem U0.imp {K:PySem.W.Frag}{ms:List Bool}{f e:List D→Option FR}(h:∀ds r,f ds=g7 r→e ds=g7 r):∀vs H Q E,U0 K ms f vs H Q E→U0 K ms e vs H Q E:=by
 rintro vs H Q E ⟨G,ds,ps,r,a,b,c,d⟩
 exact⟨G,ds,ps,r,a,b,h ds r c,d⟩
theorem W0.len {K:PySem.W.Frag}{G H:Hp}:∀{ms:List Bool} {vs:List V} {ds:List D} {ps:List Addr},W0 K G H ms vs ds ps→vs.length=ms.length∧ds.length=ms.length
 |_,_,_,_,.nil=>⟨rfl,rfl⟩
 |_,_,_,_,.sh _ r=>by obtain⟨a,b⟩:=r.len;exact⟨by simp[a],by simp[b]⟩
 |_,_,_,_,.ln _ _ _ r=>by obtain⟨a,b⟩:=r.len;exact⟨by simp[a],by simp[b]⟩
noncomputable def kL (m:Bool)(d:D):Option C:=g7 (if m=h7 then .ow h7 d else .sh d)
noncomputable def cells:List Bool→List D→l9
 |m::ms,d::ds=>kL m d::cells ms ds
 |_,_=>[]
noncomputable def G8 (n:Nat)(ms:List Bool)(ds:List D):l9:=cells ms ds++List.replicate (n-ds.length) g9
noncomputable def bC:List Bool→l9→Option (List D)
 | [],_=>g7 []
 |false::ms,_::ρ=>bC ms ρ
 |true::ms,g7 (.ow h7 d)::ρ=>(bC ms ρ).map (d::·)
 |_,_=>g9
noncomputable def rN (ms:List Bool):SR→Option FR
 |.nx ρ=>(bC ms ρ).map (FR.ret (.val .z5))
 |.rt (.slot _) _=>g9
 |.rt w ρ=>(bC ms ρ).map (FR.ret w)
 |.ex x ρ=>(bC ms ρ).map (FR.exc x)
 |_=>g9
noncomputable def N8 (m:SM)(n:Nat)(ms:List Bool)(ds:List D):Option FR:=(m (G8 n ms ds)).bind (rN ms)
noncomputable def O8:List Bool→List Addr→Nat→Option Addr
 | [],_,_=>g9
 |false::_,_,0=>g9
 |false::ms,ps,i+1=>O8 ms ps i
 |true::_,p::_,0=>g7 p
 |true::ms,_::ps,i+1=>O8 ms ps i
 |true::_,[],_=>g9
section
variable {K:PySem.W.Frag}{G H:Hp}
theorem oN:∀{ms:List Bool} {ds:List D},ds.length=ms.length→(cells ms ds).length=ms.length
 | [],[],_=>rfl
 | [],_::_,h=>by simp at h
 |_::_,[],h=>by simp at h
 |m::ms,d::ds,h=>by
  show(cells ms ds).length+1=ms.length+1;rw[oN (by simpa using h)]
theorem T8:∀{ms:List Bool} {vs:List V} {ds:List D} {ps:List Addr} {i:Nat} {c:C},W0 K G H ms vs ds ps→(cells ms ds)[i]?=g7 (g7 c)→
  ∃v,vs[i]?=g7 v∧((∃d,c=.sh d∧Rep K G v d)∨∃p d,c=.ow h7 d∧v=.ref p∧p∈ps∧O8 ms ps i=g7 p∧G p=g9∧C6 K G H p d)
 |_,_,_,_,i,c,.nil,e=>by simp[cells]at e
 |_,_,_,_,0,c,.sh h r,e=>by
  simp[cells,kL]at e;subst e;exact⟨_,rfl,.inl ⟨_,rfl,h⟩⟩
 |_,_,_,_,i+1,c,.sh h r,e=>by
  obtain⟨v,j,f⟩:=T8 (i:=i) r (by simpa[cells]using e);exact⟨v,by simpa using j,f⟩
 |_,_,_,_,0,c,.ln g o n r,e=>by
  simp[cells,kL]at e;subst e;exact⟨_,rfl,.inr ⟨_,_,rfl,rfl,List.mem_cons_self,rfl,g,o⟩⟩
 |_,_,_,_,i+1,c,.ln g o n r,e=>by
  obtain⟨v,j,f⟩:=T8 (i:=i) r (by simpa[cells]using e);refine⟨v,by simpa using j,?_⟩;rcases f with f| ⟨p,d,a,b,k,l,m,q⟩
  ·exact .inl f
  ·exact .inr ⟨p,d,a,b,List.mem_cons_of_mem _ k,l,m,q⟩
theorem Ao(r:W0 K G H ms vs ds ps):∀{i j:Nat} {p:Addr},O8 ms ps i=g7 p→O8 ms ps j=g7 p→i=j:=by
 have mem:∀{ms:List Bool} {ps:List Addr} {i:Nat} {p:Addr},O8 ms ps i=g7 p→p∈ps:=by
  intro ms;induction ms with
  |nil=>intro ps i p h;cases h
  |cons m ms ih=>
   intro ps i p h;cases m with
   |false=>
    cases i with
    |zero=>cases h
    |succ i=>exact ih (i:=i) h
   |true=>
    cases ps with
    |nil=>cases i<;>cases h
    |cons q ps=>
     cases i with
     |zero=>cases h;exact List.mem_cons_self
     |succ i=>exact List.mem_cons_of_mem _ (ih (i:=i) h)
 induction r with
 |nil=>intro i j p h;cases h
 |sh h r ih=>
  intro i j p a b;cases i with
  |zero=>cases a
  |succ i=>
   cases j with
   |zero=>cases b
   |succ j=>rw[ih (i:=i) (j:=j) a b]
 |ln g o n r ih=>
  intro i j p a b;cases i with
  |zero=>
   cases a;cases j with
   |zero=>rfl
   |succ j=>exact absurd (mem (i:=j) b) n
  |succ i=>
   cases j with
   |zero=>cases b;exact absurd (mem (i:=i) a) n
   |succ j=>rw[ih (i:=i) (j:=j) a b]
theorem V3 {N:List Str}{vs:List V}{i:Nat}{v:V}(h:vs[i]?=g7 v):(start N vs)[i]?=g7 (g7 v):=by
 unfold L2.start;have hi:i<vs.length:=(List.getElem?_eq_some_iff.mp h).1;rw[List.getElem?_append_left (by simpa using hi),List.getElem?_map,h];rfl
theorem M3 {n:Nat}{ms:List Bool}{ds:List D}{i:Nat}{c:C}(h:(G8 n ms ds)[i]?=g7 (g7 c)):(cells ms ds)[i]?=g7 (g7 c):=by
 unfold G8 at h;by_cases hi:i<(cells ms ds).length
 ·rw[List.getElem?_append_left hi]at h;exact h
 ·rw[List.getElem?_append_right (by omega),List.getElem?_replicate]at h;split at h<;>cases h
theorem ij {N:List Str}(g:j5 G H)(r:W0 K G H ms vs ds ps)(hl:vs.length≤N.length):
  RS ⟨K,H,minus H ps,G,O8 ms ps,g9⟩ G H (start N vs) (G8 N.length ms ds):=by
 obtain⟨I,z⟩:=r.len;refine⟨O6 H ps,O6 H ps,j5.refl _,g,λp o e=>.inl e,λp e=>e,?_,λi d e=>?_,λi l d e=>?_,λi j l d k e p a b=>?_,λi es e=>?_,λi l fds e=>?_,λi fds e=>?_⟩
 ·unfold L2.start G8;rw[List.length_append,List.length_append,List.length_map,List.length_replicate,List.length_replicate,oN z];omega
 ·obtain⟨v,n,c⟩:=T8 r (M3 e);rcases c with⟨f,q,h⟩ | ⟨p,f,q,_⟩
  ·cases q;exact⟨v,V3 n,h⟩
  ·cases q
 ·obtain⟨v,n,c⟩:=T8 r (M3 e);rcases c with⟨f,q,h⟩ | ⟨p,f,q,rfl,m,s,gp,o⟩
  ·cases q
  ·cases q;exact⟨p,V3 n,gp,bt m,.inl s,o⟩
 ·obtain⟨v,n,c⟩:=T8 r (M3 a);obtain⟨J,A,B⟩:=T8 r (M3 b);rcases c with⟨f,q,h⟩ | ⟨t,f,q,rfl,m,s,gp,o⟩
  ·cases q
  rcases B with⟨E,w,h⟩ | ⟨L,E,w,rfl,O,u,F,P⟩
  ·cases w
  intro x y;rw[V3 n]at x;rw[V3 A]at y;cases x;cases y;exact Ao r s u
 ·obtain⟨v,n,c⟩:=T8 r (M3 e);rcases c with⟨f,q,h⟩ | ⟨t,f,q,_⟩<;>cases q
 ·obtain⟨v,n,c⟩:=T8 r (M3 e);rcases c with⟨f,q,h⟩ | ⟨t,f,q,_⟩<;>cases q
 ·obtain⟨v,n,c⟩:=T8 r (M3 e);rcases c with⟨f,q,h⟩ | ⟨t,f,q,_⟩<;>cases q
theorem fH {B:Bs}(l:∀i,B.gh i=g8)(R:RS B G' H' σ ρ):∀{ms:List Bool} {vs:List V} {ds:List D} {ps:List Addr} (_:W0 K G H ms vs ds ps) (k:Nat) (a:l9) (fin:List D),(∀i,a[i]?=ρ[k+i]?)→(∀i,O8 ms ps i=B.L (k+i))→bC ms a=g7 fin→Paired (λp d=>G' p=g9∧C6 B.K G' H' p d) ps fin
 |_,_,_,_,.nil,k,a,fin,_,_,e=>by cases e;exact .nil
 |_,_,_,_,.sh h r,k,a,fin,b,j,e=>by
  cases a with
  |nil=>cases e
  |cons c a=>
   refine fH l R r (k+1) a fin (λi=>?_) (λi=>?_) e
   ·have:=b (i+1);rw[List.getElem?_cons_succ]at this;rw[this];congr 1;omega
   ·have:=j (i+1);rw[show k+1+i=k+(i+1) by omega,←this];rfl
 |_,_,_,_,.ln (p:=p) g o n r,k,a,fin,b,j,e=>by
  cases a with
  |nil=>cases e
  |cons c a=>
   match c,e with
   |some (.ow h7 d),e=>
    obtain⟨f,s,rfl⟩:=Option.map_eq_some_iff.mp e;refine .cons ?_ (fH l R r (k+1) a f (λi=>?_) (λi=>?_) s)
    ·have t:=b 0;obtain⟨m,y,u,A,v,w⟩:=R.ow (k+0) h7 d t.symm;have q:B.L (k+0)=g7 m:=by
      rcases v with z| ⟨z,_⟩
      ·exact z
      ·rw[l]at z;cases z
     rw[←j 0]at q;have x:g7 p=g7 m:=q;cases x;exact⟨u,w⟩
    ·have:=b (i+1);rw[List.getElem?_cons_succ]at this;rw[this];congr 1;omega
    ·have:=j (i+1);rw[show k+1+i=k+(i+1) by omega,←this];rfl
   |none,e=>cases e
   |some (.sh _),e=>cases e
   |some (.ow g8 _),e=>cases e
   |some (.ob _ _),e=>cases e
   |some (.rd _),e=>cases e
end
theorem _root_.L2.nQ.be {X:Cx}{E E':Value→Shared→Prop}{st:List Stmt}{t:TS}(h:nQ (X.A1 E) st t)(i:∀e s,E e s→E' e s):nQ (X.A1 E') st t:=λpins s σ H D I c=>
 wpAny_mono (h pins s σ H D (I.G4.A1 _) c) (λ_ _ q=>by
  have b:=q.G4;cases ‹Flow› with
  |next=>obtain⟨a,H',I,q⟩:=b;exact⟨a,H',I.A1 _,q⟩
  |brk=>obtain⟨a,H',I,q⟩:=b;exact⟨a,H',I.A1 _,q⟩
  |cont=>obtain⟨a,H',I,q⟩:=b;exact⟨a,H',I.A1 _,q⟩
  |ret u=>obtain⟨v,a,H',I,r,q⟩:=b;exact⟨v,a,H',I.A1 _,r,q⟩) λe s z=>i e s z
section
variable {P:Program}{w:World}{K:PySem.W.Frag}{mg:Str→Option Value}{base:Heap}
theorem Q7 {x:Str}{st:Stmt}{f:Addr}{fd:FuncData}{N ps:List Str}{ms:List Bool}{k:Nat}{m:SM}(F:az K x x st f fd)(S:n4 N ps (i7 st))(I:ms.length=ps.length)
  (n:∀(cdv:Value) (A:Around) (outer:List Env) (s:Shared) (H:Hp) (E:XK) (H0 HK G0:Hp) (L:Nat→Option Addr),K4 k (A.deeper (Z2 x (i7 st) s.heap.objs.size f cdv))→
   jw (X5 V1 P w K mg base N x (i7 st) f cdv A outer s H E) ⟨K,H0,HK,G0,L,g9⟩ (C5 st) m):x8 P w K mg base V1 (k+1) f fd ps (U0 K ms (N8 m N.length ms)):=by
 have y:ps.length≤N.length:=by have:=congrArg List.length S.pre;rw[List.length_take]at this;omega
 refine F.ok S (λvs H Q E h=>?_) (λcdv A outer s H vs Q E hr h=>?_)
 ·obtain⟨G,ds,t,r,_,a,_⟩:=h;rw[a.len.1,I]
 obtain⟨G,ds,t,r,g,a,u,q⟩:=h;refine⟨_,((n cdv A outer s H E H (minus H t) G (O8 ms t) hr).ap λ_ _ _=>False).be (λe s z=>?_),?_⟩
 ·obtain⟨_,_,_,_,_,_,z⟩:=z;exact z
 have O:=ij (N:=N) g a (by rw[a.len.1,I];exact y);unfold N8 at u;cases hs:m (G8 N.length ms ds)with
 |none=>rw[hs]at u;cases u
 |some B=>
  rw[hs]at u;have j:rN ms B=g7 r:=u;refine⟨G,G8 N.length ms ds,O,B,hs,?_⟩;have fin:∀{c:l9} {l:St} {G' H':Hp} {b:List D},bC ms c=g7 b→RS ⟨K,H,minus H t,G,O8 ms t,g9⟩ G' H' l c→After K G H t G' H' b:=λ{c l G' H' b} e R'=>
   ⟨R'.keep,R'.g0,R'.gH,R'.gnew,R'.dom,fH (λ_=>rfl) R' a 0 c b (λi=>by rw[Z3]) (λi=>by rw[Z3]) e⟩
  cases B with
  |nx c=>
   obtain⟨b,e,rfl⟩:=Option.map_eq_some_iff.mp j;exact λl G' H' J R'=>q .z5 G' H' (fin e R') .z5
  |rt R c=>
   cases R with
   |slot i=>cases j
   |val d=>
    obtain⟨b,e,rfl⟩:=Option.map_eq_some_iff.mp j;exact λv l G' H' J R' o=>q v G' H' (fin e R') o
   |own d=>
    obtain⟨b,e,rfl⟩:=Option.map_eq_some_iff.mp j;exact λv l G' H' J R' o=>q v G' H' (fin e R') (let⟨p,T,U,X,Y,_⟩:=o;⟨p,T,U,X,Y⟩)
  |ex x c=>
   obtain⟨b,e,rfl⟩:=Option.map_eq_some_iff.mp j;exact q.elim
  |bk c=>cases j
  |ct c=>cases j
theorem gG(hr:K4 k A):A.units+8<E7:=by have:=hr.units;omega
theorem Dz(h:∀ns:List Int,ns.length≤63→b [.lst (ns.map D.int)]=g7 (.ret (.val (.bl h7)) [])):∀vs H Q E,zg K vs H Q E→U0 K [g8] b vs H Q E:=by
 rintro vs H Q E ⟨a,ns,rfl,hS,hl,q⟩
 refine⟨H,[.lst (ns.map D.int)],[],_,j5.refl _,.sh (.lst hS (v5.iw (K:=K) (G:=H) ns).len (v5.iw (K:=K) (G:=H) ns).get) .nil,h ns hl,λv G' H' _ r=>?_⟩;cases(show Rep K G' v (.bl h7)from r);exact q H'
end
noncomputable def sv:Nat→D→Bool
 |_,.z5=>h7
 |_,.bl _=>h7
 |_,.int _=>h7
 |_,.str _=>h7
 |_,.ty _=>h7
 |n+1,.tup ds=>ds.all (sv n)
 |_,_=>g8
noncomputable abbrev bA (d:D):Bool:=sv 6 d
noncomputable def dZ:W→Bool
 |.val d=>bA d
 |.own (.lst ds)=>ds.all bA
 |.own (.dct es)=>es.all λe=>bA e.2
 |_=>g8
noncomputable def X1:D→Bool
 |.lst ds=>ds.all bA
 |.dct es=>es.all λe=>bA e.2
 |_=>g8
noncomputable def uk:Option HO→Prop
 |some (.lst _)=>True
 |some (.dK _)=>True
 |_=>False
section
variable {K:PySem.W.Frag}{G H:Hp}{bs:List Addr}
theorem xG(c:∀b∈bs,uk (G b))(h:bJ K G a xs):bJ K (minus G bs) a xs:=by
 rcases h with(h| ⟨o,h⟩) |h
 ·refine .inl (.inl ?_);rw[P9 λm=>?_]
  ·exact h
  ·have:=c a m;rw[h]at this;exact this
 ·refine .inl (.inr ⟨o,?_⟩);rw[P9 λm=>?_]
  ·exact h
  ·have:=c a m;rw[h]at this;exact this
 ·exact .inr h
theorem Rep.minus:∀(n:Nat) {v:V} {d:D},(∀b∈bs,uk (G b))→sv n d=h7→Rep K G v d→Rep K (minus G bs) v d:=by
 intro n;induction n with
 |zero=>
  intro v d e c h;cases h with
  |z5=>exact .z5
  |bl b=>exact .bl b
  |int b=>exact .int b
  |str b=>exact .str b
  |ty b=>exact .ty b
  |tup _ _ _=>cases c
  |lst _ _ _=>cases c
  |dct _ _ _=>cases c
 |succ n ih=>
  intro v d e c h;cases h with
  |z5=>exact .z5
  |bl b=>exact .bl b
  |int b=>exact .int b
  |str b=>exact .str b
  |ty b=>exact .ty b
  | @tup a xs ds h l r=>
   have f:=List.all_eq_true.mp (show ds.all (sv n)=h7 from c);exact .tup (xG e h) l λj x d a b=>ih e (f d (List.mem_of_getElem? b)) (r j x d a b)
  |lst _ _ _=>cases c
  |dct _ _ _=>cases c
theorem v5.minus{ds:List D}(c:∀b∈bs,uk (G b))(e:ds.all bA=h7)(h:v5 K G xs ds):v5 K (minus G bs) xs ds:=
 ⟨h.len,λj x d a b=>Rep.minus 6 c (List.all_eq_true.mp e d (List.mem_of_getElem? b)) (h.get j x d a b)⟩
theorem m7.minus{ds:List (Key×D)}(c:∀b∈bs,uk (G b))(f:(ds.all λe=>bA e.2)=h7)(h:m7 K G xs ds):m7 K (minus G bs) xs ds:=
 ⟨h.keys,λj x d a b=>Rep.minus 6 c (List.all_eq_true.mp f d (List.mem_of_getElem? b)) (h.get j x d a b)⟩
theorem C6.minus(a:∀b∈bs,uk (G b))(c:X1 d=h7)(h:C6 K G H p d):C6 K (minus G bs) H p d:=by
 cases d with
 |lst ds=>obtain⟨xs,e,r⟩:=h;exact⟨xs,e,r.minus a c⟩
 |dct es=>obtain⟨xs,e,r⟩:=h;exact⟨xs,e,r.minus a c⟩
 |_=>exact(show False from h).elim
end
noncomputable def J2:List Bool→List W→l9→Option (List D)
 | [],[],_=>g7 []
 |false::ms,w::a,ρ=>match getD w ρ,J2 ms a ρ with
  |some d,g7 ds=>g7 (d::ds)
  |_,_=>g9
 |true::ms,.slot i::a,ρ=>match ρ[i]?,J2 ms a ρ with
  |some (g7 (.ow _ d)),g7 ds=>g7 (d::ds)
  |_,_=>g9
 |_,_,_=>g9
noncomputable def B0:List Bool→List W→List Nat
 |true::ms,.slot i::a=>i::B0 ms a
 |_::ms,_::a=>B0 ms a
 |_,_=>[]
noncomputable def S9 (ρ:l9):List Bool→List W→List Nat
 |false::ms,.slot i::a=>match ρ[i]? with
  |some (g7 (.ow _ _))=>i::S9 ρ ms a
  |_=>S9 ρ ms a
 |_::ms,_::a=>S9 ρ ms a
 |_,_=>[]
noncomputable def pj:List Nat→List D→l9→Option l9
 | [],[],ρ=>g7 ρ
 |i::is,d::ds,ρ=>match ρ[i]? with
  |some (g7 (.ow l _))=>pj is ds (ρ.set i (g7 (.ow l d)))
  |_=>g9
 |_,_,_=>g9
noncomputable def gu:List Nat→l9→Option l9
 | [],ρ=>g7 ρ
 |i::is,ρ=>match ρ[i]? with
  |some (g7 (.ow g8 d))=>gu is (ρ.set i (g7 (.sh d)))
  |some (g7 (.sh _))=>gu is ρ
  |_=>g9
noncomputable def eX (a bs:List Nat):Bool:=decide a.Nodup&&a.all λi=>!bs.contains i
noncomputable def oP (ms:List Bool)(c:List D→Option FR)(a:List W):M W:=λρ=>match J2 ms a ρ with
 |none=>g9
 |some ds=>if eX (B0 ms a) (S9 ρ ms a)=h7 then match c ds with
  |some (.ret w fin)=>match pj (B0 ms a) fin ρ with
   |none=>g9
   |some b=>if(dZ w&&fin.all X1)=h7 then g7 (.ok w b)else(gu (S9 ρ ms a) b).map (R'.ok w ·)
  |_=>g9
  else g9
noncomputable def u5 (ms:List Bool)(a:List D→Option FR)(m:M (List W)):M W:=M.bind m λb=>oP ms a b
noncomputable def n0 (σ:St)(is:List Nat):List Addr:=is.filterMap λi=>match σ[i]? with
 |some (g7 (V.ref p))=>g7 p
 |_=>g9
section
variable {B:Bs}{G H:Hp}{σ:St}{ρ:l9}
theorem D8:p∈n0 σ is↔∃i∈is,σ[i]?=g7 (g7 (.ref p)):=by
 unfold n0;rw[List.mem_filterMap];constructor
 ·rintro ⟨i,hi,e⟩
  refine⟨i,hi,?_⟩;split at e
  ·cases e;assumption
  ·cases e
 ·rintro ⟨i,hi,e⟩
  exact⟨i,hi,by rw[e]⟩
noncomputable def plus (G H:Hp)(bs:List Addr):Hp:=λb=>if b∈bs then H b else G b
theorem N6(h:b∈bs):plus G H bs b=H b:=if_pos h
theorem B5(h:b∉bs):plus G H bs b=G b:=if_neg h
theorem dO:∀{ms:List Bool} {ws:List W} {i:Nat},i∈S9 ρ ms ws→∃l d,ρ[i]?=g7 (g7 (.ow l d))
 | [],[],i,h=>by cases h
 | [],_::_,i,h=>by cases h
 |true::_,[],i,h=>by cases h
 |false::_,[],i,h=>by cases h
 |true::ms,w::ws,i,h=>by
  have h':i∈S9 ρ ms ws:=by cases w<;>exact h
  exact dO h'
 |false::ms,.val _::ws,i,h=>dO (ms:=ms) (ws:=ws) h
 |false::ms,.own _::ws,i,h=>dO (ms:=ms) (ws:=ws) h
 |false::ms,.slot j::ws,i,h=>by
  unfold S9 at h;split at h
  ·rename_i l d a;rcases List.mem_cons.mp h with rfl|h
   ·exact⟨l,d,a⟩
   ·exact dO h
  ·exact dO h
theorem args_call (R:RS B G H σ ρ)(g:j5 G (plus G H bs)):∀{ms:List Bool} {b:List W} {vs:List V} {ds:List D},O5 B G H σ ρ vs b→J2 ms b ρ=g7 ds→(∀i∈S9 ρ ms b,∀p,σ[i]?=g7 (g7 (.ref p))→p∈bs)→(∀i∈B0 ms b,∀p,σ[i]?=g7 (g7 (.ref p))→p∉bs)→(B0 ms b).Nodup→
  W0 B.K (plus G H bs) H ms vs ds (n0 σ (B0 ms b))
 | [],[],_,ds,q,e,_,_,_=>by cases q;cases e;exact .nil
 | [],_::_,_,_,_,e,_,_,_=>by cases e
 |true::_,[],_,_,_,e,_,_,_=>by cases e
 |false::_,[],_,_,_,e,_,_,_=>by cases e
 |false::ms,w::b,_,ds,q,e,F,hl,nd=>by
  cases q with
  | @cons v _ vs _ h t=>
   unfold J2 at e;cases f:getD w ρ with
   |none=>rw[f]at e;cases e
   |some d=>
    cases n:J2 ms b ρ with
    |none=>rw[f,n]at e;cases e
    |some z=>
     rw[f,n]at e;cases e;have A:B0 (g8::ms) (w::b)=B0 ms b:=by cases w<;>rfl
     rw[A]at hl nd⊢;have L:∀i∈S9 ρ ms b,∀p,σ[i]?=g7 (g7 (.ref p))→p∈bs:=λi hi=>F i (by
      cases w with
      |slot j=>
       unfold S9;split
       ·exact List.mem_cons_of_mem _ hi
       ·exact hi
      |val _=>exact hi
      |own _=>exact hi)
     refine .sh ?_ (args_call R g t n L hl nd);rcases h.1.get R f with r| ⟨p,rfl,o⟩
     ·exact r.same g
     ·
      cases w with
      |val _=>cases f;exact Rep.same g h.1
      |own _=>exact absurd (show g8=h7 from h.2) N3
      |slot j=>
       have u:σ[j]?=g7 (g7 (.ref p)):=h.1;have c:∃l s,ρ[j]?=g7 (g7 (.ow l s))∨(∃s,ρ[j]?=g7 (g7 (.sh s)))∨∃es,ρ[j]?=g7 (g7 (.fz es)):=by
        unfold getD at f;simp only[]at f;split at f
        ·rename_i s q;exact⟨h7,s,.inr (.inl ⟨_,q⟩)⟩
        ·rename_i l s q;exact⟨l,s,.inl q⟩
        ·rename_i es q;exact⟨h7,.z5,.inr (.inr ⟨es,q⟩)⟩
        ·cases f
       obtain⟨l,s,c| ⟨I,c⟩ | ⟨es,c⟩⟩:=c
       ·have E:d=s:=by
         unfold getD at f;simp only[c]at f;exact(Option.some.inj f).symm
        subst E;have J:p∈bs:=F j (by unfold S9;rw[c];exact List.mem_cons_self) p u;cases d with
        |lst ds=>
         obtain⟨xs,e,r⟩:=o;have x:=r.same g;exact .lst (T9.of (by rw[N6 J];exact e)) x.len x.get
        |dct es=>
         obtain⟨xs,e,r⟩:=o;have x:=r.same g;exact .dct (.inl (by rw[N6 J];exact e)) x.keys x.get
        |_=>exact(show False from o).elim
       ·obtain⟨v',y,r⟩:=R.sh j I c;rw[u]at y;cases y;have E:d=I:=by
         unfold getD at f;simp only[c]at f;exact(Option.some.inj f).symm
        subst E;exact r.same g
       ·obtain⟨a,ob,kvs,y,N,Q⟩:=R.fz j es c;rw[u]at y;cases y;have E:d=.dct es:=by
         unfold getD at f;simp only[c]at f;exact(Option.some.inj f).symm
        subst E;have x:=Q.same g;exact .dct (.inr ⟨ob,g _ _ N⟩) x.keys x.get
 |true::ms,.val _::b,_,ds,q,e,_,_,_=>by cases e
 |true::ms,.own _::b,_,ds,q,e,_,_,_=>by cases e
 |true::ms,.slot i::b,_,ds,q,e,F,hl,nd=>by
  cases q with
  | @cons v _ vs _ h t=>
   unfold J2 at e;split at e
   ·rename_i l d z hi n;cases e;have u:σ[i]?=g7 (g7 v):=h.1;obtain⟨p,y,N,Q,q4,X⟩:=R.ow i l d hi;rw[u]at y;cases y;have A:B0 (h7::ms) (.slot i::b)=i::B0 ms b:=rfl;rw[A]at hl nd⊢;obtain⟨S,T⟩:=List.nodup_cons.mp nd;have U:n0 σ (i::B0 ms b)=p::n0 σ (B0 ms b):=by
     unfold n0;rw[List.filterMap_cons,u]
    rw[U];have J:p∉bs:=hl i List.mem_cons_self p u;refine .ln (by rw[B5 J];exact N) (X.same g rfl) (λm=>?_) (args_call R g t n (λj c=>F j c) (λj c=>hl j (List.mem_cons_of_mem _ c)) T);obtain⟨j,c,Y⟩:=D8.mp m;have O:∃l d,ρ[j]?=g7 (g7 (.ow l d)):=by
     clear hl S T nd U m;have key:∀{ms:List Bool} {b:List W} {ds:List D},J2 ms b ρ=g7 ds→∀j∈B0 ms b,∃l d,ρ[j]?=g7 (g7 (.ow l d)):=by
      intro ms;induction ms with
      |nil=>intro b ds e j c;cases b<;>cases c
      |cons m ms ih=>
       intro b ds e j c;cases b with
       |nil=>cases m<;>cases c
       |cons w b=>
        cases m with
        |false=>
         have A:B0 (g8::ms) (w::b)=B0 ms b:=by cases w<;>rfl
         rw[A]at c;unfold J2 at e;split at e
         ·rename_i n;exact ih n j c
         ·cases e
        |true=>
         cases w with
         |val _=>cases e
         |own _=>cases e
         |slot k=>
          unfold J2 at e;split at e
          ·rename_i l d z hk n;rcases List.mem_cons.mp c with rfl|c
           ·exact⟨l,d,hk⟩
           ·exact ih n j c
          ·cases e
     exact key n j c
    obtain⟨Z,I,P⟩:=O;have:=R.inj i j l d Z I p hi P u Y;subst this;exact S c
   ·cases e
theorem rm:∀{is:List Nat} {ds:List D} {ρ f:l9},pj is ds ρ=g7 f→is.Nodup→f.length=ρ.length∧(∀i,i∉is→f[i]?=ρ[i]?)∧∀(k i:Nat),is[k]?=g7 i→∃l d p,ρ[i]?=g7 (g7 (.ow l d))∧ds[k]?=g7 p∧f[i]?=g7 (g7 (.ow l p))
 | [],[],ρ,f,e,_=>by cases e;exact⟨rfl,λ_ _=>rfl,λk i h=>by simp at h⟩
 | [],_::_,_,_,e,_=>by cases e
 |_::_,[],_,_,e,_=>by cases e
 |i::is,d::ds,ρ,f,e,nd=>by
  unfold pj at e;split at e
  ·rename_i l t hi;have n:i<ρ.length:=(List.getElem?_eq_some_iff.mp hi).1;obtain⟨q,u⟩:=List.nodup_cons.mp nd;obtain⟨a,b,c⟩:=rm e u;refine⟨by rw[a];simp,λj r=>?_,λk j hk=>?_⟩
   ·rw[b j λm=>r (List.mem_cons_of_mem _ m),List.getElem?_set_ne λz=>r (by rw[z];exact List.mem_cons_self)]
   ·cases k with
    |zero=>
     simp at hk;subst hk;exact⟨l,t,d,hi,rfl,by rw[b i q,List.getElem?_set_self n]⟩
    |succ k=>
     have g:is[k]?=g7 j:=by simpa using hk
     obtain⟨v,w,x,s,y,A⟩:=c k j g;have o:i≠j:=λz=>q (by rw[z];exact List.mem_of_getElem? g);rw[List.getElem?_set_ne o]at s;exact⟨v,w,x,s,by simpa using y,A⟩
  ·cases e
theorem gr:∀{is:List Nat} {ρ f:l9},gu is ρ=g7 f→f.length=ρ.length∧(∀i,i∉is→f[i]?=ρ[i]?)∧∀i∈is,∃d,f[i]?=g7 (g7 (.sh d))∧(ρ[i]?=g7 (g7 (.ow g8 d))∨ρ[i]?=g7 (g7 (.sh d)))
 | [],ρ,f,e=>by cases e;exact⟨rfl,λ_ _=>rfl,λi h=>by cases h⟩
 |i::is,ρ,f,e=>by
  unfold gu at e;split at e
  ·rename_i d hi;have l:i<ρ.length:=(List.getElem?_eq_some_iff.mp hi).1;obtain⟨a,b,c⟩:=gr e;refine⟨by rw[a];simp,λj g=>?_,λj g=>?_⟩
   ·rw[b j λm=>g (List.mem_cons_of_mem _ m),List.getElem?_set_ne λz=>g (by rw[z];exact List.mem_cons_self)]
   ·by_cases z:i=j
    ·subst z;by_cases m:i∈is
     ·obtain⟨p,n,k⟩:=c i m;rw[List.getElem?_set_self l]at k;rcases k with k|k
      ·cases k
      ·cases k;exact⟨d,n,.inl hi⟩
     ·exact⟨d,by rw[b i m,List.getElem?_set_self l],.inl hi⟩
    ·have o:j∈is:=by rcases List.mem_cons.mp g with h|h;exact absurd h.symm z;exact h
     obtain⟨p,n,k⟩:=c j o;rw[List.getElem?_set_ne z]at k;exact⟨p,n,k⟩
  ·rename_i d hi;obtain⟨a,b,c⟩:=gr e;refine⟨a,λj g=>b j λm=>g (List.mem_cons_of_mem _ m),λj g=>?_⟩;rcases List.mem_cons.mp g with rfl|g
   ·by_cases m:j∈is
    ·exact c j m
    ·exact⟨d,by rw[b j m];exact hi,.inr hi⟩
   ·exact c j g
  ·cases e
theorem oW:∀{is:List Nat} {k i:Nat} {p:Addr},(∀j∈is,∃q,σ[j]?=g7 (g7 (.ref q)))→is[k]?=g7 i→σ[i]?=g7 (g7 (.ref p))→(n0 σ is)[k]?=g7 p
 | [],k,i,p,_,h,_=>by simp at h
 |j::is,k,i,p,a,h,e=>by
  obtain⟨q,b⟩:=a j List.mem_cons_self;have c:n0 σ (j::is)=q::n0 σ is:=by
   unfold n0;rw[List.filterMap_cons,b]
  rw[c];cases k with
  |zero=>
   simp at h;subst h;rw[b]at e;cases e;rfl
  |succ k=>exact oW (λl hl=>a l (List.mem_cons_of_mem _ hl)) (by simpa using h) e
theorem gx {α c:Type}{F:α→c→Prop}:∀{xs:List α} {d:List c} {k:Nat} {x:α} {y:c},Paired F xs d→xs[k]?=g7 x→d[k]?=g7 y→F x y
 |_,_,0,_,_,.cons h _,a,b=>by simp at a b;subst a b;exact h
 |_,_,k+1,_,_,.cons _ t,a,b=>gx (k:=k) t (by simpa using a) (by simpa using b)
 |_,_,_,_,_,.nil,a,_=>by simp at a
theorem GG {p:Addr}{d:D}{K:PySem.W.Frag}(o:C6 K G H p d):uk (H p):=by
 cases d with
 |lst ds=>obtain⟨xs,e,_⟩:=o;rw[e];exact True.intro
 |dct es=>obtain⟨xs,e,_⟩:=o;rw[e];exact True.intro
 |_=>exact(show False from o).elim
theorem V0(R:RS B G H σ ρ)(c0:∀i∈J,∃l d,ρ[i]?=g7 (g7 (.ow l d)))(Y:∀i∈li,∃l d,ρ[i]?=g7 (g7 (.ow l d)))(nd:li.Nodup)(ap:∀i∈li,i∉J)
  (A:After B.K (plus G H (n0 σ J)) H (n0 σ li) G' H' fin) (hs:pj li fin ρ=g7 s) (rr:mJ B.K H G' H' v w)
  (b4:((dZ w&&fin.all X1)=h7∧S=s)∨gu J s=g7 S):∃Gn,j5 G Gn∧RS B Gn H' σ S∧L4 B Gn H' σ S v w:=by
 have u:∀{i l d},ρ[i]?=g7 (g7 (.ow l d))→∃p,σ[i]?=g7 (g7 (.ref p))∧G p=g9∧B.HK p=g9∧JV B i l p∧C6 B.K G H p d:=λh=>R.ow _ _ _ h;have c1:∀j∈li,∃q,σ[j]?=g7 (g7 (.ref q)):=λj hj=>by
  obtain⟨l,d,h⟩:=Y j hj;obtain⟨p,q,_⟩:=u h;exact⟨p,q⟩
 have Z:∀{b},b∈n0 σ J→∃i l d,i∈J∧ρ[i]?=g7 (g7 (.ow l d))∧σ[i]?=g7 (g7 (.ref b))∧G b=g9∧B.HK b=g9∧JV B i l b∧C6 B.K G H b d:=λ{b} hb=>by
  obtain⟨i,hi,e⟩:=D8.mp hb;obtain⟨l,d,h⟩:=c0 i hi;obtain⟨p,n,F,N,P,t⟩:=u h;rw[e]at n;cases n;exact⟨i,l,d,hi,h,e,F,N,P,t⟩
 have jm:∀{b},b∈n0 σ li→∃i l d,i∈li∧ρ[i]?=g7 (g7 (.ow l d))∧σ[i]?=g7 (g7 (.ref b))∧G b=g9∧B.HK b=g9:=λ{b} hb=>by
  obtain⟨i,hi,e⟩:=D8.mp hb;obtain⟨l,d,h⟩:=Y i hi;obtain⟨p,n,F,N,P,t⟩:=u h;rw[e]at n;cases n;exact⟨i,l,d,hi,h,e,F,N⟩
 have s1:j5 G (plus G H (n0 σ J)):=λb o e=>by
  rw[B5 λm=>?_]
  ·exact e
  ·obtain⟨_,_,_,_,_,_,g,_⟩:=Z m;rw[e]at g;cases g
 have s2:j5 G G':=s1.trans A.gg;have a3:∀b∈n0 σ J,uk (G' b):=λb hb=>by
  obtain⟨i,l,d,_,_,_,_,_,_,o⟩:=Z hb;obtain⟨ob,Q⟩:=o.some;have e:=A.gg b ob (by rw[N6 hb];exact Q);have z:=GG o;rw[Q]at z;rw[e];exact z
 obtain⟨a9,y,a4⟩:=rm hs nd
 
 have T:∀b o,H b=g7 o→b∉n0 σ li→H' b=g7 o:=λb o e hb=>A.keep b o (by rw[P9 hb];exact e);have a5:j5 B.HK H':=λb o e=>T b o (R.keep b o e) λm=>by
  obtain⟨_,_,_,_,_,_,_,hk⟩:=jm m;rw[e]at hk;cases hk
 have L:∀p,G p=g9→p∉n0 σ J→(∃o,H p=g7 o)→G' p=g9:=λp g nb ⟨o,ho⟩=>by
  cases hg:G' p with
  |none=>rfl
  |some ob=>
   rcases A.gnew p ob hg with z|z
   ·rw[B5 nb,g]at z;cases z
   ·rw[ho]at z;cases z
 
 have U:∀{i},i∈li→∀{l O},s[i]?=g7 (g7 (.ow l O))→∃p,σ[i]?=g7 (g7 (.ref p))∧G' p=g9∧B.HK p=g9∧JV B i l p∧C6 B.K G' H' p O∧O∈fin:=λ{i} hi {l O} e=>by
  obtain⟨k,hk⟩:=List.getElem?_of_mem hi;obtain⟨l0,d0,d1,e0,I,E⟩:=a4 k i hk;rw[e]at E;cases E;obtain⟨p,n,F,N,P,t⟩:=u e0;have hp:=oW c1 hk n;obtain⟨z1,z2⟩:=gx A.lent hp I;exact⟨p,n,z1,N,P,z2,List.mem_of_getElem? I⟩
 have x:∀{i},i∉li→∀{l O},s[i]?=g7 (g7 (.ow l O))→∃p,σ[i]?=g7 (g7 (.ref p))∧G p=g9∧B.HK p=g9∧JV B i l p∧C6 B.K G H p O∧H' p=H p∧ρ[i]?=g7 (g7 (.ow l O)):=λ{i} hi {l O} e=>by
  rw[y i hi]at e;obtain⟨p,n,F,N,P,t⟩:=u e;obtain⟨o,ho⟩:=t.some;refine⟨p,n,F,N,P,t,?_,e⟩;rw[ho];refine T p o ho λm=>?_;obtain⟨j,l2,d2,hj,ej,b2,_⟩:=jm m;exact hi (by rw[R.inj i j _ _ _ _ p e ej n b2];exact hj)
 have b5:∀{i:Nat} {O:D},s[i]?=g7 (g7 (C.sh O))→ρ[i]?=g7 (g7 (C.sh O)):=λ{i O} e=>by
  by_cases hi:i∈li
  ·obtain⟨k,hk⟩:=List.getElem?_of_mem hi;obtain⟨l0,d0,d1,e0,I,E⟩:=a4 k i hk;rw[e]at E;cases E
  ·rw[y i hi]at e;exact e
 have b6:∀{i:Nat} {es:List (Key×D)},s[i]?=g7 (g7 (C.fz es))→ρ[i]?=g7 (g7 (C.fz es)):=λ{i es} e=>by
  by_cases hi:i∈li
  ·obtain⟨k,hk⟩:=List.getElem?_of_mem hi;obtain⟨l0,d0,d1,e0,I,E⟩:=a4 k i hk;rw[e]at E;cases E
  ·rw[y i hi]at e;exact e
 have b0:∀{i j:Nat} {l:Bool} {d:D} {k:Bool} {e:D} {p:Addr},s[i]?=g7 (g7 (.ow l d))→s[j]?=g7 (g7 (.ow k e))→σ[i]?=g7 (g7 (.ref p))→σ[j]?=g7 (g7 (.ref p))→i=j:=λ{i j l d k e p} a b c f=>by
  have old:∀{i:Nat} {l:Bool} {d:D},s[i]?=g7 (g7 (.ow l d))→∃l d,ρ[i]?=g7 (g7 (.ow l d)):=λ{i l d} a=>by
   by_cases hi:i∈li
   ·exact Y i hi
   ·rw[y i hi]at a;exact⟨_,_,a⟩
  obtain⟨l1,d1,a1⟩:=old a;obtain⟨l2,d2,a2⟩:=old b;exact R.inj i j l1 d1 l2 d2 p a1 a2 c f
 have b7:∀{i:Nat} {c:C},GZ c=h7→s[i]?=g7 (g7 c)→ρ[i]?=g7 (g7 c):=λ{i c} z e=>by
  by_cases hi:i∈li
  ·obtain⟨k,hk⟩:=List.getElem?_of_mem hi;obtain⟨l0,d0,d1,e0,I,E⟩:=a4 k i hk;rw[e]at E;cases E;cases z
  ·rw[y i hi]at e;exact e
 have b8:∀{i:Nat} {d:D},s[i]?=g7 (g7 (C.ow h7 d))→∃d0,ρ[i]?=g7 (g7 (C.ow h7 d0)):=λ{i d} e=>by
  by_cases hi:i∈li
  ·obtain⟨k,hk⟩:=List.getElem?_of_mem hi;obtain⟨l0,d0,d1,e0,I,E⟩:=a4 k i hk;rw[e]at E;cases E;exact⟨_,e0⟩
  ·rw[y i hi]at e;exact⟨_,e⟩
 have b1:∀p C dx fs,H p=g7 (.ins C dx fs)→H' p=g7 (.ins C dx fs):=λp C dx fs e=>T p _ e λm=>by
  obtain⟨i,hi,E⟩:=D8.mp m;obtain⟨l,d,h⟩:=Y i hi;obtain⟨p',n,_,_,_,t⟩:=u h;rw[E]at n;cases n;exact aN t e rfl
 have a6:∀p C dx fs,H p=g7 (.ins C dx fs)→p∉n0 σ J:=λp C dx fs e m=>by
  obtain⟨i,l,d,_,_,_,_,_,_,o⟩:=Z m;exact aN o e rfl
 rcases b4 with⟨hf,rfl⟩ |c2
 ·
  rw[l8]at hf;obtain⟨fw,ff⟩:=hf;have sN:j5 G (minus G' (n0 σ J)):=λb o e=>by
   rw[P9 λm=>?_]
   ·exact s2 b o e
   ·obtain⟨_,_,_,_,_,_,g,_⟩:=Z m;rw[e]at g;cases g
  refine⟨minus G' (n0 σ J),sN,⟨R.hk,a5,R.g0.trans sN,(O6 _ _).trans A.gH,λb o e=>?_,λb e=>R.dom b (A.dom b e),by rw[a9];exact R.len,λi d e=>?_,λi l d e=>?_,λi j l d k e p a b c f=>b0 a b c f,λi es e=>(R.fz.same sN) i es (b6 e),R.ob.to sN (λp C dx fs e g=>by rw[P9 (a6 p C dx fs e)];exact L p g (a6 p C dx fs e) ⟨_,e⟩) (λp C dx fs e _ _=>b1 p C dx fs e) (λi c z e=>⟨b7 z e,rfl⟩) λj d e=>⟨b8 e,rfl⟩⟩,?_⟩
  ·have e':=O6 _ _ b o e;have nb:b∉n0 σ J:=λm=>by rw[bt m]at e;cases e
   rcases A.gnew b o e' with z|z
   ·rw[B5 nb]at z;exact R.gnew b o z
   ·exact .inr (R.dom b z)
  ·obtain⟨v,n,F⟩:=R.sh i d (b5 e);exact⟨v,n,F.same sN⟩
  ·by_cases hi:i∈li
   ·obtain⟨p,n,F,N,P,t,q6⟩:=U hi e;refine⟨p,n,?_,N,P,t.minus a3 (List.all_eq_true.mp ff d q6)⟩;unfold minus;split
    ·rfl
    ·exact F
   ·obtain⟨p,n,F,N,P,t,q6,q7⟩:=x hi e;refine⟨p,n,?_,N,P,t.same sN q6⟩;unfold minus;split
    ·rfl
    ·exact L p F ‹_› t.some
  ·cases w with
   |val d=>exact Rep.minus 6 a3 fw rr
   |slot i=>exact rr.elim
   |own d=>
    obtain⟨p,rfl,g,h0,o⟩:=rr;have fo:X1 d=h7:=by
     cases d with
     |lst ds=>exact fw
     |dct es=>exact fw
     |_=>exact(show False from o).elim
    refine⟨p,rfl,?_,R.dom p h0,o.minus a3 fo,λi l e he z=>?_⟩
    ·unfold minus;split
     ·rfl
     ·exact g
    ·have hz:∃ob,H p=g7 ob:=by
      by_cases hi:i∈li
      ·obtain⟨l0,d0,a0⟩:=Y i hi;obtain⟨p',n,_,_,_,t⟩:=u a0;rw[z]at n;cases n;exact t.some
      ·obtain⟨p',n,F,N,P,t,_⟩:=x hi he;rw[z]at n;cases n;exact t.some
     obtain⟨ob,Q⟩:=hz;rw[h0]at Q;cases Q
 ·
  obtain⟨b9,X,a7⟩:=gr c2;have a8:∀{i:Nat} {l:Bool} {d:D},S[i]?=g7 (g7 (.ow l d))→i∉J∧s[i]?=g7 (g7 (.ow l d)):=λ{i l d} e=>by
   have hi:i∉J:=λm=>by
    obtain⟨O,I,_⟩:=a7 i m;rw[e]at I;cases I
   exact⟨hi,by rw[←X i hi];exact e⟩
  have c3:∀{i:Nat} {es:List (Key×D)},S[i]?=g7 (g7 (C.fz es))→s[i]?=g7 (g7 (C.fz es)):=λ{i es} e=>by
   have hi:i∉J:=λm=>by
    obtain⟨O,I,_⟩:=a7 i m;rw[e]at I;cases I
   rw[←X i hi];exact e
  have c4:∀{i:Nat} {c:C},GZ c=h7→S[i]?=g7 (g7 c)→s[i]?=g7 (g7 c):=λ{i c} z e=>by
   have hi:i∉J:=λm=>by
    obtain⟨O,I,_⟩:=a7 i m;rw[e]at I;cases I;cases z
   rw[←X i hi];exact e
  refine⟨G',s2,⟨R.hk,a5,R.g0.trans s2,A.gH,λb o e=>?_,λb e=>R.dom b (A.dom b e),by rw[b9,a9];exact R.len,λi d e=>?_,λi l d e=>?_,λi j l d k e p a b c f=>b0 (a8 a).2 (a8 b).2 c f,λi es e=>(R.fz.same s2) i es (b6 (c3 e)),R.ob.to s2 (λp C dx fs e g=>L p g (a6 p C dx fs e) ⟨_,e⟩) (λp C dx fs e _ _=>b1 p C dx fs e) (λi c z e=>⟨b7 z (c4 z e),rfl⟩) λj d e=>⟨b8 (a8 e).2,rfl⟩⟩,?_⟩
  ·rcases A.gnew b o e with z|z
   ·by_cases m:b∈n0 σ J
    ·obtain⟨i,l,d,hi,h,E,g,_,ln,o'⟩:=Z m;obtain⟨O,e3,e4⟩:=a7 i hi;have b3:i∉li:=λmm=>ap i mm hi;rw[y i b3,h]at e4;rcases e4 with e4|e4
     ·cases e4;exact .inr ln
     ·cases e4
    ·rw[B5 m]at z;exact R.gnew b o z
   ·exact .inr (R.dom b z)
  ·by_cases hi:i∈J
   ·obtain⟨O,I,E⟩:=a7 i hi;rw[e]at I;cases I;have b3:i∉li:=λmm=>ap i mm hi;rw[y i b3]at E;rcases E with E|E
    ·obtain⟨p,n,F,N,P,t⟩:=u E;have hp:p∈n0 σ J:=D8.mpr ⟨i,hi,n⟩;refine⟨_,n,?_⟩;cases d with
     |lst ds=>
      obtain⟨xs,e,r⟩:=t;have r':=r.same s2;exact .lst (T9.of (A.gg p _ (by rw[N6 hp];exact e))) r'.len r'.get
     |dct es=>
      obtain⟨xs,e,r⟩:=t;have r':=r.same s2;exact .dct (.inl (A.gg p _ (by rw[N6 hp];exact e))) r'.keys r'.get
     |_=>exact(show False from t).elim
    ·obtain⟨v,n,F⟩:=R.sh i d E;exact⟨v,n,F.same s2⟩
   ·rw[X i hi]at e;obtain⟨v,n,F⟩:=R.sh i d (b5 e);exact⟨v,n,F.same s2⟩
  ·obtain⟨hb,I⟩:=a8 e;by_cases hi:i∈li
   ·obtain⟨p,n,F,N,P,t,_⟩:=U hi I;exact⟨p,n,F,N,P,t⟩
   ·obtain⟨p,n,F,N,P,t,q6,q7⟩:=x hi I;refine⟨p,n,L p F (λm=>?_) t.some,N,P,t.same s2 q6⟩;obtain⟨j,l2,d2,hj,ej,b2,_⟩:=Z m;exact hb (by rw[R.inj i j _ _ _ _ p q7 ej n b2];exact hj)
  ·cases w with
   |val d=>exact rr
   |slot i=>exact rr.elim
   |own d=>
    obtain⟨p,rfl,g,h0,o⟩:=rr;refine⟨p,rfl,g,R.dom p h0,o,λi l e he z=>?_⟩;obtain⟨hb,I⟩:=a8 he;have hz:∃ob,H p=g7 ob:=by
     by_cases hi:i∈li
     ·obtain⟨l0,d0,a0⟩:=Y i hi;obtain⟨p',n,_,_,_,t⟩:=u a0;rw[z]at n;cases n;exact t.some
     ·obtain⟨p',n,F,N,P,t,_⟩:=x hi I;rw[z]at n;cases n;exact t.some
    obtain⟨ob,Q⟩:=hz;rw[h0]at Q;cases Q
theorem rZ:∀{ms:List Bool} {a:List W} {ds:List D},J2 ms a ρ=g7 ds→∀j∈B0 ms a,∃l d,ρ[j]?=g7 (g7 (.ow l d)):=by
 intro ms;induction ms with
 |nil=>intro a ds e j b;cases a<;>cases b
 |cons m ms ih=>
  intro a ds e j b;cases a with
  |nil=>cases m<;>cases b
  |cons w a=>
   cases m with
   |false=>
    have f:B0 (g8::ms) (w::a)=B0 ms a:=by cases w<;>rfl
    rw[f]at b;unfold J2 at e;split at e
    ·rename_i c;exact ih c j b
    ·cases e
   |true=>
    cases w with
    |val _=>cases e
    |own _=>cases e
    |slot k=>
     unfold J2 at e;split at e
     ·rename_i l d g hk c;rcases List.mem_cons.mp b with rfl|b
      ·exact⟨l,d,hk⟩
      ·exact ih c j b
     ·cases e
end
section
variable {X:Cx}{B:Bs}{k:Nat}{x:Str}{ps:List Str}{ms:List Bool}{fm:List D→Option FR}{e:Expr}{es:List Expr}{mr:M (List W)}{p pos:Pos}
theorem CC(t:TD C4 B ξ (u5 ms fm mr) σ H Q):yZ (U0 B.K ms fm) [] E0 (TD O5 B ξ mr) σ H Q:=by
 obtain⟨G,ρ,R,t⟩:=t;refine(TD.bind (O2:=O5) R t).mono λvs H1 ⟨s,a,k,s1,p,S,r,c,I⟩=>?_;rw[List.append_nil];unfold oP at c;cases q:J2 ms k a with
 |none=>simp only[q]at c;cases c
 |some ds=>
  simp only[q]at c;split at c
  ·rename_i f;unfold eX at f;rw[l8]at f;have nd:(B0 ms k).Nodup:=of_decide_eq_true f.1;have ap:∀i∈B0 ms k,i∉S9 a ms k:=λi hi m=>by
    have:=List.all_eq_true.mp f.2 i hi;simp at this;exact this m
   split at c
   ·rename_i w fin u;split at c
    ·cases c
    ·rename_i T hs;have n:=rZ q;have g:∀i∈S9 a ms k,∃l d,a[i]?=g7 (g7 (.ow l d)):=λi hi=>dO hi;have s2:j5 s (plus s H1 (n0 σ (S9 a ms k))):=λb o e=>by
      rw[B5 λm=>?_]
      ·exact e
      ·obtain⟨i,hi,U⟩:=D8.mp m;obtain⟨l,d,h⟩:=g i hi;obtain⟨x,J,L,_⟩:=p.ow i l d h;rw[U]at J;cases J;rw[e]at L;cases L
     have gH:j5 (plus s H1 (n0 σ (S9 a ms k))) H1:=λb o e=>by
      by_cases m:b∈n0 σ (S9 a ms k)
      ·rw[N6 m]at e;exact e
      ·rw[B5 m]at e;exact p.gH b o e
     have A:=args_call p s2 S q (λi hi x e=>D8.mpr ⟨i,hi,e⟩) (λi hi x e m=>by
      obtain⟨j,N,X⟩:=D8.mp m;obtain⟨l,d,h⟩:=n i hi;obtain⟨Y,Z,h2⟩:=g j N;have:=p.inj i j l d Y Z x h h2 e X;subst this;exact ap i hi N) nd
     refine⟨_,ds,_,_,gH,A,u,λv G' H' O P=>?_⟩;split at c
     ·rename_i y;cases c;obtain⟨z,sn,Rn,E⟩:=V0 p g n nd ap O hs P (.inl ⟨y,rfl⟩);exact I v z H' sn Rn E
     ·obtain⟨a0,F,rfl⟩:=Option.map_eq_some_iff.mp c;obtain⟨z,sn,Rn,E⟩:=V0 p g n nd ap O hs P (.inr F);exact I v z H' sn Rn E
   ·cases c
  ·cases c
theorem u6 (h:eZ X.prog X.w X.K X.mg X.base k x ps (U0 X.K ms fm))(hr:K4 k X.A)(d:iW X B (e::es) mr)(f:Gl X x:=by rfl)(g:X.K=B.K:=by rfl)(a:(x==("__debug__":Str))=g8:=by decide)
  (i:i1 (e::es) X.env=(g8,eval e X.env)::i1 es X.env:=by rfl) (b:(m4 pos (i1 es X.env)).any (·.1)=g8:=by rfl):PD X B (.Call (.Name x p) (e::es) [] pos) (u5 ms fm mr):=.mk λξ=>
 (Jo (X:=rz X ξ) h hr (d.ap ξ) f a i b).imp λσ H Q t=>by
  have c:=CC t;rw[←g]at c;exact c
end
noncomputable def HV (X:Cx)(scope:Scope):List (Str×Nat)→Prop
 | []=>True
 |c::r=>(X.N[c.2]?=g7 c.1∧scope.names.lookup c.1=g7 .free∧(X.env.kindOf c.1=g7 .cell∨X.env.kindOf c.1=g7 .free))∧HV X scope r
theorem qE:∀{cs:List (Str×Nat)},HV X scope cs→∀c∈cs,X.N[c.2]?=g7 c.1∧scope.names.lookup c.1=g7 .free∧(X.env.kindOf c.1=g7 .cell∨X.env.kindOf c.1=g7 .free)
 | [],_,c,h=>by cases h
 |c::r,h,a,hm=>by
  rcases List.mem_cons.mp hm with rfl|hm
  ·exact h.1
  ·exact qE h.2 a hm
theorem cD(cs:List (Str×Nat))(f:HV X scope cs)(kind:scope.kind=.function:=by rfl)(h:namesOk scope (cs.map (·.1))=h7:=by decide +kernel)(nd:(x::cs.map (·.1)).Nodup:=by decide +kernel):wI X scope (x::cs.map (·.1)) 1 (cs.map (·.2)):=by
 refine wI.mk' (fs:=cs.map (·.1)) kind h nd (by simp;omega) (λn g=>?_) λi j e=>?_
 ·obtain⟨c,k,rfl⟩:=List.mem_map.mp g;exact(qE f c k).2.2
 ·rw[List.getElem?_map]at e;cases hi:cs[i]? with
  |none=>rw[hi]at e;cases e
  |some c=>
   rw[hi]at e;cases e;obtain⟨a,b,d⟩:=qE f c (List.mem_of_getElem? hi);refine⟨?_,c.1,a,b,d⟩;rw[KN,List.getElem?_cons_succ,List.getElem?_map,hi];exact a.symm
theorem _root_.L2.PE.be {X:Cx}(h:PE (X.A1 E) e t)(i:∀e s,E e s→E' e s):PE (X.A1 E') e t:=λpins s σ H Q I a=>
 wpAny_mono (h pins s σ H Q (I.G4.A1 _) a) (λ_ _ ⟨v,H',b,r,q⟩=>⟨v,H',b.G4.A1 _,r,q⟩) λe s z=>i e s z
theorem _root_.L2.PF.be {X:Cx}(h:PF (X.A1 E) e t)(i:∀e s,E e s→E' e s):PF (X.A1 E') e t:=λpins s σ H Q I a=>
 wpAny_mono (h pins s σ H Q (I.G4.A1 _) a) (λ_ _ ⟨H',b,q⟩=>⟨H',b.G4.A1 _,q⟩) λe s z=>i e s z
theorem _root_.L2.PF.imp(h:PF X e t)(i:∀σ H Q,a σ H Q→t σ H Q):PF X e a:=λpins s σ H Q I q=>h pins s σ H Q I (i σ H Q q)
structure Kt (X:Cx) (B:Bs) (e:List Expr) (m:M Bool):Prop where
 ap:∀ξ,PF (rz X ξ) e (TD er B ξ m)
noncomputable def N1:M Bool:=M.pure h7
theorem af:Kt X B [] N1:=.mk λξ=>(Gy (X:=rz X ξ)).imp λσ H Q t=>by
 obtain⟨G,ρ,R,r,e,p⟩:=t;cases e;exact p h7 G H (j5.refl _) R rfl
theorem vZ(h:qP X B c m):Kt X B [c] m:=.mk λξ=>Gx (h.ap ξ)
noncomputable def LL:Option C→Option C
 |some (.ow _ d)=>g7 (.sh d)
 |some (.ob _ fds)=>g7 (.rd fds)
 |c=>c
noncomputable def bj (own:Nat)(fr:List Nat)(ρ:l9):l9:=List.replicate own g9++fr.map λj=>LL (ρ[j]?).join
noncomputable def compTurn (tg:FT)(mt:M Bool)(c:M W)(ρ:l9)(d:D):Option (Option D):=match tg d ρ with
 |none=>g9
 |some a=>match mt a with
  |some (.ok g8 _)=>g7 g9
  |some (.ok h7 b)=>match M.bind c Q1 b with
   |some (.ok y _)=>g7 (g7 y)
   |_=>g9
  |_=>g9
noncomputable def E5 (tg:FT)(mt:M Bool)(b:M W)(ρ:l9):List D→Option (List D)
 | []=>g7 []
 |d::ds=>match compTurn tg mt b ρ d,E5 tg mt b ρ ds with
  |some (g7 y),g7 a=>g7 (y::a)
  |some g9,g7 a=>g7 a
  |_,_=>g9
noncomputable def fO (ρ:l9)(fr:List Nat):List Nat:=fr.filter λj=>match ρ[j]? with
 |some (g7 (.ow _ _))=>h7
 |_=>g8
noncomputable def BK (tg:FT)(mt:M Bool)(b:M W)(own:Nat)(fr:List Nat)(ds:List D):M W:=λρ=>match E5 tg mt b (bj own fr ρ) ds with
 |none=>g9
 |some a=>cf (small ds.length) (if a.all bA=h7 then g7 (.ok (.own (.lst a)) ρ)else(gu (fO ρ fr) ρ).map (R'.ok (.own (.lst a)) ·))
noncomputable def F7 (a:M (List D))(tg:FT)(mt:M Bool)(b:M W)(own:Nat)(fr:List Nat):M W:=M.bind a λds=>BK tg mt b own fr ds
theorem BO(h:i∈fO ρ fr):i∈fr∧∃l d,ρ[i]?=g7 (g7 (.ow l d)):=by
 unfold fO at h;obtain⟨b,a⟩:=List.mem_filter.mp h;refine⟨b,?_⟩;split at a
 ·exact⟨_,_,‹_›⟩
 ·cases a
section
variable {B:Bs}{G H:Hp}{σ:St}{ρ:l9}{own:Nat}{fr:List Nat}
theorem ba(h:(bj own fr ρ)[i]?=g7 (g7 c)):∃k j,i=own+k∧fr[k]?=g7 j∧((∃d,c=.sh d∧(ρ[j]?=g7 (g7 (.sh d))∨∃l,ρ[j]?=g7 (g7 (.ow l d))))∨(∃es,c=.fz es∧ρ[j]?=g7 (g7 (.fz es)))∨∃fds,c=.rd fds∧(ρ[j]?=g7 (g7 (.rd fds))∨∃l,ρ[j]?=g7 (g7 (.ob l fds)))):=by
 unfold bj at h;by_cases hi:i<own
 ·rw[List.getElem?_append_left (by simpa using hi),List.getElem?_replicate,if_pos hi]at h;cases h
 ·rw[List.getElem?_append_right (by simpa using hi)]at h;simp only[List.length_replicate,List.getElem?_map]at h;cases e:fr[i-own]? with
  |none=>rw[e]at h;cases h
  |some j=>
   rw[e]at h;simp only[Option.map_some,Option.some.injEq]at h;refine⟨i-own,j,by omega,e,?_⟩;cases q:ρ[j]? with
   |none=>rw[q]at h;cases h
   |some o=>
    rw[q]at h;cases o with
    |none=>cases h
    |some a=>
     cases a with
     |sh d=>cases h;exact .inl ⟨d,rfl,.inl rfl⟩
     |ow l d=>cases h;exact .inl ⟨d,rfl,.inr ⟨l,rfl⟩⟩
     |fz es=>cases h;exact .inr (.inl ⟨es,rfl,rfl⟩)
     |ob l fds=>cases h;exact .inr (.inr ⟨fds,rfl,.inr ⟨l,rfl⟩⟩)
     |rd fds=>cases h;exact .inr (.inr ⟨fds,rfl,.inl rfl⟩)
theorem hP(h:fr[k]?=g7 j)(e:σ[j]?=g7 (g7 v)):(seen own fr σ)[own+k]?=g7 (g7 v):=by
 unfold L2.seen;rw[List.getElem?_append_right (by simp)];simp only[List.length_replicate,List.getElem?_map,Nat.add_sub_cancel_left,h,Option.map_some,e];rfl
theorem zw(R:RS B G H1 σ ρ)(c:j5 (plus G H1 (n0 σ (fO ρ fr))) u)(J:j5 u t)(kp:j5 H1 t)(gnew:∀p o,u p=g7 o→plus G H1 (n0 σ (fO ρ fr)) p=g7 o∨H1 p=g9)(dom:∀p,t p=g9→H1 p=g9)(s0:j5 G (plus G H1 (n0 σ (fO ρ fr)))):
  RS ⟨B.K,H1,H1,plus G H1 (n0 σ (fO ρ fr)),λ_=>g9,B.O⟩ u t (seen own fr σ) (bj own fr ρ):=by
 refine⟨j5.refl _,kp,c,J,gnew,dom,?_,λi d e=>?_,λi l d e=>?_,λi j l d k e p a b=>?_,λi es e=>?_,λi l fds e=>?_,λi fds e=>?_⟩
 ·rw[L2.seen_length];unfold bj;simp
 ·obtain⟨k,j,rfl,hk,⟨m,q,h⟩ | ⟨_,q,_⟩ | ⟨_,q,_⟩⟩:=ba e<;>cases q
  rcases h with h| ⟨l,h⟩
  ·obtain⟨v,g,w⟩:=R.sh j d h;exact⟨v,hP hk g,(w.same s0).same c⟩
  ·obtain⟨p,g,w,E,Q,x⟩:=R.ow j l d h;have F:p∈n0 σ (fO ρ fr):=D8.mpr ⟨j,List.mem_filter.mpr ⟨List.mem_of_getElem? hk,by rw[h]⟩,g⟩;refine⟨_,hP hk g,?_⟩;cases d with
   |lst ds=>
    obtain⟨xs,e,r⟩:=x;have n:=(r.same s0).same c;exact .lst (T9.of (c p _ (by rw[N6 F];exact e))) n.len n.get
   |dct es=>
    obtain⟨xs,e,r⟩:=x;have n:=(r.same s0).same c;exact .dct (.inl (c p _ (by rw[N6 F];exact e))) n.keys n.get
   |_=>exact(show False from x).elim
 ·obtain⟨k,j,rfl,hk,⟨m,q,h⟩ | ⟨_,q,_⟩ | ⟨_,q,_⟩⟩:=ba e<;>cases q
 ·obtain⟨k,j,rfl,hk,⟨m,q,h⟩ | ⟨_,q,_⟩ | ⟨_,q,_⟩⟩:=ba a<;>cases q
 ·obtain⟨k,j,rfl,hk,⟨m,q,h⟩ | ⟨s,q,h⟩ | ⟨f,q,h⟩⟩:=ba e<;>cases q
  obtain⟨a,o,kvs,g,w,E⟩:=R.fz j es h;exact⟨a,o,kvs,hP hk g,c _ _ (s0 _ _ w),(E.same s0).same c⟩
 ·obtain⟨k,j,rfl,hk,⟨m,q,h⟩ | ⟨s,q,h⟩ | ⟨f,q,h⟩⟩:=ba e<;>cases q
 ·obtain⟨k,j,rfl,hk,⟨m,q,h⟩ | ⟨s,q,h⟩ | ⟨f,q,h⟩⟩:=ba e<;>cases q
  rcases h with h| ⟨l,h⟩
  ·obtain⟨L,y,C,p,dx,fs,z,A,H,I⟩:=R.ob.2 j fds h;exact⟨L,y,C,p,dx,fs,z,hP hk A,R.keep _ _ H,(I.same s0).same c⟩
  ·obtain⟨y,C,p,dx,fs,z,A,H,I,S,N,P,T⟩:=R.ob.1 j l fds h;exact⟨j,y,C,p,dx,fs,z,hP hk A,N,(P.same s0).same c⟩
end
noncomputable abbrev X0:XP:=λ_ _ _=>False
section
variable {X:Cx}{B:Bs}{mi:M (List D)}{mt:M Bool}{me:M W}{own:Nat}{fr:List Nat}
theorem rg(hf:∀S,S.K=B.K∧S.O=B.O→∀σ H Q,TD er S X0 mt σ H Q→tf σ H Q)(he:∀S,S.K=B.K∧S.O=B.O→∀σ H Q,TD C4 S X0 me σ H Q→te σ H Q)(t:TD C4 B ξ (F7 mi (C3 0) mt me 1 fr) σ H Q):
  nU (LV B ξ mi) (jN 0) tf te 1 fr σ H Q:=by
 obtain⟨G,ρ,R,r,e,pq⟩:=t;unfold F7 at e;cases Y:mi ρ with
 |none=>rw[M.bind_none Y]at e;cases e
 |some r1=>
  cases r1 with
  |ex x a=>
   rw[M.kM Y]at e;cases e;exact⟨G,ρ,_,R,Y,pq⟩
  |ok ds a=>
   rw[M.k9 Y]at e;refine⟨G,ρ,_,R,Y,λJ Z H1 s1 R1 gv=>?_⟩;unfold BK at e;cases hc:E5 (C3 0) mt me (bj 1 fr a) ds with
   |none=>rw[hc]at e;cases e
   |some ys=>
    rw[hc]at e;simp only[]at e;obtain⟨hz,e⟩:=t6 e;have T:∀i∈fO a fr,∃l d,a[i]?=g7 (g7 (.ow l d)):=λi hi=>(BO hi).2;have s0:j5 Z (plus Z H1 (n0 σ (fO a fr))):=λb o e=>by
     rw[B5 λm=>?_]
     ·exact e
     ·obtain⟨i,hi,e2⟩:=D8.mp m;obtain⟨l,d,h⟩:=T i hi;obtain⟨p',F,I,_⟩:=R1.ow i l d h;rw[e2]at F;cases F;rw[e]at I;cases I
    have a0:j5 (plus Z H1 (n0 σ (fO a fr))) H1:=λb o e=>by
     by_cases m:b∈n0 σ (fO a fr)
     ·rw[N6 m]at e;exact e
     ·rw[B5 m]at e;exact R1.gH b o e
    generalize b0:plus Z H1 (n0 σ (fO a fr))=P at s0 a0;refine⟨λi m X s=>∃j c f,m=ds.length-i∧i≤ds.length∧j5 P j∧j5 j s∧j5 H1 s∧(∀p o,j p=g7 o→P p=g7 o∨H1 p=g9)∧(∀p,s p=g9→H1 p=g9)∧v5 B.K j X c∧c.length≤i∧E5 (C3 0) mt me (bj 1 fr a) (ds.drop i)=g7 f∧c++f=ys,
     ⟨ds.length,P,[],ys,by simp,u3 _,j5.refl _,a0,j5.refl _,λp o e=>.inl e,λp e=>e,.nil,i8 _,by simpa using hc,rfl⟩,?_⟩
    rintro i m X s ⟨j,c,f,rfl,hle,F,I,a3,a4,a5,a6,a7,a8,a9⟩
    by_cases u:i<ds.length
    ·have ed:ds.drop i=ds[i]::ds.drop (i+1):=List.drop_eq_getElem_cons u;rw[ed]at a8;unfold E5 at a8;cases g:compTurn (C3 0) mt me (bj 1 fr a) ds[i]with
     |none=>rw[g]at a8;cases a8
     |some oy=>
      cases hr:E5 (C3 0) mt me (bj 1 fr a) (ds.drop (i+1))with
      |none=>rw[g,hr]at a8;cases oy<;>cases a8
      |some q=>
       rw[g,hr]at a8;refine .inr ⟨gv.go j s i (s0.trans F) I u,?_,λc0 H'=>∃j c f,j5 P j∧j5 j H'∧j5 H1 H'∧(∀p o,j p=g7 o→P p=g7 o∨H1 p=g9)∧(∀p,H' p=g9→H1 p=g9)∧v5 B.K j c0 c∧c.length≤i+1∧E5 (C3 0) mt me (bj 1 fr a) (ds.drop (i+1))=g7 f∧c++f=ys,
        λc0 H' ⟨c2,c1,q,b1,b2,b3,b4,b5,b6,b7,b8,b9⟩=>⟨ds.length-(i+1),by omega,c2,c1,q,rfl,u,b1,b2,b3,b4,b5,b6,b7,b8,b9⟩,λx H' y=>?_⟩
       ·rw[a6.len,v8];unfold small at hz;omega
       obtain⟨rfl,d,hd,rx⟩:=gv.yld j s H' i x (s0.trans F) I u y;have c3:d=ds[i]:=by
        rw[List.getElem?_eq_getElem u]at hd;exact(Option.some.inj hd).symm
       subst c3;have Rb:RS ⟨B.K,H1,H1,P,λ_=>g9,B.O⟩ j H' (seen 1 fr σ) (bj 1 fr a):=by
        subst b0;exact zw R1 F I a3 a4 a5 s0
       unfold compTurn at g;cases hg:C3 0 ds[i] (bj 1 fr a)with
       |none=>rw[hg]at g;cases g
       |some d0=>
        rw[hg]at g;simp only[]at g;have L:=hg;unfold C3 at L;split at L
        ·rename_i c4;cases L;have c5:=Rb.rk c4 rx;show tf ((seen 1 fr σ).set 0 (g7 x)) H' _;refine hf ⟨B.K,H1,H1,P,λ_=>g9,B.O⟩ ⟨rfl,rfl⟩ _ _ _ ⟨j,_,c5,?_⟩;cases U:mt ((bj 1 fr a).set 0 (g7 (.sh ds[i])))with
         |none=>rw[U]at g;cases g
         |some r3=>
          rw[U]at g;cases r3 with
          |ex x' E=>cases g
          |ok k E=>
           refine⟨_,U,λk' G3 H3 s3 R3 qk=>?_⟩;cases(show k'=k from qk);cases k with
           |false=>
            cases g;cases a8;rw[if_neg N3];exact⟨G3,c,f,F.trans s3,R3.gH,R3.keep,R3.gnew,R3.dom,a6.same s3,by omega,hr,a9⟩
           |true=>
            rw[if_pos rfl];simp only[]at g;cases n:M.bind me Q1 E with
            |none=>rw[n]at g;cases g
            |some r4=>
             rw[n]at g;cases r4 with
             |ex x' c6=>cases g
             |ok y' c6=>
              cases g;cases a8;cases N:me E with
              |none=>rw[M.bind_none N]at n;cases n
              |some r5=>
               cases r5 with
               |ex x' c7=>rw[M.kM N]at n;cases n
               |ok w c7=>
                rw[M.k9 N]at n;refine he ⟨B.K,H1,H1,P,λ_=>g9,B.O⟩ ⟨rfl,rfl⟩ _ _ _ ⟨G3,E,R3,_,N,λv G5 H5 s5 R5 q5=>?_⟩;obtain⟨G6,s6,R6,r6⟩:=q5.Q1 R5 n;have sa:=(s3.trans s5).trans s6;exact⟨G6,c++[y'],q,F.trans sa,R6.gH,R6.keep,R6.gnew,R6.dom,(a6.same sa).append (.one r6),by rw[List.length_append];show c.length+1≤i+1;omega,hr,by rw[List.append_assoc];exact a9⟩
        ·cases L
    ·have ei:i=ds.length:=by omega
     subst ei;rw[List.drop_length]at a8;cases a8;rw[List.append_nil]at a9;subst a9;refine .inl ⟨gv.stop j s (s0.trans F) I,λp hp=>?_⟩;have gp:j p=g9:=I.free hp;have sH:j5 s (upd s p (.lst X)):=bp hp _;have A:After B.K (plus Z H1 (n0 σ (fO a fr))) H1 (n0 σ []) j (upd s p (.lst X)) []:=by
      rw[b0];refine⟨λb o e=>sH b o (a3 b o (O6 _ _ b o e)),F,I.trans sH,a4,λb e=>?_,.nil⟩;by_cases z:b=p
      ·subst z;exact a5 _ hp
      ·rw[i9 z]at e;exact a5 b e
     have rr:mJ B.K H1 j (upd s p (.lst X)) (.ref p) (.own (.lst c)):=⟨p,rfl,gp,a5 p hp,X,l5,a6⟩
     split at e
     ·rename_i c8;cases e;obtain⟨Gn,sn,Rn,wn⟩:=V0 (li:=[]) R1 T (λi h=>by cases h) List.nodup_nil (λi h=>by cases h) A rfl rr (.inl ⟨by rw[List.all_nil,tG];exact c8,rfl⟩);exact pq _ Gn _ (s1.trans sn) Rn wn
     ·obtain⟨E,c9,rfl⟩:=Option.map_eq_some_iff.mp e;obtain⟨Gn,sn,Rn,wn⟩:=V0 (li:=[]) R1 T (λi h=>by cases h) List.nodup_nil (λi h=>by cases h) A rfl rr (.inr c9);exact pq _ Gn _ (s1.trans sn) Rn wn
variable {x:Str}{px pos:Pos}{M':List Str}{scope:Scope}{iter oY:Expr}{nR:List Expr}
theorem Kk:∀e s,XE Y X0 e s→False:=λe s ⟨_,_,_,_,_,_,h⟩=>h
theorem P2 (c:wI X scope (x::M') 1 fr)(hi:EE X B (.Name x px) iter mi)(i:∀cl C s H ex H0 HK G0 L,Kt (X.gj scope cl C (x::M') s H ex) ⟨B.K,H0,HK,G0,L,B.O⟩ nR mt)(j:∀cl C s H ex H0 HK G0 L,PD (X.gj scope cl C (x::M') s H ex) ⟨B.K,H0,HK,G0,L,B.O⟩ oY me)
  (k:X.calm=h7:=by rfl) (hx:scope.names.lookup x=g7 .local∨scope.names.lookup x=g7 .cell:=by first|exact .inl rfl|exact .inr rfl) (hs:∀x,foldedSetIterable iter X.env x=pure x:=by intro _;rfl):PD X B (.ListComp oY [⟨.Name x px,iter,nR,0⟩] scope pos) (F7 mi (C3 0) mt me 1 fr):=.mk λξ=>by
 have e:wI (rz X ξ) scope (x::M') 1 fr:=⟨c.kind,c.cells,c.names,c.free,c.nd,c.len,c.at'⟩
 refine(Jl (X:=rz X ξ) (tf:=λσ H Q=>∃a,(a.K=B.K∧a.O=B.O)∧TD er a X0 mt σ H Q) (te:=λσ H Q=>∃a,(a.K=B.K∧a.O=B.O)∧TD C4 a X0 me σ H Q) e (hi.ap ξ) (λcl C s H ex=>?_) (λcl C s H ex=>?_) k hx hs).imp λσ H Q t=>rg (λa b σ H Q t=>⟨a,b,t⟩) (λa b σ H Q t=>⟨a,b,t⟩) t
 ·intro pins f d H' Q I ⟨a,b,t⟩;obtain⟨g,h,hk,g0,l,ob⟩:=a;cases(show g=B.K from b.1);cases(show ob=B.O from b.2);exact PF.be (X:=X.gj scope cl C (x::M') s H ex) ((i cl C s H ex h hk g0 l).ap X0) Kk pins f d H' Q I t
 ·intro pins f d H' Q I ⟨a,b,t⟩;obtain⟨g,h,hk,g0,l,ob⟩:=a;cases(show g=B.K from b.1);cases(show ob=B.O from b.2);exact PE.be (X:=X.gj scope cl C (x::M') s H ex) ((j cl C s H ex h hk g0 l).ap X0) Kk pins f d H' Q I t
theorem pk{o c:Pos}(d:wI X scope (x::M') 1 fr)(hN:X.N.Nodup)(hi:EE X B (.Name x px) iter mi)(q:∀cl C s H ex H0 HK G0 L,Kt (X.gj scope cl C (x::M') s H ex) ⟨B.K,H0,HK,G0,L,B.O⟩ nR mt)(u:∀cl C s H ex H0 HK G0 L,PD (X.gj scope cl C (x::M') s H ex) ⟨B.K,H0,HK,G0,L,B.O⟩ oY me)
  (z:X.N[i]?=g7 y:=by rfl) (h:X.env.kindOf y=g7 .local:=by rfl) (A:X.calm=h7:=by rfl) (hx:scope.names.lookup x=g7 .local∨scope.names.lookup x=g7 .cell:=by first|exact .inl rfl|exact .inr rfl)
  (j:B4 (.ListComp oY [⟨.Name x px,iter,nR,0⟩] scope pos) (g7 (.Name y o)) c.line X.env=pure h7:=by with_unfolding_all rfl)
  (hs:∀x,foldedSetIterable iter X.env x=pure x:=by intro _;rfl):oX X B (.Assign [.Name y o] (.ListComp oY [⟨.Name x px,iter,nR,0⟩] scope pos) c) (u1 i (F7 mi (C3 0) mt me 1 fr)):=.mk λξ=>by
 have k:wI (rz X ξ) scope (x::M') 1 fr:=⟨d.kind,d.cells,d.names,d.free,d.nd,d.len,d.at'⟩
 refine(Ji (X:=rz X ξ) (tf:=λσ H Q=>∃a,(a.K=B.K∧a.O=B.O)∧TD er a X0 mt σ H Q) (te:=λσ H Q=>∃a,(a.K=B.K∧a.O=B.O)∧TD C4 a X0 me σ H Q) k hN (hi.ap ξ) (λcl C s H ex=>?_) (λcl C s H ex=>?_) z h A hx j hs).imp λS σ H t=>?_
 ·intro pins g f H' Q I ⟨a,b,t⟩;obtain⟨m,n,hk,g0,l,ob⟩:=a;cases(show m=B.K from b.1);cases(show ob=B.O from b.2);exact PF.be (X:=X.gj scope cl C (x::M') s H ex) ((q cl C s H ex n hk g0 l).ap X0) Kk pins g f H' Q I t
 ·intro pins g f H' Q I ⟨a,b,t⟩;obtain⟨m,n,hk,g0,l,ob⟩:=a;cases(show m=B.K from b.1);cases(show ob=B.O from b.2);exact PE.be (X:=X.gj scope cl C (x::M') s H ex) ((u cl C s H ex n hk g0 l).ap X0) Kk pins g f H' Q I t
 ·obtain⟨G,ρ,R,t⟩:=t;refine rg (λa b σ H Q t=>⟨a,b,t⟩) (λa b σ H Q t=>⟨a,b,t⟩) ((SD.step (O2:=C4) R t).mono λv H1 ⟨T,E,w,s1,F,J,r,e,p⟩=>?_);obtain⟨P,G',rfl,g,R'⟩:=ft F J e;exact p _ G' H1 g R'
end
noncomputable def Fh:D→D→Option W
 |.dct es,k=>(keyOf k).map λk=>W.val ((O3 es k).getD .z5)
 |_,_=>g9
noncomputable def rY (a b:M W):M W:=M.bind (R7 a) λx=>M.bind (Cr "dict" x) λ_=>M.bind b λy=>Ii Fh x y
section
variable {X:Cx}{B:Bs}{o e f value:Expr}{mo me mf mv:M W}{mr:M (List W)}{apos cpos pos mP:Pos}
theorem AX {K:PySem.W.Frag}{G:Hp}{kvs:List (Key×V)}{es:List (Key×D)}{k:Key}{z:V}{c:D}(r:m7 K G kvs es)(f:Rep K G z c):Rep K G ((bN kvs k).getD z) ((O3 es k).getD c):=by
 obtain⟨a,b⟩:=r.val k;cases hd:O3 es k with
 |none=>rw[b hd];exact f
 |some d=>
  obtain⟨v,e,g⟩:=a d hd;rw[e];exact g
theorem qy (hu:X.A.units+8<E7)(v:PD X B o mo)(z:PD X B e me)(m:M1 X o "get" apos e cpos:=by exact⟨rfl,rfl,rfl,rfl⟩):PD X B (.Call (.Attribute o "get" apos) [e] [] cpos) (rY mo me):=.mk λξ=>
 (zT (X:=rz X ξ) (show X.A.units+1<E7 by omega) (v.ap ξ) (z.ap ξ) ⟨m.base,m.few,m.line,m.trees⟩).imp λσ H Q t=>by
  obtain⟨G,ρ,R,t⟩:=t;have E:TD ik B ξ (R7 mo) σ H _:=TD.bind (O2:=ik) R t;refine TD.R7 (E.mono λx H1 ⟨G1,F,I,s1,c,⟨j,f⟩,J⟩=>?_);obtain⟨u,b,L,N⟩:=J.step λr h=>⟨(),_,(js h).1⟩;obtain⟨O,d,hd,ty⟩:=js L;cases O;cases d<;>first| (cases ty;done) | (exact absurd ty (by decide)) |skip
  obtain⟨a,kvs,rfl,P,r1⟩:=(j.get c hd).dct c.gH;refine⟨a,rfl,.inl ⟨kvs,P⟩,?_⟩;refine(TD.bind (O2:=C4) c N).mono λy l ⟨n,b,wb,s2,R2,S,T⟩=>?_;obtain⟨dx,dy,w,U,Y,q,p⟩:=vF T;have hx:=(j.keep s2 f:L4 B n l σ b _ I).get R2 U;cases dx<;>first| (cases q;done) |skip
  obtain⟨k,hk,rfl⟩:=Option.map_eq_some_iff.mp q;obtain⟨a',s,Z,g,i⟩:=hx.dct R2.gH;cases Z;have hv:=fC (S.get R2 Y) hk;subst hv;exact⟨_,eu.r g,p _ n l (j5.refl _) R2 (AX i .z5)⟩
end
noncomputable def cP (i:Nat)(k d:D):SM:=λρ=>match ρ[i]? with
 |some (g7 (.ow l (.dct es)))=>match keyOf k with
  |some k=>cf (small es.length) (g7 (.nx (ρ.set i (g7 (.ow l (.dct (putD es k d)))))))
  |none=>g9
 |some (g7 (.ow l (.lst ds)))=>match k with
  |.int j=>match yF ds.length j with
   |some n=>g7 (.nx (ρ.set i (g7 (.ow l (.lst (ds.set n d))))))
   |none=>g9
  |_=>g9
 |_=>g9
noncomputable def xq (a:M W)(i:Nat)(b mk:M W):SM:=C9 (R7 b) λc=>C9 a λ_=>C9 mk λe=>C9 (Q1 c) λd ρ=>match getD e ρ with
 |some k=>cP i k d ρ
 |none=>g9
noncomputable abbrev nv (i:Nat)(a mk:M W):SM:=xq (h8 i) i a mk
def wG (i:Nat)(b:M W):Prop:=∀ρ w a,b ρ=g7 (.ok w a)→w=.slot i∧a=ρ
theorem nW:wG i (h8 i):=λ_ _ _ h=>lF h
theorem set_dict {X:Cx}(f:X.A.units+8<E7):va X (λo i v H Q=>∃a H',o=.ref a∧Cf H a i v H'∧Q H'):=by
 intro pins s σ H o i v j iv u Q I b c d h;obtain⟨a,H',rfl,g,q⟩:=h;cases b;exact yl (by omega) I g c d λk e=>⟨H',e,q⟩
theorem _root_.L2.va.or(h:va X t)(h':va X a):va X (λo i v H Q=>t o i v H Q∨a o i v H Q):=by
 intro pins s σ H o i v b iv u Q I c d e q;rcases q with q|q
 ·exact h pins s σ H o i v b iv u Q I c d e q
 ·exact h' pins s σ H o i v b iv u Q I c d e q
section
variable {X:Cx}{B:Bs}{ξ:XP}{G H:Hp}{σ:St}{ρ:l9}{Dn:Ends}{o e value:Expr}{mo me mv:M W}{pos mP:Pos}
theorem SD.IT(R:RS B G H σ ρ)(t:qO B ξ G ρ (C9 (R7 m) f) Dn):TD C4 B ξ m σ H (λv H1=>∃c b a,j5 G c∧RS B c H1 σ b∧(L4 B c H1 σ b v a∧Ko a=h7)∧qO B ξ c b (f a) Dn):=
 TD.R7 (SD.step (O2:=ik) R t)
theorem SD.quiet {α:Type}{m:M α}{f:α→SM}(t:qO B ξ G ρ (C9 m f) Dn)(c:∀r,m ρ=g7 r→∃a b,r=.ok a b):∃a b,m ρ=g7 (.ok a b)∧qO B ξ G b (f a) Dn:=by
 obtain⟨r,e,p⟩:=t;unfold C9 at e;cases hr:m ρ with
 |none=>rw[hr]at e;cases e
 |some d=>
  obtain⟨a,b,rfl⟩:=c d hr;rw[hr]at e;exact⟨a,b,rfl,r,e,p⟩
theorem ic (i:Nat)(T:X.A.units+8<E7)(U:PD X B value mv)(Y:PD X B o mo)(hi:PD X B e me)(hm:wG i mo:=by exact nW)(hs:NO [.Subscript o e mP] value pos.line X.env=pure g8:=by rfl)(Z:NP [.Subscript o e mP] value X.env=pure g9:=by rfl)
  (h1:(assignEach [.Subscript o e mP] X.env).map (·.2)=[mU (.Subscript o e mP) X.env]:=by rfl)
  (ha:∀v,mU (.Subscript o e mP) X.env v=(do
   let s←P5 [v] (eval o X.env)
   let iv←P5 [v,s] (eval e X.env)
   gV mP
   P5 [v,s,iv] (Kg s iv v)
   release [v,s,iv] []):=by intro _;rfl):oX X B (.Assign [.Subscript o e mP] value pos) (xq mo i mv me):=.mk λξ=>
 (Gr (X:=rz X ξ) (U.ap ξ) (Gw (X:=rz X ξ) (Y.ap ξ) (hi.ap ξ) (set_list.or (set_dict T)) ha) hs Z h1).imp λDn σ H t=>by
  obtain⟨G,ρ,R,t⟩:=t;refine(SD.IT R t).mono λv H1 ⟨G1,a0,wv,s1,R1,⟨q1,E⟩,t2⟩=>?_;refine(SD.IU (O2:=C4) R1 t2).mono λx H2 ⟨G2,a1,wo,a,s2,R2,q2,t3⟩=>?_;obtain⟨rfl,rfl⟩:=hm _ _ _ a;have hx:σ[i]?=g7 (g7 x):=q2;refine(SD.step (O2:=C4) R2 t3).mono λy u ⟨G3,F,O,s3,R3,I,t4⟩=>?_;obtain⟨d,b,e4,r,a,p⟩:=SD.quiet t4 λr h=>fB h;have J:L4 B G3 u σ F v wv:=q1.keep (s2.trans s3) E;obtain⟨m,w,f,P⟩:=J.Q1 R3 e4;cases hk:getD O b with
  |none=>simp only[hk]at a;cases a
  |some Q=>
   simp only[hk]at a;have S:T3 B.K m u y Q:=by
    cases O with
    |val _=>exact L4.get f (I.keep w rfl:L4 B m u σ b y _) hk
    |slot _=>exact L4.get f (I.keep w rfl:L4 B m u σ b y _) hk
    |own d'=>
     cases hk;unfold cP at a;exfalso;obtain⟨z,rfl,_,_,oo,_⟩:=I;cases Q<;>first|exact(show False from oo).elim|skip
     ·split at a
      ·simp[keyOf]at a
      ·cases a
      ·cases a
     ·split at a
      ·simp[keyOf]at a
      ·cases a
      ·cases a
   unfold cP at a;split at a
   ·rename_i l es hi;split at a
    ·rename_i k L;obtain⟨hz,a⟩:=t6 a;cases a;obtain⟨z,rfl,g,kvs,c,q⟩:=slot_of f hi hx;have N:=fC S L;subst N;refine .inr ⟨z,_,rfl,Cf.k c ?_,?_⟩
     ·rw[q.len,v8];unfold small at hz;omega
     ·exact p σ m _ w (f.write hi hx ⟨_,l5,q.put k P⟩)
    ·cases a
   ·rename_i l ds hi;split at a
    ·rename_i j;split at a
     ·rename_i n hn;cases a;obtain⟨z,rfl,g,xs,c,q⟩:=slot_of f hi hx;refine .inl ⟨z,xs,j,n,rfl,S.int,c,by rw[q.len];exact hn,?_⟩;exact p σ m _ w (f.write hi hx ⟨_,l5,q.set P n⟩)
     ·cases a
    ·cases a
   ·cases a
end
noncomputable def Kl:D→String
 |.z5=>"NoneType"
 |.bl _=>"bool"
 |.int _=>"int"
 |.str _=>"str"
 |.tup _=>"tuple"
 |.lst _=>"list"
 |.dct _=>"dict"
 |.ty _=>"type"
noncomputable def za (a b:String):Bool:=a==b||(a == "bool" && b == "int")
noncomputable def LG:D→Bool
 |.ty _=>h7
 |_=>g8
noncomputable def xO:List D→Option W
 | [d,.ty T]=>cf (LG d=g8∧T∈["int","bool","str","list","tuple","dict"]) (vB (za (Kl d) T))
 |_=>g9
theorem DB (K:PySem.W.Frag):∀a∈["NoneType","bool","int","str","tuple","list","dict"],∀b∈["int","bool","str","list","tuple","dict"],PySem.W.kitOne K (.type a) (.type b)=g7 (za a b):=by
 intro a c b d;simp only[List.mem_cons,List.not_mem_nil,or_false]at c d;rcases c with rfl|rfl|rfl|rfl|rfl|rfl|rfl<;>rcases d with rfl|rfl|rfl|rfl|rfl|rfl<;>kernel_rfl
theorem yt {X:Cx}{K:PySem.W.Frag}(l:X.K=K):E6 X (.builtin "isinstance") (λxs H Q=>∃x T d,xs=[x,.ty T]∧Rep K H x d∧(∀n,d≠.ty n)∧T∈["int","bool","str","list","tuple","dict"]∧Q (.bl (za (Kl d) T)) H):=by
 subst l;intro pins s σ H xs us Q I r h;obtain⟨x,T,d,rfl,hx,m,v,q⟩:=h;obtain⟨u,y,rfl,e,j⟩:=vals2 r;cases j;have fin:∀k,EP X pins σ Q (.bool (za (Kl d) T)) {s with toks:=k}:=λk=>⟨.bl _,H,I.tok k,rfl,q⟩
 have c:=λa w=>DB X.K a w T v;cases hx with
 |z5=>cases e;exact PySem.W.kia_one PySem.W.kitx_none I.fD True.intro (c _ (by simp)) (λz=>nomatch z) fin
 |bl b=>cases e;exact PySem.W.kia_one PySem.W.kitx_bool I.fD True.intro (c _ (by simp)) (λz=>nomatch z) fin
 |int i=>obtain⟨t,rfl⟩:=e;exact PySem.W.kia_one PySem.W.kitx_int I.fD True.intro (c _ (by simp)) (λz=>nomatch z) fin
 |str cs=>obtain⟨t,rfl⟩:=e;exact PySem.W.kia_one PySem.W.kitx_str I.fD True.intro (c _ (by simp)) (λz=>nomatch z) fin
 |ty n=>exact absurd rfl (m n)
 |tup h _ _=>
  cases e;obtain⟨_,_,p,_⟩:=I.tuple h;obtain⟨o,f,g,_⟩:=p;exact PySem.W.kia_one PySem.W.kitx_tuple I.fD ⟨o,f,g⟩ (c _ (by simp)) (λz=>nomatch z) fin
 |lst h _ _=>
  cases e;obtain⟨_,_,p,_⟩:=I.list h;obtain⟨o,n,f,g,_⟩:=p;exact PySem.W.kia_one PySem.W.kitx_list I.fD ⟨o,f,g⟩ (c _ (by simp)) (λz=>nomatch z) fin
 |dct h _ _=>
  cases e;obtain⟨_,_,vs,_,dd⟩:=V8 I.hok h;obtain⟨o,es,A,f,g,_⟩:=dd;exact PySem.W.kia_one PySem.W.kitx_dict I.fD ⟨o,f,g.1⟩ (c _ (by simp)) (λz=>nomatch z) fin
section
variable {X:Cx}{B:Bs}{e a b c:Expr}{es:List Expr}{mr:M (List W)}{pos p:Pos}
theorem AH:fR B (λxs H Q=>∃x T d,xs=[x,.ty T]∧Rep B.K H x d∧(∀n,d≠.ty n)∧T∈["int","bool","str","list","tuple","dict"]∧Q (.bl (za (Kl d) T)) H) xO:=by
 intro G H σ ρ xs ds w Q R h e p
 match ds,e with
 | [d,.ty T],e=>
  obtain⟨⟨a,b⟩,e⟩:=t6 e;cases e;obtain⟨x,y,rfl,hx,c⟩:=yQ h;exact⟨x,T,d,by rw[c.ty],hx.rep R.gH,(λn z=>by rw[z]at a;cases a),b,p _ G H (j5.refl _) R (.bl _)⟩
theorem wy (c:X.mg "isinstance"=g9) (d:iW X B [e,a] mr) (f:Gl X "isinstance":=by rfl) (g:X.K=B.K:=by rfl) (h:i1 [e,a] X.env=(g8,eval e X.env)::i1 [a] X.env:=by rfl) (b:(m4 pos (i1 [a] X.env)).any (·.1)=g8:=by rfl):PD X B (.Call (.Name "isinstance" p) [e,a] [] pos) (L6 xO mr):=
 dM (λξ=>yt (X:=rz X ξ) (K:=B.K) g) AH f c L5 d (by decide) (by decide) h b
end
noncomputable def intsOf:List D→Option (List Int)
 | []=>g7 []
 |.int i::ds=>(intsOf ds).map (i::·)
 |_=>g9
theorem jk:∀{ds:List D} {ns:List Int},intsOf ds=g7 ns→ds=ns.map D.int
 | [],_,h=>by cases h;rfl
 |.int b::ds,bs,h=>by
  unfold intsOf at h;obtain⟨a,e,rfl⟩:=Option.map_eq_some_iff.mp h;rw[jk e];rfl
 |.z5::_,_,h=>by cases h
 |.bl _::_,_,h=>by cases h
 |.str _::_,_,h=>by cases h
 |.ty _::_,_,h=>by cases h
 |.tup _::_,_,h=>by cases h
 |.lst _::_,_,h=>by cases h
 |.dct _::_,_,h=>by cases h
theorem AC {K:PySem.W.Frag}{G:Hp}:∀{ns:List Int} {xs:List V},v5 K G xs (ns.map D.int)→xs=ns.map V.int
 | [],[],_=>rfl
 | [],_::_,r=>by have:=r.len;simp at this
 |_::_,[],r=>by have:=r.len;simp at this
 |b::bs,x::xs,r=>by
  have h:=r.head;cases h;rw[AC r.tail];rfl
noncomputable def sK (f:D→D→Option Bool)(fs:List (Key×D)):List (Key×D)→Option Bool
 | []=>g7 h7
 |e::es=>match O3 fs e.1 with
  |none=>g7 g8
  |some y=>match f e.2 y,sK f fs es with
   |some a,g7 b=>g7 (a&&b)
   |_,_=>g9
noncomputable def eqT:D→D→Option Bool
 |.dct es,.dct fs=>if es.length=fs.length then sK (gd 6) fs es else g7 g8
 |d,e=>gd 8 d e
noncomputable def L1 (d e:D):Option W:=(eqT d e).bind vB
noncomputable def S0 (d e:D):Option W:=(eqT d e).bind λb=>vB (!b)
section
variable {X:Cx}{pins:List (Addr×Obj)}{σ:St}{H:Hp}{s:Shared}
theorem vU (I:Inv X pins σ H s){A:Around}(m:A.units+6<E7)(n:m7 X.K H c fs)(k2:KV c d):∀{es:List (Key×D)} {kvs:List (Key×V)} {vs:List (Key×Value)} {b:Bool},sK (gd 6) fs es=g7 b→m7 X.K H kvs es→KV kvs vs→PySem.W.KeqHits A s d vs b:=by
 intro es kvs vs b h r k;revert vs b;refine m7.ind (P:=λkvs es=>∀{vs:List (Key×Value)} {b:Bool},sK (gd 6) fs es=g7 b→KV kvs vs→PySem.W.KeqHits A s d vs b) ?_ ?_ r
 ·intro vs b h k;cases k;cases h;exact .nil
 ·intro p e kvs es hk hr _ ih vs b h k;unfold KV at k;cases k with
  | @cons _ q _ G g t=>
   unfold sK at h;have i:=k2.val p.1;obtain⟨o,w⟩:=n.val p.1;have x:q=(p.1,q.2):=by rw[g.1]
   rw[x];cases f:O3 fs e.1 with
   |none=>
    rw[f]at h;cases h;rw[←hk]at f;rw[w f]at i;exact .miss (bG.none_of i)
   |some y=>
    rw[f]at h;simp only[]at h;cases j:gd 6 e.2 y with
    |none=>rw[j]at h;cases h
    |some a=>
     cases l:sK (gd 6) fs es with
     |none=>rw[j,l]at h;cases h
     |some J=>
      rw[j,l]at h;cases h;rw[←hk]at f;obtain⟨v,z,B⟩:=o y f;rw[z]at i;obtain⟨u,E,F⟩:=bG.some_of i;exact .hit E (kK I 6 j hr B g.2 F m).1 (ih l t)
end
theorem vE {X:Cx}{K:PySem.W.Frag}(t:X.K=K)(G:X.A.units+8<E7):fP X (A0 .Eq) (λx y H Q=>∃a c d f es fs b,x=.ref a∧y=.ref c∧Rd H a (.dK d)∧Rd H c (.dK f)∧m7 K H d es∧m7 K H f fs∧eqT (.dct es) (.dct fs)=g7 b∧Q (.bl b) H):=by
 subst t;intro pins s σ H x y v u Q I w B h;obtain⟨a,c,d,f,es,fs,b,rfl,rfl,E,F,n,o,e,q⟩:=h;cases w;cases B;obtain⟨z,p,vs,j,dd⟩:=V8 I.hok E;obtain⟨J,k,g,i,l⟩:=V8 I.hok F;have L:=j.length;have N:=i.length;have O:=n.len;have P:=o.len;have e:(if es.length=fs.length then sK (gd 6) fs es else g7 g8)=g7 b:=e;split at e
 ·rename_i hl;refine PySem.W.keq_eq (r:=b) p k dd l (by omega) (λ_=>vU I (by show X.A.units+1+6<_;omega) o i e n j) ?_;have m:(vs.length==g.length&&b)=b:=by rw[show(vs.length==g.length)=h7 by simp;omega,dR]
  rw[m];exact gL I q rfl
 ·rename_i hl;cases e;refine PySem.W.keq_eq (r:=h7) p k dd l (by omega) (λz=>absurd z (by omega)) ?_;have m:(vs.length==g.length&&h7)=g8:=by rw[show(vs.length==g.length)=g8 by simp;omega,Y2]
  rw[m];exact gL I q rfl
theorem vD {X:Cx}{K:PySem.W.Frag}(t:X.K=K)(G:X.A.units+8<E7):fP X (A0 .NotEq) (λx y H Q=>∃a c d f es fs b,x=.ref a∧y=.ref c∧Rd H a (.dK d)∧Rd H c (.dK f)∧m7 K H d es∧m7 K H f fs∧eqT (.dct es) (.dct fs)=g7 b∧Q (.bl (!b)) H):=by
 subst t;intro pins s σ H x y v u Q I w B h;obtain⟨a,c,d,f,es,fs,b,rfl,rfl,E,F,n,o,e,q⟩:=h;cases w;cases B;obtain⟨z,p,vs,j,dd⟩:=V8 I.hok E;obtain⟨J,k,g,i,l⟩:=V8 I.hok F;have L:=j.length;have N:=i.length;have O:=n.len;have P:=o.len;have e:(if es.length=fs.length then sK (gd 6) fs es else g7 g8)=g7 b:=e;split at e
 ·rename_i hl;refine PySem.W.keq_ne (r:=b) p k dd l (by omega) (λ_=>vU I (by show X.A.units+1+6<_;omega) o i e n j) ?_;have m:(vs.length==g.length&&b)=b:=by rw[show(vs.length==g.length)=h7 by simp;omega,dR]
  rw[m];exact gL I q rfl
 ·rename_i hl;cases e;refine PySem.W.keq_ne (r:=h7) p k dd l (by omega) (λz=>absurd z (by omega)) ?_;have m:(vs.length==g.length&&h7)=g8:=by rw[show(vs.length==g.length)=g8 by simp;omega,Y2]
  rw[m];exact gL I q rfl
section
variable {X:Cx}{B:Bs}{e a b c:Expr}{ma mb mc:M W}{pos:Pos}
theorem oG {d e:D}{b:Bool}(h:eqT d e=g7 b):(∃es fs,d=.dct es∧e=.dct fs)∨gd 8 d e=g7 b:=by
 unfold eqT at h;split at h
 ·exact .inl ⟨_,_,rfl,rfl⟩
 ·exact .inr h
theorem sk:fS B (λx y H Q=>(∃d e b,Rep B.K H x d∧Rep B.K H y e∧gd 8 d e=g7 b∧Q (.bl b) H)∨∃a c f g es fs b,x=.ref a∧y=.ref c∧Rd H a (.dK f)∧Rd H c (.dK g)∧m7 B.K H f es∧m7 B.K H g fs∧eqT (.dct es) (.dct fs)=g7 b∧Q (.bl b) H) L1:=by
 intro G H σ ρ x y dx i w Q R hx j e p;unfold L1 at e;cases h:eqT dx i with
 |none=>rw[h]at e;cases e
 |some b=>
  rw[h]at e;cases e;rcases oG h with⟨es,fs,rfl,rfl⟩ |k
  ·obtain⟨l,k1,rfl,m,n⟩:=hx.dct R.gH;obtain⟨o,k2,rfl,q,r⟩:=j.dct R.gH;exact .inr ⟨l,o,k1,k2,es,fs,b,rfl,rfl,m,q,n.same R.gH,r.same R.gH,h,p _ G H (j5.refl _) R (.bl _)⟩
  ·exact .inl ⟨dx,i,b,hx.rep R.gH,j.rep R.gH,k,p _ G H (j5.refl _) R (.bl _)⟩
theorem sj:fS B (λx y H Q=>(∃d e b,Rep B.K H x d∧Rep B.K H y e∧gd 8 d e=g7 b∧Q (.bl (!b)) H)∨∃a c f g es fs b,x=.ref a∧y=.ref c∧Rd H a (.dK f)∧Rd H c (.dK g)∧m7 B.K H f es∧m7 B.K H g fs∧eqT (.dct es) (.dct fs)=g7 b∧Q (.bl (!b)) H) S0:=by
 intro G H σ ρ x y dx i w Q R hx j e p;unfold S0 at e;cases h:eqT dx i with
 |none=>rw[h]at e;cases e
 |some b=>
  rw[h]at e;cases e;rcases oG h with⟨es,fs,rfl,rfl⟩ |k
  ·obtain⟨l,k1,rfl,m,n⟩:=hx.dct R.gH;obtain⟨o,k2,rfl,q,r⟩:=j.dct R.gH;exact .inr ⟨l,o,k1,k2,es,fs,b,rfl,rfl,m,q,n.same R.gH,r.same R.gH,h,p _ G H (j5.refl _) R (.bl _)⟩
  ·exact .inl ⟨dx,i,b,hx.rep R.gH,j.rep R.gH,k,p _ G H (j5.refl _) R (.bl _)⟩
theorem jR (c:X.A.units+8<E7)(e:PD X B a ma)(f:PD X B b mb)(d:X.K=B.K:=by rfl):PD X B (.Compare a [.Eq] [b] pos) (i3 L1 ma mb):=lA (λξ=>(Ab (X:=rz X ξ) d c).or (vE d c)) sk e f (bq _)
theorem Fj (c:X.A.units+8<E7)(e:PD X B a ma)(f:PD X B b mb)(d:X.K=B.K:=by rfl):PD X B (.Compare a [.NotEq] [b] pos) (i3 S0 ma mb):=lA (λξ=>(zW (X:=rz X ξ) d c).or (vD d c)) sj e f (bq _)
theorem Z4 (c:X.A.units+8<E7)(e:PD X B a ma)(f:PD X B b mb)(d:X.K=B.K:=by rfl):qP X B (.Compare a [.Eq] [b] pos) (v4 (i3 L1 ma mb)):=du (λξ=>(Ab (X:=rz X ξ) d c).or (vE d c)) sk e f (bq _)
theorem bR (c:X.A.units+8<E7)(e:PD X B a ma)(f:PD X B b mb)(d:X.K=B.K:=by rfl):qP X B (.Compare a [.NotEq] [b] pos) (v4 (i3 S0 ma mb)):=du (λξ=>(zW (X:=rz X ξ) d c).or (vD d c)) sj e f (bq _)
end
noncomputable def xH (m:M W):M W:=M.bind m λw ρ=>match getD w ρ with
 |some (.int i)=>cf (i.natAbs.log2<1920) (g7 (.ok (.val (.str (Wd.hw i))) ρ))
 |some (.str cs)=>cf (small cs.length) (g7 (.ok (.val (.str cs)) ρ))
 |_=>g9
section
variable {X:Cx}{B:Bs}{e v1 v2:Expr}{es:List Expr}{me:M W}{pos:Pos}
theorem GE(h:PE X e a):PE X (.FormattedValue e (-1) g9 pos) (λσ H Q=>a σ H λv H1=>(∃i:Int,v=.int i∧i.natAbs.log2<1920∧Q (.str (Str.ofString (toString i))) H1)∨∃x:Str,v=.str x∧x.length≤sizeLine∧Q (.str x) H1):=by
 intro pins s σ H Q I c;refine MQ (F9 (h pins s σ H _ I c) λu s1 ⟨v,H1,b,r,q⟩=>?_);rcases q with⟨i,rfl,hl,q⟩ | ⟨x,rfl,hl,q⟩
 ·obtain⟨t,rfl⟩:=r;exact MC hl ⟨.str _,H1,b.tok _,⟨_,rfl⟩,q⟩
 ·obtain⟨t,rfl⟩:=r;exact MB (λd f=>⟨.str x,H1,b.tok _,⟨_,rfl⟩,q⟩) hl
theorem JR (h:PD X B e me):PD X B (.FormattedValue e (-1) g9 pos) (xH me):=.mk λξ=>(GE (h.ap ξ)).imp λσ H Q t=>by
 obtain⟨G,ρ,R,t⟩:=t;refine(TD.bind (O2:=C4) R t).mono λx H1 ⟨c,f,w,s1,a,d,r,e,p⟩=>?_;dsimp only at e;split at e
 ·rename_i i hd;obtain⟨b,e⟩:=t6 e;cases e;refine .inl ⟨i,(d.get a hd).int,b,?_⟩;rw[Wd.str_int];exact p _ c H1 (j5.refl _) a (.str _)
 ·rename_i cs hd;obtain⟨b,e⟩:=t6 e;cases e;exact .inr ⟨tx cs,(d.get a hd).str,by rw[ao];exact G9 b,p _ c H1 (j5.refl _) a (.str _)⟩
 ·cases e
noncomputable abbrev MJ:=List Nat→M W
noncomputable def NF (B:Bs)(ξ:XP)(m:MJ):TJ:=λσ H out Q=>∃cs,out=tx cs∧TD C4 B ξ (m cs) σ H Q
structure Ks (X:Cx) (B:Bs) (es:List Expr) (m:MJ):Prop where
 ap:∀ξ,PJ (rz X ξ) es (NF B ξ m)
noncomputable def vR:MJ:=λcs ρ=>cf (small cs.length) (g7 (.ok (.val (.str cs)) ρ))
noncomputable def dE (me:M W)(m:MJ):MJ:=λcs=>M.bind me λw ρ=>match getD w ρ with
 |some (.str y)=>cf (small (cs++y).length) (m (cs++y) ρ)
 |_=>g9
theorem _root_.L2.PJ.imp(h:PJ X es t)(i:∀σ H out Q,a σ H out Q→t σ H out Q):PJ X es a:=λpins s σ H out Q I q=>h pins s σ H out Q I (i σ H out Q q)
theorem Jv:Ks X B [] vR:=.mk λξ=>(Gu (X:=rz X ξ)).imp λσ H out Q t=>by
 obtain⟨cs,rfl,G,ρ,R,r,e,p⟩:=t;obtain⟨a,e⟩:=t6 e;cases e;exact⟨by rw[ao];exact G9 a,p _ G H (j5.refl _) R (.str _)⟩
theorem ui(c:PD X B e me)(hr:Ks X B es m)(hs:ef (e::es) X.env=eval e X.env::ef es X.env:=by rfl):Ks X B (e::es) (dE me m):=.mk λξ=>(Dl (X:=rz X ξ) (c.ap ξ) (hr.ap ξ) hs).imp λσ H out Q t=>by
 obtain⟨cs,rfl,G,ρ,R,t⟩:=t;refine(TD.bind (O2:=C4) R t).mono λx H1 ⟨d,a,w,s1,b,f,r,e,p⟩=>?_;dsimp only at e;split at e
 ·rename_i y hd;obtain⟨g,e⟩:=t6 e;refine⟨tx y,(f.get b hd).str,by rw[tJ,ao];exact G9 g,cs++y,tJ _ _,d,a,b,r,e,p⟩
 ·cases e
noncomputable def Ak (m:MJ):M W:=m []
theorem BC(h:Ks X B (v1::v2::es) m)(hs:ef (v1::v2::es) X.env=eval v1 X.env::eval v2 X.env::ef es X.env:=by rfl):PD X B (.JoinedStr (v1::v2::es) pos) (Ak m):=.mk λξ=>(xw (X:=rz X ξ) (h.ap ξ) hs).imp λσ H Q t=>⟨[],rfl,t⟩
end
noncomputable def Ih:W→W
 |.own d=>.val d
 |w=>w
section
variable {m ma mb mo mk mf:M W}{mr:M (List W)}{ρ m9 A5 jZ Im:l9}{w wa wb wc:W}{ws:List W}{d dx dy dz:D}{ds:List D}{i j:Nat}{k k2:Bool}{f:D→D→Option W}{s1 s2:SM}{r:Option SR}{c c1 c2:M Bool}
theorem cV:getD (Ih w) ρ=getD w ρ:=by cases w<;>rfl
theorem dg (h:m ρ=g7 (.ok w m9)):R7 m ρ=g7 (.ok (Ih w) m9):=by
 cases w with
 |own d=>exact ze h
 |val d=>exact zd h
 |slot i=>exact xf h
theorem u0:mC d ρ=g7 (.ok (.val d) ρ):=rfl
theorem i5 {c:C}(h:ρ[i]?=g7 (g7 c)):h8 i ρ=g7 (.ok (.slot i) ρ):=by unfold h8;rw[h]
theorem j8 (a:ma ρ=g7 (.ok wa m9))(b:mb m9=g7 (.ok wb A5))(hx:getD wa A5=g7 dx)(c:getD wb A5=g7 dy)(d:f dx dy=g7 w):i3 f ma mb ρ=g7 (.ok w A5):=by
 unfold i3;rw[M.k9 (dg a),M.k9 b];unfold Ii;rw[cV,hx,c];simp only[d,Option.map_some]
theorem lY {f:D→Option W}(a:ma ρ=g7 (.ok wa m9))(hx:getD wa m9=g7 dx)(b:f dx=g7 w):dV f ma ρ=g7 (.ok w m9):=by
 unfold dV;rw[M.k9 a];unfold Ij;rw[hx];simp only[b,Option.map_some]
theorem n9:k6 ρ=g7 (.ok [] ρ):=rfl
theorem k7 (a:ma ρ=g7 (.ok wa m9))(b:mr m9=g7 (.ok ws A5)):i2 ma mr ρ=g7 (.ok (Ih wa::ws) A5):=by
 unfold i2;rw[M.k9 (dg a),M.k9 b];rfl
theorem bD {f:List D→Option W}(a:mr ρ=g7 (.ok ws m9))(hx:bz ws m9=g7 ds)(b:f ds=g7 w):L6 f mr ρ=g7 (.ok w m9):=by
 unfold L6;rw[M.k9 a];unfold Kp;rw[hx];simp only[b,Option.map_some]
theorem ck(b:mr ρ=g7 (.ok ws m9))(hx:J2 ms ws m9=g7 ds)(c:eX (B0 ms ws) (S9 m9 ms ws)=h7)(d:a ds=g7 (.ret w fin))(hs:pj (B0 ms ws) fin m9=g7 A5)
  (e:(dZ w&&fin.all X1)=h7):u5 ms a mr ρ=g7 (.ok w A5):=by
 unfold u5;rw[M.k9 b];unfold oP;rw[hx];simp only[];rw[if_pos c,d];simp only[hs];rw[if_pos e]
theorem ml(b:mr ρ=g7 (.ok ws m9))(hx:J2 ms ws m9=g7 ds)(c:eX (B0 ms ws) (S9 m9 ms ws)=h7)(d:a ds=g7 (.ret w fin))(hs:pj (B0 ms ws) fin m9=g7 A5)
  (e:S9 m9 ms ws=[]):u5 ms a mr ρ=g7 (.ok w A5):=by
 unfold u5;rw[M.k9 b];unfold oP;rw[hx];simp only[];rw[if_pos c,d];simp only[hs];split
 ·rfl
 ·rw[e];rfl
theorem A9 (a:m ρ=g7 (.ok (.val (.bl k)) m9)):v4 m ρ=g7 (.ok k m9):=by unfold v4;rw[M.k9 a]
theorem F1 (a:m ρ=g7 (.ok w m9))(hx:getD w m9=g7 d)(b:pf d=g7 k):as m ρ=g7 (.ok k m9):=by
 unfold as;rw[M.k9 a];simp only[hx,b,Option.map_some]
theorem mn (a:c1 ρ=g7 (.ok k m9))(b:c2 m9=g7 (.ok k2 m9)):bP c1 c2 ρ=g7 (.ok (k&&k2) m9):=by
 unfold bP;rw[M.k9 a];cases k with
 |true=>exact b
 |false=>rfl
theorem qo (a:c1 ρ=g7 (.ok k m9))(hk:k=g8):bP c1 c2 ρ=g7 (.ok g8 m9):=by
 subst hk;unfold bP;rw[M.k9 a];rfl
theorem qm(b:c1 ρ=g7 (.ok k m9))(hk:k=h7)(c:c2 m9=a):bP c1 c2 ρ=a:=by
 subst hk;unfold bP;rw[M.k9 b];exact c
theorem Bn (a:c1 ρ=g7 (.ok k m9))(b:c2 m9=g7 (.ok k2 m9)):qV c1 c2 ρ=g7 (.ok (k||k2) m9):=by
 unfold qV;rw[M.k9 a];cases k with
 |true=>rfl
 |false=>exact b
theorem uJ (a:c1 ρ=g7 (.ok k m9))(hk:k=h7):qV c1 c2 ρ=g7 (.ok h7 m9):=by
 subst hk;unfold qV;rw[M.k9 a];rfl
theorem jp(b:c1 ρ=g7 (.ok k m9))(hk:k=g8)(c:c2 m9=a):qV c1 c2 ρ=a:=by
 subst hk;unfold qV;rw[M.k9 b];exact c
theorem S2 (a:c1 ρ=g7 (.ok k m9)):kk c1 ρ=g7 (.ok (!k) m9):=by unfold kk;rw[M.k9 a];rfl
theorem Fo (hx:getD w ρ=g7 (.bl k)):GP w ρ=g7 (.ok k ρ):=by unfold GP;rw[hx]
theorem sB(b:ma ρ=g7 (.ok wa m9))(hx:getD wa m9=g7 (.bl k))(hk:k=h7)(c:mb m9=a):eN ma mb ρ=a:=by
 subst hk;unfold eN;rw[M.k9 b,M.k9 (Fo hx)];exact c
theorem sC (a:ma ρ=g7 (.ok wa m9))(hx:getD wa m9=g7 (.bl k))(hk:k=g8):eN ma mb ρ=g7 (.ok (.val (.bl g8)) m9):=by
 subst hk;unfold eN;rw[M.k9 a,M.k9 (Fo hx)];rfl
theorem eS (a:mr ρ=g7 (.ok ws m9))(hl:Z9 ws m9=g7 (.ok ds A5))(b:small ds.length):aP mr ρ=g7 (.ok (.val (.tup ds)) A5):=by
 unfold aP;rw[M.k9 a,M.k9 hl];exact x9 b
theorem qi (a:mr ρ=g7 (.ok ws m9))(hl:Z9 ws m9=g7 (.ok ds A5))(b:small ds.length):aQ mr ρ=g7 (.ok (.own (.lst ds)) A5):=by
 unfold aQ;rw[M.k9 a,M.k9 hl];exact x9 b
theorem yi(b:ρ[i]?=g7 (g7 (.ow l (.lst a))))(c:mr ρ=g7 (.ok [w] m9))(hl:Q1 w m9=g7 (.ok d A5))(e:A5[i]?=g7 (g7 (.ow l (.lst ds))))(f:small ds.length):
  N7 i mr ρ=g7 (.ok (.val .z5) (A5.set i (g7 (.ow l (.lst (ds++[d])))))):=by
 unfold N7;have g:Cr "list" (.slot i) ρ=g7 (.ok () ρ):=by
  unfold Cr getD;simp only[b];rfl
 rw[M.k9 (i5 b),M.k9 g,M.k9 c];show M.bind (Q1 w) (iQ i) m9=_;rw[M.k9 hl];unfold iQ;rw[e];exact x9 f
theorem Ej(c:mo ρ=g7 (.ok wa m9))(d:getD wa m9=g7 (.dct a))(e:mk m9=g7 (.ok wb A5))(hx:getD wa A5=g7 (.dct es))(f:getD wb A5=g7 dy)(hk:keyOf dy=g7 b):rY mo mk ρ=g7 (.ok (.val ((O3 es b).getD .z5)) A5):=by
 unfold rY;have g:Cr "dict" (Ih wa) m9=g7 (.ok () m9):=by
  unfold Cr;rw[cV,d];rfl
 rw[M.k9 (dg c),M.k9 g,M.k9 e];unfold Ii;rw[cV,hx,f];simp only[Fh,hk,Option.map_some]
theorem Eg(a:m ρ=g7 (.ok w m9))(hx:getD w m9=g7 (.int n)):dW m ρ=g7 (.ok (g7 n) m9):=by
 unfold dW;rw[M.k9 a];simp only[hx]
theorem JE:(M.pure g9:M (Option Int)) ρ=g7 (.ok g9 ρ):=rfl
theorem JC {a b:M (Option Int)}{lo hi:Option Int}(c:ma ρ=g7 (.ok wa m9))(hl:a m9=g7 (.ok lo A5))(d:b A5=g7 (.ok hi jZ))(hx:getD wa jZ=g7 dx)(e:Gb dx lo hi=g7 w):yE ma a b ρ=g7 (.ok w jZ):=by
 unfold yE;rw[M.k9 (dg c),M.k9 hl,M.k9 d];unfold Ij;rw[cV,hx];simp only[e,Option.map_some]
theorem n3 (a:s1 ρ=g7 (.nx m9))(b:s2 m9=r):l6 s1 s2 ρ=r:=by rw[CS a];exact b
theorem dJ (a:s1 ρ=g7 (.rt w m9)):l6 s1 s2 ρ=g7 (.rt w m9):=by unfold l6;rw[a]
theorem M7:Z8 ρ=g7 (.nx ρ):=rfl
theorem S1 (a:m ρ=g7 (.ok w m9))(hs:eC i w m9=g7 (.nx A5)):u1 i m ρ=g7 (.nx A5):=by unfold u1;rw[u8 a];exact hs
theorem ay(b:m ρ=g7 (.ok w m9))(hs:Gh w m9=g7 a):retS m ρ=g7 a:=by unfold retS;rw[u8 b];exact hs
theorem fJ (a:m ρ=g7 (.ok w m9)):M8 m ρ=g7 (.nx m9):=by unfold M8;rw[u8 a];rfl
theorem U9 (a:c ρ=g7 (.ok k m9))(hk:k=h7)(h:s1 m9=r):W6 c s1 s2 ρ=r:=by subst hk;unfold W6;rw[u8 a];exact h
theorem P1 (a:c ρ=g7 (.ok k m9))(hk:k=g8)(h:s2 m9=r):W6 c s1 s2 ρ=r:=by subst hk;unfold W6;rw[u8 a];exact h
theorem lZ (a:m ρ=g7 (.ok wa m9))(c:m9[i]?=g7 (g7 b))(hk:mk m9=g7 (.ok wb A5))(hl:Q1 (Ih wa) A5=g7 (.ok d jZ))(e:getD wb jZ=g7 dy)(f:cP i dy d jZ=r):nv i m mk ρ=r:=by
 unfold nv xq;rw[u8 (dg a),u8 (i5 c),u8 hk,u8 hl];simp only[e];exact f
theorem qj(hi:a ρ=g7 (.ok ds m9))(h:forL tg s1 ds m9=r):aa a tg s1 ρ=r:=by unfold aa;rw[u8 hi];exact h
theorem qg(a:mr ρ=g7 (.ok ws m9))(hx:bz ws m9=g7 ds)(b:g ds=g7 es):kh g mr ρ=g7 (.ok es m9):=by
 unfold kh;rw[M.k9 a];simp only[hx,b,Option.map_some]
theorem aY(a:m ρ=g7 (.ok w m9))(hl:Q1 w m9=g7 (.ok d A5))(b:LF d=g7 es):z6 m ρ=g7 (.ok es A5):=by
 unfold z6;rw[M.k9 a,M.k9 hl];simp only[b,Option.map_some]
theorem Ek {b:M (List D)}{tg:FT}{mt:M Bool}{c:M W}{own:Nat}{fr:List Nat}{a:List D}(hi:b ρ=g7 (.ok ds m9))(d:small ds.length)(e:E5 tg mt c (bj own fr m9) ds=g7 a)(hf:a.all bA=h7∨fO m9 fr=[]):F7 b tg mt c own fr ρ=g7 (.ok (.own (.lst a)) m9):=by
 unfold F7;rw[M.k9 hi];unfold BK;rw[e];simp only[];rw[x9 d];rcases hf with hf|hf
 ·rw[if_pos hf]
 ·split
  ·rfl
  ·rw[hf];rfl
theorem dn(h:den (G8 n ms ds)=g7 a)(b:rN ms a=g7 fr):N8 den n ms ds=g7 fr:=by unfold N8;rw[h];exact b
theorem kG(h:tu a b):gB (.int a) (.int b)=g7 (.val (.int (a*b))):=x9 h
theorem pL(h:yA a b):cC (.int a) (.int b)=g7 (.val (.int (a / b))):=x9 h
theorem P8(h:0<b):K3 (.int a) (.int b)=g7 (.val (.int (a % b))):=x9 h
end
noncomputable def maxD:List D→Option W
 | [.int i,.int j]=>vI (if j>i then j else i)
 |_=>g9
section
variable {X:Cx}{B:Bs}{e f:Expr}{mr:M (List W)}{pos p:Pos}
theorem AF:fR B (λxs H Q=>∃i j,xs=[.int i,.int j]∧Q (.int (if j>i then j else i)) H) maxD:=by
 intro G H σ ρ xs ds w Q R h e p
 match ds,e with
 | [.int i,.int j],e=>
  cases e;obtain⟨x,y,rfl,hx,a⟩:=yQ h;exact⟨i,j,by rw[hx.int,a.int],p _ G H (j5.refl _) R (.int _)⟩
theorem JP (b:X.calm=h7)(c:X.mg "max"=g9) (d:iW X B [e,f] mr) (g:Gl X "max":=by rfl) (h:i1 [e,f] X.env=(g8,eval e X.env)::i1 [f] X.env:=by rfl) (a:(m4 pos (i1 [f] X.env)).any (·.1)=g8:=by rfl):PD X B (.Call (.Name "max" p) [e,f] [] pos) (L6 maxD mr):=
 dM (λξ=>yq b) AF g c MH d (by decide) (by decide) h a
end
noncomputable def y8 (ns:List Int):List Int:=ns.mergeSort λa b=>decide (a≤b)
theorem O4 (ns:List Int):(y8 ns).Perm ns:=List.mergeSort_perm _ _
theorem rj (ns:List Int):(y8 ns).Pairwise (·≤·):=by
 have:=List.pairwise_mergeSort (le:=λa b:Int=>decide (a≤b)) (λa b c d e=>by simp at *;omega) (λa b=>by simp;omega) ns;exact this.imp λh=>by simpa using h
theorem kZ {ns ms:List Int}(c:ms.Perm ns)(hs:ms.Pairwise (·≤·)):ms=y8 ns:=by
 have h:=c.trans (O4 ns).symm;exact List.Perm.eq_of_pairwise (le:=(·≤·)) (λa b _ _ d e=>Int.le_antisymm d e) hs (rj ns) h
section
variable {X:Cx}
theorem qF {K:PySem.W.Frag}(f:X.K=K):E6 X (.builtin "sorted") (λxs H Q=>∃(p:Addr) (ns:List Int),xs=[.ref p]∧T9 K H p (ns.map V.int)∧ns.length<64∧∀l,H l=g9→Q (.ref l) (upd H l (.lst ((y8 ns).map V.int)))):=by
 subst f;intro pins s σ H xs us Q I r h;obtain⟨p,ns,rfl,g,w,q⟩:=h;obtain⟨u,rfl,i⟩:=vals1 r;cases i;obtain⟨c,d,j,_⟩:=I.list g;have hl:=d.length;rw[List.length_map]at hl;refine sorted_ints j.isList (intsAre_of d) (by omega) λout k m n t=>?_;have hs:=kZ n t;subst hs;obtain⟨e,v⟩:=sortedAll_at s.heap c out;refine⟨.ref (s.heap.objs.size+1),_,I.laid (a:=s.heap.objs.size+1) (o:=.lst ((y8 ns).map V.int)) (t':=s.toks) (λb o e=>sortedAll_old e) (bd _) ⟨?_,out.toList,e,?_,?_⟩,rfl,q _ (I.hok.fresh (bd _))⟩
 ·rw[List.length_map,(O4 ns).length_eq,v8];omega
 ·exact fq m
 ·rw[v]
theorem Aw:∀(b:List (Key×V)) (us:List (Key×Value)) (a:List Value),KV b us→a.length=us.length→(∀(j:Nat) v,a[j]?=g7 v→∃k x,us[j]?=g7 (k,x)∧(w6 P w).is k v=h7)→Vals (b.map λkv=>kV kv.1) a:=by
 intro b us a e;unfold KV at e;induction e generalizing a with
 |nil=>
  intro hl _;have:a=[]:=List.length_eq_zero_iff.mp hl;subst this;exact .nil
 | @cons p q ps s c _ ih=>
  intro hl f;cases a with
  |nil=>simp at hl
  |cons v r=>
   obtain⟨k,x,g,h⟩:=f 0 v rfl;have l:q=(k,x):=Option.some.inj g;refine .cons ?_ (ih r (by simpa using hl) λj m d=>f (j+1) m d);have n:p.1=k:=by rw[c.1,l]
   show RelV (kV p.1) v;rw[n];have o:iA k v=h7:=h;rcases z8 o with⟨i,t,rfl,rfl⟩ | ⟨x,t,rfl,rfl⟩
   ·exact⟨t,rfl⟩
   ·exact⟨t,rfl⟩
theorem nN (B:X.calm=h7):E6 X (.builtin "sorted") (λxs H Q=>∃(a:Addr) (kvs:List (Key×V)) (ns:List Int),xs=[.ref a]∧Rd H a (.dK kvs)∧kvs.map (λkv=>kV kv.1)=ns.map V.int∧ns.length<64∧∀l,H l=g9→Q (.ref l) (upd H l (.lst ((y8 ns).map V.int)))):=by
 intro pins s σ H xs us Q I r h;obtain⟨a,kvs,ns,rfl,E,hk,U,q⟩:=h;obtain⟨u,rfl,F⟩:=vals1 r;cases F;obtain⟨z,G,vs,g,dd⟩:=V8 I.hok E;obtain⟨ep,k⟩:=dd.dictAt;have x:=g.length;refine PySem.Calls.call_function_entry Mx Mw ME (MO _) ?_;unfold m3.«sorted»;refine wpAny_bind (m:=checkCount "sorted" 1 1 _) (i6 ?_);refine wpAny_bind (PySem.W.kdu_collect (PySem.W.kdl_dict (knd:=w6 X.prog X.w) (kvs:=vs) (ep:=ep) G) (I.ok.hd B) k (by omega) λh' n c kp d=>?_);have J:c.toList.length=vs.length:=by rw[U4];exact d.1
 have p:=Aw (P:=X.prog) (w:=X.w) kvs vs c.toList g J λj v e=>d.2 j v (by rw[←vh];exact e);rw[hk]at p;have L:=intsAre_of p;have t:c.toList.length<64:=by have:=p.length;rw[List.length_map]at this;omega
 refine wpAny_bind (wpAny_newList ?_);have f:(h'.push (seqObj "list" c.toList.toArray 0)).get? h'.objs.size=g7 (seqObj "list" c.toList.toArray 0):=Heap.get?_push_size _ rfl;show wpAny _ _ _ _ _ {s with heap:=h'.push (seqObj "list" c.toList.toArray 0),toks:=n};refine wpAny_bind (x0 (bK slot_list_sort ⟨_,f,rfl⟩ entry_list_sort (list_sort_tree f L t λout N O R S=>⟨_,rfl,?_⟩) (args_list_sort _)));have hs:=kZ R S;subst hs;refine i6 ⟨_,rfl,?_⟩;have y:Inv X pins σ H {s with heap:=h',toks:=n}:=I.kept kp;obtain⟨e,T⟩:=sortedHeap_at (out:=out) f;refine⟨.ref h'.objs.size,_,y.laid (a:=h'.objs.size) (o:=.lst ((y8 ns).map V.int)) (t':=n) (λb o A=>?_) (i8 _) ⟨?_,out.toList,e,?_,?_⟩,rfl,q _ (y.hok.fresh (i8 _))⟩
 ·have i:b<h'.objs.size:=Heap.lt_size A;rw[sortedHeap_old (j9 i) (by rw[size_push'];exact t9 i)];exact Heap.get?_push_of_some _ A
 ·rw[List.length_map,(O4 ns).length_eq,v8];omega
 ·exact fq O
 ·rw[T]
end
noncomputable def dY:List (Key×D)→Option (List Int)
 | []=>g7 []
 | (.inl k,_)::r=>(dY r).map (k::·)
 |_=>g9
theorem DC {K:PySem.W.Frag}{G:Hp}{kvs:List (Key×V)}{es:List (Key×D)}(r:m7 K G kvs es):∀{ns:List Int},dY es=g7 ns→kvs.map (λkv=>kV kv.1)=ns.map V.int:=by
 refine m7.ind (P:=λkvs es=>∀{ns:List Int},dY es=g7 ns→kvs.map (λkv=>kV kv.1)=ns.map V.int) ?_ ?_ r
 ·intro ns h;cases h;rfl
 ·intro p e kvs es hk _ _ ih ns h;obtain⟨k,d⟩:=e;cases k with
  |inr x=>cases h
  |inl k=>
   cases hr:dY es with
   |none=>simp[dY,hr]at h
   |some ms=>
    simp[dY,hr]at h;subst h;rw[List.map_cons,List.map_cons,ih hr,hk];rfl
noncomputable def N5:List D→Option W
 | [.lst ds]=>(intsOf ds).bind λns=>cf (ns.length<64) (g7 (.own (.lst ((y8 ns).map D.int))))
 | [.dct es]=>(dY es).bind λns=>cf (ns.length<64) (g7 (.own (.lst ((y8 ns).map D.int))))
 |_=>g9
section
variable {X:Cx}{B:Bs}{e f:Expr}{mr:M (List W)}{pos p:Pos}
theorem si:fR B (λxs H Q=>(∃(p:Addr) (ns:List Int),xs=[.ref p]∧T9 B.K H p (ns.map V.int)∧ns.length<64∧∀l,H l=g9→Q (.ref l) (upd H l (.lst ((y8 ns).map V.int))))∨
  ∃(a:Addr) (kvs:List (Key×V)) (ns:List Int),xs=[.ref a]∧Rd H a (.dK kvs)∧kvs.map (λkv=>kV kv.1)=ns.map V.int∧ns.length<64∧∀l,H l=g9→Q (.ref l) (upd H l (.lst ((y8 ns).map V.int)))) N5:=by
 intro G H σ ρ xs ds w Q R h e p
 match ds,e with
 | [.lst ds],e=>
  cases c:intsOf ds with
  |none=>simp[N5,c]at e
  |some ns=>
   have b:(intsOf ds).bind _=g7 w:=e;rw[c]at b;obtain⟨f,b⟩:=t6 b;cases b;obtain⟨x,rfl,hx⟩:=E1 h;rw[jk c]at hx;obtain⟨q,j,rfl,d,g⟩:=hx.lst R.gH;rw[AC g]at d;refine .inl ⟨q,ns,rfl,d,f,λl hl=>?_⟩;obtain⟨R',i⟩:=R.eM hl (v5.iw (K:=B.K) (G:=G) (y8 ns));exact p _ G _ (j5.refl _) R' i
 | [.dct es],e=>
  cases c:dY es with
  |none=>simp[N5,c]at e
  |some ns=>
   have b:(dY es).bind _=g7 w:=e;rw[c]at b;obtain⟨f,b⟩:=t6 b;cases b;obtain⟨x,rfl,hx⟩:=E1 h;obtain⟨a,kvs,rfl,d,g⟩:=hx.dct R.gH;refine .inr ⟨a,kvs,ns,rfl,d,DC g c,f,λl hl=>?_⟩;obtain⟨R',i⟩:=R.eM hl (v5.iw (K:=B.K) (G:=G) (y8 ns));exact p _ G _ (j5.refl _) R' i
theorem bE (b:X.calm=h7)(c:X.mg "sorted"=g9) (d:iW X B [e] mr) (f:Gl X "sorted":=by rfl) (g:X.K=B.K:=by rfl) (h:i1 [e] X.env=(g8,eval e X.env)::i1 [] X.env:=by rfl) (a:(m4 pos (i1 [] X.env)).any (·.1)=g8:=by rfl):PD X B (.Call (.Name "sorted" p) [e] [] pos) (L6 N5 mr):=
 dM (λξ=>(qF (X:=rz X ξ) (K:=B.K) g).or (nN b)) si f c MG d (by decide) (by decide) h a
end
noncomputable def uK (i:Nat)(a b:W):M W:=λρ=>match ρ[i]?,getD a ρ,b with
 |some (g7 (.ow l (.dct es))),g7 k,.val f=>match keyOf k with
  |some k=>match O3 es k with
   |some d=>g7 (.ok (.val d) (ρ.set i (g7 (.ow l (.dct (oJ es k))))))
   |none=>g7 (.ok (.val f) ρ)
  |none=>g9
 |_,_,_=>g9
noncomputable def jg (a:M W)(i:Nat)(mk b:M W):M W:=M.bind a λx=>M.bind (Cr "dict" x) λ_=>M.bind (R7 mk) λk=>M.bind b λf=>uK i k f
noncomputable abbrev Al (i:Nat)(mk a:M W):M W:=jg (h8 i) i mk a
section
variable {X:Cx}{B:Bs}{o e f:Expr}{me mf:M W}{apos cpos:Pos}
theorem qz (i:Nat)(ho:PD X B o mo)(he:PD X B e me)(hf:PD X B f mf)(hm:wG i mo:=by exact nW)(m:M2 X o "pop" apos e f cpos:=by exact⟨rfl,rfl,rfl,rfl⟩):PD X B (.Call (.Attribute o "pop" apos) [e,f] [] cpos) (jg mo i me mf):=.mk λξ=>
 (zR (X:=rz X ξ) (ho.ap ξ) (he.ap ξ) (hf.ap ξ) ⟨m.base,m.few,m.line,m.trees⟩).imp λσ H Q t=>by
  obtain⟨G,ρ,R,t⟩:=t;refine(TD.Fp (O2:=C4) R t).mono λx H1 ⟨G1,a0,w,b,s1,F,U,t2⟩=>?_;obtain⟨rfl,rfl⟩:=hm _ _ _ b;have Y:σ[i]?=g7 (g7 x):=U;obtain⟨u,I,e2,t3⟩:=t2.step λr h=>⟨(),_,(js h).1⟩;obtain⟨e3,d,hd,ty⟩:=js e2;cases e3;cases d<;>first| (cases ty;done) | (exact absurd ty (by decide)) |skip
  obtain⟨a,kvs,rfl,h1,r1⟩:=(U.get F hd).dct F.gH;refine⟨a,rfl,.inl ⟨kvs,h1⟩,?_⟩;have J:TD ik B ξ (R7 me) σ H1 _:=TD.bind (O2:=ik) F t3;refine TD.R7 (J.mono λy H2 ⟨G2,I,wb,s2,R2,⟨q2,L⟩,t4⟩=>?_);refine(TD.bind (O2:=C4) R2 t4).mono λz Z ⟨N,O,wc,s3,A,q3,t5⟩=>?_;obtain⟨r,b,p⟩:=t5;unfold uK at b;split at b
  ·rename_i l es k f' hi hk;split at b
   ·rename_i n P;obtain⟨pp,ep,g,c,hx,E⟩:=slot_of A hi Y;cases ep;have hy:=fC ((q2.keep s3 L:L4 B N Z σ O _ wb).get A hk) P;refine⟨c,n,hx,hy,λv q=>?_,λS=>?_⟩
    ·split at b
     ·rename_i T j;cases b;obtain⟨v',s,r'⟩:=(E.val n).1 T j;rw[q]at s;cases s;exact p v N _ (j5.refl _) (A.write hi Y ⟨iK c n,l5,E.drop n⟩) r'
     ·rename_i hn;have:=(E.val n).2 hn;rw[q]at this;cases this
    ·split at b
     ·rename_i T j;obtain⟨v',s,r'⟩:=(E.val n).1 T j;rw[S]at s;cases s
     ·cases b;exact p z N Z (j5.refl _) A q3
   ·cases b
  ·cases b
end
noncomputable def BW (i:Nat)(c:M W):SM:=λρ=>match ρ[i]? with
 |some (g7 _)=>C9 c (λy ρ=>match getD (.slot i) ρ,getD y ρ with
  |some (.int a),g7 (.int b)=>eC i (.val (.int (a+b))) ρ
  |_,_=>g9) ρ
 |_=>g9
section
variable {X:Cx}{B:Bs}{e:Expr}{me:M W}{pos:Pos}
theorem zq(n:PD X B e me)(hN:X.N.Nodup)(hi:X.N[i]?=g7 x:=by rfl)(hx:Loc X.env.scope x:=by first|exact Or.inl rfl|exact Or.inr rfl)(s:X.fn x=h7∨X.env.scope.names.lookup x=g7 .local:=by first|exact .inl rfl|exact .inr rfl):
  oX X B (.AugAssign (.Name x f) .Add e pos) (BW i me):=.mk λξ=>(Gq (X:=rz X ξ) hN hi hx (n.ap ξ) Ha s).imp λI σ H t=>by
 obtain⟨G,ρ,R,r,e,p⟩:=t;unfold BW at e;split at e
 ·rename_i c g;have j:∃v,σ[i]?=g7 (g7 v):=by
   cases c with
   |sh d=>obtain⟨v,q,_⟩:=R.sh i d g;exact⟨v,q⟩
   |ow l d=>obtain⟨v,q,_⟩:=R.ow i l d g;exact⟨_,q⟩
   |fz es=>obtain⟨a,o,kvs,q,_⟩:=R.fz i es g;exact⟨_,q⟩
   |ob l fds=>obtain⟨_,_,_,_,_,_,q,_⟩:=R.ob.1 i l fds g;exact⟨_,q⟩
   |rd fds=>obtain⟨_,_,_,_,_,_,_,q,_⟩:=R.ob.2 i fds g;exact⟨_,q⟩
  obtain⟨v,j⟩:=j;refine⟨v,j,?_⟩;refine(SD.step (O2:=C4) R ⟨r,e,p⟩).mono λy H1 ⟨m,h,w,s1,k,u,r,e,p⟩=>?_;dsimp only at e;split at e
  ·rename_i a b z A;obtain⟨E,G',rfl,F,R'⟩:=ft (v:=.int (a+b)) k (show L4 B m H1 σ h (.int (a+b)) (.val (.int (a+b)))from Rep.int _) e;exact⟨a,b,((show L4 B m H1 σ h v (.slot i)from j).get k z).int,(u.get k A).int,p _ G' H1 F R'⟩
  ·cases e
 ·cases e
end
section
variable {me ma mb:M W}{ρ m9 A5:l9}{w:W}{i:Nat}{a b:Int}
theorem Ht(d:ρ[i]?=g7 (g7 c))(e:me ρ=g7 (.ok w m9))(hx:getD (.slot i) m9=g7 (.int a))(f:getD w m9=g7 (.int b))(hs:eC i (.val (.int (a+b))) m9=g7 (.nx A5)):BW i me ρ=g7 (.nx A5):=by
 unfold BW;rw[d];show C9 me _ ρ=_;rw[u8 e];simp only[hx,f];exact hs
end
noncomputable def rX (a mb:M W):M W:=M.bind (R7 a) λw=>λρ=>match getD w ρ with
 |some d=>match pf d with
  |some h7=>g7 (.ok w ρ)
  |some g8=>mb ρ
  |none=>g9
 |none=>g9
section
variable {X:Cx}{B:Bs}{a b:Expr}{F3:List Expr}{ma mb:M W}{pos:Pos}
theorem GA(j:PE X a e)(l:PE X (.BoolOp .Or (b::F3) pos) tb):PE X (.BoolOp .Or (a::b::F3) pos) (λσ H Q=>e σ H λx H1=>∃k,uX X.K x H1 k∧if k=h7 then Q x H1 else tb σ H1 Q):=by
 intro pins s σ H Q I h;refine BoolOp_or (F9 (j pins s σ H _ I h) λv s1 ⟨x,H1,m,f,k,hk,n⟩=>?_);refine F9 (yR pins s1 σ H1 x v (λc d=>if c=h7 then Q x d else tb σ d Q) m f ⟨k,hk,n⟩) λc s2 ⟨d,g,i⟩=>?_;cases c with
 |true=>exact⟨x,d,g,f,i⟩
 |false=>exact l pins s2 σ d Q g i
theorem JN (j:PD X B a ma)(k:PD X B (.BoolOp .Or (b::F3) pos) mb)(h:X.K=B.K:=by rfl):PD X B (.BoolOp .Or (a::b::F3) pos) (rX ma mb):=.mk λξ=>(GA (j.ap ξ) (k.ap ξ)).imp λσ H Q t=>by
 obtain⟨G,ρ,R,t⟩:=t;have l:TD ik B ξ (R7 ma) σ H _:=TD.bind (O2:=ik) R t;refine TD.R7 (l.mono λx H1 ⟨i,f,w,s1,c,⟨g,m⟩,r,e,p⟩=>?_);dsimp only at e;split at e
 ·rename_i d hd;split at e
  ·rename_i hk;cases e;refine⟨h7,by show uX X.K x H1 h7;rw[h];exact pd c (g.get c hd) hk,?_⟩;rw[if_pos rfl];exact p x i H1 (j5.refl _) c g
  ·rename_i hk;refine⟨g8,by show uX X.K x H1 g8;rw[h];exact pd c (g.get c hd) hk,?_⟩;rw[if_neg N3];exact⟨i,f,c,r,e,p⟩
  ·cases e
 ·cases e
end
section
variable {tg:FT}{mt:M Bool}{me:M W}{ρ m9 A5 jZ Im:l9}{d y:D}{w:W}
theorem eA (a:tg d ρ=g7 m9)(b:mt m9=g7 (.ok h7 A5))(c:me A5=g7 (.ok w jZ))(e:Q1 w jZ=g7 (.ok y Im)):compTurn tg mt me ρ d=g7 (g7 y):=by
 unfold compTurn;rw[a];simp only[b];rw[M.k9 c,e]
theorem CB (a:tg d ρ=g7 m9)(b:mt m9=g7 (.ok g8 A5)):compTurn tg mt me ρ d=g7 g9:=by
 unfold compTurn;rw[a];simp only[b]
theorem Bl(b:a ρ=g7 (.ok w m9))(hd:getD w m9=g7 d)(c:pf d=g7 h7):rX a mb ρ=g7 (.ok (Ih w) m9):=by
 unfold rX;rw[M.k9 (dg b),cV];simp only[hd,c]
theorem Bm(b:a ρ=g7 (.ok w m9))(hd:getD w m9=g7 d)(c:pf d=g7 g8)(e:mb m9=r):rX a mb ρ=r:=by
 unfold rX;rw[M.k9 (dg b),cV];simp only[hd,c];exact e
end
theorem BI {α:Type}(xs:List α)(k:Nat):(xs.drop (HT.C8 xs.length 0 (g7 (k:Int)))).take (HT.C8 xs.length xs.length g9-HT.C8 xs.length 0 (g7 (k:Int)))=xs.drop k:=by
 rw[HT.vr,HT.lm];by_cases h:k≤xs.length
 ·rw[Ie h,List.take_of_length_le (by simp)]
 ·rw[FF (by omega),List.take_of_length_le (by simp),List.drop_eq_nil_of_le (i8 _),List.drop_eq_nil_of_le (by omega)]
theorem HE {α:Type}(xs:List α)(k:Nat):(xs.drop (HT.C8 xs.length 0 g9)).take (HT.C8 xs.length xs.length (g7 (k:Int))-HT.C8 xs.length 0 g9)=xs.take k:=by
 rw[HT.vr,HT.lm,List.drop_zero,KL];by_cases h:k≤xs.length
 ·rw[Ie h]
 ·rw[FF (by omega),List.take_of_length_le (i8 _),List.take_of_length_le (by omega)]
theorem Ge (n d:Nat):HT.C8 n d (g7 (-1))=n-1:=by
 show(if(-1:Int)<0 then((-1:Int)+(n:Int)).toNat else min (-1:Int).toNat n)=n-1;rw[if_pos (by decide)];omega
theorem BH {α:Type}(xs:List α):(xs.drop (HT.C8 xs.length 0 g9)).take (HT.C8 xs.length xs.length (g7 (-1))-HT.C8 xs.length 0 g9)=xs.dropLast:=by
 rw[Ge,HT.lm,List.drop_zero,KL,List.dropLast_eq_take]
theorem jr (ds:List D)(k:Nat):cutD ds (g7 (k:Int)) g9=ds.drop k:=BI ds k
theorem Ez (ds:List D)(k:Nat):cutD ds g9 (g7 (k:Int))=ds.take k:=HE ds k
theorem yp (ds:List D):cutD ds g9 (g7 (-1))=ds.dropLast:=BH ds
theorem jq{x:Str}{j pos}(h:x.cps.toList=cs):PD X B (.Constant (.str x) j pos) (mC (.str cs)):=by
 subst h;exact JL
end L3
namespace PySem
open PyProof.Rows
theorem F.pP:ee (.type "list") "keys"=pure g9:=by rw[iU,bI];kernel_rfl
theorem F.km:ee (.type "list") "__getattr__"=pure g9:=by rw[iU,bI];kernel_rfl
theorem F.S4:isSubtype (.type "AttributeError") (.type "AttributeError")=pure h7:=by rw[isSubtype_type];kernel_rfl
section
variable {prog:Program}{w:World}{A:Around}{E:Value→Shared→Prop}{h:Heap}{g:Array GenState}{d:Drawn}{t:Nat}{os:OsState}{a:Addr}{items:Array Value}{n:Nat}{sl:Array (Option Value)}
theorem lJ {α:Type}{c:Str}{Q:α→Shared→Prop}(i:A.handled=g9)(l:c.length≤sizeLine)
   (j:∀x h' k,(∀b o,h.get? b=g7 o→h'.get? b=g7 o)→(∃o,h'.get? x=g7 o∧o.cls=.type "AttributeError")→E (.ref x) ⟨h',g,d,k,os⟩):
    wpAny (model prog w) A (Nn (.ref a) (Str.ofString "keys") c:Sem α) Q E ⟨h,g,d,t,os⟩:=by
  have f1:=F.S4;unfold Nn mkStr;repeat (any_goals (first|assumption|wp_step))
  refine HY i (j _ _ _ (λb o f=>?_) ⟨_,Heap.get?_update_self _ (Heap.get?_push_size _ rfl) rfl,rfl⟩);refine Eq.trans (Heap.get?_update_other _ _ ?_) (Heap.get?_push_of_some _ (Heap.get?_push_of_some _ f));have:=Heap.lt_size f;intro z;rw[←z]at this;have e:=Mu h {cls:=Value.type "tuple",data:=Data.seq #[Value.str c t]};rw[e]at this;exact n8 _ (U2 (u7 _) this)
theorem kn(e:A.handled=g9)(hx:h.get? a=g7 {cls:=.type "list",dict:=g9,data:=.seq items n,slots:=sl})
   (f:∀x h' i,(∀b o,h.get? b=g7 o→h'.get? b=g7 o)→(∃o,h'.get? x=g7 o∧o.cls=.type "AttributeError")→E (.ref x) ⟨h',g,d,i,os⟩):
    wpAny (model prog w) A (m3.«object.__getattribute__» ⟨[.ref a,.str "keys" c],[]⟩) Q E ⟨h,g,d,t,os⟩:=by
  have j:(⟨h,g,d,t,os⟩:Shared).TypeIs (.ref a) "list":=⟨_,hx,rfl⟩
  have k:=F.pP;repeat (any_goals (first|assumption|wp_step))
  refine lJ e ?_ f;decide +kernel
theorem lK(e:A.handled=g9)(hx:h.get? a=g7 {cls:=.type "list",dict:=g9,data:=.seq items n,slots:=sl})
   (f:∀x h' i,(∀b o,h.get? b=g7 o→h'.get? b=g7 o)→(∃o,h'.get? x=g7 o∧o.cls=.type "AttributeError")→R (.error (.ref x)) ⟨h',g,d,i,os⟩):
    aH (model prog w) A (.call (.builtin "list.__getattribute__") ⟨[.ref a,.str "keys" c],[]⟩) R ⟨h,g,d,t,os⟩:=
  D7 F.slot_list_getattribute.plain F.entry_list_ga (F.slot_list_getattribute.check _ _ _ _ _ _ _ _ (show(⟨h,g,d,t,os⟩:Shared).TypeIs (.ref a) "list" from⟨_,hx,rfl⟩) (F.args_list_getattribute_2 _ _) (kn e hx f))
theorem pS(f:A.handled=g9)(hx:h.get? a=g7 {cls:=.type "list",dict:=g9,data:=.seq items n,slots:=sl})
   (i:∀x h' c,(∀b o,h.get? b=g7 o→h'.get? b=g7 o)→(∃o,h'.get? x=g7 o∧o.cls=.type "AttributeError")→E (.ref x) ⟨h',g,d,c,os⟩):wpAny (model prog w) A (getAttrBy (.ref a) (.str "keys" e) g8) Q E ⟨h,g,d,t,os⟩:=by
  have k:(⟨h,g,d,t,os⟩:Shared).TypeIs (.ref a) "list":=⟨_,hx,rfl⟩
  have l:=F.slot_list_getattribute.lookup;have m:=F.slot_list_getattribute.bind (.ref a);have p:=F.km;have q:=F.S4;repeat (any_goals (first|assumption|wp_step))
  refine lK f hx λx h' c kp ex=>?_;have j:(⟨h',g,d,c,os⟩:Shared).TypeIs (.ref x) "AttributeError":=ex;repeat (any_goals (first|assumption|wp_step))
  exact i x h' c kp ex
theorem lL(e:A.handled=g9)(hx:h.get? a=g7 {cls:=.type "list",dict:=g9,data:=.seq items n,slots:=sl})
   (hQ:∀h' c,(∀b o,h.get? b=g7 o→h'.get? b=g7 o)→Q g9 ⟨h',g,d,c,os⟩):wpAny (model prog w) A (FD (.ref a) "keys") Q E ⟨h,g,d,t,os⟩:=by
  unfold FD getAttrBy?;have i:=F.S4;repeat (any_goals (first|assumption|with_reducible apply pS e hx|wp_step))
  intro x h' c kp ex;have f:(⟨h',g,d,c,os⟩:Shared).TypeIs (.ref x) "AttributeError":=ex;repeat (any_goals (first|assumption|wp_step))
  exact hQ h' c kp
end
theorem F.D5:entryFor table "dict.update.loop"=g7 m3.«dict.update.loop»:=entryFor_of_tree (by kernel_rfl)
theorem F.r8:plainId "dict.update.loop"=h7:=by decide +kernel
def JW (d it:Addr)(h h':Heap):Prop:=∀b o,b≠d→b≠it→h.get? b=g7 o→h'.get? b=g7 o
section
variable {prog:Program}{w:World}{A:Around}{E:Value→Shared→Prop}{K:Type}[DecidableEq K]{knd:KeyKind prog w K}
theorem rc (d it l : Addr) (f : Array Value) (ps : List (K × Value)) (hh : A.in1.handled = g9) (H : l ≠ d) (I : l ≠ it) (q : d ≠ it) (c : Value) (a4 : ps.length = f.size) (R : ID → Shared → Prop) :
  ∀ (m i : Nat) (kvs : List (K × Value)) (s : Shared), m = ps.length - i → i ≤ ps.length →
   s.heap.DictOf knd d kvs → s.heap.IsListIter it l i → s.heap.IsList l f →
   (∀ (j : Nat) (p : K × Value), ps[j]? = g7 p → ∃ t key, f[j]? = g7 (.ref t) ∧ t ≠ d ∧ t ≠ it ∧ s.heap.IsTuple t #[key, p.2] ∧ knd.is p.1 key = h7) →
   kvs.length + m ≤ sizeLine →
   (∀ h' J, h'.DictOf knd d (IA kvs (ps.drop i)) → JW d it s.heap h' → R (.ok (.ret c)) { s with heap := h', toks := J }) →
   aH (model prog w) A (.builtin "dict.update.loop" ⟨[.ref d, .ref it, rawInt i, c], []⟩) R s := by
  intro m
  induction m with
  | zero =>
    intro i kvs s hm hi hd r hl u L N
    have O : i = ps.length := by omega
    refine cH F.D5 ?_
    rw [aA F.r8 _]
    show wpAny _ A.in1 (pyNext (.ref it) >>= _) _ _ s
    refine wpAny_bind (EJ hh r hl (by rw [tI]; omega) fun h' eb => ?_)
    show wpAny _ A.in1 (kC d [] >>= fun _ => ret c) _ _ _
    refine wpAny_bind (i6 (i6 ?_))
    refine N h' s.toks ?_ fun b o v g e => eb b o g e
    rw [O, List.drop_length]
    obtain ⟨o, es, P, h, a⟩ := hd
    exact ⟨o, es, P, eb d o q h, a⟩
  | succ m ih =>
    intro i kvs s hm hi hd r hl u L N
    have y : i < ps.length := by omega
    obtain ⟨t, key, ht, a6, Q, z, B⟩ := u i ps[i] (List.getElem?_eq_getElem y)
    refine cH F.D5 ?_
    rw [aA F.r8 _]
    show wpAny _ A.in1 (pyNext (.ref it) >>= _) _ _ s
    refine wpAny_bind (Ct r hl ht fun h' E sb => ?_)
    have kp : ∀ b o, b ≠ it → s.heap.get? b = g7 o → h'.get? b = g7 o := fun b o v e => (sb.2 b v).trans e
    have S : h'.DictOf knd d kvs := by obtain ⟨o, es, P, h, a⟩ := hd; exact ⟨o, es, P, kp d o q h, a⟩
    have n : h'.IsTuple t #[key, ps[i].2] := by obtain ⟨o, h, a⟩ := z; exact ⟨o, kp t o Q h, a⟩
    have hT : ({ s with heap := h' } : Shared).TypeIs (.ref t) "tuple" := by obtain ⟨o, h, T, _⟩ := n; exact ⟨o, h, T⟩
    obtain ⟨ot, U, a7, nt, X⟩ := id n
    show wpAny _ A.in1 (P5 [Value.ref t] _ >>= _) _ _ { s with heap := h' }
    refine wpAny_bind (x0 ?_)
    refine wpAny_bind (Nd ?_)
    unfold mR
    refine wpAny_bind (aF hT ?_)
    rw [if_pos (by decide)]
    refine wpAny_bind ?_
    unfold seqItems?
    refine wpAny_bind (wpAny_load U ?_)
    rw [X]
    refine i6 (i6 ?_)
    show wpAny _ A.in1 (P5 [key, ps[i].2] (dictSet d key ps[i].2)) _ _ { s with heap := h' }
    refine x0 (Ia (s := { s with heap := h' }) (k := ps[i].1) B S (fun h2 Y G => ?_) (by omega))
    have x : ∀ b o, b ≠ d → b ≠ it → s.heap.get? b = g7 o → h2.get? b = g7 o := fun b o v g e => (G.2 b v).trans (kp b o g e)
    have T : ((i : Int) + 1) = ((i + 1 : Nat) : Int) := by push_cast; rfl
    refine i6 ⟨mQ F.r8 _, ?_⟩
    rw [T]
    refine ih (i + 1) (Iz kvs ps[i].1 ps[i].2) { s with heap := h2, toks := s.toks + 1 } (by omega) (by omega) Y ?_ ?_ ?_ ?_ fun h3 J Z a0 => ?_
    · obtain ⟨o, h, a⟩ := E
      exact ⟨o, (G.2 it (o1 q)).trans h, a⟩
    · obtain ⟨o, h, a⟩ := hl
      exact ⟨o, x l o H I h, a⟩
    · intro j p hj
      obtain ⟨t, key, a1, a2, a3, ⟨o, h, a⟩, a5⟩ := u j p hj
      exact ⟨t, key, a1, a2, a3, ⟨o, x t o a2 a3 h, a⟩, a5⟩
    · have := KA kvs ps[i].1 ps[i].2
      omega
    · refine N h3 J ?_ fun b o v g e => a0 b o v g (x b o v g e)
      rw [List.drop_eq_getElem_cons y]
      exact Z
theorem kx {s:Shared}(ps:List (K×Value))(L:A.handled=g9)(hl:s.heap.get? l=g7 {cls:=.type "list",dict:=g9,data:=.seq items n,slots:=sl}) (i:ps.length=items.size) (u:ps.length≤sizeLine)
  (v:∀(j:Nat) (p:K×Value),ps[j]?=g7 p→∃t key,items[j]?=g7 (.ref t)∧s.heap.IsTuple t #[key,p.2]∧knd.is p.1 key=h7)
  (h:∀h' x,h'.DictOf knd s.heap.objs.size (IA [] ps)→(∀b o,s.heap.get? b=g7 o→h'.get? b=g7 o)→Q (.ref s.heap.objs.size) {s with heap:=h',toks:=x}):
  wpAny (model prog w) A (call (.type "dict") [.ref l]) Q E s:=by
 refine Nv (Q₁:=λobj g=>obj=.ref s.heap.objs.size∧g={s with heap:=s.heap.push {cls:=.type "dict",data:=.dict #[]}}) F.kt_called_dict (F.kt_typeCall_dict_1 _) F.entry_dict_init (kt_code_dict_new _ ⟨rfl,rfl⟩) ?_
 rintro obj g ⟨rfl,rfl⟩
 have c:(s.heap.push {cls:=.type "dict",data:=.dict #[]}).DictOf knd s.heap.objs.size []:=Heap.DictOf.new s.heap;refine⟨c.typeIs,F.args_dict_init_2 _ _,?_⟩;unfold m3.«dict.__init__»;refine wpAny_bind ?_;unfold kB;refine wpAny_bind (EK c.typeIs ?_);show wpAny _ _ (pure (s.heap.objs.size,[Value.ref l])) _ _ _;refine i6 ?_;show wpAny _ _ (S3 "dict.__init__" s.heap.objs.size (.ref l) [] .none) _ _ _;unfold S3;have f:(s.heap.push {cls:=.type "dict",data:=.dict #[]}).get? l=g7 {cls:=.type "list",dict:=g9,data:=.seq items n,slots:=sl}:=Heap.get?_push_of_some _ hl;have y:=Heap.lt_size hl;refine wpAny_bind (aF (T:="list") ⟨_,f,rfl⟩ ?_);rw[if_pos (by decide)];refine wpAny_bind (lL (h:=s.heap.push {cls:=.type "dict",data:=.dict #[]}) (by exact L) f λB S a=>?_);rw[if_pos (show(g9:Option Value).isNone=h7 from rfl)];refine wpAny_bind (Iv ?_);have k:=a _ _ f;refine wpAny_bind (L8 (items:=items) ⟨_,k,rfl,n,rfl⟩ ?_);refine i6 ⟨mQ F.r8 _,?_⟩;have G:B.get? s.heap.objs.size=g7 {cls:=.type "dict",data:=.dict #[]}:=a _ _ (Heap.get?_push_size _ rfl);have m:=Heap.lt_size G;have q:∀b o,s.heap.get? b=g7 o→(B.push {cls:=.type "list_iterator",data:=.fields #[.ref l,.int 0 0]}).get? b=g7 o:=λb o e=>Heap.get?_push_of_some _ (a _ _ (Heap.get?_push_of_some _ e));refine rc (knd:=knd) s.heap.objs.size B.objs.size l items ps (by exact L) (j9 y) (λz=>?_) (j9 m) .none i _ ps.length 0 [] _ rfl (u3 _) ?_ ?_ ?_ ?_ (by simpa using u) λh' x H I=>⟨rfl,?_⟩
 ·have:=Heap.lt_size (a _ _ f);rw[←z]at this;exact n8 _ this
 ·obtain⟨o,es,N,r,d⟩:=c;exact⟨o,es,N,Heap.get?_push_of_some _ (a _ _ r),d⟩
 ·exact⟨_,Heap.get?_push_size _ rfl,rfl,rfl⟩
 ·exact⟨_,Heap.get?_push_of_some _ k,rfl,n,rfl⟩
 ·intro j p O;obtain⟨t,key,P,⟨o,r,d⟩,R⟩:=v j p O;have J:=Heap.lt_size r;refine⟨t,key,P,j9 J,j9 (Heap.lt_size (a _ _ (Heap.get?_push_of_some _ r))),⟨o,q _ _ r,d⟩,R⟩
 ·refine h h' x (by simpa using H) λb o e=>?_;exact I b o (j9 (Heap.lt_size e)) (j9 (Heap.lt_size (a _ _ (Heap.get?_push_of_some _ e)))) (q b o e)
end
end PySem
namespace L3
open PySem PySem.Spec PyProof.Rows L2
noncomputable def ny (kvs a:List (Key×V)):List (Key×V):=a.foldl (λb p=>putK b p.1 p.2) kvs
noncomputable def lE (es ps:List (Key×D)):List (Key×D):=ps.foldl (λa p=>putD a p.1 p.2) es
theorem pQ:∀{a:List (Key×V)} {ps:List (Key×Value)} {kvs:List (Key×V)} {vs:List (Key×Value)},KV a ps→KV kvs vs→KV (ny kvs a) (IA vs ps):=by
 intro a ps kvs vs h;unfold KV at h;induction h generalizing kvs vs with
 |nil=>intro r;exact r
 | @cons p q ps c b _ ih=>
  intro r;have e:KV (putK kvs p.1 p.2) (Iz vs q.1 q.2):=by rw[←b.1];exact r.put p.1 b.2
  exact ih e
theorem vw {K:PySem.W.Frag}{G:Hp}{a:List (Key×V)}{ps:List (Key×D)}(h:m7 K G a ps):∀{kvs:List (Key×V)} {es:List (Key×D)},m7 K G kvs es→m7 K G (ny kvs a) (lE es ps):=by
 refine m7.ind (P:=λa ps=>∀{kvs:List (Key×V)} {es:List (Key×D)},m7 K G kvs es→m7 K G (ny kvs a) (lE es ps)) ?_ ?_ h
 ·intro kvs es r;exact r
 ·intro p e a ps hk hr _ ih kvs es r;have q:m7 K G (putK kvs p.1 p.2) (putD es e.1 e.2):=by rw[hk];exact r.put e.1 hr
  exact ih q
section
variable {X:Cx}{pins:List (Addr×Obj)}{σ:St}{H:Hp}{s:Shared}
theorem rM (I:Inv X pins σ H s):∀{Io:List (Key×V)} {ys:List V} {c:List Value},ys.length=Io.length→(∀(j:Nat) y pr,ys[j]?=g7 y→Io[j]?=g7 pr→∃t,y=.ref t∧bJ X.K H t [kV pr.1,pr.2])→Vals ys c→
  ∃ps:List (Key×Value),KV Io ps∧∀(j:Nat) p,ps[j]?=g7 p→∃t key,c[j]?=g7 (.ref t)∧s.heap.IsTuple t #[key,p.2]∧(w6 X.prog X.w).is p.1 key=h7
 | [],[],c,_,_,v=>by cases v;exact⟨[],.nil,λj p h=>by simp at h⟩
 | [],_::_,_,h,_,_=>by simp at h
 |_::_,[],_,h,_,_=>by simp at h
 |pr::Io,y::ys,c,hl,l,v=>by
  cases v with
  | @cons _ u _ us o v=>
   obtain⟨ps,g,i⟩:=rM I (Io:=Io) (ys:=ys) (by simpa using hl) (λj y pr a b=>l (j+1) y pr (by simpa using a) (by simpa using b)) v;obtain⟨t,rfl,q⟩:=l 0 y pr rfl rfl;cases o;obtain⟨m,d,r,_⟩:=I.tuple q;cases d with
   | @cons _ key _ x z d=>
    cases d with
    | @cons _ n _ A k d=>
     cases d;refine⟨(pr.1,n)::ps,.cons ⟨rfl,k⟩ g,λj p h=>?_⟩;cases j with
     |zero=>
      have e:(pr.1,n)=p:=by simpa using h
      subst e;exact⟨t,key,rfl,r,fZ z⟩
     |succ j=>
      obtain⟨B,f,E,F,G⟩:=i j p (by simpa using h);exact⟨B,f,by simpa using E,F,G⟩
end
theorem jv {X:Cx}{K:PySem.W.Frag}(v:X.K=K)(x:X.calm=h7):E6 X (.type "dict") (λxs H Q=>∃p g b,xs=[.ref p]∧T9 K H p g∧g.length=b.length∧(∀(j:Nat) y pr,g[j]?=g7 y→b[j]?=g7 pr→∃t,y=.ref t∧bJ K H t [kV pr.1,pr.2])∧∀l,H l=g9→Q (.ref l) (upd H l (.dK (ny [] b)))):=by
 subst v;intro pins s σ H xs us Q I r h;obtain⟨p,g,b,rfl,z,hl,A,q⟩:=h;obtain⟨u,rfl,B⟩:=vals1 r;cases B;obtain⟨E,m,F,T⟩:=I.list z;obtain⟨ps,c,i⟩:=rM I hl A m;obtain⟨⟨cls,dd,data,sl⟩,n,G,d,f,hd⟩:=F;simp only at d hd f;subst d hd f;have U:=c.length;have Y:=m.length;have J:(ny [] b).length≤sizeLine:=by
  have e:=(pQ c (kvs:=[]) (vs:=[]) .nil).length;have L:=KD ([]:List (Key×Value)) ps;simp at L;omega
 refine kx (knd:=w6 X.prog X.w) ps (I.ok.hd x) G (by rw[List.size_toArray];omega) (by omega) (λj p N=>?_) λh' O k kp=>?_
 ·obtain⟨t,key,P,R,S⟩:=i j p N;exact⟨t,key,by simpa using P,R,S⟩
 ·exact⟨.ref s.heap.objs.size,_,I.laid (a:=s.heap.objs.size) (o:=.dK (ny [] b)) (t':=O) kp (i8 _) (mu J (beq_eq_false_iff_ne.mpr (o1 (j9 I.big))) (pQ c .nil) k),rfl,q _ I.fresh⟩
noncomputable def pairD:D→Option (Key×D)
 |.tup [k,v]=>(keyOf k).map λk=>(k,v)
 |_=>g9
noncomputable def dw:List D→Option (List (Key×D))
 | []=>g7 []
 |d::ds=>(pairD d).bind λp=>(dw ds).map (p::·)
noncomputable def qr:List D→Option W
 | [.lst ds]=>(dw ds).map λps=>.own (.dct (lE [] ps))
 |_=>g9
theorem vC {K:PySem.W.Frag}{G H:Hp}(g:j5 G H):∀{ds:List D} {ps:List (Key×D)} {c:List V},dw ds=g7 ps→v5 K G c ds→
  ∃b,m7 K G b ps∧c.length=b.length∧∀(j:Nat) y pr,c[j]?=g7 y→b[j]?=g7 pr→∃t,y=.ref t∧bJ K H t [kV pr.1,pr.2]
 | [],ps,[],h,_=>by cases h;exact⟨[],.nil,rfl,λj y pr h=>by simp at h⟩
 | [],_,_::_,_,r=>by have:=r.len;simp at this
 |_::_,_,[],_,r=>by have:=r.len;simp at this
 |d::ds,ps,y::c,h,r=>by
  have h':(pairD d).bind (λp=>(dw ds).map (p::·))=g7 ps:=h;cases hd:pairD d with
  |none=>rw[hd]at h';cases h'
  |some n=>
   rw[hd]at h';obtain⟨o,q,rfl⟩:=Option.map_eq_some_iff.mp (show(dw ds).map (n::·)=g7 ps from h');obtain⟨b,s,u,w⟩:=vC g q r.tail;unfold pairD at hd;split at hd
   ·rename_i k v;obtain⟨e,hk,rfl⟩:=Option.map_eq_some_iff.mp hd;have x:=r.head;cases x with
    | @tup a xs _ hs hl hr=>
     match xs,hl with
     | [i,f],_=>
      have z:=hr 0 i k rfl rfl;have A:=hr 1 f v rfl rfl;have B:i=kV e:=fC (G:=G) (H:=H) (.inl z) hk;subst B;refine⟨(e,f)::b,.cons rfl A s,by simp[u],λj y pr l m=>?_⟩;cases j with
      |zero=>
       have E:V.ref a=y:=by simpa using l
       have F:(e,f)=pr:=by simpa using m
       subst E F;exact⟨a,rfl,g.tup hs⟩
      |succ j=>exact w j y pr (by simpa using l) (by simpa using m)
   ·cases hd
section
variable {X:Cx}{B:Bs}{e:Expr}{mr:M (List W)}{pos p:Pos}
theorem uu:fR B (λxs H Q=>∃p b a,xs=[.ref p]∧T9 B.K H p b∧b.length=a.length∧(∀(j:Nat) y pr,b[j]?=g7 y→a[j]?=g7 pr→∃t,y=.ref t∧bJ B.K H t [kV pr.1,pr.2])∧∀l,H l=g9→Q (.ref l) (upd H l (.dK (ny [] a)))) qr:=by
 intro G H σ ρ xs ds w Q R h e p
 match ds,e with
 | [.lst ds],e=>
  obtain⟨ps,c,rfl⟩:=Option.map_eq_some_iff.mp (show(dw ds).map (λps=>W.own (.dct (lE [] ps)))=g7 w from e);obtain⟨x,rfl,hx⟩:=E1 h;obtain⟨q,b,rfl,d,f⟩:=hx.lst R.gH;obtain⟨a,g,i,k⟩:=vC R.gH c f;refine⟨q,b,a,rfl,d,i,k,λl hl=>?_⟩;obtain⟨R',m⟩:=R.pM hl (vw g m7.nil);exact p _ G _ (j5.refl _) R' m
theorem Ew (b:X.calm=h7)(c:X.mg "dict"=g9) (d:iW X B [e] mr) (f:Gl X "dict":=by rfl) (g:X.K=B.K:=by rfl) (h:i1 [e] X.env=(g8,eval e X.env)::i1 [] X.env:=by rfl) (a:(m4 pos (i1 [] X.env)).any (·.1)=g8:=by rfl):PD X B (.Call (.Name "dict" p) [e] [] pos) (L6 qr mr):=
 eV (λξ=>jv (X:=rz X ξ) (K:=B.K) g b) uu f c cF d (by decide) (by decide) h a
end
section
variable {P:Program}{w:World}{K:PySem.W.Frag}{G G' H H':Hp}{h h':Heap}{a b p:Addr}{o:Obj}{kvs:List (Key×V)}
theorem Hg (x:fb P w H h)(e:H a=g7 (.dK kvs))(d:h.get? a=g7 o):fb P w (upd H a (.df o (.dK kvs))) h:=by
 have k1:∀c b,H c=g7 (.own b)→upd H a (.df o (.dK kvs)) c=g7 (.own b):=λc b r=>by
  rw[i9 (by rintro rfl;rw[e]at r;cases r)];exact r
 have k2:∀c xs,H c=g7 (.tup xs)→upd H a (.df o (.dK kvs)) c=g7 (.tup xs):=λc b r=>by
  rw[i9 (by rintro rfl;rw[e]at r;cases r)];exact r
 intro b u q;by_cases z:b=a
 ·subst z;rw[l5]at q;cases q;exact⟨d,(x _ _ e).stay (λc v _ r=>r) (λc r=>k1 c _ r) k2⟩
 ·rw[i9 z]at q;exact(x b u q).stay (λc v _ r=>r) (λc r=>k1 c _ r) k2
theorem Hf (x:fb P w H h)(e:H a=g7 (.df o (.dK kvs))):fb P w (upd H a (.dK kvs)) h:=by
 have k1:∀c b,H c=g7 (.own b)→upd H a (.dK kvs) c=g7 (.own b):=λc b r=>by
  rw[i9 (by rintro rfl;rw[e]at r;cases r)];exact r
 have k2:∀c xs,H c=g7 (.tup xs)→upd H a (.dK kvs) c=g7 (.tup xs):=λc b r=>by
  rw[i9 (by rintro rfl;rw[e]at r;cases r)];exact r
 intro b u q;by_cases z:b=a
 ·subst z;rw[l5]at q;cases q;obtain⟨_,q⟩:=x _ _ e;exact q.stay (λc v _ r=>r) (λc r=>k1 c _ r) k2
 ·rw[i9 z]at q;exact(x b u q).stay (λc v _ r=>r) (λc r=>k1 c _ r) k2
theorem IH(u:Un fs [] (upd H a (.df o (.dK kvs))) H' h h')(e:H a=g7 (.dK kvs)):Un fs [] H (upd H' a (.dK kvs)) h h':=by
 have ne:∀{b},H b=g9→b≠a:=λq z=>by rw[z,e]at q;cases q
 refine⟨λb ob q n c d=>u.keep b ob q (by rw[i9 (ne n)];exact n) c d,λb ob q n c d=>u.slot b ob q (by rw[i9 (ne n)];exact n) c d,λb ob q n c=>?_,u.there,λb xs q=>?_,λb ob v q=>?_,λb ps q=>?_⟩
 ·rw[i9 (ne n)];exact u.free b ob q (by rw[i9 (ne n)];exact n) c
 ·have z:b≠a:=by rintro rfl;rw[e]at q;cases q
  rw[i9 z];exact u.tups b xs (by rw[i9 z];exact q)
 ·have z:b≠a:=by rintro rfl;rw[e]at q;cases q
  rw[i9 z];exact u.frzs b ob v (by rw[i9 z];exact q)
 ·have z:b≠a:=by rintro rfl;rw[e]at q;cases q
  rw[i9 z];exact u.tbls b ps (by rw[i9 z];exact q)
structure Sw (a:Addr) (kvs:List (Key×V)) (G G':Hp):Prop where
 out:∀b,b≠a→G' b=G b
 was:Rd G a (.dK kvs)
 now:Rd G' a (.dK kvs)
theorem Sw.rd(s:Sw a kvs G G')(h:Rd G b u)(z:b≠a):Rd G' b u:=by
 rcases h with h| ⟨o,h⟩
 ·exact .inl (by rw[s.out b z];exact h)
 ·exact .inr ⟨o,by rw[s.out b z];exact h⟩
theorem Gj(c:Rd G a u)(b:Rd G a v)(d:∀o x,u≠.df o x)(e:∀o x,v≠.df o x):u=v:=by
 rcases c with c| ⟨f,c⟩<;>rcases b with b| ⟨g,b⟩<;>rw[c]at b
 ·exact Option.some.inj b
 ·exact absurd (Option.some.inj b) (d _ _)
 ·exact absurd (Option.some.inj b).symm (e _ _)
 ·cases b;rfl
theorem Sw.ne(s:Sw a kvs G G')(h:Rd G b u)(n:∀o x,u≠.df o x)(c:u≠.dK kvs):b≠a:=by
 rintro rfl
 exact c (Gj h s.was n (by intro o x z;cases z))
theorem Sw.tup {xs:List V}(s:Sw a kvs G G')(h:bJ K G b xs):bJ K G' b xs:=by
 rcases h with h|h
 ·exact .inl (s.rd h (s.ne h (by intro o x z;cases z) (by intro z;cases z)))
 ·exact .inr h
theorem Sw.lst {xs:List V}(s:Sw a kvs G G')(h:T9 K G b xs):T9 K G' b xs:=by
 rcases h with h|h
 ·exact .inl (s.rd h (s.ne h (by intro o x z;cases z) (by intro z;cases z)))
 ·exact .inr h
theorem Sw.dct {c:List (Key×V)}(s:Sw a kvs G G')(h:Rd G b (.dK c)):Rd G' b (.dK c):=by
 by_cases z:b=a
 ·subst z;rw[zx h s.was];exact s.now
 ·exact s.rd h z
theorem Sw.rep (s:Sw a kvs G G')(h:Rep K G v d):Rep K G' v d:=by
 induction h with
 |z5=>exact .z5
 |bl b=>exact .bl b
 |int i=>exact .int i
 |str cs=>exact .str cs
 |ty n=>exact .ty n
 |tup h hl _ ih=>exact .tup (s.tup h) hl ih
 |lst h hl _ ih=>exact .lst (s.lst h) hl ih
 |dct h hk _ ih=>exact .dct (s.dct h) hk ih
theorem Sw.Ln (s:Sw a kvs G G')(h:v5 K G xs ds):v5 K G' xs ds:=⟨h.len,λj x d a b=>s.rep (h.get j x d a b)⟩
theorem Sw.EW (s:Sw a kvs G G')(h:m7 K G xs ds):m7 K G' xs ds:=⟨h.keys,λj x d a b=>s.rep (h.get j x d a b)⟩
theorem Sw.own (s:Sw a kvs G G')(e:H' p=H p)(h:C6 K G H p d):C6 K G' H' p d:=by
 cases d with
 |lst ds=>obtain⟨xs,q,r⟩:=h;exact⟨xs,by rw[e];exact q,s.Ln r⟩
 |dct es=>obtain⟨xs,q,r⟩:=h;exact⟨xs,by rw[e];exact q,s.EW r⟩
 |_=>exact(show False from h).elim
theorem Sw.args (s:Sw a kvs G G')(b:∀p,G p=g9→G' p=g9)(c:∀p,G p=g9→H' p=H p):∀{ms:List Bool} {vs:List V} {ds:List D} {ps:List Addr},W0 K G H ms vs ds ps→W0 K G' H' ms vs ds ps
 |_,_,_,_,.nil=>.nil
 |_,_,_,_,.sh h r=>.sh (s.rep h) (Sw.args s b c r)
 |_,_,_,_,.ln g o n r=>.ln (b _ g) (s.own (c _ g) o) n (Sw.args s b c r)
end
noncomputable def DK (i:Nat)(ρ:l9):l9:=match ρ[i]? with
 |some (g7 (.sh (.dct es)))=>ρ.set i (g7 (.fz es))
 |_=>ρ
noncomputable def jH (m:SM)(n:Nat)(ms:List Bool)(i:Nat)(ds:List D):Option FR:=(m (DK i (G8 n ms ds))).bind (rN ms)
noncomputable def uY (K:PySem.W.Frag)(ms:List Bool)(i:Nat)(b:List D→Option FR):Sp:=λvs H Q E=>∃G ds ps r,j5 G H∧W0 K G H ms vs ds ps∧(∃a o kvs es,vs[i]?=g7 (.ref a)∧G a=g7 (.df o (.dK kvs))∧ds[i]?=g7 (.dct es)∧m7 K G kvs es)∧b ds=g7 r∧match r with
 |.ret w fin=>∀v G' H',After K G H ps G' H' fin→mJ K H G' H' v w→Q v H'
 |.exc _ _=>False
theorem jt:∀{ms:List Bool} {ds:List D} {i:Nat} {m:Bool} {d:D},ms[i]?=g7 m→ds[i]?=g7 d→(cells ms ds)[i]?=g7 (kL m d)
 |m::ms,d::ds,0,_,_,a,b=>by simp at a b;subst a b;rfl
 |m::ms,d::ds,i+1,_,_,a,b=>by
  show(cells ms ds)[i]?=_;exact jt (by simpa using a) (by simpa using b)
 | [],_,_,_,_,a,_=>by simp at a
 |_::_,[],_,_,_,_,b=>by simp at b
theorem RS.KX(R:RS B G H σ ρ)(hi:ρ[i]?=g7 (g7 (.sh (.dct es))))(m:∃a o kvs,σ[i]?=g7 (g7 (.ref a))∧G a=g7 (.df o (.dK kvs))∧m7 B.K G kvs es):RS B G H σ (ρ.set i (g7 (.fz es))):=by
 have d:i<ρ.length:=(List.getElem?_eq_some_iff.mp hi).1;refine⟨R.hk,R.keep,R.g0,R.gH,R.gnew,R.dom,by simp[R.len],λj e c=>?_,λj l e c=>?_,λj k l e n p q a b=>?_,λj f c=>?_,R.ob.hJ (by intro _ h;cases h<;>rfl) (by intro _ h;cases h)⟩
 ·by_cases z:i=j
  ·subst z;rw[List.getElem?_set_self d]at c;cases c
  ·rw[List.getElem?_set_ne z]at c;exact R.sh j e c
 ·by_cases z:i=j
  ·subst z;rw[List.getElem?_set_self d]at c;cases c
  ·rw[List.getElem?_set_ne z]at c;exact R.ow j l e c
 ·by_cases z:i=j
  ·subst z;rw[List.getElem?_set_self d]at a;cases a
  ·by_cases g:i=k
   ·subst g;rw[List.getElem?_set_self d]at b;cases b
   ·rw[List.getElem?_set_ne z]at a;rw[List.getElem?_set_ne g]at b;exact R.inj j k l e n p q a b
 ·by_cases z:i=j
  ·subst z;rw[List.getElem?_set_self d]at c;cases c;exact m
  ·rw[List.getElem?_set_ne z]at c;exact R.fz j f c
section
variable {P:Program}{w:World}{K:PySem.W.Frag}{mg:Str→Option Value}{base:Heap}
theorem Hk {x:Str}{st:Stmt}{f:Addr}{fd:FuncData}{N ps:List Str}{ms:List Bool}{k i:Nat}{m:SM}(F:az K x x st f fd)(S:n4 N ps (i7 st))(Y:ms.length=ps.length)(B:ms[i]?=g7 g8)
  (o:∀(cdv:Value) (A:Around) (outer:List Env) (s:Shared) (H:Hp) (E:XK) (H0 HK G0:Hp) (L:Nat→Option Addr),K4 k (A.deeper (Z2 x (i7 st) s.heap.objs.size f cdv))→
   jw (X5 V1 P w K mg base N x (i7 st) f cdv A outer s H E) ⟨K,H0,HK,G0,L,g9⟩ (C5 st) m):x8 P w K mg base V1 (k+1) f fd ps (uY K ms i (jH m N.length ms i)):=by
 have I:ps.length≤N.length:=by have:=congrArg List.length S.pre;rw[List.length_take]at this;omega
 refine F.ok S (λvs H Q E h=>?_) (λcdv A outer s H vs Q E hr h=>?_)
 ·obtain⟨G,ds,u,r,_,a,_⟩:=h;rw[a.len.1,Y]
 obtain⟨G,ds,u,r,g,a,⟨a0,o0,kvs,es,J,O,R,T⟩,y,q⟩:=h;refine⟨_,((o cdv A outer s H E H (minus H u) G (O8 ms u) hr).ap λ_ _ _=>False).be (λe s z=>?_),?_⟩
 ·obtain⟨_,_,_,_,_,_,z⟩:=z;exact z
 have U:=ij (N:=N) g a (by rw[a.len.1,Y];exact I);have l:(G8 N.length ms ds)[i]?=g7 (g7 (.sh (.dct es))):=by
  have Z:=jt B R;unfold G8;rw[List.getElem?_append_left (List.getElem?_eq_some_iff.mp Z).1,Z];rfl
 have R0:=U.KX l ⟨a0,o0,kvs,V3 J,O,T⟩;have hE:DK i (G8 N.length ms ds)=(G8 N.length ms ds).set i (g7 (.fz es)):=by unfold DK;rw[l]
 unfold jH at y;rw[hE]at y;cases hs:m ((G8 N.length ms ds).set i (g7 (.fz es)))with
 |none=>rw[hs]at y;cases y
 |some X=>
  rw[hs]at y;have j:rN ms X=g7 r:=y;refine⟨G,_,R0,X,hs,?_⟩;have fin:∀{c:l9} {n:St} {G' H':Hp} {b:List D},bC ms c=g7 b→RS ⟨K,H,minus H u,G,O8 ms u,g9⟩ G' H' n c→After K G H u G' H' b:=λ{c n G' H' b} e R'=>
   ⟨R'.keep,R'.g0,R'.gH,R'.gnew,R'.dom,fH (λ_=>rfl) R' a 0 c b (λi=>by rw[Z3]) (λi=>by rw[Z3]) e⟩
  cases X with
  |nx c=>
   obtain⟨b,e,rfl⟩:=Option.map_eq_some_iff.mp j;exact λn G' H' s' R'=>q .z5 G' H' (fin e R') .z5
  |rt w' c=>
   cases w' with
   |slot i=>cases j
   |val d=>
    obtain⟨b,e,rfl⟩:=Option.map_eq_some_iff.mp j;exact λv n G' H' s' R' t=>q v G' H' (fin e R') t
   |own d=>
    obtain⟨b,e,rfl⟩:=Option.map_eq_some_iff.mp j;exact λv n G' H' s' R' t=>q v G' H' (fin e R') (let⟨p,a1,a2,a3,a4,_⟩:=t;⟨p,a1,a2,a3,a4⟩)
  |ex x c=>
   obtain⟨b,e,rfl⟩:=Option.map_eq_some_iff.mp j;exact q.elim
  |bk c=>cases j
  |ct c=>cases j
theorem HJ {G H:Hp}{ms:List Bool}{vs:List V}{ds:List D}{ps:List Addr}{i:Nat}{d:D}(r:W0 K G H ms vs ds ps)(a:ms[i]?=g7 g8)(b:ds[i]?=g7 d):∃v,vs[i]?=g7 v∧Rep K G v d:=by
 obtain⟨v,e,h⟩:=T8 r (jt a b);rcases h with⟨c,q,h⟩ | ⟨p,c,q,_⟩
 ·cases q;exact⟨v,e,h⟩
 ·cases q
theorem KY(F:x8 P w K mg base V1 k f fd ps (uY K ms i X))(hm:ms.length=ps.length)(Y:ms[i]?=g7 g8)(hd:∀ds r,X ds=g7 r→∃es,ds[i]?=g7 (.dct es)):
  x8 P w K mg base V1 k f fd ps (U0 K ms X):=by
 refine⟨λvs H Q E h=>?_,λA outer s H args us vs Q E hr c hb hv h=>?_⟩
 ·obtain⟨G,ds,Z,r,_,a,_⟩:=h;rw[a.len.1,hm]
 obtain⟨G,ds,Z,r,g,ar,hf,q⟩:=h;obtain⟨es,t⟩:=hd ds r hf;obtain⟨v,L,N⟩:=HJ ar Y t;cases N with
 | @dct a kvs _ a0 hk O=>
  rcases a0 with B| ⟨o,B⟩
  ·have R:=g _ _ B;obtain⟨U,z2,a1,z3,o,a2,ep,ho,z4⟩:=(show B9 P w H s.heap a (.dK kvs)from c.hok a _ R)
   have ne:∀{b},H b=g9→b≠a:=λq z=>by rw[z,R]at q;cases q
   have S:∀{b},G b=g9→b≠a:=λq z=>by rw[z,B]at q;cases q
   have e1:tt P w K mg base A outer s (upd H a (.df o (.dK kvs))):=⟨c.frames,c.mod,λb ob q=>⟨(c.bs b ob q).1,by rw[i9 (ne (c.bs b ob q).2)];exact(c.bs b ob q).2⟩,c.bsz,c.iG,λb q=>by rw[i9 (ne (c.frf b q))];exact c.frf b q,Hg c.hok R ho,c.bare⟩
   have sw:Sw a kvs G (upd G a (.df o (.dK kvs))):=⟨λb z=>i9 z,.inl B,.inr ⟨o,l5⟩⟩
   have gs:j5 (upd G a (.df o (.dK kvs))) (upd H a (.df o (.dK kvs))):=λb u q=>by
    by_cases z:b=a
    ·subst z;rw[l5]at q⊢;exact q
    ·rw[i9 z]at q⊢;exact g b u q
   refine L9 (F.run A outer s (upd H a (.df o (.dK kvs))) args us vs (λv H'=>Q v (upd H' a (.dK kvs))) E hr e1 hb hv ⟨upd G a (.df o (.dK kvs)),ds,Z,r,gs,sw.args (λp z=>by rw[i9 (S z)];exact z) (λp z=>i9 (S z)) ar,⟨a,o,kvs,es,L,l5,t,sw.EW ⟨hk,O⟩⟩,hf,?_⟩) λT s' l=>?_
   ·cases r with
    |exc x fin=>exact q
    |ret w' fin=>
     intro v G' H' n T;have I:G' a=g7 (.df o (.dK kvs)):=n.gg a _ l5;have a3:H' a=g7 (.df o (.dK kvs)):=n.gH a _ I;have J:Sw a kvs G' (upd G' a (.dK kvs)):=⟨λb z=>i9 z,.inr ⟨o,I⟩,.inl l5⟩
     have m:∀{b},G' b=g9→b≠a:=λq z=>by rw[z,I]at q;cases q
     refine q v (upd G' a (.dK kvs)) (upd H' a (.dK kvs)) ⟨λb u e=>?_,λb u e=>?_,λb u e=>?_,λb u e=>?_,λb e=>?_,?_⟩ ?_
     ·by_cases z:b=a
      ·subst z;have:=O6 _ _ _ _ e;rw[R]at this;rw[l5];exact this
      ·rw[i9 z];refine n.keep b u ?_;unfold minus at e⊢;split at e
       ·cases e
       ·rename_i hn;rw[if_neg hn,i9 z];exact e
     ·by_cases z:b=a
      ·subst z;rw[B]at e;rw[l5];exact e
      ·rw[i9 z];exact n.gg b u (by rw[i9 z];exact e)
     ·by_cases z:b=a
      ·subst z;rw[l5]at e⊢;exact e
      ·rw[i9 z]at e⊢;exact n.gH b u e
     ·by_cases z:b=a
      ·subst z;rw[l5]at e;rw[B];exact .inl e
      ·rw[i9 z]at e;rcases n.gnew b u e with y|y
       ·rw[i9 z]at y;exact .inl y
       ·rw[i9 z]at y;exact .inr y
     ·by_cases z:b=a
      ·subst z;rw[l5]at e;cases e
      ·rw[i9 z]at e;have y:=n.dom b e;rw[i9 z]at y;exact y
     ·exact L2.Paired.imp' (λp d ⟨U,z2⟩=>⟨by rw[i9 (m U)];exact U,J.own (i9 (m U)) z2⟩) n.lent
     ·cases w' with
      |val d=>exact J.rep T
      |slot j=>exact T.elim
      |own d=>
       obtain⟨p,rfl,y1,y2,y3⟩:=T;have zp:p≠a:=m y1;refine⟨p,rfl,by rw[i9 zp];exact y1,by rw[i9 zp]at y2;exact y2,J.own (i9 zp) y3⟩
   ·cases T with
    |error e=>exact l
    |ok fl=>
     cases fl with
     |ret u=>
      obtain⟨v,H',b1,b2,b3,b4,b5,b6⟩:=l;exact⟨v,upd H' a (.dK kvs),b1,b2,IH b3 R,Hf b4 (b3.frzs a o _ l5),b5,b6⟩
     |next=>exact l
     |brk=>exact l
     |cont=>exact l
  ·exact F.run A outer s H args us vs Q E hr c hb hv ⟨G,ds,Z,r,g,ar,⟨a,o,kvs,es,L,B,t,⟨hk,O⟩⟩,hf,q⟩
end
noncomputable def LW (a:Addr)(o:Obj)(kvs:List (Key×V)):It:=
 ⟨λi H=>H a=g7 (.df o (.dK kvs))∧i<kvs.length,λi H x H'=>H'=H∧∃kv,kvs[i]?=g7 kv∧x=kV kv.1,λi H=>H a=g7 (.df o (.dK kvs))∧kvs.length≤i⟩
theorem DD(h:iA k v=h7):RelV (kV k) v:=by
 rcases z8 h with⟨i,t,rfl,rfl⟩ | ⟨x,t,rfl,rfl⟩
 ·exact⟨t,rfl⟩
 ·exact⟨t,rfl⟩
theorem xa {P:Program}{w:World}{K:PySem.W.Frag}{tg:Expr}(a it:Addr)(o:Obj)(kvs:List (Key×V))(B:Nat)(r:∃es,o.data=.dict es B):Turn P w K tg (LW a o kvs) [it] it (λi h=>h.IsKeyIter it a i kvs.length B) where
 mem:=by simp
 obj:=λi h st b l=>by
  have e:b=it:=by simpa using l
  subst e;obtain⟨o,e,c,d⟩:=st;exact⟨o,e,λv z=>by rw[d]at z;cases z⟩
 keep:=λi h h' st k=>by
  obtain⟨o,e,c,d⟩:=st;exact⟨o,k it (by simp) o e,c,d⟩
 item:=by
  intro X G J L hc i pins s σ H E I F st N;subst G J L;obtain⟨O,Q⟩:=N;obtain⟨t,z1,z2,vs,j,o',m,f,g,R,n,S⟩:=(show B9 X.prog X.w H s.heap a (.df o (.dK kvs))from I.hok a _ O)
  obtain⟨es,p⟩:=r;have T:o'=o:=by rw[t]at g;exact(Option.some.inj g).symm
  subst T;have q:f=B:=by rw[p]at n;cases n;rfl
  subst q;have hl:=j.length;have U:s.heap.DictAt (w6 X.prog X.w) a vs f:=⟨o',m,t,R,n,S⟩
  obtain⟨f0,f1,f2,Y,Z,f5⟩:=F it (by simp);have u:vs[i]?=g7 vs[i]:=List.getElem?_eq_getElem (by omega);have x:kvs[i]?=g7 kvs[i]:=List.getElem?_eq_getElem Q;have a0:kvs[i].1=vs[i].1:=(gx j x u).1;refine wpAny_pyNext_dict_item (kvs:=vs) (k:=vs[i].1) (v:=vs[i].2) (by rw[←hl];exact st) U (by rw[u]) λkey h' y A sb=>?_;have I1:Inv X pins σ H {s with heap:=h'}:=I.turned (t':=s.toks) (λb o l e=>(sb.2 b l).trans e) f0 f1 Y Z f5;obtain⟨oi,e,c,d⟩:=id A;refine⟨key,rfl,iD (s:={s with heap:=h'}) e c d (by decide) ⟨kV kvs[i].1,H,I1,?_,⟨rfl,kvs[i],x,rfl⟩,by rw[hl];exact A,λb l=>(F b l).1⟩⟩;rw[a0];exact DD y
 done:=by
  intro X G J L hc i pins s σ H E I F st N;subst G J L;obtain⟨O,a1⟩:=N;obtain⟨t,z1,z2,vs,j,o',m,f,g,R,n,S⟩:=(show B9 X.prog X.w H s.heap a (.df o (.dK kvs))from I.hok a _ O)
  obtain⟨es,p⟩:=r;have T:o'=o:=by rw[t]at g;exact(Option.some.inj g).symm
  subst T;have q:f=B:=by rw[p]at n;cases n;rfl
  subst q;have hl:=j.length;have U:s.heap.DictAt (w6 X.prog X.w) a vs f:=⟨o',m,t,R,n,S⟩
  obtain⟨f0,f1,f2,Y,Z,f5⟩:=F it (by simp);exact wpAny_pyNext_dict_end (I.ok.hd hc) (kvs:=vs) (by rw[←hl];exact st) U (List.getElem?_eq_none (by omega)) λh' eb=>⟨rfl,I.turned (t':=s.toks) (λb o l e=>eb b o l e) f0 f1 Y Z f5⟩
 self:=λ_ _ _ _ _ st h=>wpAny_pyIter_keyiter st h
section
variable {X:Cx}{tg:Expr}
theorem Dm(hl:PE X l k):PI X tg l (λσ H R=>k σ H λx H1=>∃a o kvs,x=.ref a∧H1 a=g7 (.df o (.dK kvs))∧R (LW a o kvs) H1):=by
 intro pins s σ H R I h;refine F9 (hl pins s σ H _ I h) λv s1 ⟨x,H1,g,i,a,o,kvs,ex,p,q⟩=>?_;subst ex;cases i;obtain⟨m,z,r,vs,j,o',c,ep,d,i,n,t⟩:=(show B9 X.prog X.w H1 s1.heap a (.df o (.dK kvs))from g.hok a _ p)
 have u:o'=o:=by rw[m]at d;exact(Option.some.inj d).symm
 subst u;have f:=j.length;refine wpAny_pyIter_dict (knd:=w6 X.prog X.w) (kvs:=vs) (ep:=ep) r ⟨o',c,m,i,n,t⟩ ?_;refine⟨s1.heap.objs.size,[s1.heap.objs.size],_,_,H1,rfl,g.kept (t':=s1.toks) λb o e=>Heap.get?_push_of_some _ e,xa a _ o' kvs ep ⟨c,n⟩,?_,λb y=>?_,q⟩
 ·rw[f];exact⟨_,Heap.get?_push_size _ rfl,rfl,rfl⟩
 ·have e:b=s1.heap.objs.size:=by simpa using y
  subst e;exact g.DQ (i8 _) (g.hok.fresh (i8 _))
end
noncomputable def ox (k:Key):D:=match k with
 |.inl i=>D.int i
 |.inr x=>D.str x.cps.toList
noncomputable def oq (i:Nat):M (List D):=λρ=>match ρ[i]? with
 |some (g7 (.fz es))=>g7 (.ok (es.map λe=>ox e.1) ρ)
 |_=>g9
theorem Db {K:PySem.W.Frag}{G:Hp}(k:Key):Rep K G (kV k) (ox k):=by
 cases k with
 |inl i=>exact .int i
 |inr x=>exact kE x
section
variable {X:Cx}{B:Bs}{tg:Expr}
theorem He (i:Nat)(hN:X.N[i]?=g7 x:=by rfl)(m:cq X.env.scope x:=by first|exact Or.inl rfl|exact Or.inr (Or.inl rfl) |exact Or.inr (Or.inr rfl))(hd:(x==("__debug__":Str))=g8:=by decide) (c:(x==("__classdict__":Str))=g8:=by decide):EE X B tg (.Name x pos) (oq i):=.mk λξ=>
 (Dm (A3 (X:=rz X ξ) (i:=i) (pos:=pos) hN m hd c)).imp λσ H u t=>by
  obtain⟨G,ρ,r,R,e,p⟩:=t;unfold oq at e;split at e
  ·rename_i es n;cases e;obtain⟨a,o,kvs,q,d,f⟩:=R.fz i es n;refine⟨.ref a,q,a,o,kvs,rfl,R.gH _ _ d,p (LW a o kvs) G H (j5.refl _) R ⟨λl H1 j s1 s2 g=>?_,λl H1 s1 s2=>?_,λl H1 v j y s1 s2 g s=>?_⟩⟩
   ·refine⟨s2 _ _ (s1 _ _ d),?_⟩;rw[List.length_map,←f.len]at g;exact g
   ·refine⟨s2 _ _ (s1 _ _ d),?_⟩;rw[List.length_map,←f.len];exact i8 _
   ·obtain⟨rfl,kv,hk,rfl⟩:=s;have b:(kvs.map (·.1))[j]?=g7 kv.1:=by rw[List.getElem?_map,hk];rfl
    rw[f.keys,List.getElem?_map]at b;obtain⟨e,h,k⟩:=Option.map_eq_some_iff.mp b;refine⟨rfl,ox kv.1,?_,Db _⟩;rw[List.getElem?_map,h];show g7 (ox e.1)=_;rw[k]
  ·cases e
end
noncomputable abbrev Gs:=List (Int×List Int)
noncomputable def aS (gs:Gs)(h:Int):Option Gs:=if h<0 then g7 (gs++[(-h,[])])else match gs.getLast? with
 |some g=>g7 (gs.dropLast++[(g.1,g.2++[h])])
 |none=>g9
noncomputable def ax:Gs→List Int→Option Gs
 |gs,[]=>g7 gs
 |gs,h::hs=>(aS gs h).bind λgs=>ax gs hs
noncomputable def Jt (b:Bool)(xs:List V):HO:=if b=h7 then .tup xs else .lst xs
noncomputable def MV (b:Bool)(xs:List D):D:=if b=h7 then .tup xs else .lst xs
noncomputable def N0 (b:Bool)(g:Int×List Int):D:=MV b [.int g.1,.lst (g.2.map D.int)]
noncomputable def hF (i:Nat)(hs:List Int)(ρ:l9):l9:=match hs.getLast? with
 |some h=>ρ.set i (g7 (.sh (.int h)))
 |none=>ρ
noncomputable def pY (b:Bool)(a:M (List D))(i j:Nat):SM:=C9 a λds ρ=>match ρ[j]?,intsOf ds with
 |some (g7 (.ow g8 (.lst []))),g7 hs=>cf (i<ρ.length∧i≠j∧hs.length≤4000) ((ax [] hs).map λgs=>.nx ((hF i hs ρ).set j (g7 (.ow g8 (.lst (gs.map (N0 b)))))))
 |_,_=>g9
structure fe (b:Bool) (H1 H:Hp) (p:Addr) (ts:List (Addr×Addr)) (gs:Gs):Prop where
 out:∀c,c≠p→H1 c≠none→H c=H1 c
 dom:∀c,H c=none→H1 c=none
 lst:H p=some (.lst (ts.map λt=>V.ref t.1))
 len:ts.length=gs.length
 pr:∀(k:Nat) t g,ts[k]?=some t→gs[k]?=some g→H1 t.1=none∧H1 t.2=none∧H t.1=some (Jt b [.int g.1,.ref t.2])∧H t.2=some (.lst (g.2.map V.int))
 nd:(ts.map (·.1)++ts.map (·.2)).Nodup
theorem iE {α:Type}{xs:List α}{x:α}(h:xs.getLast?=g7 x):xs=xs.dropLast++[x]:=by
 obtain⟨a,rfl⟩:=List.getLast?_eq_some_iff.mp h;rw[List.dropLast_concat]
section
variable {b:Bool}{H1 H:Hp}{p:Addr}{ts:List (Addr×Addr)}{gs:Gs}
theorem fe.add (A:fe b H1 H p ts gs)(U:H1 p≠g9)(u:H q=g9)(v:upd H q (.lst []) t=g9):
  fe b H1 (upd (upd (upd H q (.lst [])) t (Jt b [.int n,.ref q])) p (.lst ((ts.map λt=>V.ref t.1)++[.ref t]))) p (ts++[(t,q)]) (gs++[(n,[])]):=by
 have w:p≠q:=λz=>by have:=A.lst;rw[z,u]at this;cases this
 have l:t≠q:=λz=>by rw[z,l5]at v;cases v
 have G:p≠t:=λz=>by rw[←z,i9 w,A.lst]at v;cases v
 have j:H t=g9:=by rw[i9 l]at v;exact v
 have I:=A.dom q u;have J:=A.dom t j;have d:∀a∈ts,H a.1≠g9∧H a.2≠g9:=λa f=>by
  obtain⟨k,hk⟩:=List.getElem?_of_mem f;have i:k<gs.length:=by rw[←A.len];exact(List.getElem?_eq_some_iff.mp hk).1
  obtain⟨_,_,L,N⟩:=A.pr k a gs[k] hk (List.getElem?_eq_getElem i);exact⟨by rw[L];exact nofun,by rw[N];exact nofun⟩
 have B:∀a∈ts,a.1≠p∧a.2≠p:=λa f=>by
  obtain⟨k,hk⟩:=List.getElem?_of_mem f;have i:k<gs.length:=by rw[←A.len];exact(List.getElem?_eq_some_iff.mp hk).1
  obtain⟨O,P,_,_⟩:=A.pr k a gs[k] hk (List.getElem?_eq_getElem i);exact⟨λz=>U (by rw[←z];exact O),λz=>U (by rw[←z];exact P)⟩
 refine⟨λc X h=>?_,λc h=>?_,?_,by simp[A.len],λk a g hk E=>?_,?_⟩
 ·rw[i9 X,i9 (λz=>h (by rw[z];exact J)),i9 (λz=>h (by rw[z];exact I))];exact A.out c X h
 ·by_cases Y:c=p
  ·rw[Y,l5]at h;cases h
  ·rw[i9 Y]at h;by_cases Z:c=t
   ·rw[Z];exact J
   ·rw[i9 Z]at h;by_cases z3:c=q
    ·rw[z3];exact I
    ·rw[i9 z3]at h;exact A.dom c h
 ·rw[l5];simp
 ·by_cases i:k<ts.length
  ·rw[List.getElem?_append_left i]at hk;rw[List.getElem?_append_left (by rw[←A.len];exact i)]at E;obtain⟨O,P,L,N⟩:=A.pr k a g hk E;have f:=List.mem_of_getElem? hk;obtain⟨n1,n2⟩:=d a f;obtain⟨m1,m2⟩:=B a f;refine⟨O,P,?_,?_⟩
   ·rw[i9 m1,i9 (λz=>n1 (by rw[z];exact j)),i9 (λz=>n1 (by rw[z];exact u))];exact L
   ·rw[i9 m2,i9 (λz=>n2 (by rw[z];exact j)),i9 (λz=>n2 (by rw[z];exact u))];exact N
  ·rw[List.getElem?_append_right (by omega)]at hk;rw[List.getElem?_append_right (by rw[←A.len];omega)]at E;have F:k-ts.length=0:=by
    have:=(List.getElem?_eq_some_iff.mp hk).1;simp at this;omega
   rw[F]at hk;rw[←A.len,F]at E;have e1:a=(t,q):=by simpa using hk.symm
   have e2:g=(n,[]):=by simpa using E.symm
   subst e1 e2;refine⟨J,I,?_,?_⟩
   ·rw[i9 (o1 G),l5]
   ·rw[i9 (o1 w),i9 (o1 l),l5];rfl
 ·have Q:t∉ts.map (·.1):=λm=>by obtain⟨a,f,e⟩:=List.mem_map.mp m;exact(d a f).1 (by rw[e];exact j)
  have R:t∉ts.map (·.2):=λm=>by obtain⟨a,f,e⟩:=List.mem_map.mp m;exact(d a f).2 (by rw[e];exact j)
  have S:q∉ts.map (·.1):=λm=>by obtain⟨a,f,e⟩:=List.mem_map.mp m;exact(d a f).1 (by rw[e];exact u)
  have T:q∉ts.map (·.2):=λm=>by obtain⟨a,f,e⟩:=List.mem_map.mp m;exact(d a f).2 (by rw[e];exact u)
  have nd:=A.nd;rw[List.nodup_append]at nd;obtain⟨d1,d2,d3⟩:=nd;rw[List.map_append,List.map_append,List.nodup_append];refine⟨?_,?_,λx hx y o=>?_⟩
  ·rw[List.nodup_append];exact⟨d1,by simp,λx hx y o z=>by simp at o;subst o;subst z;exact Q hx⟩
  ·rw[List.nodup_append];exact⟨d2,by simp,λx hx y o z=>by simp at o;subst o;subst z;exact T hx⟩
  ·rcases List.mem_append.mp hx with r|r<;>rcases List.mem_append.mp o with s|s
   ·exact d3 x r y s
   ·simp at s;exact λz=>S (by rw[←s,←z];exact r)
   ·simp at r;exact λz=>R (by rw[←r,z];exact s)
   ·simp at r s;rw[r,s];exact l
theorem fe.grow (A:fe b H1 H p (ts++[(t,q)]) (gs++[(n,ns)]))(v:H1 p≠g9)(h:Int):
  fe b H1 (upd H q (.lst (ns.map V.int++[.int h]))) p (ts++[(t,q)]) (gs++[(n,ns++[h])]):=by
 have a:ts.length=gs.length:=by have:=A.len;simpa using this
 obtain⟨w,l,y,O⟩:=A.pr ts.length (t,q) (n,ns) (by simp) (by rw[a];simp);have o:q≠p:=λz=>v (by rw[←z];exact l);have nd:=A.nd;rw[List.map_append,List.map_append,List.nodup_append]at nd;obtain⟨P,s,B⟩:=nd;have d:∀x∈ts.map (·.1)++[t],x≠q:=λx hx=>B x (by simpa using hx) q (by simp);have r:∀x∈ts.map (·.2),x≠q:=λx hx=>by
  rw[List.nodup_append]at s;exact s.2.2 x hx q (by simp)
 refine⟨λc E e=>?_,λc e=>?_,?_,by simp[a],λk m g hk f=>?_,A.nd⟩
 ·rw[i9 (λz=>e (by rw[z];exact l))];exact A.out c E e
 ·by_cases z:c=q
  ·rw[z];exact l
  ·rw[i9 z]at e;exact A.dom c e
 ·rw[i9 (o1 o)];exact A.lst
 ·by_cases i:k<ts.length
  ·rw[List.getElem?_append_left i]at hk;rw[List.getElem?_append_left (by omega)]at f;obtain⟨F,G,I,J⟩:=A.pr k m g (by rw[List.getElem?_append_left i];exact hk) (by rw[List.getElem?_append_left (by omega)];exact f);have u:=List.mem_of_getElem? hk;refine⟨F,G,?_,?_⟩
   ·rw[i9 (d m.1 (List.mem_append_left _ (List.mem_map_of_mem u)))];exact I
   ·rw[i9 (r m.2 (List.mem_map_of_mem u))];exact J
  ·rw[List.getElem?_append_right (by omega)]at hk;rw[List.getElem?_append_right (by omega)]at f;have j:k-ts.length=0:=by
    have:=(List.getElem?_eq_some_iff.mp hk).1;simp at this;omega
   rw[j]at hk;rw[←a,j]at f;have L:m=(t,q):=by simpa using hk.symm
   have N:g=(n,ns++[h]):=by simpa using f.symm
   subst L N;refine⟨w,l,?_,?_⟩
   ·rw[i9 (d t (by simp))];exact y
   ·rw[l5];simp
end
theorem fe.done{hs:List Int}(R:RS B f H1 σ ρ)(P:ρ[j]?=g7 (g7 (.ow g8 (.lst []))))(n:σ[j]?=g7 (g7 (.ref p)))(hi:i<ρ.length)(T:i≠j)(A:fe b H1 H p ts gs):
  ∃G',j5 f G'∧RS B G' H (match hs.getLast? with|some h=>σ.set i (g7 (.int h)) |none=>σ) ((hF i hs ρ).set j (g7 (.ow g8 (.lst (gs.map (N0 b)))))):=by
 obtain⟨p0,q1,q2,q3,q4,q5⟩:=R.ow j g8 _ P;rw[n]at q1;cases q1;obtain⟨ob,U⟩:=q5.some;have hp:H1 p≠g9:=by rw[U];exact nofun
 let L:=ts.map (·.1)++ts.map (·.2)
 have jm:∀{c},c∈L→H1 c=g9:=λ{c} w=>by
  rcases List.mem_append.mp w with w|w
  ·obtain⟨t,X,rfl⟩:=List.mem_map.mp w;obtain⟨k,hk⟩:=List.getElem?_of_mem X;have s:k<gs.length:=by rw[←A.len];exact(List.getElem?_eq_some_iff.mp hk).1
   exact(A.pr k t gs[k] hk (List.getElem?_eq_getElem s)).1
  ·obtain⟨t,X,rfl⟩:=List.mem_map.mp w;obtain⟨k,hk⟩:=List.getElem?_of_mem X;have s:k<gs.length:=by rw[←A.len];exact(List.getElem?_eq_some_iff.mp hk).1
   exact(A.pr k t gs[k] hk (List.getElem?_eq_getElem s)).2.1
 have Y:p∉L:=λm=>hp (jm m);have s1:j5 f (plus f H L):=λc o e=>by
  rw[B5 λm=>?_]
  ·exact e
  ·have:=jm m;rw[R.gH c o e]at this;cases this
 have y:v5 B.K (plus f H L) (ts.map λt=>V.ref t.1) (gs.map (N0 b)):=by
  refine⟨by rw[List.length_map,List.length_map,A.len],λk x d hx hd=>?_⟩;rw[List.getElem?_map]at hx hd;obtain⟨t,Z,rfl⟩:=Option.map_eq_some_iff.mp hx;obtain⟨g,hg,rfl⟩:=Option.map_eq_some_iff.mp hd;obtain⟨_,_,E,a4⟩:=A.pr k t g Z hg;have m1:t.1∈L:=List.mem_append_left _ (List.mem_map_of_mem (List.mem_of_getElem? Z));have m2:t.2∈L:=List.mem_append_right _ (List.mem_map_of_mem (List.mem_of_getElem? Z));have r2:Rep B.K (plus f H L) (.ref t.2) (.lst (g.2.map D.int)):=by
   have r:=v5.iw (K:=B.K) (G:=plus f H L) g.2;exact .lst (T9.of (by rw[N6 m2];exact a4)) r.len r.get
  have Q:v5 B.K (plus f H L) [.int g.1,.ref t.2] [.int g.1,.lst (g.2.map D.int)]:=.cons (.int _) (.cons r2 .nil);unfold N0 MV;unfold Jt at E;cases b with
  |true=>exact .tup (bJ.of (by rw[N6 m1];exact E)) Q.len Q.get
  |false=>exact .lst (T9.of (by rw[N6 m1];exact E)) Q.len Q.get
 
 have R1:RS B (plus f H L) H σ (ρ.set j (g7 (.ow g8 (.lst (gs.map (N0 b)))))):=by
  have F:j<ρ.length:=(List.getElem?_eq_some_iff.mp P).1;refine⟨R.hk,λc o e=>?_,R.g0.trans s1,λc o e=>?_,λc o e=>?_,λc e=>R.dom c (A.dom c e),by simp[R.len],λk d e=>?_,λk l d e=>?_,λk m l d l' d' p' a b'=>?_,(R.fz.same s1).hJ (by intro _ h;cases h),(R.ob.gh s1 (λq _ _ _ I g=>by rw[B5 λm=>by have:=jm m;rw[I]at this;cases this];exact g) λq _ _ _ I _ _=>by rw[A.out q (aN q5 I) (by rw[I];exact nofun)];exact I).hJ (by intro _ h;cases h<;>rfl) (by intro _ h;cases h)⟩
  ·have J:=R.keep c o e;rw[A.out c (λz=>by rw[z,q3]at e;cases e) (by rw[J];exact nofun)];exact J
  ·by_cases m:c∈L
   ·rw[N6 m]at e;exact e
   ·rw[B5 m]at e;have J:=R.gH c o e;rw[A.out c (λz=>by rw[z,q2]at e;cases e) (by rw[J];exact nofun)];exact J
  ·by_cases m:c∈L
   ·exact .inr (R.dom c (jm m))
   ·rw[B5 m]at e;exact R.gnew c o e
  ·by_cases z:j=k
   ·subst z;rw[List.getElem?_set_self F]at e;cases e
   ·rw[List.getElem?_set_ne z]at e;obtain⟨v,u,N⟩:=R.sh k d e;exact⟨v,u,N.same s1⟩
  ·by_cases z:j=k
   ·subst z;rw[List.getElem?_set_self F]at e;cases e;exact⟨p,n,by rw[B5 Y];exact q2,q3,q4,_,A.lst,y⟩
   ·rw[List.getElem?_set_ne z]at e;obtain⟨S,u,N,E,a4,a5⟩:=R.ow k l d e;obtain⟨o2,O⟩:=a5.some;have n1:S∉L:=λm=>by have:=jm m;rw[O]at this;cases this
    have n2:S≠p:=λzz=>z (R.inj j k _ _ _ _ p P e n (by rw[u,zz]));exact⟨S,u,by rw[B5 n1];exact N,E,a4,a5.same s1 (A.out S n2 (by rw[O];exact nofun))⟩
  ·have old:∀{k:Nat} {l:Bool} {d:D},(ρ.set j (g7 (.ow g8 (.lst (gs.map (N0 b))))))[k]?=g7 (g7 (.ow l d))→∃l d,ρ[k]?=g7 (g7 (.ow l d)):=λ{k l d} e=>by
    by_cases z:j=k
    ·subst z;exact⟨_,_,P⟩
    ·rw[List.getElem?_set_ne z]at e;exact⟨_,_,e⟩
   obtain⟨l1,d1,u⟩:=old a;obtain⟨l2,d2,N⟩:=old b';exact R.inj k m l1 d1 l2 d2 p' u N
 refine⟨plus f H L,s1,?_⟩;unfold hF;cases hl:hs.getLast? with
 |none=>exact R1
 |some h=>
  have e:(ρ.set i (g7 (C.sh (.int h)))).set j (g7 (.ow g8 (.lst (gs.map (N0 b)))))=(ρ.set j (g7 (.ow g8 (.lst (gs.map (N0 b)))))).set i (g7 (.sh (.int h))):=List.set_comm _ _ T;show RS B (plus f H L) H (σ.set i (g7 (.int h))) ((ρ.set i (g7 (C.sh (.int h)))).set j _);rw[e];exact R1.rk (by simpa using hi) (.int h)
noncomputable def stK (i:Nat)(hs:List Int)(σ:St):St:=match hs.getLast? with
 |some h=>σ.set i (g7 (.int h))
 |none=>σ
theorem zf (i:Nat)(hs:List Int)(σ:St)(h:Int):(stK i hs σ).set i (g7 (.int h))=stK i (hs++[h]) σ:=by
 have e:stK i (hs++[h]) σ=σ.set i (g7 (.int h)):=by unfold stK;simp
 rw[e];unfold stK;split
 ·exact List.set_set _
 ·rfl
theorem xi(h:i≠j):(stK i hs σ)[j]?=σ[j]?:=by
 unfold stK;split
 ·exact List.getElem?_set_ne h
 ·rfl
theorem CK:(stK i hs σ).length=σ.length:=by
 unfold stK;split
 ·simp
 ·rfl
section
variable {X:Cx}{B:Bs}{xh xg:Str}{iter pe:Expr}{mi:M (List D)}{i j:Nat}{b:Bool}{rb:R2}{tp:XP→TE}
 {p1 p2 p3 p4 p5 p6 p7 p8 p9 Ir Iq wK Fw Fv Fu Ip OC:Pos} {j1 j2 j3:Option Str}
theorem sq (hi:EE X B (.Name xh p1) iter mi)(hN:X.N.Nodup)(c0:X.N[i]?=g7 xh)(d5:X.N[j]?=g7 xg)(hx:Loc X.env.scope xh)(hf:X.fn xh=h7∨X.env.scope.names.lookup xh=g7 .local)(hK:X.K=B.K)(hc:X.calm=h7)
  (c1:∀ξ σ H Q h,σ[i]?=g7 (g7 (.int h))→(∀q,H q=g9→∀t,upd H q (.lst []) t=g9→Q (.ref t) (upd (upd H q (.lst [])) t (Jt b [.int (-h),.ref q])))→tp ξ σ H Q)
  (c2:∀{H:Hp} {t q:Addr} {n:Int} {Q:VK},H t=g7 (Jt b [.int n,.ref q])→Q (.ref q) H→rb (.ref t) (.int 1) H Q)
  (hb:∀ξ,nQ (rz X ξ) T (FS (ER (ES (zB λi j=>.bl (decide (i<j))) (kW i) (tC (.int 0)))) (yX (Lh X.K "list" pD (kW j) (kX (tp ξ) tO))) (yX (Lh X.K "list" pD (ES rb (ES (zA X.K) (kW j) (IL (rU λi=>.int (-i)) (tC (.int 1)))) (tC (.int 1))) (kX (kW i) tO)))))
  (hs:∀x,foldedSetIterable iter X.env x=pure x):oX X B (.For (.Name xh p1) iter T [] pos) (pY b mi i j):=.mk λξ=>
 (zH (X:=rz X ξ) gw hc (hi.ap ξ) (kF (X:=rz X ξ) hN c0 hx hf) (hb ξ) hs).imp λDn σ H t=>by
  obtain⟨G,ρ,R,r,e,a8⟩:=t;unfold pY C9 at e;cases hm:mi ρ with
  |none=>rw[hm]at e;cases e
  |some r1=>
   rw[hm]at e;cases r1 with
   |ex x c3=>
    cases e;exact⟨G,ρ,_,R,hm,λG' H' s R'=>a8 σ G' H' s R'⟩
   |ok ds c3=>
    refine⟨G,ρ,_,R,hm,λJ G1 H1 s1 R1 gv=>?_⟩;dsimp only at e;split at e
    ·rename_i f hj c4;obtain⟨⟨a9,Y,d4⟩,e⟩:=t6 e;obtain⟨Z,c5,rfl⟩:=Option.map_eq_some_iff.mp e;have c6:=jk c4;subst c6;obtain⟨p,q1,q2,q3,q4,q5⟩:=R1.ow j g8 _ hj;have U:H1 p=g7 (.lst []):=by
      obtain⟨xs,a1,a2⟩:=q5;have:xs=[]:=List.length_eq_zero_iff.mp (by rw[a2.len];rfl);rw[this]at a1;exact a1
     have hp:H1 p≠g9:=by rw[U];exact nofun
     have c7:i<σ.length:=by rw[R1.len];exact a9
     have a0:∀{P:Hp} {ts:List (Addr×Addr)} {gs:Gs},fe b H1 P p ts gs→j5 G1 P:=λ{P ts gs} A c o ec=>by
      have e1:=R1.gH c o ec;rw[A.out c (λz=>by rw[z,q2]at ec;cases ec) (by rw[e1];exact nofun)];exact e1
     refine⟨λk m b0 P=>∃ts gs,m=f.length-k∧k≤f.length∧fe b H1 P p ts gs∧ax gs (f.drop k)=g7 Z∧b0=stK i (f.take k) σ∧gs.length≤k∧∀g∈gs,g.2.length≤k,
      ⟨f.length,[],[],by simp,u3 _,⟨λc _ _=>rfl,λc h=>h,U,rfl,λk t g h=>by simp at h,by simp⟩,by simpa using c5,rfl,i8 _,λg w=>by cases w⟩,?_⟩
     rintro k m b0 P ⟨ts,gs,rfl,hle,A,hall,rfl,hgl,hg2⟩
     by_cases E:k<f.length
     ·have ed:f.drop k=f[k]::f.drop (k+1):=List.drop_eq_getElem_cons E;rw[ed]at hall;have c8:f.take (k+1)=f.take k++[f[k]]:=by rw[List.take_succ_eq_append_getElem E]
      have l:(aS gs f[k]).bind (λgs=>ax gs (f.drop (k+1)))=g7 Z:=hall;refine .inr ⟨gv.go G1 P k (j5.refl _) (a0 A) (by simpa using E),λb6 H'=>∃ts gs,fe b H1 H' p ts gs∧ax gs (f.drop (k+1))=g7 Z∧b6=stK i (f.take (k+1)) σ∧gs.length≤k+1∧∀g∈gs,g.2.length≤k+1,λb6 H' ⟨ts,gs,b1,b2,b3,b4,b5⟩=>⟨f.length-(k+1),by omega,ts,gs,rfl,E,b1,b2,b3,b4,b5⟩,λx H' y=>?_⟩;obtain⟨rfl,d,hd,rx⟩:=gv.yld G1 P H' k x (j5.refl _) (a0 A) (by simpa using E) y;have c9:d=.int f[k]:=by
       rw[List.getElem?_map,List.getElem?_eq_getElem E]at hd;exact(Option.some.inj hd).symm
      subst c9;cases rx;show FS _ _ _ _ ((stK i (f.take k) σ).set i (g7 (.int f[k]))) H';have v:((stK i (f.take k) σ).set i (g7 (V.int f[k])))[i]?=g7 (g7 (.int f[k])):=List.getElem?_set_self (by rw[CK];exact c7);have F:((stK i (f.take k) σ).set i (g7 (V.int f[k])))[j]?=g7 (g7 (.ref p)):=by rw[List.getElem?_set_ne Y,xi Y];exact q1
      have a5:(stK i (f.take k) σ).set i (g7 (V.int f[k]))=stK i (f.take (k+1)) σ:=by rw[c8];exact zf i _ σ _
      generalize hS:(stK i (f.take k) σ).set i (g7 (V.int f[k]))=d0 at v F a5;have b7:∀{a:Addr} {xs:List V},H' a=g7 (.lst xs)→II X.K "list" (.ref a) H':=λ{a xs} h=>.inl ⟨rfl,xs,T9.of h⟩;refine⟨.int f[k],v,?_⟩;refine⟨f[k],0,rfl,rfl,_,rfl,?_⟩;by_cases u:f[k]<0
      ·rw[decide_eq_true u];show if h7=h7 then _ else _
       rw[if_pos rfl];have I:aS gs f[k]=g7 (gs++[(-f[k],[])]):=if_pos u;rw[I]at l;refine⟨.ref p,F,b7 A.lst,?_⟩;refine c1 ξ d0 H' _ f[k] v λq hq t ht=>?_;have A2:=A.add hp (n:=-f[k]) hq ht;have b8:p≠q:=λz=>by have:=A.lst;rw[z,hq]at this;cases this
       have d1:p≠t:=λz=>by rw[←z,i9 b8,A.lst]at ht;cases ht
       refine⟨p,ts.map (λt=>V.ref t.1),.ref t,rfl,rfl,by rw[i9 d1,i9 b8];exact A.lst,?_,ts++[(t,q)],gs++[(-f[k],[])],A2,l,a5,by simp;omega,λg w=>?_⟩
       ·rw[List.length_map,A.len,v8];omega
       ·rcases List.mem_append.mp w with w|w
        ·have:=hg2 g w;omega
        ·have:=List.mem_singleton.mp w;subst this;simp
      ·rw[decide_eq_false u];show if g8=h7 then _ else _
       rw[if_neg N3];cases L:gs.getLast? with
       |none=>
        have I:aS gs f[k]=g9:=by unfold aS;rw[if_neg u,L]
        rw[I]at l;cases l
       |some g=>
        have I:aS gs f[k]=g7 (gs.dropLast++[(g.1,g.2++[f[k]])]):=by unfold aS;rw[if_neg u,L]
        rw[I]at l;have a6:=iE L;have O:ts≠[]:=by
         intro z;have:=A.len;rw[z,a6]at this;simp at this
        have d2:ts.getLast?=g7 (ts.getLast O):=List.getLast?_eq_some_getLast O;have a7:=iE d2;generalize ts.getLast O=tq at a7;generalize ts.dropLast=S at a7;generalize gs.dropLast=b9 at a6 l;subst a7 a6;obtain⟨t,q⟩:=tq;obtain⟨n,ns⟩:=g;have d3:S.length=b9.length:=by have:=A.len;simpa using this
        obtain⟨a1,a2,a3,a4⟩:=A.pr S.length (t,q) (n,ns) (by simp) (by rw[d3];simp);have A2:=A.grow hp f[k];refine⟨.ref p,F,1,rfl,?_⟩;refine⟨p,(S++[(t,q)]).map (λt=>V.ref t.1),-1,.ref t,rfl,rfl,T9.of A.lst,?_,?_⟩
        ·rw[List.map_append];exact mH _ _
        refine c2 a3 ⟨b7 a4,.int f[k],v,?_⟩;refine⟨q,ns.map V.int,.int f[k],rfl,rfl,a4,?_,S++[(t,q)],b9++[(n,ns++[f[k]])],A2,l,a5,by simp at hgl⊢;omega,λg w=>?_⟩
        ·have:=hg2 (n,ns) (by simp);rw[List.length_map,v8];simp at this;omega
        ·rcases List.mem_append.mp w with w|w
         ·have:=hg2 g (List.mem_append_left _ w);omega
         ·have:=List.mem_singleton.mp w;subst this;have:=hg2 (n,ns) (by simp);simp at this⊢;omega
     ·have ek:k=f.length:=by omega
      subst ek;rw[List.drop_length]at hall;cases hall;rw[List.take_length];obtain⟨G',s',R'⟩:=A.done (hs:=f) R1 hj q1 a9 Y;exact .inl ⟨by have:=gv.stop G1 P (j5.refl _) (a0 A);simpa using this,a8 _ G' P (s1.trans s') R'⟩
    ·cases e
end
theorem Gc{p1 p2 p3 p4 E P v w s c d G o f g p k r y l m I R pos:Pos}{j1 j2 j3}{cx}
  (hi:EE X B (.Name a p1) iter mi) (hN:X.N.Nodup) (u:X.N[i]?=g7 a:=by rfl) (z:X.N[j]?=g7 xg:=by rfl) (hx:Loc X.env.scope a:=by first|exact Or.inl rfl|exact Or.inr rfl) (hf:X.fn a=h7∨X.env.scope.names.lookup a=g7 .local:=by first|exact .inl rfl|exact .inr rfl)
  (A:cq X.env.scope a:=by first|exact Or.inl rfl|exact Or.inr (Or.inl rfl) |exact Or.inr (Or.inr rfl)) (J:cq X.env.scope xg:=by first|exact Or.inl rfl|exact Or.inr (Or.inl rfl) |exact Or.inr (Or.inr rfl)) (S:(a==("__debug__":Str))=g8:=by decide) (T:(a==("__classdict__":Str))=g8:=by decide) (d3:(xg==("__debug__":Str))=g8:=by decide) (d4:(xg==("__classdict__":Str))=g8:=by decide)
  (hK:X.K=B.K:=by rfl) (hc:X.calm=h7:=by rfl) (hs:∀x,foldedSetIterable iter X.env x=pure x:=by intro _;rfl)
  (U:B4 (.Call (.Attribute (.Name xg E) "append" P) [(.Tuple [.UnaryOp .USub (.Name a v) w,.List [] s] cx c)] [] d) g9 G.line X.env=pure g8:=by rfl) (Y:B4 (.Call (.Attribute (.Subscript (.Subscript (.Name xg o) (.UnaryOp .USub (.Constant (.int 1) j2 f) g) p) (.Constant (.int 1) j3 k) r) "append" y) [.Name a l] [] m) g9 I.line X.env=pure g8:=by rfl)
  (Z:v7 (.Name xg E) "append" X.env (eval (.Name xg E) X.env)=eval (.Name xg E) X.env:=by rfl) (a0:v7 (.Subscript (.Subscript (.Name xg o) (.UnaryOp .USub (.Constant (.int 1) j2 f) g) p) (.Constant (.int 1) j3 k) r) "append" X.env (eval (.Subscript (.Subscript (.Name xg o) (.UnaryOp .USub (.Constant (.int 1) j2 f) g) p) (.Constant (.int 1) j3 k) r) X.env)=eval (.Subscript (.Subscript (.Name xg o) (.UnaryOp .USub (.Constant (.int 1) j2 f) g) p) (.Constant (.int 1) j3 k) r) X.env:=by rfl)
  (a1:((m4 d (i1 [(.Tuple [.UnaryOp .USub (.Name a v) w,.List [] s] cx c)] X.env)).all (λx=>!x.1)&&(y7 d (n7 [] X.env)).all (λx=>x.1.isSome)&&decide (([(.Tuple [.UnaryOp .USub (.Name a v) w,.List [] s] cx c)]:List Expr).length+([]:List Keyword).length+(if([]:List Keyword).isEmpty then 0 else 1)<30))=h7:=by rfl) (a2:((m4 m (i1 [.Name a l] X.env)).all (λx=>!x.1)&&(y7 m (n7 [] X.env)).all (λx=>x.1.isSome)&&decide (([.Name a l]:List Expr).length+([]:List Keyword).length+(if([]:List Keyword).isEmpty then 0 else 1)<30))=h7:=by rfl) (a3:(P.endLine==d.line)=h7:=by rfl) (a4:(y.endLine==m.line)=h7:=by rfl)
  (L:i1 [(.Tuple [.UnaryOp .USub (.Name a v) w,.List [] s] cx c)] X.env=(g8,eval (.Tuple [.UnaryOp .USub (.Name a v) w,.List [] s] cx c) X.env)::i1 [] X.env:=by rfl) (O:i1 [.Name a l] X.env=(g8,eval (.Name a l) X.env)::i1 [] X.env:=by rfl) (a5:(m4 d (i1 [] X.env)).any (·.1)=g8:=by rfl) (a6:(m4 m (i1 [] X.env)).any (·.1)=g8:=by rfl)
  (a7:i1 [.UnaryOp .USub (.Name a v) w,.List [] s] X.env=(g8,eval (.UnaryOp .USub (.Name a v) w) X.env)::i1 [.List [] s] X.env:=by rfl) (a8:i1 [.List [] s] X.env=(g8,eval (.List [] s) X.env)::i1 [] X.env:=by rfl)
  (a9:fL (.UnaryOp .USub (.Constant (.int 1) j2 f) g):=by exact λ_ _=>rfl) (b0:fL (.Constant (.int 1) j3 k):=by exact λ_ _=>rfl):
  oX X B (.For (.Name a p1) iter [.If (.Compare (.Name a p2) [.Lt] [.Constant (.int 0) j1 p3] p4) [.Expr (.Call (.Attribute (.Name xg E) "append" P) [(.Tuple [.UnaryOp .USub (.Name a v) w,.List [] s] cx c)] [] d) G] [.Expr (.Call (.Attribute (.Subscript (.Subscript (.Name xg o) (.UnaryOp .USub (.Constant (.int 1) j2 f) g) p) (.Constant (.int 1) j3 k) r) "append" y) [.Name a l] [] m) I] R] [] pos) (pY h7 mi i j):=
 sq (b:=h7) (rb:=Dc X.K) (tp:=λ_=>IM (kX (IL (rU λi=>.int (-i)) (kW i)) (kX (CH tO) tO))) (xg:=xg) hi hN u z hx hf hK hc
  (λξ σ H Q h e q=>⟨.int h,e,h,rfl,by show(0:Nat)≤sizeLine;exact u3 _,λq0 b1=>⟨by show(2:Nat)≤sizeLine;rw[v8];decide,λt0 b2=>q q0 b1 t0 b2⟩⟩)
  (λ{H t q n Q} h1 h2=>⟨t,[.int n,.ref q],1,.ref q,rfl,rfl,bJ.of h1,rfl,h2⟩)
  (λξ=>aM (zG (X:=rz X ξ) (pG (X:=rz X ξ) zY (A3 (X:=rz X ξ) u A S T) (dr (X:=rz X ξ)) (bq _))
   (aM (fx (X:=rz X ξ) (rL (X:=rz X ξ) PySem.F.plainAttrs_list PySem.F.slot_list_append PySem.F.type_list_append cR (A3 (X:=rz X ξ) z J d3 d4) (E9 (X:=rz X ξ) (zM (X:=rz X ξ) (E9 (X:=rz X ξ) (ly (X:=rz X ξ) gn (A3 (X:=rz X ξ) u A S T)) (E9 (X:=rz X ξ) (pI (X:=rz X ξ) (X8 (X:=rz X ξ))) (X8 (X:=rz X ξ)) a8) a7)) (X8 (X:=rz X ξ)) L) Z a1 a3 L a5) U))
   (aM (fx (X:=rz X ξ) (rL (X:=rz X ξ) PySem.F.plainAttrs_list PySem.F.slot_list_append PySem.F.type_list_append cR (rJ (X:=rz X ξ) Ax (rJ (X:=rz X ξ) kH (A3 (X:=rz X ξ) z J d3 d4) (ly (X:=rz X ξ) gn (dr (X:=rz X ξ))) a9) (dr (X:=rz X ξ)) b0) (E9 (X:=rz X ξ) (A3 (X:=rz X ξ) u A S T) (X8 (X:=rz X ξ)) O) a0 a2 a4 O a6) Y))))
  hs
theorem Gd{p1 p2 p3 p4 E P v w s c d G o f g p k r y l m I R pos:Pos}{j1 j2 j3}
  (hi:EE X B (.Name a p1) iter mi) (hN:X.N.Nodup) (u:X.N[i]?=g7 a:=by rfl) (z:X.N[j]?=g7 xg:=by rfl) (hx:Loc X.env.scope a:=by first|exact Or.inl rfl|exact Or.inr rfl) (hf:X.fn a=h7∨X.env.scope.names.lookup a=g7 .local:=by first|exact .inl rfl|exact .inr rfl)
  (A:cq X.env.scope a:=by first|exact Or.inl rfl|exact Or.inr (Or.inl rfl) |exact Or.inr (Or.inr rfl)) (J:cq X.env.scope xg:=by first|exact Or.inl rfl|exact Or.inr (Or.inl rfl) |exact Or.inr (Or.inr rfl)) (S:(a==("__debug__":Str))=g8:=by decide) (T:(a==("__classdict__":Str))=g8:=by decide) (d3:(xg==("__debug__":Str))=g8:=by decide) (d4:(xg==("__classdict__":Str))=g8:=by decide)
  (hK:X.K=B.K:=by rfl) (hc:X.calm=h7:=by rfl) (hs:∀x,foldedSetIterable iter X.env x=pure x:=by intro _;rfl)
  (U:B4 (.Call (.Attribute (.Name xg E) "append" P) [(.List [.UnaryOp .USub (.Name a v) w,.List [] s] c)] [] d) g9 G.line X.env=pure g8:=by rfl) (Y:B4 (.Call (.Attribute (.Subscript (.Subscript (.Name xg o) (.UnaryOp .USub (.Constant (.int 1) j2 f) g) p) (.Constant (.int 1) j3 k) r) "append" y) [.Name a l] [] m) g9 I.line X.env=pure g8:=by rfl)
  (Z:v7 (.Name xg E) "append" X.env (eval (.Name xg E) X.env)=eval (.Name xg E) X.env:=by rfl) (a0:v7 (.Subscript (.Subscript (.Name xg o) (.UnaryOp .USub (.Constant (.int 1) j2 f) g) p) (.Constant (.int 1) j3 k) r) "append" X.env (eval (.Subscript (.Subscript (.Name xg o) (.UnaryOp .USub (.Constant (.int 1) j2 f) g) p) (.Constant (.int 1) j3 k) r) X.env)=eval (.Subscript (.Subscript (.Name xg o) (.UnaryOp .USub (.Constant (.int 1) j2 f) g) p) (.Constant (.int 1) j3 k) r) X.env:=by rfl)
  (a1:((m4 d (i1 [(.List [.UnaryOp .USub (.Name a v) w,.List [] s] c)] X.env)).all (λx=>!x.1)&&(y7 d (n7 [] X.env)).all (λx=>x.1.isSome)&&decide (([(.List [.UnaryOp .USub (.Name a v) w,.List [] s] c)]:List Expr).length+([]:List Keyword).length+(if([]:List Keyword).isEmpty then 0 else 1)<30))=h7:=by rfl) (a2:((m4 m (i1 [.Name a l] X.env)).all (λx=>!x.1)&&(y7 m (n7 [] X.env)).all (λx=>x.1.isSome)&&decide (([.Name a l]:List Expr).length+([]:List Keyword).length+(if([]:List Keyword).isEmpty then 0 else 1)<30))=h7:=by rfl) (a3:(P.endLine==d.line)=h7:=by rfl) (a4:(y.endLine==m.line)=h7:=by rfl)
  (L:i1 [(.List [.UnaryOp .USub (.Name a v) w,.List [] s] c)] X.env=(g8,eval (.List [.UnaryOp .USub (.Name a v) w,.List [] s] c) X.env)::i1 [] X.env:=by rfl) (O:i1 [.Name a l] X.env=(g8,eval (.Name a l) X.env)::i1 [] X.env:=by rfl) (a5:(m4 d (i1 [] X.env)).any (·.1)=g8:=by rfl) (a6:(m4 m (i1 [] X.env)).any (·.1)=g8:=by rfl)
  (a7:i1 [.UnaryOp .USub (.Name a v) w,.List [] s] X.env=(g8,eval (.UnaryOp .USub (.Name a v) w) X.env)::i1 [.List [] s] X.env:=by rfl) (a8:i1 [.List [] s] X.env=(g8,eval (.List [] s) X.env)::i1 [] X.env:=by rfl)
  (a9:fL (.UnaryOp .USub (.Constant (.int 1) j2 f) g):=by exact λ_ _=>rfl) (b0:fL (.Constant (.int 1) j3 k):=by exact λ_ _=>rfl):
  oX X B (.For (.Name a p1) iter [.If (.Compare (.Name a p2) [.Lt] [.Constant (.int 0) j1 p3] p4) [.Expr (.Call (.Attribute (.Name xg E) "append" P) [(.List [.UnaryOp .USub (.Name a v) w,.List [] s] c)] [] d) G] [.Expr (.Call (.Attribute (.Subscript (.Subscript (.Name xg o) (.UnaryOp .USub (.Constant (.int 1) j2 f) g) p) (.Constant (.int 1) j3 k) r) "append" y) [.Name a l] [] m) I] R] [] pos) (pY g8 mi i j):=
 sq (b:=g8) (rb:=zA X.K) (tp:=λ_=>CH (kX (IL (rU λi=>.int (-i)) (kW i)) (kX (CH tO) tO))) (xg:=xg) hi hN u z hx hf hK hc
  (λξ σ H Q h e q=>⟨.int h,e,h,rfl,by show(0:Nat)≤sizeLine;exact u3 _,λq0 b1=>⟨by show(2:Nat)≤sizeLine;rw[v8];decide,λt0 b2=>q q0 b1 t0 b2⟩⟩)
  (λ{H t q n Q} h1 h2=>⟨t,[.int n,.ref q],1,.ref q,rfl,rfl,T9.of h1,rfl,h2⟩)
  (λξ=>aM (zG (X:=rz X ξ) (pG (X:=rz X ξ) zY (A3 (X:=rz X ξ) u A S T) (dr (X:=rz X ξ)) (bq _))
   (aM (fx (X:=rz X ξ) (rL (X:=rz X ξ) PySem.F.plainAttrs_list PySem.F.slot_list_append PySem.F.type_list_append cR (A3 (X:=rz X ξ) z J d3 d4) (E9 (X:=rz X ξ) (pI (X:=rz X ξ) (E9 (X:=rz X ξ) (ly (X:=rz X ξ) gn (A3 (X:=rz X ξ) u A S T)) (E9 (X:=rz X ξ) (pI (X:=rz X ξ) (X8 (X:=rz X ξ))) (X8 (X:=rz X ξ)) a8) a7)) (X8 (X:=rz X ξ)) L) Z a1 a3 L a5) U))
   (aM (fx (X:=rz X ξ) (rL (X:=rz X ξ) PySem.F.plainAttrs_list PySem.F.slot_list_append PySem.F.type_list_append cR (rJ (X:=rz X ξ) kH (rJ (X:=rz X ξ) kH (A3 (X:=rz X ξ) z J d3 d4) (ly (X:=rz X ξ) gn (dr (X:=rz X ξ))) a9) (dr (X:=rz X ξ)) b0) (E9 (X:=rz X ξ) (A3 (X:=rz X ξ) u A S T) (X8 (X:=rz X ξ)) O) a0 a2 a4 O a6) Y))))
  hs
theorem Z7 {K:PySem.W.Frag}{G:Hp}{x:Str}{cs:List Nat}(h:x.cps.toList=cs):Rep K G (.str x) (.str cs):=by
 subst h;exact kE x
theorem uY.imp {K:PySem.W.Frag}{ms:List Bool}{i:Nat}{f e:List D→Option FR}(h:∀ds r,f ds=g7 r→e ds=g7 r):∀vs H Q E,uY K ms i f vs H Q E→uY K ms i e vs H Q E:=by
 rintro vs H Q E ⟨G,ds,ps,r,a,b,b2,c,d⟩
 exact⟨G,ds,ps,r,a,b,b2,h ds r c,d⟩
section
variable {tg:FT}{b:SM}{c:M Bool}{ρ m9 A5:l9}{d:D}{ds:List D}{w:W}{n i j:Nat}{r:Option SR}{es:List (Key×D)}
theorem A7 (a:tg d ρ=g7 m9)(c:b m9=g7 (.nx A5))(e:forL tg b ds A5=r):forL tg b (d::ds) ρ=r:=by
 unfold forL;rw[a];simp only[c];exact e
theorem cB (a:tg d ρ=g7 m9)(c:b m9=g7 (.rt w A5)):forL tg b (d::ds) ρ=g7 (.rt w A5):=by
 unfold forL;rw[a];simp only[c]
theorem vl (a:c ρ=g7 (.ok g8 m9)):F0 c b (n+1) ρ=g7 (.nx m9):=by
 unfold F0;rw[u8 a];rfl
theorem vj (a:c ρ=g7 (.ok h7 m9))(d:b m9=g7 (.nx A5))(h:F0 c b n A5=r):F0 c b (n+1) ρ=r:=by
 unfold F0;rw[u8 a];show(match b m9 with|some (.nx A5)=>F0 c b n A5|some (.ct A5)=>F0 c b n A5|some (.bk A5)=>g7 (.nx A5) |r=>r)=r;rw[d];exact h
theorem vk (a:c ρ=g7 (.ok h7 m9))(d:b m9=g7 (.rt w A5)):F0 c b (n+1) ρ=g7 (.rt w A5):=by
 unfold F0;rw[u8 a];show(match b m9 with|some (.nx A5)=>F0 c b n A5|some (.ct A5)=>F0 c b n A5|some (.bk A5)=>g7 (.nx A5) |r=>r)=_;rw[d]
theorem Ec (h:ρ[i]?=g7 (g7 (.fz es))):oq i ρ=g7 (.ok (es.map λe=>ox e.1) ρ):=by
 unfold oq;rw[h]
theorem Hs {a:Bool}{b:M (List D)}{hs:List Int}{gs:Gs}(hi:b ρ=g7 (.ok (hs.map D.int) m9))(c:m9[j]?=g7 (g7 (.ow g8 (.lst []))))(d:intsOf (hs.map D.int)=g7 hs)(e:i<m9.length∧i≠j∧hs.length≤4000)(f:ax [] hs=g7 gs):
  pY a b i j ρ=g7 (.nx ((hF i hs m9).set j (g7 (.ow g8 (.lst (gs.map (N0 a))))))):=by
 unfold pY;rw[u8 hi];simp only[c,d];rw[x9 e,f];rfl
theorem vu(h:den (DK i (G8 n ms ds))=g7 a)(b:rN ms a=g7 fr):jH den n ms i ds=g7 fr:=by unfold jH;rw[h];exact b
end
noncomputable def qR (P:Program)(w:World):Ch:=λouter H s E e b=>∃a cls dct H' T,e=.ref a∧b.os=s.os∧fk b.gens∧Un (frs outer) [] H H' s.heap b.heap∧fb P w H' b.heap∧H' a=g9∧s.heap.get? a=g9∧
 yG b.heap a T cls dct .none∧H' T=g9∧s.heap.get? T=g9∧E cls dct H'
noncomputable def Fq (K:PySem.W.Frag)(ms:List Bool)(a:List D→Option FR):Sp:=λvs H Q E=>∃G ds ps r,j5 G H∧W0 K G H ms vs ds ps∧a ds=g7 r∧match r with
 |.ret w fin=>∀v G' H',After K G H ps G' H' fin→mJ K H G' H' v w→Q v H'
 |.exc x fin=>∀cls dct G' H',After K G H ps G' H' fin→ea K H' x cls dct→E cls dct H'
theorem Fq.imp {K:PySem.W.Frag}{ms:List Bool}{f e:List D→Option FR}(h:∀ds r,f ds=g7 r→e ds=g7 r):∀vs H Q E,Fq K ms f vs H Q E→Fq K ms e vs H Q E:=by
 rintro vs H Q E ⟨G,ds,ps,r,a,b,c,d⟩
 exact⟨G,ds,ps,r,a,b,h ds r c,d⟩
def yz (P:Program)(w:World)(K:PySem.W.Frag)(mg:Str→Option Value)(base:Heap)(k:Nat)(x:Str)(ps:List Str)(sp:Sp):Prop:=
 ∃(f:Addr) (fd:FuncData),x8 P w K mg base (qR P w) k f fd ps sp∧Binds K fd ps []∧mg x=g7 (.ref f)∧PySem.W.keepIn K (.ref f)=h7
theorem ww {P:Program}{w:World}{K:PySem.W.Frag}{mg:Str→Option Value}{base:Heap}{k:Nat}{x:Str}{st:Stmt}{ps:List Str}{sp:Sp}(D:Def K mg x st ps)(h:∀f fd,az K x x st f fd→x8 P w K mg base (qR P w) k f fd ps sp):yz P w K mg base k x ps sp:=by
 obtain⟨f,fd,F,b,m⟩:=D;exact⟨f,fd,h f fd F,Binds.all b,m,F.kp⟩
noncomputable def yY (sp:Sp)(E:St→XK)(t:TA):TE:=λσ H Q=>t σ H λvs H1=>sp vs H1 Q (E σ)
section
variable {X:Cx}{k:Nat}{f:Addr}{fd:FuncData}{ps:List Str}{sp:Sp}{x:Str}{p pos:Pos}{e:Expr}{es:List Expr}{t:TA}{E:St→XK}
theorem zV (h:yz X.prog X.w X.K X.mg X.base k x ps sp)(hr:K4 k X.A)(j:PA X (e::es) t)(hx:∀pins σ H s v d,Inv X pins σ H s→qR X.prog X.w X.stack H s (E σ) v d→X.xe v d)(l:Gl X x:=by rfl)(g:(x==("__debug__":Str))=g8:=by decide)
  (m:i1 (e::es) X.env=(g8,eval e X.env)::i1 es X.env:=by rfl) (i:(m4 pos (i1 es X.env)).any (·.1)=g8:=by rfl):PE X (.Call (.Name x p) (e::es) [] pos) (yY sp E t):=by
 obtain⟨f,fd,F,n,o,hk⟩:=h;intro pins s σ H Q I h;refine J3 (dC I l o ?_ g);refine PySem.W.callWith_K (h₀:=X.base) I.ok.mod.kin hk (F9 (j pos pins s σ H _ I h) λus s1 ⟨vs,H1,a,r,q⟩=>⟨a.fD,?_⟩) m i;have hl:us.length=ps.length:=by rw[←r.length];exact F.len _ _ _ _ q
 have b:=n s1 us a.fD (by rw[List.append_nil];exact hl);rw[List.append_nil]at b;refine bL (L9 (F.run X.A X.stack s1 H1 ⟨us,[]⟩ us vs Q (E σ) hr a.Br b r q) λr d c=>?_);cases r with
 |error v=>exact hx pins σ H1 s1 v d a c
 |ok y=>
  cases y with
  |ret u=>exact a.after c
  |next=>exact v6 c
  |brk=>exact v6 c
  |cont=>exact v6 c
end
theorem BG(F:aE X):∀pins σ H s v c,Inv (rz X ξ) pins σ H s→qR X.prog X.w X.stack H s (λcls dct H'=>∃x,ea X.K H' x cls dct∧ξ x σ H') v c→XE X ξ v c:=by
 rintro pins σ H s v c I ⟨a,cls,dct,H',T,rfl,os,bare,un,hok,ha,na,t,hT,nT,x,ix,q⟩
 have d:Inv X [] σ H s:=I.G4.Y7 λp g=>absurd g (by simp);have h:Inv X [] σ H' c:=d.Fm (ch:=[]) os un hok bare λb z=>absurd z (by simp);have e:=ip d F na;have f:=ip d F nT;exact⟨x,[],σ,H',h,⟨a,cls,dct,rfl,ix,⟨e.new,ha,e.loc,e.cell⟩,.inr ⟨T,.none,t,⟨f.new,hT,f.loc,f.cell⟩,.inl rfl⟩,F⟩,q⟩
noncomputable def wB (ms:List Bool)(b:List D→Option FR)(a:List W):M W:=λρ=>match(J2 ms a ρ).bind b with
 |some (.exc x fin)=>if eX (B0 ms a) (S9 ρ ms a)=h7∧fin.all X1=h7 then(pj (B0 ms a) fin ρ).map (R'.ex x)else g9
 |_=>oP ms b a ρ
noncomputable def gC (ms:List Bool)(a:List D→Option FR)(m:M (List W)):M W:=M.bind m λb=>wB ms a b
section
variable {X:Cx}{B:Bs}{k:Nat}{x:Str}{ps:List Str}{ms:List Bool}{fm:List D→Option FR}{e:Expr}{es:List Expr}{mr:M (List W)}{p pos:Pos}
theorem oO(p:RS B g H1 σ a)(v:O5 B g H1 σ a vs c)(r:J2 ms c a=g7 ds)(f:eX (B0 ms c) (S9 a ms c)=h7):
  (B0 ms c).Nodup∧(∀i∈B0 ms c,i∉S9 a ms c)∧(∀i∈B0 ms c,∃l d,a[i]?=g7 (g7 (.ow l d)))∧(∀i∈S9 a ms c,∃l d,a[i]?=g7 (g7 (.ow l d)))∧
  j5 (plus g H1 (n0 σ (S9 a ms c))) H1∧W0 B.K (plus g H1 (n0 σ (S9 a ms c))) H1 ms vs ds (n0 σ (B0 ms c)):=by
 unfold eX at f;rw[l8]at f;have nd:(B0 ms c).Nodup:=of_decide_eq_true f.1;have ap:∀i∈B0 ms c,i∉S9 a ms c:=λi hi m=>by
  have:=List.all_eq_true.mp f.2 i hi;simp at this;exact this m
 have n:=rZ r;have k:∀i∈S9 a ms c,∃l d,a[i]?=g7 (g7 (.ow l d)):=λi hi=>dO hi;have s2:j5 g (plus g H1 (n0 σ (S9 a ms c))):=λb o e=>by
  rw[B5 λm=>?_]
  ·exact e
  ·obtain⟨i,hi,w⟩:=D8.mp m;obtain⟨l,d,h⟩:=k i hi;obtain⟨q,s,t,_⟩:=p.ow i l d h;rw[w]at s;cases s;rw[e]at t;cases t
 have gH:j5 (plus g H1 (n0 σ (S9 a ms c))) H1:=λb o e=>by
  by_cases m:b∈n0 σ (S9 a ms c)
  ·rw[N6 m]at e;exact e
  ·rw[B5 m]at e;exact p.gH b o e
 exact⟨nd,ap,n,k,gH,args_call p s2 v r (λi hi q e=>D8.mpr ⟨i,hi,e⟩) (λi hi q e m=>by
  obtain⟨j,u,x⟩:=D8.mp m;obtain⟨l,d,h⟩:=n i hi;obtain⟨y,z,A⟩:=k j u;have:=p.inj i j l d y z q h A e x;subst this;exact ap i hi u) nd⟩
theorem yU(t:TD C4 B ξ (gC ms fm mr) σ H Q):yY (Fq B.K ms fm) (λσ cls dct H'=>∃x,ea B.K H' x cls dct∧ξ x σ H') (TD O5 B ξ mr) σ H Q:=by
 obtain⟨G,ρ,R,t⟩:=t;refine(TD.bind (O2:=O5) R t).mono λvs H1 ⟨F,j,u,s1,e,p,r,a,k⟩=>?_;unfold wB at a;split at a
 ·rename_i x fin b;obtain⟨ds,f,b⟩:=Option.bind_eq_some_iff.mp b;split at a
  ·rename_i q;obtain⟨l,hs,rfl⟩:=Option.map_eq_some_iff.mp a;obtain⟨nd,ap,c,d,gH,A⟩:=oO e p f q.1;refine⟨_,ds,_,_,gH,A,b,λcls dct G' H' h y=>⟨x,y,?_⟩⟩;obtain⟨g,sn,Rn,i⟩:=V0 (w:=.val .z5) (v:=.z5) e d c nd ap h hs .z5 (.inl ⟨by show(dZ (.val .z5)&&fin.all X1)=h7;rw[q.2];rfl,rfl⟩);exact k g H' sn Rn
  ·cases a
 ·rename_i z;unfold oP at a;cases f:J2 ms u j with
  |none=>simp only[f]at a;cases a
  |some ds=>
   simp only[f]at a;split at a
   ·rename_i m;obtain⟨nd,ap,c,d,gH,A⟩:=oO e p f m;split at a
    ·rename_i w fin b;split at a
     ·cases a
     ·rename_i l hs;refine⟨_,ds,_,_,gH,A,b,λv G' H' h s=>?_⟩;split at a
      ·rename_i n;cases a;obtain⟨g,sn,Rn,i⟩:=V0 e d c nd ap h hs s (.inl ⟨n,rfl⟩);exact k v g H' sn Rn i
      ·obtain⟨E,o,rfl⟩:=Option.map_eq_some_iff.mp a;obtain⟨g,sn,Rn,i⟩:=V0 e d c nd ap h hs s (.inr o);exact k v g H' sn Rn i
    ·cases a
   ·cases a
theorem Ex (h:yz X.prog X.w X.K X.mg X.base k x ps (Fq X.K ms fm))(hr:K4 k X.A)(d:iW X B (e::es) mr)(F:aE X:=by exact⟨rfl,rfl,rfl,rfl⟩)(f:Gl X x:=by rfl)(g:X.K=B.K:=by rfl)(a:(x==("__debug__":Str))=g8:=by decide)
  (i:i1 (e::es) X.env=(g8,eval e X.env)::i1 es X.env:=by rfl) (b:(m4 pos (i1 es X.env)).any (·.1)=g8:=by rfl):PD X B (.Call (.Name x p) (e::es) [] pos) (gC ms fm mr):=.mk λξ=>
 (zV (X:=rz X ξ) (E:=λσ cls dct H'=>∃x,ea X.K H' x cls dct∧ξ x σ H') h hr (d.ap ξ) (BG F) f a i b).imp λσ H Q t=>by
  have c:=yU t;rw[←g]at c;exact c
end
noncomputable abbrev HH:List Value:=[.type "ValueError",.type "Exception",.type "BaseException",.type "object"]
noncomputable def kq (K:PySem.W.Frag)(C:Addr)(iv:Option Value):Bool:=match K.lookup C with
 |none=>g8
 |some o=>o.cls == .type "type" && match o.data with
  |.cls cd=>!cd.hasDel&&PySem.W.nsOkIn K cd.ns&&PySem.W.nsIn K cd.ns "__init__" == g7 iv&&cd.mro.head?==g7 (.ref C)&&PySem.W.tailIn K HH cd.mro.tail&&match o.slots.toList with
   | [_,_,_,_,g7 (.builtin n),_]=>n == "ValueError.__new__"
   |_=>g8
  |_=>g8
theorem Jr {K:PySem.W.Frag}(X:K.In h)(G:h.Ns N c)(e:PySem.W.nsIn K N x=g7 (g7 u)):c x=g7 u:=by
 obtain⟨o,es,g,d,a,_,f⟩:=G;unfold PySem.W.nsIn at e;split at e
 ·rename_i lk;have z:=X _ _ lk;rw[d]at z;cases z;cases a;split at e
  ·rename_i i b;cases e;rw[←f];unfold PySem.nsFind PySem.findBy;rw[←yK,b];rfl
  ·split at e<;>cases e
 ·cases e
structure gQ (h:Heap) (C:Addr) (bm:List Value) (iv:Option Value):Prop where
 ex:∃(nm qn:Str) (N:Addr) (bs:List Value) (hd:Bool) (sn:List Str) (sub:List Value) (ab:Bool) (col:Option Bool) (dd:Option Addr) (k0 k1 k2 k3 k5:Option Value) (mN:Str→Option Value),
  h.get? C=some (fi nm qn C N bs bm hd sn sub ab col dd k0 k1 k2 k3 k5 "ValueError.__new__")∧h.Ns N mN∧mN "__init__"=iv∧OwnTail h HH bm
theorem iJ {K:PySem.W.Frag}{h:Heap}{C:Addr}{iv:Option Value}(X:K.In h)(q:kq K C iv=h7):∃bm,gQ h C bm iv:=by
 unfold kq at q;split at q
 ·cases q
 ·rename_i o lk;rw[l8]at q;obtain⟨k,q⟩:=q;split at q
  ·rename_i cd a;rw[l8,l8,l8,l8,l8]at q;obtain⟨⟨⟨⟨⟨l,g⟩,m⟩,p⟩,r⟩,b⟩:=q;split at b
   ·rename_i k0 k1 k2 k3 n k5 c;have d:=eq_of_beq k;have i:=eq_of_beq p;have s:=eq_of_beq b;have j:=eq_of_beq m;obtain⟨oc,t,e,s0⟩:=o;obtain⟨nm,bs,mro,ns,qn,hd,sn,sub,ab,col,f⟩:=cd;have v:f=g8:=by simpa using l
    cases mro with
    |nil=>cases i
    |cons w bm=>
     have em:w=.ref C:=by simpa using i
     obtain⟨sl⟩:=s0;have es:sl=[k0,k1,k2,k3,g7 (.builtin n),k5]:=c;have d:oc=.type "type":=d;have a:e=_:=a;subst d s v em es a;have G:h.Ns ns (h.nsMap ns):=.of_isNs (PySem.W.isNs_of_in X g);have x:h.nsMap ns "__init__"=iv:=by
      cases iv with
      |none=>exact PySem.W.nsMap_none_of_in X g j
      |some u=>exact Jr X G j
     exact⟨bm,⟨⟨nm,qn,ns,bs,hd,sn,sub,ab,col,t,k0,k1,k2,k3,k5,_,X _ _ lk,G,x,PySem.W.tail_of_in X r⟩⟩⟩
   ·cases b
  ·cases q
structure Ce (K:PySem.W.Frag) (mg:Str→Option Value) (x:Str) (C:Addr) (iv:Option Value:=none):Prop where
 at_:PySem.W.nsIn K k8 x=some (some (.ref C))
 mg:mg x=some (.ref C)
 ok:kq K C iv=true
theorem sY:HH.contains (.type "BaseException")=h7:=by decide +kernel
section
variable {prog:Program}{w:World}{A:Around}{E:Value→Shared→Prop}{h:Heap}{g:Array GenState}{d:Drawn}{t:Nat}{os:OsState}{a C:Addr}{oe:Obj}
theorem xF(e:h.get? a=g7 oe)(f:oe.cls=.ref C)(i:Q (.done (.ret (.bool h7))) ⟨h,g,d,t,os⟩):
  wpAny (model prog w) A (m3.«isinstance.nested» ⟨[.ref a,.ref C,.int b c],[]⟩) Q E ⟨h,g,d,t,os⟩:=by
 unfold m3.«isinstance.nested»;repeat (any_goals (first|assumption| (with_reducible refine x4 e ?_;rw[f]) |wp_step))
theorem xE(f:h.get? a=g7 oe)(i:oe.cls=.ref C)(ob:gQ h C bm iv)(j:Ng (.type T)=pure (.type "type")) (k:bm.contains (.type T)=h7) (m:Q (.done (.ret (.bool h7))) ⟨h,g,d,t,os⟩):
  wpAny (model prog w) A (m3.«isinstance.nested» ⟨[.ref a,.type T,.int b e],[]⟩) Q E ⟨h,g,d,t,os⟩:=by
 obtain⟨nm,qn,N,bs,hd,sn,sub,ab,col,dd,k0,k1,k2,k3,k5,mN,l,n,o,p⟩:=ob.ex;have c:(Value.ref C::bm).contains (.type T)=h7:=by rw[List.contains_cons,k,fj]
 unfold m3.«isinstance.nested»;repeat (any_goals (first|assumption| (with_reducible refine x4 f ?_;rw[i]) | (with_reducible refine X4 l ?_;rw[c]) |wp_step))
end
noncomputable def iI (a C:Addr)(c:Option Addr):Heap→Prop:=λh=>∃b vs,h.get? a=g7 b∧b.cls=.ref C∧b.dict=c∧b.data=.fields vs
theorem Dx:Ng (.type "ValueError")=pure (.type "type"):=by first|rfl| (show builtinType _=_;rw[builtinType_eq_fast];kernel_rfl) | (unfold Ng;rfl)
theorem HG:HH.contains (.type "ValueError")=h7:=by decide +kernel
theorem ju:E6 X (.builtin "isinstance") (λxs H Q=>∃a C i iv y,xs=[.ref a,y]∧H a=g7 (.ext (iI a C i))∧kq X.K C iv=h7∧(y=.ref C∨y=.ty "ValueError")∧Q (.bl h7) H):=by
 intro pins s σ H xs us Q I r h;obtain⟨a,C,i,iv,y,rfl,k,hx,l,q⟩:=h;obtain⟨u,p,rfl,m,f⟩:=vals2 r;cases m;obtain⟨⟨b,vs,c,e,_,_⟩,_⟩:B9 X.prog X.w H s.heap a (.ext (iI a C i)):=I.hok a _ k;obtain⟨bm,ob⟩:=iJ I.fD hx;obtain⟨_,_,_,_,_,_,_,_,_,_,_,_,_,_,_,_,_,_,_,n⟩:=ob.ex;have o:=n.hasType HG;rcases l with rfl|rfl
 ·cases f;refine Mb (S:=λ_ R s=>R (.ok (.ret (.bool h7))) s∧∃b,s.heap.get? a=g7 b∧b.cls=.ref C) (λ_ _ _ _ s hs=>?_) ⟨⟨.bl h7,H,I,rfl,q⟩,b,c,e⟩;obtain⟨h,g,d,t,os⟩:=s;obtain⟨j,b,c,e⟩:=hs;exact KF (xF c e j)
 ·cases f;refine Mb (S:=λ_ R s=>R (.ok (.ret (.bool h7))) s∧(∃b,s.heap.get? a=g7 b∧b.cls=.ref C)∧gQ s.heap C bm iv) (λ_ _ _ _ s hs=>?_) ⟨⟨.bl h7,H,I,rfl,q⟩,⟨b,c,e⟩,ob⟩;obtain⟨h,g,d,t,os⟩:=s;obtain⟨j,⟨b,c,e⟩,ob⟩:=hs;exact KF (xE c e ob Dx o j)
def NH (X:Cx)(st:Stmt)(t:TS):Prop:=∀(s:Shared) (σ:St) (H:Hp) (D:Ends),Inv X [] σ H s→t D σ H→wpAny (model X.prog X.w) X.A (exec st X.env) (SP X [] D) X.xe s
def uZ (X:Cx)(st:List Stmt)(t:TS):Prop:=∀(s:Shared) (σ:St) (H:Hp) (D:Ends),Inv X [] σ H s→t D σ H→wpAny (model X.prog X.w) X.A (execs st X.env) (SP X [] D) X.xe s
structure ED (X:Cx) (B:Bs) (st:Stmt) (m:SM):Prop where
 ap:∀ξ,NH (rz X ξ) st (SD B ξ m)
structure mK (X:Cx) (B:Bs) (st:List Stmt) (m:SM):Prop where
 ap:∀ξ,uZ (rz X ξ) st (SD B ξ m)
section
variable {X:Cx}{B:Bs}{st:Stmt}{F3 Nc:List Stmt}{m1 m2 m:SM}
theorem s0 (h:oX X B st m):ED X B st m:=.mk λξ s σ H D I t=>h.ap ξ [] s σ H D I t
theorem IV (h:jw X B Nc m):mK X B Nc m:=.mk λξ s σ H D I t=>h.ap ξ [] s σ H D I t
theorem P7 (g:ED X B st m1)(i:mK X B F3 m2):mK X B (st::F3) (l6 m1 m2):=.mk λξ=>by
 intro s σ H c I j;obtain⟨G,ρ,R,r,e,p⟩:=j;have k:SD B ξ m1 {c with nx:=SD B ξ m2 c} σ H:=by
  unfold l6 at e;cases h:m1 ρ with
  |none=>rw[h]at e;cases e
  |some d=>
   rw[h]at e;refine⟨G,ρ,R,d,h,?_⟩;cases d with
   |nx a=>exact λb G' H' s R'=>⟨G',a,R',r,e,p.same s⟩
   |bk a=>cases e;exact p
   |ct a=>cases e;exact p
   |rt w a=>cases e;exact p
   |ex x a=>cases e;exact p
 refine gk (F9 ((g.ap ξ) s σ H _ I k) λf s1 q=>?_);cases f with
 |next=>
  obtain⟨b,H',l,q⟩:=q;exact(i.ap ξ) s1 b H' c l q
 |ret v=>exact q
 |brk=>exact q
 |cont=>exact q
theorem zt (a:ED X B st m1):mK X B [st] m1:=.mk λξ=>by
 intro s σ H b I t;refine gk (F9 ((a.ap ξ) s σ H b I t) λf s1 q=>?_);cases f with
 |next=>exact Y1 q
 |ret v=>exact q
 |brk=>exact q
 |cont=>exact q
end
theorem _root_.L3.uZ.pc {X:Cx}{E E':Value→Shared→Prop}{st:List Stmt}{t:TS}(h:uZ (X.A1 E) st t)(i:∀e s,E e s→E' e s):uZ (X.A1 E') st t:=λs σ H D I c=>
 wpAny_mono (h s σ H D (I.G4.A1 _) c) (λ_ _ q=>by
  have b:=q.G4;cases ‹Flow› with
  |next=>obtain⟨a,H',I,q⟩:=b;exact⟨a,H',I.A1 _,q⟩
  |brk=>obtain⟨a,H',I,q⟩:=b;exact⟨a,H',I.A1 _,q⟩
  |cont=>obtain⟨a,H',I,q⟩:=b;exact⟨a,H',I.A1 _,q⟩
  |ret u=>obtain⟨v,a,H',I,r,q⟩:=b;exact⟨v,a,H',I.A1 _,r,q⟩) λe s z=>i e s z
theorem uE {CX:Ch}{P:Program}{w:World}{K:PySem.W.Frag}{mg:Str→Option Value}{base:Heap}{k:Nat}{f:Addr}{name qual:Str}{a:Arguments}{c:List Stmt}{scope:Scope}{B kV doc pm cdv ct oc:Value}{an od:Option Addr}
  {osl:Array (Option Value)} {N ps:List Str} {sp:Sp} (lk:K.lookup f=g7 ⟨oc,od,.func (PySem.W.fnOf name qual a c scope B kV doc pm an cdv ct),osl⟩) (l:PySem.W.codeIn K cdv qual=h7) (S:n4 N ps scope)
  (len:∀vs H Q E,sp vs H Q E→vs.length=ps.length)
  (g:∀(A:Around) (outer:List Env) (s:Shared) (H:Hp) (vs:List V) (Q:VK) (E:XK),K4 k (A.deeper (Z2 qual scope s.heap.objs.size f cdv))→sp vs H Q E→
   ∃t,uZ (X5 CX P w K mg base N qual scope f cdv A outer s H E) c t∧t {nx:=λ_ H'=>Q .z5 H',rt:=Q} (start N vs) H):
  x8 P w K mg base CX (k+1) f (PySem.W.fnOf name qual a c scope B kV doc pm an cdv ct) ps sp:=by
 refine⟨len,λA outer s H args us vs Q E hr i G r j=>?_⟩;have hl:=len _ _ _ _ j;have F:K.In s.heap:=i.mod.kin.keeps λb o e=>(i.bs b o e).1;have m:s.heap.NoLimit:=i.mod.nolimit.keeps λb o e=>(i.bs b o e).1;have h:∀y∈ps.zip us,scope.names.lookup y.1=g7 .local∨(scope.names.lookup y.1=g7 .cell∧((cellsFrom (s.heap.objs.size+1) scope.names []).lookup y.1).isSome=h7):=λ⟨n,v⟩ L=>by
  rcases S.par n (List.of_mem_zip L).1 with q|q
  ·exact .inl q
  ·exact .inr ⟨q,PySem.W.cellsFrom_some _ _ _ (.inl q)⟩
 refine EL hr.depth (F _ _ lk) rfl S.co S.gen rfl (PySem.W.codeRec_of F l) (G _ _ _ _ ?_);refine wM S.kind h λenv O s1 x=>?_;subst O;refine⟨m.keeps x.toInCall.keep,ON ?_⟩;obtain⟨t,R,T⟩:=g A outer s H vs Q E (hr.deeper _) j;have I:Inv (X5 CX P w K mg base N qual scope f cdv A outer s H E) [] (start N vs) H s1:=oA S hr.hd i hl r x;refine wpAny_mono (R s1 (start N vs) H _ I T) (λU p hs=>?_) λe p hs=>hs;have fin:∀{d:St} {H':Hp} {v:V} {u:Value},Inv (X5 CX P w K mg base N qual scope f cdv A outer s H E) [] d H' p→RelV v u→Q v H'→CE outer P w H s Q u p:=
  λ{d H' v u} J z q=>⟨v,H',J.os,J.bare,J.base,J.hok,z,q⟩
 cases U with
 |ret u=>
  obtain⟨v,d,H',J,z,q⟩:=hs;exact fin J z q
 |next=>
  obtain⟨d,H',J,q⟩:=hs;exact fin (v:=V.z5) (u:=Value.none) J rfl q
 |brk=>
  obtain⟨_,_,_,q⟩:=hs;exact v6 q
 |cont=>
  obtain⟨_,_,_,q⟩:=hs;exact v6 q
noncomputable abbrev hx (X:Cx)(v:Value):Cx:={X with A:=X.A.mark (g7 v),calm:=g8}
section
variable {X:Cx}{pins:List (Addr×Obj)}{σ:St}{H:Hp}{s:Shared}{v:Value}
theorem AB (I:Inv X pins σ H s):Inv (hx X v) pins σ H s:=by
 obtain⟨ok,os,bare,base,loc,cell,free,freeC,pin,hok,len⟩:=I;obtain⟨j,k,l,m,n,o,p,q,r,a,b,c,d,e,f,g,h,i⟩:=ok;exact⟨⟨j,k,l,m,n,o,p,q,(λz=>nomatch z),a,b,c,d,e,f,g,h,i⟩,os,bare,base,loc,cell,free,freeC,pin,hok,len⟩
theorem uo (j:X.calm=h7→X.A.handled=g9)(I:Inv (hx X v) pins σ H s):Inv X pins σ H s:=by
 obtain⟨ok,os,bare,base,loc,cell,free,freeC,pin,hok,len⟩:=I;obtain⟨k,l,m,n,o,p,q,r,t,a,b,c,d,e,f,g,h,i⟩:=ok;exact⟨⟨k,l,m,n,o,p,q,r,j,a,b,c,d,e,f,g,h,i⟩,os,bare,base,loc,cell,free,freeC,pin,hok,len⟩
theorem lN (I:Inv X [] σ H s)(F:aE X)(d:Off X H a)(ok:∀H':Hp,B9 X.prog X.w H' s.heap a (.ext φ)):Inv X [] σ (upd H a (.ext φ)) s:=by
 have ne:∀{b:Addr} {o:HO},H b=g7 o→b≠a:=λ{b o} q z=>by rw[z,d.free]at q;cases q
 refine⟨I.ok,I.os,I.bare,⟨I.base.keep,I.base.slot,λb o q n nx=>?_,I.base.there,λb xs q=>?_,λb o u q=>?_,λb ps q=>?_⟩,I.loc,I.cell,?_,λx c q=>?_,λp e=>?_,λb o q=>?_,I.len⟩
 ·rw[i9 (λz=>by rw[z,d.new]at q;cases q)];exact I.base.free b o q n nx
 ·have w:=I.base.tups b xs q;rw[i9 (ne w)];exact w
 ·have w:=I.base.frzs b o u q;rw[i9 (ne w)];exact w
 ·obtain⟨more,w⟩:=I.base.tbls b ps q;rw[i9 (ne w)];exact⟨more,w⟩
 ·rw[i9 (o1 d.loc)];exact I.free
 ·rw[i9 (d.cell x c q)];exact I.freeC x c q
 ·rw[F.pn]at e;cases e
 ·by_cases z:b=a
  ·subst z;rw[l5]at q;cases q;exact ok _
  ·rw[i9 z]at q;refine(I.hok b o q).stay (λ_ _ _ w=>w) (λc w=>?_) λc xs w=>?_
   ·rw[i9 (ne w)];exact w
   ·rw[i9 (ne w)];exact w
theorem xP (I:Inv X [] σ H s)(F:aE X){a C:Addr}{dc:Option Addr}(c:Off X H a)(e:iI a C dc s.heap):Inv X [] σ (upd H a (.ext (iI a C dc))) s:=lN I F c λ_=>by
 obtain⟨d,vs,w1,i⟩:=id e;exact⟨e,⟨d,w1⟩,λj l ⟨b,f,g,h⟩ k=>⟨b,f,k b g,h⟩⟩
theorem se(I:Inv X [] σ (upd H a (.ext φ)) s)(F:aE X)(f:H a=g9):Inv X [] σ H s:=by
 have out:∀{b:Addr} {o:HO},b≠a→(upd H a (.ext φ)) b=g7 o→H b=g7 o:=λ{b o} n q=>by rw[i9 n]at q;exact q
 have ne:∀{b:Addr} {o:HO},H b=g7 o→b≠a:=λ{b o} q z=>by rw[z,f]at q;cases q
 have d:∀b,(upd H a (.ext φ)) b=g9→H b=g9:=λb q=>by
  by_cases z:b=a
  ·rw[z];exact f
  ·rw[i9 z]at q;exact q
 refine⟨I.ok,I.os,I.bare,⟨I.base.keep,I.base.slot,λb o q n nx=>d b (I.base.free b o q n nx),I.base.there,λb xs q=>?_,λb o u q=>?_,λb ps q=>?_⟩,I.loc,I.cell,d _ I.free,λx c q=>d c (I.freeC x c q),λp g=>?_,λb o q=>?_,I.len⟩
 ·have w:=I.base.tups b xs q;by_cases z:b=a
  ·rw[z,l5]at w;cases w
  ·exact out z w
 ·have w:=I.base.frzs b o u q;by_cases z:b=a
  ·rw[z,l5]at w;cases w
  ·exact out z w
 ·obtain⟨more,w⟩:=I.base.tbls b ps q;by_cases z:b=a
  ·rw[z,l5]at w;cases w
  ·exact⟨more,out z w⟩
 ·rw[F.pn]at g;cases g
 ·have w:(upd H a (.ext φ)) b=g7 o:=by rw[i9 (ne q)];exact q
  refine(I.hok b o w).stay (λ_ _ _ w=>w) (λc e=>?_) λc xs e=>?_
  ·by_cases z:c=a
   ·rw[z,l5]at e;cases e
   ·exact out z e
  ·by_cases z:c=a
   ·rw[z,l5]at e;cases e
   ·exact out z e
end
theorem xo(o:Option V)(R:RS B G H σ ρ)(h:ρ[i]?=g7 g9):RS B G H (σ.set i o) ρ:=by
 have ne:∀{j:Nat} {c:C},ρ[j]?=g7 (g7 c)→j≠i:=λ{j c} q z=>by rw[z,h]at q;cases q
 have at':∀{j:Nat} {c:C},ρ[j]?=g7 (g7 c)→(σ.set i o)[j]?=σ[j]?:=λ{j c} q=>List.getElem?_set_ne (o1 (ne q));refine⟨R.hk,R.keep,R.g0,R.gH,R.gnew,R.dom,by rw[List.length_set];exact R.len,λj d q=>?_,λj l d q=>?_,λj k l d n r p a b f m=>?_,?_,R.ob.to (j5.refl _) (λ_ _ _ _ _ g=>g) (λ_ _ _ _ e _ _=>e) (λj c _ q=>⟨q,at' q⟩) λj d q=>⟨⟨d,q⟩,at' q⟩⟩
 ·rw[at' q];exact R.sh j d q
 ·rw[at' q];exact R.ow j l d q
 ·rw[at' a]at f;rw[at' b]at m;exact R.inj j k l d n r p a b f m
 ·intro j es q;rw[at' q];exact R.fz j es q
section
variable {X:Cx}{σ:St}{H:Hp}{s:Shared}{i j:Nat}{n y:Str}
theorem xQ (I:Inv X [] σ H s)(F:aE X){g:St}(hs:Heap.SameBut X.env.locals s.heap h')(h:h'.Ns X.env.locals t)(hl:g.length=σ.length)
  (hk:∀(k:Nat) x v,X.N[k]?=g7 x→g[k]?=g7 (g7 v)→σ[k]?=g7 (g7 v)∧∀m,s.heap.Ns X.env.locals m→∀u,Look X.env s.heap m x u→X.env.kindOf x=g7 .local→t x=g7 u):Inv X [] g H {s with heap:=h',toks:=t'}:=by
 have old:∀b o,b≠X.env.locals→s.heap.get? b=g7 o→h'.get? b=g7 o:=λb o E e=>(hs.2 b E).trans e;have j:∀{c:Addr} {v:Option Value},c≠X.env.locals→s.heap.IsCell c v→h'.IsCell c v:=λ{c v} w ⟨o,e,d⟩=>⟨o,old c o w e,d⟩
 have f:∀b o,X.s₀.heap.get? b=g7 o→b≠X.env.locals:=λb o e z=>absurd (l7 (Heap.lt_size e) I.ok.above) (by rw[z];exact n8 _);obtain⟨m,nm,l⟩:=id I.loc;refine⟨I.ok,I.os,I.bare,⟨λb o e n y nx=>old b o (f b o e) (I.base.keep b o e n y nx),λb o e n y nx=>?_,I.base.free,λb o e nx=>?_,I.base.tups,I.base.frzs,I.base.tbls⟩,⟨t,h,λk x v i G J=>?_⟩,λx c e=>?_,I.free,I.freeC,λp B=>?_,λa o e=>?_,hl.trans I.len⟩
 ·obtain⟨sl,i⟩:=I.base.slot b o e n y nx;exact⟨sl,old b _ (f b o e) i⟩
 ·obtain⟨L,i⟩:=I.base.there b o e nx;exact⟨L,old b _ (f b o e) i⟩
 ·obtain⟨O,P⟩:=hk k x v i G;obtain⟨u,r,lk⟩:=l k x v i O J;refine⟨u,r,?_⟩;rcases id lk with⟨w1,A⟩ | ⟨w1,c,A,Q⟩
  ·exact .inl ⟨w1,P m nm u lk w1⟩
  ·exact .inr ⟨w1,c,A,j (I.EB x c A) Q⟩
 ·obtain⟨v,q⟩:=I.cell x c e;exact⟨v,j (I.EB x c e) q⟩
 ·rw[F.pn]at B;cases B
 ·refine(I.hok a o e).stay (λc v w q=>old c v (λz=>?_) q) (λ_ q=>q) λ_ _ q=>q;have h:=I.free;rw[←z]at h;rcases w with z|z
  ·rw[z,e]at h;cases h
  ·rw[z]at h;cases h
theorem CA {M:Model}{A:Around}{E:Value→Shared→Prop}{Q:Unit→Shared→Prop}{pos:Pos}(I:Inv X [] σ H s)(F:aE X)(hN:X.N.Nodup)(hi:X.N[i]?=g7 n)(hl:X.env.scope.names.lookup n=g7 .local)(h:∀B,Inv X [] (σ.set i g9) H B→Q () B):
  wpAny M A (do bindName X.env n .none;Fy X.env n pos) Q E s:=by
 have b:X.env.kindOf n=g7 .local:=hl;have S:(X.env.scope.kind == .class||(X.env.scope.kind == .module&&X.env.locals != X.env.globals))=g8:=by rw[I.ok.kind];rfl
 refine wpAny_bind (wpAny_bindName (eB I hN hi (.inl hl) (v:=.z5) rfl (λs1 G=>?_) (.inr hl)));obtain⟨m,nm,l⟩:=id G.loc;have J:i<σ.length:=by rw[I.len];exact(List.getElem?_eq_some_iff.mp hi).1
 obtain⟨u,r,lk⟩:=l i n .z5 hi (by rw[List.getElem?_set_self J]) (.inl hl);have T:m n=g7 u:=by
  rcases lk with⟨_,w⟩ | ⟨w,_⟩
  ·exact w
  ·rcases w with w|w<;>rw[b]at w<;>cases w
 unfold Fy;refine wpAny_onRaise ?_;unfold unbindName;refine wpAny_bind (tz (wpAny_bind ?_));unfold deleteName;simp only[b,S];rw[if_neg (by decide)];refine wpAny_bind (wpAny_nsDel_keeps nm λh2 v g U=>?_);rw[T];simp only[if_true,Option.isSome_some,ja,jB,if_false];refine i6 (tz (h _ ?_));refine xQ (t':=s1.toks) G F U g (by rw[List.length_set,List.length_set]) λk x w Y f=>?_;have j:k≠i:=by
  rintro rfl
  rw[List.getElem?_set_self J]at f;cases f
 rw[List.getElem?_set_ne (o1 j)]at f;refine⟨by rw[List.getElem?_set_ne (o1 j)];exact f,λZ p u2 t kl=>?_⟩;have xn:x≠n:=by
  rintro rfl
  obtain⟨L,O⟩:=List.getElem?_eq_some_iff.mp Y;obtain⟨P,R⟩:=List.getElem?_eq_some_iff.mp hi;have c:=List.pairwise_iff_getElem.mp hN;rcases Nat.lt_or_gt_of_ne j with q|q
  ·exact c k i L P q (O.trans R.symm)
  ·exact c i k P L q (R.trans O.symm)
 rw[if_neg xn];have mm:Z=m:=by
  obtain⟨o,es,ep,g1,g2,g3,g4⟩:=nm;obtain⟨o',a0,a3,d,e,a4,y⟩:=p;rw[g1]at d;cases d;rw[g2]at e;cases e;funext z;rw[←g4 z,←y z]
 rw[←mm];rcases t with⟨_,a⟩ | ⟨a,_⟩
 ·exact a
 ·rcases a with a|a<;>rw[kl]at a<;>cases a
end
noncomputable def subIn (K:PySem.W.Frag)(C a:Addr):Bool:=match K.lookup C with
 |some ⟨_,_,.cls cd,_⟩=>cd.mro.contains (.ref a)
 |_=>g8
theorem CJ {K:PySem.W.Frag}{h:Heap}{C a:Addr}{bm:List Value}{iv:Option Value}(X:K.In h)(ob:gQ h C bm iv)(q:subIn K C a=h7):(Value.ref C::bm).contains (.ref a)=h7:=by
 obtain⟨_,_,_,_,_,_,_,_,_,_,_,_,_,_,_,_,b,_⟩:=ob.ex;unfold subIn at q;split at q
 ·rename_i lk;have e:=X _ _ lk;rw[b]at e;cases e;exact q
 ·cases q
theorem sA {M:Model}{A:Around}{E:Value→Shared→Prop}{h:Heap}{g:Array GenState}{d:Drawn}{t:Nat}{os:OsState}{a C b:Addr}{j:Obj}{bm k:List Value}{iv m:Option Value}{Q:Bool→Shared→Prop}
  (n:h.get? a=g7 j) (o:j.cls=.ref C) (ob:gQ h C bm iv) (oc:gQ h b k m) (c:(Value.ref C::bm).contains (.ref b)=h7) (p:Q h7 ⟨h,g,d,t,os⟩):wpAny M A (excMatches (.ref a) (.ref b)) Q E ⟨h,g,d,t,os⟩:=by
 obtain⟨_,_,_,_,_,_,_,_,_,_,_,_,_,_,_,_,q,_,_,s⟩:=ob.ex;obtain⟨_,_,_,_,_,_,_,_,_,_,_,_,_,_,_,_,l,_,_,e⟩:=oc.ex;have r:=e.hasType sY;have i:(Value.ref b::k).contains (.type "BaseException")=h7:=by rw[List.contains_cons,r,fj]
 have f:=tc_notTuple;unfold excMatches;repeat (first| (with_reducible refine x4 n ?_;rw[o]) |with_reducible refine x4 l ?_| (with_reducible refine X4 l ?_;rw[i]) | (with_reducible refine X4 q ?_;rw[c]) |wp_step)
 exact p
noncomputable def mX (mb:SM)(i j:Nat)(val:vc→Option D):SM:=λρ=>match mb ρ with
 |some (.ex x a)=>match a[i]?,val x with
  |some g9,g7 d=>eC j (.val d) a
  |_,_=>g9
 |r=>r
section
variable {X:Cx}{B:Bs}{body:List Stmt}{mb:SM}{cn n y:Str}{Cc:Addr}{i j:Nat}{st:Stmt}{np Ka pos:Pos}{val:vc→Option D}
theorem EV (hb:jw X B body mb)(o:Ce X.K X.mg cn Cc)(hN:X.N.Nodup)
  (a0:∀x d,val x=g7 d→∃C v iv,PySem.W.nsIn X.K k8 x.cls=g7 (g7 (.ref C))∧kq X.K C iv=h7∧subIn X.K C Cc=h7∧(∀G,Rep B.K G v d)∧
   ∀a dc,PS ((hx X (.ref a)).A1 λ_ _=>False) st (λD σ H=>σ[i]?=g7 (g7 (.ref a))∧H a=g7 (.ext (iI a C dc))∧uW H x.fs dc∧D.nx (σ.set j (g7 v)) H))
  (hi:X.N[i]?=g7 n:=by rfl) (l:X.env.scope.names.lookup n=g7 .local:=by rfl) (a1:i≠j:=by decide)
  (F:aE X:=by exact⟨rfl,rfl,rfl,rfl⟩) (hc:X.calm=h7:=by rfl) (hg:Gl X cn:=by rfl) (a2:(cn==("__debug__":Str))=g8:=by decide):
  ED X B (.Try body [.ExceptHandler (g7 (.Name cn np)) (g7 n) [st] Ka] [] [] pos) (mX mb i j val):=.mk λξ=>by
 intro s σ H y I hS;obtain⟨G,ρ,R,r,g,p⟩:=hS;have m:X.calm=h7→X.A.handled=g9:=I.ok.hd;refine wpAny_Try_except ?_;have conv:∀{E2:Value→Shared→Prop} {f:Flow} {s1:Shared},SP (X.A1 E2) [] y f s1→SP (rz X ξ) [] y f s1:=λ{E2 f s1} q=>by
  have q1:=q.G4;cases f with
  |next=>obtain⟨b,H',I,q⟩:=q1;exact⟨b,H',I.A1 _,q⟩
  |brk=>obtain⟨b,H',I,q⟩:=q1;exact⟨b,H',I.A1 _,q⟩
  |cont=>obtain⟨b,H',I,q⟩:=q1;exact⟨b,H',I.A1 _,q⟩
  |ret u=>obtain⟨v,b,H',I,r,q⟩:=q1;exact⟨v,b,H',I.A1 _,r,q⟩
 have tb:SD B (λx b H'=>∃G' c,j5 G G'∧RS B G' H' b c∧mb ρ=g7 (.ex x c)) mb y σ H:=by
  cases E:mb ρ with
  |none=>unfold mX at g;rw[E]at g;cases g
  |some r0=>
   refine⟨G,ρ,R,r0,E,?_⟩;unfold mX at g;rw[E]at g;cases r0 with
   |nx c=>cases g;exact p
   |bk c=>cases g;exact p
   |ct c=>cases g;exact p
   |rt w c=>cases g;exact p
   |ex x c=>exact λb G' H' s' R'=>⟨G',c,s',R',rfl⟩
 have hE:∀e s1,XE X (λx b H'=>∃G' c,j5 G G'∧RS B G' H' b c∧mb ρ=g7 (.ex x c)) e s1→wpAny (model X.prog X.w) X.A (noteFrame e X.env) (λ_ s2=>wpAny (model X.prog X.w) X.A (setFlight e g9) (λ_ s3=>
   wpAny (model X.prog X.w) X.A (handleBy e X.env [.ExceptHandler (g7 (.Name cn np)) (g7 n) [st] Ka]) (SP (rz X ξ) [] y) (XE X ξ) s3) (XE X ξ) s2) (XE X ξ) s1:=by
  rintro e s1 ⟨x,pins,σ1,H1,I1,⟨a,cls,dct,rfl,ix,oa,fl,_⟩,⟨G1,m9,sG,R1,E⟩⟩
  have I0:Inv X [] σ1 H1 s1:=I1.Y7 λp hp=>absurd hp (by simp);unfold mX at g;rw[E]at g;simp only[]at g;split at g
  ·rename_i d a3 J;obtain⟨C,v,iv,a4,a5,L,O,a6⟩:=a0 x d J;obtain⟨C',rfl,h,a7⟩:=ix;rw[a4]at h;cases h;refine noted I0 F oa fl λh2 T I2 t P=>?_;refine marked g9 I2 F t P λh3 I3 t3=>?_;have F':aE (hx X (.ref a)):=⟨F.pn,F.ex,F.stk,F.fr⟩
   have a8:Off (hx X (.ref a)) H1 a:=⟨oa.new,oa.free,oa.loc,oa.cell⟩
   have a9:Off (hx X (.ref a)) H1 T:=⟨P.new,P.free,P.loc,P.cell⟩
   refine wpAny_handleBy_cons (codeAny_handlers_test ?_) (by intro q;cases q);have Q:Inv (hx X (.ref a)) [] σ1 H1 {s1 with heap:=h3}:=AB I3;refine dC (X:=hx X (.ref a)) Q hg o.mg ?_ a2;obtain⟨oe,vs,b5,ts,he,b0,b6,hd,w⟩:=id t3;obtain⟨bm,ob⟩:=iJ I3.fD a5;obtain⟨bc,oc⟩:=iJ I3.fD o.ok;refine sA he b0 ob oc (CJ I3.fD ob L) ?_;refine codeAny_handlers_suite_as ?_;refine marked (X:=hx X (.ref a)) g9 Q F' t3 a9 λh4 I4 t4=>?_;obtain⟨b1,b2,_,_,b3,S,U,Y,_⟩:=id t4;have I5:=xP I4 F' (a:=a) (C:=C) (dc:=dct) a8 ⟨b1,b2,b3,S,U,Y⟩;have Z:uW (upd H1 a (.ext (iI a C dct))) x.fs dct:=by
    rcases a7 with z| ⟨dx,f,n,z1,z2,z3⟩
    ·exact .inl z
    ·exact .inr ⟨dx,f,n,z1,z2,by rw[i9 (t8 z3 oa.free)];exact z3⟩
   refine eB (X:=hx X (.ref a)) I5 hN hi (.inl l) (v:=.ref a) rfl (λs5 I6=>?_) (.inr l);have il:i<σ1.length:=by rw[I0.len];exact(List.getElem?_eq_some_iff.mp hi).1
   have go:=aM (a6 a dct) [] s5 (σ1.set i (g7 (.ref a))) (upd H1 a (.ext (iI a C dct))) {nx:=λb H'=>b=(σ1.set i (g7 (.ref a))).set j (g7 v)∧H'=upd H1 a (.ext (iI a C dct)),rt:=λ_ _=>False} (I6.A1 _) ⟨by rw[List.getElem?_set_self il],l5,Z,rfl,rfl⟩;refine wpAny_mono go (λf s6 q=>?_) λ_ _ z=>z.elim;cases f with
   |next=>
    obtain⟨b7,H7,I7,rfl,rfl⟩:=q;have I8:Inv X [] _ _ s6:=uo m I7.G4;have I9:=se I8 F oa.free;refine CA I9 F hN hi l λb8 b4=>?_;have R2:=xo g9 R1 a3;obtain⟨c,G',rfl,sg,R3⟩:=ft R2 (show L4 B G1 H1 (σ1.set i g9) m9 v (.val d)from O G1) g;refine⟨(σ1.set i g9).set j (g7 v),H1,?_,p _ G' H1 (sG.trans sg) R3⟩;refine Inv.A1 (b4.weak ?_ λk u e=>?_) _
    ·simp
    ·by_cases ki:k=i
     ·rw[ki,List.getElem?_set_ne (o1 a1),List.getElem?_set_self il]at e;cases e
     ·rw[List.getElem?_set_ne (o1 ki)];by_cases kj:k=j
      ·subst kj;have jl:k<σ1.length:=by
        have:=(List.getElem?_eq_some_iff.mp e).1;simpa using this
       rw[List.getElem?_set_self (by simpa using jl)]at e⊢;exact e
      ·rw[List.getElem?_set_ne (o1 kj),List.getElem?_set_ne (o1 ki)]at e⊢;exact e
   |brk=>obtain⟨_,_,_,z⟩:=q;exact z.elim
   |cont=>obtain⟨_,_,_,z⟩:=q;exact z.elim
   |ret u=>obtain⟨_,_,_,_,_,z⟩:=q;exact z.elim
  ·cases g
 refine wpAny_mono ((hb.ap _).be hE [] s σ H y (I.G4.A1 _) tb) (λf s1 q=>?_) λ_ _ z=>z;cases f with
 |next=>exact Y1 (conv q)
 |brk=>exact conv q
 |cont=>exact conv q
 |ret u=>exact conv q
end
section
variable {mr:M (List W)}{ws:List W}{ρ m9 A5:l9}{c:Str}{s1 s2 mb:SM}{x:vc}{m:M W}{i j:Nat}{val:vc→Option D}{d:D}{r:Option SR}{ms:List Bool}{fm:List D→Option FR}{fin ds:List D}{w:W}
theorem qf (a:s1 ρ=g7 (.ex x m9)):l6 s1 s2 ρ=g7 (.ex x m9):=by unfold l6;rw[a]
theorem Ee (a:m ρ=g7 (.ex x m9)):u1 i m ρ=g7 (.ex x m9):=by unfold u1 C9;rw[a]
theorem wg (h:mb ρ=g7 (.nx m9)):mX mb i j val ρ=g7 (.nx m9):=by unfold mX;rw[h]
theorem wf (h:mb ρ=g7 (.ex x m9))(hi:m9[i]?=g7 g9)(a:val x=g7 d)(hs:eC j (.val d) m9=r):mX mb i j val ρ=r:=by
 unfold mX;rw[h];simp only[hi,a];exact hs
theorem yg (a:mr ρ=g7 (.ok ws m9))(hx:J2 ms ws m9=g7 ds)(b:fm ds=g7 (.ret w fin))(h:u5 ms fm mr ρ=g7 (.ok w A5)):gC ms fm mr ρ=g7 (.ok w A5):=by
 unfold gC;unfold u5 at h;rw[M.k9 a]at h⊢;unfold wB;rw[hx];simp only[Option.bind_some,b];exact h
theorem yh (b:mr ρ=g7 (.ok ws m9))(hx:J2 ms ws m9=g7 ds)(c:eX (B0 ms ws) (S9 m9 ms ws)=h7)(d:fm ds=g7 (.exc x fin))(a:fin.all X1=h7)(hs:pj (B0 ms ws) fin m9=g7 A5):gC ms fm mr ρ=g7 (.ex x A5):=by
 unfold gC;rw[M.k9 b];unfold wB;rw[hx];simp only[Option.bind_some,d];rw[if_pos ⟨c,a⟩,hs];rfl
end
theorem Hr {K:PySem.W.Frag}{h:Heap}{mg:Str→Option Value}{x:Str}{C:Addr}(X:K.In h)(G:h.Ns k8 mg)(a:PySem.W.nsIn K k8 x=g7 (g7 (.ref C)))(o:kq K C g9=h7):Ce K mg x C:=⟨a,PySem.W.mg_of X G a,o⟩
def Kept (h h':Heap):Prop:=∀b o,h.get? b=g7 o→h'.get? b=g7 o
open AutoSeq1 (wpAny_loadPart')
theorem JH (a v:Value):checkTypeCall "enumerate" ⟨[a],[("start",v)]⟩=pure ():=by kernel_rfl
theorem JI (a v:Value):checkBuiltinCall "enumerate.__new__" ⟨[.type "enumerate",a],[("start",v)]⟩=pure ():=by kernel_rfl
theorem JJ (o a v:Value):argsOk "object.__init__" ⟨[o,a],[("start",v)]⟩:=by unfold argsOk;kernel_rfl
theorem Hx (l:Addr)(a:Array Value)(n:Nat)(dct:Option Addr)(sl:Array (Option Value))(t:Tok):
  Meets (m3.«enumerate.__new__» ⟨[.type "enumerate",.ref l],[("start",.int 1 t)]⟩) (λ_ R s=>s.heap.get? l=g7 {cls:=.type "list",dict:=dct,data:=.seq a n,slots:=sl}∧
   R (.ok (.ret (.ref (s.heap.push {cls:=.type "list_iterator",data:=.fields #[.ref l,.int 0 0]}).objs.size)))
    {s with heap:=(s.heap.push {cls:=.type "list_iterator",data:=.fields #[.ref l,.int 0 0]}).push {cls:=.type "enumerate",data:=.fields #[.none,.bool g8,.ref s.heap.objs.size,rawInt 1,.none,.none]}}):=
 .of_wp λprog w A R s h=>by
  obtain⟨f,g,d,i,os⟩:=s;obtain⟨hl,h⟩:=h;have e:=sub_enumerate;have b:Heap.IsList (Shared.heap ⟨f,g,d,i,os⟩) l a:=⟨_,hl,rfl,n,rfl⟩
  wp_walk using iT hl
  refine wpAny_stack_any λst=>i6 ?_;split
  ·rename_i c _ _ _ _ _;cases(c==Value.type "enumerate")
   ·wp_walk using iT hl,L8 b
    all_goals exact⟨_,rfl,h⟩
   ·wp_walk using iT hl,L8 b
    all_goals exact⟨_,rfl,h⟩
  ·wp_walk using iT hl,L8 b
   all_goals exact⟨_,rfl,h⟩
theorem Ep(hl:ee (.type T) "__init__"=pure (g7 (.builtin "object.__init__")))
  (g:Bind.madeBy (.type T)=pure (g7 b)) (f:(g7 b != g7 "object.__new__")=h7):
  Meets (m3.«object.__init__» ⟨self::c,d⟩) (λ_ R s=>s.TypeIs self T∧R (.ok (.ret .none)) s):=by
 refine Meets.of_wp λprog w A R s hs=>?_;obtain⟨h,e⟩:=hs;cases c with
 |nil=>
  cases d with
  |nil=>exact i6 ⟨_,rfl,e⟩
  |cons k d=>
   repeat (any_goals (first|assumption|wp_step))
   exact⟨_,rfl,e⟩
 |cons a c=>
  repeat (any_goals (first|assumption|wp_step))
  exact⟨_,rfl,e⟩
section
variable {prog:Program}{w:World}{A:Around}{E:Value→Shared→Prop}{s:Shared}
theorem Er(y:s.heap.IsList l a)
  (h:∀h',IsEnum h' (s.heap.objs.size+1) s.heap.objs.size 1 .none→h'.IsListIter s.heap.objs.size l 0→Kept s.heap h'→Q (.ref (s.heap.objs.size+1)) {s with heap:=h'}):
  wpAny (model prog w) A (call (.type "enumerate") [.ref l] [("start",.int 1 t)]) Q E s:=by
 obtain⟨⟨c,dct,z,sl⟩,hl,g,n,hd⟩:=y;replace g:c=.type "list":=g;replace hd:z=.seq a n:=hd;subst g hd;have d:=F.called_enumerate;obtain⟨c,L,k⟩:=d.mro;have i:=d.made;have m:=d.sub;have B:=JH (.ref l) (.int 1 t);have p:(s.heap.push {cls:=.type "list_iterator",data:=.fields #[.ref l,.int 0 0]}).objs.size=s.heap.objs.size+1:=Heap.size_push ..;refine bL (Ma (show wpAny _ _ (callAny (.type "enumerate") _) _ _ _ from i6 ⟨jz _ (by decide +kernel),cH F.entry_type_call ?_⟩));rw[Around.under_plain (weight_type_call_type "enumerate" [.ref l] [("start",.int 1 t)]) (units_type_call_type "enumerate" [.ref l] [("start",.int 1 t)])];have N:=d.notType;have O:=d.canCreate;repeat (any_goals (first|assumption|wp_step))
 refine L9 (D7 d.plain F.entry_enumerate_new (wpAny_of_eq (JI (.ref l) (.int 1 t)) (Hx l a n dct sl t prog w A.in1 (wants (λobj s1=>obj=.ref (s.heap.objs.size+1)∧s1={s with heap:=(s.heap.push {cls:=.type "list_iterator",data:=.fields #[.ref l,.int 0 0]}).push {cls:=.type "enumerate",data:=.fields #[.none,.bool g8,.ref s.heap.objs.size,rawInt 1,.none,.none]}}) E) s ⟨hl,by rw[p];exact⟨rfl,rfl⟩⟩))) λr s1 hr=>?_;cases r with
 |error e=>exact hr
 |ok G=>
  cases G with
  |ret obj=>
   obtain⟨rfl,rfl⟩:=hr;have q:IsEnum ((s.heap.push {cls:=.type "list_iterator",data:=.fields #[.ref l,.int 0 0]}).push {cls:=.type "enumerate",data:=.fields #[.none,.bool g8,.ref s.heap.objs.size,rawInt 1,.none,.none]}) (s.heap.objs.size+1) s.heap.objs.size 1 .none:=by
    have:=Heap.get?_push_size (s.heap.push {cls:=.type "list_iterator",data:=.fields #[.ref l,.int 0 0]}) (o:={cls:=.type "enumerate",data:=.fields #[.none,.bool g8,.ref s.heap.objs.size,rawInt 1,.none,.none]}) rfl;rw[p]at this;exact this
   have u:=h _ q ⟨_,Heap.get?_push_of_some _ (Heap.get?_push_size _ rfl),rfl,rfl⟩ (λb o x=>Heap.get?_push_of_some _ (Heap.get?_push_of_some _ x));have v:({s with heap:=(s.heap.push {cls:=.type "list_iterator",data:=.fields #[.ref l,.int 0 0]}).push {cls:=.type "enumerate",data:=.fields #[.none,.bool g8,.ref s.heap.objs.size,rawInt 1,.none,.none]}}:Shared).TypeIs (.ref (s.heap.objs.size+1)) "enumerate":=⟨_,q,rfl⟩
   have H:=d.init.lookup;have I:=d.init.bind (.ref (s.heap.objs.size+1));repeat (any_goals (first|assumption|wp_step))
   refine L9 (D7 d.init.plain F.entry_object_init (d.init.check _ _ _ _ _ _ _ _ v (JJ _ _ _) (Ep d.init.lookup d.made (by decide) prog w A.in1 (wants (λr s2=>r=.none∧Q (.ref (s.heap.objs.size+1)) s2) E) _ ⟨v,rfl,u⟩))) λJ s2 f=>?_;cases J with
   |error e=>exact f
   |ok j=>
    cases j with
    |ret r=>
     obtain⟨rfl,u⟩:=f;repeat (any_goals (first|assumption|wp_step))
    |_=>exact f.elim
  |_=>exact hr.elim
end
theorem ug:ee (.type "enumerate") "keys"=pure g9:=by rw[iU,bI];kernel_rfl
theorem nz:ee (.type "enumerate") "__getattr__"=pure g9:=by rw[iU,bI];kernel_rfl
theorem sO:entryFor table "enumerate.__getattribute__"=g7 m3.«object.__getattribute__»:=
 entryFor_alias (id':="object.__getattribute__") (by kernel_rfl) (by first|rfl|decide +kernel| (unfold String.splitOn;simp +decide [String.splitOnAux])) (by decide +kernel) (by kernel_rfl)
section
variable {prog:Program}{w:World}{A:Around}{E:Value→Shared→Prop}{h:Heap}{g:Array GenState}{d:Drawn}{t:Nat}{os:OsState}{a:Addr}{fs:Array Value}
theorem nA(e:A.handled=g9)(hx:h.get? a=g7 {cls:=.type "enumerate",dict:=g9,data:=.fields fs,slots:=#[]})
   (f:∀x h' i,(∀b o,h.get? b=g7 o→h'.get? b=g7 o)→(∃o,h'.get? x=g7 o∧o.cls=.type "AttributeError")→E (.ref x) ⟨h',g,d,i,os⟩):
    wpAny (model prog w) A (m3.«object.__getattribute__» ⟨[.ref a,.str "keys" c],[]⟩) Q E ⟨h,g,d,t,os⟩:=by
  have j:(⟨h,g,d,t,os⟩:Shared).TypeIs (.ref a) "enumerate":=⟨_,hx,rfl⟩
  have k:=ug;repeat (any_goals (first|assumption|wp_step))
  refine PySem.lJ e ?_ f;decide +kernel
theorem pR(e:A.handled=g9)(hx:h.get? a=g7 {cls:=.type "enumerate",dict:=g9,data:=.fields fs,slots:=#[]})
   (f:∀x h' i,(∀b o,h.get? b=g7 o→h'.get? b=g7 o)→(∃o,h'.get? x=g7 o∧o.cls=.type "AttributeError")→R (.error (.ref x)) ⟨h',g,d,i,os⟩):
    aH (model prog w) A (.call (.builtin "enumerate.__getattribute__") ⟨[.ref a,.str "keys" c],[]⟩) R ⟨h,g,d,t,os⟩:=
  D7 F.slot_enumerate_getattribute.plain sO (F.slot_enumerate_getattribute.check _ _ _ _ _ _ _ _ (show(⟨h,g,d,t,os⟩:Shared).TypeIs (.ref a) "enumerate" from⟨_,hx,rfl⟩) (F.args_enumerate_getattribute_2 _ _) (nA e hx f))
theorem uh(f:A.handled=g9)(hx:h.get? a=g7 {cls:=.type "enumerate",dict:=g9,data:=.fields fs,slots:=#[]})
   (i:∀x h' c,(∀b o,h.get? b=g7 o→h'.get? b=g7 o)→(∃o,h'.get? x=g7 o∧o.cls=.type "AttributeError")→E (.ref x) ⟨h',g,d,c,os⟩):wpAny (model prog w) A (getAttrBy (.ref a) (.str "keys" e) g8) Q E ⟨h,g,d,t,os⟩:=by
  have k:(⟨h,g,d,t,os⟩:Shared).TypeIs (.ref a) "enumerate":=⟨_,hx,rfl⟩
  have l:=F.slot_enumerate_getattribute.lookup;have m:=F.slot_enumerate_getattribute.bind (.ref a);have n:=nz;have p:=PySem.F.S4;repeat (any_goals (first|assumption|wp_step))
  refine pR f hx λx h' c kp ex=>?_;have j:(⟨h',g,d,c,os⟩:Shared).TypeIs (.ref x) "AttributeError":=ex;repeat (any_goals (first|assumption|wp_step))
  exact i x h' c kp ex
theorem pT(e:A.handled=g9)(hx:h.get? a=g7 {cls:=.type "enumerate",dict:=g9,data:=.fields fs,slots:=#[]})
   (hQ:∀h' c,(∀b o,h.get? b=g7 o→h'.get? b=g7 o)→Q g9 ⟨h',g,d,c,os⟩):wpAny (model prog w) A (FD (.ref a) "keys") Q E ⟨h,g,d,t,os⟩:=by
  unfold FD getAttrBy?;have i:=PySem.F.S4;repeat (any_goals (first|assumption|with_reducible apply uh e hx|wp_step))
  intro x h' c kp ex;have f:(⟨h',g,d,c,os⟩:Shared).TypeIs (.ref x) "AttributeError":=ex;repeat (any_goals (first|assumption|wp_step))
  exact hQ h' c kp
end
structure vd (b0:Nat) (h:Heap) (e it:Addr) (i:Int):Prop where
 ex:∃f0 f1 old,h.get? e=some {cls:=.type "enumerate",dict:=none,data:=.fields #[f0,.bool f1,.ref it,rawInt i,.none,old],slots:=#[]}∧(f0=.none∨∃(a:Nat) (o:Obj),f0=rawInt a∧b0≤a∧a≠e∧a≠it∧h.get? a=some o)
theorem qZ {M:Model}{A:Around}{E:Value→Shared→Prop}{s:Shared}{a:Addr}{Q:Option Obj→Shared→Prop}(h:Q (s.heap.get? a) s):wpAny M A (loadIfAlive a) Q E s:=λ_ _ _=>h
section
variable {prog:Program}{w:World}{A:Around}{E:Value→Shared→Prop}{s:Shared}
theorem Bu {b0:Nat}{e it l:Addr}{j:Nat}{i:Int}{k:Array Value}{x:Value}{Q:Value→Shared→Prop}(hE:vd b0 s.heap e it i)(hI:s.heap.IsListIter it l j)(hl:s.heap.IsList l k)(hx:k[j]?=g7 x)(n:e≠it)(T:b0≤s.heap.objs.size)
  (hQ:∀h',vd b0 h' e it (i+1)→h'.IsListIter it l (j+1)→h'.get? s.heap.objs.size=g7 {cls:=.type "tuple",data:=.seq #[.int i s.toks,x]}→(∀b o,b≠e→b≠it→s.heap.get? b=g7 o→h'.get? b=g7 o)→Q (.ref s.heap.objs.size) {s with heap:=h',toks:=s.toks+1}):
  wpAny (model prog w) A (m3.«enumerate.__next__» ⟨[.ref e],[]⟩) (λfin s'=>∃v,fin=.done (.ret v)∧Q v s') E s:=by
 obtain⟨p,g,d,c,os⟩:=s;obtain⟨f0,f1,old,U,hf⟩:=hE.ex;refine wpAny_bind (m:=Nt (.ref e) 2) (x2 U rfl (x:=.ref it) rfl (wpAny_bind (wpAny_nextOf_list_item hI hl hx λH X I=>?_)));have I:Heap.SameBut it p H:=I;have Y:=(I.2 e n).trans U;refine wpAny_bind (m:=Nt (.ref e) 3) (x2 (s:=⟨H,g,d,c,os⟩) Y rfl (x:=rawInt i) rfl ?_);refine wpAny_bind (m:=Nt (.ref e) 4) (x2 (s:=⟨H,g,d,c,os⟩) Y rfl (x:=.none) rfl ?_);refine wpAny_bind (m:=mkInt i) (wpAny_mkInt ?_);refine wpAny_bind (m:=Nk (.ref e) 3 (rawInt (i+1))) (P3 (s:=⟨H,g,d,c+1,os⟩) Y (by simp) λZ g2 J=>?_);have J:Heap.SameBut e H Z:=J;refine wpAny_bind (m:=Nk (.ref e) 4 .none) (P3 (s:=⟨Z,g,d,c+1,os⟩) g2 (by simp) λu g3 L=>?_);have L:Heap.SameBut e Z u:=L;have g3:u.get? e=g7 {cls:=.type "enumerate",dict:=g9,data:=.fields #[f0,.bool f1,.ref it,rawInt (i+1),.none,old],slots:=#[]}:=g3;refine wpAny_bind (m:=newTuple [.int i c,x]) (wpAny_newTuple ?_);have hz:u.objs.size=p.objs.size:=by rw[L.1,J.1,I.1]
 have F:(u.push {cls:=.type "tuple",data:=.seq #[.int i c,x]}).get? e=g7 {cls:=.type "enumerate",dict:=g9,data:=.fields #[f0,.bool f1,.ref it,rawInt (i+1),.none,old],slots:=#[]}:=Heap.get?_push_of_some _ g3;have t4:(u.push {cls:=.type "tuple",data:=.seq #[.int i c,x]}).get? p.objs.size=g7 {cls:=.type "tuple",data:=.seq #[.int i c,x]}:=by rw[←hz];exact Heap.get?_push_size _ rfl
 have k4:∀b o,b≠e→b≠it→p.get? b=g7 o→(u.push {cls:=.type "tuple",data:=.seq #[.int i c,x]}).get? b=g7 o:=λb o y N q=>Heap.get?_push_of_some _ ((L.2 b y).trans ((J.2 b y).trans ((I.2 b N).trans q)));have i4:(u.push {cls:=.type "tuple",data:=.seq #[.int i c,x]}).IsListIter it l (j+1):=by
  obtain⟨o,t,r⟩:=X;exact⟨o,Heap.get?_push_of_some _ ((L.2 it (o1 n)).trans ((J.2 it (o1 n)).trans t)),r⟩
 have G:e<p.objs.size:=Heap.lt_size U;have a1:it<p.objs.size:=by obtain⟨o,t,_⟩:=hI;exact Heap.lt_size t
 generalize u.push {cls:=.type "tuple",data:=.seq #[.int i c,x]}=f at *;rw[hz];rcases hf with rfl| ⟨a,o,rfl,a0,ae,ai,t⟩
 ·refine wpAny_bind (m:=cI (.ref e)) (wpAny_bind (x2 (s:=⟨f,g,d,c+1,os⟩) F rfl (x:=.none) rfl (i6 ?_)));simp only[if_true];refine wpAny_bind (Iv (wpAny_bind (x2 (s:=⟨f,g,d,c+1,os⟩) F rfl (x:=old) rfl (wpAny_bind (P3 (s:=⟨f,g,d,c+1,os⟩) F (by simp) λh5 g5 b5=>?_)))));have b5:Heap.SameBut e f h5:=b5;refine wpAny_bind (m:=EO (.ref e) (.ref p.objs.size)) (wpAny_bind (P3 (s:=⟨h5,g,d,c+1,os⟩) g5 (by simp) λh6 g6 b6=>P3 (s:=⟨h6,g,d,c+1,os⟩) g6 (by simp) λh O P=>?_));have b6:Heap.SameBut e h5 h6:=b6;have P:Heap.SameBut e h6 h:=P;have B:∀b o,b≠e→f.get? b=g7 o→h.get? b=g7 o:=λb o z q=>(P.2 b z).trans ((b6.2 b z).trans ((b5.2 b z).trans q));have t7:=B _ _ (y0 G) t4;refine wpAny_bind (wpAny_letGo (i6 ⟨_,rfl,hQ h ⟨⟨_,_,_,O,.inr ⟨p.objs.size,_,rfl,T,y0 G,y0 a1,t7⟩⟩⟩ ?_ t7 λb o y N q=>B b o y (k4 b o y N q)⟩));obtain⟨o,t,r⟩:=i4;exact⟨o,B _ _ (o1 n) t,r⟩
 ·have R:=k4 a o ae ai t;have fin:∀h,(∃S,h.get? e=g7 {cls:=.type "enumerate",dict:=g9,data:=.fields #[rawInt a,.bool S,.ref it,rawInt (i+1),.none,old],slots:=#[]})→(∀b o,b≠e→f.get? b=g7 o→h.get? b=g7 o)→Q (.ref p.objs.size) ⟨h,g,d,c+1,os⟩:=by
   intro h ⟨S,O⟩ B;refine hQ h ⟨⟨_,_,_,O,.inr ⟨a,o,rfl,a0,ae,ai,B _ _ ae R⟩⟩⟩ ?_ (B _ _ (y0 G) t4) λb o y N q=>B b o y (k4 b o y N q);obtain⟨o,t,r⟩:=i4;exact⟨o,B _ _ (o1 n) t,r⟩
  refine wpAny_bind (m:=cI (.ref e)) (wpAny_bind (x2 (s:=⟨f,g,d,c+1,os⟩) F rfl (x:=rawInt a) rfl ?_));refine wpAny_bind (m:=loadIfAlive ((a:Int).toNat)) (qZ (s:=⟨f,g,d,c+1,os⟩) ?_);rw[show((a:Nat):Int).toNat=a from rfl];rw[show(Shared.heap ⟨f,g,d,c+1,os⟩).get? a=g7 o from R];show wpAny _ _ (Nt (.ref e) 1 >>= λ_=>_) _ _ _;refine wpAny_bind (x2 (s:=⟨f,g,d,c+1,os⟩) F rfl (x:=.bool f1) rfl ?_);cases f1 with
  |true=>exact i6 (i6 ⟨_,rfl,fin f ⟨h7,F⟩ λ_ _ _ q=>q⟩)
  |false=>exact wpAny_bind (P3 (s:=⟨f,g,d,c+1,os⟩) F (by simp) λh O P=>i6 (i6 ⟨_,rfl,fin h ⟨h7,O⟩ λb o z q=>((show Heap.SameBut e f h from P).2 b z).trans q⟩))
theorem Eo(h:vd b0 s.heap e it i)(n:s.heap.IsListIter it l j)(hl:s.heap.IsList l d)(hx:d[j]?=g7 x)(f:e≠it)(g:b0≤s.heap.objs.size)
  (hQ:∀h',vd b0 h' e it (i+1)→h'.IsListIter it l (j+1)→h'.get? s.heap.objs.size=g7 {cls:=.type "tuple",data:=.seq #[.int i s.toks,x]}→(∀b o,b≠e→b≠it→s.heap.get? b=g7 o→h'.get? b=g7 o)→Q (g7 (.ref s.heap.objs.size)) {s with heap:=h',toks:=s.toks+1}):
  wpAny (model prog w) A (pyNext (.ref e)) Q E s:=by
 obtain⟨f0,f1,old,p,q⟩:=id h.ex;have m:s.TypeIs (.ref e) "enumerate":=⟨_,p,rfl⟩
 unfold pyNext;exact wpAny_bind (NN (aj (name:=Str.ofString "__next__") m F.slot_enumerate_next (bK F.slot_enumerate_next m F.entry_enumerate_next (Bu h n hl hx f g λh' a b c k=>i6 (hQ h' a b c k)) (F.args_enumerate_next_1 _))))
theorem Hy(h:A.handled=g9)(k:vd b0 s.heap e it i)(n:s.heap.IsListIter it l j)(hl:s.heap.IsList l a)(hx:a[j]?=g9)
  (hQ:∀h',Heap.ExtBut it s.heap h'→Q g9 {s with heap:=h'}):wpAny (model prog w) A (pyNext (.ref e)) Q E s:=by
 obtain⟨f0,f1,old,f,r⟩:=id k.ex;have g:s.TypeIs (.ref e) "enumerate":=⟨_,f,rfl⟩
 unfold pyNext;refine wpAny_bind (NN (aj (name:=Str.ofString "__next__") g F.slot_enumerate_next (bK F.slot_enumerate_next g F.entry_enumerate_next (wpAny_bind (m:=Nt (.ref e) 2) (x2 f rfl (x:=.ref it) rfl ?_)) (F.args_enumerate_next_1 _))));refine wpAny_bind (wpAny_nextOf_list_end h n hl hx λh' x c d=>?_);obtain⟨o,p,q⟩:=d;exact wpAny_bind (wpAny_isInstance (T:="StopIteration") (b:=h7) ⟨o,p,q⟩ isSubtype_stop (i6 (hQ _ c)))
end
section
variable {prog:Program}{w:World}{A:Around}{E:Value→Shared→Prop}{K:Type}[DecidableEq K]{knd:KeyKind prog w K}
theorem Hw (d e it l : Addr) (g : Array Value) (ps : List (K × Value)) (hh : A.in1.handled = g9) (L : l ≠ d) (N : l ≠ it) (O : l ≠ e) (n : d ≠ it) (B : d ≠ e) (P : e ≠ it) (b0 : Nat) (Q : d < b0) (f : Value) (a6 : ps.length = g.size)
    (S : ∀ (j : Nat) (p : K × Value), ps[j]? = g7 p → g[j]? = g7 p.2 ∧ ∀ E, knd.is p.1 (.int ((j : Int) + 1) E) = h7) (R : ID → Shared → Prop) :
  ∀ (m i : Nat) (kvs : List (K × Value)) (s : Shared), m = ps.length - i → i ≤ ps.length → b0 ≤ s.heap.objs.size →
   s.heap.DictOf knd d kvs → vd b0 s.heap e it ((i : Int) + 1) → s.heap.IsListIter it l i → s.heap.IsList l g → kvs.length + m ≤ sizeLine →
   (∀ h' E, h'.DictOf knd d (IA kvs (ps.drop i)) → (∀ b o, b ≠ d → b ≠ it → b ≠ e → s.heap.get? b = g7 o → h'.get? b = g7 o) → R (.ok (.ret f)) { s with heap := h', toks := E }) →
   aH (model prog w) A (.builtin "dict.update.loop" ⟨[.ref d, .ref e, rawInt i, f], []⟩) R s := by
  intro m
  induction m with
  | zero =>
    intro i kvs s hm hi r hd T t hl U X
    have Y : i = ps.length := by omega
    refine cH PySem.F.D5 (by
      rw [aA PySem.F.r8 _]
      show wpAny _ A.in1 (pyNext (.ref e) >>= fun _ => _) _ _ s
      refine wpAny_bind (Hy hh T t hl (by rw [tI]; omega) fun h' eb => ?_)
      show wpAny _ A.in1 (kC d [] >>= fun _ => ret f) _ _ _
      refine wpAny_bind (i6 (i6 (X h' s.toks ?_ fun b o hb Z a7 q => eb b o Z q)))
      rw [Y, List.drop_length]
      obtain ⟨o, es, ep, u, c⟩ := hd
      exact ⟨o, es, ep, eb d o n u, c⟩)
  | succ m ih =>
    intro i kvs s hm hi r hd T t hl U X
    have G : i < ps.length := by omega
    obtain ⟨hx, H⟩ := S i ps[i] (List.getElem?_eq_getElem G)
    refine cH PySem.F.D5 (by
      rw [aA PySem.F.r8 _]
      show wpAny _ A.in1 (pyNext (.ref e) >>= fun _ => _) _ _ s
      refine wpAny_bind (Eo T t hl hx P r fun h' a0 I ht kp => ?_)
      have a1 : h'.DictOf knd d kvs := by obtain ⟨o, es, ep, u, c⟩ := hd; exact ⟨o, es, ep, kp d o B n u, c⟩
      have hT : ({ s with heap := h', toks := s.toks + 1 } : Shared).TypeIs (.ref s.heap.objs.size) "tuple" := ⟨_, ht, rfl⟩
      show wpAny _ A.in1 (P5 [Value.ref s.heap.objs.size] _ >>= fun _ => _) _ _ { s with heap := h', toks := s.toks + 1 }
      refine wpAny_bind (x0 (wpAny_bind (Nd ?_)))
      unfold mR
      refine wpAny_bind (aF hT ?_)
      rw [if_pos (by decide)]
      refine wpAny_bind (wpAny_seqItems ht rfl (i6 ?_))
      show wpAny _ A.in1 (P5 [.int ((i : Int) + 1) s.toks, ps[i].2] (dictSet d (.int ((i : Int) + 1) s.toks) ps[i].2)) _ _ { s with heap := h', toks := s.toks + 1 }
      refine x0 (Ia (s := { s with heap := h', toks := s.toks + 1 }) (k := ps[i].1) (H _) a1 (fun v a2 h => ?_) (by omega))
      have h : Heap.SameBut d h' v := h
      have J : ∀ b o, b ≠ d → b ≠ it → b ≠ e → s.heap.get? b = g7 o → v.get? b = g7 o := fun b o x y z q => (h.2 b x).trans (kp b o z y q)
      have hc : ((i : Int) + 1) = ((i + 1 : Nat) : Int) := by push_cast; rfl
      refine i6 ⟨mQ PySem.F.r8 _, ?_⟩
      obtain ⟨f0, f1, old, g0, gf⟩ := a0.ex
      have g2 : v.get? e = g7 { cls := .type "enumerate", dict := g9, data := .fields #[f0, .bool f1, .ref it, rawInt ((i : Int) + 1 + 1), .none, old], slots := #[] } := (h.2 e (o1 B)).trans g0
      have a3 : vd b0 v e it (((i + 1 : Nat) : Int) + 1) := by
        refine ⟨⟨f0, f1, old, by rw [← hc]; exact g2, ?_⟩⟩
        rcases gf with gf | ⟨a, o, rfl, z0, x, y, z⟩
        · exact .inl gf
        · exact .inr ⟨a, o, rfl, z0, x, y, (h.2 a (y0 (l7 Q z0))).trans z⟩
      rw [hc]
      refine ih (i + 1) (Iz kvs ps[i].1 ps[i].2) { s with heap := v, toks := s.toks + 1 + 1 } (by omega) (by omega) ?_ a2 a3 ?_ ?_ ?_ fun h3 E a4 a5 => ?_
      · show b0 ≤ v.objs.size
        rw [h.1]
        exact cv (kb r (Heap.lt_size ht))
      · obtain ⟨o, u, c⟩ := I
        exact ⟨o, (h.2 it (o1 n)).trans u, c⟩
      · obtain ⟨o, u, c⟩ := hl
        exact ⟨o, J l o L N O u, c⟩
      · have := KA kvs ps[i].1 ps[i].2
        omega
      · refine X h3 E ?_ fun b o x y z q => a5 b o x y z (J b o x y z q)
        rw [List.drop_eq_getElem_cons G]
        exact a4)
theorem qL {s:Shared}(ps:List (K×Value))(O:A.handled=g9)(P:IsEnum s.heap e it 1 .none)(n:s.heap.IsListIter it l 0)(hl:s.heap.IsList l a)(u:l≠it)(v:l≠e)(x:e≠it)(r:ps.length=a.size)(y:ps.length≤sizeLine)
  (z:∀(j:Nat) (p:K×Value),ps[j]?=g7 p→a[j]?=g7 p.2∧∀t,knd.is p.1 (.int ((j:Int)+1) t)=h7)
  (h:∀h' t,h'.DictOf knd s.heap.objs.size (IA [] ps)→(∀b o,b≠e→b≠it→s.heap.get? b=g7 o→h'.get? b=g7 o)→Q (.ref s.heap.objs.size) {s with heap:=h',toks:=t}):
  wpAny (model prog w) A (call (.type "dict") [.ref e]) Q E s:=by
 refine Nv (Q₁:=λobj k=>obj=.ref s.heap.objs.size∧k={s with heap:=s.heap.push {cls:=.type "dict",data:=.dict #[]}}) F.kt_called_dict (F.kt_typeCall_dict_1 _) F.entry_dict_init (kt_code_dict_new _ ⟨rfl,rfl⟩) ?_
 rintro obj k ⟨rfl,rfl⟩
 have d:(s.heap.push {cls:=.type "dict",data:=.dict #[]}).DictOf knd s.heap.objs.size []:=Heap.DictOf.new s.heap;refine⟨d.typeIs,F.args_dict_init_2 _ _,?_⟩;unfold m3.«dict.__init__»;refine wpAny_bind ?_;unfold kB;refine wpAny_bind (EK d.typeIs ?_);show wpAny _ _ (pure (s.heap.objs.size,[Value.ref e])) _ _ _;refine i6 ?_;show wpAny _ _ (S3 "dict.__init__" s.heap.objs.size (.ref e) [] .none) _ _ _;unfold S3;have B:(s.heap.push {cls:=.type "dict",data:=.dict #[]}).get? e=g7 {cls:=.type "enumerate",dict:=g9,data:=.fields #[.none,.bool g8,.ref it,rawInt 1,.none,.none],slots:=#[]}:=Heap.get?_push_of_some _ P;have G:=Heap.lt_size P;refine wpAny_bind (aF (T:="enumerate") ⟨_,B,rfl⟩ ?_);rw[if_pos (by decide)];refine wpAny_bind (pT (h:=s.heap.push {cls:=.type "dict",data:=.dict #[]}) (by exact O) B λR Z f=>?_);rw[if_pos (show(g9:Option Value).isNone=h7 from rfl)];have S:=f _ _ B;refine wpAny_bind (Iv (wpAny_bind (wpAny_pyIter_enum (i:=1) (old:=.none) S ?_)));refine i6 ⟨mQ PySem.F.r8 _,?_⟩;have H:R.get? s.heap.objs.size=g7 {cls:=.type "dict",data:=.dict #[]}:=f _ _ (Heap.get?_push_size _ rfl);have m:∀b o,s.heap.get? b=g7 o→R.get? b=g7 o:=λb o q=>f _ _ (Heap.get?_push_of_some _ q);have I:l<s.heap.objs.size:=let⟨o,g,_⟩:=hl;Heap.lt_size g;have J:it<s.heap.objs.size:=let⟨o,g,_⟩:=n;Heap.lt_size g;refine Hw (knd:=knd) s.heap.objs.size e it l a ps (by exact O) (j9 I) u v (y0 J) (y0 G) x (s.heap.objs.size+1) (u7 _) .none r z _ ps.length 0 [] _ rfl (u3 _) (Heap.lt_size H) ?_ ⟨⟨_,_,_,S,.inl rfl⟩⟩ ?_ ?_ (by simpa using y) λh' t L N=>⟨rfl,?_⟩
 ·obtain⟨o,es,U,g,c⟩:=d;exact⟨o,es,U,f _ _ g,c⟩
 ·obtain⟨o,g,c⟩:=n;exact⟨o,m _ _ g,c⟩
 ·obtain⟨o,g,c⟩:=hl;exact⟨o,m _ _ g,c⟩
 ·exact h h' t (by simpa using L) λb o X Y q=>N b o (j9 (Heap.lt_size q)) Y X (m b o q)
end
section
variable {M:Model}{A:Around}{E:Value→Shared→Prop}{s:Shared}{env:Env}
theorem uO
  (h:wpAny M A (Ke (m4 pos (i1 [e] env))) (λvs c=>wpAny M A (evalAll ((y7 pos (n7 b env)).map (·.2))) (λkvs f=>wpAny M A (call (.type T) vs (((y7 pos (n7 b env)).filterMap (·.1)).zip kvs)) Q E f) E c) E s)
  (j:m4 pos (i1 [e] env)=(g8,eval e env)::m4 pos (i1 [] env):=by rfl)
  (d:(m4 pos (i1 [e] env)).any (·.1)=g8:=by rfl) (g:(y7 pos (n7 b env)).all (·.1.isSome)=h7:=by rfl) (i:(y7 pos (n7 b env)).any (·.1.isNone)=g8:=by rfl):
  wpAny M A (ka pos (.type T) [] (m4 pos (i1 [e] env)) (y7 pos (n7 b env))) Q E s:=by
 have h':wpAny M A (evalArgs (.type T) h7 (m4 pos (i1 [e] env)) (y7 pos (n7 b env))) (λa c=>wpAny M A (call (.type T) ([]++a.pos) a.kw) Q E c) E s:=by
  rw[j]at h⊢;exact evalArgs_kwB g h
 unfold ka;refine wpAny_bind (x0 (wpAny_mono h' (λa s1 k=>wpAny_bind (wpAny_standAt ?_)) λ_ _ x=>x));simp only[d,i,tE];exact wpAny_bind (i6 (wpAny_bind (wpAny_mono k (λr s2 hr=>wpAny_bind (x0 (tz (i6 hr)))) λ_ _ x=>x)))
end
noncomputable def xC (k:Int):List V→List (Key×V)
 | []=>[]
 |x::xs=>(.inl k,x)::xC (k+1) xs
noncomputable def nw (k:Int):List Value→List (Key×Value)
 | []=>[]
 |x::xs=>(.inl k,x)::nw (k+1) xs
theorem tY:∀{xs:List V} {us:List Value} (k:Int),Vals xs us→KV (xC k xs) (nw k us)
 |_,_,_,.nil=>.nil
 |_,_,k,.cons r a=>.cons ⟨rfl,r⟩ (tY (k+1) a)
theorem iq:∀(us:List Value) (k:Int),(nw k us).length=us.length
 | [],_=>rfl
 |u::us,k=>by
  show(nw (k+1) us).length+1=_;rw[iq us,List.length_cons]
theorem vJ:∀(us:List Value) (k:Int) (j:Nat) (p:Key×Value),(nw k us)[j]?=g7 p→us[j]?=g7 p.2∧p.1=.inl (k+j)
 |u::us,k,0,p,h=>by
  have:(Sum.inl k,u)=p:=by simpa[nw]using h
  subst this;exact⟨rfl,by simp⟩
 |u::us,k,j+1,p,h=>by
  obtain⟨a,b⟩:=vJ us (k+1) j p (by simpa[nw]using h);refine⟨by simpa using a,?_⟩;rw[b];congr 1
  push_cast
  omega
 | [],_,_,_,h=>by simp[nw]at h
section
variable {X:Cx}{p pos p2 cE kp cp:Pos}{nn:Nat}{e:Expr}{t:TA}
noncomputable def Jq (K:PySem.W.Frag):List V→Hp→VK→Prop:=λxs H Q=>∃l a,xs=[.ref l]∧T9 K H l a∧a.length≤1000000∧∀d,H d=g9→Q (.ref d) (upd H d (.dK (ny [] (xC 1 a))))
theorem rH {K:PySem.W.Frag}(hK:X.K=K)(hc:X.calm=h7)(B:Gl X "dict") (E:X.mg "dict"=g9) (F:Gl X "enumerate") (G:X.mg "enumerate"=g9) (ha:PA X [e] t)
  (i:i1 [Expr.Call (.Name "enumerate" p2) [e] [⟨g7 "start",.Constant (.int 1) nn cp,kp⟩] cE] X.env=(g8,eval (Expr.Call (.Name "enumerate" p2) [e] [⟨g7 "start",.Constant (.int 1) nn cp,kp⟩] cE) X.env)::i1 [] X.env) (m:(m4 pos (i1 [] X.env)).any (·.1)=g8)
  (h1:m4 cE (i1 [e] X.env)=(g8,eval e X.env)::m4 cE (i1 [] X.env)) (h2:(m4 cE (i1 [e] X.env)).any (·.1)=g8) (h3:(y7 cE (n7 [⟨g7 "start",.Constant (.int 1) nn cp,kp⟩] X.env)).all (·.1.isSome)=h7) (h4:(y7 cE (n7 [⟨g7 "start",.Constant (.int 1) nn cp,kp⟩] X.env)).any (·.1.isNone)=g8)
  (J:(y7 cE (n7 [⟨g7 "start",.Constant (.int 1) nn cp,kp⟩] X.env)).filterMap (·.1)=[("start":Str)])
  (n:∀(s:Shared) (Q:Value→Shared→Prop),(∀v c,Q (.int 1 v) {s with toks:=c})→wpAny (model X.prog X.w) X.A (eval (.Constant (.int 1) nn cp) X.env) Q X.xe s):
  PE X (.Call (.Name "dict" p) [.Call (.Name "enumerate" p2) [e] [⟨g7 "start",.Constant (.int 1) nn cp,kp⟩] cE] [] pos) (Kn (Jq K) t):=by
 subst hK;intro pins s σ H Q I h;refine J3 (jh I B E cF ?_ (by decide) (by decide));refine ak ?_ i m;rw[i];show wpAny _ _ (Ke ((g8,eval (Expr.Call (.Name "enumerate" p2) [e] [⟨g7 "start",.Constant (.int 1) nn cp,kp⟩] cE) X.env)::m4 pos (i1 [] X.env))) _ _ s;refine W1 (J3 (jh I F G (u:=.type "enumerate") (by decide +kernel) ?_ (by decide) (by decide)));refine uO (F9 (ha cE pins s σ H _ I h) λus s1 ⟨vs,H1,L,r1,l,ys,ev,hq,hz,q⟩=>?_) h1 h2 h3 h4;subst ev;obtain⟨u,rfl,ru⟩:=vals1 r1;cases ru;refine kws_cons (n s1 _ λv c=>kws_nil ?_);rw[J];have d:Inv X pins σ H1 {s1 with toks:=c}:=L.tok _;obtain⟨f,N,O,a0⟩:=d.list hq;refine Er (t:=v) O.isList λh' hE x kp=>de ?_;have y:l<s1.heap.objs.size:=let⟨o,z,_⟩:=O.isList;Heap.lt_size z;have I2:Inv X pins σ H1 {s1 with heap:=h',toks:=c}:=d.kept (t':=c) kp;have P:h'.IsList l f.toArray:=let⟨o,z,r⟩:=O.isList;⟨o,kp _ _ z,r⟩;have hn:=N.length;have R:(ny [] (xC 1 ys)).length≤sizeLine:=by
  have e1:=(pQ (tY 1 N) (kvs:=[]) (vs:=[]) .nil).length;have e2:=KD ([]:List (Key×Value)) (nw 1 f);rw[iq]at e2;simp at e2;have:=v8;omega
 refine qL (knd:=w6 X.prog X.w) (nw 1 f) (L.ok.hd hc) hE x P (j9 y) (j9 (t9 y)) (y0 (u7 _)) (by rw[iq,List.size_toArray]) (by rw[iq,v8];omega) (λj pr hj=>?_) λS T U Y=>?_
 ·obtain⟨a,b⟩:=vJ f 1 j pr hj;refine⟨by simpa using a,λv=>?_⟩;rw[b,KO];exact fZ (k:=.inl ((j:Int)+1)) ⟨v,rfl⟩
 ·have Z:∀b o,s1.heap.get? b=g7 o→S.get? b=g7 o:=λb o q=>Y b o (j9 (t9 (Heap.lt_size q))) (j9 (Heap.lt_size q)) (kp b o q);have g:s1.heap.objs.size≤h'.objs.size:=cv (let⟨o,z,_⟩:=x;Heap.lt_size z);exact⟨.ref h'.objs.size,_,d.laid (a:=h'.objs.size) (o:=.dK (ny [] (xC 1 ys))) (t':=T) Z g (mu R (beq_eq_false_iff_ne.mpr (o1 (j9 (l7 L.big g)))) (pQ (tY 1 N) .nil) U),rfl,q _ (d.hok.fresh g)⟩
end
noncomputable def xB (k:Int):List D→List (Key×D)
 | []=>[]
 |d::ds=>(.inl k,d)::xB (k+1) ds
noncomputable def vH:List D→Option W
 | [.lst ds]=>cf (ds.length≤1000000) (g7 (.own (.dct (lE [] (xB 1 ds)))))
 |_=>g9
theorem num_rep {K:PySem.W.Frag}{G:Hp}:∀{a:List V} {ds:List D} (k:Int),v5 K G a ds→m7 K G (xC k a) (xB k ds)
 | [],[],_,_=>m7.nil
 | [],_::_,_,r=>by have:=r.len;simp at this
 |_::_,[],_,r=>by have:=r.len;simp at this
 |y::a,d::ds,k,r=>m7.cons rfl r.head (num_rep (k+1) r.tail)
section
variable {X:Cx}{B:Bs}{e:Expr}{mr:M (List W)}{nn:Nat}{p pos p2 cE kp cp:Pos}
theorem xR:fR B (Jq B.K) vH:=by
 intro G H σ ρ xs ds w Q R h a c
 match ds,a with
 | [.lst ds],a=>
  obtain⟨d,a⟩:=t6 a;cases a;obtain⟨x,rfl,hx⟩:=E1 h;obtain⟨q,e,rfl,f,b⟩:=hx.lst R.gH;refine⟨q,e,rfl,f,by rw[b.len];exact d,λl hl=>?_⟩;obtain⟨R',g⟩:=R.pM hl (vw (num_rep 1 b) m7.nil);exact c _ G _ (j5.refl _) R' g
theorem uN (j:X.calm=h7)(b:X.mg "dict"=g9) (c:X.mg "enumerate"=g9) (k:iW X B [e] mr) (d:Gl X "dict":=by rfl) (f:Gl X "enumerate":=by rfl) (l:X.K=B.K:=by rfl)
  (g:i1 [Expr.Call (.Name "enumerate" p2) [e] [⟨g7 "start",.Constant (.int 1) nn cp,kp⟩] cE] X.env=(g8,eval (Expr.Call (.Name "enumerate" p2) [e] [⟨g7 "start",.Constant (.int 1) nn cp,kp⟩] cE) X.env)::i1 [] X.env:=by rfl) (a:(m4 pos (i1 [] X.env)).any (·.1)=g8:=by rfl)
  (m:m4 cE (i1 [e] X.env)=(g8,eval e X.env)::m4 cE (i1 [] X.env):=by rfl) (n:(m4 cE (i1 [e] X.env)).any (·.1)=g8:=by rfl) (o:(y7 cE (n7 [⟨g7 "start",.Constant (.int 1) nn cp,kp⟩] X.env)).all (·.1.isSome)=h7:=by rfl) (q:(y7 cE (n7 [⟨g7 "start",.Constant (.int 1) nn cp,kp⟩] X.env)).any (·.1.isNone)=g8:=by rfl)
  (i:(y7 cE (n7 [⟨g7 "start",.Constant (.int 1) nn cp,kp⟩] X.env)).filterMap (·.1)=[("start":Str)]:=by rfl):
  PD X B (.Call (.Name "dict" p) [.Call (.Name "enumerate" p2) [e] [⟨g7 "start",.Constant (.int 1) nn cp,kp⟩] cE] [] pos) (L6 vH mr):=.mk λξ=>
 (rH (X:=rz X ξ) (K:=B.K) l j d b f c (k.ap ξ) g a m n o q i (λs Q h=>Ix (h _ _))).imp λ_ _ _ t=>yV xR t
end
noncomputable def rE (f:Str)(d:D):List (Str×D)→List (Str×D)
 | []=>[(f,d)]
 | (g,x)::r=>if g=f then(g,d)::r else(g,x)::rE f d r
section
variable {K:PySem.W.Frag}{G:Hp}{f:Str}
theorem O0.put(a:f≠U5→Rep K G v d):∀{fs:List (Str×V)} {fds:List (Str×D)},O0 K G fs fds→O0 K G (bO f v fs) (rE f d fds)
 |_,_,.nil=>.cons ⟨rfl,a⟩ .nil
 | (g,x)::fs,(b,y)::fds,.cons h t=>by
  obtain⟨e,c⟩:=h;have e:g=b:=e;subst e;show O0 K G (if g=f then(g,v)::fs else(g,x)::bO f v fs) (if g=f then(g,d)::fds else(g,y)::rE f d fds);by_cases z:g=f
  ·rw[if_pos z,if_pos z];exact .cons ⟨rfl,λn=>a (λw=>n (z.trans w))⟩ t
  ·rw[if_neg z,if_neg z];exact .cons ⟨rfl,c⟩ (O0.put a t)
theorem O0.look:∀{fs:List (Str×V)} {fds:List (Str×D)},O0 K G fs fds→∀{d:D},fds.lookup f=g7 d→∃v,fs.lookup f=g7 v∧(f≠U5→Rep K G v d)
 |_,_,.nil,d,e=>by cases e
 | (g,x)::fs,(b,y)::fds,.cons h t,d,e=>by
  obtain⟨a,c⟩:=h;have a:g=b:=a;subst a;by_cases z:f=g
  ·subst z;rw[List.lookup_cons_self]at e⊢;cases e;exact⟨x,rfl,c⟩
  ·have i:(f==g)=g8:=beq_eq_false_iff_ne.mpr z;simp only[List.lookup,i]at e⊢;exact O0.look t e
theorem O0.Fd:∀{fs:List (Str×V)} {fds:List (Str×D)},O0 K G fs fds→fds.lookup f=g9→fs.lookup f=g9
 |_,_,.nil,_=>rfl
 | (g,x)::fs,(b,y)::fds,.cons h t,e=>by
  obtain⟨a,d⟩:=h;have a:g=b:=a;subst a;by_cases z:f=g
  ·subst z;rw[List.lookup_cons_self]at e;cases e
  ·have c:(f==g)=g8:=beq_eq_false_iff_ne.mpr z;simp only[List.lookup,c]at e⊢;exact O0.Fd t e
theorem O0.len(h:O0 K G fs fds):fs.length=fds.length:=cZ h
end
structure fQ (K:PySem.W.Frag) (C:Addr) (fns:List Str):Prop where
 cls:Cs K C
 no:∀(k:Nat) f,fns[k]?=some f→eY K C f
section
variable {B:Bs}{G H:Hp}{σ:St}{ρ:l9}
theorem RS.vi {i j:Nat}{C p dx:Addr}{l:Bool}{fds tw:List (Str×D)}{fs HW:List (Str×V)}(R:RS B G H σ ρ)(s:B.O=g7 (i,j,C))(hi:ρ[i]?=g7 (g7 (.ob l fds)))(hs:σ[i]?=g7 (g7 (.ref p)))(J:H p=g7 (.ins C dx fs))(hr:O0 B.K G HW tw)
  (hl:∀v,HW.lookup U5=g7 v→∀d,ρ[j]?=g7 (g7 (.ow h7 d))→σ[j]?=g7 (g7 v)):RS B G (upd H p (.ins C dx HW)) σ (ρ.set i (g7 (.ob l tw))):=by
 obtain⟨Y,Z,t,L,N,a1,w,A,E,P,a6,a7,a8⟩:=R.ob.1 i l fds hi;rw[hs]at w;cases w;have f:i<ρ.length:=(List.getElem?_eq_some_iff.mp hi).1;refine⟨R.hk,λb u q=>?_,R.g0,λb u q=>?_,R.gnew,λb q=>?_,by simp[R.len],λk e q=>?_,λk o e q=>?_,λk m a b c e t x y=>?_,R.fz.hJ (by intro _ h;cases h),λk o g q=>?_,λk g q=>?_⟩
 ·rw[i9 (t8 q E)];exact R.keep b u q
 ·rw[i9 (t8 q A)];exact R.gH b u q
 ·by_cases z:b=p
  ·subst z;rw[l5]at q;cases q
  ·rw[i9 z]at q;exact R.dom b q
 ·by_cases z:i=k
  ·subst z;rw[List.getElem?_set_self f]at q;cases q
  ·rw[List.getElem?_set_ne z]at q;exact R.sh k e q
 ·by_cases z:i=k
  ·subst z;rw[List.getElem?_set_self f]at q;cases q
  ·rw[List.getElem?_set_ne z]at q;obtain⟨Q,n,S,T,U,F⟩:=R.ow k o e q;exact⟨Q,n,S,T,U,F.same (j5.refl G) (i9 (aN F J).symm)⟩
 ·by_cases z:i=k
  ·subst z;rw[List.getElem?_set_self f]at x;cases x
  ·by_cases I:i=m
   ·subst I;rw[List.getElem?_set_self f]at y;cases y
   ·rw[List.getElem?_set_ne z]at x;rw[List.getElem?_set_ne I]at y;exact R.inj k m a b c e t x y
 ·by_cases z:i=k
  ·subst z;rw[List.getElem?_set_self f]at q;cases q;refine⟨j,C,p,dx,HW,s,hs,A,E,P,l5,hr,λv X d hd=>?_⟩;have r:i≠j:=λz=>by rw[←z,List.getElem?_set_self f]at hd;cases hd
   rw[List.getElem?_set_ne r]at hd;exact hl v X d hd
  ·rw[List.getElem?_set_ne z]at q;obtain⟨_,_,_,_,_,n,_⟩:=R.ob.1 k o g q;rw[s]at n;cases n;exact absurd rfl z
 ·rcases U6 q with⟨_,z⟩ | ⟨_,z⟩
  ·cases z
  ·exact R.ob.2 k g z
end
noncomputable def xZ (i:Nat)(f:Str)(ρ:l9):Option D:=match ρ[i]? with
 |some (g7 (.ob _ fds))=>if f=U5 then g9 else fds.lookup f
 |_=>g9
noncomputable def pO (i:Nat)(f:Str):M W:=λρ=>(xZ i f ρ).map λd=>.ok (.val d) ρ
noncomputable def lw (i:Nat)(f:Str)(d:D):SM:=λρ=>match ρ[i]? with
 |some (g7 (.ob l fds))=>if f=U5 then g9 else cf (fds.length<1000) (g7 (.nx (ρ.set i (g7 (.ob l (rE f d fds))))))
 |_=>g9
noncomputable def hG (i:Nat)(f:Str)(a:M W):SM:=C9 a λw=>C9 (Q1 w) λd=>lw i f d
noncomputable def sZ (i:Nat)(f:Str)(d:M W):SM:=λρ=>match xZ i f ρ with
 |some (.int a)=>C9 d (λy c=>match getD y c with
  |some (.int b)=>lw i f (.int (a+b)) c
  |_=>g9) ρ
 |_=>g9
section
variable {X:Cx}{B:Bs}{x f:Str}{i j:Nat}{C:Addr}{fns:List Str}{e:Expr}{me:M W}{p1 p2 pos:Pos}{G H:Hp}{σ:St}{ρ:l9}
theorem vX(b:B.O=g7 (i,j,C))(R:RS B G H σ ρ)(h:xZ i f ρ=g7 d):∃p dx fs v,σ[i]?=g7 (g7 (.ref p))∧H p=g7 (.ins C dx fs)∧fs.lookup f=g7 v∧Rep B.K G v d:=by
 unfold xZ at h;split at h
 ·rename_i l fds hi;split at h
  ·cases h
  ·rename_i c;obtain⟨n,o,p,dx,fs,a,e,q,s,t,g,k,u⟩:=R.ob.1 i l fds hi;rw[b]at a;cases a;obtain⟨v,m,r⟩:=O0.look k h;exact⟨p,dx,fs,v,e,g,m,r c⟩
 ·cases h
theorem oj(b:B.O=g7 (i,j,C))(R:RS B G H σ ρ)(n:Rep B.K G v d)(h:lw i f d ρ=g7 r):∃p dx fs a,σ[i]?=g7 (g7 (.ref p))∧H p=g7 (.ins C dx fs)∧fs.length<1000∧r=.nx a∧RS B G (upd H p (.ins C dx (bO f v fs))) σ a:=by
 unfold lw at h;split at h
 ·rename_i l fds hi;split at h
  ·cases h
  ·rename_i o;obtain⟨q,h⟩:=t6 h;cases h;obtain⟨t,w,p,dx,fs,c,e,x,y,A,g,k,s⟩:=R.ob.1 i l fds hi;rw[b]at c;cases c;refine⟨p,dx,fs,_,e,g,by rw[O0.len k];exact q,rfl,R.vi b hi e g (O0.put (λ_=>n) k) λu m d hd=>?_⟩;rw[cc,if_neg (λz=>o z.symm)]at m;exact s u m d hd
 ·cases h
theorem oK (i j:Nat)(O:fQ X.K C fns)(k:Nat)(b:fns[k]?=g7 f:=by rfl)(c:B.O=g7 (i,j,C):=by rfl)(hN:X.N[i]?=g7 x:=by rfl)(g:cq X.env.scope x:=by first|exact Or.inl rfl|exact Or.inr (Or.inl rfl) |exact Or.inr (Or.inr rfl))(hd:(x==("__debug__":Str))=g8:=by decide) (a:(x==("__classdict__":Str))=g8:=by decide)
  (h:v7 (.Name x p1) f X.env (eval (.Name x p1) X.env)=eval (.Name x p1) X.env:=by rfl):PD X B (.Attribute (.Name x p1) f pos) (pO i f):=.mk λξ=>
 (tU (X:=rz X ξ) (A3 (X:=rz X ξ) (i:=i) (pos:=p1) hN g hd a) h).imp λσ H Q t=>by
  obtain⟨G,ρ,R,r,e,p⟩:=t;obtain⟨d,hd,rfl⟩:=Option.map_eq_some_iff.mp e;obtain⟨q,dx,fs,v,l,m,n,o⟩:=vX c R hd;exact⟨_,l,q,C,dx,fs,v,rfl,m,O.cls,O.no k f b,n,p v G H (j5.refl _) R o⟩
theorem og (i j:Nat)(O:fQ X.K C fns)(k:Nat)(b:PD X B e me)(c:fns[k]?=g7 f:=by rfl)(g:B.O=g7 (i,j,C):=by rfl)(hN:X.N[i]?=g7 x:=by rfl)(l:cq X.env.scope x:=by first|exact Or.inl rfl|exact Or.inr (Or.inl rfl) |exact Or.inr (Or.inr rfl))(hd:(x==("__debug__":Str))=g8:=by decide) (a:(x==("__classdict__":Str))=g8:=by decide)
  (hs:B4 e (g7 (.Attribute (.Name x p1) f p2)) pos.line X.env=pure g8:=by rfl):oX X B (.Assign [.Attribute (.Name x p1) f p2] e pos) (hG i f me):=.mk λξ=>
 (zI (X:=rz X ξ) (A3 (X:=rz X ξ) (i:=i) (pos:=p1) hN l hd a) (b.ap ξ) hs).imp λP σ H t=>by
  obtain⟨G,ρ,R,t⟩:=t;refine(SD.step (O2:=C4) R t).mono λy H1 ⟨Q,m,w,s1,n,o,s⟩=>?_;obtain⟨d,u,v,r,z,p⟩:=SD.quiet s λr h=>fB h;obtain⟨A,s2,R2,E⟩:=o.Q1 n v;obtain⟨q,dx,fs,F,I,J,L,rfl,R'⟩:=oj g R2 E z;exact⟨_,I,q,C,dx,fs,rfl,J,O.cls,O.no k f c,L,p σ A _ s2 R'⟩
theorem zo (i j:Nat)(O:fQ X.K C fns)(k:Nat)(o:PD X B e me)(s:fns[k]?=g7 f:=by rfl)(h:B.O=g7 (i,j,C):=by rfl)(hN:X.N[i]?=g7 x:=by rfl)(u:cq X.env.scope x:=by first|exact Or.inl rfl|exact Or.inr (Or.inl rfl) |exact Or.inr (Or.inr rfl))(hd:(x==("__debug__":Str))=g8:=by decide) (c:(x==("__classdict__":Str))=g8:=by decide):
  oX X B (.AugAssign (.Attribute (.Name x p1) f p2) .Add e pos) (sZ i f me):=.mk λξ=>
 (xr (X:=rz X ξ) (A3 (X:=rz X ξ) (i:=i) (pos:=p1) hN u hd c) (o.ap ξ) Hd).imp λU σ H t=>by
  obtain⟨G,ρ,R,r,e,p⟩:=t;unfold sZ at e;split at e
  ·rename_i a z;obtain⟨q,dx,fs,v,l,A,E,F⟩:=vX h R z;refine⟨_,l,q,C,dx,fs,v,rfl,A,O.cls,O.no k f s,E,?_⟩;refine(SD.step (O2:=C4) R ⟨r,e,p⟩).mono λy H1 ⟨I,J,w,s1,m,L,r,e,p⟩=>?_;dsimp only at e;split at e
   ·rename_i b P;cases F;obtain⟨Y,d,g,Q,n,S,T,rfl,R'⟩:=oj (v:=.int (a+b)) h m (.int _) e;rw[l]at n;cases n;exact⟨a,b,rfl,(L.get m P).int,d,g,S,T,p σ I _ (j5.refl _) R'⟩
   ·cases e
  ·cases e
noncomputable def gI (i j:Nat)(ρ:l9):Bool:=match ρ[i]?,ρ[j]? with
 |some (g7 (.ob _ fds)),g7 (g7 (.ow h7 _))=>(fds.lookup U5).isSome
 |_,_=>g8
noncomputable def rW (i j:Nat):M W:=λρ=>if gI i j ρ=h7 then g7 (.ok (.slot j) ρ)else g9
theorem nX:wG j (rW i j):=λρ w a h=>by
 unfold rW at h;split at h
 ·cases h;exact⟨rfl,rfl⟩
 ·cases h
theorem vn (m:B.O=g7 (i,j,C))(R:RS B G H σ ρ)(h:gI i j ρ=h7):∃l fds p dx fs t d,ρ[i]?=g7 (g7 (.ob l fds))∧ρ[j]?=g7 (g7 (.ow h7 d))∧σ[i]?=g7 (g7 (.ref p))∧H p=g7 (.ins C dx fs)∧O0 B.K G fs fds∧fs.lookup U5=g7 (.ref t)∧σ[j]?=g7 (g7 (.ref t))∧G p=g9∧C6 B.K G H t d:=by
 unfold gI at h;split at h
 ·rename_i l fds d hi a;obtain⟨u,b⟩:=Option.isSome_iff_exists.mp h;obtain⟨w,x,p,dx,fs,c,n,o,y,z,q,f,r⟩:=R.ob.1 i l fds hi;rw[m]at c;cases c;obtain⟨v,g,_⟩:=O0.look f b;have e:=r v g d a;obtain⟨t,k,A,E,F,s⟩:=R.ow j h7 d a;rw[e]at k;cases k;exact⟨l,fds,p,dx,fs,t,d,hi,a,n,q,f,g,e,o,s⟩
 ·cases h
theorem BA (i j:Nat)(O:fQ X.K C fns)(k:Nat)(b:fns[k]?=g7 U5:=by rfl)(c:B.O=g7 (i,j,C):=by rfl)(hN:X.N[i]?=g7 x:=by rfl)(f:cq X.env.scope x:=by first|exact Or.inl rfl|exact Or.inr (Or.inl rfl) |exact Or.inr (Or.inr rfl))(hd:(x==("__debug__":Str))=g8:=by decide) (a:(x==("__classdict__":Str))=g8:=by decide)
  (g:v7 (.Name x p1) U5 X.env (eval (.Name x p1) X.env)=eval (.Name x p1) X.env:=by rfl):PD X B (.Attribute (.Name x p1) U5 pos) (rW i j):=.mk λξ=>
 (tU (X:=rz X ξ) (A3 (X:=rz X ξ) (i:=i) (pos:=p1) hN f hd a) g).imp λσ H Q t=>by
  obtain⟨G,ρ,R,r,e,p⟩:=t;unfold rW at e;split at e
  ·rename_i h;cases e;obtain⟨l,fds,q,dx,fs,t,d,u,v,m,n,w,o,s,y,z⟩:=vn c R h;exact⟨_,m,q,C,dx,fs,_,rfl,n,O.cls,O.no k U5 b,o,p _ G H (j5.refl _) R s⟩
  ·cases e
end
theorem _root_.L2.Inv.ghost(v:Option V)(I:Inv X pins σ H s)(c:X.N[j]?=g7 g)(d:¬cq X.env.scope g):Inv X pins (σ.set j v) H s:=by
 obtain⟨m,e,h⟩:=I.loc;refine⟨I.ok,I.os,I.bare,I.base,⟨m,e,λi x u hx b a=>h i x u hx ?_ a⟩,I.cell,I.free,I.freeC,I.pin,I.hok,by rw[List.length_set];exact I.len⟩;by_cases z:j=i
 ·subst z;rw[c]at hx;cases hx;exact absurd a d
 ·rw[List.getElem?_set_ne z]at b;exact b
section
variable {X:Cx}{j:Nat}{g:Str}
theorem rG {st:Stmt}{t:TS}(h:PS X st t)(b:X.N[j]?=g7 g)(c:¬cq X.env.scope g):PS X st (λD σ H=>t {D with nx:=λa H'=>∃v,D.nx (a.set j v) H'} σ H):=λpins s σ H D I q=>
 wpAny_mono (h pins s σ H _ I q) (λd i z=>by
  cases d with
  |next=>obtain⟨a,H',f,v,q⟩:=z;exact⟨a.set j v,H',f.ghost v b c,q⟩
  |brk=>exact z
  |cont=>exact z
  |ret u=>exact z) λe s z=>z
end
section
variable {B:Bs}{G H:Hp}{σ:St}{ρ:l9}
theorem RS.EU {i j:Nat}{C t:Addr}{d:D}(R:RS B G H σ ρ)(w:B.O=g7 (i,j,C))(I:B.L j=g9)(f:j<ρ.length)(h:L4 B G H σ ρ (.ref t) (.own d))
  (hl:∀l fds p dx fs,ρ[i]?=g7 (g7 (.ob l fds))→σ[i]?=g7 (g7 (.ref p))→H p=g7 (.ins C dx fs)→∀v,fs.lookup U5=g7 v→v=.ref t):RS B G H (σ.set j (g7 (.ref t))) (ρ.set j (g7 (.ow h7 d))):=by
 obtain⟨p,e,g,x,o,ne⟩:=h;cases e;have hs:j<σ.length:=by rw[R.len];exact f
 have y:B.gh j=h7:=by unfold Bs.gh;rw[w];simp
 refine⟨R.hk,R.keep,R.g0,R.gH,R.gnew,R.dom,by simp[R.len],λk q c=>?_,λk l q c=>?_,λk m l q A E J a b=>?_,R.fz.ro (by intro _ h;cases h),λk l fds c=>?_,λk fds c=>?_⟩
 ·by_cases z:j=k
  ·subst z;rw[List.getElem?_set_self f]at c;cases c
  ·rw[List.getElem?_set_ne z]at c⊢;exact R.sh k q c
 ·by_cases z:j=k
  ·subst z;rw[List.getElem?_set_self f]at c;cases c;refine⟨t,by rw[List.getElem?_set_self hs],g,?_,.inr ⟨y,I,x⟩,o⟩;cases N:B.HK t with
   |none=>rfl
   |some ob=>rw[R.hk t ob N]at x;cases x
  ·rw[List.getElem?_set_ne z]at c⊢;exact R.ow k l q c
 ·by_cases z:j=k
  ·by_cases u:j=m
   ·intro _ _;omega
   ·subst z;rw[List.getElem?_set_self hs,List.getElem?_set_ne u];rw[List.getElem?_set_ne u]at b;intro r s;cases r;exact absurd s (ne m A E b)
  ·by_cases u:j=m
   ·subst u;rw[List.getElem?_set_self hs,List.getElem?_set_ne z];rw[List.getElem?_set_ne z]at a;intro r s;cases s;exact absurd r (ne k l q a)
   ·rw[List.getElem?_set_ne z]at a⊢;rw[List.getElem?_set_ne u]at b⊢;exact R.inj k m l q A E J a b
 ·by_cases z:j=k
  ·subst z;rw[List.getElem?_set_self f]at c;cases c
  ·rw[List.getElem?_set_ne z]at c⊢;obtain⟨Y,Z,p,dx,fs,r,s,P,Q,S,F,T,a8⟩:=R.ob.1 k l fds c;rw[w]at r;cases r;refine⟨j,C,p,dx,fs,w,s,P,Q,S,F,T,λv U q X=>?_⟩;rw[List.getElem?_set_self hs,hl l fds p dx fs c s F v U]
 ·rcases U6 c with⟨_,z⟩ | ⟨n,z⟩
  ·cases z
  ·rw[List.getElem?_set_ne n];exact R.ob.2 k fds z
end
noncomputable def tabS (i j:Nat)(a:M W):SM:=C9 a λw ρ=>match w,ρ[i]? with
 |.own (.dct es),g7 (g7 (.ob l fds))=>cf (j<ρ.length∧i≠j∧fds.length<1000∧ρ[j]?.join.isNone=h7) (g7 (.nx ((ρ.set i (g7 (.ob l (rE U5 .z5 fds)))).set j (g7 (.ow h7 (.dct es))))))
 |_,_=>g9
section
variable {X:Cx}{B:Bs}{x g:Str}{i j:Nat}{C:Addr}{fns:List Str}{e:Expr}{me:M W}{p1 p2 pos:Pos}
theorem Ja (i j:Nat)(O:fQ X.K C fns)(k:Nat)(Z:PD X B e me)(hL:B.L j=g9)(hg:¬cq X.env.scope g)(hj:X.N[j]?=g7 g:=by rfl)(hf:fns[k]?=g7 U5:=by rfl)(f:B.O=g7 (i,j,C):=by rfl)(hN:X.N[i]?=g7 x:=by rfl)(b:cq X.env.scope x:=by first|exact Or.inl rfl|exact Or.inr (Or.inl rfl) |exact Or.inr (Or.inr rfl))(hd:(x==("__debug__":Str))=g8:=by decide) (m:(x==("__classdict__":Str))=g8:=by decide)
  (hs:B4 e (g7 (.Attribute (.Name x p1) U5 p2)) pos.line X.env=pure g8:=by rfl):oX X B (.Assign [.Attribute (.Name x p1) U5 p2] e pos) (tabS i j me):=.mk λξ=>
 (rG (j:=j) (g:=g) (zI (X:=rz X ξ) (A3 (X:=rz X ξ) (i:=i) (pos:=p1) hN b hd m) (Z.ap ξ) hs) hj hg).imp λDn σ H t=>by
  obtain⟨G,ρ,R,t⟩:=t;refine(SD.step (O2:=C4) R t).mono λy H1 ⟨E,a,w,s1,F,q1,r,e,p⟩=>?_;dsimp only at e;split at e
  ·rename_i es l fds hi;obtain⟨⟨z1,z2,z3,I⟩,e⟩:=t6 e;cases e;obtain⟨j',C',q,dx,fs,J,s,a3,a4,a5,u,P,a8⟩:=F.ob.1 i l fds hi;rw[f]at J;cases J;obtain⟨t,rfl,g1,g2,o,ne⟩:=q1;have nj:∀d,a[j]?≠g7 (g7 (.ow h7 d)):=λd h=>by rw[h]at I;cases I
   have R2:=F.vi (HW:=bO U5 (.ref t) fs) (tw:=rE U5 .z5 fds) f hi s u (O0.put (λn=>absurd rfl n) P) λv _ d hd=>absurd hd (nj d);have ho:C6 B.K E (upd H1 q (.ins C dx (bO U5 (.ref t) fs))) t (.dct es):=o.same (j5.refl _) (i9 (aN o u).symm);have R3:=R2.EU (d:=.dct es) f hL (by simpa using z1) ⟨t,rfl,g1,g2,ho,λk Q e2 c z=>?_⟩ λQ S p2 a0 a9 b1 T U v b=>?_
   ·refine⟨_,s,q,C,dx,fs,rfl,u,O.cls,O.no k U5 hf,by rw[O0.len P];exact z3,g7 (.ref t),p _ E _ (j5.refl _) R3⟩
   ·have A:i<a.length:=(List.getElem?_eq_some_iff.mp hi).1;by_cases Y:i=k
    ·subst Y;rw[List.getElem?_set_self A]at c;cases c
    ·rw[List.getElem?_set_ne Y]at c;exact ne k Q e2 c z
   ·rw[s]at T;cases T;rw[l5]at U;cases U;rw[cc,if_pos rfl]at b;exact(Option.some.inj b).symm
  ·cases e
end
inductive MR where
 |ret (d:D) (fds:List (Str×D)) (es:List (Key×D))
structure qS (K:PySem.W.Frag) (C:Addr) (G H:Hp) (p t:Addr) (G' H':Hp) (fds:List (Str×D)) (es:List (Key×D)):Prop where
 keep:j5 (minus H [p,t]) H'
 gg:j5 G G'
 gH:j5 G' H'
 gnew:∀q o,G' q=some o→G q=some o∨H q=none
 dom:∀q,H' q=none→H q=none
 ob:∃dx fs,H' p=some (.ins C dx fs)∧O0 K G' fs fds∧fs.lookup U5=some (.ref t)
 gp:G' p=none
 gt:G' t=none
 tb:C6 K G' H' t (.dct es)
noncomputable def bh (n:Nat)(fds:List (Str×D))(ds:List D):l9:=(g7 (.ob h7 fds)::ds.map λd=>g7 (C.sh d))++List.replicate (n-(ds.length+1)) g9
noncomputable def startM (n j:Nat)(fds:List (Str×D))(es:List (Key×D))(ds:List D):l9:=(bh n fds ds).set j (g7 (.ow h7 (.dct es)))
noncomputable def JB (j:Nat)(d:D)(ρ:l9):Option MR:=match(ρ[0]?:Option (Option C)),(ρ[j]?:Option (Option C))with
 |some (g7 (.ob h7 fds)),g7 (g7 (.ow h7 (.dct es)))=>if(fds.lookup U5).isSome=h7 then g7 (.ret d fds es)else g9
 |_,_=>g9
theorem G7(h:(bh n fds ds)[i]?=g7 (g7 c)):(i=0∧c=.ob h7 fds)∨∃k d,i=k+1∧ds[k]?=g7 d∧c=.sh d:=by
 unfold bh at h;by_cases hi:i<(g7 (C.ob h7 fds)::ds.map λd=>g7 (C.sh d)).length
 ·rw[List.getElem?_append_left hi]at h;cases i with
  |zero=>cases h;exact .inl ⟨rfl,rfl⟩
  |succ k=>
   rw[List.getElem?_cons_succ,List.getElem?_map]at h;cases e:ds[k]? with
   |none=>rw[e]at h;cases h
   |some d=>rw[e]at h;cases h;exact .inr ⟨k,d,rfl,e,rfl⟩
 ·rw[List.getElem?_append_right (by omega),List.getElem?_replicate]at h;split at h<;>cases h
theorem kY{ds:List D}(h:ds.length+1≤n):(bh n fds ds).length=n:=by
 unfold bh;simp;omega
theorem hC {N:List Str}{vs:List V}(h:vs.length≤N.length):(start N vs).length=N.length:=by
 unfold L2.start;rw[List.length_append,List.length_map,List.length_replicate];omega
section
variable {K:PySem.W.Frag}{G H:Hp}{N:List Str}{C p t dx:Addr}{F3:List V}{fs:List (Str×V)}{fds:List (Str×D)}{es:List (Key×D)}{ds:List D}{j:Nat}
theorem oh(hk:j5 HK H)(h:HK p=g9)(t:L 0=g7 p)(g:j5 G H)(gp:G p=g9)(u:H p=g7 (.ins C dx fs))(w:O0 K G fs fds)(m:v5 K G F3 ds)(n:ds.length+1≤N.length)(x:ds.length<j):
  RS ⟨K,H,HK,G,L,g7 (0,j,C)⟩ G H (start N (.ref p::F3)) (bh N.length fds ds):=by
 refine⟨hk,hk,j5.refl _,g,λq o e=>.inl e,λq e=>e,?_,λi d e=>?_,λi l d e=>?_,λi k l d y e A a b=>?_,λi es e=>?_,λi l f e=>?_,λi f e=>?_⟩
 ·rw[kY n,hC (by rw[List.length_cons,m.len];exact n)]
 ·rcases G7 e with⟨_,z⟩ | ⟨k,c,rfl,hd,z⟩
  ·cases z
  ·cases z;obtain⟨v,s,r⟩:=m.at hd;exact⟨v,V3 (by rw[List.getElem?_cons_succ];exact s),r⟩
 ·rcases G7 e with⟨_,z⟩ | ⟨k,c,_,_,z⟩<;>cases z
 ·rcases G7 a with⟨_,z⟩ | ⟨k,c,_,_,z⟩<;>cases z
 ·rcases G7 e with⟨_,z⟩ | ⟨k,c,_,_,z⟩<;>cases z
 ·rcases G7 e with⟨rfl,z⟩ | ⟨k,c,_,_,z⟩<;>cases z;refine⟨j,C,p,dx,fs,rfl,V3 rfl,gp,h,⟨λ_=>t,λz=>by cases z⟩,u,w,λv s d hd=>?_⟩;rcases G7 hd with⟨_,z⟩ | ⟨k,c,_,_,z⟩<;>cases z
 ·rcases G7 e with⟨_,z⟩ | ⟨k,c,_,_,z⟩<;>cases z
theorem xm (g:j5 G H)(gp:G p=g9)(gt:G t=g9)(r:H p=g7 (.ins C dx fs))(s:O0 K G fs fds)(lk:fs.lookup U5=g7 (.ref t))(tb:C6 K G H t (.dct es))(u:v5 K G F3 ds)(B:j<N.length)(y:ds.length<j):
  RS ⟨K,H,minus H [p,t],G,λi=>if i=0 then g7 p else if i=j then g7 t else g9,g7 (0,j,C)⟩ G H ((start N (.ref p::F3)).set j (g7 (.ref t))) (startM N.length j fds es ds):=by
 have R:=oh (N:=N) (F3:=F3) (L:=λi=>if i=0 then g7 p else if i=j then g7 t else g9) (O6 H [p,t]) (bt (by simp)) rfl g gp r s u (by omega) y;have hl:(bh N.length fds ds).length=N.length:=kY (by omega);have hs:(start N (.ref p::F3)).length=N.length:=hC (by rw[List.length_cons,u.len];omega);have o:j≠0:=by omega
 have now:∀{k:Nat} {l:Bool} {d:D},(bh N.length fds ds)[k]?≠g7 (g7 (.ow l d)):=λ{k l d} e=>by rcases G7 e with⟨_,z⟩ | ⟨_,_,_,_,z⟩<;>cases z
 unfold startM;refine⟨R.hk,R.keep,R.g0,R.gH,R.gnew,R.dom,by simp[R.len],λk q c=>?_,λk l q c=>?_,λk m l q E F I a b=>?_,R.fz.ro (by intro _ h;cases h),λk l f c=>?_,λk f c=>?_⟩
 ·by_cases z:j=k
  ·subst z;rw[List.getElem?_set_self (by omega)]at c;cases c
  ·rw[List.getElem?_set_ne z]at c⊢;exact R.sh k q c
 ·by_cases z:j=k
  ·subst z;rw[List.getElem?_set_self (by omega)]at c;cases c;refine⟨t,by rw[List.getElem?_set_self (by omega)],gt,bt (by simp),.inl ?_,tb⟩;show(if j=0 then g7 p else if j=j then g7 t else g9)=g7 t;rw[if_neg o,if_pos rfl]
  ·rw[List.getElem?_set_ne z]at c;exact absurd c now
 ·by_cases z:j=k
  ·by_cases A:j=m
   ·intro _ _;omega
   ·rw[List.getElem?_set_ne A]at b;exact absurd b now
  ·rw[List.getElem?_set_ne z]at a;exact absurd a now
 ·by_cases z:j=k
  ·subst z;rw[List.getElem?_set_self (by omega)]at c;cases c
  ·rw[List.getElem?_set_ne z]at c⊢;rcases G7 c with⟨rfl,w⟩ | ⟨_,_,_,_,w⟩<;>cases w
   refine⟨j,C,p,dx,fs,rfl,V3 rfl,gp,bt (by simp),⟨λ_=>rfl,λz=>by cases z⟩,r,s,λv x d hd=>?_⟩;rw[lk]at x;cases x;rw[List.getElem?_set_self (by omega)]
 ·rcases U6 c with⟨_,z⟩ | ⟨n,z⟩
  ·cases z
  ·rcases G7 z with⟨_,z⟩ | ⟨_,_,_,_,z⟩<;>cases z
end
noncomputable def Lo (i:Nat)(f:Str)(ρ:l9):Option D:=match ρ[i]? with
 |some (g7 (.rd fds))=>if f=U5 then g9 else fds.lookup f
 |_=>g9
noncomputable def Ju (i:Nat)(f:Str):M W:=λρ=>(Lo i f ρ).map λd=>.ok (.val d) ρ
section
variable {X:Cx}{B:Bs}{x f:Str}{i:Nat}{C:Addr}{fns:List Str}{p1 pos:Pos}
theorem LO (i:Nat)(O:fQ X.K C fns)(k:Nat)(j:fns[k]?=g7 f:=by rfl)(l:B.O=g7 (g,h,C):=by rfl)(hN:X.N[i]?=g7 x:=by rfl)(a:cq X.env.scope x:=by first|exact Or.inl rfl|exact Or.inr (Or.inl rfl) |exact Or.inr (Or.inr rfl))(hd:(x==("__debug__":Str))=g8:=by decide) (b:(x==("__classdict__":Str))=g8:=by decide)
  (m:v7 (.Name x p1) f X.env (eval (.Name x p1) X.env)=eval (.Name x p1) X.env:=by rfl):PD X B (.Attribute (.Name x p1) f pos) (Ju i f):=.mk λξ=>
 (tU (X:=rz X ξ) (A3 (X:=rz X ξ) (i:=i) (pos:=p1) hN a hd b) m).imp λσ H Q t=>by
  obtain⟨G,ρ,R,r,e,p⟩:=t;obtain⟨d,hd,rfl⟩:=Option.map_eq_some_iff.mp e;unfold Lo at hd;split at hd
  ·rename_i fds hi;split at hd
   ·cases hd
   ·rename_i n;obtain⟨w,y,z,q,dx,fs,c,o,s,u⟩:=R.ob.2 i fds hi;rw[l]at c;cases c;obtain⟨v,a,r⟩:=O0.look u hd;exact⟨_,o,q,C,dx,fs,v,rfl,R.keep _ _ s,O.cls,O.no k f j,a,p v G H (j5.refl _) R (r n)⟩
  ·cases hd
end
section
variable {B:Bs}{G H G' H':Hp}{σ:St}{ρ:l9}
theorem RS.BZ {i j:Nat}{C p t dx:Addr}{l:Bool}{fs:List (Str×V)}{fds a:List (Str×D)}{f:List (Key×D)}{d:D}(R:RS B G H σ ρ)(hO:B.O=g7 (i,j,C))(hi:ρ[i]?=g7 (g7 (.ob l fds)))(I:ρ[j]?=g7 (g7 (.ow h7 d)))(hs:σ[i]?=g7 (g7 (.ref p)))(hp:H p=g7 (.ins C dx fs))(Q:σ[j]?=g7 (g7 (.ref t)))
  (A:qS B.K C G H p t G' H' a f):RS B G' H' σ ((ρ.set i (g7 (.ob l a))).set j (g7 (.ow h7 (.dct f)))):=by
 obtain⟨j',C',p',b6,J,a1,a2,a3,a4,a5,a6,a7,a8⟩:=R.ob.1 i l fds hi;rw[hs]at a2;cases a2;obtain⟨t',b1,b2,b3,b4,b5⟩:=R.ow j h7 d I;rw[Q]at b1;cases b1;have b7:i<ρ.length:=(List.getElem?_eq_some_iff.mp hi).1;have b8:j<ρ.length:=(List.getElem?_eq_some_iff.mp I).1;have b9:i≠j:=λz=>by rw[z,I]at hi;cases hi
 have n:∀b o,H b=g7 o→b≠p→b≠t→H' b=g7 o:=λb o e S L=>A.keep b o (by rw[P9 (by simp[S,L])];exact e);have N:∀b o,H b=g7 o→G b=g9→G' b=g9:=λb o e g=>by
  cases q:G' b with
  |none=>rfl
  |some u=>
   rcases A.gnew b u q with z|z
   ·rw[g]at z;cases z
   ·rw[e]at z;cases z
 have at':∀{k:Nat} {c:L3.C},((ρ.set i (g7 (.ob l a))).set j (g7 (.ow h7 (.dct f))))[k]?=g7 (g7 c)→(k=j∧c=.ow h7 (.dct f))∨(k≠j∧k=i∧c=.ob l a)∨(k≠j∧k≠i∧ρ[k]?=g7 (g7 c)):=λ{k c} e=>by
  rcases U6 e with⟨z,T⟩ | ⟨z,T⟩
  ·cases T;exact .inl ⟨z.symm,rfl⟩
  ·rcases U6 T with⟨U,P⟩ | ⟨U,P⟩
   ·cases P;exact .inr (.inl ⟨o1 z,U.symm,rfl⟩)
   ·exact .inr (.inr ⟨o1 z,o1 U,P⟩)
 refine⟨R.hk,λb u q=>n b u (R.keep b u q) (t8 q a4) (t8 q b3),R.g0.trans A.gg,A.gH,λb u q=>?_,λb q=>R.dom b (A.dom b q),by simp[R.len],λk e q=>?_,λk s e q=>?_,λk m la da lb db p' x y hx hy=>?_,(R.fz.same A.gg).hJ (by intro _ h;cases h) |>.hJ (by intro _ h;cases h),?_,?_⟩
 ·rcases A.gnew b u q with z|z
  ·exact R.gnew b u z
  ·exact .inr (R.dom b z)
 ·rcases at' q with⟨_,z⟩ | ⟨_,_,z⟩ | ⟨_,_,z⟩
  ·cases z
  ·cases z
  ·obtain⟨v,h1,h2⟩:=R.sh k e z;exact⟨v,h1,h2.same A.gg⟩
 ·rcases at' q with⟨E,z⟩ | ⟨_,_,z⟩ | ⟨S,L,z⟩
  ·cases z;subst E;exact⟨t,Q,A.gt,b3,b4,A.tb⟩
  ·cases z
  ·obtain⟨F,w,X,Y,Z,c5⟩:=R.ow k s e z;obtain⟨o,ho⟩:=c5.some;have e1:F≠p:=(aN c5 a6).symm;have P:F≠t:=λzz=>S (R.inj k j s e h7 d F z I w (by rw[Q,zz]));exact⟨F,w,N F o ho X,Y,Z,c5.same A.gg ((n F o ho e1 P).trans ho.symm)⟩
 ·have old:∀{k:Nat} {s:Bool} {e:D},((ρ.set i (g7 (.ob l a))).set j (g7 (.ow h7 (.dct f))))[k]?=g7 (g7 (.ow s e))→∃s e,ρ[k]?=g7 (g7 (.ow s e)):=λ{k s e} h=>by
   rcases at' h with⟨E,_⟩ | ⟨_,_,z⟩ | ⟨_,_,z⟩
   ·rw[E];exact⟨_,_,I⟩
   ·cases z
   ·exact⟨_,_,z⟩
  obtain⟨_,_,x'⟩:=old x;obtain⟨_,_,y'⟩:=old y;exact R.inj k m _ _ _ _ p' x' y' hx hy
 ·intro k s r q;rcases at' q with⟨_,z⟩ | ⟨_,E,z⟩ | ⟨_,L,z⟩
  ·cases z
  ·cases z;subst E;obtain⟨a0,a9,d1,d2,d3⟩:=A.ob;refine⟨j,C,p,a0,a9,hO,hs,A.gp,a4,a5,d1,d2,λv hv _ _=>?_⟩;rw[d3]at hv;cases hv;exact Q
  ·obtain⟨_,_,_,_,_,w,_⟩:=R.ob.1 k s r z;rw[hO]at w;cases w;exact absurd rfl L
 ·intro k r q;rcases at' q with⟨_,z⟩ | ⟨_,E,z⟩ | ⟨_,L,z⟩
  ·cases z
  ·cases z
  ·obtain⟨i0,j0,C0,p0,b0,J,w,X,Y,Z⟩:=R.ob.2 k r z;exact⟨i0,j0,C0,p0,b0,J,w,X,Y,Z.same A.gg⟩
end
noncomputable def BM (i:Nat)(m:Str):M Unit:=λρ=>match ρ[i]? with
 |some (g7 (.ob _ fds))=>if(fds.lookup m).isNone=h7 then g7 (.ok () ρ)else g9
 |_=>g9
noncomputable abbrev Made:=List (Str×D)×List (Key×D)
structure Ci (K:PySem.W.Frag) (C:Addr) (G H:Hp) (p t:Addr) (G' H':Hp) (fds:List (Str×D)) (es:List (Key×D)):Prop where
 keep:j5 (minus H [p]) H'
 gg:j5 G G'
 gH:j5 G' H'
 gnew:∀q o,G' q=some o→G q=some o∨H q=none
 dom:∀q,H' q=none→H q=none
 ob:∃dx fs,H' p=some (.ins C dx fs)∧O0 K G' fs fds∧fs.lookup U5=some (.ref t)
 gp:G' p=none
 gt:G' t=none
 new:H t=none
 tb:C6 K G' H' t (.dct es)
noncomputable def Fs (K:PySem.W.Frag)(C:Addr)(b:Nat)(c:List D→Option Made):Sp:=λvs H Q E=>∃G p a dx ds r,vs=.ref p::a∧ds.length+1=b∧j5 G H∧G p=g9∧H p=g7 (.ins C dx [])∧v5 K G a ds∧c ds=g7 r∧∀G' H' t,Ci K C G H p t G' H' r.1 r.2→Q .z5 H'
theorem Fs.imp {K:PySem.W.Frag}{C:Addr}{b:Nat}{c a:List D→Option Made}(h:∀ds r,c ds=g7 r→a ds=g7 r):∀vs H Q E,Fs K C b c vs H Q E→Fs K C b a vs H Q E:=by
 rintro vs H Q E ⟨G,p,F3,dx,ds,r,a1,a2,a3,a4,a5,a6,a7,a8⟩
 exact⟨G,p,F3,dx,ds,r,a1,a2,a3,a4,a5,a6,h _ _ a7,a8⟩
noncomputable def outI (j:Nat):SR→Option Made
 |.nx ρ=>match JB j .z5 ρ with
  |some (.ret _ fds es)=>g7 (fds,es)
  |none=>g9
 |_=>g9
noncomputable def xl (m:SM)(n j:Nat)(ds:List D):Option Made:=(m (bh n [] ds)).bind (outI j)
section
variable {P:Program}{w:World}{K:PySem.W.Frag}{mg:Str→Option Value}{base:Heap}
theorem Jz {x qual g:Str}{st:Stmt}{f C:Addr}{fd:FuncData}{N ps:List Str}{k:Nat}(j:Nat){m:SM}(F:az K x qual st f fd)(S:n4 N ps (i7 st))(hj:N[j]?=g7 g)(hg:¬cq (i7 st) g)(a0:ps.length≤j)(a1:0<ps.length)
  (c:∀(cdv:Value) (A:Around) (outer:List Env) (s:Shared) (H:Hp) (E:XK) (H0 HK G0:Hp) (L:Nat→Option Addr),L j=g9→K4 k (A.deeper (Z2 qual (i7 st) s.heap.objs.size f cdv))→
   jw (X5 V1 P w K mg base N qual (i7 st) f cdv A outer s H E) ⟨K,H0,HK,G0,L,g7 (0,j,C)⟩ (C5 st) m):x8 P w K mg base V1 (k+1) f fd ps (Fs K C ps.length (xl m N.length j)):=by
 have a9:j<N.length:=(List.getElem?_eq_some_iff.mp hj).1;have l:j≠0:=by omega
 refine F.ok S (λvs H Q E h=>?_) (λcdv A outer s H vs Q E hr h=>?_)
 ·obtain⟨G,p,n,dx,ds,r,rfl,T,U,X,Y,y,a7,a8⟩:=h;rw[List.length_cons,y.len,T]
 obtain⟨G,p,n,dx,ds,r,rfl,T,U,X,Y,y,o,q⟩:=h;have hL:(λi:Nat=>if i=0 then g7 p else g9) j=g9:=if_neg l;refine⟨_,((c cdv A outer s H E H (minus H [p]) G (λi=>if i=0 then g7 p else g9) hL hr).ap λ_ _ _=>False).be (λe s z=>?_),?_⟩
 ·obtain⟨_,_,_,_,_,_,z⟩:=z;exact z
 have R0:=oh (N:=N) (C:=C) (j:=j) (L:=λi=>if i=0 then g7 p else g9) (fs:=[]) (fds:=[]) (O6 H [p]) (bt (by simp)) rfl U X Y .nil y (by omega) (by omega);unfold xl at o;cases hs:m (bh N.length [] ds)with
 |none=>rw[hs]at o;cases o
 |some B=>
  rw[hs]at o;have a:outI j B=g7 r:=o;refine⟨G,_,R0,B,hs,?_⟩;cases B with
  |nx b=>
   refine λb0 G' H' s' R'=>?_;unfold outI at a;dsimp only at a;split at a
   ·rename_i d0 t b9 e;cases a;unfold JB at e;split at e
    ·rename_i Z c0 h0 u;split at e
     ·rename_i d;cases e;obtain⟨dd,I⟩:=Option.isSome_iff_exists.mp d;obtain⟨j',C',p',J,O,b1,b2,b3,b4,b5,b6,b7,b8⟩:=R'.ob.1 0 h7 t h0;cases b1;have ep:g7 p=g7 p':=b5.1 rfl;cases ep;obtain⟨v,hv,_⟩:=O0.look b7 I;have ev:=b8 v hv _ u;obtain⟨R,c1,c2,c3,c4,c5⟩:=R'.ow j h7 _ u;rw[ev]at c1;cases c1;have hn:H R=g9:=by
       rcases c4 with z| ⟨_,_,z⟩
       ·have z':(if j=0 then g7 p else g9)=g7 R:=z;rw[if_neg l]at z';cases z'
       ·exact z
      exact q G' H' R ⟨R'.keep,R'.g0,R'.gH,R'.gnew,R'.dom,⟨J,O,b6,b7,hv⟩,b3,c2,hn,c5⟩
     ·cases e
    ·cases e
   ·cases a
  |rt w' b=>cases a
  |ex x b=>cases a
  |bk b=>cases a
  |ct b=>cases a
end
def EF (P:Program)(w:World)(K:PySem.W.Frag)(mg:Str→Option Value)(base:Heap)(k:Nat)(C:Addr)(ps:List Str)(sp:Sp):Prop:=
 ∃(f:Addr) (fd:FuncData),x8 P w K mg base V1 k f fd ps sp∧Binds K fd ps []∧Mk K C f
section
variable {B:Bs}{G H G' H':Hp}{σ:St}{ρ:l9}
theorem RS.grow (R:RS B G H σ ρ)(s:j5 H H')(gg:j5 G G')(gH:j5 G' H')(gnew:∀q o,G' q=g7 o→G q=g7 o∨H q=g9)(dom:∀q,H' q=g9→H q=g9):RS B G' H' σ ρ:=by
 have a:∀b o,H b=g7 o→G b=g9→G' b=g9:=λb o e g=>by
  cases q:G' b with
  |none=>rfl
  |some u=>
   rcases gnew b u q with z|z
   ·rw[g]at z;cases z
   ·rw[e]at z;cases z
 refine⟨R.hk,R.keep.trans s,R.g0.trans gg,gH,λb u q=>?_,λb q=>R.dom b (dom b q),R.len,λk e q=>?_,λk l e q=>?_,R.inj,R.fz.same gg,R.ob.gh gg (λp C dx fs e g=>a p _ e g) λp C dx fs e _ _=>s p _ e⟩
 ·rcases gnew b u q with z|z
  ·exact R.gnew b u z
  ·exact .inr (R.dom b z)
 ·obtain⟨v,f,h⟩:=R.sh k e q;exact⟨v,f,h.same gg⟩
 ·obtain⟨p,i,j,m,n,d⟩:=R.ow k l e q;obtain⟨o,c⟩:=d.some;exact⟨p,i,a p o c j,m,n,d.same gg ((s p o c).trans c.symm)⟩
theorem RS.IZ {i j:Nat}{C p dx:Addr}{fs:List (Str×V)}{fds:List (Str×D)}(R:RS B G H σ ρ)(r:B.O=g7 (i,j,C))(hi:i<ρ.length)(t:i≠j)(u:∀c,ρ[j]?≠g7 (g7 c))(g:G p=g9)(o:B.H0 p=g9)(w:H p=g7 (.ins C dx fs))(A:O0 B.K G fs fds):
  RS B G H (σ.set i (g7 (.ref p))) (ρ.set i (g7 (.ob g8 fds))):=by
 have hs:i<σ.length:=by rw[R.len];exact hi
 have ne:∀{k:Nat} {l:Bool} {d:D},(ρ.set i (g7 (.ob g8 fds)))[k]?=g7 (g7 (.ow l d))→i≠k∧ρ[k]?=g7 (g7 (.ow l d)):=λ{k l d} e=>by
  rcases U6 e with⟨_,z⟩ |z
  ·cases z
  ·exact z
 refine⟨R.hk,R.keep,R.g0,R.gH,R.gnew,R.dom,by simp[R.len],λk d q=>?_,λk l d q=>?_,λk m l d E F I a b x y=>?_,R.fz.ro (by intro _ h;cases h),λk l f q=>?_,λk f q=>?_⟩
 ·rcases U6 q with⟨_,z⟩ | ⟨n,z⟩
  ·cases z
  ·rw[List.getElem?_set_ne n];exact R.sh k d z
 ·obtain⟨n,z⟩:=ne q;rw[List.getElem?_set_ne n];exact R.ow k l d z
 ·obtain⟨J,L⟩:=ne a;obtain⟨N,P⟩:=ne b;rw[List.getElem?_set_ne J]at x;rw[List.getElem?_set_ne N]at y;exact R.inj k m l d E F I L P x y
 ·rcases U6 q with⟨rfl,z⟩ | ⟨n,z⟩
  ·cases z;refine⟨j,C,p,dx,fs,r,by rw[List.getElem?_set_self hs],g,?_,⟨λz=>(by cases z),λ_=>o⟩,w,A,λv S d hd=>?_⟩
   ·cases Q:B.HK p with
    |none=>rfl
    |some ob=>rw[R.hk p ob Q]at o;cases o
   ·obtain⟨_,z⟩:=ne hd;exact absurd z (u _)
  ·obtain⟨_,_,_,_,_,s,_⟩:=R.ob.1 k l f z;rw[r]at s;cases s;exact absurd rfl n
 ·rcases U6 q with⟨_,z⟩ | ⟨n,z⟩
  ·cases z
  ·rw[List.getElem?_set_ne n];exact R.ob.2 k f z
theorem RS.made {i j:Nat}{C p t dx:Addr}{fds:List (Str×D)}{es:List (Key×D)}(R:RS B G H σ ρ)(y:B.O=g7 (i,j,C))(T:B.L j=g9)(hi:i<ρ.length)(a:j<ρ.length)(f:i≠j)(m:H p=g9)(g:H dx=g9)(U:dx≠p)
  (A:Ci B.K C G (upd (upd H dx (.own p)) p (.ins C dx [])) p t G' H' fds es):RS B G' H' ((σ.set i (g7 (.ref p))).set j (g7 (.ref t))) ((ρ.set i (g7 (.ob g8 fds))).set j (g7 (.ow h7 (.dct es)))):=by
 have X:j5 H H':=λb o e=>A.keep b o (by
  rw[P9 (by simp;exact t8 e m),i9 (t8 e m),i9 (t8 e g)];exact e)
 have r:∀q,(upd (upd H dx (.own p)) p (.ins C dx [])) q=g9→H q=g9:=λq e=>by
  by_cases z:q=p
  ·subst z;exact m
  ·rw[i9 z]at e;by_cases E:q=dx
   ·subst E;exact g
   ·rw[i9 E]at e;exact e
 have Y:RS B G' H' σ ρ:=R.grow X A.gg A.gH (λq o e=>(A.gnew q o e).imp id (r q)) λq e=>r q (A.dom q e);have R2:=Y.forget (i:=j);obtain⟨Z,fs,s,b2,b3⟩:=A.ob;have u:∀c,(ρ.set j g9)[j]?≠g7 (g7 c):=λc e=>by rw[List.getElem?_set_self a]at e;cases e
 have R3:=R2.IZ (p:=p) (fds:=fds) y (by simpa using hi) f u A.gp (R.dom p m) s b2;have tp:t≠p:=(aN A.tb s).symm;have h:H t=g9:=r t A.new;have F:=R3.EU (t:=t) (d:=.dct es) y T (by simpa using a) ⟨t,rfl,A.gt,R.dom t h,A.tb,λk l e he z=>?_⟩ λl2 I p2 a0 a1 c1 J N v P=>?_
 ·have e1:((ρ.set j g9).set i (g7 (L3.C.ob g8 fds))).set j (g7 (.ow h7 (.dct es)))=(ρ.set i (g7 (L3.C.ob g8 fds))).set j (g7 (.ow h7 (.dct es))):=by
   rw[List.set_comm (l:=ρ) _ _ (o1 f),List.set_set]
  rw[e1]at F;exact F
 ·rcases U6 he with⟨_,w⟩ | ⟨n,w⟩
  ·cases w
  ·rw[List.getElem?_set_ne n]at z;rcases U6 w with⟨_,x⟩ | ⟨n1,x⟩
   ·cases x
   ·obtain⟨q0,Q,d2,d3,d4,d5⟩:=R.ow k l e x;obtain⟨o,S⟩:=d5.some;rw[z]at Q;cases Q;rw[h]at S;cases S
 ·rw[List.getElem?_set_self (by rw[R.len];exact hi)]at J;cases J;rw[s]at N;cases N;rw[b3]at P;exact(Option.some.inj P).symm
end
noncomputable def rV (i j a:Nat)(b:List D→Option Made)(c:M (List W)):SM:=C9 c λd=>C9 (Z9 d) λds ρ=>match b ds with
 |some r=>cf (i<ρ.length∧j<ρ.length∧i≠j∧ds.length+1=a) (g7 (.nx ((ρ.set i (g7 (.ob g8 r.1))).set j (g7 (.ow h7 (.dct r.2))))))
 |none=>g9
section
variable {X:Cx}{B:Bs}{k i j:Nat}{y x g:Str}{C:Addr}{fns ps:List Str}{fm:List D→Option Made}{e:Expr}{es:List Expr}{mr:M (List W)}{p py pos JZ:Pos}
theorem zn (i j:Nat)(h:EF X.prog X.w X.K X.mg X.base k C ps (Fs X.K C v fm))(E:X.mg x=g7 (.ref C))(hr:K4 (k+1) X.A)(I:iW X B (e::es) mr)(J:B.L j=g9)(l:¬cq X.env.scope g)(m:X.N.Nodup)(P:X.N[j]?=g7 g:=by rfl)(hi:X.N[i]?=g7 y:=by rfl)(Q:Loc X.env.scope y:=by first|exact Or.inl rfl|exact Or.inr rfl)(S:B.O=g7 (i,j,C):=by rfl)(T:Gl X x:=by rfl)(z:X.K=B.K:=by rfl)(n:(x==("__debug__":Str))=g8:=by decide)
  (U:i1 (e::es) X.env=(g8,eval e X.env)::i1 es X.env:=by rfl) (o:(m4 pos (i1 es X.env)).any (·.1)=g8:=by rfl) (hs:B4 (.Call (.Name x p) (e::es) [] pos) (g7 (.Name y py)) JZ.line X.env=pure g8:=by rfl) (Y:X.fn y=h7∨X.env.scope.names.lookup y=g7 .local:=by first|exact .inl rfl|exact .inr rfl):
  oX X B (.Assign [.Name y py] (.Call (.Name x p) (e::es) [] pos) JZ) (rV i j v fm mr):=.mk λξ=>by
 obtain⟨f,fd,F,b,M⟩:=h;refine(rG (j:=j) (g:=g) (pH (X:=rz X ξ) m hi Q (Do (X:=rz X ξ) M F hr T E b .nil EY (I.ap ξ) n U o) hs Y) P l).imp λDn σ H t=>?_;obtain⟨G,ρ,R,t⟩:=t;refine(SD.step (O2:=O5) R t).mono λvs H1 ⟨G1,Z,ws,s1,R1,q1,t2⟩=>?_;obtain⟨ds,a0,e2,r,a,pp⟩:=SD.quiet t2 λr h=>cT h;obtain⟨G2,s2,R2,rl⟩:=cS R1 q1 e2;dsimp only at a;split at a
 ·rename_i md s;obtain⟨⟨z1,z2,z3,z4⟩,a⟩:=t6 a;cases a;intro q dx u c d;have sN:j5 H1 (upd (upd H1 dx (.own q)) q (.ins C dx [])):=(bp c _).trans (bp (by rw[i9 (o1 d)];exact u) _);rw[List.append_nil];refine⟨G2,q,vs,dx,ds,md,rfl,z4,R2.gH.trans sN,R2.gH.free u,l5,by rw[z];exact rl,s,λG' H' t A=>⟨rfl,?_⟩⟩;rw[z]at A;exact⟨g7 (.ref t),pp _ G' H' (s2.trans A.gg) (R2.made S J z1 z2 z3 u c d A)⟩
 ·cases a
end
def mM (K:PySem.W.Frag)(C:Addr)(m qual:Str)(st:Stmt)(ps:List Str):Prop:=∃(f:Addr) (fd:FuncData),az K m qual st f fd∧(∀us:List Value,us.length=ps.length→gm fd ⟨us,[]⟩=pure (ps.zip us))∧PySem.W.findIn K (.ref C) m=g7 (g7 (.ref f))∧PySem.W.isFn K (.ref f)=h7
theorem Es {K:PySem.W.Frag}{C:Addr}{m qual:Str}{st:Stmt}{ps:List Str}{f:Addr}{od an:Option Addr}{sl:Array (Option Value)}{oc kV d pm cd ct:Value}
  (a:PySem.W.findIn K (.ref C) m=g7 (g7 (.ref f))) (l:K.lookup f=g7 ⟨oc,od,.func (PySem.W.fnOf m qual (Q5 st) (C5 st) (i7 st) .none kV d pm an cd ct),sl⟩) (c:PySem.W.codeIn K cd qual=h7) (k:PySem.W.keepIn K (.ref f)=h7) (n:PySem.W.isFn K (.ref f)=h7)
  (b:∀(kV doc pm:Value) (an:Option Addr) (cdv ct:Value) (us:List Value),us.length=ps.length→gm (PySem.W.fnOf m qual (Q5 st) (C5 st) (i7 st) .none kV doc pm an cdv ct) ⟨us,[]⟩=pure (ps.zip us)):mM K C m qual st ps:=
 ⟨f,_,uC (st:=st) l c k,λus hl=>b kV d pm an cd ct us hl,a,n⟩
theorem mM.LI {P:Program}{w:World}{K:PySem.W.Frag}{mg:Str→Option Value}{base:Heap}{k:Nat}{C:Addr}{qual:Str}{st:Stmt}{ps:List Str}{sp:Sp}(D:mM K C "__init__" qual st ps) (c:PySem.W.makesIn K C=h7) (hk:PySem.W.keepIn K (.ref C)=h7) (h:∀f fd,az K "__init__" qual st f fd→x8 P w K mg base V1 k f fd ps sp):EF P w K mg base k C ps sp:=by
 obtain⟨f,fd,F,b,a,n⟩:=D;exact⟨f,fd,h f fd F,Binds.all b,⟨c,a,n,hk⟩⟩
theorem gP {K:PySem.W.Frag}{G H:Hp}:∀{ms:List Bool} {vs:List V} {ds:List D} {ps:List Addr},W0 K G H ms vs ds ps→ms.all (!·)=h7→ps=[]∧v5 K G vs ds
 |_,_,_,_,.nil,_=>⟨rfl,.nil⟩
 |_,_,_,_,.sh h r,e=>by
  obtain⟨a,b⟩:=gP r (by simpa using e);exact⟨a,.cons h b⟩
 |_,_,_,_,.ln _ _ _ _,e=>by simp at e
theorem gK:∀{ms:List Bool} {ρ:l9} {fin:List D},bC ms ρ=g7 fin→ms.all (!·)=h7→fin=[]
 | [],_,_,e,_=>by cases e;rfl
 |false::ms,[],_,e,_=>by cases e
 |false::ms,_::ρ,_,e,h=>gK (ms:=ms) (ρ:=ρ) e (by simpa using h)
 |true::_,_,_,_,h=>by simp at h
theorem gE:∀{ms:List Bool} {ps:List Addr} {i:Nat},ms.all (!·)=h7→O8 ms ps i=g9
 | [],_,_,_=>rfl
 |false::_,_,0,_=>rfl
 |false::ms,ps,i+1,h=>gE (ms:=ms) (ps:=ps) (i:=i) (by simpa using h)
 |true::_,_,_,h=>by simp at h
section
variable {P:Program}{w:World}{K:PySem.W.Frag}{mg:Str→Option Value}{base:Heap}
theorem RS.EQ(O:Option (Nat×Nat×Addr))(R:RS ⟨K,H0,HK,G0,L,g9⟩ G H σ ρ)(a:∀(i:Nat) c,ρ[i]?=g7 (g7 c)→GZ c=g8):RS ⟨K,H0,HK,G0,L,O⟩ G H σ ρ:=by
 refine⟨R.hk,R.keep,R.g0,R.gH,R.gnew,R.dom,R.len,R.sh,λi l d q=>?_,R.inj,R.fz,λi l fds q=>?_,λi fds q=>?_⟩
 ·obtain⟨p,e,f,g,b,h⟩:=R.ow i l d q;refine⟨p,e,f,g,?_,h⟩;cases l with
  |false=>exact b
  |true=>
   rcases b with z| ⟨z,_⟩
   ·exact .inl z
   ·cases z
 ·have:=a i _ q;cases this
 ·have:=a i _ q;cases this
end
end L3
namespace PySem
open Sem (wp)
section
variable {prog:Program}{w:World}{A:Around}{E:Value→Shared→Prop}{h:Heap}{g:Array GenState}{d:Drawn}{t:Nat}{os:OsState}
variable {nm q:Str}{C N:Addr}{bs bm HX:List Value}{jx:Bool}{sn:List Str}{sub:List Value}{ab:Bool}{col:Option Bool}{dd:Option Addr}{k0 k1 k2 k3 k5:Option Value}{B bH qT:String}
theorem kS (F:ExcBaseFacts B bH qT HX)(T:OwnTail h HX bm)
  (l:h.get? C=g7 (fi nm q C N bs bm jx sn sub ab col dd k0 k1 k2 k3 k5 bH)) (y:h.Ns N mN) (hi:mN "__init__"=g7 (.ref fI))
  (n:h.get? fI=g7 u) (p:u.cls=.type "function")
  (z:∀h' e,Heap.MadeExcOf h h' e (.ref C) a→wpAny (model prog w) A (call (.ref fI) (.ref e::a)) (λr v=>r=.none∧Q (.done (.ret (.ref e))) v) E ⟨h',g,d,t,os⟩) (j:a.length≤sizeLine):
  wpAny (model prog w) A (m3.«type.__call__» ⟨.ref C::a,[]⟩) Q E ⟨h,g,d,t,os⟩:=by
 repeat (first|with_reducible refine x4 l ?_|with_reducible refine wpAny_madeBy_exc l ?_|wp_step)
 refine codeAny_call_builtin_code (jz _ F.quiet) (wpAny_check_new_subT F T l ?_);refine codeAny_exc_new_subT F T l ?_ j;show wpAny _ _ _ _ _ _;have kp:∀b o,h.get? b=g7 o→((h.push {cls:=.type "tuple",data:=.seq a.toArray}).push {cls:=.ref C,data:=.fields #[.ref h.objs.size,.none,.none,.none,.bool g8,.none]}).get? b=g7 o:=λb o e=>Heap.get?_push_of_some _ (Heap.get?_push_of_some _ e);have c:=kp _ _ l;have f:=kp _ _ n;have k:=y.keeps kp;have m:=T.keeps kp;have i:((h.push {cls:=.type "tuple",data:=.seq a.toArray}).push
   {cls:=.ref C,data:=.fields #[.ref h.objs.size,.none,.none,.none,.bool g8,.none]}).get? (h.objs.size+1)=g7
   {cls:=.ref C,data:=.fields #[.ref h.objs.size,.none,.none,.none,.bool g8,.none]}:=by heap_get
 have s:(Value.ref C::bm).contains (.ref C)=h7:=by simp
 unfold IB;repeat (first|with_reducible refine x4 i ?_| (with_reducible refine X4 c ?_;rw[s]) |wp_step)
 show wpAny _ _ (ee (.ref C) _) _ _ _;refine wpAny_typeLookup_tail c k m F.mroIs F.init.lookup ?_;rw[hi];refine x0 (wpAny_bind ?_);unfold bindSpecial;refine wpAny_bind (aF (T:="function") ⟨_,f,p⟩ ?_);rw[if_pos (by decide)];refine i6 (wpAny_bind (wpAny_mono (z _ (h.objs.size+1) ⟨kp,Heap.get?_none_of_le (bd _),h.objs.size,i,Heap.get?_none_of_le (i8 _),?_⟩) (λr v hr=>?_) λ_ _ x=>x))
 ·exact Heap.get?_push_of_some _ (Heap.get?_push_at rfl rfl)
 ·obtain⟨rfl,hQ⟩:=hr
  wp_walk
  exact hQ
theorem uS (F:ExcBaseFacts B bH qT HX)(T:OwnTail h HX bm)
  (c:h.get? C=g7 (fi nm q C N bs bm jx sn sub ab col dd k0 k1 k2 k3 k5 bH)) (k:h.Ns N mN) (hi:mN "__init__"=g7 (.ref fI))
  (f:h.get? fI=g7 j) (i:j.cls=.type "function")
  (l:∀h' e,Heap.MadeExcOf h h' e (.ref C) a→wpAny (model prog w) (A.under (.builtin "type.__call__" ⟨.ref C::a,[]⟩)) (call (.ref fI) (.ref e::a)) (λr m=>r=.none∧Q (.ref e) m) E ⟨h',g,d,t,os⟩) (b:a.length≤sizeLine):
  wpAny (model prog w) A (call (.ref C) a) Q E ⟨h,g,d,t,os⟩:=by
 have f1:=tc_lookup;have o:=tc_bind (.ref C);have p:(⟨h,g,d,t,os⟩:Shared).TypeIs (.ref C) "type":=⟨_,c,rfl⟩
 refine bL (Ma ?_);show wpAny _ _ (callAny (.ref C) _) _ _ _;repeat (any_goals (first|assumption|with_reducible refine x4 c ?_|wp_step))
 refine⟨rfl,?_⟩;refine codeAny_call_builtin_at (jz _ (by decide +kernel)) entry_typeCall (wpAny_check_type_call_sub c (kS F T c k hi f i (λh' e n=>?_) b));exact l h' e n
theorem aq(b:bm.contains (.type "BaseException")=h7) (l:A.handled=g9)
  (h:wpAny M A x (λv a=>∃e i j,v=.ref e∧a.heap.get? C=g7 (fi nm q C N bs bm jx sn sub ab col dd k0 k1 k2 k3 k5 bH)∧
   a.heap.get? e=g7 {cls:=.ref C,dict:=i,data:=.fields #[.ref j,.none,.none,.none,.bool g8,.none]}∧E (.ref e) a) E s):
  wpAny M A (raiseStmt env (g7 x) g9) Q E s:=by
 have f:(Value.ref C::bm).contains (.type "BaseException")=h7:=by rw[List.contains_cons,b,fj]
 unfold raiseStmt;refine wpAny_bind (wpAny_mono h (λv a c=>?_) λ_ _ x=>x);obtain⟨e,i,j,rfl,k,m,n⟩:=c;obtain⟨o,g,d,p,os⟩:=a;repeat (first|with_reducible refine x4 m ?_|with_reducible refine x4 k ?_| (with_reducible refine X4 k ?_;rw[f]) |wp_step)
 exact HY l n
end
section
variable {prog:Program}{w:World}{A:Around}{E:Value→Shared→Prop}{s:Shared}{env:Env}
variable {nm q:Str}{C N:Addr}{bs bm HX:List Value}{jx:Bool}{sn:List Str}{sub:List Value}{ab:Bool}{col:Option Bool}{dd:Option Addr}{k0 k1 k2 k3 k5:Option Value}{B bH qT:String}
theorem rC (F:ExcBaseFacts B bH qT HX){oI:Obj}
  (j:bm.contains (.type "BaseException")=h7) (t:A.handled=g9) (m:(m4 cpos (i1 args env)).any (·.1)=g8) (hi:mN "__init__"=g7 (.ref fI)) (u:oI.cls=.type "function")
  (h:wpAny (model prog w) A (eval (.Name x L) env) (λf k=>f=.ref C∧wpAny (model prog w) A (evalArgs (.ref C) h7 (m4 cpos (i1 args env)) [])
   (λa b=>a.kw=[]∧a.pos.length≤sizeLine∧b.heap.get? C=g7 (fi nm q C N bs bm jx sn sub ab col dd k0 k1 k2 k3 k5 bH)∧b.heap.Ns N mN∧b.heap.get? fI=g7 oI∧OwnTail b.heap HX bm∧
    ∀h' e,Heap.MadeExcOf b.heap h' e (.ref C) a.pos→wpAny (model prog w) (A.under (.builtin "type.__call__" ⟨.ref C::a.pos,[]⟩)) (call (.ref fI) (.ref e::a.pos)) (λr p=>r=.none∧p.heap.get? C=g7 (fi nm q C N bs bm jx sn sub ab col dd k0 k1 k2 k3 k5 bH)∧(∃y G,p.heap.get? e=g7 {cls:=.ref C,dict:=y,data:=.fields #[.ref G,.none,.none,.none,.bool g8,.none]})∧E (.ref e) p) E {b with heap:=h'}) E k) E s):
  wpAny (model prog w) A (exec (.Raise (g7 (.Call (.Name x L) args [] cpos)) g9 pos) env) Q E s:=by
 rw[arm_exec_Raise];first
  |refine wpAny_bind (wpAny_standAt (aq (C:=C) (nm:=nm) (q:=q) (N:=N) (bs:=bs) (bm:=bm) (jx:=jx) (sn:=sn) (sub:=sub) (ab:=ab) (col:=col) (dd:=dd) (k0:=k0) (k1:=k1) (k2:=k2) (k3:=k3) (k5:=k5) (bH:=bH) j t (wpAny_bind (wpAny_mono (wpAny_Call_ofName (wpAny_mono h (λf k c=>?_) λ_ _ x=>x)) (λv n i=>wpAny_bind (wpAny_standAt (i6 i))) λ_ _ x=>x))))
  | (simp only[evalOpt,Option.map];refine wpAny_bind (wpAny_standAt (aq (C:=C) (nm:=nm) (q:=q) (N:=N) (bs:=bs) (bm:=bm) (jx:=jx) (sn:=sn) (sub:=sub) (ab:=ab) (col:=col) (dd:=dd) (k0:=k0) (k1:=k1) (k2:=k2) (k3:=k3) (k5:=k5) (bH:=bH) j t (wpAny_bind (wpAny_mono (wpAny_Call_ofName (wpAny_mono h (λf k c=>?_) λ_ _ x=>x)) (λv n i=>wpAny_bind (wpAny_standAt (i6 i))) λ_ _ x=>x)))))
  | (refine wpAny_bind (wpAny_standAt (aq (C:=C) (nm:=nm) (q:=q) (N:=N) (bs:=bs) (bm:=bm) (jx:=jx) (sn:=sn) (sub:=sub) (ab:=ab) (col:=col) (dd:=dd) (k0:=k0) (k1:=k1) (k2:=k2) (k3:=k3) (k5:=k5) (bH:=bH) j t ?_));refine wpAny_bind (wpAny_mono (wpAny_Call_ofName (wpAny_mono h (λf k c=>?_) λ_ _ x=>x)) (λv n i=>wpAny_bind (wpAny_standAt (i6 i))) λ_ _ x=>x))
 obtain⟨rfl,c⟩:=c;unfold ka;refine wpAny_bind (x0 (wpAny_mono c (λa b l=>wpAny_bind (wpAny_standAt ?_)) λ_ _ x=>x));obtain⟨apos,H⟩:=a;obtain⟨I,o,O,P,J,T,l⟩:=l;obtain rfl:H=[]:=I;obtain⟨Z,g,d,tk,os⟩:=b;simp only[m];refine wpAny_bind (wpAny_keeperOf_exc O ?_);refine wpAny_bind (uS F T O P hi J u (λh' e R=>?_) o);refine wpAny_mono (l h' e R) (λr p z=>?_) λ_ _ z=>z;obtain⟨S,U,⟨y,G,X⟩,Y⟩:=z;exact⟨S,wpAny_bind (x0 (tz (i6 ⟨e,y,G,rfl,U,X,Y⟩)))⟩
end
end PySem
namespace PySem.W
open PySem PyProof.Rows Builtin Builtin.ObjectAttr
noncomputable def U8 (C C1:Addr):List Value:=.ref C::.ref C1::L3.HH
theorem tQ (self:Value)(C C1:Addr):refuseLoop self "__setattr__" (U8 C C1)=pure ():=by
 unfold U8;rw[Nl,Nl];exact PySem.F.store_ValueError.passes self
theorem uH (C C1:Addr):(U8 C C1).contains (.type "object")=h7:=by simp[U8,L3.HH]
section
variable {prog:Program}{w:World}{A:Around}{E:Value→Shared→Prop}{s:Shared}{K:Frag}{C C1 x:Addr}{name:Str}{v:Value}{R:ID→Shared→Prop}
theorem Lr(X:K.In s.heap)(hx:s.heap.get? x=g7 ⟨.ref C,g9,.fields vs,#[]⟩)(n:Nu K C=g7 cd)(i:cd.mro=U8 C C1)(p:cd.hasDict=h7)(E:aG K (.ref C) name=g7 g9)
  (h:∀h' G,h'.get? x=g7 ⟨.ref C,g7 s.heap.objs.size,.fields vs,#[]⟩→h'.Ns1 s.heap.objs.size (λy=>if y=name then g7 v else g9)→(∀b o,b≠x→s.heap.get? b=g7 o→h'.get? b=g7 o)→R (.ok (.ret .none)) {s with heap:=h',toks:=G}):
  aH (model prog w) A (.call (.builtin "object.__setattr__") ⟨[.ref x,.str name j,v],[]⟩) R s:=by
 have k:=PySem.F.store_object;have I:InstAt s.heap x ⟨.ref C,g9,.fields vs,#[]⟩ C g9:=⟨hx,rfl,rfl,trivial⟩
 have sub:Looks (model prog w) s.heap (IB (.ref x) (.type "object")) h7:=I.type.andThen (looks_mroIn X (by unfold mroIn;rw[n,Option.bind_some,i,if_neg (by simp[U8]),uH]));refine D7 k.slot.plain k.entry (@check_slot (model prog w) _ _ s "object.__setattr__" "object" "__setattr__" (.ref x) [.str name j,v] [] _ k.kind k.split sub (k.args (.ref x) (.str name j) v) ?_);have H:Looks (model prog w) s.heap (mroOf (.ref C)) cd.mro:=(FB X n).andThen .now;rw[osa_eq,refuse_eq];refine wpAny_bind (wpAny_bind (I.type.here (wpAny_bind (H.here ?_))));rw[i,tQ];refine i6 (wpAny_bind (I.type.here (wpAny_bind ((oZ X E).here (wpAny_bind ((Looks.now (M:=model prog w) (a:=(g9:Option Value))).here ?_))))));show wpAny _ _ (storeInOwnDict (.ref x) (.ref C) (.str name j) name v g8) _ _ _;refine wpAny_bind (i6 (wpAny_bind (wpAny_bind (Nf hx (wpAny_bind ((FB X n).here ?_))))));rw[p];obtain⟨f,g,d,t,os⟩:=s;have hx:f.get? x=g7 ⟨.ref C,g9,.fields vs,#[]⟩:=hx;have c:(f.push {cls:=.type "dict",data:=.dict #[]}).get? x=g7 ⟨.ref C,g9,.fields vs,#[]⟩:=Heap.get?_push_of_some _ hx;have l:x≠f.objs.size:=j9 (Heap.lt_size hx);rw[if_neg (by decide)];show wpAny _ _ (alloc {cls:=.type "dict",data:=.dict #[]} >>= λd=>update x (λo=>{cls:=o.cls,dict:=g7 d,data:=o.data,slots:=o.slots}) >>= λ_=>dictMade (.ref C) x d) _ _ _;refine wpAny_bind (wpAny_alloc' (wpAny_bind (wpAny_update' c (i6 ?_))));have q:((f.push {cls:=.type "dict",data:=.dict #[]}).update x λo=>{cls:=o.cls,dict:=g7 f.objs.size,data:=o.data,slots:=o.slots}).get? f.objs.size=g7 {cls:=.type "dict",data:=.dict #[]}:=
  (Heap.get?_update_ne _ _ _ _ l.symm).trans (Heap.get?_push_at rfl rfl)
 have r:((f.push {cls:=.type "dict",data:=.dict #[]}).update x λo=>{cls:=o.cls,dict:=g7 f.objs.size,data:=o.data,slots:=o.slots}).Ns f.objs.size (λ_=>g9):=
  ⟨_,#[],_,q,rfl,λe J=>absurd J (by simp),λ_=>rfl⟩
 show wpAny _ _ (storeInDict f.objs.size (.str name j) name v) _ _ _;unfold storeInDict newKeyGuard;refine wpAny_bind (i6 (wpAny_bind (OE (Heap.Ns1.of_empty r) λh' m hs=>?_)));obtain⟨P,L,N,u,z,B⟩:=m.count (Within.cons name v Within.nil);refine wpAny_bind (Kz u (by rw[z];exact KC (m8 B (by rw[List.length_cons,List.length_nil,v8];omega))) ?_);refine i6 (h h' _ ?_ m λb o O e=>?_)
 ·exact(hs.2 x l).trans (Heap.get?_update_self _ c rfl)
 ·exact(hs.2 b (j9 (Heap.lt_size e))).trans ((Heap.get?_update_ne _ _ _ _ O).trans (Heap.get?_push_of_some _ e))
theorem Ll(X:K.In s.heap)(hx:s.heap.get? x=g7 ⟨.ref C,g9,.fields vs,#[]⟩)(e:aG K (.ref C) "__setattr__"=g7 (g7 (.builtin "object.__setattr__"))) (i:Nu K C=g7 cd) (d:cd.mro=U8 C C1) (f:cd.hasDict=h7) (j:aG K (.ref C) name=g7 g9)
  (h:∀h' g,h'.get? x=g7 ⟨.ref C,g7 s.heap.objs.size,.fields vs,#[]⟩→h'.Ns1 s.heap.objs.size (λy=>if y=name then g7 v else g9)→(∀b o,b≠x→s.heap.get? b=g7 o→h'.get? b=g7 o)→Q () {s with heap:=h',toks:=g}):
  wpAny (model prog w) A (OK (.ref x) name v) Q E s:=
 set_plain (od:=g9) X ⟨hx,rfl,rfl,trivial⟩ e (Lr (s:={s with toks:=s.toks+1}) X hx i d f j λh' g a b c=>h h' g a b c)
end
section
variable {prog:Program}{w:World}{A:Around}{E:Value→Shared→Prop}{K:Frag}{C C1 x:Addr}{name:Str}{v:Value}
variable {h:Heap}{g:Array GenState}{d:Drawn}{t:Nat}{os:OsState}
theorem AZ(X:K.In h)(hx:h.get? x=g7 ⟨.ref C,g7 dx,.fields vs,sl⟩)(c:Nu K C=g7 cd)(e:cd.hasDict=h7)(f:aG K (.ref C) name=g7 g9)
  (a:h.Ns dx mA) (i:mA name=g7 v) (l:Q (.done (.ret v)) ⟨h,g,d,t,os⟩):
  wpAny (model prog w) A (m3.«object.__getattribute__» ⟨[.ref x,.str name b],[]⟩) Q E ⟨h,g,d,t,os⟩:=by
 have j:=oZ (M:=model prog w) X f;have k:=FB (M:=model prog w) X c;unfold m3.«object.__getattribute__»;repeat (any_goals (first|assumption| (with_reducible refine wpAny_nsGet a ?_;rw[i]) |with_reducible refine x4 hx ?_|with_reducible refine j.here ?_|with_reducible refine k.here ?_|wp_step))
theorem LJ(X:K.In h)(hx:h.get? x=g7 ⟨.ref C,g7 dx,.fields vs,sl⟩)(e:aG K (.ref C) "__getattribute__"=g7 (g7 (.builtin "BaseException.__getattribute__"))) (f:aG K (.ref C) "__getattr__"=g7 g9) (k:Nu K C=g7 cd) (b:cd.mro=U8 C C1) (i:cd.hasDict=h7) (m:aG K (.ref C) name=g7 g9)
  (c:h.Ns dx mA) (n:mA name=g7 v) (o:handedOut v=pure v) (p:Q v ⟨h,g,d,t+1,os⟩):
  wpAny (model prog w) A (Cy (.ref x) name a) Q E ⟨h,g,d,t,os⟩:=by
 have q:=oZ (M:=model prog w) X e;have r:=oZ (M:=model prog w) X f;have l:=PySem.F.excAttr_ValueError;have B:=l.ga.bind (.ref x);have s:(a&&onTheHeap (Value.builtin "BaseException.__getattribute__"))=g8:=by cases a<;>rfl
 have j:(Value.builtin "BaseException.__getattribute__" == Value.builtin "object.__getattribute__")=g8:=by decide +kernel
 have u:(onTheHeap (Value.ref C)&&Value.builtin "BaseException.__getattribute__" == Value.builtin "object.__getattribute__")=g8:=by rw[j];rfl
 unfold Cy;repeat (any_goals (first|assumption|with_reducible refine x4 hx ?_|with_reducible refine q.here ?_|with_reducible refine r.here ?_|wp_step))
 obtain⟨od,_,_,y,_⟩:=id c;have I:InstAt h x ⟨.ref C,g7 dx,.fields vs,sl⟩ C (g7 od):=⟨hx,rfl,rfl,y⟩
 have z:(U8 C C1).contains (.type "BaseException")=h7:=by simp[U8,L3.HH]
 have sub:Looks (model prog w) h (IB (.ref x) (.type "BaseException")) h7:=I.type.andThen (looks_mroIn X (by unfold mroIn;rw[k,Option.bind_some,b,if_neg (by simp[U8]),z]));refine D7 l.ga.plain PySem.F.entry_bexc_ga (@check_slot (model prog w) _ _ ⟨h,g,d,t+1,os⟩ "BaseException.__getattribute__" "BaseException" "__getattribute__" (.ref x) [.str name t] [] _ (by decide +kernel) (by decide +kernel) sub (PySem.F.args_bexc_ga (.ref x) (.str name t)) ?_);refine AZ X hx k i m c n ?_;show wpAny _ _ (handedOut v) _ _ _;rw[o];exact i6 p
end
end PySem.W
namespace L3
open PySem PySem.Spec PyProof.Rows L2
noncomputable def kI (a C:Addr)(b:Option Addr):Heap→Prop:=λh=>∃c,h.get? a=g7 ⟨.ref C,b,.fields #[.ref c,.none,.none,.none,.bool g8,.none],#[]⟩
theorem Bi {a C:Addr}{b:Option Addr}:∀c d:Heap,kI a C b c→(∀o,c.get? a=g7 o→d.get? a=g7 o)→kI a C b d:=λ_ _ ⟨f,e⟩ k=>⟨f,k _ e⟩
theorem uI {P:Program}{w:World}{H:Hp}{h:Heap}{a C:Addr}{b:Option Addr}(e:kI a C b h):B9 P w H h a (.ext (kI a C b)):=⟨e,let⟨_,q⟩:=e;⟨_,q⟩,Bi⟩
theorem yN(h:H a=g7 o):upd H a o=H:=by
 funext b;unfold upd;split
 ·rename_i z;rw[z,h]
 ·rfl
structure gR (K:PySem.W.Frag) (mg:Str→Option Value) (x:Str) (C C1 fI:Addr) (f:Str):Prop where
 at_:PySem.W.nsIn K k8 x=some (some (.ref C))
 mg:mg x=some (.ref C)
 ok:kq K C (some (.ref fI))=true
 cls:((PySem.W.clsIn K C).any λcd=>cd.mro==PySem.W.U8 C C1&&cd.hasDict)=true
 sa:PySem.W.findIn K (.ref C) "__setattr__"=some (some (.builtin "object.__setattr__"))
 ga:PySem.W.findIn K (.ref C) "__getattribute__"=some (some (.builtin "BaseException.__getattribute__"))
 gt:PySem.W.findIn K (.ref C) "__getattr__"=some none
 fld:PySem.W.findIn K (.ref C) f=some none
theorem gR.cd {K:PySem.W.Frag}{mg:Str→Option Value}{x:Str}{C C1 fI:Addr}{f:Str}(e:gR K mg x C C1 fI f):∃cd,PySem.W.clsIn K C=g7 cd∧cd.mro=PySem.W.U8 C C1∧cd.hasDict=h7:=by
 obtain⟨cd,b,a⟩:=PySem.W.any_some e.cls;rw[l8]at a;exact⟨cd,b,eq_of_beq a.1,a.2⟩
structure wH (K:PySem.W.Frag) (mg:Str→Option Value) (x:Str) (C1:Addr):Prop where
 mg:mg x=some (.ref C1)
 rd:PySem.W.readsIn K C1 (.type "type")=true
 fc:PySem.W.findCls K (.ref C1) (.type "type") "__init__"=some (.val (.builtin "ValueError.__init__"))
 sp:PySem.W.specialIn K (.ref C1) "__getattribute__"=some (some (.builtin "type.__getattribute__"))
section
variable {X:Cx}{K:PySem.W.Frag}{C C1 fI:Addr}{x cn f:Str}{e:Expr}{es:List Expr}{t:TA}{np apos pos:Pos}
theorem xk{s:Shared}(ob:gQ s.heap C bm iv)(hx:kI a C c s.heap)
  (h:∀h' i,kI a C c h'→(∀b o,b≠a→s.heap.get? b=g7 o→h'.get? b=g7 o)→Q .none {s with heap:=h',toks:=i}):
  wpAny (model prog w) A (call (.builtin "ValueError.__init__") [.ref a,u]) Q E s:=by
 obtain⟨nm,qn,N,bs,hd,sn,sub,ab,col,dd,k0,k1,k2,k3,k5,mN,j,m,hi,T⟩:=ob.ex;obtain⟨n,hx⟩:=hx;obtain⟨f,g,d,p,os⟩:=s;have F:=PySem.F.excBase_ValueError;have k:a≠f.objs.size:=j9 (Heap.lt_size hx);refine bL (D7 F.init.plain F.initEntry (wpAny_check_init_subT F T j hx rfl ?_))
 wp_walk
 refine h _ _ ⟨f.objs.size,?_⟩ λb o l e=>?_
 ·exact(Heap.get?_update_self _ (Heap.get?_push_of_some _ hx) rfl)
 ·exact(Heap.get?_update_ne _ _ _ _ l).trans (Heap.get?_push_of_some _ e)
noncomputable def FX (C:Addr)(t:TA):TE:=λσ H Q=>t σ H λvs H1=>∃a u,vs=[.ref a,u]∧H1 a=g7 (.ext (kI a C g9))∧Q .z5 H1
theorem zU(U:wH X.K X.mg cn C1)(hok:kq X.K C (g7 (.ref fI))=h7)(p:Gl X cn)(v:PA X (e::es) t)(d:(cn==("__debug__":Str))=g8:=by decide)
  (g:i1 (e::es) X.env=(g8,eval e X.env)::i1 es X.env:=by rfl) (i:(m4 pos (i1 es X.env)).any (·.1)=g8:=by rfl)
  (y:eval (.Call (.Attribute (.Name cn np) "__init__" apos) (e::es) [] pos) X.env=(do
   let m←eval (.Name cn np) X.env
   gV apos.atName
   let(f,first)←P5 [m] (kz m "__init__" pl)
   ka pos f first (m4 pos (i1 (e::es) X.env)) (y7 pos (n7 [] X.env))):=by rfl):
  PE X (.Call (.Attribute (.Name cn np) "__init__" apos) (e::es) [] pos) (FX C t):=by
 intro pins s σ H Q I h;refine PySem.W.methodCall_KW (pl:=pl) (dC I p U.mg ?_ d) y;refine PySem.W.method_cls I.fD U.sp (PySem.W.cls_value I.fD U.rd U.fc rfl ?_);have z:=I.tok (s.toks+1);refine gS (F9 (v pos pins _ σ H _ z h) λus s1 ⟨vs,H1,j,r,a,u,A,k,q⟩=>?_) g i;subst A;cases r with
 |cons B l=>
  cases l with
  |cons F l=>
   cases l;cases B;obtain⟨hx,_⟩:B9 X.prog X.w H1 s1.heap a (.ext (kI a C g9)):=j.hok a _ k;obtain⟨bm,ob⟩:=iJ j.fD hok;refine xk ob hx λh' t' c kp=>?_;have n:=j.write (x:=a) (e:=a) (o:=.ext (kI a C g9)) (t':=t') (by rw[k];exact True.intro) (.inl rfl) (λb o E e=>kp b o E e) (let⟨_,q⟩:=c;⟨_,q⟩) (uI c);rw[yN k]at n;exact⟨.z5,H1,n,rfl,q⟩
noncomputable def Jb (C:Addr)(f:Str)(i:Nat)(b:TE):TS:=λD σ H=>b σ H λy H1=>∃a n,y=.int n∧σ[i]?=g7 (g7 (.ref a))∧H1 a=g7 (.ext (kI a C g9))∧∀dx,H1 dx=g9→dx≠a→D.nx σ (upd (upd H1 dx (.xd [(f,.int n)])) a (.ext (kI a C (g7 dx))))
theorem Dg(E:gR X.K X.mg T C C1 fI f)(U:PE X c P)(hN:X.N[i]?=g7 y)(l:cq X.env.scope y)(hd:(y==("__debug__":Str))=g8) (t:(y==("__classdict__":Str))=g8) (hs:B4 c (g7 (.Attribute (.Name y p1) f p2)) pos.line X.env=pure g8):
  PS X (.Assign [.Attribute (.Name y p1) f p2] c pos) (Jb C f i P):=by
 intro pins s σ H D I h;refine qU (F9 (U pins s σ H _ I h) λu s1 ⟨yv,H1,Y,Z,a,n,ey,v,Q,q⟩=>?_) hs;subst ey;refine F9 (A3 (X:=X) hN l hd t pins s1 σ H1 (λx H'=>x=.ref a∧H'=H1) Y ⟨.ref a,v,rfl,rfl⟩) λov s2 ⟨xv,A,r,rx,ex,eH⟩=>?_;subst ex eH;obtain rfl:ov=Value.ref a:=rx;obtain⟨⟨t0,hx⟩,_⟩:B9 X.prog X.w A s2.heap a (.ext (kI a C g9)):=r.hok a _ Q;obtain⟨cd,c1,c2,c3⟩:=E.cd;refine PySem.W.Ll (C1:=C1) r.fD hx E.sa c1 c2 c3 E.fld λh' t' m hn kp=>?_;have d:A s2.heap.objs.size=g9:=r.hok.fresh (i8 _);have p:s2.heap.objs.size≠a:=y0 (Heap.lt_size hx);obtain⟨k,es,ep,R,B,j⟩:=id hn;have F:=(Heap.get?_some_iff.mp R).2;have S:(s2.heap.push k).get? s2.heap.objs.size=g7 k:=Heap.get?_push_size _ F;have G:∀{H':Hp},B9 X.prog X.w H' (s2.heap.push k) s2.heap.objs.size (.xd [(f,.int n)]):=λ{H'}=>by
  refine⟨_,⟨k,es,ep,S,B,j⟩,λg=>?_⟩;by_cases z:g=f
  ·subst z;rw[List.lookup_cons_self,if_pos rfl];exact Z
  ·have J:(g==f)=g8:=beq_eq_false_iff_ne.mpr z;simp only[List.lookup,J,if_neg z];trivial
 have I3:=r.laid (t':=t') (h':=s2.heap.push k) (o:=.xd [(f,.int n)]) (λb o e=>Heap.get?_push_of_some _ e) (i8 _) G;have L:(upd A s2.heap.objs.size (.xd [(f,.int n)])) a=g7 (.ext (kI a C g9)):=by rw[i9 p.symm];exact Q
 have I4:=I3.write (x:=a) (e:=a) (h':=h') (o:=.ext (kI a C (g7 s2.heap.objs.size))) (t':=t') (by rw[L];exact True.intro) (.inl rfl) (λb o J e=>?_) ⟨_,m⟩ (uI ⟨t0,m⟩)
 ·exact⟨σ,_,I4,q _ d p⟩
 ·by_cases z:b=s2.heap.objs.size
  ·subst z;have:g7 k=g7 o:=S.symm.trans e;cases this;exact R
  ·have e':s2.heap.get? b=g7 o:=by
    rcases Heap.get?_push_cases e with⟨O,_⟩ |O
    ·exact absurd O z
    ·exact O
   exact kp b o J e'
end
noncomputable def IW (C:Addr)(f:Str):Sp:=λvs H Q _=>∃a n,vs=[.ref a,.int n]∧0≤n∧n≤1000∧H a=g7 (.ext (kI a C g9))∧
 ∀H1 dx,j5 H H1→(∀b,H1 b=g9→H b=g9)→H1 dx=g9→dx≠a→Q .z5 (upd (upd H1 dx (.xd [(f,.int n)])) a (.ext (kI a C (g7 dx))))
theorem zv {K:PySem.W.Frag}{H:Hp}{a:Addr}{n:Int}:RS ⟨K,H,H,λ_=>g9,λ_=>g9,g9⟩ (λ_=>g9) H [g7 (.ref a),g7 (.int n)] [g9,g7 (.sh (.int n))]:=by
 have at':∀{i:Nat} {c:C},([g9,g7 (.sh (.int n))]:l9)[i]?=g7 (g7 c)→i=1∧c=.sh (.int n):=λ{i c} e=>by
  match i,e with
  |0,e=>cases e
  |1,e=>cases e;exact⟨rfl,rfl⟩
  |i+2,e=>cases e
 refine⟨j5.refl _,j5.refl _,λ_ _ e=>e,λb o e=>(by cases e),λp o e=>(by cases e),λp e=>e,rfl,λi d e=>?_,λi l d e=>?_,λi j l d k e p x y=>?_,λi es e=>?_,λi l fds e=>?_,λi fds e=>?_⟩
 ·obtain⟨rfl,z⟩:=at' e;cases z;exact⟨_,rfl,.int n⟩
 ·obtain⟨_,z⟩:=at' e;cases z
 ·obtain⟨_,z⟩:=at' x;cases z
 ·obtain⟨_,z⟩:=at' e;cases z
 ·obtain⟨_,z⟩:=at' e;cases z
 ·obtain⟨_,z⟩:=at' e;cases z
section
variable {P:Program}{w:World}{K:PySem.W.Frag}{mg:Str→Option Value}{base:Heap}
theorem DL {x j qual f ln:Str}{st:Stmt}{fI C C1:Addr}{fd:FuncData}{k:Nat}{p:List Expr}{mt:M W}{np apos p1 pos b J N O r c:Pos}(F:az K "__init__" qual st fI fd) (S:n4 ["self",ln] ["self",ln] (i7 st)) (R:gR K mg x C C1 fI f) (U:wH K mg j C1)
  (Y:C5 st=[.Expr (.Call (.Attribute (.Name j np) "__init__" apos) [.Name "self" p1,.JoinedStr p r] [] pos) b,.Assign [.Attribute (.Name "self" J) f N] (.Name ln O) c])
  (t:∀n:Int,0≤n→n≤1000→∃d l,mt [g9,g7 (.sh (.int n))]=g7 (.ok (.val d) l))
  (u:cq (i7 st) ln) (m:cq (i7 st) "self") (y:(ln==("__debug__":Str))=g8) (B:(ln==("__classdict__":Str))=g8)
  (g:∀(cdv:Value) (A:Around) (outer:List Env) (s:Shared) (H:Hp) (E:XK) (H0 HK G0:Hp) (L:Nat→Option Addr),K4 k (A.deeper (Z2 qual (i7 st) s.heap.objs.size fI cdv))→
   PD (X5 V1 P w K mg base ["self",ln] qual (i7 st) fI cdv A outer s H E) ⟨K,H0,HK,G0,L,g9⟩ (.JoinedStr p r) mt∧
   Gl (X5 V1 P w K mg base ["self",ln] qual (i7 st) fI cdv A outer s H E) j∧
   ∃pl:Sem Bool,eval (.Call (.Attribute (.Name j np) "__init__" apos) [.Name "self" p1,.JoinedStr p r] [] pos) (X5 V1 P w K mg base ["self",ln] qual (i7 st) fI cdv A outer s H E).env=(do
    let T←eval (.Name j np) (X5 V1 P w K mg base ["self",ln] qual (i7 st) fI cdv A outer s H E).env
    gV apos.atName
    let(f,first)←P5 [T] (kz T "__init__" pl)
    ka pos f first (m4 pos (i1 [.Name "self" p1,.JoinedStr p r] (X5 V1 P w K mg base ["self",ln] qual (i7 st) fI cdv A outer s H E).env)) (y7 pos (n7 [] (X5 V1 P w K mg base ["self",ln] qual (i7 st) fI cdv A outer s H E).env))))
  (G:(j==("__debug__":Str))=g8:=by decide):x8 P w K mg base V1 (k+1) fI fd ["self",ln] (IW C f):=by
 refine F.ok S (λvs H Q E h=>?_) (λcdv A outer s H vs Q E hr h=>?_)
 ·obtain⟨a,n,rfl,_⟩:=h;rfl
 obtain⟨a,n,rfl,Z,n2,hH,q⟩:=h;obtain⟨hp,hg,pl,ht⟩:=g cdv A outer s H E H H (λ_=>g9) (λ_=>g9) hr;have I:=PE.be (E':=λ_ _=>False) (hp.ap λ_ _ _=>False) (λe s z=>by obtain⟨_,_,_,_,_,_,z⟩:=z;exact z);have v0:PE ((X5 V1 P w K mg base ["self",ln] qual (i7 st) fI cdv A outer s H E).Fb) (.Name "self" p1) (kW 0):=A3 (i:=0) rfl m (by decide) (by decide);have v1:PE ((X5 V1 P w K mg base ["self",ln] qual (i7 st) fI cdv A outer s H E).Fb) (.Name ln O) (kW 1):=A3 (i:=1) rfl u y B;have e1:=zU (X:=(X5 V1 P w K mg base ["self",ln] qual (i7 st) fI cdv A outer s H E).Fb) (C:=C) (fI:=fI) (np:=np) (apos:=apos) (pos:=pos) (pl:=pl) U R.ok hg (E9 v0 (E9 I X8)) G rfl rfl ht;have s1:=fx (pos:=b) e1;have s2:=Dg (X:=(X5 V1 P w K mg base ["self",ln] qual (i7 st) fI cdv A outer s H E).Fb) (i:=0) (p1:=J) (p2:=N) (pos:=c) R v1 rfl m (by decide) (by decide) rfl;rw[Y];refine⟨_,rF s1 (aM s2),?_⟩;obtain⟨d,l,hd⟩:=t n Z n2;refine⟨.ref a,rfl,_,_,zv,_,hd,λv G' H' sg R' a0=>?_⟩;have o:H' a=g7 (.ext (kI a C g9)):=R'.keep a _ hH;exact⟨a,v,rfl,o,.int n,rfl,a,n,rfl,rfl,o,λdx h1 h2=>q H' dx R'.keep R'.dom h1 h2⟩
end
noncomputable def lv (c f:Str)(b:M (List W)):SM:=λρ=>match b ρ with
 |none=>g9
 |some (.ex x a)=>g7 (.ex x a)
 |some (.ok d a)=>match bz d a with
  |some [.int n]=>cf (0≤n∧n≤1000) (g7 (.ex ⟨c,[(f,.int n)]⟩ a))
  |_=>g9
theorem RS.more(R:RS B G H σ ρ)(s:j5 H H'):RS B G H' σ ρ:=by
 refine⟨R.hk,R.keep.trans s,R.g0,R.gH.trans s,R.gnew,λb q=>R.dom b ?_,R.len,R.sh,λk l e q=>?_,R.inj,R.fz,R.ob.gh (j5.refl _) (λ_ _ _ _ _ g=>g) λp C dx fs e _ _=>s p _ e⟩
 ·cases z:H b with
  |none=>rfl
  |some o=>rw[s b o z]at q;cases q
 ·obtain⟨p,d,f,h,i,a⟩:=R.ow k l e q;obtain⟨o,c⟩:=a.some;exact⟨p,d,f,h,i,a.same (j5.refl _) ((s p o c).trans c.symm)⟩
def HS (P:Program)(w:World)(K:PySem.W.Frag)(mg:Str→Option Value)(base:Heap)(k:Nat)(fI C:Addr)(f ln:Str):Prop:=∃fd:FuncData,x8 P w K mg base V1 k fI fd ["self",ln] (IW C f)∧Binds K fd ["self",ln] []∧PySem.W.isFn K (.ref fI)=h7∧∃oc od a sl,K.lookup fI=g7 ⟨oc,od,a,sl⟩∧oc=.type "function"
section
variable {X:Cx}{B:Bs}{x f ln:Str}{C C1 fI:Addr}{k:Nat}{e:Expr}{mr:M (List W)}{np cpos pos:Pos}
theorem zm (P:gR X.K X.mg x C C1 fI f)(hI:HS X.prog X.w X.K X.mg X.base k fI C f ln)(hr:K4 (k+1) X.A)(ha:iW X B [e] mr)(F:aE X:=by exact⟨rfl,rfl,rfl,rfl⟩)(hc:X.calm=h7:=by rfl)(hg:Gl X x:=by rfl)(Q:(x==("__debug__":Str))=g8:=by decide)
  (he:m4 cpos (i1 [e] X.env)=[(g8,eval e X.env)]:=by rfl) (S:(m4 cpos (i1 [e] X.env)).any (·.1)=g8:=by rfl):oX X B (.Raise (g7 (.Call (.Name x np) [e] [] cpos)) g9 pos) (lv x f mr):=.mk λξ=>by
 intro pins s σ H Dn I hS;obtain⟨G,ρ,R,r,a,p⟩:=hS;have t:TD O5 B ξ mr σ H (λvs H'=>∃n,vs=[.int n]∧0≤n∧n≤1000∧∀O,j5 H' O→ξ ⟨x,[(f,.int n)]⟩ σ O):=by
  unfold lv at a;cases h:mr ρ with
  |none=>rw[h]at a;cases a
  |some r1=>
   rw[h]at a;refine⟨G,ρ,R,r1,h,?_⟩;cases r1 with
   |ex y T=>cases a;exact λG' H' i R'=>p σ G' H' i R'
   |ok ws T=>
    simp only[]at a;split at a
    ·rename_i n hn;obtain⟨⟨U,Y⟩,a⟩:=t6 a;cases a;intro v G' H' i R' q;have q2:tm B.K G' H' v [.int n]:=fF R' q hn;obtain⟨y,rfl,hy⟩:=E1 q2;exact⟨n,by rw[hy.int],U,Y,λO Z=>p σ G' O i (R'.more Z)⟩
    ·cases a
 obtain⟨bm,ob⟩:=iJ (I.ok.mod.kin) P.ok;obtain⟨nm,qn,N,bs,hd,sn,sub,ab,col,dd,k0,k1,k2,k3,k5,mN,a1,a2,a3,a4⟩:=ob.ex;obtain⟨fd,Fn,hb,a9,oc,od,dt,sl,lk,a0⟩:=hI;refine rC (oI:=⟨oc,od,dt,sl⟩) (nm:=nm) (q:=qn) (C:=C) (N:=N) (bs:=bs) (jx:=hd) (sn:=sn) (sub:=sub) (ab:=ab) (col:=col) (dd:=dd) (k0:=k0) (k1:=k1) (k2:=k2) (k3:=k3) (k5:=k5) PySem.F.excBase_ValueError (a4.hasType sY) (I.ok.hd hc) S a3 a0 ?_;refine dC I hg P.mg ⟨rfl,?_⟩ Q;have go:=(ha.ap ξ) cpos pins s σ H _ I t;rw[he]at go⊢;refine aI (F9 go λus s1 ⟨vs,H1,j,rv,n,ev,U,Y,q⟩=>?_);subst ev;have I0:Inv X [] σ H1 s1:=j.G4.Y7 λp hp=>absurd hp (by simp);have l:us.length=1:=by rw[←rv.length];rfl
 refine⟨rfl,?_,j.bk _ _ a1,a2.keeps j.bk,j.fD _ _ lk,a4.keeps j.bk,λh' b h=>?_⟩
 ·show us.length≤sizeLine;rw[l,v8];omega
 ·obtain⟨t0,ht,_,_⟩:=h.there;have d:Off X H1 b:=ip I0 F h.new;have I2:Inv X [] σ H1 {s1 with heap:=h'}:=I0.kept h.keeps;have I3:Inv X [] σ (upd H1 b (.ext (kI b C g9))) {s1 with heap:=h'}:=lN I2 F d λ_=>uI ⟨t0,ht⟩;have rb:Vals ([.ref b,.int n]:List V) (Value.ref b::us):=.cons rfl rv;have hl:(Value.ref b::us++[]).length=(["self",ln]:List Str).length:=by simp[l]
  have a5:IW C f [.ref b,.int n] (upd H1 b (.ext (kI b C g9))) (λv H3=>v=.z5∧∃g dx,j5 (upd H1 b (.ext (kI b C g9))) g∧g dx=g9∧dx≠b∧H3=upd (upd g dx (.xd [(f,.int n)])) b (.ext (kI b C (g7 dx)))) E0:=
   ⟨b,n,rfl,U,Y,l5,λg dx z1 z2 z3 z4=>⟨rfl,g,dx,z1,z3,z4,rfl⟩⟩
  have m:=hb _ (Value.ref b::us) I3.fD hl;rw[List.append_nil]at m;refine bL (L9 (Fn.run _ X.stack _ _ ⟨Value.ref b::us,[]⟩ (Value.ref b::us) _ _ E0 (hr.make C us []) (I3.Br.make C us []) m rb a5) λr i E=>?_);cases r with
  |error e=>exact E.elim
  |ok fl=>
   cases fl with
   |ret u=>
    obtain⟨v,H3,I4,a6,a7,g,dx,w1,w2,w3,w4⟩:=I3.after E;subst a7 w4;have e4:upd (minus (upd g dx (.xd [(f,.int n)])) [b]) b (.ext (kI b C (g7 dx)))=upd (upd g dx (.xd [(f,.int n)])) b (.ext (kI b C (g7 dx))):=by
     funext c;unfold upd minus;split
     ·rfl
     ·rw[if_neg (by simpa using ‹¬c=b›)]
    have J:(minus (upd g dx (.xd [(f,.int n)])) [b]) b=g9:=bt (by simp);rw[←e4]at I4;obtain⟨⟨t5,L⟩,_⟩:B9 X.prog X.w _ i.heap b (.ext (kI b C (g7 dx))):=I4.hok b _ l5;have I5:=se I4 F J;have a8:(minus (upd g dx (.xd [(f,.int n)])) [b]) dx=g7 (.xd [(f,.int n)]):=by rw[P9 (by simpa using w3),l5]
    have Z:j5 H1 (minus (upd g dx (.xd [(f,.int n)])) [b]):=λc o ec=>by
     have cb:c≠b:=t8 ec d.free;have z:=w1 c o (by rw[i9 cb];exact ec);rw[P9 (by simpa using cb),i9 (t8 z w2)];exact z
    refine⟨a6,I5.bk _ _ a1,⟨g7 dx,t5,L⟩,⟨⟨x,[(f,.int n)]⟩,[],σ,_,I5,⟨b,.ref C,g7 dx,rfl,⟨C,rfl,P.at_,.inr ⟨dx,f,n,rfl,rfl,a8⟩⟩,⟨d.new,J,d.loc,d.cell⟩,.inl ⟨_,_,L,rfl,rfl,rfl,rfl⟩,F⟩,q _ Z⟩⟩
   |next=>exact E.elim
   |brk=>exact E.elim
   |cont=>exact E.elim
end
noncomputable def Lg (b:TE)(C:Addr)(f:Str):TE:=λσ H Q=>b σ H λx H1=>∃a dx n,x=.ref a∧H1 a=g7 (.ext (iI a C (g7 dx)))∧H1 dx=g7 (.xd [(f,.int n)])∧Q (.int n) H1
theorem zQ {X:Cx}{e:Expr}{k:TE}{p f:Str}{C C1 fI:Addr}{pos:Pos}(i:gR X.K X.mg p C C1 fI f)(r:PE X e k)(t:v7 e f X.env (eval e X.env)=eval e X.env):PE X (.Attribute e f pos) (Lg k C f):=by
 intro pins s σ H Q I h;refine wC t (F9 (r pins s σ H _ I h) λu s1 ⟨x,H1,j,v,a,dx,n,ex,y,z,q⟩=>?_);subst ex;obtain rfl:u=Value.ref a:=v;obtain⟨⟨A,vs,B,l,b,c⟩,_⟩:B9 X.prog X.w H1 s1.heap a (.ext (iI a C (g7 dx))):=j.hok a _ y;obtain⟨mA,E,hr⟩:B9 X.prog X.w H1 s1.heap dx (.xd [(f,.int n)]):=j.hok dx _ z;obtain⟨cd,F,G,J⟩:=i.cd;obtain⟨oc,od,L,osl⟩:=A;dsimp only at l b c;subst l b c;have m:=hr f;rw[List.lookup_cons_self]at m;obtain⟨O,N,o⟩:=bG.some_of m;obtain⟨P,g,d,R,os⟩:=s1;refine PySem.W.LJ (C1:=C1) (cd:=cd) j.fD B i.ga i.gt F G J i.fld E.ns N (PySem.W.handedOut_of (oC o)) ?_;exact⟨.int n,H1,j.tok _,o,q⟩
section
variable {X:Cx}{cx en yn f:Str}{C C1 fI:Addr}{i j:Nat}{n c:Int}{p1 p2 p3 p4 p5 p6 p7 p8 p9 Ir Iq wK Fw Fv Fu Ip:Pos}{k1}
theorem Hh (h:gR X.K X.mg cx C C1 fI f)(q:X.mg "isinstance"=g9) (k:X.mg "ValueError"=g9) (hN:X.N.Nodup)
  (hi:X.N[i]?=g7 en) (t:X.N[j]?=g7 yn) (b:X.env.scope.names.lookup en=g7 .local) (g:X.env.scope.names.lookup yn=g7 .local)
  (r:Gl X "isinstance") (w:Gl X "ValueError") (x:Gl X cx) (d:(en==("__debug__":Str))=g8) (l:(cx==("__debug__":Str))=g8) (e:(en==("__classdict__":Str))=g8)
  (m:∀{env:Env},env=X.env→v7 (.Name en wK) f env (eval (.Name en wK) env)=eval (.Name en wK) env)
  (hs:∀{env:Env},env=X.env→B4 (.IfExp (.BoolOp .And [.Call (.Name "isinstance" p1) [.Name en p2,.Name cx p3] [] p4,.Call (.Name "isinstance" p5) [.Name en p6,.Name "ValueError" p7] [] p8] p9) (.Attribute (.Name en wK) f Fw) (.UnaryOp .USub (.Constant (.int c) k1 Fv) Fu) Ip) (g7 (.Name yn Ir)) Iq.line env=pure g8) (a:Addr) (s:Option Addr):
  PS ((hx X (.ref a)).A1 λ_ _=>False) (.Assign [.Name yn Ir] (.IfExp (.BoolOp .And [.Call (.Name "isinstance" p1) [.Name en p2,.Name cx p3] [] p4,.Call (.Name "isinstance" p5) [.Name en p6,.Name "ValueError" p7] [] p8] p9) (.Attribute (.Name en wK) f Fw) (.UnaryOp .USub (.Constant (.int c) k1 Fv) Fu) Ip) Iq)
   (λD σ H=>σ[i]?=g7 (g7 (.ref a))∧H a=g7 (.ext (iI a C s))∧uW H [(f,.int n)] s∧D.nx (σ.set j (g7 (.int n))) H):=by
 have y:PE ((hx X (.ref a)).A1 λ_ _=>False) (.Call (.Name "isinstance" p1) [.Name en p2,.Name cx p3] [] p4) _:=im ju r q L5 (E9 (A3 hi (.inl b) d e) (E9 (pJ x h.mg (v:=.ref C) rfl l) X8));have A:PE ((hx X (.ref a)).A1 λ_ _=>False) (.Call (.Name "isinstance" p5) [.Name en p6,.Name "ValueError" p7] [] p8) _:=im ju r q L5 (E9 (A3 hi (.inl b) d e) (E9 (vA w k (u:=.type "ValueError") (v:=.ty "ValueError") (by decide +kernel) rfl) X8));have B:PE ((hx X (.ref a)).A1 λ_ _=>False) (.Attribute (.Name en wK) f Fw) _:=zQ (X:=(hx X (.ref a)).A1 λ_ _=>False) h (A3 hi (.inl b) d e) (m rfl);have E:PE ((hx X (.ref a)).A1 λ_ _=>False) (.UnaryOp .USub (.Constant (.int c) k1 Fv) Fu) _:=ly gn dr;have F:=(zC (tR y) (vx (pos:=p9) (tR A))).pt;refine(pH (X:=(hx X (.ref a)).A1 λ_ _=>False) hN t (.inl g) (rK F B E) (hs rfl) (.inr g)).imp λD σ H ⟨o,p,G,I⟩=>?_;rcases G with⟨z,_⟩ | ⟨dx,L,O,z,k,J⟩
 ·cases z
 ·cases z;subst k;refine⟨_,o,⟨a,C,g7 dx,g7 (.ref fI),.ref C,rfl,p,h.ok,.inl rfl,h7,rfl,?_⟩⟩;dsimp only;rw[if_pos rfl];refine⟨_,o,a,C,g7 dx,g7 (.ref fI),.ty "ValueError",rfl,p,h.ok,.inr rfl,h7,rfl,?_⟩;dsimp only;rw[if_pos rfl];exact⟨_,o,a,dx,n,rfl,p,J,I⟩
end
noncomputable def wW (c f:Str):vc→Option D:=λx=>if x.cls=c then match x.fs with
 | [(g,.int n)]=>if g=f then g7 (.int n)else g9
 |_=>g9
 else g9
theorem vm {X:Cx}{K:PySem.W.Frag}{c f:Str}{C C1 m fI:Addr}{i j:Nat}{st:Stmt}{x:vc}{d:D}(b:wW c f x=g7 d)(o:gR X.K X.mg c C C1 fI f)(p:subIn X.K C m=h7)
  (k:∀(n:Int) a h,PS ((hx X (.ref a)).A1 λ_ _=>False) st (λD σ H=>σ[i]?=g7 (g7 (.ref a))∧H a=g7 (.ext (iI a C h))∧uW H [(f,.int n)] h∧D.nx (σ.set j (g7 (.int n))) H)):
  ∃C v iv,PySem.W.nsIn X.K k8 x.cls=g7 (g7 (.ref C))∧kq X.K C iv=h7∧subIn X.K C m=h7∧(∀G,Rep K G v d)∧
   ∀a h,PS ((hx X (.ref a)).A1 λ_ _=>False) st (λD σ H=>σ[i]?=g7 (g7 (.ref a))∧H a=g7 (.ext (iI a C h))∧uW H x.fs h∧D.nx (σ.set j (g7 v)) H):=by
 unfold wW at b;split at b
 ·rename_i e;split at b
  ·rename_i g n l;split at b
   ·rename_i q;cases b;subst q;exact⟨C,.int n,g7 (.ref fI),by rw[e];exact o.at_,o.ok,p,λ_=>.int n,λa h=>by rw[l];exact k n a h⟩
   ·cases b
  ·cases b
 ·cases b
section
variable {mr:M (List W)}{ws:List W}{ρ m9:l9}{c f:Str}{n:Int}
theorem yf (a:mr ρ=g7 (.ok ws m9))(hd:bz ws m9=g7 [.int n])(b:0≤n)(d:n≤1000):lv c f mr ρ=g7 (.ex ⟨c,[(f,.int n)]⟩ m9):=by
 unfold lv;rw[a];simp only[hd];exact x9 ⟨b,d⟩
theorem we:wW c f ⟨c,[(f,.int n)]⟩=g7 (.int n):=by
 unfold wW;rw[if_pos rfl];simp
end
theorem Ea {K:PySem.W.Frag}{h:Heap}{mg:Str→Option Value}{x f:Str}{C C1 fI:Addr}(X:K.In h)(G:h.Ns k8 mg)(a:PySem.W.nsIn K k8 x=g7 (g7 (.ref C)))(i:PySem.W.findIn K (.ref C) "__init__"=g7 (g7 (.ref fI))) (o:kq K C (g7 (.ref fI))=h7)
  (c:((PySem.W.clsIn K C).any λcd=>cd.mro==PySem.W.U8 C C1&&cd.hasDict)=h7) (s1:PySem.W.findIn K (.ref C) "__setattr__"=g7 (g7 (.builtin "object.__setattr__"))) (s2:PySem.W.findIn K (.ref C) "__getattribute__"=g7 (g7 (.builtin "BaseException.__getattribute__"))) (b:PySem.W.findIn K (.ref C) "__getattr__"=g7 g9) (d:PySem.W.findIn K (.ref C) f=g7 g9):gR K mg x C C1 fI f:=
 ⟨a,PySem.W.mg_of X G a,o,c,s1,s2,b,d⟩
theorem JF {A Z:List Nat}(g:0≤n)(h:n≤1000)(i:A.length≤1000)(j:Z.length≤1000):∃d a,Ak (dE (mC (.str A)) (dE (xH (h8 1)) (dE (mC (.str Z)) vR))) [g9,g7 (.sh (.int n))]=g7 (.ok (.val d) a):=by
 have hl:n.natAbs.log2<1920:=by
  by_cases z:n.natAbs=0
  ·rw[z];decide
  ·exact(Nat.log2_lt z).mpr (kb (show n.natAbs≤1000 by omega) (l7 (by decide:1000<2 ^ 10) (Nat.pow_le_pow_right (by decide) (by decide))))
 have l:=Wd.yO (n:=n) (k:=4) (by decide) (by omega);have c:xH (h8 1) [g9,g7 (.sh (.int n))]=g7 (.ok (.val (.str (Wd.hw n))) [g9,g7 (.sh (.int n))]):=by
  show cf (n.natAbs.log2<1920) _=_;exact x9 hl
 have e:small ([]++A).length:=by show _≤1000000;simp;omega
 have f:small (([]++A)++Wd.hw n).length:=by show _≤1000000;simp;omega
 have b:small ((([]++A)++Wd.hw n)++Z).length:=by show _≤1000000;simp;omega
 refine⟨.str ((([]++A)++Wd.hw n)++Z),[g9,g7 (.sh (.int n))],?_⟩;show cf (small ([]++A).length) (dE (xH (h8 1)) (dE (mC (.str Z)) vR) ([]++A) [g9,g7 (.sh (.int n))])=_;rw[x9 e];show M.bind (xH (h8 1)) _ _=_;rw[M.k9 c];show cf (small (([]++A)++Wd.hw n).length) (cf (small ((([]++A)++Wd.hw n)++Z).length) (cf (small ((([]++A)++Wd.hw n)++Z).length) (g7 (R'.ok (W.val (D.str ((([]++A)++Wd.hw n)++Z))) [g9,g7 (C.sh (.int n))]))))=_;rw[x9 f,x9 b,x9 b]
def EG (K:PySem.W.Frag)(fI:Addr)(qual:Str)(st:Stmt)(ln:Str):Prop:=∃fd:FuncData,az K "__init__" qual st fI fd∧(∀us:List Value,us.length=2→gm fd ⟨us,[]⟩=pure ((["self",ln]:List Str).zip us))∧PySem.W.isFn K (.ref fI)=h7∧∃oc od a sl,K.lookup fI=g7 ⟨oc,od,a,sl⟩∧oc=.type "function"
theorem Et {K:PySem.W.Frag}{qual ln:Str}{st:Stmt}{fI:Addr}{od an:Option Addr}{sl:Array (Option Value)}{oc kV d pm cd ct:Value}
  (l:K.lookup fI=g7 ⟨oc,od,.func (PySem.W.fnOf "__init__" qual (Q5 st) (C5 st) (i7 st) .none kV d pm an cd ct),sl⟩) (c:PySem.W.codeIn K cd qual=h7) (k:PySem.W.keepIn K (.ref fI)=h7) (n:PySem.W.isFn K (.ref fI)=h7) (a:oc=.type "function")
  (b:∀(kV doc pm:Value) (an:Option Addr) (cdv ct:Value) (us:List Value),us.length=2→gm (PySem.W.fnOf "__init__" qual (Q5 st) (C5 st) (i7 st) .none kV doc pm an cdv ct) ⟨us,[]⟩=pure ((["self",ln]:List Str).zip us)):EG K fI qual st ln:=
 ⟨_,uC (st:=st) l c k,λus hl=>b kV d pm an cd ct us hl,n,oc,od,_,sl,l,a⟩
theorem EG.has {P:Program}{w:World}{K:PySem.W.Frag}{mg:Str→Option Value}{base:Heap}{k:Nat}{fI C:Addr}{f qual ln:Str}{st:Stmt}(D:EG K fI qual st ln)(h:∀fd,az K "__init__" qual st fI fd→x8 P w K mg base V1 k fI fd ["self",ln] (IW C f)):HS P w K mg base k fI C f ln:=by
 obtain⟨fd,F,b,n,z⟩:=D;exact⟨fd,h fd F,Binds.all b,n,z⟩
inductive MX where
 |ret (d:D) (fds:List (Str×D)) (es:List (Key×D))
 |exc (x:vc) (fds:List (Str×D)) (es:List (Key×D))
noncomputable abbrev FM:=List (Str×D)→List (Key×D)→List D→Option MX
noncomputable def dQ (K:PySem.W.Frag)(C:Addr)(e:Nat)(f:FM):Sp:=λvs H Q E=>∃G p t b dx fs fds es ds r,vs=.ref p::b∧ds.length+1=e∧j5 G H∧G p=g9∧G t=g9∧H p=g7 (.ins C dx fs)∧O0 K G fs fds∧fs.lookup U5=g7 (.ref t)∧
 C6 K G H t (.dct es)∧v5 K G b ds∧f fds es ds=g7 r∧match r with
 |.ret d a c=>∀v G' H',qS K C G H p t G' H' a c→Rep K G' v d→Q v H'
 |.exc x a c=>∀cls dct G' H',qS K C G H p t G' H' a c→ea K H' x cls dct→E cls dct H'
theorem dQ.imp {K:PySem.W.Frag}{C:Addr}{b:Nat}{c a:FM}(h:∀fds es ds r,c fds es ds=g7 r→a fds es ds=g7 r):∀vs H Q E,dQ K C b c vs H Q E→dQ K C b a vs H Q E:=by
 rintro vs H Q E ⟨G,p,t,F3,dx,fs,fds,es,ds,r,a1,a2,a3,a4,a5,a6,a7,a8,a9,a10,a11,a12⟩
 exact⟨G,p,t,F3,dx,fs,fds,es,ds,r,a1,a2,a3,a4,a5,a6,a7,a8,a9,a10,h _ _ _ _ a11,a12⟩
noncomputable def Be (j:Nat)(k:List (Str×D)→List (Key×D)→MX)(ρ:l9):Option MX:=match(ρ[0]?:Option (Option C)),(ρ[j]?:Option (Option C))with
 |some (g7 (.ob h7 fds)),g7 (g7 (.ow h7 (.dct es)))=>if(fds.lookup U5).isSome=h7 then g7 (k fds es)else g9
 |_,_=>g9
noncomputable def GH (j:Nat):SR→Option MX
 |.nx ρ=>Be j (.ret .z5) ρ
 |.rt (.val d) ρ=>Be j (.ret d) ρ
 |.ex x ρ=>Be j (.exc x) ρ
 |_=>g9
noncomputable def ii (m:SM)(n j:Nat):FM:=λfds es ds=>(m (startM n j fds es ds)).bind (GH j)
theorem tS {X:Cx}{j:Nat}{g:Str}{st:List Stmt}{t:TS}(h:uZ X st t)(a:X.N[j]?=g7 g)(b:¬cq X.env.scope g):uZ X st (λD σ H=>∃v,t D (σ.set j v) H):=λs σ H D I ⟨v,q⟩=>h s _ H D (I.ghost v a b) q
section
variable {P:Program}{w:World}{K:PySem.W.Frag}{mg:Str→Option Value}{base:Heap}
theorem lV {x qual g:Str}{st:Stmt}{f C:Addr}{fd:FuncData}{N ps:List Str}{k:Nat}(j:Nat){m:SM}(F:az K x qual st f fd)(S:n4 N ps (i7 st))(hj:N[j]?=g7 g)(hg:¬cq (i7 st) g)(c9:ps.length≤j)
  (B:∀(cdv:Value) (A:Around) (outer:List Env) (s:Shared) (H:Hp) (E:XK) (H0 HK G0:Hp) (L:Nat→Option Addr),K4 k (A.deeper (Z2 qual (i7 st) s.heap.objs.size f cdv))→
   mK (X5 V1 P w K mg base N qual (i7 st) f cdv A outer s H E) ⟨K,H0,HK,G0,L,g7 (0,j,C)⟩ (C5 st) m):x8 P w K mg base (qR P w) (k+1) f fd ps (dQ K C ps.length (ii m N.length j)):=by
 have a0:j<N.length:=(List.getElem?_eq_some_iff.mp hj).1;obtain⟨oc,od,kV,doc,pm,an,cdv,ct,osl,rfl,lk,a1⟩:=F.ex;refine uE lk a1 S (λvs H Q E h=>?_) (λA outer s H vs Q E hr h=>?_)
 ·obtain⟨G,p,t,R,dx,fs,fds,es,ds,r,rfl,a2,a3,a4,a5,a6,a7,a8,a9,J,d1,d2⟩:=h;rw[List.length_cons,J.len,a2]
 obtain⟨G,p,t,R,dx,fs,fds,es,ds,r,rfl,a2,a3,a4,a5,a6,a7,a8,a9,J,U,q⟩:=h;have b0:j≠0:=by omega
 refine⟨_,tS (j:=j) (g:=g) (((B cdv A outer s H E H (minus H [p,t]) G (λi=>if i=0 then g7 p else if i=j then g7 t else g9) hr).ap λx _ H'=>∀cls dct,ea K H' x cls dct→E cls dct H').pc (E':=(X5 (qR P w) P w K mg base N qual (i7 st) f cdv A outer s H E).xe) (λe s' z=>?_)) hj hg,?_⟩
 ·obtain⟨y,pins,σ,H',I,⟨b,cls,dct,rfl,ix,ob,fl,OF⟩,z⟩:=z;have I0:=I.Y7 (wJ:=[]) λp hp=>absurd hp (by simp);show wpAny _ _ (Cw _ _) _ _ s';unfold Cw;refine wpAny_bind (noted I0 OF ob fl λh' T I2 t oT=>?_);exact marked g9 I2 OF t oT λh3 I3 t3=>⟨b,cls,dct,H',T,rfl,I3.os,I3.bare,I3.base,I3.hok,ob.free,ob.new,t3,oT.free,oT.new,z cls dct ix⟩
 have R0:=xm (N:=N) (j:=j) a3 a4 a5 a6 a7 a8 a9 J a0 (by omega);unfold ii at U;cases hs:m (startM N.length j fds es ds)with
 |none=>rw[hs]at U;cases U
 |some sr=>
  rw[hs]at U;have l:GH j sr=g7 r:=U;refine⟨g7 (.ref t),G,_,R0,sr,hs,?_⟩;have fin:∀{a:l9} {n:St} {G' H':Hp} {k0:List (Str×D)→List (Key×D)→MX},Be j k0 a=g7 r→RS ⟨K,H,minus H [p,t],G,λi=>if i=0 then g7 p else if i=j then g7 t else g9,g7 (0,j,C)⟩ G' H' n a→∃c o,r=k0 c o∧qS K C G H p t G' H' c o:=λ{a n G' H' k0} e R'=>by
   unfold Be at e;split at e
   ·rename_i u b9 h0 X;split at e
    ·rename_i O;cases e;obtain⟨dd,c0⟩:=Option.isSome_iff_exists.mp O;obtain⟨j',C',p',c6,c7,b1,b2,b3,b4,b5,b6,b7,b8⟩:=R'.ob.1 0 h7 u h0;cases b1;have ep:g7 p=g7 p':=b5.1 rfl;cases ep;obtain⟨v,hv,_⟩:=O0.look b7 c0;have ev:=b8 v hv _ X;obtain⟨t',c1,c2,c3,c4,c5⟩:=R'.ow j h7 _ X;have Y:(if j=0 then g7 p else if j=j then g7 t else g9)=g7 t:=by rw[if_neg b0,if_pos rfl]
     have et:t'=t:=by
      rcases c4 with z| ⟨_,z,_⟩
      ·have Z:(if j=0 then g7 p else if j=j then g7 t else g9)=g7 t':=z;rw[Y]at Z;exact(Option.some.inj Z).symm
      ·have Z:(if j=0 then g7 p else if j=j then g7 t else g9)=g9:=z;rw[Y]at Z;cases Z
     subst et;rw[ev]at c1;cases c1;exact⟨u,b9,rfl,R'.keep,R'.g0,R'.gH,R'.gnew,R'.dom,⟨c6,c7,b6,b7,hv⟩,b3,c2,c5⟩
    ·cases e
   ·cases e
  cases sr with
  |nx a=>
   refine λn G' H' s' R'=>?_;obtain⟨c,o,rfl,A'⟩:=fin l R';exact q .z5 G' H' A' .z5
  |rt w' a=>
   cases w' with
   |slot i=>cases l
   |own d=>cases l
   |val d0=>
    refine λv n G' H' s' R' c8=>?_;obtain⟨c,o,rfl,A'⟩:=fin l R';exact q v G' H' A' c8
  |ex x a=>
   refine λn G' H' s' R' cls dct ix=>?_;obtain⟨c,o,rfl,A'⟩:=fin l R';exact q cls dct G' H' A' ix
  |bk a=>cases l
  |ct a=>cases l
end
def jY (P:Program)(w:World)(K:PySem.W.Frag)(mg:Str→Option Value)(base:Heap)(k:Nat)(C:Addr)(m:Str)(ps:List Str)(sp:Sp):Prop:=
 ∃(f:Addr) (fd:FuncData),x8 P w K mg base (qR P w) k f fd ps sp∧Binds K fd ps []∧Meth K C m f
theorem mM.DI {P:Program}{w:World}{K:PySem.W.Frag}{mg:Str→Option Value}{base:Heap}{k:Nat}{C:Addr}{m qual:Str}{st:Stmt}{ps:List Str}{sp:Sp}(D:mM K C m qual st ps)(h:∀f fd,az K m qual st f fd→x8 P w K mg base (qR P w) k f fd ps sp):jY P w K mg base k C m ps sp:=by
 obtain⟨f,fd,F,b,a,n⟩:=D;exact⟨f,fd,h f fd F,Binds.all b,⟨a,n,F.kp⟩⟩
noncomputable def yW (C:Addr)(m:Str)(sp:Sp)(E:St→XK)(b:TE)(t:TA):TE:=λσ H Q=>b σ H λx H1=>∃a dx fs,x=.ref a∧H1 a=g7 (.ins C dx fs)∧fs.lookup m=g9∧t σ H1 λvs c=>sp (x::vs) c Q (E σ)
section
variable {X:Cx}{k:Nat}{f C:Addr}{fd:FuncData}{ps:List Str}{sp:Sp}{m:Str}{apos pos:Pos}{o e:Expr}{es:List Expr}{ta:TE}{t:TA}{E:St→XK}
theorem CZ(F:x8 X.prog X.w X.K X.mg X.base (qR X.prog X.w) k f fd ps sp)(hr:K4 k X.A)(d:Binds X.K fd ps [])(hx:∀pins σ H s v c,Inv X pins σ H s→qR X.prog X.w X.stack H s (E σ) v c→X.xe v c)
  (I:Inv X pins σ H s) (r:Vals vs us) (h:sp vs H Q (E σ)):wpAny (model X.prog X.w) X.A (call (.ref f) us) (EP X pins σ Q) X.xe s:=by
 have hl:us.length=ps.length:=by rw[←r.length];exact F.len _ _ _ _ h
 have a:=d s us I.fD (by rw[List.append_nil];exact hl);rw[List.append_nil]at a;refine bL (L9 (F.run X.A X.stack s H ⟨us,[]⟩ us vs Q (E σ) hr I.Br a r h) λr c b=>?_);cases r with
 |error v=>exact hx pins σ H s v c I b
 |ok e=>
  cases e with
  |ret u=>exact I.after b
  |next=>exact v6 b
  |brk=>exact v6 b
  |cont=>exact v6 b
theorem zO(y:PE X o ta)(c:Cs X.K C)(h:jY X.prog X.w X.K X.mg X.base k C m ps sp)(hr:K4 k X.A)(z:PA X (e::es) t)(hx:∀pins σ H s v g,Inv X pins σ H s→qR X.prog X.w X.stack H s (E σ) v g→X.xe v g)
  (b:i1 (e::es) X.env=(g8,eval e X.env)::i1 es X.env) (d:(m4 pos (i1 es X.env)).any (·.1)=g8)
  (B:eval (.Call (.Attribute o m apos) (e::es) [] pos) X.env=(do
   let i←eval o X.env
   gV apos.atName
   let(f,first)←P5 [i] (kz i m pl)
   ka pos f first (m4 pos (i1 (e::es) X.env)) (y7 pos (n7 [] X.env)))):
  PE X (.Call (.Attribute o m apos) (e::es) [] pos) (yW C m sp E ta t):=by
 obtain⟨f,fd,F,G,j⟩:=h;intro pins s σ H Q I h;refine PySem.W.methodCall_KW (pl:=pl) (F9 (y pins s σ H _ I h) λu s1 ⟨x,H1,n,J,a,dx,fs,ex,L,l,q⟩=>?_) B;subst ex;obtain rfl:u=Value.ref a:=J;refine uB n L c j l ?_;refine PySem.W.callWith_K (first:=[.ref a]) (h₀:=X.base) I.ok.mod.kin j.kp (F9 (z pos pins s1 σ H1 _ n q) λus s2 ⟨vs,O,p,r,N⟩=>⟨p.fD,?_⟩) b d;exact CZ (us:=.ref a::us) (vs:=.ref a::vs) F hr G hx p (.cons rfl r) N
end
noncomputable def aO (i j c:Nat)(e:FM)(ds:List D):M W:=λρ=>match ρ[i]?,ρ[j]? with
 |some (g7 (.ob l fds)),g7 (g7 (.ow h7 (.dct es)))=>if gI i j ρ=h7∧ds.length+1=c then match e fds es ds with
  |some (.ret d a b)=>g7 (.ok (.val d) ((ρ.set i (g7 (.ob l a))).set j (g7 (.ow h7 (.dct b)))))
  |some (.exc x a b)=>g7 (.ex x ((ρ.set i (g7 (.ob l a))).set j (g7 (.ow h7 (.dct b)))))
  |none=>g9
  else g9
 |_,_=>g9
noncomputable def bu (i j:Nat)(m:Str)(a:Nat)(b:FM)(c:M (List W)):M W:=M.bind (h8 i) λ_=>M.bind (BM i m) λ_=>M.bind c λd=>M.bind (Z9 d) λds=>aO i j a b ds
section
variable {X:Cx}{B:Bs}{k i j:Nat}{x y m:Str}{C:Addr}{fns ps:List Str}{fm:FM}{e:Expr}{es:List Expr}{mr:M (List W)}{p1 apos pos:Pos}
theorem Ah {ξ:XP}{σ:St}{H1 u:Hp}{Q:VK}{w:Nat}{p:Addr}{vs:List V}{x:List W}{a:l9}(z:B.O=g7 (i,j,C))(E:σ[i]?=g7 (g7 (.ref p)))(R1:RS B u H1 σ a)(q1:O5 B u H1 σ a vs x){r:R' W}(h:M.bind (Z9 x) (λds=>aO i j w fm ds) a=g7 r)
  (I:Post C4 B ξ u σ Q r):dQ B.K C w fm (.ref p::vs) H1 Q (λcls dct H'=>∃y,ea B.K H' y cls dct∧ξ y σ H'):=by
 unfold M.bind at h;cases q:Z9 x a with
 |none=>rw[q]at h;cases h
 |some r2=>
  rw[q]at h;obtain⟨ds,F,rfl⟩:=cT q;have b:aO i j w fm ds F=g7 r:=h;obtain⟨J,s2,R2,L⟩:=cS R1 q1 q;unfold aO at b;split at b
  ·rename_i l2 e l g c;split at b
   ·rename_i hc;obtain⟨ht,f⟩:=hc;obtain⟨l3,N,p3,m,n,t,d3,P,R,S,s,T,U,G,X,b9⟩:=vn z R2 ht;rw[g]at P;cases P;rw[c]at R;cases R;rw[E]at S;cases S;obtain⟨t',Y,Z,c3,c4,c5⟩:=R2.ow j h7 _ c;rw[G]at Y;cases Y;split at b
    ·rename_i d o H k;cases b;exact⟨J,p,t,vs,m,n,e,l,ds,_,rfl,f,R2.gH,X,Z,s,T,U,c5,L,k,λv G' H' A rv=>I v G' H' (s2.trans A.gg) (R2.BZ z g c E s G A) rv⟩
    ·rename_i y o H k;cases b;exact⟨J,p,t,vs,m,n,e,l,ds,_,rfl,f,R2.gH,X,Z,s,T,U,c5,L,k,λcls dct G' H' A ix=>⟨y,ix,I G' H' (s2.trans A.gg) (R2.BZ z g c E s G A)⟩⟩
    ·cases b
   ·cases b
  ·cases b
theorem rf(d:B.O=g7 (i,j,C))(t:TD C4 B ξ (bu i j m c fm mr) σ H Q):yW C m (dQ B.K C c fm) (λσ cls dct H'=>∃y,ea B.K H' y cls dct∧ξ y σ H') (kW i) (TD O5 B ξ mr) σ H Q:=by
 obtain⟨G,ρ,R,t⟩:=t;obtain⟨E,g,k,n⟩:=t.step λr h=>by
  unfold h8 at h;split at h
  ·cases h;exact⟨_,_,rfl⟩
  ·cases h
 obtain⟨rfl,rfl⟩:=lF k;obtain⟨u,b,a,o⟩:=n.step λr h=>by
  unfold BM at h;split at h
  ·split at h
   ·cases h;exact⟨_,_,rfl⟩
   ·cases h
  ·cases h
 unfold BM at a;split at a
 ·rename_i l fds hi;split at a
  ·rename_i q;cases a;obtain⟨F,I,p,dx,fs,e,f,J,L,N,s,v,P⟩:=R.ob.1 i l fds hi;rw[d]at e;cases e;refine⟨_,f,p,dx,fs,rfl,s,O0.Fd v (Option.isNone_iff_eq_none.mp q),?_⟩;refine(TD.bind (O2:=O5) R o).mono λvs H1 ⟨S,b,T,s1,w,x,r,z,A⟩=>?_;exact Ah d f w x z A
  ·cases a
 ·cases a
theorem iN (i j:Nat)(O:fQ X.K C fns)(h:jY X.prog X.w X.K X.mg X.base k C m ps (dQ X.K C d fm))(hr:K4 k X.A)(n:iW X B (e::es) mr)(F:aE X:=by exact⟨rfl,rfl,rfl,rfl⟩)(o:B.O=g7 (i,j,C):=by rfl)(hN:X.N[i]?=g7 x:=by rfl)(p:cq X.env.scope x:=by first|exact Or.inl rfl|exact Or.inr (Or.inl rfl) |exact Or.inr (Or.inr rfl))(hd:(x==("__debug__":Str))=g8:=by decide) (a:(x==("__classdict__":Str))=g8:=by decide) (q:X.K=B.K:=by rfl)
  (b:i1 (e::es) X.env=(g8,eval e X.env)::i1 es X.env:=by rfl) (c:(m4 pos (i1 es X.env)).any (·.1)=g8:=by rfl)
  (r:eval (.Call (.Attribute (.Name x p1) m apos) (e::es) [] pos) X.env=(do
   let g←eval (.Name x p1) X.env
   gV apos.atName
   let(f,first)←P5 [g] (kz g m pl)
   ka pos f first (m4 pos (i1 (e::es) X.env)) (y7 pos (n7 [] X.env))):=by rfl):
  PD X B (.Call (.Attribute (.Name x p1) m apos) (e::es) [] pos) (bu i j m d fm mr):=.mk λξ=>by
 refine(zO (X:=rz X ξ) (pl:=pl) (E:=λσ cls dct H'=>∃y,ea X.K H' y cls dct∧ξ y σ H') (A3 (X:=rz X ξ) (i:=i) (pos:=p1) hN p hd a) O.cls h hr (n.ap ξ) (BG F) b c r).imp λσ H Q t=>?_;have l:=rf o t;rw[←q]at l;exact l
theorem Ey (i j:Nat)(h:yz X.prog X.w X.K X.mg X.base k y ps (dQ X.K C f fm))(hr:K4 k X.A)(l:iW X B es mr)(F:aE X:=by exact⟨rfl,rfl,rfl,rfl⟩)(m:B.O=g7 (i,j,C):=by rfl)(hN:X.N[i]?=g7 x:=by rfl)(n:cq X.env.scope x:=by first|exact Or.inl rfl|exact Or.inr (Or.inl rfl) |exact Or.inr (Or.inr rfl))(hd:(x==("__debug__":Str))=g8:=by decide) (c:(x==("__classdict__":Str))=g8:=by decide) (o:X.K=B.K:=by rfl) (p:Gl X y:=by rfl) (d:(y==("__debug__":Str))=g8:=by decide)
  (b:i1 (.Name x p1::es) X.env=(g8,eval (.Name x p1) X.env)::i1 es X.env:=by rfl) (e:(m4 pos (i1 es X.env)).any (·.1)=g8:=by rfl):
  PD X B (.Call (.Name y apos) (.Name x p1::es) [] pos) (bu i j "" f fm mr):=.mk λξ=>by
 refine(zV (X:=rz X ξ) (E:=λσ cls dct H'=>∃y,ea X.K H' y cls dct∧ξ y σ H') h hr (E9 (A3 (X:=rz X ξ) (i:=i) (pos:=p1) hN n hd c) (l.ap ξ) b) (BG F) p d b e).imp λσ H Q t=>?_;obtain⟨v,q,a,dx,fs,r,s,u,g⟩:=rf m t;rw[←o]at g;exact⟨v,q,g⟩
end
section
variable {P:Program}{w:World}{K:PySem.W.Frag}{mg:Str→Option Value}{base:Heap}
theorem DM {x:Str}{st:Stmt}{f:Addr}{fd:FuncData}{N ps:List Str}{ms:List Bool}{k:Nat}{m:SM}(O:Nat×Nat×Addr)(F:az K x x st f fd)(S:n4 N ps (i7 st))(hm:ms.length=ps.length)(u:ms.all (!·)=h7)
  (B:∀(cdv:Value) (A:Around) (outer:List Env) (s:Shared) (H:Hp) (E:XK) (H0 HK G0:Hp) (L:Nat→Option Addr),(∀i,L i=g9)→K4 k (A.deeper (Z2 x (i7 st) s.heap.objs.size f cdv))→
   mK (X5 V1 P w K mg base N x (i7 st) f cdv A outer s H E) ⟨K,H0,HK,G0,L,g7 O⟩ (C5 st) m):x8 P w K mg base (qR P w) (k+1) f fd ps (Fq K ms (N8 m N.length ms)):=by
 have Z:ps.length≤N.length:=by have:=congrArg List.length S.pre;rw[List.length_take]at this;omega
 obtain⟨oc,od,kV,doc,pm,an,cdv,ct,osl,rfl,lk,a0⟩:=F.ex;refine uE lk a0 S (λvs H Q E h=>?_) (λA outer s H vs Q E hr h=>?_)
 ·obtain⟨G,ds,R,r,_,a,_⟩:=h;rw[a.len.1,hm]
 obtain⟨G,ds,R,r,g,a,U,q⟩:=h;refine⟨_,((B cdv A outer s H E H (minus H R) G (O8 ms R) (λi=>gE u) hr).ap λx _ H'=>∀cls dct,ea K H' x cls dct→E cls dct H').pc (E':=(X5 (qR P w) P w K mg base N x (i7 st) f cdv A outer s H E).xe) (λe X z=>?_),?_⟩
 ·obtain⟨y,pins,σ,H',I,⟨b,cls,dct,rfl,ix,ob,fl,OF⟩,z⟩:=z;have I0:=I.Y7 (wJ:=[]) λp hp=>absurd hp (by simp);show wpAny _ _ (Cw _ _) _ _ X;unfold Cw;refine wpAny_bind (noted I0 OF ob fl λh' T I2 t oT=>?_);exact marked g9 I2 OF t oT λh3 Y t3=>⟨b,cls,dct,H',T,rfl,Y.os,Y.bare,Y.base,Y.hok,ob.free,ob.new,t3,oT.free,oT.new,z cls dct ix⟩
 have R0:=RS.EQ (g7 O) (ij (N:=N) g a (by rw[a.len.1,hm];exact Z)) λi c e=>by
  obtain⟨v,e1,h1⟩:=T8 a (M3 e);rcases h1 with⟨d',rfl,h⟩ | ⟨p,d',rfl,_⟩<;>rfl
 obtain⟨a5,_⟩:=gP a u;unfold N8 at U;cases hs:m (G8 N.length ms ds)with
 |none=>rw[hs]at U;cases U
 |some sr=>
  rw[hs]at U;have n:rN ms sr=g7 r:=U;refine⟨G,G8 N.length ms ds,R0,sr,hs,?_⟩;have fin:∀{l:l9} {o:St} {G' H':Hp} {j:List D},bC ms l=g7 j→RS ⟨K,H,minus H R,G,O8 ms R,g7 O⟩ G' H' o l→After K G H R G' H' j:=λ{l o G' H' j} e R'=>
   ⟨R'.keep,R'.g0,R'.gH,R'.gnew,R'.dom,by rw[gK e u,a5];exact .nil⟩
  cases sr with
  |nx l=>
   obtain⟨j,e,rfl⟩:=Option.map_eq_some_iff.mp n;exact λo G' H' X R'=>q .z5 G' H' (fin e R') .z5
  |rt w' l=>
   cases w' with
   |slot i=>cases n
   |val d=>
    obtain⟨j,e,rfl⟩:=Option.map_eq_some_iff.mp n;exact λv o G' H' X R' J=>q v G' H' (fin e R') J
   |own d=>
    obtain⟨j,e,rfl⟩:=Option.map_eq_some_iff.mp n;exact λv o G' H' X R' J=>q v G' H' (fin e R') (let⟨p,a1,a2,a3,a4,_⟩:=J;⟨p,a1,a2,a3,a4⟩)
  |ex x l=>
   obtain⟨j,e,rfl⟩:=Option.map_eq_some_iff.mp n;exact λo G' H' X R' cls dct ix=>q cls dct G' H' (fin e R') ix
  |bk l=>cases n
  |ct l=>cases n
theorem DN {x:Str}{st:Stmt}{f:Addr}{fd:FuncData}{N ps:List Str}{ms:List Bool}{k:Nat}{m:SM}(O:Nat×Nat×Addr)(F:az K x x st f fd)(S:n4 N ps (i7 st))(U:ms.length=ps.length)(o:ms.all (!·)=h7)
  (t:∀(cdv:Value) (A:Around) (outer:List Env) (s:Shared) (H:Hp) (E:XK) (H0 HK G0:Hp) (L:Nat→Option Addr),(∀i,L i=g9)→K4 k (A.deeper (Z2 x (i7 st) s.heap.objs.size f cdv))→
   mK (X5 V1 P w K mg base N x (i7 st) f cdv A outer s H E) ⟨K,H0,HK,G0,L,g7 O⟩ (C5 st) m):x8 P w K mg base V1 (k+1) f fd ps (U0 K ms (N8 m N.length ms)):=by
 have I:ps.length≤N.length:=by have:=congrArg List.length S.pre;rw[List.length_take]at this;omega
 obtain⟨oc,od,kV,doc,pm,an,cdv,ct,osl,rfl,lk,J⟩:=F.ex;refine uE lk J S (λvs H Q E h=>?_) (λA outer s H vs Q E hr h=>?_)
 ·obtain⟨G,ds,y,r,_,a,_⟩:=h;rw[a.len.1,U]
 obtain⟨G,ds,y,r,g,a,B,q⟩:=h;refine⟨_,((t cdv A outer s H E H (minus H y) G (O8 ms y) (λi=>gE o) hr).ap λ_ _ _=>False).pc (E':=(X5 V1 P w K mg base N x (i7 st) f cdv A outer s H E).xe) (λe s z=>?_),?_⟩
 ·obtain⟨_,_,_,_,_,_,z⟩:=z;exact z.elim
 have Y:=RS.EQ (g7 O) (ij (N:=N) g a (by rw[a.len.1,U];exact I)) λi c e=>by
  obtain⟨v,e1,Z⟩:=T8 a (M3 e);rcases Z with⟨d',rfl,h⟩ | ⟨p,d',rfl,_⟩<;>rfl
 obtain⟨R,_⟩:=gP a o;unfold N8 at B;cases hs:m (G8 N.length ms ds)with
 |none=>rw[hs]at B;cases B
 |some T=>
  rw[hs]at B;have l:rN ms T=g7 r:=B;refine⟨G,G8 N.length ms ds,Y,T,hs,?_⟩;have fin:∀{j:l9} {n:St} {G' H':Hp} {b:List D},bC ms j=g7 b→RS ⟨K,H,minus H y,G,O8 ms y,g7 O⟩ G' H' n j→After K G H y G' H' b:=λ{j n G' H' b} e R'=>
   ⟨R'.keep,R'.g0,R'.gH,R'.gnew,R'.dom,by rw[gK e o,R];exact .nil⟩
  cases T with
  |nx j=>
   obtain⟨b,e,rfl⟩:=Option.map_eq_some_iff.mp l;exact λn G' H' X R'=>q .z5 G' H' (fin e R') .z5
  |rt w' j=>
   cases w' with
   |slot i=>cases l
   |val d=>
    obtain⟨b,e,rfl⟩:=Option.map_eq_some_iff.mp l;exact λv n G' H' X R' u=>q v G' H' (fin e R') u
   |own d=>
    obtain⟨b,e,rfl⟩:=Option.map_eq_some_iff.mp l;exact λv n G' H' X R' u=>q v G' H' (fin e R') (let⟨p,a1,a2,a3,a4,_⟩:=u;⟨p,a1,a2,a3,a4⟩)
  |ex x j=>
   obtain⟨b,e,rfl⟩:=Option.map_eq_some_iff.mp l;exact q.elim
  |bk j=>cases l
  |ct j=>cases l
end
section
variable {X:Cx}{cx en yn f:Str}{C C1 fI:Addr}{i j:Nat}{n c:Int}{p1 p2 p3 p4 Ir Iq wK Fw Fv Fu Ip:Pos}{k1}
theorem DJ (h:gR X.K X.mg cx C C1 fI f)(q:X.mg "isinstance"=g9) (hN:X.N.Nodup)
  (hi:X.N[i]?=g7 en) (r:X.N[j]?=g7 yn) (b:X.env.scope.names.lookup en=g7 .local) (d:X.env.scope.names.lookup yn=g7 .local)
  (s:Gl X "isinstance") (t:Gl X cx) (e:(en==("__debug__":Str))=g8) (k:(cx==("__debug__":Str))=g8) (g:(en==("__classdict__":Str))=g8)
  (l:∀{env:Env},env=X.env→v7 (.Name en wK) f env (eval (.Name en wK) env)=eval (.Name en wK) env)
  (hs:∀{env:Env},env=X.env→B4 (.IfExp (.Call (.Name "isinstance" p1) [.Name en p2,.Name cx p3] [] p4) (.Attribute (.Name en wK) f Fw) (.UnaryOp .USub (.Constant (.int c) k1 Fv) Fu) Ip) (g7 (.Name yn Ir)) Iq.line env=pure g8) (a:Addr) (m:Option Addr):
  PS ((hx X (.ref a)).A1 λ_ _=>False) (.Assign [.Name yn Ir] (.IfExp (.Call (.Name "isinstance" p1) [.Name en p2,.Name cx p3] [] p4) (.Attribute (.Name en wK) f Fw) (.UnaryOp .USub (.Constant (.int c) k1 Fv) Fu) Ip) Iq)
   (λD σ H=>σ[i]?=g7 (g7 (.ref a))∧H a=g7 (.ext (iI a C m))∧uW H [(f,.int n)] m∧D.nx (σ.set j (g7 (.int n))) H):=by
 have u:PE ((hx X (.ref a)).A1 λ_ _=>False) (.Call (.Name "isinstance" p1) [.Name en p2,.Name cx p3] [] p4) _:=im ju s q L5 (E9 (A3 hi (.inl b) e g) (E9 (pJ t h.mg (v:=.ref C) rfl k) X8));have w:PE ((hx X (.ref a)).A1 λ_ _=>False) (.Attribute (.Name en wK) f Fw) _:=zQ (X:=(hx X (.ref a)).A1 λ_ _=>False) h (A3 hi (.inl b) e g) (l rfl);have x:PE ((hx X (.ref a)).A1 λ_ _=>False) (.UnaryOp .USub (.Constant (.int c) k1 Fv) Fu) _:=ly gn dr;refine(pH (X:=(hx X (.ref a)).A1 λ_ _=>False) hN r (.inl d) (rK (tR u) w x) (hs rfl) (.inr d)).imp λD σ H ⟨o,p,y,A⟩=>?_;rcases y with⟨z,_⟩ | ⟨dx,F,G,z,B,E⟩
 ·cases z
 ·cases z;subst B;refine⟨_,o,⟨a,C,g7 dx,g7 (.ref fI),.ref C,rfl,p,h.ok,.inl rfl,h7,rfl,?_⟩⟩;dsimp only;rw[if_pos rfl];exact⟨_,o,a,dx,n,rfl,p,E,A⟩
end
end L3
namespace Op
open PySem PySem.W PyProof.Rows PySem.Calls
noncomputable def den:Code→Sem Fin:=PySem.W.Fast.tw11892475500146522536 PySem.W.Fast.tw14364793385576792824
theorem Hz:denote qX=den:=congr PySem.W.Fast.te11892475500146522536 PySem.W.Fast.te14364793385576792824
noncomputable def go (p:Program) (w:World) (n:Nat):SharedT→Thread→Option SharedT:=
 @Nat.rec (λ_=>SharedT→Thread→Option SharedT) (λ_ _=>g9)
  (λ_ ih s t=>match OJ t with
   |true=>g7 s
   |false=>match PySem.W.Fast.tw6613529449190102663 11 (g7 (.ref 6)) t with
    |false=>g9
    |true=>match PySem.W.Fast.tw10156331382660048174 den p w s t with
     |some (a,b)=>ih a b
     |none=>g9) n
theorem iD:∀{n:Nat} {s a:SharedT} {t:Thread},go p w n s t=g7 a→topRun qX p w 11 (g7 (.ref 6)) n s.abs t=g7 a.abs
 |0,_,_,_,h=>by cases h
 |n+1,s,a,t,h=>by
  change (match OJ t with
   |true=>g7 s
   |false=>match PySem.W.Fast.tw6613529449190102663 11 (g7 (.ref 6)) t with
    |false=>g9
    |true=>match PySem.W.Fast.tw10156331382660048174 den p w s t with
     |some (a,e)=>go p w n a e
     |none=>g9)=g7 a at h
  rw[←PySem.W.Fast.te6613529449190102663,←PySem.W.Fast.te10156331382660048174,←Hz]at h;unfold topRun;cases b:OJ t with
  |true=>rw[b]at h;cases h;rfl
  |false=>
   rw[b]at h;cases hk:stepOk 11 (g7 (.ref 6)) t with
   |false=>rw[hk]at h;cases h
   |true=>
    rw[hk]at h;cases hs:stepT (denote qX) p w s t with
    |none=>rw[hs]at h;cases h
    |some r=>obtain⟨c,d⟩:=r;rw[hs]at h;rw[stepT_spec hs];exact iD h
noncomputable def tree (l:List Obj):Nat→BT→BT:=@List.rec Obj (λ_=>Nat→BT→BT) (λ_ t=>t) (λo _ ih n t=>ih (n+1) (t.ins n o)) l
noncomputable def s0 (w:World) (os:OsState):SharedT:=⟨tree (E8 w.params).objs.toList 0 .nil,11,(E8 w.params).life,Array.mk [],wQ,Cm,os⟩
theorem Gf (w:World)(os:OsState):(s0 w os).abs=⟨E8 w.params,Array.mk [],wQ,Cm,os⟩:=by kernel_rfl
theorem left {p q:Program}{a:List Str}{b:Shared→Bool}{α:Type}{c:Shared→α}{g:World→α}{N n:Nat}(e:opening p=plainProg p.main.scope.names)(hN:KM 600 N=h7)(f:∀s,NS p s=g7 s)(i:KM n N=h7)
  (h:∀w,(λos=>(go p w n (s0 w os) (OH p)).map λs=>((staticsOk (Q9 p.main.body) (E8 w.params) s.abs.heap&&wO p s.abs.heap&&FE s.abs&&FC (E8 w.params) s.abs.heap),
    No q a (Q9 p.main.body) b h7 s.abs,c s.abs))=λ_=>g7 (h7,Np q a,g w)):LeftO p q a b c g N:=λw=>by
 obtain⟨⟨j,gs,d,k,os⟩,l,m⟩:=Option.map_eq_some_iff.mp (boot_open e hN f w);obtain⟨rfl,rfl,rfl,rfl⟩:j=E8 w.params∧gs=Array.mk []∧d=wQ∧k=Cm:=by simpa using m
 obtain⟨s,hs,o⟩:=Option.map_eq_some_iff.mp (congrFun (h w) os);obtain⟨u,v,x⟩:_∧_∧_:=by simpa only[EM]using o
 have r:=topRun_mono (N-n) _ _ _ _ (iD hs);rw[show n+(N-n)=N by have:=m6 i;omega,Gf]at r;have z:((E8 w.params).isNs k8&&(Array.mk []:Array GenState).size==0,(E8 w.params).objs.size,(E8 w.params).nsMap k8 "__annotations__")=(h7,11,g7 (.ref 6)):=by kernel_rfl
 obtain⟨y,A,B⟩:_∧_∧_:=by simpa only[EM]using z
 have t:OI qX p w N ⟨E8 w.params,Array.mk [],wQ,Cm,os⟩=g7 s.abs:=by
  unfold OI;dsimp only;rw[y,A,B,r];show(match staticsOk (Q9 p.main.body) (E8 w.params) s.abs.heap&&wO p s.abs.heap&&FE s.abs&&FC (E8 w.params) s.abs.heap with|true=>_|false=>_)=_;rw[u]
 unfold openEnds;rw[l];show(OI qX p w N _).map _=_;rw[t];exact congrArg g7 (yC v x)
end Op
namespace Op
open PySem PySem.W PyProof.Rows PySem.Calls L2
noncomputable def DP (h:Heap):Frag:=(List.range h.objs.size).filterMap λa=>(h.get? a).map λo=>(a,o)
theorem Am {K:Frag}(h:K.lookup a=g7 o):(a,o)∈K:=by
 induction K with
 |nil=>cases h
 |cons p r ih=>
  obtain⟨b,x⟩:=p;rw[List.lookup_cons]at h;split at h
  ·rename_i e;cases h;rw[eq_of_beq e];exact List.mem_cons_self
  ·exact List.mem_cons_of_mem _ (ih h)
theorem DO (h:Heap):(DP h).In h:=λa o e=>by
 obtain⟨b,_,c⟩:=List.mem_filterMap.mp (Am e);obtain⟨o',d,q⟩:=Option.map_eq_some_iff.mp c;cases q;exact d
structure Fn where
 at_:Frag→Option (Option Value)
 x:Str
 q:Str
 st:Stmt
noncomputable def Fn.CT (K:Frag)(d:Fn):Option FuncData:=match d.at_ K with
 |some (g7 (.ref f))=>(match K.lookup f with
  |some ⟨.type t,_,.func fd,_⟩=>(match codeIn K fd.code d.q&&Nr K (.ref f)&&isFn K (.ref f)&&t == "function" with
   |true=>g7 {fd with kwdefaults:=.none,doc:=.none,pyModule:=.none,annotations:=g9,code:=.none,closureTuple:=.none}
   |false=>g9)
  |_=>g9)
 |_=>g9
noncomputable def Fn.due (d:Fn):FuncData:=fnOf d.x d.q (Q5 d.st) (C5 d.st) (i7 d.st) .none .none .none .none g9 .none .none
theorem Fn.ok {K:Frag}{d:Fn}(h:d.CT K=g7 d.due):∃f od kV doc pm an cdv ct sl,d.at_ K=g7 (g7 (.ref f))∧K.lookup f=g7 ⟨.type "function",od,.func (fnOf d.x d.q (Q5 d.st) (C5 d.st) (i7 d.st) .none kV doc pm an cdv ct),sl⟩∧codeIn K cdv d.q=h7∧Nr K (.ref f)=h7∧isFn K (.ref f)=h7:=by
 unfold Fn.CT at h;split at h
 ·rename_i f e;split at h
  ·rename_i t od fd sl l;split at h
   ·rename_i g;obtain⟨g,a⟩:=K5.mp g;obtain⟨g,c⟩:=K5.mp g;obtain⟨i,j⟩:=K5.mp g;cases eq_of_beq a;obtain⟨n,q,p,b,sc,k,cl,m,kV,doc,pm,an,cd,ct,bl⟩:=fd;cases h;exact⟨f,od,kV,doc,pm,an,cd,ct,sl,e,l,i,j,c⟩
   ·cases h
  ·cases h
 ·cases h
noncomputable def hook (ds:List Fn)(ok:Frag→Bool):Hook where
 α:=List (Option FuncData)×Bool
 obs s:=(ds.map (Fn.CT (DP s.heap)),ok (DP s.heap))
 val _:=(ds.map λd=>g7 d.due,h7)
 says _ h:=∃K:Frag,K.In h∧(∀d∈ds,d.CT K=g7 d.due)∧ok K=h7
 of _ s e:=⟨DP s.heap,DO _,λd hd=>by
  have e:=congrArg Prod.fst e;exact List.map_inj_left.mp e d hd,congrArg Prod.snd e⟩
 keeps _ _ _ y k:=let⟨K,a,b⟩:=y;⟨K,a.keeps k,b⟩
theorem FG {l:OpenLaw}{d:DefRec}(v:l.most=g7 63)(n:d.params.defaults=[])(hr:K4 k kA)
  (F:∀(w:World) (mg:Str→Option Value) (m:Addr) (h:Heap) (K:Frag),K.In h→(∀d∈ds,d.CT K=g7 d.due)→ok K=h7→h.Ns k8 mg→mg d.name=g7 (.ref m)→
   ∃fd:FuncData,(∀(s:Shared) (u:Value),vg s fd ⟨[u],[]⟩ [(x,u)])∧∀base:Heap,K.In base→base.Ns k8 mg→x8 l.prog w K mg base V1 k m fd [x] (zg K)):
  WalkO q e XP (hook ds ok).says l.row.toRowW d [] (λf vs=>PySem.call f vs):=by
 refine Att.ti v n λw s₀ r mg mb m o pm cd doc a vs ns G Y N hd y p j i c A=>?_;obtain⟨K,t,B,E⟩:=Y;obtain⟨fd,I,J⟩:=F w mg m _ K t B E G.T.g p;exact Au t G.T.g G.T.b G.T.builtins G.T.nolimit A j i (m8 c (by decide)) hr J I (λH O L=>⟨a,ns,rfl,L,c,λ_=>rfl⟩) λ_ _ _ z=>z
noncomputable def eU (st:Stmt):DefRec:=match st with
 |.FunctionDef n a b _ _ _ sc _ _ pos=>⟨n,a,b,sc,pos⟩
 |_=>⟨"",Q5 st,[],i7 st,⟨0,0,0,0⟩⟩
theorem holds {l:OpenLaw}{i n k:Nat}{ds:List Fn}{ok:Frag→Bool}{x:Str}{st:Stmt}
  (w1:PySem.W.Fast.tw9446332074065402090 l=h7) (e:opening l.prog=plainProg l.prog.main.scope.names) (f:∀s,NS l.prog s=g7 s) (j:KM n 9999=h7)
  (h:∀w,(λos=>(go l.prog w n (s0 w os) (OH l.prog)).map λs=>((staticsOk (Q9 l.prog.main.body) (E8 w.params) s.abs.heap&&wO l.prog s.abs.heap&&FE s.abs&&FC (E8 w.params) s.abs.heap),
    No (view l.prog [i]) l.prog.boundNames (Q9 l.prog.main.body) (λs=>xlAt (view l.prog [i]) [] s&&recOk [] s) h7 s.abs,(hook ds ok).obs s.abs))=λ_=>g7 (h7,Np (view l.prog [i]) l.prog.boundNames,(hook ds ok).val w))
  (a:defOf (view l.prog [i]) l.name=g7 (eU st,[])) (m:l.prog.theDef l.name=g7 ((eU st).params,(eU st).body,(eU st).scope)) (hk:kwWritten? (eU st).params.kwonlyargs (eU st).params.kw_defaults=g7 [])
  (o:(chainsOk (view l.prog [i])&&opensWell l.prog&&(frees l.row.toRowW&&l.row.within.isEmpty))=h7) (p:l.prog.bare) (t:l.row.toRowW.promised) (v:l.most=g7 63) (c:(eU st).params.defaults=[]) (hr:K4 k kA)
  (F:∀(w:World) (mg:Str→Option Value) (g:Addr) (h:Heap) (K:Frag),K.In h→(∀d∈ds,d.CT K=g7 d.due)→ok K=h7→h.Ns k8 mg→mg (eU st).name=g7 (.ref g)→
   ∃fd:FuncData,(∀(s:Shared) (u:Value),vg s fd ⟨[u],[]⟩ [(x,u)])∧∀base:Heap,K.In base→base.Ns k8 mg→x8 l.prog w K mg base V1 k g fd [x] (zg K)):l.Holds:=
 holds_law (by rw[PySem.W.Fast.te9446332074065402090];exact w1) λb=>
  holds_open (r:=l.row) (q:=view l.prog [i]) (loose:=l.prog.boundNames) (Xt:=λs=>xlAt (view l.prog [i]) [] s&&recOk [] s) (XP:=XL (view l.prog [i]) []) (Yf:=(hook ds ok).obs) (Ya:=(hook ds ok).val) (YP:=(hook ds ok).says) (N:=9999)
   (left e (by decide) f j h) (hook ds ok).of (hook ds ok).keeps (λs e=>xl_of s (K5.mp e).1) XL.keeps a m hk (λs e=>recFacts_of (K5.mp e).2) (fj _) b o p t (FG v c hr F)
section
variable {K:Frag}{h:Heap}{mg:Str→Option Value}{x q c:Str}{st:Stmt}{ps fns:List Str}{C:Addr}
noncomputable def fn (x:Str)(st:Stmt):Fn:=⟨λK=>nsIn K k8 x,x,x,st⟩
noncomputable def clsAt (K:Frag)(c:Str):Option Addr:=match nsIn K k8 c with
 |some (g7 (.ref C))=>g7 C
 |_=>g9
noncomputable def mt (c x q:Str)(st:Stmt):Fn:=⟨λK=>(clsAt K c).bind λC=>aG K (.ref C) x,x,q,st⟩
def Bd (x q:Str)(st:Stmt)(ps:List Str):Prop:=∀(kV doc pm:Value) (an:Option Addr) (cdv ct:Value) (us:List Value),us.length=ps.length→gm (fnOf x q (Q5 st) (C5 st) (i7 st) .none kV doc pm an cdv ct) ⟨us,[]⟩=pure (ps.zip us)
theorem B6 (X:K.In h)(G:h.Ns k8 mg)(e:(fn x st).CT K=g7 (fn x st).due)(b:Bd x x st ps):L2.Def K mg x st ps:=by
 obtain⟨f,od,kV,doc,pm,an,cdv,ct,sl,a,l,c,k,n⟩:=Fn.ok e;exact L2.HA X G a l c k b
theorem lD (d:clsAt K c=g7 C)(e:(mt c x q st).CT K=g7 (mt c x q st).due)(b:Bd x q st ps):L3.mM K C x q st ps:=by
 obtain⟨f,od,kV,doc,pm,an,cdv,ct,sl,a,l,c,k,n⟩:=Fn.ok e;have a:(clsAt K _).bind _=_:=a;rw[d]at a;exact L3.Es a l c k n b
theorem qD (a:clsAt K c=g7 C):nsIn K k8 c=g7 (g7 (.ref C)):=by
 unfold clsAt at a;split at a
 ·rename_i e;cases a;exact e
 ·cases a
noncomputable def isObj (K:Frag)(fns:List Str)(C:Addr):Bool:=plainGet K C Str.empty&&hasDictIn K C&&plainOver K C&&decide (aG K (.ref C) "__setattr__"=g7 (g7 (.builtin "object.__setattr__")))&&makesIn K C&&Nr K (.ref C)&&fns.all λf=>decide (aG K (.ref C) f=g7 g9)
theorem GN (X:K.In h)(G:h.Ns k8 mg)(e:(clsAt K c).any (isObj K fns)=h7):∃C,clsAt K c=g7 C∧mg c=g7 (.ref C)∧L3.fQ K C fns∧makesIn K C=h7∧Nr K (.ref C)=h7:=by
 cases a:clsAt K c with
 |none=>rw[a]at e;cases e
 |some C=>
  rw[a]at e;have e:isObj K fns C=h7:=e;unfold isObj at e;simp only[l8,List.all_eq_true,decide_eq_true_eq]at e;obtain⟨⟨⟨⟨⟨⟨b,d⟩,g⟩,i⟩,j⟩,l⟩,m⟩:=e;exact⟨C,rfl,mg_of X G (qD a),⟨⟨b,d,g,i⟩,λk f n=>m f (List.mem_of_getElem? n)⟩,j,l⟩
noncomputable def MU (K:Frag)(bs:List Str):Bool:=bs.all λb=>decide (nsIn K k8 b=g7 g9)
theorem br (X:K.In h)(G:h.Ns k8 mg)(e:MU K bs=h7)(k:Nat)(a:bs[k]?=g7 b):mg b=g9:=mg_none_of X G (of_decide_eq_true (List.all_eq_true.mp e b (List.mem_of_getElem? a)))
noncomputable def isStr (s:Str):Option (Option Value)→Bool
 |some (g7 (.str t _))=>t==s
 |_=>g8
theorem uP (X:K.In h)(G:h.Ns k8 mg)(e:isStr s (nsIn K k8 x)=h7):L2.Cg mg x (.str s):=by
 cases a:nsIn K k8 x with
 |none=>rw[a]at e;cases e
 |some o=>
  rw[a]at e;unfold isStr at e;split at e
  ·rename_i q;cases q;exact L2.HF X G a ⟨_,by rw[eq_of_beq e]⟩
  ·cases e
theorem mI(h:(a&&b)=h7):a=h7∧b=h7:=K5.mp h
end
section
variable {K:Frag}{h:Heap}{mg:Str→Option Value}{x q c up f ln:Str}{st:Stmt}{C C1:Addr}
noncomputable def Jx (s:String):Option (Option Value)→Bool
 |some (g7 (.builtin t))=>t==s
 |_=>g8
theorem um(e:Jx s o=h7):o=g7 (g7 (.builtin s)):=by
 unfold Jx at e;split at e
 ·rw[eq_of_beq e]
 ·cases e
noncomputable def Ff (K:Frag)(f:Str)(C1 C:Addr):Bool:=L3.kq K C1 g9&&(match aG K (.ref C) "__init__" with
 |some (g7 (.ref fI))=>L3.kq K C (g7 (.ref fI))
 |_=>g8)&&((Nu K C).any λcd=>cd.mro==U8 C C1&&cd.hasDict)&&Jx "object.__setattr__" (aG K (.ref C) "__setattr__")&&Jx "BaseException.__getattribute__" (aG K (.ref C) "__getattribute__")&&decide (aG K (.ref C) "__getattr__"=g7 g9)&&decide (aG K (.ref C) f=g7 g9)&&readsIn K C1 (.type "type")&&(match findCls K (.ref C1) (.type "type") "__init__" with
 |some (.val (.builtin t))=>t == "ValueError.__init__"
 |_=>g8)&&Jx "type.__getattribute__" (specialIn K (.ref C1) "__getattribute__")&&L3.subIn K C C1
noncomputable def Bp (K:Frag)(up c f:Str):Bool:=match clsAt K up,clsAt K c with
 |some C1,g7 C=>Ff K f C1 C
 |_,_=>g8
theorem Hu (X:K.In h)(G:h.Ns k8 mg)(e:Bp K up c f=h7)(d:(mt c "__init__" q st).CT K=g7 (mt c "__init__" q st).due) (b:Bd "__init__" q st ["self",ln]):∃C1 C fI,L3.Ce K mg up C1∧L3.gR K mg c C C1 fI f∧L3.wH K mg up C1∧L3.subIn K C C1=h7∧L3.EG K fI q st ln:=by
 unfold Bp at e;split at e
 ·rename_i C1 C m o;obtain⟨fI,od,kV,doc,pm,an,cdv,ct,sl,a,l,p,k,n⟩:=Fn.ok d;have a:(clsAt K _).bind _=_:=a;rw[o]at a;have a:aG K (.ref C) "__init__"=g7 (g7 (.ref fI)):=a;unfold Ff at e;rw[a]at e;simp only[l8,decide_eq_true_eq]at e;obtain⟨⟨⟨⟨⟨⟨⟨⟨⟨⟨r,s⟩,u⟩,v⟩,w⟩,x⟩,y⟩,z⟩,g⟩,i⟩,j⟩:=e;refine⟨C1,C,fI,L3.Hr X G (qD m) r,L3.Ea X G (qD o) a s u (um v) (um w) x y,⟨mg_of X G (qD m),z,?_,um i⟩,j,L3.Et l p k n rfl b⟩;split at g
  ·rename_i t A;rw[A,eq_of_beq g]
  ·cases g
 ·cases e
end
end Op
namespace K13
open PySem L2 L3
noncomputable def top (i:Nat):Stmt:=PySem.Challenge.pw_clausekeep_k13_steps_taken.main.body.getD i (.Pass ⟨0,0,0,0⟩)
noncomputable abbrev dh:Stmt:=top 1
theorem jC:n4 ["clauses"] ["clauses"] (i7 dh):=⟨rfl,rfl,rfl,by decide +kernel,rfl,by decide +kernel,by decide +kernel⟩
noncomputable abbrev bS:Stmt:=top 2
theorem hR:n4 ["literals"] ["literals"] (i7 bS):=⟨rfl,rfl,rfl,by decide +kernel,rfl,by decide +kernel,by decide +kernel⟩
noncomputable abbrev ie:Stmt:=top 3
theorem nY:n4 ["truths","clause","found","literal"] ["truths","clause"] (i7 ie):=⟨rfl,rfl,rfl,by decide +kernel,rfl,by decide +kernel,by decide +kernel⟩
noncomputable abbrev dm:Stmt:=top 4
theorem jG:n4 ["clause","seen","literal"] ["clause"] (i7 dm):=⟨rfl,rfl,rfl,by decide +kernel,rfl,by decide +kernel,by decide +kernel⟩
noncomputable abbrev R9:Stmt:=inClass (top 7) 0
theorem eJ:n4 ["self","place"] ["self","place"] (i7 R9):=⟨rfl,rfl,rfl,by decide +kernel,rfl,by decide +kernel,by decide +kernel⟩
noncomputable abbrev fv:Stmt:=top 12
theorem lj:n4 ["table","clause","hints","truths","place","outcome"] ["table","clause","hints"] (i7 fv):=⟨rfl,rfl,rfl,by decide +kernel,rfl,by decide +kernel,by decide +kernel⟩
noncomputable abbrev bT:Stmt:=top 13
theorem hU:n4 ["table","truths","hint","literals"] ["table","truths","hint"] (i7 bT):=⟨rfl,rfl,rfl,by decide +kernel,rfl,by decide +kernel,by decide +kernel⟩
noncomputable abbrev Y5:Stmt:=top 14
theorem eG:n4 ["table","truths","first","hints","groups","opposed"] ["table","truths","first","hints"] (i7 Y5):=⟨rfl,rfl,rfl,by decide +kernel,rfl,by decide +kernel,by decide +kernel⟩
noncomputable abbrev bZ:Stmt:=top 15
theorem ib:n4 ["hints","groups","hint"] ["hints"] (i7 bZ):=⟨rfl,rfl,rfl,by decide +kernel,rfl,by decide +kernel,by decide +kernel⟩
noncomputable abbrev Y6:Stmt:=top 16
theorem eI:n4 ["table","truths","first","group","hints","more","literal"] ["table","truths","first","group"] (i7 Y6):=⟨rfl,rfl,rfl,by decide +kernel,rfl,by decide +kernel,by decide +kernel⟩
noncomputable abbrev bY:Stmt:=top 17
theorem ia:n4 ["table","truths","hints","hint"] ["table","truths","hints"] (i7 bY):=⟨rfl,rfl,rfl,by decide +kernel,rfl,by decide +kernel,by decide +kernel⟩
noncomputable abbrev F6:Stmt:=inClass (top 19) 0
theorem bo:n4 ["self","variables","clauses","self.table"] ["self","variables","clauses"] (i7 F6):=⟨rfl,rfl,rfl,by decide +kernel,rfl,by decide +kernel,by decide +kernel⟩
noncomputable abbrev S5:Stmt:=inClass (top 19) 1
theorem eK:n4 ["self","step","self.table"] ["self","step"] (i7 S5):=⟨rfl,rfl,rfl,by decide +kernel,rfl,by decide +kernel,by decide +kernel⟩
noncomputable abbrev A6:Stmt:=inClass (top 19) 2
theorem W2:n4 ["self","numbers","number","self.table"] ["self","numbers"] (i7 A6):=⟨rfl,rfl,rfl,by decide +kernel,rfl,by decide +kernel,by decide +kernel⟩
noncomputable abbrev D0:Stmt:=inClass (top 19) 3
theorem Z5:n4 ["self","number","clause","hints","self.table"] ["self","number","clause","hints"] (i7 D0):=⟨rfl,rfl,rfl,by decide +kernel,rfl,by decide +kernel,by decide +kernel⟩
noncomputable abbrev F5:Stmt:=inClass (top 19) 4
theorem bn:n4 ["self","number","clause","hints","self.table"] ["self","number","clause","hints"] (i7 F5):=⟨rfl,rfl,rfl,by decide +kernel,rfl,by decide +kernel,by decide +kernel⟩
noncomputable abbrev cM:Stmt:=top 20
theorem ll:n4 ["variables","clauses","steps","keeper","step","keeper.table"] ["variables","clauses","steps"] (i7 cM):=⟨rfl,rfl,rfl,by decide +kernel,rfl,by decide +kernel,by decide +kernel⟩
noncomputable abbrev dk:Stmt:=top 22
theorem jF:n4 ["_law_script","_law_k"] ["_law_script","_law_k"] (i7 dk):=⟨rfl,rfl,rfl,by decide +kernel,rfl,by decide +kernel,by decide +kernel⟩
noncomputable abbrev fu:Stmt:=top 23
theorem lh:n4 ["_law_script","_law_k","_law_number"] ["_law_script","_law_k"] (i7 fu):=⟨rfl,rfl,rfl,by decide +kernel,rfl,by decide +kernel,by decide +kernel⟩
noncomputable abbrev bU:Stmt:=top 24
theorem hV:n4 ["_law_found"] ["_law_found"] (i7 bU):=⟨rfl,rfl,rfl,by decide +kernel,rfl,by decide +kernel,by decide +kernel⟩
noncomputable abbrev aL:Stmt:=top 26
theorem fV:n4 ["_law_script","_law_base","_law_variables","_law_most","_law_number","_law_size","_law_found","_law_k","_law_part"] ["_law_script","_law_base","_law_variables","_law_most"] (i7 aL):=⟨rfl,rfl,rfl,by decide +kernel,rfl,by decide +kernel,by decide +kernel⟩
noncomputable abbrev Y3:Stmt:=top 27
theorem eE:n4 ["_law_script","_law_base","_law_variables","_law_many"] ["_law_script","_law_base"] (i7 Y3):=⟨rfl,rfl,rfl,by decide +kernel,rfl,by decide +kernel,by decide +kernel⟩
noncomputable abbrev dj:Stmt:=top 29
theorem jE:n4 ["_law_true_ones","_law_clause_here","_law_found","_law_literal"] ["_law_true_ones","_law_clause_here"] (i7 dj):=⟨rfl,rfl,rfl,by decide +kernel,rfl,by decide +kernel,by decide +kernel⟩
noncomputable abbrev bW:Stmt:=top 30
theorem hY:n4 ["_law_table_here","_law_literals","_law_true_ones","_law_hints_here","_law_k","_law_number","_law_left"] ["_law_table_here","_law_literals"] (i7 bW):=⟨rfl,rfl,rfl,by decide +kernel,rfl,by decide +kernel,by decide +kernel⟩
noncomputable abbrev di:Stmt:=top 31
theorem jD:n4 ["_law_table_here","_law_true_ones","_law_hints_here","_law_used","_law_hint","_law_left"] ["_law_table_here","_law_true_ones","_law_hints_here"] (i7 di):=⟨rfl,rfl,rfl,by decide +kernel,rfl,by decide +kernel,by decide +kernel⟩
noncomputable abbrev bX:Stmt:=top 32
theorem hZ:n4 ["_law_table_here","_law_true_ones","_law_first","_law_number","_law_hints_here","_law_literal"] ["_law_table_here","_law_true_ones","_law_first","_law_number","_law_hints_here"] (i7 bX):=⟨rfl,rfl,rfl,by decide +kernel,rfl,by decide +kernel,by decide +kernel⟩
noncomputable abbrev Y4:Stmt:=top 33
theorem eF:n4 ["_law_table_here","_law_clause_here","_law_hints_here","_law_true_ones","_law_end","_law_groups","_law_hint","_law_wanted"] ["_law_table_here","_law_clause_here","_law_hints_here"] (i7 Y4):=⟨rfl,rfl,rfl,by decide +kernel,rfl,by decide +kernel,by decide +kernel⟩
noncomputable abbrev T5:Stmt:=top 35
theorem cL:n4 ["_law_script","_law_base","_law_table_here","_law_clause_here","_law_number","_law_hints_here","_law_way","_law_at","_law_first","_law_rest","_law_one","_law_others","_law_true_ones","_law_group_here"] ["_law_script","_law_base","_law_table_here","_law_clause_here"] (i7 T5):=⟨rfl,rfl,rfl,by decide +kernel,rfl,by decide +kernel,by decide +kernel⟩
noncomputable abbrev bV:Stmt:=top 36
theorem hX:n4 ["_law_script","_law_base","_law_formula_here","_law_many","_law_table_here","_law_k","_law_top","_law_steps_here","_law_number","_law_gone","_law_one","_law_clause_here","_law_hints_here","_law_place"] ["_law_script","_law_base","_law_formula_here","_law_many"] (i7 bV):=⟨rfl,rfl,rfl,by decide +kernel,rfl,by decide +kernel,by decide +kernel⟩
noncomputable abbrev aK:Stmt:=top 37
theorem fU:n4 ["_law_formula_here","_law_steps_here","_law_table_here","_law_k","_law_top","_law_step","_law_one","_law_good"] ["_law_formula_here","_law_steps_here"] (i7 aK):=⟨rfl,rfl,rfl,by decide +kernel,rfl,by decide +kernel,by decide +kernel⟩
noncomputable abbrev Z6:Stmt:=top 38
theorem hW:n4 ["_law_keeper","_law_step","_law_found","e","_law_keeper.table"] ["_law_keeper","_law_step"] (i7 Z6):=⟨rfl,rfl,rfl,by decide +kernel,rfl,by decide +kernel,by decide +kernel⟩
noncomputable abbrev nZ:Stmt:=top 39
theorem zl:n4 ["_law_script","_law_formula_here","_law_steps_here","_law_due","_law_keeper","_law_wrong","_law_done","e","_law_good","_law_step","_law_told","_law_place","_law_keeper.table"] ["_law_script"] (i7 nZ):=⟨rfl,rfl,rfl,by decide +kernel,rfl,by decide +kernel,by decide +kernel⟩
noncomputable def Dy (p v:Int):Int:=(1+p / 2 % v)*(1-2*(p % 2))
noncomputable def sizeV (n a:Int):Int:=if n % 6=0 then 1 else if n % 6=1 then 2 else if n % 6=2 then 3 else if n % 6=3 then 2 else if n % 6=4 then 3 else n / 6 % (a+1)
noncomputable def aZ (ns:List Int)(b v a:Int):List Int:=(List.range (sizeV (K6 ns b) a).toNat).map λ(k:Nat)=>Dy (K6 ns (b+1+(k:Int))) v
noncomputable def M6 (ns:List Int)(b:Int):Int×List (List Int):=(1+K6 ns b % 4,(List.range (K6 ns (b+1) % 9).toNat).map λ(k:Nat)=>aZ ns (b+2+5*(k:Int)) (1+K6 ns b % 4) 4)
noncomputable def F2 (ts:List (Int×Int)):List (Key×D):=ts.map λkv=>(.inl kv.1,.int kv.2)
noncomputable def K8 (ts:List (Int×Int))(k:Int):Option Int:=(ts.find? λkv=>decide (kv.1=k)).map (·.2)
noncomputable def nP (a:List Int)(l:Int):List Int:=if l∈a then a else a++[l]
noncomputable def Y0 (cs:List (List Int)):List D:=cs.map λc=>D.tup (c.map D.int)
noncomputable abbrev jW:=List (Int×Int)
noncomputable def dq (ts:jW)(k v:Int):jW:=if(ts.any λkv=>decide (kv.1=k))=h7 then ts.map λkv=>if kv.1=k then(kv.1,v)else kv else ts++[(k,v)]
noncomputable def bQ (x:Int):Int:=(x.natAbs:Int)
noncomputable def kD (a:List Int):jW:=a.foldl (λts l=>dq ts (bQ l) l) []
noncomputable abbrev Tab:=List (Int×List Int)
noncomputable def n6 (T:Tab):List (Key×D):=T.map λkv=>(.inl kv.1,.tup (kv.2.map D.int))
noncomputable def W5 (T:Tab)(k:Int):Option (List Int):=(T.find? λkv=>decide (kv.1=k)).map (·.2)
noncomputable def D3:Int→List (List Int)→Tab
 |_,[]=>[]
 |k,c::cs=>(k,c)::D3 (k+1) cs
noncomputable abbrev gc:List Nat:=[101,110,100,115]
noncomputable abbrev gb:List Nat:=[103,111,101,115,32,111,110]
noncomputable abbrev dD:List Nat:=[119,114,111,110,103]
noncomputable abbrev sI (i:Int):Option C:=g7 (.sh (.int i))
noncomputable abbrev sL (xs:List Int):Option C:=g7 (.sh (.lst (xs.map D.int)))
noncomputable abbrev sT (xs:List Int):Option C:=g7 (.sh (.tup (xs.map D.int)))
noncomputable abbrev oL (xs:List Int):Option C:=g7 (.ow g8 (.lst (xs.map D.int)))
noncomputable abbrev sD (T:Tab):Option C:=g7 (.sh (.dct (n6 T)))
noncomputable def Ac (i:Nat)(f:List D→Option FR)(ds:List D):Option FR:=match ds[i]? with
 |some (.dct _)=>f ds
 |_=>g9
theorem lB(h:Ac i f ds=g7 r):(∃es,ds[i]?=g7 (.dct es))∧f ds=g7 r:=by
 unfold Ac at h;split at h
 ·rename_i es e;exact⟨⟨es,e⟩,h⟩
 ·cases h
section
variable {P:Program}{w:World}{K:PySem.W.Frag}{mg:Str→Option Value}{base:Heap}{f:Addr}{fd:FuncData}
noncomputable abbrev iM:SM:=(l6 (W6 (as (h8 0)) (retS (i3 B1 (h8 0) (i3 K3 (h8 1) (L6 aw (i2 (h8 0) k6))))) Z8)
 (retS (mC (.int 0))))
noncomputable def ci:List D→Option FR:=N8 iM 2 [g8,g8]
theorem pz (F:az K "_law_cell" "_law_cell" dk f fd) (a:mg "len"=g9):
  x8 P w K mg base V1 1 f fd ["_law_script","_law_k"] (U0 K [g8,g8] ci):=
 have nd:=jF.nd
 Q7 (k:=0) F jF rfl (λcdv A outer s H E H0 HK G0 L hr=>by
  have b:=gG hr;exact(j7 (D2 (V2 (dv 0)) (l4 (u4 (w5 b (dv 0) (E4 (dv 1) (ag a (h9 (dv 0) j6)))))) x3)
   (l4 (u4 j4))))
noncomputable abbrev jP:SM:=(l6 (u1 2 (i3 K3 (i3 A4 (u5 [g8,g8] ci (i2 (h8 0) (i2 (h8 1) k6))) (i3 gB (mC (.int 104729)) (i3 A4 (h8 1) (mC (.int 1))))) (mC (.int 4294967291))))
 (l6 (u1 2 (i3 K3 (i3 gB (h8 2) (mC (.int 48271))) (mC (.int 4294967279))))
 (retS (i3 K3 (i3 A4 (i3 gB (i3 cC (h8 2) (mC (.int 64))) (mC (.int 69621))) (h8 2)) (mC (.int 4294967231))))))
noncomputable def v3:List D→Option FR:=N8 jP 3 [g8,g8]
theorem rq (F:az K "_law_mix" "_law_mix" fu f fd)
  (a:eZ P w K mg base 1 "_law_cell" ["_law_script","_law_k"] (U0 K [g8,g8] ci)):
  x8 P w K mg base V1 2 f fd ["_law_script","_law_k"] (U0 K [g8,g8] v3):=
 have nd:=lh.nd
 Q7 (k:=1) F lh rfl (λcdv A outer s H E H0 HK G0 L hr=>by
  have b:=gG hr;exact(j7 (n5 (i:=2) (E4 (y9 (u6 a (hr.mono (by decide)) (h9 (dv 0) (h9 (dv 1) j6))) (gi j4 (y9 (dv 1) j4))) j4) nd)
   (j7 (n5 (i:=2) (E4 (gi (dv 2) j4) j4) nd)
   (l4 (u4 (E4 (y9 (gi (ah (dv 2) j4) j4) (dv 2)) j4))))))
noncomputable abbrev nE:SM:=(retS (eN (L6 xO (i2 (h8 0) (i2 (mC (.ty "int")) k6))) (Fc (L6 xO (i2 (h8 0) (i2 (mC (.ty "bool")) k6))))))
noncomputable def aU:List D→Option FR:=N8 nE 1 [g8]
theorem ng (F:az K "_law_whole" "_law_whole" bU f fd) (a:mg "isinstance"=g9) (c:mg "int"=g9) (b:mg "bool"=g9):
  x8 P w K mg base V1 1 f fd ["_law_found"] (U0 K [g8] aU):=
 have nd:=hV.nd
 Q7 (k:=0) F hV rfl (λcdv A outer s H E H0 HK G0 L hr=>by
  have d:=gG hr;exact(l4 (u4 (wz (wy a (h9 (dv 0) (h9 (Eu c mV) j6))) (sR (JO (wy a (h9 (dv 0) (h9 (Eu b cG) j6)))))))))
noncomputable abbrev dX:SM:=(l6 (u1 8 (u5 [g8,g8] v3 (i2 (h8 0) (i2 (i3 A4 (i3 A4 (h8 1) (mC (.int 1))) (h8 7)) k6))))
 (M8 (N7 6 (i2 (i3 gB (i3 A4 (mC (.int 1)) (i3 K3 (i3 cC (h8 8) (mC (.int 2))) (h8 2))) (i3 xc (mC (.int 1)) (i3 gB (mC (.int 2)) (i3 K3 (h8 8) (mC (.int 2)))))) k6))))
noncomputable abbrev my:SM:=(l6 (u1 4 (u5 [g8,g8] v3 (i2 (h8 0) (i2 (h8 1) k6))))
 (l6 (u1 5 (i3 B1 (aQ (i2 (mC (.int 1)) (i2 (mC (.int 2)) (i2 (mC (.int 3)) (i2 (mC (.int 2)) (i2 (mC (.int 3)) (i2 (i3 K3 (i3 cC (h8 4) (mC (.int 6))) (i3 A4 (h8 3) (mC (.int 1)))) k6))))))) (i3 K3 (h8 4) (mC (.int 6)))))
 (l6 (u1 6 (aQ k6))
 (l6 (aa (kh ints1 (i2 (h8 5) k6)) (C3 7) dX)
 (retS (L6 kT (i2 (h8 6) k6)))))))
noncomputable def J1:List D→Option FR:=N8 my 9 [g8,g8,g8,g8]
theorem lq (F:az K "_law_clause" "_law_clause" aL f fd) (b:mg "range"=g9) (c:mg "tuple"=g9)
  (a:eZ P w K mg base 2 "_law_mix" ["_law_script","_law_k"] (U0 K [g8,g8] v3)):
  x8 P w K mg base V1 3 f fd ["_law_script","_law_base","_law_variables","_law_most"] (U0 K [g8,g8,g8,g8] J1):=
 have nd:=fV.nd
 Q7 (k:=2) F fV rfl (λcdv A outer s H E H0 HK G0 L hr=>by
  have d:=gG hr;exact(j7 (n5 (i:=4) (u6 a (hr.mono (by decide)) (h9 (dv 0) (h9 (dv 1) j6))) nd)
   (j7 (n5 (i:=5) (w5 d (S8 (h9 j4 (h9 j4 (h9 j4 (h9 j4 (h9 j4 (h9 (E4 (ah (dv 4) j4) (y9 (dv 3) j4)) j6))))))) (E4 (dv 4) j4)) nd)
   (j7 (n5 (i:=6) (S8 j6) nd)
   (j7 (V4 (W7 b (h9 (dv 5) j6)) (K9 (i:=7) nd) (j7 (n5 (i:=8) (u6 a (hr.mono (by decide)) (h9 (dv 0) (h9 (y9 (y9 (dv 1) j4) (dv 7)) j6))) nd)
   (l4 (R8 (X2 6 (dv 6) (h9 (gi (y9 j4 (E4 (ah (dv 8) j4) (dv 2))) (BB j4 (gi j4 (E4 (dv 8) j4)))) j6))))))
   (l4 (u4 (qx c (h9 (dv 6) j6)))))))))
noncomputable abbrev kr:SM:=(l6 (u1 2 (i3 A4 (mC (.int 1)) (i3 K3 (u5 [g8,g8] v3 (i2 (h8 0) (i2 (h8 1) k6))) (mC (.int 4)))))
 (l6 (u1 3 (i3 K3 (u5 [g8,g8] v3 (i2 (h8 0) (i2 (i3 A4 (h8 1) (mC (.int 1))) k6))) (mC (.int 9))))
 (retS (aP (i2 (h8 2) (i2 (F7 (kh ints1 (i2 (h8 3) k6)) (C3 0) N1 (u5 [g8,g8,g8,g8] J1 (i2 (h8 1) (i2 (i3 A4 (i3 A4 (h8 2) (mC (.int 2))) (i3 gB (mC (.int 5)) (h8 0))) (i2 (h8 3) (i2 (mC (.int 4)) k6))))) 1 [0,1,2]) k6))))))
noncomputable def W9:List D→Option FR:=N8 kr 4 [g8,g8]
theorem kc (F:az K "_law_formula" "_law_formula" Y3 f fd) (c:mg "range"=g9)
  (a:eZ P w K mg base 2 "_law_mix" ["_law_script","_law_k"] (U0 K [g8,g8] v3))
  (b:eZ P w K mg base 3 "_law_clause" ["_law_script","_law_base","_law_variables","_law_most"] (U0 K [g8,g8,g8,g8] J1)):
  x8 P w K mg base V1 4 f fd ["_law_script","_law_base"] (U0 K [g8,g8] W9):=
 have nd:=eE.nd
 Q7 (k:=3) F eE rfl (λcdv A outer s H E H0 HK G0 L hr=>by
  have d:=gG hr;exact(j7 (n5 (i:=2) (y9 j4 (E4 (u6 a (hr.mono (by decide)) (h9 (dv 0) (h9 (dv 1) j6))) j4)) nd)
   (j7 (n5 (i:=3) (E4 (u6 a (hr.mono (by decide)) (h9 (dv 0) (h9 (y9 (dv 1) j4) j6))) j4) nd)
   (l4 (u4 (X6 (h9 (dv 2) (h9 (P2 (cD [("_law_script",0),("_law_base",1),("_law_variables",2)] ⟨⟨rfl,rfl,.inl rfl⟩,⟨⟨rfl,rfl,.inl rfl⟩,⟨⟨rfl,rfl,.inl rfl⟩,trivial⟩⟩⟩) (W7 c (h9 (dv 3) j6)) (λ_ _ _ _ _ _ _ _ _=>af) (λ_ _ _ _ _ _ _ _ _=>(u6 b (hr.mono (by decide)) (h9 (dv 1) (h9 (y9 (y9 (dv 2) j4) (gi j4 (dv 0))) (h9 (dv 3) (h9 j4 j6))))))) j6))))))))
noncomputable abbrev nB:SM:=(retS (L6 qr (i2 (F7 (z6 (h8 0)) (C3 0) N1 (aP (i2 (L6 iR (i2 (h8 0) k6)) (i2 (h8 0) k6))) 1 []) k6)))
noncomputable def aT:List D→Option FR:=N8 nB 1 [g8]
theorem mZ (F:az K "truths_of" "truths_of" bS f fd) (a:mg "dict"=g9) (b:mg "abs"=g9):
  x8 P w K mg base V1 1 f fd ["literals"] (U0 K [g8] aT):=
 have nd:=hR.nd
 Q7 (k:=0) F hR rfl (λcdv A outer s H E H0 HK G0 L hr=>by
  have c:=gG hr;exact(l4 (u4 (Ew rfl a (h9 (P2 (cD [] trivial) (D1 (dv 0)) (λ_ _ _ _ _ _ _ _ _=>af) (λ_ _ _ _ _ _ _ _ _=>(X6 (h9 (jT b (h9 (dv 0) j6)) (h9 (dv 0) j6))))) j6)))))
noncomputable abbrev jJ:SM:=(W6 (v4 (i3 S0 (rY (h8 0) (L6 iR (i2 (h8 3) k6))) (dV N9 (h8 3)))) (nv 2 (mC (.bl h7)) (h8 3)) Z8)
noncomputable abbrev uL:SM:=(l6 (u1 2 ou)
 (l6 (aa (z6 (h8 1)) (C3 3) jJ)
 (retS (L6 fY (i2 (h8 2) k6)))))
noncomputable def fG:List D→Option FR:=N8 uL 4 [g8,g8]
theorem tP (F:az K "opened" "opened" ie f fd) (b:mg "abs"=g9) (a:mg "list"=g9):
  x8 P w K mg base V1 1 f fd ["truths","clause"] (U0 K [g8,g8] fG):=
 have nd:=nY.nd
 Q7 (k:=0) F nY rfl (λcdv A outer s H E H0 HK G0 L hr=>by
  have c:=gG hr;exact(j7 (n5 (i:=2) qA nd)
   (j7 (V4 (D1 (dv 1)) (K9 (i:=3) nd) (l4 (D2 (bR c (qy c (dv 0) (jT b (h9 (dv 3) j6))) (M9 (dv 3))) (l4 (ic 2 c dN (dv 2) (dv 3))) x3)))
   (l4 (u4 (gM rfl a (h9 (dv 2) j6)))))))
noncomputable abbrev fX:SM:=(l6 (W6 (v4 (i3 inD (dV N9 (h8 2)) (h8 1))) (retS (mC (.bl h7))) Z8)
 (nv 1 (mC (.bl h7)) (h8 2)))
noncomputable abbrev qv:SM:=(l6 (u1 1 ou)
 (l6 (aa (z6 (h8 0)) (C3 2) fX)
 (retS (mC (.bl g8)))))
noncomputable def cj:List D→Option FR:=N8 qv 3 [g8]
theorem pA (F:az K "has_both" "has_both" dm f fd):
  x8 P w K mg base V1 1 f fd ["clause"] (U0 K [g8] cj):=
 have nd:=jG.nd
 Q7 (k:=0) F jG rfl (λcdv A outer s H E H0 HK G0 L hr=>by
  have a:=gG hr;exact(j7 (n5 (i:=1) qA nd)
   (j7 (V4 (D1 (dv 0)) (K9 (i:=2) nd) (j7 (D2 (tM a (M9 (dv 2)) (dv 1)) (l4 (u4 dN)) x3)
   (l4 (ic 1 a dN (dv 1) (dv 2)))))
   (l4 (u4 dN)))))
noncomputable abbrev nC:SM:=(l6 (W6 (v4 (i3 cy (h8 2) (h8 0))) (retS (mC (.str [119,114,111,110,103]))) Z8)
 (l6 (u1 3 (u5 [g8,g8] fG (i2 (h8 1) (i2 (i3 B1 (h8 0) (h8 2)) k6))))
 (l6 (W6 (v4 (i3 L1 (h8 3) (aQ k6))) (retS (mC (.str [101,110,100,115]))) Z8)
 (l6 (W6 (qV (v4 (i3 (Q6 λi j=>decide (j<i)) (L6 aw (i2 (h8 3) k6)) (mC (.int 1)))) (v4 (i3 inD (L6 iR (i2 (i3 B1 (h8 3) (mC (.int 0))) k6)) (h8 1)))) (retS (mC (.str [119,114,111,110,103]))) Z8)
 (l6 (nv 1 (i3 B1 (h8 3) (mC (.int 0))) (L6 iR (i2 (i3 B1 (h8 3) (mC (.int 0))) k6)))
 (retS (mC (.str [103,111,101,115,32,111,110]))))))))
noncomputable def F8:List D→Option FR:=N8 nC 4 [g8,h7,g8]
theorem nc (F:az K "take_hint" "take_hint" bT f fd) (h:mg "len"=g9) (d:mg "abs"=g9) (a:Cg mg "WRONG" (.str "wrong")) (e:Cg mg "ENDS" (.str "ends")) (b:Cg mg "GOES_ON" (.str "goes on"))
  (c:eZ P w K mg base 1 "opened" ["truths","clause"] (U0 K [g8,g8] fG)):
  x8 P w K mg base V1 2 f fd ["table","truths","hint"] (U0 K [g8,h7,g8] F8):=
 have nd:=hU.nd
 Q7 (k:=1) F hU rfl (λcdv A outer s H E H0 HK G0 L hr=>by
  have g:=gG hr;exact(j7 (D2 (hA g (dv 2) (dv 0)) (l4 (u4 (jS a (λ_=>Z7 (by decide +kernel))))) x3)
   (j7 (n5 (i:=3) (u6 c (hr.mono (by decide)) (h9 (dv 1) (h9 (w5 g (dv 0) (dv 2)) j6))) nd)
   (j7 (D2 (Z4 g (dv 3) (S8 j6)) (l4 (u4 (jS e (λ_=>Z7 (by decide +kernel))))) x3)
   (j7 (D2 ((w_or (tN (ag h (h9 (dv 3) j6)) j4) (fT (tM g (jT d (h9 (w5 g (dv 3) j4) j6)) (dv 1))))).pt (l4 (u4 (jS a (λ_=>Z7 (by decide +kernel))))) x3)
   (j7 (ic 1 g (w5 g (dv 3) j4) (dv 1) (jT d (h9 (w5 g (dv 3) j4) j6)))
   (l4 (u4 (jS b (λ_=>Z7 (by decide +kernel)))))))))))
noncomputable abbrev nK:SM:=(l6 (u1 1 (aQ k6))
 (l6 (pY h7 (z6 (h8 0)) 2 1)
 (retS (h8 1))))
noncomputable def aX:List D→Option FR:=N8 nK 3 [g8]
theorem nu (F:az K "groups_in" "groups_in" bZ f fd):
  x8 P w K mg base V1 1 f fd ["hints"] (U0 K [g8] aX):=
 have nd:=ib.nd
 Q7 (k:=0) F ib rfl (λcdv A outer s H E H0 HK G0 L hr=>by
  have a:=gG hr;exact(j7 (n5 (i:=1) (S8 j6) nd)
   (j7 (Gc (i:=2) (j:=1) (D1 (dv 0)) nd)
   (l4 (u4 (dv 1))))))
noncomputable abbrev O7:SM:=(W6 (v4 (i3 S0 (u5 [g8,h7,g8] F8 (i2 (h8 0) (i2 (h8 1) (i2 (h8 3) k6)))) (mC (.str [103,111,101,115,32,111,110])))) (retS (mC (.bl g8))) Z8)
noncomputable abbrev nJ:SM:=(l6 (aa (z6 (yE (h8 2) (M.pure g9) (dW (dV N9 (mC (.int 1)))))) (C3 3) O7)
 (retS (eN (i3 S0 (h8 2) (aQ k6)) (i3 L1 (u5 [g8,h7,g8] F8 (i2 (h8 0) (i2 (h8 1) (i2 (i3 B1 (h8 2) (dV N9 (mC (.int 1)))) k6)))) (mC (.str [101,110,100,115]))))))
noncomputable def aW:List D→Option FR:=N8 nJ 4 [g8,h7,g8]
theorem nr (F:az K "last_ends" "last_ends" bY f fd) (b:Cg mg "GOES_ON" (.str "goes on")) (c:Cg mg "ENDS" (.str "ends"))
  (a:eZ P w K mg base 2 "take_hint" ["table","truths","hint"] (U0 K [g8,h7,g8] F8)):
  x8 P w K mg base V1 3 f fd ["table","truths","hints"] (U0 K [g8,h7,g8] aW):=
 have nd:=ia.nd
 Q7 (k:=2) F ia rfl (λcdv A outer s H E H0 HK G0 L hr=>by
  have d:=gG hr;exact(j7 (V4 (D1 (uM (dv 2) gz (gy (M9 j4)))) (K9 (i:=3) nd) (l4 (D2 (bR d (u6 a (hr.mono (by decide)) (h9 (dv 0) (h9 (dv 1) (h9 (dv 3) j6)))) (jS b (λ_=>Z7 (by decide +kernel)))) (l4 (u4 dN)) x3)))
   (l4 (u4 (wz (Fj d (dv 2) (S8 j6)) (sR (jR d (u6 a (hr.mono (by decide)) (h9 (dv 0) (h9 (dv 1) (h9 (w5 d (dv 2) (M9 j4)) j6)))) (jS c (λ_=>Z7 (by decide +kernel))))))))))
noncomputable abbrev D9:SM:=(W6 (v4 (i3 S0 (h8 6) (dV N9 (h8 2)))) (l6 (W6 (v4 (i3 L1 (rY (h8 5) (L6 iR (i2 (h8 6) k6))) (h8 6))) (retS (i3 L1 (h8 4) (aQ k6))) Z8)
 (nv 5 (dV N9 (h8 6)) (L6 iR (i2 (h8 6) k6)))) Z8)
noncomputable abbrev kt:SM:=(l6 (u1 4 (i3 B1 (h8 3) (mC (.int 1))))
 (l6 (u1 5 (L6 By (i2 (h8 1) k6)))
 (l6 (aa (z6 (i3 B1 (h8 0) (i3 B1 (h8 3) (mC (.int 0))))) (C3 6) D9)
 (retS (u5 [g8,h7,g8] aW (i2 (h8 0) (i2 (h8 5) (i2 (h8 4) k6))))))))
noncomputable def B7:List D→Option FR:=N8 kt 7 [g8,g8,g8,g8]
theorem kf (F:az K "group_holds" "group_holds" Y6 f fd) (c:mg "dict"=g9) (b:mg "abs"=g9)
  (a:eZ P w K mg base 3 "last_ends" ["table","truths","hints"] (U0 K [g8,h7,g8] aW)):
  x8 P w K mg base V1 4 f fd ["table","truths","first","group"] (U0 K [g8,g8,g8,g8] B7):=
 have nd:=eI.nd
 Q7 (k:=3) F eI rfl (λcdv A outer s H E H0 HK G0 L hr=>by
  have d:=gG hr;exact(j7 (n5 (i:=4) (w5 d (dv 3) j4) nd)
   (j7 (n5 (i:=5) (HD c (h9 (dv 1) j6)) nd)
   (j7 (V4 (D1 (w5 d (dv 0) (w5 d (dv 3) j4))) (K9 (i:=6) nd) (l4 (D2 (bR d (dv 6) (M9 (dv 2))) (j7 (D2 (Z4 d (qy d (dv 5) (jT b (h9 (dv 6) j6))) (dv 6)) (l4 (u4 (jR d (dv 4) (S8 j6)))) x3)
   (l4 (ic 5 d (M9 (dv 6)) (dv 5) (jT b (h9 (dv 6) j6))))) x3)))
   (l4 (u4 (u6 a (hr.mono (by decide)) (h9 (dv 0) (h9 (dv 5) (h9 (dv 4) j6))))))))))
noncomputable abbrev T6:SM:=(l6 (u1 4 (u5 [g8] aX (i2 (h8 3) k6)))
 (l6 (u1 5 (F7 (oq 0) (C3 0) (v4 (i3 inD (dV N9 (h8 1)) (i3 B1 (h8 2) (h8 0)))) (h8 0) 1 [2,0]))
 (l6 (W6 (v4 (i3 S0 (L6 N5 (i2 (F7 (z6 (h8 4)) (C3 0) N1 (i3 B1 (h8 0) (mC (.int 0))) 1 []) k6)) (L6 N5 (i2 (h8 5) k6)))) (retS (mC (.bl g8))) Z8)
 (retS (L6 uU (i2 (F7 (z6 (h8 4)) (C3 0) N1 (u5 [g8,g8,g8,g8] B7 (i2 (h8 1) (i2 (h8 2) (i2 (h8 3) (i2 (h8 0) k6))))) 1 [0,1,2]) k6))))))
noncomputable def O9:List D→Option FR:=Ac 0 (jH T6 6 [g8,g8,g8,g8] 0)
theorem jd:∀ds r,O9 ds=g7 r→jH T6 6 [g8,g8,g8,g8] 0 ds=g7 r:=λ_ _ h=>(lB h).2
theorem ku:∀ds r,O9 ds=g7 r→∃es,ds[0]?=g7 (.dct es):=λ_ _ h=>(lB h).1
theorem ke (F:az K "groups_hold" "groups_hold" Y5 f fd) (b:mg "sorted"=g9) (d:mg "all"=g9)
  (c:eZ P w K mg base 1 "groups_in" ["hints"] (U0 K [g8] aX))
  (a:eZ P w K mg base 4 "group_holds" ["table","truths","first","group"] (U0 K [g8,g8,g8,g8] B7)):
  x8 P w K mg base V1 5 f fd ["table","truths","first","hints"] (uY K [g8,g8,g8,g8] 0 (jH T6 6 [g8,g8,g8,g8] 0)):=
 have nd:=eG.nd
 Hk (k:=4) F eG rfl rfl (λcdv A outer s H E H0 HK G0 L hr=>by
  have e:=gG hr;exact(j7 (n5 (i:=4) (u6 c (hr.mono (by decide)) (h9 (dv 3) j6)) nd)
   (j7 (pk (i:=5) (cD [("first",2),("table",0)] ⟨⟨rfl,rfl,.inl rfl⟩,⟨⟨rfl,rfl,.inl rfl⟩,trivial⟩⟩) nd (He 0) (λ_ _ _ _ _ _ _ _ _=>vZ (tM e (M9 (dv 1)) (w5 e (dv 2) (dv 0)))) (λ_ _ _ _ _ _ _ _ _=>(dv 0)))
   (j7 (D2 (bR e (bE rfl b (h9 (P2 (cD [] trivial) (D1 (dv 4)) (λ_ _ _ _ _ _ _ _ _=>af) (λ_ _ _ _ _ _ _ _ _=>(w5 e (dv 0) j4))) j6)) (bE rfl b (h9 (dv 5) j6))) (l4 (u4 dN)) x3)
   (l4 (u4 (BF rfl d (h9 (P2 (cD [("table",0),("truths",1),("first",2)] ⟨⟨rfl,rfl,.inl rfl⟩,⟨⟨rfl,rfl,.inl rfl⟩,⟨⟨rfl,rfl,.inl rfl⟩,trivial⟩⟩⟩) (D1 (dv 4)) (λ_ _ _ _ _ _ _ _ _=>af) (λ_ _ _ _ _ _ _ _ _=>(u6 a (hr.mono (by decide)) (h9 (dv 1) (h9 (dv 2) (h9 (dv 3) (h9 (dv 0) j6))))))) j6))))))))
noncomputable abbrev aR:SM:=(l6 (u1 5 (u5 [g8,h7,g8] F8 (i2 (h8 0) (i2 (h8 3) (i2 (i3 B1 (h8 2) (h8 4)) k6)))))
 (l6 (W6 (v4 (i3 S0 (h8 5) (mC (.str [103,111,101,115,32,111,110])))) (retS (i3 L1 (h8 5) (mC (.str [101,110,100,115])))) Z8)
 (BW 4 (mC (.int 1)))))
noncomputable abbrev sQ:SM:=(l6 (W6 (as (u5 [g8] cj (i2 (h8 1) k6))) (retS (mC (.bl h7))) Z8)
 (l6 (u1 3 (u5 [g8] aT (i2 (F7 (z6 (h8 1)) (C3 0) N1 (dV N9 (h8 0)) 1 []) k6)))
 (l6 (u1 4 (mC (.int 0)))
 (l6 (F0 (bP (v4 (i3 (Q6 λi j=>decide (i<j)) (h8 4) (L6 aw (i2 (h8 2) k6)))) (v4 (i3 (Q6 λi j=>decide (j<i)) (i3 B1 (h8 2) (h8 4)) (mC (.int 0))))) aR 1000000)
 (retS (eN (i3 S0 (h8 1) (aP k6)) (u5 [g8,g8,g8,g8] O9 (i2 (h8 0) (i2 (h8 3) (i2 (i3 B1 (h8 1) (mC (.int 0))) (i2 (yE (h8 2) (dW (h8 4)) (M.pure g9)) k6)))))))))))
noncomputable def P0:List D→Option FR:=N8 sQ 6 [g8,g8,g8]
theorem rs (F:az K "follows" "follows" fv f fd) (h:mg "len"=g9) (e:Cg mg "GOES_ON" (.str "goes on")) (g:Cg mg "ENDS" (.str "ends"))
  (d:eZ P w K mg base 1 "has_both" ["clause"] (U0 K [g8] cj))
  (b:eZ P w K mg base 1 "truths_of" ["literals"] (U0 K [g8] aT))
  (c:eZ P w K mg base 2 "take_hint" ["table","truths","hint"] (U0 K [g8,h7,g8] F8))
  (a:eZ P w K mg base 5 "groups_hold" ["table","truths","first","hints"] (U0 K [g8,g8,g8,g8] O9)):
  x8 P w K mg base V1 6 f fd ["table","clause","hints"] (U0 K [g8,g8,g8] P0):=
 have nd:=lj.nd
 Q7 (k:=5) F lj rfl (λcdv A outer s H E H0 HK G0 L hr=>by
  have j:=gG hr;exact(j7 (D2 (V2 (u6 d (hr.mono (by decide)) (h9 (dv 1) j6))) (l4 (u4 dN)) x3)
   (j7 (n5 (i:=3) (u6 b (hr.mono (by decide)) (h9 (P2 (cD [] trivial) (D1 (dv 1)) (λ_ _ _ _ _ _ _ _ _=>af) (λ_ _ _ _ _ _ _ _ _=>(M9 (dv 0)))) j6)) nd)
   (j7 (n5 (i:=4) j4 nd)
   (j7 (CU 1000000 ((w_and (CF (dv 4) (ag h (h9 (dv 2) j6))) (bg (tN (w5 j (dv 2) (dv 4)) j4)))).pt (j7 (n5 (i:=5) (u6 c (hr.mono (by decide)) (h9 (dv 0) (h9 (dv 3) (h9 (w5 j (dv 2) (dv 4)) j6)))) nd)
   (j7 (D2 (bR j (dv 5) (jS e (λ_=>Z7 (by decide +kernel)))) (l4 (u4 (jR j (dv 5) (jS g (λ_=>Z7 (by decide +kernel)))))) x3)
   (l4 (zq (i:=4) j4 nd)))))
   (l4 (u4 (wz (Fj j (dv 1) (X6 j6)) (sR (u6 a (hr.mono (by decide)) (h9 (dv 0) (h9 (dv 3) (h9 (w5 j (dv 1) j4) (h9 (uM (dv 2) (gy (dv 4)) gz) j6))))))))))))))
noncomputable abbrev fW:SM:=(W6 (bP (v4 (i3 cy (dV N9 (h8 3)) (h8 0))) (v4 (i3 cy (h8 3) (h8 2)))) (M8 (N7 2 (i2 (h8 3) k6))) Z8)
noncomputable abbrev qu:SM:=(l6 (u1 2 (aQ k6))
 (l6 (aa (z6 (h8 1)) (C3 3) fW)
 (retS (h8 2))))
noncomputable def V6:List D→Option FR:=N8 qu 4 [g8,g8]
theorem pw (F:az K "_law_open" "_law_open" dj f fd):
  x8 P w K mg base V1 1 f fd ["_law_true_ones","_law_clause_here"] (U0 K [g8,g8] V6):=
 have nd:=jE.nd
 Q7 (k:=0) F jE rfl (λcdv A outer s H E H0 HK G0 L hr=>by
  have a:=gG hr;exact(j7 (n5 (i:=2) (S8 j6) nd)
   (j7 (V4 (D1 (dv 1)) (K9 (i:=3) nd) (l4 (D2 ((w_and (hA a (M9 (dv 3)) (dv 0)) (bg (hA a (dv 3) (dv 2))))).pt (l4 (R8 (X2 2 (dv 2) (h9 (dv 3) j6)))) x3)))
   (l4 (u4 (dv 2))))))
noncomputable abbrev W3:SM:=(l6 (u1 6 (u5 [g8,g8] V6 (i2 (h8 2) (i2 (i3 B1 (h8 0) (h8 5)) k6))))
 (l6 (W6 (kk (as (h8 6))) (retS (i3 A4 (h8 3) (aQ (i2 (h8 5) k6)))) Z8)
 (W6 (bP (v4 (i3 L1 (L6 aw (i2 (h8 6) k6)) (mC (.int 1)))) (v4 (i3 cy (i3 B1 (h8 6) (mC (.int 0))) (h8 2)))) (l6 (M8 (N7 2 (i2 (i3 B1 (h8 6) (mC (.int 0))) k6)))
 (M8 (N7 3 (i2 (h8 5) k6)))) Z8)))
noncomputable abbrev eP:SM:=(aa (z6 (L6 N5 (i2 (h8 0) k6))) (C3 5) W3)
noncomputable abbrev nH:SM:=(l6 (u1 2 (L6 fY (i2 (h8 1) k6)))
 (l6 (u1 3 (aQ k6))
 (l6 (aa (kh ints1 (i2 (mC (.int 9)) k6)) (C3 4) eP)
 (retS (h8 3)))))
noncomputable def W8:List D→Option FR:=N8 nH 7 [g8,g8]
theorem nk (F:az K "_law_hints" "_law_hints" bW f fd) (d:mg "list"=g9) (c:mg "range"=g9) (b:mg "sorted"=g9) (e:mg "len"=g9)
  (a:eZ P w K mg base 1 "_law_open" ["_law_true_ones","_law_clause_here"] (U0 K [g8,g8] V6)):
  x8 P w K mg base V1 2 f fd ["_law_table_here","_law_literals"] (U0 K [g8,g8] W8):=
 have nd:=hY.nd
 Q7 (k:=1) F hY rfl (λcdv A outer s H E H0 HK G0 L hr=>by
  have g:=gG hr;exact(j7 (n5 (i:=2) (gM rfl d (h9 (dv 1) j6)) nd)
   (j7 (n5 (i:=3) (S8 j6) nd)
   (j7 (V4 (W7 c (h9 j4 j6)) (K9 (i:=4) nd) (l4 (V4 (D1 (bE rfl b (h9 (dv 0) j6))) (K9 (i:=5) nd) (j7 (n5 (i:=6) (u6 a (hr.mono (by decide)) (h9 (dv 2) (h9 (w5 g (dv 0) (dv 5)) j6))) nd)
   (j7 (D2 (hB (V2 (dv 6))) (l4 (u4 (y9 (dv 3) (S8 (h9 (dv 5) j6))))) x3)
   (l4 (D2 ((w_and (Z4 g (ag e (h9 (dv 6) j6)) j4) (bg (hA g (w5 g (dv 6) j4) (dv 2))))).pt (j7 (R8 (X2 2 (dv 2) (h9 (w5 g (dv 6) j4) j6)))
   (l4 (R8 (X2 3 (dv 3) (h9 (dv 5) j6))))) x3)))))))
   (l4 (u4 (dv 3)))))))
noncomputable abbrev Y8:SM:=(l6 (W6 (v4 (i3 (Q6 λi j=>decide (i<j)) (h8 4) (mC (.int 0)))) (retS (aP (i2 (mC (.int 1)) (i2 (h8 3) k6)))) Z8)
 (l6 (W6 (v4 (i3 cy (h8 4) (h8 0))) (retS (aP (i2 (mC (.int 0)) (i2 (h8 3) k6)))) Z8)
 (l6 (u1 5 (u5 [g8,g8] V6 (i2 (h8 1) (i2 (i3 B1 (h8 0) (h8 4)) k6))))
 (l6 (u1 3 (i3 A4 (h8 3) (mC (.int 1))))
 (l6 (W6 (kk (as (h8 5))) (retS (aP (i2 (mC (.int 2)) (i2 (h8 3) k6)))) Z8)
 (l6 (W6 (qV (v4 (i3 (Q6 λi j=>decide (j<i)) (L6 aw (i2 (h8 5) k6)) (mC (.int 1)))) (v4 (i3 inD (i3 B1 (h8 5) (mC (.int 0))) (h8 1)))) (retS (aP (i2 (mC (.int 0)) (i2 (h8 3) k6)))) Z8)
 (M8 (N7 1 (i2 (i3 B1 (h8 5) (mC (.int 0))) k6)))))))))
noncomputable abbrev qt:SM:=(l6 (u1 3 (mC (.int 0)))
 (l6 (aa (z6 (h8 2)) (C3 4) Y8)
 (retS (aP (i2 (mC (.int 1)) (i2 (h8 3) k6))))))
noncomputable def V5:List D→Option FR:=N8 qt 6 [g8,h7,g8]
theorem pv (F:az K "_law_walk" "_law_walk" di f fd) (b:mg "len"=g9)
  (a:eZ P w K mg base 1 "_law_open" ["_law_true_ones","_law_clause_here"] (U0 K [g8,g8] V6)):
  x8 P w K mg base V1 2 f fd ["_law_table_here","_law_true_ones","_law_hints_here"] (U0 K [g8,h7,g8] V5):=
 have nd:=jD.nd
 Q7 (k:=1) F jD rfl (λcdv A outer s H E H0 HK G0 L hr=>by
  have c:=gG hr;exact(j7 (n5 (i:=3) j4 nd)
   (j7 (V4 (D1 (dv 2)) (K9 (i:=4) nd) (j7 (D2 (CF (dv 4) j4) (l4 (u4 (X6 (h9 j4 (h9 (dv 3) j6))))) x3)
   (j7 (D2 (hA c (dv 4) (dv 0)) (l4 (u4 (X6 (h9 j4 (h9 (dv 3) j6))))) x3)
   (j7 (n5 (i:=5) (u6 a (hr.mono (by decide)) (h9 (dv 1) (h9 (w5 c (dv 0) (dv 4)) j6))) nd)
   (j7 (n5 (i:=3) (y9 (dv 3) j4) nd)
   (j7 (D2 (hB (V2 (dv 5))) (l4 (u4 (X6 (h9 j4 (h9 (dv 3) j6))))) x3)
   (j7 (D2 ((w_or (tN (ag b (h9 (dv 5) j6)) j4) (fT (tM c (w5 c (dv 5) j4) (dv 1))))).pt (l4 (u4 (X6 (h9 j4 (h9 (dv 3) j6))))) x3)
   (l4 (R8 (X2 1 (dv 1) (h9 (w5 c (dv 5) j4) j6)))))))))))
   (l4 (u4 (X6 (h9 j4 (h9 (dv 3) j6))))))))
noncomputable abbrev K7:SM:=(W6 (v4 (i3 S0 (h8 5) (dV N9 (h8 2)))) (l6 (W6 (v4 (i3 inD (h8 5) (h8 1))) (retS (i3 L1 (h8 4) (aQ k6))) Z8)
 (M8 (N7 1 (i2 (dV N9 (h8 5)) k6)))) Z8)
noncomputable abbrev nI:SM:=(l6 (u1 1 (L6 fY (i2 (h8 1) k6)))
 (l6 (aa (z6 (i3 B1 (h8 0) (h8 3))) (C3 5) K7)
 (retS (i3 L1 (u5 [g8,h7,g8] V5 (i2 (h8 0) (i2 (h8 1) (i2 (h8 4) k6)))) (aP (i2 (mC (.int 2)) (i2 (L6 aw (i2 (h8 4) k6)) k6)))))))
noncomputable def Q3:List D→Option FR:=N8 nI 6 [g8,g8,g8,g8,g8]
theorem nq (F:az K "_law_group" "_law_group" bX f fd) (b:mg "list"=g9) (c:mg "len"=g9)
  (a:eZ P w K mg base 2 "_law_walk" ["_law_table_here","_law_true_ones","_law_hints_here"] (U0 K [g8,h7,g8] V5)):
  x8 P w K mg base V1 3 f fd ["_law_table_here","_law_true_ones","_law_first","_law_number","_law_hints_here"] (U0 K [g8,g8,g8,g8,g8] Q3):=
 have nd:=hZ.nd
 Q7 (k:=2) F hZ rfl (λcdv A outer s H E H0 HK G0 L hr=>by
  have d:=gG hr;exact(j7 (n5 (i:=1) (gM rfl b (h9 (dv 1) j6)) nd)
   (j7 (V4 (D1 (w5 d (dv 0) (dv 3))) (K9 (i:=5) nd) (l4 (D2 (bR d (dv 5) (M9 (dv 2))) (j7 (D2 (tM d (dv 5) (dv 1)) (l4 (u4 (jR d (dv 4) (S8 j6)))) x3)
   (l4 (R8 (X2 1 (dv 1) (h9 (M9 (dv 5)) j6))))) x3)))
   (l4 (u4 (jR d (u6 a (hr.mono (by decide)) (h9 (dv 0) (h9 (dv 1) (h9 (dv 4) j6)))) (X6 (h9 j4 (h9 (ag c (h9 (dv 4) j6)) j6)))))))))
noncomputable abbrev ks:SM:=(l6 (W6 (as (L6 yy (i2 (F7 (z6 (h8 1)) (C3 0) N1 (i3 inD (dV N9 (h8 0)) (h8 1)) 1 [1]) k6))) (retS (mC (.bl h7))) Z8)
 (l6 (u1 3 (F7 (z6 (h8 1)) (C3 0) N1 (dV N9 (h8 0)) 1 []))
 (l6 (u1 4 (u5 [g8,h7,g8] V5 (i2 (h8 0) (i2 (h8 3) (i2 (h8 2) k6)))))
 (l6 (W6 (qV (v4 (i3 S0 (i3 B1 (h8 4) (mC (.int 0))) (mC (.int 1)))) (v4 (i3 L1 (h8 1) (aP k6)))) (retS (i3 L1 (i3 B1 (h8 4) (mC (.int 0))) (mC (.int 2)))) Z8)
 (l6 (u1 5 (aQ k6))
 (l6 (pY g8 (z6 (yE (h8 2) (dW (i3 B1 (h8 4) (mC (.int 1)))) (M.pure g9))) 6 5)
 (l6 (u1 7 (F7 (z6 (L6 N5 (i2 (h8 0) k6))) (C3 0) (v4 (i3 inD (dV N9 (i3 B1 (h8 1) (mC (.int 0)))) (i3 B1 (h8 2) (h8 0)))) (h8 0) 1 [1,0]))
 (l6 (W6 (v4 (i3 S0 (L6 N5 (i2 (F7 (z6 (h8 5)) (C3 0) N1 (i3 B1 (h8 0) (mC (.int 0))) 1 []) k6)) (h8 7))) (retS (mC (.bl g8))) Z8)
 (retS (L6 uU (i2 (F7 (z6 (h8 5)) (C3 0) N1 (u5 [g8,g8,g8,g8,g8] Q3 (i2 (h8 1) (i2 (h8 2) (i2 (i3 B1 (h8 3) (mC (.int 0))) (i2 (i3 B1 (h8 0) (mC (.int 0))) (i2 (i3 B1 (h8 0) (mC (.int 1))) k6)))))) 1 [0,3,1]) k6)))))))))))
noncomputable def E3:List D→Option FR:=N8 ks 8 [g8,g8,g8]
theorem kd (F:az K "_law_follows" "_law_follows" Y4 f fd) (e:mg "any"=g9) (a:mg "sorted"=g9) (g:mg "all"=g9)
  (c:eZ P w K mg base 2 "_law_walk" ["_law_table_here","_law_true_ones","_law_hints_here"] (U0 K [g8,h7,g8] V5))
  (b:eZ P w K mg base 3 "_law_group" ["_law_table_here","_law_true_ones","_law_first","_law_number","_law_hints_here"] (U0 K [g8,g8,g8,g8,g8] Q3)):
  x8 P w K mg base V1 4 f fd ["_law_table_here","_law_clause_here","_law_hints_here"] (U0 K [g8,g8,g8] E3):=
 have nd:=eF.nd
 Q7 (k:=3) F eF rfl (λcdv A outer s H E H0 HK G0 L hr=>by
  have d:=gG hr;exact(j7 (D2 (V2 (BE rfl e (h9 (P2 (cD [("_law_clause_here",1)] ⟨⟨rfl,rfl,.inl rfl⟩,trivial⟩) (D1 (dv 1)) (λ_ _ _ _ _ _ _ _ _=>af) (λ_ _ _ _ _ _ _ _ _=>(Fk d (M9 (dv 0)) (dv 1)))) j6))) (l4 (u4 dN)) x3)
   (j7 (n5 (i:=3) (P2 (cD [] trivial) (D1 (dv 1)) (λ_ _ _ _ _ _ _ _ _=>af) (λ_ _ _ _ _ _ _ _ _=>(M9 (dv 0)))) nd)
   (j7 (n5 (i:=4) (u6 c (hr.mono (by decide)) (h9 (dv 0) (h9 (dv 3) (h9 (dv 2) j6)))) nd)
   (j7 (D2 ((w_or (bR d (w5 d (dv 4) j4) j4) (fT (Z4 d (dv 1) (X6 j6))))).pt (l4 (u4 (jR d (w5 d (dv 4) j4) j4))) x3)
   (j7 (n5 (i:=5) (S8 j6) nd)
   (j7 (Gd (i:=6) (j:=5) (D1 (uM (dv 2) (gy (w5 d (dv 4) j4)) gz)) nd)
   (j7 (pk (i:=7) (cD [("_law_clause_here",1),("_law_table_here",0)] ⟨⟨rfl,rfl,.inl rfl⟩,⟨⟨rfl,rfl,.inl rfl⟩,trivial⟩⟩) nd (D1 (bE rfl a (h9 (dv 0) j6))) (λ_ _ _ _ _ _ _ _ _=>vZ (tM d (M9 (w5 d (dv 1) j4)) (w5 d (dv 2) (dv 0)))) (λ_ _ _ _ _ _ _ _ _=>(dv 0)))
   (j7 (D2 (bR d (bE rfl a (h9 (P2 (cD [] trivial) (D1 (dv 5)) (λ_ _ _ _ _ _ _ _ _=>af) (λ_ _ _ _ _ _ _ _ _=>(w5 d (dv 0) j4))) j6)) (dv 7)) (l4 (u4 dN)) x3)
   (l4 (u4 (BF rfl g (h9 (P2 (cD [("_law_table_here",0),("_law_true_ones",3),("_law_clause_here",1)] ⟨⟨rfl,rfl,.inl rfl⟩,⟨⟨rfl,rfl,.inl rfl⟩,⟨⟨rfl,rfl,.inl rfl⟩,trivial⟩⟩⟩) (D1 (dv 5)) (λ_ _ _ _ _ _ _ _ _=>af) (λ_ _ _ _ _ _ _ _ _=>(u6 b (hr.mono (by decide)) (h9 (dv 1) (h9 (dv 2) (h9 (w5 d (dv 3) j4) (h9 (w5 d (dv 0) j4) (h9 (w5 d (dv 0) j4) j6)))))))) j6)))))))))))))
noncomputable abbrev U7:SM:=(l6 (u1 11 (F7 (z6 (i3 B1 (h8 2) (h8 10))) (C3 0) (v4 (i3 S0 (h8 0) (dV N9 (h8 1)))) (h8 0) 1 [8]))
 (l6 (u1 12 (F7 (z6 (h8 3)) (C3 0) N1 (dV N9 (h8 0)) 1 []))
 (l6 (u1 13 (u5 [g8,g8] W8 (i2 (h8 2) (i2 (i3 A4 (h8 12) (F7 (z6 (h8 11)) (C3 0) N1 (dV N9 (h8 0)) 1 [])) k6))))
 (l6 (W6 (bP (as (L6 yy (i2 (F7 (z6 (h8 11)) (C3 0) N1 (i3 inD (h8 0) (h8 1)) 1 [12]) k6))) (v4 (i3 (Q6 λi j=>decide (j<i)) (i3 K3 (i3 cC (h8 4) (mC (.int 36))) (mC (.int 3))) (mC (.int 0))))) (u1 13 (aQ k6)) Z8)
 (l6 (W6 (bP (as (h8 13)) (v4 (i3 L1 (i3 K3 (i3 cC (h8 4) (mC (.int 36))) (mC (.int 4))) (mC (.int 0))))) (u1 13 (i3 A4 (h8 13) (aQ (i2 (i3 B1 (h8 13) (mC (.int 0))) k6)))) Z8)
 (W6 (qV (v4 (i3 S0 (h8 10) (i3 B1 (h8 9) (dV N9 (mC (.int 1)))))) (v4 (i3 (Q6 λi j=>decide (j<i)) (i3 K3 (i3 cC (h8 4) (mC (.int 36))) (mC (.int 5))) (mC (.int 0))))) (u1 5 (i3 A4 (i3 A4 (h8 5) (aQ (i2 (dV N9 (h8 10)) k6))) (h8 13))) Z8))))))
noncomputable abbrev cm:SM:=(l6 (u1 4 (u5 [g8,g8] v3 (i2 (h8 0) (i2 (h8 1) k6))))
 (l6 (W6 (v4 (i3 L1 (i3 K3 (h8 4) (mC (.int 3))) (mC (.int 0)))) (retS (F7 (kh ints1 (i2 (i3 K3 (i3 cC (h8 4) (mC (.int 3))) (mC (.int 7))) k6)) (C3 0) N1 (rX (i3 xc (i3 K3 (u5 [g8,g8] v3 (i2 (h8 1) (i2 (i3 A4 (i3 A4 (h8 2) (mC (.int 1))) (h8 0)) k6))) (mC (.int 20))) (mC (.int 4))) (mC (.int 1))) 1 [0,1])) Z8)
 (l6 (u1 5 (u5 [g8,g8] W8 (i2 (h8 2) (i2 (F7 (z6 (h8 3)) (C3 0) N1 (dV N9 (h8 0)) 1 []) k6))))
 (l6 (u1 6 (i3 K3 (i3 cC (h8 4) (mC (.int 3))) (mC (.int 6))))
 (l6 (W6 (bP (v4 (i3 L1 (h8 6) (mC (.int 1)))) (as (h8 5))) (l6 (u1 7 (i3 K3 (i3 cC (h8 4) (mC (.int 18))) (L6 aw (i2 (h8 5) k6))))
 (u1 5 (i3 A4 (yE (h8 5) (M.pure g9) (dW (h8 7))) (yE (h8 5) (dW (i3 A4 (h8 7) (mC (.int 1)))) (M.pure g9))))) Z8)
 (l6 (W6 (v4 (i3 L1 (h8 6) (mC (.int 2)))) (u1 5 (i3 A4 (h8 5) (i3 B1 (aQ (i2 (aQ (i2 (i3 A4 (i3 K3 (i3 cC (h8 4) (mC (.int 18))) (mC (.int 9))) (mC (.int 1))) k6)) (i2 (L6 N5 (i2 (h8 2) k6)) k6))) (i3 K3 (i3 cC (h8 4) (mC (.int 162))) (mC (.int 2)))))) Z8)
 (l6 (W6 (bP (v4 (i3 L1 (h8 6) (mC (.int 3)))) (as (h8 5))) (u1 5 (i3 A4 (h8 5) (aQ (i2 (i3 B1 (h8 5) (i3 K3 (i3 cC (h8 4) (mC (.int 18))) (L6 aw (i2 (h8 5) k6)))) k6)))) Z8)
 (l6 (W6 (bP (v4 (i3 (Q6 λi j=>decide (j<i)) (h8 6) (mC (.int 3)))) (as (h8 3))) (l6 (u1 8 (i3 B1 (h8 3) (mC (.int 0))))
 (l6 (W6 (v4 (i3 L1 (i3 K3 (i3 cC (h8 4) (mC (.int 18))) (mC (.int 2))) (mC (.int 0)))) (u1 5 (aQ k6)) Z8)
 (l6 (u1 9 (F7 (z6 (L6 N5 (i2 (h8 2) k6))) (C3 0) (v4 (i3 inD (dV N9 (h8 1)) (i3 B1 (h8 2) (h8 0)))) (h8 0) 1 [8,2]))
 (l6 (aa (z6 (h8 9)) (C3 10) U7)
 (W6 (bP (v4 (i3 L1 (h8 6) (mC (.int 5)))) (as (h8 5))) (l6 (u1 7 (i3 K3 (i3 cC (h8 4) (mC (.int 18))) (L6 aw (i2 (h8 5) k6))))
 (u1 5 (i3 A4 (yE (h8 5) (M.pure g9) (dW (h8 7))) (yE (h8 5) (dW (i3 A4 (h8 7) (mC (.int 1)))) (M.pure g9))))) Z8))))) Z8)
 (retS (h8 5))))))))))
noncomputable def Q4:List D→Option FR:=N8 cm 14 [g8,g8,g8,g8]
theorem ig (F:az K "_law_any_hints" "_law_any_hints" T5 f fd) (g:mg "range"=g9) (e:mg "len"=g9) (c:mg "sorted"=g9) (h:mg "any"=g9)
  (b:eZ P w K mg base 2 "_law_mix" ["_law_script","_law_k"] (U0 K [g8,g8] v3))
  (a:eZ P w K mg base 2 "_law_hints" ["_law_table_here","_law_literals"] (U0 K [g8,g8] W8)):
  x8 P w K mg base V1 3 f fd ["_law_script","_law_base","_law_table_here","_law_clause_here"] (U0 K [g8,g8,g8,g8] Q4):=
 have nd:=cL.nd
 Q7 (k:=2) F cL rfl (λcdv A outer s H E H0 HK G0 L hr=>by
  have d:=gG hr;exact(j7 (n5 (i:=4) (u6 b (hr.mono (by decide)) (h9 (dv 0) (h9 (dv 1) j6))) nd)
   (j7 (D2 (Z4 d (E4 (dv 4) j4) j4) (l4 (u4 (P2 (cD [("_law_script",0),("_law_base",1)] ⟨⟨rfl,rfl,.inl rfl⟩,⟨⟨rfl,rfl,.inl rfl⟩,trivial⟩⟩) (W7 g (h9 (E4 (ah (dv 4) j4) j4) j6)) (λ_ _ _ _ _ _ _ _ _=>af) (λ_ _ _ _ _ _ _ _ _=>(JN (BB (E4 (u6 b (hr.mono (by decide)) (h9 (dv 1) (h9 (y9 (y9 (dv 2) j4) (dv 0)) j6))) j4) j4) (sR j4)))))) x3)
   (j7 (n5 (i:=5) (u6 a (hr.mono (by decide)) (h9 (dv 2) (h9 (P2 (cD [] trivial) (D1 (dv 3)) (λ_ _ _ _ _ _ _ _ _=>af) (λ_ _ _ _ _ _ _ _ _=>(M9 (dv 0)))) j6))) nd)
   (j7 (n5 (i:=6) (E4 (ah (dv 4) j4) j4) nd)
   (j7 (D2 ((w_and (Z4 d (dv 6) j4) (bg (V2 (dv 5))))).pt (j7 (n5 (i:=7) (E4 (ah (dv 4) j4) (ag e (h9 (dv 5) j6))) nd)
   (l4 (n5 (i:=5) (y9 (uM (dv 5) gz (gy (dv 7))) (uM (dv 5) (gy (y9 (dv 7) j4)) gz)) nd))) x3)
   (j7 (D2 (Z4 d (dv 6) j4) (l4 (n5 (i:=5) (y9 (dv 5) (w5 d (S8 (h9 (S8 (h9 (y9 (E4 (ah (dv 4) j4) j4) j4) j6)) (h9 (bE rfl c (h9 (dv 2) j6)) j6))) (E4 (ah (dv 4) j4) j4))) nd)) x3)
   (j7 (D2 ((w_and (Z4 d (dv 6) j4) (bg (V2 (dv 5))))).pt (l4 (n5 (i:=5) (y9 (dv 5) (S8 (h9 (w5 d (dv 5) (E4 (ah (dv 4) j4) (ag e (h9 (dv 5) j6)))) j6))) nd)) x3)
   (j7 (D2 ((w_and (tN (dv 6) j4) (bg (V2 (dv 3))))).pt (j7 (n5 (i:=8) (w5 d (dv 3) j4) nd)
   (j7 (D2 (Z4 d (E4 (ah (dv 4) j4) j4) j4) (l4 (n5 (i:=5) (S8 j6) nd)) x3)
   (j7 (pk (i:=9) (cD [("_law_first",8),("_law_table_here",2)] ⟨⟨rfl,rfl,.inl rfl⟩,⟨⟨rfl,rfl,.inl rfl⟩,trivial⟩⟩) nd (D1 (bE rfl c (h9 (dv 2) j6))) (λ_ _ _ _ _ _ _ _ _=>vZ (tM d (M9 (dv 1)) (w5 d (dv 2) (dv 0)))) (λ_ _ _ _ _ _ _ _ _=>(dv 0)))
   (j7 (V4 (D1 (dv 9)) (K9 (i:=10) nd) (j7 (pk (i:=11) (cD [("_law_first",8)] ⟨⟨rfl,rfl,.inl rfl⟩,trivial⟩) nd (D1 (w5 d (dv 2) (dv 10))) (λ_ _ _ _ _ _ _ _ _=>vZ (bR d (dv 0) (M9 (dv 1)))) (λ_ _ _ _ _ _ _ _ _=>(dv 0)))
   (j7 (n5 (i:=12) (P2 (cD [] trivial) (D1 (dv 3)) (λ_ _ _ _ _ _ _ _ _=>af) (λ_ _ _ _ _ _ _ _ _=>(M9 (dv 0)))) nd)
   (j7 (n5 (i:=13) (u6 a (hr.mono (by decide)) (h9 (dv 2) (h9 (y9 (dv 12) (P2 (cD [] trivial) (D1 (dv 11)) (λ_ _ _ _ _ _ _ _ _=>af) (λ_ _ _ _ _ _ _ _ _=>(M9 (dv 0))))) j6))) nd)
   (j7 (D2 ((w_and (V2 (BE rfl h (h9 (P2 (cD [("_law_true_ones",12)] ⟨⟨rfl,rfl,.inl rfl⟩,trivial⟩) (D1 (dv 11)) (λ_ _ _ _ _ _ _ _ _=>af) (λ_ _ _ _ _ _ _ _ _=>(Fk d (dv 0) (dv 1)))) j6))) (bg (tN (E4 (ah (dv 4) j4) j4) j4)))).pt (l4 (n5 (i:=13) (S8 j6) nd)) x3)
   (j7 (D2 ((w_and (V2 (dv 13)) (bg (Z4 d (E4 (ah (dv 4) j4) j4) j4)))).pt (l4 (n5 (i:=13) (y9 (dv 13) (S8 (h9 (w5 d (dv 13) j4) j6))) nd)) x3)
   (l4 (D2 ((w_or (bR d (dv 10) (w5 d (dv 9) (M9 j4))) (fT (tN (E4 (ah (dv 4) j4) j4) j4)))).pt (l4 (n5 (i:=5) (y9 (y9 (dv 5) (S8 (h9 (M9 (dv 10)) j6))) (dv 13)) nd)) x3))))))))
   (l4 (D2 ((w_and (Z4 d (dv 6) j4) (bg (V2 (dv 5))))).pt (j7 (n5 (i:=7) (E4 (ah (dv 4) j4) (ag e (h9 (dv 5) j6))) nd)
   (l4 (n5 (i:=5) (y9 (uM (dv 5) gz (gy (dv 7))) (uM (dv 5) (gy (y9 (dv 7) j4)) gz)) nd))) x3)))))) x3)
   (l4 (u4 (dv 5))))))))))))
noncomputable abbrev bw:SM:=(nv 4 (i3 B1 (i3 B1 (h8 2) (mC (.int 1))) (h8 5)) (i3 A4 (h8 5) (mC (.int 1))))
noncomputable abbrev eO:SM:=(M8 (Al 4 (h8 10) (mC .z5)))
noncomputable abbrev bv:SM:=(l6 (u1 8 (u5 [g8,g8] v3 (i2 (h8 0) (i2 (i3 A4 (h8 1) (i3 gB (mC (.int 9)) (h8 5))) k6))))
 (W6 (v4 (i3 L1 (i3 K3 (h8 8) (mC (.int 9))) (mC (.int 0)))) (l6 (u1 9 (L6 kT (i2 (F7 (kh ints1 (i2 (i3 K3 (i3 cC (h8 8) (mC (.int 9))) (mC (.int 3))) k6)) (C3 0) N1 (i3 A4 (mC (.int 1)) (i3 K3 (u5 [g8,g8] v3 (i2 (h8 1) (i2 (i3 A4 (i3 A4 (h8 2) (i3 gB (mC (.int 9)) (h8 3))) (h8 0)) k6))) (i3 A4 (h8 4) (mC (.int 2))))) 1 [0,1,5,6]) k6)))
 (l6 (M8 (N7 7 (i2 (aP (i2 (mC (.str [100,114,111,112])) (i2 (h8 9) k6))) k6)))
 (aa (z6 (h8 9)) (C3 10) eO))) (l6 (u1 11 (u5 [g8,g8,g8,g8] J1 (i2 (h8 0) (i2 (i3 A4 (i3 A4 (h8 1) (i3 gB (mC (.int 9)) (h8 5))) (mC (.int 1))) (i2 (i3 B1 (h8 2) (mC (.int 0))) (i2 (mC (.int 3)) k6))))))
 (l6 (W6 (qV (v4 (i3 L1 (i3 K3 (h8 8) (mC (.int 3))) (mC (.int 0)))) (v4 (i3 L1 (i3 K3 (h8 8) (mC (.int 9))) (mC (.int 1))))) (u1 11 (aP k6)) Z8)
 (l6 (u1 12 (u5 [g8,g8,g8,g8] Q4 (i2 (h8 0) (i2 (i3 A4 (i3 A4 (h8 1) (i3 gB (mC (.int 9)) (h8 5))) (mC (.int 6))) (i2 (h8 4) (i2 (h8 11) k6))))))
 (l6 (u1 13 (L6 maxD (i2 (mC (.int 1)) (i2 (i3 xc (i3 A4 (i3 A4 (h8 6) (mC (.int 1))) (i3 K3 (i3 cC (h8 8) (mC (.int 9))) (mC (.int 2)))) (L6 intD (i2 (i3 L1 (i3 K3 (i3 cC (h8 8) (mC (.int 18))) (mC (.int 12))) (mC (.int 5))) k6))) k6))))
 (l6 (M8 (N7 7 (i2 (aP (i2 (mC (.str [97,100,100])) (i2 (h8 13) (i2 (h8 11) (i2 (L6 kT (i2 (h8 12) k6)) k6))))) k6)))
 (W6 (bP (v4 (i3 (Q6 λi j=>decide (j<i)) (h8 13) (h8 6))) (as (u5 [g8,g8,g8] E3 (i2 (h8 4) (i2 (h8 11) (i2 (h8 12) k6)))))) (l6 (nv 4 (h8 11) (h8 13))
 (u1 6 (h8 13))) Z8))))))))
noncomputable abbrev nG:SM:=(l6 (u1 4 ou)
 (l6 (aa (kh ints1 (i2 (L6 aw (i2 (i3 B1 (h8 2) (mC (.int 1))) k6)) k6)) (C3 5) bw)
 (l6 (u1 6 (L6 aw (i2 (i3 B1 (h8 2) (mC (.int 1))) k6)))
 (l6 (u1 7 (aQ k6))
 (l6 (aa (kh ints1 (i2 (h8 3) k6)) (C3 5) bv)
 (retS (h8 7)))))))
noncomputable def aV:List D→Option FR:=N8 nG 14 [g8,g8,g8,g8]
theorem ni (F:az K "_law_steps" "_law_steps" bV f fd) (b:mg "range"=g9) (h:mg "len"=g9) (g:mg "tuple"=g9) (l:mg "max"=g9) (m:mg "int"=g9)
  (c:eZ P w K mg base 2 "_law_mix" ["_law_script","_law_k"] (U0 K [g8,g8] v3))
  (e:eZ P w K mg base 3 "_law_clause" ["_law_script","_law_base","_law_variables","_law_most"] (U0 K [g8,g8,g8,g8] J1))
  (a:eZ P w K mg base 3 "_law_any_hints" ["_law_script","_law_base","_law_table_here","_law_clause_here"] (U0 K [g8,g8,g8,g8] Q4))
  (d:eZ P w K mg base 4 "_law_follows" ["_law_table_here","_law_clause_here","_law_hints_here"] (U0 K [g8,g8,g8] E3)):
  x8 P w K mg base V1 5 f fd ["_law_script","_law_base","_law_formula_here","_law_many"] (U0 K [g8,g8,g8,g8] aV):=
 have nd:=hX.nd
 Q7 (k:=4) F hX rfl (λcdv A outer s H E H0 HK G0 L hr=>by
  have j:=gG hr;exact(j7 (n5 (i:=4) qA nd)
   (j7 (V4 (W7 b (h9 (ag h (h9 (w5 j (dv 2) j4) j6)) j6)) (K9 (i:=5) nd) (l4 (ic 4 j (w5 j (w5 j (dv 2) j4) (dv 5)) (dv 4) (y9 (dv 5) j4))))
   (j7 (n5 (i:=6) (ag h (h9 (w5 j (dv 2) j4) j6)) nd)
   (j7 (n5 (i:=7) (S8 j6) nd)
   (j7 (V4 (W7 b (h9 (dv 3) j6)) (K9 (i:=5) nd) (j7 (n5 (i:=8) (u6 c (hr.mono (by decide)) (h9 (dv 0) (h9 (y9 (dv 1) (gi j4 (dv 5))) j6))) nd)
   (l4 (D2 (Z4 j (E4 (dv 8) j4) j4) (j7 (n5 (i:=9) (qx g (h9 (P2 (cD [("_law_script",0),("_law_base",1),("_law_k",5),("_law_top",6)] ⟨⟨rfl,rfl,.inl rfl⟩,⟨⟨rfl,rfl,.inl rfl⟩,⟨⟨rfl,rfl,.inl rfl⟩,⟨⟨rfl,rfl,.inl rfl⟩,trivial⟩⟩⟩⟩) (W7 b (h9 (E4 (ah (dv 8) j4) j4) j6)) (λ_ _ _ _ _ _ _ _ _=>af) (λ_ _ _ _ _ _ _ _ _=>(y9 j4 (E4 (u6 c (hr.mono (by decide)) (h9 (dv 1) (h9 (y9 (y9 (dv 2) (gi j4 (dv 3))) (dv 0)) j6))) (y9 (dv 4) j4))))) j6)) nd)
   (j7 (R8 (X2 7 (dv 7) (h9 (X6 (h9 (jq (cs:=[100,114,111,112]) (by decide +kernel)) (h9 (dv 9) j6))) j6)))
   (l4 (V4 (D1 (dv 9)) (K9 (i:=10) nd) (l4 (R8 (qz 4 (dv 4) (dv 10) wx))))))) (j7 (n5 (i:=11) (u6 e (hr.mono (by decide)) (h9 (dv 0) (h9 (y9 (y9 (dv 1) (gi j4 (dv 5))) j4) (h9 (w5 j (dv 2) j4) (h9 j4 j6))))) nd)
   (j7 (D2 ((w_or (Z4 j (E4 (dv 8) j4) j4) (fT (Z4 j (E4 (dv 8) j4) j4)))).pt (l4 (n5 (i:=11) (X6 j6) nd)) x3)
   (j7 (n5 (i:=12) (u6 a (hr.mono (by decide)) (h9 (dv 0) (h9 (y9 (y9 (dv 1) (gi j4 (dv 5))) j4) (h9 (dv 4) (h9 (dv 11) j6))))) nd)
   (j7 (n5 (i:=13) (JP rfl l (h9 j4 (h9 (BB (y9 (y9 (dv 6) j4) (E4 (ah (dv 8) j4) j4)) (HC m (h9 (jR j (E4 (ah (dv 8) j4) j4) j4) j6))) j6))) nd)
   (j7 (R8 (X2 7 (dv 7) (h9 (X6 (h9 (jq (cs:=[97,100,100]) (by decide +kernel)) (h9 (dv 13) (h9 (dv 11) (h9 (qx g (h9 (dv 12) j6)) j6))))) j6)))
   (l4 (D2 ((w_and (tN (dv 13) (dv 6)) (bg (V2 (u6 d (hr.mono (by decide)) (h9 (dv 4) (h9 (dv 11) (h9 (dv 12) j6)))))))).pt (j7 (ic 4 j (dv 11) (dv 4) (dv 13))
   (l4 (n5 (i:=6) (dv 13) nd))) x3)))))))))))
   (l4 (u4 (dv 7)))))))))
noncomputable abbrev av:SM:=(nv 2 (i3 B1 (i3 B1 (h8 0) (mC (.int 1))) (h8 3)) (i3 A4 (h8 3) (mC (.int 1))))
noncomputable abbrev au:SM:=(M8 (Al 2 (h8 6) (mC .z5)))
noncomputable abbrev F4:SM:=(l6 (u1 5 (i3 B1 (h8 1) (h8 3)))
 (W6 (v4 (i3 L1 (i3 B1 (h8 5) (mC (.int 0))) (mC (.str [100,114,111,112])))) (aa (z6 (i3 B1 (h8 5) (mC (.int 1)))) (C3 6) au) (l6 (u1 7 (eN (i3 (Q6 λi j=>decide (j<i)) (i3 B1 (h8 5) (mC (.int 1))) (h8 4)) (L6 uU (i2 (F7 (z6 (i3 B1 (h8 5) (mC (.int 2)))) (C3 0) N1 (i3 (Q6 λi j=>decide (i≤j)) (L6 iR (i2 (h8 0) k6)) (i3 B1 (h8 1) (mC (.int 0)))) 1 [0]) k6))))
 (l6 (W6 (qV (kk (as (h8 7))) (kk (as (u5 [g8,g8,g8] E3 (i2 (h8 2) (i2 (i3 B1 (h8 5) (mC (.int 2))) (i2 (L6 fY (i2 (i3 B1 (h8 5) (mC (.int 3))) k6)) k6))))))) (retS (aP (i2 (h8 3) (i2 (mC (.bl g8)) k6)))) Z8)
 (l6 (u1 4 (i3 B1 (h8 5) (mC (.int 1))))
 (l6 (nv 2 (i3 B1 (h8 5) (mC (.int 2))) (h8 4))
 (W6 (v4 (i3 L1 (i3 B1 (h8 5) (mC (.int 2))) (aP k6))) (retS (aP (i2 (dV N9 (mC (.int 1))) (i2 (mC (.bl h7)) k6)))) Z8)))))))
noncomputable abbrev mx:SM:=(l6 (u1 2 ou)
 (l6 (aa (kh ints1 (i2 (L6 aw (i2 (i3 B1 (h8 0) (mC (.int 1))) k6)) k6)) (C3 3) av)
 (l6 (u1 4 (L6 aw (i2 (i3 B1 (h8 0) (mC (.int 1))) k6)))
 (l6 (aa (kh ints1 (i2 (L6 aw (i2 (h8 1) k6)) k6)) (C3 3) F4)
 (retS (aP (i2 (dV N9 (mC (.int 1))) (i2 (mC (.bl g8)) k6))))))))
noncomputable def B2:List D→Option FR:=N8 mx 8 [g8,g8]
theorem lp (F:az K "_law_played" "_law_played" aK f fd) (c:mg "range"=g9) (d:mg "len"=g9) (g:mg "all"=g9) (h:mg "abs"=g9) (e:mg "list"=g9)
  (a:eZ P w K mg base 4 "_law_follows" ["_law_table_here","_law_clause_here","_law_hints_here"] (U0 K [g8,g8,g8] E3)):
  x8 P w K mg base V1 5 f fd ["_law_formula_here","_law_steps_here"] (U0 K [g8,g8] B2):=
 have nd:=fU.nd
 Q7 (k:=4) F fU rfl (λcdv A outer s H E H0 HK G0 L hr=>by
  have b:=gG hr;exact(j7 (n5 (i:=2) qA nd)
   (j7 (V4 (W7 c (h9 (ag d (h9 (w5 b (dv 0) j4) j6)) j6)) (K9 (i:=3) nd) (l4 (ic 2 b (w5 b (w5 b (dv 0) j4) (dv 3)) (dv 2) (y9 (dv 3) j4))))
   (j7 (n5 (i:=4) (ag d (h9 (w5 b (dv 0) j4) j6)) nd)
   (j7 (V4 (W7 c (h9 (ag d (h9 (dv 1) j6)) j6)) (K9 (i:=3) nd) (j7 (n5 (i:=5) (w5 b (dv 1) (dv 3)) nd)
   (l4 (D2 (Z4 b (w5 b (dv 5) j4) (jq (cs:=[100,114,111,112]) (by decide +kernel))) (l4 (V4 (D1 (w5 b (dv 5) j4)) (K9 (i:=6) nd) (l4 (R8 (qz 2 (dv 2) (dv 6) wx))))) (j7 (n5 (i:=7) (wz (JQ (w5 b (dv 5) j4) (dv 4)) (sR (BF rfl g (h9 (P2 (cD [("_law_formula_here",0)] ⟨⟨rfl,rfl,.inl rfl⟩,trivial⟩) (D1 (w5 b (dv 5) j4)) (λ_ _ _ _ _ _ _ _ _=>af) (λ_ _ _ _ _ _ _ _ _=>(LP (jT h (h9 (dv 0) j6)) (w5 b (dv 1) j4)))) j6)))) nd)
   (j7 (D2 ((w_or (hB (V2 (dv 7))) (fT (hB (V2 (u6 a (hr.mono (by decide)) (h9 (dv 2) (h9 (w5 b (dv 5) j4) (h9 (gM rfl e (h9 (w5 b (dv 5) j4) j6)) j6))))))))).pt (l4 (u4 (X6 (h9 (dv 3) (h9 dN j6))))) x3)
   (j7 (n5 (i:=4) (w5 b (dv 5) j4) nd)
   (j7 (ic 2 b (w5 b (dv 5) j4) (dv 2) (dv 4))
   (l4 (D2 (Z4 b (w5 b (dv 5) j4) (X6 j6)) (l4 (u4 (X6 (h9 (M9 j4) (h9 dN j6))))) x3))))))))))
   (l4 (u4 (X6 (h9 (M9 j4) (h9 dN j6))))))))))
noncomputable abbrev iL:SM:=(retS (L6 vH (i2 (h8 0) k6)))
noncomputable def cg:List D→Option FR:=N8 iL 1 [g8]
theorem pu (F:az K "numbered" "numbered" dh f fd) (b:mg "dict"=g9) (a:mg "enumerate"=g9):
  x8 P w K mg base V1 1 f fd ["clauses"] (U0 K [g8] cg):=
 have nd:=jC.nd
 Q7 (k:=0) F jC rfl (λcdv A outer s H E H0 HK G0 L hr=>by
  have c:=gG hr;exact(l4 (u4 (uN rfl b a (h9 (dv 0) j6)))))
theorem eh (F:az K "__init__" "NotRight.__init__" R9 f fd) (c:gR K mg "NotRight" b a f "place") (U:wH K mg "ClauseError" a):
  x8 P w K mg base V1 1 f fd ["self","place"] (IW b "place"):=
 DL (k:=0) (mt:=(Ak (dE (mC (.str [116,104,101,32,115,116,101,112,32,98,101,104,105,110,100,32])) (dE (xH (h8 1)) (dE (mC (.str [32,115,116,101,112,115,32,105,115,32,110,111,116,32,114,105,103,104,116])) vR))))) F eJ c U rfl (λn d e=>JF d e (by decide) (by decide)) (.inl rfl) (.inl rfl) (by decide) (by decide) (λcdv A outer s H E H0 HK G0 L hr=>⟨(BC (ui (jq (cs:=[116,104,101,32,115,116,101,112,32,98,101,104,105,110,100,32]) (by decide +kernel)) (ui (JR (dv 1)) (ui (jq (cs:=[32,115,116,101,112,115,32,105,115,32,110,111,116,32,114,105,103,104,116]) (by decide +kernel)) Jv)))),rfl,⟨_,rfl⟩⟩)
noncomputable abbrev aD:SM:=(l6 (hG 0 "variables" (h8 1))
 (l6 (tabS 0 3 (u5 [g8] cg (i2 (h8 2) k6)))
 (l6 (hG 0 "greatest" (L6 aw (i2 (h8 2) k6)))
 (l6 (hG 0 "taken" (mC (.int 0)))
 (hG 0 "refuted" (mC (.bl g8)))))))
theorem bx:¬cq (i7 F6) "self.table":=by unfold cq;decide +kernel
noncomputable def A8:List D→Option L3.Made:=xl aD 4 3
theorem fN (F:az K "__init__" "Keeper.__init__" F6 f fd) (d:mg "len"=g9) (a:fQ K b ["variables","table","greatest","taken","refuted"])
  (c:eZ P w K mg base 1 "numbered" ["clauses"] (U0 K [g8] cg)):
  x8 P w K mg base V1 2 f fd ["self","variables","clauses"] (Fs K b 3 A8):=
 have nd:=bo.nd
 Jz (k:=1) (C:=b) (g:="self.table") 3 F bo rfl bx (by decide) (by decide) (λcdv A outer s H E H0 HK G0 L e hr=>by
  have h:=gG hr;exact(j7 (og 0 3 a 0 (dv 1))
   (j7 (Ja 0 3 a 1 (u6 c (hr.mono (by decide)) (h9 (dv 2) j6)) e bx)
   (j7 (og 0 3 a 2 (ag d (h9 (dv 2) j6)))
   (j7 (og 0 3 a 3 j4)
   (l4 (og 0 3 a 4 dN)))))))
noncomputable abbrev aC:SM:=(l6 (W6 (qV (v4 (i3 (Q6 λi j=>decide (i≤j)) (h8 1) (pO 0 "greatest"))) (as (L6 yy (i2 (F7 (z6 (h8 2)) (C3 0) N1 (i3 (Q6 λi j=>decide (j<i)) (L6 iR (i2 (h8 0) k6)) (Ju 1 "variables")) 1 [0]) k6)))) (retS (mC (.bl g8))) Z8)
 (retS (u5 [g8,g8,g8] P0 (i2 (rW 0 4) (i2 (h8 2) (i2 (h8 3) k6))))))
theorem gJ:¬cq (i7 F5) "self.table":=by unfold cq;decide +kernel
noncomputable def M4:FM:=ii aC 5 4
theorem fM (F:az K "is_right" "Keeper.is_right" F5 f fd) (d:mg "any"=g9) (e:mg "abs"=g9) (b:fQ K a ["variables","table","greatest","taken","refuted"])
  (c:eZ P w K mg base 6 "follows" ["table","clause","hints"] (U0 K [g8,g8,g8] P0)):
  x8 P w K mg base (qR P w) 7 f fd ["self","number","clause","hints"] (dQ K a 4 M4):=
 have nd:=bn.nd
 lV (k:=6) (C:=a) (g:="self.table") 4 F bn rfl gJ (by decide) (λcdv A outer s H E H0 HK G0 L hr=>by
  have h:=gG hr;exact(IV (j7 (D2 ((w_or (KZ (dv 1) (oK 0 4 b 2)) (fT (V2 (BE rfl d (h9 (P2 (cD [("self",0)] ⟨⟨rfl,rfl,.inl rfl⟩,trivial⟩) (D1 (dv 2)) (λ_ _ _ _ _ _ _ _ _=>af) (λ_ _ _ _ _ _ _ _ _=>(JQ (jT e (h9 (dv 0) j6)) (LO 1 b 0)))) j6)))))).pt (l4 (u4 dN)) x3)
   (l4 (u4 (u6 c (hr.mono (by decide)) (h9 (BA 0 4 b 1) (h9 (dv 2) (h9 (dv 3) j6)))))))))
noncomputable abbrev N2:SM:=(l6 (W6 (kk (as (bu 0 4 "is_right" 4 M4 (i2 (h8 1) (i2 (h8 2) (i2 (h8 3) k6)))))) (lv "NotRight" "place" (i2 (pO 0 "taken") k6)) Z8)
 (l6 (xq (rW 0 4) 4 (h8 2) (h8 1))
 (l6 (hG 0 "greatest" (h8 1))
 (hG 0 "refuted" (i3 L1 (h8 2) (aP k6))))))
theorem eR:¬cq (i7 D0) "self.table":=by unfold cq;decide +kernel
noncomputable def B8:FM:=ii N2 5 4
theorem el (F:az K "add_clause" "Keeper.add_clause" D0 f fd) (i:gR K mg "NotRight" e h d "place") (j:HS P w K mg base 1 d e "place" "place") (b:fQ K a ["variables","table","greatest","taken","refuted"])
  (c:jY P w K mg base 7 a "is_right" ["self","number","clause","hints"] (dQ K a 4 M4)):
  x8 P w K mg base (qR P w) 8 f fd ["self","number","clause","hints"] (dQ K a 4 B8):=
 have nd:=Z5.nd
 lV (k:=7) (C:=a) (g:="self.table") 4 F Z5 rfl eR (by decide) (λcdv A outer s H E H0 HK G0 L hr=>by
  have l:=gG hr;exact(IV (j7 (D2 (hB (V2 (iN 0 4 b c (hr.mono (by decide)) (h9 (dv 1) (h9 (dv 2) (h9 (dv 3) j6)))))) (l4 (zm i j (hr.mono (by decide)) (h9 (oK 0 4 b 3) j6))) x3)
   (j7 (ic 4 l (dv 2) (BA 0 4 b 1) (dv 1) (hm:=nX))
   (j7 (og 0 4 b 2 (dv 1))
   (l4 (og 0 4 b 4 (jR l (dv 2) (X6 j6)))))))))
noncomputable abbrev S6:SM:=(M8 (jg (rW 0 3) 3 (h8 2) (mC .z5)))
noncomputable abbrev V9:SM:=(aa (z6 (h8 1)) (C3 2) S6)
theorem dF:¬cq (i7 A6) "self.table":=by unfold cq;decide +kernel
noncomputable def D4:FM:=ii V9 4 3
theorem cO (F:az K "drop_clauses" "Keeper.drop_clauses" A6 f fd) (b:fQ K a ["variables","table","greatest","taken","refuted"]):
  x8 P w K mg base (qR P w) 1 f fd ["self","numbers"] (dQ K a 2 D4):=
 have nd:=W2.nd
 lV (k:=0) (C:=a) (g:="self.table") 3 F W2 rfl dF (by decide) (λcdv A outer s H E H0 HK G0 L hr=>by
  have c:=gG hr;exact(IV (l4 (V4 (D1 (dv 1)) (K9 (i:=2) nd) (l4 (R8 (qz 3 (BA 0 3 b 1) (dv 2) wx (hm:=nX))))))))
noncomputable abbrev T7:SM:=(l6 (W6 (kk (as (pO 0 "refuted"))) (W6 (v4 (i3 L1 (i3 B1 (h8 1) (mC (.int 0))) (mC (.str [100,114,111,112])))) (M8 (bu 0 2 "drop_clauses" 2 D4 (i2 (i3 B1 (h8 1) (mC (.int 1))) k6))) (M8 (bu 0 2 "add_clause" 4 B8 (i2 (i3 B1 (h8 1) (mC (.int 1))) (i2 (i3 B1 (h8 1) (mC (.int 2))) (i2 (i3 B1 (h8 1) (mC (.int 3))) k6)))))) Z8)
 (sZ 0 "taken" (mC (.int 1))))
theorem lR:¬cq (i7 S5) "self.table":=by unfold cq;decide +kernel
noncomputable def y4:FM:=ii T7 3 2
theorem kg (F:az K "take" "Keeper.take" S5 f fd) (d:fQ K a ["variables","table","greatest","taken","refuted"])
  (b:jY P w K mg base 1 a "drop_clauses" ["self","numbers"] (dQ K a 2 D4))
  (c:jY P w K mg base 8 a "add_clause" ["self","number","clause","hints"] (dQ K a 4 B8)):
  x8 P w K mg base (qR P w) 9 f fd ["self","step"] (dQ K a 2 y4):=
 have nd:=eK.nd
 lV (k:=8) (C:=a) (g:="self.table") 2 F eK rfl lR (by decide) (λcdv A outer s H E H0 HK G0 L hr=>by
  have e:=gG hr;exact(IV (j7 (D2 (hB (V2 (oK 0 2 d 4))) (l4 (D2 (Z4 e (w5 e (dv 1) j4) (jq (cs:=[100,114,111,112]) (by decide +kernel))) (l4 (R8 (iN 0 2 d b (hr.mono (by decide)) (h9 (w5 e (dv 1) j4) j6)))) (l4 (R8 (iN 0 2 d c (hr.mono (by decide)) (h9 (w5 e (dv 1) j4) (h9 (w5 e (dv 1) j4) (h9 (w5 e (dv 1) j4) j6)))))))) x3)
   (l4 (zo 0 2 d 3 j4)))))
noncomputable abbrev W4:SM:=(M8 (bu 3 5 "take" 2 y4 (i2 (h8 4) k6)))
noncomputable abbrev jQ:SM:=(l6 (rV 3 5 3 A8 (i2 (h8 0) (i2 (h8 1) k6)))
 (l6 (aa (z6 (h8 2)) (C3 4) W4)
 (retS (pO 3 "refuted"))))
theorem ux:¬cq (i7 cM) "keeper.table":=by unfold cq;decide +kernel
noncomputable def dG:List D→Option FR:=N8 jQ 6 [g8,g8,g8]
theorem rA (F:az K "checked" "checked" cM f fd) (d:fQ K a ["variables","table","greatest","taken","refuted"]) (e:mg "Keeper"=g7 (.ref a))
  (b:EF P w K mg base 2 a ["self","variables","clauses"] (Fs K a 3 A8))
  (c:jY P w K mg base 9 a "take" ["self","step"] (dQ K a 2 y4)):
  x8 P w K mg base (qR P w) 10 f fd ["variables","clauses","steps"] (Fq K [g8,g8,g8] dG):=
 have nd:=ll.nd
 DM (k:=9) (3,5,a) F ll rfl rfl (λcdv A outer s H E H0 HK G0 L g hr=>by
  have h:=gG hr;exact(IV (j7 (zn 3 5 b e (hr.mono (by decide)) (h9 (dv 0) (h9 (dv 1) j6)) (g 5) ux nd)
   (j7 (V4 (D1 (dv 2)) (K9 (i:=4) nd) (l4 (R8 (iN 3 5 d c (hr.mono (by decide)) (h9 (dv 4) j6)))))
   (l4 (u4 (oK 3 5 d 4)))))))
noncomputable abbrev nF:SM:=(l6 (u1 2 (dV N9 (mC (.int 1))))
 (l6 (mX (M8 (bu 0 4 "take" 2 y4 (i2 (h8 1) k6))) 3 2 (wW "NotRight" "place"))
 (retS (h8 2))))
theorem pX:¬cq (i7 Z6) "_law_keeper.table":=by unfold cq;decide +kernel
noncomputable def Q2:FM:=ii nF 5 4
theorem nh (F:az K "_law_taken" "_law_taken" Z6 f fd) (p:mg "isinstance"=g9) (q:mg "ValueError"=g9) (m:Ce K mg "ClauseError" a) (e:gR K mg "NotRight" l a r "place") (b:subIn K l a=h7) (t:fQ K c ["variables","table","greatest","taken","refuted"])
  (o:jY P w K mg base 9 c "take" ["self","step"] (dQ K c 2 y4)):
  x8 P w K mg base (qR P w) 10 f fd ["_law_keeper","_law_step"] (dQ K c 2 Q2):=
 have nd:=hW.nd
 lV (k:=9) (C:=c) (g:="_law_keeper.table") 4 F hW rfl pX (by decide) (λcdv A outer s H E H0 HK G0 L hr=>by
  have v:=gG hr;exact(P7 (s0 (n5 (i:=2) (M9 j4) nd))
   (P7 (EV (i:=3) (j:=2) (l4 (R8 (iN 0 4 t o (hr.mono (by decide)) (h9 (dv 1) j6)))) m nd (λx d u=>vm u e b (λn=>Hh e p q nd rfl rfl rfl rfl rfl rfl rfl (by decide) (by decide) (by decide) (λh=>by subst h;rfl) (λh=>by subst h;rfl))))
   (zt (s0 (u4 (dv 2)))))))
noncomputable abbrev iy:SM:=(l6 (u1 10 (u5 [g8,g8] B2 (i2 (h8 1) (i2 (i3 A4 (h8 8) (aQ (i2 (h8 9) k6))) k6))))
 (l6 (u1 11 (bu 4 12 "" 2 Q2 (i2 (h8 9) k6)))
 (l6 (W6 (qV (kk (as (u5 [g8] aU (i2 (h8 11) k6)))) (v4 (i3 S0 (h8 11) (i3 B1 (h8 10) (mC (.int 0)))))) (retS (mC (.bl g8))) Z8)
 (l6 (W6 (v4 (i3 (Q6 λi j=>decide (i<j)) (h8 11) (mC (.int 0)))) (M8 (N7 8 (i2 (h8 9) k6))) Z8)
 (W6 (qV (kk (as (L6 xO (i2 (pO 4 "refuted") (i2 (mC (.ty "bool")) k6))))) (v4 (i3 S0 (pO 4 "refuted") (i3 B1 (u5 [g8,g8] B2 (i2 (h8 1) (i2 (h8 8) k6))) (mC (.int 1)))))) (retS (mC (.bl g8))) Z8)))))
noncomputable abbrev wu:SM:=(l6 (u1 1 (u5 [g8,g8] W9 (i2 (h8 0) (i2 (mC (.int 0)) k6))))
 (l6 (u1 2 (u5 [g8,g8,g8,g8] aV (i2 (h8 0) (i2 (mC (.int 50)) (i2 (h8 1) (i2 (i3 K3 (u5 [g8,g8] v3 (i2 (h8 0) (i2 (mC (.int 48)) k6))) (mC (.int 6))) k6))))))
 (l6 (u1 3 (u5 [g8,g8] B2 (i2 (h8 1) (i2 (h8 2) k6))))
 (l6 (rV 4 12 3 A8 (i2 (i3 B1 (h8 1) (mC (.int 0))) (i2 (L6 fY (i2 (i3 B1 (h8 1) (mC (.int 1))) k6)) k6)))
 (l6 (u1 5 (dV N9 (mC (.int 1))))
 (l6 (u1 6 (mC .z5))
 (l6 (mX (u1 6 (gC [g8,g8,g8] dG (i2 (i3 B1 (h8 1) (mC (.int 0))) (i2 (L6 fY (i2 (i3 B1 (h8 1) (mC (.int 1))) k6)) (i2 (L6 fY (i2 (h8 2) k6)) k6))))) 7 5 (wW "NotRight" "place"))
 (l6 (W6 (v4 (i3 S0 (h8 5) (i3 B1 (h8 3) (mC (.int 0))))) (retS (mC (.bl g8))) Z8)
 (l6 (W6 (bP (v4 (i3 (Q6 λi j=>decide (i<j)) (i3 B1 (h8 3) (mC (.int 0))) (mC (.int 0)))) (qV (kk (as (L6 xO (i2 (h8 6) (i2 (mC (.ty "bool")) k6))))) (v4 (i3 S0 (h8 6) (i3 B1 (h8 3) (mC (.int 1))))))) (retS (mC (.bl g8))) Z8)
 (l6 (u1 8 (aQ k6))
 (l6 (aa (z6 (h8 2)) (C3 9) iy)
 (retS (mC (.bl h7))))))))))))))
theorem Hi:¬cq (i7 nZ) "_law_keeper.table":=by unfold cq;decide +kernel
theorem CY (F:az K "law" "law" nZ f fd) (t:mg "list"=g9) (c:mg "isinstance"=g9) (I:mg "bool"=g9) (p:Ce K mg "ClauseError" b) (m:gR K mg "NotRight" o b u "place") (g:subIn K o b=h7) (r:fQ K a ["variables","table","greatest","taken","refuted"]) (J:mg "Keeper"=g7 (.ref a))
  (q:eZ P w K mg base 4 "_law_formula" ["_law_script","_law_base"] (U0 K [g8,g8] W9))
  (v:eZ P w K mg base 5 "_law_steps" ["_law_script","_law_base","_law_formula_here","_law_many"] (U0 K [g8,g8,g8,g8] aV))
  (B:eZ P w K mg base 2 "_law_mix" ["_law_script","_law_k"] (U0 K [g8,g8] v3))
  (e:eZ P w K mg base 5 "_law_played" ["_law_formula_here","_law_steps_here"] (U0 K [g8,g8] B2))
  (l:EF P w K mg base 2 a ["self","variables","clauses"] (Fs K a 3 A8))
  (G:yz P w K mg base 10 "checked" ["variables","clauses","steps"] (Fq K [g8,g8,g8] dG))
  (y:yz P w K mg base 10 "_law_taken" ["_law_keeper","_law_step"] (dQ K a 2 Q2))
  (z:eZ P w K mg base 1 "_law_whole" ["_law_found"] (U0 K [g8] aU)):
  x8 P w K mg base V1 11 f fd ["_law_script"] (U0 K [g8] (N8 wu 13 [g8])):=
 have nd:=zl.nd
 DN (k:=10) (4,12,a) F zl rfl rfl (λcdv A outer s H E H0 HK G0 L O hr=>by
  have N:=gG hr;exact(P7 (s0 (n5 (i:=1) (u6 q (hr.mono (by decide)) (h9 (dv 0) (h9 j4 j6))) nd))
   (P7 (s0 (n5 (i:=2) (u6 v (hr.mono (by decide)) (h9 (dv 0) (h9 j4 (h9 (dv 1) (h9 (E4 (u6 B (hr.mono (by decide)) (h9 (dv 0) (h9 j4 j6))) j4) j6))))) nd))
   (P7 (s0 (n5 (i:=3) (u6 e (hr.mono (by decide)) (h9 (dv 1) (h9 (dv 2) j6))) nd))
   (P7 (s0 (zn 4 12 l J (hr.mono (by decide)) (h9 (w5 N (dv 1) j4) (h9 (gM rfl t (h9 (w5 N (dv 1) j4) j6)) j6)) (O 12) Hi nd))
   (P7 (s0 (n5 (i:=5) (M9 j4) nd))
   (P7 (s0 (n5 (i:=6) wx nd))
   (P7 (EV (i:=7) (j:=5) (l4 (n5 (i:=6) (Ex G (hr.mono (by decide)) (h9 (w5 N (dv 1) j4) (h9 (gM rfl t (h9 (w5 N (dv 1) j4) j6)) (h9 (gM rfl t (h9 (dv 2) j6)) j6)))) nd)) p nd (λx d Q=>vm Q m g (λn=>DJ m c nd rfl rfl rfl rfl rfl rfl (by decide) (by decide) (by decide) (λh=>by subst h;rfl) (λh=>by subst h;rfl))))
   (P7 (s0 (D2 (bR N (dv 5) (w5 N (dv 3) j4)) (l4 (u4 dN)) x3))
   (P7 (s0 (D2 ((w_and (CF (w5 N (dv 3) j4) j4) (bg ((w_or (hB (V2 (wy c (h9 (dv 6) (h9 (Eu I cG) j6))))) (fT (bR N (dv 6) (w5 N (dv 3) j4))))).pt))).pt (l4 (u4 dN)) x3))
   (P7 (s0 (n5 (i:=8) (S8 j6) nd))
   (P7 (s0 (V4 (D1 (dv 2)) (K9 (i:=9) nd) (j7 (n5 (i:=10) (u6 e (hr.mono (by decide)) (h9 (dv 1) (h9 (y9 (dv 8) (S8 (h9 (dv 9) j6))) j6))) nd)
   (j7 (n5 (i:=11) (Ey 4 12 y (hr.mono (by decide)) (h9 (dv 9) j6)) nd)
   (j7 (D2 ((w_or (hB (V2 (u6 z (hr.mono (by decide)) (h9 (dv 11) j6)))) (fT (bR N (dv 11) (w5 N (dv 10) j4))))).pt (l4 (u4 dN)) x3)
   (j7 (D2 (CF (dv 11) j4) (l4 (R8 (X2 8 (dv 8) (h9 (dv 9) j6)))) x3)
   (l4 (D2 ((w_or (hB (V2 (wy c (h9 (oK 4 12 r 4) (h9 (Eu I cG) j6))))) (fT (bR N (oK 4 12 r 4) (w5 N (u6 e (hr.mono (by decide)) (h9 (dv 1) (h9 (dv 8) j6))) j4))))).pt (l4 (u4 dN)) x3))))))))
   (zt (s0 (u4 dN)))))))))))))))
end
theorem wh:ou ρ=g7 (.ok (.own (.dct [])) ρ):=rfl
theorem lP (ns:List Int):intsOf (ns.map D.int)=g7 ns:=by
 induction ns with
 |nil=>rfl
 |cons n r ih=>simp[intsOf,ih]
theorem wD {α a:Type}(f:α→a)(xs:List α)(i:Int):L2.eW (xs.map f) i=(L2.eW xs i).map f:=by
 unfold L2.eW;rw[List.length_map];cases yF xs.length i with
 |none=>rfl
 |some j=>simp
theorem BN(h:ns≠[]):L2.eW ns (k % (ns.length:Int))=g7 (jV ns k):=by
 have q:=EC (ns:=ns) (k:=k) h;rw[wD,List.length_map]at q;cases e:L2.eW ns (k % (ns.length:Int))with
 |none=>rw[e]at q;cases q
 |some v=>
  rw[e]at q;have:V.int v=V.int (jV ns k):=Option.some.inj q;injection this with z
  rw[z]
theorem T0 (ns:List Int):(ns.map D.int).all bA=h7:=by
 rw[List.all_map,List.all_eq_true];intro x _;rfl
theorem DX {ns:List Int}:ci [.lst (ns.map D.int),.int k]=g7 (.ret (.val (.int (jV ns k))) []):=by
 show N8 iM 2 [g8,g8] _=_;cases ns with
 |nil=>rfl
 |cons n r=>
  have q:B1 (.lst ((n::r).map D.int)) (.int (k % ((((n::r).map D.int).length:Nat):Int)))=g7 (.val (.int (jV (n::r) k))):=by
   show(L2.eW _ _).map _=_;rw[List.length_map,wD,BN (List.cons_ne_nil _ _)];rfl
  exact dn (dJ (U9 (F1 (i5 rfl) rfl rfl) rfl (ay (j8 (i5 rfl) (j8 (i5 rfl) (bD (k7 (i5 rfl) n9) rfl rfl) rfl rfl (P8 (Int.ofNat_lt.mpr (Nat.succ_pos _)))) rfl rfl q) rfl))) rfl
theorem qc {ns:List Int}:v3 [.lst (ns.map D.int),.int k]=g7 (.ret (.val (.int (K6 ns k))) []):=
 dn (den:=jP) (n:=3) (ms:=[g8,g8]) (n3 (S1 (j8 (j8 (ml (k7 (i5 rfl) (k7 (i5 rfl) n9)) rfl rfl DX rfl rfl) (j8 u0 (j8 (i5 rfl) u0 rfl rfl rfl) rfl rfl (kG (.inl ⟨by decide,by decide⟩))) rfl rfl rfl) u0 rfl rfl (P8 (by decide))) rfl) (n3 (S1 (j8 (j8 (i5 rfl) u0 rfl rfl (kG (.inr ⟨by decide,by decide⟩))) u0 rfl rfl (P8 (by decide))) rfl) (ay (j8 (j8 (j8 (j8 (i5 rfl) u0 rfl rfl (pL ⟨by decide,by decide⟩)) u0 rfl rfl (kG (.inr ⟨by decide,by decide⟩))) (i5 rfl) rfl rfl rfl) u0 rfl rfl (P8 (by decide))) rfl))) rfl
theorem bi(h:n≤100000):small n:=by unfold small;omega
theorem sf (l:Int)(c:List Int):jm (.int l) (c.map D.int)=g7 (decide (l∈c)):=by
 induction c with
 |nil=>rfl
 |cons a r ih=>
  show(match gd 7 (.int a) (.int l),jm (.int l) (r.map D.int)with|some a,g7 b=>g7 (a||b) |_,_=>g9)=_;rw[ih];show g7 ((a==l)||decide (l∈r))=_;by_cases h:l=a
  ·simp[h]
  ·have h':¬a=l:=λe=>h e.symm;simp[h,h']
theorem ur (l:Int)(c:List Int):inD (.int l) (.tup (c.map D.int))=g7 (.val (.bl (decide (l∈c)))):=by
 show(jm (.int l) (c.map D.int)).bind _=_;rw[sf];rfl
theorem BS (bs:List Bool):cY (bs.map D.bl)=g7 bs:=by
 induction bs with
 |nil=>rfl
 |cons b r ih=>
  show(cY (r.map D.bl)).map _=_;rw[ih];rfl
theorem wE (bs:List Bool):uU [.lst (bs.map D.bl)]=g7 (.val (.bl (bs.all id))):=by
 show(cY _).bind _=_;rw[BS];rfl
theorem kO (bs:List Bool):yy [.lst (bs.map D.bl)]=g7 (.val (.bl (bs.any id))):=by
 show(cY _).bind _=_;rw[BS];rfl
theorem lX (bs:List Bool):(bs.map D.bl).all bA=h7:=by
 rw[List.all_map,List.all_eq_true];intro x _;rfl
theorem wj(g:ρ[i]?=g7 (g7 (.ow l (.lst e))))(h:f ρ=g7 (.ok [w] b))(hl:Q1 w b=g7 (.ok d a))(j:a[i]?=g7 (g7 (.ow l (.lst ds))))(k:small ds.length)(hs:a.set i (g7 (.ow l (.lst (ds++[d]))))=c):M8 (N7 i f) ρ=g7 (.nx c):=by
 subst hs;exact fJ (yi g h hl j k)
theorem eq_int (a b:Int):L1 (.int a) (.int b)=g7 (.val (.bl (decide (a=b)))):=by
 show g7 (W.val (.bl (a==b)))=_;by_cases h:a=b<;>simp[h]
section
variable {tg:FT}{mt:M Bool}{me:M W}{ρ m9 A5 jZ Im:l9}{d y:D}{w:W}
theorem turn_if(c:tg d ρ=g7 m9)(e:mt m9=g7 (.ok k A5))(f:k=h7→∃w jZ Im,me A5=g7 (.ok w jZ)∧Q1 w jZ=g7 (.ok y Im)):compTurn tg mt me ρ d=g7 (if k=h7 then g7 y else g9):=by
 cases k with
 |true=>
  obtain⟨w,jZ,Im,a,b⟩:=f rfl;exact eA c e a b
 |false=>exact CB c e
theorem fK {α:Type}{f g:α→D}{t:α→Bool}{xs:List α}(h:∀x∈xs,compTurn tg mt me ρ (f x)=g7 (if t x=h7 then g7 (g x)else g9)):E5 tg mt me ρ (xs.map f)=g7 ((xs.filter t).map g):=by
 induction xs with
 |nil=>rfl
 |cons x r ih=>
  have a:=h x List.mem_cons_self;have ih:=ih λy b=>h y (List.mem_cons_of_mem _ b);rw[List.map_cons];unfold E5;rw[a];cases hx:t x with
  |true=>rw[List.filter_cons_of_pos hx,ih];rfl
  |false=>rw[List.filter_cons_of_neg (by rw[hx];decide),ih];rfl
theorem sU {α:Type}{f g:α→D}{xs:List α}(h:∀x∈xs,∃m9 w A5 jZ,tg (f x) ρ=g7 m9∧me m9=g7 (.ok w A5)∧Q1 w A5=g7 (.ok (g x) jZ)):E5 tg N1 me ρ (xs.map f)=g7 (xs.map g):=by
 have:=fK (tg:=tg) (mt:=N1) (me:=me) (ρ:=ρ) (f:=f) (g:=g) (t:=λ_=>h7) (xs:=xs) (λx hx=>by
  obtain⟨m9,w,A5,jZ,a,b,c⟩:=h x hx;exact eA a rfl b c)
 rw[this,List.filter_eq_self.mpr (λ_ _=>rfl)]
end
theorem iP (cs:List (List Int)):(Y0 cs).length=cs.length:=List.length_map _
theorem oD (c:List Int):bA (.tup (c.map D.int))=h7:=by
 show(c.map D.int).all (sv 5)=h7;rw[List.all_map,List.all_eq_true];intro x _;rfl
theorem Bq (n:Nat)(a b:Int):gd n (.int a) (.int b)=g7 (decide (a=b)):=by
 have:JG (.int a) (.int b)=g7 (decide (a=b)):=by
  show g7 (a==b)=_;by_cases h:a=b<;>simp[h]
 cases n<;>exact this
theorem oH (n:Nat):∀a b:List Int,mT (gd n) (a.map D.int) (b.map D.int)=g7 (decide (a=b))
 | [],[]=>by simp[mT]
 | [],_::_=>by simp[mT]
 |_::_,[]=>by simp[mT]
 |x::r,y::t=>by
  show(match gd n (.int x) (.int y),mT (gd n) (r.map D.int) (t.map D.int)with|some a,g7 b=>g7 (a&&b) |_,_=>g9)=_;rw[Bq,oH n r t];by_cases c:x=y<;>by_cases d:r=t<;>simp[c,d]
section
variable {tg:FT}{b:SM}{ρ m9 A5:l9}{d:D}{P:l9→Prop}
def Tn (tg:FT)(b:SM)(d:D)(ρ:l9)(P:l9→Prop):Prop:=∃m9 A5,tg d ρ=g7 m9∧b m9=g7 (.nx A5)∧P A5
theorem tn (a:tg d ρ=g7 m9)(c:b m9=g7 (.nx A5))(e:P A5):Tn tg b d ρ P:=⟨m9,A5,a,c,e⟩
theorem DS {α:Type}{f:α→D}(S:List α→l9→Prop)(xs:List α)(h:∀pre x post ρ,xs=pre++x::post→S pre ρ→Tn tg b (f x) ρ (S (pre++[x])))(d:S [] ρ):∃a,forL tg b (xs.map f) ρ=g7 (.nx a)∧S xs a:=by
 have key:∀(c pre:List α) (ρ:l9),xs=pre++c→S pre ρ→∃a,forL tg b (c.map f) ρ=g7 (.nx a)∧S xs a:=by
  intro c;induction c with
  |nil=>intro pre ρ e h;exact⟨ρ,rfl,by rw[e,List.append_nil];exact h⟩
  |cons y c ih=>
   intro pre ρ e hk;obtain⟨m9,A5,g,i,j⟩:=h pre y c ρ e hk;obtain⟨a,k,l⟩:=ih (pre++[y]) A5 (by rw[e,List.append_assoc];rfl) j;exact⟨a,A7 g i k,l⟩
 exact key xs [] ρ rfl d
theorem DT(S:Nat→l9→Prop)(n:Nat)(h:∀k ρ,k<n→S k ρ→Tn tg b (f k) ρ (S (k+1)))(c:S 0 ρ):∃a,forL tg b ((List.range n).map f) ρ=g7 (.nx a)∧S n a:=by
 have key:∀(m k:Nat) (ρ:l9),k+m=n→S k ρ→∃a,forL tg b ((List.range' k m).map f) ρ=g7 (.nx a)∧S n a:=by
  intro m;induction m with
  |zero=>intro k ρ e h;exact⟨ρ,rfl,by rw[←e];exact h⟩
  |succ m ih=>
   intro k ρ e hk;obtain⟨m9,A5,d,g,i⟩:=h k ρ (by omega) hk;obtain⟨a,j,l⟩:=ih (k+1) A5 (by omega) i;exact⟨a,A7 d g j,l⟩
 rw[List.range_eq_range'];exact key n 0 ρ (by omega) c
def Rt (tg:FT)(b:SM)(d:D)(ρ:l9)(P:W→l9→Prop):Prop:=∃m9 w A5,tg d ρ=g7 m9∧b m9=g7 (.rt w A5)∧P w A5
theorem rt {w:W}{P:W→l9→Prop}(a:tg d ρ=g7 m9)(c:b m9=g7 (.rt w A5))(e:P w A5):Rt tg b d ρ P:=⟨m9,w,A5,a,c,e⟩
theorem Hm {α:Type}{f:α→D}(S:List α→l9→Prop)(R:W→l9→Prop)(xs:List α)(h:∀pre x post ρ,xs=pre++x::post→S pre ρ→Tn tg b (f x) ρ (S (pre++[x]))∨Rt tg b (f x) ρ R)(l:S [] ρ):(∃a,forL tg b (xs.map f) ρ=g7 (.nx a)∧S xs a)∨∃w a,forL tg b (xs.map f) ρ=g7 (.rt w a)∧R w a:=by
 have key:∀(c pre:List α) (ρ:l9),xs=pre++c→S pre ρ→(∃a,forL tg b (c.map f) ρ=g7 (.nx a)∧S xs a)∨∃w a,forL tg b (c.map f) ρ=g7 (.rt w a)∧R w a:=by
  intro c;induction c with
  |nil=>intro pre ρ e h;exact .inl ⟨ρ,rfl,by rw[e,List.append_nil];exact h⟩
  |cons y c ih=>
   intro pre ρ e hk;rcases h pre y c ρ e hk with⟨m9,A5,d,g,i⟩ | ⟨m9,w,A5,d,g,i⟩
   ·rcases ih (pre++[y]) A5 (by rw[e,List.append_assoc];rfl) i with⟨a,j,k⟩ | ⟨w,a,j,k⟩
    ·exact .inl ⟨a,A7 d g j,k⟩
    ·exact .inr ⟨w,a,A7 d g j,k⟩
   ·exact .inr ⟨w,A5,cB d g,i⟩
 exact key xs [] ρ rfl l
end
theorem bb {tg:FT}{me:M W}{ρ:l9}{α:Type}{f g:α→D}{xs:List α}(h:∀x∈xs,compTurn tg N1 me ρ (f x)=g7 (g7 (g x))):E5 tg N1 me ρ (xs.map f)=g7 (xs.map g):=by
 have:=fK (tg:=tg) (mt:=N1) (me:=me) (ρ:=ρ) (f:=f) (g:=g) (t:=λ_=>h7) h;rw[this,List.filter_eq_self.mpr (λ_ _=>rfl)]
theorem fE(h:n≤100000)(a:-1000≤n):ints1 [.int n]=g7 ((List.range n.toNat).map λk=>D.int (0+((k:Nat):Int))):=x9 ⟨by omega,by omega⟩
theorem vP (ds:List D):aw [.lst ds]=g7 (.val (.int (ds.length:Nat))):=rfl
theorem vQ (cs:List (List Int)):aw [.lst (Y0 cs)]=g7 (.val (.int (cs.length:Nat))):=by rw[vP,iP]
theorem Hc (l:Int)(c:List Int):inD (.int l) (.lst (c.map D.int))=g7 (.val (.bl (decide (l∈c)))):=ur l c
theorem Dv (l:Int)(c:List Int):cy (.int l) (.lst (c.map D.int))=g7 (.val (.bl (decide (l∉c)))):=by
 show(jm (.int l) (c.map D.int)).bind _=_;rw[sf];by_cases h:l∈c<;>simp[h,vB]
theorem kU (c:List Int):pf (.lst (c.map D.int))=g7 (!c.isEmpty):=by cases c<;>rfl
theorem lO {n:Nat}(h:n≤100000):ints1 [.int (n:Int)]=g7 ((List.range n).map λk=>D.int (0+((k:Nat):Int))):=by
 have:=fE (n:=(n:Int)) (by omega) (by omega);rwa[EN]at this
theorem vO {α:Type}(f:α→D)(xs:List α):aw [.lst (xs.map f)]=g7 (.val (.int (xs.length:Nat))):=by rw[vP,List.length_map]
theorem uj {α:Type}{f:α→D}{xs:List α}{k:Nat}{x:α}(h:xs[k]?=g7 x):B1 (.lst (xs.map f)) (.int (k:Int))=g7 (.val (f x)):=by
 show(L2.eW _ _).map _=_;rw[kN (v:=f x) (by rw[List.getElem?_map,h];rfl)];rfl
theorem iO (c:List Int):E5 (C3 0) N1 (dV N9 (h8 0)) [g9] (c.map D.int)=g7 ((c.map λl=>-l).map D.int):=by
 rw[List.map_map];exact sU λl _=>⟨[g7 (.sh (.int l))],.val (.int (-l)),[g7 (.sh (.int l))],[g7 (.sh (.int l))],rfl,lY (i5 rfl) rfl rfl,rfl⟩
theorem mj {c:M (List D)}{tg:FT}{mt:M Bool}{d:M W}{fr:List Nat}{own:Nat}{ds b:List D}{ρ a E:l9}(hi:c ρ=g7 (.ok ds a))(f:small ds.length)(g:E5 tg mt d E ds=g7 b)(e:bj own fr a=E)(h:b.all bA=h7∨fO a fr=[]):F7 c tg mt d own fr ρ=g7 (.ok (.own (.lst b)) a):=Ek hi f (e▸g) h
theorem dL(hi:b ρ=g7 (.ok ds a))(h:forL tg s ds E=r)(e:a=E):aa b tg s ρ=r:=qj hi (e▸h)
theorem Az {cs:List (List Int)}{k:Nat}{c:List Int}(h:cs[k]?=g7 c):B1 (.lst (Y0 cs)) (.int (k:Int))=g7 (.val (.tup (c.map D.int))):=uj (f:=λ(c:List Int)=>D.tup (c.map D.int)) h
theorem fy {α:Type}{c pre post:List α}{l:α}(e:c=pre++l::post):pre.length<c.length∧l∈c:=by rw[e];simp
theorem CP (m x a:Int)(hx:x=m / 6 % (a+1)):B1 (.lst [.int 1,.int 2,.int 3,.int 2,.int 3,.int x]) (.int (m % 6))=g7 (.val (.int (sizeV m a))):=by
 have h:m % 6=0∨m % 6=1∨m % 6=2∨m % 6=3∨m % 6=4∨m % 6=5:=by omega
 unfold sizeV;subst hx;rcases h with h|h|h|h|h|h<;>rw[h]<;>rfl
theorem CO (m a:Int)(h:0≤a):0≤sizeV m a:=by
 unfold sizeV;have:=x6 (m / 6) (b:=a+1) (by omega);split<;>(try split)<;>(try split)<;>(try split)<;>(try split)<;>omega
theorem vp (m a:Int)(h:0≤a):sizeV m a≤a+3:=by
 unfold sizeV;have:=x5 (m / 6) (b:=a+1) (by omega);split<;>(try split)<;>(try split)<;>(try split)<;>(try split)<;>omega
noncomputable def keyed (a:List Int):List (Key×D):=a.map λl=>(.inl l,.bl h7)
theorem kQ (ts:List (Int×Int))(k:Int):O3 (F2 ts) (.inl k)=(K8 ts k).map D.int:=by
 induction ts with
 |nil=>rfl
 |cons t r ih=>
  unfold O3 K8 F2 at *;rw[List.map_cons,List.find?_cons,List.find?_cons];by_cases h:t.1=k
  ·simp[h]
  ·have a:decide ((Sum.inl t.1:Key)=Sum.inl k)=g8:=by simp[h]
   simp only[a,decide_eq_false h];exact ih
theorem wV (a:List Int)(k:Int):(O3 (keyed a) (.inl k)).isSome=decide (k∈a):=by
 induction a with
 |nil=>rfl
 |cons t r ih=>
  unfold O3 keyed at *;rw[List.map_cons,List.find?_cons];by_cases h:t=k
  ·simp[h]
  ·have h':¬k=t:=λe=>h e.symm;have b:decide ((Sum.inl t:Key)=Sum.inl k)=g8:=by simp[h]
   simp only[b];rw[ih];simp[h']
theorem wq:L1 ((O3 (F2 ts) (.inl k)).getD .z5) (.int j)=g7 (.val (.bl (decide (K8 ts k=g7 j)))):=by
 rw[kQ];cases K8 ts k with
 |none=>rfl
 |some v=>
  show g7 (W.val (.bl (v==j)))=_;by_cases h:v=j<;>simp[h]
theorem xp (a:List Int)(l:Int):putD (keyed a) (.inl l) (.bl h7)=keyed (nP a l):=by
 unfold putD nP;by_cases h:l∈a
 ·rw[if_pos h,if_pos (by simp[keyed,h])];unfold keyed;rw[List.map_map];apply List.map_congr_left;intro x _;simp
 ·rw[if_neg h,if_neg (by simpa[keyed]using h)];simp[keyed]
theorem tj (a:List Int)(l:Int):(nP a l).length≤a.length+1:=by unfold nP;split<;>simp
theorem Dd(h:ρ[i]?=g7 (g7 (.ow g8 (.dct (keyed a)))))(b:a.length≤900000):cP i (.int l) (.bl h7) ρ=g7 (.nx (ρ.set i (g7 (.ow g8 (.dct (keyed (nP a l))))))):=by
 unfold cP;rw[h,←xp];exact x9 (by unfold small;rw[show(keyed a).length=a.length from List.length_map _];omega)
theorem rD (ts:jW)(k v:Int):putD (F2 ts) (.inl k) (.int v)=F2 (dq ts k v):=by
 unfold putD dq F2;have e:((ts.map λkv=>((Sum.inl kv.1:Key),D.int kv.2)).any λkv=>decide (kv.1=Sum.inl k))=ts.any λkv=>decide (kv.1=k):=by
  rw[List.any_map];congr 1;funext kv;simp
 rw[e];split
 ·rw[List.map_map,List.map_map];refine List.map_congr_left λkv _=>?_;by_cases h:kv.1=k
  ·simp[h]
  ·simp[h]
 ·simp
theorem zD (ts:jW)(k v:Int):(dq ts k v).length≤ts.length+1:=by
 unfold dq;split
 ·simp
 ·simp
theorem Ag (a:List Int):∀ts:jW,lE (F2 ts) (a.map λl=>((Sum.inl (bQ l):Key),D.int l))=F2 (a.foldl (λts l=>dq ts (bQ l) l) ts):=by
 induction a with
 |nil=>intro ts;rfl
 |cons l r ih=>
  intro ts;show lE (putD (F2 ts) (.inl (bQ l)) (.int l)) _=_;rw[rD,ih];rfl
theorem tV (a:List Int):dw (a.map λl=>D.tup [.int (bQ l),.int l])=g7 (a.map λl=>((Sum.inl (bQ l):Key),D.int l)):=by
 induction a with
 |nil=>rfl
 |cons l r ih=>
  show(pairD (.tup [.int (bQ l),.int l])).bind _=_;show(dw _).map _=_;rw[ih];rfl
theorem jn (ts:jW):X1 (.dct (F2 ts))=h7:=by
 show(F2 ts).all _=h7;unfold F2;rw[List.all_map,List.all_eq_true];intro x _;rfl
theorem Gm(h:ρ[i]?=g7 (g7 (.ow l (.dct (F2 ts)))))(a:ts.length≤100000):cP i (.int k) (.int v) ρ=g7 (.nx (ρ.set i (g7 (.ow l (.dct (F2 (dq ts k v))))))):=by
 unfold cP;rw[h];show cf (small (F2 ts).length) (g7 (SR.nx (ρ.set i (g7 (.ow l (.dct (putD (F2 ts) (.inl k) (.int v))))))))=_;rw[rD];exact x9 (by unfold small;rw[show(F2 ts).length=ts.length from List.length_map _];omega)
theorem Aq (hs:List Int):aw [.lst (hs.map D.int)]=g7 (.val (.int (hs.length:Nat))):=by
 show g7 (W.val (.int _))=_;rw[List.length_map]
theorem ne_int (a b:Int):S0 (.int a) (.int b)=g7 (.val (.bl (!decide (a=b)))):=by
 show g7 (W.val (.bl (!(a==b))))=_;by_cases h:a=b<;>simp[h]
theorem qp (a:List Int):L1 (.tup (a.map D.int)) (.tup [])=g7 (.val (.bl a.isEmpty)):=by cases a<;>rfl
theorem Lv:S0 (.str dD) (.str gb)=g7 (.val (.bl h7)):=rfl
theorem Lx:S0 (.str gc) (.str gb)=g7 (.val (.bl h7)):=rfl
theorem Lw:S0 (.str gb) (.str gb)=g7 (.val (.bl g8)):=rfl
theorem LM:L1 (.str dD) (.str gc)=g7 (.val (.bl g8)):=rfl
theorem LN:L1 (.str gc) (.str gc)=g7 (.val (.bl h7)):=rfl
theorem Bj(h:ρ[i]?=g7 (g7 (.fz (n6 T)))):oq i ρ=g7 (.ok ((T.map (·.1)).map D.int) ρ):=by
 rw[Ec h];unfold n6;rw[List.map_map,List.map_map];rfl
theorem zk {α:Type}{xs:List α}{i:Nat}{x:α}(h:xs[i]?=g7 x):xs.set i x=xs:=by
 refine List.ext_getElem? λk=>?_;by_cases z:i=k
 ·rw[←z,List.getElem?_set_self (List.getElem?_eq_some_iff.mp h).1,h]
 ·rw[List.getElem?_set_ne z]
theorem Ei {hs:List Int}(hi:f ρ=g7 (.ok (hs.map D.int) a))(h:a[j]?=g7 (g7 (.ow g8 (.lst []))))(g:a[i]?=g7 g9)(c:i≠j)(hl:hs.length≤4000)(k:ax [] hs=g7 gs)(e:(a.set i (hs.getLast?.map λx=>C.sh (.int x))).set j (g7 (.ow g8 (.lst (gs.map (N0 d)))))=b):pY d f i j ρ=g7 (.nx b):=by
 rw[Hs hi h (lP hs) ⟨(List.getElem?_eq_some_iff.mp g).1,c,hl⟩ k,←e];unfold hF;cases hs.getLast? with
 |none=>rw[Option.map_none,zk g]
 |some x=>rfl
theorem Eb(h:F0 c b n E=r)(e:ρ=E):F0 c b n ρ=r:=e▸h
theorem kR (T:Tab)(k:Int):O3 (n6 T) (.inl k)=(W5 T k).map λc=>D.tup (c.map D.int):=by
 induction T with
 |nil=>rfl
 |cons t r ih=>
  unfold O3 W5 n6 at *;rw[List.map_cons,List.find?_cons,List.find?_cons];by_cases h:t.1=k
  ·simp[h]
  ·have a:decide ((Sum.inl t.1:Key)=Sum.inl k)=g8:=by simp[h]
   simp only[a,decide_eq_false h];exact ih
theorem Q0(h:W5 T k=g7 c):(k,c)∈T:=by
 unfold W5 at h;cases e:T.find? λkv=>decide (kv.1=k)with
 |none=>rw[e]at h;cases h
 |some kv=>
  rw[e]at h;have b:=List.mem_of_find?_eq_some e;have a:=List.find?_some e;simp at a h;rw[←a,←h];exact b
theorem ir (T:Tab)(h:Int):cy (.int h) (.dct (n6 T))=g7 (.val (.bl (!(W5 T h).isSome))):=by
 show vB (!(O3 (n6 T) (.inl h)).isSome)=_;rw[kR];cases W5 T h<;>rfl
theorem eQ(e:W5 T h=g7 c):B1 (.dct (n6 T)) (.int h)=g7 (.val (.tup (c.map D.int))):=by
 show(O3 (n6 T) (.inl h)).map _=_;rw[kR,e];rfl
theorem Hb (ts:jW)(k:Int):inD (.int k) (.dct (F2 ts))=g7 (.val (.bl (K8 ts k).isSome)):=by
 show vB (O3 (F2 ts) (.inl k)).isSome=_;rw[kQ];cases K8 ts k<;>rfl
theorem Em (a:List Int):L1 (.lst (a.map D.int)) (.lst [])=g7 (.val (.bl a.isEmpty)):=by cases a<;>rfl
theorem V7 (a:List Int):(dZ (.own (.lst (a.map D.int)))&&([]:List D).all X1)=h7:=by
 show(List.all _ _&&h7)=h7;rw[T0];rfl
section
variable {ρ m9 A5 jZ:l9}{i j:Nat}{f m:Str}{me mv mk mo:M W}{mr:M (List W)}{w wv wk:W}{ws:List W}{d dy:D}{ds:List D}{l:Bool}{fds tw:List (Str×D)}{es Ky:List (Key×D)}
theorem eT (h:xZ i f ρ=g7 d):pO i f ρ=g7 (.ok (.val d) ρ):=by unfold pO;rw[h];rfl
theorem JD (h:Lo i f ρ=g7 d):Ju i f ρ=g7 (.ok (.val d) ρ):=by unfold Ju;rw[h];rfl
theorem qh (h:gI i j ρ=h7):rW i j ρ=g7 (.ok (.slot j) ρ):=if_pos h
theorem dI (a:me ρ=g7 (.ok w m9))(hl:Q1 w m9=g7 (.ok d A5))(b:lw i f d A5=g7 (.nx jZ)):hG i f me ρ=g7 (.nx jZ):=by
 unfold hG;rw[u8 a,u8 hl];exact b
theorem kJ(c:xZ i f ρ=g7 (.int a))(d:me ρ=g7 (.ok w m9))(e:getD w m9=g7 (.int b))(g:lw i f (.int (a+b)) m9=g7 (.nx A5)):sZ i f me ρ=g7 (.nx A5):=by
 unfold sZ;rw[c];show C9 me _ ρ=_;rw[u8 d];show(match getD w m9 with|some (.int b)=>lw i f (.int (a+b)) m9|_=>g9)=_;rw[e];exact g
theorem Ed (a:me ρ=g7 (.ok (.own (.dct es)) m9))(b:m9[i]?=g7 (g7 (.ob l fds)))(c:j<m9.length∧i≠j∧fds.length<1000∧m9[j]?.join.isNone=h7)(hs:(m9.set i (g7 (.ob l (rE U5 .z5 fds)))).set j (g7 (.ow h7 (.dct es)))=A5):tabS i j me ρ=g7 (.nx A5):=by
 unfold tabS;rw[u8 a,←hs];show(match W.own (.dct es),m9[i]? with|.own (.dct es),g7 (g7 (.ob l fds))=>cf (j<m9.length∧i≠j∧fds.length<1000∧m9[j]?.join.isNone=h7) (g7 (SR.nx ((m9.set i (g7 (.ob l (rE U5 .z5 fds)))).set j (g7 (.ow h7 (.dct es)))))) |_,_=>g9)=_;rw[b];exact x9 c
theorem S7(d:ρ[i]?=g7 (g7 (.ob l fds)))(hk:(fds.lookup m).isNone=h7)(e:mr ρ=g7 (.ok ws m9))(hl:Z9 ws m9=g7 (.ok ds A5))(hr:aO i j a b ds A5=g7 r):bu i j m a b mr ρ=g7 r:=by
 unfold bu;have c:BM i m ρ=g7 (.ok () ρ):=by
  unfold BM;rw[d];exact if_pos hk
 rw[M.k9 (i5 d),M.k9 c,M.k9 e,M.k9 hl];exact hr
theorem jO(c:ρ[i]?=g7 (g7 (.ob l fds)))(e:ρ[j]?=g7 (g7 (.ow h7 (.dct es))))(f:gI i j ρ=h7)(g:ds.length+1=a)(h:b fds es ds=g7 (.ret d tw Ky))(hs:(ρ.set i (g7 (.ob l tw))).set j (g7 (.ow h7 (.dct Ky)))=jZ):aO i j a b ds ρ=g7 (.ok (.val d) jZ):=by
 unfold aO;rw[c,e];dsimp only;rw[if_pos ⟨f,g⟩,h,←hs]
theorem Bo(c:ρ[i]?=g7 (g7 (.ob l fds)))(d:ρ[j]?=g7 (g7 (.ow h7 (.dct es))))(e:gI i j ρ=h7)(f:ds.length+1=a)(g:b fds es ds=g7 (.exc x tw Ky))(hs:(ρ.set i (g7 (.ob l tw))).set j (g7 (.ow h7 (.dct Ky)))=jZ):aO i j a b ds ρ=g7 (.ex x jZ):=by
 unfold aO;rw[c,d];dsimp only;rw[if_pos ⟨e,f⟩,g,←hs]
theorem Ef(b:mv ρ=g7 (.ok (.slot i) ρ))(g:ρ[i]?=g7 (g7 a))(c:mo ρ=g7 (.ok w ρ))(hk:mk ρ=g7 (.ok wk ρ))(hl:Q1 (.slot i) ρ=g7 (.ok d m9))(e:getD wk m9=g7 dy)(f:cP j dy d m9=r):xq mo j mv mk ρ=r:=by
 unfold xq;rw[u8 (show R7 mv ρ=g7 (.ok (.slot i) ρ) by unfold R7;rw[M.k9 b];rfl),u8 c,u8 hk,u8 hl,e];exact f
theorem Eh(c:mr ρ=g7 (.ok ws m9))(hl:Z9 ws m9=g7 (.ok ds A5))(d:b ds=g7 r)(e:i<A5.length∧j<A5.length∧i≠j∧ds.length+1=a)(hs:(A5.set i (g7 (.ob g8 r.1))).set j (g7 (.ow h7 (.dct r.2)))=jZ):rV i j a b mr ρ=g7 (.nx jZ):=by
 unfold rV;rw[u8 c,u8 hl,←hs,d];exact x9 e
theorem CW(h:den (bh n [] ds)=g7 a)(b:outI j a=g7 r):xl den n j ds=g7 r:=by unfold xl;rw[h];exact b
theorem ca(h:den (startM n j fds es ds)=g7 sr)(a:GH j sr=g7 r):ii den n j fds es ds=g7 r:=by unfold ii;rw[h];exact a
theorem mh(h:me ρ=g7 (.ex x m9)):M8 me ρ=g7 (.ex x m9):=by unfold M8 C9;rw[h]
end
theorem iu (a:Int):S0 (.int a) (.int a)=g7 (.val (.bl g8)):=by
 show g7 (W.val (.bl (!(a==a))))=_;rw[beq_self_eq_true];rfl
theorem Af (a:Bool):S0 (.bl a) (.bl a)=g7 (.val (.bl g8)):=by cases a<;>rfl
local macro_rules | `(tactic| walk_at "k")=>`(tactic| first
 | with_reducible rfl
 | with_reducible assumption
 | exact decide_eq_true (by with_reducible assumption)
 | exact decide_eq_false (by with_reducible assumption)
 | exact decide_eq_true (by omega)
 | exact decide_eq_false (by omega)
 | (simp only [*,ja,Ig,tG,gT,dR,Y2,fj,tE,Kj,tF,List.isEmpty_cons,List.isEmpty_nil,Option.isSome_some,Option.isSome_none]; done)
 | (simp only [List.length_cons,List.length_nil,List.isEmpty_cons,List.isEmpty_nil,Option.isSome_some,Option.isSome_none,ja,Ig]; (first | done | exact decide_eq_true (by omega) | exact decide_eq_false (by omega))))
local macro_rules | `(tactic| walk_at "o")=>`(tactic| first
 | with_reducible assumption
 | with_reducible exact eq_int _ _
 | with_reducible exact ne_int _ _
 | with_reducible exact ur _ _
 | with_reducible exact Hc _ _
 | with_reducible exact Dv _ _
 | with_reducible exact Hb _ _
 | with_reducible exact ir _ _
 | with_reducible exact Lv
 | with_reducible exact Lx
 | with_reducible exact Lw
 | with_reducible exact LM
 | with_reducible exact LN
 | with_reducible exact Aq _
 | with_reducible exact vQ _
 | with_reducible exact vO _ _
 | with_reducible exact iu _
 | with_reducible exact Af _
 | with_reducible exact Em _
 | with_reducible exact qp _
 | with_reducible exact kU _
 | with_reducible exact wE _
 | with_reducible exact kO _
 | ((with_reducible apply P8); (first | decide | assumption | omega))
 | ((with_reducible apply pL); (first | exact ⟨by decide,by decide⟩ | assumption | exact ⟨by omega,by omega⟩))
 | ((with_reducible apply kG); (first | exact .inl ⟨by decide,by decide⟩ | exact .inr ⟨by decide,by decide⟩ | exact .inl ⟨by omega,by omega⟩ | exact .inr ⟨by omega,by omega⟩))
 | rfl)
local macro_rules | `(tactic| walk_at "s")=>`(tactic| first
 | with_reducible assumption
 | exact bi (by (try simp only [List.length_map,List.length_range,List.length_append,iP,List.length_cons,List.length_nil]); omega))
local macro_rules | `(tactic| walk_at "f")=>`(tactic| first
 | with_reducible assumption
 | with_reducible exact qc
 | exact Dd rfl (by omega)
 | exact Gm rfl (by omega))
local macro_rules | `(tactic| walk_at "e")=>`(tactic| first
 | with_reducible exact u0
 | with_reducible exact n9
 | with_reducible exact wh
 | with_reducible exact M7
 | ((with_reducible apply i5); rfl)
 | with_reducible assumption
 | ((with_reducible apply k7); (· walk_at "e"); (· walk_at "e"))
 | ((with_reducible apply j8); (· walk_at "e"); (· walk_at "e"); (· rfl); (· rfl); (· walk_at "o"))
 | ((with_reducible apply lY); (· walk_at "e"); (· rfl); (· walk_at "o"))
 | ((with_reducible apply bD); (· walk_at "e"); (· rfl); (· walk_at "o"))
 | ((with_reducible apply ml); (· walk_at "e"); (· rfl); (· rfl); (· walk_at "f"); (· rfl); (· rfl))
 | ((with_reducible apply ck); (· walk_at "e"); (· rfl); (· rfl); (· walk_at "f"); (· rfl); (· first | with_reducible assumption | rfl))
 | ((with_reducible apply A9); (· walk_at "e"))
 | ((with_reducible apply F1); (· walk_at "e"); (· rfl); (· walk_at "o"))
 | ((with_reducible apply S2); (· walk_at "e"))
 | ((with_reducible apply n3); (· walk_at "e"); (· walk_at "e"))
 | ((with_reducible apply dJ); (· walk_at "e"))
 | ((with_reducible apply S1); (· walk_at "e"); (· rfl))
 | ((with_reducible apply ay); (· walk_at "e"); (· rfl))
 | ((with_reducible apply U9); (· walk_at "e"); (· walk_at "k"); (· walk_at "e"))
 | ((with_reducible apply P1); (· walk_at "e"); (· walk_at "k"); (· walk_at "e"))
 | ((with_reducible apply qi); (· walk_at "e"); (· rfl); (· exact m6 rfl))
 | ((with_reducible apply eS); (· walk_at "e"); (· rfl); (· exact m6 rfl))
 | ((with_reducible apply qo); (· walk_at "e"); (· walk_at "k"))
 | ((with_reducible apply qm); (· walk_at "e"); (· walk_at "k"); (· walk_at "e"))
 | ((with_reducible apply uJ); (· walk_at "e"); (· walk_at "k"))
 | ((with_reducible apply jp); (· walk_at "e"); (· walk_at "k"); (· walk_at "e"))
 | ((with_reducible apply mn); (· walk_at "e"); (· walk_at "e"))
 | ((with_reducible apply Bn); (· walk_at "e"); (· walk_at "e"))
 | ((with_reducible apply sC); (· walk_at "e"); (· rfl); (· walk_at "k"))
 | ((with_reducible apply sB); (· walk_at "e"); (· rfl); (· walk_at "k"); (· walk_at "e"))
 | ((with_reducible apply dL); (· walk_at "e"); (· with_reducible assumption); (· rfl))
 | ((with_reducible apply Eb); (· with_reducible assumption); (· rfl))
 | ((with_reducible apply qg); (· walk_at "e"); (· rfl); (· walk_at "o"))
 | ((with_reducible apply aY); (· walk_at "e"); (· rfl); (· rfl))
 | ((with_reducible apply Bj); rfl)
 | ((with_reducible apply Ei); (· walk_at "e"); (· rfl); (· rfl); (· decide); (· with_reducible assumption); (· with_reducible assumption); (· rfl))
 | ((with_reducible apply mj); (· walk_at "e"); (· walk_at "s"); (· with_reducible assumption); (· rfl); (· first | with_reducible exact .inl (T0 _) | with_reducible exact .inl (lX _) | exact .inl (by with_reducible assumption) | exact .inr rfl))
 | ((with_reducible apply lZ); (· walk_at "e"); (· rfl); (· walk_at "e"); (· rfl); (· rfl); (· walk_at "f"))
 | ((with_reducible apply Ej); (· walk_at "e"); (· rfl); (· walk_at "e"); (· rfl); (· rfl); (· rfl))
 | ((with_reducible apply wj); (· rfl); (· walk_at "e"); (· rfl); (· rfl); (· walk_at "s"); (· rfl))
 | ((with_reducible apply fJ); (· walk_at "e"))
 | with_reducible exact JE
 | ((with_reducible apply Eg); (· walk_at "e"); (· rfl))
 | ((with_reducible apply JC); (· walk_at "e"); (· walk_at "e"); (· walk_at "e"); (· rfl); (· walk_at "o"))
 | ((with_reducible apply Ht); (· rfl); (· walk_at "e"); (· rfl); (· rfl); (· rfl))
 | ((with_reducible apply eT); rfl)
 | ((with_reducible apply qh); rfl)
 | ((with_reducible apply dI); (· walk_at "e"); (· rfl); (· rfl))
 | ((with_reducible apply kJ); (· rfl); (· walk_at "e"); (· rfl); (· rfl))
 | ((with_reducible apply S7); (· rfl); (· rfl); (· walk_at "e"); (· rfl); (· walk_at "m"))
 | ((with_reducible apply qf); (· walk_at "e"))
 | ((with_reducible apply mh); (· walk_at "e"))
 | ((with_reducible apply Eh); (· walk_at "e"); (· rfl); (· with_reducible assumption); (· exact ⟨yD rfl,yD rfl,by decide,rfl⟩); (· rfl))
 | ((with_reducible apply wg); (· walk_at "e"))
 | ((with_reducible apply wf); (· walk_at "e"); (· rfl); (· with_reducible exact we); (· rfl))
 | ((with_reducible apply Ee); (· walk_at "e"))
 | ((with_reducible apply yg); (· walk_at "e"); (· rfl); (· with_reducible assumption); (· walk_at "e"))
 | ((with_reducible apply yh); (· walk_at "e"); (· rfl); (· rfl); (· with_reducible assumption); (· rfl); (· rfl))
 | exact M7)
local macro_rules | `(tactic| walk_at "m")=>`(tactic| first
 | (apply jO; (· rfl); (· rfl); (· rfl); (· rfl); (· with_reducible assumption); (· rfl))
 | (apply Bo; (· rfl); (· rfl); (· rfl); (· rfl); (· with_reducible assumption); (· rfl)))
local macro_rules | `(tactic| walk_at "x")=>`(tactic| (refine' ca ?h ?o; (case h=>walk_at "e"); (case o=>rfl)))
local macro_rules | `(tactic| walk_at "r")=>`(tactic| (refine' dn ?h ?o; (case h=>walk_at "e"); (case o=>rfl)))
local macro_rules | `(tactic| walk_at "d")=>`(tactic| ((with_reducible apply eA); (· rfl); (· rfl); (· walk_at "e"); (· rfl)))
local macro_rules | `(tactic| walk_at "c")=>`(tactic| (refine bb fun _ _=>?_; walk_at "d"))
local macro_rules | `(tactic| walk_at "t")=>`(tactic| (apply tn; (· rfl); (· walk_at "e")))
local macro_rules | `(tactic| walk_at "u")=>`(tactic| (apply rt; (· rfl); (· walk_at "e")))
theorem oF {ns:List Int}(d:0<v)(h:v<1000)(g:0≤most)(i:most<1000):J1 [.lst (ns.map D.int),.int b,.int v,.int most]=g7 (.ret (.val (.tup ((aZ ns b v most).map D.int))) []):=by
 have l:=CP (K6 ns b) (K6 ns b / 6 % (most+1)) most rfl;have:=CO (K6 ns b) most g;have:=vp (K6 ns b) most g;unfold aZ;generalize sizeV (K6 ns b) most=S at *;have hi:=fE (n:=S) (by omega) (by omega);have m:0<most+1:=by omega
 obtain⟨_,o,a,c,rfl⟩:=DT (tg:=C3 7) (b:=dX) (f:=λk=>D.int (0+((k:Nat):Int))) (λk ρ=>∃a c,ρ=[g7 (.sh (.lst (ns.map D.int))),sI b,sI v,sI most,sI (K6 ns b),sI S,g7 (.ow g8 (.lst (((List.range k).map λ(j:Nat)=>Dy (K6 ns (b+1+(j:Int))) v).map D.int))),a,c]) S.toNat (ρ:=[g7 (.sh (.lst (ns.map D.int))),sI b,sI v,sI most,sI (K6 ns b),sI S,g7 (.ow g8 (.lst [])),g9,g9]) (λk ρ hk ⟨a,c,e⟩=>by
  subst e;rw[U3,List.range_succ,List.map_append,List.map_append];have:=x6 (K6 ns (b+1+(k:Int)) / 2) (Int.ne_of_gt d);have:=x5 (K6 ns (b+1+(k:Int)) / 2) d;walk_at"t";exact⟨_,_,rfl⟩) ⟨_,_,rfl⟩
 walk_at"r"
theorem yb {ls:List Int}(h:ls.length≤1000):aT [.lst (ls.map D.int)]=g7 (.ret (.own (.dct (F2 (kD ls)))) []):=by
 have a:E5 (C3 0) N1 (aP (i2 (L6 iR (i2 (h8 0) k6)) (i2 (h8 0) k6))) [g9] (ls.map D.int)=g7 (ls.map λl=>D.tup [.int (bQ l),.int l]):=by walk_at"c"
 have b:(ls.map λl=>D.tup [.int (bQ l),.int l]).all bA=h7:=by rw[List.all_map,List.all_eq_true];exact λ_ _=>rfl
 have hd:qr [.lst (ls.map λl=>D.tup [.int (bQ l),.int l])]=g7 (.own (.dct (F2 (kD ls)))):=by
  show(dw _).map _=_;rw[tV];show g7 (W.own (.dct (lE (F2 []) _)))=_;rw[Ag];rfl
 walk_at"r"
theorem GR(h:0<v):Dy p v≠0:=by
 unfold Dy;have c:=x6 (p / 2) (b:=v) (by omega);have a:p % 2=0∨p % 2=1:=by omega
 rcases a with a|a<;>rw[a]
 ·omega
 ·intro h;omega
theorem oM(h:0<v):∀l∈aZ ns b v most,l≠0:=by
 intro l hl;obtain⟨k,_,rfl⟩:=List.mem_map.mp hl;exact GR h
theorem mB(h:0≤most)(h':most<997):(aZ ns b v most).length≤1000:=by
 unfold aZ;rw[List.length_map,List.length_range];have:=vp (K6 ns b) most h;omega
theorem uD (ns:List Int)(b:Int):0<(M6 ns b).1∧(M6 ns b).1≤4:=by
 have a:=x6 (K6 ns b) (b:=4) (by decide);have c:=x5 (K6 ns b) (b:=4) (by decide);show 0<1+K6 ns b % 4∧1+K6 ns b % 4≤4;omega
theorem Ba (ns:List Int)(b:Int):(M6 ns b).2.length≤8:=by
 have a:=x6 (K6 ns (b+1)) (b:=9) (by decide);have c:=x5 (K6 ns (b+1)) (b:=9) (by decide);show((List.range (K6 ns (b+1) % 9).toNat).map _).length≤8;rw[List.length_map,List.length_range];omega
theorem DR(h:c∈(M6 ns b).2):c.length≤1000∧∀l∈c,l≠0:=by
 obtain⟨k,_,rfl⟩:=List.mem_map.mp h;exact⟨mB (by decide) (by decide),oM (uD ns b).1⟩
theorem uF {ns:List Int}:W9 [.lst (ns.map D.int),.int b]=g7 (.ret (.val (.tup [.int (M6 ns b).1,.lst (Y0 (M6 ns b).2)])) []):=by
 obtain⟨a,c⟩:=uD ns b;have d:=x6 (K6 ns (b+1)) (b:=9) (by decide);have f:=x5 (K6 ns (b+1)) (b:=9) (by decide);have s2:A4 (.int 1) (.int (K6 ns b % 4))=g7 (.val (.int (M6 ns b).1)):=rfl;have e:(M6 ns b).2=(List.range (K6 ns (b+1) % 9).toNat).map λ(k:Nat)=>aZ ns (b+2+5*(k:Int)) (M6 ns b).1 4:=rfl;have g:K3 (.int (K6 ns (b+1))) (.int 9)=g7 (.val (.int (K6 ns (b+1) % 9))):=P8 (by decide);rw[e];generalize (M6 ns b).1=v at *;generalize K6 ns (b+1) % 9=S at *;have hi:=fE (n:=S) (by omega) (by omega);have h:E5 (C3 0) N1 (u5 [g8,g8,g8,g8] J1 (i2 (h8 1) (i2 (i3 A4 (i3 A4 (h8 2) (mC (.int 2))) (i3 gB (mC (.int 5)) (h8 0))) (i2 (h8 3) (i2 (mC (.int 4)) k6))))) [g9,g7 (.sh (.lst (ns.map D.int))),sI b,sI v] ((List.range S.toNat).map λk=>D.int (0+((k:Nat):Int)))=g7 (Y0 ((List.range S.toNat).map λ(k:Nat)=>aZ ns (b+2+5*(k:Int)) v 4)):=by
  unfold Y0;rw[List.map_map];refine bb λk _=>?_;rw[U3];have fc:=oF (ns:=ns) (b:=b+2+5*(k:Int)) (v:=v) (most:=4) a (by omega) (by decide) (by decide);walk_at"d"
 walk_at"r"
theorem pE{c:List Int}(h:∀kv∈T,kv.1≠k):putD (n6 T) (.inl k) (.tup (c.map D.int))=n6 (T++[(k,c)]):=by
 unfold putD;rw[if_neg]
 ·simp[n6]
 ·intro b;obtain⟨kv,d,a⟩:=List.any_eq_true.mp b;obtain⟨t,e,rfl⟩:=List.mem_map.mp d;simp at a;exact h t e a
theorem wF (l:Int):bQ (-l)=bQ l:=by unfold bQ;rw[Int.natAbs_neg]
theorem Ca(h:bQ a=bQ b):a=b∨a=-b:=by unfold bQ at h;omega
theorem lG (k a v:Int):∀ts:jW,K8 (dq ts k v) a=if a=k then g7 v else K8 ts a
 | []=>by
  by_cases h:a=k
  ·simp[K8,dq,h]
  ·have:¬k=a:=λe=>h e.symm;simp[K8,dq,h,this]
 |t::r=>by
  have ih:=lG k a v r;have f:∀r:jW,K8 (r.map λkv=>if kv.1=k then(kv.1,v)else kv) a=if a=k then(K8 r a).map λ_=>v else K8 r a:=λr=>by
   induction r with
   |nil=>unfold K8;split<;>rfl
   |cons t r ih=>
    unfold K8 at *;rw[List.map_cons,List.find?_cons,List.find?_cons];by_cases d:t.1=k
    ·rw[if_pos d];by_cases b:t.1=a
     ·simp[b,b.symm.trans d]
     ·simp only[decide_eq_false b];exact ih
    ·rw[if_neg d];by_cases b:t.1=a
     ·have g:¬a=k:=λe=>d (b.trans e);simp[b,g]
     ·simp only[decide_eq_false b];exact ih
  by_cases c:t.1=k
  ·have e:dq (t::r) k v=(t::r).map λkv=>if kv.1=k then(kv.1,v)else kv:=if_pos (by simp[c])
   rw[e,f];by_cases h:a=k
   ·rw[if_pos h,if_pos h,show K8 (t::r) a=g7 t.2 by unfold K8;simp[h,c]];rfl
   ·rw[if_neg h,if_neg h]
  ·have e:dq (t::r) k v=t::dq r k v:=by
    unfold dq;rw[List.any_cons,decide_eq_false c,tF];split
    ·rw[List.map_cons,if_neg c]
    ·rfl
   rw[e];by_cases h:t.1=a
   ·have:¬a=k:=λz=>c (h.trans z);rw[if_neg this];simp[K8,h]
   ·unfold K8 at *;rw[List.find?_cons,List.find?_cons,decide_eq_false h];exact ih
structure Tw (ts:jW) (tr:List Int):Prop where
 val:∀k v,K8 ts k=some v→bQ v=k
 iff:∀l,l≠0→(K8 ts (bQ l)=some l↔l∈tr)
 len:ts.length≤tr.length
section
variable {ts:jW}{tr c:List Int}{l:Int}
theorem Tw.step (h:Tw ts tr)(f:l≠0)(d:-l∉tr):Tw (dq ts (bQ l) l) (tr++[l]) where
 len:=m8 (zD _ _ _) (by rw[List.length_append];exact U1 h.len)
 val:=by
  intro k v e;rw[lG]at e;split at e
  ·rename_i a;cases e;exact a.symm
  ·exact h.val k v e
 iff:=by
  intro b c;rw[lG,List.mem_append,List.mem_singleton];by_cases e:bQ b=bQ l
  ·rw[if_pos e];rcases Ca e with rfl|rfl
   ·simp
   ·constructor
    ·intro a;have a:=Option.some.inj a;omega
    ·rintro (a|a)
     ·exact absurd a d
     ·omega
  ·rw[if_neg e,h.iff b c];have:b≠l:=by rintro rfl;exact e rfl
   simp[this]
theorem Tw.fold:∀(a:List Int) (ts:jW) (tr:List Int),Tw ts tr→(∀l∈a,l≠0)→(∀l∈a,-l∉tr)→(∀l∈a,-l∉a)→Tw (a.foldl (λts l=>dq ts (bQ l) l) ts) (tr++a)
 | [],ts,tr,h,_,_,_=>by rw[List.append_nil];exact h
 |l::a,ts,tr,h,b,c,d=>by
  have:=Tw.fold a (dq ts (bQ l) l) (tr++[l]) (h.step (b l List.mem_cons_self) (c l List.mem_cons_self)) (λx hx=>b x (List.mem_cons_of_mem _ hx)) (λx hx=>by
   rw[List.mem_append,List.mem_singleton]
   rintro (e|e)
   ·exact c x (List.mem_cons_of_mem _ hx) e
   ·exact d l List.mem_cons_self (List.mem_cons_of_mem _ (by rw[←e,yI];exact hx))) (λx hx e=>d x (List.mem_cons_of_mem _ hx) (List.mem_cons_of_mem _ e))
  rw[List.append_assoc]at this;exact this
theorem Tw.neg (h:Tw ts tr)(a:l≠0):K8 ts (bQ l)=g7 (-l)↔-l∈tr:=by
 have:=h.iff (-l) (by omega);rwa[wF]at this
theorem Tw.has (h:Tw ts tr)(a:l≠0)(b:-l∉tr):(K8 ts (bQ l)).isSome=decide (l∈tr):=by
 cases e:K8 ts (bQ l)with
 |none=>exact(decide_eq_false λz=>by have:=(h.iff l a).mpr z;rw[e]at this;cases this).symm
 |some v=>
  rcases Ca (h.val _ _ e)with rfl|rfl
  ·exact(decide_eq_true ((h.iff v a).mp e)).symm
  ·exact absurd ((h.neg a).mp e) b
noncomputable def Cp (tr a:List Int)(l:Int):List Int:=if -l∈tr then a else nP a l
noncomputable def io (tr c:List Int):List Int:=c.foldl (Cp tr) []
theorem rP (tr pre:List Int)(l:Int):io tr (pre++[l])=Cp tr (io tr pre) l:=by unfold io;rw[List.foldl_append];rfl
theorem tW (tr:List Int):∀(c a:List Int),(c.foldl (Cp tr) a).length≤a.length+c.length
 | [],a=>i8 _
 |l::c,a=>by
  have:=tW tr c (Cp tr a l);have:(Cp tr a l).length≤a.length+1:=by
   unfold Cp;split
   ·omega
   ·exact tj _ _
  rw[List.foldl_cons,List.length_cons];omega
theorem zX (tr:List Int):∀(c a:List Int) (x:Int),x∈c.foldl (Cp tr) a→x∈a∨(x∈c∧-x∉tr)
 | [],_,_,h=>.inl h
 |l::c,a,x,h=>by
  rcases zX tr c _ x h with h|h
  ·unfold Cp at h;split at h
   ·exact .inl h
   ·rename_i b;unfold nP at h;split at h
    ·exact .inl h
    ·rcases List.mem_append.mp h with h|h
     ·exact .inl h
     ·rw[List.mem_singleton.mp h];exact .inr ⟨List.mem_cons_self,b⟩
  ·exact .inr ⟨List.mem_cons_of_mem _ h.1,h.2⟩
theorem yd (g:Tw ts tr)(i:∀l∈c,l≠0)(h:c.length≤1000):fG [.dct (F2 ts),.tup (c.map D.int)]=g7 (.ret (.own (.lst ((io tr c).map D.int))) []):=by
 obtain⟨_,n,o,rfl⟩:=DS (tg:=C3 3) (b:=jJ) (f:=D.int) (λpre ρ=>∃o,ρ=[g7 (.sh (.dct (F2 ts))),g7 (.sh (.tup (c.map D.int))),g7 (.ow g8 (.dct (keyed (io tr pre)))),o]) c (ρ:=[g7 (.sh (.dct (F2 ts))),g7 (.sh (.tup (c.map D.int))),g7 (.ow g8 (.dct [])),g9]) (λpre l post ρ e ⟨o,j⟩=>by
  subst j;obtain⟨p,k⟩:=fy e;have m:(io tr pre).length≤_:=tW tr pre [];rw[List.length_nil]at m;have ne:S0 ((O3 (F2 ts) (.inl (l.natAbs:Int))).getD .z5) (.int (-l))=g7 (.val (.bl (!decide (-l∈tr)))):=by
   have:=g.neg (i l k);rw[kQ];unfold bQ at this;cases d:K8 ts (l.natAbs:Int)with
   |none=>
    rw[d]at this;rw[decide_eq_false λz=>nomatch this.mpr z];rfl
   |some v=>
    rw[d,Option.some.injEq]at this;show g7 (W.val (.bl (!(v == -l))))=_;rw[←decide_eq_decide.mpr this];rfl
  rw[rP];unfold Cp;by_cases a:-l∈tr
  ·rw[decide_eq_true a]at ne;rw[if_pos a];walk_at"t";exact⟨_,rfl⟩
  ·rw[decide_eq_false a]at ne;rw[if_neg a];walk_at"t";exact⟨_,rfl⟩) ⟨_,rfl⟩
 have hd:fY [.dct (keyed (io tr c))]=g7 (.own (.lst ((io tr c).map D.int))):=by
  show g7 (W.own (.lst ((keyed _).map λe=>ox e.1)))=_;unfold keyed;rw[List.map_map];rfl
 walk_at"r"
theorem iH (h:c.length≤1000):V6 [.lst (tr.map D.int),.tup (c.map D.int)]=g7 (.ret (.own (.lst ((io tr c).map D.int))) []):=by
 obtain⟨_,m,o,rfl⟩:=DS (tg:=C3 3) (b:=fW) (f:=D.int) (λpre ρ=>∃o,ρ=[g7 (.sh (.lst (tr.map D.int))),g7 (.sh (.tup (c.map D.int))),g7 (.ow g8 (.lst ((io tr pre).map D.int))),o]) c (ρ:=[g7 (.sh (.lst (tr.map D.int))),g7 (.sh (.tup (c.map D.int))),g7 (.ow g8 (.lst [])),g9]) (λpre l post ρ e ⟨o,g⟩=>by
  subst g;have n:=(fy e).1;have i:(io tr pre).length≤_:=tW tr pre [];rw[List.length_nil]at i;rw[rP];unfold Cp nP;by_cases a:-l∈tr
  ·have j:¬-l∉tr:=λz=>z a;rw[if_pos a];walk_at"t";exact⟨_,rfl⟩
  ·rw[if_neg a];by_cases d:l∈io tr pre
   ·have k:¬l∉io tr pre:=λz=>z d;rw[if_pos d];walk_at"t";exact⟨_,rfl⟩
   ·rw[if_neg d,List.map_append];walk_at"t";exact⟨_,rfl⟩) ⟨_,rfl⟩
 walk_at"r"
theorem DY (n:∀l∈c,l≠0)(h:c.length≤1000):cj [.tup (c.map D.int)]=g7 (.ret (.val (.bl (c.any λl=>decide (-l∈c)))) []):=by
 rcases Hm (tg:=C3 2) (b:=fX) (f:=D.int) (λpre ρ=>∃d o,ρ=[g7 (.sh (.tup (c.map D.int))),g7 (.ow g8 (.dct (keyed d))),o]∧(∀x,x∈d↔x∈pre)∧d.length≤pre.length∧∀l∈pre,-l∉pre) (λw ρ=>w=.val (.bl h7)∧(∃l∈c,-l∈c)∧∃a b,ρ=[g7 (.sh (.tup (c.map D.int))),a,b]) c (ρ:=[g7 (.sh (.tup (c.map D.int))),g7 (.ow g8 (.dct [])),g9]) (λpre l post ρ e ⟨d,o,p,k,hl,i⟩=>by
  subst p;obtain⟨u,m⟩:=fy e;have v:=n l m;have q:inD (.int (-l)) (.dct (keyed d))=g7 (.val (.bl (decide (-l∈pre)))):=by
   show g7 (W.val (.bl (O3 (keyed d) (.inl (-l))).isSome))=_;rw[wV,decide_eq_decide.mpr (k _)]
  by_cases j:-l∈pre
  ·right;walk_at"u";exact⟨rfl,⟨l,m,by rw[e];exact List.mem_append_left _ j⟩,_,_,rfl⟩
  ·left;have y:=tj d l;walk_at"t";refine⟨nP d l,_,rfl,λx=>?_,by rw[List.length_append,List.length_singleton];omega,λx hx g=>?_⟩
   ·rw[List.mem_append,List.mem_singleton,←k];unfold nP;split
    ·rename_i h;exact⟨.inl,λz=>z.elim id λz=>z▸h⟩
    ·rw[List.mem_append,List.mem_singleton]
   ·rw[List.mem_append,List.mem_singleton]at hx g;rcases hx with hx|rfl<;>rcases g with g|g
    ·exact i x hx g
    ·exact j (by rw[←g,yI];exact hx)
    ·exact j g
    ·omega) ⟨[],_,rfl,λ_=>Iff.rfl,i8 _,λ_ h=>nomatch h⟩with⟨_,r,d,o,rfl,_,_,i⟩ | ⟨_,_,r,rfl,⟨l,s,t⟩,a,b,rfl⟩
 ·rw[List.any_eq_false.mpr λl hl=>by simpa using i l hl];walk_at"r"
 ·rw[List.any_eq_true.mpr ⟨l,s,decide_eq_true t⟩];walk_at"r"
end
structure Tok (T:Tab):Prop where
 len:T.length≤60
 cl:∀kv∈T,kv.2.length≤1000
 pos:∀kv∈T,0<kv.1
 lit:∀kv∈T,∀l∈kv.2,l≠0
noncomputable def oB (tr:List Int):List Int→Option (Option Int)
 | []=>g7 g9
 | [l]=>if l∈tr then g9 else g7 (g7 l)
 |_=>g9
noncomputable def ce (T:Tab)(tr:List Int)(h:Int):Option (Option Int):=(W5 T h).bind λc=>oB tr (io tr c)
section
variable {T:Tab}{ts:jW}{tr tr' hs:List Int}{h z:Int}{k:Nat}{b:Bool}
theorem dH (g:Tok T)(e:Tw ts tr)(o:tr.length≤90000)(h:Int):∃s d,F8 [.dct (n6 T),.dct (F2 ts),.int h]=g7 (.ret (.val (.str s)) [.dct (F2 d)])∧((ce T tr h=g9∧s=dD)∨(ce T tr h=g7 g9∧s=gc)∨∃l,ce T tr h=g7 (g7 l)∧s=gb∧Tw d (tr++[l])):=by
 have p:=e.len;have k:=ir T h;unfold ce;cases f:W5 T h with
 |none=>
  rw[f]at k;exact⟨dD,ts,by walk_at"r",.inl ⟨rfl,rfl⟩⟩
 |some c=>
  rw[f]at k;have i:=Q0 f;have q:=yd e (g.lit _ i) (g.cl _ i);have t:=eQ f;have u:=V7 (io tr c);have j:=zX tr c [];have j:∀x∈io tr c,_:=j;show∃s d,_∧((oB tr (io tr c)=g9∧_)∨(oB tr (io tr c)=g7 g9∧_)∨∃l,oB tr (io tr c)=g7 (g7 l)∧_)
  generalize io tr c=X at *
  match X with
  | []=>exact⟨gc,ts,by walk_at"r",.inr (.inl ⟨rfl,rfl⟩)⟩
  | [l]=>
   obtain⟨n,ln⟩:=(j l List.mem_cons_self).resolve_left List.not_mem_nil;have m:=g.lit _ i l n;have is:=e.has m ln;unfold bQ at is;by_cases hs:l∈tr
   ·rw[decide_eq_true hs]at is;exact⟨dD,ts,by walk_at"r",.inl ⟨if_pos hs,rfl⟩⟩
   ·rw[decide_eq_false hs]at is;exact⟨gb,dq ts (bQ l) l,by walk_at"r",.inr (.inr ⟨l,if_neg hs,rfl,e.step m ln⟩)⟩
  |a::b::r=>exact⟨dD,ts,by walk_at"r",.inl ⟨rfl,rfl⟩⟩
inductive Wk (T:Tab):List Int→List Int→Int→Nat→List Int→Prop
 |nil {tr:List Int}:Wk T tr [] 1 0 tr
 |neg {tr hs:List Int} {h:Int}:h<0→Wk T tr (h::hs) 1 0 tr
 |no {tr hs:List Int} {h:Int}:¬h<0→ce T tr h=none→Wk T tr (h::hs) 0 0 tr
 |ends {tr hs:List Int} {h:Int}:¬h<0→ce T tr h=some none→Wk T tr (h::hs) 2 1 tr
 |goes {tr tr' hs:List Int} {h l z:Int} {k:Nat}:¬h<0→ce T tr h=some (some l)→Wk T (tr++[l]) hs z k tr'→Wk T tr (h::hs) z (k+1) tr'
theorem Wk.ex (T:Tab):∀hs tr:List Int,∃z k tr',Wk T tr hs z k tr'
 | [],_=>⟨_,_,_,.nil⟩
 |h::hs,tr=>by
  by_cases a:h<0
  ·exact⟨_,_,_,.neg a⟩
  ·cases e:ce T tr h with
   |none=>exact⟨_,_,_,.no a e⟩
   |some o=>
    cases o with
    |none=>exact⟨_,_,_,.ends a e⟩
    |some l=>
     obtain⟨z,k,tr',w⟩:=Wk.ex T hs (tr++[l]);exact⟨_,_,_,.goes a e w⟩
theorem Wk.len (w:Wk T tr hs z k tr'):tr'.length≤tr.length+hs.length∧k≤hs.length∧(z=1→∀h r,hs.drop k=h::r→h<0):=by
 induction w with
 |nil=>exact⟨i8 _,i8 _,λ_ h r e=>nomatch e⟩
 |neg a=>exact⟨mW _ _,u3 _,λ_ h r e=>by cases e;exact a⟩
 |no=>exact⟨mW _ _,u3 _,λe=>nomatch e⟩
 |ends=>exact⟨mW _ _,U1 (u3 _),λe=>nomatch e⟩
 |goes _ _ _ ih=>
  rw[List.length_append,List.length_singleton]at ih;exact⟨by rw[List.length_cons];omega,U1 ih.2.1,ih.2.2⟩
inductive La (T:Tab):List Int→List Int→Bool→Prop
 |nil {tr:List Int}:La T tr [] false
 |no {tr hs:List Int} {h:Int}:ce T tr h=none→La T tr (h::hs) false
 |ends {tr hs:List Int} {h:Int}:ce T tr h=some none→La T tr (h::hs) hs.isEmpty
 |goes {tr hs:List Int} {h l:Int} {b:Bool}:ce T tr h=some (some l)→La T (tr++[l]) hs b→La T tr (h::hs) b
theorem Wk.last (b:Tok T)(w:Wk T tr hs z k tr'):La T tr hs (decide (z=2∧k=hs.length)):=by
 induction w with
 |nil=>exact .nil
 | @neg tr hs h a=>
  have:ce T tr h=g9:=by
   unfold ce;cases e:W5 T h with
   |none=>rfl
   |some c=>have:=b.pos _ (Q0 e);omega
  exact .no this
 |no a e=>exact .no e
 | @ends tr hs h a e=>
  rw[show decide ((2:Int)=2∧1=(h::hs).length)=hs.isEmpty by cases hs<;>simp];exact .ends e
 | @goes tr tr' hs h l z k a e w ih=>
  rw[show decide (z=2∧k+1=(h::hs).length)=decide (z=2∧k=hs.length) by simp];exact .goes e ih
noncomputable def iz (T:Tab)(ts:jW)(H:List Int)(o:Option C):l9:=[sD T,g7 (.ow h7 (.dct (F2 ts))),g7 (.sh (.lst (H.map D.int))),o]
theorem cW (s:List Nat)(ts:jW):(dZ (.val (.str s)) && [D.dct (F2 ts)].all X1)=h7:=by
 show(h7&&(X1 _&&h7))=h7;rw[jn];rfl
theorem DA (m:Tok T)(w:La T tr hs b):∀(ts:jW) (H:List Int) (o:Option C) (x:Int),hs.getLast?=g7 x→Tw ts tr→tr.length+hs.length≤90000→
  (b=g8∧∃g o',forL (C3 3) O7 (hs.dropLast.map D.int) (iz T ts H o)=g7 (.rt (.val (.bl g8)) (iz T g H o')))∨∃g o' tr',forL (C3 3) O7 (hs.dropLast.map D.int) (iz T ts H o)=g7 (.nx (iz T g H o'))∧Tw g tr'∧tr'.length≤90000∧La T tr' [x] b:=by
 have j:∀{ts g:jW} {H r:List Int} {o:Option C} {h k:Int} {s:List Nat},F8 [.dct (n6 T),.dct (F2 ts),.int h]=g7 (.ret (.val (.str s)) [.dct (F2 g)])→(s=dD∨s=gc)→∃g o',forL (C3 3) O7 ((h::k::r).dropLast.map D.int) (iz T ts H o)=g7 (.rt (.val (.bl g8)) (iz T g H o')):=λ{ts g H r o h k s} f hs=>by
  have t:=cW s g;refine⟨g,sI h,cB (m9:=iz T ts H (sI h)) rfl ?_⟩;rcases hs with rfl|rfl
  ·walk_at"e"
  ·walk_at"e"
 induction w with
 |nil=>exact λts H o x hx=>nomatch hx
 | @no tr hs h e=>
  intro ts H o x hx i hl;cases hs with
  |nil=>cases hx;exact .inr ⟨ts,o,tr,rfl,i,by omega,.no e⟩
  |cons k r=>
   obtain⟨s,g,f,q|q| ⟨l,q,_⟩⟩:=dH m i (by omega) h
   ·exact .inl ⟨rfl,j f (.inl q.2)⟩
   ·rw[e]at q;cases q.1
   ·rw[e]at q;cases q
 | @ends tr hs h e=>
  intro ts H o x hx i hl;cases hs with
  |nil=>cases hx;exact .inr ⟨ts,o,tr,rfl,i,by omega,.ends e⟩
  |cons k r=>
   obtain⟨s,g,f,q|q| ⟨l,q,_⟩⟩:=dH m i (by omega) h
   ·rw[e]at q;cases q.1
   ·exact .inl ⟨rfl,j f (.inr q.2)⟩
   ·rw[e]at q;cases q
 | @goes tr hs h l b e w ih=>
  intro ts H o x hx i hl;cases hs with
  |nil=>cases hx;exact .inr ⟨ts,o,tr,rfl,i,by omega,.goes e w⟩
  |cons k r=>
   obtain⟨s,g,f,q|q| ⟨y,q,rfl,n⟩⟩:=dH m i (by rw[List.length_cons]at hl;omega) h
   ·rw[e]at q;cases q.1
   ·rw[e]at q;cases q.1
   ·rw[e]at q;cases q;have t:=cW gb g;have p:O7 (iz T ts H (sI h))=g7 (.nx (iz T g H (sI h))):=by walk_at"e"
    rcases ih g H (sI h) x hx n (by rw[List.length_append,List.length_singleton];rw[List.length_cons]at hl;omega)with⟨rfl,a,c,d⟩ | ⟨a,c,d,u,v⟩
    ·exact .inl ⟨rfl,a,c,A7 rfl p d⟩
    ·exact .inr ⟨a,c,d,A7 rfl p u,v⟩
theorem DV (j:Tok T)(w:La T tr hs b)(k:Tw ts tr)(hl:tr.length+hs.length≤90000):∃a,aW [.dct (n6 T),.dct (F2 ts),.lst (hs.map D.int)]=g7 (.ret (.val (.bl b)) [.dct (F2 a)]):=by
 cases hs with
 |nil=>cases w;exact⟨ts,rfl⟩
 |cons h r=>
  obtain⟨x,hx⟩:∃x,(h::r).getLast?=g7 x:=⟨_,rfl⟩
  have sl:Gb (.lst ((h::r).map D.int)) g9 (g7 (-1))=g7 (.own (.lst ((h::r).dropLast.map D.int))):=by
   show g7 (W.own (.lst (cutD _ _ _)))=_;rw[yp,List.map_dropLast]
  have o:N9 (.int 1)=g7 (.val (.int (-1))):=rfl;have ne:S0 (.lst ((h::r).map D.int)) (.lst [])=g7 (.val (.bl h7)):=rfl;have p:B1 (.lst ((h::r).map D.int)) (.int (-1))=g7 (.val (.int x)):=by
   obtain⟨d,e⟩:=List.getLast?_eq_some_iff.mp hx;show(L2.eW ((h::r).map D.int) (-1)).map W.val=_;rw[e,List.map_append];show(L2.eW (d.map D.int++[D.int x]) (-1)).map W.val=_;rw[mH];rfl
  rcases DA j w ts (h::r) g9 x hx k hl with⟨rfl,a,o',m⟩ | ⟨a,o',tr',m,g,i,n⟩
  ·exact⟨a,by walk_at"r"⟩
  ·obtain⟨s,c,f,q⟩:=dH j g i x;have t:=cW s c;have u:L1 (.str s) (.str gc)=g7 (.val (.bl b)):=by
    cases n with
    |no e=>rcases q with⟨_,rfl⟩ | ⟨q,_⟩ | ⟨l,q,_⟩<;>first|rfl| (rw[e]at q;cases q)
    |ends e=>rcases q with⟨q,_⟩ | ⟨_,rfl⟩ | ⟨l,q,_⟩<;>first|rfl| (rw[e]at q;cases q)
    |goes e w=>cases w;rcases q with⟨q,_⟩ | ⟨q,_⟩ | ⟨l,_,rfl,_⟩<;>first|rfl| (rw[e]at q;cases q)
   exact⟨c,by walk_at"r"⟩
noncomputable def yM (T:Tab)(A L:List Int)(u:Int)(a b:Option C):l9:=[sD T,g7 (.ow h7 (.lst (L.map D.int))),g7 (.sh (.lst (A.map D.int))),sI u,a,b]
theorem Cz (p:Tok T)(w:Wk T tr hs z k tr'):∀(u:Int) (g d:Option C),tr.length+hs.length≤90000→∃j q m n,(z≠0→j=u+k)∧(forL (C3 4) Y8 (hs.map D.int) (yM T A tr u g d)=g7 (.rt (.val (.tup [.int z,.int j])) (yM T A tr' q m n))∨(z=1∧forL (C3 4) Y8 (hs.map D.int) (yM T A tr u g d)=g7 (.nx (yM T A tr' j m n)))):=by
 induction w with
 |nil=>exact λu g d _=>⟨u,u,g,d,λ_=>(wT u).symm,.inr ⟨rfl,rfl⟩⟩
 | @neg tr hs h s=>
  intro u g d _;refine⟨u,u,sI h,d,λ_=>(wT u).symm,.inl (cB (m9:=yM T A tr u (sI h) d) rfl ?_)⟩;walk_at"e"
 | @no tr hs h s e=>
  intro u g d _;unfold ce at e;have i:=ir T h;cases f:W5 T h with
  |none=>
   rw[f]at i;refine⟨u,u,sI h,d,λz=>absurd rfl z,.inl (cB (m9:=yM T A tr u (sI h) d) rfl ?_)⟩;walk_at"e"
  |some c=>
   rw[f]at i e;have e:oB tr (io tr c)=g9:=e;have t:=iH (tr:=tr) (p.cl _ (Q0 f));have v:=eQ f;have x:=V7 (io tr c);generalize io tr c=X at *;refine⟨u+1,u+1,sI h,g7 (.ow g8 (.lst (X.map D.int))),λz=>absurd rfl z,.inl (cB (m9:=yM T A tr u (sI h) d) rfl ?_)⟩
   match X with
   | []=>cases e
   | [l]=>
    have hs:l∈tr:=OQ λz=>by rw[show oB tr [l]=g7 (g7 l)from if_neg z]at e;cases e
    walk_at"e"
   |a::b::r=>walk_at"e"
 | @ends tr hs h s e=>
  intro u g d _;obtain⟨c,f,e⟩:=Option.bind_eq_some_iff.mp e;have i:=ir T h;rw[f]at i;have t:=iH (tr:=tr) (p.cl _ (Q0 f));have v:=eQ f;have x:=V7 (io tr c);generalize io tr c=X at *;refine⟨u+1,u+1,sI h,g7 (.ow g8 (.lst (X.map D.int))),λ_=>rfl,.inl (cB (m9:=yM T A tr u (sI h) d) rfl ?_)⟩
  match X with
  | []=>walk_at"e"
  | [l]=>
   have e:(if l∈tr then g9 else g7 (g7 l))=g7 g9:=e;split at e<;>cases e
  |a::b::r=>cases e
 | @goes tr tr' hs h l z k s e w ih=>
  intro u g d hl;rw[List.length_cons]at hl;obtain⟨c,f,e⟩:=Option.bind_eq_some_iff.mp e;have i:=ir T h;rw[f]at i;have t:=iH (tr:=tr) (p.cl _ (Q0 f));have v:=eQ f;have x:=V7 (io tr c);generalize io tr c=X at *
  match X with
  | []=>cases e
  | [y]=>
   have e:(if y∈tr then g9 else g7 (g7 y))=g7 (g7 l):=e;split at e
   ·cases e
   ·rename_i hs;cases e;obtain⟨j,q,m,n,E,o⟩:=ih (u+1) (sI h) (g7 (.ow g8 (.lst [.int l]))) (by rw[List.length_append,List.length_singleton];omega);have B:Y8 (yM T A tr u (sI h) d)=g7 (.nx (yM T A (tr++[l]) (u+1) (sI h) (g7 (.ow g8 (.lst [.int l]))))):=by
     unfold yM;rw[List.map_append];walk_at"e"
    exact⟨j,q,m,n,λz=>by rw[E z];omega,o.imp (A7 rfl B) λo=>⟨o.1,A7 rfl B o.2⟩⟩
  |a::b::r=>cases e
theorem vY (c:Tok T)(w:Wk T tr hs z k tr')(hl:tr.length+hs.length≤90000):∃u,V5 [.dct (n6 T),.lst (tr.map D.int),.lst (hs.map D.int)]=g7 (.ret (.val (.tup [.int z,.int u])) [.lst (tr'.map D.int)])∧(z≠0→u=k):=by
 obtain⟨a,e,f,g,b,d| ⟨rfl,d⟩⟩:=Cz c (A:=hs) w 0 g9 g9 hl
 ·exact⟨a,by walk_at"r",λz=>by rw[b z,U3]⟩
 ·exact⟨a,by walk_at"r",λz=>by rw[b z,U3]⟩
end
inductive Mo (first:Int):List Int→List Int→Option (List Int)→Prop
 |nil {tr:List Int}:Mo first tr [] (some tr)
 |same {tr c:List Int} {l:Int} {r:Option (List Int)}:l=-first→Mo first tr c r→Mo first tr (l::c) r
 |yes {tr c:List Int} {l:Int}:¬l=-first→l∈tr→Mo first tr (l::c) none
 |no {tr c:List Int} {l:Int} {r:Option (List Int)}:¬l=-first→l∉tr→Mo first (tr++[-l]) c r→Mo first tr (l::c) r
theorem Mo.ex (first:Int):∀c tr:List Int,∃r,Mo first tr c r
 | [],_=>⟨_,.nil⟩
 |l::c,tr=>by
  by_cases a:l=-first
  ·obtain⟨r,h⟩:=Mo.ex first c tr
   exact⟨r,.same a h⟩
  ·by_cases b:l∈tr
   ·exact⟨g9,.yes a b⟩
   ·obtain⟨r,h⟩:=Mo.ex first c (tr++[-l])
    exact⟨r,.no a b h⟩
noncomputable def Cq (T:Tab)(a:jW)(first n:Int)(hs:List Int)(ts:jW)(o:Option C):l9:=[sD T,g7 (.sh (.dct (F2 a))),sI first,g7 (.sh (.tup [.int n,.lst (hs.map D.int)])),g7 (.sh (.lst (hs.map D.int))),g7 (.ow g8 (.dct (F2 ts))),o]
noncomputable def An (T:Tab)(first n:Int)(hs tr:List Int)(o:Option C):l9:=[sD T,g7 (.ow g8 (.lst (tr.map D.int))),sI first,sI n,g7 (.sh (.lst (hs.map D.int))),o]
section
variable {T:Tab}{ts Cj:jW}{tr c hs:List Int}{first n:Int}{r:Option (List Int)}
theorem Dw (m:Mo first tr c r):∀(ts:jW) (o d:Option C),Tw ts tr→(∀l∈c,l≠0)→tr.length+c.length≤90000→∃a t o' g,(r=g9∧forL (C3 6) D9 (c.map D.int) (Cq T Cj first n hs ts o)=g7 (.rt (.val (.bl hs.isEmpty)) (Cq T Cj first n hs a o'))∧forL (C3 5) K7 (c.map D.int) (An T first n hs tr d)=g7 (.rt (.val (.bl hs.isEmpty)) (An T first n hs t g)))∨
  (r=g7 t∧forL (C3 6) D9 (c.map D.int) (Cq T Cj first n hs ts o)=g7 (.nx (Cq T Cj first n hs a o'))∧forL (C3 5) K7 (c.map D.int) (An T first n hs tr d)=g7 (.nx (An T first n hs t g))∧Tw a t∧t.length≤tr.length+c.length):=by
 induction m with
 | @nil tr=>exact λts o d b _ _=>⟨ts,tr,o,d,.inr ⟨rfl,rfl,rfl,b,i8 _⟩⟩
 | @same tr c l r p _ ih=>
  intro ts o d b i hl;rw[List.length_cons]at hl;obtain⟨a,t,o',g,h⟩:=ih ts (sI l) (sI l) b (λx hx=>i x (List.mem_cons_of_mem _ hx)) (by omega);have q:=ne_int l (-first);rw[decide_eq_true p]at q;have e:D9 (Cq T Cj first n hs ts (sI l))=g7 (.nx (Cq T Cj first n hs ts (sI l))):=by walk_at"e"
  have f:K7 (An T first n hs tr (sI l))=g7 (.nx (An T first n hs tr (sI l))):=by walk_at"e"
  exact⟨a,t,o',g,h.imp (λh=>⟨h.1,A7 rfl e h.2.1,A7 rfl f h.2.2⟩) λh=>⟨h.1,A7 rfl e h.2.1,A7 rfl f h.2.2.1,h.2.2.2.1,by rw[List.length_cons];omega⟩⟩
 | @yes tr c l p s=>
  intro ts o d b i hl;have lk:=(b.iff l (i l List.mem_cons_self)).mpr s;have q:=ne_int l (-first);rw[decide_eq_false p]at q;have u:=wq (ts:=ts) (k:=(l.natAbs:Int)) (j:=l);rw[decide_eq_true (show K8 ts (l.natAbs:Int)=g7 l from lk)]at u;have e:D9 (Cq T Cj first n hs ts (sI l))=g7 (.rt (.val (.bl hs.isEmpty)) (Cq T Cj first n hs ts (sI l))):=by walk_at"e"
  have f:K7 (An T first n hs tr (sI l))=g7 (.rt (.val (.bl hs.isEmpty)) (An T first n hs tr (sI l))):=by walk_at"e"
  exact⟨_,_,_,_,.inl ⟨rfl,cB rfl e,cB rfl f⟩⟩
 | @no tr c l r p s _ ih=>
  intro ts o d b i hl;rw[List.length_cons]at hl;have v:=i l List.mem_cons_self;have w:=b.len;have st:=b.step (l:=-l) (by omega) (by rw[yI];exact s);rw[wF]at st;obtain⟨a,t,o',g,h⟩:=ih _ (sI l) (sI l) st (λx hx=>i x (List.mem_cons_of_mem _ hx)) (by rw[List.length_append,List.length_singleton];omega);have q:=ne_int l (-first);rw[decide_eq_false p]at q;have u:=wq (ts:=ts) (k:=(l.natAbs:Int)) (j:=l);rw[decide_eq_false (show¬K8 ts (l.natAbs:Int)=g7 l from λz=>s ((b.iff l v).mp z))]at u;have e:D9 (Cq T Cj first n hs ts (sI l))=g7 (.nx (Cq T Cj first n hs (dq ts (bQ l) (-l)) (sI l))):=by walk_at"e"
  have f:K7 (An T first n hs tr (sI l))=g7 (.nx (An T first n hs (tr++[-l]) (sI l))):=by
   unfold An;rw[List.map_append];walk_at"e"
  exact⟨a,t,o',g,h.imp (λh=>⟨h.1,A7 rfl e h.2.1,A7 rfl f h.2.2⟩) λh=>⟨h.1,A7 rfl e h.2.1,A7 rfl f h.2.2.1,h.2.2.2.1,by have:=h.2.2.2.2;rw[List.length_append,List.length_singleton]at this;rw[List.length_cons];omega⟩⟩
theorem Hv (a b m:Int):L1 (.tup [.int a,.int b]) (.tup [.int 2,.int m])=g7 (.val (.bl (decide (a=2∧b=m)))):=by
 show g7 (W.val (.bl ((a==2)&&((b==m)&&h7))))=_;by_cases c:a=2<;>by_cases d:b=m<;>simp[c,d]
def EH (x y:Option FR):Prop:=∃b,x=g7 (.ret (.val (.bl b)) [])∧y=g7 (.ret (.val (.bl b)) [])
noncomputable def bB:Option FR→Bool
 |some (.ret (.val (.bl b)) _)=>b
 |_=>g8
theorem EH.at(h:EH x y):x=g7 (.ret (.val (.bl (bB x))) [])∧y=g7 (.ret (.val (.bl (bB x))) []):=by
 obtain⟨b,rfl,h⟩:=h;exact⟨rfl,h⟩
theorem uz (a:Tok T)(h:Tw ts tr)(hl:tr.length+hs.length≤10000)(b:W5 T n=g7 c):EH (B7 [.dct (n6 T),.dct (F2 ts),.int first,.tup [.int n,.lst (hs.map D.int)]]) (Q3 [.dct (n6 T),.lst (tr.map D.int),.int first,.int n,.lst (hs.map D.int)]):=by
 have cl:c.length≤1000:=a.cl _ (Q0 b);have x:=eQ b;obtain⟨r,m⟩:=Mo.ex first c tr
 obtain⟨i,t,o',y,⟨_,j,l⟩ | ⟨_,j,l,d,A⟩⟩:=Dw (T:=T) (Cj:=ts) (hs:=hs) (n:=n) m ts g9 g9 h (a.lit _ (Q0 b)) (by omega)
 ·exact⟨hs.isEmpty,by walk_at"r",by walk_at"r"⟩
 ·obtain⟨z,k,o,w⟩:=Wk.ex T hs t;obtain⟨f,f1⟩:=DV a (w.last a) d (by omega);obtain⟨u,B,g⟩:=vY a w (by omega);have p:decide (z=2∧u=(hs.length:Nat))=decide (z=2∧k=hs.length):=decide_eq_decide.mpr ⟨λe=>⟨e.1,by have:=g (by omega);omega⟩,λe=>⟨e.1,by have:=g (by omega);omega⟩⟩;have q:=Hv z u (hs.length:Nat);rw[p]at q;have s:(dZ (.val (.bl (decide (z=2∧k=hs.length)))) && [D.dct (F2 f)].all X1)=h7:=by
   show(h7&&(X1 _&&h7))=h7;rw[jn];rfl
  have v:(dZ (.val (.tup [.int z,.int u])) && [D.lst (o.map D.int)].all X1)=h7:=by
   show(h7&&(List.all _ _&&h7))=h7;rw[T0];rfl
  exact⟨decide (z=2∧k=hs.length),by walk_at"r",by walk_at"r"⟩
end
noncomputable def pN (hs:List Int):Nat:=(hs.filter λh=>decide (h<0)).length
theorem uy:∀(hs:List Int) (gs:Gs) (m:Nat),(gs≠[]∨∀h r,hs=h::r→h<0)→(∀g∈gs,g.2.length≤m)→∃a,ax gs hs=g7 a∧a.length=gs.length+pN hs∧∀g∈a,g.2.length≤m+hs.length
 | [],gs,m,_,d=>⟨gs,rfl,rfl,d⟩
 |h::hs,gs,m,n,d=>by
  have e:ax gs (h::hs)=(aS gs h).bind λgs=>ax gs hs:=rfl;have o:pN (h::hs)=(if h<0 then 1 else 0)+pN hs:=by
   unfold pN;by_cases c:h<0<;>simp[c,KN]
  rw[e,o];unfold aS;by_cases c:h<0
  ·rw[if_pos c,if_pos c];obtain⟨a,i,j,k⟩:=uy hs (gs++[(-h,[])]) (m+1) (.inl (by simp)) λg b=>by
    rcases List.mem_append.mp b with b|b
    ·have:=d g b;omega
    ·rw[List.mem_singleton.mp b];exact u3 _
   exact⟨a,i,by rw[j,List.length_append,List.length_singleton];omega,λg b=>by have:=k g b;rw[List.length_cons];omega⟩
  ·rw[if_neg c,if_neg c];have ne:=n.resolve_right λz=>c (z h hs rfl);obtain⟨g0,f⟩:∃g0,gs.getLast?=g7 g0:=⟨_,List.getLast?_eq_some_getLast ne⟩
   obtain⟨l,rfl⟩:=List.getLast?_eq_some_iff.mp f;rw[f,List.dropLast_concat];obtain⟨a,i,j,k⟩:=uy hs (l++[(g0.1,g0.2++[h])]) (m+1) (.inl (by simp)) λg b=>by
    rcases List.mem_append.mp b with b|b
    ·have:=d g (List.mem_append_left _ b);omega
    ·rw[List.mem_singleton.mp b,List.length_append];have:=d g0 (by simp);exact U1 this
   exact⟨a,i,by rw[j,List.length_append,List.length_append];simp,λg b=>by have:=k g b;rw[List.length_cons];omega⟩
theorem fA {T:Tab}(h:n∈T.map (·.1)):∃c,W5 T n=g7 c:=by
 obtain⟨kv,a,rfl⟩:=List.mem_map.mp h;cases e:W5 T kv.1 with
 |some c=>exact⟨c,rfl⟩
 |none=>
  unfold W5 at e;rw[Option.map_eq_none_iff,List.find?_eq_none]at e;exact absurd (e kv a) (by simp)
noncomputable def xV (T:Tab)(first n:Int):Bool:=decide (-first∈(W5 T n).getD [])
theorem mz {a b:M W}{w1 d:W}{E:l9}{T:Tab}{first:Int}{ns:List Int}(h:∀n∈ns,n∈T.map (·.1))(e:∀n,a (sI n::E)=g7 (.ok w1 (sI n::E))∧getD w1 (sI n::E)=g7 (.int first))(f:∀n,b (sI n::E)=g7 (.ok d (sI n::E))∧getD d (sI n::E)=g7 (.dct (n6 T))):E5 (C3 0) (v4 (i3 inD (dV N9 a) (i3 B1 b (h8 0)))) (h8 0) (g9::E) (ns.map D.int)=g7 ((ns.filter (xV T first)).map D.int):=
 fK λn i=>by
  obtain⟨c,g⟩:=fA (h n i);have it:=ur (-first) c;rw[show decide (-first∈c)=xV T first n by unfold xV;rw[g];rfl]at it;exact turn_if rfl (A9 (j8 (lY (e n).1 (e n).2 rfl) (j8 (f n).1 (i5 rfl) (f n).2 rfl (eQ g)) rfl rfl it)) λ_=>⟨_,_,_,i5 rfl,rfl⟩
theorem xK (T:Tab):dY (n6 T)=g7 (T.map (·.1)):=by
 induction T with
 |nil=>rfl
 |cons t r ih=>
  show(dY (n6 r)).map (t.1::·)=_;rw[ih];rfl
theorem gq {T:Tab}(h:T.length≤60):N5 [.dct (n6 T)]=g7 (.own (.lst ((y8 (T.map (·.1))).map D.int))):=by
 show(dY (n6 T)).bind _=_;rw[xK];exact x9 (by rw[List.length_map];omega)
theorem sorted_ints {a:List Int}(h:a.length<64):N5 [.lst (a.map D.int)]=g7 (.own (.lst ((y8 a).map D.int))):=by
 show(intsOf (a.map D.int)).bind _=_;rw[lP];exact x9 h
theorem vK (a b:List Int):S0 (.lst (a.map D.int)) (.lst (b.map D.int))=g7 (.val (.bl (!decide (a=b)))):=by
 show(mT (gd 7) _ _).bind _=_;rw[oH];rfl
theorem X9:x∈y8 ns↔x∈ns:=(O4 ns).mem_iff
theorem ri (p:Int→Bool)(ns:List Int):y8 (ns.filter p)=(y8 ns).filter p:=(kZ ((O4 ns).filter p) ((rj ns).filter p)).symm
noncomputable def bf (T:Tab)(first:Int):List Int:=(y8 (T.map (·.1))).filter (xV T first)
theorem yL (T:Tab)(l:Int):(bf T l).length≤T.length:=m8 (List.length_filter_le _ _) (wS (by rw[(O4 _).length_eq,List.length_map]))
section
variable {T:Tab}{ts:jW}{tr hs:List Int}{first:Int}{gs:Gs}{β:Int×List Int→Bool}
theorem qe (hl:hs.length≤4000)(a:ax [] hs=g7 gs):aX [.tup (hs.map D.int)]=g7 (.ret (.own (.lst (gs.map (N0 h7)))) []):=by walk_at"r"
theorem ye (d:Tok T)(hl:hs.length≤4000)(e:ax [] hs=g7 gs)(j:gs.length≤60)(f:y8 (gs.map (·.1))=bf T first→∀g∈gs,B7 [.dct (n6 T),.dct (F2 ts),.int first,N0 h7 g]=g7 (.ret (.val (.bl (β g))) [])):O9 [.dct (n6 T),.dct (F2 ts),.int first,.tup (hs.map D.int)]=g7 (.ret (.val (.bl (decide (y8 (gs.map (·.1))=bf T first)&&(gs.map β).all id))) []):=by
 have k:=d.len;have l:=qe hl e;have m:E5 (C3 0) (v4 (i3 inD (dV N9 (h8 1)) (i3 B1 (h8 2) (h8 0)))) (h8 0) [g9,sI first,g7 (.fz (n6 T))] ((T.map (·.1)).map D.int)=g7 (((T.map (·.1)).filter (xV T first)).map D.int):=mz (λ_ h=>h) (λ_=>⟨i5 rfl,rfl⟩) λ_=>⟨i5 rfl,rfl⟩;have n:E5 (C3 0) N1 (i3 B1 (h8 0) (mC (.int 0))) [g9] (gs.map (N0 h7))=g7 ((gs.map (·.1)).map D.int):=by
  rw[List.map_map];walk_at"c"
 have s1:=sorted_ints (a:=gs.map (·.1)) (by rw[List.length_map];omega);have s2:=sorted_ints (a:=(T.map (·.1)).filter (xV T first)) (kb (List.length_filter_le _ _) (by rw[List.length_map];omega));have c:=vK (y8 (gs.map (·.1))) (bf T first);rw[ri]at s2;have s2:N5 _=g7 (.own (.lst ((bf T first).map D.int))):=s2;show jH T6 6 [g8,g8,g8,g8] 0 _=_;by_cases b:y8 (gs.map (·.1))=bf T first
 ·have p:E5 (C3 0) N1 (u5 [g8,g8,g8,g8] B7 (i2 (h8 1) (i2 (h8 2) (i2 (h8 3) (i2 (h8 0) k6))))) [g9,g7 (.fz (n6 T)),g7 (.sh (.dct (F2 ts))),sI first] (gs.map (N0 h7))=g7 ((gs.map β).map D.bl):=by
   rw[List.map_map];refine bb λg i=>?_;have:=f b g i;walk_at"d"
  rw[decide_eq_true b]at c;rw[decide_eq_true b,dR];refine' vu ?h ?o
  case h=>walk_at"e"
  case o=>rfl
 ·rw[decide_eq_false b]at c;rw[decide_eq_false b,Y2];refine' vu ?h ?o
  case h=>walk_at"e"
  case o=>rfl
end
noncomputable def xY (T:Tab)(c hs:List Int)(ts:jW)(k:Nat)(a:Option C):l9:=[sD T,g7 (.sh (.tup (c.map D.int))),g7 (.sh (.tup (hs.map D.int))),g7 (.ow g8 (.dct (F2 ts))),sI (k:Int),a]
noncomputable abbrev Ho:M Bool:=bP (v4 (i3 (Q6 λi j=>decide (i<j)) (h8 4) (L6 aw (i2 (h8 2) k6)))) (v4 (i3 (Q6 λi j=>decide (j<i)) (i3 B1 (h8 2) (h8 4)) (mC (.int 0))))
theorem Ap (hs:List Int):aw [.tup (hs.map D.int)]=g7 (.val (.int (hs.length:Nat))):=by
 show g7 (W.val (.int _))=_;rw[List.length_map]
theorem pU {hs:List Int}{k:Nat}{h:Int}(e:hs[k]?=g7 h):B1 (.tup (hs.map D.int)) (.int (k:Int))=g7 (.val (.int h)):=by
 show(L2.eW (hs.map D.int) (k:Int)).map W.val=_;rw[kN (v:=D.int h) (by rw[List.getElem?_map,e];rfl)];rfl
section
variable {T:Tab}{c hs tr tr' F3:List Int}{z:Int}{k:Nat}
theorem Hn (y:Tok T)(w:Wk T tr F3 z k tr'):∀(ts:jW) (p n:Nat) (o:Option C),Tw ts tr→hs.drop p=F3→F3.length<n→(∀h∈F3,h≠0)→tr.length+F3.length≤90000→
  ∃b A o',(z=1∧F0 Ho aR n (xY T c hs ts p o)=g7 (.nx (xY T c hs b (p+k) o'))∧Tw b tr')∨(z≠1∧F0 Ho aR n (xY T c hs ts p o)=g7 (.rt (.val (.bl (decide (z=2)))) (xY T c hs b A o'))):=by
 have ln:=Ap hs;have hd:∀{p:Nat} {h:Int} {r:List Int},hs.drop p=h::r→(p:Int)<(hs.length:Nat)∧B1 (.tup (hs.map D.int)) (.int (p:Int))=g7 (.val (.int h))∧hs.drop (p+1)=r:=λ{p h r} e=>by
  have B:hs[p]?=g7 h:=by rw[←List.head?_drop,e];rfl
  exact⟨by have:=(List.getElem?_eq_some_iff.mp B).1;omega,pU B,by rw[←List.drop_drop,e];rfl⟩
 have ok:∀{p:Nat} {h:Int} {r:List Int} {ts:jW} {o:Option C},hs.drop p=h::r→¬h<0→h≠0→Ho (xY T c hs ts p o)=g7 (.ok h7 (xY T c hs ts p o)):=λ{p h r ts o} e g B=>by
  obtain⟨lt,v,_⟩:=hd e;have q:Q6 (λi j=>decide (j<i)) (.int h) (.int 0)=g7 (.val (.bl h7)):=by
   show g7 (W.val (.bl (decide (0<h))))=_;rw[decide_eq_true (by omega)]
  walk_at"e"
 induction w with
 |nil=>
  intro ts p n o m e d g hl;have hk:hs.length≤p:=List.drop_eq_nil_iff.mp e;cases n with
  |zero=>exact absurd d (bM _)
  |succ n=>exact⟨ts,0,o,.inl ⟨rfl,vl (m9:=xY T c hs ts p o) (by walk_at"e"),m⟩⟩
 | @neg tr r h u=>
  intro ts p n o m e d g hl;obtain⟨lt,v,_⟩:=hd e;have q:Q6 (λi j=>decide (j<i)) (.int h) (.int 0)=g7 (.val (.bl g8)):=by
   show g7 (W.val (.bl (decide (0<h))))=_;rw[decide_eq_false (by omega)]
  cases n with
  |zero=>exact absurd d (bM _)
  |succ n=>exact⟨ts,0,o,.inl ⟨rfl,vl (m9:=xY T c hs ts p o) (by walk_at"e"),m⟩⟩
 | @no tr r h u q=>
  intro ts p n o m e d g hl;obtain⟨lt,v,_⟩:=hd e;obtain⟨s,b,f,⟨_,rfl⟩ |a| ⟨l,a,_⟩⟩:=dH y m (by omega) h
  ·have F:=cW dD b;cases n with
   |zero=>exact absurd d (bM _)
   |succ n=>exact⟨b,p,g7 (.sh (.str dD)),.inr ⟨by decide,vk (ok e u (g h List.mem_cons_self)) (by walk_at"e")⟩⟩
  ·rw[q]at a;cases a.1
  ·rw[q]at a;cases a
 | @ends tr r h u q=>
  intro ts p n o m e d g hl;obtain⟨lt,v,_⟩:=hd e;obtain⟨s,b,f,a| ⟨_,rfl⟩ | ⟨l,a,_⟩⟩:=dH y m (by omega) h
  ·rw[q]at a;cases a.1
  ·have F:=cW gc b;cases n with
   |zero=>exact absurd d (bM _)
   |succ n=>exact⟨b,p,g7 (.sh (.str gc)),.inr ⟨by decide,vk (ok e u (g h List.mem_cons_self)) (by walk_at"e")⟩⟩
  ·rw[q]at a;cases a
 | @goes tr tr' r h l z k u q w ih=>
  intro ts p n o m e d g hl;rw[List.length_cons]at d hl;obtain⟨lt,v,H⟩:=hd e;obtain⟨s,t,f,a|a| ⟨J,a,rfl,E⟩⟩:=dH y m (by omega) h
  ·rw[q]at a;cases a.1
  ·rw[q]at a;cases a.1
  ·rw[q]at a;cases a;have F:=cW gb t;cases n with
   |zero=>exact absurd d (bM _)
   |succ n=>
    have G:aR (xY T c hs ts p o)=g7 (.nx (xY T c hs t (p+1) (g7 (.sh (.str gb))))):=by walk_at"e"
    obtain⟨b,A,o',I⟩:=ih t (p+1) n (g7 (.sh (.str gb))) E H (by omega) (λx hx=>g x (List.mem_cons_of_mem _ hx)) (by rw[List.length_append,List.length_singleton];omega);have cd:=ok (ts:=ts) (o:=o) e u (g h List.mem_cons_self);rw[show p+(k+1)=p+1+k by omega];exact⟨b,A,o',I.imp (λh=>⟨h.1,vj cd G h.2.1,h.2.2⟩) λh=>⟨h.1,vj cd G h.2⟩⟩
theorem qa (i:Tok T)(p:c.length≤1000)(A:∀l∈c,l≠0)(hl:hs.length≤4000)(H:∀h∈hs,h≠0)(q:pN hs≤60):EH (P0 [.dct (n6 T),.tup (c.map D.int),.tup (hs.map D.int)]) (E3 [.dct (n6 T),.tup (c.map D.int),.lst (hs.map D.int)]):=by
 have B:=DY A p;have S:E5 (C3 0) N1 (i3 inD (dV N9 (h8 0)) (h8 1)) [g9,g7 (.sh (.tup (c.map D.int)))] (c.map D.int)=g7 ((c.map λl=>decide (-l∈c)).map D.bl):=by
  rw[List.map_map];walk_at"c"
 have an:=kO (c.map λl=>decide (-l∈c));rw[List.any_map,show(id∘λl=>decide (-l∈c))=λl=>decide (-l∈c)from rfl]at an;have U:=i.len;cases r:c.any λl=>decide (-l∈c)with
 |true=>
  rw[r]at B an;exact⟨h7,by walk_at"r",by walk_at"r"⟩
 |false=>
  rw[r]at B an;have X:=iO c;have Y:=yb (ls:=c.map λl=>-l) (by rw[List.length_map];exact p);have E:Tw (kD (c.map λl=>-l)) ([]++c.map λl=>-l):=Tw.fold _ [] [] ⟨λk v e=>(nomatch e),λl _=>⟨λe=>(nomatch e),λh=>(nomatch h)⟩,i8 _⟩ (λl hl=>by
   obtain⟨x,hx,rfl⟩:=List.mem_map.mp hl;have:=A x hx;omega) (λ_ _ h=>nomatch h) λl hl q=>by
   obtain⟨x,hx,rfl⟩:=List.mem_map.mp hl;obtain⟨y,I,e⟩:=List.mem_map.mp q;have:=List.any_eq_false.mp r x hx;rw[show -x=y by omega]at this;exact this (decide_eq_true I)
  rw[List.nil_append]at E;have Z:(c.map λl=>-l).length=c.length:=List.length_map _;generalize kD (c.map λl=>-l)=ts at *;have f1:(dZ (.own (.dct (F2 ts)))&&([]:List D).all X1)=h7:=by
   rw[l8];exact⟨jn _,rfl⟩
  obtain⟨z,k,tr',w⟩:=Wk.ex T hs (c.map λl=>-l);obtain⟨wl,wk,J⟩:=w.len;obtain⟨u,fw,s⟩:=vY i w (by omega);have f2:(dZ (.val (.tup [.int z,.int u])) && [D.lst (tr'.map D.int)].all X1)=h7:=by
   show(h7&&(List.all _ _&&h7))=h7;rw[T0];rfl
  obtain⟨f,p',o',⟨rfl,b,t⟩ | ⟨L,b⟩⟩:=Hn (c:=c) (hs:=hs) i w ts 0 1000000 g9 E rfl (by omega) H (by omega)
  ·have s:=s (by decide);subst s;rw[Z3]at b;cases c with
   |nil=>
    have ne:S0 (.tup (([]:List Int).map D.int)) (.tup [])=g7 (.val (.bl g8)):=rfl;unfold xY at b;rw[show((0:Nat):Int)=0 from rfl]at b;exact⟨g8,by walk_at"r",by walk_at"r"⟩
   |cons l c=>
    have N:c.length+1≤1000:=p;have O:(hs.drop k).length≤4000:=by rw[List.length_drop];omega
    have rn:pN (hs.drop k)≤60:=m8 ((List.drop_sublist k hs).filter _).length_le q;obtain⟨gs,P,Q,gh⟩:=uy (hs.drop k) [] 0 (.inr (J rfl)) λ_ h=>nomatch h;rw[List.length_nil,Z3]at Q;obtain⟨m,F⟩:∃m:Int×List Int→Bool,y8 (gs.map (·.1))=bf T l→∀g∈gs,B7 [.dct (n6 T),.dct (F2 f),.int l,N0 h7 g]=g7 (.ret (.val (.bl (m g))) [])∧Q3 [.dct (n6 T),.lst (tr'.map D.int),.int l,.int g.1,.lst (g.2.map D.int)]=g7 (.ret (.val (.bl (m g))) []):=⟨λg=>bB (B7 [.dct (n6 T),.dct (F2 f),.int l,N0 h7 g]),λe g j=>by
     have hk:g.1∈bf T l:=e▸X9.mpr (List.mem_map_of_mem j);obtain⟨d,hd⟩:=fA (X9.mp (List.mem_filter.mp hk).1);exact(uz i t (by have:=gh g j;omega) hd).at⟩
    have fg:=ye (ts:=f) i O P (by omega) λe g j=>(F e g j).1;have ne:S0 (.tup ((l::c).map D.int)) (.tup [])=g7 (.val (.bl h7)):=rfl;have R:B1 (.tup ((l::c).map D.int)) (.int 0)=g7 (.val (.int l)):=pU (k:=0) rfl;have s1:Gb (.tup (hs.map D.int)) (g7 (k:Int)) g9=g7 (.val (.tup ((hs.drop k).map D.int))):=by
     show g7 (W.val (.tup (cutD _ _ _)))=_;rw[jr,←List.map_drop]
    have s2:Gb (.lst (hs.map D.int)) (g7 (k:Int)) g9=g7 (.own (.lst ((hs.drop k).map D.int))):=by
     show g7 (W.own (.lst (cutD _ _ _)))=_;rw[jr,←List.map_drop]
    have so:=gq i.len;have c7:E5 (C3 0) (v4 (i3 inD (dV N9 (i3 B1 (h8 1) (mC (.int 0)))) (i3 B1 (h8 2) (h8 0)))) (h8 0) [g9,g7 (.sh (.tup ((l::c).map D.int))),sD T] ((y8 (T.map (·.1))).map D.int)=g7 ((bf T l).map D.int):=mz (λn h=>X9.mp h) (λ_=>⟨j8 (i5 rfl) u0 rfl rfl R,rfl⟩) λ_=>⟨i5 rfl,rfl⟩;have z7:small ((y8 (T.map (·.1))).map D.int).length:=bi (by rw[List.length_map,(O4 _).length_eq,List.length_map];omega);have c8:E5 (C3 0) N1 (i3 B1 (h8 0) (mC (.int 0))) [g9] (gs.map (N0 g8))=g7 ((gs.map (·.1)).map D.int):=by
     rw[List.map_map];walk_at"c"
    have s8:=sorted_ints (a:=gs.map (·.1)) (by rw[List.length_map];omega);have G:=vK (y8 (gs.map (·.1))) (bf T l);refine⟨_,(by unfold xY at b;rw[show((0:Nat):Int)=0 from rfl]at b;walk_at"r":P0 _=g7 (.ret (.val (.bl (decide (y8 (gs.map (·.1))=bf T l)&&(gs.map m).all id))) [])),?_⟩;by_cases o:y8 (gs.map (·.1))=bf T l
    ·have c9:E5 (C3 0) N1 (u5 [g8,g8,g8,g8,g8] Q3 (i2 (h8 1) (i2 (h8 2) (i2 (i3 B1 (h8 3) (mC (.int 0))) (i2 (i3 B1 (h8 0) (mC (.int 0))) (i2 (i3 B1 (h8 0) (mC (.int 1))) k6)))))) [g9,sD T,g7 (.sh (.lst (tr'.map D.int))),g7 (.sh (.tup ((l::c).map D.int)))] (gs.map (N0 g8))=g7 ((gs.map m).map D.bl):=by
      rw[List.map_map];refine bb λg j=>?_;have:=(F o g j).2;walk_at"d"
     rw[decide_eq_true o]at G;rw[decide_eq_true o,dR];walk_at"r"
    ·rw[decide_eq_false o]at G;rw[decide_eq_false o,Y2];walk_at"r"
  ·have q1:S0 (.int z) (.int 1)=g7 (.val (.bl h7)):=by rw[ne_int,decide_eq_false L];rfl
   unfold xY at b;rw[show((0:Nat):Int)=0 from rfl]at b;exact⟨decide (z=2),by walk_at"r",by walk_at"r"⟩
end
section
variable {s s1 s2:SM}{ρ m9 A5:l9}{P Q:l9→Prop}{R:W→l9→Prop}{c:M Bool}{b:Bool}
def Nx (s:SM)(ρ:l9)(P:l9→Prop):Prop:=∃a,s ρ=g7 (.nx a)∧P a
theorem nx (h:s ρ=g7 (.nx m9))(p:P m9):Nx s ρ P:=⟨m9,h,p⟩
theorem je (h:Nx s1 ρ P)(k:∀c,P c→Nx s2 c Q):Nx (l6 s1 s2) ρ Q:=
 let⟨c,a,p⟩:=h
 let⟨A5,b,q⟩:=k c p
 ⟨A5,n3 a b,q⟩
theorem dS (h:s1 ρ=g7 (.nx m9))(k:Nx s2 m9 Q):Nx (l6 s1 s2) ρ Q:=je (P:=(·=m9)) ⟨m9,h,rfl⟩ λ_ e=>e▸k
theorem dU (h:c ρ=g7 (.ok b m9))(e:b=h7→Nx s1 m9 P)(f:b=g8→Nx s2 m9 P):Nx (W6 c s1 s2) ρ P:=by
 cases b with
 |true=>obtain⟨d,a,p⟩:=e rfl;exact⟨d,U9 h rfl a,p⟩
 |false=>obtain⟨d,a,p⟩:=f rfl;exact⟨d,P1 h rfl a,p⟩
def Rn (s:SM)(ρ:l9)(R:W→l9→Prop):Prop:=∃w a,s ρ=g7 (.rt w a)∧R w a
theorem lr (h:Nx s1 ρ P)(k:∀c,P c→Rn s2 c R):Rn (l6 s1 s2) ρ R:=
 let⟨c,a,p⟩:=h
 let⟨w,A5,b,q⟩:=k c p
 ⟨w,A5,n3 a b,q⟩
theorem vv (h:s1 ρ=g7 (.nx m9))(k:Rn s2 m9 R):Rn (l6 s1 s2) ρ R:=lr (P:=(·=m9)) ⟨m9,h,rfl⟩ λ_ e=>e▸k
theorem Ny(b:tg d ρ=g7 m9)(h:Nx s m9 P):Tn tg s d ρ P:=
 let⟨A5,a,p⟩:=h
 ⟨m9,A5,b,a,p⟩
end
theorem X3 {a b:List Int}(h:a.length+b.length≤100000):A4 (.lst (a.map D.int)) (.lst (b.map D.int))=g7 (.own (.lst ((a++b).map D.int))):=by
 show cf _ _=_;rw[List.map_append];exact x9 (by unfold small;rw[List.length_map,List.length_map];omega)
theorem rh (T:Tab):(y8 (T.map (·.1))).length=T.length:=by rw[(O4 _).length_eq,List.length_map]
noncomputable def AU (T:Tab)(a L hs:List Int)(b c d:Option C):l9:=[sD T,g7 (.sh (.lst (a.map D.int))),g7 (.ow g8 (.lst (L.map D.int))),g7 (.ow g8 (.lst (hs.map D.int))),b,c,d]
def Ps (hs:List Int)(n:Nat):Prop:=(∀h∈hs,0<h)∧hs.length≤n
theorem Ps.snoc(h:Ps hs n)(hx:0<x)(b:n<m):Ps (hs++[x]) m:=⟨λy a=>(List.mem_append.mp a).elim (h.1 y) λa=>by rw[List.mem_singleton.mp a];exact hx,by rw[List.length_append,List.length_singleton];exact m8 (U1 h.2) b⟩
section
variable {T:Tab}{L0 L hs:List Int}{n:Nat}
theorem AS (p:Tok T)(v:T.length≤16)(y:Ps hs n)(G:n≤5000)(hl:L.length≤5000)(l m o:Option C):(∃i,forL (C3 5) W3 ((y8 (T.map (·.1))).map D.int) (AU T L0 L hs l m o)=g7 (.nx i)∧∃g d j k,i=AU T L0 g d l j k∧Ps d (n+16)∧g.length≤L.length+16)∨∃w i,forL (C3 5) W3 ((y8 (T.map (·.1))).map D.int) (AU T L0 L hs l m o)=g7 (.rt w i)∧∃r g d j k,w=.own (.lst (r.map D.int))∧Ps r (n+16)∧i=AU T L0 g d l j k:=by
 have sl:=rh T;rcases Hm (tg:=C3 5) (b:=W3) (f:=D.int) (λpre ρ=>∃g d j k,ρ=AU T L0 g d l j k∧Ps d (n+pre.length)∧g.length≤L.length+pre.length) (λw i=>∃r g d j k,w=.own (.lst (r.map D.int))∧Ps r (n+16)∧i=AU T L0 g d l j k) (y8 (T.map (·.1))) (ρ:=AU T L0 L hs l m o) (λpre x post ρ e ⟨g,d,j,k,A,q,H⟩=>by
  subst A;obtain⟨I,B⟩:=fy e;obtain⟨c,s⟩:=fA (X9.mp B);have t:=Q0 s;have u:0<x:=p.pos _ t;have J:=eQ s;have N:=iH (tr:=g) (p.cl _ t);have O:=V7 (io g c);have P:=q.2;have ad:A4 (.lst (d.map D.int)) (.lst [.int x])=g7 (.own (.lst ((d++[x]).map D.int))):=X3 (b:=[x]) (by rw[List.length_singleton];omega);rw[List.length_append,List.length_singleton];generalize io g c=X at *
  match X with
  | []=>
   right;walk_at"u";exact⟨_,_,_,_,_,rfl,q.snoc u (by omega),rfl⟩
  | [a]=>
   left;by_cases E:a∈g
   ·have F:¬a∉g:=λz=>z E;walk_at"t";exact⟨g,d,_,_,rfl,⟨q.1,by omega⟩,by omega⟩
   ·walk_at"t"
    exact⟨g++[a],d++[x],_,_,by unfold AU;rw[List.map_append,List.map_append];rfl,q.snoc u (u7 _),by rw[List.length_append,List.length_singleton];omega⟩
  |a::b::r=>
   left;walk_at"t";exact⟨g,d,_,_,rfl,⟨q.1,by omega⟩,by omega⟩) ⟨_,_,_,_,rfl,y,i8 _⟩with⟨i,h,g,d,j,k,e,a,b⟩ |h
 ·exact .inl ⟨i,h,g,d,j,k,e,⟨a.1,by have:=a.2;omega⟩,by omega⟩
 ·exact .inr h
theorem sm (o:Tok T)(l:T.length≤16)(hl:L0.length≤2000):∃r,W8 [.dct (n6 T),.lst (L0.map D.int)]=g7 (.ret (.own (.lst (r.map D.int))) [])∧Ps r 144:=by
 have v:ints1 [.int 9]=g7 ((List.range 9).map λj=>D.int (0+((j:Nat):Int))):=rfl;have x:=gq o.len;rcases Hm (tg:=C3 4) (b:=eP) (f:=λj=>D.int (0+((j:Nat):Int))) (λpre ρ=>∃L hs i d g,ρ=AU T L0 L hs i d g∧Ps hs (16*pre.length)∧L.length≤L0.length+16*pre.length) (λw m=>∃r k c i d g,w=.own (.lst (r.map D.int))∧Ps r 144∧m=AU T L0 k c i d g) (List.range 9) (ρ:=AU T L0 L0 [] g9 g9 g9) (λpre j post ρ e ⟨L,hs,i,d,g,p,q,y⟩=>by
  subst p;have s:=(fy e).1;rw[List.length_range]at s;rw[U3,List.length_append,List.length_singleton];rcases AS o l q (by omega) (by omega) (L0:=L0) (L:=L) (sI (j:Int)) d g with⟨_,n,k,c,t,u,rfl,a,b⟩ | ⟨_,_,n,r,k,c,t,u,rfl,a,rfl⟩
  ·left;walk_at"t";exact⟨k,c,_,_,_,rfl,⟨a.1,by have:=a.2;omega⟩,by omega⟩
  ·right;walk_at"u";exact⟨r,_,_,_,_,_,rfl,⟨a.1,by have:=a.2;omega⟩,rfl⟩) ⟨_,_,_,_,_,rfl,⟨λ_ h=>(nomatch h),i8 _⟩,i8 _⟩with⟨_,n,L,hs,i,d,g,rfl,a,b⟩ | ⟨_,_,n,r,k,c,i,d,g,rfl,a,rfl⟩
 ·exact⟨hs,by walk_at"r",a⟩
 ·exact⟨r,by walk_at"r",a⟩
end
def lU (hs:List Int)(n m:Nat):Prop:=(∀h∈hs,h≠0)∧hs.length≤n∧pN hs≤m
section
variable {a b:List Int}{n m n' m':Nat}
theorem Hj (s:a.Sublist b)(h:lU b n m):lU a n m:=⟨λx hx=>h.1 x (s.subset hx),m8 s.length_le h.2.1,m8 (s.filter _).length_le h.2.2⟩
theorem Y9 (h:lU a n m)(b:n≤n')(c:m≤m'):lU a n' m':=⟨h.1,m8 h.2.1 b,m8 h.2.2 c⟩
theorem lT (h:lU a n m)(h':lU b n' m'):lU (a++b) (n+n') (m+m'):=⟨λx hx=>(List.mem_append.mp hx).elim (h.1 x) (h'.1 x),by rw[List.length_append];exact IF h.2.1 h'.2.1,by unfold pN;rw[List.filter_append,List.length_append];exact IF h.2.2 h'.2.2⟩
theorem pZ (h:Ps a n):lU a n 0:=⟨λx hx=>by have:=h.1 x hx;omega,h.2,by unfold pN;rw[List.filter_eq_nil_iff.mpr λx hx=>by have:=h.1 x hx;simp;omega];exact i8 0⟩
theorem AY(h:x≠0):lU [x] 1 1:=⟨λy a=>by rw[List.mem_singleton.mp a];exact h,i8 _,List.length_filter_le _ _⟩
end
noncomputable def qW (ns:List Int)(b:Int)(T:Tab)(c:List Int)(m:Int)(hs:List Int)(a:Int)(d:Option C)(X:l9):l9:=sL ns::sI b::sD T::sT c::sI m::oL hs::sI a::d::X
theorem IX (hs:List Int)(k:Nat):Gb (.lst (hs.map D.int)) g9 (g7 (k:Int))=g7 (.own (.lst ((hs.take k).map D.int))):=by
 show g7 (W.own (.lst (cutD _ _ _)))=_;rw[Ez,←List.map_take]
theorem CN (hs:List Int)(k:Nat):Gb (.lst (hs.map D.int)) (g7 ((k:Int)+1)) g9=g7 (.own (.lst ((hs.drop (k+1)).map D.int))):=by
 show g7 (W.own (.lst (cutD _ (g7 ((k+1:Nat):Int)) _)))=_;rw[jr,←List.map_drop]
theorem vM {hs:List Int}(h:hs≠[])(m:Int):∃k:Nat,k<hs.length∧K3 (.int m) (.int ((hs.length:Nat):Int))=g7 (.val (.int (k:Int))):=by
 have a:0<(hs.length:Int):=by have:=List.length_pos_iff.mpr h;omega
 have c:=x6 m (b:=(hs.length:Int)) (by omega);have d:=x5 m a;exact⟨(m % (hs.length:Int)).toNat,by omega,by rw[P8 a,Int.toNat_of_nonneg c]⟩
section
variable {ns:List Int}{b:Int}{T:Tab}{c:List Int}{m mO:Int}{o7:Option C}{X:l9}{hs:List Int}{n k:Nat}
noncomputable abbrev ND (w:Int):SM:=(W6 (bP (v4 (i3 L1 (h8 6) (mC (.int w)))) (as (h8 5))) (l6 (u1 7 (i3 K3 (i3 cC (h8 4) (mC (.int 18))) (L6 aw (i2 (h8 5) k6))))
 (u1 5 (i3 A4 (yE (h8 5) (M.pure g9) (dW (h8 7))) (yE (h8 5) (dW (i3 A4 (h8 7) (mC (.int 1)))) (M.pure g9))))) Z8)
theorem BJ (w:Int):bP (v4 (i3 L1 (h8 6) (mC (.int w)))) (as (h8 5)) (qW ns b T c m hs mO o7 X)=g7 (.ok (decide (mO=w) && !hs.isEmpty) (qW ns b T c m hs mO o7 X)):=mn (A9 (j8 (i5 rfl) u0 rfl rfl (eq_int _ _))) (F1 (i5 rfl) rfl (kU _))
theorem jf(h:(p && !hs.isEmpty)=h7):hs≠[]:=by rintro rfl;cases p<;>cases h
theorem wt (w:Int)(e:lU hs n k)(g:n≤50000):Nx (ND w) (qW ns b T c m hs mO o7 X) λρ=>∃d o,ρ=qW ns b T c m d mO o X∧lU d n k:=by
 refine dU (BJ w) (λf=>?_) λ_=>nx M7 ⟨_,_,rfl,e⟩;obtain⟨j,_,h⟩:=vM (jf f) (m / 18);have:=e.2.1;have i:=IX hs j;have l:=CN hs j;have ad:=X3 (a:=hs.take j) (b:=hs.drop (j+1)) (by rw[List.length_take,List.length_drop];omega);refine' nx ?hN ?hQ
 case hN=>walk_at"e"
 case hQ=>exact⟨hs.take j++hs.drop (j+1),_,rfl,Hj (by rw[←List.eraseIdx_eq_take_drop_succ];exact List.eraseIdx_sublist _ _) e⟩
theorem EA (first:Int)(c:List Int):E5 (C3 0) (v4 (i3 S0 (h8 0) (dV N9 (h8 1)))) (h8 0) [g9,sI first] (c.map D.int)=g7 ((c.filter λl=>!decide (l=-first)).map D.int):=fK λl _=>turn_if rfl (A9 (j8 (i5 rfl) (lY (i5 rfl) rfl rfl) rfl rfl (ne_int _ _))) λ_=>⟨_,_,_,i5 rfl,rfl⟩
theorem BY (q:Tok T)(r:T.length≤16)(w:c.length≤1000)(y:one∈T.map (·.1))(s:lU hs n k)(U:n≤50000)(d e f i:Option C):Tn (C3 10) U7 (.int one) (qW ns b T c m hs mO o7 [sI first,sL (yH++[x]),d,e,f,i]) λρ=>∃j d e f i,ρ=qW ns b T c m j mO o7 [sI first,sL (yH++[x]),d,e,f,i]∧lU j (n+146) (k+1):=by
 obtain⟨p,o⟩:=fA y;have u:=Q0 o;have X:0<one:=q.pos _ u;have cl:p.length≤1000:=q.cl _ u;have Y:=eQ o;have v:=s.2.1;have z:=EA first p
 have Z:=List.length_filter_le (λl=>!decide (l=-first)) p;generalize (p.filter λl=>!decide (l=-first))=O at *;have A:=iO c;have E:=iO O;have ad:=X3 (a:=c.map λl=>-l) (b:=O.map λl=>-l) (by rw[List.length_map,List.length_map];omega);obtain⟨G,fh,gp⟩:=sm q r (L0:=(c.map λl=>-l)++(O.map λl=>-l)) (by rw[List.length_append,List.length_map,List.length_map];omega);have cA:E5 (C3 0) N1 (i3 inD (h8 0) (h8 1)) [g9,sL (c.map λl=>-l)] (O.map D.int)=g7 ((O.map λl=>decide (l∈c.map λl=>-l)).map D.bl):=by
  rw[List.map_map (g:=D.bl)];walk_at"c"
 have F:=lX (O.map λl=>decide (l∈c.map λl=>-l));have an:=kO (O.map λl=>decide (l∈c.map λl=>-l));have H:=V7 G;generalize (O.map λl=>decide (l∈c.map λl=>-l))=B at *;generalize hN:(c.map λl=>-l)=N at *;have nl:N.length≤1000:=by rw[←hN,List.length_map];exact w
 refine Ny rfl (dS (by walk_at"e") (dS (by walk_at"e") (dS (m9:=qW ns b T c m hs mO o7 [sI first,sL (yH++[x]),sI one,sL O,oL N,oL G]) (by walk_at"e") (je (P:=λρ=>∃G,ρ=qW ns b T c m hs mO o7 [sI first,sL (yH++[x]),sI one,sL O,oL N,oL G]∧Ps G 144) (dU (mn (F1 (by walk_at"e") rfl rfl) (by walk_at"e")) (λ_=>nx (by walk_at"e") ⟨[],rfl,λ_ h=>(nomatch h),u3 _⟩) λ_=>nx M7 ⟨G,rfl,gp⟩) ?_))))
 rintro _ ⟨G,rfl,gp⟩
 refine je (P:=λρ=>∃G,ρ=qW ns b T c m hs mO o7 [sI first,sL (yH++[x]),sI one,sL O,oL N,oL G]∧Ps G 145) (dU (mn (F1 (i5 rfl) rfl (kU _)) (by walk_at"e")) (λI=>?_) λ_=>nx M7 ⟨G,rfl,gp.1,by have:=gp.2;omega⟩) ?_
 ·cases G with
  |nil=>cases I
  |cons g G=>
   have J:=gp.2;have t:=X3 (a:=g::G) (b:=[g]) (by rw[List.length_singleton];omega);have L:B1 (.lst ((g::G).map D.int)) (.int 0)=g7 (.val (.int g)):=uj (k:=0) rfl;exact nx (S1 (j8 (i5 rfl) (qi (k7 (j8 (i5 rfl) u0 rfl rfl L) n9) rfl (m6 rfl)) rfl rfl t) rfl) ⟨g::G++[g],rfl,gp.snoc (gp.1 g List.mem_cons_self) (by decide)⟩
 rintro _ ⟨G,rfl,gp⟩
 have J:=gp.2;have Q:B1 (.lst ((yH++[x]).map D.int)) (.int (-1))=g7 (.val (.int x)):=by
  show(L2.eW ((yH++[x]).map D.int) (-1)).map W.val=_;rw[List.map_append];show(L2.eW (yH.map D.int++[D.int x]) (-1)).map W.val=_;rw[mH];rfl
 have R:A4 (.lst (hs.map D.int)) (.lst [.int (-one)])=g7 (.own (.lst ((hs++[-one]).map D.int))):=X3 (b:=[-one]) (by rw[List.length_singleton];omega);have S:=X3 (a:=hs++[-one]) (b:=G) (by rw[List.length_append,List.length_singleton];omega);exact dU (Bn (A9 (j8 (i5 rfl) (j8 (i5 rfl) (lY u0 rfl rfl) rfl rfl Q) rfl rfl (ne_int _ _))) (by walk_at"e")) (λ_=>nx (S1 (j8 (j8 (i5 rfl) (qi (k7 (lY (i5 rfl) rfl rfl) n9) rfl (m6 rfl)) rfl rfl R) (i5 rfl) rfl rfl S) rfl) ⟨_,_,_,_,_,rfl,Y9 (lT (lT s (AY (by omega))) (pZ gp)) (by omega) (by omega)⟩) λ_=>nx M7 ⟨_,_,_,_,_,rfl,Y9 s (by omega) (by omega)⟩
noncomputable def rO (z:Int):Int:=if z=0 then 1 else z
theorem Bk {b:M W}{ρ:l9}{z:Int}(h:b ρ=g7 (.ok (.val (.int z)) ρ)):rX b (mC (.int 1)) ρ=g7 (.ok (.val (.int (rO z))) ρ):=by
 unfold rO;by_cases a:z=0
 ·rw[if_pos a];exact Bm h rfl (by rw[a];rfl) u0
 ·rw[if_neg a];exact Bl h rfl (by show g7 (z != 0)=_;simp[a])
theorem HN (t:Tok T)(s:T.length≤16)(O:c.length≤1000):∃hs:List Int,Q4 [.lst (ns.map D.int),.int b,.dct (n6 T),.tup (c.map D.int)]=g7 (.ret (.own (.lst (hs.map D.int))) [])∧lU hs 3000 60:=by
 have fm:=qc (ns:=ns) (k:=b);generalize K6 ns b=m at *;have s1:u1 4 (u5 [g8,g8] v3 (i2 (h8 0) (i2 (h8 1) k6))) (G8 14 [g8,g8,g8,g8] [.lst (ns.map D.int),.int b,.dct (n6 T),.tup (c.map D.int)])=g7 (.nx [sL ns,sI b,sD T,sT c,sI m,g9,g9,g9,g9,g9,g9,g9,g9,g9]):=by walk_at"e"
 have so:=gq t.len;have sl:=rh T;by_cases u:m % 3=0
 ·have Q:=x6 (m / 3) (b:=7) (by decide);have h2:=x5 (m / 3) (b:=7) (by decide);have v:K3 (.int (m / 3)) (.int 7)=g7 (.val (.int (m / 3 % 7))):=P8 (by decide);generalize m / 3 % 7=S at *;have hi:=fE (n:=S) (by omega) (by omega);have R:E5 (C3 0) N1 (rX (i3 xc (i3 K3 (u5 [g8,g8] v3 (i2 (h8 1) (i2 (i3 A4 (i3 A4 (h8 2) (mC (.int 1))) (h8 0)) k6))) (mC (.int 20))) (mC (.int 4))) (mC (.int 1))) [g9,sL ns,sI b] ((List.range S.toNat).map λk=>D.int (0+((k:Nat):Int)))=g7 (((List.range S.toNat).map λ(k:Nat)=>rO (K6 ns (b+1+(0+(k:Int))) % 20-4)).map D.int):=by
   rw[List.map_map];exact bb λk _=>eA rfl rfl (Bk (j8 (j8 (ml (k7 (i5 rfl) (k7 (j8 (j8 (i5 rfl) u0 rfl rfl rfl) (i5 rfl) rfl rfl rfl) n9)) rfl rfl qc rfl rfl) u0 rfl rfl (P8 (by decide))) u0 rfl rfl rfl)) rfl
  refine⟨(List.range S.toNat).map λ(k:Nat)=>rO (K6 ns (b+1+(0+(k:Int))) % 20-4),dn (n3 s1 (dJ (U9 (A9 (j8 (j8 (i5 rfl) u0 rfl rfl (P8 (by decide))) u0 rfl rfl (eq_int _ _))) (decide_eq_true u) (ay (mj (qg (k7 (j8 (j8 (i5 rfl) u0 rfl rfl (pL ⟨by decide,by decide⟩)) u0 rfl rfl v) n9) rfl hi) (bi (by rw[List.length_map,List.length_range];omega)) R rfl (.inl (T0 _))) rfl)))) rfl,λx hx=>?_,?_,?_⟩
  ·obtain⟨k,_,rfl⟩:=List.mem_map.mp hx;unfold rO;split<;>omega
  ·rw[List.length_map,List.length_range];omega
  ·refine m8 (List.length_filter_le _ _) ?_;rw[List.length_map,List.length_range];omega
 ·have cN:=iO c;obtain⟨F,fh,gp⟩:=sm t s (L0:=c.map λl=>-l) (by rw[List.length_map];omega);have fl:=V7 F
  suffices h:Rn cm (G8 14 [g8,g8,g8,g8] [.lst (ns.map D.int),.int b,.dct (n6 T),.tup (c.map D.int)]) λw ρ=>∃hs G H I J X,w=.own (.lst (hs.map D.int))∧ρ=G::H::I::J::X∧lU hs 3000 60 by
   obtain⟨w,X,e,hs,G,H,I,J,X,rfl,rfl,g⟩:=h;exact⟨hs,dn e rfl,g⟩
  refine vv s1 (vv (P1 (by walk_at"e") (decide_eq_false u) M7) (vv (by walk_at"e") (vv (m9:=qW ns b T c m F (m / 3 % 6) g9 [g9,g9,g9,g9,g9,g9]) (by walk_at"e") (lr (wt 1 (pZ gp) (by decide)) ?_))))
  rintro _ ⟨hs,o7,rfl,g⟩
  generalize m / 3 % 6=mO;have U:=g.2.1;refine lr (P:=λρ=>∃hs,ρ=qW ns b T c m hs mO o7 [g9,g9,g9,g9,g9,g9]∧lU hs 160 0) (dU (A9 (j8 (i5 rfl) u0 rfl rfl (eq_int _ _))) (λ_=>?_) λ_=>nx M7 ⟨hs,rfl,Y9 g (by decide) (by decide)⟩) ?_
  ·have Q:=x6 (m / 18) (b:=9) (by decide);have a1:=X3 (a:=hs) (b:=[m / 18 % 9+1]) (by rw[List.length_singleton];omega);have a2:=X3 (a:=hs) (b:=y8 (T.map (·.1))) (by omega);rcases(by omega:m / 162 % 2=0∨m / 162 % 2=1)with hm|hm
   ·have v:K3 (.int (m / 162)) (.int 2)=g7 (.val (.int 0)):=by rw[P8 (by decide),hm]
    have L:B1 (.lst [.lst [.int (m / 18 % 9+1)],.lst ((y8 (T.map (·.1))).map D.int)]) (.int 0)=g7 (.val (.lst ([m / 18 % 9+1].map D.int))):=rfl;refine' nx ?hN ?hQ
    case hN=>walk_at"e"
    case hQ=>exact⟨hs++[m / 18 % 9+1],rfl,Y9 (lT g (pZ (n:=1) ⟨λx hx=>by rw[List.mem_singleton]at hx;omega,i8 _⟩)) (by decide) (by decide)⟩
   ·have v:K3 (.int (m / 162)) (.int 2)=g7 (.val (.int 1)):=by rw[P8 (by decide),hm]
    have L:B1 (.lst [.lst [.int (m / 18 % 9+1)],.lst ((y8 (T.map (·.1))).map D.int)]) (.int 1)=g7 (.val (.lst ((y8 (T.map (·.1))).map D.int))):=rfl;refine' nx ?hN ?hQ
    case hN=>walk_at"e"
    case hQ=>exact⟨hs++y8 (T.map (·.1)),rfl,Y9 (lT g (pZ (n:=16) ⟨λx hx=>by
     obtain⟨kv,u,rfl⟩:=List.mem_map.mp (X9.mp hx);exact t.pos kv u,by omega⟩)) (by decide) (by decide)⟩
  rintro _ ⟨hs,rfl,g⟩
  have U:=g.2.1;refine lr (P:=λρ=>∃hs,ρ=qW ns b T c m hs mO o7 [g9,g9,g9,g9,g9,g9]∧lU hs 161 1) (dU (BJ 3) (λz=>?_) λ_=>nx M7 ⟨hs,rfl,Y9 g (by decide) (by decide)⟩) ?_
  ·obtain⟨j,N,v⟩:=vM (jf z) (m / 18);have L:B1 (.lst (hs.map D.int)) (.int (j:Int))=g7 (.val (.int hs[j])):=uj (List.getElem?_eq_getElem N);have ad:A4 (.lst (hs.map D.int)) (.lst [.int hs[j]])=g7 (.own (.lst ((hs++[hs[j]]).map D.int))):=X3 (b:=[hs[j]]) (by rw[List.length_singleton];omega);refine' nx ?hN ?hQ
   case hN=>walk_at"e"
   case hQ=>exact⟨hs++[hs[j]],rfl,lT g (AY (g.1 _ (List.getElem_mem N)))⟩
  rintro _ ⟨hs,rfl,g⟩
  refine lr (P:=λρ=>∃hs o7 X,ρ=qW ns b T c m hs mO o7 X∧lU hs 3000 60) (dU (mn (A9 (j8 (i5 rfl) u0 rfl rfl rfl)) (F1 (i5 rfl) rfl (show pf (.tup (c.map D.int))=g7 (!c.isEmpty) by cases c<;>rfl))) (λz=>?_) λ_=>nx M7 ⟨hs,_,_,rfl,Y9 g (by decide) (by decide)⟩) λA h=>by
   obtain⟨hs,o7,X,rfl,g⟩:=h;exact⟨_,_,ay (i5 rfl) rfl,hs,_,_,_,_,_,rfl,rfl,g⟩
  cases c with
  |nil=>exact absurd rfl (jf z)
  |cons l c=>
   have i0:B1 (.tup ((l::c).map D.int)) (.int 0)=g7 (.val (.int l)):=pU (k:=0) rfl;have c9:E5 (C3 0) (v4 (i3 inD (dV N9 (h8 1)) (i3 B1 (h8 2) (h8 0)))) (h8 0) [g9,sI l,sD T] ((y8 (T.map (·.1))).map D.int)=g7 ((bf T l).map D.int):=mz (λn h=>X9.mp h) (λ_=>⟨i5 rfl,rfl⟩) λ_=>⟨i5 rfl,rfl⟩;have z9:small ((y8 (T.map (·.1))).map D.int).length:=bi (by rw[List.length_map,sl];omega);have wl:=yL T l;refine dS (m9:=qW ns b T (l::c) m hs mO o7 [sI l,g9,g9,g9,g9,g9]) (by walk_at"e") (je (P:=λρ=>∃hs,ρ=qW ns b T (l::c) m hs mO o7 [sI l,g9,g9,g9,g9,g9]∧lU hs 161 1) (dU (by walk_at"e") (λ_=>nx (by walk_at"e") ⟨[],rfl,λ_ h=>(nomatch h),u3 _,u3 _⟩) λ_=>nx M7 ⟨hs,rfl,g⟩) ?_)
   rintro _ ⟨hs,rfl,g⟩
   refine dS (by walk_at"e") (je (P:=λρ=>∃hs X,ρ=qW ns b T (l::c) m hs mO o7 X∧lU hs 3000 60) ?_ λA ⟨hs,X,e,g⟩=>?_)
   ·rcases List.eq_nil_or_concat (bf T l)with e| ⟨yH,x,e⟩
    ·rw[e];exact nx (qj (aY (i5 rfl) rfl rfl) rfl) ⟨hs,_,rfl,Y9 g (by decide) (by decide)⟩
    ·rw[List.concat_eq_append]at e;obtain⟨_,Y,r,d,i,p,q,rfl,B⟩:=DS (tg:=C3 10) (b:=U7) (f:=D.int) (λpre ρ=>∃hs d i p q,ρ=qW ns b T (l::c) m hs mO o7 [sI l,sL (yH++[x]),d,i,p,q]∧lU hs (161+146*pre.length) (1+pre.length)) (bf T l) (ρ:=qW ns b T (l::c) m hs mO o7 [sI l,sL (yH++[x]),g9,g9,g9,g9]) (λpre y post ρ Z ⟨hs,d,i,p,q,e2,g⟩=>by
      subst e2;obtain⟨pl,ym⟩:=fy Z;have:=BY (ns:=ns) (b:=b) (m:=m) (mO:=mO) (o7:=o7) (first:=l) (x:=x) (yH:=yH) t s O (X9.mp (List.mem_filter.mp ym).1) g (by omega) d i p q;rw[List.length_append,List.length_singleton];exact this) ⟨hs,_,_,_,_,rfl,g⟩
     refine nx (dL (aY (i5 rfl) rfl rfl) Y (by rw[e];rfl)) ⟨r,_,rfl,Y9 B (by omega) (by omega)⟩
   ·subst e;obtain⟨E,a,r,o,e,B⟩:=wt (ns:=ns) (b:=b) (T:=T) (c:=l::c) (m:=m) (mO:=mO) (o7:=o7) (X:=X) 5 g (by decide);exact⟨E,a,r,o,_,e,B⟩
end
theorem lC:∀(cs:List (List Int)) (k:Int),(D3 k cs).length=cs.length
 | [],_=>rfl
 |c::cs,k=>by show(D3 (k+1) cs).length+1=_;rw[lC cs];rfl
theorem eL:∀(cs:List (List Int)) (k:Int) (kv:Int×List Int),kv∈D3 k cs→k≤kv.1∧kv.1<k+cs.length∧kv.2∈cs
 |c::cs,k,kv,h=>by
  rcases List.mem_cons.mp h with rfl|h
  ·exact⟨yJ _,by simp only[List.length_cons];omega,List.mem_cons_self⟩
  ·obtain⟨a,b,d⟩:=eL cs (k+1) kv h;exact⟨by omega,by simp only[List.length_cons];omega,List.mem_cons_of_mem _ d⟩
theorem gA:∀(cs:List (List Int)) (k:Int),((D3 k cs).map (·.1)).Nodup
 | [],_=>List.nodup_nil
 |c::cs,k=>by
  show(k::(D3 (k+1) cs).map (·.1)).Nodup;rw[List.nodup_cons];refine⟨λh=>?_,gA cs (k+1)⟩;obtain⟨kv,a,e⟩:=List.mem_map.mp h;have:=(eL cs (k+1) kv a).1;omega
theorem on (c:List Int):∀(cs:List (List Int)) (k:Int),D3 k (cs++[c])=D3 k cs++[(k+cs.length,c)]
 | [],k=>by show [(k,c)]=[(k+((0:Nat):Int),c)];rw[show k+((0:Nat):Int)=k by omega]
 |d::cs,k=>by
  show(k,d)::D3 (k+1) (cs++[c])=(k,d)::(D3 (k+1) cs++[(k+((cs.length+1:Nat):Int),c)])
  rw[on c cs (k+1),show k+1+(cs.length:Int)=k+((cs.length+1:Nat):Int) by omega]
theorem rQ:∀(cs:List (List Int)) (k:Int),xB k (Y0 cs)=n6 (D3 k cs)
 | [],_=>rfl
 |c::cs,k=>by
  show(Sum.inl k,D.tup (c.map D.int))::xB (k+1) (Y0 cs)=_;rw[rQ cs];rfl
theorem vL:∀(U T:Tab),((T++U).map (·.1)).Nodup→lE (n6 T) (n6 U)=n6 (T++U)
 | [],T,_=>by rw[List.append_nil];rfl
 |kv::U,T,h=>by
  have hk:∀x∈T,x.1≠kv.1:=λx hx e=>by
   rw[List.map_append,List.map_cons,List.nodup_append]at h;exact h.2.2 x.1 (List.mem_map_of_mem hx) kv.1 List.mem_cons_self e
  show lE (putD (n6 T) (.inl kv.1) (.tup (kv.2.map D.int))) (n6 U)=_;rw[pE hk,vL U (T++[(kv.1,kv.2)]) (by rw[List.append_assoc];exact h),List.append_assoc];rfl
theorem sy {cs:List (List Int)}(h:cs.length≤1000):cg [.lst (Y0 cs)]=g7 (.ret (.own (.dct (n6 (D3 1 cs)))) []):=by
 show N8 iL 1 [g8] _=_;have a:vH [.lst (Y0 cs)]=g7 (.own (.dct (n6 (D3 1 cs)))):=by
  show cf _ (g7 (W.own (.dct (lE (n6 []) (xB 1 (Y0 cs))))))=_;rw[rQ,vL (D3 1 cs) [] (by rw[List.nil_append];exact gA cs 1),List.nil_append];exact x9 (by rw[iP];omega)
 exact dn (ay (bD (k7 (i5 rfl) n9) rfl a) rfl) rfl
theorem vy {cs:List (List Int)}(hk:k<cs.length)(c:cs.length≤40)(e:ρ[i]?=g7 (g7 (.ow l (.dct (n6 (D3 1 (cs.take k))))))):cP i (.int ((k:Int)+1)) (.tup (cs[k].map D.int)) ρ=g7 (.nx (ρ.set i (g7 (.ow l (.dct (n6 (D3 1 (cs.take (k+1))))))))):=by
 have a:(cs.take k).length=k:=by rw[List.length_take];omega
 unfold cP;rw[e,List.take_succ,List.getElem?_eq_getElem hk];show cf (small (n6 (D3 1 (cs.take k))).length) (g7 (SR.nx (ρ.set i (g7 (.ow l (.dct (putD (n6 (D3 1 (cs.take k))) (.inl ((k:Int)+1)) (.tup (cs[k].map D.int))))))))) =g7 (.nx (ρ.set i (g7 (.ow l (.dct (n6 (D3 1 (cs.take k++[cs[k]]))))))));rw[on,pE (λkv b z=>by have:=eL _ 1 kv b;omega),a,KO];exact x9 (by show _≤1000000;rw[show(n6 (D3 1 (cs.take k))).length=(D3 1 (cs.take k)).length from List.length_map _,lC];omega)
noncomputable def gF (v g t:Int)(b:Bool):List (Str×D):=[("variables",.int v),("table",.z5),("greatest",.int g),("taken",.int t),("refuted",.bl b)]
theorem Bc (T:Tab):(dZ (.own (.dct (n6 T)))&&([]:List D).all X1)=h7:=by
 show((n6 T).all (λe=>bA e.2)&&h7)=h7;rw[tG];unfold n6;rw[List.all_map,List.all_eq_true];exact λkv _=>oD kv.2
theorem qd{cs:List (List Int)}(h:cs.length≤1000):A8 [.int v,.lst (Y0 cs)]=g7 (gF v cs.length 0 g8,n6 (D3 1 cs)):=by
 show xl aD 4 3 _=_;have ln:aw [.lst (Y0 cs)]=g7 (.val (.int (cs.length:Nat))):=by
  show g7 (W.val (.int _))=_;rw[iP]
 exact CW (n3 (dI (i5 rfl) rfl rfl) (n3 (Ed (ck (k7 (i5 rfl) n9) rfl rfl (sy h) rfl (Bc _)) rfl ⟨m6 rfl,by decide,m6 rfl,rfl⟩ rfl) (n3 (dI (bD (k7 (i5 rfl) n9) rfl ln) rfl rfl) (n3 (dI u0 rfl rfl) (dI u0 rfl rfl))))) rfl
noncomputable def LB (v g t:Int)(b:Bool)(T:Tab)(n:Int)(c hs:List Int):l9:=[g7 (.ob h7 (gF v g t b)),sI n,g7 (.sh (.tup (c.map D.int))),g7 (.sh (.tup (hs.map D.int))),g7 (.ow h7 (.dct (n6 T)))]
noncomputable abbrev qN:=List Int ⊕ (Int×List Int×List Int)
noncomputable def N4:qN→D
 |.inl a=>.tup [.str [100,114,111,112],.tup (a.map D.int)]
 |.inr s=>.tup [.str [97,100,100],.int s.1,.tup (s.2.1.map D.int),.tup (s.2.2.map D.int)]
noncomputable def GS:qN→Prop
 |.inl a=>a.length≤1000
 |.inr s=>s.2.1.length≤1000∧(∀l∈s.2.1,l≠0)∧lU s.2.2 4000 60
noncomputable def ge (T:Tab)(a:List Int):Tab:=a.foldl (λT k=>T.filter λkv=>!decide (kv.1=k)) T
noncomputable def C7 (v g:Int)(T:Tab)(s:Int×List Int×List Int):Bool:=decide (g<s.1)&&(s.2.1.all λl=>decide (bQ l≤v))&&bB (P0 [.dct (n6 T),.tup (s.2.1.map D.int),.tup (s.2.2.map D.int)])
noncomputable def cJ (v g:Int)(T:Tab):qN→Option (Tab×Int×Bool)
 |.inl a=>g7 (ge T a,g,g8)
 |.inr s=>if C7 v g T s=h7 then g7 (T++[(s.1,s.2.1)],s.1,s.2.1.isEmpty)else g9
structure Ti (T:Tab) (g:Int) (m:Nat):Prop where
 len:T.length≤m
 key:∀kv∈T,0<kv.1∧kv.1≤g
 nd:(T.map (·.1)).Nodup
 cl:∀kv∈T,kv.2.length≤1000∧∀l∈kv.2,l≠0
 g0:0≤g
theorem yj (a:List Int):∀T:Tab,(ge T a).Sublist T:=by
 induction a with
 |nil=>exact λT=>List.Sublist.refl _
 |cons k a ih=>exact λT=>(ih _).trans List.filter_sublist
section
variable {v g t:Int}{T:Tab}{m:Nat}{s:qN}{n:Int}{c hs:List Int}
theorem Ti.tok (h:Ti T g m)(a:m≤60):Tok T:=⟨m8 h.len a,λkv hk=>(h.cl kv hk).1,λkv hk=>(h.key kv hk).1,λkv hk=>(h.cl kv hk).2⟩
theorem rB (h:C7 v g T (n,c,hs)=h7):g<n:=by
 unfold C7 at h;simp only[l8,decide_eq_true_eq]at h;exact h.1.1
theorem Ti.snoc{c:List Int}(h:Ti T g m)(lt:g<p)(d:c.length≤1000)(e:∀l∈c,l≠0):Ti (T++[(p,c)]) p (m+1):=by
 have mem:∀kv∈T++[(p,c)],kv∈T∨kv=(p,c):=λkv hk=>by simpa using hk
 have g0:=h.g0;refine⟨by rw[List.length_append,List.length_singleton];exact U1 h.len,λkv hk=>?_,?_,λkv hk=>?_,by omega⟩
 ·rcases mem kv hk with hk|rfl
  ·have:=h.key kv hk;exact⟨this.1,by omega⟩
  ·exact⟨by show 0<p;omega,yJ _⟩
 ·rw[List.map_append,List.nodup_append];refine⟨h.nd,by simp,λa f b i z=>?_⟩;obtain⟨kv,hk,rfl⟩:=List.mem_map.mp f;have:b=p:=by simpa using i
  have:=(h.key kv hk).2;omega
 ·rcases mem kv hk with hk|rfl
  ·exact h.cl kv hk
  ·exact⟨d,e⟩
theorem Ti.step(h:Ti T g m)(hs:GS s)(e:cJ v g T s=g7 (a,g',b)):Ti a g' (m+1):=by
 cases s with
 |inl i=>
  cases e;have d:=yj i T;exact⟨kP (m8 d.length_le h.len),λkv hk=>h.key kv (d.subset hk),(d.map _).nodup h.nd,λkv hk=>h.cl kv (d.subset hk),h.g0⟩
 |inr s=>
  obtain⟨n,c,f⟩:=s;have e:(if C7 v g T (n,c,f)=h7 then g7 (T++[(n,c)],n,c.isEmpty)else g9)=g7 (a,g',b):=e;split at e
  ·rename_i hr;obtain⟨rfl,rfl,rfl⟩:T++[(n,c)]=a∧n=g'∧c.isEmpty=b:=by simpa using e
   exact h.snoc (rB hr) hs.1 hs.2.1
  ·cases e
theorem qb (h:Ti T g m)(f:m≤60)(a:GS (.inr (n,c,hs))):∃b,bB (P0 [.dct (n6 T),.tup (c.map D.int),.tup (hs.map D.int)])=b∧P0 [.dct (n6 T),.tup (c.map D.int),.tup (hs.map D.int)]=g7 (.ret (.val (.bl b)) [])∧E3 [.dct (n6 T),.tup (c.map D.int),.lst (hs.map D.int)]=g7 (.ret (.val (.bl b)) []):=by
 obtain⟨i,j,d⟩:=a;obtain⟨b,e,k⟩:=qa (h.tok f) i j d.2.1 d.1 d.2.2;exact⟨b,by rw[e];rfl,e,k⟩
theorem pF(h:Ti T g m)(a:m≤60)(lt:g<n)(e:ρ[i]?=g7 (g7 (.ow l (.dct (n6 T))))):cP i (.int n) (.tup (c.map D.int)) ρ=g7 (.nx (ρ.set i (g7 (.ow l (.dct (n6 (T++[(n,c)]))))))):=by
 unfold cP;rw[e];show cf (small (n6 T).length) (g7 (SR.nx (ρ.set i (g7 (.ow l (.dct (putD (n6 T) (.inl n) (.tup (c.map D.int)))))))))=_;rw[pE λkv hk z=>by have:=(h.key kv hk).2;omega];exact x9 (by show _≤1000000;rw[show(n6 T).length=T.length from List.length_map _];have:=h.len;omega)
theorem sx (h:Ti T g m)(f:m≤60)(a:GS (.inr (n,c,hs))):M4 (gF v g t g8) (n6 T) [.int n,.tup (c.map D.int),.tup (hs.map D.int)]=g7 (.ret (.bl (C7 v g T (n,c,hs))) (gF v g t g8) (n6 T)):=by
 show ii aC 5 4 _ _ _=_;have o:c.length≤1000:=a.1;have p:Q6 (λi j=>decide (i≤j)) (.int n) (.int g)=g7 (.val (.bl (decide (n≤g)))):=rfl;by_cases lt:n≤g
 ·have:C7 v g T (n,c,hs)=g8:=by unfold C7;rw[decide_eq_false (by show¬g<n;omega)];rfl
  rw[this];walk_at"x"
 ·have q:E5 (C3 0) N1 (i3 (Q6 λi j=>decide (j<i)) (L6 iR (i2 (h8 0) k6)) (Ju 1 "variables")) [g9,g7 (.rd (gF v g t g8))] (c.map D.int)=g7 ((c.map λl=>decide (v<bQ l)).map D.bl):=by
   rw[List.map_map];exact bb λl _=>eA rfl rfl (j8 (bD (k7 (i5 rfl) n9) rfl rfl) (JD rfl) rfl rfl rfl) rfl
  have an:=kO (c.map λl=>decide (v<bQ l));rw[List.any_map]at an;have d:(c.all λl=>decide (bQ l≤v))=!(c.any (id∘λl=>decide (v<bQ l))):=by
   rw[List.not_any_eq_all_not];congr 1;funext l;show decide (bQ l≤v)=!decide (v<bQ l);rw[←decide_not];exact decide_eq_decide.mpr Int.not_lt.symm
  cases e:c.any (id∘λl=>decide (v<bQ l))with
  |true=>
   rw[e]at an d;have:C7 v g T (n,c,hs)=g8:=by unfold C7;rw[d,ja,gT];rfl
   rw[this];walk_at"x"
  |false=>
   rw[e]at an d;obtain⟨b,k,r,_⟩:=qb h f a;have:C7 v g T (n,c,hs)=b:=by unfold C7;rw[d,k,decide_eq_true (by show g<n;omega)];cases b<;>rfl
   rw[this];walk_at"x"
noncomputable abbrev Ik (t:Int):vc:=⟨"NotRight",[("place",.int t)]⟩
theorem Hq (h:Ti T g m)(b:m≤60)(a:GS (.inr (n,c,hs)))(hr:C7 v g T (n,c,hs)=h7):B8 (gF v g t g8) (n6 T) [.int n,.tup (c.map D.int),.tup (hs.map D.int)]=g7 (.ret .z5 (gF v n t c.isEmpty) (n6 (T++[(n,c)]))):=by
 show ii N2 5 4 _ _ _=_;have fr:=sx (v:=v) (t:=t) h b a;rw[hr]at fr;exact ca (n3 (m9:=LB v g t g8 T n c hs) (P1 (S2 (F1 (S7 rfl rfl (k7 (i5 rfl) (k7 (i5 rfl) (k7 (i5 rfl) n9))) rfl (jO rfl rfl rfl rfl fr rfl)) rfl (k:=h7) rfl)) rfl M7) (n3 (m9:=LB v g t g8 (T++[(n,c)]) n c hs) (Ef (i5 rfl) rfl (qh rfl) (i5 rfl) rfl rfl (pF h b (rB hr) rfl)) (n3 (dI (i5 rfl) rfl rfl) (dI (j8 (i5 rfl) (eS n9 rfl (m6 rfl)) rfl rfl (qp c)) rfl rfl)))) rfl
theorem DZ (h:Ti T g m)(b:m≤60)(a:GS (.inr (n,c,hs)))(hr:C7 v g T (n,c,hs)=g8)(d:0≤t)(e:t≤1000):B8 (gF v g t g8) (n6 T) [.int n,.tup (c.map D.int),.tup (hs.map D.int)]=g7 (.exc (Ik t) (gF v g t g8) (n6 T)):=by
 show ii N2 5 4 _ _ _=_;have fr:=sx (v:=v) (t:=t) h b a;rw[hr]at fr;exact ca (sr:=.ex (Ik t) (LB v g t g8 T n c hs)) (qf (U9 (S2 (F1 (S7 rfl rfl (k7 (i5 rfl) (k7 (i5 rfl) (k7 (i5 rfl) n9))) rfl (jO rfl rfl rfl rfl fr rfl)) rfl (k:=g8) rfl)) rfl (yf (k7 (eT rfl) n9) rfl d e))) rfl
theorem Dh (T:Tab)(k:Int):oJ (n6 T) (.inl k)=n6 (T.filter λkv=>!decide (kv.1=k)):=by
 unfold oJ n6;rw[List.filter_map];congr 1;refine List.filter_congr λkv _=>?_;show decide ((Sum.inl kv.1:Key)≠.inl k)=_;by_cases z:kv.1=k
 ·simp[z]
 ·simp[z]
theorem xI(h:W5 T k=g9):(T.filter λkv=>!decide (kv.1=k))=T:=by
 refine List.filter_eq_self.mpr λkv hk=>?_;unfold W5 at h;rw[Option.map_eq_none_iff,List.find?_eq_none]at h;simpa using h kv hk
theorem ql(f:a ρ=g7 (.ok w ρ))(hx:Cr "dict" w ρ=g7 (.ok () ρ)) (hk:R7 mk ρ=g7 (.ok b ρ)) (h:ρ[i]?=g7 (g7 (.ow l (.dct (n6 T))))) (g:getD b ρ=g7 (.int k)):M8 (jg a i mk (mC .z5)) ρ=g7 (.nx (ρ.set i (g7 (.ow l (.dct (n6 (T.filter λkv=>!decide (kv.1=k)))))))):=by
 have:∃d,jg a i mk (mC .z5) ρ=g7 (.ok (.val d) (ρ.set i (g7 (.ow l (.dct (n6 (T.filter λkv=>!decide (kv.1=k)))))))):=by
  unfold jg;rw[M.k9 f,M.k9 hx,M.k9 hk,M.k9 (show mC .z5 ρ=g7 (.ok (.val .z5) ρ)from rfl)];unfold uK;rw[h,g];dsimp only;rw[show keyOf (.int k)=g7 (.inl k)from rfl];dsimp only;rw[kR];cases e:W5 T k with
  |none=>
   refine⟨.z5,?_⟩;rw[xI e,zk h];rfl
  |some c=>
   refine⟨.tup (c.map D.int),?_⟩;show g7 _=_;rw[Dh]
 obtain⟨d,e⟩:=this;unfold M8;rw[u8 e];rfl
theorem DW(a:List Int):D4 (gF v g t b) (n6 T) [.tup (a.map D.int)]=g7 (.ret .z5 (gF v g t b) (n6 (ge T a))):=by
 have:∀(a:List Int) (T:Tab) (o:Option C) (L:List D),∃o',forL (C3 2) S6 (a.map D.int) [g7 (.ob h7 (gF v g t b)),g7 (.sh (.tup L)),o,g7 (.ow h7 (.dct (n6 T)))]=g7 (.nx [g7 (.ob h7 (gF v g t b)),g7 (.sh (.tup L)),o',g7 (.ow h7 (.dct (n6 (ge T a))))]):=by
  intro a;induction a with
  |nil=>exact λT o L=>⟨o,rfl⟩
  |cons k a ih=>
   intro T o L;obtain⟨o',e⟩:=ih (T.filter λkv=>!decide (kv.1=k)) (sI k) L;exact⟨o',A7 rfl (ql (qh rfl) rfl rfl rfl rfl) e⟩
 obtain⟨o',e⟩:=this a T g9 (a.map D.int);exact ca (den:=V9) (n:=4) (j:=3) (qj (aY (i5 rfl) rfl rfl) e) rfl
theorem Fi(h:Ti T g m)(i:m≤60)(hs:GS s)(e:cJ v g T s=g7 (a,d,b)):y4 (gF v g t g8) (n6 T) [N4 s]=g7 (.ret .z5 (gF v d (t+1) b) (n6 a)):=by
 show ii T7 3 2 _ _ _=_;cases s with
 |inl j=>
  cases e;exact ca (n3 (U9 (S2 (F1 (eT rfl) rfl (k:=g8) rfl)) rfl (U9 (A9 (j8 (j8 (i5 rfl) u0 rfl rfl rfl) u0 rfl rfl rfl)) rfl (fJ (S7 rfl rfl (k7 (j8 (i5 rfl) u0 rfl rfl rfl) n9) rfl (jO rfl rfl rfl rfl (DW j) rfl))))) (kJ rfl u0 rfl rfl)) rfl
 |inr s=>
  obtain⟨n,c,f⟩:=s;have e:(if C7 v g T (n,c,f)=h7 then g7 (T++[(n,c)],n,c.isEmpty)else g9)=g7 (a,d,b):=e;split at e
  ·rename_i hr;cases e;exact ca (n3 (U9 (S2 (F1 (eT rfl) rfl (k:=g8) rfl)) rfl (P1 (A9 (j8 (j8 (i5 rfl) u0 rfl rfl rfl) u0 rfl rfl rfl)) rfl (fJ (S7 rfl rfl (k7 (j8 (i5 rfl) u0 rfl rfl rfl) (k7 (j8 (i5 rfl) u0 rfl rfl rfl) (k7 (j8 (i5 rfl) u0 rfl rfl rfl) n9))) rfl (jO rfl rfl rfl rfl (Hq h i hs hr) rfl))))) (kJ rfl u0 rfl rfl)) rfl
  ·cases e
theorem Bf (h:Ti T g m)(b:m≤60)(hs:GS s)(e:cJ v g T s=g9)(d:0≤t)(f:t≤1000):y4 (gF v g t g8) (n6 T) [N4 s]=g7 (.exc (Ik t) (gF v g t g8) (n6 T)):=by
 show ii T7 3 2 _ _ _=_;cases s with
 |inl i=>cases e
 |inr s=>
  obtain⟨n,c,a⟩:=s;have e:(if C7 v g T (n,c,a)=h7 then g7 (T++[(n,c)],n,c.isEmpty)else g9)=g9:=e;split at e
  ·cases e
  ·rename_i hr;exact ca (qf (U9 (S2 (F1 (eT rfl) rfl (k:=g8) rfl)) rfl (P1 (A9 (j8 (j8 (i5 rfl) u0 rfl rfl rfl) u0 rfl rfl rfl)) rfl (mh (S7 rfl rfl (k7 (j8 (i5 rfl) u0 rfl rfl rfl) (k7 (j8 (i5 rfl) u0 rfl rfl rfl) (k7 (j8 (i5 rfl) u0 rfl rfl rfl) n9))) rfl (Bo rfl rfl rfl rfl (DZ h b hs (by simpa using hr) d f) rfl)))))) rfl
theorem Bg {d:D}{T:List (Key×D)}:y4 (gF v g t h7) T [d]=g7 (.ret .z5 (gF v g (t+1) h7) T):=ca (den:=T7) (n:=3) (j:=2) (n3 (P1 (S2 (F1 (eT rfl) rfl (k:=h7) rfl)) rfl M7) (kJ rfl u0 rfl rfl)) rfl
end
noncomputable def D6 (v:Int):Int→Tab→Int→List qN→Int×Bool
 |_,_,_,[]=>(-1,g8)
 |g,T,k,s::r=>match cJ v g T s with
  |none=>(k,g8)
  |some (a,c,b)=>if b=h7 then(-1,h7)else D6 v c a (k+1) r
noncomputable def mS (v:Int)(cs:List (List Int))(L:List D)(T:Tab)(a b c d e:Option C):l9:=[g7 (.sh (.tup [.int v,.lst (Y0 cs)])),g7 (.sh (.lst L)),g7 (.ow g8 (.dct (n6 T))),a,b,c,d,e]
section
variable {v g:Int}{cs:List (List Int)}{T:Tab}{m:Nat}{L:List D}{n:Int}{c hs:List Int}
theorem zJ (d:cs.length≤40):∃a,forL (C3 3) av ((List.range cs.length).map λk=>D.int ((k:Nat):Int)) (mS v cs L [] g9 g9 g9 g9 g9)=g7 (.nx (mS v cs L (D3 1 cs) a g9 g9 g9 g9)):=by
 obtain⟨_,c,a,rfl⟩:=DT (tg:=C3 3) (b:=av) (f:=λk=>D.int ((k:Nat):Int)) (λk ρ=>∃a,ρ=mS v cs L (D3 1 (cs.take k)) a g9 g9 g9 g9) cs.length (ρ:=mS v cs L [] g9 g9 g9 g9 g9) (λk ρ hk ⟨a,e⟩=>by
  subst e;exact tn rfl (lZ (j8 (j8 (i5 rfl) u0 rfl rfl rfl) (i5 rfl) rfl rfl (Az (List.getElem?_eq_getElem hk))) rfl (j8 (i5 rfl) u0 rfl rfl rfl) rfl rfl (vy hk d rfl)) ⟨_,rfl⟩) ⟨g9,rfl⟩
 rw[List.take_length]at c;exact⟨a,c⟩
theorem ol:∀(a:List Int) (T:Tab) (b:Option C),∃c,forL (C3 6) au (a.map D.int) (mS v cs L T o3 o4 o5 b o7)=g7 (.nx (mS v cs L (ge T a) o3 o4 o5 c o7))
 | [],T,b=>⟨b,rfl⟩
 |k::a,T,b=>by
  obtain⟨c,e⟩:=ol a (T.filter λkv=>!decide (kv.1=k)) (sI k);exact⟨c,A7 rfl (ql (i5 rfl) rfl rfl rfl rfl) e⟩
theorem zK (h:Ti T g m)(q:m≤60)(gs:GS (.inr (n,c,hs)))(hk:L2.eW L k=g7 (N4 (.inr (n,c,hs)))):∃w f,F4 (mS v cs L T (sI k) (sI g) o5 o6 o7)=if C7 v g T (n,c,hs)=h7 then(if c.isEmpty=h7 then g7 (.rt (.val (.tup [.int (-1),.bl h7])) (mS v cs L (T++[(n,c)]) (sI k) (sI n) (g7 (.sh (N4 (.inr (n,c,hs))))) o6 f))else g7 (.nx (mS v cs L (T++[(n,c)]) (sI k) (sI n) (g7 (.sh (N4 (.inr (n,c,hs))))) o6 f)))else g7 (.rt (.val (.tup [.int k,.bl g8])) (mS v cs L T (sI k) w (g7 (.sh (N4 (.inr (n,c,hs))))) o6 f)):=by
 have x:c.length≤1000:=gs.1;have y:B1 (.lst L) (.int k)=g7 (.val (N4 (.inr (n,c,hs)))):=by
  show(L2.eW L k).map W.val=_;rw[hk];rfl
 have gt:Q6 (λi j=>decide (j<i)) (.int n) (.int g)=g7 (.val (.bl (decide (g<n)))):=rfl;have hd:∀{s:SM} {r:Option SR},s (mS v cs L T (sI k) (sI g) (g7 (.sh (N4 (.inr (n,c,hs))))) o6 o7)=r→l6 (u1 5 (i3 B1 (h8 1) (h8 3))) (W6 (v4 (i3 L1 (i3 B1 (h8 5) (mC (.int 0))) (mC (.str [100,114,111,112])))) (aa (z6 (i3 B1 (h8 5) (mC (.int 1)))) (C3 6) au) s) (mS v cs L T (sI k) (sI g) o5 o6 o7)=r:=λh=>n3 (S1 (j8 (i5 rfl) (i5 rfl) rfl rfl y) rfl) (P1 (A9 (j8 (j8 (i5 rfl) u0 rfl rfl rfl) u0 rfl rfl rfl)) rfl h);by_cases lt:g<n
 ·rw[decide_eq_true lt]at gt;have z:E5 (C3 0) N1 (i3 (Q6 λi j=>decide (i≤j)) (L6 iR (i2 (h8 0) k6)) (i3 B1 (h8 1) (mC (.int 0)))) [g9,g7 (.sh (.tup [.int v,.lst (Y0 cs)]))] (c.map D.int)=g7 ((c.map λl=>decide (bQ l≤v)).map D.bl):=by
   rw[List.map_map];exact sU λl _=>⟨[sI l,g7 (.sh (.tup [.int v,.lst (Y0 cs)]))],.val (.bl (decide (bQ l≤v))),[sI l,g7 (.sh (.tup [.int v,.lst (Y0 cs)]))],[sI l,g7 (.sh (.tup [.int v,.lst (Y0 cs)]))],rfl,j8 (bD (k7 (i5 rfl) n9) rfl rfl) (j8 (i5 rfl) u0 rfl rfl rfl) rfl rfl rfl,rfl⟩
  have o:=wE (c.map λl=>decide (bQ l≤v));rw[List.all_map]at o;have p:∀{b:Bool},c.all (id∘λl=>decide (bQ l≤v))=b→u1 7 (eN (i3 (Q6 λi j=>decide (j<i)) (i3 B1 (h8 5) (mC (.int 1))) (h8 4)) (L6 uU (i2 (F7 (z6 (i3 B1 (h8 5) (mC (.int 2)))) (C3 0) N1 (i3 (Q6 λi j=>decide (i≤j)) (L6 iR (i2 (h8 0) k6)) (i3 B1 (h8 1) (mC (.int 0)))) 1 [0]) k6))) (mS v cs L T (sI k) (sI g) (g7 (.sh (N4 (.inr (n,c,hs))))) o6 o7)=g7 (.nx (mS v cs L T (sI k) (sI g) (g7 (.sh (N4 (.inr (n,c,hs))))) o6 (g7 (.sh (.bl b))))):=λe=>by
   rw[e]at o;exact S1 (sB (j8 (j8 (i5 rfl) u0 rfl rfl rfl) (i5 rfl) rfl rfl gt) rfl rfl (bD (k7 (mj (aY (j8 (i5 rfl) u0 rfl rfl rfl) rfl rfl) (bi (by rw[List.length_map];exact m8 x (by decide))) z rfl (.inl (lX _))) n9) rfl o)) rfl
  cases a:c.all (id∘λl=>decide (bQ l≤v))with
  |false=>
   rw[show C7 v g T (n,c,hs)=g8 by unfold C7;rw[show(c.all λl=>decide (bQ l≤v))=g8 from a,gT];rfl];exact⟨_,_,hd (n3 (p a) (dJ (U9 (uJ (S2 (F1 (i5 rfl) rfl (k:=g8) rfl)) rfl) rfl (ay (eS (k7 (i5 rfl) (k7 u0 n9)) rfl (m6 rfl)) rfl))))⟩
  |true=>
   obtain⟨b,A,_,t⟩:=qb h q gs;rw[show C7 v g T (n,c,hs)=b by unfold C7;rw[show(c.all λl=>decide (bQ l≤v))=h7 from a,A,decide_eq_true lt];cases b<;>rfl];cases b with
   |false=>exact⟨_,_,hd (n3 (p a) (dJ (U9 (jp (S2 (F1 (i5 rfl) rfl (k:=h7) rfl)) rfl (S2 (F1 (ck (k7 (i5 rfl) (k7 (j8 (i5 rfl) u0 rfl rfl rfl) (k7 (bD (k7 (j8 (i5 rfl) u0 rfl rfl rfl) n9) rfl rfl) n9))) rfl rfl t rfl rfl) rfl (k:=g8) rfl))) rfl (ay (eS (k7 (i5 rfl) (k7 u0 n9)) rfl (m6 rfl)) rfl))))⟩
   |true=>
    have go:∀{r:Option SR},W6 (v4 (i3 L1 (i3 B1 (h8 5) (mC (.int 2))) (aP k6))) (retS (aP (i2 (dV N9 (mC (.int 1))) (i2 (mC (.bl h7)) k6)))) Z8 (mS v cs L (T++[(n,c)]) (sI k) (sI n) (g7 (.sh (N4 (.inr (n,c,hs))))) o6 (g7 (.sh (.bl h7))))=r→F4 (mS v cs L T (sI k) (sI g) o5 o6 o7)=r:=λhr=>hd (n3 (p a) (n3 (P1 (jp (S2 (F1 (i5 rfl) rfl (k:=h7) rfl)) rfl (S2 (F1 (ck (k7 (i5 rfl) (k7 (j8 (i5 rfl) u0 rfl rfl rfl) (k7 (bD (k7 (j8 (i5 rfl) u0 rfl rfl rfl) n9) rfl rfl) n9))) rfl rfl t rfl rfl) rfl (k:=h7) rfl))) rfl M7) (n3 (S1 (j8 (i5 rfl) u0 rfl rfl rfl) rfl) (n3 (lZ (j8 (i5 rfl) u0 rfl rfl rfl) rfl (i5 rfl) rfl rfl (pF h q lt rfl)) hr))));have d:=qp c;cases u:c.isEmpty with
    |true=>
     rw[u]at d;exact⟨g9,_,go (U9 (A9 (j8 (j8 (i5 rfl) u0 rfl rfl rfl) (eS n9 rfl (m6 rfl)) rfl rfl d)) rfl (ay (eS (k7 (lY u0 rfl rfl) (k7 u0 n9)) rfl (m6 rfl)) rfl))⟩
    |false=>
     rw[u]at d;exact⟨g9,_,go (P1 (A9 (j8 (j8 (i5 rfl) u0 rfl rfl rfl) (eS n9 rfl (m6 rfl)) rfl rfl d)) rfl M7)⟩
 ·rw[decide_eq_false lt]at gt;rw[show C7 v g T (n,c,hs)=g8 by unfold C7;rw[decide_eq_false lt];rfl];exact⟨_,_,hd (n3 (S1 (sC (j8 (j8 (i5 rfl) u0 rfl rfl rfl) (i5 rfl) rfl rfl gt) rfl rfl) rfl) (dJ (U9 (uJ (S2 (F1 (i5 rfl) rfl (k:=g8) rfl)) rfl) rfl (ay (eS (k7 (i5 rfl) (k7 u0 n9)) rfl (m6 rfl)) rfl))))⟩
theorem Dk {ss:List qN}:∀(T:Tab) (g:Int) (m k:Nat) (o3 o5 o6 o7:Option C),Ti T g m→m+ss.length≤60→(∀s∈ss,GS s)→(∀j s,ss[j]?=g7 s→L[k+j]?=g7 (N4 s))→
  ∃a h o i p l,(forL (C3 3) F4 ((List.range' k ss.length).map λj=>D.int ((j:Nat):Int)) (mS v cs L T o3 (sI g) o5 o6 o7)=g7 (.nx (mS v cs L a h o i p l))∧D6 v g T k ss=(-1,g8))∨
   forL (C3 3) F4 ((List.range' k ss.length).map λj=>D.int ((j:Nat):Int)) (mS v cs L T o3 (sI g) o5 o6 o7)=g7 (.rt (.val (.tup [.int (D6 v g T k ss).1,.bl (D6 v g T k ss).2])) (mS v cs L a h o i p l)):=by
 induction ss with
 |nil=>exact λT g m k o3 o5 o6 o7 _ _ _ _=>⟨T,o3,sI g,o5,o6,o7,.inl ⟨rfl,rfl⟩⟩
 |cons s ss ih=>
  intro T g m k o3 o5 o6 o7 x E gs y;rw[List.length_cons]at E;have F:L[k]?=g7 (N4 s):=y 0 s rfl;have z:∀j q,ss[j]?=g7 q→L[k+1+j]?=g7 (N4 q):=λj q u=>by rw[Nat.add_right_comm];exact y (j+1) q u
  have r:∀q∈ss,GS q:=λq u=>gs q (List.mem_cons_of_mem _ u);have A:L2.eW L (k:Int)=g7 (N4 s):=kN F;have st:∀{a:Tab} {t:Int} {b:Bool},cJ v g T s=g7 (a,t,b)→Ti a t (m+1):=x.step (gs s List.mem_cons_self);cases s with
  |inl d=>
   obtain⟨p,G⟩:=ol (v:=v) (cs:=cs) (L:=L) (o3:=sI (k:Int)) (o4:=sI g) (o5:=g7 (.sh (N4 (.inl d)))) (o7:=o7) d T o6;have H:B1 (.lst L) (.int (k:Int))=g7 (.val (N4 (.inl d))):=by
    show(L2.eW L _).map W.val=_;rw[A];rfl
   obtain⟨a,h,o,i,w,l,e⟩:=ih (ge T d) g (m+1) (k+1) (sI (k:Int)) (g7 (.sh (N4 (.inl d)))) p o7 (st rfl) (by omega) r z;have b:F4 (mS v cs L T (sI (k:Int)) (sI g) o5 o6 o7)=g7 (.nx (mS v cs L (ge T d) (sI (k:Int)) (sI g) (g7 (.sh (N4 (.inl d)))) p o7)):=n3 (S1 (j8 (i5 rfl) (i5 rfl) rfl rfl H) rfl) (U9 (A9 (j8 (j8 (i5 rfl) u0 rfl rfl rfl) u0 rfl rfl rfl)) rfl (qj (aY (j8 (i5 rfl) u0 rfl rfl rfl) rfl rfl) G));have f:D6 v g T k (.inl d::ss)=D6 v g (ge T d) ((k+1:Nat):Int) ss:=rfl;rw[f];exact⟨a,h,o,i,w,l,e.imp (λe=>⟨A7 rfl b e.1,e.2⟩) λe=>A7 rfl b e⟩
  |inr s=>
   obtain⟨n,c,hs⟩:=s;obtain⟨o,l,b⟩:=zK (v:=v) (cs:=cs) (o5:=o5) (o6:=o6) (o7:=o7) x (by omega) (gs _ List.mem_cons_self) A;have f:D6 v g T k (.inr (n,c,hs)::ss)=match(if C7 v g T (n,c,hs)=h7 then g7 (T++[(n,c)],n,c.isEmpty)else g9:Option (Tab×Int×Bool))with
    |none=>((k:Int),g8)
    |some (a,t,b)=>if b=h7 then(-1,h7)else D6 v t a ((k:Int)+1) ss:=rfl
   have st:(if C7 v g T (n,c,hs)=h7 then g7 (T++[(n,c)],n,c.isEmpty)else g9)=g7 (T++[(n,c)],n,c.isEmpty)→Ti (T++[(n,c)]) n (m+1):=λe=>st e;cases hr:C7 v g T (n,c,hs)with
   |false=>
    rw[hr]at f b;rw[f];exact⟨_,_,_,_,_,_,.inr (cB rfl b)⟩
   |true=>
    rw[hr]at f b st;cases B:c.isEmpty with
    |true=>
     rw[B]at f b;rw[f];exact⟨_,_,_,_,_,_,.inr (cB rfl b)⟩
    |false=>
     rw[B]at f b;rw[f];obtain⟨a,h,I,i,w,J,e⟩:=ih (T++[(n,c)]) n (m+1) (k+1) (sI (k:Int)) (g7 (.sh (N4 (.inr (n,c,hs))))) o6 l (st rfl) (by omega) r z;exact⟨a,h,I,i,w,J,e.imp (λe=>⟨A7 rfl b e.1,e.2⟩) λe=>A7 rfl b e⟩
theorem jo {ss:List qN}(f:cs.length≤40)(g:Ti (D3 1 cs) cs.length m)(i:m+ss.length≤60)(gs:∀s∈ss,GS s):B2 [.tup [.int v,.lst (Y0 cs)],.lst (ss.map N4)]=g7 (.ret (.val (.tup [.int (D6 v cs.length (D3 1 cs) 0 ss).1,.bl (D6 v cs.length (D3 1 cs) 0 ss).2])) []):=by
 obtain⟨k,l⟩:=zJ (v:=v) (L:=ss.map N4) f;obtain⟨q,r,t,u,w,x,a⟩:=Dk (v:=v) (cs:=cs) (L:=ss.map N4) (ss:=ss) (D3 1 cs) cs.length m 0 k g9 g9 g9 g i gs λj o h=>by rw[Z3,List.getElem?_map,h];rfl
 rw[←List.range_eq_range']at a;have b:=lO (n:=cs.length) (by omega);have c:=lO (n:=ss.length) (by omega);simp only[U3]at b c;have d:=vQ cs;have p:=vO N4 ss;rcases a with⟨a,e⟩ |a
 ·rw[show D6 v cs.length (D3 1 cs) 0 ss=(-1,g8)from e];walk_at"r"
 ·exact dn (n3 (S1 wh rfl) (n3 (dL (qg (k7 (bD (k7 (j8 (i5 rfl) u0 rfl rfl rfl) n9) rfl d) n9) rfl b) l rfl) (n3 (S1 (bD (k7 (j8 (i5 rfl) u0 rfl rfl rfl) n9) rfl d) rfl) (dJ (dL (qg (k7 (bD (k7 (i5 rfl) n9) rfl p) n9) rfl c) a rfl))))) rfl
end
noncomputable def Fg (v:Int):Int→Tab→List qN→Option (Int×Tab)
 |g,T,[]=>g7 (g,T)
 |g,T,s::r=>match cJ v g T s with
  |some (a,b,g8)=>Fg v b a r
  |_=>g9
section
variable {v g g1 g2 t:Int}{T T1 T2:Tab}{m:Nat}{s:qN}{ss pre r:List qN}{cs:List (List Int)}
theorem vV(e:cJ v g T s=g7 (a,b,g8)):Fg v g T (s::r)=Fg v b a r:=by
 show(match cJ v g T s with|some (a,b,g8)=>Fg v b a r|_=>g9)=_;rw[e]
theorem cQ (k:Int):D6 v g T k (s::r)=match cJ v g T s with
  |none=>(k,g8)
  |some (a,c,b)=>if b=h7 then(-1,h7)else D6 v c a (k+1) r:=rfl
theorem AV:∀(ss:List qN) (g:Int) (T:Tab),Fg v g T ss=g7 (g1,T1)→(∀k r,D6 v g T k (ss++r)=D6 v g1 T1 (k+ss.length) r)∧(∀m,Ti T g m→(∀s∈ss,GS s)→Ti T1 g1 (m+ss.length))∧∀s T2 g2,cJ v g1 T1 s=g7 (T2,g2,g8)→Fg v g T (ss++[s])=g7 (g2,T2)
 | [],g,T,e=>by
  cases e;exact⟨λk r=>by rw[List.length_nil,List.nil_append];congr 1;exact(wT k).symm,λm h _=>h,λs T2 g2 h=>vV h⟩
 |s::ss,g,T,e=>by
  have j:=e;have e:(match cJ v g T s with|some (a,b,g8)=>Fg v b a ss|_=>g9)=g7 (g1,T1):=e;split at e
  ·rename_i a b hs;obtain⟨c,d,f⟩:=AV ss b a e;refine⟨λk r=>?_,λm h gs=>?_,λq T2 g2 h=>?_⟩
   ·rw[List.cons_append,cQ,hs];show D6 v b a (k+1) (ss++r)=_;rw[c,List.length_cons];congr 1;omega
   ·have:=d (m+1) (h.step (gs s List.mem_cons_self) hs) λq i=>gs q (List.mem_cons_of_mem _ i);rw[List.length_cons,show m+(ss.length+1)=m+1+ss.length by omega];exact this
   ·rw[List.cons_append,vV hs];exact f q T2 g2 h
  ·cases e
noncomputable def Fl (v:Int)(cs:List (List Int))(L:List D)(g t:Int)(b:Bool)(T:Tab)(a:Option C):l9:=[sI v,g7 (.sh (.lst (Y0 cs))),g7 (.sh (.lst L)),g7 (.ob g8 (gF v g t b)),a,g7 (.ow h7 (.dct (n6 T)))]
theorem Hl(e:tg d ρ=g7 a)(f:b a=g7 (.ex x c)):forL tg b (d::ds) ρ=g7 (.ex x c):=by
 unfold forL;rw[e];dsimp only;rw[f]
theorem sV:∀(ds:List D) (t:Int) (a:Option C),∃b c,forL (C3 4) W4 ds (Fl v cs L g t h7 T a)=g7 (.nx (Fl v cs L g b h7 T c))
 | [],t,a=>⟨t,a,rfl⟩
 |d::ds,t,a=>by
  obtain⟨b,c,e⟩:=sV ds (t+1) (g7 (.sh d));exact⟨b,c,A7 rfl (fJ (S7 rfl rfl (k7 (i5 rfl) n9) rfl (jO rfl rfl rfl rfl Bg rfl))) e⟩
theorem BL:∀(ss:List qN) (g:Int) (T:Tab) (m:Nat) (t:Nat) (j:Option C),Ti T g m→m+ss.length≤60→t+ss.length≤1000→(∀s∈ss,GS s)→
  ((D6 v g T t ss).1=-1∧∃d a f c,forL (C3 4) W4 (ss.map N4) (Fl v cs L g t g8 T j)=g7 (.nx (Fl v cs L d a (D6 v g T t ss).2 f c)))∨
  (0≤(D6 v g T t ss).1∧(D6 v g T t ss).2=g8∧∃d a f c,forL (C3 4) W4 (ss.map N4) (Fl v cs L g t g8 T j)=g7 (.ex (Ik (D6 v g T t ss).1) (Fl v cs L d a g8 f c)))
 | [],g,T,m,t,j,_,_,_,_=>.inl ⟨rfl,g,t,T,j,rfl⟩
 |s::ss,g,T,m,t,j,k,o,p,gs=>by
  rw[List.length_cons]at o p;have hs:=gs s List.mem_cons_self;rw[cQ];cases e:cJ v g T s with
  |none=>exact .inr ⟨by show 0≤(t:Int);omega,rfl,g,t,T,g7 (.sh (N4 s)),Hl rfl (mh (S7 rfl rfl (k7 (i5 rfl) n9) rfl (Bo rfl rfl rfl rfl (Bf k (by omega) hs e (by omega) (by omega)) rfl)))⟩
  |some q=>
   obtain⟨f,d,b⟩:=q;have r:=Fi (t:=t) k (by omega) hs e;have st:W4 (Fl v cs L g t g8 T (g7 (.sh (N4 s))))=g7 (.nx (Fl v cs L d (t+1) b f (g7 (.sh (N4 s))))):=fJ (S7 rfl rfl (k7 (i5 rfl) n9) rfl (jO rfl rfl rfl rfl r rfl));cases b with
   |true=>
    obtain⟨a,c,u⟩:=sV (v:=v) (cs:=cs) (L:=L) (g:=d) (T:=f) (ss.map N4) ((t:Int)+1) (g7 (.sh (N4 s)));exact .inl ⟨rfl,d,a,f,c,A7 rfl st u⟩
   |false=>
    have ih:=BL (L:=L) ss d f (m+1) (t+1) (g7 (.sh (N4 s))) (k.step hs e) (by omega) (by omega) λq w=>gs q (List.mem_cons_of_mem _ w);rcases ih with⟨l,h,a,i,c,n⟩ | ⟨l,n,h,a,i,c,x⟩
    ·exact .inl ⟨l,h,a,i,c,A7 rfl st n⟩
    ·exact .inr ⟨l,n,h,a,i,c,A7 rfl st x⟩
theorem uG (i:cs.length≤40)(c:Ti (D3 1 cs) cs.length m)(d:m+ss.length≤60)(gs:∀s∈ss,GS s):dG [.int v,.lst (Y0 cs),.lst (ss.map N4)]=g7 (if(D6 v cs.length (D3 1 cs) 0 ss).1=-1 then .ret (.val (.bl (D6 v cs.length (D3 1 cs) 0 ss).2)) []else .exc (Ik (D6 v cs.length (D3 1 cs) 0 ss).1) []):=by
 show N8 jQ 6 [g8,g8,g8] _=_;rcases BL (v:=v) (cs:=cs) (L:=ss.map N4) ss cs.length (D3 1 cs) m 0 g9 c d (by omega) gs with⟨a,e,f,g,h,b⟩ | ⟨a,_,e,f,g,h,b⟩
 ·rw[show((0:Nat):Int)=0 from rfl]at a b;rw[if_pos a];have:=qd (v:=v) (cs:=cs) (by omega);walk_at"r"
 ·rw[show((0:Nat):Int)=0 from rfl]at a b;rw[if_neg (by omega)];have:=qd (v:=v) (cs:=cs) (by omega);walk_at"r"
theorem oE(h:y4 (gF v g t b) (n6 T) [N4 s]=g7 (.ret .z5 (gF v c d a) (n6 e))):Q2 (gF v g t b) (n6 T) [N4 s]=g7 (.ret (.int (-1)) (gF v c d a) (n6 e)):=by walk_at"x"
theorem yc (h:y4 (gF v g t g8) (n6 T) [N4 s]=g7 (.exc (Ik t) (gF v g t g8) (n6 T))):Q2 (gF v g t g8) (n6 T) [N4 s]=g7 (.ret (.int t) (gF v g t g8) (n6 T)):=by walk_at"x"
end
noncomputable def vq (ns:List Int)(b v:Int)(cs:List (List Int))(n:Int)(T:Tab)(a c d:Option C)(X:l9):l9:=sL ns::sI b::g7 (.sh (.tup [.int v,.lst (Y0 cs)]))::sI n::g7 (.ow g8 (.dct (n6 T)))::a::c::d::X
section
variable {ns:List Int}{b v n g:Int}{cs:List (List Int)}{T:Tab}{m:Nat}
theorem zb(d:cs.length≤40):∃a,forL (C3 5) bw ((List.range cs.length).map λk=>D.int ((k:Nat):Int)) (vq ns b v cs n [] g9 g9 g9 X)=g7 (.nx (vq ns b v cs n (D3 1 cs) a g9 g9 X)):=by
 obtain⟨_,c,a,rfl⟩:=DT (tg:=C3 5) (b:=bw) (f:=λk=>D.int ((k:Nat):Int)) (λk ρ=>∃a,ρ=vq ns b v cs n (D3 1 (cs.take k)) a g9 g9 X) cs.length (ρ:=vq ns b v cs n [] g9 g9 g9 X) (λk ρ hk ⟨a,e⟩=>by
  subst e;exact tn rfl (lZ (j8 (j8 (i5 rfl) u0 rfl rfl rfl) (i5 rfl) rfl rfl (Az (List.getElem?_eq_getElem hk))) rfl (j8 (i5 rfl) u0 rfl rfl rfl) rfl rfl (vy hk d rfl)) ⟨_,rfl⟩) ⟨g9,rfl⟩
 rw[List.take_length]at c;exact⟨a,c⟩
theorem step_drop:∀(d:List Int) (T:Tab) (a:Option C),∃c,forL (C3 10) eO (d.map D.int) (vq ns b v cs n T o5 o6 o7 (o8::o9::a::X))=g7 (.nx (vq ns b v cs n (ge T d) o5 o6 o7 (o8::o9::c::X)))
 | [],T,a=>⟨a,rfl⟩
 |k::d,T,a=>by
  obtain⟨c,e⟩:=step_drop d (T.filter λkv=>!decide (kv.1=k)) (sI k);exact⟨c,A7 rfl (ql (i5 rfl) rfl rfl rfl rfl) e⟩
theorem zc (F:0<v)(J:v≤4)(L:m≤16)(a:Ti T g m){ss:List qN}(hl:ss.length≤1000)(k:Nat)(hk:k≤5)(o8 o9 d q e i:Option C):Nx bv (vq ns b v cs n T (sI (k:Int)) (sI g) (g7 (.ow g8 (.lst (ss.map N4)))) [o8,o9,d,q,e,i]) λρ=>∃s G H N O r w y z,ρ=vq ns b v cs n G (sI (k:Int)) (sI H) (g7 (.ow g8 (.lst ((ss++[s]).map N4)))) [N,O,r,w,y,z]∧GS s∧Ti G H (m+1):=by
 have S:=qc (ns:=ns) (k:=b+9*(k:Int));generalize K6 ns (b+9*(k:Int))=x at *;have g0:=a.g0;simp only[List.map_append];refine dS (by walk_at"e") (dU (A9 (j8 (j8 (i5 rfl) u0 rfl rfl (P8 (by decide))) u0 rfl rfl (eq_int _ _))) (λ_=>?_) λ_=>?_)
 ·have U:=x6 (x / 9) (b:=3) (by omega);have Y:=x5 (x / 9) (b:=3) (by omega);have hi:=fE (n:=x / 9 % 3) (by omega) (by omega);have Z:E5 (C3 0) N1 (i3 A4 (mC (.int 1)) (i3 K3 (u5 [g8,g8] v3 (i2 (h8 1) (i2 (i3 A4 (i3 A4 (h8 2) (i3 gB (mC (.int 9)) (h8 3))) (h8 0)) k6))) (i3 A4 (h8 4) (mC (.int 2))))) [g9,sL ns,sI b,sI (k:Int),sI g] ((List.range (x / 9 % 3).toNat).map λj=>D.int (0+((j:Nat):Int)))=g7 (((List.range (x / 9 % 3).toNat).map λ(j:Nat)=>1+K6 ns (b+9*(k:Int)+(0+((j:Nat):Int))) % (g+2)).map D.int):=by
   rw[List.map_map];walk_at"c"
  have I:((List.range (x / 9 % 3).toNat).map λ(j:Nat)=>1+K6 ns (b+9*(k:Int)+(0+((j:Nat):Int))) % (g+2)).length≤1000:=by rw[List.length_map,List.length_range];omega
  generalize (List.range (x / 9 % 3).toNat).map (λ(j:Nat)=>1+K6 ns (b+9*(k:Int)+(0+((j:Nat):Int))) % (g+2))=o at *;obtain⟨r,A⟩:=step_drop (ns:=ns) (b:=b) (v:=v) (cs:=cs) (n:=n) (o5:=sI (k:Int)) (o6:=sI g) (o7:=g7 (.ow g8 (.lst (ss.map N4++[N4 (.inl o)])))) (o8:=sI x) (o9:=sT o) (X:=[q,e,i]) o T d;exact dS (by walk_at"e") (dS (by walk_at"e") (nx (dL (aY (i5 rfl) rfl rfl) A rfl) ⟨.inl o,ge T o,g,_,_,_,_,_,_,rfl,I,a.step (v:=v) (s:=.inl o) I rfl⟩))
 ·have fc:=oF (ns:=ns) (b:=b+9*(k:Int)+1) (v:=v) (most:=3) F (by omega) (by decide) (by decide);have u:=oM (ns:=ns) (b:=b+9*(k:Int)+1) (v:=v) (most:=3) F;have cl:=mB (ns:=ns) (b:=b+9*(k:Int)+1) (v:=v) (most:=3) (by decide) (by decide);generalize aZ ns (b+9*(k:Int)+1) v 3=B at *;have f1:(dZ (.val (.tup (B.map D.int)))&&([]:List D).all X1)=h7:=by rw[l8];exact⟨oD _,rfl⟩
  refine dS (m9:=vq ns b v cs n T (sI (k:Int)) (sI g) (g7 (.ow g8 (.lst (ss.map N4)))) [sI x,o9,d,sT B,e,i]) (by walk_at"e") (je (P:=λρ=>∃c,ρ=vq ns b v cs n T (sI (k:Int)) (sI g) (g7 (.ow g8 (.lst (ss.map N4)))) [sI x,o9,d,sT c,e,i]∧(∀l∈c,l≠0)∧c.length≤1000) (dU (Bn (by walk_at"e") (by walk_at"e")) (λ_=>nx (by walk_at"e") ⟨[],rfl,λ_ h=>(nomatch h),u3 _⟩) λ_=>nx M7 ⟨B,rfl,u,cl⟩) ?_)
  rintro _ ⟨c,rfl,u,cl⟩
  obtain⟨hs,fh,E⟩:=HN (ns:=ns) (b:=b+9*(k:Int)+6) (c:=c) (a.tok (by omega)) (m8 a.len L) cl;have E:lU hs 4000 60:=Y9 E (by decide) (i8 _);have fl:=V7 hs;obtain⟨p,Q⟩:∃p:Int,maxD [.int 1,.int (g+1+x / 9 % 2-(if decide (x / 18 % 12=5)=h7 then 1 else 0))]=g7 (.val (.int p)):=⟨_,rfl⟩
  have gs:GS (.inr (p,c,hs)):=⟨cl,u,E⟩
  obtain⟨f,_,_,R⟩:=qb a (by omega) gs;refine dS (by walk_at"e") (dS (m9:=vq ns b v cs n T (sI (k:Int)) (sI g) (g7 (.ow g8 (.lst (ss.map N4)))) [sI x,o9,d,sT c,oL hs,sI p]) (S1 (bD (by walk_at"e") rfl Q) rfl) (dS (by walk_at"e") ?_));have t:Ti T g (m+1):=⟨kP a.len,a.key,a.nd,a.cl,a.g0⟩
  by_cases lt:g<p
  ·refine dU (qm (A9 (j8 (i5 rfl) (i5 rfl) rfl rfl rfl)) (decide_eq_true lt) (F1 (ck (k7 (i5 rfl) (k7 (i5 rfl) (k7 (i5 rfl) n9))) rfl rfl R rfl rfl) rfl rfl)) (λ_=>nx (n3 (lZ (i5 rfl) rfl (i5 rfl) rfl rfl (pF a (by omega) lt rfl)) (S1 (i5 rfl) rfl)) ⟨.inr (p,c,hs),T++[(p,c)],p,_,_,_,_,_,_,rfl,gs,a.snoc lt cl u⟩) λ_=>nx M7 ⟨.inr (p,c,hs),T,g,_,_,_,_,_,_,rfl,gs,t⟩
  ·exact dU (qo (A9 (j8 (i5 rfl) (i5 rfl) rfl rfl rfl)) (decide_eq_false lt)) (λh=>nomatch h) λ_=>nx M7 ⟨.inr (p,c,hs),T,g,_,_,_,_,_,_,rfl,gs,t⟩
theorem yS (h:∀c∈cs,c.length≤1000∧∀l∈c,l≠0)(b:cs.length≤m):Ti (D3 1 cs) cs.length m:=⟨by rw[lC];exact b,λkv a=>by have:=eL cs 1 kv a;omega,gA cs 1,λkv a=>h _ (eL cs 1 kv a).2.2,Int.natCast_nonneg _⟩
theorem Bh (A:0<v)(p:v≤4)(B:cs.length≤8)(E:∀c∈cs,c.length≤1000∧∀l∈c,l≠0)(R:0≤n)(S:n≤5):∃ss:List qN,ss.length≤5∧(∀s∈ss,GS s)∧aV [.lst (ns.map D.int),.int b,.tup [.int v,.lst (Y0 cs)],.int n]=g7 (.ret (.own (.lst (ss.map N4))) []):=by
 obtain⟨F,G⟩:=zb (ns:=ns) (b:=b) (v:=v) (n:=n) (cs:=cs) (X:=[g9,g9,g9,g9,g9,g9]) (by omega);obtain⟨_,H,T,g,ss,r,m,o,a,d,i,j,rfl,_,sl,gs⟩:=DT (tg:=C3 5) (b:=bv) (f:=λk=>D.int ((k:Nat):Int)) (λk ρ=>∃T g ss r m o a d i j,ρ=vq ns b v cs n T r (sI g) (g7 (.ow g8 (.lst (ss.map N4)))) [m,o,a,d,i,j]∧Ti T g (8+k)∧ss.length=k∧∀s∈ss,GS s) n.toNat (ρ:=vq ns b v cs n (D3 1 cs) F (sI (cs.length:Nat)) (g7 (.ow g8 (.lst []))) [g9,g9,g9,g9,g9,g9]) (λk ρ hk ⟨T,g,ss,r,m,o,a,d,i,j,e,I,sl,gs⟩=>by
  subst e;obtain⟨_,e,s,J,L,N,O,t,u,w,x,rfl,hs,y⟩:=zc (ns:=ns) (b:=b) (cs:=cs) (n:=n) (ss:=ss) A p (by omega) I (by omega) k (by omega) m o a d i j;exact tn rfl e ⟨J,L,ss++[s],_,N,O,t,u,w,x,rfl,y,by rw[List.length_append,sl];rfl,λq z=>(List.mem_append.mp z).elim (gs q) λz=>by rw[List.mem_singleton.mp z];exact hs⟩) ⟨_,_,[],_,_,_,_,_,_,_,rfl,yS E B,rfl,λ_ h=>nomatch h⟩
 have P:=lO (n:=cs.length) (by omega);have Q:=fE (n:=n) (by omega) (by omega);simp only[U3]at P Q;unfold vq at G H;exact⟨ss,by omega,gs,by walk_at"r"⟩
end
noncomputable def Fe (ns:List Int)(v:Int)(cs:List (List Int))(d e:Option C)(g t:Int)(b:Bool)(f h:Option C)(i:Option C)(j a c:Option C)(T:Tab):l9:=[sL ns,g7 (.sh (.tup [.int v,.lst (Y0 cs)])),d,e,g7 (.ob g8 (gF v g t b)),f,h,g9,i,j,a,c,g7 (.ow h7 (.dct (n6 T)))]
section
variable {ns:List Int}{v:Int}{cs:List (List Int)}{m:Nat}
theorem vz:∀(a:List qN) (g:Int) (T:Tab) (k:Int),0≤k→(D6 v g T k a).1=-1∨0≤(D6 v g T k a).1
 | [],_,_,_,_=>.inl rfl
 |s::a,g,T,k,h=>by
  rw[cQ];split
  ·exact .inr h
  ·split
   ·exact .inl rfl
   ·exact vz a _ _ _ (by omega)
def KI (v:Int)(cs:List (List Int))(a:List qN)(g t:Int)(b:Bool)(T:Tab):Prop:=(b=g8∧Fg v cs.length (D3 1 cs) a=g7 (g,T)∧t=a.length)∨(b=h7∧∀k r,D6 v cs.length (D3 1 cs) k (a++r)=(-1,h7))
theorem lI {e f l m w x:Option C}{g t n o:Int}{b d:Bool}{T r:Tab}{c a:List qN}{s:qN}{p:Int}{u:Bool}(hl:c.length≤1000)
  (f1:B2 [.tup [.int v,.lst (Y0 cs)],.lst (c.map N4++[N4 s])]=g7 (.ret (.val (.tup [.int p,.bl u])) []))
  (y:Q2 (gF v g t b) (n6 T) [N4 s]=g7 (.ret (.int p) (gF v n o d) (n6 r)))
  (z:(p<0∧a=c++[s])∨(¬p<0∧a=c)) {q:Int}
  (A:B2 [.tup [.int v,.lst (Y0 cs)],.lst (a.map N4)]=g7 (.ret (.val (.tup [.int q,.bl d])) [])):
  iy (Fe ns v cs e f g t b l m (g7 (.ow g8 (.lst (c.map N4)))) (g7 (.sh (N4 s))) w x T)=g7 (.nx (Fe ns v cs e f n o d l m (g7 (.ow g8 (.lst (a.map N4)))) (g7 (.sh (N4 s))) (g7 (.sh (.tup [.int p,.bl u]))) (sI p) r)):=by
 have ad:A4 (.lst (c.map N4)) (.lst [N4 s])=g7 (.own (.lst (c.map N4++[N4 s]))):=x9 (bi (by rw[List.length_map,List.length_singleton];omega));have B:aU [.int p]=g7 (.ret (.val (.bl h7)) []):=rfl;have lt:Q6 (λi j=>decide (i<j)) (.int p) (.int 0)=g7 (.val (.bl (decide (p<0)))):=rfl;have E:W6 (v4 (i3 (Q6 λi j=>decide (i<j)) (h8 11) (mC (.int 0)))) (M8 (N7 8 (i2 (h8 9) k6))) Z8 (Fe ns v cs e f n o d l m (g7 (.ow g8 (.lst (c.map N4)))) (g7 (.sh (N4 s))) (g7 (.sh (.tup [.int p,.bl u]))) (sI p) r)=g7 (.nx (Fe ns v cs e f n o d l m (g7 (.ow g8 (.lst (a.map N4)))) (g7 (.sh (N4 s))) (g7 (.sh (.tup [.int p,.bl u]))) (sI p) r)):=by
  rcases z with⟨h,rfl⟩ | ⟨h,rfl⟩
  ·rw[List.map_append];exact U9 (A9 (j8 (i5 rfl) u0 rfl rfl lt)) (decide_eq_true h) (wj rfl (k7 (i5 rfl) n9) rfl rfl (bi (by rw[List.length_map];omega)) rfl)
  ·exact P1 (A9 (j8 (i5 rfl) u0 rfl rfl lt)) (decide_eq_false h) M7
 exact n3 (S1 (ck (k7 (i5 rfl) (k7 (j8 (i5 rfl) (qi (k7 (i5 rfl) n9) rfl (m6 rfl)) rfl rfl ad) n9)) rfl rfl f1 rfl rfl) rfl) (n3 (S1 (S7 rfl rfl (k7 (i5 rfl) n9) rfl (jO rfl rfl rfl rfl y rfl)) rfl) (n3 (P1 (jp (S2 (F1 (ck (k7 (i5 rfl) n9) rfl rfl B rfl rfl) rfl (k:=h7) rfl)) rfl (A9 (j8 (i5 rfl) (j8 (i5 rfl) u0 rfl rfl rfl) rfl rfl (iu p)))) rfl M7) (n3 E (P1 (jp (S2 (F1 (bD (k7 (eT rfl) (k7 u0 n9)) rfl rfl) rfl (k:=h7) rfl)) rfl (A9 (j8 (eT rfl) (j8 (ck (k7 (i5 rfl) (k7 (i5 rfl) n9)) rfl rfl A rfl rfl) u0 rfl rfl rfl) rfl rfl (Af d)))) rfl M7))))
theorem As (F:cs.length≤8)(n:Ti (D3 1 cs) cs.length 8){a:List qN}(hl:a.length≤20)(gs:∀q∈a++[s],GS q)(z:KI v cs a g t b T):∃f j x h l o p,iy (Fe ns v cs o2 o3 g t b o5 o6 (g7 (.ow g8 (.lst (a.map N4)))) (g7 (.sh (N4 s))) Iu Is T)=g7 (.nx (Fe ns v cs o2 o3 j x h o5 o6 (g7 (.ow g8 (.lst (f.map N4)))) (g7 (.sh (N4 s))) o p l))∧KI v cs f j x h l∧f.length≤a.length+1∧∀q∈f,GS q:=by
 have A:(a++[s]).length=a.length+1:=by rw[List.length_append];rfl
 have i:∀q∈a,GS q:=λq B=>gs q (List.mem_append_left _ B);have f1:=jo (v:=v) (cs:=cs) (ss:=a++[s]) (by omega) n (by omega) gs;have f0:=jo (v:=v) (cs:=cs) (ss:=a) (by omega) n (by omega) i;have c:=f1;rw[List.map_append]at c;have c:B2 [.tup [.int v,.lst (Y0 cs)],.lst (a.map N4++[N4 s])]=_:=c;rcases z with⟨rfl,go,rfl⟩ | ⟨rfl,y⟩
 ·obtain⟨u,pt,pg⟩:=AV a cs.length (D3 1 cs) go;have m:=pt 8 n i;have hs:=gs s (by simp);have w:=u 0 [];rw[List.append_nil]at w;have e:=u 0 [s];rw[cQ]at e;rw[show D6 v g T (0+(a.length:Int)) []=(-1,g8)from rfl]at w;cases d:cJ v g T s with
  |none=>
   rw[d]at e;have e:D6 v cs.length (D3 1 cs) 0 (a++[s])=(0+(a.length:Int),g8):=e;rw[e,U3]at c;rw[w]at f0;exact⟨a,g,_,g8,T,_,_,lI (by omega) c (yc (Bf m (by omega) hs d (by omega) (by omega))) (.inr ⟨by show¬(a.length:Int)<0;omega,rfl⟩) f0,.inl ⟨rfl,go,rfl⟩,bd _,i⟩
  |some q=>
   obtain⟨l,j,h⟩:=q;rw[d]at e;have e:D6 v cs.length (D3 1 cs) 0 (a++[s])=if h=h7 then(-1,h7)else(-1,g8):=e
   have E:D6 v cs.length (D3 1 cs) 0 (a++[s])=(-1,h):=by rw[e];cases h<;>rfl
   rw[E]at f1 c;refine⟨a++[s],j,_,h,l,_,_,lI (by omega) c (oE (Fi m (by omega) hs d)) (.inl ⟨by show(-1:Int)<0;decide,rfl⟩) f1,?_,by omega,gs⟩;cases h with
   |false=>exact .inl ⟨rfl,pg s l j d,by rw[A];rfl⟩
   |true=>exact .inr ⟨rfl,λk r=>by rw[List.append_assoc,u,List.singleton_append,cQ,d];rfl⟩
 ·have e:=y 0 [s];rw[e]at f1 c;exact⟨a++[s],g,_,h7,T,_,_,lI (by omega) c (oE Bg) (.inl ⟨by decide,rfl⟩) f1,.inr ⟨rfl,λk r=>by rw[List.append_assoc];exact y k _⟩,by omega,gs⟩
end
theorem At:∀ns:List Int,ns.length≤63→N8 wu 13 [g8] [.lst (ns.map D.int)]=g7 (.ret (.val (.bl h7)) []):=by
 intro ns _;have G:=uF (ns:=ns) (b:=0);have E:=uD ns 0;have d:=Ba ns 0;have o:∀c∈(M6 ns 0).2,c.length≤1000∧∀l∈c,l≠0:=λc h=>DR h;generalize M6 ns 0=F at *;obtain⟨v,cs⟩:=F;simp only[]at G E d o;have H:=x6 (K6 ns 48) (b:=6) (by omega);have Y:=x5 (K6 ns 48) (b:=6) (by omega);obtain⟨ss,sl,gs,fs⟩:=Bh (ns:=ns) (b:=50) (v:=v) (cs:=cs) (n:=K6 ns 48 % 6) E.1 (by omega) d o H (by omega);have r:Ti (D3 1 cs) cs.length 8:=yS o d;have fp:=jo (v:=v) (cs:=cs) (ss:=ss) (by omega) r (by omega) gs;have u:=uG (v:=v) (cs:=cs) (ss:=ss) (by omega) r (by omega) gs;have lo:=vz (v:=v) ss cs.length (D3 1 cs) 0 (yJ _);have Z:=qd (v:=v) (cs:=cs) (by omega);generalize D6 v cs.length (D3 1 cs) 0 ss=P at *;obtain⟨p,q⟩:=P;simp only[]at fp u lo;obtain⟨_,m,a,g,t,b,T,w,Iu,Is,rfl,_⟩:=DS (tg:=C3 9) (b:=iy) (f:=N4) (λpre ρ=>∃a g t b T w Iu Is,ρ=Fe ns v cs (g7 (.sh (.lst (ss.map N4)))) (g7 (.sh (.tup [.int p,.bl q]))) g t b (sI p) (g7 (.sh (if p=-1 then .bl q else .z5))) (g7 (.ow g8 (.lst (a.map N4)))) w Iu Is T∧KI v cs a g t b T∧a.length≤pre.length∧∀s∈a,GS s) ss (ρ:=Fe ns v cs (g7 (.sh (.lst (ss.map N4)))) (g7 (.sh (.tup [.int p,.bl q]))) cs.length 0 g8 (sI p) (g7 (.sh (if p=-1 then .bl q else .z5))) (g7 (.ow g8 (.lst []))) g9 g9 g9 (D3 1 cs)) (λpre s post ρ e ⟨a,g,t,b,T,w,Iu,Is,I,J,gl,gg⟩=>by
  subst I;have L:=congrArg List.length e;rw[List.length_append,List.length_cons]at L;obtain⟨y,N,O,Q,R,S,U,h,z,X,A⟩:=As (ns:=ns) (v:=v) (cs:=cs) (o2:=g7 (.sh (.lst (ss.map N4)))) (o3:=g7 (.sh (.tup [.int p,.bl q]))) (o5:=sI p) (o6:=g7 (.sh (if p=-1 then .bl q else .z5))) (Iu:=Iu) (Is:=Is) (s:=s) d r (by omega) (λx hx=>(List.mem_append.mp hx).elim (gg x) λhx=>by rw[List.mem_singleton.mp hx];exact gs s (by rw[e];simp)) J;exact tn rfl h ⟨y,N,O,Q,R,_,_,_,rfl,z,by rw[List.length_append,List.length_singleton];omega,A⟩) ⟨[],_,_,_,_,_,_,_,rfl,.inl ⟨rfl,rfl,rfl⟩,u3 _,λ_ h=>nomatch h⟩
 by_cases B:p=-1
 ·subst B;rw[if_pos rfl]at u m;exact dn (n3 (by walk_at"e") (n3 (by walk_at"e") (n3 (by walk_at"e") (n3 (by walk_at"e") (n3 (by walk_at"e") (n3 (by walk_at"e") (n3 (wg (by walk_at"e")) (n3 (P1 (A9 (j8 (i5 rfl) (j8 (i5 rfl) u0 rfl rfl rfl) rfl rfl (iu _))) rfl M7) (n3 (P1 (qm (A9 (j8 (j8 (i5 rfl) u0 rfl rfl rfl) u0 rfl rfl rfl)) rfl (jp (S2 (F1 (bD (k7 (i5 rfl) (k7 u0 n9)) rfl rfl) rfl (k:=h7) rfl)) rfl (A9 (j8 (i5 rfl) (j8 (i5 rfl) u0 rfl rfl rfl) rfl rfl (Af q))))) rfl M7) (n3 (by walk_at"e") (n3 (dL (aY (i5 rfl) rfl rfl) m rfl) (ay u0 rfl)))))))))))) rfl
 ·rw[if_neg B]at u m;have lt:Q6 (λi j=>decide (i<j)) (.int p) (.int 0)=g7 (.val (.bl g8)):=by
   show g7 (W.val (.bl (decide (p<0))))=_;rw[decide_eq_false (by have:=lo.resolve_left B;omega)]
  exact dn (n3 (by walk_at"e") (n3 (by walk_at"e") (n3 (by walk_at"e") (n3 (by walk_at"e") (n3 (by walk_at"e") (n3 (by walk_at"e") (n3 (wf (by walk_at"e") rfl we rfl) (n3 (P1 (A9 (j8 (i5 rfl) (j8 (i5 rfl) u0 rfl rfl rfl) rfl rfl (iu _))) rfl M7) (n3 (P1 (qo (A9 (j8 (j8 (i5 rfl) u0 rfl rfl rfl) u0 rfl rfl lt)) rfl) rfl M7) (n3 (by walk_at"e") (n3 (dL (aY (i5 rfl) rfl rfl) m rfl) (ay u0 rfl)))))))))))) rfl
end K13
namespace L2
theorem Il {α:Type}{P:List α→Prop}(h:∀a,P [a]):∀us:List α,us.length=1→P us
 | [a],_=>h a
theorem BX {α:Type}{P:List α→Prop}(h:∀a b,P [a,b]):∀us:List α,us.length=2→P us
 | [a,b],_=>h a b
theorem HM {α:Type}{P:List α→Prop}(h:∀a b c,P [a,b,c]):∀us:List α,us.length=3→P us
 | [a,b,c],_=>h a b c
theorem HL {α:Type}{P:List α→Prop}(h:∀a b c d,P [a,b,c,d]):∀us:List α,us.length=4→P us
 | [a,b,c,d],_=>h a b c d
theorem NE {α:Type}{P:List α→Prop}(h:∀a b c d e,P [a,b,c,d,e]):∀us:List α,us.length=5→P us
 | [a,b,c,d,e],_=>h a b c d e
end L2
open PySem PySem.W PyProof.Rows
namespace K13
noncomputable abbrev rw:=PySem.Challenge.rw_clausekeep_k13_steps_taken
noncomputable def ds:List Op.Fn:=[Op.fn "_law_cell" dk,Op.fn "_law_mix" fu,Op.fn "_law_whole" bU,Op.fn "_law_clause" aL,Op.fn "_law_formula" Y3,Op.fn "truths_of" bS,Op.fn "opened" ie,Op.fn "has_both" dm,Op.fn "take_hint" bT,Op.fn "groups_in" bZ,Op.fn "last_ends" bY,Op.fn "group_holds" Y6,Op.fn "groups_hold" Y5,Op.fn "follows" fv,Op.fn "_law_open" dj,Op.fn "_law_hints" bW,Op.fn "_law_walk" di,Op.fn "_law_group" bX,Op.fn "_law_follows" Y4,Op.fn "_law_any_hints" T5,Op.fn "_law_steps" bV,Op.fn "_law_played" aK,Op.fn "numbered" dh,Op.fn "checked" cM,Op.fn "_law_taken" Z6,Op.fn "law" nZ,Op.mt "NotRight" "__init__" "NotRight.__init__" R9,Op.mt "Keeper" "__init__" "Keeper.__init__" F6,Op.mt "Keeper" "is_right" "Keeper.is_right" F5,Op.mt "Keeper" "add_clause" "Keeper.add_clause" D0,Op.mt "Keeper" "drop_clauses" "Keeper.drop_clauses" A6,Op.mt "Keeper" "take" "Keeper.take" S5]
noncomputable def ok (K:Frag):Bool:=Op.MU K ["len","isinstance","int","bool","range","tuple","dict","abs","list","sorted","all","any","max","enumerate","ValueError"]&&Op.isStr "ends" (nsIn K k8 "ENDS")&&Op.isStr "goes on" (nsIn K k8 "GOES_ON")&&Op.isStr "wrong" (nsIn K k8 "WRONG")&&(Op.clsAt K "Keeper").any (Op.isObj K ["variables","table","greatest","taken","refuted"])&&Op.Bp K "ClauseError" "NotRight" "place"
theorem w1:PySem.W.Fast.tw9446332074065402090 rw=h7:=by kernel_rfl
theorem run:∀w,(λos=>(Op.go rw.prog w 2300 (Op.s0 w os) (OH rw.prog)).map λs=>((staticsOk (Q9 rw.prog.main.body) (E8 w.params) s.abs.heap&&wO rw.prog s.abs.heap&&FE s.abs&&FC (E8 w.params) s.abs.heap),No (view rw.prog [39]) rw.prog.boundNames (Q9 rw.prog.main.body) (λs=>xlAt (view rw.prog [39]) [] s&&recOk [] s) h7 s.abs,(Op.hook ds ok).obs s.abs))=λ_=>g7 (h7,Np (view rw.prog [39]) rw.prog.boundNames,(Op.hook ds ok).val w):=λw=>by kernel_rfl
theorem ya:PySem.Challenge.rw_clausekeep_k13_steps_taken.Holds:=by
 refine Op.holds (i:=39) (n:=2300) (k:=11) (ds:=ds) (ok:=ok) (x:="_law_script") (st:=nZ) w1 (by kernel_rfl) (λs=>by kernel_rfl) (by decide) run (by kernel_rfl) (by kernel_rfl) (by kernel_rfl) (by decide +kernel) ⟨rfl,rfl,rfl,rfl,rfl,by decide +kernel⟩ ⟨[.list []],by decide +kernel,by decide +kernel⟩ rfl (by kernel_rfl) ⟨rfl,by decide,by decide⟩ ?_;intro w mg fa h K j hd hk G g0;obtain⟨hk,k5⟩:=Op.mI hk;obtain⟨hk,k4⟩:=Op.mI hk;obtain⟨hk,k3⟩:=Op.mI hk;obtain⟨hk,k2⟩:=Op.mI hk;obtain⟨hk,k1⟩:=Op.mI hk;have l:mg "len"=g9:=Op.br j G hk 0 rfl;have m:mg "isinstance"=g9:=Op.br j G hk 1 rfl;have f3:mg "int"=g9:=Op.br j G hk 2 rfl;have e8:mg "bool"=g9:=Op.br j G hk 3 rfl;have o:mg "range"=g9:=Op.br j G hk 4 rfl;have d2:mg "tuple"=g9:=Op.br j G hk 5 rfl;have b1:mg "dict"=g9:=Op.br j G hk 6 rfl;have Q:mg "abs"=g9:=Op.br j G hk 7 rfl;have N:mg "list"=g9:=Op.br j G hk 8 rfl;have B:mg "sorted"=g9:=Op.br j G hk 9 rfl;have e1:mg "all"=g9:=Op.br j G hk 10 rfl;have e2:mg "any"=g9:=Op.br j G hk 11 rfl;have f8:mg "max"=g9:=Op.br j G hk 12 rfl;have b2:mg "enumerate"=g9:=Op.br j G hk 13 rfl;have a6:mg "ValueError"=g9:=Op.br j G hk 14 rfl;have b3:=Op.uP j G k1;have H:=Op.uP j G k2;have f4:=Op.uP j G k3;obtain⟨p,d,b0,a,e9,f0⟩:=Op.GN j G k4;have d3:L2.Def K mg "_law_cell" dk ["_law_script","_law_k"]:=Op.B6 j G (hd _ (List.mem_of_getElem? (i:=0) rfl)) (λ_ _ _ _ _ _=>L2.BX (λ_ _=>rfl));have e3:L2.Def K mg "_law_mix" fu ["_law_script","_law_k"]:=Op.B6 j G (hd _ (List.mem_of_getElem? (i:=1) rfl)) (λ_ _ _ _ _ _=>L2.BX (λ_ _=>rfl));have b4:L2.Def K mg "_law_whole" bU ["_law_found"]:=Op.B6 j G (hd _ (List.mem_of_getElem? (i:=2) rfl)) (λ_ _ _ _ _ _=>L2.Il (λ_=>rfl));have a7:L2.Def K mg "_law_clause" aL ["_law_script","_law_base","_law_variables","_law_most"]:=Op.B6 j G (hd _ (List.mem_of_getElem? (i:=3) rfl)) (λ_ _ _ _ _ _=>L2.HL (λ_ _ _ _=>rfl));have X:L2.Def K mg "_law_formula" Y3 ["_law_script","_law_base"]:=Op.B6 j G (hd _ (List.mem_of_getElem? (i:=4) rfl)) (λ_ _ _ _ _ _=>L2.BX (λ_ _=>rfl));have b5:L2.Def K mg "truths_of" bS ["literals"]:=Op.B6 j G (hd _ (List.mem_of_getElem? (i:=5) rfl)) (λ_ _ _ _ _ _=>L2.Il (λ_=>rfl));have f1:L2.Def K mg "opened" ie ["truths","clause"]:=Op.B6 j G (hd _ (List.mem_of_getElem? (i:=6) rfl)) (λ_ _ _ _ _ _=>L2.BX (λ_ _=>rfl));have d4:L2.Def K mg "has_both" dm ["clause"]:=Op.B6 j G (hd _ (List.mem_of_getElem? (i:=7) rfl)) (λ_ _ _ _ _ _=>L2.Il (λ_=>rfl));have b6:L2.Def K mg "take_hint" bT ["table","truths","hint"]:=Op.B6 j G (hd _ (List.mem_of_getElem? (i:=8) rfl)) (λ_ _ _ _ _ _=>L2.HM (λ_ _ _=>rfl));have b7:L2.Def K mg "groups_in" bZ ["hints"]:=Op.B6 j G (hd _ (List.mem_of_getElem? (i:=9) rfl)) (λ_ _ _ _ _ _=>L2.Il (λ_=>rfl));have b8:L2.Def K mg "last_ends" bY ["table","truths","hints"]:=Op.B6 j G (hd _ (List.mem_of_getElem? (i:=10) rfl)) (λ_ _ _ _ _ _=>L2.HM (λ_ _ _=>rfl));have Y:L2.Def K mg "group_holds" Y6 ["table","truths","first","group"]:=Op.B6 j G (hd _ (List.mem_of_getElem? (i:=11) rfl)) (λ_ _ _ _ _ _=>L2.HL (λ_ _ _ _=>rfl));have Z:L2.Def K mg "groups_hold" Y5 ["table","truths","first","hints"]:=Op.B6 j G (hd _ (List.mem_of_getElem? (i:=12) rfl)) (λ_ _ _ _ _ _=>L2.HL (λ_ _ _ _=>rfl));have e4:L2.Def K mg "follows" fv ["table","clause","hints"]:=Op.B6 j G (hd _ (List.mem_of_getElem? (i:=13) rfl)) (λ_ _ _ _ _ _=>L2.HM (λ_ _ _=>rfl));have d5:L2.Def K mg "_law_open" dj ["_law_true_ones","_law_clause_here"]:=Op.B6 j G (hd _ (List.mem_of_getElem? (i:=14) rfl)) (λ_ _ _ _ _ _=>L2.BX (λ_ _=>rfl));have b9:L2.Def K mg "_law_hints" bW ["_law_table_here","_law_literals"]:=Op.B6 j G (hd _ (List.mem_of_getElem? (i:=15) rfl)) (λ_ _ _ _ _ _=>L2.BX (λ_ _=>rfl));have d6:L2.Def K mg "_law_walk" di ["_law_table_here","_law_true_ones","_law_hints_here"]:=Op.B6 j G (hd _ (List.mem_of_getElem? (i:=16) rfl)) (λ_ _ _ _ _ _=>L2.HM (λ_ _ _=>rfl));have c0:L2.Def K mg "_law_group" bX ["_law_table_here","_law_true_ones","_law_first","_law_number","_law_hints_here"]:=Op.B6 j G (hd _ (List.mem_of_getElem? (i:=17) rfl)) (λ_ _ _ _ _ _=>L2.NE (λ_ _ _ _ _=>rfl));have a0:L2.Def K mg "_law_follows" Y4 ["_law_table_here","_law_clause_here","_law_hints_here"]:=Op.B6 j G (hd _ (List.mem_of_getElem? (i:=18) rfl)) (λ_ _ _ _ _ _=>L2.HM (λ_ _ _=>rfl));have R:L2.Def K mg "_law_any_hints" T5 ["_law_script","_law_base","_law_table_here","_law_clause_here"]:=Op.B6 j G (hd _ (List.mem_of_getElem? (i:=19) rfl)) (λ_ _ _ _ _ _=>L2.HL (λ_ _ _ _=>rfl));have c1:L2.Def K mg "_law_steps" bV ["_law_script","_law_base","_law_formula_here","_law_many"]:=Op.B6 j G (hd _ (List.mem_of_getElem? (i:=20) rfl)) (λ_ _ _ _ _ _=>L2.HL (λ_ _ _ _=>rfl));have a8:L2.Def K mg "_law_played" aK ["_law_formula_here","_law_steps_here"]:=Op.B6 j G (hd _ (List.mem_of_getElem? (i:=21) rfl)) (λ_ _ _ _ _ _=>L2.BX (λ_ _=>rfl));have d7:L2.Def K mg "numbered" dh ["clauses"]:=Op.B6 j G (hd _ (List.mem_of_getElem? (i:=22) rfl)) (λ_ _ _ _ _ _=>L2.Il (λ_=>rfl));have e5:L2.Def K mg "checked" cM ["variables","clauses","steps"]:=Op.B6 j G (hd _ (List.mem_of_getElem? (i:=23) rfl)) (λ_ _ _ _ _ _=>L2.HM (λ_ _ _=>rfl));have c2:L2.Def K mg "_law_taken" Z6 ["_law_keeper","_law_step"]:=Op.B6 j G (hd _ (List.mem_of_getElem? (i:=24) rfl)) (λ_ _ _ _ _ _=>L2.BX (λ_ _=>rfl));have f9:L2.Def K mg "law" nZ ["_law_script"]:=Op.B6 j G (hd _ (List.mem_of_getElem? (i:=25) rfl)) (λ_ _ _ _ _ _=>L2.Il (λ_=>rfl));obtain⟨f5,f7,f6,t,c,a1,b,c3⟩:=Op.Hu (ln:="place") j G k5 (hd _ (List.mem_of_getElem? (i:=26) rfl)) (λ_ _ _ _ _ _=>L2.BX (λ_ _=>rfl));have I:L3.mM K p "__init__" "Keeper.__init__" F6 ["self","variables","clauses"]:=Op.lD d (hd _ (List.mem_of_getElem? (i:=27) rfl)) (λ_ _ _ _ _ _=>L2.HM (λ_ _ _=>rfl));have J:L3.mM K p "is_right" "Keeper.is_right" F5 ["self","number","clause","hints"]:=Op.lD d (hd _ (List.mem_of_getElem? (i:=28) rfl)) (λ_ _ _ _ _ _=>L2.HL (λ_ _ _ _=>rfl));have u:L3.mM K p "add_clause" "Keeper.add_clause" D0 ["self","number","clause","hints"]:=Op.lD d (hd _ (List.mem_of_getElem? (i:=29) rfl)) (λ_ _ _ _ _ _=>L2.HL (λ_ _ _ _=>rfl));have q:L3.mM K p "drop_clauses" "Keeper.drop_clauses" A6 ["self","numbers"]:=Op.lD d (hd _ (List.mem_of_getElem? (i:=30) rfl)) (λ_ _ _ _ _ _=>L2.BX (λ_ _=>rfl));have a2:L3.mM K p "take" "Keeper.take" S5 ["self","step"]:=Op.lD d (hd _ (List.mem_of_getElem? (i:=31) rfl)) (λ_ _ _ _ _ _=>L2.BX (λ_ _=>rfl));have d8:=λbase=>d3.has (P:=PySem.Challenge.rw_clausekeep_k13_steps_taken.prog) (w:=w) (base:=base) λf fd F=>K13.pz F l;have e:=λbase=>e3.has (P:=PySem.Challenge.rw_clausekeep_k13_steps_taken.prog) (w:=w) (base:=base) λf fd F=>K13.rq F (d8 base);have c4:=λbase=>b4.has (P:=PySem.Challenge.rw_clausekeep_k13_steps_taken.prog) (w:=w) (base:=base) λf fd F=>K13.ng F m f3 e8;have E:=λbase=>a7.has (P:=PySem.Challenge.rw_clausekeep_k13_steps_taken.prog) (w:=w) (base:=base) λf fd F=>K13.lq F o d2 (e base);have a3:=λbase=>X.has (P:=PySem.Challenge.rw_clausekeep_k13_steps_taken.prog) (w:=w) (base:=base) λf fd F=>K13.kc F o (e base) (E base);have c5:=λbase=>b5.has (P:=PySem.Challenge.rw_clausekeep_k13_steps_taken.prog) (w:=w) (base:=base) λf fd F=>K13.mZ F b1 Q;have f2:=λbase=>f1.has (P:=PySem.Challenge.rw_clausekeep_k13_steps_taken.prog) (w:=w) (base:=base) λf fd F=>K13.tP F Q N;have d9:=λbase=>d4.has (P:=PySem.Challenge.rw_clausekeep_k13_steps_taken.prog) (w:=w) (base:=base) λf fd F=>K13.pA F ;have O:=λbase=>b6.has (P:=PySem.Challenge.rw_clausekeep_k13_steps_taken.prog) (w:=w) (base:=base) λf fd F=>K13.nc F l Q f4 b3 H (f2 base);have c6:=λbase=>b7.has (P:=PySem.Challenge.rw_clausekeep_k13_steps_taken.prog) (w:=w) (base:=base) λf fd F=>K13.nu F ;have c7:=λbase=>b8.has (P:=PySem.Challenge.rw_clausekeep_k13_steps_taken.prog) (w:=w) (base:=base) λf fd F=>K13.nr F H b3 (O base);have a4:=λbase=>Y.has (P:=PySem.Challenge.rw_clausekeep_k13_steps_taken.prog) (w:=w) (base:=base) λf fd F=>K13.kf F b1 Q (c7 base);have a5:=λbase=>Z.has (P:=PySem.Challenge.rw_clausekeep_k13_steps_taken.prog) (w:=w) (base:=base) λf fd F=>L3.KY ((K13.ke F B e1 (c6 base) (a4 base)).imp (L3.uY.imp K13.jd)) rfl rfl K13.ku;have e6:=λbase=>e4.has (P:=PySem.Challenge.rw_clausekeep_k13_steps_taken.prog) (w:=w) (base:=base) λf fd F=>K13.rs F l H b3 (d9 base) (c5 base) (O base) (a5 base);have T:=λbase=>d5.has (P:=PySem.Challenge.rw_clausekeep_k13_steps_taken.prog) (w:=w) (base:=base) λf fd F=>K13.pw F ;have c8:=λbase=>b9.has (P:=PySem.Challenge.rw_clausekeep_k13_steps_taken.prog) (w:=w) (base:=base) λf fd F=>K13.nk F N o B l (T base);have U:=λbase=>d6.has (P:=PySem.Challenge.rw_clausekeep_k13_steps_taken.prog) (w:=w) (base:=base) λf fd F=>K13.pv F l (T base);have c9:=λbase=>c0.has (P:=PySem.Challenge.rw_clausekeep_k13_steps_taken.prog) (w:=w) (base:=base) λf fd F=>K13.nq F N l (U base);have v:=λbase=>a0.has (P:=PySem.Challenge.rw_clausekeep_k13_steps_taken.prog) (w:=w) (base:=base) λf fd F=>K13.kd F e2 B e1 (U base) (c9 base);have S:=λbase=>R.has (P:=PySem.Challenge.rw_clausekeep_k13_steps_taken.prog) (w:=w) (base:=base) λf fd F=>K13.ig F o l B e2 (e base) (c8 base);have d0:=λbase=>c1.has (P:=PySem.Challenge.rw_clausekeep_k13_steps_taken.prog) (w:=w) (base:=base) λf fd F=>K13.ni F o l d2 f8 f3 (e base) (E base) (S base) (v base);have a9:=λbase=>a8.has (P:=PySem.Challenge.rw_clausekeep_k13_steps_taken.prog) (w:=w) (base:=base) λf fd F=>K13.lp F o l e1 Q N (v base);have e0:=λbase=>d7.has (P:=PySem.Challenge.rw_clausekeep_k13_steps_taken.prog) (w:=w) (base:=base) λf fd F=>K13.pu F b1 b2;have y:=λbase=>c3.has (P:=PySem.Challenge.rw_clausekeep_k13_steps_taken.prog) (w:=w) (mg:=mg) (base:=base) λfd F=>K13.eh F c a1;have g:=λbase=>I.LI (P:=PySem.Challenge.rw_clausekeep_k13_steps_taken.prog) (w:=w) (mg:=mg) (base:=base) e9 f0 λf fd F=>K13.fN F l a (e0 base);have L:=λbase=>J.DI (P:=PySem.Challenge.rw_clausekeep_k13_steps_taken.prog) (w:=w) (mg:=mg) (base:=base) λf fd F=>K13.fM F e2 Q a (e6 base);have z:=λbase=>u.DI (P:=PySem.Challenge.rw_clausekeep_k13_steps_taken.prog) (w:=w) (mg:=mg) (base:=base) λf fd F=>K13.el F c (y base) a (L base);have r:=λbase=>q.DI (P:=PySem.Challenge.rw_clausekeep_k13_steps_taken.prog) (w:=w) (mg:=mg) (base:=base) λf fd F=>K13.cO F a;have A:=λbase=>a2.DI (P:=PySem.Challenge.rw_clausekeep_k13_steps_taken.prog) (w:=w) (mg:=mg) (base:=base) λf fd F=>K13.kg F a (r base) (z base);have e7:=λbase=>L3.ww (P:=PySem.Challenge.rw_clausekeep_k13_steps_taken.prog) (w:=w) (base:=base) e5 λf fd F=>K13.rA F a b0 (g base) (A base);have d1:=λbase=>L3.ww (P:=PySem.Challenge.rw_clausekeep_k13_steps_taken.prog) (w:=w) (base:=base) c2 λf fd F=>K13.nh F m a6 t c b a (A base);exact L2.GT f9 g0 (λf fd F base _ _=>(K13.CY F N m e8 t c b a b0 (a3 base) (d0 base) (e base) (a9 base) (g base) (e7 base) (d1 base) (c4 base)).imp (L3.Dz K13.At))
end K13
theorem PySem.Challenge.cw_clausekeep_k13_steps_taken_holds : PySem.Challenge.rw_clausekeep_k13_steps_taken.Holds := by
 exact K13.ya
#print axioms PySem.Challenge.cw_clausekeep_k13_steps_taken_holds
