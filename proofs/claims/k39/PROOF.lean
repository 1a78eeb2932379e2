import PyProof.Rows.All
import Wide.All
import OpenK.AllK
import Wide.FinOn
import Lean
import PyProof.EqAt
import PyProof.EqKinds
import PyProof.TupleCall
import PyProof.NeData
import PyProof.P3In
import PyProof.SliceStr2
import PyProof.StrLaws
import PyProof.WalksEnum
import PyProof.EnumMake
import PyProof.ListRange
import PyProof.Rows.StrInSeq3
import PyProof.Rows.SortWalk
import PyProof.Rows.SortStr
import PyProof.ConsumeWalk
import KE.KSortTup
import PyProof.Rows.SetFrom
import PyProof.CollectWalk
import PyProof.AutoListH
import PyProof.DictCompW
import PyProof.DictWalks
import PyProof.Rows.StrNews
import PyProof.Rows.StrWeight2
import PyProof.StrLawsChain
import PyProof.TupleIter
import PyProof.WalksMore
import KE.KDictList
import PyProof.Rows.StrRules
import PyProof.StrLawsRepr
import PySem.Challenge.RW_stephall_k39_whole_ends_of_talks
set_option genSizeOf false
set_option bootstrap.genMatcherCode false
set_option compiler.extract_closed false
noncomputable section
local macro_rules | `(tactic| omega)=>`(tactic| first | lia | omega +splitNatSub)
open PySem renaming Shared->S0,wpAny->S4,wpAny_bind->S5,World->S6,Expr->S7,model->S8,Program->Ta,sizeLine_eq->Tc,wpAny_pure->Te,eval->Tf,starEach->Tj,FuncData->Tn,Around->Tt,mainGlobals->TB,backTo->TZ,compareOp->Ub,bootBuiltins->Uo,codeAny->Uy,sysModules->UJ,holding->UN,step->UO,standAt->UW,binaryOp->UY,wpAny_field->U0,hashStr->U3,wpAny_mono->U4,wpAny_holding->U5,pyNext->U6,IsEnum->U8,assign->Vb,relabel->Ve,backToKw->Vk,keywordEach->Vl,mem_of_lookup->Vn,Builtin->Vo,SetTable->Vp,wpAny_standAt->Vr,foldedSetIterable->Vs,getMethod->Vu,Model->VB,assignEach->VC,getItem->VD,NameKind->VJ,bindL->VL,bindC->VM,IsPart->VN,wpAny_newObj_type->VO,atKey->VU,relayAll->VW,field->V1,wpAny_truthy_bool->V5,swapsWith->V6,wpAny_passesOwn->V7,letOwnedTupleGo->V8,rawInt->V9,Result->Wb,BindsTo->Wd,callWith->We,Keyword->Wf,wpAny_call_entry->Wg,sliceBounds->Wi,callerA->Wl,valueAt->Wo,tupleKind->Wv,codeAny_mono->Wx,call_meets->WC,compPost->WH,layNew->WJ,wpAny_rule->WK,GenState->WO,isTrue->WQ,Operator->WR,pyIter->WS,attributeBase->WV,wpAny_callSpecial?_slot->W0,Params->W3,DictEntry->W6,codeAny_builtin->W7,sliceRange->W8,intText?->Xa,wpAny_setField_rec->Xd,wpAny_execs_nil->Xk,setItem->Xl,behindInMarks->Xm,wpAny_Call_Name_kw->Xp,seqIndex?->Xs,seqIndex_of->Xt,subscripted->Xu,typeIs_str->Xv,compTurn->XA,compEnvC->XB,comprehension->XC,wpAny_pyIter_enum->XD,IsEnumOut->XQ,Within->X7,builtinsNs->Ya,wpAny_Name->Yd,PassesOwn->Ye,wpAny_pyIter_list->Yf,wpAny_pyIter_tuple->Yg,wpAny_call->Yp,cellsFrom->Yr,seqIndex_neg->Yz,typeIs_int->YC,call->YJ,codeAny_call_builtin->YM,checkBuiltinCall->YN,reprText->YO,codeAny_loop->YQ,wpAny_noted->YR,firstIterPos->YS,wpAny_comprehension_free->YT,wpAny_newFunctionEnv->YU,setAddHashedIn->Y3,codeAny_of_tree->Y6,wpAny_askSetting->Y7,sizeLine->Zm,wpAny_eqBool_int->Zo,wpAny_execs_cons->Zu,wpAny_assign_Name->Zv,wpAny_loadPart->Zy,slot_list_getitem->ZJ,fitsIndex_both->ZN,wpAny_loadPart_at->ZT,wpAny_formatField_str->ZZ,wpAny_letOwnedTupleGo_enum->Z0,tupleKind_room_in1->Z7,wpAny_newTuple->tu,wpAny_storeSet_of->tJ,wpAny_seqItems->tQ,wpAny_setField->tR,firstArgMember->tT
open PySem.W renaming Frag->S3,findIn->Tx,nsIn->TN,mg_of->Ui,keepIn->Ux,fnOf->UQ,excIn->UR,mg_none_of->U2,kia_one->U7,plainGet->Vt,emptyDict->Vv,codeIn->Vw,instObj->VA,hasDictIn->VG,isFn->VH,makesIn->VI,plainOver->Wa,hideAll_get->WN,kitOne->WW,callWith_K->WY,methodCall_KW->WZ,hideAll->Xh,lookIn->Xn,specialIn->Xo,methodObj->X8,plainGet_of->Yj,takerIn->Yk,typeIn->Yl,OpenLaw->YK,nsOkIn->YL,of_hideAll->Zs,handedIn->Zx,kitx_list->Zz,kitx_dict->ZA,callWith_K0->ZD,cellsFrom_some->ZE,tail_of_in->ZP,kitAny->ZY,readsIn->sV,findCls->sW
open PySem.Str renaming ofString->S9,empty->Ua,length->Wh
open List renaming length_map->Tb,length_set->Td,replicate->Th,getElem?_set_ne->To,getElem?_map->Tp,mem_cons->Tq,mem_map->Tr,mem_of_getElem?->Tz,getElem?_eq_getElem->TC,getElem?_eq_some_iff->TH,map_map->TL,append_assoc->TM,map_append->TQ,size_toArray->TR,nodup_cons->TV,mem_singleton->TX,mem_cons_of_mem->T1,mem_append_right->T3,getElem?_set_self->T6,mem_cons_self->T9,getD->Uc,not_mem_nil->Ue,set_cons_succ->Ug,set_cons_zero->Uh,length_append->Ul,range->Ur,mem_range->Us,mem_append->Ut,length_replicate->Uu,map_cons->Uz,length_cons->UG,length_singleton->UH,set_set->UI,map_set->UU,length_take->UZ,getElem_of_mem->U1,length_range->Vd,find?_cons->Vf,take_add_one->Vg,take_length->Vh,map->Vy,replicate_succ->VP,map_congr_left->VQ,lookup_cons->VS,cons_append->VT,nodup_append->VX,nodup_nil->VY,map_id->V2,lookup->Wc,getElem_mem->Wq,mem_append_left->Ww,length->Wz,flatten_cons->WB,all_eq_true->WI,append_nil->WX,any_cons->W2,map_nil->W5,map_replicate->W9,mem_filter->Xi,getElem_inj->Xj,lt_trans->XF,pairwise_map->XH,range_succ->XS,filterMap_cons->Yc,mem_filterMap->Yh,of_mem_zip->Yq,getElem?_take_of_lt->Yt,length_drop->Yv,foldl->YE,eraseIdxIfInBounds_toArray->YH,nil_append->YI,idxOf_lt_length_of_mem->YV,length_erase_le->YW,le_antisymm->YZ,mem_erase_of_ne->Y8,length_erase_of_mem->Y9,perm_middle->Zc,flatMap_append->Zd,mem_or_eq_of_mem_set->Zf,find?_eq_none->Zg,getElem_take->Zh,cons_ne_nil->Zk,eq_of_mem_replicate->Zl,getElem?_append_left->ZF,foldl_cons->ZM,length_eq_zero_iff->ZW,take_of_length_le->ZX,idxOf_cons->Z1,length_nil->Z6,pairwise_cons->sX,ext_getElem->tq,length_pos_of_mem->tM,perm_ext_iff_of_nodup->tN,getElem?_eq_none->tY,find?_append->tZ,take_append_drop->ua,any_eq_true->ub,mem_of_find?_eq_some->uc,find?_some->ud,getElem?_set->uf,mem_replicate->uh,pairwise_lt_range->uj
open Or renaming inr->Tg,inl->Tw
open Nat renaming le_refl->Ti,ne_of_lt->TK,lt_of_lt_of_le->TY,zero_le->T5,le_of_ble_eq_true->T8,le_trans->Uk,lt_of_le_of_lt->Uv,le_succ->UA,add_le_add_left->UL,lt_irrefl->UM,ne_of_gt->VE,lt_succ_self->WU,succ_ne_self->Xb,succ_le_succ->Xw,lt_succ_of_lt->XG,not_lt_zero->XM,le_of_lt->Yb,log2_le_self->YX,min_le_left->ZV
open Option.some renaming inj->Ts
open Ne renaming symm->Tu
open PySem.Heap renaming lt_size->Tv,get?_push_of_some->TF,SameBut->Ud,get?_push_size->Uq,size_push->Vc,get?_update_self->YA,size_update->Y2,get?_update_other->ZK,get?_push_ne->tD,get?_update_ne->tE
open PySem.Value renaming ref->TU,str->Uj,int->Uw,none->UC,bool->WL,type->WM,isStrOf->Xg,builtin->Xx,isInt->XZ,float->X5,isStrOf_shape->Zn
open Sum renaming inr->T2,inl->V4
open Bool renaming false_ne_true->T7,and_eq_true->UK,eq_iff_iff->VF,eq_false_iff->Wm,false_eq_true->WE
open PyProof.Rows renaming seqObj->Um,AllBare->Vj,envOfC->Vm,callWith_type1->WT,IntsAre->W4,slot_tuple_getitem->Yw,Subscript_->Yx,subscriptTail->Yy,listUpdate_at->Y0,seqEpoch_at->Y1,slicePart_none->ZG,subscriptTail_builtinR->ZI
open PySem.Obj renaming mapSeq->UB,putSet->XI,data_mapFields->tS
open Option renaming map_eq_some_iff->UD,map_some->US,bind_some->XW,isSome_iff_exists->Ys,getD_none->YB,getD_some->tF,map_eq_none_iff->ug
open Array renaming length_toList->UE,getElem?_eq_getElem->WD,getElem?_toList->YG,mem_toList_iff->Zw,perm_iff_toList_perm->sZ,all_toList->ue
open True renaming intro->UP
open PySem.F renaming plainAttrs_list->UT,slot_list_append->U9,type_list_append->Va,called_set->V0,slot_tuple_iterator_next->XO,slot_enumerate_next->XR,slot_dict_get->YY,slot_int_rmul->ZO,excBase_ValueError->ZQ,typeOf_object_class->ZS,attr_ValueError->ZU,slot_list_remove->Z2,entry_list_remove->Z3,args_list_remove_2->Z4,entry_dict_get->Z8,args_dict_get_3->Z9,plain_set_new->tL,entry_tuple_iterator_next->tO,args_tuple_iterator_next_1->tP,entry_enumerate_next->tW,args_enumerate_next_1->tX
open False renaming elim->UX
open PySem.SeqAt renaming eqv_refl->Vi
open Int renaming toNat_natCast->Vq,emod_nonneg->Wr,emod_lt_of_pos->Wt,le_refl->Wu,natCast_nonneg->Xe,le_of_lt->XT
open PySem.PassesOwn renaming never->Vx,leaving->Ze
open Sum.inr renaming inj->Vz
open PySem.NameKind renaming free->VR
open PySem.SetTable renaming grown->VZ,orStandIn->tH,standIn->tI
open PySem.PyData renaming depth->V3,eqv->Wn,depthAll->XY,canLay0->Zj,canLayAll0->uo
open Prod renaming ext->WA,fst->Xf,snd->XX
open PySem.W.KasT renaming kasWp_bind->Xc
open PySem.Builtin.Slice renaming slicePlaces->Xq,sliceAdjust->Yu,sliceApplied->ZH
open PySem.Builtin.Tuple renaming tupleExact->Xr
open PySem.Builtin.Str renaming strSliceIndices->Xy,occurrences->Yi
open ForInStep renaming yield->Xz
open Classical renaming byContradiction->XE,choose->uk,choose_spec->um
open PySem.Heap.SameBut renaming update->XJ
open PySem.Builtin.SmallTypes renaming nextOf->XN,ownedTupleIsFree->tU,ownedTupleHandOut->tV
open List.Sublist renaming refl->XU
open PySem.Around renaming under->Ym,under_plainId->Y4
open PySem.Code renaming isFrame->Yn,quiet_builtin->ZR
open PySem.Calls renaming spliced_cons->Yo,evalArgs_plain->YD,Name_function_global->Zt,spliced_nil->ZC,callWith_builtin->ZL
open PySem.Builtin.List renaming listTooLong->YF
open PyProof.Rows.F renaming plain_set_update_loop->Y5,entry_set_update_loop->tK
open PySem.AutoSeq1 renaming wpAny_loadPart'->Za
open And renaming intro->Zb
open List.Perm renaming swap->Zi
open PySem.SeqAt.EqAt renaming int_str->Zp,str_int->Zq
open PySem.MeetsSeq renaming list_remove->Z5
open List.Pairwise renaming imp_of_mem->ui
set_option Elab.async false
set_option linter.all false
set_option maxRecDepth 100000
set_option maxHeartbeats 4000000
namespace L2
theorem Av {n:Nat}(h:Nat.ble n Zm=true:=by rfl):n<=Zm:=T8 h
theorem Cu {α:Type}{B R:α->Prop}{G:Prop}(h:∃ a,B a/\R a)(q:∀ a,B a->R a->G):G:=by obtain ⟨a,D,r⟩:=h;exact q a D r
theorem Gi {α β:Type}{B R:α->β->Prop}{G:Prop}(h:∃ a b,B a b/\R a b)(q:∀ a b,B a b->R a b->G):G:=by obtain ⟨a,b,D,r⟩:=h;exact q a b D r
theorem AG {α β:Type}{B D R:α->β->Prop}{G:Prop}(h:∃ a b,B a b/\D a b/\R a b)(q:∀ a b,B a b->D a b->R a b->G):G:=by obtain ⟨a,b,H,I,r⟩:=h;exact q a b H I r
theorem Gj {α β:Type}{B D P3 R:α->β->Prop}{G:Prop}(h:∃ a b,B a b/\D a b/\P3 a b/\R a b)(q:∀ a b,B a b->D a b->P3 a b->R a b->G):G:=by obtain ⟨a,b,H,I,J,r⟩:=h;exact q a b H I J r
inductive MI (P1 P2 R:Prop):Prop
 | mk (h1:P1) (h2:P2) (r:R):MI P1 P2 R
inductive MJ {α:Type}(P1 R:α->Prop):Prop
 | mk (a) (h1:P1 a) (r:R a):MJ P1 R
inductive MK {α:Type}(P1 P2 R:α->Prop):Prop
 | mk (a) (h1:P1 a) (h2:P2 a) (r:R a):MK P1 P2 R
inductive MM {α β:Type}(P1 R:α->β->Prop):Prop
 | mk (a b) (h1:P1 a b) (r:R a b):MM P1 R
inductive MN {α β:Type}(P1 P2 R:α->β->Prop):Prop
 | mk (a b) (h1:P1 a b) (h2:P2 a b) (r:R a b):MN P1 P2 R
inductive MO {α β:Type}(P1 P2 P3 P4 R:α->β->Prop):Prop
 | mk (a b) (h1:P1 a b) (h2:P2 a b) (h3:P3 a b) (h4:P4 a b) (r:R a b):MO P1 P2 P3 P4 R
inductive MQ {α β γ:Type}(P1 R:α->β->γ->Prop):Prop
 | mk (a b c) (h1:P1 a b c) (r:R a b c):MQ P1 R
inductive MR {α β γ:Type}(P1 P2 P3 P4 R:α->β->γ->Prop):Prop
 | mk (a b c) (h1:P1 a b c) (h2:P2 a b c) (h3:P3 a b c) (h4:P4 a b c) (r:R a b c):MR P1 P2 P3 P4 R
inductive MT {α β γ δ:Type}(P1 R:α->β->γ->δ->Prop):Prop
 | mk (a b c d) (h1:P1 a b c d) (r:R a b c d):MT P1 R
inductive MU {α β γ δ:Type}(P1 P2 P3 P4 P5 R:α->β->γ->δ->Prop):Prop
 | mk (a b c d) (h1:P1 a b c d) (h2:P2 a b c d) (h3:P3 a b c d) (h4:P4 a b c d) (h5:P5 a b c d) (r:R a b c d):MU P1 P2 P3 P4 P5 R
inductive MV {α β γ δ ε:Type}(P1 R:α->β->γ->δ->ε->Prop):Prop
 | mk (a b c d e) (h1:P1 a b c d e) (r:R a b c d e):MV P1 R
inductive MW {α β γ δ ε:Type}(P1 P2 P3 P4 P5 R:α->β->γ->δ->ε->Prop):Prop
 | mk (a b c d e) (h1:P1 a b c d e) (h2:P2 a b c d e) (h3:P3 a b c d e) (h4:P4 a b c d e) (h5:P5 a b c d e) (r:R a b c d e):MW P1 P2 P3 P4 P5 R
inductive Q81 {α β γ δ ε ζ η θ:Type}(P1 R:α->β->γ->δ->ε->ζ->η->θ->Prop):Prop
 | mk (a b c d e f g h) (h1:P1 a b c d e f g h) (r:R a b c d e f g h):Q81 P1 R
inductive MX {α β γ δ ε ζ η θ ι:Type}(P1 R:α->β->γ->δ->ε->ζ->η->θ->ι->Prop):Prop
 | mk (a b c d e f g h i) (h1:P1 a b c d e f g h i) (r:R a b c d e f g h i):MX P1 R
theorem AQ {B D R:Prop}(h:B/\D/\R):MI B D R:=by obtain ⟨H,I,r⟩:=h;exact ⟨H,I,r⟩
theorem Ao {α:Type}{B R:α->Prop}(h:∃ a,B a/\R a):MJ B R:=by obtain ⟨a,D,r⟩:=h;exact ⟨a,D,r⟩
theorem AD {α:Type}{B D R:α->Prop}(h:∃ a,B a/\D a/\R a):MK B D R:=by obtain ⟨a,H,I,r⟩:=h;exact ⟨a,H,I,r⟩
theorem Bl {α β:Type}{B R:α->β->Prop}(h:∃ a b,B a b/\R a b):MM B R:=by obtain ⟨a,b,D,r⟩:=h;exact ⟨a,b,D,r⟩
theorem Bi {α β:Type}{B D R:α->β->Prop}(h:∃ a b,B a b/\D a b/\R a b):MN B D R:=by obtain ⟨a,b,H,I,r⟩:=h;exact ⟨a,b,H,I,r⟩
theorem Gk {α β:Type}{B D P3 H R:α->β->Prop}(h:∃ a b,B a b/\D a b/\P3 a b/\H a b/\R a b):MO B D P3 H R:=by obtain ⟨a,b,I,J,L,O,r⟩:=h;exact ⟨a,b,I,J,L,O,r⟩
theorem CU {α β γ:Type}{B R:α->β->γ->Prop}(h:∃ a b c,B a b c/\R a b c):MQ B R:=by obtain ⟨a,b,c,D,r⟩:=h;exact ⟨a,b,c,D,r⟩
theorem FK {α β γ:Type}{B D P3 H R:α->β->γ->Prop}(h:∃ a b c,B a b c/\D a b c/\P3 a b c/\H a b c/\R a b c):MR B D P3 H R:=by obtain ⟨a,b,c,I,J,L,O,r⟩:=h;exact ⟨a,b,c,I,J,L,O,r⟩
theorem Du {α β γ δ:Type}{B R:α->β->γ->δ->Prop}(h:∃ a b c d,B a b c d/\R a b c d):MT B R:=by obtain ⟨a,b,c,d,D,r⟩:=h;exact ⟨a,b,c,d,D,r⟩
theorem HW {α β γ δ:Type}{B D P3 H I R:α->β->γ->δ->Prop}(h:∃ a b c d,B a b c d/\D a b c d/\P3 a b c d/\H a b c d/\I a b c d/\R a b c d):MU B D P3 H I R:=by obtain ⟨a,b,c,d,J,L,O,V,Y,r⟩:=h;exact ⟨a,b,c,d,J,L,O,V,Y,r⟩
theorem Aaa {α β γ δ ε:Type}{B R:α->β->γ->δ->ε->Prop}(h:∃ a b c d e,B a b c d e/\R a b c d e):MV B R:=by obtain ⟨a,b,c,d,e,D,r⟩:=h;exact ⟨a,b,c,d,e,D,r⟩
theorem Fd {α β γ δ ε:Type}{B D P3 H I R:α->β->γ->δ->ε->Prop}(h:∃ a b c d e,B a b c d e/\D a b c d e/\P3 a b c d e/\H a b c d e/\I a b c d e/\R a b c d e):MW B D P3 H I R:=by obtain ⟨a,b,c,d,e,J,L,O,V,Y,r⟩:=h;exact ⟨a,b,c,d,e,J,L,O,V,Y,r⟩
theorem Kc {α β γ δ ε ζ η θ ι:Type}{B R:α->β->γ->δ->ε->ζ->η->θ->ι->Prop}(h:∃ a b c d e f g h i,B a b c d e f g h i/\R a b c d e f g h i):MX B R:=by obtain ⟨a,b,c,d,e,f,g,h,i,D,r⟩:=h;exact ⟨a,b,c,d,e,f,g,h,i,D,r⟩
end L2
namespace L2
open PySem PySem.Spec PyProof.Rows
abbrev Au:=Sum Int Str
noncomputable def DT:Au->Value->Bool
 | .inl k,v=>XZ k v
 | .inr x,v=>Xg x v
noncomputable def MY (w:S6):Au->Int
 | .inl k=>hashInt k
 | .inr x=>U3 w x
theorem D7:∀{k:Au}{v:Value},DT k v=true->(∃ i t,k=V4 i/\v=Uw i t)\/(∃ x t,k=T2 x/\v=Uj x t)
 | .inl i,v,h=>by
  obtain ⟨t,e⟩:=Value.isInt_shape (k:=i) (v:=v) h;exact .inl ⟨i,t,rfl,e⟩
 | .inr x,v,h=>by
  obtain ⟨t,e⟩:=Zn (x:=x) (v:=v) h;exact .inr ⟨x,t,rfl,e⟩
theorem Aab (i:Int)(t:Tok):DT (.inl i) (.int i t)=true:=by simp [DT,XZ]
theorem MZ (x:Str)(t:Tok):DT (.inr x) (.str x t)=true:=by simp [DT,Xg]
theorem Aac (a b:Int):decide ((V4 a:Au)=V4 b)=(a == b):=by
 by_cases e:a=b
 .subst e;simp
 .have h:¬ (V4 a:Au)=V4 b:=λq=>e (Sum.inl.inj q);rw [decide_eq_false h];exact (beq_eq_false_iff_ne.mpr e).symm
theorem Aad (a b:Str):decide ((T2 a:Au)=T2 b)=decide (a=b):=by
 by_cases e:a=b
 .subst e;simp
 .have h:¬ (T2 a:Au)=T2 b:=λq=>e (Vz q);rw [decide_eq_false h,decide_eq_false e]
theorem Aae (a:Int)(b:Str):decide ((V4 a:Au)=T2 b)=false:=decide_eq_false (λq=>nomatch q)
theorem Aaf (a:Str)(b:Int):decide ((T2 a:Au)=V4 b)=false:=decide_eq_false (λq=>nomatch q)
noncomputable def Bm (prog:Ta)(w:S6):PySem.KeyKind prog w Au where
 is:=DT
 hash:=MY w
 inj:=λv a b ha hb=>by
  rcases D7 ha with ⟨i,t,rfl,rfl⟩ | ⟨x,t,rfl,rfl⟩
  .rcases D7 hb with ⟨j,u,rfl,e⟩ | ⟨y,u,rfl,e⟩
   .injection e with e1 _;rw [e1]
   .exact nomatch e
  .rcases D7 hb with ⟨j,u,rfl,e⟩ | ⟨y,u,rfl,e⟩
   .exact nomatch e
   .injection e with e1 _;rw [e1]
 byValue:=λk v h=>by
  rcases D7 h with ⟨i,t,rfl,rfl⟩ | ⟨x,t,rfl,rfl⟩<;>rfl
 pyHash:=λhv h=>by
  rcases D7 hv with ⟨i,t,rfl,rfl⟩ | ⟨x,t,rfl,rfl⟩
  .exact wpAny_pyHash_int h
  .exact wpAny_pyHash_str h
 eqBool:=λhu hv h=>by
  rcases D7 hu with ⟨i,t,rfl,rfl⟩ | ⟨x,t,rfl,rfl⟩
  .rcases D7 hv with ⟨j,u,rfl,rfl⟩ | ⟨y,u,rfl,rfl⟩
   .rw [Aac] at h;exact Zo h
   .rw [Aae] at h;exact Zp i t y u _ _ _ _ h
  .rcases D7 hv with ⟨j,u,rfl,rfl⟩ | ⟨y,u,rfl,rfl⟩
   .rw [Aaf] at h;exact Zq x t j u _ _ _ _ h
   .rw [Aad] at h;exact wpAny_eqBool_str h
 «strs»:=λk x t v h=>by
  rcases D7 h with ⟨i,u,rfl,e⟩ | ⟨y,u,rfl,e⟩
  .exact nomatch e
  .injection e with e1 _;subst e1;cases v<;>rfl
theorem Aag (prog:Ta)(w:S6)(k:Au)(v:Value):(Bm prog w).is k v=DT k v:=rfl
theorem Aah (prog:Ta)(w:S6)(i:Int)(t:Tok):(Bm prog w).is (.inl i) (.int i t)=true:=Aab i t
theorem FL (prog:Ta)(w:S6)(x:Str)(t:Tok):(Bm prog w).is (.inr x) (.str x t)=true:=MZ x t
inductive V where
 | aa | bl (b:Bool) | int (i:Int) | str (x:Str) | cu (b:Array UInt8) | fJ (b:UInt64) | ref (a:Addr) | ty (n:String)
 deriving DecidableEq
def Ay:V->Value->Prop
 | .aa,u=>u=UC
 | .bl b,u=>u=WL b
 | .int i,u=>∃ t,u=Uw i t
 | .str x,u=>∃ t,u=Uj x t
 | .cu b,u=>∃ t,u=Value.bytes b t
 | .fJ b,u=>∃ t,u=X5 b t
 | .ref a,u=>u=TU a
 | .ty n,u=>u=WM n
abbrev Aw:List V->List Value->Prop:=Paired Ay
theorem Aw.length {xs:List V}{us:List Value}(r:Aw xs us):xs.length=us.length:=Paired.length r
theorem Aw.get:∀{xs:List V}{us:List Value}{i:Nat}{x:V},Aw xs us->xs[i]?=some x->∃ u,us[i]?=some u/\Ay x u
 | _,_,_,_,.nil,e=>by simp at e
 | _,_,0,_,.cons r _,e=>by simp at e;subst e;exact ⟨_,rfl,r⟩
 | _,_,i+1,x,.cons _ t,e=>by
  obtain ⟨u,B,D⟩:=Ao (Aw.get (i:=i) (x:=x) t (by simpa using e));exact ⟨u,by simpa using B,D⟩
theorem Aw.set {x:V}{u:Value}(r:Ay x u):∀{xs:List V}{us:List Value}(i:Nat),Aw xs us->Aw (xs.set i x) (us.set i u)
 | _,_,_,.nil=>.nil
 | _,_,0,.cons _ t=>.cons r t
 | _,_,i+1,.cons q t=>.cons q (Aw.set r i t)
theorem Aw.append:∀{xs ys:List V}{us ws:List Value},Aw xs us->Aw ys ws->Aw (xs++ys) (us++ws)
 | _,_,_,_,.nil,s=>s
 | _,_,_,_,.cons r t,s=>.cons r (Aw.append t s)
theorem Aw.take:∀{xs:List V}{us:List Value}(n:Nat),Aw xs us->Aw (xs.take n) (us.take n)
 | _,_,0,_=>.nil
 | _,_,_+1,.nil=>.nil
 | _,_,n+1,.cons r t=>.cons r (Aw.take n t)
theorem Aw.drop:∀{xs:List V}{us:List Value}(n:Nat),Aw xs us->Aw (xs.drop n) (us.drop n)
 | _,_,0,r=>r
 | _,_,_+1,.nil=>.nil
 | _,_,n+1,.cons _ t=>Aw.drop n t
def CC:Option V->Option Value->Prop
 | some v,some u=>Ay v u
 | none,none=>True
 | _,_=>False
def KV {κ:Type}:List (κ×V)->List (κ×Value)->Prop:=Paired λ(p:κ×V) (q:κ×Value)=>p.1=q.1/\Ay p.2 q.2
noncomputable def kV:Au->V
 | .inl i=>.int i
 | .inr x=>.str x
inductive HO where
 | lst (xs:List V)
 | tup (xs:List V)
 | dK (kvs:List (Au×V)) | dT (kvs:List (List Au×V))
 | set (S:Int->Bool) (n:Nat)
 | ins (C dx:Addr) (fs:List (Str×V))
 | own (x:Addr)
 | xd (fs:List (Str×V))
 | met (f x:Addr)
 | cJ (lo hi:Int)
 | aM (o:Obj) (u:HO)
 | dP (ps:Array Value)
 | ext (φ:Heap->Prop)
abbrev Hp:=Addr->Option HO
noncomputable def upd (H:Hp)(a:Addr)(o:HO):Hp:=λb=>if b=a then some o else H b
theorem Ai {H:Hp}{a:Addr}{o:HO}:upd H a o a=some o:=by unfold upd;rw [if_pos rfl]
theorem Ap {H:Hp}{a b:Addr}{o:HO}(h:b≠a):upd H a o b=H b:=by unfold upd;rw [if_neg h]
theorem D8 {H:Hp}{a:Addr}{o u:HO}:upd (upd H a o) a u=upd H a u:=by funext b;unfold upd;split<;>rfl
theorem HY {H:Hp}{a b:Addr}{o u:HO}(h:H a=some o)(h':H b=some u)(d:o≠u):a≠b:=by intro e;subst e;rw [h] at h';exact d (Ts h')
theorem BK {H:Hp}{a b:Addr}{o:HO}(h:H a=some o)(h':H b=none):a≠b:=by intro e;subst e;rw [h] at h';cases h'
section
variable (P:Ta)(w:S6)
def Be (H:Hp)(h:Heap)(a:Addr):HO->Prop
 | .lst xs=>xs.length<=sizeLine/\∃(its:List Value)(n:Nat),Aw xs its/\h.get? a=some { cls:=.type "list",data:=.seq its.toArray n }
 | .tup xs=>xs.length<=sizeLine/\∃ its:List Value,Aw xs its/\IsTup h a its.toArray
 | .dK kvs=>kvs.length<=sizeLine/\(a == UJ)=false/\∃ vs,KV kvs vs/\h.DictOf (Bm P w) a vs
 | .dT kvs=>kvs.length<=sizeLine/\(a == UJ)=false/\∃ xs:List (List Au×Addr×Value),
   Paired (λ(p:List Au×V) (q:List Au×Addr×Value)=>p.1=q.1/\H q.2.1=some (.tup (p.1.map kV))/\Ay p.2 q.2.2) kvs xs /\
   ∃ o es ep,h.get? a=some o/\o.ExactDict/\o.data=.dict es ep/\es.toList=xs.map (entryOfKey (Wv (Bm P w)))/\(xs.map (·.1)).Nodup
 | .set S n=>h.SetOf (intKind P w) a S n
 | .ins C dx fs=>H dx=some (.own a)/\fs.length<=1000/\dx≠a/\h.get? a=some (VA C dx) /\
   ∃ mA,h.Ns1 dx mA/\(∀ f,CC (fs.lookup f) (mA f))/\X7 mA (fs.map (·.1))
 | .own _=>∃ o,h.get? a=some o
 | .xd fs=>∃ mA,h.Ns1 a mA/\∀ f,CC (fs.lookup f) (mA f)
 | .cJ lo hi=>∃ t u v,h.get? a=some { cls:=.type "range",data:=.fields #[.int lo t,.int hi u,.int 1 v] }
 | .aM o u=>h.get? a=some o/\Be H h a u
 | .dP ps=>h.get? a=some { cls:=.none,data:=.fields ps }
 | .met f x=>h.get? a=some (X8 (.ref f) (.ref x))
 | .ext φ=>φ h/\(∃ o,h.get? a=some o)/\∀ h1 h2:Heap,φ h1->(∀ o,h1.get? a=some o->h2.get? a=some o)->φ h2
def AL (H:Hp)(h:Heap):Prop:=∀ a o,H a=some o->Be P w H h a o
end
section
variable {P:Ta}{w:S6}{H H':Hp}{h h':Heap}{a:Addr}{o:HO}
theorem Be.lt (x:Be P w H h a o):a<h.objs.size:=by
 cases o with
 | lst D=>obtain ⟨_,_,_,_,e⟩:=x;exact Tv e
 | tup D=>obtain ⟨_,_,_,p⟩:=x;exact p.lt
 | dK B=>obtain ⟨_,_,_,_,o,_,_,e,_⟩:=AQ x;exact Tv e
 | dT B=>obtain ⟨_,_,_,_,o,_,_,e,_⟩:=AQ x;exact Tv e
 | set S n=>obtain ⟨o,_,_,_,e,_⟩:=Du x;exact Tv e
 | ins C dx fs=>obtain ⟨_,_,_,e,_⟩:=AQ x;exact Tv e
 | own y=>obtain ⟨_,e⟩:=x;exact Tv e
 | xd fs=>obtain ⟨_,⟨_,_,_,e,_⟩,_⟩:=Ao x;exact Tv e
 | cJ lo I=>obtain ⟨_,_,_,e⟩:=x;exact Tv e
 | aM J u=>obtain ⟨e,_⟩:=x;exact Tv e
 | dP L=>exact Tv (show h.get? a=some _ from x)
 | met f y=>exact Tv (show h.get? a=some _ from x)
 | ext φ=>obtain ⟨_,⟨_,e⟩,_⟩:=AQ x;exact Tv e
theorem Paired.kO {α β:Type}{F G:α->β->Prop}:∀{l₁:List α}{B:List β},Paired F l₁ B->(∀ a b,F a b->G a b)->Paired G l₁ B
 | _,_,.nil,_=>.nil
 | _,_,.cons r t,f=>.cons (f _ _ r) (Paired.kO t f)
theorem Be.du (x:Be P w H h a o)(k:∀ b u,(b=a\/H b=some (.own a))->h.get? b=some u->h'.get? b=some u)(V:∀ b,H b=some (.own a)->H' b=some (.own a))(Y:∀ b xs,H b=some (.tup xs)->H' b=some (.tup xs)):Be P w H' h' a o:=by
 induction o with
 | lst xs=>obtain ⟨z,its,n,r,e⟩:=x;exact ⟨z,its,n,r,k _ _ (.inl rfl) e⟩
 | tup xs=>obtain ⟨z,its,r,B,e,c⟩:=x;exact ⟨z,its,r,B,k _ _ (.inl rfl) e,c⟩
 | dK I=>obtain ⟨z,y,vs,r,B,es,D,e,c⟩:=AQ x;exact ⟨z,y,vs,r,B,es,D,k _ _ (.inl rfl) e,c⟩
 | dT I =>
  obtain ⟨z,y,xs,r,B,es,D,e,c⟩:=AQ x;exact ⟨z,y,xs,Paired.kO r λp q z=>⟨z.1,Y _ _ z.2.1,z.2.2⟩,B,es,D,k _ _ (.inl rfl) e,c⟩
 | set S n=>obtain ⟨B,es,D,t,e,c⟩:=Du x;exact ⟨B,es,D,t,k _ _ (.inl rfl) e,c⟩
 | ins C dx fs =>
  obtain ⟨d,z,ne,e,J,⟨L,es,D,e2,c⟩,r⟩:=AQ x;exact ⟨V _ d,z,ne,k _ _ (.inl rfl) e,J,⟨L,es,D,k _ _ (.inr d) e2,c⟩,r⟩
 | own y=>obtain ⟨B,e⟩:=x;exact ⟨B,k _ _ (.inl rfl) e⟩
 | xd fs=>obtain ⟨J,⟨L,es,D,e,c⟩,r⟩:=Ao x;exact ⟨J,⟨L,es,D,k _ _ (.inl rfl) e,c⟩,r⟩
 | cJ lo hi=>obtain ⟨t,u,v,e⟩:=x;exact ⟨t,u,v,k _ _ (.inl rfl) e⟩
 | aM B u ih=>obtain ⟨e,q⟩:=x;exact ⟨k _ _ (.inl rfl) e,ih q⟩
 | dP O =>
  have e:h.get? a=some { cls:=.none,data:=.fields O }:=x;show h'.get? a=some { cls:=.none,data:=.fields O };exact k a _ (.inl rfl) e
 | met f y =>
  have e:h.get? a=some (X8 (.ref f) (.ref y)):=x;show h'.get? a=some (X8 (.ref f) (.ref y));exact k a _ (.inl rfl) e
 | ext φ=>obtain ⟨p,⟨o,e⟩,st⟩:=AQ x;exact ⟨st _ _ p λo q=>k _ _ (.inl rfl) q,⟨o,k _ _ (.inl rfl) e⟩,st⟩
theorem AL.lt (x:AL P w H h)(e:H a=some o):a<h.objs.size:=(x a o e).lt
theorem AL.fresh (x:AL P w H h)(e:h.objs.size<=a):H a=none:=by
 cases q:H a with
 | none=>rfl
 | some u=>exact absurd (TY (x.lt q) e) (UM _)
theorem AL.kept (x:AL P w H h)(k:∀ b u,h.get? b=some u->h'.get? b=some u):AL P w H h':=λa o e =>
 (x a o e).du (λb u _ q=>k b u q) (λ_ q=>q) λ_ _ q=>q
theorem AL.laid (x:AL P w H h)(k:∀ b u,h.get? b=some u->h'.get? b=some u)(D:h.objs.size<=a)(new:Be P w (upd H a o) h' a o):AL P w (upd H a o) h':=λb u e=>by
 have B:=x.fresh D;by_cases hb:b=a
 .subst hb;rw [Ai] at e;cases e;exact new
 .rw [Ap hb] at e;exact (x b u e).du (λc v _ q=>k c v q) (λc q=>by rw [Ap (BK q B)];exact q) λc I q=>by rw [Ap (BK q B)];exact q
end
def Rd (H:Hp)(a:Addr)(u:HO):Prop:=H a=some u\/∃ o,H a=some (.aM o u)
theorem Rd.ok {P:Ta}{w:S6}{H:Hp}{h:Heap}{a:Addr}{u:HO}(r:Rd H a u)(x:AL P w H h):Be P w H h a u:=by
 rcases r with r | ⟨o,r⟩
 .exact x a u r
 .obtain ⟨_,q⟩:=x a _ r;exact q
def Gn:Option HO->Prop
 | some (.lst _)=>True
 | some (.dK _)=>True
 | some (.dT _)=>True
 | some (.set _ _)=>True
 | some (.ins _ _ _)=>True
 | some (.ext _)=>True
 | _=>False
section
variable {P:Ta}{w:S6}{H:Hp}{h h':Heap}{x e:Addr}{o':HO}
theorem AL.write (ok:AL P w H h)(B:Gn (H x))(L:e=x\/H e=some (.own x))(k:∀ b u,b≠e->h.get? b=some u->h'.get? b=some u)(Y:∃ u,h'.get? e=some u)(new:Be P w (upd H x o') h' x o'):AL P w (upd H x o') h':=λb u q=>by
 have O:∀ c y,H c=some (.own y)->c≠x:=λc y r z=>by subst z;rw [r] at B;exact B
 have J:∀ c D,H c=some (.tup D)->c≠x:=λc D r z=>by subst z;rw [r] at B;exact B
 by_cases hb:b=x
 .subst hb;rw [Ai] at q;cases q;exact new
 .rw [Ap hb] at q;by_cases I:b=e
  .have V:H b=some (.own x):=by
    rcases L with z | z
    .exact absurd (I.trans z) hb
    .rw [I];exact z
   rw [q] at V;cases V;obtain ⟨v,hv⟩:=Y;exact ⟨v,by rw [I];exact hv⟩
  .refine (ok b u q).du (λc v hc r=>k c v ?_ r) (λc r=>by rw [Ap (O c b r)];exact r) λc D r=>by rw [Ap (J c D r)];exact r
   rcases hc with rfl | hc
   .exact I
   .rintro rfl;rcases L with z | z
    .exact O c b hc z
    .rw [hc] at z;cases z;exact hb rfl
end
structure Un (fs ex:List Addr)(H H':Hp)(h h':Heap):Prop where
 keep:∀ b o,h.get? b=some o->H b=none->b ∉ fs->b ∉ ex->h'.get? b=some o
 slot:∀ b o,h.get? b=some o->H b=none->b∈fs->b ∉ ex->∃ sl,h'.get? b=some { o with slots:=sl }
 free:∀ b o,h.get? b=some o->H b=none->b ∉ ex->H' b=none
 there:∀ b o,h.get? b=some o->b ∉ ex->∃ o',h'.get? b=some o'
 ag:∀ b xs,H b=some (.tup xs)->H' b=some (.tup xs)
 cB:∀ b o u,H b=some (.aM o u)->H' b=some (.aM o u)
 cS:∀ b ps,H b=some (.dP ps)->∃ more,H' b=some (.dP (ps++more))
section
variable {fs eU ex ex':List Addr}{H H1 H2:Hp}{h h1 h2 h':Heap}{a x e:Addr}{o:HO}
theorem Un.any (u:Un fs ex H H1 h h1){b:Addr}{B:Obj}(q:h.get? b=some B)(n:H b=none)(hx:b ∉ ex):∃ D,h1.get? b=some { B with slots:=D }:=by
 by_cases hb:b∈fs
 .exact u.slot b B q n hb hx
 .exact ⟨B.slots,u.keep b B q n hb hx⟩
theorem Un.kept (k:∀ b u,h.get? b=some u->h'.get? b=some u):Un fs ex H H h h' :=
 ⟨λb B q _ _ _=>k b B q,λb B q _ _ _=>⟨B.slots,k b B q⟩,λ_ _ _ n _=>n,λb B q _=>⟨B,k b B q⟩,λ_ _ q=>q,λ_ _ _ q=>q,λ_ D q=>⟨#[],by rw [q];simp⟩⟩
theorem Un.refl:Un fs ex H H h h:=Un.kept λ_ _ q=>q
theorem Un.laid (k:∀ b u,h.get? b=some u->h'.get? b=some u)(D:h.objs.size<=a)(B:H a=none):Un fs ex H (upd H a o) h h' where
 keep:=λb u q _ _ _=>k b u q
 slot:=λb u q _ _ _=>⟨u.slots,k b u q⟩
 free:=λb u q n _=>by rw [Ap (TK (TY (Tv q) D))];exact n
 there:=λb u q _=>⟨u,k b u q⟩
 ag:=λb I q=>by rw [Ap (BK q B)];exact q
 cB:=λb u I q=>by rw [Ap (BK q B)];exact q
 cS:=λb J q=>⟨#[],by rw [Ap (BK q B),q];simp⟩
theorem Un.write (B:Gn (H x))(J:e=x\/H e=some (.own x))(k:∀ b u,b≠e->h.get? b=some u->h'.get? b=some u)(L:∃ u,h'.get? e=some u):Un fs ex H (upd H x o) h h':=by
 have hx:∀ b,H b=none->b≠x:=λb n z=>by subst z;rw [n] at B;exact B
 have hb:∀ b,H b=none->b≠e:=λb n z=>by
  subst z;rcases J with r | r
  .exact hx b n r
  .rw [n] at r;cases r
 have D:∀ b u,H b=some u->¬ Gn (some u)->b≠x:=λb u q O z=>by subst z;rw [q] at B;exact O B
 refine ⟨λb u q n _ _=>k b u (hb b n) q,λb u q n _ _=>⟨u.slots,k b u (hb b n) q⟩,λb u q n _=>by rw [Ap (hx b n)];exact n,λb u q _=>?_,
  λb V q=>by rw [Ap (D b _ q λz=>z)];exact q,λb u V q=>by rw [Ap (D b _ q λz=>z)];exact q,λb Y q=>⟨#[],by rw [Ap (D b _ q λz=>z),q];simp⟩⟩
 by_cases I:b=e
 .subst I;exact L
 .exact ⟨u,k b u I q⟩
end
noncomputable def HZ (h:Heap)(H:Hp):List Addr:=(Ur h.objs.size).filter λa=>(H a).isSome
def D9 (h:Heap)(H:Hp):Heap:=Xh h (HZ h H)
theorem Aai (h:Heap)(H:Hp):(D9 h H).objs.size=h.objs.size:=PySem.W.hideAll_size _ _
theorem Aaj {h:Heap}{H:Hp}{b:Addr}{o:Obj}(e:h.get? b=some o)(n:H b=none):(D9 h H).get? b=some o :=
 WN _ e λB=>by
  have q:(H b).isSome=true:=(Xi.mp B).2;rw [n] at q;simp at q
theorem Aak {h:Heap}{H:Hp}{b:Addr}{o:Obj}(e:(D9 h H).get? b=some o):h.get? b=some o/\H b=none:=by
 have B:h.get? b=some o:=Zs (HZ h H) e;refine ⟨B,?_⟩;cases q:H b with
 | none=>rfl
 | some x =>
  have D:b∈HZ h H:=Xi.mpr ⟨Us.mpr (Tv B),by simp [q]⟩;have z:(D9 h H).get? b=none:=PySem.W.hideAll_none (HZ h H) D;rw [z] at e;cases e
structure Mod (K:S3)(mg:Str->Option Value)(base:Heap):Prop where
 eV:K.In base
 glob:base.Ns TB mg
 blt:∃ mb,base.Ns Ya mb/\∀ x:Str,x≠"__name__"->mb x=Uo x
 nolimit:base.NoLimit
structure Cx where
 prog:Ta
 w:S6
 K:S3
 mg:Str->Option Value
 base:Heap
 A:Tt
 N:List Str
 s₀:S0
 H₀:Hp
 env:Env
 outer:List Env
 stack:List Env
 ex:List Addr
 fn:Str->Bool
 calm:Bool
 pn:List (Addr×Obj)
 xe:Value->S0->Prop
noncomputable def Cv (l:List Env):List Addr:=l.filterMap (·.frame)
abbrev Cx.fs (X:Cx):List Addr:=Cv X.outer
def Gp (sc:Scope)(x:Str):Prop:=sc.names.lookup x=some .local\/sc.names.lookup x=some .cell\/sc.names.lookup x=some .free
def Gq (sc:Scope)(x:Str):Prop:=sc.names.lookup x=some .local\/sc.names.lookup x=some .cell
def Aal (env:Env)(h:Heap)(m:Str->Option Value)(x:Str)(u:Value):Prop :=
 (env.kindOf x=some .local/\m x=some u)\/((env.kindOf x=some .cell\/env.kindOf x=some .free)/\∃ c,env.cells.lookup x=some c/\h.IsCell c (some u))
structure Cx.Ok (X:Cx):Prop where
 mod:Mod X.K X.mg X.base
 kind:X.env.scope.kind=.function
 glob:X.env.globals=TB
 blt:X.env.builtins=Ya
 above:X.s₀.heap.objs.size<=X.env.locals
 inj:∀ x y c,X.env.cells.lookup x=some c->X.env.cells.lookup y=some c->x=y
 has:∀ x,(X.env.kindOf x=some .cell\/X.env.kindOf x=some .free)->∃ c,X.env.cells.lookup x=some c
 gO:∀ x c,X.fn x=true->X.env.cells.lookup x=some c->X.s₀.heap.objs.size<=c
 hd:X.calm=true->X.A.handled=none
 frames:X.A.frames=some X.stack
 iw:X.stack=X.outer\/(X.stack=X.env :: X.outer/\X.env.frame=some X.env.locals)
 gP:∀ b∈X.ex,b≠X.env.locals/\∀ x c,X.env.cells.lookup x=some c->c≠b
 bs:∀ b o,X.base.get? b=some o->X.s₀.heap.get? b=some o/\X.H₀ b=none
 dR:X.base.objs.size<=X.s₀.heap.objs.size
 gQ:∀ b o,X.base.get? b=some o->b ∉ X.ex
 eW:∀ b∈X.ex,b ∉ X.fs
 cw:X.s₀.heap.FunFrames X.base X.outer
 eX:∀ b∈X.fs,X.H₀ b=none
structure Ae (X:Cx)(pins:List (Addr×Obj))(σ:List (Option V))(H:Hp)(s:S0):Prop where
 ok:X.Ok
 os:s.os=X.s₀.os
 bare:Vj s.gens
 base:Un X.fs X.ex X.H₀ H X.s₀.heap s.heap
 loc:∃ m,s.heap.Ns X.env.locals m/\∀(i:Nat)(x:Str)(v:V),X.N[i]?=some x->σ[i]?=some (some v)->Gp X.env.scope x->∃ u,Ay v u/\Aal X.env s.heap m x u
 cell:∀ x c,X.env.cells.lookup x=some c->∃ v,s.heap.IsCell c v
 free:H X.env.locals=none
 cx:∀ x c,X.env.cells.lookup x=some c->H c=none
 pin:∀ p∈X.pn++pins,s.heap.get? p.1=some p.2/\H p.1=none/\p.1≠X.env.locals/\p.1 ∉ X.fs/\∀ v,p.2.data≠.cell v
 af:AL X.prog X.w H s.heap
 len:σ.length=X.N.length
section
variable {X:Cx}{pins:List (Addr×Obj)}{σ:List (Option V)}{H H':Hp}{s:S0}{h':Heap}
theorem Cx.Ok.aab (ok:X.Ok){b:Addr}{o:Obj}(e:X.base.get? b=some o):b ∉ X.fs:=λhb=>by
 have:=(ok.cw.mem hb).1;rw [e] at this;cases this
theorem Ae.bs (I:Ae X pins σ H s):∀ b o,X.base.get? b=some o->s.heap.get? b=some o/\H b=none:=λb o e =>
 ⟨I.base.keep b o (I.ok.bs b o e).1 (I.ok.bs b o e).2 (I.ok.aab e) (I.ok.gQ b o e),I.base.free b o (I.ok.bs b o e).1 (I.ok.bs b o e).2 (I.ok.gQ b o e)⟩
theorem Ae.bk (I:Ae X pins σ H s):∀ b o,X.base.get? b=some o->s.heap.get? b=some o:=λb o e=>(I.bs b o e).1
theorem Ae.mod (I:Ae X pins σ H s):Mod X.K X.mg X.base:=I.ok.mod
theorem Ae.aN (I:Ae X pins σ H s):X.K.In s.heap:=I.ok.mod.eV.keeps I.bk
theorem Ae.lt (I:Ae X pins σ H s):X.env.locals<s.heap.objs.size:=let ⟨_,B,_⟩:=I.loc;B.lt
theorem Ae.sz (I:Ae X pins σ H s):X.s₀.heap.objs.size<=s.heap.objs.size:=Uk I.ok.above (Yb I.lt)
theorem Ae.aac (I:Ae X pins σ H s){a:Addr}(h:s.heap.objs.size<=a):a ∉ X.fs:=λhb=>by
 obtain ⟨_,o,B,_⟩:=I.ok.cw.mem hb;exact absurd (TY (Tv B) (Uk I.sz h)) (UM _)
theorem Ae.fK (I:Ae X pins σ H s):∀ x c,X.env.cells.lookup x=some c->c≠X.env.locals:=λx c e z=>by
 obtain ⟨v,o,B,hd⟩:=Bl (I.cell x c e);obtain ⟨m,⟨L,es,O,D,J,_⟩,_⟩:=Ao I.loc;rw [z,D] at B;cases B;rw [J] at hd;cases hd
theorem Ae.cw (I:Ae X pins σ H s):s.heap.FunFrames X.base X.outer:=by
 have all:∀(l:List Env),(∀ b∈Cv l,b∈X.fs)->X.s₀.heap.FunFrames X.base l->s.heap.FunFrames X.base l:=by
  intro l;induction l with
  | nil=>intro _ _;trivial
  | cons env r ih =>
   intro hs J;obtain ⟨hk,⟨L,o,B,O,Y,hd⟩,hr⟩:=AQ J;have D:L∈X.fs:=hs L (by unfold Cv;rw [Yc,B];exact T9);obtain ⟨sl,e⟩:=I.base.slot L o Y (I.ok.eX L D) D λz=>I.ok.eW L z D;exact ⟨hk,⟨L,_,B,O,e,hd⟩,ih (λb hb=>hs b (by unfold Cv;rw [Yc,B];exact T1 _ hb)) hr⟩
 exact all X.outer (λ_ hb=>hb) I.ok.cw
theorem Ae.stack (I:Ae X pins σ H s):s.heap.FunFrames X.base X.stack:=by
 rcases I.ok.iw with e | ⟨e,B⟩
 .rw [e];exact I.cw
 .rw [e];obtain ⟨m,D,_⟩:=Ao I.loc;refine .cons (by rw [I.ok.kind];decide) B D ?_ I.cw;exact Heap.get?_none_of_le (Uk I.ok.dR I.ok.above)
theorem Ae.cU (I:Ae X pins σ H s):∀ b∈Cv X.stack,b∈X.env.locals :: X.fs:=λb hb=>by
 rcases I.ok.iw with e | ⟨e,B⟩
 .rw [e] at hb;exact T1 _ hb
 .rw [e] at hb;unfold Cv at hb;rw [Yc,B] at hb;exact hb
theorem Ae.kQ (I:Ae X pins σ H s):∀ b∈Cv X.stack,H b=none:=λb hb=>by
 rcases Tq.mp (I.cU b hb) with e | hb
 .rw [e];exact I.free
 .obtain ⟨_,o,B,_⟩:=I.ok.cw.mem hb;exact I.base.free b o B (I.ok.eX b hb) λz=>I.ok.eW b z hb
theorem Ae.step {g':Array WO}{t':Nat}{d':Drawn}{ch:List Addr}(I:Ae X pins σ H s)(L:∀ b∈ch,(b∈X.ex\/X.s₀.heap.objs.size<=b)/\b≠X.env.locals/\(∀ x c,X.env.cells.lookup x=some c->c≠b)/\∀ p∈X.pn++pins,p.1≠b)(keep:∀ b o,b≠X.env.locals->b ∉ X.fs->b ∉ ch->s.heap.get? b=some o->H b=none->h'.get? b=some o)(slot:∀ b o,b≠X.env.locals->b∈X.fs->b ∉ ch->s.heap.get? b=some o->H b=none->∃ sl,h'.get? b=some { o with slots:=sl })(free:∀ b o,b ∉ ch->s.heap.get? b=some o->H b=none->H' b=none)(there:∀ b o,b ∉ ch->s.heap.get? b=some o->∃ o',h'.get? b=some o')(ag:∀ b xs,H b=some (.tup xs)->H' b=some (.tup xs))(cB:∀ b o u,H b=some (.aM o u)->H' b=some (.aM o u))(cS:∀ b ps,H b=some (.dP ps)->∃ more,H' b=some (.dP (ps++more)))(ns:∀ m,s.heap.Ns X.env.locals m->h'.Ns X.env.locals m)(af:AL X.prog X.w H' h')(hg:Vj g') :
  Ae X pins σ H' { s with heap:=h',gens:=g',drawn:=d',toks:=t' }:=by
 have gR:∀ b o,X.s₀.heap.get? b=some o->b≠X.env.locals:=λb o e=>TK (TY (Tv e) I.ok.above);have jI:∀ b o,X.s₀.heap.get? b=some o->b ∉ X.ex->b ∉ ch:=λb o e hx hb=>by
  rcases (L b hb).1 with z | z
  .exact hx z
  .exact absurd (TY (Tv e) z) (UM _)
 have B:∀ x c,X.env.cells.lookup x=some c->∀ v,s.heap.IsCell c v->h'.IsCell c v:=λx c e v zz=>Cu zz λo J hd=>by
  have O:c ∉ ch:=λz=>(L c z).2.2.1 x c e rfl;by_cases hc:c∈X.fs
  .obtain ⟨sl,q⟩:=slot c o (I.fK x c e) hc O J (I.cx x c e);exact ⟨_,q,hd⟩
  .exact ⟨o,keep c o (I.fK x c e) hc O J (I.cx x c e),hd⟩
 refine ⟨I.ok,I.os,hg,⟨λb o e n hb hx=>?_,λb o e n hb hx=>?_,λb o e n hx=>?_,λb o e hx=>?_,λb xs e=>ag b xs (I.base.ag b xs e),λb o xs e=>cB b o xs (I.base.cB b o xs e),λb ps e=>?_⟩,?_,λx c e=>?_,?_,λx c e=>?_,λp hp=>?_,af,I.len⟩
 .exact keep b o (gR b o e) hb (jI b o e hx) (I.base.keep b o e n hb hx) (I.base.free b o e n hx)
 .obtain ⟨sl,D⟩:=I.base.slot b o e n hb hx;obtain ⟨gS,Y⟩:=slot b _ (gR b o e) hb (jI b o e hx) D (I.base.free b o e n hx);exact ⟨gS,Y⟩
 .obtain ⟨o',D⟩:=I.base.there b o e hx;exact free b o' (jI b o e hx) D (I.base.free b o e n hx)
 .obtain ⟨o',D⟩:=I.base.there b o e hx;exact there b o' (jI b o e hx) D
 .obtain ⟨m1,D⟩:=I.base.cS b ps e;obtain ⟨m2,Y⟩:=cS b _ D;exact ⟨m1++m2,by rw [Y,Array.append_assoc]⟩
 .obtain ⟨m,hn,hl⟩:=Ao I.loc;refine ⟨m,ns m hn,λi x v D Y e3=>?_⟩;obtain ⟨u,r,l⟩:=Ao (hl i x v D Y e3);refine ⟨u,r,?_⟩;rcases l with l | ⟨k,c,e,z⟩
  .exact .inl l
  .exact .inr ⟨k,c,e,B x c e _ z⟩
 .obtain ⟨v,z⟩:=I.cell x c e;exact ⟨v,B x c e v z⟩
 .obtain ⟨m,⟨o,_,_,J,_⟩,_⟩:=Ao I.loc;exact free _ o (λz=>(L _ z).2.1 rfl) J I.free
 .obtain ⟨v,o,J,hd⟩:=Bl (I.cell x c e);exact free c o (λz=>(L c z).2.2.1 x c e rfl) J (I.cx x c e)
 .obtain ⟨e,n,ne,nf,d⟩:=AQ (I.pin p hp);have O:p.1 ∉ ch:=λz=>(L p.1 z).2.2.2 p hp rfl;exact ⟨keep p.1 p.2 ne nf O e n,free p.1 p.2 O e n,ne,nf,d⟩
theorem Ae.un {t':Nat}(I:Ae X pins σ H s)(u:Un X.fs [] H H' s.heap h')(L:AL X.prog X.w H' h'):Ae X pins σ H' { s with heap:=h',toks:=t' }:=by
 obtain ⟨m,⟨o,es,ep,D,r⟩,_⟩:=Ao (id I.loc);obtain ⟨sl,O⟩:=u.any D I.free (by simp);exact I.step (g':=s.gens) (d':=s.drawn) (ch:=[]) (λ_ z=>nomatch z) (λb o _ hb _ e n=>u.keep b o e n hb (by simp)) (λb o _ hb _ e n=>u.slot b o e n hb (by simp)) (λb o _ e n=>u.free b o e n (by simp)) (λb o _ e=>u.there b o e (by simp)) u.ag u.cB u.cS (λm' Y=>by
  obtain ⟨o',B,kR,J,r'⟩:=CU Y;rw [D] at J;cases J;exact ⟨_,B,kR,O,r'⟩) L I.bare
theorem Ae.call {g':Array WO}{t':Nat}{d':Drawn}{ch:List Addr}(I:Ae X pins σ H s)(u:Un (Cv X.stack) ch H H' s.heap h')(Y:AL X.prog X.w H' h')(hg:Vj g')(J:∀ b∈ch,(b∈X.ex\/X.s₀.heap.objs.size<=b)/\b≠X.env.locals/\(∀ x c,X.env.cells.lookup x=some c->c≠b)/\∀ p∈X.pn++pins,p.1≠b) :
  Ae X pins σ H' { s with heap:=h',gens:=g',drawn:=d',toks:=t' }:=by
 obtain ⟨m,⟨o,es,ep,L,r⟩,_⟩:=Ao (id I.loc);obtain ⟨sl,B⟩:=u.any L I.free λz=>(J _ z).2.1 rfl;exact I.step (ch:=ch) J (λb o B hb hc e n=>u.keep b o e n (λz=>(Tq.mp (I.cU b z)).elim B hb) hc) (λb o _ _ hc e n=>u.any e n hc) (λb o hc e n=>u.free b o e n hc) (λb o hc e=>u.there b o e hc) u.ag u.cB u.cS (λm' hm=>by
  obtain ⟨o',D,kR,O,r'⟩:=CU hm;rw [L] at O;cases O;exact ⟨_,D,kR,B,r'⟩) Y hg
theorem Ae.turned {t':Nat}{it:Addr}(I:Ae X pins σ H s)(k:∀ b o,b≠it->s.heap.get? b=some o->h'.get? b=some o)(J:H it=none)(B:it≠X.env.locals)(L:it∈X.ex\/X.s₀.heap.objs.size<=it)(O:∀ x c,X.env.cells.lookup x=some c->c≠it)(Y:∀ p∈X.pn++pins,p.1≠it):Ae X pins σ H { s with heap:=h',toks:=t' }:=by
 have D:∀ b u,H b=some u->b≠it:=λb u e z=>by rw [z,J] at e;cases e
 refine I.step (g':=s.gens) (d':=s.drawn) (ch:=[it]) (λb hb=>?_) (λb o _ _ hc e _=>k b o (λz=>hc (by simp [z])) e) (λb o _ _ hc e _=>⟨o.slots,k b o (λz=>hc (by simp [z])) e⟩) (λ_ _ _ _ n=>n)
  (λb o hc e=>⟨o,k b o (λz=>hc (by simp [z])) e⟩) (λ_ _ e=>e) (λ_ _ _ e=>e) (λb ps e=>⟨#[],by rw [e];simp⟩) (λm hm=>?_) (λb u e=>?_) I.bare
 .have e:b=it:=by simpa using hb
  subst e;exact ⟨L,B,O,Y⟩
 .obtain ⟨o,es,ep,ho,r⟩:=CU hm;exact ⟨o,es,ep,k _ o (Tu B) ho,r⟩
 .refine (I.af b u e).du (λc v hc q=>k c v ?_ q) (λ_ q=>q) λ_ _ q=>q;rcases hc with z | z
  .rw [z];exact D b u e
  .exact D c _ z
theorem Ae.tok (I:Ae X pins σ H s)(t:Nat):Ae X pins σ H { s with toks:=t }:=I.un (h':=s.heap) (t':=t) Un.refl I.af
theorem Ae.kept {t':Nat}(I:Ae X pins σ H s)(k:∀ b u,s.heap.get? b=some u->h'.get? b=some u):Ae X pins σ H { s with heap:=h',toks:=t' }:=I.un (Un.kept k) (I.af.kept k)
theorem Ae.laid {a:Addr}{o:HO}{t':Nat}(I:Ae X pins σ H s)(k:∀ b u,s.heap.get? b=some u->h'.get? b=some u)(B:s.heap.objs.size<=a)(new:Be X.prog X.w (upd H a o) h' a o) :
  Ae X pins σ (upd H a o) { s with heap:=h',toks:=t' }:=I.un (Un.laid k B (I.af.fresh B)) (I.af.laid k B new)
theorem Ae.write {x e:Addr}{o:HO}{t':Nat}(I:Ae X pins σ H s)(B:Gn (H x))(D:e=x\/H e=some (.own x))(k:∀ b u,b≠e->s.heap.get? b=some u->h'.get? b=some u)(J:∃ u,h'.get? e=some u)(new:Be X.prog X.w (upd H x o) h' x o):Ae X pins σ (upd H x o) { s with heap:=h',toks:=t' }:=I.un (Un.write B D k J) (I.af.write B D k J new)
theorem Ae.oQ {B:List (Addr×Obj)}(I:Ae X pins σ H s)(h:∀ p∈B,s.heap.get? p.1=some p.2/\H p.1=none/\p.1≠X.env.locals/\p.1 ∉ X.fs/\∀ v,p.2.data≠.cell v):Ae X B σ H s :=
 ⟨I.ok,I.os,I.bare,I.base,I.loc,I.cell,I.free,I.cx,λp D=>(Ut.mp D).elim (λz=>I.pin p (Ww _ z)) (h p),I.af,I.len⟩
theorem M0 {N:List Str}(B:N.Nodup){i j:Nat}{x:Str}(a:N[i]?=some x)(b:N[j]?=some x):i=j:=by obtain ⟨J,D⟩:=TH.mp a;obtain ⟨L,I⟩:=TH.mp b;exact (Xj B).mp (D.trans I.symm)
theorem M3 {M:VB}{A:Tt}{E:Value->S0->Prop}{i:Nat}{x:Str}{v:V}{u:Value}{Q:Unit->S0->Prop}(I:Ae X pins σ H s)(hN:X.N.Nodup)(O:X.N[i]?=some x)(hx:Gq X.env.scope x)(r:Ay v u)(h:∀ s',Ae X pins (σ.set i (some v)) H s'->(∃ a,Ud a s.heap s'.heap/\(a=X.env.locals\/X.env.cells.lookup x=some a))->Q () s')(hf:X.fn x=true\/X.env.scope.names.lookup x=some .local:=by first | exact .inl rfl | exact .inr rfl | assumption):S4 M A (storeName X.env x u) Q E s:=by
 obtain ⟨m,hn,hl⟩:=Ao (id I.loc);have aad:(X.env.scope.kind == .class || (X.env.scope.kind == .module && X.env.locals != X.env.globals))=false:=by rw [I.ok.kind];rfl
 have oS:i<σ.length:=by rw [I.len];exact (TH.mp O).1
 have fK:=I.fK;have B:∀{a:Addr}{h':Heap},(∃ o,s.heap.get? a=some o/\H a=none)->Ud a s.heap h'->AL X.prog X.w H h':=λ{a h'} ha hs b ob e=>by
  obtain ⟨_,_,oT⟩:=Ao ha;refine (I.af b ob e).du (λc Y hc q=>(hs.2 c ?_).trans q) (λ_ q=>q) λ_ _ q=>q;rintro rfl;rcases hc with rfl | hc
  .rw [oT] at e;cases e
  .rw [oT] at hc;cases hc
 rcases hx with hk | hk
 .refine wpAny_storeName_local hk hn (λh' hn' hs=>?_) aad;obtain ⟨oL,_,_,hoL,_⟩:=CU (id hn);refine h _ ⟨I.ok,I.os,I.bare,⟨λb o e n hb hx=>?_,λb o e n hb hx=>?_,I.base.free,λb o e hx=>?_,I.base.ag,I.base.cB,I.base.cS⟩,⟨_,hn',λj y v' D J e3=>?_⟩,λy c e=>?_,I.free,I.cx,λp hp=>?_,B ⟨oL,hoL,I.free⟩ hs,by simpa using I.len⟩ ⟨_,hs,.inl rfl⟩
  .exact (hs.2 b (TK (TY (Tv e) I.ok.above))).trans (I.base.keep b o e n hb hx)
  .obtain ⟨sl,D⟩:=I.base.slot b o e n hb hx;exact ⟨sl,(hs.2 b (TK (TY (Tv e) I.ok.above))).trans D⟩
  .obtain ⟨o',D⟩:=I.base.there b o e hx;exact ⟨o',(hs.2 b (TK (TY (Tv e) I.ok.above))).trans D⟩
  .by_cases L:j=i
   .subst L;rw [O] at D;cases D;rw [T6 oS] at J;cases J;exact ⟨u,r,.inl ⟨hk,by simp⟩⟩
   .rw [To (Tu L)] at J;obtain ⟨u',r',q⟩:=Ao (hl j y v' D J e3);refine ⟨u',r',?_⟩;rcases q with ⟨k,e⟩ | ⟨k,c,e,z⟩
    .refine .inl ⟨k,?_⟩;have:y≠x:=λe=>L (M0 hN D (e▸O));simp [this,e]
    .exact .inr ⟨k,c,e,z.sameBut hs (fK y c e)⟩
  .obtain ⟨Y,z⟩:=I.cell y c e;exact ⟨Y,z.sameBut hs (fK y c e)⟩
  .obtain ⟨e,n,ne,nf,d⟩:=AQ (I.pin p hp);exact ⟨(hs.2 p.1 ne).trans e,n,ne,nf,d⟩
 .have kT:X.fn x=true:=by
   rcases hf with z | z
   .exact z
   .rw [z] at hk;cases hk
  obtain ⟨c,hc⟩:=I.ok.has x (.inl hk);obtain ⟨Y,z⟩:=I.cell x c hc;refine wpAny_storeName_cell I.ok.kind hk hc z (λh' oU hs=>?_);obtain ⟨oc,oV,aae⟩:=Ao (id z);refine h { s with heap:=h' } ⟨I.ok,I.os,I.bare,⟨λb o e n hb hx=>?_,λb o e n hb hx=>?_,I.base.free,λb o e hx=>?_,I.base.ag,I.base.cB,I.base.cS⟩,⟨m,hn.sameBut hs (Tu (fK x c hc)),λj y v' D J e3=>?_⟩,λy c' e=>?_,I.free,I.cx,λp hp=>?_,B ⟨oc,oV,I.cx x c hc⟩ hs,by simpa using I.len⟩ ⟨c,hs,.inr hc⟩
  .exact (hs.2 b (TK (TY (Tv e) (I.ok.gO x c kT hc)))).trans (I.base.keep b o e n hb hx)
  .obtain ⟨sl,D⟩:=I.base.slot b o e n hb hx;exact ⟨sl,(hs.2 b (TK (TY (Tv e) (I.ok.gO x c kT hc)))).trans D⟩
  .obtain ⟨o',D⟩:=I.base.there b o e hx;exact ⟨o',(hs.2 b (TK (TY (Tv e) (I.ok.gO x c kT hc)))).trans D⟩
  .by_cases L:j=i
   .subst L;rw [O] at D;cases D;rw [T6 oS] at J;cases J;exact ⟨u,r,.inr ⟨.inl hk,c,hc,oU⟩⟩
   .rw [To (Tu L)] at J;obtain ⟨u',r',q⟩:=Ao (hl j y v' D J e3);refine ⟨u',r',?_⟩;rcases q with q | ⟨k,c',e,z'⟩
    .exact .inl q
    .refine .inr ⟨k,c',e,z'.sameBut hs ?_⟩;rintro rfl;exact L (M0 hN D (I.ok.inj _ _ _ e hc▸O))
  .by_cases oX:c'=c
   .subst oX;exact ⟨_,oU⟩
   .obtain ⟨w2,z2⟩:=I.cell y c' e;exact ⟨w2,z2.sameBut hs oX⟩
  .obtain ⟨e,n,ne,nf,d⟩:=AQ (I.pin p hp);refine ⟨(hs.2 p.1 ?_).trans e,n,ne,nf,d⟩;intro q;rw [q,oV] at e;have q':oc=p.2:=Ts e;exact d Y (by rw [<- q'];exact aae)
theorem M4 {M:VB}{A:Tt}{E:Value->S0->Prop}{i:Nat}{x:Str}{v:V}{u:Value}{Q:Unit->S0->Prop}(I:Ae X pins σ H s)(D:X.N.Nodup)(J:X.N[i]?=some x)(hx:Gq X.env.scope x)(r:Ay v u)(h:∀ B,Ae X pins (σ.set i (some v)) H B->Q () B)(L:X.fn x=true\/X.env.scope.names.lookup x=some .local:=by first | exact .inl rfl | exact .inr rfl | assumption):S4 M A (storeName X.env x u) Q E s :=
 M3 I D J hx r (λB O _=>h B O) L
theorem Ae.oY {B:S0}{ch:List Addr}(I:Ae X pins σ H s)(O:B.os=s.os)(u:Un (Cv X.stack) ch H H' s.heap B.heap)(Y:AL X.prog X.w H' B.heap)(hg:Vj B.gens)(bT:∀ b∈ch,(b∈X.ex\/X.s₀.heap.objs.size<=b)/\b≠X.env.locals/\(∀ x c,X.env.cells.lookup x=some c->c≠b)/\∀ p∈X.pn++pins,p.1≠b):Ae X pins σ H' B:=by obtain ⟨h',D,J,L,o'⟩:=B;have e:o'=s.os:=O;subst e;exact I.call (g':=D) (t':=L) (d':=J) u Y hg bT
end
abbrev XK:=Value->Option Addr->Hp->Prop
abbrev St:=List (Option V)
abbrev VK:=V->Hp->Prop
abbrev TE:=St->Hp->VK->Prop
abbrev TT:=St->Hp->(Bool->Hp->Prop)->Prop
abbrev TA:=St->Hp->(List V->Hp->Prop)->Prop
structure CV where
 nx:St->Hp->Prop
 rt:VK
 bk:St->Hp->Prop:=λ_ _=>False
 ct:St->Hp->Prop:=λ_ _=>False
abbrev TS:=CV->St->Hp->Prop
def EP (X:Cx)(pins:List (Addr×Obj))(σ:St)(Q:VK)(u:Value)(s':S0):Prop:=∃ v H',Ae X pins σ H' s'/\Ay v u/\Q v H'
def TP (X:Cx)(pins:List (Addr×Obj))(σ:St)(Q:Bool->Hp->Prop)(b:Bool)(s':S0):Prop:=∃ H',Ae X pins σ H' s'/\Q b H'
def AP (X:Cx)(pins:List (Addr×Obj))(σ:St)(Q:List V->Hp->Prop)(us:List Value)(s':S0):Prop:=∃ vs H',Ae X pins σ H' s'/\Aw vs us/\Q vs H'
def SP (X:Cx)(pins:List (Addr×Obj))(D:CV)(f:Flow)(s':S0):Prop :=
 match f with
 | .next=>∃ σ' H',Ae X pins σ' H' s'/\D.nx σ' H'
 | .brk=>∃ σ' H',Ae X pins σ' H' s'/\D.bk σ' H'
 | .cont=>∃ σ' H',Ae X pins σ' H' s'/\D.ct σ' H'
 | .ret u=>∃ v σ' H',Ae X pins σ' H' s'/\Ay v u/\D.rt v H'
def PE (X:Cx)(e:S7)(t:TE):Prop :=
 ∀(pins:List (Addr×Obj))(s:S0)(σ:St)(H:Hp)(Q:VK),Ae X pins σ H s->t σ H Q->S4 (S8 X.prog X.w) X.A (Tf e X.env) (EP X pins σ Q) X.xe s
def PT (X:Cx)(e:S7)(t:TT):Prop :=
 ∀(pins:List (Addr×Obj))(s:S0)(σ:St)(H:Hp)(Q:Bool->Hp->Prop),Ae X pins σ H s->t σ H Q->S4 (S8 X.prog X.w) X.A (WQ e X.env (Tf e X.env)) (TP X pins σ Q) X.xe s
def PW (X:Cx)(e:S7)(t:TT):Prop :=
 ∀(whole:Sem Value)(pins:List (Addr×Obj))(s:S0)(σ:St)(H:Hp)(Q:Bool->Hp->Prop),Ae X pins σ H s->t σ H Q->S4 (S8 X.prog X.w) X.A (WQ e X.env whole) (TP X pins σ Q) X.xe s
theorem PW.pt {X:Cx}{e:S7}{t:TT}(h:PW X e t):PT X e t:=h _
def PA (X:Cx)(es:List S7)(t:TA):Prop :=
 ∀(pos:Pos)(pins:List (Addr×Obj))(s:S0)(σ:St)(H:Hp)(Q:List V->Hp->Prop),Ae X pins σ H s->t σ H Q->S4 (S8 X.prog X.w) X.A (spliced (TZ pos (Tj es X.env))) (AP X pins σ Q) X.xe s
def PS (X:Cx)(st:Stmt)(t:TS):Prop :=
 ∀(pins:List (Addr×Obj))(s:S0)(σ:St)(H:Hp)(D:CV),Ae X pins σ H s->t D σ H->S4 (S8 X.prog X.w) X.A (exec st X.env) (SP X pins D) X.xe s
def CW (X:Cx)(st:List Stmt)(t:TS):Prop :=
 ∀(pins:List (Addr×Obj))(s:S0)(σ:St)(H:Hp)(D:CV),Ae X pins σ H s->t D σ H->S4 (S8 X.prog X.w) X.A (execs st X.env) (SP X pins D) X.xe s
theorem Al {α:Type}{t:Sem α}{Q B:α->S0->Prop}{M:VB}{A:Tt}{E:Value->S0->Prop}{s:S0}(h:S4 M A t Q E s)(D:∀ a s,Q a s->B a s):S4 M A t B E s:=U4 h D λ_ _ x=>x
section
variable {X:Cx}
def Ia (i:Nat):TE:=λσ H Q=>∃ v,σ[i]?=some (some v)/\Q v H
def tC (v:V):TE:=λ_ H Q=>Q v H
theorem Kd {i:Nat}{x:Str}{pos:Pos}(J:X.N[i]?=some x)(hv:Gp X.env.scope x)(hd:(x == ("__debug__":Str))=false:=by decide)(L:(x == ("__classdict__":Str))=false:=by decide):PE X (.Name x pos) (Ia i):=by
 intro pins s σ H Q I h;replace h:=Ao h;obtain ⟨v,e,h⟩:=h
 obtain ⟨m,O,V⟩:=Ao I.loc;obtain ⟨u,r,l⟩:=Ao (V i x v J e hv);have B:EP X pins σ Q u s:=⟨v,H,I,r,h⟩;rcases l with ⟨hk,Y⟩ | ⟨hk,c,hc,D⟩
 .exact Yd (wpAny_loadName_local I.ok.kind hk O Y B) hd
 .rcases hk with hk | hk
  .exact Yd (wpAny_loadName_cell I.ok.kind hk hc D B) hd
  .exact Yd (wpAny_loadName_free I.ok.kind hk hc D B L) hd
theorem Az {i j pos}:PE X (.Constant (.int i) j pos) (tC (.int i)):=λ_ _ _ H _ I h=>wpAny_Constant_int ⟨.int i,H,I.tok _,⟨_,rfl⟩,h⟩
theorem Ew {b j pos}:PE X (.Constant (.bool b) j pos) (tC (.bl b)):=λ_ _ _ H _ I h=>Constant_bool ⟨.bl b,H,I,rfl,h⟩
theorem BV {j pos}:PE X (.Constant .none j pos) (tC .aa):=λ_ _ _ H _ I h=>Constant_none ⟨.aa,H,I,rfl,h⟩
theorem Aq {x j pos}:PE X (.Constant (.str x) j pos) (tC (.str x)):=λ_ _ _ H _ I h=>Calls.Constant_str ⟨.str x,H,I.tok _,⟨_,rfl⟩,h⟩
def Gl (X:Cx)(x:Str):Prop:=X.env.kindOf x=some .globalImplicit
theorem Ib {E:Value->S0->Prop}{pins:List (Addr×Obj)}{s:S0}{σ:St}{H:Hp}{x:Str}{u:Value}{pos:Pos}{Q:Value->S0->Prop}(I:Ae X pins σ H s)(B:Gl X x)(D:X.mg x=some u)(h:Q u s)(hd:(x == ("__debug__":Str))=false:=by decide):S4 (S8 X.prog X.w) X.A (Tf (.Name x pos) X.env) Q E s :=
 Zt I.ok.kind B (Calls.loadGlobal_global (by rw [I.ok.glob];exact I.mod.glob.keeps I.bk) D h) hd
theorem Fe {E:Value->S0->Prop}{pins:List (Addr×Obj)}{s:S0}{σ:St}{H:Hp}{x:Str}{u:Value}{pos:Pos}{Q:Value->S0->Prop}(I:Ae X pins σ H s)(B:Gl X x)(D:X.mg x=none)(hv:Uo x=some u)(h:Q u s)(J:x≠"__name__":=by decide)(hd:(x == ("__debug__":Str))=false:=by decide):S4 (S8 X.prog X.w) X.A (Tf (.Name x pos) X.env) Q E s:=by obtain ⟨V,L,O⟩:=Ao I.mod.blt;exact Zt I.ok.kind B (Calls.loadGlobal_builtin (by rw [I.ok.glob];exact I.mod.glob.keeps I.bk) D (by rw [I.ok.blt];exact L.keeps I.bk) ((O x J).trans hv) h) hd
theorem Aam {x:Str}{v:V}{u:Value}{pos:Pos}(B:Gl X x)(D:X.mg x=some u)(r:Ay v u)(hd:(x == ("__debug__":Str))=false:=by decide):PE X (.Name x pos) (tC v) :=
 λ_ _ _ H _ I h=>Ib I B D ⟨v,H,I,r,h⟩ hd
theorem Aan {x:Str}{v:V}{u:Value}{pos:Pos}(B:Gl X x)(D:X.mg x=none)(hv:Uo x=some u)(r:Ay v u)(J:x≠"__name__":=by decide)(hd:(x == ("__debug__":Str))=false:=by decide):PE X (.Name x pos) (tC v) :=
 λ_ _ _ H _ I h=>Fe I B D hv ⟨v,H,I,r,h⟩ J hd
variable {a b:S7}{ta tb:TE}{pos:Pos}
def tB (t:TE):TT:=λσ H Q=>t σ H λx H1=>∃ c,x=.bl c/\Q c H1
theorem Dk {e:S7}{t:TE}(h:PE X e t)(J:∀ B,WQ e X.env B=(do let v <- B;UW e.pos;UN [v] (truthy v)):=by intro _;rfl):PT X e (tB t):=by
 intro pins s σ H Q I hw;refine isTrue_plain (Al (h pins s σ H _ I hw) λv s1 L=>AG L λx O V Y D=>?_) (J _);replace D:=Ao D;obtain ⟨d,rfl,q⟩:=D
 cases Y;exact V5 ⟨O,V,q⟩
variable {tA jJ:TT}{rest:List S7}
def Aao (t u:TT):TT:=λσ H Q=>t σ H λc H1=>if c=true then u σ H1 Q else Q false H1
def tOr (t u:TT):TT:=λσ H Q=>t σ H λc H1=>if c=true then Q true H1 else u σ H1 Q
def Aap (t:TT):TT:=λσ H Q=>t σ H λc H1=>Q (!c) H1
theorem Ke (B:PT X a tA):PW X (.BoolOp .And [a] pos) tA:=by
 intro D pins s σ H Q I h;refine isTrue_and (Al (B pins s σ H Q I h) λc J e=>?_);cases c with
 | true=>exact isTrue_and_nil e
 | false=>exact e
theorem Gs (B:PT X a tA):PW X (.BoolOp .Or [a] pos) tA:=by
 intro D pins s σ H Q I h;refine isTrue_or (Al (B pins s σ H Q I h) λc J e=>?_);cases c with
 | false=>exact isTrue_or_nil e
 | true=>exact e
theorem Kf (L:PT X a tA)(hb:PW X (.BoolOp .And (b :: rest) pos) jJ):PW X (.BoolOp .And (a :: b :: rest) pos) (Aao tA jJ):=by
 intro O pins s σ H Q I h;refine isTrue_and (Al (L pins s σ H _ I h) λc V Y=>Cu Y λB D J=>?_);cases c with
 | true=>exact hb O pins V σ B Q D J
 | false=>exact ⟨B,D,J⟩
theorem Gu (L:PT X a tA)(hb:PW X (.BoolOp .Or (b :: rest) pos) jJ):PW X (.BoolOp .Or (a :: b :: rest) pos) (tOr tA jJ):=by
 intro O pins s σ H Q I h;refine isTrue_or (Al (L pins s σ H _ I h) λc V Y=>Cu Y λB D J=>?_);cases c with
 | true=>exact ⟨B,D,J⟩
 | false=>exact hb O pins V σ B Q D J
theorem Dv (B:PT X a tA):PT X (.UnaryOp .Not a pos) (Aap tA):=by intro pins s σ H Q I h;exact isTrue_not (B pins s σ H (λc D=>Q (!c) D) I h)
def Aaq (ta tb:TE):TE:=λσ H Q=>ta σ H λx H1=>∃ c,x=.bl c/\if c=true then tb σ H1 Q else Q (.bl false) H1
def Aar (ta:TE):TE:=λσ H Q=>ta σ H λx H1=>∃ c,x=.bl c/\Q (.bl (!c)) H1
theorem Ic {op} {t:TE} (h:PE X a t):PE X (.BoolOp op [a] pos) t:=λpins s σ H Q I hw=>BoolOp_one (h pins s σ H Q I hw)
theorem Gv (L:PE X a ta)(hb:PE X (.BoolOp .And (b :: rest) pos) tb):PE X (.BoolOp .And (a :: b :: rest) pos) (Aaq ta tb):=by
 intro pins s σ H Q I h;refine BoolOp_and (Al (L pins s σ H _ I h) λv O V=>AG V λx D J Y B=>?_);replace B:=Ao B;obtain ⟨c,rfl,B⟩:=B
 cases Y;refine V5 ?_;cases c with
 | true=>exact hb pins O σ D Q J B
 | false=>exact ⟨.bl false,D,J,rfl,B⟩
theorem Aas (D:PE X a ta):PE X (.UnaryOp .Not a pos) (Aar ta):=by
 intro pins s σ H Q I h;refine UnaryOp_ (Al (D pins s σ H _ I h) λv Y J=>AG J λx L O V B=>?_);replace B:=Ao B;obtain ⟨c,rfl,B⟩:=B
 cases V;exact not_of (V5 ⟨.bl (!c),L,O,rfl,B⟩)
def tIf (t:TT)(ta tb:TE):TE:=λσ H Q=>t σ H λc H1=>if c=true then ta σ H1 Q else tb σ H1 Q
theorem M5 {c:S7}(hc:PT X c tA)(O:PE X a ta)(hb:PE X b tb):PE X (.IfExp c a b pos) (tIf tA ta tb):=by
 intro pins s σ H Q I h;refine wpAny_IfExp (Al (hc pins s σ H _ I h) λd B V=>Cu V λD J L=>?_);cases d with
 | true=>exact O pins B σ D Q J L
 | false=>exact hb pins B σ D Q J L
end
def Ba (K:S3)(H:Hp)(a:Addr)(xs:List V):Prop :=
 Rd H a (.lst xs) \/
  ∃(o:Obj)(its:Array Value)(n:Nat),K.lookup a=some o/\o.cls=.type "list"/\o.dict=none/\o.data=.seq its n/\its.size<=sizeLine/\Aw xs its.toList
def Bh (K:S3)(H:Hp)(a:Addr)(xs:List V):Prop :=
 Rd H a (.tup xs) \/
  ∃(o:Obj)(its:Array Value)(n:Nat),K.lookup a=some o/\o.cls=.type "tuple"/\o.data=.seq its n/\its.size<=sizeLine/\Aw xs its.toList
noncomputable def Aat:Value->Option V
 | .none=>some .aa
 | .bool b=>some (.bl b)
 | .int i _=>some (.int i)
 | .str x _=>some (.str x)
 | .bytes b _=>some (.cu b)
 | .float b _=>some (.fJ b)
 | .ref a=>some (.ref a)
 | .type n=>some (.ty n)
 | _=>none
theorem Ay.abs {x:V}{u:Value}(r:Ay x u):Aat u=some x:=by
 cases x with
 | aa=>cases r;rfl
 | bl _=>cases r;rfl
 | int _=>obtain ⟨t,rfl⟩:=r;rfl
 | str _=>obtain ⟨t,rfl⟩:=r;rfl
 | cu _=>obtain ⟨t,rfl⟩:=r;rfl
 | fJ _=>obtain ⟨t,rfl⟩:=r;rfl
 | ref _=>cases r;rfl
 | ty _=>cases r;rfl
theorem Ay.inj {x y:V}{u:Value}(r:Ay x u)(q:Ay y u):x=y:=Ts (r.abs.symm.trans q.abs)
theorem Aw.inj:∀{xs ys:List V}{us:List Value},Aw xs us->Aw ys us->xs=ys
 | _,_,_,.nil,.nil=>rfl
 | _,_,_,.cons r t,.cons B D=>by rw [r.inj B,Aw.inj t D]
section
variable {X:Cx}{pins:List (Addr×Obj)}{σ:St}{H:Hp}{s:S0}{a:Addr}{xs ys:List V}
theorem Ba.of {K:S3}(h:H a=some (.lst xs)):Ba K H a xs:=.inl (.inl h)
theorem Bh.of {K:S3}(h:H a=some (.tup xs)):Bh K H a xs:=.inl (.inl h)
theorem Ae.list (I:Ae X pins σ H s)(h:Ba X.K H a xs):∃ its:List Value,Aw xs its/\PlainL s.heap a its.toArray/\xs.length<=sizeLine:=by
 rcases h with h | ⟨o,its,n,hk,hc,hd,hs,B,r⟩
 .obtain ⟨z,its,n,r,e⟩:=h.ok I.af;exact ⟨its,r,⟨_,n,e,rfl,rfl,rfl⟩,z⟩
 .refine ⟨its.toList,r,⟨o,n,I.aN a o hk,hc,hd,by simpa using hs⟩,?_⟩;have e:=r.length;simp only [UE] at e;omega
theorem Ae.tuple (I:Ae X pins σ H s)(h:Bh X.K H a xs):∃ its:List Value,Aw xs its/\IsTup s.heap a its.toArray/\xs.length<=sizeLine:=by
 rcases h with h | ⟨o,its,n,hk,hc,hs,B,r⟩
 .obtain ⟨z,its,r,p⟩:=h.ok I.af;exact ⟨its,r,p,z⟩
 .refine ⟨its.toList,r,⟨o,I.aN a o hk,hc,n,by simpa using hs⟩,?_⟩;have e:=r.length;simp only [UE] at e;omega
theorem Ae.o3 (I:Ae X pins σ H s)(h:Ba X.K H a xs)(h':Ba X.K H a ys):xs=ys:=by
 obtain ⟨its,r,⟨o,n,e,_,_,d⟩,_⟩:=AD (I.list h);obtain ⟨B,L,⟨Y,n',D,_,_,J⟩,_⟩:=AD (I.list h');rw [e] at D;cases D;rw [d] at J;injection J with O _;have:its=B:=by simpa using congrArg Array.toList O
 subst this;exact r.inj L
theorem Ae.o4 (I:Ae X pins σ H s)(h:Bh X.K H a xs)(h':Bh X.K H a ys):xs=ys:=by
 obtain ⟨its,r,⟨o,e,_,n,d⟩,_⟩:=AD (I.tuple h);obtain ⟨B,L,⟨Y,D,_,n',J⟩,_⟩:=AD (I.tuple h');rw [e] at D;cases D;rw [d] at J;injection J with O _;have:its=B:=by simpa using congrArg Array.toList O
 subst this;exact r.inj L
end
noncomputable abbrev Cx.dw (X:Cx)(E:Value->S0->Prop):Cx:={ X with xe:=E }
noncomputable abbrev Cx.jK (X:Cx):Cx:=X.dw λ_ _=>False
theorem Cx.Ok.dw {X:Cx}(ok:X.Ok)(E:Value->S0->Prop):(X.dw E).Ok :=
 ⟨ok.mod,ok.kind,ok.glob,ok.blt,ok.above,ok.inj,ok.has,ok.gO,ok.hd,ok.frames,ok.iw,ok.gP,ok.bs,ok.dR,ok.gQ,ok.eW,ok.cw,ok.eX⟩
theorem Cx.Ok.fe {X:Cx}{E:Value->S0->Prop}(ok:(X.dw E).Ok):X.Ok :=
 ⟨ok.mod,ok.kind,ok.glob,ok.blt,ok.above,ok.inj,ok.has,ok.gO,ok.hd,ok.frames,ok.iw,ok.gP,ok.bs,ok.dR,ok.gQ,ok.eW,ok.cw,ok.eX⟩
section
variable {X:Cx}{pins:List (Addr×Obj)}{σ:St}{H:Hp}{s:S0}{E:Value->S0->Prop}
theorem Ae.dw (I:Ae X pins σ H s)(E:Value->S0->Prop):Ae (X.dw E) pins σ H s:=⟨I.ok.dw E,I.os,I.bare,I.base,I.loc,I.cell,I.free,I.cx,I.pin,I.af,I.len⟩
theorem Ae.fe (I:Ae (X.dw E) pins σ H s):Ae X pins σ H s:=⟨I.ok.fe,I.os,I.bare,I.base,I.loc,I.cell,I.free,I.cx,I.pin,I.af,I.len⟩
theorem SP.fe {D:CV}{f:Flow}{J:S0}(h:SP (X.dw E) pins D f J):SP X pins D f J:=by
 cases f with
 | next=>obtain ⟨σ',B,I,q⟩:=Bl h;exact ⟨σ',B,I.fe,q⟩
 | brk=>obtain ⟨σ',B,I,q⟩:=Bl h;exact ⟨σ',B,I.fe,q⟩
 | cont=>obtain ⟨σ',B,I,q⟩:=Bl h;exact ⟨σ',B,I.fe,q⟩
 | ret u=>obtain ⟨v,σ',B,I,r,q⟩:=CU h;exact ⟨v,σ',B,I.fe,r,q⟩
theorem CW.jK {st:List Stmt}{t:TS}(h:CW X.jK st t):CW X st t:=λpins s σ H D I hw =>
 U4 (h pins s σ H D (I.dw _) hw) (λ_ _ q=>q.fe) λ_ _ z=>UX z
end
section
variable {X:Cx}{st:Stmt}{rest:List Stmt}{t u:TS}{e:S7}{te:TE}{pos:Pos}
def Aau:TS:=λD σ H=>D.nx σ H
def Kg (t u:TS):TS:=λD σ H=>t { D with nx:=u D } σ H
theorem A4:CW X [] Aau:=λ_ _ σ H _ I h=>Xk ⟨σ,H,I,h⟩
theorem Aj (B:PS X st t)(J:CW X rest u):CW X (st :: rest) (Kg t u):=by
 intro pins s σ H D I h;refine Zu (Al (B pins s σ H { D with nx:=u D } I h) λf L q=>?_);cases f with
 | next =>
  replace q:=Bl q;obtain ⟨σ',O,V,q⟩:=q
  exact J pins L σ' O D V q
 | ret v=>exact q
 | brk=>exact q
 | cont=>exact q
theorem Am (B:PS X st t):CW X [st] t:=by
 intro pins s σ H D I h;refine Zu (Al (B pins s σ H D I h) λf J q=>?_);cases f with
 | next=>exact Xk q
 | ret v=>exact q
 | brk=>exact q
 | cont=>exact q
theorem Ae.quiet {pins:List (Addr×Obj)}{σ:St}{H:Hp}{s:S0}(I:Ae X pins σ H s):interactive X.env=false:=by simp [interactive,I.ok.kind]
def Aav (te:TE):TS:=λD σ H=>te σ H λ_ H1=>D.nx σ H1
theorem Bj (B:PE X e te)(hs:V6 e none pos.line X.env=pure false:=by rfl):PS X (.Expr e pos) (Aav te):=by intro pins s σ H D I h;exact wpAny_Expr_any (Al (B pins s σ H _ I h) λv Y J=>AG J λx L O r1 V=>⟨σ,L,O,V⟩) I.quiet hs
def Aaw (te:TE):TS:=λD σ H=>te σ H D.rt
theorem AM (B:PE X e te):PS X (.Return (some e) pos) (Aaw te):=by intro pins s σ H D I h;exact wpAny_Return_some (Al (B pins s σ H _ I h) λv s1 J=>AG J λx L O V Y=>⟨x,σ,L,O,V,Y⟩)
def Aax (c:TT)(t u:TS):TS:=λD σ H=>c σ H λb H1=>if b=true then t D σ H1 else u D σ H1
theorem AY {c:S7}{a b:List Stmt}{B:TT}(hc:PT X c B)(Y:CW X a t)(hb:CW X b u):PS X (.If c a b pos) (Aax B t u):=by
 intro pins s σ H D I h;refine wpAny_If (Al (hc pins s σ H _ I h) λd J zz=>Cu zz λL O V=>?_);cases d with
 | true=>exact Y pins J σ L D O V
 | false=>exact hb pins J σ L D O V
end
abbrev TG:=V->St->Hp->(St->Hp->Prop)->Prop
abbrev Ex:=List V->St->Hp->(St->Hp->Prop)->Prop
def PG (X:Cx)(target:S7)(t:TG):Prop :=
 ∀(pins:List (Addr×Obj))(s:S0)(σ:St)(H:Hp)(v:V)(u:Value)(Q:St->Hp->Prop),Ae X pins σ H s->Ay v u->t v σ H Q ->
  S4 (S8 X.prog X.w) X.A (Vb target X.env u) (λ_ s'=>∃ σ' H',Ae X pins σ' H' s'/\Q σ' H') X.xe s
def Gw (X:Cx)(ts:List S7)(t:Ex):Prop :=
 ∀(pins:List (Addr×Obj))(s:S0)(σ:St)(H:Hp)(vs:List V)(us:List Value)(Q:St->Hp->Prop),Ae X pins σ H s->Aw vs us->t vs σ H Q ->
  S4 (S8 X.prog X.w) X.A (assignInOrder ((VC ts X.env).map (·.2)) us) (λ_ s'=>∃ σ' H',Ae X pins σ' H' s'/\Q σ' H') X.xe s
abbrev Gx:=V->V->V->Hp->(Hp->Prop)->Prop
def Kh (X:Cx)(t:Gx):Prop :=
 ∀(pins:List (Addr×Obj))(s:S0)(σ:St)(H:Hp)(o i v:V)(ov iv u:Value)(Q:Hp->Prop),Ae X pins σ H s->Ay o ov->Ay i iv->Ay v u->t o i v H Q ->
  S4 (S8 X.prog X.w) X.A (Xl ov iv u) (λ_ s'=>∃ H',Ae X pins σ H' s'/\Q H') X.xe s
abbrev Ie:=V->V->Hp->VK->Prop
def M6 (X:Cx)(op:WR)(t:Ie):Prop :=
 ∀(pins:List (Addr×Obj))(s:S0)(σ:St)(H:Hp)(x y:V)(v u:Value)(Q:VK),Ae X pins σ H s->Ay x v->Ay y u->t x y H Q ->
  S4 (S8 X.prog X.w) X.A (inplaceOp op v u) (EP X pins σ Q) X.xe s
section
variable {X:Cx}{pos:Pos}
def DU (i:Nat):TG:=λv σ H Q=>Q (σ.set i (some v)) H
theorem Aay {i:Nat}{x:Str}(B:X.N.Nodup)(D:X.N[i]?=some x)(hx:Gq X.env.scope x)(J:X.fn x=true\/X.env.scope.names.lookup x=some .local:=by first | exact .inl rfl | exact .inr rfl | assumption):PG X (.Name x pos) (DU i):=by intro pins s σ H v u Q I r h;exact Zv (M4 I B D hx r (λO L=>⟨_,H,L,h⟩) J)
def Aaz:Ex:=λvs σ H Q=>vs=[]/\Q σ H
def AaA (t:TG)(u:Ex):Ex:=λvs σ H Q=>∃ v r,vs=v :: r/\t v σ H λσ' H'=>u r σ' H' Q
theorem DD:Gw X [] Aaz:=by intro pins s σ H vs B Q I r h;obtain ⟨e,h⟩:=h;subst e;cases r;exact assignInOrder_nil ⟨σ,H,I,h⟩
theorem B5 {e:S7}{es:List S7}{t:TG}{u:Ex}(B:PG X e t)(D:Gw X es u)(hs:(VC (e :: es) X.env).map (·.2)=Vb e X.env :: (VC es X.env).map (·.2):=by rfl):Gw X (e :: es) (AaA t u):=by
 intro pins s σ H vs us Q I r h;replace h:=Bl h;obtain ⟨v,vr,J,h⟩:=h
 subst J;cases r with
 | cons r L =>
  rw [hs];refine assignInOrder_cons (Al (B pins s σ H _ _ _ I r h) λ_ O V=>Gi V λσ1 Y I1 q1=>?_);exact D pins O σ1 Y _ _ Q I1 L q1
def M7 (K:S3)(n:Nat)(t:Ex):TG:=λv σ H Q=>∃ a xs,v=.ref a/\Bh K H a xs/\xs.length=n/\t xs σ H Q
theorem Ey {es:List S7}{k:Nat}{t:Ex}{n:Nat}(hc:X.calm=true)(h:Gw X es t)(D:(VC es X.env).length=n:=by rfl)(J:(VC es X.env).findIdx? (·.1)=none:=by rfl):PG X (.Tuple es k pos) (M7 X.K n t):=by
 intro pins s σ H v u Q I r hw;replace hw:=Bi hw;obtain ⟨a,L,O,hq,V,hw⟩:=hw
 subst O;cases r;obtain ⟨its,B,Y,hz⟩:=AD (I.tuple hq);refine assign_Tuple_tuple (I.ok.hd hc) Y (by simp [D,<- V,B.length]) J λh' hx=>?_;have I1:Ae X pins σ H { s with heap:=h' }:=I.kept (t':=s.toks) λb o e=>hx b o (TK (Tv e)) e;exact h pins _ σ H L _ Q I1 (by simpa using B) hw
def AaB (to ti:TE)(t:Gx):TG:=λv σ H Q=>to σ H λo H1=>ti σ H1 λi H2=>t o i v H2 λH3=>Q σ H3
theorem Gy {o i:S7}{L O:TE}{t:Gx}(V:PE X o L)(Y:PE X i O)(hs:Kh X t)(ha:∀ v,Vb (.Subscript o i pos) X.env v=(do
   let B <- UN [v] (Tf o X.env)
   let D <- UN [v,B] (Tf i X.env)
   UW pos
   UN [v,B,D] (Xl B D v)
   release [v,B,D] []):=by intro _;rfl):PG X (.Subscript o i pos) (AaB L O t):=by
 intro pins s σ H v u Q I r h;rw [ha];refine S5 (U5 (Al (V pins s σ H _ I h) λB s1 J=>AG J λx H1 I1 r1 q1=>?_));refine S5 (U5 (Al (Y pins s1 σ H1 _ I1 q1) λD s2 J=>AG J λy H2 I2 r2 q2=>?_));refine S5 (Vr (S5 (U5 (Al (hs pins s2 σ H2 x y v B D u _ I2 r1 r2 r q2) λ_ s3 J=>Cu J λH3 I3 q3=>?_))));exact wpAny_release ⟨σ,H3,I3,q3⟩
def FN (te:TE)(g:TG):TS:=λD σ H=>te σ H λx H1=>g x σ H1 D.nx
theorem Ea {B e:S7}{J:TE}{g:TG}(L:PE X e J)(O:PG X B g)(hs:swapsWithSole [B] e pos.line X.env=pure false:=by rfl)(hw:swappedStores [B] e X.env=pure none:=by rfl)(V:(VC [B] X.env).map (·.2)=[Vb B X.env]:=by rfl):PS X (.Assign [B] e pos) (FN J g):=by intro pins s σ H D I h;refine wpAny_Assign_stores (Al (L pins s σ H _ I h) λv Y zz=>AG zz λx H1 I1 r1 q1=>?_) hs hw;rw [V];exact Al (O pins Y σ H1 x v _ I1 r1 q1) λ_ s2 q=>q
theorem M8 {i:Nat}{x:Str}{e:S7}{J:TE}{B:Pos}(L:X.N.Nodup)(O:X.N[i]?=some x)(hx:Gq X.env.scope x)(V:PE X e J)(hs:V6 e (some (.Name x B)) pos.line X.env=pure false:=by rfl)(Y:X.fn x=true\/X.env.scope.names.lookup x=some .local:=by first | exact .inl rfl | exact .inr rfl | assumption) :
  PS X (.Assign [.Name x B] e pos) (FN J (DU i)):=by
 intro pins s σ H D I h;refine wpAny_Assign_Name (Al (V pins s σ H _ I h) λv s1 zz=>AG zz λy H1 I1 r1 q1=>?_) hs;exact M4 I1 L O hx r1 (λs2 I2=>⟨_,H1,I2,q1⟩) Y
def AaC (to ti te:TE)(jL:V->V->Hp->VK->Prop)(jM:Ie)(jN:Gx):TS:=λD σ H=>to σ H λo H1=>ti σ H1 λi H2=>jL o i H2 λx H3=>te σ H3 λy H4=>jM x y H4 λz H5=>jN o i z H5 λH6=>D.nx σ H6
def M9 (X:Cx)(t:V->V->Hp->VK->Prop):Prop :=
 ∀(pins:List (Addr×Obj))(s:S0)(σ:St)(H:Hp)(o i:V)(ov iv:Value)(Q:VK),Ae X pins σ H s->Ay o ov->Ay i iv->t o i H Q ->
  S4 (S8 X.prog X.w) X.A (VD ov iv) (EP X pins σ Q) X.xe s
theorem Na {o i e:S7}{Y ti te:TE}{jL:V->V->Hp->VK->Prop}{jM:Ie}{jN:Gx}{op:WR}{jO:Pos}(ho:PE X o Y)(hi:PE X i ti)(hg:M9 X jL)(he:PE X e te)(hp:M6 X op jM)(hs:Kh X jN)(ha:∀ J L new,augStore i J L new=(do UN [new,J,L] (Xl J L new);release [new,J,L] [];pure .next):=by intros;rfl):PS X (.AugAssign (.Subscript o i jO) op e pos) (AaC Y ti te jL jM jN):=by intro pins s σ H D I h;refine wpAny_AugAssign_SubscriptAny (Al (ho pins s σ H _ I h) λJ s1 B=>AG B λx1 H1 I1 r1 q1=>?_) ha;refine Al (hi pins s1 σ H1 _ I1 q1) λL s2 B=>AG B λx2 H2 I2 r2 q2=>?_;refine Al (hg pins s2 σ H2 x1 x2 J L _ I2 r1 r2 q2) λO s3 B=>AG B λx3 H3 I3 r3 q3=>?_;refine Al (he pins s3 σ H3 _ I3 q3) λv s4 B=>AG B λx4 H4 I4 r4 q4=>?_;refine Al (hp pins s4 σ H4 x3 x4 O v _ I4 r3 r4 q4) λnew s5 B=>AG B λx5 H5 I5 r5 q5=>?_;exact Al (hs pins s5 σ H5 x1 x2 x5 J L new _ I5 r1 r2 r5 q5) λ_ s6 B=>Cu B λH6 I6 q6=>⟨σ,H6,I6,q6⟩
def ipI (f:Int->Int->Int):Ie:=λx y H Q=>∃ i j,x=.int i/\y=.int j/\Q (.int (f i j)) H
theorem Nb:M6 X .Add (ipI λi j=>i+j):=by intro pins s σ H x y v u Q I B D h;obtain ⟨i,j,J,L,q⟩:=Bi h;subst J;subst L;obtain ⟨t,rfl⟩:=B;obtain ⟨O,rfl⟩:=D;exact iadd_int ⟨.int _,H,I.tok _,⟨_,rfl⟩,q⟩
end
section
variable {X:Cx}{pos:Pos}
def AaD (c:TT)(tb:TS):TS:=λD σ H=>∃ W:Nat->St->Hp->Prop,(∃ m,W m σ H)/\∀ m σ H,W m σ H ->
 c σ H λb H1=>if b=true then ∃ N:St->Hp->Prop,(∀ σ' H',N σ' H'->∃ m',m'<m/\W m' σ' H')/\tb { D with nx:=N,ct:=N,bk:=D.nx } σ H1 else D.nx σ H1
theorem AaE {c:S7}{body:List Stmt}{tc:TT}{tb:TS}(hp:Ye (S8 X.prog X.w) X.A X.env X.xe)(hc:PT X c tc)(hb:CW X body tb):PS X (.While c body [] pos) (AaD tc tb):=by
 intro pins s σ H D I h;obtain ⟨W,⟨m0,w0⟩,turn⟩:=Ao h;refine wpAny_While (codeAny_whileLoop (λn s'=>∃ σ' H',Ae X pins σ' H' s'/\W n σ' H') ?_ m0 ⟨σ,H,I,w0⟩);rintro n s1 ⟨σ1,H1,I1,w1⟩;refine V7 hp (Al (hc pins s1 σ1 H1 _ I1 (turn n σ1 H1 w1)) λb s2 zz=>Cu zz λH2 I2 B=>?_);cases b with
 | true =>
  replace B:=Ao B;obtain ⟨N,hN,B⟩:=B
  rw [if_pos rfl];refine V7 hp (Al (hb pins s2 σ1 H2 _ I2 B) λf s3 L=>?_);cases f with
  | next =>
   obtain ⟨σ3,J,O,V⟩:=Bl L;obtain ⟨m',Y,w3⟩:=Ao (hN σ3 J V);exact ⟨m',Y,σ3,J,O,w3⟩
  | cont =>
   obtain ⟨σ3,J,O,V⟩:=Bl L;obtain ⟨m',Y,w3⟩:=Ao (hN σ3 J V);exact ⟨m',Y,σ3,J,O,w3⟩
  | brk=>exact L
  | ret v=>exact L
 | false =>
  rw [if_neg T7];exact Xk ⟨σ1,H2,I2,B⟩
end
structure It where
 go:Nat->Hp->Prop
 bM:Nat->Hp->V->Hp->Prop
 stop:Nat->Hp->Prop
def CY (X:Cx)(pins:List (Addr×Obj))(H:Hp)(b:Addr):Prop :=
 H b=none/\b≠X.env.locals/\b ∉ X.fs/\(b∈X.ex\/X.s₀.heap.objs.size<=b)/\(∀ x c,X.env.cells.lookup x=some c->c≠b)/\∀ p∈X.pn++pins,p.1≠b
theorem Ae.dW {X:Cx}{pins:List (Addr×Obj)}{σ:St}{H B:Hp}{s:S0}{b:Addr}(I:Ae X pins σ H s)(hb:s.heap.objs.size<=b)(D:B b=none):CY X pins B b:=by
 refine ⟨D,VE (TY I.lt hb),I.aac hb,.inr (Uk I.sz hb),λx c e z=>?_,λp J z=>?_⟩
 .obtain ⟨v,q⟩:=I.cell x c e;exact absurd (TY q.lt (by rw [z];exact hb)) (UM _)
 .exact absurd (TY (Tv (I.pin p J).1) (by rw [z];exact hb)) (UM _)
structure Ez (P:Ta)(w:S6)(K:S3)(tg:S7)(J:It)(fp:List Addr)(it:Addr)(tn:Nat->Heap->Prop):Prop where
 mem:it∈fp
 obj:∀ i h,tn i h->∀ b∈fp,∃ o,h.get? b=some o/\∀ v,o.data≠.cell v
 keep:∀ i h h',tn i h->(∀ b∈fp,∀ o,h.get? b=some o->h'.get? b=some o)->tn i h'
 item:∀(X:Cx),X.prog=P->X.w=w->X.K=K->X.calm=true->∀(i:Nat)(pins:List (Addr×Obj))(s:S0)(σ:St)(H:Hp)(E:Value->S0->Prop),Ae X pins σ H s->(∀ b∈fp,CY X pins H b)->tn i s.heap->J.go i H ->
  S4 (S8 P w) X.A (U6 (.ref it)) (λr s1=>∃ u,r=some u /\
   S4 (S8 P w) X.A (V8 tg (.ref it) u) (λ_ s2=>∃ x H',Ae X pins σ H' s2/\Ay x u/\J.bM i H x H'/\tn (i+1) s2.heap/\∀ b∈fp,H' b=none) E s1) E s
 done:∀(X:Cx),X.prog=P->X.w=w->X.K=K->X.calm=true->∀(i:Nat)(pins:List (Addr×Obj))(s:S0)(σ:St)(H:Hp)(E:Value->S0->Prop),Ae X pins σ H s->(∀ b∈fp,CY X pins H b)->tn i s.heap->J.stop i H ->
  S4 (S8 P w) X.A (U6 (.ref it)) (λr s1=>r=none/\Ae X pins σ H s1) E s
 self:∀(A:Tt)(i:Nat)(s:S0)(Q:Value->S0->Prop)(E:Value->S0->Prop),tn i s.heap->Q (.ref it) s->S4 (S8 P w) A (WS (.ref it)) Q E s
abbrev TI:=St->Hp->(It->Hp->Prop)->Prop
def Nc (X:Cx)(pins:List (Addr×Obj))(σ:St)(tg:S7)(R:It->Hp->Prop)(iy:Value)(s2:S0):Prop :=
 ∃(it:Addr)(fp:List Addr)(tn:Nat->Heap->Prop)(J:It)(H':Hp),iy=.ref it/\Ae X pins σ H' s2/\Ez X.prog X.w X.K tg J fp it tn/\tn 0 s2.heap/\(∀ b∈fp,CY X pins H' b)/\R J H'
def PI (X:Cx)(tg iter:S7)(wi:TI):Prop :=
 ∀(pins:List (Addr×Obj))(s:S0)(σ:St)(H:Hp)(R:It->Hp->Prop),Ae X pins σ H s->wi σ H R ->
  S4 (S8 X.prog X.w) X.A (Tf iter X.env) (λv s1=>S4 (S8 X.prog X.w) X.A (WS v) (Nc X pins σ tg R) X.xe s1) X.xe s
theorem Gz {M:VB}{A:Tt}{E:Value->S0->Prop}{s:S0}{D:S7}{it:Addr}{u:Value}{o:Obj}{n:String}{vs:Array Value}{Q:Unit->S0->Prop}(H:s.heap.get? it=some o)(hc:o.cls=.type n)(hd:o.data=.fields vs)(I:["enumerate","zip","dict_itemiterator","dict_reverseitemiterator","odict_iterator","itertools.zip_longest","itertools.pairwise"].contains n=false)(B:Q () s):S4 M A (V8 D (.ref it) u) Q E s:=by
 unfold V8;cases D<;>first
  | exact Te B
  | (cases u<;>first
    | exact Te B
    | (refine S5 (wpAny_load H ?_)
       rw [hc,hd];show S4 M A (if (["enumerate","zip","dict_itemiterator","dict_reverseitemiterator","odict_iterator","itertools.zip_longest","itertools.pairwise"].contains n && vs[0]? == some (V9 _))=true then _ else _) Q E s;rw [if_neg (by intro h;rw [I,Bool.false_and] at h;cases h)];exact Te B))
def DE (K:S3)(a:Addr):It :=
 ⟨λi H=>∃ xs x,Ba K H a xs/\xs[i]?=some x,λi H x H'=>H'=H/\∀ xs,Ba K H a xs->xs[i]?=some x,λi H=>∃ xs,Ba K H a xs/\xs.length<=i⟩
def EA (K:S3)(a:Addr):It :=
 ⟨λi H=>∃ xs x,Bh K H a xs/\xs[i]?=some x,λi H x H'=>H'=H/\∀ xs,Bh K H a xs->xs[i]?=some x,λi H=>∃ xs,Bh K H a xs/\xs.length<=i⟩
def DV (lo:Int)(n:Nat):It:=⟨λi _=>i<n,λi H x H'=>H'=H/\x=.int (lo+i),λi _=>n<=i⟩
theorem AaF {P:Ta}{w:S6}{K:S3}{tg:S7}(a it:Addr):Ez P w K tg (DE K a) [it] it (λi h=>h.IsListIter it a i) where
 mem:=by simp
 obj:=λi h st b hb=>by
  have e:b=it:=by simpa using hb
  subst e;obtain ⟨o,e,c,d⟩:=AD st;exact ⟨o,e,λv z=>by rw [d] at z;cases z⟩
 keep:=λi h B st k=>st.at λo e=>k it (by simp) o e
 item:=by intro X J hw L hc i pins s σ H E I D st O;subst J hw L;obtain ⟨xs,x,hq,hx⟩:=Bl O;obtain ⟨its,V,p,hz⟩:=AD (I.list hq);obtain ⟨u,hu,ru⟩:=Ao (V.get hx);obtain ⟨Y,f1,f2,f3,f4,f5⟩:=AQ (D it (by simp));refine wpAny_pyNext_list_item st p.isList (x:=u) (by simpa using hu) λB bo sb=>?_;have I1:Ae X pins σ H { s with heap:=B }:=I.turned (t':=s.toks) (λb o hb e=>(sb.2 b hb).trans e) Y f1 f3 f4 f5;obtain ⟨o,e,c,d⟩:=AD (id bo);exact ⟨u,rfl,Gz (s:={ s with heap:=B }) e c d (by decide) ⟨x,H,I1,ru,⟨rfl,λys hy=>by rw [I.o3 hy hq];exact hx⟩,bo,λb hb=>(D b hb).1⟩⟩
 done:=by intro X J hw L hc i pins s σ H E I D st O;subst J hw L;obtain ⟨xs,hq,hx⟩:=Ao O;obtain ⟨its,V,p,hz⟩:=AD (I.list hq);obtain ⟨Y,f1,f2,f3,f4,f5⟩:=AQ (D it (by simp));have hl:=V.length;exact wpAny_pyNext_list_end (I.ok.hd hc) st p.isList (by simp;omega) λB eb=>⟨rfl,I.turned (t':=s.toks) (λb o hb e=>eb b o hb e) Y f1 f3 f4 f5⟩
 self:=λ_ _ _ _ _ st h=>wpAny_pyIter_listiter st h
theorem AaG {P:Ta}{w:S6}{K:S3}{tg:S7}(a it:Addr):Ez P w K tg (EA K a) [it] it (λi h=>h.IsTupleIter it a i) where
 mem:=by simp
 obj:=λi h st b hb=>by
  have e:b=it:=by simpa using hb
  subst e;obtain ⟨o,e,c,d⟩:=AD st;exact ⟨o,e,λv z=>by rw [d] at z;cases z⟩
 keep:=λi h B st k=>st.at λo e=>k it (by simp) o e
 item:=by intro X J hw L hc i pins s σ H E I D st O;subst J hw L;obtain ⟨xs,x,hq,hx⟩:=Bl O;obtain ⟨its,V,p,hz⟩:=AD (I.tuple hq);obtain ⟨u,hu,ru⟩:=Ao (V.get hx);obtain ⟨Y,f1,f2,f3,f4,f5⟩:=AQ (D it (by simp));refine wpAny_pyNext_tuple_item st (show s.heap.IsTuple a its.toArray from p) (x:=u) (by simpa using hu) λB bo sb=>?_;have I1:Ae X pins σ H { s with heap:=B }:=I.turned (t':=s.toks) (λb o hb e=>(sb.2 b hb).trans e) Y f1 f3 f4 f5;obtain ⟨o,e,c,d⟩:=AD (id bo);exact ⟨u,rfl,Gz (s:={ s with heap:=B }) e c d (by decide) ⟨x,H,I1,ru,⟨rfl,λys hy=>by rw [I.o4 hy hq];exact hx⟩,bo,λb hb=>(D b hb).1⟩⟩
 done:=by intro X J hw L hc i pins s σ H E I D st O;subst J hw L;obtain ⟨xs,hq,hx⟩:=Ao O;obtain ⟨its,V,p,hz⟩:=AD (I.tuple hq);obtain ⟨Y,f1,f2,f3,f4,f5⟩:=AQ (D it (by simp));have hl:=V.length;exact wpAny_pyNext_tuple_end (I.ok.hd hc) st (show s.heap.IsTuple a its.toArray from p) (by simp;omega) λB eb=>⟨rfl,I.turned (t':=s.toks) (λb o hb e=>eb b o hb e) Y f1 f3 f4 f5⟩
 self:=λ_ _ _ _ _ st h=>wpAny_pyIter_tupleiter st h
theorem AaH {P:Ta}{w:S6}{K:S3}{tg:S7}(it:Addr)(lo:Int)(n:Nat):Ez P w K tg (DV lo n) [it] it (λi h=>IsRangeIter h it (lo+(i:Nat) * 1) ((n:Int) - (i:Nat)) 1) where
 mem:=by simp
 obj:=λi h st b hb=>by
  have e:b=it:=by simpa using hb
  subst e;exact ⟨_,st,λv z=>by
   have z':Data.fields _=Data.cell v:=z;cases z'⟩
 keep:=λi h B st k=>k it (by simp) _ st
 item:=by intro X J hw L hc i pins s σ H E I D st O;subst J hw L;obtain ⟨V,f1,f2,Y,f4,f5⟩:=AQ (D it (by simp));have W:=Walks.range (prog:=X.prog) (w:=X.w) (I.ok.hd hc) it lo 1 n;refine W.item i s _ _ O st λv B tk hv bo kk=>?_;obtain ⟨t,rfl⟩:=hv;have I1:Ae X pins σ H { s with heap:=B,toks:=tk }:=I.turned (λb o hb e=>kk b o (by simpa using hb) e) V f1 Y f4 f5;refine ⟨_,rfl,Gz (s:={ s with heap:=B,toks:=tk }) (n:="range_iterator") bo rfl rfl (by decide) ⟨.int (lo+i),H,I1,⟨t,?_⟩,⟨rfl,rfl⟩,bo,λb hb=>(D b hb).1⟩⟩;rw [Int.mul_one]
 done:=by intro X J hw L hc i pins s σ H E I D st O;subst J hw L;obtain ⟨V,f1,f2,Y,f4,f5⟩:=AQ (D it (by simp));exact wpAny_pyNext_range_end (I.ok.hd hc) st (by have:n<=i:=O;omega) λB eb=>⟨rfl,I.turned (t':=s.toks) (λb o hb e=>eb b o hb e) V f1 Y f4 f5⟩
 self:=λ_ _ _ _ _ st h=>wpAny_pyIter_rangeiter st h
section
variable {X:Cx}{tg:S7}
def AaI (K:S3)(tl:TE):TI:=λσ H R=>tl σ H λx H1=>∃ a,x=.ref a/\(∃ xs,Ba K H1 a xs)/\R (DE K a) H1
def AaJ (K:S3)(tl:TE):TI:=λσ H R=>tl σ H λx H1=>∃ a,x=.ref a/\(∃ xs,Bh K H1 a xs)/\R (EA K a) H1
theorem Eb {l:S7}{tl:TE}(J:PE X l tl):PI X tg l (AaI X.K tl):=by
 intro pins s σ H R I h;refine Al (J pins s σ H _ I h) λv B L=>AG L λx O D V Y=>?_;obtain ⟨a,e,⟨xs,hq⟩,q⟩:=AD Y;subst e;cases V;obtain ⟨its,rv,p,hz⟩:=AD (D.list hq);refine Yf p.isList ?_;refine ⟨B.heap.objs.size,[B.heap.objs.size],_,_,O,rfl,D.kept (t':=B.toks) λb o e=>TF _ e,AaF a _,⟨_,Uq _ rfl,rfl,rfl⟩,λb hb=>?_,q⟩;have e:b=B.heap.objs.size:=by simpa using hb
 subst e;exact D.dW (Ti _) (D.af.fresh (Ti _))
theorem Nd {l:S7}{tl:TE}(J:PE X l tl):PI X tg l (AaJ X.K tl):=by
 intro pins s σ H R I h;refine Al (J pins s σ H _ I h) λv B L=>AG L λx O D V Y=>?_;obtain ⟨a,e,⟨xs,hq⟩,q⟩:=AD Y;subst e;cases V;obtain ⟨its,rv,p,hz⟩:=AD (D.tuple hq);refine Yg (show B.heap.IsTuple a its.toArray from p) ?_;refine ⟨B.heap.objs.size,[B.heap.objs.size],_,_,O,rfl,D.kept (t':=B.toks) λb o e=>TF _ e,AaG a _,⟨_,Uq _ rfl,rfl,rfl⟩,λb hb=>?_,q⟩;have e:b=B.heap.objs.size:=by simpa using hb
 subst e;exact D.dW (Ti _) (D.af.fresh (Ti _))
theorem Nf {pins:List (Addr×Obj)}{σ:St}{H:Hp}{s:S0}{R:It->Hp->Prop}{E:Value->S0->Prop}{lo B:Int}{t u v:Tok}{tk:Nat}(I:Ae X pins σ H s)(J:-(2 ^ 62)<=lo)(L:lo<2 ^ 62)(O:-(2 ^ 62)<=B)(V:B<2 ^ 62)(q:R (DV lo (B - lo).toNat) H):S4 (S8 X.prog X.w) X.A (WS (.ref s.heap.objs.size)) (Nc X pins σ tg R) E { s with heap:=s.heap.push { cls:=.type "range",data:=.fields #[.int lo t,.int B u,.int 1 v] },toks:=tk }:=by
 refine wpAny_pyIter_range (IsRange.new ..) (small_one J L O V) ?_;have D:Ae X pins σ H { s with heap:=s.heap.push { cls:=.type "range",data:=.fields #[.int lo t,.int B u,.int 1 v] },toks:=tk }:=I.kept λb o e=>TF _ e;refine ⟨(s.heap.push { cls:=.type "range",data:=.fields #[.int lo t,.int B u,.int 1 v] }).objs.size,[(s.heap.push { cls:=.type "range",data:=.fields #[.int lo t,.int B u,.int 1 v] }).objs.size],_,_,H,rfl,
  D.kept (t':=tk) λb o e=>TF _ e,AaH _ lo (B - lo).toNat,?_,λb hb=>?_,q⟩
 .have Y:lo+((0:Nat):Int) * 1=lo:=by simp
  have e2:(((B - lo).toNat:Nat):Int) - ((0:Nat):Int)=Builtin.Range.rangeSize lo B 1:=by rw [rangeSize_one];split<;>omega
  show IsRangeIter _ _ (lo+((0:Nat):Int) * 1) ((((B - lo).toNat:Nat):Int) - ((0:Nat):Int)) 1;rw [Y,e2];exact Uq _ rfl
 .have e:b=(s.heap.push { cls:=.type "range",data:=.fields #[.int lo t,.int B u,.int 1 v] }).objs.size:=by simpa using hb
  subst e;exact D.dW (Ti _) (D.af.fresh (Ti _))
def Ng (ta:TA):TI:=λσ H R=>ta σ H λvs H1=>∃ j:Int,vs=[.int j]/\-(2 ^ 62)<=j/\j<2 ^ 62/\R (DV 0 j.toNat) H1
def Nh (ta:TA):TI:=λσ H R=>ta σ H λvs H1=>∃ i j:Int,vs=[.int i,.int j]/\(-(2 ^ 62)<=i/\i<2 ^ 62/\-(2 ^ 62)<=j/\j<2 ^ 62)/\R (DV i (j - i).toNat) H1
theorem AaK {a:S7}{D:TA}{p pos:Pos}(J:Gl X "range")(L:X.mg "range"=none)(O:PA X [a] D)(hs:Tj [a] X.env=[(false,Tf a X.env)]:=by rfl):PI X tg (.Call (.Name "range" p) [a] [] pos) (Ng D):=by
 intro pins s σ H R I h;refine Call_ (Fe I J L boot_range (WT (Al (O pos pins s σ H _ I h) λus s1 V=>AG V λvs H1 Y r1 B=>?_) hs rfl));replace B:=AD B;obtain ⟨j,e,B,q2,q⟩:=B
 subst e;cases r1 with
 | cons r rr =>
  cases rr;obtain ⟨t,rfl⟩:=r;exact call_range_1 (Nf Y (by omega) (by omega) B q2 (by simpa using q))
theorem AaL {a b:S7}{J:TA}{p pos:Pos}(O:Gl X "range")(V:X.mg "range"=none)(Y:PA X [a,b] J)(hs:Tj [a,b] X.env=[(false,Tf a X.env),(false,Tf b X.env)]:=by rfl)(L:Tj [b] X.env=[(false,Tf b X.env)]:=by rfl) :
  PI X tg (.Call (.Name "range" p) [a,b] [] pos) (Nh J):=by
 intro pins s σ H R I h;refine Call_ (Fe I O V boot_range (WT (Al (Y pos pins s σ H _ I h) λus s1 zz=>AG zz λvs H1 I1 r1 B=>?_) (by rw [hs,L]) (by rw [L];rfl)));replace B:=Bi B;obtain ⟨i,j,e,⟨B,q2,q3,q4⟩,q⟩:=B
 subst e;cases r1 with
 | cons r D =>
  cases D with
  | cons r' D =>
   cases D;obtain ⟨t,rfl⟩:=r;obtain ⟨t',rfl⟩:=r';exact call_range_2 (Nf I1 B q2 q3 q4 q)
def Ni (wi:TI)(g:TG)(tb:TS):TS:=λD σ H=>wi σ H λJ H1=>∃ W:Nat->Nat->St->Hp->Prop,(∃ m,W 0 m σ H1)/\∀ i m σ H,W i m σ H ->
 (J.stop i H/\D.nx σ H)\/(J.go i H/\∃ N:St->Hp->Prop,(∀ σ' H',N σ' H'->∃ m',m'<m/\W (i+1) m' σ' H')/\∀ x H',J.bM i H x H'->g x σ H' λσ2 H2=>tb { D with nx:=N,ct:=N,bk:=D.nx } σ2 H2)
noncomputable def Ff (fp:List Addr)(h:Heap):List (Addr×Obj):=fp.filterMap λb=>(h.get? b).map λo=>(b,o)
theorem EB {B:List Addr}{h:Heap}{b:Addr}{o:Obj}(hb:b∈B)(e:h.get? b=some o):(b,o)∈Ff B h:=Yh.mpr ⟨b,hb,by rw [e];rfl⟩
theorem AaM {B:List Addr}{h:Heap}{p:Addr×Obj}(D:p∈Ff B h):p.1∈B/\h.get? p.1=some p.2:=by
 obtain ⟨b,hb,e⟩:=Ao (Yh.mp D);cases q:h.get? b with
 | none=>rw [q] at e;cases e
 | some o =>
  rw [q] at e;have H:(b,o)=p:=Ts e;subst H;exact ⟨hb,q⟩
theorem Ae.pinned {pins:List (Addr×Obj)}{σ:St}{H:Hp}{s:S0}{B:List Addr}(I:Ae X pins σ H s)(J:∀ b∈B,CY X pins H b)(L:∀ b∈B,∃ o,s.heap.get? b=some o/\∀ v,o.data≠.cell v):Ae X (pins++Ff B s.heap) σ H s :=
 I.oQ λp O=>(Ut.mp O).elim (λz=>I.pin p (T3 _ z)) λz=>by
  obtain ⟨hb,e⟩:=AaM z;obtain ⟨V,f1,f2,_⟩:=AQ (J p.1 hb);obtain ⟨o,D,d⟩:=Ao (L p.1 hb);rw [e] at D;cases D;exact ⟨e,V,f1,f2,d⟩
theorem Ae.gT {pins pl:List (Addr×Obj)}{σ:St}{H:Hp}{s:S0}(I:Ae X (pins++pl) σ H s):Ae X pins σ H s:=I.oQ λp B=>I.pin p (T3 _ (Ww _ B))
theorem DF {iter:S7}{body:List Stmt}{wi:TI}{g:TG}{tb:TS}{pos:Pos}(Y:Ye (S8 X.prog X.w) X.A X.env X.xe)(hc:X.calm=true)(hi:PI X tg iter wi)(hg:PG X tg g)(hb:CW X body tb)(hs:∀ x,Vs iter X.env x=pure x:=by intro _;rfl):PS X (.For tg iter body [] pos) (Ni wi g tb):=by
 intro pins s σ H D I h;refine wpAny_For (Al (hi pins s σ H _ I h) λv s1 h1=>Al h1 λiy s2 h2=>?_) hs;obtain ⟨it,fp,tn,J,H2,e,I2,T,fh,f2,W,⟨m0,w0⟩,turn⟩:=Fd h2;subst e;have kU:∀{V:Hp},(∀ b∈fp,V b=none)->∀ b∈fp,CY X pins V b:=λhn b hb=>⟨hn b hb,(f2 b hb).2⟩;refine codeAny_forLoop_any (λn s'=>∃ i σ' V,Ae X pins σ' V s'/\tn i s'.heap/\(∀ b∈fp,V b=none)/\W i n σ' V) ?_ m0 ⟨0,σ,H2,I2,fh,λb hb=>(f2 b hb).1,w0⟩;rintro n s3 ⟨i,σ3,H3,I3,cW,cX,w3⟩;rcases turn i n σ3 H3 w3 with ⟨stop,qn⟩ | ⟨go,N,hN,UO⟩
 .refine V7 Y (Al (T.done X rfl rfl rfl hc i pins s3 σ3 H3 X.xe I3 (kU cX) cW stop) λr s4 ⟨hr,I4⟩=>?_);subst hr;exact Xk ⟨σ3,H3,I4,qn⟩
 .refine V7 Y (Al (T.item X rfl rfl rfl hc i pins s3 σ3 H3 X.xe I3 (kU cX) cW go) λr s4 zz=>Cu zz λu hr h4=>?_);subst hr;refine V7 Y (Al h4 λ_ s5 zz=>AG zz λx H5 I5 r5 ⟨y5,b9,fL⟩=>?_);have fM:=I5.pinned (kU fL) (T.obj _ _ b9);refine V7 Y (Al (hg _ s5 σ3 H5 x u _ fM r5 (UO x H5 y5)) λ_ s6 zz=>Gi zz λσ6 H6 I6 q6=>?_);refine V7 Y (Al (hb _ s6 σ6 H6 _ I6 q6) λf s7 B=>?_);have again:∀{σ7:St}{L:Hp},Ae X (pins++Ff fp s5.heap) σ7 L s7->N σ7 L->∃ m,m<n/\∃ i σ' V,Ae X pins σ' V s7/\tn i s7.heap/\(∀ b∈fp,V b=none)/\W i m σ' V:=λ{σ7 L} O n7=>by
   obtain ⟨m',hm,w7⟩:=Ao (hN σ7 L n7);refine ⟨m',hm,i+1,σ7,L,O.gT,T.keep _ _ _ b9 λb hb o e=>(O.pin (b,o) (T3 _ (T3 _ (EB hb e)))).1,λb hb=>?_,w7⟩;obtain ⟨o,e,d⟩:=Ao (T.obj _ _ b9 b hb);exact (O.pin (b,o) (T3 _ (T3 _ (EB hb e)))).2.1
  cases f with
  | next=>obtain ⟨σ7,L,O,n7⟩:=Bl B;exact again O n7
  | cont=>obtain ⟨σ7,L,O,n7⟩:=Bl B;exact again O n7
  | brk=>replace B:=Bl B;obtain ⟨σ7,L,O,B⟩:=B;exact ⟨σ7,L,O.gT,B⟩
  | ret v=>replace B:=CU B;obtain ⟨x7,σ7,L,O,r7,B⟩:=B;exact ⟨x7,σ7,L,O.gT,r7,B⟩
end
theorem FO {K:S3}{a:Addr}{xs:List V}{g:TG}{J:TS}{D:CV}{σ:St}{H:Hp}(Pv:Nat->St->Hp->Prop)(O:Pv 0 σ H)(Y:∀ i σ H,i<=xs.length->Pv i σ H->Ba K H a xs)(hs:∀ i x σ H,xs[i]?=some x->Pv i σ H->g x σ H λσ2 I=>J { D with nx:=Pv (i+1),ct:=Pv (i+1),bk:=D.nx } σ2 I)(hd:∀ σ H,Pv xs.length σ H->D.nx σ H) :
  ∃ W:Nat->Nat->St->Hp->Prop,(∃ m,W 0 m σ H)/\∀ i m σ H,W i m σ H ->
   ((DE K a).stop i H/\D.nx σ H)\/((DE K a).go i H/\∃ N:St->Hp->Prop,(∀ σ' B,N σ' B->∃ m',m'<m/\W (i+1) m' σ' B)/\∀ x B,(DE K a).bM i H x B->g x σ B λσ2 I=>J { D with nx:=N,ct:=N,bk:=D.nx } σ2 I):=by
 refine ⟨λi m σ H=>m=xs.length - i/\i<=xs.length/\Pv i σ H,⟨xs.length,by simp,T5 _,O⟩,?_⟩;rintro i m σ H ⟨rfl,hi,p⟩;have q:=Y i σ H hi p;by_cases L:i<xs.length
 .refine .inr ⟨⟨xs,xs[i],q,by simp [L]⟩,Pv (i+1),λσ' B p'=>⟨xs.length - (i+1),by omega,rfl,L,p'⟩,λx B y=>?_⟩;obtain ⟨e,y⟩:=y;subst e;exact hs i x σ _ (y xs q) p
 .have e:i=xs.length:=by omega
  subst e;exact .inl ⟨⟨xs,q,Ti _⟩,hd σ H p⟩
theorem Nj {lo:Int}{n:Nat}{g:TG}{L:TS}{D:CV}{σ:St}{H:Hp}(Pv:Nat->St->Hp->Prop)(O:Pv 0 σ H)(hs:∀ i σ H,i<n->Pv i σ H->g (.int (lo+i)) σ H λσ2 I=>L { D with nx:=Pv (i+1),ct:=Pv (i+1),bk:=D.nx } σ2 I)(hd:∀ σ H,Pv n σ H->D.nx σ H) :
  ∃ W:Nat->Nat->St->Hp->Prop,(∃ m,W 0 m σ H)/\∀ i m σ H,W i m σ H ->
   ((DV lo n).stop i H/\D.nx σ H)\/((DV lo n).go i H/\∃ N:St->Hp->Prop,(∀ σ' B,N σ' B->∃ m',m'<m/\W (i+1) m' σ' B)/\∀ x B,(DV lo n).bM i H x B->g x σ B λσ2 I=>L { D with nx:=N,ct:=N,bk:=D.nx } σ2 I):=by
 refine ⟨λi m σ H=>m=n - i/\i<=n/\Pv i σ H,⟨n,by simp,T5 _,O⟩,?_⟩;rintro i m σ H ⟨rfl,Y,p⟩;by_cases J:i<n
 .refine .inr ⟨J,Pv (i+1),λσ' B V=>⟨n - (i+1),by omega,rfl,J,V⟩,λx B y=>?_⟩;obtain ⟨e,y⟩:=y;subst e y;exact hs i σ _ J p
 .have e:i=n:=by omega
  subst e;exact .inl ⟨Ti _,hd σ H p⟩
abbrev R2:=V->V->Hp->VK->Prop
def A7 (X:Cx)(f:Value->Value->Sem Value)(r:R2):Prop :=
 ∀(pins:List (Addr×Obj))(s:S0)(σ:St)(H:Hp)(x y:V)(v u:Value)(Q:VK),Ae X pins σ H s->Ay x v->Ay y u->r x y H Q ->
  S4 (S8 X.prog X.w) X.A (f v u) (EP X pins σ Q) X.xe s
def BB (X:Cx)(f:Value)(r:List V->Hp->VK->Prop):Prop :=
 ∀(pins:List (Addr×Obj))(s:S0)(σ:St)(H:Hp)(xs:List V)(us:List Value)(Q:VK),Ae X pins σ H s->Aw xs us->r xs H Q ->
  S4 (S8 X.prog X.w) X.A (call f us) (EP X pins σ Q) X.xe s
def AaN (X:Cx)(r:V->Hp->(Bool->Hp->Prop)->Prop):Prop :=
 ∀(pins:List (Addr×Obj))(s:S0)(σ:St)(H:Hp)(x:V)(v:Value)(Q:Bool->Hp->Prop),Ae X pins σ H s->Ay x v->r x H Q ->
  S4 (S8 X.prog X.w) X.A (truthy v) (TP X pins σ Q) X.xe s
def Ig (r:R2)(ta tb:TE):TE:=λσ H Q=>ta σ H λx H1=>tb σ H1 λy H2=>r x y H2 Q
def rI (C:Int->Int->Prop)(g:Int->Int->V):R2:=λx y H Q=>∃ i j,x=.int i/\y=.int j/\C i j/\Q (g i j) H
def EC (g:Int->Int->V):R2:=λx y H Q=>∃ i j,x=.int i/\y=.int j/\Q (g i j) H
section
variable {X:Cx}{a b c:S7}{ta tb tc:TE}{pos:Pos}
theorem Ki (L:PE X a ta)(hb:PE X b tb){pins:List (Addr×Obj)}{s:S0}{σ:St}{H:Hp}{R:V->V->Hp->Prop}(I:Ae X pins σ H s)(h:ta σ H λx D=>tb σ D λy B=>R x y B){Q:Value->S0->Prop}{f:Value->Value->Sem Value}(O:∀ v u s2 x y B,Ae X pins σ B s2->Ay x v->Ay y u->R x y B->S4 (S8 X.prog X.w) X.A (f v u) Q X.xe s2) :
  S4 (S8 X.prog X.w) X.A (Tf a X.env) (λv Y=>S4 (S8 X.prog X.w) X.A (Tf b X.env) (λu s₂=>S4 (S8 X.prog X.w) X.A (f v u) Q X.xe s₂) X.xe Y) X.xe s:=by
 refine Al (L pins s σ H _ I h) λv s1 J=>AG J λx D I1 r1 q1=>?_;refine Al (hb pins s1 σ D _ I1 q1) λu s2 J=>AG J λy B I2 r2 q2=>?_;exact O v u s2 x y B I2 r1 r2 q2
theorem AR {B:WR}{r:R2}(D:A7 X (UY B) r)(J:PE X a ta)(hb:PE X b tb):PE X (.BinOp a B b pos) (Ig r ta tb):=by intro pins s σ H Q I h;exact wpAny_BinOp (Ki J hb I h λv u L x y O V Y ry q=>D pins L σ O x y v u Q V Y ry q)
theorem Ih {f:Value->Value->Sem Value}{C:Int->Int->Prop}{g:Int->Int->Int}(rule:∀ (i j:Int) (t u:Tok) (s:S0) (Q:Value->S0->Prop) (E:Value->S0->Prop),C i j->Q (.int (g i j) s.toks) { s with toks:=s.toks+1 }->S4 (S8 X.prog X.w) X.A (f (.int i t) (.int j u)) Q E s) :
  A7 X f (rI C λi j=>.int (g i j)):=by
 intro pins s σ H x y v u Q I B D h;replace h:=Bi h;obtain ⟨i,j,rfl,rfl,hc,q⟩:=h
 obtain ⟨t,rfl⟩:=B;obtain ⟨J,rfl⟩:=D;exact rule i j t J s _ _ hc ⟨.int (g i j),H,I.tok _,⟨_,rfl⟩,q⟩
theorem Nk {f:Value->Value->Sem Value}{g:Int->Int->Int}(rule:∀ (i j:Int) (t u:Tok) (s:S0) (Q:Value->S0->Prop) (E:Value->S0->Prop),Q (.int (g i j) s.toks) { s with toks:=s.toks+1 }->S4 (S8 X.prog X.w) X.A (f (.int i t) (.int j u)) Q E s) :
  A7 X f (EC λi j=>.int (g i j)):=by
 intro pins s σ H x y v u Q I B D h;replace h:=Bi h;obtain ⟨i,j,rfl,rfl,q⟩:=h
 obtain ⟨t,rfl⟩:=B;obtain ⟨J,rfl⟩:=D;exact rule i j t J s _ _ ⟨.int (g i j),H,I.tok _,⟨_,rfl⟩,q⟩
theorem Ii {f:Value->Value->Sem Value}{g:Int->Int->Bool}(rule:∀ (i j:Int) (t u:Tok) (s:S0) (Q:Value->S0->Prop) (E:Value->S0->Prop),Q (.bool (g i j)) s->S4 (S8 X.prog X.w) X.A (f (.int i t) (.int j u)) Q E s) :
  A7 X f (EC λi j=>.bl (g i j)):=by
 intro pins s σ H x y v u Q I B D h;replace h:=Bi h;obtain ⟨i,j,rfl,rfl,q⟩:=h
 obtain ⟨t,rfl⟩:=B;obtain ⟨J,rfl⟩:=D;exact rule i j t J s _ _ ⟨.bl (g i j),H,I,rfl,q⟩
def Nl (i j:Int):Prop:=0<j/\j<1073741824
def AaO (i j:Int):Prop:=0<=j/\j<=1000000/\i.natAbs<2 ^ 64
def GA (i j:Int):Prop:=(-(2 ^ 64)<i/\i<2 ^ 64)\/(-(2 ^ 64)<j/\j<2 ^ 64)
theorem GA.ok {i j:Int}(h:GA i j):IntMulOk i j:=by
 rcases h with ⟨B,D⟩ | ⟨B,D⟩
 .exact .of_left (intBits_le_64 B D)
 .exact .of_right (intBits_le_64 B D)
theorem AaP:A7 X (UY .Add) (EC λi j=>.int (i+j)):=Nk λ_ _ _ _ _ _ _ q=>add_int q
theorem GB:A7 X (UY .Sub) (EC λi j=>.int (i - j)):=Nk λ_ _ _ _ _ _ _ q=>sub_int q
theorem AaQ:A7 X (UY .Mult) (rI GA λi j=>.int (i * j)):=Ih λ_ _ _ _ _ _ _ hc q=>mul_int q hc.ok
theorem Kj:A7 X (UY .FloorDiv) (rI Nl λi j=>.int (i / j)):=Ih λi j _ _ _ _ _ hc q=>by
 have B:(0:Int)<j:=hc.1;have D:j<1073741824:=hc.2;exact floordiv_int (by omega) (by rw [Int.fdiv_eq_ediv_of_nonneg i (by omega)];exact q) (.inl (PyProof.noPylong_small (by omega)))
theorem CD:A7 X (UY .Mod) (rI (λ_ j=>0<j) λi j=>.int (i % j)):=Ih λi j _ _ _ _ _ hc q=>by
 have B:(0:Int)<j:=hc;exact mod_int' (by omega) (by rw [Int.fmod_eq_emod_of_nonneg i (by omega)];exact q)
theorem AaR:A7 X (UY .Pow) (rI AaO λi j=>.int (i ^ j.toNat)):=Ih λ_ _ _ _ _ _ _ hc q=>pow_int_small hc.1 hc.2.1 hc.2.2 q
end
noncomputable def Nn:V->V->Bool
 | .aa,.aa=>true | .aa,.int _=>true | .int _,.aa=>true | .aa,.bl _=>true | .bl _,.aa=>true | .aa,.str _=>true | .str _,.aa=>true
 | .int _,.int _=>true | .bl _,.bl _=>true | .str _,.str _=>true | .cu _,.cu _=>true
 | .int _,.str _=>true | .str _,.int _=>true | .bl _,.str _=>true | .str _,.bl _=>true
 | _,_=>false
def Np:R2:=λx y H Q=>Nn x y=true/\Q (.bl (decide (x=y))) H
def Kk:R2:=λx y H Q=>Nn x y=true/\Q (.bl (!decide (x=y))) H
theorem Nq {i j:Int}:decide (V.int i=V.int j)=(i == j):=by rw [VF];simp
theorem Nr {i j:Bool}:decide (V.bl i=V.bl j)=(i == j):=by rw [VF];simp
theorem Nt {i j:Str}:decide (V.str i=V.str j)=(i == j):=by rw [VF];simp
theorem Nu {i j:Array UInt8}:decide (V.cu i=V.cu j)=(i.toList == j.toList):=by rw [VF];cases i;cases j;simp
section
variable {X:Cx}{a b c:S7}{ta tb tc:TE}{pos:Pos}
theorem Bt {pins:List (Addr×Obj)}{σ:St}{H:Hp}{s:S0}{Q:VK}{k k':Bool}(I:Ae X pins σ H s)(q:Q (.bl k) H)(e:k=k'):EP X pins σ Q (.bool k') s:=by subst e;exact ⟨.bl k,H,I,rfl,q⟩
theorem AaS:A7 X (Ub .Eq) Np:=by
 intro pins s σ H x y v u Q I J B h;obtain ⟨hs,q⟩:=h;cases x with
 | aa =>
  cases J;cases y with
  | aa=>cases B;exact PySem.EqNone.eq_none_none (Bt I q (by simp))
  | bl j=>cases B;exact PySem.EqNone.eq_none_bool (Bt I q (by simp))
  | int j=>obtain ⟨D,rfl⟩:=B;exact PySem.EqNone.eq_none_int (Bt I q (by simp))
  | str j=>obtain ⟨D,rfl⟩:=B;exact PySem.EqNone.eq_none_str (Bt I q (by simp))
  | _=>exact absurd (show false=true from hs) T7
 | bl i =>
  cases J;cases y with
  | aa=>cases B;exact PySem.EqNone.eq_bool_none (Bt I q (by simp))
  | bl j=>cases B;exact eq_bool (Bt I q Nr)
  | str j=>obtain ⟨D,rfl⟩:=B;exact PySem.EqMixed.eq_bool_str (Bt I q (by simp))
  | _=>exact absurd (show false=true from hs) T7
 | int i =>
  obtain ⟨t,rfl⟩:=J;cases y with
  | aa=>cases B;exact PySem.EqNone.eq_int_none (Bt I q (by simp))
  | int j=>obtain ⟨D,rfl⟩:=B;exact eq_int (Bt I q Nq)
  | str j=>obtain ⟨D,rfl⟩:=B;exact PySem.EqMixed.eq_int_str (Bt I q (by simp))
  | _=>exact absurd (show false=true from hs) T7
 | str i =>
  obtain ⟨t,rfl⟩:=J;cases y with
  | aa=>cases B;exact PySem.EqNone.eq_str_none (Bt I q (by simp))
  | bl j=>cases B;exact PySem.EqMixed.eq_str_bool (Bt I q (by simp))
  | int j=>obtain ⟨D,rfl⟩:=B;exact PySem.EqMixed.eq_str_int (Bt I q (by simp))
  | str j=>obtain ⟨D,rfl⟩:=B;exact eq_str (Bt I q Nt)
  | _=>exact absurd (show false=true from hs) T7
 | cu i =>
  obtain ⟨t,rfl⟩:=J;cases y with
  | cu j=>obtain ⟨D,rfl⟩:=B;exact PySem.W.eq_bytes (Bt I q Nu)
  | _=>exact absurd (show false=true from hs) T7
 | _=>cases y<;>exact absurd (show false=true from hs) T7
theorem AaT:A7 X (Ub .NotEq) Kk:=by
 intro pins s σ H x y v u Q I J B h;obtain ⟨hs,q⟩:=h;cases x with
 | aa =>
  cases J;cases y with
  | aa=>cases B;exact PySem.EqNone.ne_none_none (Bt I q (by simp))
  | bl j=>cases B;exact PySem.EqNone.ne_none_bool (Bt I q (by simp))
  | int j=>obtain ⟨D,rfl⟩:=B;exact PySem.EqNone.ne_none_int (Bt I q (by simp))
  | str j=>obtain ⟨D,rfl⟩:=B;exact PySem.EqNone.ne_none_str (Bt I q (by simp))
  | _=>exact absurd (show false=true from hs) T7
 | bl i =>
  cases J;cases y with
  | aa=>cases B;exact PySem.EqNone.ne_bool_none (Bt I q (by simp))
  | bl j=>cases B;exact ne_bool (Bt I q (congrArg not Nr))
  | str j=>obtain ⟨D,rfl⟩:=B;exact PySem.EqMixed.ne_bool_str (Bt I q (by simp))
  | _=>exact absurd (show false=true from hs) T7
 | int i =>
  obtain ⟨t,rfl⟩:=J;cases y with
  | aa=>cases B;exact PySem.EqNone.ne_int_none (Bt I q (by simp))
  | int j=>obtain ⟨D,rfl⟩:=B;exact ne_int (Bt I q (congrArg not Nq))
  | str j=>obtain ⟨D,rfl⟩:=B;exact PySem.EqMixed.ne_int_str (Bt I q (by simp))
  | _=>exact absurd (show false=true from hs) T7
 | str i =>
  obtain ⟨t,rfl⟩:=J;cases y with
  | aa=>cases B;exact PySem.EqNone.ne_str_none (Bt I q (by simp))
  | bl j=>cases B;exact PySem.EqMixed.ne_str_bool (Bt I q (by simp))
  | int j=>obtain ⟨D,rfl⟩:=B;exact PySem.EqMixed.ne_str_int (Bt I q (by simp))
  | str j=>obtain ⟨D,rfl⟩:=B;exact ne_str (Bt I q (congrArg not Nt))
  | _=>exact absurd (show false=true from hs) T7
 | cu i =>
  obtain ⟨t,rfl⟩:=J;cases y with
  | cu j=>obtain ⟨D,rfl⟩:=B;exact PySem.W.ne_bytes (Bt I q (congrArg not Nu))
  | _=>exact absurd (show false=true from hs) T7
 | _=>cases y<;>exact absurd (show false=true from hs) T7
theorem Nv:A7 X (Ub .Lt) (EC λi j=>.bl (decide (i<j))):=Ii λ_ _ _ _ _ _ _ q=>lt_int q
theorem Ij:A7 X (Ub .LtE) (EC λi j=>.bl (decide (i<=j))):=Ii λ_ _ _ _ _ _ _ q=>le_int q
theorem Ik:A7 X (Ub .Gt) (EC λi j=>.bl (decide (j<i))):=Ii λ_ _ _ _ _ _ _ q=>gt_int q
theorem AaU:A7 X (Ub .GtE) (EC λi j=>.bl (decide (j<=i))):=Ii λ_ _ _ _ _ _ _ q=>ge_int q
theorem AaV:A7 X (Ub .In) (λx y H Q=>∃ i j,x=.str i/\y=.str j/\Q (.bl (!(Yi j i 0 j.length 1).isEmpty)) H):=by
 intro pins s σ H x y v u Q I B D h;replace h:=Bi h;obtain ⟨i,j,rfl,rfl,q⟩:=h
 obtain ⟨t,rfl⟩:=B;obtain ⟨J,rfl⟩:=D;exact in_str (Bt I q rfl)
theorem FP:A7 X (Ub .Is) (λx y H Q=>y=.aa/\Q (.bl (decide (x=.aa))) H):=by
 intro pins s σ H x y v u Q I B D h;obtain ⟨rfl,q⟩:=h;cases D;refine is_none_gen (Bt I q ?_);cases x<;>first
  | (cases B;rfl)
  | (obtain ⟨t,rfl⟩:=B;rfl)
theorem Kl:A7 X (Ub .IsNot) (λx y H Q=>y=.aa/\Q (.bl (!decide (x=.aa))) H):=by
 intro pins s σ H x y v u Q I B D h;obtain ⟨rfl,q⟩:=h;cases D;refine isnot_none_gen (Bt I q ?_);cases x<;>first
  | (cases B;rfl)
  | (obtain ⟨t,rfl⟩:=B;rfl)
theorem A7.or {f:Value->Value->Sem Value}{r B:R2}(h:A7 X f r)(h':A7 X f B):A7 X f (λx y H Q=>r x y H Q\/B x y H Q):=by
 intro pins s σ H x y v u Q I D J q;rcases q with q | q
 .exact h pins s σ H x y v u Q I D J q
 .exact h' pins s σ H x y v u Q I D J q
theorem AW (b:S7){B:CmpOp}(h:B≠.In:=by decide)(D:B≠.NotIn:=by decide):Xm B b=false:=by
 have H:(B == CmpOp.In)=false:=by cases B<;>first | rfl | exact absurd rfl h
 have I:(B == CmpOp.NotIn)=false:=by cases B<;>first | rfl | exact absurd rfl D
 cases b<;>simp [Xm,H,I]
theorem CZ {B:CmpOp}{r:R2}(D:A7 X (Ub B) r)(J:PE X a ta)(hb:PE X b tb)(L:Xm B b=false):PE X (.Compare a [B] [b] pos) (Ig r ta tb):=by intro pins s σ H Q I h;exact wpAny_Compare1 (Ki J hb I h λv u O x y V Y rx ry q=>D pins O σ V x y v u Q Y rx ry q) L
def AaW (t:TE):TT:=λσ H Q=>t σ H λx H'=>∃ k,x=.bl k/\Q k H'
theorem AZ {B:CmpOp}{r:R2}(J:A7 X (Ub B) r)(L:PE X a ta)(hb:PE X b tb)(O:Xm B b=false):PT X (.Compare a [B] [b] pos) (AaW (Ig r ta tb)):=by
 intro pins s σ H Q I h;refine wpAny_isTrue_Compare1 (Al (L pins s σ H _ I h) λv V D=>AG D λx Y I1 r1 q1=>Al (hb pins V σ Y _ I1 q1) λu s2 ⟨y,H2,I2,r2,q2⟩ =>
  Al (J pins s2 σ H2 x y v u _ I2 r1 r2 q2) λc s3 D=>AG D λz H3 I3 r3 ⟨k,e,q3⟩=>?_) O
 subst e;cases r3;exact V5 ⟨H3,I3,q3⟩
def AaX (r r':R2)(ta tb tc:TE):TE:=λσ H Q=>ta σ H λx H1=>tb σ H1 λy H2=>r x y H2 λz H3=>∃ k,z=.bl k /\
 (if k=true then tc σ H3 λw' H4=>r' y w' H4 Q else Q (.bl false) H3)
theorem AaY {D J:CmpOp}{r L:R2}(ho:A7 X (Ub D) r)(dU:A7 X (Ub J) L)(ha:PE X a ta)(hb:PE X b tb)(hc:PE X c tc)(hm:lastMarks [D,J] [b,c]=false:=by with_unfolding_all rfl):PE X (.Compare a [D,J] [b,c] pos) (AaX r L ta tb tc):=by
 intro pins s σ H Q I h;refine Compare_chain (Al (ha pins s σ H _ I h) λv s1 B=>AG B λx H1 I1 r1 q1=>chain_link (Al (hb pins s1 σ H1 _ I1 q1) λu s2 ⟨y,H2,I2,O,q2⟩ =>
  Al (ho pins s2 σ H2 x y v u _ I2 r1 O q2) λd s3 B=>AG B λz V Y r3 ⟨k,e,q3⟩=>?_)) hm
 subst e;cases r3;refine V5 ?_;cases k with
 | false=>exact ite_ff ⟨.bl false,V,Y,rfl,q3⟩
 | true=>exact ite_tt (chain_last (Al (hc pins s3 σ V _ Y q3) λw' s4 B=>AG B λz' H4 I4 r4 q4=>dU pins s4 σ H4 y z' u w' Q I4 O r4 q4))
def Nw (K:S3)(x:V)(H:Hp)(k:Bool):Prop :=
 match x with
 | .aa=>k=false
 | .bl b=>k=b
 | .int i=>k=(i != 0)
 | .str y=>y.length<=sizeLine/\k=((y.length:Int) != 0)
 | .cu y=>y.size<=sizeLine/\k=((y.size:Int) != 0)
 | .ref p=>(∃ xs,Ba K H p xs/\k=!xs.isEmpty)\/(∃ xs,Bh K H p xs/\k=!xs.isEmpty)\/∃ kvs,H p=some (.dK kvs)/\k=!kvs.isEmpty
 | _=>False
theorem AaZ {κ:Type}{kvs:List (κ×V)}{vs:List (κ×Value)}(r:KV kvs vs):(!vs.isEmpty)=!kvs.isEmpty:=by cases r<;>rfl
theorem Nx {xs:List V}{its:List Value}(r:Aw xs its):(!its.toArray.isEmpty)=!xs.isEmpty:=by cases r<;>simp
theorem ED:(sizeLine:Nat)<2 ^ 63:=by rw [Tc];decide
theorem Aa0:AaN X (λx H Q=>∃ k,Nw X.K x H k/\Q k H):=by
 intro pins s σ H x v Q I O h;obtain ⟨k,e,q⟩:=Ao h;have Y:=ED;have hs:sizeLine=16777216:=Tc;cases x with
 | aa =>
  cases O;have B:k=false:=e;subst B;exact truthy_none ⟨H,I,q⟩
 | bl b =>
  cases O;have B:k=b:=e;subst B;exact V5 ⟨H,I,q⟩
 | int i =>
  obtain ⟨t,rfl⟩:=O;have B:k=(i != 0):=e;subst B;exact PySem.P.truthy_int ⟨H,I,q⟩
 | str y =>
  obtain ⟨t,rfl⟩:=O;obtain ⟨hy,B⟩:y.length<=sizeLine/\k=((y.length:Int) != 0):=e;subst B;exact PySem.P.truthy_str (by omega) ⟨H,I.tok _,q⟩
 | cu y =>
  obtain ⟨t,rfl⟩:=O;obtain ⟨hy,B⟩:y.size<=sizeLine/\k=((y.size:Int) != 0):=e;subst B;exact PySem.W.truthy_bytes (by omega) ⟨H,I.tok _,q⟩
 | ref p =>
  cases O;have B:(∃ L,Ba X.K H p L/\k=!L.isEmpty)\/(∃ L,Bh X.K H p L/\k=!L.isEmpty)\/∃ D,H p=some (.dK D)/\k=!D.isEmpty:=e;rcases B with ⟨L,hx,B⟩ | ⟨L,hx,B⟩ | ⟨D,hx,B⟩
  .subst B;obtain ⟨its,r,pl,V⟩:=AD (I.list hx);have J:=r.length;exact wpAny_truthy_list pl.isList (by simp only [TR];omega) ⟨H,I.tok _,by rw [Nx r];exact q⟩
  .subst B;obtain ⟨its,r,pl,V⟩:=AD (I.tuple hx);have J:=r.length;exact truthy_tuple pl (by simp only [TR];omega) ⟨H,I.tok _,by rw [Nx r];exact q⟩
  .subst B;obtain ⟨V,hS,vs,r,m⟩:D.length<=sizeLine/\(p == UJ)=false/\∃ vs,KV D vs/\s.heap.DictOf (Bm X.prog X.w) p vs:=I.af p _ hx;have J:D.length=vs.length:=Paired.length r;exact wpAny_truthy_dict hS m (by omega) ⟨H,I.tok _,by rw [AaZ r];exact q⟩
 | _=>exact (show False from e).elim
theorem Aa1 (J:PE X a ta)(L:∀ B,WQ a X.env B=(do let v <- B;UW a.pos;UN [v] (truthy v))) :
  PT X a (λσ H Q=>ta σ H λx D=>∃ k,Nw X.K x D k/\Q k D):=by
 intro pins s σ H Q I h;exact isTrue_plain (Al (J pins s σ H _ I h) λv O V=>AG V λx Y I1 r1 q1=>Aa0 pins O σ Y x v Q I1 r1 q1) (L _)
theorem Aa2:A7 X (UY .Add) (λx y H Q=>∃ i j,x=.str i/\y=.str j/\i.length+j.length<=sizeLine/\Q (.str (i++j)) H):=by
 intro pins s σ H x y v u Q I B D h;replace h:=Bi h;obtain ⟨i,j,rfl,rfl,J,q⟩:=h
 obtain ⟨t,rfl⟩:=B;obtain ⟨L,rfl⟩:=D;exact add_str (λL O=>⟨.str (i++j),H,I.tok _,⟨_,rfl⟩,q⟩) J
theorem CJ {x:V}{us:List Value}(r:Aw [x] us):∃ u,us=[u]/\Ay x u:=by
 cases r with
 | cons B D=>cases D;exact ⟨_,rfl,B⟩
theorem Ny {x y:V}{us:List Value}(r:Aw [x,y] us):∃ u B,us=[u,B]/\Ay x u/\Ay y B:=by
 cases r with
 | cons D H =>
  cases H with
  | cons I J=>cases J;exact ⟨_,_,rfl,D,I⟩
theorem Nz:BB X (.type "int") (λxs H Q=>(∃ i,xs=[.int i]/\Q (.int i) H)\/∃ k,xs=[.bl k]/\Q (.int (if k then 1 else 0)) H):=by
 intro pins s σ H xs D Q I r h;rcases h with ⟨i,rfl,q⟩ | ⟨k,rfl,q⟩
 .obtain ⟨u,rfl,t,rfl⟩:=Ao (CJ r);exact call_int_int ⟨.int i,H,I,⟨_,rfl⟩,q⟩
 .obtain ⟨u,rfl,B⟩:=Ao (CJ r);cases B;exact call_int_bool ⟨.int (if k then 1 else 0),H,I.tok _,⟨_,rfl⟩,q⟩
theorem NA:BB X (.type "str") (λxs H Q=>∃ i,xs=[.int i]/\i.natAbs.log2<1920/\Q (.str (toString i)) H):=by
 intro pins s σ H xs D Q I r h;replace h:=AD h;obtain ⟨i,rfl,B,q⟩:=h
 obtain ⟨u,rfl,t,rfl⟩:=Ao (CJ r);exact PySem.P.str_of_int B ⟨.str _,H,I.tok _,⟨_,rfl⟩,q⟩
end
structure Fg (h:Heap)(x dx C:Addr)(mA:Str->Option Value):Prop where
 obj:h.get? x=some (VA C dx)
 ns:h.Ns1 dx mA
 ne:dx≠x
theorem Aa3 {h:Heap}{dx:Addr}{B:Str->Option Value}(n:h.Ns1 dx B):∃ D,h.get? dx=some D/\∀ name,Xn name D=some (B name):=by
 obtain ⟨o,es,O,H,hd,hk,_,I⟩:=FK n;refine ⟨o,H,λname=>?_⟩;have e:=I name;unfold nsFind findBy at e;rw [<- Array.find?_toList] at e;unfold Xn;rw [hd];dsimp only;split
 .rename_i y q
  rw [q] at e;exact congrArg some e
 .rename_i q
  rw [q] at e;have a:es.toList.any (·.refKey)=false:=by rw [List.any_eq_false];intro y hy;obtain ⟨z,t,J⟩:=hk y (Zw.mp hy);simp [DictEntry.refKey,J]
  have L:¬ es.toList.any (·.refKey)=true:=by rw [a];exact T7
  rw [if_neg L];exact congrArg some e
theorem Fg.look {h:Heap}{x dx C:Addr}{D:Str->Option Value}(I:Fg h x dx C D):∃ B,PySem.W.InstAt h x (VA C dx) C (some B)/\∀ name,Xn name B=some (D name) :=
 let ⟨B,H,J⟩:=Aa3 I.ns
 ⟨B,⟨I.obj,rfl,rfl,H⟩,J⟩
section
variable {prog:Ta}{w:S6}{A:Tt}{E:Value->S0->Prop}{s:S0}{K:S3}{x dx C f:Addr}{mA:Str->Option Value}{name:Str}{v:Value}
theorem Aa4 {expr:Bool}{Q:Value->S0->Prop}(X:K.In s.heap)(I:Fg s.heap x dx C mA)(B:Vt K C name=true)(D:VG K C=true)(H:Tx K (.ref C) name=some none)(hv:mA name=some v)(L:Zx v=true)(h:Q v { s with toks:=s.toks+1 }) :
  S4 (S8 prog w) A (getAttr (.ref x) name expr) Q E s:=by
 obtain ⟨V,J,O⟩:=Ao I.look;exact PySem.W.get_value X J (Yj B).1 (PySem.W.findObj_own D H rfl (by rw [O,hv])) L h
theorem Aa5 {pl:Sem Bool}{Q:Value×List Value->S0->Prop}(X:K.In s.heap)(I:Fg s.heap x dx C mA)(B:Vt K C name=true)(D:Tx K (.ref C) name=some (some (.ref f)))(H:VH K (.ref f)=true)(hv:mA name=none)(h:Q (.ref f,[.ref x]) s) :
  S4 (S8 prog w) A (Vu (.ref x) name pl) Q E s:=by
 obtain ⟨L,J,O⟩:=Ao I.look;exact PySem.W.method_fn X J (Yj B).1 (Yj B).2 D (beq_iff_eq.mp H) (by show (Xn name L).map (·.isSome)=some false;rw [O,hv];rfl) h
theorem Aa6 {ns:List Str}{Q:Unit->S0->Prop}(X:K.In s.heap)(I:Fg s.heap x dx C mA)(hs:Tx K (.ref C) "__setattr__"=some (some (.builtin "object.__setattr__")))(O:Wa K C=true)(V:Yk K C name=some none)(Y:VG K C=true)(hw:X7 mA ns)(hsz:ns.length<=sizeLine)(h:∀ h',Fg h' x dx C (λy=>if y=name then some v else mA y)->Ud dx s.heap h'->Q () { s with heap:=h',toks:=s.toks+2 }) :
  S4 (S8 prog w) A (setAttr (.ref x) name v) Q E s:=by
 obtain ⟨od,J,hl⟩:=Ao I.look;refine PySem.W.set_plain X J hs (PySem.W.osa_open (s:={ s with toks:=s.toks+1 }) (r:=none) X J O V λb=>?_);obtain ⟨cd,hc,kP⟩:=Ao (PySem.W.any_some Y);have hx:s.heap.get? x=some ⟨.ref C,some dx,.plain,#[]⟩:=I.obj;refine S5 (Te (S5 (S5 (Zy hx (S5 (PySem.W.Looks.here (s:={ s with toks:=s.toks+1 }) (PySem.W.looks_clsIn X hc) ?_))))));rw [kP];refine Te (a:=some dx) (S5 (Te (S5 ?_)));refine wpAny_nsSet1 (s:={ s with toks:=s.toks+1 }) I.ns λh' H L=>?_;obtain ⟨oD,esD,epD,B,D,dX⟩:=CU (H.count (PySem.Within.cons name v hw));refine S5 (wpAny_lookBehind B (by rw [D];exact pastItsLine_dict (Uk dX (by rw [UG];omega))) ?_);exact Te (h _ ⟨(L.2 _ (Tu I.ne)).trans I.obj,H,I.ne⟩ L)
theorem Aa7 {R:Wb->S0->Prop}{vs:List Value}{B:List (Str×Value)}(X:K.In s.heap)(D:VI K C=true)(H:Tx K (.ref C) "__init__"=some (some (.ref f)))(I:Yl K (.ref f)=some (.type "function"))(h:Uy (S8 prog w) (A.under (.builtin "type.__call__" ⟨.ref C :: vs,B⟩)) (.call (.ref f) ⟨.ref (s.heap.objs.size+1) :: vs,B⟩) (PySem.W.InitBack (s.heap.objs.size+1) R)
   { s with heap:=(s.heap.push Vv).push (VA C s.heap.objs.size) }) :
  Uy (S8 prog w) A (.call (.ref C) ⟨vs,B⟩) R s:=by
 obtain ⟨J,g,d,t,os⟩:=s;exact PySem.W.make_core (PySem.W.makes_of X D) (PySem.W.looks_findIn X H) (λself=>PySem.W.bind_fn X self I) (.inl rfl) h
end
noncomputable def An (f:Str)(v:V):List (Str×V)->List (Str×V)
 | []=>[(f,v)]
 | (g,x) :: r=>if g=f then (g,v) :: r else (g,x) :: An f v r
theorem NB (f g:Str)(v:V):∀ fs:List (Str×V),(An f v fs).lookup g=if g=f then some v else fs.lookup g
 | []=>by
  show Wc g [(f,v)]=_;by_cases h:g=f
  .have hb:(g == f)=true:=beq_iff_eq.mpr h;simp only [Wc,hb,if_pos h]
  .have hb:(g == f)=false:=beq_eq_false_iff_ne.mpr h;simp only [Wc,hb,if_neg h]
 | (k,x) :: r=>by
  have ih:=NB f g v r;rw [show An f v ((k,x) :: r)=(if k=f then (k,v) :: r else (k,x) :: An f v r) from rfl];by_cases hk:k=f
  .rw [if_pos hk];by_cases h:g=k
   .have hb:(g == k)=true:=beq_iff_eq.mpr h;simp only [Wc,hb,if_pos (h.trans hk)]
   .have hb:(g == k)=false:=beq_eq_false_iff_ne.mpr h;simp only [Wc,hb,if_neg (λe:g=f=>h (e.trans hk.symm))]
  .rw [if_neg hk];by_cases h:g=k
   .have hb:(g == k)=true:=beq_iff_eq.mpr h;simp only [Wc,hb,if_neg (λe:g=f=>hk (h.symm.trans e))]
   .have hb:(g == k)=false:=beq_eq_false_iff_ne.mpr h;simp only [Wc,hb];exact ih
theorem Km (f:Str)(v:V):∀ fs:List (Str×V),f∈(An f v fs).map (·.1)/\∀ g,g∈fs.map (·.1)->g∈(An f v fs).map (·.1)
 | []=>⟨by simp [An],λg h=>by simp at h⟩
 | (k,x) :: r=>by
  obtain ⟨B,D⟩:=Km f v r;rw [show An f v ((k,x) :: r)=(if k=f then (k,v) :: r else (k,x) :: An f v r) from rfl];by_cases hk:k=f
  .rw [if_pos hk];subst hk;exact ⟨by simp,λg h=>by simpa using h⟩
  .rw [if_neg hk];refine ⟨?_,λg h=>?_⟩
   .rw [Uz];exact T1 _ B
   .rw [Uz] at h ⊢;rcases Tq.mp h with e | e
    .exact Tq.mpr (.inl e)
    .exact T1 _ (D g e)
theorem NC (f:Str)(v:V):∀ fs:List (Str×V),(An f v fs).length<=fs.length+1
 | []=>by simp [An]
 | (k,x) :: r=>by
  have ih:=NC f v r;rw [show An f v ((k,x) :: r)=(if k=f then (k,v) :: r else (k,x) :: An f v r) from rfl];by_cases hk:k=f
  .rw [if_pos hk,UG,UG];omega
  .rw [if_neg hk,UG,UG];omega
theorem CC.some_of {v:V}{o:Option Value}(r:CC (some v) o):∃ u,o=some u/\Ay v u:=by
 cases o with
 | none=>exact (show False from r).elim
 | some u=>exact ⟨u,rfl,r⟩
theorem CC.none_of {o:Option Value}(r:CC none o):o=none:=by
 cases o with
 | none=>rfl
 | some u=>exact (show False from r).elim
theorem Aa8 {v:V}{u:Value}(r:Ay v u):Zx u=true:=by
 cases v with
 | aa=>cases (show u=UC from r);rfl
 | bl b=>cases (show u=WL b from r);rfl
 | int i=>obtain ⟨t,e⟩:=(show ∃ t,u=Uw i t from r);cases e;rfl
 | str x=>obtain ⟨t,e⟩:=(show ∃ t,u=Uj x t from r);cases e;rfl
 | cu b=>obtain ⟨t,e⟩:=(show ∃ t,u=Value.bytes b t from r);cases e;rfl
 | fJ b=>obtain ⟨t,e⟩:=(show ∃ t,u=X5 b t from r);cases e;rfl
 | ref a=>cases (show u=TU a from r);rfl
 | ty n=>cases (show u=WM n from r);rfl
section
variable {P:Ta}{w:S6}{H H':Hp}{h h':Heap}{a C dx:Addr}{fs eU:List (Str×V)}
theorem Il (D:AL P w H h)(e:H a=some (.ins C dx fs)):∃ B,Fg h a dx C B/\(∀ f,CC (fs.lookup f) (B f))/\X7 B (fs.map (·.1))/\fs.length<=1000/\H dx=some (.own a):=by obtain ⟨d,z,ne,I,B,n,r,q⟩:=AQ ((show Be P w H h a (.ins C dx fs) from D a _ e));exact ⟨B,⟨I,n,ne⟩,r,q,z,d⟩
end
structure Cg (K:S3)(C:Addr):Prop where
 pg:Vt K C Ua=true
 hd:VG K C=true
 po:Wa K C=true
 sa:Tx K (.ref C) "__setattr__"=some (some (.builtin "object.__setattr__"))
theorem Cg.get {K:S3}{C:Addr}(c:Cg K C)(f:Str):Vt K C f=true:=c.pg
def Bw (K:S3)(C:Addr)(f:Str):Prop:=Tx K (.ref C) f=some none
theorem Bw.aaf {K:S3}{C:Addr}{f:Str}(n:Bw K C f):Yk K C f=some none:=by unfold Yk;rw [show Tx K (.ref C) f=some none from n];rfl
structure Con (K:S3)(C:Addr)(f:Str)(v:V)(u:Value):Prop where
 at_:Tx K (.ref C) f=some (some u)
 rel:Ay v u
 get:Xo K u "__get__"=some none
 cp:PySem.W.copiedNames.contains f=false
structure Im (K:S3)(C:Addr)(m:Str)(f:Addr):Prop where
 at_:Tx K (.ref C) m=some (some (.ref f))
 fn:VH K (.ref f)=true
 kp:Ux K (.ref f)=true
section
variable {X:Cx}{pins:List (Addr×Obj)}{σ:St}{H:Hp}{s:S0}{a C dx:Addr}{fs:List (Str×V)}{f:Str}{v:V}{A:Tt}{E:Value->S0->Prop}
theorem ND {b:Bool}{Q:Value->S0->Prop}(I:Ae X pins σ H s)(e:H a=some (.ins C dx fs))(c:Cg X.K C)(n:Bw X.K C f)(l:fs.lookup f=some v)(h:∀ u B,Ae X pins σ H B->Ay v u->Q u B):S4 (S8 X.prog X.w) A (getAttr (.ref a) f b) Q E s:=by obtain ⟨J,O,r,_,_,_⟩:=AD (Il I.af e);obtain ⟨u,hu,D⟩:=Ao (CC.some_of (v:=v) (o:=J f) (by rw [<- l];exact r f));exact Aa4 I.aN O (c.get f) c.hd n hu (Aa8 D) (h u _ (I.tok _) D)
theorem Io {m:Str}{g:Addr}{pl:Sem Bool}{Q:Value×List Value->S0->Prop}(I:Ae X pins σ H s)(e:H a=some (.ins C dx fs))(c:Cg X.K C)(k:Im X.K C m g)(l:fs.lookup m=none)(h:Q (.ref g,[.ref a]) s):S4 (S8 X.prog X.w) A (Vu (.ref a) m pl) Q E s:=by obtain ⟨B,O,r,_,_,_⟩:=AD (Il I.af e);have D:B m=none:=CC.none_of (by rw [<- l];exact r m);exact Aa5 I.aN O (c.get m) k.at_ k.fn D h
theorem NF {y:V}{u:Value}{Q:Unit->S0->Prop}(I:Ae X pins σ H s)(e:H a=some (.ins C dx fs))(c:Cg X.K C)(n:Bw X.K C f)(hl:fs.length<1000)(ry:Ay y u)(h:∀ D,Ae X pins σ (upd H a (.ins C dx (An f y fs))) D->Q () D):S4 (S8 X.prog X.w) A (setAttr (.ref a) f u) Q E s:=by
 obtain ⟨J,O,r,L,_,Y⟩:=AD (Il I.af e);have hz:(fs.map (·.1)).length<=sizeLine:=by rw [Tb,Tc];omega
 refine Aa6 I.aN O c.sa c.po n.aaf c.hd L hz λh' B sb=>h _ ?_;have hd:∃ o,h'.get? dx=some o:=let ⟨o,_,_,e',_⟩:=B.ns;⟨o,e'⟩;refine I.write (x:=a) (e:=dx) (by rw [e];exact UP) (.inr Y) (λb q hb z=>(sb.2 b hb).trans z) hd ?_;refine ⟨by rw [Ap O.ne];exact Y,?_,O.ne,B.obj,_,B.ns,λg=>?_,λg hg=>?_⟩
 .have:=NC f y fs;omega
 .show CC ((An f y fs).lookup g) (if g=f then some u else J g);rw [NB];by_cases q:g=f
  .rw [if_pos q,if_pos q];exact ry
  .rw [if_neg q,if_neg q];exact r g
 .by_cases q:g=f
  .rw [q];exact (Km f y fs).1
  .refine (Km f y fs).2 g (L g λz=>hg ?_);show (if g=f then some u else J g)=none;rw [if_neg q];exact z
theorem Ae.made (I:Ae X pins σ H s):Ae X pins σ (upd (upd H s.heap.objs.size (.own (s.heap.objs.size+1))) (s.heap.objs.size+1) (.ins C s.heap.objs.size []))
  { s with heap:=(s.heap.push Vv).push (VA C s.heap.objs.size) }:=by
 have B:(s.heap.push Vv).get? s.heap.objs.size=some Vv:=Uq s.heap rfl;have D:((s.heap.push Vv).push (VA C s.heap.objs.size)).get? (s.heap.objs.size+1)=some (VA C s.heap.objs.size):=by have:=Uq (s.heap.push Vv) (o:=VA C s.heap.objs.size) rfl;rwa [Vc] at this
 have J:(s.heap.push Vv).Ns s.heap.objs.size (λ_=>none):=⟨Vv,#[],_,B,rfl,(λe L=>absurd L (by simp)),λ_=>rfl⟩;have O:=I.laid (a:=s.heap.objs.size) (o:=.own (s.heap.objs.size+1)) (h':=s.heap.push Vv) (t':=s.toks) (λb u q=>TF _ q) (Ti _) ⟨_,B⟩;refine O.laid (a:=s.heap.objs.size+1) (o:=.ins C s.heap.objs.size []) (t':=s.toks) (λb u q=>TF _ q) (Nat.le_of_eq (Vc _ _)) ?_;have ne:s.heap.objs.size≠s.heap.objs.size+1:=TK (WU _);refine ⟨by rw [Ap ne,Ai],T5 _,ne,D,λ_=>none,(Heap.Ns1.of_empty J).at λo q=>TF _ q,λ_=>UP,λy hy=>absurd rfl hy⟩
theorem Aa9 {prog:Ta}{w:S6}{env:Env}{e:S7}{f:Str}{pos:Pos}{s:S0}{Q:Value->S0->Prop}(hb:WV e f env (Tf e env)=Tf e env)(h:S4 (S8 prog w) A (Tf e env) (λo B=>S4 (S8 prog w) A (getAttr o f true) Q E B) E s):S4 (S8 prog w) A (Tf (.Attribute e f pos) env) Q E s :=
 Attribute_any_ h (by rw [arm_eval_Attribute,hb])
end
def Aba (K:S3)(ta:TE)(f:Str):TE:=λσ H Q=>ta σ H λx H1=>∃ a C dx fs v,x=.ref a/\H1 a=some (.ins C dx fs)/\Cg K C/\Bw K C f/\fs.lookup f=some v/\Q v H1
def Abb (K:S3)(ta tv:TE)(f:Str):TS:=λD σ H=>tv σ H λy H1=>ta σ H1 λx H2=>∃ a C dx fs,x=.ref a/\H2 a=some (.ins C dx fs)/\Cg K C/\Bw K C f/\fs.length<1000 /\
 D.nx σ (upd H2 a (.ins C dx (An f y fs)))
def Kn (X:Cx)(op:WR)(rd:V->V->Hp->VK->Prop):Prop :=
 ∀(pins:List (Addr×Obj))(s:S0)(σ:St)(H:Hp)(x y:V)(u v:Value)(Q:VK),Ae X pins σ H s->Ay x u->Ay y v->rd x y H Q->S4 (S8 X.prog X.w) X.A (inplaceOp op u v) (EP X pins σ Q) X.xe s
def Abd (K:S3)(ta tv:TE)(rd:V->V->Hp->VK->Prop)(f:Str):TS:=λD σ H=>ta σ H λx H1=>∃ a C dx fs v,x=.ref a/\H1 a=some (.ins C dx fs)/\Cg K C/\Bw K C f/\fs.lookup f=some v /\
 tv σ H1 λy H2=>rd v y H2 λz H3=>∃ dx' eU,H3 a=some (.ins C dx' eU)/\eU.length<1000/\D.nx σ (upd H3 a (.ins C dx' (An f z eU)))
section
variable {X:Cx}{o e value:S7}{f:Str}{pos pos' jO:Pos}{ta tv:TE}
theorem Ax (B:PE X e ta)(hb:WV e f X.env (Tf e X.env)=Tf e X.env):PE X (.Attribute e f pos) (Aba X.K ta f):=by intro pins s σ H Q I h;refine Aa9 hb (Al (B pins s σ H _ I h) λu s1 D=>AG D λx J L O ⟨a,C,dx,fs,v,ex,V,c,n,l,q⟩=>?_);subst ex;obtain rfl:u=TU a:=O;exact ND L V c n l λu' s2 Y ru=>⟨v,J,Y,ru,q⟩
theorem Br (J:PE X o ta)(hv:PE X value tv)(hs:V6 value (some (.Attribute o f pos')) pos.line X.env=pure false):PS X (.Assign [.Attribute o f pos'] value pos) (Abb X.K ta tv f):=by intro pins s σ H D I h;refine plainObj_wpAny_Assign_Attribute (Al (hv pins s σ H _ I h) λu L B=>AG B λy O V Y q=>Al (J pins L σ O _ V q) λov s2 B=>AG B λx H2 I2 rx ⟨a,C,dx,fs,ex,ea,c,n,l,q2⟩=>?_) hs;subst ex;obtain rfl:ov=TU a:=rx;exact NF I2 ea c n l Y λs3 I3=>⟨σ,_,I3,q2⟩
theorem NG {O:WR}{Y:V->V->Hp->VK->Prop}(ha:PE X o ta)(hv:PE X value tv)(J:Kn X O Y):PS X (.AugAssign (.Attribute o f jO) O value pos) (Abd X.K ta tv Y f):=by intro pins s σ H D I h;refine wpAny_AugAssign_AttributeAny (Al (ha pins s σ H _ I h) λov s1 B=>AG B λx H1 I1 rx ⟨a,C,dx,fs,v,ex,ea,c,n,l,q⟩=>?_);subst ex;obtain rfl:ov=TU a:=rx;refine ND I1 ea c n l λu s2 I2 ru=>Al (hv pins s2 σ H1 _ I2 q) λw3 s3 B=>AG B λy H2 I3 ry q3=>Al (J pins s3 σ H2 v y u w3 _ I3 ru ry q3) λw4 s4 B=>AG B λz H3 I4 rz ⟨dx',eU,L,l',q4⟩=>?_;exact NF I4 L c n l' rz λs5 I5=>⟨σ,_,I5,q4⟩
def Abe:V->V->Hp->VK->Prop:=λx y H Q=>∃ i j,x=.int i/\y=.int j/\Q (.int (i+j)) H
theorem Abf:Kn X .Add Abe:=by rintro pins s σ H x y u v Q I D J ⟨i,j,rfl,rfl,q⟩;obtain ⟨t,rfl⟩:=(show ∃ t,u=Uw i t from D);obtain ⟨B,rfl⟩:=(show ∃ B,v=Uw j B from J);exact PyProof.Rows.iadd_int ⟨.int (i+j),H,I.tok _,⟨_,rfl⟩,q⟩
end
section
variable {X:Cx}{pins:List (Addr×Obj)}{σ:St}{H:Hp}{s:S0}{A:Tt}{E:Value->S0->Prop}{Q:Value->S0->Prop}{c:Value}{b:Bool}
inductive Dm (K:S3)(H:Hp):V->Value->Prop where
 | aa:Dm K H .aa (.type "NoneType")
 | bl (x:Bool):Dm K H (.bl x) (.type "bool")
 | int (i:Int):Dm K H (.int i) (.type "int")
 | str (x:Str):Dm K H (.str x) (.type "str")
 | fJ (x:UInt64):Dm K H (.fJ x) (.type "float")
 | lst {a:Addr} {xs:List V} (e:H a=some (.lst xs)):Dm K H (.ref a) (.type "list")
 | aM {a:Addr} {o:Obj} {xs:List V} (e:H a=some (.aM o (.lst xs))):Dm K H (.ref a) (.type "list")
 | tup {a:Addr} {xs:List V} (e:H a=some (.tup xs)):Dm K H (.ref a) (.type "tuple")
 | dK {a:Addr} {kvs:List (Au×V)} (e:H a=some (.dK kvs)):Dm K H (.ref a) (.type "dict")
 | dT {a:Addr} {kvs:List (List Au×V)} (e:H a=some (.dT kvs)):Dm K H (.ref a) (.type "dict")
 | ins {a C dx:Addr} {fs:List (Str×V)} (e:H a=some (.ins C dx fs)) (cl:Cg K C) (ha:Tx K (.ref C) "__class__"=some (some (.builtin "object.__class__")))
   (hn:Xo K (.builtin "object.__class__") "__get__"=some (some (.builtin "getset_descriptor.__get__"))) (fO:PySem.W.takesIn K (.builtin "object.__class__")=some true)
   (hm:PySem.W.mroIn K C (.type "object")=some true):Dm K H (.ref a) (.ref C)
theorem Abg {x:V}{u t:Value}(I:Ae X pins σ H s)(B:Ay x u)(ty:Dm X.K H x t)(e:WW X.K t c=some b)(h:∀ tk,Q (.bool b) { s with toks:=tk }) :
  S4 (S8 X.prog X.w) A (call (.builtin "isinstance") [u,c]) Q E s:=by
 cases ty with
 | aa=>cases (show u=UC from B);exact U7 PySem.W.kitx_none I.aN UP e (λz=>nomatch z) h
 | bl y=>cases (show u=WL y from B);exact U7 PySem.W.kitx_bool I.aN UP e (λz=>nomatch z) h
 | int i=>obtain ⟨t,q⟩:=(show ∃ t,u=Uw i t from B);cases q;exact U7 PySem.W.kitx_int I.aN UP e (λz=>nomatch z) h
 | str y=>obtain ⟨t,q⟩:=(show ∃ t,u=Uj y t from B);cases q;exact U7 PySem.W.kitx_str I.aN UP e (λz=>nomatch z) h
 | fJ y=>obtain ⟨t,q⟩:=(show ∃ t,u=X5 y t from B);cases q;exact U7 PySem.W.kitx_float I.aN UP e (λz=>nomatch z) h
 | @lst a xs D =>
  cases (show u=TU a from B);obtain ⟨_,_,n,_,L⟩:=(show Be X.prog X.w H s.heap a (.lst xs) from I.af a _ D);exact U7 Zz I.aN ⟨_,L,rfl⟩ e (λz=>nomatch z) h
 | @aM a ob xs D =>
  cases (show u=TU a from B);obtain ⟨_,_,_,n,_,L⟩:=AQ ((show Be X.prog X.w H s.heap a (.aM ob (.lst xs)) from I.af a _ D));exact U7 Zz I.aN ⟨_,L,rfl⟩ e (λz=>nomatch z) h
 | @tup a xs D =>
  cases (show u=TU a from B);obtain ⟨_,_,_,p⟩:=(show Be X.prog X.w H s.heap a (.tup xs) from I.af a _ D);obtain ⟨o,L,h2,_⟩:=AD p;exact U7 PySem.W.kitx_tuple I.aN ⟨o,L,h2⟩ e (λz=>nomatch z) h
 | @dK a Y D =>
  cases (show u=TU a from B);obtain ⟨_,_,vs,_,p⟩:=AQ ((show Be X.prog X.w H s.heap a (.dK Y) from I.af a _ D));obtain ⟨o,es,ep,L,h2,_⟩:=CU p;exact U7 ZA I.aN ⟨o,L,h2.1⟩ e (λz=>nomatch z) h
 | @dT a Y D =>
  cases (show u=TU a from B);obtain ⟨_,_,xs,_,o,es,ep,L,h2,_⟩:=AQ ((show Be X.prog X.w H s.heap a (.dT Y) from I.af a _ D));exact U7 ZA I.aN ⟨o,L,h2.1⟩ e (λz=>nomatch z) h
 | @ins a C dx fs D cl ha hn fO hm =>
  cases (show u=TU a from B);obtain ⟨mA,O,_⟩:=Ao (Il I.af D);obtain ⟨od,J,_⟩:=Ao O.look;exact U7 (PySem.W.kitx_own (cl.get _) cl.hd ha hn fO hm) I.aN J e (λz=>nomatch z) h
end
structure Bn (k:Nat)(A:Tt):Prop where
 hd:A.handled=none
 dp:A.depth+3 * k+5<recursionLimit
 un:A.units+16 * k+200<cLine
theorem Bn.mono {j k:Nat}{A:Tt}(r:Bn k A)(h:j<=k):Bn j A:=⟨r.hd,by have:=r.dp;omega,by have:=r.un;omega⟩
theorem Bn.d {j k:Nat}{A:Tt}(r:Bn k A)(h:j<=k:=by decide):Bn j A:=r.mono h
theorem Bn.deeper {k:Nat}{A:Tt}(r:Bn (k+1) A)(env:Env):Bn k (A.deeper env) :=
 ⟨r.hd,by have:=r.dp;show A.depth+1+3 * k+5<_;omega,by have:=r.un;show A.units+3+16 * k+200<_;omega⟩
theorem Abh {A:Tt}{C:Addr}{us:List Value}{B:List (Str×Value)}:(A.under (.builtin "type.__call__" ⟨.ref C :: us,B⟩)).depth=A.depth+1:=by first | rfl | simp [Ym,Code.weight,Code.isCreation,Code.isGuard,Code.isCaller,Code.frames,Yn,guardIds]
theorem Abi {A:Tt}{C:Addr}{us:List Value}{B:List (Str×Value)}:(A.under (.builtin "type.__call__" ⟨.ref C :: us,B⟩)).units=A.units+1:=by first | rfl | simp [Ym,Code.cUnits,Code.frames,Yn]
theorem Bn.make {k:Nat}{A:Tt}(r:Bn (k+1) A)(C:Addr)(us:List Value)(B:List (Str×Value)):Bn k (A.under (.builtin "type.__call__" ⟨.ref C :: us,B⟩)) :=
 ⟨r.hd,by have:=r.dp;rw [Abh];omega,by have:=r.un;rw [Abi];omega⟩
theorem Bn.depth {k:Nat}{A:Tt}(r:Bn k A):A.depth<recursionLimit:=by have:=r.dp;omega
theorem Bn.units {k:Nat}{A:Tt}(r:Bn k A):A.units+64<cLine:=by have:=r.un;omega
def BN:TA:=λ_ H Q=>Q [] H
def Abj (ta:TE)(tr:TA):TA:=λσ H Q=>ta σ H λx H1=>tr σ H1 λxs H2=>Q (x :: xs) H2
section
variable {X:Cx}{e:S7}{es:List S7}{te:TE}{t:TA}{pos:Pos}
theorem Af:PA X [] BN:=λ_ _ _ _ H Q I h=>ZC ⟨[],H,I,.nil,h⟩
theorem Ab (D:PE X e te)(J:PA X es t)(hs:Tj (e :: es) X.env=(false,Tf e X.env) :: Tj es X.env:=by rfl):PA X (e :: es) (Abj te t):=by intro pos pins s σ H Q I h;rw [hs];show S4 _ _ (spliced ((false,Tf e X.env) :: TZ pos (Tj es X.env))) _ _ s;refine Yo (Al (D pins s σ H _ I h) λu L B=>AG B λx O V Y q1=>?_);exact Al (J pos pins L σ O _ V q1) λus s2 B=>AG B λxs H2 I2 r2 q2=>⟨x :: xs,H2,I2,.cons Y r2,q2⟩
def Abk (t:TA):TE:=λσ H Q=>t σ H λxs H1=>xs.length<=sizeLine/\∀ p,H1 p=none->Q (.ref p) (upd H1 p (.tup xs))
def Abl (t:TA):TE:=λσ H Q=>t σ H λxs H1=>xs.length<=sizeLine/\∀ p,H1 p=none->Q (.ref p) (upd H1 p (.lst xs))
theorem A2 {x1} (h:PA X es t):PE X (.Tuple es x1 pos) (Abk t):=by intro pins s σ H Q I hq;refine wpAny_Tuple_spliced (Al (h pos pins s σ H _ I hq) λL B O=>Gj O λV D J r z q=>⟨by rw [<- r.length];exact z,?_⟩);have Y:D B.heap.objs.size=none:=J.af.fresh (Ti _);refine ⟨.ref B.heap.objs.size,upd D B.heap.objs.size (.tup V),J.laid (t':=B.toks) (λb u e=>TF _ e) (Ti _) ?_,rfl,q _ Y⟩;exact ⟨z,L,r,⟨_,Uq _ rfl,rfl,_,rfl⟩⟩
theorem Bx (h:PA X es t):PE X (.List es pos) (Abl t):=by intro pins s σ H Q I hq;refine wpAny_List_spliced (Al (h pos pins s σ H _ I hq) λL B O=>Gj O λV D J r z q=>⟨by rw [<- r.length];exact z,?_⟩);have Y:D B.heap.objs.size=none:=J.af.fresh (Ti _);refine ⟨.ref B.heap.objs.size,upd D B.heap.objs.size (.lst V),J.laid (t':=B.toks) (λb u e=>TF _ e) (Ti _) ?_,rfl,q _ Y⟩;exact ⟨z,L,0,r,Uq _ rfl⟩
end
abbrev Sp:=List V->Hp->VK->XK->Prop
abbrev BW:=List Env->Hp->S0->XK->Value->S0->Prop
structure Fh (P:Ta)(w:S6)(K:S3)(mg:Str->Option Value)(base:Heap)(A:Tt)(outer:List Env)(s:S0)(H:Hp):Prop where
 frames:A.frames=some outer
 mod:Mod K mg base
 bs:∀ b o,base.get? b=some o->s.heap.get? b=some o/\H b=none
 dR:base.objs.size<=s.heap.objs.size
 cw:s.heap.FunFrames base outer
 eX:∀ b∈Cv outer,H b=none
 af:AL P w H s.heap
 bare:Vj s.gens
def CE (outer:List Env)(P:Ta)(w:S6)(H:Hp)(s:S0)(Q:VK)(u:Value)(s':S0):Prop :=
 ∃ v H',s'.os=s.os/\Vj s'.gens/\Un (Cv outer) [] H H' s.heap s'.heap/\AL P w H' s'.heap/\Ay v u/\Q v H'
def CR (CX:BW)(outer:List Env)(P:Ta)(w:S6)(H:Hp)(s:S0)(Q:VK)(E:XK)(r:Wb)(s':S0):Prop :=
 match r with
 | .ok (.ret u)=>CE outer P w H s Q u s'
 | .ok _=>False
 | .error e=>CX outer H s E e s'
structure AB (P:Ta)(w:S6)(K:S3)(mg:Str->Option Value)(base:Heap)(CX:BW)(k:Nat)(f:Addr)(fd:Tn)(ps:List Str)(sp:Sp):Prop where
 len:∀ vs H Q E,sp vs H Q E->vs.length=ps.length
 run:∀(A:Tt)(outer:List Env)(s:S0)(H:Hp)(args:Args)(us:List Value)(vs:List V)(Q:VK)(E:XK),Bn k A->Fh P w K mg base A outer s H->Wd s fd args (ps.zip us)->Aw vs us->sp vs H Q E ->
  Uy (S8 P w) A (.call (.ref f) args) (CR CX outer P w H s Q E) s
theorem AB.mono {P:Ta}{w:S6}{K:S3}{mg:Str->Option Value}{base:Heap}{CX:BW}{j k:Nat}{f:Addr}{B:Tn}{ps:List Str}{sp:Sp}(F:AB P w K mg base CX j f B ps sp)(h:j<=k) :
  AB P w K mg base CX k f B ps sp:=⟨F.len,λA outer s H args D vs Q E I=>F.run A outer s H args D vs Q E (I.mono h)⟩
theorem Fh.make {P:Ta}{w:S6}{K:S3}{mg:Str->Option Value}{base:Heap}{A:Tt}{outer:List Env}{s:S0}{H:Hp}(e:Fh P w K mg base A outer s H)(C:Addr)(us:List Value)(B:List (Str×Value)) :
  Fh P w K mg base (A.under (.builtin "type.__call__" ⟨.ref C :: us,B⟩)) outer s H:=⟨by first | exact e.frames | (simpa [Ym,Code.envs,Yn,pushEnvs] using e.frames),e.mod,e.bs,e.dR,e.cw,e.eX,e.af,e.bare⟩
section
variable {X:Cx}{pins:List (Addr×Obj)}{σ:St}{H:Hp}{s s':S0}
theorem Ae.o5 (I:Ae X pins σ H s):Fh X.prog X.w X.K X.mg X.base X.A X.stack s H :=
 ⟨I.ok.frames,I.ok.mod,I.bs,Uk I.ok.dR I.sz,I.stack,I.kQ,I.af,I.bare⟩
theorem Ae.after {Q:VK}{u:Value}(I:Ae X pins σ H s)(h:CE X.stack X.prog X.w H s Q u s'):EP X pins σ Q u s':=by obtain ⟨v,D,os,B,un,J,r,q⟩:=Gk h;obtain ⟨L,g,d,t,O⟩:=s';obtain rfl:O=s.os:=os;exact ⟨v,D,I.call (h':=L) (g':=g) (d':=d) (t':=t) (ch:=[]) un J B (λb z=>absurd z (by simp)),r,q⟩
end
def Ip (sp:Sp)(dvs:List V)(E:XK)(t:TA):TE:=λσ H Q=>t σ H λvs H1=>sp (vs++dvs) H1 Q E
def Iq (C:Addr)(m:Str)(sp:Sp)(dvs:List V)(E:XK)(ta:TE)(t:TA):TE:=λσ H Q=>ta σ H λx H1=>∃ a dx fs,x=.ref a/\H1 a=some (.ins C dx fs)/\fs.lookup m=none /\
 t σ H1 λvs H2=>sp (x :: (vs++dvs)) H2 Q E
def NH (C:Addr)(sp:Sp)(dvs:List V)(E:XK)(t:TA):TE:=λσ H Q=>t σ H λvs H1=>∀ x dx,H1 x=none->H1 dx=none->dx≠x ->
 sp (.ref x :: (vs++dvs)) (upd (upd H1 dx (.own x)) x (.ins C dx [])) (λv H2=>v=.aa/\Q (.ref x) H2) E
def Dd (K:S3)(fd:Tn)(ps:List Str)(ds:List Value):Prop :=
 ∀(s:S0)(us:List Value),K.In s.heap->(us++ds).length=ps.length->Wd s fd ⟨us,[]⟩ (ps.zip (us++ds))
theorem Dd.all {K:S3}{B:Tn}{ps:List Str}(h:∀ us:List Value,us.length=ps.length->bindArgs B ⟨us,[]⟩=pure (ps.zip us)):Dd K B ps []:=λs us _ D=>by
 rw [WX] at D ⊢;exact .of_eq (h us D)
def CF (CX:BW)(X:Cx)(E:XK):Prop:=∀(pins:List (Addr×Obj))(σ:St)(H:Hp)(s:S0)(e:Value)(s':S0),Ae X pins σ H s->CX X.stack H s E e s'->X.xe e s'
section
variable {X:Cx}{CX:BW}{k:Nat}{f C:Addr}{fd:Tn}{ps:List Str}{sp:Sp}{dvs:List V}{ds:List Value}{E:XK}{x m:Str}{p pos apos:Pos}{e o:S7}{es:List S7}{ta:TE}{t:TA}
theorem FQ {pins:List (Addr×Obj)}{σ:St}{H:Hp}{s:S0}{Q:VK}{us:List Value}{vs:List V}(F:AB X.prog X.w X.K X.mg X.base CX k f fd ps sp)(D:Bn k X.A)(hb:Dd X.K fd ps ds)(hd:Aw dvs ds)(hx:CF CX X E)(I:Ae X pins σ H s)(r:Aw vs us)(h:sp (vs++dvs) H Q E):S4 (S8 X.prog X.w) X.A (call (.ref f) us) (EP X pins σ Q) X.xe s:=by
 have B:Aw (vs++dvs) (us++ds):=r.append hd;have J:(us++ds).length=ps.length:=by rw [<- B.length];exact F.len _ _ _ _ h
 refine Yp (Wx (F.run X.A X.stack s H ⟨us,[]⟩ (us++ds) (vs++dvs) Q E D I.o5 (hb s us I.aN J) B h) λr L hq=>?_);cases r with
 | error e=>exact hx pins σ H s e L I hq
 | ok O =>
  cases O with
  | ret u=>exact I.after hq
  | next=>exact UX hq
  | brk=>exact UX hq
  | cont=>exact UX hq
theorem Abm (F:AB X.prog X.w X.K X.mg X.base CX k f fd ps sp)(D:Bn k X.A)(J:Gl X x)(L:X.mg x=some (.ref f))(hk:Ux X.K (.ref f)=true)(hb:Dd X.K fd ps ds)(hd:Aw dvs ds)(hx:CF CX X E)(O:PA X (e :: es) t)(Y:(x == ("__debug__":Str))=false:=by decide)(he:Tj (e :: es) X.env=(false,Tf e X.env) :: Tj es X.env:=by rfl)(aU:(TZ pos (Tj es X.env)).any (·.1)=false:=by rfl) :
  PE X (.Call (.Name x p) (e :: es) [] pos) (Ip sp dvs E t):=by
 intro pins s σ H Q I h;refine Xp (Ib I J L ?_ Y);refine WY (h₀:=X.base) I.ok.mod.eV hk (Al (O pos pins s σ H _ I h) λus s1 zz=>AG zz λvs H1 B r q=>⟨B.aN,?_⟩) he aU;exact FQ F D hb hd hx B r q
theorem Abn {pl:Sem Bool}(he:PE X o ta)(c:Cg X.K C)(D:Im X.K C m f)(F:AB X.prog X.w X.K X.mg X.base CX k f fd ps sp)(hr:Bn k X.A)(hb:Dd X.K fd ps ds)(hd:Aw dvs ds)(hx:CF CX X E)(ha:PA X (e :: es) t)(aT:Tj (e :: es) X.env=(false,Tf e X.env) :: Tj es X.env:=by rfl)(aU:(TZ pos (Tj es X.env)).any (·.1)=false:=by rfl)(ht:Tf (.Call (.Attribute o m apos) (e :: es) [] pos) X.env=(do
   let J <- Tf o X.env
   UW apos.atName
   let (f,first) <- UN [J] (Vu J m pl)
   We pos f first (TZ pos (Tj (e :: es) X.env)) (Vk pos (Vl [] X.env))):=by rfl) :
  PE X (.Call (.Attribute o m apos) (e :: es) [] pos) (Iq C m sp dvs E ta t):=by
 intro pins s σ H Q I h;refine WZ (pl:=pl) (Al (he pins s σ H _ I h) λu s1 B=>AG B λx H1 L rx ⟨a,dx,fs,ex,ea,l,q⟩=>?_) ht;subst ex;obtain rfl:u=TU a:=rx;refine Io L ea c D l ?_;refine WY (first:=[.ref a]) (h₀:=X.base) I.ok.mod.eV D.kp (Al (ha pos pins s1 σ H1 _ L q) λO s2 B=>AG B λvs H2 Y r q2=>⟨Y.aN,?_⟩) aT aU;exact FQ (us:=.ref a :: O) (vs:=.ref a :: vs) F hr hb hd hx Y (.cons rfl r) q2
theorem Abo {pl:Sem Bool}(L:PE X o ta)(c:Cg X.K C)(D:Im X.K C m f)(F:AB X.prog X.w X.K X.mg X.base CX k f fd ps sp)(O:Bn k X.A)(hb:Dd X.K fd ps ds)(hd:Aw dvs ds)(hx:CF CX X E)(Y:Tf (.Call (.Attribute o m apos) [] [] pos) X.env=(do
   let J <- Tf o X.env
   UW apos.atName
   let (f,first) <- UN [J] (Vu J m pl)
   We pos f first (TZ pos (Tj [] X.env)) (Vk pos (Vl [] X.env))):=by rfl) :
  PE X (.Call (.Attribute o m apos) [] [] pos) (Iq C m sp dvs E ta BN):=by
 intro pins s σ H Q I h;refine WZ (pl:=pl) (Al (L pins s σ H _ I h) λu s1 zz=>AG zz λx H1 B rx ⟨a,dx,fs,ex,ea,l,q⟩=>?_) Y;subst ex;obtain rfl:u=TU a:=rx;refine Io B ea c D l ?_;exact ZD (first:=[.ref a]) B.aN D.kp (FQ (us:=[.ref a]) (vs:=[.ref a]) F O hb hd hx B (.cons rfl .nil) q)
structure Mk (K:S3)(C f:Addr):Prop where
 makes:VI K C=true
 init:Tx K (.ref C) "__init__"=some (some (.ref f))
 fn:VH K (.ref f)=true
 kp:Ux K (.ref C)=true
theorem Abp {pins:List (Addr×Obj)}{σ:St}{H:Hp}{s:S0}{Q:VK}{us:List Value}{vs:List V}(M:Mk X.K C f)(F:AB X.prog X.w X.K X.mg X.base CX k f fd ps sp)(L:Bn (k+1) X.A)(hb:Dd X.K fd ps ds)(hd:Aw dvs ds)(hx:CF CX X E)(I:Ae X pins σ H s)(r:Aw vs us)(h:∀ x dx,H x=none->H dx=none->dx≠x->sp (.ref x :: (vs++dvs)) (upd (upd H dx (.own x)) x (.ins C dx [])) (λv O=>v=.aa/\Q (.ref x) O) E) :
  S4 (S8 X.prog X.w) X.A (call (.ref C) us) (EP X pins σ Q) X.xe s:=by
 have hq:=h (s.heap.objs.size+1) s.heap.objs.size (I.af.fresh (UA _)) (I.af.fresh (Ti _)) (TK (WU _));have D:=Ae.made (C:=C) I;have J:Aw (V.ref (s.heap.objs.size+1) :: (vs++dvs)) (TU (s.heap.objs.size+1) :: (us++ds)):=.cons rfl (r.append hd);have Y:(TU (s.heap.objs.size+1) :: us++ds).length=ps.length:=by have e:=J.length;rw [F.len _ _ _ _ hq] at e;exact e.symm
 refine Yp (Aa7 (f:=f) I.aN M.makes M.init (beq_iff_eq.mp M.fn) (Wx (F.run _ X.stack _ _ ⟨TU (s.heap.objs.size+1) :: us,[]⟩ (TU (s.heap.objs.size+1) :: (us++ds)) _ _ E (L.make C us [])
  (D.o5.make C us []) (hb _ (TU (s.heap.objs.size+1) :: us) D.aN Y) J hq) λr s' B=>?_))
 cases r with
 | error e=>exact hx pins σ _ _ e s' D B
 | ok fl =>
  cases fl with
  | ret u =>
   obtain ⟨v,H',I3,rv,ev,q3⟩:=Bi (D.after B);subst ev;exact ⟨rv,⟨V.ref (s.heap.objs.size+1),H',I3,rfl,q3⟩⟩
  | next=>exact UX B
  | brk=>exact UX B
  | cont=>exact UX B
theorem Abq (M:Mk X.K C f)(F:AB X.prog X.w X.K X.mg X.base CX k f fd ps sp)(D:Bn (k+1) X.A)(J:Gl X x)(L:X.mg x=some (.ref C))(hb:Dd X.K fd ps ds)(hd:Aw dvs ds)(hx:CF CX X E)(O:PA X (e :: es) t)(Y:(x == ("__debug__":Str))=false:=by decide)(he:Tj (e :: es) X.env=(false,Tf e X.env) :: Tj es X.env:=by rfl)(aU:(TZ pos (Tj es X.env)).any (·.1)=false:=by rfl) :
  PE X (.Call (.Name x p) (e :: es) [] pos) (NH C sp dvs E t):=by
 intro pins s σ H Q I h;refine Xp (Ib I J L ?_ Y);refine WY (h₀:=X.base) I.ok.mod.eV M.kp (Al (O pos pins s σ H _ I h) λus s1 zz=>AG zz λvs H1 B r q=>⟨B.aN,?_⟩) he aU;exact Abp M F D hb hd hx B r q
end
section
variable {X:Cx}{CX:BW}{k:Nat}{f C:Addr}{fd:Tn}{ps ks:List Str}{sp:Sp}{E:XK}{x m:Str}{p pos apos adU:Pos}{e o:S7}{es:List S7}{kws:List Wf}{te ta:TE}{t tk:TA}{nm:Option Str}
structure Ah1 (K:S3)(fd:Tn)(ps ks:List Str)(g:List Value->List Value->List Value)(gV:List V->List V->List V):Prop where
 to:∀(s:S0)(us ws:List Value),K.In s.heap->(g us ws).length=ps.length->Wd s fd ⟨us,ks.zip ws⟩ (ps.zip (g us ws))
 rel:∀{vs:List V}{us:List Value}{zs:List V}{ws:List Value},Aw vs us->Aw zs ws->Aw (gV vs zs) (g us ws)
variable {g:List Value->List Value->List Value}{gV:List V->List V->List V}
end
structure AO (N P:List Str)(sc:Scope):Prop where
 kind:sc.kind=.function
 co:sc.isCoroutine=false
 gen:sc.isGenerator=false
 nd:N.Nodup
 pre:N.take P.length=P
 par:∀ x∈P,sc.names.lookup x=some .local\/sc.names.lookup x=some .cell
 aag:∀ y∈sc.names,y.2≠.free
theorem NI {kindOf:Str->Option VJ}{x:Str}:∀{binds:List (Str×Value)}{m:Str->Option Value},(∀ v,(x,v) ∉ binds)->VL kindOf binds m x=m x
 | [],_,_=>rfl
 | (n,v) :: r,m,h=>by
  unfold VL;rw [NI λw hw=>h w (T1 _ hw)];split
  .have:x≠n:=by rintro rfl;exact h v T9
   simp [this]
  .rfl
theorem NJ {kindOf:Str->Option VJ}{x:Str}:∀{binds:List (Str×Value)}{m:Str->Option Value},(∀ v,(x,v) ∉ binds)->VM kindOf binds m x=m x
 | [],_,_=>rfl
 | (n,v) :: r,m,h=>by
  unfold VM;rw [NJ λw hw=>h w (T1 _ hw)];split
  .rfl
  .have:x≠n:=by rintro rfl;exact h v T9
   simp [this]
theorem NK {kindOf:Str->Option VJ}{x:Str}{v:Value}:∀{P:List Str}{vs:List Value}{i:Nat}{m:Str->Option Value},P.Nodup->P[i]?=some x->vs[i]?=some v->kindOf x=some .local ->
  VL kindOf (P.zip vs) m x=some v
 | [],_,_,_,_,h,_,_=>by simp at h
 | _ :: _,[],_,_,_,_,h,_=>by simp at h
 | p :: P,w :: vs,0,m,nd,h1,h2,hk=>by
  simp at h1 h2;subst h1;subst h2;show VL kindOf ((p,w) :: P.zip vs) m p=_;unfold VL;rw [NI λv hv=>(TV.mp nd).1 (Yq hv).1,if_pos hk];simp
 | p :: P,w :: vs,i+1,m,nd,h1,h2,hk=>by
  show VL kindOf ((p,w) :: P.zip vs) m x=_;unfold VL;exact NK (i:=i) (TV.mp nd).2 (by simpa using h1) (by simpa using h2) hk
theorem NL {kindOf:Str->Option VJ}{x:Str}{v:Value}:∀{P:List Str}{vs:List Value}{i:Nat}{m:Str->Option Value},P.Nodup->P[i]?=some x->vs[i]?=some v->kindOf x≠some .local ->
  VM kindOf (P.zip vs) m x=some v
 | [],_,_,_,_,h,_,_=>by simp at h
 | _ :: _,[],_,_,_,_,h,_=>by simp at h
 | p :: P,w :: vs,0,m,nd,h1,h2,hk=>by
  simp at h1 h2;subst h1;subst h2;show VM kindOf ((p,w) :: P.zip vs) m p=_;unfold VM;rw [NJ λv hv=>(TV.mp nd).1 (Yq hv).1,if_neg hk];simp
 | p :: P,w :: vs,i+1,m,nd,h1,h2,hk=>by
  show VM kindOf ((p,w) :: P.zip vs) m x=_;unfold VM;exact NL (i:=i) (TV.mp nd).2 (by simpa using h1) (by simpa using h2) hk
noncomputable def start (N:List Str)(vs:List V):St:=vs.map some++Th (N.length - vs.length) none
noncomputable def CK (CX:BW)(P:Ta)(w:S6)(K:S3)(mg:Str->Option Value)(base:Heap)(N:List Str)(qual:Str)(scope:Scope)(f:Addr)(cd:Value)(A:Tt)(outer:List Env)(s:S0)(H:Hp)(E:XK):Cx where
 prog:=P
 w:=w
 K:=K
 mg:=mg
 base:=base
 A:=A.deeper (Vm qual scope s.heap.objs.size f cd)
 N:=N
 s₀:=s
 H₀:=H
 env:=Vm qual scope s.heap.objs.size f cd
 outer:=outer
 stack:=Vm qual scope s.heap.objs.size f cd :: outer
 ex:=[]
 calm:=true
 fn:=λ_=>true
 pn:=[]
 xe:=λe s'=>S4 (S8 P w) (A.deeper (Vm qual scope s.heap.objs.size f cd)) (leaving (Vm qual scope s.heap.objs.size f cd) e) (λ_ aO=>CX outer H s E e aO) (λe' aO=>CX outer H s E e' aO) s'
theorem NM {sc:Scope}{n:Nat}{x:Str}(h:sc.names.lookup x=some .cell):∃ c,(Yr n sc.names []).lookup x=some c:=by have q:=ZE sc.names n [] (.inl h);exact Ys.mp q
theorem Abr {CX:BW}{P:Ta}{w:S6}{K:S3}{mg:Str->Option Value}{base:Heap}{N ps:List Str}{D:Str}{B:Scope}{f:Addr}{O:Value}{A:Tt}{outer:List Env}{s s1:S0}{H:Hp}{E:XK}{us:List Value}{vs:List V}(S:AO N ps B)(hd:A.handled=none)(J:Fh P w K mg base A outer s H)(hl:vs.length=ps.length)(r:Aw vs us)(x:InCallC s s.heap.objs.size (VL (Vm D B s.heap.objs.size f O).kindOf (ps.zip us) λ_=>none) (Yr (s.heap.objs.size+1) B.names []) (VM (Vm D B s.heap.objs.size f O).kindOf (ps.zip us) λ_=>none) s1) :
  Ae (CK CX P w K mg base N D B f O A outer s H E) [] (start N vs) H s1:=by
 have aU:ps.length<=N.length:=by have:=congrArg Wz S.pre;rw [UZ] at this;omega
 obtain ⟨Y,tk,rfl,hk⟩:=Bl x.done;have iz:∀ b:Addr,b ∉ (CK CX P w K mg base N D B f O A outer s H E).ex:=λb z=>absurd (show b∈([]:List Addr) from z) (by simp);refine ⟨⟨J.mod,S.kind,rfl,rfl,Ti _,λy z c Y I=>?_,λy hy=>?_,λy c _ h=>?_,λ_=>hd,Around.frames_deeper J.frames,.inr ⟨rfl,rfl⟩,λb z=>absurd z (iz b),J.bs,J.dR,λb _ _=>iz b,λb z=>absurd z (iz b),J.cw,J.eX⟩,
  rfl,J.bare,Un.kept hk,⟨_,x.toInCall.ns,λi y v Y I h3=>?_⟩,λy c h=>⟨_,x.cell y c h⟩,J.af.fresh (Ti _),λy c h=>?_,λp L=>absurd (show p∈([]:List (Addr×Obj)) from L) (by simp),J.af.kept hk,?_⟩
 .exact name_of_addr x.apart (Vn Y) (Vn I)
 .have hy:B.names.lookup y=some .cell\/B.names.lookup y=some .free:=hy;rcases hy with hy | hy
  .exact NM hy
  .exact absurd rfl (S.aag _ (Vn hy))
 .exact Yb (x.above y c (Vn h))
 .have hi:i<vs.length:=by
   unfold start at I;by_cases hi:i<vs.length
   .exact hi
   .rw [List.getElem?_append_right (by simpa using hi)] at I;rw [List.getElem?_replicate] at I;split at I<;>cases I
  have ha:vs[i]?=some v:=by
   unfold start at I;rw [ZF (by simpa using hi),Tp] at I;cases e:vs[i]? with
   | none=>rw [e] at I;cases I
   | some a=>rw [e] at I;cases I;rfl
  obtain ⟨u,hu,rv⟩:=Ao (r.get ha);have L:ps[i]?=some y:=by rw [<- S.pre,Yt (by omega)];exact Y
  have o6:ps.Nodup:=by rw [<- S.pre];exact S.nd.sublist (List.take_sublist _ _)
  refine ⟨u,rv,?_⟩;rcases S.par y (Tz L) with k | k
  .exact .inl ⟨k,NK o6 L hu k⟩
  .obtain ⟨c,e⟩:=NM (n:=s.heap.objs.size+1) k;refine .inr ⟨.inl k,c,e,?_⟩;have q:=x.cell y c e;rw [NL o6 L hu (by show B.names.lookup y≠_;rw [k];decide)] at q;exact q
 .exact J.af.fresh (Yb (x.above y c (Vn h)))
 .unfold start;show _=N.length;rw [Ul,Tb,Uu];omega
theorem NO {CX:BW}{P:Ta}{w:S6}{K:S3}{mg:Str->Option Value}{base:Heap}{k:Nat}{f:Addr}{name D:Str}{L:Arguments}{body:List Stmt}{B:Scope}{dV kV doc pm Y ct oc:Value}{an od:Option Addr}{dZ:Array (Option Value)}{N ps:List Str}{sp:Sp}(lk:K.lookup f=some ⟨oc,od,.func (UQ name D L body B dV kV doc pm an Y ct),dZ⟩)(cV:Vw K Y D=true)(S:AO N ps B)(len:∀ vs H Q E,sp vs H Q E->vs.length=ps.length)(iA:∀ (A:Tt) (outer:List Env) (s:S0) (H:Hp) (vs:List V) (Q:VK) (E:XK),Bn k (A.deeper (Vm D B s.heap.objs.size f Y))->sp vs H Q E ->
   ∃ t,CW (CK CX P w K mg base N D B f Y A outer s H E) body t/\t { nx:=λ_ O=>Q .aa O,rt:=Q } (start N vs) H) :
  AB P w K mg base CX (k+1) f (UQ name D L body B dV kV doc pm an Y ct) ps sp:=by
 refine ⟨len,λA outer s H args us vs Q E hr e0 hb r dy=>?_⟩;have hl:=len _ _ _ _ dy;have KX:K.In s.heap:=e0.mod.eV.keeps λb o e=>(e0.bs b o e).1;have lim:s.heap.NoLimit:=e0.mod.nolimit.keeps λb o e=>(e0.bs b o e).1;have aah:∀ y∈ps.zip us,B.names.lookup y.1=some .local\/(B.names.lookup y.1=some .cell/\((Yr (s.heap.objs.size+1) B.names []).lookup y.1).isSome=true):=λ⟨n,v⟩ hy=>by
  rcases S.par n (Yq hy).1 with q | q
  .exact .inl q
  .exact .inr ⟨q,ZE _ _ _ (.inl q)⟩
 refine codeAny_call_function hr.depth (KX _ _ lk) rfl S.co S.gen rfl (PySem.W.codeRec_of KX cV) (hb _ _ _ _ ?_);refine wpAny_newFunctionEnv_cells S.kind aah λenv he s1 x=>?_;subst he;refine ⟨lim.keeps x.toInCall.keep,codeAny_func ?_⟩;obtain ⟨t,ht,hq⟩:=Ao (iA A outer s H vs Q E (hr.deeper _) dy);have I:Ae (CK CX P w K mg base N D B f Y A outer s H E) [] (start N vs) H s1:=Abr S hr.hd e0 hl r x;refine U4 (ht [] s1 (start N vs) H _ I hq) (λfl s' hs=>?_) λe s' hs=>hs;have fin:∀{σ':St}{O:Hp}{v:V}{u:Value},Ae (CK CX P w K mg base N D B f Y A outer s H E) [] σ' O s'->Ay v u->Q v O->CE outer P w H s Q u s' :=
  λ{σ' O v u} J rv q=>⟨v,O,J.os,J.bare,J.base,J.af,rv,q⟩
 cases fl with
 | ret u =>
  obtain ⟨v,σ',O,J,rv,q⟩:=CU hs;exact fin J rv q
 | next =>
  obtain ⟨σ',O,J,q⟩:=Bl hs;exact fin (v:=V.aa) (u:=UC) J rfl q
 | brk =>
  obtain ⟨_,_,_,q⟩:=Bl hs;exact UX q
 | cont =>
  obtain ⟨_,_,_,q⟩:=Bl hs;exact UX q
section
variable {X:Cx}{x:Str}{p pos:Pos}{e:S7}{es:List S7}{t:TA}{id T:String}{r:List V->Hp->VK->Prop}
def Ir (r:List V->Hp->VK->Prop)(t:TA):TE:=λσ H Q=>t σ H λvs H1=>r vs H1 Q
theorem Abs (hc:BB X (.builtin id) r)(B:Gl X x)(D:X.mg x=none)(hv:Uo x=some (.builtin id))(J:PA X (e :: es) t)(L:x≠"__name__":=by decide)(O:(x == ("__debug__":Str))=false:=by decide)(Y:Tj (e :: es) X.env=(false,Tf e X.env) :: Tj es X.env:=by rfl)(aU:(TZ pos (Tj es X.env)).any (·.1)=false:=by rfl):PE X (.Call (.Name x p) (e :: es) [] pos) (Ir r t):=by intro pins s σ H Q I h;refine Xp (Fe I B D hv ?_ L O);exact PyProof.Rows.callWith_builtin1 (Al (J pos pins s σ H _ I h) λus s1 zz=>AG zz λvs H1 I1 r1 q1=>hc pins s1 σ H1 vs us Q I1 r1 q1) Y aU
theorem Abt (hc:BB X (.type T) r)(B:Gl X x)(D:X.mg x=none)(hv:Uo x=some (.type T))(J:PA X (e :: es) t)(L:x≠"__name__":=by decide)(O:(x == ("__debug__":Str))=false:=by decide)(Y:Tj (e :: es) X.env=(false,Tf e X.env) :: Tj es X.env:=by rfl)(aU:(TZ pos (Tj es X.env)).any (·.1)=false:=by rfl):PE X (.Call (.Name x p) (e :: es) [] pos) (Ir r t):=by intro pins s σ H Q I h;refine Xp (Fe I B D hv ?_ L O);exact WT (Al (J pos pins s σ H _ I h) λus s1 zz=>AG zz λvs H1 I1 r1 q1=>hc pins s1 σ H1 vs us Q I1 r1 q1) Y aU
end
end L2
namespace HT
open PySem PyProof.Rows
section
open PySem.SeqAt
open PySem.AutoSeq1 (wpAny_loadPart')
open PySem.MeetsSeq PySem.MeetsSeq2 PySem.MeetsSeq3
end
section
variable {prog:Ta}{w:S6}{A:Tt}{E:Value->S0->Prop}{s:S0}
noncomputable def ao (n d:Nat):Option Int->Nat
 | none=>d
 | some v=>if v<0 then (v+(n:Int)).toNat else min v.toNat n
theorem kZ (n d:Nat)(hd:d<=n)(o:Option Int):ao n d o<=n:=by
 cases o with
 | none=>exact hd
 | some v =>
  show (if v<0 then (v+(n:Int)).toNat else min v.toNat n)<=n;by_cases hv:v<0
  .rw [if_pos hv];omega
  .rw [if_neg hv];exact Nat.min_le_right _ _
theorem k6 (v:Int)(n d:Nat):(if v<0 then max (v+(n:Int)) 0 else min v (n:Int))=((ao n d (some v):Nat):Int):=by
 show (if v<0 then max (v+(n:Int)) 0 else min v (n:Int))=(((if v<0 then (v+(n:Int)).toNat else min v.toNat n):Nat):Int);by_cases hv:v<0
 .simp only [if_pos hv];omega
 .simp only [if_neg hv];omega
theorem Abu (lo B:Option Int)(n:Nat):Yu lo B 1 (n:Int)=(((ao n 0 lo:Nat):Int),((ao n n B:Nat):Int)):=by
 have D:¬ ((1:Int)<0):=by omega
 unfold Yu;simp only [D,if_false];refine WA ?_ ?_
 .cases lo with
  | none=>rfl
  | some v=>exact k6 v n 0
 .cases B with
  | none=>rfl
  | some v=>exact k6 v n n
theorem Abv (i j:Nat):Xq (i:Int) (j:Int) 1=j - i:=by
 unfold Xq;have B:(1:Int) > 0:=by omega
 simp only [B,if_true,Int.ediv_one];split<;>omega
theorem NP {v:Value}{o:Option Int}{Q:Option Int->S0->Prop}(p:VN v o)(h:Q o s):S4 (S8 prog w) A (Builtin.Slice.slicePartIndex v) Q E s:=by
 cases p with
 | none=>exact ZG h
 | int i t=>exact slicePart_int h
theorem Abw {L:Addr}{D H:Value}{lo B:Option Int}{n:Nat}{Q:Int×Int×Nat->S0->Prop}(hs:s.heap.IsSliceOf L D H .none)(pl:VN D lo)(O:VN H B)(h:Q (((ao n 0 lo:Nat):Int),1,ao n n B - ao n 0 lo) s):S4 (S8 prog w) A (ZH (.ref L) (pure (n:Int))) Q E s:=by obtain ⟨os,I,V,J⟩:=id hs;unfold ZH Builtin.Slice.sliceFields;refine S5 (S5 (U0 I J (x:=D) rfl (S5 (U0 I J (x:=H) rfl (S5 (U0 I J (x:=.none) rfl (Te ?_)))))));refine S5 (ZG ?_);show S4 _ _ (if ((1:Int) == 0)=true then _ else _) _ _ s;rw [if_neg (by decide)];refine S5 (NP pl (S5 (NP O (S5 (Te ?_)))));show S4 _ _ (match Yu lo B 1 (n:Int) with | (lo,B)=>pure (lo,(1:Int),Xq lo B 1)) _ _ s;rw [Abu lo B n];show S4 _ _ (pure (((ao n 0 lo:Nat):Int),(1:Int),Xq ((ao n 0 lo:Nat):Int) ((ao n n B:Nat):Int) 1)) _ _ s;rw [Abv];exact Te h
theorem Abx (xs:Array Value)(i k:Nat):((Ur k).filterMap λ(m:Nat)=>xs[((i:Int)+(m:Int) * 1).toNat]?).toArray=((xs.toList.drop i).take k).toArray:=by
 have e:(λ(m:Nat)=>xs[((i:Int)+(m:Int) * 1).toNat]?)=λm=>xs[i+m]?:=by
  funext m
  have:((i:Int)+(m:Int) * 1).toNat=i+m:=by omega
  rw [this]
 rw [e];have:=pick_run xs i k;rw [List.filterMap_map] at this;have B:((λx=>xs[x]?)∘λx=>i+x)=λm=>xs[i+m]?:=rfl;rw [B] at this;rw [this]
theorem aai {t I:Addr}{items:Array Value}{L O:Value}{lo B:Option Int}{Q:Value->S0->Prop}(D:IsTup s.heap t items)(hs:s.heap.IsSliceOf I L O .none)(pl:VN L lo)(V:VN O B)(hw:¬ (ao items.size 0 lo=0/\ao items.size items.size B=items.size))(h:Q (.ref s.heap.objs.size) { s with heap:=s.heap.push { cls:=.type "tuple",data:=.seq ((items.toList.drop (ao items.size 0 lo)).take (ao items.size items.size B - ao items.size 0 lo)).toArray } })(hsz:items.size<=sizeLine):S4 (S8 prog w) A (VD (.ref t) (.ref I)) Q E s:=by
 have H:sizeOk (.seq ((items.toList.drop (ao items.size 0 lo)).take (ao items.size items.size B - ao items.size 0 lo)).toArray):=by show ((items.toList.drop (ao items.size 0 lo)).take (ao items.size items.size B - ao items.size 0 lo)).toArray.size<=sizeLine;rw [TR,UZ,Yv,UE];omega
 have hj:ao items.size items.size B<=items.size:=kZ _ _ (Ti _) B;obtain ⟨os,Y,o7,jP⟩:=id hs;have J:s.TypeIs (.ref I) "slice":=⟨os,Y,o7⟩;unfold VD;try with_reducible refine U5 ?_
 first | refine S5 (Te ?_) | skip
 refine S5 (wpAny_sequenceKey D.typeIs (by decide) ?_);refine S5 (W0 (name:=S9 "__getitem__") D.typeIs Yw
  (Wg Yw D.typeIs entry_tuple_getitem ?_ (args_tuple_getitem _ _)))
 show S4 _ _ (Builtin.Tuple.tupleItemsOf (.ref t) >>= _) _ _ s;refine S5 (tupleItemsOf_ D ?_);refine S5 (wpAny_typeOf J ?_);rw [if_pos (by decide)];refine S5 (Abw hs pl V ?_);have iC:¬ ((((ao items.size 0 lo:Nat):Int) == 0 && (1:Int) == 1 && (ao items.size items.size B - ao items.size 0 lo) == items.size)=true):=by intro q;rw [UK,UK] at q;have q1:((ao items.size 0 lo:Nat):Int)=0:=eq_of_beq q.1.1;have q2:ao items.size items.size B - ao items.size 0 lo=items.size:=eq_of_beq q.2;exact hw ⟨by omega,by omega⟩
 show S4 _ _ (if (((ao items.size 0 lo:Nat):Int) == 0 && (1:Int) == 1 && (ao items.size items.size B - ao items.size 0 lo) == items.size)=true then _ else _) _ _ s;rw [if_neg iC,Abx];first
  | exact S5 (m:=Xr _) (VO (Te ⟨_,rfl,Te h⟩) H)
  | exact S5 (m:=Xr _) (VO (S5 (Te (Te ⟨_,rfl,Te h⟩))) H)
  | exact S5 (S5 (m:=Xr _) (VO (Te (Te ⟨_,rfl,Te h⟩)) H))
  | exact S5 (S5 (m:=Xr _) (VO (Te ⟨_,rfl,Te h⟩) H))
end
end HT
namespace L2
open PySem PySem.Spec PyProof.Rows
abbrev TO:=St->Hp->(Option Int->Hp->Prop)->Prop
def PO (X:Cx)(e:Option S7)(t:TO):Prop :=
 ∀(pins:List (Addr×Obj))(s:S0)(σ:St)(H:Hp)(Q:Option Int->Hp->Prop),Ae X pins σ H s->t σ H Q ->
  S4 (S8 X.prog X.w) X.A (evalPart e X.env) (λu s'=>∃ o H',Ae X pins σ H' s'/\VN u o/\Q o H') X.xe s
def Aby:TO:=λ_ H Q=>Q none H
def Abz (t:TE):TO:=λσ H Q=>t σ H λx H1=>∃ i,x=.int i/\Q (some i) H1
section
variable {X:Cx}{e:S7}{te:TE}{lo hi:Option S7}{tl th:TO}{pos p2:Pos}
theorem Ko:PO X none Aby:=by intro pins s σ H Q I h;rw [evalPart_none];exact Te ⟨none,H,I,.none,h⟩
theorem Kq (h:PE X e te):PO X (some e) (Abz te):=by
 intro pins s σ H Q I hw;rw [evalPart_some];refine Al (h pins s σ H _ I hw) λu V D=>AG D λx J L O B=>?_;replace B:=Ao B;obtain ⟨i,rfl,q⟩:=B
 obtain ⟨t,rfl⟩:=O;exact ⟨some i,J,L,.int i t,q⟩
def Ec (X:Cx)(r:V->Option Int->Option Int->Hp->VK->Prop):Prop :=
 ∀(pins:List (Addr×Obj))(s:S0)(σ:St)(H:Hp)(x:V)(v vl vu:Value)(lo hi:Option Int)(sl:Addr)(Q:VK),Ae X pins σ H s->Ay x v->s.heap.IsSliceOf sl vl vu .none->VN vl lo->VN vu hi->r x lo hi H Q ->
  ∃ T id,typeLookup (.type T) "__getitem__"=pure (some (.builtin id))/\s.TypeIs v T/\S4 (S8 X.prog X.w) X.A (VD v (.ref sl)) (EP X pins σ Q) X.xe s
theorem Ec.or {r B:V->Option Int->Option Int->Hp->VK->Prop}(h:Ec X r)(h':Ec X B):Ec X (λx lo hi H Q=>r x lo hi H Q\/B x lo hi H Q):=by
 intro pins s σ H x v D J lo hi L Q I O hs pl Y q;rcases q with q | q
 .exact h pins s σ H x v D J lo hi L Q I O hs pl Y q
 .exact h' pins s σ H x v D J lo hi L Q I O hs pl Y q
def tSl (r:V->Option Int->Option Int->Hp->VK->Prop)(te:TE)(tl th:TO):TE:=λσ H Q=>te σ H λx H1=>tl σ H1 λl H2=>th σ H2 λu H3=>r x l u H3 Q
theorem Kr {r:V->Option Int->Option Int->Hp->VK->Prop}(Y:Ec X r)(he:PE X e te)(hl:PO X lo tl)(hu:PO X hi th):PE X (.Subscript e (.Slice lo hi none p2) pos) (tSl r te tl th):=by intro pins s σ H Q I h;refine Yx (Al (he pins s σ H _ I h) λv s1 D=>AG D λx H1 I1 r1 q1=>?_);refine wpAny_Slice (Al (hl pins s1 σ H1 _ I1 q1) λJ s2 D=>AG D λl H2 I2 pl q2=>Al (hu pins s2 σ H2 _ I2 q2) λL B D=>AG D λu O I3 pu q3=>?_);rw [evalPart_none];refine Te ?_;have I4:Ae X pins σ O { B with heap:=B.heap.push { cls:=.type "slice",data:=.fields #[J,L,.none] } }:=I3.kept (t':=B.toks) λb ob q=>TF _ q;obtain ⟨T,id,hT,ht,hg⟩:=Bi (Y pins { B with heap:=B.heap.push { cls:=.type "slice",data:=.fields #[J,L,.none] } } σ O x v J L l u B.heap.objs.size Q I4 r1 (Heap.IsSliceOf.new ..) pl pu q3);show S4 (S8 X.prog X.w) X.A (Yy e (.Slice lo hi none p2) v (.ref B.heap.objs.size)) (EP X pins σ Q) X.xe { B with heap:=B.heap.push { cls:=.type "slice",data:=.fields #[J,L,.none] } };exact tail_any (ops:=[.ref B.heap.objs.size,v]) ht hT hg (by with_unfolding_all rfl)
noncomputable def Ed (xs:List V)(lo hi:Option Int):List V:=(xs.drop (HT.ao xs.length 0 lo)).take (HT.ao xs.length xs.length hi - HT.ao xs.length 0 lo)
theorem NQ (xs:List V)(lo hi:Option Int):(Ed xs lo hi).length<=xs.length:=by unfold Ed;rw [UZ,Yv];omega
def AbA (K:S3):V->Option Int->Option Int->Hp->VK->Prop:=λx lo hi H Q=>∃ a xs,x=.ref a/\Bh K H a xs /\
 ¬ (HT.ao xs.length 0 lo=0/\HT.ao xs.length xs.length hi=xs.length)/\∀ p,H p=none->Q (.ref p) (upd H p (.tup (Ed xs lo hi)))
theorem NR:Ec X (AbA X.K):=by
 intro pins s σ H x v Y vu lo hi sl Q I O hs pl V h;replace h:=Bi h;obtain ⟨a,D,rfl,hx,hw,q⟩:=h
 cases O;obtain ⟨its,r,J,L⟩:=AD (I.tuple hx);have B:its.toArray.size=D.length:=by rw [TR];exact r.length.symm
 refine ⟨"tuple",_,Yw.lookup,J.typeIs,?_⟩;refine HT.aai J hs pl V (by rw [B];exact hw) ?_ (by rw [B];exact L);rw [B];refine ⟨.ref s.heap.objs.size,_,I.laid (t':=s.toks) (o:=.tup (Ed D lo hi)) (λb ob q=>TF _ q) (Ti _) ?_,rfl,q _ (I.af.fresh (Ti _))⟩;exact ⟨Uk (NQ D lo hi) L,_,(r.drop (HT.ao D.length 0 lo)).take (HT.ao D.length D.length hi - HT.ao D.length 0 lo),IsTup.new _ _⟩
end
noncomputable def DW (n:Nat)(i:Int):Option Nat:=if 0<=i then (if i<n then some i.toNat else none) else if -(n:Int)<=i then some (i+n).toNat else none
noncomputable def Cm {α:Type}(xs:List α)(i:Int):Option α:=(DW xs.length i).bind λj=>xs[j]?
theorem NS {n:Nat}{i:Int}{j:Nat}(h:DW n i=some j):Xs i n=some j/\j<n/\-(n:Int)<=i/\i<n:=by
 unfold DW at h;by_cases D:0<=i
 .rw [if_pos D] at h;by_cases B:i<n
  .rw [if_pos B] at h;have e:i.toNat=j:=Ts h;exact ⟨by rw [Xt D B,e],by omega,by omega,B⟩
  .rw [if_neg B] at h;cases h
 .rw [if_neg D] at h;by_cases B:-(n:Int)<=i
  .rw [if_pos B] at h;have e:(i+n).toNat=j:=Ts h;exact ⟨by rw [Yz (by omega) B,e],by omega,B,by omega⟩
  .rw [if_neg B] at h;cases h
theorem Iu {α:Type}{xs:List α}{i:Int}{v:α}(h:Cm xs i=some v):∃ j,Xs i xs.length=some j/\xs[j]?=some v/\j<xs.length/\-(xs.length:Int)<=i/\i<xs.length:=by
 unfold Cm at h;cases e:DW xs.length i with
 | none=>rw [e] at h;cases h
 | some j =>
  rw [e] at h;obtain ⟨B,D,H,I⟩:=AQ (NS e);exact ⟨j,B,h,D,H,I⟩
theorem Ks {α:Type}{xs:List α}{j:Nat}{v:α}(h:xs[j]?=some v):Cm xs (j:Int)=some v:=by
 have B:j<xs.length:=(TH.mp h).1;have e:DW xs.length (j:Int)=some j:=by unfold DW;rw [if_pos (by omega),if_pos (by omega)];simp
 unfold Cm;rw [e];exact h
def AbB (b:S7):Prop:=∀ o i,Xu b false o i=operate [o,i] (VD o i)
def DX (X:Cx)(r:R2):Prop :=
 ∀(value slice:S7)(pins:List (Addr×Obj))(s:S0)(σ:St)(H:Hp)(x y:V)(v u:Value)(Q:VK),Ae X pins σ H s->Ay x v->Ay y u->r x y H Q ->
  Xu slice false v u=operate [v,u] (VD v u)->S4 (S8 X.prog X.w) X.A (Yy value slice v u) (EP X pins σ Q) X.xe s
def MtR (X:Cx)(id:String)(r:V->List V->Hp->VK->Prop):Prop :=
 ∀(pins:List (Addr×Obj))(s:S0)(σ:St)(H:Hp)(x:V)(xs:List V)(v:Value)(us:List Value)(Q:VK),Ae X pins σ H s->Ay x v->Aw xs us->r x xs H Q ->
  S4 (S8 X.prog X.w) X.A (call (.builtin id) (v :: us)) (EP X pins σ Q) X.xe s
section
variable {X:Cx}{a b:S7}{ta tb:TE}{pos:Pos}
theorem DX.or {r B:R2}(h:DX X r)(h':DX X B):DX X (λx y H Q=>r x y H Q\/B x y H Q):=by
 intro value slice pins s σ H x y v u Q I D J q hs;rcases q with q | q
 .exact h value slice pins s σ H x y v u Q I D J q hs
 .exact h' value slice pins s σ H x y v u Q I D J q hs
theorem BC {r:R2}(B:DX X r)(D:PE X a ta)(hb:PE X b tb)(hs:AbB b):PE X (.Subscript a b pos) (Ig r ta tb):=by intro pins s σ H Q I h;exact Yx (Ki D hb I h λv u J x y L O V Y q=>B a b pins J σ L x y v u Q O V Y q (hs _ _))
def NT (K:S3):R2:=λx y H Q=>∃ p xs i v,x=.ref p/\y=.int i/\Ba K H p xs/\Cm xs i=some v/\Q v H
def NU (K:S3):R2:=λx y H Q=>∃ p xs i v,x=.ref p/\y=.int i/\Bh K H p xs/\Cm xs i=some v/\Q v H
def NV:R2:=λx y H Q=>∃ z i c,x=.str z/\y=.int i/\z.length<=sizeLine/\Cm z.cps.toList i=some c/\Q (.str ⟨#[c]⟩) H
theorem AbC:DX X (NT X.K):=by
 intro value slice pins s σ H x y v u Q I V Y h hs;replace h:=Du h;obtain ⟨p,xs,i,z,rfl,rfl,hq,he,q⟩:=h
 cases V;obtain ⟨t,rfl⟩:=Y;obtain ⟨its,r,pl,hz⟩:=AD (I.list hq);obtain ⟨j,D,h2,h3,h4,h5⟩:=AD (Iu he);obtain ⟨w,L,bN⟩:=Ao (r.get h2);have hl:=r.length;have hn:=ED;have B:EP X pins σ Q w s:=⟨z,H,I,bN,q⟩;by_cases O:0<=i
 .have J:i.toNat=j:=by
   rw [Xt O h5] at D;exact Ts D
  exact item_listR pl.isList O (by omega) (by rw [J];simpa using L) B hs
 .have J:(i+(its.toArray.size:Int)).toNat=j:=by
   rw [Yz (by omega) h4] at D;rw [TR,<- hl];exact Ts D
  exact ZI (x:=w) pl.isList.typeIs ZJ.lookup
   (wpAny_getItem_list_neg (Q:=λr s'=>r=w/\EP X pins σ Q r s') pl.isList (by omega) (by rw [TR]<;>omega) (by omega) (by rw [J];simpa using L) ⟨rfl,B⟩) hs
theorem AbD:DX X (NU X.K):=by
 intro value slice pins s σ H x y v u Q I D J h hs;replace h:=Du h;obtain ⟨p,xs,i,z,rfl,rfl,hq,L,q⟩:=h
 cases D;obtain ⟨t,rfl⟩:=J;obtain ⟨its,r,pl,hz⟩:=AD (I.tuple hq);obtain ⟨j,O,V,h3,h4,h5⟩:=AD (Iu L);obtain ⟨w,Y,bN⟩:=Ao (r.get V);have hl:=r.length;have hn:=ED;have B:EP X pins σ Q w s:=⟨z,H,I,bN,q⟩;exact ZI (x:=w) pl.typeIs slot_tuple_getitem.lookup
  (getItem_tuple (j:=j) (Q:=λr s'=>r=w/\EP X pins σ Q r s') pl (by omega) (by omega) (by rw [TR,<- hl];exact O) (by simpa using Y) ⟨rfl,B⟩) hs
theorem AbE:DX X NV:=by
 intro value slice pins s σ H x y v u Q I D J h hs;replace h:=FK h;obtain ⟨z,i,c,rfl,rfl,hz,L,q⟩:=h
 obtain ⟨t,rfl⟩:=D;obtain ⟨t',rfl⟩:=J;obtain ⟨j,B,O,h3,V,Y⟩:=AD (Iu L);have hl:z.cps.toList.length=z.length:=by simp [Wh]
 rw [hl] at B V Y;have hn:=ED;exact tail_any (Xv s z t) slot_str_getitem.lookup (getItem_str (c:=c) (by
  have e1:decide (i < -(2 ^ 63:Int))=false:=decide_eq_false (by omega);have e2:decide (i ≥ 2 ^ 63)=false:=decide_eq_false (by omega);rw [e1,e2,Bool.or_false]) (by rw [B];simpa using O) ⟨.str ⟨#[c]⟩,H,I.tok _,⟨_,rfl⟩,q⟩) hs
def NW (K:S3):R2:=λx y H Q=>NT K x y H Q\/NU K x y H Q\/NV x y H Q
theorem BF:DX X (NW X.K):=AbC.or (AbD.or AbE)
theorem AbF (its:List Value)(n j:Nat)(u:Value):UB (·.setIfInBounds j u) { cls:=.type "list",data:=.seq its.toArray n }={ cls:=.type "list",data:=.seq (its.set j u).toArray n }:=by simp [UB]
theorem Ae.lst {pins:List (Addr×Obj)}{σ:St}{H:Hp}{s:S0}{p:Addr}{xs:List V}(I:Ae X pins σ H s)(h:H p=some (.lst xs)) :
  ∃(its:List Value)(n:Nat),Aw xs its/\s.heap.get? p=some { cls:=.type "list",data:=.seq its.toArray n }/\xs.length<=sizeLine:=by
 obtain ⟨z,its,n,r,e⟩:=I.af p _ h;exact ⟨its,n,r,e,z⟩
theorem Ae.aaj {pins:List (Addr×Obj)}{σ:St}{H:Hp}{s:S0}{p:Addr}{xs ys:List V}{its its':List Value}{n B:Nat}{f:Obj->Obj}(I:Ae X pins σ H s)(h:H p=some (.lst xs))(J:s.heap.get? p=some { cls:=.type "list",data:=.seq its.toArray n })(D:f { cls:=.type "list",data:=.seq its.toArray n }={ cls:=.type "list",data:=.seq its'.toArray B })(r:Aw ys its')(L:ys.length<=sizeLine)(t:Nat) :
  Ae X pins σ (upd H p (.lst ys)) { s with heap:=s.heap.update p f,toks:=t }:=by
 have e:(s.heap.update p f).get? p=some { cls:=.type "list",data:=.seq its'.toArray B }:=by rw [YA f J (by rw [D]<;>rfl),D]
 refine I.write (x:=p) (e:=p) (by rw [h];trivial) (.inl rfl) (λb u hb q=>(ZK _ _ (Tu hb)).trans q) ⟨_,e⟩ ?_;exact ⟨L,its',B,r,e⟩
def AbG:V->V->V->Hp->(Hp->Prop)->Prop:=λo i v H Q=>∃ p xs k j,o=.ref p/\i=.int k/\H p=some (.lst xs)/\DW xs.length k=some j/\Q (upd H p (.lst (xs.set j v)))
theorem Fi:Kh X AbG:=by
 intro pins s σ H o i v ov iv u Q I ro ri rv h;replace h:=Du h;obtain ⟨p,xs,k,j,rfl,rfl,L,hj,q⟩:=h
 cases ro;obtain ⟨t,rfl⟩:=ri;obtain ⟨its,n,r,D,hz⟩:=Bi (I.lst L);obtain ⟨B,h2,O,V⟩:=AQ (NS hj);have J:=r.length;have hn:=ED;have Y:Ae X pins σ (upd H p (.lst (xs.set j v))) { s with heap:=s.heap.update p (UB (·.setIfInBounds j u)) } :=
  I.aaj L D (AbF its n j u) (r.set rv j) (by rw [Td];exact hz) s.toks
 by_cases h0:0<=k
 .have hk:k.toNat=j:=by
   rw [Xt h0 V] at B;exact Ts B
  exact PySem.W.ki_setAt D h0 (by omega) (by rw [TR,<- J];exact V) (by rw [hk];exact ⟨_,Y,q⟩)
 .have hk:(k+(its.toArray.size:Int)).toNat=j:=by
   rw [Yz (by omega) O] at B;rw [TR,<- J];exact Ts B
  exact PySem.W.ki_setBack D (by omega) (by rw [TR,<- J];exact O) (by omega) (by rw [hk];exact ⟨_,Y,q⟩)
theorem AbH (lo B:Option Int)(n:Nat):(Wi lo B none n).1=((HT.ao n 0 lo:Nat):Int)/\(Wi lo B none n).2.1=((HT.ao n n B:Nat):Int)/\(Wi lo B none n).2.2=1:=by
 refine ⟨?_,?_,rfl⟩
 .cases lo with
  | none=>simp [Wi,HT.ao]
  | some i =>
   simp only [Wi,HT.ao,YB,show (1:Int) > 0 by decide,if_true];by_cases h:i<0
   .simp only [h,if_true]<;>omega
   .simp only [h,if_false]<;>omega
 .cases B with
  | none=>simp [Wi,HT.ao]
  | some i =>
   simp only [Wi,HT.ao,YB,show (1:Int) > 0 by decide,if_true];by_cases h:i<0
   .simp only [h,if_true]<;>omega
   .simp only [h,if_false]<;>omega
theorem AbI (its:List Value)(lo B:Option Int):slicePick its.toArray lo B none=((its.drop (HT.ao its.length 0 lo)).take (HT.ao its.length its.length B - HT.ao its.length 0 lo)).toArray:=by obtain ⟨D,H,I⟩:=AQ (AbH lo B its.toArray.size);unfold slicePick;rw [D,H,I];simp only [sliceRange_one,pick_run,TR]<;>rfl
def NX (K:S3):V->Option Int->Option Int->Hp->VK->Prop:=λx lo hi H Q=>∃ a xs,x=.ref a/\Ba K H a xs/\∀ p,H p=none->Q (.ref p) (upd H p (.lst (Ed xs lo hi)))
theorem AbJ:Ec X (NX X.K):=by
 intro pins s σ H x v vl vu lo J sl Q I O hs pl V h;replace h:=Bi h;obtain ⟨a,B,rfl,hx,q⟩:=h
 cases O;obtain ⟨its,r,L,Y⟩:=AD (I.list hx);have D:=r.length;refine ⟨"list",_,ZJ.lookup,L.isList.typeIs,?_⟩;refine wpAny_getItem_list_slice L.isList hs pl V .none (by simp) ?_ (by rw [TR]<;>omega);rw [AbI,<- D];refine ⟨.ref s.heap.objs.size,_,I.laid (t':=s.toks) (o:=.lst (Ed B lo J)) (λb ob q=>TF _ q) (Ti _) ?_,rfl,q _ (I.af.fresh (Ti _))⟩;exact ⟨Uk (NQ B lo J) Y,_,0,(r.drop (HT.ao B.length 0 lo)).take (HT.ao B.length B.length J - HT.ao B.length 0 lo),Uq _ rfl⟩
noncomputable def Ee:V->Bool
 | .aa=>true
 | .bl _=>true
 | .int _=>true
 | .str _=>true
 | _=>false
noncomputable def DY:V->V->Bool
 | .aa,.aa=>true
 | .bl a,.bl b=>a == b
 | .bl a,.int b=>(if a then 1 else 0) == b
 | .int a,.bl b=>a == (if b then 1 else 0)
 | .int a,.int b=>a == b
 | .str a,.str b=>a == b
 | _,_=>false
theorem AbK {A:Tt}{s:S0}{y x:V}{u v:Value}(H:Ay y u)(B:Ay x v)(J:Ee y=true)(I:Ee x=true):SeqAt.EqAt A s u v (DY y x):=by
 cases y with
 | aa =>
  cases H;cases x with
  | aa=>cases B;exact SeqAt.EqAt.same _
  | bl b=>cases B;exact SeqAt.EqAt.none_bool b
  | int b=>obtain ⟨t,rfl⟩:=B;exact SeqAt.EqAt.none_int b t
  | str b=>obtain ⟨t,rfl⟩:=B;exact SeqAt.EqAt.none_str b t
  | _=>exact absurd (show false=true from I) T7
 | bl a =>
  cases H;cases x with
  | aa=>cases B;exact SeqAt.EqAt.bool_none a
  | bl b=>cases B;exact SeqAt.EqAt.bool_bool a b
  | int b=>obtain ⟨t,rfl⟩:=B;exact SeqAt.EqAt.bool_int a b t
  | str b=>obtain ⟨t,rfl⟩:=B;exact SeqAt.EqAt.bool_str a b t
  | _=>exact absurd (show false=true from I) T7
 | int a =>
  obtain ⟨D,rfl⟩:=H;cases x with
  | aa=>cases B;exact SeqAt.EqAt.int_none a D
  | bl b=>cases B;exact SeqAt.EqAt.int_bool a D b
  | int b=>obtain ⟨t,rfl⟩:=B;exact SeqAt.EqAt.int_int a D b t
  | str b=>obtain ⟨t,rfl⟩:=B;exact Zp a D b t
  | _=>exact absurd (show false=true from I) T7
 | str a =>
  obtain ⟨D,rfl⟩:=H;cases x with
  | aa=>cases B;exact SeqAt.EqAt.str_none a D
  | bl b=>cases B;exact SeqAt.EqAt.str_bool a D b
  | int b=>obtain ⟨t,rfl⟩:=B;exact Zq a D b t
  | str b=>obtain ⟨t,rfl⟩:=B;exact SeqAt.EqAt.str_str a D b t
  | _=>exact absurd (show false=true from I) T7
 | _=>exact absurd (show false=true from J) T7
noncomputable def C3 (x:V)(u:Value):Bool:=match u with
 | .none=>DY .aa x
 | .bool b=>DY (.bl b) x
 | .int i _=>DY (.int i) x
 | .str z _=>DY (.str z) x
 | _=>false
theorem NY {x y:V}{u:Value}(r:Ay y u)(f:Ee y=true):C3 x u=DY y x:=by
 cases y with
 | aa=>cases r;rfl
 | bl b=>cases r;rfl
 | int i=>obtain ⟨t,rfl⟩:=r;rfl
 | str z=>obtain ⟨t,rfl⟩:=r;rfl
 | _=>exact absurd (show false=true from f) T7
theorem GC {x:V}:∀{xs:List V}{us:List Value},Aw xs us->xs.all Ee=true->us.any (C3 x)=xs.any λy=>DY y x
 | _,_,.nil,_=>rfl
 | y :: xs,u :: us,.cons r t,f=>by
  rw [List.all_cons,UK] at f;rw [W2,W2,NY r f.1,GC t f.2]
theorem GD {A:Tt}{s:S0}{x:V}{v:Value}(B:Ay x v)(D:Ee x=true):∀{xs:List V}{us:List Value},Aw xs us->xs.all Ee=true->∀ u∈us,SeqAt.EqAt A s u v (C3 x u)
 | _,_,.nil,_=>λu hu=>by cases hu
 | y :: xs,u :: us,.cons r t,f=>λH hu=>by
  rw [List.all_cons,UK] at f;rcases Tq.mp hu with rfl | hu
  .rw [NY r f.1];exact AbK r B f.1 D
  .exact GD B D t f.2 H hu
def C4 (x:V)(xs:List V):Bool:=xs.any λy=>DY y x
def GF (K:S3)(neg:Bool):R2:=λx y H Q=>∃ p xs,y=.ref p/\(Ba K H p xs\/Bh K H p xs)/\Ee x=true/\xs.all Ee=true/\Q (.bl (if neg then !C4 x xs else C4 x xs)) H
theorem AbL:A7 X (Ub .In) (GF X.K false):=by
 intro pins s σ H x y v u Q I B J h;replace h:=Gk h;obtain ⟨p,O,rfl,hq,D,fs,q⟩:=h
 cases J;rcases hq with hq | hq
 .obtain ⟨its,r,pl,L⟩:=AD (I.list hq);refine SeqAt.in_listAt (C3 x) pl.isList (λw hw=>GD B D r fs w (by simpa using hw)) ⟨.bl _,H,I,rfl,?_⟩;rw [show its.toArray.any (C3 x)=its.any (C3 x) by simp,GC r fs];exact q
 .obtain ⟨its,r,pl,L⟩:=AD (I.tuple hq);refine SeqAt.in_tupleAt (C3 x) pl (λw hw=>GD B D r fs w (by simpa using hw)) ⟨.bl _,H,I,rfl,?_⟩;rw [show its.toArray.any (C3 x)=its.any (C3 x) by simp,GC r fs];exact q
theorem AbM:A7 X (Ub .NotIn) (GF X.K true):=by
 intro pins s σ H x y v u Q I B J h;replace h:=Gk h;obtain ⟨p,O,rfl,hq,D,fs,q⟩:=h
 cases J;rcases hq with hq | hq
 .obtain ⟨its,r,pl,L⟩:=AD (I.list hq);refine SeqAt.notIn_listAt (C3 x) pl.isList (λw hw=>GD B D r fs w (by simpa using hw)) ⟨.bl _,H,I,rfl,?_⟩;rw [show its.toArray.any (C3 x)=its.any (C3 x) by simp,GC r fs];exact q
 .obtain ⟨its,r,pl,L⟩:=AD (I.tuple hq);refine SeqAt.notIn_tupleAt (C3 x) pl (λw hw=>GD B D r fs w (by simpa using hw)) ⟨.bl _,H,I,rfl,?_⟩;rw [show its.toArray.any (C3 x)=its.any (C3 x) by simp,GC r fs];exact q
theorem AbN:A7 X (Ub .NotIn) (λx y H Q=>∃ i j,x=.str i/\y=.str j/\Q (.bl (!(!(Yi j i 0 j.length 1).isEmpty))) H):=by
 intro pins s σ H x y v u Q I B D h;replace h:=Bi h;obtain ⟨i,j,rfl,rfl,q⟩:=h
 obtain ⟨t,rfl⟩:=B;obtain ⟨J,rfl⟩:=D;exact notIn_str ⟨.bl _,H,I,rfl,q⟩
theorem AbO:BB X (.builtin "len") (λxs H Q=>∃ p ys,xs=[.ref p]/\(Ba X.K H p ys\/Bh X.K H p ys)/\Q (.int ys.length) H):=by
 intro pins s σ H xs O Q I r h;replace h:=Bi h;obtain ⟨p,ys,rfl,hq,q⟩:=h
 obtain ⟨u,rfl,J⟩:=Ao (CJ r);cases J;have V:=ED;rcases hq with hq | hq
 .obtain ⟨its,D,pl,L⟩:=AD (I.list hq);have B:=D.length;exact Calls.call_len_list pl.isList (by simp only [TR]<;>omega) ⟨.int ys.length,H,I.tok _,⟨s.toks+1,by rw [TR,B]⟩,q⟩
 .obtain ⟨its,D,pl,L⟩:=AD (I.tuple hq);have B:=D.length;exact len_tuple pl (by simp only [TR]<;>omega) ⟨.int ys.length,H,I.tok _,⟨s.toks+1,by rw [TR,B]⟩,q⟩
theorem AbP:BB X (.builtin "len") (λxs H Q=>∃ z,xs=[.str z]/\z.length<=sizeLine/\Q (.int z.length) H):=by
 intro pins s σ H xs B Q I r h;replace h:=AD h;obtain ⟨z,rfl,D,q⟩:=h
 obtain ⟨u,rfl,t,rfl⟩:=Ao (CJ r);have J:=ED;exact len_str (by omega) ⟨.int z.length,H,I.tok _,⟨_,rfl⟩,q⟩
theorem BB.or {f:Value}{r B:List V->Hp->VK->Prop}(h:BB X f r)(h':BB X f B):BB X f (λxs H Q=>r xs H Q\/B xs H Q):=by
 intro pins s σ H xs D Q I J q;rcases q with q | q
 .exact h pins s σ H xs D Q I J q
 .exact h' pins s σ H xs D Q I J q
theorem AbQ:BB X (.type "list") (λxs H Q=>∃ p ys,xs=[.ref p]/\(Ba X.K H p ys\/Bh X.K H p ys)/\∀ l,H l=none->Q (.ref l) (upd H l (.lst ys))):=by
 intro pins s σ H xs us Q I r h;replace h:=Bi h;obtain ⟨p,ys,rfl,hq,q⟩:=h
 obtain ⟨u,rfl,rx⟩:=Ao (CJ r);cases rx;have L:∀(its:List Value),Aw ys its->ys.length<=sizeLine->∀(B:Heap)(D:Nat),(∀ b o',s.heap.get? b=some o'->B.get? b=some o') ->
   B.get? s.heap.objs.size=some { cls:=.type "list",dict:=none,data:=.seq its.toArray D,slots:=#[] }->EP X pins σ Q (.ref s.heap.objs.size) { s with heap:=B }:=λits J O B D V e =>
  ⟨.ref s.heap.objs.size,_,I.laid (t':=s.toks) V (Ti _) (show Be X.prog X.w _ B _ (.lst ys) from ⟨O,its,D,J,e⟩),rfl,q _ (I.af.fresh (Ti _))⟩
 rcases hq with hq | hq
 .obtain ⟨its,J,pl,O⟩:=AD (I.list hq);have Y:=J.length;obtain ⟨o,ho,hc,n,hd⟩:=AD pl.isList;exact call_list_seq p (.inl rfl) ho hc hd (λB D V e=>L its J O B D V e) (by simp only [TR]<;>omega)
 .obtain ⟨its,J,pl,O⟩:=AD (I.tuple hq);have Y:=J.length;obtain ⟨o,ho,hc,n,hd⟩:=AD pl;exact call_list_seq p (.inr rfl) ho hc hd (λB D V e=>L its J O B D V e) (by simp only [TR]<;>omega)
theorem Kt:BB X (.type "tuple") (λxs H Q=>∃ p ys,xs=[.ref p]/\((Ba X.K H p ys/\∀ l,H l=none->Q (.ref l) (upd H l (.tup ys)))\/(Bh X.K H p ys/\Q (.ref p) H))):=by
 intro pins s σ H xs us Q I r h;replace h:=Bl h;obtain ⟨p,ys,rfl,h⟩:=h
 obtain ⟨u,rfl,V⟩:=Ao (CJ r);cases V;rcases h with ⟨hq,q⟩ | ⟨hq,q⟩
 .obtain ⟨its,D,pl,J⟩:=AD (I.list hq);have L:=D.length;refine call_tuple_list pl.isList (λB Y=>?_) (by simp only [TR]<;>omega);have O:Ae X pins σ H { s with heap:=B }:=I.kept (t':=s.toks) Y;have I2:Ae X pins σ (upd H B.objs.size (.tup ys)) { s with heap:=B.push { cls:=.type "tuple",data:=.seq its.toArray } } :=
   O.laid (t':=s.toks) (λb o e=>TF _ e) (Ti _) (show Be X.prog X.w _ _ _ (.tup ys) from ⟨J,its,D,IsTup.new _ _⟩)
  exact ⟨.ref B.objs.size,_,I2,rfl,q _ (O.af.fresh (Ti _))⟩
 .obtain ⟨its,D,pl,J⟩:=AD (I.tuple hq);exact call_tuple_same pl ⟨.ref p,H,I,rfl,q⟩
def NZ (K:S3)(T:String)(x:V)(H:Hp):Prop:=match x with
 | .str _=>T="str"
 | .int _=>T="int"
 | .ref p=>(T="list"/\∃ xs,Ba K H p xs)\/(T="tuple"/\∃ o,K.lookup p=some o/\o.cls=.type "tuple"/\o.dict=none) \/
   (T="dict"/\((∃ kvs,H p=some (.dK kvs))\/∃ kvs,H p=some (.dT kvs)))\/(T="set"/\∃ S n,H p=some (.set S n))
 | _=>False
theorem AbR {pins:List (Addr×Obj)}{σ:St}{H:Hp}{s:S0}{T:String}{x:V}{v:Value}(I:Ae X pins σ H s)(r:Ay x v)(ty:NZ X.K T x H) :
  s.TypeIs v T/\∀ a,v=.ref a->∃ J,s.heap.get? a=some J/\J.dict=none:=by
 cases x with
 | str z =>
  obtain ⟨t,rfl⟩:=r;cases (show T="str" from ty);exact ⟨Xv s z t,λ_ e=>nomatch e⟩
 | int i =>
  obtain ⟨t,rfl⟩:=r;cases (show T="int" from ty);exact ⟨YC s i t,λ_ e=>nomatch e⟩
 | ref p =>
  cases r;rcases ty with ⟨rfl,L,hq⟩ | ⟨rfl,o,hk,hc,hd⟩ | ⟨rfl,hk⟩ | ⟨rfl,S,n,hk⟩
  .obtain ⟨its,_,pl,_⟩:=AD (I.list hq);refine ⟨pl.isList.typeIs,λa e=>?_⟩;cases e;obtain ⟨o,n,e,c,hd,_⟩:=Bi pl;exact ⟨o,e,hd⟩
  .refine ⟨⟨o,I.aN p o hk,hc⟩,λa e=>?_⟩;cases e;exact ⟨o,I.aN _ o hk,hd⟩
  .have z:∃ o,s.heap.get? p=some o/\o.ExactDict:=by
    rcases hk with ⟨B,hk⟩ | ⟨B,hk⟩
    .obtain ⟨_,_,_,_,o,_,_,e,ex,_⟩:=AQ (I.af p _ hk);exact ⟨o,e,ex⟩
    .obtain ⟨_,_,_,_,o,_,_,e,ex,_⟩:=AQ (I.af p _ hk);exact ⟨o,e,ex⟩
   obtain ⟨o,e,ex⟩:=Ao z;refine ⟨⟨o,e,ex.1⟩,λa D=>?_⟩;cases D;exact ⟨o,e,ex.2.1⟩
  .obtain ⟨o,_,_,_,e,ex,_⟩:=Du (I.af p _ hk);refine ⟨⟨o,e,ex.1⟩,λa D=>?_⟩;cases D;exact ⟨o,e,ex.2.1⟩
 | _=>exact UX ty
def tBM (K:S3)(T:String)(r:V->List V->Hp->VK->Prop)(to:TE)(t:TA):TE:=λσ H Q=>to σ H λx H1=>NZ K T x H1/\t σ H1 λxs H2=>r x xs H2 Q
variable {o e:S7}{es:List S7}{to:TE}{t:TA}{name:Str}{apos ba:Pos}{T id:String}{r:V->List V->Hp->VK->Prop}
theorem De (pa:PlainAttrs T)(slot:Slot T name id)(B:typeOf (.builtin id)=pure (.type "method_descriptor"))(hm:MtR X id r)(ho:PE X o to)(ha:PA X (e :: es) t)(D:WV o name X.env (Tf o X.env)=Tf o X.env:=by rfl)(J:((TZ ba (Tj (e :: es) X.env)).all (λx=>!x.1) && (Vk ba (Vl [] X.env)).all (λx=>x.1.isSome)
   && decide ((e :: es).length+([]:List Wf).length+(if ([]:List Wf).isEmpty then 0 else 1)<30))=true:=by rfl)(L:(apos.endLine == ba.line)=true:=by rfl)(hs:Tj (e :: es) X.env=(false,Tf e X.env) :: Tj es X.env:=by rfl)(O:(TZ ba (Tj es X.env)).any (·.1)=false:=by rfl) :
  PE X (.Call (.Attribute o name apos) (e :: es) [] ba) (tBM X.K T r to t):=by
 intro pins s σ H Q I h;refine wpAny_Call_method_late D J L rfl (Al (ho pins s σ H _ I h) λv s1 Y=>Gj Y λx H1 I1 r1 ty q1=>?_);obtain ⟨h1,h2⟩:=AbR I1 r1 ty;refine ⟨T,id,pa,slot,B,h1,h2,?_⟩;have hA:=ha ba pins s1 σ H1 _ I1 q1;rw [hs] at hA ⊢;refine ZL (by show (false || (TZ ba (Tj es X.env)).any (·.1))=false;rw [O]<;>rfl) (YD ?_);exact Al hA λus s2 Y=>AG Y λvs H2 I2 r2 q2=>hm pins s2 σ H2 x vs v us Q I2 r1 r2 q2
end
def Ku (X:Cx)(id:String)(r:V->List V->Hp->VK->Prop):Prop :=
 ∀(pins:List (Addr×Obj))(s:S0)(σ:St)(H:Hp)(x:V)(xs:List V)(v:Value)(us:List Value)(Q:VK),Ae X pins σ H s->Ay x v->Aw xs us->r x xs H Q ->
  S4 (S8 X.prog X.w) X.A (call (.builtin id) (v :: us)) (EP X pins σ Q) X.xe s
theorem Aw.one {x:V}{us:List Value}(h:Aw [x] us):∃ u,us=[u]/\Ay x u:=CJ h
theorem Aw.two {x y:V}{us:List Value}(h:Aw [x,y] us):∃ u v,us=[u,v]/\Ay x u/\Ay y v:=Ny h
theorem Aw.eraseIdx:∀{xs:List V}{us:List Value}(i:Nat),Aw xs us->Aw (xs.eraseIdx i) (us.eraseIdx i)
 | _,_,_,.nil=>.nil
 | _,_,0,.cons _ t=>t
 | _,_,i+1,.cons r t=>.cons r (Aw.eraseIdx i t)
theorem Aw.rep {xs:List V}{us:List Value}(h:Aw xs us):∀ k:Nat,Aw (Th k xs).flatten (Th k us).flatten
 | 0=>.nil
 | k+1=>by
  rw [VP,VP,WB,WB];exact Aw.append h (Aw.rep h k)
theorem N0 {α:Type}:∀(l:List α)(i:Nat),(l.eraseIdx i).length<=l.length
 | [],_=>Ti _
 | _ :: _,0=>UA _
 | _ :: r,i+1=>Xw (N0 r i)
theorem N1 (its:List Value):∀(k:Nat)(B:List Value),
  YE (λD x2=>D++x2) B.toArray (Th k its.toArray)=(B++(Th k its).flatten).toArray
 | 0,B=>by simp
 | k+1,B=>by
  have e:B.toArray++its.toArray=(B++its).toArray:=by simp
  have H:(B++its)++(Th k its).flatten=B++(Th (k+1) its).flatten:=by rw [VP,WB,TM]
  rw [<- H,<- N1 its k (B++its),<- e,VP,ZM]
section
variable {X:Cx}{pins:List (Addr×Obj)}{σ:St}{H:Hp}{s:S0}{l b:Addr}{xs ys zs:List V}
theorem Ae.jR {its its':List Value}{n:Nat}{f:Array Value->Array Value}{t':Nat}(I:Ae X pins σ H s)(B:H l=some (.lst xs))(e:s.heap.get? l=some { cls:=.type "list",data:=.seq its.toArray n })(D:f its.toArray=its'.toArray)(hv:Aw ys its')(J:ys.length<=sizeLine) :
  Ae X pins σ (upd H l (.lst ys)) { s with heap:=s.heap.update l (UB f),toks:=t' }:=by
 have q:=PySem.IsL.update e f;rw [D] at q;refine I.write (x:=l) (e:=l) (by rw [B];exact trivial) (.inl rfl) (λL u hb hu=>(ZK s.heap (UB f) (Tu hb)).trans hu) ⟨_,q⟩ ?_;exact ⟨J,its',_,hv,q⟩
theorem Ae.k8 {its:List Value}{t':Nat}(I:Ae X pins σ H s)(hv:Aw ys its)(B:ys.length<=sizeLine) :
  Ae X pins σ (upd H s.heap.objs.size (.lst ys)) { s with heap:=s.heap.push { cls:=.type "list",data:=.seq its.toArray },toks:=t' } :=
 I.laid (λ_ _ q=>TF _ q) (Ti _) ⟨B,its,0,hv,Uq _ rfl⟩
theorem Ae.fresh (I:Ae X pins σ H s):H s.heap.objs.size=none:=I.af.fresh (Ti _)
theorem Ae.fQ (I:Ae X pins σ H s)(B:H l=some (.lst xs)):xs.length<=sizeLine/\∃(its:List Value)(n:Nat),Aw xs its/\xs.length=its.length/\s.heap.get? l=some { cls:=.type "list",data:=.seq its.toArray n }:=by obtain ⟨z,its,n,r,e⟩:=I.af l _ B;exact ⟨z,its,n,r,r.length,e⟩
theorem AbS {n:Nat}(h:n<=sizeLine):YF n=false:=by unfold YF;exact decide_eq_false (by omega)
end
section
variable {X:Cx}
def AbT:V->List V->Hp->VK->Prop:=λx vs H Q=>∃ l xs y,x=.ref l/\vs=[y]/\H l=some (.lst xs)/\xs.length<sizeLine/\Q .aa (upd H l (.lst (xs++[y])))
theorem Dp:Ku X "list.append" AbT:=by
 intro pins s σ H x vs v O Q I D J h;replace h:=FK h;obtain ⟨l,V,y,rfl,rfl,B,Y,q⟩:=h
 cases D;obtain ⟨u,rfl,L⟩:=Ao J.one;obtain ⟨z,its,n,r,hl,e⟩:=I.fQ B;refine WC F.slot_list_append ⟨_,e,rfl⟩ F.entry_list_append (F.args_list_append_2 _ _) (PySem.list_append l its.toArray n u (by rw [TR];omega)) ⟨e,?_⟩;refine ⟨.aa,_,I.jR (its':=its++[u]) B e (by simp) (r.append (.cons L .nil)) ?_,rfl,q⟩;rw [Ul,UH];omega
def AbU:V->List V->Hp->VK->Prop:=λx vs H Q=>∃ l xs i k y,x=.ref l/\vs=[.int i]/\H l=some (.lst xs)/\-(2 ^ 63)<=i/\i<2 ^ 63/\Xs i xs.length=some k/\xs[k]?=some y/\Q y (upd H l (.lst (xs.eraseIdx k)))
theorem AbV:Ku X "list.pop" AbU:=by
 intro pins s σ H x vs v us Q I D J h;replace h:=Fd h;obtain ⟨l,L,i,k,y,rfl,rfl,B,O,V,hk,hy,q⟩:=h
 cases D;obtain ⟨u,rfl,Y⟩:=Ao J.one;obtain ⟨t,rfl⟩:=Y;obtain ⟨z,its,n,r,hl,e⟩:=I.fQ B;obtain ⟨w,hw,bN⟩:=Ao (r.get hy);refine WC F.slot_list_pop ⟨_,e,rfl⟩ F.entry_list_pop (F.args_list_pop_2 _ _)
  (MeetsSeq.list_pop_at l its.toArray n i t k w (ZN O V) (by rw [TR,<- hl];exact hk) (by rw [<- YG];exact hw) (by rw [TR];omega)) ⟨e,?_⟩
 refine ⟨y,_,I.jR (its':=its.eraseIdx k) B e ?_ (r.eraseIdx k) ?_,bN,q⟩
 .show its.toArray.eraseIdxIfInBounds k=(its.eraseIdx k).toArray;rw [YH]
 .have:=N0 L k;omega
def N2:R2:=λx y H Q=>∃ l b xs zs,x=.ref l/\y=.ref b/\H l=some (.lst xs)/\H b=some (.lst zs)/\xs.length+zs.length<=sizeLine/\∀ p,H p=none->Q (.ref p) (upd H p (.lst (xs++zs)))
theorem AbW:A7 X (UY .Add) N2:=by
 intro pins s σ H x y v u Q I B D h;replace h:=HW h;obtain ⟨l,b,xs,zs,rfl,rfl,J,L,hz,q⟩:=h
 cases B;cases D;obtain ⟨z,its,n,r,hl,e⟩:=I.fQ J;obtain ⟨z2,gW,n2,O,iD,V⟩:=I.fQ L;refine PySem.P.add_list e V ?_ (by rw [TR,TR];omega);have Y:its.toArray++gW.toArray=(its++gW).toArray:=by simp
 rw [Y];exact ⟨.ref _,_,I.k8 (t':=s.toks) (r.append O) (by rw [Ul];omega),rfl,q _ I.fresh⟩
def N3:R2:=λx y H Q=>∃ l k xs,x=.ref l/\y=.int k/\H l=some (.lst xs)/\-(2 ^ 63)<=k/\k<2 ^ 63/\xs.length * k.toNat<=sizeLine /\
 ∀ p,H p=none->Q (.ref p) (upd H p (.lst (Th k.toNat xs).flatten))
theorem AbX {α:Type}(xs:List α)(k:Nat):(Th k xs).flatten.length=k * xs.length:=by
 induction k with
 | zero=>simp
 | succ k ih=>rw [VP,WB,Ul,ih,Nat.succ_mul,Nat.add_comm]
theorem AbY:A7 X (UY .Mult) N3:=by
 intro pins s σ H x y v u Q I rx ry h;replace h:=FK h;obtain ⟨l,k,xs,rfl,rfl,hH,h1,h2,Y,q⟩:=h
 cases rx;obtain ⟨t,rfl⟩:=ry;obtain ⟨z,its,n,r,hl,e⟩:=I.fQ hH;have B:its.toArray.size * k.toNat<=sizeLine:=by rw [TR,<- hl];exact Y
 have D:¬ its.toArray.size * k.toNat > (2 ^ 63 - 1) / 8:=by
  have:(sizeLine:Nat)<=(2 ^ 63 - 1) / 8:=by decide
  omega
 have J:¬ (!Builtin.List.listFitsIndex k)=true:=by rw [ZN h1 h2];exact T7
 have L:¬ YF (its.toArray.size * k.toNat)=true:=by rw [AbS B];exact T7
 have O:YE (λV x2=>V++x2) #[] (Th (if its.toArray.isEmpty=true then 0 else k.toNat) its.toArray)=(Th k.toNat its).flatten.toArray:=by
  have f0:∀ m:Nat,YE (λV x2=>V++x2) #[] (Th m its.toArray)=(Th m its).flatten.toArray:=λm=>by
   have:=N1 its m [];rw [YI] at this;exact this
  rw [f0];cases its with
  | nil=>simp
  | cons a r'=>rw [if_neg (by simp)]
 refine wpAny_binaryOp_repeat_ref (T:="list") (U:="int") (by decide) ⟨_,e,rfl⟩ (λs'=>YC s' k t) noFill_list_mul F.fills_int_mul ZO repeat_list F.slot_int_index.lookup
  (WC ZO (YC s k t) F.entry_int_rmul (F.args_int_rmul_2 _ _) (int___rmul___int_list k t l its.toArray n)
   ⟨e,rfl,⟨_,e,rfl⟩,WC F.slot_list_mul ⟨_,e,rfl⟩ F.entry_list_mul (F.args_list_mul_2 _ _) (AutoListH.list___mul___list_int_3 l its.toArray n k t J D L) ⟨e,?_⟩⟩)
 rw [O];exact ⟨.ref _,_,I.k8 (t':=s.toks) (r.rep k.toNat) (by rw [AbX,Nat.mul_comm];exact Y),rfl,q _ I.fresh⟩
end
section
variable {prog:Ta}{w:S6}{A:Tt}{E:Value->S0->Prop}{s:S0}
set_option maxRecDepth 100000 in
end
section
variable {X:Cx}
end
end L2
namespace Att
open PySem PySem.W PySem.Calls PyProof.Rows
theorem AbZ {P:W3}{h:Heap}:∀(ns:List Int)(vs:List Value),WellAll P h vs (ns.map WData.int)->W4 vs ns:=by
 intro ns;induction ns with
 | nil =>
  intro vs w;rw [W5] at w;cases w;exact .nil
 | cons n ns ih =>
  intro vs w;rw [Uz] at w;cases w with
  | cons a b =>
   cases a;exact .cons _ _ (ih _ b)
theorem Ab0 {l:OpenLaw}{n:Nat}(L:l.most=some n){P:W3}{h:Heap}{args:List WData}{vals:List Value}(J:l.row.toRowW.claim.pre args=true)(O:WellAll P h vals args) :
  ∃ a vs ns,vals=[TU a]/\args=[WData.list (ns.map WData.int)]/\h.get? a=some { cls:=.type "list",data:=.seq vs.toArray }/\W4 vs ns/\ns.length<=n:=by
 have I:WShape.hasAll [] args [.list .int]=true:=(pre_splitW J).1;have hc:l.pre.holds [] { args:=args }=true:=(pre_splitW J).2;obtain ⟨d,r,rfl,V,Y⟩:=hasAllW_cons I;obtain rfl:=hasAllW_nil Y;obtain ⟨xs,rfl,h3⟩:=hasW_list V;obtain ⟨ns,rfl⟩:=items_int h3;have B:ns.length<=n:=by
  unfold OpenLaw.pre at hc;have D:(WTm.not (.lt (.lit (.int (n:Int))) (.len (.arg 0)))).holds [] { args:=[.list (ns.map .int)] }=true:=by have D:=(holds_andW hc).1;rw [L] at D;exact D
  have H:=condW_of D (w_not (w_lt w_lit (w_len_list (w_arg rfl))));rw [Tb] at H;refine Nat.le_of_not_lt λq=>?_;have q':(n:Int)<((ns.length:Nat):Int):=by omega
  first
   | (rw [decide_eq_true q'] at H;exact absurd H (by decide))
   | (simp at H;omega)
 cases O with
 | cons w1 w2 =>
  cases w2;cases w1 with
  | list ho az=>exact ⟨_,_,ns,rfl,rfl,ho,AbZ ns _ az,B⟩
theorem Ab1 (l:OpenLaw)(args:List WData):l.row.toRowW.claim.post args (.bool true) args=true :=
 postW_of (r:=l.row.toRowW) (X:=(true == true))
  (show WShape.has [] (.bool true) .bool=true by first | rfl | decide | simp [WShape.has,WShape.arms,WShape.armsAll])
  (show (WTm.eq .res (.lit (.bool true))).value [] { args:=args,res:=some (.bool true),after:=args }=some (.bool (true == true)) from w_eq_bool (w_res rfl) w_lit) rfl
theorem aat {l:OpenLaw}{n:Nat}{q:Ta}{B:List Str}{XP:(Str->Option Value)->Heap->Prop}{YP:S6->Heap->Prop}{d:DefRec}(hn:l.most=some n)(iE:d.params.defaults=[])(call:∀ (w:S6) (s₀ D:S0) (mg mb:Str->Option Value) (J:Addr) (o:Obj) (pm O H:Value) (a:Addr) (vs:List Value) (ns:List Int),
   Ground q B [] XP w s₀ mg mb D.heap->YP w D.heap ->
   D.heap.get? J=some o->o.data=.func (docDef d.name d.params d.body d.scope pm O H)->D.heap.CodeRec O d.name->mg d.name=some (.ref J) ->
   D.heap.get? a=some { cls:=.type "list",data:=.seq vs.toArray }->W4 vs ns->ns.length<=n->D.gens=#[] ->
   Uy (S8 l.prog w) Wl (.call (.ref J) ⟨[.ref a],[]⟩) (λr V=>r=.ok (.ret (.bool true))/\OldK D.heap V.heap/\V.os=D.os/\Vj V.gens) D) :
  WalkO q B XP YP l.row.toRowW d [] (λf vs=>YJ f vs):=by
 intro w s₀ D mg mb G Y J o pm O H dV kV ho hd cV hD iF hg args vals as jS adV hrd k9 hlo;obtain rfl:dV=.none:=Dflts.none hD iE;obtain rfl:kV=.none:=Dflts.noKw hD;obtain ⟨a,vs,ns,rfl,rfl,lb,I,L⟩:=Ab0 hn jS k9;refine enter_call (Wx (call w s₀ D mg mb J o pm O H a vs ns G Y ho (fd_plain hd) cV iF lb I L hg) λr V hq=>?_);obtain ⟨rfl,h2,h3,h4⟩:=hq;exact ⟨.inl ⟨.bool true,.bool true,[],rfl,λ_=>rfl,.bool true,Ab1 l _,λ_=>⟨List.Pairwise.nil,λ_ hm=>(nomatch hm)⟩⟩,h2,h3,h4⟩
section
variable {prog:Ta}{w:S6}{A:Tt}{E:Value->S0->Prop}{s:S0}{K:Frag}
end
end Att
namespace L2
open PySem PySem.Spec PyProof.Rows
theorem N4:∀{vs:List Value}{ns:List Int},W4 vs ns->Aw (ns.map V.int) vs
 | _,_,.nil=>.nil
 | _,_,.cons n t h=>.cons ⟨t,rfl⟩ (N4 h)
def Kv (H:Hp):Prop:=∀ b,H b=none\/∃ o xs,H b=some (.aM o (.lst xs))
theorem Ab2 {P:Ta}{w:S6}{K:S3}{mg mb:Str->Option Value}{CX:BW}{k:Nat}{fa a:Addr}{fd:Tn}{x:Str}{sp:Sp}{B:S0}{vs:List Value}{ns:List Int}(KX:K.In B.heap)(bH:B.heap.Ns TB mg)(hb:B.heap.Ns Ya mb)(lp:∀ x:Str,x≠"__name__"->mb x=Uo x)(aau:B.heap.NoLimit)(hg:B.gens=#[])(Y:B.heap.get? a=some { cls:=.type "list",data:=.seq vs.toArray })(hi:W4 vs ns)(hl:ns.length<=sizeLine)(hr:Bn k Wl)(F:∀ base:Heap,K.In base->base.Ns TB mg->AB P w K mg base CX k fa fd [x] sp)(aav:∀ (s:S0) (u:Value),Wd s fd ⟨[u],[]⟩ [(x,u)])(dy:∀ H:Hp,Kv H->Ba K H a (ns.map V.int)->sp [.ref a] H (λv _=>v=.bl true) λ_ _ _=>False)(lq:∀ H e D,CX [] H B (λ_ _ _=>False) e D->False) :
  Uy (S8 P w) Wl (.call (.ref fa) ⟨[.ref a],[]⟩) (λr D=>r=.ok (.ret (.bool true))/\OldK B.heap D.heap/\D.os=B.os/\Vj D.gens) B:=by
 have rv:=N4 hi;have aaw:=hi.length;have I:∀ H:Hp,Kv H->Ba K H a (ns.map V.int)->AL P w H B.heap->(∀ b,H b≠none->b=a)->(H a≠none->K.lookup a=none) ->
   Uy (S8 P w) Wl (.call (.ref fa) ⟨[.ref a],[]⟩) (λr D=>r=.ok (.ret (.bool true))/\OldK B.heap D.heap/\D.os=B.os/\Vj D.gens) B:=by
  intro H hO hS af hA hK;have o8:∀{b:Addr}{o:Obj},B.heap.get? b=some o->H b=none->(D9 B.heap H).get? b=some o:=λe n=>Aaj e n;have iz:∀{b:Addr}{o:Obj}{es:Array W6}{J:Nat},B.heap.get? b=some o->o.data=.dict es J->H b=none:=λ{b o es J} e d=>by
   cases q:H b with
   | none=>rfl
   | some u =>
    have e':b=a:=hA b (by rw [q];simp);subst e';rw [Y] at e;cases e;have d':Data.seq vs.toArray _=Data.dict es J:=d;cases d'
  have jT:∀{b:Addr}{m:Str->Option Value},B.heap.Ns b m->(D9 B.heap H).Ns b m:=λ{b m} ⟨o,es,J,e,d,r⟩=>⟨o,es,J,o8 e (iz e d),d,r⟩;have o9:K.In (D9 B.heap H):=λb o e=>o8 (KX b o e) (by
   cases q:H b with
   | none=>rfl
   | some u =>
    have e':b=a:=hA b (by rw [q];simp);subst e';rw [hK (by rw [q];simp)] at e;cases e)
  have hM:Mod K mg (D9 B.heap H):=⟨o9,jT bH,⟨mb,jT hb,lp⟩,let ⟨mc,h1,h2⟩:=aau;⟨mc,jT h1,h2⟩⟩;have e0:Fh P w K mg (D9 B.heap H) Wl [] B H:=⟨rfl,hM,λb o e=>Aak e,Nat.le_of_eq (Aai _ _),trivial,λb hb=>absurd (show b∈([]:List Addr) from hb) (by simp),af,.of_eq hg⟩;refine Wx ((F _ o9 (jT bH)).run Wl [] B H ⟨[.ref a],[]⟩ [.ref a] [.ref a] _ _ hr e0 (aav B (.ref a)) (.cons rfl .nil) (dy H hO hS)) λr D h=>?_;cases r with
  | error e=>exact (lq H e D h).elim
  | ok fl =>
   cases fl with
   | next=>exact UX h
   | brk=>exact UX h
   | cont=>exact UX h
   | ret u =>
    obtain ⟨v,H',os,L,un,aax,r',q⟩:=Gk h;have q':v=.bl true:=q;subst q';obtain rfl:u=WL true:=r';refine ⟨rfl,OldK.of_keep λb o e=>?_,os,L⟩;cases q:H b with
    | none=>exact un.keep b o e q (by intro z;exact absurd (show b∈([]:List Addr) from z) (by simp)) (by simp)
    | some u =>
     rcases hO b with z | ⟨ob,xs,z⟩
     .rw [q] at z;cases z
     .have z2:=un.cB b ob _ z;obtain ⟨e1,_⟩:=af b _ z;obtain ⟨e2,_⟩:=aax b _ z2;rw [e] at e1;cases e1;exact e2
 cases hk:K.lookup a with
 | some o =>
  have e:=KX a o hk;rw [Y] at e;cases e;refine I (λ_=>none) (λ_=>.inl rfl) (.inr ⟨_,vs.toArray,_,hk,rfl,rfl,rfl,by rw [TR,aaw];exact hl,by simpa using rv⟩) (λb u z=>by have O:(none:Option HO)=some u:=z;cases O) (λb z=>absurd rfl z) λz=>absurd rfl z
 | none =>
  refine I (λb=>if b=a then some (.aM { cls:=.type "list",data:=.seq vs.toArray } (.lst (ns.map V.int))) else none) (λb=>?_) (.inl (.inr ⟨{ cls:=.type "list",data:=.seq vs.toArray },if_pos rfl⟩)) (λb u z=>?_) (λb z=>?_) λ_=>hk
  .by_cases hb:b=a
   .exact .inr ⟨_,_,if_pos hb⟩
   .exact .inl (if_neg hb)
  .by_cases hb:b=a
   .have O:=(if_pos hb).symm.trans z;cases O;subst hb;exact ⟨Y,by rw [Tb];exact hl,vs,_,rv,Y⟩
   .have O:=(if_neg hb).symm.trans z;cases O
  .by_cases hb:b=a
   .exact hb
   .exact absurd (if_neg hb) z
theorem aay {l:YK}{n k:Nat}{q:Ta}{D:List Str}{XP:(Str->Option Value)->Heap->Prop}{YP:S6->Heap->Prop}{d:DefRec}{K:W3->S3}{CX:S6->BW}{sp:S6->Sp}{x:Str}(hn:l.most=some n)(fN:n<=sizeLine)(iE:d.params.defaults=[])(hr:Bn k Wl)(hY:∀ (w:S6) (h:Heap),YP w h->(K w.params).In h)(F:∀ (w:S6) (mg:Str->Option Value) (J:Addr) (h:Heap),(K w.params).In h->h.Ns TB mg->mg d.name=some (.ref J) ->
   ∃ L:Tn,(∀ (s:S0) (u:Value),Wd s L ⟨[u],[]⟩ [(x,u)]) /\
    ∀ base:Heap,(K w.params).In base->base.Ns TB mg->AB l.prog w (K w.params) mg base (CX w) k J L [x] (sp w))(dy:∀ (w:S6) (H:Hp) (a:Addr) (ns:List Int),ns.length<=n->Kv H->Ba (K w.params) H a (ns.map V.int)->sp w [.ref a] H (λv _=>v=.bl true) λ_ _ _=>False)(lq:∀ (w:S6) (H:Hp) (s:S0) (e:Value) (O:S0),CX w [] H s (λ_ _ _=>False) e O->False) :
  PySem.W.WalkO q D XP YP l.row.toRowW d [] (λf vs=>YJ f vs):=by
 refine Att.aat hn iE λw s₀ s₁ mg mb J o pm cd doc a vs ns G Y ho hd cV iF lb I B hg=>?_;have KX:=hY w _ Y;obtain ⟨L,hb,hF⟩:=Ao (F w mg J _ KX G.T.g iF);exact Ab2 KX G.T.g G.T.b G.T.builtins G.T.nolimit hg lb I (Uk B fN) hr hF hb (λH hO hS=>dy w H a ns B hO hS) λH e O=>lq w H s₁ e O
def Ad (s:Stmt)(j:Nat):Stmt:=match s with
 | .ClassDef _ _ _ body _ _ _ _ _ _ _=>body.getD j (.Pass ⟨0,0,0,0⟩)
 | _=>.Pass ⟨0,0,0,0⟩
def Dw (s:Stmt):Arguments:=match s with
 | .FunctionDef _ a _ _ _ _ _ _ _ _=>a
 | _=>{ posonlyargs:=[],args:=[],vararg:=none,kwonlyargs:=[],kw_defaults:=[],kwarg:=none,defaults:=[] }
def Df (s:Stmt):List Stmt:=match s with
 | .FunctionDef _ _ b _ _ _ _ _ _ _=>b
 | _=>[]
def Ac (s:Stmt):Scope:=match s with
 | .FunctionDef _ _ _ _ _ _ sc _ _ _=>sc
 | _=>{ kind:=.function,names:=[],isGenerator:=false,isCoroutine:=false }
abbrev AE:BW:=λ_ _ _ _ _ _=>False
abbrev E0:XK:=λ_ _ _=>False
theorem A5 {X:Cx}:CF AE X E0:=λ_ _ _ _ _ _ _ h=>h.elim
structure AJ (K:S3)(x qual:Str)(st:Stmt)(f:Addr)(fd:Tn):Prop where
 ex:∃(oc:Value)(od:Option Addr)(kV doc pm:Value)(an:Option Addr)(ak ct:Value)(dZ:Array (Option Value)),
  fd=UQ x qual (Dw st) (Df st) (Ac st) .none kV doc pm an ak ct/\K.lookup f=some ⟨oc,od,.func fd,dZ⟩/\Vw K ak qual=true
 kp:Ux K (.ref f)=true
section
variable {P:Ta}{w:S6}{K:S3}{mg:Str->Option Value}{base:Heap}
theorem AJ.ok {x B:Str}{st:Stmt}{f:Addr}{I:Tn}{N ps:List Str}{k:Nat}{sp:Sp}(F:AJ K x B st f I)(S:AO N ps (Ac st))(J:∀ (D:Value) (A:Tt) (outer:List Env) (s:S0) (H:Hp) (vs:List V) (Q:VK) (E:XK),Bn k (A.deeper (Vm B (Ac st) s.heap.objs.size f D))->sp vs H Q E ->
   ∃ t,CW (CK AE P w K mg base N B (Ac st) f D A outer s H E).jK (Df st) t/\t { nx:=λ_ L=>Q .aa L,rt:=Q } (start N vs) H)(len:∀ vs H Q E,sp vs H Q E->vs.length=ps.length:=by intro _ _ _ _ h;repeat (first | exact congrArg Wz h.1 | obtain ⟨_,h⟩:=h)):AB P w K mg base AE (k+1) f I ps sp:=by
 obtain ⟨oc,od,kV,O,pm,an,D,ct,dZ,rfl,lk,Y⟩:=Kc F.ex;refine NO lk Y S len λA outer s H vs Q E hr dy=>?_;obtain ⟨t,h,q⟩:=Ao (J D A outer s H vs Q E hr dy);exact ⟨t,h.jK,q⟩
theorem AJ.binds {x B:Str}{st:Stmt}{f:Addr}{L:Tn}{ps:List Str}(F:AJ K x B st f L)(h:∀ (kV D H:Value) (I:Option Addr) (J ct:Value) (us:List Value),us.length=ps.length->bindArgs (UQ x B (Dw st) (Df st) (Ac st) .none kV D H I J ct) ⟨us,[]⟩=pure (ps.zip us)):Dd K L ps []:=by obtain ⟨O,V,kV,D,H,I,J,ct,Y,rfl,lk,cV⟩:=Kc F.ex;exact .all (h kV D H I J ct)
theorem FR {x B:Str}{st:Stmt}{f:Addr}{L:Value}{O I:Option Addr}{V:Array (Option Value)}{kV D J H ct:Value}(l:K.lookup f=some ⟨L,O,.func (UQ x B (Dw st) (Df st) (Ac st) .none kV D J I H ct),V⟩)(c:Vw K H B=true)(k:Ux K (.ref f)=true):AJ K x B st f (UQ x B (Dw st) (Df st) (Ac st) .none kV D J I H ct):=⟨⟨L,O,kV,D,J,I,H,ct,V,rfl,l,c⟩,k⟩
end
section
variable {X:Cx}
end
theorem Ci {A B:Prop}(h:B):if false=true then A else B:=by rw [if_neg T7];exact h
theorem Cn {A B:Prop}(h:A):if true=true then A else B:=by rw [if_pos rfl];exact h
theorem Iv {c A B:Prop} [Decidable c] (D:c->A) (H:¬ c->B):if c then A else B:=by
 by_cases h:c
 .rw [if_pos h];exact D h
 .rw [if_neg h];exact H h
def Ag (H H':Hp):Prop:=∀ b o,H b=some o->H' b=some o
theorem Ag.refl (H:Hp):Ag H H:=λ_ _ h=>h
theorem Ag.trans {H B D:Hp}(a:Ag H B)(b:Ag B D):Ag H D:=λc o h=>b c o (a c o h)
theorem Ag.free {H B:Hp}(e:Ag H B){l:Addr}(h:B l=Option.none):H l=Option.none:=by
 cases q:H l with
 | none=>rfl
 | some o =>
  rw [e l o q] at h;cases h
theorem Ag.seq {K:S3}{H B:Hp}{a:Addr}{xs:List V}(e:Ag H B)(h:Ba K H a xs):Ba K B a xs:=by
 rcases h with (h | ⟨o,h⟩) | h
 .exact .inl (.inl (e _ _ h))
 .exact .inl (.inr ⟨o,e _ _ h⟩)
 .exact .inr h
end L2
namespace L2
def Lk (t C:St->Hp->Prop):Prop:=∀ σ H,t σ H->C σ H
theorem Lk.use {t C:St->Hp->Prop}{σ:St}{H:Hp}(h:Lk t C)(p:t σ H):C σ H:=h _ _ p
theorem Ab3 {s t:TS}{D:CV}{σ:St}{H:Hp}(h:∀ C:St->Hp->Prop,Lk (t D) C->s { D with nx:=C } σ H):Kg s t D σ H:=h _ λ_ _ z=>z
theorem Lk.asg {t:St->Hp->Prop}{v:V}{i:Nat}{D:CV}{σ:St}{H:Hp}(h:Lk t D.nx)(p:t (σ.set i (some v)) H):FN (tC v) (DU i) D σ H:=h _ _ p
theorem w1 {α:Type u}{β:Type v}{a:β}{f:α->β}{P:α->Prop}{v:α}(e:a=f v)(h:P v):∃ v,a=f v/\P v:=⟨v,e,h⟩
theorem w2 {α β γ δ:Type}{x:γ}{y:δ}{f:α->γ}{g:β->δ}{P:α->β->Prop}{i:α}{j:β}(e:x=f i)(B:y=g j)(h:P i j):∃ i j,x=f i/\y=g j/\P i j:=⟨i,j,e,B,h⟩
theorem w3 {α β γ:Type}{x:γ}{f:α->β->γ}{P:α->β->Prop}{i:α}{j:β}(e:x=f i j)(h:P i j):∃ i j,x=f i j/\P i j:=⟨i,j,e,h⟩
section
open PySem
variable {CX:BW}{P:Ta}{w:S6}{K:S3}{mg:Str->Option Value}{base:Heap}{N:List Str}{qual:Str}{scope:Scope}{f:Addr}{cd:Value}{A:Tt}{outer:List Env}{s:S0}{H:Hp}{E:XK}
end
theorem CG {α β γ δ ξ ζ:Type}{x:ξ}{y:ζ}{f:α->β->γ->δ->ξ}{g:α->β->γ->δ->ζ}{P Q R:α->β->γ->δ->Prop} {a b c d} (p:P a b c d) (q:Q a b c d) (r:R a b c d) (e:x=f a b c d:=by rfl) (B:y=g a b c d:=by rfl):∃ a b c d,x=f a b c d/\y=g a b c d/\P a b c d/\Q a b c d/\R a b c d:=⟨a,b,c,d,e,B,p,q,r⟩
theorem Dq {α β γ δ ε ξ:Type}{x:ξ}{f:α->β->γ->δ->ε->ξ}{P Q S T R:α->β->γ->δ->ε->Prop} {a b c d i} (p:P a b c d i) (q:Q a b c d i) (s:S a b c d i) (t:T a b c d i) (r:R a b c d i) (e:x=f a b c d i:=by rfl):∃ a b c d i,x=f a b c d i/\P a b c d i/\Q a b c d i/\S a b c d i/\T a b c d i/\R a b c d i:=⟨a,b,c,d,i,e,p,q,s,t,r⟩
theorem DG {α β γ ξ:Type}{x:ξ}{f:α->β->γ->ξ}{P Q R:α->β->γ->Prop} {a b c} (p:P a b c) (q:Q a b c) (r:R a b c) (e:x=f a b c:=by rfl):∃ a b c,x=f a b c/\P a b c/\Q a b c/\R a b c:=⟨a,b,c,e,p,q,r⟩
theorem B6 {b:Bool}{A B:Prop}(h:b=true)(a:A):if b=true then A else B:=by rw [if_pos h];exact a
theorem BX {b:Bool}{A B:Prop}(h:b=false)(a:B):if b=true then A else B:=by rw [h];exact a
theorem EE {α:Type}{B R:α->Prop} (a) (D:B a) (r:R a):∃ a,B a/\R a:=⟨a,D,r⟩
theorem GG {α:Type}{B D R:α->Prop} (a) (H:B a) (I:D a) (r:R a):∃ a,B a/\D a/\R a:=⟨a,H,I,r⟩
theorem DH {α β:Type}{B R:α->β->Prop} (a b) (D:B a b) (r:R a b):∃ a b,B a b/\R a b:=⟨a,b,D,r⟩
theorem B2 {α β:Type}{B D R:α->β->Prop} (a b) (H:B a b) (I:D a b) (r:R a b):∃ a b,B a b/\D a b/\R a b:=⟨a,b,H,I,r⟩
theorem Ef {α β:Type}{B D P3 R:α->β->Prop} (a b) (H:B a b) (I:D a b) (J:P3 a b) (r:R a b):∃ a b,B a b/\D a b/\P3 a b/\R a b:=⟨a,b,H,I,J,r⟩
theorem Iw {α β:Type}{B D P3 H R:α->β->Prop} (a b) (I:B a b) (J:D a b) (L:P3 a b) (O:H a b) (r:R a b):∃ a b,B a b/\D a b/\P3 a b/\H a b/\R a b:=⟨a,b,I,J,L,O,r⟩
theorem B7 {α β γ:Type}{B R:α->β->γ->Prop} (a b c) (D:B a b c) (r:R a b c):∃ a b c,B a b c/\R a b c:=⟨a,b,c,D,r⟩
theorem Bf {α β γ:Type}{B D P3 R:α->β->γ->Prop} (a b c) (H:B a b c) (I:D a b c) (J:P3 a b c) (r:R a b c):∃ a b c,B a b c/\D a b c/\P3 a b c/\R a b c:=⟨a,b,c,H,I,J,r⟩
theorem DI {α β γ:Type}{B D P3 H R:α->β->γ->Prop} (a b c) (I:B a b c) (J:D a b c) (L:P3 a b c) (O:H a b c) (r:R a b c):∃ a b c,B a b c/\D a b c/\P3 a b c/\H a b c/\R a b c:=⟨a,b,c,I,J,L,O,r⟩
theorem N5 {α β γ δ:Type}{B R:α->β->γ->δ->Prop} (a b c d) (D:B a b c d) (r:R a b c d):∃ a b c d,B a b c d/\R a b c d:=⟨a,b,c,d,D,r⟩
theorem BG {α β γ δ:Type}{B D P3 H R:α->β->γ->δ->Prop} (a b c d) (I:B a b c d) (J:D a b c d) (L:P3 a b c d) (O:H a b c d) (r:R a b c d):∃ a b c d,B a b c d/\D a b c d/\P3 a b c d/\H a b c d/\R a b c d:=⟨a,b,c,d,I,J,L,O,r⟩
theorem Bc {α β γ δ:Type}{B D P3 H I R:α->β->γ->δ->Prop} (a b c d) (J:B a b c d) (L:D a b c d) (O:P3 a b c d) (V:H a b c d) (Y:I a b c d) (r:R a b c d):∃ a b c d,B a b c d/\D a b c d/\P3 a b c d/\H a b c d/\I a b c d/\R a b c d:=⟨a,b,c,d,J,L,O,V,Y,r⟩
theorem GH {α β γ δ ε:Type}{B R:α->β->γ->δ->ε->Prop} (a b c d e) (D:B a b c d e) (r:R a b c d e):∃ a b c d e,B a b c d e/\R a b c d e:=⟨a,b,c,d,e,D,r⟩
theorem AF {α β γ δ ε:Type}{B D P3 H I R:α->β->γ->δ->ε->Prop} (a b c d e) (J:B a b c d e) (L:D a b c d e) (O:P3 a b c d e) (V:H a b c d e) (Y:I a b c d e) (r:R a b c d e):∃ a b c d e,B a b c d e/\D a b c d e/\P3 a b c d e/\H a b c d e/\I a b c d e/\R a b c d e:=⟨a,b,c,d,e,J,L,O,V,Y,r⟩
theorem GI {α β γ δ ε ζ η:Type}{B R:α->β->γ->δ->ε->ζ->η->Prop} (a b c d e f g) (D:B a b c d e f g) (r:R a b c d e f g):∃ a b c d e f g,B a b c d e f g/\R a b c d e f g:=⟨a,b,c,d,e,f,g,D,r⟩
theorem FT {α β γ δ ε ζ η θ:Type}{B R:α->β->γ->δ->ε->ζ->η->θ->Prop} (a b c d e f g h) (D:B a b c d e f g h) (r:R a b c d e f g h):∃ a b c d e f g h,B a b c d e f g h/\R a b c d e f g h:=⟨a,b,c,d,e,f,g,h,D,r⟩
theorem Fj {α β γ δ ε ζ η θ ι:Type}{B R:α->β->γ->δ->ε->ζ->η->θ->ι->Prop} (a b c d e f g h i) (D:B a b c d e f g h i) (r:R a b c d e f g h i):∃ a b c d e f g h i,B a b c d e f g h i/\R a b c d e f g h i:=⟨a,b,c,d,e,f,g,h,i,D,r⟩
end L2
namespace L2
open PySem PySem.Spec PyProof.Rows
section
variable {P:Ta}{w:S6}
def AH (P:Ta)(w:S6):BW:=λouter H s E e s'=>∃(ea:Addr)(cls a0:Value)(B:Heap)(H':Hp),
 e=.ref ea/\s'.os=s.os/\Vj s'.gens/\Un (Cv outer) [] H H' s.heap s'.heap/\Heap.FlyingW B outer ea cls a0 s'.heap/\AL P w H' B /\
 (∀ b o,s.heap.get? b=some o->H b=none->b ∉ Cv outer->B.get? b=some o)/\(∀ b o,s.heap.get? b=some o->b ∉ Cv outer->∃ o',B.get? b=some o')/\E cls none H'
structure Iy (X:Cx)(pins:List (Addr×Obj))(σ:St)(H:Hp)(B:Heap)(s:S0):Prop where
 inv:Ae X pins σ H s
 af:AL X.prog X.w H B
 old:∀ b o,X.s₀.heap.get? b=some o->X.H₀ b=none->b ∉ X.fs->b ∉ X.ex->B.get? b=some o
 there:∀ b o,X.s₀.heap.get? b=some o->b ∉ X.fs->b ∉ X.ex->∃ o',B.get? b=some o'
 pin:∀ p∈X.pn++pins,B.get? p.1=some p.2
variable {X:Cx}{pins:List (Addr×Obj)}{σ:St}{H H':Hp}{s s':S0}{ea:Addr}{cls:Value}{B:Heap}
theorem Ae.gR (I:Ae X pins σ H s){b:Addr}{o:Obj}(e:X.s₀.heap.get? b=some o):b≠X.env.locals:=TK (TY (Tv e) I.ok.above)
theorem Ae.fly (I:Ae X pins σ H s){E:XK}{e:Value}(h:AH X.prog X.w X.stack H s E e s'):∃ ea cls O B H',e=.ref ea/\Iy X pins σ H' B s'/\Heap.FlyingW B X.stack ea cls O s'.heap/\E cls none H':=by
 replace h:=Fd h;obtain ⟨ea,cls,O,B,H',rfl,os,D,un,V,Y,J,there,hE⟩:=h
 refine ⟨ea,cls,O,B,H',rfl,⟨I.oY os un (Y.kept V.1) D (λb z=>absurd z (by simp)),Y,λb o e n L hx=>?_,λb o e L hx=>?_,λp hp=>?_⟩,V,hE⟩
 .refine J b o (I.base.keep b o e n L hx) (I.base.free b o e n hx) λz=>?_;rcases Tq.mp (I.cU b z) with q | q
  .exact I.gR e q
  .exact L q
 .obtain ⟨o',e'⟩:=I.base.there b o e hx;refine there b o' e' λz=>?_;rcases Tq.mp (I.cU b z) with q | q
  .exact I.gR e q
  .exact L q
 .obtain ⟨e,n,ne,nf,_⟩:=AQ (I.pin p hp);refine J p.1 p.2 e n λz=>?_;rcases Tq.mp (I.cU _ z) with q | q
  .exact ne q
  .exact nf q
theorem Iy.move (F:Iy X pins σ H B s){h':Heap}{tk:Nat}(Y:B.StaysIn h')(up:s.heap.UpToSlots h'):Ae X pins σ H { s with heap:=h',toks:=tk }:=by
 have I:=F.inv;have D:∀ b,b∈X.fs->∀ o,s.heap.get? b=some o->(∃ o₀,X.s₀.heap.get? b=some o₀)->∃ sl,h'.get? b=some { o with slots:=sl }:=λb hb o e _=>by
  obtain ⟨_,o1,L,d1⟩:=I.cw.mem hb;rw [e] at L;cases L;exact up b o e d1
 have J:∀ c v,s.heap.IsCell c v->h'.IsCell c v:=λc v zz=>Cu zz λo ho hd=>by
  obtain ⟨sl,e⟩:=up c o ho λvs q=>by rw [hd] at q;cases q
  exact ⟨_,e,hd⟩
 refine ⟨I.ok,I.os,I.bare,⟨λb o e n O hx=>Y b o (F.old b o e n O hx),λb o e n O hx=>?_,I.base.free,λb o e hx=>?_,I.base.ag,I.base.cB,I.base.cS⟩,?_,λx c e=>?_,I.free,I.cx,λp hp=>?_,F.af.kept Y,I.len⟩
 .obtain ⟨sl,L⟩:=I.base.slot b o e n O hx;obtain ⟨gS,V⟩:=D b O _ L ⟨o,e⟩;exact ⟨gS,V⟩
 .by_cases O:b∈X.fs
  .obtain ⟨o',L⟩:=I.base.there b o e hx;obtain ⟨gS,V⟩:=D b O _ L ⟨o,e⟩;exact ⟨_,V⟩
  .obtain ⟨o',e'⟩:=F.there b o e O hx;exact ⟨o',Y b o' e'⟩
 .obtain ⟨m,hn,hl⟩:=Ao I.loc;refine ⟨m,up.ns hn,λi x v L V e3=>?_⟩;obtain ⟨u,r,l⟩:=Ao (hl i x v L V e3);refine ⟨u,r,?_⟩;rcases l with l | ⟨k,c,e,z⟩
  .exact .inl l
  .exact .inr ⟨k,c,e,J c _ z⟩
 .obtain ⟨v,z⟩:=I.cell x c e;exact ⟨v,J c v z⟩
 .obtain ⟨_,r⟩:=I.pin p hp;exact ⟨Y _ _ (F.pin p hp),r⟩
end
section
variable {P:Ta}{w:S6}{K:S3}{mg:Str->Option Value}{base:Heap}{N:List Str}{qual:Str}{scope:Scope}{f:Addr}{cd:Value}{A:Tt}{outer:List Env}{s₀:S0}{H₀:Hp}{E:XK}
theorem Bs:CF (AH P w) (CK (AH P w) P w K mg base N qual scope f cd A outer s₀ H₀ E) E:=by intro pins σ H s e O I h;obtain ⟨V,cls,Y,B,H',rfl,F,fl,hE⟩:=Aaa (I.fly h);show S4 _ _ (leaving _ _) _ _ _;refine wpAny_leaves_onW I.ok.frames rfl fl λh' L up=>?_;have J:=F.move (tk:=O.toks) L.1 up;exact ⟨V,cls,Y,B,H',rfl,J.os,J.bare,J.base,L,F.af,λb o e n D=>F.old b o e n D (by simp [CK]),λb o e D=>F.there b o e D (by simp [CK]),hE⟩
theorem AL.hide {H:Hp}{h:Heap}{l:List Addr}(x:AL P w H h)(n:∀ b∈l,H b=none):AL P w H (Xh h l):=λa o e =>
 (x a o e).du (λb u hb q=>WN l q λB=>by
  have z:=n b B;rcases hb with rfl | hb
  .rw [e] at z;cases z
  .rw [hb] at z;cases z) (λ_ q=>q) λ_ _ q=>q
theorem Ab4 {C:Addr}{I:List Value}{B:String}(q:UR K C I B=true):∃ nm H N bs D hd sn sub ab col dd k0 k1 k2 k3 k5,
  K.lookup C=some (excClassObj nm H C N bs D hd sn sub ab col dd k0 k1 k2 k3 k5 B)/\YL K N=true/\TN K N "__init__"=some none/\PySem.W.tailIn K I D=true:=by
 unfold UR at q;split at q
 .rename_i dd cd sl ho
  split at q
  .rename_i C' D k0 k1 k2 k3 n k5 hm hs
   simp only [UK,beq_iff_eq,Bool.not_eq_true'] at q;obtain ⟨⟨⟨⟨⟨rfl,rfl⟩,J⟩,V⟩,L⟩,O⟩:=q;obtain ⟨nm,bs,mro,Y,H,hd,sn,sub,ab,col,del⟩:=cd;dsimp only at hm J L O;subst hm J;have pv:sl=#[k0,k1,k2,k3,some (.builtin n),k5]:=by obtain ⟨l⟩:=sl;simp only at hs;rw [hs]
   subst pv;exact ⟨nm,H,Y,bs,D,hd,sn,sub,ab,col,dd,k0,k1,k2,k3,k5,ho,L,O,V⟩
  .cases q
 .cases q
theorem Ab5 {N:Addr}(B:YL K N=true){h:Heap}(X:K.In h):∃ mN,(∀ h',K.In h'->h'.Ns N mN)/\∀ x,TN K N x=some none->mN x=none:=by
 have i:=PySem.W.isNs_of_in X B;refine ⟨h.nsMap N,λh' D=>?_,λx e=>PySem.W.nsMap_none_of_in X B e⟩;obtain ⟨o,es,H,I,r⟩:=CU (Heap.Ns.of_isNs i);refine ⟨o,es,H,?_,r⟩;unfold YL at B;split at B
 .rename_i q
  have e:=X _ _ q;rw [I] at e;cases e;exact D _ _ q
 .cases B
def Kw (X:Cx)(W:St->XK):Prop:=∀(pins:List (Addr×Obj))(σ:St)(H:Hp)(s:S0)(ea:Addr)(h':Heap)(C:Addr)(args:List Value),Ae X pins σ H s->Heap.MadeExcOf s.heap h' ea (.ref C) args->W σ (.ref C) none H->X.xe (.ref ea) { s with heap:=h' }
def N6 (W:St->XK)(C:Addr)(ta:TA):TS:=λ_ σ H=>ta σ H λvs H1=>vs.length<=sizeLine/\W σ (.ref C) none H1
theorem Ab6 {X:Cx}{W:St->XK}{C:Addr}{x:Str}{np O pos:Pos}{e:S7}{es:List S7}{t:TA}(ht:Kw X W)(hc:X.calm=true)(q:UR X.K C [.type "ValueError",.type "Exception",.type "BaseException",.type "object"] "ValueError.__new__"=true)(hm:X.mg x=some (.ref C))(ha:PA X (e :: es) t)(hg:Gl X x:=by rfl)(hd:(x == ("__debug__":Str))=false:=by decide)(Y:Tj (e :: es) X.env=(false,Tf e X.env) :: Tj es X.env:=by rfl)(aU:(TZ O (Tj es X.env)).any (·.1)=false:=by rfl) :
  PS X (.Raise (some (.Call (.Name x np) (e :: es) [] O)) none pos) (N6 W C t):=by
 intro pins s σ H D I h;obtain ⟨nm,qn,NN,bs,bm,V,sn,sub,ab,B,dd,k0,k1,k2,k3,k5,lk,af,jU,tl⟩:=Ab4 q;obtain ⟨mN,hN,iC⟩:=Ao (Ab5 af I.aN);have hb:bm.contains (.type "BaseException")=true:=(ZP I.aN tl).hasType ZQ.hasBase;refine wpAny_Raise_call_subT (nm:=nm) (q:=qn) (C:=C) (N:=NN) (bs:=bs) (hdct:=V) (sn:=sn) (sub:=sub) (ab:=ab) (col:=B) (dd:=dd) (k0:=k0) (k1:=k1) (k2:=k2) (k3:=k3) (k5:=k5) (mN:=mN) ZQ hb (I.ok.hd hc) (by rw [Y];show (false || _)=false;exact aU) (iC _ jU) (Ib I hg hm ⟨rfl,?_⟩ hd);have J:=ha O pins s σ H _ I h;rw [Y] at J ⊢;refine YD (U4 J (λus s2 zz=>Gj zz λvs H1 L r hl hE=>?_) λ_ _ z=>z);exact ⟨rfl,(by rw [<- r.length];exact hl),L.aN _ _ lk,hN _ L.aN,ZP L.aN tl,λh' ea mx=>ht pins σ H1 s2 ea h' C _ L mx hE⟩
theorem Ae.lies {X:Cx}{pins:List (Addr×Obj)}{σ:St}{H:Hp}{s:S0}(I:Ae X pins σ H s):Iy X pins σ H (Xh s.heap (Cv X.stack)) s:=by
 have J:∀{b:Addr}{o:Obj},X.s₀.heap.get? b=some o->b ∉ X.fs->b ∉ Cv X.stack:=λ{b o} e D z=>by
  rcases Tq.mp (I.cU b z) with y | y
  .exact I.gR e y
  .exact D y
 refine ⟨I,I.af.hide I.kQ,λb o e n B hx=>WN _ (I.base.keep b o e n B hx) (J e B),λb o e B hx=>?_,λp L=>?_⟩
 .obtain ⟨O,V⟩:=I.base.there b o e hx;exact ⟨O,WN _ V (J e B)⟩
 .obtain ⟨e,n,ne,D,_⟩:=AQ (I.pin p L);refine WN _ e λz=>?_;rcases Tq.mp (I.cU _ z) with y | y
  .exact ne y
  .exact D y
theorem CL:Kw (CK (AH P w) P w K mg base N qual scope f cd A outer s₀ H₀ E) (λ_=>E):=by intro pins σ H B ea h' C args I V hE;have L:=I.lies;have D:∀ env∈(CK (AH P w) P w K mg base N qual scope f cd A outer s₀ H₀ E).stack,∀ b,env.frame=some b->b∈Cv (CK (AH P w) P w K mg base N qual scope f cd A outer s₀ H₀ E).stack:=λenv he b hb=>Yh.mpr ⟨env,he,hb⟩;show S4 _ _ (leaving _ _) _ _ _;refine wpAny_leaves_madeW (s:={ B with heap:=h' }) (base:=Xh B.heap (Cv (CK (AH P w) P w K mg base N qual scope f cd A outer s₀ H₀ E).stack)) (h:=B.heap) I.ok.frames rfl (λb o z=>Zs _ z) (PySem.W.funFrames_hide I.stack D) V λh'' t Y tup tn up=>?_;have J:=L.move (tk:=B.toks) Y.1 ((Heap.UpToSlots.of_keeps V.keeps).trans up);exact ⟨ea,.ref C,.ref t,_,H,rfl,J.os,J.bare,J.base,Y,L.af,λb o e n O=>L.old b o e n O (by simp [CK]),λb o e O=>L.there b o e O (by simp [CK]),hE⟩
end
section
variable {X:Cx}{pins:List (Addr×Obj)}{σ:St}{H:Hp}{s:S0}
def GJ (ea:Addr)(cls:Value):HO:=.ext λh=>∃ o vs,h.get? ea=some o/\o.cls=cls/\o.data=.fields vs
end
end L2
namespace L2
open PySem PySem.Spec PySem.Calls PyProof.Rows PySem.W PySem.Builtin PySem.Builtin.ObjectAttr PySem.Builtin.Getset_descriptor
open Sem (wp)
def Ab7 (ea:Addr)(cls:Value)(h:Heap):Prop:=∃ o vs,h.get? ea=some o/\o.cls=cls/\o.data=.fields vs
structure Eg (K:Frag)(C:Addr):Prop where
 cls:(clsIn K C).isSome=true
 ga:findIn K (.ref C) "__getattribute__"=some (some (.builtin "BaseException.__getattribute__"))
 gt:findIn K (.ref C) "__getattr__"=some none
 cl:findIn K (.ref C) "__class__"=some (some (.builtin "object.__class__"))
 ob:subIn K (.ref C) (.type "object")=some true
 be:subIn K (.ref C) (.type "BaseException")=some true
section
variable {prog:Ta}{w:S6}{A:Tt}{E:Value->S0->Prop}{K:Frag}{C ea:Addr}{h:Heap}{g:Array WO}{d:Drawn}{t:Nat}{os:OsState}{o:Obj}
theorem Kx {M:VB}(hx:h.get? ea=some o)(hc:o.cls=.ref C):Looks M h (typeOf (.ref ea)) (.ref C):=hc▸(Looks.ld hx).andThen .now
theorem Ab8 {R:Wb->S0->Prop}(X:K.In h)(c:Eg K C)(hx:h.get? ea=some o)(hc:o.cls=.ref C)(hq:R (.ok (.ret (.ref C))) ⟨h,g,d,t,os⟩) :
  Uy (S8 prog w) A (.call (.builtin "getset_descriptor.__get__") ⟨[.builtin "object.__class__",.ref ea,.ref C],[]⟩) R ⟨h,g,d,t,os⟩:=by
 have B:=Kx (M:=S8 prog w) hx hc;have D:=looks_subIn (M:=S8 prog w) X c.ob;refine YM KF.slot_gs.plain KF.entry_gs (KF.slot_gs.check _ _ _ _ _ _ _ _ KF.type_class (KF.args_gs _ _ _) ?_);unfold Builtin.«getset_descriptor.__get__» descrGet;rw [dga_obj];refine S5 (Te ?_);unfold descrGetter descrCheckInstance descrNameAndClass isInstance;simp only [KF.owner_class];repeat lk
 refine ⟨ZR _ (by decide +kernel),W7 KF.entry_class ?_⟩;unfold Builtin.«object.__class__» shownTypeOf;repeat lk
 exact hq
theorem Ab9 {M:VB}{D:Value}{Q:Unit->S0->Prop}(X:K.In h)(c:Eg K C)(hx:h.get? ea=some o)(hc:o.cls=.ref C)(hq:Q () ⟨h,g,d,t,os⟩) :
  S4 M A (YN "BaseException.__getattribute__" ⟨[.ref ea,D],[]⟩) Q E ⟨h,g,d,t,os⟩:=by
 have hk:builtinKind "BaseException.__getattribute__"=some .slot:=by decide +kernel
 have B:splitId "BaseException.__getattribute__"=some ("BaseException","__getattribute__"):=by decide +kernel
 have H:=Kx (M:=M) hx hc;have I:=looks_subIn (M:=M) X c.be;have L:=F.args_bexc_ga (.ref ea) D;have J:Looks M h (isInstance (.ref ea) (.type "BaseException")) true:=H.andThen I;simp only [YN,hk,B];refine S5 (J.at ?_);repeat (first | assumption | lk | wp_step)
theorem Aca {tk:Tok}{Q:Fin->S0->Prop}(X:K.In h)(c:Eg K C)(hx:h.get? ea=some o)(hc:o.cls=.ref C)(hq:Q (.done (.ret (.ref C))) ⟨h,g,d,t,os⟩) :
  S4 (S8 prog w) A (Builtin.«object.__getattribute__» ⟨[.ref ea,.str "__class__" tk],[]⟩) Q E ⟨h,g,d,t,os⟩:=by
 have B:(⟨h,g,d,t,os⟩:S0).TypeIs (.builtin "object.__class__") "getset_descriptor":=ZS;have L2:=looks_findIn (M:=S8 prog w) X c.cl;have D:=ZS;have H:=F.slot_gs_get.lookup;have I:=F.slot_gs_set.lookup;repeat (any_goals (first | assumption | (with_reducible refine ZT hx ?_;rw [hc]) | with_reducible refine L2.at ?_ | wp_step))
 refine Ab8 X c hx hc ?_;repeat (any_goals (first | assumption | wp_step))
theorem Acb {tk:Tok}{Q:Value->S0->Prop}(X:K.In h)(c:Eg K C)(hx:h.get? ea=some o)(hc:o.cls=.ref C)(hq:Q (.ref C) ⟨h,g,d,t,os⟩) :
  S4 (S8 prog w) A (getAttrBy (.ref ea) (.str "__class__" tk) false) Q E ⟨h,g,d,t,os⟩:=by
 have I:=ZU.ga.bind (.ref ea);have B:(Xx "BaseException.__getattribute__" == Xx "object.__getattribute__")=false:=by decide +kernel
 have D:(onTheHeap (TU C) && Xx "BaseException.__getattribute__" == Xx "object.__getattribute__")=false:=by rw [B];rfl
 have L2:=looks_findIn (M:=S8 prog w) X c.ga;have H:=looks_findIn (M:=S8 prog w) X c.gt;repeat (any_goals (first | assumption | (with_reducible refine ZT hx ?_;rw [hc]) | with_reducible refine L2.at ?_ | with_reducible refine H.at ?_ | wp_step))
 refine YM ZU.ga.plain F.entry_bexc_ga (Ab9 X c hx hc (Aca X c hx hc ?_));repeat (any_goals (first | assumption | wp_step))
theorem Acd {Q:Option Value->S0->Prop}(X:K.In h)(c:Eg K C)(hx:h.get? ea=some o)(hc:o.cls=.ref C)(hq:Q (some (.ref C)) ⟨h,g,d,t+1,os⟩):S4 (S8 prog w) A (getAttr? (.ref ea) "__class__") Q E ⟨h,g,d,t,os⟩:=by unfold getAttr? getAttrBy?;repeat (any_goals (first | assumption | with_reducible apply Acb X c hx hc | wp_step))
theorem N7 (c:Eg K C):KitX K (.ref ea) (.ref C) (Ab7 ea (.ref C)) where
 ty:=λ_ _ _ H=>AG H λ_ _ e q _=>Kx e q
 it:=λ_ _ X _=>by
  obtain ⟨D,B⟩:=Ys.mp c.cls;unfold clsIn at B;split at B
  .rename_i c' d' cd' gS ho
   intro L O V Y k q;unfold isType loadHead;exact S5 (Zy (k _ _ (X _ _ ho)) (Te q))
  .cases B
 ne:=λh I dd its n sl X J=>by
  obtain ⟨D,B⟩:=Ys.mp c.cls;refine Wm.mpr λq=>?_;have e:C=I:=Value.ref.inj (beq_iff_eq.mp q);subst e;unfold clsIn at B;split at B
  .rename_i c' d' cd' gS ho
   have z:=(X _ _ ho).symm.trans J;cases z
  .cases B
 ca:=λ{prog w A E Q s} X ⟨o,vs,e,q,_⟩ k=>by
  obtain ⟨h,g,d,t,os⟩:=s;exact Acd X c e q k
end
end L2
namespace L2
open PySem PySem.Spec PyProof.Rows
mutual
inductive Is (K:S3)(H:Hp):V->PyData->Prop
 | aa:Is K H .aa .none
 | bl (b:Bool):Is K H (.bl b) (.bool b)
 | int (i:Int):Is K H (.int i) (.int i)
 | str (x:Str):Is K H (.str x) (.str x)
 | lst {a:Addr} {xs:List V} {ds:List PyData}:Ba K H a xs->aS K H xs ds->Is K H (.ref a) (.list ds)
 | tup {a:Addr} {xs:List V} {ds:List PyData}:Bh K H a xs->aS K H xs ds->Is K H (.ref a) (.tuple ds)
inductive aS (K:S3)(H:Hp):List V->List PyData->Prop
 | nil:aS K H [] []
 | cons {x:V} {xs:List V} {d:PyData} {ds:List PyData}:Is K H x d->aS K H xs ds->aS K H (x :: xs) (d :: ds)
end
theorem Ag.tup {K:S3}{H B:Hp}{a:Addr}{xs:List V}(e:Ag H B)(h:Bh K H a xs):Bh K B a xs:=by
 rcases h with (h | ⟨o,h⟩) | h
 .exact .inl (.inl (e _ _ h))
 .exact .inl (.inr ⟨o,e _ _ h⟩)
 .exact .inr h
section
variable {X:Cx}{pins:List (Addr×Obj)}{σ:St}{H H':Hp}{s:S0}{K:S3}
mutual
theorem Is.same:∀(d:PyData){x:V},Is K H x d->Ag H H'->Is K H' x d
 | .none,_,r,_=>by cases r;exact .aa
 | .bool _,_,r,_=>by cases r;exact .bl _
 | .int _,_,r,_=>by cases r;exact .int _
 | .str _,_,r,_=>by cases r;exact .str _
 | .list ds,_,r,e=>by cases r with | lst B D=>exact .lst (e.seq B) (aS.same ds D e)
 | .tuple ds,_,r,e=>by cases r with | tup B D=>exact .tup (e.tup B) (aS.same ds D e)
 | .dict _,_,r,_=>nomatch r
theorem aS.same:∀(ds:List PyData){xs:List V},aS K H xs ds->Ag H H'->aS K H' xs ds
 | [],_,r,_=>by cases r;exact .nil
 | d :: ds,_,r,e=>by cases r with | cons B D=>exact .cons (Is.same d B e) (aS.same ds D e)
end
mutual
theorem Is.reads:∀(d:PyData){x:V}{u:Value},Ae X pins σ H s->Is X.K H x d->Ay x u->∃ B,Reads s.heap u d B
 | .none,_,_,_,r,q=>by cases r;cases q;exact ⟨_,.none⟩
 | .bool _,_,_,_,r,q=>by cases r;cases q;exact ⟨_,.bool _⟩
 | .int _,_,_,_,r,q=>by cases r;obtain ⟨t,rfl⟩:=q;exact ⟨_,.int _ _⟩
 | .str _,_,_,_,r,q=>by cases r;obtain ⟨t,rfl⟩:=q;exact ⟨_,.str _ _⟩
 | .list ds,_,_,I,r,q=>by
  cases r with
  | lst D J =>
   cases q;obtain ⟨its,L,⟨o,n,e,c,_,d⟩,_⟩:=AD (I.list D);obtain ⟨B,O⟩:=aS.reads ds I J L;exact ⟨_,.list e c d (by simpa using O)⟩
 | .tuple ds,_,_,I,r,q=>by
  cases r with
  | tup D J =>
   cases q;obtain ⟨its,L,⟨o,e,c,n,d⟩,_⟩:=AD (I.tuple D);obtain ⟨B,O⟩:=aS.reads ds I J L;exact ⟨_,.tuple e c d (by simpa using O)⟩
 | .dict _,_,_,_,r,_=>nomatch r
theorem aS.reads:∀(ds:List PyData){xs:List V}{us:List Value},Ae X pins σ H s->aS X.K H xs ds->Aw xs us->∃ B,ReadsAll s.heap us ds B
 | [],_,_,_,r,q=>by cases r;cases q;exact ⟨_,.nil⟩
 | d :: ds,_,_,I,r,q=>by
  cases r with
  | cons D J =>
   cases q with
   | cons L O =>
    obtain ⟨B,Y⟩:=Is.reads d I D L;obtain ⟨bs,rb⟩:=aS.reads ds I J O;exact ⟨_,.cons Y rb⟩
end
def GK (K:S3)(neg:Bool):R2:=λx y H Q=>∃ d d',Is K H x d/\Is K H y d'/\d.canLay0=true/\d'.canLay0=true/\d.depth<=32/\Q (.bl (if neg then !Wn d d' else Wn d d')) H
theorem Ace (hu:X.A.units+64<cLine):A7 X (Ub .Eq) (GK X.K false):=by intro pins s σ H x y v u Q I D J ⟨d,B,L,O,V,Y,hd,q⟩;obtain ⟨as,ra⟩:=Is.reads d I L D;obtain ⟨bs,rb⟩:=Is.reads B I O J;exact SeqAt.rcAt_reads ra rb V Y (by have:=ZV d.depth B.depth;omega) _ _ _ _ ⟨.bl _,H,I,rfl,q⟩
theorem Acf (hu:X.A.units+64<cLine):A7 X (Ub .NotEq) (GK X.K true):=by intro pins s σ H x y v u Q I D J ⟨d,B,L,O,V,Y,hd,q⟩;obtain ⟨as,ra⟩:=Is.reads d I L D;obtain ⟨bs,rb⟩:=Is.reads B I O J;exact SeqAt.rcNeAt_reads ra rb V Y (by have:=ZV d.depth B.depth;omega) _ _ _ _ ⟨.bl _,H,I,rfl,q⟩
end
noncomputable def FU {α:Type}(cs:List α)(lo hi:Option Int):List α:=(cs.drop (HT.ao cs.length 0 lo)).take (HT.ao cs.length cs.length hi - HT.ao cs.length 0 lo)
noncomputable def Iz (z:Str)(lo hi:Option Int):Str:=⟨(FU z.cps.toList lo hi).toArray⟩
theorem Acg (z:Str)(lo B:Option Int):(Iz z lo B).length<=z.length:=by show ((FU z.cps.toList lo B).toArray).size<=z.cps.size;rw [TR];unfold FU;rw [UZ,Yv];simp only [UE];omega
theorem N8 (n:Nat)(o:Option Int):HT.ao n n o<=n:=HT.kZ n n (Ti _) o
theorem N9 (n:Nat)(o:Option Int):HT.ao n 0 o<=n:=HT.kZ n 0 (T5 _) o
theorem Ach (a b:Nat):W8 (a:Int) (b:Int) 1=(Ur (b - a)).map (λk=>a+k):=by
 unfold W8;simp only [show ((1:Int) > 0) from by decide,if_true];by_cases B:(a:Int)<b
 .have D:(((b:Int) - a+1 - 1) / 1).toNat=b - a:=by simp<;>omega
  simp only [B,if_true,D];refine VQ λk _=>?_;omega
 .have:b - a=0:=by omega
  simp [B,this]
theorem Oa (lo D:Option Int)(n:Nat):Xy lo D 1 n=(Ur (HT.ao n n D - HT.ao n 0 lo)).map (λk=>HT.ao n 0 lo+k):=by
 have B:∀(v:Int)(d:Nat),max (0:Int) (min (if v<0 then v+(n:Int) else v) (n:Int))=((HT.ao n d (some v):Nat):Int):=by
  intro v d;rw [<- HT.k6 v n d];by_cases hv:v<0
  .rw [if_pos hv,if_pos hv];omega
  .rw [if_neg hv,if_neg hv];omega
 rw [<- Ach];cases lo with
 | none =>
  cases D with
  | none=>rfl
  | some b =>
   show W8 0 (max (0:Int) (min (if b<0 then b+(n:Int) else b) (n:Int))) 1=_;rw [B b n];rfl
 | some a =>
  cases D with
  | none =>
   show W8 (max (0:Int) (min (if a<0 then a+(n:Int) else a) (n:Int))) (n:Int) 1=_;rw [B a 0];rfl
  | some b =>
   show W8 (max (0:Int) (min (if a<0 then a+(n:Int) else a) (n:Int))) (max (0:Int) (min (if b<0 then b+(n:Int) else b) (n:Int))) 1=_;rw [B a 0,B b n]
theorem Aci (z:Str)(lo B:Option Int):(Xy lo B 1 z.length).filterMap (z.cps[·]?)=FU z.cps.toList lo B:=by
 rw [Oa];have H:=N8 z.length B;have I:=N9 z.length lo;have D:z.cps.toList.length=z.length:=by simp [Wh]
 unfold FU;rw [D];by_cases hc:HT.ao z.length 0 lo<=HT.ao z.length z.length B
 .have:=PySem.StrLaws.picks z.cps.toList (HT.ao z.length z.length B - HT.ao z.length 0 lo) (HT.ao z.length 0 lo) (by rw [D];omega);simpa using this
 .have e:HT.ao z.length z.length B - HT.ao z.length 0 lo=0:=by omega
  rw [e];simp
theorem Acj (z:Str)(lo B:Option Int)(h:(Xy lo B 1 z.length).length=z.length):Iz z lo B=z:=by
 rw [Oa,Tb,Vd] at h;have J:=N8 z.length B;have L:=N9 z.length lo;have D:z.cps.toList.length=z.length:=by simp [Wh]
 unfold Iz FU;rw [D];by_cases O:z.length=0
 .have:z.cps.toList=[]:=ZW.mp (by omega);rw [this];cases z with | mk c=>cases c;simp_all
 .have H:HT.ao z.length 0 lo=0:=by omega
  have I:HT.ao z.length z.length B=z.length:=by omega
  rw [H,I,List.drop_zero,Nat.sub_zero,ZX (by omega)]
section
variable {X:Cx}
def Ob:V->Option Int->Option Int->Hp->VK->Prop:=λx lo hi H Q=>∃ z,x=.str z/\z.length<=sizeLine/\Q (.str (Iz z lo hi)) H
theorem Ack:Ec X Ob:=by
 intro pins s σ H x v J L lo B sl Q I O hs pl V h;replace h:=AD h;obtain ⟨z,rfl,Y,q⟩:=h
 obtain ⟨t,rfl⟩:=O;refine ⟨"str",_,F.slot_str_getitem.lookup,Xv s z t,?_⟩;obtain ⟨l,hl,iD⟩:∃ l,J=partValue l/\l.map (·.1)=lo:=by
  cases pl with
  | none=>exact ⟨none,rfl,rfl⟩
  | int i t=>exact ⟨some (i,t),rfl,rfl⟩
 obtain ⟨u,hu,D⟩:∃ u,L=partValue u/\u.map (·.1)=B:=by
  cases V with
  | none=>exact ⟨none,rfl,rfl⟩
  | int i t=>exact ⟨some (i,t),rfl,rfl⟩
 subst hl hu;refine wpAny_getItem_str_slice (l:=l) (u:=u) (st:=none) hs rfl ?_;unfold sliceMade slicePicked;simp only [Option.map_none,YB,iD,D,beq_self_eq_true,Bool.true_and];by_cases hc:((Xy lo B 1 z.length).length == z.length)=true
 .rw [if_pos hc];rw [Acj z lo B (beq_iff_eq.mp hc)] at q;exact ⟨.str z,H,I,⟨t,rfl⟩,q⟩
 .rw [if_neg hc,Aci];exact ⟨Uk (Acg z lo B) Y,.str _,H,I.tok _,⟨_,rfl⟩,q⟩
noncomputable def Fl (z:Str)(n:Int):Str:=⟨(Th n.toNat z.cps.toList).flatten.toArray⟩
def Oc:R2:=λx y H Q=>∃ z n,x=.str z/\y=.int n/\0<=n/\n<2 ^ 40/\z.length * n.toNat<=sizeLine/\Q (.str (Fl z n)) H
end
end L2
namespace PySem.SeqAt
open AutoSeq1 (wpAny_loadPart')
open MeetsSeq MeetsSeq2 MeetsSeq3 SeqRoads2
end PySem.SeqAt
namespace L2
open PySem PySem.Spec PyProof.Rows
section
variable {X:Cx}
theorem Acl:A7 X (UY .Mult) Oc:=by
 intro pins s σ H x y v u Q I Y ry ⟨z,n,e1,D,h0,hn,hz,q⟩;subst e1 D;obtain ⟨t,rfl⟩:=Y;obtain ⟨t',rfl⟩:=ry;have fold:∀(k:Nat)(B:List Nat),((Th k z.cps).foldl (·++·) B.toArray)=(B++(Th k z.cps.toList).flatten).toArray:=by
  intro k;induction k with
  | zero=>intro B;simp
  | succ k ih =>
   intro B;rw [VP,ZM,VP,WB];have e:B.toArray++z.cps=(B++z.cps.toList).toArray:=by simp
   rw [e,ih,TM]
 have V:=fold n.toNat [];simp only [YI] at V;have len:(Fl z n).length=z.length * n.toNat:=by show (List.flatten _).toArray.size=_;rw [TR,List.length_flatten,W9,List.sum_replicate_nat];simp [Wh,Nat.mul_comm]
 have sl:sizeLine<=2 ^ 40:=by rw [Tc];decide
 refine P.mul_str (by simp;omega) (λJ _=>?_) (λ_ _=>?_) ?_
 .have L:0<n:=by omega
  have:((z.length:Int))<=(2 ^ 63 - 1) / n:=by
   rw [Int.le_ediv_iff_mul_le L];have:((z.length * n.toNat:Nat):Int)<=2 ^ 40:=by omega
   rw [Int.natCast_mul,Int.toNat_of_nonneg h0] at this;omega
  omega
 .unfold Builtin.Str.tooLong;rw [decide_eq_false_iff_not];omega
 .by_cases J:n<1
  .have e:n=0:=by omega
   subst e;rw [if_pos J];have D:Fl z 0=Ua:=rfl;rw [D] at q;exact ⟨by decide,.str _,H,I.tok _,⟨_,rfl⟩,q⟩
  .rw [if_neg J];by_cases O:(n == 1 || z.length == 0)=true
   .rw [if_pos O];have D:Fl z n=z:=by
     rcases Bool.or_eq_true_iff.mp O with h | h
     .have e:n=1:=beq_iff_eq.mp h;subst e;show (⟨(Th 1 z.cps.toList).flatten.toArray⟩:Str)=z;simp
     .have e:z.length=0:=beq_iff_eq.mp h;have e':z.cps.toList=[]:=ZW.mp (by simpa [Wh] using e);unfold Fl;rw [e'];cases z with | mk c=>cases c;simp_all
    rw [D] at q;exact ⟨.str _,H,I,⟨_,rfl⟩,q⟩
   .rw [if_neg O];have D:(⟨(Th n.toNat z.cps).foldl (·++·) #[]⟩:Str)=Fl z n:=by
     unfold Fl;rw [<- V]
    rw [D];exact ⟨by rw [len];exact hz,.str _,H,I.tok _,⟨_,rfl⟩,q⟩
def Eh (z:Str):It:=⟨λi _=>i<z.cps.size,λi H x H'=>H'=H/\∃ c,z.cps.toList[i]?=some c/\x=.str ⟨#[c]⟩,λi _=>z.cps.size<=i⟩
theorem Acm {P:Ta}{w:S6}{K:S3}{tg:S7}(z:Str)(t:Tok)(it:Addr):Ez P w K tg (Eh z) [it] it (λi h=>h.IsStrIter it "str_ascii_iterator" z t i) where
 mem:=by simp
 obj:=λi h st b hb=>by
  have e:b=it:=by simpa using hb
  subst e;obtain ⟨o,e,c,d⟩:=AD st;exact ⟨o,e,λv z=>by rw [d] at z;cases z⟩
 keep:=λi h B ⟨o,e,r⟩ k=>⟨o,k it (by simp) o e,r⟩
 item:=by intro X J hw L hc i pins s σ H E I D st O;subst J hw L;obtain ⟨V,f1,f2,Y,f4,f5⟩:=AQ (D it (by simp));have hx:z.cps[i]?=some z.cps[i]:=WD O;refine wpAny_pyNext_ascii_item st hx λB bo sb=>?_;have I1:Ae X pins σ H { s with heap:=B,toks:=s.toks+1 }:=I.turned (t':=s.toks+1) (λb o hb e=>(sb.2 b hb).trans e) V f1 Y f4 f5;obtain ⟨o,e,c,d⟩:=AD (id bo);exact ⟨_,rfl,Gz (s:={ s with heap:=B,toks:=s.toks+1 }) e c d (by decide) ⟨.str _,H,I1,⟨_,rfl⟩,⟨rfl,z.cps[i],by rw [YG];exact hx,rfl⟩,bo,λb hb=>(D b hb).1⟩⟩
 done:=by intro X J hw L hc i pins s σ H E I D st O;subst J hw L;obtain ⟨V,f1,f2,Y,f4,f5⟩:=AQ (D it (by simp));exact wpAny_pyNext_ascii_end (I.ok.hd hc) st (Array.getElem?_eq_none O) λB eb=>⟨rfl,I.turned (t':=s.toks) (λb o hb e=>eb b o hb e) V f1 Y f4 f5⟩
 self:=λ_ _ _ _ _ st h=>wpAny_pyIter_striter_ascii st h
def Acn (tl:TE):TI:=λσ H R=>tl σ H λx H1=>∃ z,x=.str z/\z.cps.all (·<128)=true/\R (Eh z) H1
theorem Od {O l:S7}{tl:TE}(V:PE X l tl):PI X O l (Acn tl):=by
 intro pins s σ H R I h;refine Al (V pins s σ H _ I h) λv B Y=>AG Y λx L D r1 J=>?_;replace J:=AD J;obtain ⟨z,rfl,ha,q⟩:=J
 obtain ⟨t,rfl⟩:=r1;refine wpAny_pyIter_ascii ha ?_;have I2:Ae X pins σ L { B with heap:=B.heap.push { cls:=.type "str_ascii_iterator",data:=.fields #[.str z t,.int 0 0] } }:=D.kept (t':=B.toks) λb ob q=>TF _ q;exact ⟨_,[B.heap.objs.size],_,Eh z,L,rfl,I2,Acm z t _,⟨_,Uq _ rfl,rfl,rfl⟩,λb hb=>by
  have e:b=B.heap.objs.size:=by simpa using hb
  subst e;exact D.dW (Ti _) (D.af.fresh (Ti _)),q⟩
theorem Aco {z:Str}{g:TG}{J:TS}{D:CV}{σ:St}{H:Hp}(Pv:Nat->St->Hp->Prop)(O:Pv 0 σ H)(hs:∀ i c σ H,z.cps.toList[i]?=some c->Pv i σ H->g (.str ⟨#[c]⟩) σ H λσ2 I=>J { D with nx:=Pv (i+1),ct:=Pv (i+1),bk:=D.nx } σ2 I)(hd:∀ σ H,Pv z.cps.toList.length σ H->D.nx σ H) :
  ∃ W:Nat->Nat->St->Hp->Prop,(∃ m,W 0 m σ H)/\∀ i m σ H,W i m σ H ->
   ((Eh z).stop i H/\D.nx σ H)\/((Eh z).go i H/\∃ N:St->Hp->Prop,(∀ σ' B,N σ' B->∃ m',m'<m/\W (i+1) m' σ' B)/\∀ x B,(Eh z).bM i H x B->g x σ B λσ2 I=>J { D with nx:=N,ct:=N,bk:=D.nx } σ2 I):=by
 have V:z.cps.toList.length=z.cps.size:=by simp
 rw [V] at hd;refine ⟨λi m σ H=>m=z.cps.size - i/\i<=z.cps.size/\Pv i σ H,⟨_,rfl,T5 _,O⟩,?_⟩;rintro i m σ H ⟨rfl,hi,p⟩;by_cases L:i<z.cps.size
 .refine .inr ⟨L,Pv (i+1),λσ' B Y=>⟨z.cps.size - (i+1),by omega,rfl,L,Y⟩,λx B y=>?_⟩;obtain ⟨e,c,hc,e2⟩:=y;subst e e2;exact hs i c σ _ hc p
 .have e:i=z.cps.size:=by omega
  subst e;exact .inl ⟨Ti _,hd σ H p⟩
theorem Acp:BB X (.type "int") (λxs H Q=>∃ z n,xs=[.str z]/\Xa z=some n/\z.length<=640/\Q (.int n) H):=by intro pins s σ H xs J Q I r ⟨z,n,e,B,D,q⟩;subst e;obtain ⟨u,rfl,t,rfl⟩:=Ao r.one;exact PySem.W.KIN.call_text B D ⟨.int n,H,I.tok _,⟨_,rfl⟩,q⟩
inductive GN (K:S3)(H:Hp):V->Value->Prop where
 | of {x:V} {t:Value} (h:Dm K H x t):GN K H x t
 | exc {a C:Addr} (e:H a=some (GJ a (.ref C))) (c:Eg K C):GN K H (.ref a) (.ref C)
theorem Acq {pins:List (Addr×Obj)}{σ:St}{H:Hp}{s:S0}{A:Tt}{E:Value->S0->Prop}{Q:Value->S0->Prop}{c:Value}{b:Bool}{x:V}{u t:Value}(I:Ae X pins σ H s)(B:Ay x u)(ty:GN X.K H x t)(e:WW X.K t c=some b)(h:∀ tk,Q (.bool b) { s with toks:=tk }) :
  S4 (S8 X.prog X.w) A (call (.builtin "isinstance") [u,c]) Q E s:=by
 cases ty with
 | of ty=>exact Abg I B ty e h
 | @exc a C D J =>
  cases (show u=TU a from B);obtain ⟨p,_⟩:=(show Be X.prog X.w H s.heap a (GJ a (.ref C)) from I.af a _ D);exact U7 (N7 J) I.aN p e (λz=>nomatch z) h
noncomputable def Fm:V->Option Value
 | .ref a=>some (.ref a)
 | .ty n=>some (.type n)
 | _=>none
theorem Oe {c:V}{u v:Value}(e:Fm c=some v)(r:Ay c u):u=v:=by cases c<;>simp only [Fm] at e<;>first | (cases e;done) | (cases e;exact r)
theorem Acr:BB X (.builtin "isinstance") (λxs H Q=>∃ x c t v b,xs=[x,c]/\GN X.K H x t/\Fm c=some v/\WW X.K t v=some b/\Q (.bl b) H):=by intro pins s σ H xs J Q I r ⟨x,c,t,v,b,e,ty,hc,hk,q⟩;subst e;obtain ⟨u,w,rfl,B,D⟩:=Bi r.two;cases Oe hc D;exact Acq I B ty hk λL=>⟨.bl b,H,I.tok _,rfl,q⟩
theorem Of:∀{B:List V}{us vs:List Value},B.mapM Fm=some vs->Aw B us->us=vs
 | [],_,vs,e,r=>by cases r;simp at e;exact e.symm
 | c :: B,_,vs,e,r=>by
  cases r with
  | cons H I =>
   simp only [List.mapM_cons,Option.bind_eq_bind,Option.bind_eq_some_iff,Option.pure_def,Option.some.injEq] at e;replace e:=Ao e;obtain ⟨v,hv,J,D,rfl⟩:=e
   rw [Oe hv H,Of D I]
theorem Acs:BB X (.builtin "isinstance") (λxs H Q=>∃ a C p B vs b,xs=[.ref a,.ref p]/\H a=some (GJ a (.ref C))/\Eg X.K C/\H p=some (.tup B)/\B.mapM Fm=some vs/\ZY X.K (.ref C) vs=some b/\Q (.bl b) H):=by intro pins s σ H xs us Q I r ⟨a,C,p,B,vs,b,e,L,O,V,hc,hk,q⟩;subst e;obtain ⟨u,w,rfl,Y,bN⟩:=Bi r.two;cases (show u=TU a from Y);cases (show w=TU p from bN);obtain ⟨p1,_⟩:=(show Be X.prog X.w H s.heap a (GJ a (.ref C)) from I.af a _ L);obtain ⟨_,its,rv,⟨cls,dd,data,sl⟩,e1,D,n,J⟩:=(show Be X.prog X.w H s.heap p (.tup B) from I.af p _ V);simp only at D J;subst D J;cases Of hc rv;exact PySem.W.kia_tup (N7 O) I.aN p1 e1 hk (λz=>nomatch z) λtk=>⟨.bl b,H,I.tok _,rfl,q⟩
theorem GO {e:S7}{J:TE}{pos:Pos}(V:PE X e J):PE X (.FormattedValue e 114 none pos) (λσ H Q=>J σ H λx B=>∃ z,x=.str z/\(YO z).length<=sizeLine/\Q (.str (YO z)) B):=by
 intro pins s σ H Q I h;refine wpAny_FormattedValue_repr (Al (V pins s σ H _ I h) λv s1 Y=>AG Y λx B L r1 D=>?_);replace D:=AD D;obtain ⟨z,rfl,O,q⟩:=D
 obtain ⟨t,rfl⟩:=r1;refine wpAny_pyReprObj_gives (Xv _ _ _) F.slot_str_repr F.entry_str_repr (F.args_str_repr_1 _) (gives_str_repr z t) ?_ rfl O;exact ZZ ⟨.str _,B,L.tok _,⟨_,rfl⟩,q⟩ ⟨.str _,B,L.tok _,⟨_,rfl⟩,q⟩ O
abbrev TJ:=Str->St->Hp->(Str->Hp->Prop)->Prop
def PJ (X:Cx)(es:List S7)(t:TJ):Prop:=∀(acc:Str)(pins:List (Addr×Obj))(s:S0)(σ:St)(H:Hp)(Q:Str->Hp->Prop),Ae X pins σ H s->t acc σ H Q ->
 Joins (S8 X.prog X.w) X.A X.xe (evalEach es X.env) acc (λout s₁=>∃ H',Ae X pins σ H' s₁/\Q out H') s
theorem Fn:PJ X [] (λB _ H Q=>Q B H):=λ_ _ _ _ H _ I h=>⟨H,I,h⟩
theorem Cb {e:S7}{es:List S7}{L:TE}{O:TJ}(V:PE X e L)(hs:PJ X es O)(Y:evalEach (e :: es) X.env=Tf e X.env :: evalEach es X.env:=by rfl) :
  PJ X (e :: es) (λB σ H Q=>L σ H λx D=>∃ y,x=.str y/\(B++y).length<=sizeLine/\O (B++y) σ D Q):=by
 intro B pins s σ H Q I h;rw [Y];refine Al (V pins s σ H _ I h) λv s1 zz=>AG zz λx D I1 r1 J=>?_;replace J:=AD J;obtain ⟨y,rfl,hz,q⟩:=J
 obtain ⟨t,rfl⟩:=r1;exact ⟨y,t,rfl,hz,hs _ pins s1 σ D Q I1 q⟩
theorem Joins.imp {M:VB}{A:Tt}{E:Value->S0->Prop}{Q D:Str->S0->Prop}(hq:∀ x s,Q x s->D x s):∀{l:List (Sem Value)}{B:Str}{s:S0},Joins M A E l B Q s->Joins M A E l B D s
 | [],_,_,h=>hq _ _ h
 | x :: rest,B,s,h=>Al (t:=x) h λv J H=>AG H λy t e I r=>⟨y,t,e,I,Joins.imp hq r⟩
theorem Fo {e J:S7}{es:List S7}{L:TJ}{pos:Pos}(h:PJ X (e :: J :: es) L):PE X (.JoinedStr (e :: J :: es) pos) (λσ H Q=>L Ua σ H λB D=>B.length<=sizeLine/\Q (.str B) D):=by intro pins s σ H Q I hw;refine wpAny_JoinedStr (Joins.imp (λB Y ⟨D,O,V,q⟩=>?_) (h Ua pins s σ H _ I hw));exact ⟨V,.str B,D,O.tok _,⟨_,rfl⟩,q⟩
end
section
variable {P:Ta}{w:S6}{K:S3}{mg:Str->Option Value}{base:Heap}
theorem AJ.bb {x B:Str}{st:Stmt}{f:Addr}{I:Tn}{N ps:List Str}{k:Nat}{sp:Sp}(F:AJ K x B st f I)(S:AO N ps (Ac st))(J:∀ (D:Value) (A:Tt) (outer:List Env) (s:S0) (H:Hp) (vs:List V) (Q:VK) (E:XK),Bn k (A.deeper (Vm B (Ac st) s.heap.objs.size f D))->sp vs H Q E ->
   ∃ t,CW (CK (AH P w) P w K mg base N B (Ac st) f D A outer s H E) (Df st) t/\t { nx:=λ_ L=>Q .aa L,rt:=Q } (start N vs) H)(len:∀ vs H Q E,sp vs H Q E->vs.length=ps.length:=by intro _ _ _ _ h;repeat (first | exact congrArg Wz h.1 | obtain ⟨_,h⟩:=h)):AB P w K mg base (AH P w) (k+1) f I ps sp:=by
 obtain ⟨oc,od,kV,O,pm,an,D,ct,dZ,rfl,lk,Y⟩:=Kc F.ex;exact NO lk Y S len λA outer s H vs Q E hr dy=>J D A outer s H vs Q E hr dy
def B8 (P:Ta)(w:S6)(K:S3)(mg:Str->Option Value)(base:Heap)(CX:BW)(k:Nat)(x:Str)(ps:List Str)(sp:Sp):Prop :=
 ∃ f fd,mg x=some (.ref f)/\Ux K (.ref f)=true/\Dd K fd ps []/\AB P w K mg base CX k f fd ps sp
end
section
variable {X:Cx}{CX:BW}{k:Nat}{x:Str}{ps:List Str}{sp:Sp}{p pos:Pos}{e:S7}{es:List S7}{t:TA}
theorem Acu {E:XK}(D:B8 X.prog X.w X.K X.mg X.base CX k x ps sp)(B:Bn k X.A)(hx:CF CX X E)(H:PA X (e :: es) t)(I:Gl X x:=by rfl)(J:(x == ("__debug__":Str))=false:=by decide)(L:Tj (e :: es) X.env=(false,Tf e X.env) :: Tj es X.env:=by rfl)(O:(TZ pos (Tj es X.env)).any (·.1)=false:=by rfl) :
  PE X (.Call (.Name x p) (e :: es) [] pos) (Ip sp [] E t):=by
 obtain ⟨f,fd,V,Y,h3,h4⟩:=Bi D;exact Abm h4 B I V Y h3 .nil hx H J L O
theorem DJ {P:Ta}{w:S6}:CF (AH P w) X E0:=λ_ _ _ _ _ _ _ h=>by
 obtain ⟨_,_,_,_,_,_,_,_,_,_,_,_,_,z⟩:=Fd h;exact z.elim
end
section
variable {X:Cx}
theorem C5:A7 X (UY .Add) (λx y H Q=>(∃ i j,x=.int i/\y=.int j/\Q (.int (i+j)) H)\/(∃ i j,x=.str i/\y=.str j/\i.length+j.length<=sizeLine/\Q (.str (i++j)) H)\/N2 x y H Q):=AaP.or (Aa2.or AbW)
theorem Cw:A7 X (UY .Mult) (λx y H Q=>(∃ i j,x=.int i/\y=.int j/\GA i j/\Q (.int (i * j)) H)\/Oc x y H Q\/N3 x y H Q):=AaQ.or (Acl.or AbY)
theorem By (hu:X.A.units+64<cLine):A7 X (Ub .Eq) (λx y H Q=>Np x y H Q\/GK X.K false x y H Q):=AaS.or (Ace hu)
theorem EF (hu:X.A.units+64<cLine):A7 X (Ub .NotEq) (λx y H Q=>Kk x y H Q\/GK X.K true x y H Q):=AaT.or (Acf hu)
noncomputable def FV (i j:Str):Bool:=!(Yi j i 0 j.length 1).isEmpty
theorem IA:A7 X (Ub .In) (λx y H Q=>(∃ i j,x=.str i/\y=.str j/\Q (.bl (FV i j)) H)\/GF X.K false x y H Q):=AaV.or AbL
theorem Og:A7 X (Ub .NotIn) (λx y H Q=>(∃ i j,x=.str i/\y=.str j/\Q (.bl (!FV i j)) H)\/GF X.K true x y H Q):=AbN.or AbM
theorem Cy:BB X (.builtin "len") (λxs H Q=>(∃ z,xs=[.str z]/\z.length<=sizeLine/\Q (.int z.length) H)\/∃ p ys,xs=[.ref p]/\(Ba X.K H p ys\/Bh X.K H p ys)/\Q (.int ys.length) H):=AbP.or AbO
theorem Acv:BB X (.builtin "isinstance") (λxs H Q=>(∃ x c t v b,xs=[x,c]/\GN X.K H x t/\Fm c=some v/\WW X.K t v=some b/\Q (.bl b) H) \/
 ∃ a C p B vs b,xs=[.ref a,.ref p]/\H a=some (GJ a (.ref C))/\Eg X.K C/\H p=some (.tup B)/\B.mapM Fm=some vs/\ZY X.K (.ref C) vs=some b/\Q (.bl b) H):=Acr.or Acs
theorem Acw:BB X (.type "int") (λxs H Q=>∃ z n,xs=[.str z]/\Xa z=some n/\z.length<=640/\Q (.int n) H):=Acp
theorem Acx:Ec X (λx lo B H Q=>Ob x lo B H Q\/NX X.K x lo B H Q):=Ack.or AbJ
end
theorem GP {α:Type}{xs:List α}{k:Int}(D:0<=k)(h:k<xs.length):∃ v,Cm xs k=some v/\xs[k.toNat]?=some v:=by
 have B:k.toNat<xs.length:=by omega
 refine ⟨xs[k.toNat],?_,TC B⟩;unfold Cm DW;rw [if_pos D,if_pos h];exact TC B
theorem FW {ns:List Int}{k:Int}(H:0<=k)(h:k<ns.length):Cm (ns.map V.int) k=some (.int (ns.getD k.toNat 0)):=by
 obtain ⟨v,I,B⟩:=Ao (GP (xs:=ns.map V.int) H (by simpa using h));have D:k.toNat<ns.length:=by omega
 rw [Tp,TC D] at B;cases B;rw [I];simp [Uc,TC D]
theorem Ag.upd {H B:Hp}{p:Addr}{o:HO}(s:Ag H B)(h:B p=none):Ag H (upd B p o):=λb I e=>by
 have D:=s b I e;rw [Ap (BK D h)];exact D
theorem Ag.cK {H B:Hp}{p:Addr}{o:HO}(s:Ag H B)(h:H p=none):Ag H (L2.upd B p o):=λb D e=>by
 rw [Ap (BK e h)];exact s b D e
structure Nm (sc:Scope)(x:Str):Prop where
 loc:sc.names.lookup x=some .local
 db:(x == ("__debug__":Str))=false
 cd:(x == ("__classdict__":Str))=false
structure Gm (sc:Scope)(x:Str):Prop where
 gl:sc.names.lookup x=some .globalImplicit
 db:(x == ("__debug__":Str))=false
 nn:x≠"__name__"
theorem Nm.of {sc:Scope}{x:Str}(a:sc.names.lookup x=some .local:=by decide +kernel)(b:(x == ("__debug__":Str))=false:=by decide +kernel)(c:(x == ("__classdict__":Str))=false:=by decide +kernel):Nm sc x:=⟨a,b,c⟩
theorem Gm.of {sc:Scope}{x:Str}(a:sc.names.lookup x=some .globalImplicit:=by decide +kernel)(b:(x == ("__debug__":Str))=false:=by decide +kernel)(c:x≠"__name__":=by decide +kernel):Gm sc x:=⟨a,b,c⟩
theorem AO.of {N P:List Str}{sc:Scope}(a:sc.kind=.function:=by rfl)(b:sc.isCoroutine=false:=by rfl)(c:sc.isGenerator=false:=by rfl)(d:N.Nodup:=by decide +kernel)(e:N.take P.length=P:=by rfl)(f:∀ x∈P,sc.names.lookup x=some .local\/sc.names.lookup x=some .cell:=by decide +kernel)(g:∀ y∈sc.names,y.2≠.free:=by decide +kernel):AO N P sc:=⟨a,b,c,d,e,f,g⟩
theorem Cj:Uo "len"=some (.builtin "len"):=by decide +kernel
theorem Acy:Uo "isinstance"=some (.builtin "isinstance"):=by decide +kernel
theorem Acz:Uo "int"=some (.type "int"):=by decide +kernel
theorem AcA:Uo "bool"=some (.type "bool"):=by decide +kernel
theorem Oh:Uo "str"=some (.type "str"):=by decide +kernel
theorem FX:Uo "list"=some (.type "list"):=by decide +kernel
theorem Kz:Uo "tuple"=some (.type "tuple"):=by decide +kernel
theorem AcB:Uo "set"=some (.type "set"):=by decide +kernel
theorem FY:Uo "sorted"=some (.builtin "sorted"):=by decide +kernel
theorem AcC:Uo "all"=some (.builtin "all"):=by decide +kernel
section
variable {X:Cx}{x:Str}{pos p:Pos}
theorem Aa (i:Nat)(n:Nm X.env.scope x)(B:X.N[i]?=some x:=by rfl):PE X (.Name x pos) (Ia i):=Kd B (Tw n.loc) n.db n.cd
theorem Bo (i:Nat)(nd:X.N.Nodup)(n:Nm X.env.scope x)(B:X.N[i]?=some x:=by rfl):PG X (.Name x pos) (DU i):=Aay nd B (Tw n.loc) (Tg n.loc)
theorem A8 (i:Nat){e:S7}{D:TE}{B:Pos}(nd:X.N.Nodup)(n:Nm X.env.scope x)(H:PE X e D)(I:X.N[i]?=some x:=by rfl)(hs:V6 e (some (.Name x B)) pos.line X.env=pure false:=by rfl) :
  PS X (.Assign [.Name x B] e pos) (FN D (DU i)):=M8 nd I (Tw n.loc) H hs (Tg n.loc)
theorem Fp {v:V}{u:Value}(g:Gm X.env.scope x)(B:X.mg x=some u)(r:Ay v u):PE X (.Name x pos) (tC v):=Aam g.gl B r g.db
theorem AcD {v:V}{u:Value}(g:Gm X.env.scope x)(B:X.mg x=none)(hv:Uo x=some u)(r:Ay v u):PE X (.Name x pos) (tC v):=Aan g.gl B hv r g.nn g.db
variable {e:S7}{es:List S7}{t:TA}{id T:String}{r:List V->Hp->VK->Prop}
theorem BH (hc:BB X (.builtin id) r)(g:Gm X.env.scope x)(B:X.mg x=none)(hv:Uo x=some (.builtin id))(D:PA X (e :: es) t)(H:Tj (e :: es) X.env=(false,Tf e X.env) :: Tj es X.env:=by rfl)(I:(TZ pos (Tj es X.env)).any (·.1)=false:=by rfl):PE X (.Call (.Name x p) (e :: es) [] pos) (Ir r t):=Abs hc g.gl B hv D g.nn g.db H I
theorem C6 (hc:BB X (.type T) r)(g:Gm X.env.scope x)(B:X.mg x=none)(hv:Uo x=some (.type T))(D:PA X (e :: es) t)(H:Tj (e :: es) X.env=(false,Tf e X.env) :: Tj es X.env:=by rfl)(I:(TZ pos (Tj es X.env)).any (·.1)=false:=by rfl):PE X (.Call (.Name x p) (e :: es) [] pos) (Ir r t):=Abt hc g.gl B hv D g.nn g.db H I
theorem B9 {CX:BW}{k:Nat}{ps:List Str}{sp:Sp}{E:XK}(D:B8 X.prog X.w X.K X.mg X.base CX k x ps sp)(g:Gm X.env.scope x)(B:Bn k X.A)(hx:CF CX X E)(H:PA X (e :: es) t)(I:Tj (e :: es) X.env=(false,Tf e X.env) :: Tj es X.env:=by rfl)(J:(TZ pos (Tj es X.env)).any (·.1)=false:=by rfl) :
  PE X (.Call (.Name x p) (e :: es) [] pos) (Ip sp [] E t):=Acu D B hx H g.gl g.db I J
theorem KA {D b:S7}{B:TA}(g:Gm X.env.scope "range")(H:X.mg "range"=none)(I:PA X [b] B)(hs:Tj [b] X.env=[(false,Tf b X.env)]:=by rfl):PI X D (.Call (.Name "range" p) [b] [] pos) (Ng B):=AaK g.gl H I hs
theorem CM {W:St->XK}{C:Addr}{D B:Pos}(H:Kw X W)(g:Gm X.env.scope x)(hc:X.calm=true)(q:UR X.K C [.type "ValueError",.type "Exception",.type "BaseException",.type "object"] "ValueError.__new__"=true)(I:X.mg x=some (.ref C))(J:PA X (e :: es) t)(L:Tj (e :: es) X.env=(false,Tf e X.env) :: Tj es X.env:=by rfl)(O:(TZ B (Tj es X.env)).any (·.1)=false:=by rfl) :
  PS X (.Raise (some (.Call (.Name x D) (e :: es) [] B)) none pos) (N6 W C t):=Ab6 H hc q I J g.gl g.db L O
end
noncomputable def GQ:S7->Option V
 | .Constant (.int i) _ _=>some (.int i)
 | .Constant (.str x) _ _=>some (.str x)
 | .Constant (.bool b) _ _=>some (.bl b)
 | .Constant .none _ _=>some .aa
 | _=>none
noncomputable def KC:List S7->Option (List V)
 | []=>some []
 | e :: es=>match GQ e,KC es with
  | some v,some vs=>some (v :: vs)
  | _,_=>none
section
variable {X:Cx}
theorem AcE {e:S7}{v:V}(h:GQ e=some v):PE X e (tC v):=by unfold GQ at h;split at h<;>first | (cases h;first | exact Az | exact Aq | exact Ew | exact BV) | cases h
theorem AcF {e:S7}{v:V}(h:GQ e=some v)(es:List S7):Tj (e :: es) X.env=(false,Tf e X.env) :: Tj es X.env:=by unfold GQ at h;split at h<;>first | rfl | cases h
theorem KD:∀{es:List S7}{vs:List V},KC es=some vs->PA X es (λ_ H Q=>Q vs H)
 | [],vs,h=>by
  cases h;exact Af
 | e :: es,vs,h=>by
  unfold KC at h;split at h
  .rename_i v vs' h1 h2
   cases h;exact Ab (AcE h1) (KD h2) (AcF h1 es)
  .cases h
end
theorem IC {env:Env}{x:Str}:∀{ns:List (Str×VJ)},(ns.map λ(n,k)=>if (k == VR && env.scope.kind == .function && env.kindOf n == some .cell) then (n,NameKind.cell) else (n,k)).lookup x
   =(ns.lookup x).map λk=>if (k == VR && env.scope.kind == .function && env.kindOf x == some .cell) then NameKind.cell else k
 | []=>rfl
 | (n,k) :: r=>by
  have ih:=@IC env x r;rw [Uz];cases q:x == n with
  | true =>
   have e:x=n:=beq_iff_eq.mp q;subst e;rw [VS,VS,q];by_cases hc:(k == VR && env.scope.kind == .function && env.kindOf x == some .cell)=true
   .simp only [hc,if_true,q,US]
   .simp only [hc,if_false,q,US,WE]
  | false =>
   rw [VS,VS,q];by_cases hc:(k == VR && env.scope.kind == .function && env.kindOf n == some .cell)=true
   .simp only [hc,if_true,q];exact ih
   .simp only [hc,if_false,q,WE];exact ih
theorem ID {sc:Scope}{env:Env}{x:Str}(h:sc.names.lookup x=some .free):(Ve sc env).names.lookup x=some .cell\/(Ve sc env).names.lookup x=some .free:=by
 have e:(Ve sc env).names.lookup x=_:=IC;rw [h] at e;rw [e,US];by_cases hc:(VR == VR && env.scope.kind == .function && env.kindOf x == some .cell)=true
 .rw [if_pos hc];exact .inl rfl
 .rw [if_neg hc];exact .inr rfl
theorem Oi {sc:Scope}{env:Env}{x:Str}{k:VJ}(h:sc.names.lookup x=some k)(hk:(k == VR)=false):(Ve sc env).names.lookup x=some k:=by have e:(Ve sc env).names.lookup x=_:=IC;rw [h,US,hk] at e;exact e
theorem AcG {sc:Scope}{env:Env}{x:Str}(B:∀ y∈sc.names,y.2≠.cell)(h:(Ve sc env).names.lookup x=some .cell\/(Ve sc env).names.lookup x=some .free):sc.names.lookup x=some .free:=by
 have e:(Ve sc env).names.lookup x=_:=IC;cases q:sc.names.lookup x with
 | none=>rw [q] at e;rw [e] at h;rcases h with z | z<;>cases z
 | some k =>
  rw [q,US] at e;cases k with
  | free=>rfl
  | cell=>exact absurd rfl (B _ (Vn q))
  | _=>rw [e] at h;rcases h with z | z<;>cases z
theorem KG {env:Env}:∀(ns:List (Str×VJ))(B:List (Str×Addr)),(∀ y∈ns,y.2=.free->∃ c,env.cells.lookup y.1=some c)->(∀ x c,B.lookup x=some c->env.cells.lookup x=some c) ->
  ∃ D,(forIn ns B λ(x:Str×VJ) (r:List (Str×Addr))=>if (x.2 == .free)=true then do let c <- cellOf env x.1;pure (Xz ((x.1,c) :: r)) else pure (Xz r):Sem (List (Str×Addr)))=pure D /\
   (∀ x c,D.lookup x=some c->env.cells.lookup x=some c)/\(∀ y∈ns,y.2=.free->∃ c,D.lookup y.1=some c)/\∀ x c,B.lookup x=some c->∃ H,D.lookup x=some H
 | [],B,_,J=>⟨B,rfl,J,λy hy=>by simp at hy,λx c e=>⟨c,e⟩⟩
 | (n,k) :: r,B,h1,J=>by
  rw [List.forIn_cons];by_cases hk:k=.free
  .subst hk;obtain ⟨c,hc⟩:=h1 (n,.free) T9 rfl;have hc:env.cells.lookup n=some c:=hc;obtain ⟨D,e,O,V,I⟩:=KG r ((n,c) :: B) (λy hy=>h1 y (T1 _ hy)) (λx H e=>by
    rw [VS] at e;cases q:x == n with
    | true=>rw [q] at e;cases e;rw [beq_iff_eq.mp q];exact hc
    | false=>rw [q] at e;exact J x H e)
   refine ⟨D,?_,O,λy hy L=>?_,λx H e=>?_⟩
   .have:cellOf env n=pure c:=by unfold cellOf;rw [hc]
    simp only [beq_self_eq_true,if_true,this,pure_bind];exact e
   .rcases Tq.mp hy with z | z
    .subst z;exact I n c (by rw [VS,beq_self_eq_true])
    .exact V y z L
   .cases q:x == n with
    | true=>exact I x c (by rw [VS,q])
    | false=>exact I x H (by rw [VS,q];exact e)
  .have hb:(k == VR)=false:=beq_eq_false_iff_ne.mpr hk;obtain ⟨D,e,O,V,I⟩:=KG r B (λy hy=>h1 y (T1 _ hy)) J;refine ⟨D,?_,O,λy hy L=>?_,I⟩
   .simp only [hb,WE,if_false,pure_bind];exact e
   .rcases Tq.mp hy with z | z
    .subst z;exact absurd L hk
    .exact V y z L
theorem KH {env:Env}{sc:Scope}(h:∀ y∈sc.names,y.2=.free->∃ c,env.cells.lookup y.1=some c) :
  ∃ B,closureFor sc env=pure B/\(∀ x c,B.lookup x=some c->env.cells.lookup x=some c)/\∀ y∈sc.names,y.2=.free->∃ c,B.lookup y.1=some c:=by
 obtain ⟨B,e,D,H,_⟩:=KG sc.names [] h (λx c e=>by cases e);refine ⟨B,?_,D,H⟩;unfold closureFor;show (forIn sc.names ([]:List (Str×Addr)) _ >>= λr=>pure r)=_;rw [bind_pure];rw [<- e]
theorem Co {α:Type}{M:VB}{A:Tt}{t:Sem α}{Q B:α->S0->Prop}{E:Value->S0->Prop}{s:S0}(h:S4 M A t Q (λ_ _=>False) s)(hq:∀ a s,Q a s->B a s):S4 M A t B E s:=U4 h hq λ_ _ f=>f.elim
noncomputable def GR (ifs:List S7)(env:Env):Sem Bool:=forIn ifs true λc r=>if r=true then do let ok <- WQ c env (Tf c env);pure (Xz ok) else pure (Xz r)
theorem AcH {prog:Ta}{w:S6}{A:Tt}{R:Wb->S0->Prop}{s:S0}{B O iter:S7}{D:List S7}{sc:Scope}{pos:Pos}{it H:Value}{env:Env}(I:Nat->S0->Prop)(turn:∀ n s,I n s->S4 (S8 prog w) A (U6 it) (λr V=>match r with
   | none=>R (.ok .next) V
   | some v=>S4 (S8 prog w) A (V8 O it v) (λ_ s₂=>S4 (S8 prog w) A (Vb O env v) (λ_ s₃=>S4 (S8 prog w) A (GR D env) (λok Y =>
     if ok=true then S4 (S8 prog w) A (Tf B env) (λx s₅=>S4 (S8 prog w) A (call (.builtin "list.append") [H,x]) (λ_ s₆=>∃ m,m<n/\I m s₆) (λ_ _=>False) s₅) (λ_ _=>False) Y
     else ∃ m,m<n/\I m Y) (λ_ _=>False) s₃) (λ_ _=>False) s₂) (λ_ _=>False) V) (λ_ _=>False) s)(n:Nat)(h:I n s):Uy (S8 prog w) A (.compLoop (.ListComp B [⟨O,iter,D,0⟩] sc pos) 0 it H env) R s:=by
 refine YQ rfl I (λn s hI=>?_) n h;show S4 _ A ((XA (.ListComp B [⟨O,iter,D,0⟩] sc pos) 0 it H env).onRaise _) _ _ s;refine YR ?_;rw [compTurn_list];refine S5 (Vr (S5 (Co (turn n s hI) λr V J=>?_)));match r,J with
 | none,J=>exact Te J
 | some v,J =>
  refine S5 (Co J λ_ s₂ h₂=>S5 (Co h₂ λ_ s₃ h₃=>S5 (Co h₃ λok Y L=>?_)));match ok,L with
  | false,L=>exact Te ⟨rfl,L⟩
  | true,L=>exact S5 (S5 (Co L λx s₅ h₅=>S5 (Co h₅ λ_ s₆ h₆=>Te (Te ⟨rfl,h₆⟩))))
structure Bu (sc dA:Scope)(N' N:List Str)(aB:List (Option Nat)):Prop where
 kind:sc.kind=.function
 jV:∀ y∈sc.names,y.2≠.cell
 one:∀ y∈sc.names,y.2=.local->sc.names.lookup y.1=some .local
 frees:∀ y∈sc.names,y.2=.free->dA.names.lookup y.1=some .cell\/dA.names.lookup y.1=some .free
 nd:N'.Nodup
 len:aB.length=N'.length
 out:∀ i j:Nat,aB[i]?=some (some j)->∃ x,N'[i]?=some x/\N[j]?=some x/\sc.names.lookup x=some .free/\(dA.names.lookup x=some .cell\/dA.names.lookup x=some .free)
noncomputable def Ei (aB:List (Option Nat))(σ:St):St:=aB.map λo=>o.bind λj=>(σ[j]?).join
noncomputable def AS (X:Cx)(N':List Str)(sc:Scope)(cl:List (Str×Addr))(C:Addr)(fp:List Addr)(pins:List (Addr×Obj))(s₂:S0)(H₂:Hp):Cx :=
 { prog:=X.prog,w:=X.w,K:=X.K,mg:=X.mg,base:=X.base,A:=X.A,N:=N',s₀:=s₂,H₀:=H₂,env:=XB sc cl C X.env,outer:=X.stack,stack:=X.stack,ex:=fp,fn:=λ_=>false,calm:=X.calm,pn:=X.pn++pins,xe:=λ_ _=>False }
section
variable {X:Cx}{N':List Str}{sc:Scope}{aB:List (Option Nat)}{cl:List (Str×Addr)}{C:Addr}{fp:List Addr}{pins:List (Addr×Obj)}{s₂:S0}{H₂:Hp}{σ:St}
theorem Ej (S:Bu sc X.env.scope N' X.N aB)(I:Ae X pins σ H₂ s₂)(D:∀ x c,cl.lookup x=some c->X.env.cells.lookup x=some c)(J:∀ y∈sc.names,y.2=.free->∃ c,cl.lookup y.1=some c)(H:s₂.heap.objs.size<=C)(B:∀ b∈fp,CY X pins H₂ b)(L:∀ b∈fp,∃ o,s₂.heap.get? b=some o):(AS X N' sc cl C fp pins s₂ H₂).Ok where
 mod:=I.ok.mod
 kind:=S.kind
 glob:=I.ok.glob
 blt:=I.ok.blt
 above:=H
 inj:=λx y c O V=>I.ok.inj x y c (D x c O) (D y c V)
 has:=λx hx=>J _ (Vn (AcG S.jV hx)) rfl
 gO:=λx c Y=>by cases Y
 hd:=I.ok.hd
 frames:=I.ok.frames
 iw:=.inl rfl
 gP:=λb hb=>by
  obtain ⟨o,ho⟩:=L b hb;exact ⟨TK (TY (Tv ho) H),λx c e=>(B b hb).2.2.2.2.1 x c (D x c e)⟩
 bs:=I.bs
 dR:=Uk I.ok.dR I.sz
 gQ:=λb o e hb=>by
  rcases (B b hb).2.2.2.1 with z | z
  .exact I.ok.gQ b o e z
  .exact absurd (TY (Tv (I.ok.bs b o e).1) z) (UM _)
 eW:=λb hb z=>(Tq.mp (I.cU b z)).elim (B b hb).2.1 (B b hb).2.2.1
 cw:=I.stack
 eX:=I.kQ
theorem AcI {D:Addr}{h₁:Heap}{tk:Nat}{m:Str->Option Value}(S:Bu sc X.env.scope N' X.N aB)(I:Ae X pins σ H₂ s₂)(L:∀ x c,cl.lookup x=some c->X.env.cells.lookup x=some c)(bw:∀ y∈sc.names,y.2=.free->∃ c,cl.lookup y.1=some c)(cb:∀ b∈fp,CY X pins H₂ b)(bx:∀ b∈fp,∃ o,s₂.heap.get? b=some o)(hD:D=s₂.heap.objs.size)(hC:C=s₂.heap.objs.size+1)(hk:∀ b o,(s₂.heap.push { cls:=.type "list",data:=.seq #[] }).get? b=some o->h₁.get? b=some o)(bH:h₁.Ns C m) :
  Ae (AS X N' sc cl C fp pins s₂ H₂) [] (Ei aB σ) (upd H₂ D (.lst [])) { s₂ with heap:=h₁,toks:=tk }:=by
 subst hD;have Y:s₂.heap.objs.size<=C:=by rw [hC];exact UA _
 have ok:=Ej S I L bw Y cb bx;have I3:=I.k8 (ys:=[]) (its:=[]) (t':=tk) .nil (T5 _);have I4:Ae X pins σ (upd H₂ s₂.heap.objs.size (.lst [])) { s₂ with heap:=h₁,toks:=tk }:=I3.kept (t':=tk) hk;have B:∀ b o,s₂.heap.get? b=some o->h₁.get? b=some o:=λb o e=>hk b o (TF _ e);have iG:∀ b o,s₂.heap.get? b=some o->b≠s₂.heap.objs.size:=λb o e=>TK (Tv e);have fj:∀ x c,cl.lookup x=some c->∃ v o,s₂.heap.get? c=some o/\o.data=.cell v:=λx c e=>by
  obtain ⟨v,o,H,hd⟩:=Bl (I.cell x c (L x c e));exact ⟨v,o,H,hd⟩
 refine ⟨ok,rfl,I.bare,Un.laid B (Ti _) I.fresh,⟨m,bH,λi x v e1 e2 e3=>?_⟩,λx c e=>?_,?_,λx c e=>?_,λp hp=>?_,I4.af,?_⟩
 .have J:(aB[i]?).map (λo=>o.bind λj=>(σ[j]?).join)=some (some v):=by
   have:=e2;unfold Ei at this;rwa [Tp] at this
  cases q:aB[i]? with
  | none=>rw [q] at J;cases J
  | some oj =>
   rw [q,US] at J;cases oj with
   | none=>cases J
   | some j =>
    have O:(σ[j]?).join=some v:=by simpa using J
    have e5:σ[j]?=some (some v):=by
     cases z:σ[j]? with
     | none=>rw [z] at O;cases O
     | some w=>rw [z] at O;rw [<- O];rfl
    obtain ⟨x',n1,n2,n3,V⟩:=AD (S.out i j q);have b5:N'[i]?=some x:=e1;rw [n1] at b5;cases b5;obtain ⟨m2,fN,hl⟩:=Ao I.loc;have hv:Gp X.env.scope x:=V.elim (λz=>.inr (.inl z)) λz=>.inr (.inr z);obtain ⟨u,r,l⟩:=Ao (hl j x v n2 e5 hv);refine ⟨u,r,.inr ⟨ID n3,?_⟩⟩;rcases l with ⟨k,_⟩ | ⟨_,c,ec,z⟩
    .have k':X.env.scope.names.lookup x=some .local:=k;rcases V with z | z<;>rw [k'] at z<;>cases z
    .obtain ⟨c',fm⟩:=bw _ (Vn n3) rfl;have:=L x c' fm;rw [ec] at this;cases this;obtain ⟨o,H,hd⟩:=Ao z;exact ⟨c,fm,o,B c o H,hd⟩
 .obtain ⟨v,o,H,hd⟩:=Bl (fj x c e);exact ⟨v,o,B c o H,hd⟩
 .show upd H₂ s₂.heap.objs.size (.lst []) C=none;rw [Ap (by rw [hC];exact Xb _)];exact I.af.fresh Y
 .obtain ⟨v,o,H,hd⟩:=Bl (fj x c e);show upd H₂ s₂.heap.objs.size (.lst []) c=none;rw [Ap (iG c o H)];exact I.cx x c (L x c e)
 .have bO:p∈X.pn++pins:=by simpa [AS] using hp
  obtain ⟨e,n,ne,nf,d⟩:=AQ (I.pin p bO);obtain ⟨_,V,_⟩:=AQ (I4.pin p bO);exact ⟨B _ _ e,V,TK (TY (Tv e) Y),λz=>(Tq.mp (I.cU _ z)).elim ne nf,d⟩
 .show (aB.map _).length=N'.length;rw [Tb];exact S.len
theorem KI {D:Hp}{σ':St}{H:S0}(I:Ae X pins σ H₂ s₂)(B:∀ b∈fp,CY X pins H₂ b)(J:Ae (AS X N' sc cl C fp pins s₂ H₂) [] σ' D H):Ae X pins σ D H :=
 I.oY J.os J.base J.af J.bare λb hb=>⟨(B b hb).2.2.2.1,(B b hb).2.1,(B b hb).2.2.2.2.1,(B b hb).2.2.2.2.2⟩
def Ek (X:Cx)(ifs:List S7)(t:TT):Prop :=
 ∀(pins:List (Addr×Obj))(s:S0)(σ:St)(H:Hp)(Q:Bool->Hp->Prop),Ae X pins σ H s->t σ H Q->S4 (S8 X.prog X.w) X.A (GR ifs X.env) (TP X pins σ Q) X.xe s
def AcJ:TT:=λ_ H Q=>Q true H
theorem EG {X:Cx}:Ek X [] AcJ:=λpins s σ H Q I h=>wpAny_tests_nil ⟨H,I,h⟩
theorem Oj {X:Cx}{c:S7}{t:TT}(h:PT X c t):Ek X [c] t:=λpins s σ H Q I q=>wpAny_tests_one (h pins s σ H Q I q)
def KJ (aB:List (Option Nat))(wi:TI)(g:TG)(tt:TT)(te:TE):TE:=λσ H Q=>wi σ H λJ H1=>∀ D,H1 D=none->∃ W:Nat->Nat->St->Hp->Prop,(∃ m,W 0 m (Ei aB σ) (upd H1 D (.lst [])))/\∀ i m σ' H',W i m σ' H' ->
 (J.stop i H'/\Q (.ref D) H')\/(J.go i H'/\∃ N:St->Hp->Prop,(∀ σ2 H2,N σ2 H2->∃ m',m'<m/\W (i+1) m' σ2 H2)/\∀ x H2,J.bM i H' x H2->g x σ' H2 λσ3 H3=>tt σ3 H3 λb H4 =>
  if b=true then te σ3 H4 λv H5=>∃ ys,H5 D=some (.lst ys)/\ys.length<sizeLine/\N σ3 (upd H5 D (.lst (ys++[v]))) else N σ3 H4)
theorem Ol {elt tg iter:S7}{V:List S7}{sc:Scope}{aB:List (Option Nat)}{N':List Str}{pos:Pos}{wi:TI}{g:TG}{tt:TT}{te:TE}{s:S0}{H:Hp}{use:Option (Value->Sem Unit)}{Qv:Value->S0->Prop}{Q:VK}(hc:X.calm=true)(S:Bu sc X.env.scope N' X.N aB)(hi:PI X tg iter wi)(hg:∀ cl C fp pins s₂ H₂,PG (AS X N' sc cl C fp pins s₂ H₂) tg g)(ht:∀ cl C fp pins s₂ H₂,Ek (AS X N' sc cl C fp pins s₂ H₂) V tt)(he:∀ cl C fp pins s₂ H₂,PE (AS X N' sc cl C fp pins s₂ H₂) elt te)(hs:∀ x,Vs iter X.env x=pure x)(I:Ae X pins σ H s)(h:KJ aB wi g tt te σ H Q)(post:∀ D C B s' m,(∀ h',Ud C s'.heap h'->Ae X pins σ B { s' with heap:=h' })->Ae X pins σ B s'->s'.heap.Ns C m->(∀ x c,X.env.cells.lookup x=some c->c≠C)->X.env.locals≠C->B C=none ->
   (∀ σ' Y h',Ae X pins σ' B Y->Ud C Y.heap h'->Ae X pins σ' B { Y with heap:=h' })->Q (.ref D) B->WH (S8 X.prog X.w) X.A X.xe use Qv (.ref D) C (.ok .next) s') :
  S4 (S8 X.prog X.w) X.A (XC (.ListComp elt [⟨tg,iter,V,0⟩] sc pos) sc X.env (YS [⟨tg,iter,V,0⟩] pos) (newList []) false (Tf iter X.env) use) Qv X.xe s:=by
 obtain ⟨cl,iH,aV,bw⟩:=KH (env:=X.env) (sc:=sc) λy hy hf=>I.ok.has y.1 (S.frees y hy hf);refine YT rfl hs iH S.kind S.one (Al (hi pins s σ H _ I h) λxv s₁ h₁=>Al h₁ λiy s₂ h₂=>?_);obtain ⟨it,fp,tn,J,H₂,e,O,T,fo,f₂,rd⟩:=Fd h₂;subst e;refine VO (YU S.jV (by intro y hy;simp at hy) (λh₁ bH cY=>?_) S.kind);dsimp only at bH cY ⊢;have bx:∀ b∈fp,∃ o,s₂.heap.get? b=some o:=λb hb=>let ⟨o,e,_⟩:=T.obj _ _ fo b hb;⟨o,e⟩;have cy:(s₂.heap.push { cls:=.type "list",dict:=none,data:=.seq ([]:List Value).toArray }).objs.size=s₂.heap.objs.size+1:=Vc ..;have hk:∀ b o,(s₂.heap.push { cls:=.type "list",data:=.seq #[] }).get? b=some o->h₁.get? b=some o:=λb o e=>cY.extBut b o (TK (Tv e)) (TF _ e);have IB:=AcI (tk:=s₂.toks+([]:List (Str×Value)).length) S O aV bw f₂ bx rfl cy hk bH;generalize (s₂.heap.push { cls:=.type "list",dict:=none,data:=.seq ([]:List Value).toArray }).objs.size=C at cy bH cY IB ⊢;generalize hD:s₂.heap.objs.size=D at IB cy ⊢;have aP:s₂.heap.objs.size<=C:=by rw [hD,cy];exact UA _
 obtain ⟨W,⟨m0,w0⟩,turn⟩:=Ao (rd D (by rw [<- hD];exact O.fresh));have cZ:∀{B:Hp},(∀ b∈fp,B b=none)->∀ b∈fp,CY (AS X N' sc cl C fp pins s₂ H₂) [] B b:=λhn b hb=>by
  obtain ⟨z1,z2⟩:=(Ej S O aV bw aP f₂ bx).gP b hb;exact ⟨hn b hb,z1,(Ej S O aV bw aP f₂ bx).eW b hb,.inl hb,z2,λp hp=>(f₂ b hb).2.2.2.2.2 p (by simpa [AS] using hp)⟩
 have iI:∀ b∈fp,(upd H₂ D (.lst [])) b=none:=λb hb=>by
  obtain ⟨o,ho⟩:=bx b hb;rw [Ap (by rw [<- hD];exact TK (Tv ho))];exact (f₂ b hb).1
 have bf:tn 0 h₁:=T.keep _ _ _ fo λb hb o e=>hk b o (TF _ e);have loop:Uy (S8 X.prog X.w) X.A (.compLoop (.ListComp elt [⟨tg,iter,V,0⟩] sc pos) 0 (.ref it) (.ref D) (XB sc cl C X.env)) (WH (S8 X.prog X.w) X.A X.xe use Qv (.ref D) C) { s₂ with heap:=h₁,toks:=s₂.toks+([]:List (Str×Value)).length }:=by
  refine AcH (λn s'=>∃ i σ' B,Ae (AS X N' sc cl C fp pins s₂ H₂) [] σ' B s'/\tn i s'.heap/\(∀ b∈fp,B b=none)/\W i n σ' B) ?_ m0 ⟨0,_,_,IB,bf,iI,w0⟩;rintro n s3 ⟨i,σ3,H3,I3,cW,cX,w3⟩;rcases turn i n σ3 H3 w3 with ⟨stop,qn⟩ | ⟨go,N,hN,UO⟩
  .refine Al (T.done (AS X N' sc cl C fp pins s₂ H₂) rfl rfl rfl hc i [] s3 σ3 H3 _ I3 (cZ cX) cW stop) λr s4 ⟨hr,I4⟩=>?_;subst hr;have JX:=KI O f₂ I4;obtain ⟨m,hn,_⟩:=Ao I4.loc;have cn:∀ x c,X.env.cells.lookup x=some c->c≠C:=λx c e z=>by
    obtain ⟨v,q⟩:=O.cell x c e;exact absurd (TY q.lt (by rw [z];exact aP)) (UM _)
   have gone:∀ σ' Y h',Ae X pins σ' H3 Y->Ud C Y.heap h'->Ae X pins σ' H3 { Y with heap:=h' }:=λσ' Y h' K3 iJ =>
    K3.turned (t':=Y.toks) (it:=C) (λb o hb e=>(iJ.2 b hb).trans e) I4.free (VE (TY O.lt aP)) (.inr (Uk O.sz aP)) cn λp hp z=>by
     exact absurd (TY (Tv (O.pin p hp).1) (by rw [z];exact aP)) (UM _)
   exact post D C H3 s4 m (λh' hs'=>gone σ s4 h' JX hs') JX hn cn (TK (TY O.lt aP)) I4.free gone qn
  .refine Al (T.item (AS X N' sc cl C fp pins s₂ H₂) rfl rfl rfl hc i [] s3 σ3 H3 _ I3 (cZ cX) cW go) λr s4 L=>Cu L λu hr h4=>?_;subst hr;refine Al h4 λ_ s5 L=>AG L λx H5 I5 r5 ⟨y5,b9,fL⟩=>?_;have fM:=I5.pinned (cZ fL) (T.obj _ _ b9);refine Al (hg cl C fp pins s₂ H₂ _ s5 σ3 H5 x u _ fM r5 (UO x H5 y5)) λ_ s6 L=>Gi L λσ6 H6 I6 q6=>?_;refine Al (ht cl C fp pins s₂ H₂ _ s6 σ6 H6 _ I6 q6) λok s7 L=>Cu L λH7 I7 q7=>?_;have again:∀{H8:Hp}{s8:S0},Ae (AS X N' sc cl C fp pins s₂ H₂) ([]++Ff fp s5.heap) σ6 H8 s8->N σ6 H8->∃ m,m<n/\∃ i σ' B,Ae (AS X N' sc cl C fp pins s₂ H₂) [] σ' B s8/\tn i s8.heap/\(∀ b∈fp,B b=none)/\W i m σ' B:=λ{H8 s8} I8 n8=>by
    obtain ⟨m',hm,w8⟩:=Ao (hN σ6 H8 n8);refine ⟨m',hm,i+1,σ6,H8,I8.gT,T.keep _ _ _ b9 λb hb o e=>(I8.pin (b,o) (T3 _ (T3 _ (EB hb e)))).1,λb hb=>?_,w8⟩;obtain ⟨o,e,d⟩:=Ao (T.obj _ _ b9 b hb);exact (I8.pin (b,o) (T3 _ (T3 _ (EB hb e)))).2.1
   cases ok with
   | false=>exact again I7 q7
   | true =>
    refine Al (he cl C fp pins s₂ H₂ _ s7 σ6 H7 _ I7 q7) λy s8 L=>AG L λv H8 I8 r8 q8=>?_;obtain ⟨ys,hy,hz,n8⟩:=AD q8;refine Al (Dp _ s8 σ6 H8 (.ref D) [v] (.ref D) [y] (λ_ H9=>N σ6 H9) I8 rfl (.cons r8 .nil) ⟨D,ys,v,rfl,rfl,hy,hz,n8⟩) λ_ s9 L=>AG L λ_ H9 I9 _ q9=>?_;exact again I9 q9
 exact codeAny_compStart_list loop (T.self _ 0 _ _ _ bf loop)
theorem FZ {B O iter:S7}{L:List S7}{sc:Scope}{aB:List (Option Nat)}{N':List Str}{pos:Pos}{Y:TI}{g:TG}{tt:TT}{te:TE}(hc:X.calm=true)(S:Bu sc X.env.scope N' X.N aB)(hi:PI X O iter Y)(hg:∀ cl C fp pins s₂ H₂,PG (AS X N' sc cl C fp pins s₂ H₂) O g)(ht:∀ cl C fp pins s₂ H₂,Ek (AS X N' sc cl C fp pins s₂ H₂) L tt)(he:∀ cl C fp pins s₂ H₂,PE (AS X N' sc cl C fp pins s₂ H₂) B te)(hs:∀ x,Vs iter X.env x=pure x:=by intro _;rfl):PE X (.ListComp B [⟨O,iter,L,0⟩] sc pos) (KJ aB Y g tt te):=by intro pins s σ H Q I h;rw [eval_ListComp];refine Ol (use:=none) (Q:=Q) hc S hi hg ht he hs I h λD C H' s' m g1 J hn cn ln fr g2 q=>?_;exact ⟨m,hn,λh' V=>⟨.ref D,H',g1 h' V,rfl,q⟩⟩
theorem AcK {O Y iter:S7}{V:List S7}{sc:Scope}{aB:List (Option Nat)}{N':List Str}{pos pC B:Pos}{wi:TI}{g:TG}{tt:TT}{te:TE}{j:Nat}{y:Str}(hc:X.calm=true)(nd:X.N.Nodup)(hj:X.N[j]?=some y)(hy:Gq X.env.scope y)(S:Bu sc X.env.scope N' X.N aB)(hi:PI X Y iter wi)(hg:∀ cl C fp pins s₂ H₂,PG (AS X N' sc cl C fp pins s₂ H₂) Y g)(ht:∀ cl C fp pins s₂ H₂,Ek (AS X N' sc cl C fp pins s₂ H₂) V tt)(he:∀ cl C fp pins s₂ H₂,PE (AS X N' sc cl C fp pins s₂ H₂) O te)(hsw:V6 (.ListComp O [⟨Y,iter,V,0⟩] sc pos) (some (.Name y B)) pC.line X.env=pure true)(hs:∀ x,Vs iter X.env x=pure x:=by intro _;rfl)(hf:X.fn y=true\/X.env.scope.names.lookup y=some .local:=by first | exact .inl rfl | exact .inr rfl | assumption) :
  PS X (.Assign [.Name y B] (.ListComp O [⟨Y,iter,V,0⟩] sc pos) pC) (FN (KJ aB wi g tt te) (DU j)):=by
 intro pins s σ H D I h;rw [exec_Assign_Name_used _ _ _ _ hsw];refine S5 (Vr (S5 ?_));show S4 _ X.A (do let _ <- XC (.ListComp O [⟨Y,iter,V,0⟩] sc pos) sc X.env _ (newList []) false (Tf iter X.env) (some (Vb (.Name y B) X.env))) _ _ s;refine S5 (Al (Ol (use:=some (Vb (.Name y B) X.env)) (Qv:=λ_ s'=>SP X pins D .next s') hc S hi hg ht he hs I h λL C H' s' m g1 J hn cn ln fr g2 q=>?_) λ_ s' hq=>Te (Te hq));show S4 _ X.A (Vb (.Name y B) X.env (.ref L)) _ _ _;refine Zv (M3 J nd hj hy (v:=.ref L) rfl (λaO K aaA=>?_) hf);obtain ⟨a,hsm,ha⟩:=Ao aaA;have lu:C≠a:=by
  rcases ha with z | z
  .rw [z];exact Tu ln
  .exact Tu (cn y a z)
 exact ⟨m,hn.sameBut hsm lu,λh' hs'=>⟨_,H',g2 _ aO h' K hs',q⟩⟩
end
section
variable {X:Cx}{pins:List (Addr×Obj)}{σ:St}{H:Hp}{s:S0}{h':Heap}
theorem Ae.pF {t':Nat}{ch:List Addr}{T:Addr}{xs:List V}{us:List Value}(I:Ae X pins σ H s)(B:∀ b∈ch,CY X pins H b)(k:∀ b o,b ∉ ch->s.heap.get? b=some o->h'.get? b=some o)(J:s.heap.objs.size<=T)(O:∀ b∈ch,∃ o,s.heap.get? b=some o)(Y:h'.get? T=some { cls:=.type "tuple",data:=.seq us.toArray })(hv:Aw xs us)(hz:xs.length<=sizeLine):Ae X pins σ (upd H T (.tup xs)) { s with heap:=h',toks:=t' }:=by
 have hn:=I.af.fresh J;have neT:∀ b o,s.heap.get? b=some o->b≠T:=λb o e=>TK (TY (Tv e) J);have L:∀ b u,H b=some u->b ∉ ch:=λb u e z=>by rw [(B b z).1] at e;cases e
 have D:∀ b u,H b=some u->upd H T (.tup xs) b=some u:=λb u e=>by rw [Ap (λz=>by rw [z,hn] at e;cases e)];exact e
 refine I.step (g':=s.gens) (d':=s.drawn) (ch:=ch) (λb hb=>⟨(B b hb).2.2.2.1,(B b hb).2.1,(B b hb).2.2.2.2.1,(B b hb).2.2.2.2.2⟩) (λb o _ _ hc e _=>k b o hc e) (λb o _ _ hc e _=>⟨o.slots,k b o hc e⟩)
  (λb o _ e n=>by rw [Ap (neT b o e)];exact n) (λb o hc e=>⟨o,k b o hc e⟩) (λb ys e=>D b _ e) (λb o u e=>D b _ e) (λb ps e=>⟨#[],by rw [D b _ e];simp⟩) (λm hm=>?_) (λb u e=>?_) I.bare
 .obtain ⟨o,es,ep,ho,r⟩:=CU hm;exact ⟨o,es,ep,k _ o (λz=>(B _ z).2.1 rfl) ho,r⟩
 .by_cases hb:b=T
  .subst hb;rw [Ai] at e;cases e;exact ⟨hz,us,hv,_,Y,rfl,_,rfl⟩
  .rw [Ap hb] at e;refine (I.af b u e).du (λc v hc q=>k c v ?_ q) (λc q=>D c _ q) λc ys q=>D c _ q;rcases hc with z | z
   .rw [z];exact L b u e
   .exact L c _ z
noncomputable def EH (K:S3)(a:Addr):It :=
 ⟨λi H=>∃ xs x,Ba K H a xs/\xs[i]?=some x,λi H x H'=>∃ t y,x=.ref t/\H t=none/\H'=upd H t (.tup [.int i,y])/\∀ xs,Ba K H a xs->xs[i]?=some y,λi H=>∃ xs,Ba K H a xs/\xs.length<=i⟩
theorem AcL {P:Ta}{w:S6}{K:S3}{L:List S7}{kk:Nat}{pos:Pos}(a e it:Addr)(iK:e≠it):Ez P w K (.Tuple L kk pos) (EH K a) [e,it] e (λi h=>(∃ B,U8 h e it i B)/\h.IsListIter it a i) where
 mem:=by simp
 obj:=λi h st b hb=>by
  obtain ⟨⟨B,D⟩,⟨o,V,c,d⟩⟩:=st;rcases Tq.mp hb with z | z
  .subst z;exact ⟨_,D,λv z=>by cases z⟩
  .have z:b=it:=by simpa using z
   subst z;exact ⟨o,V,λv z=>by rw [d] at z;cases z⟩
 keep:=λi h h' st k=>by
  obtain ⟨⟨B,D⟩,hi⟩:=st;exact ⟨⟨B,k e (by simp) _ D⟩,hi.at λo q=>k it (by simp) o q⟩
 item:=by
  intro X Y hw hK hc i pins s σ H E I O st hg;subst Y hw hK;obtain ⟨xs,x,hq,hx⟩:=Bl hg;obtain ⟨its,rv,p,hz⟩:=AD (I.list hq);obtain ⟨u,hu,ru⟩:=Ao (rv.get hx);obtain ⟨⟨B,D⟩,J⟩:=st;refine wpAny_pyNext_enum_item D J p.isList (x:=u) (by simpa using hu) iK λh' V lA hT hsz hk=>⟨_,rfl,?_⟩;have I1:Ae X pins σ (upd H s.heap.objs.size (.tup [.int i,x])) { s with heap:=h',toks:=s.toks+1 } :=
   I.pF (ch:=[e,it]) (us:=[.int i s.toks,u]) O (λb o hb q=>hk b o (λz=>hb (by simp [z])) (λz=>hb (by simp [z])) q) (Ti _)
    (λb hb=>by
     rcases Tq.mp hb with z | z
     .subst z;exact ⟨_,D⟩
     .have z:b=it:=by simpa using z
      subst z;obtain ⟨o,q,_⟩:=Ao J;exact ⟨o,q⟩) hT (.cons ⟨_,rfl⟩ (.cons ru .nil)) Av
  have fr:∀ b∈[e,it],(upd H s.heap.objs.size (.tup [.int i,x])) b=none:=λb hb=>by
   have au:b<s.heap.objs.size:=by
    rcases Tq.mp hb with z | z
    .subst z;exact Tv D
    .have z:b=it:=by simpa using z
     subst z;obtain ⟨o,q,_⟩:=Ao J;exact Tv q
   rw [Ap (TK au)];exact (O b hb).1
  refine Z0 V λh2 lB b4=>?_;obtain ⟨f0,f1,f2,f3,f4,f5⟩:=AQ (O e (by simp));have I2:Ae X pins σ (upd H s.heap.objs.size (.tup [.int i,x])) { s with heap:=h2,toks:=s.toks+1 }:=I1.turned (t':=s.toks+1) (λb o hb q=>(b4.2 b hb).trans q) (fr e (by simp)) f1 f3 f4 f5;refine ⟨.ref s.heap.objs.size,_,I2,rfl,⟨_,x,rfl,I.fresh,rfl,λys hy=>by rw [I.o3 hy hq];exact hx⟩,⟨⟨u,lB⟩,?_⟩,fr⟩;exact lA.at λo q=>(b4.2 it iK.symm).trans q
 done:=by intro X Y hw hK hc i pins s σ H E I O st hg;subst Y hw hK;obtain ⟨xs,hq,hx⟩:=Ao hg;obtain ⟨its,rv,p,hz⟩:=AD (I.list hq);obtain ⟨⟨B,D⟩,J⟩:=st;obtain ⟨f0,f1,f2,f3,f4,f5⟩:=AQ (O it (by simp));have hl:=rv.length;exact wpAny_pyNext_enum_end (I.ok.hd hc) D J p.isList (by simp;omega) λh' eb=>⟨rfl,I.turned (t':=s.toks) (λb o hb q=>eb b o hb q) f0 f1 f3 f4 f5⟩
 self:=λ_ _ _ _ _ st h=>by
  obtain ⟨⟨B,D⟩,_⟩:=st;exact XD D h
theorem Om:Uo "enumerate"=some (.type "enumerate"):=by decide +kernel
def AcM (K:S3)(ta:TA):TI:=λσ H R=>ta σ H λvs H1=>∃ a xs,vs=[.ref a]/\Ba K H1 a xs/\R (EH K a) H1
theorem Oo {x:S7}{O:TA}{p pos tp:Pos}{J:List S7}{kk:Nat}(g:Gm X.env.scope "enumerate")(hm:X.mg "enumerate"=none)(ha:PA X [x] O)(hs:Tj [x] X.env=[(false,Tf x X.env)]:=by rfl) :
  PI X (.Tuple J kk tp) (.Call (.Name "enumerate" p) [x] [] pos) (AcM X.K O):=by
 intro pins s σ H R I h;refine Call_ (Fe I g.gl hm Om (WT (Al (ha pos pins s σ H _ I h) λus B zz=>AG zz λvs V D r1 q1=>?_) hs rfl));obtain ⟨a,xs,e,hq,q⟩:=Bi q1;subst e;cases r1 with
 | cons r rr =>
  cases rr;cases r;obtain ⟨its,rv,pl,hz⟩:=AD (D.list hq);refine call_enumerate_list pl.isList λh' Y L hsz hk=>?_;refine XD Y ?_;have lC:V (B.heap.objs.size+1)=none:=D.af.fresh (UA _);refine ⟨B.heap.objs.size+1,[B.heap.objs.size+1,B.heap.objs.size],_,_,V,rfl,D.kept (t':=B.toks) hk,AcL a _ _ (Xb _),⟨⟨_,Y⟩,L⟩,λb hb=>?_,q⟩;rcases Tq.mp hb with z | z
  .subst z;exact D.dW (UA _) lC
  .have z:b=B.heap.objs.size:=by simpa using z
   subst z;exact D.dW (Ti _) D.fresh
end
noncomputable def BR (lo hi:Int):List Int:=(Ur (hi - lo).toNat).map λ(k:Nat)=>lo+(k:Int)
theorem KL (lo B:Int):(BR lo B).length=(B - lo).toNat:=by unfold BR;rw [Tb,Vd]
section
variable {X:Cx}
def Sm (i:Int):Prop:=-(2 ^ 62)<=i/\i<2 ^ 62
theorem Oq {pins:List (Addr×Obj)}{σ:St}{H:Hp}{s:S0}{lo B:Int}{t u v:Tok}{tk:Nat}(I:Ae X pins σ H s) :
  Ae X pins σ (upd H s.heap.objs.size (.cJ lo B)) { s with heap:=s.heap.push { cls:=.type "range",data:=.fields #[.int lo t,.int B u,.int 1 v] },toks:=tk } :=
 I.laid (λ_ _ q=>TF _ q) (Ti _) (show Be X.prog X.w _ _ _ (.cJ lo B) from ⟨t,u,v,Uq _ rfl⟩)
theorem Ot:BB X (.type "range") (λxs H Q=>(∃ j:Int,xs=[.int j]/\Sm j/\∀ p,H p=none->Q (.ref p) (upd H p (.cJ 0 j)))\/∃ i j:Int,xs=[.int i,.int j]/\Sm i/\Sm j/\∀ p,H p=none->Q (.ref p) (upd H p (.cJ i j))):=by
 intro pins s σ H xs D Q I r h;rcases h with ⟨j,rfl,B,q⟩ | ⟨i,j,rfl,J,B,q⟩
 .obtain ⟨u,rfl,t,rfl⟩:=Ao (CJ r);exact call_range_1 ⟨.ref s.heap.objs.size,_,Oq I,rfl,q _ I.fresh⟩
 .obtain ⟨u,L,rfl,⟨t,rfl⟩,⟨O,rfl⟩⟩:=Bi (Ny r);exact call_range_2 ⟨.ref s.heap.objs.size,_,Oq I,rfl,q _ I.fresh⟩
theorem AcN {lo O:Int}{B:Array Value}(h:ItemsOf (λ(i:Nat) (v:Value)=>∃ t,v=.int (lo+(i:Int) * 1) t) B (O - lo).toNat):Aw ((BR lo O).map V.int) B.toList:=by
 obtain ⟨hs,bp⟩:=h;have I:∀(D:List Value)(n k:Nat),D.length=n->(∀ j v,D[j]?=some v->∃ t,v=Uw (lo+((k+j:Nat):Int)) t)->Aw (((List.range' k n).map λ(k:Nat)=>lo+(k:Int)).map V.int) D:=by
  intro D;induction D with
  | nil=>intro n k H _;subst H;exact .nil
  | cons u D ih =>
   intro n k H Y;obtain ⟨J,rfl⟩:∃ J,n=J+1:=⟨D.length,by rw [<- H];rfl⟩;rw [List.range'_succ,Uz,Uz];obtain ⟨t,e⟩:=Y 0 u rfl;refine .cons ⟨t,by simpa using e⟩ (ih J (k+1) (by simpa using H) λj v L=>?_);obtain ⟨t,e⟩:=Y (j+1) v (by simpa using L);exact ⟨t,by rw [e];congr 1;omega⟩
 unfold BR;rw [List.range_eq_range'];refine I B.toList _ 0 (by rw [UE];exact hs) λj v L=>?_;obtain ⟨t,e⟩:=bp j v (by simpa using L);exact ⟨t,by rw [e];simp⟩
theorem AcO (hc:X.calm=true):BB X (.type "list") (λxs H Q=>∃ p lo B,xs=[.ref p]/\H p=some (.cJ lo B)/\Sm lo/\Sm B/\(B - lo).toNat<=sizeLine/\∀ l,H l=none->Q (.ref l) (upd H l (.lst ((BR lo B).map V.int)))):=by
 intro pins s σ H xs us Q I r h;replace h:=FK h;obtain ⟨p,lo,B,rfl,O,⟨Y,l2⟩,⟨l3,l4⟩,L,q⟩:=h
 obtain ⟨u,rfl,rx⟩:=Ao (CJ r);cases rx;obtain ⟨t,u,v,e⟩:=I.af p _ O;have D:(B - lo).toNat<=2 ^ 24:=L;refine call_list_range (n:=(B - lo).toNat) (I.ok.hd hc) e (small_one Y l2 l3 l4) (by rw [rangeSize_one];split<;>omega) D λh' tk J c hk hl ha=>?_;refine ⟨.ref s.heap.objs.size,_,I.laid (t':=tk) hk (Ti _) (show Be X.prog X.w _ h' _ (.lst ((BR lo B).map V.int)) from ⟨?_,J.toList,c,AcN ha,by simpa using hl⟩),rfl,q _ I.fresh⟩;rw [Tb,KL];exact L
theorem GS (hc:X.calm=true):BB X (.type "list") (λxs H Q=>(∃ p ys,xs=[.ref p]/\(Ba X.K H p ys\/Bh X.K H p ys)/\∀ l,H l=none->Q (.ref l) (upd H l (.lst ys))) \/
  ∃ p lo B,xs=[.ref p]/\H p=some (.cJ lo B)/\Sm lo/\Sm B/\(B - lo).toNat<=sizeLine/\∀ l,H l=none->Q (.ref l) (upd H l (.lst ((BR lo B).map V.int)))):=AbQ.or (AcO hc)
theorem Ou:Uo "range"=some (.type "range"):=by decide +kernel
theorem KN {α:Type} [BEq α] [LawfulBEq α] {f:α->V}:∀{ns:List α}{us:List Value}{n:α},Aw (ns.map f) us->Aw ((ns.erase n).map f) (us.eraseIdx (ns.idxOf n))
 | [],[],_,_=>.nil
 | a :: ns,u :: us,n,.cons r t=>by
  rw [List.erase_cons,Z1];cases q:a == n with
  | true=>simpa using t
  | false=>simpa using Paired.cons r (KN t)
def AcP (X:Cx):V->List V->Hp->VK->Prop:=λx vs H Q=>(∃(l:Addr)(ns:List Int)(n:Int),x=.ref l/\vs=[.int n]/\H l=some (.lst (ns.map V.int))/\n∈ns/\Q .aa (upd H l (.lst ((ns.erase n).map V.int)))) \/
 ∃(l:Addr)(ns:List Str)(n:Str),x=.ref l/\vs=[.str n]/\H l=some (.lst (ns.map V.str))/\n∈ns/\Q .aa (upd H l (.lst ((ns.erase n).map V.str)))
theorem KO {α:Type} [BEq α] [LawfulBEq α]:∀{ns:List α}{n a:α}{m:Nat},m<ns.idxOf n->ns[m]?=some a->(a == n)=false
 | [],_,_,_,_,e=>by simp at e
 | b :: ns,n,a,m,h,e=>by
  rw [Z1] at h;cases q:b == n with
  | true=>rw [q] at h;simp at h
  | false =>
   rw [q] at h;cases m with
   | zero=>simp at e;rw [<- e];exact q
   | succ m=>exact KO (ns:=ns) (m:=m) (by simpa using h) (by simpa using e)
theorem KP {α:Type} [BEq α] [LawfulBEq α] {ns:List α} {n:α} (h:n∈ns):ns[ns.idxOf n]?=some n:=by have B:=YV h;rw [TC B,List.getElem_idxOf B]
theorem KQ {ns:List Int}{us:List Value}(r:Aw (ns.map V.int) us)(j:Nat)(h:j<us.length):∃ a t,ns[j]?=some a/\us[j]=.int a t:=by have B:=r.length;rw [Tb] at B;obtain ⟨u,hu,⟨t,rfl⟩⟩:=r.get (i:=j) (x:=.int (ns[j]'(by omega))) (by rw [Tp,TC (by omega)];rfl);rw [TC h] at hu;exact ⟨_,t,TC (by omega),Ts hu⟩
theorem KR {ns:List Str}{us:List Value}(r:Aw (ns.map V.str) us)(j:Nat)(h:j<us.length):∃ a t,ns[j]?=some a/\us[j]=.str a t:=by have B:=r.length;rw [Tb] at B;obtain ⟨u,hu,⟨t,rfl⟩⟩:=r.get (i:=j) (x:=.str (ns[j]'(by omega))) (by rw [Tp,TC (by omega)];rfl);rw [TC h] at hu;exact ⟨_,t,TC (by omega),Ts hu⟩
noncomputable def KS (n:Int):Value->Bool
 | .int a _=>a == n
 | _=>false
noncomputable def KU (n:Str):Value->Bool
 | .str a _=>a == n
 | _=>false
theorem AcQ:Ku X "list.remove" (AcP X):=by
 intro pins s σ H x vs v us Q I rx rv h;rcases h with ⟨l,B,n,rfl,rfl,L,O,q⟩ | ⟨l,B,n,rfl,rfl,L,O,q⟩
 .cases rx;obtain ⟨u,rfl,t,rfl⟩:=Ao rv.one;obtain ⟨z,its,c,r,V,e⟩:=I.fQ L;rw [Tb] at V;have hj:B.idxOf n<B.length:=YV O;refine WC Z2 ⟨_,e,rfl⟩ Z3 (Z4 _ _)
   (Z5 l its.toArray c (.int n t) (KS n) (λy hy=>?_) (B.idxOf n) (by rw [TR];omega) ?_ (λm Y au=>?_) (by rw [TR,<- V];simpa using z)) ⟨e,?_⟩
  .obtain ⟨k,hk,rfl⟩:=U1 (by simpa using hy:y∈its);obtain ⟨a,t',_,D⟩:=Bl (KQ r k hk);rw [D];exact MeetsSeq.EqGives.int _ _ _ _
  .obtain ⟨a,t',J,D⟩:=Bl (KQ r (B.idxOf n) (by omega));rw [KP O] at J;cases J;show KS n its[B.idxOf n]=true;rw [D];exact beq_self_eq_true n
  .obtain ⟨a,t',J,D⟩:=Bl (KQ r m (by simpa using Y));show KS n (its[m]'(by simpa using Y))=false;rw [D];exact KO au J
  .refine ⟨.aa,_,I.jR (its':=its.eraseIdx (B.idxOf n)) L e (by simp [YH]) (KN r) ?_,rfl,q⟩;have:=YW (a:=n) (l:=B);rw [Tb] at z ⊢;omega
 .cases rx;obtain ⟨u,rfl,t,rfl⟩:=Ao rv.one;obtain ⟨z,its,c,r,V,e⟩:=I.fQ L;rw [Tb] at V;have hj:B.idxOf n<B.length:=YV O;refine WC Z2 ⟨_,e,rfl⟩ Z3 (Z4 _ _)
   (Z5 l its.toArray c (.str n t) (KU n) (λy hy=>?_) (B.idxOf n) (by rw [TR];omega) ?_ (λm Y au=>?_) (by rw [TR,<- V];simpa using z)) ⟨e,?_⟩
  .obtain ⟨k,hk,rfl⟩:=U1 (by simpa using hy:y∈its);obtain ⟨a,t',_,D⟩:=Bl (KR r k hk);rw [D];exact eqGives_str _ _ _ _
  .obtain ⟨a,t',J,D⟩:=Bl (KR r (B.idxOf n) (by omega));rw [KP O] at J;cases J;show KU n its[B.idxOf n]=true;rw [D];exact beq_self_eq_true n
  .obtain ⟨a,t',J,D⟩:=Bl (KR r m (by simpa using Y));show KU n (its[m]'(by simpa using Y))=false;rw [D];exact KO au J
  .refine ⟨.aa,_,I.jR (its':=its.eraseIdx (B.idxOf n)) L e (by simp [YH]) (KN r) ?_,rfl,q⟩;have:=YW (a:=n) (l:=B);rw [Tb] at z ⊢;omega
end
def AK (P:Ta)(w:S6)(K:S3)(mg:Str->Option Value)(base:Heap)(CX:BW)(k:Nat)(C:Addr)(m:Str)(ps:List Str)(sp:Sp):Prop :=
 ∃ f fd,Im K C m f/\Dd K fd ps []/\AB P w K mg base CX k f fd ps sp
def EI (P:Ta)(w:S6)(K:S3)(mg:Str->Option Value)(base:Heap)(CX:BW)(k:Nat)(C:Addr)(x:Str)(ps:List Str)(sp:Sp):Prop :=
 ∃ f fd,mg x=some (.ref C)/\Mk K C f/\Dd K fd ps []/\AB P w K mg base CX k f fd ps sp
section
variable {X:Cx}{CX:BW}{k:Nat}{C:Addr}{ps:List Str}{sp:Sp}{E:XK}{x m:Str}{p pos apos:Pos}{e o:S7}{es:List S7}{ta:TE}{t:TA}{W:St->XK}
theorem AX {pl:Sem Bool}(D:AK X.prog X.w X.K X.mg X.base CX k C m ps sp)(c:Cg X.K C)(I:PE X o ta)(J:Bn k X.A)(hx:CF CX X E)(L:PA X (e :: es) t)(O:Tj (e :: es) X.env=(false,Tf e X.env) :: Tj es X.env:=by rfl)(V:(TZ pos (Tj es X.env)).any (·.1)=false:=by rfl)(Y:Tf (.Call (.Attribute o m apos) (e :: es) [] pos) X.env=(Tf o X.env >>= λB=>UW apos.atName >>= λ_=>UN [B] (Vu B m pl) >>= λH=>We pos H.1 H.2 (TZ pos (Tj (e :: es) X.env)) (Vk pos (Vl [] X.env))):=by rfl) :
  PE X (.Call (.Attribute o m apos) (e :: es) [] pos) (Iq C m sp [] E ta t):=by
 obtain ⟨f,fd,hm,hb,F⟩:=Bi D;exact Abn (pl:=pl) I c hm F J hb .nil hx L O V Y
theorem GU {pl:Sem Bool}(D:AK X.prog X.w X.K X.mg X.base CX k C m ps sp)(c:Cg X.K C)(I:PE X o ta)(J:Bn k X.A)(hx:CF CX X E)(L:Tf (.Call (.Attribute o m apos) [] [] pos) X.env=(Tf o X.env >>= λB=>UW apos.atName >>= λ_=>UN [B] (Vu B m pl) >>= λH=>We pos H.1 H.2 (TZ pos (Tj [] X.env)) (Vk pos (Vl [] X.env))):=by rfl) :
  PE X (.Call (.Attribute o m apos) [] [] pos) (Iq C m sp [] E ta BN):=by
 obtain ⟨f,V,O,hb,F⟩:=Bi D;exact Abo (pl:=pl) I c O F J hb .nil hx L
theorem GV (D:EI X.prog X.w X.K X.mg X.base CX k C x ps sp)(g:Gm X.env.scope x)(B:Bn (k+1) X.A)(hx:CF CX X E)(H:PA X (e :: es) t)(I:Tj (e :: es) X.env=(false,Tf e X.env) :: Tj es X.env:=by rfl)(J:(TZ pos (Tj es X.env)).any (·.1)=false:=by rfl) :
  PE X (.Call (.Name x p) (e :: es) [] pos) (NH C sp [] E t):=by
 obtain ⟨f,O,L,M,hb,F⟩:=Bi D;exact Abq M F B g.gl L hb .nil hx H g.db I J
end
structure IE (sc:Scope)(x:Str):Prop where
 loc:sc.names.lookup x=some .cell
 db:(x == ("__debug__":Str))=false
 cd:(x == ("__classdict__":Str))=false
structure Ov (sc:Scope)(x:Str):Prop where
 loc:sc.names.lookup x=some .cell\/sc.names.lookup x=some .free
 db:(x == ("__debug__":Str))=false
 cd:(x == ("__classdict__":Str))=false
section
variable {X:Cx}{x:Str}{pos p:Pos}
theorem pvC (i:Nat)(n:IE X.env.scope x)(B:X.N[i]?=some x:=by rfl):PE X (.Name x pos) (Ia i):=Kd B (Tg (Tw n.loc)) n.db n.cd
theorem Ow (i:Nat)(n:Ov X.env.scope x)(B:X.N[i]?=some x:=by rfl):PE X (.Name x pos) (Ia i):=Kd B (Tg n.loc) n.db n.cd
theorem Ox (i:Nat){e:S7}{D:TE}{B:Pos}(nd:X.N.Nodup)(n:IE X.env.scope x)(H:PE X e D)(I:X.fn x=true:=by rfl)(J:X.N[i]?=some x:=by rfl)(hs:V6 e (some (.Name x B)) pos.line X.env=pure false:=by rfl) :
  PS X (.Assign [.Name x B] e pos) (FN D (DU i)):=M8 nd J (Tg n.loc) H hs (Tw I)
theorem Nm.comp {sc:Scope}{env:Env}(n:Nm sc x):Nm (Ve sc env) x:=⟨Oi n.loc rfl,n.db,n.cd⟩
theorem Gm.comp {sc:Scope}{env:Env}(n:Gm sc x):Gm (Ve sc env) x:=⟨Oi n.gl rfl,n.db,n.nn⟩
structure IF (sc:Scope)(x:Str):Prop where
 loc:sc.names.lookup x=some .free
 db:(x == ("__debug__":Str))=false
 cd:(x == ("__classdict__":Str))=false
theorem IF.comp {sc:Scope}{env:Env}(n:IF sc x):Ov (Ve sc env) x:=⟨ID n.loc,n.db,n.cd⟩
end
section
variable {X:Cx}
theorem Oy:M9 X (λo i H Q=>∃ p xs k v,o=.ref p/\i=.int k/\0<=k/\Ba X.K H p xs/\Cm xs k=some v/\Q v H):=by
 intro pins s σ H o i ov iv Q I J L h;replace h:=HW h;obtain ⟨p,xs,k,z,rfl,rfl,B,hq,O,q⟩:=h
 cases J;obtain ⟨t,rfl⟩:=L;obtain ⟨its,r,pl,hz⟩:=AD (I.list hq);obtain ⟨j,D,V,h3,h4,Y⟩:=AD (Iu O);obtain ⟨w,ew,bN⟩:=Ao (r.get V);have hn:=ED;have hj:k.toNat=j:=by rw [Xt B Y] at D;exact Ts D
 exact wpAny_getItem_list pl.isList B (by omega) (by rw [hj];simpa using ew) ⟨z,H,I,bN,q⟩
theorem AcR:BB X (.type "int") (λxs H Q=>(∃ k,xs=[.bl k]/\Q (.int (if k then 1 else 0)) H)\/(∃ i,xs=[.int i]/\Q (.int i) H)\/∃ z n,xs=[.str z]/\Xa z=some n/\z.length<=640/\Q (.int n) H):=by
 intro pins s σ H xs B Q I r h;rcases h with h | h | h
 .exact Nz pins s σ H xs B Q I r (.inr h)
 .exact Nz pins s σ H xs B Q I r (.inl h)
 .exact Acw pins s σ H xs B Q I r h
theorem Bu.mk' {sc D:Scope}{B N:List Str}{H:List (Option Nat)}(I:sc.kind=.function)(J:∀ y∈sc.names,y.2≠.cell)(L:∀ y∈sc.names,y.2=.local->sc.names.lookup y.1=some .local)(O:∀ y∈sc.names,y.2=.free->D.names.lookup y.1=some .cell\/D.names.lookup y.1=some .free)(V:B.Nodup)(Y:H.length=B.length)(h7:∀ p∈H.zip B,∀ j∈p.1,N[j]?=some p.2/\sc.names.lookup p.2=some .free/\(D.names.lookup p.2=some .cell\/D.names.lookup p.2=some .free)):Bu sc D B N H :=
 ⟨I,J,L,O,V,Y,λi j e=>by
  have hi:i<H.length:=(TH.mp e).1;obtain ⟨x,hx⟩:∃ x,B[i]?=some x:=⟨B[i]'(by omega),TC (by omega)⟩;have hz:(H.zip B)[i]?=some (some j,x):=by rw [List.getElem?_zip_eq_some];exact ⟨e,hx⟩
  obtain ⟨a,b,c⟩:=h7 _ (Tz hz) j rfl;exact ⟨x,hx,a,b,c⟩⟩
theorem AcS:∀ n:Nat,n<1001->(S9 (toString (n:Int))).length<=10:=by decide +kernel
theorem GW {e:S7}{J:TE}{pos:Pos}(O:PE X e J):PE X (.FormattedValue e (-1) none pos) (λσ H Q=>J σ H λx B=>(∃ i:Int,x=.int i/\0<=i/\i<=1000/\∀ z:Str,z.length<=10->Q (.str z) B)\/∃ z,x=.str z/\z.length<=sizeLine/\Q (.str z) B):=by
 intro pins s σ H Q I h;refine wpAny_FormattedValue_plain (Al (O pins s σ H _ I h) λv s1 V=>AG V λx B D L Y=>?_);rcases Y with ⟨i,rfl,h0,h1,q⟩ | ⟨z,rfl,hz,q⟩
 .obtain ⟨t,rfl⟩:=L;obtain ⟨n,rfl⟩:=Int.eq_ofNat_of_zero_le h0;have hn:n<1001:=by omega
  refine wpAny_formatField_int ?_ ⟨.str _,B,D.tok _,⟨_,rfl⟩,q _ (AcS n hn)⟩;have:(n:Int).natAbs=n:=rfl;rw [this];exact Uv (YX n) (by omega)
 .obtain ⟨t,rfl⟩:=L;exact ZZ ⟨.str _,B,D,⟨_,rfl⟩,q⟩ ⟨.str _,B,D.tok _,⟨_,rfl⟩,q⟩ hz
end
section
variable {K:S3}{a D:Addr}{xs:List V}{g:TG}{tt:TT}{te:TE}{σ0:St}{H:Hp}{Q:Hp->Prop}
abbrev GX (D:Addr)(tt:TT)(te:TE)(N:St->Hp->Prop):St->Hp->Prop:=λσ3 H3=>tt σ3 H3 λb H4 =>
 if b=true then te σ3 H4 λv H5=>∃ ys,H5 D=some (.lst ys)/\ys.length<sizeLine/\N σ3 (upd H5 D (.lst (ys++[v]))) else N σ3 H4
theorem AcT (Pv:Nat->St->Hp->Prop)(h0:Pv 0 σ0 (upd H D (.lst [])))(hl:∀ i σ H,i<=xs.length->Pv i σ H->Ba K H a xs)(hs:∀ i x t σ B,xs[i]?=some x->Pv i σ B->B t=none->g (.ref t) σ (upd B t (.tup [.int i,x])) (GX D tt te (Pv (i+1))))(hd:∀ σ B,Pv xs.length σ B->Q B) :
  ∃ W:Nat->Nat->St->Hp->Prop,(∃ m,W 0 m σ0 (upd H D (.lst [])))/\∀ i m σ' B,W i m σ' B ->
   ((EH K a).stop i B/\Q B)\/((EH K a).go i B/\∃ N:St->Hp->Prop,(∀ σ2 I,N σ2 I->∃ m',m'<m/\W (i+1) m' σ2 I)/\∀ x I,(EH K a).bM i B x I->g x σ' I λσ3 H3=>tt σ3 H3 λb L =>
    if b=true then te σ3 L λv O=>∃ ys,O D=some (.lst ys)/\ys.length<sizeLine/\N σ3 (upd O D (.lst (ys++[v]))) else N σ3 L):=by
 refine ⟨λi m σ H=>m=xs.length - i/\i<=xs.length/\Pv i σ H,⟨xs.length,by simp,T5 _,h0⟩,?_⟩;rintro i m σ J ⟨rfl,hi,p⟩;have q:=hl i σ J hi p;by_cases Y:i<xs.length
 .refine .inr ⟨⟨xs,xs[i],q,by simp [Y]⟩,Pv (i+1),λσ' B p'=>⟨xs.length - (i+1),by omega,rfl,Y,p'⟩,λx B y=>?_⟩;replace y:=Bi y;obtain ⟨t,y,rfl,ht,rfl,hy⟩:=y
  exact hs i y t σ J (hy xs q) p ht
 .have e:i=xs.length:=by omega
  subst e;exact .inl ⟨⟨xs,q,Ti _⟩,hd σ J p⟩
theorem Oz (Pv:Nat->St->Hp->Prop)(h0:Pv 0 σ0 (upd H D (.lst [])))(hl:∀ i σ H,i<=xs.length->Pv i σ H->Ba K H a xs)(hs:∀ i x σ B,xs[i]?=some x->Pv i σ B->g x σ B (GX D tt te (Pv (i+1))))(hd:∀ σ B,Pv xs.length σ B->Q B) :
  ∃ W:Nat->Nat->St->Hp->Prop,(∃ m,W 0 m σ0 (upd H D (.lst [])))/\∀ i m σ' B,W i m σ' B ->
   ((DE K a).stop i B/\Q B)\/((DE K a).go i B/\∃ N:St->Hp->Prop,(∀ σ2 I,N σ2 I->∃ m',m'<m/\W (i+1) m' σ2 I)/\∀ x I,(DE K a).bM i B x I->g x σ' I λσ3 H3=>tt σ3 H3 λb J =>
    if b=true then te σ3 J λv L=>∃ ys,L D=some (.lst ys)/\ys.length<sizeLine/\N σ3 (upd L D (.lst (ys++[v]))) else N σ3 J):=by
 refine ⟨λi m σ H=>m=xs.length - i/\i<=xs.length/\Pv i σ H,⟨xs.length,by simp,T5 _,h0⟩,?_⟩;rintro i m σ O ⟨rfl,hi,p⟩;have q:=hl i σ O hi p;by_cases Y:i<xs.length
 .refine .inr ⟨⟨xs,xs[i],q,by simp [Y]⟩,Pv (i+1),λσ' B p'=>⟨xs.length - (i+1),by omega,rfl,Y,p'⟩,λx B y=>?_⟩;obtain ⟨rfl,hy⟩:=y;exact hs i x σ _ (hy xs q) p
 .have e:i=xs.length:=by omega
  subst e;exact .inl ⟨⟨xs,q,Ti _⟩,hd σ O p⟩
theorem OA {lo:Int}{n:Nat}(Pv:Nat->St->Hp->Prop)(Y:Pv 0 σ0 (upd H D (.lst [])))(hs:∀ i σ B,i<n->Pv i σ B->g (.int (lo+i)) σ B (GX D tt te (Pv (i+1))))(hd:∀ σ B,Pv n σ B->Q B) :
  ∃ W:Nat->Nat->St->Hp->Prop,(∃ m,W 0 m σ0 (upd H D (.lst [])))/\∀ i m σ' B,W i m σ' B ->
   ((DV lo n).stop i B/\Q B)\/((DV lo n).go i B/\∃ N:St->Hp->Prop,(∀ σ2 I,N σ2 I->∃ m',m'<m/\W (i+1) m' σ2 I)/\∀ x I,(DV lo n).bM i B x I->g x σ' I λσ3 H3=>tt σ3 H3 λb L =>
    if b=true then te σ3 L λv O=>∃ ys,O D=some (.lst ys)/\ys.length<sizeLine/\N σ3 (upd O D (.lst (ys++[v]))) else N σ3 L):=by
 refine ⟨λi m σ H=>m=n - i/\i<=n/\Pv i σ H,⟨n,by simp,T5 _,Y⟩,?_⟩;rintro i m σ H1 ⟨rfl,hi,p⟩;by_cases J:i<n
 .refine .inr ⟨J,Pv (i+1),λσ' B p'=>⟨n - (i+1),by omega,rfl,J,p'⟩,λx B y=>?_⟩;obtain ⟨rfl,rfl⟩:=y;exact hs i σ _ J p
 .have e:i=n:=by omega
  subst e;exact .inl ⟨Ti _,hd σ H1 p⟩
theorem AcU {L:TS}{E:CV}{σ:St}(Pv:Nat->St->Hp->Prop)(Y:Pv 0 σ H)(hl:∀ i σ H,i<=xs.length->Pv i σ H->Ba K H a xs)(hs:∀ i x t σ H,xs[i]?=some x->Pv i σ H->H t=none->g (.ref t) σ (upd H t (.tup [.int i,x])) λσ2 I=>L { E with nx:=Pv (i+1),ct:=Pv (i+1),bk:=E.nx } σ2 I)(hd:∀ σ H,Pv xs.length σ H->E.nx σ H) :
  ∃ W:Nat->Nat->St->Hp->Prop,(∃ m,W 0 m σ H)/\∀ i m σ H,W i m σ H ->
   ((EH K a).stop i H/\E.nx σ H)\/((EH K a).go i H/\∃ N:St->Hp->Prop,(∀ σ' B,N σ' B->∃ m',m'<m/\W (i+1) m' σ' B)/\∀ x B,(EH K a).bM i H x B->g x σ B λσ2 I=>L { E with nx:=N,ct:=N,bk:=E.nx } σ2 I):=by
 refine ⟨λi m σ H=>m=xs.length - i/\i<=xs.length/\Pv i σ H,⟨xs.length,by simp,T5 _,Y⟩,?_⟩;rintro i m σ J ⟨rfl,hi,p⟩;have q:=hl i σ J hi p;by_cases O:i<xs.length
 .refine .inr ⟨⟨xs,xs[i],q,by simp [O]⟩,Pv (i+1),λσ' B p'=>⟨xs.length - (i+1),by omega,rfl,O,p'⟩,λx B y=>?_⟩;replace y:=Bi y;obtain ⟨t,y,rfl,ht,rfl,hy⟩:=y
  exact hs i y t σ J (hy xs q) p ht
 .have e:i=xs.length:=by omega
  subst e;exact .inl ⟨⟨xs,q,Ti _⟩,hd σ J p⟩
end
section
variable {X:Cx}(K:S3)(h:X.K=K)
include h
theorem OB:DX X (NW K):=h▸BF
theorem AcV (hu:X.A.units+64<cLine):A7 X (Ub .NotEq) (λx y H Q=>Kk x y H Q\/GK K true x y H Q):=h▸EF hu
theorem IG (n:Nat){es:List S7}{k:Nat}{pos:Pos}{t:Ex}(hc:X.calm=true)(B:Gw X es t)(D:(VC es X.env).length=n)(H:(VC es X.env).findIdx? (·.1)=none):PG X (.Tuple es k pos) (M7 K n t):=h▸Ey hc B D H
theorem AcW:A7 X (Ub .In) (λx y H Q=>(∃ i j,x=.str i/\y=.str j/\Q (.bl (FV i j)) H)\/GF K false x y H Q):=h▸IA
end
section
variable {κ:Type} [DecidableEq κ]
noncomputable def Bp (kvs:List (κ×V))(k:κ):Option V:=(kvs.find? λkv=>decide (kv.1=k)).map (·.2)
noncomputable def Bz (kvs:List (κ×V))(k:κ)(v:V):List (κ×V) :=
 if (kvs.any λkv=>decide (kv.1=k))=true then kvs.map (λkv=>if kv.1=k then (kv.1,v) else kv) else kvs++[(k,v)]
theorem El {p:κ×V}{r:List (κ×V)}{k:κ}(e:p.1=k):Bp (p :: r) k=some p.2:=by simp [Bp,Vf,e]
theorem DZ {p:κ×V}{r:List (κ×V)}{k:κ}(e:¬ p.1=k):Bp (p :: r) k=Bp r k:=by simp [Bp,Vf,e]
theorem IH (k:κ):∀ kvs:List (κ×V),(kvs.any λB=>decide (B.1=k))=(Bp kvs k).isSome
 | []=>rfl
 | p :: r=>by
  rw [W2];by_cases e:p.1=k
  .simp only [El e,decide_eq_true e,Bool.true_or,Option.isSome_some]
  .rw [DZ e,decide_eq_false e,Bool.false_or];exact IH k r
theorem II (k j:κ)(y:V):∀ kvs:List (κ×V),Bp kvs k=none->Bp (kvs++[(k,y)]) j=if j=k then some y else Bp kvs j
 | [],_=>by
  by_cases e:k=j
  .rw [if_pos e.symm];exact El (p:=(k,y)) e
  .rw [if_neg (λz=>e z.symm)];exact DZ (p:=(k,y)) e
 | p :: r,hn=>by
  rw [VT];have hk:¬ p.1=k:=λz=>by rw [El z] at hn;cases hn
  rw [DZ hk] at hn;have ih:=II k j y r hn;by_cases e:p.1=j
  .rw [El e,El e,if_neg (λz=>hk (e.trans z))]
  .rw [DZ e,DZ e,ih]
theorem IJ (kvs:List (κ×V))(k:κ)(v:V):(Bz kvs k v).length<=kvs.length+1:=by
 unfold Bz;split
 .rw [Tb];omega
 .rw [Ul,UG,Z6];omega
theorem IK {kvs:List (κ×V)}{k:κ}(v:V)(h:Bp kvs k=none):Bz kvs k v=kvs++[(k,v)]:=by unfold Bz;rw [IH,h];exact if_neg (by decide)
theorem CC.pG {o:Option V}{u:Option Value}(r:CC o u):o.isSome=u.isSome:=by
 cases o with
 | none=>cases u with
  | none=>rfl
  | some _=>exact (show False from r).elim
 | some _=>cases u with
  | none=>exact (show False from r).elim
  | some _=>rfl
theorem CC.getD {o:Option V}{u:Option Value}{d:V}{d':Value}(r:CC o u)(B:Ay d d'):Ay (o.getD d) (u.getD d'):=by
 cases o with
 | none=>cases u with
  | none=>exact B
  | some _=>exact (show False from r).elim
 | some _=>cases u with
  | none=>exact (show False from r).elim
  | some _=>exact r
theorem KV.val {kvs:List (κ×V)}{vs:List (κ×Value)}(r:KV kvs vs)(k:κ):CC (Bp kvs k) (Wo vs k):=by
 unfold KV at r;induction r with
 | nil=>exact UP
 | @cons p q J B h t ih =>
  obtain ⟨H,I⟩:=h;by_cases e:p.1=k
  .have D:q.1=k:=H.symm.trans e;have b:Wo (q :: B) k=some q.2:=by simp [Wo,Vf,D]
   rw [El e,b];exact I
  .have D:¬ q.1=k:=λz=>e (H.trans z);have b:Wo (q :: B) k=Wo B k:=by simp [Wo,Vf,D]
   rw [DZ e,b];exact ih
theorem KV.any {kvs:List (κ×V)}{vs:List (κ×Value)}(r:KV kvs vs)(k:κ):(kvs.any λB=>decide (B.1=k))=vs.any λB=>decide (B.1=k):=by
 unfold KV at r;induction r with
 | nil=>rfl
 | cons h t ih=>rw [W2,W2,ih,h.1]
theorem KV.lD {kvs:List (κ×V)}{vs:List (κ×Value)}(r:KV kvs vs)(k:κ){y:V}{u:Value}(H:Ay y u) :
  KV (kvs.map λB=>if B.1=k then (B.1,y) else B) (vs.map λB=>if B.1=k then (B.1,u) else B):=by
 unfold KV at r ⊢;induction r with
 | nil=>exact .nil
 | @cons p q J L h t ih =>
  rw [Uz,Uz];refine .cons ?_ ih;obtain ⟨D,I⟩:=h;by_cases e:p.1=k
  .rw [if_pos e,if_pos (D.symm.trans e)];exact ⟨D,H⟩
  .rw [if_neg e,if_neg (λz=>e (D.trans z))];exact ⟨D,I⟩
theorem KV.put {kvs:List (κ×V)}{vs:List (κ×Value)}(r:KV kvs vs)(k:κ){y:V}{u:Value}(B:Ay y u):KV (Bz kvs k y) (stored vs k u):=by
 unfold Bz stored;rw [r.any k];by_cases e:(vs.any λD=>decide (D.1=k))=true
 .rw [if_pos e,if_pos e];exact r.lD k B
 .rw [if_neg e,if_neg e];exact Paired.snoc r ⟨rfl,B⟩
theorem KV.keys {kvs:List (κ×V)}{vs:List (κ×Value)}(r:KV kvs vs):kvs.map (·.1)=vs.map (·.1):=by
 unfold KV at r;induction r with
 | nil=>rfl
 | cons h t ih=>rw [Uz,Uz,ih,h.1]
theorem KV.length {kvs:List (κ×V)}{vs:List (κ×Value)}(r:KV kvs vs):kvs.length=vs.length:=Paired.length r
end
theorem Fq {P:Ta}{w:S6}{k:Au}{u:Value}(r:Ay (kV k) u):(Bm P w).is k u=true:=by
 cases k with
 | inl i=>obtain ⟨t,e⟩:=(show ∃ t,u=Uw i t from r);subst e;exact Aah P w i t
 | inr x=>obtain ⟨t,e⟩:=(show ∃ t,u=Uj x t from r);subst e;exact FL P w x t
theorem OC {P:Ta}{w:S6}:∀{ks:List Au}{us:List Value},Aw (ks.map kV) us->ItemsAre (Bm P w) ks us
 | [],_,r=>by rw [W5] at r;cases r;exact .nil
 | k :: ks,_,r=>by
  rw [Uz] at r;cases r with
  | cons h t=>exact .cons (Fq h) (OC t)
abbrev KT (H:Hp):List (List Au×V)->List (List Au×Addr×Value)->Prop:=Paired λp q=>p.1=q.1/\H q.2.1=some (.tup (p.1.map kV))/\Ay p.2 q.2.2
theorem KT.val {H:Hp}{kvs:List (List Au×V)}{xs:List (List Au×Addr×Value)}(r:KT H kvs xs)(k:List Au):CC (Bp kvs k) ((VU xs k).map (·.2)):=by
 induction r with
 | nil=>exact UP
 | @cons p q L B h t ih =>
  obtain ⟨I,_,J⟩:=AQ h;by_cases e:p.1=k
  .have D:q.1=k:=I.symm.trans e;have b:VU (q :: B) k=some q.2:=by simp [VU,Vf,D]
   rw [El e,b];exact J
  .have D:¬ q.1=k:=λz=>e (I.trans z);have b:VU (q :: B) k=VU B k:=by simp [VU,Vf,D]
   rw [DZ e,b];exact ih
theorem KT.lD {H:Hp}{kvs:List (List Au×V)}{xs:List (List Au×Addr×Value)}(r:KT H kvs xs)(k:List Au){y:V}{u:Value}(J:Ay y u) :
  KT H (kvs.map λD=>if D.1=k then (D.1,y) else D) (xs.map (putAt k u)):=by
 induction r with
 | nil=>exact .nil
 | @cons p q O Y h t ih =>
  rw [Uz,Uz];refine .cons ?_ ih;obtain ⟨B,I,L⟩:=AQ h;unfold putAt;by_cases e:p.1=k
  .rw [if_pos e,if_pos (B.symm.trans e)];exact ⟨B,I,J⟩
  .rw [if_neg e,if_neg (λz=>e (B.trans z))];exact ⟨B,I,L⟩
theorem KT.put {H:Hp}{kvs:List (List Au×V)}{xs:List (List Au×Addr×Value)}(r:KT H kvs xs)(k:List Au){b:Addr}{y:V}{u:Value}(hb:H b=some (.tup (k.map kV)))(B:Ay y u) :
  KT H (Bz kvs k y) (storedH xs k b u):=by
 have e:(kvs.any λD=>decide (D.1=k))=(VU xs k).isSome:=by rw [IH,(r.val k).pG,Option.isSome_map]
 unfold Bz storedH;rw [e];by_cases q:(VU xs k).isSome=true
 .rw [if_pos q,if_pos q];exact r.lD k B
 .rw [if_neg q,if_neg q];exact Paired.snoc r ⟨rfl,hb,B⟩
theorem KT.keeps {H B:Hp}{kvs:List (List Au×V)}{xs:List (List Au×Addr×Value)}(r:KT H kvs xs)(D:∀ b ys,H b=some (.tup ys)->B b=some (.tup ys)):KT B kvs xs :=
 Paired.kO r λ_ _ z=>⟨z.1,D _ _ z.2.1,z.2.2⟩
section
variable {P:Ta}{w:S6}{H:Hp}{h:Heap}{a:Addr}
theorem OD {u:HO}(ok:AL P w H h)(e:Rd H a u):Be P w H h a u:=e.ok ok
theorem IL {kvs:List (Au×V)}(ok:AL P w H h)(e:Rd H a (.dK kvs)):kvs.length<=sizeLine/\(a == UJ)=false/\∃ vs,KV kvs vs/\h.DictOf (Bm P w) a vs :=
 show Be P w H h a (.dK kvs) from OD ok e
theorem IM {kvs:List (Au×V)}(ok:AL P w H h)(e:H a=some (.dK kvs)):kvs.length<=sizeLine/\(a == UJ)=false/\∃ vs,KV kvs vs/\h.DictOf (Bm P w) a vs:=IL ok (.inl e)
theorem KW {ks:List Au}(ok:AL P w H h)(e:H a=some (.tup (ks.map kV))):(Wv (Bm P w)).is h ks a:=by obtain ⟨_,its,r,o,B,D,n,I⟩:=(show Be P w H h a (.tup (ks.map kV)) from ok a _ e);exact ⟨o,its.toArray,n,B,D,I,by simpa using OC r⟩
theorem KY {kvs:List (List Au×V)}(ok:AL P w H h)(e:Rd H a (.dT kvs)):kvs.length<=sizeLine/\(a == UJ)=false /\
  ∃ xs,KT H kvs xs/\h.DictOfH (Wv (Bm P w)) a xs:=by
 obtain ⟨z,y,xs,r,o,es,B,D,I,J,L,O⟩:=AQ ((show Be P w H h a (.dT kvs) from OD ok e));refine ⟨z,y,xs,r,o,es,B,D,I,J,L,λx hx=>?_,O⟩;have all:∀{l:List (List Au×V)}{m:List (List Au×Addr×Value)},KT H l m->∀ x∈m,(Wv (Bm P w)).is h x.1 x.2.1:=by
  intro l m q;induction q with
  | nil=>intro x hx;exact nomatch hx
  | @cons p q Y qs hq t ih =>
   intro x hx;rcases Tq.mp hx with e | hx
   .subst e;exact KW ok (by rw [<- hq.1];exact hq.2.1)
   .exact ih x hx
 exact all r x hx
theorem AcX {kvs:List (List Au×V)}(ok:AL P w H h)(e:H a=some (.dT kvs)):kvs.length<=sizeLine/\(a == UJ)=false /\
  ∃ xs,KT H kvs xs/\h.DictOfH (Wv (Bm P w)) a xs:=KY ok (.inl e)
end
def OE (H:Hp)(a:Addr)(y:V)(r:Option V):Prop :=
 (∃ kvs k,Rd H a (.dK kvs)/\y=kV k/\r=Bp kvs k)\/∃ kvs k b,Rd H a (.dT kvs)/\y=.ref b/\H b=some (.tup (k.map kV))/\r=Bp kvs k
def OF (H:Hp)(a:Addr)(y v:V)(H':Hp):Prop :=
 (∃ kvs k,H a=some (.dK kvs)/\y=kV k/\kvs.length<sizeLine/\H'=upd H a (.dK (Bz kvs k v))) \/
 ∃ kvs k b,H a=some (.dT kvs)/\y=.ref b/\H b=some (.tup (k.map kV))/\kvs.length<sizeLine/\H'=upd H a (.dT (Bz kvs k v))
section
variable {X:Cx}{pins:List (Addr×Obj)}{σ:St}{H:Hp}{s:S0}{a:Addr}{y v:V}{u r:Value}{o:Option V}{A:Tt}{E:Value->S0->Prop}
theorem Ae.big (I:Ae X pins σ H s):UJ<s.heap.objs.size:=by have h:TB<s.heap.objs.size:=(I.mod.glob.keeps I.bk).lt;exact Nat.lt_trans (by decide) h
theorem IP {h':Heap}{t':Nat}{B:HO}(I:Ae X pins σ H s)(D:Gn (H a))(hs:Ud a s.heap h')(J:∃ q,h'.get? a=some q)(new:Be X.prog X.w (upd H a B) h' a B) :
  Ae X pins σ (upd H a B) { s with heap:=h',toks:=t' } :=
 I.write (x:=a) (e:=a) D (.inl rfl) (λb q hb z=>(hs.2 b hb).trans z) J new
theorem KZ {P:Ta}{w:S6}{B:Hp}{h':Heap}{kvs:List (Au×V)}{vs:List (Au×Value)}(z:kvs.length<=sizeLine)(hd:(a == UJ)=false)(rel:KV kvs vs)(dd:h'.DictOf (Bm P w) a vs) :
  Be P w B h' a (.dK kvs):=⟨z,hd,vs,rel,dd⟩
theorem AcY {H':Hp}{Q:Unit->S0->Prop}(hu:A.units+1<cLine)(I:Ae X pins σ H s)(g:OF H a y v H')(ry:Ay y u)(rv:Ay v r)(h:∀ s',Ae X pins σ H' s'->Q () s') :
  S4 (S8 X.prog X.w) A (Xl (.ref a) u r) Q E s:=by
 rcases g with ⟨B,k,e,J,l,L⟩ | ⟨B,k,b,e,J,eb,l,L⟩
 .subst J L;obtain ⟨z,hd,vs,rel,O⟩:=AQ (IM I.af e);have Y:vs.length<=sizeLine:=by rw [<- rel.length];exact z
  have hl:(Bz B k v).length<=sizeLine:=by have:=IJ B k v;omega
  refine wpAny_setItem_pairs (hsz:=Y) (Fq ry) O λh' D hs=>h _ ?_;have he:∃ q,h'.get? a=some q:=let ⟨q,_,_,hq,_⟩:=D;⟨q,hq⟩;exact IP I (by rw [e];exact UP) hs he (KZ hl hd (rel.put k rv) D)
 .subst J L;cases (show u=TU b from ry);obtain ⟨z,hd,xs,rel,O⟩:=AQ (AcX I.af e);have Y:xs.length<=sizeLine:=by rw [<- Paired.length rel];exact z
  have hl:(Bz B k v).length<=sizeLine:=by have:=IJ B k v;omega
  refine wpAny_setItem_heap (hsz:=Y) (Z7 hu) (KW I.af eb) O λh' D hs=>h _ ?_;obtain ⟨q,es,ep,hq,h2,h3,h4,_,h5⟩:=FK D;refine IP I (by rw [e];exact UP) hs ⟨q,hq⟩ ⟨hl,hd,_,(rel.put k eb rv).keeps λc ys ec=>?_,q,es,ep,hq,h2,h3,h4,h5⟩;rw [Ap (HY ec e (λz=>nomatch z))];exact ec
end
section
variable {X:Cx}{pins:List (Addr×Obj)}{σ:St}{H:Hp}{s:S0}{a:Addr}{kvs:List (Au×V)}{k:Au}{u:Value}{A:Tt}{E:Value->S0->Prop}
end
def K0 (i:S7):Prop:=∀ ov iv,Xu i false ov iv=operate [ov,iv] (VD ov iv)
theorem AcZ {prog:Ta}{w:S6}{A:Tt}{E:Value->S0->Prop}{s:S0}{env:Env}{value slice:S7}{pos:Pos}{T id:String}{Q:Value->S0->Prop}(O:typeLookup (.type T) "__getitem__"=pure (some (.builtin id)))(hs:K0 slice)(h:S4 (S8 prog w) A (Tf value env) (λo I=>S4 (S8 prog w) A (Tf slice env) (λi D=>D.TypeIs o T/\S4 (S8 prog w) A (VD o i) Q E D) E I) E s) :
  S4 (S8 prog w) A (Tf (.Subscript value slice pos) env) Q E s:=by
 refine Yx (U4 h (λo I V=>U4 V (λi D H=>?_) λ_ _ x=>x) λ_ _ x=>x);obtain ⟨J,H⟩:=H;unfold Yy;refine S5 ?_;rw [getitemInPython_of_ne J.not_modules];refine S5 (wpAny_specialOf J O ?_);have B:S4 (S8 prog w) A (Xu slice false o i) (λr L=>S4 (S8 prog w) A (letTemporaryGo value o r >>= λ_=>pure r) Q E L) E D:=by rw [hs o i];exact wpAny_operating (U4 H (λr L Y=>S5 (wpAny_letTemporaryGo (Te Y))) λ_ _ x=>x)
 first
  | exact Te (S5 B)
  | exact S5 (Te (S5 B))
  | exact S5 B
def Ac0 (td ty tv:TE):TS:=λD σ H=>tv σ H λv H1=>td σ H1 λx H2=>ty σ H2 λy H3=>∃ a H4,x=.ref a/\OF H3 a y v H4/\D.nx σ H4
section
variable {X:Cx}{o i e value:S7}{pos pos' jO:Pos}{td ty tv:TE}
theorem Dr (hu:X.A.units+1<cLine)(J:PE X o td)(L:PE X i ty)(hv:PE X value tv)(hs:V6 value (some (.Subscript o i pos')) pos.line X.env=pure false) :
  PS X (.Assign [.Subscript o i pos'] value pos) (Ac0 td ty tv):=by
 intro pins s σ H D I h;refine wpAny_Assign_Subscript (Al (hv pins s σ H _ I h) λr O B=>AG B λv V Y rv q1=>Al (J pins O σ V _ Y q1) λu s2 B=>AG B λx H2 I2 rx q2=>Al (L pins s2 σ H2 _ I2 q2) λiv s3 B=>AG B λy H3 I3 ry ⟨a,H4,ex,g,q3⟩=>?_) hs;subst ex;obtain rfl:u=TU a:=rx;exact AcY hu I3 g ry rv λs4 I4=>⟨σ,H4,I4,q3⟩
end
theorem K1 {P:Ta}{w:S6}{H:Hp}(h:Heap)(hb:UJ<h.objs.size):Be P w H (h.push { cls:=.type "dict",data:=.dict #[] }) h.objs.size (.dK []) :=
 ⟨T5 _,beq_eq_false_iff_ne.mpr (Tu (TK hb)),[],.nil,Heap.DictOf.new h⟩
def Ac1:TE:=λ_ H Q=>∀ p,H p=none->Q (.ref p) (upd H p (.dK []))
section
variable {X:Cx}{pos:Pos}
theorem Ac2:PE X (.Dict [] [] pos) Ac1:=λpins s σ H Q I h =>
 wpAny_Dict_empty ⟨.ref s.heap.objs.size,_,I.laid (a:=s.heap.objs.size) (o:=.dK []) (t':=s.toks) (λ_ _ q=>TF _ q) (Ti _) (K1 s.heap I.big),rfl,h _ (I.af.fresh (Ti _))⟩
end
def K2:List (TE×TE)->St->Hp->(List (V×V)->Hp->Prop)->Prop
 | [],_,H,Q=>Q [] H
 | (tk,tv) :: r,σ,H,Q=>tk σ H λx H1=>tv σ H1 λy H2=>K2 r σ H2 λps H3=>Q ((x,y) :: ps) H3
abbrev VV:List (V×V)->List (Value×Value)->Prop:=Paired λp q=>Ay p.1 q.1/\Ay p.2 q.2
def IQ (X:Cx)(pos:Pos)(keys:List (Option S7))(values:List S7)(d0:List (TE×TE)):Prop :=
 ∀(pins:List (Addr×Obj))(s:S0)(σ:St)(H:Hp)(Q:List (V×V)->Hp->Prop),Ae X pins σ H s->K2 d0 σ H Q ->
  S4 (S8 X.prog X.w) X.A (evalPairs (pairTrees keys values X.env pos)) (λvs s'=>∃ ps H',Ae X pins σ H' s'/\VV ps vs/\Q ps H') X.xe s
theorem OG {X:Cx}{pos:Pos}:IQ X pos [] [] []:=λpins s σ H Q I h=>pairTrees_nil_walk ⟨[],H,I,.nil,h⟩
theorem IS {X:Cx}{pos:Pos}{k v:S7}{ks:List (Option S7)}{vs:List S7}{tk D:TE}{J:List (TE×TE)}(hk:PE X k tk)(hv:PE X v D)(L:IQ X pos ks vs J) :
  IQ X pos (some k :: ks) (v :: vs) ((tk,D) :: J):=λpins s σ H Q I h =>
 pairTrees_cons_walk (Al (hk pins s σ H _ I h) λu O B=>AG B λx V Y rx q1=>Al (hv pins O σ V _ Y q1) λw2 s2 ⟨y,H2,I2,ry,q2⟩ =>
  Al (L pins s2 σ H2 _ I2 q2) λws s3 B=>AG B λps H3 I3 rel q3=>⟨(x,y) :: ps,H3,I3,.cons ⟨rx,ry⟩ rel,q3⟩)
def Ft (kvs more:List (Au×V)):List (Au×V):=more.foldl (λacc kv=>Bz acc kv.1 kv.2) kvs
theorem KV.merge:∀{more:List (Au×V)}{B:List (Au×Value)}{kvs:List (Au×V)}{vs:List (Au×Value)},KV more B->KV kvs vs->KV (Ft kvs more) (merged vs B):=by
 intro more B kvs vs r;unfold KV at r;induction r generalizing kvs vs with
 | nil=>intro q;exact q
 | @cons p q H I h t ih =>
  intro D;have e:KV (Bz kvs p.1 p.2) (stored vs q.1 q.2):=by have:=D.put p.1 h.2;rw [<- h.1];exact this
  exact ih e
theorem OH:∀(more kvs:List (Au×V)),(Ft kvs more).length<=kvs.length+more.length
 | [],kvs=>by show kvs.length<=kvs.length+0;omega
 | p :: r,kvs=>by
  have B:=OH r (Bz kvs p.1 p.2);have D:=IJ kvs p.1 p.2;show (Ft (Bz kvs p.1 p.2) r).length<=_;rw [UG];omega
theorem OI {P:Ta}{w:S6}:∀{kvs:List (Au×V)}{ws:List (Value×Value)},VV (kvs.map λD=>(kV D.1,D.2)) ws->∃ B,Carries (Bm P w) ws B/\KV kvs B
 | [],_,r=>by rw [W5] at r;cases r;exact ⟨[],UP,.nil⟩
 | p :: kvs,_,r=>by
  rw [Uz] at r;cases r with
  | @cons a b I bs h t =>
   obtain ⟨B,c,q⟩:=Ao (OI (P:=P) (w:=w) t);obtain ⟨J,H⟩:=b;exact ⟨(p.1,H) :: B,⟨Fq h.1,rfl,c⟩,.cons ⟨rfl,h.2⟩ q⟩
def Ac3 (d0:List (TE×TE)):TE:=λσ H Q=>∀ p,H p=none->K2 d0 σ (upd H p (.dK [])) λps H2=>H2 p=some (.dK [])/\∃ kvs:List (Au×V),ps=kvs.map (λkv=>(kV kv.1,kv.2))/\kvs.length<=15/\Q (.ref p) (upd H2 p (.dK (Ft [] kvs)))
theorem OJ {X:Cx}{pos:Pos}{keys:List (Option S7)}{B:List S7}{L:List (TE×TE)}(h:IQ X pos keys B L)(az:keys.all (·.isSome)=true)(hl:keys.length=B.length)(h0:keys≠[])(J:keys.length<=15):PE X (.Dict keys B pos) (Ac3 L):=by
 intro pins s σ H Q I q;have hn:=I.af.fresh (Ti s.heap.objs.size);have I1:=I.laid (a:=s.heap.objs.size) (o:=.dK []) (h':=s.heap.push { cls:=.type "dict",data:=.dict #[] }) (t':=s.toks) (λ_ _ q=>TF _ q) (Ti _) (K1 s.heap I.big);refine wpAny_Dict_walk (knd:=Bm X.prog X.w) az hl h0 J (Al (h pins _ σ _ _ I1 (q _ hn)) λws s2 zz=>AG zz λps H2 V rel ⟨e,D,ep,lk,q2⟩=>?_);subst ep;obtain ⟨rs,c,rk⟩:=Ao (OI (P:=X.prog) (w:=X.w) rel);obtain ⟨z,hd,vs0,r0,dd⟩:=AQ (IM V.af e);cases r0;refine ⟨rs,c,dd,λO Y hs=>⟨.ref s.heap.objs.size,_,?_,rfl,q2⟩⟩;have hz:(Ft [] D).length<=sizeLine:=by have h1:=OH D [];rw [Z6] at h1;rw [Tc];omega
 have he:∃ q,O.get? s.heap.objs.size=some q:=let ⟨q,_,_,hq,_⟩:=Y;⟨q,hq⟩;exact IP V (by rw [e];exact UP) hs he (KZ hz hd (rk.merge .nil) Y)
structure M1 (X:Cx)(o:S7)(m:Str)(apos:Pos)(e:S7)(ba:Pos):Prop where
 base:WV o m X.env (Tf o X.env)=Tf o X.env
 aC:((TZ ba (Tj [e] X.env)).all (λx=>!x.1) && (Vk ba (Vl [] X.env)).all (λx=>x.1.isSome)
  && decide (([e]:List S7).length+([]:List Wf).length+(if ([]:List Wf).isEmpty then 0 else 1)<30))=true
 line:(apos.endLine == ba.line)=true
 trees:TZ ba (Tj [e] X.env)=[(false,Tf e X.env)]
structure M2 (X:Cx)(o:S7)(m:Str)(apos:Pos)(e f:S7)(ba:Pos):Prop where
 base:WV o m X.env (Tf o X.env)=Tf o X.env
 aC:((TZ ba (Tj [e,f] X.env)).all (λx=>!x.1) && (Vk ba (Vl [] X.env)).all (λx=>x.1.isSome)
  && decide (([e,f]:List S7).length+([]:List Wf).length+(if ([]:List Wf).isEmpty then 0 else 1)<30))=true
 line:(apos.endLine == ba.line)=true
 trees:TZ ba (Tj [e,f] X.env)=[(false,Tf e X.env),(false,Tf f X.env)]
def OK (H:Hp)(a:Addr):Prop:=(∃ kvs,Rd H a (.dK kvs))\/∃ kvs,Rd H a (.dT kvs)
theorem Ac4 {X:Cx}{pins:List (Addr×Obj)}{σ:St}{H:Hp}{s:S0}{a:Addr}(I:Ae X pins σ H s)(d:OK H a) :
  s.TypeIs (.ref a) "dict"/\(∀ b,TU a=.ref b->∃ B,s.heap.get? b=some B/\B.dict=none)/\(a == UJ)=false:=by
 rcases d with ⟨J,e⟩ | ⟨J,e⟩
 .obtain ⟨_,hd,vs,_,D⟩:=AQ (IL I.af e);refine ⟨D.typeIs,λb q=>?_,hd⟩;cases q;obtain ⟨B,_,_,L,O,_⟩:=CU D;exact ⟨B,L,O.2.1⟩
 .obtain ⟨_,hd,V,_,D⟩:=AQ (KY I.af e);refine ⟨D.typeIs,λb q=>?_,hd⟩;cases q;obtain ⟨B,_,_,L,O,_⟩:=CU D;exact ⟨B,L,O.2.1⟩
section
variable {X:Cx}{pins:List (Addr×Obj)}{σ:St}{H:Hp}{s:S0}{a:Addr}{y d:V}{u r:Value}{o:Option V}{A:Tt}{E:Value->S0->Prop}
theorem Ac5 {Q:Value->S0->Prop}(hu:A.units+1<cLine)(I:Ae X pins σ H s)(g:OE H a y o)(L:Ay y u)(O:Ay d r)(h:∀ Y s',Ae X pins σ H s'->Ay (o.getD d) Y->Q Y s') :
  S4 (S8 X.prog X.w) A (call (.builtin "dict.get") [.ref a,u,r]) Q E s:=by
 rcases g with ⟨D,k,e,J,l⟩ | ⟨D,k,b,e,J,eb,l⟩
 .subst J;obtain ⟨z,hd,vs,rel,B⟩:=AQ (IL I.af e);refine call_meetsIn YY B.typeIs Z8 (Z9 _ _ _) (meets_dict_get_default (Bm X.prog X.w) a (Fq L) hd r) ⟨_,B.mapOf,h _ _ (I.tok _) ?_⟩;rw [l];exact (rel.val k).getD O
 .subst J;cases (show u=TU b from L);obtain ⟨z,hd,xs,rel,B⟩:=AQ (KY I.af e);refine call_meetsIn YY B.typeIs Z8 (Z9 _ _ _) (meetsH_dict_get_default (Wv (Bm X.prog X.w)) a b hd r) ⟨Z7 hu,k,xs,KW I.af eb,B,h _ _ (I.tok _) ?_⟩;rw [l];exact (rel.val k).getD O
end
def Ac6 (td ty tx:TE):TE:=λσ H Q=>td σ H λx H1=>∃ a,x=.ref a/\OK H1 a/\ty σ H1 λy H2=>tx σ H2 λz H3=>∃ o,OE H3 a y o/\Q (o.getD z) H3
section
variable {X:Cx}{o e f:S7}{apos ba:Pos}{td ty tx:TE}
theorem OL (hu:X.A.units+1<cLine)(J:PE X o td)(L:PE X e ty)(O:PE X f tx)(m:M2 X o "get" apos e f ba):PE X (.Call (.Attribute o "get" apos) [e,f] [] ba) (Ac6 td ty tx):=by
 intro pins s σ H Q I h;refine wpAny_Call_method m.base m.aC m.line PySem.F.plainAttrs_dict YY PySem.F.type_dict_get (Al (J pins s σ H _ I h) λu V B=>AG B λx Y D rx ⟨a,ex,d,q1⟩=>?_);subst ex;obtain rfl:u=TU a:=rx;obtain ⟨t1,t2,_⟩:=AQ (Ac4 D d);refine ⟨t1,t2,?_⟩;rw [m.trees];refine ZL rfl (YD (Yo (Al (L pins V σ Y _ D q1) λiv s2 ⟨y,H2,I2,ry,q2⟩ =>
  Yo (Al (O pins s2 σ H2 _ I2 q2) λfv s3 B=>AG B λz H3 I3 rz ⟨ov,g,q3⟩=>ZC ?_))))
 exact Ac5 hu I3 g ry rz λw' s4 I4 bN=>⟨_,H3,I4,bN,q3⟩
end
section
variable {X:Cx}{pins:List (Addr×Obj)}{σ:St}{H:Hp}{s:S0}{a:Addr}{kvs:List (Au×V)}{A:Tt}{E:Value->S0->Prop}
end
section
variable {X:Cx}{pins:List (Addr×Obj)}{σ:St}{H:Hp}{s:S0}{a:Addr}{y:V}{u:Value}{A:Tt}{E:Value->S0->Prop}
end
section
variable {X:Cx}
end
section
variable {κ:Type} [DecidableEq κ]
end
structure OM (K:S3)(C f:Addr)(m:Str):Prop where
 rd:sV K C (.type "type")=true
 sp:Xo K (.ref C) "__getattribute__"=some (some (.builtin "type.__getattribute__"))
 fd:sW K (.ref C) (.type "type") m=some (.val (.ref f))
 ty:Yl K (.ref f)=some (.type "function")
 kp:Ux K (.ref f)=true
section
variable {X:Cx}{CX:BW}{k:Nat}{f C:Addr}{fd:Tn}{ps:List Str}{sp:Sp}{E:XK}{x m:Str}{p pos apos:Pos}{e:S7}{es:List S7}{t:TA}
theorem Ac7 {pl:Sem Bool}(c:OM X.K C f m)(g:Gm X.env.scope x)(Y:X.mg x=some (.ref C))(F:AB X.prog X.w X.K X.mg X.base CX k f fd ps sp)(hb:Dd X.K fd ps [])(hr:Bn k X.A)(hx:CF CX X E)(ha:PA X (e :: es) t)(aT:Tj (e :: es) X.env=(false,Tf e X.env) :: Tj es X.env:=by rfl)(aU:(TZ pos (Tj es X.env)).any (·.1)=false:=by rfl)(ht:Tf (.Call (.Attribute (.Name x p) m apos) (e :: es) [] pos) X.env=(Tf (.Name x p) X.env >>= λJ=>UW apos.atName >>= λ_=>UN [J] (Vu J m pl) >>= λL=>We pos L.1 L.2 (TZ pos (Tj (e :: es) X.env)) (Vk pos (Vl [] X.env))):=by rfl) :
  PE X (.Call (.Attribute (.Name x p) m apos) (e :: es) [] pos) (Ip sp [] E t):=by
 intro pins s σ H Q I h;refine WZ (pl:=pl) ?_ ht;have pn:PE X (.Name x p) (tC (.ref C)):=Fp g Y rfl;refine Al (pn pins s σ H (λv O=>v=.ref C/\O=H) I ⟨rfl,rfl⟩) λu s1 B=>Gj B λv O D rv e1 e2=>?_;subst e1 e2;cases rv;refine PySem.W.method_cls D.aN c.sp (PySem.W.cls_value D.aN c.rd c.fd rfl ?_);have I2:=D.tok (s1.toks+1);refine WY (first:=[]) (h₀:=X.base) I.ok.mod.eV c.kp (Al (ha pos pins _ σ _ _ I2 h) λus s2 B=>AG B λvs H2 V r q=>⟨V.aN,?_⟩) aT aU;exact FQ F hr hb .nil hx V r q
end
section
variable {X:Cx}
end
theorem IT:∀{vs:List Value}{zs:List Str},StrsAre vs zs->Aw (zs.map V.str) vs
 | _,_,.nil=>.nil
 | _,_,.cons n t r=>.cons ⟨t,rfl⟩ (IT r)
theorem K4:∀{zs:List Str}{vs:List Value},Aw (zs.map V.str) vs->StrsAre vs zs
 | [],_,.nil=>.nil
 | n :: zs,_,.cons r t=>by
  obtain ⟨B,rfl⟩:=r;exact .cons n B (K4 t)
def C7 (a b:Str):Prop:=a.cps.toList<=b.cps.toList
theorem Ac8 {a b c:Str}(h:C7 a b)(k:C7 b c):C7 a c:=List.le_trans h k
theorem Ac9 {a b:Str}(h:C7 a b)(k:C7 b a):a=b:=by have e:=YZ h k;cases a with | mk x=>cases b with | mk y=>cases x;cases y;simp_all
theorem ON:∀(l:List Str)(p:Str),risingS p l=true->(p :: l).Pairwise C7
 | [],p,_=>List.pairwise_singleton _ _
 | x :: r,p,h=>by
  have B:(!ltCps x.cps.toList p.cps.toList && risingS x r)=true:=h;rw [UK] at B;have ih:=ON r x B.2;have hx:C7 p x:=by have:=B.1;rw [ltCps_eq] at this;show ¬ (x.cps.toList<p.cps.toList);simpa using this
  refine sX.mpr ⟨λy hy=>?_,ih⟩;rcases Tq.mp hy with z | z
  .rw [z];exact hx
  .exact Ac8 hx ((sX.mp ih).1 y z)
theorem Ada:∀{l:List Str},sortedS l=true->l.Pairwise C7
 | [],_=>.nil
 | x :: r,h=>ON r x h
theorem OO {a b:List Str}(p:a.Perm b)(B:a.Pairwise C7)(hb:b.Pairwise C7):a=b :=
 List.Perm.eq_of_pairwise (le:=C7) (λx y _ _ D H=>Ac9 D H) B hb p
section
variable {X:Cx}
theorem GY:BB X (.builtin "sorted") (λxs H Q=>∃(p:Addr)(zs:List Str),xs=[.ref p]/\Ba X.K H p (zs.map V.str)/\zs.length<64/\∀(l:Addr)(B:List Str),H l=none->B.Perm zs->B.Pairwise C7->Q (.ref l) (upd H l (.lst (B.map V.str)))):=by
 intro pins s σ H xs us Q I r h;replace h:=Bi h;obtain ⟨p,zs,rfl,hq,hl,q⟩:=h
 obtain ⟨u,rfl,O⟩:=Ao (CJ r);cases O;obtain ⟨its,J,pl,hz⟩:=AD (I.list hq);have e:=J.length;rw [Tb] at e;refine sorted_strs pl.isList (K4 J) (by omega) λD B Y L a3=>?_;obtain ⟨c,ho⟩:=sortedAll_at s.heap its D;have fr:H (s.heap.objs.size+1)=none:=I.af.fresh (UA _);refine ⟨.ref (s.heap.objs.size+1),_,I.laid (t':=s.toks) (λb o q=>sortedAll_old q) (UA _) (show Be X.prog X.w _ _ _ (.lst (B.map V.str)) from ⟨?_,D.toList,c,IT Y,by simpa using ho⟩),rfl,q _ B fr L (Ada a3)⟩;rw [Tb,L.length_eq,Tc];omega
theorem Adb (hc:X.calm=true):BB X (.builtin "all") (λxs H Q=>∃(p:Addr)(bs:List Bool),xs=[.ref p]/\Ba X.K H p (bs.map V.bl)/\Q (.bl (bs.all id)) H):=by
 intro pins s σ H xs us Q I r h;replace h:=Bi h;obtain ⟨p,bs,rfl,hq,q⟩:=h
 obtain ⟨u,rfl,rx⟩:=Ao (CJ r);cases rx;obtain ⟨its,L,pl,hz⟩:=AD (I.list hq);refine call_all_walk (Yf pl.isList ?_);have au:p<s.heap.objs.size:=by obtain ⟨o,e,_⟩:=Ao pl.isList;exact Tv e
 have J:=L.length;rw [Tb] at J;have hb:∀(i:Nat)(v:Value),its.toArray[i]?=some v->v=WL (bs.getD i true):=λi v hv=>by
  have O:its[i]?=some v:=by simpa using hv
  have B:i<bs.length:=by rw [J];exact (TH.mp O).1
  obtain ⟨u,Y,e2⟩:=L.get (i:=i) (x:=.bl bs[i]) (by rw [Tp,TC B];rfl);rw [O] at Y;cases Y;rw [Uc,TC B];exact e2
 refine ⟨s.heap.objs.size,_,_,_,_,_,λi=>bs.getD i true,rfl,Walks.list (by simpa using I.ok.hd hc) s.heap.objs.size p (TK au) its.toArray,⟨⟨_,Uq _ rfl,rfl,rfl⟩,pl.isList.push _⟩,λi v s' Q' E' hv fP=>?_,λh' tk hk=>?_⟩
 .rw [hb i v hv];exact V5 fP
 .have e:(Ur its.toArray.size).all (λi=>bs.getD i true)=bs.all id:=by
   rw [TR,<- J,VF,WI,WI];constructor
   .intro h b D;obtain ⟨i,B,rfl⟩:=U1 D;have:=h i (Us.mpr B);rwa [Uc,TC B] at this
   .intro h i B;have bp:=Us.mp B;rw [Uc,TC bp];exact h _ (Wq bp)
  rw [e];have I2:Ae X pins σ H { s with heap:=h',toks:=tk }:=I.kept (t':=tk) λb o D=>hk b o (λz=>by
   rw [TX.mp z] at D;exact absurd (Tv D) (UM _)) (TF _ D)
  exact ⟨.bl _,H,I2,rfl,q⟩
end
end L2
namespace L2
open PySem PySem.Spec PyProof.Rows PySem.W
section
variable {n:Nat}{key:Nat->List Nat}{cmp:Nat->Nat->(Bool->S0->Prop)->S0->Prop}{s:S0}
noncomputable def Bb (p:Array Nat)(i:Nat):Nat:=p.getD i 0
theorem Dx (p:Array Nat)(i:Nat):Bb p i=(p[i]?).getD 0:=by unfold Bb;rw [Array.getD_eq_getD_getElem?]
structure Pm (n:Nat)(p:Array Nat):Prop where
 pm:p.toList.Perm (Ur n)
theorem Pm.size {p:Array Nat}(h:Pm n p):p.size=n:=by have:=h.pm.length_eq;simpa using this
theorem Pm.lt {p:Array Nat}(h:Pm n p){i:Nat}(B:i<n):Bb p i<n:=by
 have hs:i<p.size:=by rw [h.size];exact B
 rw [Dx,WD hs];exact Us.mp (h.pm.mem_iff.mp (Array.getElem_mem_toList hs))
theorem Pm.inj {p:Array Nat}(h:Pm n p){i j:Nat}(D:i<n)(H:j<n)(e:Bb p i=Bb p j):i=j:=by
 have hs:i<p.size:=by rw [h.size];exact D
 have B:j<p.size:=by rw [h.size];exact H
 rw [Dx,Dx,WD hs,WD B] at e;have nd:p.toList.Nodup:=h.pm.nodup_iff.mpr List.nodup_range;have I:p.toList[i]'(by simpa using hs)=p.toList[j]'(by simpa using B):=by simpa using e
 exact (Xj nd).mp I
structure Ky (n:Nat)(key:Nat->List Nat)(cmp:Nat->Nat->(Bool->S0->Prop)->S0->Prop)(s:S0):Prop where
 df:∀ i j,i<n->j<n->i≠j->key i≠key j
 ok:∀ i j C,i<n->j<n->C (decide (key i<key j)) s->cmp i j C s
def Up (key:Nat->List Nat)(p:Array Nat)(m:Nat):Prop:=∀ i j,i<j->j<m->key (Bb p i)<key (Bb p j)
def Dn (key:Nat->List Nat)(p:Array Nat)(m:Nat):Prop:=∀ i j,i<j->j<m->key (Bb p j)<key (Bb p i)
theorem K5 (k:Ky n key cmp s){p:Array Nat}(h:Pm n p){i j:Nat}(B:i<n)(D:j<n)(d:i≠j)(z:¬ key (Bb p i)<key (Bb p j)):key (Bb p j)<key (Bb p i):=by
 have ne:key (Bb p i)≠key (Bb p j):=k.df _ _ (h.lt B) (h.lt D) λe=>d (h.inj B D e);rcases List.le_total (key (Bb p i)) (key (Bb p j)) with q | q
 .exact absurd (YZ q (List.not_lt.mp z)) ne
 .exact XE λw=>ne (YZ (List.not_lt.mp w) q)
theorem Up.more {p:Array Nat}{m:Nat}(u:Up key p m)(h:m=0\/key (Bb p (m - 1))<key (Bb p m)):Up key p (m+1):=λi j B D=>by
 by_cases e:j<m
 .exact u i j B e
 .have e:j=m:=by omega
  subst e;rcases h with h | h
  .omega
  .by_cases q:i=j - 1
   .rw [q];exact h
   .exact XF (u i (j - 1) (by omega) (by omega)) h
theorem Dn.more {p:Array Nat}{m:Nat}(u:Dn key p m)(h:m=0\/key (Bb p m)<key (Bb p (m - 1))):Dn key p (m+1):=λi j B D=>by
 by_cases e:j<m
 .exact u i j B e
 .have e:j=m:=by omega
  subst e;rcases h with h | h
  .omega
  .by_cases q:i=j - 1
   .rw [q];exact h
   .exact XF h (u i (j - 1) (by omega) (by omega))
theorem K6 (k:Ky n key cmp s){p:Array Nat}(B:Pm n p){Q:Nat->S0->Prop}:∀(f m:Nat),1<=m->m+f=n->Up key p m->(∀ m',m<=m'->m'<=n->Up key p m'->(m'<n->key (Bb p m')<key (Bb p (m' - 1)))->Q m' s)->(kas_asc p f m).kasWp cmp Q s
 | 0,m,H,I,u,q=>q m (Ti _) (by omega) u λz=>by omega
 | f+1,m,H,I,u,q=>by
  refine k.ok _ _ _ (B.lt (i:=m) (by omega)) (B.lt (i:=m - 1) (by omega)) ?_;by_cases c:key (Bb p m)<key (Bb p (m - 1))
  .have D:key (p.getD m 0)<key (p.getD (m - 1) 0):=c;rw [decide_eq_true D];dsimp only;rw [if_pos rfl];exact q m (Ti _) (by omega) u λ_=>c
  .have D:¬ key (p.getD m 0)<key (p.getD (m - 1) 0):=c;rw [decide_eq_false D];dsimp only;rw [if_neg (by decide)];exact K6 k B f (m+1) (by omega) (by omega) (u.more (.inr (K5 k B (by omega) (by omega) (by omega) c))) λm' a b=>q m' (by omega) b
theorem OP (k:Ky n key cmp s){p:Array Nat}(B:Pm n p){Q:Array Nat×Nat×Nat->S0->Prop}:∀(f m:Nat),1<=m->m+f=n->Dn key p m->(∀ m',m<=m'->m'<=n->Dn key p m'->Q (p,m',0) s)->(kas_desc f p m 0).kasWp cmp Q s
 | 0,m,H,I,u,q=>q m (Ti _) (by omega) u
 | f+1,m,H,I,u,q=>by
  refine k.ok _ _ _ (B.lt (i:=m) (by omega)) (B.lt (i:=m - 1) (by omega)) ?_;by_cases c:key (Bb p m)<key (Bb p (m - 1))
  .have D:key (p.getD m 0)<key (p.getD (m - 1) 0):=c;rw [decide_eq_true D];dsimp only;rw [if_pos rfl,if_neg (by decide)];exact OP k B f (m+1) (by omega) (by omega) (u.more (.inr c)) λm' a b=>q m' (by omega) b
  .have D:¬ key (p.getD m 0)<key (p.getD (m - 1) 0):=c;rw [decide_eq_false D];dsimp only;rw [if_neg (by decide)];have d:=K5 k B (i:=m) (j:=m - 1) (by omega) (by omega) (by omega) c;have J:key (p.getD (m - 1) 0)<key (p.getD m 0):=d;refine k.ok _ _ _ (B.lt (i:=m - 1) (by omega)) (B.lt (i:=m) (by omega)) ?_;rw [decide_eq_true J];dsimp only;rw [if_pos rfl];exact q m (Ti _) (by omega) u
theorem OQ {p:Array Nat}{m:Nat}(B:m<=p.size)(i:Nat):Bb (kas_rev p 0 m) i=if i<m then Bb p (m - 1 - i) else Bb p i:=by
 rw [Dx,Dx,Dx];unfold kas_rev;rw [getElem?_mirror B _ (by omega)];split
 .rename_i h
  have D:i<m:=by omega
  rw [if_pos D];congr 2
  omega
 .rename_i h
  split
  .congr 2
   omega
  .rfl
theorem Pm.rev {p:Array Nat}(h:Pm n p)(m:Nat):Pm n (kas_rev p 0 m):=⟨(sZ.mp (mirror_perm _ _ _ _)).trans h.pm⟩
theorem Dn.rev {p:Array Nat}{m:Nat}(h:Dn key p m)(B:m<=p.size):Up key (kas_rev p 0 m) m:=λi j H D=>by
 rw [OQ B,OQ B,if_pos (by omega),if_pos D];exact h _ _ (by omega) (by omega)
theorem Adc (k:Ky n key cmp s){p:Array Nat}(B:Pm n p)(V:1<=n){Q:Nat×Array Nat->S0->Prop}(q:∀ m D,1<=m->m<=n->Pm n D->Up key D m->Q (m,D) s):(kas_count n p).kasWp cmp Q s:=by
 unfold kas_count;rw [Xc];refine K6 k B (n - 1) 1 (Ti _) (by omega) (λi j a b=>by omega) λm H I u d=>?_;by_cases e:m=n
 .rw [if_pos (beq_iff_eq.mpr e)];exact q m p H I B u
 .rw [if_neg (λz=>e (beq_iff_eq.mp z))];by_cases g:m > 1
  .rw [if_pos g];have c:key (p.getD 0 0)<key (p.getD (m - 1) 0):=u 0 (m - 1) (by omega) (by omega);refine k.ok _ _ _ (B.lt (i:=0) (by omega)) (B.lt (i:=m - 1) (by omega)) ?_;rw [decide_eq_true c];dsimp only;rw [if_pos rfl];exact q m p H I B u
  .rw [if_neg g];have J:m=1:=by omega
   subst J;unfold kas_descPart;rw [Xc];refine OP k B (n - 2) 2 (by decide) (by omega) (Dn.more (m:=1) (λi j a b=>by omega) (.inr (d (by omega)))) λm' a b dn=>?_;rw [if_neg (by simp)];unfold kas_tail3;rw [Xc];have Y:=B.size;exact K6 k (B.rev m') (n - m') m' (by omega) (by omega) (dn.rev (by omega)) λm2 c1 L O _=>q m2 _ (by omega) L (B.rev m') O
theorem K7 (k:Ky n key cmp s){p:Array Nat}(B:Pm n p){c:Nat}(hc:c<n)(u:Up key p c){Q:Nat->S0->Prop}(q:∀ l,l<=c->(∀ i,i<l->key (Bb p i)<key (Bb p c))->(∀ i,l<=i->i<c->key (Bb p c)<key (Bb p i))->Q l s) :
  ∀(f l r:Nat),l<=r->r<=c->r - l<=f->(∀ i,i<l->key (Bb p i)<key (Bb p c))->(∀ i,r<=i->i<c->key (Bb p c)<key (Bb p i))->(kas_place p c f l r).kasWp cmp Q s
 | 0,l,r,I,D,J,a,b=>by
  have e:l=r:=by omega
  subst e;exact q l D a b
 | f+1,l,r,I,D,J,a,b=>by
  unfold kas_place;by_cases g:l ≥ r
  .rw [if_pos g];have e:l=r:=by omega
   subst e;exact q l D a b
  .rw [if_neg g];refine k.ok _ _ _ (B.lt (i:=c) hc) (B.lt (i:=(l+r) / 2) (by omega)) ?_;by_cases z:key (Bb p c)<key (Bb p ((l+r) / 2))
   .have H:key (p.getD c 0)<key (p.getD ((l+r) / 2) 0):=z;rw [decide_eq_true H];dsimp only;rw [if_pos rfl];refine K7 k B hc u q f l ((l+r) / 2) (by omega) (by omega) (by omega) a λi L O=>?_;by_cases e:i=(l+r) / 2
    .rw [e];exact z
    .exact XF z (u _ _ (by omega) O)
   .have H:¬ key (p.getD c 0)<key (p.getD ((l+r) / 2) 0):=z;rw [decide_eq_false H];dsimp only;rw [if_neg (by decide)];have y:=K5 k B (i:=c) (j:=(l+r) / 2) hc (by omega) (by omega) z;refine K7 k B hc u q f ((l+r) / 2+1) r (by omega) (by omega) (by omega) (λi L=>?_) b;by_cases e:i=(l+r) / 2
    .rw [e];exact y
    .exact XF (u _ _ (by omega) (by omega)) y
theorem OR {p:Array Nat}{c l:Nat}(hc:c<p.size)(B:l<=c)(i:Nat):Bb (bubble p c (c - l)) i=if i=l then Bb p c else if l<i/\i<=c then Bb p (i - 1) else Bb p i:=by
 rw [Dx,getElem?_bubble hc (c - l) (by omega)];have e:c - (c - l)=l:=by omega
 rw [e,Dx,Dx,Dx];split
 .rfl
 .split<;>rfl
theorem OS (k:Ky n key cmp s){Q:Array Nat->S0->Prop}(q:∀ p,Pm n p->Up key p n->Q p s):∀(f:Nat)(p:Array Nat)(c:Nat),Pm n p->c+f=n->Up key p c->(kas_bin f p c).kasWp cmp Q s
 | 0,p,c,B,e,u=>by
  have e:c=n:=by omega
  subst e;exact q p B u
 | f+1,p,c,B,e,u=>by
  unfold kas_bin;rw [Xc];have V:=B.size;refine K7 k B (by omega) u (λl D a b=>?_) c 0 c (T5 _) (Ti _) (Ti _) (λi z=>by omega) (λi Y z2=>by omega);refine OS k q f _ (c+1) ⟨(sZ.mp (bubble_perm _ _ _)).trans B.pm⟩ (by omega) λi j J hj=>?_;rw [OR (by omega) D,OR (by omega) D];by_cases H:i=l
  .rw [if_pos H,if_neg (by omega),if_pos (by omega)];exact b _ (by omega) (by omega)
  .rw [if_neg H];by_cases L:l<i
   .rw [if_pos ⟨L,by omega⟩,if_neg (by omega),if_pos (by omega)];exact u _ _ (by omega) (by omega)
   .rw [if_neg (by omega)];by_cases I:j=l
    .rw [if_pos I];exact a i (by omega)
    .rw [if_neg I];by_cases O:l<j
     .rw [if_pos ⟨O,by omega⟩];by_cases e5:i=j - 1
      .omega
      .exact u _ _ (by omega) (by omega)
     .rw [if_neg (by omega)];exact u _ _ J (by omega)
theorem Ade (k:Ky n key cmp s)(D:1<=n){Q:Array Nat->S0->Prop}(q:∀ p,Pm n p->Up key p n->Q p s):(kas_sort n).kasWp cmp Q s:=by
 unfold kas_sort;rw [Xc];refine Adc k ⟨by simp⟩ D λm p H I B u=>?_;by_cases e:m<n
 .rw [if_pos e];have em:max m 1=m:=by omega
  rw [em];exact OS k q (n - m) p m B (by omega) u
 .rw [if_neg e];have e:m=n:=by omega
  subst e;exact q p B u
end
end L2
namespace L2
open PySem PySem.Spec PyProof.Rows PySem.W
section
variable {prog:Ta}{w:S6}{A:Tt}{E:Value->S0->Prop}{s:S0}
def K8 (prog:Ta)(w:S6)(A:Tt)(key:Nat->List Nat)(vs:List Value)(s:S0):Prop :=
 S4 (S8 prog w) A (keyKind' vs.toArray) (λκ s2=>s2=s/\Ky vs.length key (kas_ask prog w A κ vs) s) (λ_ _=>False) s
noncomputable def D0 (p:Array Nat)(vs:List Value):Array Value:=(p.toList.map λi=>vs.getD i UC).toArray
theorem OT (vs:List Value):D0 (Ur vs.length).toArray vs=vs.toArray:=by
 unfold D0;congr 1
 refine tq (by simp) λi D B=>?_;simp [Uc,TC B]
theorem Adf {a:Addr}{vs:List Value}{n:Nat}{key:Nat->List Nat}{P:Fin->S0->Prop}(J:s.heap.get? a=some (Um "list" vs.toArray n))(aC:vs.length<64)(hk:2<=vs.length->∀ h',(∀ b o,b≠a->s.heap.get? b=some o->h'.get? b=some o)->K8 prog w A key vs { s with heap:=h' })(q:∀ p,Pm vs.length p->Up key p vs.length->P (.done (.ret .none)) { s with heap:=sortedHeap s.heap a vs (D0 p vs) }):S4 (S8 prog w) A (Builtin.«list.sort» ⟨[.ref a],[]⟩) P E s:=by
 rw [list_sort_plain];have lt:a<s.heap.objs.size:=Tv J;refine S5 (listItems_at J rfl (S5 (Y0 J rfl ?_)));obtain ⟨c,hc⟩:∃ c,(s.heap.update a (UB λ_=>#[])).get? a=some (Um "list" #[] c):=⟨_,get?_update_seq J (λ_=>#[])⟩;refine S5 (Y1 hc rfl (S5 (tu (S5 (wpAny_newList (U5 ?_))))));have n1:a≠(s.heap.update a (UB λ_=>#[])).objs.size:=by rw [Y2];exact TK lt
 have n2:a≠((s.heap.update a (UB λ_=>#[])).push (Um "tuple" vs.toArray 0)).objs.size:=by rw [size_push',Y2];exact TK (XG lt)
 have hd:(((s.heap.update a (UB λ_=>#[])).push (Um "tuple" vs.toArray 0)).push (Um "list" #[] 0)).get? a=some (Um "list" #[] c):=by rw [tD _ _ _ n2,tD _ _ _ n1];exact hc
 have V:∀ b o,b≠a->s.heap.get? b=some o->(((s.heap.update a (UB λ_=>#[])).push (Um "tuple" vs.toArray 0)).push (Um "list" #[] 0)).get? b=some o:=λb o hb e =>
  TF _ (TF _ (by rw [tE _ _ _ _ hb];exact e))
 show S4 (S8 prog w) A _ P E { s with heap:=((s.heap.update a (UB λ_=>#[])).push (Um "tuple" vs.toArray 0)).push (Um "list" #[] 0) };have Y:∀ p,Pm vs.length p->Up key p vs.length->P (.done (.ret .none)) { s with heap:=(((s.heap.update a (UB λ_=>#[])).push (Um "tuple" vs.toArray 0)).push (Um "list" #[] 0)).update a (UB λ_=>D0 p vs) }:=q;have pH:=λh2=>hk h2 _ V;generalize ((s.heap.update a (UB λ_=>#[])).push (Um "tuple" vs.toArray 0)).push (Um "list" #[] 0)=G at hd Y pH ⊢;dsimp only;have sz:vs.toArray.size=vs.length:=TR;by_cases two:vs.toArray.size<2
 .rw [if_pos two,if_pos two];refine S5 (Te ?_);rw [StateT.run_pure];refine S5 (Te ?_);dsimp only;have e0:(arrOf (SortSt.mk' general' (vs.toArray.zip vs.toArray) #[] 7 none)).map (·.2)=D0 (Ur vs.length).toArray vs:=by
   rw [OT];show (vs.toArray.zip vs.toArray).map (·.2)=_;rw [Array.map_snd_zip]<;>simp
  refine S5 (Y1 hd rfl (S5 (Y0 hd rfl ?_ (hsz2:=by rw [e0,OT,sz,Tc];omega))));simp only [bne_self_eq_false,WE,if_false];rw [e0];exact Te (Y _ ⟨by simp⟩ λi j h1 h2=>by omega)
 .rw [if_neg two,if_neg two];refine S5 (U4 (pH (by omega)) (λκ s2 ⟨e,ky⟩=>?_) λ_ _ f=>f.elim);subst e;refine S5 (U4 (kat_run (ks:=vs) (vs:=vs) (Q:=λL H=>H={ s with heap:=G }/\failedOf L=none/\∃ p,Pm vs.length p/\Up key p vs.length/\(arrOf L).map (·.2)=D0 p vs) (G:=λp H=>H={ s with heap:=G }/\Pm vs.length p/\Up key p vs.length) rfl (by omega) aC
   (λp L H _ I O ⟨e,D,u⟩=>⟨e,O,p,D,u,kat_snds rfl I⟩) (Ade ky (by omega) λp D u=>⟨rfl,D,u⟩)) (λr H ⟨e,O,p,D,u,I⟩=>?_) λ_ _ f=>f)
  subst e;obtain ⟨⟨⟩,L⟩:=r;dsimp only at O I ⊢;have B:(D0 p vs).size<=sizeLine:=by unfold D0;rw [TR,Tb,UE,D.size,Tc];omega
  refine S5 (Y1 hd rfl (S5 (Y0 hd rfl ?_ (hsz2:=by rw [I];exact Nat.le_succ_of_le B))));rw [O,I];simp only [bne_self_eq_false,WE,if_false];exact Te (Y p D u)
theorem Adg {l:Addr}{vs:List Value}{key:Nat->List Nat}{Q:Value->S0->Prop}(I:s.heap.IsList l vs.toArray)(aC:vs.length<64)(hk:2<=vs.length->∀ h',(∀ b o,s.heap.get? b=some o->h'.get? b=some o)->K8 prog w A.in1.in1 key vs { s with heap:=h' })(q:∀ p,Pm vs.length p->Up key p vs.length->Q (.ref (s.heap.objs.size+1)) { s with heap:=sortedAll s.heap vs (D0 p vs) }):S4 (S8 prog w) A (call (.builtin "sorted") [.ref l]) Q E s:=by
 refine Calls.call_function_entry kind_sorted plain_sorted entry_sorted (args_sorted1 _) ?_;unfold Builtin.«sorted»;refine S5 (m:=checkCount "sorted" 1 1 _) (Te (S5 (collect_list I (S5 (wpAny_newList ?_ (by rw [Tc];omega))) (by rw [Tc];omega))));have D:((s.heap.push (Um "list" #[] 0)).update s.heap.objs.size (UB (·++vs.toArray))).objs.size=s.heap.objs.size+1:=by rw [Y2,size_push']
 have H:(((s.heap.push (Um "list" #[] 0)).update s.heap.objs.size (UB (·++vs.toArray))).push (Um "list" vs.toArray 0)).get? (s.heap.objs.size+1)=some (Um "list" vs.toArray 0):=D▸Uq _ rfl;have keep:∀ b o,s.heap.get? b=some o->(((s.heap.push (Um "list" #[] 0)).update s.heap.objs.size (UB (·++vs.toArray))).push (Um "list" vs.toArray 0)).get? b=some o:=λb o e =>
  TF _ (by rw [tE _ _ _ _ (TK (Tv e))];exact TF _ e)
 show S4 _ _ _ _ _ { s with heap:=((s.heap.push (Um "list" #[] 0)).update s.heap.objs.size (UB (·++vs.toArray))).push (Um "list" vs.toArray 0) };rw [D];refine S5 (U5 (Wg slot_list_sort ⟨_,H,rfl⟩ entry_list_sort (Adf (key:=key) H aC (λJ h' B=>hk J h' λb o e=>B b o (TK (XG (Tv e))) (keep b o e)) λp L u=>⟨_,rfl,?_⟩) (args_list_sort _)));exact Te ⟨_,rfl,q p L u⟩
end
end L2
namespace L2
open PySem PySem.Spec PyProof.Rows PySem.W
abbrev Pr:=Addr×Str×Int
noncomputable def BA (t:Pr):V:=.ref t.1
def D1 (H:Hp)(ts:List Pr):Prop:=∀ t∈ts,H t.1=some (.tup [.str t.2.1,.int t.2.2])
theorem D1.same {H B:Hp}{ts:List Pr}(h:D1 H ts)(s:Ag H B):D1 B ts:=λt m=>s _ _ (h t m)
section
variable {X:Cx}{pins:List (Addr×Obj)}{σ:St}{H:Hp}{s:S0}
theorem Adh (I:Ae X pins σ H s){t:Pr}(h:H t.1=some (.tup [.str t.2.1,.int t.2.2])):∃ o tk B n,s.heap.get? t.1=some o/\o.cls=.type "tuple"/\o.data=.seq #[Uj t.2.1 tk,Uw t.2.2 B] n:=by obtain ⟨_,its,r,o,e,c,n,d⟩:=(show Be X.prog X.w H s.heap t.1 _ from I.af _ _ h);obtain ⟨_,_,rfl,⟨tk,rfl⟩,B,rfl⟩:=Bi r.two;exact ⟨o,tk,B,n,e,c,d⟩
noncomputable def GZ (ts:List Pr)(i:Nat):List Nat:=(ts.getD i (0,Ua,0)).2.1.cps.toList
theorem Adi {x y:Str}(h:x.cps.toList=y.cps.toList):x=y:=by cases x with | mk a=>cases y with | mk b=>cases a;cases b;simp_all
theorem K9 {ts:List Pr}{vs:List Value}(r:Aw (ts.map BA) vs){i:Nat}(B:i<ts.length):vs.getD i UC=.ref ts[i].1:=by obtain ⟨u,e,q⟩:=r.get (i:=i) (x:=.ref ts[i].1) (by rw [Tp,TC B];rfl);rw [Uc,e];exact q
theorem IU {ts:List Pr}{i:Nat}(B:i<ts.length):GZ ts i=ts[i].2.1.cps.toList:=by unfold GZ;rw [Uc,TC B];rfl
theorem OU {h:Heap}:∀{ts:List Pr}{vs:List Value},Aw (ts.map BA) vs->(∀ t∈ts,∃ o tk B n,h.get? t.1=some o/\o.cls=.type "tuple"/\o.data=.seq #[Uj t.2.1 tk,Uw t.2.2 B] n) ->
  ∃ fs:List Value,KatTups h vs fs/\fs.length=ts.length/\∀ f∈fs,∃ z t,f=Uj z t
 | [],_,.nil,_=>⟨[],trivial,rfl,λ_ m=>nomatch m⟩
 | t :: ts,v :: vs,.cons r q,k=>by
  obtain ⟨fs,a,b,c⟩:=OU q λD m=>k D (T1 _ m);obtain ⟨o,tk,B,n,I,J,L⟩:=Du (k t T9);have r:v=.ref t.1:=r;subst r;refine ⟨Uj t.2.1 tk :: fs,KatTups.cons I J L rfl a,by rw [UG,UG,b],λf O=>?_⟩;rcases Tq.mp O with z | z
  .exact ⟨_,_,z⟩
  .exact c f z
theorem Adj {A:Tt}{ts:List Pr}{vs:List Value}{h':Heap}(r:Aw (ts.map BA) vs)(B:∀ t∈ts,∃ o tk O n,h'.get? t.1=some o/\o.cls=.type "tuple"/\o.data=.seq #[Uj t.2.1 tk,Uw t.2.2 O] n)(nd:(ts.map (·.2.1)).Nodup)(two:2<=vs.length):K8 X.prog X.w A (GZ ts) vs { s with heap:=h' }:=by
 have V:=r.length;rw [Tb] at V;obtain ⟨fs,Y,k2,k3⟩:=AD (OU r B);refine kat_kind (s:={ s with heap:=h' }) (T:=.type "str") Y (by omega) (λv m=>?_) (by decide) ⟨rfl,⟨λi j hi hj ne e=>?_,λi j C hi hj hc=>?_⟩⟩
 .obtain ⟨z,t,rfl⟩:=k3 v m;exact Looks.of_pure rfl
 .rw [IU (by omega),IU (by omega)] at e;have e':=Adi e;have D:i<(ts.map (·.2.1)).length:=by rw [Tb];omega
  have I:j<(ts.map (·.2.1)).length:=by rw [Tb];omega
  exact ne ((Xj (h₀:=D) (h₁:=I) nd).mp (by simpa using e'))
 .have J:i<ts.length:=by omega
  have L:j<ts.length:=by omega
  show S4 _ A (keyLt' (tuples' true) (vs.getD i UC) (vs.getD j UC)) C _ _;rw [K9 r J,K9 r L];obtain ⟨o1,a1,b1,n1,x1,x2,x3⟩:=B ts[i] (Wq J);obtain ⟨o2,a2,b2,n2,y1,y2,y3⟩:=B ts[j] (Wq L);refine kat_lt (s:={ s with heap:=h' }) x1 x3 y1 y3 (kat_cons (eqBool_str ?_));rw [IU J,IU L] at hc;by_cases e:ts[i].2.1=ts[j].2.1
  .have D:i<(ts.map (·.2.1)).length:=by rw [Tb];omega
   have I:j<(ts.map (·.2.1)).length:=by rw [Tb];omega
   have ij:i=j:=(Xj (h₀:=D) (h₁:=I) nd).mp (by simpa using e);subst ij;rw [beq_self_eq_true];refine kat_yes (kat_cons (Zo ?_));rw [beq_self_eq_true];refine kat_yes (kat_nil ?_);rw [decide_eq_false (List.lt_irrefl _)] at hc;simpa using hc
  .rw [beq_eq_false_iff_ne.mpr e];exact kat_no (oneLt_str hc)
theorem Adk:BB X (.builtin "sorted") (λxs H Q=>∃(p:Addr)(ts:List Pr),xs=[.ref p]/\Ba X.K H p (ts.map BA)/\D1 H ts/\(ts.map (·.2.1)).Nodup/\ts.length<64 /\
  ∀(l:Addr)(J:List Pr),H l=none->J.Perm ts->J.Pairwise (λa b=>C7 a.2.1 b.2.1)->Q (.ref l) (upd H l (.lst (J.map BA)))):=by
 intro pins s σ H xs us Q I r h;replace h:=Gk h;obtain ⟨p,ts,rfl,hq,L,nd,O,q⟩:=h
 obtain ⟨u,rfl,rx⟩:=Ao (CJ r);cases rx;obtain ⟨its,V,pl,hz⟩:=AD (I.list hq);have el:=V.length;rw [Tb] at el;have objs:=λt (m:t∈ts)=>Adh I (L t m);refine Adg (key:=GZ ts) pl.isList (by omega) (λtwo h' keep=>Adj V (λt m=>?_) nd two) λB hp up=>?_
 .obtain ⟨o,a,b,n,e1,e2,e3⟩:=Du (objs t m);exact ⟨o,a,b,n,keep _ _ e1,e2,e3⟩
 .obtain ⟨c,ho⟩:=sortedAll_at s.heap its (D0 B its);have fr:H (s.heap.objs.size+1)=none:=I.af.fresh (UA _);have D:=hp.pm;rw [<- el] at D up;have Y:∀ i∈B.toList,i<ts.length:=λi m=>Us.mp (D.mem_iff.mp m);have vv:∀ l:List Nat,(∀ i∈l,i<ts.length)->Aw ((l.map λi=>ts.getD i (0,Ua,0)).map BA) (l.map λi=>its.getD i UC):=λl O=>by
   induction l with
   | nil=>exact .nil
   | cons i l ih =>
    have hi:=O i T9;refine .cons ?_ (ih λj m=>O j (T1 _ m));dsimp only;rw [K9 V hi,Uc,TC hi];rfl
  have perm:(B.toList.map λi=>ts.getD i (0,Ua,0)).Perm ts:=by have:=D.map λi=>ts.getD i (0,Ua,0);refine this.trans (List.Perm.of_eq ?_);refine tq (by simp) λi h1 h2=>?_;simp [Uc,TC h2]
  have sz:B.size=ts.length:=by have:=D.length_eq;simpa using this
  refine ⟨.ref (s.heap.objs.size+1),_,I.laid (t':=s.toks) (λb o q=>sortedAll_old q) (UA _) (show Be X.prog X.w _ _ _ (.lst ((B.toList.map λi=>ts.getD i (0,Ua,0)).map BA)) from ⟨?_,(B.toList.map λi=>its.getD i UC),c,vv _ Y,ho⟩),rfl,q _ _ fr perm ?_⟩
  .rw [Tb,Tb,UE,sz,Tc];omega
  .rw [XH,List.pairwise_iff_getElem];intro i j h1 h2 hij;have k1:i<B.size:=by simpa using h1
   have k2:j<B.size:=by simpa using h2
   have:=up i j hij (by omega);rw [Dx,Dx,WD k1,WD k2] at this;simp only [tF,GZ] at this;have t':(ts.getD B.toList[i] (0,Ua,0)).2.1.cps.toList<(ts.getD B.toList[j] (0,Ua,0)).2.1.cps.toList:=by simpa using this
   exact List.le_of_lt t'
end
end L2
namespace L2
open PySem PySem.Spec PyProof.Rows
noncomputable def Cz (w:S6):Bool:=w.params.followText "set-order"
def IV (w:S6)(e:Int×Value):Prop:=∃ z tk,e=(U3 w z,Uj z tk)
noncomputable def DK (e:Int×Value):Str:=match e.2 with
 | .str z _=>z
 | _=>Ua
def Dg (w:S6)(h:Heap)(a:Addr)(zs:List Str):Prop:=∃ o es ep t,h.get? a=some o/\o.ExactSet/\o.data=.set es ep t/\zs=es.toList.map DK/\(∀ e∈es.toList,IV w e)/\zs.Nodup/\zs.length<3000/\t.fits es.size=true/\t.led=!Cz w/\(zs≠[]->t.plain=false)
theorem Dg.at {w:S6}{h h':Heap}{a:Addr}{zs:List Str}(x:Dg w h a zs)(k:∀ o,h.get? a=some o->h'.get? a=some o):Dg w h' a zs:=by obtain ⟨o,es,B,t,e,r⟩:=Du x;exact ⟨o,es,B,t,k _ e,r⟩
theorem Adl {prog:Ta}{w:S6}{l:List (Int×Value)}(h:∀ e∈l,IV w e):ElemsOf (Bm prog w) l:=λe m=>by
 obtain ⟨z,B,rfl⟩:=h e m;exact ⟨⟨T2 z,FL prog w z B,rfl⟩,rfl⟩
theorem OV {w:S6}{e:Int×Value}{z:Str}(h:IV w e):DT (T2 z) e.2=true↔DK e=z:=by
 obtain ⟨y,B,rfl⟩:=h;show Xg z (.str y B)=true↔y=z;constructor
 .intro q;obtain ⟨t,e⟩:=Zn q;injection e
 .rintro rfl;exact MZ y B
theorem Adm (t:Vp)(n:Nat):(t.orStandIn n).led=t.led:=by unfold tH tI;split<;>rfl
theorem Adn {t:Vp}{n:Nat}(h:t.plain=false):(t.orStandIn n).plain=false:=by unfold tH tI;split<;>first | exact h | rfl
theorem Ado (t:Vp)(es:Array (Int×Value))(h:Int)(x:Value):(WJ t es h x).2.1.led=t.led:=by
 unfold WJ;split
 .exact Adm _ _
 .rfl
theorem Adp {t:Vp}{es:Array (Int×Value)}{h:Int}{x:Value}(B:t.plain=false):(WJ t es h x).2.1.plain=false:=by
 unfold WJ;split
 .exact Adn B
 .rfl
theorem OW {t t':Vp}{hs:Array Int}{n:Nat}{o:Array Nat}(e:t.relaid hs n=some (t',o)):t'.led=t.led/\t'.plain=t.plain:=by
 unfold SetTable.relaid SetTable.laid at e;cases q:SetTable.layClean (SetTable.sizeAbove n - 1) hs with
 | none=>rw [q] at e;cases e
 | some x=>rw [q] at e;cases e;exact ⟨rfl,rfl⟩
theorem Adq (t:Vp)(es:Array (Int×Value))(n:Nat):(VW t es n).2.1.led=t.led:=by
 unfold VW;split
 .rename_i t' o e
  dsimp only;split
  .exact (OW e).1
  .rfl
 .rfl
theorem Ads {t:Vp}{es:Array (Int×Value)}{n:Nat}(B:t.plain=false):(VW t es n).2.1.plain=false:=by
 unfold VW;split
 .rename_i t' o e
  dsimp only;split
  .exact (OW e).2.trans B
  .rfl
 .rfl
section
variable {prog:Ta}{w:S6}{A:Tt}{E:Value->S0->Prop}{s:S0}
theorem OX {a:Addr}{o:Obj}{es es':Array (Int×Value)}{ep:Nat}{t t':Vp}{h:Heap}(B:h.get? a=some o)(hd:o.data=.set es ep t):(h.update a (XI es' t')).get? a=some { o with data:=.set es' (ep+1) t' }:=by have e:=YA (XI es' t') B (by rw [putSet_of es' t' hd];rfl);rwa [putSet_of es' t' hd] at e
theorem add_str {a:Addr}{zs:List Str}{z:Str}{tk:Tok}{Q:Bool->S0->Prop}(hS:Dg w s.heap a zs)(room:zs.length+1<3000)(q:∀ h' ax b,Ud a s.heap h'->Dg w h' a ax->(if z∈zs then ax=zs else ax.Perm (zs++[z]))->Q b { s with heap:=h' }):S4 (S8 prog w) A (setAddHashed a (.str z tk) (U3 w z)) Q E s:=by
 obtain ⟨o,es,ep,t,ho,hex,hd,rfl,jW,nd,aC,hf,led,pl⟩:=HW (id hS);rw [Tb,UE] at aC room;have sb:scanBound=4096:=rfl;have pJ:=Adl (prog:=prog) jW;unfold setAddHashed Y3;refine U5 (S5 (wpAny_setState_of ho hd hf ?_));dsimp only;rw [byScan_of (knd:=Bm prog w) (x:=Uj z tk) rfl (by omega) pJ];simp only [↓reduceIte];unfold setAddByScan;refine S5 (S5 (WK (S5 (wpAny_setScan_of (knd:=Bm prog w) (k:=T2 z) (FL prog w z tk) ho hd hf pJ ?_))));cases pK:List.findIdx? (λe=>(Bm prog w).is (T2 z) e.2) es.toList with
 | some j =>
  obtain ⟨hj,O,_⟩:=List.findIdx?_eq_some_iff_getElem.mp pK;have mem:z∈es.toList.map DK:=Tr.mpr ⟨_,Wq hj,(OV (jW _ (Wq hj))).mp O⟩;dsimp only;exact Te (Te (q s.heap _ _ (Heap.SameBut.refl a s.heap) hS (by rw [if_pos mem])))
 | none =>
  have pL:z ∉ es.toList.map DK:=λm=>by
   obtain ⟨e,me,rfl⟩:=Ao (Tr.mp m);have:=List.findIdx?_eq_none_iff.mp pK e me;rw [show (Bm prog w).is (T2 (DK e)) e.2=true from (OV (jW e me)).mpr rfl] at this;cases this
  have V:=layNew_perm t es (U3 w z) (.str z tk);have jX:=layNew_fits t es (U3 w z) (.str z tk);have l1:=Ado t es (U3 w z) (.str z tk);have p1:t.plain=false->(WJ t es (U3 w z) (.str z tk)).2.1.plain=false:=Adp;dsimp only;have ek:MY w (T2 z)=U3 w z:=rfl;have ek2:(Bm prog w).hash (T2 z)=U3 w z:=rfl;try rw [ek2]
  generalize WJ t es (U3 w z) (.str z tk)=L at V jX l1 p1 ⊢;obtain ⟨B,t1,wd,aaB⟩:=L;dsimp only at V jX l1 p1 ⊢;rw [Array.toList_push] at V;have aaC:∀ e∈B.toList,IV w e:=λe m=>by
   rcases Ut.mp (V.mem_iff.mp m) with y | y
   .exact jW e y
   .rw [TX.mp y];exact ⟨z,tk,rfl⟩
  have pz:(B.toList.map DK).Perm (es.toList.map DK++[z]):=by have:=V.map DK;rwa [TQ] at this
  have sz1:B.size=es.size+1:=by rw [<- UE,V.length_eq,Ul,UE];rfl
  have iM:(B.toList.map DK).Nodup:=pz.nodup_iff.mpr (VX.mpr ⟨nd,TV.mpr ⟨by simp,VY⟩,λx hx y hy e=>by rw [TX.mp hy] at e;exact pL (e▸hx)⟩);have Y:∀(h':Heap)(o':Obj)(I:Array (Int×Value))(iN:Nat)(D:Vp),Ud a s.heap h'->h'.get? a=some o'->o'.ExactSet->o'.data=.set I iN D->I.toList.Perm B.toList->D.fits I.size=true->D.led=t.led->D.plain=false->∀ b,Q b { s with heap:=h' }:=λh' o' I iN D sm e1 e2 e3 J f2 l2 p2 b=>by
   have pM:=J.map DK;refine q h' (I.toList.map DK) b sm ⟨o',I,iN,D,e1,e2,e3,rfl,λe m=>aaC e (J.mem_iff.mp m),pM.nodup_iff.mpr iM,?_,f2,l2.trans led,λ_=>p2⟩ (by rw [if_neg pL];exact pM.trans pz);rw [Tb,J.length_eq,UE,sz1];omega
  have quiet:∀(b:Bool){s₁:S0}{Q':Unit->S0->Prop},Q' () s₁->S4 (S8 prog w) A (match b with | true=>rule "set.scan.the-table-gave-way" | false=>pure ()) Q' E s₁:=λb s₁ Q' h=>by
   cases b
   .exact Te h
   .exact WK h
  refine S5 (quiet aaB ?_);have key:∀ D:Vp,D.fits B.size=true->D.led=t.led->D.plain=false->∀(K:Option Bool->Sem Bool),(∀ h' b,(∀ b,Q b { s with heap:=h' })->S4 (S8 prog w) A (K (some b)) Q E { s with heap:=h' }) ->
    S4 (S8 prog w) A (do
     storeSet a B D
     if (!wd && D.tooFull)=true then do
       (match (VW D B (VZ B.size)).2.2 with | true=>rule "set.scan.the-table-gave-way" | false=>pure ())
       storeSet a (VW D B (VZ B.size)).1 (VW D B (VZ B.size)).2.1
       pure (some true)
      else pure (some true)) (λr s'=>S4 (S8 prog w) A (K r) Q E s') E s:=by
   intro D f2 l2 p2 K hK;refine S5 (tJ ho hd ?_ (by rw [Tc];omega));have g1:=OX (es':=B) (t':=D) ho hd;have s1:=XJ s.heap a (XI B D);split
   .have J:=relayAll_perm D B (VZ B.size);have f3:=relayAll_fits D B (VZ B.size);have l3:=Adq D B (VZ B.size);have p3:=Ads (es:=B) (n:=VZ B.size) p2;generalize VW D B (VZ B.size)=R at J f3 l3 p3 ⊢;obtain ⟨I,t3,g2⟩:=R;dsimp only at J f3 l3 p3 ⊢;have sz2:I.size=B.size:=by rw [<- UE,J.length_eq,UE]
    refine S5 (quiet g2 (S5 (tJ (s:={ s with heap:=s.heap.update a (XI B D) }) g1 rfl ?_ (by rw [Tc];omega))));have g3:=OX (es':=I) (t':=t3) g1 rfl;exact Te (hK _ true (Y _ _ I _ t3 (s1.trans (XJ _ a _)) g3 hex rfl J f3 (l3.trans l2) p3))
   .exact Te (hK _ true (Y _ _ B _ D s1 g1 hex rfl (List.Perm.refl _) f2 l2 p2))
  by_cases O:t1.plain=true
  .rw [if_pos O];refine S5 ?_;rw [hashByValue_scannable 8 (x:=Uj z tk) rfl];refine Te ?_;exact key { t1 with plain:=false } (SetTable.fits_plain_off jX) l1 rfl (λr=>match r with | some H=>pure H | none=>Y3 a (.str z tk) (U3 w z) 99999) λh' b hq=>Te (hq b)
  .have O:t1.plain=false:=by simpa using O
   rw [if_neg (by rw [O];decide)];refine S5 (Te ?_);exact key t1 jX l1 O (λr=>match r with | some H=>pure H | none=>Y3 a (.str z tk) (U3 w z) 99999) λh' b hq=>Te (hq b)
end
section
variable {prog:Ta}{w:S6}{A:Tt}{I:Addr}{fp wr:List Addr}{G:Array WO->Array WO->Prop}{n:Nat}{P:Nat->Value->Prop}{St:Nat->S0->Prop}
theorem Adt {R:Wb->S0->Prop}(W:WalksS prog w A.in1 I fp wr G n P St)(S:Addr)(hS:S ∉ fp)(val:Nat->Str)(hv:∀ i v,P i v->∃ t,v=Uj (val i) t)(aC:n+1<3000) :
  ∀(k i:Nat)(s:S0)(zs:List Str),n - i=k->i<=n->St i s->Dg w s.heap S zs->(∀ z,z∈zs↔∃ j,j<i/\val j=z)->zs.length<=i ->
   (∀ B H,Moved (S :: wr) G s B->Dg w B.heap S H->(∀ z,z∈H↔∃ j,j<n/\val j=z)->R (.ok (.ret .none)) B)->Uy (S8 prog w) A (.builtin "set.update.loop" ⟨[.ref S,.ref I],[]⟩) R s:=by
 have Y:S ∉ wr:=λh=>hS (W.sub _ h);have sub:∀ b∈wr,b∈S :: wr:=λb h=>T1 _ h;intro k;induction k with
 | zero =>
  intro i s zs hk hi st x mem _ q;have e:i=n:=by omega
  subst e;refine W7 tK ?_;rw [Y4 Y5 _];show S4 _ A.in1 (U6 (.ref I) >>= _) _ _ s;refine S5 (W.done s _ _ st λB m=>?_);exact Te (q B zs (m.mono sub) (x.at λo e=>m.heap S o Y e) mem)
 | succ k ih =>
  intro i s zs hk hi st x mem len q;refine W7 tK ?_;rw [Y4 Y5 _];show S4 _ A.in1 (U6 (.ref I) >>= _) _ _ s;refine S5 (W.item i s _ _ (by omega) st λv B hP bo m=>?_);obtain ⟨t,rfl⟩:=hv i v hP;have x':=x.at λo e=>m.heap S o Y e;show S4 _ A.in1 (UN [Uj (val i) t] (setAdd S (.str (val i) t)) >>= _) _ _ B;refine S5 (U5 ?_);unfold setAdd;refine U5 (S5 ((Bm prog w).pyHash (k:=T2 (val i)) (FL _ _ _ _) ?_));refine add_str (s:={ B with toks:=B.toks+1 }) x' (by omega) λh' H b sb x2 D=>?_;have L:∀ z,z∈H↔∃ j,j<i+1/\val j=z:=λz=>by
   have e:z∈H↔z∈zs\/z=val i:=by
    by_cases y:val i∈zs
    .rw [if_pos y] at D;rw [D];exact ⟨.inl,λh=>h.elim id λe=>e▸y⟩
    .rw [if_neg y] at D;rw [D.mem_iff,Ut,TX]
   rw [e,mem];constructor
   .rintro (⟨j,h1,J⟩ | h)
    .exact ⟨j,by omega,J⟩
    .exact ⟨i,by omega,h.symm⟩
   .rintro ⟨j,h1,J⟩;by_cases h:j<i
    .exact .inl ⟨j,h,J⟩
    .have:j=i:=by omega
     subst this;exact .inr J.symm
  have iO:H.length<=i+1:=by
   by_cases y:val i∈zs
   .rw [if_pos y] at D;rw [D];omega
   .rw [if_neg y] at D;rw [D.length_eq,Ul,UH];omega
  refine Te ⟨plainId_quiet Y5 _,ih (i+1) _ H (by omega) (by omega) (W.frame _ B _ _ bo (UA _) λb hb o e=>?_) x2 L iO λaO O m2 x3 V=>?_⟩
  .exact (sb.2 b λh=>hS (h▸hb)).trans e
  .refine q aO O (Moved.trans W.gtrans ((m.mono sub).then_heap (UA _) λb o hb e=>?_) m2) x3 V;exact (sb.2 b λh=>hb (h▸T9)).trans e
end
section
variable {prog:Ta}{w:S6}{A:Tt}{E:Value->S0->Prop}{s:S0}
theorem Adu (a:Value){Q₁:Value->S0->Prop}(h:Q₁ (.ref s.heap.objs.size) { s with heap:=s.heap.push { cls:=.type "set",dict:=none,data:=.set #[] 0 (.fresh 0 0 (!Cz w)) } }) :
  Uy (S8 prog w) A (.call (.builtin "set.__new__") ⟨[.type "set",a],[]⟩) (wants Q₁ E) s:=by
 refine Y6 ?_;show S4 _ A.in1 (do YN "set.__new__" ⟨[.type "set",a],[]⟩;again (.builtin "set.__new__" ⟨[.type "set",a],[]⟩)) _ _ s;refine S5 (wpAny_of_eq (F.newCall_set_1 a) (Te ⟨plainId_quiet tL _,W7 F.entry_set_new ?_⟩));rw [Y4 tL _];unfold Builtin.«set.__new__» Builtin.Frozenset.newClass;have sub:=sub_set_self;obtain ⟨B,g,d,D,os⟩:=s;dsimp only;wp_walk
 refine Y7 (Te ?_);dsimp only;simp only [newObj];exact S5 (wpAny_alloc (Te (Te h)))
theorem OY {h:Heap}{a:Addr}(e:h.get? a=some { cls:=.type "set",dict:=none,data:=.set #[] 0 (.fresh 0 0 (!Cz w)) }):Dg w h a [] :=
 ⟨_,#[],0,_,e,⟨rfl,rfl,rfl⟩,rfl,rfl,λe m=>by simp at m,VY,by decide,rfl,rfl,λz=>(z rfl).elim⟩
theorem Adv {l:Addr}{items:Array Value}{zs:List Str}{Q:Value->S0->Prop}(hh:A.handled=none)(hl:s.heap.IsList l items)(Y:StrsAre items.toList zs)(aC:items.size+1<3000)(q:∀ (h':Heap) (tk:Nat) (B:List Str),Dg w h' s.heap.objs.size B->(∀ z,z∈B↔z∈zs)->(∀ b o,b<s.heap.objs.size->s.heap.get? b=some o->h'.get? b=some o)->Q (.ref s.heap.objs.size) { s with heap:=h',toks:=tk }) :
  S4 (S8 prog w) A (call (.type "set") [.ref l]) Q E s:=by
 obtain ⟨c,tl,adW⟩:=V0.mro;have made:=V0.made;have sub:=V0.sub;refine Yp (Y6 ?_);show S4 _ _ (callAny (.type "set") _) _ _ _;refine Te ⟨ZR _ (by decide +kernel),W7 F.entry_type_call ?_⟩;rw [Around.under_plain (weight_type_call_type "set" [.ref l] []) rfl];have c1:=V0.notType;have c2:=V0.canCreate;have c3:=F.typeCall_set_1 (.ref l);repeat (any_goals (first | assumption | wp_step))
 refine Wx (Adu (.ref l) (E:=E) (Q₁:=λobj s₁=>obj=.ref s.heap.objs.size/\s₁={ s with heap:=s.heap.push { cls:=.type "set",dict:=none,data:=.set #[] 0 (.fresh 0 0 (!Cz w)) } }) ⟨rfl,rfl⟩) λr s₁ H=>?_;cases r with
 | error e=>exact H
 | ok fl =>
  cases fl with
  | ret obj =>
   obtain ⟨rfl,rfl⟩:=H;have atS:(s.heap.push { cls:=.type "set",dict:=none,data:=.set #[] 0 (.fresh 0 0 (!Cz w)) }).get? s.heap.objs.size=some { cls:=.type "set",dict:=none,data:=.set #[] 0 (.fresh 0 0 (!Cz w)) }:=Uq _ rfl;have ty:Shared.TypeIs { s with heap:=s.heap.push { cls:=.type "set",dict:=none,data:=.set #[] 0 (.fresh 0 0 (!Cz w)) } } (.ref s.heap.objs.size) "set":=⟨_,atS,rfl⟩;have i1:=V0.init.lookup;have i2:=V0.init.bind (.ref s.heap.objs.size);repeat (any_goals (first | assumption | wp_step))
   refine Wx (YM (R:=wants (λr s₂=>r=.none/\∃ h' tk B,s₂={ s with heap:=h',toks:=tk }/\Dg w h' s.heap.objs.size B/\(∀ z,z∈B↔z∈zs) /\
     (∀ b o,b<s.heap.objs.size->s.heap.get? b=some o->h'.get? b=some o)) E) V0.init.plain F.entry_set_init (check_set_init_1 ty ?_)) λr₂ s₂ I=>?_
   .obtain ⟨⟨adX,J,adY,L⟩,e1,e2,nl,e3⟩:=AD hl;simp only at e2 e3;subst e2 e3;have b5:(s.heap.push { cls:=.type "set",dict:=none,data:=.set #[] 0 (.fresh 0 0 (!Cz w)) }).get? l=some { cls:=.type "list",dict:=J,data:=.seq items nl,slots:=L }:=TF _ e1;have s1:=F.sub_list_set;have s2:=F.sub_list_frozenset;have s3:(WM "list" == WM "dict")=false:=by decide
    have l1:(s.heap.push { cls:=.type "set",dict:=none,data:=.set #[] 0 (.fresh 0 0 (!Cz w)) }).IsList l items:=⟨_,b5,rfl,nl,rfl⟩;unfold Builtin.«set.__init__» noKeywords Builtin.Frozenset.updateFrom;generalize O:WS=PI;wp_walk
    subst O;refine Yf l1 (S5 (wpAny_runValue ?_));have lt:l<s.heap.objs.size:=Tv e1;have ns:l≠(s.heap.push { cls:=.type "set",dict:=none,data:=.set #[] 0 (.fresh 0 0 (!Cz w)) }).objs.size:=by rw [Vc];exact TK (XG lt)
    have nf:s.heap.objs.size ∉ [(s.heap.push { cls:=.type "set",dict:=none,data:=.set #[] 0 (.fresh 0 0 (!Cz w)) }).objs.size,l]:=by rw [Vc];simp only [Tq,Ue,or_false,not_or];exact ⟨TK (WU _),VE lt⟩
    have ze:zs.length=items.size:=by have:=(IT Y).length;rw [Tb] at this;simpa using this
    have val:∀(i:Nat)(v:Value),items[i]?=some v->∃ t,v=Uj (zs.getD i Ua) t:=λi v hv=>by
     have gU:items.toList[i]?=some v:=by rw [YG];exact hv
     have il:i<zs.length:=by rw [ze];exact (Array.getElem?_eq_some_iff.mp hv).1
     obtain ⟨u,g1,g2⟩:=(IT Y).get (i:=i) (x:=.str zs[i]) (by rw [Tp,TC il];rfl);rw [gU] at g1;cases g1;obtain ⟨t,rfl⟩:=g2;exact ⟨t,by rw [Uc,TC il];rfl⟩
    have nh:A.in1.in1.in1.handled=none:=by simp [hh]
    refine Adt ((Walks.list nh _ l ns items).toS) s.heap.objs.size nf (λi=>zs.getD i Ua) val aC (items.size - 0) 0 _ [] (by omega) (T5 _) ⟨⟨_,Uq _ rfl,rfl,rfl⟩,l1.push _⟩ (OY (TF _ atS)) (λz=>⟨λh=>absurd h Ue,λzz=>Cu zz λj h _=>absurd h (XM _)⟩) (Ti _) ?_;intro s' B m x mem;obtain ⟨h',g',d',bP,kY⟩:=s';have eg:g'=s.gens:=m.gens;have ed:d'=s.drawn:=m.drawn;have eo:kY=s.os:=m.os;subst eg ed eo;show S4 _ _ _ _ _ _;refine Te ?_;show S4 _ _ (ret UC) _ _ _;refine Te ⟨rfl,h',bP,B,rfl,x,λz=>?_,λb o hb e=>?_⟩
    .rw [mem];constructor
     .rintro ⟨j,h1,rfl⟩;have D:j<zs.length:=by omega
      rw [Uc,TC D];exact Wq D
     .intro h;obtain ⟨j,D,rfl⟩:=U1 h;exact ⟨j,by omega,by rw [Uc,TC D];rfl⟩
    .have b2:b≠(s.heap.push { cls:=.type "set",dict:=none,data:=.set #[] 0 (.fresh 0 0 (!Cz w)) }).objs.size:=by rw [Vc];exact TK (XG hb)
     exact m.heap b o (by simp only [Tq,Ue,or_false,not_or];exact ⟨TK hb,b2⟩) (TF _ (TF _ e))
   .cases r₂ with
    | error e=>exact I
    | ok V =>
     cases V with
     | ret r =>
      obtain ⟨rfl,h',tk,B,rfl,x,mem,hk⟩:=I;repeat (any_goals (first | assumption | wp_step))
      exact q _ _ _ x mem hk
     | _=>exact I.elim
  | _=>exact H.elim
end
noncomputable def BY (w:S6)(a:Addr)(zs:List Str):HO:=.ext λh=>∃ ax,Dg w h a ax/\∀ z,z∈ax↔z∈zs
theorem La {P:Ta}{w:S6}{H:Hp}{h:Heap}{a:Addr}{zs B:List Str}(x:Dg w h a B)(m:∀ z,z∈B↔z∈zs):Be P w H h a (BY w a zs):=by refine ⟨⟨B,x,m⟩,?_,λJ L ⟨y,D,I⟩ k=>⟨y,D.at k,I⟩⟩;obtain ⟨o,_,_,_,e,_⟩:=Du x;exact ⟨o,e⟩
theorem Lb:∀{a b:List Str},a.Nodup->(∀ z∈a,z∈b)->a.length<=b.length
 | [],b,_,_=>T5 _
 | x :: a,b,nd,h=>by
  have B:=TV.mp nd;have hx:=h x T9;have ih:=Lb (b:=b.erase x) B.2 λz D=>(Y8 (λe:z=x=>B.1 (e▸D))).mpr (h z (T1 _ D));rw [Y9 hx] at ih;have:0<b.length:=tM hx;rw [UG];omega
theorem Adw {a b:List Str}(nd:a.Nodup)(m:∀ z,z∈a↔z∈b):a.length=b.length↔b.Nodup:=by
 constructor
 .intro e;refine XE λh=>?_;have B:∀ b:List Str,¬ b.Nodup->∃ c:List Str,c.length<b.length/\∀ z,z∈c↔z∈b:=λb=>by
   induction b with
   | nil=>exact λh=>(h VY).elim
   | cons x b ih =>
    intro h;by_cases hx:x∈b
    .exact ⟨b,by simp,λz=>⟨T1 _,λD=>(Tq.mp D).elim (λe=>e▸hx) id⟩⟩
    .obtain ⟨c,I,H⟩:=ih λq=>h (TV.mpr ⟨hx,q⟩);refine ⟨x :: c,by simpa using I,λz=>?_⟩;rw [Tq,Tq,H]
  obtain ⟨c,I,H⟩:=Ao (B b h);have:=Lb nd λz D=>(H z).mpr ((m z).mp D);omega
 .intro hb;exact ((tN nd hb).mpr m).length_eq
section
variable {X:Cx}
theorem Adx {w:S6}(hw:X.w=w)(hc:X.calm=true):BB X (.type "set") (λxs H Q=>∃(p:Addr)(zs:List Str),xs=[.ref p]/\Ba X.K H p (zs.map V.str)/\zs.length<2000/\∀ l,H l=none->Q (.ref l) (upd H l (BY w l zs))):=by
 subst hw;intro pins s σ H xs L Q I r h;replace h:=Bi h;obtain ⟨p,zs,rfl,hq,aC,q⟩:=h
 obtain ⟨u,rfl,D⟩:=Ao (CJ r);cases D;obtain ⟨its,B,pl,O⟩:=AD (I.list hq);have e:=B.length;rw [Tb] at e;refine Adv (items:=its.toArray) (zs:=zs) (I.ok.hd hc) pl.isList (by simpa using K4 B) (by rw [TR];omega) λY J ax x m k=>?_;exact ⟨.ref s.heap.objs.size,_,I.laid (t':=J) (λb o e=>k b o (Tv e) e) (Ti _) (La x m),rfl,q _ I.fresh⟩
theorem OZ {w:S6}(hw:X.w=w):BB X (.builtin "len") (λxs H Q=>∃(p:Addr)(zs:List Str),xs=[.ref p]/\H p=some (BY w p zs)/\∀ n:Nat,(n=zs.length↔zs.Nodup)->Q (.int n) H):=by
 subst hw;intro pins s σ H xs us Q I r h;replace h:=Bi h;obtain ⟨p,zs,rfl,B,q⟩:=h
 obtain ⟨u,rfl,D⟩:=Ao (CJ r);cases D;obtain ⟨⟨J,⟨o,es,ep,t,L,O,V,Y,e5,nd,aC,hf,_⟩,m⟩,_⟩:=(show Be X.prog X.w H s.heap p (BY X.w p zs) from I.af p _ B);have sz:J.length=es.size:=by rw [Y,Tb,UE]
 refine call_len_set L O V hf (by omega) ⟨.int es.size,H,I.tok _,⟨_,rfl⟩,q _ ?_⟩;rw [<- sz];exact Adw nd m
end
section
variable {prog:Ta}{w:S6}{A:Tt}{R:Wb->S0->Prop}{E:Value->S0->Prop}{s:S0}
theorem Ady {Q:Value->S0->Prop}(h:Q (.ref s.heap.objs.size) { s with heap:=s.heap.push { cls:=.type "set",dict:=none,data:=.set #[] 0 (.fresh 0 0 (!Cz w)) } }):S4 (S8 prog w) A (newSet (.type "set")) Q E s:=by unfold newSet setsByText;refine S5 (S5 (Y7 (Te ?_)));dsimp only;simp only [newObj];exact S5 (wpAny_alloc (Te h))
theorem Adz (B I iter:S7)(D:List S7)(sc:Scope)(pos:Pos)(it H:Value)(env:Env):XA (.SetComp B [⟨I,iter,D,0⟩] sc pos) 0 it H env=(do
  UW iter.pos
  match <- U6 it with
  | none=>pure (.done .next)
  | some v =>
   V8 I it v
   Vb I env v
   let ok <- GR D env
   if ok then (do let v <- Tf B env;UW B.pos;let _ <- call (.builtin "set.add") [H,v])
   again (.compLoop (.SetComp B [⟨I,iter,D,0⟩] sc pos) 0 it H env)):=by rfl
theorem AdA {B O iter:S7}{D:List S7}{sc:Scope}{pos:Pos}{it H:Value}{env:Env}(I:Nat->S0->Prop)(turn:∀ n s,I n s->S4 (S8 prog w) A (U6 it) (λr V=>match r with
   | none=>R (.ok .next) V
   | some v=>S4 (S8 prog w) A (V8 O it v) (λ_ s₂=>S4 (S8 prog w) A (Vb O env v) (λ_ s₃=>S4 (S8 prog w) A (GR D env) (λok Y =>
     if ok=true then S4 (S8 prog w) A (Tf B env) (λx s₅=>S4 (S8 prog w) A (call (.builtin "set.add") [H,x]) (λ_ s₆=>∃ m,m<n/\I m s₆) (λ_ _=>False) s₅) (λ_ _=>False) Y
     else ∃ m,m<n/\I m Y) (λ_ _=>False) s₃) (λ_ _=>False) s₂) (λ_ _=>False) V) (λ_ _=>False) s)(n:Nat)(h:I n s):Uy (S8 prog w) A (.compLoop (.SetComp B [⟨O,iter,D,0⟩] sc pos) 0 it H env) R s:=by
 refine YQ rfl I (λn s hI=>?_) n h;show S4 _ A ((XA (.SetComp B [⟨O,iter,D,0⟩] sc pos) 0 it H env).onRaise _) _ _ s;refine YR ?_;rw [Adz];refine S5 (Vr (S5 (Co (turn n s hI) λr V J=>?_)));match r,J with
 | none,J=>exact Te J
 | some v,J =>
  refine S5 (Co J λ_ s₂ h₂=>S5 (Co h₂ λ_ s₃ h₃=>S5 (Co h₃ λok Y L=>?_)));match ok,L with
  | false,L=>exact Te ⟨rfl,L⟩
  | true,L=>exact S5 (S5 (Co L λx s₅ h₅=>S5 (Vr (S5 (Co h₅ λ_ s₆ h₆=>Te (Te ⟨rfl,h₆⟩))))))
theorem AdB {B J iter:S7}{D:List S7}{sc:Scope}{pos:Pos}{it H:Value}{env:Env}(V:Uy (S8 prog w) A (.compLoop (.SetComp B [⟨J,iter,D,0⟩] sc pos) 0 it H env) R s)(h:S4 (S8 prog w) A (WS it) (λL I=>Uy (S8 prog w) A (.compLoop (.SetComp B [⟨J,iter,D,0⟩] sc pos) 0 L H env) R I) (notedBy (S8 prog w) A env λx I=>R (.error x) I) s) :
  Uy (S8 prog w) A (.compStart (.SetComp B [⟨J,iter,D,0⟩] sc pos) 0 it H env) R s:=by
 refine Y6 ?_;show S4 _ _ ((compStart (.SetComp B [⟨J,iter,D,0⟩] sc pos) 0 it H env).onRaise (λx=>do noteFrame x env;UW theWindowsPlace)) _ _ s;refine wpAny_notedAt ?_;unfold compStart;show S4 _ _ (ask >>= _) _ _ s;refine S5 (Y7 (wpAny_ite ?_));split
 .first | exact S5 (Te (Te ⟨rfl,V⟩)) | exact Te ⟨rfl,V⟩
 .first | exact S5 (WK (S5 (Vr (S5 (U4 h (λL I O=>Te ⟨rfl,O⟩) λ_ _ x=>x))))) | exact WK (S5 (Vr (S5 (U4 h (λL I O=>Te ⟨rfl,O⟩) λ_ _ x=>x))))
theorem AdC {a:Addr}{zs:List Str}{z:Str}{tk:Tok}{Q:Value->S0->Prop}(ty:s.TypeIs (.ref a) "set")(hS:Dg w s.heap a zs)(room:zs.length+1<3000)(q:∀ h' B D,Ud a s.heap h'->Dg w h' a B->(if z∈zs then B=zs else B.Perm (zs++[z]))->Q .none { s with heap:=h',toks:=D }):S4 (S8 prog w) A (call (.builtin "set.add") [.ref a,.str z tk]) Q E s:=by
 refine Wg F.slot_set_add ty F.entry_set_add ?_ (F.args_set_add_2 _ _);unfold Builtin.«set.add» Builtin.Frozenset.oneOther;simp only [List.isEmpty_nil,bind_assoc];unfold Builtin.Frozenset.addrOf setAdd;refine S5 (Te ?_);try dsimp only
 refine S5 (Te ?_);try dsimp only
 refine S5 (U5 (S5 ((Bm prog w).pyHash (k:=T2 z) (FL _ _ _ _) ?_)));refine add_str (s:={ s with toks:=s.toks+1 }) hS room λh' B b H x I=>?_;show S4 _ _ (ret UC) _ _ _;exact Te ⟨_,rfl,q h' B _ H x I⟩
end
section
variable {X:Cx}{N':List Str}{sc:Scope}{aB:List (Option Nat)}{cl:List (Str×Addr)}{C:Addr}{fp:List Addr}{pins:List (Addr×Obj)}{s₂:S0}{H₂:Hp}{σ:St}
theorem AdD {s:S0}{H:Hp}{D:Addr}{zs:List Str}{z:Str}{tk:Tok}{Q:Value->S0->Prop}{E:Value->S0->Prop}(I:Ae X pins σ H s)(O:H D=some (BY X.w D zs))(aC:zs.length<2000)(q:∀ h' J,Ae X pins σ (upd H D (BY X.w D (zs++[z]))) { s with heap:=h',toks:=J }->Q .none { s with heap:=h',toks:=J }):S4 (S8 X.prog X.w) X.A (call (.builtin "set.add") [.ref D,.str z tk]) Q E s:=by
 obtain ⟨⟨V,x,m⟩,_⟩:=(show Be X.prog X.w H s.heap D (BY X.w D zs) from I.af D _ O);obtain ⟨o,es,ep,t,Y,e2,r⟩:=Du (id x);have ty:s.TypeIs (.ref D) "set":=⟨o,Y,e2.1⟩;have le:V.length<=zs.length:=by obtain ⟨_,_,_,_,_,_,_,_,_,nd,_⟩:=HW (id x);exact Lb nd λz B=>(m z).mp B
 refine AdC ty x (by omega) λh' aJ J sb x2 B=>?_;have m2:∀ y,y∈aJ↔y∈zs++[z]:=λy=>by
  rw [Ut,TX,<- m];by_cases L:z∈V
  .rw [if_pos L] at B;rw [B];exact ⟨.inl,λh=>h.elim id λe=>e▸L⟩
  .rw [if_neg L] at B;rw [B.mem_iff,Ut,TX]
 refine q h' J (I.write (t':=J) (x:=D) (e:=D) (by rw [O];trivial) (.inl rfl) (λb u hb e=>(sb.2 b hb).trans e) ?_ (La x2 m2));obtain ⟨o2,_,_,_,g,_⟩:=Du x2;exact ⟨o2,g⟩
theorem AdE {D:Addr}{h₁:Heap}{tk:Nat}{m:Str->Option Value}(S:Bu sc X.env.scope N' X.N aB)(I:Ae X pins σ H₂ s₂)(L:∀ x c,cl.lookup x=some c->X.env.cells.lookup x=some c)(bw:∀ y∈sc.names,y.2=.free->∃ c,cl.lookup y.1=some c)(cb:∀ b∈fp,CY X pins H₂ b)(bx:∀ b∈fp,∃ o,s₂.heap.get? b=some o)(hD:D=s₂.heap.objs.size)(hC:C=s₂.heap.objs.size+1)(hk:∀ b o,(s₂.heap.push { cls:=.type "set",dict:=none,data:=.set #[] 0 (.fresh 0 0 (!Cz X.w)) }).get? b=some o->h₁.get? b=some o)(bH:h₁.Ns C m) :
  Ae (AS X N' sc cl C fp pins s₂ H₂) [] (Ei aB σ) (upd H₂ D (BY X.w D [])) { s₂ with heap:=h₁,toks:=tk }:=by
 subst hD;have Y:s₂.heap.objs.size<=C:=by rw [hC];exact UA _
 have ok:=Ej S I L bw Y cb bx;have I3:Ae X pins σ (upd H₂ s₂.heap.objs.size (BY X.w s₂.heap.objs.size [])) { s₂ with heap:=s₂.heap.push { cls:=.type "set",dict:=none,data:=.set #[] 0 (.fresh 0 0 (!Cz X.w)) },toks:=tk }:=I.laid (t':=tk) (λb o q=>TF _ q) (Ti _) (La (OY (Uq _ rfl)) λz=>Iff.rfl);have I4:Ae X pins σ (upd H₂ s₂.heap.objs.size (BY X.w s₂.heap.objs.size [])) { s₂ with heap:=h₁,toks:=tk }:=I3.kept (t':=tk) hk;have B:∀ b o,s₂.heap.get? b=some o->h₁.get? b=some o:=λb o e=>hk b o (TF _ e);have iG:∀ b o,s₂.heap.get? b=some o->b≠s₂.heap.objs.size:=λb o e=>TK (Tv e);have fj:∀ x c,cl.lookup x=some c->∃ v o,s₂.heap.get? c=some o/\o.data=.cell v:=λx c e=>by
  obtain ⟨v,o,H,hd⟩:=Bl (I.cell x c (L x c e));exact ⟨v,o,H,hd⟩
 refine ⟨ok,rfl,I.bare,Un.laid B (Ti _) I.fresh,⟨m,bH,λi x v e1 e2 e3=>?_⟩,λx c e=>?_,?_,λx c e=>?_,λp hp=>?_,I4.af,?_⟩
 .have J:(aB[i]?).map (λo=>o.bind λj=>(σ[j]?).join)=some (some v):=by
   have:=e2;unfold Ei at this;rwa [Tp] at this
  cases q:aB[i]? with
  | none=>rw [q] at J;cases J
  | some oj =>
   rw [q,US] at J;cases oj with
   | none=>cases J
   | some j =>
    have O:(σ[j]?).join=some v:=by simpa using J
    have e5:σ[j]?=some (some v):=by
     cases z:σ[j]? with
     | none=>rw [z] at O;cases O
     | some w=>rw [z] at O;rw [<- O];rfl
    obtain ⟨x',n1,n2,n3,V⟩:=AD (S.out i j q);have b5:N'[i]?=some x:=e1;rw [n1] at b5;cases b5;obtain ⟨m2,fN,hl⟩:=Ao I.loc;have hv:Gp X.env.scope x:=V.elim (λz=>.inr (.inl z)) λz=>.inr (.inr z);obtain ⟨u,r,l⟩:=Ao (hl j x v n2 e5 hv);refine ⟨u,r,.inr ⟨ID n3,?_⟩⟩;rcases l with ⟨k,_⟩ | ⟨_,c,ec,z⟩
    .have k':X.env.scope.names.lookup x=some .local:=k;rcases V with z | z<;>rw [k'] at z<;>cases z
    .obtain ⟨c',fm⟩:=bw _ (Vn n3) rfl;have:=L x c' fm;rw [ec] at this;cases this;obtain ⟨o,H,hd⟩:=Ao z;exact ⟨c,fm,o,B c o H,hd⟩
 .obtain ⟨v,o,H,hd⟩:=Bl (fj x c e);exact ⟨v,o,B c o H,hd⟩
 .show upd H₂ s₂.heap.objs.size (BY X.w s₂.heap.objs.size []) C=none;rw [Ap (by rw [hC];exact Xb _)];exact I.af.fresh Y
 .obtain ⟨v,o,H,hd⟩:=Bl (fj x c e);show upd H₂ s₂.heap.objs.size (BY X.w s₂.heap.objs.size []) c=none;rw [Ap (iG c o H)];exact I.cx x c (L x c e)
 .have bO:p∈X.pn++pins:=by simpa [AS] using hp
  obtain ⟨e,n,ne,nf,d⟩:=AQ (I.pin p bO);obtain ⟨_,V,_⟩:=AQ (I4.pin p bO);exact ⟨B _ _ e,V,TK (TY (Tv e) Y),λz=>(Tq.mp (I.cU _ z)).elim ne nf,d⟩
 .show (aB.map _).length=N'.length;rw [Tb];exact S.len
def O0 (w:S6)(aB:List (Option Nat))(wi:TI)(g:TG)(tt:TT)(te:TE):TE:=λσ H Q=>wi σ H λJ H1=>∀ D,H1 D=none->∃ W:Nat->Nat->St->Hp->Prop,(∃ m,W 0 m (Ei aB σ) (upd H1 D (BY w D [])))/\∀ i m σ' H',W i m σ' H' ->
 (J.stop i H'/\Q (.ref D) H')\/(J.go i H'/\∃ N:St->Hp->Prop,(∀ σ2 H2,N σ2 H2->∃ m',m'<m/\W (i+1) m' σ2 H2)/\∀ x H2,J.bM i H' x H2->g x σ' H2 λσ3 H3=>tt σ3 H3 λb H4 =>
  if b=true then te σ3 H4 λv H5=>∃ zs z,v=.str z/\H5 D=some (BY w D zs)/\zs.length<2000/\N σ3 (upd H5 D (BY w D (zs++[z]))) else N σ3 H4)
theorem AdF {elt tg iter:S7}{O:List S7}{sc:Scope}{aB:List (Option Nat)}{N':List Str}{pos:Pos}{wi:TI}{g:TG}{tt:TT}{te:TE}{s:S0}{H:Hp}{use:Option (Value->Sem Unit)}{Qv:Value->S0->Prop}{Q:VK}(hc:X.calm=true)(S:Bu sc X.env.scope N' X.N aB)(hi:PI X tg iter wi)(hg:∀ cl C fp pins s₂ H₂,PG (AS X N' sc cl C fp pins s₂ H₂) tg g)(ht:∀ cl C fp pins s₂ H₂,Ek (AS X N' sc cl C fp pins s₂ H₂) O tt)(he:∀ cl C fp pins s₂ H₂,PE (AS X N' sc cl C fp pins s₂ H₂) elt te)(hs:∀ x,Vs iter X.env x=pure x)(I:Ae X pins σ H s)(h:O0 X.w aB wi g tt te σ H Q)(post:∀ D C B s' m,(∀ h',Ud C s'.heap h'->Ae X pins σ B { s' with heap:=h' })->Ae X pins σ B s'->s'.heap.Ns C m->(∀ x c,X.env.cells.lookup x=some c->c≠C)->X.env.locals≠C->B C=none ->
   (∀ σ' V h',Ae X pins σ' B V->Ud C V.heap h'->Ae X pins σ' B { V with heap:=h' })->Q (.ref D) B->WH (S8 X.prog X.w) X.A X.xe use Qv (.ref D) C (.ok .next) s') :
  S4 (S8 X.prog X.w) X.A (XC (.SetComp elt [⟨tg,iter,O,0⟩] sc pos) sc X.env (YS [⟨tg,iter,O,0⟩] pos) (newSet (.type "set")) false (Tf iter X.env) use) Qv X.xe s:=by
 obtain ⟨cl,iH,aV,bw⟩:=KH (env:=X.env) (sc:=sc) λy hy hf=>I.ok.has y.1 (S.frees y hy hf);refine YT rfl hs iH S.kind S.one (Al (hi pins s σ H _ I h) λxv s₁ h₁=>Al h₁ λiy s₂ h₂=>?_);obtain ⟨it,fp,tn,J,H₂,e,L,T,fo,f₂,rd⟩:=Fd h₂;subst e;refine Ady (YU S.jV (by intro y hy;simp at hy) (λh₁ bH cY=>?_) S.kind);dsimp only at bH cY ⊢;have bx:∀ b∈fp,∃ o,s₂.heap.get? b=some o:=λb hb=>let ⟨o,e,_⟩:=T.obj _ _ fo b hb;⟨o,e⟩;have cy:(s₂.heap.push { cls:=.type "set",dict:=none,data:=.set #[] 0 (.fresh 0 0 (!Cz X.w)) }).objs.size=s₂.heap.objs.size+1:=Vc ..;have hk:∀ b o,(s₂.heap.push { cls:=.type "set",dict:=none,data:=.set #[] 0 (.fresh 0 0 (!Cz X.w)) }).get? b=some o->h₁.get? b=some o:=λb o e=>cY.extBut b o (TK (Tv e)) (TF _ e);have IB:=AdE (tk:=s₂.toks+([]:List (Str×Value)).length) S L aV bw f₂ bx rfl cy hk bH;generalize (s₂.heap.push { cls:=.type "set",dict:=none,data:=.set #[] 0 (.fresh 0 0 (!Cz X.w)) }).objs.size=C at cy bH cY IB ⊢;generalize hD:s₂.heap.objs.size=D at IB cy ⊢;have aP:s₂.heap.objs.size<=C:=by rw [hD,cy];exact UA _
 obtain ⟨W,⟨m0,w0⟩,turn⟩:=Ao (rd D (by rw [<- hD];exact L.fresh));have cZ:∀{B:Hp},(∀ b∈fp,B b=none)->∀ b∈fp,CY (AS X N' sc cl C fp pins s₂ H₂) [] B b:=λhn b hb=>by
  obtain ⟨z1,z2⟩:=(Ej S L aV bw aP f₂ bx).gP b hb;exact ⟨hn b hb,z1,(Ej S L aV bw aP f₂ bx).eW b hb,.inl hb,z2,λp hp=>(f₂ b hb).2.2.2.2.2 p (by simpa [AS] using hp)⟩
 have iI:∀ b∈fp,(upd H₂ D (BY X.w D [])) b=none:=λb hb=>by
  obtain ⟨o,ho⟩:=bx b hb;rw [Ap (by rw [<- hD];exact TK (Tv ho))];exact (f₂ b hb).1
 have bf:tn 0 h₁:=T.keep _ _ _ fo λb hb o e=>hk b o (TF _ e);have loop:Uy (S8 X.prog X.w) X.A (.compLoop (.SetComp elt [⟨tg,iter,O,0⟩] sc pos) 0 (.ref it) (.ref D) (XB sc cl C X.env)) (WH (S8 X.prog X.w) X.A X.xe use Qv (.ref D) C) { s₂ with heap:=h₁,toks:=s₂.toks+([]:List (Str×Value)).length }:=by
  refine AdA (λn s'=>∃ i σ' B,Ae (AS X N' sc cl C fp pins s₂ H₂) [] σ' B s'/\tn i s'.heap/\(∀ b∈fp,B b=none)/\W i n σ' B) ?_ m0 ⟨0,_,_,IB,bf,iI,w0⟩;rintro n s3 ⟨i,σ3,H3,I3,cW,cX,w3⟩;rcases turn i n σ3 H3 w3 with ⟨stop,qn⟩ | ⟨go,N,hN,UO⟩
  .refine Al (T.done (AS X N' sc cl C fp pins s₂ H₂) rfl rfl rfl hc i [] s3 σ3 H3 _ I3 (cZ cX) cW stop) λr s4 ⟨hr,I4⟩=>?_;subst hr;have JX:=KI L f₂ I4;obtain ⟨m,hn,_⟩:=Ao I4.loc;have cn:∀ x c,X.env.cells.lookup x=some c->c≠C:=λx c e z=>by
    obtain ⟨v,q⟩:=L.cell x c e;exact absurd (TY q.lt (by rw [z];exact aP)) (UM _)
   have gone:∀ σ' V h',Ae X pins σ' H3 V->Ud C V.heap h'->Ae X pins σ' H3 { V with heap:=h' }:=λσ' V h' K3 iJ =>
    K3.turned (t':=V.toks) (it:=C) (λb o hb e=>(iJ.2 b hb).trans e) I4.free (VE (TY L.lt aP)) (.inr (Uk L.sz aP)) cn λp hp z=>by
     exact absurd (TY (Tv (L.pin p hp).1) (by rw [z];exact aP)) (UM _)
   exact post D C H3 s4 m (λh' hs'=>gone σ s4 h' JX hs') JX hn cn (TK (TY L.lt aP)) I4.free gone qn
  .refine Al (T.item (AS X N' sc cl C fp pins s₂ H₂) rfl rfl rfl hc i [] s3 σ3 H3 _ I3 (cZ cX) cW go) λr s4 Y=>Cu Y λu hr h4=>?_;subst hr;refine Al h4 λ_ s5 Y=>AG Y λx H5 I5 r5 ⟨y5,b9,fL⟩=>?_;have fM:=I5.pinned (cZ fL) (T.obj _ _ b9);refine Al (hg cl C fp pins s₂ H₂ _ s5 σ3 H5 x u _ fM r5 (UO x H5 y5)) λ_ s6 Y=>Gi Y λσ6 H6 I6 q6=>?_;refine Al (ht cl C fp pins s₂ H₂ _ s6 σ6 H6 _ I6 q6) λok s7 Y=>Cu Y λH7 I7 q7=>?_;have again:∀{H8:Hp}{s8:S0},Ae (AS X N' sc cl C fp pins s₂ H₂) ([]++Ff fp s5.heap) σ6 H8 s8->N σ6 H8->∃ m,m<n/\∃ i σ' B,Ae (AS X N' sc cl C fp pins s₂ H₂) [] σ' B s8/\tn i s8.heap/\(∀ b∈fp,B b=none)/\W i m σ' B:=λ{H8 s8} I8 n8=>by
    obtain ⟨m',hm,w8⟩:=Ao (hN σ6 H8 n8);refine ⟨m',hm,i+1,σ6,H8,I8.gT,T.keep _ _ _ b9 λb hb o e=>(I8.pin (b,o) (T3 _ (T3 _ (EB hb e)))).1,λb hb=>?_,w8⟩;obtain ⟨o,e,d⟩:=Ao (T.obj _ _ b9 b hb);exact (I8.pin (b,o) (T3 _ (T3 _ (EB hb e)))).2.1
   cases ok with
   | false=>exact again I7 q7
   | true =>
    refine Al (he cl C fp pins s₂ H₂ _ s7 σ6 H7 _ I7 q7) λy s8 Y=>AG Y λv H8 I8 r8 q8=>?_;replace q8:=Bi q8;obtain ⟨zs,z,rfl,hy,aC,n8⟩:=q8
    obtain ⟨tk,rfl⟩:=r8;exact AdD (X:=AS X N' sc cl C fp pins s₂ H₂) I8 hy aC λh9 tk9 I9=>again I9 n8
 exact AdB loop (T.self _ 0 _ _ _ bf loop)
theorem AdG {B O iter:S7}{L:List S7}{sc:Scope}{aB:List (Option Nat)}{N':List Str}{pos:Pos}{Y:TI}{g:TG}{tt:TT}{te:TE}{w:S6}(hw:X.w=w)(hc:X.calm=true)(S:Bu sc X.env.scope N' X.N aB)(hi:PI X O iter Y)(hg:∀ cl C fp pins s₂ H₂,PG (AS X N' sc cl C fp pins s₂ H₂) O g)(ht:∀ cl C fp pins s₂ H₂,Ek (AS X N' sc cl C fp pins s₂ H₂) L tt)(he:∀ cl C fp pins s₂ H₂,PE (AS X N' sc cl C fp pins s₂ H₂) B te)(hs:∀ x,Vs iter X.env x=pure x:=by intro _;rfl):PE X (.SetComp B [⟨O,iter,L,0⟩] sc pos) (O0 w aB Y g tt te):=by subst hw;intro pins s σ H Q I h;rw [arm_eval_SetComp];refine AdF (use:=none) (Q:=Q) hc S hi hg ht he hs I h λD C H' s' m g1 J hn cn ln fr g2 q=>?_;exact ⟨m,hn,λh' V=>⟨.ref D,H',g1 h' V,rfl,q⟩⟩
end
section
variable {prog:Ta}{w:S6}{A:Tt}{E:Value->S0->Prop}{s:S0}
structure Sti (h:Heap)(I a:Addr)(o:Obj)(first:Value)(i n ep:Nat):Prop where
 it:h.get? I=some { cls:=.type "set_iterator",data:=.fields #[first,.int i 0,.ref a,.int n 0,.int ep 0] }
 st:h.get? a=some o
end
section
variable {prog:Ta}{w:S6}{A:Tt}{E:Value->S0->Prop}{s:S0}
end
section
variable {prog:Ta}{w:S6}{A:Tt}{E:Value->S0->Prop}{s:S0}
end
section
variable {prog:Ta}{w:S6}{A:Tt}{E:Value->S0->Prop}{s:S0}
end
section
variable {X:Cx}
end
section
variable {K:S3}{D:Addr}{z:Str}{g:TG}{tt:TT}{te:TE}{σ0:St}{H:Hp}{Q:Hp->Prop}
theorem AdH (Pv:Nat->St->Hp->Prop)(V:Pv 0 σ0 (upd H D (.lst [])))(hs:∀ i c σ B,z.cps.toList[i]?=some c->Pv i σ B->g (.str ⟨#[c]⟩) σ B (GX D tt te (Pv (i+1))))(hd:∀ σ B,Pv z.cps.toList.length σ B->Q B) :
  ∃ W:Nat->Nat->St->Hp->Prop,(∃ m,W 0 m σ0 (upd H D (.lst [])))/\∀ i m σ' B,W i m σ' B ->
   ((Eh z).stop i B/\Q B)\/((Eh z).go i B/\∃ N:St->Hp->Prop,(∀ σ2 I,N σ2 I->∃ m',m'<m/\W (i+1) m' σ2 I)/\∀ x I,(Eh z).bM i B x I->g x σ' I λσ3 Y=>tt σ3 Y λb J =>
    if b=true then te σ3 J λv L=>∃ ys,L D=some (.lst ys)/\ys.length<sizeLine/\N σ3 (upd L D (.lst (ys++[v]))) else N σ3 J):=by
 have hl:z.cps.toList.length=z.cps.size:=by simp
 rw [hl] at hd;refine ⟨λi m σ H=>m=z.cps.size - i/\i<=z.cps.size/\Pv i σ H,⟨_,rfl,T5 _,V⟩,?_⟩;rintro i m σ H1 ⟨rfl,hi,p⟩;by_cases O:i<z.cps.size
 .refine .inr ⟨O,Pv (i+1),λσ' B p'=>⟨z.cps.size - (i+1),by omega,rfl,O,p'⟩,λx B y=>?_⟩;obtain ⟨e,c,hc,e2⟩:=y;subst e e2;exact hs i c σ _ hc p
 .have e:i=z.cps.size:=by omega
  subst e;exact .inl ⟨Ti _,hd σ H1 p⟩
theorem AdI {w:S6}{a:Addr}{xs:List V}(Pv:Nat->St->Hp->Prop)(h0:Pv 0 σ0 (upd H D (BY w D [])))(hl:∀ i σ H,i<=xs.length->Pv i σ H->Ba K H a xs)(hs:∀ i x σ B,xs[i]?=some x->Pv i σ B->g x σ B λσ3 O=>tt σ3 O λb I=>if b=true then te σ3 I λv J=>∃ zs z,v=.str z/\J D=some (BY w D zs)/\zs.length<2000/\Pv (i+1) σ3 (upd J D (BY w D (zs++[z]))) else Pv (i+1) σ3 I)(hd:∀ σ B,Pv xs.length σ B->Q B) :
  ∃ W:Nat->Nat->St->Hp->Prop,(∃ m,W 0 m σ0 (upd H D (BY w D [])))/\∀ i m σ' B,W i m σ' B ->
   ((DE K a).stop i B/\Q B)\/((DE K a).go i B/\∃ N:St->Hp->Prop,(∀ σ2 L,N σ2 L->∃ m',m'<m/\W (i+1) m' σ2 L)/\∀ x L,(DE K a).bM i B x L->g x σ' L λσ3 O=>tt σ3 O λb I =>
    if b=true then te σ3 I λv J=>∃ zs z,v=.str z/\J D=some (BY w D zs)/\zs.length<2000/\N σ3 (upd J D (BY w D (zs++[z]))) else N σ3 I):=by
 refine ⟨λi m σ H=>m=xs.length - i/\i<=xs.length/\Pv i σ H,⟨xs.length,by simp,T5 _,h0⟩,?_⟩;rintro i m σ Y ⟨rfl,hi,p⟩;have q:=hl i σ Y hi p;by_cases au:i<xs.length
 .refine .inr ⟨⟨xs,xs[i],q,by simp [au]⟩,Pv (i+1),λσ' B p'=>⟨xs.length - (i+1),by omega,rfl,au,p'⟩,λx B y=>?_⟩;obtain ⟨rfl,hy⟩:=y;exact hs i x σ _ (hy xs q) p
 .have e:i=xs.length:=by omega
  subst e;exact .inl ⟨⟨xs,q,Ti _⟩,hd σ Y p⟩
end
section
variable {X:Cx}{CX:BW}{k:Nat}{f C:Addr}{fd:Tn}{ps:List Str}{sp:Sp}{x:Str}{p pos:Pos}{e:S7}{es:List S7}{t:TA}{W:St->XK}
theorem AdJ {D a b:S7}{B:TA}(g:Gm X.env.scope "range")(H:X.mg "range"=none)(I:PA X [a,b] B)(hs:Tj [a,b] X.env=[(false,Tf a X.env),(false,Tf b X.env)]:=by rfl)(J:Tj [b] X.env=[(false,Tf b X.env)]:=by rfl):PI X D (.Call (.Name "range" p) [a,b] [] pos) (Nh B):=AaL g.gl H I hs J
theorem F0 {i:Int}(g:Gm X.env.scope x)(B:∃ t,X.mg x=some (Uw i t)):PE X (.Name x pos) (tC (.int i)):=by obtain ⟨t,h⟩:=B;exact Fp g h ⟨t,rfl⟩
theorem G0 {z:Str}(g:Gm X.env.scope x)(B:∃ t,X.mg x=some (Uj z t)):PE X (.Name x pos) (tC (.str z)):=by obtain ⟨t,h⟩:=B;exact Fp g h ⟨t,rfl⟩
end
section
variable {X:Cx}
end
section
variable {prog:Ta}{w:S6}{A:Tt}{R:Wb->S0->Prop}{E:Value->S0->Prop}{s:S0}
theorem AdK {O V L iter:S7}{B:List S7}{sc:Scope}{pos:Pos}{it:Value}{D:Addr}{env:Env}(I:Nat->S0->Prop)(turn:∀ n s,I n s->S4 (S8 prog w) A (U6 it) (λr Y=>match r with
   | none=>R (.ok .next) Y
   | some v=>S4 (S8 prog w) A (V8 L it v) (λ_ s₂=>S4 (S8 prog w) A (Vb L env v) (λ_ s₃=>S4 (S8 prog w) A (GR B env) (λok s₄ =>
     if ok=true then S4 (S8 prog w) A (Tf O env) (λx s₅=>S4 (S8 prog w) A (Tf V env) (λy s₆=>S4 (S8 prog w) A (dictSet D x y) (λ_ s₇=>∃ m,m<n/\I m s₇) (λ_ _=>False) s₆) (λ_ _=>False) s₅) (λ_ _=>False) s₄
     else ∃ m,m<n/\I m s₄) (λ_ _=>False) s₃) (λ_ _=>False) s₂) (λ_ _=>False) Y) (λ_ _=>False) s)(n:Nat)(h:I n s):Uy (S8 prog w) A (.compLoop (.DictComp O V [⟨L,iter,B,0⟩] sc pos) 0 it (.ref D) env) R s:=by
 refine YQ rfl I (λn s hI=>?_) n h;show S4 _ A ((XA (.DictComp O V [⟨L,iter,B,0⟩] sc pos) 0 it (.ref D) env).onRaise _) _ _ s;refine YR ?_;rw [compTurn_dict];refine S5 (Vr (S5 (Co (turn n s hI) λr Y H=>?_)));match r,H with
 | none,H=>exact Te H
 | some v,H =>
  refine S5 (Co H λ_ s₂ h₂=>S5 (Co h₂ λ_ s₃ h₃=>S5 (Co h₃ λok s₄ J=>?_)));match ok,J with
  | false,J=>exact Te ⟨rfl,J⟩
  | true,J=>exact S5 (S5 (Co J λx s₅ h₅=>S5 (U5 (Co h₅ λy s₆ h₆=>S5 (Vr (U5 (Co h₆ λ_ s₇ h₇=>Te ⟨rfl,h₇⟩)))))))
end
section
variable {X:Cx}{N':List Str}{sc:Scope}{aB:List (Option Nat)}{cl:List (Str×Addr)}{C:Addr}{fp:List Addr}{pins:List (Addr×Obj)}{s₂:S0}{H₂:Hp}{σ:St}
theorem AdL {s:S0}{H:Hp}{D:Addr}{kvs:List (Au×V)}{k:Au}{v:V}{x y:Value}{Q:Unit->S0->Prop}{E:Value->S0->Prop}(I:Ae X pins σ H s)(e:H D=some (.dK kvs))(aC:kvs.length<sizeLine)(rk:Ay (kV k) x)(L:Ay v y)(q:∀ B,Ae X pins σ (upd H D (.dK (Bz kvs k v))) B->Q () B):S4 (S8 X.prog X.w) X.A (dictSet D x y) Q E s:=by
 obtain ⟨z,hd,vs,rel,O⟩:=AQ (IM I.af e);have Y:vs.length<=sizeLine:=by rw [<- rel.length];exact z
 have hl:(Bz kvs k v).length<=sizeLine:=by have:=IJ kvs k v;omega
 refine wpAny_dictSet_pairs (hsz:=Y) (Fq rk) O λh' J hs=>q _ ?_;have he:∃ q,h'.get? D=some q:=let ⟨q,_,_,hq,_⟩:=J;⟨q,hq⟩;exact IP I (by rw [e];exact UP) hs he (KZ hl hd (rel.put k L) J)
theorem AdM {D:Addr}{h₁:Heap}{tk:Nat}{m:Str->Option Value}(S:Bu sc X.env.scope N' X.N aB)(I:Ae X pins σ H₂ s₂)(L:∀ x c,cl.lookup x=some c->X.env.cells.lookup x=some c)(bw:∀ y∈sc.names,y.2=.free->∃ c,cl.lookup y.1=some c)(cb:∀ b∈fp,CY X pins H₂ b)(bx:∀ b∈fp,∃ o,s₂.heap.get? b=some o)(hD:D=s₂.heap.objs.size)(hC:C=s₂.heap.objs.size+1)(hk:∀ b o,(s₂.heap.push { cls:=.type "dict",dict:=none,data:=.dict #[] }).get? b=some o->h₁.get? b=some o)(bH:h₁.Ns C m) :
  Ae (AS X N' sc cl C fp pins s₂ H₂) [] (Ei aB σ) (upd H₂ D (.dK [])) { s₂ with heap:=h₁,toks:=tk }:=by
 subst hD;have Y:s₂.heap.objs.size<=C:=by rw [hC];exact UA _
 have ok:=Ej S I L bw Y cb bx;have I3:Ae X pins σ (upd H₂ s₂.heap.objs.size (.dK [])) { s₂ with heap:=s₂.heap.push { cls:=.type "dict",dict:=none,data:=.dict #[] },toks:=tk }:=I.laid (t':=tk) (λb o q=>TF _ q) (Ti _) (K1 s₂.heap I.big);have I4:Ae X pins σ (upd H₂ s₂.heap.objs.size (.dK [])) { s₂ with heap:=h₁,toks:=tk }:=I3.kept (t':=tk) hk;have B:∀ b o,s₂.heap.get? b=some o->h₁.get? b=some o:=λb o e=>hk b o (TF _ e);have iG:∀ b o,s₂.heap.get? b=some o->b≠s₂.heap.objs.size:=λb o e=>TK (Tv e);have fj:∀ x c,cl.lookup x=some c->∃ v o,s₂.heap.get? c=some o/\o.data=.cell v:=λx c e=>by
  obtain ⟨v,o,H,hd⟩:=Bl (I.cell x c (L x c e));exact ⟨v,o,H,hd⟩
 refine ⟨ok,rfl,I.bare,Un.laid B (Ti _) I.fresh,⟨m,bH,λi x v e1 e2 e3=>?_⟩,λx c e=>?_,?_,λx c e=>?_,λp hp=>?_,I4.af,?_⟩
 .have J:(aB[i]?).map (λo=>o.bind λj=>(σ[j]?).join)=some (some v):=by
   have:=e2;unfold Ei at this;rwa [Tp] at this
  cases q:aB[i]? with
  | none=>rw [q] at J;cases J
  | some oj =>
   rw [q,US] at J;cases oj with
   | none=>cases J
   | some j =>
    have O:(σ[j]?).join=some v:=by simpa using J
    have e5:σ[j]?=some (some v):=by
     cases z:σ[j]? with
     | none=>rw [z] at O;cases O
     | some w=>rw [z] at O;rw [<- O];rfl
    obtain ⟨x',n1,n2,n3,V⟩:=AD (S.out i j q);have b5:N'[i]?=some x:=e1;rw [n1] at b5;cases b5;obtain ⟨m2,fN,hl⟩:=Ao I.loc;have hv:Gp X.env.scope x:=V.elim (λz=>.inr (.inl z)) λz=>.inr (.inr z);obtain ⟨u,r,l⟩:=Ao (hl j x v n2 e5 hv);refine ⟨u,r,.inr ⟨ID n3,?_⟩⟩;rcases l with ⟨k,_⟩ | ⟨_,c,ec,z⟩
    .have k':X.env.scope.names.lookup x=some .local:=k;rcases V with z | z<;>rw [k'] at z<;>cases z
    .obtain ⟨c',fm⟩:=bw _ (Vn n3) rfl;have:=L x c' fm;rw [ec] at this;cases this;obtain ⟨o,H,hd⟩:=Ao z;exact ⟨c,fm,o,B c o H,hd⟩
 .obtain ⟨v,o,H,hd⟩:=Bl (fj x c e);exact ⟨v,o,B c o H,hd⟩
 .show upd H₂ s₂.heap.objs.size (.dK []) C=none;rw [Ap (by rw [hC];exact Xb _)];exact I.af.fresh Y
 .obtain ⟨v,o,H,hd⟩:=Bl (fj x c e);show upd H₂ s₂.heap.objs.size (.dK []) c=none;rw [Ap (iG c o H)];exact I.cx x c (L x c e)
 .have bO:p∈X.pn++pins:=by simpa [AS] using hp
  obtain ⟨e,n,ne,nf,d⟩:=AQ (I.pin p bO);obtain ⟨_,V,_⟩:=AQ (I4.pin p bO);exact ⟨B _ _ e,V,TK (TY (Tv e) Y),λz=>(Tq.mp (I.cU _ z)).elim ne nf,d⟩
 .show (aB.map _).length=N'.length;rw [Tb];exact S.len
def O1 (aB:List (Option Nat))(wi:TI)(g:TG)(tt:TT)(tk tv:TE):TE:=λσ H Q=>wi σ H λJ H1=>∀ D,H1 D=none->∃ W:Nat->Nat->St->Hp->Prop,(∃ m,W 0 m (Ei aB σ) (upd H1 D (.dK [])))/\∀ i m σ' H',W i m σ' H' ->
 (J.stop i H'/\Q (.ref D) H')\/(J.go i H'/\∃ N:St->Hp->Prop,(∀ σ2 H2,N σ2 H2->∃ m',m'<m/\W (i+1) m' σ2 H2)/\∀ x H2,J.bM i H' x H2->g x σ' H2 λσ3 H3=>tt σ3 H3 λb H4 =>
  if b=true then tk σ3 H4 λk H5=>tv σ3 H5 λv H6=>∃ kvs kk,k=kV kk/\H6 D=some (.dK kvs)/\kvs.length<sizeLine/\N σ3 (upd H6 D (.dK (Bz kvs kk v))) else N σ3 H4)
theorem AdN {kx vx tg iter:S7}{V:List S7}{sc:Scope}{aB:List (Option Nat)}{N':List Str}{pos:Pos}{wi:TI}{g:TG}{tt:TT}{te tv:TE}{s:S0}{H:Hp}{use:Option (Value->Sem Unit)}{Qv:Value->S0->Prop}{Q:VK}(hc:X.calm=true)(S:Bu sc X.env.scope N' X.N aB)(hi:PI X tg iter wi)(hg:∀ cl C fp pins s₂ H₂,PG (AS X N' sc cl C fp pins s₂ H₂) tg g)(ht:∀ cl C fp pins s₂ H₂,Ek (AS X N' sc cl C fp pins s₂ H₂) V tt)(he:∀ cl C fp pins s₂ H₂,PE (AS X N' sc cl C fp pins s₂ H₂) kx te)(hv:∀ cl C fp pins s₂ H₂,PE (AS X N' sc cl C fp pins s₂ H₂) vx tv)(hs:∀ x,Vs iter X.env x=pure x)(I:Ae X pins σ H s)(h:O1 aB wi g tt te tv σ H Q)(post:∀ D C B s' m,(∀ h',Ud C s'.heap h'->Ae X pins σ B { s' with heap:=h' })->Ae X pins σ B s'->s'.heap.Ns C m->(∀ x c,X.env.cells.lookup x=some c->c≠C)->X.env.locals≠C->B C=none ->
   (∀ σ' Y h',Ae X pins σ' B Y->Ud C Y.heap h'->Ae X pins σ' B { Y with heap:=h' })->Q (.ref D) B->WH (S8 X.prog X.w) X.A X.xe use Qv (.ref D) C (.ok .next) s') :
  S4 (S8 X.prog X.w) X.A (XC (.DictComp kx vx [⟨tg,iter,V,0⟩] sc pos) sc X.env (YS [⟨tg,iter,V,0⟩] pos) newDict false (Tf iter X.env) use) Qv X.xe s:=by
 obtain ⟨cl,iH,aV,bw⟩:=KH (env:=X.env) (sc:=sc) λy hy hf=>I.ok.has y.1 (S.frees y hy hf);refine YT rfl hs iH S.kind S.one (Al (hi pins s σ H _ I h) λxv s₁ h₁=>Al h₁ λiy s₂ h₂=>?_);obtain ⟨it,fp,tn,J,H₂,e,O,T,fo,f₂,rd⟩:=Fd h₂;subst e;refine VO (YU S.jV (by intro y hy;simp at hy) (λh₁ bH cY=>?_) S.kind);dsimp only at bH cY ⊢;have bx:∀ b∈fp,∃ o,s₂.heap.get? b=some o:=λb hb=>let ⟨o,e,_⟩:=T.obj _ _ fo b hb;⟨o,e⟩;have cy:(s₂.heap.push { cls:=.type "dict",dict:=none,data:=.dict #[] }).objs.size=s₂.heap.objs.size+1:=Vc ..;have hk:∀ b o,(s₂.heap.push { cls:=.type "dict",dict:=none,data:=.dict #[] }).get? b=some o->h₁.get? b=some o:=λb o e=>cY.extBut b o (TK (Tv e)) (TF _ e);have IB:=AdM (tk:=s₂.toks+([]:List (Str×Value)).length) S O aV bw f₂ bx rfl cy hk bH;generalize (s₂.heap.push { cls:=.type "dict",dict:=none,data:=.dict #[] }).objs.size=C at cy bH cY IB ⊢;generalize hD:s₂.heap.objs.size=D at IB cy ⊢;have aP:s₂.heap.objs.size<=C:=by rw [hD,cy];exact UA _
 obtain ⟨W,⟨m0,w0⟩,turn⟩:=Ao (rd D (by rw [<- hD];exact O.fresh));have cZ:∀{B:Hp},(∀ b∈fp,B b=none)->∀ b∈fp,CY (AS X N' sc cl C fp pins s₂ H₂) [] B b:=λhn b hb=>by
  obtain ⟨z1,z2⟩:=(Ej S O aV bw aP f₂ bx).gP b hb;exact ⟨hn b hb,z1,(Ej S O aV bw aP f₂ bx).eW b hb,.inl hb,z2,λp hp=>(f₂ b hb).2.2.2.2.2 p (by simpa [AS] using hp)⟩
 have iI:∀ b∈fp,(upd H₂ D (.dK [])) b=none:=λb hb=>by
  obtain ⟨o,ho⟩:=bx b hb;rw [Ap (by rw [<- hD];exact TK (Tv ho))];exact (f₂ b hb).1
 have bf:tn 0 h₁:=T.keep _ _ _ fo λb hb o e=>hk b o (TF _ e);have loop:Uy (S8 X.prog X.w) X.A (.compLoop (.DictComp kx vx [⟨tg,iter,V,0⟩] sc pos) 0 (.ref it) (.ref D) (XB sc cl C X.env)) (WH (S8 X.prog X.w) X.A X.xe use Qv (.ref D) C) { s₂ with heap:=h₁,toks:=s₂.toks+([]:List (Str×Value)).length }:=by
  refine AdK (λn s'=>∃ i σ' B,Ae (AS X N' sc cl C fp pins s₂ H₂) [] σ' B s'/\tn i s'.heap/\(∀ b∈fp,B b=none)/\W i n σ' B) ?_ m0 ⟨0,_,_,IB,bf,iI,w0⟩;rintro n s3 ⟨i,σ3,H3,I3,cW,cX,w3⟩;rcases turn i n σ3 H3 w3 with ⟨stop,qn⟩ | ⟨go,N,hN,UO⟩
  .refine Al (T.done (AS X N' sc cl C fp pins s₂ H₂) rfl rfl rfl hc i [] s3 σ3 H3 _ I3 (cZ cX) cW stop) λr s4 ⟨hr,I4⟩=>?_;subst hr;have JX:=KI O f₂ I4;obtain ⟨m,hn,_⟩:=Ao I4.loc;have cn:∀ x c,X.env.cells.lookup x=some c->c≠C:=λx c e z=>by
    obtain ⟨v,q⟩:=O.cell x c e;exact absurd (TY q.lt (by rw [z];exact aP)) (UM _)
   have gone:∀ σ' Y h',Ae X pins σ' H3 Y->Ud C Y.heap h'->Ae X pins σ' H3 { Y with heap:=h' }:=λσ' Y h' K3 iJ =>
    K3.turned (t':=Y.toks) (it:=C) (λb o hb e=>(iJ.2 b hb).trans e) I4.free (VE (TY O.lt aP)) (.inr (Uk O.sz aP)) cn λp hp z=>by
     exact absurd (TY (Tv (O.pin p hp).1) (by rw [z];exact aP)) (UM _)
   exact post D C H3 s4 m (λh' hs'=>gone σ s4 h' JX hs') JX hn cn (TK (TY O.lt aP)) I4.free gone qn
  .refine Al (T.item (AS X N' sc cl C fp pins s₂ H₂) rfl rfl rfl hc i [] s3 σ3 H3 _ I3 (cZ cX) cW go) λr s4 L=>Cu L λu hr h4=>?_;subst hr;refine Al h4 λ_ s5 L=>AG L λx H5 I5 r5 ⟨y5,b9,fL⟩=>?_;have fM:=I5.pinned (cZ fL) (T.obj _ _ b9);refine Al (hg cl C fp pins s₂ H₂ _ s5 σ3 H5 x u _ fM r5 (UO x H5 y5)) λ_ s6 L=>Gi L λσ6 H6 I6 q6=>?_;refine Al (ht cl C fp pins s₂ H₂ _ s6 σ6 H6 _ I6 q6) λok s7 L=>Cu L λH7 I7 q7=>?_;have again:∀{H8:Hp}{s8:S0},Ae (AS X N' sc cl C fp pins s₂ H₂) ([]++Ff fp s5.heap) σ6 H8 s8->N σ6 H8->∃ m,m<n/\∃ i σ' B,Ae (AS X N' sc cl C fp pins s₂ H₂) [] σ' B s8/\tn i s8.heap/\(∀ b∈fp,B b=none)/\W i m σ' B:=λ{H8 s8} I8 n8=>by
    obtain ⟨m',hm,w8⟩:=Ao (hN σ6 H8 n8);refine ⟨m',hm,i+1,σ6,H8,I8.gT,T.keep _ _ _ b9 λb hb o e=>(I8.pin (b,o) (T3 _ (T3 _ (EB hb e)))).1,λb hb=>?_,w8⟩;obtain ⟨o,e,d⟩:=Ao (T.obj _ _ b9 b hb);exact (I8.pin (b,o) (T3 _ (T3 _ (EB hb e)))).2.1
   cases ok with
   | false=>exact again I7 q7
   | true =>
    refine Al (he cl C fp pins s₂ H₂ _ s7 σ6 H7 _ I7 q7) λy s8 L=>AG L λv H8 I8 r8 q8=>?_;refine Al (hv cl C fp pins s₂ H₂ _ s8 σ6 H8 _ I8 q8) λy' s9 L=>AG L λv' H9 I9 r9 q9=>?_;replace q9:=Bi q9;obtain ⟨kvs,kk,rfl,hy,aC,n9⟩:=q9
    exact AdL (X:=AS X N' sc cl C fp pins s₂ H₂) I9 hy aC r8 r9 λs10 I10=>again I10 n9
 exact codeAny_compStart_dict loop (T.self _ 0 _ _ _ bf loop)
theorem O2 {V Y L iter:S7}{B:List S7}{sc:Scope}{aB:List (Option Nat)}{N':List Str}{pos:Pos}{wi:TI}{g:TG}{tt:TT}{te tv:TE}(hc:X.calm=true)(S:Bu sc X.env.scope N' X.N aB)(hi:PI X L iter wi)(hg:∀ cl C fp pins s₂ H₂,PG (AS X N' sc cl C fp pins s₂ H₂) L g)(ht:∀ cl C fp pins s₂ H₂,Ek (AS X N' sc cl C fp pins s₂ H₂) B tt)(he:∀ cl C fp pins s₂ H₂,PE (AS X N' sc cl C fp pins s₂ H₂) V te)(hv:∀ cl C fp pins s₂ H₂,PE (AS X N' sc cl C fp pins s₂ H₂) Y tv)(hs:∀ x,Vs iter X.env x=pure x:=by intro _;rfl):PE X (.DictComp V Y [⟨L,iter,B,0⟩] sc pos) (O1 aB wi g tt te tv):=by intro pins s σ H Q I h;rw [arm_eval_DictComp];refine AdN (use:=none) (Q:=Q) hc S hi hg ht he hv hs I h λD C H' s' m g1 J hn cn ln fr g2 q=>?_;exact ⟨m,hn,λh' O=>⟨.ref D,H',g1 h' O,rfl,q⟩⟩
end
structure Ld (P:Ta)(w:S6)(K:S3)(a:Addr)(kvs:List (Au×V)):Prop where
 lo:(a == UJ)=false
 sz:kvs.length<=sizeLine
 pN:∃ o vs ep,K.lookup a=some o/\KV kvs vs/\∀ h:Heap,h.get? a=some o->h.DictAt (Bm P w) a vs ep
def F1 (P:Ta)(w:S6)(K:S3)(H:Hp)(a:Addr)(kvs:List (Au×V)):Prop:=Rd H a (.dK kvs)\/Ld P w K a kvs
theorem F1.of {P:Ta}{w:S6}{K:S3}{H:Hp}{a:Addr}{kvs:List (Au×V)}(h:H a=some (.dK kvs)):F1 P w K H a kvs:=.inl (.inl h)
theorem O3 {P:Ta}{w:S6}{k:Au}{u:Value}(h:(Bm P w).is k u=true):Ay (kV k) u:=by
 rw [Aag] at h;cases k with
 | inl i =>
  show ∃ t,u=Uw i t;cases u<;>simp [DT,XZ] at h;rename_i j t
  exact ⟨t,by rw [h]⟩
 | inr x =>
  show ∃ t,u=Uj x t;cases u<;>simp [DT,Xg] at h;rename_i j t
  exact ⟨t,by rw [h]⟩
section
variable {X:Cx}{pins:List (Addr×Obj)}{σ:St}{H:Hp}{s:S0}{a:Addr}{kvs:List (Au×V)}{P:Ta}{w:S6}{K:S3}
theorem Le (I:Ae X pins σ H s)(e:F1 X.prog X.w X.K H a kvs):kvs.length<=sizeLine/\(a == UJ)=false/\∃ vs,KV kvs vs/\s.heap.DictOf (Bm X.prog X.w) a vs:=by
 rcases e with e | e
 .exact IL I.af e
 .obtain ⟨o,vs,B,l,r,d⟩:=CU e.pN;exact ⟨e.sz,e.lo,vs,r,(d _ (I.bk _ _ (I.mod.eV _ _ l))).dictOf⟩
def AdO (P:Ta)(w:S6)(K:S3)(neg:Bool):R2:=λx y H Q=>∃ a kvs k,y=.ref a/\x=kV k/\F1 P w K H a kvs/\Q (.bl (if neg then !(Bp kvs k).isSome else (Bp kvs k).isSome)) H
theorem IW (B:X.prog=P:=by rfl)(hw:X.w=w:=by rfl)(D:X.K=K:=by rfl):A7 X (Ub .NotIn) (AdO P w K true):=by
 subst B hw D;intro pins s σ H x y v u Q I J L h;replace h:=CU h;obtain ⟨a,kvs,k,rfl,rfl,e,q⟩:=h
 cases (show u=TU a from L);obtain ⟨z,hd,vs,rel,O⟩:=AQ (Le I e);refine wpAny_notIn_of (Fq J) hd O.mapOf ?_;rw [<- (rel.val k).pG];exact ⟨.bl (!(Bp kvs k).isSome),H,I.tok _,rfl,q⟩
def O4 (P:Ta)(w:S6)(K:S3)(td ty:TE):TE:=λσ H Q=>td σ H λx H1=>ty σ H1 λy H2=>∃ a kvs k v,x=.ref a/\y=kV k/\F1 P w K H2 a kvs/\Bp kvs k=some v/\Q v H2
theorem AdP {o i:S7}{pos:Pos}{D ty:TE}(O:PE X o D)(Y:PE X i ty)(hs:K0 i)(hP:X.prog=P:=by rfl)(hw:X.w=w:=by rfl)(hK:X.K=K:=by rfl):PE X (.Subscript o i pos) (O4 P w K D ty):=by subst hP hw hK;intro pins s σ H Q I h;refine AcZ PySem.F.slot_dict_getitem.lookup hs (Al (O pins s σ H _ I h) λu s1 B=>AG B λx H1 I1 rx q1=>Al (Y pins s1 σ H1 _ I1 q1) λiv s2 B=>AG B λy H2 J ry ⟨a,kvs,k,v,ex,ey,g,l,q2⟩=>?_);subst ex ey;obtain rfl:u=TU a:=rx;obtain ⟨z,hd,vs,rel,L⟩:=AQ (Le J g);obtain ⟨w',hw,bN⟩:=Ao (CC.some_of (v:=v) (o:=Wo vs k) (by rw [<- l];exact rel.val k));exact ⟨L.typeIs,wpAny_getItem_of (Fq ry) L.mapOf hw ⟨v,H2,J.tok _,bN,q2⟩⟩
theorem CN (P:Ta)(w:S6)(K:S3){X:Cx}{o i:S7}{pos:Pos}{B ty:TE}(D:PE X o B)(I:PE X i ty)(hs:K0 i:=by exact λ_ _=>rfl)(J:X.prog=P:=by rfl)(hw:X.w=w:=by rfl)(L:X.K=K:=by rfl):PE X (.Subscript o i pos) (O4 P w K B ty):=AdP D I hs J hw L
end
section
variable {K:S3}{D:Addr}{kvs:List (Au×V)}{g:TG}{tt:TT}{tk tv:TE}{σ0:St}{H:Hp}{Q:Hp->Prop}{a:Addr}{xs:List V}
abbrev O5 (D:Addr)(tt:TT)(tk tv:TE)(N:St->Hp->Prop):St->Hp->Prop:=λσ3 H3=>tt σ3 H3 λb H4 =>
 if b=true then tk σ3 H4 λk H5=>tv σ3 H5 λv H6=>∃ kvs kk,k=kV kk/\H6 D=some (.dK kvs)/\kvs.length<sizeLine/\N σ3 (upd H6 D (.dK (Bz kvs kk v))) else N σ3 H4
end
end L2
set_option maxHeartbeats 4000000
namespace L2
open PySem PySem.Spec PyProof.Rows Builtin Builtin.Str
section
variable {X:Cx}
end
end L2
namespace L2
open PySem PySem.Spec PyProof.Rows
section
variable {K:S3}{a D:Addr}{xs:List V}{g:TG}{tt:TT}{te:TE}{σ0:St}{H:Hp}{Q:Hp->Prop}
theorem AdQ (Pv:Nat->St->Hp->Prop)(h0:Pv 0 σ0 (upd H D (.lst [])))(hl:∀ i σ H,i<=xs.length->Pv i σ H->Bh K H a xs)(hs:∀ i x σ B,xs[i]?=some x->Pv i σ B->g x σ B (GX D tt te (Pv (i+1))))(hd:∀ σ B,Pv xs.length σ B->Q B) :
  ∃ W:Nat->Nat->St->Hp->Prop,(∃ m,W 0 m σ0 (upd H D (.lst [])))/\∀ i m σ' B,W i m σ' B ->
   ((EA K a).stop i B/\Q B)\/((EA K a).go i B/\∃ N:St->Hp->Prop,(∀ σ2 I,N σ2 I->∃ m',m'<m/\W (i+1) m' σ2 I)/\∀ x I,(EA K a).bM i B x I->g x σ' I λσ3 H3=>tt σ3 H3 λb J =>
    if b=true then te σ3 J λv L=>∃ ys,L D=some (.lst ys)/\ys.length<sizeLine/\N σ3 (upd L D (.lst (ys++[v]))) else N σ3 J):=by
 refine ⟨λi m σ H=>m=xs.length - i/\i<=xs.length/\Pv i σ H,⟨xs.length,by simp,T5 _,h0⟩,?_⟩;rintro i m σ O ⟨rfl,hi,p⟩;have q:=hl i σ O hi p;by_cases Y:i<xs.length
 .refine .inr ⟨⟨xs,xs[i],q,by simp [Y]⟩,Pv (i+1),λσ' B p'=>⟨xs.length - (i+1),by omega,rfl,Y,p'⟩,λx B y=>?_⟩;obtain ⟨rfl,hy⟩:=y;exact hs i x σ _ (hy xs q) p
 .have e:i=xs.length:=by omega
  subst e;exact .inl ⟨⟨xs,q,Ti _⟩,hd σ O p⟩
end
section
variable {prog:Ta}{w:S6}{A:Tt}{E:Value->S0->Prop}{s:S0}
theorem AdR {j t:Addr}{i:Nat}{its:Array Value}{x:Value}{Q:Value->S0->Prop}(H:s.heap.IsTupleIter j t i)(I:s.heap.IsTuple t its)(hx:its[i]?=some x)(q:∀ g,g.IsTupleIter j t (i+1)->Ud j s.heap g->Q x { s with heap:=g }):S4 (S8 prog w) A (XN (.ref j)) Q E s:=by obtain ⟨o,D,J,B⟩:=AD (id H);obtain ⟨u,f1,_,n,L⟩:=AD I;unfold XN;refine S5 (W0 (name:=S9 "__next__") H.typeIs XO (Wg XO H.typeIs tO ?_ (tP _)));show S4 _ _ (V1 (.ref j) 0 >>= _) _ _ s;refine S5 (U0 D B (x:=.ref t) rfl ?_);show S4 _ _ (if (TU t == UC)=true then _ else _) _ _ s;rw [if_neg (show ¬ ((TU t == UC)=true) from T7)];show S4 _ _ (V1 (.ref j) 1 >>= _) _ _ s;refine S5 (U0 D B (x:=.int i 0) rfl ?_);show S4 _ _ (seqItems? (.ref t) >>= _) _ _ s;refine S5 (tQ f1 L ?_);simp only [Vq,hx];refine S5 (tR D B (by simp) (Te ⟨x,rfl,Te (q _ ⟨_,YA _ D (Obj.isFreed_of_fields (tS B _)),(Obj.cls_mapFields ..).trans J,?_⟩ (XJ ..))⟩));rw [tS B];simp [V9]
theorem AdS {j t:Addr}{i:Nat}{its:Array Value}{Q:Value->S0->Prop}(I:A.handled=none)(B:s.heap.IsTupleIter j t i)(J:s.heap.IsTuple t its)(hx:its[i]?=none)(q:∀ g e,Heap.ExtBut j s.heap g->(∃ o,g.get? e=some o/\o.cls=.type "StopIteration")->E (.ref e) { s with heap:=g }):S4 (S8 prog w) A (XN (.ref j)) Q E s:=by
 obtain ⟨o,D,O,H⟩:=AD (id B);obtain ⟨u,f1,_,n,L⟩:=AD J;unfold XN;refine S5 (W0 (name:=S9 "__next__") B.typeIs XO (Wg XO B.typeIs tO ?_ (tP _)));show S4 _ _ (V1 (.ref j) 0 >>= _) _ _ s;refine S5 (U0 D H (x:=.ref t) rfl ?_);show S4 _ _ (if (TU t == UC)=true then _ else _) _ _ s;rw [if_neg (show ¬ ((TU t == UC)=true) from T7)];show S4 _ _ (V1 (.ref j) 1 >>= _) _ _ s;refine S5 (U0 D H (x:=.int i 0) rfl ?_);show S4 _ _ (seqItems? (.ref t) >>= _) _ _ s;refine S5 (tQ f1 L ?_);simp only [Vq,hx];refine S5 (WK (S5 (tR D H (by simp) ?_)));show S4 _ _ (newExc (.type "StopIteration") [] >>= _) _ _ _;refine S5 ?_;simp only [newExc,newTuple];refine S5 (VO ?_ (by size_fits));refine S5 (m:=tT _ _) (wpAny_of_eq (a:=UC) (by first | rfl | (simp only [tT];rfl)) ?_);refine VO ?_ (by size_fits);simp only [raiseNew];refine S5 (wpAny_handled ?_);first | rw [show A.in1.handled=none from I] | rw [I]
 refine S5 (Te (wpAny_throw ?_));exact q _ _ (((XJ ..).extBut.push _).push _) ⟨_,Uq _ rfl,rfl⟩
theorem AdT {e j t:Addr}{i:Nat}{its:Array Value}{x B:Value}{Q:Value->S0->Prop}(he:U8 s.heap e j i B)(hj:s.heap.IsTupleIter j t i)(ht:s.heap.IsTuple t its)(hx:its[i]?=some x)(ne:e≠j)(q:∀ g,XQ g e j ((i:Int)+1) x s.heap.objs.size->g.IsTupleIter j t (i+1)->g.get? s.heap.objs.size=some { cls:=.type "tuple",data:=.seq #[.int i s.toks,x] }->g.objs.size=s.heap.objs.size+1 ->
   (∀ b o,b≠e->b≠j->s.heap.get? b=some o->g.get? b=some o)->Q (.ref s.heap.objs.size) { s with heap:=g,toks:=s.toks+1 }) :
  S4 (S8 prog w) A (Builtin.«enumerate.__next__» ⟨[.ref e],[]⟩) (λfin s'=>∃ v,fin=.done (.ret v)/\Q v s') E s:=by
 obtain ⟨H,I,J,D,os⟩:=s;show S4 _ _ (V1 (.ref e) 2 >>= _) _ _ _;refine S5 (U0 he rfl (x:=.ref j) rfl (S5 (AdR hj ht hx λL j1 Y=>?_)));replace Y:Ud j H L:=Y
 have E1:U8 L e j i B:=(Y.2 e ne).trans he;show S4 _ _ (V1 (.ref e) 3 >>= _) _ _ ⟨L,I,J,D,os⟩;refine S5 (U0 E1 rfl (x:=V9 i) rfl ?_);show S4 _ _ (V1 (.ref e) 4 >>= _) _ _ ⟨L,I,J,D,os⟩;refine S5 (U0 E1 rfl (x:=.none) rfl ?_);show S4 _ _ (mkInt i >>= _) _ _ ⟨L,I,J,D,os⟩;refine S5 (wpAny_mkInt ?_);show S4 _ _ (setField (.ref e) 3 (V9 ((i:Int)+1)) >>= _) _ _ ⟨L,I,J,D+1,os⟩;refine S5 (Xd E1 (by simp) λa2 E2 s2=>?_);replace s2:Ud e L a2:=s2
 replace E2:U8 a2 e j ((i:Int)+1) B:=E2
 show S4 _ _ (setField (.ref e) 4 .none >>= _) _ _ ⟨a2,I,J,D+1,os⟩;refine S5 (Xd E2 (by simp) λO E3 s3=>?_);replace s3:Ud e a2 O:=s3
 replace E3:U8 O e j ((i:Int)+1) B:=E3
 show S4 _ _ (newTuple [.int i D,x] >>= _) _ _ ⟨O,I,J,D+1,os⟩;refine S5 (tu ?_);have E4:U8 (O.push { cls:=.type "tuple",data:=.seq #[.int i D,x] }) e j ((i:Int)+1) B:=TF _ E3;generalize e4:O.push { cls:=.type "tuple",data:=.seq #[.int i D,x] }=a4 at E4;have z3:O.objs.size=H.objs.size:=by rw [s3.1,s2.1,Y.1]
 have le:e<H.objs.size:=Tv he;have T4:a4.get? H.objs.size=some { cls:=.type "tuple",data:=.seq #[.int i D,x] }:=by rw [<- e4,<- z3];exact Uq _ rfl
 have z4:a4.objs.size=H.objs.size+1:=by rw [<- e4,Vc,z3]
 have k4:∀ b o,b≠e->b≠j->H.get? b=some o->a4.get? b=some o:=λb o V n2 hb=>by
  rw [<- e4];exact TF _ (s3.extBut b o V (s2.extBut b o V (Y.extBut b o n2 hb)))
 have j4:a4.IsTupleIter j t (i+1):=by rw [<- e4];obtain ⟨o,ho,r⟩:=Ao ((j1.extBut s2.extBut (Tu ne)).extBut s3.extBut (Tu ne));exact ⟨o,TF _ ho,r⟩
 show S4 _ _ (tU (.ref e) >>= _) _ _ ⟨a4,I,J,D+1,os⟩;rw [z3];clear e4 E3 s3 E2 s2 E1 Y j1 z3 O a2 L
 refine S5 ?_;unfold tU;refine S5 (U0 E4 rfl (x:=.none) rfl (Te ?_));simp only [if_true];refine S5 (WK (S5 (U0 E4 rfl (x:=B) rfl (S5 (Xd E4 (by simp) λa5 E5 s5=>?_)))));replace s5:Ud e a4 a5:=s5
 replace E5:U8 a5 e j ((i:Int)+1) x:=E5
 show S4 _ _ (tV (.ref e) (.ref H.objs.size) >>= _) _ _ ⟨a5,I,J,D+1,os⟩;refine S5 ?_;unfold tV;refine S5 (Xd E5 (by simp) λa6 E6 s6=>?_);replace s6:Ud e a5 a6:=s6
 replace E6:XQ a6 e j ((i:Int)+1) x H.objs.size:=E6
 refine Xd E6 (by simp) λa7 E7 s7=>?_;replace s7:Ud e a6 a7:=s7
 replace E7:XQ a7 e j ((i:Int)+1) x H.objs.size:=E7
 refine S5 (wpAny_letGo (Te ⟨_,rfl,q a7 E7 ?_ ?_ ?_ ?_⟩))
 .exact ((j4.extBut s5.extBut (Tu ne)).extBut s6.extBut (Tu ne)).extBut s7.extBut (Tu ne)
 .exact s7.extBut _ _ (VE le) (s6.extBut _ _ (VE le) (s5.extBut _ _ (VE le) T4))
 .rw [s7.1,s6.1,s5.1,z4]
 .exact λb o V n2 hb=>s7.extBut b o V (s6.extBut b o V (s5.extBut b o V (k4 b o V n2 hb)))
theorem AdU {e j t:Addr}{i:Nat}{its:Array Value}{x B:Value}{Q:Option Value->S0->Prop}(D:U8 s.heap e j i B)(H:s.heap.IsTupleIter j t i)(I:s.heap.IsTuple t its)(hx:its[i]?=some x)(ne:e≠j)(q:∀ g,XQ g e j ((i:Int)+1) x s.heap.objs.size->g.IsTupleIter j t (i+1)->g.get? s.heap.objs.size=some { cls:=.type "tuple",data:=.seq #[.int i s.toks,x] }->g.objs.size=s.heap.objs.size+1 ->
   (∀ b o,b≠e->b≠j->s.heap.get? b=some o->g.get? b=some o)->Q (some (.ref s.heap.objs.size)) { s with heap:=g,toks:=s.toks+1 }):S4 (S8 prog w) A (U6 (.ref e)) Q E s:=by
 have ty:s.TypeIs (.ref e) "enumerate":=⟨_,D,rfl⟩;unfold U6;exact S5 (wpAny_attempt (W0 (name:=S9 "__next__") ty XR (Wg XR ty tW (AdT D H I hx ne λg a b c d k=>Te (q g a b c d k)) (tX _))))
theorem AdV {e j t:Addr}{i:Nat}{its:Array Value}{B:Value}{Q:Option Value->S0->Prop}(H:A.handled=none)(D:U8 s.heap e j i B)(I:s.heap.IsTupleIter j t i)(J:s.heap.IsTuple t its)(hx:its[i]?=none)(q:∀ g,Heap.ExtBut j s.heap g->Q none { s with heap:=g }):S4 (S8 prog w) A (U6 (.ref e)) Q E s:=by have ty:s.TypeIs (.ref e) "enumerate":=⟨_,D,rfl⟩;unfold U6;refine S5 (wpAny_attempt (W0 (name:=S9 "__next__") ty XR (Wg XR ty tW ?_ (tX _))));show S4 _ _ (V1 (.ref e) 2 >>= _) _ _ _;refine S5 (U0 D rfl (x:=.ref j) rfl (S5 (AdS H I J hx λg y L O=>Cu O λo V hc=>?_)));exact S5 (wpAny_isInstance (T:="StopIteration") (b:=true) ⟨o,V,hc⟩ isSubtype_stop (Te (q _ L)))
end
theorem AdW (t:Addr)(its:Array Value)(o:Obj)(hc:o.cls=.type "tuple")(n:Nat)(hd:o.data=.seq its n) :
  Meets (Builtin.«enumerate.__new__» ⟨[.type "enumerate",.ref t],[]⟩) (λ_ R s=>s.heap.get? t=some o /\
   R (.ok (.ret (.ref (s.heap.push { cls:=.type "tuple_iterator",data:=.fields #[.ref t,.int 0 0] }).objs.size)))
    { s with heap:=(s.heap.push { cls:=.type "tuple_iterator",data:=.fields #[.ref t,.int 0 0] }).push { cls:=.type "enumerate",data:=.fields #[.none,.bool false,.ref s.heap.objs.size,V9 0,.none,.none] } }) :=
 .of_wp λprog w A R s h=>by
  obtain ⟨c,Y,H,sl⟩:=o;replace hc:c=.type "tuple":=hc
  replace hd:H=.seq its n:=hd
  subst hc hd;obtain ⟨I,J,L,O,os⟩:=s;obtain ⟨B,h⟩:=h;have V:=sub_enumerate;have D:Heap.IsTuple (Shared.heap ⟨I,J,L,O,os⟩) t its:=⟨_,B,rfl,n,rfl⟩;wp_walk using Za B
  refine wpAny_stack_any λst=>Te ?_;split
  .rename_i c _ _ _ _ _
   cases (c == WM "enumerate")<;>(wp_walk using Za B,Yg D;exact ⟨_,rfl,h⟩)
  .wp_walk using Za B,Yg D
   exact ⟨_,rfl,h⟩
section
variable {prog:Ta}{w:S6}{A:Tt}{E:Value->S0->Prop}{s:S0}
theorem AdX {t:Addr}{its:Array Value}{Q:Value->S0->Prop}(H:s.heap.IsTuple t its)(h:∀ g,U8 g (s.heap.objs.size+1) s.heap.objs.size 0 .none->g.IsTupleIter s.heap.objs.size t 0->g.objs.size=s.heap.objs.size+2->(∀ b o,s.heap.get? b=some o->g.get? b=some o)->Q (.ref (s.heap.objs.size+1)) { s with heap:=g }) :
  S4 (S8 prog w) A (call (.type "enumerate") [.ref t]) Q E s:=by
 obtain ⟨o,I,hc,n,hd⟩:=AD H;refine callType_new F.called_enumerate (by decide) (F.typeCall_enumerate_1 _) (F.newCall_enumerate_1 _) (λobj=>F.args_object_init_2 obj _) F.entry_enumerate_new (AdW t its o hc n hd) ⟨I,?_⟩;have B:(s.heap.push { cls:=.type "tuple_iterator",data:=.fields #[.ref t,.int 0 0] }).objs.size=s.heap.objs.size+1:=Vc ..;show _/\_;rw [B];have D:U8 ((s.heap.push { cls:=.type "tuple_iterator",data:=.fields #[.ref t,.int 0 0] }).push { cls:=.type "enumerate",data:=.fields #[.none,.bool false,.ref s.heap.objs.size,V9 0,.none,.none] }) (s.heap.objs.size+1) s.heap.objs.size 0 .none:=by have:=Uq (s.heap.push { cls:=.type "tuple_iterator",data:=.fields #[.ref t,.int 0 0] }) (o:={ cls:=.type "enumerate",data:=.fields #[.none,.bool false,.ref s.heap.objs.size,V9 0,.none,.none] }) rfl;rw [B] at this;exact this
 exact ⟨⟨_,D,rfl⟩,h _ D ⟨_,TF _ (Uq _ rfl),rfl,rfl⟩ (by rw [Vc,B]) λb o x=>TF _ (TF _ x)⟩
end
section
variable {X:Cx}{pins:List (Addr×Obj)}{σ:St}{H:Hp}{s:S0}{h':Heap}
noncomputable def G2 (K:S3)(a:Addr):It :=
 ⟨λi H=>∃ xs x,Bh K H a xs/\xs[i]?=some x,λi H x H'=>∃ t y,x=.ref t/\H t=none/\H'=upd H t (.tup [.int i,y])/\∀ xs,Bh K H a xs->xs[i]?=some y,λi H=>∃ xs,Bh K H a xs/\xs.length<=i⟩
theorem AdY {P:Ta}{w:S6}{K:S3}{L:List S7}{kk:Nat}{pos:Pos}(a e it:Addr)(iK:e≠it):Ez P w K (.Tuple L kk pos) (G2 K a) [e,it] e (λi h=>(∃ B,U8 h e it i B)/\h.IsTupleIter it a i) where
 mem:=by simp
 obj:=λi h st b hb=>by
  obtain ⟨⟨B,D⟩,⟨o,V,c,d⟩⟩:=st;rcases Tq.mp hb with z | z
  .subst z;exact ⟨_,D,λv z=>by cases z⟩
  .have z:b=it:=by simpa using z
   subst z;exact ⟨o,V,λv z=>by rw [d] at z;cases z⟩
 keep:=λi h h' st k=>by
  obtain ⟨⟨B,D⟩,hi⟩:=st;exact ⟨⟨B,k e (by simp) _ D⟩,hi.at λo q=>k it (by simp) o q⟩
 item:=by
  intro X Y hw hK hc i pins s σ H E I O st hg;subst Y hw hK;obtain ⟨xs,x,hq,hx⟩:=Bl hg;obtain ⟨its,rv,p,hz⟩:=AD (I.tuple hq);obtain ⟨u,hu,ru⟩:=Ao (rv.get hx);obtain ⟨⟨B,D⟩,J⟩:=st;refine AdU D J p (x:=u) (by simpa using hu) iK λh' V lA hT hsz hk=>⟨_,rfl,?_⟩;have I1:Ae X pins σ (upd H s.heap.objs.size (.tup [.int i,x])) { s with heap:=h',toks:=s.toks+1 } :=
   I.pF (ch:=[e,it]) (us:=[.int i s.toks,u]) O (λb o hb q=>hk b o (λz=>hb (by simp [z])) (λz=>hb (by simp [z])) q) (Ti _)
    (λb hb=>by
     rcases Tq.mp hb with z | z
     .subst z;exact ⟨_,D⟩
     .have z:b=it:=by simpa using z
      subst z;obtain ⟨o,q,_⟩:=Ao J;exact ⟨o,q⟩) hT (.cons ⟨_,rfl⟩ (.cons ru .nil)) Av
  have fr:∀ b∈[e,it],(upd H s.heap.objs.size (.tup [.int i,x])) b=none:=λb hb=>by
   have au:b<s.heap.objs.size:=by
    rcases Tq.mp hb with z | z
    .subst z;exact Tv D
    .have z:b=it:=by simpa using z
     subst z;obtain ⟨o,q,_⟩:=Ao J;exact Tv q
   rw [Ap (TK au)];exact (O b hb).1
  refine Z0 V λh2 lB b4=>?_;obtain ⟨f0,f1,f2,f3,f4,f5⟩:=AQ (O e (by simp));have I2:Ae X pins σ (upd H s.heap.objs.size (.tup [.int i,x])) { s with heap:=h2,toks:=s.toks+1 }:=I1.turned (t':=s.toks+1) (λb o hb q=>(b4.2 b hb).trans q) (fr e (by simp)) f1 f3 f4 f5;refine ⟨.ref s.heap.objs.size,_,I2,rfl,⟨_,x,rfl,I.fresh,rfl,λys hy=>by rw [I.o4 hy hq];exact hx⟩,⟨⟨u,lB⟩,?_⟩,fr⟩;exact lA.at λo q=>(b4.2 it iK.symm).trans q
 done:=by intro X Y hw hK hc i pins s σ H E I O st hg;subst Y hw hK;obtain ⟨xs,hq,hx⟩:=Ao hg;obtain ⟨its,rv,p,hz⟩:=AD (I.tuple hq);obtain ⟨⟨B,D⟩,J⟩:=st;obtain ⟨f0,f1,f2,f3,f4,f5⟩:=AQ (O it (by simp));have hl:=rv.length;exact AdV (I.ok.hd hc) D J p (by simp;omega) λh' eb=>⟨rfl,I.turned (t':=s.toks) (λb o hb q=>eb b o hb q) f0 f1 f3 f4 f5⟩
 self:=λ_ _ _ _ _ st h=>by
  obtain ⟨⟨B,D⟩,_⟩:=st;exact XD D h
def AdZ (K:S3)(ta:TA):TI:=λσ H R=>ta σ H λvs H1=>∃ a xs,vs=[.ref a]/\Bh K H1 a xs/\R (G2 K a) H1
theorem Ad0 {x:S7}{O:TA}{p pos tp:Pos}{J:List S7}{kk:Nat}(g:Gm X.env.scope "enumerate")(hm:X.mg "enumerate"=none)(ha:PA X [x] O)(hs:Tj [x] X.env=[(false,Tf x X.env)]:=by rfl) :
  PI X (.Tuple J kk tp) (.Call (.Name "enumerate" p) [x] [] pos) (AdZ X.K O):=by
 intro pins s σ H R I h;refine Call_ (Fe I g.gl hm Om (WT (Al (ha pos pins s σ H _ I h) λus B zz=>AG zz λvs V D r1 q1=>?_) hs rfl));obtain ⟨a,xs,e,hq,q⟩:=Bi q1;subst e;cases r1 with
 | cons r rr =>
  cases rr;cases r;obtain ⟨its,rv,pl,hz⟩:=AD (D.tuple hq);refine AdX pl λh' Y L hsz hk=>?_;refine XD Y ?_;have lC:V (B.heap.objs.size+1)=none:=D.af.fresh (UA _);refine ⟨B.heap.objs.size+1,[B.heap.objs.size+1,B.heap.objs.size],_,_,V,rfl,D.kept (t':=B.toks) hk,AdY a _ _ (Xb _),⟨⟨_,Y⟩,L⟩,λb hb=>?_,q⟩;rcases Tq.mp hb with z | z
  .subst z;exact D.dW (UA _) lC
  .have z:b=B.heap.objs.size:=by simpa using z
   subst z;exact D.dW (Ti _) D.fresh
end
section
variable {K:S3}{a D:Addr}{xs:List V}{g:TG}{tt:TT}{tk tv:TE}{σ0:St}{H:Hp}{Q:Hp->Prop}
theorem Ad1 (Pv:Nat->St->Hp->Prop)(h0:Pv 0 σ0 (upd H D (.dK [])))(hl:∀ i σ H,i<=xs.length->Pv i σ H->Bh K H a xs)(hs:∀ i x t σ B,xs[i]?=some x->Pv i σ B->B t=none->g (.ref t) σ (upd B t (.tup [.int i,x])) (O5 D tt tk tv (Pv (i+1))))(hd:∀ σ B,Pv xs.length σ B->Q B) :
  ∃ W:Nat->Nat->St->Hp->Prop,(∃ m,W 0 m σ0 (upd H D (.dK [])))/\∀ i m σ' B,W i m σ' B ->
   ((G2 K a).stop i B/\Q B)\/((G2 K a).go i B/\∃ N:St->Hp->Prop,(∀ σ2 I,N σ2 I->∃ m',m'<m/\W (i+1) m' σ2 I)/\∀ x I,(G2 K a).bM i B x I->g x σ' I λσ3 H3=>tt σ3 H3 λb L =>
    if b=true then tk σ3 L λk H5=>tv σ3 H5 λv O=>∃ kvs Y,k=kV Y/\O D=some (.dK kvs)/\kvs.length<sizeLine/\N σ3 (upd O D (.dK (Bz kvs Y v))) else N σ3 L):=by
 refine ⟨λi m σ H=>m=xs.length - i/\i<=xs.length/\Pv i σ H,⟨xs.length,by simp,T5 _,h0⟩,?_⟩;rintro i m σ J ⟨rfl,hi,p⟩;have q:=hl i σ J hi p;by_cases au:i<xs.length
 .refine .inr ⟨⟨xs,xs[i],q,by simp [au]⟩,Pv (i+1),λσ' B p'=>⟨xs.length - (i+1),by omega,rfl,au,p'⟩,λx B y=>?_⟩;replace y:=Bi y;obtain ⟨t,y,rfl,ht,rfl,hy⟩:=y
  exact hs i y t σ J (hy xs q) p ht
 .have e:i=xs.length:=by omega
  subst e;exact .inl ⟨⟨xs,q,Ti _⟩,hd σ J p⟩
theorem Ad2 (Pv:Nat->St->Hp->Prop)(h0:Pv 0 σ0 (upd H D (.dK [])))(hl:∀ i σ H,i<=xs.length->Pv i σ H->Bh K H a xs)(hs:∀ i x σ B,xs[i]?=some x->Pv i σ B->g x σ B (O5 D tt tk tv (Pv (i+1))))(hd:∀ σ B,Pv xs.length σ B->Q B) :
  ∃ W:Nat->Nat->St->Hp->Prop,(∃ m,W 0 m σ0 (upd H D (.dK [])))/\∀ i m σ' B,W i m σ' B ->
   ((EA K a).stop i B/\Q B)\/((EA K a).go i B/\∃ N:St->Hp->Prop,(∀ σ2 I,N σ2 I->∃ m',m'<m/\W (i+1) m' σ2 I)/\∀ x I,(EA K a).bM i B x I->g x σ' I λσ3 H3=>tt σ3 H3 λb J =>
    if b=true then tk σ3 J λk H5=>tv σ3 H5 λv L=>∃ kvs O,k=kV O/\L D=some (.dK kvs)/\kvs.length<sizeLine/\N σ3 (upd L D (.dK (Bz kvs O v))) else N σ3 J):=by
 refine ⟨λi m σ H=>m=xs.length - i/\i<=xs.length/\Pv i σ H,⟨xs.length,by simp,T5 _,h0⟩,?_⟩;rintro i m σ Y ⟨rfl,hi,p⟩;have q:=hl i σ Y hi p;by_cases au:i<xs.length
 .refine .inr ⟨⟨xs,xs[i],q,by simp [au]⟩,Pv (i+1),λσ' B p'=>⟨xs.length - (i+1),by omega,rfl,au,p'⟩,λx B y=>?_⟩;obtain ⟨rfl,hy⟩:=y;exact hs i x σ _ (hy xs q) p
 .have e:i=xs.length:=by omega
  subst e;exact .inl ⟨⟨xs,q,Ti _⟩,hd σ Y p⟩
end
def O6 (cs:List Addr)(m:Str)(sp:Sp)(E:XK)(ta:TE)(t:TA):TE:=λσ H Q=>ta σ H λx H1=>∃ a C dx fs,x=.ref a/\C∈cs/\H1 a=some (.ins C dx fs)/\fs.lookup m=none/\t σ H1 λvs H2=>sp (x :: vs) H2 Q E
section
variable {X:Cx}{CX:BW}{k:Nat}{cs:List Addr}{ps:List Str}{sp:Sp}{E:XK}{m:Str}{pos apos:Pos}{e o:S7}{es:List S7}{ta:TE}{t:TA}
theorem Lf {pl:Sem Bool}(D:∀ C∈cs,AK X.prog X.w X.K X.mg X.base CX k C m ps sp)(c:∀ C∈cs,Cg X.K C)(he:PE X o ta)(hr:Bn k X.A)(hx:CF CX X E)(ha:PA X (e :: es) t)(aT:Tj (e :: es) X.env=(false,Tf e X.env) :: Tj es X.env:=by rfl)(aU:(TZ pos (Tj es X.env)).any (·.1)=false:=by rfl)(ht:Tf (.Call (.Attribute o m apos) (e :: es) [] pos) X.env=(Tf o X.env >>= λJ=>UW apos.atName >>= λ_=>UN [J] (Vu J m pl) >>= λL=>We pos L.1 L.2 (TZ pos (Tj (e :: es) X.env)) (Vk pos (Vl [] X.env))):=by rfl) :
  PE X (.Call (.Attribute o m apos) (e :: es) [] pos) (O6 cs m sp E ta t):=by
 intro pins s σ H Q I h;refine WZ (pl:=pl) (Al (he pins s σ H _ I h) λu s1 B=>AG B λx H1 O rx ⟨a,C,dx,fs,ex,mc,ea,l,q⟩=>?_) ht;subst ex;cases rx;obtain ⟨f,fd,V,hb,F⟩:=Bi (D C mc);refine Io O ea (c C mc) V l (WY (first:=[.ref a]) (h₀:=X.base) I.ok.mod.eV V.kp (Al (ha pos pins s1 σ H1 _ O q) λY s2 B=>AG B λvs H2 I2 r q2=>⟨I2.aN,?_⟩) aT aU);exact FQ (us:=.ref a :: Y) (vs:=.ref a :: vs) (dvs:=[]) F hr hb .nil hx I2 (.cons rfl r) (by simpa using q2)
theorem O7 {pl:Sem Bool}(D:∀ C∈cs,AK X.prog X.w X.K X.mg X.base CX k C m ps sp)(c:∀ C∈cs,Cg X.K C)(V:PE X o ta)(Y:Bn k X.A)(hx:CF CX X E)(ht:Tf (.Call (.Attribute o m apos) [] [] pos) X.env=(Tf o X.env >>= λJ=>UW apos.atName >>= λ_=>UN [J] (Vu J m pl) >>= λL=>We pos L.1 L.2 (TZ pos (Tj [] X.env)) (Vk pos (Vl [] X.env))):=by rfl) :
  PE X (.Call (.Attribute o m apos) [] [] pos) (O6 cs m sp E ta BN):=by
 intro pins s σ H Q I h;refine WZ (pl:=pl) (Al (V pins s σ H _ I h) λu s1 zz=>AG zz λx H1 B rx ⟨a,C,dx,fs,ex,mc,ea,l,q⟩=>?_) ht;subst ex;cases rx;obtain ⟨f,fd,O,hb,F⟩:=Bi (D C mc);exact Io B ea (c C mc) O l (ZD (first:=[.ref a]) B.aN O.kp (FQ (us:=[.ref a]) (vs:=[.ref a]) (dvs:=[]) F Y hb .nil hx B (.cons rfl .nil) q))
end
def IX (P:W3):List W6->List (Str×V)->Prop
 | [],[]=>True
 | e :: r,p :: kvs=>(∃ t,e.key=.str p.1 t)/\e.hash=PyData.keyHash P p.1/\Ay p.2 e.val/\IX P r kvs
 | _,_=>False
theorem O8 {P:Ta}{w:S6}:∀{es:List W6}{kvs:List (Str×V)},IX w.params es kvs->∃ vs:List (Au×Value),KV (kvs.map λp=>(T2 p.1,p.2)) vs/\Pairs (Bm P w) es vs/\∀ e∈es,∃ k,(Bm P w).is k e.key=true/\e.hash=(Bm P w).hash k
 | [],[],_=>⟨[],.nil,.nil,λe m=>absurd m (by simp)⟩
 | [],_ :: _,h=>h.elim
 | _ :: _,[],h=>h.elim
 | e :: es,p :: kvs,h=>by
  obtain ⟨⟨t,D⟩,H,I,J⟩:=AQ h;obtain ⟨vs,r,q,m⟩:=AD (O8 (P:=P) J);have B:(Bm P w).is (.inr p.1) e.key=true:=by rw [D];exact FL P w p.1 t
  refine ⟨(.inr p.1,e.val) :: vs,.cons ⟨rfl,I⟩ r,.cons B rfl q,λx hx=>?_⟩;rcases Tq.mp hx with z | z
  .exact ⟨.inr p.1,by rw [z];exact B,by rw [z];exact H⟩
  .exact m x z
theorem Ad3 {P:Ta}{w:S6}{K:S3}{a:Addr}{es:Array W6}{n:Nat}{kvs:List (Str×V)}(lo:(a == UJ)=false)(l:K.lookup a=some ⟨.type "dict",none,.dict es n,#[]⟩)(h:IX w.params es.toList kvs)(nd:(kvs.map (·.1)).Nodup)(sz:kvs.length<=1000) :
  Ld P w K a (kvs.map λp=>(T2 p.1,p.2)):=by
 obtain ⟨vs,r,q,m⟩:=AD (O8 (P:=P) h);refine ⟨lo,by rw [Tb,Tc];omega,_,vs,n,l,r,λH B=>⟨_,es,B,⟨rfl,rfl,rfl⟩,rfl,λe D=>m e (Zw.mpr D),q,?_⟩⟩;rw [<- r.keys,TL];have:(kvs.map ((·.1)∘λp:Str×V=>((T2 p.1:Au),p.2)))=(kvs.map (·.1)).map (T2:Str->Au):=by rw [TL];rfl
 rw [this];exact XH.mpr (nd.imp λh z=>h (Vz z))
theorem O9:∀{xs:List V}{us:List Value},us.length=xs.length->(∀(j:Nat)(v:Value)(x:V),us[j]?=some v->xs[j]?=some x->Ay x v)->Aw xs us
 | [],[],_,_=>.nil
 | [],_ :: _,h,_=>by simp at h
 | _ :: _,[],h,_=>by simp at h
 | x :: xs,u :: us,h,f=>.cons (f 0 u x rfl rfl) (O9 (by simpa using h) λj v y hv hy=>f (j+1) v y (by simpa using hv) (by simpa using hy))
section
variable {X:Cx}
theorem Ad4 (hc:X.calm=true):BB X (.type "list") (λxs H Q=>∃ p kvs,xs=[.ref p]/\F1 X.prog X.w X.K H p kvs/\∀ l,H l=none->Q (.ref l) (upd H l (.lst (kvs.map λB=>kV B.1)))):=by
 intro pins s σ H xs us Q I r h;replace h:=Bi h;obtain ⟨p,kvs,rfl,O,q⟩:=h
 obtain ⟨u,rfl,V⟩:=Ao (CJ r);cases V;obtain ⟨Y,lo,vs,rel,dd⟩:=AQ (Le I O);obtain ⟨o,es,D,r⟩:=dd;have da:s.heap.DictAt (Bm X.prog X.w) p vs D:=⟨o,es,r⟩;have hl:=rel.length;refine PySem.W.kdl_call (PySem.W.kdl_dict (kvs:=vs) (ep:=D) lo) (I.ok.hd hc) da (by omega) λh' tk J c hk hs ha=>?_;refine ⟨.ref s.heap.objs.size,_,I.laid (t':=tk) hk (Ti _) (show Be X.prog X.w _ h' _ (.lst (kvs.map λB=>kV B.1)) from ⟨?_,J.toList,c,?_,by simpa using hs⟩),rfl,q _ I.fresh⟩
 .rw [Tb];exact Y
 .obtain ⟨a1,a2⟩:=ha;refine O9 (by rw [UE,Tb,a1,hl]) λj v x hv hx=>?_;obtain ⟨k,y,e,hk⟩:=Bl (a2 j v (by simpa using hv));rw [Tp] at hx;obtain ⟨B,e2,rfl⟩:=Ao (UD.mp hx);have ke:=rel.keys;have L:(kvs.map (·.1))[j]?=(vs.map (·.1))[j]?:=by rw [ke]
  rw [Tp,Tp,e,e2] at L;have e4:B.1=k:=Ts L;show Ay (kV B.1) v;rw [e4];exact O3 hk
end
section
variable {X:Cx}
end
theorem Ad5 {X:Cx}:Kn X .Add (λx y H Q=>∃ i j,x=.str i/\y=.str j/\i.length+j.length<=sizeLine/\Q (.str (i++j)) H):=by rintro pins s σ H x y u v Q I D J ⟨i,j,rfl,rfl,L,q⟩;obtain ⟨t,rfl⟩:=(show ∃ t,u=Uj i t from D);obtain ⟨B,rfl⟩:=(show ∃ B,v=Uj j B from J);exact PyProof.Rows.iadd_str (λB O=>⟨.str (i++j),H,I.tok _,⟨_,rfl⟩,q⟩) L
section
variable {X:Cx}{pins:List (Addr×Obj)}{σ:St}{H H':Hp}{s:S0}{a:Addr}{u:HO}{o:Obj}{kvs:List (Au×V)}
theorem Ae.pO (I:Ae X pins σ H s)(n:∀ b,H b=none->H' b=none)(t:∀ b xs,X.H₀ b=some (.tup xs)->H' b=some (.tup xs))(f:∀ b o u,X.H₀ b=some (.aM o u)->H' b=some (.aM o u))(B:∀ b ps,X.H₀ b=some (.dP ps)->∃ more,H' b=some (.dP (ps++more)))(D:AL X.prog X.w H' s.heap):Ae X pins σ H' s :=
 ⟨I.ok,I.os,I.bare,⟨I.base.keep,I.base.slot,λb o e z hx=>n b (I.base.free b o e z hx),I.base.there,t,f,B⟩,I.loc,I.cell,n _ I.free,λx c e=>n _ (I.cx x c e),λp J=>let ⟨L,O,Y⟩:=I.pin p J;⟨L,n _ O,Y⟩,D,I.len⟩
theorem Pa {P:Ta}{w:S6}{h:Heap}{v:HO}(ok:AL P w H h)(e:H a=some u)(no:∀ y,u≠.own y)(B:∀ xs,u≠.tup xs)(q:∀ H',(∀ b,H b=some (.own a)->H' b=some (.own a))->(∀ b xs,H b=some (.tup xs)->H' b=some (.tup xs))->Be P w H' h a v):AL P w (upd H a v) h:=by
 have own:∀ y b,H b=some (.own y)->upd H a v b=some (.own y):=λy b z=>by
  rw [Ap (λc=>by rw [c,e] at z;exact no y (Ts z))];exact z
 have tup:∀ b xs,H b=some (.tup xs)->upd H a v b=some (.tup xs):=λb xs z=>by
  rw [Ap (λc=>by rw [c,e] at z;exact B xs (Ts z))];exact z
 intro b D hb;by_cases c:b=a
 .subst c;rw [Ai] at hb;cases hb;exact q _ (own b) tup
 .rw [Ap c] at hb;exact (ok b D hb).du (λ_ _ _ z=>z) (own b) tup
theorem Ae.aM (I:Ae X pins σ H s)(e:H a=some (.dK kvs))(D:s.heap.get? a=some o):Ae X pins σ (upd H a (.aM o (.dK kvs))) s:=by
 have ne:∀{b:Addr}{B:HO},H b=some B->B≠.dK kvs->upd H a (.aM o (.dK kvs)) b=some B:=λ{b B} z n=>by
  rw [Ap (λc=>by rw [c,e] at z;exact n (Ts z).symm)];exact z
 refine I.pO (λb z=>?_) (λb J z=>ne (I.base.ag b J z) (λc=>nomatch c)) (λb o u z=>ne (I.base.cB b o u z) (λc=>nomatch c)) (λb L z=>?_) (Pa I.af e (λ_ c=>nomatch c) (λ_ c=>nomatch c) λH' O Y=>⟨D,(I.af a _ e).du (λ_ _ _ z=>z) O Y⟩)
 .rw [Ap (λc=>by rw [c,e] at z;cases z)];exact z
 .obtain ⟨m,h⟩:=I.base.cS b L z;exact ⟨m,ne h (λc=>nomatch c)⟩
theorem Ae.aaI (I:Ae X pins σ H s)(e:H a=some (.aM o (.dK kvs)))(D:∀ o' u',X.H₀ a≠some (.aM o' u')):Ae X pins σ (upd H a (.dK kvs)) s:=by
 have ne:∀{b:Addr}{B:HO},H b=some B->B≠.aM o (.dK kvs)->upd H a (.dK kvs) b=some B:=λ{b B} z n=>by
  rw [Ap (λc=>by rw [c,e] at z;exact n (Ts z).symm)];exact z
 refine I.pO (λb z=>?_) (λb J z=>ne (I.base.ag b J z) (λc=>nomatch c)) (λb o' u' z=>?_) (λb L z=>?_) (Pa I.af e (λ_ c=>nomatch c) (λ_ c=>nomatch c) λH' O Y=>?_)
 .rw [Ap (λc=>by rw [c,e] at z;cases z)];exact z
 .have y:=I.base.cB b o' u' z;have nb:b≠a:=λc=>D o' u' (by rw [<- c];exact z);rw [Ap nb];exact y
 .obtain ⟨m,h⟩:=I.base.cS b L z;exact ⟨m,ne h (λc=>nomatch c)⟩
 .exact (show Be X.prog X.w H s.heap a (.dK kvs) from (I.af a _ e).2).du (λ_ _ _ z=>z) O Y
def F2 (o:Obj)(a:Addr)(kvs:List (Au×V)):It:=⟨λi H=>i<kvs.length/\H a=some (.aM o (.dK kvs)),λi H x H'=>H'=H/\∃ p,kvs[i]?=some p/\x=kV p.1,λi H=>kvs.length<=i/\H a=some (.aM o (.dK kvs))⟩
theorem Ad6 {P:Ta}{w:S6}{K:S3}{tg:S7}{it:Addr}{vs:List (Au×Value)}{ep:Nat}(r:KV kvs vs)(d:∀ h:Heap,h.get? a=some o->h.DictAt (Bm P w) a vs ep) :
  Ez P w K tg (F2 o a kvs) [it] it (λi h=>h.IsKeyIter it a i vs.length ep):=by
 have hl:=r.length;refine ⟨by simp,?_,?_,?_,?_,?_⟩
 .intro i h st b hb;obtain rfl:b=it:=by simpa using hb
  obtain ⟨B,e,c,z⟩:=st;exact ⟨B,e,λv y=>by rw [z] at y;cases y⟩
 .exact λi h D st k=>st.at λB e=>k it (by simp) B e
 .intro X L hw O hc i pins s σ H E I J st Y;subst L hw O;obtain ⟨f0,f1,f2,f3,f4,f5⟩:=AQ (J it (by simp));obtain ⟨hi,ha⟩:=Y;have dd:=d _ (I.af a _ ha).1;have bp:i<vs.length:=by rw [<- hl];exact hi
  have hx:vs[i]?=some vs[i]:=TC bp;have hk:kvs[i]?=some kvs[i]:=TC hi;have ke:kvs[i].1=vs[i].1:=by
   have e1:(kvs.map (·.1))[i]?=(vs.map (·.1))[i]?:=by rw [r.keys]
   rw [Tp,Tp,hx,hk] at e1;exact Ts e1
  refine wpAny_pyNext_dict_item (k:=vs[i].1) (v:=vs[i].2) st dd hx λkey D kX bo sb=>?_;have I1:=I.turned (t':=s.toks) (h':=D) (λb B hb e=>(sb.2 b hb).trans e) f0 f1 f3 f4 f5;obtain ⟨B,e,c,z⟩:=id bo;exact ⟨_,rfl,Gz (s:={ s with heap:=D }) e c z (by decide) ⟨kV vs[i].1,H,I1,O3 kX,⟨rfl,kvs[i],hk,by rw [ke]⟩,bo,λb hb=>(J b hb).1⟩⟩
 .intro X L hw O hc i pins s σ H E I J st Y;subst L hw O;obtain ⟨f0,f1,f2,f3,f4,f5⟩:=AQ (J it (by simp));obtain ⟨hi,ha⟩:=Y;exact wpAny_pyNext_dict_end (I.ok.hd hc) st (d _ (I.af a _ ha).1) (tY (by omega)) λD eb=>⟨rfl,I.turned (t':=s.toks) (λb B hb e=>eb b B hb e) f0 f1 f3 f4 f5⟩
 .exact λ_ _ _ _ _ st h=>wpAny_pyIter_keyiter st h
def Pb (X:Cx)(tl:TE):TI:=λσ H R=>tl σ H λx H1=>∃ a kvs,x=.ref a/\H1 a=some (.dK kvs)/\∀ o,(∀ o' u',X.H₀ a≠some (.aM o' u'))->R (F2 o a kvs) (upd H1 a (.aM o (.dK kvs)))
theorem Ad7 {tg l:S7}{tl:TE}(hl:PE X l tl):PI X tg l (Pb X tl):=by
 intro pins s σ H R I h;refine Al (hl pins s σ H _ I h) λv B zz=>AG zz λx H1 D r1 q1=>?_;obtain ⟨a,kvs,rfl,e,q⟩:=q1;cases (show v=TU a from r1);have nf:∀ L O,X.H₀ a≠some (.aM L O):=λL O z=>by rw [D.base.cB a L O z] at e;cases e
 obtain ⟨_,lo,vs,r,J,es,ep,Y,rest⟩:=IM D.af e;have d:∀ h:Heap,h.get? a=some J->h.DictAt (Bm X.prog X.w) a vs ep:=λh z=>⟨J,es,z,rest⟩;refine wpAny_pyIter_dict lo (d _ Y) ?_;have I2:Ae X pins σ H1 { B with heap:=B.heap.push { cls:=.type "dict_keyiterator",data:=.fields #[.ref a,.int 0 0,.int vs.length 0,.int ep 0] } }:=D.kept (t':=B.toks) λb J q=>TF _ q;have I3:=I2.aM e (TF _ Y);have na:B.heap.objs.size≠a:=λz=>by
  have:=Tv Y;rw [<- z] at this;exact UM _ this
 exact ⟨_,[B.heap.objs.size],_,F2 J a kvs,_,rfl,I3,Ad6 r d,⟨_,Uq _ rfl,rfl,rfl⟩,λb hb=>by
  obtain rfl:b=B.heap.objs.size:=by simpa using hb
  exact D.dW (Ti _) (by rw [Ap na];exact D.af.fresh (Ti _)),q J nf⟩
def Pc (X:Cx)(D:CV):CV:={ D with nx:=λσ H=>∃ a kvs o,H a=some (.aM o (.dK kvs))/\(∀ o' u',X.H₀ a≠some (.aM o' u'))/\D.nx σ (upd H a (.dK kvs)) }
def Ad8 (X:Cx)(tl:TE)(g:TG)(tb:TS):TS:=λD σ H=>Ni (Pb X tl) g tb (Pc X D) σ H
theorem Ad9 {B iter:S7}{body:List Stmt}{tl:TE}{g:TG}{J:TS}{pos:Pos}(L:Ye (S8 X.prog X.w) X.A X.env X.xe)(hc:X.calm=true)(O:PE X iter tl)(Y:PG X B g)(hb:CW X body J)(hs:∀ x,Vs iter X.env x=pure x:=by intro _;rfl):PS X (.For B iter body [] pos) (Ad8 X tl g J):=by
 intro pins s σ H D I h;refine Al (DF L hc (Ad7 O) Y hb hs pins s σ H (Pc X D) I h) λf s' q=>?_;cases f with
 | next =>
  obtain ⟨σ',H',I',a,kvs,o,e,nf,q⟩:=q;exact ⟨σ',_,I'.aaI e nf,q⟩
 | brk=>exact q
 | cont=>exact q
 | ret u=>exact q
theorem Aea {o:Obj}{g:TG}{I:TS}{D:CV}(Pv:Nat->St->Hp->Prop)(O:Pv 0 σ H)(J:∀ i σ H,Pv i σ H->H a=some (.aM o (.dK kvs)))(hs:∀ i p σ H,kvs[i]?=some p->Pv i σ H->g (kV p.1) σ H λσ2 B=>I { D with nx:=Pv (i+1),ct:=Pv (i+1),bk:=D.nx } σ2 B)(hd:∀ σ H,Pv kvs.length σ H->D.nx σ H) :
  ∃ W:Nat->Nat->St->Hp->Prop,(∃ m,W 0 m σ H)/\∀ i m σ H,W i m σ H ->
   ((F2 o a kvs).stop i H/\D.nx σ H)\/((F2 o a kvs).go i H/\∃ N:St->Hp->Prop,(∀ σ' H',N σ' H'->∃ m',m'<m/\W (i+1) m' σ' H')/\∀ x H',(F2 o a kvs).bM i H x H'->g x σ H' λσ2 B=>I { D with nx:=N,ct:=N,bk:=D.nx } σ2 B):=by
 refine ⟨λi m σ H=>m=kvs.length - i/\i<=kvs.length/\Pv i σ H,⟨_,rfl,T5 _,O⟩,?_⟩;rintro i m σ H ⟨rfl,hi,p⟩;by_cases L:i<kvs.length
 .refine .inr ⟨⟨L,J i σ H p⟩,Pv (i+1),λσ' H' Y=>⟨kvs.length - (i+1),by omega,rfl,L,Y⟩,λx H' y=>?_⟩;obtain ⟨e,c,hc,e2⟩:=y;subst e e2;exact hs i c σ _ hc p
 .obtain rfl:i=kvs.length:=by omega
  exact .inl ⟨⟨Ti _,J _ σ H p⟩,hd σ H p⟩
end
end L2
set_option maxHeartbeats 4000000
namespace Lw
open PySem L2
local macro_rules | `(tactic| walk_at"")=>`(tactic| repeat (first
 | with_reducible refine Ab3 λ_ _=>?_
 | with_reducible refine Lk.asg (by assumption) ?_
 | refine Lk.use (by assumption) ?_
 | refine w1 rfl ?_
 | refine w2 rfl rfl ?_
 | refine w3 rfl ?_
 | refine Tw (w2 rfl rfl ?_)
 | refine Tw ⟨rfl,?_⟩
 | refine ⟨rfl,?_⟩
 | refine Tw ⟨_,_,_,_,rfl,rfl,.of (by assumption),rfl,?_⟩
 | (refine Zb (show GA _ _ from ?_) ?_;(first | exact Tg ⟨by omega,by omega⟩ | exact Tw ⟨by omega,by omega⟩))
 | (refine Zb (show Nl _ _ from ?_) ?_;exact ⟨by omega,by omega⟩)
 | (refine Zb (show (0:Int)<_ from ?_) ?_;first | decide | omega)))
local macro_rules | `(tactic| walk_at "m")=>`(tactic| exact ⟨rfl,rfl,rfl,by decide +kernel,rfl,by decide +kernel,by decide +kernel⟩)
local macro_rules | `(tactic| walk_at "k")=>`(tactic| exact ⟨by decide +kernel,by decide +kernel,by decide +kernel⟩)
def top (i:Nat):Stmt:=PySem.Challenge.pw_stephall_k39_whole_ends_of_talks.main.body.getD i (.Pass ⟨0,0,0,0⟩)
structure Ak where
 (aaJ fq cz d7 fR iP Plan aL fS aI Line ae fT fU:Addr)
noncomputable def Ak.bD (a:Ak):List Addr:=[a.aL,a.aI]
structure Txt (K:S3)(mg:Str->Option Value)(a:Ak):Prop where
 n_len:mg "len"=none
 pP:mg "isinstance"=none
 pQ:mg "bool"=none
 pR:mg "int"=none
 fV:mg "range"=none
noncomputable def DL (ns:List Int)(k:Int):Int :=
 if k<ns.length then ns.getD k.toNat 0 else if ns.length=0 then 7919 * k+101 else ns.getD (k % ns.length).toNat 0 % 1000003+7919 * k
def Pd (K:S3):Sp:=λvs H Q _=>∃(p:Addr)(ns:List Int)(k:Int),vs=[.ref p,.int k]/\Ba K H p (ns.map V.int)/\0<=k/\k<1000/\ns.length<=63/\Q (.int (DL ns k)) H
section
variable {P:Ta}{w:S6}{K:S3}{mg:Str->Option Value}{base:Heap}{a:Ak}{f:Addr}{fd:Tn}
theorem Pe:AO ["script","k"] ["script","k"] (Ac (top 40)):=.of
theorem G3:Nm (Ac (top 40)) "script":=.of
theorem G4:Nm (Ac (top 40)) "k":=.of
theorem Lg:Gm (Ac (top 40)) "len":=.of
theorem Aeb (F:AJ K "_law_cell" "_law_cell" (top 40) f fd)(T:Txt K mg a):AB P w K mg base AE 1 f fd ["script","k"] (Pd K):=by
 refine F.ok Pe λV A outer s H vs Q E I h=>?_
 .obtain ⟨p,B,k,rfl,hS,J,hk,Y,q⟩:=h;have hu:=I.units;have nd:=Pe.nd;refine ⟨_,(@Aj _ _ _ _ _ (AY (AZ Nv (Aa 1 G4) (BH Cy Lg T.n_len Cj (Ab (Aa 0 G3) Af)) (AW _)) (Am (AM (BC BF (Aa 0 G3) (Aa 1 G4) (λ_ _=>rfl)))) A4)
    (Aj (AY (AZ (By hu) (BH Cy Lg T.n_len Cj (Ab (Aa 0 G3) Af)) Az (AW _)) (Am (AM (AR C5 (AR Cw Az (Aa 1 G4)) Az))) A4)
    (Am (AM (AR C5 (AR CD (BC BF (Aa 0 G3) (AR CD (Aa 1 G4) (BH Cy Lg T.n_len Cj (Ab (Aa 0 G3) Af))) (λ_ _=>rfl)) Az) (AR Cw Az (Aa 1 G4))))))),?_⟩
  try dsimp only [aD,aE]
  walk_at"";refine Tg (B2 _ _ rfl (.inl hS) ?_);walk_at"";rw [Tb];refine Iv (λh=>?_) (λh=>?_)
  .have h:=of_decide_eq_true h;walk_at"";refine Tw (CG hS (FW J h) ?_);have e:DL B k=B.getD k.toNat 0:=by unfold DL;rw [if_pos h]
   rw [e] at q;exact q
  .have h:¬ k<B.length:=by simpa using h
   walk_at"";refine Tg (B2 _ _ rfl (.inl hS) ?_);walk_at"";rw [Tb];refine Iv (λD=>?_) (λD=>?_)
   .have D:B.length=0:=by simpa using D
    walk_at"";have e:DL B k=7919 * k+101:=by unfold DL;rw [if_neg h,if_pos D]
    rw [e] at q;exact q
   .have D:¬ B.length=0:=by simpa using D
    walk_at"";refine Tg (B2 _ _ rfl (.inl hS) ?_);rw [Tb];have hp:0<(B.length:Int):=by omega
    walk_at"";have L:0<=k % (B.length:Int):=Wr _ (by omega);have O:k % (B.length:Int)<B.length:=Wt _ (by omega);refine Tw (CG hS (FW L O) ?_);walk_at"";have e:DL B k=B.getD (k % B.length).toNat 0 % 1000003+7919 * k:=by unfold DL;rw [if_neg h,if_neg D]
    rw [e] at q;exact q
def Pf (K:S3):Sp:=λvs H Q _=>∃(p:Addr)(ns:List Int)(k many base:Int),vs=[.ref p,.int k,.int many,.int base]/\Ba K H p (ns.map V.int)/\0<=k/\k<1000/\ns.length<=63/\0<=many/\many<=100/\0<base/\base<1000000000 /\
 ∀(r:Addr)(row:List Int)(H':Hp),Ag H H'->H r=none->H' r=some (.lst (row.map V.int))->row.length=many.toNat->(∀ v∈row,0<=v/\v<base)->Q (.ref r) H'
theorem Aec {H:Hp}{r:Addr}{B:List Int}{v:Int}:upd H r (.lst (B.map V.int++[.int v])) r=some (.lst ((B++[v]).map V.int)):=by rw [Ai,TQ];rfl
theorem Aed {B:List Int}{v b:Int}(h:∀ u∈B,0<=u/\u<b)(hv:0<=v/\v<b):∀ u∈B++[v],0<=u/\u<b:=by
 intro u hu;rcases Ut.mp hu with z | z
 .exact h u z
 .rw [TX.mp z];exact hv
noncomputable def G5:List Int:=[2147483647,2147483629,2147483587,2147483579,2147483563,2147483549,2147483543,2147483497]
theorem Lh {i:Int}(D:0<=i)(H:i<8):∃ p:Int,Cm (G5.map V.int) i=some (.int p)/\0<p/\p<2147483648:=by
 refine ⟨_,FW D H,?_⟩;have B:∀ m:Nat,m<8->0<G5.getD m 0/\G5.getD m 0<2147483648:=by decide
 exact B _ (by omega)
theorem Pg:AO ["script","k","many","base","primes","cell","rest","row","j","mash"] ["script","k","many","base"] (Ac (top 41)):=.of
theorem Aee:Nm (Ac (top 41)) "script":=.of
theorem Li:Nm (Ac (top 41)) "k":=.of
theorem Aef:Nm (Ac (top 41)) "many":=.of
theorem Ph:Nm (Ac (top 41)) "base":=.of
theorem IY:Nm (Ac (top 41)) "primes":=.of
theorem IZ:Nm (Ac (top 41)) "cell":=.of
theorem F4:Nm (Ac (top 41)) "rest":=.of
theorem Lj:Nm (Ac (top 41)) "row":=.of
theorem EJ:Nm (Ac (top 41)) "j":=.of
theorem DM:Nm (Ac (top 41)) "mash":=.of
theorem Aeg:Gm (Ac (top 41)) "range":=.of
theorem Aeh:Gm (Ac (top 41)) "_law_cell":=.of
theorem Aei (F:AJ K "_law_draws" "_law_draws" (top 41) f fd)(T:Txt K mg a)(lI:B8 P w K mg base AE 1 "_law_cell" ["script","k"] (Pd K)) :
  AB P w K mg base AE 2 f fd ["script","k","many","base"] (Pf K):=by
 refine F.ok Pg λak A outer s H vs Q E I h=>?_
 .obtain ⟨p,O,k,J,bs,rfl,hS,k0,k1,hl,m0,m1,b0,b1,q⟩:=h;have hu:=I.units;have nd:=Pg.nd;refine ⟨_,(@Aj _ _ _ _ _ (A8 4 nd IY (A2 (KD rfl)))
    (Aj (A8 5 nd IZ (B9 lI Aeh I.d A5 (Ab (Aa 0 Aee) (Ab (Aa 1 Li) Af))))
    (Aj (A8 6 nd F4 Az)
    (Aj (AY (AZ AaU (Aa 5 IZ) (AR AaR Az Az) (AW _)) (Am (A8 6 nd F4 (Aa 5 IZ))) A4)
    (Aj (A8 7 nd Lj (Bx Af))
    (Aj (DF Vx rfl (KA Aeg T.fV (Ab (Aa 2 Aef) Af)) (Bo 8 nd EJ) (Aj (A8 9 nd DM (AR Cw (AR CD (Aa 5 IZ) (BC BF (Aa 4 IY) (AR CD (Aa 8 EJ) Az) (λ_ _=>rfl))) (AR C5 Az (AR Cw (AR Cw Az (Aa 8 EJ)) (Aa 8 EJ)))))
     (Aj (A8 9 nd DM (AR C5 (AR C5 (Aa 9 DM) (AR Cw (AR Cw Az (AR C5 (Aa 8 EJ) Az)) (AR C5 (Aa 8 EJ) Az))) (AR Cw Az (Aa 1 Li))))
     (Aj (A8 9 nd DM (AR CD (Aa 9 DM) (BC BF (Aa 4 IY) (AR CD (AR C5 (AR Cw Az (Aa 8 EJ)) (Aa 1 Li)) Az) (λ_ _=>rfl))))
     (Aj (A8 9 nd DM (AR CD (AR Cw (AR Cw (Aa 9 DM) (Aa 9 DM)) (Aa 9 DM)) (BC BF (Aa 4 IY) (AR CD (AR C5 (Aa 8 EJ) Az) Az) (λ_ _=>rfl))))
     (Aj (AY (AZ Ik (Aa 6 F4) Az (AW _)) (Am (A8 9 nd DM (Aa 6 F4))) A4)
     (Aj (Bj (De UT U9 Va Dp (Aa 7 Lj) (Ab (AR CD (Aa 9 DM) (Aa 3 Ph)) Af)))
     (Am (A8 6 nd F4 (AR Kj (Aa 6 F4) (Aa 3 Ph)))))))))))
    (Am (AM (Aa 7 Lj))))))))),?_⟩
  try dsimp only [aD,aE]
  refine ⟨by decide,λpr hpr=>?_⟩;have s1:Ag H (upd H pr (.tup (G5.map V.int))):=(Ag.refl H).upd hpr;walk_at"";refine B7 p O k rfl ⟨s1.seq hS,k0,k1,hl,?_⟩;walk_at"";refine ⟨⟨by decide,by decide,by decide⟩,?_⟩;walk_at"";refine Iv (λ_=>?_) (λ_=>?_) <;>
  .walk_at"";refine ⟨by decide,λr I=>?_⟩;have lJ:r≠pr:=λe=>by rw [e,Ai] at I;cases I
   have pS:H r=none:=by rw [Ap lJ] at I;exact I
   walk_at"";refine ⟨by omega,by omega,Nj (n:=J.toNat) (λi σ L=>∃(B:List Int)(z:Int)(x y:Option V),σ=[some (.ref p),some (.int k),some (.int J),some (.int bs),some (.ref pr),some (.int (DL O k)),some (.int z),some (.ref r),x,y] /\
    Ag H L/\L pr=some (.tup (G5.map V.int))/\L r=some (.lst (B.map V.int))/\B.length=i/\∀ v∈B,0<=v/\v<bs) ?_ ?_ ?_⟩
   .exact ⟨[],_,none,none,rfl,s1.upd I,(by rw [Ap lJ.symm,Ai];rfl),Ai,rfl,λv hv=>absurd hv (by simp)⟩
   .intro i σ L hi zq;obtain ⟨B,z,x,y,rfl,sm,Y,hR,D,gY⟩:=zq;have bp:(i:Int)<100:=by omega
    simp only [Int.zero_add];walk_at"";obtain ⟨p1,e1,a1,b1'⟩:=Lh (i:=(i:Int) % 8) (by omega) (by omega);refine Tg (Tw (CG (.of Y) e1 ?_));walk_at"";have c1:=Wr (DL O k) (show p1≠0 by omega);have c2:=Wt (DL O k) a1;generalize DL O k % p1=m1 at c1 c2 ⊢;walk_at"";obtain ⟨p2,e2,a2,b2'⟩:=Lh (i:=(3 * (i:Int)+k) % 8) (by omega) (by omega);refine Tg (Tw (CG (.of Y) e2 ?_));walk_at"";generalize pT:(m1 * (48271+2 * (i:Int) * (i:Int))+7919 * ((i:Int)+1) * ((i:Int)+1)+104729 * k) % p2=m2;have c3:0<=m2:=by rw [<- pT];exact Wr _ (by omega)
    have c4:m2<p2:=by rw [<- pT];exact Wt _ a2
    walk_at"";obtain ⟨p3,e3,a3,b3'⟩:=Lh (i:=((i:Int)+5) % 8) (by omega) (by omega);refine Tg (Tw (CG (.of Y) e3 ?_));walk_at"";refine Iv (λ_=>?_) (λ_=>?_) <;>
    .walk_at"";refine ⟨.inl ⟨rfl,_,.of hR⟩,?_⟩;walk_at"";refine DI r _ _ rfl rfl hR ?_ ?_
     .rw [Tb,D,Tc];omega
     walk_at"";exact ⟨B++[_],_,_,_,rfl,sm.cK pS,(by rw [Ap lJ.symm];exact Y),Aec,(by rw [Ul,D];rfl),Aed gY ⟨Wr _ (by omega),Wt _ b0⟩⟩
   .intro σ L zq;obtain ⟨B,z,x,y,rfl,sm,Y,hR,D,gY⟩:=zq;walk_at"";exact q r B L sm pS hR D gY
theorem Aej (K:S3):WW K (.type "int") (.type "bool")=some false:=by rfl
def CA (z:Str):Prop:=∀ c∈z.cps.toList,c<128
def C8 (z:Str):Prop:=∀ c∈z.cps.toList,48<=c/\c<=57
theorem C8.asc {z:Str}(h:C8 z):CA z:=λc hc=>by have:=h c hc;omega
theorem Aek (x y:Str):(x++y).cps.toList=x.cps.toList++y.cps.toList:=by show (x.cps++y.cps).toList=_;simp
theorem I0 (x:Str):x.length=x.cps.toList.length:=by simp [Wh]
def F5:Sp:=λvs H Q _=>∃ n lo hi,vs=[.int n,.int lo,.int hi]/\Q (.bl (decide (lo<=n) && decide (n<=hi))) H
theorem Pj:AO ["number","least","most"] ["number","least","most"] (Ac (top 10)):=.of
theorem Pk:Nm (Ac (top 10)) "number":=.of
theorem Ael:Nm (Ac (top 10)) "least":=.of
theorem Aem:Nm (Ac (top 10)) "most":=.of
theorem Aen:Gm (Ac (top 10)) "isinstance":=.of
theorem Aeo:Gm (Ac (top 10)) "bool":=.of
theorem Aep (F:AJ K "within" "within" (top 10) f fd)(T:Txt K mg a):AB P w K mg base AE 1 f fd ["number","least","most"] F5:=by
 refine F.ok Pj λI A outer s H vs Q E D h=>?_
 .obtain ⟨n,lo,J,rfl,q⟩:=h;have hu:=D.units;have nd:=Pj.nd;refine ⟨_,(@Am _ _ _ (AM (Gv (Aas (BH Acv Aen T.pP Acy (Ab (Aa 0 Pk) (Ab (AcD (v:=.ty "bool") Aeo T.pQ AcA rfl) Af)))) (Ic (AaY Ij Ij (Aa 1 Ael) (Aa 0 Pk) (Aa 2 Aem)))))),?_⟩;try dsimp only [aD,aE]
  walk_at"";refine Tw (GH _ _ _ _ _ rfl ⟨.of (.int n),rfl,Aej K,?_⟩);walk_at"";by_cases B:lo<=n
  .refine B6 (decide_eq_true B) ?_;walk_at"";rw [decide_eq_true B] at q;exact q
  .refine BX (decide_eq_false B) ?_;rw [decide_eq_false B] at q;exact q
structure Em (K:S3)(a:Ak)(C:Addr):Prop where
 mem:C∈a.bD
 cls:Cg K C
 h:Bw K C "held_by"
 j:Bw K C "jammed"
 t:Bw K C "taken"
structure Fs (fs:List (Str×V))(ra rb rc:Addr):Prop where
 h:fs.lookup ("held_by":Str)=some (V.ref ra)
 j:fs.lookup ("jammed":Str)=some (V.ref rb)
 t:fs.lookup ("taken":Str)=some (V.ref rc)
 m:∀ x∈(["first_free","hold","free","stick","mend","check","holders","stuck","shares","take","paper"]:List Str),fs.lookup x=none
structure Cp (K:S3)(a:Ak)(H:Hp)(p C:Addr)(ra rb rc:Addr)(hs:List V)(js:List Bool)(ts:List Int):Prop where
 ins:∃ dx fs,H p=some (.ins C dx fs)/\Fs fs ra rb rc
 c:Em K a C
 ha:H ra=some (.lst hs)
 hb:H rb=some (.lst (js.map V.bl))
 hc:H rc=some (.lst (ts.map V.int))
 ab:ra≠rb
 ac:ra≠rc
 bc:rb≠rc
 lj:js.length=hs.length
 lt:ts.length=hs.length
 z:hs.length<=1000
theorem Cp.same {K:S3}{a:Ak}{H B:Hp}{p C D I J:Addr}{hs:List V}{js:List Bool}{ts:List Int}(r:Cp K a H p C D I J hs js ts)(s:Ag H B):Cp K a B p C D I J hs js ts:=by obtain ⟨dx,fs,e,f⟩:=r.ins;exact ⟨⟨dx,fs,s _ _ e,f⟩,r.c,s _ _ r.ha,s _ _ r.hb,s _ _ r.hc,r.ab,r.ac,r.bc,r.lj,r.lt,r.z⟩
noncomputable def CH (k:Int)(hs:List V):Bool:=decide (0<=k) && decide (k<=(hs.length:Int) - 1)
theorem Ja {k:Int}{hs:List V}:CH k hs=true↔0<=k/\k<hs.length:=by unfold CH;rw [UK,decide_eq_true_eq,decide_eq_true_eq];omega
theorem Fu {n:Nat}{k:Int}(B:0<=k)(h:k<n):DW n k=some k.toNat:=by unfold DW;rw [if_pos B,if_pos h]
def Ll (K:S3)(a:Ak):Sp:=λvs H Q _=>∃ p C ra rb rc hs js ts,vs=[.ref p]/\Cp K a H p C ra rb rc hs js ts/\∀ l,H l=none->Q (.ref l) (upd H l (.lst hs))
def Jb (K:S3)(a:Ak):Sp:=λvs H Q E=>∃ p k C ra rb rc hs js ts,vs=[.ref p,.int k]/\Cp K a H p C ra rb rc hs js ts/\if CH k hs=true then Q .aa H else E (.ref a.cz) none H
def Lm (K:S3)(a:Ak):Sp:=λvs H Q _=>∃ p k bq C ra rb rc hs js ts,vs=[.ref p,.int k,bq]/\Cp K a H p C ra rb rc hs js ts/\0<=k/\k<hs.length /\
 Q .aa (upd (upd H ra (.lst (hs.set k.toNat bq))) rc (.lst ((ts.set k.toNat (ts.getD k.toNat 0+1)).map V.int)))
def Pl (K:S3)(a:Ak):Sp:=λvs H Q E=>∃ p k C ra rb rc hs js ts,vs=[.ref p,.int k]/\Cp K a H p C ra rb rc hs js ts /\
 if CH k hs=true/\hs.getD k.toNat .aa≠.aa then Q .aa (upd H ra (.lst (hs.set k.toNat .aa))) else E (.ref a.cz) none H
def Jc (K:S3)(a:Ak)(b:Bool):Sp:=λvs H Q E=>∃ p k C ra rb rc hs js ts,vs=[.ref p,.int k]/\Cp K a H p C ra rb rc hs js ts /\
 if CH k hs=true then Q .aa (upd H rb (.lst ((js.set k.toNat b).map V.bl))) else E (.ref a.cz) none H
structure TxtS (K:S3)(mg:Str->Option Value)(a:Ak):Prop extends Txt K mg a where
 ft:mg "list"=none
 jY:mg "enumerate"=none
 iQ:mg "tuple"=none
 gZ:mg "NoSwitch"=some (.ref a.cz)
 jZ:UR K a.cz [.type "ValueError",.type "Exception",.type "BaseException",.type "object"] "ValueError.__new__"=true
theorem Aeq:AO ["self"] ["self"] (Ac (Ad (top 16) 7)):=.of
theorem Aer:Nm (Ac (Ad (top 16) 7)) "self":=.of
theorem Aes:Gm (Ac (Ad (top 16) 7)) "list":=.of
theorem Aet (F:AJ K "holders" "Switches.holders" (Ad (top 16) 7) f fd)(T:TxtS K mg a):AB P w K mg base AE 1 f fd ["self"] (Ll K a):=by
 refine F.ok Aeq λJ A outer s H vs Q E L h=>?_
 .obtain ⟨p,C,O,V,Y,hs,js,ts,rfl,R,q⟩:=h;obtain ⟨dx,fs,B,D⟩:=R.ins;refine ⟨_,(@Am _ _ _ (AM (C6 (GS rfl) Aes T.ft FX (Ab (Ax (Aa 0 Aer) rfl) Af)))),?_⟩;try dsimp only [aD,aE]
  walk_at"";refine Dq B R.c.cls R.c.h D.h ?_;walk_at"";refine Tw (B2 _ _ rfl (.inl (.of R.ha)) (λl I=>?_));exact q l I
theorem Aeu:AO ["self","k","who"] ["self","k","who"] (Ac (Ad (top 16) 2)):=.of
theorem Pn:Nm (Ac (Ad (top 16) 2)) "self":=.of
theorem Po:Nm (Ac (Ad (top 16) 2)) "k":=.of
theorem Aev:Nm (Ac (Ad (top 16) 2)) "who":=.of
theorem Aew (F:AJ K "hold" "Switches.hold" (Ad (top 16) 2) f fd)(T:TxtS K mg a):AB P w K mg base AE 1 f fd ["self","k","who"] (Lm K a):=by
 refine F.ok Aeu λak A outer s H vs Q E hr h=>?_
 .obtain ⟨p,k,I,C,J,rb,Y,hs,js,ts,rfl,R,B,h1,q⟩:=h;obtain ⟨dx,fs,D,L⟩:=R.ins;have au:=R.lt;refine ⟨_,(@Aj _ _ _ _ _ (Ea (Aa 2 Aev) (Gy (Ax (Aa 0 Pn) rfl) (Aa 1 Po) Fi))
    (Am (Na (Ax (Aa 0 Pn) rfl) (Aa 1 Po) Oy Az Nb Fi))),?_⟩
  try dsimp only [aD,aE]
  walk_at"";refine Dq D R.c.cls R.c.h L.h ?_;walk_at"";refine CG R.ha (Fu B h1) ?_;walk_at"";have fu:(upd H J (.lst (hs.set k.toNat I))) p=some (.ins C dx fs):=by rw [Ap (HY D R.ha (by intro z;cases z))];exact D
  have O:(upd H J (.lst (hs.set k.toNat I))) Y=some (.lst (ts.map V.int)):=by rw [Ap (Tu R.ac)];exact R.hc
  refine Dq fu R.c.cls R.c.t L.t ?_;walk_at"";refine Bc _ _ _ _ rfl rfl B (.of O) (FW B (by omega)) ?_;walk_at"";refine CG O (Fu B (by rw [Tb];omega)) ?_;rw [UU] at q;exact q
theorem A9 (x y:Str):(x++y).length=x.length+y.length:=by rw [I0,I0,I0,Aek,Ul]
theorem Aex:AO ["self","k"] ["self","k"] (Ac (Ad (top 16) 6)):=.of
theorem Pp:Nm (Ac (Ad (top 16) 6)) "self":=.of
theorem Aey:Nm (Ac (Ad (top 16) 6)) "k":=.of
theorem Aez:Gm (Ac (Ad (top 16) 6)) "within":=.of
theorem Pq:Gm (Ac (Ad (top 16) 6)) "len":=.of
theorem AeA:Gm (Ac (Ad (top 16) 6)) "NoSwitch":=.of
theorem AeB (F:AJ K "check" "Switches.check" (Ad (top 16) 6) f fd)(T:TxtS K mg a)(L:B8 P w K mg base AE 1 "within" ["number","least","most"] F5):AB P w K mg base (AH P w) 2 f fd ["self","k"] (Jb K a):=by
 refine F.bb Aex λY A outer s H vs Q E O h=>?_
 .obtain ⟨p,k,C,ra,rb,rc,hs,js,ts,rfl,R,q⟩:=h;obtain ⟨dx,fs,D,I⟩:=R.ins;have V:=R.z;refine ⟨_,(@Am _ _ _ (AY (Dv (Dk (B9 L Aez O.d A5 (Ab (Aa 1 Aey) (Ab Az (Ab (AR GB (BH Cy Pq T.n_len Cj (Ab (Ax (Aa 0 Pp) rfl) Af)) Az) Af)))))) (Am (CM CL AeA rfl T.jZ T.gZ (Ab (Fo (Cb Aq (Cb (GW (BH Cy Pq T.n_len Cj (Ab (Ax (Aa 0 Pp) rfl) Af))) (Cb Aq Fn)))) Af))) A4)),?_⟩;try dsimp only [aD,aE]
  walk_at"";refine Dq D R.c.cls R.c.h I.h ?_;walk_at"";refine Tg (B2 _ _ rfl (.inl (.of R.ha)) ?_);walk_at"";refine B7 k 0 ((hs.length:Int) - 1) rfl ?_;walk_at"";by_cases hk:CH k hs=true
  .rw [if_pos hk] at q;have e:(decide (0<=k) && decide (k<=(hs.length:Int) - 1))=true:=hk;rw [e];refine Ci ?_;exact q
  .rw [if_neg hk] at q;have e:(decide (0<=k) && decide (k<=(hs.length:Int) - 1))=false:=Wm.mpr hk;rw [e];refine Cn ?_;walk_at"";have B:(Ua++S9 "there are ").length=10:=by decide +kernel
   have J:(S9 " switches, numbered from 0").length=26:=by decide +kernel
   refine ⟨(by rw [B,Tc];decide),?_⟩;walk_at"";refine Dq D R.c.cls R.c.h I.h ?_;walk_at"";refine Tg (B2 _ _ rfl (.inl (.of R.ha)) ?_);refine Tw (EE _ rfl ⟨by omega,by omega,λz V=>?_⟩);walk_at"";refine ⟨(by rw [A9,B,Tc];omega),?_⟩;walk_at"";refine ⟨(by rw [A9,A9,B,J,Tc];omega),?_⟩;walk_at"";refine ⟨(by rw [A9,A9,B,J,Tc];omega),?_⟩;exact ⟨Av,q⟩
theorem AeC:AO ["self","k"] ["self","k"] (Ac (Ad (top 16) 4)):=.of
theorem Pt:Nm (Ac (Ad (top 16) 4)) "self":=.of
theorem Pu:Nm (Ac (Ad (top 16) 4)) "k":=.of
theorem AeD (F:AJ K "stick" "Switches.stick" (Ad (top 16) 4) f fd)(T:TxtS K mg a)(I:∀ C∈a.bD,AK P w K mg base (AH P w) 2 C "check" ["self","k"] (Jb K a)):AB P w K mg base (AH P w) 3 f fd ["self","k"] (Jc K a true):=by
 refine F.bb AeC λak A outer s H vs Q E J h=>?_
 .obtain ⟨p,k,C,L,O,V,hs,js,ts,rfl,R,q⟩:=h;obtain ⟨dx,fs,B,D⟩:=R.ins;have Y:=I C R.c.mem;have cls:=R.c.cls;have hj:=R.lj;refine ⟨_,(@Aj _ _ _ _ _ (Bj (AX Y cls (Aa 0 Pt) J.d Bs (Ab (Aa 1 Pu) Af)))
    (Am (Ea Ew (Gy (Ax (Aa 0 Pt) rfl) (Aa 1 Pu) Fi)))),?_⟩
  try dsimp only [aD,aE]
  walk_at"";refine DG B (D.m _ (by decide)) ?_;walk_at"";refine Fj p k C L O V hs js ts rfl ⟨R,?_⟩;by_cases hk:CH k hs=true
  .rw [if_pos hk] at q ⊢;obtain ⟨h0,h1⟩:=Ja.mp hk;walk_at"";refine Dq B R.c.cls R.c.j D.j ?_;walk_at"";refine CG R.hb (Fu h0 (by rw [Tb];omega)) ?_;rw [UU] at q;exact q
  .rw [if_neg hk] at q ⊢;exact q
theorem AeE:AO ["self","k"] ["self","k"] (Ac (Ad (top 16) 5)):=.of
theorem Pw:Nm (Ac (Ad (top 16) 5)) "self":=.of
theorem Px:Nm (Ac (Ad (top 16) 5)) "k":=.of
theorem AeF (F:AJ K "mend" "Switches.mend" (Ad (top 16) 5) f fd)(T:TxtS K mg a)(I:∀ C∈a.bD,AK P w K mg base (AH P w) 2 C "check" ["self","k"] (Jb K a)):AB P w K mg base (AH P w) 3 f fd ["self","k"] (Jc K a false):=by
 refine F.bb AeE λak A outer s H vs Q E J h=>?_
 .obtain ⟨p,k,C,L,O,V,hs,js,ts,rfl,R,q⟩:=h;obtain ⟨dx,fs,B,D⟩:=R.ins;have Y:=I C R.c.mem;have cls:=R.c.cls;have hj:=R.lj;refine ⟨_,(@Aj _ _ _ _ _ (Bj (AX Y cls (Aa 0 Pw) J.d Bs (Ab (Aa 1 Px) Af)))
    (Am (Ea Ew (Gy (Ax (Aa 0 Pw) rfl) (Aa 1 Px) Fi)))),?_⟩
  try dsimp only [aD,aE]
  walk_at"";refine DG B (D.m _ (by decide)) ?_;walk_at"";refine Fj p k C L O V hs js ts rfl ⟨R,?_⟩;by_cases hk:CH k hs=true
  .rw [if_pos hk] at q ⊢;obtain ⟨h0,h1⟩:=Ja.mp hk;walk_at"";refine Dq B R.c.cls R.c.j D.j ?_;walk_at"";refine CG R.hb (Fu h0 (by rw [Tb];omega)) ?_;rw [UU] at q;exact q
  .rw [if_neg hk] at q ⊢;exact q
theorem AeG:AO ["self","k"] ["self","k"] (Ac (Ad (top 16) 3)):=.of
theorem Lp:Nm (Ac (Ad (top 16) 3)) "self":=.of
theorem Jd:Nm (Ac (Ad (top 16) 3)) "k":=.of
theorem AeH:Gm (Ac (Ad (top 16) 3)) "NoSwitch":=.of
theorem AeI (F:AJ K "free" "Switches.free" (Ad (top 16) 3) f fd)(T:TxtS K mg a)(O:∀ C∈a.bD,AK P w K mg base (AH P w) 2 C "check" ["self","k"] (Jb K a)):AB P w K mg base (AH P w) 3 f fd ["self","k"] (Pl K a):=by
 refine F.bb AeG λak A outer s H vs Q E V h=>?_
 .obtain ⟨p,k,C,Y,rb,rc,hs,js,ts,rfl,R,q⟩:=h;obtain ⟨dx,fs,D,I⟩:=R.ins;have iR:=O C R.c.mem;have cls:=R.c.cls;have hz:=R.z;refine ⟨_,(@Aj _ _ _ _ _ (Bj (AX iR cls (Aa 0 Lp) V.d Bs (Ab (Aa 1 Jd) Af)))
    (Aj (AY (AZ FP (BC BF (Ax (Aa 0 Lp) rfl) (Aa 1 Jd) (λ_ _=>rfl)) BV (AW _)) (Am (CM CL AeH rfl T.jZ T.gZ (Ab (Fo (Cb Aq (Cb (GW (Aa 1 Jd)) Fn))) Af))) A4)
    (Am (Ea BV (Gy (Ax (Aa 0 Lp) rfl) (Aa 1 Jd) Fi))))),?_⟩
  try dsimp only [aD,aE]
  walk_at"";refine DG D (I.m _ (by decide)) ?_;walk_at"";refine Fj p k C Y rb rc hs js ts rfl ⟨R,?_⟩;by_cases hk:CH k hs=true
  .rw [if_pos hk];obtain ⟨J,L⟩:=Ja.mp hk;walk_at"";refine Dq D R.c.cls R.c.h I.h ?_;walk_at"";obtain ⟨v,B,e2⟩:=GP (xs:=hs) J L;have e3:hs.getD k.toNat .aa=v:=by rw [Uc,e2];rfl
   rw [e3] at q;refine Tw (CG (.of R.ha) B ?_);walk_at"";by_cases hv:v=.aa
   .rw [if_neg (λz=>z.2 hv)] at q;refine B6 (decide_eq_true hv) ?_;walk_at"";have B:(Ua++S9 "nobody holds switch ").length=20:=by decide +kernel
    refine ⟨(by rw [B,Tc];decide),?_⟩;walk_at"";refine Tw (EE _ rfl ⟨by omega,by omega,λz hz=>?_⟩);walk_at"";refine ⟨(by rw [A9,B,Tc];omega),?_⟩;refine ⟨(by rw [A9,B,Tc];omega),?_⟩;exact ⟨Av,q⟩
   .rw [if_pos ⟨hk,hv⟩] at q;refine BX (decide_eq_false hv) ?_;walk_at"";refine Dq D R.c.cls R.c.h I.h ?_;walk_at"";refine CG R.ha (Fu J L) ?_;exact q
  .rw [if_neg hk];rw [if_neg (λz=>hk z.1)] at q;exact q
def Ca (ws:List Addr)(H H':Hp):Prop:=∀ b o,b ∉ ws->H b=some o->H' b=some o
noncomputable def Fv (ra rb rc:Addr):List (Str×V):=[("held_by",.ref ra),("jammed",.ref rb),("taken",.ref rc)]
def Je (K:S3)(a:Ak):Sp:=λvs H Q _=>∃(p:Addr)(many:Int)(C dx:Addr),vs=[.ref p,.int many]/\H p=some (.ins C dx [])/\Em K a C/\0<=many/\many<=1000 /\
 ∀ H' ra rb rc,Ca [p] H H'->H' p=some (.ins C dx (Fv ra rb rc))->H ra=none->H rb=none->H rc=none->H' ra=some (.lst (Th many.toNat .aa))->H' rb=some (.lst ((Th many.toNat false).map V.bl))->H' rc=some (.lst ((Th many.toNat (0:Int)).map V.int)) ->
  ra≠rb->ra≠rc->rb≠rc->Q .aa H'
theorem Jf {α:Type}(x:α):∀ n:Nat,(Th n [x]).flatten=Th n x
 | 0=>rfl
 | n+1=>by rw [VP,WB,Jf x n];rfl
noncomputable def CO (hs:List V)(js:List Bool)(k:Int):Bool:=decide (hs.getD k.toNat .aa=.aa) && !(js.getD k.toNat false)
noncomputable def BZ (hs:List V)(js:List Bool)(start:Int):Option Int:=(BR start hs.length++BR 0 start).find? (CO hs js)
noncomputable def Py:Option Int->V
 | some k=>.int k
 | none=>.aa
def Lq (K:S3)(a:Ak):Sp:=λvs H Q _=>∃(p:Addr)(start:Int)(C ra rb rc:Addr)(hs:List V)(js:List Bool)(ts:List Int),vs=[.ref p,.int start]/\Cp K a H p C ra rb rc hs js ts/\0<=start/\start<=hs.length/\∀ H',Ag H H'->Q (Py (BZ hs js start)) H'
theorem AeJ:AO ["self","many"] ["self","many"] (Ac (Ad (top 16) 0)):=.of
theorem Lr:Nm (Ac (Ad (top 16) 0)) "self":=.of
theorem Ls:Nm (Ac (Ad (top 16) 0)) "many":=.of
theorem Pz (F:AJ K "__init__" "Switches.__init__" (Ad (top 16) 0) f fd)(T:TxtS K mg a):AB P w K mg base AE 1 f fd ["self","many"] (Je K a):=by
 refine F.ok AeJ λak A outer s H vs Q E hr h=>?_
 .obtain ⟨p,B,C,dx,rfl,hp,c,h0,h1,q⟩:=h;refine ⟨_,(@Aj _ _ _ _ _ (Br (Aa 0 Lr) (AR Cw (Bx (Ab BV Af)) (Aa 1 Ls)) rfl)
    (Aj (Br (Aa 0 Lr) (AR Cw (Bx (Ab Ew Af)) (Aa 1 Ls)) rfl)
    (Am (Br (Aa 0 Lr) (AR Cw (Bx (Ab Az Af)) (Aa 1 Ls)) rfl)))),?_⟩
  try dsimp only [aD,aE]
  walk_at"";refine ⟨Av,λl1 iS=>?_⟩;walk_at"";refine Tg (Tg (B7 l1 B [.aa] rfl ⟨rfl,Ai,by omega,by omega,(by rw [UH,Tc];omega),λD cC=>?_⟩));generalize lK:upd H l1 (.lst [.aa])=iT at cC ⊢;have iU:Ag H iT:=lK▸(Ag.refl H).upd iS;generalize iV:upd iT D (.lst (Th B.toNat [.aa]).flatten)=fW;have iW:Ag H fW:=iV▸iU.upd cC;have e1:fW D=some (.lst (Th B.toNat [.aa]).flatten):=iV▸Ai;have f1:H D=none:=iU.free cC;walk_at"";refine Bc p C dx [] rfl (iW _ _ hp) c.cls c.h (by show 0<1000;decide) ?_;generalize dC:upd fW p (.ins C dx (An "held_by" (.ref D) []))=L;have p1:L p=some (.ins C dx [("held_by",.ref D)]):=dC▸Ai;have x1:Ca [p] H L:=λb o hb e=>by rw [<- dC,Ap (by simpa using hb)];exact iW b o e
  have d9:D≠p:=λz=>by rw [z,hp] at f1;cases f1
  have c1:L D=some (.lst (Th B.toNat [.aa]).flatten):=by rw [<- dC,Ap d9];exact e1
  walk_at"";refine ⟨Av,λl3 fX=>?_⟩;walk_at"";refine Tg (Tg (B7 l3 B [.bl false] rfl ⟨rfl,Ai,by omega,by omega,(by rw [UH,Tc];omega),λI ee=>?_⟩));generalize lL:upd L l3 (.lst [.bl false])=iX at ee ⊢;have iY:Ag L iX:=lL▸(Ag.refl L).upd fX;generalize iZ:upd iX I (.lst (Th B.toNat [.bl false]).flatten)=fY;have i4:Ag L fY:=iZ▸iY.upd ee;have e2:fY I=some (.lst (Th B.toNat [.bl false]).flatten):=iZ▸Ai;have f2:L I=none:=iY.free ee;walk_at"";refine Bc p C dx [("held_by",.ref D)] rfl (i4 _ _ p1) c.cls c.j (by show 1<1000;decide) ?_;generalize dD:upd fY p (.ins C dx (An "jammed" (.ref I) [("held_by",.ref D)]))=O;have p2:O p=some (.ins C dx [("held_by",.ref D),("jammed",.ref I)]):=dD▸Ai;have x2:Ca [p] L O:=λb o hb e=>by rw [<- dD,Ap (by simpa using hb)];exact i4 b o e
  have eF:I≠p:=λz=>by rw [z,p1] at f2;cases f2
  have c2:O I=some (.lst (Th B.toNat [.bl false]).flatten):=by rw [<- dD,Ap eF];exact e2
  walk_at"";refine ⟨Av,λl5 nl5=>?_⟩;walk_at"";refine Tg (Tg (B7 l5 B [.int 0] rfl ⟨rfl,Ai,by omega,by omega,(by rw [UH,Tc];omega),λJ lM=>?_⟩));generalize hA3:upd O l5 (.lst [.int 0])=pV at lM ⊢;have pW:Ag O pV:=hA3▸(Ag.refl O).upd nl5;generalize pX:upd pV J (.lst (Th B.toNat [.int 0]).flatten)=lN;have pY:Ag O lN:=pX▸pW.upd lM;have e3:lN J=some (.lst (Th B.toNat [.int 0]).flatten):=pX▸Ai;have V:O J=none:=pW.free lM;walk_at"";refine Bc p C dx [("held_by",.ref D),("jammed",.ref I)] rfl (pY _ _ p2) c.cls c.t (by show 2<1000;decide) ?_;generalize lO:upd lN p (.ins C dx (An "taken" (.ref J) [("held_by",.ref D),("jammed",.ref I)]))=Y;have p3:Y p=some (.ins C dx (Fv D I J)):=lO▸Ai;have x3:Ca [p] O Y:=λb o hb e=>by rw [<- lO,Ap (by simpa using hb)];exact pY b o e
  have lP:J≠p:=λz=>by rw [z,p2] at V;cases V
  have c3:Y J=some (.lst (Th B.toNat [.int 0]).flatten):=by rw [<- lO,Ap lP];exact e3
  have one:∀{b:Addr},b≠p->b ∉ [p]:=λh z=>h (by simpa using z);have pZ:=x2 _ _ (one d9) c1;have qb:=x3 _ _ (one d9) pZ;have qc:=x3 _ _ (one eF) c2;have g4:H I=none:=by
   cases z:H I with
   | none=>rfl
   | some o=>have:=x1 _ _ (one eF) z;rw [this] at f2;cases f2
  have g6:H J=none:=by
   cases z:H J with
   | none=>rfl
   | some o=>have:=x2 _ _ (one lP) (x1 _ _ (one lP) z);rw [this] at V;cases V
  rw [Jf] at qb qc c3;refine q Y D I J (λb o hb e=>x3 _ _ hb (x2 _ _ hb (x1 _ _ hb e))) p3 f1 g4 g6 qb (by rw [W9];exact qc) (by rw [W9];exact c3) ?_ ?_ ?_
  .exact λz=>by rw [<- z,c1] at f2;cases f2
  .exact λz=>by rw [<- z,pZ] at V;cases V
  .exact λz=>by rw [<- z,c2] at V;cases V
theorem PB:AO ["self","start","k"] ["self","start"] (Ac (Ad (top 16) 1)):=.of
theorem Lu:Nm (Ac (Ad (top 16) 1)) "self":=.of
theorem PC:Nm (Ac (Ad (top 16) 1)) "start":=.of
theorem Jg:Nm (Ac (Ad (top 16) 1)) "k":=.of
theorem PD:Gm (Ac (Ad (top 16) 1)) "list":=.of
theorem PF:Gm (Ac (Ad (top 16) 1)) "range":=.of
theorem AeK:Gm (Ac (Ad (top 16) 1)) "len":=.of
theorem AeL (F:AJ K "first_free" "Switches.first_free" (Ad (top 16) 1) f fd)(T:TxtS K mg a):AB P w K mg base AE 1 f fd ["self","start"] (Lq K a):=by
 refine F.ok PB λak A outer s H vs Q E hr h=>?_
 .obtain ⟨p,start,C,ra,rb,rc,hs,js,ts,rfl,R,h0,h1,q⟩:=h;obtain ⟨dx,fs,hp,F3⟩:=R.ins;have nd:=PB.nd;have hz:=R.z;refine ⟨_,(@Aj _ _ _ _ _ (DF Vx rfl (Eb (AR C5 (C6 (GS rfl) PD T.ft FX (Ab (C6 Ot PF T.fV Ou (Ab (Aa 1 PC) (Ab (BH Cy AeK T.n_len Cj (Ab (Ax (Aa 0 Lu) rfl) Af)) Af))) Af)) (C6 (GS rfl) PD T.ft FX (Ab (C6 Ot PF T.fV Ou (Ab (Aa 1 PC) Af)) Af)))) (Bo 2 nd Jg) (Am (AY (PW.pt (Kf (AZ FP (BC BF (Ax (Aa 0 Lu) rfl) (Aa 2 Jg) (λ_ _=>rfl)) BV (AW _)) (Ke (Dv (Dk (BC BF (Ax (Aa 0 Lu) rfl) (Aa 2 Jg) (λ_ _=>rfl))))))) (Am (AM (Aa 2 Jg))) A4)))
    (Am (AM BV))),?_⟩
  try dsimp only [aD,aE]
  walk_at"";refine Dq hp R.c.cls R.c.h F3.h ?_;walk_at"";refine Tg (B2 _ _ rfl (.inl (.of R.ha)) ?_);walk_at"";have O:Sm start:=⟨by omega,by omega⟩;have eI:Sm (hs.length:Int):=⟨by omega,by omega⟩;have sm0:Sm 0:=⟨by decide,by decide⟩;refine Tg (Ef start hs.length rfl O eI (λr1 n1=>?_));refine Tg (B7 r1 start hs.length rfl ⟨Ai,O,eI,(by rw [Tc];omega),λl1 m1=>?_⟩);have s1:=(Ag.refl H).upd (o:=.cJ start hs.length) n1;have s2:=s1.upd (o:=.lst ((BR start hs.length).map V.int)) m1;walk_at"";refine Tw (GG start rfl O (λr2 n2=>?_));have s3:=s2.upd (o:=.cJ 0 start) n2;have k1:=((Ag.refl _).upd (o:=.cJ 0 start) n2) l1 _ Ai;refine Tg (B7 r2 0 start rfl ⟨Ai,sm0,O,(by rw [Tc];omega),λl2 m2=>?_⟩);have s4:=s3.upd (o:=.lst ((BR 0 start).map V.int)) m2;have k2:=((Ag.refl _).upd (o:=.lst ((BR 0 start).map V.int)) m2) l1 _ k1;refine Tg (Tg (Bc l1 l2 _ _ rfl rfl k2 Ai (by rw [Tb,Tb,KL,KL,Tc];omega) (λl3 n3=>?_)));rw [<- TQ];have s5:=s4.upd (o:=.lst ((BR start hs.length++BR 0 start).map V.int)) n3;generalize hU:upd _ l3 (.lst ((BR start hs.length++BR 0 start).map V.int))=Y at s5 ⊢;have e3:Y l3=some (.lst ((BR start hs.length++BR 0 start).map V.int)):=hU▸Ai;have q':∀ r,r=BZ hs js start->Q (Py r) Y:=λr e=>by rw [e];exact q Y s5
  have RU:=R.same s5;clear hU
  have mem:∀ k∈BR start hs.length++BR 0 start,0<=k/\k<hs.length:=λk hk=>by
   rcases Ut.mp hk with h | h<;>obtain ⟨n,hn,rfl⟩:=Tr.mp h<;>have:=Us.mp hn<;>constructor<;>omega
  unfold BZ at q';generalize BR start hs.length++BR 0 start=ord at e3 q' mem ⊢;obtain ⟨dx',eU,bO,j8⟩:=RU.ins;walk_at"";refine ⟨⟨_,.of e3⟩,FO (K:=K) (a:=l3) (xs:=ord.map V.int) (λi σ H2=>∃ x,σ=[some (.ref p),some (.int start),x]/\H2=Y/\(ord.take i).find? (CO hs js)=none) ⟨none,rfl,rfl,rfl⟩ (λi σ H2 _ ⟨_,_,e,_⟩=>e▸.of e3) ?_ ?_⟩
  .intro i y σ H2 I zq;obtain ⟨x,rfl,rfl,hf⟩:=zq;rw [Tp] at I;cases hk:ord[i]? with
   | none=>rw [hk] at I;cases I
   | some k =>
    rw [hk] at I;cases I;obtain ⟨k0,k1⟩:=mem k (Tz hk);obtain ⟨v,e1,e2⟩:=GP (xs:=hs) k0 k1;have lj:=RU.lj;obtain ⟨u,e4,J⟩:=GP (xs:=js.map V.bl) k0 (by rw [Tb];omega);obtain ⟨B,e6,rfl⟩:∃ B,js[k.toNat]?=some B/\u=.bl B:=by
     rw [Tp] at J;cases z:js[k.toNat]? with
     | none=>rw [z] at J;cases J
     | some B=>rw [z] at J;cases J;exact ⟨B,rfl,rfl⟩
    have L:CO hs js k=(decide (v=.aa) && !B):=by unfold CO;rw [Uc,e2,Uc,e6];rfl
    have tk:(ord.take (i+1)).find? (CO hs js)=if CO hs js k=true then some k else none:=by rw [Vg,hk,tZ,hf];show none.or (List.find? (CO hs js) [k])=_;rw [Vf];cases CO hs js k<;>rfl
    walk_at"";refine Dq bO R.c.cls R.c.h j8.h ?_;walk_at"";refine Tw (CG (.of RU.ha) e1 ?_);walk_at"";have D:CO hs js k=true->some k=ord.find? (CO hs js):=λh=>by
     rw [if_pos h] at tk;conv=>rhs;rw [<- ua (i+1) ord]
     rw [tZ,tk];rfl
    have next:CO hs js k=false->(ord.take (i+1)).find? (CO hs js)=none:=λh=>by rw [tk,h];rfl
    by_cases hv:v=.aa
    .rw [decide_eq_true hv];rw [decide_eq_true hv] at L;refine Cn ?_;walk_at"";refine Dq bO R.c.cls R.c.j j8.j ?_;walk_at"";refine Tw (CG (.of RU.hb) e4 ?_);walk_at"";cases B with
     | false =>
      refine Cn ?_;walk_at"";exact q' (some k) (D L)
     | true =>
      refine Ci ?_;exact ⟨_,rfl,rfl,next L⟩
    .rw [decide_eq_false hv];rw [decide_eq_false hv] at L;refine Ci ?_;refine Ci ?_;exact ⟨_,rfl,rfl,next L⟩
  .intro σ H2 zq;obtain ⟨x,rfl,rfl,hf⟩:=zq;walk_at"";rw [Tb,Vh] at hf;exact q' none hf.symm
noncomputable def DN (js:List Bool)(n:Nat):List Int:=((Ur n).filter λk=>js.getD k false).map λ(k:Nat)=>(k:Int)
theorem PH (js:List Bool)(n:Nat):DN js (n+1)=DN js n++if js.getD n false=true then [(n:Int)] else []:=by
 unfold DN;rw [XS,List.filter_append,TQ];congr 1
 rw [List.filter_cons,List.filter_nil];by_cases h:js.getD n false=true
 .rw [if_pos h,if_pos h];rfl
 .rw [if_neg h,if_neg h];rfl
theorem AeM (js:List Bool)(n:Nat):(DN js n).length<=n:=by unfold DN;rw [Tb];have:=List.length_filter_le (λk=>js.getD k false) (Ur n);rwa [Vd] at this
def Lv (K:S3)(a:Ak):Sp:=λvs H Q _=>∃(p C ra rb rc:Addr)(hs:List V)(js:List Bool)(ts:List Int),vs=[.ref p]/\Cp K a H p C ra rb rc hs js ts /\
 ∀ H' r,Ag H H'->H r=none->H' r=some (.lst ((DN js js.length).map V.int))->Q (.ref r) H'
noncomputable def Cq (hs:List V)(st:Nat->Bool)(n:Nat):List V:=(Ur n).map λk=>if hs.getD k .aa=.aa then (if st k=true then V.str "stuck" else V.str "free") else hs.getD k .aa
theorem AeN (i:Int)(ks:List Int):C4 (.int i) (ks.map V.int)=decide (i∈ks):=by
 unfold C4;rw [List.any_map,VF,ub,decide_eq_true_eq];constructor
 .intro B;obtain ⟨k,hk,e⟩:=B;have D:(k == i)=true:=e;rw [<- beq_iff_eq.mp D];exact hk
 .exact λh=>⟨i,h,(beq_self_eq_true i:(i == i)=true)⟩
theorem AeO (ks:List Int):(ks.map V.int).all Ee=true:=by rw [List.all_map,WI];exact λ_ _=>rfl
theorem PK (hs:List V)(st:Nat->Bool)(n:Nat):Cq hs st (n+1)=Cq hs st n++[if hs.getD n .aa=.aa then (if st n=true then V.str "stuck" else V.str "free") else hs.getD n .aa]:=by unfold Cq;rw [XS,TQ];rfl
def Jh (K:S3):Sp:=λvs H Q _=>∃(h s:Addr)(hs:List V)(ks:List Int),vs=[.ref h,.ref s]/\H h=some (.lst hs)/\H s=some (.lst (ks.map V.int))/\hs.length<=1000 /\
 ∀ H' t,Ag H H'->H t=none->H' t=some (.tup (Cq hs (λk=>decide ((k:Int)∈ks)) hs.length))->Q (.ref t) H'
theorem AeP:AO ["self"] ["self"] (Ac (Ad (top 16) 8)):=.of
theorem AeQ:Nm (Ac (Ad (top 16) 8)) "self":=.of
theorem AeR:Gm (Ac (Ad (top 16) 8)) "enumerate":=.of
noncomputable def Lx:Scope:={ kind:=.function,names:=[(".0",.local),("k",.local),("jammed",.local)],isGenerator:=false,isCoroutine:=false,more:=[] }
theorem Ly:Bu Lx (Ac (Ad (top 16) 8)) ["k","jammed"] ["self"] [none,none]:=Bu.mk' rfl (by decide +kernel) (by decide +kernel) (by decide +kernel) (by decide +kernel) rfl (by decide +kernel)
theorem PL:Nm Lx "k":=.of
theorem PM:Nm Lx "jammed":=.of
theorem AeS (F:AJ K "stuck" "Switches.stuck" (Ad (top 16) 8) f fd)(T:TxtS K mg a):AB P w K mg base AE 1 f fd ["self"] (Lv K a):=by
 refine F.ok AeP λak A outer s H vs Q E hr h=>?_
 .obtain ⟨p,C,ra,rb,rc,hs,js,ts,rfl,R,q⟩:=h;obtain ⟨dx,fs,hp,F3⟩:=R.ins;have hz:=R.z;have hj:=R.lj;refine ⟨_,(@Am _ _ _ (AM (FZ rfl Ly (Oo AeR T.jY (Ab (Ax (Aa 0 AeQ) rfl) Af)) (λY C fp pins s₂ H₂=>(IG (X:=AS _ _ _ Y C fp pins s₂ H₂) K rfl 2 rfl (B5 (Bo 0 Ly.nd PL.comp) (B5 (Bo 1 Ly.nd PM.comp) DD)) rfl rfl)) (λY C fp pins s₂ H₂=>(Oj (Dk (Aa 1 PM.comp)))) (λY C fp pins s₂ H₂=>(Aa 0 PL.comp))))),?_⟩;try dsimp only [aD,aE]
  walk_at"";refine Dq hp R.c.cls R.c.j F3.j ?_;refine B2 _ _ rfl (.of R.hb) (λD hD=>?_);refine AcT (K:=K) (a:=rb) (xs:=js.map V.bl) (λi σ B=>∃ x y,σ=[x,y]/\Ag H B/\B D=some (.lst ((DN js i).map V.int))) ⟨none,none,rfl,(Ag.refl H).upd hD,Ai⟩ (λi σ B _ ⟨_,_,_,I,_⟩=>.of (I _ _ R.hb)) ?_ ?_
  .rintro i x t σ B J ⟨x0,x1,rfl,I,L⟩ ht;rw [Tp] at J;cases hk:js[i]? with
   | none=>rw [hk] at J;cases J
   | some O =>
    rw [hk] at J;cases J;have eg:js.getD i false=O:=by rw [Uc,hk];rfl
    have ilt:i<js.length:=(TH.mp hk).1;refine Ef t _ rfl (.of Ai) rfl ?_;walk_at"";have fA:=((Ag.refl B).upd (o:=.tup [.int i,.bl O]) ht) D _ L;have eI:=I.upd (o:=.tup [.int i,.bl O]) ht;cases O with
    | true =>
     refine Cn ?_;walk_at"";refine ⟨_,fA,?_,_,_,rfl,eI.cK hD,?_⟩
     .rw [Tb,Tc];have:=AeM js i;omega
     .rw [Ai,PH,eg,if_pos rfl,TQ];rfl
    | false =>
     refine Ci ?_;refine B2 _ _ rfl eI ?_;rw [fA,PH,eg,if_neg (by decide),WX]
  .intro σ B zq;obtain ⟨x0,x1,rfl,I,L⟩:=zq;rw [Tb] at L;exact q B D I hD L
theorem PN {js:List Bool}{n k:Nat}(h:k<n):decide ((k:Int)∈DN js n)=js.getD k false:=by
 unfold DN;rw [VF,decide_eq_true_eq,Tr];constructor
 .intro B;obtain ⟨m,D,e⟩:=B;have:m=k:=by omega
  subst this;exact (Xi.mp D).2
 .exact λe=>⟨k,Xi.mpr ⟨Us.mpr h,e⟩,rfl⟩
theorem AeT {n:Nat}{start k:Int}(D:0<=start)(H:start<=n)(h:k∈BR start n++BR 0 start):0<=k/\k<n:=by rcases Ut.mp h with h | h<;>obtain ⟨m,B,rfl⟩:=Tr.mp h<;>have:=Us.mp B<;>constructor<;>omega
theorem EK {hs:List V}{js:List Bool}{start k:Int}(B:0<=start)(D:start<=hs.length)(h:BZ hs js start=some k):(0<=k/\k<hs.length)/\CO hs js k=true:=⟨AeT B D (uc h),ud h⟩
structure EL (K:S3)(a:Ak)(C:Addr):Prop where
 c:Em K a C
 p:Bw K C "places"
 s:Bw K C "stands"
 w:Bw K C "went"
 m:Bw K C "mark_at"
noncomputable def Fw (ra rb rc:Addr)(places:Int)(rs rw:Addr)(mark:Int):List (Str×V):=[("held_by",.ref ra),("jammed",.ref rb),("taken",.ref rc),("places",.int places),("stands",.ref rs),("went",.ref rw),("mark_at",.int mark)]
theorem Ji (D H I:Addr)(B:Int)(J rw:Addr)(mark:Int):Fs (Fw D H I B J rw mark) D H I:=by refine ⟨rfl,rfl,rfl,λx hx=>?_⟩;simp only [Tq,Ue,or_false] at hx;rcases hx with rfl | rfl | rfl | rfl | rfl | rfl | rfl | rfl | rfl | rfl | rfl<;>rfl
structure D4 (K:S3)(a:Ak)(H:Hp)(p C ra rb rc rs rw:Addr)(hs:List V)(js:List Bool)(ts:List Int)(places mark:Int)(st wt:List Int):Prop where
 ins:∃ dx,H p=some (.ins C dx (Fw ra rb rc places rs rw mark))
 cs:EL K a C
 ha:H ra=some (.lst hs)
 hb:H rb=some (.lst (js.map V.bl))
 hc:H rc=some (.lst (ts.map V.int))
 fZ:H rs=some (.lst (st.map V.int))
 hw:H rw=some (.lst (wt.map V.int))
 ap:[ra,rb,rc,rs,rw].Nodup
 lj:js.length=hs.length
 lt:ts.length=hs.length
 ls:st.length=hs.length
 lw:wt.length=hs.length
 z:hs.length<=1000
theorem D4.r {K:S3}{a:Ak}{H:Hp}{p C D I J O rw:Addr}{hs:List V}{js:List Bool}{ts:List Int}{B mark:Int}{st wt:List Int}(k:D4 K a H p C D I J O rw hs js ts B mark st wt):Cp K a H p C D I J hs js ts:=by obtain ⟨dx,e⟩:=k.ins;have L:=k.ap;simp only [TV,Tq,Ue,or_false,not_or,not_false_eq_true,VY,and_true] at L;obtain ⟨⟨Y,a2,a3,a4⟩,⟨b1,b2,b3⟩,⟨c1,c2⟩,d1⟩:=L;exact ⟨⟨dx,_,e,Ji ..⟩,k.cs.c,k.ha,k.hb,k.hc,Y,a2,b1,k.lj,k.lt,k.z⟩
theorem D4.same {K:S3}{a:Ak}{H D:Hp}{p C I J L O rw:Addr}{hs:List V}{js:List Bool}{ts:List Int}{B mark:Int}{st wt:List Int}(k:D4 K a H p C I J L O rw hs js ts B mark st wt)(s:Ag H D):D4 K a D p C I J L O rw hs js ts B mark st wt:=by obtain ⟨dx,e⟩:=k.ins;exact ⟨⟨dx,s _ _ e⟩,k.cs,s _ _ k.ha,s _ _ k.hb,s _ _ k.hc,s _ _ k.fZ,s _ _ k.hw,k.ap,k.lj,k.lt,k.ls,k.lw,k.z⟩
def PQ (K:S3)(a:Ak):Sp:=λvs H Q _=>∃(p:Addr)(many places:Int)(C dx:Addr),vs=[.ref p,.int many,.int places]/\H p=some (.ins C dx [])/\EL K a C/\0<=many/\many<=1000 /\
 ∀ H' ra rb rc rs rw,Ca [p] H H'->D4 K a H' p C ra rb rc rs rw (Th many.toNat .aa) (Th many.toNat false) (Th many.toNat 0) places 0 (Th many.toNat 0) (Th many.toNat 0)->H ra=none->H rb=none->H rc=none->H rs=none->H rw=none->Q .aa H'
def PR (K:S3)(a:Ak):Sp:=λvs H Q _=>∃(p C ra rb rc rs rw:Addr)(hs:List V)(js:List Bool)(ts:List Int)(places mark:Int)(st wt:List Int)(place:Int),vs=[.ref p,.int place]/\D4 K a H p C ra rb rc rs rw hs js ts places mark st wt/\0<=mark/\mark<=hs.length/\0<places /\
 match BZ hs js mark with
 | none=>∀ H',Ag H H'->Q .aa H'
 | some k=>∀ H' t,Ca [p,ra,rc,rs,rw] H H'->H t=none->H' t=some (.tup [.int k,.int ((place - st.getD k.toNat 0) % places)]) ->
   D4 K a H' p C ra rb rc rs rw (hs.set k.toNat (.int place)) js (ts.set k.toNat (ts.getD k.toNat 0+1)) places ((k+1) % hs.length) (st.set k.toNat place) (wt.set k.toNat (wt.getD k.toNat 0+(place - st.getD k.toNat 0) % places))->Q (.ref t) H'
structure TxtK (K:S3)(mg:Str->Option Value)(a:Ak):Prop extends TxtS K mg a where
 j9:mg "Switches"=some (.ref a.fS)
theorem AeU:AO ["self","many","places"] ["self","many","places"] (Ac (Ad (top 23) 0)):=.of
theorem G6:Nm (Ac (Ad (top 23) 0)) "self":=.of
theorem Lz:Nm (Ac (Ad (top 23) 0)) "many":=.of
theorem AeV:Nm (Ac (Ad (top 23) 0)) "places":=.of
theorem AeW:Gm (Ac (Ad (top 23) 0)) "Switches":=.of
theorem AeX (F:AJ K "__init__" "Seekers.__init__" (Ad (top 23) 0) f fd)(T:TxtK K mg a){fi:Addr}{qd:Tn}(aaK:OM K a.fS fi "__init__")(aaL:AB P w K mg base AE 1 fi qd ["self","many"] (Je K a))(aaM:Dd K qd ["self","many"] []) :
  AB P w K mg base AE 2 f fd ["self","many","places"] (PQ K a):=by
 refine F.ok AeU λak A outer s H vs Q E hr h=>?_
 .obtain ⟨p,D,B,C,dx,rfl,hp,cs,h0,h1,q⟩:=h;refine ⟨_,(@Aj _ _ _ _ _ (Bj (Ac7 aaK AeW T.j9 aaL aaM hr.d A5 (Ab (Aa 0 G6) (Ab (Aa 1 Lz) Af))))
    (Aj (Br (Aa 0 G6) (Aa 2 AeV) rfl)
    (Aj (Br (Aa 0 G6) (AR Cw (Bx (Ab Az Af)) (Aa 1 Lz)) rfl)
    (Aj (Br (Aa 0 G6) (AR Cw (Bx (Ab Az Af)) (Aa 1 Lz)) rfl)
    (Am (Br (Aa 0 G6) Az rfl)))))),?_⟩
  try dsimp only [aD,aE]
  walk_at"";refine Bc p D C dx rfl hp cs.c h0 (by omega) (λH1 J L O x0 g5 fa fb fc ha hb hc ab ac bc=>?_);walk_at"";refine Bc p C dx _ rfl g5 cs.c.cls cs.p (by show 3<1000;decide) ?_;generalize hP:upd H1 p (.ins C dx (An "places" (.int B) (Fv J L O)))=Y;have p0:Y p=some (.ins C dx ([("held_by",.ref J),("jammed",.ref L),("taken",.ref O),("places",.int B)])):=hP▸Ai;have lQ:Ca [p] H1 Y:=λb o hb e=>by rw [<- hP,Ap (by simpa using hb)];exact e
  walk_at"";refine ⟨Av,λl1 iS=>?_⟩;walk_at"";refine Tg (Tg (B7 l1 D [.int 0] rfl ⟨rfl,Ai,by omega,by omega,(by rw [UH,Tc];omega),λI cC=>?_⟩));rw [Jf];generalize lK:upd Y l1 (.lst [.int 0])=iT at cC ⊢;have iU:Ag Y iT:=lK▸(Ag.refl Y).upd iS;generalize iV:upd iT I (.lst (Th D.toNat (V.int 0)))=fW;have iW:Ag Y fW:=iV▸iU.upd cC;have e1:fW I=some (.lst (Th D.toNat (V.int 0))):=iV▸Ai;have f1:Y I=none:=iU.free cC;walk_at"";refine Bc p C dx ([("held_by",.ref J),("jammed",.ref L),("taken",.ref O),("places",.int B)]) rfl (iW _ _ p0) cs.c.cls cs.s (by show 4<1000;decide) ?_;generalize dC:upd fW p (.ins C dx (An "stands" (.ref I) ([("held_by",.ref J),("jammed",.ref L),("taken",.ref O),("places",.int B)])))=bI;have p1:bI p=some (.ins C dx ([("held_by",.ref J),("jammed",.ref L),("taken",.ref O),("places",.int B),("stands",.ref I)])):=dC▸Ai;have x1:Ca [p] Y bI:=λb o hb e=>by rw [<- dC,Ap (by simpa using hb)];exact iW b o e
  have d9:I≠p:=λz=>by rw [z,p0] at f1;cases f1
  have c1:bI I=some (.lst (Th D.toNat (V.int 0))):=by rw [<- dC,Ap d9];exact e1
  walk_at"";refine ⟨Av,λl3 fX=>?_⟩;walk_at"";refine Tg (Tg (B7 l3 D [.int 0] rfl ⟨rfl,Ai,by omega,by omega,(by rw [UH,Tc];omega),λl4 ee=>?_⟩));rw [Jf];generalize lL:upd bI l3 (.lst [.int 0])=iX at ee ⊢;have iY:Ag bI iX:=lL▸(Ag.refl bI).upd fX;generalize iZ:upd iX l4 (.lst (Th D.toNat (V.int 0)))=fY;have i4:Ag bI fY:=iZ▸iY.upd ee;have e2:fY l4=some (.lst (Th D.toNat (V.int 0))):=iZ▸Ai;have f2:bI l4=none:=iY.free ee;walk_at"";refine Bc p C dx ([("held_by",.ref J),("jammed",.ref L),("taken",.ref O),("places",.int B),("stands",.ref I)]) rfl (i4 _ _ p1) cs.c.cls cs.w (by show 5<1000;decide) ?_;generalize dD:upd fY p (.ins C dx (An "went" (.ref l4) ([("held_by",.ref J),("jammed",.ref L),("taken",.ref O),("places",.int B),("stands",.ref I)])))=b6;have p2:b6 p=some (.ins C dx ([("held_by",.ref J),("jammed",.ref L),("taken",.ref O),("places",.int B),("stands",.ref I),("went",.ref l4)])):=dD▸Ai;have x2:Ca [p] bI b6:=λb o hb e=>by rw [<- dD,Ap (by simpa using hb)];exact i4 b o e
  have eF:l4≠p:=λz=>by rw [z,p1] at f2;cases f2
  have c2:b6 l4=some (.lst (Th D.toNat (V.int 0))):=by rw [<- dD,Ap eF];exact e2
  walk_at"";refine Bc p C dx _ rfl p2 cs.c.cls cs.m (by show 6<1000;decide) ?_;have one:∀{b:Addr},b≠p->b ∉ [p]:=λh z=>h (by simpa using z);have npa:J≠p:=λz=>by rw [z,hp] at fa;cases fa
  have npb:L≠p:=λz=>by rw [z,hp] at fb;cases fb
  have npc:O≠p:=λz=>by rw [z,hp] at fc;cases fc
  have up:Ca [p] b6 (upd b6 p (.ins C dx (An "mark_at" (.int 0) ([("held_by",.ref J),("jammed",.ref L),("taken",.ref O),("places",.int B),("stands",.ref I),("went",.ref l4)])))):=λb o hb e=>by rw [Ap (by simpa using hb)];exact e
  have t1:∀ {b o},b≠p->H1 b=some o->(upd b6 p (.ins C dx (An "mark_at" (.int 0) ([("held_by",.ref J),("jammed",.ref L),("taken",.ref O),("places",.int B),("stands",.ref I),("went",.ref l4)])))) b=some o:=λh e=>up _ _ (one h) (x2 _ _ (one h) (x1 _ _ (one h) (lQ _ _ (one h) e)));have back:∀ {b},b≠p->Y b=none->H1 b=none:=λ{b} h e=>by
   cases z:H1 b with
   | none=>rfl
   | some o=>rw [lQ _ _ (one h) z] at e;cases e
  have qe:∀ {b},b≠p->H1 b=none->H b=none:=λ{b} h e=>by
   cases z:H b with
   | none=>rfl
   | some o=>rw [x0 _ _ (one h) z] at e;cases e
  have aaN:∀ {b},b≠p->bI b=none->Y b=none:=λ{b} h e=>by
   cases z:Y b with
   | none=>rfl
   | some o=>rw [x1 _ _ (one h) z] at e;cases e
  have g2:=back d9 f1;have g4:=back eF (aaN eF f2);have z2:∀ {b o},H1 b=some o->b≠I:=λe=>BK e g2;have z4:∀ {b o},H1 b=some o->b≠l4:=λe=>BK e g4;refine q _ J L O I l4 (λb o hb e=>up _ _ hb (x2 _ _ hb (x1 _ _ hb (lQ _ _ hb (x0 _ _ hb e))))) ⟨⟨dx,Ai⟩,cs,t1 npa ha,t1 npb hb,t1 npc hc,?_,?_,?_,by rw [Uu,Uu],by rw [Uu,Uu],by rw [Uu,Uu],by rw [Uu,Uu],by rw [Uu];omega⟩ fa fb fc (qe d9 g2) (qe eF g4)
  .rw [W9];exact up _ _ (one d9) (x2 _ _ (one d9) c1)
  .rw [W9];exact up _ _ (one eF) c2
  .simp only [TV,Tq,Ue,or_false,not_or,not_false_eq_true,VY,and_true];exact ⟨⟨ab,ac,z2 ha,z4 ha⟩,⟨bc,z2 hb,z4 hb⟩,⟨z2 hc,z4 hc⟩,BK c1 f2⟩
theorem Jj {H:Hp}{a b:Addr}{o:HO}(h:H b≠none):upd H a o b≠none:=by
 by_cases e:b=a
 .subst e;rw [Ai];simp
 .rw [Ap e];exact h
theorem PU:AO ["self","place","k","steps"] ["self","place"] (Ac (Ad (top 23) 1)):=.of
theorem En:Nm (Ac (Ad (top 23) 1)) "self":=.of
theorem LA:Nm (Ac (Ad (top 23) 1)) "place":=.of
theorem EM:Nm (Ac (Ad (top 23) 1)) "k":=.of
theorem LB:Nm (Ac (Ad (top 23) 1)) "steps":=.of
theorem AeY:Gm (Ac (Ad (top 23) 1)) "len":=.of
theorem AeZ (F:AJ K "take" "Seekers.take" (Ad (top 23) 1) f fd)(T:TxtK K mg a)(lR:∀ C∈a.bD,AK P w K mg base AE 1 C "first_free" ["self","start"] (Lq K a))(g7:∀ C∈a.bD,AK P w K mg base AE 1 C "hold" ["self","k","who"] (Lm K a)) :
  AB P w K mg base AE 2 f fd ["self","place"] (PR K a):=by
 refine F.ok PU λak A outer s H vs Q E hr h=>?_
 .obtain ⟨p,C,I,rb,J,O,rw,hs,js,ts,B,mark,st,wt,place,rfl,k,h0,h1,aU,q⟩:=h;obtain ⟨dx,hp⟩:=k.ins;have nd:=PU.nd;have lS:=lR C k.cs.c.mem;have lU:=g7 C k.cs.c.mem;have cls:=k.cs.c.cls;have hz:=k.z;have ls:=k.ls;have lw:=k.lw;have lt:=k.lt;have F3:=Ji I rb J B O rw mark;refine ⟨_,(@Aj _ _ _ _ _ (A8 2 nd EM (AX lS cls (Aa 0 En) hr.d A5 (Ab (Ax (Aa 0 En) rfl) Af)))
    (Aj (AY (AZ FP (Aa 2 EM) BV (AW _)) (Am (AM BV)) A4)
    (Aj (A8 3 nd LB (AR CD (AR GB (Aa 1 LA) (BC BF (Ax (Aa 0 En) rfl) (Aa 2 EM) (λ_ _=>rfl))) (Ax (Aa 0 En) rfl)))
    (Aj (Ea (Aa 1 LA) (Gy (Ax (Aa 0 En) rfl) (Aa 2 EM) Fi))
    (Aj (Na (Ax (Aa 0 En) rfl) (Aa 2 EM) Oy (Aa 3 LB) Nb Fi)
    (Aj (Bj (AX lU cls (Aa 0 En) hr.d A5 (Ab (Aa 2 EM) (Ab (Aa 1 LA) Af))))
    (Aj (Br (Aa 0 En) (AR CD (AR C5 (Aa 2 EM) Az) (BH Cy AeY T.n_len Cj (Ab (Ax (Aa 0 En) rfl) Af))) rfl)
    (Am (AM (A2 (Ab (Aa 2 EM) (Ab (Aa 3 LB) Af)))))))))))),?_⟩
  try dsimp only [aD,aE]
  walk_at"";refine DG hp (F3.m _ (by decide)) ?_;walk_at"";refine AF p C dx _ _ rfl hp cls k.cs.m rfl ?_;walk_at"";refine Fj p mark C I rb J hs js ts rfl ⟨k.r,h0,h1,λH1 s1=>?_⟩;cases hf:BZ hs js mark with
  | none =>
   rw [hf] at q;walk_at"";exact q H1 s1
  | some D =>
   rw [hf] at q;obtain ⟨⟨k0,k1⟩,_⟩:=EK h0 h1 hf;have Y:=k.same s1;have g5:=s1 _ _ hp;have ap:=k.ap;simp only [TV,Tq,Ue,or_false,not_or,not_false_eq_true,VY,and_true] at ap;obtain ⟨⟨a1,a2,a3,a4⟩,⟨b1,b2,b3⟩,⟨c1,c2⟩,d1⟩:=ap;have L:∀ {b xs},H b=some (.lst xs)->p≠b:=λh=>HY hp h (by intro z;cases z);walk_at"";refine AF p C dx _ _ rfl g5 cls k.cs.s rfl ?_;walk_at"";refine Tw (CG (.of Y.fZ) (FW k0 (by omega)) ?_);walk_at"";refine AF p C dx _ _ rfl g5 cls k.cs.p rfl ?_;walk_at"";refine AF p C dx _ _ rfl g5 cls k.cs.s rfl ?_;walk_at"";refine CG Y.fZ (Fu k0 (by rw [Tb];omega)) ?_;rw [show (st.map V.int).set D.toNat (.int place)=(st.set D.toNat place).map V.int from (UU ..).symm];generalize lV:upd H1 O (.lst ((st.set D.toNat place).map V.int))=H2;have x2:∀ {b o},b≠O->H1 b=some o->H2 b=some o:=λh e=>by rw [<- lV,Ap h];exact e
   have e2:H2 O=some (.lst ((st.set D.toNat place).map V.int)):=lV▸Ai;have fu:=x2 (L k.fZ) g5;walk_at"";refine AF p C dx _ _ rfl fu cls k.cs.w rfl ?_;walk_at"";refine Bc rw _ D _ rfl rfl k0 (.of (x2 (Tu d1) Y.hw)) (FW k0 (by omega)) ?_;walk_at"";refine CG (x2 (Tu d1) Y.hw) (Fu k0 (by rw [Tb];omega)) ?_;rw [show (wt.map V.int).set D.toNat (.int (wt.getD D.toNat 0+(place - st.getD D.toNat 0) % B))=(wt.set D.toNat (wt.getD D.toNat 0+(place - st.getD D.toNat 0) % B)).map V.int from (UU ..).symm];generalize lX:upd H2 rw (.lst ((wt.set D.toNat (wt.getD D.toNat 0+(place - st.getD D.toNat 0) % B)).map V.int))=H3;have x3:∀ {b o},b≠rw->H2 b=some o->H3 b=some o:=λh e=>by rw [<- lX,Ap h];exact e
   have e3:H3 rw=some (.lst ((wt.set D.toNat (wt.getD D.toNat 0+(place - st.getD D.toNat 0) % B)).map V.int)):=lX▸Ai;have lY:=x3 (L k.hw) fu;have y3:∀ {b o},b≠O->b≠rw->H1 b=some o->H3 b=some o:=λh h' e=>x3 h' (x2 h e);have R3:Cp K a H3 p C I rb J hs js ts:=⟨⟨dx,_,lY,F3⟩,k.cs.c,y3 a3 a4 Y.ha,y3 b2 b3 Y.hb,y3 c1 c2 Y.hc,a1,a2,b1,k.lj,k.lt,k.z⟩;walk_at"";refine DG lY (F3.m _ (by decide)) ?_;walk_at"";refine ⟨p,D,.int place,C,I,rb,J,hs,js,ts,rfl,R3,k0,k1,?_⟩;generalize ka:upd (upd H3 I (.lst (hs.set D.toNat (.int place)))) J (.lst ((ts.set D.toNat (ts.getD D.toNat 0+1)).map V.int))=H4;have x4:∀ {b o},b≠I->b≠J->H3 b=some o->H4 b=some o:=λh h' e=>by rw [<- ka,Ap h',Ap h];exact e
   have e4a:H4 I=some (.lst (hs.set D.toNat (.int place))):=by rw [<- ka,Ap a2,Ai]
   have e4c:H4 J=some (.lst ((ts.set D.toNat (ts.getD D.toNat 0+1)).map V.int)):=ka▸Ai;have kb:=x4 (L k.ha) (L k.hc) lY;have qg:=x4 (Tu a3) (Tu c1) (x3 d1 e2);have e4w:=x4 (Tu a4) (Tu c2) e3;walk_at"";refine AF p C dx _ _ rfl kb cls k.cs.s rfl ?_;walk_at"";refine Tg (B2 _ _ rfl (.inl (.of qg)) ?_);rw [Tb,Td,ls];walk_at"";refine Bc p C dx _ rfl kb cls k.cs.m (by show 7<1000;decide) ?_;walk_at"";refine ⟨Av,λt nt=>?_⟩;have v5:∀ {b o},b≠p->H4 b=some o->(upd (upd H4 p (.ins C dx (Fw I rb J B O rw ((D+1) % hs.length)))) t (.tup [.int D,.int ((place - st.getD D.toNat 0) % B)])) b=some o:=λ{b o} h e=>by
    have e':(upd H4 p (.ins C dx (Fw I rb J B O rw ((D+1) % hs.length)))) b=some o:=by rw [Ap h];exact e
    rw [Ap (BK e' nt)];exact e'
   have qh:p≠t:=BK (show (upd H4 p (.ins C dx (Fw I rb J B O rw ((D+1) % hs.length)))) p=some _ from Ai) nt;refine q _ t (λb o hb e=>?_) ?_ Ai ⟨⟨dx,by rw [Ap qh];exact Ai⟩,k.cs,v5 (L k.ha).symm e4a,v5 (L k.hb).symm (x4 (Tu a1) b1 (y3 b2 b3 Y.hb)),v5 (L k.hc).symm e4c,v5 (L k.fZ).symm qg,v5 (L k.hw).symm e4w,k.ap,
    by rw [Td];exact k.lj,by rw [Td,Td];exact k.lt,by rw [Td,Td];exact k.ls,by rw [Td,Td];exact k.lw,by rw [Td];exact k.z⟩
   .simp only [Tq,Ue,or_false,not_or] at hb;obtain ⟨n1,n2,n3,n4,n5⟩:=hb;exact v5 n1 (x4 n2 n3 (y3 n4 n5 (s1 _ _ e)))
   .cases z:H t with
    | none=>rfl
    | some o =>
     have e1:=s1 _ _ z;exfalso
     have e4':H4 t≠none:=ka▸Jj (Jj (lX▸Jj (lV▸Jj (by rw [e1];simp))));rw [Ap qh.symm] at nt;exact e4' nt
abbrev AN:=List (Addr×HO)
structure At (H:Hp)(C:AN):Prop where
 at_:∀ c∈C,H c.1=some c.2
 nd:(C.map (·.1)).Nodup
noncomputable def F6:HO->Bool
 | .tup _=>true
 | .aM _ _=>true
 | _=>false
structure Ah (H H':Hp):Prop where
 f:∀ b o,F6 o=true->H b=some o->H' b=some o
section
variable {H H' qi:Hp}{C C' P M M' R:AN}{a b:Addr}{o o' u:HO}{ws:List Addr}{α:Type}{l:List α}{f:α->AN}{i:Nat}{x y:α}
theorem Ah.of (s:Ag H H'):Ah H H':=⟨λb o _ e=>s _ _ e⟩
theorem Ah.refl:Ah H H:=⟨λ_ _ _ e=>e⟩
theorem Ah.trans (s:Ah H H')(t:Ah H' qi):Ah H qi:=⟨λb o i e=>t.f _ _ i (s.f _ _ i e)⟩
theorem Ah.t {ys:List V}(s:Ah H H')(e:H b=some (.tup ys)):H' b=some (.tup ys):=s.f _ _ rfl e
theorem Ah.sq {K:S3}{xs:List V}(s:Ah H H')(h:Bh K H a xs):Bh K H' a xs:=by
 rcases h with (h | ⟨o,h⟩) | h
 .exact .inl (.inl (s.f _ _ rfl h))
 .exact .inl (.inr ⟨o,s.f _ _ rfl h⟩)
 .exact .inr h
mutual
noncomputable def Cr:PyData->Bool
 | .list _=>false
 | .dict _=>false
 | .tuple ds=>b7 ds
 | _=>true
noncomputable def b7:List PyData->Bool
 | []=>true
 | d :: ds=>Cr d && b7 ds
end
mutual
theorem Is.ag {K:S3}:∀(d:PyData){x:V},Cr d=true->Is K H x d->Ah H H'->Is K H' x d
 | .none,_,_,r,_=>by cases r;exact .aa
 | .bool _,_,_,r,_=>by cases r;exact .bl _
 | .int _,_,_,r,_=>by cases r;exact .int _
 | .str _,_,_,r,_=>by cases r;exact .str _
 | .list ds,_,n,r,e=>by cases n
 | .tuple ds,_,n,r,e=>by cases r with | tup B D=>exact .tup (e.sq B) (aS.ag ds n D e)
 | .dict _,_,_,r,_=>nomatch r
theorem aS.ag {K:S3}:∀(ds:List PyData){xs:List V},b7 ds=true->aS K H xs ds->Ah H H'->aS K H' xs ds
 | [],_,_,r,_=>by cases r;exact .nil
 | d :: ds,_,n,r,e=>by
  have n:(Cr d && b7 ds)=true:=n;rw [UK] at n;cases r with | cons B D=>exact .cons (Is.ag d n.1 B e) (aS.ag ds n.2 D e)
end
theorem At.same (t:At H C)(s:Ag H H'):At H' C:=⟨λc m=>s _ _ (t.at_ c m),t.nd⟩
theorem At.perm (t:At H C)(p:C'.Perm C):At H C':=⟨λc m=>t.at_ c (p.mem_iff.mp m),(p.map _).nodup_iff.mpr t.nd⟩
theorem At.swap (t:At H (P++(M++R))):At H (M++(P++R)):=t.perm (by rw [<- TM,<- TM];exact List.Perm.append_right R List.perm_append_comm)
theorem At.get (t:At H C)(m:(a,o)∈C):H a=some o:=t.at_ _ m
theorem At.hd (t:At H ((a,o) :: C)):H a=some o:=t.at_ _ T9
theorem At.tl (t:At H ((a,o) :: C)):At H C:=⟨λc m=>t.at_ c (T1 _ m),(TV.mp t.nd).2⟩
theorem At.right (t:At H (P++R)):At H R:=⟨λc m=>t.at_ c (T3 _ m),by have:=t.nd;rw [TQ] at this;exact (VX.mp this).2.1⟩
theorem At.left (t:At H (P++R)):At H P:=⟨λc m=>t.at_ c (Ww _ m),by have:=t.nd;rw [TQ] at this;exact (VX.mp this).1⟩
theorem At.free (t:At H C)(n:H b=none):b ∉ C.map (·.1):=λm=>by
 obtain ⟨c,mc,rfl⟩:=Tr.mp m;rw [t.at_ c mc] at n;cases n
theorem At.new (t:At H C)(n:H b=none):At (upd H b u) ((b,u) :: C):=by
 refine ⟨λc m=>?_,TV.mpr ⟨t.free n,t.nd⟩⟩;rcases Tq.mp m with rfl | m
 .exact Ai
 .rw [Ap (λz=>t.free n (Tr.mpr ⟨c,m,z⟩))];exact t.at_ c m
theorem At.lZ (t:At H ((a,o) :: R)):At (upd H a o') ((a,o') :: R):=by
 have nd:=TV.mp t.nd;refine ⟨λc m=>?_,t.nd⟩;rcases Tq.mp m with rfl | m
 .exact Ai
 .rw [Ap (λz=>nd.1 (Tr.mpr ⟨c,m,z⟩))];exact t.at_ c (T1 _ m)
theorem At.front (t:At H (P++(a,o) :: R)):At H ((a,o) :: (P++R)):=t.perm (Zc.symm)
theorem At.back (t:At H ((a,o) :: (P++R))):At H (P++(a,o) :: R):=t.perm Zc
theorem At.set (t:At H (P++(a,o) :: R)):At (upd H a o') (P++(a,o') :: R):=t.front.lZ.back
theorem At.part (t:At H (M++R))(s:Ca ws H H')(sub:∀ w∈ws,w∈M.map (·.1))(e:M'.map (·.1)=M.map (·.1))(h:∀ c∈M',H' c.1=some c.2):At H' (M'++R):=by
 have nd:=t.nd;rw [TQ] at nd;obtain ⟨D,I,B⟩:=VX.mp nd;refine ⟨λc m=>?_,by rw [TQ,e];exact nd⟩;rcases Ut.mp m with m | m
 .exact h c m
 .exact s _ _ (λz=>B _ (sub _ z) _ (Tr.mpr ⟨c,m,rfl⟩) rfl) (t.at_ c (T3 _ m))
theorem At.ag (t:At H C)(s:Ca ws H H')(sub:∀ w∈ws,w∈C.map (·.1))(k:∀ c∈C,F6 c.2=false):Ah H H':=⟨λb o i e=>s _ _ (λm=>by
 obtain ⟨c,mc,B⟩:=Tr.mp (sub b m);have h:=t.at_ c mc;rw [B,e] at h;have:=k c mc;rw [<- Ts h,i] at this;cases this) e⟩
theorem Ah.chg (t:H a=some o)(k:F6 o=false):Ah H (upd H a u):=⟨λb v i e=>by
 rw [Ap (λz=>by rw [z,t] at e;rw [<- Ts e,k] at i;cases i)];exact e⟩
theorem Ah.new (n:H a=none):Ah H (upd H a u):=.of ((Ag.refl H).upd n)
theorem PV (h:l[i]?=some x):l.flatMap f=(l.take i).flatMap f++(f x++(l.drop (i+1)).flatMap f):=by
 obtain ⟨B,ex⟩:=TH.mp h;conv=>lhs;rw [<- ua i l,List.drop_eq_getElem_cons B,ex]
 rw [Zd,List.flatMap_cons]
theorem Ae0 (h:i<l.length):(l.set i y).flatMap f=(l.take i).flatMap f++(f y++(l.drop (i+1)).flatMap f):=by rw [PV (l:=l.set i y) (x:=y) (by rw [T6 h]),List.take_set_of_le (Ti i),List.drop_set_of_lt (WU i)]
theorem At.pick (t:At H (P++(l.flatMap f++R)))(h:l[i]?=some x):At H (f x++(P++((l.take i).flatMap f++((l.drop (i+1)).flatMap f++R)))):=by rw [PV h,TM,TM,<- TM P] at t;have:=t.swap;rw [TM] at this;exact this
theorem At.put (t:At H (f y++(P++((l.take i).flatMap f++((l.drop (i+1)).flatMap f++R)))))(h:i<l.length):At H (P++((l.set i y).flatMap f++R)):=by rw [Ae0 h,TM,TM,<- TM P];rw [<- TM P] at t;exact t.swap
end
structure TxtP (K:S3)(mg:Str->Option Value)(a:Ak):Prop extends Txt K mg a where
 qj:mg "all"=none
 ft:mg "list"=none
 iQ:mg "tuple"=none
 f9:mg "sorted"=none
 qk:mg "set"=none
 aaO:mg "min"=none
 ql:∃ t,mg "SIGNS"=some (Uj "0123456789" t)
 qm:∃ t,mg "LEAST_LONG"=some (Uw 2 t)
 qo:∃ t,mg "MOST_LONG"=some (Uw 4 t)
 qp:∃ t,mg "MOST_LINES"=some (Uw 60 t)
 qq:∃ t,mg "MOST_SEEKERS"=some (Uw 60 t)
 qr:∃ t,mg "MOST_GROUPS"=some (Uw 40 t)
 qv:∃ t,mg "MOST_SWITCHES"=some (Uw 10 t)
 cM:mg "BadPlan"=some (.ref a.fq)
 dE:UR K a.fq [.type "ValueError",.type "Exception",.type "BaseException",.type "object"] "ValueError.__new__"=true
noncomputable def G7 (c:Nat):Bool:=decide (48<=c) && decide (c<=57)
theorem PX {c:Nat}:G7 c=true↔48<=c/\c<=57:=by unfold G7;rw [UK,decide_eq_true_eq,decide_eq_true_eq]
theorem Ae1:∀ c:Nat,c<128->FV ⟨#[c]⟩ "0123456789"=G7 c:=by decide +kernel
theorem PY {z:Str}(h:CA z):z.cps.all (·<128)=true:=by rw [<- ue,WI];intro c hc;exact decide_eq_true (h c hc)
def LC:Sp:=λvs H Q _=>∃ z:Str,vs=[.str z]/\CA z/\z.length<=1000/\∀ b H',(b=true↔C8 z)->Ag H H'->Q (.bl b) H'
def PZ (a:Ak):Sp:=λvs H Q E=>∃ long bQ:Int,vs=[.int long,.int bQ]/\(2<=long/\long<=4/\1<=bQ/\bQ<=60->Q .aa H)/\(¬ (2<=long/\long<=4/\1<=bQ/\bQ<=60)->E (.ref a.fq) none H)
theorem P0:AO ["text"] ["text"] (Ac (top 11)):=.of
theorem Ae2:Nm (Ac (top 11)) "text":=.of
theorem Ae3:Gm (Ac (top 11)) "all":=.of
noncomputable def LD:Scope:={ kind:=.function,names:=[(".0",.local),("sign",.local),("SIGNS",.globalImplicit)],isGenerator:=false,isCoroutine:=false,more:=[] }
theorem P6:Bu LD (Ac (top 11)) ["sign"] ["text"] [none]:=Bu.mk' rfl (by decide +kernel) (by decide +kernel) (by decide +kernel) (by decide +kernel) rfl (by decide +kernel)
theorem P7:Nm LD "sign":=.of
theorem Ae4:Gm LD "SIGNS":=.of
theorem Ae5 (F:AJ K "are_figures" "are_figures" (top 11) f fd)(T:TxtP K mg a):AB P w K mg base AE 1 f fd ["text"] LC:=by
 refine F.ok P0 λak A outer s H vs Q E hr h=>?_
 .obtain ⟨z,rfl,Y,hl,q⟩:=h;have nd:=P0.nd;refine ⟨_,(@Am _ _ _ (AM (BH (Adb rfl) Ae3 T.qj AcC (Ab (FZ rfl P6 (Od (Aa 0 Ae2)) (λI C fp pins s₂ H₂=>(Bo 0 P6.nd P7.comp)) (λI C fp pins s₂ H₂=>EG) (λI C fp pins s₂ H₂=>(CZ (AcW K rfl) (Aa 0 P7.comp) (G0 Ae4.comp T.ql) (by with_unfolding_all rfl)))) Af)))),?_⟩;try dsimp only [aD,aE]
  walk_at"";refine ⟨PY Y,λD hD=>?_⟩;have ll:z.cps.toList.length<=1000:=by rw [<- I0];exact hl
  refine AdH (z:=z) (λi σ B=>∃ x,σ=[x]/\Ag H B/\B D=some (.lst (((z.cps.toList.take i).map G7).map V.bl))) ⟨none,rfl,(Ag.refl H).upd hD,Ai⟩ ?_ ?_
  .intro i c σ B hc L;obtain ⟨x,rfl,O,J⟩:=L;have I:c<128:=Y c (Tz hc);walk_at"";refine ⟨_,J,?_,_,rfl,O.cK hD,?_⟩
   .rw [Tb,Tb,UZ,Tc];omega
   .have e:V.bl (FV ⟨#[c]⟩ "0123456789")=V.bl (G7 c):=by rw [Ae1 c I]
    rw [Ai,Vg,hc,TQ,TQ];show some (HO.lst (_++[V.bl (FV ⟨#[c]⟩ "0123456789")]))=_;rw [e];rfl
  .intro σ B L;obtain ⟨x,rfl,O,J⟩:=L;rw [Vh] at J;refine DH D _ rfl ⟨.of J,q _ B ?_ O⟩;rw [List.all_map,WI];exact ⟨λh c hc=>PX.mp (h c hc),λh c hc=>PX.mpr (h c hc)⟩
theorem Ae6:AO ["long","seekers"] ["long","seekers"] (Ac (top 36)):=.of
theorem Ae7:Nm (Ac (top 36)) "long":=.of
theorem Ae8:Nm (Ac (top 36)) "seekers":=.of
theorem P8:Gm (Ac (top 36)) "within":=.of
theorem Ae9:Gm (Ac (top 36)) "MOST_SEEKERS":=.of
theorem P9:Gm (Ac (top 36)) "BadPlan":=.of
theorem Afa:Gm (Ac (top 36)) "MOST_LONG":=.of
theorem Afb:Gm (Ac (top 36)) "LEAST_LONG":=.of
theorem Afc (F:AJ K "check_counts" "check_counts" (top 36) f fd)(T:TxtP K mg a)(I:B8 P w K mg base AE 1 "within" ["number","least","most"] F5):AB P w K mg base (AH P w) 2 f fd ["long","seekers"] (PZ a):=by
 refine F.bb Ae6 λV A outer s H vs Q E J h=>?_
 .obtain ⟨l,k,rfl,O,L⟩:=h;refine ⟨_,(@Aj _ _ _ _ _ (AY (Dv (Dk (B9 I P8 J.d A5 (Ab (Aa 0 Ae7) (Ab (F0 Afb T.qm) (Ab (F0 Afa T.qo) Af)))))) (Am (CM CL P9 rfl T.dE T.cM (Ab Aq Af))) A4)
    (Am (AY (Dv (Dk (B9 I P8 J.d A5 (Ab (Aa 1 Ae8) (Ab Az (Ab (F0 Ae9 T.qq) Af)))))) (Am (CM CL P9 rfl T.dE T.cM (Ab Aq Af))) A4))),?_⟩
  try dsimp only [aD,aE]
  walk_at"";refine B7 l 2 4 rfl ?_;walk_at"";by_cases B:2<=l/\l<=4
  .rw [decide_eq_true B.1,decide_eq_true B.2];refine Ci ?_;walk_at"";refine B7 k 1 60 rfl ?_;walk_at"";by_cases D:1<=k/\k<=60
   .rw [decide_eq_true D.1,decide_eq_true D.2];refine Ci ?_;exact O ⟨B.1,B.2,D.1,D.2⟩
   .have e:(decide (1<=k) && decide (k<=60))=false:=Wm.mpr λz=>D (by simpa using z);rw [e];refine Cn ?_;walk_at"";exact ⟨Av,L λz=>D z.2.2⟩
  .have e:(decide (2<=l) && decide (l<=4))=false:=Wm.mpr λz=>B (by simpa using z);rw [e];refine Cn ?_;walk_at"";exact ⟨Av,L λz=>B ⟨z.1,z.2.1⟩⟩
def Ok (z:Str):Prop:=CA z/\z.length<=20
def LF (long:Int)(zs:List Str):Prop:=(1<=zs.length/\zs.length<=60)/\(∀ z∈zs,(z.length:Int)=long/\C8 z)/\zs.Nodup
def Qa (a:Ak)(K:S3):Sp:=λvs H Q E=>∃(long:Int)(p:Addr)(zs:List Str),vs=[.int long,.ref p]/\0<=long/\long<=1000/\H p=some (.lst (zs.map V.str))/\(∀ z∈zs,Ok z)/\zs.length<2000/\(LF long zs->∀ H',Ag H H'->Q .aa H')/\(¬ LF long zs->∀ H',Ag H H'->E (.ref a.fq) none H')
theorem G8 {z:Str}(h:Ok z):(YO z).length<=1000:=by
 have B:=StrLaws.reprText_len z λc hc=>by have:=h.1 c hc;omega
 have:=h.2;omega
theorem Qb {α:Type}{xs:List α}{i:Nat}{x:α}{R:α->Prop}(h:xs[i]?=some x)(d:∀ y∈xs.take i,R y)(hx:R x):∀ y∈xs.take (i+1),R y:=by
 rw [Vg,h];intro y hy;rcases Ut.mp hy with z | z
 .exact d y z
 .have:y=x:=by simpa using z
  rw [this];exact hx
theorem Qc:AO ["long","lines","number"] ["long","lines"] (Ac (top 37)):=.of
theorem Qd:Nm (Ac (top 37)) "long":=.of
theorem Jk:Nm (Ac (top 37)) "lines":=.of
theorem Jl:Nm (Ac (top 37)) "number":=.of
theorem Jm:Gm (Ac (top 37)) "len":=.of
theorem Afd:Gm (Ac (top 37)) "set":=.of
theorem LG:Gm (Ac (top 37)) "BadPlan":=.of
theorem Afe:Gm (Ac (top 37)) "are_figures":=.of
theorem Afg:Gm (Ac (top 37)) "within":=.of
theorem Afh:Gm (Ac (top 37)) "MOST_LINES":=.of
theorem Afi (F:AJ K "check_lines" "check_lines" (top 37) f fd)(T:TxtP K mg a)(bX:B8 P w K mg base AE 1 "within" ["number","least","most"] F5)(g8:B8 P w K mg base AE 1 "are_figures" ["text"] LC) :
  AB P w K mg base (AH P w) 2 f fd ["long","lines"] (Qa a K):=by
 refine F.bb Qc λak A outer s H vs Q E hr h=>?_
 .obtain ⟨J,p,zs,rfl,l0,l1,hp,ok,aC,q1,q2⟩:=h;have hu:=hr.units;have nd:=Qc.nd;refine ⟨_,(@Aj _ _ _ _ _ (AY (Dv (Dk (B9 bX Afg hr.d A5 (Ab (BH Cy Jm T.n_len Cj (Ab (Aa 1 Jk) Af)) (Ab Az (Ab (F0 Afh T.qp) Af)))))) (Am (CM CL LG rfl T.dE T.cM (Ab Aq Af))) A4)
    (Aj (DF Ze rfl (Eb (Aa 1 Jk)) (Bo 2 nd Jl) (Am (AY (PW.pt (Gu (AZ (EF hu) (BH Cy Jm T.n_len Cj (Ab (Aa 2 Jl) Af)) (Aa 0 Qd) (AW _)) (Gs (Dv (Dk (B9 g8 Afe hr.d A5 (Ab (Aa 2 Jl) Af))))))) (Am (CM CL LG rfl T.dE T.cM (Ab (Fo (Cb (GO (Aa 2 Jl)) (Cb Aq (Cb (GW (Aa 0 Qd)) (Cb Aq Fn))))) Af))) A4)))
    (Am (AY (AZ (EF hu) (BH (OZ (w:=w) rfl) Jm T.n_len Cj (Ab (C6 (Adx (w:=w) rfl rfl) Afd T.qk AcB (Ab (Aa 1 Jk) Af)) Af)) (BH Cy Jm T.n_len Cj (Ab (Aa 1 Jk) Af)) (AW _)) (Am (CM CL LG rfl T.dE T.cM (Ab Aq Af))) A4)))),?_⟩
  try dsimp only [aD,aE]
  walk_at"";refine Tg (B2 _ _ rfl (.inl (.of hp)) ?_);rw [Tb];walk_at"";refine B7 _ 1 60 rfl ?_;walk_at"";by_cases h1:1<=zs.length/\zs.length<=60
  .have e1:(decide (1<=(zs.length:Int)) && decide ((zs.length:Int)<=60))=true:=by simp;omega
   rw [e1];refine Ci ?_;walk_at"";refine ⟨⟨_,.of hp⟩,FO (K:=K) (a:=p) (xs:=zs.map V.str) (λi σ O=>∃ x,σ=[some (.int J),some (.ref p),x]/\Ag H O/\∀ z∈zs.take i,(z.length:Int)=J/\C8 z) ⟨none,rfl,Ag.refl H,λz hz=>absurd hz (by simp)⟩ (λi σ O _ ⟨_,_,L,_⟩=>.of (L _ _ hp)) ?_ ?_⟩
   .intro i y σ O hi zq;obtain ⟨x,rfl,L,dn⟩:=zq;rw [Tp] at hi;cases hk:zs[i]? with
    | none=>rw [hk] at hi;cases hi
    | some z =>
     rw [hk] at hi;cases hi;have hz:=ok z (Tz hk);have zl:z.length<=20:=hz.2;walk_at"";refine Tw (GG z rfl (by rw [Tc];omega) ?_);walk_at"";have B:Ua.length=0:=rfl;have D:(S9 " is no number of ").length=17:=by decide +kernel
     have I:(S9 " figures").length=8:=by decide +kernel
     have g9:=G8 hz;by_cases he:(z.length:Int)=J
     .rw [decide_eq_true (congrArg V.int he)];refine Ci ?_;walk_at"";refine ⟨hz.1,by omega,λb H3 hb Y=>?_⟩;walk_at"";cases b with
      | true =>
       refine Ci ?_;exact ⟨_,rfl,L.trans Y,Qb hk dn ⟨he,hb.mp rfl⟩⟩
      | false =>
       refine Cn ?_;walk_at"";refine ⟨(by simp only [A9,B,D,I,Tc];omega),?_⟩;walk_at"";refine ⟨(by simp only [A9,B,D,I,Tc];omega),?_⟩;walk_at"";refine ⟨(by simp only [A9,B,D,I,Tc];omega),?_⟩;walk_at"";refine Tw (EE _ rfl ⟨l0,l1,λu l8=>?_⟩);walk_at"";refine ⟨(by simp only [A9,B,D,I,Tc];omega),?_⟩;walk_at"";refine ⟨(by simp only [A9,B,D,I,Tc];omega),?_⟩;refine ⟨(by simp only [A9,B,D,I,Tc];omega),?_⟩;exact ⟨Av,q2 (λk=>by have:=hb.mpr (k.2.1 z (Tz hk)).2;cases this) H3 (L.trans Y)⟩
     .rw [decide_eq_false (λk=>he (V.int.inj k))];refine Cn ?_;walk_at"";refine ⟨(by simp only [A9,B,D,I,Tc];omega),?_⟩;walk_at"";refine ⟨(by simp only [A9,B,D,I,Tc];omega),?_⟩;walk_at"";refine ⟨(by simp only [A9,B,D,I,Tc];omega),?_⟩;walk_at"";refine Tw (EE _ rfl ⟨l0,l1,λu l8=>?_⟩);walk_at"";refine ⟨(by simp only [A9,B,D,I,Tc];omega),?_⟩;walk_at"";refine ⟨(by simp only [A9,B,D,I,Tc];omega),?_⟩;refine ⟨(by simp only [A9,B,D,I,Tc];omega),?_⟩;exact ⟨Av,q2 (λk=>he (k.2.1 z (Tz hk)).1) O L⟩
   .intro σ O zq;obtain ⟨x,rfl,L,dn⟩:=zq;rw [Tb,Vh] at dn;walk_at"";refine Ef p zs rfl (.of (L _ _ hp)) aC (λl hl=>?_);have Y:Ag H (upd O l (BY w l zs)):=L.upd hl;refine B2 l zs rfl Ai (λn hn=>?_);walk_at"";refine Tg (B2 _ _ rfl (.inl (.of (Y _ _ hp))) ?_);rw [Tb];walk_at"";by_cases hd:zs.Nodup
    .rw [decide_eq_true (congrArg (λk:Nat=>V.int k) (hn.mpr hd))];refine Ci ?_;exact q1 ⟨h1,dn,hd⟩ _ Y
    .have ne:¬ (V.int n=V.int zs.length):=λk=>hd (hn.mp (by have:=V.int.inj k;omega));rw [decide_eq_false ne];refine Cn ?_;walk_at"";exact ⟨Av,q2 (λk=>hd k.2.2) _ Y⟩
  .have e1:(decide (1<=(zs.length:Int)) && decide ((zs.length:Int)<=60))=false:=Wm.mpr λz=>h1 (by simp at z;omega);rw [e1];refine Cn ?_;walk_at"";exact ⟨Av,q2 (λz=>h1 z.1) H (Ag.refl H)⟩
def LH (long:Int)(ts:List Pr):Prop:=ts.length<=40/\(∀ t∈ts,(1<=(t.2.1.length:Int)/\(t.2.1.length:Int)<=long - 2)/\C8 t.2.1/\0<=t.2.2/\t.2.2<=10)/\(ts.map (·.2.1)).Nodup
def Qe (a:Ak):Sp:=λvs H Q E=>∃(long:Int)(p:Addr)(ts:List Pr),vs=[.int long,.ref p]/\0<=long/\long<=1000/\H p=some (.lst (ts.map BA))/\D1 H ts/\(∀ t∈ts,Ok t.2.1)/\ts.length<2000/\(LH long ts->∀ H',Ag H H'->Q .aa H')/\(¬ LH long ts->∀ H',Ag H H'->E (.ref a.fq) none H')
theorem Qf:AO ["long","groups","prefix","many"] ["long","groups"] (Ac (top 38)):=.of
theorem Qg:Nm (Ac (top 38)) "long":=.of
theorem Jn:Nm (Ac (top 38)) "groups":=.of
theorem Jo:Nm (Ac (top 38)) "prefix":=.of
theorem Qh:Nm (Ac (top 38)) "many":=.of
theorem Jp:Gm (Ac (top 38)) "len":=.of
theorem Jq:Gm (Ac (top 38)) "BadPlan":=.of
theorem Qi:Gm (Ac (top 38)) "within":=.of
theorem Afj:Gm (Ac (top 38)) "MOST_SWITCHES":=.of
theorem Afk:Gm (Ac (top 38)) "are_figures":=.of
theorem Afl:Gm (Ac (top 38)) "MOST_GROUPS":=.of
noncomputable def LJ:Scope:={ kind:=.function,names:=[(".0",.local),("prefix",.local),("many",.local)],isGenerator:=false,isCoroutine:=false,more:=[] }
theorem LK:Bu LJ (Ac (top 38)) ["prefix","many"] ["long","groups","prefix","many"] [none,none]:=Bu.mk' rfl (by decide +kernel) (by decide +kernel) (by decide +kernel) (by decide +kernel) rfl (by decide +kernel)
theorem Qj:Nm LJ "prefix":=.of
theorem Afm:Nm LJ "many":=.of
theorem Afn (F:AJ K "check_groups" "check_groups" (top 38) f fd)(T:TxtP K mg a)(bX:B8 P w K mg base AE 1 "within" ["number","least","most"] F5)(g8:B8 P w K mg base AE 1 "are_figures" ["text"] LC) :
  AB P w K mg base (AH P w) 2 f fd ["long","groups"] (Qe a):=by
 refine F.bb Qf λak A outer s H vs Q E hr h=>?_
 .obtain ⟨B,p,ts,rfl,l0,l1,hp,lay,ok,aC,q1,q2⟩:=h;have hu:=hr.units;have nd:=Qf.nd;refine ⟨_,(@Aj _ _ _ _ _ (AY (AZ Ik (BH Cy Jp T.n_len Cj (Ab (Aa 1 Jn) Af)) (F0 Afl T.qr) (AW _)) (Am (CM CL Jq rfl T.dE T.cM (Ab Aq Af))) A4)
    (Aj (DF Ze rfl (Eb (Aa 1 Jn)) (Ey rfl (B5 (Bo 2 nd Jo) (B5 (Bo 3 nd Qh) DD))) (Aj (AY (PW.pt (Gu (Dv (Dk (B9 bX Qi hr.d A5 (Ab (BH Cy Jp T.n_len Cj (Ab (Aa 2 Jo) Af)) (Ab Az (Ab (AR GB (Aa 0 Qg) Az) Af)))))) (Gs (Dv (Dk (B9 g8 Afk hr.d A5 (Ab (Aa 2 Jo) Af))))))) (Am (CM CL Jq rfl T.dE T.cM (Ab (Fo (Cb (GO (Aa 2 Jo)) (Cb Aq (Cb (GW (Aa 0 Qg)) (Cb Aq Fn))))) Af))) A4)
     (Am (AY (Dv (Dk (B9 bX Qi hr.d A5 (Ab (Aa 3 Qh) (Ab Az (Ab (F0 Afj T.qv) Af)))))) (Am (CM CL Jq rfl T.dE T.cM (Ab Aq Af))) A4))))
    (Am (AY (AZ (EF hu) (BH (OZ (w:=w) rfl) Jp T.n_len Cj (Ab (AdG (w:=w) rfl rfl LK (Eb (Aa 1 Jn)) (λcl C fp pins s₂ H₂=>(IG (X:=AS _ _ _ cl C fp pins s₂ H₂) K rfl 2 rfl (B5 (Bo 0 LK.nd Qj.comp) (B5 (Bo 1 LK.nd Afm.comp) DD)) rfl rfl)) (λcl C fp pins s₂ H₂=>EG) (λcl C fp pins s₂ H₂=>(Aa 0 Qj.comp))) Af)) (BH Cy Jp T.n_len Cj (Ab (Aa 1 Jn) Af)) (AW _)) (Am (CM CL Jq rfl T.dE T.cM (Ab Aq Af))) A4)))),?_⟩
  try dsimp only [aD,aE]
  walk_at"";refine Tg (B2 _ _ rfl (.inl (.of hp)) ?_);rw [Tb];walk_at"";by_cases h1:(ts.length:Int) > 40
  .refine B6 (decide_eq_true h1) ?_;walk_at"";exact ⟨Av,q2 (λz=>by have:=z.1;omega) H (Ag.refl H)⟩
  refine BX (decide_eq_false h1) ?_;walk_at"";refine ⟨⟨_,.of hp⟩,FO (K:=K) (a:=p) (xs:=ts.map BA) (λi σ H2=>∃ x y,σ=[some (.int B),some (.ref p),x,y]/\Ag H H2/\∀ t∈ts.take i,(1<=(t.2.1.length:Int)/\(t.2.1.length:Int)<=B - 2)/\C8 t.2.1/\0<=t.2.2/\t.2.2<=10) ⟨none,none,rfl,Ag.refl H,λz hz=>absurd hz (by simp)⟩ (λi σ H2 _ ⟨_,_,_,I,_⟩=>.of (I _ _ hp)) ?_ ?_⟩
  .intro i y σ H2 Y zq;obtain ⟨x,y',rfl,I,dn⟩:=zq;rw [Tp] at Y;cases hk:ts[i]? with
   | none=>rw [hk] at Y;cases Y
   | some t =>
    rw [hk] at Y;cases Y;have tm:=Tz hk;have hz:=ok t tm;have zl:t.2.1.length<=20:=hz.2;have J:Ua.length=0:=rfl;have L:(S9 " is no prefix where numbers have ").length=33:=by decide +kernel
    have O:(S9 " figures").length=8:=by decide +kernel
    have g9:=G8 hz;refine ⟨t.1,_,rfl,.of (I _ _ (lay t tm)),rfl,?_⟩;walk_at"";refine Tw (GG _ rfl (by rw [Tc];omega) ?_);walk_at"";refine B7 _ 1 (B - 2) rfl ?_;walk_at"";by_cases hw:1<=(t.2.1.length:Int)/\(t.2.1.length:Int)<=B - 2
    .rw [decide_eq_true hw.1,decide_eq_true hw.2];refine Ci ?_;walk_at"";refine ⟨hz.1,by omega,λb H3 hb s3=>?_⟩;walk_at"";cases b with
     | true =>
      refine Ci ?_;walk_at"";refine B7 _ 0 10 rfl ?_;walk_at"";by_cases hm:0<=t.2.2/\t.2.2<=10
      .rw [decide_eq_true hm.1,decide_eq_true hm.2];refine Ci ?_;exact DH _ _ rfl ⟨I.trans s3,Qb hk dn ⟨hw,hb.mp rfl,hm.1,hm.2⟩⟩
      .have e:(decide (0<=t.2.2) && decide (t.2.2<=10))=false:=Wm.mpr λz=>hm (by simpa using z);rw [e];refine Cn ?_;walk_at"";exact ⟨Av,q2 (λk=>hm (k.2.1 t tm).2.2) H3 (I.trans s3)⟩
     | false =>
      refine Cn ?_;walk_at"";refine ⟨(by simp only [A9,J,L,O,Tc];omega),?_⟩;walk_at"";refine ⟨(by simp only [A9,J,L,O,Tc];omega),?_⟩;walk_at"";refine ⟨(by simp only [A9,J,L,O,Tc];omega),?_⟩;walk_at"";refine Tw (EE _ rfl ⟨l0,l1,λu l8=>?_⟩);walk_at"";refine ⟨(by simp only [A9,J,L,O,Tc];omega),?_⟩;walk_at"";refine ⟨(by simp only [A9,J,L,O,Tc];omega),?_⟩;refine ⟨(by simp only [A9,J,L,O,Tc];omega),?_⟩;exact ⟨Av,q2 (λk=>by have:=hb.mpr (k.2.1 t tm).2.1;cases this) H3 (I.trans s3)⟩
    .have e:(decide (1<=(t.2.1.length:Int)) && decide ((t.2.1.length:Int)<=B - 2))=false:=Wm.mpr λz=>hw (by simpa using z);rw [e];refine Cn ?_;walk_at"";refine ⟨(by simp only [A9,J,L,O,Tc];omega),?_⟩;walk_at"";refine ⟨(by simp only [A9,J,L,O,Tc];omega),?_⟩;walk_at"";refine ⟨(by simp only [A9,J,L,O,Tc];omega),?_⟩;walk_at"";refine Tw (EE _ rfl ⟨l0,l1,λu l8=>?_⟩);walk_at"";refine ⟨(by simp only [A9,J,L,O,Tc];omega),?_⟩;walk_at"";refine ⟨(by simp only [A9,J,L,O,Tc];omega),?_⟩;refine ⟨(by simp only [A9,J,L,O,Tc];omega),?_⟩;exact ⟨Av,q2 (λk=>hw (k.2.1 t tm).1) H2 I⟩
  .intro σ H2 zq;obtain ⟨x,y',rfl,I,dn⟩:=zq;rw [Tb,Vh] at dn;walk_at"";have fu:=I _ _ hp;refine ⟨⟨_,.of fu⟩,λD hD=>?_⟩;refine AdI (K:=K) (w:=w) (a:=p) (xs:=ts.map BA) (λi σ H'=>∃ x y,σ=[x,y]/\Ag H2 H'/\H' D=some (BY w D ((ts.take i).map (·.2.1)))) ⟨none,none,rfl,(Ag.refl H2).upd hD,Ai⟩ (λi σ H' _ ⟨_,_,_,sm,_⟩=>.of (sm _ _ (I _ _ hp))) ?_ ?_
   .intro i x σ H' Y zq;obtain ⟨x0,x1,rfl,sm,hL⟩:=zq;rw [Tp] at Y;cases hk:ts[i]? with
    | none=>rw [hk] at Y;cases Y
    | some t =>
     rw [hk] at Y;cases Y;have tm:=Tz hk;refine ⟨t.1,_,rfl,.of (sm _ _ (I _ _ (lay t tm))),rfl,?_⟩;walk_at"";refine DH _ _ rfl ⟨hL,?_,_,_,rfl,sm.cK hD,?_⟩
     .rw [Tb,UZ];omega
     .rw [Ai,Vg,hk,TQ];rfl
   .intro σ H' zq;obtain ⟨x0,x1,rfl,sm,hL⟩:=zq;rw [Tb,Vh] at hL;refine B2 D _ rfl hL (λn hn=>?_);rw [Tb] at hn;walk_at"";have s3:=I.trans sm;refine Tg (B2 _ _ rfl (.inl (.of (s3 _ _ hp))) ?_);rw [Tb];walk_at"";by_cases hd:(ts.map (·.2.1)).Nodup
    .rw [decide_eq_true (congrArg (λk:Nat=>V.int k) (hn.mpr hd))];refine Ci ?_;exact q1 ⟨by omega,dn,hd⟩ _ s3
    .have ne:¬ (V.int n=V.int ts.length):=λk=>hd (hn.mp (by have:=V.int.inj k;omega));rw [decide_eq_false ne];refine Cn ?_;walk_at"";exact ⟨Av,q2 (λk=>hd k.2.2) _ s3⟩
structure Jr (K:S3)(C:Addr):Prop where
 cls:Cg K C
 l:Bw K C "long"
 n:Bw K C "lines"
 s:Bw K C "seekers"
 g:Bw K C "groups"
noncomputable def Js (long:Int)(lt:Addr)(bQ:Int)(gt:Addr):List (Str×V):=[("long",.int long),("lines",.ref lt),("seekers",.int bQ),("groups",.ref gt)]
def LL (long bQ:Int)(zs:List Str)(ts:List Pr):Prop:=(2<=long/\long<=4/\1<=bQ/\bQ<=60)/\LF long zs/\LH long ts
structure Jt (H:Hp)(l g:Addr)(zs:List Str)(ts:List Pr):Prop where
 l:H l=some (.lst (zs.map V.str))
 g:H g=some (.lst (ts.map BA))
 lay:D1 H ts
 qw:∀ z∈zs,Ok z
 qx:∀ t∈ts,Ok t.2.1
 fl:zs.length<2000
 fg:ts.length<2000
theorem Jt.same {H B:Hp}{l g:Addr}{zs:List Str}{ts:List Pr}(p:Jt H l g zs ts)(s:Ag H B):Jt B l g zs ts:=⟨s _ _ p.l,s _ _ p.g,p.lay.same s,p.qw,p.qx,p.fl,p.fg⟩
def Qk (a:Ak)(K:S3):Sp:=λvs H Q E=>∃(p:Addr)(long:Int)(l:Addr)(bQ:Int)(g C dx:Addr)(zs:List Str)(ts:List Pr),vs=[.ref p,.int long,.ref l,.int bQ,.ref g]/\H p=some (.ins C dx [])/\Jr K C/\Jt H l g zs ts /\
 (LL long bQ zs ts->∀(H':Hp)(lt gt:Addr)(ax:List Str)(bW:List Pr),Ca [p] H H'->H' p=some (.ins C dx (Js long lt bQ gt))->H' lt=some (.tup (ax.map V.str))->H' gt=some (.tup (bW.map BA))->ax.Perm zs->ax.Pairwise C7->bW.Perm ts->bW.Pairwise (λx y=>C7 x.2.1 y.2.1)->Q .aa H') /\
 (¬ LL long bQ zs ts->∀ H',Ag H H'->E (.ref a.fq) none H')
theorem Ql:AO ["self","long","lines","seekers","groups"] ["self","long","lines","seekers","groups"] (Ac (Ad (top 35) 0)):=.of
theorem Ju:Nm (Ac (Ad (top 35) 0)) "self":=.of
theorem Jv:Nm (Ac (Ad (top 35) 0)) "long":=.of
theorem Qm:Nm (Ac (Ad (top 35) 0)) "lines":=.of
theorem Qn:Nm (Ac (Ad (top 35) 0)) "seekers":=.of
theorem Qo:Nm (Ac (Ad (top 35) 0)) "groups":=.of
theorem Qp:Gm (Ac (Ad (top 35) 0)) "tuple":=.of
theorem Qq:Gm (Ac (Ad (top 35) 0)) "sorted":=.of
theorem Afo:Gm (Ac (Ad (top 35) 0)) "check_groups":=.of
theorem Afp:Gm (Ac (Ad (top 35) 0)) "check_lines":=.of
theorem Afq:Gm (Ac (Ad (top 35) 0)) "check_counts":=.of
theorem Afr (F:AJ K "__init__" "Plan.__init__" (Ad (top 35) 0) f fd)(T:TxtP K mg a)(l9:B8 P w K mg base (AH P w) 2 "check_counts" ["long","seekers"] (PZ a))(md:B8 P w K mg base (AH P w) 2 "check_lines" ["long","lines"] (Qa a K))(mf:B8 P w K mg base (AH P w) 2 "check_groups" ["long","groups"] (Qe a)) :
  AB P w K mg base (AH P w) 3 f fd ["self","long","lines","seekers","groups"] (Qk a K):=by
 refine F.bb Ql λak A outer s H vs Q E hr h=>?_
 .obtain ⟨p,B,l,bQ,g,C,dx,zs,ts,rfl,hp,J,pt,q1,q2⟩:=h;have hu:=hr.units;have nd:=Ql.nd;refine ⟨_,(@Aj _ _ _ _ _ (Bj (B9 l9 Afq hr.d Bs (Ab (Aa 1 Jv) (Ab (Aa 3 Qn) Af))))
    (Aj (Bj (B9 md Afp hr.d Bs (Ab (Aa 1 Jv) (Ab (Aa 2 Qm) Af))))
    (Aj (Bj (B9 mf Afo hr.d Bs (Ab (Aa 1 Jv) (Ab (Aa 4 Qo) Af))))
    (Aj (Br (Aa 0 Ju) (Aa 1 Jv) rfl)
    (Aj (Br (Aa 0 Ju) (C6 Kt Qp T.iQ Kz (Ab (BH GY Qq T.f9 FY (Ab (Aa 2 Qm) Af)) Af)) rfl)
    (Aj (Br (Aa 0 Ju) (Aa 3 Qn) rfl)
    (Am (Br (Aa 0 Ju) (C6 Kt Qp T.iQ Kz (Ab (BH Adk Qq T.f9 FY (Ab (Aa 4 Qo) Af)) Af)) rfl)))))))),?_⟩
  try dsimp only [aD,aE]
  walk_at"";refine ⟨λhC=>?_,λhC=>q2 (λz=>hC z.1) H (Ag.refl H)⟩;walk_at"";refine B7 B l zs rfl ⟨by omega,by omega,pt.l,pt.qw,pt.fl,λhL H1 s1=>?_,λhL H1 s1=>q2 (λz=>hL z.2.1) H1 s1⟩;have qy:=pt.same s1;walk_at"";refine B7 B g ts rfl ⟨by omega,by omega,qy.g,qy.lay,pt.qx,pt.fg,λhG H2 s2=>?_,λhG H2 s2=>q2 (λz=>hG z.2.2) H2 (s1.trans s2)⟩;have mi:=s1.trans s2;have pt2:=pt.same mi;have fu:=mi _ _ hp;walk_at"";refine Bc p C dx [] rfl fu J.cls J.l (by show 0<1000;decide) ?_;generalize hA:upd H2 p (.ins C dx (An "long" (.int B) []))=O;have xA:Ca [p] H O:=λb o hb e=>by rw [<- hA,Ap (by simpa using hb)];exact mi _ _ e
  have pA:O p=some (.ins C dx [("long",.int B)]):=hA▸Ai;have np:∀ {b xs},H b=some (.lst xs)->b ∉ [p]:=λh z=>by rw [TX.mp z,hp] at h;cases h
  have np':∀ {b xs},H b=some (.tup xs)->b ∉ [p]:=λh z=>by rw [TX.mp z,hp] at h;cases h
  walk_at"";have hl:=hL.1.2;refine Ef l zs rfl (.of (xA _ _ (np pt.l) pt.l)) (by omega) (λl1 D n1 pz so=>?_);have sB:=(Ag.refl O).upd (o:=.lst (D.map V.str)) n1;refine DH l1 (D.map V.str) rfl (Tw ⟨.of Ai,λlt n2=>?_⟩);have sC:=sB.upd (o:=.tup (D.map V.str)) n2;have eC:(upd (upd O l1 (.lst (D.map V.str))) lt (.tup (D.map V.str))) lt=some (.tup (D.map V.str)):=Ai;have fC:O lt=none:=sB.free n2;generalize upd (upd O l1 (.lst (D.map V.str))) lt (.tup (D.map V.str))=HC at sC eC ⊢;walk_at"";refine Bc p C dx _ rfl (sC _ _ pA) J.cls J.n (by show 1<1000;decide) ?_;generalize hD:upd HC p (.ins C dx (An "lines" (.ref lt) [("long",.int B)]))=HD;have mj:lt≠p:=λz=>by rw [z,pA] at fC;cases fC
  have xD:Ca [p] H HD:=λb o hb e=>by rw [<- hD,Ap (by simpa using hb)];exact sC _ _ (xA _ _ hb e)
  have pD:HD p=some (.ins C dx [("long",.int B),("lines",.ref lt)]):=hD▸Ai;have eD:HD lt=some (.tup (D.map V.str)):=by rw [<- hD,Ap mj];exact eC
  walk_at"";refine Bc p C dx _ rfl pD J.cls J.s (by show 2<1000;decide) ?_;generalize hE:upd HD p (.ins C dx (An "seekers" (.int bQ) [("long",.int B),("lines",.ref lt)]))=L;have xE:Ca [p] H L:=λb o hb e=>by rw [<- hE,Ap (by simpa using hb)];exact xD _ _ hb e
  have pE:L p=some (.ins C dx [("long",.int B),("lines",.ref lt),("seekers",.int bQ)]):=hE▸Ai;have eE:L lt=some (.tup (D.map V.str)):=by rw [<- hE,Ap mj];exact eD
  walk_at"";have aaP:D1 L ts:=λt m=>xE _ _ (np' (pt.lay t m)) (pt.lay t m);have hg:=hG.1;refine DH g ts rfl ⟨.of (xE _ _ (np pt.g) pt.g),aaP,hG.2.2,by omega,λl3 I n3 pts so3=>?_⟩;have sF:=(Ag.refl L).upd (o:=.lst (I.map BA)) n3;refine DH l3 (I.map BA) rfl (Tw ⟨.of Ai,λY n4=>?_⟩);have sG:=sF.upd (o:=.tup (I.map BA)) n4;have eG:(upd (upd L l3 (.lst (I.map BA))) Y (.tup (I.map BA))) Y=some (.tup (I.map BA)):=Ai;have fG:L Y=none:=sF.free n4;generalize upd (upd L l3 (.lst (I.map BA))) Y (.tup (I.map BA))=HG at sG eG ⊢;walk_at"";refine Bc p C dx _ rfl (sG _ _ pE) J.cls J.g (by show 3<1000;decide) ?_;have ngt:Y≠p:=λz=>by rw [z,pE] at fG;cases fG
  refine q1 ⟨hC,hL,hG⟩ _ lt Y D I (λb o hb e=>by rw [Ap (by simpa using hb)];exact sG _ _ (xE _ _ hb e)) Ai ?_ ?_ pz so pts so3
  .rw [Ap mj];exact sG _ _ eE
  .rw [Ap ngt];exact eG
structure G9 (K:S3)(C:Addr):Prop where
 cls:Cg K C
 nu:Bw K C "number"
 pl:Bw K C "place"
 he:Bw K C "held"
 st:Bw K C "state"
 di:Bw K C "dialled_so_far"
 pu:Bw K C "pulses"
 fa:Bw K C "far_end"
 wh:Bw K C "why"
noncomputable def Afs (num:Str)(i:Int)(hl:Addr):List (Str×V):=[("number",.str num),("place",.int i),("held",.ref hl)]
noncomputable def BO (num:Str)(i:Int)(hl:Addr)(st ai:Str)(aj:Int)(ah why:V):List (Str×V):=[("number",.str num),("place",.int i),("held",.ref hl),("state",.str st),("dialled_so_far",.str ai),("pulses",.int aj),("far_end",ah),("why",why)]
def F7 (a:Ak):Sp:=λvs H Q _=>∃(p dx:Addr)(num:Str)(i:Int)(hl:Addr)(bo:Str)(fs:List (Str×V)),vs=[.ref p,.str bo]/\H p=some (.ins a.Line dx fs)/\(fs=Afs num i hl\/∃ st ai aj ah why,fs=BO num i hl st ai aj ah why)/\Q .aa (upd H p (.ins a.Line dx (BO num i hl bo "" 0 .aa .aa)))
def Qr (a:Ak):Sp:=λvs H Q _=>∃(p dx:Addr)(num:Str)(i:Int),vs=[.ref p,.str num,.int i]/\H p=some (.ins a.Line dx [])/\∀ l,H l=none->Q .aa (upd (upd H l (.lst [])) p (.ins a.Line dx (BO num i l "rests" "" 0 .aa .aa)))
theorem Aft:AO ["self","state"] ["self","state"] (Ac (Ad (top 21) 1)):=.of
theorem He:Nm (Ac (Ad (top 21) 1)) "self":=.of
theorem Afu:Nm (Ac (Ad (top 21) 1)) "state":=.of
theorem Afv (F:AJ K "turn" "Line.turn" (Ad (top 21) 1) f fd)(lc:G9 K a.Line):AB P w K mg base AE 1 f fd ["self","state"] (F7 a):=by
 refine F.ok Aft λJ A outer s H vs Q E L h=>?_
 .obtain ⟨p,dx,num,i,O,V,fs,rfl,B,D,q⟩:=h;refine ⟨_,(@Aj _ _ _ _ _ (Br (Aa 0 He) (Aa 1 Afu) rfl)
    (Aj (Br (Aa 0 He) Aq rfl)
    (Aj (Br (Aa 0 He) Az rfl)
    (Aj (Br (Aa 0 He) BV rfl)
    (Am (Br (Aa 0 He) BV rfl)))))),?_⟩
  try dsimp only [aD,aE]
  have I:∀ {X},upd H p (.ins a.Line dx X) p=some (.ins a.Line dx X):=Ai;rcases D with rfl | ⟨st,ai,aj,ah,why,rfl⟩;all_goals
   walk_at"";refine Bc p a.Line dx _ rfl B lc.cls lc.st (T8 rfl) ?_;walk_at"";refine Bc p a.Line dx _ rfl Ai lc.cls lc.di (T8 rfl) ?_;rw [D8];walk_at"";refine Bc p a.Line dx _ rfl Ai lc.cls lc.pu (T8 rfl) ?_;rw [D8];walk_at"";refine Bc p a.Line dx _ rfl Ai lc.cls lc.fa (T8 rfl) ?_;rw [D8];walk_at"";refine Bc p a.Line dx _ rfl Ai lc.cls lc.wh (T8 rfl) ?_;rw [D8];exact q
theorem Afw:AO ["self","number","place"] ["self","number","place"] (Ac (Ad (top 21) 0)):=.of
theorem Jw:Nm (Ac (Ad (top 21) 0)) "self":=.of
theorem Afx:Nm (Ac (Ad (top 21) 0)) "number":=.of
theorem Afy:Nm (Ac (Ad (top 21) 0)) "place":=.of
theorem Afz (F:AJ K "__init__" "Line.__init__" (Ad (top 21) 0) f fd)(lc:G9 K a.Line)(J:AK P w K mg base AE 1 a.Line "turn" ["self","state"] (F7 a)):AB P w K mg base AE 2 f fd ["self","number","place"] (Qr a):=by
 refine F.ok Afw λY A outer s H vs Q E L h=>?_
 .obtain ⟨p,dx,num,i,rfl,O,q⟩:=h;have V:=lc.cls;refine ⟨_,(@Aj _ _ _ _ _ (Br (Aa 0 Jw) (Aa 1 Afx) rfl)
    (Aj (Br (Aa 0 Jw) (Aa 2 Afy) rfl)
    (Aj (Br (Aa 0 Jw) (Bx Af) rfl)
    (Am (Bj (AX J V (Aa 0 Jw) L.d A5 (Ab Aq Af))))))),?_⟩
  try dsimp only [aD,aE]
  walk_at"";refine Bc p a.Line dx _ rfl O lc.cls lc.nu (T8 rfl) ?_;walk_at"";refine Bc p a.Line dx _ rfl Ai lc.cls lc.pl (T8 rfl) ?_;rw [D8];walk_at"";refine ⟨Av,λl B=>?_⟩;have pl:p≠l:=λz=>by rw [<- z,Ai] at B;cases B
  walk_at"";refine Bc p a.Line dx _ rfl (by rw [Ap pl];exact Ai) lc.cls lc.he (T8 rfl) ?_;walk_at"";refine Bf p dx _ rfl Ai rfl ?_;walk_at"";refine GI p dx num i l ("rests") _ rfl ⟨Ai,.inl rfl,?_⟩;have D:H l=none:=by rw [Ap pl.symm] at B;exact B
  have e:upd (upd (upd (upd H p (.ins a.Line dx (An "place" (.int i) (An "number" (.str num) [])))) l (.lst [])) p (.ins a.Line dx (An "held" (.ref l) (An "place" (.int i) (An "number" (.str num) []))))) p (.ins a.Line dx (BO num i l "rests" "" 0 .aa .aa))=upd (upd H l (.lst [])) p (.ins a.Line dx (BO num i l "rests" "" 0 .aa .aa)):=by
   funext b
   by_cases h:b=p
   .rw [h,Ai,Ai]
   .rw [Ap h,Ap h,Ap h];by_cases I:b=l
    .rw [I,Ai,Ai]
    .rw [Ap I,Ap I,Ap h]
  rw [e];exact q l D
theorem Qs:AO ["holders","stuck","paper","k","who"] ["holders","stuck"] (Ac (top 17)):=.of
theorem AfA:Nm (Ac (top 17)) "holders":=.of
theorem AfB:Nm (Ac (top 17)) "stuck":=.of
theorem Jx:Nm (Ac (top 17)) "paper":=.of
theorem Qt:Nm (Ac (top 17)) "k":=.of
theorem LM:Nm (Ac (top 17)) "who":=.of
theorem AfC:Gm (Ac (top 17)) "tuple":=.of
theorem AfD:Gm (Ac (top 17)) "enumerate":=.of
theorem AfE (F:AJ K "paper_of" "paper_of" (top 17) f fd)(T:TxtS K mg a):AB P w K mg base AE 1 f fd ["holders","stuck"] (Jh K):=by
 refine F.ok Qs λak A outer s H vs Q E hr h=>?_
 .obtain ⟨h,st,hs,D,rfl,hh,aT,hz,q⟩:=h;have nd:=Qs.nd;refine ⟨_,(@Aj _ _ _ _ _ (A8 2 nd Jx (Bx Af))
    (Aj (DF Vx rfl (Oo AfD T.jY (Ab (Aa 0 AfA) Af)) (Ey rfl (B5 (Bo 3 nd Qt) (B5 (Bo 4 nd LM) DD))) (Am (AY (AZ Kl (Aa 4 LM) BV (AW _)) (Am (Bj (De UT U9 Va Dp (Aa 2 Jx) (Ab (Aa 4 LM) Af)))) (Am (Bj (De UT U9 Va Dp (Aa 2 Jx) (Ab (M5 (AZ IA (Aa 3 Qt) (Aa 1 AfB) (by with_unfolding_all rfl)) Aq Aq) Af)))))))
    (Am (AM (C6 Kt AfC T.iQ Kz (Ab (Aa 2 Jx) Af)))))),?_⟩
  try dsimp only [aD,aE]
  walk_at"";refine ⟨Av,λl hl=>?_⟩;have s1:=(Ag.refl H).upd (o:=.lst []) hl;walk_at"";refine DH h hs rfl ⟨.of (s1 _ _ hh),AcU (K:=K) (a:=h) (xs:=hs) (λi σ J=>∃ x y,σ=[some (.ref h),some (.ref st),some (.ref l),x,y]/\Ag H J/\J l=some (.lst (Cq hs (λk=>decide ((k:Int)∈D)) i))) ⟨none,none,rfl,s1,Ai⟩ (λi σ J _ ⟨_,_,_,L,_⟩=>.of (L _ _ hh)) ?_ ?_⟩
  .rintro i x t σ J hi ⟨x0,x1,rfl,L,hL⟩ O;have eg:hs.getD i .aa=x:=by rw [Uc,hi];rfl
   have ilt:i<hs.length:=(TH.mp hi).1;refine Ef t _ rfl (.of Ai) rfl ?_;walk_at"";have Y:=((Ag.refl J).upd (o:=.tup [.int i,x]) O) l _ hL;have eI:=L.upd (o:=.tup [.int i,x]) O;have B:(Cq hs (λk=>decide ((k:Int)∈D)) i).length=i:=by unfold Cq;rw [Tb,Vd]
   by_cases hx:x=.aa
   .rw [decide_eq_true hx];refine Ci ?_;walk_at"";refine ⟨.inl ⟨rfl,_,.of Y⟩,?_⟩;walk_at"";refine Tg (Iw st (D.map V.int) rfl (.inl (.of (eI _ _ aT))) rfl (AeO D) ?_);simp only [WE,if_false];rw [AeN];have I:∀ v,v=(if (decide ((i:Int)∈D))=true then V.str "stuck" else V.str "free")->Ag H (upd (upd J t (.tup [.int i,x])) l (.lst (Cq hs (λk=>decide ((k:Int)∈D)) i++[v])))/\(upd (upd J t (.tup [.int i,x])) l (.lst (Cq hs (λk=>decide ((k:Int)∈D)) i++[v]))) l=some (.lst (Cq hs (λk=>decide ((k:Int)∈D)) (i+1))):=λv hv=>by
     refine ⟨eI.cK hl,?_⟩;rw [Ai,PK,eg,if_pos hx,hv]
    by_cases hk:(i:Int)∈D
    .rw [decide_eq_true hk] at I ⊢;walk_at"";refine Cn ?_;walk_at"";refine DI l _ _ rfl rfl Y (by rw [B,Tc];omega) ?_;obtain ⟨z1,z2⟩:=I _ rfl;exact DH _ _ rfl ⟨z1,z2⟩
    .rw [decide_eq_false hk] at I ⊢;walk_at"";refine Ci ?_;walk_at"";refine DI l _ _ rfl rfl Y (by rw [B,Tc];omega) ?_;obtain ⟨z1,z2⟩:=I _ rfl;exact DH _ _ rfl ⟨z1,z2⟩
   .rw [decide_eq_false hx];refine Cn ?_;walk_at"";refine ⟨.inl ⟨rfl,_,.of Y⟩,?_⟩;walk_at"";refine DI l _ _ rfl rfl Y (by rw [B,Tc];omega) ?_;refine B2 _ _ rfl (eI.cK hl) ?_;rw [Ai,PK,eg,if_neg hx]
  .intro σ J zq;obtain ⟨x0,x1,rfl,L,hL⟩:=zq;walk_at"";refine DH l _ rfl (.inl ⟨.of hL,λt O=>?_⟩);exact q _ t (L.upd O) (L.free O) Ai
theorem Qu {hs:List V}{B s2:Nat->Bool}{n:Nat}(h:∀ k,k<n->B k=s2 k):Cq hs B n=Cq hs s2 n:=by unfold Cq;refine VQ λk hk=>?_;rw [h k (Us.mp hk)]
def Qw (K:S3)(a:Ak):Sp:=λvs H Q _=>∃(p:Addr)(bq:Str)(C ra rb rc:Addr)(hs:List V)(js:List Bool)(ts:List Int),vs=[.ref p,.str bq]/\Cp K a H p C ra rb rc hs js ts /\
 match BZ hs js 0 with
 | none=>∀ H',Ag H H'->Q .aa H'
 | some k=>∀ H',Ca [ra,rc] H H'->H' ra=some (.lst (hs.set k.toNat (.str bq)))->H' rc=some (.lst ((ts.set k.toNat (ts.getD k.toNat 0+1)).map V.int))->Q (.int k) H'
def Qx (K:S3)(a:Ak):Sp:=λvs H Q _=>∃(p C ra rb rc:Addr)(hs:List V)(js:List Bool)(ts:List Int),vs=[.ref p]/\Cp K a H p C ra rb rc hs js ts /\
 ∀ H' t,Ag H H'->H t=none->H' t=some (.tup (Cq hs (λk=>js.getD k false) hs.length))->Q (.ref t) H'
theorem Qy:AO ["self","who","k"] ["self","who"] (Ac (Ad (top 19) 0)):=.of
theorem Qz:Nm (Ac (Ad (top 19) 0)) "self":=.of
theorem AfF:Nm (Ac (Ad (top 19) 0)) "who":=.of
theorem Jy:Nm (Ac (Ad (top 19) 0)) "k":=.of
theorem AfG (F:AJ K "take" "Group.take" (Ad (top 19) 0) f fd)(T:TxtS K mg a)(V:∀ C∈a.bD,AK P w K mg base AE 1 C "first_free" ["self","start"] (Lq K a))(Y:∀ C∈a.bD,AK P w K mg base AE 1 C "hold" ["self","k","who"] (Lm K a)) :
  AB P w K mg base AE 2 f fd ["self","who"] (Qw K a):=by
 refine F.ok Qy λak A outer s H vs Q E D h=>?_
 .obtain ⟨p,bq,C,I,J,L,hs,js,ts,rfl,R,q⟩:=h;obtain ⟨dx,fs,hp,F3⟩:=R.ins;have nd:=Qy.nd;have lS:=V C R.c.mem;have lU:=Y C R.c.mem;have cls:=R.c.cls;refine ⟨_,(@Aj _ _ _ _ _ (A8 2 nd Jy (AX lS cls (Aa 0 Qz) D.d A5 (Ab Az Af)))
    (Aj (AY (AZ Kl (Aa 2 Jy) BV (AW _)) (Am (Bj (AX lU cls (Aa 0 Qz) D.d A5 (Ab (Aa 2 Jy) (Ab (Aa 1 AfF) Af))))) A4)
    (Am (AM (Aa 2 Jy))))),?_⟩
  try dsimp only [aD,aE]
  walk_at"";refine DG hp (F3.m _ (by decide)) ?_;walk_at"";refine Fj p 0 C I J L hs js ts rfl ⟨R,by decide,by omega,λH1 B=>?_⟩;cases hf:BZ hs js 0 with
  | none =>
   rw [hf] at q;walk_at"";exact q H1 B
  | some k =>
   rw [hf] at q;obtain ⟨⟨k0,k1⟩,_⟩:=EK (by decide) (by omega) hf;have O:=R.same B;obtain ⟨dx',eU,bO,j8⟩:=O.ins;walk_at"";refine DG bO (j8.m _ (by decide)) ?_;walk_at"";refine ⟨p,k,.str bq,C,I,J,L,hs,js,ts,rfl,O,k0,k1,?_⟩;walk_at"";refine q _ (λb o hb e=>?_) ?_ Ai
   .rw [Ap (λz=>hb (by simp [z])),Ap (λz=>hb (by simp [z]))];exact B b o e
   .rw [Ap R.ac,Ai]
theorem AfH:AO ["self"] ["self"] (Ac (Ad (top 19) 1)):=.of
theorem QA:Nm (Ac (Ad (top 19) 1)) "self":=.of
theorem AfI:Gm (Ac (Ad (top 19) 1)) "paper_of":=.of
theorem AfJ (F:AJ K "paper" "Group.paper" (Ad (top 19) 1) f fd)(T:TxtS K mg a)(hJ:∀ C∈a.bD,AK P w K mg base AE 1 C "holders" ["self"] (Ll K a))(hV:∀ C∈a.bD,AK P w K mg base AE 1 C "stuck" ["self"] (Lv K a))(hW:B8 P w K mg base AE 1 "paper_of" ["holders","stuck"] (Jh K)):AB P w K mg base AE 2 f fd ["self"] (Qx K a):=by
 refine F.ok AfH λak A outer s H vs Q E I h=>?_
 .obtain ⟨p,C,O,V,Y,hs,js,ts,rfl,R,q⟩:=h;obtain ⟨dx,fs,hp,F3⟩:=R.ins;have J:=hJ C R.c.mem;have L:=hV C R.c.mem;have cls:=R.c.cls;have hj:=R.lj;refine ⟨_,(@Am _ _ _ (AM (B9 hW AfI I.d A5 (Ab (GU J cls (Aa 0 QA) I.d A5) (Ab (GU L cls (Aa 0 QA) I.d A5) Af))))),?_⟩;try dsimp only [aD,aE]
  walk_at"";refine DG hp (F3.m _ (by decide)) ?_;refine FT p C O V Y hs js ts rfl ⟨R,λl hl=>?_⟩;have B:=(Ag.refl H).upd (o:=.lst hs) hl;walk_at"";refine DG (B _ _ hp) (F3.m _ (by decide)) ?_;refine FT p C O V Y hs js ts rfl ⟨R.same B,λH2 r D qA h2=>?_⟩;walk_at"";refine BG l r hs (DN js js.length) rfl (D _ _ Ai) h2 R.z (λH3 t s3 ht h3=>?_);refine q H3 t ((B.trans D).trans s3) ((B.trans D).free ht) ?_;rw [h3,Qu (s2:=λk=>js.getD k false) λk hk=>PN (by omega)]
structure Ln where
 (num st ai:Str) (aj:Int) (ah:Option Str) (why:PyData) (held:List (Str×Int))
structure Gr where
 (pre:Str) (hs:List V) (js:List Bool) (ts:List Int)
structure Sk where
 (hs:List V) (js:List Bool) (ts:List Int) (places mark:Int) (st wt:List Int)
structure LX where
 (p dx h:Addr) (i:Nat) (wv:V) (hv:List Addr) (l:Ln)
structure RX where
 (p dx ra rb rc:Addr) (g:Gr)
structure SX where
 (p dx ra rb rc rs rw:Addr) (k:Sk)
structure HX where
 (h dx ld sd qa da:Addr) (long:Int) (lines:List LX) (groups:List RX) (sk:SX) (q:List Str) (dn:List V)
structure PS where
 (long:Int) (lns:List Ln) (aq:List Gr) (sk:Sk) (q:List Str) (dn:List V)
noncomputable def HX.S (X:HX):PS:=⟨X.long,X.lines.map (·.l),X.groups.map (·.g),X.sk.k,X.q,X.dn⟩
noncomputable def Bk:Option Str->V
 | none=>.aa
 | some z=>.str z
noncomputable def EN (long:Int)(ld sd qa da:Addr):List (Str×V):=[("long",.int long),("lines",.ref ld),("switches",.ref sd),("queue",.ref qa),("done",.ref da)]
noncomputable def LX.fs (x:LX):List (Str×V):=BO x.l.num x.i x.h x.l.st x.l.ai x.l.aj (Bk x.l.ah) x.wv
noncomputable def BS (a:Ak)(x:LX):AN:=[(x.p,.ins a.Line x.dx x.fs),(x.h,.lst (x.hv.map V.ref))]
noncomputable def Bv (a:Ak)(x:RX):AN:=[(x.p,.ins a.aI x.dx (Fv x.ra x.rb x.rc)),(x.ra,.lst x.g.hs),(x.rb,.lst (x.g.js.map V.bl)),(x.rc,.lst (x.g.ts.map V.int))]
noncomputable def BD (a:Ak)(x:SX):AN:=[(x.p,.ins a.aL x.dx (Fw x.ra x.rb x.rc x.k.places x.rs x.rw x.k.mark)),(x.ra,.lst x.k.hs),(x.rb,.lst (x.k.js.map V.bl)),(x.rc,.lst (x.k.ts.map V.int)),(x.rs,.lst (x.k.st.map V.int)),(x.rw,.lst (x.k.wt.map V.int))]
noncomputable def HX.gb (X:HX):List (Au×V):=X.lines.map λx=>(.inr x.l.num,.ref x.p)
noncomputable def HX.cA (X:HX):List (Au×V):=X.groups.map (λx=>(.inr x.g.pre,.ref x.p))++[(.inr "",.ref X.sk.p)]
noncomputable def HX.top (a:Ak)(X:HX):AN:=[(X.h,.ins a.ae X.dx (EN X.long X.ld X.sd X.qa X.da)),(X.ld,.dK X.gb),(X.sd,.dK X.cA),(X.qa,.lst (X.q.map V.str)),(X.da,.lst X.dn)]
noncomputable def A3 (a:Ak)(X:HX)(R:AN):AN:=X.top a++(BD a X.sk++(X.groups.flatMap (Bv a)++(X.lines.flatMap (BS a)++R)))
structure AfK (K:S3)(C:Addr):Prop where
 cls:Cg K C
 lo:Bw K C "long"
 li:Bw K C "lines"
 sw:Bw K C "switches"
 qu:Bw K C "queue"
 dn:Bw K C "done"
def CP (H:Hp):List Addr->List (Str×Int)->Prop
 | [],[]=>True
 | x :: xs,p :: ps=>H x=some (.tup [.str p.1,.int p.2])/\CP H xs ps
 | _,_=>False
theorem CP.ag {H B:Hp}(s:Ah H B):∀{xs:List Addr}{ps:List (Str×Int)},CP H xs ps->CP B xs ps
 | [],[],_=>trivial
 | [],_ :: _,h=>h
 | _ :: _,[],h=>h
 | _ :: _,_ :: _,h=>⟨s.t h.1,CP.ag s h.2⟩
structure Hg (K:S3)(H:Hp)(j:Nat)(x:LX):Prop where
 i:x.i=j
 pr:CP H x.hv x.l.held
 w:Is K H x.wv x.l.why
 wt:Cr x.l.why=true
 aC:x.l.held.length<=10
theorem Dy {α β:Type}{f:α->β}:∀{l:List α}{i:Nat}{x y:α},l[i]?=some x->f y=f x->(l.set i y).map f=l.map f
 | [],i,x,y,h,_=>by simp at h
 | z :: l,0,x,y,h,e=>by
  have h:z=x:=by simpa using h
  subst h;exact congrArg (· :: l.map f) e
 | z :: l,i+1,x,y,h,e=>congrArg (f z :: ·) (Dy (l:=l) (i:=i) (by simpa using h) e)
section
variable {K:S3}{a:Ak}{H H':Hp}{X:HX}{R:AN}{i:Nat}{x y:LX}{g g':RX}
theorem At.az (t:At H (A3 a X R)):H X.h=some (.ins a.ae X.dx (EN X.long X.ld X.sd X.qa X.da)):=t.get (by simp [A3,HX.top])
theorem At.ld (t:At H (A3 a X R)):H X.ld=some (.dK X.gb):=t.get (by simp [A3,HX.top])
theorem At.sd (t:At H (A3 a X R)):H X.sd=some (.dK X.cA):=t.get (by simp [A3,HX.top])
theorem At.q (t:At H (A3 a X R)):H X.qa=some (.lst (X.q.map V.str)):=t.get (by simp [A3,HX.top])
theorem At.dn (t:At H (A3 a X R)):H X.da=some (.lst X.dn):=t.get (by simp [A3,HX.top])
theorem At.rest (t:At H (A3 a X R)):At H R:=t.right.right.right.right
theorem At.aaS {b:Addr}{u:HO}(t:At H (A3 a X R))(n:H b=none):At (upd H b u) (A3 a X ((b,u) :: R)):=by have:=(t.new (u:=u) n);unfold A3 at this ⊢;rw [<- TM,<- TM,<- TM] at this ⊢;exact this.back
theorem At.dF {B:List Str}(t:At H (A3 a X R)):At (upd H X.qa (.lst (B.map V.str))) (A3 a { X with q:=B } R):=At.set (P:=[_,_,_]) t
theorem At.mn {d':List V}(t:At H (A3 a X R)):At (upd H X.da (.lst d')) (A3 a { X with dn:=d' } R):=At.set (P:=[_,_,_,_]) t
theorem At.i5 (t:At H (A3 a X R))(h:X.lines[i]?=some x):At H (BS a x++((X.top a++(BD a X.sk++X.groups.flatMap (Bv a)))++((X.lines.take i).flatMap (BS a)++((X.lines.drop (i+1)).flatMap (BS a)++R)))):=by refine At.pick (P:=X.top a++(BD a X.sk++X.groups.flatMap (Bv a))) ?_ h;rw [TM,TM];exact t
theorem At.mB (e:y.p=x.p)(n:y.l.num=x.l.num)(h:X.lines[i]?=some x)(t:At H (BS a y++((X.top a++(BD a X.sk++X.groups.flatMap (Bv a)))++((X.lines.take i).flatMap (BS a)++((X.lines.drop (i+1)).flatMap (BS a)++R))))):At H (A3 a { X with lines:=X.lines.set i y } R):=by have t:=At.put (P:=X.top a++(BD a X.sk++X.groups.flatMap (Bv a))) t (TH.mp h).1;have B:({ X with lines:=X.lines.set i y }:HX).gb=X.gb:=Dy (f:=λx:LX=>((.inr x.l.num:Au),V.ref x.p)) h (by rw [e,n]);unfold A3 HX.top at t ⊢;rw [B];rw [TM,TM] at t;exact t
theorem At.ay (t:At H (A3 a X R))(h:X.lines[i]?=some x):H x.p=some (.ins a.Line x.dx x.fs):=(t.i5 h).get (by simp [BS])
theorem At.hZ (t:At H (A3 a X R))(h:X.lines[i]?=some x):H x.h=some (.lst (x.hv.map V.ref)):=(t.i5 h).get (by simp [BS])
theorem At.bz (t:At H (A3 a X R))(h:X.lines[i]?=some x)(ep:y.p=x.p)(B:y.dx=x.dx)(eh:y.h=x.h)(D:y.hv=x.hv)(I:y.l.num=x.l.num):At (upd H x.p (.ins a.Line x.dx y.fs)) (A3 a { X with lines:=X.lines.set i y } R):=by refine At.mB ep I h ?_;have:=At.lZ (o':=.ins a.Line x.dx y.fs) (t.i5 h);unfold BS;rw [ep,B,eh,D];exact this
theorem At.kc {p:Addr}(t:At H (A3 a X R))(h:X.lines[i]?=some x)(ep:y.p=x.p)(B:y.dx=x.dx)(eh:y.h=x.h)(D:y.hv=x.hv++[p])(I:y.l.num=x.l.num)(J:y.fs=x.fs):At (upd H x.h (.lst (x.hv.map V.ref++[V.ref p]))) (A3 a { X with lines:=X.lines.set i y } R):=by refine At.mB ep I h ?_;have:=At.set (P:=[_]) (o':=.lst (x.hv.map V.ref++[V.ref p])) (t.i5 h);unfold BS;rw [ep,B,eh,D,J,TQ];exact this
theorem At.aaT {l:Addr}(t:At H (A3 a X R))(h:X.lines[i]?=some x)(B:H l=none)(ep:y.p=x.p)(D:y.dx=x.dx)(eh:y.h=l)(I:y.hv=[])(J:y.l.num=x.l.num):At (upd (upd H l (.lst [])) x.p (.ins a.Line x.dx y.fs)) (A3 a { X with lines:=X.lines.set i y } R):=by refine At.mB ep J h ?_;have L:=(t.i5 h).new (u:=.lst []) B;have O:=At.set (P:=[_]) (o':=.ins a.Line x.dx y.fs) L;have Y:=At.perm (C':=(x.p,.ins a.Line x.dx y.fs) :: (l,.lst []) :: (x.h,.lst (x.hv.map V.ref)) :: _) O (.swap _ _ _);have t4:=(At.front (P:=[_,_]) Y).tl;unfold BS;rw [ep,D,eh,I];exact t4
structure Fx (g:Gr):Prop where
 lj:g.js.length=g.hs.length
 lt:g.ts.length=g.hs.length
 z:g.hs.length<=1000
structure F8 (k:Sk):Prop where
 lj:k.js.length=k.hs.length
 lt:k.ts.length=k.hs.length
 ls:k.st.length=k.hs.length
 lw:k.wt.length=k.hs.length
 z:k.hs.length<=1000
theorem At.kf (t:At H (A3 a X R))(h:X.groups[i]?=some g):At H (Bv a g++((X.top a++BD a X.sk)++((X.groups.take i).flatMap (Bv a)++((X.groups.drop (i+1)).flatMap (Bv a)++(X.lines.flatMap (BS a)++R))))):=by refine At.pick (P:=X.top a++BD a X.sk) ?_ h;rw [TM];exact t
theorem At.mD (e:g'.p=g.p)(n:g'.g.pre=g.g.pre)(h:X.groups[i]?=some g)(t:At H (Bv a g'++((X.top a++BD a X.sk)++((X.groups.take i).flatMap (Bv a)++((X.groups.drop (i+1)).flatMap (Bv a)++(X.lines.flatMap (BS a)++R)))))):At H (A3 a { X with groups:=X.groups.set i g' } R):=by have t:=At.put (P:=X.top a++BD a X.sk) t (TH.mp h).1;have B:({ X with groups:=X.groups.set i g' }:HX).cA=X.cA:=congrArg (·++[((.inr "":Au),V.ref X.sk.p)]) (Dy (f:=λx:RX=>((.inr x.g.pre:Au),V.ref x.p)) h (by rw [e,n]));unfold A3 HX.top at t ⊢;rw [B];rw [TM] at t;exact t
theorem AfL (B D I:Addr):Fs (Fv B D I) B D I:=by refine ⟨rfl,rfl,rfl,λx hx=>?_⟩;simp only [Tq,Ue,or_false] at hx;rcases hx with rfl | rfl | rfl | rfl | rfl | rfl | rfl | rfl | rfl | rfl | rfl<;>rfl
theorem At.kg (t:At H (A3 a X R))(h:X.groups[i]?=some g)(c:Em K a a.aI)(ok:Fx g.g):Cp K a H g.p a.aI g.ra g.rb g.rc g.g.hs g.g.js g.g.ts:=by have f:=t.kf h;have nd:=f.left.nd;simp only [Bv,Uz,W5,TV,Tq,Ue,or_false,not_or,not_false_eq_true,VY,and_true] at nd;obtain ⟨⟨_,_,_⟩,⟨B,D⟩,I⟩:=nd;exact ⟨⟨g.dx,Fv g.ra g.rb g.rc,f.get (by simp [Bv]),AfL ..⟩,c,f.get (by simp [Bv]),f.get (by simp [Bv]),f.get (by simp [Bv]),B,D,I,ok.lj,ok.lt,ok.z⟩
theorem At.setG {ws:List Addr}(t:At H (A3 a X R))(h:X.groups[i]?=some g)(s:Ca ws H H')(sub:∀ w∈ws,w=g.ra\/w=g.rb\/w=g.rc)(e:g'={ g with g:=g'.g })(n:g'.g.pre=g.g.pre)(D:H' g.ra=some (.lst g'.g.hs))(hb:H' g.rb=some (.lst (g'.g.js.map V.bl)))(hc:H' g.rc=some (.lst (g'.g.ts.map V.int))) :
  At H' (A3 a { X with groups:=X.groups.set i g' } R)/\Ah H H':=by
 have f:=t.kf h;have nd:=f.left.nd;simp only [Bv,Uz,W5,TV,Tq,Ue,or_false,not_or,not_false_eq_true,VY,and_true] at nd;obtain ⟨⟨I,m2,J⟩,⟨L,O⟩,Y⟩:=nd;have B:∀ w∈ws,w∈(Bv a g).map (·.1):=λw m=>by
  rcases sub w m with z | z | z<;>simp [Bv,z]
 refine ⟨At.mD (by rw [e]) n h (f.part s B (by rw [e];rfl) ?_),At.ag f.left s B (λc m=>by simp only [Bv,Tq,Ue,or_false] at m;rcases m with rfl | rfl | rfl | rfl<;>rfl)⟩;intro c m;rw [e] at m;simp only [Bv,Tq,Ue,or_false] at m;rcases m with rfl | rfl | rfl | rfl
 .exact s _ _ (λz=>by rcases sub _ z with z | z | z;exact I z;exact m2 z;exact J z) (f.get (by simp [Bv]))
 .exact D
 .exact hb
 .exact hc
theorem At.kh (t:At H (A3 a X R)):At H (BD a X.sk++(X.top a++(X.groups.flatMap (Bv a)++(X.lines.flatMap (BS a)++R)))):=At.swap t
theorem At.ki (t:At H (A3 a X R))(c:EL K a a.aL)(ok:F8 X.sk.k):D4 K a H X.sk.p a.aL X.sk.ra X.sk.rb X.sk.rc X.sk.rs X.sk.rw X.sk.k.hs X.sk.k.js X.sk.k.ts X.sk.k.places X.sk.k.mark X.sk.k.st X.sk.k.wt:=by have f:=t.kh;have nd:=f.left.nd;exact ⟨⟨X.sk.dx,f.get (by simp [BD])⟩,c,f.get (by simp [BD]),f.get (by simp [BD]),f.get (by simp [BD]),f.get (by simp [BD]),f.get (by simp [BD]),(TV.mp nd).2,ok.lj,ok.lt,ok.ls,ok.lw,ok.z⟩
theorem At.i6 {ws:List Addr}{k':Sk}{dx':Addr}(t:At H (A3 a X R))(s:Ca ws H H')(sub:∀ w∈ws,w∈(BD a X.sk).map (·.1))(ep:H' X.sk.p=some (.ins a.aL dx' (Fw X.sk.ra X.sk.rb X.sk.rc k'.places X.sk.rs X.sk.rw k'.mark)))(B:H' X.sk.ra=some (.lst k'.hs))(hb:H' X.sk.rb=some (.lst (k'.js.map V.bl)))(hc:H' X.sk.rc=some (.lst (k'.ts.map V.int)))(hd:H' X.sk.rs=some (.lst (k'.st.map V.int)))(D:H' X.sk.rw=some (.lst (k'.wt.map V.int))) :
  At H' (A3 a { X with sk:={ X.sk with k:=k',dx:=dx' } } R)/\Ah H H':=by
 have f:=t.kh;refine ⟨At.swap (f.part (M':=BD a { X.sk with k:=k',dx:=dx' }) s sub rfl ?_),At.ag f.left s sub (λc m=>by simp only [BD,Tq,Ue,or_false] at m;rcases m with rfl | rfl | rfl | rfl | rfl | rfl<;>rfl)⟩;intro c m;simp only [BD,Tq,Ue,or_false] at m;rcases m with rfl | rfl | rfl | rfl | rfl | rfl
 .exact ep
 .exact B
 .exact hb
 .exact hc
 .exact hd
 .exact D
end
structure AL (K:S3)(H:Hp)(X:HX):Prop where
 num:(X.lines.map (·.l.num)).Nodup
 pre:(X.groups.map (·.g.pre)).Nodup
 ne:∀ g∈X.groups,g.g.pre≠S9 ""
 lx:∀(i:Nat)(x:LX),X.lines[i]?=some x->Hg K H i x
 gr:∀ g∈X.groups,Fx g.g
 sk:F8 X.sk.k
structure HT (K:S3)(a:Ak)(H:Hp)(X:HX)(R:AN):Prop where
 t:At H (A3 a X R)
 ok:AL K H X
section
variable {K:S3}{a:Ak}{H H':Hp}{X:HX}{R:AN}{i:Nat}{x y:LX}{g g':RX}
theorem Hg.ag {j:Nat}(l:Hg K H j x)(s:Ah H H'):Hg K H' j x:=⟨l.i,l.pr.ag s,Is.ag _ l.wt l.w s,l.wt,l.aC⟩
theorem AL.ag (k:AL K H X)(s:Ah H H'):AL K H' X:=⟨k.num,k.pre,k.ne,λi x h=>(k.lx i x h).ag s,k.gr,k.sk⟩
theorem HT.same (t:HT K a H X R)(s:Ag H H'):HT K a H' X R:=⟨t.t.same s,t.ok.ag (.of s)⟩
theorem HT.new {b:Addr}{u:HO}(t:HT K a H X R)(n:H b=none):HT K a (upd H b u) X ((b,u) :: R):=⟨t.t.aaS n,t.ok.ag (.new n)⟩
theorem AL.bz (k:AL K H X)(s:Ah H H')(h:X.lines[i]?=some x)(D:y.l.num=x.l.num)(I:Hg K H' i y):AL K H' { X with lines:=X.lines.set i y }:=by
 refine ⟨?_,k.pre,k.ne,λj z B=>?_,k.gr,k.sk⟩
 .show ((X.lines.set i y).map (·.l.num)).Nodup;rw [Dy (f:=λx:LX=>x.l.num) h D];exact k.num
 .have B:(X.lines.set i y)[j]?=some z:=B;rw [uf] at B;by_cases e:i=j
  .rw [if_pos e] at B;split at B
   .cases B;rw [<- e];exact I
   .cases B
  .rw [if_neg e] at B;exact (k.lx j z B).ag s
theorem AL.setG (k:AL K H X)(s:Ah H H')(h:X.groups[i]?=some g)(B:g'.g.pre=g.g.pre)(D:Fx g'.g):AL K H' { X with groups:=X.groups.set i g' }:=by
 refine ⟨k.num,?_,λz m=>?_,λi x h=>(k.lx i x h).ag s,λz m=>?_,k.sk⟩
 .show ((X.groups.set i g').map (·.g.pre)).Nodup;rw [Dy (f:=λx:RX=>x.g.pre) h B];exact k.pre
 .rcases Zf m with m | rfl
  .exact k.ne z m
  .rw [B];exact k.ne g (Tz h)
 .rcases Zf m with m | rfl
  .exact k.gr z m
  .exact D
theorem AL.i6 {B:SX}(k:AL K H X)(s:Ah H H')(ok:F8 B.k):AL K H' { X with sk:=B }:=⟨k.num,k.pre,k.ne,λi x h=>(k.lx i x h).ag s,k.gr,ok⟩
theorem LN {α:Type}{f:α->Str}{v:α->V}:∀{l:List α}{i:Nat}{x:α},(l.map f).Nodup->l[i]?=some x->Bp (l.map λy=>((T2 (f y):Au),v y)) (.inr (f x))=some (v x)
 | [],_,_,_,h=>by simp at h
 | z :: l,0,x,_,h=>by
  have e:z=x:=by simpa using h
  subst e;exact El rfl
 | z :: l,i+1,x,nd,h=>by
  have B:=TV.mp nd;have D:l[i]?=some x:=by simpa using h
  refine (DZ λe=>?_).trans (LN B.2 D);have I:f z=f x:=Vz e;exact B.1 (by rw [I];exact Tr.mpr ⟨x,Tz D,rfl⟩)
theorem EO {α:Type}{f:α->Str}{v:α->V}{w:Str}:∀{l:List α},w ∉ l.map f->Bp (l.map λy=>((T2 (f y):Au),v y)) (.inr w)=none
 | [],_=>rfl
 | z :: l,n=>(DZ λe=>n (by rw [<- (Vz e:f z=w)];exact T9)).trans (EO λm=>n (T1 _ m))
theorem AL.line (k:AL K H X)(h:X.lines[i]?=some x):Bp X.gb (.inr x.l.num)=some (.ref x.p):=LN (f:=λx:LX=>x.l.num) (v:=λx=>V.ref x.p) k.num h
theorem AL.h8 (k:AL K H X){z:Str}(n:z ∉ X.lines.map (·.l.num)):Bp X.gb (.inr z)=none:=EO (f:=λx:LX=>x.l.num) (v:=λx=>V.ref x.p) n
theorem AL.mE (k:AL K H X):Bp (X.groups.map λx=>((T2 x.g.pre:Au),V.ref x.p)) (.inr (S9 ""))=none:=EO (f:=λx:RX=>x.g.pre) (v:=λx=>V.ref x.p) λm=>by
 obtain ⟨g,mg,e⟩:=Tr.mp m;exact k.ne g mg e
theorem AL.mF (k:AL K H X):Bp X.cA (.inr (S9 ""))=some (.ref X.sk.p):=by unfold HX.cA;rw [II _ _ _ _ k.mE,if_pos rfl]
theorem AL.mG (k:AL K H X)(h:X.groups[i]?=some g):Bp X.cA (.inr g.g.pre)=some (.ref g.p):=by unfold HX.cA;rw [II _ _ _ _ k.mE,if_neg (λe=>k.ne g (Tz h) (Vz e))];exact LN (f:=λx:RX=>x.g.pre) (v:=λx=>V.ref x.p) k.pre h
theorem AL.qD (k:AL K H X){w:Str}(B:w≠S9 "")(n:w ∉ X.groups.map (·.g.pre)):Bp X.cA (.inr w)=none:=by unfold HX.cA;rw [II _ _ _ _ k.mE,if_neg (λe=>B (Vz e))];exact EO (f:=λx:RX=>x.g.pre) (v:=λx=>V.ref x.p) n
structure TxtH (P:Ta)(w:S6)(K:S3)(mg:Str->Option Value)(a:Ak):Prop extends TxtK K mg a,TxtP K mg a where
 i7:∃ t,mg "AT_SEEKERS"=some (Uj "" t)
 kj:mg "WAYS"=some (.ref a.fT)
 cD:∃ t1 t2 t3 t4,Ld P w K a.fT [(.inr "lift",.ref t1),(.inr "pulse",.ref t2),(.inr "gap",.ref t3),(.inr "hang",.ref t4)]/\(∀ H,Bh K H t1 [.str "rests",.str "rung"])/\(∀ H,Bh K H t2 [.str "dials"])/\(∀ H,Bh K H t3 [.str "dials"])/\∀ H,Bh K H t4 [.str "waits",.str "dials",.str "rings",.str "talks",.str "told"]
 km:mg "NoLine"=some (.ref a.d7)
 qE:UR K a.d7 [.type "ValueError",.type "Exception",.type "BaseException",.type "object"] "ValueError.__new__"=true
 i8:mg "NotSo"=some (.ref a.fR)
 mH:UR K a.fR [.type "ValueError",.type "Exception",.type "BaseException",.type "object"] "ValueError.__new__"=true
 hc:AfK K a.ae
 lc:G9 K a.Line
 sc:EL K a a.aL
 gc:Em K a a.aI
def Hh (K:S3)(a:Ak):Sp:=λvs H Q E=>∃(X:HX)(R:AN)(z:Str),vs=[.ref X.h,.str z]/\HT K a H X R/\Ok z /\
 (∀(i:Nat)(x:LX),X.lines[i]?=some x->x.l.num=z->Q (.ref x.p) H)/\(z ∉ X.lines.map (·.l.num)->E (.ref a.d7) none H)
def F9 (K:S3)(a:Ak):Sp:=λvs H Q E=>∃(X:HX)(R:AN)(z:Str),vs=[.ref X.h,.str z]/\HT K a H X R/\Ok z /\
 (z=S9 ""->Q (.ref X.sk.p) H)/\(∀(i:Nat)(g:RX),X.groups[i]?=some g->g.g.pre=z->Q (.ref g.p) H)/\(z≠S9 ""->z ∉ X.groups.map (·.g.pre)->E (.ref a.cz) none H)
theorem QB {z:Str}(h:z∈X.lines.map (·.l.num)):∃(i:Nat)(x:LX),X.lines[i]?=some x/\x.l.num=z:=by obtain ⟨x,m,e⟩:=Tr.mp h;obtain ⟨i,B,D⟩:=U1 m;exact ⟨i,x,by rw [TC B,D],e⟩
theorem Hi {z:Str}(h:z∈X.groups.map (·.g.pre)):∃(i:Nat)(x:RX),X.groups[i]?=some x/\x.g.pre=z:=by obtain ⟨x,m,e⟩:=Tr.mp h;obtain ⟨i,B,D⟩:=U1 m;exact ⟨i,x,by rw [TC B,D],e⟩
end
theorem AfM:AO ["self","number"] ["self","number"] (Ac (Ad (top 27) 16)):=.of
theorem QC:Nm (Ac (Ad (top 27) 16)) "self":=.of
theorem LO:Nm (Ac (Ad (top 27) 16)) "number":=.of
theorem AfN:Gm (Ac (Ad (top 27) 16)) "NoLine":=.of
theorem AfO (F:AJ K "line_of" "Hall.line_of" (Ad (top 27) 16) f fd)(T:TxtH P w K mg a):AB P w K mg base (AH P w) 1 f fd ["self","number"] (Hh K a):=by
 refine F.bb AfM λO A outer s H vs Q E V h=>?_
 .obtain ⟨X,R,z,rfl,t,I,J,L⟩:=h;refine ⟨_,(@Aj _ _ _ _ _ (AY (AZ (IW (P:=P) (w:=w) (K:=K)) (Aa 1 LO) (Ax (Aa 0 QC) rfl) (by with_unfolding_all rfl)) (Am (CM CL AfN rfl T.qE T.km (Ab (Fo (Cb Aq (Cb (GO (Aa 1 LO)) Fn))) Af))) A4)
    (Am (AM (CN P w K (Ax (Aa 0 QC) rfl) (Aa 1 LO))))),?_⟩
  try dsimp only [aD,aE]
  walk_at"";refine AF X.h a.ae X.dx _ _ rfl t.t.az T.hc.cls T.hc.li rfl ?_;refine Bf X.ld _ (.inr z) rfl rfl (.of t.t.ld) ?_;by_cases m:z∈X.lines.map (·.l.num)
  .obtain ⟨i,x,h,rfl⟩:=QB m;have hv:=t.ok.line h;rw [hv];walk_at"";refine AF X.h a.ae X.dx _ _ rfl t.t.az T.hc.cls T.hc.li rfl ?_;walk_at"";exact ⟨X.ld,_,.inr x.l.num,_,rfl,rfl,.of t.t.ld,hv,J i x h rfl⟩
  .rw [t.ok.h8 m];have Y:=G8 I;have B:Ua.length=0:=rfl;have D:(S9 "there is no line ").length=17:=by decide +kernel
   walk_at"";refine ⟨(by simp only [A9,B,D,Tc];omega),?_⟩;walk_at"";refine ⟨(by rw [Tc];omega),?_⟩;walk_at"";refine ⟨(by simp only [A9,B,D,Tc];omega),?_⟩;refine ⟨(by simp only [A9,B,D,Tc];omega),?_⟩;exact ⟨Av,L m⟩
theorem AfP:AO ["self","where"] ["self","where"] (Ac (Ad (top 27) 17)):=.of
theorem QD:Nm (Ac (Ad (top 27) 17)) "self":=.of
theorem LP:Nm (Ac (Ad (top 27) 17)) "where":=.of
theorem AfQ:Gm (Ac (Ad (top 27) 17)) "NoSwitch":=.of
theorem AfR (F:AJ K "switches_of" "Hall.switches_of" (Ad (top 27) 17) f fd)(T:TxtH P w K mg a):AB P w K mg base (AH P w) 1 f fd ["self","where"] (F9 K a):=by
 refine F.bb AfP λak A outer s H vs Q E hr h=>?_
 .obtain ⟨X,R,z,rfl,t,L,O,V,Y⟩:=h;refine ⟨_,(@Aj _ _ _ _ _ (AY (AZ (IW (P:=P) (w:=w) (K:=K)) (Aa 1 LP) (Ax (Aa 0 QD) rfl) (by with_unfolding_all rfl)) (Am (CM CL AfQ rfl T.jZ T.gZ (Ab (Fo (Cb Aq (Cb (GO (Aa 1 LP)) Fn))) Af))) A4)
    (Am (AM (CN P w K (Ax (Aa 0 QD) rfl) (Aa 1 LP))))),?_⟩
  try dsimp only [aD,aE]
  have D:(∃ p,Bp X.cA (.inr z)=some (.ref p)/\Q (.ref p) H)\/(Bp X.cA (.inr z)=none/\E (.ref a.cz) none H):=by
   by_cases B:z=S9 ""
   .exact .inl ⟨_,by rw [B];exact t.ok.mF,O B⟩
   .by_cases m:z∈X.groups.map (·.g.pre)
    .obtain ⟨i,x,h,rfl⟩:=Hi m;exact .inl ⟨_,t.ok.mG h,V i x h rfl⟩
    .exact .inr ⟨t.ok.qD B m,Y B m⟩
  walk_at"";refine AF X.h a.ae X.dx _ _ rfl t.t.az T.hc.cls T.hc.sw rfl ?_;refine Bf X.sd _ (.inr z) rfl rfl (.of t.t.sd) ?_;rcases D with ⟨p,hv,q⟩ | ⟨hv,q⟩
  .rw [hv];walk_at"";refine AF X.h a.ae X.dx _ _ rfl t.t.az T.hc.cls T.hc.sw rfl ?_;walk_at"";exact ⟨X.sd,_,.inr z,_,rfl,rfl,.of t.t.sd,hv,q⟩
  .rw [hv];have g9:=G8 L;have I:Ua.length=0:=rfl;have J:(S9 "there is no group ").length=18:=by decide +kernel
   walk_at"";refine ⟨(by simp only [A9,I,J,Tc];omega),?_⟩;walk_at"";refine ⟨(by rw [Tc];omega),?_⟩;walk_at"";refine ⟨(by simp only [A9,I,J,Tc];omega),?_⟩;refine ⟨(by simp only [A9,I,J,Tc];omega),?_⟩;exact ⟨Av,q⟩
def QE (a:Ak):Sp:=λvs H Q _=>∃(x y:LX),vs=[.ref x.p,.ref y.p]/\x.p≠y.p/\H x.p=some (.ins a.Line x.dx x.fs)/\H y.p=some (.ins a.Line y.dx y.fs) /\
 Q .aa (upd (upd H x.p (.ins a.Line x.dx { x with l:={ x.l with st:="rings",ah:=some y.l.num } }.fs)) y.p (.ins a.Line y.dx { y with l:={ y.l with st:="rung",ah:=some x.l.num } }.fs))
def LQ (a:Ak):Sp:=λvs H Q _=>∃(x:LX)(v:V),vs=[.ref x.p,v]/\H x.p=some (.ins a.Line x.dx x.fs) /\
 Q .aa (upd H x.p (.ins a.Line x.dx (BO x.l.num x.i x.h "told" x.l.ai x.l.aj (Bk x.l.ah) v)))
theorem AfS:AO ["self","called"] ["self","called"] (Ac (Ad (top 21) 2)):=.of
theorem LR:Nm (Ac (Ad (top 21) 2)) "self":=.of
theorem LS:Nm (Ac (Ad (top 21) 2)) "called":=.of
theorem AfT (F:AJ K "ring" "Line.ring" (Ad (top 21) 2) f fd)(lc:G9 K a.Line):AB P w K mg base AE 1 f fd ["self","called"] (QE a):=by
 refine F.ok AfS λI A outer s H vs Q E J h=>?_
 .obtain ⟨x,y,rfl,ne,hx,hy,q⟩:=h;refine ⟨_,(@Aj _ _ _ _ _ (Br (Aa 0 LR) Aq rfl)
    (Aj (Br (Aa 0 LR) (Ax (Aa 1 LS) rfl) rfl)
    (Aj (Br (Aa 1 LS) Aq rfl)
    (Am (Br (Aa 1 LS) (Ax (Aa 0 LR) rfl) rfl))))),?_⟩
  try dsimp only [aD,aE]
  walk_at"";refine Bc x.p a.Line x.dx _ rfl hx lc.cls lc.st (T8 rfl) ?_;have B:(upd H x.p (.ins a.Line x.dx (An "state" (.str "rings") x.fs))) y.p=some (.ins a.Line y.dx y.fs):=by rw [Ap ne.symm];exact hy
  walk_at"";refine AF y.p a.Line y.dx _ _ rfl B lc.cls lc.nu rfl ?_;walk_at"";refine Bc x.p a.Line x.dx _ rfl Ai lc.cls lc.fa (T8 rfl) ?_;rw [D8];have D:(upd H x.p (.ins a.Line x.dx (An "far_end" (.str y.l.num) (An "state" (.str "rings") x.fs)))) y.p=some (.ins a.Line y.dx y.fs):=by rw [Ap ne.symm];exact hy
  walk_at"";refine Bc y.p a.Line y.dx _ rfl D lc.cls lc.st (T8 rfl) ?_;walk_at"";refine AF x.p a.Line x.dx _ _ rfl (by rw [Ap ne];exact Ai) lc.cls lc.nu rfl ?_;walk_at"";refine Bc y.p a.Line y.dx _ rfl Ai lc.cls lc.fa (T8 rfl) ?_;rw [D8];exact q
theorem AfU:AO ["self","paper"] ["self","paper"] (Ac (Ad (top 21) 3)):=.of
theorem QF:Nm (Ac (Ad (top 21) 3)) "self":=.of
theorem AfV:Nm (Ac (Ad (top 21) 3)) "paper":=.of
theorem AfW (F:AJ K "be_told" "Line.be_told" (Ad (top 21) 3) f fd)(lc:G9 K a.Line):AB P w K mg base AE 1 f fd ["self","paper"] (LQ a):=by
 refine F.ok AfU λB A outer s H vs Q E D h=>?_
 .obtain ⟨x,v,rfl,hx,q⟩:=h;refine ⟨_,(@Aj _ _ _ _ _ (Br (Aa 0 QF) Aq rfl)
    (Am (Br (Aa 0 QF) (Aa 1 AfV) rfl))),?_⟩
  try dsimp only [aD,aE]
  walk_at"";refine Bc x.p a.Line x.dx _ rfl hx lc.cls lc.st (T8 rfl) ?_;walk_at"";refine Bc x.p a.Line x.dx _ rfl Ai lc.cls lc.wh (T8 rfl) ?_;rw [D8];exact q
noncomputable def bg (S:PS)(w:Str)(k:Int):PS :=
 if w=S9 "" then { S with sk:={ S.sk with hs:=S.sk.hs.set k.toNat .aa } }
 else { S with aq:=S.aq.map λg=>if g.pre=w then { g with hs:=g.hs.set k.toNat .aa } else g }
def ER (S:PS)(w:Str)(k:Int):Prop :=
 if w=S9 "" then CH k S.sk.hs=true/\S.sk.hs.getD k.toNat .aa≠.aa
 else ∃ g∈S.aq,g.pre=w/\CH k g.hs=true/\g.hs.getD k.toNat .aa≠.aa
noncomputable def aH (S:PS):List (Str×Int)->PS
 | []=>S
 | t :: ts=>aH (bg S t.1 t.2) ts
def bR (S:PS):List (Str×Int)->Prop
 | []=>True
 | t :: ts=>ER S t.1 t.2/\bR (bg S t.1 t.2) ts
theorem QG (x:Str×Int):∀(ts:List (Str×Int))(S:PS),aH S (ts++[x])=bg (aH S ts) x.1 x.2
 | [],_=>rfl
 | t :: ts,S=>QG x ts _
theorem QH:∀{ts:List (Str×Int)}{S:PS},bR S ts->∀{j:Nat}{x:Str×Int},ts[j]?=some x->ER (aH S (ts.take j)) x.1 x.2
 | [],_,_,j,x,h=>by simp at h
 | t :: ts,S,r,0,x,h=>by
  have e:t=x:=by simpa using h
  subst e;exact r.1
 | t :: ts,S,r,j+1,x,h=>QH (S:=bg S t.1 t.2) r.2 (by simpa using h)
theorem Dz {α:Type}:∀{l:List α},l.Nodup->∀{i j:Nat}{x y:α},l[i]?=some x->l[j]?=some y->i≠j->x≠y
 | [],_,i,j,x,y,hx,_,_=>by simp at hx
 | z :: l,h,0,0,x,y,_,_,ne=>absurd rfl ne
 | z :: l,h,0,j+1,x,y,hx,hy,_=>λe=>by
  have hx:z=x:=by simpa using hx
  have hy:l[j]?=some y:=by simpa using hy
  exact (TV.mp h).1 (by rw [hx,e];exact Tz hy)
 | z :: l,h,i+1,0,x,y,hx,hy,_=>λe=>by
  have hy:z=y:=by simpa using hy
  have hx:l[i]?=some x:=by simpa using hx
  exact (TV.mp h).1 (by rw [hy,<- e];exact Tz hx)
 | z :: l,h,i+1,j+1,x,y,hx,hy,ne=>Dz (TV.mp h).2 (by simpa using hx) (by simpa using hy) (by omega)
theorem QI {α:Type}{f:α->Str}{h:α->α}:∀{l:List α}{i:Nat}{x:α},(l.map f).Nodup->l[i]?=some x->l.set i (h x)=l.map λy=>if f y=f x then h y else y
 | [],_,_,_,e=>by simp at e
 | z :: l,0,x,nd,e=>by
  have e:z=x:=by simpa using e
  subst e;have n:=(TV.mp nd).1;show h z :: l=(if f z=f z then h z else z) :: l.map _;rw [if_pos rfl];refine congrArg (h z :: ·) ?_;conv=>lhs;rw [<- V2 l]
  exact VQ λy D=>by rw [if_neg (λq=>n (by rw [<- q];exact Tr.mpr ⟨y,D,rfl⟩))];rfl
 | z :: l,i+1,x,nd,e=>by
  have B:=TV.mp nd;have e:l[i]?=some x:=by simpa using e
  show z :: l.set i (h x)=(if f z=f x then h z else z) :: l.map _;rw [if_neg (λq=>B.1 (by rw [q];exact Tr.mpr ⟨x,Tz e,rfl⟩)),QI B.2 e]
section
variable {K:S3}{a:Ak}{H H':Hp}{X:HX}{R:AN}{i:Nat}{x y:LX}{g g':RX}
theorem HX.mI {g':RX}{h:Gr->Gr}(nd:(X.groups.map (·.g.pre)).Nodup)(e:X.groups[i]?=some g)(B:g'.g=h g.g):({ X with groups:=X.groups.set i g' }:HX).S={ X.S with aq:=X.S.aq.map λy=>if y.pre=g.g.pre then h y else y }:=by
 have D:(X.groups.set i g').map (·.g)=(X.groups.map (·.g)).set i (h g.g):=by rw [UU,B]
 have I:=QI (f:=λy:Gr=>y.pre) (h:=h) (l:=X.groups.map (·.g)) (i:=i) (x:=g.g) (by rw [TL];exact nd) (by rw [Tp,e];rfl);show (⟨X.long,X.lines.map (·.l),(X.groups.set i g').map (·.g),X.sk.k,X.q,X.dn⟩:PS)=_;rw [D,I];rfl
theorem HT.sw (t:HT K a H X R)(sc:EL K a a.aL)(gc:Em K a a.aI){w:Str}(m:w=S9 ""\/w∈X.groups.map (·.g.pre)) :
  ∃ p C B D J hs js ts,Bp X.cA (.inr w)=some (.ref p)/\C∈a.bD/\(∃ dx fs,H p=some (.ins C dx fs)/\Fs fs B D J)/\Cp K a H p C B D J hs js ts /\
   ((w=S9 ""/\X.sk.ra=B/\X.sk.rb=D/\X.sk.k.hs=hs/\X.sk.k.js=js/\X.sk.k.ts=ts)\/∃(i:Nat)(g:RX),X.groups[i]?=some g/\g.g.pre=w/\w≠S9 ""/\g.ra=B/\g.rb=D/\g.g.hs=hs/\g.g.js=js/\g.g.ts=ts):=by
 by_cases I:w=S9 ""
 .have s:=t.t.ki sc t.ok.sk;obtain ⟨dx,L⟩:=s.ins;exact ⟨_,a.aL,_,_,_,_,_,_,by rw [I];exact t.ok.mF,sc.c.mem,⟨dx,_,L,Ji ..⟩,s.r,.inl ⟨I,rfl,rfl,rfl,rfl,rfl⟩⟩
 .have m:=m.resolve_left I;obtain ⟨i,g,h,rfl⟩:=Hi m;have r:=t.t.kg h gc (t.ok.gr g (Tz h));exact ⟨_,a.aI,_,_,_,_,_,_,t.ok.mG h,gc.mem,r.ins,r,.inr ⟨i,g,h,rfl,I,rfl,rfl,rfl,rfl,rfl⟩⟩
theorem HT.aaU (t:HT K a H X R){hs':List V}(B:hs'.length=X.sk.k.hs.length):HT K a (upd H X.sk.ra (.lst hs')) { X with sk:={ X.sk with k:={ X.sk.k with hs:=hs' } } } R:=by have f:=t.t.kh;have o:=t.ok.sk;refine ⟨At.swap (At.set (P:=[_]) f),t.ok.i6 (.chg (o:=.lst X.sk.k.hs) (f.get (by simp [BD])) rfl) ⟨by show _=hs'.length;rw [B];exact o.lj,by show _=hs'.length;rw [B];exact o.lt,by show _=hs'.length;rw [B];exact o.ls,by show _=hs'.length;rw [B];exact o.lw,by show hs'.length<=_;rw [B];exact o.z⟩⟩
theorem HT.aaV (t:HT K a H X R){js':List Bool}(B:js'.length=X.sk.k.js.length):HT K a (upd H X.sk.rb (.lst (js'.map V.bl))) { X with sk:={ X.sk with k:={ X.sk.k with js:=js' } } } R:=by have f:=t.t.kh;have o:=t.ok.sk;refine ⟨At.swap (At.set (P:=[_,_]) f),t.ok.i6 (.chg (o:=.lst (X.sk.k.js.map V.bl)) (f.get (by simp [BD])) rfl) ⟨by show js'.length=_;rw [B];exact o.lj,o.lt,o.ls,o.lw,o.z⟩⟩
theorem HT.aaW (t:HT K a H X R)(h:X.groups[i]?=some g){hs':List V}(B:hs'.length=g.g.hs.length):HT K a (upd H g.ra (.lst hs')) { X with groups:=X.groups.set i { g with g:={ g.g with hs:=hs' } } } R:=by have f:=t.t.kf h;have o:=t.ok.gr g (Tz h);refine ⟨At.mD (g:=g) rfl rfl h (At.set (P:=[_]) f),t.ok.setG (.chg (o:=.lst g.g.hs) (f.get (by simp [Bv])) rfl) h rfl ⟨by show _=hs'.length;rw [B];exact o.lj,by show _=hs'.length;rw [B];exact o.lt,by show hs'.length<=_;rw [B];exact o.z⟩⟩
theorem HT.aaX (t:HT K a H X R)(h:X.groups[i]?=some g){js':List Bool}(B:js'.length=g.g.js.length):HT K a (upd H g.rb (.lst (js'.map V.bl))) { X with groups:=X.groups.set i { g with g:={ g.g with js:=js' } } } R:=by have f:=t.t.kf h;have o:=t.ok.gr g (Tz h);refine ⟨At.mD (g:=g) rfl rfl h (At.set (P:=[_,_]) f),t.ok.setG (.chg (o:=.lst (g.g.js.map V.bl)) (f.get (by simp [Bv])) rfl) h rfl ⟨by show js'.length=_;rw [B];exact o.lj,o.lt,o.z⟩⟩
structure Wk (H H':Hp)(X X':HX):Prop where
 h:X'.h=X.h
 tp:Ah H H'
theorem HT.frees (t:HT K a H X R)(sc:EL K a a.aL)(gc:Em K a a.aI){w:Str}{k:Int}(hw:ER X.S w k) :
  ∃ p C D L I hs js ts,Bp X.cA (.inr w)=some (.ref p)/\C∈a.bD/\(∃ dx fs,H p=some (.ins C dx fs)/\Fs fs D L I)/\Cp K a H p C D L I hs js ts/\CH k hs=true/\hs.getD k.toNat .aa≠.aa /\
   ∃ J:HX,J.S=bg X.S w k/\J.lines=X.lines/\J.h=X.h/\HT K a (upd H D (.lst (hs.set k.toNat .aa))) J R/\Ah H (upd H D (.lst (hs.set k.toNat .aa))):=by
 have m:w=S9 ""\/w∈X.groups.map (·.g.pre):=by
  unfold ER at hw;by_cases B:w=S9 ""
  .exact .inl B
  .rw [if_neg B] at hw;obtain ⟨g,mg,e,_⟩:=hw;obtain ⟨x,O,rfl⟩:=Tr.mp mg;exact .inr (Tr.mpr ⟨x,O,e⟩)
 obtain ⟨p,C,D,L,I,hs,js,ts,e1,e2,e3,r,⟨B,rfl,rfl,rfl,rfl,rfl⟩ | ⟨i,g,h,rfl,B,rfl,rfl,rfl,rfl,rfl⟩⟩:=t.sw sc gc m
 .unfold ER at hw;rw [if_pos B] at hw;refine ⟨p,C,_,_,I,_,_,_,e1,e2,e3,r,hw.1,hw.2,{ X with sk:={ X.sk with k:={ X.sk.k with hs:=X.sk.k.hs.set k.toNat .aa } } },?_,rfl,rfl,t.aaU (hs':=X.sk.k.hs.set k.toNat .aa) (by rw [Td]),.chg r.ha rfl⟩;unfold bg;rw [if_pos B];rfl
 .unfold ER at hw;rw [if_neg B] at hw;obtain ⟨g2,mg,e,kn,V⟩:=hw;obtain ⟨x,O,rfl⟩:=Tr.mp mg;obtain ⟨j,hj,ej⟩:=U1 O;have Y:X.groups[j]?=some x:=by rw [TC hj,ej]
  have eg:x=g:=by
   by_cases ij:i=j
   .subst ij;rw [h] at Y;cases Y;rfl
   .exact absurd e.symm (Dz t.ok.pre (i:=i) (j:=j) (by rw [Tp,h];rfl) (by rw [Tp,Y];rfl) ij)
  subst eg;refine ⟨p,C,_,_,I,_,_,_,e1,e2,e3,r,kn,V,{ X with groups:=X.groups.set i { x with g:={ x.g with hs:=x.g.hs.set k.toNat .aa } } },?_,rfl,rfl,t.aaW h (hs':=x.g.hs.set k.toNat .aa) (by rw [Td]),.chg r.ha rfl⟩;unfold bg;rw [if_neg B];exact HX.mI (h:=λy=>{ y with hs:=y.hs.set k.toNat .aa }) t.ok.pre h rfl
end
def Hj (K:S3)(a:Ak):Sp:=λvs H Q _=>∃(X:HX)(R:AN)(i:Nat)(x:LX),vs=[.ref X.h,.ref x.p]/\HT K a H X R/\X.lines[i]?=some x/\bR X.S x.l.held /\
 ∀ H' X' y,HT K a H' X' R->X'.h=X.h->X'.S={ aH X.S x.l.held with lns:=X.S.lns.set i { x.l with held:=[] } }->X'.lines=X.lines.set i y->y.p=x.p->y.l={ x.l with held:=[] }->Ah H H'->Q .aa H'
theorem AfX (S:PS)(w:Str)(k:Int):(bg S w k).lns=S.lns:=by unfold bg;split<;>rfl
theorem Hk:∀(ts:List (Str×Int))(S:PS),(aH S ts).lns=S.lns
 | [],_=>rfl
 | t :: ts,S=>(Hk ts _).trans (AfX S t.1 t.2)
theorem CP.at {H:Hp}:∀{xs:List Addr}{ps:List (Str×Int)},CP H xs ps->∀{j:Nat}{x:Addr},xs[j]?=some x->∃ p,ps[j]?=some p/\H x=some (.tup [.str p.1,.int p.2])
 | [],[],_,j,x,h=>by simp at h
 | [],_ :: _,h,_,_,_=>h.elim
 | _ :: _,[],h,_,_,_=>h.elim
 | y :: xs,p :: ps,h,0,x,e=>by
  have e:y=x:=by simpa using e
  subst e;exact ⟨p,rfl,h.1⟩
 | y :: xs,p :: ps,h,j+1,x,e=>by
  obtain ⟨q,B,D⟩:=CP.at h.2 (by simpa using e);exact ⟨q,by simpa using B,D⟩
theorem CP.len {H:Hp}:∀{xs:List Addr}{ps:List (Str×Int)},CP H xs ps->xs.length=ps.length
 | [],[],_=>rfl
 | [],_ :: _,h=>h.elim
 | _ :: _,[],h=>h.elim
 | _ :: _,_ :: _,h=>congrArg Nat.succ (CP.len h.2)
theorem TxtH.c6 (T:TxtH P w K mg a):∀ C∈a.bD,Cg K C:=λC m=>by
 have m:C∈[a.aL,a.aI]:=m;simp only [Tq,Ue,or_false] at m;rcases m with rfl | rfl
 .exact T.sc.c.cls
 .exact T.gc.cls
theorem QJ:AO ["self","line","where","k"] ["self","line"] (Ac (Ad (top 27) 14)):=.of
theorem AfY:Nm (Ac (Ad (top 27) 14)) "self":=.of
theorem QK:Nm (Ac (Ad (top 27) 14)) "line":=.of
theorem QL:Nm (Ac (Ad (top 27) 14)) "where":=.of
theorem QM:Nm (Ac (Ad (top 27) 14)) "k":=.of
theorem AfZ (F:AJ K "release" "Hall.release" (Ad (top 27) 14) f fd)(T:TxtH P w K mg a)(mJ:∀ C∈a.bD,AK P w K mg base (AH P w) 3 C "free" ["self","k"] (Pl K a)):AB P w K mg base (AH P w) 4 f fd ["self","line"] (Hj K a):=by
 refine F.bb QJ λak A outer s H vs Q E hr h=>?_
 .obtain ⟨X,R,i,x,rfl,t,h,ha,q⟩:=h;have c6:=T.c6;have nd:=QJ.nd;refine ⟨_,(@Aj _ _ _ _ _ (DF Ze rfl (Eb (Ax (Aa 1 QK) rfl)) (Ey rfl (B5 (Bo 2 nd QL) (B5 (Bo 3 nd QM) DD))) (Am (Bj (Lf mJ c6 (CN P w K (Ax (Aa 0 AfY) rfl) (Aa 2 QL)) hr.d Bs (Ab (Aa 3 QM) Af)))))
    (Am (Br (Aa 1 QK) (Bx Af) rfl))),?_⟩
  try dsimp only [aD,aE]
  walk_at"";refine AF x.p a.Line x.dx _ _ rfl (t.t.ay h) T.lc.cls T.lc.he rfl ?_;refine EE x.h rfl ⟨⟨_,.of (t.t.hZ h)⟩,FO (K:=K) (a:=x.h) (xs:=x.hv.map V.ref) (λj σ I=>∃ u v B,σ=[some (.ref X.h),some (.ref x.p),u,v]/\HT K a I B R/\B.S=aH X.S (x.l.held.take j)/\B.lines=X.lines/\B.h=X.h/\Ah H I) ⟨none,none,X,rfl,t,rfl,rfl,rfl,.refl⟩ (λj σ I _ ⟨_,_,B,_,D,_,e2,_⟩=>.of (D.t.hZ (by rw [e2];exact h))) ?_ ?_⟩
  .intro j v σ I hj zq;obtain ⟨u0,v0,B,rfl,D,O,eL,eh,tp⟩:=zq;have L:=(t.ok.lx i x h).ag tp;rw [Tp] at hj;obtain ⟨pt,hp,rfl⟩:=UD.mp hj;obtain ⟨pr,hk,et⟩:=L.pr.at hp;have hw:=QH ha hk;rw [<- O] at hw;obtain ⟨p,C,ra,rb,rc,hs,js,ts,e1,e2,⟨dx,fs,e3,e4⟩,rk,w1,w2,X3,e5,e6,e7,t3,Y⟩:=D.frees T.sc T.gc hw;have hX:I X.h=some (.ins a.ae B.dx (EN B.long B.ld B.sd B.qa B.da)):=by rw [<- eh];exact D.t.az
   walk_at"";refine Ef pt _ rfl (.of et) rfl ?_;walk_at"";refine AF X.h a.ae B.dx _ _ rfl hX T.hc.cls T.hc.sw rfl ?_;walk_at"";refine ⟨B.sd,_,.inr pr.1,_,rfl,rfl,.of D.t.sd,e1,?_⟩;refine BG p C dx fs rfl e2 e3 (e4.m _ (by decide)) ?_;walk_at"";refine ⟨p,pr.2,C,ra,rb,rc,hs,js,ts,rfl,rk,?_⟩;rw [if_pos ⟨w1,w2⟩];walk_at"";have etk:x.l.held.take (j+1)=x.l.held.take j++[pr]:=by rw [Vg,hk];rfl
   exact ⟨_,_,X3,rfl,t3,by rw [etk,QG,e5,O],e6.trans eL,e7.trans eh,tp.trans Y⟩
  .intro σ I zq;obtain ⟨u0,v0,B,rfl,D,O,eL,eh,tp⟩:=zq;rw [Tb,(t.ok.lx i x h).pr.len,Vh] at O;have J:B.lines[i]?=some x:=by rw [eL];exact h
   walk_at"";refine ⟨Av,λl nl=>?_⟩;walk_at"";refine Bc x.p a.Line x.dx _ rfl (by rw [Ap (BK (D.t.ay J) nl)];exact D.t.ay J) T.lc.cls T.lc.he (T8 rfl) ?_;have L:=D.ok.lx i x J;have Y:Ah I (upd (upd I l (.lst [])) x.p (.ins a.Line x.dx { x with h:=l,hv:=[],l:={ x.l with held:=[] } }.fs)):=Ah.trans (.new nl) (.chg (o:=.ins a.Line x.dx x.fs) (by rw [Ap (BK (D.t.ay J) nl)];exact D.t.ay J) rfl);refine q _ { B with lines:=B.lines.set i { x with h:=l,hv:=[],l:={ x.l with held:=[] } } } { x with h:=l,hv:=[],l:={ x.l with held:=[] } } ⟨At.aaT (y:={ x with h:=l,hv:=[],l:={ x.l with held:=[] } }) D.t J nl rfl rfl rfl rfl rfl,D.ok.bz Y J rfl ⟨L.i,trivial,Is.ag _ L.wt L.w Y,L.wt,by simp⟩⟩ eh ?_ (by rw [eL]) rfl rfl (tp.trans Y);have:({ B with lines:=B.lines.set i { x with h:=l,hv:=[],l:={ x.l with held:=[] } } }:HX).S={ B.S with lns:=B.S.lns.set i { x.l with held:=[] } }:=by show (⟨B.long,(B.lines.set i _).map (·.l),_,_,_,_⟩:PS)=_;rw [UU];rfl
   rw [this,O,Hk]
noncomputable def AI (ln:Ln)(st:Str):Ln:={ ln with st:=st,ai:="",aj:=0,ah:=none,why:=.none }
structure BL (K:S3)(H:Hp)(xs:List Addr)(ds:List PyData):Prop where
 i:aS K H (xs.map V.ref) ds
 t:b7 ds=true
theorem QN {K:S3}{H:Hp}:∀{xs ys:List V}{ds es:List PyData},aS K H xs ds->aS K H ys es->aS K H (xs++ys) (ds++es)
 | [],_,_,_,.nil,h=>h
 | _ :: _,_,_,_,.cons a b,h=>.cons a (QN b h)
theorem QO {K:S3}{H:Hp}:∀{xs:List V}{ds:List PyData},aS K H xs ds->xs.length=ds.length
 | [],_,.nil=>rfl
 | _ :: _,_,.cons _ b=>congrArg Nat.succ (QO b)
theorem QP:∀{ds es:List PyData},b7 ds=true->b7 es=true->b7 (ds++es)=true
 | [],_,_,h=>h
 | d :: ds,es,a,h=>by
  have a:(Cr d && b7 ds)=true:=a;rw [UK] at a;show (Cr d && b7 (ds++es))=true;rw [a.1,QP a.2 h];rfl
section
variable {K:S3}{a:Ak}{H H':Hp}{X:HX}{R:AN}{i:Nat}{x y:LX}{xs ys:List Addr}{ds es:List PyData}
theorem BL.ag (t:BL K H xs ds)(s:Ah H H'):BL K H' xs ds:=⟨aS.ag _ t.t t.i s,t.t⟩
theorem BL.app (t:BL K H xs ds)(u:BL K H ys es):BL K H (xs++ys) (ds++es):=⟨by rw [TQ];exact QN t.i u.i,QP t.t u.t⟩
theorem BL.nil:BL K H [] []:=⟨.nil,rfl⟩
theorem BL.one {b:Addr}{d:PyData}(h:Is K H (.ref b) d)(t:Cr d=true):BL K H [b] [d]:=⟨.cons h .nil,by show (Cr d && true)=true;rw [t];rfl⟩
theorem BL.len (t:BL K H xs ds):xs.length=ds.length:=by have:=QO t.i;rwa [Tb] at this
theorem HX.ia:({ X with lines:=X.lines.set i y }:HX).S={ X.S with lns:=X.S.lns.set i y.l }:=by show (⟨X.long,(X.lines.set i _).map (·.l),_,_,_,_⟩:PS)=_;rw [UU];rfl
theorem HT.bz (t:HT K a H X R)(h:X.lines[i]?=some x)(y:LX)(ep:y.p=x.p)(O:y.dx=x.dx)(eh:y.h=x.h)(I:y.hv=x.hv)(V:y.i=x.i)(J:y.l.num=x.l.num)(L:y.l.held=x.l.held)(w:Is K H y.wv y.l.why)(wt:Cr y.l.why=true) :
  HT K a (upd H x.p (.ins a.Line x.dx y.fs)) { X with lines:=X.lines.set i y } R/\Ah H (upd H x.p (.ins a.Line x.dx y.fs)):=by
 have B:Ah H (upd H x.p (.ins a.Line x.dx y.fs)):=.chg (t.t.ay h) rfl;have D:=t.ok.lx i x h;exact ⟨⟨t.t.bz h ep O eh I J,t.ok.bz B h J ⟨V.trans D.i,by rw [I,L];exact D.pr.ag B,Is.ag _ wt w B,wt,by rw [L];exact D.aC⟩⟩,B⟩
theorem HT.turn (t:HT K a H X R)(h:X.lines[i]?=some x)(st:Str) :
  HT K a (upd H x.p (.ins a.Line x.dx (BO x.l.num x.i x.h st "" 0 .aa .aa))) { X with lines:=X.lines.set i { x with wv:=.aa,l:=AI x.l st } } R/\Ah H (upd H x.p (.ins a.Line x.dx (BO x.l.num x.i x.h st "" 0 .aa .aa))) :=
 t.bz h { x with wv:=.aa,l:=AI x.l st } rfl rfl rfl rfl rfl rfl rfl .aa rfl
theorem HT.dF (t:HT K a H X R)(B:List Str):HT K a (upd H X.qa (.lst (B.map V.str))) { X with q:=B } R/\Ah H (upd H X.qa (.lst (B.map V.str))):=by have D:Ah H (upd H X.qa (.lst (B.map V.str))):=.chg t.t.q rfl;exact ⟨⟨t.t.dF,⟨t.ok.num,t.ok.pre,t.ok.ne,λi x h=>(t.ok.lx i x h).ag D,t.ok.gr,t.ok.sk⟩⟩,D⟩
theorem At.cN {r:Addr}{o o':HO}(t:At H (A3 a X ((r,o) :: R))):At (upd H r o') (A3 a X ((r,o') :: R)):=by unfold A3 at t ⊢;rw [<- TM,<- TM,<- TM] at t ⊢;exact t.set
theorem HT.cN {r:Addr}{o o':HO}(t:HT K a H X ((r,o) :: R))(k:F6 o=false):HT K a (upd H r o') X ((r,o') :: R)/\Ah H (upd H r o'):=by have B:Ah H (upd H r o'):=.chg (t.t.rest.hd) k;exact ⟨⟨t.t.cN,t.ok.ag B⟩,B⟩
theorem HT.at (t:HT K a H X R){ln:Ln}(h:X.S.lns[i]?=some ln):∃ x,X.lines[i]?=some x/\x.l=ln:=by have h:(X.lines.map (·.l))[i]?=some ln:=h;rw [Tp] at h;exact UD.mp h
theorem A0 {α:Type}{l:List α}{i:Nat}{x y:α}(h:l[i]?=some x):(l.set i y)[i]?=some y:=T6 (TH.mp h).1
end
noncomputable def B3 (S:PS)(i:Nat)(ln:Ln):PS:={ S with lns:=S.lns.set i (AI ln "waits"),q:=S.q++[ln.num] }
def LU (K:S3)(a:Ak):Sp:=λvs H Q _=>∃(X:HX)(R:AN)(i:Nat)(x:LX),vs=[.ref X.h,.ref x.p]/\HT K a H X R/\X.lines[i]?=some x/\X.q.length<1000 /\
 ∀ H' X' y b,HT K a H' X' R->X'.h=X.h->X'.S=B3 X.S i x.l->X'.lines=X.lines.set i y->y.p=x.p->y.l=AI x.l "waits"->Ah H H'->H' b=some (.tup [.str "waits",.str x.l.num])->Q (.ref b) H'
theorem Af0:AO ["self","line"] ["self","line"] (Ac (Ad (top 27) 13)):=.of
theorem Af1:Nm (Ac (Ad (top 27) 13)) "self":=.of
theorem LV:Nm (Ac (Ad (top 27) 13)) "line":=.of
theorem Af2 (F:AJ K "wait" "Hall.wait" (Ad (top 27) 13) f fd)(T:TxtH P w K mg a)(eJ:AK P w K mg base AE 1 a.Line "turn" ["self","state"] (F7 a)):AB P w K mg base AE 2 f fd ["self","line"] (LU K a):=by
 refine F.ok Af0 λak A outer s H vs Q E hr h=>?_
 .obtain ⟨X,R,i,x,rfl,t,h,qz,q⟩:=h;have eK:=T.lc.cls;refine ⟨_,(@Aj _ _ _ _ _ (Bj (AX eJ eK (Aa 1 LV) hr.d A5 (Ab Aq Af)))
    (Aj (Bj (De UT U9 Va Dp (Ax (Aa 0 Af1) rfl) (Ab (Ax (Aa 1 LV) rfl) Af)))
    (Am (AM (A2 (Ab Aq (Ab (Ax (Aa 1 LV) rfl) Af))))))),?_⟩
  try dsimp only [aD,aE]
  walk_at"";refine Bf x.p x.dx _ rfl (t.t.ay h) rfl ?_;walk_at"";refine GI x.p x.dx x.l.num x.i x.h ("waits") _ rfl ⟨t.t.ay h,.inr ⟨_,_,_,_,_,rfl⟩,?_⟩;obtain ⟨D,L⟩:=t.turn h "waits";have O:(X.lines.set i { x with wv:=.aa,l:=AI x.l "waits" })[i]?=some { x with wv:=.aa,l:=AI x.l "waits" }:=A0 h;generalize upd H x.p (.ins a.Line x.dx (BO x.l.num x.i x.h "waits" "" 0 .aa .aa))=B at D L ⊢;have l1:B x.p=some (.ins a.Line x.dx (BO x.l.num x.i x.h "waits" "" 0 .aa .aa)):=D.t.ay O;have Y:B X.qa=some (.lst (X.q.map V.str)):=D.t.q;walk_at"";refine AF X.h a.ae X.dx _ _ rfl D.t.az T.hc.cls T.hc.qu rfl ?_;refine ⟨.inl ⟨rfl,_,.of Y⟩,?_⟩;walk_at"";refine AF x.p a.Line x.dx _ _ rfl l1 T.lc.cls T.lc.nu rfl ?_;walk_at"";refine DI X.qa _ _ rfl rfl Y (by rw [Tb,Tc];omega) ?_;rw [show X.q.map V.str++[V.str x.l.num]=(X.q++[x.l.num]).map V.str by rw [TQ];rfl];obtain ⟨I,J⟩:=D.dF (X.q++[x.l.num]);have I:HT K a (upd B X.qa (.lst ((X.q++[x.l.num]).map V.str))) { X with lines:=X.lines.set i { x with wv:=.aa,l:=AI x.l "waits" },q:=X.q++[x.l.num] } R:=I;have J:Ah B (upd B X.qa (.lst ((X.q++[x.l.num]).map V.str))):=J;generalize upd B X.qa (.lst ((X.q++[x.l.num]).map V.str))=H2 at I J ⊢;have l2:H2 x.p=some (.ins a.Line x.dx (BO x.l.num x.i x.h "waits" "" 0 .aa .aa)):=I.t.ay O;walk_at"";refine AF x.p a.Line x.dx _ _ rfl l2 T.lc.cls T.lc.nu rfl ?_;walk_at"";refine ⟨Av,λb nb=>?_⟩;have s3:=(Ag.refl H2).upd (o:=.tup [.str "waits",.str x.l.num]) nb;refine q _ _ _ b (I.same s3) rfl ?_ rfl rfl rfl (L.trans (J.trans (.of s3))) Ai;show (⟨X.long,(X.lines.set i _).map (·.l),_,_,_,_⟩:PS)=_;rw [UU];rfl
noncomputable def A1 (lns:List Ln)(z:Str):Nat:=(lns.map (·.num)).idxOf z
theorem QQ {lns:List Ln}{z:Str}(h:z∈lns.map (·.num)):∃ ln,lns[A1 lns z]?=some ln/\ln.num=z:=by have e:=KP h;rw [Tp] at e;obtain ⟨ln,B,D⟩:=UD.mp e;exact ⟨ln,B,D⟩
noncomputable def bY (s:Sk)(k:Int)(i:Nat):Sk:={ s with hs:=s.hs.set k.toNat (.int i),ts:=s.ts.set k.toNat (s.ts.getD k.toNat 0+1),mark:=(k+1) % s.hs.length,st:=s.st.set k.toNat i,wt:=s.wt.set k.toNat (s.wt.getD k.toNat 0+((i:Int) - s.st.getD k.toNat 0) % s.places) }
noncomputable def DO (S:PS):Option (PyData×PS):=match S.q with
 | []=>none
 | z :: r=>match BZ S.sk.hs S.sk.js S.sk.mark with
  | none=>none
  | some k=>match S.lns[A1 S.lns z]? with
   | none=>none
   | some ln=>some (.tuple [.str "tone",.str z,.int k,.int (((A1 S.lns z:Int) - S.sk.st.getD k.toNat 0) % S.sk.places)],{ S with q:=r,lns:=S.lns.set (A1 S.lns z) { AI ln "dials" with held:=ln.held++[((S9 ""),k)] },sk:=bY S.sk k (A1 S.lns z) })
noncomputable def aQ:Nat->PS->List PyData×PS
 | 0,S=>([],S)
 | n+1,S=>match DO S with
  | none=>([],S)
  | some x=>(x.1 :: (aQ n x.2).1,(aQ n x.2).2)
noncomputable def Bq (S:PS):List PyData×PS:=aQ S.q.length S
structure DA (S:PS):Prop where
 nd:S.q.Nodup
 ln:∀ z∈S.q,∃ ln∈S.lns,ln.num=z/\ln.held=[]
 num:(S.lns.map (·.num)).Nodup
 m0:0<=S.sk.mark
 m1:S.sk.mark<=S.sk.hs.length
 pl:0<S.sk.places
 aC:S.q.length<=100
theorem Fy {lns:List Ln}(nd:(lns.map (·.num)).Nodup){i j:Nat}{x y:Ln}(B:lns[i]?=some x)(D:lns[j]?=some y)(ne:i≠j):x.num≠y.num :=
 Dz nd (i:=i) (j:=j) (by rw [Tp,B];rfl) (by rw [Tp,D];rfl) ne
theorem Jz {lns:List Ln}(nd:(lns.map (·.num)).Nodup){i:Nat}{ln:Ln}(h:lns[i]?=some ln):A1 lns ln.num=i:=by
 obtain ⟨B,f1,f2⟩:=QQ (lns:=lns) (z:=ln.num) (Tr.mpr ⟨ln,Tz h,rfl⟩);by_cases e:A1 lns ln.num=i
 .exact e
 .exact absurd f2 (Fy nd f1 h e)
theorem DA.idx {S:PS}(h:DA S){z:Str}(m:z∈S.q):∃ ln,S.lns[A1 S.lns z]?=some ln/\ln.num=z/\ln.held=[]:=by
 obtain ⟨B,H,m2,I⟩:=h.ln z m;obtain ⟨j,J,L⟩:=U1 H;have D:S.lns[j]?=some B:=by rw [TC J,L]
 exact ⟨B,by rw [<- m2,Jz h.num D];exact D,m2,I⟩
theorem JA {S:PS}{x:PyData×PS}(q:DA S)(e:DO S=some x):∃ z r k ln,S.q=z :: r/\BZ S.sk.hs S.sk.js S.sk.mark=some k/\S.lns[A1 S.lns z]?=some ln/\ln.num=z/\ln.held=[] /\
  x=(.tuple [.str "tone",.str z,.int k,.int (((A1 S.lns z:Int) - S.sk.st.getD k.toNat 0) % S.sk.places)],{ S with q:=r,lns:=S.lns.set (A1 S.lns z) { AI ln "dials" with held:=ln.held++[((S9 ""),k)] },sk:=bY S.sk k (A1 S.lns z) }):=by
 unfold DO at e;cases eq:S.q with
 | nil=>rw [eq] at e;cases e
 | cons z r =>
  rw [eq] at e;dsimp only at e;cases ef:BZ S.sk.hs S.sk.js S.sk.mark with
  | none=>rw [ef] at e;cases e
  | some k =>
   rw [ef] at e;dsimp only at e;obtain ⟨ln,B,D,H⟩:=q.idx (z:=z) (by rw [eq];simp);rw [B] at e;exact ⟨z,r,k,ln,rfl,rfl,B,D,H,(Ts e).symm⟩
theorem QR {S:PS}{z:Str}{r:List Str}{k:Int}{ln:Ln}(B:S.q=z :: r)(D:BZ S.sk.hs S.sk.js S.sk.mark=some k)(H:S.lns[A1 S.lns z]?=some ln):DO S=some (.tuple [.str "tone",.str z,.int k,.int (((A1 S.lns z:Int) - S.sk.st.getD k.toNat 0) % S.sk.places)],{ S with q:=r,lns:=S.lns.set (A1 S.lns z) { AI ln "dials" with held:=ln.held++[((S9 ""),k)] },sk:=bY S.sk k (A1 S.lns z) }):=by unfold DO;rw [B];dsimp only;rw [D];dsimp only;rw [H]
theorem Af3 {α:Type}{l:List α}{i j:Nat}{x y:α}(h:i<l.length):(l.set i x)[j]?=some y↔(i=j/\x=y)\/(i≠j/\l[j]?=some y):=by
 rw [uf];by_cases e:i=j
 .subst e;rw [if_pos rfl,if_pos h];exact ⟨λz=>.inl ⟨rfl,Ts z⟩,λz=>z.elim (λw=>by rw [w.2]) λw=>absurd rfl w.1⟩
 .rw [if_neg e];exact ⟨λz=>.inr ⟨e,z⟩,λz=>z.elim (λw=>absurd w.1 e) λw=>w.2⟩
theorem DA.next {S:PS}{x:PyData×PS}(h:DA S)(e:DO S=some x):DA x.2/\x.2.q.length+1=S.q.length:=by
 obtain ⟨z,r,k,H,B,O,D,V,e5,rfl⟩:=JA h e;obtain ⟨⟨k0,k1⟩,_⟩:=EK h.m0 h.m1 O;have nd:=h.nd;rw [B] at nd;obtain ⟨Y,mK⟩:=TV.mp nd;have fw:=h.aC;rw [B,UG] at fw;have il:=(TH.mp D).1;refine ⟨⟨mK,λy I=>?_,?_,Wr _ (by omega),?_,h.pl,by show r.length<=100;omega⟩,by rw [B];simp⟩
 .obtain ⟨J,m1,m2,m3⟩:=h.ln y (by rw [B];exact T1 _ I);obtain ⟨j,hj,ej⟩:=U1 m1;have L:S.lns[j]?=some J:=by rw [TC hj,ej]
  refine ⟨J,Tz (i:=j) ((Af3 il).mpr (.inr ⟨λd=>?_,L⟩)),m2,m3⟩;rw [d,L] at D;cases D;exact Y (by rw [<- V,m2];exact I)
 .show ((S.lns.set _ _).map _).Nodup;rw [Dy (f:=λx:Ln=>x.num) (y:={ AI H "dials" with held:=H.held++[((S9 ""),k)] }) D rfl];exact h.num
 .show (k+1) % (S.sk.hs.length:Int)<=((S.sk.hs.set k.toNat _).length:Nat);rw [Td];exact XT (Wt _ (by omega))
def QS (K:S3)(a:Ak):Sp:=λvs H Q _=>∃(X:HX)(R:AN),vs=[.ref X.h]/\HT K a H X R/\DA X.S /\
 ∀ H' X' r xs,X'.h=X.h->X'.S=(Bq X.S).2->HT K a H' X' ((r,.lst (xs.map V.ref)) :: R)->Ah H H'->BL K H' xs (Bq X.S).1->Q (.ref r) H'
theorem HT.seek {H B:Hp}{X:HX}{R:AN}(t:HT K a H X R){k:Int}{i:Nat}(hk:0<=k/\k<X.sk.k.hs.length)(s:Ca [X.sk.p,X.sk.ra,X.sk.rc,X.sk.rs,X.sk.rw] H B)(e:D4 K a B X.sk.p a.aL X.sk.ra X.sk.rb X.sk.rc X.sk.rs X.sk.rw (bY X.sk.k k i).hs (bY X.sk.k k i).js (bY X.sk.k k i).ts (bY X.sk.k k i).places (bY X.sk.k k i).mark (bY X.sk.k k i).st (bY X.sk.k k i).wt) :
  ∃ dx',HT K a B { X with sk:={ X.sk with k:=bY X.sk.k k i,dx:=dx' } } R/\Ah H B:=by
 obtain ⟨dx,I⟩:=e.ins;obtain ⟨u,D⟩:=t.t.i6 (k':=bY X.sk.k k i) (dx':=dx) s (λw m=>by simp only [Tq,Ue,or_false] at m;rcases m with z | z | z | z | z<;>simp [BD,z]) I e.ha e.hb e.hc e.fZ e.hw;exact ⟨dx,⟨u,t.ok.i6 D ⟨e.lj,e.lt,e.ls,e.lw,e.z⟩⟩,D⟩
theorem HT.kc {H:Hp}{X:HX}{R:AN}{i:Nat}{x:LX}(t:HT K a H X R)(h:X.lines[i]?=some x){u:Addr}{D:Str}{k:Int}(e:H u=some (.tup [.str D,.int k]))(aC:x.l.held.length<=9) :
  HT K a (upd H x.h (.lst (x.hv.map V.ref++[V.ref u]))) { X with lines:=X.lines.set i { x with hv:=x.hv++[u],l:={ x.l with held:=x.l.held++[(D,k)] } } } R/\Ah H (upd H x.h (.lst (x.hv.map V.ref++[V.ref u]))):=by
 have I:Ah H (upd H x.h (.lst (x.hv.map V.ref++[V.ref u]))):=.chg (t.t.hZ h) rfl;have J:=(t.ok.lx i x h).ag I;have B:∀{L:List Addr}{B:List (Str×Int)}{H:Hp},CP H L B->H u=some (.tup [.str D,.int k])->CP H (L++[u]) (B++[(D,k)]):=λ{L}=>by
  induction L with
  | nil=>intro B H h e;cases B with | nil=>exact ⟨e,trivial⟩ | cons _ _=>exact h.elim
  | cons y ys ih=>intro B H h e;cases B with | nil=>exact h.elim | cons _ _=>exact ⟨h.1,ih h.2 e⟩
 exact ⟨⟨At.kc (y:={ x with hv:=x.hv++[u],l:={ x.l with held:=x.l.held++[(D,k)] } }) t.t h rfl rfl rfl rfl rfl rfl,t.ok.bz I h rfl ⟨J.i,B J.pr (I.t e),J.w,J.wt,by show (x.l.held++[_]).length<=10;rw [Ul,UH];omega⟩⟩,I⟩
theorem QT:AO ["self","told","line","taken","k","steps"] ["self"] (Ac (Ad (top 27) 15)):=.of
theorem Hl:Nm (Ac (Ad (top 27) 15)) "self":=.of
theorem JB:Nm (Ac (Ad (top 27) 15)) "told":=.of
theorem Hm:Nm (Ac (Ad (top 27) 15)) "line":=.of
theorem LY:Nm (Ac (Ad (top 27) 15)) "taken":=.of
theorem LZ:Nm (Ac (Ad (top 27) 15)) "k":=.of
theorem QU:Nm (Ac (Ad (top 27) 15)) "steps":=.of
theorem QV:Gm (Ac (Ad (top 27) 15)) "AT_SEEKERS":=.of
theorem Af4 (F:AJ K "tones" "Hall.tones" (Ad (top 27) 15) f fd)(T:TxtH P w K mg a)(eJ:AK P w K mg base AE 1 a.Line "turn" ["self","state"] (F7 a))(mL:AK P w K mg base AE 2 a.aL "take" ["self","place"] (PR K a)):AB P w K mg base AE 3 f fd ["self"] (QS K a):=by
 refine F.ok QT λak A outer s H vs Q E hr h=>?_
 .obtain ⟨X0,R,rfl,t0,qF,q⟩:=h;have eK:=T.lc.cls;have mM:=T.sc.c.cls;have hu:=hr.units;have nd:=QT.nd;refine ⟨_,(@Aj _ _ _ _ _ (A8 1 nd JB (Bx Af))
    (Aj (AaE Vx (Aa1 (Ax (Aa 0 Hl) rfl) (by intro _;rfl)) (Aj (A8 2 nd Hm (CN P w K (Ax (Aa 0 Hl) rfl) (BC BF (Ax (Aa 0 Hl) rfl) Az (λ_ _=>rfl))))
     (Aj (A8 3 nd LY (AX mL mM (CN P w K (Ax (Aa 0 Hl) rfl) (G0 QV T.i7)) hr.d A5 (Ab (Ax (Aa 2 Hm) rfl) Af)))
     (Aj (AY (AZ FP (Aa 3 LY) BV (AW _)) (Am (AM (Aa 1 JB))) A4)
     (Aj (Ea (Aa 3 LY) (Ey rfl (B5 (Bo 4 nd LZ) (B5 (Bo 5 nd QU) DD))))
     (Aj (Bj (De UT PySem.F.slot_list_pop PySem.F.type_list_pop AbV (Ax (Aa 0 Hl) rfl) (Ab Az Af)))
     (Aj (Bj (AX eJ eK (Aa 2 Hm) hr.d A5 (Ab Aq Af)))
     (Aj (Bj (De UT U9 Va Dp (Ax (Aa 2 Hm) rfl) (Ab (A2 (Ab (G0 QV T.i7) (Ab (Aa 4 LZ) Af))) Af)))
     (Am (Bj (De UT U9 Va Dp (Aa 1 JB) (Ab (A2 (Ab Aq (Ab (Ax (Aa 2 Hm) rfl) (Ab (Aa 4 LZ) (Ab (Aa 5 QU) Af))))) Af))))))))))))
    (Am (AM (Aa 1 JB))))),?_⟩
  try dsimp only [aD,aE]
  have bf:start ["self","told","line","taken","k","steps"] [V.ref X0.h]=[some (.ref X0.h),none,none,none,none,none]:=rfl;simp only [bf,Ug,Uh];walk_at"";refine ⟨Av,λr nr=>?_⟩;have t1:=t0.new (u:=.lst (([]:List Addr).map V.ref)) nr;have p1:Ah H (upd H r (.lst [])):=.new nr;change HT K a (upd H r (.lst [])) X0 _ at t1;generalize upd H r (.lst [])=H1 at t1 p1 ⊢;walk_at"";refine ⟨λm σ Y=>∃ x2 x3 x4 x5 B D ds,σ=[some (.ref X0.h),some (.ref r),x2,x3,x4,x5]/\B.h=X0.h/\HT K a Y B ((r,.lst (D.map V.ref)) :: R)/\DA B.S/\Ah H Y/\BL K Y D ds/\m=B.q.length/\D.length+m<=100/\Bq X0.S=(ds++(aQ m B.S).1,(aQ m B.S).2),⟨X0.q.length,none,none,none,none,X0,[],[],rfl,rfl,t1,qF,p1,.nil,rfl,(by have:=qF.aC;show 0+X0.S.q.length<=_;omega),by rw [YI];rfl⟩,?_⟩;intro m σ Y zq;obtain ⟨x2,x3,x4,x5,B,D,ds,rfl,eh,I,gd,mO,dG,rfl,iO,L⟩:=zq;have hX:Y X0.h=some (.ins a.ae B.dx (EN B.long B.ld B.sd B.qa B.da)):=by rw [<- eh];exact I.t.az
  walk_at"";refine AF X0.h a.ae B.dx _ _ rfl hX T.hc.cls T.hc.qu rfl ?_;refine ⟨_,.inl ⟨_,.of I.t.q,rfl⟩,?_⟩;cases eq:B.q with
  | nil =>
   have e0:Bq X0.S=(ds,B.S):=by rw [L,eq];show (ds++[],B.S)=_;rw [WX]
   refine Ci ?_;walk_at"";exact q Y B r D eh (by rw [e0]) I mO (by rw [e0];exact dG)
  | cons z J =>
   refine Cn ?_;rw [eq] at L iO;have mP:B.S.q=z :: J:=eq;obtain ⟨ln,i1,i2,i3⟩:=gd.idx (z:=z) (by rw [mP];simp);generalize hi:A1 B.S.lns z=i at i1;obtain ⟨x,hx,rfl⟩:=I.at i1;have hv:=I.ok.line hx;rw [i2] at hv;have lx:=I.ok.lx i x hx;have qa0:Cm (B.q.map V.str) 0=some (.str z):=Ks (j:=0) (by rw [eq];rfl);have sk:=I.t.ki T.sc I.ok.sk;obtain ⟨sdx,se⟩:=sk.ins;refine ⟨λσ' H'=>∃ m',m'<J.length+1/\∃ x2 x3 x4 x5 B D ds,σ'=[some (.ref X0.h),some (.ref r),x2,x3,x4,x5]/\B.h=X0.h/\HT K a H' B ((r,.lst (D.map V.ref)) :: R)/\DA B.S/\Ah H H'/\BL K H' D ds/\m'=B.q.length/\D.length+m'<=100/\Bq X0.S=(ds++(aQ m' B.S).1,(aQ m' B.S).2),λσ' H' h=>h,?_⟩;walk_at"";refine AF X0.h a.ae B.dx _ _ rfl hX T.hc.cls T.hc.li rfl ?_;walk_at"";refine AF X0.h a.ae B.dx _ _ rfl hX T.hc.cls T.hc.qu rfl ?_;walk_at"";refine Tw (CG (.of I.t.q) qa0 ?_);refine BG B.ld _ (.inr z) _ rfl rfl (.of I.t.ld) hv ?_;walk_at"";refine AF X0.h a.ae B.dx _ _ rfl hX T.hc.cls T.hc.sw rfl ?_;walk_at"";refine BG B.sd _ (.inr "") _ rfl rfl (.of I.t.sd) I.ok.mF ?_;walk_at"";refine Bf B.sk.p sdx _ rfl se rfl ?_;walk_at"";refine AF x.p a.Line x.dx _ _ rfl (I.t.ay hx) T.lc.cls T.lc.pl rfl ?_;walk_at"";refine ⟨B.sk.p,a.aL,B.sk.ra,B.sk.rb,B.sk.rc,B.sk.rs,B.sk.rw,B.sk.k.hs,B.sk.k.js,B.sk.k.ts,B.sk.k.places,B.sk.k.mark,B.sk.k.st,B.sk.k.wt,x.i,rfl,sk,gd.m0,gd.m1,gd.pl,?_⟩;cases ef:BZ B.sk.k.hs B.sk.k.js B.sk.k.mark with
   | none =>
    intro H3 s3;have et:DO B.S=none:=by unfold DO;rw [mP];dsimp only;rw [show BZ B.S.sk.hs B.S.sk.js B.S.sk.mark=none from ef]
    have e0:Bq X0.S=(ds,B.S):=by rw [L];show (ds++(aQ (J.length+1) B.S).1,(aQ (J.length+1) B.S).2)=_;unfold aQ;rw [et];dsimp only;rw [WX]
    walk_at"";exact q H3 B r D eh (by rw [e0]) (I.same s3) (mO.trans (.of s3)) (by rw [e0];exact dG.ag (.of s3))
   | some k =>
    rw [lx.i];intro H3 tk sx ntk fO aaY;obtain ⟨hk,_⟩:=EK gd.m0 gd.m1 ef;have et:=QR (ln:=x.l) mP ef (by rw [hi];exact i1);rw [hi] at et;have ok3:=(gd.next et).1;have fO:H3 tk=some (.tup [.int k,.int (((i:Int) - B.S.sk.st.getD k.toNat 0) % B.S.sk.places)]):=fO;generalize ((i:Int) - B.S.sk.st.getD k.toNat 0) % B.S.sk.places=UO at fO et;obtain ⟨mQ,t3,p3⟩:=I.seek hk sx aaY;have hX3:H3 X0.h=some (.ins a.ae B.dx (EN B.long B.ld B.sd B.qa B.da)):=by rw [<- eh];exact t3.t.az
    have q3:H3 B.qa=some (.lst (B.q.map V.str)):=t3.t.q;walk_at"";refine Ef tk _ rfl (.of fO) rfl ?_;walk_at"";refine AF X0.h a.ae B.dx _ _ rfl hX3 T.hc.cls T.hc.qu rfl ?_;refine ⟨.inl ⟨rfl,_,.of q3⟩,?_⟩;walk_at"";refine GH B.qa _ 0 0 (.str z) rfl ⟨rfl,q3,(by decide),(by decide),(by rw [eq,Uz,UG];unfold Xs;simp),(by rw [eq];rfl),?_⟩;rw [show (B.q.map V.str).eraseIdx 0=J.map V.str by rw [eq];rfl];obtain ⟨t4,p4⟩:=t3.dF J;generalize H3':upd H3 B.qa (.lst (J.map V.str))=H4 at t4 p4 ⊢;clear H3'
    have l4:=t4.t.ay hx;walk_at"";refine Bf x.p x.dx _ rfl l4 rfl ?_;walk_at"";refine GI x.p x.dx x.l.num x.i x.h ("dials") _ rfl ⟨l4,.inr ⟨_,_,_,_,_,rfl⟩,?_⟩;obtain ⟨t5,p5⟩:=t4.turn hx "dials";have h5:(B.lines.set i { x with wv:=.aa,l:=AI x.l "dials" })[i]?=some { x with wv:=.aa,l:=AI x.l "dials" }:=A0 hx;generalize upd H4 x.p (.ins a.Line x.dx (BO x.l.num x.i x.h "dials" "" 0 .aa .aa))=H5 at t5 p5 ⊢;have l5:H5 x.p=some (.ins a.Line x.dx (BO x.l.num x.i x.h "dials" "" 0 .aa .aa)):=(by have z:=t5.t.ay h5;exact z);have qG:H5 x.h=some (.lst (x.hv.map V.ref)):=(by have z:=t5.t.hZ h5;exact z);have hv0:x.hv.length=0:=by rw [lx.pr.len,i3];rfl
    walk_at"";refine AF x.p a.Line x.dx _ _ rfl l5 T.lc.cls T.lc.he rfl ?_;refine ⟨.inl ⟨rfl,_,.of qG⟩,?_⟩;walk_at"";refine ⟨Av,λu nu=>?_⟩;have s6:=(Ag.refl H5).upd (o:=.tup [.str "",.int k]) nu;have e6:(upd H5 u (.tup [.str "",.int k])) u=some (.tup [.str "",.int k]):=Ai;generalize upd H5 u (.tup [.str "",.int k])=H6 at s6 e6 ⊢;have t6:=t5.same s6;walk_at"";refine DI x.h _ _ rfl rfl (s6 _ _ qG) (by rw [Tb,hv0,Tc];decide) ?_;obtain ⟨O,p7⟩:=t6.kc h5 e6 (by show x.l.held.length<=9;rw [i3];decide);have h7:((B.lines.set i { x with wv:=.aa,l:=AI x.l "dials" }).set i { x with wv:=.aa,hv:=x.hv++[u],l:={ AI x.l "dials" with held:=x.l.held++[(S9 "",k)] } })[i]?=some { x with wv:=.aa,hv:=x.hv++[u],l:={ AI x.l "dials" with held:=x.l.held++[(S9 "",k)] } }:=A0 h5;have O:HT K a (upd H6 x.h (.lst (x.hv.map V.ref++[V.ref u]))) { B with sk:={ B.sk with k:=bY B.sk.k k i,dx:=mQ },q:=J,lines:=(B.lines.set i { x with wv:=.aa,l:=AI x.l "dials" }).set i { x with wv:=.aa,hv:=x.hv++[u],l:={ AI x.l "dials" with held:=x.l.held++[(S9 "",k)] } } } ((r,.lst (D.map V.ref)) :: R):=O;have p7:Ah H6 (upd H6 x.h (.lst (x.hv.map V.ref++[V.ref u]))):=p7;generalize upd H6 x.h (.lst (x.hv.map V.ref++[V.ref u]))=H7 at O p7 ⊢;have l7:H7 x.p=some (.ins a.Line x.dx (BO x.l.num x.i x.h "dials" "" 0 .aa .aa)):=(by have z:=O.t.ay h7;exact z);have qH:H7 r=some (.lst (D.map V.ref)):=O.t.rest.hd;obtain ⟨X9,O,eS,eh9,eq9⟩:∃ X9:HX,HT K a H7 X9 ((r,.lst (D.map V.ref)) :: R)/\X9.S={ B.S with q:=J,lns:=B.S.lns.set i { AI x.l "dials" with held:=x.l.held++[((S9 ""),k)] },sk:=bY B.S.sk k i }/\X9.h=B.h/\X9.q=J:=by refine ⟨_,O,?_,rfl,rfl⟩;show (⟨B.long,((B.lines.set i _).set i _).map (·.l),_,_,_,_⟩:PS)=⟨B.long,(B.lines.map (·.l)).set i _,_,_,_,_⟩;rw [UI,UU];rfl
    walk_at"";refine ⟨.inl ⟨rfl,_,.of qH⟩,?_⟩;walk_at"";refine AF x.p a.Line x.dx _ _ rfl l7 T.lc.cls T.lc.nu rfl ?_;walk_at"";refine ⟨Av,λv nv=>?_⟩;have s8:=(Ag.refl H7).upd (o:=.tup [.str "tone",.str x.l.num,.int k,.int UO]) nv;have e8:(upd H7 v (.tup [.str "tone",.str x.l.num,.int k,.int UO])) v=some (.tup [.str "tone",.str x.l.num,.int k,.int UO]):=Ai;generalize upd H7 v (.tup [.str "tone",.str x.l.num,.int k,.int UO])=H8 at s8 e8 ⊢;have t8:=O.same s8;walk_at"";refine DI r _ _ rfl rfl (s8 _ _ qH) (by rw [Tb,Tc];rw [UG] at iO;omega) ?_;obtain ⟨t9,p9⟩:=t8.cN (o':=.lst ((D++[v]).map V.ref)) rfl;have er:(D.map V.ref++[V.ref v])=(D++[v]).map V.ref:=by rw [TQ];rfl
    rw [er];have qI:Ah Y (upd H8 r (.lst ((D++[v]).map V.ref))):=p3.trans (p4.trans (p5.trans ((Ah.of s6).trans (p7.trans ((Ah.of s8).trans p9)))));have td9:BL K (upd H8 r (.lst ((D++[v]).map V.ref))) (D++[v]) (ds++[.tuple [.str "tone",.str z,.int k,.int UO]]):=(dG.ag qI).app (.one (.tup (.of (p9.t e8)) (.cons (.str _) (.cons (by rw [i2];exact .str _) (.cons (.int _) (.cons (.int _) .nil))))) rfl);refine  ⟨J.length,WU _,_,_,_,_,X9,D++[v],_,rfl,eh9.trans eh,t9,by rw [eS];exact ok3,mO.trans qI,td9,by rw [eq9],(by rw [Ul,UH];rw [UG] at iO;omega),?_⟩;rw [L];show (ds++(aQ (J.length+1) B.S).1,(aQ (J.length+1) B.S).2)=_;have mR:∀ n,aQ (n+1) B.S=_:=λn=>by unfold aQ;rw [et]
    rw [mR,TM,eS];rfl
noncomputable def BP (S:PS)(i:Nat)(ln:Ln):PS:={ aH S ln.held with lns:=S.lns.set i { ln with held:=[] } }
noncomputable def Bd (S:PS)(j:Nat)(lo:Ln):PyData×PS :=
 if lo.st="talks" then (.tuple [.str "waits",.str lo.num],B3 (BP S j lo) j { lo with held:=[] })
 else (.tuple [.str "quiet",.str lo.num],{ BP S j lo with lns:=S.lns.set j (AI { lo with held:=[] } "rests") })
def QW (K:S3)(a:Ak):Sp:=λvs H Q _=>∃(X:HX)(R:AN)(j:Nat)(y:LX),vs=[.ref X.h,.ref y.p]/\HT K a H X R/\X.lines[j]?=some y/\bR X.S y.l.held/\X.q.length<1000 /\
 ∀ H' X' b z,HT K a H' X' R->X'.h=X.h->X'.S=(Bd X.S j y.l).2->X'.lines=X.lines.set j z->z.p=y.p->Ah H H'->Is K H' (.ref b) (Bd X.S j y.l).1->Q (.ref b) H'
theorem Af5 (S:PS)(w:Str)(k:Int):(bg S w k).q=S.q:=by unfold bg;split<;>rfl
theorem DB:∀(ts:List (Str×Int))(S:PS),(aH S ts).q=S.q
 | [],_=>rfl
 | t :: ts,S=>(DB ts _).trans (Af5 S t.1 t.2)
theorem Af6:AO ["self","other"] ["self","other"] (Ac (Ad (top 27) 12)):=.of
theorem QX:Nm (Ac (Ad (top 27) 12)) "self":=.of
theorem Hn:Nm (Ac (Ad (top 27) 12)) "other":=.of
theorem Af7 (F:AJ K "left_alone" "Hall.left_alone" (Ad (top 27) 12) f fd)(T:TxtH P w K mg a)(eJ:AK P w K mg base AE 1 a.Line "turn" ["self","state"] (F7 a))(gh:AK P w K mg base (AH P w) 4 a.ae "release" ["self","line"] (Hj K a))(mS:AK P w K mg base AE 2 a.ae "wait" ["self","line"] (LU K a)):AB P w K mg base (AH P w) 5 f fd ["self","other"] (QW K a):=by
 refine F.bb Af6 λak A outer s H vs Q E Y h=>?_
 .obtain ⟨X,R,j,y,rfl,t,h,hd,qz,q⟩:=h;have eK:=T.lc.cls;have gm:=T.hc.cls;have mT:=T.hc.cls;have hu:=Y.units;refine ⟨_,(@Aj _ _ _ _ _ (Bj (AX gh gm (Aa 0 QX) Y.d Bs (Ab (Aa 1 Hn) Af)))
    (Aj (AY (AZ (By hu) (Ax (Aa 1 Hn) rfl) Aq (AW _)) (Am (AM (AX mS mT (Aa 0 QX) Y.d A5 (Ab (Aa 1 Hn) Af)))) A4)
    (Aj (Bj (AX eJ eK (Aa 1 Hn) Y.d A5 (Ab Aq Af)))
    (Am (AM (A2 (Ab Aq (Ab (Ax (Aa 1 Hn) rfl) Af)))))))),?_⟩
  try dsimp only [aD,aE]
  walk_at"";refine Bf X.h X.dx _ rfl t.t.az rfl ?_;walk_at"";refine BG X R j y rfl t h hd (λH1 D B I eM eN fB dH cO p1=>?_);have J:D.lines[j]?=some B:=by rw [fB];exact A0 h
  have est:B.l.st=y.l.st:=by rw [cO]
  have ic:B.l.num=y.l.num:=by rw [cO]
  rw [<- dH,<- eM];walk_at"";refine AF B.p a.Line B.dx _ _ rfl (I.t.ay J) T.lc.cls T.lc.st rfl ?_;walk_at"";rw [est];by_cases ht:y.l.st="talks"
  .rw [ht];walk_at"";refine Bf D.h D.dx _ rfl I.t.az rfl ?_;walk_at"";have qz1:D.q.length<1000:=by
    have:D.S.q=X.q:=by rw [eN];exact DB ..
    rw [show D.q=D.S.q from rfl,this];exact qz
   refine BG D R j B rfl I J qz1 (λH2 X2 y2 b L bA bE mU iN el2 p2 eb=>?_);have O:Bd X.S j y.l=(.tuple [.str "waits",.str y.l.num],B3 (BP X.S j y.l) j { y.l with held:=[] }):=if_pos ht;refine q H2 X2 b y2 L (bA.trans eM) ?_ (by rw [mU,fB,UI]) (iN.trans dH) (p1.trans p2) ?_
   .rw [O,bE,eN,cO];rfl
   .rw [O];exact .tup (.of eb) (.cons (.str _) (.cons (by rw [ic];exact .str _) .nil))
  .rw [decide_eq_false (λz=>ht (V.str.inj z))];walk_at"";refine Bf B.p B.dx _ rfl (I.t.ay J) rfl ?_;walk_at"";refine GI B.p B.dx B.l.num B.i B.h ("rests") _ rfl ⟨I.t.ay J,.inr ⟨_,_,_,_,_,rfl⟩,?_⟩;obtain ⟨L,p2⟩:=I.turn J "rests";have h2:(D.lines.set j { B with wv:=.aa,l:=AI B.l "rests" })[j]?=some { B with wv:=.aa,l:=AI B.l "rests" }:=A0 J;generalize upd H1 B.p (.ins a.Line B.dx (BO B.l.num B.i B.h "rests" "" 0 .aa .aa))=H2 at L p2 ⊢;have l2:H2 B.p=some (.ins a.Line B.dx (BO B.l.num B.i B.h "rests" "" 0 .aa .aa)):=by have z:=L.t.ay h2;exact z
   walk_at"";refine AF B.p a.Line B.dx _ _ rfl l2 T.lc.cls T.lc.nu rfl ?_;walk_at"";refine ⟨Av,λb nb=>?_⟩;have s3:=(Ag.refl H2).upd (o:=.tup [.str "quiet",.str B.l.num]) nb;have O:Bd X.S j y.l=(.tuple [.str "quiet",.str y.l.num],{ BP X.S j y.l with lns:=X.S.lns.set j (AI { y.l with held:=[] } "rests") }):=if_neg ht;refine q _ _ b { B with wv:=.aa,l:=AI B.l "rests" } (L.same s3) eM ?_ (by show D.lines.set j _=_;rw [fB,UI]) dH (p1.trans (p2.trans (.of s3))) ?_
   .rw [O];have:=HX.ia (X:=D) (i:=j) (y:={ B with wv:=.aa,l:=AI B.l "rests" });rw [this,eN,cO];show ({ BP X.S j y.l with lns:=(X.S.lns.set j { y.l with held:=[] }).set j (AI { y.l with held:=[] } "rests") }:PS)=_;rw [UI]
   .rw [O];exact .tup (.of Ai) (.cons (.str _) (.cons (by rw [ic];exact .str _) .nil))
theorem L4 {s t:TS}{D:CV}{σ:St}{H:Hp}(h:∀ C:St->Hp->Prop,C=(λσ' B=>t D σ' B)->s { D with nx:=C } σ H):Kg s t D σ H:=h _ rfl
noncomputable def B0 (S:PS)(i:Nat)(ln:Ln):PyData×PS :=
 if ln.st="rests" then (.tuple [.str "waits",.str ln.num],B3 S i ln)
 else match ln.ah with
  | none=>(.none,S)
  | some z=>match S.lns[A1 S.lns z]? with
   | none=>(.none,S)
   | some lc=>(.tuple [.str "talks",.str lc.num,.str ln.num],{ S with lns:=(S.lns.set (A1 S.lns z) { lc with st:="talks" }).set i { ln with st:="talks" } })
def Ho (S:PS)(i:Nat)(ln:Ln):Prop:=ln.st="rests"\/(ln.st≠"rests"/\∃(j:Nat)(lc:Ln),ln.ah=some lc.num/\S.lns[j]?=some lc/\j≠i)
def QY (K:S3)(a:Ak):Sp:=λvs H Q _=>∃(X:HX)(R:AN)(i:Nat)(x:LX),vs=[.ref X.h,.ref x.p]/\HT K a H X R/\X.lines[i]?=some x/\X.q.length<1000/\Ho X.S i x.l /\
 ∀ H' X' r b,HT K a H' X' ((r,.lst [.ref b]) :: R)->X'.h=X.h->X'.S=(B0 X.S i x.l).2->Ah H H'->Is K H' (.ref b) (B0 X.S i x.l).1->Q (.ref r) H'
noncomputable def aA (S:PS)(ln:Ln):PS:=if ln.st="waits" then { S with q:=S.q.erase ln.num } else S
noncomputable def aX (S:PS)(ln:Ln):List PyData×PS:=match ln.ah with
 | none=>([],S)
 | some z=>match S.lns[A1 S.lns z]? with
  | none=>([],S)
  | some lo=>([(Bd S (A1 S.lns z) lo).1],(Bd S (A1 S.lns z) lo).2)
noncomputable def br (S:PS)(i:Nat)(ln:Ln):PS:={ BP S i ln with lns:=S.lns.set i (AI { ln with held:=[] } "rests") }
noncomputable def Cs (S:PS)(i:Nat)(ln:Ln):List PyData×PS:=(.tuple [.str "rests",.str ln.num] :: (aX (aA S ln) ln).1,br (aX (aA S ln) ln).2 i ln)
structure Fz (S:PS)(i:Nat)(ln:Ln):Prop where
 w:ln.st="waits"->ln.num∈S.q
 f:∀ z,ln.ah=some z->∃(j:Nat)(lo:Ln),S.lns[j]?=some lo/\lo.num=z/\j≠i/\bR (aA S ln) lo.held
 h:bR (aX (aA S ln) ln).2 ln.held
def QZ (K:S3)(a:Ak):Sp:=λvs H Q _=>∃(X:HX)(R:AN)(i:Nat)(x:LX),vs=[.ref X.h,.ref x.p]/\HT K a H X R/\X.lines[i]?=some x/\X.q.length<1000/\Fz X.S i x.l /\
 ∀ H' X' r xs,HT K a H' X' ((r,.lst (xs.map V.ref)) :: R)->X'.h=X.h->X'.S=(Cs X.S i x.l).2->Ah H H'->BL K H' xs (Cs X.S i x.l).1->Q (.ref r) H'
theorem Q0 (S:PS)(j:Nat)(lo:Ln):Cr (Bd S j lo).1=true:=by unfold Bd;split<;>rfl
theorem D5 {α:Type}{l:List α}{i j:Nat}{x y:α}(h:l[i]?=some x)(n:j≠i):(l.set j y)[i]?=some x:=by rw [To n];exact h
theorem HT.ko {H:Hp}{X:HX}{R:AN}(t:HT K a H X R){j:Nat}{lc:Ln}(h:X.S.lns[j]?=some lc):A1 X.S.lns lc.num=j:=by refine Jz ?_ h;show ((X.lines.map (·.l)).map (·.num)).Nodup;rw [TL];exact t.ok.num
theorem Q1:AO ["self","line","caller"] ["self","line"] (Ac (Ad (top 27) 4)):=.of
theorem Q2:Nm (Ac (Ad (top 27) 4)) "self":=.of
theorem Hq:Nm (Ac (Ad (top 27) 4)) "line":=.of
theorem L5:Nm (Ac (Ad (top 27) 4)) "caller":=.of
theorem Af8 (F:AJ K "lift" "Hall.lift" (Ad (top 27) 4) f fd)(T:TxtH P w K mg a)(mS:AK P w K mg base AE 2 a.ae "wait" ["self","line"] (LU K a)):AB P w K mg base AE 3 f fd ["self","line"] (QY K a):=by
 refine F.ok Q1 λak A outer s H vs Q E hr h=>?_
 .obtain ⟨X,R,i,x,rfl,t,h,qz,ok,q⟩:=h;have mT:=T.hc.cls;have hu:=hr.units;have nd:=Q1.nd;refine ⟨_,(@Aj _ _ _ _ _ (AY (AZ (By hu) (Ax (Aa 1 Hq) rfl) Aq (AW _)) (Am (AM (Bx (Ab (AX mS mT (Aa 0 Q2) hr.d A5 (Ab (Aa 1 Hq) Af)) Af)))) A4)
    (Aj (A8 2 nd L5 (CN P w K (Ax (Aa 0 Q2) rfl) (Ax (Aa 1 Hq) rfl)))
    (Aj (Br (Aa 2 L5) Aq rfl)
    (Aj (Br (Aa 1 Hq) Aq rfl)
    (Am (AM (Bx (Ab (A2 (Ab Aq (Ab (Ax (Aa 2 L5) rfl) (Ab (Ax (Aa 1 Hq) rfl) Af)))) Af)))))))),?_⟩
  try dsimp only [aD,aE]
  walk_at"";refine AF x.p a.Line x.dx _ _ rfl (t.t.ay h) T.lc.cls T.lc.st rfl ?_;walk_at"";rcases ok with J | ⟨J,j,lc,ef,ej,nj⟩
  .have eD:B0 X.S i x.l=(.tuple [.str "waits",.str x.l.num],B3 X.S i x.l):=if_pos J;rw [eD] at q;refine B6 (decide_eq_true (congrArg V.str J)) ?_;walk_at"";refine Bf X.h X.dx _ rfl t.t.az rfl ?_;walk_at"";refine BG X R i x rfl t h qz (λB X1 y b D eM eN fB dH cO L eb=>?_);walk_at"";refine ⟨Av,λr O=>?_⟩;have I:Ah B (upd B r (.lst [.ref b])):=.new O;exact q _ X1 r b (D.new O) eM eN (L.trans I) (.tup (.of (I.t eb)) (.cons (.str _) (.cons (.str _) .nil)))
  .have ei:=t.ko ej;have eD:B0 X.S i x.l=(.tuple [.str "talks",.str lc.num,.str x.l.num],{ X.S with lns:=(X.S.lns.set j { lc with st:="talks" }).set i { x.l with st:="talks" } }):=by
    simp only [B0,if_neg J,ef,ei,ej]
   rw [eD] at q;obtain ⟨y,hy,rfl⟩:=t.at ej;have mV:Bk x.l.ah=.str y.l.num:=by rw [ef];rfl
   refine BX (decide_eq_false (λz=>J (V.str.inj z))) ?_;walk_at"";refine AF X.h a.ae X.dx _ _ rfl t.t.az T.hc.cls T.hc.li rfl ?_;walk_at"";refine AF x.p a.Line x.dx _ _ rfl (t.t.ay h) T.lc.cls T.lc.fa rfl ?_;refine BG X.ld _ (.inr y.l.num) _ rfl mV (.of t.t.ld) (t.ok.line hy) ?_;walk_at"";refine Bc y.p a.Line y.dx _ rfl (t.t.ay hy) T.lc.cls T.lc.st (T8 rfl) ?_;have ly:=t.ok.lx j y hy;obtain ⟨D,L⟩:=t.bz hy { y with l:={ y.l with st:="talks" } } rfl rfl rfl rfl rfl rfl rfl ly.w ly.wt;change HT K a (upd H y.p (.ins a.Line y.dx (An "state" (.str "talks") y.fs))) _ _ at D;change Ah _ (upd H y.p (.ins a.Line y.dx (An "state" (.str "talks") y.fs))) at L;have h1:(X.lines.set j { y with l:={ y.l with st:="talks" } })[i]?=some x:=D5 h nj;generalize upd H y.p (.ins a.Line y.dx (An "state" (.str "talks") y.fs))=B at D L ⊢;have l1:B x.p=some (.ins a.Line x.dx x.fs):=by have z:=D.t.ay h1;exact z
   walk_at"";refine Bc x.p a.Line x.dx _ rfl l1 T.lc.cls T.lc.st (T8 rfl) ?_;have lx:=D.ok.lx i x h1;obtain ⟨Y,I⟩:=D.bz h1 { x with l:={ x.l with st:="talks" } } rfl rfl rfl rfl rfl rfl rfl lx.w lx.wt;change HT K a (upd B x.p (.ins a.Line x.dx (An "state" (.str "talks") x.fs))) _ _ at Y;change Ah _ (upd B x.p (.ins a.Line x.dx (An "state" (.str "talks") x.fs))) at I;have h2:((X.lines.set j { y with l:={ y.l with st:="talks" } }).set i { x with l:={ x.l with st:="talks" } })[i]?=some { x with l:={ x.l with st:="talks" } }:=A0 h1;have g2:((X.lines.set j { y with l:={ y.l with st:="talks" } }).set i { x with l:={ x.l with st:="talks" } })[j]?=some { y with l:={ y.l with st:="talks" } }:=D5 (A0 hy) (Tu nj);generalize upd B x.p (.ins a.Line x.dx (An "state" (.str "talks") x.fs))=H2 at Y I ⊢;have l2:=Y.t.ay h2;have m2:=Y.t.ay g2;walk_at"";refine AF y.p a.Line y.dx _ _ rfl m2 T.lc.cls T.lc.nu rfl ?_;walk_at"";refine AF x.p a.Line x.dx _ _ rfl l2 T.lc.cls T.lc.nu rfl ?_;walk_at"";refine ⟨Av,λb nb=>?_⟩;have s3:=(Ag.refl H2).upd (o:=.tup [.str "talks",.str y.l.num,.str x.l.num]) nb;have e3:(upd H2 b (.tup [.str "talks",.str y.l.num,.str x.l.num])) b=some (.tup [.str "talks",.str y.l.num,.str x.l.num]):=Ai;have t3:=Y.same s3;generalize hG:upd H2 b (.tup [.str "talks",.str y.l.num,.str x.l.num])=H3 at s3 e3 t3;refine ⟨Av,λr O=>?_⟩;have p4:Ah H3 (upd H3 r (.lst [.ref b])):=.new O;refine q _ _ r b (t3.new O) rfl ?_ (L.trans (I.trans ((Ah.of s3).trans p4))) (.tup (.of (p4.t e3)) (.cons (.str _) (.cons (.str _) (.cons (.str _) .nil))));show (⟨X.long,((X.lines.set j _).set i _).map (·.l),_,_,_,_⟩:PS)=_;rw [UU,UU];rfl
theorem Q3:AO ["self","line","told"] ["self","line"] (Ac (Ad (top 27) 11)):=.of
theorem JC:Nm (Ac (Ad (top 27) 11)) "self":=.of
theorem FA:Nm (Ac (Ad (top 27) 11)) "line":=.of
theorem L7:Nm (Ac (Ad (top 27) 11)) "told":=.of
theorem Af9 (F:AJ K "hang" "Hall.hang" (Ad (top 27) 11) f fd)(T:TxtH P w K mg a)(eJ:AK P w K mg base AE 1 a.Line "turn" ["self","state"] (F7 a))(gh:AK P w K mg base (AH P w) 4 a.ae "release" ["self","line"] (Hj K a))(aaZ:AK P w K mg base (AH P w) 5 a.ae "left_alone" ["self","other"] (QW K a)):AB P w K mg base (AH P w) 6 f fd ["self","line"] (QZ K a):=by
 refine F.bb Q3 λak A outer s H vs Q E hr h=>?_
 .obtain ⟨X,R,i,x,rfl,t,h,qz,ok,q⟩:=h;have gm:=T.hc.cls;have aa0:=T.hc.cls;have eK:=T.lc.cls;have hu:=hr.units;have nd:=Q3.nd;refine ⟨_,(@Aj _ _ _ _ _ (A8 2 nd L7 (Bx (Ab (A2 (Ab Aq (Ab (Ax (Aa 1 FA) rfl) Af))) Af)))
    (Aj (AY (AZ (By hu) (Ax (Aa 1 FA) rfl) Aq (AW _)) (Am (Bj (De UT PySem.F.slot_list_remove PySem.F.type_list_remove AcQ (Ax (Aa 0 JC) rfl) (Ab (Ax (Aa 1 FA) rfl) Af)))) A4)
    (Aj (AY (AZ Kl (Ax (Aa 1 FA) rfl) BV (AW _)) (Am (Bj (De UT U9 Va Dp (Aa 2 L7) (Ab (AX aaZ aa0 (Aa 0 JC) hr.d Bs (Ab (CN P w K (Ax (Aa 0 JC) rfl) (Ax (Aa 1 FA) rfl)) Af)) Af)))) A4)
    (Aj (Bj (AX gh gm (Aa 0 JC) hr.d Bs (Ab (Aa 1 FA) Af)))
    (Aj (Bj (AX eJ eK (Aa 1 FA) hr.d A5 (Ab Aq Af)))
    (Am (AM (Aa 2 L7)))))))),?_⟩
  try dsimp only [aD,aE]
  walk_at"";refine AF x.p a.Line x.dx _ _ rfl (t.t.ay h) T.lc.cls T.lc.nu rfl ?_;walk_at"";refine ⟨Av,λB ntt=>?_⟩;have s0:=(Ag.refl H).upd (o:=.tup [.str "rests",.str x.l.num]) ntt;have e0:(upd H B (.tup [.str "rests",.str x.l.num])) B=some (.tup [.str "rests",.str x.l.num]):=Ai;generalize upd H B (.tup [.str "rests",.str x.l.num])=H0 at s0 e0 ⊢;walk_at"";refine ⟨Av,λr nr=>?_⟩;have L:=(t.same s0).new (u:=.lst ([B].map V.ref)) nr;have p1:Ah H (upd H0 r (.lst ([B].map V.ref))):=(Ah.of s0).trans (.new nr);have e1:(upd H0 r (.lst ([B].map V.ref))) B=some (.tup [.str "rests",.str x.l.num]):=(Ah.new nr).t e0;change HT K a (upd H0 r (.lst [.ref B])) _ _ at L;change Ah H (upd H0 r (.lst [.ref B])) at p1;change (upd H0 r (.lst [.ref B])) B=_ at e1;generalize upd H0 r (.lst [.ref B])=H1 at L p1 e1 ⊢;clear e0 s0
  refine Lk.use (by assumption) ?_;refine L4 λC1 dC=>?_;have mid:∀(O:Hp)(D:HX),HT K a O D ((r,.lst ([B].map V.ref)) :: R)->D.h=X.h->D.S=aA X.S x.l->D.lines=X.lines->Ah H1 O->C1 [some (.ref X.h),some (.ref x.p),some (.ref r)] O:=by
   intro O D I bA Y mU p2;rw [dC];have h2:D.lines[i]?=some x:=by rw [mU];exact h
   refine L4 λC2 dD=>?_;have last:∀(H3:Hp)(J:HX)(xs:List Addr),HT K a H3 J ((r,.lst (xs.map V.ref)) :: R)->J.h=X.h->J.S=(aX (aA X.S x.l) x.l).2->J.lines[i]?=some x->Ah O H3->BL K H3 xs (Cs X.S i x.l).1->C2 [some (.ref X.h),some (.ref x.p),some (.ref r)] H3:=by
    intro H3 J xs t3 bB bK h3 p3 td;rw [dD,<- bB];walk_at"";refine Bf J.h J.dx _ rfl t3.t.az rfl ?_;walk_at"";refine BG J _ i x rfl t3 h3 (by rw [bK];exact ok.h) (λH4 X4 y t4 ja ie eL4 ep4 el4 p4=>?_);have h4:X4.lines[i]?=some y:=by rw [eL4];exact A0 h3
    rw [<- ep4];walk_at"";refine Bf y.p y.dx _ rfl (t4.t.ay h4) rfl ?_;walk_at"";refine GI y.p y.dx y.l.num y.i y.h ("rests") _ rfl ⟨t4.t.ay h4,.inr ⟨_,_,_,_,_,rfl⟩,?_⟩;obtain ⟨t5,p5⟩:=t4.turn h4 "rests";walk_at"";refine q _ _ r xs t5 (ja.trans bB) ?_ (p1.trans (p2.trans (p3.trans (p4.trans p5)))) (td.ag (p4.trans p5));have:=HX.ia (X:=X4) (i:=i) (y:={ y with wv:=.aa,l:=AI y.l "rests" });rw [this,ie,el4,bK];show ({ BP (aX (aA X.S x.l) x.l).2 i x.l with lns:=((aX (aA X.S x.l) x.l).2.lns.set i { x.l with held:=[] }).set i (AI { x.l with held:=[] } "rests") }:PS)=_;rw [UI];rfl
   clear dD
   rw [<- bA];walk_at"";refine AF x.p a.Line x.dx _ _ rfl (I.t.ay h2) T.lc.cls T.lc.fa rfl ?_;have one:BL K O [B] [.tuple [.str "rests",.str x.l.num]]:=.one (.tup (.of (p2.t e1)) (.cons (.str _) (.cons (.str _) .nil))) rfl;cases ef:x.l.ah with
   | none =>
    have e2:aX (aA X.S x.l) x.l=([],aA X.S x.l):=by simp only [aX,ef]
    walk_at"";rw [bA];exact last O D [B] I bA (by rw [e2];exact Y) h2 .refl (by unfold Cs;rw [e2];exact one)
   | some z =>
    obtain ⟨j,lo,ej,en,nj,ha⟩:=ok.f z ef;have eSl:D.S.lns=X.S.lns:=by rw [Y];unfold aA;split<;>rfl
    have eSq:D.S.q.length<=X.q.length:=by
     rw [Y];unfold aA;split
     .exact YW
     .exact Ti _
    have ig:D.S.lns[j]?=some lo:=by rw [eSl];exact ej
    have gn:=I.ko ig;rw [en,Y] at gn;have e2:aX (aA X.S x.l) x.l=([(Bd D.S j lo).1],(Bd D.S j lo).2):=by
     have ej3:(aA X.S x.l).lns[j]?=some lo:=by rw [<- Y];exact ig
     rw [Y];simp only [aX,ef,gn,ej3]
    obtain ⟨y,hy,rfl⟩:=I.at ig;have hv:=I.ok.line hy;rw [en] at hv;have qA:O r=some (.lst ([B].map V.ref)):=I.t.rest.hd;have mV:Bk x.l.ah=.str z:=by rw [ef];rfl
    walk_at"";refine ⟨.inl ⟨rfl,_,.of qA⟩,?_⟩;walk_at"";refine Bf D.h D.dx _ rfl I.t.az rfl ?_;walk_at"";refine AF D.h a.ae D.dx _ _ rfl I.t.az T.hc.cls T.hc.li rfl ?_;walk_at"";refine AF x.p a.Line x.dx _ _ rfl (I.t.ay h2) T.lc.cls T.lc.fa rfl ?_;refine BG D.ld _ (.inr z) _ rfl mV (.of I.t.ld) hv ?_;walk_at"";refine Bc D _ j y rfl I hy (by rw [Y];exact ha) (Uv eSq qz) (λH3 J b z3 t3 bB bK eL3 qJ p3 eb=>?_);have hr3:H3 r=some (.lst ([B].map V.ref)):=t3.t.rest.hd;walk_at"";refine DI r _ _ rfl rfl hr3 (by show 1<sizeLine;decide) ?_;obtain ⟨t4,p4⟩:=t3.cN (o':=.lst ([B,b].map V.ref)) rfl;rw [bA];refine last _ J [B,b] t4 (bB.trans bA) (by rw [e2];exact bK) (by rw [eL3];exact D5 h2 nj) (p3.trans p4) ?_;unfold Cs;rw [e2];exact ⟨.cons (Is.ag _ rfl (.tup (.of (p2.t e1)) (.cons (.str _) (.cons (.str _) .nil))) (p3.trans p4)) (.cons (Is.ag _ (Q0 _ _ _) eb p4) .nil),by show (true && (Cr _ && true))=true;rw [Q0];rfl⟩
  clear dC
  walk_at"";refine AF x.p a.Line x.dx _ _ rfl (L.t.ay h) T.lc.cls T.lc.st rfl ?_;walk_at"";by_cases aT:x.l.st="waits"
  .refine B6 (decide_eq_true (congrArg V.str aT)) ?_;walk_at"";refine AF X.h a.ae X.dx _ _ rfl L.t.az T.hc.cls T.hc.qu rfl ?_;refine ⟨.inl ⟨rfl,_,.of L.t.q⟩,?_⟩;walk_at"";refine AF x.p a.Line x.dx _ _ rfl (L.t.ay h) T.lc.cls T.lc.nu rfl ?_;walk_at"";refine Tg (DI X.qa X.q x.l.num rfl rfl L.t.q (ok.w aT) ?_);obtain ⟨I,p2⟩:=L.dF (X.q.erase x.l.num);exact mid _ _ I rfl (by unfold aA;rw [if_pos aT];rfl) rfl p2
  .refine BX (decide_eq_false (λz=>aT (V.str.inj z))) ?_;exact mid H1 X L rfl (by unfold aA;rw [if_neg aT]) rfl .refl
def BU (S:PS)(i:Nat)(ln:Ln)(d:PyData):PS:={ BP S i ln with lns:=S.lns.set i { ln with held:=[],st:="told",why:=d } }
def JD (K:S3)(a:Ak):Sp:=λvs H Q _=>∃(X:HX)(R:AN)(i:Nat)(x:LX)(wd:Str),vs=[.ref X.h,.ref x.p,.str wd]/\HT K a H X R/\X.lines[i]?=some x/\bR X.S x.l.held /\
 ∀ H' X' r b,HT K a H' X' ((r,.lst [.ref b]) :: R)->X'.h=X.h->X'.S=BU X.S i x.l (.tuple [.str wd,.str x.l.ai])->Ah H H'->Is K H' (.ref b) (.tuple [.str wd,.str x.l.num,.str x.l.ai])->Q (.ref r) H'
def L8 (K:S3)(a:Ak):Sp:=λvs H Q _=>∃(X:HX)(R:AN)(i:Nat)(x:LX)(v:V)(d:PyData),vs=[.ref X.h,.ref x.p,v]/\HT K a H X R/\X.lines[i]?=some x/\bR X.S x.l.held/\Is K H v d/\Cr d=true /\
 ∀ H' X' r b,HT K a H' X' ((r,.lst [.ref b]) :: R)->X'.h=X.h->X'.S=BU X.S i x.l d->Ah H H'->Is K H' (.ref b) (.tuple [.str "busy",.str x.l.num,d])->Q (.ref r) H'
theorem HT.told {H:Hp}{X:HX}{R:AN}{i:Nat}{x:LX}(t:HT K a H X R)(h:X.lines[i]?=some x){v:V}{d:PyData}(B:Is K H v d)(D:Cr d=true) :
  HT K a (upd H x.p (.ins a.Line x.dx (BO x.l.num x.i x.h "told" x.l.ai x.l.aj (Bk x.l.ah) v))) { X with lines:=X.lines.set i { x with wv:=v,l:={ x.l with st:="told",why:=d } } } R/\Ah H (upd H x.p (.ins a.Line x.dx (BO x.l.num x.i x.h "told" x.l.ai x.l.aj (Bk x.l.ah) v))) :=
 t.bz h { x with wv:=v,l:={ x.l with st:="told",why:=d } } rfl rfl rfl rfl rfl rfl rfl B D
theorem Q4 {X B:HX}{i:Nat}{x y:LX}{v:V}{d:PyData}(D:B.S=BP X.S i x.l)(H:y.l={ x.l with held:=[] }):({ B with lines:=B.lines.set i { y with wv:=v,l:={ y.l with st:="told",why:=d } } }:HX).S=BU X.S i x.l d:=by have:=HX.ia (X:=B) (i:=i) (y:={ y with wv:=v,l:={ y.l with st:="told",why:=d } });rw [this,D,H];show ({ BP X.S i x.l with lns:=(X.S.lns.set i { x.l with held:=[] }).set i { x.l with held:=[],st:="told",why:=d } }:PS)=_;rw [UI];rfl
theorem Aga:AO ["self","line","word"] ["self","line","word"] (Ac (Ad (top 27) 9)):=.of
theorem Agb:Nm (Ac (Ad (top 27) 9)) "self":=.of
theorem Hr:Nm (Ac (Ad (top 27) 9)) "line":=.of
theorem Q5:Nm (Ac (Ad (top 27) 9)) "word":=.of
theorem Agc (F:AJ K "no_call" "Hall.no_call" (Ad (top 27) 9) f fd)(T:TxtH P w K mg a)(gh:AK P w K mg base (AH P w) 4 a.ae "release" ["self","line"] (Hj K a))(mW:AK P w K mg base AE 1 a.Line "be_told" ["self","paper"] (LQ a)):AB P w K mg base (AH P w) 5 f fd ["self","line","word"] (JD K a):=by
 refine F.bb Aga λak A outer s H vs Q E hr h=>?_
 .obtain ⟨X,R,i,x,B,rfl,t,h,hd,q⟩:=h;have gm:=T.hc.cls;have mX:=T.lc.cls;refine ⟨_,(@Aj _ _ _ _ _ (Bj (AX gh gm (Aa 0 Agb) hr.d Bs (Ab (Aa 1 Hr) Af)))
    (Aj (Bj (AX mW mX (Aa 1 Hr) hr.d A5 (Ab (A2 (Ab (Aa 2 Q5) (Ab (Ax (Aa 1 Hr) rfl) Af))) Af)))
    (Am (AM (Bx (Ab (A2 (Ab (Aa 2 Q5) (Ab (Ax (Aa 1 Hr) rfl) (Ab (Ax (Aa 1 Hr) rfl) Af)))) Af)))))),?_⟩
  try dsimp only [aD,aE]
  walk_at"";refine Bf X.h X.dx _ rfl t.t.az rfl ?_;walk_at"";refine BG X R i x rfl t h hd (λI X1 y J eM eN fB dH L p1=>?_);have D:X1.lines[i]?=some y:=by rw [fB];exact A0 h
  have ic:y.l.num=x.l.num:=by rw [L]
  have qK:y.l.ai=x.l.ai:=by rw [L]
  rw [<- dH];walk_at"";refine Bf y.p y.dx _ rfl (J.t.ay D) rfl ?_;walk_at"";refine AF y.p a.Line y.dx _ _ rfl (J.t.ay D) T.lc.cls T.lc.di rfl ?_;walk_at"";refine ⟨Av,λc nc=>?_⟩;have O:=(Ag.refl I).upd (o:=.tup [.str B,.str y.l.ai]) nc;have e2:(upd I c (.tup [.str B,.str y.l.ai])) c=some (.tup [.str B,.str y.l.ai]):=Ai;generalize upd I c (.tup [.str B,.str y.l.ai])=H2 at O e2 ⊢;have t2:=J.same O;walk_at"";refine ⟨t2.t.ay D,?_⟩;obtain ⟨V,p3⟩:=t2.told D (v:=.ref c) (d:=.tuple [.str B,.str x.l.ai]) (.tup (.of e2) (.cons (.str _) (.cons (by rw [qK];exact .str _) .nil))) rfl;have h3:(X1.lines.set i { y with wv:=.ref c,l:={ y.l with st:="told",why:=.tuple [.str B,.str x.l.ai] } })[i]?=some { y with wv:=.ref c,l:={ y.l with st:="told",why:=.tuple [.str B,.str x.l.ai] } }:=A0 D;generalize upd H2 y.p (.ins a.Line y.dx (BO y.l.num y.i y.h "told" y.l.ai y.l.aj (Bk y.l.ah) (.ref c)))=Y at V p3 ⊢;have l3:=V.t.ay h3;walk_at"";refine AF y.p a.Line y.dx _ _ rfl l3 T.lc.cls T.lc.nu rfl ?_;walk_at"";refine AF y.p a.Line y.dx _ _ rfl l3 T.lc.cls T.lc.di rfl ?_;walk_at"";refine ⟨Av,λb nb=>?_⟩;have s4:=(Ag.refl Y).upd (o:=.tup [.str B,.str y.l.num,.str y.l.ai]) nb;have e4:(upd Y b (.tup [.str B,.str y.l.num,.str y.l.ai])) b=some (.tup [.str B,.str y.l.num,.str y.l.ai]):=Ai;have t4:=V.same s4;generalize hG:upd Y b (.tup [.str B,.str y.l.num,.str y.l.ai])=H4 at s4 e4 t4;refine ⟨Av,λr nr=>?_⟩;have p5:Ah H4 (upd H4 r (.lst [.ref b])):=.new nr;refine q _ _ r b (t4.new nr) eM (Q4 eN L) (p1.trans ((Ah.of O).trans (p3.trans ((Ah.of s4).trans p5)))) (.tup (.of (p5.t e4)) (.cons (.str _) (.cons (by rw [ic];exact .str _) (.cons (by rw [qK];exact .str _) .nil))))
theorem Agd:AO ["self","line","paper"] ["self","line","paper"] (Ac (Ad (top 27) 10)):=.of
theorem Age:Nm (Ac (Ad (top 27) 10)) "self":=.of
theorem L9:Nm (Ac (Ad (top 27) 10)) "line":=.of
theorem Q6:Nm (Ac (Ad (top 27) 10)) "paper":=.of
theorem Agf (F:AJ K "busy" "Hall.busy" (Ad (top 27) 10) f fd)(T:TxtH P w K mg a)(gh:AK P w K mg base (AH P w) 4 a.ae "release" ["self","line"] (Hj K a))(mW:AK P w K mg base AE 1 a.Line "be_told" ["self","paper"] (LQ a)):AB P w K mg base (AH P w) 5 f fd ["self","line","paper"] (L8 K a):=by
 refine F.bb Agd λak A outer s H vs Q E V h=>?_
 .obtain ⟨X,R,i,x,v,d,rfl,t,h,hd,Y,D,q⟩:=h;have gm:=T.hc.cls;have mX:=T.lc.cls;refine ⟨_,(@Aj _ _ _ _ _ (Bj (AX gh gm (Aa 0 Age) V.d Bs (Ab (Aa 1 L9) Af)))
    (Aj (Bj (AX mW mX (Aa 1 L9) V.d A5 (Ab (Aa 2 Q6) Af)))
    (Am (AM (Bx (Ab (A2 (Ab Aq (Ab (Ax (Aa 1 L9) rfl) (Ab (Aa 2 Q6) Af)))) Af)))))),?_⟩
  try dsimp only [aD,aE]
  walk_at"";refine Bf X.h X.dx _ rfl t.t.az rfl ?_;walk_at"";refine BG X R i x rfl t h hd (λH1 X1 y I eM eN fB dH cO p1=>?_);have B:X1.lines[i]?=some y:=by rw [fB];exact A0 h
  have ic:y.l.num=x.l.num:=by rw [cO]
  rw [<- dH];walk_at"";refine Bf y.p y.dx _ rfl (I.t.ay B) rfl ?_;walk_at"";refine ⟨I.t.ay B,?_⟩;obtain ⟨J,p3⟩:=I.told B (v:=v) (d:=d) (Is.ag _ D Y p1) D;have h3:(X1.lines.set i { y with wv:=v,l:={ y.l with st:="told",why:=d } })[i]?=some { y with wv:=v,l:={ y.l with st:="told",why:=d } }:=A0 B;generalize upd H1 y.p (.ins a.Line y.dx (BO y.l.num y.i y.h "told" y.l.ai y.l.aj (Bk y.l.ah) v))=L at J p3 ⊢;have l3:=J.t.ay h3;walk_at"";refine AF y.p a.Line y.dx _ _ rfl l3 T.lc.cls T.lc.nu rfl ?_;walk_at"";refine ⟨Av,λb nb=>?_⟩;have O:=(Ag.refl L).upd (o:=.tup [.str "busy",.str y.l.num,v]) nb;have e4:(upd L b (.tup [.str "busy",.str y.l.num,v])) b=some (.tup [.str "busy",.str y.l.num,v]):=Ai;have t4:=J.same O;generalize hG:upd L b (.tup [.str "busy",.str y.l.num,v])=H4 at O e4 t4;refine ⟨Av,λr nr=>?_⟩;have p5:Ah H4 (upd H4 r (.lst [.ref b])):=.new nr;have pp:=p1.trans (p3.trans ((Ah.of O).trans p5));refine q _ _ r b (t4.new nr) eM (Q4 eN cO) pp (.tup (.of (p5.t e4)) (.cons (.str _) (.cons (by rw [ic];exact .str _) (.cons (Is.ag _ D Y pp) .nil))))
def B1 (S:PS)(i:Nat)(ln:Ln)(z:Str):PyData×PS :=
 match S.lns[A1 S.lns z]? with
 | none=>(.tuple [.str "none",.str ln.num,.str ln.ai],BU S i ln (.tuple [.str "none",.str ln.ai]))
 | some lc=>if lc.st="rests" then (.tuple [.str "rings",.str ln.num,.str z],{ S with lns:=(S.lns.set i { ln with st:="rings",ah:=some lc.num }).set (A1 S.lns z) { lc with st:="rung",ah:=some ln.num } })
  else (.tuple [.str "busy",.str ln.num,.tuple [.str "line",.str z,.str lc.st]],BU S i ln (.tuple [.str "line",.str z,.str lc.st]))
def Q7 (K:S3)(a:Ak):Sp:=λvs H Q _=>∃(X:HX)(R:AN)(i:Nat)(x:LX)(z:Str),vs=[.ref X.h,.ref x.p,.str z]/\HT K a H X R/\X.lines[i]?=some x/\bR X.S x.l.held/\x.l.st≠"rests" /\
 ∀ H' X' r b,HT K a H' X' ((r,.lst [.ref b]) :: R)->X'.h=X.h->X'.S=(B1 X.S i x.l z).2->Ah H H'->Is K H' (.ref b) (B1 X.S i x.l z).1->Q (.ref r) H'
theorem Q8 {lns:List Ln}{z:Str}(h:z ∉ lns.map (·.num)):lns[A1 lns z]?=none:=by
 have:A1 lns z=lns.length:=by unfold A1;rw [List.idxOf_eq_length h,Tb]
 rw [this];exact tY (Ti _)
theorem HT.aa1 {H:Hp}{X:HX}{R:AN}(t:HT K a H X R){i j:Nat}{x y:LX}(B:X.lines[i]?=some x)(D:X.lines[j]?=some y)(n:i≠j):x.p≠y.p:=λe=>by
 have I:=t.t.ay B;rw [e,t.t.ay D] at I;have J:HO.ins a.Line y.dx y.fs=HO.ins a.Line x.dx x.fs:=Ts I;have L:y.fs=x.fs:=by injection J
 have O:V.str y.l.num=V.str x.l.num:=by have:=congrArg (λl:List (Str×V)=>(l[0]?).map (·.2)) L;exact Ts this
 exact Dz t.ok.num (i:=i) (j:=j) (by rw [Tp,B];rfl) (by rw [Tp,D];rfl) n (V.str.inj O).symm
theorem Q9:AO ["self","line","figures","called"] ["self","line","figures"] (Ac (Ad (top 27) 8)):=.of
theorem JE:Nm (Ac (Ad (top 27) 8)) "self":=.of
theorem JF:Nm (Ac (Ad (top 27) 8)) "line":=.of
theorem JG:Nm (Ac (Ad (top 27) 8)) "figures":=.of
theorem JH:Nm (Ac (Ad (top 27) 8)) "called":=.of
theorem Agg (F:AJ K "to_line" "Hall.to_line" (Ad (top 27) 8) f fd)(T:TxtH P w K mg a)(jc:AK P w K mg base (AH P w) 5 a.ae "no_call" ["self","line","word"] (JD K a))(mY:AK P w K mg base (AH P w) 5 a.ae "busy" ["self","line","paper"] (L8 K a))(aa2:AK P w K mg base AE 1 a.Line "ring" ["self","called"] (QE a)):AB P w K mg base (AH P w) 6 f fd ["self","line","figures"] (Q7 K a):=by
 refine F.bb Q9 λak A outer s H vs Q E O h=>?_
 .obtain ⟨X,R,i,x,z,rfl,t,h,hd,nr0,q⟩:=h;have jd:=T.hc.cls;have mZ:=T.hc.cls;have aa3:=T.lc.cls;have hu:=O.units;have nd:=Q9.nd;refine ⟨_,(@Aj _ _ _ _ _ (AY (AZ (IW (P:=P) (w:=w) (K:=K)) (Aa 2 JG) (Ax (Aa 0 JE) rfl) (by with_unfolding_all rfl)) (Am (AM (AX jc jd (Aa 0 JE) O.d Bs (Ab (Aa 1 JF) (Ab Aq Af))))) A4)
    (Aj (A8 3 nd JH (CN P w K (Ax (Aa 0 JE) rfl) (Aa 2 JG)))
    (Aj (AY (AZ (EF hu) (Ax (Aa 3 JH) rfl) Aq (AW _)) (Am (AM (AX mY mZ (Aa 0 JE) O.d Bs (Ab (Aa 1 JF) (Ab (A2 (Ab Aq (Ab (Aa 2 JG) (Ab (Ax (Aa 3 JH) rfl) Af)))) Af))))) A4)
    (Aj (Bj (AX aa2 aa3 (Aa 1 JF) O.d A5 (Ab (Aa 3 JH) Af)))
    (Am (AM (Bx (Ab (A2 (Ab Aq (Ab (Ax (Aa 1 JF) rfl) (Ab (Aa 2 JG) Af)))) Af)))))))),?_⟩
  try dsimp only [aD,aE]
  walk_at"";refine AF X.h a.ae X.dx _ _ rfl t.t.az T.hc.cls T.hc.li rfl ?_;refine Bf X.ld _ (.inr z) rfl rfl (.of t.t.ld) ?_;by_cases m:z∈X.lines.map (·.l.num)
  .obtain ⟨j,y,hy,rfl⟩:=QB m;have hv:=t.ok.line hy;have ej:X.S.lns[j]?=some y.l:=by show (X.lines.map (·.l))[j]?=_;rw [Tp,hy];rfl
   have ei:=t.ko ej;rw [hv];walk_at"";refine AF X.h a.ae X.dx _ _ rfl t.t.az T.hc.cls T.hc.li rfl ?_;walk_at"";refine BG X.ld _ (.inr y.l.num) _ rfl rfl (.of t.t.ld) hv ?_;walk_at"";refine AF y.p a.Line y.dx _ _ rfl (t.t.ay hy) T.lc.cls T.lc.st rfl ?_;walk_at"";by_cases J:y.l.st="rests"
   .have L:B1 X.S i x.l y.l.num=(.tuple [.str "rings",.str x.l.num,.str y.l.num],{ X.S with lns:=(X.S.lns.set i { x.l with st:="rings",ah:=some y.l.num }).set j { y.l with st:="rung",ah:=some x.l.num } }):=by
     simp only [B1,ei,ej,if_pos J]
    rw [L] at q;have nj:i≠j:=λe=>by subst e;rw [h] at hy;cases hy;exact nr0 J
    have np:=t.aa1 h hy nj;rw [decide_eq_true (congrArg V.str J)];refine Ci ?_;walk_at"";refine Bf x.p x.dx _ rfl (t.t.ay h) rfl ?_;walk_at"";have lx:=t.ok.lx i x h;have ly:=t.ok.lx j y hy;refine ⟨np,t.t.ay h,t.t.ay hy,?_⟩;obtain ⟨t1,p1⟩:=t.bz h { x with l:={ x.l with st:="rings",ah:=some y.l.num } } rfl rfl rfl rfl rfl rfl rfl lx.w lx.wt;have h1:(X.lines.set i { x with l:={ x.l with st:="rings",ah:=some y.l.num } })[j]?=some y:=D5 hy nj;obtain ⟨B,p2⟩:=t1.bz h1 { y with l:={ y.l with st:="rung",ah:=some x.l.num } } rfl rfl rfl rfl rfl rfl rfl (Is.ag _ ly.wt ly.w p1) ly.wt;have g2:((X.lines.set i { x with l:={ x.l with st:="rings",ah:=some y.l.num } }).set j { y with l:={ y.l with st:="rung",ah:=some x.l.num } })[i]?=some { x with l:={ x.l with st:="rings",ah:=some y.l.num } }:=D5 (A0 h) (Tu nj);generalize upd (upd H x.p (.ins a.Line x.dx { x with l:={ x.l with st:="rings",ah:=some y.l.num } }.fs)) y.p (.ins a.Line y.dx { y with l:={ y.l with st:="rung",ah:=some x.l.num } }.fs)=Y at B p2 ⊢;have l2:=B.t.ay g2;walk_at"";refine AF x.p a.Line x.dx _ _ rfl l2 T.lc.cls T.lc.nu rfl ?_;walk_at"";refine ⟨Av,λb nb=>?_⟩;have s3:=(Ag.refl Y).upd (o:=.tup [.str "rings",.str x.l.num,.str y.l.num]) nb;have e3:(upd Y b (.tup [.str "rings",.str x.l.num,.str y.l.num])) b=some (.tup [.str "rings",.str x.l.num,.str y.l.num]):=Ai;have D:=B.same s3;generalize hG:upd Y b (.tup [.str "rings",.str x.l.num,.str y.l.num])=I at s3 e3 D;refine ⟨Av,λr nr=>?_⟩;have p4:Ah I (upd I r (.lst [.ref b])):=.new nr;refine q _ _ r b (D.new nr) rfl ?_ (p1.trans (p2.trans ((Ah.of s3).trans p4))) (.tup (.of (p4.t e3)) (.cons (.str _) (.cons (.str _) (.cons (.str _) .nil))));show (⟨X.long,((X.lines.set i _).set j _).map (·.l),_,_,_,_⟩:PS)=_;rw [UU,UU];rfl
   .have L:B1 X.S i x.l y.l.num=(.tuple [.str "busy",.str x.l.num,.tuple [.str "line",.str y.l.num,.str y.l.st]],BU X.S i x.l (.tuple [.str "line",.str y.l.num,.str y.l.st])):=by
     simp only [B1,ei,ej,if_neg J]
    rw [L] at q;rw [decide_eq_false (λe=>J (V.str.inj e))];refine Cn ?_;walk_at"";refine Bf X.h X.dx _ rfl t.t.az rfl ?_;walk_at"";refine AF y.p a.Line y.dx _ _ rfl (t.t.ay hy) T.lc.cls T.lc.st rfl ?_;walk_at"";refine ⟨Av,λc nc=>?_⟩;have s2:=(Ag.refl H).upd (o:=.tup [.str "line",.str y.l.num,.str y.l.st]) nc;have e2:(upd H c (.tup [.str "line",.str y.l.num,.str y.l.st])) c=some (.tup [.str "line",.str y.l.num,.str y.l.st]):=Ai;have B:=t.same s2;generalize hG:upd H c (.tup [.str "line",.str y.l.num,.str y.l.st])=Y at s2 e2 B;refine ⟨X,R,i,x,.ref c,.tuple [.str "line",.str y.l.num,.str y.l.st],rfl,B,h,hd,.tup (.of e2) (.cons (.str _) (.cons (.str _) (.cons (.str _) .nil))),rfl,λI X3 r b D bB bK p3 ib=>?_⟩;exact q I X3 r b D bB bK ((Ah.of s2).trans p3) ib
  .have en:X.S.lns[A1 X.S.lns z]?=none:=Q8 (by show z ∉ (X.lines.map (·.l)).map (·.num);rw [TL];exact m);have L:B1 X.S i x.l z=(.tuple [.str "none",.str x.l.num,.str x.l.ai],BU X.S i x.l (.tuple [.str "none",.str x.l.ai])):=by
    simp only [B1,en]
   rw [L] at q;rw [t.ok.h8 m];walk_at"";refine Bf X.h X.dx _ rfl t.t.az rfl ?_;walk_at"";exact ⟨X,R,i,x,"none",rfl,t,h,hd,λI X3 r b D bB bK p3 ib=>q I X3 r b D bB bK p3 ib⟩
noncomputable def BM (S:PS)(z:Str):Option Gr:=S.aq.find? λg=>decide (g.pre=z)
theorem JI {l:List Gr}(nd:(l.map (·.pre)).Nodup){i:Nat}{g:Gr}(h:l[i]?=some g):l.find? (λy=>decide (y.pre=g.pre))=some g:=by
 induction l generalizing i with
 | nil=>simp at h
 | cons y l ih =>
  have B:=TV.mp nd;cases i with
  | zero =>
   have e:y=g:=by simpa using h
   subst e;rw [Vf,decide_eq_true rfl]
  | succ i =>
   have h:l[i]?=some g:=by simpa using h
   rw [Vf,decide_eq_false (λe=>B.1 (by show y.pre∈_;rw [e];exact Tr.mpr ⟨g,Tz h,rfl⟩))];exact ih B.2 h
theorem Ma {l:List Gr}{z:Str}(h:z ∉ l.map (·.pre)):l.find? (λy=>decide (y.pre=z))=none:=by rw [Zg];intro y B e;exact h (by rw [<- of_decide_eq_true e];exact Tr.mpr ⟨y,B,rfl⟩)
def Hs:V->PyData
 | .str z=>.str z
 | _=>.none
def D6 (g:Gr):List PyData:=(Cq g.hs (λk=>g.js.getD k false) g.hs.length).map Hs
def bL (g:Gr)(k:Int)(bq:Str):Gr:={ g with hs:=g.hs.set k.toNat (.str bq),ts:=g.ts.set k.toNat (g.ts.getD k.toNat 0+1) }
def Ck (S:PS)(i:Nat)(ln:Ln)(z:Str):PyData×PS :=
 match BM S z with
 | none=>(.tuple [.str "none",.str ln.num,.str ln.ai],BU S i ln (.tuple [.str "none",.str ln.ai]))
 | some g=>match BZ g.hs g.js 0 with
  | none=>(.tuple [.str "busy",.str ln.num,.tuple [.str "group",.str z,.tuple (D6 g)]],BU S i ln (.tuple [.str "group",.str z,.tuple (D6 g)]))
  | some k=>(.tuple [.str "takes",.str ln.num,.str z,.int k],{ S with aq:=S.aq.map (λy=>if y.pre=z then bL y k ln.num else y),lns:=S.lns.set i { ln with held:=ln.held++[(z,k)] } })
def Mb (g:Gr):Prop:=∀ v∈g.hs,v=.aa\/∃ z,v=.str z
theorem Ra {K:S3}{H:Hp}:∀{vs:List V},(∀ v∈vs,∃ z,v=.str z)->aS K H vs (vs.map Hs)
 | [],_=>.nil
 | v :: vs,h=>by
  obtain ⟨z,rfl⟩:=h v T9;exact .cons (.str z) (Ra λu m=>h u (T1 _ m))
theorem Mc:∀(vs:List V),b7 (vs.map Hs)=true
 | []=>rfl
 | v :: vs=>by
  show (Cr (Hs v) && b7 (vs.map Hs))=true;rw [Mc vs,Bool.and_true];cases v<;>rfl
theorem Agh {hs:List V}{st:Nat->Bool}{n:Nat}(h:∀ v∈hs,v=.aa\/∃ z,v=.str z):∀ v∈Cq hs st n,∃ z,v=.str z:=by
 intro v B;obtain ⟨k,_,rfl⟩:=Tr.mp B;by_cases e:hs.getD k .aa=.aa
 .rw [if_pos e];split
  .exact ⟨_,rfl⟩
  .exact ⟨_,rfl⟩
 .rw [if_neg e];rw [Uc] at e ⊢;cases hk:hs[k]? with
  | none=>rw [hk] at e;exact absurd rfl e
  | some u =>
   rw [hk] at e;exact (h u (Tz hk)).resolve_left e
def Rb (K:S3)(a:Ak):Sp:=λvs H Q _=>∃(X:HX)(R:AN)(i:Nat)(x:LX)(z:Str),vs=[.ref X.h,.ref x.p,.str z]/\HT K a H X R/\X.lines[i]?=some x/\bR X.S x.l.held/\z≠S9 ""/\(∀ g∈X.S.aq,Mb g)/\x.l.held.length<=9 /\
 ∀ H' X' r b,HT K a H' X' ((r,.lst [.ref b]) :: R)->X'.h=X.h->X'.S=(Ck X.S i x.l z).2->Ah H H'->Is K H' (.ref b) (Ck X.S i x.l z).1->Q (.ref r) H'
theorem Rc:AO ["self","line","figures","group","k"] ["self","line","figures"] (Ac (Ad (top 27) 7)):=.of
theorem JJ:Nm (Ac (Ad (top 27) 7)) "self":=.of
theorem Ht:Nm (Ac (Ad (top 27) 7)) "line":=.of
theorem Hu:Nm (Ac (Ad (top 27) 7)) "figures":=.of
theorem Md:Nm (Ac (Ad (top 27) 7)) "group":=.of
theorem JK:Nm (Ac (Ad (top 27) 7)) "k":=.of
theorem Agi (F:AJ K "into_group" "Hall.into_group" (Ad (top 27) 7) f fd)(T:TxtH P w K mg a)(jc:AK P w K mg base (AH P w) 5 a.ae "no_call" ["self","line","word"] (JD K a))(mY:AK P w K mg base (AH P w) 5 a.ae "busy" ["self","line","paper"] (L8 K a))(mL:AK P w K mg base AE 2 a.aI "take" ["self","who"] (Qw K a))(m5:AK P w K mg base AE 2 a.aI "paper" ["self"] (Qx K a)):AB P w K mg base (AH P w) 6 f fd ["self","line","figures"] (Rb K a):=by
 refine F.bb Rc λak A outer s H vs Q E Y h=>?_
 .obtain ⟨X,R,i,x,z,rfl,t,h,hd,z0,hg,aC,q⟩:=h;have jd:=T.hc.cls;have mZ:=T.hc.cls;have mM:=T.gc.cls;have m6:=T.gc.cls;have hu:=Y.units;have nd:=Rc.nd;have gq:(X.S.aq.map (·.pre)).Nodup:=by show ((X.groups.map (·.g)).map (·.pre)).Nodup;rw [TL];exact t.ok.pre
  refine ⟨_,(@Aj _ _ _ _ _ (AY (AZ (IW (P:=P) (w:=w) (K:=K)) (Aa 2 Hu) (Ax (Aa 0 JJ) rfl) (by with_unfolding_all rfl)) (Am (AM (AX jc jd (Aa 0 JJ) Y.d Bs (Ab (Aa 1 Ht) (Ab Aq Af))))) A4)
    (Aj (A8 3 nd Md (CN P w K (Ax (Aa 0 JJ) rfl) (Aa 2 Hu)))
    (Aj (A8 4 nd JK (AX mL mM (Aa 3 Md) Y.d A5 (Ab (Ax (Aa 1 Ht) rfl) Af)))
    (Aj (AY (AZ FP (Aa 4 JK) BV (AW _)) (Am (AM (AX mY mZ (Aa 0 JJ) Y.d Bs (Ab (Aa 1 Ht) (Ab (A2 (Ab Aq (Ab (Aa 2 Hu) (Ab (GU m5 m6 (Aa 3 Md) Y.d A5) Af)))) Af))))) A4)
    (Aj (Bj (De UT U9 Va Dp (Ax (Aa 1 Ht) rfl) (Ab (A2 (Ab (Aa 2 Hu) (Ab (Aa 4 JK) Af))) Af)))
    (Am (AM (Bx (Ab (A2 (Ab Aq (Ab (Ax (Aa 1 Ht) rfl) (Ab (Aa 2 Hu) (Ab (Aa 4 JK) Af))))) Af))))))))),?_⟩
  try dsimp only [aD,aE]
  have bf:start ["self","line","figures","group","k"] [V.ref X.h,V.ref x.p,V.str z]=[some (.ref X.h),some (.ref x.p),some (.str z),none,none]:=rfl;simp only [bf,Ug,Uh];walk_at"";refine AF X.h a.ae X.dx _ _ rfl t.t.az T.hc.cls T.hc.sw rfl ?_;refine Bf X.sd _ (.inr z) rfl rfl (.of t.t.sd) ?_;by_cases m:z∈X.groups.map (·.g.pre)
  .obtain ⟨j,g,I,rfl⟩:=Hi m;have hv:=t.ok.mG I;have ej:X.S.aq[j]?=some g.g:=by show (X.groups.map (·.g))[j]?=_;rw [Tp,I];rfl
   have eg:BM X.S g.g.pre=some g.g:=JI gq ej;have gk:=t.ok.gr g (Tz I);have rk:=t.t.kg I T.gc gk;obtain ⟨gdx,gfs,ge,gF⟩:=rk.ins;rw [hv];walk_at"";refine AF X.h a.ae X.dx _ _ rfl t.t.az T.hc.cls T.hc.sw rfl ?_;walk_at"";refine BG X.sd _ (.inr g.g.pre) _ rfl rfl (.of t.t.sd) hv ?_;walk_at"";refine DG ge (gF.m _ (by decide)) ?_;walk_at"";refine AF x.p a.Line x.dx _ _ rfl (t.t.ay h) T.lc.cls T.lc.nu rfl ?_;walk_at"";refine Fj g.p x.l.num a.aI g.ra g.rb g.rc g.g.hs g.g.js g.g.ts rfl ⟨rk,?_⟩;cases ff:BZ g.g.hs g.g.js 0 with
   | none =>
    have eD:Ck X.S i x.l g.g.pre=(.tuple [.str "busy",.str x.l.num,.tuple [.str "group",.str g.g.pre,.tuple (D6 g.g)]],BU X.S i x.l (.tuple [.str "group",.str g.g.pre,.tuple (D6 g.g)])):=by simp only [Ck,eg,ff]
    rw [eD] at q;intro B s1;have L:=t.same s1;have je:=rk.same s1;obtain ⟨ad0,ad1,ge1,gF1⟩:=je.ins;walk_at"";refine Bf X.h X.dx _ rfl L.t.az rfl ?_;walk_at"";refine DG ge1 (gF1.m _ (by decide)) ?_;refine FT g.p a.aI g.ra g.rb g.rc g.g.hs g.g.js g.g.ts rfl ⟨je,λH2 tp J ntp m7=>?_⟩;walk_at"";refine ⟨Av,λc nc=>?_⟩;have s3:=(Ag.refl H2).upd (o:=.tup [.str "group",.str g.g.pre,.ref tp]) nc;have e3:(upd H2 c (.tup [.str "group",.str g.g.pre,.ref tp])) c=some (.tup [.str "group",.str g.g.pre,.ref tp]):=Ai;have D:=(L.same J).same s3;generalize hG:upd H2 c (.tup [.str "group",.str g.g.pre,.ref tp])=O at s3 e3 D;have td:Cr (.tuple [.str "group",.str g.g.pre,.tuple (D6 g.g)])=true:=by show (true && (true && (b7 (D6 g.g) && true)))=true;rw [show b7 (D6 g.g)=true from Mc _];rfl
    refine ⟨X,R,i,x,.ref c,.tuple [.str "group",.str g.g.pre,.tuple (D6 g.g)],rfl,D,h,hd,.tup (.of e3) (.cons (.str _) (.cons (.str _) (.cons (.tup (.of (s3 _ _ m7)) (Ra (Agh (hg g.g (Tz ej))))) .nil))),td,λH4 X4 r b t4 ja ie p4 ib=>?_⟩;exact q H4 X4 r b t4 ja ie ((Ah.of s1).trans ((Ah.of J).trans ((Ah.of s3).trans p4))) ib
   | some k =>
    have eD:Ck X.S i x.l g.g.pre=(.tuple [.str "takes",.str x.l.num,.str g.g.pre,.int k],{ X.S with aq:=X.S.aq.map (λy=>if y.pre=g.g.pre then bL y k x.l.num else y),lns:=X.S.lns.set i { x.l with held:=x.l.held++[(g.g.pre,k)] } }):=by simp only [Ck,eg,ff]
    rw [eD] at q;intro B sx ea ec;have jg:B g.rb=some (.lst (g.g.js.map V.bl)):=sx _ _ (by
     intro m;simp only [Tq,Ue,or_false] at m;rcases m with e | e
     .exact rk.ab e.symm
     .exact rk.bc e) rk.hb
    obtain ⟨a1,p1⟩:=t.t.setG (g':={ g with g:=bL g.g k x.l.num }) I sx (λw m=>by simp only [Tq,Ue,or_false] at m;exact m.elim .inl λz=>.inr (.inr z)) rfl rfl ea jg ec;have L:HT K a B { X with groups:=X.groups.set j { g with g:=bL g.g k x.l.num } } R:=⟨a1,t.ok.setG p1 I rfl ⟨by show _=(g.g.hs.set _ _).length;rw [Td];exact gk.lj,by show (g.g.ts.set _ _).length=(g.g.hs.set _ _).length;rw [Td,Td];exact gk.lt,by show (g.g.hs.set _ _).length<=_;rw [Td];exact gk.z⟩⟩;have l1:B x.p=some (.ins a.Line x.dx x.fs):=by have z:=L.t.ay h;exact z
    have qL:B x.h=some (.lst (x.hv.map V.ref)):=by have z:=L.t.hZ h;exact z
    have hvl:x.hv.length<=9:=by rw [(t.ok.lx i x h).pr.len];exact aC
    walk_at"";refine AF x.p a.Line x.dx _ _ rfl l1 T.lc.cls T.lc.he rfl ?_;refine ⟨.inl ⟨rfl,_,.of qL⟩,?_⟩;walk_at"";refine ⟨Av,λu nu=>?_⟩;have J:=(Ag.refl B).upd (o:=.tup [.str g.g.pre,.int k]) nu;have e2:(upd B u (.tup [.str g.g.pre,.int k])) u=some (.tup [.str g.g.pre,.int k]):=Ai;have t2:=L.same J;generalize upd B u (.tup [.str g.g.pre,.int k])=H2 at J e2 t2 ⊢;walk_at"";refine DI x.h _ _ rfl rfl (J _ _ qL) (by rw [Tb,Tc];omega) ?_;obtain ⟨D,p3⟩:=t2.kc h e2 aC;have h3:(X.lines.set i { x with hv:=x.hv++[u],l:={ x.l with held:=x.l.held++[(g.g.pre,k)] } })[i]?=some { x with hv:=x.hv++[u],l:={ x.l with held:=x.l.held++[(g.g.pre,k)] } }:=A0 h;generalize upd H2 x.h (.lst (x.hv.map V.ref++[V.ref u]))=O at D p3 ⊢;have l3:=D.t.ay h3;walk_at"";refine AF x.p a.Line x.dx _ _ rfl l3 T.lc.cls T.lc.nu rfl ?_;walk_at"";refine ⟨Av,λb nb=>?_⟩;have s4:=(Ag.refl O).upd (o:=.tup [.str "takes",.str x.l.num,.str g.g.pre,.int k]) nb;have e4:(upd O b (.tup [.str "takes",.str x.l.num,.str g.g.pre,.int k])) b=some (.tup [.str "takes",.str x.l.num,.str g.g.pre,.int k]):=Ai;have t4:=D.same s4;generalize hG:upd O b (.tup [.str "takes",.str x.l.num,.str g.g.pre,.int k])=H4 at s4 e4 t4;refine ⟨Av,λr nr=>?_⟩;have p5:Ah H4 (upd H4 r (.lst [.ref b])):=.new nr;refine q _ _ r b (t4.new nr) rfl ?_ (p1.trans ((Ah.of J).trans (p3.trans ((Ah.of s4).trans p5)))) (.tup (.of (p5.t e4)) (.cons (.str _) (.cons (.str _) (.cons (.str _) (.cons (.int _) .nil)))));have e5:=HX.mI (X:=X) (i:=j) (g:=g) (g':={ g with g:=bL g.g k x.l.num }) (h:=λy=>bL y k x.l.num) t.ok.pre I rfl;have e6:=HX.ia (X:={ X with groups:=X.groups.set j { g with g:=bL g.g k x.l.num } }) (i:=i) (y:={ x with hv:=x.hv++[u],l:={ x.l with held:=x.l.held++[(g.g.pre,k)] } });exact e6.trans (by rw [e5])
  .have en:BM X.S z=none:=Ma (by show z ∉ (X.groups.map (·.g)).map (·.pre);rw [TL];exact m);have eD:Ck X.S i x.l z=(.tuple [.str "none",.str x.l.num,.str x.l.ai],BU X.S i x.l (.tuple [.str "none",.str x.l.ai])):=by
    simp only [Ck,en]
   rw [eD] at q;rw [t.ok.qD z0 m];walk_at"";refine Bf X.h X.dx _ rfl t.t.az rfl ?_;walk_at"";exact ⟨X,R,i,x,"none",rfl,t,h,hd,λO X3 r b D bB bK p3 ib=>q O X3 r b D bB bK p3 ib⟩
noncomputable def ES:List Str:=["1","2","3","4","5","6","7","8","9","0"]
noncomputable def Dh (n:Int):Str:=ES.getD (n - 1).toNat ""
theorem Agj {n:Int}(h:1<=n/\n<=10):Cm (ES.map V.str) (n - 1)=some (.str (Dh n)):=by
 have B:∀ m:Nat,m<10->Cm (ES.map V.str) (m:Int)=some (.str (ES.getD m "")):=by decide +kernel
 have e:n - 1=((n - 1).toNat:Int):=by omega
 rw [e];exact B _ (by omega)
theorem Me {n:Int}(h:1<=n/\n<=10):(Dh n).length=1:=by
 have B:∀ m:Nat,m<10->(ES.getD m "").length=1:=by decide +kernel
 exact B _ (by omega)
structure TxtG (P:Ta)(w:S6)(K:S3)(mg:Str->Option Value)(a:Ak):Prop extends TxtH P w K mg a where
 ik:mg "FIGURES"=some (.ref a.fU)
 kq:∀ H,Bh K H a.fU (ES.map V.str)
 kr:mg "NoFigure"=some (.ref a.iP)
 qM:UR K a.iP [.type "ValueError",.type "Exception",.type "BaseException",.type "object"] "ValueError.__new__"=true
def Rf (a:Ak):Sp:=λvs H Q E=>∃ n:Int,vs=[.int n]/\if 1<=n/\n<=10 then Q (.str (Dh n)) H else E (.ref a.iP) none H
def CQ (S:PS)(i:Nat)(ln:Ln):List PyData×PS :=
 if ln.aj+1<=10 then ([],{ S with lns:=S.lns.set i { ln with aj:=ln.aj+1 } })
 else ([.tuple [.str "over",.str ln.num,.str ln.ai]],BU { S with lns:=S.lns.set i { ln with aj:=ln.aj+1 } } i { ln with aj:=ln.aj+1 } (.tuple [.str "over",.str ln.ai]))
def Rg (K:S3)(a:Ak):Sp:=λvs H Q _=>∃(X:HX)(R:AN)(i:Nat)(x:LX),vs=[.ref X.h,.ref x.p]/\HT K a H X R/\X.lines[i]?=some x/\bR { X.S with lns:=X.S.lns.set i { x.l with aj:=x.l.aj+1 } } x.l.held /\
 ∀ H' X' r xs,HT K a H' X' ((r,.lst (xs.map V.ref)) :: R)->X'.h=X.h->X'.S=(CQ X.S i x.l).2->Ah H H'->BL K H' xs (CQ X.S i x.l).1->Q (.ref r) H'
noncomputable def As (ln:Ln):Ln:={ ln with ai:=ln.ai++Dh ln.aj,aj:=0 }
def BQ (S:PS)(i:Nat)(ln:Ln):PyData×PS :=
 let S1:PS:={ S with lns:=S.lns.set i (As ln) }
 if ((As ln).ai.length:Int)<=S.long - 2 then Ck S1 i (As ln) (As ln).ai
 else if ((As ln).ai.length:Int)<S.long then (.tuple [.str "figure",.str ln.num,.str (As ln).ai],S1)
 else B1 S1 i (As ln) (As ln).ai
structure Hv (S:PS)(i:Nat)(ln:Ln):Prop where
 p1:ln.aj<=10
 p0:0<=ln.aj
 st:ln.st≠"rests"
 f:ln.ai.length<=100
 hg:∀ g∈S.aq,Mb g
 aC:ln.held.length<=9
 h:bR { S with lns:=S.lns.set i (As ln) } ln.held
def Rh (K:S3)(a:Ak):Sp:=λvs H Q E=>∃(X:HX)(R:AN)(i:Nat)(x:LX),vs=[.ref X.h,.ref x.p]/\HT K a H X R/\X.lines[i]?=some x/\Hv X.S i x.l /\
 (x.l.aj=0->E (.ref a.fR) none H) /\
 (x.l.aj≠0->∀ H' X' r b,HT K a H' X' ((r,.lst [.ref b]) :: R)->X'.h=X.h->X'.S=(BQ X.S i x.l).2->Ah H H'->Is K H' (.ref b) (BQ X.S i x.l).1->Q (.ref r) H')
theorem Ri:AO ["many"] ["many"] (Ac (top 14)):=.of
theorem Rj:Nm (Ac (top 14)) "many":=.of
theorem Rk:Gm (Ac (top 14)) "FIGURES":=.of
theorem Agk:Gm (Ac (top 14)) "within":=.of
theorem Agl:Gm (Ac (top 14)) "len":=.of
theorem Agm:Gm (Ac (top 14)) "NoFigure":=.of
theorem Agn (F:AJ K "figure_of" "figure_of" (top 14) f fd)(T:TxtG P w K mg a)(D:B8 P w K mg base AE 1 "within" ["number","least","most"] F5):AB P w K mg base (AH P w) 2 f fd ["many"] (Rf a):=by
 refine F.bb Ri λI A outer s H vs Q E B h=>?_
 .obtain ⟨n,rfl,q⟩:=h;have hu:=B.units;have nd:=Ri.nd;refine ⟨_,(@Aj _ _ _ _ _ (AY (Dv (Dk (B9 D Agk B.d A5 (Ab (Aa 0 Rj) (Ab Az (Ab (BH Cy Agl T.n_len Cj (Ab (Fp (v:=.ref a.fU) Rk T.ik rfl) Af)) Af)))))) (Am (CM CL Agm rfl T.qM T.kr (Ab Aq Af))) A4)
    (Am (AM (BC BF (Fp (v:=.ref a.fU) Rk T.ik rfl) (AR GB (Aa 0 Rj) Az) (λ_ _=>rfl))))),?_⟩
  try dsimp only [aD,aE]
  walk_at"";refine Tg (B2 _ _ rfl (.inr (T.kq _)) ?_);refine B7 n 1 _ rfl ?_;walk_at"";have e:((Vy V.str ES).length:Int)=10:=rfl;rw [e];by_cases h:1<=n/\n<=10
  .rw [decide_eq_true h.1,decide_eq_true h.2];refine Ci ?_;walk_at"";rw [if_pos h] at q;exact Tg (Tw (N5 _ _ _ _ rfl ⟨rfl,T.kq _,Agj h,q⟩))
  .rw [if_neg h] at q;have e:(decide (1<=n) && decide (n<=10))=false:=by
    rw [Bool.and_eq_false_iff,decide_eq_false_iff_not,decide_eq_false_iff_not];omega
   rw [e];refine Cn ?_;exact ⟨by decide,q⟩
theorem Ago:AO ["self","line"] ["self","line"] (Ac (Ad (top 27) 5)):=.of
theorem Agp:Nm (Ac (Ad (top 27) 5)) "self":=.of
theorem Mf:Nm (Ac (Ad (top 27) 5)) "line":=.of
theorem Agq:Gm (Ac (Ad (top 27) 5)) "len":=.of
theorem Agr:Gm (Ac (Ad (top 27) 5)) "FIGURES":=.of
theorem Ags (F:AJ K "pulse" "Hall.pulse" (Ad (top 27) 5) f fd)(T:TxtG P w K mg a)(jc:AK P w K mg base (AH P w) 5 a.ae "no_call" ["self","line","word"] (JD K a)):AB P w K mg base (AH P w) 6 f fd ["self","line"] (Rg K a):=by
 refine F.bb Ago λak A outer s H vs Q E hr h=>?_
 .obtain ⟨X,R,i,x,rfl,t,h,hd,q⟩:=h;have jd:=T.hc.cls;have O:=t.ok.lx i x h;refine ⟨_,(@Aj _ _ _ _ _ (NG (Aa 1 Mf) Az Abf)
    (Aj (AY (AZ Ij (Ax (Aa 1 Mf) rfl) (BH Cy Agq T.n_len Cj (Ab (Fp (v:=.ref a.fU) Agr T.ik rfl) Af)) (AW _)) (Am (AM (Bx Af))) A4)
    (Am (AM (AX jc jd (Aa 0 Agp) hr.d Bs (Ab (Aa 1 Mf) (Ab Aq Af))))))),?_⟩
  try dsimp only [aD,aE]
  walk_at"";refine AF x.p a.Line x.dx _ _ rfl (t.t.ay h) T.lc.cls T.lc.pu rfl ?_;walk_at"";refine ⟨x.dx,_,t.t.ay h,(T8 rfl),?_⟩;obtain ⟨B,D⟩:=t.bz h { x with l:={ x.l with aj:=x.l.aj+1 } } rfl rfl rfl rfl rfl rfl rfl O.w O.wt;change HT K a (upd H x.p (.ins a.Line x.dx (An "pulses" (.int (x.l.aj+1)) x.fs))) _ _ at B;change Ah _ (upd H x.p (.ins a.Line x.dx (An "pulses" (.int (x.l.aj+1)) x.fs))) at D;have Y:(X.lines.set i { x with l:={ x.l with aj:=x.l.aj+1 } })[i]?=some { x with l:={ x.l with aj:=x.l.aj+1 } }:=A0 h;generalize upd H x.p (.ins a.Line x.dx (An "pulses" (.int (x.l.aj+1)) x.fs))=H1 at B D ⊢;have l1:=B.t.ay Y;have J:=HX.ia (X:=X) (i:=i) (y:={ x with l:={ x.l with aj:=x.l.aj+1 } });walk_at"";refine AF x.p a.Line x.dx _ _ rfl l1 T.lc.cls T.lc.pu rfl ?_;walk_at"";refine Tg (B2 _ _ rfl (.inr (T.kq _)) ?_);have e:((Vy V.str ES).length:Int)=10:=rfl;rw [e];walk_at"";by_cases I:x.l.aj+1<=10
  .have L:CQ X.S i x.l=([],{ X.S with lns:=X.S.lns.set i { x.l with aj:=x.l.aj+1 } }):=if_pos I;rw [L] at q;refine B6 (decide_eq_true I) ?_;walk_at"";refine ⟨Av,λr nr=>?_⟩;exact q _ _ r [] (B.new nr) rfl J (D.trans (.new nr)) .nil
  .have L:CQ X.S i x.l=([.tuple [.str "over",.str x.l.num,.str x.l.ai]],BU { X.S with lns:=X.S.lns.set i { x.l with aj:=x.l.aj+1 } } i { x.l with aj:=x.l.aj+1 } (.tuple [.str "over",.str x.l.ai])):=if_neg I;rw [L] at q;refine BX (decide_eq_false I) ?_;walk_at"";refine Bf X.h X.dx _ rfl B.t.az rfl ?_;walk_at"";refine GH { X with lines:=X.lines.set i { x with l:={ x.l with aj:=x.l.aj+1 } } } R i { x with l:={ x.l with aj:=x.l.aj+1 } } ("over") rfl ⟨B,Y,by rw [J];exact hd,λH3 X3 r b t3 bB bK p3 ib=>?_⟩;rw [J] at bK;exact q H3 X3 r [b] t3 bB bK (D.trans p3) (.one ib rfl)
theorem Rl:AO ["self","line","many"] ["self","line"] (Ac (Ad (top 27) 6)):=.of
theorem JL:Nm (Ac (Ad (top 27) 6)) "self":=.of
theorem DP:Nm (Ac (Ad (top 27) 6)) "line":=.of
theorem Mg:Nm (Ac (Ad (top 27) 6)) "many":=.of
theorem Agt:Gm (Ac (Ad (top 27) 6)) "len":=.of
theorem Agu:Gm (Ac (Ad (top 27) 6)) "figure_of":=.of
theorem Agv:Gm (Ac (Ad (top 27) 6)) "NotSo":=.of
theorem Agw (F:AJ K "gap" "Hall.gap" (Ad (top 27) 6) f fd)(T:TxtG P w K mg a)(m8:B8 P w K mg base (AH P w) 2 "figure_of" ["many"] (Rf a))(aa4:AK P w K mg base (AH P w) 6 a.ae "into_group" ["self","line","figures"] (Rb K a))(aa5:AK P w K mg base (AH P w) 6 a.ae "to_line" ["self","line","figures"] (Q7 K a)):AB P w K mg base (AH P w) 7 f fd ["self","line"] (Rh K a):=by
 refine F.bb Rl λak A outer s H vs Q E hr h=>?_
 .obtain ⟨X,R,i,x,rfl,t,h,ok,q0,q⟩:=h;have aa6:=T.hc.cls;have aa7:=T.hc.cls;have hu:=hr.units;have nd:=Rl.nd;have lx:=t.ok.lx i x h;refine ⟨_,(@Aj _ _ _ _ _ (AY (AZ (By hu) (Ax (Aa 1 DP) rfl) Az (AW _)) (Am (CM CL Agv rfl T.mH T.i8 (Ab Aq Af))) A4)
    (Aj (NG (Aa 1 DP) (B9 m8 Agu hr.d Bs (Ab (Ax (Aa 1 DP) rfl) Af)) Ad5)
    (Aj (Br (Aa 1 DP) Az rfl)
    (Aj (A8 2 nd Mg (BH Cy Agt T.n_len Cj (Ab (Ax (Aa 1 DP) rfl) Af)))
    (Aj (AY (AZ Ij (Aa 2 Mg) (AR GB (Ax (Aa 0 JL) rfl) Az) (AW _)) (Am (AM (AX aa4 aa6 (Aa 0 JL) hr.d Bs (Ab (Aa 1 DP) (Ab (Ax (Aa 1 DP) rfl) Af))))) A4)
    (Aj (AY (AZ Nv (Aa 2 Mg) (Ax (Aa 0 JL) rfl) (AW _)) (Am (AM (Bx (Ab (A2 (Ab Aq (Ab (Ax (Aa 1 DP) rfl) (Ab (Ax (Aa 1 DP) rfl) Af)))) Af)))) A4)
    (Am (AM (AX aa5 aa7 (Aa 0 JL) hr.d Bs (Ab (Aa 1 DP) (Ab (Ax (Aa 1 DP) rfl) Af))))))))))),?_⟩
  try dsimp only [aD,aE]
  walk_at"";refine AF x.p a.Line x.dx _ _ rfl (t.t.ay h) T.lc.cls T.lc.pu rfl ?_;walk_at"";by_cases hp:x.l.aj=0
  .refine B6 (decide_eq_true (congrArg V.int hp)) ?_;exact ⟨Av,q0 hp⟩
  .have q:=q hp;refine BX (decide_eq_false (λe=>hp (V.int.inj e))) ?_;have pr:1<=x.l.aj/\x.l.aj<=10:=⟨by have:=ok.p0;omega,ok.p1⟩;have fl:=Me pr;walk_at"";refine AF x.p a.Line x.dx _ _ rfl (t.t.ay h) T.lc.cls T.lc.di rfl ?_;walk_at"";refine AF x.p a.Line x.dx _ _ rfl (t.t.ay h) T.lc.cls T.lc.pu rfl ?_;walk_at"";rw [if_pos pr];walk_at"";refine ⟨(by rw [fl,Tc];have:=ok.f;omega),?_⟩;refine ⟨x.dx,_,t.t.ay h,(T8 rfl),?_⟩;walk_at"";refine Bc x.p a.Line x.dx _ rfl Ai T.lc.cls T.lc.pu (T8 rfl) ?_;rw [D8];obtain ⟨B,I⟩:=t.bz h { x with l:=As x.l } rfl rfl rfl rfl rfl rfl rfl lx.w lx.wt;change HT K a (upd H x.p (.ins a.Line x.dx (An "pulses" (.int 0) (An "dialled_so_far" (.str (x.l.ai++Dh x.l.aj)) x.fs)))) _ _ at B;change Ah _ (upd H x.p (.ins a.Line x.dx (An "pulses" (.int 0) (An "dialled_so_far" (.str (x.l.ai++Dh x.l.aj)) x.fs)))) at I;have h1:(X.lines.set i { x with l:=As x.l })[i]?=some { x with l:=As x.l }:=A0 h;generalize upd H x.p (.ins a.Line x.dx (An "pulses" (.int 0) (An "dialled_so_far" (.str (x.l.ai++Dh x.l.aj)) x.fs)))=J at B I ⊢;have L:J x.p=some (.ins a.Line x.dx (BO x.l.num x.i x.h x.l.st (As x.l).ai 0 (Bk x.l.ah) x.wv)):=by have z:=B.t.ay h1;exact z
   have x1:J X.h=some (.ins a.ae X.dx (EN X.long X.ld X.sd X.qa X.da)):=B.t.az;have D:=HX.ia (X:=X) (i:=i) (y:={ x with l:=As x.l });have gl:(As x.l).ai.length=x.l.ai.length+1:=by show (x.l.ai++Dh x.l.aj).length=_;rw [A9,fl]
   walk_at"";refine AF x.p a.Line x.dx _ _ rfl L T.lc.cls T.lc.di rfl ?_;refine Tw (GG ((As x.l).ai) rfl (by rw [Tc,gl];have:=ok.f;omega) ?_);walk_at"";refine AF X.h a.ae X.dx _ _ rfl x1 T.hc.cls T.hc.lo rfl ?_;walk_at"";by_cases O:((As x.l).ai.length:Int)<=X.long - 2
   .have Y:BQ X.S i x.l=Ck { X.S with lns:=X.S.lns.set i (As x.l) } i (As x.l) (As x.l).ai:=if_pos O;rw [Y] at q;refine B6 (decide_eq_true O) ?_;walk_at"";refine Bf X.h X.dx _ rfl x1 rfl ?_;walk_at"";refine AF x.p a.Line x.dx _ _ rfl L T.lc.cls T.lc.di rfl ?_;walk_at"";refine GH { X with lines:=X.lines.set i { x with l:=As x.l } } R i { x with l:=As x.l } ((As x.l).ai) rfl ⟨B,h1,by rw [D];exact ok.h,?_,by rw [D];exact ok.hg,ok.aC,λH3 X3 r b t3 bB bK p3 ib=>?_⟩
    .intro e;rw [e] at gl;have:(S9 "").length=0:=rfl;omega
    .rw [D] at bK ib;exact q H3 X3 r b t3 bB bK (I.trans p3) ib
   .refine BX (decide_eq_false O) ?_;walk_at"";refine AF X.h a.ae X.dx _ _ rfl x1 T.hc.cls T.hc.lo rfl ?_;walk_at"";by_cases c2:((As x.l).ai.length:Int)<X.long
    .have Y:BQ X.S i x.l=(.tuple [.str "figure",.str x.l.num,.str (As x.l).ai],{ X.S with lns:=X.S.lns.set i (As x.l) }):=(if_neg O).trans (if_pos c2);rw [Y] at q;refine B6 (decide_eq_true c2) ?_;walk_at"";refine AF x.p a.Line x.dx _ _ rfl L T.lc.cls T.lc.nu rfl ?_;walk_at"";refine AF x.p a.Line x.dx _ _ rfl L T.lc.cls T.lc.di rfl ?_;walk_at"";refine ⟨Av,λb nb=>?_⟩;have s4:=(Ag.refl J).upd (o:=.tup [.str "figure",.str x.l.num,.str (As x.l).ai]) nb;have e4:(upd J b (.tup [.str "figure",.str x.l.num,.str (As x.l).ai])) b=some (.tup [.str "figure",.str x.l.num,.str (As x.l).ai]):=Ai;have t4:=B.same s4;generalize upd J b (.tup [.str "figure",.str x.l.num,.str (As x.l).ai])=H4 at s4 e4 t4 ⊢;refine ⟨Av,λr nr=>?_⟩;have p5:Ah H4 (upd H4 r (.lst [.ref b])):=.new nr;exact q _ _ r b (t4.new nr) rfl D (I.trans ((Ah.of s4).trans p5)) (.tup (.of (p5.t e4)) (.cons (.str _) (.cons (.str _) (.cons (.str _) .nil))))
    .have Y:BQ X.S i x.l=B1 { X.S with lns:=X.S.lns.set i (As x.l) } i (As x.l) (As x.l).ai:=(if_neg O).trans (if_neg c2);rw [Y] at q;refine BX (decide_eq_false c2) ?_;walk_at"";refine Bf X.h X.dx _ rfl x1 rfl ?_;walk_at"";refine AF x.p a.Line x.dx _ _ rfl L T.lc.cls T.lc.di rfl ?_;walk_at"";refine AF { X with lines:=X.lines.set i { x with l:=As x.l } } R i { x with l:=As x.l } ((As x.l).ai) rfl B h1 (by rw [D];exact ok.h) ok.st (λH3 X3 r b t3 bB bK p3 ib=>?_);rw [D] at bK ib;exact q H3 X3 r b t3 bB bK (I.trans p3) ib
noncomputable def Mh (b:Bool):Str:=if b then "stick" else "mend"
noncomputable def BI (S:PS)(w:Str):Option (List V):=if w=S9 "" then some S.sk.hs else (BM S w).map (·.hs)
noncomputable def CS (S:PS)(b:Bool)(w:Str)(k:Int):PS :=
 if w=S9 "" then { S with sk:={ S.sk with js:=S.sk.js.set k.toNat b } }
 else { S with aq:=S.aq.map λg=>if g.pre=w then { g with js:=g.js.set k.toNat b } else g }
def Rm (K:S3)(a:Ak):Sp:=λvs H Q E=>∃(X:HX)(R:AN)(b:Bool)(z:Str)(k:Int),vs=[.ref X.h,.str (Mh b),.str z,.int k]/\HT K a H X R/\Ok z /\
 match BI X.S z with
 | none=>E (.ref a.cz) none H
 | some hs=>if CH k hs=true then ∀ H' X' r,HT K a H' X' ((r,.lst (([]:List Addr).map V.ref)) :: R)->X'.h=X.h->X'.S=CS X.S b z k->Ah H H'->Q (.ref r) H' else E (.ref a.cz) none H
section
variable {K:S3}{a:Ak}{H:Hp}{X:HX}{R:AN}
theorem HT.aa8 (t:HT K a H X R)(sc:EL K a a.aL)(gc:Em K a a.aI){z:Str}{hs:List V}(e:BI X.S z=some hs) :
  ∃ p C J D L js ts,C∈a.bD/\(∃ dx fs,H p=some (.ins C dx fs)/\Fs fs J D L)/\Cp K a H p C J D L hs js ts/\((z=S9 ""/\X.sk.p=p)\/∃(i:Nat)(g:RX),X.groups[i]?=some g/\g.g.pre=z/\g.p=p) /\
   ∀(b:Bool)(k:Int),∃ I:HX,I.S=CS X.S b z k/\I.h=X.h/\HT K a (upd H D (.lst ((js.set k.toNat b).map V.bl))) I R/\Ah H (upd H D (.lst ((js.set k.toNat b).map V.bl))):=by
 by_cases B:z=S9 ""
 .have s:=t.t.ki sc t.ok.sk;obtain ⟨dx,O⟩:=s.ins;have eh:X.sk.k.hs=hs:=by
   unfold BI at e;rw [if_pos B] at e;exact Ts e
  subst eh;refine ⟨X.sk.p,a.aL,X.sk.ra,X.sk.rb,X.sk.rc,X.sk.k.js,X.sk.k.ts,sc.c.mem,⟨dx,_,O,Ji ..⟩,s.r,.inl ⟨B,rfl⟩,λb k=>⟨{ X with sk:={ X.sk with k:={ X.sk.k with js:=X.sk.k.js.set k.toNat b } } },?_,rfl,t.aaV (js':=X.sk.k.js.set k.toNat b) (by rw [Td]),.chg s.hb rfl⟩⟩;unfold CS;rw [if_pos B];rfl
 .have Y:(X.S.aq.map (·.pre)).Nodup:=by show ((X.groups.map (·.g)).map (·.pre)).Nodup;rw [TL];exact t.ok.pre
  have m:z∈X.groups.map (·.g.pre):=by apply XE;intro m;unfold BI at e;rw [if_neg B,show BM X.S z=none from Ma (by show z ∉ (X.groups.map (·.g)).map (·.pre);rw [TL];exact m)] at e;cases e
  obtain ⟨i,g,h,rfl⟩:=Hi m;have ej:X.S.aq[i]?=some g.g:=by show (X.groups.map (·.g))[i]?=_;rw [Tp,h];rfl
  have eh:g.g.hs=hs:=by unfold BI at e;rw [if_neg B,show BM X.S g.g.pre=some g.g from JI Y ej] at e;exact Ts e
  subst eh;have r:=t.t.kg h gc (t.ok.gr g (Tz h));refine ⟨g.p,a.aI,g.ra,g.rb,g.rc,g.g.js,g.g.ts,gc.mem,r.ins,r,.inr ⟨i,g,h,rfl,rfl⟩,λb k=>⟨{ X with groups:=X.groups.set i { g with g:={ g.g with js:=g.g.js.set k.toNat b } } },?_,rfl,t.aaX h (js':=g.g.js.set k.toNat b) (by rw [Td]),.chg r.hb rfl⟩⟩;unfold CS;rw [if_neg B];exact HX.mI (h:=λy=>{ y with js:=y.js.set k.toNat b }) t.ok.pre h rfl
theorem Rn {S:PS}{z:Str}(e:BI S z=none):z≠S9 ""/\z ∉ S.aq.map (·.pre):=by
 unfold BI at e;by_cases B:z=S9 ""
 .rw [if_pos B] at e;cases e
 .rw [if_neg B] at e;refine ⟨B,λm=>?_⟩;obtain ⟨g,mg,D⟩:=Tr.mp m;unfold BM at e;rw [ug,Zg] at e;exact e g mg (decide_eq_true D)
end
theorem Ro:AO ["self","word","where","k"] ["self","word","where","k"] (Ac (Ad (top 27) 2)):=.of
theorem Rp:Nm (Ac (Ad (top 27) 2)) "self":=.of
theorem Agx:Nm (Ac (Ad (top 27) 2)) "word":=.of
theorem Rq:Nm (Ac (Ad (top 27) 2)) "where":=.of
theorem Rr:Nm (Ac (Ad (top 27) 2)) "k":=.of
theorem Agy (F:AJ K "at_switch" "Hall.at_switch" (Ad (top 27) 2) f fd)(T:TxtH P w K mg a)(V:AK P w K mg base (AH P w) 1 a.ae "switches_of" ["self","where"] (F9 K a))(m9:∀ C∈a.bD,AK P w K mg base (AH P w) 3 C "stick" ["self","k"] (Jc K a true))(ni:∀ C∈a.bD,AK P w K mg base (AH P w) 3 C "mend" ["self","k"] (Jc K a false)):AB P w K mg base (AH P w) 4 f fd ["self","word","where","k"] (Rm K a):=by
 refine F.bb Ro λak A outer s H vs Q E J h=>?_
 .obtain ⟨X,R,b,z,k,rfl,t,Y,q⟩:=h;have c6:=T.c6;have kz:=T.hc.cls;have hu:=J.units;have nd:=Ro.nd;refine ⟨_,(@Aj _ _ _ _ _ (AY (AZ (By hu) (Aa 1 Agx) Aq (AW _)) (Am (Bj (Lf m9 c6 (AX V kz (Aa 0 Rp) J.d Bs (Ab (Aa 2 Rq) Af)) J.d Bs (Ab (Aa 3 Rr) Af)))) (Am (Bj (Lf ni c6 (AX V kz (Aa 0 Rp) J.d Bs (Ab (Aa 2 Rq) Af)) J.d Bs (Ab (Aa 3 Rr) Af)))))
    (Am (AM (Bx Af)))),?_⟩
  try dsimp only [aD,aE]
  have D:X.S.aq.map (·.pre)=X.groups.map (·.g.pre):=by show (X.groups.map (·.g)).map (·.pre)=_;rw [TL];rfl
  cases eh:BI X.S z with
  | none =>
   rw [eh] at q;obtain ⟨z0,zn⟩:=Rn eh;rw [D] at zn;cases b;all_goals
    walk_at"";refine Bf X.h X.dx _ rfl t.t.az rfl ?_;walk_at"";exact ⟨X,R,z,rfl,t,Y,λe=>absurd e z0,λi g L e=>absurd (Tr.mpr ⟨g,Tz L,e⟩) zn,λ_ _=>q⟩
  | some hs =>
   rw [eh] at q;dsimp only at q;obtain ⟨p,C,ra,rb,rc,js,ts,mC,⟨dx,fs,ep,F3⟩,rk,O,b8⟩:=t.aa8 T.sc T.gc eh;have go:∀(cont:VK),cont (.ref p) H->F9 K a [.ref X.h,.str z] H cont E:=λcont c=>by
    refine B7 X R z rfl ⟨t,Y,λe=>?_,λi g L e=>?_,λn0 n=>?_⟩
    .rcases O with ⟨_,rfl⟩ | ⟨j,g,I,B,_⟩
     .exact c
     .exact absurd (B.trans e) (t.ok.ne g (Tz I))
    .rcases O with ⟨B,_⟩ | ⟨j,g2,I,B,rfl⟩
     .exact absurd (e.trans B) (t.ok.ne g (Tz L))
     .by_cases ij:i=j
      .subst ij;rw [L] at I;cases I;exact c
      .exact absurd (e.trans B.symm) (Dz t.ok.pre (i:=i) (j:=j) (by rw [Tp,L];rfl) (by rw [Tp,I];rfl) ij)
    .rcases O with ⟨B,_⟩ | ⟨j,g2,I,B,_⟩
     .exact absurd B n0
     .exact absurd (Tr.mpr ⟨g2,Tz I,B⟩) n
   cases b;all_goals
    walk_at"";refine Bf X.h X.dx _ rfl t.t.az rfl ?_;walk_at"";dsimp only [BN];refine go _ ?_;refine BG p C dx fs rfl mC ep (F3.m _ (by decide)) ?_;walk_at"";refine Fj p k C ra rb rc hs js ts rfl ⟨rk,?_⟩;by_cases hk:CH k hs=true
    .rw [if_pos hk] at q ⊢;obtain ⟨X',e1,B,t2,p2⟩:=b8 _ k;walk_at"";refine ⟨Av,λr nr=>?_⟩;exact q _ X' r (t2.new nr) B e1 (p2.trans (.new nr))
    .rw [if_neg hk] at q ⊢;exact q
inductive LW where
 | lift | bt | gap | aW
noncomputable def LW.wo:LW->Str
 | .lift=>"lift" | .bt=>"pulse" | .gap=>"gap" | .aW=>"hang"
noncomputable def LW.cD:LW->List Str
 | .lift=>["rests","rung"] | .bt=>["dials"] | .gap=>["dials"] | .aW=>["waits","dials","rings","talks","told"]
noncomputable def LW.fits (d:LW)(ln:Ln):Bool:=decide (ln.st∈d.cD) && (match d with | .gap=>decide (ln.aj≠0) | _=>true)
def LW.ok (d:LW)(S:PS)(i:Nat)(ln:Ln):Prop:=match d with
 | .lift=>Ho S i ln
 | .bt=>bR { S with lns:=S.lns.set i { ln with aj:=ln.aj+1 } } ln.held
 | .gap=>Hv S i ln
 | .aW=>Fz S i ln
noncomputable def LW.go (d:LW)(S:PS)(i:Nat)(ln:Ln):List PyData×PS:=match d with
 | .lift=>([(B0 S i ln).1],(B0 S i ln).2)
 | .bt=>CQ S i ln
 | .gap=>([(BQ S i ln).1],(BQ S i ln).2)
 | .aW=>Cs S i ln
def Rt (K:S3)(a:Ak):Sp:=λvs H Q E=>∃(X:HX)(R:AN)(d:LW)(z:Str),vs=[.ref X.h,.str d.wo,.str z]/\HT K a H X R/\Ok z/\X.q.length<1000 /\
 (z ∉ X.S.lns.map (·.num)->E (.ref a.d7) none H) /\
 ∀(i:Nat)(ln:Ln),X.S.lns[i]?=some ln->ln.num=z->Ok ln.st/\(d.fits ln=false->(d=.gap->ln.st∈d.cD->Hv X.S i ln)/\E (.ref a.fR) none H) /\
  (d.fits ln=true->d.ok X.S i ln/\∀ H' X' r xs,HT K a H' X' ((r,.lst (xs.map V.ref)) :: R)->X'.h=X.h->X'.S=(d.go X.S i ln).2->Ah H H'->BL K H' xs (d.go X.S i ln).1->Q (.ref r) H')
theorem Agz (z:Str)(ks:List Str):C4 (.str z) (ks.map V.str)=decide (z∈ks):=by
 unfold C4;rw [List.any_map,VF,ub,decide_eq_true_eq];constructor
 .intro B;obtain ⟨k,hk,e⟩:=B;have D:decide (k=z)=true:=by simpa [DY] using e
  rw [<- of_decide_eq_true D];exact hk
 .exact λh=>⟨z,h,by simp [DY]⟩
theorem AgA {S:PS}{i:Nat}{ln:Ln}:Cr (B0 S i ln).1=true:=by
 unfold B0;split
 .rfl
 .split
  .rfl
  .split<;>rfl
theorem AgB {S:PS}{i:Nat}{ln:Ln}{z:Str}:Cr (B1 S i ln z).1=true:=by
 unfold B1;split
 .rfl
 .split<;>rfl
theorem AgC {S:PS}{i:Nat}{ln:Ln}{z:Str}:Cr (Ck S i ln z).1=true:=by
 unfold Ck;split
 .rfl
 .split
  .rename_i g _ _ _
   show (true && (true && ((true && (true && (b7 (D6 g) && true))) && true)))=true;rw [show b7 (D6 g)=true from Mc _];rfl
  .rfl
theorem AgD {S:PS}{i:Nat}{ln:Ln}:Cr (BQ S i ln).1=true:=by
 unfold BQ;dsimp only;split
 .exact AgC
 .split
  .rfl
  .exact AgB
theorem Ru:AO ["self","word","number","line"] ["self","word","number"] (Ac (Ad (top 27) 3)):=.of
theorem Hw:Nm (Ac (Ad (top 27) 3)) "self":=.of
theorem Hx:Nm (Ac (Ad (top 27) 3)) "word":=.of
theorem AgE:Nm (Ac (Ad (top 27) 3)) "number":=.of
theorem FC:Nm (Ac (Ad (top 27) 3)) "line":=.of
theorem AgF:Gm (Ac (Ad (top 27) 3)) "WAYS":=.of
theorem AgG:Gm (Ac (Ad (top 27) 3)) "NotSo":=.of
theorem AgH (F:AJ K "at_line" "Hall.at_line" (Ad (top 27) 3) f fd)(T:TxtG P w K mg a)(gu:AK P w K mg base (AH P w) 1 a.ae "line_of" ["self","number"] (Hh K a))(aa9:AK P w K mg base AE 3 a.ae "lift" ["self","line"] (QY K a))(aba:AK P w K mg base (AH P w) 6 a.ae "hang" ["self","line"] (QZ K a))(abb:AK P w K mg base (AH P w) 6 a.ae "pulse" ["self","line"] (Rg K a))(abc:AK P w K mg base (AH P w) 7 a.ae "gap" ["self","line"] (Rh K a)):AB P w K mg base (AH P w) 8 f fd ["self","word","number"] (Rt K a):=by
 refine F.bb Ru λak A outer s H vs Q E O h=>?_
 .obtain ⟨X,R,d,z,rfl,t,zk,qz,q0,q⟩:=h;have abd:=T.hc.cls;have abe:=T.hc.cls;have abf:=T.hc.cls;have abg:=T.hc.cls;have gv:=T.hc.cls;have hu:=O.units;have nd:=Ru.nd;obtain ⟨w1,w2,w3,w4,kd,sq1,sq2,sq3,sq4⟩:=T.cD;have B:X.S.lns.map (·.num)=X.lines.map (·.l.num):=by show (X.lines.map (·.l)).map (·.num)=_;rw [TL];rfl
  rw [B] at q0;refine ⟨_,(@Aj _ _ _ _ _ (A8 3 nd FC (AX gu gv (Aa 0 Hw) O.d Bs (Ab (Aa 2 AgE) Af)))
    (Aj (AY (AZ Og (Ax (Aa 3 FC) rfl) (CN P w K (Fp (v:=.ref a.fT) AgF T.kj rfl) (Aa 1 Hx)) (by with_unfolding_all rfl)) (Am (CM CL AgG rfl T.mH T.i8 (Ab (Fo (Cb Aq (Cb (GW (Aa 1 Hx)) (Cb Aq (Cb (GO (Ax (Aa 3 FC) rfl)) Fn))))) Af))) A4)
    (Aj (AY (AZ (By hu) (Aa 1 Hx) Aq (AW _)) (Am (AM (AX aa9 abd (Aa 0 Hw) O.d A5 (Ab (Aa 3 FC) Af)))) A4)
    (Aj (AY (AZ (By hu) (Aa 1 Hx) Aq (AW _)) (Am (AM (AX abb abf (Aa 0 Hw) O.d Bs (Ab (Aa 3 FC) Af)))) A4)
    (Aj (AY (AZ (By hu) (Aa 1 Hx) Aq (AW _)) (Am (AM (AX abc abg (Aa 0 Hw) O.d Bs (Ab (Aa 3 FC) Af)))) A4)
    (Am (AM (AX aba abe (Aa 0 Hw) O.d Bs (Ab (Aa 3 FC) Af))))))))),?_⟩
  try dsimp only [aD,aE]
  have bf:start ["self","word","number","line"] [V.ref X.h,V.str d.wo,V.str z]=[some (.ref X.h),some (.str d.wo),some (.str z),none]:=rfl;simp only [bf,Ug,Uh];walk_at"";refine Bf X.h X.dx _ rfl t.t.az rfl ?_;walk_at"";refine B7 X R z rfl ⟨t,zk,λi x h ez=>?_,q0⟩;have ej:X.S.lns[i]?=some x.l:=by show (X.lines.map (·.l))[i]?=_;rw [Tp,h];rfl
  obtain ⟨sk,qf,qt⟩:=q i x.l ej ez;have g9:=G8 sk;have Y:Ua.length=0:=rfl;have e1:(S9 "no ").length=3:=by decide +kernel
  have e2:(S9 " of a line in the way ").length=22:=by decide +kernel
  have lw:d.wo.length<=10:=by cases d<;>decide +kernel
  walk_at"";refine AF x.p a.Line x.dx _ _ rfl (t.t.ay h) T.lc.cls T.lc.st rfl ?_;walk_at"";have key:∃ tw,Bp [((.inr "lift":Au),V.ref w1),(.inr "pulse",.ref w2),(.inr "gap",.ref w3),(.inr "hang",.ref w4)] (.inr d.wo)=some (.ref tw)/\∀ H,Bh K H tw (d.cD.map V.str):=by
   cases d
   .exact ⟨w1,rfl,sq1⟩
   .exact ⟨w2,rfl,sq2⟩
   .exact ⟨w3,rfl,sq3⟩
   .exact ⟨w4,rfl,sq4⟩
  obtain ⟨tw,ev,sqw⟩:=key;refine BG a.fT _ (.inr d.wo) _ rfl rfl (.inr kd) ev ?_;refine Tg (Iw tw _ rfl (.inr (sqw _)) rfl (by cases d<;>rfl) ?_);rw [Agz];by_cases hw:x.l.st∈d.cD
  .rw [decide_eq_true hw];cases d with
   | lift =>
    obtain ⟨ok,q⟩:=qt (by unfold LW.fits;rw [decide_eq_true hw];rfl);walk_at"";refine Bf X.h X.dx _ rfl t.t.az rfl ?_;walk_at"";exact ⟨X,R,i,x,rfl,t,h,qz,ok,λD I r b J eh L p ib=>q D I r [b] J eh L p (.one ib AgA)⟩
   | bt =>
    obtain ⟨ok,q⟩:=qt (by unfold LW.fits;rw [decide_eq_true hw];rfl);walk_at"";refine Bf X.h X.dx _ rfl t.t.az rfl ?_;walk_at"";exact ⟨X,R,i,x,rfl,t,h,ok,λD I r xs J eh L p td=>q D I r xs J eh L p td⟩
   | gap =>
    walk_at"";refine Bf X.h X.dx _ rfl t.t.az rfl ?_;walk_at"";by_cases hp:x.l.aj=0
    .obtain ⟨ok,e⟩:=qf (by unfold LW.fits;rw [decide_eq_true hw];dsimp only;rw [decide_eq_false (λn=>n hp)];rfl);exact ⟨X,R,i,x,rfl,t,h,ok rfl hw,λ_=>e,λn=>absurd hp n⟩
    .obtain ⟨ok,q⟩:=qt (by unfold LW.fits;rw [decide_eq_true hw];dsimp only;rw [decide_eq_true hp];rfl);exact ⟨X,R,i,x,rfl,t,h,ok,λn=>absurd n hp,λ_ D I r b J eh L p ib=>q D I r [b] J eh L p (.one ib AgD)⟩
   | aW =>
    obtain ⟨ok,q⟩:=qt (by unfold LW.fits;rw [decide_eq_true hw];rfl);walk_at"";refine Bf X.h X.dx _ rfl t.t.az rfl ?_;walk_at"";exact ⟨X,R,i,x,rfl,t,h,qz,ok,λD I r xs J eh L p td=>q D I r xs J eh L p td⟩
  .rw [decide_eq_false hw];obtain ⟨_,e⟩:=qf (by unfold LW.fits;rw [decide_eq_false hw];rfl);walk_at"";refine ⟨(by simp only [A9,Y,e1,e2,Tc];omega),?_⟩;walk_at"";refine Tg (EE _ rfl ⟨(by rw [Tc];omega),_,rfl,?_⟩);refine ⟨(by simp only [A9,Y,e1,e2,Tc];omega),?_⟩;walk_at"";refine ⟨(by simp only [A9,Y,e1,e2,Tc];omega),?_⟩;walk_at"";refine AF x.p a.Line x.dx _ _ rfl (t.t.ay h) T.lc.cls T.lc.st rfl ?_;walk_at"";refine ⟨(by rw [Tc];omega),?_⟩;walk_at"";refine ⟨(by simp only [A9,Y,e1,e2,Tc];omega),?_⟩;refine ⟨(by simp only [A9,Y,e1,e2,Tc];omega),?_⟩;exact ⟨Av,e⟩
inductive A6 where
 | b8 (b:Bool) (w:Str) (k:Int)
 | line (d:LW) (z:Str)
noncomputable def A6.vals:A6->List V
 | .b8 b w k=>[.str (Mh b),.str w,.int k]
 | .line d z=>[.str d.wo,.str z]
inductive Er where
 | h8 | jh | nA
noncomputable def Er.adr (a:Ak):Er->Addr
 | .h8=>a.d7 | .jh=>a.cz | .nA=>a.fR
noncomputable def A6.res (S:PS):A6->Er ⊕ (List PyData×PS)
 | .b8 b w k=>match BI S w with
  | none=>.inl .jh
  | some hs=>if CH k hs=true then .inr ([],CS S b w k) else .inl .jh
 | .line d z=>match S.lns[A1 S.lns z]? with
  | none=>.inl .h8
  | some ln=>if d.fits ln=true then .inr (d.go S (A1 S.lns z) ln) else .inl .nA
def A6.pre (S:PS):A6->Prop
 | .b8 _ w _=>Ok w
 | .line d z=>Ok z/\∀ ln,S.lns[A1 S.lns z]?=some ln->Ok ln.st/\(d=.gap->ln.st∈d.cD->Hv S (A1 S.lns z) ln)/\(d.fits ln=true->d.ok S (A1 S.lns z) ln)
noncomputable def av (S:PS)(dd:Addr):PS:={ S with dn:=S.dn++[.ref dd] }
def Hy (K:S3)(a:Ak):Sp:=λvs H Q E=>∃(X:HX)(R:AN)(d:A6)(dd:Addr),vs=[.ref X.h,.ref dd]/\HT K a H X R/\H dd=some (.tup d.vals)/\d.pre X.S/\X.q.length<1000 /\
 match d.res X.S with
 | .inl e=>∀ H',Ag H H'->E (.ref (e.adr a)) none H'
 | .inr r=>DA r.2/\r.2.dn.length<1000000/\r.1.length<=10/\∀ H' X' p xs,HT K a H' X' ((p,.lst (xs.map V.ref)) :: R)->X'.h=X.h->X'.S=(Bq (av r.2 dd)).2->Ah H H'->BL K H' xs (r.1++(Bq (av r.2 dd)).1)->Q (.ref p) H'
theorem At.sub {H:Hp}{C C':AN}(t:At H C)(s:C'.Sublist C):At H C':=⟨λc m=>t.at_ c (s.subset m),(s.map _).nodup t.nd⟩
theorem HT.sub {K:S3}{a:Ak}{H:Hp}{X:HX}{R R':AN}(t:HT K a H X R)(s:R'.Sublist R):HT K a H X R':=⟨t.t.sub ((XU _).append ((XU _).append ((XU _).append ((XU _).append s)))),t.ok⟩
theorem Rv:∀(n:Nat)(S:PS),(aQ n S).1.length<=n
 | 0,_=>Ti 0
 | n+1,S=>by
  unfold aQ;split
  .exact T5 _
  .exact Xw (Rv n _)
theorem HT.mn {H:Hp}{X:HX}{R:AN}(t:HT K a H X R)(d':List V):HT K a (upd H X.da (.lst d')) { X with dn:=d' } R/\Ah H (upd H X.da (.lst d')):=by have B:Ah H (upd H X.da (.lst d')):=.chg t.t.dn rfl;exact ⟨⟨t.t.mn,⟨t.ok.num,t.ok.pre,t.ok.ne,λi x h=>(t.ok.lx i x h).ag B,t.ok.gr,t.ok.sk⟩⟩,B⟩
theorem Rw:AO ["self","deed","answer"] ["self","deed"] (Ac (Ad (top 27) 1)):=.of
theorem JM:Nm (Ac (Ad (top 27) 1)) "self":=.of
theorem FD:Nm (Ac (Ad (top 27) 1)) "deed":=.of
theorem Mi:Nm (Ac (Ad (top 27) 1)) "answer":=.of
theorem AgI (F:AJ K "do" "Hall.do" (Ad (top 27) 1) f fd)(T:TxtG P w K mg a)(abh:AK P w K mg base (AH P w) 4 a.ae "at_switch" ["self","word","where","k"] (Rm K a))(abi:AK P w K mg base (AH P w) 8 a.ae "at_line" ["self","word","number"] (Rt K a))(abj:AK P w K mg base AE 3 a.ae "tones" ["self"] (QS K a)):AB P w K mg base (AH P w) 9 f fd ["self","deed"] (Hy K a):=by
 refine F.bb Rw λak A outer s H vs Q E hr h=>?_
 .obtain ⟨X,R,d,D,rfl,t,ji,pre,qz,q⟩:=h;have abk:=T.hc.cls;have abl:=T.hc.cls;have abm:=T.hc.cls;have hu:=hr.units;have nd:=Rw.nd;refine ⟨_,(@Aj _ _ _ _ _ (AY (AZ IA (BC BF (Aa 1 FD) Az (λ_ _=>rfl)) (A2 (Ab Aq (Ab Aq Af))) (by with_unfolding_all rfl)) (Am (A8 2 nd Mi (AX abh abk (Aa 0 JM) hr.d Bs (Ab (BC BF (Aa 1 FD) Az (λ_ _=>rfl)) (Ab (BC BF (Aa 1 FD) Az (λ_ _=>rfl)) (Ab (BC BF (Aa 1 FD) Az (λ_ _=>rfl)) Af)))))) (Am (A8 2 nd Mi (AX abi abl (Aa 0 JM) hr.d Bs (Ab (BC BF (Aa 1 FD) Az (λ_ _=>rfl)) (Ab (BC BF (Aa 1 FD) Az (λ_ _=>rfl)) Af))))))
    (Aj (Bj (De UT U9 Va Dp (Ax (Aa 0 JM) rfl) (Ab (Aa 1 FD) Af)))
    (Am (AM (AR C5 (Aa 2 Mi) (GU abj abm (Aa 0 JM) hr.d A5)))))),?_⟩
  try dsimp only [aD,aE]
  have bf:start ["self","deed","answer"] [V.ref X.h,V.ref D]=[some (.ref X.h),some (.ref D),none]:=rfl;simp only [bf,Ug,Uh];refine L4 λC hC=>?_;have rest:∀(rr:List PyData×PS),d.res X.S=.inr rr->∀(L:Hp)(B:HX)(r:Addr)(O:List Addr),HT K a L B ((r,.lst (O.map V.ref)) :: R)->B.h=X.h->B.S=rr.2->Ah H L->BL K L O rr.1->C [some (.ref X.h),some (.ref D),some (.ref r)] L:=by
   intro rr J L B r O t2 eh eS p2 td;rw [J] at q;obtain ⟨cE,dz,tz,q⟩:=q;rw [hC,<- eh];have eSd:B.dn=rr.2.dn:=by rw [<- eS];rfl
   walk_at"";refine AF B.h a.ae B.dx _ _ rfl t2.t.az T.hc.cls T.hc.dn rfl ?_;refine ⟨.inl ⟨rfl,_,.of t2.t.dn⟩,?_⟩;walk_at"";refine DI B.da _ _ rfl rfl t2.t.dn (by rw [Tc,eSd];omega) ?_;obtain ⟨t3,p3⟩:=t2.mn (B.dn++[.ref D]);have e3:({ B with dn:=B.dn++[.ref D] }:HX).S=av rr.2 D:=by show ({ B.S with dn:=B.S.dn++[.ref D] }:PS)=_;rw [eS];rfl
   have q3:DA (av rr.2 D):=⟨cE.nd,cE.ln,cE.num,cE.m0,cE.m1,cE.pl,cE.aC⟩;generalize upd L B.da (.lst (B.dn++[.ref D]))=H3 at t3 p3 ⊢;have x3:=t3.t.az;walk_at"";refine Bf B.h B.dx _ rfl x3 rfl ?_;dsimp only [BN];refine Ef { B with dn:=B.dn++[.ref D] } _ rfl t3 (by rw [e3];exact q3) (λH4 X4 r4 jj ja ie t4 p4 gw=>?_);rw [e3] at ie gw;have hr4:H4 r4=some (.lst (jj.map V.ref)):=t4.t.rest.hd;have g9:H4 r=some (.lst (O.map V.ref)):=t4.t.rest.tl.hd;have qN:=td.ag (p3.trans p4);have f1:=qN.len;have f2:=gw.len;have f3:(Bq (av rr.2 D)).1.length<=100:=Uk (Rv _ _) cE.aC;walk_at"";refine Tg (Tg (Bc r r4 _ _ rfl rfl g9 hr4 (by rw [Tb,Tb,Tc];omega) (λp np=>?_)));rw [<- TQ];have t5:=(t4.new (u:=.lst ((O++jj).map V.ref)) np).sub (R':=(p,.lst ((O++jj).map V.ref)) :: R) (.cons₂ _ (.cons _ (.cons _ (.refl _))));have p5:Ah H4 (upd H4 p (.lst ((O++jj).map V.ref))):=.new np;exact q _ X4 p (O++jj) t5 (ja.trans eh) ie (p2.trans (p3.trans (p4.trans p5))) ((qN.app gw).ag p5)
  clear hC
  have atd:∀{H1:Hp}{n:Nat}{v:V},Ag H H1->d.vals[n]?=some v->Bh K H1 D d.vals/\Cm d.vals (n:Int)=some v:=λI e=>⟨.of (I _ _ ji),Ks e⟩;cases d with
  | b8 b z k =>
   have Y:=q;walk_at"";refine Tg (Tw (BG D _ _ _ rfl rfl (.of ji) rfl ?_));walk_at"";refine ⟨Av,λu nu=>?_⟩;have I:=(Ag.refl H).upd (o:=.tup [.str "stick",.str "mend"]) nu;have eu:(upd H u (.tup [.str "stick",.str "mend"])) u=some (.tup [.str "stick",.str "mend"]):=Ai;generalize upd H u (.tup [.str "stick",.str "mend"])=H1 at I eu ⊢;refine Tg (Iw u _ rfl (.inr (.of eu)) rfl rfl ?_);have ei:C4 (.str (Mh b)) [V.str "stick",V.str "mend"]=true:=by cases b<;>rfl
   rw [ei];have t1:=t.same I;have d1:=I _ _ ji;walk_at"";refine Bf X.h X.dx _ rfl t1.t.az rfl ?_;walk_at"";refine Tg (Tw (BG D _ _ _ rfl rfl (.of d1) rfl ?_));walk_at"";refine Tg (Tw (BG D _ _ _ rfl rfl (.of d1) rfl ?_));walk_at"";refine Tg (Tw (BG D _ _ _ rfl rfl (.of d1) rfl ?_));dsimp only [BN];refine GH X R b z k rfl ⟨t1,pre,?_⟩;cases eh:BI X.S z with
   | none =>
    have J:A6.res X.S (.b8 b z k)=.inl .jh:=by simp only [A6.res,eh]
    rw [J] at Y;exact Y H1 I
   | some hs =>
    dsimp only;by_cases hk:CH k hs=true
    .have J:A6.res X.S (.b8 b z k)=.inr ([],CS X.S b z k):=by simp only [A6.res,eh,if_pos hk]
     rw [if_pos hk];intro L B r t2 bA bE p2;exact rest _ J L B r [] t2 bA bE ((Ah.of I).trans p2) .nil
    .have J:A6.res X.S (.b8 b z k)=.inl .jh:=by simp only [A6.res,eh,if_neg hk]
     rw [J] at Y;rw [if_neg hk];exact Y H1 I
  | line d z =>
   have Y:=q;walk_at"";refine Tg (Tw (BG D _ _ _ rfl rfl (.of ji) rfl ?_));walk_at"";refine ⟨Av,λu nu=>?_⟩;have I:=(Ag.refl H).upd (o:=.tup [.str "stick",.str "mend"]) nu;have eu:(upd H u (.tup [.str "stick",.str "mend"])) u=some (.tup [.str "stick",.str "mend"]):=Ai;generalize upd H u (.tup [.str "stick",.str "mend"])=H1 at I eu ⊢;refine Tg (Iw u _ rfl (.inr (.of eu)) rfl rfl ?_);have ei:C4 (.str d.wo) [V.str "stick",V.str "mend"]=false:=by cases d<;>rfl
   rw [ei];have t1:=t.same I;have d1:=I _ _ ji;walk_at"";refine Bf X.h X.dx _ rfl t1.t.az rfl ?_;walk_at"";refine Tg (Tw (BG D _ _ _ rfl rfl (.of d1) rfl ?_));walk_at"";refine Tg (Tw (BG D _ _ _ rfl rfl (.of d1) rfl ?_));dsimp only [BN];refine Bc X R d z rfl t1 pre.1 qz (λzn=>?_) (λi ln ej ez=>?_)
   .have J:A6.res X.S (.line d z)=.inl .h8:=by simp only [A6.res,Q8 zn]
    rw [J] at Y;exact Y H1 I
   .have gn:=t.ko ej;rw [ez] at gn;have ig:X.S.lns[A1 X.S.lns z]?=some ln:=by rw [gn];exact ej
    obtain ⟨k1,k2,k3⟩:=pre.2 ln ig;rw [gn] at k2 k3;refine ⟨k1,λhf=>⟨k2,?_⟩,λhf=>⟨k3 hf,λL B r O t2 bA bE p2 td=>?_⟩⟩
    .have J:A6.res X.S (.line d z)=.inl .nA:=by simp only [A6.res,ig,if_neg (show ¬ d.fits ln=true by rw [hf];exact T7)]
     rw [J] at Y;exact Y H1 I
    .have J:A6.res X.S (.line d z)=.inr (d.go X.S i ln):=by simp only [A6.res,gn,ej,if_pos hf]
     exact rest _ J L B r O t2 bA bE ((Ah.of I).trans p2) td
def JN (K:S3)(a:Ak)(sel:LX->V):Sp:=λvs H Q E=>∃(X:HX)(R:AN)(z:Str),vs=[.ref X.h,.str z]/\HT K a H X R/\Ok z /\
 (∀(i:Nat)(x:LX),X.lines[i]?=some x->x.l.num=z->Q (sel x) H)/\(z ∉ X.lines.map (·.l.num)->E (.ref a.d7) none H)
def Rx (K:S3)(a:Ak):Sp:=λvs H Q E=>∃(X:HX)(R:AN)(z:Str),vs=[.ref X.h,.str z]/\HT K a H X R/\Ok z /\
 (∀(i:Nat)(x:LX),X.lines[i]?=some x->x.l.num=z->∀ l,H l=none->Q (.ref l) (upd H l (.lst (x.hv.map V.ref))))/\(z ∉ X.lines.map (·.l.num)->E (.ref a.d7) none H)
def Ry (K:S3)(a:Ak)(sel:HX->List V):Sp:=λvs H Q _=>∃(X:HX)(R:AN),vs=[.ref X.h]/\HT K a H X R/\∀ l,H l=none->Q (.ref l) (upd H l (.lst (sel X)))
theorem AgJ:AO ["self","line"] ["self","line"] (Ac (Ad (top 27) 18)):=.of
theorem AgK:Nm (Ac (Ad (top 27) 18)) "self":=.of
theorem AgL:Nm (Ac (Ad (top 27) 18)) "line":=.of
theorem AgM (F:AJ K "way" "Hall.way" (Ad (top 27) 18) f fd)(T:TxtH P w K mg a)(B:AK P w K mg base (AH P w) 1 a.ae "line_of" ["self","number"] (Hh K a)):AB P w K mg base (AH P w) 2 f fd ["self","line"] (JN K a λx=>.str x.l.st):=by
 refine F.bb AgJ λV A outer s H vs Q E D h=>?_
 .obtain ⟨X,R,z,rfl,t,I,q,J⟩:=h;have L:=T.hc.cls;refine ⟨_,(@Am _ _ _ (AM (Ax (AX B L (Aa 0 AgK) D.d Bs (Ab (Aa 1 AgL) Af)) rfl))),?_⟩;try dsimp only [aD,aE]
  walk_at"";refine Bf X.h X.dx _ rfl t.t.az rfl ?_;walk_at"";refine B7 X R z rfl ⟨t,I,λi x h O=>?_,J⟩;exact ⟨x.p,a.Line,x.dx,_,_,rfl,t.t.ay h,T.lc.cls,T.lc.st,rfl,q i x h O⟩
theorem AgN:AO ["self","line"] ["self","line"] (Ac (Ad (top 27) 21)):=.of
theorem AgO:Nm (Ac (Ad (top 27) 21)) "self":=.of
theorem AgP:Nm (Ac (Ad (top 27) 21)) "line":=.of
theorem AgQ (F:AJ K "other" "Hall.other" (Ad (top 27) 21) f fd)(T:TxtH P w K mg a)(B:AK P w K mg base (AH P w) 1 a.ae "line_of" ["self","number"] (Hh K a)):AB P w K mg base (AH P w) 2 f fd ["self","line"] (JN K a λx=>Bk x.l.ah):=by
 refine F.bb AgN λV A outer s H vs Q E D h=>?_
 .obtain ⟨X,R,z,rfl,t,I,q,J⟩:=h;have L:=T.hc.cls;refine ⟨_,(@Am _ _ _ (AM (Ax (AX B L (Aa 0 AgO) D.d Bs (Ab (Aa 1 AgP) Af)) rfl))),?_⟩;try dsimp only [aD,aE]
  walk_at"";refine Bf X.h X.dx _ rfl t.t.az rfl ?_;walk_at"";refine B7 X R z rfl ⟨t,I,λi x h O=>?_,J⟩;exact ⟨x.p,a.Line,x.dx,_,_,rfl,t.t.ay h,T.lc.cls,T.lc.fa,rfl,q i x h O⟩
theorem AgR:AO ["self","line"] ["self","line"] (Ac (Ad (top 27) 20)):=.of
theorem AgS:Nm (Ac (Ad (top 27) 20)) "self":=.of
theorem AgT:Nm (Ac (Ad (top 27) 20)) "line":=.of
theorem AgU:Gm (Ac (Ad (top 27) 20)) "list":=.of
theorem AgV (F:AJ K "holds" "Hall.holds" (Ad (top 27) 20) f fd)(T:TxtH P w K mg a)(B:AK P w K mg base (AH P w) 1 a.ae "line_of" ["self","number"] (Hh K a)):AB P w K mg base (AH P w) 2 f fd ["self","line"] (Rx K a):=by
 refine F.bb AgR λV A outer s H vs Q E D h=>?_
 .obtain ⟨X,R,z,rfl,t,I,q,J⟩:=h;have L:=T.hc.cls;refine ⟨_,(@Am _ _ _ (AM (C6 (GS rfl) AgU T.ft FX (Ab (Ax (AX B L (Aa 0 AgS) D.d Bs (Ab (Aa 1 AgT) Af)) rfl) Af)))),?_⟩;try dsimp only [aD,aE]
  walk_at"";refine Bf X.h X.dx _ rfl t.t.az rfl ?_;walk_at"";refine B7 X R z rfl ⟨t,I,λi x h O=>?_,J⟩;refine AF x.p a.Line x.dx _ _ rfl (t.t.ay h) T.lc.cls T.lc.he rfl ?_;exact .inl ⟨x.h,_,rfl,.inl (.of (t.t.hZ h)),q i x h O⟩
theorem AgW:AO ["self"] ["self"] (Ac (Ad (top 27) 25)):=.of
theorem AgX:Nm (Ac (Ad (top 27) 25)) "self":=.of
theorem AgY:Gm (Ac (Ad (top 27) 25)) "list":=.of
theorem AgZ (F:AJ K "waiting" "Hall.waiting" (Ad (top 27) 25) f fd)(T:TxtH P w K mg a):AB P w K mg base AE 1 f fd ["self"] (Ry K a λX=>X.q.map V.str):=by
 refine F.ok AgW λB A outer s H vs Q E D h=>?_
 .obtain ⟨X,R,rfl,t,q⟩:=h;refine ⟨_,(@Am _ _ _ (AM (C6 (GS rfl) AgY T.ft FX (Ab (Ax (Aa 0 AgX) rfl) Af)))),?_⟩;try dsimp only [aD,aE]
  walk_at"";refine AF X.h a.ae X.dx _ _ rfl t.t.az T.hc.cls T.hc.qu rfl ?_;walk_at"";exact .inl ⟨X.qa,_,rfl,.inl (.of t.t.q),q⟩
noncomputable def DQ (S:PS)(z:Str):Option (List V×List Bool×List Int):=if z=S9 "" then some (S.sk.hs,S.sk.js,S.sk.ts) else (BM S z).map λg=>(g.hs,g.js,g.ts)
noncomputable def Eo (S:PS):V->V
 | .int i=>match S.lns[i.toNat]? with
  | none=>.aa
  | some ln=>.str ln.num
 | _=>.aa
def Ga (S:PS):Prop:=∀ v∈S.sk.hs,v=.aa\/∃ i:Nat,v=.int i/\i<S.lns.length
noncomputable def FE (S:PS)(z:Str)(r:List V×List Bool×List Int):List V:=Cq (if z=S9 "" then r.1.map (Eo S) else r.1) (λk=>r.2.1.getD k false) r.1.length
section
variable {K:S3}{a:Ak}{H:Hp}{X:HX}{R:AN}
theorem HT.rk (t:HT K a H X R)(sc:EL K a a.aL)(gc:Em K a a.aI){z:Str}(J:Ok z){r:List V×List Bool×List Int}(e:DQ X.S z=some r) :
  ∃ p C Y rb rc,C∈a.bD/\Cp K a H p C Y rb rc r.1 r.2.1 r.2.2/\∀(c:VK)(E:XK),c (.ref p) H->F9 K a [.ref X.h,.str z] H c E:=by
 have eh:BI X.S z=some r.1:=by
  unfold DQ at e;unfold BI;by_cases B:z=S9 ""
  .rw [if_pos B] at e ⊢;cases e;rfl
  .rw [if_neg B] at e ⊢;obtain ⟨g,e1,D⟩:=UD.mp e;rw [e1,<- D];rfl
 by_cases B:z=S9 ""
 .have s:=t.t.ki sc t.ok.sk;have I:r=(X.sk.k.hs,X.sk.k.js,X.sk.k.ts):=by
   unfold DQ at e;rw [if_pos B] at e;exact (Ts e).symm
  subst I;refine ⟨X.sk.p,a.aL,_,_,_,sc.c.mem,s.r,λc E h=>⟨X,R,z,rfl,t,J,λ_=>h,λi g hi D=>absurd (D.trans B) (t.ok.ne g (Tz hi)),λn0 _=>absurd B n0⟩⟩
 .have gq:(X.S.aq.map (·.pre)).Nodup:=by show ((X.groups.map (·.g)).map (·.pre)).Nodup;rw [TL];exact t.ok.pre
  have m:z∈X.groups.map (·.g.pre):=by apply XE;intro m;unfold DQ at e;rw [if_neg B,show BM X.S z=none from Ma (by show z ∉ (X.groups.map (·.g)).map (·.pre);rw [TL];exact m)] at e;cases e
  obtain ⟨i,g,h,rfl⟩:=Hi m;have ej:X.S.aq[i]?=some g.g:=by show (X.groups.map (·.g))[i]?=_;rw [Tp,h];rfl
  have I:r=(g.g.hs,g.g.js,g.g.ts):=by unfold DQ at e;rw [if_neg B,show BM X.S g.g.pre=some g.g from JI gq ej] at e;exact (Ts e).symm
  subst I;have rk:=t.t.kg h gc (t.ok.gr g (Tz h));refine ⟨g.p,a.aI,_,_,_,gc.mem,rk,λc E hc=>⟨X,R,g.g.pre,rfl,t,J,λe0=>absurd e0 B,λj g2 L D=>?_,λ_ n=>absurd m n⟩⟩;by_cases O:j=i
  .subst O;rw [L] at h;cases h;exact hc
  .exact absurd D (Dz t.ok.pre (i:=j) (j:=i) (by rw [Tp,L];rfl) (by rw [Tp,h];rfl) O)
theorem Ag0 {S:PS}{z:Str}(e:DQ S z=none):z≠S9 ""/\z ∉ S.aq.map (·.pre):=by
 refine Rn ?_;unfold DQ at e;unfold BI;by_cases B:z=S9 ""
 .rw [if_pos B] at e;cases e
 .rw [if_neg B] at e ⊢;rw [ug] at e ⊢;exact e
theorem HT.abn (t:HT K a H X R){z:Str}(I:Ok z)(e:DQ X.S z=none)(c:VK){E:XK}(h:E (.ref a.cz) none H):F9 K a [.ref X.h,.str z] H c E:=by
 obtain ⟨J,D⟩:=Ag0 e;have B:X.S.aq.map (·.pre)=X.groups.map (·.g.pre):=by show (X.groups.map (·.g)).map (·.pre)=_;rw [TL];rfl
 rw [B] at D;exact ⟨X,R,z,rfl,t,I,λe=>absurd e J,λi g L e=>absurd (Tr.mpr ⟨g,Tz L,e⟩) D,λ_ _=>h⟩
end
def Rz (K:S3)(a:Ak):Sp:=λvs H Q E=>∃(X:HX)(R:AN)(z:Str),vs=[.ref X.h,.str z]/\HT K a H X R/\Ok z/\Ga X.S /\
 match DQ X.S z with
 | none=>E (.ref a.cz) none H
 | some r=>∀ H' t,Ag H H'->H' t=some (.tup (FE X.S z r))->Q (.ref t) H'
theorem Ag1 (X:HX):(X.gb.map λB=>kV B.1)=X.S.lns.map λln=>V.str ln.num:=by show ((X.lines.map _).map _)=((X.lines.map (·.l)).map _);rw [TL,TL];rfl
theorem RA:AO ["self","where","switches","holders","numbers"] ["self","where"] (Ac (Ad (top 27) 23)):=.of
theorem RB:Nm (Ac (Ad (top 27) 23)) "self":=.of
theorem RC:Nm (Ac (Ad (top 27) 23)) "where":=.of
theorem Mj:Nm (Ac (Ad (top 27) 23)) "switches":=.of
theorem JO:Nm (Ac (Ad (top 27) 23)) "holders":=.of
theorem Ag2:IE (Ac (Ad (top 27) 23)) "numbers":=by walk_at "k"
theorem Ag3:Gm (Ac (Ad (top 27) 23)) "paper_of":=.of
theorem Ag4:Gm (Ac (Ad (top 27) 23)) "AT_SEEKERS":=.of
theorem Ag5:Gm (Ac (Ad (top 27) 23)) "list":=.of
noncomputable def Ml:Scope:={ kind:=.function,names:=[(".0",.local),("place",.local),("numbers",.free)],isGenerator:=false,isCoroutine:=false,more:=[] }
theorem RD:Bu Ml (Ac (Ad (top 27) 23)) ["place","numbers"] ["self","where","switches","holders","numbers"] [none,some 4]:=Bu.mk' rfl (by decide +kernel) (by decide +kernel) (by decide +kernel) (by decide +kernel) rfl (by decide +kernel)
theorem Mm:Nm Ml "place":=.of
theorem Ag6:IF Ml "numbers":=by walk_at "k"
theorem Ag7 (F:AJ K "paper" "Hall.paper" (Ad (top 27) 23) f fd)(T:TxtH P w K mg a)(ku:AK P w K mg base (AH P w) 1 a.ae "switches_of" ["self","where"] (F9 K a))(hJ:∀ C∈a.bD,AK P w K mg base AE 1 C "holders" ["self"] (Ll K a))(hV:∀ C∈a.bD,AK P w K mg base AE 1 C "stuck" ["self"] (Lv K a))(hW:B8 P w K mg base AE 1 "paper_of" ["holders","stuck"] (Jh K)):AB P w K mg base (AH P w) 2 f fd ["self","where"] (Rz K a):=by
 refine F.bb RA λak A outer s H vs Q E hr h=>?_
 .obtain ⟨X,R,z,rfl,t,zk,ho,q⟩:=h;have c6:=T.c6;have kz:=T.hc.cls;have hu:=hr.units;have nd:=RA.nd;refine ⟨_,(@Aj _ _ _ _ _ (A8 2 nd Mj (AX ku kz (Aa 0 RB) hr.d Bs (Ab (Aa 1 RC) Af)))
    (Aj (A8 3 nd JO (O7 hJ c6 (Aa 2 Mj) hr.d A5))
    (Aj (AY (AZ (By hu) (Aa 1 RC) (G0 Ag4 T.i7) (AW _)) (Aj (Ox 4 nd Ag2 (C6 (Ad4 rfl) Ag5 T.ft FX (Ab (Ax (Aa 0 RB) rfl) Af)))
     (Am (AcK (j:=3) rfl nd rfl (Tw JO.loc) RD (Eb (Aa 3 JO)) (λcl C fp pins s₂ H₂=>(Bo 0 RD.nd Mm.comp)) (λcl C fp pins s₂ H₂=>EG) (λcl C fp pins s₂ H₂=>(M5 (AZ FP (Aa 0 Mm.comp) BV (AW _)) BV (BC (OB K rfl) (Ow 1 Ag6.comp) (Aa 0 Mm.comp) (λ_ _=>rfl)))) (by rfl) (by intro _;rfl) (Tw rfl)))) A4)
    (Am (AM (B9 hW Ag3 hr.d A5 (Ab (Aa 3 JO) (Ab (O7 hV c6 (Aa 2 Mj) hr.d A5) Af)))))))),?_⟩
  try dsimp only [aD,aE]
  have bf:start ["self","where","switches","holders","numbers"] [V.ref X.h,V.str z]=[some (.ref X.h),some (.str z),none,none,none]:=rfl;simp only [bf,Ug,Uh];walk_at"";refine Bf X.h X.dx _ rfl t.t.az rfl ?_;walk_at"";dsimp only [BN];cases er:DQ X.S z with
  | none=>rw [er] at q;exact t.abn zk er _ q
  | some r =>
   rw [er] at q;dsimp only at q;obtain ⟨p,C,ra,rb,rc,mC,rk,go⟩:=t.rk T.sc T.gc zk er;obtain ⟨dx,fs,ep,F3⟩:=rk.ins;refine go _ _ ?_;walk_at"";refine BG p C dx fs rfl mC ep (F3.m _ (by decide)) ?_;refine FT p C ra rb rc _ _ _ rfl ⟨rk,λl nl=>?_⟩;have s1:=(Ag.refl H).upd (o:=.lst r.1) nl;have e1:(upd H l (.lst r.1)) l=some (.lst r.1):=Ai;generalize upd H l (.lst r.1)=H1 at s1 e1 ⊢;have t1:=t.same s1;walk_at"";have last:∀(B:Hp)(D:Addr)(I:List V),Ag H B->B D=some (.lst I)->I=(if z=S9 "" then r.1.map (Eo X.S) else r.1)->∀(L:Hp)(u:Addr),Ag B L->L u=some (.lst ((DN r.2.1 r.2.1.length).map V.int))->Jh K [.ref D,.ref u] L Q E0:=by
    intro B D I s3 e3 eh L u Y e4;have hl:I.length=r.1.length:=by rw [eh];split<;>simp
    refine BG D u I _ rfl (Y _ _ e3) e4 (by rw [hl];exact rk.z) (λH5 tt s5 nt e5=>?_);refine q H5 tt (s3.trans (Y.trans s5)) ?_;rw [e5,hl];unfold FE;rw [<- eh];exact congrArg (λy=>some (HO.tup y)) (Qu λk hk=>PN (by rw [rk.lj];exact hk))
   by_cases z0:z=S9 ""
   .have ehs:r.1=X.sk.k.hs:=by
     unfold DQ at er;rw [if_pos z0] at er;rw [<- Ts er];rfl
    have ho1:∀ v∈r.1,v=.aa\/∃ i:Nat,v=.int i/\i<X.S.lns.length:=by rw [ehs];exact ho
    refine B6 (decide_eq_true (congrArg V.str z0)) ?_;walk_at"";refine AF X.h a.ae X.dx _ _ rfl t1.t.az T.hc.cls T.hc.li rfl ?_;walk_at"";refine B2 X.ld _ rfl (.of t1.t.ld) (λnm nnm=>?_);rw [Ag1];have s2:=(Ag.refl H1).upd (o:=.lst (X.S.lns.map λJ=>V.str J.num)) nnm;have e2:(upd H1 nm (.lst (X.S.lns.map λJ=>V.str J.num))) nm=some (.lst (X.S.lns.map λJ=>V.str J.num)):=Ai;generalize upd H1 nm (.lst (X.S.lns.map λJ=>V.str J.num))=H2 at s2 e2 ⊢;have b5:=s2 _ _ e1;walk_at"";refine ⟨⟨_,.of b5⟩,λD nD=>?_⟩;refine Oz (K:=K) (a:=l) (xs:=r.1) (λi σ B=>∃ x,σ=[x,some (.ref nm)]/\Ag H2 B/\B D=some (.lst ((r.1.take i).map (Eo X.S)))) ⟨none,rfl,(Ag.refl H2).upd nD,Ai⟩ (λi σ B _ ⟨_,_,O,_⟩=>.of (O _ _ b5)) ?_ ?_
    .intro i x σ B hi zq;obtain ⟨x0,rfl,O,hL⟩:=zq;have et:r.1.take (i+1)=r.1.take i++[x]:=by rw [Vg,hi];rfl
     have len:((r.1.take i).map (Eo X.S)).length<sizeLine:=by rw [Tb,UZ,Tc];have:=rk.z;omega
     rcases ho1 x (Tz hi) with rfl | ⟨j,rfl,jl⟩
     .walk_at"";refine ⟨_,hL,len,_,rfl,O.cK nD,?_⟩;rw [Ai,et,TQ];rfl
     .have hj:X.S.lns[j]?=some X.S.lns[j]:=TC jl;have ej:Eo X.S (.int j)=.str X.S.lns[j].num:=by
       show (match X.S.lns[((j:Nat):Int).toNat]? with | none=>V.aa | some J=>.str J.num)=_;rw [Vq,hj]
      walk_at"";refine Tw (BG nm _ _ _ rfl rfl (.of (O _ _ e2)) (Ks (j:=j) (by rw [Tp,hj];rfl)) ?_);refine ⟨_,hL,len,_,rfl,O.cK nD,?_⟩;rw [Ai,et,TQ];show some (HO.lst (_++[_]))=some (HO.lst (_++[Eo X.S (.int j)]));rw [ej]
    .intro σ B zq;obtain ⟨x0,rfl,O,hL⟩:=zq;rw [Vh] at hL;have s3:Ag H B:=s1.trans (s2.trans O);have qO:=rk.same s3;obtain ⟨mQ,fs3,qJ,F33⟩:=qO.ins;walk_at"";refine BG p C mQ fs3 rfl mC qJ (F33.m _ (by decide)) ?_;refine FT p C ra rb rc _ _ _ rfl ⟨qO,λL u Y nu e4=>?_⟩;dsimp only [BN];exact last B D _ s3 hL (by rw [if_pos z0]) L u Y e4
   .refine BX (decide_eq_false (λe=>z0 (V.str.inj e))) ?_;have je:=rk.same s1;obtain ⟨dx1,fs1,dH,F31⟩:=je.ins;walk_at"";refine BG p C dx1 fs1 rfl mC dH (F31.m _ (by decide)) ?_;refine FT p C ra rb rc _ _ _ rfl ⟨je,λL u Y nu e4=>?_⟩;dsimp only [BN];exact last H1 l r.1 s1 e1 (by rw [if_neg z0]) L u Y e4
noncomputable def AU (S:PS)(p:Str×Int):Option V:=(BI S p.1).bind λhs=>if 0<=p.2 then hs[p.2.toNat]? else none
noncomputable def ET (w:Str)(i:Nat)(z:Str):V:=if w=S9 "" then .int i else .str z
theorem Ag8 {w:Str}{i j:Nat}{y z:Str}(n:i≠j)(m:y≠z):ET w i y≠ET w j z:=by
 unfold ET;split
 .exact λe=>n (Int.ofNat.inj (V.int.inj e))
 .exact λe=>m (V.str.inj e)
theorem FF {w:Str}{i:Nat}{z:Str}:ET w i z≠.aa:=by unfold ET;split<;>exact λe=>nomatch e
theorem Mn {S:PS}{p:Str×Int}{v:V}(e:AU S p=some v):0<=p.2:=by
 unfold AU at e;cases h:BI S p.1 with
 | none=>rw [h] at e;cases e
 | some hs =>
  rw [h] at e;by_cases z:0<=p.2
  .exact z
  .rw [XW,if_neg z] at e;cases e
theorem Hz {S:PS}{z:Str}{g:Gr}(e:BM S z=some g):g∈S.aq/\g.pre=z:=⟨uc e,by have:=ud (show S.aq.find? (λg=>decide (g.pre=z))=some g from e);exact of_decide_eq_true this⟩
theorem RE {hs:List V}{k:Int}{v:V}(e:(if 0<=k then hs[k.toNat]? else none)=some v):CH k hs=true/\hs.getD k.toNat .aa=v:=by
 by_cases z:0<=k
 .rw [if_pos z] at e;have l:=(TH.mp e).1;exact ⟨Ja.mpr ⟨z,by omega⟩,by rw [Uc,e];rfl⟩
 .rw [if_neg z] at e;cases e
theorem Ag9 {S:PS}{p:Str×Int}{v:V}(e:AU S p=some v)(n:v≠.aa):ER S p.1 p.2:=by
 unfold AU BI at e;unfold ER;by_cases z:p.1=S9 ""
 .rw [if_pos z] at e ⊢;obtain ⟨a,b⟩:=RE e;exact ⟨a,by rw [b];exact n⟩
 .rw [if_neg z] at e ⊢;cases h:BM S p.1 with
  | none=>rw [h] at e;cases e
  | some g =>
   rw [h] at e;obtain ⟨a,b⟩:=RE (hs:=g.hs) e;exact ⟨g,(Hz h).1,(Hz h).2,a,by rw [b];exact n⟩
theorem JP {S:PS}{w z:Str}{h:Gr->Gr}(B:∀ g,(h g).pre=g.pre):BM { S with aq:=S.aq.map λg=>if g.pre=w then h g else g } z=(BM S z).map λg=>if z=w then h g else g:=by
 show (S.aq.map _).find? _=(S.aq.find? _).map _;induction S.aq with
 | nil=>rfl
 | cons y l ih =>
  rw [Uz,Vf,Vf];have e:(if y.pre=w then h y else y).pre=y.pre:=by split;exact B y;rfl
  rw [e];by_cases c:y.pre=z
  .rw [decide_eq_true c,<- c];rfl
  .rw [decide_eq_false c];exact ih
theorem RF {S:PS}{p t:Str×Int}(g:0<=t.2)(n:p≠t):AU (bg S t.1 t.2) p=AU S p:=by
 have B:∀ hs:List V,p.1=t.1->(if 0<=p.2 then (hs.set t.2.toNat .aa)[p.2.toNat]? else none)=(if 0<=p.2 then hs[p.2.toNat]? else none):=λhs e=>by
  by_cases z:0<=p.2
  .rw [if_pos z,if_pos z,To];intro D;exact n (WA e (by omega))
  .rw [if_neg z,if_neg z]
 unfold AU BI bg;by_cases z:p.1=S9 ""
 .rw [if_pos z,if_pos z];by_cases y:t.1=S9 ""
  .rw [if_pos y];exact B _ (z.trans y.symm)
  .rw [if_neg y]
 .rw [if_neg z,if_neg z];by_cases y:t.1=S9 ""
  .rw [if_pos y];rfl
  .rw [if_neg y,JP (h:=λg=>{ g with hs:=g.hs.set t.2.toNat .aa }) λ_=>rfl];cases BM S p.1 with
   | none=>rfl
   | some g =>
    rw [US,US,XW,US,XW];by_cases e:p.1=t.1
    .rw [if_pos e];exact B _ e
    .rw [if_neg e]
theorem FG:∀{ts:List (Str×Int)}{S:PS}{p:Str×Int},(∀ t∈ts,0<=t.2)->p ∉ ts->AU (aH S ts) p=AU S p
 | [],_,_,_,_=>rfl
 | t :: ts,S,p,g,n=>(FG (λt m=>g t (T1 _ m)) (λm=>n (T1 _ m))).trans (RF (g t T9) λe=>n (e▸T9))
theorem Gb:∀{ts:List (Str×Int)}{S:PS},ts.Nodup->(∀ p∈ts,∃ v,AU S p=some v/\v≠.aa)->bR S ts
 | [],_,_,_=>trivial
 | t :: ts,S,nd,h=>by
  obtain ⟨v,e,n⟩:=h t T9;have nd:=TV.mp nd;refine ⟨Ag9 e n,Gb nd.2 λp m=>?_⟩;obtain ⟨u,f,k⟩:=h p (T1 _ m);exact ⟨u,by rw [RF (Mn e) (λz=>nd.1 (z▸m))];exact f,k⟩
def FH (ns:List Str)(g:Gr):Prop:=∀ v∈g.hs,v=.aa\/∃ z∈ns,v=.str z
theorem FH.s {ns:List Str}{g:Gr}(h:FH ns g):Mb g:=λv m=>(h v m).imp id λ⟨z,_,e⟩=>⟨z,e⟩
structure WG (S:PS):Prop where
 num:(S.lns.map (·.num)).Nodup
 pre:(S.aq.map (·.pre)).Nodup
 ne:∀ g∈S.aq,g.pre≠S9 ""
 aC:S.lns.length<=60
 pos:0<S.lns.length
 c7:S.q.Nodup
 dI:∀ z∈S.q,z∈S.lns.map (·.num)
 m0:0<=S.sk.mark
 m1:S.sk.mark<S.sk.hs.length
 pl:S.sk.places=S.lns.length
 hs:Ga S
 hg:∀ g∈S.aq,FH (S.lns.map (·.num)) g
 go:∀ g∈S.aq,Fx g
 so:F8 S.sk
 tx:∀ z∈S.lns.map (·.num),Ok z/\0<z.length
 px:∀ g∈S.aq,Ok g.pre
 lo:2<=S.long
 hi:S.long<=9
 tl:∀ z∈S.lns.map (·.num),(z.length:Int)=S.long
 pz:∀ g∈S.aq,(g.pre.length:Int)<=S.long - 2
theorem Ga.num {S S':PS}(h:Ga S)(e:S'.sk.hs=S.sk.hs)(l:S'.lns.length=S.lns.length):Ga S':=λv m=>by rw [l];exact h v (e▸m)
theorem EU {l B:List Ln}(e:B.map (·.num)=l.map (·.num)):B.length=l.length:=by have:=congrArg Wz e;rwa [Tb,Tb] at this
theorem WG.lns {S:PS}(w:WG S){l:List Ln}(e:l.map (·.num)=S.lns.map (·.num)):WG { S with lns:=l } :=
 ⟨by show (l.map _).Nodup;rw [e];exact w.num,w.pre,w.ne,by show l.length<=60;rw [EU e];exact w.aC,by show 0<l.length;rw [EU e];exact w.pos,w.c7,λz m=>by show z∈l.map _;rw [e];exact w.dI z m,w.m0,w.m1,by show S.sk.places=(l.length:Int);rw [EU e];exact w.pl,w.hs.num rfl (EU e),(by show ∀ g∈S.aq,FH (l.map (·.num)) g;rw [e];exact w.hg),w.go,w.so,(by show ∀ z∈l.map (·.num),_;rw [e];exact w.tx),w.px,w.lo,w.hi,(by show ∀ z∈l.map (·.num),_;rw [e];exact w.tl),w.pz⟩
theorem WG.dF {S:PS}(w:WG S){q:List Str}(nd:q.Nodup)(i:∀ z∈q,z∈S.lns.map (·.num)):WG { S with q:=q }:=⟨w.num,w.pre,w.ne,w.aC,w.pos,nd,i,w.m0,w.m1,w.pl,w.hs,w.hg,w.go,w.so,w.tx,w.px,w.lo,w.hi,w.tl,w.pz⟩
theorem WG.abo {S:PS}(w:WG S){d:List V}:WG { S with dn:=d }:=⟨w.num,w.pre,w.ne,w.aC,w.pos,w.c7,w.dI,w.m0,w.m1,w.pl,w.hs,w.hg,w.go,w.so,w.tx,w.px,w.lo,w.hi,w.tl,w.pz⟩
theorem WG.nB {S:PS}(w:WG S){k:Sk}(p:k.places=S.sk.places)(B:0<=k.mark)(D:k.mark<k.hs.length)(h:∀ v∈k.hs,v=.aa\/∃ i:Nat,v=.int i/\i<S.lns.length)(H:F8 k):WG { S with sk:=k }:=⟨w.num,w.pre,w.ne,w.aC,w.pos,w.c7,w.dI,B,D,p.trans w.pl,h,w.hg,w.go,H,w.tx,w.px,w.lo,w.hi,w.tl,w.pz⟩
theorem WG.nC {S:PS}(w:WG S){z:Str}{h:Gr->Gr}(B:∀ g,(h g).pre=g.pre)(H:∀ g,FH (S.lns.map (·.num)) g->FH (S.lns.map (·.num)) (h g))(I:∀ g,Fx g->Fx (h g)):WG { S with aq:=S.aq.map λg=>if g.pre=z then h g else g }:=by
 have J:(S.aq.map λg=>if g.pre=z then h g else g).map (·.pre)=S.aq.map (·.pre):=by
  rw [TL];refine VQ λg _=>?_;show (if g.pre=z then h g else g).pre=g.pre;split
  .exact B g
  .rfl
 have all:∀{p:Gr->Prop},(∀ g,p g->p (h g))->(∀ g∈S.aq,p g)->∀ g∈(S.aq.map λg=>if g.pre=z then h g else g),p g:=λ{p} f a g m=>by
  obtain ⟨y,D,rfl⟩:=Tr.mp m;split
  .exact f y (a y D)
  .exact a y D
 exact ⟨w.num,by show (Vy _ (S.aq.map _)).Nodup;rw [J];exact w.pre,all (p:=λg=>g.pre≠S9 "") (λg n=>by rw [B];exact n) w.ne,w.aC,w.pos,w.c7,w.dI,w.m0,w.m1,w.pl,w.hs,all H w.hg,all I w.go,w.so,w.tx,all (p:=λg=>Ok g.pre) (λg n=>by rw [B];exact n) w.px,w.lo,w.hi,w.tl,all (p:=λg=>(g.pre.length:Int)<=S.long - 2) (λg n=>by rw [B];exact n) w.pz⟩
theorem JQ {α:Type}{l:List α}{i:Nat}{x y:α}(h:y∈l.set i x):y=x\/y∈l:=(Zf h).symm
theorem WG.bg {S:PS}(w:WG S)(z:Str)(k:Int):WG (bg S z k):=by
 unfold Lw.bg;split
 .exact w.nB rfl w.m0 (by show _<((S.sk.hs.set _ _).length:Int);rw [Td];exact w.m1) (λv m=>(JQ m).elim .inl (w.hs v)) ⟨by rw [Td];exact w.so.lj,by rw [Td];exact w.so.lt,by rw [Td];exact w.so.ls,by rw [Td];exact w.so.lw,by rw [Td];exact w.so.z⟩
 .exact w.nC (h:=λg=>{ g with hs:=g.hs.set k.toNat .aa }) (λ_=>rfl) (λg a v m=>(JQ m).elim .inl (a v)) λg a=>⟨by rw [Td];exact a.lj,by rw [Td];exact a.lt,by rw [Td];exact a.z⟩
theorem WG.aH:∀(ts:List (Str×Int)){S:PS},WG S->WG (aH S ts)
 | [],_,w=>w
 | t :: ts,_,w=>WG.aH ts (w.bg t.1 t.2)
theorem WG.b8 {S:PS}(w:WG S)(b:Bool)(z:Str)(k:Int):WG (CS S b z k):=by
 unfold CS;split
 .exact w.nB rfl w.m0 w.m1 w.hs ⟨by rw [Td];exact w.so.lj,w.so.lt,w.so.ls,w.so.lw,w.so.z⟩
 .exact w.nC (h:=λg=>{ g with js:=g.js.set k.toNat b }) (λ_=>rfl) (λg a=>a) λg a=>⟨by rw [Td];exact a.lj,a.lt,a.z⟩
theorem WG.bL {S:PS}(w:WG S)(z B:Str)(k:Int)(D:B∈S.lns.map (·.num)):WG { S with aq:=S.aq.map λy=>if y.pre=z then bL y k B else y } :=
 w.nC (h:=λg=>Lw.bL g k B) (λ_=>rfl) (λg a v m=>(JQ m).elim (λe=>.inr ⟨B,D,e⟩) (a v)) λg a=>⟨by show g.js.length=(g.hs.set _ _).length;rw [Td];exact a.lj,by show (g.ts.set _ _).length=(g.hs.set _ _).length;rw [Td,Td];exact a.lt,by show (g.hs.set _ _).length<=1000;rw [Td];exact a.z⟩
theorem WG.bY {S:PS}(w:WG S){k:Int}{i:Nat}(B:i<S.lns.length):WG { S with sk:=bY S.sk k i }:=by
 have lt:((S.sk.hs.set k.toNat (.int i)).length:Int)=S.sk.hs.length:=by rw [Td]
 have D:=w.m0;have H:=w.m1;refine w.nB rfl (Wr _ (by omega)) (by show (k+1) % (S.sk.hs.length:Int)<((S.sk.hs.set _ _).length:Int);rw [lt];exact Wt _ (by omega)) (λv m=>(JQ m).elim (λe=>.inr ⟨i,e,B⟩) (w.hs v)) ⟨?_,?_,?_,?_,?_⟩
 .show S.sk.js.length=(S.sk.hs.set _ _).length;rw [Td];exact w.so.lj
 .show (S.sk.ts.set _ _).length=(S.sk.hs.set _ _).length;rw [Td,Td];exact w.so.lt
 .show (S.sk.st.set _ _).length=(S.sk.hs.set _ _).length;rw [Td,Td];exact w.so.ls
 .show (S.sk.wt.set _ _).length=(S.sk.hs.set _ _).length;rw [Td,Td];exact w.so.lw
 .show (S.sk.hs.set _ _).length<=1000;rw [Td];exact w.so.z
inductive Bg where
 | rests | cF | aF | rings | bh | aR | told
noncomputable def Bg.s:Bg->Str
 | .rests=>"rests" | .cF=>"waits" | .aF=>"dials" | .rings=>"rings" | .bh=>"rung" | .aR=>"talks" | .told=>"told"
theorem Bg.ok (w:Bg):Ok w.s:=by cases w<;>exact ⟨by unfold CA;decide +kernel,by decide +kernel⟩
theorem Bg.inj {v w:Bg}(e:v.s=w.s):v=w:=by cases v<;>cases w<;>first | rfl | exact absurd e (by decide +kernel)
def Zr (ln:Ln):Prop:=ln.ai=""/\ln.aj=0/\ln.why=.none
def HF (S:PS)(i:Nat)(ln:Ln)(o:Bg):Prop:=∃(j:Nat)(lo:Ln),S.lns[j]?=some lo/\j≠i/\ln.ah=some lo.num/\lo.ah=some ln.num/\lo.st=o.s
def Wy (S:PS)(i:Nat)(ln:Ln):Bg->Prop
 | .rests=>ln.held=[]/\ln.ah=none/\ln.num ∉ S.q/\Zr ln
 | .cF=>ln.held=[]/\ln.ah=none/\ln.num∈S.q/\Zr ln
 | .aF=>ln.ah=none/\ln.num ∉ S.q/\(0<=ln.aj/\ln.aj<=10)/\(ln.ai.length:Int)<S.long/\ln.held.length<=ln.ai.length+1
 | .told=>ln.held=[]/\ln.ah=none/\ln.num ∉ S.q
 | .rings=>ln.num ∉ S.q/\HF S i ln .bh
 | .bh=>ln.held=[]/\ln.num ∉ S.q/\HF S i ln .rings
 | .aR=>ln.num ∉ S.q/\HF S i ln .aR
structure Di (S:PS)(i:Nat)(ln:Ln):Prop where
 nd:ln.held.Nodup
 ow:∀ p∈ln.held,AU S p=some (ET p.1 i ln.num)
 wy:∃ w:Bg,ln.st=w.s/\Wy S i ln w
structure WF (S:PS):Prop where
 g:WG S
 l:∀(i:Nat)(ln:Ln),S.lns[i]?=some ln->Di S i ln
section
variable {S S':PS}{i j:Nat}{ln lo lm:Ln}
theorem Di.way {w:Bg}(h:Di S i ln)(e:ln.st=w.s):Wy S i ln w:=by obtain ⟨v,B,D⟩:=h.wy;cases Bg.inj (e.symm.trans B);exact D
theorem WG.one (g:WG S)(D:S.lns[i]?=some ln)(B:S.lns[j]?=some lm)(e:ln.num=lm.num):i=j/\ln=lm:=by
 by_cases c:i=j
 .subst c;rw [D] at B;exact ⟨rfl,Ts B⟩
 .exact absurd e (Fy g.num D B c)
theorem WF.bR (w:WF S)(h:S.lns[i]?=some ln):bR S ln.held:=Gb (w.l i ln h).nd λp m=>⟨_,(w.l i ln h).ow p m,FF⟩
theorem Di.ge (h:Di S i ln):∀ t∈ln.held,0<=t.2:=λt m=>Mn (h.ow t m)
theorem WF.apart (w:WF S)(B:S.lns[i]?=some ln)(D:S.lns[j]?=some lm)(n:j≠i){p:Str×Int}(m:p∈lm.held):p ∉ ln.held:=λH=>by
 have a:=(w.l i ln B).ow p H;rw [(w.l j lm D).ow p m] at a;exact Ag8 n (Fy w.g.num D B n) (Ts a)
theorem WF.chg (w:WF S)(g:WG S')(I:Nat->Prop)(D:∀ j,¬ I j->S'.lns[j]?=S.lns[j]?)(H:∀ (i:Nat) (ln:Ln),I i->S.lns[i]?=some ln->∀ z,ln.ah=some z->∃ (j:Nat) (lo:Ln),I j/\S.lns[j]?=some lo/\lo.num=z)(hq:∀ (j:Nat) (lm:Ln),¬ I j->S.lns[j]?=some lm->(lm.num∈S'.q↔lm.num∈S.q))(J:∀ (j:Nat) (lm:Ln),¬ I j->S.lns[j]?=some lm->∀ p∈lm.held,AU S' p=AU S p)(hw:S'.long=S.long)(O:∀ (i:Nat) (y:Ln),I i->S'.lns[i]?=some y->Di S' i y):WF S':=by
 refine ⟨g,λj lm B=>?_⟩;by_cases c:I j
 .exact O j lm c B
 rw [D j c] at B;have L:=w.l j lm B;obtain ⟨v,e,y⟩:=L.wy;have q:=hq j lm c B;have ah:∀ o,HF S j lm o->HF S' j lm o:=λo ⟨k,lo,hk,ne,f1,f2,V⟩=>by
  refine ⟨k,lo,(D k λY=>?_).trans hk,ne,f1,f2,V⟩;obtain ⟨i',cf,c',h',e'⟩:=H k lo Y hk lm.num f2;exact c (by rw [<- (w.g.one h' B e').1];exact c')
 refine ⟨L.nd,λp m=>(J j lm c B p m).trans (L.ow p m),v,e,?_⟩;cases v with
 | rests=>exact ⟨y.1,y.2.1,λz=>y.2.2.1 (q.mp z),y.2.2.2⟩
 | cF=>exact ⟨y.1,y.2.1,q.mpr y.2.2.1,y.2.2.2⟩
 | aF=>exact ⟨y.1,λz=>y.2.1 (q.mp z),y.2.2.1,by rw [hw];exact y.2.2.2.1,y.2.2.2.2⟩
 | told=>exact ⟨y.1,y.2.1,λz=>y.2.2 (q.mp z)⟩
 | rings=>exact ⟨λz=>y.1 (q.mp z),ah _ y.2⟩
 | bh=>exact ⟨y.1,λz=>y.2.1 (q.mp z),ah _ y.2.2⟩
 | aR=>exact ⟨λz=>y.1 (q.mp z),ah _ y.2⟩
theorem WF.ip (w:WF S)(g:WG S'){y:Ln}(h:S.lns[i]?=some ln)(fn:ln.ah=none)(B:S'.lns=S.lns.set i y)(hq:∀ z,z≠ln.num->(z∈S'.q↔z∈S.q))(D:∀ (j:Nat) (lm:Ln),j≠i->S.lns[j]?=some lm->∀ p∈lm.held,AU S' p=AU S p)(hw:S'.long=S.long)(hy:Di S' i y):WF S':=by
 refine w.chg g (·=i) (λj n=>by rw [B,To (Tu n)]) (λk lk e hk z f=>?_) (λj lm n H=>hq _ (Fy w.g.num H h n)) D hw λk z e hk=>?_
 .subst e;rw [h] at hk;cases hk;rw [fn] at f;cases f
 .subst e;rw [B,A0 h] at hk;cases hk;exact hy
theorem WF.nE (w:WF S)(g:WG S'){y z:Ln}(B:S.lns[i]?=some ln)(D:S.lns[j]?=some lo)(n:j≠i)(f1:∀ z,ln.ah=some z->z=lo.num)(f2:∀ z,lo.ah=some z->z=ln.num)(H:S'.lns=(S.lns.set i y).set j z)(hq:∀ x,x≠ln.num->x≠lo.num->(x∈S'.q↔x∈S.q))(I:∀ (k:Nat) (lm:Ln),k≠i->k≠j->S.lns[k]?=some lm->∀ p∈lm.held,AU S' p=AU S p)(hw:S'.long=S.long)(hy:Di S' i y)(J:Di S' j z):WF S':=by
 refine w.chg g (λk=>k=i\/k=j) (λk c=>by rw [H,To (λe=>c (.inr e.symm)),To (λe=>c (.inl e.symm))]) (λk lk e hk x f=>?_) (λk lm c hk=>hq _ (Fy w.g.num hk B λe=>c (.inl e)) (Fy w.g.num hk D λe=>c (.inr e))) (λk lm c hk=>I k lm (λe=>c (.inl e)) (λe=>c (.inr e)) hk) hw λk x e hk=>?_
 .rcases e with rfl | rfl
  .rw [B] at hk;cases hk;exact ⟨j,lo,.inr rfl,D,(f1 x f).symm⟩
  .rw [D] at hk;cases hk;exact ⟨i,ln,.inl rfl,B,(f2 x f).symm⟩
 .rcases e with rfl | rfl
  .rw [H,To n,A0 B] at hk;cases hk;exact hy
  .rw [H,A0 (x:=lo) (by rw [To (Tu n)];exact D)] at hk;cases hk;exact J
theorem BJ {y:Ln}(h:S.lns[i]?=some ln)(e:y.num=ln.num):(S.lns.set i y).map (·.num)=S.lns.map (·.num):=Dy (f:=λx:Ln=>x.num) h e
theorem Gd:∀(ts:List (Str×Int))(S:PS),(aH S ts).long=S.long
 | [],_=>rfl
 | t :: ts,S=>(Gd ts _).trans (by unfold bg;split<;>rfl)
end
theorem JR:∀{l m:List Str},l.Nodup->(∀ z∈l,z∈m)->l.length<=m.length
 | [],_,_,_=>T5 _
 | a :: l,m,nd,h=>by
  have nd:=TV.mp nd;have B:=h a T9;have:=JR (l:=l) (m:=m.erase a) nd.2 λz D=>(Y8 (λ(e:z=a)=>nd.1 (e▸D))).mpr (h z (T1 _ D));rw [Y9 B] at this;have:=tM B;rw [UG];omega
section
variable {S:PS}{i j:Nat}{ln lo:Ln}
theorem Di.nF (h:Di S i ln)(m:ln.num∈S.q):ln.st=Bg.cF.s/\ln.held=[]/\ln.ah=none/\Zr ln:=by
 obtain ⟨v,e,y⟩:=h.wy;cases v with
 | rests=>exact absurd m y.2.2.1
 | cF=>exact ⟨e,y.1,y.2.1,y.2.2.2⟩
 | aF=>exact absurd m y.2.1
 | told=>exact absurd m y.2.2
 | rings=>exact absurd m y.1
 | bh=>exact absurd m y.2.1
 | aR=>exact absurd m y.1
theorem WF.abp (w:WF S)(h:S.lns[i]?=some ln)(n:ln.st≠Bg.cF.s):ln.num ∉ S.q:=λm=>n ((w.l i ln h).nF m).1
theorem WG.at (g:WG S){z:Str}(m:z∈S.lns.map (·.num)):∃(i:Nat)(ln:Ln),S.lns[i]?=some ln/\ln.num=z:=by obtain ⟨ln,B,D⟩:=QQ m;exact ⟨_,ln,B,D⟩
theorem WG.qP (g:WG S):S.q.length<=60:=by have:=JR g.c7 g.dI;rw [Tb] at this;exact Uk this g.aC
theorem WF.cE (w:WF S):DA S:=by refine ⟨w.g.c7,λz m=>?_,w.g.num,w.g.m0,XT w.g.m1,by rw [w.g.pl];exact Int.ofNat_lt.mpr w.g.pos,Uk w.g.qP (by decide)⟩;obtain ⟨i,ln,h,rfl⟩:=w.g.at (w.g.dI z m);exact ⟨ln,Tz h,rfl,((w.l i ln h).nF m).2.1⟩
theorem WF.dn (w:WF S){d:List V}:WF { S with dn:=d }:=by refine ⟨w.g.abo,λi ln h=>⟨(w.l i ln h).nd,(w.l i ln h).ow,?_⟩⟩;obtain ⟨v,e,y⟩:=(w.l i ln h).wy;refine ⟨v,e,?_⟩;cases v<;>exact y
theorem JS {q:List Str}{z:Str}(nd:q.Nodup)(n:z ∉ q):(q++[z]).Nodup:=VX.mpr ⟨nd,TV.mpr ⟨by simp,.nil⟩,λa D b B e=>n (by rw [TX] at B;rw [<- B,<- e];exact D)⟩
theorem RG {q ns:List Str}{z:Str}(h:∀ y∈q,y∈ns)(m:z∈ns):∀ y∈q++[z],y∈ns:=λy B=>(Ut.mp B).elim (h y) λe=>by rw [TX.mp e];exact m
theorem RH {q:List Str}{x z:Str}(n:x≠z):x∈q++[z]↔x∈q:=by simp [n]
theorem CI (h:S.lns[i]?=some ln):ln.num∈S.lns.map (·.num):=Tr.mpr ⟨ln,Tz h,rfl⟩
theorem Di.none {y:Ln}(e:y.held=[])(w:∃ v:Bg,y.st=v.s/\Wy S i y v):Di S i y:=⟨by rw [e];exact .nil,(λp m=>by rw [e] at m;cases m),w⟩
theorem WF.wait (w:WF S)(h:S.lns[i]?=some ln)(B:ln.held=[])(fn:ln.ah=none)(D:ln.num ∉ S.q):WF (B3 S i ln) :=
 w.ip (S':=B3 S i ln) (y:=AI ln "waits") ((w.g.lns (BJ (y:=AI ln "waits") h rfl)).dF (JS w.g.c7 D) (RG (λz m=>by show z∈(S.lns.set i (AI ln "waits")).map _;rw [BJ (y:=AI ln "waits") h rfl];exact w.g.dI z m) (by show _∈(S.lns.set i (AI ln "waits")).map _;rw [BJ (y:=AI ln "waits") h rfl];exact CI h))) h fn rfl (λz n=>RH n) (λ_ _ _ _ _ _=>rfl) rfl
  (.none B ⟨.cF,rfl,B,rfl,T3 _ (TX.mpr rfl),rfl,rfl,rfl⟩)
theorem Dj (w:WF S)(h:S.lns[j]?=some lo):A1 S.lns lo.num=j:=Jz w.g.num h
theorem JT {z:Str}(hs:ln.st≠"rests")(f:ln.ah=some z)(B:S.lns[A1 S.lns z]?=some lo):B0 S i ln=(.tuple [.str "talks",.str lo.num,.str ln.num],{ S with lns:=(S.lns.set (A1 S.lns z) { lo with st:="talks" }).set i { ln with st:="talks" } }):=by simp only [B0,if_neg hs,f,B]
theorem Bg.ne {v u:Bg}(e:ln.st=v.s)(n:v≠u):ln.st≠u.s:=λz=>n (Bg.inj (e.symm.trans z))
theorem WF.lift (w:WF S)(h:S.lns[i]?=some ln)(f:ln.st=Bg.rests.s\/ln.st=Bg.bh.s):WF (B0 S i ln).2/\Ho S i ln:=by
 have L:=w.l i ln h;rcases f with f | f
 .obtain ⟨J,H,y3,_⟩:=L.way f;refine ⟨?_,.inl f⟩;rw [show B0 S i ln=_ from if_pos f];exact w.wait h J H y3
 .obtain ⟨J,H,j,lo,B,D,f1,f2,f3⟩:=L.way f;have O:ln.st≠"rests":=Bg.ne (u:=.rests) f (λe=>nomatch e);refine ⟨?_,.inr ⟨O,j,lo,f1,B,D⟩⟩;have V:=Dj w B;have I:=w.l j lo B;rw [JT O f1 (by rw [V];exact B),V];have Y:(S.lns.set j { lo with st:="talks" })[i]?=some ln:=D5 h D;refine w.nE (i:=j) (j:=i) (y:={ lo with st:="talks" }) (z:={ ln with st:="talks" }) (w.g.lns (by rw [Dy (f:=λx:Ln=>x.num) (y:={ ln with st:="talks" }) Y rfl];exact BJ (y:={ lo with st:="talks" }) B rfl)) B h D.symm (λz e=>by rw [f2] at e;exact (Ts e).symm) (λz e=>by rw [f1] at e;exact (Ts e).symm) rfl (λ_ _ _=>.rfl) (λ_ _ _ _ _ _ _=>rfl) rfl ⟨I.nd,I.ow,.aR,rfl,(I.way (w:=.rings) f3).1,i,{ ln with st:="talks" },A0 Y,D.symm,f2,f1,rfl⟩ ⟨L.nd,L.ow,.aR,rfl,H,j,{ lo with st:="talks" },?_,D,f1,f2,rfl⟩;exact D5 (A0 B) D.symm
theorem WF.aF (w:WF S)(h:S.lns[i]?=some ln)(fn:ln.ah=none)(D:ln.num ∉ S.q){y:Ln}(B:y.num=ln.num)(eh:y.held=ln.held)(es:y.st=Bg.aF.s)(H:y.ah=none)(ep:0<=y.aj/\y.aj<=10)(I:(y.ai.length:Int)<S.long)(J:y.held.length<=y.ai.length+1):WF { S with lns:=S.lns.set i y } :=
 w.ip (w.g.lns (BJ h B)) h fn rfl (λ_ _=>.rfl) (λ_ _ _ _ _ _=>rfl) rfl ⟨by rw [eh];exact (w.l i ln h).nd,λp m=>by rw [B];exact (w.l i ln h).ow p (eh▸m),.aF,es,H,by rw [B];exact D,ep,I,J⟩
theorem WF.told (w:WF S)(h:S.lns[i]?=some ln)(fn:ln.ah=none)(D:ln.num ∉ S.q){y:Ln}(B:y.num=ln.num)(eh:y.held=ln.held)(H:y.ah=none)(d:PyData):WF (BU { S with lns:=S.lns.set i y } i y d):=by
 have eq:(aH { S with lns:=S.lns.set i y } y.held).q=S.q:=DB ..;refine w.ip (y:={ y with held:=[],st:="told",why:=d }) (((w.g.lns (BJ h B)).aH y.held).lns ?_) h fn (UI ..) (λz _=>by show z∈(aH { S with lns:=S.lns.set i y } y.held).q↔_;rw [eq]) (λk I n hk p m=>?_) (Gd ..) (.none rfl ⟨.told,rfl,rfl,H,?_⟩)
 .rw [Hk];exact Dy (f:=λx:Ln=>x.num) (y:={ y with held:=[],st:="told",why:=d }) (A0 h) rfl
 .exact FG (S:={ S with lns:=S.lns.set i y }) (by rw [eh];exact (w.l i ln h).ge) (by rw [eh];exact w.apart h hk n m)
 .show y.num ∉ (aH { S with lns:=S.lns.set i y } y.held).q;rw [eq,B];exact D
theorem WF.bt (w:WF S)(h:S.lns[i]?=some ln)(f:ln.st=Bg.aF.s):WF (CQ S i ln).2/\Lw.bR { S with lns:=S.lns.set i { ln with aj:=ln.aj+1 } } ln.held:=by
 have L:=w.l i ln h;obtain ⟨B,D,⟨J,O⟩,H,I⟩:=L.way f;refine ⟨?_,Gb L.nd λp m=>⟨_,L.ow p m,FF⟩⟩;unfold CQ;split
 .exact w.aF h B D rfl rfl f B ⟨by show 0<=ln.aj+1;omega,by assumption⟩ H I
 .exact w.told h B D (y:={ ln with aj:=ln.aj+1 }) rfl rfl B _
end
section
variable {S:PS}{i j:Nat}{ln lo:Ln}
theorem JU {z:Str}{h:Gr->Gr}(B:∀ g,(h g).pre=g.pre)(D:z≠S9 "")(p:Str×Int):AU { S with aq:=S.aq.map λg=>if g.pre=z then h g else g } p=if p.1=z then (BM S z).bind λg=>if 0<=p.2 then (h g).hs[p.2.toNat]? else none else AU S p:=by
 unfold AU BI;by_cases c:p.1=z
 .rw [if_pos c,c,if_neg D,JP B];simp only [if_true];cases BM S z<;>rfl
 .rw [if_neg c];by_cases y:p.1=S9 ""
  .rw [if_pos y,if_pos y]
  .rw [if_neg y,if_neg y,JP B];simp only [if_neg c];cases BM S p.1<;>rfl
theorem WF.takes (w:WF S)(h:S.lns[i]?=some ln)(fn:ln.ah=none)(nq:ln.num ∉ S.q){y:Ln}(D:y.num=ln.num)(eh:y.held=ln.held)(es:y.st=Bg.aF.s)(ef:y.ah=none)(ep:0<=y.aj/\y.aj<=10)(el:(y.ai.length:Int)<S.long)(ek:y.held.length+1<=y.ai.length+1){z:Str}{g:Gr}{k:Int}(B:z≠S9 "")(H:BM S z=some g)(mR:BZ g.hs g.js 0=some k) :
  WF { S with aq:=S.aq.map (λg=>if g.pre=z then bL g k y.num else g),lns:=S.lns.set i { y with held:=y.held++[(z,k)] } }:=by
 have L:=w.l i ln h;obtain ⟨⟨k0,k1⟩,O⟩:=EK (Wu 0) (Xe _) mR;have V:k.toNat<g.hs.length:=by omega
 have free:AU S (z,k)=some .aa:=by unfold AU BI;rw [if_neg B,H];show (if 0<=k then g.hs[k.toNat]? else none)=_;unfold CO at O;rw [UK,decide_eq_true_eq,Uc,TC V] at O;rw [if_pos k0,TC V];exact congrArg some O.1
 have own:∀ p:Str×Int,p≠(z,k)->AU { S with aq:=S.aq.map (λg=>if g.pre=z then bL g k y.num else g),lns:=S.lns.set i { y with held:=y.held++[(z,k)] } } p=AU S p:=λp n=>by
  refine (JU (S:=S) (h:=λg=>bL g k y.num) (λ_=>rfl) B p).trans ?_;by_cases c:p.1=z
  .rw [if_pos c,H];unfold AU BI;rw [c,if_neg B,H];show (if 0<=p.2 then (g.hs.set k.toNat _)[p.2.toNat]? else none)=if 0<=p.2 then g.hs[p.2.toNat]? else none
   by_cases I:0<=p.2
   .rw [if_pos I,if_pos I,To];intro e;exact n (WA c (by show p.2=k;omega))
   .rw [if_neg I,if_neg I]
  .rw [if_neg c]
 have Y:∀{j:Nat}{J:Ln}{p:Str×Int},Di S j J->p∈J.held->p≠(z,k):=λL m e=>by
  have a:=L.ow _ m;rw [e,free] at a;exact FF (Ts a).symm
 refine w.ip ((w.g.bL z y.num k (by rw [D];exact CI h)).lns (BJ (y:={ y with held:=y.held++[(z,k)] }) h D)) h fn rfl (λ_ _=>.rfl) (λj J n hj p m=>own p (Y (w.l j J hj) m)) rfl ⟨?_,λp m=>?_,.aF,es,ef,by show y.num ∉ S.q;rw [D];exact nq,ep,el,by show (y.held++[(z,k)]).length<=_;rw [Ul];exact ek⟩
 .show (y.held++[(z,k)]).Nodup;rw [eh];exact VX.mpr ⟨L.nd,TV.mpr ⟨by simp,.nil⟩,λa ma b mb e=>Y L ma (by rw [e];exact TX.mp mb)⟩
 .have m:p∈y.held++[(z,k)]:=m;rw [eh] at m;rcases Ut.mp m with m | m
  .rw [own p (Y L m)];show _=some (ET p.1 i y.num);rw [D];exact L.ow p m
  .rw [TX.mp m];refine (JU (S:=S) (h:=λg=>bL g k y.num) (λ_=>rfl) B (z,k)).trans ?_;rw [if_pos rfl,H];show (if 0<=k then (g.hs.set k.toNat (.str y.num))[k.toNat]? else none)=_;rw [if_pos k0,T6 V];unfold ET;rw [if_neg B]
theorem RI {n:Int}(h:1<=n/\n<=10)(x:Str):x++Dh n≠S9 "":=λe=>by
 have:=congrArg Wh e;rw [A9,Me h] at this;have z:(S9 "").length=0:=rfl;omega
theorem WF.gap (w:WF S)(h:S.lns[i]?=some ln)(f:ln.st=Bg.aF.s)(p0:ln.aj≠0):WF (BQ S i ln).2:=by
 obtain ⟨B,D,⟨y3,y4⟩,y5,y6⟩:=(w.l i ln h).way f;have I:1<=ln.aj/\ln.aj<=10:=by omega
 have lf:(As ln).ai.length=ln.ai.length+1:=by show (ln.ai++Dh ln.aj).length=_;rw [A9,Me I]
 have told:∀ d,WF (BU { S with lns:=S.lns.set i (As ln) } i (As ln) d):=λd=>w.told h B D (y:=As ln) rfl rfl B d;have hi:=w.g.hi;unfold BQ;dsimp only;split
 .rename_i c
  unfold Ck;split
  .exact told _
  .rename_i g eg
   split
   .exact told _
   .rename_i k ef
    have:=w.takes h B D (y:=As ln) rfl rfl f B ⟨Wu 0,by show (0:Int)<=10;decide⟩ (by omega) (by show ln.held.length+1<=_;omega) (z:=(As ln).ai) (RI I _) eg ef;rw [show (S.lns.set i (As ln)).set i { As ln with held:=(As ln).held++[((As ln).ai,k)] }=_ from UI ..];exact this
 .split
  .rename_i c
   exact w.aF h B D (y:=As ln) rfl rfl f B ⟨Wu 0,by show (0:Int)<=10;decide⟩ c (by show ln.held.length<=_;omega)
  .unfold B1;split
   .exact told _
   .rename_i lc hc
    split
    .rename_i hr
     have hc:(S.lns.set i (As ln))[A1 (S.lns.set i (As ln)) (As ln).ai]?=some lc:=hc;show WF { S with lns:=((S.lns.set i (As ln)).set i _).set (A1 (S.lns.set i (As ln)) (As ln).ai) _ };generalize A1 (S.lns.set i (As ln)) (As ln).ai=j at hc;have n:j≠i:=λe=>by
      rw [e,A0 h] at hc;rw [<- Ts hc] at hr;exact Bg.ne (u:=.rests) (ln:=As ln) f (λe=>nomatch e) hr
     rw [To n.symm] at hc;rw [UI];have H:=w.l j lc hc;obtain ⟨O,V,Y,c4⟩:=H.way (w:=.rests) hr;have L:=w.l i ln h;have J:∀ y:Ln,(S.lns.set i y)[j]?=some lc:=λy=>D5 hc n.symm;refine w.nE (w.g.lns ?_) h hc n (λz e=>by rw [B] at e;cases e) (λz e=>by rw [V] at e;cases e) rfl (λ_ _ _=>.rfl) (λ_ _ _ _ _ _ _=>rfl) rfl ⟨L.nd,L.ow,.rings,rfl,D,j,{ lc with st:="rung",ah:=some ln.num },A0 (J _),n,rfl,rfl,rfl⟩ ⟨H.nd,H.ow,.bh,rfl,O,Y,i,{ As ln with st:="rings",ah:=some lc.num },D5 (A0 h) n,n.symm,rfl,rfl,rfl⟩;rw [Dy (f:=λx:Ln=>x.num) (y:={ lc with st:="rung",ah:=some (As ln).num }) (J _) rfl];exact BJ (y:={ As ln with st:="rings",ah:=some lc.num }) h rfl
    .exact told _
theorem WF.qQ (w:WF S)(h:S.lns[i]?=some ln)(f:ln.st=Bg.aF.s):Hv S i ln:=by have L:=w.l i ln h;obtain ⟨H,I,⟨B,D⟩,J,O⟩:=L.way f;have V:=w.g.hi;exact ⟨D,B,Bg.ne (u:=.rests) f (λe=>nomatch e),by omega,(λg m=>(w.g.hg g m).s),by omega,Gb L.nd λp m=>⟨_,L.ow p m,FF⟩⟩
theorem Mo (p:Str×Int):AU (aA S ln) p=AU S p:=by unfold aA;split<;>rfl
theorem Ep:(aA S ln).lns=S.lns:=by unfold aA;split<;>rfl
theorem Aha:(aA S ln).long=S.long:=by unfold aA;split<;>rfl
theorem WF.aA (w:WF S)(h:S.lns[i]?=some ln):WG (aA S ln)/\ln.num ∉ (Lw.aA S ln).q/\∀ z,z≠ln.num->(z∈(Lw.aA S ln).q↔z∈S.q):=by
 unfold Lw.aA;split
 .exact ⟨w.g.dF (w.g.c7.erase _) λz m=>w.g.dI z (List.mem_of_mem_erase m),λm=>((w.g.c7.mem_erase_iff).mp m).1 rfl,λz n=>Y8 n⟩
 .rename_i c
  exact ⟨w.g,w.abp h c,λ_ _=>.rfl⟩
theorem WG.br {T:PS}(g:WG T)(h:T.lns[i]?=some ln):WG (br T i ln):=(g.aH ln.held).lns (by rw [Hk];exact BJ (y:=AI { ln with held:=[] } "rests") h rfl)
end
section
variable {S:PS}{i j:Nat}{ln lo:Ln}
theorem WF.nH (w:WF S)(h:S.lns[i]?=some ln)(fn:ln.ah=none)(hw:ln.st="waits"->ln.num∈S.q):WF (Cs S i ln).2/\Fz S i ln:=by
 have L:=w.l i ln h;obtain ⟨g1,D,H⟩:=w.aA h;have B:aX (Lw.aA S ln) ln=([],Lw.aA S ln):=by simp only [aX,fn]
 have eq:(aH (Lw.aA S ln) ln.held).q=(Lw.aA S ln).q:=DB ..;refine ⟨?_,hw,λz e=>(by rw [fn] at e;cases e),by rw [B];exact Gb L.nd λp m=>⟨_,(Mo p).trans (L.ow p m),FF⟩⟩;unfold Cs;rw [B];refine w.ip (S':=br (Lw.aA S ln) i ln) (y:=AI { ln with held:=[] } "rests") (g1.br (by rw [Ep];exact h)) h fn (by show (Lw.aA S ln).lns.set i _=_;rw [Ep]) (λz n=>by show z∈(aH (Lw.aA S ln) ln.held).q↔_;rw [eq];exact H z n) (λk I n hk p m=>?_) ((Gd ..).trans Aha) (.none rfl ⟨.rests,rfl,rfl,rfl,by show ln.num ∉ (aH (Lw.aA S ln) ln.held).q;rw [eq];exact D,rfl,rfl,rfl⟩);exact (FG L.ge (w.apart h hk n m)).trans (Mo p)
theorem WF.left (w:WF S)(h:S.lns[j]?=some lo)(B:lo.num ∉ S.q):∃ y:Ln,y.num=lo.num/\y.held=[]/\y.ah=none/\(Bd S j lo).2.lns=S.lns.set j y/\(Bd S j lo).2.long=S.long/\WG (Bd S j lo).2/\(∀ p,p ∉ lo.held->AU (Bd S j lo).2 p=AU S p)/\(∀ x,x≠lo.num->(x∈(Bd S j lo).2.q↔x∈S.q))/\∀ U:PS,U.q=(Bd S j lo).2.q->∃ v:Bg,y.st=v.s/\Wy U j y v:=by
 have L:=w.l j lo h;have eq:(aH S lo.held).q=S.q:=DB ..;have D:WG (BP S j lo):=(w.g.aH lo.held).lns (by rw [Hk];exact BJ (y:={ lo with held:=[] }) h rfl);have H:(BP S j lo).lns[j]?=some { lo with held:=[] }:=A0 h;have own:∀ p,p ∉ lo.held->AU (aH S lo.held) p=AU S p:=λp n=>FG L.ge n;unfold Bd;split
 .refine ⟨AI { lo with held:=[] } "waits",rfl,rfl,rfl,UI ..,Gd ..,(D.lns (BJ (y:=AI { lo with held:=[] } "waits") H rfl)).dF ?_ ?_,own,λx n=>?_,λU e=>⟨.cF,rfl,rfl,rfl,?_,rfl,rfl,rfl⟩⟩
  .show ((aH S lo.held).q++[lo.num]).Nodup;rw [eq];exact JS w.g.c7 B
  .show ∀ z∈(aH S lo.held).q++[lo.num],z∈((BP S j lo).lns.set j (AI { lo with held:=[] } "waits")).map (·.num);rw [eq,BJ (y:=AI { lo with held:=[] } "waits") H rfl,show (BP S j lo).lns.map (·.num)=S.lns.map (·.num) from BJ (y:={ lo with held:=[] }) h rfl];exact RG w.g.dI (CI h)
  .show x∈(aH S lo.held).q++[lo.num]↔_;rw [eq];exact RH n
  .rw [e];exact T3 _ (TX.mpr rfl)
 .refine ⟨AI { lo with held:=[] } "rests",rfl,rfl,rfl,rfl,Gd ..,D.lns ?_,own,λx n=>?_,λU e=>⟨.rests,rfl,rfl,rfl,?_,rfl,rfl,rfl⟩⟩
  .rw [show (BP S j lo).lns.map (·.num)=S.lns.map (·.num) from BJ (y:={ lo with held:=[] }) h rfl];exact BJ (y:=AI { lo with held:=[] } "rests") h rfl
  .show x∈(aH S lo.held).q↔_;rw [eq]
  .rw [e];show lo.num ∉ (aH S lo.held).q;rw [eq];exact B
theorem WF.qR (w:WF S)(h:S.lns[i]?=some ln)(J:ln.st≠"waits")(B:S.lns[j]?=some lo)(D:j≠i)(f1:ln.ah=some lo.num)(f2:lo.ah=some ln.num)(nq:ln.num ∉ S.q)(mq:lo.num ∉ S.q):WF (Cs S i ln).2/\Fz S i ln:=by
 have L:=w.l i ln h;have H:Lw.aA S ln=S:=if_neg J;have ei:=Dj w B;have O:aX S ln=([(Bd S j lo).1],(Bd S j lo).2):=by simp only [aX,f1,ei,B]
 obtain ⟨y,y1,y2,y3,V,y5,y6,Y,y8,y9⟩:=w.left B mq;have eq:(aH (Bd S j lo).2 ln.held).q=(Bd S j lo).2.q:=DB ..;have hi:(Bd S j lo).2.lns[i]?=some ln:=by rw [V];exact D5 h D
 refine ⟨?_,λe=>absurd e J,λz e=>?_,?_⟩
 .unfold Cs;rw [H,O];refine w.nE (S':=br (Bd S j lo).2 i ln) (i:=j) (j:=i) (y:=y) (z:=AI { ln with held:=[] } "rests") (y6.br hi) B h D.symm (λz e=>by rw [f2] at e;exact (Ts e).symm) (λz e=>by rw [f1] at e;exact (Ts e).symm) (by show (Bd S j lo).2.lns.set i _=_;rw [V]) (λx I n2=>by show x∈(aH (Bd S j lo).2 ln.held).q↔_;rw [eq];exact y8 x I) (λk lm I n2 hk p m=>(FG L.ge (w.apart h hk n2 m)).trans (Y p (w.apart B hk I m))) ((Gd ..).trans y5) (.none y2 (y9 _ eq)) (.none rfl ⟨.rests,rfl,rfl,rfl,?_,rfl,rfl,rfl⟩);show ln.num ∉ (aH (Bd S j lo).2 ln.held).q;rw [eq];exact λm=>nq ((y8 _ (Fy w.g.num h B D.symm)).mp m)
 .rw [f1] at e;cases e;exact ⟨j,lo,B,rfl,D,by rw [H];exact w.bR B⟩
 .rw [H,O];exact Gb L.nd λp m=>⟨_,(Y p (w.apart B h D.symm m)).trans (L.ow p m),FF⟩
theorem WF.aW (w:WF S)(h:S.lns[i]?=some ln)(f:ln.st∈LW.aW.cD):WF (Cs S i ln).2/\Fz S i ln:=by
 have L:=w.l i ln h;obtain ⟨v,e,y⟩:=L.wy;have no:∀ u:Bg,u.s ∉ LW.aW.cD->v≠u:=λu n z=>n (by rw [<- z,<- e];exact f);cases v with
 | rests=>exact absurd rfl (no .rests (by decide +kernel))
 | bh=>exact absurd rfl (no .bh (by decide +kernel))
 | cF=>exact w.nH h y.2.1 λ_=>y.2.2.1
 | aF=>exact w.nH h y.1 λz=>absurd z (Bg.ne (u:=.cF) e λz=>nomatch z)
 | told=>exact w.nH h y.2.1 λz=>absurd z (Bg.ne (u:=.cF) e λz=>nomatch z)
 | rings =>
  obtain ⟨q,j,lo,B,D,f1,f2,H⟩:=y;exact w.qR h (Bg.ne (u:=.cF) e λz=>nomatch z) B D f1 f2 q ((w.l j lo B).way (w:=.bh) H).2.1
 | aR =>
  obtain ⟨q,j,lo,B,D,f1,f2,H⟩:=y;exact w.qR h (Bg.ne (u:=.cF) e λz=>nomatch z) B D f1 f2 q ((w.l j lo B).way (w:=.aR) H).1
theorem WF.gx (w:WF S){x:PyData×PS}(e:DO S=some x):WF x.2:=by
 obtain ⟨z,r,k,ln,H,e2,B,J,e5,rfl⟩:=JA w.cE e;generalize A1 S.lns z=i at B ⊢;have il:=(TH.mp B).1;obtain ⟨⟨k0,k1⟩,L⟩:=EK w.g.m0 (XT w.g.m1) e2;have O:k.toNat<S.sk.hs.length:=by omega
 obtain ⟨l1,l2,l3,l4⟩:=(w.l i ln B).nF (by rw [J,H];exact T9);have nd:=w.g.c7;rw [H] at nd;obtain ⟨zr,mK⟩:=TV.mp nd;have free:AU S ((S9 ""),k)=some .aa:=by show (if 0<=k then S.sk.hs[k.toNat]? else none)=_;unfold CO at L;rw [UK,decide_eq_true_eq,Uc,TC O] at L;rw [if_pos k0,TC O];exact congrArg some L.1
 have own:∀(T:PS),T.aq=S.aq->T.sk.hs=S.sk.hs.set k.toNat (.int i)->∀ p:Str×Int,p≠((S9 ""),k)->AU T p=AU S p:=λT eg es p n=>by
  unfold AU BI BM;rw [eg,es];by_cases c:p.1=S9 ""
  .rw [if_pos c,if_pos c];show (if 0<=p.2 then (S.sk.hs.set k.toNat _)[p.2.toNat]? else none)=if 0<=p.2 then S.sk.hs[p.2.toNat]? else none
   by_cases I:0<=p.2
   .rw [if_pos I,if_pos I,To];intro e;exact n (WA c (by show p.2=k;omega))
   .rw [if_neg I,if_neg I]
  .rw [if_neg c,if_neg c]
 have nw:∀(j:Nat)(D:Ln),S.lns[j]?=some D->∀ p∈D.held,p≠((S9 ""),k):=λj D V p m c=>by
  have a:=(w.l j D V).ow p m;rw [c,free] at a;exact FF (Ts a).symm
 dsimp only;refine w.ip (y:={ AI ln "dials" with held:=ln.held++[((S9 ""),k)] }) (((w.g.bY (k:=k) il).lns (BJ (S:=S) (y:={ AI ln "dials" with held:=ln.held++[((S9 ""),k)] }) B rfl)).dF mK λy my=>?_) B l3 rfl (λx n=>?_) (λj D n V p m=>by refine own _ ?_ ?_ p λc=>?_;rfl;rfl;exact nw j D V p m c) rfl ?_
 .show y∈(S.lns.set i _).map _;rw [BJ (y:={ AI ln "dials" with held:=ln.held++[((S9 ""),k)] }) B rfl];exact w.g.dI y (by rw [H];exact T1 _ my)
 .show x∈r↔_;rw [J] at n;rw [H,Tq];exact ⟨.inr,λc=>c.resolve_left n⟩
 .have Y:ln.held++[((S9 ""),k)]=[((S9 ""),k)]:=by rw [l2];rfl
  have lo:=w.g.lo;refine ⟨by show (ln.held++_).Nodup;rw [Y];exact TV.mpr ⟨by simp,.nil⟩,λp m=>?_,.aF,rfl,rfl,?_,⟨Wu 0,by show (0:Int)<=10;decide⟩,?_,?_⟩
  .have m:p∈ln.held++[((S9 ""),k)]:=m;rw [Y] at m;rw [TX.mp m];show (if 0<=k then (S.sk.hs.set k.toNat (.int i))[k.toNat]? else none)=some (.int i);rw [if_pos k0,T6 O]
  .show ln.num ∉ r;rw [J];exact zr
  .show ((S9 "").length:Int)<S.long;have:(S9 "").length=0:=rfl;omega
  .show (ln.held++_).length<=(S9 "").length+1;rw [Y];exact Nat.le_add_left 1 _
theorem WF.aQ:∀(n:Nat){S:PS},WF S->WF (aQ n S).2
 | 0,_,w=>w
 | n+1,S,w=>by
  unfold Lw.aQ;split
  .exact w
  .rename_i e
   exact WF.aQ n (w.gx e)
theorem WF.nI (w:WF S):WF (Bq S).2:=WF.aQ _ w
def A6.txt:A6->Prop
 | .b8 _ w _=>Ok w
 | .line _ z=>Ok z
theorem LW.in {d:LW}(f:d.fits ln=true):ln.st∈d.cD:=by unfold LW.fits at f;rw [UK,decide_eq_true_eq] at f;exact f.1
theorem LW.qS (f:LW.gap.fits ln=true):ln.aj≠0:=by unfold LW.fits at f;rw [UK] at f;exact of_decide_eq_true f.2
theorem LW.aF {d:LW}(f:d.fits ln=true)(e:d.cD=[("dials":Str)]):ln.st=Bg.aF.s:=by have:=LW.in f;rw [e] at this;exact TX.mp this
theorem WF.go (w:WF S)(h:S.lns[i]?=some ln){d:LW}(f:d.fits ln=true):WF (d.go S i ln).2/\d.ok S i ln:=by
 cases d with
 | lift =>
  refine w.lift h ?_;have:=LW.in f;rcases Tq.mp this with e | e
  .exact .inl e
  .exact .inr (TX.mp e)
 | bt=>exact w.bt h (LW.aF f rfl)
 | gap=>exact ⟨w.gap h (LW.aF f rfl) (LW.qS f),w.qQ h (LW.aF f rfl)⟩
 | aW=>exact w.aW h (LW.in f)
end
noncomputable def Cc (z:Str):Ln:=⟨z,"rests","",0,none,.none,[]⟩
noncomputable def Cd (p:Str×Int):Gr:=⟨p.1,Th p.2.toNat .aa,Th p.2.toNat false,Th p.2.toNat 0⟩
noncomputable def FI (n places:Int):Sk:=⟨Th n.toNat .aa,Th n.toNat false,Th n.toNat 0,places,0,Th n.toNat 0,Th n.toNat 0⟩
noncomputable def cG (long:Int)(zs:List Str)(n:Int)(gs:List (Str×Int)):PS:=⟨long,zs.map Cc,gs.map Cd,FI n zs.length,[],[]⟩
theorem At.init {H B:Hp}{p:Addr}{o o':HO}{C N:AN}(t:At H ((p,o) :: C))(s:Ca [p] H B)(ep:B p=some o')(D:∀ c∈N,H c.1=none/\B c.1=some c.2)(nd:(N.map (·.1)).Nodup):At B ((p,o') :: (N++C)):=by
 have I:=TV.mp t.nd;refine ⟨λc m=>?_,TV.mpr ⟨λm=>?_,?_⟩⟩
 .rcases Tq.mp m with rfl | m
  .exact ep
  .rcases Ut.mp m with m | m
   .exact (D c m).2
   .exact s _ _ (λz=>I.1 (Tr.mpr ⟨c,m,TX.mp z⟩)) (t.at_ c (T1 _ m))
 .obtain ⟨c,mc,L⟩:=Tr.mp m;rcases Ut.mp mc with mc | mc
  .have:=(D c mc).1;rw [show c.1=p from L,t.hd] at this;cases this
  .exact I.1 (Tr.mpr ⟨c,mc,L⟩)
 .rw [TQ];refine VX.mpr ⟨nd,I.2,λx hx y hy e=>?_⟩;obtain ⟨c,mc,rfl⟩:=Tr.mp hx;obtain ⟨V,J,rfl⟩:=Tr.mp hy;have O:=(D c mc).1;rw [e,t.at_ V (T1 _ J)] at O;cases O
structure JV (a:Ak)(H:Hp)(D:Addr)(zs:List Str)(i:Nat)(L:List LX)(C:AN):Prop where
 t:At H ((D,.dK (L.map λx=>(.inr x.l.num,.ref x.p))) :: (L.flatMap (BS a)++C))
 len:L.length=i
 l:L.map (·.l)=(zs.take i).map Cc
 x:∀(j:Nat)(x:LX),L[j]?=some x->x.i=j/\x.hv=[]/\x.wv=.aa
theorem JV.push {a:Ak}{H B:Hp}{D x dx l:Addr}{zs:List Str}{i:Nat}{L:List LX}{C:AN}{z:Str}(m:JV a H D zs i L C)(O:zs[i]?=some z)(nd:zs.Nodup)(s:Ag H B)(nx:B x=none)(cP:B dx=none)(eO:dx≠x)(nl:(upd (upd B dx (.own x)) x (.ins a.Line dx [])) l=none) :
  JV a (upd (upd (upd (upd (upd B dx (.own x)) x (.ins a.Line dx [])) l (.lst [])) x (.ins a.Line dx (BO z i l "rests" "" 0 .aa .aa))) D (.dK (Bz (L.map λx=>((.inr x.l.num:Au),V.ref x.p)) (.inr z) (.ref x)))) D zs (i+1) (L++[⟨x,dx,l,i,.aa,[],Cc z⟩]) C:=by
 have no:z ∉ L.map (·.l.num):=λh=>by
  have e:L.map (·.l.num)=zs.take i:=by have:=congrArg (Vy Ln.num) m.l;rw [TL,TL] at this;rw [show (λx:LX=>x.l.num)=Ln.num∘(λx:LX=>x.l) from rfl,this,show Ln.num∘Cc=id from rfl,V2]
  rw [e] at h;obtain ⟨j,I,J⟩:=U1 h;rw [UZ] at I;have bV:zs[j]?=some z:=by rw [Zh] at J;rw [TC (by omega),J]
  exact Dz nd bV O (by omega) rfl
 have s1:Ag B (upd B dx (.own x)):=(Ag.refl B).upd cP;have t1:=(m.t.same (λb o e=>s1 _ _ (s _ _ e))).new (b:=x) (u:=.ins a.Line dx []) (by rw [Ap eO.symm];exact nx);have t2:=t1.new (u:=.lst []) nl;have t3:=At.set (P:=[_]) (o':=.ins a.Line dx (BO z i l "rests" "" 0 .aa .aa)) t2;have t4:=At.set (P:=[_,_]) (o':=.dK (Bz (L.map λx=>((.inr x.l.num:Au),V.ref x.p)) (.inr z) (.ref x))) t3;have t5:=At.perm (C':=(x,.ins a.Line dx (BO z i l "rests" "" 0 .aa .aa)) :: (l,.lst []) :: _) t4 (.swap _ _ _);have Y:=At.swap (P:=[_,_]) (M:=(D,_) :: L.flatMap (BS a)) (R:=C) t5;refine ⟨?_,by rw [Ul,m.len];rfl,?_,λj y I=>?_⟩
 .have ek:Bz (L.map λx=>((.inr x.l.num:Au),V.ref x.p)) (.inr z) (.ref x)=(L.map λx=>((.inr x.l.num:Au),V.ref x.p))++[(.inr z,.ref x)]:=IK _ (EO (f:=λx:LX=>x.l.num) (v:=λx=>V.ref x.p) no);rw [ek] at Y ⊢;rw [Zd,TQ,TM];exact Y
 .rw [TQ,m.l,Vg,O,TQ];rfl
 .by_cases lt:j<L.length
  .rw [ZF lt] at I;exact m.x j y I
  .have jl:=(TH.mp I).1;rw [Ul,UH] at jl;have J:j=L.length:=by omega
   subst J;rw [List.getElem?_concat_length] at I;cases I;exact ⟨m.len.symm,rfl,rfl⟩
structure JW (a:Ak)(H:Hp)(G:Addr)(gs:List (Str×Int))(i:Nat)(L:List RX)(C:AN):Prop where
 t:At H ((G,.dK (L.map λx=>(.inr x.g.pre,.ref x.p))) :: (L.flatMap (Bv a)++C))
 len:L.length=i
 g:L.map (·.g)=(gs.take i).map Cd
theorem JW.push {a:Ak}{H J:Hp}{G p dx B D I:Addr}{O:List (Str×Int)}{i:Nat}{L:List RX}{C:AN}{q:Str×Int}(m:JW a H G O i L C)(Y:O[i]?=some q)(nd:(O.map (·.1)).Nodup)(np:H p=none)(cP:H dx=none)(eO:dx≠p)(s:Ca [p] (upd (upd H dx (.own p)) p (.ins a.aI dx [])) J)(ep:J p=some (.ins a.aI dx (Fv B D I)))(na:(upd (upd H dx (.own p)) p (.ins a.aI dx [])) B=none)(nb:(upd (upd H dx (.own p)) p (.ins a.aI dx [])) D=none)(nc:(upd (upd H dx (.own p)) p (.ins a.aI dx [])) I=none)(ea:J B=some (.lst (Cd q).hs))(eb:J D=some (.lst ((Cd q).js.map V.bl)))(ec:J I=some (.lst ((Cd q).ts.map V.int)))(ab:B≠D)(ac:B≠I)(bc:D≠I) :
  JW a (upd J G (.dK (Bz (L.map λx=>((.inr x.g.pre:Au),V.ref x.p)) (.inr q.1) (.ref p)))) G O (i+1) (L++[⟨p,dx,B,D,I,Cd q⟩]) C:=by
 have no:q.1 ∉ L.map (·.g.pre):=λh=>by
  have e:L.map (·.g.pre)=(O.take i).map (·.1):=by have:=congrArg (Vy Gr.pre) m.g;rw [TL,TL] at this;exact this
  rw [e,List.map_take] at h;obtain ⟨j,hj,ej⟩:=U1 h;rw [UZ,Tb] at hj;have bV:(O.map (·.1))[j]?=some q.1:=by rw [Zh] at ej;rw [TC (by rw [Tb];omega),ej]
  exact Dz nd bV (j:=i) (y:=q.1) (by rw [Tp,Y];rfl) (by omega) rfl
 have s1:Ag H (upd H dx (.own p)):=(Ag.refl H).upd cP;have t1:=(m.t.same s1).new (b:=p) (u:=.ins a.aI dx []) (by rw [Ap eO.symm];exact np);have t2:=t1.init (N:=[(B,.lst (Cd q).hs),(D,.lst ((Cd q).js.map V.bl)),(I,.lst ((Cd q).ts.map V.int))]) s ep (λc mc=>by
  simp only [Tq,Ue,or_false] at mc;rcases mc with rfl | rfl | rfl
  .exact ⟨na,ea⟩
  .exact ⟨nb,eb⟩
  .exact ⟨nc,ec⟩) (by simp [ab,ac,bc])
 have t3:=At.set (P:=[_,_,_,_]) (o':=.dK (Bz (L.map λx=>((.inr x.g.pre:Au),V.ref x.p)) (.inr q.1) (.ref p))) t2;have t4:=At.swap (P:=[_,_,_,_]) (M:=(G,_) :: L.flatMap (Bv a)) (R:=C) t3;refine ⟨?_,by rw [Ul,m.len];rfl,?_⟩
 .have ek:Bz (L.map λx=>((.inr x.g.pre:Au),V.ref x.p)) (.inr q.1) (.ref p)=(L.map λx=>((.inr x.g.pre:Au),V.ref x.p))++[(.inr q.1,.ref p)]:=IK _ (EO (f:=λx:RX=>x.g.pre) (v:=λx=>V.ref x.p) no);rw [ek] at t4 ⊢;rw [Zd,TQ,TM];exact t4
 .rw [TQ,m.g,Vg,Y,TQ];rfl
def RJ (K:S3)(a:Ak):Sp:=λvs H Q _=>∃(h dx pl bC lt gt:Addr)(long n:Int)(zs:List Str)(ts:List Pr)(R:AN),vs=[.ref h,.ref pl]/\At H ((h,.ins a.ae dx []) :: R)/\(pl,.ins a.Plan bC (Js long lt n gt))∈R/\Jr K a.Plan/\H lt=some (.tup (zs.map V.str))/\H gt=some (.tup (ts.map BA))/\D1 H ts/\zs.Nodup/\(ts.map (·.2.1)).Nodup/\(∀ t∈ts,t.2.1≠S9 ""/\0<=t.2.2/\t.2.2<=1000)/\ts.length<=1000/\zs.length<=60/\0<=n/\n<=60 /\
 ∀ H' X,X.h=h->X.S=cG long zs n (ts.map (·.2))->HT K a H' X R->Ah H H'->Q .aa H'
theorem Ahb:AO ["self","plan"] ["self","plan"] (Ac (Ad (top 27) 0)):=.of
theorem Ge:Nm (Ac (Ad (top 27) 0)) "self":=.of
theorem HH:Nm (Ac (Ad (top 27) 0)) "plan":=.of
theorem Ahc:Gm (Ac (Ad (top 27) 0)) "AT_SEEKERS":=.of
theorem Ahd:Gm (Ac (Ad (top 27) 0)) "Seekers":=.of
theorem Ahe:Gm (Ac (Ad (top 27) 0)) "len":=.of
theorem Ahf:Gm (Ac (Ad (top 27) 0)) "enumerate":=.of
noncomputable def JY:Scope:={ kind:=.function,names:=[(".0",.local),("prefix",.local),("many",.local),("Group",.globalImplicit)],isGenerator:=false,isCoroutine:=false,more:=[] }
theorem Mp:Bu JY (Ac (Ad (top 27) 0)) ["prefix","many"] ["self","plan"] [none,none]:=Bu.mk' rfl (by decide +kernel) (by decide +kernel) (by decide +kernel) (by decide +kernel) rfl (by decide +kernel)
theorem RK:Nm JY "prefix":=.of
theorem RL:Nm JY "many":=.of
theorem Ahg:Gm JY "Group":=.of
noncomputable def JZ:Scope:={ kind:=.function,names:=[(".0",.local),("place",.local),("number",.local),("Line",.globalImplicit)],isGenerator:=false,isCoroutine:=false,more:=[] }
theorem Mq:Bu JZ (Ac (Ad (top 27) 0)) ["place","number"] ["self","plan"] [none,none]:=Bu.mk' rfl (by decide +kernel) (by decide +kernel) (by decide +kernel) (by decide +kernel) rfl (by decide +kernel)
theorem RM:Nm JZ "place":=.of
theorem Mr:Nm JZ "number":=.of
theorem Ahh:Gm JZ "Line":=.of
theorem Ahi (F:AJ K "__init__" "Hall.__init__" (Ad (top 27) 0) f fd)(T:TxtH P w K mg a)(abq:EI P w K mg base AE 2 a.Line "Line" ["self","number","place"] (Qr a))(abr:EI P w K mg base AE 2 a.aI "Group" ["self","many"] (Je K a))(abt:EI P w K mg base AE 2 a.aL "Seekers" ["self","many","places"] (PQ K a)):AB P w K mg base AE 4 f fd ["self","plan"] (RJ K a):=by
 refine F.ok Ahb λak A outer s H vs Q E hr h=>?_
 .obtain ⟨h,dx,pl,bC,lt,gt,B,n,zs,ts,R,rfl,t,kA,pc,au,jk,lay,nz,ng,gk,gz,zl,n0,n1,q⟩:=h;have hu:=hr.units;refine ⟨_,(@Aj _ _ _ _ _ (Br (Aa 0 Ge) (Ax (Aa 1 HH) rfl) rfl)
    (Aj (Br (Aa 0 Ge) (O2 rfl Mq (Ad0 Ahf T.jY (Ab (Ax (Aa 1 HH) rfl) Af)) (λcl C fp pins s₂ H₂=>(IG (X:=AS _ _ _ cl C fp pins s₂ H₂) K rfl 2 rfl (B5 (Bo 0 Mq.nd RM.comp) (B5 (Bo 1 Mq.nd Mr.comp) DD)) rfl rfl)) (λcl C fp pins s₂ H₂=>EG) (λcl C fp pins s₂ H₂=>(Aa 1 Mr.comp)) (λcl C fp pins s₂ H₂=>(GV abq Ahh.comp hr.d A5 (Ab (Aa 1 Mr.comp) (Ab (Aa 0 RM.comp) Af))))) rfl)
    (Aj (Br (Aa 0 Ge) (O2 rfl Mp (Nd (Ax (Aa 1 HH) rfl)) (λcl C fp pins s₂ H₂=>(IG (X:=AS _ _ _ cl C fp pins s₂ H₂) K rfl 2 rfl (B5 (Bo 0 Mp.nd RK.comp) (B5 (Bo 1 Mp.nd RL.comp) DD)) rfl rfl)) (λcl C fp pins s₂ H₂=>EG) (λcl C fp pins s₂ H₂=>(Aa 0 RK.comp)) (λcl C fp pins s₂ H₂=>(GV abr Ahg.comp hr.d A5 (Ab (Aa 1 RL.comp) Af)))) rfl)
    (Aj (Dr (Uv (UL (by decide) _) hu) (Ax (Aa 0 Ge) rfl) (G0 Ahc T.i7) (GV abt Ahd hr.d A5 (Ab (Ax (Aa 1 HH) rfl) (Ab (BH Cy Ahe T.n_len Cj (Ab (Ax (Aa 1 HH) rfl) Af)) Af))) rfl)
    (Aj (Br (Aa 0 Ge) (Bx Af) rfl)
    (Am (Br (Aa 0 Ge) (Bx Af) rfl))))))),?_⟩
  try dsimp only [aD,aE]
  walk_at"";refine AF pl a.Plan bC _ _ rfl (t.tl.get kA) pc.cls pc.l rfl ?_;walk_at"";refine Bc h a.ae dx _ rfl t.hd T.hc.cls T.hc.lo (T8 rfl) ?_;have t1:=t.lZ (o':=.ins a.ae dx (An "long" (.int B) []));have p1:Ah H (upd H h (.ins a.ae dx (An "long" (.int B) []))):=.chg t.hd rfl;generalize upd H h (.ins a.ae dx (An "long" (.int B) []))=H1 at t1 p1 ⊢;walk_at"";refine AF pl a.Plan bC _ _ rfl (t1.tl.get kA) pc.cls pc.n rfl ?_;walk_at"";refine B2 lt _ rfl (.of (p1.t au)) (λD nD=>?_);refine Ad1 (xs:=zs.map V.str) (λi σ H2=>∃ x y L,σ=[x,y]/\JV a H2 D zs i L ((h,.ins a.ae dx (An "long" (.int B) [])) :: R)/\Ah H H2) ⟨none,none,[],rfl,⟨t1.new nD,rfl,rfl,λj x h=>by simp at h⟩,p1.trans (.new nD)⟩ (λi σ H2 _ ⟨_,_,_,_,_,p⟩=>.of (p.t au)) ?_ ?_
  .rintro i v tt σ H2 hx ⟨x0,y0,L,rfl,m,p2⟩ nt;rw [Tp] at hx;obtain ⟨z,hz,rfl⟩:=UD.mp hx;have s3:=(Ag.refl H2).upd (o:=.tup [.int i,.str z]) nt;have e3:(upd H2 tt (.tup [.int i,.str z])) tt=some (.tup [.int i,.str z]):=Ai;generalize upd H2 tt (.tup [.int i,.str z])=H3 at s3 e3 ⊢;walk_at"";refine Ef tt _ rfl (.of e3) rfl ?_;walk_at"";intro x J nx cP eO;refine N5 x J z i rfl ⟨Ai,λl nl=>⟨rfl,?_⟩⟩;have fX:H3 l=none:=by
    have z1:∀{G:Hp}{b c:Addr}{o:HO},(upd G b o) c=none->G c=none:=λ{G b c o} e=>by
     by_cases z:c=b
     .rw [z,Ai] at e;cases e
     .rw [Ap z] at e;exact e
    exact z1 (z1 nl)
   have sC:Ag H3 (upd (upd (upd (upd H3 J (.own x)) x (.ins a.Line J [])) l (.lst [])) x (.ins a.Line J (BO z i l "rests" "" 0 .aa .aa))):=λb o e=>by
    rw [Ap (BK e nx),Ap (BK e fX),Ap (BK e nx),Ap (BK e cP)];exact e
   have r:=m.push hz nz s3 nx cP eO nl;have hD:=sC _ _ (s3 _ _ m.t.hd);walk_at"";refine DH _ (.inr z) rfl ⟨hD,?_,_,_,_,rfl,r,p2.trans ((Ah.of s3).trans ((Ah.of sC).trans (.chg hD rfl)))⟩;rw [Tc,Tb,m.len];have:=(TH.mp hz).1;omega
  .intro σ H2 zq;obtain ⟨x0,y0,L,rfl,m,p2⟩:=zq;rw [Tb] at m;have ml:=m.l;rw [Vh] at ml;have qU:H2 h=some (.ins a.ae dx (An "long" (.int B) [])):=m.t.get (by simp);walk_at"";refine Bc h a.ae dx _ rfl qU T.hc.cls T.hc.li (T8 rfl) ?_;have t3:=At.set (P:=(D,_) :: L.flatMap (BS a)) (o':=.ins a.ae dx (An "lines" (.ref D) (An "long" (.int B) []))) m.t;have p3:Ah H (upd H2 h (.ins a.ae dx (An "lines" (.ref D) (An "long" (.int B) [])))):=p2.trans (.chg qU rfl);generalize upd H2 h (.ins a.ae dx (An "lines" (.ref D) (An "long" (.int B) [])))=H3 at t3 p3 ⊢;have abu:H3 pl=some (.ins a.Plan bC (Js B lt n gt)):=t3.get (T3 _ (T1 _ kA));walk_at"";refine AF pl a.Plan bC _ _ rfl abu pc.cls pc.g rfl ?_;refine GG gt rfl ⟨_,.of (p3.t jk)⟩ (λG nG=>?_);refine Ad2 (xs:=ts.map BA) (λi σ H4=>∃ x y I,σ=[x,y]/\JW a H4 G (ts.map (·.2)) i I ((D,.dK (L.map λx=>(.inr x.l.num,.ref x.p))) :: L.flatMap (BS a)++(h,.ins a.ae dx (An "lines" (.ref D) (An "long" (.int B) []))) :: R)/\Ah H H4) ⟨none,none,[],rfl,⟨t3.new nG,rfl,rfl⟩,p3.trans (.new nG)⟩ (λi σ H4 _ ⟨_,_,_,_,_,p⟩=>.of (p.t jk)) ?_ ?_
   .intro i v σ H4 hx zq;obtain ⟨x0,y0,I,rfl,fD,p4⟩:=zq;rw [Tp] at hx;obtain ⟨O,gX,rfl⟩:=UD.mp hx;have g3:=gk O (Tz gX);have m7:=p4.t (lay O (Tz gX));walk_at"";refine ⟨O.1,_,rfl,.of m7,rfl,?_⟩;walk_at"";intro x J nx cP eO;refine ⟨x,O.2.2,a.aI,J,rfl,Ai,T.gc,g3.2.1,g3.2.2,λH5 ra rb rc s5 e5 na nb nc ea eb ec ab ac bc=>⟨rfl,?_⟩⟩;have r:=fD.push (q:=O.2) (by rw [Tp,gX];rfl) (by rw [TL];exact ng) nx cP eO s5 e5 na nb nc ea eb ec ab ac bc;have s4:Ag H4 H5:=λb o e=>s5 b o (λz=>by rw [TX.mp z,nx] at e;cases e) (by rw [Ap (BK e nx),Ap (BK e cP)];exact e);have hG:=s4 _ _ fD.t.hd;walk_at"";refine ⟨_,.inr O.2.1,rfl,hG,?_,_,_,_,rfl,r,p4.trans ((Ah.of s4).trans (.chg hG rfl))⟩;rw [Tc,Tb,fD.len];have:=(TH.mp gX).1;omega
   .intro σ H4 zq;obtain ⟨x0,y0,I,rfl,fD,p4⟩:=zq;rw [Tb] at fD;have gl:=fD.g;rw [show (ts.map (·.2)).take ts.length=ts.map (·.2) by rw [ZX (by rw [Tb];exact Ti _)]] at gl;have t4:=fD.t;have qV:H4 h=some (.ins a.ae dx (An "lines" (.ref D) (An "long" (.int B) []))):=t4.get (by simp);generalize hdl:(HO.dK (L.map λx=>((.inr x.l.num:Au),V.ref x.p)))=dl at t4;walk_at"";refine Bc h a.ae dx _ rfl qV T.hc.cls T.hc.sw (T8 rfl) ?_;have t4':At H4 (((G,.dK (I.map λx=>(.inr x.g.pre,.ref x.p))) :: (I.flatMap (Bv a)++((D,dl) :: L.flatMap (BS a))))++(h,.ins a.ae dx (An "lines" (.ref D) (An "long" (.int B) []))) :: R):=by
     rw [VT,TM];exact t4
    have t5:=At.set (o':=.ins a.ae dx (An "switches" (.ref G) (An "lines" (.ref D) (An "long" (.int B) [])))) t4';have p5:Ah H (upd H4 h (.ins a.ae dx (An "switches" (.ref G) (An "lines" (.ref D) (An "long" (.int B) []))))):=p4.trans (.chg qV rfl);generalize upd H4 h (.ins a.ae dx (An "switches" (.ref G) (An "lines" (.ref D) (An "long" (.int B) []))))=H5 at t5 p5 ⊢;have qW:H5 pl=some (.ins a.Plan bC (Js B lt n gt)):=t5.get (T3 _ (T1 _ kA));walk_at"";refine AF pl a.Plan bC _ _ rfl qW pc.cls pc.s rfl ?_;walk_at"";refine AF pl a.Plan bC _ _ rfl qW pc.cls pc.n rfl ?_;walk_at"";refine Tg (B2 lt _ rfl (.inr (.of (p5.t au))) ?_);walk_at"";rw [Tb];intro x J nx cP eO;have t6:=(t5.same ((Ag.refl H5).upd (o:=.own x) cP)).new (b:=x) (u:=.ins a.aL J []) (by rw [Ap eO.symm];exact nx);refine AF x n zs.length a.aL J rfl Ai T.sc n0 (by omega) (λH7 ra rb rc rs bN x7 k7 na nb nc ns nw=>⟨rfl,?_⟩);have s7:Ag H5 H7:=λb o e=>x7 b o (λz=>by rw [TX.mp z,nx] at e;cases e) (by rw [Ap (BK e nx),Ap (BK e cP)];exact e);obtain ⟨kdx,ke⟩:=k7.ins;obtain ⟨sx,kB⟩:∃ sx:SX,sx=⟨x,kdx,ra,rb,rc,rs,bN,FI n zs.length⟩:=⟨_,rfl⟩;have t7:At H7 (BD a sx++(((G,.dK (I.map λx=>(.inr x.g.pre,.ref x.p))) :: (I.flatMap (Bv a)++((D,dl) :: L.flatMap (BS a))))++(h,.ins a.ae dx (An "switches" (.ref G) (An "lines" (.ref D) (An "long" (.int B) [])))) :: R)):=by
     rw [kB];exact t6.init (N:=[(ra,.lst (Th n.toNat .aa)),(rb,.lst ((Th n.toNat false).map V.bl)),(rc,.lst ((Th n.toNat 0).map V.int)),(rs,.lst ((Th n.toNat 0).map V.int)),(bN,.lst ((Th n.toNat 0).map V.int))]) x7 ke (λc mc=>by
      simp only [Tq,Ue,or_false] at mc;rcases mc with rfl | rfl | rfl | rfl | rfl
      .exact ⟨na,k7.ha⟩
      .exact ⟨nb,k7.hb⟩
      .exact ⟨nc,k7.hc⟩
      .exact ⟨ns,k7.fZ⟩
      .exact ⟨nw,k7.hw⟩) k7.ap
    have hh7:=s7 _ _ (t5.get (T3 _ T9));have qX:=s7 _ _ (t5.get (Ww _ T9));walk_at"";refine AF h a.ae dx _ _ rfl hh7 T.hc.cls T.hc.sw rfl ?_;walk_at"";refine B2 G _ rfl (.inl ⟨_,.inr "",qX,rfl,(by rw [Tb,fD.len,Tc];omega),rfl⟩) ?_;have nos:Bp (I.map λx=>((.inr x.g.pre:Au),V.ref x.p)) (.inr (S9 ""))=none:=EO (f:=λx:RX=>x.g.pre) (v:=λx=>V.ref x.p) λmm=>by
     have e:I.map (·.g.pre)=ts.map (·.2.1):=by have:=congrArg (Vy Gr.pre) gl;rw [TL,TL,TL] at this;exact this
     rw [e] at mm;obtain ⟨O,mt,et⟩:=Tr.mp mm;exact (gk O mt).1 et
    rw [IK _ nos];have t8:=At.set (P:=BD a sx) (o':=.dK ((I.map λx=>((.inr x.g.pre:Au),V.ref x.p))++[(.inr (S9 ""),.ref x)])) t7;have p8:Ah H (upd H7 G (.dK ((I.map λx=>((.inr x.g.pre:Au),V.ref x.p))++[(.inr (S9 ""),.ref x)]))):=p5.trans ((Ah.of s7).trans (.chg qX rfl));generalize upd H7 G (.dK ((I.map λx=>((.inr x.g.pre:Au),V.ref x.p))++[(.inr (S9 ""),.ref x)]))=H8 at t8 p8 ⊢;generalize hkv:HO.dK ((I.map λx=>((.inr x.g.pre:Au),V.ref x.p))++[(.inr (S9 ""),.ref x)])=kC at t8;have t9:At H8 ((h,.ins a.ae dx (An "switches" (.ref G) (An "lines" (.ref D) (An "long" (.int B) [])))) :: (D,dl) :: (G,kC) :: (BD a sx++(I.flatMap (Bv a)++(L.flatMap (BS a)++R)))):=by
     have u1:At H8 ((BD a sx++((G,kC) :: (I.flatMap (Bv a)++((D,dl) :: L.flatMap (BS a)))))++(h,.ins a.ae dx (An "switches" (.ref G) (An "lines" (.ref D) (An "long" (.int B) [])))) :: R):=by rw [TM];exact t8
     have u2:=u1.front;have u3:At H8 (((h,.ins a.ae dx (An "switches" (.ref G) (An "lines" (.ref D) (An "long" (.int B) [])))) :: (BD a sx++((G,kC) :: I.flatMap (Bv a))))++(D,dl) :: (L.flatMap (BS a)++R)):=by rw [TM,VT,TM,VT] at u2;rw [VT,TM,VT];exact u2
     have u4:=u3.front;have u5:At H8 (((D,dl) :: (h,.ins a.ae dx (An "switches" (.ref G) (An "lines" (.ref D) (An "long" (.int B) [])))) :: BD a sx)++(G,kC) :: (I.flatMap (Bv a)++(L.flatMap (BS a)++R))):=by rw [VT,TM,VT] at u4;exact u4
     have u6:=u5.front;exact u6.perm (((Zi _ _ _).trans (List.Perm.cons _ (Zi _ _ _))).trans (Zi _ _ _))
    walk_at"";refine ⟨Av,λY iq=>?_⟩;have ta:=t9.new (u:=.lst (([]:List Str).map V.str)) iq;have pa:Ah H (upd H8 Y (.lst [])):=p8.trans (.new iq);change At (upd H8 Y (.lst [])) _ at ta;generalize upd H8 Y (.lst [])=Ha at ta pa ⊢;walk_at"";refine Bc h a.ae dx _ rfl ta.tl.hd T.hc.cls T.hc.qu (T8 rfl) ?_;have tb:=At.set (P:=[_]) (o':=.ins a.ae dx (An "queue" (.ref Y) (An "switches" (.ref G) (An "lines" (.ref D) (An "long" (.int B) []))))) ta;have pb:=pa.trans (Ah.chg (u:=.ins a.ae dx (An "queue" (.ref Y) (An "switches" (.ref G) (An "lines" (.ref D) (An "long" (.int B) []))))) ta.tl.hd rfl);generalize upd Ha h (.ins a.ae dx (An "queue" (.ref Y) (An "switches" (.ref G) (An "lines" (.ref D) (An "long" (.int B) [])))))=Hb at tb pb ⊢;walk_at"";refine ⟨Av,λda qY=>?_⟩;have tc:=tb.new (u:=.lst []) qY;have qZ:Ah H (upd Hb da (.lst [])):=pb.trans (.new qY);generalize upd Hb da (.lst [])=Hc at tc qZ ⊢;walk_at"";refine Bc h a.ae dx _ rfl tc.tl.tl.hd T.hc.cls T.hc.dn (T8 rfl) ?_;have td:=At.set (P:=[_,_]) (o':=.ins a.ae dx (EN B D G Y da)) tc;have pd:=qZ.trans (Ah.chg (u:=.ins a.ae dx (EN B D G Y da)) tc.tl.tl.hd rfl);change At (upd Hc h (.ins a.ae dx (An "done" (.ref da) (An "queue" (.ref Y) (An "switches" (.ref G) (An "lines" (.ref D) (An "long" (.int B) []))))))) _ at td;change Ah H (upd Hc h (.ins a.ae dx (An "done" (.ref da) (An "queue" (.ref Y) (An "switches" (.ref G) (An "lines" (.ref D) (An "long" (.int B) []))))))) at pd;generalize upd Hc h (.ins a.ae dx (An "done" (.ref da) (An "queue" (.ref Y) (An "switches" (.ref G) (An "lines" (.ref D) (An "long" (.int B) []))))))=Hd at td pd ⊢;have te:=At.swap (P:=[_,_]) (M:=[_,_,_]) (At.perm (C':=(Y,_) :: (da,_) :: _) td (.swap _ _ _));have eS:(⟨h,dx,D,G,Y,da,B,L,I,sx,[],[]⟩:HX).S=cG B zs n (ts.map (·.2)):=by show (⟨B,L.map (·.l),I.map (·.g),sx.k,[],[]⟩:PS)=_;rw [ml,gl,kB];rfl
    refine q Hd ⟨h,dx,D,G,Y,da,B,L,I,sx,[],[]⟩ rfl eS ⟨?_,?_⟩ pd
    .subst kB;rw [<- hkv,<- hdl] at te;exact te
    .have en:L.map (·.l.num)=zs:=by
      have:=congrArg (Vy Ln.num) ml;rw [TL,TL,show Ln.num∘Cc=id from rfl,V2] at this;exact this
     have eg:I.map (·.g.pre)=ts.map (·.2.1):=by have:=congrArg (Vy Gr.pre) gl;rw [TL,TL,TL] at this;exact this
     have one:∀ g∈I,∃ O∈ts,g.g=Cd O.2:=λg jm=>by
      have:g.g∈(ts.map (·.2)).map Cd:=by rw [<- gl];exact Tr.mpr ⟨g,jm,rfl⟩
      obtain ⟨q2,m2,e2⟩:=Tr.mp this;obtain ⟨O,m3,e3⟩:=Tr.mp m2;exact ⟨O,m3,by rw [e3,e2]⟩
     refine ⟨by show (L.map (·.l.num)).Nodup;rw [en];exact nz,by show (I.map (·.g.pre)).Nodup;rw [eg];exact ng,λg jm=>?_,λj y hj=>?_,λg jm=>?_,?_⟩
     .obtain ⟨O,m3,e3⟩:=one g jm;rw [e3];exact (gk O m3).1
     .obtain ⟨y1,y2,y3⟩:=m.x j y hj;have:y.l∈zs.map Cc:=by rw [<- ml];exact Tr.mpr ⟨y,Tz hj,rfl⟩
      obtain ⟨z,_,ez⟩:=Tr.mp this;exact ⟨y1,by rw [y2,<- ez];trivial,by rw [y3,<- ez];exact .aa,by rw [<- ez];rfl,by rw [<- ez];exact T5 _⟩
     .obtain ⟨O,m3,e3⟩:=one g jm;have:=gk O m3;rw [e3];exact ⟨by simp [Cd],by simp [Cd],by simp only [Cd,Uu];omega⟩
     .show F8 sx.k;rw [kB];exact ⟨by simp [FI],by simp [FI],by simp [FI],by simp [FI],by simp only [FI,Uu];omega⟩
section
variable {S:PS}{i j:Nat}{ln lo:Ln}
theorem Es:∀(ts:List (Str×Int))(S:PS),(aH S ts).dn=S.dn
 | [],_=>rfl
 | t :: ts,S=>(Es ts _).trans (by unfold bg;split<;>rfl)
theorem HI {d:PyData}:(BU S i ln d).dn=S.dn:=Es ..
theorem Ahj:(Bd S j lo).2.dn=S.dn:=by unfold Bd;split<;>exact Es ..
theorem LW.nJ (d:LW):(d.go S i ln).2.dn=S.dn/\(d.go S i ln).1.length<=10:=by
 cases d with
 | lift =>
  refine ⟨?_,by show 1<=10;decide⟩;show (B0 S i ln).2.dn=_;unfold B0;split
  .rfl
  .split
   .rfl
   .split<;>rfl
 | bt =>
  show (CQ S i ln).2.dn=_/\(CQ S i ln).1.length<=10;unfold CQ;split
  .exact ⟨rfl,by show 0<=10;decide⟩
  .exact ⟨HI,by show 1<=10;decide⟩
 | gap =>
  refine ⟨?_,by show 1<=10;decide⟩;show (BQ S i ln).2.dn=_;unfold BQ;dsimp only;split
  .unfold Ck;split
   .exact HI
   .split
    .exact HI
    .rfl
  .split
   .rfl
   .unfold B1;split
    .exact HI
    .split
     .rfl
     .exact HI
 | aW =>
  have B:(aA S ln).dn=S.dn:=by unfold aA;split<;>rfl
  have D:(aX (aA S ln) ln).2.dn=S.dn/\(aX (aA S ln) ln).1.length<=1:=by
   unfold aX;split
   .exact ⟨B,T5 _⟩
   .split
    .exact ⟨B,T5 _⟩
    .exact ⟨Ahj.trans B,Ti _⟩
  refine ⟨(Es ..).trans D.1,?_⟩;show (aX (aA S ln) ln).1.length+1<=10;omega
theorem Ahk {b:Bool}{z:Str}{k:Int}(p:Str×Int):AU (CS S b z k) p=AU S p:=by
 unfold CS;by_cases c:z=S9 ""
 .rw [if_pos c];rfl
 .rw [if_neg c];refine (JU (h:=λg=>{ g with js:=g.js.set k.toNat b }) (λ_=>rfl) c p).trans ?_;by_cases e:p.1=z
  .rw [if_pos e];unfold AU BI;rw [e,if_neg c];cases BM S z<;>rfl
  .rw [if_neg e]
theorem J0 {b:Bool}{z:Str}{k:Int}:(CS S b z k).lns=S.lns/\(CS S b z k).q=S.q/\(CS S b z k).long=S.long/\(CS S b z k).dn=S.dn:=by unfold CS;split<;>exact ⟨rfl,rfl,rfl,rfl⟩
theorem WF.b8 (w:WF S)(b:Bool)(z:Str)(k:Int):WF (CS S b z k) :=
 w.chg (w.g.b8 b z k) (λ_=>False) (λ_ _=>by rw [J0.1]) (λ_ _ f=>f.elim) (λ_ _ _ _=>by rw [J0.2.1]) (λ_ _ _ _ p _=>Ahk p) J0.2.2.1 λ_ _ f=>f.elim
theorem WF.res (w:WF S){d:A6}{r:List PyData×PS}(e:d.res S=.inr r):WF r.2/\r.2.dn=S.dn/\r.1.length<=10:=by
 cases d with
 | b8 b z k =>
  unfold A6.res at e;dsimp only at e;split at e
  .cases e
  .split at e
   .cases e;exact ⟨w.b8 b z k,J0.2.2.2,T5 _⟩
   .cases e
 | line d z =>
  unfold A6.res at e;dsimp only at e;split at e
  .cases e
  .split at e
   .rename_i ln h f
    cases e;exact ⟨(w.go h f).1,d.nJ⟩
   .cases e
theorem WF.pre (w:WF S){d:A6}(t:d.txt):d.pre S:=by
 cases d with
 | b8 b z k=>exact t
 | line d z =>
  refine ⟨t,λln h=>⟨?_,λe m=>?_,λf=>(w.go h f).2⟩⟩
  .obtain ⟨v,e,_⟩:=(w.l _ ln h).wy;rw [e];exact v.ok
  .subst e;exact w.qQ h (TX.mp m)
end
theorem WF.cG {B n:Int}{zs:List Str}{D:List (Str×Int)}(L:2<=B)(O:B<=9)(Y:zs.Nodup)(z0:0<zs.length)(z1:zs.length<=60)(n0:1<=n)(n1:n<=60)(ng:(D.map (·.1)).Nodup)(J:∀ p∈D,p.1≠S9 ""/\0<=p.2/\p.2<=10)(zk:∀ z∈zs,Ok z/\0<z.length)(pk:∀ p∈D,Ok p.1)(zl:∀ z∈zs,(z.length:Int)=B)(pl:∀ p∈D,(p.1.length:Int)<=B - 2):WF (cG B zs n D):=by
 have I:((zs.map Cc).map (·.num))=zs:=by rw [TL];exact V2 zs
 have ep:((D.map Cd).map (·.pre))=D.map (·.1):=by rw [TL];rfl
 have H:∀{α:Type}(x:α),(Th n.toNat x).length=n.toNat:=λx=>Uu;have all:∀{p:Gr->Prop},(∀ y∈D,p (Cd y))->∀ g∈D.map Cd,p g:=λh g m=>by
  obtain ⟨y,my,rfl⟩:=Tr.mp m;exact h y my
 refine ⟨⟨by show ((zs.map Cc).map _).Nodup;rw [I];exact Y,by show ((D.map Cd).map _).Nodup;rw [ep];exact ng,all (p:=λg=>g.pre≠S9 "") λy m=>(J y m).1,by show (zs.map Cc).length<=60;rw [Tb];exact z1,by show 0<(zs.map Cc).length;rw [Tb];exact z0,.nil,(λz m=>nomatch m),Wu 0,?_,by show (zs.length:Int)=((zs.map Cc).length:Nat);rw [Tb],λv m=>.inl (uh.mp m).2,all (p:=FH _) λy m v mv=>.inl (uh.mp mv).2,all (p:=Fx) λy m=>⟨?_,?_,?_⟩,⟨?_,?_,?_,?_,?_⟩,(by show ∀ z∈(zs.map Cc).map (·.num),_;rw [I];exact zk),all (p:=λg=>Ok g.pre) λy m=>pk y m,L,O,(by show ∀ z∈(zs.map Cc).map (·.num),_;rw [I];exact zl),all (p:=λg=>(g.pre.length:Int)<=B - 2) λy m=>pl y m⟩,λi ln h=>?_⟩
 .show (0:Int)<((Th n.toNat V.aa).length:Nat);rw [H];omega
 .show (Th _ _).length=(Th _ _).length;rw [Uu,Uu]
 .show (Th _ _).length=(Th _ _).length;rw [Uu,Uu]
 .show (Th _ _).length<=1000;rw [Uu];have:=(J y m).2.2;omega
 .show (Th _ _).length=(Th _ _).length;rw [H,H]
 .show (Th _ _).length=(Th _ _).length;rw [H,H]
 .show (Th _ _).length=(Th _ _).length;rw [H,H]
 .show (Th _ _).length=(Th _ _).length;rw [H,H]
 .show (Th _ _).length<=1000;rw [H];omega
 .have h:(zs.map Cc)[i]?=some ln:=h;rw [Tp] at h;obtain ⟨z,_,rfl⟩:=UD.mp h;exact .none rfl ⟨.rests,rfl,rfl,rfl,(λm=>nomatch m),rfl,rfl,rfl⟩
def AA (S:PS):Prop:=∀(p:Str×Int)(v:V),AU S p=some v->v=.aa\/∃(i:Nat)(ln:Ln),S.lns[i]?=some ln/\p∈ln.held
def Kp (l l':List Ln):Prop:=∀(j:Nat)(lm:Ln),l[j]?=some lm->∃ c8,l'[j]?=some c8/\∀ p∈lm.held,p∈c8.held
theorem Kp.refl {l:List Ln}:Kp l l:=λ_ B h=>⟨B,h,λ_ m=>m⟩
theorem Kp.trans {l B D:List Ln}(a:Kp l B)(b:Kp B D):Kp l D:=λj H h=>by
 obtain ⟨u,hu,k⟩:=a j H h;obtain ⟨v,hv,I⟩:=b j u hu;exact ⟨v,hv,λp m=>I p (k p m)⟩
theorem Kp.set {l:List Ln}{i:Nat}{ln y:Ln}(h:l[i]?=some ln)(k:∀ p∈ln.held,p∈y.held):Kp l (l.set i y):=λj D B=>by
 by_cases c:i=j
 .subst c;rw [h] at B;cases B;exact ⟨y,A0 h,k⟩
 .exact ⟨D,by rw [To c];exact B,λ_ m=>m⟩
theorem Ahl {S:PS}{p:Str×Int}{v:V}(e:AU (bg S p.1 p.2) p=some v):v=.aa:=by
 have B:∀ hs:List V,(if 0<=p.2 then (hs.set p.2.toNat .aa)[p.2.toNat]? else none)=some v->v=.aa:=λhs e=>by
  split at e
  .have l:=(TH.mp e).1;rw [Td] at l;rw [T6 l] at e;exact (Ts e).symm
  .cases e
 unfold AU BI bg at e;by_cases z:p.1=S9 ""
 .rw [if_pos z,if_pos z] at e;exact B _ e
 .rw [if_neg z,if_neg z,JP (h:=λg=>{ g with hs:=g.hs.set p.2.toNat .aa }) λ_=>rfl] at e;cases h:BM S p.1 with
  | none=>rw [h] at e;cases e
  | some g =>
   rw [h,US,US,XW,if_pos rfl] at e;exact B _ e
theorem RN:∀{ts:List (Str×Int)}{S:PS}{p:Str×Int}{v:V},(∀ t∈ts,0<=t.2)->p∈ts->AU (aH S ts) p=some v->v=.aa
 | [],_,_,_,_,m,_=>by cases m
 | t :: ts,S,p,v,g,m,e=>by
  have B:∀ t∈ts,0<=t.2:=λt m=>g t (T1 _ m);by_cases c:p∈ts
  .exact RN B c e
  .have z:p=t:=(Tq.mp m).resolve_right c;subst z;have e:AU (aH (bg S p.1 p.2) ts) p=some v:=e;rw [FG B c] at e;exact Ahl e
section
variable {S S':PS}{i j:Nat}{ln lo lm y:Ln}
theorem AA.keep (c:AA S)(B:∀ p,AU S' p=AU S p)(D:Kp S.lns S'.lns):AA S':=λp v e=>by
 rw [B] at e;refine (c p v e).imp id λ⟨k,lm,hk,mk⟩=>?_;obtain ⟨u,hu,z⟩:=D k lm hk;exact ⟨k,u,hu,z p mk⟩
theorem AA.rel (c:AA S)(h:S.lns[i]?=some ln)(ge:∀ t∈ln.held,0<=t.2)(B:∀ p,AU S' p=AU (aH S ln.held) p)(D:∀ (j:Nat),j≠i->S'.lns[j]?=S.lns[j]?):AA S':=λp v e=>by
 rw [B] at e;by_cases m:p∈ln.held
 .exact .inl (RN ge m e)
 .rw [FG ge m] at e;refine (c p v e).imp id λ⟨k,lm,hk,mk⟩=>?_;have n:k≠i:=λz=>m (by subst z;rw [h] at hk;cases hk;exact mk);exact ⟨k,lm,by rw [D k n];exact hk,mk⟩
theorem AA.take (c:AA S)(B:Str×Int)(D:∀ p,p≠B->AU S' p=AU S p)(H:S'.lns[i]?=some y)(m:B∈y.held)(I:Kp S.lns S'.lns):AA S':=λp v e=>by
 by_cases z:p=B
 .rw [z];exact .inr ⟨i,y,H,m⟩
 .rw [D p z] at e;refine (c p v e).imp id λ⟨k,lm,hk,mk⟩=>?_;obtain ⟨u,hu,w⟩:=I k lm hk;exact ⟨k,u,hu,w p mk⟩
theorem AA.bz (c:AA S)(h:S.lns[i]?=some ln)(e:y.held=ln.held):AA { S with lns:=S.lns.set i y }:=c.keep (λ_=>rfl) (Kp.set h (by rw [e];exact λ_ m=>m))
theorem AA.told (c:AA S)(h:S.lns[i]?=some ln)(ge:∀ t∈ln.held,0<=t.2)(d:PyData):AA (BU S i ln d):=c.rel h ge (λ_=>rfl) λj n=>To (Tu n)
theorem AA.wait (c:AA S)(h:S.lns[i]?=some ln):AA (B3 S i ln):=c.keep (λ_=>rfl) (Kp.set h λ_ m=>m)
theorem AA.lift (w:WF S)(c:AA S)(h:S.lns[i]?=some ln)(lk:Ho S i ln):AA (B0 S i ln).2:=by
 rcases lk with e | ⟨n,j,lc,f,B,ne⟩
 .unfold B0;rw [if_pos e];exact c.wait h
 .rw [JT n f (by rw [Dj w B];exact B),Dj w B];exact c.keep (λ_=>rfl) ((Kp.set (y:={ lc with st:="talks" }) B λ_ m=>m).trans (Kp.set (ln:=ln) (by rw [To ne];exact h) λ_ m=>m))
theorem AA.left (c:AA S)(h:S.lns[j]?=some lo)(ge:∀ t∈lo.held,0<=t.2):AA (Bd S j lo).2:=by
 unfold Bd;split
 .exact c.rel h ge (λ_=>rfl) λk n=>by
   show ((S.lns.set j _).set j _)[k]?=_;rw [To (Tu n),To (Tu n)]
 .exact c.rel h ge (λ_=>rfl) λk n=>To (Tu n)
theorem RO (n:i≠j):(Bd S j lo).2.lns[i]?=S.lns[i]?:=by
 unfold Bd;split
 .show ((S.lns.set j _).set j _)[i]?=_;rw [To (Tu n),To (Tu n)]
 .exact To (Tu n)
theorem AA.aW (w:WF S)(c:AA S)(h:S.lns[i]?=some ln)(hk:Fz S i ln):AA (Cs S i ln).2:=by
 have ge:=(w.l i ln h).ge;have H:AA (aA S ln):=c.keep (λp=>Mo p) (by rw [Ep];exact Kp.refl);have I:(aA S ln).lns[i]?=some ln:=by rw [Ep];exact h
 have B:∀ T:PS,AA T->T.lns[i]?=some ln->AA (br T i ln):=λT ct L=>ct.rel L ge (λ_=>rfl) λk n=>To (Tu n);show AA (br (aX (aA S ln) ln).2 i ln);cases f:ln.ah with
 | none=>unfold aX;rw [f];exact B _ H I
 | some z =>
  obtain ⟨j,lo,D,O,ne,_⟩:=hk.f z f;have V:A1 (aA S ln).lns z=j:=by rw [Ep,<- O];exact Dj w D
  have J:(aA S ln).lns[j]?=some lo:=by rw [Ep];exact D
  unfold aX;rw [f];dsimp only;rw [V,J];exact B _ (H.left J (w.l j lo D).ge) (by rw [RO (Tu ne)];exact I)
theorem AA.into (c:AA S)(h:S.lns[i]?=some ln)(ge:∀ t∈ln.held,0<=t.2){z:Str}(D:z≠S9 ""):AA (Ck S i ln z).2:=by
 unfold Ck;split
 .exact c.told h ge _
 .rename_i g eg
  split
  .exact c.told h ge _
  .rename_i k ef
   obtain ⟨⟨H,I⟩,J⟩:=EK (Wu 0) (Xe _) ef;refine c.take (z,k) (λp n=>?_) (i:=i) (y:={ ln with held:=ln.held++[(z,k)] }) (A0 h) (T3 _ T9) (Kp.set h λp m=>Ww _ m);refine (JU (S:=S) (h:=λg=>bL g k ln.num) (λ_=>rfl) D p).trans ?_;by_cases c:p.1=z
   .rw [if_pos c,eg];unfold AU BI;rw [c,if_neg D,eg];show (if 0<=p.2 then (g.hs.set k.toNat _)[p.2.toNat]? else none)=if 0<=p.2 then g.hs[p.2.toNat]? else none
    by_cases B:0<=p.2
    .rw [if_pos B,if_pos B,To];intro e;exact n (WA c (by show p.2=k;omega))
    .rw [if_neg B,if_neg B]
   .rw [if_neg c]
theorem AA.toLine (c:AA S)(h:S.lns[i]?=some ln)(ge:∀ t∈ln.held,0<=t.2){z:Str}(ns:ln.st≠"rests"):AA (B1 S i ln z).2:=by
 unfold B1;split
 .exact c.told h ge _
 .rename_i lc hc
  split
  .rename_i er
   have ne:i≠A1 S.lns z:=λe=>by rw [<- e,h] at hc;cases hc;exact ns er
   exact c.keep (λ_=>rfl) ((Kp.set (y:={ ln with st:="rings",ah:=some lc.num }) h λ_ m=>m).trans (Kp.set (ln:=lc) (by rw [To ne];exact hc) λ_ m=>m))
  .exact c.told h ge _
theorem AA.gap (w:WF S)(c:AA S)(h:S.lns[i]?=some ln)(f:ln.st=Bg.aF.s)(I:ln.aj≠0):AA (BQ S i ln).2:=by
 have L:=w.l i ln h;obtain ⟨_,_,⟨J,H⟩,_,_⟩:=L.way f;have B:AA { S with lns:=S.lns.set i (As ln) }:=c.bz h rfl;have D:({ S with lns:=S.lns.set i (As ln) }:PS).lns[i]?=some (As ln):=A0 h;unfold BQ;dsimp only;split
 .exact B.into D L.ge (RI ⟨by omega,H⟩ _)
 .split
  .exact B
  .exact B.toLine D L.ge (by show ln.st≠_;rw [f];decide +kernel)
theorem AA.bt (w:WF S)(c:AA S)(h:S.lns[i]?=some ln):AA (CQ S i ln).2:=by
 unfold CQ;split
 .exact c.bz h rfl
 .exact AA.told (c.bz (y:={ ln with aj:=ln.aj+1 }) h rfl) (A0 h) (w.l i ln h).ge _
theorem AA.go (w:WF S)(c:AA S)(h:S.lns[i]?=some ln){d:LW}(f:d.fits ln=true):AA (d.go S i ln).2:=by
 have k:=(w.go h f).2;cases d with
 | lift=>exact AA.lift w c h k
 | bt=>exact AA.bt w c h
 | gap=>exact AA.gap w c h (LW.aF f rfl) (LW.qS f)
 | aW=>exact AA.aW w c h k
theorem AA.gx (w:WF S)(c:AA S){x:PyData×PS}(e:DO S=some x):AA x.2:=by
 obtain ⟨z,r,k,ln,I,H,D,J,L,rfl⟩:=JA w.cE e;generalize A1 S.lns z=i at D ⊢;obtain ⟨⟨O,V⟩,Y⟩:=EK w.g.m0 (XT w.g.m1) H;refine c.take ((S9 ""),k) (λp n=>?_) (i:=i) (y:={ AI ln "dials" with held:=ln.held++[((S9 ""),k)] }) (A0 D) (T3 _ T9) (Kp.set D λp m=>Ww _ m);unfold AU BI BM;by_cases c:p.1=S9 ""
 .rw [if_pos c,if_pos c];show (if 0<=p.2 then (S.sk.hs.set k.toNat _)[p.2.toNat]? else none)=if 0<=p.2 then S.sk.hs[p.2.toNat]? else none
  by_cases B:0<=p.2
  .rw [if_pos B,if_pos B,To];intro e;exact n (WA c (by show p.2=k;omega))
  .rw [if_neg B,if_neg B]
 .rw [if_neg c,if_neg c]
theorem AA.dn (c:AA S){d:List V}:AA { S with dn:=d }:=c.keep (λ_=>rfl) Kp.refl
end
theorem AA.aQ:∀(n:Nat){S:PS},WF S->AA S->AA (aQ n S).2
 | 0,_,_,c=>c
 | n+1,S,w,c=>by
  unfold Lw.aQ;split
  .exact c
  .rename_i x e
   exact AA.aQ n (w.gx e) (AA.gx w c e)
theorem AA.nI {S:PS}(w:WF S)(c:AA S):AA (Bq S).2:=AA.aQ _ w c
def CT (g:Gr):Str×List Bool×Nat:=(g.pre,g.js,g.hs.length)
structure Ar (S S':PS):Prop where
 long:S'.long=S.long
 num:S'.lns.map (·.num)=S.lns.map (·.num)
 gr:S'.aq.map CT=S.aq.map CT
 js:S'.sk.js=S.sk.js
 hl:S'.sk.hs.length=S.sk.hs.length
theorem RP {l:List Gr}{w:Str}{h:Gr->Gr}(e:∀ g,CT (h g)=CT g):(l.map λg=>if g.pre=w then h g else g).map CT=l.map CT:=by
 rw [TL];refine VQ λg _=>?_;show CT (if g.pre=w then h g else g)=CT g;split
 .exact e g
 .rfl
section
variable {S T U:PS}{i j:Nat}{ln lo y:Ln}
theorem Ar.refl:Ar S S:=⟨rfl,rfl,rfl,rfl,rfl⟩
theorem Ar.trans (a:Ar S T)(b:Ar T U):Ar S U:=⟨b.long.trans a.long,b.num.trans a.num,b.gr.trans a.gr,b.js.trans a.js,b.hl.trans a.hl⟩
theorem Ar.bg (S:PS)(w:Str)(k:Int):Ar S (bg S w k):=by
 unfold Lw.bg;split
 .exact ⟨rfl,rfl,rfl,rfl,Td⟩
 .exact ⟨rfl,rfl,RP λg=>by unfold CT;rw [Td],rfl,rfl⟩
theorem Ar.aH:∀(ts:List (Str×Int))(S:PS),Ar S (aH S ts)
 | [],_=>.refl
 | t :: ts,S=>(Ar.bg S t.1 t.2).trans (Ar.aH ts _)
theorem Ar.lns (s:Ar S T){l:List Ln}(e:l.map (·.num)=S.lns.map (·.num)):Ar S { T with lns:=l }:=⟨s.long,e,s.gr,s.js,s.hl⟩
theorem Ar.bz (h:S.lns[i]?=some ln)(e:y.num=ln.num):Ar S { S with lns:=S.lns.set i y }:=Ar.refl.lns (BJ h e)
theorem Ar.told (h:S.lns[i]?=some ln)(d:PyData):Ar S (BU S i ln d):=(Ar.aH ln.held S).lns (BJ (y:={ ln with held:=[],st:="told",why:=d }) h rfl)
theorem Ar.wait (h:S.lns[i]?=some ln):Ar S (B3 S i ln):=⟨rfl,BJ (y:=AI ln "waits") h rfl,rfl,rfl,rfl⟩
theorem Ar.left (h:S.lns[j]?=some lo):Ar S (Bd S j lo).2:=by
 have f:=Ar.aH lo.held S;unfold Bd;split
 .refine ⟨f.long,?_,f.gr,f.js,f.hl⟩;show ((S.lns.set j { lo with held:=[] }).set j (AI { lo with held:=[] } "waits")).map (·.num)=_;rw [UI];exact BJ h rfl
 .exact f.lns (BJ (y:=AI { lo with held:=[] } "rests") h rfl)
theorem Ar.aW (w:WF S)(h:S.lns[i]?=some ln)(hk:Fz S i ln):Ar S (Cs S i ln).2:=by
 have D:Ar S (aA S ln):=by unfold aA;split<;>exact ⟨rfl,rfl,rfl,rfl,rfl⟩
 have H:(aA S ln).lns[i]?=some ln:=by rw [Ep];exact h
 have B:∀ T:PS,Ar S T->T.lns[i]?=some ln->Ar S (br T i ln):=λT st L=>st.trans ((Ar.aH ln.held T).lns (BJ (y:=AI { ln with held:=[] } "rests") L rfl));show Ar S (br (aX (aA S ln) ln).2 i ln);cases f:ln.ah with
 | none=>unfold aX;rw [f];exact B _ D H
 | some z =>
  obtain ⟨j,lo,I,O,ne,_⟩:=hk.f z f;have V:A1 (aA S ln).lns z=j:=by rw [Ep,<- O];exact Dj w I
  have J:(aA S ln).lns[j]?=some lo:=by rw [Ep];exact I
  unfold aX;rw [f];dsimp only;rw [V,J];exact B _ (D.trans (Ar.left J)) (by rw [RO (Tu ne)];exact H)
theorem Ar.into (h:S.lns[i]?=some ln){z:Str}:Ar S (Ck S i ln z).2:=by
 unfold Ck;split
 .exact Ar.told h _
 .split
  .exact Ar.told h _
  .rename_i k _
   exact ⟨rfl,BJ (y:={ ln with held:=ln.held++[(z,k)] }) h rfl,RP λg=>by unfold CT bL;rw [Td],rfl,rfl⟩
theorem Ar.toLine (h:S.lns[i]?=some ln){z:Str}(ns:ln.st≠"rests"):Ar S (B1 S i ln z).2:=by
 unfold B1;split
 .exact Ar.told h _
 .rename_i lc hc
  split
  .rename_i er
   have ne:i≠A1 S.lns z:=λe=>by rw [<- e,h] at hc;cases hc;exact ns er
   refine Ar.refl.lns ?_;have B:(S.lns.set i { ln with st:="rings",ah:=some lc.num })[A1 S.lns z]?=some lc:=by rw [To ne];exact hc
   exact (Dy (f:=λx:Ln=>x.num) (y:={ lc with st:="rung",ah:=some ln.num }) B rfl).trans (BJ (y:={ ln with st:="rings",ah:=some lc.num }) h rfl)
  .exact Ar.told h _
theorem Ar.gap (h:S.lns[i]?=some ln)(f:ln.st≠"rests"):Ar S (BQ S i ln).2:=by
 have B:Ar S { S with lns:=S.lns.set i (As ln) }:=Ar.bz h rfl;have D:({ S with lns:=S.lns.set i (As ln) }:PS).lns[i]?=some (As ln):=A0 h;unfold BQ;dsimp only;split
 .exact B.trans (Ar.into D)
 .split
  .exact B
  .exact B.trans (Ar.toLine D f)
theorem Ar.bt (h:S.lns[i]?=some ln):Ar S (CQ S i ln).2:=by
 unfold CQ;split
 .exact Ar.bz h rfl
 .exact (Ar.bz (y:={ ln with aj:=ln.aj+1 }) h rfl).trans (Ar.told (S:={ S with lns:=S.lns.set i { ln with aj:=ln.aj+1 } }) (A0 h) _)
theorem Ar.lift (w:WF S)(h:S.lns[i]?=some ln)(lk:Ho S i ln):Ar S (B0 S i ln).2:=by
 rcases lk with e | ⟨n,j,lc,f,B,ne⟩
 .unfold B0;rw [if_pos e];exact Ar.wait h
 .rw [JT n f (by rw [Dj w B];exact B),Dj w B];refine Ar.refl.lns ?_;have D:(S.lns.set j { lc with st:="talks" })[i]?=some ln:=by rw [To ne];exact h
  exact (Dy (f:=λx:Ln=>x.num) (y:={ ln with st:="talks" }) D rfl).trans (BJ (y:={ lc with st:="talks" }) B rfl)
theorem Ar.go (w:WF S)(h:S.lns[i]?=some ln){d:LW}(f:d.fits ln=true):Ar S (d.go S i ln).2:=by
 have k:=(w.go h f).2;cases d with
 | lift=>exact Ar.lift w h k
 | bt=>exact Ar.bt h
 | gap=>exact Ar.gap h (by rw [LW.aF f rfl];decide +kernel)
 | aW=>exact Ar.aW w h k
theorem Ar.gx (w:WF S){x:PyData×PS}(e:DO S=some x):Ar S x.2:=by obtain ⟨z,r,k,ln,D,H,B,I,J,rfl⟩:=JA w.cE e;exact ⟨rfl,BJ (y:={ AI ln "dials" with held:=ln.held++[((S9 ""),k)] }) B rfl,rfl,rfl,Td⟩
end
theorem Ar.aQ:∀(n:Nat){S:PS},WF S->Ar S (aQ n S).2
 | 0,_,_=>.refl
 | n+1,S,w=>by
  unfold Lw.aQ;split
  .exact .refl
  .rename_i x e
   exact (Ar.gx w e).trans (Ar.aQ n (w.gx e))
theorem J1:∀{n:Nat}{l:List Nat},l.Nodup->(∀ x∈l,x<n)->l.length<=n
 | 0,[],_,_=>Ti _
 | 0,x :: _,_,h=>absurd (h x T9) (XM _)
 | n+1,l,nd,h=>by
  by_cases m:n∈l
  .have i:=J1 (n:=n) (l:=l.erase n) (nd.erase n) λx B=>by
    have a:=(List.Nodup.mem_erase_iff nd).mp B;have b:=h x a.2;have c:=a.1;omega
   rw [Y9 m] at i;omega
  .have i:=J1 (n:=n) (l:=l) nd λx B=>by
    have b:=h x B;have c:x≠n:=λe=>m (e▸B);omega
   omega
theorem Ms {n:Nat}{f:Nat->Nat}(h:∀ a b,a<n->b<n->a<b->f a≠f b):((Ur n).map f).Nodup :=
 XH.mpr (ui (λ{a b} B D lt=>h a b (Us.mp B) (Us.mp D) lt) uj)
theorem RQ {hs:List V}{js:List Bool}{start:Int}(D:0<=start)(e:BZ hs js start=none)(B:∀ b∈js,b=false){k:Nat}{v:V}(hk:hs[k]?=some v):v≠.aa:=λz=>by
 have H:=(TH.mp hk).1;unfold BZ at e;rw [Zg] at e;refine e (k:Int) ?_ ?_
 .rw [Ut];unfold BR;by_cases c:(k:Int)<start
  .exact .inr (Tr.mpr ⟨k,Us.mpr (by omega),by omega⟩)
  .exact .inl (Tr.mpr ⟨((k:Int) - start).toNat,Us.mpr (by omega),by omega⟩)
 .unfold CO;rw [Vq,Uc,hk,z];have:js.getD k false=false:=by
   rw [Uc];cases q:js[k]? with
   | none=>rfl
   | some b=>exact B b (Tz q)
  rw [this];rfl
def EV (S:PS):Prop:=∀(i:Nat)(ln:Ln),S.lns[i]?=some ln->∀ k k':Int,(S9 "",k)∈ln.held->(S9 "",k')∈ln.held->k=k'
theorem Ahm {S:PS}(w:WF S)(c:AA S)(one:EV S)(hn:S.sk.hs.length=S.lns.length)(js:∀ b∈S.sk.js,b=false){i:Nat}{ln:Ln}(h:S.lns[i]?=some ln)(e:ln.held=[]):∃ k,BZ S.sk.hs S.sk.js S.sk.mark=some k:=by
 cases f:BZ S.sk.hs S.sk.js S.sk.mark with
 | some k=>exact ⟨k,rfl⟩
 | none =>
  exfalso
  have H:∀ k,k<S.sk.hs.length->∃(j:Nat)(B:Ln),S.lns[j]?=some B/\(S9 "",(k:Int))∈B.held:=λk hk=>by
   have I:S.sk.hs[k]?=some S.sk.hs[k]:=TC hk;have n:=RQ w.g.m0 f js I;have o:AU S (S9 "",(k:Int))=some S.sk.hs[k]:=by show (if (0:Int)<=k then S.sk.hs[(k:Int).toNat]? else none)=_;rw [if_pos (Xe k),Vq];exact I
   exact (c _ _ o).resolve_left n
  obtain ⟨g,J⟩:∃ g:Nat->Nat,∀ k,k<S.sk.hs.length->∃ B:Ln,S.lns[g k]?=some B/\(S9 "",(k:Int))∈B.held:=by refine ⟨λk=>if hk:k<S.sk.hs.length then uk (H k hk) else 0,λk hk=>?_⟩;dsimp only;rw [dif_pos hk];exact um (H k hk)
  have nd:(i :: (Ur S.sk.hs.length).map g).Nodup:=by
   refine TV.mpr ⟨λm=>?_,Ms λa b V hb lt eq=>?_⟩
   .obtain ⟨k,mk,I⟩:=Tr.mp m;obtain ⟨B,D,L⟩:=J k (Us.mp mk);rw [I,h] at D;cases D;rw [e] at L;cases L
   .obtain ⟨B,D,L⟩:=J a V;obtain ⟨c8,O,Y⟩:=J b hb;rw [<- eq,D] at O;cases O;have:=one _ _ D _ _ L Y;omega
  have l:=J1 (n:=S.lns.length) nd λx m=>by
   rcases Tq.mp m with rfl | m
   .exact (TH.mp h).1
   .obtain ⟨k,mk,rfl⟩:=Tr.mp m;obtain ⟨B,D,_⟩:=J k (Us.mp mk);exact (TH.mp D).1
  rw [UG,Tb,Vd] at l;omega
inductive Wj where
 | rests | aF | told | calls | bh | aR | cQ
def Wj.s:Wj->Str
 | .rests=>"rests" | .aF=>"dials" | .told=>"told" | .calls=>"calls" | .bh=>"rung" | .aR=>"talks" | .cQ=>"talked"
end
local macro_rules | `(tactic| walk_at"")=>`(tactic| repeat (first
 | with_reducible refine Ab3 λ_ _=>?_
 | with_reducible refine Lk.asg (by assumption) ?_
 | refine Lk.use (by assumption) ?_
 | refine w1 rfl ?_
 | refine w2 rfl rfl ?_
 | refine w3 rfl ?_
 | refine Tw (w2 rfl rfl ?_)
 | refine Tw ⟨rfl,?_⟩
 | refine ⟨rfl,?_⟩
 | refine Tw ⟨_,_,_,_,rfl,rfl,.of (by assumption),rfl,?_⟩
 | (refine Zb (show GA _ _ from ?_) ?_;(first | exact Tg ⟨by omega,by omega⟩ | exact Tw ⟨by omega,by omega⟩))
 | (refine Zb (show Nl _ _ from ?_) ?_;exact ⟨by omega,by omega⟩)
 | (refine Zb (show (0:Int)<_ from ?_) ?_;first | decide | omega)))
def Wj.w:Wj->Bg
 | .rests=>.rests | .aF=>.aF | .told=>.told | .calls=>.rings | .bh=>.bh | .aR=>.aR | .cQ=>.aR
def Wj.hold:Wj->Bool
 | .aF=>true | .calls=>true | .aR=>true | _=>false
theorem Wj.jo {w:Wj}(h:w.hold=true):w=.aF\/(w=.calls\/w=.aR):=by cases w<;>first | exact .inl rfl | exact .inr (.inl rfl) | exact .inr (.inr rfl) | cases h
abbrev Ws:=List (Wj×Option Str)
structure Lk (ln:Ln)(w:Wj×Option Str):Prop where
 st:ln.st=w.1.w.s
 ah:ln.ah=w.2
 no:w.1.hold=false->ln.held=[]
 di:w.1=.aF->(∃ k,ln.held=[(S9 "",k)])/\ln.ai=""/\ln.aj=0
 ca:w.1=.calls\/w.1=.aR->∃ k h m,ln.held=[(S9 "",k),(h,m)]/\h≠S9 ""
structure J (S:PS)(ws:Ws):Prop where
 wf:WF S
 cv:AA S
 q:S.q=[]
 len:ws.length=S.lns.length
 l:∀(i:Nat)(ln:Ln),S.lns[i]?=some ln->∃ w,ws[i]?=some w/\Lk ln w
 pr:∀(i:Nat)(ln:Ln),S.lns[i]?=some ln->ln.held≠[]->∀ z,ln.ah=some z->∃(j:Nat)(lo:Ln),S.lns[j]?=some lo/\lo.num=z/\lo.ah=some ln.num/\lo.held=[]
def BE (z:Str)(f:Nat):Str:=⟨(z.cps.toList.take f).toArray⟩
structure CB (S:PS):Prop where
 long:S.long=3
 aC:S.lns.length<=12
 js:∀ b∈S.sk.js,b=false
 n:S.sk.hs.length=S.lns.length
 gj:∀ g∈S.aq,(∀ b∈g.js,b=false)/\g.hs.length=10
 gp:∀ z∈S.lns.map (·.num),∃ g∈S.aq,g.pre=BE z 1
 dg:∀ z∈S.lns.map (·.num),C8 z
section
variable {S S':PS}{ws bF:Ws}{i j:Nat}{ln lo:Ln}
theorem RR (e:S'.aq.map CT=S.aq.map CT){g:Gr}(m:g∈S.aq):∃ g'∈S'.aq,CT g'=CT g:=by
 have:CT g∈S'.aq.map CT:=by rw [e];exact Tr.mpr ⟨g,m,rfl⟩
 obtain ⟨g',m',B⟩:=Tr.mp this;exact ⟨g',m',B⟩
theorem CB.eP (s:CB S)(h:Ar S S'):CB S':=by
 have H:=EU h.num;refine ⟨h.long.trans s.long,by rw [H];exact s.aC,by rw [h.js];exact s.js,by rw [h.hl,H];exact s.n,λg m=>?_,λz m=>?_,by rw [h.num];exact s.dg⟩
 .obtain ⟨B,m',e⟩:=RR h.gr.symm m;have a:=s.gj B m';have D:B.js=g.js:=congrArg (·.2.1) e;have I:B.hs.length=g.hs.length:=congrArg (·.2.2) e;rw [<- D,<- I];exact a
 .rw [h.num] at m;obtain ⟨g,mg,e⟩:=s.gp z m;obtain ⟨B,m',J⟩:=RR h.gr mg;have D:B.pre=g.pre:=congrArg (·.1) J;exact ⟨B,m',D.trans e⟩
theorem J.at (j:J S ws){i:Nat}{w:Wj×Option Str}(h:ws[i]?=some w):∃ ln,S.lns[i]?=some ln/\Lk ln w:=by have B:=(TH.mp h).1;rw [j.len] at B;obtain ⟨u,hu,k⟩:=j.l i S.lns[i] (TC B);rw [h] at hu;cases hu;exact ⟨_,TC B,k⟩
theorem Lk.one {w:Wj×Option Str}(l:Lk ln w){k k':Int}(m:(S9 "",k)∈ln.held)(m':(S9 "",k')∈ln.held):k=k':=by
 cases hw:w.1.hold with
 | false=>rw [l.no hw] at m;cases m
 | true =>
  have d:=Wj.jo hw;rcases d with d | d
  .obtain ⟨⟨a,e⟩,_⟩:=l.di d;rw [e] at m m';have x:=congrArg XX (TX.mp m);have y:=congrArg XX (TX.mp m');exact x.trans y.symm
  .obtain ⟨a,h,b,e,n⟩:=l.ca d;rw [e] at m m';have B:∀{c:Int},(S9 "",c)∈[(S9 "",a),(h,b)]->c=a:=λ{c} mc=>by
    rcases Tq.mp mc with z | z
    .exact congrArg XX z
    .exact absurd (congrArg Xf (TX.mp z)).symm n
   exact (B m).trans (B m').symm
theorem J.one (j:J S ws):EV S:=λi ln h k B m m'=>by
 obtain ⟨w,_,l⟩:=j.l i ln h;exact l.one m m'
theorem J.chg (j:J S ws)(L:WF S')(O:AA S')(V:S'.q=[])(I:Nat->Prop)(B:∀ k,¬ I k->S'.lns[k]?=S.lns[k]?)(hw:∀ k,¬ I k->bF[k]?=ws[k]?)(len:bF.length=S'.lns.length)(Y:∀ (k:Nat) (ln:Ln),I k->S.lns[k]?=some ln->∀ z,ln.ah=some z->∃ (m:Nat) (lo:Ln),I m/\S.lns[m]?=some lo/\lo.num=z)(hn:∀ (k:Nat) (y:Ln),I k->S'.lns[k]?=some y->∃ w,bF[k]?=some w/\Lk y w)(hp:∀ (k:Nat) (y:Ln),I k->S'.lns[k]?=some y->y.held≠[]->∀ z,y.ah=some z->∃ (m:Nat) (lo:Ln),S'.lns[m]?=some lo/\lo.num=z/\lo.ah=some y.num/\lo.held=[]):J S' bF:=by
 refine ⟨L,O,V,len,λk y hk=>?_,λk y hk ne z f=>?_⟩
 .by_cases c:I k
  .exact hn k y c hk
  .rw [B k c] at hk;rw [hw k c];exact j.l k y hk
 .by_cases c:I k
  .exact hp k y c hk ne z f
  .rw [B k c] at hk;obtain ⟨m,lo,D,e1,H,e3⟩:=j.pr k y hk ne z f;refine ⟨m,lo,?_,e1,H,e3⟩;rw [B m λcm=>?_]
   .exact D
   .obtain ⟨m',cf,c2,h2,e4⟩:=Y m lo cm D y.num H;exact c (by rw [<- (j.wf.g.one h2 hk e4).1];exact c2)
theorem RS (g:WG S){x:Gr}(m:x∈S.aq):BM S x.pre=some x:=by obtain ⟨i,B,e⟩:=U1 m;exact JI g.pre (i:=i) (by rw [TC B,e])
theorem J.abv (j:J S ws)(s:CB S){g:Gr}(mg:g∈S.aq):∃ k,BZ g.hs g.js 0=some k:=by
 obtain ⟨jf,gl⟩:=s.gj g mg;cases f:BZ g.hs g.js 0 with
 | some k=>exact ⟨k,rfl⟩
 | none =>
  exfalso
  have H:∀ k:Nat,k<10->∃(p:Nat×Nat),∃(B lo:Ln),S.lns[p.1]?=some B/\(g.pre,(k:Int))∈B.held/\S.lns[p.2]?=some lo/\lo.ah=some B.num/\lo.held=[]:=λk hk=>by
   have ek:g.hs[k]?=some (g.hs[k]'(by omega)):=TC (by omega);have n:=RQ (Wu 0) f jf ek;have o:AU S (g.pre,(k:Int))=some (g.hs[k]'(by omega)):=by unfold AU BI;rw [if_neg (j.wf.g.ne g mg),RS j.wf.g mg];show (if (0:Int)<=k then g.hs[(k:Int).toNat]? else none)=_;rw [if_pos (Xe k),Vq];exact ek
   obtain ⟨i,B,D,I⟩:=(j.cv _ _ o).resolve_left n;obtain ⟨w,_,l⟩:=j.l i B D;have hn:B.held≠[]:=λe=>by rw [e] at I;cases I
   have hw:w.1=.calls\/w.1=.aR:=by
    cases hh:w.1.hold with
    | false=>exact absurd (l.no hh) hn
    | true =>
     have d:=Wj.jo hh;rcases d with d | d
     .obtain ⟨⟨a,e⟩,_⟩:=l.di d;rw [e] at I;exact absurd (congrArg Xf (TX.mp I)) (j.wf.g.ne g mg)
     .exact d
   have fz:∃ z,B.ah=some z:=by
    have W:=j.wf.l i B D;rcases hw with e | e
    .obtain ⟨_,_,lo,_,_,f1,_⟩:=W.way (w:=.rings) (l.st.trans (by rw [e];rfl));exact ⟨_,f1⟩
    .obtain ⟨_,_,lo,_,_,f1,_⟩:=W.way (w:=.aR) (l.st.trans (by rw [e];rfl));exact ⟨_,f1⟩
   obtain ⟨z,ez⟩:=fz;obtain ⟨m,lo,L,_,h5,h6⟩:=j.pr i B D hn z ez;exact ⟨(i,m),B,lo,D,I,L,h5,h6⟩
  obtain ⟨p,O⟩:∃ p:Nat->Nat×Nat,∀ k:Nat,k<10->∃(B lo:Ln),S.lns[(p k).1]?=some B/\(g.pre,(k:Int))∈B.held/\S.lns[(p k).2]?=some lo/\lo.ah=some B.num/\lo.held=[]:=by refine ⟨λk=>if hk:k<10 then uk (H k hk) else (0,0),λk hk=>?_⟩;dsimp only;rw [dif_pos hk];exact um (H k hk)
  have two:∀{w:Wj×Option Str}{B:Ln}{a b:Int},Lk B w->(g.pre,a)∈B.held->(g.pre,b)∈B.held->a=b:=λ{w B a b} l V mb=>by
   cases hh:w.1.hold with
   | false=>rw [l.no hh] at V;cases V
   | true =>
    have d:=Wj.jo hh;rcases d with d | d
    .obtain ⟨⟨c,e⟩,_⟩:=l.di d;rw [e] at V;exact absurd (congrArg Xf (TX.mp V)) (j.wf.g.ne g mg)
    .obtain ⟨c,h,m,e,_⟩:=l.ca d;rw [e] at V mb;have H:∀{x:Int},(g.pre,x)∈[(S9 "",c),(h,m)]->x=m:=λ{x} mx=>by
      rcases Tq.mp mx with z | z
      .exact absurd (congrArg Xf z) (j.wf.g.ne g mg)
      .exact congrArg XX (TX.mp z)
     exact (H V).trans (H mb).symm
  have rg:∀ a b,a<10->b<10->a<b->(p a).1≠(p b).1:=λa b ha hb lt e=>by
   obtain ⟨B,lo,D,I,_⟩:=O a ha;obtain ⟨c8,cf,L,Y,_⟩:=O b hb;rw [<- e,D] at L;cases L;obtain ⟨w,_,l⟩:=j.l _ B D;have:=two l I Y;omega
  have abw:∀ a b,a<10->b<10->a<b->(p a).2≠(p b).2:=λa b ha hb lt e=>by
   obtain ⟨B,lo,D,I,L,Y,_⟩:=O a ha;obtain ⟨c8,cf,h1',h2',rh,rj,_⟩:=O b hb;rw [<- e,L] at rh;cases rh;rw [Y] at rj;exact rg a b ha hb lt (j.wf.g.one D h1' (Ts rj)).1
  have nd:((Ur 10).map (λk=>(p k).1)++(Ur 10).map (λk=>(p k).2)).Nodup:=by refine VX.mpr ⟨Ms rg,Ms abw,λx mx y my e=>?_⟩;obtain ⟨a,V,rfl⟩:=Tr.mp mx;obtain ⟨b,mb,rfl⟩:=Tr.mp my;obtain ⟨B,lo,D,I,_⟩:=O a (Us.mp V);obtain ⟨c8,cf,_,_,L,_,Y⟩:=O b (Us.mp mb);have e:(p a).1=(p b).2:=e;rw [<- e,D] at L;cases L;rw [Y] at I;cases I
  have l:=J1 (n:=S.lns.length) nd λx m=>by
   rcases Ut.mp m with m | m
   .obtain ⟨k,mk,rfl⟩:=Tr.mp m;obtain ⟨B,lo,D,_⟩:=O k (Us.mp mk);exact (TH.mp D).1
   .obtain ⟨k,mk,rfl⟩:=Tr.mp m;obtain ⟨B,lo,_,_,D,_⟩:=O k (Us.mp mk);exact (TH.mp D).1
  have:=s.aC;rw [Ul,Tb,Tb,Vd] at l;omega
end
section
variable {S S' T:PS}{ws bF:Ws}{i j:Nat}{ln lo y:Ln}
theorem Ar.av {dd:Addr}:Ar S (av S dd):=⟨rfl,rfl,rfl,rfl,rfl⟩
theorem EW (h:S.q=[]):Bq S=([],S):=by unfold Bq;rw [h];rfl
theorem EX (w:WF S)(h:S.lns[i]?=some ln){d:LW}(f:d.fits ln=true):(A6.line d ln.num).res S=.inr (d.go S i ln):=by unfold A6.res;dsimp only;rw [Dj w h,h];dsimp only;rw [if_pos f]
theorem RT (w:WF T)(c:AA T)(one:EV T)(s:CB T)(h:T.lns[i]?=some y)(hq:T.q=[y.num])(e:y.held=[]) :
  ∃ k d B,Bq T=([.tuple [.str "tone",.str y.num,.int k,.int d]],B)/\WF B/\AA B/\Ar T B/\B.q=[]/\B.dn=T.dn/\B.lns=T.lns.set i { AI y "dials" with held:=[(S9 "",k)] }:=by
 obtain ⟨k,hk⟩:=Ahm w c one s.n s.js h e;have t:=QR hq hk (show T.lns[A1 T.lns y.num]?=some y by rw [Dj w h];exact h);have J:Bq T=aQ 1 T:=by unfold Bq;rw [hq];rfl
 have D:=w.nI;have H:=AA.nI w c;have I:Ar T (Bq T).2:=Ar.aQ T.q.length w;rw [J] at D H I ⊢;unfold aQ at D H I ⊢;rw [t] at D H I ⊢;refine ⟨k,_,_,rfl,D,H,I,rfl,rfl,?_⟩;show T.lns.set (A1 T.lns y.num) { AI y "dials" with held:=y.held++[(S9 "",k)] }=_;rw [Dj w h,e];rfl
theorem RV (o:EV S)(h:∀ (k:Nat) (B:Ln),T.lns[k]?=some B->B.held=[]\/∃ D,S.lns[k]?=some D/\B.held=D.held):EV T:=λk B hk a b H I=>by
 rcases h k B hk with e | ⟨D,J,e⟩
 .rw [e] at H;cases H
 .rw [e] at H I;exact o k D J a b H I
theorem Ahn (o:EV S)(e:T.lns=S.lns.set i y)(h:S.lns[i]?=some ln)(eh:y.held=ln.held\/y.held=[]):EV T:=RV o λk B hk=>by
 rw [e] at hk;by_cases c:i=k
 .subst c;rw [A0 h] at hk;cases hk;rcases eh with eh | eh
  .exact .inr ⟨ln,h,eh⟩
  .exact .inl eh
 .rw [To c] at hk;exact .inr ⟨B,hk,rfl⟩
theorem RW {k:Int}(B:ln.held=[(S9 "",k)])(es:ln.st="dials")(D:ln.ah=none)(H:ln.ai="")(ep:ln.aj=0):Lk ln (.aF,none) :=
 ⟨es,D,λz=>(nomatch z),λ_=>⟨⟨k,B⟩,H,ep⟩,λz=>by rcases z with z | z<;>cases z⟩
theorem EY {w:Wj}{o:Option Str}(B:ln.held=[])(es:ln.st=w.w.s)(D:ln.ah=o)(n:w.hold=false):Lk ln (w,o):=by
 refine ⟨es,D,λ_=>B,λz=>?_,λz=>?_⟩
 .have z:w=.aF:=z;rw [z] at n;cases n
 .have z:w=.calls\/w=.aR:=z;rcases z with z | z<;>rw [z] at n<;>cases n
theorem RY {w:Wj}{o:Option Str}{k m:Int}{x:Str}(B:ln.held=[(S9 "",k),(x,m)])(nx:x≠S9 "")(es:ln.st=w.w.s)(D:ln.ah=o)(n:w=.calls\/w=.aR):Lk ln (w,o):=by
 refine ⟨es,D,λz=>?_,λz=>?_,λ_=>⟨k,x,m,B,nx⟩⟩
 .rcases n with e | e<;>subst e<;>cases z
 .have z:w=.aF:=z;rcases n with e | e<;>rw [e] at z<;>cases z
theorem J.lift (j:J S ws)(s:CB S){o:Option Str}(h:S.lns[i]?=some ln)(hw:ws[i]?=some (.rests,o))(dd:Addr) :
  (A6.line .lift ln.num).res S=.inr ([.tuple [.str "waits",.str ln.num]],B3 S i ln)/\∃ k d S',Bq (av (B3 S i ln) dd)=([.tuple [.str "tone",.str ln.num,.int k,.int d]],S')/\J S' (ws.set i (.aF,none))/\Ar S S'/\S'.dn=S.dn++[.ref dd]:=by
 obtain ⟨w0,I,l⟩:=j.l i ln h;rw [hw] at I;cases I;have es:ln.st="rests":=l.st;have eh:ln.held=[]:=l.no rfl;have W:=(j.wf.l i ln h).way (w:=.rests) es;have f:LW.lift.fits ln=true:=by unfold LW.fits;rw [es];rfl
 have go:LW.lift.go S i ln=([.tuple [.str "waits",.str ln.num]],B3 S i ln):=by show ([(B0 S i ln).1],(B0 S i ln).2)=_;unfold B0;rw [if_pos es]
 have e:=EX j.wf h f;rw [go] at e;refine ⟨e,?_⟩;have L:WF (av (B3 S i ln) dd):=(j.wf.res e).1.dn;have O:AA (av (B3 S i ln) dd):=(j.cv.wait h).dn;have V:CB (av (B3 S i ln) dd):=s.eP ((Ar.wait h).trans ⟨rfl,rfl,rfl,rfl,rfl⟩);have Y:=(TH.mp h).1;obtain ⟨k,d,S',et,w',c',s',q',nK,l'⟩:=RT (i:=i) (y:=AI ln "waits") L O (Ahn j.one (y:=AI ln "waits") rfl h (.inl rfl)) V (A0 h) (by show S.q++[ln.num]=_;rw [j.q];rfl) eh;refine ⟨k,d,S',et,?_,(Ar.wait h).trans (Ar.av.trans s'),nK⟩;have D:S'.lns=S.lns.set i { AI ln "dials" with held:=[(S9 "",k)] }:=by rw [l'];show (S.lns.set i _).set i _=_;rw [UI];rfl
 have wl:i<ws.length:=by rw [j.len];exact Y
 refine j.chg w' c' q' (·=i) (λk n=>by rw [D,To (Tu n)]) (λk n=>by rw [To (Tu n)]) (by rw [D,Td,Td];exact j.len) (λk lk B hk z H=>?_) (λk y B hk=>?_) (λk y B hk ne z H=>?_)
 .subst B;rw [h] at hk;cases hk;rw [W.2.1] at H;cases H
 .subst B;rw [D,A0 h] at hk;cases hk;exact ⟨_,by rw [T6 wl],RW rfl rfl rfl rfl rfl⟩
 .subst B;rw [D,A0 h] at hk;cases hk;cases H
theorem J.nL (j:J S ws)(s:CB S){o:Option Str}(h:S.lns[i]?=some ln)(hw:ws[i]?=some (.bh,o))(dd:Addr) :
  ∃(k:Nat)(lo:Ln),S.lns[k]?=some lo/\k≠i/\o=some lo.num/\ws[k]?=some (.calls,some ln.num)/\∃ S',(A6.line .lift ln.num).res S=.inr ([.tuple [.str "talks",.str lo.num,.str ln.num]],S')/\Bq (av S' dd)=([],av S' dd)/\Ar S (av S' dd)/\S'.dn=S.dn /\
   ∀ bF:Ws,bF.length=ws.length->bF[i]?=some (.cQ,some lo.num)->bF[k]?=some (.aR,some ln.num)->(∀ m,m≠i->m≠k->bF[m]?=ws[m]?)->J (av S' dd) bF:=by
 obtain ⟨w0,Y,l⟩:=j.l i ln h;rw [hw] at Y;cases Y;have es:ln.st="rung":=l.st;have eh:ln.held=[]:=l.no rfl;obtain ⟨_,_,k,lo,hk,nk,f1,f2,f3⟩:=(j.wf.l i ln h).way (w:=.bh) es;obtain ⟨H,gA,lk⟩:=j.l k lo hk;have I:H=(.calls,some ln.num):=by have e1:H.1.w=.rings:=Bg.inj (lk.st.symm.trans f3);have e2:H.2=some ln.num:=lk.ah.symm.trans f2;obtain ⟨a,b⟩:=H;dsimp only at e1 e2;rw [e2];cases a<;>first | rfl | cases e1
 rw [I] at gA lk;obtain ⟨k0,x0,m0,L,O⟩:=lk.ca (.inl rfl);have f:LW.lift.fits ln=true:=by unfold LW.fits;rw [es];rfl
 have go:LW.lift.go S i ln=([.tuple [.str "talks",.str lo.num,.str ln.num]],{ S with lns:=(S.lns.set k { lo with st:="talks" }).set i { ln with st:="talks" } }):=by
  show ([(B0 S i ln).1],(B0 S i ln).2)=_;have nr:ln.st≠"rests":=by rw [es];decide +kernel
  rw [JT nr f1 (by rw [Dj j.wf hk];exact hk),Dj j.wf hk]
 have e:=EX j.wf h f;have cg:=AA.go j.wf j.cv h f;have sg:=Ar.go j.wf h f;rw [go] at e cg sg;have il:=(TH.mp h).1;refine ⟨k,lo,hk,nk,l.ah.symm.trans f1,gA,_,e,EW j.q,sg.trans Ar.av,rfl,λbF len w1 w2 w3=>?_⟩;have V:((S.lns.set k { lo with st:="talks" }).set i { ln with st:="talks" })[i]?=some { ln with st:="talks" }:=by rw [T6 (by rw [Td];exact il)]
 have cH:((S.lns.set k { lo with st:="talks" }).set i { ln with st:="talks" })[k]?=some { lo with st:="talks" }:=by rw [To (Tu nk)];exact A0 hk
 refine j.chg (j.wf.res e).1.dn cg.dn j.q (λm=>m=i\/m=k) (λm n=>?_) (λm n=>w3 m (λz=>n (.inl z)) (λz=>n (.inr z))) (by show bF.length=((S.lns.set k _).set i _).length;rw [Td,Td,len];exact j.len) (λm lm em B z D=>?_) (λm y em B=>?_) (λm y em B ne z D=>?_)
 .show ((S.lns.set k _).set i _)[m]?=_;rw [To (λz=>n (.inl z.symm)),To (λz=>n (.inr z.symm))]
 .rcases em with rfl | rfl
  .rw [h] at B;cases B;rw [f1] at D;exact ⟨k,lo,.inr rfl,hk,Ts D⟩
  .rw [hk] at B;cases B;rw [f2] at D;exact ⟨i,ln,.inl rfl,h,Ts D⟩
 .rcases em with rfl | rfl
  .have B:_=some y:=V.symm.trans B;cases B;exact ⟨_,w1,EY eh rfl f1 rfl⟩
  .have B:_=some y:=cH.symm.trans B;cases B;exact ⟨_,w2,RY L O rfl f2 (.inr rfl)⟩
 .rcases em with rfl | rfl
  .have B:_=some y:=V.symm.trans B;cases B;exact absurd eh ne
  .have B:_=some y:=cH.symm.trans B;cases B;have D:lo.ah=some z:=D;rw [f2] at D;exact ⟨i,_,V,Ts D,f1,eh⟩
end
section
variable {S S' T:PS}{ws bF:Ws}{i k:Nat}{ln lo y:Ln}
theorem RZ (w:WF S)(hk:S.lns[k]?=some lo)(f1:ln.ah=some lo.num)(B:ln.st≠"waits"):Cs S i ln=([.tuple [.str "rests",.str ln.num],(Bd S k lo).1],br (Bd S k lo).2 i ln):=by
 have D:aA S ln=S:=if_neg B;have H:=Dj w hk;have I:aX S ln=([(Bd S k lo).1],(Bd S k lo).2):=by simp only [aX,f1,H,hk]
 unfold Cs;rw [D,I]
theorem J2 (v:Bg)(e:ln.st=v.s)(n:v.s∈LW.aW.cD):LW.aW.fits ln=true:=by unfold LW.fits;rw [e,decide_eq_true n];rfl
theorem J.abx (j:J S ws)(s:CB S){w:Wj}{o:Option Str}(h:S.lns[i]?=some ln)(hw:ws[i]?=some (w,o))(d:w=.aF\/w=.told)(dd:Addr) :
  ∃ S',(A6.line .aW ln.num).res S=.inr ([.tuple [.str "rests",.str ln.num]],S')/\Bq (av S' dd)=([],av S' dd)/\J (av S' dd) (ws.set i (.rests,none))/\Ar S (av S' dd)/\S'.dn=S.dn:=by
 obtain ⟨w0,H,l⟩:=j.l i ln h;rw [hw] at H;cases H;have L:=j.wf.l i ln h;have fn:ln.ah=none:=by
  rcases d with rfl | rfl
  .exact (L.way (w:=.aF) l.st).1
  .exact (L.way (w:=.told) l.st).2.1
 have f:LW.aW.fits ln=true:=by
  rcases d with rfl | rfl
  .exact J2 .aF l.st (by decide +kernel)
  .exact J2 .told l.st (by decide +kernel)
 have Y:ln.st≠"waits":=by
  rcases d with rfl | rfl
  .rw [show ln.st="dials" from l.st];decide +kernel
  .rw [show ln.st="told" from l.st];decide +kernel
 have e1:aA S ln=S:=if_neg Y;have go:LW.aW.go S i ln=([.tuple [.str "rests",.str ln.num]],br S i ln):=by show Cs S i ln=_;unfold Cs aX;rw [e1,fn]
 have e:=EX j.wf h f;have I:=AA.go j.wf j.cv h f;have O:=Ar.go j.wf h f;rw [go] at e I O;have V:(br S i ln).q=[]:=(DB ln.held S).trans j.q;have il:=(TH.mp h).1;have wl:i<ws.length:=by rw [j.len];exact il
 refine ⟨_,e,EW V,?_,O.trans Ar.av,Es ln.held S⟩;refine j.chg (j.wf.res e).1.dn I.dn V (·=i) (λk n=>To (Tu n)) (λk n=>by rw [To (Tu n)]) (by show (ws.set i _).length=(S.lns.set i _).length;rw [Td,Td];exact j.len) (λm lm em B z D=>?_) (λm y em B=>?_) (λm y em B ne z D=>?_)
 .subst em;rw [h] at B;cases B;rw [fn] at D;cases D
 .subst em;have B:_=some y:=(A0 h).symm.trans B;cases B;exact ⟨(.rests,none),by rw [T6 wl],EY rfl rfl rfl rfl⟩
 .subst em;have B:_=some y:=(A0 h).symm.trans B;cases B;cases D
theorem J.aA (j:J S ws)(s:CB S){o:Option Str}(h:S.lns[i]?=some ln)(hw:ws[i]?=some (.calls,o))(dd:Addr) :
  ∃(k:Nat)(lo:Ln),S.lns[k]?=some lo/\k≠i/\o=some lo.num/\∃ S',(A6.line .aW ln.num).res S=.inr ([.tuple [.str "rests",.str ln.num],.tuple [.str "quiet",.str lo.num]],S')/\Bq (av S' dd)=([],av S' dd)/\Ar S (av S' dd)/\S'.dn=S.dn /\
   J (av S' dd) ((ws.set i (.rests,none)).set k (.rests,none)):=by
 obtain ⟨w0,L,l⟩:=j.l i ln h;rw [hw] at L;cases L;have es:ln.st="rings":=l.st;obtain ⟨_,k,lo,hk,I,f1,f2,H⟩:=(j.wf.l i ln h).way (w:=.rings) es;have H:lo.st="rung":=H;have lh:=((j.wf.l k lo hk).way (w:=.bh) H).1;have f:LW.aW.fits ln=true:=J2 .rings es (by decide +kernel);have el:Bd S k lo=(.tuple [.str "quiet",.str lo.num],{ BP S k lo with lns:=S.lns.set k (AI { lo with held:=[] } "rests") }):=by unfold Bd;rw [if_neg (by rw [H];decide +kernel)]
 have go:LW.aW.go S i ln=([.tuple [.str "rests",.str ln.num],.tuple [.str "quiet",.str lo.num]],br { BP S k lo with lns:=S.lns.set k (AI { lo with held:=[] } "rests") } i ln):=by show Cs S i ln=_;rw [RZ j.wf hk f1 (by rw [es];decide +kernel),el]
 have e:=EX j.wf h f;have O:=AA.go j.wf j.cv h f;have V:=Ar.go j.wf h f;rw [go] at e O V;have Y:(br { BP S k lo with lns:=S.lns.set k (AI { lo with held:=[] } "rests") } i ln).q=[]:=(DB ln.held _).trans ((DB lo.held S).trans j.q);have il:=(TH.mp h).1;have kl:=(TH.mp hk).1;have wi:i<ws.length:=by rw [j.len];exact il
 have wk:k<ws.length:=by rw [j.len];exact kl
 have bp:((S.lns.set k (AI { lo with held:=[] } "rests")).set i (AI { ln with held:=[] } "rests"))[i]?=some (AI { ln with held:=[] } "rests"):=by rw [T6 (by rw [Td];exact il)]
 have cH:((S.lns.set k (AI { lo with held:=[] } "rests")).set i (AI { ln with held:=[] } "rests"))[k]?=some (AI { lo with held:=[] } "rests"):=by rw [To (Tu I)];exact A0 hk
 refine ⟨k,lo,hk,I,l.ah.symm.trans f1,_,e,EW Y,V.trans Ar.av,(Es ln.held _).trans (Es lo.held S),?_⟩;refine j.chg (j.wf.res e).1.dn O.dn Y (λm=>m=i\/m=k) (λm n=>?_) (λm n=>?_) (by show ((ws.set i _).set k _).length=((S.lns.set k _).set i _).length;rw [Td,Td,Td,Td];exact j.len) (λm lm em B z D=>?_) (λm y em B=>?_) (λm y em B ne z D=>?_)
 .show ((S.lns.set k _).set i _)[m]?=_;rw [To (λz=>n (.inl z.symm)),To (λz=>n (.inr z.symm))]
 .rw [To (λz=>n (.inr z.symm)),To (λz=>n (.inl z.symm))]
 .rcases em with rfl | rfl
  .rw [h] at B;cases B;rw [f1] at D;exact ⟨k,lo,.inr rfl,hk,Ts D⟩
  .rw [hk] at B;cases B;rw [f2] at D;exact ⟨i,ln,.inl rfl,h,Ts D⟩
 .rcases em with rfl | rfl
  .have B:_=some y:=bp.symm.trans B;cases B;exact ⟨(.rests,none),by rw [To I,T6 wi],EY rfl rfl rfl rfl⟩
  .have B:_=some y:=cH.symm.trans B;cases B;exact ⟨(.rests,none),by rw [T6 (by rw [Td];exact wk)],EY rfl rfl rfl rfl⟩
 .rcases em with rfl | rfl
  .have B:_=some y:=bp.symm.trans B;cases B;cases D
  .have B:_=some y:=cH.symm.trans B;cases B;cases D
theorem J.aX (j:J S ws)(s:CB S){w:Wj}{o:Option Str}(h:S.lns[i]?=some ln)(hw:ws[i]?=some (w,o))(d:w=.aR\/w=.cQ)(dd:Addr) :
  ∃(k:Nat)(lo:Ln),S.lns[k]?=some lo/\k≠i/\o=some lo.num/\∃ S',(A6.line .aW ln.num).res S=.inr ([.tuple [.str "rests",.str ln.num],.tuple [.str "waits",.str lo.num]],S')/\S'.dn=S.dn/\∃ m d D,Bq (av S' dd)=([.tuple [.str "tone",.str lo.num,.int m,.int d]],D)/\Ar S D/\D.dn=S.dn++[.ref dd] /\
   J D ((ws.set i (.rests,none)).set k (.aF,none)):=by
 obtain ⟨w0,bu,l⟩:=j.l i ln h;rw [hw] at bu;cases bu;have es:ln.st="talks":=by rcases d with rfl | rfl<;>exact l.st
 obtain ⟨_,k,lo,hk,L,f1,f2,O⟩:=(j.wf.l i ln h).way (w:=.aR) es;have O:lo.st="talks":=O;have f:LW.aW.fits ln=true:=J2 .aR es (by decide +kernel);have el:Bd S k lo=(.tuple [.str "waits",.str lo.num],B3 (BP S k lo) k { lo with held:=[] }):=by unfold Bd;rw [if_pos O]
 have go:LW.aW.go S i ln=([.tuple [.str "rests",.str ln.num],.tuple [.str "waits",.str lo.num]],br (B3 (BP S k lo) k { lo with held:=[] }) i ln):=by show Cs S i ln=_;rw [RZ j.wf hk f1 (by rw [es];decide +kernel),el]
 have e:=EX j.wf h f;have cg:=AA.go j.wf j.cv h f;have V:=Ar.go j.wf h f;rw [go] at e cg V;have Y:=(TH.mp h).1;have kl:=(TH.mp hk).1;have wi:i<ws.length:=by rw [j.len];exact Y
 have wk:k<ws.length:=by rw [j.len];exact kl
 have wT:WF (av (br (B3 (BP S k lo) k { lo with held:=[] }) i ln) dd):=(j.wf.res e).1.dn;have lT:(av (br (B3 (BP S k lo) k { lo with held:=[] }) i ln) dd).lns=(S.lns.set k (AI { lo with held:=[] } "waits")).set i (AI { ln with held:=[] } "rests"):=by show ((S.lns.set k _).set k _).set i _=_;rw [UI]
 have dT:(br (B3 (BP S k lo) k { lo with held:=[] }) i ln).dn=S.dn:=(Es ln.held _).trans (Es lo.held S);have hkT:(av (br (B3 (BP S k lo) k { lo with held:=[] }) i ln) dd).lns[k]?=some (AI { lo with held:=[] } "waits"):=by rw [lT,To (Tu L)];exact A0 hk
 have one:EV (av (br (B3 (BP S k lo) k { lo with held:=[] }) i ln) dd):=RV j.one λm lm B=>by
  rw [lT] at B;by_cases c:i=m
  .subst c;rw [T6 (by rw [Td];exact Y)] at B;cases B;exact .inl rfl
  .rw [To c] at B;by_cases c2:k=m
   .subst c2;rw [A0 hk] at B;cases B;exact .inl rfl
   .rw [To c2] at B;exact .inr ⟨lm,B,rfl⟩
 have qT:(av (br (B3 (BP S k lo) k { lo with held:=[] }) i ln) dd).q=[lo.num]:=by refine (DB ln.held _).trans ?_;show (aH S lo.held).q++[lo.num]=_;rw [DB,j.q];rfl
 obtain ⟨m,kD,D,et,w',c',s',q',nK,I⟩:=RT (i:=k) (y:=AI { lo with held:=[] } "waits") wT cg.dn one (s.eP (V.trans Ar.av)) hkT qT rfl;refine ⟨k,lo,hk,L,l.ah.symm.trans f1,_,e,dT,m,kD,D,et,V.trans (Ar.av.trans s'),?_,?_⟩
 .rw [nK];show (br _ i ln).dn++_=_;rw [dT]
 rw [lT] at I;have bp:D.lns[i]?=some (AI { ln with held:=[] } "rests"):=by rw [I,To L,T6 (by rw [Td];exact Y)]
 have cH:D.lns[k]?=some { AI (AI { lo with held:=[] } "waits") "dials" with held:=[(S9 "",m)] }:=by rw [I,T6 (by rw [Td,Td];exact kl)]
 refine j.chg w' c' q' (λm=>m=i\/m=k) (λm n=>?_) (λm n=>?_) (by rw [I,Td,Td,Td,Td,Td];exact j.len) (λm lm em B z H=>?_) (λm y em B=>?_) (λm y em B ne z H=>?_)
 .rw [I,To (λz=>n (.inr z.symm)),To (λz=>n (.inl z.symm)),To (λz=>n (.inr z.symm))]
 .rw [To (λz=>n (.inr z.symm)),To (λz=>n (.inl z.symm))]
 .rcases em with rfl | rfl
  .rw [h] at B;cases B;rw [f1] at H;exact ⟨k,lo,.inr rfl,hk,Ts H⟩
  .rw [hk] at B;cases B;rw [f2] at H;exact ⟨i,ln,.inl rfl,h,Ts H⟩
 .rcases em with rfl | rfl
  .have B:_=some y:=bp.symm.trans B;cases B;exact ⟨(.rests,none),by rw [To L,T6 wi],EY rfl rfl rfl rfl⟩
  .have B:_=some y:=cH.symm.trans B;cases B;exact ⟨(.aF,none),by rw [T6 (by rw [Td];exact wk)],RW rfl rfl rfl rfl rfl⟩
 .rcases em with rfl | rfl
  .have B:_=some y:=bp.symm.trans B;cases B;cases H
  .have B:_=some y:=cH.symm.trans B;cases B;cases H
end
def DC (c:Nat):Int:=if c=48 then 10 else (c:Int) - 48
theorem Mt {c:Nat}(h:48<=c/\c<=57):1<=DC c/\DC c<=10:=by unfold DC;split<;>omega
theorem R0 {c:Nat}(h:48<=c/\c<=57):Dh (DC c)=⟨#[c]⟩:=by
 have B:∀ m:Nat,m<10->Dh (DC (48+m))=⟨#[48+m]⟩:=by decide +kernel
 have e:=B (c - 48) (by omega);rw [show 48+(c - 48)=c by omega] at e;exact e
theorem R4 {z:Str}{f c:Nat}(h:z.cps.toList[f]?=some c):BE z f++(⟨#[c]⟩:Str)=BE z (f+1):=by
 have e:(⟨(BE z f).cps++#[c]⟩:Str)=BE z (f+1):=by unfold BE;rw [Vg,h];show (⟨_⟩:Str)=⟨_⟩;simp
 exact e
theorem Aho {z:Str}{f:Nat}(h:f<=z.length):(BE z f).length=f:=by show ((z.cps.toList.take f).toArray).size=f;have h:f<=z.cps.size:=h;simp;omega
theorem Ahp {z:Str}{f:Nat}(h:z.length=f):BE z f=z:=by obtain ⟨⟨l⟩⟩:=z;have h:l.length=f:=h;unfold BE;show (⟨(l.take f).toArray⟩:Str)=_;rw [<- h,Vh]
section
variable {S T:PS}{ws bF:Ws}{i g f:Nat}{ln lg y:Ln}{z:Str}{p:Int}{c:Nat}
structure Dl (S:PS)(i:Nat)(z:Str)(f:Nat)(p:Int)(T:PS):Prop where
 wf:WF T
 cv:AA T
 sh:Ar S T
 q:T.q=[]
 ot:∀ k,k≠i->T.lns[k]?=S.lns[k]?
 y:∃ y,T.lns[i]?=some y/\y.st="dials"/\y.ah=none/\y.ai=BE z f/\y.aj=p/\(f=0->∃ k,y.held=[(S9 "",k)])/\(0<f->∃ k x m,y.held=[(S9 "",k),(x,m)]/\x≠S9 "")
 gf:f=0->∀ g∈T.aq,∃ k,BZ g.hs g.js 0=some k
theorem Ar.numAt (s:Ar S T)(h:S.lns[i]?=some ln)(hy:T.lns[i]?=some y):y.num=ln.num:=by have e:(T.lns.map (·.num))[i]?=(S.lns.map (·.num))[i]?:=congrArg (λl:List Str=>l[i]?) s.num;rw [Tp,Tp,h,hy] at e;exact Ts e
theorem Dl.start (j:J S ws)(s:CB S){o:Option Str}(h:S.lns[i]?=some ln)(hw:ws[i]?=some (.aF,o))(z:Str):Dl S i z 0 0 S:=by obtain ⟨I,B,l⟩:=j.l i ln h;rw [hw] at B;cases B;obtain ⟨hk,D,H⟩:=l.di rfl;exact ⟨j.wf,j.cv,.refl,j.q,λ_ _=>rfl,⟨ln,h,l.st,((j.wf.l i ln h).way (w:=.aF) l.st).1,D.trans rfl,H,λ_=>hk,λz=>absurd z (by decide)⟩,λ_ g m=>j.abv s m⟩
theorem Ahq (e:y.st="dials"):LW.bt.fits y=true:=by unfold LW.fits;rw [e];rfl
theorem R5 (e:y.st="dials")(n:y.aj≠0):LW.gap.fits y=true:=by unfold LW.fits;rw [e,UK];exact ⟨rfl,decide_eq_true n⟩
theorem Dl.bt (d:Dl S i z f p T)(h:S.lns[i]?=some ln)(p0:0<=p)(p1:p<10)(dd:Addr) :
  ∃ B,(A6.line .bt ln.num).res T=.inr ([],B)/\B.dn=T.dn/\Bq (av B dd)=([],av B dd)/\Dl S i z f (p+1) (av B dd):=by
 obtain ⟨y,hy,H,L,O,V,Y,e6⟩:=d.y;have en:=d.sh.numAt h hy;have D:=Ahq H;have go:LW.bt.go T i y=([],{ T with lns:=T.lns.set i { y with aj:=y.aj+1 } }):=by show CQ T i y=_;unfold CQ;rw [if_pos (by omega)]
 have e:(A6.line .bt ln.num).res T=.inr (LW.bt.go T i y):=by rw [<- en];exact EX d.wf hy D
 have I:=AA.go d.wf d.cv hy D;have J:=Ar.go d.wf hy D;rw [go] at e I J;refine ⟨_,e,rfl,EW d.q,⟨(d.wf.res e).1.dn,I.dn,d.sh.trans (J.trans Ar.av),d.q,λk n=>?_,⟨_,A0 hy,H,L,O,by show y.aj+1=_;rw [V],Y,e6⟩,d.gf⟩⟩;show (T.lns.set i _)[k]?=_;rw [To (Tu n)];exact d.ot k n
theorem Dl.gap (d:Dl S i z f p T)(s:CB S)(h:S.lns[i]?=some ln)(f2:f<2)(lz:z.length=3)(hc:z.cps.toList[f]?=some c)(cd:48<=c/\c<=57)(ep:p=DC c)(mz:z∈S.lns.map (·.num))(dd:Addr) :
  ∃ x D,(A6.line .gap ln.num).res T=.inr ([x],D)/\D.dn=T.dn/\Bq (av D dd)=([],av D dd)/\Dl S i z (f+1) 0 (av D dd):=by
 obtain ⟨y,hy,L,e2,e3,e4,e5,e6⟩:=d.y;have en:=d.sh.numAt h hy;have pn:=Mt cd;have O:=R5 L (show y.aj≠0 by omega);have e:(A6.line .gap ln.num).res T=.inr (LW.gap.go T i y):=by rw [<- en];exact EX d.wf hy O
 have H:=AA.go d.wf d.cv hy O;have I:=Ar.go d.wf hy O;have dg:=(LW.gap.nJ (S:=T) (i:=i) (ln:=y)).1;have J:=s.eP d.sh;have ai:(As y).ai=BE z (f+1):=by show y.ai++Dh y.aj=_;rw [e3,e4,ep,R0 cd];exact R4 hc
 have V:((As y).ai.length:Int)=f+1:=by rw [ai,Aho (by omega)];rfl
 have hg1:(T.lns.set i (As y))[i]?=some (As y):=A0 hy;by_cases f0:f=0
 .subst f0;obtain ⟨g,mg,eg⟩:=J.gp z (by rw [d.sh.num];exact mz);obtain ⟨m,hm⟩:=d.gf rfl g mg;obtain ⟨k,hk⟩:=e5 rfl;have go:LW.gap.go T i y=([.tuple [.str "takes",.str y.num,.str (BE z 1),.int m]],{ T with aq:=T.aq.map (λB=>if B.pre=BE z 1 then bL B m y.num else B),lns:=T.lns.set i { As y with held:=y.held++[(BE z 1,m)] } }):=by
   show ([(BQ T i y).1],(BQ T i y).2)=_;unfold BQ;dsimp only;rw [if_pos (by rw [V,J.long];decide)];have Y:BM { T with lns:=T.lns.set i (As y) } (BE z 1)=some g:=by rw [<- eg];exact RS d.wf.g mg
   have key:∀ w,w=BE z 1->Ck { T with lns:=T.lns.set i (As y) } i (As y) w=(.tuple [.str "takes",.str y.num,.str (BE z 1),.int m],{ T with aq:=T.aq.map (λB=>if B.pre=BE z 1 then bL B m y.num else B),lns:=T.lns.set i { As y with held:=y.held++[(BE z 1,m)] } }):=by rintro _ rfl;unfold Ck;rw [Y];dsimp only;rw [hm];dsimp only;rw [UI];rfl
   rw [key _ ai]
  rw [go] at e H I dg;refine ⟨_,_,e,rfl,EW d.q,⟨(d.wf.res e).1.dn,H.dn,d.sh.trans (I.trans Ar.av),d.q,λk n=>?_,⟨_,A0 hy,L,e2,ai,rfl,λz=>absurd z (by decide),λ_=>⟨k,BE z 1,m,by show y.held++_=_;rw [hk];rfl,by rw [<- eg];exact d.wf.g.ne g mg⟩⟩,λz=>absurd z (by decide)⟩⟩;show (T.lns.set i _)[k]?=_;rw [To (Tu n)];exact d.ot k n
 .have f1:f=1:=by omega
  subst f1;have go:LW.gap.go T i y=([.tuple [.str "figure",.str y.num,.str (As y).ai]],{ T with lns:=T.lns.set i (As y) }):=by show ([(BQ T i y).1],(BQ T i y).2)=_;unfold BQ;dsimp only;rw [if_neg (by rw [V,J.long];decide),if_pos (by rw [V,J.long];decide)]
  rw [go] at e H I dg;refine ⟨_,_,e,rfl,EW d.q,⟨(d.wf.res e).1.dn,H.dn,d.sh.trans (I.trans Ar.av),d.q,λk n=>?_,⟨_,A0 hy,L,e2,ai,rfl,λz=>absurd z (by decide),λ_=>e6 (by decide)⟩,λz=>absurd z (by decide)⟩⟩;show (T.lns.set i _)[k]?=_;rw [To (Tu n)];exact d.ot k n
theorem Dl.last (d:Dl S i z 2 p T)(j:J S ws)(s:CB S){o og:Option Str}{H:Wj}(h:S.lns[i]?=some ln)(hw:ws[i]?=some (.aF,o))(L:S.lns[g]?=some lg)(ez:lg.num=z)(Y:ws[g]?=some (H,og))(lz:z.length=3)(hc:z.cps.toList[2]?=some c)(cd:48<=c/\c<=57)(ep:p=DC c)(dd:Addr) :
  ∃ x O,(A6.line .gap ln.num).res T=.inr ([x],O)/\O.dn=T.dn/\Bq (av O dd)=([],av O dd)/\Ar S (av O dd) /\
   ((H=.rests/\x=.tuple [.str "rings",.str ln.num,.str z]/\J (av O dd) ((ws.set g (.bh,some ln.num)).set i (.calls,some z))) \/
    (H≠.rests/\x=.tuple [.str "busy",.str ln.num,.tuple [.str "line",.str z,.str H.w.s]]/\J (av O dd) (ws.set i (.told,none)))):=by
 obtain ⟨w0,bu,l⟩:=j.l i ln h;rw [hw] at bu;cases bu;have rm:ln.ah=none:=((j.wf.l i ln h).way (w:=.aF) l.st).1;obtain ⟨w1,kn,l1⟩:=j.l g lg L;rw [Y] at kn;cases kn;obtain ⟨y,hy,e1,e2,e3,e4,e5,e6⟩:=d.y;obtain ⟨k,x0,m,ey,nx⟩:=e6 (by decide);have en:=d.sh.numAt h hy;have pn:=Mt cd;have fi:=R5 e1 (show y.aj≠0 by omega);have e:(A6.line .gap ln.num).res T=.inr (LW.gap.go T i y):=by rw [<- en];exact EX d.wf hy fi
 have cg:=AA.go d.wf d.cv hy fi;have sg:=Ar.go d.wf hy fi;have dg:=(LW.gap.nJ (S:=T) (i:=i) (ln:=y)).1;have sT:=s.eP d.sh;have ai:(As y).ai=z:=by
  have:(As y).ai=BE z 3:=by show y.ai++Dh y.aj=_;rw [e3,e4,ep,R0 cd];exact R4 hc
  rw [this];exact Ahp lz
 have lf:((As y).ai.length:Int)=3:=by rw [ai,lz];rfl
 have il:=(TH.mp h).1;have gl:=(TH.mp L).1;have wi:i<ws.length:=by rw [j.len];exact il
 have wgl:g<ws.length:=by rw [j.len];exact gl
 have jq:∃ lc,(T.lns.set i (As y))[g]?=some lc/\lc.num=z/\lc.st=H.w.s/\(g≠i->lc=lg):=by
  by_cases V:g=i
  .subst V;rw [h] at L;cases L;rw [hw] at Y;cases Y;exact ⟨As y,A0 hy,by show y.num=z;rw [en];exact ez,e1,λn=>absurd rfl n⟩
  .exact ⟨lg,by rw [To (Tu V),d.ot g V];exact L,ez,l1.st,λ_=>rfl⟩
 obtain ⟨lc,jq,rn,nM,nN⟩:=jq;have w1:((T.lns.set i (As y)).map (·.num)).Nodup:=by rw [BJ (S:=T) (y:=As y) hy rfl];exact d.wf.g.num
 have ix:A1 (T.lns.set i (As y)) z=g:=by rw [<- rn];exact Jz w1 jq
 have kE:LW.gap.go T i y=([(B1 { T with lns:=T.lns.set i (As y) } i (As y) z).1],(B1 { T with lns:=T.lns.set i (As y) } i (As y) z).2):=by show ([(BQ T i y).1],(BQ T i y).2)=_;unfold BQ;dsimp only;rw [if_neg (by rw [lf,sT.long];decide),if_neg (by rw [lf,sT.long];decide),ai]
 by_cases er:H=.rests
 .subst er;have V:g≠i:=λz=>by subst z;rw [hw] at Y;cases Y
  have nN:=nN V;subst nN;have es:lc.st="rests":=nM;have tl:B1 { T with lns:=T.lns.set i (As y) } i (As y) z=(.tuple [.str "rings",.str y.num,.str z],{ T with lns:=((T.lns.set i (As y)).set i { As y with st:="rings",ah:=some lc.num }).set g { lc with st:="rung",ah:=some y.num } }):=by unfold B1;dsimp only;rw [ix,jq];dsimp only;rw [if_pos es];rfl
  rw [tl,UI] at kE;rw [kE] at e cg sg;refine ⟨_,_,e,rfl,EW d.q,d.sh.trans (sg.trans Ar.av),.inl ⟨rfl,by rw [en],?_⟩⟩;have lh:lc.held=[]:=l1.no rfl;have aby:lc.ah=none:=((j.wf.l g lc L).way (w:=.rests) es).2.1;have bp:((T.lns.set i { As y with st:="rings",ah:=some lc.num }).set g { lc with st:="rung",ah:=some y.num })[i]?=some { As y with st:="rings",ah:=some lc.num }:=by rw [To V];exact A0 hy
  have nO:((T.lns.set i { As y with st:="rings",ah:=some lc.num }).set g { lc with st:="rung",ah:=some y.num })[g]?=some { lc with st:="rung",ah:=some y.num }:=by rw [T6];rw [Td,EU d.sh.num];exact gl
  refine j.chg (d.wf.res e).1.dn cg.dn d.q (λm=>m=i\/m=g) (λm n=>?_) (λm n=>?_) (by show ((ws.set g _).set i _).length=((T.lns.set i _).set g _).length;rw [Td,Td,Td,Td,EU d.sh.num];exact j.len) (λm lm em B z D=>?_) (λm I em B=>?_) (λm I em B ne z' D=>?_)
  .show ((T.lns.set i _).set g _)[m]?=_;rw [To (λz=>n (.inr z.symm)),To (λz=>n (.inl z.symm))];exact d.ot m λz=>n (.inl z)
  .rw [To (λz=>n (.inl z.symm)),To (λz=>n (.inr z.symm))]
  .rcases em with rfl | rfl
   .rw [h] at B;cases B;rw [rm] at D;cases D
   .rw [L] at B;cases B;rw [aby] at D;cases D
  .rcases em with rfl | rfl
   .have B:_=some I:=bp.symm.trans B;cases B;exact ⟨(.calls,some z),by rw [T6 (by rw [Td];exact wi)],RY ey nx rfl (congrArg some rn) (.inl rfl)⟩
   .have B:_=some I:=nO.symm.trans B;cases B;exact ⟨(.bh,some ln.num),by rw [To (Tu V),T6 wgl],EY lh rfl (congrArg some en) rfl⟩
  .rcases em with rfl | rfl
   .have B:_=some I:=bp.symm.trans B;cases B;have D:some lc.num=some z':=D;exact ⟨g,_,nO,Ts D,rfl,lh⟩
   .have B:_=some I:=nO.symm.trans B;cases B;exact absurd lh ne
 .have ns:lc.st≠"rests":=λz=>er (by
   have:H.w=.rests:=Bg.inj (nM.symm.trans z);cases H<;>first | rfl | cases this)
  have tl:B1 { T with lns:=T.lns.set i (As y) } i (As y) z=(.tuple [.str "busy",.str y.num,.tuple [.str "line",.str z,.str lc.st]],BU { T with lns:=T.lns.set i (As y) } i (As y) (.tuple [.str "line",.str z,.str lc.st])):=by unfold B1;dsimp only;rw [ix,jq];dsimp only;rw [if_neg ns];rfl
  rw [tl] at kE;rw [kE] at e cg sg dg;rw [nM] at e cg sg dg;have q':(BU { T with lns:=T.lns.set i (As y) } i (As y) (.tuple [.str "line",.str z,.str H.w.s])).q=[]:=(DB (As y).held _).trans d.q;refine ⟨_,_,e,dg,EW q',d.sh.trans (sg.trans Ar.av),.inr ⟨er,by rw [en],?_⟩⟩;have lT:(BU { T with lns:=T.lns.set i (As y) } i (As y) (.tuple [.str "line",.str z,.str H.w.s])).lns=T.lns.set i { As y with held:=[],st:="told",why:=.tuple [.str "line",.str z,.str H.w.s] }:=by show (T.lns.set i _).set i _=_;rw [UI]
  refine j.chg (d.wf.res e).1.dn cg.dn q' (·=i) (λm n=>?_) (λm n=>by rw [To (Tu n)]) ?_ (λm lm em B z D=>?_) (λm I em B=>?_) (λm I em B ne z' D=>?_)
  .show (BU _ _ _ _).lns[m]?=_;rw [lT,To (Tu n)];exact d.ot m n
  .show (ws.set i _).length=(BU _ _ _ _).lns.length;rw [lT,Td,Td,EU d.sh.num];exact j.len
  .subst em;rw [h] at B;cases B;rw [rm] at D;cases D
  .subst em;have B:(BU _ _ _ _).lns[m]?=some I:=B;rw [lT,A0 hy] at B;cases B;exact ⟨(.told,none),by rw [T6 wi],EY rfl rfl e2 rfl⟩
  .subst em;have B:(BU _ _ _ _).lns[m]?=some I:=B;rw [lT,A0 hy] at B;cases B;exact absurd rfl ne
end
theorem Ahr (ds:List PyData):V3 (.tuple ds)=XY ds+1:=by simp [V3]
theorem Ahs (ds:List PyData):V3 (.list ds)=XY ds+1:=by simp [V3]
theorem Aht {z:Str}(h:CA z):Zj (.str z)=true:=by show PyData.strOk z=true;unfold PyData.strOk;rw [<- ue,WI];intro c hc;have:=h c hc;simp only [decide_eq_true_eq];omega
structure B4 (n:Nat)(d:PyData):Prop where
 c:Zj d=true
 k:V3 d<=n
theorem HJ {n:Nat}:∀{ds:List PyData},(∀ d∈ds,B4 n d)->uo ds=true/\XY ds<=n
 | [],_=>⟨rfl,T5 _⟩
 | d :: ds,h=>by
  obtain ⟨B,D⟩:=HJ λe m=>h e (T1 _ m);have:=h d T9;refine ⟨?_,?_⟩
  .show (Zj _ && uo _)=true;rw [this.c,B];rfl
  .show max (V3 d) (XY ds)<=n;exact Nat.max_le.mpr ⟨this.k,D⟩
theorem B4.tup {n:Nat}{ds:List PyData}(h:∀ d∈ds,B4 n d):B4 (n+1) (.tuple ds):=⟨(HJ h).1,by rw [Ahr];exact Xw (HJ h).2⟩
theorem B4.lst {n:Nat}{ds:List PyData}(h:∀ d∈ds,B4 n d):B4 (n+1) (.list ds):=⟨(HJ h).1,by rw [Ahs];exact Xw (HJ h).2⟩
theorem B4.str {n:Nat}{z:Str}(h:CA z):B4 n (.str z):=⟨Aht h,by simp [V3]⟩
theorem B4.int {n:Nat}(z:Int):B4 n (.int z):=⟨rfl,by simp [V3]⟩
theorem asc {z:Str}(h:CA z:=by unfold CA;decide +kernel):CA z:=h
theorem Ce {p:PyData->Prop}{a:PyData}(B:p a):∀ d∈[a],p d:=λd m=>by
 rw [TX.mp m];exact B
theorem Cf {p:PyData->Prop}{a:PyData}{l:List PyData}(B:p a)(D:∀ d∈l,p d):∀ d∈a :: l,p d:=λd m=>by
 rcases Tq.mp m with rfl | m
 .exact B
 .exact D d m
noncomputable def AV (f:Str->V)(z:Str)(v:V):Str->V:=λy=>if y=z then v else f y
noncomputable def dS (zs:List Str)(f:Str->V):List (Au×V):=zs.map λz=>(.inr z,f z)
theorem EZ {f:Str->V}{z:Str}:∀{zs:List Str},z∈zs->Bp (dS zs f) (.inr z)=some (f z)
 | y :: zs,m=>by
  by_cases e:y=z
  .rw [<- e];exact El rfl
  .exact (DZ (λc=>e (Vz c))).trans (EZ ((Tq.mp m).resolve_left λc=>e c.symm))
theorem DR {f:Str->V}{z:Str}{zs:List Str}(m:z∈zs)(v:V):Bz (dS zs f) (.inr z) v=dS zs (AV f z v):=by
 unfold Bz;rw [IH,EZ m,if_pos (by rfl)];unfold dS;rw [TL];refine VQ λy _=>?_;show (if (T2 y:Au)=T2 z then _ else _)=_;unfold AV;by_cases e:y=z
 .rw [if_pos (congrArg _ e),if_pos e]
 .rw [if_neg (λc=>e (Vz c)),if_neg e]
def C9 (w:Wj×Option Str):List V:=[.str w.1.s,Bk w.2]
def TJ (H:Hp)(zs:List Str)(f:Str->V)(ws:Ws):Prop:=∀(i:Nat)(z:Str)(w:Wj×Option Str),zs[i]?=some z->ws[i]?=some w->∃ t,f z=.ref t/\H t=some (.tup (C9 w))
theorem TJ.ag {H B:Hp}{zs:List Str}{f:Str->V}{ws:Ws}(t:TJ H zs f ws)(s:Ah H B):TJ B zs f ws:=λi z w D I=>by
 obtain ⟨b,J,L⟩:=t i z w D I;exact ⟨b,J,s.t L⟩
theorem TJ.put {H:Hp}{zs:List Str}{f:Str->V}{ws:Ws}{i:Nat}{z:Str}{b:Addr}{w:Wj×Option Str}(t:TJ H zs f ws)(nd:zs.Nodup)(I:zs[i]?=some z)(hb:H b=some (.tup (C9 w))):TJ H zs (AV f z (.ref b)) (ws.set i w):=λk y u D B=>by
 by_cases c:k=i
 .subst c;rw [I] at D;cases D;have J:k<ws.length:=by
   have:=(TH.mp B).1;rwa [Td] at this
  rw [T6 J] at B;cases B;exact ⟨b,if_pos rfl,hb⟩
 .have L:y≠z:=Dz nd D I c;rw [To (Tu c)] at B;obtain ⟨O,Y,e2⟩:=t k y u D B;exact ⟨O,(if_neg L).trans Y,e2⟩
structure GT (K:S3)(a:Ak)(H:Hp)(X:HX)(sd:Addr)(zs:List Str)(f:Str->V)(ws:Ws)(R:AN):Prop where
 t:HT K a H X ((sd,.dK (dS zs f)) :: R)
 tj:TJ H zs f ws
 j:J X.S ws
 s:CB X.S
 zs:X.S.lns.map (·.num)=zs
section
variable {K:S3}{a:Ak}{H:Hp}{X:HX}{R:AN}{z:Str}{dd:Addr}{d:LW}{tl:List PyData}{S':PS}
theorem FJ {Q:VK}{E:XK}(t:HT K a H X R)(w:WF X.S)(I:Ok z)(hd:H dd=some (.tup (A6.line d z).vals))(e:(A6.line d z).res X.S=.inr (tl,S'))(dn:S'.dn.length<1000000)(q:∀ B D p xs,HT K a B D ((p,.lst (xs.map V.ref)) :: R)->D.h=X.h->D.S=(Bq (av S' dd)).2->Ah H B->BL K B xs (tl++(Bq (av S' dd)).1)->Q (.ref p) B):Hy K a [.ref X.h,.ref dd] H Q E:=by refine ⟨X,R,.line d z,dd,rfl,t,hd,w.pre (d:=.line d z) I,Uv w.g.qP (by decide),?_⟩;rw [e];exact ⟨(w.res e).1.cE,dn,(w.res e).2.2,q⟩
end
def R6 (S:PS)(ws:Ws)(i g:Nat)(ln lg:Ln)(wg:Wj)(x:PyData)(S':PS):Prop :=
 (wg=.rests/\x=.tuple [.str "rings",.str ln.num,.str lg.num]/\J S' ((ws.set g (.bh,some ln.num)).set i (.calls,some lg.num))) \/
 (wg≠.rests/\x=.tuple [.str "busy",.str ln.num,.tuple [.str "line",.str lg.num,.str wg.w.s]]/\J S' (ws.set i (.told,none)))
def R7 (K:S3)(a:Ak):Sp:=λvs H Q _=>∃(X:HX)(R:AN)(ws:Ws)(i g:Nat)(ln lg:Ln)(o og:Option Str)(wg:Wj),vs=[.ref X.h,.str ln.num,.str lg.num]/\HT K a H X R/\J X.S ws/\CB X.S/\X.S.lns[i]?=some ln/\ws[i]?=some (.aF,o)/\X.S.lns[g]?=some lg/\ws[g]?=some (wg,og)/\X.S.dn.length<900000 /\
 ∀ H' X' p b x,HT K a H' X' ((p,.lst [.ref b]) :: R)->X'.h=X.h->Ar X.S X'.S->X'.S.dn.length<=X.S.dn.length+33->Ah H H'->Is K H' (.ref b) x->R6 X.S ws i g ln lg wg x X'.S->Q (.ref p) H'
theorem Ahu {c:Nat}(h:48<=c/\c<=57):Xa ⟨#[c]⟩=some ((c:Int) - 48):=by
 have B:∀ m:Nat,m<10->Xa ⟨#[48+m]⟩=some (m:Int):=by decide +kernel
 have e:=B (c - 48) (by omega);rw [show 48+(c - 48)=c by omega] at e;rw [e];congr 1;omega
def Mu:List Int:=[10,1,2,3,4,5,6,7,8,9]
theorem Ahv {c:Nat}(h:48<=c/\c<=57):Cm (Mu.map V.int) ((c:Int) - 48)=some (.int (DC c)):=by
 have B:∀ m:Nat,m<10->Cm (Mu.map V.int) (m:Int)=some (.int (DC (48+m))):=by decide +kernel
 have e:=B (c - 48) (by omega);rw [show 48+(c - 48)=c by omega,show ((c - 48:Nat):Int)=(c:Int) - 48 by omega] at e;exact e
section
variable {P:Ta}{w:S6}{K:S3}{mg:Str->Option Value}{base:Heap}{a:Ak}{f:Addr}{fd:Tn}
theorem R8:AO ["hall","line","goal","told","figure","k"] ["hall","line","goal"] (Ac (top 42)):=.of
theorem R9:Nm (Ac (top 42)) "hall":=.of
theorem Sa:Nm (Ac (top 42)) "line":=.of
theorem Ahw:Nm (Ac (top 42)) "goal":=.of
theorem Mv:Nm (Ac (top 42)) "told":=.of
theorem Sb:Nm (Ac (top 42)) "figure":=.of
theorem Ahx:Nm (Ac (top 42)) "k":=.of
theorem Ahy:Gm (Ac (top 42)) "range":=.of
theorem Ahz:Gm (Ac (top 42)) "int":=.of
theorem AhA (F:AJ K "_law_dial" "_law_dial" (top 42) f fd)(T:TxtG P w K mg a)(fE:AK P w K mg base (AH P w) 9 a.ae "do" ["self","deed"] (Hy K a)):AB P w K mg base AE 10 f fd ["hall","line","goal"] (R7 K a):=by
 refine F.ok R8 λak A outer s H vs Q E hr h=>?_
 .obtain ⟨X,R,ws,i,g,I,L,o,og,wg,rfl,t,j,st,hi,rp,hg,dJ,dn,q⟩:=h;have hu:=hr.units;have nd:=R8.nd;have fF:=T.hc.cls;have mz:L.num∈X.S.lns.map (·.num):=CI hg;have lz:L.num.length=3:=by have:=j.wf.g.tl _ mz;have:=st.long;omega
  have dz:=st.dg _ mz;have zk:=(j.wf.g.tx _ (CI hi)).1;have lc:L.num.cps.toList.length=3:=by rw [UE];exact lz
  refine ⟨_,(@Aj _ _ _ _ _ (A8 3 nd Mv BV)
    (Aj (DF Vx rfl (Od (Aa 2 Ahw)) (Bo 4 nd Sb) (Aj (DF Vx rfl (KA Ahy T.fV (Ab (BC BF (Bx (KD rfl)) (C6 AcR Ahz T.pR Acz (Ab (Aa 4 Sb) Af)) (λ_ _=>rfl)) Af)) (Bo 5 nd Ahx) (Am (Bj (AX fE fF (Aa 0 R9) hr.d DJ (Ab (A2 (Ab Aq (Ab (Aa 1 Sa) Af))) Af)))))
     (Am (A8 3 nd Mv (AX fE fF (Aa 0 R9) hr.d DJ (Ab (A2 (Ab Aq (Ab (Aa 1 Sa) Af))) Af))))))
    (Am (AM (Aa 3 Mv))))),?_⟩
  try dsimp only [aD,aE]
  walk_at"";have dig:∀{f c:Nat},L.num.cps.toList[f]?=some c->48<=c/\c<=57:=λh=>dz _ (Tz h);refine ⟨PY dz.asc,Aco (z:=L.num) (λf σ H2=>∃ O x4 x5 tl,σ=[some (.ref X.h),some (.str I.num),some (.str L.num),some tl,x4,x5]/\O.h=X.h/\Ah H H2/\O.S.dn.length<=X.S.dn.length+11 * f/\((f<3/\HT K a H2 O R/\Dl X.S i L.num f 0 O.S)\/(f=3/\∃ p b x,tl=.ref p/\HT K a H2 O ((p,.lst [.ref b]) :: R)/\Ar X.S O.S/\Is K H2 (.ref b) x/\R6 X.S ws i g I L wg x O.S))) ⟨X,none,none,.aa,rfl,rfl,.refl,by omega,.inl ⟨by decide,t,Dl.start j st hi rp _⟩⟩ ?_ ?_⟩
  .rintro f c σ H2 hc ⟨O,x4,x5,tl,rfl,eh,p2,cR,d2⟩;have fl:f<3:=by have:=(TH.mp hc).1;omega
   obtain ⟨_,t2,d2⟩:=d2.resolve_right (λz=>by omega);have cd:=dig hc;have pn:=Mt cd;walk_at"";refine ⟨Av,λl nl=>?_⟩;have s3:=(Ag.refl H2).upd (o:=.lst [V.int 10,V.int 1,V.int 2,V.int 3,V.int 4,V.int 5,V.int 6,V.int 7,V.int 8,V.int 9]) nl;have e3:(upd H2 l (.lst [V.int 10,V.int 1,V.int 2,V.int 3,V.int 4,V.int 5,V.int 6,V.int 7,V.int 8,V.int 9])) l=some (.lst (Mu.map V.int)):=Ai;walk_at"";refine Tg (Tg ⟨_,_,rfl,Ahu cd,(by show 1<=640;decide),?_⟩);walk_at"";refine Tw ⟨l,_,_,_,rfl,rfl,.of e3,Ahv cd,?_⟩;generalize upd H2 l (.lst [V.int 10,V.int 1,V.int 2,V.int 3,V.int 4,V.int 5,V.int 6,V.int 7,V.int 8,V.int 9])=H3 at s3 e3 ⊢;have t3:=t2.same s3;have p3:Ah H H3:=p2.trans (.of s3);clear s3 e3
   walk_at"";refine ⟨by omega,by omega,Nj (n:=(DC c).toNat) (λk σ Y=>∃ J x5,σ=[some (.ref X.h),some (.str I.num),some (.str L.num),some tl,some (.str ⟨#[c]⟩),x5]/\J.h=X.h/\Ah H Y/\J.S.dn.length<=X.S.dn.length+11 * f+k/\HT K a Y J R/\Dl X.S i L.num f k J.S) ⟨O,x5,rfl,eh,p3,by omega,t3,d2⟩ ?_ ?_⟩
   .rintro k σ Y hk ⟨J,x5,rfl,bB,p4,jr,t4,d3⟩;walk_at"";rw [<- bB];refine ⟨J.h,J.dx,_,rfl,t4.t.az,rfl,?_⟩;walk_at"";refine ⟨Av,λB nP=>?_⟩;obtain ⟨T',e5,rq,tn5,d5⟩:=d3.bt hi (by omega) (by omega) B;have s5:=(Ag.refl Y).upd (o:=.tup [.str "pulse",.str I.num]) nP;have ir:(upd Y B (.tup [.str "pulse",.str I.num])) B=some (.tup (A6.line .bt I.num).vals):=Ai;generalize upd Y B (.tup [.str "pulse",.str I.num])=H5 at s5 ir ⊢;walk_at"";dsimp only [BN];refine FJ (t4.same s5) d3.wf zk ir e5 (by rw [rq];omega) λH6 X6 p xs t6 eQ D q6 bZ=>?_;rw [tn5] at D;refine ⟨X6,_,rfl,eQ,p4.trans ((Ah.of s5).trans q6),?_,t6.sub (.cons _ (.refl _)),by rw [D];exact d5⟩;rw [D];show (T'.dn++[V.ref B]).length<=_;rw [Ul,rq,UH];omega
   .rintro σ Y ⟨J,x5,rfl,bB,p4,jr,t4,d3⟩;have ek:(((DC c).toNat:Nat):Int)=DC c:=by omega
    rw [ek] at d3;walk_at"";rw [<- bB];refine ⟨J.h,J.dx,_,rfl,t4.t.az,rfl,?_⟩;walk_at"";refine ⟨Av,λB nP=>?_⟩;have s5:=(Ag.refl Y).upd (o:=.tup [.str "gap",.str I.num]) nP;have ir:(upd Y B (.tup [.str "gap",.str I.num])) B=some (.tup (A6.line .gap I.num).vals):=Ai;generalize upd Y B (.tup [.str "gap",.str I.num])=H5 at s5 ir ⊢;walk_at"";have dl:∀{T':PS},T'.dn=J.S.dn->(av T' B).dn.length<=X.S.dn.length+11 * (f+1):=λ{T'} e=>by
     show (T'.dn++[V.ref B]).length<=_;rw [Ul,e,UH];omega
    by_cases f2:f<2
    .obtain ⟨x,T',e6,c9,gB,d6⟩:=d3.gap st hi f2 lz hc cd rfl mz B;dsimp only [BN];refine FJ (t4.same s5) d3.wf zk ir e6 (by rw [c9];omega) λH6 X6 p xs t6 eQ D q6 bZ=>?_;rw [gB] at D;exact ⟨X6,_,_,_,rfl,eQ,p4.trans ((Ah.of s5).trans q6),by rw [D];exact dl c9,.inl ⟨by omega,t6.sub (.cons _ (.refl _)),by rw [D];exact d6⟩⟩
    .obtain rfl:f=2:=by omega
     obtain ⟨x,T',e6,c9,gB,gC,fin⟩:=d3.last j st hi rp hg rfl dJ lz hc cd rfl B;dsimp only [BN];refine FJ (t4.same s5) d3.wf zk ir e6 (by rw [c9];omega) λH6 X6 p xs t6 eQ D q6 bZ=>?_;rw [gB] at D bZ;obtain ⟨b,rfl,ib⟩:∃ b,xs=[b]/\Is K H6 (.ref b) x:=by
      have td:=bZ.i;cases xs with
      | nil=>cases td
      | cons b r =>
       cases td with
       | cons h1 h2 =>
        cases r with
        | nil=>exact ⟨b,rfl,h1⟩
        | cons _ _=>cases h2
     exact ⟨X6,_,_,_,rfl,eQ,p4.trans ((Ah.of s5).trans q6),by rw [D];exact dl c9,.inr ⟨rfl,p,b,x,rfl,t6,by rw [D];exact gC,ib,by rw [D];exact fin⟩⟩
  .rintro σ H2 ⟨O,x4,x5,tl,rfl,eh,p2,cR,d2⟩;rw [lc] at d2 cR;obtain ⟨_,p,b,x,rfl,t2,sh,ix,fin⟩:=d2.resolve_left (λz=>by omega);walk_at"";exact q _ _ _ _ _ t2 eh sh (by omega) p2 ix fin
section
variable {K:S3}{a:Ak}{H H':Hp}{X:HX}{R P':AN}{r:Addr}{u u':HO}
theorem HK:A3 a X R=A3 a X []++R:=by unfold A3;simp only [TM,WX]
theorem HT.setIn (t:HT K a H X (P'++(r,u) :: R))(k:F6 u=false):HT K a (upd H r u') X (P'++(r,u') :: R)/\Ah H (upd H r u'):=by have B:=t.t;rw [HK,<- TM] at B;have I:H r=some u:=B.get (T3 _ T9);have p:Ah H (upd H r u'):=.chg I k;have D:=At.set (o':=u') B;rw [TM,<- HK] at D;exact ⟨⟨D,t.ok.ag p⟩,p⟩
end
theorem Sd {K:S3}{H:Hp}{c:Addr}{ds:List PyData}(h:Is K H (.ref c) (.tuple ds)):∃ xs,Bh K H c xs/\aS K H xs ds:=by
 cases h with
 | tup B D=>exact ⟨_,B,D⟩
theorem Se {K:S3}{H:Hp}{xs:List V}{z y:Str}{m d:Int}(h:aS K H xs [.str z,.str y,.int m,.int d]):xs=[.str z,.str y,.int m,.int d]:=by cases h with | cons B h=>cases B;cases h with | cons B h=>cases B;cases h with | cons B h=>cases B;cases h with | cons B h=>cases B;cases h;rfl
def Wj.hu (w:Wj):Prop:=w≠.rests/\w≠.bh
def Mw (K:S3)(a:Ak):Sp:=λvs H Q _=>∃(X:HX)(R:AN)(sd:Addr)(zs:List Str)(f:Str->V)(ws:Ws)(i:Nat)(z:Str)(v:Wj)(o:Option Str),vs=[.ref X.h,.ref sd,.str z]/\GT K a H X sd zs f ws R/\zs[i]?=some z/\ws[i]?=some (v,o)/\v.hu/\X.S.dn.length<900000 /\
 ∀ H' X' f' bF,GT K a H' X' sd zs f' bF R->X'.h=X.h->X'.S.dn.length<=X.S.dn.length+40->Ah H H'->Q (.bl true) H'
theorem GT.line {K:S3}{a:Ak}{H:Hp}{X:HX}{sd:Addr}{zs:List Str}{f:Str->V}{ws:Ws}{R:AN}(g:GT K a H X sd zs f ws R){i:Nat}{z:Str}(h:zs[i]?=some z):∃ ln,X.S.lns[i]?=some ln/\ln.num=z:=by rw [<- g.zs,Tp] at h;obtain ⟨ln,B,D⟩:=UD.mp h;exact ⟨ln,B,D⟩
theorem GT.nd {K:S3}{a:Ak}{H:Hp}{X:HX}{sd:Addr}{zs:List Str}{f:Str->V}{ws:Ws}{R:AN}(g:GT K a H X sd zs f ws R):zs.Nodup:=by rw [<- g.zs];exact g.j.wf.g.num
theorem GT.aC {K:S3}{a:Ak}{H:Hp}{X:HX}{sd:Addr}{zs:List Str}{f:Str->V}{ws:Ws}{R:AN}(g:GT K a H X sd zs f ws R):zs.length<=12:=by rw [<- g.zs,Tb];exact g.s.aC
theorem AhB {S:PS}{ws:Ws}{i:Nat}{ln:Ln}{v:Wj}{o:Option Str}(j:J S ws)(s:CB S)(h:S.lns[i]?=some ln)(hw:ws[i]?=some (v,o))(hv:v.hu)(dd:Addr) :
  ∃ tl S',(A6.line .aW ln.num).res S=.inr (tl,S')/\S'.dn=S.dn/\Ar S (Bq (av S' dd)).2/\(Bq (av S' dd)).2.dn=S.dn++[.ref dd] /\
   (((v=.aF\/v=.told)/\tl++(Bq (av S' dd)).1=[.tuple [.str "rests",.str ln.num]]/\J (Bq (av S' dd)).2 (ws.set i (.rests,none))) \/
    (v=.calls/\∃(k:Nat)(lo:Ln),S.lns[k]?=some lo/\o=some lo.num/\tl++(Bq (av S' dd)).1=[.tuple [.str "rests",.str ln.num],.tuple [.str "quiet",.str lo.num]]/\J (Bq (av S' dd)).2 ((ws.set i (.rests,none)).set k (.rests,none))) \/
    ((v=.aR\/v=.cQ)/\∃(k:Nat)(lo:Ln)(m d:Int),S.lns[k]?=some lo/\o=some lo.num/\tl++(Bq (av S' dd)).1=[.tuple [.str "rests",.str ln.num],.tuple [.str "waits",.str lo.num],.tuple [.str "tone",.str lo.num,.int m,.int d]]/\J (Bq (av S' dd)).2 ((ws.set i (.rests,none)).set k (.aF,none)))):=by
 have I:(v=.aF\/v=.told)\/v=.calls\/(v=.aR\/v=.cQ):=by obtain ⟨L,O⟩:=hv;cases v<;>simp at L O ⊢
 rcases I with d | d | d
 .obtain ⟨S',e,t,B,D,dn⟩:=j.abx s h hw d dd;refine ⟨_,S',e,dn,by rw [t];exact D,by rw [t];show S'.dn++_=_;rw [dn],.inl ⟨d,by rw [t];rfl,by rw [t];exact B⟩⟩
 .subst d;obtain ⟨k,lo,hk,V,H,S',e,t,D,dn,B⟩:=j.aA s h hw dd;refine ⟨_,S',e,dn,by rw [t];exact D,by rw [t];show S'.dn++_=_;rw [dn],.inr (.inl ⟨rfl,k,lo,hk,H,by rw [t];rfl,by rw [t];exact B⟩)⟩
 .obtain ⟨k,lo,hk,V,H,S',e,dn,m,Y,S2,t,D,cR,B⟩:=j.aX s h hw d dd;refine ⟨_,S',e,dn,by rw [t];exact D,by rw [t];exact cR,.inr (.inr ⟨d,k,lo,m,Y,hk,H,by rw [t];rfl,by rw [t];exact B⟩)⟩
theorem Sf:AO ["hall","state","line","way","other","told","due"] ["hall","state","line"] (Ac (top 43)):=.of
theorem AhC:Nm (Ac (top 43)) "hall":=.of
theorem J3:Nm (Ac (top 43)) "state":=.of
theorem J4:Nm (Ac (top 43)) "line":=.of
theorem J5:Nm (Ac (top 43)) "way":=.of
theorem Gf:Nm (Ac (top 43)) "other":=.of
theorem HL:Nm (Ac (top 43)) "told":=.of
theorem HM:Nm (Ac (top 43)) "due":=.of
theorem AhD:Gm (Ac (top 43)) "len":=.of
theorem AhE (F:AJ K "_law_hung" "_law_hung" (top 43) f fd)(T:TxtG P w K mg a)(fE:AK P w K mg base (AH P w) 9 a.ae "do" ["self","deed"] (Hy K a)):AB P w K mg base AE 10 f fd ["hall","state","line"] (Mw K a):=by
 refine F.ok Sf λak A outer s H vs Q E hr h=>?_
 .obtain ⟨X,R,sd,zs,f,ws,i,z,v,o,rfl,B,hz,hw,hv,dn,q⟩:=h;have hu:=hr.units;have nd:=Sf.nd;have fF:=T.hc.cls;obtain ⟨ln,bj,bJ⟩:=B.line hz;have mz:z∈zs:=Tz hz;obtain ⟨tt,jt,gD⟩:=B.tj i z _ hz hw;have zk:Ok z:=by rw [<- bJ];exact (B.j.wf.g.tx _ (CI bj)).1
  have aC:=B.aC;have ju:H sd=some (.dK (dS zs f)):=B.t.t.rest.hd;refine ⟨_,(@Aj _ _ _ _ _ (Ea (CN P w K (Aa 1 J3) (Aa 2 J4)) (Ey rfl (B5 (Bo 3 nd J5) (B5 (Bo 4 nd Gf) DD))))
    (Aj (A8 5 nd HL (AX fE fF (Aa 0 AhC) hr.d DJ (Ab (A2 (Ab Aq (Ab (Aa 2 J4) Af))) Af)))
    (Aj (Dr (Uv (UL (by decide) _) hu) (Aa 1 J3) (Aa 2 J4) (A2 (Ab Aq (Ab BV Af))) rfl)
    (Aj (A8 6 nd HM (Bx (Ab (A2 (Ab Aq (Ab (Aa 2 J4) Af))) Af)))
    (Aj (AY (AZ (By hu) (Aa 3 J5) Aq (AW _)) (Aj (Dr (Uv (UL (by decide) _) hu) (Aa 1 J3) (Aa 4 Gf) (A2 (Ab Aq (Ab BV Af))) rfl)
     (Am (Bj (De UT U9 Va Dp (Aa 6 HM) (Ab (A2 (Ab Aq (Ab (Aa 4 Gf) Af))) Af))))) (Am (AY (PW.pt (Gu (AZ (By hu) (Aa 3 J5) Aq (AW _)) (Gs (AZ (By hu) (Aa 3 J5) Aq (AW _))))) (Aj (Dr (Uv (UL (by decide) _) hu) (Aa 1 J3) (Aa 4 Gf) (A2 (Ab Aq (Ab BV Af))) rfl)
      (Aj (Bj (De UT U9 Va Dp (Aa 6 HM) (Ab (A2 (Ab Aq (Ab (Aa 4 Gf) Af))) Af)))
      (Am (AM (Gv (CZ (By hu) (Kr Acx (Aa 5 HL) Ko (Kq Az)) (Aa 6 HM) (AW _)) (Gv (CZ (By hu) (BH Cy AhD T.n_len Cj (Ab (Aa 5 HL) Af)) Az (AW _)) (Ic (CZ (By hu) (Kr NR (BC BF (Aa 5 HL) Az (λ_ _=>rfl)) Ko (Kq Az)) (A2 (Ab Aq (Ab (Aa 4 Gf) Af))) (AW _))))))))) A4)))
    (Am (AM (CZ (By hu) (Aa 5 HL) (Aa 6 HM) (AW _))))))))),?_⟩
  try dsimp only [aD,aE]
  have bf:start ["hall","state","line","way","other","told","due"] [V.ref X.h,V.ref sd,V.str z]=[some (.ref X.h),some (.ref sd),some (.str z),none,none,none,none]:=rfl;simp only [bf,Ug,Uh];walk_at"";refine ⟨sd,_,.inr z,_,rfl,rfl,.of ju,(EZ mz).trans (congrArg some jt),?_⟩;walk_at"";refine ⟨tt,_,rfl,.of gD,rfl,?_⟩;simp only [Ug,Uh];walk_at"";refine ⟨X.h,X.dx,_,rfl,B.t.t.az,rfl,?_⟩;walk_at"";refine ⟨Av,λdd gE=>?_⟩;have s1:=(Ag.refl H).upd (o:=.tup [.str "hang",.str z]) gE;have e1:(upd H dd (.tup [.str "hang",.str z])) dd=some (.tup (A6.line .aW z).vals):=Ai;generalize upd H dd (.tup [.str "hang",.str z])=H1 at s1 e1 ⊢;dsimp only [BN];have t1:=B.t.same s1;obtain ⟨tl,S',e2,cR,dM,jr,cs⟩:=AhB B.j B.s bj hw hv dd;rw [bJ] at e2;refine FJ t1 B.j.wf zk e1 e2 (by rw [cR];omega) λH2 X2 p xs t2 bA bE q2 dG=>?_;rw [<- bE] at dM jr cs;have aJ:X2.S.lns.map (·.num)=zs:=dM.num.trans B.zs;have fh:=B.s.eP dM;have nQ:X2.S.dn.length<=X.S.dn.length+40:=by rw [jr,Ul,UH];omega
  have de:Ah H H2:=(Ah.of s1).trans q2;have dh:=B.tj.ag de;generalize hD:tl++(Bq (av S' dd)).1=D at dG cs;clear e1 e2 t1 cR bE gD hD
  simp only [Ug,Uh];walk_at"";refine ⟨Av,λb nb=>?_⟩;have s3:=(Ag.refl H2).upd (o:=.tup [.str "rests",.aa]) nb;have e3:(upd H2 b (.tup [.str "rests",.aa])) b=some (.tup (C9 (.rests,none))):=Ai;generalize upd H2 b (.tup [.str "rests",.aa])=H3 at s3 e3 ⊢;have t3:=t2.same s3;have p3:Ah H H3:=de.trans (.of s3);walk_at"";refine ⟨sd,_,rfl,.inl ⟨_,.inr z,t3.t.rest.tl.hd,rfl,(by unfold dS;rw [Tb,Tc];omega),rfl⟩,?_⟩;rw [DR mz];obtain ⟨t4,p4⟩:=HT.setIn (P':=[(p,.lst (xs.map V.ref))]) (u':=.dK (dS zs (AV f z (.ref b)))) t3 rfl;have cj:=((dh.ag (.of s3)).put B.nd hz e3).ag p4;have q4:Ah H (upd H3 sd (.dK (dS zs (AV f z (.ref b))))):=p3.trans p4;have gw:=(dG.ag (.of s3)).ag p4;generalize upd H3 sd (.dK (dS zs (AV f z (.ref b))))=H4 at t4 p4 cj q4 gw ⊢;clear t3 p3 s3 e3 p4 dh dG t2
  walk_at"";refine ⟨Av,λI dN=>?_⟩;have s5:=(Ag.refl H4).upd (o:=.tup [.str "rests",.str z]) dN;have e5:(upd H4 I (.tup [.str "rests",.str z])) I=some (.tup [.str "rests",.str z]):=Ai;generalize upd H4 I (.tup [.str "rests",.str z])=H5 at s5 e5 ⊢;have t5:=t4.same s5;walk_at"";refine ⟨Av,λJ iq=>?_⟩;have t6:=t5.new (u:=.lst [.ref I]) iq;have s6:=(Ag.refl H5).upd (o:=.lst [.ref I]) iq;have e6:(upd H5 J (.lst [.ref I])) J=some (.lst [.ref I]):=Ai;generalize upd H5 J (.lst [.ref I])=Y at s6 e6 t6 ⊢;have jg:=s6 _ _ e5;have nR:=s5.trans s6;have dO:=cj.ag (.of nR);have q6:Ah H Y:=q4.trans (.of nR);have bZ:=gw.ag (.of nR);clear t4 t5 s5 e5 iq dN s6 gw cj q4
  have eR:Y p=some (.lst (xs.map V.ref)):=t6.t.rest.tl.hd;simp only [Ug,Uh];rcases cs with ⟨d,eD,j2⟩ | ⟨d,k,lo,hk,eo,eD,j2⟩ | ⟨d,k,lo,m,kD,hk,eo,eD,j2⟩
  .have ns:∀ u:Wj,u≠.aF->u≠.told->V.str v.s≠V.str u.s:=λu n1 n2 e=>by
    have e:=V.str.inj e;rcases d with rfl | rfl<;>cases u<;>first | exact n1 rfl | exact n2 rfl | exact absurd e (by decide +kernel)
   walk_at"";refine BX (decide_eq_false (ns .calls (λz=>nomatch z) λz=>nomatch z)) ?_;walk_at"";refine BX (decide_eq_false (ns .aR (λz=>nomatch z) λz=>nomatch z)) ?_;walk_at"";refine BX (decide_eq_false (ns .cQ (λz=>nomatch z) λz=>nomatch z)) ?_;walk_at"";rw [eD,bJ] at bZ;have O:B4 2 (.list [.tuple [.str "rests",.str z]]):=.lst (Ce (.tup (n:=0) (Cf (.str asc) (Ce (.str zk.1)))));refine Tg ⟨_,_,.lst (.of eR) bZ.i,.lst (.of e6) (.cons (.tup (.of jg) (.cons (.str _) (.cons (.str _) .nil))) .nil),O.c,O.c,(by have:=O.k;omega),?_⟩;rw [Vi _ O.c];exact q Y X2 _ _ ⟨t6.sub (.cons _ (.cons _ (.refl _))),dO,j2,fh,aJ⟩ bA nQ q6
  .subst d eo;have dj:zs[k]?=some lo.num:=by rw [<- B.zs,Tp,hk];rfl
   have lk:CA lo.num:=(B.j.wf.g.tx _ (CI hk)).1.1;walk_at"";refine B6 (decide_eq_true rfl) ?_;walk_at"";refine ⟨Av,λb2 cq=>?_⟩;have s7:=(Ag.refl Y).upd (o:=.tup [.str "rests",.aa]) cq;have e7:(upd Y b2 (.tup [.str "rests",.aa])) b2=some (.tup (C9 (.rests,none))):=Ai;generalize upd Y b2 (.tup [.str "rests",.aa])=H7 at s7 e7 ⊢;have t7:=t6.same s7;walk_at"";refine ⟨sd,_,rfl,.inl ⟨_,.inr lo.num,t7.t.rest.tl.tl.hd,rfl,(by unfold dS;rw [Tb,Tc];omega),rfl⟩,?_⟩;rw [DR (Tz dj)];obtain ⟨t8,p8⟩:=HT.setIn (P':=[(J,.lst [.ref I]),(p,.lst (xs.map V.ref))]) (u':=.dK (dS zs (AV (AV f z (.ref b)) lo.num (.ref b2)))) t7 rfl;have jv:=((dO.ag (.of s7)).put B.nd dj e7).ag p8;have jw:Ah Y (upd H7 sd (.dK (dS zs (AV (AV f z (.ref b)) lo.num (.ref b2))))):=(Ah.of s7).trans p8;generalize upd H7 sd (.dK (dS zs (AV (AV f z (.ref b)) lo.num (.ref b2))))=H8 at t8 p8 jv jw ⊢;clear t7 s7 e7 t6 dO
   have e8:H8 J=some (.lst [.ref I]):=t8.t.rest.hd;walk_at"";refine ⟨.inl ⟨rfl,_,.of e8⟩,?_⟩;walk_at"";refine ⟨Av,λL dk=>?_⟩;have s9:=(Ag.refl H8).upd (o:=.tup [.str "quiet",Bk (some lo.num)]) dk;have e9:(upd H8 L (.tup [.str "quiet",Bk (some lo.num)])) L=some (.tup [.str "quiet",.str lo.num]):=Ai;generalize upd H8 L (.tup [.str "quiet",Bk (some lo.num)])=H9 at s9 e9 ⊢;have t9:=t8.same s9;walk_at"";refine ⟨J,_,_,rfl,rfl,s9 _ _ e8,(by show 1<sizeLine;decide),?_⟩;obtain ⟨tA,pA⟩:=t9.cN (o':=.lst ([.ref I]++[.ref L])) rfl;have dm:Ah Y (upd H9 J (.lst ([.ref I]++[.ref L]))):=jw.trans ((Ah.of s9).trans pA);have jx:=pA.t e9;have jy:=(jv.ag (.of s9)).ag pA;generalize upd H9 J (.lst ([.ref I]++[.ref L]))=HA at tA pA dm jx jy ⊢;walk_at"";have jz:HA p=some (.lst (xs.map V.ref)):=tA.t.rest.tl.hd;have nS:HA J=some (.lst ([.ref I]++[.ref L])):=tA.t.rest.hd;rw [eD,bJ] at bZ;have O:B4 2 (.list [.tuple [.str "rests",.str z],.tuple [.str "quiet",.str lo.num]]):=.lst (Cf (.tup (n:=0) (Cf (.str asc) (Ce (.str zk.1)))) (Ce (.tup (n:=0) (Cf (.str asc) (Ce (.str lk))))));refine Tg ⟨_,_,.lst (.of jz) (bZ.ag dm).i,.lst (.of nS) (.cons (.tup (.of (dm.t jg)) (.cons (.str _) (.cons (.str _) .nil))) (.cons (.tup (.of jx) (.cons (.str _) (.cons (.str _) .nil))) .nil)),O.c,O.c,(by have:=O.k;omega),?_⟩;rw [Vi _ O.c];exact q HA X2 _ _ ⟨tA.sub (.cons _ (.cons _ (.refl _))),jy,j2,fh,aJ⟩ bA nQ (q6.trans dm)
  .subst eo;have dj:zs[k]?=some lo.num:=by rw [<- B.zs,Tp,hk];rfl
   have lk:CA lo.num:=(B.j.wf.g.tx _ (CI hk)).1.1;have nc:V.str v.s≠V.str "calls":=λe=>by
    have e:=V.str.inj e;rcases d with rfl | rfl<;>exact absurd e (by decide +kernel)
   walk_at"";refine BX (decide_eq_false nc) ?_;walk_at"";have nt:v=.cQ->V.str v.s≠V.str "talks":=λe z=>by subst e;exact absurd (V.str.inj z) (by decide +kernel)
   by_cases dv:v=.aR;all_goals first
    | refine B6 (decide_eq_true (by rw [dv];rfl)) ?_
    | (refine BX (decide_eq_false (nt (d.resolve_left dv))) ?_
       walk_at"";refine B6 (decide_eq_true (by rw [d.resolve_left dv];rfl)) ?_)
   all_goals
    walk_at"";refine ⟨Av,λb2 cq=>?_⟩;have s7:=(Ag.refl Y).upd (o:=.tup [.str "dials",.aa]) cq;have e7:(upd Y b2 (.tup [.str "dials",.aa])) b2=some (.tup (C9 (.aF,none))):=Ai;generalize upd Y b2 (.tup [.str "dials",.aa])=H7 at s7 e7 ⊢;have t7:=t6.same s7;walk_at"";refine ⟨sd,_,rfl,.inl ⟨_,.inr lo.num,t7.t.rest.tl.tl.hd,rfl,(by unfold dS;rw [Tb,Tc];omega),rfl⟩,?_⟩;rw [DR (Tz dj)];obtain ⟨t8,p8⟩:=HT.setIn (P':=[(J,.lst [.ref I]),(p,.lst (xs.map V.ref))]) (u':=.dK (dS zs (AV (AV f z (.ref b)) lo.num (.ref b2)))) t7 rfl;have jv:=((dO.ag (.of s7)).put B.nd dj e7).ag p8;have jw:Ah Y (upd H7 sd (.dK (dS zs (AV (AV f z (.ref b)) lo.num (.ref b2))))):=(Ah.of s7).trans p8;generalize upd H7 sd (.dK (dS zs (AV (AV f z (.ref b)) lo.num (.ref b2))))=H8 at t8 p8 jv jw ⊢;have e8:H8 J=some (.lst [.ref I]):=t8.t.rest.hd;walk_at"";refine ⟨.inl ⟨rfl,_,.of e8⟩,?_⟩;walk_at"";refine ⟨Av,λL dk=>?_⟩;have s9:=(Ag.refl H8).upd (o:=.tup [.str "waits",Bk (some lo.num)]) dk;have e9:(upd H8 L (.tup [.str "waits",Bk (some lo.num)])) L=some (.tup [.str "waits",.str lo.num]):=Ai;generalize upd H8 L (.tup [.str "waits",Bk (some lo.num)])=H9 at s9 e9 ⊢;have t9:=t8.same s9;walk_at"";refine ⟨J,_,_,rfl,rfl,s9 _ _ e8,(by show 1<sizeLine;decide),?_⟩;obtain ⟨tA,pA⟩:=t9.cN (o':=.lst ([.ref I]++[.ref L])) rfl;have dm:Ah Y (upd H9 J (.lst ([.ref I]++[.ref L]))):=jw.trans ((Ah.of s9).trans pA);have jx:=pA.t e9;have jy:=(jv.ag (.of s9)).ag pA;generalize upd H9 J (.lst ([.ref I]++[.ref L]))=HA at tA pA dm jx jy ⊢;have jz:HA p=some (.lst (xs.map V.ref)):=tA.t.rest.tl.hd;have nS:HA J=some (.lst ([.ref I]++[.ref L])):=tA.t.rest.hd;rw [eD,bJ] at bZ;have tdA:=bZ.ag dm;obtain ⟨c1,c2,c3,rfl,i1,i2,i3⟩:∃ c1 c2 c3,xs=[c1,c2,c3]/\Is K HA (.ref c1) (.tuple [.str "rests",.str z])/\Is K HA (.ref c2) (.tuple [.str "waits",.str lo.num])/\Is K HA (.ref c3) (.tuple [.str "tone",.str lo.num,.int m,.int kD]):=by
     have td:=tdA.i;cases xs with
     | nil=>cases td
     | cons c1 r=>cases td with
      | cons h1 td=>cases r with
       | nil=>cases td
       | cons c2 r=>cases td with
        | cons h2 td=>cases r with
         | nil=>cases td
         | cons c3 r=>cases td with
          | cons h3 td=>cases r with
           | nil=>exact ⟨c1,c2,c3,rfl,h1,h2,h3⟩
           | cons _ _=>cases td
    walk_at"";refine Tg ⟨p,_,rfl,.of jz,λsa nsa=>?_⟩;rw [show Ed (([c1,c2,c3]:List Addr).map V.ref) none (some 2)=[.ref c1,.ref c2] from rfl];have sB:=(Ag.refl HA).upd (o:=.lst [.ref c1,.ref c2]) nsa;have eB:(upd HA sa (.lst [.ref c1,.ref c2])) sa=some (.lst [.ref c1,.ref c2]):=Ai;generalize upd HA sa (.lst [.ref c1,.ref c2])=HB at sB eB ⊢;have pB:=Ah.of sB;have O:B4 2 (.list [.tuple [.str "rests",.str z],.tuple [.str "waits",.str lo.num]]):=.lst (Cf (.tup (n:=0) (Cf (.str asc) (Ce (.str zk.1)))) (Ce (.tup (n:=0) (Cf (.str asc) (Ce (.str lk))))));walk_at"";refine Tg ⟨_,_,.lst (.of eB) (.cons (Is.ag _ rfl i1 pB) (.cons (Is.ag _ rfl i2 pB) .nil)),.lst (.of (sB _ _ nS)) (.cons (.tup (.of (pB.t (dm.t jg))) (.cons (.str _) (.cons (.str _) .nil))) (.cons (.tup (.of (pB.t jx)) (.cons (.str _) (.cons (.str _) .nil))) .nil)),O.c,O.c,(by have:=O.k;omega),?_⟩;rw [Vi _ O.c];walk_at"";refine Tg ⟨p,_,rfl,.inl (.of (sB _ _ jz)),?_⟩;walk_at"";refine Tw ⟨p,_,2,_,rfl,rfl,.of (sB _ _ jz),rfl,?_⟩;walk_at"";obtain ⟨ts,h3,a3⟩:=Sd (Is.ag _ rfl i3 pB);have dq:=Se a3;subst dq;refine ⟨c3,_,rfl,h3,(by show ¬ (HT.ao 4 0 none=0/\HT.ao 4 4 (some 2)=4);decide),λsc nT=>?_⟩;rw [show Ed [V.str "tone",V.str lo.num,V.int m,V.int kD] none (some 2)=[.str "tone",.str lo.num] from rfl];have sC:=(Ag.refl HB).upd (o:=.tup [.str "tone",.str lo.num]) nT;have eC:(upd HB sc (.tup [.str "tone",.str lo.num])) sc=some (.tup [.str "tone",.str lo.num]):=Ai;generalize upd HB sc (.tup [.str "tone",.str lo.num])=HC at sC eC ⊢;walk_at"";refine ⟨Av,λse nU=>?_⟩;have sD:=(Ag.refl HC).upd (o:=.tup [.str "tone",Bk (some lo.num)]) nU;have eE:(upd HC se (.tup [.str "tone",Bk (some lo.num)])) se=some (.tup [.str "tone",.str lo.num]):=Ai;generalize upd HC se (.tup [.str "tone",Bk (some lo.num)])=HE at sD eE ⊢;have eT:B4 1 (.tuple [.str "tone",.str lo.num]):=.tup (n:=0) (Cf (.str asc) (Ce (.str lk)));walk_at"";refine Tg ⟨_,_,.tup (.of (sD _ _ eC)) (.cons (.str _) (.cons (.str _) .nil)),.tup (.of eE) (.cons (.str _) (.cons (.str _) .nil)),eT.c,eT.c,(by have:=eT.k;omega),?_⟩;rw [Vi _ eT.c];have gG:=sB.trans (sC.trans sD);exact q HE X2 _ _ ⟨(tA.same gG).sub (.cons _ (.cons _ (.refl _))),jy.ag (.of gG),j2,fh,aJ⟩ bA nQ (q6.trans (dm.trans (.of gG)))
def Sg (K:S3)(a:Ak):Sp:=λvs H Q _=>∃(X:HX)(R:AN)(sd:Addr)(zs:List Str)(f:Str->V)(ws:Ws)(i g:Nat)(z y:Str)(d:Int),vs=[.ref X.h,.ref sd,.str z,.str y,.int d]/\GT K a H X sd zs f ws R/\zs[i]?=some z/\zs[g]?=some y/\X.S.dn.length<890000 /\
 ∀ H' X' f' bF,GT K a H' X' sd zs f' bF R->X'.h=X.h->X'.S.dn.length<=X.S.dn.length+40->Ah H H'->Q (.bl true) H'
theorem J.abz {S:PS}{ws:Ws}{i:Nat}{ln:Ln}{o:Option Str}(j:J S ws)(h:S.lns[i]?=some ln)(hw:ws[i]?=some (.calls,o)):∃(k:Nat)(lo:Ln),S.lns[k]?=some lo/\k≠i/\o=some lo.num/\ws[k]?=some (.bh,some ln.num):=by obtain ⟨Y,D,l⟩:=j.l i ln h;rw [hw] at D;cases D;obtain ⟨_,k,lo,hk,L,f1,f2,O⟩:=(j.wf.l i ln h).way (w:=.rings) l.st;obtain ⟨B,V,lk⟩:=j.l k lo hk;refine ⟨k,lo,hk,L,l.ah.symm.trans f1,?_⟩;rw [V];have H:B.1.w=.bh:=Bg.inj (lk.st.symm.trans O);have I:B.2=some ln.num:=lk.ah.symm.trans f2;obtain ⟨x,y⟩:=B;dsimp only at H I;rw [I];cases x<;>first | rfl | cases H
theorem Wj.ne {u v:Wj}(n:u≠v):V.str u.s≠V.str v.s:=λe=>by
 have e:=V.str.inj e;cases u<;>cases v<;>first | exact n rfl | exact absurd e (by decide +kernel)
theorem Wj.get (u:Wj):(Bp [((.inr "calls":Au),V.str "rings"),(.inr "talked",.str "talks")] (.inr u.s)).getD (.str u.s)=V.str u.w.s:=by cases u<;>decide +kernel
theorem Sh:AO ["hall","state","line","goal","draw","way","other","told","word"] ["hall","state","line","goal","draw"] (Ac (top 45)):=.of
theorem HN:Nm (Ac (top 45)) "hall":=.of
theorem Ds:Nm (Ac (top 45)) "state":=.of
theorem Ct:Nm (Ac (top 45)) "line":=.of
theorem E8:Nm (Ac (top 45)) "goal":=.of
theorem Si:Nm (Ac (top 45)) "draw":=.of
theorem HP:Nm (Ac (top 45)) "way":=.of
theorem E9:Nm (Ac (top 45)) "other":=.of
theorem Gg:Nm (Ac (top 45)) "told":=.of
theorem Sj:Nm (Ac (top 45)) "word":=.of
theorem AhF:Gm (Ac (top 45)) "_law_hung":=.of
theorem AhG:Gm (Ac (top 45)) "_law_dial":=.of
theorem AhH (F:AJ K "_law_goes" "_law_goes" (top 45) f fd)(T:TxtG P w K mg a)(fE:AK P w K mg base (AH P w) 9 a.ae "do" ["self","deed"] (Hy K a))(nV:B8 P w K mg base AE 10 "_law_dial" ["hall","line","goal"] (R7 K a))(nX:B8 P w K mg base AE 10 "_law_hung" ["hall","state","line"] (Mw K a)):AB P w K mg base AE 11 f fd ["hall","state","line","goal","draw"] (Sg K a):=by
 refine F.ok Sh λak A outer s H vs Q E hr h=>?_
 .obtain ⟨X,R,sd,zs,f,ws,i,g,z,y,d,rfl,B,hz,hy,dn,q⟩:=h;have hu:=hr.units;have nd:=Sh.nd;have fF:=T.hc.cls;obtain ⟨ln,bj,bJ⟩:=B.line hz;obtain ⟨lg,nY,jA⟩:=B.line hy;have mz:z∈zs:=Tz hz;have my:y∈zs:=Tz hy;obtain ⟨⟨v,o⟩,hw,lk⟩:=B.j.l i ln bj;obtain ⟨⟨vg,og⟩,dJ,lkg⟩:=B.j.l g lg nY;obtain ⟨tt,jt,gD⟩:=B.tj i z _ hz hw;obtain ⟨tg,nZ,htg⟩:=B.tj g y _ hy dJ;have zk:Ok z:=by rw [<- bJ];exact (B.j.wf.g.tx _ (CI bj)).1
  have yk:Ok y:=by rw [<- jA];exact (B.j.wf.g.tx _ (CI nY)).1
  have aC:=B.aC;have ju:H sd=some (.dK (dS zs f)):=B.t.t.rest.hd;have sz:(dS zs f).length<sizeLine:=by unfold dS;rw [Tb,Tc];omega
  have n6:v.hu->Mw K a [V.ref X.h,V.ref sd,V.str z] H Q E0:=λhv=>⟨X,R,sd,zs,f,ws,i,z,v,o,rfl,B,hz,hw,hv,by omega,λH' X' f' bF g eh dl p=>q H' X' f' bF g eh dl p⟩;refine ⟨_,(@Aj _ _ _ _ _ (Ea (CN P w K (Aa 1 Ds) (Aa 2 Ct)) (Ey rfl (B5 (Bo 5 nd HP) (B5 (Bo 6 nd E9) DD))))
    (Aj (AY (AZ (By hu) (Aa 5 HP) Aq (AW _)) (Aj (A8 7 nd Gg (AX fE fF (Aa 0 HN) hr.d DJ (Ab (A2 (Ab Aq (Ab (Aa 2 Ct) Af))) Af)))
     (Aj (Dr (Uv (UL (by decide) _) hu) (Aa 1 Ds) (Aa 2 Ct) (A2 (Ab Aq (Ab BV Af))) rfl)
     (Am (AM (Gv (CZ (By hu) (BC BF (Aa 7 Gg) Az (λ_ _=>rfl)) (A2 (Ab Aq (Ab (Aa 2 Ct) Af))) (AW _)) (Ic (CZ (By hu) (Kr NR (BC BF (Aa 7 Gg) Az (λ_ _=>rfl)) Ko (Kq Az)) (A2 (Ab Aq (Ab (Aa 2 Ct) Af))) (AW _)))))))) A4)
    (Aj (AY (PW.pt (Kf (AZ (By hu) (Aa 5 HP) Aq (AW _)) (Ke (AZ Ik (AR CD (Aa 4 Si) Az) Az (AW _))))) (Aj (A8 7 nd Gg (B9 nV AhG hr.d A5 (Ab (Aa 0 HN) (Ab (Aa 2 Ct) (Ab (Aa 3 E8) Af)))))
     (Aj (AY (AZ (By hu) (BC BF (CN P w K (Aa 1 Ds) (Aa 3 E8)) Az (λ_ _=>rfl)) Aq (AW _)) (Aj (Dr (Uv (UL (by decide) _) hu) (Aa 1 Ds) (Aa 3 E8) (A2 (Ab Aq (Ab (Aa 2 Ct) Af))) rfl)
      (Aj (Dr (Uv (UL (by decide) _) hu) (Aa 1 Ds) (Aa 2 Ct) (A2 (Ab Aq (Ab (Aa 3 E8) Af))) rfl)
      (Am (AM (CZ (By hu) (Aa 7 Gg) (Bx (Ab (A2 (Ab Aq (Ab (Aa 2 Ct) (Ab (Aa 3 E8) Af)))) Af)) (AW _)))))) A4)
     (Aj (A8 8 nd Sj (OL (Uv (UL (by decide) _) hu) (OJ (IS Aq Aq (IS Aq Aq OG)) rfl rfl (by simp) (by decide)) (BC BF (CN P w K (Aa 1 Ds) (Aa 3 E8)) Az (λ_ _=>rfl)) (BC BF (CN P w K (Aa 1 Ds) (Aa 3 E8)) Az (λ_ _=>rfl)) ⟨rfl,rfl,rfl,rfl⟩))
     (Aj (Dr (Uv (UL (by decide) _) hu) (Aa 1 Ds) (Aa 2 Ct) (A2 (Ab Aq (Ab BV Af))) rfl)
     (Am (AM (CZ (By hu) (Aa 7 Gg) (Bx (Ab (A2 (Ab Aq (Ab (Aa 2 Ct) (Ab (A2 (Ab Aq (Ab (Aa 3 E8) (Ab (Aa 8 Sj) Af)))) Af)))) Af)) (AW _)))))))) A4)
    (Aj (AY (AZ (By hu) (Aa 5 HP) Aq (AW _)) (Aj (Dr (Uv (UL (by decide) _) hu) (Aa 1 Ds) (Aa 2 Ct) (A2 (Ab Aq (Ab (Aa 6 E9) Af))) rfl)
     (Aj (Dr (Uv (UL (by decide) _) hu) (Aa 1 Ds) (Aa 6 E9) (A2 (Ab Aq (Ab (Aa 2 Ct) Af))) rfl)
     (Am (AM (CZ (By hu) (AX fE fF (Aa 0 HN) hr.d DJ (Ab (A2 (Ab Aq (Ab (Aa 2 Ct) Af))) Af)) (Bx (Ab (A2 (Ab Aq (Ab (Aa 6 E9) (Ab (Aa 2 Ct) Af)))) Af)) (AW _)))))) A4)
    (Aj (AY (PW.pt (Kf (AZ (By hu) (Aa 5 HP) Aq (AW _)) (Ke (AZ Ik (AR CD (Aa 4 Si) Az) Az (AW _))))) (Aj (Dr (Uv (UL (by decide) _) hu) (Aa 1 Ds) (Aa 6 E9) (A2 (Ab Aq (Ab (Aa 2 Ct) Af))) rfl)
     (Aj (Dr (Uv (UL (by decide) _) hu) (Aa 1 Ds) (Aa 2 Ct) (A2 (Ab Aq (Ab (Aa 6 E9) Af))) rfl)
     (Am (AM (CZ (By hu) (AX fE fF (Aa 0 HN) hr.d DJ (Ab (A2 (Ab Aq (Ab (Aa 6 E9) Af))) Af)) (Bx (Ab (A2 (Ab Aq (Ab (Aa 2 Ct) (Ab (Aa 6 E9) Af)))) Af)) (AW _)))))) A4)
    (Am (AM (B9 nX AhF hr.d A5 (Ab (Aa 0 HN) (Ab (Aa 1 Ds) (Ab (Aa 2 Ct) Af))))))))))),?_⟩
  try dsimp only [aD,aE]
  have bf:start ["hall","state","line","goal","draw","way","other","told","word"] [V.ref X.h,V.ref sd,V.str z,V.str y,V.int d]=[some (.ref X.h),some (.ref sd),some (.str z),some (.str y),some (.int d),none,none,none,none]:=rfl;simp only [bf,Ug,Uh];walk_at"";refine ⟨sd,_,.inr z,_,rfl,rfl,.of ju,(EZ mz).trans (congrArg some jt),?_⟩;walk_at"";refine ⟨tt,_,rfl,.of gD,rfl,?_⟩;simp only [Ug,Uh];walk_at"";by_cases v1:v=.rests
  .subst v1;refine B6 (decide_eq_true rfl) ?_;walk_at"";refine ⟨X.h,X.dx,_,rfl,B.t.t.az,rfl,?_⟩;walk_at"";refine ⟨Av,λdd gE=>?_⟩;have s1:=(Ag.refl H).upd (o:=.tup [.str "lift",.str z]) gE;have e1:(upd H dd (.tup [.str "lift",.str z])) dd=some (.tup (A6.line .lift z).vals):=Ai;generalize upd H dd (.tup [.str "lift",.str z])=H1 at s1 e1 ⊢;dsimp only [BN];obtain ⟨e2,m,d2,S2,rA,j2,dM,cR⟩:=B.j.lift B.s bj hw dd;rw [bJ] at e2 rA;refine FJ (B.t.same s1) B.j.wf zk e1 e2 (by show X.S.dn.length<_;omega) λJ X2 p xs t2 bA bE q2 dG=>?_;rw [rA] at bE dG;have bE:X2.S=S2:=bE;rw [<- bE] at j2 dM cR;have de:Ah H J:=(Ah.of s1).trans q2;simp only [Ug,Uh];walk_at"";refine ⟨Av,λb nb=>?_⟩;have s3:=(Ag.refl J).upd (o:=.tup [.str "dials",.aa]) nb;have e3:(upd J b (.tup [.str "dials",.aa])) b=some (.tup (C9 (.aF,none))):=Ai;generalize upd J b (.tup [.str "dials",.aa])=H3 at s3 e3 ⊢;have t3:=t2.same s3;walk_at"";refine ⟨sd,_,rfl,.inl ⟨_,.inr z,t3.t.rest.tl.hd,rfl,sz,rfl⟩,?_⟩;rw [DR mz];obtain ⟨t4,p4⟩:=HT.setIn (P':=[(p,.lst (xs.map V.ref))]) (u':=.dK (dS zs (AV f z (.ref b)))) t3 rfl;have iu:Ah J (upd H3 sd (.dK (dS zs (AV f z (.ref b))))):=(Ah.of s3).trans p4;have cj:=((B.tj.ag (de.trans (.of s3))).put B.nd hz e3).ag p4;generalize upd H3 sd (.dK (dS zs (AV f z (.ref b))))=L at t4 p4 cj iu ⊢;have kb:L p=some (.lst (xs.map V.ref)):=t4.t.rest.hd;obtain ⟨c1,c2,rfl,i1,i2⟩:∃ c1 c2,xs=[c1,c2]/\Is K L (.ref c1) (.tuple [.str "waits",.str z])/\Is K L (.ref c2) (.tuple [.str "tone",.str z,.int m,.int d2]):=by
    have td:=(dG.ag iu).i;cases xs with
    | nil=>cases td
    | cons c1 r=>cases td with
     | cons h1 td=>cases r with
      | nil=>cases td
      | cons c2 r=>cases td with
       | cons h2 td=>cases r with
        | nil=>exact ⟨c1,c2,rfl,h1,h2⟩
        | cons _ _=>cases td
   walk_at"";refine ⟨Av,λse nU=>?_⟩;have Y:=(Ag.refl L).upd (o:=.tup [.str "waits",.str z]) nU;have e5:(upd L se (.tup [.str "waits",.str z])) se=some (.tup [.str "waits",.str z]):=Ai;generalize upd L se (.tup [.str "waits",.str z])=H5 at Y e5 ⊢;have O:B4 1 (.tuple [.str "waits",.str z]):=.tup (n:=0) (Cf (.str asc) (Ce (.str zk.1)));walk_at"";refine Tg ⟨_,_,Is.ag _ rfl i1 (.of Y),.tup (.of e5) (.cons (.str _) (.cons (.str _) .nil)),O.c,O.c,(by have:=O.k;omega),?_⟩;rw [Vi _ O.c];have hp5:=Y _ _ kb;walk_at"";obtain ⟨ts,h3,a3⟩:=Sd (Is.ag _ rfl i2 (.of Y));have dq:=Se a3;subst dq;refine ⟨c2,_,rfl,h3,(by show ¬ (HT.ao 4 0 none=0/\HT.ao 4 4 (some 2)=4);decide),λsc nT=>?_⟩;rw [show Ed [V.str "tone",V.str z,V.int m,V.int d2] none (some 2)=[.str "tone",.str z] from rfl];have sC:=(Ag.refl H5).upd (o:=.tup [.str "tone",.str z]) nT;have eC:(upd H5 sc (.tup [.str "tone",.str z])) sc=some (.tup [.str "tone",.str z]):=Ai;generalize upd H5 sc (.tup [.str "tone",.str z])=HC at sC eC ⊢;walk_at"";refine ⟨Av,λsf nsf=>?_⟩;have sD:=(Ag.refl HC).upd (o:=.tup [.str "tone",.str z]) nsf;have eE:(upd HC sf (.tup [.str "tone",.str z])) sf=some (.tup [.str "tone",.str z]):=Ai;generalize upd HC sf (.tup [.str "tone",.str z])=HE at sD eE ⊢;have eT:B4 1 (.tuple [.str "tone",.str z]):=.tup (n:=0) (Cf (.str asc) (Ce (.str zk.1)));walk_at"";refine Tg ⟨_,_,.tup (.of (sD _ _ eC)) (.cons (.str _) (.cons (.str _) .nil)),.tup (.of eE) (.cons (.str _) (.cons (.str _) .nil)),eT.c,eT.c,(by have:=eT.k;omega),?_⟩;rw [Vi _ eT.c];have gG:=Y.trans (sC.trans sD);exact q HE X2 _ _ ⟨(t4.same gG).sub (.cons _ (.refl _)),cj.ag (.of gG),j2,B.s.eP dM,dM.num.trans B.zs⟩ bA (by rw [cR,Ul,UH];omega) (de.trans (iu.trans (.of gG)))
  refine BX (decide_eq_false (Wj.ne (v:=.rests) v1)) ?_;walk_at"";by_cases v2:v=.aF
  .subst v2;refine B6 (decide_eq_true rfl) ?_;walk_at"";by_cases d4:d % 4 > 0
   .refine B6 (decide_eq_true d4) ?_;walk_at"";dsimp only [BN];refine ⟨X,_,ws,i,g,ln,lg,o,og,vg,by rw [bJ,jA];rfl,B.t,B.j,B.s,bj,hw,nY,dJ,by omega,λJ X2 p c x t2 bA dM cR q2 ix fin=>?_⟩;have dh:=B.tj.ag q2;have rB:=q2.t htg;have oa:J sd=some (.dK (dS zs f)):=t2.t.rest.tl.hd;have aJ:=dM.num.trans B.zs;have fh:=B.s.eP dM;simp only [Ug,Uh];walk_at"";refine ⟨sd,_,.inr y,_,rfl,rfl,.of oa,(EZ my).trans (congrArg some nZ),?_⟩;walk_at"";refine Tg (Tw ⟨tg,_,0,_,rfl,rfl,.of rB,rfl,?_⟩);walk_at"";by_cases vr:vg=.rests
    .obtain ⟨_,ex,j2⟩:=fin.resolve_right (λz=>z.1 vr);refine B6 (decide_eq_true (by rw [vr];rfl)) ?_;walk_at"";refine ⟨Av,λb nb=>?_⟩;have s3:=(Ag.refl J).upd (o:=.tup [.str "rung",.str z]) nb;have e3:(upd J b (.tup [.str "rung",.str z])) b=some (.tup (C9 (.bh,some ln.num))):=by rw [bJ];exact Ai
     generalize upd J b (.tup [.str "rung",.str z])=H3 at s3 e3 ⊢;have t3:=t2.same s3;walk_at"";refine ⟨sd,_,rfl,.inl ⟨_,.inr y,t3.t.rest.tl.hd,rfl,sz,rfl⟩,?_⟩;rw [DR my];obtain ⟨t4,p4⟩:=HT.setIn (P':=[(p,.lst [.ref c])]) (u':=.dK (dS zs (AV f y (.ref b)))) t3 rfl;have iu:Ah J (upd H3 sd (.dK (dS zs (AV f y (.ref b))))):=(Ah.of s3).trans p4;have cj:=((dh.ag (.of s3)).put B.nd hy e3).ag p4;generalize upd H3 sd (.dK (dS zs (AV f y (.ref b))))=L at t4 p4 cj iu ⊢;walk_at"";refine ⟨Av,λI dN=>?_⟩;have Y:=(Ag.refl L).upd (o:=.tup [.str "calls",.str y]) dN;have e5:(upd L I (.tup [.str "calls",.str y])) I=some (.tup (C9 (.calls,some lg.num))):=by rw [jA];exact Ai
     generalize upd L I (.tup [.str "calls",.str y])=H5 at Y e5 ⊢;have t5:=t4.same Y;walk_at"";refine ⟨sd,_,rfl,.inl ⟨_,.inr z,t5.t.rest.tl.hd,rfl,(by unfold dS;rw [Tb,Tc];omega),rfl⟩,?_⟩;rw [DR mz];obtain ⟨t6,p6⟩:=HT.setIn (P':=[(p,.lst [.ref c])]) (u':=.dK (dS zs (AV (AV f y (.ref b)) z (.ref I)))) t5 rfl;have gH:Ah J (upd H5 sd (.dK (dS zs (AV (AV f y (.ref b)) z (.ref I))))):=iu.trans ((Ah.of Y).trans p6);have dO:=((cj.ag (.of Y)).put B.nd hz e5).ag p6;generalize upd H5 sd (.dK (dS zs (AV (AV f y (.ref b)) z (.ref I))))=H6 at t6 p6 dO gH ⊢;have eR:H6 p=some (.lst [.ref c]):=t6.t.rest.hd;walk_at"";refine ⟨Av,λD cq=>?_⟩;have s7:=(Ag.refl H6).upd (o:=.tup [.str "rings",.str z,.str y]) cq;have e7:(upd H6 D (.tup [.str "rings",.str z,.str y])) D=some (.tup [.str "rings",.str z,.str y]):=Ai;generalize upd H6 D (.tup [.str "rings",.str z,.str y])=H7 at s7 e7 ⊢;walk_at"";refine ⟨Av,λb3 dk=>?_⟩;have s8:=(Ag.refl H7).upd (o:=.lst [.ref D]) dk;have e8:(upd H7 b3 (.lst [.ref D])) b3=some (.lst [.ref D]):=Ai;generalize upd H7 b3 (.lst [.ref D])=H8 at s8 e8 ⊢;have bG:=s7.trans s8;rw [ex,bJ,jA] at ix;have O:B4 2 (.list [.tuple [.str "rings",.str z,.str y]]):=.lst (Ce (.tup (n:=0) (Cf (.str asc) (Cf (.str zk.1) (Ce (.str yk.1))))));walk_at"";refine Tg ⟨_,_,.lst (.of (bG _ _ eR)) (.cons (Is.ag _ rfl ix (gH.trans (.of bG))) .nil),.lst (.of e8) (.cons (.tup (.of (s8 _ _ e7)) (.cons (.str _) (.cons (.str _) (.cons (.str _) .nil)))) .nil),O.c,O.c,(by have:=O.k;omega),?_⟩;rw [Vi _ O.c];exact q H8 X2 _ _ ⟨(t6.same bG).sub (.cons _ (.refl _)),dO.ag (.of bG),j2,fh,aJ⟩ bA (by omega) (q2.trans (gH.trans (.of bG)))
    .obtain ⟨_,ex,j2⟩:=fin.resolve_left (λz=>vr z.1);refine BX (decide_eq_false (Wj.ne (v:=.rests) vr)) ?_;walk_at"";intro wd gI;have s3:=(Ag.refl J).upd (o:=.dK []) gI;have e3:(upd J wd (.dK [])) wd=some (.dK []):=Ai;generalize upd J wd (.dK [])=H3 at s3 e3 ⊢;walk_at"";refine ⟨e3,[(.inr "calls",.str "rings"),(.inr "talked",.str "talks")],rfl,(by show 2<=15;decide),?_⟩;rw [show Ft [] [((.inr "calls":Au),V.str "rings"),(.inr "talked",.str "talks")]=[((.inr "calls":Au),V.str "rings"),(.inr "talked",.str "talks")] from rfl];have nws:wd≠sd:=(BK oa gI).symm;have sY:Ag J (upd H3 wd (.dK [((.inr "calls":Au),V.str "rings"),(.inr "talked",.str "talks")])):=λb ob hb=>by
      rw [Ap (BK hb gI)];exact s3 _ _ hb
     have eY:(upd H3 wd (.dK [((.inr "calls":Au),V.str "rings"),(.inr "talked",.str "talks")])) wd=some (.dK [((.inr "calls":Au),V.str "rings"),(.inr "talked",.str "talks")]):=Ai;generalize upd H3 wd (.dK [((.inr "calls":Au),V.str "rings"),(.inr "talked",.str "talks")])=L at sY eY ⊢;refine ⟨wd,rfl,.inl ⟨_,.inl eY⟩,?_⟩;have rC:=sY _ _ oa;have rD:=sY _ _ rB;walk_at"";refine ⟨sd,_,.inr y,_,rfl,rfl,.of rC,(EZ my).trans (congrArg some nZ),?_⟩;walk_at"";refine Tg (Tw ⟨tg,_,0,_,rfl,rfl,.of rD,rfl,?_⟩);walk_at"";refine ⟨sd,_,.inr y,_,rfl,rfl,.of rC,(EZ my).trans (congrArg some nZ),?_⟩;walk_at"";refine Tg (Tw ⟨tg,_,0,_,rfl,rfl,.of rD,rfl,?_⟩);refine ⟨_,.inl ⟨_,.inr vg.s,.inl eY,rfl,rfl⟩,?_⟩;rw [Wj.get vg];have t4:=t2.same sY;simp only [Ug,Uh];walk_at"";refine ⟨Av,λb nb=>?_⟩;have Y:=(Ag.refl L).upd (o:=.tup [.str "told",.aa]) nb;have e5:(upd L b (.tup [.str "told",.aa])) b=some (.tup (C9 (.told,none))):=Ai;generalize upd L b (.tup [.str "told",.aa])=H5 at Y e5 ⊢;have t5:=t4.same Y;walk_at"";refine ⟨sd,_,rfl,.inl ⟨_,.inr z,t5.t.rest.tl.hd,rfl,sz,rfl⟩,?_⟩;rw [DR mz];obtain ⟨t6,p6⟩:=HT.setIn (P':=[(p,.lst [.ref c])]) (u':=.dK (dS zs (AV f z (.ref b)))) t5 rfl;have gH:Ah J (upd H5 sd (.dK (dS zs (AV f z (.ref b))))):=(Ah.of (sY.trans Y)).trans p6;have dO:=((dh.ag (.of (sY.trans Y))).put B.nd hz e5).ag p6;generalize upd H5 sd (.dK (dS zs (AV f z (.ref b))))=H6 at t6 p6 dO gH ⊢;have eR:H6 p=some (.lst [.ref c]):=t6.t.rest.hd;walk_at"";refine ⟨Av,λI dN=>?_⟩;have s7:=(Ag.refl H6).upd (o:=.tup [.str "line",.str y,.str vg.w.s]) dN;have e7:(upd H6 I (.tup [.str "line",.str y,.str vg.w.s])) I=some (.tup [.str "line",.str y,.str vg.w.s]):=Ai;generalize upd H6 I (.tup [.str "line",.str y,.str vg.w.s])=H7 at s7 e7 ⊢;walk_at"";refine ⟨Av,λD cq=>?_⟩;have s8:=(Ag.refl H7).upd (o:=.tup [.str "busy",.str z,.ref I]) cq;have e8:(upd H7 D (.tup [.str "busy",.str z,.ref I])) D=some (.tup [.str "busy",.str z,.ref I]):=Ai;generalize upd H7 D (.tup [.str "busy",.str z,.ref I])=H8 at s8 e8 ⊢;walk_at"";refine ⟨Av,λb3 dk=>?_⟩;have s9:=(Ag.refl H8).upd (o:=.lst [.ref D]) dk;have e9:(upd H8 b3 (.lst [.ref D])) b3=some (.lst [.ref D]):=Ai;generalize upd H8 b3 (.lst [.ref D])=H9 at s9 e9 ⊢;have dr:=s7.trans (s8.trans s9);rw [ex,bJ,jA] at ix;have O:B4 3 (.list [.tuple [.str "busy",.str z,.tuple [.str "line",.str y,.str vg.w.s]]]):=.lst (Ce (.tup (n:=1) (Cf (.str asc) (Cf (.str zk.1) (Ce (.tup (n:=0) (Cf (.str asc) (Cf (.str yk.1) (Ce (.str (Bg.ok _).1))))))))));walk_at"";refine Tg ⟨_,_,.lst (.of (dr _ _ eR)) (.cons (Is.ag _ rfl ix (gH.trans (.of dr))) .nil),.lst (.of e9) (.cons (.tup (.of (s9 _ _ e8)) (.cons (.str _) (.cons (.str _) (.cons (.tup (.of (s9 _ _ (s8 _ _ e7))) (.cons (.str _) (.cons (.str _) (.cons (.str _) .nil)))) .nil)))) .nil),O.c,O.c,(by have:=O.k;omega),?_⟩;rw [Vi _ O.c];exact q H9 X2 _ _ ⟨(t6.same dr).sub (.cons _ (.refl _)),dO.ag (.of dr),j2,fh,aJ⟩ bA (by omega) (q2.trans (gH.trans (.of dr)))
   .refine BX (decide_eq_false d4) ?_;walk_at"";dsimp only [BN];exact n6 ⟨(λz=>nomatch z),λz=>nomatch z⟩
  .refine BX (decide_eq_false (Wj.ne (v:=.aF) v2)) ?_;walk_at"";by_cases v3:v=.bh
   .subst v3;refine B6 (decide_eq_true rfl) ?_;obtain ⟨k,lo,hk,nk,eo,gA,_⟩:=B.j.nL B.s bj hw 0;subst eo;have dj:zs[k]?=some lo.num:=by rw [<- B.zs,Tp,hk];rfl
    have mk:lo.num∈zs:=Tz dj;have lk':CA lo.num:=(B.j.wf.g.tx _ (CI hk)).1.1;walk_at"";refine ⟨Av,λb nb=>?_⟩;have s1:=(Ag.refl H).upd (o:=.tup [.str "talked",Bk (some lo.num)]) nb;have e1:(upd H b (.tup [.str "talked",Bk (some lo.num)])) b=some (.tup (C9 (.cQ,some lo.num))):=Ai;generalize upd H b (.tup [.str "talked",Bk (some lo.num)])=H1 at s1 e1 ⊢;have t1:=B.t.same s1;walk_at"";refine ⟨sd,_,rfl,.inl ⟨_,.inr z,t1.t.rest.hd,rfl,sz,rfl⟩,?_⟩;rw [DR mz];obtain ⟨t2,p2⟩:=t1.cN (o':=.dK (dS zs (AV f z (.ref b)))) rfl;have de:Ah H (upd H1 sd (.dK (dS zs (AV f z (.ref b))))):=(Ah.of s1).trans p2;have dh:=((B.tj.ag (.of s1)).put B.nd hz e1).ag p2;generalize upd H1 sd (.dK (dS zs (AV f z (.ref b))))=J at t2 p2 dh de ⊢;walk_at"";refine ⟨Av,λI dN=>?_⟩;have s3:=(Ag.refl J).upd (o:=.tup [.str "talks",.str z]) dN;have e3:(upd J I (.tup [.str "talks",.str z])) I=some (.tup (C9 (.aR,some ln.num))):=by rw [bJ];exact Ai
    generalize upd J I (.tup [.str "talks",.str z])=H3 at s3 e3 ⊢;have t3:=t2.same s3;walk_at"";refine ⟨sd,_,rfl,.inl ⟨_,.inr lo.num,t3.t.rest.hd,rfl,(by unfold dS;rw [Tb,Tc];omega),rfl⟩,?_⟩;rw [DR mk];obtain ⟨t4,p4⟩:=t3.cN (o':=.dK (dS zs (AV (AV f z (.ref b)) lo.num (.ref I)))) rfl;have jB:Ah H (upd H3 sd (.dK (dS zs (AV (AV f z (.ref b)) lo.num (.ref I))))):=de.trans ((Ah.of s3).trans p4);have cj:=((dh.ag (.of s3)).put B.nd dj e3).ag p4;generalize upd H3 sd (.dK (dS zs (AV (AV f z (.ref b)) lo.num (.ref I))))=L at t4 p4 cj jB ⊢;walk_at"";refine ⟨X.h,X.dx,_,rfl,t4.t.az,rfl,?_⟩;walk_at"";refine ⟨Av,λdd gE=>?_⟩;have Y:=(Ag.refl L).upd (o:=.tup [.str "lift",.str z]) gE;have e5:(upd L dd (.tup [.str "lift",.str z])) dd=some (.tup (A6.line .lift z).vals):=Ai;generalize upd L dd (.tup [.str "lift",.str z])=H5 at Y e5 ⊢;obtain ⟨k',cf,cH,oe,oh,abA,S',e6,gB,gC,c9,j6⟩:=B.j.nL B.s bj hw dd;obtain ⟨rfl,rfl⟩:=B.j.wf.g.one cH hk (Ts oh).symm;rw [bJ] at e6;dsimp only [BN];refine FJ (t4.same Y) B.j.wf zk e5 e6 (by rw [c9];omega) λH6 X6 p xs t6 eQ aZ q6 bZ=>?_;rw [gB] at aZ bZ;have aZ:X6.S=av S' dd:=aZ;have wl:ws.length=X.S.lns.length:=B.j.len;have j7:=j6 ((ws.set i (.cQ,some cf.num)).set k' (.aR,some ln.num)) (by rw [Td,Td]) (by rw [To oe,T6 (by rw [wl];exact (TH.mp bj).1)]) (by rw [T6 (by rw [Td,wl];exact (TH.mp hk).1)]) (λm n1 n2=>by rw [To (Tu n2),To (Tu n1)]);have eR:H6 p=some (.lst (xs.map V.ref)):=t6.t.rest.hd;walk_at"";refine ⟨Av,λD cq=>?_⟩;have s7:=(Ag.refl H6).upd (o:=.tup [.str "talks",Bk (some cf.num),.str z]) cq;have e7:(upd H6 D (.tup [.str "talks",Bk (some cf.num),.str z])) D=some (.tup [.str "talks",.str cf.num,.str z]):=Ai;generalize upd H6 D (.tup [.str "talks",Bk (some cf.num),.str z])=H7 at s7 e7 ⊢;walk_at"";refine ⟨Av,λb3 dk=>?_⟩;have s8:=(Ag.refl H7).upd (o:=.lst [.ref D]) dk;have e8:(upd H7 b3 (.lst [.ref D])) b3=some (.lst [.ref D]):=Ai;generalize upd H7 b3 (.lst [.ref D])=H8 at s8 e8 ⊢;have bG:=s7.trans s8;have kF:BL K H8 xs [.tuple [.str "talks",.str cf.num,.str z]]:=bZ.ag (.of bG);have O:B4 2 (.list [.tuple [.str "talks",.str cf.num,.str z]]):=.lst (Ce (.tup (n:=0) (Cf (.str asc) (Cf (.str lk') (Ce (.str zk.1))))));walk_at"";refine Tg ⟨_,_,.lst (.of (bG _ _ eR)) kF.i,.lst (.of e8) (.cons (.tup (.of (s8 _ _ e7)) (.cons (.str _) (.cons (.str _) (.cons (.str _) .nil)))) .nil),O.c,O.c,(by have:=O.k;omega),?_⟩;rw [Vi _ O.c];have jC:Ah L H8:=(Ah.of Y).trans (q6.trans (.of bG));exact q H8 X6 _ _ ⟨(t6.same bG).sub (.cons _ (.refl _)),cj.ag jC,by rw [aZ];exact j7,by rw [aZ];exact B.s.eP gC,by rw [aZ];exact gC.num.trans B.zs⟩ eQ (by rw [aZ];show (S'.dn++[V.ref dd]).length<=_;rw [c9,Ul,UH];omega) (jB.trans jC)
   refine BX (decide_eq_false (Wj.ne (v:=.bh) v3)) ?_;walk_at"";by_cases v4:v=.calls
   .subst v4;refine B6 (decide_eq_true rfl) ?_;walk_at"";by_cases d4:d % 4 > 1
    .refine B6 (decide_eq_true d4) ?_;obtain ⟨k,lo,hk,nk,eo,gA⟩:=B.j.abz bj hw;subst eo;have dj:zs[k]?=some lo.num:=by rw [<- B.zs,Tp,hk];rfl
     have mk:lo.num∈zs:=Tz dj;have rE:=(B.j.wf.g.tx _ (CI hk)).1;walk_at"";refine ⟨Av,λb nb=>?_⟩;have s1:=(Ag.refl H).upd (o:=.tup [.str "talked",.str z]) nb;have e1:(upd H b (.tup [.str "talked",.str z])) b=some (.tup (C9 (.cQ,some ln.num))):=by rw [bJ];exact Ai
     generalize upd H b (.tup [.str "talked",.str z])=H1 at s1 e1 ⊢;have t1:=B.t.same s1;walk_at"";refine ⟨sd,_,rfl,.inl ⟨_,.inr lo.num,t1.t.rest.hd,rfl,sz,rfl⟩,?_⟩;rw [DR mk];obtain ⟨t2,p2⟩:=t1.cN (o':=.dK (dS zs (AV f lo.num (.ref b)))) rfl;have de:Ah H (upd H1 sd (.dK (dS zs (AV f lo.num (.ref b))))):=(Ah.of s1).trans p2;have dh:=((B.tj.ag (.of s1)).put B.nd dj e1).ag p2;generalize upd H1 sd (.dK (dS zs (AV f lo.num (.ref b))))=J at t2 p2 dh de ⊢;walk_at"";refine ⟨Av,λI dN=>?_⟩;have s3:=(Ag.refl J).upd (o:=.tup [.str "talks",Bk (some lo.num)]) dN;have e3:(upd J I (.tup [.str "talks",Bk (some lo.num)])) I=some (.tup (C9 (.aR,some lo.num))):=Ai;generalize upd J I (.tup [.str "talks",Bk (some lo.num)])=H3 at s3 e3 ⊢;have t3:=t2.same s3;walk_at"";refine ⟨sd,_,rfl,.inl ⟨_,.inr z,t3.t.rest.hd,rfl,(by unfold dS;rw [Tb,Tc];omega),rfl⟩,?_⟩;rw [DR mz];obtain ⟨t4,p4⟩:=t3.cN (o':=.dK (dS zs (AV (AV f lo.num (.ref b)) z (.ref I)))) rfl;have jB:Ah H (upd H3 sd (.dK (dS zs (AV (AV f lo.num (.ref b)) z (.ref I))))):=de.trans ((Ah.of s3).trans p4);have cj:=((dh.ag (.of s3)).put B.nd hz e3).ag p4;generalize upd H3 sd (.dK (dS zs (AV (AV f lo.num (.ref b)) z (.ref I))))=L at t4 p4 cj jB ⊢;walk_at"";refine ⟨X.h,X.dx,_,rfl,t4.t.az,rfl,?_⟩;walk_at"";refine ⟨Av,λdd gE=>?_⟩;have Y:=(Ag.refl L).upd (o:=.tup [.str "lift",Bk (some lo.num)]) gE;have e5:(upd L dd (.tup [.str "lift",Bk (some lo.num)])) dd=some (.tup (A6.line .lift lo.num).vals):=Ai;generalize upd L dd (.tup [.str "lift",Bk (some lo.num)])=H5 at Y e5 ⊢;obtain ⟨k',cf,cH,oe,oh,abA,S',e6,gB,gC,c9,j6⟩:=B.j.nL B.s hk gA dd;obtain ⟨rfl,rfl⟩:=B.j.wf.g.one cH bj (Ts oh).symm;dsimp only [BN];refine FJ (t4.same Y) B.j.wf rE e5 e6 (by rw [c9];omega) λH6 X6 p xs t6 eQ aZ q6 bZ=>?_;rw [gB] at aZ bZ;have aZ:X6.S=av S' dd:=aZ;have wl:ws.length=X.S.lns.length:=B.j.len;have j7:=j6 ((ws.set k (.cQ,some cf.num)).set k' (.aR,some lo.num)) (by rw [Td,Td]) (by rw [To oe,T6 (by rw [wl];exact (TH.mp hk).1)]) (by rw [T6 (by rw [Td,wl];exact (TH.mp cH).1)]) (λm n1 n2=>by rw [To (Tu n2),To (Tu n1)]);have eR:H6 p=some (.lst (xs.map V.ref)):=t6.t.rest.hd;walk_at"";refine ⟨Av,λD cq=>?_⟩;have s7:=(Ag.refl H6).upd (o:=.tup [.str "talks",.str z,Bk (some lo.num)]) cq;have e7:(upd H6 D (.tup [.str "talks",.str z,Bk (some lo.num)])) D=some (.tup [.str "talks",.str z,.str lo.num]):=Ai;generalize upd H6 D (.tup [.str "talks",.str z,Bk (some lo.num)])=H7 at s7 e7 ⊢;walk_at"";refine ⟨Av,λb3 dk=>?_⟩;have s8:=(Ag.refl H7).upd (o:=.lst [.ref D]) dk;have e8:(upd H7 b3 (.lst [.ref D])) b3=some (.lst [.ref D]):=Ai;generalize upd H7 b3 (.lst [.ref D])=H8 at s8 e8 ⊢;have bG:=s7.trans s8;have kF:BL K H8 xs [.tuple [.str "talks",.str cf.num,.str lo.num]]:=bZ.ag (.of bG);rw [bJ] at kF;have O:B4 2 (.list [.tuple [.str "talks",.str z,.str lo.num]]):=.lst (Ce (.tup (n:=0) (Cf (.str asc) (Cf (.str zk.1) (Ce (.str rE.1))))));walk_at"";refine Tg ⟨_,_,.lst (.of (bG _ _ eR)) kF.i,.lst (.of e8) (.cons (.tup (.of (s8 _ _ e7)) (.cons (.str _) (.cons (.str _) (.cons (.str _) .nil)))) .nil),O.c,O.c,(by have:=O.k;omega),?_⟩;rw [Vi _ O.c];have jC:Ah L H8:=(Ah.of Y).trans (q6.trans (.of bG));exact q H8 X6 _ _ ⟨(t6.same bG).sub (.cons _ (.refl _)),cj.ag jC,by rw [aZ];exact j7,by rw [aZ];exact B.s.eP gC,by rw [aZ];exact gC.num.trans B.zs⟩ eQ (by rw [aZ];show (S'.dn++[V.ref dd]).length<=_;rw [c9,Ul,UH];omega) (jB.trans jC)
    .refine BX (decide_eq_false d4) ?_;walk_at"";dsimp only [BN];exact n6 ⟨(λz=>nomatch z),λz=>nomatch z⟩
   .refine BX (decide_eq_false (Wj.ne (v:=.calls) v4)) ?_;walk_at"";dsimp only [BN];exact n6 ⟨v1,v3⟩
theorem Ah.back {H B:Hp}{r:Addr}{u v:HO}(h:H r=some u)(k:F6 u=false)(s:Ah H B):Ah H (upd B r v):=⟨λb D i e=>by
 rw [Ap (λz=>by rw [z,h] at e;rw [<- Ts e,k] at i;cases i)];exact s.f _ _ i e⟩
def Sl (K:S3)(a:Ak):Sp:=λvs H Q _=>∃(X:HX)(R:AN)(sd:Addr)(zs:List Str)(f:Str->V)(ws:Ws),vs=[.ref X.h,.ref sd]/\GT K a H X sd zs f ws R /\
 ∀ H',GT K a H' X sd zs f ws R->Ah H H'->Q (.bl true) H'
def Dc:List (Au×V):=[((.inr "calls":Au),V.str "rings"),(.inr "talked",.str "talks")]
structure Hd (zs:List Str)(ws:Ws)(n:Nat)(L:List Str):Prop where
 nd:L.Nodup
 m:∀ y,y∈L↔∃(k:Nat)(w:Wj×Option Str),k<n/\zs[k]?=some y/\ws[k]?=some w/\w.1.hold=true
theorem Wj.oi (v:Wj):C4 (.str v.s) [V.str "dials",.str "calls",.str "talks"]=v.hold:=by cases v<;>decide +kernel
theorem Hd.yes {zs:List Str}{ws:Ws}{n:Nat}{L:List Str}{z:Str}{w:Wj×Option Str}(h:Hd zs ws n L)(nd:zs.Nodup)(B:zs[n]?=some z)(hw:ws[n]?=some w)(H:w.1.hold=true):Hd zs ws (n+1) (L++[z]):=by
 refine ⟨?_,λy=>?_⟩
 .refine JS h.nd λm=>?_;obtain ⟨k,_,lt,hk,_⟩:=(h.m z).mp m;exact Dz nd hk B (by omega) rfl
 .rw [Ut,h.m,TX];constructor
  .rintro (⟨k,u,lt,r⟩ | rfl)
   .exact ⟨k,u,by omega,r⟩
   .exact ⟨n,w,by omega,B,hw,H⟩
  .rintro ⟨k,u,lt,D,I,J⟩;by_cases c:k=n
   .subst c;rw [B] at D;exact .inr (Ts D).symm
   .exact .inl ⟨k,u,by omega,D,I,J⟩
theorem Hd.no {zs:List Str}{ws:Ws}{n:Nat}{L:List Str}{w:Wj×Option Str}(h:Hd zs ws n L)(hw:ws[n]?=some w)(H:w.1.hold=false):Hd zs ws (n+1) L:=by
 refine ⟨h.nd,λy=>?_⟩;rw [h.m];constructor
 .rintro ⟨k,u,lt,r⟩;exact ⟨k,u,by omega,r⟩
 .rintro ⟨k,u,lt,I,B,D⟩;by_cases c:k=n
  .subst c;rw [hw] at B;cases B;rw [H] at D;cases D
  .exact ⟨k,u,by omega,I,B,D⟩
theorem Hd.len {zs:List Str}{ws:Ws}{n:Nat}{L:List Str}(h:Hd zs ws n L):L.length<=zs.length:=JR h.nd λy m=>by
 obtain ⟨k,_,_,hk,_⟩:=(h.m y).mp m;exact Tz hk
theorem AhI {H:Hp}{xs:List Addr}{ps:List (Str×Int)}(h:CP H xs ps)(n:ps≠[]):xs≠[]:=λe=>by
 subst e;cases ps with
 | nil=>exact n rfl
 | cons _ _=>exact h
theorem Sn {S:PS}{i:Nat}{ln:Ln}(w:WF S)(h:S.lns[i]?=some ln):∀ p∈ln.held,CA p.1:=λp m=>by
 have o:=(w.l i ln h).ow p m;unfold AU BI at o;by_cases c:p.1=S9 ""
 .rw [c];exact λc m=>nomatch (show c∈([]:List Nat) from m)
 .rw [if_neg c] at o;cases e:BM S p.1 with
  | none=>rw [e] at o;cases o
  | some g=>rw [<- (Hz e).2];exact (w.g.px g (Hz e).1).1
def Fb (ps:List (Str×Int)):PyData:=.list (ps.map λp=>.tuple [.str p.1,.int p.2])
theorem Mx {K:S3}{H:Hp}:∀{xs:List Addr}{ps:List (Str×Int)},CP H xs ps->aS K H (xs.map V.ref) (ps.map λp=>.tuple [.str p.1,.int p.2])
 | [],[],_=>.nil
 | [],_ :: _,h=>h.elim
 | _ :: _,[],h=>h.elim
 | _ :: _,_ :: _,h=>.cons (.tup (.of h.1) (.cons (.str _) (.cons (.int _) .nil))) (Mx h.2)
theorem So {ps:List (Str×Int)}(h:∀ p∈ps,CA p.1):B4 2 (Fb ps):=.lst λd m=>by
 obtain ⟨p,B,rfl⟩:=Tr.mp m;exact .tup (n:=0) (Cf (.str (h p B)) (Ce (.int _)))
theorem Sq (ps:List (Str×Int)):Wn (Fb ps) (.list [])=decide (ps=[]):=by
 cases ps with
 | nil=>rfl
 | cons p ps=>rw [decide_eq_false (Zk _ _)];rfl
theorem My {K:S3}{H:Hp}:∀ zs:List Str,aS K H (zs.map V.str) (zs.map PyData.str)
 | []=>.nil
 | z :: zs=>.cons (.str z) (My zs)
structure DS (S:PS)(n:Nat)(M:List Str):Prop where
 nd:M.Nodup
 m:∀ y,y∈M↔∃(k i:Nat)(ln:Ln),k<n/\S.sk.hs[k]?=some (.int i)/\S.lns[i]?=some ln/\ln.num=y
section
variable {S:PS}{ws:Ws}{n i k:Nat}{M:List Str}{ln:Ln}
theorem J.seek (j:J S ws)(hk:S.sk.hs[k]?=some (.int i))(h:S.lns[i]?=some ln):(S9 "",(k:Int))∈ln.held:=by
 have o:AU S (S9 "",(k:Int))=some (.int i):=by show (if (0:Int)<=k then S.sk.hs[(k:Int).toNat]? else none)=_;rw [if_pos (Xe k),Vq];exact hk
 obtain ⟨m,I,B,D⟩:=(j.cv _ _ o).resolve_left (λz=>nomatch z);have H:=(j.wf.l m I B).ow _ D;rw [o] at H;have e:V.int (i:Int)=V.int (m:Int):=Ts H;have e:(i:Int)=m:=V.int.inj e;obtain rfl:i=m:=by omega
 rw [h] at B;cases B;exact D
theorem DS.no (s:DS S n M)(hk:S.sk.hs[n]?=some .aa):DS S (n+1) M:=by
 refine ⟨s.nd,λy=>?_⟩;rw [s.m];constructor
 .rintro ⟨k,r⟩;obtain ⟨i,ln,lt,r⟩:=r;exact ⟨k,i,ln,by omega,r⟩
 .rintro ⟨k,i,ln,lt,B,r⟩;by_cases c:k=n
  .subst c;rw [hk] at B;cases B
  .exact ⟨k,i,ln,by omega,B,r⟩
theorem DS.yes (s:DS S n M)(j:J S ws)(hk:S.sk.hs[n]?=some (.int i))(h:S.lns[i]?=some ln):DS S (n+1) (M++[ln.num]):=by
 refine ⟨JS s.nd λm=>?_,λy=>?_⟩
 .obtain ⟨k,B,I,lt,D,H,L⟩:=(s.m _).mp m;obtain ⟨rfl,rfl⟩:=j.wf.g.one H h L;have:=j.one _ _ h _ _ (j.seek D h) (j.seek hk h);omega
 .rw [Ut,s.m,TX];constructor
  .rintro (⟨k,B,I,lt,r⟩ | rfl)
   .exact ⟨k,B,I,by omega,r⟩
   .exact ⟨n,i,ln,by omega,hk,h,rfl⟩
  .rintro ⟨k,B,I,lt,D,H,L⟩;by_cases c:k=n
   .subst c;rw [hk] at D;have e:V.int (i:Int)=V.int (B:Int):=Ts D;have e:(i:Int)=B:=V.int.inj e;obtain rfl:i=B:=by omega
    rw [h] at H;cases H;exact .inr L.symm
   .exact .inl ⟨k,B,I,by omega,D,H,L⟩
theorem DS.perm {zs L:List Str}(s:DS S S.sk.hs.length M)(j:J S ws)(V:S.lns.map (·.num)=zs)(h:Hd zs ws zs.length L):M.Perm L:=by
 refine (tN s.nd h.nd).mpr λy=>?_;rw [s.m,h.m];constructor
 .rintro ⟨k,i,ln,_,Y,D,rfl⟩;obtain ⟨w,hw,lk⟩:=j.l i ln D;have B:zs[i]?=some ln.num:=by rw [<- V,Tp,D];rfl
  refine ⟨i,w,(TH.mp B).1,B,hw,?_⟩;cases e:w.1.hold with
  | true=>rfl
  | false =>
   have m:=j.seek Y D;rw [lk.no e] at m;cases m
 .rintro ⟨i,w,_,B,hw,hh⟩;obtain ⟨ln,H,lk⟩:=j.at hw;have en:ln.num=y:=by
   rw [<- V,Tp,H] at B;exact Ts B
  obtain ⟨k,mk⟩:∃ k,(S9 "",k)∈ln.held:=by
   rcases Wj.jo hh with e | e
   .obtain ⟨⟨k,e⟩,_⟩:=lk.di e;exact ⟨k,by rw [e];exact T9⟩
   .obtain ⟨k,_,_,e,_⟩:=lk.ca e;exact ⟨k,by rw [e];exact T9⟩
  have o:=(j.wf.l i ln H).ow _ mk;have I:=Mn o;have O:(if (0:Int)<=k then S.sk.hs[k.toNat]? else none)=some (.int i):=o;have I:(0:Int)<=k:=I;rw [if_pos I] at O;exact ⟨k.toNat,i,ln,(TH.mp O).1,O,H,en⟩
theorem DS.len {zs:List Str}(s:DS S n M)(B:S.lns.map (·.num)=zs):M.length<=zs.length:=JR s.nd λy m=>by
 obtain ⟨_,i,ln,_,_,D,rfl⟩:=(s.m y).mp m;rw [<- B];exact CI D
theorem AhJ (js:∀ b∈S.sk.js,b=false){v:V}(h:(FE S (S9 "") (S.sk.hs,S.sk.js,S.sk.ts))[n]?=some v)(J:Ga S):(S.sk.hs[n]?=some .aa/\v=.str "free")\/∃(i:Nat)(ln:Ln),S.sk.hs[n]?=some (.int i)/\S.lns[i]?=some ln/\v=.str ln.num:=by
 unfold FE Cq at h;rw [Tp] at h;obtain ⟨k,hk,e⟩:=UD.mp h;have B:=(TH.mp hk).1;rw [Vd] at B;rw [List.getElem?_range B] at hk;cases hk;dsimp only at B e;have D:S.sk.hs[n]?=some S.sk.hs[n]:=TC B;rw [if_pos rfl,Uc,Tp,D] at e;dsimp only [US,tF] at e;rcases J _ (Wq B) with z | ⟨i,z,L⟩
 .rw [z] at D e;have O:S.sk.js.getD n false=false:=by
   rw [Uc];cases q:S.sk.js[n]? with
   | none=>rfl
   | some b=>exact js b (Tz q)
  rw [if_pos (show Eo S V.aa=V.aa from rfl),if_neg (by show ¬ (S.sk.js.getD n false=true);rw [O];exact T7)] at e;exact .inl ⟨D,e.symm⟩
 .rw [z] at D e;have H:S.lns[i]?=some S.lns[i]:=TC L;have I:Eo S (.int i)=.str S.lns[i].num:=by
   show (match S.lns[(i:Int).toNat]? with | none=>V.aa | some ln=>V.str ln.num)=_;rw [Vq,H]
  rw [if_neg (by show ¬ Eo S (.int i)=.aa;rw [I];exact λz=>nomatch z)] at e;exact .inr ⟨i,S.lns[i],D,H,by rw [<- I];exact e.symm⟩
end
theorem Sr:AO ["hall","state","words","held","line","way","other"] ["hall","state"] (Ac (top 44)):=.of
theorem HQ:Nm (Ac (top 44)) "hall":=.of
theorem Ss:Nm (Ac (top 44)) "state":=.of
theorem Su:Nm (Ac (top 44)) "words":=.of
theorem Mz:Nm (Ac (top 44)) "held":=.of
theorem Gh:Nm (Ac (top 44)) "line":=.of
theorem HR:Nm (Ac (top 44)) "way":=.of
theorem Sv:Nm (Ac (top 44)) "other":=.of
theorem Sw:Gm (Ac (top 44)) "sorted":=.of
def Sx:Scope:={ kind:=.function,names:=[(".0",.local),("who",.local)],isGenerator:=false,isCoroutine:=false,more:=[] }
theorem Sy:Bu Sx (Ac (top 44)) ["who"] ["hall","state","words","held","line","way","other"] [none]:=Bu.mk' rfl (by decide +kernel) (by decide +kernel) (by decide +kernel) (by decide +kernel) rfl (by decide +kernel)
theorem MA:Nm Sx "who":=.of
theorem AhK (F:AJ K "_law_seen" "_law_seen" (top 44) f fd)(T:TxtG P w K mg a)(abB:AK P w K mg base (AH P w) 2 a.ae "way" ["self","line"] (JN K a λx=>.str x.l.st))(abC:AK P w K mg base (AH P w) 2 a.ae "other" ["self","line"] (JN K a λx=>Bk x.l.ah))(abD:AK P w K mg base (AH P w) 2 a.ae "holds" ["self","line"] (Rx K a))(m5:AK P w K mg base (AH P w) 2 a.ae "paper" ["self","where"] (Rz K a))(abE:AK P w K mg base AE 1 a.ae "waiting" ["self"] (Ry K a λX=>X.q.map V.str)):AB P w K mg base AE 3 f fd ["hall","state"] (Sl K a):=by
 refine F.ok Sr λak A outer s H vs Q E hr h=>?_
 .obtain ⟨X,R,sd,zs,f,ws,rfl,B,q⟩:=h;have hu:=hr.units;have nd:=Sr.nd;have abF:=T.hc.cls;have abG:=T.hc.cls;have abH:=T.hc.cls;have m6:=T.hc.cls;have abI:=T.hc.cls;have aC:=B.aC;have ju:H sd=some (.dK (dS zs f)):=B.t.t.rest.hd;refine ⟨_,(@Aj _ _ _ _ _ (A8 2 nd Su (OJ (IS Aq Aq (IS Aq Aq OG)) rfl rfl (by simp) (by decide)))
    (Aj (A8 3 nd Mz (Bx Af))
    (Aj (Ad9 Vx rfl (Aa 1 Ss) (Bo 4 nd Gh) (Aj (Ea (CN P w K (Aa 1 Ss) (Aa 4 Gh)) (Ey rfl (B5 (Bo 5 nd HR) (B5 (Bo 6 nd Sv) DD))))
     (Aj (AY (PW.pt (Gu (AZ (EF hu) (AX abB abF (Aa 0 HQ) hr.d DJ (Ab (Aa 4 Gh) Af)) (OL (Uv (UL (by decide) _) hu) (Aa 2 Su) (Aa 5 HR) (Aa 5 HR) ⟨rfl,rfl,rfl,rfl⟩) (AW _)) (Gs (AZ (EF hu) (AX abC abG (Aa 0 HQ) hr.d DJ (Ab (Aa 4 Gh) Af)) (Aa 6 Sv) (AW _))))) (Am (AM Ew)) A4)
     (Aj (AY (AZ IA (Aa 5 HR) (A2 (Ab Aq (Ab Aq (Ab Aq Af)))) (by with_unfolding_all rfl)) (Am (Bj (De UT U9 Va Dp (Aa 3 Mz) (Ab (Aa 4 Gh) Af)))) A4)
     (Am (AY (AZ (EF hu) (CZ (By hu) (AX abD abH (Aa 0 HQ) hr.d DJ (Ab (Aa 4 Gh) Af)) (Bx Af) (AW _)) (CZ Og (Aa 5 HR) (A2 (Ab Aq (Ab Aq (Ab Aq Af)))) (by with_unfolding_all rfl)) (AW _)) (Am (AM Ew)) A4))))))
    (Am (AM (Gv (CZ (By hu) (BH GY Sw T.f9 FY (Ab (FZ rfl Sy (Nd (AX m5 m6 (Aa 0 HQ) hr.d DJ (Ab Aq Af))) (λcl C fp pins s₂ H₂=>(Bo 0 Sy.nd MA.comp)) (λcl C fp pins s₂ H₂=>(Oj (AZ (AcV K rfl hu) (Aa 0 MA.comp) Aq (AW _)))) (λcl C fp pins s₂ H₂=>(Aa 0 MA.comp))) Af)) (BH GY Sw T.f9 FY (Ab (Aa 3 Mz) Af)) (AW _)) (Ic (CZ (By hu) (GU abE abI (Aa 0 HQ) hr.d A5) (Bx Af) (AW _))))))))),?_⟩
  try dsimp only [aD,aE]
  have bf:start ["hall","state","words","held","line","way","other"] [V.ref X.h,V.ref sd]=[some (.ref X.h),some (.ref sd),none,none,none,none,none]:=rfl;simp only [bf,Ug,Uh];walk_at"";intro O gI;have s1:=(Ag.refl H).upd (o:=.dK []) gI;have e1:(upd H O (.dK [])) O=some (.dK []):=Ai;generalize upd H O (.dK [])=H1 at s1 e1 ⊢;walk_at"";refine ⟨e1,Dc,rfl,(by show 2<=15;decide),?_⟩;rw [show Ft [] Dc=Dc from rfl];have sY:Ag H (upd H1 O (.dK Dc)):=λb ob hb=>by
   rw [Ap (BK hb gI)];exact s1 _ _ hb
  have eY:(upd H1 O (.dK Dc)) O=some (.dK Dc):=Ai;generalize upd H1 O (.dK Dc)=H2 at sY eY ⊢;have t2:HT K a H2 X ((O,.dK Dc) :: (sd,.dK (dS zs f)) :: R):=by
   have t:=B.t.t;refine ⟨?_,B.t.ok.ag (.of sY)⟩;have t':At H2 ((O,.dK Dc) :: A3 a X ((sd,.dK (dS zs f)) :: R)):=⟨λc m=>by
    rcases Tq.mp m with rfl | m
    .exact eY
    .exact (t.same sY).at_ c m,TV.mpr ⟨t.free gI,t.nd⟩⟩
   rw [HK] at t' ⊢;exact At.swap (P:=[_]) t'
  walk_at"";refine ⟨Av,λhl rF=>?_⟩;have t3:=t2.new (u:=.lst []) rF;have s3:=(Ag.refl H2).upd (o:=.lst []) rF;generalize upd H2 hl (.lst [])=H3 at s3 t3 ⊢;have rG:H3 sd=some (.dK (dS zs f)):=t3.t.rest.tl.tl.hd;simp only [Ug,Uh];walk_at"";refine ⟨sd,_,rfl,rG,λo nf=>?_⟩;obtain ⟨tf,pf⟩:=HT.setIn (P':=[(hl,.lst []),(O,.dK Dc)]) (u':=.aM o (.dK (dS zs f))) t3 rfl;have rH:Ah H (upd H3 sd (.aM o (.dK (dS zs f)))):=(Ah.of (sY.trans s3)).trans pf;generalize upd H3 sd (.aM o (.dK (dS zs f)))=Hf at tf pf rH ⊢;clear t2 t3 rG s3 sY eY pf e1 s1
  refine Aea (o:=o) (a:=sd) (kvs:=dS zs f) (λi σ H4=>∃(L:List Str)(x4 x5 x6:Option V),σ=[some (.ref X.h),some (.ref sd),some (.ref O),some (.ref hl),x4,x5,x6]/\HT K a H4 X ((hl,.lst (L.map V.str)) :: (O,.dK Dc) :: (sd,.aM o (.dK (dS zs f))) :: R)/\Ah H H4/\Hd zs ws i L) ⟨[],none,none,none,rfl,tf,rH,⟨.nil,λy=>⟨(λm=>nomatch m),λ⟨k,_,lt,_⟩=>absurd lt (XM k)⟩⟩⟩ (λi σ H4 ⟨_,_,_,_,_,t,_⟩=>t.t.rest.tl.tl.hd) ?_ ?_
  .rintro i p σ H4 hp ⟨L,x4,x5,x6,rfl,t4,p4,hd⟩;unfold dS at hp;rw [Tp] at hp;obtain ⟨z,hz,rfl⟩:=UD.mp hp;obtain ⟨ln,bj,bJ⟩:=B.line hz;obtain ⟨⟨v,og⟩,hw,lk⟩:=B.j.l i ln bj;obtain ⟨tt,jt,gD⟩:=(B.tj.ag p4) i z _ hz hw;have mz:z∈zs:=Tz hz;have zk:Ok z:=by rw [<- bJ];exact (B.j.wf.g.tx _ (CI bj)).1
   have rJ:H4 sd=some (.aM o (.dK (dS zs f))):=t4.t.rest.tl.tl.hd;have om:H4 O=some (.dK Dc):=t4.t.rest.tl.hd;have bq:∀(I:Nat)(x:LX),X.lines[I]?=some x->x.l.num=z->x.l=ln:=λI x h1 h2=>by
    have h3:X.S.lns[I]?=some x.l:=by show (X.lines.map (·.l))[I]?=_;rw [Tp,h1];rfl
    exact (B.j.wf.g.one h3 bj (h2.trans bJ.symm)).2
   have there:¬ z ∉ X.lines.map (·.l.num):=λn=>n (by
    have:=CI bj;rw [bJ] at this;have e:X.S.lns.map (·.num)=X.lines.map (·.l.num):=by show (X.lines.map (·.l)).map (·.num)=_;rw [TL];rfl
    rw [<- e];exact this)
   walk_at"";refine ⟨sd,_,.inr z,_,rfl,rfl,.inl (.inr ⟨o,rJ⟩),(EZ mz).trans (congrArg some jt),?_⟩;walk_at"";refine ⟨tt,_,rfl,.of gD,rfl,?_⟩;simp only [Ug,Uh];walk_at"";refine ⟨X.h,X.dx,_,rfl,t4.t.az,rfl,?_⟩;walk_at"";refine ⟨X,_,z,rfl,t4,zk,λI x hx ex=>?_,λn=>absurd n there⟩;rw [show (λx:LX=>V.str x.l.st) x=V.str v.w.s from by show V.str x.l.st=_;rw [bq I x hx ex,lk.st]];walk_at"";refine ⟨.inl ⟨_,.inl om⟩,?_⟩;walk_at"";refine ⟨_,.inl ⟨_,.inr v.s,.inl om,rfl,rfl⟩,?_⟩;rw [show (Bp Dc (.inr v.s)).getD (V.str (v,og).fst.s)=V.str v.w.s from Wj.get v];refine Tw ⟨rfl,?_⟩;rw [decide_eq_true rfl];walk_at"";refine ⟨X.h,X.dx,_,rfl,t4.t.az,rfl,?_⟩;walk_at"";refine ⟨X,_,z,rfl,t4,zk,λI x hx ex=>?_,λn=>absurd n there⟩;rw [show (λx:LX=>Bk x.l.ah) x=Bk og from by show Bk x.l.ah=_;rw [bq I x hx ex,lk.ah]];walk_at"";refine Tw ⟨by cases og<;>rfl,?_⟩;rw [decide_eq_true rfl];walk_at"";refine ⟨Av,λb nb=>?_⟩;have s5:=(Ag.refl H4).upd (o:=.tup [.str "dials",.str "calls",.str "talks"]) nb;have e5:(upd H4 b (.tup [.str "dials",.str "calls",.str "talks"])) b=some (.tup [.str "dials",.str "calls",.str "talks"]):=Ai;generalize upd H4 b (.tup [.str "dials",.str "calls",.str "talks"])=H5 at s5 e5 ⊢;walk_at"";refine Tg ⟨b,_,rfl,.inr (.of e5),rfl,rfl,?_⟩;rw [show (if false=true then !C4 (V.str (v,og).fst.s) [V.str "dials",.str "calls",.str "talks"] else C4 (V.str (v,og).fst.s) [V.str "dials",.str "calls",.str "talks"])=v.hold from Wj.oi v];have t5:=t4.same s5;have p5:Ah H H5:=p4.trans (.of s5);have ll:=hd.len;clear e5 s5
   walk_at"";cases hh:v.hold with
   | true =>
    refine B6 rfl ?_;have gJ:H5 hl=some (.lst (L.map V.str)):=t5.t.rest.hd;walk_at"";refine ⟨.inl ⟨rfl,_,.of gJ⟩,?_⟩;walk_at"";refine ⟨hl,_,_,rfl,rfl,gJ,(by rw [Tb,Tc];omega),?_⟩;obtain ⟨Y,p6⟩:=t5.cN (o':=.lst (L.map V.str++[kV (.inr z)])) rfl;have kG:=p5.trans p6;have jD:=hd.yes B.nd hz hw hh;generalize upd H5 hl (.lst (L.map V.str++[kV (.inr z)]))=H6 at Y kG ⊢;rw [<- show (L++[z]).map V.str=L.map V.str++[kV (.inr z)] from TQ] at Y;generalize L++[z]=L6 at Y jD;clear p6 gJ t5 p5 t4 p4 rJ om gD hd ll
    walk_at"";refine ⟨X.h,X.dx,_,rfl,Y.t.az,rfl,?_⟩;walk_at"";refine ⟨X,_,z,rfl,Y,zk,λI x hx ex l nl=>?_,λn=>absurd n there⟩;have rK:x.l.held≠[]:=by
     rw [bq I x hx ex];rcases Wj.jo hh with e | e
     .obtain ⟨⟨k,e'⟩,_⟩:=lk.di e;rw [e'];exact Zk _ _
     .obtain ⟨k,y,m,e',_⟩:=lk.ca e;rw [e'];exact Zk _ _
    have eb:=AhI (Y.ok.lx I x hx).pr rK;have aw:∀ p∈x.l.held,CA p.1:=by rw [bq I x hx ex];exact Sn B.j.wf bj
    have ad2:=(Y.ok.lx I x hx).aC;have jE:=(Y.ok.lx I x hx).pr;generalize x.hv=hv at eb jE nl ⊢;have s7:=(Ag.refl H6).upd (o:=.lst (hv.map V.ref)) nl;have e7:(upd H6 l (.lst (hv.map V.ref))) l=some (.lst (hv.map V.ref)):=Ai;generalize upd H6 l (.lst (hv.map V.ref))=J at s7 e7 ⊢;walk_at"";refine ⟨Av,λl2 cC=>?_⟩;have s8:=(Ag.refl J).upd (o:=.lst []) cC;have e8:(upd J l2 (.lst [])) l2=some (.lst []):=Ai;generalize upd J l2 (.lst [])=H8 at s8 e8 ⊢;have bG:=s7.trans s8;walk_at"";have ly:=So aw;refine Tg ⟨Fb x.l.held,.list [],.lst (.of (s8 _ _ e7)) (Mx (jE.ag (.of bG))),.lst (.of e8) .nil,ly.c,rfl,(by have:=ly.k;omega),?_⟩;rw [show (if false=true then !Wn (Fb x.l.held) (.list []) else Wn (Fb x.l.held) (.list []))=false from (Sq _).trans (decide_eq_false rK)];walk_at"";refine ⟨Av,λb2 cq=>?_⟩;have s9:=(Ag.refl H8).upd (o:=.tup [.str "dials",.str "calls",.str "talks"]) cq;have e9:(upd H8 b2 (.tup [.str "dials",.str "calls",.str "talks"])) b2=some (.tup [.str "dials",.str "calls",.str "talks"]):=Ai;generalize upd H8 b2 (.tup [.str "dials",.str "calls",.str "talks"])=H9 at s9 e9 ⊢;have dr:=bG.trans s9;walk_at"";refine Tg ⟨b2,_,rfl,.inr (.of e9),rfl,rfl,?_⟩;rw [show (if true=true then !C4 (V.str (v,og).fst.s) [V.str "dials",.str "calls",.str "talks"] else C4 (V.str (v,og).fst.s) [V.str "dials",.str "calls",.str "talks"])=false from by rw [if_pos rfl,Wj.oi,hh];rfl];refine Tw ⟨rfl,?_⟩;rw [decide_eq_true rfl];walk_at"";exact ⟨L6,_,_,_,rfl,Y.same dr,kG.trans (.of dr),jD⟩
   | false =>
    refine BX rfl ?_;have jD:=hd.no hw hh;generalize H5=H6 at t5 p5 ⊢;have Y:=t5;have kG:=p5;generalize L=L6 at Y jD;walk_at"";refine ⟨X.h,X.dx,_,rfl,Y.t.az,rfl,?_⟩;walk_at"";refine ⟨X,_,z,rfl,Y,zk,λI x hx ex l nl=>?_,λn=>absurd n there⟩;have iC:x.l.held=[]:=by rw [bq I x hx ex];exact lk.no hh
    have aw:∀ p∈x.l.held,CA p.1:=by rw [bq I x hx ex];exact Sn B.j.wf bj
    have jE:=(Y.ok.lx I x hx).pr;generalize x.hv=hv at jE nl ⊢;have s7:=(Ag.refl H6).upd (o:=.lst (hv.map V.ref)) nl;have e7:(upd H6 l (.lst (hv.map V.ref))) l=some (.lst (hv.map V.ref)):=Ai;generalize upd H6 l (.lst (hv.map V.ref))=J at s7 e7 ⊢;walk_at"";refine ⟨Av,λl2 cC=>?_⟩;have s8:=(Ag.refl J).upd (o:=.lst []) cC;have e8:(upd J l2 (.lst [])) l2=some (.lst []):=Ai;generalize upd J l2 (.lst [])=H8 at s8 e8 ⊢;have bG:=s7.trans s8;walk_at"";have ly:=So aw;refine Tg ⟨Fb x.l.held,.list [],.lst (.of (s8 _ _ e7)) (Mx (jE.ag (.of bG))),.lst (.of e8) .nil,ly.c,rfl,(by have:=ly.k;omega),?_⟩;rw [show (if false=true then !Wn (Fb x.l.held) (.list []) else Wn (Fb x.l.held) (.list []))=true from (Sq _).trans (decide_eq_true iC)];walk_at"";refine ⟨Av,λb2 cq=>?_⟩;have s9:=(Ag.refl H8).upd (o:=.tup [.str "dials",.str "calls",.str "talks"]) cq;have e9:(upd H8 b2 (.tup [.str "dials",.str "calls",.str "talks"])) b2=some (.tup [.str "dials",.str "calls",.str "talks"]):=Ai;generalize upd H8 b2 (.tup [.str "dials",.str "calls",.str "talks"])=H9 at s9 e9 ⊢;have dr:=bG.trans s9;walk_at"";refine Tg ⟨b2,_,rfl,.inr (.of e9),rfl,rfl,?_⟩;rw [show (if true=true then !C4 (V.str (v,og).fst.s) [V.str "dials",.str "calls",.str "talks"] else C4 (V.str (v,og).fst.s) [V.str "dials",.str "calls",.str "talks"])=true from by rw [if_pos rfl,Wj.oi,hh];rfl];refine Tw ⟨rfl,?_⟩;rw [decide_eq_true rfl];walk_at"";exact ⟨L6,_,_,_,rfl,Y.same dr,kG.trans (.of dr),jD⟩
  .rintro σ H4 ⟨L,x4,x5,x6,rfl,t4,p4,hd⟩;refine ⟨sd,_,o,t4.t.rest.tl.tl.hd,nf,?_⟩;have p5:Ah H (upd H4 sd (.dK (dS zs f))):=p4.back ju rfl;have t5:HT K a (upd H4 sd (.dK (dS zs f))) X ((hl,.lst (L.map V.str)) :: (O,.dK Dc) :: (sd,.dK (dS zs f)) :: R):=by
    refine ⟨?_,B.t.ok.ag p5⟩;have t:=t4.t;rw [HK] at t ⊢;exact At.set (P:=A3 a X []++[(hl,.lst (L.map V.str)),(O,.dK Dc)]) (by rw [TM];exact t) |> λz=>by rw [TM] at z;exact z
   generalize upd H4 sd (.dK (dS zs f))=H5 at p5 t5 ⊢;clear t4 p4
   have oo:=hd;walk_at"";refine ⟨X.h,X.dx,_,rfl,t5.t.az,rfl,?_⟩;walk_at"";refine ⟨X,_,S9 "",rfl,t5,⟨(λc m=>nomatch (show c∈([]:List Nat) from m)),by decide⟩,B.j.wf.g.hs,?_⟩;intro H6 pt s6 rL;walk_at"";refine ⟨⟨_,.of rL⟩,λD nD=>?_⟩;have pl:(FE X.S (S9 "") (X.S.sk.hs,X.S.sk.js,X.S.sk.ts)).length=X.S.sk.hs.length:=by unfold FE Cq;rw [Tb,Vd]
   refine AdQ (K:=K) (a:=pt) (xs:=FE X.S (S9 "") (X.S.sk.hs,X.S.sk.js,X.S.sk.ts)) (λi σ J=>∃(x:Option V)(M:List Str),σ=[x]/\Ag H6 J/\J D=some (.lst (M.map V.str))/\DS X.S i M) ⟨none,[],rfl,(Ag.refl H6).upd nD,Ai,⟨.nil,λy=>⟨(λm=>nomatch m),λ⟨k,_,_,lt,_⟩=>absurd lt (XM k)⟩⟩⟩ (λi σ J _ ⟨_,_,_,sm,_⟩=>.of (sm _ _ rL)) ?_ ?_
   .rintro i v σ J hv ⟨x,M,rfl,s7,hM,sk⟩;have ml:=sk.len B.zs;rcases AhJ B.s.js hv B.j.wf.g.hs with ⟨hk,rfl⟩ | ⟨m,ln,hk,bj,rfl⟩
    .walk_at"";refine BX (by rw [decide_eq_true rfl];rfl) ?_;exact ⟨_,M,rfl,s7,hM,sk.no hk⟩
    .have nf:V.str ln.num≠V.str "free":=λe=>by
      have dg:=B.s.dg _ (CI bj);rw [V.str.inj e] at dg;exact absurd (dg 102 (by decide +kernel)).2 (by decide)
     walk_at"";refine B6 (by rw [decide_eq_false nf];rfl) ?_;walk_at"";refine ⟨_,hM,(by rw [Tb,Tc];omega),_,M++[ln.num],rfl,s7.cK nD,?_,sk.yes B.j hk bj⟩;rw [Ai,TQ];rfl
   .rintro σ J ⟨x,M,rfl,s7,hM,sk⟩;rw [pl] at sk;have ml:=sk.len B.zs;have oo:Hd zs ws zs.length L:=by
     have e:(dS zs f).length=zs.length:=by unfold dS;rw [Tb]
     rw [<- e];exact hd
    have ll:=oo.len;have pm0:=sk.perm B.j B.zs oo;walk_at"";dsimp only [BN];refine ⟨D,M,rfl,.of hM,by omega,λl1 M' iS pm wm=>?_⟩;have s8:=(Ag.refl J).upd (o:=.lst (M'.map V.str)) iS;have e8:(upd J l1 (.lst (M'.map V.str))) l1=some (.lst (M'.map V.str)):=Ai;generalize upd J l1 (.lst (M'.map V.str))=H8 at s8 e8 ⊢;have t8:=t5.same (s6.trans (s7.trans s8));have hl8:H8 hl=some (.lst (L.map V.str)):=t8.t.rest.hd;walk_at"";refine ⟨hl,L,rfl,.of hl8,by omega,λl2 L' cC cc wm2=>?_⟩;obtain rfl:=OO (pm.trans (pm0.trans cc.symm)) wm wm2;have s9:=(Ag.refl H8).upd (o:=.lst (M'.map V.str)) cC;have e9:(upd H8 l2 (.lst (M'.map V.str))) l2=some (.lst (M'.map V.str)):=Ai;generalize upd H8 l2 (.lst (M'.map V.str))=H9 at s9 e9 ⊢;have la:∀ y∈M',CA y:=λy m=>by
     obtain ⟨_,i,ln,_,_,r2,rfl⟩:=(sk.m y).mp (pm.mem_iff.mp m);exact (B.j.wf.g.tx _ (CI r2)).1.1
    have ly:B4 1 (.list (M'.map PyData.str)):=.lst λd m=>by
     obtain ⟨y,my,rfl⟩:=Tr.mp m;exact .str (la y my)
    walk_at"";refine Tg ⟨_,_,.lst (.of (s9 _ _ e8)) (My M'),.lst (.of e9) (My M'),ly.c,ly.c,(by have:=ly.k;omega),?_⟩;rw [Vi _ ly.c];have rM:=s6.trans (s7.trans (s8.trans s9));have t9:=t5.same rM;walk_at"";refine ⟨X.h,X.dx,_,rfl,t9.t.az,rfl,?_⟩;dsimp only [BN];refine ⟨X,_,rfl,t9,λl3 fX=>?_⟩;rw [show (λX:HX=>X.q.map V.str) X=[] from by show X.q.map V.str=[];rw [show X.q=[] from B.j.q];rfl];have sA:=(Ag.refl H9).upd (o:=.lst []) fX;have eA:(upd H9 l3 (.lst [])) l3=some (.lst []):=Ai;generalize upd H9 l3 (.lst [])=HA at sA eA ⊢;walk_at"";refine ⟨Av,λl4 ee=>?_⟩;have sB:=(Ag.refl HA).upd (o:=.lst []) ee;have eB:(upd HA l4 (.lst [])) l4=some (.lst []):=Ai;generalize upd HA l4 (.lst [])=HB at sB eB ⊢;walk_at"";refine Tg ⟨.list [],.list [],.lst (.of (sB _ _ eA)) .nil,.lst (.of eB) .nil,rfl,rfl,(by decide),?_⟩;have oq:=rM.trans (sA.trans sB);exact q HB ⟨(t5.same oq).sub (.cons _ (.cons _ (.refl _))),B.tj.ag (p5.trans (.of oq)),B.j,B.s,B.zs⟩ (p5.trans (.of oq))
theorem Sz:∀ n:Nat,n<1000->100<=n->(S9 (toString (n:Int))).length=3/\∀ c∈(S9 (toString (n:Int))).cps.toList,48<=c/\c<=57:=by decide +kernel
def SA (z:Str):Nat:=z.cps.toList.foldl (λb c=>10 * b+(c - 48)) 0
theorem SD:∀ n:Nat,n<1000->SA (S9 (toString (n:Int)))=n:=by decide +kernel
def Dt:List Str:=(Ur 9).map λ(k:Nat)=>S9 (toString (1+(k:Int)))
theorem AhL:∀ n:Nat,n<1000->100<=n->BE (S9 (toString (n:Int))) 1∈Dt:=by decide +kernel
theorem SE:∀ z∈Dt,z.length=1/\∀ c∈z.cps.toList,48<=c/\c<=57:=by decide +kernel
theorem MB:Dt.Nodup:=by decide +kernel
def Et (c:Int)(k:Nat):Str:=S9 (toString (100+(53 * (k:Int)+c) % 900))
theorem MC (c:Int)(k:Nat):∃ n:Nat,100<=n/\n<1000/\(n:Int)=100+(53 * (k:Int)+c) % 900/\Et c k=S9 (toString (n:Int)):=by refine ⟨(100+(53 * (k:Int)+c) % 900).toNat,by omega,by omega,by omega,?_⟩;unfold Et;rw [show (((100+(53 * (k:Int)+c) % 900).toNat:Nat):Int)=100+(53 * (k:Int)+c) % 900 by omega]
theorem AhM (c:Int)(k:Nat):(Et c k).length=3/\C8 (Et c k)/\BE (Et c k) 1∈Dt:=by obtain ⟨n,B,D,_,e⟩:=MC c k;rw [e];exact ⟨(Sz n D B).1,(Sz n D B).2,AhL n D B⟩
theorem AhN {c:Int}{i j:Nat}(h:i<j)(I:j<12):Et c i≠Et c j:=λe=>by
 obtain ⟨n,J,B,L,D⟩:=MC c i;obtain ⟨m,O,m2,V,H⟩:=MC c j;rw [D,H] at e;have:=congrArg SA e;rw [SD n B,SD m m2] at this;omega
def Fc (c:Int)(many:Nat):List Str:=(Ur many).map (Et c)
theorem AhO (c:Int){B:Nat}(h:B<=12):(Fc c B).Nodup :=
 XH.mpr (ui (λ{i j} _ D lt=>AhN lt (by have:=Us.mp D;omega)) uj)
theorem AhP {c:Int}{B:Nat}{z:Str}(m:z∈Fc c B):z.length=3/\C8 z/\BE z 1∈Dt:=by obtain ⟨k,_,rfl⟩:=Tr.mp m;exact AhM c k
theorem AhQ (c:Int)(B:Nat):(Fc c B).length=B:=by unfold Fc;rw [Tb,Vd]
def Eu (zs:List Str):Ws:=zs.map λ_=>(.rests,none)
theorem AhR {B n:Int}{zs:List Str}{H:List (Str×Int)}{p:Str×Int}{v:V}(e:AU (cG B zs n H) p=some v):v=.aa:=by
 unfold AU BI at e;have D:∀(m:Nat),(if 0<=p.2 then (Th m V.aa)[p.2.toNat]? else none)=some v->v=.aa:=λm e=>by
  split at e
  .have:=Tz e;exact Zl this
  .cases e
 by_cases c:p.1=S9 ""
 .rw [if_pos c] at e;exact D _ e
 .rw [if_neg c] at e;cases g:BM (cG B zs n H) p.1 with
  | none=>rw [g] at e;cases e
  | some I =>
   rw [g] at e;obtain ⟨m,_⟩:=Hz g;obtain ⟨q,_,rfl⟩:=Tr.mp (show I∈H.map Cd from m);exact D _ e
theorem J.cG {zs hs:List Str}{n:Nat}(Y:zs.Nodup)(zl:zs.length=n)(n1:2<=n/\n<=12)(B:∀ z∈zs,z.length=3/\C8 z/\BE z 1∈Dt)(I:hs.Perm Dt) :
  J (Lw.cG 3 zs n (hs.map λh=>(h,10))) (Eu zs)/\CB (Lw.cG 3 zs n (hs.map λh=>(h,10))):=by
 have eh:((hs.map λh=>(h,(10:Int))).map (·.1))=hs:=by rw [TL];exact V2 hs
 have H:∀ z∈hs,z.length=1/\C8 z:=λz m=>SE z (I.mem_iff.mp m);have wf:WF (Lw.cG 3 zs n (hs.map λh=>(h,10))):=by
  refine WF.cG (by decide) (by decide) Y (by omega) (by omega) (by omega) (by omega) (by rw [eh];exact I.nodup_iff.mpr MB) (λp m=>?_) (λz m=>?_) (λp m=>?_) (λz m=>by rw [(B z m).1];rfl) (λp m=>?_);all_goals try obtain ⟨y,D,rfl⟩:=Tr.mp m
  .refine ⟨λc=>?_,(by show (0:Int)<=10;decide),(by show (10:Int)<=10;decide)⟩;have c:y=S9 "":=c;have:=(H y D).1;rw [c] at this;exact absurd this (by decide)
  .exact ⟨⟨(B z m).2.1.asc,by have:=(B z m).1;omega⟩,by have:=(B z m).1;omega⟩
  .exact ⟨(H y D).2.asc,by have:=(H y D).1;show y.length<=20;omega⟩
  .show (y.length:Int)<=3 - 2;rw [(H y D).1];decide
 have num:(Lw.cG 3 zs n (hs.map λh=>(h,10))).lns.map (·.num)=zs:=by show (zs.map Cc).map (·.num)=zs;rw [TL];exact V2 zs
 refine ⟨⟨wf,λp v e=>.inl (AhR e),rfl,?_,λi L h=>?_,λi L h ne=>?_⟩,⟨rfl,?_,?_,?_,λg m=>?_,λz m=>?_,λz m=>?_⟩⟩
 .show (zs.map _).length=(zs.map Cc).length;rw [Tb,Tb]
 .have h:(zs.map Cc)[i]?=some L:=h;rw [Tp] at h;obtain ⟨z,O,rfl⟩:=UD.mp h;exact ⟨(.rests,none),by unfold Eu;rw [Tp,O];rfl,EY rfl rfl rfl rfl⟩
 .have h:(zs.map Cc)[i]?=some L:=h;rw [Tp] at h;obtain ⟨z,O,rfl⟩:=UD.mp h;exact absurd rfl ne
 .show (zs.map Cc).length<=12;rw [Tb];omega
 .intro b m;exact Zl (show b∈Th ((n:Int)).toNat false from m)
 .show (Th ((n:Int)).toNat V.aa).length=(zs.map Cc).length;rw [Uu,Tb,Vq,zl]
 .obtain ⟨q,mq,rfl⟩:=Tr.mp (show g∈(hs.map λh=>(h,(10:Int))).map Cd from m);obtain ⟨y,D,rfl⟩:=Tr.mp mq;exact ⟨λb m=>Zl (show b∈Th 10 false from m),by show (Th 10 V.aa).length=10;rw [Uu]⟩
 .rw [num] at m;exact ⟨Cd (BE z 1,10),Tr.mpr ⟨(BE z 1,10),Tr.mpr ⟨_,I.mem_iff.mpr (B z m).2.2,rfl⟩,rfl⟩,rfl⟩
 .rw [num] at m;exact (B z m).2.1
structure SF (P:Ta)(w:S6)(K:S3)(mg:Str->Option Value)(a:Ak):Prop extends TxtG P w K mg a where
 ou:mg "str"=none
def J6 (K:S3):Sp:=λvs H Q _=>∃(p:Addr)(ns:List Int),vs=[.ref p]/\Ba K H p (ns.map V.int)/\ns.length<=63/\∀ H',Q (.bl true) H'
theorem AhS {f:Str->V}{zs:List Str}{i:Nat}{z:Str}(nd:zs.Nodup)(B:zs[i]?=some z)(v:V):Bz (dS (zs.take i) f) (.inr z) v=dS (zs.take (i+1)) (AV f z v):=by
 have D:z ∉ zs.take i:=λm=>by
  obtain ⟨k,hk,e⟩:=U1 m;rw [UZ] at hk;have H:zs[k]?=some z:=by rw [<- e,Zh];exact TC (by omega)
  exact Dz nd H B (by omega) rfl
 have I:Bp (dS (zs.take i) f) (.inr z)=none:=EO (f:=λy:Str=>y) (v:=f) (by rw [List.map_id'];exact D);rw [IK _ I,Vg,B];unfold dS;rw [TQ];congr 1
 .refine VQ λy m=>?_;show (T2 y,f y)=(T2 y,AV f z v y);unfold AV;rw [if_neg (λe:y=z=>D (by rw [<- e];exact m))]
 .show [(T2 z,v)]=[(T2 z,AV f z v z)];unfold AV;rw [if_pos rfl]
theorem TJ.new {H:Hp}{zs:List Str}{f:Str->V}{i:Nat}{z:Str}{b:Addr}(t:TJ H (zs.take i) f (Eu (zs.take i)))(nd:zs.Nodup)(J:zs[i]?=some z)(hb:H b=some (.tup (C9 (.rests,none)))):TJ H (zs.take (i+1)) (AV f z (.ref b)) (Eu (zs.take (i+1))):=λk y u B I=>by
 have Y:=(TH.mp B).1;rw [UZ] at Y;have D:zs[k]?=some y:=by rw [Yt (by omega)] at B;exact B
 have L:u=(.rests,none):=by unfold Eu at I;rw [Tp,B] at I;exact (Ts I).symm
 by_cases c:k=i
 .subst c;rw [J] at D;cases D;exact ⟨b,if_pos rfl,by rw [L];exact hb⟩
 .have ny:y≠z:=Dz nd D J c;have O:(zs.take i)[k]?=some y:=by rw [Yt (by omega)];exact D
  obtain ⟨t0,e1,e2⟩:=t k y u O (by unfold Eu;rw [Tp,O,L];rfl);exact ⟨t0,(if_neg ny).trans e1,e2⟩
theorem SG:AO ["script","plan","many","lines","heads","hall","state","line","draw","goal"] ["script"] (Ac (top 46)):=.of
theorem SH:Nm (Ac (top 46)) "script":=.of
theorem SI:IE (Ac (top 46)) "plan":=by walk_at "k"
theorem HS:Nm (Ac (top 46)) "many":=.of
theorem HV:Nm (Ac (top 46)) "lines":=.of
theorem SJ:Nm (Ac (top 46)) "heads":=.of
theorem MD:Nm (Ac (top 46)) "hall":=.of
theorem J7:Nm (Ac (top 46)) "state":=.of
theorem J8:Nm (Ac (top 46)) "line":=.of
theorem J9:Nm (Ac (top 46)) "draw":=.of
theorem SK:Nm (Ac (top 46)) "goal":=.of
theorem SM:Gm (Ac (top 46)) "_law_draws":=.of
theorem AhT:Gm (Ac (top 46)) "_law_seen":=.of
theorem AhU:Gm (Ac (top 46)) "_law_goes":=.of
theorem AhV:Gm (Ac (top 46)) "Hall":=.of
theorem AhW:Gm (Ac (top 46)) "Plan":=.of
theorem SN:Gm (Ac (top 46)) "sorted":=.of
theorem SO:Gm (Ac (top 46)) "range":=.of
def SQ:Scope:={ kind:=.function,names:=[(".0",.local),("head",.local)],isGenerator:=false,isCoroutine:=false,more:=[] }
theorem SR:Bu SQ (Ac (top 46)) ["head"] ["script","plan","many","lines","heads","hall","state","line","draw","goal"] [none]:=Bu.mk' rfl (by decide +kernel) (by decide +kernel) (by decide +kernel) (by decide +kernel) rfl (by decide +kernel)
theorem SS:Nm SQ "head":=.of
def ME:Scope:={ kind:=.function,names:=[(".0",.local),("k",.local),("str",.globalImplicit)],isGenerator:=false,isCoroutine:=false,more:=[] }
theorem SU:Bu ME (Ac (top 46)) ["k"] ["script","plan","many","lines","heads","hall","state","line","draw","goal"] [none]:=Bu.mk' rfl (by decide +kernel) (by decide +kernel) (by decide +kernel) (by decide +kernel) rfl (by decide +kernel)
theorem SV:Nm ME "k":=.of
theorem AhX:Gm ME "str":=.of
def Ka:Scope:={ kind:=.function,names:=[(".0",.local),("k",.local),("str",.globalImplicit),("plan",.free)],isGenerator:=false,isCoroutine:=false,more:=[] }
theorem SW:Bu Ka (Ac (top 46)) ["k","plan"] ["script","plan","many","lines","heads","hall","state","line","draw","goal"] [none,some 1]:=Bu.mk' rfl (by decide +kernel) (by decide +kernel) (by decide +kernel) (by decide +kernel) rfl (by decide +kernel)
theorem SY:Nm Ka "k":=.of
theorem AhY:IF Ka "plan":=by walk_at "k"
theorem AhZ:Gm Ka "str":=.of
theorem Ah0 (F:AJ K "law" "law" (top 46) f fd)(T:SF P w K mg a)(kH:B8 P w K mg base AE 2 "_law_draws" ["script","k","many","base"] (Pf K))(ox:B8 P w K mg base AE 11 "_law_goes" ["hall","state","line","goal","draw"] (Sg K a))(oy:B8 P w K mg base AE 3 "_law_seen" ["hall","state"] (Sl K a))(abJ:EI P w K mg base AE 4 a.ae "Hall" ["self","plan"] (RJ K a))(abK:EI P w K mg base (AH P w) 3 a.Plan "Plan" ["self","long","lines","seekers","groups"] (Qk a K))(pc:Jr K a.Plan):AB P w K mg base AE 12 f fd ["script"] (J6 K):=by
 refine F.ok SG λak A outer s H vs Q E hr h=>?_
 .obtain ⟨ps,ns,rfl,hS,hn,q⟩:=h;have hu:=hr.units;have nd:=SG.nd;refine ⟨_,(@Aj _ _ _ _ _ (Ox 1 nd SI (B9 kH SM hr.d A5 (Ab (Aa 0 SH) (Ab Az (Ab Az (Ab Az Af))))))
    (Aj (A8 2 nd HS (AR C5 Az (AR CD (BC BF (pvC 1 SI) Az (λ_ _=>rfl)) Az)))
    (Aj (A8 3 nd HV (BH GY SN T.f9 FY (Ab (FZ rfl SW (KA SO T.fV (Ab (Aa 2 HS) Af)) (λcl C fp pins s₂ H₂=>(Bo 0 SW.nd SY.comp)) (λcl C fp pins s₂ H₂=>EG) (λcl C fp pins s₂ H₂=>(C6 NA AhZ.comp T.ou Oh (Ab (AR C5 Az (AR CD (AR C5 (AR Cw Az (Aa 0 SY.comp)) (BC (OB K rfl) (Ow 1 AhY.comp) Az (λ_ _=>rfl))) Az)) Af)))) Af)))
    (Aj (A8 4 nd SJ (BH GY SN T.f9 FY (Ab (FZ rfl SU (AdJ SO T.fV (Ab Az (Ab Az Af))) (λcl C fp pins s₂ H₂=>(Bo 0 SU.nd SV.comp)) (λcl C fp pins s₂ H₂=>EG) (λcl C fp pins s₂ H₂=>(C6 NA AhX.comp T.ou Oh (Ab (Aa 0 SV.comp) Af)))) Af)))
    (Aj (A8 5 nd MD (GV abJ AhV hr.d A5 (Ab (GV abK AhW hr.d DJ (Ab Az (Ab (Aa 3 HV) (Ab (Aa 2 HS) (Ab (FZ rfl SR (Eb (Aa 4 SJ)) (λcl C fp pins s₂ H₂=>(Bo 0 SR.nd SS.comp)) (λcl C fp pins s₂ H₂=>EG) (λcl C fp pins s₂ H₂=>(A2 (Ab (Aa 0 SS.comp) (Ab Az Af))))) Af))))) Af)))
    (Aj (A8 6 nd J7 Ac2)
    (Aj (DF Vx rfl (Eb (Aa 3 HV)) (Bo 7 nd J8) (Am (Dr (Uv (UL (by decide) _) hu) (Aa 6 J7) (Aa 7 J8) (A2 (Ab Aq (Ab BV Af))) rfl)))
    (Aj (DF Vx rfl (Eb (B9 kH SM hr.d A5 (Ab (Aa 0 SH) (Ab Az (Ab Az (Ab (AR Cw Az Az) Af)))))) (Bo 8 nd J9) (Aj (A8 7 nd J8 (BC BF (Aa 3 HV) (AR CD (Aa 8 J9) (Aa 2 HS)) (λ_ _=>rfl)))
     (Aj (A8 9 nd SK (BC BF (Aa 3 HV) (AR CD (AR Kj (Aa 8 J9) Az) (Aa 2 HS)) (λ_ _=>rfl)))
     (Am (AY (PW.pt (Gu (Dv (Dk (B9 ox AhU hr.d A5 (Ab (Aa 5 MD) (Ab (Aa 6 J7) (Ab (Aa 7 J8) (Ab (Aa 9 SK) (Ab (AR Kj (Aa 8 J9) Az) Af)))))))) (Gs (Dv (Dk (B9 oy AhT hr.d A5 (Ab (Aa 5 MD) (Ab (Aa 6 J7) Af)))))))) (Am (AM Ew)) A4)))))
    (Am (AM Ew)))))))))),?_⟩
  try dsimp only [aD,aE]
  have bf:start ["script","plan","many","lines","heads","hall","state","line","draw","goal"] [V.ref ps]=[some (.ref ps),none,none,none,none,none,none,none,none,none]:=rfl;simp only [bf,Ug,Uh];walk_at"";refine ⟨ps,ns,0,_,_,rfl,hS,by decide,by decide,hn,by decide,by decide,by decide,by decide,λr row H1 s1 nr hR hlen gY=>?_⟩;obtain ⟨v0,v1,v2,v3,rfl⟩:∃ v0 v1 v2 v3,row=[v0,v1,v2,v3]:=by
   match row,hlen with
   | [v0,v1,v2,v3],_=>exact ⟨v0,v1,v2,v3,rfl⟩
  have b0:=gY v0 (by simp);have b1:=gY v1 (by simp);walk_at"";obtain ⟨B,em⟩:∃ B:Nat,(B:Int)=2+v0 % 11:=⟨(2+v0 % 11).toNat,by omega⟩;have rN:2<=B/\B<=12:=by omega
  rw [<- em];refine ⟨by omega,by omega,λD nD=>?_⟩;have rO:((B:Int)).toNat=B:=Vq B;refine OA (lo:=0) (n:=((B:Int)).toNat) (λi σ I=>∃ x,σ=[x,some (.ref r)]/\Ag H1 I/\I D=some (.lst (((Ur i).map (Et v1)).map V.str))) ⟨none,rfl,(Ag.refl H1).upd nD,Ai⟩ ?_ ?_
  .rintro i σ I hi ⟨x,rfl,sm,Y⟩;rw [rO] at hi;simp only [Int.zero_add];have hR4:=sm _ _ hR;walk_at"";refine ⟨?_,?_⟩
   .have:(100+(53 * (i:Int)+v1) % 900).natAbs<1000:=by omega
    exact Uv (YX _) (by omega)
   walk_at"";refine ⟨_,Y,(by rw [Tb,Tb,Vd,Tc];omega),_,rfl,sm.cK nD,?_⟩;rw [Ai,XS,TQ,TQ];rfl
  .rintro σ H2 ⟨x,rfl,s2,Y⟩;rw [rO] at Y;have zl:(Fc v1 B).length=B:=AhQ v1 B;have zn:=AhO v1 rN.2;have zo:∀ z∈Fc v1 B,z.length=3/\C8 z/\BE z 1∈Dt:=λz m=>AhP m;have Y:H2 D=some (.lst ((Fc v1 B).map V.str)):=Y;generalize Fc v1 B=zs0 at Y zl zn zo;walk_at"";refine ⟨D,zs0,rfl,.of Y,by omega,λO zs nll pz wz=>?_⟩;have rP:zs.length=B:=pz.length_eq.trans zl;have jF:zs.Nodup:=pz.nodup_iff.mpr zn;have jG:∀ z∈zs,z.length=3/\C8 z/\BE z 1∈Dt:=λz m=>zo z (pz.mem_iff.mp m);have s3:=(Ag.refl H2).upd (o:=.lst (zs.map V.str)) nll;have oz:(upd H2 O (.lst (zs.map V.str))) O=some (.lst (zs.map V.str)):=Ai;generalize upd H2 O (.lst (zs.map V.str))=H3 at s3 oz ⊢;have rQ:=s2.trans s3;clear Y pz zl zn zo s2 s3
   walk_at"";refine ⟨by decide,λD2 rR=>?_⟩;refine OA (lo:=1) (n:=((10:Int) - 1).toNat) (λi σ I=>∃ x,σ=[x]/\Ag H3 I/\I D2=some (.lst (((Ur i).map λ(k:Nat)=>S9 (toString (1+(k:Int)))).map V.str))) ⟨none,rfl,(Ag.refl H3).upd rR,Ai⟩ ?_ ?_
   .rintro i σ I hi ⟨x,rfl,sm,Y⟩;have hi:i<9:=hi;walk_at"";refine ⟨?_,?_⟩
    .have:(1+(i:Int)).natAbs<1000:=by omega
     exact Uv (YX _) (by omega)
    walk_at"";refine ⟨_,Y,(by rw [Tb,Tb,Vd,Tc];omega),_,rfl,sm.cK rR,?_⟩;rw [Ai,XS,TQ,TQ];rfl
   .rintro σ H4 ⟨x,rfl,s4,Y⟩;have Y:H4 D2=some (.lst (Dt.map V.str)):=Y;have hl9:Dt.length=9:=by decide +kernel
    walk_at"";refine ⟨D2,Dt,rfl,.of Y,by omega,λhh hs nhh ph wh=>?_⟩;have s5:=(Ag.refl H4).upd (o:=.lst (hs.map V.str)) nhh;have oA:(upd H4 hh (.lst (hs.map V.str))) hh=some (.lst (hs.map V.str)):=Ai;generalize upd H4 hh (.lst (hs.map V.str))=H5 at s5 oA ⊢;have gJ:=s5 _ _ (s4 _ _ oz);have oB:=rQ.trans (s4.trans s5);have pv:hs.length=9:=ph.length_eq.trans hl9;have hsn:hs.Nodup:=ph.nodup_iff.mpr MB;have kI:∀ z∈hs,z.length=1/\C8 z:=λz m=>SE z (ph.mem_iff.mp m);clear Y oz rQ s4 s5
    walk_at"";refine ⟨⟨_,.of oA⟩,λD3 kJ=>?_⟩;refine Oz (K:=K) (a:=hh) (xs:=hs.map V.str) (λi σ I=>∃(x:Option V)(ts:List Pr),σ=[x]/\Ag H5 I/\I D3=some (.lst (ts.map BA))/\D1 I ts/\ts.map (·.2)=(hs.take i).map λh=>(h,(10:Int))) ⟨none,[],rfl,(Ag.refl H5).upd kJ,Ai,(λt m=>nomatch m),rfl⟩ (λi σ I _ ⟨_,_,_,sm,_⟩=>.of (sm _ _ oA)) ?_ ?_
    .rintro i v σ I hv ⟨x,ts,rfl,sm,hD,lay,dq⟩;rw [Tp] at hv;obtain ⟨h,hh,rfl⟩:=UD.mp hv;have tl:ts.length<=9:=by
      have:=congrArg Wz dq;rw [Tb,Tb,UZ] at this;omega
     walk_at"";refine ⟨Av,λb nb=>?_⟩;have s6:=(Ag.refl I).upd (o:=.tup [.str h,.int 10]) nb;have e6:(upd I b (.tup [.str h,.int 10])) b=some (.tup [.str h,.int 10]):=Ai;generalize upd I b (.tup [.str h,.int 10])=H6 at s6 e6 ⊢;refine ⟨_,s6 _ _ hD,(by rw [Tb,Tc];omega),_,ts++[(b,h,10)],rfl,(sm.trans s6).cK kJ,?_,λt m=>?_,?_⟩
     .rw [Ai,TQ];rfl
     .have e7:H6 t.1=some (.tup [.str t.2.1,.int t.2.2]):=by
       rcases Ut.mp m with m | m
       .exact s6 _ _ (lay t m)
       .rw [TX.mp m];exact e6
      rw [Ap (HY e7 (s6 _ _ hD) (λz=>nomatch z))];exact e7
     .rw [TQ,dq,Vg,hh,TQ];rfl
    .rintro σ H6 ⟨x,ts,rfl,s6,hD,lay,dq⟩;rw [Tb,Vh] at dq;have tl:ts.length=9:=by
      have:=congrArg Wz dq;rw [Tb,Tb] at this;omega
     have tn:ts.map (·.2.1)=hs:=by have:=congrArg (Vy Xf) dq;rw [TL,TL] at this;exact this.trans (V2 hs)
     have tt:∀ t∈ts,t.2.1∈hs/\t.2.2=10:=λt m=>by
      have:t.2∈ts.map (·.2):=Tr.mpr ⟨t,m,rfl⟩;rw [dq] at this;obtain ⟨h,mh,e⟩:=Tr.mp this;rw [<- e];exact ⟨mh,rfl⟩
     have oC:=s6 _ _ gJ;have rS:O≠D3:=BK gJ kJ;have rT:=s1.trans (oB.trans s6);have c0:At H6 [(O,.lst (zs.map V.str)),(D3,.lst (ts.map BA))]:=by
      refine ⟨λc m=>?_,by simp [rS]⟩;simp only [Tq,Ue,or_false] at m;rcases m with rfl | rfl
      .exact oC
      .exact hD
     obtain ⟨C0,c1,kS⟩:∃ C0:AN,At H6 ((O,.lst (zs.map V.str)) :: (D3,.lst (ts.map BA)) :: C0)/\∀ I,At I C0->Ah H6 I->Ba K I ps (ns.map V.int):=by
      rcases hS with (hS | ⟨o,hS⟩) | hS
      .refine ⟨[(ps,.lst (ns.map V.int))],?_,λI t _=>.of t.hd⟩;have n1:ps≠O:=λz=>by
        have e:=oB _ _ (s1 _ _ hS);rw [z,gJ] at e;have e:zs.map V.str=ns.map V.int:=HO.lst.inj (Ts e);cases zs with
        | nil=>simp at rP;omega
        | cons z0 zr=>cases ns with
         | nil=>cases e
         | cons n0 nr=>cases (List.cons.inj e).1
       have n2:ps≠D3:=BK (oB _ _ (s1 _ _ hS)) kJ;refine ⟨λc m=>?_,?_⟩
       .simp only [Tq,Ue,or_false] at m;rcases m with rfl | rfl | rfl
        .exact oC
        .exact hD
        .exact rT _ _ hS
       .simp [rS,n1.symm,n2.symm]
      .exact ⟨[],c0,λI _ p=>.inl (.inr ⟨o,p.f _ _ rfl (rT _ _ hS)⟩)⟩
      .exact ⟨[],c0,λI _ _=>.inr hS⟩
     walk_at"";intro pl bC npl rU gq;have rV:(upd H6 bC (.own pl)) pl=none:=by rw [Ap (Tu gq)];exact npl
     have t7:=(c1.new (u:=.own pl) rU).new (u:=.ins a.Plan bC []) rV;have s7:Ag H6 (upd (upd H6 bC (.own pl)) pl (.ins a.Plan bC [])):=((Ag.refl H6).upd rU).upd rV;have e7:(upd (upd H6 bC (.own pl)) pl (.ins a.Plan bC [])) pl=some (.ins a.Plan bC []):=Ai;generalize upd (upd H6 bC (.own pl)) pl (.ins a.Plan bC [])=H7 at t7 s7 e7 ⊢;have rW:D1 H7 ts:=λt m=>s7 _ _ (lay t m);have good:LL 3 (B:Int) zs ts:=by refine ⟨⟨by decide,by decide,by omega,by omega⟩,⟨⟨by omega,by omega⟩,λz m=>⟨by rw [(jG z m).1];rfl,(jG z m).2.1⟩,jF⟩,by omega,λt m=>?_,by rw [tn];exact hsn⟩;obtain ⟨m1,m2⟩:=tt t m;have:=kI _ m1;exact ⟨⟨by omega,by omega⟩,this.2,by omega,by omega⟩
     refine ⟨pl,3,O,(B:Int),D3,a.Plan,bC,zs,ts,rfl,e7,pc,⟨s7 _ _ oC,s7 _ _ hD,rW,λz m=>⟨(jG z m).2.1.asc,by have:=(jG z m).1;omega⟩,λt m=>⟨(kI _ (tt t m).1).2.asc,by have:=(kI _ (tt t m).1).1;omega⟩,by omega,by omega⟩,λ_ H8 lt gt L fH x8 e8 au jk pm srt cc _=>?_,λng=>absurd good ng⟩;obtain rfl:=OO pm srt wz;have t8:=At.init (N:=[]) t7 x8 e8 (λc m=>nomatch m) .nil;have p78:Ah H7 H8:=At.ag (C:=[(pl,.ins a.Plan bC [])]) (t7.sub (.cons₂ _ (List.nil_sublist _))) x8 (λw m=>by simpa using m) (λc m=>by rw [TX.mp m];rfl);have rX:∀ t∈fH,t.2.1∈hs/\t.2.2=10:=λt m=>tt t (cc.mem_iff.mp m);have b4:(fH.map (·.2.1)).Perm Dt:=by have:=cc.map (λt:Pr=>t.2.1);rw [tn] at this;exact this.trans ph
     have cL:fH.map (·.2)=(fH.map (·.2.1)).map λh=>(h,(10:Int)):=by rw [TL];refine VQ λt m=>?_;show t.2=(t.2.1,10);rw [<- (rX t m).2]
     walk_at"";intro h gK nh rY nhd;have rZ:(upd H8 gK (.own h)) h=none:=by rw [Ap (Tu nhd)];exact nh
     have t9:=(t8.new (u:=.own h) rY).new (u:=.ins a.ae gK []) rZ;have s9:Ag H8 (upd (upd H8 gK (.own h)) h (.ins a.ae gK [])):=((Ag.refl H8).upd rY).upd rZ;generalize upd (upd H8 gK (.own h)) h (.ins a.ae gK [])=H9 at t9 s9 ⊢;have r6:Ah H6 H9:=(Ah.of s7).trans (p78.trans (.of s9));have ndt:(fH.map (·.2.1)).Nodup:=b4.nodup_iff.mpr MB;have tl2:fH.length=9:=cc.length_eq.trans tl;refine ⟨h,gK,pl,bC,lt,gt,3,(B:Int),L,fH,_,rfl,t9,by simp,pc,s9 _ _ au,s9 _ _ jk,λt m=>r6.t (lay t (cc.mem_iff.mp m)),jF,ndt,λt m=>?_,by omega,by omega,by omega,by omega,λHA X eh eS tA pA=>?_⟩
     .obtain ⟨m1,m2⟩:=rX t m;refine ⟨λc=>?_,by omega,by omega⟩;have:=(kI _ m1).1;rw [c] at this;exact absurd this (by decide)
     rw [cL] at eS;obtain ⟨j0,si⟩:=J.cG (hs:=fH.map (·.2.1)) jF rP rN jG b4;rw [<- eS] at j0 si;have zsX:X.S.lns.map (·.num)=L:=by rw [eS];show (L.map Cc).map (·.num)=L;rw [TL];exact V2 L
     have dnX:X.S.dn=[]:=by rw [eS];rfl
     have dm:Ah H6 HA:=r6.trans pA;have tB:HT K a HA X ((O,.lst (L.map V.str)) :: (D3,.lst (ts.map BA)) :: C0):=tA.sub (.cons _ (.cons _ (.cons _ (.refl _))));clear t7 s7 e7 rW t8 t9 s9 x8 e8 au jk
     simp only [Ug,Uh];walk_at"";refine ⟨trivial,?_⟩;show _;simp only [DU,Ug,Uh];walk_at"";intro sd sj;have tC:=tB.new (u:=.dK []) sj;have sr:Ah HA (upd HA sd (.dK [])):=.new sj;generalize upd HA sd (.dK [])=HC at tC sr ⊢;have hl:HC O=some (.lst (L.map V.str)):=tC.t.rest.tl.hd;simp only [Ug,Uh];walk_at"";refine ⟨⟨_,.of hl⟩,FO (K:=K) (a:=O) (xs:=L.map V.str) (λi σ I=>∃(x7:Option V)(f:Str->V),σ=[some (.ref ps),some (.ref r),some (.int B),some (.ref O),some (.ref hh),some (.ref h),some (.ref sd),x7,none,none]/\HT K a I X ((sd,.dK (dS (L.take i) f)) :: (O,.lst (L.map V.str)) :: (D3,.lst (ts.map BA)) :: C0)/\TJ I (L.take i) f (Eu (L.take i))/\Ah H6 I) ⟨none,λ_=>.aa,rfl,tC,(λk y u h1 _=>by rw [List.take_zero] at h1;simp at h1),dm.trans sr⟩ (λi σ I _ ⟨_,_,_,t,_⟩=>.of t.t.rest.tl.hd) ?_ ?_⟩
     .rintro i v σ I hv ⟨x7,f,rfl,t,tj,p⟩;rw [Tp] at hv;obtain ⟨z,hz,rfl⟩:=UD.mp hv;walk_at"";refine ⟨Av,λb nb=>?_⟩;have fI:=(Ag.refl I).upd (o:=.tup [.str "rests",.aa]) nb;have b5:(upd I b (.tup [.str "rests",.aa])) b=some (.tup (C9 (.rests,none))):=Ai;generalize upd I b (.tup [.str "rests",.aa])=G1 at fI b5 ⊢;have t1:=t.same fI;walk_at"";refine ⟨sd,_,rfl,.inl ⟨_,.inr z,t1.t.rest.hd,rfl,(by unfold dS;rw [Tb,UZ,Tc];omega),rfl⟩,?_⟩;rw [AhS jF hz];obtain ⟨t2,p2⟩:=t1.cN (o':=.dK (dS (L.take (i+1)) (AV f z (.ref b)))) rfl;exact ⟨_,_,rfl,t2,((tj.ag (.of fI)).new jF hz b5).ag p2,p.trans ((Ah.of fI).trans p2)⟩
     .rintro σ I ⟨x7,f,rfl,t,tj,p⟩;rw [Tb,Vh] at t tj;have hsq:=kS I t.t.rest.tl.tl.tl p;walk_at"";refine ⟨ps,ns,1,_,_,rfl,hsq,by decide,by decide,hn,by decide,by decide,by decide,by decide,λr2 gL G1 fI nr2 su abL ad3=>?_⟩;have ad4:gL.length=60:=abL;have tG:HT K a G1 X ((sd,.dK (dS L f)) :: (r2,.lst (gL.map V.int)) :: (O,.lst (L.map V.str)) :: (D3,.lst (ts.map BA)) :: C0):=by
       refine ⟨?_,t.ok.ag (.of fI)⟩;have t':At G1 ((r2,.lst (gL.map V.int)) :: A3 a X ((sd,.dK (dS L f)) :: (O,.lst (L.map V.str)) :: (D3,.lst (ts.map BA)) :: C0)):=⟨λc m=>by
        rcases Tq.mp m with rfl | m
        .exact su
        .exact (t.t.same fI).at_ c m,TV.mpr ⟨t.t.free nr2,t.t.nd⟩⟩
       rw [HK] at t' ⊢;refine t'.perm ?_;exact (Zc (l₁:=A3 a X []++[(sd,.dK (dS L f))])).trans (by rw [TM];exact .refl _) |> λz=>by rw [TM] at z;exact z
      have g0:GT K a G1 X sd L f (Eu L) ((r2,.lst (gL.map V.int)) :: (O,.lst (L.map V.str)) :: (D3,.lst (ts.map BA)) :: C0):=⟨tG,tj.ag (.of fI),j0,si,zsX⟩;walk_at"";refine ⟨⟨_,.of su⟩,?_⟩;generalize hR:(r2,HO.lst (gL.map V.int)) :: (O,.lst (L.map V.str)) :: (D3,.lst (ts.map BA)) :: C0=R at g0;have mr:(r2,HO.lst (gL.map V.int))∈R:=by rw [<- hR];simp
      have ml:(O,HO.lst (L.map V.str))∈R:=by rw [<- hR];simp
      have m0:(0:Int)<B:=by omega
      refine FO (K:=K) (a:=r2) (xs:=gL.map V.int) (λi σ H2=>∃(X2:HX)(f2:Str->V)(kK:Ws)(x7 x8 x9:Option V),σ=[some (.ref ps),some (.ref r),some (.int B),some (.ref O),some (.ref hh),some (.ref h),some (.ref sd),x7,x8,x9]/\GT K a H2 X2 sd L f2 kK R/\X2.h=h/\X2.S.dn.length<=40 * i) ⟨X,f,Eu L,x7,none,none,rfl,g0,eh,by rw [dnX];exact T5 _⟩ (λi σ H2 _ ⟨_,_,_,_,_,_,_,g,_⟩=>.of (g.t.t.rest.tl.get mr)) ?_ ?_
      .rintro i v σ H2 hv ⟨X2,f2,kK,x7,x8,x9,rfl,g2,bA,cR⟩;rw [Tp] at hv;obtain ⟨d,hd,rfl⟩:=UD.mp hv;have il:i<60:=by have:=(TH.mp hd).1;omega
       have iD:H2 O=some (.lst (L.map V.str)):=g2.t.t.rest.tl.get ml;have pick:∀ e:Int,∃(k:Nat)(z:Str),Cm (L.map V.str) (e % B)=some (.str z)/\L[k]?=some z:=λe=>by
        have i0:=Wr e (show (B:Int)≠0 by omega);have i1:=Wt e m0;obtain ⟨v,e1,e2⟩:=GP (xs:=L.map V.str) i0 (by rw [Tb];omega);rw [Tp] at e2;obtain ⟨z,hz,rfl⟩:=UD.mp e2;exact ⟨_,z,e1,hz⟩
       obtain ⟨k1,z1,a1,hz1⟩:=pick d;obtain ⟨k2,z2,a2,hz2⟩:=pick (d / 13);walk_at"";refine Tw ⟨O,_,d % B,_,rfl,rfl,.of iD,a1,?_⟩;simp only [DU,Ug,Uh];walk_at"";refine Tw ⟨O,_,d / 13 % B,_,rfl,rfl,.of iD,a2,?_⟩;simp only [DU,Ug,Uh];walk_at"";dsimp only [BN];rw [<- bA];refine ⟨X2,R,sd,L,f2,kK,k1,k2,z1,z2,d / 200,rfl,g2,hz1,hz2,by omega,λH3 X3 f3 sv g3 bB jr p3=>?_⟩;walk_at"";dsimp only [BN];rw [<- bB];refine ⟨X3,R,sd,L,f3,sv,rfl,g3,λH4 g4 p4=>?_⟩;walk_at"";exact ⟨X3,f3,sv,_,_,_,rfl,g4,rfl,by omega⟩
      .rintro σ H2 ⟨X2,f2,kK,x7,x8,x9,rfl,_⟩;walk_at"";exact q _
open PySem PySem.Spec PyProof.Rows L2
section
variable {K:S3}{mg:Str->Option Value}{h:Heap}{CX:BW}{k:Nat}{x q:Str}{st:Stmt}{ps:List Str}{sp:Sp}{C:Addr}{A:Ak}
def MF (K:S3)(x q:Str)(st:Stmt)(R:Addr->Prop):Prop:=∃(f:Addr)(oc:Value)(od:Option Addr)(sl:Array (Option Value))(kV dc pm:Value)(an:Option Addr)(cd ct:Value),R f/\K.lookup f=some ⟨oc,od,.func (UQ x q (Dw st) (Df st) (Ac st) .none kV dc pm an cd ct),sl⟩/\Vw K cd q=true/\Ux K (.ref f)=true
structure bS (K:S3)(x q:Str)(st:Stmt):Prop where
 ex:MF K x q st λf=>TN K TB x=some (some (.ref f))
structure aK (K:S3)(C:Addr)(x q:Str)(st:Stmt):Prop where
 ex:MF K x q st λf=>Tx K (.ref C) x=some (some (.ref f))/\VH K (.ref f)=true
structure cI (K:S3)(A:Ak)(x q:Str)(st:Stmt):Prop where
 ex:MF K x q st λf=>Tx K (.ref A.aL) x=some (some (.ref f))/\Tx K (.ref A.aI) x=some (some (.ref f))/\VH K (.ref f)=true
abbrev Kb (x q:Str)(st:Stmt)(ps:List Str):Prop:=∀(kV doc pm:Value)(an:Option Addr)(ak ct:Value)(us:List Value),us.length=ps.length->bindArgs (UQ x q (Dw st) (Df st) (Ac st) .none kV doc pm an ak ct) ⟨us,[]⟩=pure (ps.zip us)
theorem bS.fn (F:bS K x q st)(P:Ta)(w:S6)(base:Heap)(X:K.In h)(G:h.Ns TB mg)(o:∀ f fd,AJ K x q st f fd->AB P w K mg base CX k f fd ps sp)(b:Kb x q st ps):B8 P w K mg base CX k x ps sp:=by obtain ⟨f,B,D,H,kV,I,J,L,O,ct,a,l,c,y⟩:=F.ex;have F:=FR l c y;exact ⟨f,_,Ui X G a,y,F.binds b,o f _ F⟩
theorem aK.me (F:aK K C x q st)(P:Ta)(w:S6)(mg:Str->Option Value)(base:Heap)(o:∀ f fd,AJ K x q st f fd->AB P w K mg base CX k f fd ps sp)(b:Kb x q st ps):AK P w K mg base CX k C x ps sp:=by obtain ⟨f,B,D,H,kV,I,J,L,O,ct,⟨a,i⟩,l,c,y⟩:=F.ex;have F:=FR l c y;exact ⟨f,_,⟨a,i,y⟩,F.binds b,o f _ F⟩
theorem aK.kL {z:Str}(F:aK K C "__init__" q st)(P:Ta)(w:S6)(mg:Str->Option Value)(base:Heap)(g:mg z=some (.ref C))(m:VI K C=true)(n:Ux K (.ref C)=true)(o:∀ f fd,AJ K "__init__" q st f fd->AB P w K mg base CX k f fd ps sp)(b:Kb "__init__" q st ps):EI P w K mg base CX k C z ps sp:=by obtain ⟨f,B,D,H,kV,I,J,L,O,ct,⟨a,i⟩,l,c,y⟩:=F.ex;have F:=FR l c y;exact ⟨f,_,g,⟨m,a,i,n⟩,F.binds b,o f _ F⟩
theorem cI.me (F:cI K A x q st)(P:Ta)(w:S6)(mg:Str->Option Value)(base:Heap)(o:∀ f fd,AJ K x q st f fd->AB P w K mg base CX k f fd ps sp)(b:Kb x q st ps):∀ C∈A.bD,AK P w K mg base CX k C x ps sp:=by
 obtain ⟨f,H,I,J,kV,L,O,V,Y,ct,⟨a,B,i⟩,l,c,y⟩:=F.ex;have F:=FR l c y;intro C D;rcases Tq.mp D with e | e
 .subst e;exact ⟨f,_,⟨a,i,y⟩,F.binds b,o f _ F⟩
 .have e:=TX.mp e;subst e;exact ⟨f,_,⟨B,i,y⟩,F.binds b,o f _ F⟩
section
variable {f:Addr}{oc:Value}{od:Option Addr}{sl:Array (Option Value)}{kV dc pm:Value}{an:Option Addr}{cd ct:Value}
theorem bS.of (a:TN K TB x=some (some (.ref f)))(l:K.lookup f=some ⟨oc,od,.func (UQ x q (Dw st) (Df st) (Ac st) .none kV dc pm an cd ct),sl⟩)(c:Vw K cd q=true)(k:Ux K (.ref f)=true):bS K x q st:=⟨⟨_,_,_,_,_,_,_,_,_,_,a,l,c,k⟩⟩
theorem aK.of (a:Tx K (.ref C) x=some (some (.ref f)))(i:VH K (.ref f)=true)(l:K.lookup f=some ⟨oc,od,.func (UQ x q (Dw st) (Df st) (Ac st) .none kV dc pm an cd ct),sl⟩)(c:Vw K cd q=true)(k:Ux K (.ref f)=true):aK K C x q st:=⟨⟨_,_,_,_,_,_,_,_,_,_,⟨a,i⟩,l,c,k⟩⟩
theorem cI.of (a:Tx K (.ref A.aL) x=some (some (.ref f)))(b:Tx K (.ref A.aI) x=some (some (.ref f)))(i:VH K (.ref f)=true)(l:K.lookup f=some ⟨oc,od,.func (UQ x q (Dw st) (Df st) (Ac st) .none kV dc pm an cd ct),sl⟩)(c:Vw K cd q=true)(k:Ux K (.ref f)=true):cI K A x q st:=⟨⟨_,_,_,_,_,_,_,_,_,_,⟨a,b,i⟩,l,c,k⟩⟩
end
end
theorem us1 {α:Type}{P:List α->Prop}(h:∀ a,P [a]):∀ us:List α,us.length=1->P us
 | [a],_=>h a
theorem us2 {α:Type}{P:List α->Prop}(h:∀ a b,P [a,b]):∀ us:List α,us.length=2->P us
 | [a,b],_=>h a b
theorem us3 {α:Type}{P:List α->Prop}(h:∀ a b c,P [a,b,c]):∀ us:List α,us.length=3->P us
 | [a,b,c],_=>h a b c
theorem us4 {α:Type}{P:List α->Prop}(h:∀ a b c d,P [a,b,c,d]):∀ us:List α,us.length=4->P us
 | [a,b,c,d],_=>h a b c d
theorem us5 {α:Type}{P:List α->Prop}(h:∀ a b c d e,P [a,b,c,d,e]):∀ us:List α,us.length=5->P us
 | [a,b,c,d,e],_=>h a b c d e
local macro_rules | `(tactic| walk_at "b")=>`(tactic| first
 | exact λ_ _ _ _ _ _=>us2 λ_ _=>rfl
 | exact λ_ _ _ _ _ _=>us1 λ_=>rfl
 | exact λ_ _ _ _ _ _=>us3 λ_ _ _=>rfl
 | exact λ_ _ _ _ _ _=>us4 λ_ _ _ _=>rfl
 | exact λ_ _ _ _ _ _=>us5 λ_ _ _ _ _=>rfl)
abbrev mkA {a0 a1 a2 a3 a4 a5 a6 a7 a8 a9 a10 a11 a12 a13:Addr}:Ak:=⟨a0,a1,a2,a3,a4,a5,a6,a7,a8,a9,a10,a11,a12,a13⟩
theorem all_mk {l:YK}{w:S6}{K:S3}{h:Heap}{mg:Str->Option Value}{fa:Addr}(X:K.In h)(G:h.Ns TB mg)(O:mg "law"=some (.ref fa)){V B:Addr}{Y sy abN abO:Option Addr}{abP abQ:Array (Option Value)}{abR sE sH sI oF sJ abS abT abU abV sL abW:Value}{A:Ak}{t1 t2 t3 t4:Addr}{abX abY abZ ab0 ab1 ab2 ab3 ab4:Tok}{sM:Array W6}{nW n1 n2 n3 n4 n5:Nat}{oG gW oH oI oJ:Array Value}{od1 od2 od3 od4 od5:Option Addr}{sl1 sl2 sl3 sl4 sl5:Array (Option Value)}(ad5:TN K TB "HallError"=some (some (.ref A.aaJ)))(cM:TN K TB "BadPlan"=some (some (.ref A.fq)))(gZ:TN K TB "NoSwitch"=some (some (.ref A.cz)))(km:TN K TB "NoLine"=some (some (.ref A.d7)))(i8:TN K TB "NotSo"=some (some (.ref A.fR)))(kr:TN K TB "NoFigure"=some (some (.ref A.iP)))(ab5:TN K TB "Plan"=some (some (.ref A.Plan)))(ab6:TN K TB "Seekers"=some (some (.ref A.aL)))(j9:TN K TB "Switches"=some (some (.ref A.fS)))(ab7:TN K TB "Group"=some (some (.ref A.aI)))(ab8:TN K TB "Line"=some (some (.ref A.Line)))(ab9:TN K TB "Hall"=some (some (.ref A.ae)))(kj:TN K TB "WAYS"=some (some (.ref A.fT)))(ik:TN K TB "FIGURES"=some (some (.ref A.fU)))(aca:TN K TB "SIGNS"=some (some (.str "0123456789" abX)))(acb:TN K TB "LEAST_LONG"=some (some (.int 2 abY)))(acd:TN K TB "MOST_LONG"=some (some (.int 4 abZ)))(ace:TN K TB "MOST_LINES"=some (some (.int 60 ab0)))(acf:TN K TB "MOST_SEEKERS"=some (some (.int 60 ab1)))(acg:TN K TB "MOST_GROUPS"=some (some (.int 40 ab2)))(ach:TN K TB "MOST_SWITCHES"=some (some (.int 10 ab3)))(aci:TN K TB "AT_SEEKERS"=some (some (.str "" ab4)))(haa:bS K "within" "within" (top 10))(hab:bS K "are_figures" "are_figures" (top 11))(lu:bS K "figure_of" "figure_of" (top 14))(had:bS K "paper_of" "paper_of" (top 17))(hae:bS K "check_counts" "check_counts" (top 36))(haf:bS K "check_lines" "check_lines" (top 37))(hag:bS K "check_groups" "check_groups" (top 38))(hah:bS K "_law_cell" "_law_cell" (top 40))(hai:bS K "_law_draws" "_law_draws" (top 41))(haj:bS K "_law_dial" "_law_dial" (top 42))(hak:bS K "_law_hung" "_law_hung" (top 43))(hal:bS K "_law_seen" "_law_seen" (top 44))(ham:bS K "_law_goes" "_law_goes" (top 45))(aan:TN K TB "law"=some (some (.ref V)))(lan:K.lookup V=some ⟨abR,Y,.func (UQ "law" "law" (Dw (top 46)) (Df (top 46)) (Ac (top 46)) .none sE sH sI sy oF sJ),abP⟩)(can:Vw K oF "law"=true)(kan:Ux K (.ref V)=true)(hao:cI K A "first_free" "Switches.first_free" (Ad (top 16) 1))(hap:cI K A "hold" "Switches.hold" (Ad (top 16) 2))(haq:cI K A "free" "Switches.free" (Ad (top 16) 3))(har:cI K A "stick" "Switches.stick" (Ad (top 16) 4))(has:cI K A "mend" "Switches.mend" (Ad (top 16) 5))(hat:cI K A "check" "Switches.check" (Ad (top 16) 6))(hau:cI K A "holders" "Switches.holders" (Ad (top 16) 7))(hav:cI K A "stuck" "Switches.stuck" (Ad (top 16) 8))(haw:aK K A.aL "__init__" "Seekers.__init__" (Ad (top 23) 0))(hax:aK K A.aL "take" "Seekers.take" (Ad (top 23) 1))(hay:aK K A.aI "take" "Group.take" (Ad (top 19) 0))(haz:aK K A.aI "paper" "Group.paper" (Ad (top 19) 1))(hba:aK K A.Line "__init__" "Line.__init__" (Ad (top 21) 0))(lp:aK K A.Line "turn" "Line.turn" (Ad (top 21) 1))(hbc:aK K A.Line "ring" "Line.ring" (Ad (top 21) 2))(hbd:aK K A.Line "be_told" "Line.be_told" (Ad (top 21) 3))(dQ:aK K A.ae "__init__" "Hall.__init__" (Ad (top 27) 0))(hbf:aK K A.ae "do" "Hall.do" (Ad (top 27) 1))(hbg:aK K A.ae "at_switch" "Hall.at_switch" (Ad (top 27) 2))(hbh:aK K A.ae "at_line" "Hall.at_line" (Ad (top 27) 3))(hbi:aK K A.ae "lift" "Hall.lift" (Ad (top 27) 4))(hbj:aK K A.ae "pulse" "Hall.pulse" (Ad (top 27) 5))(hbk:aK K A.ae "gap" "Hall.gap" (Ad (top 27) 6))(hbl:aK K A.ae "into_group" "Hall.into_group" (Ad (top 27) 7))(hbm:aK K A.ae "to_line" "Hall.to_line" (Ad (top 27) 8))(hbn:aK K A.ae "no_call" "Hall.no_call" (Ad (top 27) 9))(hbo:aK K A.ae "busy" "Hall.busy" (Ad (top 27) 10))(hbp:aK K A.ae "hang" "Hall.hang" (Ad (top 27) 11))(hbq:aK K A.ae "left_alone" "Hall.left_alone" (Ad (top 27) 12))(hbr:aK K A.ae "wait" "Hall.wait" (Ad (top 27) 13))(hbs:aK K A.ae "release" "Hall.release" (Ad (top 27) 14))(hbt:aK K A.ae "tones" "Hall.tones" (Ad (top 27) 15))(hbu:aK K A.ae "line_of" "Hall.line_of" (Ad (top 27) 16))(hbv:aK K A.ae "switches_of" "Hall.switches_of" (Ad (top 27) 17))(hbw:aK K A.ae "way" "Hall.way" (Ad (top 27) 18))(hbx:aK K A.ae "holds" "Hall.holds" (Ad (top 27) 20))(hby:aK K A.ae "other" "Hall.other" (Ad (top 27) 21))(hbz:aK K A.ae "paper" "Hall.paper" (Ad (top 27) 23))(hca:aK K A.ae "waiting" "Hall.waiting" (Ad (top 27) 25))(hcb:aK K A.Plan "__init__" "Plan.__init__" (Ad (top 35) 0))(rdS:sV K A.fS (.type "type")=true)(spS:Xo K (.ref A.fS) "__getattribute__"=some (some (.builtin "type.__getattribute__")))(fdS:sW K (.ref A.fS) (.type "type") "__init__"=some (.val (.ref B)))(tyS:Yl K (.ref B)=some (.type "function"))(acc:Tx K (.ref A.fS) "__init__"=some (some (.ref B)))(icc:VH K (.ref B)=true)(lcc:K.lookup B=some ⟨abS,abN,.func (UQ "__init__" "Switches.__init__" (Dw (Ad (top 16) 0)) (Df (Ad (top 16) 0)) (Ac (Ad (top 16) 0)) .none abT abU abV abO sL abW),abQ⟩)(ccc:Vw K sL "Switches.__init__"=true)(sN:Ux K (.ref B)=true)(aG:Tx K (.ref A.aI) "__init__"=some (some (.ref B)))(acj:VI K A.aL=true)(ack:Ux K (.ref A.aL)=true)(acm:VI K A.Line=true)(acn:Ux K (.ref A.Line)=true)(aco:VI K A.ae=true)(acp:Ux K (.ref A.ae)=true)(acq:VI K A.Plan=true)(acr:Ux K (.ref A.Plan)=true)(acs:VI K A.aI=true)(acu:Ux K (.ref A.aI)=true)(acv:Vt K A.aL Ua=true)(acw:VG K A.aL=true)(acx:Wa K A.aL=true)(acy:Tx K (.ref A.aL) "__setattr__"=some (some (.builtin "object.__setattr__")))(acz:Tx K (.ref A.aL) "held_by"=some none)(acA:Tx K (.ref A.aL) "jammed"=some none)(acB:Tx K (.ref A.aL) "taken"=some none)(acC:Tx K (.ref A.aL) "places"=some none)(acD:Tx K (.ref A.aL) "stands"=some none)(acE:Tx K (.ref A.aL) "went"=some none)(acF:Tx K (.ref A.aL) "mark_at"=some none)(acG:Vt K A.aI Ua=true)(acH:VG K A.aI=true)(acI:Wa K A.aI=true)(acJ:Tx K (.ref A.aI) "__setattr__"=some (some (.builtin "object.__setattr__")))(acK:Tx K (.ref A.aI) "held_by"=some none)(acL:Tx K (.ref A.aI) "jammed"=some none)(acM:Tx K (.ref A.aI) "taken"=some none)(acN:Vt K A.Line Ua=true)(acO:VG K A.Line=true)(acP:Wa K A.Line=true)(acQ:Tx K (.ref A.Line) "__setattr__"=some (some (.builtin "object.__setattr__")))(acR:Tx K (.ref A.Line) "number"=some none)(acS:Tx K (.ref A.Line) "place"=some none)(acT:Tx K (.ref A.Line) "held"=some none)(acU:Tx K (.ref A.Line) "state"=some none)(acV:Tx K (.ref A.Line) "dialled_so_far"=some none)(acW:Tx K (.ref A.Line) "pulses"=some none)(acX:Tx K (.ref A.Line) "far_end"=some none)(acY:Tx K (.ref A.Line) "why"=some none)(acZ:Vt K A.ae Ua=true)(ac0:VG K A.ae=true)(ac1:Wa K A.ae=true)(ac2:Tx K (.ref A.ae) "__setattr__"=some (some (.builtin "object.__setattr__")))(ac3:Tx K (.ref A.ae) "long"=some none)(ac4:Tx K (.ref A.ae) "lines"=some none)(ac5:Tx K (.ref A.ae) "switches"=some none)(ac6:Tx K (.ref A.ae) "queue"=some none)(ac7:Tx K (.ref A.ae) "done"=some none)(ac8:Vt K A.Plan Ua=true)(ac9:VG K A.Plan=true)(ada:Wa K A.Plan=true)(adb:Tx K (.ref A.Plan) "__setattr__"=some (some (.builtin "object.__setattr__")))(ade:Tx K (.ref A.Plan) "long"=some none)(adf:Tx K (.ref A.Plan) "lines"=some none)(adg:Tx K (.ref A.Plan) "seekers"=some none)(adh:Tx K (.ref A.Plan) "groups"=some none)(adi:UR K A.fq [.type "ValueError",.type "Exception",.type "BaseException",.type "object"] "ValueError.__new__"=true)(adj:UR K A.cz [.type "ValueError",.type "Exception",.type "BaseException",.type "object"] "ValueError.__new__"=true)(adk:UR K A.d7 [.type "ValueError",.type "Exception",.type "BaseException",.type "object"] "ValueError.__new__"=true)(adl:UR K A.fR [.type "ValueError",.type "Exception",.type "BaseException",.type "object"] "ValueError.__new__"=true)(adm:UR K A.iP [.type "ValueError",.type "Exception",.type "BaseException",.type "object"] "ValueError.__new__"=true)(lW:K.lookup A.fT=some ⟨.type "dict",none,.dict sM nW,#[]⟩)(oW:(A.fT == UJ)=false)(vW:IX w.params sM.toList [("lift",.ref t1),("pulse",.ref t2),("gap",.ref t3),("hang",.ref t4)])(lT1:K.lookup t1=some ⟨.type "tuple",od1,.seq oG n1,sl1⟩)(zT1:oG.size<=10)(vT1:Aw [.str "rests",.str "rung"] oG.toList)(lT2:K.lookup t2=some ⟨.type "tuple",od2,.seq gW n2,sl2⟩)(zT2:gW.size<=10)(vT2:Aw [.str "dials"] gW.toList)(lT3:K.lookup t3=some ⟨.type "tuple",od3,.seq oH n3,sl3⟩)(zT3:oH.size<=10)(vT3:Aw [.str "dials"] oH.toList)(lT4:K.lookup t4=some ⟨.type "tuple",od4,.seq oI n4,sl4⟩)(zT4:oI.size<=10)(vT4:Aw [.str "waits",.str "dials",.str "rings",.str "talks",.str "told"] oI.toList)(lT5:K.lookup A.fU=some ⟨.type "tuple",od5,.seq oJ n5,sl5⟩)(zT5:oJ.size<=10)(vT5:Aw [.str "1",.str "2",.str "3",.str "4",.str "5",.str "6",.str "7",.str "8",.str "9",.str "0"] oJ.toList)(adn:TN K TB "len"=some none)(ado:TN K TB "isinstance"=some none)(adp:TN K TB "bool"=some none)(adq:TN K TB "int"=some none)(ads:TN K TB "range"=some none)(adt:TN K TB "all"=some none)(adu:TN K TB "list"=some none)(adv:TN K TB "enumerate"=some none)(adw:TN K TB "tuple"=some none)(adx:TN K TB "sorted"=some none)(ady:TN K TB "set"=some none)(adz:TN K TB "min"=some none)(adA:TN K TB "str"=some none) :
  ∃ fd:Tn,(∀(s:S0)(v:Value),Wd s fd ⟨[v],[]⟩ [("script",v)])/\∀ base:Heap,K.In base->base.Ns TB mg->AB l.prog w K mg base AE 12 fa fd ["script"] (J6 K):=by
 have e:=O.symm.trans (Ui X G aan);cases e;have T:SF l.prog w K mg A :=
  { n_len:=U2 X G adn,pP:=U2 X G ado,pQ:=U2 X G adp,pR:=U2 X G adq,fV:=U2 X G ads,qj:=U2 X G adt,ft:=U2 X G adu,jY:=U2 X G adv,iQ:=U2 X G adw,f9:=U2 X G adx,qk:=U2 X G ady,aaO:=U2 X G adz,ou:=U2 X G adA,ql:=⟨_,Ui X G aca⟩,qm:=⟨_,Ui X G acb⟩,qo:=⟨_,Ui X G acd⟩,qp:=⟨_,Ui X G ace⟩,qq:=⟨_,Ui X G acf⟩,qr:=⟨_,Ui X G acg⟩,qv:=⟨_,Ui X G ach⟩,i7:=⟨_,Ui X G aci⟩,gZ:=Ui X G gZ,j9:=Ui X G j9,cM:=Ui X G cM,kj:=Ui X G kj,km:=Ui X G km,i8:=Ui X G i8,kr:=Ui X G kr,ik:=Ui X G ik,jZ:=adj,dE:=adi,qE:=adk,mH:=adl,qM:=adm,cD:=⟨t1,t2,t3,t4,Ad3 oW lW vW (show ([("lift":Str),"pulse","gap","hang"]).Nodup by decide +kernel) (show 4<=1000 by decide),λH=>.inr ⟨_,_,_,lT1,rfl,rfl,Uk zT1 (by decide),vT1⟩,λH=>.inr ⟨_,_,_,lT2,rfl,rfl,Uk zT2 (by decide),vT2⟩,λH=>.inr ⟨_,_,_,lT3,rfl,rfl,Uk zT3 (by decide),vT3⟩,λH=>.inr ⟨_,_,_,lT4,rfl,rfl,Uk zT4 (by decide),vT4⟩⟩,kq:=λH=>.inr ⟨_,_,_,lT5,rfl,rfl,Uk zT5 (by decide),vT5⟩,hc:=⟨⟨acZ,ac0,ac1,ac2⟩,ac3,ac4,ac5,ac6,ac7⟩,lc:=⟨⟨acN,acO,acP,acQ⟩,acR,acS,acT,acU,acV,acW,acX,acY⟩,sc:=⟨⟨T9,⟨acv,acw,acx,acy⟩,acz,acA,acB⟩,acC,acD,acE,acF⟩,gc:=⟨T1 _ (TX.mpr rfl),⟨acG,acH,acI,acJ⟩,acK,acL,acM⟩ }
 have pc:Jr K A.Plan:=⟨⟨ac8,ac9,ada,adb⟩,ade,adf,adg,adh⟩;have Fan:=FR (st:=(top 46)) lan can kan;have oK:=FR (st:=(Ad (top 16) 0)) lcc ccc sN;have sO:=oK.binds (ps:=["self","many"]) λ_ _ _ _ _ _ us hl=>match us,hl with | [_,_],_=>rfl
 refine ⟨UQ "law" "law" (Dw (top 46)) (Df (top 46)) (Ac (top 46)) .none sE sH sI sy oF sJ,λs v=>.of_eq rfl,λbase _ _=>?_⟩;have D:=haa.fn l.prog w base X G (λ_ _ F=>Aep F T.toTxt) (by walk_at "b");have lI:=hah.fn l.prog w base X G (λ_ _ F=>Aeb F T.toTxt) (by walk_at "b");have kH:=hai.fn l.prog w base X G (λ_ _ F=>Aei F T.toTxt lI) (by walk_at "b");have g8:=hab.fn l.prog w base X G (λ_ _ F=>Ae5 F T.toTxtP) (by walk_at "b");have l9:=hae.fn l.prog w base X G (λ_ _ F=>Afc F T.toTxtP D) (by walk_at "b");have md:=haf.fn l.prog w base X G (λ_ _ F=>Afi F T.toTxtP D g8) (by walk_at "b");have mf:=hag.fn l.prog w base X G (λ_ _ F=>Afn F T.toTxtP D g8) (by walk_at "b");have hW:=had.fn l.prog w base X G (λ_ _ F=>AfE F T.toTxtS) (by walk_at "b");have m8:=lu.fn l.prog w base X G (λ_ _ F=>Agn F T.toTxtG D) (by walk_at "b");have d8:=hat.me l.prog w mg base (λ_ _ F=>AeB F T.toTxtS D) (by walk_at "b");have mJ:=haq.me l.prog w mg base (λ_ _ F=>AeI F T.toTxtS d8) (by walk_at "b");have m9:=har.me l.prog w mg base (λ_ _ F=>AeD F T.toTxtS d8) (by walk_at "b");have ni:=has.me l.prog w mg base (λ_ _ F=>AeF F T.toTxtS d8) (by walk_at "b");have hJ:=hau.me l.prog w mg base (λ_ _ F=>Aet F T.toTxtS) (by walk_at "b");have hV:=hav.me l.prog w mg base (λ_ _ F=>AeS F T.toTxtS) (by walk_at "b");have g7:=hap.me l.prog w mg base (λ_ _ F=>Aew F T.toTxtS) (by walk_at "b");have sP:=hao.me l.prog w mg base (λ_ _ F=>AeL F T.toTxtS) (by walk_at "b");have adB:=hax.me l.prog w mg base (λ_ _ F=>AeZ F T.toTxtK sP g7) (by walk_at "b");have adC:=hay.me l.prog w mg base (λ_ _ F=>AfG F T.toTxtS sP g7) (by walk_at "b");have adD:=haz.me l.prog w mg base (λ_ _ F=>AfJ F T.toTxtS hJ hV hW) (by walk_at "b");have MS:=haw.kL l.prog w mg base (Ui X G ab6) acj ack (λ_ _ F=>AeX F T.toTxtK ⟨rdS,spS,fdS,tyS,sN⟩ (Pz oK T.toTxtS) sO) (by walk_at "b");have MG:EI l.prog w K mg base AE 2 A.aI "Group" ["self","many"] (Je K A):=⟨_,_,Ui X G ab7,⟨acs,aG,icc,acu⟩,sO,(Pz oK T.toTxtS).mono (by decide)⟩;have I:=lp.me l.prog w mg base (λ_ _ F=>Afv F T.lc) (by walk_at "b");have adE:=hbc.me l.prog w mg base (λ_ _ F=>AfT F T.lc) (by walk_at "b");have sQ:=hbd.me l.prog w mg base (λ_ _ F=>AfW F T.lc) (by walk_at "b");have ML:=hba.kL l.prog w mg base (Ui X G ab8) acm acn (λ_ _ F=>Afz F T.lc I) (by walk_at "b");have MP:=hcb.kL l.prog w mg base (Ui X G ab5) acq acr (λ_ _ F=>Afr F T.toTxtP l9 md mf) (by walk_at "b");have J:=hbu.me l.prog w mg base (λ_ _ F=>AfO F T.toTxtH) (by walk_at "b");have sR:=hbv.me l.prog w mg base (λ_ _ F=>AfR F T.toTxtH) (by walk_at "b");have sS:=hbr.me l.prog w mg base (λ_ _ F=>Af2 F T.toTxtH I) (by walk_at "b");have L:=hbs.me l.prog w mg base (λ_ _ F=>AfZ F T.toTxtH mJ) (by walk_at "b");have adF:=hbi.me l.prog w mg base (λ_ _ F=>Af8 F T.toTxtH sS) (by walk_at "b");have adG:=hbq.me l.prog w mg base (λ_ _ F=>Af7 F T.toTxtH I L sS) (by walk_at "b");have adH:=hbp.me l.prog w mg base (λ_ _ F=>Af9 F T.toTxtH I L adG) (by walk_at "b");have oM:=hbn.me l.prog w mg base (λ_ _ F=>Agc F T.toTxtH L sQ) (by walk_at "b");have sU:=hbo.me l.prog w mg base (λ_ _ F=>Agf F T.toTxtH L sQ) (by walk_at "b");have adI:=hbm.me l.prog w mg base (λ_ _ F=>Agg F T.toTxtH oM sU adE) (by walk_at "b");have adJ:=hbl.me l.prog w mg base (λ_ _ F=>Agi F T.toTxtH oM sU adC adD) (by walk_at "b");have adK:=hbj.me l.prog w mg base (λ_ _ F=>Ags F T.toTxtG oM) (by walk_at "b");have adL:=hbk.me l.prog w mg base (λ_ _ F=>Agw F T.toTxtG m8 adJ adI) (by walk_at "b");have adM:=hbt.me l.prog w mg base (λ_ _ F=>Af4 F T.toTxtH I adB) (by walk_at "b");have adN:=hbg.me l.prog w mg base (λ_ _ F=>Agy F T.toTxtH sR m9 ni) (by walk_at "b");have adO:=hbh.me l.prog w mg base (λ_ _ F=>AgH F T.toTxtG J adF adH adK adL) (by walk_at "b");have oN:=hbf.me l.prog w mg base (λ_ _ F=>AgI F T.toTxtG adN adO adM) (by walk_at "b");have adP:=hbw.me l.prog w mg base (λ_ _ F=>AgM F T.toTxtH J) (by walk_at "b");have adQ:=hby.me l.prog w mg base (λ_ _ F=>AgQ F T.toTxtH J) (by walk_at "b");have adR:=hbx.me l.prog w mg base (λ_ _ F=>AgV F T.toTxtH J) (by walk_at "b");have adS:=hca.me l.prog w mg base (λ_ _ F=>AgZ F T.toTxtH) (by walk_at "b");have adT:=hbz.me l.prog w mg base (λ_ _ F=>Ag7 F T.toTxtH sR hJ hV hW) (by walk_at "b");have MH:=dQ.kL l.prog w mg base (Ui X G ab9) aco acp (λ_ _ F=>Ahi F T.toTxtH ML MG MS) (by walk_at "b");have nV:=haj.fn l.prog w base X G (λ_ _ F=>AhA F T.toTxtG oN) (by walk_at "b");have nX:=hak.fn l.prog w base X G (λ_ _ F=>AhE F T.toTxtG oN) (by walk_at "b");have ox:=ham.fn l.prog w base X G (λ_ _ F=>AhH F T.toTxtG oN nV nX) (by walk_at "b");have oy:=hal.fn l.prog w base X G (λ_ _ F=>AhK F T.toTxtG adP adQ adR adT adS) (by walk_at "b");exact Ah0 Fan T kH ox oy MH MP pc
theorem walk {l:YK}{q:Ta}{B:List Str}{I:(Str->Option Value)->Heap->Prop}{D:S6->Heap->Prop}{d:DefRec}{K:W3->S3}(J:l.most=some 63)(L:d.params.defaults=[])(O:∀ (w:S6) (h:Heap),D w h->(K w.params).In h)(F:∀ (w:S6) (mg:Str->Option Value) (H:Addr) (h:Heap),(K w.params).In h->h.Ns TB mg->mg d.name=some (.ref H) ->
   ∃ fd:Tn,(∀ (s:S0) (u:Value),Wd s fd ⟨[u],[]⟩ [("script",u)])/\∀ base:Heap,(K w.params).In base->base.Ns TB mg->AB l.prog w (K w.params) mg base AE 12 H fd ["script"] (J6 (K w.params))) :
  PySem.W.WalkO q B I D l.row.toRowW d [] (λf vs=>YJ f vs) :=
 L2.aay (n:=63) (k:=12) (x:="script") (CX:=λ_=>AE) (sp:=λw=>J6 (K w.params)) J (by decide) L ⟨rfl,by decide,by decide⟩ O F (λ_ _ a V Y _ hS=>⟨a,V,rfl,hS,Y,λ_=>rfl⟩) λ_ _ _ _ _ z=>z
end
end Lw
local macro_rules | `(tactic| walk_at "f")=>`(tactic| (refine' Lw.bS.of ?a ?l ?c ?k;(case a=>k_is);(case l=>k_is);(case c=>k_is);(case k=>k_is)))
local macro_rules | `(tactic| walk_at "fM")=>`(tactic| (refine' Lw.aK.of ?a ?i ?l ?c ?k;(case a=>k_is);(case i=>k_is);(case l=>k_is);(case c=>k_is);(case k=>k_is)))
local macro_rules | `(tactic| walk_at "fR")=>`(tactic| (refine' Lw.cI.of ?a ?b ?i ?l ?c ?k;(case a=>k_is);(case b=>k_is);(case i=>k_is);(case l=>k_is);(case c=>k_is);(case k=>k_is)))
namespace PySem.W.Fast
def tw6896664100762131346:=0
def tw16774544196174116024:=0
def tw6094827430432053491:=0
def tw17666715581979729713:=0
def tw2918062846905288027:=0
def tw8970518759196123927:=0
def tw5827089497382312523:=0
def tw16545076179471985821:=0
def tw4739896570144587315:=0
def tw17072658431741439188:=0
def tw1854016179376378952:=0
def tw4423796804743063657:=0
def tw13370170120701662254:=0
def tw6339890553556228971:=0
def tw7340920338498995293:=0
def tw10782043233779093559:=0
def tw12839972186714963518:=0
def tw10801150316193844029:=0
def tw10826457582342607364:=0
def tw2159209722087257933:=0
def tw8579316087158089361:=0
def tw376937909215941187:=0
def tw7217093740886005544:=0
def tw8996792596554178679:=0
def tw17383483383864495832:=0
def tw11364805802657272536:=0
def tw4227313118084589672:=0
def tw10624472974888083779:=0
def tw5420166238779893037:=0
def tw17106803077861070057:=0
def tw1189536422992907713:=0
def tw913970858153128450:=0
def tw7272941298878839197:=0
def tw15930480000763693111:=0
def tw9852245319189357736:=0
def tw9304196422446825042:=0
def tw631855706134496773:=0
def tw4508110934759177526:=0
def tw14482986688631102956:=0
def tw16917538088564313427:=0
def tw2305351117487735080:=0
def tw1238641029858455914:=0
def tw11310821278270881362:=0
def tw5185241222662784040:=0
def tw2624752941325355031:=0
def tw13405581988177564185:=0
def tw9432120949853047603:=0
def tw5552112226079261035:=0
def tw4686443876305633572:=0
def tw13080034882936039965:=0
end PySem.W.Fast
open PySem PySem.W PyProof.Rows
set_option maxRecDepth 100000 in
set_option maxHeartbeats 0 in
theorem PySem.Challenge.cw_stephall_k39_whole_ends_of_talks_holds : PySem.Challenge.rw_stephall_k39_whole_ends_of_talks.Holds := by
 w_on;o_law;k_head;(case hw=>w_witness2)
 k_fill
 refine Lw.walk (l:=PySem.Challenge.rw_stephall_k39_whole_ends_of_talks) rfl rfl (λw h Y=>PySem.W.kIn_of Y) ?F;case F =>
  intro w mg fa h KX G iF;exact Lw.all_mk (A:=Lw.mkA) KX G iF (by k_is) (by k_is) (by k_is) (by k_is) (by k_is) (by k_is) (by k_is) (by k_is) (by k_is) (by k_is) (by k_is) (by k_is) (by k_is) (by k_is) (by k_is) (by k_is) (by k_is) (by k_is) (by k_is) (by k_is) (by k_is) (by k_is) (by walk_at "f") (by walk_at "f") (by walk_at "f") (by walk_at "f") (by walk_at "f") (by walk_at "f") (by walk_at "f") (by walk_at "f") (by walk_at "f") (by walk_at "f") (by walk_at "f") (by walk_at "f") (by walk_at "f") (by k_is) (by k_is) (by k_is) (by k_is) (by walk_at "fR") (by walk_at "fR") (by walk_at "fR") (by walk_at "fR") (by walk_at "fR") (by walk_at "fR") (by walk_at "fR") (by walk_at "fR") (by walk_at "fM") (by walk_at "fM") (by walk_at "fM") (by walk_at "fM") (by walk_at "fM") (by walk_at "fM") (by walk_at "fM") (by walk_at "fM") (by walk_at "fM") (by walk_at "fM") (by walk_at "fM") (by walk_at "fM") (by walk_at "fM") (by walk_at "fM") (by walk_at "fM") (by walk_at "fM") (by walk_at "fM") (by walk_at "fM") (by walk_at "fM") (by walk_at "fM") (by walk_at "fM") (by walk_at "fM") (by walk_at "fM") (by walk_at "fM") (by walk_at "fM") (by walk_at "fM") (by walk_at "fM") (by walk_at "fM") (by walk_at "fM") (by walk_at "fM") (by walk_at "fM") (by walk_at "fM") (by k_is) (by k_is) (by k_is) (by k_is) (by k_is) (by k_is) (by k_is) (by k_is) (by k_is) (by k_is) (by k_is) (by k_is) (by k_is) (by k_is) (by k_is) (by k_is) (by k_is) (by k_is) (by k_is) (by k_is) (by k_is) (by k_is) (by k_is) (by k_is) (by k_is) (by k_is) (by k_is) (by k_is) (by k_is) (by k_is) (by k_is) (by k_is) (by k_is) (by k_is) (by k_is) (by k_is) (by k_is) (by k_is) (by k_is) (by k_is) (by k_is) (by k_is) (by k_is) (by k_is) (by k_is) (by k_is) (by k_is) (by k_is) (by k_is) (by k_is) (by k_is) (by k_is) (by k_is) (by k_is) (by k_is) (by k_is) (by k_is) (by k_is) (by k_is) (by k_is) (by k_is) (by k_is) (by k_is) (by k_is) (by k_is) (by k_is) (by k_is) (by k_exc) (by k_exc) (by k_exc) (by k_exc) (by k_exc) (by k_is) (by rfl) (by exact ⟨⟨_,rfl⟩,rfl,rfl,⟨_,rfl⟩,rfl,rfl,⟨_,rfl⟩,rfl,rfl,⟨_,rfl⟩,rfl,rfl,trivial⟩) (by k_is) (by exact (by decide)) (by exact (.cons ⟨_,rfl⟩ (.cons ⟨_,rfl⟩ .nil))) (by k_is) (by exact (by decide)) (by exact (.cons ⟨_,rfl⟩ .nil)) (by k_is) (by exact (by decide)) (by exact (.cons ⟨_,rfl⟩ .nil)) (by k_is) (by exact (by decide)) (by exact (.cons ⟨_,rfl⟩ (.cons ⟨_,rfl⟩ (.cons ⟨_,rfl⟩ (.cons ⟨_,rfl⟩ (.cons ⟨_,rfl⟩ .nil)))))) (by k_is) (by exact (by decide)) (by exact (.cons ⟨_,rfl⟩ (.cons ⟨_,rfl⟩ (.cons ⟨_,rfl⟩ (.cons ⟨_,rfl⟩ (.cons ⟨_,rfl⟩ (.cons ⟨_,rfl⟩ (.cons ⟨_,rfl⟩ (.cons ⟨_,rfl⟩ (.cons ⟨_,rfl⟩ (.cons ⟨_,rfl⟩ .nil))))))))))) (by k_is) (by k_is) (by k_is) (by k_is) (by k_is) (by k_is) (by k_is) (by k_is) (by k_is) (by k_is) (by k_is) (by k_is) (by k_is)
