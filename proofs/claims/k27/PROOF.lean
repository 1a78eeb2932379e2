import PyProof.Rows.All
import Wide.All
import OpenK.AllK
import Wide.FinOn
import Lean
import PyProof.EqAt
import PyProof.EqKinds
import PyProof.TupleCall
import PyProof.NeData
import PyProof.P3In
import PyProof.SliceStr2
import PyProof.StrLaws
import PyProof.WalksEnum
import PyProof.EnumMake
import PyProof.ListRange
import PyProof.Rows.StrInSeq3
import PyProof.Rows.SortWalk
import PyProof.Rows.SortStr
import PyProof.ConsumeWalk
import KE.KSortTup
import PyProof.Rows.SetFrom
import PyProof.CollectWalk
import PyProof.AutoListH
import PyProof.DictCompW
import PyProof.DictWalks
import PyProof.Rows.StrNews
import PyProof.Rows.StrWeight2
import PyProof.StrLawsChain
import PyProof.TupleIter
import PyProof.WalksMore
import KE.KDictList
import PyProof.Rows.StrRules
import PyProof.ZipIter
import PyProof.StrLawsRepr
import PySem.Challenge.RW_stephall_k27_whole_sixty_lines
set_option genSizeOf false
set_option genInjectivity false
set_option bootstrap.genMatcherCode false
set_option compiler.extract_closed false
noncomputable section
local macro_rules | `(tactic| omega)=>`(tactic| first | lia | omega +splitNatSub)
open PySem renaming Value->af,Addr->ar,Str->bf
open PySem.W renaming Frag->TH,findIn->Ue,nsIn->Ur,subIn->Uv,mg_of->UQ,keepIn->U8,typeIn->Vp,kitOne->Vq,clsIn->Vs,mg_none_of->Vt,fnOf->Vx,excIn->Vy,kia_one->VL,plainGet->Wg,emptyDict->Wh,codeIn->Wi,instObj->Wl,hasDictIn->Wt,isFn->Wu,makesIn->Wv,plainOver->Xa,callWith_K->Xy,methodCall_KW->Xz,kitAny->XC,hideAll_get->XM,hideAll->Yp,lookIn->Yt,specialIn->Yu,exmOne->YD,methodObj->Y3,plainGet_of->Zb,takerIn->Zc,OpenLaw->Zw,nsOkIn->Zx,of_hideAll->vV,handedIn->v9,kitx_list->wb,kitx_dict->wc,callWith_K0->wk,cellsFrom_some->wm,tail_of_in->wH,readsIn->xh,findCls->xi,kdl_dict->xS,kitMeta->yt
open PySem renaming Shared->TK,World->TL,Expr->TM,wpAny->TQ,Program->TR,model->TV,wpAny_bind->TX,sizeLine_eq->TZ,FuncData->T3,starEach->T5,eval->T7,wpAny_pure->Ub,Around->Ud,mainGlobals->Uj,backTo->UA,compareOp->UO,bootBuiltins->UY,codeAny->Vh,sysModules->Vk,holding->Vl,standAt->Vo,wpAny_mono->Vu,binaryOp->VC,hashStr->VI,wpAny_holding->VJ,IsEnum->VO,assign->VS,pyNext->VT,backToKw->VU,keywordEach->VX,Builtin->VY,relabel->VZ,getMethod->V7,SetTable->Wb,wpAny_field->Wc,wpAny_truthy_bool->We,swapsWith->Wf,atKey->Wj,Model->Wn,assignEach->Wo,foldedSetIterable->Wr,callWith->Ww,NameKind->Wx,bindL->Wz,bindC->WA,mem_of_lookup->WB,valueAt->WL,relayAll->WM,field->WQ,wpAny_standAt->WV,getItem->WW,wpAny_passesOwn->WY,rawInt->WZ,BindsTo->Xc,codeAny_mono->Xd,Keyword->Xe,sliceBounds->Xg,call_meets->Xh,callerA->Xj,codeAny_builtin->Xk,wpAny_call_entry->Xp,tupleKind->Xr,Operator->Xs,letOwnedTupleGo->Xt,pyIter->Xu,Result->Xw,seqIndex?->XA,layNew->XE,wpAny_rule->XF,GenState->XN,isTrue->XR,wpAny_execs_nil->XS,setItem->XT,attributeBase->XU,Params->XZ,DictEntry->X7,sliceRange->X8,intText?->Yb,wpAny_newObj_type->Yc,wpAny_setField_rec->Yh,PassesOwn->Yr,behindInMarks->Ys,wpAny_call->Yv,wpAny_Call_Name_kw->Yw,seqIndex_of->Yx,subscripted->Yy,typeIs_str->Yz,noteFrame->YE,wpAny_pyIter_enum->YI,wpAny_callSpecial?_slot->YQ,IsEnumOut->YS,ClassData->YZ,Within->Y2,builtinsNs->Y4,wpAny_Name->Y6,wpAny_pyIter_list->Y7,wpAny_pyIter_tuple->Y8,cellsFrom->Zh,seqIndex_neg->Zm,typeIs_int->Zp,call->Zv,codeAny_call_builtin->Zy,checkBuiltinCall->Zz,reprText->ZD,comprehension->ZF,tupleKind_room_in1->ZI,wpAny_newList->ZO,setAddHashedIn->ZR,plainId_quiet->ZT,codeAny_of_tree->ZU,wpAny_askSetting->ZV,sizeLine->vQ,wpAny_eqBool_int->vS,wpAny_execs_cons->vY,wpAny_assign_Name->vZ,wpAny_AugAssign_SubscriptAny->v7,wpAny_loadPart->wa,wpAny_Tuple_spliced->wg,wpAny_List_spliced->wj,slot_list_getitem->wz,fitsIndex_both->wD,wpAny_loadPart_at->wM,wpAny_formatField_str->wV,wpAny_letOwnedTupleGo_enum->wX,wpAny_getItem_of->xc,wpAny_newTuple->xl,wpAny_storeSet_of->xy,wpAny_runValue->xF,wpAny_seqItems->xJ,wpAny_setField->xK,firstArgMember->xN,wpAny_pyIter_zip->xU
open List renaming length_map->TN,replicate->T1,getElem?_map->T6,mem_cons->T9,mem_map->Uc,mem_of_getElem?->Ug,getElem?_eq_getElem->Uh,map_append->Ui,append_assoc->Uk,mem_singleton->Um,length_set->Uo,map_map->Uq,nodup_cons->Uu,getD->Ux,mem_cons_of_mem->Uy,size_toArray->UB,mem_append->UD,not_mem_nil->UH,mem_cons_self->UI,length_append->UK,getElem?_eq_some_iff->UM,map_cons->UR,range->UX,length_cons->U2,length_replicate->U3,map_set->U4,mem_append_right->U5,set_set->U9,map->Va,length_singleton->Ve,append_nil->Vi,take_length->Vn,map_congr_left->Vr,mem_range->Vz,getElem?_set_ne->VA,set_cons_succ->VE,set_cons_zero->VF,length_take->VM,all_eq_true->VN,nodup_append->VP,nodup_nil->VQ,take_add_one->VR,getElem_of_mem->V0,find?_cons->V1,cons_append->Wa,replicate_succ->WE,length_range->WH,lookup_cons->WK,getElem?_set_self->WU,lookup->Xb,map_nil->Xi,getElem_mem->Xo,flatten_cons->XB,mem_append_left->XO,getElem_inj->XQ,length->XX,any_cons->XY,map_replicate->Ya,map_id->Yj,mem_iff_getElem?->Yk,set_comm->Ym,mem_filter->Yq,nil_append->YC,length_nil->YK,lt_trans->YL,range_succ->YU,length_filter_le->YV,perm_middle->YW,count_cons->YY,filterMap_cons->Y5,mem_filterMap->Y9,of_mem_zip->Zg,getElem?_append_left->Zi,take_sublist->Zj,foldl->Zs,eraseIdxIfInBounds_toArray->Zu,length_eq_zero_iff->ZA,take_of_length_le->ZC,idxOf_lt_length_of_mem->ZG,length_erase_le->ZH,le_antisymm->ZK,ext_getElem->ZL,pairwise_map->ZQ,mem_erase_of_ne->ZW,length_pos_of_mem->ZX,filter_append->Z0,filter_cons->Z1,filter_nil->Z2,all_map->Z3,flatMap_append->Z4,mem_or_eq_of_mem_set->Z6,mem_replicate->Z9,count_append->vO,length_drop->wq,foldl_cons->wC,getElem?_eq_none->wJ,drop_zero->wR,mem_of_mem_take->wW,idxOf_cons->wY,pairwise_cons->xj,pairwise_iff_getElem->xu,length_erase_of_mem->xG,find?_append->xV,take_append_drop->xW,any_eq_true->xX,mem_of_find?_eq_some->xY,find?_some->xZ,getElem?_set->yc,find?_eq_none->yh,getElem_take->yk,head?_filter->yn,length_take_le'->yo,toList_toArray->yp,take_succ->yq,length_pos_iff->yr
open PySem.Str renaming ofString->TU,empty->Uw,length->Xf
open Or renaming inr->TY,inl->T2
open PySem.Value renaming ref->T8,str->UU,none->U0,int->U7,bool->XI,type->XJ,isStrOf->Yo,builtin->YF,isInt->Y0,float->Y1,isStrOf_shape->vR
open Nat renaming le_refl->Ua,ne_of_lt->Uz,lt_of_le_of_lt->UE,add_le_add_left->UJ,le_of_ble_eq_true->UP,lt_of_lt_of_le->UW,le_trans->U1,zero_le->Vc,le_succ->Vw,lt_irrefl->V5,le_of_lt->Wm,ne_of_gt->Wq,lt_succ_self->Xx,lt_succ_of_lt->Yf,succ_le_succ->YA,succ_ne_self->ZE,max_le->vP,min_le_left->wO
open PySem.Heap renaming lt_size->Ul,get?_push_of_some->Ut,get?_push_size->UT,SameBut->Vb,size_push->V8,get?_update_self->Zn,size_update->ZP,get?_update_other->wA,get?_push_ne->xm,get?_update_ne->xn
open Option.some renaming inj->Us
open Ne renaming symm->UC
open Option renaming map_eq_some_iff->UG,map_some->Vj,isSome_iff_exists->XW,getD_none->Zo,bind_some->Z7,map_none->wU,isSome_map->xb,map_eq_none_iff->yi
open Sum renaming inr->UL,inl->WT
open Bool renaming false_ne_true->UN,and_eq_true->VD,eq_iff_iff->Ws,eq_false_iff->Xl,false_eq_true->XD,not_eq_true'->wG
open PyProof.Rows renaming seqObj->US,AllBare->V6,envOfC->V9,StrsAre->Xn,callWith_type1->Xv,IntsAre->X6,Subscript_->Zk,subscriptTail->Zl,listUpdate_at->ZM,seqEpoch_at->ZN,subscriptTail_builtinR->wu,slot_list_sort->xp,entry_list_sort->xq,args_list_sort->xr
open PySem.F renaming plainAttrs_list->UZ,slot_list_append->Vf,type_list_append->Vg,called_set->WO,slot_tuple_iterator_next->YR,slot_enumerate_next->YT,slot_dict_get->ZJ,slot_int_rmul->wF,excBase_ValueError->wI,typeOf_object_class->wL,attr_ValueError->wN,slot_list_remove->wZ,entry_list_remove->w5,args_list_remove_2->w6,entry_dict_get->xf,args_dict_get_3->xg,plain_set_new->xC,entry_tuple_iterator_next->xH,args_tuple_iterator_next_1->xI,entry_enumerate_next->xQ,args_enumerate_next_1->xR,plain_list_iadd->xT,slot_list_pop->yd,type_list_pop->ye,slot_list_remove->yf,type_list_remove->yg
open PySem.PassesOwn renaming never->U6,leaving->Z5
open PySem.Obj renaming mapSeq->Vd,putSet->YM,data_mapFields->xM
open Array renaming length_toList->Vm,getElem?_eq_getElem->WI,getElem?_toList->YB,mem_toList_iff->v8,perm_iff_toList_perm->xk,all_toList->yb
open True renaming intro->Vv
open False renaming elim->VB
open PySem.PyData renaming int->VG,depth->VH,str->V4,depthAll->WR,list->WS,eqv->Xm,canLayAll0->XH,canLay0->Yl
open Int renaming emod_nonneg->V2,emod_lt_of_pos->V3,toNat_natCast->WC,le_refl->XG,zero_add->Yi,eq_ofNat_of_zero_le->YJ,le_of_lt->YX,natCast_nonneg->yj,emod_eq_of_lt->ym
open Sum.inr renaming inj->Wd
open PySem.NameKind renaming free->WJ
open PySem.SetTable renaming grown->WN,orStandIn->xw,standIn->xx
open List.Sublist renaming refl->Xq
open Classical renaming byContradiction->Yd
open PySem.W.KasT renaming kasWp_bind->Ye
open PySem.Around renaming under_plainId->Yg,under->Zd
open PySem.SeqAt renaming eqv_refl->Yn
open PySem.Builtin.Str renaming strSliceIndices->YG,occurrences->Za
open ForInStep renaming yield->YH
open PySem.Heap.SameBut renaming update->YN
open PySem.Builtin.SmallTypes renaming nextOf->YO,ownedTupleIsFree->xO,ownedTupleHandOut->xP
open PySem.Code renaming isFrame->Ze,quiet_builtin->wK
open PySem.Calls renaming spliced_cons->Zf,evalArgs_plain->Zq,Name_function_global->vX,spliced_nil->we,callWith_builtin->wB,call_function_entry->xo
open PySem.Builtin.List renaming listTooLong->Zt
open PyProof.Rows.F renaming plain_set_update_loop->ZS,entry_set_update_loop->xB
open PySem.AutoSeq1 renaming wpAny_loadPart'->ZY
open And renaming intro->ZZ
open List.Perm renaming swap->Z8,of_eq->xt,append_right->ya,cons->yl
open PySem.SeqAt.EqAt renaming int_str->vT,str_int->vU
open PySem.MeetsSeq renaming list_remove->xa
set_option Elab.async false
set_option linter.all false
set_option maxRecDepth 100000
set_option maxHeartbeats 4000000
def br{c:Prop}{h:Decidable c}(hc:c){α:Sort u}{t e:α}:ite c t e=t:=if_pos hc
def cZ{c:Prop}{h:Decidable c}(hc:¬c){α:Sort u}{t e:α}:ite c t e=e:=if_neg hc
def c8{p:Prop}[Decidable p](h:p):decide p=true:=decide_eq_true h
def dJ{p:Prop}[Decidable p](h:¬p):decide p=false:=decide_eq_false h
namespace L2
def Ao{n:Nat}(h:Nat.ble n vQ=true:=by rfl):n<=vQ:=UP h
def DM{α:Type}{B R:α->Prop}{G:Prop}(h:∃a,B a/\R a)(q:∀a,B a->R a->G):G:=by obtain⟨a,D,r⟩:=h;exact q a D r
def Ls{α β:Type}{B R:α->β->Prop}{G:Prop}(h:∃a b,B a b/\R a b)(q:∀a b,B a b->R a b->G):G:=by obtain⟨a,b,D,r⟩:=h;exact q a b D r
def AF{α β:Type}{B D R:α->β->Prop}{G:Prop}(h:∃a b,B a b/\D a b/\R a b)(q:∀a b,B a b->D a b->R a b->G):G:=by obtain⟨a,b,I,h2,r⟩:=h;exact q a b I h2 r
def FG{α β:Type}{B D P3 R:α->β->Prop}{G:Prop}(h:∃a b,B a b/\D a b/\P3 a b/\R a b)(q:∀a b,B a b->D a b->P3 a b->R a b->G):G:=by obtain⟨a,b,I,h2,J,r⟩:=h;exact q a b I h2 J r
inductive Ob(P1 P2 R:Prop):Prop
 |mk (h1:P1) (h2:P2) (r:R):Ob P1 P2 R
inductive Oc{α:Type}(P1 R:α->Prop):Prop
 |mk (a) (h1:P1 a) (r:R a):Oc P1 R
inductive Od{α:Type}(P1 P2 R:α->Prop):Prop
 |mk (a) (h1:P1 a) (h2:P2 a) (r:R a):Od P1 P2 R
inductive Oe{α β:Type}(P1 R:α->β->Prop):Prop
 |mk (a b) (h1:P1 a b) (r:R a b):Oe P1 R
inductive Of{α β:Type}(P1 P2 R:α->β->Prop):Prop
 |mk (a b) (h1:P1 a b) (h2:P2 a b) (r:R a b):Of P1 P2 R
inductive Og{α β:Type}(P1 P2 P3 P4 R:α->β->Prop):Prop
 |mk (a b) (h1:P1 a b) (h2:P2 a b) (h3:P3 a b) (h4:P4 a b) (r:R a b):Og P1 P2 P3 P4 R
inductive Oh{α β γ:Type}(P1 R:α->β->γ->Prop):Prop
 |mk (a b c) (h1:P1 a b c) (r:R a b c):Oh P1 R
inductive Oi{α β γ:Type}(P1 P2 P3 P4 R:α->β->γ->Prop):Prop
 |mk (a b c) (h1:P1 a b c) (h2:P2 a b c) (h3:P3 a b c) (h4:P4 a b c) (r:R a b c):Oi P1 P2 P3 P4 R
inductive Oj{α β γ δ:Type}(P1 R:α->β->γ->δ->Prop):Prop
 |mk (a b c d) (h1:P1 a b c d) (r:R a b c d):Oj P1 R
inductive Ol{α β γ δ:Type}(P1 P2 P3 P4 P5 R:α->β->γ->δ->Prop):Prop
 |mk (a b c d) (h1:P1 a b c d) (h2:P2 a b c d) (h3:P3 a b c d) (h4:P4 a b c d) (h5:P5 a b c d) (r:R a b c d):Ol P1 P2 P3 P4 P5 R
inductive Om{α β γ δ ε:Type}(P1 R:α->β->γ->δ->ε->Prop):Prop
 |mk (a b c d e) (h1:P1 a b c d e) (r:R a b c d e):Om P1 R
inductive Oo{α β γ δ ε:Type}(P1 P2 P3 P4 P5 R:α->β->γ->δ->ε->Prop):Prop
 |mk (a b c d e) (h1:P1 a b c d e) (h2:P2 a b c d e) (h3:P3 a b c d e) (h4:P4 a b c d e) (h5:P5 a b c d e) (r:R a b c d e):Oo P1 P2 P3 P4 P5 R
inductive Q81{α β γ δ ε ζ η θ:Type}(P1 R:α->β->γ->δ->ε->ζ->η->θ->Prop):Prop
 |mk (a b c d e f g h) (h1:P1 a b c d e f g h) (r:R a b c d e f g h):Q81 P1 R
inductive Oq{α β γ δ ε ζ η θ ι:Type}(P1 R:α->β->γ->δ->ε->ζ->η->θ->ι->Prop):Prop
 |mk (a b c d e f g h i) (h1:P1 a b c d e f g h i) (r:R a b c d e f g h i):Oq P1 R
def AU (h:B/\D/\R):Ob B D R:=by obtain⟨I,h2,r⟩:=h;exact⟨I,h2,r⟩
def As (h:∃a,B a/\R a):Oc B R:=by obtain⟨a,D,r⟩:=h;exact⟨a,D,r⟩
def AG (h:∃a,B a/\D a/\R a):Od B D R:=by obtain⟨a,I,h2,r⟩:=h;exact⟨a,I,h2,r⟩
def Bv (h:∃a b,B a b/\R a b):Oe B R:=by obtain⟨a,b,D,r⟩:=h;exact⟨a,b,D,r⟩
def BA (h:∃a b,B a b/\D a b/\R a b):Of B D R:=by obtain⟨a,b,I,h2,r⟩:=h;exact⟨a,b,I,h2,r⟩
def Il (h:∃a b,B a b/\D a b/\P3 a b/\I a b/\R a b):Og B D P3 I R:=by obtain⟨a,b,J,h2,L,O,r⟩:=h;exact⟨a,b,J,h2,L,O,r⟩
def C7 (h:∃a b c,B a b c/\R a b c):Oh B R:=by obtain⟨a,b,c,D,r⟩:=h;exact⟨a,b,c,D,r⟩
def F9 (h:∃a b c,B a b c/\D a b c/\P3 a b c/\I a b c/\R a b c):Oi B D P3 I R:=by obtain⟨a,b,c,J,h2,L,O,r⟩:=h;exact⟨a,b,c,J,h2,L,O,r⟩
def DN (h:∃a b c d,B a b c d/\R a b c d):Oj B R:=by obtain⟨a,b,c,d,D,r⟩:=h;exact⟨a,b,c,d,D,r⟩
def Im (h:∃a b c d,B a b c d/\D a b c d/\P3 a b c d/\I a b c d/\J a b c d/\R a b c d):Ol B D P3 I J R:=by obtain⟨a,b,c,d,L,h2,O,V,Y,r⟩:=h;exact⟨a,b,c,d,L,h2,O,V,Y,r⟩
def Ot (h:∃a b c d e,B a b c d e/\R a b c d e):Om B R:=by obtain⟨a,b,c,d,e,D,r⟩:=h;exact⟨a,b,c,d,e,D,r⟩
def Io (h:∃a b c d e,B a b c d e/\D a b c d e/\P3 a b c d e/\I a b c d e/\J a b c d e/\R a b c d e):Oo B D P3 I J R:=by obtain⟨a,b,c,d,e,L,h2,O,V,Y,r⟩:=h;exact⟨a,b,c,d,e,L,h2,O,V,Y,r⟩
def Lu (h:∃a b c d e f g h i,B a b c d e f g h i/\R a b c d e f g h i):Oq B R:=by obtain⟨a,b,c,d,e,f,g,h,i,D,r⟩:=h;exact⟨a,b,c,d,e,f,g,h,i,D,r⟩
end L2
namespace L2
open PySem PySem.Spec PyProof.Rows
abbrev Ay:=Sum Int bf
noncomputable def Fg:Ay->af->Bool
 |.inl k,v=>Y0 k v
 |.inr x,v=>Yo x v
noncomputable def Ou(w:TL):Ay->Int
 |.inl k=>hashInt k
 |.inr x=>VI w x
theorem FH:∀{k:Ay}{v:af},Fg k v=true->(∃i t,k=WT i/\v=U7 i t)\/(∃x t,k=UL x/\v=UU x t)
 |.inl i,v,h=>by
  obtain⟨t,e⟩:=Value.isInt_shape (k:=i) (v:=v) h;exact .inl ⟨i,t,rfl,e⟩
 |.inr x,v,h=>by
  obtain⟨t,e⟩:=vR (x:=x) (v:=v) h;exact .inr ⟨x,t,rfl,e⟩
def Aaa(i:Int)(t:Tok):Fg (.inl i) (.int i t)=true:=by simp[Fg,Y0]
def Ov(x:bf)(t:Tok):Fg (.inr x) (.str x t)=true:=by simp[Fg,Yo]
def Aab(a b:Int):decide ((WT a:Ay)=WT b)=(a == b):=by
 by_cases e:a=b
 .subst e;simp
 .have h:¬(WT a:Ay)=WT b:=λq=>e<|Sum.inl.inj q;rw[dJ h];exact(beq_eq_false_iff_ne.mpr e).symm
def Aac(a b:bf):decide ((UL a:Ay)=UL b)=decide (a=b):=by
 by_cases e:a=b
 .subst e;simp
 .have h:¬(UL a:Ay)=UL b:=λq=>e<|Wd q;rw[dJ h,dJ e]
def Aad(a:Int)(b:bf):decide ((WT a:Ay)=UL b)=false:=dJ λq=>nomatch q
def Aae(a:bf)(b:Int):decide ((UL a:Ay)=WT b)=false:=dJ λq=>nomatch q
noncomputable def BB(prog:TR)(w:TL):PySem.KeyKind prog w Ay where
 is:=Fg
 hash:=Ou w
 inj:=λv a b ha hb=>by
  rcases FH ha with ⟨i,t,rfl,rfl⟩|⟨x,t,rfl,rfl⟩
  .rcases FH hb with ⟨j,u,rfl,e⟩|⟨y,u,rfl,e⟩
   .injection e with e1 _;rw[e1]
   .exact nomatch e
  .rcases FH hb with ⟨j,u,rfl,e⟩|⟨y,u,rfl,e⟩
   .exact nomatch e
   .injection e with e1 _;rw[e1]
 byValue:=λk v h=>by
  rcases FH h with ⟨i,t,rfl,rfl⟩|⟨x,t,rfl,rfl⟩<;>rfl
 pyHash:=λhv h=>by
  rcases FH hv with ⟨i,t,rfl,rfl⟩|⟨x,t,rfl,rfl⟩
  .exact wpAny_pyHash_int h
  .exact wpAny_pyHash_str h
 eqBool:=λhu hv h=>by
  rcases FH hu with ⟨i,t,rfl,rfl⟩|⟨x,t,rfl,rfl⟩
  .rcases FH hv with ⟨j,u,rfl,rfl⟩|⟨y,u,rfl,rfl⟩
   .rw[Aab]at h;exact vS h
   .rw[Aad]at h;exact vT i t y u _ _ _ _ h
  .rcases FH hv with ⟨j,u,rfl,rfl⟩|⟨y,u,rfl,rfl⟩
   .rw[Aae]at h;exact vU x t j u _ _ _ _ h
   .rw[Aac]at h;exact wpAny_eqBool_str h
 «strs»:=λk x t v h=>by
  rcases FH h with ⟨i,u,rfl,e⟩|⟨y,u,rfl,e⟩
  .exact nomatch e
  .injection e with e1 _;subst e1;cases v<;>rfl
def Aaf(prog:TR)(w:TL)(k:Ay)(v:af):(BB prog w).is k v=Fg k v:=rfl
def Aag(prog:TR)(w:TL)(i:Int)(t:Tok):(BB prog w).is (.inl i) (.int i t)=true:=Aaa i t
def Hs(prog:TR)(w:TL)(x:bf)(t:Tok):(BB prog w).is (.inr x) (.str x t)=true:=Ov x t
set_option genInjectivity true in
inductive V where
 |aa|bl (b:Bool)|int (i:Int)|str (x:bf)|cq (b:Array UInt8)|fQ (b:UInt64)|ref (a:ar)|ty (n:String)
 deriving DecidableEq
def AH:V->af->Prop
 |.aa,u=>u=U0
 |.bl b,u=>u=XI b
 |.int i,u=>∃t,u=U7 i t
 |.str x,u=>∃t,u=UU x t
 |.cq b,u=>∃t,u=Value.bytes b t
 |.fQ b,u=>∃t,u=Y1 b t
 |.ref a,u=>u=T8 a
 |.ty n,u=>u=XJ n
abbrev AA:List V->List af->Prop:=Paired AH
def AA.length (r:AA xs us):xs.length=us.length:=Paired.length r
theorem AA.get:∀{xs:List V}{us:List af}{i:Nat}{x:V},AA xs us->xs[i]?=some x->∃u,us[i]?=some u/\AH x u
 |_,_,_,_,.nil,e=>by simp at e
 |_,_,0,_,.cons r _,e=>by simp at e;subst e;exact⟨_,rfl,r⟩
 |_,_,i+1,x,.cons _ t,e=>by
  obtain⟨u,B,h2⟩:=As (AA.get (i:=i) (x:=x) t (by simpa using e));exact⟨u,by simpa using B,h2⟩
theorem AA.set (r:AH x u):∀{xs:List V}{us:List af}(i:Nat),AA xs us->AA (xs.set i x) (us.set i u)
 |_,_,_,.nil=>.nil
 |_,_,0,.cons _ t=>.cons r t
 |_,_,i+1,.cons q t=>.cons q (AA.set r i t)
theorem AA.append:∀{xs ys:List V}{us ws:List af},AA xs us->AA ys ws->AA (xs++ys) (us++ws)
 |_,_,_,_,.nil,s=>s
 |_,_,_,_,.cons r t,s=>.cons r (AA.append t s)
theorem AA.take:∀{xs:List V}{us:List af}(n:Nat),AA xs us->AA (xs.take n) (us.take n)
 |_,_,0,_=>.nil
 |_,_,_+1,.nil=>.nil
 |_,_,n+1,.cons r t=>.cons r (AA.take n t)
theorem AA.drop:∀{xs:List V}{us:List af}(n:Nat),AA xs us->AA (xs.drop n) (us.drop n)
 |_,_,0,r=>r
 |_,_,_+1,.nil=>.nil
 |_,_,n+1,.cons _ t=>AA.drop n t
def C8:Option V->Option af->Prop
 |some v,some u=>AH v u
 |none,none=>True
 |_,_=>False
def KV{κ:Type}:List (κ×V)->List (κ×af)->Prop:=Paired λ(p:κ×V) (q:κ×af)=>p.1=q.1/\AH p.2 q.2
noncomputable def kV:Ay->V
 |.inl i=>.int i
 |.inr x=>.str x
inductive HO where
 |lst (xs:List V)
 |tup (xs:List V)
 |dK (kvs:List (Ay×V))|dT (kvs:List (List Ay×V))
 |set (S:Int->Bool) (n:Nat)
 |ins (C dx:ar) (fs:List (bf×V))
 |own (x:ar)
 |xd (fs:List (bf×V))
 |met (f x:ar)
 |cF (lo hi:Int)
 |bW (o:Obj) (u:HO)
 |fe (ps:Array af)
 |ext (φ:Heap->Prop)
abbrev Hp:=ar->Option HO
noncomputable def upd(H:Hp)(a:ar)(o:HO):Hp:=λb=>if b=a then some o else H b
def Aq:upd H a o a=some o:=by unfold upd;rw[br rfl]
def Aw (h:b≠a):upd H a o b=H b:=by unfold upd;rw[cZ h]
def FI:upd (upd H a o) a u=upd H a u:=by funext b;unfold upd;split<;>rfl
def JN{H:Hp}{a b:ar}{o u:HO}(h:H a=some o)(h':H b=some u)(d:o≠u):a≠b:=by intro e;subst e;rw[h]at h';exact d<|Us h'
def Ce{H:Hp}{a b:ar}{o:HO}(h:H a=some o)(h':H b=none):a≠b:=by intro e;subst e;rw[h]at h';cases h'
section
variable (P:TR)(w:TL)
def Bs(H:Hp)(h:Heap)(a:ar):HO->Prop
 |.lst xs=>xs.length<=sizeLine/\∃(its:List af)(n:Nat),AA xs its/\h.get? a=some { cls:=.type "list",data:=.seq its.toArray n }
 |.tup xs=>xs.length<=sizeLine/\∃its:List af,AA xs its/\IsTup h a its.toArray
 |.dK kvs=>kvs.length<=sizeLine/\(a == Vk)=false/\∃vs,KV kvs vs/\h.DictOf (BB P w) a vs
 |.dT kvs=>kvs.length<=sizeLine/\(a == Vk)=false/\∃xs:List (List Ay×ar×af),
   Paired (λ(p:List Ay×V) (q:List Ay×ar×af)=>p.1=q.1/\H q.2.1=some (.tup (p.1.map kV))/\AH p.2 q.2.2) kvs xs /\
   ∃o es ep,h.get? a=some o/\o.ExactDict/\o.data=.dict es ep/\es.toList=xs.map (entryOfKey (Xr (BB P w)))/\(xs.map (·.1)).Nodup
 |.set S n=>h.SetOf (intKind P w) a S n
 |.ins C dx fs=>H dx=some (.own a)/\fs.length<=1000/\dx≠a/\h.get? a=some (Wl C dx) /\
   ∃mA,h.Ns1 dx mA/\(∀f,C8 (fs.lookup f) (mA f))/\Y2 mA (fs.map (·.1))
 |.own _=>∃o,h.get? a=some o
 |.xd fs=>∃mA,h.Ns1 a mA/\∀f,C8 (fs.lookup f) (mA f)
 |.cF lo hi=>∃t u v,h.get? a=some { cls:=.type "range",data:=.fields #[.int lo t,.int hi u,.int 1 v] }
 |.bW o u=>h.get? a=some o/\Bs H h a u
 |.fe ps=>h.get? a=some { cls:=.none,data:=.fields ps }
 |.met f x=>h.get? a=some (Y3 (.ref f) (.ref x))
 |.ext φ=>φ h/\(∃o,h.get? a=some o)/\∀h1 h2:Heap,φ h1->(∀o,h1.get? a=some o->h2.get? a=some o)->φ h2
def A1(H:Hp)(h:Heap):Prop:=∀a o,H a=some o->Bs P w H h a o
end
section
variable {P:TR}{w:TL}{H H':Hp}{h h':Heap}{a:ar}{o:HO}
def Bs.lt(x:Bs P w H h a o):a<h.objs.size:=by
 cases o with
 |lst D=>obtain⟨_,_,_,_,e⟩:=x;exact Ul e
 |tup D=>obtain⟨_,_,_,p⟩:=x;exact p.lt
 |dK B=>obtain⟨_,_,_,_,o,_,_,e,_⟩:=AU x;exact Ul e
 |dT B=>obtain⟨_,_,_,_,o,_,_,e,_⟩:=AU x;exact Ul e
 |set S n=>obtain⟨o,_,_,_,e,_⟩:=DN x;exact Ul e
 |ins C dx fs=>obtain⟨_,_,_,e,_⟩:=AU x;exact Ul e
 |own y=>obtain⟨_,e⟩:=x;exact Ul e
 |xd fs=>obtain⟨_,⟨_,_,_,e,_⟩,_⟩:=As x;exact Ul e
 |cF lo I=>obtain⟨_,_,_,e⟩:=x;exact Ul e
 |bW J u=>obtain⟨e,_⟩:=x;exact Ul e
 |fe L=>exact Ul (show h.get? a=some _ from x)
 |met f y=>exact Ul (show h.get? a=some _ from x)
 |ext φ=>obtain⟨_,⟨_,e⟩,_⟩:=AU x;exact Ul e
theorem Paired.lQ:∀{B:List α}{l₂:List β},Paired F B l₂->(∀a b,F a b->G a b)->Paired G B l₂
 |_,_,.nil,_=>.nil
 |_,_,.cons r t,f=>.cons (f _ _ r) (Paired.lQ t f)
def Bs.dw(x:Bs P w H h a o)(k:∀b u,(b=a\/H b=some (.own a))->h.get? b=some u->h'.get? b=some u)(V:∀b,H b=some (.own a)->H' b=some (.own a))(Y:∀b xs,H b=some (.tup xs)->H' b=some (.tup xs)):Bs P w H' h' a o:=by
 induction o with
 |lst xs=>obtain⟨z,its,n,r,e⟩:=x;exact⟨z,its,n,r,k _ _ (.inl rfl) e⟩
 |tup xs=>obtain⟨z,its,r,B,e,c⟩:=x;exact⟨z,its,r,B,k _ _ (.inl rfl) e,c⟩
 |dK I=>obtain⟨z,y,vs,r,B,es,D,e,c⟩:=AU x;exact⟨z,y,vs,r,B,es,D,k _ _ (.inl rfl) e,c⟩
 |dT I =>
  obtain⟨z,y,xs,r,B,es,D,e,c⟩:=AU x;exact⟨z,y,xs,Paired.lQ r λp q z=>⟨z.1,Y _ _ z.2.1,z.2.2⟩,B,es,D,k _ _ (.inl rfl) e,c⟩
 |set S n=>obtain⟨B,es,D,t,e,c⟩:=DN x;exact⟨B,es,D,t,k _ _ (.inl rfl) e,c⟩
 |ins C dx fs =>
  obtain⟨d,z,ne,e,J,⟨L,es,D,e2,c⟩,r⟩:=AU x;exact⟨V _ d,z,ne,k _ _ (.inl rfl) e,J,⟨L,es,D,k _ _ (.inr d) e2,c⟩,r⟩
 |own y=>obtain⟨B,e⟩:=x;exact⟨B,k _ _ (.inl rfl) e⟩
 |xd fs=>obtain⟨J,⟨L,es,D,e,c⟩,r⟩:=As x;exact⟨J,⟨L,es,D,k _ _ (.inl rfl) e,c⟩,r⟩
 |cF lo hi=>obtain⟨t,u,v,e⟩:=x;exact⟨t,u,v,k _ _ (.inl rfl) e⟩
 |bW B u ih=>obtain⟨e,q⟩:=x;exact⟨k _ _ (.inl rfl) e,ih q⟩
 |fe O =>
  have e:h.get? a=some { cls:=.none,data:=.fields O }:=x;show h'.get? a=some { cls:=.none,data:=.fields O };exact k a _ (.inl rfl) e
 |met f y =>
  have e:h.get? a=some (Y3 (.ref f)<|.ref y):=x;show h'.get? a=some (Y3 (.ref f)<|.ref y);exact k a _ (.inl rfl) e
 |ext φ=>obtain⟨p,⟨o,e⟩,st⟩:=AU x;exact⟨st _ _ p λo q=>k _ _ (.inl rfl) q,⟨o,k _ _ (.inl rfl) e⟩,st⟩
def A1.lt(x:A1 P w H h)(e:H a=some o):a<h.objs.size:=(x a o e).lt
def A1.fresh(x:A1 P w H h)(e:h.objs.size<=a):H a=none:=by
 cases q:H a with
 |none=>rfl
 |some u=>exact absurd (UW (x.lt q) e)<|V5 _
def A1.kept(x:A1 P w H h)(k:∀b u,h.get? b=some u->h'.get? b=some u):A1 P w H h':=λa o e =>
 (x a o e).dw (λb u _ q=>k b u q) (λ_ q=>q) λ_ _ q=>q
def A1.laid(x:A1 P w H h)(k:∀b u,h.get? b=some u->h'.get? b=some u)(D:h.objs.size<=a)(new:Bs P w (upd H a o) h' a o):A1 P w (upd H a o) h':=λb u e=>by
 have B:=x.fresh D;by_cases hb:b=a
 .subst hb;rw[Aq]at e;cases e;exact new
 .rw[Aw hb]at e;exact(x b u e).dw (λc v _ q=>k c v q) (λc q=>by rwa[Aw<|Ce q B]) λc I q=>by rwa[Aw<|Ce q B]
end
def Rd(H:Hp)(a:ar)(u:HO):Prop:=H a=some u\/∃o,H a=some (.bW o u)
def Rd.ok (r:Rd H a u)(x:A1 P w H h):Bs P w H h a u:=by
 rcases r with r|⟨o,r⟩
 .exact x a u r
 .obtain ⟨_,q⟩:=x a _ r;exact q
def Ip:Option HO->Prop
 |some (.lst _)=>True
 |some (.dK _)=>True
 |some (.dT _)=>True
 |some (.set _ _)=>True
 |some (.ins _ _ _)=>True
 |some (.ext _)=>True
 |_=>False
section
variable {P:TR}{w:TL}{H:Hp}{h h':Heap}{x e:ar}{o':HO}
def A1.write(ok:A1 P w H h)(B:Ip (H x))(L:e=x\/H e=some (.own x))(k:∀b u,b≠e->h.get? b=some u->h'.get? b=some u)(Y:∃u,h'.get? e=some u)(new:Bs P w (upd H x o') h' x o'):A1 P w (upd H x o') h':=λb u q=>by
 have O:∀c y,H c=some (.own y)->c≠x:=λc y r z=>by subst z;rwa[r]at B
 have J:∀c D,H c=some (.tup D)->c≠x:=λc D r z=>by subst z;rwa[r]at B
 by_cases hb:b=x
 .subst hb;rw[Aq]at q;cases q;exact new
 .rw[Aw hb]at q;by_cases I:b=e
  .have V:H b=some (.own x):=by
    rcases L with z|z
    .exact absurd (I.trans z) hb
    .rwa[I]
   rw [q]at V;cases V;obtain⟨v,hv⟩:=Y;exact⟨v,by rwa[I]⟩
  .refine (ok b u q).dw (λc v hc r=>k c v ?_ r) (λc r=>by rwa[Aw<|O c b r]) λc D r=>by rwa[Aw<|J c D r]
   rcases hc with rfl|hc
   .exact I
   .rintro rfl;rcases L with z|z
    .exact O c b hc z
    .rw[hc]at z;cases z;exact hb rfl
end
structure Un(fs ex:List ar)(H H':Hp)(h h':Heap):Prop where
 keep:∀b o,h.get? b=some o->H b=none->b ∉ fs->b ∉ ex->h'.get? b=some o
 slot:∀b o,h.get? b=some o->H b=none->b∈fs->b ∉ ex->∃sl,h'.get? b=some { o with slots:=sl }
 free:∀b o,h.get? b=some o->H b=none->b ∉ ex->H' b=none
 there:∀b o,h.get? b=some o->b ∉ ex->∃o',h'.get? b=some o'
 ak:∀b xs,H b=some (.tup xs)->H' b=some (.tup xs)
 cN:∀b o u,H b=some (.bW o u)->H' b=some (.bW o u)
 cW:∀b ps,H b=some (.fe ps)->∃more,H' b=some (.fe (ps++more))
section
variable {fs fh ex ex':List ar}{H H1 H2:Hp}{h h1 h2 h':Heap}{a x e:ar}{o:HO}
def Un.any (u:Un fs ex H H1 h h1)(q:h.get? b=some B)(n:H b=none)(hx:b ∉ ex):∃D,h1.get? b=some { B with slots:=D }:=by
 by_cases hb:b∈fs
 .exact u.slot b B q n hb hx
 .exact ⟨B.slots,u.keep b B q n hb hx⟩
def Un.kept(k:∀b u,h.get? b=some u->h'.get? b=some u):Un fs ex H H h h' :=
 ⟨λb B q _ _ _=>k b B q,λb B q _ _ _=>⟨B.slots,k b B q⟩,λ_ _ _ n _=>n,λb B q _=>⟨B,k b B q⟩,λ_ _ q=>q,λ_ _ _ q=>q,λ_ D q=>⟨#[],by rw[q];simp⟩⟩
def Un.refl:Un fs ex H H h h:=Un.kept λ_ _ q=>q
theorem Un.laid(k:∀b u,h.get? b=some u->h'.get? b=some u)(D:h.objs.size<=a)(B:H a=none):Un fs ex H (upd H a o) h h' where
 keep:=λb u q _ _ _=>k b u q
 slot:=λb u q _ _ _=>⟨u.slots,k b u q⟩
 free:=λb u q n _=>by rw[Aw (Uz (UW (Ul q) D))];exact n
 there:=λb u q _=>⟨u,k b u q⟩
 ak:=λb I q=>by rw[Aw (Ce q B)];exact q
 cN:=λb u I q=>by rw[Aw (Ce q B)];exact q
 cW:=λb J q=>⟨#[],by rw[Aw (Ce q B),q];simp⟩
def Un.write(B:Ip (H x))(J:e=x\/H e=some (.own x))(k:∀b u,b≠e->h.get? b=some u->h'.get? b=some u)(L:∃u,h'.get? e=some u):Un fs ex H (upd H x o) h h':=by
 have hx:∀b,H b=none->b≠x:=λb n z=>by subst z;rwa[n]at B
 have hb:∀b,H b=none->b≠e:=λb n z=>by
  subst z;rcases J with r|r
  .exact hx b n r
  .rw[n]at r;cases r
 have D:∀b u,H b=some u->¬Ip (some u)->b≠x:=λb u q nm z=>by subst z;rw[q]at B;exact nm B
 refine⟨λb u q n _ _=>k b u (hb b n) q,λb u q n _ _=>⟨u.slots,k b u (hb b n) q⟩,λb u q n _=>by rwa[Aw<|hx b n],λb u q _=>?_,
  λb O q=>by rwa[Aw<|D b _ q λz=>z],λb u O q=>by rwa[Aw<|D b _ q λz=>z],λb V q=>⟨#[],by rw[Aw<|D b _ q λz=>z,q];simp⟩⟩
 by_cases I:b=e
 .subst I;exact L
 .exact ⟨u,k b u I q⟩
end
noncomputable def JO(h:Heap)(H:Hp):List ar:=(UX h.objs.size).filter λa=>(H a).isSome
def FJ(h:Heap)(H:Hp):Heap:=Yp h (JO h H)
def Aah(h:Heap)(H:Hp):(FJ h H).objs.size=h.objs.size:=PySem.W.hideAll_size _ _
def Aai (e:h.get? b=some o)(n:H b=none):(FJ h H).get? b=some o :=
 XM _ e λB=>by
  have q:(H b).isSome=true:=(Yq.mp B).2;rw[n]at q;simp at q
def Aaj (e:(FJ h H).get? b=some o):h.get? b=some o/\H b=none:=by
 have B:h.get? b=some o:=vV (JO h H) e;refine⟨B,?_⟩;cases q:H b with
 |none=>rfl
 |some x =>
  have D:b∈JO h H:=Yq.mpr ⟨Vz.mpr<|Ul B,by simp[q]⟩;have z:(FJ h H).get? b=none:=PySem.W.hideAll_none (JO h H) D;rw[z]at e;cases e
structure Mod(K:TH)(mg:bf->Option af)(base:Heap):Prop where
 d2:K.In base
 glob:base.Ns Uj mg
 blt:∃mb,base.Ns Y4 mb/\∀x:bf,x≠"__name__"->mb x=UY x
 nolimit:base.NoLimit
structure Cx where
 prog:TR
 w:TL
 K:TH
 mg:bf->Option af
 base:Heap
 A:Ud
 N:List bf
 s₀:TK
 H₀:Hp
 env:Env
 outer:List Env
 stack:List Env
 ex:List ar
 fn:bf->Bool
 calm:Bool
 pn:List (ar×Obj)
 xe:af->TK->Prop
noncomputable def Dh(l:List Env):List ar:=l.filterMap (·.frame)
abbrev Cx.fs(X:Cx):List ar:=Dh X.outer
def JP(sc:Scope)(x:bf):Prop:=sc.names.lookup x=some .local\/sc.names.lookup x=some .cell\/sc.names.lookup x=some .free
def Ht(sc:Scope)(x:bf):Prop:=sc.names.lookup x=some .local\/sc.names.lookup x=some .cell
def Ow(env:Env)(h:Heap)(m:bf->Option af)(x:bf)(u:af):Prop :=
 (env.kindOf x=some .local/\m x=some u)\/((env.kindOf x=some .cell\/env.kindOf x=some .free)/\∃c,env.cells.lookup x=some c/\h.IsCell c (some u))
structure Cx.Ok(X:Cx):Prop where
 mod:Mod X.K X.mg X.base
 kind:X.env.scope.kind=.function
 glob:X.env.globals=Uj
 blt:X.env.builtins=Y4
 above:X.s₀.heap.objs.size<=X.env.locals
 inj:∀x y c,X.env.cells.lookup x=some c->X.env.cells.lookup y=some c->x=y
 has:∀x,(X.env.kindOf x=some .cell\/X.env.kindOf x=some .free)->∃c,X.env.cells.lookup x=some c
 dA:∀x c,X.fn x=true->X.env.cells.lookup x=some c->X.s₀.heap.objs.size<=c
 hd:X.calm=true->X.A.handled=none
 frames:X.A.frames=some X.stack
 aR:X.stack=X.outer\/(X.stack=X.env::X.outer/\X.env.frame=some X.env.locals)
 fj:∀b∈X.ex,b≠X.env.locals/\∀x c,X.env.cells.lookup x=some c->c≠b
 bs:∀b o,X.base.get? b=some o->X.s₀.heap.get? b=some o/\X.H₀ b=none
 cG:X.base.objs.size<=X.s₀.heap.objs.size
 dB:∀b o,X.base.get? b=some o->b ∉ X.ex
 dC:∀b∈X.ex,b ∉ X.fs
 bD:X.s₀.heap.FunFrames X.base X.outer
 cO:∀b∈X.fs,X.H₀ b=none
structure Ad(X:Cx)(π:List (ar×Obj))(σ:List (Option V))(H:Hp)(s:TK):Prop where
 ok:X.Ok
 os:s.os=X.s₀.os
 bare:V6 s.gens
 base:Un X.fs X.ex X.H₀ H X.s₀.heap s.heap
 loc:∃m,s.heap.Ns X.env.locals m/\∀(i:Nat)(x:bf)(v:V),X.N[i]?=some x->σ[i]?=some (some v)->JP X.env.scope x->∃u,AH v u/\Ow X.env s.heap m x u
 cell:∀x c,X.env.cells.lookup x=some c->∃v,s.heap.IsCell c v
 free:H X.env.locals=none
 bQ:∀x c,X.env.cells.lookup x=some c->H c=none
 pin:∀p∈X.pn++π,s.heap.get? p.1=some p.2/\H p.1=none/\p.1≠X.env.locals/\p.1 ∉ X.fs/\∀v,p.2.data≠.cell v
 ai:A1 X.prog X.w H s.heap
 len:σ.length=X.N.length
section
variable {X:Cx}{π:List (ar×Obj)}{σ:List (Option V)}{H H':Hp}{s:TK}{h':Heap}
def Cx.Ok.aab (ok:X.Ok)(e:X.base.get? b=some o):b ∉ X.fs:=λhb=>by
 have:=(ok.bD.mem hb).1;rw[e]at this;cases this
def Ad.bs(I:Ad X π σ H s):∀b o,X.base.get? b=some o->s.heap.get? b=some o/\H b=none:=λb o e =>
 ⟨I.base.keep b o (I.ok.bs b o e).1 (I.ok.bs b o e).2 (I.ok.aab e)<|I.ok.dB b o e,I.base.free b o (I.ok.bs b o e).1 (I.ok.bs b o e).2<|I.ok.dB b o e⟩
def Ad.bk(I:Ad X π σ H s):∀b o,X.base.get? b=some o->s.heap.get? b=some o:=λb o e=>(I.bs b o e).1
def Ad.mod(I:Ad X π σ H s):Mod X.K X.mg X.base:=I.ok.mod
def Ad.aN(I:Ad X π σ H s):X.K.In s.heap:=I.ok.mod.d2.keeps I.bk
def Ad.lt(I:Ad X π σ H s):X.env.locals<s.heap.objs.size:=let ⟨_,B,_⟩:=I.loc;B.lt
def Ad.sz(I:Ad X π σ H s):X.s₀.heap.objs.size<=s.heap.objs.size:=U1 I.ok.above<|Wm I.lt
def Ad.aac(I:Ad X π σ H s){a:ar}(h:s.heap.objs.size<=a):a ∉ X.fs:=λhb=>by
 obtain⟨_,o,B,_⟩:=I.ok.bD.mem hb;exact absurd (UW (Ul B)<|U1 I.sz h)<|V5 _
def Ad.d3(I:Ad X π σ H s):∀x c,X.env.cells.lookup x=some c->c≠X.env.locals:=λx c e z=>by
 obtain⟨v,o,B,hd⟩:=Bv<|I.cell x c e;obtain⟨m,⟨L,es,O,D,J,_⟩,_⟩:=As I.loc;rw[z,D]at B;cases B;rw[J]at hd;cases hd
def Ad.bD(I:Ad X π σ H s):s.heap.FunFrames X.base X.outer:=by
 have all:∀(l:List Env),(∀b∈Dh l,b∈X.fs)->X.s₀.heap.FunFrames X.base l->s.heap.FunFrames X.base l:=by
  intro l;induction l with
  |nil=>intro _ _;trivial
  |cons env r ih =>
   intro hs J;obtain⟨hk,⟨L,o,B,O,Y,hd⟩,hr⟩:=AU J;have D:L∈X.fs:=hs L (by unfold Dh;rw[Y5,B];exact UI);obtain⟨sl,e⟩:=I.base.slot L o Y (I.ok.cO L D) D λz=>I.ok.dC L z D;exact⟨hk,⟨L,_,B,O,e,hd⟩,ih (λb hb=>hs b<|by unfold Dh;rw[Y5,B];exact Uy _ hb) hr⟩
 exact all X.outer (λ_ hb=>hb) I.ok.bD
def Ad.stack(I:Ad X π σ H s):s.heap.FunFrames X.base X.stack:=by
 rcases I.ok.aR with e|⟨e,B⟩
 .rw[e];exact I.bD
 .rw[e];obtain⟨m,D,_⟩:=As I.loc;refine .cons (by rw[I.ok.kind];decide) B D ?_ I.bD;exact Heap.get?_none_of_le<|U1 I.ok.cG I.ok.above
def Ad.d4(I:Ad X π σ H s):∀b∈Dh X.stack,b∈X.env.locals::X.fs:=λb hb=>by
 rcases I.ok.aR with e|⟨e,B⟩
 .rw[e]at hb;exact Uy _ hb
 .rw[e]at hb;unfold Dh at hb;rwa[Y5,B]at hb
def Ad.lS(I:Ad X π σ H s):∀b∈Dh X.stack,H b=none:=λb hb=>by
 rcases T9.mp (I.d4 b hb)with e|hb
 .rw[e];exact I.free
 .obtain ⟨_,o,B,_⟩:=I.ok.bD.mem hb;exact I.base.free b o B (I.ok.cO b hb) λz=>I.ok.dC b z hb
def Ad.step{g':Array XN}{t':Nat}{d':Drawn}{ch:List ar}(I:Ad X π σ H s)(L:∀b∈ch,(b∈X.ex\/X.s₀.heap.objs.size<=b)/\b≠X.env.locals/\(∀x c,X.env.cells.lookup x=some c->c≠b)/\∀p∈X.pn++π,p.1≠b)(keep:∀b o,b≠X.env.locals->b ∉ X.fs->b ∉ ch->s.heap.get? b=some o->H b=none->h'.get? b=some o)(slot:∀b o,b≠X.env.locals->b∈X.fs->b ∉ ch->s.heap.get? b=some o->H b=none->∃sl,h'.get? b=some { o with slots:=sl })(free:∀b o,b ∉ ch->s.heap.get? b=some o->H b=none->H' b=none)(there:∀b o,b ∉ ch->s.heap.get? b=some o->∃o',h'.get? b=some o')(ak:∀b xs,H b=some (.tup xs)->H' b=some (.tup xs))(cN:∀b o u,H b=some (.bW o u)->H' b=some (.bW o u))(cW:∀b ps,H b=some (.fe ps)->∃more,H' b=some (.fe<|ps++more))(ns:∀m,s.heap.Ns X.env.locals m->h'.Ns X.env.locals m)(ai:A1 X.prog X.w H' h')(hg:V6 g') :
  Ad X π σ H' { s with heap:=h',gens:=g',drawn:=d',toks:=t' }:=by
 have cY:∀b o,X.s₀.heap.get? b=some o->b≠X.env.locals:=λb o e=>Uz<|UW (Ul e) I.ok.above;have jX:∀b o,X.s₀.heap.get? b=some o->b ∉ X.ex->b ∉ ch:=λb o e hx hb=>by
  rcases(L b hb).1 with z|z
  .exact hx z
  .exact absurd (UW (Ul e) z) (V5 _)
 have B:∀x c,X.env.cells.lookup x=some c->∀v,s.heap.IsCell c v->h'.IsCell c v:=λx c e v zz=>DM zz λo J hd=>by
  have O:c ∉ ch:=λz=>(L c z).2.2.1 x c e rfl;by_cases hc:c∈X.fs
  .obtain ⟨sl,q⟩:=slot c o (I.d3 x c e) hc O J<|I.bQ x c e;exact⟨_,q,hd⟩
  .exact ⟨o,keep c o (I.d3 x c e) hc O J<|I.bQ x c e,hd⟩
 refine⟨I.ok,I.os,hg,⟨λb o e n hb hx=>?_,λb o e n hb hx=>?_,λb o e n hx=>?_,λb o e hx=>?_,λb xs e=>ak b xs<|I.base.ak b xs e,λb o xs e=>cN b o xs<|I.base.cN b o xs e,λb ps e=>?_⟩,?_,λx c e=>?_,?_,λx c e=>?_,λp hp=>?_,ai,I.len⟩
 .exact keep b o (cY b o e) hb (jX b o e hx) (I.base.keep b o e n hb hx) (I.base.free b o e n hx)
 .obtain ⟨sl,D⟩:=I.base.slot b o e n hb hx;obtain⟨gO,Y⟩:=slot b _ (cY b o e) hb (jX b o e hx) D<|I.base.free b o e n hx;exact⟨gO,Y⟩
 .obtain ⟨o',D⟩:=I.base.there b o e hx;exact free b o' (jX b o e hx) D<|I.base.free b o e n hx
 .obtain ⟨o',D⟩:=I.base.there b o e hx;exact there b o' (jX b o e hx) D
 .obtain ⟨m1,D⟩:=I.base.cW b ps e;obtain⟨m2,Y⟩:=cW b _ D;exact⟨m1++m2,by rw[Y,Array.append_assoc]⟩
 .obtain ⟨m,hn,hl⟩:=As I.loc;refine⟨m,ns m hn,λi x v D Y e3=>?_⟩;obtain⟨u,r,l⟩:=As<|hl i x v D Y e3;refine⟨u,r,?_⟩;rcases l with l|⟨k,c,e,z⟩
  .exact .inl l
  .exact .inr ⟨k,c,e,B x c e _ z⟩
 .obtain ⟨v,z⟩:=I.cell x c e;exact⟨v,B x c e v z⟩
 .obtain ⟨m,⟨o,_,_,J,_⟩,_⟩:=As I.loc;exact free _ o (λz=>(L _ z).2.1 rfl) J I.free
 .obtain ⟨v,o,J,hd⟩:=Bv<|I.cell x c e;exact free c o (λz=>(L c z).2.2.1 x c e rfl) J<|I.bQ x c e
 .obtain ⟨e,n,ne,nf,d⟩:=AU<|I.pin p hp;have O:p.1 ∉ ch:=λz=>(L p.1 z).2.2.2 p hp rfl;exact⟨keep p.1 p.2 ne nf O e n,free p.1 p.2 O e n,ne,nf,d⟩
def Ad.un (I:Ad X π σ H s)(u:Un X.fs [] H H' s.heap h')(L:A1 X.prog X.w H' h'):Ad X π σ H' { s with heap:=h',toks:=t' }:=by
 obtain⟨m,⟨o,es,ep,D,r⟩,_⟩:=As<|id I.loc;obtain⟨sl,O⟩:=u.any D I.free (by simp);exact I.step (g':=s.gens) (d':=s.drawn) (ch:=[]) (λ_ z=>nomatch z) (λb o _ hb _ e n=>u.keep b o e n hb<|by simp) (λb o _ hb _ e n=>u.slot b o e n hb<|by simp) (λb o _ e n=>u.free b o e n<|by simp) (λb o _ e=>u.there b o e<|by simp) u.ak u.cN u.cW (λm' Y=>by
  obtain⟨o',B,lT,J,r'⟩:=C7 Y;rw[D]at J;cases J;exact⟨_,B,lT,O,r'⟩) L I.bare
def Ad.call (I:Ad X π σ H s)(u:Un (Dh X.stack) ch H H' s.heap h')(Y:A1 X.prog X.w H' h')(hg:V6 g')(J:∀b∈ch,(b∈X.ex\/X.s₀.heap.objs.size<=b)/\b≠X.env.locals/\(∀x c,X.env.cells.lookup x=some c->c≠b)/\∀p∈X.pn++π,p.1≠b):
  Ad X π σ H' { s with heap:=h',gens:=g',drawn:=d',toks:=t' }:=by
 obtain⟨m,⟨o,es,ep,L,r⟩,_⟩:=As<|id I.loc;obtain⟨sl,B⟩:=u.any L I.free λz=>(J _ z).2.1 rfl;exact I.step (ch:=ch) J (λb o B hb hc e n=>u.keep b o e n (λz=>(T9.mp<|I.d4 b z).elim B hb) hc) (λb o _ _ hc e n=>u.any e n hc) (λb o hc e n=>u.free b o e n hc) (λb o hc e=>u.there b o e hc) u.ak u.cN u.cW (λm' hm=>by
  obtain⟨o',D,lT,O,r'⟩:=C7 hm;rw[L]at O;cases O;exact⟨_,D,lT,B,r'⟩) Y hg
def Ad.turned (I:Ad X π σ H s)(k:∀b o,b≠it->s.heap.get? b=some o->h'.get? b=some o)(J:H it=none)(B:it≠X.env.locals)(L:it∈X.ex\/X.s₀.heap.objs.size<=it)(h2:∀x c,X.env.cells.lookup x=some c->c≠it)(O:∀p∈X.pn++π,p.1≠it):Ad X π σ H { s with heap:=h',toks:=t' }:=by
 have D:∀b u,H b=some u->b≠it:=λb u e z=>by rw[z,J]at e;cases e
 refine I.step (g':=s.gens) (d':=s.drawn) (ch:=[it]) (λb hb=>?_) (λb o _ _ hc e _=>k b o (λz=>hc<|by simp[z]) e) (λb o _ _ hc e _=>⟨o.slots,k b o (λz=>hc<|by simp[z]) e⟩) (λ_ _ _ _ n=>n)
  (λb o hc e=>⟨o,k b o (λz=>hc<|by simp[z]) e⟩) (λ_ _ e=>e) (λ_ _ _ e=>e) (λb ps e=>⟨#[],by rw[e];simp⟩) (λm Y=>?_) (λb u e=>?_) I.bare
 .have e:b=it:=by simpa using hb
  subst e;exact⟨L,B,h2,O⟩
 .obtain ⟨o,es,ep,ho,r⟩:=C7 Y;exact⟨o,es,ep,k _ o (UC B) ho,r⟩
 .refine (I.ai b u e).dw (λc v hc q=>k c v ?_ q) (λ_ q=>q) λ_ _ q=>q;rcases hc with z|z
  .rw[z];exact D b u e
  .exact D c _ z
def Ad.tok(I:Ad X π σ H s)(t:Nat):Ad X π σ H { s with toks:=t }:=I.un (h':=s.heap) (t':=t) Un.refl I.ai
def Ad.kept (I:Ad X π σ H s)(k:∀b u,s.heap.get? b=some u->h'.get? b=some u):Ad X π σ H { s with heap:=h',toks:=t' }:=I.un (Un.kept k)<|I.ai.kept k
def Ad.laid{a:ar}{o:HO}{t':Nat}(I:Ad X π σ H s)(k:∀b u,s.heap.get? b=some u->h'.get? b=some u)(B:s.heap.objs.size<=a)(new:Bs X.prog X.w (upd H a o) h' a o) :
  Ad X π σ (upd H a o) { s with heap:=h',toks:=t' }:=I.un (Un.laid k B<|I.ai.fresh B)<|I.ai.laid k B new
def Ad.write (I:Ad X π σ H s)(B:Ip (H x))(D:e=x\/H e=some (.own x))(k:∀b u,b≠e->s.heap.get? b=some u->h'.get? b=some u)(J:∃u,h'.get? e=some u)(new:Bs X.prog X.w (upd H x o) h' x o):Ad X π σ (upd H x o) { s with heap:=h',toks:=t' }:=I.un (Un.write B D k J)<|I.ai.write B D k J new
def Ad.rj (I:Ad X π σ H s)(h:∀p∈bX,s.heap.get? p.1=some p.2/\H p.1=none/\p.1≠X.env.locals/\p.1 ∉ X.fs/\∀v,p.2.data≠.cell v):Ad X bX σ H s :=
 ⟨I.ok,I.os,I.bare,I.base,I.loc,I.cell,I.free,I.bQ,λp B=>(UD.mp B).elim (λz=>I.pin p<|XO _ z)<|h p,I.ai,I.len⟩
def Lv{N:List bf}(B:N.Nodup){i j:Nat}{x:bf}(a:N[i]?=some x)(b:N[j]?=some x):i=j:=by obtain⟨J,D⟩:=UM.mp a;obtain⟨h2,I⟩:=UM.mp b;exact(XQ B).mp (D.trans I.symm)
def Ox (I:Ad X π σ H s)(hN:X.N.Nodup)(O:X.N[i]?=some x)(hx:Ht X.env.scope x)(r:AH v u)(h:∀s',Ad X π (σ.set i<|some v) H s'->(∃a,Vb a s.heap s'.heap/\(a=X.env.locals\/X.env.cells.lookup x=some a))->Q () s')(hf:X.fn x=true\/X.env.scope.names.lookup x=some .local:=by first|exact .inl rfl|exact .inr rfl|assumption):TQ M A (storeName X.env x u) Q E s:=by
 obtain⟨m,hn,hl⟩:=As<|id I.loc;have aad:(X.env.scope.kind == .class || (X.env.scope.kind == .module && X.env.locals != X.env.globals))=false:=by rw[I.ok.kind];rfl
 have rm:i<σ.length:=by rw[I.len];exact(UM.mp O).1
 have d3:=I.d3;have B:∀{a:ar}{h':Heap},(∃o,s.heap.get? a=some o/\H a=none)->Vb a s.heap h'->A1 X.prog X.w H h':=λ{a h'} ha hs b ob e=>by
  obtain⟨_,_,rn⟩:=As ha;refine(I.ai b ob e).dw (λc Y hc q=>(hs.2 c ?_).trans q) (λ_ q=>q) λ_ _ q=>q;rintro rfl;rcases hc with rfl|hc
  .rw[rn]at e;cases e
  .rw[rn]at hc;cases hc
 rcases hx with hk|hk
 .refine wpAny_storeName_local hk hn (λh' lU hs=>?_) aad;obtain⟨oL,_,_,hoL,_⟩:=C7<|id hn;refine h _ ⟨I.ok,I.os,I.bare,⟨λb o e n hb hx=>?_,λb o e n hb hx=>?_,I.base.free,λb o e hx=>?_,I.base.ak,I.base.cN,I.base.cW⟩,⟨_,lU,λj y v' D J e3=>?_⟩,λy c e=>?_,I.free,I.bQ,λp hp=>?_,B ⟨oL,hoL,I.free⟩ hs,by simpa using I.len⟩ ⟨_,hs,.inl rfl⟩
  .exact (hs.2 b<|Uz (UW (Ul e) I.ok.above)).trans (I.base.keep b o e n hb hx)
  .obtain ⟨sl,D⟩:=I.base.slot b o e n hb hx;exact⟨sl,(hs.2 b<|Uz (UW (Ul e) I.ok.above)).trans D⟩
  .obtain ⟨o',D⟩:=I.base.there b o e hx;exact⟨o',(hs.2 b<|Uz (UW (Ul e) I.ok.above)).trans D⟩
  .by_cases L:j=i
   .subst L;rw[O]at D;cases D;rw[WU rm]at J;cases J;exact⟨u,r,.inl ⟨hk,by simp⟩⟩
   .rw[VA<|UC L]at J;obtain⟨u',r',q⟩:=As<|hl j y v' D J e3;refine⟨u',r',?_⟩;rcases q with ⟨k,e⟩|⟨k,c,e,z⟩
    .refine .inl ⟨k,?_⟩;have:y≠x:=λe=>L<|Lv hN D (e▸O);simp[this,e]
    .exact .inr ⟨k,c,e,z.sameBut hs<|d3 y c e⟩
  .obtain ⟨Y,z⟩:=I.cell y c e;exact⟨Y,z.sameBut hs<|d3 y c e⟩
  .obtain ⟨e,n,ne,nf,d⟩:=AU<|I.pin p hp;exact⟨(hs.2 p.1 ne).trans e,n,ne,nf,d⟩
 .have lV:X.fn x=true:=by
   rcases hf with z|z
   .exact z
   .rw[z]at hk;cases hk
  obtain⟨c,hc⟩:=I.ok.has x<|.inl hk;obtain⟨Y,z⟩:=I.cell x c hc;refine wpAny_storeName_cell I.ok.kind hk hc z λh' rp hs=>?_;obtain⟨oc,rq,aae⟩:=As<|id z;refine h { s with heap:=h' } ⟨I.ok,I.os,I.bare,⟨λb o e n hb hx=>?_,λb o e n hb hx=>?_,I.base.free,λb o e hx=>?_,I.base.ak,I.base.cN,I.base.cW⟩,⟨m,hn.sameBut hs<|UC (d3 x c hc),λj y v' D J e3=>?_⟩,λy c' e=>?_,I.free,I.bQ,λp hp=>?_,B ⟨oc,rq,I.bQ x c hc⟩ hs,by simpa using I.len⟩ ⟨c,hs,.inr hc⟩
  .exact (hs.2 b<|Uz (UW (Ul e)<|I.ok.dA x c lV hc)).trans (I.base.keep b o e n hb hx)
  .obtain ⟨sl,D⟩:=I.base.slot b o e n hb hx;exact⟨sl,(hs.2 b<|Uz (UW (Ul e)<|I.ok.dA x c lV hc)).trans D⟩
  .obtain ⟨o',D⟩:=I.base.there b o e hx;exact⟨o',(hs.2 b<|Uz (UW (Ul e)<|I.ok.dA x c lV hc)).trans D⟩
  .by_cases L:j=i
   .subst L;rw[O]at D;cases D;rw[WU rm]at J;cases J;exact⟨u,r,.inr ⟨.inl hk,c,hc,rp⟩⟩
   .rw[VA<|UC L]at J;obtain⟨u',r',q⟩:=As<|hl j y v' D J e3;refine⟨u',r',?_⟩;rcases q with q|⟨k,c',e,z'⟩
    .exact .inl q
    .refine .inr ⟨k,c',e,z'.sameBut hs ?_⟩;rintro rfl;exact L<|Lv hN D (I.ok.inj _ _ _ e hc▸O)
  .by_cases jY:c'=c
   .subst jY;exact⟨_,rp⟩
   .obtain ⟨w2,z2⟩:=I.cell y c' e;exact⟨w2,z2.sameBut hs jY⟩
  .obtain ⟨e,n,ne,nf,d⟩:=AU<|I.pin p hp;refine⟨(hs.2 p.1 ?_).trans e,n,ne,nf,d⟩;intro q;rw[q,rq]at e;have q':oc=p.2:=Us e;exact d Y<|by rwa[<-q']
def Lx (I:Ad X π σ H s)(D:X.N.Nodup)(J:X.N[i]?=some x)(hx:Ht X.env.scope x)(r:AH v u)(h:∀B,Ad X π (σ.set i<|some v) H B->Q () B)(L:X.fn x=true\/X.env.scope.names.lookup x=some .local:=by first|exact .inl rfl|exact .inr rfl|assumption):TQ M A (storeName X.env x u) Q E s :=
 Ox I D J hx r (λB O _=>h B O) L
def Ad.rA (I:Ad X π σ H s)(O:B.os=s.os)(u:Un (Dh X.stack) ch H H' s.heap B.heap)(Y:A1 X.prog X.w H' B.heap)(hg:V6 B.gens)(bj:∀b∈ch,(b∈X.ex\/X.s₀.heap.objs.size<=b)/\b≠X.env.locals/\(∀x c,X.env.cells.lookup x=some c->c≠b)/\∀p∈X.pn++π,p.1≠b):Ad X π σ H' B:=by obtain⟨h',D,J,L,o'⟩:=B;have e:o'=s.os:=O;subst e;exact I.call (g':=D) (t':=L) (d':=J) u Y hg bj
end
abbrev XK:=af->Option ar->Hp->Prop
abbrev St:=List (Option V)
abbrev VK:=V->Hp->Prop
abbrev TE:=St->Hp->VK->Prop
abbrev TT:=St->Hp->(Bool->Hp->Prop)->Prop
abbrev TA:=St->Hp->(List V->Hp->Prop)->Prop
structure D9 where
 nx:St->Hp->Prop
 rt:VK
 bk:St->Hp->Prop:=λ_ _=>False
 ct:St->Hp->Prop:=λ_ _=>False
abbrev TS:=D9->St->Hp->Prop
def EP(X:Cx)(π:List (ar×Obj))(σ:St)(Q:VK)(u:af)(s':TK):Prop:=∃v H',Ad X π σ H' s'/\AH v u/\Q v H'
def TP(X:Cx)(π:List (ar×Obj))(σ:St)(Q:Bool->Hp->Prop)(b:Bool)(s':TK):Prop:=∃H',Ad X π σ H' s'/\Q b H'
def AP(X:Cx)(π:List (ar×Obj))(σ:St)(Q:List V->Hp->Prop)(us:List af)(s':TK):Prop:=∃vs H',Ad X π σ H' s'/\AA vs us/\Q vs H'
def SP(X:Cx)(π:List (ar×Obj))(D:D9)(f:Flow)(s':TK):Prop :=
 match f with
 |.next=>∃σ' H',Ad X π σ' H' s'/\D.nx σ' H'
 |.brk=>∃σ' H',Ad X π σ' H' s'/\D.bk σ' H'
 |.cont=>∃σ' H',Ad X π σ' H' s'/\D.ct σ' H'
 |.ret u=>∃v σ' H',Ad X π σ' H' s'/\AH v u/\D.rt v H'
def PE(X:Cx)(e:TM)(t:TE):Prop :=
 ∀(π:List (ar×Obj))(s:TK)(σ:St)(H:Hp)(Q:VK),Ad X π σ H s->t σ H Q->TQ (TV X.prog X.w) X.A (T7 e X.env) (EP X π σ Q) X.xe s
def PT(X:Cx)(e:TM)(t:TT):Prop :=
 ∀(π:List (ar×Obj))(s:TK)(σ:St)(H:Hp)(Q:Bool->Hp->Prop),Ad X π σ H s->t σ H Q->TQ (TV X.prog X.w) X.A (XR e X.env (T7 e X.env)) (TP X π σ Q) X.xe s
def PW(X:Cx)(e:TM)(t:TT):Prop :=
 ∀(whole:Sem af)(π:List (ar×Obj))(s:TK)(σ:St)(H:Hp)(Q:Bool->Hp->Prop),Ad X π σ H s->t σ H Q->TQ (TV X.prog X.w) X.A (XR e X.env whole) (TP X π σ Q) X.xe s
def PW.pt (h:PW X e t):PT X e t:=h _
def PA(X:Cx)(es:List TM)(t:TA):Prop :=
 ∀(pos:Pos)(π:List (ar×Obj))(s:TK)(σ:St)(H:Hp)(Q:List V->Hp->Prop),Ad X π σ H s->t σ H Q->TQ (TV X.prog X.w) X.A (spliced (UA pos (T5 es X.env))) (AP X π σ Q) X.xe s
def PS(X:Cx)(st:Stmt)(t:TS):Prop :=
 ∀(π:List (ar×Obj))(s:TK)(σ:St)(H:Hp)(D:D9),Ad X π σ H s->t D σ H->TQ (TV X.prog X.w) X.A (exec st X.env) (SP X π D) X.xe s
def Di(X:Cx)(st:List Stmt)(t:TS):Prop :=
 ∀(π:List (ar×Obj))(s:TK)(σ:St)(H:Hp)(D:D9),Ad X π σ H s->t D σ H->TQ (TV X.prog X.w) X.A (execs st X.env) (SP X π D) X.xe s
def Ar{α:Type}{t:Sem α}{Q B:α->TK->Prop}{M:Wn}{A:Ud}{E:af->TK->Prop}{s:TK}(h:TQ M A t Q E s)(D:∀a s,Q a s->B a s):TQ M A t B E s:=Vu h D λ_ _ x=>x
section
variable {X:Cx}
def Iq(i:Nat):TE:=λσ H Q=>∃v,σ[i]?=some (some v)/\Q v H
def tC(v:V):TE:=λ_ H Q=>Q v H
def Ly{i:Nat}{x:bf}{pos:Pos}(J:X.N[i]?=some x)(hv:JP X.env.scope x)(hd:(x == ("__debug__":bf))=false:=by decide)(L:(x == ("__classdict__":bf))=false:=by decide):PE X (.Name x pos) (Iq i):=by
 intro π s σ H Q I h;replace h:=As h;obtain⟨v,e,h⟩:=h
 obtain⟨m,O,V⟩:=As I.loc;obtain⟨u,r,l⟩:=As<|V i x v J e hv;have B:EP X π σ Q u s:=⟨v,H,I,r,h⟩;rcases l with ⟨hk,Y⟩|⟨hk,c,hc,D⟩
 .exact Y6 (wpAny_loadName_local I.ok.kind hk O Y B) hd
 .rcases hk with hk|hk
  .exact Y6 (wpAny_loadName_cell I.ok.kind hk hc D B) hd
  .exact Y6 (wpAny_loadName_free I.ok.kind hk hc D B L) hd
def Am:PE X (.Constant (.int i) j pos) (tC<|.int i):=λ_ _ _ H _ I h=>wpAny_Constant_int ⟨.int i,H,I.tok _,⟨_,rfl⟩,h⟩
def EK:PE X (.Constant (.bool b) j pos) (tC<|.bl b):=λ_ _ _ H _ I h=>Constant_bool ⟨.bl b,H,I,rfl,h⟩
def Cq:PE X (.Constant .none j pos) (tC .aa):=λ_ _ _ H _ I h=>Constant_none ⟨.aa,H,I,rfl,h⟩
def Ag:PE X (.Constant (.str x) j pos) (tC<|.str x):=λ_ _ _ H _ I h=>Calls.Constant_str ⟨.str x,H,I.tok _,⟨_,rfl⟩,h⟩
def Gl(X:Cx)(x:bf):Prop:=X.env.kindOf x=some .globalImplicit
def Ir{E:af->TK->Prop}{π:List (ar×Obj)}{s:TK}{σ:St}{H:Hp}{x:bf}{u:af}{pos:Pos}{Q:af->TK->Prop}(I:Ad X π σ H s)(B:Gl X x)(D:X.mg x=some u)(h:Q u s)(hd:(x == ("__debug__":bf))=false:=by decide):TQ (TV X.prog X.w) X.A (T7 (.Name x pos) X.env) Q E s :=
 vX I.ok.kind B (Calls.loadGlobal_global (by rw[I.ok.glob];exact I.mod.glob.keeps I.bk) D h) hd
def Ga{E:af->TK->Prop}{π:List (ar×Obj)}{s:TK}{σ:St}{H:Hp}{x:bf}{u:af}{pos:Pos}{Q:af->TK->Prop}(I:Ad X π σ H s)(B:Gl X x)(D:X.mg x=none)(hv:UY x=some u)(h:Q u s)(J:x≠"__name__":=by decide)(hd:(x == ("__debug__":bf))=false:=by decide):TQ (TV X.prog X.w) X.A (T7 (.Name x pos) X.env) Q E s:=by obtain⟨O,L,h2⟩:=As I.mod.blt;exact vX I.ok.kind B (Calls.loadGlobal_builtin (by rw[I.ok.glob];exact I.mod.glob.keeps I.bk) D (by rw[I.ok.blt];exact L.keeps I.bk) ((h2 x J).trans hv) h) hd
def Aak (B:Gl X x)(D:X.mg x=some u)(r:AH v u)(hd:(x == ("__debug__":bf))=false:=by decide):PE X (.Name x pos) (tC v) :=
 λ_ _ _ H _ I h=>Ir I B D ⟨v,H,I,r,h⟩ hd
def Aal{x:bf}{v:V}{u:af}{pos:Pos}(B:Gl X x)(D:X.mg x=none)(hv:UY x=some u)(r:AH v u)(J:x≠"__name__":=by decide)(hd:(x == ("__debug__":bf))=false:=by decide):PE X (.Name x pos) (tC v) :=
 λ_ _ _ H _ I h=>Ga I B D hv ⟨v,H,I,r,h⟩ J hd
variable {a b:TM}{ta tb:TE}{pos:Pos}
def tB(t:TE):TT:=λσ H Q=>t σ H λx H1=>∃c,x=.bl c/\Q c H1
def Dv (h:PE X e t)(J:∀B,XR e X.env B=(do let v <-B;Vo e.pos;Vl [v] (truthy v)):=by intro _;rfl):PT X e (tB t):=by
 intro π s σ H Q I hw;refine isTrue_plain (Ar (h π s σ H _ I hw) λv s1 L=>AF L λx O V Y D=>?_)<|J _;replace D:=As D;obtain⟨d,rfl,q⟩:=D
 cases Y;exact We ⟨O,V,q⟩
variable {tA jZ:TT}{rest:List TM}
def Aam(t u:TT):TT:=λσ H Q=>t σ H λc H1=>if c=true then u σ H1 Q else Q false H1
def tOr(t u:TT):TT:=λσ H Q=>t σ H λc H1=>if c=true then Q true H1 else u σ H1 Q
def Aan(t:TT):TT:=λσ H Q=>t σ H λc H1=>Q (!c) H1
def Ep(B:PT X a tA):PW X (.BoolOp .And [a] pos) tA:=by
 intro D π s σ H Q I h;refine isTrue_and<|Ar (B π s σ H Q I h) λc J e=>?_;cases c with
 |true=>exact isTrue_and_nil e
 |false=>exact e
def JQ(B:PT X a tA):PW X (.BoolOp .Or [a] pos) tA:=by
 intro D π s σ H Q I h;refine isTrue_or<|Ar (B π s σ H Q I h) λc J e=>?_;cases c with
 |false=>exact isTrue_or_nil e
 |true=>exact e
def Ea(L:PT X a tA)(hb:PW X (.BoolOp .And (b::rest) pos) jZ):PW X (.BoolOp .And (a::b::rest) pos) (Aam tA jZ):=by
 intro O π s σ H Q I h;refine isTrue_and<|Ar (L π s σ H _ I h) λc V Y=>DM Y λB D J=>?_;cases c with
 |true=>exact hb O π V σ B Q D J
 |false=>exact⟨B,D,J⟩
def JR(L:PT X a tA)(hb:PW X (.BoolOp .Or (b::rest) pos) jZ):PW X (.BoolOp .Or (a::b::rest) pos) (tOr tA jZ):=by
 intro O π s σ H Q I h;refine isTrue_or<|Ar (L π s σ H _ I h) λc V Y=>DM Y λB D J=>?_;cases c with
 |true=>exact⟨B,D,J⟩
 |false=>exact hb O π V σ B Q D J
def Es(B:PT X a tA):PT X (.UnaryOp .Not a pos) (Aan tA):=by intro π s σ H Q I h;exact isTrue_not<|B π s σ H (λc D=>Q (!c) D) I h
def Aao(ta tb:TE):TE:=λσ H Q=>ta σ H λx H1=>∃c,x=.bl c/\if c=true then tb σ H1 Q else Q (.bl false) H1
def Aap(ta:TE):TE:=λσ H Q=>ta σ H λx H1=>∃c,x=.bl c/\Q (.bl (!c)) H1
def Iu (h:PE X a t):PE X (.BoolOp op [a] pos) t:=λπ s σ H Q I hw=>BoolOp_one<|h π s σ H Q I hw
def Lz(L:PE X a ta)(hb:PE X (.BoolOp .And (b::rest) pos) tb):PE X (.BoolOp .And (a::b::rest) pos) (Aao ta tb):=by
 intro π s σ H Q I h;refine BoolOp_and<|Ar (L π s σ H _ I h) λv O V=>AF V λx D J Y B=>?_;replace B:=As B;obtain⟨c,rfl,B⟩:=B
 cases Y;apply We;cases c with
 |true=>exact hb π O σ D Q J B
 |false=>exact⟨.bl false,D,J,rfl,B⟩
def LA(D:PE X a ta):PE X (.UnaryOp .Not a pos) (Aap ta):=by
 intro π s σ H Q I h;refine UnaryOp_<|Ar (D π s σ H _ I h) λv Y J=>AF J λx L O V B=>?_;replace B:=As B;obtain⟨c,rfl,B⟩:=B
 cases V;exact not_of<|We ⟨.bl<|!c,L,O,rfl,B⟩
def tIf(t:TT)(ta tb:TE):TE:=λσ H Q=>t σ H λc H1=>if c=true then ta σ H1 Q else tb σ H1 Q
def Oy (hc:PT X c tA)(O:PE X a ta)(hb:PE X b tb):PE X (.IfExp c a b pos) (tIf tA ta tb):=by
 intro π s σ H Q I h;refine wpAny_IfExp<|Ar (hc π s σ H _ I h) λd B V=>DM V λD J L=>?_;cases d with
 |true=>exact O π B σ D Q J L
 |false=>exact hb π B σ D Q J L
end
def A3(K:TH)(H:Hp)(a:ar)(xs:List V):Prop :=
 Rd H a (.lst xs) \/
  ∃(o:Obj)(its:Array af)(n:Nat),K.lookup a=some o/\o.cls=.type "list"/\o.dict=none/\o.data=.seq its n/\its.size<=sizeLine/\AA xs its.toList
def Bw(K:TH)(H:Hp)(a:ar)(xs:List V):Prop :=
 Rd H a (.tup xs) \/
  ∃(o:Obj)(its:Array af)(n:Nat),K.lookup a=some o/\o.cls=.type "tuple"/\o.data=.seq its n/\its.size<=sizeLine/\AA xs its.toList
noncomputable def Aaq:af->Option V
 |.none=>some .aa
 |.bool b=>some (.bl b)
 |.int i _=>some (.int i)
 |.str x _=>some (.str x)
 |.bytes b _=>some (.cq b)
 |.float b _=>some (.fQ b)
 |.ref a=>some (.ref a)
 |.type n=>some (.ty n)
 |_=>none
def AH.abs (r:AH x u):Aaq u=some x:=by
 cases x with
 |aa=>cases r;rfl
 |bl _=>cases r;rfl
 |int _=>obtain⟨t,rfl⟩:=r;rfl
 |str _=>obtain⟨t,rfl⟩:=r;rfl
 |cq _=>obtain⟨t,rfl⟩:=r;rfl
 |fQ _=>obtain⟨t,rfl⟩:=r;rfl
 |ref _=>cases r;rfl
 |ty _=>cases r;rfl
def AH.inj (r:AH x u)(q:AH y u):x=y:=Us<|r.abs.symm.trans q.abs
theorem AA.inj:∀{xs ys:List V}{us:List af},AA xs us->AA ys us->xs=ys
 |_,_,_,.nil,.nil=>rfl
 |_,_,_,.cons r t,.cons B D=>by rw[r.inj B,AA.inj t D]
section
variable {X:Cx}{π:List (ar×Obj)}{σ:St}{H:Hp}{s:TK}{a:ar}{xs ys:List V}
def A3.of{K:TH}(h:H a=some (.lst xs)):A3 K H a xs:=.inl<|.inl h
def Bw.of{K:TH}(h:H a=some (.tup xs)):Bw K H a xs:=.inl<|.inl h
def Ad.list(I:Ad X π σ H s)(h:A3 X.K H a xs):∃its:List af,AA xs its/\PlainL s.heap a its.toArray/\xs.length<=sizeLine:=by
 rcases h with h|⟨o,its,n,hk,hc,hd,hs,B,r⟩
 .obtain ⟨z,its,n,r,e⟩:=h.ok I.ai;exact⟨its,r,⟨_,n,e,rfl,rfl,rfl⟩,z⟩
 .refine ⟨its.toList,r,⟨o,n,I.aN a o hk,hc,hd,by simpa using hs⟩,?_⟩;have e:=r.length;simp only[Vm]at e;omega
def Ad.tuple(I:Ad X π σ H s)(h:Bw X.K H a xs):∃its:List af,AA xs its/\IsTup s.heap a its.toArray/\xs.length<=sizeLine:=by
 rcases h with h|⟨o,its,n,hk,hc,hs,B,r⟩
 .obtain ⟨z,its,r,p⟩:=h.ok I.ai;exact⟨its,r,p,z⟩
 .refine ⟨its.toList,r,⟨o,I.aN a o hk,hc,n,by simpa using hs⟩,?_⟩;have e:=r.length;simp only[Vm]at e;omega
def Ad.j0(I:Ad X π σ H s)(h:A3 X.K H a xs)(h':A3 X.K H a ys):xs=ys:=by
 obtain⟨its,r,⟨o,n,e,_,_,d⟩,_⟩:=AG<|I.list h;obtain⟨B,L,⟨Y,n',D,_,_,J⟩,_⟩:=AG<|I.list h';rw[e]at D;cases D;rw[d]at J;injection J with O _;have:its=B:=by simpa using congrArg Array.toList O
 subst this;exact r.inj L
def Ad.rC(I:Ad X π σ H s)(h:Bw X.K H a xs)(h':Bw X.K H a ys):xs=ys:=by
 obtain⟨its,r,⟨o,e,_,n,d⟩,_⟩:=AG<|I.tuple h;obtain⟨B,L,⟨Y,D,_,n',J⟩,_⟩:=AG<|I.tuple h';rw[e]at D;cases D;rw[d]at J;injection J with O _;have:its=B:=by simpa using congrArg Array.toList O
 subst this;exact r.inj L
end
noncomputable abbrev Cx.dD(X:Cx)(E:af->TK->Prop):Cx:={ X with xe:=E }
noncomputable abbrev Cx.j8(X:Cx):Cx:=X.dD λ_ _=>False
def Cx.Ok.dD{X:Cx}(ok:X.Ok)(E:af->TK->Prop):(X.dD E).Ok :=
 ⟨ok.mod,ok.kind,ok.glob,ok.blt,ok.above,ok.inj,ok.has,ok.dA,ok.hd,ok.frames,ok.aR,ok.fj,ok.bs,ok.cG,ok.dB,ok.dC,ok.bD,ok.cO⟩
def Cx.Ok.fm{X:Cx}{E:af->TK->Prop}(ok:(X.dD E).Ok):X.Ok :=
 ⟨ok.mod,ok.kind,ok.glob,ok.blt,ok.above,ok.inj,ok.has,ok.dA,ok.hd,ok.frames,ok.aR,ok.fj,ok.bs,ok.cG,ok.dB,ok.dC,ok.bD,ok.cO⟩
section
variable {X:Cx}{π:List (ar×Obj)}{σ:St}{H:Hp}{s:TK}{E:af->TK->Prop}
def Ad.dD(I:Ad X π σ H s)(E:af->TK->Prop):Ad (X.dD E) π σ H s:=⟨I.ok.dD E,I.os,I.bare,I.base,I.loc,I.cell,I.free,I.bQ,I.pin,I.ai,I.len⟩
def Ad.fm(I:Ad (X.dD E) π σ H s):Ad X π σ H s:=⟨I.ok.fm,I.os,I.bare,I.base,I.loc,I.cell,I.free,I.bQ,I.pin,I.ai,I.len⟩
def SP.fm (h:SP (X.dD E) π D f J):SP X π D f J:=by
 cases f with
 |next=>obtain⟨σ',B,I,q⟩:=Bv h;exact⟨σ',B,I.fm,q⟩
 |brk=>obtain⟨σ',B,I,q⟩:=Bv h;exact⟨σ',B,I.fm,q⟩
 |cont=>obtain⟨σ',B,I,q⟩:=Bv h;exact⟨σ',B,I.fm,q⟩
 |ret u=>obtain⟨v,σ',B,I,r,q⟩:=C7 h;exact⟨v,σ',B,I.fm,r,q⟩
def Di.j8{st:List Stmt}{t:TS}(h:Di X.j8 st t):Di X st t:=λπ s σ H D I hw =>
 Vu (h π s σ H D (I.dD _) hw) (λ_ _ q=>q.fm) λ_ _ z=>VB z
end
section
variable {X:Cx}{st:Stmt}{rest:List Stmt}{t u:TS}{e:TM}{te:TE}{pos:Pos}
def Aar:TS:=λD σ H=>D.nx σ H
def LB(t u:TS):TS:=λD σ H=>t { D with nx:=u D } σ H
def AV:Di X [] Aar:=λ_ _ σ H _ I h=>XS ⟨σ,H,I,h⟩
def Af(B:PS X st t)(h2:Di X rest u):Di X (st::rest) (LB t u):=by
 intro π s σ H D I h;refine vY<|Ar (B π s σ H { D with nx:=u D } I h) λf J q=>?_;cases f with
 |next =>
  replace q:=Bv q;obtain⟨σ',L,O,q⟩:=q
  exact h2 π J σ' L D O q
 |ret v=>exact q
 |brk=>exact q
 |cont=>exact q
def Ak(B:PS X st t):Di X [st] t:=by
 intro π s σ H D I h;refine vY<|Ar (B π s σ H D I h) λf J q=>?_;cases f with
 |next=>exact XS q
 |ret v=>exact q
 |brk=>exact q
 |cont=>exact q
def Ad.quiet{π:List (ar×Obj)}{σ:St}{H:Hp}{s:TK}(I:Ad X π σ H s):interactive X.env=false:=by simp[interactive,I.ok.kind]
def Aas(te:TE):TS:=λD σ H=>te σ H λ_ H1=>D.nx σ H1
def A5(B:PE X e te)(hs:Wf e none pos.line X.env=pure false:=by rfl):PS X (.Expr e pos) (Aas te):=by intro π s σ H D I h;exact wpAny_Expr_any (Ar (B π s σ H _ I h) λv Y J=>AF J λx L O r1 V=>⟨σ,L,O,V⟩) I.quiet hs
def Aat(te:TE):TS:=λD σ H=>te σ H D.rt
def AD(B:PE X e te):PS X (.Return (some e) pos) (Aat te):=by intro π s σ H D I h;exact wpAny_Return_some<|Ar (B π s σ H _ I h) λv s1 J=>AF J λx L O V Y=>⟨x,σ,L,O,V,Y⟩
def Aau(c:TT)(t u:TS):TS:=λD σ H=>c σ H λb H1=>if b=true then t D σ H1 else u D σ H1
def AR (hc:PT X c B)(Y:Di X a t)(hb:Di X b u):PS X (.If c a b pos) (Aau B t u):=by
 intro π s σ H D I h;refine wpAny_If<|Ar (hc π s σ H _ I h) λd J zz=>DM zz λL O V=>?_;cases d with
 |true=>exact Y π J σ L D O V
 |false=>exact hb π J σ L D O V
end
abbrev TG:=V->St->Hp->(St->Hp->Prop)->Prop
abbrev Gb:=List V->St->Hp->(St->Hp->Prop)->Prop
def PG(X:Cx)(target:TM)(t:TG):Prop :=
 ∀(π:List (ar×Obj))(s:TK)(σ:St)(H:Hp)(v:V)(u:af)(Q:St->Hp->Prop),Ad X π σ H s->AH v u->t v σ H Q ->
  TQ (TV X.prog X.w) X.A (VS target X.env u) (λ_ s'=>∃σ' H',Ad X π σ' H' s'/\Q σ' H') X.xe s
def Iv(X:Cx)(ts:List TM)(t:Gb):Prop :=
 ∀(π:List (ar×Obj))(s:TK)(σ:St)(H:Hp)(vs:List V)(us:List af)(Q:St->Hp->Prop),Ad X π σ H s->AA vs us->t vs σ H Q ->
  TQ (TV X.prog X.w) X.A (assignInOrder ((Wo ts X.env).map (·.2)) us) (λ_ s'=>∃σ' H',Ad X π σ' H' s'/\Q σ' H') X.xe s
abbrev Iw:=V->V->V->Hp->(Hp->Prop)->Prop
def LC(X:Cx)(t:Iw):Prop :=
 ∀(π:List (ar×Obj))(s:TK)(σ:St)(H:Hp)(o i v:V)(ov iv u:af)(Q:Hp->Prop),Ad X π σ H s->AH o ov->AH i iv->AH v u->t o i v H Q ->
  TQ (TV X.prog X.w) X.A (XT ov iv u) (λ_ s'=>∃H',Ad X π σ H' s'/\Q H') X.xe s
abbrev JS:=V->V->Hp->VK->Prop
def Oz(X:Cx)(op:Xs)(t:JS):Prop :=
 ∀(π:List (ar×Obj))(s:TK)(σ:St)(H:Hp)(x y:V)(v u:af)(Q:VK),Ad X π σ H s->AH x v->AH y u->t x y H Q ->
  TQ (TV X.prog X.w) X.A (inplaceOp op v u) (EP X π σ Q) X.xe s
section
variable {X:Cx}{pos:Pos}
def Fh(i:Nat):TG:=λv σ H Q=>Q (σ.set i (some v)) H
def Aav (B:X.N.Nodup)(D:X.N[i]?=some x)(hx:Ht X.env.scope x)(J:X.fn x=true\/X.env.scope.names.lookup x=some .local:=by first|exact .inl rfl|exact .inr rfl|assumption):PG X (.Name x pos) (Fh i):=by intro π s σ H v u Q I r h;exact vZ<|Lx I B D hx r (λO L=>⟨_,H,L,h⟩) J
def Aaw:Gb:=λvs σ H Q=>vs=[]/\Q σ H
def Aax(t:TG)(u:Gb):Gb:=λvs σ H Q=>∃v r,vs=v::r/\t v σ H λσ' H'=>u r σ' H' Q
def DU:Iv X [] Aaw:=by intro π s σ H vs us Q I r h;obtain⟨e,h⟩:=h;subst e;cases r;exact assignInOrder_nil ⟨σ,H,I,h⟩
def B4 (B:PG X e t)(h2:Iv X es u)(hs:(Wo (e::es) X.env).map (·.2)=VS e X.env::(Wo es X.env).map (·.2):=by rfl):Iv X (e::es) (Aax t u):=by
 intro π s σ H vs us Q I r h;replace h:=Bv h;obtain⟨v,vr,D,h⟩:=h
 subst D;cases r with
 |cons r J =>
  rw [hs];refine assignInOrder_cons<|Ar (B π s σ H _ _ _ I r h) λ_ L O=>Ls O λσ1 V Y q1=>?_;exact h2 π L σ1 V _ _ Q Y J q1
def OA(K:TH)(n:Nat)(t:Gb):TG:=λv σ H Q=>∃a xs,v=.ref a/\Bw K H a xs/\xs.length=n/\t xs σ H Q
def FK{es:List TM}{k:Nat}{t:Gb}{n:Nat}(hc:X.calm=true)(h:Iv X es t)(D:(Wo es X.env).length=n:=by rfl)(J:(Wo es X.env).findIdx? (·.1)=none:=by rfl):PG X (.Tuple es k pos) (OA X.K n t):=by
 intro π s σ H v u Q I r hw;replace hw:=BA hw;obtain⟨a,L,O,hq,V,hw⟩:=hw
 subst O;cases r;obtain⟨its,B,Y,hz⟩:=AG<|I.tuple hq;refine assign_Tuple_tuple (I.ok.hd hc) Y (by simp[D,<-V,B.length]) J λh' hx=>?_;have I1:Ad X π σ H { s with heap:=h' }:=I.kept (t':=s.toks) λb o e=>hx b o (Uz<|Ul e) e;exact h π _ σ H L _ Q I1 (by simpa using B) hw
def Aay(to ti:TE)(t:Iw):TG:=λv σ H Q=>to σ H λo H1=>ti σ H1 λi H2=>t o i v H2 λH3=>Q σ H3
def Fi (V:PE X o L)(Y:PE X i O)(hs:LC X t)(ha:∀v,VS (.Subscript o i pos) X.env v=(do
   let B <-Vl [v] (T7 o X.env)
   let D <-Vl [v,B] (T7 i X.env)
   Vo pos
   Vl [v,B,D] (XT B D v)
   release [v,B,D] []):=by intro _;rfl):PG X (.Subscript o i pos) (Aay L O t):=by
 intro π s σ H v u Q I r h;rw[ha];refine TX<|VJ (Ar (V π s σ H _ I h) λB s1 J=>AF J λx H1 I1 r1 q1=>?_);refine TX<|VJ (Ar (Y π s1 σ H1 _ I1 q1) λD s2 J=>AF J λy H2 I2 r2 q2=>?_);refine TX<|WV (TX<|VJ (Ar (hs π s2 σ H2 x y v B D u _ I2 r1 r2 r q2) λ_ s3 J=>DM J λH3 I3 q3=>?_));exact wpAny_release ⟨σ,H3,I3,q3⟩
def Gd(te:TE)(g:TG):TS:=λD σ H=>te σ H λx H1=>g x σ H1 D.nx
def Et (L:PE X e J)(O:PG X B g)(hs:swapsWithSole [B] e pos.line X.env=pure false:=by rfl)(hw:swappedStores [B] e X.env=pure none:=by rfl)(V:(Wo [B] X.env).map (·.2)=[VS B X.env]:=by rfl):PS X (.Assign [B] e pos) (Gd J g):=by intro π s σ H D I h;refine wpAny_Assign_stores (Ar (L π s σ H _ I h) λv Y zz=>AF zz λx H1 I1 r1 q1=>?_) hs hw;rw[V];exact Ar (O π Y σ H1 x v _ I1 r1 q1) λ_ s2 q=>q
def OB (L:X.N.Nodup)(O:X.N[i]?=some x)(hx:Ht X.env.scope x)(V:PE X e J)(hs:Wf e (some<|.Name x B) pos.line X.env=pure false:=by rfl)(Y:X.fn x=true\/X.env.scope.names.lookup x=some .local:=by first|exact .inl rfl|exact .inr rfl|assumption):
  PS X (.Assign [.Name x B] e pos) (Gd J<|Fh i):=by
 intro π s σ H D I h;refine wpAny_Assign_Name (Ar (V π s σ H _ I h) λv s1 zz=>AF zz λy H1 I1 r1 q1=>?_) hs;exact Lx I1 L O hx r1 (λs2 I2=>⟨_,H1,I2,q1⟩) Y
def Aaz(to ti te:TE)(j9:V->V->Hp->VK->Prop)(kg:JS)(kh:Iw):TS:=λD σ H=>to σ H λo H1=>ti σ H1 λi H2=>j9 o i H2 λx H3=>te σ H3 λy H4=>kg x y H4 λz H5=>kh o i z H5 λH6=>D.nx σ H6
def OC(X:Cx)(t:V->V->Hp->VK->Prop):Prop :=
 ∀(π:List (ar×Obj))(s:TK)(σ:St)(H:Hp)(o i:V)(ov iv:af)(Q:VK),Ad X π σ H s->AH o ov->AH i iv->t o i H Q ->
  TQ (TV X.prog X.w) X.A (WW ov iv) (EP X π σ Q) X.xe s
def Iy (ho:PE X o Y)(hi:PE X i ti)(hg:OC X j9)(he:PE X e te)(hp:Oz X op kg)(hs:LC X kh)(ha:∀J L new,augStore i J L new=(do Vl [new,J,L] (XT J L new);release [new,J,L] [];pure .next):=by intros;rfl):PS X (.AugAssign (.Subscript o i iR) op e pos) (Aaz Y ti te j9 kg kh):=by intro π s σ H D I h;refine v7 (Ar (ho π s σ H _ I h) λJ s1 B=>AF B λx1 H1 I1 r1 q1=>?_) ha;refine Ar (hi π s1 σ H1 _ I1 q1) λL s2 B=>AF B λx2 H2 I2 r2 q2=>?_;refine Ar (hg π s2 σ H2 x1 x2 J L _ I2 r1 r2 q2) λO s3 B=>AF B λx3 H3 I3 r3 q3=>?_;refine Ar (he π s3 σ H3 _ I3 q3) λv s4 B=>AF B λx4 H4 I4 r4 q4=>?_;refine Ar (hp π s4 σ H4 x3 x4 O v _ I4 r3 r4 q4) λnew s5 B=>AF B λx5 H5 I5 r5 q5=>?_;exact Ar (hs π s5 σ H5 x1 x2 x5 J L new _ I5 r1 r2 r5 q5) λ_ s6 B=>DM B λH6 I6 q6=>⟨σ,H6,I6,q6⟩
def ipI(f:Int->Int->Int):JS:=λx y H Q=>∃i j,x=.int i/\y=.int j/\Q (.int (f i j)) H
def Iz:Oz X .Add (ipI λi j=>i+j):=by intro π s σ H x y v u Q I B D h;obtain⟨i,j,J,L,q⟩:=BA h;subst J;subst L;obtain⟨t,rfl⟩:=B;obtain⟨O,rfl⟩:=D;exact iadd_int ⟨.int _,H,I.tok _,⟨_,rfl⟩,q⟩
end
section
variable {X:Cx}{pos:Pos}
def AaA(c:TT)(tb:TS):TS:=λD σ H=>∃W:Nat->St->Hp->Prop,(∃m,W m σ H)/\∀m σ H,W m σ H ->
 c σ H λb H1=>if b=true then ∃N:St->Hp->Prop,(∀σ' H',N σ' H'->∃m',m'<m/\W m' σ' H')/\tb { D with nx:=N,ct:=N,bk:=D.nx } σ H1 else D.nx σ H1
def OD (hp:Yr (TV X.prog X.w) X.A X.env X.xe)(hc:PT X c tc)(hb:Di X body tb):PS X (.While c body [] pos) (AaA tc tb):=by
 intro π s σ H D I h;obtain⟨W,⟨m0,w0⟩,turn⟩:=As h;refine wpAny_While<|codeAny_whileLoop (λn s'=>∃σ' H',Ad X π σ' H' s'/\W n σ' H') ?_ m0 ⟨σ,H,I,w0⟩;rintro n s1 ⟨σ1,H1,I1,w1⟩;refine WY hp<|Ar (hc π s1 σ1 H1 _ I1<|turn n σ1 H1 w1) λb s2 zz=>DM zz λH2 I2 B=>?_;cases b with
 |true =>
  replace B:=As B;obtain⟨N,hN,B⟩:=B
  rw [br rfl];refine WY hp<|Ar (hb π s2 σ1 H2 _ I2 B) λf s3 L=>?_;cases f with
  |next =>
   obtain⟨σ3,J,O,V⟩:=Bv L;obtain⟨m',Y,w3⟩:=As<|hN σ3 J V;exact⟨m',Y,σ3,J,O,w3⟩
  |cont =>
   obtain⟨σ3,J,O,V⟩:=Bv L;obtain⟨m',Y,w3⟩:=As<|hN σ3 J V;exact⟨m',Y,σ3,J,O,w3⟩
  |brk=>exact L
  |ret v=>exact L
 |false =>
  rw [cZ UN];exact XS ⟨σ1,H2,I2,B⟩
end
structure It where
 go:Nat->Hp->Prop
 lX:Nat->Hp->V->Hp->Prop
 stop:Nat->Hp->Prop
def Eu(X:Cx)(π:List (ar×Obj))(H:Hp)(b:ar):Prop :=
 H b=none/\b≠X.env.locals/\b ∉ X.fs/\(b∈X.ex\/X.s₀.heap.objs.size<=b)/\(∀x c,X.env.cells.lookup x=some c->c≠b)/\∀p∈X.pn++π,p.1≠b
def Ad.d5{X:Cx}{π:List (ar×Obj)}{σ:St}{H B:Hp}{s:TK}{b:ar}(I:Ad X π σ H s)(hb:s.heap.objs.size<=b)(D:B b=none):Eu X π B b:=by
 refine⟨D,Wq<|UW I.lt hb,I.aac hb,.inr<|U1 I.sz hb,λx c e z=>?_,λp J z=>?_⟩
 .obtain ⟨v,q⟩:=I.cell x c e;exact absurd (UW q.lt<|by rwa[z])<|V5 _
 .exact absurd (UW (Ul (I.pin p J).1)<|by rwa[z]) (V5 _)
structure Ge(P:TR)(w:TL)(K:TH)(tg:TM)(J:It)(fp:List ar)(it:ar)(tn:Nat->Heap->Prop):Prop where
 mem:it∈fp
 obj:∀i h,tn i h->∀b∈fp,∃o,h.get? b=some o/\∀v,o.data≠.cell v
 keep:∀i h h',tn i h->(∀b∈fp,∀o,h.get? b=some o->h'.get? b=some o)->tn i h'
 item:∀(X:Cx),X.prog=P->X.w=w->X.K=K->X.calm=true->∀(i:Nat)(π:List (ar×Obj))(s:TK)(σ:St)(H:Hp)(E:af->TK->Prop),Ad X π σ H s->(∀b∈fp,Eu X π H b)->tn i s.heap->J.go i H ->
  TQ (TV P w) X.A (VT (.ref it)) (λr s1=>∃u,r=some u /\
   TQ (TV P w) X.A (Xt tg (.ref it) u) (λ_ s2=>∃x H',Ad X π σ H' s2/\AH x u/\J.lX i H x H'/\tn (i+1) s2.heap/\∀b∈fp,H' b=none) E s1) E s
 done:∀(X:Cx),X.prog=P->X.w=w->X.K=K->X.calm=true->∀(i:Nat)(π:List (ar×Obj))(s:TK)(σ:St)(H:Hp)(E:af->TK->Prop),Ad X π σ H s->(∀b∈fp,Eu X π H b)->tn i s.heap->J.stop i H ->
  TQ (TV P w) X.A (VT (.ref it)) (λr s1=>r=none/\Ad X π σ H s1) E s
 self:∀(A:Ud)(i:Nat)(s:TK)(Q:af->TK->Prop)(E:af->TK->Prop),tn i s.heap->Q (.ref it) s->TQ (TV P w) A (Xu (.ref it)) Q E s
abbrev TI:=St->Hp->(It->Hp->Prop)->Prop
def OE(X:Cx)(π:List (ar×Obj))(σ:St)(tg:TM)(R:It->Hp->Prop)(lY:af)(s2:TK):Prop :=
 ∃(it:ar)(fp:List ar)(tn:Nat->Heap->Prop)(J:It)(H':Hp),lY=.ref it/\Ad X π σ H' s2/\Ge X.prog X.w X.K tg J fp it tn/\tn 0 s2.heap/\(∀b∈fp,Eu X π H' b)/\R J H'
def PI(X:Cx)(tg iter:TM)(wi:TI):Prop :=
 ∀(π:List (ar×Obj))(s:TK)(σ:St)(H:Hp)(R:It->Hp->Prop),Ad X π σ H s->wi σ H R ->
  TQ (TV X.prog X.w) X.A (T7 iter X.env) (λv s1=>TQ (TV X.prog X.w) X.A (Xu v) (OE X π σ tg R) X.xe s1) X.xe s
def JT (I:s.heap.get? it=some o)(hc:o.cls=.type n)(hd:o.data=.fields vs)(J:["enumerate","zip","dict_itemiterator","dict_reverseitemiterator","odict_iterator","itertools.zip_longest","itertools.pairwise"].contains n=false)(B:Q () s):TQ M A (Xt D (.ref it) u) Q E s:=by
 unfold Xt;cases D<;>first
  |exact Ub B
  | (cases u<;>first
    |exact Ub B
    | (refine TX (wpAny_load I ?_)
       rw [hc,hd];show TQ M A (if (["enumerate","zip","dict_itemiterator","dict_reverseitemiterator","odict_iterator","itertools.zip_longest","itertools.pairwise"].contains n && vs[0]? == some (WZ _))=true then _ else _) Q E s;rw[cZ<|by intro h;rw[J,Bool.false_and]at h;cases h];exact Ub B))
def Hu(K:TH)(a:ar):It :=
 ⟨λi H=>∃xs x,A3 K H a xs/\xs[i]?=some x,λi H x H'=>H'=H/\∀xs,A3 K H a xs->xs[i]?=some x,λi H=>∃xs,A3 K H a xs/\xs.length<=i⟩
def IA(K:TH)(a:ar):It :=
 ⟨λi H=>∃xs x,Bw K H a xs/\xs[i]?=some x,λi H x H'=>H'=H/\∀xs,Bw K H a xs->xs[i]?=some x,λi H=>∃xs,Bw K H a xs/\xs.length<=i⟩
def GJ(lo:Int)(n:Nat):It:=⟨λi _=>i<n,λi H x H'=>H'=H/\x=.int (lo+i),λi _=>n<=i⟩
theorem AaB{P:TR}{w:TL}{K:TH}{tg:TM}(a it:ar):Ge P w K tg (Hu K a) [it] it (λi h=>h.IsListIter it a i) where
 mem:=by simp
 obj:=λi h st b hb=>by
  have e:b=it:=by simpa using hb
  subst e;obtain⟨o,e,c,d⟩:=AG st;exact⟨o,e,λv z=>by rw[d]at z;cases z⟩
 keep:=λi h B st k=>st.at λo e=>k it (by simp) o e
 item:=by intro X J hw L hc i π s σ H E I D st O;subst J hw L;obtain⟨xs,x,hq,hx⟩:=Bv O;obtain⟨its,V,p,hz⟩:=AG (I.list hq);obtain⟨u,hu,ru⟩:=As (V.get hx);obtain⟨Y,f1,f2,f3,f4,f5⟩:=AU (D it (by simp));refine wpAny_pyNext_list_item st p.isList (x:=u) (by simpa using hu) λB bu sb=>?_;have I1:Ad X π σ H { s with heap:=B }:=I.turned (t':=s.toks) (λb o hb e=>(sb.2 b hb).trans e) Y f1 f3 f4 f5;obtain⟨o,e,c,d⟩:=AG (id bu);exact⟨u,rfl,JT (s:={ s with heap:=B }) e c d (by decide) ⟨x,H,I1,ru,⟨rfl,λys hy=>by rw[I.j0 hy hq];exact hx⟩,bu,λb hb=>(D b hb).1⟩⟩
 done:=by intro X J hw L hc i π s σ H E I D st O;subst J hw L;obtain⟨xs,hq,hx⟩:=As O;obtain⟨its,V,p,hz⟩:=AG (I.list hq);obtain⟨Y,f1,f2,f3,f4,f5⟩:=AU (D it (by simp));have hl:=V.length;exact wpAny_pyNext_list_end (I.ok.hd hc) st p.isList (by simp;omega) λB eb=>⟨rfl,I.turned (t':=s.toks) (λb o hb e=>eb b o hb e) Y f1 f3 f4 f5⟩
 self:=λ_ _ _ _ _ st h=>wpAny_pyIter_listiter st h
theorem AaC{P:TR}{w:TL}{K:TH}{tg:TM}(a it:ar):Ge P w K tg (IA K a) [it] it (λi h=>h.IsTupleIter it a i) where
 mem:=by simp
 obj:=λi h st b hb=>by
  have e:b=it:=by simpa using hb
  subst e;obtain⟨o,e,c,d⟩:=AG st;exact⟨o,e,λv z=>by rw[d]at z;cases z⟩
 keep:=λi h B st k=>st.at λo e=>k it (by simp) o e
 item:=by intro X J hw L hc i π s σ H E I D st O;subst J hw L;obtain⟨xs,x,hq,hx⟩:=Bv O;obtain⟨its,V,p,hz⟩:=AG (I.tuple hq);obtain⟨u,hu,ru⟩:=As (V.get hx);obtain⟨Y,f1,f2,f3,f4,f5⟩:=AU (D it (by simp));refine wpAny_pyNext_tuple_item st (show s.heap.IsTuple a its.toArray from p) (x:=u) (by simpa using hu) λB bu sb=>?_;have I1:Ad X π σ H { s with heap:=B }:=I.turned (t':=s.toks) (λb o hb e=>(sb.2 b hb).trans e) Y f1 f3 f4 f5;obtain⟨o,e,c,d⟩:=AG (id bu);exact⟨u,rfl,JT (s:={ s with heap:=B }) e c d (by decide) ⟨x,H,I1,ru,⟨rfl,λys hy=>by rw[I.rC hy hq];exact hx⟩,bu,λb hb=>(D b hb).1⟩⟩
 done:=by intro X J hw L hc i π s σ H E I D st O;subst J hw L;obtain⟨xs,hq,hx⟩:=As O;obtain⟨its,V,p,hz⟩:=AG (I.tuple hq);obtain⟨Y,f1,f2,f3,f4,f5⟩:=AU (D it (by simp));have hl:=V.length;exact wpAny_pyNext_tuple_end (I.ok.hd hc) st (show s.heap.IsTuple a its.toArray from p) (by simp;omega) λB eb=>⟨rfl,I.turned (t':=s.toks) (λb o hb e=>eb b o hb e) Y f1 f3 f4 f5⟩
 self:=λ_ _ _ _ _ st h=>wpAny_pyIter_tupleiter st h
theorem AaD{P:TR}{w:TL}{K:TH}{tg:TM}(it:ar)(lo:Int)(n:Nat):Ge P w K tg (GJ lo n) [it] it (λi h=>IsRangeIter h it (lo+(i:Nat)*1) ((n:Int)-(i:Nat)) 1) where
 mem:=by simp
 obj:=λi h st b hb=>by
  have e:b=it:=by simpa using hb
  subst e;exact⟨_,st,λv z=>by
   have z':Data.fields _=Data.cell v:=z;cases z'⟩
 keep:=λi h B st k=>k it (by simp) _ st
 item:=by intro X J hw L hc i π s σ H E I D st O;subst J hw L;obtain⟨V,f1,f2,Y,f4,f5⟩:=AU (D it (by simp));have W:=Walks.range (prog:=X.prog) (w:=X.w) (I.ok.hd hc) it lo 1 n;refine W.item i s _ _ O st λv B tk hv bu kk=>?_;obtain⟨t,rfl⟩:=hv;have I1:Ad X π σ H { s with heap:=B,toks:=tk }:=I.turned (λb o hb e=>kk b o (by simpa using hb) e) V f1 Y f4 f5;refine⟨_,rfl,JT (s:={ s with heap:=B,toks:=tk }) (n:="range_iterator") bu rfl rfl (by decide) ⟨.int (lo+i),H,I1,⟨t,?_⟩,⟨rfl,rfl⟩,bu,λb hb=>(D b hb).1⟩⟩;rw[Int.mul_one]
 done:=by intro X J hw L hc i π s σ H E I D st O;subst J hw L;obtain⟨V,f1,f2,Y,f4,f5⟩:=AU (D it (by simp));exact wpAny_pyNext_range_end (I.ok.hd hc) st (by have:n<=i:=O;omega) λB eb=>⟨rfl,I.turned (t':=s.toks) (λb o hb e=>eb b o hb e) V f1 Y f4 f5⟩
 self:=λ_ _ _ _ _ st h=>wpAny_pyIter_rangeiter st h
section
variable {X:Cx}{tg:TM}
def AaE(K:TH)(tl:TE):TI:=λσ H R=>tl σ H λx H1=>∃a,x=.ref a/\(∃xs,A3 K H1 a xs)/\R (Hu K a) H1
def AaF(K:TH)(tl:TE):TI:=λσ H R=>tl σ H λx H1=>∃a,x=.ref a/\(∃xs,Bw K H1 a xs)/\R (IA K a) H1
def Dw (J:PE X l tl):PI X tg l (AaE X.K tl):=by
 intro π s σ H R I h;refine Ar (J π s σ H _ I h) λv B L=>AF L λx O D V Y=>?_;obtain⟨a,e,⟨xs,hq⟩,q⟩:=AG Y;subst e;cases V;obtain⟨its,rv,p,hz⟩:=AG<|D.list hq;apply Y7 p.isList;refine⟨B.heap.objs.size,[B.heap.objs.size],_,_,O,rfl,D.kept (t':=B.toks) λb o e=>Ut _ e,AaB a _,⟨_,UT _ rfl,rfl,rfl⟩,λb hb=>?_,q⟩;have e:b=B.heap.objs.size:=by simpa using hb
 subst e;exact D.d5 (Ua _)<|D.ai.fresh (Ua _)
def OF (J:PE X l tl):PI X tg l (AaF X.K tl):=by
 intro π s σ H R I h;refine Ar (J π s σ H _ I h) λv B L=>AF L λx O D V Y=>?_;obtain⟨a,e,⟨xs,hq⟩,q⟩:=AG Y;subst e;cases V;obtain⟨its,rv,p,hz⟩:=AG<|D.tuple hq;apply Y8 (show B.heap.IsTuple a its.toArray from p);refine⟨B.heap.objs.size,[B.heap.objs.size],_,_,O,rfl,D.kept (t':=B.toks) λb o e=>Ut _ e,AaC a _,⟨_,UT _ rfl,rfl,rfl⟩,λb hb=>?_,q⟩;have e:b=B.heap.objs.size:=by simpa using hb
 subst e;exact D.d5 (Ua _)<|D.ai.fresh (Ua _)
def OG{π:List (ar×Obj)}{σ:St}{H:Hp}{s:TK}{R:It->Hp->Prop}{E:af->TK->Prop}{lo B:Int}{t u v:Tok}{tk:Nat}(I:Ad X π σ H s)(J:-(2 ^ 62)<=lo)(h2:lo<2 ^ 62)(L:-(2 ^ 62)<=B)(O:B<2 ^ 62)(q:R (GJ lo (B-lo).toNat) H):TQ (TV X.prog X.w) X.A (Xu<|.ref s.heap.objs.size) (OE X π σ tg R) E { s with heap:=s.heap.push { cls:=.type "range",data:=.fields #[.int lo t,.int B u,.int 1 v] },toks:=tk }:=by
 apply wpAny_pyIter_range (IsRange.new ..) (small_one J h2 L O);have D:Ad X π σ H { s with heap:=s.heap.push { cls:=.type "range",data:=.fields #[.int lo t,.int B u,.int 1 v] },toks:=tk }:=I.kept λb o e=>Ut _ e;refine⟨(s.heap.push { cls:=.type "range",data:=.fields #[.int lo t,.int B u,.int 1 v] }).objs.size,[(s.heap.push { cls:=.type "range",data:=.fields #[.int lo t,.int B u,.int 1 v] }).objs.size],_,_,H,rfl,
  D.kept (t':=tk) λb o e=>Ut _ e,AaD _ lo (B-lo).toNat,?_,λb hb=>?_,q⟩
 .have V:lo+((0:Nat):Int)*1=lo:=by simp
  have Y:(((B-lo).toNat:Nat):Int)-((0:Nat):Int)=Builtin.Range.rangeSize lo B 1:=by rw[rangeSize_one];split<;>omega
  show IsRangeIter _ _ (lo+((0:Nat):Int)*1) ((((B-lo).toNat:Nat):Int)-((0:Nat):Int)) 1;rw[V,Y];exact UT _ rfl
 .have e:b=(s.heap.push { cls:=.type "range",data:=.fields #[.int lo t,.int B u,.int 1 v] }).objs.size:=by simpa using hb
  subst e;exact D.d5 (Ua _)<|D.ai.fresh (Ua _)
def OH(ta:TA):TI:=λσ H R=>ta σ H λvs H1=>∃j:Int,vs=[.int j]/\-(2 ^ 62)<=j/\j<2 ^ 62/\R (GJ 0 j.toNat) H1
def OI(ta:TA):TI:=λσ H R=>ta σ H λvs H1=>∃i j:Int,vs=[.int i,.int j]/\(-(2 ^ 62)<=i/\i<2 ^ 62/\-(2 ^ 62)<=j/\j<2 ^ 62)/\R (GJ i (j-i).toNat) H1
def AaG (J:Gl X "range")(L:X.mg "range"=none)(O:PA X [a] D)(hs:T5 [a] X.env=[(false,T7 a X.env)]:=by rfl):PI X tg (.Call (.Name "range" p) [a] [] pos) (OH D):=by
 intro π s σ H R I h;refine Call_<|Ga I J L boot_range (Xv (Ar (O pos π s σ H _ I h) λus s1 V=>AF V λvs H1 Y r1 B=>?_) hs rfl);replace B:=AG B;obtain⟨j,e,B,q2,q⟩:=B
 subst e;cases r1 with
 |cons r rr =>
  cases rr;obtain⟨t,rfl⟩:=r;exact call_range_1<|OG Y (by omega) (by omega) B q2 (by simpa using q)
def AaH{a b:TM}{J:TA}{p pos:Pos}(O:Gl X "range")(V:X.mg "range"=none)(Y:PA X [a,b] J)(hs:T5 [a,b] X.env=[(false,T7 a X.env),(false,T7 b X.env)]:=by rfl)(L:T5 [b] X.env=[(false,T7 b X.env)]:=by rfl) :
  PI X tg (.Call (.Name "range" p) [a,b] [] pos) (OI J):=by
 intro π s σ H R I h;refine Call_<|Ga I O V boot_range (Xv (Ar (Y pos π s σ H _ I h) λus s1 zz=>AF zz λvs H1 I1 r1 B=>?_) (by rw[hs,L])<|by rw[L];rfl);replace B:=BA B;obtain⟨i,j,e,⟨B,q2,q3,q4⟩,q⟩:=B
 subst e;cases r1 with
 |cons r D =>
  cases D with
  |cons r' D =>
   cases D;obtain⟨t,rfl⟩:=r;obtain⟨t',rfl⟩:=r';exact call_range_2<|OG I1 B q2 q3 q4 q
abbrev CW(J:It)(g:TG)(T:(St->Hp->Prop)->St->Hp->Prop)(σ0:St)(H0:Hp)(Q:St->Hp->Prop):Prop:=∃W:Nat->Nat->St->Hp->Prop,(∃m,W 0 m σ0 H0)/\∀i m σ H,W i m σ H ->
 (J.stop i H/\Q σ H)\/(J.go i H/\∃N:St->Hp->Prop,(∀σ' H',N σ' H'->∃m',m'<m/\W (i+1) m' σ' H')/\∀x H',J.lX i H x H'->g x σ H' (T N))
def GK (n:Nat)(Pv:Nat->St->Hp->Prop)(L:Pv 0 σ0 D)(hs:∀i σ H,i<n->Pv i σ H->J.go i H/\∀x B,J.lX i H x B->g x σ B (T<|Pv (i+1)))(hd:∀σ H,Pv n σ H->J.stop n H/\Q σ H):CW J g T σ0 D Q:=by
 refine⟨λi m σ H=>m=n-i/\i<=n/\Pv i σ H,⟨n,rfl,Vc _,L⟩,?_⟩;rintro i m σ H ⟨rfl,V,p⟩;by_cases I:i<n
 .obtain ⟨a,b⟩:=hs i σ H I p;exact .inr ⟨a,Pv<|i+1,λσ' B O=>⟨n-(i+1),by omega,rfl,I,O⟩,b⟩
 .obtain rfl:i=n:=by omega
  exact .inl<|hd σ H p
def AaI(wi:TI)(g:TG)(tb:TS):TS:=λD σ H=>wi σ H λJ H1=>CW J g (λN σ2 H2=>tb { D with nx:=N,ct:=N,bk:=D.nx } σ2 H2) σ H1 D.nx
noncomputable def IC(fp:List ar)(h:Heap):List (ar×Obj):=fp.filterMap λb=>(h.get? b).map λo=>(b,o)
def JU (hb:b∈B)(e:h.get? b=some o):(b,o)∈IC B h:=Y9.mpr ⟨b,hb,by rw[e];rfl⟩
def AaJ (D:p∈IC B h):p.1∈B/\h.get? p.1=some p.2:=by
 obtain⟨b,hb,e⟩:=As<|Y9.mp D;cases q:h.get? b with
 |none=>rw[q]at e;cases e
 |some o =>
  rw [q]at e;have I:(b,o)=p:=Us e;subst I;exact⟨hb,q⟩
def Ad.pinned{π:List (ar×Obj)}{σ:St}{H:Hp}{s:TK}{B:List ar}(I:Ad X π σ H s)(J:∀b∈B,Eu X π H b)(L:∀b∈B,∃o,s.heap.get? b=some o/\∀v,o.data≠.cell v):Ad X (π++IC B s.heap) σ H s :=
 I.rj λp O=>(UD.mp O).elim (λz=>I.pin p<|U5 _ z) λz=>by
  obtain⟨hb,e⟩:=AaJ z;obtain⟨V,f1,f2,_⟩:=AU<|J p.1 hb;obtain⟨o,D,d⟩:=As<|L p.1 hb;rw[e]at D;cases D;exact⟨e,V,f1,f2,d⟩
def Ad.iS{π pl:List (ar×Obj)}{σ:St}{H:Hp}{s:TK}(I:Ad X (π++pl) σ H s):Ad X π σ H s:=I.rj λp B=>I.pin p<|U5 _ (XO _ B)
def CM (Y:Yr (TV X.prog X.w) X.A X.env X.xe)(hc:X.calm=true)(hi:PI X tg iter wi)(hg:PG X tg g)(hb:Di X body tb)(hs:∀x,Wr iter X.env x=pure x:=by intro _;rfl):PS X (.For tg iter body [] pos) (AaI wi g tb):=by
 intro π s σ H D I h;refine wpAny_For (Ar (hi π s σ H _ I h) λv s1 h1=>Ar h1 λlY s2 h2=>?_) hs;obtain⟨it,fp,tn,J,H2,e,I2,T,st2,f2,W,⟨m0,w0⟩,turn⟩:=Io h2;subst e;have lZ:∀{V:Hp},(∀b∈fp,V b=none)->∀b∈fp,Eu X π V b:=λhn b hb=>⟨hn b hb,(f2 b hb).2⟩;refine codeAny_forLoop_any (λn s'=>∃i σ' V,Ad X π σ' V s'/\tn i s'.heap/\(∀b∈fp,V b=none)/\W i n σ' V) ?_ m0 ⟨0,σ,H2,I2,st2,λb hb=>(f2 b hb).1,w0⟩;rintro n s3 ⟨i,σ3,H3,I3,iT,iU,w3⟩;rcases turn i n σ3 H3 w3 with ⟨stop,qn⟩|⟨go,N,hN,step⟩
 .refine WY Y (Ar (T.done X rfl rfl rfl hc i π s3 σ3 H3 X.xe I3 (lZ iU) iT stop) λr s4 ⟨hr,I4⟩=>?_);subst hr;exact XS ⟨σ3,H3,I4,qn⟩
 .refine WY Y (Ar (T.item X rfl rfl rfl hc i π s3 σ3 H3 X.xe I3 (lZ iU) iT go) λr s4 zz=>DM zz λu hr h4=>?_);subst hr;refine WY Y<|Ar h4 λ_ s5 zz=>AF zz λx H5 I5 r5 ⟨y5,fR,md⟩=>?_;have mf:=I5.pinned (lZ md)<|T.obj _ _ fR;refine WY Y<|Ar (hg _ s5 σ3 H5 x u _ mf r5<|step x H5 y5) λ_ s6 zz=>Ls zz λσ6 H6 I6 q6=>?_;refine WY Y<|Ar (hb _ s6 σ6 H6 _ I6 q6) λf s7 B=>?_;have again:∀{σ7:St}{L:Hp},Ad X (π++IC fp s5.heap) σ7 L s7->N σ7 L->∃m,m<n/\∃i σ' V,Ad X π σ' V s7/\tn i s7.heap/\(∀b∈fp,V b=none)/\W i m σ' V:=λ{σ7 L} O n7=>by
   obtain⟨m',hm,w7⟩:=As<|hN σ7 L n7;refine⟨m',hm,i+1,σ7,L,O.iS,T.keep _ _ _ fR λb hb o e=>(O.pin (b,o)<|U5 _ (U5 _<|JU hb e)).1,λb hb=>?_,w7⟩;obtain⟨o,e,d⟩:=As<|T.obj _ _ fR b hb;exact(O.pin (b,o)<|U5 _ (U5 _<|JU hb e)).2.1
  cases f with
  |next=>obtain⟨σ7,L,O,n7⟩:=Bv B;exact again O n7
  |cont=>obtain⟨σ7,L,O,n7⟩:=Bv B;exact again O n7
  |brk=>replace B:=Bv B;obtain⟨σ7,L,O,B⟩:=B;exact⟨σ7,L,O.iS,B⟩
  |ret v=>replace B:=C7 B;obtain⟨x7,σ7,L,O,r7,B⟩:=B;exact⟨x7,σ7,L,O.iS,r7,B⟩
end
def LD{K:TH}{a:ar}{xs:List V}{g:TG}{T:(St->Hp->Prop)->St->Hp->Prop}{Q:St->Hp->Prop}{σ:St}{H:Hp}(Pv:Nat->St->Hp->Prop)(I:Pv 0 σ H)(B:∀i σ H,i<=xs.length->Pv i σ H->A3 K H a xs)(hs:∀i x σ H,xs[i]?=some x->Pv i σ H->g x σ H (T<|Pv (i+1)))(hd:∀σ H,Pv xs.length σ H->Q σ H):CW (Hu K a) g T σ H Q :=
 GK xs.length Pv I (λi σ H D p=>have q:=B i σ H (Wm D) p;⟨⟨xs,xs[i],q,by simp[D]⟩,λx J ⟨e,y⟩=>by subst e;exact hs i x σ _ (y xs q) p⟩) λσ H p=>⟨⟨xs,B _ σ H (Ua _) p,Ua _⟩,hd σ H p⟩
def OJ{K:TH}{a:ar}{xs:List V}{g:TG}{T:(St->Hp->Prop)->St->Hp->Prop}{Q:St->Hp->Prop}{σ:St}{H:Hp}(Pv:Nat->St->Hp->Prop)(I:Pv 0 σ H)(B:∀i σ H,i<=xs.length->Pv i σ H->Bw K H a xs)(hs:∀i x σ H,xs[i]?=some x->Pv i σ H->g x σ H (T<|Pv (i+1)))(hd:∀σ H,Pv xs.length σ H->Q σ H):CW (IA K a) g T σ H Q :=
 GK xs.length Pv I (λi σ H D p=>have q:=B i σ H (Wm D) p;⟨⟨xs,xs[i],q,by simp[D]⟩,λx J ⟨e,y⟩=>by subst e;exact hs i x σ _ (y xs q) p⟩) λσ H p=>⟨⟨xs,B _ σ H (Ua _) p,Ua _⟩,hd σ H p⟩
def OK{lo:Int}{n:Nat}{g:TG}{T:(St->Hp->Prop)->St->Hp->Prop}{Q:St->Hp->Prop}{σ:St}{H:Hp}(Pv:Nat->St->Hp->Prop)(D:Pv 0 σ H)(hs:∀i σ H,i<n->Pv i σ H->g (.int<|lo+i) σ H (T<|Pv (i+1)))(hd:∀σ H,Pv n σ H->Q σ H):CW (GJ lo n) g T σ H Q :=
 GK n Pv D (λi σ H B p=>⟨B,λx I ⟨e,y⟩=>by subst e y;exact hs i σ _ B p⟩) λσ H p=>⟨Ua _,hd σ H p⟩
def EL{K:TH}{a:ar}{xs:List V}{g:TG}{I:TS}{D:D9}{σ:St}{H:Hp}(Pv:Nat->St->Hp->Prop)(J:Pv 0 σ H)(L:∀i σ H,i<=xs.length->Pv i σ H->A3 K H a xs)(hs:∀i x σ H,xs[i]?=some x->Pv i σ H->g x σ H λσ2 B=>I { D with nx:=Pv<|i+1,ct:=Pv<|i+1,bk:=D.nx } σ2 B)(hd:∀σ H,Pv xs.length σ H->D.nx σ H):CW (Hu K a) g (λN σ2 B=>I { D with nx:=N,ct:=N,bk:=D.nx } σ2 B) σ H D.nx :=
 LD Pv J L hs hd
def AaK{K:TH}{a:ar}{xs:List V}{g:TG}{I:TS}{D:D9}{σ:St}{H:Hp}(Pv:Nat->St->Hp->Prop)(J:Pv 0 σ H)(L:∀i σ H,i<=xs.length->Pv i σ H->Bw K H a xs)(hs:∀i x σ H,xs[i]?=some x->Pv i σ H->g x σ H λσ2 B=>I { D with nx:=Pv<|i+1,ct:=Pv<|i+1,bk:=D.nx } σ2 B)(hd:∀σ H,Pv xs.length σ H->D.nx σ H):CW (IA K a) g (λN σ2 B=>I { D with nx:=N,ct:=N,bk:=D.nx } σ2 B) σ H D.nx :=
 OJ Pv J L hs hd
def Hv{lo:Int}{n:Nat}{g:TG}{I:TS}{D:D9}{σ:St}{H:Hp}(Pv:Nat->St->Hp->Prop)(J:Pv 0 σ H)(hs:∀i σ H,i<n->Pv i σ H->g (.int<|lo+i) σ H λσ2 B=>I { D with nx:=Pv<|i+1,ct:=Pv<|i+1,bk:=D.nx } σ2 B)(hd:∀σ H,Pv n σ H->D.nx σ H):CW (GJ lo n) g (λN σ2 B=>I { D with nx:=N,ct:=N,bk:=D.nx } σ2 B) σ H D.nx :=
 OK Pv J hs hd
abbrev R2:=V->V->Hp->VK->Prop
def Bh(X:Cx)(f:af->af->Sem af)(r:R2):Prop :=
 ∀(π:List (ar×Obj))(s:TK)(σ:St)(H:Hp)(x y:V)(v u:af)(Q:VK),Ad X π σ H s->AH x v->AH y u->r x y H Q ->
  TQ (TV X.prog X.w) X.A (f v u) (EP X π σ Q) X.xe s
def B0(X:Cx)(f:af)(r:List V->Hp->VK->Prop):Prop :=
 ∀(π:List (ar×Obj))(s:TK)(σ:St)(H:Hp)(xs:List V)(us:List af)(Q:VK),Ad X π σ H s->AA xs us->r xs H Q ->
  TQ (TV X.prog X.w) X.A (call f us) (EP X π σ Q) X.xe s
def AaL(X:Cx)(r:V->Hp->(Bool->Hp->Prop)->Prop):Prop :=
 ∀(π:List (ar×Obj))(s:TK)(σ:St)(H:Hp)(x:V)(v:af)(Q:Bool->Hp->Prop),Ad X π σ H s->AH x v->r x H Q ->
  TQ (TV X.prog X.w) X.A (truthy v) (TP X π σ Q) X.xe s
def JV(r:R2)(ta tb:TE):TE:=λσ H Q=>ta σ H λx H1=>tb σ H1 λy H2=>r x y H2 Q
def rI(C:Int->Int->Prop)(g:Int->Int->V):R2:=λx y H Q=>∃i j,x=.int i/\y=.int j/\C i j/\Q (g i j) H
def Gf(g:Int->Int->V):R2:=λx y H Q=>∃i j,x=.int i/\y=.int j/\Q (g i j) H
section
variable {X:Cx}{a b c:TM}{ta tb tc:TE}{pos:Pos}
def LF(L:PE X a ta)(hb:PE X b tb){π:List (ar×Obj)}{s:TK}{σ:St}{H:Hp}{R:V->V->Hp->Prop}(I:Ad X π σ H s)(h:ta σ H λx D=>tb σ D λy B=>R x y B){Q:af->TK->Prop}{f:af->af->Sem af}(O:∀v u s2 x y B,Ad X π σ B s2->AH x v->AH y u->R x y B->TQ (TV X.prog X.w) X.A (f v u) Q X.xe s2) :
  TQ (TV X.prog X.w) X.A (T7 a X.env) (λv Y=>TQ (TV X.prog X.w) X.A (T7 b X.env) (λu s₂=>TQ (TV X.prog X.w) X.A (f v u) Q X.xe s₂) X.xe Y) X.xe s:=by
 refine Ar (L π s σ H _ I h) λv s1 J=>AF J λx D I1 r1 q1=>?_;refine Ar (hb π s1 σ D _ I1 q1) λu s2 J=>AF J λy B I2 r2 q2=>?_;exact O v u s2 x y B I2 r1 r2 q2
def Av (D:Bh X (VC B) r)(J:PE X a ta)(hb:PE X b tb):PE X (.BinOp a B b pos) (JV r ta tb):=by intro π s σ H Q I h;exact wpAny_BinOp<|LF J hb I h λv u L x y O V Y ry q=>D π L σ O x y v u Q V Y ry q
def JW{f:af->af->Sem af}{C:Int->Int->Prop}{g:Int->Int->Int}(rule:∀(i j:Int) (t u:Tok) (s:TK) (Q:af->TK->Prop) (E:af->TK->Prop),C i j->Q (.int (g i j) s.toks) { s with toks:=s.toks+1 }->TQ (TV X.prog X.w) X.A (f (.int i t)<|.int j u) Q E s) :
  Bh X f (rI C λi j=>.int<|g i j):=by
 intro π s σ H x y v u Q I B D h;replace h:=BA h;obtain⟨i,j,rfl,rfl,hc,q⟩:=h
 obtain⟨t,rfl⟩:=B;obtain⟨J,rfl⟩:=D;exact rule i j t J s _ _ hc ⟨.int<|g i j,H,I.tok _,⟨_,rfl⟩,q⟩
def OL{f:af->af->Sem af}{g:Int->Int->Int}(rule:∀(i j:Int) (t u:Tok) (s:TK) (Q:af->TK->Prop) (E:af->TK->Prop),Q (.int (g i j) s.toks) { s with toks:=s.toks+1 }->TQ (TV X.prog X.w) X.A (f (.int i t)<|.int j u) Q E s) :
  Bh X f (Gf λi j=>.int<|g i j):=by
 intro π s σ H x y v u Q I B D h;replace h:=BA h;obtain⟨i,j,rfl,rfl,q⟩:=h
 obtain⟨t,rfl⟩:=B;obtain⟨J,rfl⟩:=D;exact rule i j t J s _ _ ⟨.int<|g i j,H,I.tok _,⟨_,rfl⟩,q⟩
def JY{f:af->af->Sem af}{g:Int->Int->Bool}(rule:∀(i j:Int) (t u:Tok) (s:TK) (Q:af->TK->Prop) (E:af->TK->Prop),Q (.bool<|g i j) s->TQ (TV X.prog X.w) X.A (f (.int i t)<|.int j u) Q E s) :
  Bh X f (Gf λi j=>.bl<|g i j):=by
 intro π s σ H x y v u Q I B D h;replace h:=BA h;obtain⟨i,j,rfl,rfl,q⟩:=h
 obtain⟨t,rfl⟩:=B;obtain⟨J,rfl⟩:=D;exact rule i j t J s _ _ ⟨.bl<|g i j,H,I,rfl,q⟩
def noP (h:y.natAbs<2147483648):Builtin.divisionGoesByPylong x y=false:=by
 apply PyProof.noPylong_of_log2;by_cases B:y.natAbs=0
 .rw[B];decide +kernel
 .have:=(Nat.log2_lt (k:=31) B).mpr h;omega
def OM(i j:Int):Prop:=0<j/\j<2147483648
def AaM(i j:Int):Prop:=0<=j/\j<=1000000/\i.natAbs<2 ^ 64
def ID(i j:Int):Prop:=(-(2 ^ 64)<i/\i<2 ^ 64)\/(-(2 ^ 64)<j/\j<2 ^ 64)
def ID.ok (h:ID i j):IntMulOk i j:=by
 rcases h with ⟨B,h2⟩|⟨B,h2⟩
 .exact .of_left (intBits_le_64 B h2)
 .exact .of_right (intBits_le_64 B h2)
def AaN:Bh X (VC .Add) (Gf λi j=>.int<|i+j):=OL λ_ _ _ _ _ _ _ q=>add_int q
def Gg:Bh X (VC .Sub) (Gf λi j=>.int<|i-j):=OL λ_ _ _ _ _ _ _ q=>sub_int q
def AaO:Bh X (VC .Mult) (rI ID λi j=>.int<|i*j):=JW λ_ _ _ _ _ _ _ hc q=>mul_int q hc.ok
def EM:Bh X (VC .FloorDiv) (rI OM λi j=>.int<|i / j):=JW λi j _ _ _ _ _ hc q=>by
 have B:(0:Int)<j:=hc.1;have h2:j<2147483648:=hc.2;exact floordiv_int (by omega) (by rwa[Int.fdiv_eq_ediv_of_nonneg i<|by omega])<|.inl (noP<|by omega)
def BM:Bh X (VC .Mod) (rI (λ_ j=>0<j) λi j=>.int<|i%j):=JW λi j _ _ _ _ _ hc q=>by
 have B:(0:Int)<j:=hc;exact mod_int' (by omega)<|by rwa[Int.fmod_eq_emod_of_nonneg i<|by omega]
def AaP:Bh X (VC .Pow) (rI AaM λi j=>.int<|i ^ j.toNat):=JW λ_ _ _ _ _ _ _ hc q=>pow_int_small hc.1 hc.2.1 hc.2.2 q
end
noncomputable def ON:V->V->Bool
 |.aa,.aa=>true|.aa,.int _=>true|.int _,.aa=>true|.aa,.bl _=>true|.bl _,.aa=>true|.aa,.str _=>true|.str _,.aa=>true
 |.int _,.int _=>true|.bl _,.bl _=>true|.str _,.str _=>true|.cq _,.cq _=>true
 |.int _,.str _=>true|.str _,.int _=>true|.bl _,.str _=>true|.str _,.bl _=>true
 |_,_=>false
def OO:R2:=λx y H Q=>ON x y=true/\Q (.bl (decide (x=y))) H
def LG:R2:=λx y H Q=>ON x y=true/\Q (.bl (!decide (x=y))) H
def OP:decide (V.int i=V.int j)=(i == j):=by rw[Ws];simp
def OQ:decide (V.bl i=V.bl j)=(i == j):=by rw[Ws];simp
def OR:decide (V.str i=V.str j)=(i == j):=by rw[Ws];simp
def OS:decide (V.cq i=V.cq j)=(i.toList == j.toList):=by rw[Ws];cases i;cases j;simp
section
variable {X:Cx}{a b c:TM}{ta tb tc:TE}{pos:Pos}
def BO{π:List (ar×Obj)}{σ:St}{H:Hp}{s:TK}{Q:VK}{k k':Bool}(I:Ad X π σ H s)(q:Q (.bl k) H)(e:k=k'):EP X π σ Q (.bool k') s:=by subst e;exact⟨.bl k,H,I,rfl,q⟩
def AaQ:Bh X (UO .Eq) OO:=by
 intro π s σ H x y v u Q I J B h;obtain⟨hs,q⟩:=h;cases x with
 |aa =>
  cases J;cases y with
  |aa=>cases B;exact PySem.EqNone.eq_none_none<|BO I q (by simp)
  |bl j=>cases B;exact PySem.EqNone.eq_none_bool<|BO I q (by simp)
  |int j=>obtain⟨D,rfl⟩:=B;exact PySem.EqNone.eq_none_int<|BO I q (by simp)
  |str j=>obtain⟨D,rfl⟩:=B;exact PySem.EqNone.eq_none_str<|BO I q (by simp)
  |_=>exact absurd (show false=true from hs) UN
 |bl i =>
  cases J;cases y with
  |aa=>cases B;exact PySem.EqNone.eq_bool_none<|BO I q (by simp)
  |bl j=>cases B;exact eq_bool<|BO I q OQ
  |str j=>obtain⟨D,rfl⟩:=B;exact PySem.EqMixed.eq_bool_str<|BO I q (by simp)
  |_=>exact absurd (show false=true from hs) UN
 |int i =>
  obtain⟨t,rfl⟩:=J;cases y with
  |aa=>cases B;exact PySem.EqNone.eq_int_none<|BO I q (by simp)
  |int j=>obtain⟨D,rfl⟩:=B;exact eq_int<|BO I q OP
  |str j=>obtain⟨D,rfl⟩:=B;exact PySem.EqMixed.eq_int_str<|BO I q (by simp)
  |_=>exact absurd (show false=true from hs) UN
 |str i =>
  obtain⟨t,rfl⟩:=J;cases y with
  |aa=>cases B;exact PySem.EqNone.eq_str_none<|BO I q (by simp)
  |bl j=>cases B;exact PySem.EqMixed.eq_str_bool<|BO I q (by simp)
  |int j=>obtain⟨D,rfl⟩:=B;exact PySem.EqMixed.eq_str_int<|BO I q (by simp)
  |str j=>obtain⟨D,rfl⟩:=B;exact eq_str<|BO I q OR
  |_=>exact absurd (show false=true from hs) UN
 |cq i =>
  obtain⟨t,rfl⟩:=J;cases y with
  |cq j=>obtain⟨D,rfl⟩:=B;exact PySem.W.eq_bytes<|BO I q OS
  |_=>exact absurd (show false=true from hs) UN
 |_=>cases y<;>exact absurd (show false=true from hs) UN
def AaR:Bh X (UO .NotEq) LG:=by
 intro π s σ H x y v u Q I J B h;obtain⟨hs,q⟩:=h;cases x with
 |aa =>
  cases J;cases y with
  |aa=>cases B;exact PySem.EqNone.ne_none_none<|BO I q (by simp)
  |bl j=>cases B;exact PySem.EqNone.ne_none_bool<|BO I q (by simp)
  |int j=>obtain⟨D,rfl⟩:=B;exact PySem.EqNone.ne_none_int<|BO I q (by simp)
  |str j=>obtain⟨D,rfl⟩:=B;exact PySem.EqNone.ne_none_str<|BO I q (by simp)
  |_=>exact absurd (show false=true from hs) UN
 |bl i =>
  cases J;cases y with
  |aa=>cases B;exact PySem.EqNone.ne_bool_none<|BO I q (by simp)
  |bl j=>cases B;exact ne_bool<|BO I q (congrArg not OQ)
  |str j=>obtain⟨D,rfl⟩:=B;exact PySem.EqMixed.ne_bool_str<|BO I q (by simp)
  |_=>exact absurd (show false=true from hs) UN
 |int i =>
  obtain⟨t,rfl⟩:=J;cases y with
  |aa=>cases B;exact PySem.EqNone.ne_int_none<|BO I q (by simp)
  |int j=>obtain⟨D,rfl⟩:=B;exact ne_int<|BO I q (congrArg not OP)
  |str j=>obtain⟨D,rfl⟩:=B;exact PySem.EqMixed.ne_int_str<|BO I q (by simp)
  |_=>exact absurd (show false=true from hs) UN
 |str i =>
  obtain⟨t,rfl⟩:=J;cases y with
  |aa=>cases B;exact PySem.EqNone.ne_str_none<|BO I q (by simp)
  |bl j=>cases B;exact PySem.EqMixed.ne_str_bool<|BO I q (by simp)
  |int j=>obtain⟨D,rfl⟩:=B;exact PySem.EqMixed.ne_str_int<|BO I q (by simp)
  |str j=>obtain⟨D,rfl⟩:=B;exact ne_str<|BO I q (congrArg not OR)
  |_=>exact absurd (show false=true from hs) UN
 |cq i =>
  obtain⟨t,rfl⟩:=J;cases y with
  |cq j=>obtain⟨D,rfl⟩:=B;exact PySem.W.ne_bytes<|BO I q (congrArg not OS)
  |_=>exact absurd (show false=true from hs) UN
 |_=>cases y<;>exact absurd (show false=true from hs) UN
def FL:Bh X (UO .Lt) (Gf λi j=>.bl<|decide (i<j)):=JY λ_ _ _ _ _ _ _ q=>lt_int q
def IE:Bh X (UO .LtE) (Gf λi j=>.bl<|decide (i<=j)):=JY λ_ _ _ _ _ _ _ q=>le_int q
def LH:Bh X (UO .Gt) (Gf λi j=>.bl<|decide (j<i)):=JY λ_ _ _ _ _ _ _ q=>gt_int q
def AaS:Bh X (UO .GtE) (Gf λi j=>.bl<|decide (j<=i)):=JY λ_ _ _ _ _ _ _ q=>ge_int q
def AaT:Bh X (UO .In) (λx y H Q=>∃i j,x=.str i/\y=.str j/\Q (.bl<|!(Za j i 0 j.length 1).isEmpty) H):=by
 intro π s σ H x y v u Q I B D h;replace h:=BA h;obtain⟨i,j,rfl,rfl,q⟩:=h
 obtain⟨t,rfl⟩:=B;obtain⟨J,rfl⟩:=D;exact in_str<|BO I q rfl
def Gh:Bh X (UO .Is) (λx y H Q=>y=.aa/\Q (.bl<|decide (x=.aa)) H):=by
 intro π s σ H x y v u Q I B D h;obtain⟨rfl,q⟩:=h;cases D;refine is_none_gen<|BO I q ?_;cases x<;>first
  | (cases B;rfl)
  | (obtain⟨t,rfl⟩:=B;rfl)
def LJ:Bh X (UO .IsNot) (λx y H Q=>y=.aa/\Q (.bl<|!decide (x=.aa)) H):=by
 intro π s σ H x y v u Q I B D h;obtain⟨rfl,q⟩:=h;cases D;refine isnot_none_gen<|BO I q ?_;cases x<;>first
  | (cases B;rfl)
  | (obtain⟨t,rfl⟩:=B;rfl)
def Bh.or (h:Bh X f r)(h':Bh X f B):Bh X f (λx y H Q=>r x y H Q\/B x y H Q):=by
 intro π s σ H x y v u Q I D J q;rcases q with q|q
 .exact h π s σ H x y v u Q I D J q
 .exact h' π s σ H x y v u Q I D J q
def AW (b:TM)(h:B≠.In:=by decide)(h2:B≠.NotIn:=by decide):Ys B b=false:=by
 have D:(B == CmpOp.In)=false:=by cases B<;>first|rfl|exact absurd rfl h
 have I:(B == CmpOp.NotIn)=false:=by cases B<;>first|rfl|exact absurd rfl h2
 cases b<;>simp[Ys,D,I]
def GN (D:Bh X (UO B) r)(J:PE X a ta)(hb:PE X b tb)(L:Ys B b=false):PE X (.Compare a [B] [b] pos) (JV r ta tb):=by intro π s σ H Q I h;exact wpAny_Compare1 (LF J hb I h λv u O x y V Y rx ry q=>D π O σ V x y v u Q Y rx ry q) L
def OT(t:TE):TT:=λσ H Q=>t σ H λx H'=>∃k,x=.bl k/\Q k H'
def AL (J:Bh X (UO B) r)(L:PE X a ta)(hb:PE X b tb)(O:Ys B b=false):PT X (.Compare a [B] [b] pos) (OT<|JV r ta tb):=by
 intro π s σ H Q I h;refine wpAny_isTrue_Compare1 (Ar (L π s σ H _ I h) λv V D=>AF D λx Y I1 r1 q1=>Ar (hb π V σ Y _ I1 q1) λu s2 ⟨y,H2,I2,r2,q2⟩ =>
  Ar (J π s2 σ H2 x y v u _ I2 r1 r2 q2) λc s3 D=>AF D λz H3 I3 r3 ⟨k,e,q3⟩=>?_) O
 subst e;cases r3;exact We ⟨H3,I3,q3⟩
def OU(r r':R2)(ta tb tc:TE):TE:=λσ H Q=>ta σ H λx H1=>tb σ H1 λy H2=>r x y H2 λz H3=>∃k,z=.bl k /\
 (if k=true then tc σ H3 λw' H4=>r' y w' H4 Q else Q (.bl false) H3)
def AaU (ho:Bh X (UO D) r)(cX:Bh X (UO J) L)(ha:PE X a ta)(hb:PE X b tb)(hc:PE X c tc)(hm:lastMarks [D,J] [b,c]=false:=by with_unfolding_all rfl):PE X (.Compare a [D,J] [b,c] pos) (OU r L ta tb tc):=by
 intro π s σ H Q I h;refine Compare_chain (Ar (ha π s σ H _ I h) λv s1 B=>AF B λx H1 I1 r1 q1=>chain_link (Ar (hb π s1 σ H1 _ I1 q1) λu s2 ⟨y,H2,I2,O,q2⟩ =>
  Ar (ho π s2 σ H2 x y v u _ I2 r1 O q2) λd s3 B=>AF B λz V Y r3 ⟨k,e,q3⟩=>?_)) hm
 subst e;cases r3;apply We;cases k with
 |false=>exact ite_ff ⟨.bl false,V,Y,rfl,q3⟩
 |true=>exact ite_tt<|chain_last (Ar (hc π s3 σ V _ Y q3) λw' s4 B=>AF B λz' H4 I4 r4 q4=>cX π s4 σ H4 y z' u w' Q I4 O r4 q4)
def AaV (ho:Bh X (UO D) r)(cX:Bh X (UO J) L)(ha:PE X a ta)(hb:PE X b tb)(hc:PE X c tc)(hm:lastMarks [D,J] [b,c]=false:=by with_unfolding_all rfl):PT X (.Compare a [D,J] [b,c] pos) (OT<|OU r L ta tb tc):=by
 intro π s σ H Q I h;refine isTrue_chain (Ar (ha π s σ H _ I h) λv s1 B=>AF B λx H1 I1 r1 q1=>test_link (Ar (hb π s1 σ H1 _ I1 q1) λu s2 ⟨y,H2,I2,O,q2⟩ =>
  Ar (ho π s2 σ H2 x y v u _ I2 r1 O q2) λd s3 B=>AF B λz V Y r3 ⟨k,e,q3⟩=>?_)) hm
 subst e;cases r3;apply We;cases k with
 |false =>
  obtain⟨k',e',q'⟩:=As q3;cases e';exact ite_ff ⟨V,Y,q'⟩
 |true =>
  refine ite_tt<|test_last (Ar (hc π s3 σ V _ Y q3) λw' s4 B=>AF B λz' H4 I4 r4 q4=>Ar (cX π s4 σ H4 y z' u w' _ I4 O r4 q4) λd' s5 B=>AF B λz2 H5 I5 r5 ⟨k2,e2,q5⟩=>?_);subst e2;cases r5;exact We ⟨H5,I5,q5⟩
def LK(K:TH)(x:V)(H:Hp)(k:Bool):Prop :=
 match x with
 |.aa=>k=false
 |.bl b=>k=b
 |.int i=>k=(i != 0)
 |.str y=>y.length<=sizeLine/\k=((y.length:Int) != 0)
 |.cq y=>y.size<=sizeLine/\k=((y.size:Int) != 0)
 |.ref p=>(∃xs,A3 K H p xs/\k=!xs.isEmpty)\/(∃xs,Bw K H p xs/\k=!xs.isEmpty)\/∃kvs,H p=some (.dK kvs)/\k=!kvs.isEmpty
 |_=>False
def AaW (r:KV kvs vs):(!vs.isEmpty)=!kvs.isEmpty:=by cases r<;>rfl
def OV (r:AA xs its):(!its.toArray.isEmpty)=!xs.isEmpty:=by cases r<;>simp
def Gi:(sizeLine:Nat)<2 ^ 63:=by rw[TZ];decide
def OW:AaL X (λx H Q=>∃k,LK X.K x H k/\Q k H):=by
 intro π s σ H x v Q I O h;obtain⟨k,e,q⟩:=As h;have Y:=Gi;have hs:sizeLine=16777216:=TZ;cases x with
 |aa =>
  cases O;have B:k=false:=e;subst B;exact truthy_none ⟨H,I,q⟩
 |bl b =>
  cases O;have B:k=b:=e;subst B;exact We ⟨H,I,q⟩
 |int i =>
  obtain⟨t,rfl⟩:=O;have B:k=(i != 0):=e;subst B;exact PySem.P.truthy_int ⟨H,I,q⟩
 |str y =>
  obtain⟨t,rfl⟩:=O;obtain⟨hy,B⟩:y.length<=sizeLine/\k=((y.length:Int) != 0):=e;subst B;exact PySem.P.truthy_str (by omega) ⟨H,I.tok _,q⟩
 |cq y =>
  obtain⟨t,rfl⟩:=O;obtain⟨hy,B⟩:y.size<=sizeLine/\k=((y.size:Int) != 0):=e;subst B;exact PySem.W.truthy_bytes (by omega) ⟨H,I.tok _,q⟩
 |ref p =>
  cases O;have B:(∃L,A3 X.K H p L/\k=!L.isEmpty)\/(∃L,Bw X.K H p L/\k=!L.isEmpty)\/∃D,H p=some (.dK D)/\k=!D.isEmpty:=e;rcases B with ⟨L,hx,B⟩|⟨L,hx,B⟩|⟨D,hx,B⟩
  .subst B;obtain⟨its,r,pl,V⟩:=AG<|I.list hx;have J:=r.length;exact wpAny_truthy_list pl.isList (by simp only[UB];omega) ⟨H,I.tok _,by rwa[OV r]⟩
  .subst B;obtain⟨its,r,pl,V⟩:=AG<|I.tuple hx;have J:=r.length;exact truthy_tuple pl (by simp only[UB];omega) ⟨H,I.tok _,by rwa[OV r]⟩
  .subst B;obtain⟨V,hS,vs,r,m⟩:D.length<=sizeLine/\(p == Vk)=false/\∃vs,KV D vs/\s.heap.DictOf (BB X.prog X.w) p vs:=I.ai p _ hx;have J:D.length=vs.length:=Paired.length r;exact wpAny_truthy_dict hS m (by omega) ⟨H,I.tok _,by rwa[AaW r]⟩
 |_=>exact(show False from e).elim
def AaX(J:PE X a ta)(L:∀B,XR a X.env B=(do let v <-B;Vo a.pos;Vl [v] (truthy v))) :
  PT X a (λσ H Q=>ta σ H λx D=>∃k,LK X.K x D k/\Q k D):=by
 intro π s σ H Q I h;exact isTrue_plain (Ar (J π s σ H _ I h) λv O V=>AF V λx Y I1 r1 q1=>OW π O σ Y x v Q I1 r1 q1)<|L _
def AaY:Bh X (VC .Add) (λx y H Q=>∃i j,x=.str i/\y=.str j/\i.length+j.length<=sizeLine/\Q (.str<|i++j) H):=by
 intro π s σ H x y v u Q I B D h;replace h:=BA h;obtain⟨i,j,rfl,rfl,J,q⟩:=h
 obtain⟨t,rfl⟩:=B;obtain⟨L,rfl⟩:=D;exact add_str (λL O=>⟨.str<|i++j,H,I.tok _,⟨_,rfl⟩,q⟩) J
def Dq (r:AA [x] us):∃u,us=[u]/\AH x u:=by
 cases r with
 |cons B D=>cases D;exact⟨_,rfl,B⟩
def OX (r:AA [x,y] us):∃u B,us=[u,B]/\AH x u/\AH y B:=by
 cases r with
 |cons D I =>
  cases I with
  |cons J L=>cases L;exact⟨_,_,rfl,D,J⟩
def OY:B0 X (.type "int") (λxs H Q=>(∃i,xs=[.int i]/\Q (.int i) H)\/∃k,xs=[.bl k]/\Q (.int (if k then 1 else 0)) H):=by
 intro π s σ H xs us Q I r h;rcases h with ⟨i,rfl,q⟩|⟨k,rfl,q⟩
 .obtain ⟨u,rfl,t,rfl⟩:=As<|Dq r;exact call_int_int ⟨.int i,H,I,⟨_,rfl⟩,q⟩
 .obtain ⟨u,rfl,B⟩:=As<|Dq r;cases B;exact call_int_bool ⟨.int (if k then 1 else 0),H,I.tok _,⟨_,rfl⟩,q⟩
def AaZ:B0 X (.type "str") (λxs H Q=>∃i,xs=[.int i]/\i.natAbs.log2<1920/\Q (.str<|toString i) H):=by
 intro π s σ H xs us Q I r h;replace h:=AG h;obtain⟨i,rfl,B,q⟩:=h
 obtain⟨u,rfl,t,rfl⟩:=As<|Dq r;exact PySem.P.str_of_int B ⟨.str _,H,I.tok _,⟨_,rfl⟩,q⟩
end
structure GO(h:Heap)(x dx C:ar)(mA:bf->Option af):Prop where
 obj:h.get? x=some (Wl C dx)
 ns:h.Ns1 dx mA
 ne:dx≠x
def Aa0{h:Heap}{dx:ar}{D:bf->Option af}(n:h.Ns1 dx D):∃I,h.get? dx=some I/\∀name,Yt name I=some (D name):=by
 obtain⟨o,es,V,J,hd,hk,_,L⟩:=F9 n;refine⟨o,J,λname=>?_⟩;have e:=L name;unfold nsFind findBy at e;rw[<-Array.find?_toList]at e;unfold Yt;rw[hd];dsimp only;split
 .rename_i y q
  rw [q]at e;exact congrArg some e
 .rename_i q
  rw [q]at e;have a:es.toList.any (·.refKey)=false:=by rw[List.any_eq_false];intro y hy;obtain⟨z,t,B⟩:=hk y<|v8.mp hy;simp[DictEntry.refKey,B]
  have O:¬es.toList.any (·.refKey)=true:=by rw[a];exact UN
  rw [cZ O];exact congrArg some e
def GO.look (I:GO h x dx C D):∃B,PySem.W.InstAt h x (Wl C dx) C (some B)/\∀name,Yt name B=some (D name) :=
 let ⟨B,J,L⟩:=Aa0 I.ns
 ⟨B,⟨I.obj,rfl,rfl,J⟩,L⟩
section
variable {prog:TR}{w:TL}{A:Ud}{E:af->TK->Prop}{s:TK}{K:TH}{x dx C f:ar}{mA:bf->Option af}{name:bf}{v:af}
def Aa1 (X:K.In s.heap)(I:GO s.heap x dx C mA)(B:Wg K C name=true)(D:Wt K C=true)(L:Ue K (.ref C) name=some none)(hv:mA name=some v)(O:v9 v=true)(h:Q v { s with toks:=s.toks+1 }):
  TQ (TV prog w) A (getAttr (.ref x) name expr) Q E s:=by
 obtain⟨Y,J,V⟩:=As I.look;exact PySem.W.get_value X J (Zb B).1 (PySem.W.findObj_own D L rfl<|by rw[V,hv]) O h
def Aa2 (X:K.In s.heap)(I:GO s.heap x dx C mA)(B:Wg K C name=true)(D:Ue K (.ref C) name=some (some<|.ref f))(L:Wu K (.ref f)=true)(hv:mA name=none)(h:Q (.ref f,[.ref x]) s):
  TQ (TV prog w) A (V7 (.ref x) name pl) Q E s:=by
 obtain⟨O,J,V⟩:=As I.look;exact PySem.W.method_fn X J (Zb B).1 (Zb B).2 D (beq_iff_eq.mp L) (by show(Yt name O).map (·.isSome)=some false;rw[V,hv];rfl) h
def Aa3 (X:K.In s.heap)(I:GO s.heap x dx C mA)(hs:Ue K (.ref C) "__setattr__"=some (some<|.builtin "object.__setattr__"))(V:Xa K C=true)(Y:Zc K C name=some none)(hh:Wt K C=true)(hw:Y2 mA ns)(hsz:ns.length<=sizeLine)(h:∀h',GO h' x dx C (λy=>if y=name then some v else mA y)->Vb dx s.heap h'->Q () { s with heap:=h',toks:=s.toks+2 }):
  TQ (TV prog w) A (setAttr (.ref x) name v) Q E s:=by
 obtain⟨od,J,hl⟩:=As I.look;refine PySem.W.set_plain X J hs<|PySem.W.osa_open (s:={ s with toks:=s.toks+1 }) (r:=none) X J V Y λb=>?_;obtain⟨cd,hc,lR⟩:=As<|PySem.W.any_some hh;have hx:s.heap.get? x=some ⟨.ref C,some dx,.plain,#[]⟩:=I.obj;refine TX<|Ub (TX<|TX (wa hx<|TX (PySem.W.Looks.here (s:={ s with toks:=s.toks+1 }) (PySem.W.looks_clsIn X hc) ?_)));rw[lR];refine Ub (a:=some dx)<|TX (Ub<|TX ?_);refine wpAny_nsSet1 (s:={ s with toks:=s.toks+1 }) I.ns λh' L O=>?_;obtain⟨oD,esD,epD,B,D,d6⟩:=C7<|L.count (PySem.Within.cons name v hw);refine TX<|wpAny_lookBehind B (by rw[D];exact pastItsLine_dict<|U1 d6 (by rw[U2];omega)) ?_;exact Ub<|h _ ⟨(O.2 _<|UC I.ne).trans I.obj,L,I.ne⟩ O
def Aa4 (X:K.In s.heap)(D:Wv K C=true)(I:Ue K (.ref C) "__init__"=some (some<|.ref f))(J:Vp K (.ref f)=some (.type "function"))(h:Vh (TV prog w) (A.under<|.builtin "type.__call__" ⟨.ref C::vs,B⟩) (.call (.ref f) ⟨.ref (s.heap.objs.size+1)::vs,B⟩) (PySem.W.InitBack (s.heap.objs.size+1) R)
   { s with heap:=(s.heap.push Wh).push (Wl C s.heap.objs.size) }):
  Vh (TV prog w) A (.call (.ref C) ⟨vs,B⟩) R s:=by
 obtain⟨L,g,d,t,os⟩:=s;exact PySem.W.make_core (PySem.W.makes_of X D) (PySem.W.looks_findIn X I) (λself=>PySem.W.bind_fn X self J) (.inl rfl) h
end
noncomputable def A8(f:bf)(v:V):List (bf×V)->List (bf×V)
 |[]=>[(f,v)]
 | (g,x)::r=>if g=f then(g,v)::r else(g,x)::A8 f v r
theorem OZ(f g:bf)(v:V):∀fs:List (bf×V),(A8 f v fs).lookup g=if g=f then some v else fs.lookup g
 |[]=>by
  show Xb g [(f,v)]=_;by_cases h:g=f
  .have hb:(g == f)=true:=beq_iff_eq.mpr h;simp only[Xb,hb,br h]
  .have hb:(g == f)=false:=beq_eq_false_iff_ne.mpr h;simp only[Xb,hb,cZ h]
 | (k,x)::r=>by
  have ih:=OZ f g v r;rw[show A8 f v ((k,x)::r)=(if k=f then(k,v)::r else(k,x)::A8 f v r)from rfl];by_cases hk:k=f
  .rw[br hk];by_cases h:g=k
   .have hb:(g == k)=true:=beq_iff_eq.mpr h;simp only[Xb,hb,br (h.trans hk)]
   .have hb:(g == k)=false:=beq_eq_false_iff_ne.mpr h;simp only[Xb,hb,cZ (λe:g=f=>h (e.trans hk.symm))]
  .rw[cZ hk];by_cases h:g=k
   .have hb:(g == k)=true:=beq_iff_eq.mpr h;simp only[Xb,hb,cZ (λe:g=f=>hk (h.symm.trans e))]
   .have hb:(g == k)=false:=beq_eq_false_iff_ne.mpr h;simp only[Xb,hb];exact ih
theorem LL(f:bf)(v:V):∀fs:List (bf×V),f∈(A8 f v fs).map (·.1)/\∀g,g∈fs.map (·.1)->g∈(A8 f v fs).map (·.1)
 |[]=>⟨by simp[A8],λg h=>by simp at h⟩
 | (k,x)::r=>by
  obtain⟨B,D⟩:=LL f v r;rw[show A8 f v ((k,x)::r)=(if k=f then(k,v)::r else(k,x)::A8 f v r)from rfl];by_cases hk:k=f
  .rw[br hk];subst hk;exact⟨by simp,λg h=>by simpa using h⟩
  .rw[cZ hk];refine⟨?_,λg h=>?_⟩
   .rw[UR];exact Uy _ B
   .rw[UR]at h ⊢;rcases T9.mp h with e|e
    .exact T9.mpr (.inl e)
    .exact Uy _ (D g e)
theorem O0(f:bf)(v:V):∀fs:List (bf×V),(A8 f v fs).length<=fs.length+1
 |[]=>by simp[A8]
 | (k,x)::r=>by
  have ih:=O0 f v r;rw[show A8 f v ((k,x)::r)=(if k=f then(k,v)::r else(k,x)::A8 f v r)from rfl];by_cases hk:k=f
  .rw[br hk,U2,U2];omega
  .rw[cZ hk,U2,U2];omega
def C8.some_of (r:C8 (some v) o):∃u,o=some u/\AH v u:=by
 cases o with
 |none=>exact(show False from r).elim
 |some u=>exact⟨u,rfl,r⟩
def C8.none_of (r:C8 none o):o=none:=by
 cases o with
 |none=>rfl
 |some u=>exact(show False from r).elim
def Aa5 (r:AH v u):v9 u=true:=by
 cases v with
 |aa=>cases(show u=U0 from r);rfl
 |bl b=>cases(show u=XI b from r);rfl
 |int i=>obtain⟨t,e⟩:=(show ∃t,u=U7 i t from r);cases e;rfl
 |str x=>obtain⟨t,e⟩:=(show ∃t,u=UU x t from r);cases e;rfl
 |cq b=>obtain⟨t,e⟩:=(show ∃t,u=Value.bytes b t from r);cases e;rfl
 |fQ b=>obtain⟨t,e⟩:=(show ∃t,u=Y1 b t from r);cases e;rfl
 |ref a=>cases(show u=T8 a from r);rfl
 |ty n=>cases(show u=XJ n from r);rfl
section
variable {P:TR}{w:TL}{H H':Hp}{h h':Heap}{a C dx:ar}{fs fh:List (bf×V)}
def JZ(D:A1 P w H h)(e:H a=some (.ins C dx fs)):∃B,GO h a dx C B/\(∀f,C8 (fs.lookup f)<|B f)/\Y2 B (fs.map (·.1))/\fs.length<=1000/\H dx=some (.own a):=by obtain⟨d,z,ne,I,B,n,r,q⟩:=AU<|(show Bs P w H h a (.ins C dx fs)from D a _ e);exact⟨B,⟨I,n,ne⟩,r,q,z,d⟩
end
structure CN(K:TH)(C:ar):Prop where
 pg:Wg K C Uw=true
 hd:Wt K C=true
 po:Xa K C=true
 sa:Ue K (.ref C) "__setattr__"=some (some (.builtin "object.__setattr__"))
def CN.get{K:TH}{C:ar}(c:CN K C)(f:bf):Wg K C f=true:=c.pg
def B1(K:TH)(C:ar)(f:bf):Prop:=Ue K (.ref C) f=some none
def B1.aag{K:TH}{C:ar}{f:bf}(n:B1 K C f):Zc K C f=some none:=by unfold Zc;rw[show Ue K (.ref C) f=some none from n];rfl
structure Con(K:TH)(C:ar)(f:bf)(v:V)(u:af):Prop where
 at_:Ue K (.ref C) f=some (some u)
 rel:AH v u
 get:Yu K u "__get__"=some none
 cp:PySem.W.copiedNames.contains f=false
structure J0(K:TH)(C:ar)(m:bf)(f:ar):Prop where
 at_:Ue K (.ref C) m=some (some (.ref f))
 fn:Wu K (.ref f)=true
 kp:U8 K (.ref f)=true
section
variable {X:Cx}{π:List (ar×Obj)}{σ:St}{H:Hp}{s:TK}{a C dx:ar}{fs:List (bf×V)}{f:bf}{v:V}{A:Ud}{E:af->TK->Prop}
def O1 (I:Ad X π σ H s)(e:H a=some (.ins C dx fs))(c:CN X.K C)(n:B1 X.K C f)(l:fs.lookup f=some v)(h:∀u B,Ad X π σ H B->AH v u->Q u B):TQ (TV X.prog X.w) A (getAttr (.ref a) f b) Q E s:=by obtain⟨J,O,r,_,_,_⟩:=AG<|JZ I.ai e;obtain⟨u,hu,D⟩:=As<|C8.some_of (v:=v) (o:=J f) (by rw[<-l];exact r f);exact Aa1 I.aN O (c.get f) c.hd n hu (Aa5 D)<|h u _ (I.tok _) D
def IF (I:Ad X π σ H s)(e:H a=some (.ins C dx fs))(c:CN X.K C)(k:J0 X.K C m g)(l:fs.lookup m=none)(h:Q (.ref g,[.ref a]) s):TQ (TV X.prog X.w) A (V7 (.ref a) m pl) Q E s:=by obtain⟨B,O,r,_,_,_⟩:=AG<|JZ I.ai e;have D:B m=none:=C8.none_of (by rw[<-l];exact r m);exact Aa2 I.aN O (c.get m) k.at_ k.fn D h
def O2 (I:Ad X π σ H s)(e:H a=some (.ins C dx fs))(c:CN X.K C)(n:B1 X.K C f)(hl:fs.length<1000)(ry:AH y u)(h:∀D,Ad X π σ (upd H a<|.ins C dx (A8 f y fs)) D->Q () D):TQ (TV X.prog X.w) A (setAttr (.ref a) f u) Q E s:=by
 obtain⟨J,O,r,L,_,Y⟩:=AG<|JZ I.ai e;have hz:(fs.map (·.1)).length<=sizeLine:=by rw[TN,TZ];omega
 refine Aa3 I.aN O c.sa c.po n.aag c.hd L hz λh' B sb=>h _ ?_;have hd:∃o,h'.get? dx=some o:=let ⟨o,_,_,e',_⟩:=B.ns;⟨o,e'⟩;refine I.write (x:=a) (e:=dx) (by rw[e];exact Vv) (.inr Y) (λb q hb z=>(sb.2 b hb).trans z) hd ?_;refine⟨by rw[Aw O.ne];exact Y,?_,O.ne,B.obj,_,B.ns,λg=>?_,λg hg=>?_⟩
 .have:=O0 f y fs;omega
 .show C8 ((A8 f y fs).lookup g) (if g=f then some u else J g);rw[OZ];by_cases q:g=f
  .rw[br q,br q];exact ry
  .rw[cZ q,cZ q];exact r g
 .by_cases q:g=f
  .rw[q];exact(LL f y fs).1
  .refine (LL f y fs).2 g (L g λz=>hg ?_);show(if g=f then some u else J g)=none;rw[cZ q];exact z
def Ad.made(I:Ad X π σ H s):Ad X π σ (upd (upd H s.heap.objs.size<|.own (s.heap.objs.size+1)) (s.heap.objs.size+1)<|.ins C s.heap.objs.size [])
  { s with heap:=(s.heap.push Wh).push (Wl C s.heap.objs.size) }:=by
 have B:(s.heap.push Wh).get? s.heap.objs.size=some Wh:=UT s.heap rfl;have D:((s.heap.push Wh).push<|Wl C s.heap.objs.size).get? (s.heap.objs.size+1)=some (Wl C s.heap.objs.size):=by have:=UT (s.heap.push Wh) (o:=Wl C s.heap.objs.size) rfl;rwa [V8]at this
 have J:(s.heap.push Wh).Ns s.heap.objs.size (λ_=>none):=⟨Wh,#[],_,B,rfl,(λe L=>absurd L<|by simp),λ_=>rfl⟩;have O:=I.laid (a:=s.heap.objs.size) (o:=.own<|s.heap.objs.size+1) (h':=s.heap.push Wh) (t':=s.toks) (λb u q=>Ut _ q) (Ua _) ⟨_,B⟩;apply O.laid (a:=s.heap.objs.size+1) (o:=.ins C s.heap.objs.size []) (t':=s.toks) (λb u q=>Ut _ q) (Nat.le_of_eq<|V8 _ _);have ne:s.heap.objs.size≠s.heap.objs.size+1:=Uz<|Xx _;refine⟨by rw[Aw ne,Aq],Vc _,ne,D,λ_=>none,(Heap.Ns1.of_empty J).at λo q=>Ut _ q,λ_=>Vv,λy hy=>absurd rfl hy⟩
def Aa6 (hb:XU e f env (T7 e env)=T7 e env)(h:TQ (TV prog w) A (T7 e env) (λo B=>TQ (TV prog w) A (getAttr o f true) Q E B) E s):TQ (TV prog w) A (T7 (.Attribute e f pos) env) Q E s :=
 Attribute_any_ h (by rw[arm_eval_Attribute,hb])
end
def Aa7(K:TH)(ta:TE)(f:bf):TE:=λσ H Q=>ta σ H λx H1=>∃a C dx fs v,x=.ref a/\H1 a=some (.ins C dx fs)/\CN K C/\B1 K C f/\fs.lookup f=some v/\Q v H1
def Aa8(K:TH)(ta tv:TE)(f:bf):TS:=λD σ H=>tv σ H λy H1=>ta σ H1 λx H2=>∃a C dx fs,x=.ref a/\H2 a=some (.ins C dx fs)/\CN K C/\B1 K C f/\fs.length<1000 /\
 D.nx σ (upd H2 a (.ins C dx (A8 f y fs)))
def J1(X:Cx)(op:Xs)(rd:V->V->Hp->VK->Prop):Prop :=
 ∀(π:List (ar×Obj))(s:TK)(σ:St)(H:Hp)(x y:V)(u v:af)(Q:VK),Ad X π σ H s->AH x u->AH y v->rd x y H Q->TQ (TV X.prog X.w) X.A (inplaceOp op u v) (EP X π σ Q) X.xe s
def Aa9(K:TH)(ta tv:TE)(rd:V->V->Hp->VK->Prop)(f:bf):TS:=λD σ H=>ta σ H λx H1=>∃a C dx fs v,x=.ref a/\H1 a=some (.ins C dx fs)/\CN K C/\B1 K C f/\fs.lookup f=some v /\
 tv σ H1 λy H2=>rd v y H2 λz H3=>∃dx' fh,H3 a=some (.ins C dx' fh)/\fh.length<1000/\D.nx σ (upd H3 a (.ins C dx' (A8 f z fh)))
section
variable {X:Cx}{o e value:TM}{f:bf}{pos pos' iR:Pos}{ta tv:TE}
def AE(B:PE X e ta)(hb:XU e f X.env (T7 e X.env)=T7 e X.env):PE X (.Attribute e f pos) (Aa7 X.K ta f):=by intro π s σ H Q I h;refine Aa6 hb<|Ar (B π s σ H _ I h) λu s1 D=>AF D λx J L O zz=>?_;obtain⟨a,C,dx,fs,v,ex,V,c,n,l,q⟩:=Io zz;subst ex;obtain rfl:u=T8 a:=O;exact O1 L V c n l λu' s2 Y ru=>⟨v,J,Y,ru,q⟩
def BH(J:PE X o ta)(hv:PE X value tv)(hs:Wf value (some<|.Attribute o f pos') pos.line X.env=pure false):PS X (.Assign [.Attribute o f pos'] value pos) (Aa8 X.K ta tv f):=by intro π s σ H D I h;refine plainObj_wpAny_Assign_Attribute (Ar (hv π s σ H _ I h) λu L B=>AF B λy O V Y q=>Ar (J π L σ O _ V q) λov s2 B=>AF B λx H2 I2 rx zz=>?_) hs;obtain⟨a,C,dx,fs,ex,ea,c,n,l,q2⟩:=Im zz;subst ex;obtain rfl:ov=T8 a:=rx;exact O2 I2 ea c n l Y λs3 I3=>⟨σ,_,I3,q2⟩
def O3 (Y:PE X o ta)(hv:PE X value tv)(mh:J1 X L O):PS X (.AugAssign (.Attribute o f iR) L value pos) (Aa9 X.K ta tv O f):=by intro π s σ H D I h;refine wpAny_AugAssign_AttributeAny<|Ar (Y π s σ H _ I h) λov s1 B=>AF B λx H1 I1 rx zz=>?_;obtain⟨a,C,dx,fs,v,ex,ea,c,n,l,q⟩:=Io zz;subst ex;obtain rfl:ov=T8 a:=rx;refine O1 I1 ea c n l λu s2 I2 ru=>Ar (hv π s2 σ H1 _ I2 q) λw3 s3 B=>AF B λy H2 I3 ry q3=>Ar (mh π s3 σ H2 v y u w3 _ I3 ru ry q3) λw4 s4 B=>AF B λz H3 I4 rz zz=>?_;obtain⟨dx',fh,J,l',q4⟩:=BA zz;exact O2 I4 J c n l' rz λs5 I5=>⟨σ,_,I5,q4⟩
def Aba:V->V->Hp->VK->Prop:=λx y H Q=>∃i j,x=.int i/\y=.int j/\Q (.int (i+j)) H
def O4:J1 X .Add Aba:=by rintro π s σ H x y u v Q I D J ⟨i,j,rfl,rfl,q⟩;obtain⟨t,rfl⟩:=(show ∃t,u=U7 i t from D);obtain⟨B,rfl⟩:=(show ∃B,v=U7 j B from J);exact PyProof.Rows.iadd_int ⟨.int<|i+j,H,I.tok _,⟨_,rfl⟩,q⟩
end
section
variable {X:Cx}{π:List (ar×Obj)}{σ:St}{H:Hp}{s:TK}{A:Ud}{E:af->TK->Prop}{Q:af->TK->Prop}{c:af}{b:Bool}
inductive Eb(K:TH)(H:Hp):V->af->Prop where
 |aa:Eb K H .aa (.type "NoneType")
 |bl (x:Bool):Eb K H (.bl x) (.type "bool")
 |int (i:Int):Eb K H (.int i) (.type "int")
 |str (x:bf):Eb K H (.str x) (.type "str")
 |fQ (x:UInt64):Eb K H (.fQ x) (.type "float")
 |lst {a:ar} {xs:List V} (e:H a=some (.lst xs)):Eb K H (.ref a) (.type "list")
 |bW {a:ar} {o:Obj} {xs:List V} (e:H a=some (.bW o (.lst xs))):Eb K H (.ref a) (.type "list")
 |tup {a:ar} {xs:List V} (e:H a=some (.tup xs)):Eb K H (.ref a) (.type "tuple")
 |dK {a:ar} {kvs:List (Ay×V)} (e:H a=some (.dK kvs)):Eb K H (.ref a) (.type "dict")
 |dT {a:ar} {kvs:List (List Ay×V)} (e:H a=some (.dT kvs)):Eb K H (.ref a) (.type "dict")
 |ins {a C dx:ar} {fs:List (bf×V)} (e:H a=some (.ins C dx fs)) (cl:CN K C) (ha:Ue K (.ref C) "__class__"=some (some (.builtin "object.__class__")))
   (hn:Yu K (.builtin "object.__class__") "__get__"=some (some (.builtin "getset_descriptor.__get__"))) (fT:PySem.W.takesIn K (.builtin "object.__class__")=some true)
   (hm:PySem.W.mroIn K C (.type "object")=some true):Eb K H (.ref a) (.ref C)
def Abb (I:Ad X π σ H s)(B:AH x u)(ty:Eb X.K H x t)(e:Vq X.K t c=some b)(h:∀tk,Q (.bool b) { s with toks:=tk }):
  TQ (TV X.prog X.w) A (call (.builtin "isinstance") [u,c]) Q E s:=by
 cases ty with
 |aa=>cases(show u=U0 from B);exact VL PySem.W.kitx_none I.aN Vv e (λz=>nomatch z) h
 |bl y=>cases(show u=XI y from B);exact VL PySem.W.kitx_bool I.aN Vv e (λz=>nomatch z) h
 |int i=>obtain⟨t,q⟩:=(show ∃t,u=U7 i t from B);cases q;exact VL PySem.W.kitx_int I.aN Vv e (λz=>nomatch z) h
 |str y=>obtain⟨t,q⟩:=(show ∃t,u=UU y t from B);cases q;exact VL PySem.W.kitx_str I.aN Vv e (λz=>nomatch z) h
 |fQ y=>obtain⟨t,q⟩:=(show ∃t,u=Y1 y t from B);cases q;exact VL PySem.W.kitx_float I.aN Vv e (λz=>nomatch z) h
 |@lst a xs D =>
  cases(show u=T8 a from B);obtain⟨_,_,n,_,L⟩:=(show Bs X.prog X.w H s.heap a (.lst xs)from I.ai a _ D);exact VL wb I.aN ⟨_,L,rfl⟩ e (λz=>nomatch z) h
 |@bW a ob xs D =>
  cases(show u=T8 a from B);obtain⟨_,_,_,n,_,L⟩:=AU<|(show Bs X.prog X.w H s.heap a (.bW ob<|.lst xs)from I.ai a _ D);exact VL wb I.aN ⟨_,L,rfl⟩ e (λz=>nomatch z) h
 |@tup a xs D =>
  cases(show u=T8 a from B);obtain⟨_,_,_,p⟩:=(show Bs X.prog X.w H s.heap a (.tup xs)from I.ai a _ D);obtain⟨o,L,h2,_⟩:=AG p;exact VL PySem.W.kitx_tuple I.aN ⟨o,L,h2⟩ e (λz=>nomatch z) h
 |@dK a Y D =>
  cases(show u=T8 a from B);obtain⟨_,_,vs,_,p⟩:=AU<|(show Bs X.prog X.w H s.heap a (.dK Y)from I.ai a _ D);obtain⟨o,es,ep,L,h2,_⟩:=C7 p;exact VL wc I.aN ⟨o,L,h2.1⟩ e (λz=>nomatch z) h
 |@dT a Y D =>
  cases(show u=T8 a from B);obtain⟨_,_,xs,_,o,es,ep,L,h2,_⟩:=AU<|(show Bs X.prog X.w H s.heap a (.dT Y)from I.ai a _ D);exact VL wc I.aN ⟨o,L,h2.1⟩ e (λz=>nomatch z) h
 |@ins a C dx fs D cl ha hn fT hm =>
  cases(show u=T8 a from B);obtain⟨mA,O,_⟩:=As<|JZ I.ai D;obtain⟨od,J,_⟩:=As O.look;exact VL (PySem.W.kitx_own (cl.get _) cl.hd ha hn fT hm) I.aN J e (λz=>nomatch z) h
end
structure By(k:Nat)(A:Ud):Prop where
 hd:A.handled=none
 dp:A.depth+3*k+5<recursionLimit
 un:A.units+16*k+200<cLine
def By.mono (r:By k A)(h:j<=k):By j A:=⟨r.hd,by have:=r.dp;omega,by have:=r.un;omega⟩
def By.d (r:By k A)(h:j<=k:=by decide):By j A:=r.mono h
def By.deeper (r:By (k+1) A)(env:Env):By k (A.deeper env) :=
 ⟨r.hd,by have:=r.dp;show A.depth+1+3*k+5<_;omega,by have:=r.un;show A.units+3+16*k+200<_;omega⟩
def Abd{A:Ud}{C:ar}{us:List af}{B:List (bf×af)}:(A.under<|.builtin "type.__call__" ⟨.ref C::us,B⟩).depth=A.depth+1:=by first|rfl|simp[Zd,Code.weight,Code.isCreation,Code.isGuard,Code.isCaller,Code.frames,Ze,guardIds]
def Abe{A:Ud}{C:ar}{us:List af}{B:List (bf×af)}:(A.under<|.builtin "type.__call__" ⟨.ref C::us,B⟩).units=A.units+1:=by first|rfl|simp[Zd,Code.cUnits,Code.frames,Ze]
def By.make (r:By (k+1) A)(C:ar)(us:List af)(B:List (bf×af)):By k (A.under<|.builtin "type.__call__" ⟨.ref C::us,B⟩) :=
 ⟨r.hd,by have:=r.dp;rw[Abd];omega,by have:=r.un;rw[Abe];omega⟩
def By.depth (r:By k A):A.depth<recursionLimit:=by have:=r.dp;omega
def By.units (r:By k A):A.units+64<cLine:=by have:=r.un;omega
def BP:TA:=λ_ H Q=>Q [] H
def Abf(ta:TE)(tr:TA):TA:=λσ H Q=>ta σ H λx H1=>tr σ H1 λxs H2=>Q (x::xs) H2
section
variable {X:Cx}{e:TM}{es:List TM}{te:TE}{t:TA}{pos:Pos}
def Ac:PA X [] BP:=λ_ _ _ _ H Q I h=>we ⟨[],H,I,.nil,h⟩
def Ab(D:PE X e te)(J:PA X es t)(hs:T5 (e::es) X.env=(false,T7 e X.env)::T5 es X.env:=by rfl):PA X (e::es) (Abf te t):=by intro pos π s σ H Q I h;rw[hs];show TQ _ _ (spliced ((false,T7 e X.env)::UA pos (T5 es X.env))) _ _ s;refine Zf<|Ar (D π s σ H _ I h) λu L B=>AF B λx O V Y q1=>?_;exact Ar (J pos π L σ O _ V q1) λus s2 B=>AF B λxs H2 I2 r2 q2=>⟨x::xs,H2,I2,.cons Y r2,q2⟩
def Abg(t:TA):TE:=λσ H Q=>t σ H λxs H1=>xs.length<=sizeLine/\∀p,H1 p=none->Q (.ref p) (upd H1 p (.tup xs))
def Abh(t:TA):TE:=λσ H Q=>t σ H λxs H1=>xs.length<=sizeLine/\∀p,H1 p=none->Q (.ref p) (upd H1 p (.lst xs))
def Fj (h:PA X es t):PE X (.Tuple es x1 pos) (Abg t):=by intro π s σ H Q I hq;refine wg<|Ar (h pos π s σ H _ I hq) λus B L=>FG L λO D J r z q=>⟨by rwa[<-r.length],?_⟩;have V:D B.heap.objs.size=none:=J.ai.fresh<|Ua _;refine⟨.ref B.heap.objs.size,upd D B.heap.objs.size<|.tup O,J.laid (t':=B.toks) (λb u e=>Ut _ e) (Ua _) ?_,rfl,q _ V⟩;exact⟨z,us,r,⟨_,UT _ rfl,rfl,_,rfl⟩⟩
def CO(h:PA X es t):PE X (.List es pos) (Abh t):=by intro π s σ H Q I hq;refine wj<|Ar (h pos π s σ H _ I hq) λus B L=>FG L λO D J r z q=>⟨by rwa[<-r.length],?_⟩;have V:D B.heap.objs.size=none:=J.ai.fresh<|Ua _;refine⟨.ref B.heap.objs.size,upd D B.heap.objs.size<|.lst O,J.laid (t':=B.toks) (λb u e=>Ut _ e) (Ua _) ?_,rfl,q _ V⟩;exact⟨z,us,0,r,UT _ rfl⟩
end
abbrev Sp:=List V->Hp->VK->XK->Prop
abbrev Cj:=List Env->Hp->TK->XK->af->TK->Prop
structure GP(P:TR)(w:TL)(K:TH)(mg:bf->Option af)(base:Heap)(A:Ud)(outer:List Env)(s:TK)(H:Hp):Prop where
 frames:A.frames=some outer
 mod:Mod K mg base
 bs:∀b o,base.get? b=some o->s.heap.get? b=some o/\H b=none
 cG:base.objs.size<=s.heap.objs.size
 bD:s.heap.FunFrames base outer
 cO:∀b∈Dh outer,H b=none
 ai:A1 P w H s.heap
 bare:V6 s.gens
def CE(outer:List Env)(P:TR)(w:TL)(H:Hp)(s:TK)(Q:VK)(u:af)(s':TK):Prop :=
 ∃v H',s'.os=s.os/\V6 s'.gens/\Un (Dh outer) [] H H' s.heap s'.heap/\A1 P w H' s'.heap/\AH v u/\Q v H'
def CR(CX:Cj)(outer:List Env)(P:TR)(w:TL)(H:Hp)(s:TK)(Q:VK)(E:XK)(r:Xw)(s':TK):Prop :=
 match r with
 |.ok (.ret u)=>CE outer P w H s Q u s'
 |.ok _=>False
 |.error e=>CX outer H s E e s'
structure AB(P:TR)(w:TL)(K:TH)(mg:bf->Option af)(base:Heap)(CX:Cj)(k:Nat)(f:ar)(fd:T3)(ps:List bf)(sp:Sp):Prop where
 len:∀vs H Q E,sp vs H Q E->vs.length=ps.length
 run:∀(A:Ud)(outer:List Env)(s:TK)(H:Hp)(args:Args)(us:List af)(vs:List V)(Q:VK)(E:XK),By k A->GP P w K mg base A outer s H->Xc s fd args (ps.zip us)->AA vs us->sp vs H Q E ->
  Vh (TV P w) A (.call (.ref f) args) (CR CX outer P w H s Q E) s
def AB.mono{P:TR}{w:TL}{K:TH}{mg:bf->Option af}{base:Heap}{CX:Cj}{j k:Nat}{f:ar}{B:T3}{ps:List bf}{sp:Sp}(F:AB P w K mg base CX j f B ps sp)(h:j<=k) :
  AB P w K mg base CX k f B ps sp:=⟨F.len,λA outer s H args us vs Q E D=>F.run A outer s H args us vs Q E<|D.mono h⟩
def GP.make{P:TR}{w:TL}{K:TH}{mg:bf->Option af}{base:Heap}{A:Ud}{outer:List Env}{s:TK}{H:Hp}(e:GP P w K mg base A outer s H)(C:ar)(us:List af)(B:List (bf×af)) :
  GP P w K mg base (A.under<|.builtin "type.__call__" ⟨.ref C::us,B⟩) outer s H:=⟨by first|exact e.frames|(simpa [Zd,Code.envs,Ze,pushEnvs]using e.frames),e.mod,e.bs,e.cG,e.bD,e.cO,e.ai,e.bare⟩
section
variable {X:Cx}{π:List (ar×Obj)}{σ:St}{H:Hp}{s s':TK}
def Ad.mi(I:Ad X π σ H s):GP X.prog X.w X.K X.mg X.base X.A X.stack s H :=
 ⟨I.ok.frames,I.ok.mod,I.bs,U1 I.ok.cG I.sz,I.stack,I.lS,I.ai,I.bare⟩
def Ad.after (I:Ad X π σ H s)(h:CE X.stack X.prog X.w H s Q u s'):EP X π σ Q u s':=by obtain⟨v,D,os,B,un,J,r,q⟩:=Il h;obtain⟨L,g,d,t,O⟩:=s';obtain rfl:O=s.os:=os;exact⟨v,D,I.call (h':=L) (g':=g) (d':=d) (t':=t) (ch:=[]) un J B λb z=>absurd z<|by simp,r,q⟩
end
def J2(sp:Sp)(dvs:List V)(E:XK)(t:TA):TE:=λσ H Q=>t σ H λvs H1=>sp (vs++dvs) H1 Q E
def J3(C:ar)(m:bf)(sp:Sp)(dvs:List V)(E:XK)(ta:TE)(t:TA):TE:=λσ H Q=>ta σ H λx H1=>∃a dx fs,x=.ref a/\H1 a=some (.ins C dx fs)/\fs.lookup m=none /\
 t σ H1 λvs H2=>sp (x::(vs++dvs)) H2 Q E
def O5(C:ar)(sp:Sp)(dvs:List V)(E:XK)(t:TA):TE:=λσ H Q=>t σ H λvs H1=>∀x dx,H1 x=none->H1 dx=none->dx≠x ->
 sp (.ref x::(vs++dvs)) (upd (upd H1 dx (.own x)) x (.ins C dx [])) (λv H2=>v=.aa/\Q (.ref x) H2) E
def DO(K:TH)(fd:T3)(ps:List bf)(ds:List af):Prop :=
 ∀(s:TK)(us:List af),K.In s.heap->(us++ds).length=ps.length->Xc s fd ⟨us,[]⟩ (ps.zip (us++ds))
def DO.all{K:TH}{B:T3}{ps:List bf}(h:∀us:List af,us.length=ps.length->bindArgs B ⟨us,[]⟩=pure (ps.zip us)):DO K B ps []:=λs us _ D=>by
 rw [Vi]at D ⊢;exact .of_eq<|h us D
def Dr(CX:Cj)(X:Cx)(E:XK):Prop:=∀(π:List (ar×Obj))(σ:St)(H:Hp)(s:TK)(e:af)(s':TK),Ad X π σ H s->CX X.stack H s E e s'->X.xe e s'
section
variable {X:Cx}{CX:Cj}{k:Nat}{f C:ar}{fd:T3}{ps:List bf}{sp:Sp}{dvs:List V}{ds:List af}{E:XK}{x m:bf}{p pos apos:Pos}{e o:TM}{es:List TM}{ta:TE}{t:TA}
def Hw{π:List (ar×Obj)}{σ:St}{H:Hp}{s:TK}{Q:VK}{us:List af}{vs:List V}(F:AB X.prog X.w X.K X.mg X.base CX k f fd ps sp)(D:By k X.A)(hb:DO X.K fd ps ds)(hd:AA dvs ds)(hx:Dr CX X E)(I:Ad X π σ H s)(r:AA vs us)(h:sp (vs++dvs) H Q E):TQ (TV X.prog X.w) X.A (call (.ref f) us) (EP X π σ Q) X.xe s:=by
 have B:AA (vs++dvs) (us++ds):=r.append hd;have J:(us++ds).length=ps.length:=by rw[<-B.length];exact F.len _ _ _ _ h
 refine Yv<|Xd (F.run X.A X.stack s H ⟨us,[]⟩ (us++ds) (vs++dvs) Q E D I.mi (hb s us I.aN J) B h) λr L hq=>?_;cases r with
 |error e=>exact hx π σ H s e L I hq
 |ok O =>
  cases O with
  |ret u=>exact I.after hq
  |next=>exact VB hq
  |brk=>exact VB hq
  |cont=>exact VB hq
def Abi(F:AB X.prog X.w X.K X.mg X.base CX k f fd ps sp)(D:By k X.A)(J:Gl X x)(L:X.mg x=some (.ref f))(hk:U8 X.K (.ref f)=true)(hb:DO X.K fd ps ds)(hd:AA dvs ds)(hx:Dr CX X E)(O:PA X (e::es) t)(Y:(x == ("__debug__":bf))=false:=by decide)(he:T5 (e::es) X.env=(false,T7 e X.env)::T5 es X.env:=by rfl)(aS:(UA pos<|T5 es X.env).any (·.1)=false:=by rfl) :
  PE X (.Call (.Name x p) (e::es) [] pos) (J2 sp dvs E t):=by
 intro π s σ H Q I h;refine Yw<|Ir I J L ?_ Y;refine Xy (h₀:=X.base) I.ok.mod.d2 hk (Ar (O pos π s σ H _ I h) λus s1 zz=>AF zz λvs H1 B r q=>⟨B.aN,?_⟩) he aS;exact Hw F D hb hd hx B r q
def Abj{pl:Sem Bool}(Y:PE X o ta)(c:CN X.K C)(D:J0 X.K C m f)(F:AB X.prog X.w X.K X.mg X.base CX k f fd ps sp)(hr:By k X.A)(hb:DO X.K fd ps ds)(hd:AA dvs ds)(hx:Dr CX X E)(ha:PA X (e::es) t)(aH:T5 (e::es) X.env=(false,T7 e X.env)::T5 es X.env:=by rfl)(aS:(UA pos<|T5 es X.env).any (·.1)=false:=by rfl)(ht:T7 (.Call (.Attribute o m apos) (e::es) [] pos) X.env=(do
   let J <-T7 o X.env
   Vo apos.atName
   let (f,first) <-Vl [J] (V7 J m pl)
   Ww pos f first (UA pos<|T5 (e::es) X.env) (VU pos<|VX [] X.env)):=by rfl) :
  PE X (.Call (.Attribute o m apos) (e::es) [] pos) (J3 C m sp dvs E ta t):=by
 intro π s σ H Q I h;refine Xz (pl:=pl) (Ar (Y π s σ H _ I h) λu s1 B=>AF B λx H1 L rx zz=>?_) ht;obtain⟨a,dx,fs,ex,ea,l,q⟩:=C7 zz;subst ex;obtain rfl:u=T8 a:=rx;apply IF L ea c D l;refine Xy (first:=[.ref a]) (h₀:=X.base) I.ok.mod.d2 D.kp (Ar (ha pos π s1 σ H1 _ L q) λus s2 B=>AF B λvs H2 O r q2=>⟨O.aN,?_⟩) aH aS;exact Hw (us:=.ref a::us) (vs:=.ref a::vs) F hr hb hd hx O (.cons rfl r) q2
def Abk{pl:Sem Bool}(L:PE X o ta)(c:CN X.K C)(D:J0 X.K C m f)(F:AB X.prog X.w X.K X.mg X.base CX k f fd ps sp)(O:By k X.A)(hb:DO X.K fd ps ds)(hd:AA dvs ds)(hx:Dr CX X E)(Y:T7 (.Call (.Attribute o m apos) [] [] pos) X.env=(do
   let J <-T7 o X.env
   Vo apos.atName
   let (f,first) <-Vl [J] (V7 J m pl)
   Ww pos f first (UA pos<|T5 [] X.env) (VU pos<|VX [] X.env)):=by rfl) :
  PE X (.Call (.Attribute o m apos) [] [] pos) (J3 C m sp dvs E ta BP):=by
 intro π s σ H Q I h;refine Xz (pl:=pl) (Ar (L π s σ H _ I h) λu s1 zz=>AF zz λx H1 B rx zz=>?_) Y;obtain⟨a,dx,fs,ex,ea,l,q⟩:=C7 zz;subst ex;obtain rfl:u=T8 a:=rx;apply IF B ea c D l;exact wk (first:=[.ref a]) B.aN D.kp<|Hw (us:=[.ref a]) (vs:=[.ref a]) F O hb hd hx B (.cons rfl .nil) q
structure Mk(K:TH)(C f:ar):Prop where
 makes:Wv K C=true
 init:Ue K (.ref C) "__init__"=some (some (.ref f))
 fn:Wu K (.ref f)=true
 kp:U8 K (.ref C)=true
def Abl{π:List (ar×Obj)}{σ:St}{H:Hp}{s:TK}{Q:VK}{us:List af}{vs:List V}(M:Mk X.K C f)(F:AB X.prog X.w X.K X.mg X.base CX k f fd ps sp)(L:By (k+1) X.A)(hb:DO X.K fd ps ds)(hd:AA dvs ds)(hx:Dr CX X E)(I:Ad X π σ H s)(r:AA vs us)(h:∀x dx,H x=none->H dx=none->dx≠x->sp (.ref x::(vs++dvs)) (upd (upd H dx<|.own x) x<|.ins C dx []) (λv O=>v=.aa/\Q (.ref x) O) E) :
  TQ (TV X.prog X.w) X.A (call (.ref C) us) (EP X π σ Q) X.xe s:=by
 have hq:=h (s.heap.objs.size+1) s.heap.objs.size (I.ai.fresh<|Vw _) (I.ai.fresh<|Ua _)<|Uz (Xx _);have D:=Ad.made (C:=C) I;have J:AA (V.ref (s.heap.objs.size+1)::(vs++dvs)) (T8 (s.heap.objs.size+1)::(us++ds)):=.cons rfl<|r.append hd;have Y:(T8 (s.heap.objs.size+1)::us++ds).length=ps.length:=by have e:=J.length;rw[F.len _ _ _ _ hq]at e;exact e.symm
 refine Yv (Aa4 (f:=f) I.aN M.makes M.init (beq_iff_eq.mp M.fn) (Xd (F.run _ X.stack _ _ ⟨T8 (s.heap.objs.size+1)::us,[]⟩ (T8 (s.heap.objs.size+1)::(us++ds)) _ _ E (L.make C us [])
  (D.mi.make C us []) (hb _ (T8 (s.heap.objs.size+1)::us) D.aN Y) J hq) λr s' B=>?_))
 cases r with
 |error e=>exact hx π σ _ _ e s' D B
 |ok fl =>
  cases fl with
  |ret u =>
   obtain⟨v,H',I3,rv,ev,q3⟩:=BA<|D.after B;subst ev;exact⟨rv,⟨V.ref<|s.heap.objs.size+1,H',I3,rfl,q3⟩⟩
  |next=>exact VB B
  |brk=>exact VB B
  |cont=>exact VB B
def Abm(M:Mk X.K C f)(F:AB X.prog X.w X.K X.mg X.base CX k f fd ps sp)(D:By (k+1) X.A)(J:Gl X x)(L:X.mg x=some (.ref C))(hb:DO X.K fd ps ds)(hd:AA dvs ds)(hx:Dr CX X E)(O:PA X (e::es) t)(Y:(x == ("__debug__":bf))=false:=by decide)(he:T5 (e::es) X.env=(false,T7 e X.env)::T5 es X.env:=by rfl)(aS:(UA pos<|T5 es X.env).any (·.1)=false:=by rfl) :
  PE X (.Call (.Name x p) (e::es) [] pos) (O5 C sp dvs E t):=by
 intro π s σ H Q I h;refine Yw<|Ir I J L ?_ Y;refine Xy (h₀:=X.base) I.ok.mod.d2 M.kp (Ar (O pos π s σ H _ I h) λus s1 zz=>AF zz λvs H1 B r q=>⟨B.aN,?_⟩) he aS;exact Abl M F D hb hd hx B r q
end
section
variable {X:Cx}{CX:Cj}{k:Nat}{f C:ar}{fd:T3}{ps ks:List bf}{sp:Sp}{E:XK}{x m:bf}{p pos apos afI:Pos}{e o:TM}{es:List TM}{kws:List Xe}{te ta:TE}{t tk:TA}{nm:Option bf}
structure Aio(K:TH)(fd:T3)(ps ks:List bf)(g:List af->List af->List af)(gV:List V->List V->List V):Prop where
 to:∀(s:TK)(us ws:List af),K.In s.heap->(g us ws).length=ps.length->Xc s fd ⟨us,ks.zip ws⟩ (ps.zip (g us ws))
 rel:∀{vs:List V}{us:List af}{zs:List V}{ws:List af},AA vs us->AA zs ws->AA (gV vs zs) (g us ws)
variable {g:List af->List af->List af}{gV:List V->List V->List V}
end
structure EN(N P:List bf)(sc:Scope):Prop where
 kind:sc.kind=.function
 co:sc.isCoroutine=false
 gen:sc.isGenerator=false
 nd:N.Nodup
 pre:N.take P.length=P
 par:∀x∈P,sc.names.lookup x=some .local\/sc.names.lookup x=some .cell
 aah:∀y∈sc.names,y.2≠.free
theorem O6{kindOf:bf->Option Wx}{x:bf}:∀{binds:List (bf×af)}{m:bf->Option af},(∀v,(x,v) ∉ binds)->Wz kindOf binds m x=m x
 |[],_,_=>rfl
 | (n,v)::r,m,h=>by
  unfold Wz;rw[O6 λw hw=>h w (Uy _ hw)];split
  .have:x≠n:=by rintro rfl;exact h v UI
   simp[this]
  .rfl
theorem O7{kindOf:bf->Option Wx}{x:bf}:∀{binds:List (bf×af)}{m:bf->Option af},(∀v,(x,v) ∉ binds)->WA kindOf binds m x=m x
 |[],_,_=>rfl
 | (n,v)::r,m,h=>by
  unfold WA;rw[O7 λw hw=>h w (Uy _ hw)];split
  .rfl
  .have:x≠n:=by rintro rfl;exact h v UI
   simp[this]
theorem O8{kindOf:bf->Option Wx}{x:bf}{v:af}:∀{P:List bf}{vs:List af}{i:Nat}{m:bf->Option af},P.Nodup->P[i]?=some x->vs[i]?=some v->kindOf x=some .local ->
  Wz kindOf (P.zip vs) m x=some v
 |[],_,_,_,_,h,_,_=>by simp at h
 |_::_,[],_,_,_,_,h,_=>by simp at h
 |p::P,w::vs,0,m,nd,h1,h2,hk=>by
  simp at h1 h2;subst h1;subst h2;show Wz kindOf ((p,w)::P.zip vs) m p=_;unfold Wz;rw[O6 λv hv=>(Uu.mp nd).1 (Zg hv).1,br hk];simp
 |p::P,w::vs,i+1,m,nd,h1,h2,hk=>by
  show Wz kindOf ((p,w)::P.zip vs) m x=_;unfold Wz;exact O8 (i:=i) (Uu.mp nd).2 (by simpa using h1) (by simpa using h2) hk
theorem O9{kindOf:bf->Option Wx}{x:bf}{v:af}:∀{P:List bf}{vs:List af}{i:Nat}{m:bf->Option af},P.Nodup->P[i]?=some x->vs[i]?=some v->kindOf x≠some .local ->
  WA kindOf (P.zip vs) m x=some v
 |[],_,_,_,_,h,_,_=>by simp at h
 |_::_,[],_,_,_,_,h,_=>by simp at h
 |p::P,w::vs,0,m,nd,h1,h2,hk=>by
  simp at h1 h2;subst h1;subst h2;show WA kindOf ((p,w)::P.zip vs) m p=_;unfold WA;rw[O7 λv hv=>(Uu.mp nd).1 (Zg hv).1,cZ hk];simp
 |p::P,w::vs,i+1,m,nd,h1,h2,hk=>by
  show WA kindOf ((p,w)::P.zip vs) m x=_;unfold WA;exact O9 (i:=i) (Uu.mp nd).2 (by simpa using h1) (by simpa using h2) hk
noncomputable def start(N:List bf)(vs:List V):St:=vs.map some++T1 (N.length-vs.length) none
noncomputable def Dx(CX:Cj)(P:TR)(w:TL)(K:TH)(mg:bf->Option af)(base:Heap)(N:List bf)(qual:bf)(scope:Scope)(f:ar)(cd:af)(A:Ud)(outer:List Env)(s:TK)(H:Hp)(E:XK):Cx where
 prog:=P
 w:=w
 K:=K
 mg:=mg
 base:=base
 A:=A.deeper (V9 qual scope s.heap.objs.size f cd)
 N:=N
 s₀:=s
 H₀:=H
 env:=V9 qual scope s.heap.objs.size f cd
 outer:=outer
 stack:=V9 qual scope s.heap.objs.size f cd::outer
 ex:=[]
 calm:=true
 fn:=λ_=>true
 pn:=[]
 xe:=λe s'=>TQ (TV P w) (A.deeper (V9 qual scope s.heap.objs.size f cd)) (leaving (V9 qual scope s.heap.objs.size f cd) e) (λ_ bR=>CX outer H s E e bR) (λe' bR=>CX outer H s E e' bR) s'
def Pa{sc:Scope}{n:Nat}{x:bf}(h:sc.names.lookup x=some .cell):∃c,(Zh n sc.names []).lookup x=some c:=by have q:=wm sc.names n []<|.inl h;exact XW.mp q
def Abn{CX:Cj}{P:TR}{w:TL}{K:TH}{mg:bf->Option af}{base:Heap}{N ps:List bf}{D:bf}{B:Scope}{f:ar}{L:af}{A:Ud}{outer:List Env}{s s1:TK}{H:Hp}{E:XK}{us:List af}{vs:List V}(S:EN N ps B)(hd:A.handled=none)(I:GP P w K mg base A outer s H)(hl:vs.length=ps.length)(r:AA vs us)(x:InCallC s s.heap.objs.size (Wz (V9 D B s.heap.objs.size f L).kindOf (ps.zip us) λ_=>none) (Zh (s.heap.objs.size+1) B.names []) (WA (V9 D B s.heap.objs.size f L).kindOf (ps.zip us) λ_=>none) s1) :
  Ad (Dx CX P w K mg base N D B f L A outer s H E) [] (start N vs) H s1:=by
 have aS:ps.length<=N.length:=by have:=congrArg XX S.pre;rw[VM]at this;omega
 obtain⟨O,tk,rfl,hk⟩:=Bv x.done;have iW:∀b:ar,b ∉ (Dx CX P w K mg base N D B f L A outer s H E).ex:=λb z=>absurd (show b∈([]:List ar)from z) (by simp);refine⟨⟨I.mod,S.kind,rfl,rfl,Ua _,λy z c O h2=>?_,λy hy=>?_,λy c _ h=>?_,λ_=>hd,Around.frames_deeper I.frames,.inr ⟨rfl,rfl⟩,λb z=>absurd z<|iW b,I.bs,I.cG,λb _ _=>iW b,λb z=>absurd z<|iW b,I.bD,I.cO⟩,
  rfl,I.bare,Un.kept hk,⟨_,x.toInCall.ns,λi y v O h2 h3=>?_⟩,λy c h=>⟨_,x.cell y c h⟩,I.ai.fresh<|Ua _,λy c h=>?_,λp J=>absurd (show p∈([]:List (ar×Obj))from J)<|by simp,I.ai.kept hk,?_⟩
 .exact name_of_addr x.apart (WB O) (WB h2)
 .have hy:B.names.lookup y=some .cell\/B.names.lookup y=some .free:=hy;rcases hy with hy|hy
  .exact Pa hy
  .exact absurd rfl (S.aah _<|WB hy)
 .exact Wm (x.above y c<|WB h)
 .have Y:i<vs.length:=by
   unfold start at h2;by_cases Y:i<vs.length
   .exact Y
   .rw[List.getElem?_append_right<|by simpa using Y]at h2;rw[List.getElem?_replicate]at h2;split at h2<;>cases h2
  have ha:vs[i]?=some v:=by
   unfold start at h2;rw[Zi<|by simpa using Y,T6]at h2;cases e:vs[i]? with
   |none=>rw[e]at h2;cases h2
   |some a=>rw[e]at h2;cases h2;rfl
  obtain⟨u,hu,rv⟩:=As<|r.get ha;have J:ps[i]?=some y:=by rwa[<-S.pre,List.getElem?_take_of_lt<|by omega]
  have rD:ps.Nodup:=by rw[<-S.pre];exact S.nd.sublist<|Zj _ _
  refine⟨u,rv,?_⟩;rcases S.par y (Ug J)with k|k
  .exact .inl ⟨k,O8 rD J hu k⟩
  .obtain ⟨c,e⟩:=Pa (n:=s.heap.objs.size+1) k;refine .inr ⟨.inl k,c,e,?_⟩;have q:=x.cell y c e;rw[O9 rD J hu<|by show B.names.lookup y≠_;rw[k];decide]at q;exact q
 .exact I.ai.fresh (Wm<|x.above y c (WB h))
 .unfold start;show _=N.length;rw[UK,TN,U3];omega
def Pb{CX:Cj}{P:TR}{w:TL}{K:TH}{mg:bf->Option af}{base:Heap}{k:Nat}{f:ar}{name D:bf}{L:Arguments}{body:List Stmt}{B:Scope}{dV kV doc pm Y ct oc:af}{an od:Option ar}{d8:Array (Option af)}{N ps:List bf}{sp:Sp}(lk:K.lookup f=some ⟨oc,od,.func<|Vx name D L body B dV kV doc pm an Y ct,d8⟩)(cH:Wi K Y D=true)(S:EN N ps B)(len:∀vs H Q E,sp vs H Q E->vs.length=ps.length)(iX:∀(A:Ud) (outer:List Env) (s:TK) (H:Hp) (vs:List V) (Q:VK) (E:XK),By k (A.deeper<|V9 D B s.heap.objs.size f Y)->sp vs H Q E ->
   ∃t,Di (Dx CX P w K mg base N D B f Y A outer s H E) body t/\t { nx:=λ_ O=>Q .aa O,rt:=Q } (start N vs) H) :
  AB P w K mg base CX (k+1) f (Vx name D L body B dV kV doc pm an Y ct) ps sp:=by
 refine⟨len,λA outer s H args us vs Q E hr e0 hb r dE=>?_⟩;have hl:=len _ _ _ _ dE;have KX:K.In s.heap:=e0.mod.d2.keeps λb o e=>(e0.bs b o e).1;have lim:s.heap.NoLimit:=e0.mod.nolimit.keeps λb o e=>(e0.bs b o e).1;have aai:∀y∈ps.zip us,B.names.lookup y.1=some .local\/(B.names.lookup y.1=some .cell/\((Zh (s.heap.objs.size+1) B.names []).lookup y.1).isSome=true):=λ⟨n,v⟩ hy=>by
  rcases S.par n (Zg hy).1 with q|q
  .exact .inl q
  .exact .inr ⟨q,wm _ _ _<|.inl q⟩
 refine codeAny_call_function hr.depth (KX _ _ lk) rfl S.co S.gen rfl (PySem.W.codeRec_of KX cH)<|hb _ _ _ _ ?_;refine wpAny_newFunctionEnv_cells S.kind aai λenv he s1 x=>?_;subst he;refine⟨lim.keeps x.toInCall.keep,codeAny_func ?_⟩;obtain⟨t,ht,hq⟩:=As<|iX A outer s H vs Q E (hr.deeper _) dE;have I:Ad (Dx CX P w K mg base N D B f Y A outer s H E) [] (start N vs) H s1:=Abn S hr.hd e0 hl r x;refine Vu (ht [] s1 (start N vs) H _ I hq) (λfl s' hs=>?_) λe s' hs=>hs;have fin:∀{σ':St}{O:Hp}{v:V}{u:af},Ad (Dx CX P w K mg base N D B f Y A outer s H E) [] σ' O s'->AH v u->Q v O->CE outer P w H s Q u s' :=
  λ{σ' O v u} J rv q=>⟨v,O,J.os,J.bare,J.base,J.ai,rv,q⟩
 cases fl with
 |ret u =>
  obtain⟨v,σ',O,J,rv,q⟩:=C7 hs;exact fin J rv q
 |next =>
  obtain⟨σ',O,J,q⟩:=Bv hs;exact fin (v:=V.aa) (u:=U0) J rfl q
 |brk =>
  obtain⟨_,_,_,q⟩:=Bv hs;exact VB q
 |cont =>
  obtain⟨_,_,_,q⟩:=Bv hs;exact VB q
section
variable {X:Cx}{x:bf}{p pos:Pos}{e:TM}{es:List TM}{t:TA}{id T:String}{r:List V->Hp->VK->Prop}
def J4(r:List V->Hp->VK->Prop)(t:TA):TE:=λσ H Q=>t σ H λvs H1=>r vs H1 Q
def Abo(hc:B0 X (.builtin id) r)(B:Gl X x)(D:X.mg x=none)(hv:UY x=some (.builtin id))(J:PA X (e::es) t)(L:x≠"__name__":=by decide)(O:(x == ("__debug__":bf))=false:=by decide)(Y:T5 (e::es) X.env=(false,T7 e X.env)::T5 es X.env:=by rfl)(aS:(UA pos<|T5 es X.env).any (·.1)=false:=by rfl):PE X (.Call (.Name x p) (e::es) [] pos) (J4 r t):=by intro π s σ H Q I h;refine Yw<|Ga I B D hv ?_ L O;exact PyProof.Rows.callWith_builtin1 (Ar (J pos π s σ H _ I h) λus s1 zz=>AF zz λvs H1 I1 r1 q1=>hc π s1 σ H1 vs us Q I1 r1 q1) Y aS
def Abp(hc:B0 X (.type T) r)(B:Gl X x)(D:X.mg x=none)(hv:UY x=some (.type T))(J:PA X (e::es) t)(L:x≠"__name__":=by decide)(O:(x == ("__debug__":bf))=false:=by decide)(Y:T5 (e::es) X.env=(false,T7 e X.env)::T5 es X.env:=by rfl)(aS:(UA pos<|T5 es X.env).any (·.1)=false:=by rfl):PE X (.Call (.Name x p) (e::es) [] pos) (J4 r t):=by intro π s σ H Q I h;refine Yw<|Ga I B D hv ?_ L O;exact Xv (Ar (J pos π s σ H _ I h) λus s1 zz=>AF zz λvs H1 I1 r1 q1=>hc π s1 σ H1 vs us Q I1 r1 q1) Y aS
end
end L2
namespace HT
open PySem PyProof.Rows
section
open PySem.SeqAt
open PySem.AutoSeq1 (wpAny_loadPart')
open PySem.MeetsSeq PySem.MeetsSeq2 PySem.MeetsSeq3
end
section
variable {prog:TR}{w:TL}{A:Ud}{E:af->TK->Prop}{s:TK}
noncomputable def aO(n d:Nat):Option Int->Nat
 |none=>d
 |some v=>if v<0 then(v+(n:Int)).toNat else min v.toNat n
def aaj(n d:Nat):aO n d none=d:=rfl
def aak(n d k:Nat):aO n d (some (k:Int))=min k n:=by show(if (k:Int)<0 then((k:Int)+(n:Int)).toNat else min (k:Int).toNat n)=min k n;rw[cZ<|by omega,WC]
def rE(n d:Nat)(hd:d<=n)(o:Option Int):aO n d o<=n:=by
 cases o with
 |none=>exact hd
 |some v =>
  show(if v<0 then(v+(n:Int)).toNat else min v.toNat n)<=n;by_cases hv:v<0
  .rw[br hv];omega
  .rw[cZ hv];exact Nat.min_le_right _ _
def aal(v:Int)(n d:Nat):(if v<0 then max (v+(n:Int)) 0 else min v (n:Int))=((aO n d (some v):Nat):Int):=by
 show(if v<0 then max (v+(n:Int)) 0 else min v (n:Int))=(((if v<0 then(v+(n:Int)).toNat else min v.toNat n):Nat):Int);by_cases hv:v<0
 .simp only[br hv];omega
 .simp only[cZ hv];omega
end
end HT
namespace L2
open PySem PySem.Spec PyProof.Rows
abbrev TO:=St->Hp->(Option Int->Hp->Prop)->Prop
def PO(X:Cx)(e:Option TM)(t:TO):Prop :=
 ∀(π:List (ar×Obj))(s:TK)(σ:St)(H:Hp)(Q:Option Int->Hp->Prop),Ad X π σ H s->t σ H Q ->
  TQ (TV X.prog X.w) X.A (evalPart e X.env) (λu s'=>∃o H',Ad X π σ H' s'/\IsPart u o/\Q o H') X.xe s
def Abq:TO:=λ_ H Q=>Q none H
def Abr(t:TE):TO:=λσ H Q=>t σ H λx H1=>∃i,x=.int i/\Q (some i) H1
section
variable {X:Cx}{e:TM}{te:TE}{lo hi:Option TM}{tl th:TO}{pos p2:Pos}
def IG:PO X none Abq:=by intro π s σ H Q I h;rw[evalPart_none];exact Ub ⟨none,H,I,.none,h⟩
def IH(h:PE X e te):PO X (some e) (Abr te):=by
 intro π s σ H Q I hw;rw[evalPart_some];refine Ar (h π s σ H _ I hw) λu V D=>AF D λx J L O B=>?_;replace B:=As B;obtain⟨i,rfl,q⟩:=B
 obtain⟨t,rfl⟩:=O;exact⟨some i,J,L,.int i t,q⟩
def Gj(X:Cx)(r:V->Option Int->Option Int->Hp->VK->Prop):Prop :=
 ∀(π:List (ar×Obj))(s:TK)(σ:St)(H:Hp)(x:V)(v vl vu:af)(lo hi:Option Int)(sl:ar)(Q:VK),Ad X π σ H s->AH x v->s.heap.IsSliceOf sl vl vu .none->IsPart vl lo->IsPart vu hi->r x lo hi H Q ->
  ∃T id,typeLookup (.type T) "__getitem__"=pure (some (.builtin id))/\s.TypeIs v T/\TQ (TV X.prog X.w) X.A (WW v (.ref sl)) (EP X π σ Q) X.xe s
def Gj.or (h:Gj X r)(h':Gj X B):Gj X (λx lo hi H Q=>r x lo hi H Q\/B x lo hi H Q):=by
 intro π s σ H x v vl D lo hi J Q I L hs pl O q;rcases q with q|q
 .exact h π s σ H x v vl D lo hi J Q I L hs pl O q
 .exact h' π s σ H x v vl D lo hi J Q I L hs pl O q
def tSl(r:V->Option Int->Option Int->Hp->VK->Prop)(te:TE)(tl th:TO):TE:=λσ H Q=>te σ H λx H1=>tl σ H1 λl H2=>th σ H2 λu H3=>r x l u H3 Q
def II (O:Gj X r)(Y:PE X e te)(hl:PO X lo tl)(hu:PO X hi th):PE X (.Subscript e (.Slice lo hi none p2) pos) (tSl r te tl th):=by intro π s σ H Q I h;refine Zk<|Ar (Y π s σ H _ I h) λv s1 D=>AF D λx H1 I1 r1 q1=>?_;refine wpAny_Slice<|Ar (hl π s1 σ H1 _ I1 q1) λvl s2 D=>AF D λl H2 I2 pl q2=>Ar (hu π s2 σ H2 _ I2 q2) λJ B D=>AF D λu L I3 pu q3=>?_;rw[evalPart_none];apply Ub;have I4:Ad X π σ L { B with heap:=B.heap.push { cls:=.type "slice",data:=.fields #[vl,J,.none] } }:=I3.kept (t':=B.toks) λb ob q=>Ut _ q;obtain⟨T,id,hT,ht,hg⟩:=BA<|O π { B with heap:=B.heap.push { cls:=.type "slice",data:=.fields #[vl,J,.none] } } σ L x v vl J l u B.heap.objs.size Q I4 r1 (Heap.IsSliceOf.new ..) pl pu q3;show TQ (TV X.prog X.w) X.A (Zl e (.Slice lo hi none p2) v<|.ref B.heap.objs.size) (EP X π σ Q) X.xe { B with heap:=B.heap.push { cls:=.type "slice",data:=.fields #[vl,J,.none] } };exact tail_any (ops:=[.ref B.heap.objs.size,v]) ht hT hg<|by with_unfolding_all rfl
noncomputable def IJ(xs:List V)(lo hi:Option Int):List V:=(xs.drop (HT.aO xs.length 0 lo)).take (HT.aO xs.length xs.length hi-HT.aO xs.length 0 lo)
def Abs(xs:List V)(lo hi:Option Int):(IJ xs lo hi).length<=xs.length:=by unfold IJ;rw[VM,wq];omega
end
noncomputable def CP(n:Nat)(i:Int):Option Nat:=if 0<=i then(if i<n then some i.toNat else none)else if -(n:Int)<=i then some (i+n).toNat else none
noncomputable def Cb{α:Type}(xs:List α)(i:Int):Option α:=(CP xs.length i).bind λj=>xs[j]?
def Pc (h:CP n i=some j):XA i n=some j/\j<n/\-(n:Int)<=i/\i<n:=by
 unfold CP at h;by_cases D:0<=i
 .rw[br D]at h;by_cases B:i<n
  .rw[br B]at h;have e:i.toNat=j:=Us h;exact⟨by rw[Yx D B,e],by omega,by omega,B⟩
  .rw[cZ B]at h;cases h
 .rw[cZ D]at h;by_cases B:-(n:Int)<=i
  .rw[br B]at h;have e:(i+n).toNat=j:=Us h;exact⟨by rw[Zm (by omega) B,e],by omega,B,by omega⟩
  .rw[cZ B]at h;cases h
def J5 (h:Cb xs i=some v):∃j,XA i xs.length=some j/\xs[j]?=some v/\j<xs.length/\-(xs.length:Int)<=i/\i<xs.length:=by
 unfold Cb at h;cases e:CP xs.length i with
 |none=>rw[e]at h;cases h
 |some j =>
  rw [e]at h;obtain⟨B,h2,D,I⟩:=AU<|Pc e;exact⟨j,B,h,h2,D,I⟩
def Fm{α:Type}{xs:List α}{j:Nat}{v:α}(h:xs[j]?=some v):Cb xs (j:Int)=some v:=by
 have B:j<xs.length:=(UM.mp h).1;have e:CP xs.length (j:Int)=some j:=by unfold CP;rw[br<|by omega,br<|by omega];simp
 unfold Cb;rwa[e]
def Abt(b:TM):Prop:=∀o i,Yy b false o i=operate [o,i] (WW o i)
def Fn(X:Cx)(r:R2):Prop :=
 ∀(value slice:TM)(π:List (ar×Obj))(s:TK)(σ:St)(H:Hp)(x y:V)(v u:af)(Q:VK),Ad X π σ H s->AH x v->AH y u->r x y H Q ->
  Yy slice false v u=operate [v,u] (WW v u)->TQ (TV X.prog X.w) X.A (Zl value slice v u) (EP X π σ Q) X.xe s
def Pd(X:Cx)(id:String)(r:V->List V->Hp->VK->Prop):Prop :=
 ∀(π:List (ar×Obj))(s:TK)(σ:St)(H:Hp)(x:V)(xs:List V)(v:af)(us:List af)(Q:VK),Ad X π σ H s->AH x v->AA xs us->r x xs H Q ->
  TQ (TV X.prog X.w) X.A (call (.builtin id) (v::us)) (EP X π σ Q) X.xe s
section
variable {X:Cx}{a b:TM}{ta tb:TE}{pos:Pos}
def Fn.or (h:Fn X r)(h':Fn X B):Fn X (λx y H Q=>r x y H Q\/B x y H Q):=by
 intro value slice π s σ H x y v u Q I D J q hs;rcases q with q|q
 .exact h value slice π s σ H x y v u Q I D J q hs
 .exact h' value slice π s σ H x y v u Q I D J q hs
def AY (B:Fn X r)(D:PE X a ta)(hb:PE X b tb)(hs:Abt b):PE X (.Subscript a b pos) (JV r ta tb):=by intro π s σ H Q I h;exact Zk<|LF D hb I h λv u J x y L O V Y q=>B a b π J σ L x y v u Q O V Y q<|hs _ _
def Pe(K:TH):R2:=λx y H Q=>∃p xs i v,x=.ref p/\y=.int i/\A3 K H p xs/\Cb xs i=some v/\Q v H
def Pf(K:TH):R2:=λx y H Q=>∃p xs i v,x=.ref p/\y=.int i/\Bw K H p xs/\Cb xs i=some v/\Q v H
def Pg:R2:=λx y H Q=>∃z i c,x=.str z/\y=.int i/\z.length<=sizeLine/\Cb z.cps.toList i=some c/\Q (.str ⟨#[c]⟩) H
def Abu:Fn X (Pe X.K):=by
 intro value slice π s σ H x y v u Q I V Y h hs;replace h:=DN h;obtain⟨p,xs,i,z,rfl,rfl,hq,he,q⟩:=h
 cases V;obtain⟨t,rfl⟩:=Y;obtain⟨its,r,pl,hz⟩:=AG<|I.list hq;obtain⟨j,D,h2,h3,h4,h5⟩:=AG<|J5 he;obtain⟨w,L,bo⟩:=As<|r.get h2;have hl:=r.length;have hn:=Gi;have B:EP X π σ Q w s:=⟨z,H,I,bo,q⟩;by_cases O:0<=i
 .have J:i.toNat=j:=by
   rw [Yx O h5]at D;exact Us D
  exact item_listR pl.isList O (by omega) (by rw[J];simpa using L) B hs
 .have J:(i+(its.toArray.size:Int)).toNat=j:=by
   rw [Zm (by omega) h4]at D;rw[UB,<-hl];exact Us D
  exact wu (x:=w) pl.isList.typeIs wz.lookup
   (wpAny_getItem_list_neg (Q:=λr s'=>r=w/\EP X π σ Q r s') pl.isList (by omega) (by rw[UB]<;>omega) (by omega) (by rw[J];simpa using L) ⟨rfl,B⟩) hs
def Abv:Fn X (Pf X.K):=by
 intro value slice π s σ H x y v u Q I D J h hs;replace h:=DN h;obtain⟨p,xs,i,z,rfl,rfl,hq,L,q⟩:=h
 cases D;obtain⟨t,rfl⟩:=J;obtain⟨its,r,pl,hz⟩:=AG<|I.tuple hq;obtain⟨j,O,h2,h3,h4,h5⟩:=AG<|J5 L;obtain⟨w,V,Y⟩:=As<|r.get h2;have hl:=r.length;have hn:=Gi;have B:EP X π σ Q w s:=⟨z,H,I,Y,q⟩;exact wu (x:=w) pl.typeIs slot_tuple_getitem.lookup
  (getItem_tuple (j:=j) (Q:=λr s'=>r=w/\EP X π σ Q r s') pl (by omega) (by omega) (by rwa[UB,<-hl]) (by simpa using V) ⟨rfl,B⟩) hs
def Abw:Fn X Pg:=by
 intro value slice π s σ H x y v u Q I D J h hs;replace h:=F9 h;obtain⟨z,i,c,rfl,rfl,hz,L,q⟩:=h
 obtain⟨t,rfl⟩:=D;obtain⟨t',rfl⟩:=J;obtain⟨j,B,h2,h3,O,V⟩:=AG<|J5 L;have Y:z.cps.toList.length=z.length:=by simp[Xf]
 rw [Y]at B O V;have hn:=Gi;exact tail_any (Yz s z t) slot_str_getitem.lookup (getItem_str (c:=c) (by
  have e1:decide (i < -(2 ^ 63:Int))=false:=dJ (by omega);have e2:decide (i ≥ 2 ^ 63)=false:=dJ (by omega);rw[e1,e2,Bool.or_false]) (by rw[B];simpa using h2) ⟨.str ⟨#[c]⟩,H,I.tok _,⟨_,rfl⟩,q⟩) hs
def Ph(K:TH):R2:=λx y H Q=>Pe K x y H Q\/Pf K x y H Q\/Pg x y H Q
def AZ:Fn X (Ph X.K):=Abu.or<|Abv.or Abw
def Abx(its:List af)(n j:Nat)(u:af):Vd (·.setIfInBounds j u) { cls:=.type "list",data:=.seq its.toArray n }={ cls:=.type "list",data:=.seq (its.set j u).toArray n }:=by simp[Vd]
def Ad.lst{π:List (ar×Obj)}{σ:St}{H:Hp}{s:TK}{p:ar}{xs:List V}(I:Ad X π σ H s)(h:H p=some (.lst xs)) :
  ∃(its:List af)(n:Nat),AA xs its/\s.heap.get? p=some { cls:=.type "list",data:=.seq its.toArray n }/\xs.length<=sizeLine:=by
 obtain⟨z,its,n,r,e⟩:=I.ai p _ h;exact⟨its,n,r,e,z⟩
def Ad.aam{π:List (ar×Obj)}{σ:St}{H:Hp}{s:TK}{p:ar}{xs ys:List V}{its its':List af}{n B:Nat}{f:Obj->Obj}(I:Ad X π σ H s)(h:H p=some (.lst xs))(J:s.heap.get? p=some { cls:=.type "list",data:=.seq its.toArray n })(D:f { cls:=.type "list",data:=.seq its.toArray n }={ cls:=.type "list",data:=.seq its'.toArray B })(r:AA ys its')(L:ys.length<=sizeLine)(t:Nat) :
  Ad X π σ (upd H p<|.lst ys) { s with heap:=s.heap.update p f,toks:=t }:=by
 have e:(s.heap.update p f).get? p=some { cls:=.type "list",data:=.seq its'.toArray B }:=by rw[Zn f J (by rw[D]<;>rfl),D]
 refine I.write (x:=p) (e:=p) (by rw[h];trivial) (.inl rfl) (λb u hb q=>(wA _ _<|UC hb).trans q) ⟨_,e⟩ ?_;exact⟨L,its',B,r,e⟩
def Aby:V->V->V->Hp->(Hp->Prop)->Prop:=λo i v H Q=>∃p xs k j,o=.ref p/\i=.int k/\H p=some (.lst xs)/\CP xs.length k=some j/\Q (upd H p (.lst (xs.set j v)))
def DP:LC X Aby:=by
 intro π s σ H o i v ov iv u Q I ro ri rv h;replace h:=DN h;obtain⟨p,xs,k,j,rfl,rfl,L,hj,q⟩:=h
 cases ro;obtain⟨t,rfl⟩:=ri;obtain⟨its,n,r,D,hz⟩:=BA<|I.lst L;obtain⟨B,h2,O,V⟩:=AU<|Pc hj;have J:=r.length;have hn:=Gi;have Y:Ad X π σ (upd H p<|.lst (xs.set j v)) { s with heap:=s.heap.update p (Vd (·.setIfInBounds j u)) } :=
  I.aam L D (Abx its n j u) (r.set rv j) (by rwa[Uo]) s.toks
 by_cases h0:0<=k
 .have hk:k.toNat=j:=by
   rw [Yx h0 V]at B;exact Us B
  exact PySem.W.ki_setAt D h0 (by omega) (by rwa[UB,<-J])<|by rw[hk];exact⟨_,Y,q⟩
 .have hk:(k+(its.toArray.size:Int)).toNat=j:=by
   rw [Zm (by omega) O]at B;rw[UB,<-J];exact Us B
  exact PySem.W.ki_setBack D (by omega) (by rwa[UB,<-J]) (by omega)<|by rw[hk];exact⟨_,Y,q⟩
def Abz(lo B:Option Int)(n:Nat):(Xg lo B none n).1=((HT.aO n 0 lo:Nat):Int)/\(Xg lo B none n).2.1=((HT.aO n n B:Nat):Int)/\(Xg lo B none n).2.2=1:=by
 refine⟨?_,?_,rfl⟩
 .cases lo with
  |none=>simp[Xg,HT.aO]
  |some i =>
   simp only[Xg,HT.aO,Zo,show(1:Int) > 0 by decide,if_true];by_cases h:i<0
   .simp only[h,if_true]<;>omega
   .simp only[h,if_false]<;>omega
 .cases B with
  |none=>simp[Xg,HT.aO]
  |some i =>
   simp only[Xg,HT.aO,Zo,show(1:Int) > 0 by decide,if_true];by_cases h:i<0
   .simp only[h,if_true]<;>omega
   .simp only[h,if_false]<;>omega
def AbA(its:List af)(lo B:Option Int):slicePick its.toArray lo B none=((its.drop<|HT.aO its.length 0 lo).take<|HT.aO its.length its.length B-HT.aO its.length 0 lo).toArray:=by obtain⟨D,h2,I⟩:=AU<|Abz lo B its.toArray.size;unfold slicePick;rw[D,h2,I];simp only[sliceRange_one,pick_run,UB]<;>rfl
def Pj(K:TH):V->Option Int->Option Int->Hp->VK->Prop:=λx lo hi H Q=>∃a xs,x=.ref a/\A3 K H a xs/\∀p,H p=none->Q (.ref p) (upd H p (.lst (IJ xs lo hi)))
def AbB:Gj X (Pj X.K):=by
 intro π s σ H x v vl vu lo J sl Q I O hs pl V h;replace h:=BA h;obtain⟨a,B,rfl,hx,q⟩:=h
 cases O;obtain⟨its,r,L,Y⟩:=AG<|I.list hx;have D:=r.length;refine⟨"list",_,wz.lookup,L.isList.typeIs,?_⟩;refine wpAny_getItem_list_slice L.isList hs pl V .none (by simp) ?_ (by rw[UB]<;>omega);rw[AbA,<-D];refine⟨.ref s.heap.objs.size,_,I.laid (t':=s.toks) (o:=.lst<|IJ B lo J) (λb ob q=>Ut _ q) (Ua _) ?_,rfl,q _<|I.ai.fresh (Ua _)⟩;exact⟨U1 (Abs B lo J) Y,_,0,(r.drop<|HT.aO B.length 0 lo).take<|HT.aO B.length B.length J-HT.aO B.length 0 lo,UT _ rfl⟩
noncomputable def DQ:V->Bool
 |.aa=>true
 |.bl _=>true
 |.int _=>true
 |.str _=>true
 |_=>false
noncomputable def DR:V->V->Bool
 |.aa,.aa=>true
 |.bl a,.bl b=>a == b
 |.bl a,.int b=>(if a then 1 else 0) == b
 |.int a,.bl b=>a == (if b then 1 else 0)
 |.int a,.int b=>a == b
 |.str a,.str b=>a == b
 |_,_=>false
def AbC (I:AH y u)(B:AH x v)(L:DQ y=true)(J:DQ x=true):SeqAt.EqAt A s u v (DR y x):=by
 cases y with
 |aa =>
  cases I;cases x with
  |aa=>cases B;exact SeqAt.EqAt.same _
  |bl b=>cases B;exact SeqAt.EqAt.none_bool b
  |int b=>obtain⟨t,rfl⟩:=B;exact SeqAt.EqAt.none_int b t
  |str b=>obtain⟨t,rfl⟩:=B;exact SeqAt.EqAt.none_str b t
  |_=>exact absurd (show false=true from J) UN
 |bl a =>
  cases I;cases x with
  |aa=>cases B;exact SeqAt.EqAt.bool_none a
  |bl b=>cases B;exact SeqAt.EqAt.bool_bool a b
  |int b=>obtain⟨t,rfl⟩:=B;exact SeqAt.EqAt.bool_int a b t
  |str b=>obtain⟨t,rfl⟩:=B;exact SeqAt.EqAt.bool_str a b t
  |_=>exact absurd (show false=true from J) UN
 |int a =>
  obtain⟨D,rfl⟩:=I;cases x with
  |aa=>cases B;exact SeqAt.EqAt.int_none a D
  |bl b=>cases B;exact SeqAt.EqAt.int_bool a D b
  |int b=>obtain⟨t,rfl⟩:=B;exact SeqAt.EqAt.int_int a D b t
  |str b=>obtain⟨t,rfl⟩:=B;exact vT a D b t
  |_=>exact absurd (show false=true from J) UN
 |str a =>
  obtain⟨D,rfl⟩:=I;cases x with
  |aa=>cases B;exact SeqAt.EqAt.str_none a D
  |bl b=>cases B;exact SeqAt.EqAt.str_bool a D b
  |int b=>obtain⟨t,rfl⟩:=B;exact vU a D b t
  |str b=>obtain⟨t,rfl⟩:=B;exact SeqAt.EqAt.str_str a D b t
  |_=>exact absurd (show false=true from J) UN
 |_=>exact absurd (show false=true from L) UN
noncomputable def Dy(x:V)(u:af):Bool:=match u with
 |.none=>DR .aa x
 |.bool b=>DR (.bl b) x
 |.int i _=>DR (.int i) x
 |.str z _=>DR (.str z) x
 |_=>false
def J6 (r:AH y u)(f:DQ y=true):Dy x u=DR y x:=by
 cases y with
 |aa=>cases r;rfl
 |bl b=>cases r;rfl
 |int i=>obtain⟨t,rfl⟩:=r;rfl
 |str z=>obtain⟨t,rfl⟩:=r;rfl
 |_=>exact absurd (show false=true from f) UN
theorem IK:∀{xs:List V}{us:List af},AA xs us->xs.all DQ=true->us.any (Dy x)=xs.any λy=>DR y x
 |_,_,.nil,_=>rfl
 |y::xs,u::us,.cons r t,f=>by
  rw [List.all_cons,VD]at f;rw[XY,XY,J6 r f.1,IK t f.2]
theorem Hx (B:AH x v)(D:DQ x=true):∀{xs:List V}{us:List af},AA xs us->xs.all DQ=true->∀u∈us,SeqAt.EqAt A s u v (Dy x u)
 |_,_,.nil,_=>λu hu=>by cases hu
 |y::xs,u::us,.cons r t,f=>λI hu=>by
  rw [List.all_cons,VD]at f;rcases T9.mp hu with rfl|hu
  .rw[J6 r f.1];exact AbC r B f.1 D
  .exact Hx B D t f.2 I hu
def Ec(x:V)(xs:List V):Bool:=xs.any λy=>DR y x
def IL(K:TH)(neg:Bool):R2:=λx y H Q=>∃p xs,y=.ref p/\(A3 K H p xs\/Bw K H p xs)/\DQ x=true/\xs.all DQ=true/\Q (.bl (if neg then !Ec x xs else Ec x xs)) H
def AbD:Bh X (UO .In) (IL X.K false):=by
 intro π s σ H x y v u Q I B J h;replace h:=Il h;obtain⟨p,O,rfl,hq,D,fs,q⟩:=h
 cases J;rcases hq with hq|hq
 .obtain ⟨its,r,pl,L⟩:=AG<|I.list hq;refine SeqAt.in_listAt (Dy x) pl.isList (λw hw=>Hx B D r fs w<|by simpa using hw) ⟨.bl _,H,I,rfl,?_⟩;rwa[show its.toArray.any (Dy x)=its.any (Dy x) by simp,IK r fs]
 .obtain ⟨its,r,pl,L⟩:=AG<|I.tuple hq;refine SeqAt.in_tupleAt (Dy x) pl (λw hw=>Hx B D r fs w<|by simpa using hw) ⟨.bl _,H,I,rfl,?_⟩;rwa[show its.toArray.any (Dy x)=its.any (Dy x) by simp,IK r fs]
def AbE:Bh X (UO .NotIn) (IL X.K true):=by
 intro π s σ H x y v u Q I B J h;replace h:=Il h;obtain⟨p,O,rfl,hq,D,fs,q⟩:=h
 cases J;rcases hq with hq|hq
 .obtain ⟨its,r,pl,L⟩:=AG<|I.list hq;refine SeqAt.notIn_listAt (Dy x) pl.isList (λw hw=>Hx B D r fs w<|by simpa using hw) ⟨.bl _,H,I,rfl,?_⟩;rwa[show its.toArray.any (Dy x)=its.any (Dy x) by simp,IK r fs]
 .obtain ⟨its,r,pl,L⟩:=AG<|I.tuple hq;refine SeqAt.notIn_tupleAt (Dy x) pl (λw hw=>Hx B D r fs w<|by simpa using hw) ⟨.bl _,H,I,rfl,?_⟩;rwa[show its.toArray.any (Dy x)=its.any (Dy x) by simp,IK r fs]
def AbF:Bh X (UO .NotIn) (λx y H Q=>∃i j,x=.str i/\y=.str j/\Q (.bl<|!(!(Za j i 0 j.length 1).isEmpty)) H):=by
 intro π s σ H x y v u Q I B D h;replace h:=BA h;obtain⟨i,j,rfl,rfl,q⟩:=h
 obtain⟨t,rfl⟩:=B;obtain⟨J,rfl⟩:=D;exact notIn_str ⟨.bl _,H,I,rfl,q⟩
def AbG:B0 X (.builtin "len") (λxs H Q=>∃p ys,xs=[.ref p]/\(A3 X.K H p ys\/Bw X.K H p ys)/\Q (.int ys.length) H):=by
 intro π s σ H xs us Q I r h;replace h:=BA h;obtain⟨p,ys,rfl,hq,q⟩:=h
 obtain⟨u,rfl,J⟩:=As<|Dq r;cases J;have O:=Gi;rcases hq with hq|hq
 .obtain ⟨its,D,pl,L⟩:=AG<|I.list hq;have B:=D.length;exact Calls.call_len_list pl.isList (by simp only[UB]<;>omega) ⟨.int ys.length,H,I.tok _,⟨s.toks+1,by rw[UB,B]⟩,q⟩
 .obtain ⟨its,D,pl,L⟩:=AG<|I.tuple hq;have B:=D.length;exact len_tuple pl (by simp only[UB]<;>omega) ⟨.int ys.length,H,I.tok _,⟨s.toks+1,by rw[UB,B]⟩,q⟩
def AbH:B0 X (.builtin "len") (λxs H Q=>∃z,xs=[.str z]/\z.length<=sizeLine/\Q (.int z.length) H):=by
 intro π s σ H xs us Q I r h;replace h:=AG h;obtain⟨z,rfl,B,q⟩:=h
 obtain⟨u,rfl,t,rfl⟩:=As<|Dq r;have D:=Gi;exact len_str (by omega) ⟨.int z.length,H,I.tok _,⟨_,rfl⟩,q⟩
def B0.or (h:B0 X f r)(h':B0 X f B):B0 X f (λxs H Q=>r xs H Q\/B xs H Q):=by
 intro π s σ H xs us Q I D q;rcases q with q|q
 .exact h π s σ H xs us Q I D q
 .exact h' π s σ H xs us Q I D q
def AbI:B0 X (.type "list") (λxs H Q=>∃p ys,xs=[.ref p]/\(A3 X.K H p ys\/Bw X.K H p ys)/\∀l,H l=none->Q (.ref l) (upd H l<|.lst ys)):=by
 intro π s σ H xs us Q I r h;replace h:=BA h;obtain⟨p,ys,rfl,hq,q⟩:=h
 obtain⟨u,rfl,rx⟩:=As<|Dq r;cases rx;have L:∀(its:List af),AA ys its->ys.length<=sizeLine->∀(B:Heap)(D:Nat),(∀b o',s.heap.get? b=some o'->B.get? b=some o') ->
   B.get? s.heap.objs.size=some { cls:=.type "list",dict:=none,data:=.seq its.toArray D,slots:=#[] }->EP X π σ Q (.ref s.heap.objs.size) { s with heap:=B }:=λits J O B D V e =>
  ⟨.ref s.heap.objs.size,_,I.laid (t':=s.toks) V (Ua _) (show Bs X.prog X.w _ B _ (.lst ys) from⟨O,its,D,J,e⟩),rfl,q _<|I.ai.fresh (Ua _)⟩
 rcases hq with hq|hq
 .obtain ⟨its,J,pl,O⟩:=AG<|I.list hq;have Y:=J.length;obtain⟨o,ho,hc,n,hd⟩:=AG pl.isList;exact call_list_seq p (.inl rfl) ho hc hd (λB D V e=>L its J O B D V e)<|by simp only[UB]<;>omega
 .obtain ⟨its,J,pl,O⟩:=AG<|I.tuple hq;have Y:=J.length;obtain⟨o,ho,hc,n,hd⟩:=AG pl;exact call_list_seq p (.inr rfl) ho hc hd (λB D V e=>L its J O B D V e)<|by simp only[UB]<;>omega
def J7:B0 X (.type "tuple") (λxs H Q=>∃p ys,xs=[.ref p]/\((A3 X.K H p ys/\∀l,H l=none->Q (.ref l) (upd H l<|.tup ys))\/(Bw X.K H p ys/\Q (.ref p) H))):=by
 intro π s σ H xs us Q I r h;replace h:=Bv h;obtain⟨p,ys,rfl,h⟩:=h
 obtain⟨u,rfl,V⟩:=As<|Dq r;cases V;rcases h with ⟨hq,q⟩|⟨hq,q⟩
 .obtain ⟨its,D,pl,J⟩:=AG<|I.list hq;have L:=D.length;refine call_tuple_list pl.isList (λB Y=>?_) (by simp only[UB]<;>omega);have O:Ad X π σ H { s with heap:=B }:=I.kept (t':=s.toks) Y;have I2:Ad X π σ (upd H B.objs.size<|.tup ys) { s with heap:=B.push { cls:=.type "tuple",data:=.seq its.toArray } } :=
   O.laid (t':=s.toks) (λb o e=>Ut _ e) (Ua _) (show Bs X.prog X.w _ _ _ (.tup ys) from⟨J,its,D,IsTup.new _ _⟩)
  exact⟨.ref B.objs.size,_,I2,rfl,q _<|O.ai.fresh (Ua _)⟩
 .obtain ⟨its,D,pl,J⟩:=AG<|I.tuple hq;exact call_tuple_same pl ⟨.ref p,H,I,rfl,q⟩
def Pk(K:TH)(T:String)(x:V)(H:Hp):Prop:=match x with
 |.str _=>T="str"
 |.int _=>T="int"
 |.ref p=>(T="list"/\∃xs,A3 K H p xs)\/(T="tuple"/\∃o,K.lookup p=some o/\o.cls=.type "tuple"/\o.dict=none) \/
   (T="dict"/\((∃kvs,H p=some (.dK kvs))\/∃kvs,H p=some (.dT kvs)))\/(T="set"/\∃S n,H p=some (.set S n))
 |_=>False
def AbJ{π:List (ar×Obj)}{σ:St}{H:Hp}{s:TK}{T:String}{x:V}{v:af}(I:Ad X π σ H s)(r:AH x v)(ty:Pk X.K T x H) :
  s.TypeIs v T/\∀a,v=.ref a->∃J,s.heap.get? a=some J/\J.dict=none:=by
 cases x with
 |str z =>
  obtain⟨t,rfl⟩:=r;cases(show T="str" from ty);exact⟨Yz s z t,λ_ e=>nomatch e⟩
 |int i =>
  obtain⟨t,rfl⟩:=r;cases(show T="int" from ty);exact⟨Zp s i t,λ_ e=>nomatch e⟩
 |ref p =>
  cases r;rcases ty with ⟨rfl,L,hq⟩|⟨rfl,o,hk,hc,hd⟩|⟨rfl,hk⟩|⟨rfl,S,n,hk⟩
  .obtain ⟨its,_,pl,_⟩:=AG<|I.list hq;refine⟨pl.isList.typeIs,λa e=>?_⟩;cases e;obtain⟨o,n,e,c,hd,_⟩:=BA pl;exact⟨o,e,hd⟩
  .refine ⟨⟨o,I.aN p o hk,hc⟩,λa e=>?_⟩;cases e;exact⟨o,I.aN _ o hk,hd⟩
  .have z:∃o,s.heap.get? p=some o/\o.ExactDict:=by
    rcases hk with ⟨B,hk⟩|⟨B,hk⟩
    .obtain ⟨_,_,_,_,o,_,_,e,ex,_⟩:=AU<|I.ai p _ hk;exact⟨o,e,ex⟩
    .obtain ⟨_,_,_,_,o,_,_,e,ex,_⟩:=AU<|I.ai p _ hk;exact⟨o,e,ex⟩
   obtain⟨o,e,ex⟩:=As z;refine⟨⟨o,e,ex.1⟩,λa D=>?_⟩;cases D;exact⟨o,e,ex.2.1⟩
  .obtain ⟨o,_,_,_,e,ex,_⟩:=DN<|I.ai p _ hk;refine⟨⟨o,e,ex.1⟩,λa D=>?_⟩;cases D;exact⟨o,e,ex.2.1⟩
 |_=>exact VB ty
def tBM(K:TH)(T:String)(r:V->List V->Hp->VK->Prop)(to:TE)(t:TA):TE:=λσ H Q=>to σ H λx H1=>Pk K T x H1/\t σ H1 λxs H2=>r x xs H2 Q
variable {o e:TM}{es:List TM}{to:TE}{t:TA}{name:bf}{apos bg:Pos}{T id:String}{r:V->List V->Hp->VK->Prop}
def Cr(pa:PlainAttrs T)(slot:Slot T name id)(B:typeOf (.builtin id)=pure (.type "method_descriptor"))(hm:Pd X id r)(ho:PE X o to)(ha:PA X (e::es) t)(D:XU o name X.env (T7 o X.env)=T7 o X.env:=by rfl)(J:((UA bg<|T5 (e::es) X.env).all (λx=>!x.1) && (VU bg<|VX [] X.env).all (λx=>x.1.isSome)
   && decide ((e::es).length+([]:List Xe).length+(if ([]:List Xe).isEmpty then 0 else 1)<30))=true:=by rfl)(L:(apos.endLine == bg.line)=true:=by rfl)(hs:T5 (e::es) X.env=(false,T7 e X.env)::T5 es X.env:=by rfl)(O:(UA bg<|T5 es X.env).any (·.1)=false:=by rfl) :
  PE X (.Call (.Attribute o name apos) (e::es) [] bg) (tBM X.K T r to t):=by
 intro π s σ H Q I h;refine wpAny_Call_method_late D J L rfl<|Ar (ho π s σ H _ I h) λv s1 Y=>FG Y λx H1 I1 r1 ty q1=>?_;obtain⟨h1,h2⟩:=AbJ I1 r1 ty;refine⟨T,id,pa,slot,B,h1,h2,?_⟩;have hA:=ha bg π s1 σ H1 _ I1 q1;rw[hs]at hA ⊢;refine wB (by show(false || (UA bg<|T5 es X.env).any (·.1))=false;rw[O]<;>rfl)<|Zq ?_;exact Ar hA λus s2 Y=>AF Y λvs H2 I2 r2 q2=>hm π s2 σ H2 x vs v us Q I2 r1 r2 q2
end
def J8(X:Cx)(id:String)(r:V->List V->Hp->VK->Prop):Prop :=
 ∀(π:List (ar×Obj))(s:TK)(σ:St)(H:Hp)(x:V)(xs:List V)(v:af)(us:List af)(Q:VK),Ad X π σ H s->AH x v->AA xs us->r x xs H Q ->
  TQ (TV X.prog X.w) X.A (call (.builtin id) (v::us)) (EP X π σ Q) X.xe s
def AA.one (h:AA [x] us):∃u,us=[u]/\AH x u:=Dq h
def AA.two (h:AA [x,y] us):∃u v,us=[u,v]/\AH x u/\AH y v:=OX h
theorem AA.eraseIdx:∀{xs:List V}{us:List af}(i:Nat),AA xs us->AA (xs.eraseIdx i) (us.eraseIdx i)
 |_,_,_,.nil=>.nil
 |_,_,0,.cons _ t=>t
 |_,_,i+1,.cons r t=>.cons r (AA.eraseIdx i t)
theorem AA.rep (h:AA xs us):∀k:Nat,AA (T1 k xs).flatten (T1 k us).flatten
 |0=>.nil
 |k+1=>by
  rw [WE,WE,XB,XB];exact AA.append h (AA.rep h k)
theorem Pl{α:Type}:∀(l:List α)(i:Nat),(l.eraseIdx i).length<=l.length
 |[],_=>Ua _
 |_::_,0=>Vw _
 |_::r,i+1=>YA (Pl r i)
theorem Pn(its:List af):∀(k:Nat)(B:List af),
  Zs (λD x2=>D++x2) B.toArray (T1 k its.toArray)=(B++(T1 k its).flatten).toArray
 |0,B=>by simp
 |k+1,B=>by
  have e:B.toArray++its.toArray=(B++its).toArray:=by simp
  have I:(B++its)++(T1 k its).flatten=B++(T1 (k+1) its).flatten:=by rw[WE,XB,Uk]
  rw [<-I,<-Pn its k (B++its),<-e,WE,wC]
section
variable {X:Cx}{π:List (ar×Obj)}{σ:St}{H:Hp}{s:TK}{l b:ar}{xs ys zs:List V}
def Ad.ki{its its':List af}{n:Nat}{f:Array af->Array af}{t':Nat}(I:Ad X π σ H s)(B:H l=some (.lst xs))(e:s.heap.get? l=some { cls:=.type "list",data:=.seq its.toArray n })(D:f its.toArray=its'.toArray)(hv:AA ys its')(J:ys.length<=sizeLine) :
  Ad X π σ (upd H l<|.lst ys) { s with heap:=s.heap.update l<|Vd f,toks:=t' }:=by
 have q:=PySem.IsL.update e f;rw[D]at q;refine I.write (x:=l) (e:=l) (by rw[B];exact trivial) (.inl rfl) (λL u hb hu=>(wA s.heap (Vd f)<|UC hb).trans hu) ⟨_,q⟩ ?_;exact⟨J,its',_,hv,q⟩
def Ad.mr (I:Ad X π σ H s)(hv:AA ys its)(B:ys.length<=sizeLine):
  Ad X π σ (upd H s.heap.objs.size<|.lst ys) { s with heap:=s.heap.push { cls:=.type "list",data:=.seq its.toArray },toks:=t' } :=
 I.laid (λ_ _ q=>Ut _ q) (Ua _) ⟨B,its,0,hv,UT _ rfl⟩
def Ad.fresh(I:Ad X π σ H s):H s.heap.objs.size=none:=I.ai.fresh<|Ua _
def Ad.fo(I:Ad X π σ H s)(B:H l=some (.lst xs)):xs.length<=sizeLine/\∃(its:List af)(n:Nat),AA xs its/\xs.length=its.length/\s.heap.get? l=some { cls:=.type "list",data:=.seq its.toArray n }:=by obtain⟨z,its,n,r,e⟩:=I.ai l _ B;exact⟨z,its,n,r,r.length,e⟩
def AbK (h:n<=sizeLine):Zt n=false:=by unfold Zt;exact dJ<|by omega
end
section
variable {X:Cx}
def AbL:V->List V->Hp->VK->Prop:=λx vs H Q=>∃l xs y,x=.ref l/\vs=[y]/\H l=some (.lst xs)/\xs.length<sizeLine/\Q .aa (upd H l (.lst (xs++[y])))
def C9:J8 X "list.append" AbL:=by
 intro π s σ H x vs v us Q I D J h;replace h:=F9 h;obtain⟨l,O,y,rfl,rfl,B,V,q⟩:=h
 cases D;obtain⟨u,rfl,L⟩:=As J.one;obtain⟨z,its,n,r,Y,e⟩:=I.fo B;refine Xh F.slot_list_append ⟨_,e,rfl⟩ F.entry_list_append (F.args_list_append_2 _ _) (PySem.list_append l its.toArray n u<|by rw[UB];omega) ⟨e,?_⟩;refine⟨.aa,_,I.ki (its':=its++[u]) B e (by simp) (r.append<|.cons L .nil) ?_,rfl,q⟩;rw[UK,Ve];omega
def AbM:V->List V->Hp->VK->Prop:=λx vs H Q=>∃l xs i k y,x=.ref l/\vs=[.int i]/\H l=some (.lst xs)/\-(2 ^ 63)<=i/\i<2 ^ 63/\XA i xs.length=some k/\xs[k]?=some y/\Q y (upd H l (.lst (xs.eraseIdx k)))
def Po:J8 X "list.pop" AbM:=by
 intro π s σ H x vs v us Q I D J h;replace h:=Io h;obtain⟨l,L,i,k,y,rfl,rfl,B,O,h2,hk,hy,q⟩:=h
 cases D;obtain⟨u,rfl,V⟩:=As J.one;obtain⟨t,rfl⟩:=V;obtain⟨z,its,n,r,Y,e⟩:=I.fo B;obtain⟨w,hw,bo⟩:=As<|r.get hy;refine Xh F.slot_list_pop ⟨_,e,rfl⟩ F.entry_list_pop (F.args_list_pop_2 _ _)
  (MeetsSeq.list_pop_at l its.toArray n i t k w (wD O h2) (by rwa[UB,<-Y]) (by rwa[<-YB])<|by rw[UB];omega) ⟨e,?_⟩
 refine⟨y,_,I.ki (its':=its.eraseIdx k) B e ?_ (r.eraseIdx k) ?_,bo,q⟩
 .show its.toArray.eraseIdxIfInBounds k=(its.eraseIdx k).toArray;rw[Zu]
 .have:=Pl L k;omega
def Pp:R2:=λx y H Q=>∃l b xs zs,x=.ref l/\y=.ref b/\H l=some (.lst xs)/\H b=some (.lst zs)/\xs.length+zs.length<=sizeLine/\∀p,H p=none->Q (.ref p) (upd H p (.lst (xs++zs)))
def AbN:Bh X (VC .Add) Pp:=by
 intro π s σ H x y v u Q I B D h;replace h:=Im h;obtain⟨l,b,xs,zs,rfl,rfl,J,L,hz,q⟩:=h
 cases B;cases D;obtain⟨z,its,n,r,hl,e⟩:=I.fo J;obtain⟨z2,gQ,n2,O,c5,V⟩:=I.fo L;refine PySem.P.add_list e V ?_ (by rw[UB,UB];omega);have Y:its.toArray++gQ.toArray=(its++gQ).toArray:=by simp
 rw [Y];exact⟨.ref _,_,I.mr (t':=s.toks) (r.append O)<|by rw[UK];omega,rfl,q _ I.fresh⟩
def Pq:R2:=λx y H Q=>∃l k xs,x=.ref l/\y=.int k/\H l=some (.lst xs)/\-(2 ^ 63)<=k/\k<2 ^ 63/\xs.length*k.toNat<=sizeLine /\
 ∀p,H p=none->Q (.ref p) (upd H p (.lst (T1 k.toNat xs).flatten))
def AbO{α:Type}(xs:List α)(k:Nat):(T1 k xs).flatten.length=k*xs.length:=by
 induction k with
 |zero=>simp
 |succ k ih=>rw[WE,XB,UK,ih,Nat.succ_mul,Nat.add_comm]
def AbP:Bh X (VC .Mult) Pq:=by
 intro π s σ H x y v u Q I Y ry h;replace h:=F9 h;obtain⟨l,k,xs,rfl,rfl,hH,h1,h2,V,q⟩:=h
 cases Y;obtain⟨t,rfl⟩:=ry;obtain⟨z,its,n,r,hl,e⟩:=I.fo hH;have B:its.toArray.size*k.toNat<=sizeLine:=by rw[UB,<-hl];exact V
 have D:¬its.toArray.size*k.toNat > (2 ^ 63-1) / 8:=by
  have:(sizeLine:Nat)<=(2 ^ 63-1) / 8:=by decide
  omega
 have J:¬(!Builtin.List.listFitsIndex k)=true:=by rw[wD h1 h2];exact UN
 have iY:¬Zt (its.toArray.size*k.toNat)=true:=by rw[AbK B];exact UN
 have L:Zs (λO x2=>O++x2) #[] (T1 (if its.toArray.isEmpty=true then 0 else k.toNat) its.toArray)=(T1 k.toNat its).flatten.toArray:=by
  have f0:∀m:Nat,Zs (λO x2=>O++x2) #[] (T1 m its.toArray)=(T1 m its).flatten.toArray:=λm=>by
   have:=Pn its m [];rw[YC]at this;exact this
  rw [f0];cases its with
  |nil=>simp
  |cons a r'=>rw[cZ<|by simp]
 refine wpAny_binaryOp_repeat_ref (T:="list") (U:="int") (by decide) ⟨_,e,rfl⟩ (λs'=>Zp s' k t) noFill_list_mul F.fills_int_mul wF repeat_list F.slot_int_index.lookup
  (Xh wF (Zp s k t) F.entry_int_rmul (F.args_int_rmul_2 _ _) (int___rmul___int_list k t l its.toArray n)
   ⟨e,rfl,⟨_,e,rfl⟩,Xh F.slot_list_mul ⟨_,e,rfl⟩ F.entry_list_mul (F.args_list_mul_2 _ _) (AutoListH.list___mul___list_int_3 l its.toArray n k t J D iY) ⟨e,?_⟩⟩)
 rw [L];exact⟨.ref _,_,I.mr (t':=s.toks) (r.rep k.toNat)<|by rw[AbO,Nat.mul_comm];exact V,rfl,q _ I.fresh⟩
end
section
variable {prog:TR}{w:TL}{A:Ud}{E:af->TK->Prop}{s:TK}
set_option maxRecDepth 100000 in
end
section
variable {X:Cx}
end
end L2
namespace Att
open PySem PySem.W PySem.Calls PyProof.Rows
def AbQ:∀(ns:List Int)(vs:List af),WellAll P h vs (ns.map WData.int)->X6 vs ns:=by
 intro ns;induction ns with
 |nil =>
  intro vs w;rw[Xi]at w;cases w;exact .nil
 |cons n ns ih =>
  intro vs w;rw[UR]at w;cases w with
  |cons a b =>
   cases a;exact .cons _ _<|ih _ b
def AbR{l:OpenLaw}{n:Nat}(O:l.most=some n){P:XZ}{h:Heap}{args:List WData}{vals:List af}(L:l.row.toRowW.claim.pre args=true)(V:WellAll P h vals args) :
  ∃a vs ns,vals=[T8 a]/\args=[WData.list<|ns.map WData.int]/\h.get? a=some { cls:=.type "list",data:=.seq vs.toArray }/\X6 vs ns/\ns.length<=n:=by
 have J:WShape.hasAll [] args [.list .int]=true:=(pre_splitW L).1;have hc:l.pre.holds [] { args:=args }=true:=(pre_splitW L).2;obtain⟨d,r,rfl,Y,h2⟩:=hasAllW_cons J;obtain rfl:=hasAllW_nil h2;obtain⟨xs,rfl,h3⟩:=hasW_list Y;obtain⟨ns,rfl⟩:=items_int h3;have B:ns.length<=n:=by
  unfold OpenLaw.pre at hc;have D:(WTm.not<|.lt (.lit<|.int (n:Int)) (.len<|.arg 0)).holds [] { args:=[.list<|ns.map .int] }=true:=by have D:=(holds_andW hc).1;rwa[O]at D
  have I:=condW_of D<|w_not (w_lt w_lit<|w_len_list (w_arg rfl));rw[TN]at I;refine Nat.le_of_not_lt λq=>?_;have q':(n:Int)<((ns.length:Nat):Int):=by omega
  first
   | (rw[c8 q']at I;exact absurd I<|by decide)
   | (simp at I;omega)
 cases V with
 |cons w1 w2 =>
  cases w2;cases w1 with
  |list ho aA=>exact⟨_,_,ns,rfl,rfl,ho,AbQ ns _ aA,B⟩
def AbS(l:OpenLaw)(args:List WData):l.row.toRowW.claim.post args (.bool true) args=true :=
 postW_of (r:=l.row.toRowW) (X:=(true == true))
  (show WShape.has [] (.bool true) .bool=true by first|rfl|decide|simp[WShape.has,WShape.arms,WShape.armsAll])
  (show(WTm.eq .res<|.lit (.bool true)).value [] { args:=args,res:=some<|.bool true,after:=args }=some (.bool<|true == true)from w_eq_bool (w_res rfl) w_lit) rfl
def aau{l:OpenLaw}{n:Nat}{q:TR}{B:List bf}{XP:(bf->Option af)->Heap->Prop}{YP:TL->Heap->Prop}{d:DefRec}(hn:l.most=some n)(iZ:d.params.defaults=[])(call:∀(w:TL) (s₀ D:TK) (mg mb:bf->Option af) (fa:ar) (o:Obj) (pm O I:af) (a:ar) (vs:List af) (ns:List Int),
   Ground q B [] XP w s₀ mg mb D.heap->YP w D.heap ->
   D.heap.get? fa=some o->o.data=.func (docDef d.name d.params d.body d.scope pm O I)->D.heap.CodeRec O d.name->mg d.name=some (.ref fa) ->
   D.heap.get? a=some { cls:=.type "list",data:=.seq vs.toArray }->X6 vs ns->ns.length<=n->D.gens=#[] ->
   Vh (TV l.prog w) Xj (.call (.ref fa) ⟨[.ref a],[]⟩) (λr V=>r=.ok (.ret<|.bool true)/\OldK D.heap V.heap/\V.os=D.os/\V6 V.gens) D) :
  WalkO q B XP YP l.row.toRowW d [] (λf vs=>Zv f vs):=by
 intro w s₀ D mg mb G Y fa o pm O I dV kV ho hd cH hD i4 hg args vals as gR afJ hrd mB hlo;obtain rfl:dV=.none:=Dflts.none hD iZ;obtain rfl:kV=.none:=Dflts.noKw hD;obtain⟨a,vs,ns,rfl,rfl,mD,J,L⟩:=AbR hn gR mB;refine enter_call<|Xd (call w s₀ D mg mb fa o pm O I a vs ns G Y ho (fd_plain hd) cH i4 mD J L hg) λr V hq=>?_;obtain⟨rfl,h2,h3,h4⟩:=hq;exact⟨.inl ⟨.bool true,.bool true,[],rfl,λ_=>rfl,.bool true,AbS l _,λ_=>⟨List.Pairwise.nil,λ_ hm=>(nomatch hm)⟩⟩,h2,h3,h4⟩
section
variable {prog:TR}{w:TL}{A:Ud}{E:af->TK->Prop}{s:TK}{K:Frag}
end
end Att
namespace L2
open PySem PySem.Spec PyProof.Rows
theorem Pt:∀{vs:List af}{ns:List Int},X6 vs ns->AA (ns.map V.int) vs
 |_,_,.nil=>.nil
 |_,_,.cons n t h=>.cons ⟨t,rfl⟩ (Pt h)
def LM(H:Hp):Prop:=∀b,H b=none\/∃o xs,H b=some (.bW o (.lst xs))
def AbT{P:TR}{w:TL}{K:TH}{mg mb:bf->Option af}{CX:Cj}{k:Nat}{fa a:ar}{fd:T3}{x:bf}{sp:Sp}{B:TK}{vs:List af}{ns:List Int}(KX:K.In B.heap)(fq:B.heap.Ns Uj mg)(hb:B.heap.Ns Y4 mb)(hbb:∀x:bf,x≠"__name__"->mb x=UY x)(aav:B.heap.NoLimit)(hg:B.gens=#[])(Y:B.heap.get? a=some { cls:=.type "list",data:=.seq vs.toArray })(hi:X6 vs ns)(hl:ns.length<=sizeLine)(hr:By k Xj)(F:∀base:Heap,K.In base->base.Ns Uj mg->AB P w K mg base CX k fa fd [x] sp)(aaw:∀(s:TK) (u:af),Xc s fd ⟨[u],[]⟩ [(x,u)])(dE:∀H:Hp,LM H->A3 K H a (ns.map V.int)->sp [.ref a] H (λv _=>v=.bl true) λ_ _ _=>False)(mE:∀H e D,CX [] H B (λ_ _ _=>False) e D->False) :
  Vh (TV P w) Xj (.call (.ref fa) ⟨[.ref a],[]⟩) (λr D=>r=.ok (.ret<|.bool true)/\OldK B.heap D.heap/\D.os=B.os/\V6 D.gens) B:=by
 have rv:=Pt hi;have aax:=hi.length;have I:∀H:Hp,LM H->A3 K H a (ns.map V.int)->A1 P w H B.heap->(∀b,H b≠none->b=a)->(H a≠none->K.lookup a=none) ->
   Vh (TV P w) Xj (.call (.ref fa) ⟨[.ref a],[]⟩) (λr D=>r=.ok (.ret<|.bool true)/\OldK B.heap D.heap/\D.os=B.os/\V6 D.gens) B:=by
  intro H hO hS ai hA hK;have rG:∀{b:ar}{o:Obj},B.heap.get? b=some o->H b=none->(FJ B.heap H).get? b=some o:=λe n=>Aai e n;have iW:∀{b:ar}{o:Obj}{es:Array X7}{J:Nat},B.heap.get? b=some o->o.data=.dict es J->H b=none:=λ{b o es J} e d=>by
   cases q:H b with
   |none=>rfl
   |some u =>
    have e':b=a:=hA b (by rw[q];simp);subst e';rw[Y]at e;cases e;have d':Data.seq vs.toArray _=Data.dict es J:=d;cases d'
  have kj:∀{b:ar}{m:bf->Option af},B.heap.Ns b m->(FJ B.heap H).Ns b m:=λ{b m} ⟨o,es,J,e,d,r⟩=>⟨o,es,J,rG e<|iW e d,d,r⟩;have rH:K.In (FJ B.heap H):=λb o e=>rG (KX b o e) (by
   cases q:H b with
   |none=>rfl
   |some u =>
    have e':b=a:=hA b (by rw[q];simp);subst e';rw[hK<|by rw[q];simp]at e;cases e)
  have hM:Mod K mg (FJ B.heap H):=⟨rH,kj fq,⟨mb,kj hb,hbb⟩,let ⟨mc,h1,h2⟩:=aav;⟨mc,kj h1,h2⟩⟩;have e0:GP P w K mg (FJ B.heap H) Xj [] B H:=⟨rfl,hM,λb o e=>Aaj e,Nat.le_of_eq<|Aah _ _,trivial,λb hb=>absurd (show b∈([]:List ar)from hb)<|by simp,ai,.of_eq hg⟩;refine Xd ((F _ rH<|kj fq).run Xj [] B H ⟨[.ref a],[]⟩ [.ref a] [.ref a] _ _ hr e0 (aaw B<|.ref a) (.cons rfl .nil)<|dE H hO hS) λr D h=>?_;cases r with
  |error e=>exact(mE H e D h).elim
  |ok fl =>
   cases fl with
   |next=>exact VB h
   |brk=>exact VB h
   |cont=>exact VB h
   |ret u =>
    obtain⟨v,H',os,L,un,aay,r',q⟩:=Il h;have q':v=.bl true:=q;subst q';obtain rfl:u=XI true:=r';refine⟨rfl,OldK.of_keep λb o e=>?_,os,L⟩;cases q:H b with
    |none=>exact un.keep b o e q (by intro z;exact absurd (show b∈([]:List ar)from z)<|by simp)<|by simp
    |some u =>
     rcases hO b with z|⟨ob,xs,z⟩
     .rw[q]at z;cases z
     .have z2:=un.cN b ob _ z;obtain⟨e1,_⟩:=ai b _ z;obtain⟨e2,_⟩:=aay b _ z2;rw[e]at e1;cases e1;exact e2
 cases hk:K.lookup a with
 |some o =>
  have e:=KX a o hk;rw[Y]at e;cases e;refine I (λ_=>none) (λ_=>.inl rfl) (.inr ⟨_,vs.toArray,_,hk,rfl,rfl,rfl,by rwa[UB,aax],by simpa using rv⟩) (λb u z=>by have O:(none:Option HO)=some u:=z;cases O) (λb z=>absurd rfl z) λz=>absurd rfl z
 |none =>
  refine I (λb=>if b=a then some (.bW { cls:=.type "list",data:=.seq vs.toArray }<|.lst (ns.map V.int))else none) (λb=>?_) (.inl<|.inr ⟨{ cls:=.type "list",data:=.seq vs.toArray },br rfl⟩) (λb u z=>?_) (λb z=>?_) λ_=>hk
  .by_cases hb:b=a
   .exact .inr ⟨_,_,br hb⟩
   .exact .inl (cZ hb)
  .by_cases hb:b=a
   .have O:=(br hb).symm.trans z;cases O;subst hb;exact⟨Y,by rwa[TN],vs,_,rv,Y⟩
   .have O:=(cZ hb).symm.trans z;cases O
  .by_cases hb:b=a
   .exact hb
   .exact absurd (cZ hb) z
def aaz{l:Zw}{n k:Nat}{q:TR}{D:List bf}{XP:(bf->Option af)->Heap->Prop}{O:TL->Heap->Prop}{d:DefRec}{K:XZ->TH}{CX:TL->Cj}{sp:TL->Sp}{x:bf}(hn:l.most=some n)(iV:n<=sizeLine)(iZ:d.params.defaults=[])(hr:By k Xj)(hY:∀(w:TL) (h:Heap),O w h->(K w.params).In h)(F:∀(w:TL) (mg:bf->Option af) (fa:ar) (h:Heap),(K w.params).In h->h.Ns Uj mg->mg d.name=some (.ref fa) ->
   ∃J:T3,(∀(s:TK) (u:af),Xc s J ⟨[u],[]⟩ [(x,u)]) /\
    ∀base:Heap,(K w.params).In base->base.Ns Uj mg->AB l.prog w (K w.params) mg base (CX w) k fa J [x] (sp w))(dE:∀(w:TL) (H:Hp) (a:ar) (ns:List Int),ns.length<=n->LM H->A3 (K w.params) H a (ns.map V.int)->sp w [.ref a] H (λv _=>v=.bl true) λ_ _ _=>False)(mE:∀(w:TL) (H:Hp) (s:TK) (e:af) (L:TK),CX w [] H s (λ_ _ _=>False) e L->False) :
  PySem.W.WalkO q D XP O l.row.toRowW d [] (λf vs=>Zv f vs):=by
 refine Att.aau hn iZ λw s₀ s₁ mg mb fa o pm cd doc a vs ns G Y ho hd cH i4 mD I B hg=>?_;have KX:=hY w _ Y;obtain⟨J,hb,hF⟩:=As<|F w mg fa _ KX G.T.g i4;exact AbT KX G.T.g G.T.b G.T.builtins G.T.nolimit hg mD I (U1 B iV) hr hF hb (λH hO hS=>dE w H a ns B hO hS) λH e L=>mE w H s₁ e L
def Ai(s:Stmt)(j:Nat):Stmt:=match s with
 |.ClassDef _ _ _ body _ _ _ _ _ _ _=>body.getD j (.Pass ⟨0,0,0,0⟩)
 |_=>.Pass ⟨0,0,0,0⟩
def Ex(s:Stmt):Arguments:=match s with
 |.FunctionDef _ a _ _ _ _ _ _ _ _=>a
 |_=>{ posonlyargs:=[],args:=[],vararg:=none,kwonlyargs:=[],kw_defaults:=[],kwarg:=none,defaults:=[] }
def DV(s:Stmt):List Stmt:=match s with
 |.FunctionDef _ _ b _ _ _ _ _ _ _=>b
 |_=>[]
def Ae(s:Stmt):Scope:=match s with
 |.FunctionDef _ _ _ _ _ _ sc _ _ _=>sc
 |_=>{ kind:=.function,names:=[],isGenerator:=false,isCoroutine:=false }
abbrev Au:Cj:=λ_ _ _ _ _ _=>False
abbrev E0:XK:=λ_ _ _=>False
def AN:Dr Au X E0:=λ_ _ _ _ _ _ _ h=>h.elim
structure AI(K:TH)(x qual:bf)(st:Stmt)(f:ar)(fd:T3):Prop where
 ex:∃(oc:af)(od:Option ar)(kV doc pm:af)(an:Option ar)(aj ct:af)(d8:Array (Option af)),
  fd=Vx x qual (Ex st) (DV st) (Ae st) .none kV doc pm an aj ct/\K.lookup f=some ⟨oc,od,.func fd,d8⟩/\Wi K aj qual=true
 kp:U8 K (.ref f)=true
section
variable {P:TR}{w:TL}{K:TH}{mg:bf->Option af}{base:Heap}
def AI.ok{x B:bf}{st:Stmt}{f:ar}{I:T3}{N ps:List bf}{k:Nat}{sp:Sp}(F:AI K x B st f I)(S:EN N ps (Ae st))(J:∀(D:af) (A:Ud) (outer:List Env) (s:TK) (H:Hp) (vs:List V) (Q:VK) (E:XK),By k (A.deeper<|V9 B (Ae st) s.heap.objs.size f D)->sp vs H Q E ->
   ∃t,Di (Dx Au P w K mg base N B (Ae st) f D A outer s H E).j8 (DV st) t/\t { nx:=λ_ L=>Q .aa L,rt:=Q } (start N vs) H)(len:∀vs H Q E,sp vs H Q E->vs.length=ps.length:=by intro _ _ _ _ h;repeat (first|exact congrArg XX h.1|obtain⟨_,h⟩:=h)):AB P w K mg base Au (k+1) f I ps sp:=by
 obtain⟨oc,od,kV,O,pm,an,D,ct,d8,rfl,lk,Y⟩:=Lu F.ex;refine Pb lk Y S len λA outer s H vs Q E hr dE=>?_;obtain⟨t,h,q⟩:=As<|J D A outer s H vs Q E hr dE;exact⟨t,h.j8,q⟩
def AI.binds{x B:bf}{st:Stmt}{f:ar}{O:T3}{ps:List bf}(F:AI K x B st f O)(h:∀(kV D I:af) (J:Option ar) (L ct:af) (us:List af),us.length=ps.length->bindArgs (Vx x B (Ex st) (DV st) (Ae st) .none kV D I J L ct) ⟨us,[]⟩=pure (ps.zip us)):DO K O ps []:=by obtain⟨V,Y,kV,D,I,J,L,ct,d8,rfl,lk,cH⟩:=Lu F.ex;exact .all<|h kV D I J L ct
def Hy{x B:bf}{st:Stmt}{f:ar}{O:af}{V J:Option ar}{Y:Array (Option af)}{kV D L I ct:af}(l:K.lookup f=some ⟨O,V,.func<|Vx x B (Ex st) (DV st) (Ae st) .none kV D L J I ct,Y⟩)(c:Wi K I B=true)(k:U8 K (.ref f)=true):AI K x B st f (Vx x B (Ex st) (DV st) (Ae st) .none kV D L J I ct):=⟨⟨O,V,kV,D,L,J,I,ct,Y,rfl,l,c⟩,k⟩
end
section
variable {X:Cx}
end
def BN{A B:Prop}(h:B):if false=true then A else B:=by rwa[cZ UN]
def B6{A B:Prop}(h:A):if true=true then A else B:=by rwa[br rfl]
def IM{c A B:Prop} [Decidable c] (D:c->A) (h2:¬c->B):if c then A else B:=by
 by_cases h:c
 .rw[br h];exact D h
 .rw[cZ h];exact h2 h
def Aj(H H':Hp):Prop:=∀b o,H b=some o->H' b=some o
def Aj.refl(H:Hp):Aj H H:=λ_ _ h=>h
def Aj.trans (a:Aj H B)(b:Aj B D):Aj H D:=λc o h=>b c o<|a c o h
def Aj.free (e:Aj H B)(h:B l=Option.none):H l=Option.none:=by
 cases q:H l with
 |none=>rfl
 |some o =>
  rw [e l o q]at h;cases h
def Aj.seq{K:TH}{H B:Hp}{a:ar}{xs:List V}(e:Aj H B)(h:A3 K H a xs):A3 K B a xs:=by
 rcases h with (h|⟨o,h⟩)|h
 .exact .inl (.inl<|e _ _ h)
 .exact .inl (.inr ⟨o,e _ _ h⟩)
 .exact .inr h
end L2
namespace L2
def Lk(t C:St->Hp->Prop):Prop:=∀σ H,t σ H->C σ H
def Lk.use (h:Lk t C)(p:t σ H):C σ H:=h _ _ p
def Pu (h:∀C:St->Hp->Prop,Lk (t D) C->s { D with nx:=C } σ H):LB s t D σ H:=h _ λ_ _ z=>z
def Lk.asg (h:Lk t D.nx)(p:t (σ.set i<|some v) H):Gd (tC v) (Fh i) D σ H:=h _ _ p
def w1{α:Type u}{β:Type v}{a:β}{f:α->β}{P:α->Prop}{v:α}(e:a=f v)(h:P v):∃v,a=f v/\P v:=⟨v,e,h⟩
def w2{α β γ δ:Type}{x:γ}{y:δ}{f:α->γ}{g:β->δ}{P:α->β->Prop}{i:α}{j:β}(e:x=f i)(B:y=g j)(h:P i j):∃i j,x=f i/\y=g j/\P i j:=⟨i,j,e,B,h⟩
def w3{α β γ:Type}{x:γ}{f:α->β->γ}{P:α->β->Prop}{i:α}{j:β}(e:x=f i j)(h:P i j):∃i j,x=f i j/\P i j:=⟨i,j,e,h⟩
section
open PySem
variable {CX:Cj}{P:TR}{w:TL}{K:TH}{mg:bf->Option af}{base:Heap}{N:List bf}{qual:bf}{scope:Scope}{f:ar}{cd:af}{A:Ud}{outer:List Env}{s:TK}{H:Hp}{E:XK}
end
def Cc{α β γ δ ξ ζ:Type}{x:ξ}{y:ζ}{f:α->β->γ->δ->ξ}{g:α->β->γ->δ->ζ}{P Q R:α->β->γ->δ->Prop} {a b c d} (p:P a b c d) (q:Q a b c d) (r:R a b c d) (e:x=f a b c d:=by rfl) (B:y=g a b c d:=by rfl):∃a b c d,x=f a b c d/\y=g a b c d/\P a b c d/\Q a b c d/\R a b c d:=⟨a,b,c,d,e,B,p,q,r⟩
def DW{α β γ δ ε ξ:Type}{x:ξ}{f:α->β->γ->δ->ε->ξ}{P Q S T R:α->β->γ->δ->ε->Prop} {a b c d i} (p:P a b c d i) (q:Q a b c d i) (s:S a b c d i) (t:T a b c d i) (r:R a b c d i) (e:x=f a b c d i:=by rfl):∃a b c d i,x=f a b c d i/\P a b c d i/\Q a b c d i/\S a b c d i/\T a b c d i/\R a b c d i:=⟨a,b,c,d,i,e,p,q,s,t,r⟩
def Ey{α β γ ξ:Type}{x:ξ}{f:α->β->γ->ξ}{P Q R:α->β->γ->Prop} {a b c} (p:P a b c) (q:Q a b c) (r:R a b c) (e:x=f a b c:=by rfl):∃a b c,x=f a b c/\P a b c/\Q a b c/\R a b c:=⟨a,b,c,e,p,q,r⟩
def DS{b:Bool}{A B:Prop}(h:b=true)(a:A):if b=true then A else B:=by rwa[br h]
def DX{b:Bool}{A B:Prop}(h:b=false)(a:B):if b=true then A else B:=by rwa[h]
def Cd{α:Type}{B R:α->Prop} (a) (D:B a) (r:R a):∃a,B a/\R a:=⟨a,D,r⟩
def EO{α:Type}{B D R:α->Prop} (a) (I:B a) (h2:D a) (r:R a):∃a,B a/\D a/\R a:=⟨a,I,h2,r⟩
def Ed{α β:Type}{B R:α->β->Prop} (a b) (D:B a b) (r:R a b):∃a b,B a b/\R a b:=⟨a,b,D,r⟩
def A9{α β:Type}{B D R:α->β->Prop} (a b) (I:B a b) (h2:D a b) (r:R a b):∃a b,B a b/\D a b/\R a b:=⟨a,b,I,h2,r⟩
def CQ{α β:Type}{B D P3 R:α->β->Prop} (a b) (I:B a b) (h2:D a b) (J:P3 a b) (r:R a b):∃a b,B a b/\D a b/\P3 a b/\R a b:=⟨a,b,I,h2,J,r⟩
def Ee{α β:Type}{B D P3 I R:α->β->Prop} (a b) (J:B a b) (h2:D a b) (L:P3 a b) (O:I a b) (r:R a b):∃a b,B a b/\D a b/\P3 a b/\I a b/\R a b:=⟨a,b,J,h2,L,O,r⟩
def BC{α β γ:Type}{B R:α->β->γ->Prop} (a b c) (D:B a b c) (r:R a b c):∃a b c,B a b c/\R a b c:=⟨a,b,c,D,r⟩
def A2{α β γ:Type}{B D P3 R:α->β->γ->Prop} (a b c) (I:B a b c) (h2:D a b c) (J:P3 a b c) (r:R a b c):∃a b c,B a b c/\D a b c/\P3 a b c/\R a b c:=⟨a,b,c,I,h2,J,r⟩
def CS{α β γ:Type}{B D P3 I R:α->β->γ->Prop} (a b c) (J:B a b c) (h2:D a b c) (L:P3 a b c) (O:I a b c) (r:R a b c):∃a b c,B a b c/\D a b c/\P3 a b c/\I a b c/\R a b c:=⟨a,b,c,J,h2,L,O,r⟩
def ER{α β γ δ:Type}{B R:α->β->γ->δ->Prop} (a b c d) (D:B a b c d) (r:R a b c d):∃a b c d,B a b c d/\R a b c d:=⟨a,b,c,d,D,r⟩
def Bx{α β γ δ:Type}{B D P3 I R:α->β->γ->δ->Prop} (a b c d) (J:B a b c d) (h2:D a b c d) (L:P3 a b c d) (O:I a b c d) (r:R a b c d):∃a b c d,B a b c d/\D a b c d/\P3 a b c d/\I a b c d/\R a b c d:=⟨a,b,c,d,J,h2,L,O,r⟩
def Bj{α β γ δ:Type}{B D P3 I J R:α->β->γ->δ->Prop} (a b c d) (L:B a b c d) (h2:D a b c d) (O:P3 a b c d) (V:I a b c d) (Y:J a b c d) (r:R a b c d):∃a b c d,B a b c d/\D a b c d/\P3 a b c d/\I a b c d/\J a b c d/\R a b c d:=⟨a,b,c,d,L,h2,O,V,Y,r⟩
def Dz{α β γ δ ε:Type}{B R:α->β->γ->δ->ε->Prop} (a b c d e) (D:B a b c d e) (r:R a b c d e):∃a b c d e,B a b c d e/\R a b c d e:=⟨a,b,c,d,e,D,r⟩
def AK{α β γ δ ε:Type}{B D P3 I J R:α->β->γ->δ->ε->Prop} (a b c d e) (L:B a b c d e) (h2:D a b c d e) (O:P3 a b c d e) (V:I a b c d e) (Y:J a b c d e) (r:R a b c d e):∃a b c d e,B a b c d e/\D a b c d e/\P3 a b c d e/\I a b c d e/\J a b c d e/\R a b c d e:=⟨a,b,c,d,e,L,h2,O,V,Y,r⟩
def Fo{α β γ δ ε ζ:Type}{B R:α->β->γ->δ->ε->ζ->Prop} (a b c d e f) (D:B a b c d e f) (r:R a b c d e f):∃a b c d e f,B a b c d e f/\R a b c d e f:=⟨a,b,c,d,e,f,D,r⟩
def ES{α β γ δ ε ζ η:Type}{B R:α->β->γ->δ->ε->ζ->η->Prop} (a b c d e f g) (D:B a b c d e f g) (r:R a b c d e f g):∃a b c d e f g,B a b c d e f g/\R a b c d e f g:=⟨a,b,c,d,e,f,g,D,r⟩
def Fp{α β γ δ ε ζ η θ:Type}{B R:α->β->γ->δ->ε->ζ->η->θ->Prop} (a b c d e f g h) (D:B a b c d e f g h) (r:R a b c d e f g h):∃a b c d e f g h,B a b c d e f g h/\R a b c d e f g h:=⟨a,b,c,d,e,f,g,h,D,r⟩
def Gk{α β γ δ ε ζ η θ ι:Type}{B R:α->β->γ->δ->ε->ζ->η->θ->ι->Prop} (a b c d e f g h i) (D:B a b c d e f g h i) (r:R a b c d e f g h i):∃a b c d e f g h i,B a b c d e f g h i/\R a b c d e f g h i:=⟨a,b,c,d,e,f,g,h,i,D,r⟩
end L2
namespace L2
open PySem PySem.Spec PyProof.Rows
section
variable {P:TR}{w:TL}
def AJ(P:TR)(w:TL):Cj:=λouter H s E e s'=>∃(ea:ar)(cls a0:af)(B:Heap)(H':Hp),
 e=.ref ea/\s'.os=s.os/\V6 s'.gens/\Un (Dh outer) [] H H' s.heap s'.heap/\Heap.FlyingW B outer ea cls a0 s'.heap/\A1 P w H' B /\
 (∀b o,s.heap.get? b=some o->H b=none->b ∉ Dh outer->B.get? b=some o)/\(∀b o,s.heap.get? b=some o->b ∉ Dh outer->∃o',B.get? b=some o')/\E cls none H'
structure J9(X:Cx)(π:List (ar×Obj))(σ:St)(H:Hp)(B:Heap)(s:TK):Prop where
 inv:Ad X π σ H s
 ai:A1 X.prog X.w H B
 old:∀b o,X.s₀.heap.get? b=some o->X.H₀ b=none->b ∉ X.fs->b ∉ X.ex->B.get? b=some o
 there:∀b o,X.s₀.heap.get? b=some o->b ∉ X.fs->b ∉ X.ex->∃o',B.get? b=some o'
 pin:∀p∈X.pn++π,B.get? p.1=some p.2
variable {X:Cx}{π:List (ar×Obj)}{σ:St}{H H':Hp}{s s':TK}{ea:ar}{cls:af}{B:Heap}
def Ad.cY (I:Ad X π σ H s)(e:X.s₀.heap.get? b=some o):b≠X.env.locals:=Uz<|UW (Ul e) I.ok.above
def Ad.rJ (I:Ad X π σ H s)(h:AJ X.prog X.w X.stack H s E e s'):∃ea cls O B H',e=.ref ea/\J9 X π σ H' B s'/\Heap.FlyingW B X.stack ea cls O s'.heap/\E cls none H':=by
 replace h:=Io h;obtain⟨ea,cls,O,B,H',rfl,os,D,un,V,Y,J,there,hE⟩:=h
 refine⟨ea,cls,O,B,H',rfl,⟨I.rA os un (Y.kept V.1) D λb z=>absurd z<|by simp,Y,λb o e n L hx=>?_,λb o e L hx=>?_,λp hp=>?_⟩,V,hE⟩
 .refine J b o (I.base.keep b o e n L hx) (I.base.free b o e n hx) λz=>?_;rcases T9.mp (I.d4 b z)with q|q
  .exact I.cY e q
  .exact L q
 .obtain ⟨o',e'⟩:=I.base.there b o e hx;refine there b o' e' λz=>?_;rcases T9.mp (I.d4 b z)with q|q
  .exact I.cY e q
  .exact L q
 .obtain ⟨e,n,ne,nf,_⟩:=AU<|I.pin p hp;refine J p.1 p.2 e n λz=>?_;rcases T9.mp (I.d4 _ z)with q|q
  .exact ne q
  .exact nf q
def J9.move (F:J9 X π σ H B s)(Y:B.StaysIn h')(up:s.heap.UpToSlots h'):Ad X π σ H { s with heap:=h',toks:=tk }:=by
 have I:=F.inv;have D:∀b,b∈X.fs->∀o,s.heap.get? b=some o->(∃o₀,X.s₀.heap.get? b=some o₀)->∃sl,h'.get? b=some { o with slots:=sl }:=λb hb o e _=>by
  obtain⟨_,o1,L,d1⟩:=I.bD.mem hb;rw[e]at L;cases L;exact up b o e d1
 have J:∀c v,s.heap.IsCell c v->h'.IsCell c v:=λc v zz=>DM zz λo ho hd=>by
  obtain⟨sl,e⟩:=up c o ho λvs q=>by rw[hd]at q;cases q
  exact⟨_,e,hd⟩
 refine⟨I.ok,I.os,I.bare,⟨λb o e n O hx=>Y b o<|F.old b o e n O hx,λb o e n O hx=>?_,I.base.free,λb o e hx=>?_,I.base.ak,I.base.cN,I.base.cW⟩,?_,λx c e=>?_,I.free,I.bQ,λp hp=>?_,F.ai.kept Y,I.len⟩
 .obtain ⟨sl,L⟩:=I.base.slot b o e n O hx;obtain⟨gO,V⟩:=D b O _ L ⟨o,e⟩;exact⟨gO,V⟩
 .by_cases O:b∈X.fs
  .obtain ⟨o',L⟩:=I.base.there b o e hx;obtain⟨gO,V⟩:=D b O _ L ⟨o,e⟩;exact⟨_,V⟩
  .obtain ⟨o',e'⟩:=F.there b o e O hx;exact⟨o',Y b o' e'⟩
 .obtain ⟨m,hn,hl⟩:=As I.loc;refine⟨m,up.ns hn,λi x v L V e3=>?_⟩;obtain⟨u,r,l⟩:=As<|hl i x v L V e3;refine⟨u,r,?_⟩;rcases l with l|⟨k,c,e,z⟩
  .exact .inl l
  .exact .inr ⟨k,c,e,J c _ z⟩
 .obtain ⟨v,z⟩:=I.cell x c e;exact⟨v,J c v z⟩
 .obtain ⟨_,r⟩:=I.pin p hp;exact⟨Y _ _<|F.pin p hp,r⟩
end
section
variable {P:TR}{w:TL}{K:TH}{mg:bf->Option af}{base:Heap}{N:List bf}{qual:bf}{scope:Scope}{f:ar}{cd:af}{A:Ud}{outer:List Env}{s₀:TK}{H₀:Hp}{E:XK}
def BE:Dr (AJ P w) (Dx (AJ P w) P w K mg base N qual scope f cd A outer s₀ H₀ E) E:=by intro π σ H s e O I h;obtain⟨V,cls,Y,B,H',rfl,F,fl,hE⟩:=Ot<|I.rJ h;show TQ _ _ (leaving _ _) _ _ _;refine wpAny_leaves_onW I.ok.frames rfl fl λh' L up=>?_;have J:=F.move (tk:=O.toks) L.1 up;exact⟨V,cls,Y,B,H',rfl,J.os,J.bare,J.base,L,F.ai,λb o e n D=>F.old b o e n D<|by simp[Dx],λb o e D=>F.there b o e D<|by simp[Dx],hE⟩
def A1.hide (x:A1 P w H h)(n:∀b∈l,H b=none):A1 P w H (Yp h l):=λa o e =>
 (x a o e).dw (λb u hb q=>XM l q λB=>by
  have z:=n b B;rcases hb with rfl|hb
  .rw[e]at z;cases z
  .rw[hb]at z;cases z) (λ_ q=>q) λ_ _ q=>q
def AbU (q:Vy K C L B=true):∃nm I N bs D hd sn sub ab col dd k0 k1 k2 k3 k5,
  K.lookup C=some (excClassObj nm I C N bs D hd sn sub ab col dd k0 k1 k2 k3 k5 B)/\Zx K N=true/\Ur K N "__init__"=some none/\PySem.W.tailIn K L D=true:=by
 unfold Vy at q;split at q
 .rename_i dd cd sl ho
  split at q
  .rename_i C' D k0 k1 k2 k3 n k5 hm hs
   simp only[VD,beq_iff_eq,wG]at q;obtain⟨⟨⟨⟨⟨rfl,rfl⟩,O⟩,ht⟩,V⟩,Y⟩:=q;obtain⟨nm,bs,mro,ns,I,hd,sn,sub,ab,col,del⟩:=cd;dsimp only at hm O V Y;subst hm O;have J:sl=#[k0,k1,k2,k3,some<|.builtin n,k5]:=by obtain⟨l⟩:=sl;simp only at hs;rw[hs]
   subst J;exact⟨nm,I,ns,bs,D,hd,sn,sub,ab,col,dd,k0,k1,k2,k3,k5,ho,V,Y,ht⟩
  .cases q
 .cases q
def AbV{N:ar}(B:Zx K N=true){h:Heap}(X:K.In h):∃mN,(∀h',K.In h'->h'.Ns N mN)/\∀x,Ur K N x=some none->mN x=none:=by
 have i:=PySem.W.isNs_of_in X B;refine⟨h.nsMap N,λh' D=>?_,λx e=>PySem.W.nsMap_none_of_in X B e⟩;obtain⟨o,es,I,J,r⟩:=C7<|Heap.Ns.of_isNs i;refine⟨o,es,I,?_,r⟩;unfold Zx at B;split at B
 .rename_i q
  have e:=X _ _ q;rw[J]at e;cases e;exact D _ _ q
 .cases B
def LN(X:Cx)(W:St->XK):Prop:=∀(π:List (ar×Obj))(σ:St)(H:Hp)(s:TK)(ea:ar)(h':Heap)(C:ar)(args:List af),Ad X π σ H s->Heap.MadeExcOf s.heap h' ea (.ref C) args->W σ (.ref C) none H->X.xe (.ref ea) { s with heap:=h' }
def Pw(W:St->XK)(C:ar)(ta:TA):TS:=λ_ σ H=>ta σ H λvs H1=>vs.length<=sizeLine/\W σ (.ref C) none H1
def AbW{X:Cx}{W:St->XK}{C:ar}{x:bf}{np O pos:Pos}{e:TM}{es:List TM}{t:TA}(ht:LN X W)(hc:X.calm=true)(q:Vy X.K C [.type "ValueError",.type "Exception",.type "BaseException",.type "object"] "ValueError.__new__"=true)(hm:X.mg x=some (.ref C))(ha:PA X (e::es) t)(hg:Gl X x:=by rfl)(hd:(x == ("__debug__":bf))=false:=by decide)(Y:T5 (e::es) X.env=(false,T7 e X.env)::T5 es X.env:=by rfl)(aS:(UA O<|T5 es X.env).any (·.1)=false:=by rfl) :
  PS X (.Raise (some<|.Call (.Name x np) (e::es) [] O) none pos) (Pw W C t):=by
 intro π s σ H D I h;obtain⟨nm,qn,NN,bs,bm,V,sn,sub,ab,B,dd,k0,k1,k2,k3,k5,lk,ai,km,tl⟩:=AbU q;obtain⟨mN,hN,mF⟩:=As<|AbV ai I.aN;have hb:bm.contains (.type "BaseException")=true:=(wH I.aN tl).hasType wI.hasBase;refine wpAny_Raise_call_subT (nm:=nm) (q:=qn) (C:=C) (N:=NN) (bs:=bs) (hdct:=V) (sn:=sn) (sub:=sub) (ab:=ab) (col:=B) (dd:=dd) (k0:=k0) (k1:=k1) (k2:=k2) (k3:=k3) (k5:=k5) (mN:=mN) wI hb (I.ok.hd hc) (by rw[Y];show(false || _)=false;exact aS) (mF _ km)<|Ir I hg hm ⟨rfl,?_⟩ hd;have J:=ha O π s σ H _ I h;rw[Y]at J ⊢;refine Zq<|Vu J (λus s2 zz=>FG zz λvs H1 L r hl hE=>?_) λ_ _ z=>z;exact⟨rfl,(by rwa[<-r.length]),L.aN _ _ lk,hN _ L.aN,wH L.aN tl,λh' ea mx=>ht π σ H1 s2 ea h' C _ L mx hE⟩
def Ad.lies{X:Cx}{π:List (ar×Obj)}{σ:St}{H:Hp}{s:TK}(I:Ad X π σ H s):J9 X π σ H (Yp s.heap<|Dh X.stack) s:=by
 have J:∀{b:ar}{o:Obj},X.s₀.heap.get? b=some o->b ∉ X.fs->b ∉ Dh X.stack:=λ{b o} e D z=>by
  rcases T9.mp (I.d4 b z)with y|y
  .exact I.cY e y
  .exact D y
 refine⟨I,I.ai.hide I.lS,λb o e n B hx=>XM _ (I.base.keep b o e n B hx)<|J e B,λb o e B hx=>?_,λp L=>?_⟩
 .obtain ⟨O,V⟩:=I.base.there b o e hx;exact⟨O,XM _ V<|J e B⟩
 .obtain ⟨e,n,ne,D,_⟩:=AU<|I.pin p L;refine XM _ e λz=>?_;rcases T9.mp (I.d4 _ z)with y|y
  .exact ne y
  .exact D y
def DA:LN (Dx (AJ P w) P w K mg base N qual scope f cd A outer s₀ H₀ E) (λ_=>E):=by intro π σ H B ea h' C args I V hE;have L:=I.lies;have D:∀env∈(Dx (AJ P w) P w K mg base N qual scope f cd A outer s₀ H₀ E).stack,∀b,env.frame=some b->b∈Dh (Dx (AJ P w) P w K mg base N qual scope f cd A outer s₀ H₀ E).stack:=λenv he b hb=>Y9.mpr ⟨env,he,hb⟩;show TQ _ _ (leaving _ _) _ _ _;refine wpAny_leaves_madeW (s:={ B with heap:=h' }) (base:=Yp B.heap<|Dh (Dx (AJ P w) P w K mg base N qual scope f cd A outer s₀ H₀ E).stack) (h:=B.heap) I.ok.frames rfl (λb o z=>vV _ z) (PySem.W.funFrames_hide I.stack D) V λh'' t Y tup tn up=>?_;have J:=L.move (tk:=B.toks) Y.1<|(Heap.UpToSlots.of_keeps V.keeps).trans up;exact⟨ea,.ref C,.ref t,_,H,rfl,J.os,J.bare,J.base,Y,L.ai,λb o e n O=>L.old b o e n O<|by simp[Dx],λb o e O=>L.there b o e O<|by simp[Dx],hE⟩
end
section
variable {X:Cx}{π:List (ar×Obj)}{σ:St}{H:Hp}{s:TK}
def Bs.got (x:Bs P w H h a o):∃u,h.get? a=some u:=by
 cases o with
 |lst D=>obtain⟨_,_,_,_,e⟩:=x;exact⟨_,e⟩
 |tup D=>obtain⟨_,_,_,_,e,_⟩:=x;exact⟨_,e⟩
 |dK B=>obtain⟨_,_,_,_,o,_,_,e,_⟩:=AU x;exact⟨_,e⟩
 |dT B=>obtain⟨_,_,_,_,o,_,_,e,_⟩:=AU x;exact⟨_,e⟩
 |set S n=>obtain⟨o,_,_,_,e,_⟩:=DN x;exact⟨_,e⟩
 |ins C dx fs=>obtain⟨_,_,_,e,_⟩:=AU x;exact⟨_,e⟩
 |own y=>obtain⟨_,e⟩:=x;exact⟨_,e⟩
 |xd fs=>obtain⟨_,⟨_,_,_,e,_⟩,_⟩:=As x;exact⟨_,e⟩
 |cF lo I=>obtain⟨_,_,_,e⟩:=x;exact⟨_,e⟩
 |bW J u=>obtain⟨e,_⟩:=x;exact⟨_,e⟩
 |fe L=>exact⟨_,(show h.get? a=some _ from x)⟩
 |met f y=>exact⟨_,(show h.get? a=some _ from x)⟩
 |ext φ=>obtain⟨_,⟨_,e⟩,_⟩:=AU x;exact⟨_,e⟩
def A1.out (x:A1 P w H h)(e:h.get? a=none):H a=none:=by
 cases q:H a with
 |none=>rfl
 |some o =>
  obtain⟨u,z⟩:=(x a o q).got;rw[e]at z;cases z
def ET(ea:ar)(cls:af):HO:=.ext λh=>∃o vs,h.get? ea=some o/\o.cls=cls/\o.data=.fields vs
def Ad.aaA (I:Ad X π σ H s)(hn:H a=none)(ha:∃o vs,s.heap.get? a=some o/\o.cls=cls/\o.data=.fields vs)(h0:X.s₀.heap.get? a=none)(hp:∀p∈X.pn++π,p.1≠a):
  Ad X π σ (upd H a<|ET a cls) s:=by
 obtain⟨oa,vs,D,ca,J⟩:=BA ha;have L:X.env.locals≠a:=λz=>by
  obtain⟨m,⟨o,es,ep,B,hd,_⟩,_⟩:=As I.loc;rw[z,D]at B;cases B;rw[J]at hd;cases hd
 have O:∀x c,X.env.cells.lookup x=some c->c≠a:=λx c e z=>by
  obtain⟨v,o,B,hd⟩:=Bv<|I.cell x c e;rw[z,D]at B;cases B;rw[J]at hd;cases hd
 have ne:∀{b:ar}{o:HO},H b=some o->b≠a:=λ{b o} e z=>by rw[z,hn]at e;cases e
 refine⟨I.ok,I.os,I.bare,⟨I.base.keep,I.base.slot,λb o e n hx=>?_,I.base.there,λb V e=>?_,λb o u e=>?_,λb ps e=>?_⟩,I.loc,I.cell,?_,λx c e=>?_,λp hq=>?_,λb o e=>?_,I.len⟩
 .rw[Aw λz:b=a=>by rw[z,h0]at e;cases e];exact I.base.free b o e n hx
 .have q:=I.base.ak b V e;rwa[Aw<|ne q]
 .have q:=I.base.cN b o u e;rwa[Aw<|ne q]
 .obtain ⟨more,q⟩:=I.base.cW b ps e;exact⟨more,by rwa[Aw<|ne q]⟩
 .rw[Aw L];exact I.free
 .rw[Aw<|O x c e];exact I.bQ x c e
 .obtain ⟨Y,h2,h3⟩:=AU<|I.pin p hq;exact⟨Y,by rwa[Aw<|hp p hq],h3⟩
 .by_cases hb:b=a
  .subst hb;rw[Aq]at e;cases e;exact⟨⟨oa,vs,D,ca,J⟩,⟨_,D⟩,λY h2 ⟨o,vs,e,r⟩ k=>⟨o,vs,k o e,r⟩⟩
  .rw[Aw hb]at e;exact(I.ai b o e).dw (λ_ _ _ q=>q) (λc q=>by rwa[Aw<|ne q]) λc V q=>by rwa[Aw<|ne q]
def Ad.unbind (I:Ad X π σ H s)(O:X.N.Nodup)(Y:X.N[i]?=some n)(hm:s.heap.Ns X.env.locals m)(hl:∀(i:Nat) (x:bf) (v:V),X.N[i]?=some x->σ[i]?=some (some v)->JP X.env.scope x->∃u,AH v u/\Ow X.env s.heap m x u)(hn:h'.Ns X.env.locals (λx=>if x=n then v else m x))(hs:Vb X.env.locals s.heap h'):Ad X π (σ.set i none) H { s with heap:=h',toks:=tk }:=by
 have cY:∀{b:ar}{o:Obj},X.s₀.heap.get? b=some o->b≠X.env.locals:=λ{b o} e=>I.cY e;refine⟨I.ok,I.os,I.bare,⟨λb o e n hb hx=>?_,λb o e n hb hx=>?_,I.base.free,λb o e hx=>?_,I.base.ak,I.base.cN,I.base.cW⟩,⟨_,hn,λj y v' B D e3=>?_⟩,λy c e=>?_,I.free,I.bQ,λp hp=>?_,λb ob e=>?_,by simpa using I.len⟩
 .exact (hs.2 b<|cY e).trans (I.base.keep b o e n hb hx)
 .obtain ⟨sl,B⟩:=I.base.slot b o e n hb hx;exact⟨sl,(hs.2 b<|cY e).trans B⟩
 .obtain ⟨o',B⟩:=I.base.there b o e hx;exact⟨o',(hs.2 b<|cY e).trans B⟩
 .have J:j≠i:=λz=>by
   subst z;by_cases aU:j<σ.length
   .rw[WU aU]at D;cases D
   .rw[wJ<|by rw[Uo];omega]at D;cases D
  rw [VA<|UC J]at D;obtain⟨u',r',q⟩:=As<|hl j y v' B D e3;refine⟨u',r',?_⟩;rcases q with ⟨k,e⟩|⟨k,c,e,z⟩
  .refine .inl ⟨k,?_⟩;have:y≠n:=λe=>J<|Lv O B (e▸Y);simp[this,e]
  .exact .inr ⟨k,c,e,z.sameBut hs<|I.d3 y c e⟩
 .obtain ⟨L,z⟩:=I.cell y c e;exact⟨L,z.sameBut hs<|I.d3 y c e⟩
 .obtain ⟨e,n,ne,nf,d⟩:=AU<|I.pin p hp;exact⟨(hs.2 p.1 ne).trans e,n,ne,nf,d⟩
 .refine (I.ai b ob e).dw (λc L hc q=>(hs.2 c ?_).trans q) (λ_ q=>q) λ_ _ q=>q;rintro rfl;have z:=I.free;rcases hc with hc|hc
  .rw[hc,e]at z;cases z
  .rw[hc]at z;cases z
noncomputable abbrev Cx.tr(X:Cx)(Ew:af->TK->Prop)(π:List (ar×Obj)):Cx:={ X with xe:=Ew,pn:=X.pn++π }
noncomputable abbrev Cx.su(X:Cx)(ea:ar):Cx:={ X with A:=X.A.mark (some (.ref ea)),calm:=false,xe:=λ_ _=>False }
def Ad.tr (I:Ad X (π++bX) σ H s):Ad (X.tr B π) bX σ H s :=
 ⟨⟨I.ok.mod,I.ok.kind,I.ok.glob,I.ok.blt,I.ok.above,I.ok.inj,I.ok.has,I.ok.dA,I.ok.hd,I.ok.frames,I.ok.aR,I.ok.fj,I.ok.bs,I.ok.cG,I.ok.dB,I.ok.dC,I.ok.bD,I.ok.cO⟩,I.os,I.bare,I.base,I.loc,I.cell,I.free,I.bQ,
  λp D=>I.pin p (by rwa[<-Uk]),I.ai,I.len⟩
def Ad.i5 (I:Ad (X.tr B π) bX σ H s):Ad X (π++bX) σ H s :=
 ⟨⟨I.ok.mod,I.ok.kind,I.ok.glob,I.ok.blt,I.ok.above,I.ok.inj,I.ok.has,I.ok.dA,I.ok.hd,I.ok.frames,I.ok.aR,I.ok.fj,I.ok.bs,I.ok.cG,I.ok.dB,I.ok.dC,I.ok.bD,I.ok.cO⟩,I.os,I.bare,I.base,I.loc,I.cell,I.free,I.bQ,
  λp D=>I.pin p (by show p∈(X.pn++π)++bX;rwa[Uk]),I.ai,I.len⟩
def Ad.su(B:ar)(I:Ad X π σ H s):Ad (X.su B) π σ H s :=
 ⟨⟨I.ok.mod,I.ok.kind,I.ok.glob,I.ok.blt,I.ok.above,I.ok.inj,I.ok.has,I.ok.dA,(λz=>nomatch z),I.ok.frames,I.ok.aR,I.ok.fj,I.ok.bs,I.ok.cG,I.ok.dB,I.ok.dC,I.ok.bD,I.ok.cO⟩,I.os,I.bare,I.base,I.loc,I.cell,I.free,I.bQ,I.pin,I.ai,I.len⟩
def Ad.aaD (I:Ad (B.su D) π σ H s)(hd:B.calm=true->B.A.handled=none):Ad B π σ H s :=
 ⟨⟨I.ok.mod,I.ok.kind,I.ok.glob,I.ok.blt,I.ok.above,I.ok.inj,I.ok.has,I.ok.dA,hd,I.ok.frames,I.ok.aR,I.ok.fj,I.ok.bs,I.ok.cG,I.ok.dB,I.ok.dC,I.ok.bD,I.ok.cO⟩,I.os,I.bare,I.base,I.loc,I.cell,I.free,I.bQ,I.pin,I.ai,I.len⟩
def Ka(CX:Cj)(X:Cx)(W:St->XK):Prop:=∀(π:List (ar×Obj))(σ:St)(H:Hp)(s:TK)(e:af)(s':TK),Ad X π σ H s->CX X.stack H s (W σ) e s'->X.xe e s'
def Px(K:TH)(Ch:ar)(i:Nat)(tb:(af->TK->Prop)->List (ar×Obj)->(St->XK)->TS)(ts:ar->TS):TS:=λD σ H=>∀Ew π,tb Ew π (λσ' cls _ H'=>YD K cls (.ref Ch)=some true/\∀ea,H' ea=none ->
 ts ea { nx:=λσ2 H2=>D.nx (σ2.set i none) H2,rt:=D.rt,bk:=λσ2 H2=>D.bk (σ2.set i none) H2,ct:=λσ2 H2=>D.ct (σ2.set i none) H2 } (σ'.set i (some (.ref ea))) (upd H' ea (ET ea cls))) D σ H
def AbX{body gS:List Stmt}{b₀:Stmt}{x n:bf}{np i6 pos:Pos}{i:Nat}{Ch:ar}{tb:(af->TK->Prop)->List (ar×Obj)->(St->XK)->TS}{ts:ar->TS}(hex:X.ex=[])(aH:X.stack=X.env::X.outer)(mG:X.env.frame=some X.env.locals)(hm:X.mg x=some (.ref Ch))(hN:X.N.Nodup)(hi:X.N[i]?=some n)(hb:∀Ew π W,Ka (AJ X.prog X.w) (X.tr Ew π) W->Yr (TV X.prog X.w) X.A X.env Ew->Di (X.tr Ew π) body (tb Ew π W))(hs:∀O,Di (X.su O) (b₀::gS)<|ts O)(hx:Gl X x:=by rfl)(hl:X.env.scope.names.lookup n=some .local:=by rfl)(hd:(x == ("__debug__":bf))=false:=by decide) :
  PS X (.Try body [.ExceptHandler (some<|.Name x np) (some n) (b₀::gS) i6] [] [] pos) (Px X.K Ch i tb ts):=by
 intro π s σ H D I h;refine wpAny_Try_except<|Vu (hb (λe s₁=>TQ (TV X.prog X.w) X.A (YE e X.env) (λ_ s₂=>TQ (TV X.prog X.w) X.A (setFlight e none) (λ_ s₃=>TQ (TV X.prog X.w) X.A (handleBy e X.env [.ExceptHandler (some<|.Name x np) (some n) (b₀::gS) i6]) (SP X π D) X.xe s₃) X.xe s₂) X.xe s₁) π _ ?_ PassesOwn.looking [] s σ H D (Ad.tr<|by rwa[Vi])<|h _ _) (λf s₁ q=>?_) λe s₁ q=>q
 .-- an exception of a callee
  intro bX σ' H1 s1 e rN I1 hcx;obtain⟨O,cls,a0,B,H',rfl,L,fl,hw,hsu⟩:=Ot<|I1.i5.iS.rJ hcx;show TQ _ _ (YE _ _) _ _ _;rw[aH]at fl;have fr:X.A.frames=some (X.env::X.outer):=by rw[<-aH];exact L.inv.ok.frames
  refine wpAny_looks_onW fr mG fl λh₄ aaE rO=>?_;refine wpAny_landsW aaE λh₅ mH rP=>?_;have I5:=L.move (tk:=rN.toks) mH.1<|rO.trans rP;refine wpAny_handleBy_cons (codeAny_handlers_test<|Ir (X:=X.su O) (I5.su O) hx hm ?_ hd) (by intro q;cases q);obtain⟨ob,hob,aaF⟩:=As mH.there;have LT:PySem.W.Looks (TV X.prog X.w) h₅ (typeOf<|.ref O) cls:=aaF▸(PySem.W.Looks.ld hob).andThen .now;refine(PySem.W.exm_one I5.aN LT hw).here ?_;rw[br rfl];apply codeAny_handlers_suite_as;refine lands_againW mH λh₆ i7 up₆=>?_;have I6:=L.move (tk:=rN.toks) i7.1<|(rO.trans rP).trans up₆;have rQ:H' O=none:=L.ai.out i7.2.1;obtain⟨oe,vs,he,hc,rR,_⟩:=BA i7.first
  have hs0:X.s₀.heap.get? O=none:=by
   cases q:X.s₀.heap.get? O with
   |none=>rfl
   |some o =>
    by_cases hf:O∈X.fs
    .obtain ⟨_,o1,e1,d1⟩:=I6.bD.mem hf;have dF:h₆.get? O=some o1:=e1;rw[he]at dF;cases dF;exact absurd rR<|d1 vs
    .by_cases mI:O∈X.ex
     .rw[hex]at mI;cases mI
     .obtain ⟨o',e'⟩:=L.there O o q hf mI;rw[i7.2.1]at e';cases e'
  have I7:=I6.aaA (a:=O) (cls:=cls) rQ ⟨oe,vs,he,hc,rR⟩ hs0 (λp hp z=>by
   have:=L.pin p hp;rw[z,i7.2.1]at this;cases this)
  refine Lx (X:=X.su O) (I7.su O) hN hi (.inl hl) (v:=.ref O) rfl (λs8 I8=>?_)<|.inr hl;refine Vu (hs O π s8 _ _ _ I8<|hsu O rQ) (λf s9 q=>?_) λ_ _ z=>z.elim;have Y:∀{σ2:St}{V:Hp}(J:Ad (X.su O) π σ2 V s9){Q:Unit->TK->Prop},(∀s',Ad X π (σ2.set i none) V s'->Q () s') ->
    TQ (TV X.prog X.w) X.A (do bindName X.env n .none;unbindBehindTheSuite X.env n i6) Q X.xe s9:=λ{σ2 V} J {Q} hq=>by
   obtain⟨m,hn,hlk⟩:=As<|id J.loc;refine wpAny_nameGoes_keeps hl hn (by rw[I.ok.kind];rfl) λh' v lU i8=>hq _ ?_;exact(J.aaD I.ok.hd).unbind hN hi hn hlk lU i8
  show TQ _ _ _ _ _ _;cases f with
  |next =>
   obtain⟨σ2,V,J,z⟩:=Bv q;exact Y J λs' J'=>⟨_,_,J',z⟩
  |brk =>
   obtain⟨σ2,V,J,z⟩:=Bv q;exact Y J λs' J'=>⟨_,_,J',z⟩
  |cont =>
   obtain⟨σ2,V,J,z⟩:=Bv q;exact Y J λs' J'=>⟨_,_,J',z⟩
  |ret u =>
   obtain⟨v,σ2,V,J,r,z⟩:=C7 q;exact Y J λs' J'=>⟨v,_,_,J',r,z⟩
 .cases f with
  |next =>
   obtain⟨σ2,V,J,z⟩:=Bv q;exact XS ⟨σ2,V,by have:=J.i5;rwa[Vi]at this,z⟩
  |brk =>
   obtain⟨σ2,V,J,z⟩:=Bv q;exact⟨σ2,V,by have:=J.i5;rwa[Vi]at this,z⟩
  |cont =>
   obtain⟨σ2,V,J,z⟩:=Bv q;exact⟨σ2,V,by have:=J.i5;rwa[Vi]at this,z⟩
  |ret u =>
   obtain⟨v,σ2,V,J,r,z⟩:=C7 q;exact⟨v,σ2,V,by have:=J.i5;rwa[Vi]at this,r,z⟩
end
end L2
namespace L2
open PySem PySem.Spec PySem.Calls PyProof.Rows PySem.W PySem.Builtin PySem.Builtin.ObjectAttr PySem.Builtin.Getset_descriptor
open Sem (wp)
def AbY(ea:ar)(cls:af)(h:Heap):Prop:=∃o vs,h.get? ea=some o/\o.cls=cls/\o.data=.fields vs
structure Fq(K:Frag)(C:ar):Prop where
 cls:(clsIn K C).isSome=true
 ga:findIn K (.ref C) "__getattribute__"=some (some (.builtin "BaseException.__getattribute__"))
 gt:findIn K (.ref C) "__getattr__"=some none
 cl:findIn K (.ref C) "__class__"=some (some (.builtin "object.__class__"))
 ob:subIn K (.ref C) (.type "object")=some true
 be:subIn K (.ref C) (.type "BaseException")=some true
section
variable {prog:TR}{w:TL}{A:Ud}{E:af->TK->Prop}{K:Frag}{C ea:ar}{h:Heap}{g:Array XN}{d:Drawn}{t:Nat}{os:OsState}{o:Obj}
def LO (hx:h.get? ea=some o)(hc:o.cls=.ref C):Looks M h (typeOf<|.ref ea) (.ref C):=hc▸(Looks.ld hx).andThen .now
def AbZ (X:K.In h)(c:Fq K C)(hx:h.get? ea=some o)(hc:o.cls=.ref C)(hq:R (.ok<|.ret (.ref C)) ⟨h,g,d,t,os⟩):
  Vh (TV prog w) A (.call (.builtin "getset_descriptor.__get__") ⟨[.builtin "object.__class__",.ref ea,.ref C],[]⟩) R ⟨h,g,d,t,os⟩:=by
 have B:=LO (M:=TV prog w) hx hc;have D:=looks_subIn (M:=TV prog w) X c.ob;refine Zy KF.slot_gs.plain KF.entry_gs<|KF.slot_gs.check _ _ _ _ _ _ _ _ KF.type_class (KF.args_gs _ _ _) ?_;unfold Builtin.«getset_descriptor.__get__» descrGet;rw[dga_obj];refine TX<|Ub ?_;unfold descrGetter descrCheckInstance descrNameAndClass isInstance;simp only[KF.owner_class];repeat lk
 refine⟨wK _<|by decide +kernel,Xk KF.entry_class ?_⟩;unfold Builtin.«object.__class__» shownTypeOf;repeat lk
 exact hq
def Ab0 (X:K.In h)(c:Fq K C)(hx:h.get? ea=some o)(hc:o.cls=.ref C)(hq:Q () ⟨h,g,d,t,os⟩):
  TQ M A (Zz "BaseException.__getattribute__" ⟨[.ref ea,D],[]⟩) Q E ⟨h,g,d,t,os⟩:=by
 have hk:builtinKind "BaseException.__getattribute__"=some .slot:=by decide +kernel
 have B:splitId "BaseException.__getattribute__"=some ("BaseException","__getattribute__"):=by decide +kernel
 have I:=LO (M:=M) hx hc;have J:=looks_subIn (M:=M) X c.be;have O:=F.args_bexc_ga (.ref ea) D;have L:Looks M h (isInstance (.ref ea)<|.type "BaseException") true:=I.andThen J;simp only[Zz,hk,B];refine TX<|L.at ?_;repeat (first|assumption|lk|wp_step)
def Ab1 (X:K.In h)(c:Fq K C)(hx:h.get? ea=some o)(hc:o.cls=.ref C)(hq:Q (.done<|.ret (.ref C)) ⟨h,g,d,t,os⟩):
  TQ (TV prog w) A (Builtin.«object.__getattribute__» ⟨[.ref ea,.str "__class__" tk],[]⟩) Q E ⟨h,g,d,t,os⟩:=by
 have B:(⟨h,g,d,t,os⟩:TK).TypeIs (.builtin "object.__class__") "getset_descriptor":=wL;have L2:=looks_findIn (M:=TV prog w) X c.cl;have D:=wL;have I:=F.slot_gs_get.lookup;have J:=F.slot_gs_set.lookup;repeat (any_goals (first|assumption|(with_reducible apply wM hx;rw[hc])|with_reducible refine L2.at ?_|wp_step))
 apply AbZ X c hx hc;repeat (any_goals (first|assumption|wp_step))
def Ab2 (X:K.In h)(c:Fq K C)(hx:h.get? ea=some o)(hc:o.cls=.ref C)(hq:Q (.ref C) ⟨h,g,d,t,os⟩):
  TQ (TV prog w) A (getAttrBy (.ref ea) (.str "__class__" tk) false) Q E ⟨h,g,d,t,os⟩:=by
 have J:=wN.ga.bind<|.ref ea;have B:(YF "BaseException.__getattribute__" == YF "object.__getattribute__")=false:=by decide +kernel
 have D:(onTheHeap (T8 C) && YF "BaseException.__getattribute__" == YF "object.__getattribute__")=false:=by rw[B];rfl
 have L2:=looks_findIn (M:=TV prog w) X c.ga;have I:=looks_findIn (M:=TV prog w) X c.gt;repeat (any_goals (first|assumption|(with_reducible apply wM hx;rw[hc])|with_reducible refine L2.at ?_|with_reducible refine I.at ?_|wp_step))
 refine Zy wN.ga.plain F.entry_bexc_ga<|Ab0 X c hx hc (Ab1 X c hx hc ?_);repeat (any_goals (first|assumption|wp_step))
def Ab3 (X:K.In h)(c:Fq K C)(hx:h.get? ea=some o)(hc:o.cls=.ref C)(hq:Q (some<|.ref C) ⟨h,g,d,t+1,os⟩):TQ (TV prog w) A (getAttr? (.ref ea) "__class__") Q E ⟨h,g,d,t,os⟩:=by unfold getAttr? getAttrBy?;repeat (any_goals (first|assumption|with_reducible apply Ab2 X c hx hc|wp_step))
theorem Py(c:Fq K C):KitX K (.ref ea) (.ref C) (AbY ea (.ref C)) where
 ty:=λ_ _ _ I=>AF I λ_ _ e q _=>LO e q
 it:=λ_ _ X _=>by
  obtain⟨D,B⟩:=XW.mp c.cls;unfold clsIn at B;split at B
  .rename_i c' d' cd' gO ho
   intro O V Y s' k q;unfold isType loadHead;exact TX (wa (k _ _ (X _ _ ho)) (Ub q))
  .cases B
 ne:=λh J dd its n sl X L=>by
  obtain⟨D,B⟩:=XW.mp c.cls;refine Xl.mpr λq=>?_;have e:C=J:=Value.ref.inj (beq_iff_eq.mp q);subst e;unfold clsIn at B;split at B
  .rename_i c' d' cd' gO ho
   have z:=(X _ _ ho).symm.trans L;cases z
  .cases B
 ca:=λ{prog w A E Q s} X ⟨o,vs,e,q,_⟩ k=>by
  obtain⟨h,g,d,t,os⟩:=s;exact Ab3 X c e q k
end
end L2
namespace L2
open PySem PySem.Spec PyProof.Rows
mutual
inductive Is(K:TH)(H:Hp):V->PyData->Prop
 |aa:Is K H .aa .none
 |bl (b:Bool):Is K H (.bl b) (.bool b)
 |int (i:Int):Is K H (.int i) (.int i)
 |str (x:bf):Is K H (.str x) (.str x)
 |lst {a:ar} {xs:List V} {ds:List PyData}:A3 K H a xs->aW K H xs ds->Is K H (.ref a) (.list ds)
 |tup {a:ar} {xs:List V} {ds:List PyData}:Bw K H a xs->aW K H xs ds->Is K H (.ref a) (.tuple ds)
inductive aW(K:TH)(H:Hp):List V->List PyData->Prop
 |nil:aW K H [] []
 |cons {x:V} {xs:List V} {d:PyData} {ds:List PyData}:Is K H x d->aW K H xs ds->aW K H (x::xs) (d::ds)
end
def Aj.tup{K:TH}{H B:Hp}{a:ar}{xs:List V}(e:Aj H B)(h:Bw K H a xs):Bw K B a xs:=by
 rcases h with (h|⟨o,h⟩)|h
 .exact .inl (.inl<|e _ _ h)
 .exact .inl (.inr ⟨o,e _ _ h⟩)
 .exact .inr h
section
variable {X:Cx}{π:List (ar×Obj)}{σ:St}{H H':Hp}{s:TK}{K:TH}
mutual
theorem Is.same:∀(d:PyData){x:V},Is K H x d->Aj H H'->Is K H' x d
 |.none,_,r,_=>by cases r;exact .aa
 |.bool _,_,r,_=>by cases r;exact .bl _
 |.int _,_,r,_=>by cases r;exact .int _
 |.str _,_,r,_=>by cases r;exact .str _
 |.list ds,_,r,e=>by cases r with|lst B h2=>exact .lst (e.seq B) (aW.same ds h2 e)
 |.tuple ds,_,r,e=>by cases r with|tup B h2=>exact .tup (e.tup B) (aW.same ds h2 e)
 |.dict _,_,r,_=>nomatch r
theorem aW.same:∀(ds:List PyData){xs:List V},aW K H xs ds->Aj H H'->aW K H' xs ds
 |[],_,r,_=>by cases r;exact .nil
 |d::ds,_,r,e=>by cases r with|cons B h2=>exact .cons (Is.same d B e) (aW.same ds h2 e)
end
mutual
theorem Is.reads:∀(d:PyData){x:V}{u:af},Ad X π σ H s->Is X.K H x d->AH x u->∃as,Reads s.heap u d as
 |.none,_,_,_,r,q=>by cases r;cases q;exact⟨_,.none⟩
 |.bool _,_,_,_,r,q=>by cases r;cases q;exact⟨_,.bool _⟩
 |.int _,_,_,_,r,q=>by cases r;obtain⟨t,rfl⟩:=q;exact⟨_,.int _ _⟩
 |.str _,_,_,_,r,q=>by cases r;obtain⟨t,rfl⟩:=q;exact⟨_,.str _ _⟩
 |.list ds,_,_,I,r,q=>by
  cases r with
  |lst B h2 =>
   cases q;obtain⟨its,D,⟨o,n,e,c,_,d⟩,_⟩:=AG (I.list B);obtain⟨as,J⟩:=aW.reads ds I h2 D;exact⟨_,.list e c d (by simpa using J)⟩
 |.tuple ds,_,_,I,r,q=>by
  cases r with
  |tup B h2 =>
   cases q;obtain⟨its,D,⟨o,e,c,n,d⟩,_⟩:=AG (I.tuple B);obtain⟨as,J⟩:=aW.reads ds I h2 D;exact⟨_,.tuple e c d (by simpa using J)⟩
 |.dict _,_,_,_,r,_=>nomatch r
theorem aW.reads:∀(ds:List PyData){xs:List V}{us:List af},Ad X π σ H s->aW X.K H xs ds->AA xs us->∃as,ReadsAll s.heap us ds as
 |[],_,_,_,r,q=>by cases r;cases q;exact⟨_,.nil⟩
 |d::ds,_,_,I,r,q=>by
  cases r with
  |cons B h2 =>
   cases q with
   |cons D J =>
    obtain⟨as,L⟩:=Is.reads d I B D;obtain⟨bs,O⟩:=aW.reads ds I h2 J;exact⟨_,.cons L O⟩
end
def IP(K:TH)(neg:Bool):R2:=λx y H Q=>∃d d',Is K H x d/\Is K H y d'/\d.canLay0=true/\d'.canLay0=true/\d.depth<=32/\Q (.bl (if neg then !Xm d d' else Xm d d')) H
def Ab4(hu:X.A.units+64<cLine):Bh X (UO .Eq) (IP X.K false):=by intro π s σ H x y v u Q I D J zz;obtain⟨d,B,L,h2,O,V,hd,q⟩:=Il zz;obtain⟨as,Y⟩:=Is.reads d I L D;obtain⟨bs,rb⟩:=Is.reads B I h2 J;exact SeqAt.rcAt_reads Y rb O V (by have:=wO d.depth B.depth;omega) _ _ _ _ ⟨.bl _,H,I,rfl,q⟩
def Ab5(hu:X.A.units+64<cLine):Bh X (UO .NotEq) (IP X.K true):=by intro π s σ H x y v u Q I D J zz;obtain⟨d,B,L,h2,O,V,hd,q⟩:=Il zz;obtain⟨as,Y⟩:=Is.reads d I L D;obtain⟨bs,rb⟩:=Is.reads B I h2 J;exact SeqAt.rcNeAt_reads Y rb O V (by have:=wO d.depth B.depth;omega) _ _ _ _ ⟨.bl _,H,I,rfl,q⟩
end
noncomputable def Ft{α:Type}(cs:List α)(lo hi:Option Int):List α:=(cs.drop (HT.aO cs.length 0 lo)).take (HT.aO cs.length cs.length hi-HT.aO cs.length 0 lo)
noncomputable def DY(z:bf)(lo hi:Option Int):bf:=⟨(Ft z.cps.toList lo hi).toArray⟩
def Pz(z:bf)(lo B:Option Int):(DY z lo B).length<=z.length:=by show((Ft z.cps.toList lo B).toArray).size<=z.cps.size;rw[UB];unfold Ft;rw[VM,wq];simp only[Vm];omega
def PB(n:Nat)(o:Option Int):HT.aO n n o<=n:=HT.rE n n (Ua _) o
def PC(n:Nat)(o:Option Int):HT.aO n 0 o<=n:=HT.rE n 0 (Vc _) o
def Ab6(a b:Nat):X8 (a:Int) (b:Int) 1=(UX<|b-a).map (λk=>a+k):=by
 unfold X8;simp only[show((1:Int) > 0)from by decide,if_true];by_cases B:(a:Int)<b
 .have D:(((b:Int)-a+1-1) / 1).toNat=b-a:=by simp<;>omega
  simp only[B,if_true,D];refine Vr λk _=>?_;omega
 .have:b-a=0:=by omega
  simp[B,this]
def PD(lo D:Option Int)(n:Nat):YG lo D 1 n=(UX<|HT.aO n n D-HT.aO n 0 lo).map (λk=>HT.aO n 0 lo+k):=by
 have B:∀(v:Int)(d:Nat),max (0:Int) (min (if v<0 then v+(n:Int)else v) (n:Int))=((HT.aO n d (some v):Nat):Int):=by
  intro v d;rw[<-HT.aal v n d];by_cases hv:v<0
  .rw[br hv,br hv];omega
  .rw[cZ hv,cZ hv];omega
 rw [<-Ab6];cases lo with
 |none =>
  cases D with
  |none=>rfl
  |some b =>
   show X8 0 (max (0:Int)<|min (if b<0 then b+(n:Int)else b) (n:Int)) 1=_;rw[B b n];rfl
 |some a =>
  cases D with
  |none =>
   show X8 (max (0:Int)<|min (if a<0 then a+(n:Int)else a) (n:Int)) (n:Int) 1=_;rw[B a 0];rfl
  |some b =>
   show X8 (max (0:Int)<|min (if a<0 then a+(n:Int)else a) (n:Int)) (max (0:Int)<|min (if b<0 then b+(n:Int)else b) (n:Int)) 1=_;rw[B a 0,B b n]
def Ab7(z:bf)(lo B:Option Int):(YG lo B 1 z.length).filterMap (z.cps[·]?)=Ft z.cps.toList lo B:=by
 rw [PD];have I:=PB z.length B;have h2:=PC z.length lo;have D:z.cps.toList.length=z.length:=by simp[Xf]
 unfold Ft;rw[D];by_cases hc:HT.aO z.length 0 lo<=HT.aO z.length z.length B
 .have:=PySem.StrLaws.picks z.cps.toList (HT.aO z.length z.length B-HT.aO z.length 0 lo) (HT.aO z.length 0 lo) (by rw[D];omega);simpa using this
 .have e:HT.aO z.length z.length B-HT.aO z.length 0 lo=0:=by omega
  rw [e];simp
def Ab8(z:bf)(lo B:Option Int)(h:(YG lo B 1 z.length).length=z.length):DY z lo B=z:=by
 rw [PD,TN,WH]at h;have L:=PB z.length B;have h2:=PC z.length lo;have D:z.cps.toList.length=z.length:=by simp[Xf]
 unfold DY Ft;rw[D];by_cases O:z.length=0
 .have:z.cps.toList=[]:=ZA.mp (by omega);rw[this];cases z with|mk c=>cases c;simp_all
 .have I:HT.aO z.length 0 lo=0:=by omega
  have J:HT.aO z.length z.length B=z.length:=by omega
  rw [I,J,wR,Nat.sub_zero,ZC<|by omega]
section
variable {X:Cx}
def PF:V->Option Int->Option Int->Hp->VK->Prop:=λx lo hi H Q=>∃z,x=.str z/\z.length<=sizeLine/\Q (.str (DY z lo hi)) H
def Ab9:Gj X PF:=by
 intro π s σ H x v vl D lo B sl Q I J hs pl L h;replace h:=AG h;obtain⟨z,rfl,O,q⟩:=h
 obtain⟨t,rfl⟩:=J;refine⟨"str",_,F.slot_str_getitem.lookup,Yz s z t,?_⟩;obtain⟨l,V,Y⟩:∃l,vl=partValue l/\l.map (·.1)=lo:=by
  cases pl with
  |none=>exact⟨none,rfl,rfl⟩
  |int i t=>exact⟨some (i,t),rfl,rfl⟩
 obtain⟨u,hu,gU⟩:∃u,D=partValue u/\u.map (·.1)=B:=by
  cases L with
  |none=>exact⟨none,rfl,rfl⟩
  |int i t=>exact⟨some (i,t),rfl,rfl⟩
 subst V hu;apply wpAny_getItem_str_slice (l:=l) (u:=u) (st:=none) hs rfl;unfold sliceMade slicePicked;simp only[wU,Zo,Y,gU,beq_self_eq_true,Bool.true_and];by_cases hc:((YG lo B 1 z.length).length == z.length)=true
 .rw[br hc];rw[Ab8 z lo B<|beq_iff_eq.mp hc]at q;exact⟨.str z,H,I,⟨t,rfl⟩,q⟩
 .rw[cZ hc,Ab7];exact⟨U1 (Pz z lo B) O,.str _,H,I.tok _,⟨_,rfl⟩,q⟩
noncomputable def GQ(z:bf)(n:Int):bf:=⟨(T1 n.toNat z.cps.toList).flatten.toArray⟩
def PH:R2:=λx y H Q=>∃z n,x=.str z/\y=.int n/\0<=n/\n<2 ^ 40/\z.length*n.toNat<=sizeLine/\Q (.str (GQ z n)) H
end
end L2
namespace PySem.SeqAt
open AutoSeq1 (wpAny_loadPart')
open MeetsSeq MeetsSeq2 MeetsSeq3 SeqRoads2
end PySem.SeqAt
namespace L2
open PySem PySem.Spec PyProof.Rows
section
variable {X:Cx}
def Aca:Bh X (VC .Mult) PH:=by
 intro π s σ H x y v u Q I V Y zz;obtain⟨z,n,e1,D,h0,hn,hz,q⟩:=Il zz;subst e1 D;obtain⟨t,rfl⟩:=V;obtain⟨t',rfl⟩:=Y;have fold:∀(k:Nat)(B:List Nat),((T1 k z.cps).foldl (·++·) B.toArray)=(B++(T1 k z.cps.toList).flatten).toArray:=by
  intro k;induction k with
  |zero=>intro B;simp
  |succ k ih =>
   intro B;rw[WE,wC,WE,XB];have e:B.toArray++z.cps=(B++z.cps.toList).toArray:=by simp
   rw [e,ih,Uk]
 have O:=fold n.toNat [];simp only[YC]at O;have len:(GQ z n).length=z.length*n.toNat:=by show(List.flatten _).toArray.size=_;rw[UB,List.length_flatten,Ya,List.sum_replicate_nat];simp[Xf,Nat.mul_comm]
 have sl:sizeLine<=2 ^ 40:=by rw[TZ];decide
 refine P.mul_str (by simp;omega) (λJ _=>?_) (λ_ _=>?_) ?_
 .have L:0<n:=by omega
  have:((z.length:Int))<=(2 ^ 63-1) / n:=by
   rw [Int.le_ediv_iff_mul_le L];have:((z.length*n.toNat:Nat):Int)<=2 ^ 40:=by omega
   rw [Int.natCast_mul,Int.toNat_of_nonneg h0]at this;omega
  omega
 .unfold Builtin.Str.tooLong;rw[decide_eq_false_iff_not];omega
 .by_cases J:n<1
  .have e:n=0:=by omega
   subst e;rw[br J];have D:GQ z 0=Uw:=rfl;rw[D]at q;exact⟨by decide,.str _,H,I.tok _,⟨_,rfl⟩,q⟩
  .rw[cZ J];by_cases h2:(n == 1 || z.length == 0)=true
   .rw[br h2];have D:GQ z n=z:=by
     rcases Bool.or_eq_true_iff.mp h2 with h|h
     .have e:n=1:=beq_iff_eq.mp h;subst e;show(⟨(T1 1 z.cps.toList).flatten.toArray⟩:bf)=z;simp
     .have e:z.length=0:=beq_iff_eq.mp h;have e':z.cps.toList=[]:=ZA.mp (by simpa [Xf]using e);unfold GQ;rw[e'];cases z with|mk c=>cases c;simp_all
    rw [D]at q;exact⟨.str _,H,I,⟨_,rfl⟩,q⟩
   .rw[cZ h2];have D:(⟨(T1 n.toNat z.cps).foldl (·++·) #[]⟩:bf)=GQ z n:=by
     unfold GQ;rw[<-O]
    rw [D];exact⟨by rwa[len],.str _,H,I.tok _,⟨_,rfl⟩,q⟩
def Hz(z:bf):It:=⟨λi _=>i<z.cps.size,λi H x H'=>H'=H/\∃c,z.cps.toList[i]?=some c/\x=.str ⟨#[c]⟩,λi _=>z.cps.size<=i⟩
theorem Acb{P:TR}{w:TL}{K:TH}{tg:TM}(z:bf)(t:Tok)(it:ar):Ge P w K tg (Hz z) [it] it (λi h=>h.IsStrIter it "str_ascii_iterator" z t i) where
 mem:=by simp
 obj:=λi h st b hb=>by
  have e:b=it:=by simpa using hb
  subst e;obtain⟨o,e,c,d⟩:=AG st;exact⟨o,e,λv z=>by rw[d]at z;cases z⟩
 keep:=λi h B ⟨o,e,r⟩ k=>⟨o,k it (by simp) o e,r⟩
 item:=by intro X J hw L hc i π s σ H E I D st O;subst J hw L;obtain⟨V,f1,f2,Y,f4,f5⟩:=AU (D it (by simp));have hx:z.cps[i]?=some z.cps[i]:=WI O;refine wpAny_pyNext_ascii_item st hx λB bu sb=>?_;have I1:Ad X π σ H { s with heap:=B,toks:=s.toks+1 }:=I.turned (t':=s.toks+1) (λb o hb e=>(sb.2 b hb).trans e) V f1 Y f4 f5;obtain⟨o,e,c,d⟩:=AG (id bu);exact⟨_,rfl,JT (s:={ s with heap:=B,toks:=s.toks+1 }) e c d (by decide) ⟨.str _,H,I1,⟨_,rfl⟩,⟨rfl,z.cps[i],by rw[YB];exact hx,rfl⟩,bu,λb hb=>(D b hb).1⟩⟩
 done:=by intro X J hw L hc i π s σ H E I D st O;subst J hw L;obtain⟨V,f1,f2,Y,f4,f5⟩:=AU (D it (by simp));exact wpAny_pyNext_ascii_end (I.ok.hd hc) st (Array.getElem?_eq_none O) λB eb=>⟨rfl,I.turned (t':=s.toks) (λb o hb e=>eb b o hb e) V f1 Y f4 f5⟩
 self:=λ_ _ _ _ _ st h=>wpAny_pyIter_striter_ascii st h
def Acd(tl:TE):TI:=λσ H R=>tl σ H λx H1=>∃z,x=.str z/\z.cps.all (·<128)=true/\R (Hz z) H1
def PK (V:PE X l tl):PI X O l (Acd tl):=by
 intro π s σ H R I h;refine Ar (V π s σ H _ I h) λv B Y=>AF Y λx L D r1 J=>?_;replace J:=AG J;obtain⟨z,rfl,ha,q⟩:=J
 obtain⟨t,rfl⟩:=r1;apply wpAny_pyIter_ascii ha;have I2:Ad X π σ L { B with heap:=B.heap.push { cls:=.type "str_ascii_iterator",data:=.fields #[.str z t,.int 0 0] } }:=D.kept (t':=B.toks) λb ob q=>Ut _ q;exact⟨_,[B.heap.objs.size],_,Hz z,L,rfl,I2,Acb z t _,⟨_,UT _ rfl,rfl,rfl⟩,λb hb=>by
  have e:b=B.heap.objs.size:=by simpa using hb
  subst e;exact D.d5 (Ua _)<|D.ai.fresh (Ua _),q⟩
def PL (Pv:Nat->St->Hp->Prop)(B:Pv 0 σ H)(hs:∀i c σ H,z.cps.toList[i]?=some c->Pv i σ H->g (.str ⟨#[c]⟩) σ H (T<|Pv (i+1)))(hd:∀σ H,Pv z.cps.toList.length σ H->Q σ H):CW (Hz z) g T σ H Q :=
 GK z.cps.size Pv B (λi σ H D p=>⟨D,λx J y=>by obtain⟨e,c,hc,I⟩:=y;subst e I;exact hs i c σ _ hc p⟩) λσ H p=>⟨Ua _,hd σ H<|by simpa using p⟩
def Ace{z:bf}{g:TG}{I:TS}{D:D9}{σ:St}{H:Hp}(Pv:Nat->St->Hp->Prop)(J:Pv 0 σ H)(hs:∀i c σ H,z.cps.toList[i]?=some c->Pv i σ H->g (.str ⟨#[c]⟩) σ H λσ2 B=>I { D with nx:=Pv<|i+1,ct:=Pv<|i+1,bk:=D.nx } σ2 B)(hd:∀σ H,Pv z.cps.toList.length σ H->D.nx σ H):CW (Hz z) g (λN σ2 B=>I { D with nx:=N,ct:=N,bk:=D.nx } σ2 B) σ H D.nx :=
 PL Pv J hs hd
def Acf:B0 X (.type "int") (λxs H Q=>∃z n,xs=[.str z]/\Yb z=some n/\z.length<=640/\Q (.int n) H):=by intro π s σ H xs us Q I r zz;obtain⟨z,n,e,B,D,q⟩:=BA zz;subst e;obtain⟨u,rfl,t,rfl⟩:=As r.one;exact PySem.W.KIN.call_text B D ⟨.int n,H,I.tok _,⟨_,rfl⟩,q⟩
inductive IQ(K:TH)(H:Hp):V->af->Prop where
 |of {x:V} {t:af} (h:Eb K H x t):IQ K H x t
 |exc {a C:ar} (e:H a=some (ET a (.ref C))) (c:Fq K C):IQ K H (.ref a) (.ref C)
def Acg{π:List (ar×Obj)}{σ:St}{H:Hp}{s:TK}{A:Ud}{E:af->TK->Prop}{Q:af->TK->Prop}{c:af}{b:Bool}{x:V}{u t:af}(I:Ad X π σ H s)(B:AH x u)(ty:IQ X.K H x t)(e:Vq X.K t c=some b)(h:∀tk,Q (.bool b) { s with toks:=tk }) :
  TQ (TV X.prog X.w) A (call (.builtin "isinstance") [u,c]) Q E s:=by
 cases ty with
 |of ty=>exact Abb I B ty e h
 |@exc a C D J =>
  cases(show u=T8 a from B);obtain⟨p,_⟩:=(show Bs X.prog X.w H s.heap a (ET a<|.ref C)from I.ai a _ D);exact VL (Py J) I.aN p e (λz=>nomatch z) h
noncomputable def GR:V->Option af
 |.ref a=>some (.ref a)
 |.ty n=>some (.type n)
 |_=>none
def PM (e:GR c=some v)(r:AH c u):u=v:=by cases c<;>simp only[GR]at e<;>first|(cases e;done)|(cases e;exact r)
def Ach:B0 X (.builtin "isinstance") (λxs H Q=>∃x c t v b,xs=[x,c]/\IQ X.K H x t/\GR c=some v/\Vq X.K t v=some b/\Q (.bl b) H):=by intro π s σ H xs us Q I r zz;obtain⟨x,c,t,v,b,e,ty,hc,hk,q⟩:=Ot zz;subst e;obtain⟨u,w,rfl,B,D⟩:=BA r.two;cases PM hc D;exact Acg I B ty hk λJ=>⟨.bl b,H,I.tok _,rfl,q⟩
theorem PN:∀{B:List V}{us vs:List af},B.mapM GR=some vs->AA B us->us=vs
 |[],_,vs,e,r=>by cases r;simp at e;exact e.symm
 |c::B,_,vs,e,r=>by
  cases r with
  |cons I J =>
   simp only[List.mapM_cons,Option.bind_eq_bind,Option.bind_eq_some_iff,Option.pure_def,Option.some.injEq]at e;replace e:=As e;obtain⟨v,hv,L,D,rfl⟩:=e
   rw [PM hv I,PN D J]
def Aci:B0 X (.builtin "isinstance") (λxs H Q=>∃a C p B vs b,xs=[.ref a,.ref p]/\H a=some (ET a<|.ref C)/\Fq X.K C/\H p=some (.tup B)/\B.mapM GR=some vs/\XC X.K (.ref C) vs=some b/\Q (.bl b) H):=by intro π s σ H xs us Q I r zz;obtain⟨a,C,p,B,vs,b,e,L,O,V,hc,hk,q⟩:=zz;subst e;obtain⟨u,w,rfl,Y,bo⟩:=BA r.two;cases(show u=T8 a from Y);cases(show w=T8 p from bo);obtain⟨p1,_⟩:=(show Bs X.prog X.w H s.heap a (ET a<|.ref C)from I.ai a _ L);obtain⟨_,its,rv,⟨cls,dd,data,sl⟩,e1,D,n,J⟩:=(show Bs X.prog X.w H s.heap p (.tup B)from I.ai p _ V);simp only at D J;subst D J;cases PN hc rv;exact PySem.W.kia_tup (Py O) I.aN p1 e1 hk (λz=>nomatch z) λtk=>⟨.bl b,H,I.tok _,rfl,q⟩
def IS (V:PE X e J):PE X (.FormattedValue e 114 none pos) (λσ H Q=>J σ H λx B=>∃z,x=.str z/\(ZD z).length<=sizeLine/\Q (.str<|ZD z) B):=by
 intro π s σ H Q I h;refine wpAny_FormattedValue_repr<|Ar (V π s σ H _ I h) λv s1 Y=>AF Y λx B L r1 D=>?_;replace D:=AG D;obtain⟨z,rfl,O,q⟩:=D
 obtain⟨t,rfl⟩:=r1;refine wpAny_pyReprObj_gives (Yz _ _ _) F.slot_str_repr F.entry_str_repr (F.args_str_repr_1 _) (gives_str_repr z t) ?_ rfl O;exact wV ⟨.str _,B,L.tok _,⟨_,rfl⟩,q⟩ ⟨.str _,B,L.tok _,⟨_,rfl⟩,q⟩ O
abbrev TJ:=bf->St->Hp->(bf->Hp->Prop)->Prop
def PJ(X:Cx)(es:List TM)(t:TJ):Prop:=∀(acc:bf)(π:List (ar×Obj))(s:TK)(σ:St)(H:Hp)(Q:bf->Hp->Prop),Ad X π σ H s->t acc σ H Q ->
 Joins (TV X.prog X.w) X.A X.xe (evalEach es X.env) acc (λout s₁=>∃H',Ad X π σ H' s₁/\Q out H') s
def GS:PJ X [] (λB _ H Q=>Q B H):=λ_ _ _ _ H _ I h=>⟨H,I,h⟩
def CT (V:PE X e L)(hs:PJ X es O)(Y:evalEach (e::es) X.env=T7 e X.env::evalEach es X.env:=by rfl):
  PJ X (e::es) (λB σ H Q=>L σ H λx D=>∃y,x=.str y/\(B++y).length<=sizeLine/\O (B++y) σ D Q):=by
 intro B π s σ H Q I h;rw[Y];refine Ar (V π s σ H _ I h) λv s1 zz=>AF zz λx D I1 r1 J=>?_;replace J:=AG J;obtain⟨y,rfl,hz,q⟩:=J
 obtain⟨t,rfl⟩:=r1;exact⟨y,t,rfl,hz,hs _ π s1 σ D Q I1 q⟩
theorem Joins.imp (hq:∀x s,Q x s->D x s):∀{l:List (Sem af)}{B:bf}{s:TK},Joins M A E l B Q s->Joins M A E l B D s
 |[],_,_,h=>hq _ _ h
 |x::rest,B,s,h=>Ar (t:=x) h λv L I=>AF I λy t e J r=>⟨y,t,e,J,Joins.imp hq r⟩
def GU (h:PJ X (e::D::es) J):PE X (.JoinedStr (e::D::es) pos) (λσ H Q=>J Uw σ H λout B=>out.length<=sizeLine/\Q (.str out) B):=by intro π s σ H Q I hw;refine wpAny_JoinedStr<|Joins.imp (λout V zz=>?_) (h Uw π s σ H _ I hw);obtain⟨B,L,O,q⟩:=AG zz;exact⟨O,.str out,B,L.tok _,⟨_,rfl⟩,q⟩
end
section
variable {P:TR}{w:TL}{K:TH}{mg:bf->Option af}{base:Heap}
def AI.aY{x B:bf}{st:Stmt}{f:ar}{I:T3}{N ps:List bf}{k:Nat}{sp:Sp}(F:AI K x B st f I)(S:EN N ps (Ae st))(J:∀(D:af) (A:Ud) (outer:List Env) (s:TK) (H:Hp) (vs:List V) (Q:VK) (E:XK),By k (A.deeper<|V9 B (Ae st) s.heap.objs.size f D)->sp vs H Q E ->
   ∃t,Di (Dx (AJ P w) P w K mg base N B (Ae st) f D A outer s H E) (DV st) t/\t { nx:=λ_ L=>Q .aa L,rt:=Q } (start N vs) H)(len:∀vs H Q E,sp vs H Q E->vs.length=ps.length:=by intro _ _ _ _ h;repeat (first|exact congrArg XX h.1|obtain⟨_,h⟩:=h)):AB P w K mg base (AJ P w) (k+1) f I ps sp:=by
 obtain⟨oc,od,kV,O,pm,an,D,ct,d8,rfl,lk,Y⟩:=Lu F.ex;exact Pb lk Y S len λA outer s H vs Q E hr dE=>J D A outer s H vs Q E hr dE
def Bt(P:TR)(w:TL)(K:TH)(mg:bf->Option af)(base:Heap)(CX:Cj)(k:Nat)(x:bf)(ps:List bf)(sp:Sp):Prop :=
 ∃f fd,mg x=some (.ref f)/\U8 K (.ref f)=true/\DO K fd ps []/\AB P w K mg base CX k f fd ps sp
end
section
variable {X:Cx}{CX:Cj}{k:Nat}{x:bf}{ps:List bf}{sp:Sp}{p pos:Pos}{e:TM}{es:List TM}{t:TA}
def Acj (D:Bt X.prog X.w X.K X.mg X.base CX k x ps sp)(B:By k X.A)(hx:Dr CX X E)(I:PA X (e::es) t)(J:Gl X x:=by rfl)(L:(x == ("__debug__":bf))=false:=by decide)(O:T5 (e::es) X.env=(false,T7 e X.env)::T5 es X.env:=by rfl)(V:(UA pos<|T5 es X.env).any (·.1)=false:=by rfl):
  PE X (.Call (.Name x p) (e::es) [] pos) (J2 sp [] E t):=by
 obtain⟨f,fd,Y,h2,h3,h4⟩:=BA D;exact Abi h4 B J Y h2 h3 .nil hx I L O V
def Gn:Dr (AJ P w) X E0:=λ_ _ _ _ _ _ _ h=>by
 obtain⟨_,_,_,_,_,_,_,_,_,_,_,_,_,z⟩:=Io h;exact z.elim
end
section
variable {X:Cx}
def B5:Bh X (VC .Add) (λx y H Q=>(∃i j,x=.int i/\y=.int j/\Q (.int<|i+j) H)\/(∃i j,x=.str i/\y=.str j/\i.length+j.length<=sizeLine/\Q (.str<|i++j) H)\/Pp x y H Q):=AaN.or<|AaY.or AbN
def B9:Bh X (VC .Mult) (λx y H Q=>(∃i j,x=.int i/\y=.int j/\ID i j/\Q (.int<|i*j) H)\/PH x y H Q\/Pq x y H Q):=AaO.or<|Aca.or AbP
def B2(hu:X.A.units+64<cLine):Bh X (UO .Eq) (λx y H Q=>OO x y H Q\/IP X.K false x y H Q):=AaQ.or<|Ab4 hu
def Ez(hu:X.A.units+64<cLine):Bh X (UO .NotEq) (λx y H Q=>LG x y H Q\/IP X.K true x y H Q):=AaR.or<|Ab5 hu
noncomputable def HB(i j:bf):Bool:=!(Za j i 0 j.length 1).isEmpty
def Gp:Bh X (UO .In) (λx y H Q=>(∃i j,x=.str i/\y=.str j/\Q (.bl<|HB i j) H)\/IL X.K false x y H Q):=AaT.or AbD
def Kb:Bh X (UO .NotIn) (λx y H Q=>(∃i j,x=.str i/\y=.str j/\Q (.bl<|!HB i j) H)\/IL X.K true x y H Q):=AbF.or AbE
def BQ:B0 X (.builtin "len") (λxs H Q=>(∃z,xs=[.str z]/\z.length<=sizeLine/\Q (.int z.length) H)\/∃p ys,xs=[.ref p]/\(A3 X.K H p ys\/Bw X.K H p ys)/\Q (.int ys.length) H):=AbH.or AbG
def Gq:B0 X (.builtin "isinstance") (λxs H Q=>(∃x c t v b,xs=[x,c]/\IQ X.K H x t/\GR c=some v/\Vq X.K t v=some b/\Q (.bl b) H) \/
 ∃a C p B vs b,xs=[.ref a,.ref p]/\H a=some (ET a<|.ref C)/\Fq X.K C/\H p=some (.tup B)/\B.mapM GR=some vs/\XC X.K (.ref C) vs=some b/\Q (.bl b) H):=Ach.or Aci
def Ack:B0 X (.type "int") (λxs H Q=>∃z n,xs=[.str z]/\Yb z=some n/\z.length<=640/\Q (.int n) H):=Acf
def IT:Gj X (λx lo B H Q=>PF x lo B H Q\/Pj X.K x lo B H Q):=Ab9.or AbB
end
def GV{α:Type}{xs:List α}{k:Int}(D:0<=k)(h:k<xs.length):∃v,Cb xs k=some v/\xs[k.toNat]?=some v:=by
 have B:k.toNat<xs.length:=by omega
 refine⟨xs[k.toNat],?_,Uh B⟩;unfold Cb CP;rw[br D,br h];exact Uh B
def HF{ns:List Int}{k:Int}(I:0<=k)(h:k<ns.length):Cb (ns.map V.int) k=some (.int<|ns.getD k.toNat 0):=by
 obtain⟨v,J,B⟩:=As<|GV (xs:=ns.map V.int) I (by simpa using h);have D:k.toNat<ns.length:=by omega
 rw [T6,Uh D]at B;cases B;rw[J];simp[Ux,Uh D]
def Aj.upd (s:Aj H B)(h:B p=none):Aj H (upd B p o):=λb I e=>by
 have D:=s b I e;rwa[Aw<|Ce D h]
def Aj.bI (s:Aj H B)(h:H p=none):Aj H (L2.upd B p o):=λb D e=>by
 rw [Aw<|Ce e h];exact s b D e
structure BI(H H':Hp)(l:ar)(o:HO):Prop where
 n:H l=none
 e:H'=upd H l o
def BI.get (n:BI H B l o):B l=some o:=by rw[n.e];exact Aq
def BI.same (n:BI H B l o):Aj H B:=by rw[n.e];exact(Aj.refl H).upd n.n
def Acl(t:TA):TE:=λσ H Q=>t σ H λxs H1=>xs.length<=sizeLine/\∀p H2,BI H1 H2 p (.tup xs)->Q (.ref p) H2
def Acm(t:TA):TE:=λσ H Q=>t σ H λxs H1=>xs.length<=sizeLine/\∀p H2,BI H1 H2 p (.lst xs)->Q (.ref p) H2
variable {X:Cx}{es:List TM}{t:TA}{pos:Pos}
def Bm (h:PA X es t):PE X (.Tuple es x1 pos) (Acl t):=by intro π s σ H Q I hq;refine wg<|Ar (h pos π s σ H _ I hq) λus B L=>FG L λO D J r z q=>⟨by rwa[<-r.length],?_⟩;have V:D B.heap.objs.size=none:=J.ai.fresh<|Ua _;refine⟨.ref B.heap.objs.size,upd D B.heap.objs.size<|.tup O,J.laid (t':=B.toks) (λb u e=>Ut _ e) (Ua _) ?_,rfl,q _ _ ⟨V,rfl⟩⟩;exact⟨z,us,r,⟨_,UT _ rfl,rfl,_,rfl⟩⟩
def Bb(h:PA X es t):PE X (.List es pos) (Acm t):=by intro π s σ H Q I hq;refine wj<|Ar (h pos π s σ H _ I hq) λus B L=>FG L λO D J r z q=>⟨by rwa[<-r.length],?_⟩;have V:D B.heap.objs.size=none:=J.ai.fresh<|Ua _;refine⟨.ref B.heap.objs.size,upd D B.heap.objs.size<|.lst O,J.laid (t':=B.toks) (λb u e=>Ut _ e) (Ua _) ?_,rfl,q _ _ ⟨V,rfl⟩⟩;exact⟨z,us,0,r,UT _ rfl⟩
end L2
namespace L2
open PySem PySem.Spec PyProof.Rows
structure Nm(sc:Scope)(x:bf):Prop where
 loc:sc.names.lookup x=some .local
 db:(x == ("__debug__":bf))=false
 cd:(x == ("__classdict__":bf))=false
structure Gm(sc:Scope)(x:bf):Prop where
 gl:sc.names.lookup x=some .globalImplicit
 db:(x == ("__debug__":bf))=false
 nn:x≠"__name__"
def Nm.of{sc:Scope}{x:bf}(a:sc.names.lookup x=some .local:=by decide +kernel)(b:(x == ("__debug__":bf))=false:=by decide +kernel)(c:(x == ("__classdict__":bf))=false:=by decide +kernel):Nm sc x:=⟨a,b,c⟩
def Gm.of{sc:Scope}{x:bf}(a:sc.names.lookup x=some .globalImplicit:=by decide +kernel)(b:(x == ("__debug__":bf))=false:=by decide +kernel)(c:x≠"__name__":=by decide +kernel):Gm sc x:=⟨a,b,c⟩
def EN.of{N P:List bf}{sc:Scope}(a:sc.kind=.function:=by rfl)(b:sc.isCoroutine=false:=by rfl)(c:sc.isGenerator=false:=by rfl)(d:N.Nodup:=by decide +kernel)(e:N.take P.length=P:=by rfl)(f:∀x∈P,sc.names.lookup x=some .local\/sc.names.lookup x=some .cell:=by decide +kernel)(g:∀y∈sc.names,y.2≠.free:=by decide +kernel):EN N P sc:=⟨a,b,c,d,e,f,g⟩
structure AM(N P:List bf)(sc:Scope):Prop where
 fs:EN N P sc
 nm:∀x∈N,Nm sc x
def AM.of{N P:List bf}{sc:Scope}(a:sc.kind=.function:=by rfl)(b:sc.isCoroutine=false:=by rfl)(c:sc.isGenerator=false:=by rfl)(d:N.Nodup:=by decide +kernel)(e:N.take P.length=P:=by rfl)(f:∀y∈sc.names,y.2≠.free:=by decide +kernel)(g:(N.all λx=>decide (sc.names.lookup x=some .local) && (!(x == ("__debug__":bf)) && !(x == ("__classdict__":bf))))=true:=by decide +kernel):AM N P sc:=by
 have nm:∀x∈N,Nm sc x:=λx hx=>by
  have:=VN.mp g x hx;simp only[VD,decide_eq_true_eq,wG]at this;exact⟨this.1,this.2.1,this.2.2⟩
 exact⟨⟨a,b,c,d,e,λx hx=>.inl (nm x<|wW (e▸hx)).loc,f⟩,nm⟩
def AM.n (S:AM N P sc)(i:Nat)(h:N[i]?=some x):Nm sc x:=S.nm x<|Ug h
def BJ:UY "len"=some (.builtin "len"):=by decide +kernel
def Gs:UY "isinstance"=some (.builtin "isinstance"):=by decide +kernel
def IU:UY "int"=some (.type "int"):=by decide +kernel
def Acn:UY "bool"=some (.type "bool"):=by decide +kernel
def PQ:UY "str"=some (.type "str"):=by decide +kernel
def EA:UY "list"=some (.type "list"):=by decide +kernel
def Kc:UY "tuple"=some (.type "tuple"):=by decide +kernel
def Aco:UY "set"=some (.type "set"):=by decide +kernel
def Acp:UY "ValueError"=some (.type "ValueError"):=by decide +kernel
def IV:UY "sorted"=some (.builtin "sorted"):=by decide +kernel
def Acq:UY "all"=some (.builtin "all"):=by decide +kernel
section
variable {X:Cx}{x:bf}{pos p:Pos}
def Az(i:Nat)(n:Nm X.env.scope x)(B:X.N[i]?=some x:=by rfl):PE X (.Name x pos) (Iq i):=Ly B (T2 n.loc) n.db n.cd
def Dc(i:Nat)(B:X.N.Nodup)(n:Nm X.env.scope x)(D:X.N[i]?=some x:=by rfl):PG X (.Name x pos) (Fh i):=Aav B D (T2 n.loc)<|TY n.loc
def DB(i:Nat){e:TM}{D:TE}{B:Pos}(I:X.N.Nodup)(n:Nm X.env.scope x)(J:PE X e D)(L:X.N[i]?=some x:=by rfl)(hs:Wf e (some<|.Name x B) pos.line X.env=pure false:=by rfl) :
  PS X (.Assign [.Name x B] e pos) (Gd D<|Fh i):=OB I L (T2 n.loc) J hs<|TY n.loc
def Aa (i:Nat)(S:AM X.N P X.env.scope)(B:X.N[i]?=some x:=by rfl):PE X (.Name x pos) (Iq i):=Az i (S.n i B) B
def BR (i:Nat)(S:AM X.N P X.env.scope)(B:X.N[i]?=some x:=by rfl):PG X (.Name x pos) (Fh i):=Dc i S.fs.nd (S.n i B) B
def A4(i:Nat){P:List bf}{e:TM}{D:TE}{B:Pos}(S:AM X.N P X.env.scope)(J:PE X e D)(I:X.N[i]?=some x:=by rfl)(hs:Wf e (some<|.Name x B) pos.line X.env=pure false:=by rfl) :
  PS X (.Assign [.Name x B] e pos) (Gd D<|Fh i):=DB i S.fs.nd (S.n i I) J I hs
def DZ (g:Gm X.env.scope x)(B:X.mg x=some u)(r:AH v u):PE X (.Name x pos) (tC v):=Aak g.gl B r g.db
def Kd (g:Gm X.env.scope x)(B:X.mg x=none)(hv:UY x=some u)(r:AH v u):PE X (.Name x pos) (tC v):=Aal g.gl B hv r g.nn g.db
variable {e:TM}{es:List TM}{t:TA}{id T:String}{r:List V->Hp->VK->Prop}
def Bc(hc:B0 X (.builtin id) r)(g:Gm X.env.scope x)(B:X.mg x=none)(hv:UY x=some (.builtin id))(D:PA X (e::es) t)(I:T5 (e::es) X.env=(false,T7 e X.env)::T5 es X.env:=by rfl)(J:(UA pos<|T5 es X.env).any (·.1)=false:=by rfl):PE X (.Call (.Name x p) (e::es) [] pos) (J4 r t):=Abo hc g.gl B hv D g.nn g.db I J
def Cs(hc:B0 X (.type T) r)(g:Gm X.env.scope x)(B:X.mg x=none)(hv:UY x=some (.type T))(D:PA X (e::es) t)(I:T5 (e::es) X.env=(false,T7 e X.env)::T5 es X.env:=by rfl)(J:(UA pos<|T5 es X.env).any (·.1)=false:=by rfl):PE X (.Call (.Name x p) (e::es) [] pos) (J4 r t):=Abp hc g.gl B hv D g.nn g.db I J
def Bf (D:Bt X.prog X.w X.K X.mg X.base CX k x ps sp)(g:Gm X.env.scope x)(B:By k X.A)(hx:Dr CX X E)(I:PA X (e::es) t)(J:T5 (e::es) X.env=(false,T7 e X.env)::T5 es X.env:=by rfl)(L:(UA pos<|T5 es X.env).any (·.1)=false:=by rfl):
  PE X (.Call (.Name x p) (e::es) [] pos) (J2 sp [] E t):=Acj D B hx I g.gl g.db J L
def HH (g:Gm X.env.scope "range")(I:X.mg "range"=none)(J:PA X [b] B)(hs:T5 [b] X.env=[(false,T7 b X.env)]:=by rfl):PI X D (.Call (.Name "range" p) [b] [] pos) (OH B):=AaG g.gl I J hs
def DC{W:St->XK}{C:ar}{D B:Pos}(I:LN X W)(g:Gm X.env.scope x)(hc:X.calm=true)(q:Vy X.K C [.type "ValueError",.type "Exception",.type "BaseException",.type "object"] "ValueError.__new__"=true)(J:X.mg x=some (.ref C))(L:PA X (e::es) t)(O:T5 (e::es) X.env=(false,T7 e X.env)::T5 es X.env:=by rfl)(Y:(UA B<|T5 es X.env).any (·.1)=false:=by rfl) :
  PS X (.Raise (some<|.Call (.Name x D) (e::es) [] B) none pos) (Pw W C t):=AbW I hc q J L g.gl g.db O Y
def Acr{body D:List Stmt}{I:Stmt}{n:bf}{Y i6:Pos}(i:Nat){J:ar}{L:(af->TK->Prop)->List (ar×Obj)->(St->XK)->TS}{ts:ar->TS}(g:Gm X.env.scope x)(nm:Nm X.env.scope n)(hm:X.mg x=some (.ref J))(nd:X.N.Nodup)(hb:∀B π W,Ka (AJ X.prog X.w) (X.tr B π) W->Yr (TV X.prog X.w) X.A X.env B->Di (X.tr B π) body (L B π W))(hs:∀O,Di (X.su O) (I::D)<|ts O)(hi:X.N[i]?=some n:=by rfl)(hex:X.ex=[]:=by rfl)(aH:X.stack=X.env::X.outer:=by rfl)(mG:X.env.frame=some X.env.locals:=by rfl) :
  PS X (.Try body [.ExceptHandler (some<|.Name x Y) (some n) (I::D) i6] [] [] pos) (Px X.K J i L ts):=AbX hex aH mG hm nd hi hb hs g.gl nm.loc g.db
end
noncomputable def IW:TM->Option V
 |.Constant (.int i) _ _=>some (.int i)
 |.Constant (.str x) _ _=>some (.str x)
 |.Constant (.bool b) _ _=>some (.bl b)
 |.Constant .none _ _=>some .aa
 |_=>none
noncomputable def LP:List TM->Option (List V)
 |[]=>some []
 |e::es=>match IW e,LP es with
  |some v,some vs=>some (v::vs)
  |_,_=>none
section
variable {X:Cx}
def Acs (h:IW e=some v):PE X e (tC v):=by unfold IW at h;split at h<;>first|(cases h;first|exact Am|exact Ag|exact EK|exact Cq)|cases h
def Acu (h:IW e=some v)(es:List TM):T5 (e::es) X.env=(false,T7 e X.env)::T5 es X.env:=by unfold IW at h;split at h<;>first|rfl|cases h
theorem Ke:∀{es:List TM}{vs:List V},LP es=some vs->PA X es (λ_ H Q=>Q vs H)
 |[],vs,h=>by
  cases h;exact Ac
 |e::es,vs,h=>by
  unfold LP at h;split at h
  .rename_i v vs' h1 h2
   cases h;exact Ab (Acs h1) (Ke h2) (Acu h1 es)
  .cases h
end
theorem Kf{env:Env}{x:bf}:∀{ns:List (bf×Wx)},(ns.map λ(n,k)=>if (k == WJ && env.scope.kind == .function && env.kindOf n == some .cell) then(n,NameKind.cell) else(n,k)).lookup x
   =(ns.lookup x).map λk=>if (k == WJ && env.scope.kind == .function && env.kindOf x == some .cell)then NameKind.cell else k
 |[]=>rfl
 | (n,k)::r=>by
  have ih:=@Kf env x r;rw[UR];cases q:x == n with
  |true =>
   have e:x=n:=beq_iff_eq.mp q;subst e;rw[WK,WK,q];by_cases hc:(k == WJ && env.scope.kind == .function && env.kindOf x == some .cell)=true
   .simp only[hc,if_true,q,Vj]
   .simp only[hc,if_false,q,Vj,XD]
  |false =>
   rw [WK,WK,q];by_cases hc:(k == WJ && env.scope.kind == .function && env.kindOf n == some .cell)=true
   .simp only[hc,if_true,q];exact ih
   .simp only[hc,if_false,q,XD];exact ih
def PR (h:sc.names.lookup x=some .free):(VZ sc env).names.lookup x=some .cell\/(VZ sc env).names.lookup x=some .free:=by
 have e:(VZ sc env).names.lookup x=_:=Kf;rw[h]at e;rw[e,Vj];by_cases hc:(WJ == WJ && env.scope.kind == .function && env.kindOf x == some .cell)=true
 .rw[br hc];exact .inl rfl
 .rw[cZ hc];exact .inr rfl
def PU (h:sc.names.lookup x=some k)(hk:(k == WJ)=false):(VZ sc env).names.lookup x=some k:=by have e:(VZ sc env).names.lookup x=_:=Kf;rwa[h,Vj,hk]at e
def Acv (B:∀y∈sc.names,y.2≠.cell)(h:(VZ sc env).names.lookup x=some .cell\/(VZ sc env).names.lookup x=some .free):sc.names.lookup x=some .free:=by
 have e:(VZ sc env).names.lookup x=_:=Kf;cases q:sc.names.lookup x with
 |none=>rw[q]at e;rw[e]at h;rcases h with z|z<;>cases z
 |some k =>
  rw [q,Vj]at e;cases k with
  |free=>rfl
  |cell=>exact absurd rfl<|B _ (WB q)
  |_=>rw[e]at h;rcases h with z|z<;>cases z
theorem LQ:∀(ns:List (bf×Wx))(B:List (bf×ar)),(∀y∈ns,y.2=.free->∃c,env.cells.lookup y.1=some c)->(∀x c,B.lookup x=some c->env.cells.lookup x=some c) ->
  ∃D,(forIn ns B λ(x:bf×Wx) (r:List (bf×ar))=>if (x.2 == .free)=true then do let c <-cellOf env x.1;pure (YH ((x.1,c)::r))else pure (YH r):Sem (List (bf×ar)))=pure D /\
   (∀x c,D.lookup x=some c->env.cells.lookup x=some c)/\(∀y∈ns,y.2=.free->∃c,D.lookup y.1=some c)/\∀x c,B.lookup x=some c->∃I,D.lookup x=some I
 |[],B,_,h2=>⟨B,rfl,h2,λy hy=>by simp at hy,λx c e=>⟨c,e⟩⟩
 | (n,k)::r,B,h1,h2=>by
  rw [List.forIn_cons];by_cases hk:k=.free
  .subst hk;obtain⟨c,hc⟩:=h1 (n,.free) UI rfl;have hc:env.cells.lookup n=some c:=hc;obtain⟨D,e,O,V,J⟩:=LQ r ((n,c)::B) (λy hy=>h1 y (Uy _ hy)) (λx I e=>by
    rw [WK]at e;cases q:x == n with
    |true=>rw[q]at e;cases e;rw[beq_iff_eq.mp q];exact hc
    |false=>rw[q]at e;exact h2 x I e)
   refine⟨D,?_,O,λy hy L=>?_,λx I e=>?_⟩
   .have:cellOf env n=pure c:=by unfold cellOf;rw[hc]
    simp only[beq_self_eq_true,if_true,this,pure_bind];exact e
   .rcases T9.mp hy with z|z
    .subst z;exact J n c (by rw[WK,beq_self_eq_true])
    .exact V y z L
   .cases q:x == n with
    |true=>exact J x c (by rw[WK,q])
    |false=>exact J x I (by rw[WK,q];exact e)
  .have hb:(k == WJ)=false:=beq_eq_false_iff_ne.mpr hk;obtain⟨D,e,O,V,J⟩:=LQ r B (λy hy=>h1 y (Uy _ hy)) h2;refine⟨D,?_,O,λy hy L=>?_,J⟩
   .simp only[hb,XD,if_false,pure_bind];exact e
   .rcases T9.mp hy with z|z
    .subst z;exact absurd L hk
    .exact V y z L
def Acw (h:∀y∈sc.names,y.2=.free->∃c,env.cells.lookup y.1=some c):
  ∃B,closureFor sc env=pure B/\(∀x c,B.lookup x=some c->env.cells.lookup x=some c)/\∀y∈sc.names,y.2=.free->∃c,B.lookup y.1=some c:=by
 obtain⟨B,e,D,I,_⟩:=AG<|LQ sc.names [] h (λx c e=>by cases e);refine⟨B,?_,D,I⟩;unfold closureFor;show(forIn sc.names ([]:List (bf×ar)) _ >>= λr=>pure r)=_;rw[bind_pure,<-e]
def IX{α:Type}{M:Wn}{A:Ud}{t:Sem α}{Q B:α->TK->Prop}{E:af->TK->Prop}{s:TK}(h:TQ M A t Q (λ_ _=>False) s)(hq:∀a s,Q a s->B a s):TQ M A t B E s:=Vu h hq λ_ _ f=>f.elim
noncomputable def Kg(ifs:List TM)(env:Env):Sem Bool:=forIn ifs true λc r=>if r=true then do let ok <-XR c env (T7 c env);pure (YH ok)else pure (YH r)
def PV(CE tg iter:TM)(ifs:List TM)(it acc:af)(env:Env)(b:Sem Unit):Prop:=compTurn CE 0 it acc env=(do
  Vo iter.pos
  match <-VT it with
  |none=>pure (.done .next)
  |some v =>
   Xt tg it v
   VS tg env v
   let ok <-Kg ifs env
   if ok then b
   again (.compLoop CE 0 it acc env))
def PX(prog:TR)(w:TL)(CE:TM):Prop:=∀it acc env (A:Ud),A.under (.compLoop CE 0 it acc env)=A/\(TV prog w).den (.compLoop CE 0 it acc env)=(compTurn CE 0 it acc env).onRaise (λx=>do YE x env;theTreesLotGoes x)
def Acx{prog:TR}{w:TL}{A:Ud}{R:Xw->TK->Prop}{s:TK}{CE O iter:TM}{D:List TM}{it B:af}{env:Env}{b:Sem Unit}(hD:PX prog w CE)(hT:PV CE O iter D it B env b)(I:Nat->TK->Prop)(turn:∀n s,I n s->TQ (TV prog w) A (VT it) (λr V=>match r with
   |none=>R (.ok .next) V
   |some v=>TQ (TV prog w) A (Xt O it v) (λ_ s₂=>TQ (TV prog w) A (VS O env v) (λ_ s₃=>TQ (TV prog w) A (Kg D env) (λok Y =>
     if ok=true then TQ (TV prog w) A b (λ_ s₆=>∃m,m<n/\I m s₆) (λ_ _=>False) Y else ∃m,m<n/\I m Y) (λ_ _=>False) s₃) (λ_ _=>False) s₂) (λ_ _=>False) V) (λ_ _=>False) s)(n:Nat)(h:I n s):Vh (TV prog w) A (.compLoop CE 0 it B env) R s:=by
 refine codeAny_loop rfl I (λn s hI=>?_) n h;rw[(hD it B env A).1,(hD it B env A).2];apply wpAny_noted;rw[hT];refine TX<|WV (TX<|IX (turn n s hI) λr V J=>?_);match r,J with
 |none,J=>exact Ub J
 |some v,J =>
  refine TX<|IX J λ_ s₂ h₂=>TX<|IX h₂ λ_ s₃ h₃=>TX<|IX h₃ λok Y L=>?_;match ok,L with
  |false,L=>exact Ub ⟨rfl,L⟩
  |true,L=>exact TX<|IX L λ_ s₆ h₆=>Ub ⟨rfl,h₆⟩
structure BK(sc dG:Scope)(N' N:List bf)(aJ:List (Option Nat)):Prop where
 kind:sc.kind=.function
 rT:∀y∈sc.names,y.2≠.cell
 one:∀y∈sc.names,y.2=.local->sc.names.lookup y.1=some .local
 frees:∀y∈sc.names,y.2=.free->dG.names.lookup y.1=some .cell\/dG.names.lookup y.1=some .free
 nd:N'.Nodup
 len:aJ.length=N'.length
 out:∀i j:Nat,aJ[i]?=some (some j)->∃x,N'[i]?=some x/\N[j]?=some x/\sc.names.lookup x=some .free/\(dG.names.lookup x=some .cell\/dG.names.lookup x=some .free)
noncomputable def LR(aJ:List (Option Nat))(σ:St):St:=aJ.map λo=>o.bind λj=>(σ[j]?).join
noncomputable def Br(X:Cx)(N':List bf)(sc:Scope)(cl:List (bf×ar))(C:ar)(fp:List ar)(π:List (ar×Obj))(s₂:TK)(H₂:Hp):Cx :=
 { prog:=X.prog,w:=X.w,K:=X.K,mg:=X.mg,base:=X.base,A:=X.A,N:=N',s₀:=s₂,H₀:=H₂,env:=compEnvC sc cl C X.env,outer:=X.stack,stack:=X.stack,ex:=fp,fn:=λ_=>false,calm:=X.calm,pn:=X.pn++π,xe:=λ_ _=>False }
section
variable {X:Cx}{N':List bf}{sc:Scope}{aJ:List (Option Nat)}{cl:List (bf×ar)}{C:ar}{fp:List ar}{π:List (ar×Obj)}{s₂:TK}{H₂:Hp}{σ:St}
theorem LS(S:BK sc X.env.scope N' X.N aJ)(I:Ad X π σ H₂ s₂)(D:∀x c,cl.lookup x=some c->X.env.cells.lookup x=some c)(L:∀y∈sc.names,y.2=.free->∃c,cl.lookup y.1=some c)(J:s₂.heap.objs.size<=C)(B:∀b∈fp,Eu X π H₂ b)(O:∀b∈fp,∃o,s₂.heap.get? b=some o):(Br X N' sc cl C fp π s₂ H₂).Ok where
 mod:=I.ok.mod
 kind:=S.kind
 glob:=I.ok.glob
 blt:=I.ok.blt
 above:=J
 inj:=λx y c V h2=>I.ok.inj x y c (D x c V) (D y c h2)
 has:=λx hx=>L _ (WB (Acv S.rT hx)) rfl
 dA:=λx c Y=>by cases Y
 hd:=I.ok.hd
 frames:=I.ok.frames
 aR:=.inl rfl
 fj:=λb hb=>by
  obtain⟨o,ho⟩:=O b hb;exact⟨Uz (UW (Ul ho) J),λx c e=>(B b hb).2.2.2.2.1 x c (D x c e)⟩
 bs:=I.bs
 cG:=U1 I.ok.cG I.sz
 dB:=λb o e hb=>by
  rcases(B b hb).2.2.2.1 with z|z
  .exact I.ok.dB b o e z
  .exact absurd (UW (Ul (I.ok.bs b o e).1) z) (V5 _)
 dC:=λb hb z=>(T9.mp (I.d4 b z)).elim (B b hb).2.1 (B b hb).2.2.1
 bD:=I.stack
 cO:=I.lS
def Acy{D:ar}{ob:Obj}{O:HO}{h₁:Heap}{tk:Nat}{m:bf->Option af}(S:BK sc X.env.scope N' X.N aJ)(I:Ad X π σ H₂ s₂)(V:∀x c,cl.lookup x=some c->X.env.cells.lookup x=some c)(ft:∀y∈sc.names,y.2=.free->∃c,cl.lookup y.1=some c)(c6:∀b∈fp,Eu X π H₂ b)(fu:∀b∈fp,∃o,s₂.heap.get? b=some o)(hD:D=s₂.heap.objs.size)(hC:C=s₂.heap.objs.size+1)(I3:Ad X π σ (upd H₂ D O) { s₂ with heap:=s₂.heap.push ob })(hk:∀b o,(s₂.heap.push ob).get? b=some o->h₁.get? b=some o)(fq:h₁.Ns C m) :
  Ad (Br X N' sc cl C fp π s₂ H₂) [] (LR aJ σ) (upd H₂ D O) { s₂ with heap:=h₁,toks:=tk }:=by
 subst hD;have c7:s₂.heap.objs.size<=C:=by rw[hC];exact Vw _
 have ok:=LS S I V ft c7 c6 fu;have I4:Ad X π σ (upd H₂ s₂.heap.objs.size O) { s₂ with heap:=h₁,toks:=tk }:=I3.kept (t':=tk) hk;have B:∀b o,s₂.heap.get? b=some o->h₁.get? b=some o:=λb o e=>hk b o<|Ut _ e;have neD:∀b o,s₂.heap.get? b=some o->b≠s₂.heap.objs.size:=λb o e=>Uz<|Ul e;have rU:∀x c,cl.lookup x=some c->∃v o,s₂.heap.get? c=some o/\o.data=.cell v:=λx c e=>by
  obtain⟨v,o,J,hd⟩:=Bv<|I.cell x c (V x c e);exact⟨v,o,J,hd⟩
 refine⟨ok,rfl,I.bare,Un.laid B (Ua _) I.fresh,⟨m,fq,λi x v e1 e2 e3=>?_⟩,λx c e=>?_,?_,λx c e=>?_,λp hp=>?_,I4.ai,?_⟩
 .have L:(aJ[i]?).map (λo=>o.bind λj=>(σ[j]?).join)=some (some v):=by
   have:=e2;unfold LR at this;rwa [T6]at this
  cases q:aJ[i]? with
  |none=>rw[q]at L;cases L
  |some oj =>
   rw [q,Vj]at L;cases oj with
   |none=>cases L
   |some j =>
    have Y:(σ[j]?).join=some v:=by simpa using L
    have e5:σ[j]?=some (some v):=by
     cases z:σ[j]? with
     |none=>rw[z]at Y;cases Y
     |some w=>rw[z]at Y;rw[<-Y];rfl
    obtain⟨x',n1,n2,n3,n4⟩:=AG<|S.out i j q;have dF:N'[i]?=some x:=e1;rw[n1]at dF;cases dF;obtain⟨m2,iV,hl⟩:=As I.loc;have hv:JP X.env.scope x:=n4.elim (λz=>.inr<|.inl z) λz=>.inr<|.inr z;obtain⟨u,r,l⟩:=As<|hl j x v n2 e5 hv;refine⟨u,r,.inr ⟨PR n3,?_⟩⟩;rcases l with ⟨k,_⟩|⟨_,c,ec,z⟩
    .have k':X.env.scope.names.lookup x=some .local:=k;rcases n4 with z|z<;>rw[k']at z<;>cases z
    .obtain ⟨c',rV⟩:=ft _ (WB n3) rfl;have:=V x c' rV;rw[ec]at this;cases this;obtain⟨o,J,hd⟩:=As z;exact⟨c,rV,o,B c o J,hd⟩
 .obtain ⟨v,o,J,hd⟩:=Bv<|rU x c e;exact⟨v,o,B c o J,hd⟩
 .show upd H₂ s₂.heap.objs.size O C=none;rw[Aw<|by rw[hC];exact ZE _];exact I.ai.fresh c7
 .obtain ⟨v,o,J,hd⟩:=Bv<|rU x c e;show upd H₂ s₂.heap.objs.size O c=none;rw[Aw<|neD c o J];exact I.bQ x c<|V x c e
 .have cc:p∈X.pn++π:=by simpa [Br]using hp
  obtain⟨e,n,ne,nf,d⟩:=AU<|I.pin p cc;obtain⟨_,n4,_⟩:=AU<|I4.pin p cc;exact⟨B _ _ e,n4,Uz<|UW (Ul e) c7,λz=>(T9.mp<|I.d4 _ z).elim ne nf,d⟩
 .show (aJ.map _).length=N'.length;rw[TN];exact S.len
def Acz{D:Hp}{σ':St}{L:TK}(I:Ad X π σ H₂ s₂)(B:∀b∈fp,Eu X π H₂ b)(J:Ad (Br X N' sc cl C fp π s₂ H₂) [] σ' D L):Ad X π σ D L :=
 I.rA J.os J.base J.ai J.bare λb hb=>⟨(B b hb).2.2.2.1,(B b hb).2.1,(B b hb).2.2.2.2.1,(B b hb).2.2.2.2.2⟩
def FN(X:Cx)(ifs:List TM)(t:TT):Prop :=
 ∀(π:List (ar×Obj))(s:TK)(σ:St)(H:Hp)(Q:Bool->Hp->Prop),Ad X π σ H s->t σ H Q->TQ (TV X.prog X.w) X.A (Kg ifs X.env) (TP X π σ Q) X.xe s
def AcA:TT:=λ_ H Q=>Q true H
def GW:FN X [] AcA:=λπ s σ H Q I h=>wpAny_tests_nil ⟨H,I,h⟩
def IY (h:PT X c t):FN X [c] t:=λπ s σ H Q I q=>wpAny_tests_one<|h π s σ H Q I q
abbrev LU(tt:TT)(ta:St->Hp->(Hp->Prop)->Prop)(N:St->Hp->Prop):St->Hp->Prop:=λσ3 H3=>tt σ3 H3 λb H4=>if b=true then ta σ3 H4 (N σ3)else N σ3 H4
def HI(O:ar->HO)(ta:ar->St->Hp->(Hp->Prop)->Prop)(aJ:List (Option Nat))(wi:TI)(g:TG)(tt:TT):TE:=λσ H Q=>wi σ H λJ H1=>∀D,H1 D=none->CW J g (LU tt (ta D)) (LR aJ σ) (upd H1 D (O D)) λ_=>Q (.ref D)
structure IZ(X:Cx)(CE tg iter:TM)(ifs:List TM)(N':List bf)(sc:Scope)(mk:Sem af)(O:ar->HO)(ta:ar->St->Hp->(Hp->Prop)->Prop):Prop where
 cl:clausesOf CE=[⟨tg,iter,ifs,0⟩]
 den:PX X.prog X.w CE
 new:∀{π s σ H} {Q:af->TK->Prop},Ad X π σ H s->(∀ob,Ad X π σ (upd H s.heap.objs.size (O s.heap.objs.size)) { s with heap:=s.heap.push ob }->Q (.ref s.heap.objs.size) { s with heap:=s.heap.push ob })->TQ (TV X.prog X.w) X.A mk Q X.xe s
 start:∀{it acc env R s},Vh (TV X.prog X.w) X.A (.compLoop CE 0 it acc env) R s->TQ (TV X.prog X.w) X.A (Xu it) (λjc s'=>Vh (TV X.prog X.w) X.A (.compLoop CE 0 jc acc env) R s') (notedBy (TV X.prog X.w) X.A env λx s'=>R (.error x) s') s->Vh (TV X.prog X.w) X.A (.compStart CE 0 it acc env) R s
 turn:∀cl C fp π s₂ H₂ it D,∃b,PV CE tg iter ifs it (.ref D) (compEnvC sc cl C X.env) b/\∀{bX s σ H N},Ad (Br X N' sc cl C fp π s₂ H₂) bX σ H s->ta D σ H N->TQ (TV X.prog X.w) X.A b (λ_ s'=>∃H',Ad (Br X N' sc cl C fp π s₂ H₂) bX σ H' s'/\N H') (λ_ _=>False) s
def PY{CE tg iter:TM}{ifs:List TM}{p:Pos}{mk:Sem af}{O:ar->HO}{ta:ar->St->Hp->(Hp->Prop)->Prop}{wi:TI}{g:TG}{tt:TT}{s:TK}{H:Hp}{use:Option (af->Sem Unit)}{Qv:af->TK->Prop}{Q:VK}(hc:X.calm=true)(S:BK sc X.env.scope N' X.N aJ)(hi:PI X tg iter wi)(hg:∀cl C fp π s₂ H₂,PG (Br X N' sc cl C fp π s₂ H₂) tg g)(ht:∀cl C fp π s₂ H₂,FN (Br X N' sc cl C fp π s₂ H₂) ifs tt)(G:IZ X CE tg iter ifs N' sc mk O ta)(hs:∀x,Wr iter X.env x=pure x)(I:Ad X π σ H s)(h:HI O ta aJ wi g tt σ H Q)(post:∀D C B s' m,(∀h',Vb C s'.heap h'->Ad X π σ B { s' with heap:=h' })->Ad X π σ B s'->s'.heap.Ns C m->(∀x c,X.env.cells.lookup x=some c->c≠C)->X.env.locals≠C->B C=none ->
   (∀σ' V h',Ad X π σ' B V->Vb C V.heap h'->Ad X π σ' B { V with heap:=h' })->Q (.ref D) B->compPost (TV X.prog X.w) X.A X.xe use Qv (.ref D) C (.ok .next) s') :
  TQ (TV X.prog X.w) X.A (ZF CE sc X.env p mk false (T7 iter X.env) use) Qv X.xe s:=by
 obtain⟨cl,aaH,cu,ft⟩:=AG<|Acw (env:=X.env) (sc:=sc) λy hy hf=>I.ok.has y.1<|S.frees y hy hf;refine wpAny_comprehension_free G.cl hs aaH S.kind S.one<|Ar (hi π s σ H _ I h) λxv s₁ h₁=>Ar h₁ λlY s₂ h₂=>?_;obtain⟨it,fp,tn,J,H₂,e,L,T,rW,f₂,rd⟩:=Io h₂;subst e;refine G.new L λob I₃=>wpAny_newFunctionEnv S.rT (by intro y hy;simp at hy) (λh₁ fq i8=>?_) S.kind;dsimp only at fq i8 ⊢;have fu:∀b∈fp,∃o,s₂.heap.get? b=some o:=λb hb=>let ⟨o,e,_⟩:=T.obj _ _ rW b hb;⟨o,e⟩;have kn:(s₂.heap.push ob).objs.size=s₂.heap.objs.size+1:=V8 ..;have hk:∀b o,(s₂.heap.push ob).get? b=some o->h₁.get? b=some o:=λb o e=>i8.extBut b o (Uz<|Ul e)<|Ut _ e;have IB:=Acy (tk:=s₂.toks+([]:List (bf×af)).length) S L cu ft f₂ fu rfl kn I₃ hk fq;generalize (s₂.heap.push ob).objs.size=C at kn fq i8 IB ⊢;generalize hD:s₂.heap.objs.size=D at IB kn ⊢;have c7:s₂.heap.objs.size<=C:=by rw[hD,kn];exact Vw _
 obtain⟨W,⟨m0,w0⟩,turn⟩:=As<|rd D (by rw[<-hD];exact L.fresh);have mJ:∀{B:Hp},(∀b∈fp,B b=none)->∀b∈fp,Eu (Br X N' sc cl C fp π s₂ H₂) [] B b:=λhn b hb=>by
  obtain⟨z1,z2⟩:=(LS S L cu ft c7 f₂ fu).fj b hb;exact⟨hn b hb,z1,(LS S L cu ft c7 f₂ fu).dC b hb,.inl hb,z2,λp hp=>(f₂ b hb).2.2.2.2.2 p<|by simpa [Br]using hp⟩
 have fr0:∀b∈fp,(upd H₂ D<|O D) b=none:=λb hb=>by
  obtain⟨o,ho⟩:=fu b hb;rw[Aw<|by rw[<-hD];exact Uz<|Ul ho];exact(f₂ b hb).1
 have bb:tn 0 h₁:=T.keep _ _ _ rW λb hb o e=>hk b o<|Ut _ e;have loop:Vh (TV X.prog X.w) X.A (.compLoop CE 0 (.ref it) (.ref D)<|compEnvC sc cl C X.env) (compPost (TV X.prog X.w) X.A X.xe use Qv (.ref D) C) { s₂ with heap:=h₁,toks:=s₂.toks+([]:List (bf×af)).length }:=by
  obtain⟨bd,hT,hB⟩:=As<|G.turn cl C fp π s₂ H₂ (.ref it) D;refine Acx G.den hT (λn s'=>∃i σ' B,Ad (Br X N' sc cl C fp π s₂ H₂) [] σ' B s'/\tn i s'.heap/\(∀b∈fp,B b=none)/\W i n σ' B) ?_ m0 ⟨0,_,_,IB,bb,fr0,w0⟩;rintro n s3 ⟨i,σ3,H3,I3,iT,iU,w3⟩;rcases turn i n σ3 H3 w3 with ⟨stop,qn⟩|⟨go,N,hN,step⟩
  .refine Ar (T.done (Br X N' sc cl C fp π s₂ H₂) rfl rfl rfl hc i [] s3 σ3 H3 _ I3 (mJ iU) iT stop) λr s4 ⟨hr,I4⟩=>?_;subst hr;have JX:=Acz L f₂ I4;obtain⟨m,hn,_⟩:=As I4.loc;have cn:∀x c,X.env.cells.lookup x=some c->c≠C:=λx c e z=>by
    obtain⟨v,q⟩:=L.cell x c e;exact absurd (UW q.lt<|by rwa[z])<|V5 _
   have gone:∀σ' V h',Ad X π σ' H3 V->Vb C V.heap h'->Ad X π σ' H3 { V with heap:=h' }:=λσ' V h' K3 hs3 =>
    K3.turned (t':=V.toks) (it:=C) (λb o hb e=>(hs3.2 b hb).trans e) I4.free (Wq<|UW L.lt c7) (.inr<|U1 L.sz c7) cn λp hp z=>by
     exact absurd (UW (Ul (L.pin p hp).1)<|by rwa[z])<|V5 _
   exact post D C H3 s4 m (λh' hs'=>gone σ s4 h' JX hs') JX hn cn (Uz<|UW L.lt c7) I4.free gone qn
  .refine Ar (T.item (Br X N' sc cl C fp π s₂ H₂) rfl rfl rfl hc i [] s3 σ3 H3 _ I3 (mJ iU) iT go) λr s4 Y=>DM Y λu hr h4=>?_;subst hr;refine Ar h4 λ_ s5 Y=>AF Y λx H5 I5 r5 ⟨y5,fR,md⟩=>?_;have mf:=I5.pinned (mJ md)<|T.obj _ _ fR;refine Ar (hg cl C fp π s₂ H₂ _ s5 σ3 H5 x u _ mf r5<|step x H5 y5) λ_ s6 Y=>Ls Y λσ6 H6 I6 q6=>?_;refine Ar (ht cl C fp π s₂ H₂ _ s6 σ6 H6 _ I6 q6) λok s7 Y=>DM Y λH7 I7 q7=>?_;have again:∀{H8:Hp}{s8:TK},Ad (Br X N' sc cl C fp π s₂ H₂) ([]++IC fp s5.heap) σ6 H8 s8->N σ6 H8->∃m,m<n/\∃i σ' B,Ad (Br X N' sc cl C fp π s₂ H₂) [] σ' B s8/\tn i s8.heap/\(∀b∈fp,B b=none)/\W i m σ' B:=λ{H8 s8} I8 n8=>by
    obtain⟨m',hm,w8⟩:=As<|hN σ6 H8 n8;refine⟨m',hm,i+1,σ6,H8,I8.iS,T.keep _ _ _ fR λb hb o e=>(I8.pin (b,o)<|U5 _ (U5 _<|JU hb e)).1,λb hb=>?_,w8⟩;obtain⟨o,e,d⟩:=As<|T.obj _ _ fR b hb;exact(I8.pin (b,o)<|U5 _ (U5 _<|JU hb e)).2.1
   cases ok with
   |false=>exact again I7 q7
   |true=>exact Ar (hB I7 q7) λ_ s8 Y=>DM Y λH8 I8 n8=>again I8 n8
 exact G.start loop<|T.self _ 0 _ _ _ bb loop
def LV{CE L iter:TM}{B:List TM}{p:Pos}{mk:Sem af}{O:ar->HO}{Y:ar->St->Hp->(Hp->Prop)->Prop}{wi:TI}{g:TG}{tt:TT}(hE:T7 CE X.env=ZF CE sc X.env p mk false (T7 iter X.env) none)(hc:X.calm=true)(S:BK sc X.env.scope N' X.N aJ)(hi:PI X L iter wi)(hg:∀cl C fp π s₂ H₂,PG (Br X N' sc cl C fp π s₂ H₂) L g)(ht:∀cl C fp π s₂ H₂,FN (Br X N' sc cl C fp π s₂ H₂) B tt)(G:IZ X CE L iter B N' sc mk O Y)(hs:∀x,Wr iter X.env x=pure x):PE X CE (HI O Y aJ wi g tt):=by intro π s σ H Q I h;rw[hE];refine PY (use:=none) (Q:=Q) hc S hi hg ht G hs I h λD C H' s' m g1 J hn cn ln fr g2 q=>?_;exact⟨m,hn,λh' V=>⟨.ref D,H',g1 h' V,rfl,q⟩⟩
def AcB{CE Y iter:TM}{V:List TM}{p jd B:Pos}{mk:Sem af}{O:ar->HO}{ta:ar->St->Hp->(Hp->Prop)->Prop}{wi:TI}{g:TG}{tt:TT}{j:Nat}{y:bf}(hE:evalThenUse CE X.env (VS (.Name y B) X.env)=(do let _ <-ZF CE sc X.env p mk false (T7 iter X.env) (some<|VS (.Name y B) X.env)))(nd:X.N.Nodup)(hj:X.N[j]?=some y)(hy:Ht X.env.scope y)(hc:X.calm=true)(S:BK sc X.env.scope N' X.N aJ)(hi:PI X Y iter wi)(hg:∀cl C fp π s₂ H₂,PG (Br X N' sc cl C fp π s₂ H₂) Y g)(ht:∀cl C fp π s₂ H₂,FN (Br X N' sc cl C fp π s₂ H₂) V tt)(G:IZ X CE Y iter V N' sc mk O ta)(mK:Wf CE (some<|.Name y B) jd.line X.env=pure true)(hs:∀x,Wr iter X.env x=pure x)(hf:X.fn y=true\/X.env.scope.names.lookup y=some .local) :
  PS X (.Assign [.Name y B] CE jd) (Gd (HI O ta aJ wi g tt)<|Fh j):=by
 intro π s σ H D I h;rw[exec_Assign_Name_used _ _ _ _ mK];refine TX<|WV (TX ?_);rw[hE];refine TX<|Ar (PY (use:=some<|VS (.Name y B) X.env) (Qv:=λ_ s'=>SP X π D .next s') hc S hi hg ht G hs I h λL C H' s' m g1 J hn cn ln fr g2 q=>?_) λ_ s' hq=>Ub<|Ub hq;show TQ _ X.A (VS (.Name y B) X.env<|.ref L) _ _ _;refine vZ<|Ox J nd hj hy (v:=.ref L) rfl (λbR K aaI=>?_) hf;obtain⟨a,hsm,ha⟩:=As aaI;have mL:C≠a:=by
  rcases ha with z|z
  .rw[z];exact UC ln
  .exact UC (cn y a z)
 exact⟨m,hn.sameBut hsm mL,λh' hs'=>⟨_,H',g2 _ bR h' K hs',q⟩⟩
abbrev LY(te:TE)(D:ar):St->Hp->(Hp->Prop)->Prop:=λσ H N=>te σ H λv H5=>∃ys,H5 D=some (.lst ys)/\ys.length<sizeLine/\N (upd H5 D (.lst (ys++[v])))
def PZ(aJ:List (Option Nat))(wi:TI)(g:TG)(tt:TT)(te:TE):TE:=HI (λ_=>.lst []) (LY te) aJ wi g tt
def P0{B V iter:TM}{J:List TM}{pos:Pos}{Y:TE}(he:∀cl C fp π s₂ H₂,PE (Br X N' sc cl C fp π s₂ H₂) B Y):IZ X (.ListComp B [⟨V,iter,J,0⟩] sc pos) V iter J N' sc (newList []) (λ_=>.lst []) (LY Y) :=
 ⟨rfl,λ_ _ _ _=>⟨rfl,rfl⟩,λI q=>Yc<|q _ (I.mr (ys:=[]) (its:=[]) .nil<|Vc _),codeAny_compStart_list,λcl C fp π s₂ H₂ it D=>⟨_,compTurn_list ..,λ{bX s σ H N} I q=>by
  refine TX<|Ar (he cl C fp π s₂ H₂ _ s σ H _ I q) λy s8 L=>AF L λv H8 I8 r8 zz=>?_;obtain⟨ys,hy,hz,n8⟩:=AG zz;exact TX<|Ar (C9 _ s8 σ H8 (.ref D) [v] (.ref D) [y] (λ_ O=>N O) I8 rfl (.cons r8 .nil) ⟨D,ys,v,rfl,rfl,hy,hz,n8⟩) λ_ s9 L=>AF L λ_ O I9 _ q9=>Ub ⟨O,I9,q9⟩⟩⟩
def LZ (hc:X.calm=true)(S:BK sc X.env.scope N' X.N aJ)(V:PI X I iter J)(Y:∀cl C fp π s₂ H₂,PG (Br X N' sc cl C fp π s₂ H₂) I g)(ht:∀cl C fp π s₂ H₂,FN (Br X N' sc cl C fp π s₂ H₂) D L)(he:∀cl C fp π s₂ H₂,PE (Br X N' sc cl C fp π s₂ H₂) B O)(hs:∀x,Wr iter X.env x=pure x:=by intro _;rfl):PE X (.ListComp B [⟨I,iter,D,0⟩] sc pos) (PZ aJ J g L O):=LV rfl hc S V Y ht (P0 he) hs
def HJ{D J iter:TM}{I:List TM}{pos L B:Pos}{O:TI}{g:TG}{V:TT}{Y:TE}{j:Nat}{y:bf}(hc:X.calm=true)(nd:X.N.Nodup)(hj:X.N[j]?=some y)(hy:Ht X.env.scope y)(S:BK sc X.env.scope N' X.N aJ)(hi:PI X J iter O)(hg:∀cl C fp π s₂ H₂,PG (Br X N' sc cl C fp π s₂ H₂) J g)(ht:∀cl C fp π s₂ H₂,FN (Br X N' sc cl C fp π s₂ H₂) I V)(he:∀cl C fp π s₂ H₂,PE (Br X N' sc cl C fp π s₂ H₂) D Y)(mK:Wf (.ListComp D [⟨J,iter,I,0⟩] sc pos) (some<|.Name y B) L.line X.env=pure true)(hs:∀x,Wr iter X.env x=pure x:=by intro _;rfl)(hf:X.fn y=true\/X.env.scope.names.lookup y=some .local:=by first|exact .inl rfl|exact .inr rfl|assumption) :
  PS X (.Assign [.Name y B] (.ListComp D [⟨J,iter,I,0⟩] sc pos) L) (Gd (PZ aJ O g V Y)<|Fh j):=AcB rfl nd hj hy hc S hi hg ht (P0 he) mK hs hf
end
section
variable {X:Cx}{π:List (ar×Obj)}{σ:St}{H:Hp}{s:TK}{h':Heap}
def Ad.mM{t':Nat}{ch:List ar}{T:ar}{xs:List V}{us:List af}(I:Ad X π σ H s)(B:∀b∈ch,Eu X π H b)(k:∀b o,b ∉ ch->s.heap.get? b=some o->h'.get? b=some o)(D:s.heap.objs.size<=T)(L:∀b∈ch,∃o,s.heap.get? b=some o)(O:h'.get? T=some { cls:=.type "tuple",data:=.seq us.toArray })(hv:AA xs us)(Y:xs.length<=sizeLine):Ad X π σ (upd H T<|.tup xs) { s with heap:=h',toks:=t' }:=by
 have hn:=I.ai.fresh D;have neT:∀b o,s.heap.get? b=some o->b≠T:=λb o e=>Uz<|UW (Ul e) D;have J:∀b u,H b=some u->b ∉ ch:=λb u e z=>by rw[(B b z).1]at e;cases e
 have up:∀b u,H b=some u->upd H T (.tup xs) b=some u:=λb u e=>by rw[Aw λz=>by rw[z,hn]at e;cases e];exact e
 refine I.step (g':=s.gens) (d':=s.drawn) (ch:=ch) (λb hb=>⟨(B b hb).2.2.2.1,(B b hb).2.1,(B b hb).2.2.2.2.1,(B b hb).2.2.2.2.2⟩) (λb o _ _ hc e _=>k b o hc e) (λb o _ _ hc e _=>⟨o.slots,k b o hc e⟩)
  (λb o _ e n=>by rwa[Aw<|neT b o e]) (λb o hc e=>⟨o,k b o hc e⟩) (λb ys e=>up b _ e) (λb o u e=>up b _ e) (λb ps e=>⟨#[],by rw[up b _ e];simp⟩) (λm hm=>?_) (λb u e=>?_) I.bare
 .obtain ⟨o,es,ep,ho,r⟩:=C7 hm;exact⟨o,es,ep,k _ o (λz=>(B _ z).2.1 rfl) ho,r⟩
 .by_cases hb:b=T
  .subst hb;rw[Aq]at e;cases e;exact⟨Y,us,hv,_,O,rfl,_,rfl⟩
  .rw[Aw hb]at e;refine(I.ai b u e).dw (λc v hc q=>k c v ?_ q) (λc q=>up c _ q) λc ys q=>up c _ q;rcases hc with z|z
   .rw[z];exact J b u e
   .exact J c _ z
noncomputable def I0(K:TH)(a:ar):It :=
 ⟨λi H=>∃xs x,A3 K H a xs/\xs[i]?=some x,λi H x H'=>∃t y,x=.ref t/\H t=none/\H'=upd H t (.tup [.int i,y])/\∀xs,A3 K H a xs->xs[i]?=some y,λi H=>∃xs,A3 K H a xs/\xs.length<=i⟩
theorem AcC{P:TR}{w:TL}{K:TH}{L:List TM}{kk:Nat}{pos:Pos}(a e it:ar)(je:e≠it):Ge P w K (.Tuple L kk pos) (I0 K a) [e,it] e (λi h=>(∃B,VO h e it i B)/\h.IsListIter it a i) where
 mem:=by simp
 obj:=λi h st b hb=>by
  obtain⟨⟨B,D⟩,⟨o,V,c,d⟩⟩:=st;rcases T9.mp hb with z|z
  .subst z;exact⟨_,D,λv z=>by cases z⟩
  .have z:b=it:=by simpa using z
   subst z;exact⟨o,V,λv z=>by rw[d]at z;cases z⟩
 keep:=λi h h' st k=>by
  obtain⟨⟨B,D⟩,hi⟩:=st;exact⟨⟨B,k e (by simp) _ D⟩,hi.at λo q=>k it (by simp) o q⟩
 item:=by
  intro X Y hw hK hc i π s σ H E I O st hg;subst Y hw hK;obtain⟨xs,x,hq,hx⟩:=Bv hg;obtain⟨its,rv,p,hz⟩:=AG (I.list hq);obtain⟨u,hu,ru⟩:=As (rv.get hx);obtain⟨⟨B,D⟩,J⟩:=st;refine wpAny_pyNext_enum_item D J p.isList (x:=u) (by simpa using hu) je λh' V mO hT hsz hk=>⟨_,rfl,?_⟩;have I1:Ad X π σ (upd H s.heap.objs.size (.tup [.int i,x])) { s with heap:=h',toks:=s.toks+1 } :=
   I.mM (ch:=[e,it]) (us:=[.int i s.toks,u]) O (λb o hb q=>hk b o (λz=>hb (by simp[z])) (λz=>hb (by simp[z])) q) (Ua _)
    (λb hb=>by
     rcases T9.mp hb with z|z
     .subst z;exact⟨_,D⟩
     .have z:b=it:=by simpa using z
      subst z;obtain⟨o,q,_⟩:=As J;exact⟨o,q⟩) hT (.cons ⟨_,rfl⟩ (.cons ru .nil)) Ao
  have fr:∀b∈[e,it],(upd H s.heap.objs.size (.tup [.int i,x])) b=none:=λb hb=>by
   have aU:b<s.heap.objs.size:=by
    rcases T9.mp hb with z|z
    .subst z;exact Ul D
    .have z:b=it:=by simpa using z
     subst z;obtain⟨o,q,_⟩:=As J;exact Ul q
   rw [Aw (Uz aU)];exact(O b hb).1
  refine wX V λh2 mP bE=>?_;obtain⟨f0,f1,f2,f3,f4,f5⟩:=AU (O e (by simp));have I2:Ad X π σ (upd H s.heap.objs.size (.tup [.int i,x])) { s with heap:=h2,toks:=s.toks+1 }:=I1.turned (t':=s.toks+1) (λb o hb q=>(bE.2 b hb).trans q) (fr e (by simp)) f1 f3 f4 f5;refine⟨.ref s.heap.objs.size,_,I2,rfl,⟨_,x,rfl,I.fresh,rfl,λys hy=>by rw[I.j0 hy hq];exact hx⟩,⟨⟨u,mP⟩,?_⟩,fr⟩;exact mO.at λo q=>(bE.2 it je.symm).trans q
 done:=by intro X Y hw hK hc i π s σ H E I O st hg;subst Y hw hK;obtain⟨xs,hq,hx⟩:=As hg;obtain⟨its,rv,p,hz⟩:=AG (I.list hq);obtain⟨⟨B,D⟩,J⟩:=st;obtain⟨f0,f1,f2,f3,f4,f5⟩:=AU (O it (by simp));have hl:=rv.length;exact wpAny_pyNext_enum_end (I.ok.hd hc) D J p.isList (by simp;omega) λh' eb=>⟨rfl,I.turned (t':=s.toks) (λb o hb q=>eb b o hb q) f0 f1 f3 f4 f5⟩
 self:=λ_ _ _ _ _ st h=>by
  obtain⟨⟨B,D⟩,_⟩:=st;exact YI D h
def P6:UY "enumerate"=some (.type "enumerate"):=by decide +kernel
def AcD(K:TH)(ta:TA):TI:=λσ H R=>ta σ H λvs H1=>∃a xs,vs=[.ref a]/\A3 K H1 a xs/\R (I0 K a) H1
def L4 (g:Gm X.env.scope "enumerate")(hm:X.mg "enumerate"=none)(ha:PA X [x] O)(hs:T5 [x] X.env=[(false,T7 x X.env)]:=by rfl):
  PI X (.Tuple J kk tp) (.Call (.Name "enumerate" p) [x] [] pos) (AcD X.K O):=by
 intro π s σ H R I h;refine Call_<|Ga I g.gl hm P6 (Xv (Ar (ha pos π s σ H _ I h) λus B zz=>AF zz λvs V D r1 q1=>?_) hs rfl);obtain⟨a,xs,e,hq,q⟩:=BA q1;subst e;cases r1 with
 |cons r rr =>
  cases rr;cases r;obtain⟨its,rv,pl,hz⟩:=AG<|D.list hq;refine call_enumerate_list pl.isList λh' Y L hsz hk=>?_;apply YI Y;have mQ:V (B.heap.objs.size+1)=none:=D.ai.fresh<|Vw _;refine⟨B.heap.objs.size+1,[B.heap.objs.size+1,B.heap.objs.size],_,_,V,rfl,D.kept (t':=B.toks) hk,AcC a _ _<|ZE _,⟨⟨_,Y⟩,L⟩,λb hb=>?_,q⟩;rcases T9.mp hb with z|z
  .subst z;exact D.d5 (Vw _) mQ
  .have z:b=B.heap.objs.size:=by simpa using z
   subst z;exact D.d5 (Ua _) D.fresh
end
noncomputable def BS(lo hi:Int):List Int:=(UX (hi-lo).toNat).map λ(k:Nat)=>lo+(k:Int)
def L5(lo B:Int):(BS lo B).length=(B-lo).toNat:=by unfold BS;rw[TN,WH]
section
variable {X:Cx}
def Sm(i:Int):Prop:=-(2 ^ 62)<=i/\i<2 ^ 62
def P7{π:List (ar×Obj)}{σ:St}{H:Hp}{s:TK}{lo B:Int}{t u v:Tok}{tk:Nat}(I:Ad X π σ H s) :
  Ad X π σ (upd H s.heap.objs.size<|.cF lo B) { s with heap:=s.heap.push { cls:=.type "range",data:=.fields #[.int lo t,.int B u,.int 1 v] },toks:=tk } :=
 I.laid (λ_ _ q=>Ut _ q) (Ua _) (show Bs X.prog X.w _ _ _ (.cF lo B) from⟨t,u,v,UT _ rfl⟩)
def P8:B0 X (.type "range") (λxs H Q=>(∃j:Int,xs=[.int j]/\Sm j/\∀p,H p=none->Q (.ref p) (upd H p<|.cF 0 j))\/∃i j:Int,xs=[.int i,.int j]/\Sm i/\Sm j/\∀p,H p=none->Q (.ref p) (upd H p<|.cF i j)):=by
 intro π s σ H xs us Q I r h;rcases h with ⟨j,rfl,B,q⟩|⟨i,j,rfl,D,B,q⟩
 .obtain ⟨u,rfl,t,rfl⟩:=As<|Dq r;exact call_range_1 ⟨.ref s.heap.objs.size,_,P7 I,rfl,q _ I.fresh⟩
 .obtain ⟨u,J,rfl,⟨t,rfl⟩,⟨L,rfl⟩⟩:=BA<|OX r;exact call_range_2 ⟨.ref s.heap.objs.size,_,P7 I,rfl,q _ I.fresh⟩
def AcE{lo O:Int}{B:Array af}(h:ItemsOf (λ(i:Nat) (v:af)=>∃t,v=.int (lo+(i:Int)*1) t) B (O-lo).toNat):AA ((BS lo O).map V.int) B.toList:=by
 obtain⟨hs,Y⟩:=h;have I:∀(us:List af)(n k:Nat),us.length=n->(∀j v,us[j]?=some v->∃t,v=U7 (lo+((k+j:Nat):Int)) t)->AA (((List.range' k n).map λ(k:Nat)=>lo+(k:Int)).map V.int) us:=by
  intro us;induction us with
  |nil=>intro n k D _;subst D;exact .nil
  |cons u us ih =>
   intro n k D h2;obtain⟨J,rfl⟩:∃J,n=J+1:=⟨us.length,by rw[<-D];rfl⟩;rw[List.range'_succ,UR,UR];obtain⟨t,e⟩:=h2 0 u rfl;refine .cons ⟨t,by simpa using e⟩<|ih J (k+1) (by simpa using D) λj v L=>?_;obtain⟨t,e⟩:=h2 (j+1) v (by simpa using L);exact⟨t,by rw[e];congr 1;omega⟩
 unfold BS;rw[List.range_eq_range'];refine I B.toList _ 0 (by rwa[Vm]) λj v L=>?_;obtain⟨t,e⟩:=Y j v (by simpa using L);exact⟨t,by rw[e];simp⟩
def AcF(hc:X.calm=true):B0 X (.type "list") (λxs H Q=>∃p lo B,xs=[.ref p]/\H p=some (.cF lo B)/\Sm lo/\Sm B/\(B-lo).toNat<=sizeLine/\∀l,H l=none->Q (.ref l) (upd H l<|.lst ((BS lo B).map V.int))):=by
 intro π s σ H xs us Q I r h;replace h:=F9 h;obtain⟨p,lo,B,rfl,L,⟨O,Y⟩,⟨l3,l4⟩,J,q⟩:=h
 obtain⟨u,rfl,rx⟩:=As<|Dq r;cases rx;obtain⟨t,u,v,e⟩:=I.ai p _ L;have mR:(B-lo).toNat<=2 ^ 24:=J;refine call_list_range (n:=(B-lo).toNat) (I.ok.hd hc) e (small_one O Y l3 l4) (by rw[rangeSize_one];split<;>omega) mR λh' tk D c hk hl ha=>?_;refine⟨.ref s.heap.objs.size,_,I.laid (t':=tk) hk (Ua _) (show Bs X.prog X.w _ h' _ (.lst<|(BS lo B).map V.int) from⟨?_,D.toList,c,AcE ha,by simpa using hl⟩),rfl,q _ I.fresh⟩;rwa[TN,L5]
def Fu(hc:X.calm=true):B0 X (.type "list") (λxs H Q=>(∃p ys,xs=[.ref p]/\(A3 X.K H p ys\/Bw X.K H p ys)/\∀l,H l=none->Q (.ref l) (upd H l<|.lst ys)) \/
  ∃p lo B,xs=[.ref p]/\H p=some (.cF lo B)/\Sm lo/\Sm B/\(B-lo).toNat<=sizeLine/\∀l,H l=none->Q (.ref l) (upd H l<|.lst ((BS lo B).map V.int))):=AbI.or<|AcF hc
def P9:UY "range"=some (.type "range"):=by decide +kernel
theorem L6{α:Type} [BEq α] [LawfulBEq α] {f:α->V}:∀{ns:List α}{us:List af}{n:α},AA (ns.map f) us->AA ((ns.erase n).map f) (us.eraseIdx (ns.idxOf n))
 |[],[],_,_=>.nil
 |a::ns,u::us,n,.cons r t=>by
  rw [List.erase_cons,wY];cases q:a == n with
  |true=>simpa using t
  |false=>simpa using Paired.cons r (L6 t)
def AcG(X:Cx):V->List V->Hp->VK->Prop:=λx vs H Q=>(∃(l:ar)(ns:List Int)(n:Int),x=.ref l/\vs=[.int n]/\H l=some (.lst (ns.map V.int))/\n∈ns/\Q .aa (upd H l (.lst ((ns.erase n).map V.int)))) \/
 ∃(l:ar)(ns:List bf)(n:bf),x=.ref l/\vs=[.str n]/\H l=some (.lst (ns.map V.str))/\n∈ns/\Q .aa (upd H l (.lst ((ns.erase n).map V.str)))
theorem L7{α:Type} [BEq α] [LawfulBEq α]:∀{ns:List α}{n a:α}{m:Nat},m<ns.idxOf n->ns[m]?=some a->(a == n)=false
 |[],_,_,_,_,e=>by simp at e
 |b::ns,n,a,m,h,e=>by
  rw [wY]at h;cases q:b == n with
  |true=>rw[q]at h;simp at h
  |false =>
   rw [q]at h;cases m with
   |zero=>simp at e;rw[<-e];exact q
   |succ m=>exact L7 (ns:=ns) (m:=m) (by simpa using h) (by simpa using e)
def L8{α:Type} [BEq α] [LawfulBEq α] {ns:List α} {n:α} (h:n∈ns):ns[ns.idxOf n]?=some n:=by have B:=ZG h;rw[Uh B,List.getElem_idxOf B]
def L9{ns:List Int}{us:List af}(r:AA (ns.map V.int) us)(j:Nat)(h:j<us.length):∃a t,ns[j]?=some a/\us[j]=.int a t:=by have B:=r.length;rw[TN]at B;obtain⟨u,hu,⟨t,rfl⟩⟩:=As<|r.get (i:=j) (x:=.int<|ns[j]'(by omega)) (by rw[T6,Uh<|by omega];rfl);rw[Uh h]at hu;exact⟨_,t,Uh<|by omega,Us hu⟩
def Ma{ns:List bf}{us:List af}(r:AA (ns.map V.str) us)(j:Nat)(h:j<us.length):∃a t,ns[j]?=some a/\us[j]=.str a t:=by have B:=r.length;rw[TN]at B;obtain⟨u,hu,⟨t,rfl⟩⟩:=As<|r.get (i:=j) (x:=.str<|ns[j]'(by omega)) (by rw[T6,Uh<|by omega];rfl);rw[Uh h]at hu;exact⟨_,t,Uh<|by omega,Us hu⟩
noncomputable def Mb(n:Int):af->Bool
 |.int a _=>a == n
 |_=>false
noncomputable def Mc(n:bf):af->Bool
 |.str a _=>a == n
 |_=>false
def Qa:J8 X "list.remove" (AcG X):=by
 intro π s σ H x vs v us Q I rx rv h;rcases h with ⟨l,B,n,rfl,rfl,L,O,q⟩|⟨l,B,n,rfl,rfl,L,O,q⟩
 .cases rx;obtain⟨u,rfl,t,rfl⟩:=As rv.one;obtain⟨z,its,c,r,V,e⟩:=I.fo L;rw[TN]at V;have hj:B.idxOf n<B.length:=ZG O;refine Xh wZ ⟨_,e,rfl⟩ w5 (w6 _ _)
   (xa l its.toArray c (.int n t) (Mb n) (λy hy=>?_) (B.idxOf n) (by rw[UB];omega) ?_ (λm Y aU=>?_)<|by rw[UB,<-V];simpa using z) ⟨e,?_⟩
  .obtain ⟨k,hk,rfl⟩:=V0 (by simpa using hy:y∈its);obtain⟨a,t',_,D⟩:=Bv<|L9 r k hk;rw[D];exact MeetsSeq.EqGives.int _ _ _ _
  .obtain ⟨a,t',J,D⟩:=Bv<|L9 r (B.idxOf n) (by omega);rw[L8 O]at J;cases J;show Mb n its[B.idxOf n]=true;rw[D];exact beq_self_eq_true n
  .obtain ⟨a,t',J,D⟩:=Bv<|L9 r m (by simpa using Y);show Mb n (its[m]'(by simpa using Y))=false;rw[D];exact L7 aU J
  .refine ⟨.aa,_,I.ki (its':=its.eraseIdx<|B.idxOf n) L e (by simp[Zu]) (L6 r) ?_,rfl,q⟩;have:=ZH (a:=n) (l:=B);rw[TN]at z ⊢;omega
 .cases rx;obtain⟨u,rfl,t,rfl⟩:=As rv.one;obtain⟨z,its,c,r,V,e⟩:=I.fo L;rw[TN]at V;have hj:B.idxOf n<B.length:=ZG O;refine Xh wZ ⟨_,e,rfl⟩ w5 (w6 _ _)
   (xa l its.toArray c (.str n t) (Mc n) (λy hy=>?_) (B.idxOf n) (by rw[UB];omega) ?_ (λm Y aU=>?_)<|by rw[UB,<-V];simpa using z) ⟨e,?_⟩
  .obtain ⟨k,hk,rfl⟩:=V0 (by simpa using hy:y∈its);obtain⟨a,t',_,D⟩:=Bv<|Ma r k hk;rw[D];exact eqGives_str _ _ _ _
  .obtain ⟨a,t',J,D⟩:=Bv<|Ma r (B.idxOf n) (by omega);rw[L8 O]at J;cases J;show Mc n its[B.idxOf n]=true;rw[D];exact beq_self_eq_true n
  .obtain ⟨a,t',J,D⟩:=Bv<|Ma r m (by simpa using Y);show Mc n (its[m]'(by simpa using Y))=false;rw[D];exact L7 aU J
  .refine ⟨.aa,_,I.ki (its':=its.eraseIdx<|B.idxOf n) L e (by simp[Zu]) (L6 r) ?_,rfl,q⟩;have:=ZH (a:=n) (l:=B);rw[TN]at z ⊢;omega
end
def AO(P:TR)(w:TL)(K:TH)(mg:bf->Option af)(base:Heap)(CX:Cj)(k:Nat)(C:ar)(m:bf)(ps:List bf)(sp:Sp):Prop :=
 ∃f fd,J0 K C m f/\DO K fd ps []/\AB P w K mg base CX k f fd ps sp
def Gu(P:TR)(w:TL)(K:TH)(mg:bf->Option af)(base:Heap)(CX:Cj)(k:Nat)(C:ar)(x:bf)(ps:List bf)(sp:Sp):Prop :=
 ∃f fd,mg x=some (.ref C)/\Mk K C f/\DO K fd ps []/\AB P w K mg base CX k f fd ps sp
section
variable {X:Cx}{CX:Cj}{k:Nat}{C:ar}{ps:List bf}{sp:Sp}{E:XK}{x m:bf}{p pos apos:Pos}{e o:TM}{es:List TM}{ta:TE}{t:TA}{W:St->XK}
def A7{pl:Sem Bool}(D:AO X.prog X.w X.K X.mg X.base CX k C m ps sp)(c:CN X.K C)(I:PE X o ta)(J:By k X.A)(hx:Dr CX X E)(L:PA X (e::es) t)(O:T5 (e::es) X.env=(false,T7 e X.env)::T5 es X.env:=by rfl)(V:(UA pos<|T5 es X.env).any (·.1)=false:=by rfl)(Y:T7 (.Call (.Attribute o m apos) (e::es) [] pos) X.env=(T7 o X.env >>= λB=>Vo apos.atName >>= λ_=>Vl [B] (V7 B m pl) >>= λff=>Ww pos ff.1 ff.2 (UA pos<|T5 (e::es) X.env)<|VU pos (VX [] X.env)):=by rfl) :
  PE X (.Call (.Attribute o m apos) (e::es) [] pos) (J3 C m sp [] E ta t):=by
 obtain⟨f,fd,hm,hb,F⟩:=BA D;exact Abj (pl:=pl) I c hm F J hb .nil hx L O V Y
def FO (D:AO X.prog X.w X.K X.mg X.base CX k C m ps sp)(c:CN X.K C)(I:PE X o ta)(J:By k X.A)(hx:Dr CX X E)(L:T7 (.Call (.Attribute o m apos) [] [] pos) X.env=(T7 o X.env >>= λB=>Vo apos.atName >>= λ_=>Vl [B] (V7 B m pl) >>= λff=>Ww pos ff.1 ff.2 (UA pos<|T5 [] X.env)<|VU pos (VX [] X.env)):=by rfl):
  PE X (.Call (.Attribute o m apos) [] [] pos) (J3 C m sp [] E ta BP):=by
 obtain⟨f,V,O,hb,F⟩:=BA D;exact Abk (pl:=pl) I c O F J hb .nil hx L
def AcH(C:ar)(m:bf)(sp:Sp)(W:St->XK)(ta:TE)(t:TA):TE:=λσ H Q=>ta σ H λx H1=>∃a dx fs,x=.ref a/\H1 a=some (.ins C dx fs)/\fs.lookup m=none/\t σ H1 λvs H2=>sp (x::vs) H2 Q (W σ)
def AcI{f:ar}{B:T3}{π:List (ar×Obj)}{σ:St}{H:Hp}{s:TK}{Q:VK}{us:List af}{vs:List V}(F:AB X.prog X.w X.K X.mg X.base CX k f B ps sp)(D:By k X.A)(hb:DO X.K B ps [])(hx:Ka CX X W)(I:Ad X π σ H s)(r:AA vs us)(h:sp vs H Q (W σ)):TQ (TV X.prog X.w) X.A (call (.ref f) us) (EP X π σ Q) X.xe s:=by
 have J:(us++[]).length=ps.length:=by rw[Vi,<-r.length];exact F.len _ _ _ _ h
 refine Yv<|Xd (F.run X.A X.stack s H ⟨us,[]⟩ us vs Q (W σ) D I.mi (by simpa using hb s us I.aN J) r h) λr L hq=>?_;match r,hq with
 |.error e,hq=>exact hx π σ H s e L I hq
 |.ok (.ret u),hq=>exact I.after hq
def AcJ{pl:Sem Bool}(D:AO X.prog X.w X.K X.mg X.base CX k C m ps sp)(c:CN X.K C)(Y:PE X o ta)(hr:By k X.A)(hx:Ka CX X W)(ha:PA X (e::es) t)(aH:T5 (e::es) X.env=(false,T7 e X.env)::T5 es X.env:=by rfl)(aS:(UA pos<|T5 es X.env).any (·.1)=false:=by rfl)(ht:T7 (.Call (.Attribute o m apos) (e::es) [] pos) X.env=(T7 o X.env >>= λJ=>Vo apos.atName >>= λ_=>Vl [J] (V7 J m pl) >>= λff=>Ww pos ff.1 ff.2 (UA pos<|T5 (e::es) X.env)<|VU pos (VX [] X.env)):=by rfl) :
  PE X (.Call (.Attribute o m apos) (e::es) [] pos) (AcH C m sp W ta t):=by
 obtain⟨f,fd,L,hb,F⟩:=BA D;intro π s σ H Q I h;refine Xz (pl:=pl) (Ar (Y π s σ H _ I h) λu s1 B=>AF B λx H1 O rx zz=>?_) ht;obtain⟨a,dx,fs,ex,ea,l,q⟩:=C7 zz;subst ex;cases rx;refine IF O ea c L l<|Xy (first:=[.ref a]) (h₀:=X.base) I.ok.mod.d2 L.kp (Ar (ha pos π s1 σ H1 _ O q) λus s2 B=>AF B λvs H2 V r q2=>⟨V.aN,?_⟩) aH aS;exact AcI (us:=.ref a::us) (vs:=.ref a::vs) F hr hb hx V (.cons rfl r) q2
def Ja(D:Gu X.prog X.w X.K X.mg X.base CX k C x ps sp)(g:Gm X.env.scope x)(B:By (k+1) X.A)(hx:Dr CX X E)(I:PA X (e::es) t)(J:T5 (e::es) X.env=(false,T7 e X.env)::T5 es X.env:=by rfl)(L:(UA pos<|T5 es X.env).any (·.1)=false:=by rfl) :
  PE X (.Call (.Name x p) (e::es) [] pos) (O5 C sp [] E t):=by
 obtain⟨f,V,O,M,hb,F⟩:=BA D;exact Abm M F B g.gl O hb .nil hx I g.db J L
end
structure Gv(sc:Scope)(x:bf):Prop where
 loc:sc.names.lookup x=some .cell
 db:(x == ("__debug__":bf))=false
 cd:(x == ("__classdict__":bf))=false
structure Qb(sc:Scope)(x:bf):Prop where
 loc:sc.names.lookup x=some .cell\/sc.names.lookup x=some .free
 db:(x == ("__debug__":bf))=false
 cd:(x == ("__classdict__":bf))=false
section
variable {X:Cx}{x:bf}{pos p:Pos}
def AS(i:Nat)(n:Gv X.env.scope x)(B:X.N[i]?=some x:=by rfl):PE X (.Name x pos) (Iq i):=Ly B (TY<|T2 n.loc) n.db n.cd
def GX(i:Nat)(n:Qb X.env.scope x)(B:X.N[i]?=some x:=by rfl):PE X (.Name x pos) (Iq i):=Ly B (TY n.loc) n.db n.cd
def Md(i:Nat){e:TM}{D:TE}{B:Pos}(I:X.N.Nodup)(n:Gv X.env.scope x)(J:PE X e D)(L:X.fn x=true:=by rfl)(O:X.N[i]?=some x:=by rfl)(hs:Wf e (some<|.Name x B) pos.line X.env=pure false:=by rfl) :
  PS X (.Assign [.Name x B] e pos) (Gd D<|Fh i):=OB I O (TY n.loc) J hs<|T2 L
def Nm.comp (n:Nm sc x):Nm (VZ sc env) x:=⟨PU n.loc rfl,n.db,n.cd⟩
def Gm.comp (n:Gm sc x):Gm (VZ sc env) x:=⟨PU n.gl rfl,n.db,n.nn⟩
structure FP(sc:Scope)(x:bf):Prop where
 loc:sc.names.lookup x=some .free
 db:(x == ("__debug__":bf))=false
 cd:(x == ("__classdict__":bf))=false
def FP.comp (n:FP sc x):Qb (VZ sc env) x:=⟨PR n.loc,n.db,n.cd⟩
end
section
variable {X:Cx}
def Jb:OC X (λo i H Q=>∃p xs k v,o=.ref p/\i=.int k/\0<=k/\A3 X.K H p xs/\Cb xs k=some v/\Q v H):=by
 intro π s σ H o i ov iv Q I J L h;replace h:=Im h;obtain⟨p,xs,k,z,rfl,rfl,B,hq,O,q⟩:=h
 cases J;obtain⟨t,rfl⟩:=L;obtain⟨its,r,pl,hz⟩:=AG<|I.list hq;obtain⟨j,D,h2,h3,h4,V⟩:=AG<|J5 O;obtain⟨w,Y,bo⟩:=As<|r.get h2;have hn:=Gi;have hj:k.toNat=j:=by rw[Yx B V]at D;exact Us D
 exact wpAny_getItem_list pl.isList B (by omega) (by rw[hj];simpa using Y) ⟨z,H,I,bo,q⟩
def Jc:B0 X (.type "int") (λxs H Q=>(∃k,xs=[.bl k]/\Q (.int (if k then 1 else 0)) H)\/(∃i,xs=[.int i]/\Q (.int i) H)\/∃z n,xs=[.str z]/\Yb z=some n/\z.length<=640/\Q (.int n) H):=by
 intro π s σ H xs us Q I r h;rcases h with h|h|h
 .exact OY π s σ H xs us Q I r (.inr h)
 .exact OY π s σ H xs us Q I r (.inl h)
 .exact Ack π s σ H xs us Q I r h
def BK.mk' (J:sc.kind=.function)(h2:∀y∈sc.names,y.2≠.cell)(L:∀y∈sc.names,y.2=.local->sc.names.lookup y.1=some .local)(O:∀y∈sc.names,y.2=.free->D.names.lookup y.1=some .cell\/D.names.lookup y.1=some .free)(V:B.Nodup)(Y:I.length=B.length)(h7:∀p∈I.zip B,∀j∈p.1,N[j]?=some p.2/\sc.names.lookup p.2=some .free/\(D.names.lookup p.2=some .cell\/D.names.lookup p.2=some .free)):BK sc D B N I :=
 ⟨J,h2,L,O,V,Y,λi j e=>by
  have hi:i<I.length:=(UM.mp e).1;obtain⟨x,hx⟩:∃x,B[i]?=some x:=⟨B[i]'(by omega),Uh<|by omega⟩;have hz:(I.zip B)[i]?=some (some j,x):=by rw[List.getElem?_zip_eq_some];exact⟨e,hx⟩
  obtain⟨a,b,c⟩:=AU<|h7 _ (Ug hz) j rfl;exact⟨x,hx,a,b,c⟩⟩
def AcK:∀n:Nat,n<1001->(TU<|toString (n:Int)).length<=10:=by decide +kernel
def Jd (O:PE X e J):PE X (.FormattedValue e (-1) none pos) (λσ H Q=>J σ H λx B=>(∃i:Int,x=.int i/\0<=i/\i<=1000/\∀z:bf,z.length<=10->Q (.str z) B)\/∃z,x=.str z/\z.length<=sizeLine/\Q (.str z) B):=by
 intro π s σ H Q I h;refine wpAny_FormattedValue_plain<|Ar (O π s σ H _ I h) λv s1 V=>AF V λx B D L Y=>?_;rcases Y with ⟨i,rfl,h0,h1,q⟩|⟨z,rfl,hz,q⟩
 .obtain ⟨t,rfl⟩:=L;obtain⟨n,rfl⟩:=YJ h0;have hn:n<1001:=by omega
  refine wpAny_formatField_int ?_ ⟨.str _,B,D.tok _,⟨_,rfl⟩,q _<|AcK n hn⟩;have:(n:Int).natAbs=n:=rfl;rw[this];exact UE (Nat.log2_le_self n)<|by omega
 .obtain ⟨t,rfl⟩:=L;exact wV ⟨.str _,B,D,⟨_,rfl⟩,q⟩ ⟨.str _,B,D.tok _,⟨_,rfl⟩,q⟩ hz
end
section
variable {K:TH}{a D:ar}{xs:List V}{g:TG}{tt:TT}{te:TE}{σ0:St}{H:Hp}{Q:Hp->Prop}
abbrev Fv(D:ar)(tt:TT)(te:TE)(N:St->Hp->Prop):St->Hp->Prop:=LU tt (LY te D) N
def Qc{T:(St->Hp->Prop)->St->Hp->Prop}{Q:St->Hp->Prop}{σ:St}(Pv:Nat->St->Hp->Prop)(J:Pv 0 σ H)(B:∀i σ H,i<=xs.length->Pv i σ H->A3 K H a xs)(hs:∀i x t σ H,xs[i]?=some x->Pv i σ H->H t=none->g (.ref t) σ (upd H t<|.tup [.int i,x]) (T<|Pv (i+1)))(hd:∀σ H,Pv xs.length σ H->Q σ H):CW (I0 K a) g T σ H Q :=
 GK xs.length Pv J (λi σ H I p=>have q:=B i σ H (Wm I) p;⟨⟨xs,xs[i],q,by simp[I]⟩,λx H' L=>FG L λt y e O Y hy=>by subst e Y;exact hs i y t σ H (hy xs q) p O⟩) λσ H p=>⟨⟨xs,B _ σ H (Ua _) p,Ua _⟩,hd σ H p⟩
def AcL(Pv:Nat->St->Hp->Prop)(I:Pv 0 σ0 (upd H D<|.lst []))(J:∀i σ H,i<=xs.length->Pv i σ H->A3 K H a xs)(hs:∀i x t σ B,xs[i]?=some x->Pv i σ B->B t=none->g (.ref t) σ (upd B t<|.tup [.int i,x]) (Fv D tt te<|Pv (i+1)))(hd:∀σ B,Pv xs.length σ B->Q B):CW (I0 K a) g (Fv D tt te) σ0 (upd H D<|.lst []) λ_=>Q :=
 Qc Pv I J hs hd
def Kh(Pv:Nat->St->Hp->Prop)(I:Pv 0 σ0 (upd H D<|.lst []))(J:∀i σ H,i<=xs.length->Pv i σ H->A3 K H a xs)(hs:∀i x σ B,xs[i]?=some x->Pv i σ B->g x σ B (Fv D tt te<|Pv (i+1)))(hd:∀σ B,Pv xs.length σ B->Q B):CW (Hu K a) g (Fv D tt te) σ0 (upd H D<|.lst []) λ_=>Q :=
 LD Pv I J hs hd
def Qd{lo:Int}{n:Nat}(Pv:Nat->St->Hp->Prop)(I:Pv 0 σ0 (upd H D<|.lst []))(hs:∀i σ B,i<n->Pv i σ B->g (.int<|lo+i) σ B (Fv D tt te<|Pv (i+1)))(hd:∀σ B,Pv n σ B->Q B):CW (GJ lo n) g (Fv D tt te) σ0 (upd H D<|.lst []) λ_=>Q :=
 OK Pv I hs hd
def Qe{I:TS}{E:D9}{σ:St}(Pv:Nat->St->Hp->Prop)(J:Pv 0 σ H)(L:∀i σ H,i<=xs.length->Pv i σ H->A3 K H a xs)(hs:∀i x t σ H,xs[i]?=some x->Pv i σ H->H t=none->g (.ref t) σ (upd H t<|.tup [.int i,x]) λσ2 B=>I { E with nx:=Pv<|i+1,ct:=Pv<|i+1,bk:=E.nx } σ2 B)(hd:∀σ H,Pv xs.length σ H->E.nx σ H):CW (I0 K a) g (λN σ2 B=>I { E with nx:=N,ct:=N,bk:=E.nx } σ2 B) σ H E.nx :=
 Qc Pv J L hs hd
end
section
variable {X:Cx}(K:TH)(h:X.K=K)
include h
def AcM:Fn X (Ph K):=h▸AZ
def AcN(hu:X.A.units+64<cLine):Bh X (UO .NotEq) (λx y H Q=>LG x y H Q\/IP K true x y H Q):=h▸Ez hu
def HK (n:Nat)(hc:X.calm=true)(B:Iv X es t)(D:(Wo es X.env).length=n)(I:(Wo es X.env).findIdx? (·.1)=none):PG X (.Tuple es k pos) (OA K n t):=h▸FK hc B D I
def AcO:Bh X (UO .In) (λx y H Q=>(∃i j,x=.str i/\y=.str j/\Q (.bl<|HB i j) H)\/IL K false x y H Q):=h▸Gp
end
section
variable {κ:Type} [DecidableEq κ]
noncomputable def Ba(kvs:List (κ×V))(k:κ):Option V:=(kvs.find? λkv=>decide (kv.1=k)).map (·.2)
noncomputable def BU(kvs:List (κ×V))(k:κ)(v:V):List (κ×V) :=
 if (kvs.any λkv=>decide (kv.1=k))=true then kvs.map (λkv=>if kv.1=k then(kv.1,v)else kv)else kvs++[(k,v)]
def FQ{p:κ×V}{r:List (κ×V)}{k:κ}(e:p.1=k):Ba (p::r) k=some p.2:=by simp[Ba,V1,e]
def EU{p:κ×V}{r:List (κ×V)}{k:κ}(e:¬p.1=k):Ba (p::r) k=Ba r k:=by simp[Ba,V1,e]
theorem Ki(k:κ):∀kvs:List (κ×V),(kvs.any λkv=>decide (kv.1=k))=(Ba kvs k).isSome
 |[]=>rfl
 |p::r=>by
  rw [XY];by_cases e:p.1=k
  .simp only[FQ e,c8 e,Bool.true_or,Option.isSome_some]
  .rw[EU e,dJ e,Bool.false_or];exact Ki k r
theorem Kj(k j:κ)(y:V):∀kvs:List (κ×V),Ba kvs k=none->Ba (kvs++[(k,y)]) j=if j=k then some y else Ba kvs j
 |[],_=>by
  by_cases e:k=j
  .rw[br e.symm];exact FQ (p:=(k,y)) e
  .rw[cZ (λz=>e z.symm)];exact EU (p:=(k,y)) e
 |p::r,hn=>by
  rw [Wa];have hk:¬p.1=k:=λz=>by rw[FQ z]at hn;cases hn
  rw [EU hk]at hn;have ih:=Kj k j y r hn;by_cases e:p.1=j
  .rw[FQ e,FQ e,cZ (λz=>hk (e.trans z))]
  .rw[EU e,EU e,ih]
def Kk(kvs:List (κ×V))(k:κ)(v:V):(BU kvs k v).length<=kvs.length+1:=by
 unfold BU;split
 .rw[TN];omega
 .rw[UK,U2,YK];omega
def Kl{kvs:List (κ×V)}{k:κ}(v:V)(h:Ba kvs k=none):BU kvs k v=kvs++[(k,v)]:=by unfold BU;rw[Ki,h];exact cZ<|by decide
def C8.rX (r:C8 o u):o.isSome=u.isSome:=by
 cases o with
 |none=>cases u with
  |none=>rfl
  |some _=>exact(show False from r).elim
 |some _=>cases u with
  |none=>exact(show False from r).elim
  |some _=>rfl
def C8.getD (r:C8 o u)(B:AH d d'):AH (o.getD d) (u.getD d'):=by
 cases o with
 |none=>cases u with
  |none=>exact B
  |some _=>exact(show False from r).elim
 |some _=>cases u with
  |none=>exact(show False from r).elim
  |some _=>exact r
def KV.val (r:KV kvs vs)(k:κ):C8 (Ba kvs k) (WL vs k):=by
 unfold KV at r;induction r with
 |nil=>exact Vv
 |@cons p q I qs h t ih =>
  obtain⟨D,h2⟩:=h;by_cases e:p.1=k
  .have B:q.1=k:=D.symm.trans e;have b:WL (q::qs) k=some q.2:=by simp[WL,V1,B]
   rwa[FQ e,b]
  .have B:¬q.1=k:=λz=>e<|D.trans z;have b:WL (q::qs) k=WL qs k:=by simp[WL,V1,B]
   rwa[EU e,b]
def KV.any (r:KV kvs vs)(k:κ):(kvs.any λkv=>decide (kv.1=k))=vs.any λkv=>decide (kv.1=k):=by
 unfold KV at r;induction r with
 |nil=>rfl
 |cons h t ih=>rw[XY,XY,ih,h.1]
def KV.mS{kvs:List (κ×V)}{vs:List (κ×af)}(r:KV kvs vs)(k:κ){y:V}{u:af}(D:AH y u) :
  KV (kvs.map λkv=>if kv.1=k then(kv.1,y)else kv) (vs.map λkv=>if kv.1=k then(kv.1,u)else kv):=by
 unfold KV at r ⊢;induction r with
 |nil=>exact .nil
 |@cons p q I qs h t ih =>
  rw [UR,UR];refine .cons ?_ ih;obtain⟨B,h2⟩:=h;by_cases e:p.1=k
  .rw[br e,br<|B.symm.trans e];exact⟨B,D⟩
  .rw[cZ e,cZ λz=>e<|B.trans z];exact⟨B,h2⟩
def KV.put{kvs:List (κ×V)}{vs:List (κ×af)}(r:KV kvs vs)(k:κ){y:V}{u:af}(B:AH y u):KV (BU kvs k y) (stored vs k u):=by
 unfold BU stored;rw[r.any k];by_cases e:(vs.any λkv=>decide (kv.1=k))=true
 .rw[br e,br e];exact r.mS k B
 .rw[cZ e,cZ e];exact Paired.snoc r ⟨rfl,B⟩
def KV.keys{kvs:List (κ×V)}{vs:List (κ×af)}(r:KV kvs vs):kvs.map (·.1)=vs.map (·.1):=by
 unfold KV at r;induction r with
 |nil=>rfl
 |cons h t ih=>rw[UR,UR,ih,h.1]
def KV.length{kvs:List (κ×V)}{vs:List (κ×af)}(r:KV kvs vs):kvs.length=vs.length:=Paired.length r
end
def Gw (r:AH (kV k) u):(BB P w).is k u=true:=by
 cases k with
 |inl i=>obtain⟨t,e⟩:=(show ∃t,u=U7 i t from r);subst e;exact Aag P w i t
 |inr x=>obtain⟨t,e⟩:=(show ∃t,u=UU x t from r);subst e;exact Hs P w x t
theorem Qf:∀{ks:List Ay}{us:List af},AA (ks.map kV) us->ItemsAre (BB P w) ks us
 |[],_,r=>by rw[Xi]at r;cases r;exact .nil
 |k::ks,_,r=>by
  rw [UR]at r;cases r with
  |cons h t=>exact .cons (Gw h) (Qf t)
abbrev KT(H:Hp):List (List Ay×V)->List (List Ay×ar×af)->Prop:=Paired λp q=>p.1=q.1/\H q.2.1=some (.tup (p.1.map kV))/\AH p.2 q.2.2
def KT.val (r:KT H kvs xs)(k:List Ay):C8 (Ba kvs k) ((Wj xs k).map (·.2)):=by
 induction r with
 |nil=>exact Vv
 |@cons p q I qs h t ih =>
  obtain⟨D,_,h2⟩:=AU h;by_cases e:p.1=k
  .have B:q.1=k:=D.symm.trans e;have b:Wj (q::qs) k=some q.2:=by simp[Wj,V1,B]
   rwa[FQ e,b]
  .have B:¬q.1=k:=λz=>e<|D.trans z;have b:Wj (q::qs) k=Wj qs k:=by simp[Wj,V1,B]
   rwa[EU e,b]
def KT.mS (r:KT H kvs xs)(k:List Ay)(D:AH y u):
  KT H (kvs.map λkv=>if kv.1=k then(kv.1,y)else kv) (xs.map<|putAt k u):=by
 induction r with
 |nil=>exact .nil
 |@cons p q J qs h t ih =>
  rw [UR,UR];refine .cons ?_ ih;obtain⟨B,h2,I⟩:=AU h;unfold putAt;by_cases e:p.1=k
  .rw[br e,br<|B.symm.trans e];exact⟨B,h2,D⟩
  .rw[cZ e,cZ λz=>e<|B.trans z];exact⟨B,h2,I⟩
def KT.put (r:KT H kvs xs)(k:List Ay)(hb:H b=some (.tup<|k.map kV))(B:AH y u):
  KT H (BU kvs k y) (storedH xs k b u):=by
 have e:(kvs.any λkv=>decide (kv.1=k))=(Wj xs k).isSome:=by rw[Ki,(r.val k).rX,xb]
 unfold BU storedH;rw[e];by_cases q:(Wj xs k).isSome=true
 .rw[br q,br q];exact r.mS k B
 .rw[cZ q,cZ q];exact Paired.snoc r ⟨rfl,hb,B⟩
def KT.keeps (r:KT H kvs xs)(D:∀b ys,H b=some (.tup ys)->B b=some (.tup ys)):KT B kvs xs :=
 Paired.lQ r λ_ _ z=>⟨z.1,D _ _ z.2.1,z.2.2⟩
section
variable {P:TR}{w:TL}{H:Hp}{h:Heap}{a:ar}
def Qg (ok:A1 P w H h)(e:Rd H a u):Bs P w H h a u:=e.ok ok
def Je (ok:A1 P w H h)(e:Rd H a (.dK kvs)):kvs.length<=sizeLine/\(a == Vk)=false/\∃vs,KV kvs vs/\h.DictOf (BB P w) a vs :=
 show Bs P w H h a (.dK kvs)from Qg ok e
def Me (ok:A1 P w H h)(e:H a=some (.dK kvs)):kvs.length<=sizeLine/\(a == Vk)=false/\∃vs,KV kvs vs/\h.DictOf (BB P w) a vs:=Je ok<|.inl e
def Km (ok:A1 P w H h)(e:H a=some (.tup<|ks.map kV)):(Xr<|BB P w).is h ks a:=by obtain⟨_,its,r,o,B,h2,n,D⟩:=(show Bs P w H h a (.tup<|ks.map kV)from ok a _ e);exact⟨o,its.toArray,n,B,h2,D,by simpa using Qf r⟩
def Kn (ok:A1 P w H h)(e:Rd H a (.dT kvs)):kvs.length<=sizeLine/\(a == Vk)=false /\
  ∃xs,KT H kvs xs/\h.DictOfH (Xr<|BB P w) a xs:=by
 obtain⟨z,y,xs,r,o,es,B,D,h2,I,J,L⟩:=AU<|(show Bs P w H h a (.dT kvs)from Qg ok e);refine⟨z,y,xs,r,o,es,B,D,h2,I,J,λx hx=>?_,L⟩;have all:∀{l:List (List Ay×V)}{m:List (List Ay×ar×af)},KT H l m->∀x∈m,(Xr<|BB P w).is h x.1 x.2.1:=by
  intro l m q;induction q with
  |nil=>intro x hx;exact nomatch hx
  |@cons p q O qs hq t ih =>
   intro x hx;rcases T9.mp hx with e|hx
   .subst e;exact Km ok<|by rw[<-hq.1];exact hq.2.1
   .exact ih x hx
 exact all r x hx
def AcP (ok:A1 P w H h)(e:H a=some (.dT kvs)):kvs.length<=sizeLine/\(a == Vk)=false /\
  ∃xs,KT H kvs xs/\h.DictOfH (Xr<|BB P w) a xs:=Kn ok<|.inl e
end
def Gx(H:Hp)(a:ar)(y:V)(r:Option V):Prop :=
 (∃kvs k,Rd H a (.dK kvs)/\y=kV k/\r=Ba kvs k)\/∃kvs k b,Rd H a (.dT kvs)/\y=.ref b/\H b=some (.tup (k.map kV))/\r=Ba kvs k
def Ef(H:Hp)(a:ar)(y v:V)(H':Hp):Prop :=
 (∃kvs k,H a=some (.dK kvs)/\y=kV k/\kvs.length<sizeLine/\H'=upd H a (.dK (BU kvs k v))) \/
 ∃kvs k b,H a=some (.dT kvs)/\y=.ref b/\H b=some (.tup (k.map kV))/\kvs.length<sizeLine/\H'=upd H a (.dT (BU kvs k v))
theorem Gx.k{H:Hp}{a:ar}{kvs:List (Ay×V)}{k:Ay}(e:H a=some (.dK kvs)):Gx H a (kV k) (Ba kvs k):=.inl ⟨kvs,k,.inl e,rfl,rfl⟩
theorem Ef.k{H:Hp}{a:ar}{kvs:List (Ay×V)}{k:Ay}{v:V}(e:H a=some (.dK kvs))(B:kvs.length<sizeLine):Ef H a (kV k) v (upd H a<|.dK (BU kvs k v)):=.inl ⟨kvs,k,e,rfl,B,rfl⟩
section
variable {X:Cx}{π:List (ar×Obj)}{σ:St}{H:Hp}{s:TK}{a:ar}{y v:V}{u r:af}{o:Option V}{A:Ud}{E:af->TK->Prop}
def Ad.big(I:Ad X π σ H s):Vk<s.heap.objs.size:=by have h:Uj<s.heap.objs.size:=(I.mod.glob.keeps I.bk).lt;exact Nat.lt_trans (by decide) h
def AcQ (hu:A.units+1<cLine)(I:Ad X π σ H s)(g:Gx H a y (some v))(ry:AH y u)(h:∀D s',Ad X π σ H s'->AH v D->Q D s'):
  TQ (TV X.prog X.w) A (WW (.ref a) u) Q E s:=by
 rcases g with ⟨J,k,e,L,l⟩|⟨J,k,b,e,L,eb,l⟩
 .subst L;obtain⟨z,hd,vs,B,O⟩:=AU<|Je I.ai e;obtain⟨D,hw,Y⟩:=As<|C8.some_of (v:=v) (o:=WL vs k) (by rw[l];exact B.val k);exact xc (Gw ry) O.mapOf hw<|h D _ (I.tok _) Y
 .subst L;cases(show u=T8 b from ry);obtain⟨z,hd,xs,B,O⟩:=AU<|Kn I.ai e;obtain⟨D,hw,Y⟩:=As (C8.some_of (v:=v) (o:=(Wj xs k).map (·.2))<|by rw[l];exact B.val k);obtain⟨p,hp,dH⟩:=As<|UG.mp hw;apply wpAny_getItem_heap (ZI hu) (Km I.ai eb) O hp;rw[dH];exact h D _ (I.tok _) Y
def Ko (I:Ad X π σ H s)(D:Ip (H a))(hs:Vb a s.heap h')(J:∃q,h'.get? a=some q)(new:Bs X.prog X.w (upd H a B) h' a B):
  Ad X π σ (upd H a B) { s with heap:=h',toks:=t' } :=
 I.write (x:=a) (e:=a) D (.inl rfl) (λb q hb z=>(hs.2 b hb).trans z) J new
def Mf (z:kvs.length<=sizeLine)(hd:(a == Vk)=false)(B:KV kvs vs)(dd:h'.DictOf (BB P w) a vs):
  Bs P w D h' a (.dK kvs):=⟨z,hd,vs,B,dd⟩
def Qh (hu:A.units+1<cLine)(I:Ad X π σ H s)(g:Ef H a y v H')(ry:AH y u)(rv:AH v r)(h:∀s',Ad X π σ H' s'->Q () s'):
  TQ (TV X.prog X.w) A (XT (.ref a) u r) Q E s:=by
 rcases g with ⟨B,k,e,L,l,O⟩|⟨B,k,b,e,L,eb,l,O⟩
 .subst L O;obtain⟨z,hd,vs,D,Y⟩:=AU<|Me I.ai e;have hz:vs.length<=sizeLine:=by rw[<-D.length];exact z
  have hl:(BU B k v).length<=sizeLine:=by have:=Kk B k v;omega
  refine wpAny_setItem_pairs (hsz:=hz) (Gw ry) Y λh' J hs=>h _ ?_;have he:∃q,h'.get? a=some q:=let ⟨q,_,_,hq,_⟩:=J;⟨q,hq⟩;exact Ko I (by rw[e];exact Vv) hs he<|Mf hl hd (D.put k rv) J
 .subst L O;cases(show u=T8 b from ry);obtain⟨z,hd,xs,D,Y⟩:=AU<|AcP I.ai e;have hz:xs.length<=sizeLine:=by rw[<-Paired.length D];exact z
  have hl:(BU B k v).length<=sizeLine:=by have:=Kk B k v;omega
  refine wpAny_setItem_heap (hsz:=hz) (ZI hu) (Km I.ai eb) Y λh' J hs=>h _ ?_;obtain⟨q,es,ep,hq,h2,h3,h4,_,h5⟩:=F9 J;refine Ko I (by rw[e];exact Vv) hs ⟨q,hq⟩ ⟨hl,hd,_,(D.put k eb rv).keeps λc ys ec=>?_,q,es,ep,hq,h2,h3,h4,h5⟩;rw[Aw<|JN ec e (λz=>nomatch z)];exact ec
end
section
variable {X:Cx}{π:List (ar×Obj)}{σ:St}{H:Hp}{s:TK}{a:ar}{kvs:List (Ay×V)}{k:Ay}{u:af}{A:Ud}{E:af->TK->Prop}
end
def Mg(i:TM):Prop:=∀ov iv,Yy i false ov iv=operate [ov,iv] (WW ov iv)
def AcR{prog:TR}{w:TL}{A:Ud}{E:af->TK->Prop}{s:TK}{env:Env}{value slice:TM}{pos:Pos}{T id:String}{Q:af->TK->Prop}(V:typeLookup (.type T) "__getitem__"=pure (some<|.builtin id))(hs:Mg slice)(h:TQ (TV prog w) A (T7 value env) (λo J=>TQ (TV prog w) A (T7 slice env) (λi D=>D.TypeIs o T/\TQ (TV prog w) A (WW o i) Q E D) E J) E s) :
  TQ (TV prog w) A (T7 (.Subscript value slice pos) env) Q E s:=by
 refine Zk<|Vu h (λo J Y=>Vu Y (λi D I=>?_) λ_ _ x=>x) λ_ _ x=>x;obtain⟨L,I⟩:=I;unfold Zl;apply TX;rw[getitemInPython_of_ne L.not_modules];refine TX<|wpAny_specialOf L V ?_;have B:TQ (TV prog w) A (Yy slice false o i) (λr O=>TQ (TV prog w) A (letTemporaryGo value o r >>= λ_=>pure r) Q E O) E D:=by rw[hs o i];exact wpAny_operating<|Vu I (λr O h₃=>TX<|wpAny_letTemporaryGo (Ub h₃)) λ_ _ x=>x
 first
  |exact Ub<|TX B
  |exact TX<|Ub (TX B)
  |exact TX B
def AcS(td ty tv:TE):TS:=λD σ H=>tv σ H λv H1=>td σ H1 λx H2=>ty σ H2 λy H3=>∃a H4,x=.ref a/\Ef H3 a y v H4/\D.nx σ H4
def AcT(td ty tv:TE)(rd:V->V->Hp->VK->Prop):TS:=λD σ H=>td σ H λx H1=>ty σ H1 λy H2=>∃a v,x=.ref a/\Gx H2 a y (some v) /\
 tv σ H2 λy2 H3=>rd v y2 H3 λz H4=>∃H5,Ef H4 a y z H5/\D.nx σ H5
section
variable {X:Cx}{o i e value:TM}{pos pos' iR:Pos}{td ty tv:TE}
def Ca(hu:X.A.units+1<cLine)(J:PE X o td)(L:PE X i ty)(hv:PE X value tv)(hs:Wf value (some<|.Subscript o i pos') pos.line X.env=pure false) :
  PS X (.Assign [.Subscript o i pos'] value pos) (AcS td ty tv):=by
 intro π s σ H D I h;refine wpAny_Assign_Subscript (Ar (hv π s σ H _ I h) λr O B=>AF B λv V Y rv q1=>Ar (J π O σ V _ Y q1) λu s2 B=>AF B λx H2 I2 rx q2=>Ar (L π s2 σ H2 _ I2 q2) λiv s3 B=>AF B λy H3 I3 ry zz=>?_) hs;obtain⟨a,H4,ex,g,q3⟩:=BA zz;subst ex;obtain rfl:u=T8 a:=rx;exact Qh hu I3 g ry rv λs4 I4=>⟨σ,H4,I4,q3⟩
def AcU (hu:X.A.units+1<cLine)(ho:PE X o td)(hi:PE X i ty)(hv:PE X value tv)(mh:J1 X Y rd)(ha:∀L J new,augStore i L J new=(do Vl [new,L,J] (XT L J new);release [new,L,J] [];pure .next)):PS X (.AugAssign (.Subscript o i iR) Y value pos) (AcT td ty tv rd):=by intro π s σ H D I h;refine v7 (Ar (ho π s σ H _ I h) λu s1 B=>AF B λx H1 I1 rx q1=>Ar (hi π s1 σ H1 _ I1 q1) λJ s2 B=>AF B λy H2 I2 ry zz=>?_) ha;obtain⟨a,v,ex,g,q2⟩:=BA zz;subst ex;obtain rfl:u=T8 a:=rx;refine AcQ hu I2 g ry λw' s3 I3 bo=>Ar (hv π s3 σ H2 _ I3 q2) λw2 s4 B=>AF B λy2 H3 I4 O q3=>Ar (mh π s4 σ H3 v y2 w' w2 _ I4 bo O q3) λw3 s5 B=>AF B λz H4 I5 rz ⟨H5,g5,q4⟩=>?_;exact Qh hu I5 g5 ry rz λs6 I6=>⟨σ,H5,I6,q4⟩
end
def Mh (h:Heap)(hb:Vk<h.objs.size):Bs P w H (h.push { cls:=.type "dict",data:=.dict #[] }) h.objs.size (.dK []) :=
 ⟨Vc _,beq_eq_false_iff_ne.mpr<|UC (Uz hb),[],.nil,Heap.DictOf.new h⟩
def AcV:TE:=λ_ H Q=>∀p,H p=none->Q (.ref p) (upd H p (.dK []))
section
variable {X:Cx}{pos:Pos}
def AcW:PE X (.Dict [] [] pos) AcV:=λπ s σ H Q I h =>
 wpAny_Dict_empty ⟨.ref s.heap.objs.size,_,I.laid (a:=s.heap.objs.size) (o:=.dK []) (t':=s.toks) (λ_ _ q=>Ut _ q) (Ua _)<|Mh s.heap I.big,rfl,h _<|I.ai.fresh (Ua _)⟩
end
def Mi:List (TE×TE)->St->Hp->(List (V×V)->Hp->Prop)->Prop
 |[],_,H,Q=>Q [] H
 | (tk,tv)::r,σ,H,Q=>tk σ H λx H1=>tv σ H1 λy H2=>Mi r σ H2 λps H3=>Q ((x,y)::ps) H3
abbrev VV:List (V×V)->List (af×af)->Prop:=Paired λp q=>AH p.1 q.1/\AH p.2 q.2
def Kp(X:Cx)(pos:Pos)(keys:List (Option TM))(values:List TM)(d9:List (TE×TE)):Prop :=
 ∀(π:List (ar×Obj))(s:TK)(σ:St)(H:Hp)(Q:List (V×V)->Hp->Prop),Ad X π σ H s->Mi d9 σ H Q ->
  TQ (TV X.prog X.w) X.A (evalPairs (pairTrees keys values X.env pos)) (λvs s'=>∃ps H',Ad X π σ H' s'/\VV ps vs/\Q ps H') X.xe s
def AcX:Kp X pos [] [] []:=λπ s σ H Q I h=>pairTrees_nil_walk ⟨[],H,I,.nil,h⟩
def Jf (hk:PE X k tk)(hv:PE X v J)(O:Kp X pos ks vs L):
  Kp X pos (some k::ks) (v::vs) ((tk,J)::L):=λπ s σ H Q I h =>
 pairTrees_cons_walk (Ar (hk π s σ H _ I h) λu V B=>AF B λx Y I1 rx q1=>Ar (hv π V σ Y _ I1 q1) λw2 s2 ⟨y,H2,I2,ry,q2⟩ =>
  Ar (O π s2 σ H2 _ I2 q2) λws s3 B=>AF B λps H3 I3 D q3=>⟨(x,y)::ps,H3,I3,.cons ⟨rx,ry⟩ D,q3⟩)
def HL(kvs more:List (Ay×V)):List (Ay×V):=more.foldl (λacc kv=>BU acc kv.1 kv.2) kvs
def KV.merge:∀{more:List (Ay×V)}{B:List (Ay×af)}{kvs:List (Ay×V)}{vs:List (Ay×af)},KV more B->KV kvs vs->KV (HL kvs more) (merged vs B):=by
 intro more B kvs vs r;unfold KV at r;induction r generalizing kvs vs with
 |nil=>intro q;exact q
 |@cons p q D qs h t ih =>
  intro r0;have e:KV (BU kvs p.1 p.2) (stored vs q.1 q.2):=by have:=r0.put p.1 h.2;rwa[<-h.1]
  exact ih e
theorem Qi:∀(more kvs:List (Ay×V)),(HL kvs more).length<=kvs.length+more.length
 |[],kvs=>by show kvs.length<=kvs.length+0;omega
 |p::r,kvs=>by
  have B:=Qi r (BU kvs p.1 p.2);have h2:=Kk kvs p.1 p.2;show(HL (BU kvs p.1 p.2) r).length<=_;rw[U2];omega
theorem Qj:∀{kvs:List (Ay×V)}{ws:List (af×af)},VV (kvs.map λkv=>(kV kv.1,kv.2)) ws->∃B,Carries (BB P w) ws B/\KV kvs B
 |[],_,r=>by rw[Xi]at r;cases r;exact⟨[],Vv,.nil⟩
 |p::kvs,_,r=>by
  rw [UR]at r;cases r with
  |@cons a b I bs h t =>
   obtain⟨B,c,q⟩:=As (Qj (P:=P) (w:=w) t);obtain⟨J,D⟩:=b;exact⟨(p.1,D)::B,⟨Gw h.1,rfl,c⟩,.cons ⟨rfl,h.2⟩ q⟩
def AcY(d9:List (TE×TE)):TE:=λσ H Q=>∀p,H p=none->Mi d9 σ (upd H p (.dK [])) λps H2=>H2 p=some (.dK [])/\∃kvs:List (Ay×V),ps=kvs.map (λkv=>(kV kv.1,kv.2))/\kvs.length<=15/\Q (.ref p) (upd H2 p (.dK (HL [] kvs)))
def AcZ{X:Cx}{pos:Pos}{keys:List (Option TM)}{B:List TM}{O:List (TE×TE)}(h:Kp X pos keys B O)(aA:keys.all (·.isSome)=true)(hl:keys.length=B.length)(h0:keys≠[])(J:keys.length<=15):PE X (.Dict keys B pos) (AcY O):=by
 intro π s σ H Q I q;have hn:=I.ai.fresh<|Ua s.heap.objs.size;have I1:=I.laid (a:=s.heap.objs.size) (o:=.dK []) (h':=s.heap.push { cls:=.type "dict",data:=.dict #[] }) (t':=s.toks) (λ_ _ q=>Ut _ q) (Ua _)<|Mh s.heap I.big;refine wpAny_Dict_walk (knd:=BB X.prog X.w) aA hl h0 J<|Ar (h π _ σ _ _ I1<|q _ hn) λws s2 zz=>AF zz λps H2 Y L zz=>?_;obtain⟨e,D,ep,lk,q2⟩:=zz;subst ep;obtain⟨rs,c,rk⟩:=As<|Qj (P:=X.prog) (w:=X.w) L;obtain⟨z,hd,vs0,r0,dd⟩:=AU<|Me Y.ai e;cases r0;refine⟨rs,c,dd,λV dI hs=>⟨.ref s.heap.objs.size,_,?_,rfl,q2⟩⟩;have hz:(HL [] D).length<=sizeLine:=by have h1:=Qi D [];rw[YK]at h1;rw[TZ];omega
 have he:∃q,V.get? s.heap.objs.size=some q:=let ⟨q,_,_,hq,_⟩:=dI;⟨q,hq⟩;exact Ko Y (by rw[e];exact Vv) hs he<|Mf hz hd (rk.merge .nil) dI
structure M1(X:Cx)(o:TM)(m:bf)(apos:Pos)(e:TM)(bg:Pos):Prop where
 base:XU o m X.env (T7 o X.env)=T7 o X.env
 aD:((UA bg (T5 [e] X.env)).all (λx=>!x.1) && (VU bg (VX [] X.env)).all (λx=>x.1.isSome)
  && decide (([e]:List TM).length+([]:List Xe).length+(if ([]:List Xe).isEmpty then 0 else 1)<30))=true
 line:(apos.endLine == bg.line)=true
 trees:UA bg (T5 [e] X.env)=[(false,T7 e X.env)]
structure M2(X:Cx)(o:TM)(m:bf)(apos:Pos)(e f:TM)(bg:Pos):Prop where
 base:XU o m X.env (T7 o X.env)=T7 o X.env
 aD:((UA bg (T5 [e,f] X.env)).all (λx=>!x.1) && (VU bg (VX [] X.env)).all (λx=>x.1.isSome)
  && decide (([e,f]:List TM).length+([]:List Xe).length+(if ([]:List Xe).isEmpty then 0 else 1)<30))=true
 line:(apos.endLine == bg.line)=true
 trees:UA bg (T5 [e,f] X.env)=[(false,T7 e X.env),(false,T7 f X.env)]
def Qk(H:Hp)(a:ar):Prop:=(∃kvs,Rd H a (.dK kvs))\/∃kvs,Rd H a (.dT kvs)
def Ac0{X:Cx}{π:List (ar×Obj)}{σ:St}{H:Hp}{s:TK}{a:ar}(I:Ad X π σ H s)(d:Qk H a) :
  s.TypeIs (.ref a) "dict"/\(∀b,T8 a=.ref b->∃B,s.heap.get? b=some B/\B.dict=none)/\(a == Vk)=false:=by
 rcases d with ⟨J,e⟩|⟨J,e⟩
 .obtain ⟨_,hd,vs,_,D⟩:=AU<|Je I.ai e;refine⟨D.typeIs,λb q=>?_,hd⟩;cases q;obtain⟨B,_,_,L,h2,_⟩:=C7 D;exact⟨B,L,h2.2.1⟩
 .obtain ⟨_,hd,O,_,D⟩:=AU<|Kn I.ai e;refine⟨D.typeIs,λb q=>?_,hd⟩;cases q;obtain⟨B,_,_,L,h2,_⟩:=C7 D;exact⟨B,L,h2.2.1⟩
section
variable {X:Cx}{π:List (ar×Obj)}{σ:St}{H:Hp}{s:TK}{a:ar}{y d:V}{u r:af}{o:Option V}{A:Ud}{E:af->TK->Prop}
def Ac1 (hu:A.units+1<cLine)(I:Ad X π σ H s)(g:Gx H a y o)(O:AH y u)(Y:AH d r)(h:∀w' s',Ad X π σ H s'->AH (o.getD d) w'->Q w' s'):
  TQ (TV X.prog X.w) A (call (.builtin "dict.get") [.ref a,u,r]) Q E s:=by
 rcases g with ⟨J,k,e,L,l⟩|⟨J,k,b,e,L,eb,l⟩
 .subst L;obtain⟨z,hd,vs,B,D⟩:=AU<|Je I.ai e;refine call_meetsIn ZJ D.typeIs xf (xg _ _ _) (meets_dict_get_default (BB X.prog X.w) a (Gw O) hd r) ⟨_,D.mapOf,h _ _ (I.tok _) ?_⟩;rw[l];exact(B.val k).getD Y
 .subst L;cases(show u=T8 b from O);obtain⟨z,hd,xs,B,D⟩:=AU<|Kn I.ai e;refine call_meetsIn ZJ D.typeIs xf (xg _ _ _) (meetsH_dict_get_default (Xr<|BB X.prog X.w) a b hd r) ⟨ZI hu,k,xs,Km I.ai eb,D,h _ _ (I.tok _) ?_⟩;rw[l];exact(B.val k).getD Y
end
def Ac2(td ty tx:TE):TE:=λσ H Q=>td σ H λx H1=>∃a,x=.ref a/\Qk H1 a/\ty σ H1 λy H2=>tx σ H2 λz H3=>∃o,Gx H3 a y o/\Q (o.getD z) H3
section
variable {X:Cx}{o e f:TM}{apos bg:Pos}{td ty tx:TE}
def Ac3(hu:X.A.units+1<cLine)(J:PE X o td)(L:PE X e ty)(O:PE X f tx)(m:M2 X o "get" apos e f bg):PE X (.Call (.Attribute o "get" apos) [e,f] [] bg) (Ac2 td ty tx):=by
 intro π s σ H Q I h;refine wpAny_Call_method m.base m.aD m.line PySem.F.plainAttrs_dict ZJ PySem.F.type_dict_get<|Ar (J π s σ H _ I h) λu V B=>AF B λx Y D rx zz=>?_;obtain⟨a,ex,d,q1⟩:=AG zz;subst ex;obtain rfl:u=T8 a:=rx;obtain⟨t1,t2,_⟩:=AU<|Ac0 D d;refine⟨t1,t2,?_⟩;rw[m.trees];refine wB rfl (Zq (Zf (Ar (L π V σ Y _ D q1) λiv s2 ⟨y,H2,I2,ry,q2⟩ =>
  Zf (Ar (O π s2 σ H2 _ I2 q2) λfv s3 B=>AF B λz H3 I3 rz ⟨ov,g,q3⟩=>we ?_))))
 exact Ac1 hu I3 g ry rz λw' s4 I4 bo=>⟨_,H3,I4,bo,q3⟩
end
section
variable {X:Cx}{π:List (ar×Obj)}{σ:St}{H:Hp}{s:TK}{a:ar}{kvs:List (Ay×V)}{A:Ud}{E:af->TK->Prop}
end
section
variable {X:Cx}{π:List (ar×Obj)}{σ:St}{H:Hp}{s:TK}{a:ar}{y:V}{u:af}{A:Ud}{E:af->TK->Prop}
end
section
variable {X:Cx}
end
section
variable {κ:Type} [DecidableEq κ]
end
structure Ql(K:TH)(C f:ar)(m:bf):Prop where
 rd:xh K C (.type "type")=true
 sp:Yu K (.ref C) "__getattribute__"=some (some (.builtin "type.__getattribute__"))
 fd:xi K (.ref C) (.type "type") m=some (.val (.ref f))
 ty:Vp K (.ref f)=some (.type "function")
 kp:U8 K (.ref f)=true
section
variable {X:Cx}{CX:Cj}{k:Nat}{f C:ar}{fd:T3}{ps:List bf}{sp:Sp}{E:XK}{x m:bf}{p pos apos:Pos}{e:TM}{es:List TM}{t:TA}
def Ac4{pl:Sem Bool}(c:Ql X.K C f m)(g:Gm X.env.scope x)(V:X.mg x=some (.ref C))(F:AB X.prog X.w X.K X.mg X.base CX k f fd ps sp)(hb:DO X.K fd ps [])(Y:By k X.A)(hx:Dr CX X E)(ha:PA X (e::es) t)(aH:T5 (e::es) X.env=(false,T7 e X.env)::T5 es X.env:=by rfl)(aS:(UA pos<|T5 es X.env).any (·.1)=false:=by rfl)(ht:T7 (.Call (.Attribute (.Name x p) m apos) (e::es) [] pos) X.env=(T7 (.Name x p) X.env >>= λJ=>Vo apos.atName >>= λ_=>Vl [J] (V7 J m pl) >>= λff=>Ww pos ff.1 ff.2 (UA pos<|T5 (e::es) X.env)<|VU pos (VX [] X.env)):=by rfl) :
  PE X (.Call (.Attribute (.Name x p) m apos) (e::es) [] pos) (J2 sp [] E t):=by
 intro π s σ H Q I h;refine Xz (pl:=pl) ?_ ht;have pn:PE X (.Name x p) (tC<|.ref C):=DZ g V rfl;refine Ar (pn π s σ H (λv L=>v=.ref C/\L=H) I ⟨rfl,rfl⟩) λu s1 B=>FG B λv L D rv e1 e2=>?_;subst e1 e2;cases rv;refine PySem.W.method_cls D.aN c.sp<|PySem.W.cls_value D.aN c.rd c.fd rfl ?_;have I2:=D.tok<|s1.toks+1;refine Xy (first:=[]) (h₀:=X.base) I.ok.mod.d2 c.kp (Ar (ha pos π _ σ _ _ I2 h) λus s2 B=>AF B λvs H2 O r q=>⟨O.aN,?_⟩) aH aS;exact Hw F Y hb .nil hx O r q
end
section
variable {X:Cx}
end
theorem GY:∀{vs:List af}{zs:List bf},Xn vs zs->AA (zs.map V.str) vs
 |_,_,.nil=>.nil
 |_,_,.cons n t r=>.cons ⟨t,rfl⟩ (GY r)
theorem Jg:∀{zs:List bf}{vs:List af},AA (zs.map V.str) vs->Xn vs zs
 |[],_,.nil=>.nil
 |n::zs,_,.cons r t=>by
  obtain⟨B,rfl⟩:=r;exact .cons n B (Jg t)
def CV(a b:bf):Prop:=a.cps.toList<=b.cps.toList
def Ac5 (h:CV a b)(k:CV b c):CV a c:=List.le_trans h k
def Ac6 (h:CV a b)(k:CV b a):a=b:=by have e:=ZK h k;cases a with|mk x=>cases b with|mk y=>cases x;cases y;simp_all
theorem Qm:∀(l:List bf)(p:bf),risingS p l=true->(p::l).Pairwise CV
 |[],p,_=>List.pairwise_singleton _ _
 |x::r,p,h=>by
  have B:(!ltCps x.cps.toList p.cps.toList && risingS x r)=true:=h;rw[VD]at B;have ih:=Qm r x B.2;have hx:CV p x:=by have:=B.1;rw[ltCps_eq]at this;show ¬(x.cps.toList<p.cps.toList);simpa using this
  refine xj.mpr ⟨λy hy=>?_,ih⟩;rcases T9.mp hy with z|z
  .rw[z];exact hx
  .exact Ac5 hx ((xj.mp ih).1 y z)
theorem Ac7:∀{l:List bf},sortedS l=true->l.Pairwise CV
 |[],_=>.nil
 |x::r,h=>Qm r x h
def Ac8{a b:List bf}(p:a.Perm b)(B:a.Pairwise CV)(hb:b.Pairwise CV):a=b :=
 List.Perm.eq_of_pairwise (le:=CV) (λx y _ _ D h2=>Ac6 D h2) B hb p
section
variable {X:Cx}
def Qn:B0 X (.builtin "sorted") (λxs H Q=>∃(p:ar)(zs:List bf),xs=[.ref p]/\A3 X.K H p (zs.map V.str)/\zs.length<64/\∀(l:ar)(B:List bf),H l=none->B.Perm zs->B.Pairwise CV->Q (.ref l) (upd H l<|.lst (B.map V.str))):=by
 intro π s σ H xs us Q I r h;replace h:=BA h;obtain⟨p,zs,rfl,hq,hl,q⟩:=h
 obtain⟨u,rfl,L⟩:=As<|Dq r;cases L;obtain⟨its,D,pl,hz⟩:=AG<|I.list hq;have e:=D.length;rw[TN]at e;refine sorted_strs pl.isList (Jg D) (by omega) λout B O J Y=>?_;obtain⟨c,ho⟩:=sortedAll_at s.heap its out;have fr:H (s.heap.objs.size+1)=none:=I.ai.fresh<|Vw _;refine⟨.ref<|s.heap.objs.size+1,_,I.laid (t':=s.toks) (λb o q=>sortedAll_old q) (Vw _) (show Bs X.prog X.w _ _ _ (.lst<|B.map V.str) from⟨?_,out.toList,c,GY O,by simpa using ho⟩),rfl,q _ B fr J<|Ac7 Y⟩;rw[TN,J.length_eq,TZ];omega
def Ac9(hc:X.calm=true):B0 X (.builtin "all") (λxs H Q=>∃(p:ar)(bs:List Bool),xs=[.ref p]/\A3 X.K H p (bs.map V.bl)/\Q (.bl<|bs.all id) H):=by
 intro π s σ H xs us Q I r h;replace h:=BA h;obtain⟨p,bs,rfl,hq,q⟩:=h
 obtain⟨u,rfl,rx⟩:=As<|Dq r;cases rx;obtain⟨its,L,pl,hz⟩:=AG<|I.list hq;refine call_all_walk<|Y7 pl.isList ?_;have aU:p<s.heap.objs.size:=by obtain⟨o,e,_⟩:=As pl.isList;exact Ul e
 have J:=L.length;rw[TN]at J;have hb:∀(i:Nat)(v:af),its.toArray[i]?=some v->v=XI (bs.getD i true):=λi v hv=>by
  have O:its[i]?=some v:=by simpa using hv
  have B:i<bs.length:=by rw[J];exact(UM.mp O).1
  obtain⟨u,Y,e2⟩:=As<|L.get (i:=i) (x:=.bl bs[i]) (by rw[T6,Uh B];rfl);rw[O]at Y;cases Y;rwa[Ux,Uh B]
 refine⟨s.heap.objs.size,_,_,_,_,_,λi=>bs.getD i true,rfl,Walks.list (by simpa using I.ok.hd hc) s.heap.objs.size p (Uz aU) its.toArray,⟨⟨_,UT _ rfl,rfl,rfl⟩,pl.isList.push _⟩,λi v s' Q' E' hv fU=>?_,λh' tk hk=>?_⟩
 .rw[hb i v hv];exact We fU
 .have e:(UX its.toArray.size).all (λi=>bs.getD i true)=bs.all id:=by
   rw [UB,<-J,Ws,VN,VN];constructor
   .intro h b D;obtain⟨i,B,rfl⟩:=V0 D;have:=h i<|Vz.mpr B;rwa [Ux,Uh B]at this
   .intro h i B;have cP:=Vz.mp B;rw[Ux,Uh cP];exact h _<|Xo cP
  rw [e];have I2:Ad X π σ H { s with heap:=h',toks:=tk }:=I.kept (t':=tk) λb o D=>hk b o (λz=>by
   rw [Um.mp z]at D;exact absurd (Ul D)<|V5 _) (Ut _ D)
  exact⟨.bl _,H,I2,rfl,q⟩
end
end L2
namespace L2
open PySem PySem.Spec PyProof.Rows PySem.W
section
variable {n:Nat}{key:Nat->List Nat}{cmp:Nat->Nat->(Bool->TK->Prop)->TK->Prop}{s:TK}
noncomputable def Bo(p:Array Nat)(i:Nat):Nat:=p.getD i 0
def D0(p:Array Nat)(i:Nat):Bo p i=(p[i]?).getD 0:=by unfold Bo;rw[Array.getD_eq_getD_getElem?]
structure Pm(n:Nat)(p:Array Nat):Prop where
 pm:p.toList.Perm (UX n)
def Pm.size (h:Pm n p):p.size=n:=by have:=h.pm.length_eq;simpa using this
def Pm.lt (h:Pm n p)(B:i<n):Bo p i<n:=by
 have hs:i<p.size:=by rwa[h.size]
 rw [D0,WI hs];exact Vz.mp<|h.pm.mem_iff.mp (Array.getElem_mem_toList hs)
def Pm.inj (h:Pm n p)(D:i<n)(I:j<n)(e:Bo p i=Bo p j):i=j:=by
 have hs:i<p.size:=by rwa[h.size]
 have B:j<p.size:=by rwa[h.size]
 rw [D0,D0,WI hs,WI B]at e;have J:p.toList.Nodup:=h.pm.nodup_iff.mpr List.nodup_range;have L:p.toList[i]'(by simpa using hs)=p.toList[j]'(by simpa using B):=by simpa using e
 exact(XQ J).mp L
structure Ky(n:Nat)(key:Nat->List Nat)(cmp:Nat->Nat->(Bool->TK->Prop)->TK->Prop)(s:TK):Prop where
 df:∀i j,i<n->j<n->i≠j->key i≠key j
 ok:∀i j C,i<n->j<n->C (decide (key i<key j)) s->cmp i j C s
def Up(key:Nat->List Nat)(p:Array Nat)(m:Nat):Prop:=∀i j,i<j->j<m->key (Bo p i)<key (Bo p j)
def Dn(key:Nat->List Nat)(p:Array Nat)(m:Nat):Prop:=∀i j,i<j->j<m->key (Bo p j)<key (Bo p i)
def Mj (k:Ky n key cmp s)(h:Pm n p)(B:i<n)(D:j<n)(d:i≠j)(z:¬key (Bo p i)<key (Bo p j)):key (Bo p j)<key (Bo p i):=by
 have ne:key (Bo p i)≠key (Bo p j):=k.df _ _ (h.lt B) (h.lt D) λe=>d<|h.inj B D e;rcases List.le_total (key<|Bo p i) (key<|Bo p j)with q|q
 .exact absurd (ZK q<|List.not_lt.mp z) ne
 .exact Yd λw=>ne<|ZK (List.not_lt.mp w) q
def Up.more (u:Up key p m)(h:m=0\/key (Bo p<|m-1)<key (Bo p m)):Up key p (m+1):=λi j B D=>by
 by_cases e:j<m
 .exact u i j B e
 .have e:j=m:=by omega
  subst e;rcases h with h|h
  .omega
  .by_cases q:i=j-1
   .rwa[q]
   .exact YL (u i (j-1) (by omega)<|by omega) h
def Dn.more (u:Dn key p m)(h:m=0\/key (Bo p m)<key (Bo p<|m-1)):Dn key p (m+1):=λi j B D=>by
 by_cases e:j<m
 .exact u i j B e
 .have e:j=m:=by omega
  subst e;rcases h with h|h
  .omega
  .by_cases q:i=j-1
   .rwa[q]
   .exact YL h (u i (j-1) (by omega)<|by omega)
theorem Ml (k:Ky n key cmp s)(B:Pm n p):∀(f m:Nat),1<=m->m+f=n->Up key p m->(∀m',m<=m'->m'<=n->Up key p m'->(m'<n->key (Bo p m')<key (Bo p (m'-1)))->Q m' s)->(kas_asc p f m).kasWp cmp Q s
 |0,m,I,h2,u,q=>q m (Ua _) (by omega) u λz=>by omega
 |f+1,m,I,h2,u,q=>by
  refine k.ok _ _ _ (B.lt (i:=m) (by omega)) (B.lt (i:=m-1) (by omega)) ?_;by_cases c:key (Bo p m)<key (Bo p (m-1))
  .have D:key (p.getD m 0)<key (p.getD (m-1) 0):=c;rw[c8 D];dsimp only;rw[br rfl];exact q m (Ua _) (by omega) u λ_=>c
  .have D:¬key (p.getD m 0)<key (p.getD (m-1) 0):=c;rw[dJ D];dsimp only;rw[cZ (by decide)];exact Ml k B f (m+1) (by omega) (by omega) (u.more (.inr (Mj k B (by omega) (by omega) (by omega) c))) λm' a b=>q m' (by omega) b
theorem Qo (k:Ky n key cmp s)(B:Pm n p):∀(f m:Nat),1<=m->m+f=n->Dn key p m->(∀m',m<=m'->m'<=n->Dn key p m'->Q (p,m',0) s)->(kas_desc f p m 0).kasWp cmp Q s
 |0,m,I,h2,u,q=>q m (Ua _) (by omega) u
 |f+1,m,I,h2,u,q=>by
  refine k.ok _ _ _ (B.lt (i:=m) (by omega)) (B.lt (i:=m-1) (by omega)) ?_;by_cases c:key (Bo p m)<key (Bo p (m-1))
  .have D:key (p.getD m 0)<key (p.getD (m-1) 0):=c;rw[c8 D];dsimp only;rw[br rfl,cZ (by decide)];exact Qo k B f (m+1) (by omega) (by omega) (u.more (.inr c)) λm' a b=>q m' (by omega) b
  .have D:¬key (p.getD m 0)<key (p.getD (m-1) 0):=c;rw[dJ D];dsimp only;rw[cZ (by decide)];have d:=Mj k B (i:=m) (j:=m-1) (by omega) (by omega) (by omega) c;have J:key (p.getD (m-1) 0)<key (p.getD m 0):=d;refine k.ok _ _ _ (B.lt (i:=m-1) (by omega)) (B.lt (i:=m) (by omega)) ?_;rw[c8 J];dsimp only;rw[br rfl];exact q m (Ua _) (by omega) u
def Qp (B:m<=p.size)(i:Nat):Bo (kas_rev p 0 m) i=if i<m then Bo p (m-1-i)else Bo p i:=by
 rw [D0,D0,D0];unfold kas_rev;rw[getElem?_mirror B _<|by omega];split
 .rename_i h
  have D:i<m:=by omega
  rw [br D];congr 2
  omega
 .rename_i h
  split
  .congr 2
   omega
  .rfl
def Pm.rev (h:Pm n p)(m:Nat):Pm n (kas_rev p 0 m):=⟨(xk.mp<|mirror_perm _ _ _ _).trans h.pm⟩
def Dn.rev (h:Dn key p m)(B:m<=p.size):Up key (kas_rev p 0 m) m:=λi j I D=>by
 rw [Qp B,Qp B,br<|by omega,br D];exact h _ _ (by omega)<|by omega
def Ada (k:Ky n key cmp s)(B:Pm n p)(V:1<=n)(q:∀m D,1<=m->m<=n->Pm n D->Up key D m->Q (m,D) s):(kas_count n p).kasWp cmp Q s:=by
 unfold kas_count;rw[Ye];refine Ml k B (n-1) 1 (Ua _) (by omega) (λi j a b=>by omega) λm I h2 u d=>?_;by_cases e:m=n
 .rw[br<|beq_iff_eq.mpr e];exact q m p I h2 B u
 .rw[cZ λz=>e<|beq_iff_eq.mp z];by_cases g:m > 1
  .rw[br g];have c:key (p.getD 0 0)<key (p.getD (m-1) 0):=u 0 (m-1) (by omega) (by omega);refine k.ok _ _ _ (B.lt (i:=0)<|by omega) (B.lt (i:=m-1)<|by omega) ?_;rw[c8 c];dsimp only;rw[br rfl];exact q m p I h2 B u
  .rw[cZ g];have J:m=1:=by omega
   subst J;unfold kas_descPart;rw[Ye];refine Qo k B (n-2) 2 (by decide) (by omega) (Dn.more (m:=1) (λi j a b=>by omega)<|.inr (d<|by omega)) λm' a b dn=>?_;rw[cZ<|by simp];unfold kas_tail3;rw[Ye];have Y:=B.size;exact Ml k (B.rev m') (n-m') m' (by omega) (by omega) (dn.rev<|by omega) λm2 c1 L O _=>q m2 _ (by omega) L (B.rev m') O
theorem Mm (k:Ky n key cmp s)(B:Pm n p)(hc:c<n)(u:Up key p c)(q:∀l,l<=c->(∀i,i<l->key (Bo p i)<key (Bo p c))->(∀i,l<=i->i<c->key (Bo p c)<key (Bo p i))->Q l s):
  ∀(f l r:Nat),l<=r->r<=c->r-l<=f->(∀i,i<l->key (Bo p i)<key (Bo p c))->(∀i,r<=i->i<c->key (Bo p c)<key (Bo p i))->(kas_place p c f l r).kasWp cmp Q s
 |0,l,r,I,h2,J,a,b=>by
  have e:l=r:=by omega
  subst e;exact q l h2 a b
 |f+1,l,r,I,h2,J,a,b=>by
  unfold kas_place;by_cases g:l ≥ r
  .rw[br g];have e:l=r:=by omega
   subst e;exact q l h2 a b
  .rw[cZ g];refine k.ok _ _ _ (B.lt (i:=c) hc) (B.lt (i:=(l+r) / 2) (by omega)) ?_;by_cases z:key (Bo p c)<key (Bo p ((l+r) / 2))
   .have D:key (p.getD c 0)<key (p.getD ((l+r) / 2) 0):=z;rw[c8 D];dsimp only;rw[br rfl];refine Mm k B hc u q f l ((l+r) / 2) (by omega) (by omega) (by omega) a λi L O=>?_;by_cases e:i=(l+r) / 2
    .rw[e];exact z
    .exact YL z (u _ _ (by omega) O)
   .have D:¬key (p.getD c 0)<key (p.getD ((l+r) / 2) 0):=z;rw[dJ D];dsimp only;rw[cZ (by decide)];have y:=Mj k B (i:=c) (j:=(l+r) / 2) hc (by omega) (by omega) z;refine Mm k B hc u q f ((l+r) / 2+1) r (by omega) (by omega) (by omega) (λi L=>?_) b;by_cases e:i=(l+r) / 2
    .rw[e];exact y
    .exact YL (u _ _ (by omega) (by omega)) y
def Qq (hc:c<p.size)(B:l<=c)(i:Nat):Bo (bubble p c<|c-l) i=if i=l then Bo p c else if l<i/\i<=c then Bo p (i-1)else Bo p i:=by
 rw [D0,getElem?_bubble hc (c-l)<|by omega];have e:c-(c-l)=l:=by omega
 rw [e,D0,D0,D0];split
 .rfl
 .split<;>rfl
theorem Qr (k:Ky n key cmp s)(q:∀p,Pm n p->Up key p n->Q p s):∀(f:Nat)(p:Array Nat)(c:Nat),Pm n p->c+f=n->Up key p c->(kas_bin f p c).kasWp cmp Q s
 |0,p,c,B,e,u=>by
  have e:c=n:=by omega
  subst e;exact q p B u
 |f+1,p,c,B,e,u=>by
  unfold kas_bin;rw[Ye];have Y:=B.size;refine Mm k B (by omega) u (λl D a b=>?_) c 0 c (Vc _) (Ua _) (Ua _) (λi z=>by omega) (λi z1 z2=>by omega);refine Qr k q f _ (c+1) ⟨(xk.mp (bubble_perm _ _ _)).trans B.pm⟩ (by omega) λi j L hj=>?_;rw[Qq (by omega) D,Qq (by omega) D];by_cases I:i=l
  .rw[br I,cZ (by omega),br (by omega)];exact b _ (by omega) (by omega)
  .rw[cZ I];by_cases O:l<i
   .rw[br ⟨O,by omega⟩,cZ (by omega),br (by omega)];exact u _ _ (by omega) (by omega)
   .rw[cZ (by omega)];by_cases J:j=l
    .rw[br J];exact a i (by omega)
    .rw[cZ J];by_cases V:l<j
     .rw[br ⟨V,by omega⟩];by_cases e5:i=j-1
      .omega
      .exact u _ _ (by omega) (by omega)
     .rw[cZ (by omega)];exact u _ _ L (by omega)
def Adb (k:Ky n key cmp s)(D:1<=n)(q:∀p,Pm n p->Up key p n->Q p s):(kas_sort n).kasWp cmp Q s:=by
 unfold kas_sort;rw[Ye];refine Ada k ⟨by simp⟩ D λm p I h2 B u=>?_;by_cases e:m<n
 .rw[br e];have em:max m 1=m:=by omega
  rw [em];exact Qr k q (n-m) p m B (by omega) u
 .rw[cZ e];have e:m=n:=by omega
  subst e;exact q p B u
end
end L2
namespace L2
open PySem PySem.Spec PyProof.Rows PySem.W
section
variable {prog:TR}{w:TL}{A:Ud}{E:af->TK->Prop}{s:TK}
def Jh(prog:TR)(w:TL)(A:Ud)(key:Nat->List Nat)(vs:List af)(s:TK):Prop :=
 TQ (TV prog w) A (keyKind' vs.toArray) (λκ s2=>s2=s/\Ky vs.length key (kas_ask prog w A κ vs) s) (λ_ _=>False) s
noncomputable def EB(p:Array Nat)(vs:List af):Array af:=(p.toList.map λi=>vs.getD i U0).toArray
def Qs(vs:List af):EB (UX vs.length).toArray vs=vs.toArray:=by
 unfold EB;congr 1
 refine ZL (by simp) λi B h2=>?_;simp[Ux,Uh h2]
def Qt (L:s.heap.get? a=some (US "list" vs.toArray n))(aD:vs.length<64)(hk:2<=vs.length->∀h',(∀b o,b≠a->s.heap.get? b=some o->h'.get? b=some o)->Jh prog w A key vs { s with heap:=h' })(q:∀p,Pm vs.length p->Up key p vs.length->P (.done<|.ret .none) { s with heap:=sortedHeap s.heap a vs (EB p vs) }):TQ (TV prog w) A (Builtin.«list.sort» ⟨[.ref a],[]⟩) P E s:=by
 rw [list_sort_plain];have lt:a<s.heap.objs.size:=Ul L;refine TX<|listItems_at L rfl (TX<|ZM L rfl ?_);obtain⟨c,hc⟩:∃c,(s.heap.update a<|Vd λ_=>#[]).get? a=some (US "list" #[] c):=⟨_,get?_update_seq L λ_=>#[]⟩;refine TX<|ZN hc rfl (TX<|xl (TX<|ZO (VJ ?_)));have n1:a≠(s.heap.update a<|Vd λ_=>#[]).objs.size:=by rw[ZP];exact Uz lt
 have n2:a≠((s.heap.update a<|Vd λ_=>#[]).push<|US "tuple" vs.toArray 0).objs.size:=by rw[size_push',ZP];exact Uz<|Yf lt
 have hd:(((s.heap.update a<|Vd λ_=>#[]).push<|US "tuple" vs.toArray 0).push<|US "list" #[] 0).get? a=some (US "list" #[] c):=by rwa[xm _ _ _ n2,xm _ _ _ n1]
 have Y:∀b o,b≠a->s.heap.get? b=some o->(((s.heap.update a<|Vd λ_=>#[]).push<|US "tuple" vs.toArray 0).push<|US "list" #[] 0).get? b=some o:=λb o hb e =>
  Ut _ (Ut _<|by rwa[xn _ _ _ _ hb])
 show TQ (TV prog w) A _ P E { s with heap:=((s.heap.update a<|Vd λ_=>#[]).push<|US "tuple" vs.toArray 0).push (US "list" #[] 0) };have q2:∀p,Pm vs.length p->Up key p vs.length->P (.done<|.ret .none) { s with heap:=(((s.heap.update a<|Vd λ_=>#[]).push<|US "tuple" vs.toArray 0).push<|US "list" #[] 0).update a (Vd λ_=>EB p vs) }:=q;have rY:=λh2=>hk h2 _ Y;generalize ((s.heap.update a<|Vd λ_=>#[]).push<|US "tuple" vs.toArray 0).push (US "list" #[] 0)=G at hd q2 rY ⊢;dsimp only;have sz:vs.toArray.size=vs.length:=UB;by_cases two:vs.toArray.size<2
 .rw[br two,br two];refine TX<|Ub ?_;rw[StateT.run_pure];refine TX<|Ub ?_;dsimp only;have e0:(arrOf<|SortSt.mk' general' (vs.toArray.zip vs.toArray) #[] 7 none).map (·.2)=EB (UX vs.length).toArray vs:=by
   rw [Qs];show(vs.toArray.zip vs.toArray).map (·.2)=_;rw[Array.map_snd_zip]<;>simp
  refine TX<|ZN hd rfl (TX<|ZM hd rfl ?_ (hsz2:=by rw[e0,Qs,sz,TZ];omega));simp only[bne_self_eq_false,XD,if_false];rw[e0];exact Ub<|q2 _ ⟨by simp⟩ λi j h1 h2=>by omega
 .rw[cZ two,cZ two];refine TX<|Vu (rY<|by omega) (λκ s2 ⟨e,ky⟩=>?_) λ_ _ f=>f.elim;subst e;refine TX (Vu (kat_run (ks:=vs) (vs:=vs) (Q:=λO I=>I={ s with heap:=G }/\failedOf O=none/\∃p,Pm vs.length p/\Up key p vs.length/\(arrOf O).map (·.2)=EB p vs) (G:=λp I=>I={ s with heap:=G }/\Pm vs.length p/\Up key p vs.length) rfl (by omega) aD
   (λp O I _ J V ⟨e,D,u⟩=>⟨e,V,p,D,u,kat_snds rfl J⟩) (Adb ky (by omega) λp D u=>⟨rfl,D,u⟩)) (λr I ⟨e,V,p,D,u,J⟩=>?_) λ_ _ f=>f)
  subst e;obtain⟨⟨⟩,O⟩:=r;dsimp only at V J ⊢;have B:(EB p vs).size<=sizeLine:=by unfold EB;rw[UB,TN,Vm,D.size,TZ];omega
  refine TX<|ZN hd rfl (TX<|ZM hd rfl ?_ (hsz2:=by rw[J];exact Nat.le_succ_of_le B));rw[V,J];simp only[bne_self_eq_false,XD,if_false];exact Ub<|q2 p D u
def Adc (J:s.heap.IsList l vs.toArray)(L:vs.length<64)(hk:2<=vs.length->∀h',(∀b o,s.heap.get? b=some o->h'.get? b=some o)->Jh prog w A.in1.in1 key vs { s with heap:=h' })(q:∀p,Pm vs.length p->Up key p vs.length->Q (.ref<|s.heap.objs.size+1) { s with heap:=sortedAll s.heap vs (EB p vs) }):TQ (TV prog w) A (call (.builtin "sorted") [.ref l]) Q E s:=by
 apply xo kind_sorted plain_sorted entry_sorted (args_sorted1 _);unfold Builtin.«sorted»;refine TX (m:=checkCount "sorted" 1 1 _)<|Ub (TX<|collect_list J (TX<|ZO ?_ (by rw[TZ];omega)) (by rw[TZ];omega));have D:((s.heap.push<|US "list" #[] 0).update s.heap.objs.size (Vd (·++vs.toArray))).objs.size=s.heap.objs.size+1:=by rw[ZP,size_push']
 have I:(((s.heap.push<|US "list" #[] 0).update s.heap.objs.size (Vd (·++vs.toArray))).push<|US "list" vs.toArray 0).get? (s.heap.objs.size+1)=some (US "list" vs.toArray 0):=D▸UT _ rfl;have keep:∀b o,s.heap.get? b=some o->(((s.heap.push<|US "list" #[] 0).update s.heap.objs.size (Vd (·++vs.toArray))).push<|US "list" vs.toArray 0).get? b=some o:=λb o e =>
  Ut _ (by rw[xn _ _ _ _<|Uz (Ul e)];exact Ut _ e)
 show TQ _ _ _ _ _ { s with heap:=((s.heap.push<|US "list" #[] 0).update s.heap.objs.size (Vd (·++vs.toArray))).push (US "list" vs.toArray 0) };rw[D];refine TX<|VJ (Xp xp ⟨_,I,rfl⟩ xq (Qt (key:=key) I L (λh2 h' B=>hk h2 h' λb o e=>B b o (Uz<|Yf (Ul e))<|keep b o e) λp O u=>⟨_,rfl,?_⟩)<|xr _);exact Ub ⟨_,rfl,q p O u⟩
end
end L2
namespace L2
open PySem PySem.Spec PyProof.Rows PySem.W
abbrev Pr:=ar×bf×Int
noncomputable def Bp(t:Pr):V:=.ref t.1
def Ds(H:Hp)(ts:List Pr):Prop:=∀t∈ts,H t.1=some (.tup [.str t.2.1,.int t.2.2])
def Ds.same (h:Ds H ts)(s:Aj H B):Ds B ts:=λt m=>s _ _<|h t m
section
variable {X:Cx}{π:List (ar×Obj)}{σ:St}{H:Hp}{s:TK}
def Ade(I:Ad X π σ H s){t:Pr}(h:H t.1=some (.tup [.str t.2.1,.int t.2.2])):∃o tk B n,s.heap.get? t.1=some o/\o.cls=.type "tuple"/\o.data=.seq #[UU t.2.1 tk,U7 t.2.2 B] n:=by obtain⟨_,its,r,o,e,c,n,d⟩:=(show Bs X.prog X.w H s.heap t.1 _ from I.ai _ _ h);obtain⟨_,_,rfl,⟨tk,rfl⟩,B,rfl⟩:=BA r.two;exact⟨o,tk,B,n,e,c,d⟩
noncomputable def Ji(ts:List Pr)(i:Nat):List Nat:=(ts.getD i (0,Uw,0)).2.1.cps.toList
def Qu{x y:bf}(h:x.cps.toList=y.cps.toList):x=y:=by cases x with|mk a=>cases y with|mk b=>cases a;cases b;simp_all
def Mn{ts:List Pr}{vs:List af}(r:AA (ts.map Bp) vs){i:Nat}(B:i<ts.length):vs.getD i U0=.ref ts[i].1:=by obtain⟨u,e,q⟩:=As<|r.get (i:=i) (x:=.ref ts[i].1) (by rw[T6,Uh B];rfl);rwa[Ux,e]
def Kq (B:i<ts.length):Ji ts i=ts[i].2.1.cps.toList:=by unfold Ji;rw[Ux,Uh B];rfl
theorem Qw:∀{ts:List Pr}{vs:List af},AA (ts.map Bp) vs->(∀t∈ts,∃o tk B n,h.get? t.1=some o/\o.cls=.type "tuple"/\o.data=.seq #[UU t.2.1 tk,U7 t.2.2 B] n) ->
  ∃fs:List af,KatTups h vs fs/\fs.length=ts.length/\∀f∈fs,∃z t,f=UU z t
 |[],_,.nil,_=>⟨[],trivial,rfl,λ_ m=>nomatch m⟩
 |t::ts,v::vs,.cons r q,k=>by
  obtain⟨fs,a,b,c⟩:=Qw q λD m=>k D (Uy _ m);obtain⟨o,tk,B,n,I,J,L⟩:=DN (k t UI);have r:v=.ref t.1:=r;subst r;refine⟨UU t.2.1 tk::fs,KatTups.cons I J L rfl a,by rw[U2,U2,b],λf O=>?_⟩;rcases T9.mp O with z|z
  .exact ⟨_,_,z⟩
  .exact c f z
def Adf (r:AA (ts.map Bp) vs)(B:∀t∈ts,∃o tk V n,h'.get? t.1=some o/\o.cls=.type "tuple"/\o.data=.seq #[UU t.2.1 tk,U7 t.2.2 V] n)(O:(ts.map (·.2.1)).Nodup)(two:2<=vs.length):Jh X.prog X.w A (Ji ts) vs { s with heap:=h' }:=by
 have Y:=r.length;rw[TN]at Y;obtain⟨fs,k1,k2,k3⟩:=AG<|Qw r B;refine kat_kind (s:={ s with heap:=h' }) (T:=.type "str") k1 (by omega) (λv m=>?_) (by decide) ⟨rfl,⟨λi j hi hj ne e=>?_,λi j C hi hj hc=>?_⟩⟩
 .obtain ⟨z,t,rfl⟩:=k3 v m;exact Looks.of_pure rfl
 .rw[Kq<|by omega,Kq<|by omega]at e;have e':=Qu e;have D:i<(ts.map (·.2.1)).length:=by rw[TN];omega
  have I:j<(ts.map (·.2.1)).length:=by rw[TN];omega
  exact ne<|(XQ (h₀:=D) (h₁:=I) O).mp (by simpa using e')
 .have J:i<ts.length:=by omega
  have L:j<ts.length:=by omega
  show TQ _ A (keyLt' (tuples' true) (vs.getD i U0)<|vs.getD j U0) C _ _;rw[Mn r J,Mn r L];obtain⟨o1,a1,b1,n1,x1,x2,x3⟩:=DN<|B ts[i] (Xo J);obtain⟨o2,a2,b2,n2,y1,y2,y3⟩:=DN<|B ts[j] (Xo L);refine kat_lt (s:={ s with heap:=h' }) x1 x3 y1 y3<|kat_cons (eqBool_str ?_);rw[Kq J,Kq L]at hc;by_cases e:ts[i].2.1=ts[j].2.1
  .have D:i<(ts.map (·.2.1)).length:=by rw[TN];omega
   have I:j<(ts.map (·.2.1)).length:=by rw[TN];omega
   have ij:i=j:=(XQ (h₀:=D) (h₁:=I) O).mp (by simpa using e);subst ij;rw[beq_self_eq_true];refine kat_yes<|kat_cons (vS ?_);rw[beq_self_eq_true];refine kat_yes<|kat_nil ?_;rw[dJ<|List.lt_irrefl _]at hc;simpa using hc
  .rw[beq_eq_false_iff_ne.mpr e];exact kat_no<|oneLt_str hc
def Adg:B0 X (.builtin "sorted") (λxs H Q=>∃(p:ar)(ts:List Pr),xs=[.ref p]/\A3 X.K H p (ts.map Bp)/\Ds H ts/\(ts.map (·.2.1)).Nodup/\ts.length<64 /\
  ∀(l:ar)(J:List Pr),H l=none->J.Perm ts->J.Pairwise (λa b=>CV a.2.1 b.2.1)->Q (.ref l) (upd H l<|.lst (J.map Bp))):=by
 intro π s σ H xs us Q I r h;replace h:=Il h;obtain⟨p,ts,rfl,hq,L,nd,O,q⟩:=h
 obtain⟨u,rfl,rx⟩:=As<|Dq r;cases rx;obtain⟨its,V,pl,hz⟩:=AG<|I.list hq;have Y:=V.length;rw[TN]at Y;have objs:=λt (m:t∈ts)=>Ade I<|L t m;refine Adc (key:=Ji ts) pl.isList (by omega) (λtwo h' keep=>Adf V (λt m=>?_) nd two) λB hp up=>?_
 .obtain ⟨o,a,b,n,e1,e2,e3⟩:=DN<|objs t m;exact⟨o,a,b,n,keep _ _ e1,e2,e3⟩
 .obtain ⟨c,ho⟩:=sortedAll_at s.heap its<|EB B its;have fr:H (s.heap.objs.size+1)=none:=I.ai.fresh<|Vw _;have D:=hp.pm;rw[<-Y]at D up;have mT:∀i∈B.toList,i<ts.length:=λi m=>Vz.mp<|D.mem_iff.mp m;have vv:∀l:List Nat,(∀i∈l,i<ts.length)->AA ((l.map λi=>ts.getD i (0,Uw,0)).map Bp) (l.map λi=>its.getD i U0):=λl O=>by
   induction l with
   |nil=>exact .nil
   |cons i l ih =>
    have hi:=O i UI;refine .cons ?_<|ih λj m=>O j<|Uy _ m;dsimp only;rw[Mn V hi,Ux,Uh hi];rfl
  have perm:(B.toList.map λi=>ts.getD i (0,Uw,0)).Perm ts:=by have:=D.map λi=>ts.getD i (0,Uw,0);refine this.trans<|xt ?_;refine ZL (by simp) λi h1 h2=>?_;simp[Ux,Uh h2]
  have sz:B.size=ts.length:=by have:=D.length_eq;simpa using this
  refine⟨.ref<|s.heap.objs.size+1,_,I.laid (t':=s.toks) (λb o q=>sortedAll_old q) (Vw _) (show Bs X.prog X.w _ _ _ (.lst<|(B.toList.map λi=>ts.getD i (0,Uw,0)).map Bp) from⟨?_,(B.toList.map λi=>its.getD i U0),c,vv _ mT,ho⟩),rfl,q _ _ fr perm ?_⟩
  .rw[TN,TN,Vm,sz,TZ];omega
  .rw[ZQ,xu];intro i j h1 h2 mU;have k1:i<B.size:=by simpa using h1
   have k2:j<B.size:=by simpa using h2
   have:=up i j mU (by omega);rw[D0,D0,WI k1,WI k2]at this;simp only[Option.getD_some,Ji]at this;have t':(ts.getD B.toList[i] (0,Uw,0)).2.1.cps.toList<(ts.getD B.toList[j] (0,Uw,0)).2.1.cps.toList:=by simpa using this
   exact List.le_of_lt t'
end
end L2
namespace L2
open PySem PySem.Spec PyProof.Rows
noncomputable def Eg(w:TL):Bool:=w.params.followText "set-order"
def Kr(w:TL)(e:Int×af):Prop:=∃z tk,e=(VI w z,UU z tk)
noncomputable def EV(e:Int×af):bf:=match e.2 with
 |.str z _=>z
 |_=>Uw
def D1(w:TL)(h:Heap)(a:ar)(zs:List bf):Prop:=∃o es ep t,h.get? a=some o/\o.ExactSet/\o.data=.set es ep t/\zs=es.toList.map EV/\(∀e∈es.toList,Kr w e)/\zs.Nodup/\zs.length<3000/\t.fits es.size=true/\t.led=!Eg w/\(zs≠[]->t.plain=false)
def D1.at (x:D1 w h a zs)(k:∀o,h.get? a=some o->h'.get? a=some o):D1 w h' a zs:=by obtain⟨o,es,B,t,e,r⟩:=DN x;exact⟨o,es,B,t,k _ e,r⟩
def Adh (h:∀e∈l,Kr w e):ElemsOf (BB prog w) l:=λe m=>by
 obtain⟨z,B,rfl⟩:=h e m;exact⟨⟨UL z,Hs prog w z B,rfl⟩,rfl⟩
def Qx (h:Kr w e):Fg (UL z) e.2=true↔EV e=z:=by
 obtain⟨y,B,rfl⟩:=h;show Yo z (.str y B)=true↔y=z;constructor
 .intro q;obtain⟨t,e⟩:=vR q;injection e
 .rintro rfl;exact Ov y B
def Adi(t:Wb)(n:Nat):(t.orStandIn n).led=t.led:=by unfold xw xx;split<;>rfl
def Adj{t:Wb}{n:Nat}(h:t.plain=false):(t.orStandIn n).plain=false:=by unfold xw xx;split<;>first|exact h|rfl
def Adk(t:Wb)(es:Array (Int×af))(h:Int)(x:af):(XE t es h x).2.1.led=t.led:=by
 unfold XE;split
 .exact Adi _ _
 .rfl
def Adl (B:t.plain=false):(XE t es h x).2.1.plain=false:=by
 unfold XE;split
 .exact Adj B
 .rfl
def Qy{t t':Wb}{hs:Array Int}{n:Nat}{o:Array Nat}(e:t.relaid hs n=some (t',o)):t'.led=t.led/\t'.plain=t.plain:=by
 unfold SetTable.relaid SetTable.laid at e;cases q:SetTable.layClean (SetTable.sizeAbove n-1) hs with
 |none=>rw[q]at e;cases e
 |some x=>rw[q]at e;cases e;exact⟨rfl,rfl⟩
def Adm(t:Wb)(es:Array (Int×af))(n:Nat):(WM t es n).2.1.led=t.led:=by
 unfold WM;split
 .rename_i t' o e
  dsimp only;split
  .exact (Qy e).1
  .rfl
 .rfl
def Adn (B:t.plain=false):(WM t es n).2.1.plain=false:=by
 unfold WM;split
 .rename_i t' o e
  dsimp only;split
  .exact (Qy e).2.trans B
  .rfl
 .rfl
section
variable {prog:TR}{w:TL}{A:Ud}{E:af->TK->Prop}{s:TK}
def Qz{a:ar}{o:Obj}{es es':Array (Int×af)}{ep:Nat}{t t':Wb}{h:Heap}(B:h.get? a=some o)(hd:o.data=.set es ep t):(h.update a<|YM es' t').get? a=some { o with data:=.set es' (ep+1) t' }:=by have e:=Zn (YM es' t') B (by rw[putSet_of es' t' hd];rfl);rwa [putSet_of es' t' hd]at e
def add_str (hS:D1 w s.heap a zs)(room:zs.length+1<3000)(q:∀h' aq b,Vb a s.heap h'->D1 w h' a aq->(if z∈zs then aq=zs else aq.Perm (zs++[z]))->Q b { s with heap:=h' }):TQ (TV prog w) A (setAddHashed a (.str z tk)<|VI w z) Q E s:=by
 obtain⟨o,es,ep,t,ho,hex,hd,rfl,ko,nd,aD,hf,led,pl⟩:=Im<|id hS;rw[TN,Vm]at aD room;have sb:scanBound=4096:=rfl;have rZ:=Adh (prog:=prog) ko;unfold setAddHashed ZR;refine VJ<|TX (wpAny_setState_of ho hd hf ?_);dsimp only;rw[byScan_of (knd:=BB prog w) (x:=UU z tk) rfl (by omega) rZ];simp only[↓reduceIte];unfold setAddByScan;refine TX<|TX (XF<|TX (wpAny_setScan_of (knd:=BB prog w) (k:=UL z) (Hs prog w z tk) ho hd hf rZ ?_));cases r6:List.findIdx? (λe=>(BB prog w).is (UL z) e.2) es.toList with
 |some j =>
  obtain⟨hj,V,_⟩:=List.findIdx?_eq_some_iff_getElem.mp r6;have mem:z∈es.toList.map EV:=Uc.mpr ⟨_,Xo hj,(Qx<|ko _ (Xo hj)).mp V⟩;dsimp only;exact Ub<|Ub (q s.heap _ _ (Heap.SameBut.refl a s.heap) hS<|by rw[br mem])
 |none =>
  have sf:z ∉ es.toList.map EV:=λm=>by
   obtain⟨e,me,rfl⟩:=As<|Uc.mp m;have:=List.findIdx?_eq_none_iff.mp r6 e me;rw[show(BB prog w).is (UL<|EV e) e.2=true from(Qx<|ko e me).mpr rfl]at this;cases this
  have Y:=layNew_perm t es (VI w z)<|.str z tk;have kq:=layNew_fits t es (VI w z)<|.str z tk;have l1:=Adk t es (VI w z)<|.str z tk;have p1:t.plain=false->(XE t es (VI w z)<|.str z tk).2.1.plain=false:=Adl;dsimp only;have ek:Ou w (UL z)=VI w z:=rfl;have ek2:(BB prog w).hash (UL z)=VI w z:=rfl;try rw[ek2]
  generalize XE t es (VI w z) (.str z tk)=L at Y kq l1 p1 ⊢;obtain⟨B,t1,wd,aaJ⟩:=L;dsimp only at Y kq l1 p1 ⊢;rw[Array.toList_push]at Y;have aaK:∀e∈B.toList,Kr w e:=λe m=>by
   rcases UD.mp (Y.mem_iff.mp m)with y|y
   .exact ko e y
   .rw[Um.mp y];exact⟨z,tk,rfl⟩
  have pz:(B.toList.map EV).Perm (es.toList.map EV++[z]):=by have:=Y.map EV;rwa [Ui]at this
  have sz1:B.size=es.size+1:=by rw[<-Vm,Y.length_eq,UK,Vm];rfl
  have jf:(B.toList.map EV).Nodup:=pz.nodup_iff.mpr<|VP.mpr ⟨nd,Uu.mpr ⟨by simp,VQ⟩,λx hx y hy e=>by rw[Um.mp hy]at e;exact sf<|e▸hx⟩;have fin:∀(h':Heap)(o':Obj)(J:Array (Int×af))(jg:Nat)(D:Wb),Vb a s.heap h'->h'.get? a=some o'->o'.ExactSet->o'.data=.set J jg D->J.toList.Perm B.toList->D.fits J.size=true->D.led=t.led->D.plain=false->∀b,Q b { s with heap:=h' }:=λh' o' J jg D sm e1 e2 e3 O f2 l2 p2 b=>by
   have sg:=O.map EV;refine q h' (J.toList.map EV) b sm ⟨o',J,jg,D,e1,e2,e3,rfl,λe m=>aaK e<|O.mem_iff.mp m,sg.nodup_iff.mpr jf,?_,f2,l2.trans led,λ_=>p2⟩ (by rw[cZ sf];exact sg.trans pz);rw[TN,O.length_eq,Vm,sz1];omega
  have quiet:∀(b:Bool){s₁:TK}{Q':Unit->TK->Prop},Q' () s₁->TQ (TV prog w) A (match b with|true=>rule "set.scan.the-table-gave-way" |false=>pure ()) Q' E s₁:=λb s₁ Q' h=>by
   cases b
   .exact Ub h
   .exact XF h
  refine TX<|quiet aaJ ?_;have key:∀D:Wb,D.fits B.size=true->D.led=t.led->D.plain=false->∀(K:Option Bool->Sem Bool),(∀h' b,(∀b,Q b { s with heap:=h' })->TQ (TV prog w) A (K<|some b) Q E { s with heap:=h' }) ->
    TQ (TV prog w) A (do
     storeSet a B D
     if (!wd && D.tooFull)=true then do
       (match (WM D B<|WN B.size).2.2 with|true=>rule "set.scan.the-table-gave-way" |false=>pure ())
       storeSet a (WM D B<|WN B.size).1 (WM D B<|WN B.size).2.1
       pure (some true)
      else pure (some true)) (λr s'=>TQ (TV prog w) A (K r) Q E s') E s:=by
   intro D f2 l2 p2 K hK;refine TX<|xy ho hd ?_ (by rw[TZ];omega);have g1:=Qz (es':=B) (t':=D) ho hd;have s1:=YN s.heap a<|YM B D;split
   .have O:=relayAll_perm D B<|WN B.size;have f3:=relayAll_fits D B<|WN B.size;have l3:=Adm D B<|WN B.size;have p3:=Adn (es:=B) (n:=WN B.size) p2;generalize WM D B (WN B.size)=R at O f3 l3 p3 ⊢;obtain⟨J,t3,g2⟩:=R;dsimp only at O f3 l3 p3 ⊢;have sz2:J.size=B.size:=by rw[<-Vm,O.length_eq,Vm]
    refine TX<|quiet g2 (TX<|xy (s:={ s with heap:=s.heap.update a (YM B D) }) g1 rfl ?_ (by rw[TZ];omega));have g3:=Qz (es':=J) (t':=t3) g1 rfl;exact Ub<|hK _ true (fin _ _ J _ t3 (s1.trans<|YN _ a _) g3 hex rfl O f3 (l3.trans l2) p3)
   .exact Ub (hK _ true<|fin _ _ B _ D s1 g1 hex rfl (List.Perm.refl _) f2 l2 p2)
  by_cases V:t1.plain=true
  .rw[br V];apply TX;rw[hashByValue_scannable 8 (x:=UU z tk) rfl];apply Ub;exact key { t1 with plain:=false } (SetTable.fits_plain_off kq) l1 rfl (λr=>match r with|some I=>pure I|none=>ZR a (.str z tk) (VI w z) 99999) λh' b hq=>Ub<|hq b
  .have V:t1.plain=false:=by simpa using V
   rw [cZ<|by rw[V];decide];refine TX<|Ub ?_;exact key t1 kq l1 V (λr=>match r with|some I=>pure I|none=>ZR a (.str z tk) (VI w z) 99999) λh' b hq=>Ub<|hq b
end
section
variable {prog:TR}{w:TL}{A:Ud}{I:ar}{fp wr:List ar}{G:Array XN->Array XN->Prop}{n:Nat}{P:Nat->af->Prop}{St:Nat->TK->Prop}
def Ado (W:WalksS prog w A.in1 I fp wr G n P St)(S:ar)(hS:S ∉ fp)(val:Nat->bf)(hv:∀i v,P i v->∃t,v=UU (val i) t)(aD:n+1<3000):
  ∀(k i:Nat)(s:TK)(zs:List bf),n-i=k->i<=n->St i s->D1 w s.heap S zs->(∀z,z∈zs↔∃j,j<i/\val j=z)->zs.length<=i ->
   (∀B J,Moved (S::wr) G s B->D1 w B.heap S J->(∀z,z∈J↔∃j,j<n/\val j=z)->R (.ok<|.ret .none) B)->Vh (TV prog w) A (.builtin "set.update.loop" ⟨[.ref S,.ref I],[]⟩) R s:=by
 have nw:S ∉ wr:=λh=>hS<|W.sub _ h;have sub:∀b∈wr,b∈S::wr:=λb h=>Uy _ h;intro k;induction k with
 |zero =>
  intro i s zs hk hi st x mem _ q;have e:i=n:=by omega
  subst e;apply Xk xB;rw[Yg ZS _];show TQ _ A.in1 (VT (.ref I) >>= _) _ _ s;refine TX<|W.done s _ _ st λB m=>?_;exact Ub<|q B zs (m.mono sub) (x.at λo e=>m.heap S o nw e) mem
 |succ k ih =>
  intro i s zs hk hi st x mem len q;apply Xk xB;rw[Yg ZS _];show TQ _ A.in1 (VT (.ref I) >>= _) _ _ s;refine TX<|W.item i s _ _ (by omega) st λv B hP bu m=>?_;obtain⟨t,rfl⟩:=hv i v hP;have x':=x.at λo e=>m.heap S o nw e;show TQ _ A.in1 (Vl [UU (val i) t] (setAdd S<|.str (val i) t) >>= _) _ _ B;refine TX<|VJ ?_;unfold setAdd;refine VJ<|TX ((BB prog w).pyHash (k:=UL<|val i) (Hs _ _ _ _) ?_);refine add_str (s:={ B with toks:=B.toks+1 }) x' (by omega) λh' J b Y x2 D=>?_;have L:∀z,z∈J↔∃j,j<i+1/\val j=z:=λz=>by
   have e:z∈J↔z∈zs\/z=val i:=by
    by_cases y:val i∈zs
    .rw[br y]at D;rw[D];exact⟨.inl,λh=>h.elim id λe=>e▸y⟩
    .rw[cZ y]at D;rw[D.mem_iff,UD,Um]
   rw [e,mem];constructor
   .rintro (⟨j,h1,h2⟩|h)
    .exact ⟨j,by omega,h2⟩
    .exact ⟨i,by omega,h.symm⟩
   .rintro ⟨j,h1,h2⟩;by_cases h:j<i
    .exact .inl ⟨j,h,h2⟩
    .have:j=i:=by omega
     subst this;exact .inr h2.symm
  have eF:J.length<=i+1:=by
   by_cases y:val i∈zs
   .rw[br y]at D;rw[D];omega
   .rw[cZ y]at D;rw[D.length_eq,UK,Ve];omega
  refine Ub ⟨ZT ZS _,ih (i+1) _ J (by omega) (by omega) (W.frame _ B _ _ bu (Vw _) λb hb o e=>?_) x2 L eF λbR O m2 x3 V=>?_⟩
  .exact (Y.2 b λh=>hS<|h▸hb).trans e
  .refine q bR O (Moved.trans W.gtrans ((m.mono sub).then_heap (Vw _) λb o hb e=>?_) m2) x3 V;exact(Y.2 b λh=>hb<|h▸UI).trans e
end
section
variable {prog:TR}{w:TL}{A:Ud}{E:af->TK->Prop}{s:TK}
def Adp (a:af)(h:Q₁ (.ref s.heap.objs.size) { s with heap:=s.heap.push { cls:=.type "set",dict:=none,data:=.set #[] 0 (.fresh 0 0<|!Eg w) } }):
  Vh (TV prog w) A (.call (.builtin "set.__new__") ⟨[.type "set",a],[]⟩) (wants Q₁ E) s:=by
 apply ZU;show TQ _ A.in1 (do Zz "set.__new__" ⟨[.type "set",a],[]⟩;again (.builtin "set.__new__" ⟨[.type "set",a],[]⟩)) _ _ s;refine TX<|wpAny_of_eq (F.newCall_set_1 a) (Ub ⟨ZT xC _,Xk F.entry_set_new ?_⟩);rw[Yg xC _];unfold Builtin.«set.__new__» Builtin.Frozenset.newClass;have sub:=sub_set_self;obtain⟨B,g,d,D,os⟩:=s;dsimp only;wp_walk
 refine ZV<|Ub ?_;dsimp only;simp only[newObj];exact TX<|wpAny_alloc (Ub<|Ub h)
def QA (e:h.get? a=some { cls:=.type "set",dict:=none,data:=.set #[] 0 (.fresh 0 0<|!Eg w) }):D1 w h a [] :=
 ⟨_,#[],0,_,e,⟨rfl,rfl,rfl⟩,rfl,rfl,λe m=>by simp at m,VQ,by decide,rfl,rfl,λz=>(z rfl).elim⟩
def Adq (hh:A.handled=none)(hl:s.heap.IsList l items)(hi:Xn items.toList zs)(aD:items.size+1<3000)(q:∀(h':Heap) (tk:Nat) (B:List bf),D1 w h' s.heap.objs.size B->(∀z,z∈B↔z∈zs)->(∀b o,b<s.heap.objs.size->s.heap.get? b=some o->h'.get? b=some o)->Q (.ref s.heap.objs.size) { s with heap:=h',toks:=tk }):
  TQ (TV prog w) A (call (.type "set") [.ref l]) Q E s:=by
 obtain⟨c,tl,afK⟩:=WO.mro;have made:=WO.made;have sub:=WO.sub;refine Yv<|ZU ?_;show TQ _ _ (callAny (.type "set") _) _ _ _;refine Ub ⟨wK _<|by decide +kernel,Xk F.entry_type_call ?_⟩;rw[Around.under_plain (weight_type_call_type "set" [.ref l] []) rfl];have c1:=WO.notType;have c2:=WO.canCreate;have c3:=F.typeCall_set_1<|.ref l;repeat (any_goals (first|assumption|wp_step))
 refine Xd (Adp (.ref l) (E:=E) (Q₁:=λobj s₁=>obj=.ref s.heap.objs.size/\s₁={ s with heap:=s.heap.push { cls:=.type "set",dict:=none,data:=.set #[] 0 (.fresh 0 0<|!Eg w) } }) ⟨rfl,rfl⟩) λr s₁ I=>?_;cases r with
 |error e=>exact I
 |ok fl =>
  cases fl with
  |ret obj =>
   obtain⟨rfl,rfl⟩:=I;have atS:(s.heap.push { cls:=.type "set",dict:=none,data:=.set #[] 0 (.fresh 0 0<|!Eg w) }).get? s.heap.objs.size=some { cls:=.type "set",dict:=none,data:=.set #[] 0 (.fresh 0 0<|!Eg w) }:=UT _ rfl;have ty:Shared.TypeIs { s with heap:=s.heap.push { cls:=.type "set",dict:=none,data:=.set #[] 0 (.fresh 0 0<|!Eg w) } } (.ref s.heap.objs.size) "set":=⟨_,atS,rfl⟩;have i1:=WO.init.lookup;have i2:=WO.init.bind<|.ref s.heap.objs.size;repeat (any_goals (first|assumption|wp_step))
   refine Xd (Zy (R:=wants (λr s₂=>r=.none/\∃h' tk B,s₂={ s with heap:=h',toks:=tk }/\D1 w h' s.heap.objs.size B/\(∀z,z∈B↔z∈zs) /\
     (∀b o,b<s.heap.objs.size->s.heap.get? b=some o->h'.get? b=some o)) E) WO.init.plain F.entry_set_init (check_set_init_1 ty ?_)) λr₂ s₂ J=>?_
   .obtain ⟨⟨afL,L,afM,O⟩,e1,e2,nl,e3⟩:=AG hl;simp only at e2 e3;subst e2 e3;have dF:(s.heap.push { cls:=.type "set",dict:=none,data:=.set #[] 0 (.fresh 0 0<|!Eg w) }).get? l=some { cls:=.type "list",dict:=L,data:=.seq items nl,slots:=O }:=Ut _ e1;have s1:=F.sub_list_set;have s2:=F.sub_list_frozenset;have s3:(XJ "list" == XJ "dict")=false:=by decide
    have l1:(s.heap.push { cls:=.type "set",dict:=none,data:=.set #[] 0 (.fresh 0 0<|!Eg w) }).IsList l items:=⟨_,dF,rfl,nl,rfl⟩;unfold Builtin.«set.__init__» noKeywords Builtin.Frozenset.updateFrom;generalize V:Xu=PI;wp_walk
    subst V;refine Y7 l1<|TX (xF ?_);have lt:l<s.heap.objs.size:=Ul e1;have ns:l≠(s.heap.push { cls:=.type "set",dict:=none,data:=.set #[] 0 (.fresh 0 0<|!Eg w) }).objs.size:=by rw[V8];exact Uz<|Yf lt
    have nf:s.heap.objs.size ∉ [(s.heap.push { cls:=.type "set",dict:=none,data:=.set #[] 0 (.fresh 0 0<|!Eg w) }).objs.size,l]:=by rw[V8];simp only[T9,UH,or_false,not_or];exact⟨Uz<|Xx _,Wq lt⟩
    have ze:zs.length=items.size:=by have:=(GY hi).length;rw[TN]at this;simpa using this
    have val:∀(i:Nat)(v:af),items[i]?=some v->∃t,v=UU (zs.getD i Uw) t:=λi v hv=>by
     have gP:items.toList[i]?=some v:=by rwa[YB]
     have il:i<zs.length:=by rw[ze];exact(Array.getElem?_eq_some_iff.mp hv).1
     obtain⟨u,g1,g2⟩:=As<|(GY hi).get (i:=i) (x:=.str zs[i]) (by rw[T6,Uh il];rfl);rw[gP]at g1;cases g1;obtain⟨t,rfl⟩:=g2;exact⟨t,by rw[Ux,Uh il];rfl⟩
    have nh:A.in1.in1.in1.handled=none:=by simp[hh]
    refine Ado ((Walks.list nh _ l ns items).toS) s.heap.objs.size nf (λi=>zs.getD i Uw) val aD (items.size-0) 0 _ [] (by omega) (Vc _) ⟨⟨_,UT _ rfl,rfl,rfl⟩,l1.push _⟩ (QA<|Ut _ atS) (λz=>⟨λh=>absurd h UH,λzz=>DM zz λj h _=>absurd h<|Nat.not_lt_zero _⟩) (Ua _) ?_;intro s' B m x mem;obtain⟨h',g',d',bJ,mj⟩:=s';have eg:g'=s.gens:=m.gens;have ed:d'=s.drawn:=m.drawn;have eo:mj=s.os:=m.os;subst eg ed eo;show TQ _ _ _ _ _ _;apply Ub;show TQ _ _ (ret U0) _ _ _;refine Ub ⟨rfl,h',bJ,B,rfl,x,λz=>?_,λb o hb e=>?_⟩
    .rw[mem];constructor
     .rintro ⟨j,h1,rfl⟩;have D:j<zs.length:=by omega
      rw [Ux,Uh D];exact Xo D
     .intro h;obtain⟨j,D,rfl⟩:=V0 h;exact⟨j,by omega,by rw[Ux,Uh D];rfl⟩
    .have b2:b≠(s.heap.push { cls:=.type "set",dict:=none,data:=.set #[] 0 (.fresh 0 0<|!Eg w) }).objs.size:=by rw[V8];exact Uz (Yf hb)
     exact m.heap b o (by simp only[T9,UH,or_false,not_or];exact⟨Uz hb,b2⟩)<|Ut _ (Ut _ e)
   .cases r₂ with
    |error e=>exact J
    |ok Y =>
     cases Y with
     |ret r =>
      obtain⟨rfl,h',tk,B,rfl,x,mem,hk⟩:=J;repeat (any_goals (first|assumption|wp_step))
      exact q _ _ _ x mem hk
     |_=>exact J.elim
  |_=>exact I.elim
end
noncomputable def DE(w:TL)(a:ar)(zs:List bf):HO:=.ext λh=>∃aq,D1 w h a aq/\∀z,z∈aq↔z∈zs
def Mo (x:D1 w h a B)(m:∀z,z∈B↔z∈zs):Bs P w H h a (DE w a zs):=by refine⟨⟨B,x,m⟩,?_,λJ h2 ⟨y,D,I⟩ k=>⟨y,D.at k,I⟩⟩;obtain⟨o,_,_,_,e,_⟩:=DN x;exact⟨o,e⟩
theorem Mp:∀{a b:List bf},a.Nodup->(∀z∈a,z∈b)->a.length<=b.length
 |[],b,_,_=>Vc _
 |x::a,b,nd,h=>by
  have B:=Uu.mp nd;have hx:=h x UI;have ih:=Mp (b:=b.erase x) B.2 λz D=>(ZW (λe:z=x=>B.1 (e▸D))).mpr (h z (Uy _ D));rw[xG hx]at ih;have:0<b.length:=ZX hx;rw[U2];omega
def Ads{a b:List bf}(I:a.Nodup)(m:∀z,z∈a↔z∈b):a.length=b.length↔b.Nodup:=by
 constructor
 .intro e;refine Yd λh=>?_;have B:∀b:List bf,¬b.Nodup->∃c:List bf,c.length<b.length/\∀z,z∈c↔z∈b:=λb=>by
   induction b with
   |nil=>exact λh=>(h VQ).elim
   |cons x b ih =>
    intro h;by_cases hx:x∈b
    .exact ⟨b,by simp,λz=>⟨Uy _,λD=>(T9.mp D).elim (λe=>e▸hx) id⟩⟩
    .obtain ⟨c,J,h2⟩:=ih λq=>h<|Uu.mpr ⟨hx,q⟩;refine⟨x::c,by simpa using J,λz=>?_⟩;rw[T9,T9,h2]
  obtain⟨c,J,h2⟩:=As<|B b h;have:=Mp I λz D=>(h2 z).mpr<|(m z).mp D;omega
 .intro hb;exact((List.perm_ext_iff_of_nodup I hb).mpr m).length_eq
section
variable {X:Cx}
def Adt (hw:X.w=w)(hc:X.calm=true):B0 X (.type "set") (λxs H Q=>∃(p:ar)(zs:List bf),xs=[.ref p]/\A3 X.K H p (zs.map V.str)/\zs.length<2000/\∀l,H l=none->Q (.ref l) (upd H l<|DE w l zs)):=by
 subst hw;intro π s σ H xs us Q I r h;replace h:=BA h;obtain⟨p,zs,rfl,hq,L,q⟩:=h
 obtain⟨u,rfl,D⟩:=As<|Dq r;cases D;obtain⟨its,B,pl,O⟩:=AG<|I.list hq;have e:=B.length;rw[TN]at e;refine Adq (items:=its.toArray) (zs:=zs) (I.ok.hd hc) pl.isList (by simpa using Jg B) (by rw[UB];omega) λY J aq x m k=>?_;exact⟨.ref s.heap.objs.size,_,I.laid (t':=J) (λb o e=>k b o (Ul e) e) (Ua _)<|Mo x m,rfl,q _ I.fresh⟩
def QB (hw:X.w=w):B0 X (.builtin "len") (λxs H Q=>∃(p:ar)(zs:List bf),xs=[.ref p]/\H p=some (DE w p zs)/\∀n:Nat,(n=zs.length↔zs.Nodup)->Q (.int n) H):=by
 subst hw;intro π s σ H xs us Q I r h;replace h:=BA h;obtain⟨p,zs,rfl,B,q⟩:=h
 obtain⟨u,rfl,D⟩:=As<|Dq r;cases D;obtain⟨⟨J,⟨o,es,ep,t,L,O,V,Y,e5,nd,aD,hf,_⟩,m⟩,_⟩:=(show Bs X.prog X.w H s.heap p (DE X.w p zs)from I.ai p _ B);have sz:J.length=es.size:=by rw[Y,TN,Vm]
 refine call_len_set L O V hf (by omega) ⟨.int es.size,H,I.tok _,⟨_,rfl⟩,q _ ?_⟩;rw[<-sz];exact Ads nd m
end
section
variable {prog:TR}{w:TL}{A:Ud}{R:Xw->TK->Prop}{E:af->TK->Prop}{s:TK}
def Adu (h:Q (.ref s.heap.objs.size) { s with heap:=s.heap.push { cls:=.type "set",dict:=none,data:=.set #[] 0 (.fresh 0 0<|!Eg w) } }):TQ (TV prog w) A (newSet<|.type "set") Q E s:=by unfold newSet setsByText;refine TX<|TX (ZV<|Ub ?_);dsimp only;simp only[newObj];exact TX<|wpAny_alloc (Ub h)
def Adv(B J iter:TM)(D:List TM)(sc:Scope)(pos:Pos)(it I:af)(env:Env):compTurn (.SetComp B [⟨J,iter,D,0⟩] sc pos) 0 it I env=(do
  Vo iter.pos
  match <-VT it with
  |none=>pure (.done .next)
  |some v =>
   Xt J it v
   VS J env v
   let ok <-Kg D env
   if ok then(do let v <-T7 B env;Vo B.pos;let _ <-call (.builtin "set.add") [I,v])
   again (.compLoop (.SetComp B [⟨J,iter,D,0⟩] sc pos) 0 it I env)):=by rfl
def Adw (Y:Vh (TV prog w) A (.compLoop (.SetComp B [⟨L,iter,D,0⟩] sc pos) 0 it I env) R s)(h:TQ (TV prog w) A (Xu it) (λO J=>Vh (TV prog w) A (.compLoop (.SetComp B [⟨L,iter,D,0⟩] sc pos) 0 O I env) R J) (notedBy (TV prog w) A env λx J=>R (.error x) J) s):
  Vh (TV prog w) A (.compStart (.SetComp B [⟨L,iter,D,0⟩] sc pos) 0 it I env) R s:=by
 apply ZU;show TQ _ _ ((compStart (.SetComp B [⟨L,iter,D,0⟩] sc pos) 0 it I env).onRaise λx=>do YE x env;Vo theWindowsPlace) _ _ s;apply wpAny_notedAt;unfold compStart;show TQ _ _ (ask >>= _) _ _ s;refine TX<|ZV (wpAny_ite ?_);split
 .first|exact TX (Ub<|Ub ⟨rfl,Y⟩)|exact Ub ⟨rfl,Y⟩
 .first|exact TX (XF<|TX (WV<|TX (Vu h (λO J V=>Ub ⟨rfl,V⟩) λ_ _ x=>x)))|exact XF<|TX (WV<|TX (Vu h (λO J V=>Ub ⟨rfl,V⟩) λ_ _ x=>x))
def Adx (ty:s.TypeIs (.ref a) "set")(hS:D1 w s.heap a zs)(room:zs.length+1<3000)(q:∀h' B D,Vb a s.heap h'->D1 w h' a B->(if z∈zs then B=zs else B.Perm (zs++[z]))->Q .none { s with heap:=h',toks:=D }):TQ (TV prog w) A (call (.builtin "set.add") [.ref a,.str z tk]) Q E s:=by
 refine Xp F.slot_set_add ty F.entry_set_add ?_<|F.args_set_add_2 _ _;unfold Builtin.«set.add» Builtin.Frozenset.oneOther;simp only[List.isEmpty_nil,bind_assoc];unfold Builtin.Frozenset.addrOf setAdd;refine TX<|Ub ?_;try dsimp only
 refine TX<|Ub ?_;try dsimp only
 refine TX<|VJ (TX<|(BB prog w).pyHash (k:=UL z) (Hs _ _ _ _) ?_);refine add_str (s:={ s with toks:=s.toks+1 }) hS room λh' B b I x J=>?_;show TQ _ _ (ret U0) _ _ _;exact Ub ⟨_,rfl,q h' B _ I x J⟩
end
section
variable {X:Cx}{N':List bf}{sc:Scope}{aJ:List (Option Nat)}{cl:List (bf×ar)}{C:ar}{fp:List ar}{π:List (ar×Obj)}{s₂:TK}{H₂:Hp}{σ:St}
def Ady (I:Ad X π σ H s)(O:H D=some (DE X.w D zs))(aD:zs.length<2000)(q:∀h' J,Ad X π σ (upd H D<|DE X.w D (zs++[z])) { s with heap:=h',toks:=J }->Q .none { s with heap:=h',toks:=J }):TQ (TV X.prog X.w) X.A (call (.builtin "set.add") [.ref D,.str z tk]) Q E s:=by
 obtain⟨⟨V,x,m⟩,_⟩:=(show Bs X.prog X.w H s.heap D (DE X.w D zs)from I.ai D _ O);obtain⟨o,es,ep,t,Y,e2,r⟩:=DN<|id x;have ty:s.TypeIs (.ref D) "set":=⟨o,Y,e2.1⟩;have le:V.length<=zs.length:=by obtain⟨_,_,_,_,_,_,_,_,_,nd,_⟩:=Im<|id x;exact Mp nd λz B=>(m z).mp B
 refine Adx ty x (by omega) λh' bY J sb x2 B=>?_;have m2:∀y,y∈bY↔y∈zs++[z]:=λy=>by
  rw [UD,Um,<-m];by_cases L:z∈V
  .rw[br L]at B;rw[B];exact⟨.inl,λh=>h.elim id λe=>e▸L⟩
  .rw[cZ L]at B;rw[B.mem_iff,UD,Um]
 refine q h' J<|I.write (t':=J) (x:=D) (e:=D) (by rw[O];trivial) (.inl rfl) (λb u hb e=>(sb.2 b hb).trans e) ?_ (Mo x2 m2);obtain⟨o2,_,_,_,g,_⟩:=DN x2;exact⟨o2,g⟩
abbrev QC(w:TL)(te:TE)(D:ar):St->Hp->(Hp->Prop)->Prop:=λσ H N=>te σ H λv H5=>∃zs z,v=.str z/\H5 D=some (DE w D zs)/\zs.length<2000/\N (upd H5 D (DE w D (zs++[z])))
def Adz(w:TL)(aJ:List (Option Nat))(wi:TI)(g:TG)(tt:TT)(te:TE):TE:=HI (λD=>DE w D []) (QC w te) aJ wi g tt
def AdA{B L iter:TM}{J:List TM}{pos:Pos}{O:TI}{g:TG}{V:TT}{Y:TE}{w:TL}(hw:X.w=w)(hc:X.calm=true)(S:BK sc X.env.scope N' X.N aJ)(hi:PI X L iter O)(hg:∀cl C fp π s₂ H₂,PG (Br X N' sc cl C fp π s₂ H₂) L g)(ht:∀cl C fp π s₂ H₂,FN (Br X N' sc cl C fp π s₂ H₂) J V)(he:∀cl C fp π s₂ H₂,PE (Br X N' sc cl C fp π s₂ H₂) B Y)(hs:∀x,Wr iter X.env x=pure x:=by intro _;rfl):PE X (.SetComp B [⟨L,iter,J,0⟩] sc pos) (Adz w aJ O g V Y):=by subst hw;refine LV rfl hc S hi hg ht ⟨rfl,λ_ _ _ _=>⟨rfl,rfl⟩,λI q=>Adu<|q _ (I.laid (λb o q=>Ut _ q) (Ua _)<|Mo (QA<|UT _ rfl) λz=>Iff.rfl),Adw,λcl C fp π s₂ H₂ it D=>⟨_,Adv ..,λ{bX s σ H N} I q=>?_⟩⟩ hs;refine TX<|Ar (he cl C fp π s₂ H₂ _ s σ H _ I q) λy s8 zz=>AF zz λv H8 I8 r8 zz=>?_;obtain⟨zs,z,e,hy,aD,n8⟩:=BA zz;subst e;obtain⟨tk,rfl⟩:=r8;exact TX<|WV (TX<|Ady (X:=Br X N' sc cl C fp π s₂ H₂) I8 hy aD λh9 tk9 I9=>Ub ⟨_,I9,n8⟩)
end
section
variable {prog:TR}{w:TL}{A:Ud}{E:af->TK->Prop}{s:TK}
structure Sti(h:Heap)(I a:ar)(o:Obj)(first:af)(i n ep:Nat):Prop where
 it:h.get? I=some { cls:=.type "set_iterator",data:=.fields #[first,.int i 0,.ref a,.int n 0,.int ep 0] }
 st:h.get? a=some o
end
section
variable {prog:TR}{w:TL}{A:Ud}{E:af->TK->Prop}{s:TK}
end
def AdB{ts:List bf}{i:Nat}{z:bf}(h:ts[i]?=some z):ts.getD i Uw=z:=by rw[Ux,h];rfl
section
variable {prog:TR}{w:TL}{A:Ud}{E:af->TK->Prop}{s:TK}
end
section
variable {prog:TR}{w:TL}{A:Ud}{E:af->TK->Prop}{s:TK}
end
section
variable {X:Cx}
def Mq (r:Xn vs ts)(B:i<ts.length):∃tk,vs.getD i U0=UU ts[i] tk:=by obtain⟨u,e,tk,rfl⟩:=As<|(GY r).get (i:=i) (x:=.str ts[i]) (by rw[T6,Uh B];rfl);exact⟨tk,by rw[Ux,e];rfl⟩
def AdC (r:Xn vs ts)(I:ts.Nodup)(two:2<=vs.length):Jh prog w A (λi=>(ts.getD i Uw).cps.toList) vs s:=by
 have el:ts.length=vs.length:=by have:=(GY r).length;rwa [TN]at this
 have J:keyKind' vs.toArray=pure oneType':=by
  match vs,two,r with
  |v1::v2::rest,_,r=>exact keyKind_strs r
 unfold Jh;rw[J];refine Ub ⟨rfl,⟨λi j L O ne e=>?_,λi j C L O hq=>?_⟩⟩
 .have B:i<ts.length:=by omega
  have D:j<ts.length:=by omega
  rw [Ux,Ux,Uh B,Uh D]at e;exact ne<|(XQ I).mp (Qu e)
 .have B:i<ts.length:=by omega
  have D:j<ts.length:=by omega
  obtain⟨t1,V⟩:=Mq r B;obtain⟨t2,Y⟩:=Mq r D;show TQ _ A (keyLt' oneType' (vs.getD i U0)<|vs.getD j U0) C _ _;rw[V,Y];rw[Ux,Ux,Uh B,Uh D]at hq;exact PySem.W.kas_lt_str hq
end
section
variable {K:TH}{D:ar}{z:bf}{g:TG}{tt:TT}{te:TE}{σ0:St}{H:Hp}{Q:Hp->Prop}
def AdD(Pv:Nat->St->Hp->Prop)(I:Pv 0 σ0 (upd H D<|.lst []))(hs:∀i c σ B,z.cps.toList[i]?=some c->Pv i σ B->g (.str ⟨#[c]⟩) σ B (Fv D tt te<|Pv (i+1)))(hd:∀σ B,Pv z.cps.toList.length σ B->Q B):CW (Hz z) g (Fv D tt te) σ0 (upd H D<|.lst []) λ_=>Q :=
 PL Pv I hs hd
def AdE (Pv:Nat->St->Hp->Prop)(L:Pv 0 σ0 (upd H D<|DE w D []))(O:∀i σ H,i<=xs.length->Pv i σ H->A3 K H a xs)(hs:∀i x σ B,xs[i]?=some x->Pv i σ B->g x σ B λσ3 Y=>tt σ3 Y λb I=>if b=true then te σ3 I λv J=>∃zs z,v=.str z/\J D=some (DE w D zs)/\zs.length<2000/\Pv (i+1) σ3 (upd J D<|DE w D (zs++[z]))else Pv (i+1) σ3 I)(hd:∀σ B,Pv xs.length σ B->Q B):CW (Hu K a) g (LU tt<|QC w te D) σ0 (upd H D<|DE w D []) λ_=>Q :=
 LD Pv L O hs hd
end
section
variable {X:Cx}{CX:Cj}{k:Nat}{f C:ar}{fd:T3}{ps:List bf}{sp:Sp}{x:bf}{p pos:Pos}{e:TM}{es:List TM}{t:TA}{W:St->XK}
def QD{D a b:TM}{B:TA}(g:Gm X.env.scope "range")(I:X.mg "range"=none)(J:PA X [a,b] B)(hs:T5 [a,b] X.env=[(false,T7 a X.env),(false,T7 b X.env)]:=by rfl)(L:T5 [b] X.env=[(false,T7 b X.env)]:=by rfl):PI X D (.Call (.Name "range" p) [a,b] [] pos) (OI B):=AaH g.gl I J hs L
def HM (g:Gm X.env.scope x)(B:∃t,X.mg x=some (U7 i t)):PE X (.Name x pos) (tC<|.int i):=by obtain⟨t,h⟩:=B;exact DZ g h ⟨t,rfl⟩
def HN (g:Gm X.env.scope x)(B:∃t,X.mg x=some (UU z t)):PE X (.Name x pos) (tC<|.str z):=by obtain⟨t,h⟩:=B;exact DZ g h ⟨t,rfl⟩
end
section
variable {X:Cx}
end
section
variable {X:Cx}{N':List bf}{sc:Scope}{aJ:List (Option Nat)}{cl:List (bf×ar)}{C:ar}{fp:List ar}{π:List (ar×Obj)}{s₂:TK}{H₂:Hp}{σ:St}
def AdF (I:Ad X π σ H s)(e:H D=some (.dK kvs))(aD:kvs.length<sizeLine)(rk:AH (kV k) x)(O:AH v y)(q:∀J,Ad X π σ (upd H D<|.dK (BU kvs k v)) J->Q () J):TQ (TV X.prog X.w) X.A (dictSet D x y) Q E s:=by
 obtain⟨z,hd,vs,B,Y⟩:=AU<|Me I.ai e;have hz:vs.length<=sizeLine:=by rw[<-B.length];exact z
 have hl:(BU kvs k v).length<=sizeLine:=by have:=Kk kvs k v;omega
 refine wpAny_dictSet_pairs (hsz:=hz) (Gw rk) Y λh' L hs=>q _ ?_;have he:∃q,h'.get? D=some q:=let ⟨q,_,_,hq,_⟩:=L;⟨q,hq⟩;exact Ko I (by rw[e];exact Vv) hs he<|Mf hl hd (B.put k O) L
abbrev QE(tk tv:TE)(D:ar):St->Hp->(Hp->Prop)->Prop:=λσ H N=>tk σ H λk H5=>tv σ H5 λv H6=>∃kvs kk,k=kV kk/\H6 D=some (.dK kvs)/\kvs.length<sizeLine/\N (upd H6 D (.dK (BU kvs kk v)))
def AdG(aJ:List (Option Nat))(wi:TI)(g:TG)(tt:TT)(tk tv:TE):TE:=HI (λ_=>.dK []) (QE tk tv) aJ wi g tt
def AdH{kx O V iter:TM}{B:List TM}{pos:Pos}{Y tv:TE}(he:∀cl C fp π s₂ H₂,PE (Br X N' sc cl C fp π s₂ H₂) kx Y)(hv:∀cl C fp π s₂ H₂,PE (Br X N' sc cl C fp π s₂ H₂) O tv):IZ X (.DictComp kx O [⟨V,iter,B,0⟩] sc pos) V iter B N' sc newDict (λ_=>.dK []) (QE Y tv) :=
 ⟨rfl,λ_ _ _ _=>⟨rfl,rfl⟩,λ{π s σ H Q} I q=>Yc<|q _ (I.laid (λb o q=>Ut _ q) (Ua _)<|Mh s.heap I.big),codeAny_compStart_dict,λcl C fp π s₂ H₂ it D=>⟨_,compTurn_dict ..,λ{bX s σ H N} I q=>by
  refine TX<|Ar (he cl C fp π s₂ H₂ _ s σ H _ I q) λy s8 J=>AF J λv H8 I8 r8 q8=>TX<|VJ (Ar (hv cl C fp π s₂ H₂ _ s8 σ H8 _ I8 q8) λy' s9 J=>AF J λv' H9 I9 r9 zz=>?_);obtain⟨kvs,kk,e,hy,aD,n9⟩:=BA zz;subst e;exact TX<|WV (VJ<|AdF (X:=Br X N' sc cl C fp π s₂ H₂) I9 hy aD r8 r9 λjh L=>⟨_,L,n9⟩)⟩⟩
def QF{kx I D iter:TM}{B:List TM}{pos:Pos}{J:TI}{g:TG}{L:TT}{O V:TE}(hc:X.calm=true)(S:BK sc X.env.scope N' X.N aJ)(Y:PI X D iter J)(hg:∀cl C fp π s₂ H₂,PG (Br X N' sc cl C fp π s₂ H₂) D g)(ht:∀cl C fp π s₂ H₂,FN (Br X N' sc cl C fp π s₂ H₂) B L)(he:∀cl C fp π s₂ H₂,PE (Br X N' sc cl C fp π s₂ H₂) kx O)(hv:∀cl C fp π s₂ H₂,PE (Br X N' sc cl C fp π s₂ H₂) I V)(hs:∀x,Wr iter X.env x=pure x:=by intro _;rfl):PE X (.DictComp kx I [⟨D,iter,B,0⟩] sc pos) (AdG aJ J g L O V):=LV rfl hc S Y hg ht (AdH he hv) hs
end
structure Mr(P:TR)(w:TL)(K:TH)(a:ar)(kvs:List (Ay×V)):Prop where
 lo:(a == Vk)=false
 sz:kvs.length<=sizeLine
 sh:∃o vs ep,K.lookup a=some o/\KV kvs vs/\∀h:Heap,h.get? a=some o->h.DictAt (BB P w) a vs ep
def Dd(P:TR)(w:TL)(K:TH)(H:Hp)(a:ar)(kvs:List (Ay×V)):Prop:=Rd H a (.dK kvs)\/Mr P w K a kvs
def Dd.of{P:TR}{w:TL}{K:TH}{H:Hp}{a:ar}{kvs:List (Ay×V)}(h:H a=some (.dK kvs)):Dd P w K H a kvs:=.inl<|.inl h
def QG (h:(BB P w).is k u=true):AH (kV k) u:=by
 rw [Aaf]at h;cases k with
 |inl i =>
  show ∃t,u=U7 i t;cases u<;>simp[Fg,Y0]at h;rename_i j t
  exact⟨t,by rw[h]⟩
 |inr x =>
  show ∃t,u=UU x t;cases u<;>simp[Fg,Yo]at h;rename_i j t
  exact⟨t,by rw[h]⟩
section
variable {X:Cx}{π:List (ar×Obj)}{σ:St}{H:Hp}{s:TK}{a:ar}{kvs:List (Ay×V)}{P:TR}{w:TL}{K:TH}
def Ks(I:Ad X π σ H s)(e:Dd X.prog X.w X.K H a kvs):kvs.length<=sizeLine/\(a == Vk)=false/\∃vs,KV kvs vs/\s.heap.DictOf (BB X.prog X.w) a vs:=by
 rcases e with e|e
 .exact Je I.ai e
 .obtain ⟨o,vs,B,l,r,d⟩:=C7 e.sh;exact⟨e.sz,e.lo,vs,r,(d _<|I.bk _ _ (I.mod.d2 _ _ l)).dictOf⟩
def AdI(P:TR)(w:TL)(K:TH)(neg:Bool):R2:=λx y H Q=>∃a kvs k,y=.ref a/\x=kV k/\Dd P w K H a kvs/\Q (.bl (if neg then !(Ba kvs k).isSome else(Ba kvs k).isSome)) H
def GZ(D:X.prog=P:=by rfl)(hw:X.w=w:=by rfl)(J:X.K=K:=by rfl):Bh X (UO .NotIn) (AdI P w K true):=by
 subst D hw J;intro π s σ H x y v u Q I L O h;replace h:=C7 h;obtain⟨a,kvs,k,rfl,rfl,e,q⟩:=h
 cases(show u=T8 a from O);obtain⟨z,hd,vs,B,Y⟩:=AU<|Ks I e;apply wpAny_notIn_of (Gw L) hd Y.mapOf;rw[<-(B.val k).rX];exact⟨.bl<|!(Ba kvs k).isSome,H,I.tok _,rfl,q⟩
def QH(P:TR)(w:TL)(K:TH)(td ty:TE):TE:=λσ H Q=>td σ H λx H1=>ty σ H1 λy H2=>∃a kvs k v,x=.ref a/\y=kV k/\Dd P w K H2 a kvs/\Ba kvs k=some v/\Q v H2
def AdJ{o i:TM}{pos:Pos}{J ty:TE}(Y:PE X o J)(hi:PE X i ty)(hs:Mg i)(hP:X.prog=P:=by rfl)(hw:X.w=w:=by rfl)(hK:X.K=K:=by rfl):PE X (.Subscript o i pos) (QH P w K J ty):=by subst hP hw hK;intro π s σ H Q I h;refine AcR PySem.F.slot_dict_getitem.lookup hs<|Ar (Y π s σ H _ I h) λu s1 B=>AF B λx H1 I1 rx q1=>Ar (hi π s1 σ H1 _ I1 q1) λiv s2 B=>AF B λy H2 L ry zz=>?_;obtain⟨a,kvs,k,v,ex,ey,g,l,q2⟩:=DN zz;subst ex ey;obtain rfl:u=T8 a:=rx;obtain⟨z,hd,vs,D,O⟩:=AU<|Ks L g;obtain⟨w',hw,bo⟩:=As<|C8.some_of (v:=v) (o:=WL vs k) (by rw[<-l];exact D.val k);exact⟨O.typeIs,xc (Gw ry) O.mapOf hw ⟨v,H2,L.tok _,bo,q2⟩⟩
def Ap(P:TR)(w:TL)(K:TH){X:Cx}{o i:TM}{pos:Pos}{B ty:TE}(D:PE X o B)(I:PE X i ty)(hs:Mg i:=by exact λ_ _=>rfl)(J:X.prog=P:=by rfl)(hw:X.w=w:=by rfl)(L:X.K=K:=by rfl):PE X (.Subscript o i pos) (QH P w K B ty):=AdJ D I hs J hw L
end
section
variable {K:TH}{D:ar}{kvs:List (Ay×V)}{g:TG}{tt:TT}{tk tv:TE}{σ0:St}{H:Hp}{Q:Hp->Prop}{a:ar}{xs:List V}
abbrev Kt(D:ar)(tt:TT)(tk tv:TE)(N:St->Hp->Prop):St->Hp->Prop:=λσ3 H3=>tt σ3 H3 λb H4 =>
 if b=true then tk σ3 H4 λk H5=>tv σ3 H5 λv H6=>∃kvs kk,k=kV kk/\H6 D=some (.dK kvs)/\kvs.length<sizeLine/\N σ3 (upd H6 D (.dK (BU kvs kk v)))else N σ3 H4
end
end L2
set_option maxHeartbeats 4000000
namespace L2
open PySem PySem.Spec PyProof.Rows Builtin Builtin.Str
theorem QI:∀{vs:List af}{zs:List bf},Xn vs zs->∃l:List (bf×Tok),strValues l=vs/\l.map (·.1)=zs
 |_,_,.nil=>⟨[],rfl,rfl⟩
 |_,_,.cons x t h=>by
  obtain⟨l,B,D⟩:=As (QI h);exact⟨(x,t)::l,by rw[<-B];rfl,by rw[<-D];rfl⟩
section
variable {X:Cx}
def AdK:Pd X "str.join" (λx vs H Q=>∃(B:bf)(p:ar)(zs:List bf),x=.str B/\vs=[.ref p]/\A3 X.K H p (zs.map V.str)/\(zs.map (·.length)).sum+zs.length<=1000000/\B.length<=16/\Q (.str<|Str.join B zs) H):=by
 intro π s σ H x xs v us Q I D r h;replace h:=F9 h;obtain⟨B,p,zs,rfl,rfl,J,hz,hs,q⟩:=h
 obtain⟨t,rfl⟩:=D;obtain⟨u,rfl,L⟩:=As<|AA.one r;cases(show u=T8 p from L);obtain⟨its,O,pl,_⟩:=AG<|I.list J;have Y:=Jg O;obtain⟨l,hl,ht⟩:=As<|QI Y;refine SC.join (l:=l) (texts:=zs) (by rw[hl];exact pl.isList) ht (joinOk_of_weight (by omega) hs) λt' k=>?_;refine⟨.str<|Str.join B zs,H,I.tok _,⟨t',?_⟩,q⟩;rw[<-StrLaws.glued_eq_join];rfl
end
end L2
namespace L2
open PySem PySem.Spec PyProof.Rows
section
variable {K:TH}{a D:ar}{xs:List V}{g:TG}{tt:TT}{te:TE}{σ0:St}{H:Hp}{Q:Hp->Prop}
end
section
variable {prog:TR}{w:TL}{A:Ud}{E:af->TK->Prop}{s:TK}
def AdL (I:s.heap.IsTupleIter j t i)(J:s.heap.IsTuple t its)(hx:its[i]?=some x)(q:∀g,g.IsTupleIter j t (i+1)->Vb j s.heap g->Q x { s with heap:=g }):TQ (TV prog w) A (YO<|.ref j) Q E s:=by obtain⟨o,D,L,B⟩:=AG<|id I;obtain⟨u,f1,_,n,O⟩:=AG J;unfold YO;refine TX<|YQ (name:=TU "__next__") I.typeIs YR (Xp YR I.typeIs xH ?_<|xI _);show TQ _ _ (WQ (.ref j) 0 >>= _) _ _ s;refine TX<|Wc D B (x:=.ref t) rfl ?_;show TQ _ _ (if (T8 t == U0)=true then _ else _) _ _ s;rw[cZ (show ¬((T8 t == U0)=true)from UN)];show TQ _ _ (WQ (.ref j) 1 >>= _) _ _ s;refine TX<|Wc D B (x:=.int i 0) rfl ?_;show TQ _ _ (seqItems? (.ref t) >>= _) _ _ s;refine TX<|xJ f1 O ?_;simp only[WC,hx];refine TX<|xK D B (by simp) (Ub ⟨x,rfl,Ub<|q _ ⟨_,Zn _ D<|Obj.isFreed_of_fields (xM B _),(Obj.cls_mapFields ..).trans L,?_⟩ (YN ..)⟩);rw[xM B];simp[WZ]
def AdM (J:A.handled=none)(B:s.heap.IsTupleIter j t i)(L:s.heap.IsTuple t its)(hx:its[i]?=none)(q:∀g e,Heap.ExtBut j s.heap g->(∃o,g.get? e=some o/\o.cls=.type "StopIteration")->E (.ref e) { s with heap:=g }):TQ (TV prog w) A (YO<|.ref j) Q E s:=by
 obtain⟨o,D,V,I⟩:=AG<|id B;obtain⟨u,f1,_,n,O⟩:=AG L;unfold YO;refine TX<|YQ (name:=TU "__next__") B.typeIs YR (Xp YR B.typeIs xH ?_<|xI _);show TQ _ _ (WQ (.ref j) 0 >>= _) _ _ s;refine TX<|Wc D I (x:=.ref t) rfl ?_;show TQ _ _ (if (T8 t == U0)=true then _ else _) _ _ s;rw[cZ (show ¬((T8 t == U0)=true)from UN)];show TQ _ _ (WQ (.ref j) 1 >>= _) _ _ s;refine TX<|Wc D I (x:=.int i 0) rfl ?_;show TQ _ _ (seqItems? (.ref t) >>= _) _ _ s;refine TX<|xJ f1 O ?_;simp only[WC,hx];refine TX<|XF (TX<|xK D I (by simp) ?_);show TQ _ _ (newExc (.type "StopIteration") [] >>= _) _ _ _;apply TX;simp only[newExc,newTuple];refine TX<|Yc ?_ (by size_fits);refine TX (m:=xN _ _)<|wpAny_of_eq (a:=U0) (by first|rfl|(simp only[xN];rfl)) ?_;refine Yc ?_ (by size_fits);simp only[raiseNew];refine TX<|wpAny_handled ?_;first|rw[show A.in1.handled=none from J]|rw[J]
 refine TX<|Ub (wpAny_throw ?_);exact q _ _ (((YN ..).extBut.push _).push _) ⟨_,UT _ rfl,rfl⟩
def AdN{e j t:ar}{i:Nat}{its:Array af}{x B:af}{Q:af->TK->Prop}(he:VO s.heap e j i B)(hj:s.heap.IsTupleIter j t i)(ht:s.heap.IsTuple t its)(hx:its[i]?=some x)(ne:e≠j)(q:∀g,YS g e j ((i:Int)+1) x s.heap.objs.size->g.IsTupleIter j t (i+1)->g.get? s.heap.objs.size=some { cls:=.type "tuple",data:=.seq #[.int i s.toks,x] }->g.objs.size=s.heap.objs.size+1 ->
   (∀b o,b≠e->b≠j->s.heap.get? b=some o->g.get? b=some o)->Q (.ref s.heap.objs.size) { s with heap:=g,toks:=s.toks+1 }) :
  TQ (TV prog w) A (Builtin.«enumerate.__next__» ⟨[.ref e],[]⟩) (λfin s'=>∃v,fin=.done (.ret v)/\Q v s') E s:=by
 obtain⟨I,J,L,D,os⟩:=s;show TQ _ _ (WQ (.ref e) 2 >>= _) _ _ _;refine TX<|Wc he rfl (x:=.ref j) rfl (TX<|AdL hj ht hx λO j1 s1=>?_);replace s1:Vb j I O:=s1
 have E1:VO O e j i B:=(s1.2 e ne).trans he;show TQ _ _ (WQ (.ref e) 3 >>= _) _ _ ⟨O,J,L,D,os⟩;refine TX<|Wc E1 rfl (x:=WZ i) rfl ?_;show TQ _ _ (WQ (.ref e) 4 >>= _) _ _ ⟨O,J,L,D,os⟩;refine TX<|Wc E1 rfl (x:=.none) rfl ?_;show TQ _ _ (mkInt i >>= _) _ _ ⟨O,J,L,D,os⟩;refine TX<|wpAny_mkInt ?_;show TQ _ _ (setField (.ref e) 3 (WZ<|(i:Int)+1) >>= _) _ _ ⟨O,J,L,D+1,os⟩;refine TX<|Yh E1 (by simp) λa2 E2 s2=>?_;replace s2:Vb e O a2:=s2
 replace E2:VO a2 e j ((i:Int)+1) B:=E2
 show TQ _ _ (setField (.ref e) 4 .none >>= _) _ _ ⟨a2,J,L,D+1,os⟩;refine TX<|Yh E2 (by simp) λV E3 s3=>?_;replace s3:Vb e a2 V:=s3
 replace E3:VO V e j ((i:Int)+1) B:=E3
 show TQ _ _ (newTuple [.int i D,x] >>= _) _ _ ⟨V,J,L,D+1,os⟩;refine TX<|xl ?_;have E4:VO (V.push { cls:=.type "tuple",data:=.seq #[.int i D,x] }) e j ((i:Int)+1) B:=Ut _ E3;generalize e4:V.push { cls:=.type "tuple",data:=.seq #[.int i D,x] }=a4 at E4;have z3:V.objs.size=I.objs.size:=by rw[s3.1,s2.1,s1.1]
 have le:e<I.objs.size:=Ul he;have T4:a4.get? I.objs.size=some { cls:=.type "tuple",data:=.seq #[.int i D,x] }:=by rw[<-e4,<-z3];exact UT _ rfl
 have z4:a4.objs.size=I.objs.size+1:=by rw[<-e4,V8,z3]
 have k4:∀b o,b≠e->b≠j->I.get? b=some o->a4.get? b=some o:=λb o Y n2 hb=>by
  rw [<-e4];exact Ut _<|s3.extBut b o Y (s2.extBut b o Y<|s1.extBut b o n2 hb)
 have j4:a4.IsTupleIter j t (i+1):=by rw[<-e4];obtain⟨o,ho,r⟩:=As<|(j1.extBut s2.extBut<|UC ne).extBut s3.extBut (UC ne);exact⟨o,Ut _ ho,r⟩
 show TQ _ _ (xO (.ref e) >>= _) _ _ ⟨a4,J,L,D+1,os⟩;rw[z3];clear e4 E3 s3 E2 s2 E1 s1 j1 z3 V a2 O
 apply TX;unfold xO;refine TX<|Wc E4 rfl (x:=.none) rfl (Ub ?_);simp only[if_true];refine TX<|XF (TX<|Wc E4 rfl (x:=B) rfl (TX<|Yh E4 (by simp) λa5 E5 s5=>?_));replace s5:Vb e a4 a5:=s5
 replace E5:VO a5 e j ((i:Int)+1) x:=E5
 show TQ _ _ (xP (.ref e) (.ref I.objs.size) >>= _) _ _ ⟨a5,J,L,D+1,os⟩;apply TX;unfold xP;refine TX<|Yh E5 (by simp) λa6 E6 s6=>?_;replace s6:Vb e a5 a6:=s6
 replace E6:YS a6 e j ((i:Int)+1) x I.objs.size:=E6
 refine Yh E6 (by simp) λa7 E7 s7=>?_;replace s7:Vb e a6 a7:=s7
 replace E7:YS a7 e j ((i:Int)+1) x I.objs.size:=E7
 refine TX<|wpAny_letGo (Ub ⟨_,rfl,q a7 E7 ?_ ?_ ?_ ?_⟩)
 .exact ((j4.extBut s5.extBut<|UC ne).extBut s6.extBut<|UC ne).extBut s7.extBut (UC ne)
 .exact s7.extBut _ _ (Wq le) (s6.extBut _ _ (Wq le)<|s5.extBut _ _ (Wq le) T4)
 .rw[s7.1,s6.1,s5.1,z4]
 .exact λb o Y n2 hb=>s7.extBut b o Y<|s6.extBut b o Y (s5.extBut b o Y<|k4 b o Y n2 hb)
def AdO{e j t:ar}{i:Nat}{its:Array af}{x B:af}{Q:Option af->TK->Prop}(D:VO s.heap e j i B)(I:s.heap.IsTupleIter j t i)(J:s.heap.IsTuple t its)(hx:its[i]?=some x)(ne:e≠j)(q:∀g,YS g e j ((i:Int)+1) x s.heap.objs.size->g.IsTupleIter j t (i+1)->g.get? s.heap.objs.size=some { cls:=.type "tuple",data:=.seq #[.int i s.toks,x] }->g.objs.size=s.heap.objs.size+1 ->
   (∀b o,b≠e->b≠j->s.heap.get? b=some o->g.get? b=some o)->Q (some<|.ref s.heap.objs.size) { s with heap:=g,toks:=s.toks+1 }):TQ (TV prog w) A (VT<|.ref e) Q E s:=by
 have ty:s.TypeIs (.ref e) "enumerate":=⟨_,D,rfl⟩;unfold VT;exact TX<|wpAny_attempt (YQ (name:=TU "__next__") ty YT<|Xp YT ty xQ (AdN D I J hx ne λg a b c d k=>Ub<|q g a b c d k) (xR _))
def AdP{e j t:ar}{i:Nat}{its:Array af}{B:af}{Q:Option af->TK->Prop}(I:A.handled=none)(D:VO s.heap e j i B)(J:s.heap.IsTupleIter j t i)(L:s.heap.IsTuple t its)(hx:its[i]?=none)(q:∀g,Heap.ExtBut j s.heap g->Q none { s with heap:=g }):TQ (TV prog w) A (VT<|.ref e) Q E s:=by have ty:s.TypeIs (.ref e) "enumerate":=⟨_,D,rfl⟩;unfold VT;refine TX<|wpAny_attempt (YQ (name:=TU "__next__") ty YT<|Xp YT ty xQ ?_ (xR _));show TQ _ _ (WQ (.ref e) 2 >>= _) _ _ _;refine TX<|Wc D rfl (x:=.ref j) rfl (TX<|AdM I J L hx λg y O V=>DM V λo Y hc=>?_);exact TX<|wpAny_isInstance (T:="StopIteration") (b:=true) ⟨o,Y,hc⟩ isSubtype_stop (Ub<|q _ O)
end
def AdQ(t:ar)(its:Array af)(o:Obj)(hc:o.cls=.type "tuple")(n:Nat)(hd:o.data=.seq its n) :
  Meets (Builtin.«enumerate.__new__» ⟨[.type "enumerate",.ref t],[]⟩) (λ_ R s=>s.heap.get? t=some o /\
   R (.ok<|.ret (.ref (s.heap.push { cls:=.type "tuple_iterator",data:=.fields #[.ref t,.int 0 0] }).objs.size))
    { s with heap:=(s.heap.push { cls:=.type "tuple_iterator",data:=.fields #[.ref t,.int 0 0] }).push { cls:=.type "enumerate",data:=.fields #[.none,.bool false,.ref s.heap.objs.size,WZ 0,.none,.none] } }) :=
 .of_wp λprog w A R s h=>by
  obtain⟨c,sh,I,sl⟩:=o;replace hc:c=.type "tuple":=hc
  replace hd:I=.seq its n:=hd
  subst hc hd;obtain⟨J,L,O,V,os⟩:=s;obtain⟨B,h⟩:=h;have Y:=sub_enumerate;have D:Heap.IsTuple (Shared.heap ⟨J,L,O,V,os⟩) t its:=⟨_,B,rfl,n,rfl⟩;wp_walk using ZY B
  refine wpAny_stack_any λst=>Ub ?_;split
  .rename_i c _ _ _ _ _
   cases(c == XJ "enumerate")<;>(wp_walk using ZY B,Y8 D;exact⟨_,rfl,h⟩)
  .wp_walk using ZY B,Y8 D
   exact⟨_,rfl,h⟩
section
variable {prog:TR}{w:TL}{A:Ud}{E:af->TK->Prop}{s:TK}
def AdR (I:s.heap.IsTuple t its)(h:∀g,VO g (s.heap.objs.size+1) s.heap.objs.size 0 .none->g.IsTupleIter s.heap.objs.size t 0->g.objs.size=s.heap.objs.size+2->(∀b o,s.heap.get? b=some o->g.get? b=some o)->Q (.ref<|s.heap.objs.size+1) { s with heap:=g }):
  TQ (TV prog w) A (call (.type "enumerate") [.ref t]) Q E s:=by
 obtain⟨o,J,hc,n,hd⟩:=AG I;refine callType_new F.called_enumerate (by decide) (F.typeCall_enumerate_1 _) (F.newCall_enumerate_1 _) (λobj=>F.args_object_init_2 obj _) F.entry_enumerate_new (AdQ t its o hc n hd) ⟨J,?_⟩;have B:(s.heap.push { cls:=.type "tuple_iterator",data:=.fields #[.ref t,.int 0 0] }).objs.size=s.heap.objs.size+1:=V8 ..;show _/\_;rw[B];have D:VO ((s.heap.push { cls:=.type "tuple_iterator",data:=.fields #[.ref t,.int 0 0] }).push { cls:=.type "enumerate",data:=.fields #[.none,.bool false,.ref s.heap.objs.size,WZ 0,.none,.none] }) (s.heap.objs.size+1) s.heap.objs.size 0 .none:=by have:=UT (s.heap.push { cls:=.type "tuple_iterator",data:=.fields #[.ref t,.int 0 0] }) (o:={ cls:=.type "enumerate",data:=.fields #[.none,.bool false,.ref s.heap.objs.size,WZ 0,.none,.none] }) rfl;rwa[B]at this
 exact⟨⟨_,D,rfl⟩,h _ D ⟨_,Ut _<|UT _ rfl,rfl,rfl⟩ (by rw[V8,B]) λb o x=>Ut _<|Ut _ x⟩
end
section
variable {X:Cx}{π:List (ar×Obj)}{σ:St}{H:Hp}{s:TK}{h':Heap}
noncomputable def Ms(K:TH)(a:ar):It :=
 ⟨λi H=>∃xs x,Bw K H a xs/\xs[i]?=some x,λi H x H'=>∃t y,x=.ref t/\H t=none/\H'=upd H t (.tup [.int i,y])/\∀xs,Bw K H a xs->xs[i]?=some y,λi H=>∃xs,Bw K H a xs/\xs.length<=i⟩
theorem AdS{P:TR}{w:TL}{K:TH}{L:List TM}{kk:Nat}{pos:Pos}(a e it:ar)(je:e≠it):Ge P w K (.Tuple L kk pos) (Ms K a) [e,it] e (λi h=>(∃B,VO h e it i B)/\h.IsTupleIter it a i) where
 mem:=by simp
 obj:=λi h st b hb=>by
  obtain⟨⟨B,D⟩,⟨o,V,c,d⟩⟩:=st;rcases T9.mp hb with z|z
  .subst z;exact⟨_,D,λv z=>by cases z⟩
  .have z:b=it:=by simpa using z
   subst z;exact⟨o,V,λv z=>by rw[d]at z;cases z⟩
 keep:=λi h h' st k=>by
  obtain⟨⟨B,D⟩,hi⟩:=st;exact⟨⟨B,k e (by simp) _ D⟩,hi.at λo q=>k it (by simp) o q⟩
 item:=by
  intro X Y hw hK hc i π s σ H E I O st hg;subst Y hw hK;obtain⟨xs,x,hq,hx⟩:=Bv hg;obtain⟨its,rv,p,hz⟩:=AG (I.tuple hq);obtain⟨u,hu,ru⟩:=As (rv.get hx);obtain⟨⟨B,D⟩,J⟩:=st;refine AdO D J p (x:=u) (by simpa using hu) je λh' V mO hT hsz hk=>⟨_,rfl,?_⟩;have I1:Ad X π σ (upd H s.heap.objs.size (.tup [.int i,x])) { s with heap:=h',toks:=s.toks+1 } :=
   I.mM (ch:=[e,it]) (us:=[.int i s.toks,u]) O (λb o hb q=>hk b o (λz=>hb (by simp[z])) (λz=>hb (by simp[z])) q) (Ua _)
    (λb hb=>by
     rcases T9.mp hb with z|z
     .subst z;exact⟨_,D⟩
     .have z:b=it:=by simpa using z
      subst z;obtain⟨o,q,_⟩:=As J;exact⟨o,q⟩) hT (.cons ⟨_,rfl⟩ (.cons ru .nil)) Ao
  have fr:∀b∈[e,it],(upd H s.heap.objs.size (.tup [.int i,x])) b=none:=λb hb=>by
   have aU:b<s.heap.objs.size:=by
    rcases T9.mp hb with z|z
    .subst z;exact Ul D
    .have z:b=it:=by simpa using z
     subst z;obtain⟨o,q,_⟩:=As J;exact Ul q
   rw [Aw (Uz aU)];exact(O b hb).1
  refine wX V λh2 mP bE=>?_;obtain⟨f0,f1,f2,f3,f4,f5⟩:=AU (O e (by simp));have I2:Ad X π σ (upd H s.heap.objs.size (.tup [.int i,x])) { s with heap:=h2,toks:=s.toks+1 }:=I1.turned (t':=s.toks+1) (λb o hb q=>(bE.2 b hb).trans q) (fr e (by simp)) f1 f3 f4 f5;refine⟨.ref s.heap.objs.size,_,I2,rfl,⟨_,x,rfl,I.fresh,rfl,λys hy=>by rw[I.rC hy hq];exact hx⟩,⟨⟨u,mP⟩,?_⟩,fr⟩;exact mO.at λo q=>(bE.2 it je.symm).trans q
 done:=by intro X Y hw hK hc i π s σ H E I O st hg;subst Y hw hK;obtain⟨xs,hq,hx⟩:=As hg;obtain⟨its,rv,p,hz⟩:=AG (I.tuple hq);obtain⟨⟨B,D⟩,J⟩:=st;obtain⟨f0,f1,f2,f3,f4,f5⟩:=AU (O it (by simp));have hl:=rv.length;exact AdP (I.ok.hd hc) D J p (by simp;omega) λh' eb=>⟨rfl,I.turned (t':=s.toks) (λb o hb q=>eb b o hb q) f0 f1 f3 f4 f5⟩
 self:=λ_ _ _ _ _ st h=>by
  obtain⟨⟨B,D⟩,_⟩:=st;exact YI D h
def AdT(K:TH)(ta:TA):TI:=λσ H R=>ta σ H λvs H1=>∃a xs,vs=[.ref a]/\Bw K H1 a xs/\R (Ms K a) H1
def AdU (g:Gm X.env.scope "enumerate")(hm:X.mg "enumerate"=none)(ha:PA X [x] O)(hs:T5 [x] X.env=[(false,T7 x X.env)]:=by rfl):
  PI X (.Tuple J kk tp) (.Call (.Name "enumerate" p) [x] [] pos) (AdT X.K O):=by
 intro π s σ H R I h;refine Call_<|Ga I g.gl hm P6 (Xv (Ar (ha pos π s σ H _ I h) λus B zz=>AF zz λvs V D r1 q1=>?_) hs rfl);obtain⟨a,xs,e,hq,q⟩:=BA q1;subst e;cases r1 with
 |cons r rr =>
  cases rr;cases r;obtain⟨its,rv,pl,hz⟩:=AG<|D.tuple hq;refine AdR pl λh' Y L hsz hk=>?_;apply YI Y;have mQ:V (B.heap.objs.size+1)=none:=D.ai.fresh<|Vw _;refine⟨B.heap.objs.size+1,[B.heap.objs.size+1,B.heap.objs.size],_,_,V,rfl,D.kept (t':=B.toks) hk,AdS a _ _<|ZE _,⟨⟨_,Y⟩,L⟩,λb hb=>?_,q⟩;rcases T9.mp hb with z|z
  .subst z;exact D.d5 (Vw _) mQ
  .have z:b=B.heap.objs.size:=by simpa using z
   subst z;exact D.d5 (Ua _) D.fresh
end
section
variable {K:TH}{a D:ar}{xs:List V}{g:TG}{tt:TT}{tk tv:TE}{σ0:St}{H:Hp}{Q:Hp->Prop}
def AdV(Pv:Nat->St->Hp->Prop)(L:Pv 0 σ0 (upd H D<|.dK []))(I:∀i σ H,i<=xs.length->Pv i σ H->Bw K H a xs)(hs:∀i x t σ B,xs[i]?=some x->Pv i σ B->B t=none->g (.ref t) σ (upd B t<|.tup [.int i,x]) (Kt D tt tk tv<|Pv (i+1)))(hd:∀σ B,Pv xs.length σ B->Q B):CW (Ms K a) g (Kt D tt tk tv) σ0 (upd H D<|.dK []) λ_=>Q :=
 GK xs.length Pv L (λi σ H J p=>have q:=I i σ H (Wm J) p;⟨⟨xs,xs[i],q,by simp[J]⟩,λx B O=>FG O λt y e Y e2 hy=>by subst e e2;exact hs i y t σ H (hy xs q) p Y⟩) λσ H p=>⟨⟨xs,I _ σ H (Ua _) p,Ua _⟩,hd σ H p⟩
def AdW(Pv:Nat->St->Hp->Prop)(I:Pv 0 σ0 (upd H D<|.dK []))(J:∀i σ H,i<=xs.length->Pv i σ H->Bw K H a xs)(hs:∀i x σ B,xs[i]?=some x->Pv i σ B->g x σ B (Kt D tt tk tv<|Pv (i+1)))(hd:∀σ B,Pv xs.length σ B->Q B):CW (IA K a) g (Kt D tt tk tv) σ0 (upd H D<|.dK []) λ_=>Q :=
 OJ Pv I J hs hd
end
def QJ(cs:List ar)(m:bf)(sp:Sp)(E:XK)(ta:TE)(t:TA):TE:=λσ H Q=>ta σ H λx H1=>∃a C dx fs,x=.ref a/\C∈cs/\H1 a=some (.ins C dx fs)/\fs.lookup m=none/\t σ H1 λvs H2=>sp (x::vs) H2 Q E
section
variable {X:Cx}{CX:Cj}{k:Nat}{cs:List ar}{ps:List bf}{sp:Sp}{E:XK}{m:bf}{pos apos:Pos}{e o:TM}{es:List TM}{ta:TE}{t:TA}
def Mt{pl:Sem Bool}(D:∀C∈cs,AO X.prog X.w X.K X.mg X.base CX k C m ps sp)(c:∀C∈cs,CN X.K C)(Y:PE X o ta)(hr:By k X.A)(hx:Dr CX X E)(ha:PA X (e::es) t)(aH:T5 (e::es) X.env=(false,T7 e X.env)::T5 es X.env:=by rfl)(aS:(UA pos<|T5 es X.env).any (·.1)=false:=by rfl)(ht:T7 (.Call (.Attribute o m apos) (e::es) [] pos) X.env=(T7 o X.env >>= λJ=>Vo apos.atName >>= λ_=>Vl [J] (V7 J m pl) >>= λff=>Ww pos ff.1 ff.2 (UA pos<|T5 (e::es) X.env)<|VU pos (VX [] X.env)):=by rfl) :
  PE X (.Call (.Attribute o m apos) (e::es) [] pos) (QJ cs m sp E ta t):=by
 intro π s σ H Q I h;refine Xz (pl:=pl) (Ar (Y π s σ H _ I h) λu s1 B=>AF B λx H1 L rx zz=>?_) ht;obtain⟨a,C,dx,fs,ex,mc,ea,l,q⟩:=DN zz;subst ex;cases rx;obtain⟨f,fd,O,hb,F⟩:=BA<|D C mc;refine IF L ea (c C mc) O l<|Xy (first:=[.ref a]) (h₀:=X.base) I.ok.mod.d2 O.kp (Ar (ha pos π s1 σ H1 _ L q) λus s2 B=>AF B λvs H2 V r q2=>⟨V.aN,?_⟩) aH aS;exact Hw (us:=.ref a::us) (vs:=.ref a::vs) (dvs:=[]) F hr hb .nil hx V (.cons rfl r)<|by simpa using q2
def Mu (D:∀C∈cs,AO X.prog X.w X.K X.mg X.base CX k C m ps sp)(c:∀C∈cs,CN X.K C)(O:PE X o ta)(V:By k X.A)(hx:Dr CX X E)(Y:T7 (.Call (.Attribute o m apos) [] [] pos) X.env=(T7 o X.env >>= λJ=>Vo apos.atName >>= λ_=>Vl [J] (V7 J m pl) >>= λff=>Ww pos ff.1 ff.2 (UA pos<|T5 [] X.env)<|VU pos (VX [] X.env)):=by rfl):
  PE X (.Call (.Attribute o m apos) [] [] pos) (QJ cs m sp E ta BP):=by
 intro π s σ H Q I h;refine Xz (pl:=pl) (Ar (O π s σ H _ I h) λu s1 zz=>AF zz λx H1 B rx zz=>?_) Y;obtain⟨a,C,dx,fs,ex,mc,ea,l,q⟩:=DN zz;subst ex;cases rx;obtain⟨f,fd,L,hb,F⟩:=BA<|D C mc;exact IF B ea (c C mc) L l<|wk (first:=[.ref a]) B.aN L.kp (Hw (us:=[.ref a]) (vs:=[.ref a]) (dvs:=[]) F V hb .nil hx B (.cons rfl .nil) q)
end
def Ku(P:XZ):List X7->List (bf×V)->Prop
 |[],[]=>True
 |e::r,p::kvs=>(∃t,e.key=.str p.1 t)/\e.hash=PyData.keyHash P p.1/\AH p.2 e.val/\Ku P r kvs
 |_,_=>False
theorem QK:∀{es:List X7}{kvs:List (bf×V)},Ku w.params es kvs->∃vs:List (Ay×af),KV (kvs.map λp=>(UL p.1,p.2)) vs/\Pairs (BB P w) es vs/\∀e∈es,∃k,(BB P w).is k e.key=true/\e.hash=(BB P w).hash k
 |[],[],_=>⟨[],.nil,.nil,λe m=>absurd m (by simp)⟩
 |[],_::_,h=>h.elim
 |_::_,[],h=>h.elim
 |e::es,p::kvs,h=>by
  obtain⟨⟨t,D⟩,I,J,L⟩:=AU h;obtain⟨vs,r,q,m⟩:=AG (QK (P:=P) L);have B:(BB P w).is (.inr p.1) e.key=true:=by rw[D];exact Hs P w p.1 t
  refine⟨(.inr p.1,e.val)::vs,.cons ⟨rfl,J⟩ r,.cons B rfl q,λx hx=>?_⟩;rcases T9.mp hx with z|z
  .exact ⟨.inr p.1,by rw[z];exact B,by rw[z];exact I⟩
  .exact m x z
def AdX{P:TR}{w:TL}{K:TH}{a:ar}{es:Array X7}{n:Nat}{kvs:List (bf×V)}(lo:(a == Vk)=false)(l:K.lookup a=some ⟨.type "dict",none,.dict es n,#[]⟩)(h:Ku w.params es.toList kvs)(B:(kvs.map (·.1)).Nodup)(sz:kvs.length<=1000) :
  Mr P w K a (kvs.map λp=>(UL p.1,p.2)):=by
 obtain⟨vs,r,q,m⟩:=AG<|QK (P:=P) h;refine⟨lo,by rw[TN,TZ];omega,_,vs,n,l,r,λJ D=>⟨_,es,D,⟨rfl,rfl,rfl⟩,rfl,λe I=>m e<|v8.mpr I,q,?_⟩⟩;rw[<-r.keys,Uq];have:(kvs.map ((·.1)∘λp:bf×V=>((UL p.1:Ay),p.2)))=(kvs.map (·.1)).map (UL:bf->Ay):=by rw[Uq];rfl
 rw [this];exact ZQ.mpr<|B.imp λh z=>h<|Wd z
theorem Mv:∀{xs:List V}{us:List af},us.length=xs.length->(∀(j:Nat)(v:af)(x:V),us[j]?=some v->xs[j]?=some x->AH x v)->AA xs us
 |[],[],_,_=>.nil
 |[],_::_,h,_=>by simp at h
 |_::_,[],h,_=>by simp at h
 |x::xs,u::us,h,f=>.cons (f 0 u x rfl rfl) (Mv (by simpa using h) λj v y hv hy=>f (j+1) v y (by simpa using hv) (by simpa using hy))
section
variable {X:Cx}
def AdY(hc:X.calm=true):B0 X (.type "list") (λxs H Q=>∃p kvs,xs=[.ref p]/\Dd X.prog X.w X.K H p kvs/\∀l,H l=none->Q (.ref l) (upd H l<|.lst (kvs.map λkv=>kV kv.1))):=by
 intro π s σ H xs us Q I r h;replace h:=BA h;obtain⟨p,kvs,rfl,O,q⟩:=h
 obtain⟨u,rfl,V⟩:=As<|Dq r;cases V;obtain⟨Y,lo,vs,B,dd⟩:=AU<|Ks I O;obtain⟨o,es,D,r⟩:=dd;have da:s.heap.DictAt (BB X.prog X.w) p vs D:=⟨o,es,r⟩;have hl:=B.length;refine PySem.W.kdl_call (xS (kvs:=vs) (ep:=D) lo) (I.ok.hd hc) da (by omega) λh' tk J c hk hs ha=>?_;refine⟨.ref s.heap.objs.size,_,I.laid (t':=tk) hk (Ua _) (show Bs X.prog X.w _ h' _ (.lst<|kvs.map λkv=>kV kv.1) from⟨?_,J.toList,c,?_,by simpa using hs⟩),rfl,q _ I.fresh⟩
 .rwa[TN]
 .obtain ⟨a1,a2⟩:=ha;refine Mv (by rw[Vm,TN,a1,hl]) λj v x hv hx=>?_;obtain⟨k,y,e,hk⟩:=Bv<|a2 j v (by simpa using hv);rw[T6]at hx;obtain⟨kv,e2,rfl⟩:=As<|UG.mp hx;have ke:=B.keys;have L:(kvs.map (·.1))[j]?=(vs.map (·.1))[j]?:=by rw[ke]
  rw [T6,T6,e,e2]at L;have e4:kv.1=k:=Us L;show AH (kV kv.1) v;rw[e4];exact QG hk
end
section
variable {X:Cx}
def AdZ:V->List V->Hp->VK->Prop:=λx vs H Q=>∃p xs y j,x=.ref p/\vs=[y]/\H p=some (.lst xs)/\DQ y=true/\xs.all DQ=true /\
 (∃z,xs[j]?=some z/\DR z y=true)/\(∀m z,m<j->xs[m]?=some z->DR z y=false)/\Q (.int (j:Nat)) H
def Ad0:J8 X "list.index" AdZ:=by
 intro π s σ H x vs v us Q I rx rv h;replace h:=Im h;obtain⟨p,Y,y,j,rfl,rfl,hq,fy,fs,⟨z,hz,ez⟩,mF,q⟩:=h
 cases rx;obtain⟨u,rfl,ru⟩:=As rv.one;obtain⟨hsz,its,n,r,hl,e⟩:=I.fo hq;obtain⟨w,hw,bo⟩:=As<|r.get hz;obtain⟨aU,B⟩:=UM.mp hw;have hs:sizeLine=16777216:=TZ;refine Xh F.slot_list_index ⟨_,e,rfl⟩ F.entry_list_index (F.args_list_index_2 _ _) (SeqAt.list_indexAt p its.toArray n none #[] u (Dy y) j (by simpa using aU) (by omega) ?_ ?_) ⟨e,λa D=>Hx ru fy r fs a<|by simpa using D,?_⟩
 .have fz:DQ z=true:=VN.mp fs z<|Ug hz;rwa[show its.toArray[j]'(by simpa using aU)=w by simpa using B,J6 bo fz]
 .intro m hm J;have L:m<its.length:=by simpa using hm
  have O:m<Y.length:=by rwa[r.length]
  obtain⟨a,D,ra⟩:=As<|r.get (Uh O);have fa:DQ Y[m]=true:=VN.mp fs _<|Xo O;obtain⟨_,V⟩:=UM.mp D;rw[show its.toArray[m]'hm=a by simpa using V,J6 ra fa];exact mF m _ J<|Uh O
 .exact ⟨.int _,H,I.tok _,⟨_,rfl⟩,q⟩
def Ad1(K:TH)(ta tb:TE):TE:=λσ H Q=>ta σ H λx H1=>∃c,LK K x H1 c/\if c=true then Q x H1 else tb σ H1 Q
def QL (ha:PE X a J)(hb:PE X (.BoolOp .Or (b::rest) pos) L):PE X (.BoolOp .Or (a::b::rest) pos) (Ad1 X.K J L):=by
 intro π s σ H Q I h;refine BoolOp_or<|Ar (ha π s σ H _ I h) λv s1 zz=>AF zz λx O I1 V B=>?_;replace B:=As B;obtain⟨c,hc,B⟩:=B
 refine Ar (OW π s1 σ O x v (λk D=>k=c/\D=O) I1 V ⟨c,hc,rfl,rfl⟩) λk s2 e=>?_;replace e:=AG e;obtain⟨D,Y,rfl,rfl⟩:=e
 cases k with
 |false=>exact hb π s2 σ D Q Y B
 |true=>exact⟨x,D,Y,V,B⟩
end
def Ad2:J1 X .Add (λx y H Q=>∃i j,x=.str i/\y=.str j/\i.length+j.length<=sizeLine/\Q (.str<|i++j) H):=by rintro π s σ H x y u v Q I D J ⟨i,j,rfl,rfl,L,q⟩;obtain⟨t,rfl⟩:=(show ∃t,u=UU i t from D);obtain⟨B,rfl⟩:=(show ∃B,v=UU j B from J);exact PyProof.Rows.iadd_str (λB O=>⟨.str<|i++j,H,I.tok _,⟨_,rfl⟩,q⟩) L
section
variable {prog:TR}{w:TL}{A:Ud}{E:af->TK->Prop}{s:TK}
def Ad3 (I:A.handled=none)(lo:(a == Vk)=false)(x:s.heap.DictAt (BB prog w) a kvs ep)(J:kvs.length<=sizeLine)(q:∀h' tk vs,(∀b o,s.heap.get? b=some o->h'.get? b=some o)->s.heap.objs.size<h'.objs.size->vs.length=kvs.length->(∀(j:Nat) (v:af),vs[j]?=some v->∃k x,kvs[j]?=some (k,x)/\(BB prog w).is k v=true)->Q vs { s with heap:=h',toks:=tk }):TQ (TV prog w) A (collect<|.ref a) Q E s:=by have lt:a<s.heap.objs.size:=x.lt_size;unfold collect;refine TX<|xF (Xk F.entry_proto_collect ?_);rw[Yg F.plain_proto_collect _];show TQ _ A.in1 (newList [] >>= λl=>again<|.builtin "list.__iadd__" ⟨[l,.ref a],[]⟩) _ _ s;refine TX<|Yc (Ub ⟨ZT xT _,Xk F.entry_list_iadd ?_⟩);rw[Yg xT _];show TQ _ A.in1 (Builtin.List.listExtendWith (.ref s.heap.objs.size) (.ref a)<|.ref s.heap.objs.size) _ _ _;have atS:(s.heap.push { cls:=.type "list",data:=.seq ([]:List af).toArray }).get? s.heap.objs.size=some { cls:=.type "list",data:=.seq #[] }:=UT _ rfl;refine PySem.W.kdl_extend (R:=λr D=>match r with|.ok (.ret v)=>TQ (TV prog w) A (match v with|.ref a=>(do let o <-load a;(match o.data with|.seq L _=>pure L.toList|_=>unsupported "internal:collect"))|_=>unsupported "internal:collect") Q E D|.ok _=>False|.error e=>E e D) (A:=A) (s:={ s with heap:=s.heap.push { cls:=.type "list",data:=.seq ([]:List af).toArray } }) (xS (kvs:=kvs) (ep:=ep) lo) I (x.push _) s.heap.objs.size (Wq lt) (Wq lt) _ _ atS (λh' tk B c hk hS O=>?_) J;show TQ _ A (load s.heap.objs.size >>= _) _ _ _;refine TX<|wpAny_load hS (Ub ?_);obtain⟨V,Y⟩:=O;exact q h' tk B.toList (λb o e=>hk b o (Uz<|Ul e)<|Ut _ e) (Ul hS) (by rwa[Vm]) λj v e=>Y j v<|by rwa[<-YB]
end
section
variable {X:Cx}
def QM(hc:X.calm=true):B0 X (.builtin "sorted") (λxs H Q=>∃(p:ar)(kvs:List (Ay×V))(zs:List bf),xs=[.ref p]/\Dd X.prog X.w X.K H p kvs/\kvs.map (·.1)=zs.map UL/\zs.Nodup/\zs.length<64/\∀(l:ar)(ts:List bf),H l=none->ts.Perm zs->ts.Pairwise CV->Q (.ref l) (upd H l<|.lst (ts.map V.str))):=by
 intro π s σ H xs us Q I r h;replace h:=F9 h;obtain⟨p,kvs,zs,rfl,hp,ek,nd,aD,q⟩:=h
 obtain⟨u,rfl,rx⟩:=As<|Dq r;cases rx;obtain⟨hz,lo,kv,J,o,es,ep,dd⟩:=AU<|Ks I hp;have Y:=J.length;have el0:kvs.length=zs.length:=by have:=congrArg XX ek;rwa [TN,TN]at this
 apply xo kind_sorted plain_sorted entry_sorted (args_sorted1 _);unfold Builtin.«sorted»;refine TX (m:=checkCount "sorted" 1 1 _)<|Ub (TX<|Ad3 (kvs:=kv) (ep:=ep) (by simpa using I.ok.hd hc) lo ⟨o,es,dd⟩ (by omega) λD tk vs k hsz lv iv=>?_);have rv:AA (zs.map V.str) vs:=by
  refine Mv (by rw[TN,lv];omega) λj v y hv hy=>?_;obtain⟨kk,x,e,hk⟩:=Bv<|iv j v hv;rw[T6]at hy;obtain⟨z,e2,rfl⟩:=As<|UG.mp hy;have e3:(kvs.map (·.1))[j]?=(kv.map (·.1))[j]?:=by rw[J.keys]
  rw [ek,T6,T6,e,e2]at e3;have e4:(UL z:Ay)=kk:=Us e3;have:=QG hk;rwa[<-e4]at this
 have r:=Jg rv;have el:zs.length=vs.length:=by omega
 refine TX<|ZO ?_ (by rw[TZ];omega);have gW:(D.push<|US "list" vs.toArray 0).get? D.objs.size=some (US "list" vs.toArray 0):=UT _ rfl;refine TX<|VJ (Xp xp ⟨_,gW,rfl⟩ xq (Qt (key:=λi=>(zs.getD i Uw).cps.toList) gW (by omega) (λtwo h' L=>AdC r nd two) λB O up=>⟨_,rfl,?_⟩)<|xr _);refine Ub ⟨_,rfl,?_⟩;have I1:Ad X π σ H { s with heap:=D,toks:=tk }:=I.kept (t':=tk) k;obtain⟨c,ho⟩:=sortedHeap_at (out:=EB B vs) gW;have fr:H D.objs.size=none:=I1.fresh;have sz:B.size=zs.length:=by rw[O.size,el]
 have mT:∀i∈B.toList,i<zs.length:=λi hm=>by have:=Vz.mp<|O.pm.mem_iff.mp hm;omega
 have sa:∀l:List Nat,(∀i∈l,i<zs.length)->Xn (l.map λi=>vs.getD i U0) (l.map λi=>zs.getD i Uw):=λl Y=>by
  induction l with
  |nil=>exact .nil
  |cons i l ih =>
   have hi:=Y i UI;obtain⟨t1,e1⟩:=Mq r hi;have e2:zs.getD i Uw=zs[i]:=AdB<|Uh hi;rw[UR,UR,e1,e2];exact .cons _ _<|ih λj hm=>Y j<|Uy _ hm
 have perm:(B.toList.map λi=>zs.getD i Uw).Perm zs:=by have cc:=O.pm;rw[<-el]at cc;refine(cc.map λi=>zs.getD i Uw).trans (xt ?_);refine ZL (by simp) λi g1 g2=>?_;simp[Ux,Uh g2]
 have L:∀b o,D.get? b=some o->(sortedHeap (D.push<|US "list" vs.toArray 0) D.objs.size vs<|EB B vs).get? b=some o:=λb o e=>by
  have bl:=Ul e;rw[sortedHeap_old (Uz bl)<|by rw[V8];exact Yf bl];exact Ut _ e
 refine⟨.ref D.objs.size,_,I1.laid (t':=tk) L (Ua _) (show Bs X.prog X.w _ _ _ (.lst<|(B.toList.map λi=>zs.getD i Uw).map V.str) from⟨?_,(B.toList.map λi=>vs.getD i U0),c,GY<|sa _ mT,ho⟩),rfl,q _ _ fr perm ?_⟩
 .rw[TN,TN,Vm,sz,TZ];omega
 .rw[ZQ,xu];intro i j g1 g2 mU;have k1:i<B.size:=by simpa using g1
  have k2:j<B.size:=by simpa using g2
  have u:=up i j mU (by rwa[<-O.size]);rw[D0,D0,WI k1,WI k2]at u;have u':(zs.getD B.toList[i] Uw).cps.toList<(zs.getD B.toList[j] Uw).cps.toList:=by simpa using u
  exact List.le_of_lt u'
end
section
variable {X:Cx}
def Ad.aaQ{π:List (ar×Obj)}{σ:St}{H:Hp}{s:TK}{h':Heap}{t':Nat}{ch:List ar}(I:Ad X π σ H s)(B:∀b∈ch,Eu X π H b)(k:∀b o,b ∉ ch->s.heap.get? b=some o->h'.get? b=some o):Ad X π σ H { s with heap:=h',toks:=t' }:=by
 have D:∀b u,H b=some u->b ∉ ch:=λb u e z=>by rw[(B b z).1]at e;cases e
 refine I.step (g':=s.gens) (d':=s.drawn) (ch:=ch) (λb hb=>⟨(B b hb).2.2.2.1,(B b hb).2.1,(B b hb).2.2.2.2.1,(B b hb).2.2.2.2.2⟩) (λb o _ _ hc e _=>k b o hc e) (λb o _ _ hc e _=>⟨o.slots,k b o hc e⟩) (λ_ _ _ _ n=>n) (λb o hc e=>⟨o,k b o hc e⟩) (λ_ _ e=>e) (λ_ _ _ e=>e) (λb V e=>⟨#[],by rw[e];simp⟩) (λm J=>?_) (λb u e=>?_) I.bare
 .obtain ⟨o,es,L,O,r⟩:=C7 J;exact⟨o,es,L,k _ o (λz=>(B _ z).2.1 rfl) O,r⟩
 .refine (I.ai b u e).dw (λc v hc q=>k c v ?_ q) (λc q=>q) λc ys q=>q;rcases hc with z|z
  .rw[z];exact D b u e
  .exact D c _ z
def Ad4:UY "zip"=some (.type "zip"):=by decide +kernel
def Mw(K:TH)(a b:ar):It :=
 ⟨λi H=>∃xs ys x y,A3 K H a xs/\A3 K H b ys/\xs[i]?=some x/\ys[i]?=some y,λi H x H'=>∃t u v,x=.ref t/\H t=none/\H'=upd H t (.tup [u,v])/\∀xs ys,A3 K H a xs->A3 K H b ys->xs[i]?=some u/\ys[i]?=some v,λi H=>∃xs ys,A3 K H a xs/\A3 K H b ys/\(xs.length<=i\/ys.length<=i)⟩
def DF{h:Heap}{a b:ar}{o u:Obj}(e:h.get? a=some o)(f:h.get? b=some u)(n:o.cls≠u.cls):a≠b:=λc=>by
 subst c;rw[e]at f;cases f;exact n rfl
def QN (n1:J≠L)(n2:i≠j)(B:IsZip h z J L f0)(Y:IsPair h J (.ref i) (.ref j))(h2:IsPair h L c d)(h3:h.IsListIter i l k)(h4:h.IsListIter j m k')(h5:h.IsList l xs)(h6:h.IsList m ys):ZipApart z J L i j l m:=by obtain⟨o3,D,b3,_⟩:=AG h3;obtain⟨o4,I,b4,_⟩:=AG h4;obtain⟨o5,O,b5,_⟩:=AG h5;obtain⟨o6,V,b6,_⟩:=AG h6;refine⟨DF Y B ?_,DF h2 B ?_,DF D B ?_,DF I B ?_,n1,DF Y D ?_,DF Y I ?_,DF h2 D ?_,DF h2 I ?_,n2,DF O B ?_,DF O h2 ?_,DF O D ?_,DF O I ?_,DF V B ?_,DF V h2 ?_,DF V D ?_,DF V I ?_⟩<;>simp[*]
theorem Ad5{P:TR}{w:TL}{K:TH}{elts:List TM}{kk:Nat}{pos:Pos}(a b z V Y i j:ar)(n1:V≠Y)(n2:i≠j):Ge P w K (.Tuple elts kk pos) (Mw K a b) [z,V,Y,i,j] z (λn h=>IsZip h z V Y .none/\IsPair h V (.ref i) (.ref j)/\(∃c d,IsPair h Y c d)/\h.IsListIter i a n/\h.IsListIter j b n) where
 mem:=by simp
 obj:=λn h st b hb=>by
  obtain⟨B,h2,⟨c,d,J⟩,⟨o,L,_,f4⟩,⟨u,O,_,f5⟩⟩:=AU st;simp only[T9,UH,or_false]at hb;rcases hb with rfl|rfl|rfl|rfl|rfl
  .exact ⟨_,B,λv z=>by cases z⟩
  .exact ⟨_,h2,λv z=>by cases z⟩
  .exact ⟨_,J,λv z=>by cases z⟩
  .exact ⟨_,L,λv z=>by rw[f4]at z;cases z⟩
  .exact ⟨_,O,λv z=>by rw[f5]at z;cases z⟩
 keep:=λn h h' st k=>by
  obtain⟨B,h2,⟨c,d,J⟩,L,O⟩:=AU st;exact⟨k z (by simp) _ B,k V (by simp) _ h2,⟨c,d,k Y (by simp) _ J⟩,L.at λo q=>k i (by simp) o q,O.at λo q=>k j (by simp) o q⟩
 item:=by
  intro X hP hw hK hc n π s σ H E I hf st hg;subst hP hw hK;obtain⟨xs,ys,x,y,hq,hr,hx,hy⟩:=DN hg;obtain⟨its,rv,p,hz⟩:=AG (I.list hq);obtain⟨si,fV,p',mR⟩:=AG (I.list hr);obtain⟨u,hu,ru⟩:=As (rv.get hx);obtain⟨v,hv,rv'⟩:=As (fV.get hy);obtain⟨B,h2,⟨c,d,J⟩,L,O⟩:=AU st;have D:=QN n1 n2 B h2 J L O p.isList p'.isList;have lt:∀b∈[z,V,Y,i,j],∃o,s.heap.get? b=some o:=λb hb=>by
   obtain⟨o4,a4,_⟩:=As L;obtain⟨o5,a5,_⟩:=As O;simp only[T9,UH,or_false]at hb;rcases hb with rfl|rfl|rfl|rfl|rfl
   .exact ⟨_,B⟩
   .exact ⟨_,h2⟩
   .exact ⟨_,J⟩
   .exact ⟨_,a4⟩
   .exact ⟨_,a5⟩
  refine wpAny_pyNext_zip_item D B h2 J L O p.isList p'.isList (x:=u) (y:=v) (by simpa using hu) (by simpa using hv) λh' z1 to1 i1 j1 hT hsz hk=>⟨_,rfl,?_⟩;have I1:Ad X π σ (upd H s.heap.objs.size (.tup [x,y])) { s with heap:=h' } :=
   I.mM (t':=s.toks) (ch:=[z,V,Y,i,j]) (us:=[u,v]) hf (λb o hb q=>hk b o (λe=>hb (by simp[e])) (λe=>hb (by simp[e])) (λe=>hb (by simp[e])) (λe=>hb (by simp[e])) q) (Ua _) lt hT (.cons ru (.cons rv' .nil)) Ao
  have fr:∀b∈[z,V,Y,i,j],(upd H s.heap.objs.size (.tup [x,y])) b=none:=λb hb=>by
   obtain⟨o,e⟩:=lt b hb;rw[Aw (Uz (Ul e))];exact(hf b hb).1
  refine wpAny_letOwnedTupleGo_zip z1 λh2' z2 bE=>?_;obtain⟨f0,f1,f2,f3,f4,f5⟩:=AU (hf z (by simp));have I2:Ad X π σ (upd H s.heap.objs.size (.tup [x,y])) { s with heap:=h2' }:=I1.turned (t':=s.toks) (λb o hb q=>(bE.2 b hb).trans q) (fr z (by simp)) f1 f3 f4 f5;have ti1:=hk _ _ D.TIz D.TITO D.TIi1 D.TIi2 h2;exact⟨.ref s.heap.objs.size,_,I2,rfl,⟨_,x,y,rfl,I.fresh,rfl,λxs' ys' e1 e2=>by rw[I.j0 e1 hq,I.j0 e2 hr];exact⟨hx,hy⟩⟩,⟨z2,(bE.2 _ D.TIz).trans ti1,⟨_,_,(bE.2 _ D.TOz).trans to1⟩,i1.at λo q=>(bE.2 _ D.i1z).trans q,j1.at λo q=>(bE.2 _ D.i2z).trans q⟩,fr⟩
 done:=by intro X hP hw hK hc n π s σ H E I hf st hg;subst hP hw hK;obtain⟨xs,ys,hq,hr,hx⟩:=BA hg;obtain⟨its,rv,p,hz⟩:=AG (I.list hq);obtain⟨si,fV,p',mR⟩:=AG (I.list hr);obtain⟨B,h2,⟨c,d,J⟩,L,O⟩:=AU st;have hl:=rv.length;have hl':=fV.length;refine wpAny_pyNext_zip_end (I.ok.hd hc) (QN n1 n2 B h2 J L O p.isList p'.isList) B h2 J L O p.isList p'.isList (by rcases hx with hx|hx;exact .inl (by simp;omega);exact .inr (by simp;omega)) λh' hk=>⟨rfl,?_⟩;have hn:=I.ai;exact I.aaQ (t':=s.toks) (ch:=[z,V,Y,i,j]) hf λb o hb e=>hk b o (λy=>hb (by simp[y])) (λy=>hb (by simp[y])) (λy=>hb (by simp[y])) (λy=>hb (by simp[y])) e
 self:=λ_ _ _ _ _ st h=>xU st.1 h
def Ad6(K:TH)(ta:TA):TI:=λσ H R=>ta σ H λvs H1=>∃a b xs ys,vs=[.ref a,.ref b]/\A3 K H1 a xs/\A3 K H1 b ys/\R (Mw K a b) H1
def Ad7{x y:TM}{O:TA}{p pos tp:Pos}{D:List TM}{kk:Nat}(g:Gm X.env.scope "zip")(hm:X.mg "zip"=none)(ha:PA X [x,y] O)(hs:T5 [x,y] X.env=(false,T7 x X.env)::T5 [y] X.env:=by rfl)(aS:(UA pos<|T5 [y] X.env).any (·.1)=false:=by rfl) :
  PI X (.Tuple D kk tp) (.Call (.Name "zip" p) [x,y] [] pos) (Ad6 X.K O):=by
 intro π s σ H R I h;refine Call_<|Ga I g.gl hm Ad4 (Xv (Ar (ha pos π s σ H _ I h) λus B zz=>AF zz λvs H1 J r1 q1=>?_) hs aS);obtain⟨a,b,xs,ys,e,ht,hl,q⟩:=DN q1;subst e;cases r1 with
 |cons r L =>
  cases L with
  |cons r' L =>
   cases L;cases r;cases r';obtain⟨its,rv,pt,_⟩:=AG<|J.list ht;obtain⟨si,fV,pl,_⟩:=AG<|J.list hl;refine call_zip_2 pt.isList pl.isList λg V k2 k3 k4 k5 k6 k7=>?_;apply xU V;have n1:B.heap.objs.size+2≠B.heap.objs.size+3:=by omega
   have n2:B.heap.objs.size≠B.heap.objs.size+1:=by omega
   refine⟨B.heap.objs.size+4,[B.heap.objs.size+4,B.heap.objs.size+2,B.heap.objs.size+3,B.heap.objs.size,B.heap.objs.size+1],_,_,H1,rfl,J.kept (t':=B.toks) k7,Ad5 a b _ _ _ _ _ n1 n2,⟨V,k2,⟨_,_,k3⟩,k4,k5⟩,λb hb=>?_,q⟩;have Y:B.heap.objs.size<=b:=by simp only[T9,UH,or_false]at hb;rcases hb with rfl|rfl|rfl|rfl|rfl<;>omega
   exact J.d5 Y<|J.ai.fresh Y
end
section
variable {K:TH}{a b D:ar}{xs ys:List V}{g:TG}{tt:TT}{te:TE}{σ0:St}{H:Hp}{Q:Hp->Prop}
def Ad8(Pv:Nat->St->Hp->Prop)(hn:xs.length<=ys.length)(L:Pv 0 σ0 (upd H D<|.lst []))(I:∀i σ H,i<=xs.length->Pv i σ H->A3 K H a xs/\A3 K H b ys)(hs:∀i x y t σ B,xs[i]?=some x->ys[i]?=some y->Pv i σ B->B t=none->g (.ref t) σ (upd B t<|.tup [x,y]) (Fv D tt te<|Pv (i+1)))(hd:∀σ B,Pv xs.length σ B->Q B):CW (Mw K a b) g (Fv D tt te) σ0 (upd H D<|.lst []) λ_=>Q :=
 GK xs.length Pv L (λi σ H J p=>have ⟨q,r⟩:=I i σ H (Wm J) p;⟨⟨xs,ys,xs[i],ys[i]'(by omega),q,r,Uh J,Uh _⟩,λx B y=>by obtain⟨t,u,v,e,O,Y,hy⟩:=C7 y;subst e Y;exact hs i u v t σ H (hy xs ys q r).1 (hy xs ys q r).2 p O⟩) λσ H p=>have ⟨q,r⟩:=I _ σ H (Ua _) p;⟨⟨xs,ys,q,r,.inl<|Ua _⟩,hd σ H p⟩
end
section
variable {X:Cx}
end
section
variable {X:Cx}
end
end L2
set_option maxHeartbeats 4000000
namespace Lw
open PySem L2
local macro_rules | `(tactic| walk_at"")=>`(tactic| repeat (first
 | with_reducible refine Pu λ_ _=>?_
 | with_reducible refine Lk.asg ‹_› ?_
 | refine Lk.use ‹_› ?_
 | refine w1 rfl ?_
 | refine w2 rfl rfl ?_
 | refine w3 rfl ?_
 | refine T2 (w2 rfl rfl ?_)
 | refine T2 ⟨rfl,?_⟩
 | refine ⟨rfl,?_⟩
 | refine T2 ⟨_,_,_,_,rfl,rfl,.of ‹_›,rfl,?_⟩
 | (refine ZZ (show ID _ _ from ?_) ?_;(first | exact TY ⟨by omega,by omega⟩ | exact T2 ⟨by omega,by omega⟩))
 | (refine ZZ (show OM _ _ from ?_) ?_;exact ⟨by omega,by omega⟩)
 | (refine ZZ (show (0:Int)<_ from ?_) ?_;first | decide | omega)))
local macro_rules|`(tactic|show $t)=>`(tactic|(walk_at"";refine $t))
local macro_rules|`(tactic|ext)=>`(tactic|walk_at"")
local macro_rules|`(tactic|left)=>`(tactic|walk_at "w")
local macro_rules|`(tactic|symm)=>`(tactic|walk_at "g")
local macro_rules | `(tactic| walk_at "m")=>`(tactic| exact ⟨rfl,rfl,rfl,by decide +kernel,rfl,by decide +kernel,by decide +kernel⟩)
local macro_rules | `(tactic| walk_at "k")=>`(tactic| exact ⟨by decide +kernel,by decide +kernel,by decide +kernel⟩)
def top(i:Nat):Stmt:=PySem.Challenge.pw_stephall_k27_whole_sixty_lines.main.body.getD i (.Pass ⟨0,0,0,0⟩)
structure An where
 (eI bK aK aT aV cf cQ cR Plan aL fW aM Line ah fX fY:ar)
noncomputable def An.bw(a:An):List ar:=[a.aL,a.aM]
structure Txt(K:TH)(mg:bf->Option af)(a:An):Prop where
 n_len:mg "len"=none
 eJ:mg "isinstance"=none
 sj:mg "bool"=none
 gX:mg "int"=none
 c9:mg "range"=none
noncomputable def EW(ns:List Int)(k:Int):Int :=
 if k<ns.length then ns.getD k.toNat 0 else if ns.length=0 then 7919*k+101 else ns.getD (k%ns.length).toNat 0%1000003+7919*k
def QO(K:TH):Sp:=λvs H Q _=>∃(p:ar)(ns:List Int)(k:Int),vs=[.ref p,.int k]/\A3 K H p (ns.map V.int)/\0<=k/\k<1000/\ns.length<=63/\Q (.int (EW ns k)) H
section
variable {P:TR}{w:TL}{K:TH}{mg:bf->Option af}{base:Heap}{a:An}{f:ar}{fd:T3}
def EC:AM ["script","k"] ["script","k"] (Ae<|top 41):=.of
def Mx:Gm (Ae<|top 41) "len":=.of
def Ad9(F:AI K "_law_cell" "_law_cell" (top 41) f fd)(T:Txt K mg a):AB P w K mg base Au 1 f fd ["script","k"] (QO K):=by
 refine F.ok EC.fs λO A outer s H vs Q E D h=>?_
 .obtain ⟨p,B,k,rfl,hS,I,hk,V,q⟩:=h;have hu:=D.units;have Y:=EC.fs.nd;refine⟨_,(@Af _ _ _ _ _ (AR (AL FL (Aa 1 EC) (Bc BQ Mx T.n_len BJ<|Ab (Aa 0 EC) Ac)<|AW _) (Ak<|AD (AY AZ (Aa 0 EC) (Aa 1 EC) λ_ _=>rfl)) AV)
    (Af (AR (AL (B2 hu) (Bc BQ Mx T.n_len BJ<|Ab (Aa 0 EC) Ac) Am<|AW _) (Ak<|AD (Av B5 (Av B9 Am<|Aa 1 EC) Am)) AV)
    (Ak<|AD (Av B5 (Av BM (AY AZ (Aa 0 EC) (Av BM (Aa 1 EC)<|Bc BQ Mx T.n_len BJ (Ab (Aa 0 EC) Ac)) λ_ _=>rfl) Am)<|Av B9 Am (Aa 1 EC))))),?_⟩
  try dsimp only[av,aw]
  show TY (A9 _ _ rfl (.inl hS) ?_);ext;rw[TN];refine IM (λh=>?_) λh=>?_
  .have h:=of_decide_eq_true h;show T2 (Cc hS (HF I h) ?_);have e:EW B k=B.getD k.toNat 0:=by unfold EW;rw[br h]
   rwa[e]at q
  .have h:¬k<B.length:=by simpa using h
   show TY (A9 _ _ rfl (.inl hS) ?_);ext;rw[TN];refine IM (λh2=>?_) λh2=>?_
   .have h2:B.length=0:=by simpa using h2
    ext;have e:EW B k=7919*k+101:=by unfold EW;rw[cZ h,br h2]
    rwa[e]at q
   .have h2:¬B.length=0:=by simpa using h2
    show TY (A9 _ _ rfl (.inl hS) ?_);rw[TN];have hp:0<(B.length:Int):=by omega
    ext;have J:0<=k%(B.length:Int):=V2 _ (by omega);have L:k%(B.length:Int)<B.length:=V3 _ (by omega);refine T2<|Cc hS (HF J L) ?_;ext;have e:EW B k=B.getD (k%B.length).toNat 0%1000003+7919*k:=by unfold EW;rw[cZ h,cZ h2]
    rwa[e]at q
def My(K:TH):Sp:=λvs H Q _=>∃(p:ar)(ns:List Int)(k many base:Int),vs=[.ref p,.int k,.int many,.int base]/\A3 K H p (ns.map V.int)/\0<=k/\k<1000/\ns.length<=63/\0<=many/\many<=100/\0<base/\base<2000000000 /\
 ∀(r:ar)(row:List Int)(H':Hp),Aj H H'->H r=none->H' r=some (.lst (row.map V.int))->row.length=many.toNat->(∀v∈row,0<=v/\v<base)->Q (.ref r) H'
def Aea:upd H r (.lst<|B.map V.int++[.int v]) r=some (.lst<|(B++[v]).map V.int):=by rw[Aq,Ui];rfl
def Aeb{B:List Int}{v b:Int}(h:∀u∈B,0<=u/\u<b)(hv:0<=v/\v<b):∀u∈B++[v],0<=u/\u<b:=by
 intro u hu;rcases UD.mp hu with z|z
 .exact h u z
 .rwa[Um.mp z]
noncomputable def Jj:List Int:=[2147483647,2147483629,2147483587,2147483579,2147483563,2147483549,2147483543,2147483497]
def Mz (D:0<=i)(I:i<8):∃p:Int,Cb (Jj.map V.int) i=some (.int p)/\0<p/\p<2147483648:=by
 refine⟨_,HF D I,?_⟩;have B:∀m:Nat,m<8->0<Jj.getD m 0/\Jj.getD m 0<2147483648:=by decide
 exact B _<|by omega
def Bn:AM ["script","k","many","base","primes","cell","rest","row","j","mash"] ["script","k","many","base"] (Ae<|top 42):=.of
def Aec:Gm (Ae<|top 42) "range":=.of
def Aed:Gm (Ae<|top 42) "_law_cell":=.of
def Aee(F:AI K "_law_draws" "_law_draws" (top 42) f fd)(T:Txt K mg a)(mX:Bt P w K mg base Au 1 "_law_cell" ["script","k"] (QO K)) :
  AB P w K mg base Au 2 f fd ["script","k","many","base"] (My K):=by
 refine F.ok Bn.fs λaj A outer s H vs Q E I h=>?_
 .obtain ⟨p,O,k,J,bs,rfl,hS,k0,k1,hl,m0,m1,b0,b1,q⟩:=h;have hu:=I.units;have nd:=Bn.fs.nd;refine⟨_,(@Af _ _ _ _ _ (A4 4 Bn<|Fj (Ke rfl))
    (Af (A4 5 Bn<|Bf mX Aed I.d AN (Ab (Aa 0 Bn)<|Ab (Aa 1 Bn) Ac))
    (Af (A4 6 Bn Am)
    (Af (AR (AL AaS (Aa 5 Bn) (Av AaP Am Am)<|AW _) (Ak<|A4 6 Bn (Aa 5 Bn)) AV)
    (Af (A4 7 Bn<|CO Ac)
    (Af (CM U6 rfl (HH Aec T.c9<|Ab (Aa 2 Bn) Ac) (BR 8 Bn) (Af (A4 9 Bn<|Av B9 (Av BM (Aa 5 Bn)<|AY AZ (Aa 4 Bn) (Av BM (Aa 8 Bn) Am) (λ_ _=>rfl)) (Av B5 Am<|Av B9 (Av B9 Am<|Aa 8 Bn) (Aa 8 Bn)))
     (Af (A4 9 Bn<|Av B5 (Av B5 (Aa 9 Bn)<|Av B9 (Av B9 Am<|Av B5 (Aa 8 Bn) Am) (Av B5 (Aa 8 Bn) Am)) (Av B9 Am<|Aa 1 Bn))
     (Af (A4 9 Bn<|Av BM (Aa 9 Bn) (AY AZ (Aa 4 Bn) (Av BM (Av B5 (Av B9 Am<|Aa 8 Bn)<|Aa 1 Bn) Am) λ_ _=>rfl))
     (Af (A4 9 Bn<|Av BM (Av B9 (Av B9 (Aa 9 Bn)<|Aa 9 Bn)<|Aa 9 Bn) (AY AZ (Aa 4 Bn) (Av BM (Av B5 (Aa 8 Bn) Am) Am) λ_ _=>rfl))
     (Af (AR (AL LH (Aa 6 Bn) Am<|AW _) (Ak<|A4 9 Bn (Aa 6 Bn)) AV)
     (Af (A5<|Cr UZ Vf Vg C9 (Aa 7 Bn) (Ab (Av BM (Aa 9 Bn)<|Aa 3 Bn) Ac))
     (Ak<|A4 6 Bn (Av EM (Aa 6 Bn)<|Aa 3 Bn)))))))))
    (Ak<|AD (Aa 7 Bn)))))))),?_⟩
  try dsimp only[av,aw]
  refine⟨by decide,λpr hpr=>?_⟩;have s1:Aj H (upd H pr<|.tup (Jj.map V.int)):=(Aj.refl H).upd hpr;show BC p O k rfl ⟨s1.seq hS,k0,k1,hl,?_⟩;show⟨⟨by decide,by decide,by decide⟩,?_⟩;show IM (λ_=>?_) (λ_=>?_) <;>
  .show⟨by decide,λr I=>?_⟩;have mY:r≠pr:=λe=>by rw[e,Aq]at I;cases I
   have sr:H r=none:=by rwa[Aw mY]at I
   show⟨by omega,by omega,Hv (n:=J.toNat) (λi σ L=>∃(B:List Int)(z:Int)(x y:Option V),σ=[some<|.ref p,some<|.int k,some<|.int J,some<|.int bs,some<|.ref pr,some<|.int (EW O k),some<|.int z,some<|.ref r,x,y] /\
    Aj H L/\L pr=some (.tup<|Jj.map V.int)/\L r=some (.lst<|B.map V.int)/\B.length=i/\∀v∈B,0<=v/\v<bs) ?_ ?_ ?_⟩
   .exact ⟨[],_,none,none,rfl,s1.upd I,(by rw[Aw mY.symm,Aq];rfl),Aq,rfl,λv hv=>absurd hv<|by simp⟩
   .intro i σ L hi zq;replace zq:=Im zq;obtain⟨B,z,x,y,rfl,sm,Y,hR,D,mZ⟩:=zq;have cP:(i:Int)<100:=by omega
    simp only[Yi];ext;obtain⟨p1,e1,a1,sv⟩:=AG<|Mz (i:=(i:Int)%8) (by omega) (by omega);refine TY<|T2 (Cc (.of Y) e1 ?_);ext;have c1:=V2 (EW O k) (show p1≠0 by omega);have c2:=V3 (EW O k) a1;generalize EW O k%p1=m1 at c1 c2 ⊢;ext;obtain⟨p2,e2,a2,b2'⟩:=AG<|Mz (i:=(3*(i:Int)+k)%8) (by omega) (by omega);refine TY<|T2 (Cc (.of Y) e2 ?_);ext;generalize sy:(m1*(48271+2*(i:Int)*(i:Int))+7919*((i:Int)+1)*((i:Int)+1)+104729*k)%p2=m2;have c3:0<=m2:=by rw[<-sy];exact V2 _<|by omega
    have c4:m2<p2:=by rw[<-sy];exact V3 _ a2
    ext;obtain⟨p3,e3,a3,b3'⟩:=AG<|Mz (i:=((i:Int)+5)%8) (by omega) (by omega);refine TY<|T2 (Cc (.of Y) e3 ?_);show IM (λ_=>?_) (λ_=>?_) <;>
    .show⟨.inl ⟨rfl,_,.of hR⟩,?_⟩;show CS r _ _ rfl rfl hR ?_ ?_
     .rw[TN,D,TZ];omega
     ext;exact⟨B++[_],_,_,_,rfl,sm.bI sr,(by rwa[Aw mY.symm]),Aea,(by rw[UK,D];rfl),Aeb mZ ⟨V2 _<|by omega,V3 _ b0⟩⟩
   .intro σ L zq;replace zq:=Im zq;obtain⟨B,z,x,y,rfl,sm,Y,hR,D,mZ⟩:=zq;ext;exact q r B L sm sr hR D mZ
def Aef(K:TH):Vq K (.type "int") (.type "bool")=some false:=by rfl
def Aeg(K:TH):Vq K (.type "list") (.type "list")=some true:=by rfl
def BY(z:bf):Prop:=∀c∈z.cps.toList,c<128
def Dj(z:bf):Prop:=∀c∈z.cps.toList,48<=c/\c<=57
def Dj.asc (h:Dj z):BY z:=λc hc=>by have:=h c hc;omega
def Kv(x y:bf):(x++y).cps.toList=x.cps.toList++y.cps.toList:=by change(x.cps++y.cps).toList=_;simp
def FR(x:bf):x.length=x.cps.toList.length:=by simp[Xf]
def HP:Sp:=λvs H Q _=>∃n lo hi,vs=[.int n,.int lo,.int hi]/\Q (.bl (decide (lo<=n) && decide (n<=hi))) H
def QP:Sp:=λvs H Q _=>∃d l:Int,vs=[.int d,.int l]/\-100<=l/\l<=100/\∀z:bf,z.length=l.toNat->Dj z->Q (.str z) H
def HQ:AM ["number","least","most"] ["number","least","most"] (Ae<|top 11):=.of
def Aeh:Gm (Ae<|top 11) "isinstance":=.of
def Aei:Gm (Ae<|top 11) "bool":=.of
def Aej(F:AI K "within" "within" (top 11) f fd)(T:Txt K mg a):AB P w K mg base Au 1 f fd ["number","least","most"] HP:=by
 refine F.ok HQ.fs λI A outer s H vs Q E D h=>?_
 .obtain ⟨n,lo,J,rfl,q⟩:=h;have hu:=D.units;have L:=HQ.fs.nd;refine⟨_,(@Ak _ _ _<|AD (Lz (LA<|Bc Gq Aeh T.eJ Gs (Ab (Aa 0 HQ)<|Ab (Kd (v:=.ty "bool") Aei T.sj Acn rfl) Ac))<|Iu (AaU IE IE (Aa 1 HQ) (Aa 0 HQ)<|Aa 2 HQ))),?_⟩;try dsimp only[av,aw]
  show T2 (Dz _ _ _ _ _ rfl ⟨.of<|.int n,rfl,Aef K,?_⟩);ext;by_cases B:lo<=n
  .refine DS (c8 B) ?_;ext;rwa[c8 B]at q
  .refine DX (dJ B) ?_;rwa[dJ B]at q
structure FT(K:TH)(a:An)(C:ar):Prop where
 mem:C∈a.bw
 cls:CN K C
 h:B1 K C "held_by"
 j:B1 K C "jammed"
 t:B1 K C "taken"
structure Fs(fs:List (bf×V))(ra rb rc:ar):Prop where
 h:fs.lookup ("held_by":bf)=some (V.ref ra)
 j:fs.lookup ("jammed":bf)=some (V.ref rb)
 t:fs.lookup ("taken":bf)=some (V.ref rc)
 m:∀x∈(["first_free","hold","free","stick","mend","check","holders","stuck","shares","take","paper"]:List bf),fs.lookup x=none
structure CY(K:TH)(a:An)(H:Hp)(p C:ar)(ra rb rc:ar)(hs:List V)(js:List Bool)(ts:List Int):Prop where
 ins:∃dx fs,H p=some (.ins C dx fs)/\Fs fs ra rb rc
 c:FT K a C
 ha:H ra=some (.lst hs)
 hb:H rb=some (.lst (js.map V.bl))
 hc:H rc=some (.lst (ts.map V.int))
 ab:ra≠rb
 ac:ra≠rc
 bc:rb≠rc
 lj:js.length=hs.length
 lt:ts.length=hs.length
 z:hs.length<=1000
def CY.same (r:CY K a H p C D I J hs js ts)(s:Aj H B):CY K a B p C D I J hs js ts:=by obtain⟨dx,fs,e,f⟩:=Bv r.ins;exact⟨⟨dx,fs,s _ _ e,f⟩,r.c,s _ _ r.ha,s _ _ r.hb,s _ _ r.hc,r.ab,r.ac,r.bc,r.lj,r.lt,r.z⟩
noncomputable def inR(k:Int)(hs:List V):Bool:=decide (0<=k) && decide (k<=(hs.length:Int)-1)
def FU:inR k hs=true↔0<=k/\k<hs.length:=by unfold inR;rw[VD,decide_eq_true_eq,decide_eq_true_eq];omega
def G0{n:Nat}{k:Int}(B:0<=k)(h:k<n):CP n k=some k.toNat:=by unfold CP;rw[br B,br h]
def MA(K:TH)(a:An):Sp:=λvs H Q _=>∃p C ra rb rc hs js ts,vs=[.ref p]/\CY K a H p C ra rb rc hs js ts/\∀l,H l=none->Q (.ref l) (upd H l (.lst hs))
def QQ(K:TH)(a:An):Sp:=λvs H Q _=>∃p C ra rb rc hs js ts,vs=[.ref p]/\CY K a H p C ra rb rc hs js ts/\∀l,H l=none->Q (.ref l) (upd H l (.lst (ts.map V.int)))
def Kw(K:TH)(a:An):Sp:=λvs H Q E=>∃p k C ra rb rc hs js ts,vs=[.ref p,.int k]/\CY K a H p C ra rb rc hs js ts/\if inR k hs=true then Q .aa H else E (.ref a.aK) none H
def MB(K:TH)(a:An):Sp:=λvs H Q _=>∃p k bT C ra rb rc hs js ts,vs=[.ref p,.int k,bT]/\CY K a H p C ra rb rc hs js ts/\0<=k/\k<hs.length /\
 Q .aa (upd (upd H ra (.lst (hs.set k.toNat bT))) rc (.lst ((ts.set k.toNat (ts.getD k.toNat 0+1)).map V.int)))
def QR(K:TH)(a:An):Sp:=λvs H Q E=>∃p k C ra rb rc hs js ts,vs=[.ref p,.int k]/\CY K a H p C ra rb rc hs js ts /\
 if inR k hs=true/\hs.getD k.toNat .aa≠.aa then Q .aa (upd H ra (.lst (hs.set k.toNat .aa)))else E (.ref a.aK) none H
def Kx(K:TH)(a:An)(b:Bool):Sp:=λvs H Q E=>∃p k C ra rb rc hs js ts,vs=[.ref p,.int k]/\CY K a H p C ra rb rc hs js ts /\
 if inR k hs=true then Q .aa (upd H rb (.lst ((js.set k.toNat b).map V.bl)))else E (.ref a.aK) none H
structure TxtS(K:TH)(mg:bf->Option af)(a:An):Prop extends Txt K mg a where
 cv:mg "list"=none
 ji:mg "enumerate"=none
 gY:mg "tuple"=none
 fZ:mg "NoSwitch"=some (.ref a.aK)
 ku:Vy K a.aK [.type "ValueError",.type "Exception",.type "BaseException",.type "object"] "ValueError.__new__"=true
def QS:AM ["self"] ["self"] (Ae<|Ai (top 17) 7):=.of
def Aek:Gm (Ae<|Ai (top 17) 7) "list":=.of
def Ael(F:AI K "holders" "Switches.holders" (Ai (top 17) 7) f fd)(T:TxtS K mg a):AB P w K mg base Au 1 f fd ["self"] (MA K a):=by
 refine F.ok QS.fs λJ A outer s H vs Q E L h=>?_
 .obtain ⟨p,C,O,V,Y,hs,js,ts,rfl,R,q⟩:=h;obtain⟨dx,fs,B,D⟩:=Bv R.ins;refine⟨_,(@Ak _ _ _<|AD (Cs (Fu rfl) Aek T.cv EA<|Ab (AE (Aa 0 QS) rfl) Ac)),?_⟩;try dsimp only[av,aw]
  show DW B R.c.cls R.c.h D.h ?_;show T2 (A9 _ _ rfl (.inl<|.of R.ha) λl I=>?_);exact q l I
def QT:AM ["self"] ["self"] (Ae<|Ai (top 17) 9):=.of
def Aem:Gm (Ae<|Ai (top 17) 9) "list":=.of
def Aen(F:AI K "shares" "Switches.shares" (Ai (top 17) 9) f fd)(T:TxtS K mg a):AB P w K mg base Au 1 f fd ["self"] (QQ K a):=by
 refine F.ok QT.fs λJ A outer s H vs Q E L h=>?_
 .obtain ⟨p,C,O,V,Y,hs,js,ts,rfl,R,q⟩:=h;obtain⟨dx,fs,B,D⟩:=Bv R.ins;refine⟨_,(@Ak _ _ _<|AD (Cs (Fu rfl) Aem T.cv EA<|Ab (AE (Aa 0 QT) rfl) Ac)),?_⟩;try dsimp only[av,aw]
  show DW B R.c.cls R.c.t D.t ?_;show T2 (A9 _ _ rfl (.inl<|.of R.hc) λl I=>?_);exact q l I
def HR:AM ["self","k","who"] ["self","k","who"] (Ae<|Ai (top 17) 2):=.of
def Aeo(F:AI K "hold" "Switches.hold" (Ai (top 17) 2) f fd)(T:TxtS K mg a):AB P w K mg base Au 1 f fd ["self","k","who"] (MB K a):=by
 refine F.ok HR.fs λaj A outer s H vs Q E hr h=>?_
 .obtain ⟨p,k,I,C,J,rb,Y,hs,js,ts,rfl,R,B,h1,q⟩:=h;obtain⟨dx,fs,D,L⟩:=Bv R.ins;have aU:=R.lt;refine⟨_,(@Af _ _ _ _ _ (Et (Aa 2 HR)<|Fi (AE (Aa 0 HR) rfl) (Aa 1 HR) DP)
    (Ak<|Iy (AE (Aa 0 HR) rfl) (Aa 1 HR) Jb Am Iz DP)),?_⟩
  try dsimp only[av,aw]
  show DW D R.c.cls R.c.h L.h ?_;show Cc R.ha (G0 B h1) ?_;ext;have dH:(upd H J<|.lst (hs.set k.toNat I)) p=some (.ins C dx fs):=by rw[Aw<|JN D R.ha (by intro z;cases z)];exact D
  have O:(upd H J<|.lst (hs.set k.toNat I)) Y=some (.lst<|ts.map V.int):=by rw[Aw<|UC R.ac];exact R.hc
  apply DW dH R.c.cls R.c.t L.t;show Bj _ _ _ _ rfl rfl B (.of O) (HF B<|by omega) ?_;show Cc O (G0 B<|by rw[TN];omega) ?_;rwa[U4]at q
def Bk(x y:bf):(x++y).length=x.length+y.length:=by rw[FR,FR,FR,Kv,UK]
def Kz:AM ["self","k"] ["self","k"] (Ae<|Ai (top 17) 6):=.of
def Aep:Gm (Ae<|Ai (top 17) 6) "within":=.of
def QU:Gm (Ae<|Ai (top 17) 6) "len":=.of
def Aeq:Gm (Ae<|Ai (top 17) 6) "NoSwitch":=.of
def Aer(F:AI K "check" "Switches.check" (Ai (top 17) 6) f fd)(T:TxtS K mg a)(L:Bt P w K mg base Au 1 "within" ["number","least","most"] HP):AB P w K mg base (AJ P w) 2 f fd ["self","k"] (Kw K a):=by
 refine F.aY Kz.fs λY A outer s H vs Q E O h=>?_
 .obtain ⟨p,k,C,ra,rb,rc,hs,js,ts,rfl,R,q⟩:=h;obtain⟨dx,fs,D,I⟩:=Bv R.ins;have V:=R.z;refine⟨_,(@Ak _ _ _<|AR (Es<|Dv (Bf L Aep O.d AN<|Ab (Aa 1 Kz) (Ab Am<|Ab (Av Gg (Bc BQ QU T.n_len BJ<|Ab (AE (Aa 0 Kz) rfl) Ac) Am) Ac))) (Ak<|DC DA Aeq rfl T.ku T.fZ (Ab (GU<|CT Ag (CT (Jd<|Bc BQ QU T.n_len BJ (Ab (AE (Aa 0 Kz) rfl) Ac))<|CT Ag GS)) Ac)) AV),?_⟩;try dsimp only[av,aw]
  show DW D R.c.cls R.c.h I.h ?_;show TY (A9 _ _ rfl (.inl<|.of R.ha) ?_);show BC k 0 ((hs.length:Int)-1) rfl ?_;ext;by_cases hk:inR k hs=true
  .rw[br hk]at q;have e:(decide (0<=k) && decide (k<=(hs.length:Int)-1))=true:=hk;rw[e];apply BN;exact q
  .rw[cZ hk]at q;have e:(decide (0<=k) && decide (k<=(hs.length:Int)-1))=false:=Xl.mpr hk;rw[e];apply B6;ext;have B:(Uw++TU "there are ").length=10:=by decide +kernel
   have J:(TU " switches, numbered from 0").length=26:=by decide +kernel
   refine⟨(by rw[B,TZ];decide),?_⟩;show DW D R.c.cls R.c.h I.h ?_;show TY (A9 _ _ rfl (.inl<|.of R.ha) ?_);refine T2<|Cd _ rfl ⟨by omega,by omega,λz V=>?_⟩;show⟨(by rw[Bk,B,TZ];omega),?_⟩;show⟨(by rw[Bk,Bk,B,J,TZ];omega),?_⟩;show⟨(by rw[Bk,Bk,B,J,TZ];omega),?_⟩;exact⟨Ao,q⟩
def Jk:AM ["self","k"] ["self","k"] (Ae<|Ai (top 17) 4):=.of
def Aes(F:AI K "stick" "Switches.stick" (Ai (top 17) 4) f fd)(T:TxtS K mg a)(I:∀C∈a.bw,AO P w K mg base (AJ P w) 2 C "check" ["self","k"]<|Kw K a):AB P w K mg base (AJ P w) 3 f fd ["self","k"] (Kx K a true):=by
 refine F.aY Jk.fs λaj A outer s H vs Q E J h=>?_
 .obtain ⟨p,k,C,L,O,V,hs,js,ts,rfl,R,q⟩:=h;obtain⟨dx,fs,B,D⟩:=Bv R.ins;have Y:=I C R.c.mem;have cls:=R.c.cls;have hj:=R.lj;refine⟨_,(@Af _ _ _ _ _ (A5<|A7 Y cls (Aa 0 Jk) J.d BE (Ab (Aa 1 Jk) Ac))
    (Ak<|Et EK (Fi (AE (Aa 0 Jk) rfl) (Aa 1 Jk) DP))),?_⟩
  try dsimp only[av,aw]
  show Ey B (D.m _<|by decide) ?_;show Gk p k C L O V hs js ts rfl ⟨R,?_⟩;by_cases hk:inR k hs=true
  .rw[br hk]at q ⊢;obtain⟨h0,h1⟩:=FU.mp hk;show DW B R.c.cls R.c.j D.j ?_;show Cc R.hb (G0 h0<|by rw[TN];omega) ?_;rwa[U4]at q
  .rw[cZ hk]at q ⊢;exact q
def Jl:AM ["self","k"] ["self","k"] (Ae<|Ai (top 17) 5):=.of
def Aet(F:AI K "mend" "Switches.mend" (Ai (top 17) 5) f fd)(T:TxtS K mg a)(I:∀C∈a.bw,AO P w K mg base (AJ P w) 2 C "check" ["self","k"]<|Kw K a):AB P w K mg base (AJ P w) 3 f fd ["self","k"] (Kx K a false):=by
 refine F.aY Jl.fs λaj A outer s H vs Q E J h=>?_
 .obtain ⟨p,k,C,L,O,V,hs,js,ts,rfl,R,q⟩:=h;obtain⟨dx,fs,B,D⟩:=Bv R.ins;have Y:=I C R.c.mem;have cls:=R.c.cls;have hj:=R.lj;refine⟨_,(@Af _ _ _ _ _ (A5<|A7 Y cls (Aa 0 Jl) J.d BE (Ab (Aa 1 Jl) Ac))
    (Ak<|Et EK (Fi (AE (Aa 0 Jl) rfl) (Aa 1 Jl) DP))),?_⟩
  try dsimp only[av,aw]
  show Ey B (D.m _<|by decide) ?_;show Gk p k C L O V hs js ts rfl ⟨R,?_⟩;by_cases hk:inR k hs=true
  .rw[br hk]at q ⊢;obtain⟨h0,h1⟩:=FU.mp hk;show DW B R.c.cls R.c.j D.j ?_;show Cc R.hb (G0 h0<|by rw[TN];omega) ?_;rwa[U4]at q
  .rw[cZ hk]at q ⊢;exact q
def Gy:AM ["self","k"] ["self","k"] (Ae<|Ai (top 17) 3):=.of
def Aeu:Gm (Ae<|Ai (top 17) 3) "NoSwitch":=.of
def Aev(F:AI K "free" "Switches.free" (Ai (top 17) 3) f fd)(T:TxtS K mg a)(O:∀C∈a.bw,AO P w K mg base (AJ P w) 2 C "check" ["self","k"]<|Kw K a):AB P w K mg base (AJ P w) 3 f fd ["self","k"] (QR K a):=by
 refine F.aY Gy.fs λaj A outer s H vs Q E V h=>?_
 .obtain ⟨p,k,C,Y,rb,rc,hs,js,ts,rfl,R,q⟩:=h;obtain⟨dx,fs,D,I⟩:=Bv R.ins;have jj:=O C R.c.mem;have cls:=R.c.cls;have hz:=R.z;refine⟨_,(@Af _ _ _ _ _ (A5<|A7 jj cls (Aa 0 Gy) V.d BE (Ab (Aa 1 Gy) Ac))
    (Af (AR (AL Gh (AY AZ (AE (Aa 0 Gy) rfl) (Aa 1 Gy) λ_ _=>rfl) Cq<|AW _) (Ak<|DC DA Aeu rfl T.ku T.fZ (Ab (GU<|CT Ag (CT (Jd<|Aa 1 Gy) GS)) Ac)) AV)
    (Ak<|Et Cq (Fi (AE (Aa 0 Gy) rfl) (Aa 1 Gy) DP)))),?_⟩
  try dsimp only[av,aw]
  show Ey D (I.m _<|by decide) ?_;show Gk p k C Y rb rc hs js ts rfl ⟨R,?_⟩;by_cases hk:inR k hs=true
  .rw[br hk];obtain⟨J,L⟩:=FU.mp hk;show DW D R.c.cls R.c.h I.h ?_;ext;obtain⟨v,B,e2⟩:=As<|GV (xs:=hs) J L;have e3:hs.getD k.toNat .aa=v:=by rw[Ux,e2];rfl
   rw [e3]at q;refine T2<|Cc (.of R.ha) B ?_;ext;by_cases hv:v=.aa
   .rw[cZ λz=>z.2 hv]at q;apply DS (c8 hv);ext;have B:(Uw++TU "nobody holds switch ").length=20:=by decide +kernel
    refine⟨(by rw[B,TZ];decide),?_⟩;show T2 (Cd _ rfl ⟨by omega,by omega,λz hz=>?_⟩);show⟨(by rw[Bk,B,TZ];omega),?_⟩;refine⟨(by rw[Bk,B,TZ];omega),?_⟩;exact⟨Ao,q⟩
   .rw[br ⟨hk,hv⟩]at q;apply DX (dJ hv);show DW D R.c.cls R.c.h I.h ?_;show Cc R.ha (G0 J L) ?_;exact q
  .rw[cZ hk];rwa[cZ λz=>hk z.1]at q
def CH(ws:List ar)(H H':Hp):Prop:=∀b o,b ∉ ws->H b=some o->H' b=some o
noncomputable def G1(ra rb rc:ar):List (bf×V):=[("held_by",.ref ra),("jammed",.ref rb),("taken",.ref rc)]
def KA(K:TH)(a:An):Sp:=λvs H Q _=>∃(p:ar)(many:Int)(C dx:ar),vs=[.ref p,.int many]/\H p=some (.ins C dx [])/\FT K a C/\0<=many/\many<=1000 /\
 ∀H' ra rb rc,CH [p] H H'->H' p=some (.ins C dx (G1 ra rb rc))->H ra=none->H rb=none->H rc=none->H' ra=some (.lst (T1 many.toNat .aa))->H' rb=some (.lst ((T1 many.toNat false).map V.bl))->H' rc=some (.lst ((T1 many.toNat (0:Int)).map V.int)) ->
  ra≠rb->ra≠rc->rb≠rc->Q .aa H'
theorem Fw{α:Type}(x:α):∀n:Nat,(T1 n [x]).flatten=T1 n x
 |0=>rfl
 |n+1=>by rw[WE,XB,Fw x n];rfl
noncomputable def BZ(hs:List V)(js:List Bool)(k:Int):Bool:=decide (hs.getD k.toNat .aa=.aa) && !(js.getD k.toNat false)
noncomputable def Ct(hs:List V)(js:List Bool)(start:Int):Option Int:=(BS start hs.length++BS 0 start).find? (BZ hs js)
noncomputable def QV:Option Int->V
 |some k=>.int k
 |none=>.aa
def MC(K:TH)(a:An):Sp:=λvs H Q _=>∃(p:ar)(start:Int)(C ra rb rc:ar)(hs:List V)(js:List Bool)(ts:List Int),vs=[.ref p,.int start]/\CY K a H p C ra rb rc hs js ts/\0<=start/\start<=hs.length/\∀H',Aj H H'->Q (QV (Ct hs js start)) H'
def G2:AM ["self","many"] ["self","many"] (Ae<|Ai (top 17) 0):=.of
def QW(F:AI K "__init__" "Switches.__init__" (Ai (top 17) 0) f fd)(T:TxtS K mg a):AB P w K mg base Au 1 f fd ["self","many"] (KA K a):=by
 refine F.ok G2.fs λaj A outer s H vs Q E hr h=>?_
 .obtain ⟨p,B,C,dx,rfl,hp,c,h0,h1,q⟩:=h;refine⟨_,(@Af _ _ _ _ _ (BH (Aa 0 G2) (Av B9 (CO<|Ab Cq Ac)<|Aa 1 G2) rfl)
    (Af (BH (Aa 0 G2) (Av B9 (CO<|Ab EK Ac)<|Aa 1 G2) rfl)
    (Ak<|BH (Aa 0 G2) (Av B9 (CO<|Ab Am Ac)<|Aa 1 G2) rfl))),?_⟩
  try dsimp only[av,aw]
  show⟨Ao,λl1 f9=>?_⟩;show TY (TY<|BC l1 B [.aa] rfl ⟨rfl,Aq,by omega,by omega,(by rw[Ve,TZ];omega),λD cw=>?_⟩);generalize m8:upd H l1 (.lst [.aa])=jk at cw ⊢;have jm:Aj H jk:=m8▸(Aj.refl H).upd f9;generalize jn:upd jk D (.lst (T1 B.toNat [.aa]).flatten)=gb;have jo:Aj H gb:=jn▸jm.upd cw;have e1:gb D=some (.lst (T1 B.toNat [.aa]).flatten):=jn▸Aq;have f1:H D=none:=jm.free cw;show Bj p C dx [] rfl (jo _ _ hp) c.cls c.h (by change 0<1000;decide) ?_;generalize dM:upd gb p (.ins C dx<|A8 "held_by" (.ref D) [])=L;have p1:L p=some (.ins C dx [("held_by",.ref D)]):=dM▸Aq;have x1:CH [p] H L:=λb o hb e=>by rw[<-dM,Aw<|by simpa using hb];exact jo b o e
  have eM:D≠p:=λz=>by rw[z,hp]at f1;cases f1
  have c1:L D=some (.lst (T1 B.toNat [.aa]).flatten):=by rwa[<-dM,Aw eM]
  show⟨Ao,λl3 gh=>?_⟩;show TY (TY<|BC l3 B [.bl false] rfl ⟨rfl,Aq,by omega,by omega,(by rw[Ve,TZ];omega),λI eN=>?_⟩);generalize m9:upd L l3 (.lst [.bl false])=jq at eN ⊢;have jr:Aj L jq:=m9▸(Aj.refl L).upd gh;generalize jt:upd jq I (.lst (T1 B.toNat [.bl false]).flatten)=gi;have ju:Aj L gi:=jt▸jr.upd eN;have e2:gi I=some (.lst (T1 B.toNat [.bl false]).flatten):=jt▸Aq;have f2:L I=none:=jr.free eN;show Bj p C dx [("held_by",.ref D)] rfl (ju _ _ p1) c.cls c.j (by change 1<1000;decide) ?_;generalize dN:upd gi p (.ins C dx<|A8 "jammed" (.ref I) [("held_by",.ref D)])=O;have p2:O p=some (.ins C dx [("held_by",.ref D),("jammed",.ref I)]):=dN▸Aq;have x2:CH [p] L O:=λb o hb e=>by rw[<-dN,Aw<|by simpa using hb];exact ju b o e
  have eO:I≠p:=λz=>by rw[z,p1]at f2;cases f2
  have c2:O I=some (.lst (T1 B.toNat [.bl false]).flatten):=by rwa[<-dN,Aw eO]
  show⟨Ao,λl5 ni=>?_⟩;show TY (TY<|BC l5 B [.int 0] rfl ⟨rfl,Aq,by omega,by omega,(by rw[Ve,TZ];omega),λJ nA=>?_⟩);generalize hA3:upd O l5 (.lst [.int 0])=sE at nA ⊢;have sH:Aj O sE:=hA3▸(Aj.refl O).upd ni;generalize sI:upd sE J (.lst (T1 B.toNat [.int 0]).flatten)=nB;have sJ:Aj O nB:=sI▸sH.upd nA;have e3:nB J=some (.lst (T1 B.toNat [.int 0]).flatten):=sI▸Aq;have V:O J=none:=sH.free nA;show Bj p C dx [("held_by",.ref D),("jammed",.ref I)] rfl (sJ _ _ p2) c.cls c.t (by change 2<1000;decide) ?_;generalize nC:upd nB p (.ins C dx<|A8 "taken" (.ref J) [("held_by",.ref D),("jammed",.ref I)])=Y;have p3:Y p=some (.ins C dx<|G1 D I J):=nC▸Aq;have x3:CH [p] O Y:=λb o hb e=>by rw[<-nC,Aw<|by simpa using hb];exact sJ b o e
  have nE:J≠p:=λz=>by rw[z,p2]at V;cases V
  have c3:Y J=some (.lst (T1 B.toNat [.int 0]).flatten):=by rwa[<-nC,Aw nE]
  have one:∀{b:ar},b≠p->b ∉ [p]:=λh z=>h (by simpa using z);have sM:=x2 _ _ (one eM) c1;have sO:=x3 _ _ (one eM) sM;have sP:=x3 _ _ (one eO) c2;have g4:H I=none:=by
   cases z:H I with
   |none=>rfl
   |some o=>have:=x1 _ _ (one eO) z;rw[this]at f2;cases f2
  have g6:H J=none:=by
   cases z:H J with
   |none=>rfl
   |some o=>have:=x2 _ _ (one nE)<|x1 _ _ (one nE) z;rw[this]at V;cases V
  rw [Fw]at sO sP c3;refine q Y D I J (λb o hb e=>x3 _ _ hb<|x2 _ _ hb (x1 _ _ hb e)) p3 f1 g4 g6 sO (by rwa[Ya]) (by rwa[Ya]) ?_ ?_ ?_
  .exact λz=>by rw[<-z,c1]at f2;cases f2
  .exact λz=>by rw[<-z,sM]at V;cases V
  .exact λz=>by rw[<-z,c2]at V;cases V
def EX:AM ["self","start","k"] ["self","start"] (Ae<|Ai (top 17) 1):=.of
def QX:Gm (Ae<|Ai (top 17) 1) "list":=.of
def QY:Gm (Ae<|Ai (top 17) 1) "range":=.of
def Aew:Gm (Ae<|Ai (top 17) 1) "len":=.of
def Aex(F:AI K "first_free" "Switches.first_free" (Ai (top 17) 1) f fd)(T:TxtS K mg a):AB P w K mg base Au 1 f fd ["self","start"] (MC K a):=by
 refine F.ok EX.fs λaj A outer s H vs Q E hr h=>?_
 .obtain ⟨p,start,C,ra,rb,rc,hs,js,ts,rfl,R,h0,h1,q⟩:=h;obtain⟨dx,fs,hp,F3⟩:=Bv R.ins;have nd:=EX.fs.nd;have hz:=R.z;refine⟨_,(@Af _ _ _ _ _ (CM U6 rfl (Dw<|Av B5 (Cs (Fu rfl) QX T.cv EA<|Ab (Cs P8 QY T.c9 P9<|Ab (Aa 1 EX) (Ab (Bc BQ Aew T.n_len BJ<|Ab (AE (Aa 0 EX) rfl) Ac) Ac)) Ac) (Cs (Fu rfl) QX T.cv EA<|Ab (Cs P8 QY T.c9 P9<|Ab (Aa 1 EX) Ac) Ac)) (BR 2 EX)<|Ak (AR (PW.pt<|Ea (AL Gh (AY AZ (AE (Aa 0 EX) rfl) (Aa 2 EX) λ_ _=>rfl) Cq<|AW _) (Ep<|Es (Dv<|AY AZ (AE (Aa 0 EX) rfl) (Aa 2 EX) (λ_ _=>rfl)))) (Ak<|AD (Aa 2 EX)) AV))
    (Ak<|AD Cq)),?_⟩
  try dsimp only[av,aw]
  show DW hp R.c.cls R.c.h F3.h ?_;show TY (A9 _ _ rfl (.inl<|.of R.ha) ?_);ext;have O:Sm start:=⟨by omega,by omega⟩;have cI:Sm (hs.length:Int):=⟨by omega,by omega⟩;have sm0:Sm 0:=⟨by decide,by decide⟩;refine TY<|CQ start hs.length rfl O cI (λr1 n1=>?_);refine TY<|BC r1 start hs.length rfl ⟨Aq,O,cI,(by rw[TZ];omega),λl1 m1=>?_⟩;have s1:=(Aj.refl H).upd (o:=.cF start hs.length) n1;have s2:=s1.upd (o:=.lst<|(BS start hs.length).map V.int) m1;show T2 (EO start rfl O λr2 n2=>?_);have s3:=s2.upd (o:=.cF 0 start) n2;have k1:=((Aj.refl _).upd (o:=.cF 0 start) n2) l1 _ Aq;refine TY<|BC r2 0 start rfl ⟨Aq,sm0,O,(by rw[TZ];omega),λl2 m2=>?_⟩;have s4:=s3.upd (o:=.lst<|(BS 0 start).map V.int) m2;have k2:=((Aj.refl _).upd (o:=.lst<|(BS 0 start).map V.int) m2) l1 _ k1;refine TY<|TY (Bj l1 l2 _ _ rfl rfl k2 Aq (by rw[TN,TN,L5,L5,TZ];omega) λl3 n3=>?_);rw[<-Ui];have s5:=s4.upd (o:=.lst<|(BS start hs.length++BS 0 start).map V.int) n3;generalize hU:upd _ l3 (.lst<|(BS start hs.length++BS 0 start).map V.int)=Y at s5 ⊢;have e3:Y l3=some (.lst<|(BS start hs.length++BS 0 start).map V.int):=hU▸Aq;have q':∀r,r=Ct hs js start->Q (QV r) Y:=λr e=>by rw[e];exact q Y s5
  have RU:=R.same s5;clear hU
  have mem:∀k∈BS start hs.length++BS 0 start,0<=k/\k<hs.length:=λk hk=>by
   rcases UD.mp hk with h|h<;>obtain⟨n,hn,rfl⟩:=As<|Uc.mp h<;>have:=Vz.mp hn<;>constructor<;>omega
  unfold Ct at q';generalize BS start hs.length++BS 0 start=ord at e3 q' mem ⊢;obtain⟨dx',fh,cc,kC⟩:=Bv RU.ins;show⟨⟨_,.of e3⟩,EL (K:=K) (a:=l3) (xs:=ord.map V.int) (λi σ H2=>∃x,σ=[some<|.ref p,some<|.int start,x]/\H2=Y/\(ord.take i).find? (BZ hs js)=none) ⟨none,rfl,rfl,rfl⟩ (λi σ H2 _ ⟨_,_,e,_⟩=>e▸.of e3) ?_ ?_⟩
  .intro i y σ H2 I zq;replace zq:=AG zq;obtain⟨x,rfl,rfl,hf⟩:=zq;rw[T6]at I;cases hk:ord[i]? with
   |none=>rw[hk]at I;cases I
   |some k =>
    rw [hk]at I;cases I;obtain⟨k0,k1⟩:=mem k<|Ug hk;obtain⟨v,e1,e2⟩:=As<|GV (xs:=hs) k0 k1;have lj:=RU.lj;obtain⟨u,e4,J⟩:=As<|GV (xs:=js.map V.bl) k0 (by rw[TN];omega);obtain⟨B,e6,rfl⟩:∃B,js[k.toNat]?=some B/\u=.bl B:=by
     rw [T6]at J;cases z:js[k.toNat]? with
     |none=>rw[z]at J;cases J
     |some B=>rw[z]at J;cases J;exact⟨B,rfl,rfl⟩
    have L:BZ hs js k=(decide (v=.aa) && !B):=by unfold BZ;rw[Ux,e2,Ux,e6];rfl
    have tk:(ord.take<|i+1).find? (BZ hs js)=if BZ hs js k=true then some k else none:=by rw[VR,hk,xV,hf];change none.or (List.find? (BZ hs js) [k])=_;rw[V1];cases BZ hs js k<;>rfl
    show DW cc R.c.cls R.c.h kC.h ?_;show T2 (Cc (.of RU.ha) e1 ?_);ext;have D:BZ hs js k=true->some k=ord.find? (BZ hs js):=λh=>by
     rw [br h]at tk;conv=>rhs;rw[<-xW (i+1) ord]
     rw [xV,tk];rfl
    have next:BZ hs js k=false->(ord.take<|i+1).find? (BZ hs js)=none:=λh=>by rw[tk,h];rfl
    by_cases hv:v=.aa
    .rw[c8 hv];rw[c8 hv]at L;apply B6;show DW cc R.c.cls R.c.j kC.j ?_;show T2 (Cc (.of RU.hb) e4 ?_);ext;cases B with
     |false =>
      apply B6;ext;exact q' (some k)<|D L
     |true =>
      apply BN;exact⟨_,rfl,rfl,next L⟩
    .rw[dJ hv];rw[dJ hv]at L;apply BN;apply BN;exact⟨_,rfl,rfl,next L⟩
  .intro σ H2 zq;replace zq:=AG zq;obtain⟨x,rfl,rfl,hf⟩:=zq;ext;rw[TN,Vn]at hf;exact q' none hf.symm
noncomputable def EY(js:List Bool)(n:Nat):List Int:=((UX n).filter λk=>js.getD k false).map λ(k:Nat)=>(k:Int)
def QZ(js:List Bool)(n:Nat):EY js (n+1)=EY js n++if js.getD n false=true then[(n:Int)] else[]:=by
 unfold EY;rw[YU,Z0,Ui];congr 1
 rw [Z1,Z2];by_cases h:js.getD n false=true
 .rw[br h,br h];rfl
 .rw[cZ h,cZ h];rfl
def Aey(js:List Bool)(n:Nat):(EY js n).length<=n:=by unfold EY;rw[TN];have:=YV (λk=>js.getD k false)<|UX n;rwa [WH]at this
def MD(K:TH)(a:An):Sp:=λvs H Q _=>∃(p C ra rb rc:ar)(hs:List V)(js:List Bool)(ts:List Int),vs=[.ref p]/\CY K a H p C ra rb rc hs js ts /\
 ∀H' r,Aj H H'->H r=none->H' r=some (.lst ((EY js js.length).map V.int))->Q (.ref r) H'
noncomputable def Cu(hs:List V)(st:Nat->Bool)(n:Nat):List V:=(UX n).map λk=>if hs.getD k .aa=.aa then(if st k=true then V.str "stuck" else V.str "free")else hs.getD k .aa
def Aez(i:Int)(ks:List Int):Ec (.int i) (ks.map V.int)=decide (i∈ks):=by
 unfold Ec;rw[List.any_map,Ws,xX,decide_eq_true_eq];constructor
 .intro B;obtain⟨k,hk,e⟩:=As B;have D:(k == i)=true:=e;rwa[<-beq_iff_eq.mp D]
 .exact λh=>⟨i,h,(beq_self_eq_true i:(i == i)=true)⟩
def AeA(ks:List Int):(ks.map V.int).all DQ=true:=by rw[Z3,VN];exact λ_ _=>rfl
def ME(hs:List V)(st:Nat->Bool)(n:Nat):Cu hs st (n+1)=Cu hs st n++[if hs.getD n .aa=.aa then(if st n=true then V.str "stuck" else V.str "free")else hs.getD n .aa]:=by unfold Cu;rw[YU,Ui];rfl
def KC(K:TH):Sp:=λvs H Q _=>∃(h s:ar)(hs:List V)(ks:List Int),vs=[.ref h,.ref s]/\H h=some (.lst hs)/\H s=some (.lst (ks.map V.int))/\hs.length<=1000 /\
 ∀H' t,Aj H H'->H t=none->H' t=some (.tup (Cu hs (λk=>decide ((k:Int)∈ks)) hs.length))->Q (.ref t) H'
def Q0:AM ["self"] ["self"] (Ae<|Ai (top 17) 8):=.of
def AeB:Gm (Ae<|Ai (top 17) 8) "enumerate":=.of
noncomputable def MF:Scope:={ kind:=.function,names:=[(".0",.local),("k",.local),("jammed",.local)],isGenerator:=false,isCoroutine:=false,more:=[] }
def MI:BK MF (Ae<|Ai (top 17) 8) ["k","jammed"] ["self"] [none,none]:=BK.mk' rfl (by decide +kernel) (by decide +kernel) (by decide +kernel) (by decide +kernel) rfl<|by decide +kernel
def Q1:Nm MF "k":=.of
def Q2:Nm MF "jammed":=.of
def AeC(F:AI K "stuck" "Switches.stuck" (Ai (top 17) 8) f fd)(T:TxtS K mg a):AB P w K mg base Au 1 f fd ["self"] (MD K a):=by
 refine F.ok Q0.fs λaj A outer s H vs Q E hr h=>?_
 .obtain ⟨p,C,ra,rb,rc,hs,js,ts,rfl,R,q⟩:=h;obtain⟨dx,fs,hp,F3⟩:=Bv R.ins;have hz:=R.z;have hj:=R.lj;refine⟨_,(@Ak _ _ _<|AD (LZ rfl MI (L4 AeB T.ji<|Ab (AE (Aa 0 Q0) rfl) Ac) (λY C fp π s₂ H₂=>(HK (X:=Br _ _ _ Y C fp π s₂ H₂) K rfl 2 rfl (B4 (Dc 0 MI.nd Q1.comp)<|B4 (Dc 1 MI.nd Q2.comp) DU) rfl rfl)) (λY C fp π s₂ H₂=>(IY<|Dv (Az 1 Q2.comp))) λY C fp π s₂ H₂=>(Az 0 Q1.comp))),?_⟩;try dsimp only[av,aw]
  show DW hp R.c.cls R.c.j F3.j ?_;refine A9 _ _ rfl (.of R.hb) λD hD=>?_;refine AcL (K:=K) (a:=rb) (xs:=js.map V.bl) (λi σ B=>∃x y,σ=[x,y]/\Aj H B/\B D=some (.lst<|(EY js i).map V.int)) ⟨none,none,rfl,(Aj.refl H).upd hD,Aq⟩ (λi σ B _ ⟨_,_,_,I,_⟩=>.of<|I _ _ R.hb) ?_ ?_
  .rintro i x t σ B J ⟨x0,x1,rfl,I,L⟩ ht;rw[T6]at J;cases hk:js[i]? with
   |none=>rw[hk]at J;cases J
   |some O =>
    rw [hk]at J;cases J;have eg:js.getD i false=O:=by rw[Ux,hk];rfl
    have ilt:i<js.length:=(UM.mp hk).1;refine CQ t _ rfl (.of Aq) rfl ?_;ext;have bL:=((Aj.refl B).upd (o:=.tup [.int i,.bl O]) ht) D _ L;have cI:=I.upd (o:=.tup [.int i,.bl O]) ht;cases O with
    |true =>
     refine B6 ?_;show⟨_,bL,?_,_,_,rfl,cI.bI hD,?_⟩
     .rw[TN,TZ];have:=Aey js i;omega
     .rw[Aq,QZ,eg,br rfl,Ui];rfl
    |false =>
     refine BN ?_;refine A9 _ _ rfl cI ?_;rw[bL,QZ,eg,cZ<|by decide,Vi]
  .intro σ B zq;replace zq:=BA zq;obtain⟨x0,x1,rfl,I,L⟩:=zq;rw[TN]at L;exact q B D I hD L
def Q3 (h:k<n):decide ((k:Int)∈EY js n)=js.getD k false:=by
 unfold EY;rw[Ws,decide_eq_true_eq,Uc];constructor
 .intro B;obtain⟨m,D,e⟩:=As B;have:m=k:=by omega
  subst this;exact(Yq.mp D).2
 .exact λe=>⟨k,Yq.mpr ⟨Vz.mpr h,e⟩,rfl⟩
def Q4{n:Nat}{start k:Int}(D:0<=start)(I:start<=n)(h:k∈BS start n++BS 0 start):0<=k/\k<n:=by rcases UD.mp h with h|h<;>obtain⟨m,B,rfl⟩:=As<|Uc.mp h<;>have:=Vz.mp B<;>constructor<;>omega
def Gz{hs:List V}{js:List Bool}{start k:Int}(B:0<=start)(D:start<=hs.length)(h:Ct hs js start=some k):(0<=k/\k<hs.length)/\BZ hs js k=true:=⟨Q4 B D<|xY h,xZ h⟩
structure GA(K:TH)(a:An)(C:ar):Prop where
 c:FT K a C
 p:B1 K C "places"
 s:B1 K C "stands"
 w:B1 K C "went"
 m:B1 K C "mark_at"
noncomputable def G3(ra rb rc:ar)(places:Int)(rs rw:ar)(mark:Int):List (bf×V):=[("held_by",.ref ra),("jammed",.ref rb),("taken",.ref rc),("places",.int places),("stands",.ref rs),("went",.ref rw),("mark_at",.int mark)]
def KD(D I J:ar)(B:Int)(L rw:ar)(mark:Int):Fs (G3 D I J B L rw mark) D I J:=by refine⟨rfl,rfl,rfl,λx hx=>?_⟩;simp only[T9,UH,or_false]at hx;rcases hx with rfl|rfl|rfl|rfl|rfl|rfl|rfl|rfl|rfl|rfl|rfl<;>rfl
structure EZ(K:TH)(a:An)(H:Hp)(p C ra rb rc rs rw:ar)(hs:List V)(js:List Bool)(ts:List Int)(places mark:Int)(st wt:List Int):Prop where
 ins:∃dx,H p=some (.ins C dx (G3 ra rb rc places rs rw mark))
 cs:GA K a C
 ha:H ra=some (.lst hs)
 hb:H rb=some (.lst (js.map V.bl))
 hc:H rc=some (.lst (ts.map V.int))
 gj:H rs=some (.lst (st.map V.int))
 hw:H rw=some (.lst (wt.map V.int))
 ap:[ra,rb,rc,rs,rw].Nodup
 lj:js.length=hs.length
 lt:ts.length=hs.length
 ls:st.length=hs.length
 lw:wt.length=hs.length
 z:hs.length<=1000
def EZ.r (k:EZ K a H p C D I J O rw hs js ts B mark st wt):CY K a H p C D I J hs js ts:=by obtain⟨dx,e⟩:=k.ins;have L:=k.ap;simp only[Uu,T9,UH,or_false,not_or,not_false_eq_true,VQ,and_true]at L;obtain⟨⟨Y,a2,a3,a4⟩,⟨b1,b2,b3⟩,⟨c1,c2⟩,d1⟩:=AU L;exact⟨⟨dx,_,e,KD ..⟩,k.cs.c,k.ha,k.hb,k.hc,Y,a2,b1,k.lj,k.lt,k.z⟩
def EZ.same (k:EZ K a H p C I J L O rw hs js ts B mark st wt)(s:Aj H D):EZ K a D p C I J L O rw hs js ts B mark st wt:=by obtain⟨dx,e⟩:=k.ins;exact⟨⟨dx,s _ _ e⟩,k.cs,s _ _ k.ha,s _ _ k.hb,s _ _ k.hc,s _ _ k.gj,s _ _ k.hw,k.ap,k.lj,k.lt,k.ls,k.lw,k.z⟩
def Q5(K:TH)(a:An):Sp:=λvs H Q _=>∃(p:ar)(many places:Int)(C dx:ar),vs=[.ref p,.int many,.int places]/\H p=some (.ins C dx [])/\GA K a C/\0<=many/\many<=1000 /\
 ∀H' ra rb rc rs rw,CH [p] H H'->EZ K a H' p C ra rb rc rs rw (T1 many.toNat .aa) (T1 many.toNat false) (T1 many.toNat 0) places 0 (T1 many.toNat 0) (T1 many.toNat 0)->H ra=none->H rb=none->H rc=none->H rs=none->H rw=none->Q .aa H'
def Q6(K:TH)(a:An):Sp:=λvs H Q _=>∃(p C ra rb rc rs rw:ar)(hs:List V)(js:List Bool)(ts:List Int)(places mark:Int)(st wt:List Int),vs=[.ref p]/\EZ K a H p C ra rb rc rs rw hs js ts places mark st wt/\∀l,H l=none->Q (.ref l) (upd H l (.lst (wt.map V.int)))
def Q7(K:TH)(a:An):Sp:=λvs H Q _=>∃(p C ra rb rc rs rw:ar)(hs:List V)(js:List Bool)(ts:List Int)(places mark:Int)(st wt:List Int)(place:Int),vs=[.ref p,.int place]/\EZ K a H p C ra rb rc rs rw hs js ts places mark st wt/\0<=mark/\mark<=hs.length/\0<places /\
 match Ct hs js mark with
 |none=>∀H',Aj H H'->Q .aa H'
 |some k=>∀H' t,CH [p,ra,rc,rs,rw] H H'->H t=none->H' t=some (.tup [.int k,.int ((place-st.getD k.toNat 0)%places)]) ->
   EZ K a H' p C ra rb rc rs rw (hs.set k.toNat (.int place)) js (ts.set k.toNat (ts.getD k.toNat 0+1)) places ((k+1)%hs.length) (st.set k.toNat place) (wt.set k.toNat (wt.getD k.toNat 0+(place-st.getD k.toNat 0)%places))->Q (.ref t) H'
structure TxtK(K:TH)(mg:bf->Option af)(a:An):Prop extends TxtS K mg a where
 kD:mg "Switches"=some (.ref a.fW)
def Q8:AM ["self"] ["self"] (Ae<|Ai (top 24) 3):=.of
def AeD:Gm (Ae<|Ai (top 24) 3) "list":=.of
def AeE(F:AI K "steps" "Seekers.steps" (Ai (top 24) 3) f fd)(T:TxtK K mg a):AB P w K mg base Au 1 f fd ["self"] (Q6 K a):=by
 refine F.ok Q8.fs λI A outer s H vs Q E J h=>?_
 .obtain ⟨p,C,L,O,V,Y,rw,hs,js,ts,B,mark,st,wt,rfl,k,q⟩:=h;obtain⟨dx,e⟩:=k.ins;refine⟨_,(@Ak _ _ _<|AD (Cs (Fu rfl) AeD T.cv EA<|Ab (AE (Aa 0 Q8) rfl) Ac)),?_⟩;try dsimp only[av,aw]
  show AK p C dx _ _ rfl e k.cs.c.cls k.cs.w rfl ?_;ext;exact T2<|A9 _ _ rfl (.inl<|.of k.hw) (λl D=>q l D)
def Fx:AM ["self","many","places"] ["self","many","places"] (Ae<|Ai (top 24) 0):=.of
def AeF:Gm (Ae<|Ai (top 24) 0) "Switches":=.of
def AeG (F:AI K "__init__" "Seekers.__init__" (Ai (top 24) 0) f fd)(T:TxtK K mg a)(aaR:Ql K a.fW fi "__init__")(aaS:AB P w K mg base Au 1 fi sR ["self","many"] (KA K a))(aaT:DO K sR ["self","many"] []):
  AB P w K mg base Au 2 f fd ["self","many","places"] (Q5 K a):=by
 refine F.ok Fx.fs λaj A outer s H vs Q E hr h=>?_
 .obtain ⟨p,D,B,C,dx,rfl,hp,cs,h0,h1,q⟩:=h;refine⟨_,(@Af _ _ _ _ _ (A5<|Ac4 aaR AeF T.kD aaS aaT hr.d AN (Ab (Aa 0 Fx)<|Ab (Aa 1 Fx) Ac))
    (Af (BH (Aa 0 Fx) (Aa 2 Fx) rfl)
    (Af (BH (Aa 0 Fx) (Av B9 (CO<|Ab Am Ac)<|Aa 1 Fx) rfl)
    (Af (BH (Aa 0 Fx) (Av B9 (CO<|Ab Am Ac)<|Aa 1 Fx) rfl)
    (Ak<|BH (Aa 0 Fx) Am rfl))))),?_⟩
  try dsimp only[av,aw]
  show Bj p D C dx rfl hp cs.c h0 (by omega) (λH1 J L O x0 gZ fa fb fc ha hb hc ab ac bc=>?_);show Bj p C dx _ rfl gZ cs.c.cls cs.p (by change 3<1000;decide) ?_;generalize hP:upd H1 p (.ins C dx<|A8 "places" (.int B) (G1 J L O))=Y;have p0:Y p=some (.ins C dx<|[("held_by",.ref J),("jammed",.ref L),("taken",.ref O),("places",.int B)]):=hP▸Aq;have nH:CH [p] H1 Y:=λb o hb e=>by rwa[<-hP,Aw<|by simpa using hb]
  show⟨Ao,λl1 f9=>?_⟩;show TY (TY<|BC l1 D [.int 0] rfl ⟨rfl,Aq,by omega,by omega,(by rw[Ve,TZ];omega),λI cw=>?_⟩);rw[Fw];generalize m8:upd Y l1 (.lst [.int 0])=jk at cw ⊢;have jm:Aj Y jk:=m8▸(Aj.refl Y).upd f9;generalize jn:upd jk I (.lst<|T1 D.toNat (V.int 0))=gb;have jo:Aj Y gb:=jn▸jm.upd cw;have e1:gb I=some (.lst<|T1 D.toNat (V.int 0)):=jn▸Aq;have f1:Y I=none:=jm.free cw;show Bj p C dx ([("held_by",.ref J),("jammed",.ref L),("taken",.ref O),("places",.int B)]) rfl (jo _ _ p0) cs.c.cls cs.s (by change 4<1000;decide) ?_;generalize dM:upd gb p (.ins C dx<|A8 "stands" (.ref I) ([("held_by",.ref J),("jammed",.ref L),("taken",.ref O),("places",.int B)]))=bC;have p1:bC p=some (.ins C dx<|[("held_by",.ref J),("jammed",.ref L),("taken",.ref O),("places",.int B),("stands",.ref I)]):=dM▸Aq;have x1:CH [p] Y bC:=λb o hb e=>by rw[<-dM,Aw<|by simpa using hb];exact jo b o e
  have eM:I≠p:=λz=>by rw[z,p0]at f1;cases f1
  have c1:bC I=some (.lst<|T1 D.toNat (V.int 0)):=by rwa[<-dM,Aw eM]
  show⟨Ao,λl3 gh=>?_⟩;show TY (TY<|BC l3 D [.int 0] rfl ⟨rfl,Aq,by omega,by omega,(by rw[Ve,TZ];omega),λl4 eN=>?_⟩);rw[Fw];generalize m9:upd bC l3 (.lst [.int 0])=jq at eN ⊢;have jr:Aj bC jq:=m9▸(Aj.refl bC).upd gh;generalize jt:upd jq l4 (.lst<|T1 D.toNat (V.int 0))=gi;have ju:Aj bC gi:=jt▸jr.upd eN;have e2:gi l4=some (.lst<|T1 D.toNat (V.int 0)):=jt▸Aq;have f2:bC l4=none:=jr.free eN;show Bj p C dx ([("held_by",.ref J),("jammed",.ref L),("taken",.ref O),("places",.int B),("stands",.ref I)]) rfl (ju _ _ p1) cs.c.cls cs.w (by change 5<1000;decide) ?_;generalize dN:upd gi p (.ins C dx<|A8 "went" (.ref l4) ([("held_by",.ref J),("jammed",.ref L),("taken",.ref O),("places",.int B),("stands",.ref I)]))=bZ;have p2:bZ p=some (.ins C dx<|[("held_by",.ref J),("jammed",.ref L),("taken",.ref O),("places",.int B),("stands",.ref I),("went",.ref l4)]):=dN▸Aq;have x2:CH [p] bC bZ:=λb o hb e=>by rw[<-dN,Aw<|by simpa using hb];exact ju b o e
  have eO:l4≠p:=λz=>by rw[z,p1]at f2;cases f2
  have c2:bZ l4=some (.lst<|T1 D.toNat (V.int 0)):=by rwa[<-dN,Aw eO]
  show Bj p C dx _ rfl p2 cs.c.cls cs.m (by change 6<1000;decide) ?_;have one:∀{b:ar},b≠p->b ∉ [p]:=λh z=>h (by simpa using z);have npa:J≠p:=λz=>by rw[z,hp]at fa;cases fa
  have npb:L≠p:=λz=>by rw[z,hp]at fb;cases fb
  have npc:O≠p:=λz=>by rw[z,hp]at fc;cases fc
  have up:CH [p] bZ (upd bZ p<|.ins C dx (A8 "mark_at" (.int 0)<|[("held_by",.ref J),("jammed",.ref L),("taken",.ref O),("places",.int B),("stands",.ref I),("went",.ref l4)])):=λb o hb e=>by rwa[Aw<|by simpa using hb]
  have t1:∀{b o},b≠p->H1 b=some o->(upd bZ p<|.ins C dx (A8 "mark_at" (.int 0)<|[("held_by",.ref J),("jammed",.ref L),("taken",.ref O),("places",.int B),("stands",.ref I),("went",.ref l4)])) b=some o:=λh e=>up _ _ (one h)<|x2 _ _ (one h) (x1 _ _ (one h)<|nH _ _ (one h) e);have back:∀{b},b≠p->Y b=none->H1 b=none:=λ{b} h e=>by
   cases z:H1 b with
   |none=>rfl
   |some o=>rw[nH _ _ (one h) z]at e;cases e
  have sS:∀{b},b≠p->H1 b=none->H b=none:=λ{b} h e=>by
   cases z:H b with
   |none=>rfl
   |some o=>rw[x0 _ _ (one h) z]at e;cases e
  have aaU:∀{b},b≠p->bC b=none->Y b=none:=λ{b} h e=>by
   cases z:Y b with
   |none=>rfl
   |some o=>rw[x1 _ _ (one h) z]at e;cases e
  have g2:=back eM f1;have g4:=back eO<|aaU eO f2;have z2:∀{b o},H1 b=some o->b≠I:=λe=>Ce e g2;have z4:∀{b o},H1 b=some o->b≠l4:=λe=>Ce e g4;refine q _ J L O I l4 (λb o hb e=>up _ _ hb<|x2 _ _ hb (x1 _ _ hb<|nH _ _ hb (x0 _ _ hb e))) ⟨⟨dx,Aq⟩,cs,t1 npa ha,t1 npb hb,t1 npc hc,?_,?_,?_,by rw[U3,U3],by rw[U3,U3],by rw[U3,U3],by rw[U3,U3],by rw[U3];omega⟩ fa fb fc (sS eM g2)<|sS eO g4
  .rw[Ya];exact up _ _ (one eM)<|x2 _ _ (one eM) c1
  .rw[Ya];exact up _ _ (one eO) c2
  .simp only[Uu,T9,UH,or_false,not_or,not_false_eq_true,VQ,and_true];exact⟨⟨ab,ac,z2 ha,z4 ha⟩,⟨bc,z2 hb,z4 hb⟩,⟨z2 hc,z4 hc⟩,Ce c1 f2⟩
def KG{H:Hp}{a b:ar}{o:HO}(h:H b≠none):upd H a o b≠none:=by
 by_cases e:b=a
 .subst e;rw[Aq];simp
 .rwa[Aw e]
def Ck:AM ["self","place","k","steps"] ["self","place"] (Ae<|Ai (top 24) 1):=.of
def AeH:Gm (Ae<|Ai (top 24) 1) "len":=.of
def AeI(F:AI K "take" "Seekers.take" (Ai (top 24) 1) f fd)(T:TxtK K mg a)(nI:∀C∈a.bw,AO P w K mg base Au 1 C "first_free" ["self","start"]<|MC K a)(g7:∀C∈a.bw,AO P w K mg base Au 1 C "hold" ["self","k","who"]<|MB K a) :
  AB P w K mg base Au 2 f fd ["self","place"] (Q7 K a):=by
 refine F.ok Ck.fs λaj A outer s H vs Q E hr h=>?_
 .obtain ⟨p,C,I,rb,J,O,rw,hs,js,ts,B,mark,st,wt,place,rfl,k,h0,h1,aS,q⟩:=h;obtain⟨dx,hp⟩:=k.ins;have nd:=Ck.fs.nd;have nJ:=nI C k.cs.c.mem;have nK:=g7 C k.cs.c.mem;have cls:=k.cs.c.cls;have hz:=k.z;have ls:=k.ls;have lw:=k.lw;have lt:=k.lt;have F3:=KD I rb J B O rw mark;refine⟨_,(@Af _ _ _ _ _ (A4 2 Ck<|A7 nJ cls (Aa 0 Ck) hr.d AN (Ab (AE (Aa 0 Ck) rfl) Ac))
    (Af (AR (AL Gh (Aa 2 Ck) Cq<|AW _) (Ak<|AD Cq) AV)
    (Af (A4 3 Ck<|Av BM (Av Gg (Aa 1 Ck)<|AY AZ (AE (Aa 0 Ck) rfl) (Aa 2 Ck) (λ_ _=>rfl)) (AE (Aa 0 Ck) rfl))
    (Af (Et (Aa 1 Ck)<|Fi (AE (Aa 0 Ck) rfl) (Aa 2 Ck) DP)
    (Af (Iy (AE (Aa 0 Ck) rfl) (Aa 2 Ck) Jb (Aa 3 Ck) Iz DP)
    (Af (A5<|A7 nK cls (Aa 0 Ck) hr.d AN (Ab (Aa 2 Ck)<|Ab (Aa 1 Ck) Ac))
    (Af (BH (Aa 0 Ck) (Av BM (Av B5 (Aa 2 Ck) Am)<|Bc BQ AeH T.n_len BJ (Ab (AE (Aa 0 Ck) rfl) Ac)) rfl)
    (Ak<|AD (Fj<|Ab (Aa 2 Ck) (Ab (Aa 3 Ck) Ac)))))))))),?_⟩
  try dsimp only[av,aw]
  show Ey hp (F3.m _<|by decide) ?_;show AK p C dx _ _ rfl hp cls k.cs.m rfl ?_;show Gk p mark C I rb J hs js ts rfl ⟨k.r,h0,h1,λH1 s1=>?_⟩;cases hf:Ct hs js mark with
  |none =>
   rw [hf]at q;ext;exact q H1 s1
  |some D =>
   rw [hf]at q;obtain⟨⟨k0,k1⟩,_⟩:=Gz h0 h1 hf;have Y:=k.same s1;have gZ:=s1 _ _ hp;have ap:=k.ap;simp only[Uu,T9,UH,or_false,not_or,not_false_eq_true,VQ,and_true]at ap;obtain⟨⟨a1,a2,a3,a4⟩,⟨b1,b2,b3⟩,⟨c1,c2⟩,d1⟩:=AU ap;have L:∀{b xs},H b=some (.lst xs)->p≠b:=λh=>JN hp h (by intro z;cases z);show AK p C dx _ _ rfl gZ cls k.cs.s rfl ?_;show T2 (Cc (.of Y.gj) (HF k0<|by omega) ?_);show AK p C dx _ _ rfl gZ cls k.cs.p rfl ?_;show AK p C dx _ _ rfl gZ cls k.cs.s rfl ?_;show Cc Y.gj (G0 k0<|by rw[TN];omega) ?_;rw[show(st.map V.int).set D.toNat (.int place)=(st.set D.toNat place).map V.int from(U4 ..).symm];generalize nM:upd H1 O (.lst<|(st.set D.toNat place).map V.int)=H2;have x2:∀{b o},b≠O->H1 b=some o->H2 b=some o:=λh e=>by rw[<-nM,Aw h];exact e
   have e2:H2 O=some (.lst<|(st.set D.toNat place).map V.int):=nM▸Aq;have dH:=x2 (L k.gj) gZ;show AK p C dx _ _ rfl dH cls k.cs.w rfl ?_;show Bj rw _ D _ rfl rfl k0 (.of<|x2 (UC d1) Y.hw) (HF k0<|by omega) ?_;show Cc (x2 (UC d1) Y.hw) (G0 k0<|by rw[TN];omega) ?_;rw[show(wt.map V.int).set D.toNat (.int<|wt.getD D.toNat 0+(place-st.getD D.toNat 0)%B)=(wt.set D.toNat<|wt.getD D.toNat 0+(place-st.getD D.toNat 0)%B).map V.int from(U4 ..).symm];generalize nO:upd H2 rw (.lst<|(wt.set D.toNat<|wt.getD D.toNat 0+(place-st.getD D.toNat 0)%B).map V.int)=H3;have x3:∀{b o},b≠rw->H2 b=some o->H3 b=some o:=λh e=>by rw[<-nO,Aw h];exact e
   have e3:H3 rw=some (.lst<|(wt.set D.toNat<|wt.getD D.toNat 0+(place-st.getD D.toNat 0)%B).map V.int):=nO▸Aq;have nP:=x3 (L k.hw) dH;have y3:∀{b o},b≠O->b≠rw->H1 b=some o->H3 b=some o:=λh h' e=>x3 h'<|x2 h e;have R3:CY K a H3 p C I rb J hs js ts:=⟨⟨dx,_,nP,F3⟩,k.cs.c,y3 a3 a4 Y.ha,y3 b2 b3 Y.hb,y3 c1 c2 Y.hc,a1,a2,b1,k.lj,k.lt,k.z⟩;show Ey nP (F3.m _<|by decide) ?_;show⟨p,D,.int place,C,I,rb,J,hs,js,ts,rfl,R3,k0,k1,?_⟩;generalize kE:upd (upd H3 I<|.lst (hs.set D.toNat<|.int place)) J (.lst<|(ts.set D.toNat<|ts.getD D.toNat 0+1).map V.int)=H4;have x4:∀{b o},b≠I->b≠J->H3 b=some o->H4 b=some o:=λh h' e=>by rw[<-kE,Aw h',Aw h];exact e
   have e4a:H4 I=some (.lst<|hs.set D.toNat (.int place)):=by rw[<-kE,Aw a2,Aq]
   have e4c:H4 J=some (.lst<|(ts.set D.toNat<|ts.getD D.toNat 0+1).map V.int):=kE▸Aq;have sT:=x4 (L k.ha) (L k.hc) nP;have sU:=x4 (UC a3) (UC c1)<|x3 d1 e2;have e4w:=x4 (UC a4) (UC c2) e3;show AK p C dx _ _ rfl sT cls k.cs.s rfl ?_;show TY (A9 _ _ rfl (.inl<|.of sU) ?_);rw[TN,Uo,ls];show Bj p C dx _ rfl sT cls k.cs.m (by change 7<1000;decide) ?_;show⟨Ao,λt nt=>?_⟩;have v5:∀{b o},b≠p->H4 b=some o->(upd (upd H4 p<|.ins C dx (G3 I rb J B O rw ((D+1)%hs.length))) t<|.tup [.int D,.int<|(place-st.getD D.toNat 0)%B]) b=some o:=λ{b o} h e=>by
    have e':(upd H4 p<|.ins C dx (G3 I rb J B O rw ((D+1)%hs.length))) b=some o:=by rw[Aw h];exact e
    rw [Aw<|Ce e' nt];exact e'
   have kF:p≠t:=Ce (show(upd H4 p<|.ins C dx (G3 I rb J B O rw ((D+1)%hs.length))) p=some _ from Aq) nt;refine q _ t (λb o hb e=>?_) ?_ Aq ⟨⟨dx,by rw[Aw kF];exact Aq⟩,k.cs,v5 (L k.ha).symm e4a,v5 (L k.hb).symm<|x4 (UC a1) b1 (y3 b2 b3 Y.hb),v5 (L k.hc).symm e4c,v5 (L k.gj).symm sU,v5 (L k.hw).symm e4w,k.ap,
    by rw[Uo];exact k.lj,by rw[Uo,Uo];exact k.lt,by rw[Uo,Uo];exact k.ls,by rw[Uo,Uo];exact k.lw,by rw[Uo];exact k.z⟩
   .simp only[T9,UH,or_false,not_or]at hb;obtain⟨n1,n2,n3,n4,n5⟩:=AU hb;exact v5 n1<|x4 n2 n3 (y3 n4 n5<|s1 _ _ e)
   .cases z:H t with
    |none=>rfl
    |some o =>
     have e1:=s1 _ _ z;exfalso
     have e4':H4 t≠none:=kE▸KG (KG<|nO▸KG (nM▸KG (by rw[e1];simp)));rw[Aw kF.symm]at nt;exact e4' nt
abbrev Ax:=List (ar×HO)
structure At(H:Hp)(C:Ax):Prop where
 at_:∀c∈C,H c.1=some c.2
 nd:(C.map (·.1)).Nodup
noncomputable def Jm:HO->Bool
 |.tup _=>true
 |.bW _ _=>true
 |_=>false
structure Ah(H H':Hp):Prop where
 f:∀b o,Jm o=true->H b=some o->H' b=some o
section
variable {H H' sV:Hp}{C C' P M M' R:Ax}{a b:ar}{o o' u:HO}{ws:List ar}{α:Type}{l:List α}{f:α->Ax}{i:Nat}{x y:α}
def Ah.of(s:Aj H H'):Ah H H':=⟨λb o _ e=>s _ _ e⟩
def Ah.refl:Ah H H:=⟨λ_ _ _ e=>e⟩
def Ah.trans(s:Ah H H')(t:Ah H' sV):Ah H sV:=⟨λb o i e=>t.f _ _ i<|s.f _ _ i e⟩
def Ah.t (s:Ah H H')(e:H b=some (.tup ys)):H' b=some (.tup ys):=s.f _ _ rfl e
def Ah.sq (s:Ah H H')(h:Bw K H a xs):Bw K H' a xs:=by
 rcases h with (h|⟨o,h⟩)|h
 .exact .inl (.inl<|s.f _ _ rfl h)
 .exact .inl (.inr ⟨o,s.f _ _ rfl h⟩)
 .exact .inr h
mutual
noncomputable def Cm:PyData->Bool
 |.list _=>false
 |.dict _=>false
 |.tuple ds=>bM ds
 |_=>true
noncomputable def bM:List PyData->Bool
 |[]=>true
 |d::ds=>Cm d && bM ds
end
mutual
theorem Is.ak{K:TH}:∀(d:PyData){x:V},Cm d=true->Is K H x d->Ah H H'->Is K H' x d
 |.none,_,_,r,_=>by cases r;exact .aa
 |.bool _,_,_,r,_=>by cases r;exact .bl _
 |.int _,_,_,r,_=>by cases r;exact .int _
 |.str _,_,_,r,_=>by cases r;exact .str _
 |.list ds,_,n,r,e=>by cases n
 |.tuple ds,_,n,r,e=>by cases r with|tup B h2=>exact .tup (e.sq B) (aW.ak ds n h2 e)
 |.dict _,_,_,r,_=>nomatch r
theorem aW.ak{K:TH}:∀(ds:List PyData){xs:List V},bM ds=true->aW K H xs ds->Ah H H'->aW K H' xs ds
 |[],_,_,r,_=>by cases r;exact .nil
 |d::ds,_,n,r,e=>by
  have n:(Cm d && bM ds)=true:=n;rw[VD]at n;cases r with|cons B h2=>exact .cons (Is.ak d n.1 B e) (aW.ak ds n.2 h2 e)
end
def At.same(t:At H C)(s:Aj H H'):At H' C:=⟨λc m=>s _ _<|t.at_ c m,t.nd⟩
def At.perm(t:At H C)(p:C'.Perm C):At H C':=⟨λc m=>t.at_ c<|p.mem_iff.mp m,(p.map _).nodup_iff.mpr t.nd⟩
def At.swap(t:At H (P++(M++R))):At H (M++(P++R)):=t.perm<|by rw[<-Uk,<-Uk];exact ya R List.perm_append_comm
def At.get(t:At H C)(m:(a,o)∈C):H a=some o:=t.at_ _ m
def At.hd(t:At H ((a,o)::C)):H a=some o:=t.at_ _ UI
def At.tl(t:At H ((a,o)::C)):At H C:=⟨λc m=>t.at_ c<|Uy _ m,(Uu.mp t.nd).2⟩
def At.right(t:At H (P++R)):At H R:=⟨λc m=>t.at_ c<|U5 _ m,by have:=t.nd;rw[Ui]at this;exact(VP.mp this).2.1⟩
def At.left(t:At H (P++R)):At H P:=⟨λc m=>t.at_ c<|XO _ m,by have:=t.nd;rw[Ui]at this;exact(VP.mp this).1⟩
def At.free(t:At H C)(n:H b=none):b ∉ C.map (·.1):=λm=>by
 obtain⟨c,mc,rfl⟩:=As<|Uc.mp m;rw[t.at_ c mc]at n;cases n
def At.new(t:At H C)(n:H b=none):At (upd H b u) ((b,u)::C):=by
 refine⟨λc m=>?_,Uu.mpr ⟨t.free n,t.nd⟩⟩;rcases T9.mp m with rfl|m
 .exact Aq
 .rw[Aw λz=>t.free n<|Uc.mpr ⟨c,m,z⟩];exact t.at_ c m
def At.kG(t:At H ((a,o)::R)):At (upd H a o') ((a,o')::R):=by
 have B:=Uu.mp t.nd;refine⟨λc m=>?_,t.nd⟩;rcases T9.mp m with rfl|m
 .exact Aq
 .rw[Aw λz=>B.1<|Uc.mpr ⟨c,m,z⟩];exact t.at_ c<|Uy _ m
def At.front(t:At H (P++(a,o)::R)):At H ((a,o)::(P++R)):=t.perm<|YW.symm
def At.back(t:At H ((a,o)::(P++R))):At H (P++(a,o)::R):=t.perm YW
def At.set(t:At H (P++(a,o)::R)):At (upd H a o') (P++(a,o')::R):=t.front.kG.back
def At.part(t:At H (M++R))(s:CH ws H H')(sub:∀w∈ws,w∈M.map (·.1))(e:M'.map (·.1)=M.map (·.1))(h:∀c∈M',H' c.1=some c.2):At H' (M'++R):=by
 have B:=t.nd;rw[Ui]at B;obtain⟨I,J,D⟩:=AU<|VP.mp B;refine⟨λc m=>?_,by rwa[Ui,e]⟩;rcases UD.mp m with m|m
 .exact h c m
 .exact s _ _ (λz=>D _ (sub _ z) _ (Uc.mpr ⟨c,m,rfl⟩) rfl) (t.at_ c<|U5 _ m)
def At.ak(t:At H C)(s:CH ws H H')(sub:∀w∈ws,w∈C.map (·.1))(k:∀c∈C,Jm c.2=false):Ah H H':=⟨λb o i e=>s _ _ (λm=>by
 obtain⟨c,mc,B⟩:=As<|Uc.mp (sub b m);have h:=t.at_ c mc;rw[B,e]at h;have:=k c mc;rw[<-Us h,i]at this;cases this) e⟩
def Ah.chg(t:H a=some o)(k:Jm o=false):Ah H (upd H a u):=⟨λb v i e=>by
 rw [Aw λz=>by rw[z,t]at e;rw[<-Us e,k]at i;cases i];exact e⟩
def Ah.new(n:H a=none):Ah H (upd H a u):=.of<|(Aj.refl H).upd n
def Q9(h:l[i]?=some x):l.flatMap f=(l.take i).flatMap f++(f x++(l.drop<|i+1).flatMap f):=by
 obtain⟨B,ex⟩:=UM.mp h;conv=>lhs;rw[<-xW i l,List.drop_eq_getElem_cons B,ex]
 rw [Z4,List.flatMap_cons]
def AeJ(h:i<l.length):(l.set i y).flatMap f=(l.take i).flatMap f++(f y++(l.drop<|i+1).flatMap f):=by rw[Q9 (l:=l.set i y) (x:=y)<|by rw[WU h],List.take_set_of_le<|Ua i,List.drop_set_of_lt<|Xx i]
def At.pick(t:At H (P++(l.flatMap f++R)))(h:l[i]?=some x):At H (f x++(P++((l.take i).flatMap f++((l.drop<|i+1).flatMap f++R)))):=by rw[Q9 h,Uk,Uk,<-Uk P]at t;have:=t.swap;rwa[Uk]at this
def At.put(t:At H (f y++(P++((l.take i).flatMap f++((l.drop<|i+1).flatMap f++R)))))(h:i<l.length):At H (P++((l.set i y).flatMap f++R)):=by rw[AeJ h,Uk,Uk,<-Uk P];rw[<-Uk P]at t;exact t.swap
end
structure TxtP(K:TH)(mg:bf->Option af)(a:An):Prop extends Txt K mg a where
 sW:mg "all"=none
 cv:mg "list"=none
 gY:mg "tuple"=none
 g8:mg "sorted"=none
 sX:mg "set"=none
 aaV:mg "min"=none
 sY:∃t,mg "SIGNS"=some (UU "0123456789" t)
 sZ:∃t,mg "LEAST_LONG"=some (U7 2 t)
 tq:∃t,mg "MOST_LONG"=some (U7 4 t)
 tu:∃t,mg "MOST_LINES"=some (U7 60 t)
 tD:∃t,mg "MOST_SEEKERS"=some (U7 60 t)
 tE:∃t,mg "MOST_GROUPS"=some (U7 40 t)
 tF:∃t,mg "MOST_SWITCHES"=some (U7 10 t)
 cJ:mg "BadPlan"=some (.ref a.bK)
 dO:Vy K a.bK [.type "ValueError",.type "Exception",.type "BaseException",.type "object"] "ValueError.__new__"=true
noncomputable def Jn(c:Nat):Bool:=decide (48<=c) && decide (c<=57)
def Ra:Jn c=true↔48<=c/\c<=57:=by unfold Jn;rw[VD,decide_eq_true_eq,decide_eq_true_eq]
def AeK:∀c:Nat,c<128->HB ⟨#[c]⟩ "0123456789"=Jn c:=by decide +kernel
def Rb (h:BY z):z.cps.all (·<128)=true:=by rw[<-yb,VN];intro c hc;exact c8<|h c hc
def MJ:Sp:=λvs H Q _=>∃z:bf,vs=[.str z]/\BY z/\z.length<=1000/\∀b H',(b=true↔Dj z)->Aj H H'->Q (.bl b) H'
def Rc(a:An):Sp:=λvs H Q E=>∃long bz:Int,vs=[.int long,.int bz]/\(2<=long/\long<=4/\1<=bz/\bz<=60->Q .aa H)/\(¬(2<=long/\long<=4/\1<=bz/\bz<=60)->E (.ref a.bK) none H)
def MK:AM ["text"] ["text"] (Ae<|top 12):=.of
def AeL:Gm (Ae<|top 12) "all":=.of
noncomputable def MM:Scope:={ kind:=.function,names:=[(".0",.local),("sign",.local),("SIGNS",.globalImplicit)],isGenerator:=false,isCoroutine:=false,more:=[] }
def Rf:BK MM (Ae<|top 12) ["sign"] ["text"] [none]:=BK.mk' rfl (by decide +kernel) (by decide +kernel) (by decide +kernel) (by decide +kernel) rfl<|by decide +kernel
def Rg:Nm MM "sign":=.of
def AeM:Gm MM "SIGNS":=.of
def AeN(F:AI K "are_figures" "are_figures" (top 12) f fd)(T:TxtP K mg a):AB P w K mg base Au 1 f fd ["text"] MJ:=by
 refine F.ok MK.fs λaj A outer s H vs Q E hr h=>?_
 .obtain ⟨z,rfl,Y,hl,q⟩:=h;have nd:=MK.fs.nd;refine⟨_,(@Ak _ _ _<|AD (Bc (Ac9 rfl) AeL T.sW Acq<|Ab (LZ rfl Rf (PK<|Aa 0 MK) (λI C fp π s₂ H₂=>(Dc 0 Rf.nd Rg.comp)) (λI C fp π s₂ H₂=>GW) λI C fp π s₂ H₂=>(GN (AcO K rfl) (Az 0 Rg.comp) (HN AeM.comp T.sY)<|by with_unfolding_all rfl)) Ac)),?_⟩;try dsimp only[av,aw]
  show⟨Rb Y,λD hD=>?_⟩;have ll:z.cps.toList.length<=1000:=by rwa[<-FR]
  refine AdD (z:=z) (λi σ B=>∃x,σ=[x]/\Aj H B/\B D=some (.lst<|((z.cps.toList.take i).map Jn).map V.bl)) ⟨none,rfl,(Aj.refl H).upd hD,Aq⟩ ?_ ?_
  .intro i c σ B hc L;replace L:=AG L;obtain⟨x,rfl,O,J⟩:=L;have I:c<128:=Y c<|Ug hc;show⟨_,J,?_,_,rfl,O.bI hD,?_⟩
   .rw[TN,TN,VM,TZ];omega
   .have e:V.bl (HB ⟨#[c]⟩ "0123456789")=V.bl (Jn c):=by rw[AeK c I]
    rw [Aq,VR,hc,Ui,Ui];change some (HO.lst<|_++[V.bl<|HB ⟨#[c]⟩ "0123456789"])=_;rw[e];rfl
  .intro σ B L;replace L:=AG L;obtain⟨x,rfl,O,J⟩:=L;rw[Vn]at J;refine Ed D _ rfl ⟨.of J,q _ B ?_ O⟩;rw[Z3,VN];exact⟨λh c hc=>Ra.mp<|h c hc,λh c hc=>Ra.mpr<|h c hc⟩
def MN:AM ["long","seekers"] ["long","seekers"] (Ae<|top 37):=.of
def Rh:Gm (Ae<|top 37) "within":=.of
def AeO:Gm (Ae<|top 37) "MOST_SEEKERS":=.of
def Ri:Gm (Ae<|top 37) "BadPlan":=.of
def AeP:Gm (Ae<|top 37) "MOST_LONG":=.of
def AeQ:Gm (Ae<|top 37) "LEAST_LONG":=.of
def AeR(F:AI K "check_counts" "check_counts" (top 37) f fd)(T:TxtP K mg a)(D:Bt P w K mg base Au 1 "within" ["number","least","most"] HP):AB P w K mg base (AJ P w) 2 f fd ["long","seekers"] (Rc a):=by
 refine F.aY MN.fs λO A outer s H vs Q E I h=>?_
 .obtain ⟨l,k,rfl,L,J⟩:=h;refine⟨_,(@Af _ _ _ _ _ (AR (Es<|Dv (Bf D Rh I.d AN<|Ab (Aa 0 MN) (Ab (HM AeQ T.sZ)<|Ab (HM AeP T.tq) Ac))) (Ak<|DC DA Ri rfl T.dO T.cJ (Ab Ag Ac)) AV)
    (Ak<|AR (Es<|Dv (Bf D Rh I.d AN<|Ab (Aa 1 MN) (Ab Am<|Ab (HM AeO T.tD) Ac))) (Ak<|DC DA Ri rfl T.dO T.cJ (Ab Ag Ac)) AV)),?_⟩
  try dsimp only[av,aw]
  show BC l 2 4 rfl ?_;ext;by_cases B:2<=l/\l<=4
  .rw[c8 B.1,c8 B.2];apply BN;show BC k 1 60 rfl ?_;ext;by_cases h2:1<=k/\k<=60
   .rw[c8 h2.1,c8 h2.2];apply BN;exact L ⟨B.1,B.2,h2.1,h2.2⟩
   .have e:(decide (1<=k) && decide (k<=60))=false:=Xl.mpr λz=>h2 (by simpa using z);rw[e];apply B6;ext;exact⟨Ao,J λz=>h2 z.2.2⟩
  .have e:(decide (2<=l) && decide (l<=4))=false:=Xl.mpr λz=>B (by simpa using z);rw[e];apply B6;ext;exact⟨Ao,J λz=>B ⟨z.1,z.2.1⟩⟩
def Ok(z:bf):Prop:=BY z/\z.length<=20
def MO(long:Int)(zs:List bf):Prop:=(1<=zs.length/\zs.length<=60)/\(∀z∈zs,(z.length:Int)=long/\Dj z)/\zs.Nodup
def Rj(a:An)(K:TH):Sp:=λvs H Q E=>∃(long:Int)(p:ar)(zs:List bf),vs=[.int long,.ref p]/\0<=long/\long<=1000/\H p=some (.lst (zs.map V.str))/\(∀z∈zs,Ok z)/\zs.length<2000/\(MO long zs->∀H',Aj H H'->Q .aa H')/\(¬MO long zs->∀H',Aj H H'->E (.ref a.bK) none H')
def Jo (h:Ok z):(ZD z).length<=1000:=by
 have B:=StrLaws.reprText_len z λc hc=>by have:=h.1 c hc;omega
 have:=h.2;omega
def Rk{α:Type}{xs:List α}{i:Nat}{x:α}{R:α->Prop}(h:xs[i]?=some x)(d:∀y∈xs.take i,R y)(hx:R x):∀y∈xs.take (i+1),R y:=by
 rw [VR,h];intro y hy;rcases UD.mp hy with z|z
 .exact d y z
 .have:y=x:=by simpa using z
  rwa[this]
def ED:AM ["long","lines","number"] ["long","lines"] (Ae<|top 38):=.of
def KH:Gm (Ae<|top 38) "len":=.of
def AeS:Gm (Ae<|top 38) "set":=.of
def MQ:Gm (Ae<|top 38) "BadPlan":=.of
def AeT:Gm (Ae<|top 38) "are_figures":=.of
def AeU:Gm (Ae<|top 38) "within":=.of
def AeV:Gm (Ae<|top 38) "MOST_LINES":=.of
def AeW(F:AI K "check_lines" "check_lines" (top 38) f fd)(T:TxtP K mg a)(bU:Bt P w K mg base Au 1 "within" ["number","least","most"] HP)(g9:Bt P w K mg base Au 1 "are_figures" ["text"] MJ) :
  AB P w K mg base (AJ P w) 2 f fd ["long","lines"] (Rj a K):=by
 refine F.aY ED.fs λaj A outer s H vs Q E hr h=>?_
 .obtain ⟨long,p,zs,rfl,l0,l1,Y,ok,aD,q1,q2⟩:=h;have hu:=hr.units;have nd:=ED.fs.nd;refine⟨_,(@Af _ _ _ _ _ (AR (Es<|Dv (Bf bU AeU hr.d AN<|Ab (Bc BQ KH T.n_len BJ<|Ab (Aa 1 ED) Ac) (Ab Am<|Ab (HM AeV T.tu) Ac))) (Ak<|DC DA MQ rfl T.dO T.cJ (Ab Ag Ac)) AV)
    (Af (CM Z5 rfl (Dw<|Aa 1 ED) (BR 2 ED)<|Ak (AR (PW.pt<|JR (AL (Ez hu) (Bc BQ KH T.n_len BJ<|Ab (Aa 2 ED) Ac) (Aa 0 ED)<|AW _) (JQ<|Es (Dv<|Bf g9 AeT hr.d AN (Ab (Aa 2 ED) Ac)))) (Ak<|DC DA MQ rfl T.dO T.cJ (Ab (GU<|CT (IS<|Aa 2 ED) (CT Ag<|CT (Jd<|Aa 0 ED) (CT Ag GS))) Ac)) AV))
    (Ak<|AR (AL (Ez hu) (Bc (QB (w:=w) rfl) KH T.n_len BJ<|Ab (Cs (Adt (w:=w) rfl rfl) AeS T.sX Aco<|Ab (Aa 1 ED) Ac) Ac) (Bc BQ KH T.n_len BJ<|Ab (Aa 1 ED) Ac)<|AW _) (Ak<|DC DA MQ rfl T.dO T.cJ (Ab Ag Ac)) AV))),?_⟩
  try dsimp only[av,aw]
  show TY (A9 _ _ rfl (.inl<|.of Y) ?_);rw[TN];show BC _ 1 60 rfl ?_;ext;by_cases h1:1<=zs.length/\zs.length<=60
  .have e1:(decide (1<=(zs.length:Int)) && decide ((zs.length:Int)<=60))=true:=by simp;omega
   rw [e1];apply BN;show⟨⟨_,.of Y⟩,EL (K:=K) (a:=p) (xs:=zs.map V.str) (λi σ L=>∃x,σ=[some<|.int long,some<|.ref p,x]/\Aj H L/\∀z∈zs.take i,(z.length:Int)=long/\Dj z) ⟨none,rfl,Aj.refl H,λz hz=>absurd hz<|by simp⟩ (λi σ L _ ⟨_,_,J,_⟩=>.of<|J _ _ Y) ?_ ?_⟩
   .intro i y σ L hi zq;replace zq:=AG zq;obtain⟨x,rfl,J,dn⟩:=zq;rw[T6]at hi;cases hk:zs[i]? with
    |none=>rw[hk]at hi;cases hi
    |some z =>
     rw [hk]at hi;cases hi;have hz:=ok z<|Ug hk;have zl:z.length<=20:=hz.2;show T2 (EO z rfl (by rw[TZ];omega) ?_);ext;have B:Uw.length=0:=rfl;have D:(TU " is no number of ").length=17:=by decide +kernel
     have I:(TU " figures").length=8:=by decide +kernel
     have fE:=Jo hz;by_cases he:(z.length:Int)=long
     .rw[c8<|congrArg V.int he];apply BN;show⟨hz.1,by omega,λb H3 hb O=>?_⟩;ext;cases b with
      |true =>
       apply BN;exact⟨_,rfl,J.trans O,Rk hk dn ⟨he,hb.mp rfl⟩⟩
      |false =>
       apply B6;show⟨(by simp only[Bk,B,D,I,TZ];omega),?_⟩;show⟨(by simp only[Bk,B,D,I,TZ];omega),?_⟩;show⟨(by simp only[Bk,B,D,I,TZ];omega),?_⟩;show T2 (Cd _ rfl ⟨l0,l1,λu nQ=>?_⟩);show⟨(by simp only[Bk,B,D,I,TZ];omega),?_⟩;show⟨(by simp only[Bk,B,D,I,TZ];omega),?_⟩;refine⟨(by simp only[Bk,B,D,I,TZ];omega),?_⟩;exact⟨Ao,q2 (λk=>by have:=hb.mpr (k.2.1 z<|Ug hk).2;cases this) H3<|J.trans O⟩
     .rw[dJ λk=>he<|V.int.inj k];apply B6;show⟨(by simp only[Bk,B,D,I,TZ];omega),?_⟩;show⟨(by simp only[Bk,B,D,I,TZ];omega),?_⟩;show⟨(by simp only[Bk,B,D,I,TZ];omega),?_⟩;show T2 (Cd _ rfl ⟨l0,l1,λu nQ=>?_⟩);show⟨(by simp only[Bk,B,D,I,TZ];omega),?_⟩;show⟨(by simp only[Bk,B,D,I,TZ];omega),?_⟩;refine⟨(by simp only[Bk,B,D,I,TZ];omega),?_⟩;exact⟨Ao,q2 (λk=>he (k.2.1 z<|Ug hk).1) L J⟩
   .intro σ L zq;replace zq:=AG zq;obtain⟨x,rfl,J,dn⟩:=zq;rw[TN,Vn]at dn;show CQ p zs rfl (.of<|J _ _ Y) aD (λl hl=>?_);have O:Aj H (upd L l<|DE w l zs):=J.upd hl;refine A9 l zs rfl Aq λn hn=>?_;show TY (A9 _ _ rfl (.inl<|.of (O _ _ Y)) ?_);rw[TN];ext;by_cases hd:zs.Nodup
    .rw[c8<|congrArg (λk:Nat=>V.int k) (hn.mpr hd)];apply BN;exact q1 ⟨h1,dn,hd⟩ _ O
    .have ne:¬(V.int n=V.int zs.length):=λk=>hd<|hn.mp (by have:=V.int.inj k;omega);rw[dJ ne];apply B6;ext;exact⟨Ao,q2 (λk=>hd k.2.2) _ O⟩
  .have e1:(decide (1<=(zs.length:Int)) && decide ((zs.length:Int)<=60))=false:=Xl.mpr λz=>h1 (by simp at z;omega);rw[e1];apply B6;ext;exact⟨Ao,q2 (λz=>h1 z.1) H<|Aj.refl H⟩
def MR(long:Int)(ts:List Pr):Prop:=ts.length<=40/\(∀t∈ts,(1<=(t.2.1.length:Int)/\(t.2.1.length:Int)<=long-2)/\Dj t.2.1/\0<=t.2.2/\t.2.2<=10)/\(ts.map (·.2.1)).Nodup
def Rl(a:An):Sp:=λvs H Q E=>∃(long:Int)(p:ar)(ts:List Pr),vs=[.int long,.ref p]/\0<=long/\long<=1000/\H p=some (.lst (ts.map Bp))/\Ds H ts/\(∀t∈ts,Ok t.2.1)/\ts.length<2000/\(MR long ts->∀H',Aj H H'->Q .aa H')/\(¬MR long ts->∀H',Aj H H'->E (.ref a.bK) none H')
def D3:AM ["long","groups","prefix","many"] ["long","groups"] (Ae<|top 39):=.of
def KI:Gm (Ae<|top 39) "len":=.of
def KJ:Gm (Ae<|top 39) "BadPlan":=.of
def Rm:Gm (Ae<|top 39) "within":=.of
def AeX:Gm (Ae<|top 39) "MOST_SWITCHES":=.of
def AeY:Gm (Ae<|top 39) "are_figures":=.of
def AeZ:Gm (Ae<|top 39) "MOST_GROUPS":=.of
noncomputable def MT:Scope:={ kind:=.function,names:=[(".0",.local),("prefix",.local),("many",.local)],isGenerator:=false,isCoroutine:=false,more:=[] }
def MU:BK MT (Ae<|top 39) ["prefix","many"] ["long","groups","prefix","many"] [none,none]:=BK.mk' rfl (by decide +kernel) (by decide +kernel) (by decide +kernel) (by decide +kernel) rfl<|by decide +kernel
def Rn:Nm MT "prefix":=.of
def Ae0:Nm MT "many":=.of
def Ae1(F:AI K "check_groups" "check_groups" (top 39) f fd)(T:TxtP K mg a)(bU:Bt P w K mg base Au 1 "within" ["number","least","most"] HP)(g9:Bt P w K mg base Au 1 "are_figures" ["text"] MJ) :
  AB P w K mg base (AJ P w) 2 f fd ["long","groups"] (Rl a):=by
 refine F.aY D3.fs λaj A outer s H vs Q E hr h=>?_
 .obtain ⟨long,p,ts,rfl,l0,l1,hp,lay,ok,aD,q1,q2⟩:=h;have hu:=hr.units;have nd:=D3.fs.nd;refine⟨_,(@Af _ _ _ _ _ (AR (AL LH (Bc BQ KI T.n_len BJ<|Ab (Aa 1 D3) Ac) (HM AeZ T.tE)<|AW _) (Ak<|DC DA KJ rfl T.dO T.cJ (Ab Ag Ac)) AV)
    (Af (CM Z5 rfl (Dw<|Aa 1 D3) (FK rfl<|B4 (BR 2 D3) (B4 (BR 3 D3) DU)) (Af (AR (PW.pt<|JR (Es<|Dv (Bf bU Rm hr.d AN<|Ab (Bc BQ KI T.n_len BJ<|Ab (Aa 2 D3) Ac) (Ab Am<|Ab (Av Gg (Aa 0 D3) Am) Ac))) (JQ<|Es (Dv<|Bf g9 AeY hr.d AN (Ab (Aa 2 D3) Ac)))) (Ak<|DC DA KJ rfl T.dO T.cJ (Ab (GU<|CT (IS<|Aa 2 D3) (CT Ag<|CT (Jd<|Aa 0 D3) (CT Ag GS))) Ac)) AV)
     (Ak<|AR (Es<|Dv (Bf bU Rm hr.d AN<|Ab (Aa 3 D3) (Ab Am<|Ab (HM AeX T.tF) Ac))) (Ak<|DC DA KJ rfl T.dO T.cJ (Ab Ag Ac)) AV)))
    (Ak<|AR (AL (Ez hu) (Bc (QB (w:=w) rfl) KI T.n_len BJ<|Ab (AdA (w:=w) rfl rfl MU (Dw<|Aa 1 D3) (λcl C fp π s₂ H₂=>(HK (X:=Br _ _ _ cl C fp π s₂ H₂) K rfl 2 rfl (B4 (Dc 0 MU.nd Rn.comp)<|B4 (Dc 1 MU.nd Ae0.comp) DU) rfl rfl)) (λcl C fp π s₂ H₂=>GW) λcl C fp π s₂ H₂=>(Az 0 Rn.comp)) Ac) (Bc BQ KI T.n_len BJ<|Ab (Aa 1 D3) Ac)<|AW _) (Ak<|DC DA KJ rfl T.dO T.cJ (Ab Ag Ac)) AV))),?_⟩
  try dsimp only[av,aw]
  show TY (A9 _ _ rfl (.inl<|.of hp) ?_);rw[TN];ext;by_cases h1:(ts.length:Int) > 40
  .refine DS (c8 h1) ?_;ext;exact⟨Ao,q2 (λz=>by have:=z.1;omega) H<|Aj.refl H⟩
  apply DX (dJ h1);show⟨⟨_,.of hp⟩,EL (K:=K) (a:=p) (xs:=ts.map Bp) (λi σ Y=>∃x y,σ=[some<|.int long,some<|.ref p,x,y]/\Aj H Y/\∀t∈ts.take i,(1<=(t.2.1.length:Int)/\(t.2.1.length:Int)<=long-2)/\Dj t.2.1/\0<=t.2.2/\t.2.2<=10) ⟨none,none,rfl,Aj.refl H,λz hz=>absurd hz<|by simp⟩ (λi σ Y _ ⟨_,_,_,B,_⟩=>.of<|B _ _ hp) ?_ ?_⟩
  .intro i y σ Y O zq;replace zq:=BA zq;obtain⟨x,y',rfl,B,dn⟩:=zq;rw[T6]at O;cases hk:ts[i]? with
   |none=>rw[hk]at O;cases O
   |some t =>
    rw [hk]at O;cases O;have tm:=Ug hk;have hz:=ok t tm;have zl:t.2.1.length<=20:=hz.2;have I:Uw.length=0:=rfl;have J:(TU " is no prefix where numbers have ").length=33:=by decide +kernel
    have L:(TU " figures").length=8:=by decide +kernel
    have fE:=Jo hz;refine⟨t.1,_,rfl,.of<|B _ _ (lay t tm),rfl,?_⟩;show T2 (EO _ rfl (by rw[TZ];omega) ?_);show BC _ 1 (long-2) rfl ?_;ext;by_cases hw:1<=(t.2.1.length:Int)/\(t.2.1.length:Int)<=long-2
    .rw[c8 hw.1,c8 hw.2];apply BN;show⟨hz.1,by omega,λb H3 hb s3=>?_⟩;ext;cases b with
     |true =>
      apply BN;show BC _ 0 10 rfl ?_;ext;by_cases hm:0<=t.2.2/\t.2.2<=10
      .rw[c8 hm.1,c8 hm.2];apply BN;exact Ed _ _ rfl ⟨B.trans s3,Rk hk dn ⟨hw,hb.mp rfl,hm.1,hm.2⟩⟩
      .have e:(decide (0<=t.2.2) && decide (t.2.2<=10))=false:=Xl.mpr λz=>hm (by simpa using z);rw[e];apply B6;ext;exact⟨Ao,q2 (λk=>hm (k.2.1 t tm).2.2) H3<|B.trans s3⟩
     |false =>
      apply B6;show⟨(by simp only[Bk,I,J,L,TZ];omega),?_⟩;show⟨(by simp only[Bk,I,J,L,TZ];omega),?_⟩;show⟨(by simp only[Bk,I,J,L,TZ];omega),?_⟩;show T2 (Cd _ rfl ⟨l0,l1,λu nQ=>?_⟩);show⟨(by simp only[Bk,I,J,L,TZ];omega),?_⟩;show⟨(by simp only[Bk,I,J,L,TZ];omega),?_⟩;refine⟨(by simp only[Bk,I,J,L,TZ];omega),?_⟩;exact⟨Ao,q2 (λk=>by have:=hb.mpr (k.2.1 t tm).2.1;cases this) H3<|B.trans s3⟩
    .have e:(decide (1<=(t.2.1.length:Int)) && decide ((t.2.1.length:Int)<=long-2))=false:=Xl.mpr λz=>hw (by simpa using z);rw[e];apply B6;show⟨(by simp only[Bk,I,J,L,TZ];omega),?_⟩;show⟨(by simp only[Bk,I,J,L,TZ];omega),?_⟩;show⟨(by simp only[Bk,I,J,L,TZ];omega),?_⟩;show T2 (Cd _ rfl ⟨l0,l1,λu nQ=>?_⟩);show⟨(by simp only[Bk,I,J,L,TZ];omega),?_⟩;show⟨(by simp only[Bk,I,J,L,TZ];omega),?_⟩;refine⟨(by simp only[Bk,I,J,L,TZ];omega),?_⟩;exact⟨Ao,q2 (λk=>hw (k.2.1 t tm).1) Y B⟩
  .intro σ Y zq;replace zq:=BA zq;obtain⟨x,y',rfl,B,dn⟩:=zq;rw[TN,Vn]at dn;ext;have dH:=B _ _ hp;refine⟨⟨_,.of dH⟩,λD hD=>?_⟩;refine AdE (K:=K) (w:=w) (a:=p) (xs:=ts.map Bp) (λi σ H'=>∃x y,σ=[x,y]/\Aj Y H'/\H' D=some (DE w D ((ts.take i).map (·.2.1)))) ⟨none,none,rfl,(Aj.refl Y).upd hD,Aq⟩ (λi σ H' _ ⟨_,_,_,sm,_⟩=>.of<|sm _ _ (B _ _ hp)) ?_ ?_
   .intro i x σ H' O zq;replace zq:=BA zq;obtain⟨x0,x1,rfl,sm,hL⟩:=zq;rw[T6]at O;cases hk:ts[i]? with
    |none=>rw[hk]at O;cases O
    |some t =>
     rw [hk]at O;cases O;have tm:=Ug hk;refine⟨t.1,_,rfl,.of<|sm _ _ (B _ _<|lay t tm),rfl,?_⟩;show Ed _ _ rfl ⟨hL,?_,_,_,rfl,sm.bI hD,?_⟩
     .rw[TN,VM];omega
     .rw[Aq,VR,hk,Ui];rfl
   .intro σ H' zq;replace zq:=BA zq;obtain⟨x0,x1,rfl,sm,hL⟩:=zq;rw[TN,Vn]at hL;refine A9 D _ rfl hL λn hn=>?_;rw[TN]at hn;ext;have s3:=B.trans sm;refine TY<|A9 _ _ rfl (.inl<|.of (s3 _ _ hp)) ?_;rw[TN];ext;by_cases hd:(ts.map (·.2.1)).Nodup
    .rw[c8<|congrArg (λk:Nat=>V.int k) (hn.mpr hd)];apply BN;exact q1 ⟨by omega,dn,hd⟩ _ s3
    .have ne:¬(V.int n=V.int ts.length):=λk=>hd<|hn.mp (by have:=V.int.inj k;omega);rw[dJ ne];apply B6;ext;exact⟨Ao,q2 (λk=>hd k.2.2) _ s3⟩
structure KL(K:TH)(C:ar):Prop where
 cls:CN K C
 l:B1 K C "long"
 n:B1 K C "lines"
 s:B1 K C "seekers"
 g:B1 K C "groups"
noncomputable def KN(long:Int)(lt:ar)(bz:Int)(gt:ar):List (bf×V):=[("long",.int long),("lines",.ref lt),("seekers",.int bz),("groups",.ref gt)]
def Jp(long bz:Int)(zs:List bf)(ts:List Pr):Prop:=(2<=long/\long<=4/\1<=bz/\bz<=60)/\MO long zs/\MR long ts
structure KO(H:Hp)(l g:ar)(zs:List bf)(ts:List Pr):Prop where
 l:H l=some (.lst (zs.map V.str))
 g:H g=some (.lst (ts.map Bp))
 lay:Ds H ts
 tG:∀z∈zs,Ok z
 tH:∀t∈ts,Ok t.2.1
 fl:zs.length<2000
 fg:ts.length<2000
def KO.same{H B:Hp}{l g:ar}{zs:List bf}{ts:List Pr}(p:KO H l g zs ts)(s:Aj H B):KO B l g zs ts:=⟨s _ _ p.l,s _ _ p.g,p.lay.same s,p.tG,p.tH,p.fl,p.fg⟩
def Ro(a:An)(K:TH):Sp:=λvs H Q E=>∃(p:ar)(long:Int)(l:ar)(bz:Int)(g C dx:ar)(zs:List bf)(ts:List Pr),vs=[.ref p,.int long,.ref l,.int bz,.ref g]/\H p=some (.ins C dx [])/\KL K C/\KO H l g zs ts /\
 (Jp long bz zs ts->∀(H':Hp)(lt gt:ar)(aq:List bf)(aZ:List Pr),CH [p] H H'->H' p=some (.ins C dx (KN long lt bz gt))->H' lt=some (.tup (aq.map V.str))->H' gt=some (.tup (aZ.map Bp))->aq.Perm zs->aq.Pairwise CV->aZ.Perm ts->aZ.Pairwise (λx y=>CV x.2.1 y.2.1)->Q .aa H') /\
 (¬Jp long bz zs ts->∀H',Aj H H'->E (.ref a.bK) none H')
def DH:AM ["self","long","lines","seekers","groups"] ["self","long","lines","seekers","groups"] (Ae<|Ai (top 36) 0):=.of
def Rp:Gm (Ae<|Ai (top 36) 0) "tuple":=.of
def Rq:Gm (Ae<|Ai (top 36) 0) "sorted":=.of
def Ae2:Gm (Ae<|Ai (top 36) 0) "check_groups":=.of
def Ae3:Gm (Ae<|Ai (top 36) 0) "check_lines":=.of
def Ae4:Gm (Ae<|Ai (top 36) 0) "check_counts":=.of
def Ae5(F:AI K "__init__" "Plan.__init__" (Ai (top 36) 0) f fd)(T:TxtP K mg a)(nR:Bt P w K mg base (AJ P w) 2 "check_counts" ["long","seekers"] (Rc a))(nS:Bt P w K mg base (AJ P w) 2 "check_lines" ["long","lines"] (Rj a K))(nT:Bt P w K mg base (AJ P w) 2 "check_groups" ["long","groups"] (Rl a)) :
  AB P w K mg base (AJ P w) 3 f fd ["self","long","lines","seekers","groups"] (Ro a K):=by
 refine F.aY DH.fs λaj A outer s H vs Q E hr h=>?_
 .obtain ⟨p,long,l,bz,g,C,dx,zs,ts,rfl,hp,I,pt,q1,q2⟩:=h;have hu:=hr.units;have nd:=DH.fs.nd;refine⟨_,(@Af _ _ _ _ _ (A5<|Bf nR Ae4 hr.d BE (Ab (Aa 1 DH)<|Ab (Aa 3 DH) Ac))
    (Af (A5<|Bf nS Ae3 hr.d BE (Ab (Aa 1 DH)<|Ab (Aa 2 DH) Ac))
    (Af (A5<|Bf nT Ae2 hr.d BE (Ab (Aa 1 DH)<|Ab (Aa 4 DH) Ac))
    (Af (BH (Aa 0 DH) (Aa 1 DH) rfl)
    (Af (BH (Aa 0 DH) (Cs J7 Rp T.gY Kc<|Ab (Bc Qn Rq T.g8 IV<|Ab (Aa 2 DH) Ac) Ac) rfl)
    (Af (BH (Aa 0 DH) (Aa 3 DH) rfl)
    (Ak<|BH (Aa 0 DH) (Cs J7 Rp T.gY Kc<|Ab (Bc Adg Rq T.g8 IV<|Ab (Aa 4 DH) Ac) Ac) rfl))))))),?_⟩
  try dsimp only[av,aw]
  show⟨λhC=>?_,λhC=>q2 (λz=>hC z.1) H<|Aj.refl H⟩;show BC long l zs rfl ⟨by omega,by omega,pt.l,pt.tG,pt.fl,λhL H1 Y=>?_,λhL H1 Y=>q2 (λz=>hL z.2.1) H1 Y⟩;have tI:=pt.same Y;show BC long g ts rfl ⟨by omega,by omega,tI.g,tI.lay,pt.tH,pt.fg,λhG H2 s2=>?_,λhG H2 s2=>q2 (λz=>hG z.2.2) H2<|Y.trans s2⟩;have nU:=Y.trans s2;have tJ:=pt.same nU;have dH:=nU _ _ hp;show Bj p C dx [] rfl dH I.cls I.l (by change 0<1000;decide) ?_;generalize hA:upd H2 p (.ins C dx<|A8 "long" (.int long) [])=L;have xA:CH [p] H L:=λb o hb e=>by rw[<-hA,Aw<|by simpa using hb];exact nU _ _ e
  have pA:L p=some (.ins C dx [("long",.int long)]):=hA▸Aq;have np:∀{b xs},H b=some (.lst xs)->b ∉ [p]:=λh z=>by rw[Um.mp z,hp]at h;cases h
  have np':∀{b xs},H b=some (.tup xs)->b ∉ [p]:=λh z=>by rw[Um.mp z,hp]at h;cases h
  ext;have hl:=hL.1.2;refine CQ l zs rfl (.of<|xA _ _ (np pt.l) pt.l) (by omega) λl1 B n1 pz so=>?_;have sB:=(Aj.refl L).upd (o:=.lst<|B.map V.str) n1;refine Ed l1 (B.map V.str) rfl<|T2 ⟨.of Aq,λlt n2=>?_⟩;have sC:=sB.upd (o:=.tup<|B.map V.str) n2;have eC:(upd (upd L l1<|.lst (B.map V.str)) lt<|.tup (B.map V.str)) lt=some (.tup<|B.map V.str):=Aq;have fC:L lt=none:=sB.free n2;generalize upd (upd L _ _) _ _=HC at sC eC ⊢;show Bj p C dx _ rfl (sC _ _ pA) I.cls I.n (by change 1<1000;decide) ?_;generalize hD:upd HC p (.ins C dx<|A8 "lines" (.ref lt) [("long",.int long)])=HD;have nV:lt≠p:=λz=>by rw[z,pA]at fC;cases fC
  have xD:CH [p] H HD:=λb o hb e=>by rw[<-hD,Aw<|by simpa using hb];exact sC _ _<|xA _ _ hb e
  have pD:HD p=some (.ins C dx [("long",.int long),("lines",.ref lt)]):=hD▸Aq;have eD:HD lt=some (.tup<|B.map V.str):=by rwa[<-hD,Aw nV]
  show Bj p C dx _ rfl pD I.cls I.s (by change 2<1000;decide) ?_;generalize hE:upd HD p (.ins C dx<|A8 "seekers" (.int bz) [("long",.int long),("lines",.ref lt)])=J;have xE:CH [p] H J:=λb o hb e=>by rw[<-hE,Aw<|by simpa using hb];exact xD _ _ hb e
  have pE:J p=some (.ins C dx [("long",.int long),("lines",.ref lt),("seekers",.int bz)]):=hE▸Aq;have eE:J lt=some (.tup<|B.map V.str):=by rwa[<-hE,Aw nV]
  ext;have aaW:Ds J ts:=λt m=>xE _ _ (np'<|pt.lay t m)<|pt.lay t m;have hg:=hG.1;refine Ed g ts rfl ⟨.of<|xE _ _ (np pt.g) pt.g,aaW,hG.2.2,by omega,λl3 D n3 pts kH=>?_⟩;have sF:=(Aj.refl J).upd (o:=.lst<|D.map Bp) n3;refine Ed l3 (D.map Bp) rfl<|T2 ⟨.of Aq,λO n4=>?_⟩;have sG:=sF.upd (o:=.tup<|D.map Bp) n4;have eG:(upd (upd J l3<|.lst (D.map Bp)) O<|.tup (D.map Bp)) O=some (.tup<|D.map Bp):=Aq;have fG:J O=none:=sF.free n4;generalize upd (upd J _ _) _ _=HG at sG eG ⊢;show Bj p C dx _ rfl (sG _ _ pE) I.cls I.g (by change 3<1000;decide) ?_;have ngt:O≠p:=λz=>by rw[z,pE]at fG;cases fG
  refine q1 ⟨hC,hL,hG⟩ _ lt O B D (λb o hb e=>by rw[Aw<|by simpa using hb];exact sG _ _<|xE _ _ hb e) Aq ?_ ?_ pz so pts kH
  .rw[Aw nV];exact sG _ _ eE
  .rwa[Aw ngt]
structure Jq(K:TH)(C:ar):Prop where
 cls:CN K C
 nu:B1 K C "number"
 pl:B1 K C "place"
 he:B1 K C "held"
 st:B1 K C "state"
 di:B1 K C "dialled_so_far"
 pu:B1 K C "pulses"
 fa:B1 K C "far_end"
 wh:B1 K C "why"
noncomputable def Ae6(num:bf)(i:Int)(hl:ar):List (bf×V):=[("number",.str num),("place",.int i),("held",.ref hl)]
noncomputable def Cf(num:bf)(i:Int)(hl:ar)(st ae:bf)(ag:Int)(ao why:V):List (bf×V):=[("number",.str num),("place",.int i),("held",.ref hl),("state",.str st),("dialled_so_far",.str ae),("pulses",.int ag),("far_end",ao),("why",why)]
def HS(a:An):Sp:=λvs H Q _=>∃(p dx:ar)(num:bf)(i:Int)(hl:ar)(bu:bf)(fs:List (bf×V)),vs=[.ref p,.str bu]/\H p=some (.ins a.Line dx fs)/\(fs=Ae6 num i hl\/∃st ae ag ao why,fs=Cf num i hl st ae ag ao why)/\Q .aa (upd H p (.ins a.Line dx (Cf num i hl bu "" 0 .aa .aa)))
def Rr(a:An):Sp:=λvs H Q _=>∃(p dx:ar)(num:bf)(i:Int),vs=[.ref p,.str num,.int i]/\H p=some (.ins a.Line dx [])/\∀l,H l=none->Q .aa (upd (upd H l (.lst [])) p (.ins a.Line dx (Cf num i l "rests" "" 0 .aa .aa)))
def G4:AM ["self","state"] ["self","state"] (Ae<|Ai (top 22) 1):=.of
def Ae7(F:AI K "turn" "Line.turn" (Ai (top 22) 1) f fd)(lc:Jq K a.Line):AB P w K mg base Au 1 f fd ["self","state"] (HS a):=by
 refine F.ok G4.fs λJ A outer s H vs Q E L h=>?_
 .obtain ⟨p,dx,num,i,O,V,fs,rfl,B,D,q⟩:=h;refine⟨_,(@Af _ _ _ _ _ (BH (Aa 0 G4) (Aa 1 G4) rfl)
    (Af (BH (Aa 0 G4) Ag rfl)
    (Af (BH (Aa 0 G4) Am rfl)
    (Af (BH (Aa 0 G4) Cq rfl)
    (Ak<|BH (Aa 0 G4) Cq rfl))))),?_⟩
  try dsimp only[av,aw]
  have I:∀{X},upd H p (.ins a.Line dx X) p=some (.ins a.Line dx X):=Aq;rcases D with rfl|⟨st,ae,ag,ao,why,rfl⟩;all_goals
   show Bj p a.Line dx _ rfl B lc.cls lc.st (UP rfl) ?_;show Bj p a.Line dx _ rfl Aq lc.cls lc.di (UP rfl) ?_;rw[FI];show Bj p a.Line dx _ rfl Aq lc.cls lc.pu (UP rfl) ?_;rw[FI];show Bj p a.Line dx _ rfl Aq lc.cls lc.fa (UP rfl) ?_;rw[FI];show Bj p a.Line dx _ rfl Aq lc.cls lc.wh (UP rfl) ?_;rwa[FI]
def G5:AM ["self","number","place"] ["self","number","place"] (Ae<|Ai (top 22) 0):=.of
def Ae8(F:AI K "__init__" "Line.__init__" (Ai (top 22) 0) f fd)(lc:Jq K a.Line)(I:AO P w K mg base Au 1 a.Line "turn" ["self","state"] (HS a)):AB P w K mg base Au 2 f fd ["self","number","place"] (Rr a):=by
 refine F.ok G5.fs λV A outer s H vs Q E J h=>?_
 .obtain ⟨p,dx,num,i,rfl,L,q⟩:=h;have O:=lc.cls;refine⟨_,(@Af _ _ _ _ _ (BH (Aa 0 G5) (Aa 1 G5) rfl)
    (Af (BH (Aa 0 G5) (Aa 2 G5) rfl)
    (Af (BH (Aa 0 G5) (CO Ac) rfl)
    (Ak<|A5 (A7 I O (Aa 0 G5) J.d AN<|Ab Ag Ac))))),?_⟩
  try dsimp only[av,aw]
  show Bj p a.Line dx _ rfl L lc.cls lc.nu (UP rfl) ?_;show Bj p a.Line dx _ rfl Aq lc.cls lc.pl (UP rfl) ?_;rw[FI];show⟨Ao,λl B=>?_⟩;have pl:p≠l:=λz=>by rw[<-z,Aq]at B;cases B
  show Bj p a.Line dx _ rfl (by rw[Aw pl];exact Aq) lc.cls lc.he (UP rfl) ?_;show A2 p dx _ rfl Aq rfl ?_;show ES p dx num i l ("rests") _ rfl ⟨Aq,.inl rfl,?_⟩;have D:H l=none:=by rw[Aw pl.symm]at B;exact B
  have e:upd (upd (upd (upd H p<|.ins a.Line dx (A8 "place" (.int i)<|A8 "number" (.str num) [])) l<|.lst []) p<|.ins a.Line dx (A8 "held" (.ref l)<|A8 "place" (.int i) (A8 "number" (.str num) []))) p (.ins a.Line dx<|Cf num i l "rests" "" 0 .aa .aa)=upd (upd H l<|.lst []) p (.ins a.Line dx<|Cf num i l "rests" "" 0 .aa .aa):=by
   funext b
   by_cases h:b=p
   .rw[h,Aq,Aq]
   .rw[Aw h,Aw h,Aw h];by_cases h2:b=l
    .rw[h2,Aq,Aq]
    .rw[Aw h2,Aw h2,Aw h]
  rw [e];exact q l D
def Eh:AM ["holders","stuck","paper","k","who"] ["holders","stuck"] (Ae<|top 18):=.of
def Ae9:Gm (Ae<|top 18) "tuple":=.of
def Afa:Gm (Ae<|top 18) "enumerate":=.of
def Afb(F:AI K "paper_of" "paper_of" (top 18) f fd)(T:TxtS K mg a):AB P w K mg base Au 1 f fd ["holders","stuck"] (KC K):=by
 refine F.ok Eh.fs λaj A outer s H vs Q E hr h=>?_
 .obtain ⟨h,st,hs,D,rfl,hh,aH,hz,q⟩:=h;have nd:=Eh.fs.nd;refine⟨_,(@Af _ _ _ _ _ (A4 2 Eh<|CO Ac)
    (Af (CM U6 rfl (L4 Afa T.ji<|Ab (Aa 0 Eh) Ac) (FK rfl<|B4 (BR 3 Eh) (B4 (BR 4 Eh) DU))<|Ak (AR (AL LJ (Aa 4 Eh) Cq<|AW _) (Ak<|A5 (Cr UZ Vf Vg C9 (Aa 2 Eh)<|Ab (Aa 4 Eh) Ac))<|Ak (A5<|Cr UZ Vf Vg C9 (Aa 2 Eh) (Ab (Oy (AL Gp (Aa 3 Eh) (Aa 1 Eh)<|by with_unfolding_all rfl) Ag Ag) Ac))))
    (Ak<|AD (Cs J7 Ae9 T.gY Kc<|Ab (Aa 2 Eh) Ac)))),?_⟩
  try dsimp only[av,aw]
  show⟨Ao,λl hl=>?_⟩;have s1:=(Aj.refl H).upd (o:=.lst []) hl;show Ed h hs rfl ⟨.of<|s1 _ _ hh,Qe (K:=K) (a:=h) (xs:=hs) (λi σ J=>∃x y,σ=[some<|.ref h,some<|.ref st,some<|.ref l,x,y]/\Aj H J/\J l=some (.lst<|Cu hs (λk=>decide ((k:Int)∈D)) i)) ⟨none,none,rfl,s1,Aq⟩ (λi σ J _ ⟨_,_,_,L,_⟩=>.of<|L _ _ hh) ?_ ?_⟩
  .rintro i x t σ J hi ⟨x0,x1,rfl,L,hL⟩ O;have eg:hs.getD i .aa=x:=by rw[Ux,hi];rfl
   have ilt:i<hs.length:=(UM.mp hi).1;refine CQ t _ rfl (.of Aq) rfl ?_;ext;have Y:=((Aj.refl J).upd (o:=.tup [.int i,x]) O) l _ hL;have cI:=L.upd (o:=.tup [.int i,x]) O;have B:(Cu hs (λk=>decide ((k:Int)∈D)) i).length=i:=by unfold Cu;rw[TN,WH]
   by_cases hx:x=.aa
   .rw[c8 hx];refine BN ?_;show⟨.inl ⟨rfl,_,.of Y⟩,?_⟩;show TY (Ee st (D.map V.int) rfl (.inl<|.of (cI _ _ aH)) rfl (AeA D) ?_);simp only[XD,if_false];rw[Aez];have I:∀v,v=(if (decide ((i:Int)∈D))=true then V.str "stuck" else V.str "free")->Aj H (upd (upd J t<|.tup [.int i,x]) l<|.lst (Cu hs (λk=>decide ((k:Int)∈D)) i++[v]))/\(upd (upd J t<|.tup [.int i,x]) l<|.lst (Cu hs (λk=>decide ((k:Int)∈D)) i++[v])) l=some (.lst<|Cu hs (λk=>decide ((k:Int)∈D)) (i+1)):=λv hv=>by
     refine⟨cI.bI hl,?_⟩;rw[Aq,ME,eg,br hx,hv]
    by_cases hk:(i:Int)∈D
    .rw[c8 hk]at I ⊢;show B6 ?_;show CS l _ _ rfl rfl Y (by rw[B,TZ];omega) ?_;obtain⟨z1,z2⟩:=I _ rfl;exact Ed _ _ rfl ⟨z1,z2⟩
    .rw[dJ hk]at I ⊢;show BN ?_;show CS l _ _ rfl rfl Y (by rw[B,TZ];omega) ?_;obtain⟨z1,z2⟩:=I _ rfl;exact Ed _ _ rfl ⟨z1,z2⟩
   .rw[dJ hx];refine B6 ?_;show⟨.inl ⟨rfl,_,.of Y⟩,?_⟩;show CS l _ _ rfl rfl Y (by rw[B,TZ];omega) ?_;refine A9 _ _ rfl (cI.bI hl) ?_;rw[Aq,ME,eg,cZ hx]
  .intro σ J zq;replace zq:=BA zq;obtain⟨x0,x1,rfl,L,hL⟩:=zq;show Ed l _ rfl (.inl ⟨.of hL,λt O=>?_⟩);exact q _ t (L.upd O) (L.free O) Aq
def Rt (h:∀k,k<n->B k=s2 k):Cu hs B n=Cu hs s2 n:=by unfold Cu;refine Vr λk hk=>?_;rw[h k<|Vz.mp hk]
def Ru(K:TH)(a:An):Sp:=λvs H Q _=>∃(p:ar)(bT:bf)(C ra rb rc:ar)(hs:List V)(js:List Bool)(ts:List Int),vs=[.ref p,.str bT]/\CY K a H p C ra rb rc hs js ts /\
 match Ct hs js 0 with
 |none=>∀H',Aj H H'->Q .aa H'
 |some k=>∀H',CH [ra,rc] H H'->H' ra=some (.lst (hs.set k.toNat (.str bT)))->H' rc=some (.lst ((ts.set k.toNat (ts.getD k.toNat 0+1)).map V.int))->Q (.int k) H'
def Rv(K:TH)(a:An):Sp:=λvs H Q _=>∃(p C ra rb rc:ar)(hs:List V)(js:List Bool)(ts:List Int),vs=[.ref p]/\CY K a H p C ra rb rc hs js ts /\
 ∀H' t,Aj H H'->H t=none->H' t=some (.tup (Cu hs (λk=>js.getD k false) hs.length))->Q (.ref t) H'
def FV:AM ["self","who","k"] ["self","who"] (Ae<|Ai (top 20) 0):=.of
def Afc(F:AI K "take" "Group.take" (Ai (top 20) 0) f fd)(T:TxtS K mg a)(V:∀C∈a.bw,AO P w K mg base Au 1 C "first_free" ["self","start"]<|MC K a)(Y:∀C∈a.bw,AO P w K mg base Au 1 C "hold" ["self","k","who"]<|MB K a) :
  AB P w K mg base Au 2 f fd ["self","who"] (Ru K a):=by
 refine F.ok FV.fs λaj A outer s H vs Q E D h=>?_
 .obtain ⟨p,bT,C,I,J,L,hs,js,ts,rfl,R,q⟩:=h;obtain⟨dx,fs,hp,F3⟩:=Bv R.ins;have nd:=FV.fs.nd;have nJ:=V C R.c.mem;have nK:=Y C R.c.mem;have cls:=R.c.cls;refine⟨_,(@Af _ _ _ _ _ (A4 2 FV<|A7 nJ cls (Aa 0 FV) D.d AN (Ab Am Ac))
    (Af (AR (AL LJ (Aa 2 FV) Cq<|AW _) (Ak<|A5 (A7 nK cls (Aa 0 FV) D.d AN<|Ab (Aa 2 FV) (Ab (Aa 1 FV) Ac))) AV)
    (Ak<|AD (Aa 2 FV)))),?_⟩
  try dsimp only[av,aw]
  show Ey hp (F3.m _<|by decide) ?_;show Gk p 0 C I J L hs js ts rfl ⟨R,by decide,by omega,λH1 B=>?_⟩;cases hf:Ct hs js 0 with
  |none =>
   rw [hf]at q;ext;exact q H1 B
  |some k =>
   rw [hf]at q;obtain⟨⟨k0,k1⟩,_⟩:=Gz (by decide) (by omega) hf;have O:=R.same B;obtain⟨dx',fh,cc,kC⟩:=Bv O.ins;show Ey cc (kC.m _<|by decide) ?_;show⟨p,k,.str bT,C,I,J,L,hs,js,ts,rfl,O,k0,k1,?_⟩;show q _ (λb o hb e=>?_) ?_ Aq
   .rw[Aw λz=>hb<|by simp[z],Aw λz=>hb<|by simp[z]];exact B b o e
   .rw[Aw R.ac,Aq]
def MV:AM ["self"] ["self"] (Ae<|Ai (top 20) 1):=.of
def Afd:Gm (Ae<|Ai (top 20) 1) "paper_of":=.of
def Afe(F:AI K "paper" "Group.paper" (Ai (top 20) 1) f fd)(T:TxtS K mg a)(hJ:∀C∈a.bw,AO P w K mg base Au 1 C "holders" ["self"]<|MA K a)(hV:∀C∈a.bw,AO P w K mg base Au 1 C "stuck" ["self"]<|MD K a)(hZ:Bt P w K mg base Au 1 "paper_of" ["holders","stuck"] (KC K)):AB P w K mg base Au 2 f fd ["self"] (Rv K a):=by
 refine F.ok MV.fs λaj A outer s H vs Q E I h=>?_
 .obtain ⟨p,C,O,V,Y,hs,js,ts,rfl,R,q⟩:=h;obtain⟨dx,fs,hp,F3⟩:=Bv R.ins;have J:=hJ C R.c.mem;have L:=hV C R.c.mem;have cls:=R.c.cls;have hj:=R.lj;refine⟨_,(@Ak _ _ _<|AD (Bf hZ Afd I.d AN<|Ab (FO J cls (Aa 0 MV) I.d AN) (Ab (FO L cls (Aa 0 MV) I.d AN) Ac))),?_⟩;try dsimp only[av,aw]
  show Ey hp (F3.m _<|by decide) ?_;refine Fp p C O V Y hs js ts rfl ⟨R,λl hl=>?_⟩;have B:=(Aj.refl H).upd (o:=.lst hs) hl;show Ey (B _ _ hp) (F3.m _<|by decide) ?_;refine Fp p C O V Y hs js ts rfl ⟨R.same B,λH2 r D jv h2=>?_⟩;show Bx l r hs (EY js js.length) rfl (D _ _ Aq) h2 R.z (λH3 t s3 ht h3=>?_);apply q H3 t ((B.trans D).trans s3) ((B.trans D).free ht);rw[h3,Rt (s2:=λk=>js.getD k false) λk hk=>Q3<|by omega]
structure Ln where
 (num st ae:bf) (ag:Int) (ao:Option bf) (why:PyData) (held:List (bf×Int))
structure Gr where
 (pre:bf) (hs:List V) (js:List Bool) (ts:List Int)
structure Sk where
 (hs:List V) (js:List Bool) (ts:List Int) (places mark:Int) (st wt:List Int)
structure LX where
 (p dx h:ar) (i:Nat) (wv:V) (hv:List ar) (l:Ln)
structure RX where
 (p dx ra rb rc:ar) (g:Gr)
structure SX where
 (p dx ra rb rc rs rw:ar) (k:Sk)
structure HX where
 (h dx ld sd qa da:ar) (long:Int) (lines:List LX) (groups:List RX) (sk:SX) (q:List bf) (dn:List V)
structure PS where
 (long:Int) (lns:List Ln) (az:List Gr) (sk:Sk) (q:List bf) (dn:List V)
noncomputable def HX.S(X:HX):PS:=⟨X.long,X.lines.map (·.l),X.groups.map (·.g),X.sk.k,X.q,X.dn⟩
noncomputable def DI:Option bf->V
 |none=>.aa
 |some z=>.str z
noncomputable def G6(long:Int)(ld sd qa da:ar):List (bf×V):=[("long",.int long),("lines",.ref ld),("switches",.ref sd),("queue",.ref qa),("done",.ref da)]
noncomputable def LX.fs(x:LX):List (bf×V):=Cf x.l.num x.i x.h x.l.st x.l.ae x.l.ag (DI x.l.ao) x.wv
noncomputable def Cn(a:An)(x:LX):Ax:=[(x.p,.ins a.Line x.dx x.fs),(x.h,.lst (x.hv.map V.ref))]
noncomputable def BV(a:An)(x:RX):Ax:=[(x.p,.ins a.aM x.dx (G1 x.ra x.rb x.rc)),(x.ra,.lst x.g.hs),(x.rb,.lst (x.g.js.map V.bl)),(x.rc,.lst (x.g.ts.map V.int))]
noncomputable def B7(a:An)(x:SX):Ax:=[(x.p,.ins a.aL x.dx (G3 x.ra x.rb x.rc x.k.places x.rs x.rw x.k.mark)),(x.ra,.lst x.k.hs),(x.rb,.lst (x.k.js.map V.bl)),(x.rc,.lst (x.k.ts.map V.int)),(x.rs,.lst (x.k.st.map V.int)),(x.rw,.lst (x.k.wt.map V.int))]
noncomputable def HX.gm(X:HX):List (Ay×V):=X.lines.map λx=>(.inr x.l.num,.ref x.p)
noncomputable def HX.cx(X:HX):List (Ay×V):=X.groups.map (λx=>(.inr x.g.pre,.ref x.p))++[(.inr "",.ref X.sk.p)]
noncomputable def HX.top(a:An)(X:HX):Ax:=[(X.h,.ins a.ah X.dx (G6 X.long X.ld X.sd X.qa X.da)),(X.ld,.dK X.gm),(X.sd,.dK X.cx),(X.qa,.lst (X.q.map V.str)),(X.da,.lst X.dn)]
noncomputable def A6(a:An)(X:HX)(R:Ax):Ax:=X.top a++(B7 a X.sk++(X.groups.flatMap (BV a)++(X.lines.flatMap (Cn a)++R)))
structure Afg(K:TH)(C:ar):Prop where
 cls:CN K C
 lo:B1 K C "long"
 li:B1 K C "lines"
 sw:B1 K C "switches"
 qu:B1 K C "queue"
 dn:B1 K C "done"
def CA(H:Hp):List ar->List (bf×Int)->Prop
 |[],[]=>True
 |x::xs,p::ps=>H x=some (.tup [.str p.1,.int p.2])/\CA H xs ps
 |_,_=>False
theorem CA.ak (s:Ah H B):∀{xs:List ar}{ps:List (bf×Int)},CA H xs ps->CA B xs ps
 |[],[],_=>trivial
 |[],_::_,h=>h
 |_::_,[],h=>h
 |_::_,_::_,h=>⟨s.t h.1,CA.ak s h.2⟩
structure Jr(K:TH)(H:Hp)(j:Nat)(x:LX):Prop where
 i:x.i=j
 pr:CA H x.hv x.l.held
 w:Is K H x.wv x.l.why
 wt:Cm x.l.why=true
 aD:x.l.held.length<=10
theorem Fy{α β:Type}{f:α->β}:∀{l:List α}{i:Nat}{x y:α},l[i]?=some x->f y=f x->(l.set i y).map f=l.map f
 |[],i,x,y,h,_=>by simp at h
 |z::l,0,x,y,h,e=>by
  have h:z=x:=by simpa using h
  subst h;exact congrArg (·::l.map f) e
 |z::l,i+1,x,y,h,e=>congrArg (f z::·) (Fy (l:=l) (i:=i) (by simpa using h) e)
section
variable {K:TH}{a:An}{H H':Hp}{X:HX}{R:Ax}{i:Nat}{x y:LX}{g g':RX}
def At.aA(t:At H (A6 a X R)):H X.h=some (.ins a.ah X.dx<|G6 X.long X.ld X.sd X.qa X.da):=t.get<|by simp[A6,HX.top]
def At.ld(t:At H (A6 a X R)):H X.ld=some (.dK X.gm):=t.get<|by simp[A6,HX.top]
def At.sd(t:At H (A6 a X R)):H X.sd=some (.dK X.cx):=t.get<|by simp[A6,HX.top]
def At.q(t:At H (A6 a X R)):H X.qa=some (.lst<|X.q.map V.str):=t.get<|by simp[A6,HX.top]
def At.dn(t:At H (A6 a X R)):H X.da=some (.lst X.dn):=t.get<|by simp[A6,HX.top]
def At.rest(t:At H (A6 a X R)):At H R:=t.right.right.right.right
def At.aaZ (t:At H (A6 a X R))(n:H b=none):At (upd H b u) (A6 a X ((b,u)::R)):=by have:=(t.new (u:=u) n);unfold A6 at this ⊢;rw[<-Uk,<-Uk,<-Uk]at this ⊢;exact this.back
def At.dP (t:At H (A6 a X R)):At (upd H X.qa<|.lst (B.map V.str)) (A6 a { X with q:=B } R):=At.set (P:=[_,_,_]) t
def At.nY (t:At H (A6 a X R)):At (upd H X.da<|.lst d') (A6 a { X with dn:=d' } R):=At.set (P:=[_,_,_,_]) t
def At.jw(t:At H (A6 a X R))(h:X.lines[i]?=some x):At H (Cn a x++((X.top a++(B7 a X.sk++X.groups.flatMap (BV a)))++((X.lines.take i).flatMap (Cn a)++((X.lines.drop<|i+1).flatMap (Cn a)++R)))):=by refine At.pick (P:=X.top a++(B7 a X.sk++X.groups.flatMap (BV a))) ?_ h;rwa[Uk,Uk]
def At.nZ(e:y.p=x.p)(n:y.l.num=x.l.num)(h:X.lines[i]?=some x)(t:At H (Cn a y++((X.top a++(B7 a X.sk++X.groups.flatMap (BV a)))++((X.lines.take i).flatMap (Cn a)++((X.lines.drop<|i+1).flatMap (Cn a)++R))))):At H (A6 a { X with lines:=X.lines.set i y } R):=by have t:=At.put (P:=X.top a++(B7 a X.sk++X.groups.flatMap (BV a))) t (UM.mp h).1;have B:({ X with lines:=X.lines.set i y }:HX).gm=X.gm:=Fy (f:=λx:LX=>((.inr x.l.num:Ay),V.ref x.p)) h (by rw[e,n]);unfold A6 HX.top at t ⊢;rw[B];rwa[Uk,Uk]at t
def At.ay(t:At H (A6 a X R))(h:X.lines[i]?=some x):H x.p=some (.ins a.Line x.dx x.fs):=(t.jw h).get<|by simp[Cn]
def At.h8(t:At H (A6 a X R))(h:X.lines[i]?=some x):H x.h=some (.lst<|x.hv.map V.ref):=(t.jw h).get<|by simp[Cn]
def At.bF(t:At H (A6 a X R))(h:X.lines[i]?=some x)(ep:y.p=x.p)(B:y.dx=x.dx)(D:y.h=x.h)(I:y.hv=x.hv)(J:y.l.num=x.l.num):At (upd H x.p<|.ins a.Line x.dx y.fs) (A6 a { X with lines:=X.lines.set i y } R):=by apply At.nZ ep J h;have:=At.kG (o':=.ins a.Line x.dx y.fs)<|t.jw h;unfold Cn;rwa[ep,B,D,I]
def At.kI (t:At H (A6 a X R))(h:X.lines[i]?=some x)(ep:y.p=x.p)(B:y.dx=x.dx)(D:y.h=x.h)(I:y.hv=x.hv++[p])(J:y.l.num=x.l.num)(L:y.fs=x.fs):At (upd H x.h<|.lst (x.hv.map V.ref++[V.ref p])) (A6 a { X with lines:=X.lines.set i y } R):=by apply At.nZ ep J h;have:=At.set (P:=[_]) (o':=.lst<|x.hv.map V.ref++[V.ref p])<|t.jw h;unfold Cn;rwa[ep,B,D,I,L,Ui]
def At.aa0 (t:At H (A6 a X R))(h:X.lines[i]?=some x)(B:H l=none)(ep:y.p=x.p)(D:y.dx=x.dx)(I:y.h=l)(J:y.hv=[])(L:y.l.num=x.l.num):At (upd (upd H l<|.lst []) x.p<|.ins a.Line x.dx y.fs) (A6 a { X with lines:=X.lines.set i y } R):=by apply At.nZ ep L h;have O:=(t.jw h).new (u:=.lst []) B;have Y:=At.set (P:=[_]) (o':=.ins a.Line x.dx y.fs) O;have t3:=At.perm (C':=(x.p,.ins a.Line x.dx y.fs)::(l,.lst [])::(x.h,.lst<|x.hv.map V.ref)::_) Y<|.swap _ _ _;have t4:=(At.front (P:=[_,_]) t3).tl;unfold Cn;rwa[ep,D,I,J]
structure G7(g:Gr):Prop where
 lj:g.js.length=g.hs.length
 lt:g.ts.length=g.hs.length
 z:g.hs.length<=1000
structure HV(k:Sk):Prop where
 lj:k.js.length=k.hs.length
 lt:k.ts.length=k.hs.length
 ls:k.st.length=k.hs.length
 lw:k.wt.length=k.hs.length
 z:k.hs.length<=1000
def At.kJ(t:At H (A6 a X R))(h:X.groups[i]?=some g):At H (BV a g++((X.top a++B7 a X.sk)++((X.groups.take i).flatMap (BV a)++((X.groups.drop<|i+1).flatMap (BV a)++(X.lines.flatMap (Cn a)++R))))):=by refine At.pick (P:=X.top a++B7 a X.sk) ?_ h;rwa[Uk]
def At.og(e:g'.p=g.p)(n:g'.g.pre=g.g.pre)(h:X.groups[i]?=some g)(t:At H (BV a g'++((X.top a++B7 a X.sk)++((X.groups.take i).flatMap (BV a)++((X.groups.drop<|i+1).flatMap (BV a)++(X.lines.flatMap (Cn a)++R)))))):At H (A6 a { X with groups:=X.groups.set i g' } R):=by have t:=At.put (P:=X.top a++B7 a X.sk) t (UM.mp h).1;have B:({ X with groups:=X.groups.set i g' }:HX).cx=X.cx:=congrArg (·++[((.inr "":Ay),V.ref X.sk.p)])<|Fy (f:=λx:RX=>((.inr x.g.pre:Ay),V.ref x.p)) h (by rw[e,n]);unfold A6 HX.top at t ⊢;rw[B];rwa[Uk]at t
def Afh(B D I:ar):Fs (G1 B D I) B D I:=by refine⟨rfl,rfl,rfl,λx hx=>?_⟩;simp only[T9,UH,or_false]at hx;rcases hx with rfl|rfl|rfl|rfl|rfl|rfl|rfl|rfl|rfl|rfl|rfl<;>rfl
def At.ia(t:At H (A6 a X R))(h:X.groups[i]?=some g)(c:FT K a a.aM)(ok:G7 g.g):CY K a H g.p a.aM g.ra g.rb g.rc g.g.hs g.g.js g.g.ts:=by have f:=t.kJ h;have B:=f.left.nd;simp only[BV,UR,Xi,Uu,T9,UH,or_false,not_or,not_false_eq_true,VQ,and_true]at B;obtain⟨⟨_,_,_⟩,⟨D,I⟩,J⟩:=AU B;exact⟨⟨g.dx,G1 g.ra g.rb g.rc,f.get<|by simp[BV],Afh ..⟩,c,f.get<|by simp[BV],f.get<|by simp[BV],f.get<|by simp[BV],D,I,J,ok.lj,ok.lt,ok.z⟩
def At.setG (t:At H (A6 a X R))(h:X.groups[i]?=some g)(s:CH ws H H')(sub:∀w∈ws,w=g.ra\/w=g.rb\/w=g.rc)(e:g'={ g with g:=g'.g })(n:g'.g.pre=g.g.pre)(I:H' g.ra=some (.lst g'.g.hs))(hb:H' g.rb=some (.lst<|g'.g.js.map V.bl))(hc:H' g.rc=some (.lst<|g'.g.ts.map V.int)):
  At H' (A6 a { X with groups:=X.groups.set i g' } R)/\Ah H H':=by
 have f:=t.kJ h;have B:=f.left.nd;simp only[BV,UR,Xi,Uu,T9,UH,or_false,not_or,not_false_eq_true,VQ,and_true]at B;obtain⟨⟨J,m2,L⟩,⟨O,Y⟩,n3⟩:=AU B;have D:∀w∈ws,w∈(BV a g).map (·.1):=λw m=>by
  rcases sub w m with z|z|z<;>simp[BV,z]
 refine⟨At.og (by rw[e]) n h<|f.part s D (by rw[e];rfl) ?_,At.ak f.left s D λc m=>by simp only[BV,T9,UH,or_false]at m;rcases m with rfl|rfl|rfl|rfl<;>rfl⟩;intro c m;rw[e]at m;simp only[BV,T9,UH,or_false]at m;rcases m with rfl|rfl|rfl|rfl
 .exact s _ _ (λz=>by rcases sub _ z with z|z|z;exact J z;exact m2 z;exact L z) (f.get<|by simp[BV])
 .exact I
 .exact hb
 .exact hc
def At.kK(t:At H (A6 a X R)):At H (B7 a X.sk++(X.top a++(X.groups.flatMap (BV a)++(X.lines.flatMap (Cn a)++R)))):=At.swap t
def At.jx(t:At H (A6 a X R))(c:GA K a a.aL)(ok:HV X.sk.k):EZ K a H X.sk.p a.aL X.sk.ra X.sk.rb X.sk.rc X.sk.rs X.sk.rw X.sk.k.hs X.sk.k.js X.sk.k.ts X.sk.k.places X.sk.k.mark X.sk.k.st X.sk.k.wt:=by have f:=t.kK;have B:=f.left.nd;exact⟨⟨X.sk.dx,f.get<|by simp[B7]⟩,c,f.get<|by simp[B7],f.get<|by simp[B7],f.get<|by simp[B7],f.get<|by simp[B7],f.get<|by simp[B7],(Uu.mp B).2,ok.lj,ok.lt,ok.ls,ok.lw,ok.z⟩
def At.jy (t:At H (A6 a X R))(s:CH ws H H')(sub:∀w∈ws,w∈(B7 a X.sk).map (·.1))(ep:H' X.sk.p=some (.ins a.aL dx'<|G3 X.sk.ra X.sk.rb X.sk.rc k'.places X.sk.rs X.sk.rw k'.mark))(B:H' X.sk.ra=some (.lst k'.hs))(hb:H' X.sk.rb=some (.lst<|k'.js.map V.bl))(hc:H' X.sk.rc=some (.lst<|k'.ts.map V.int))(hd:H' X.sk.rs=some (.lst<|k'.st.map V.int))(D:H' X.sk.rw=some (.lst<|k'.wt.map V.int)):
  At H' (A6 a { X with sk:={ X.sk with k:=k',dx:=dx' } } R)/\Ah H H':=by
 have f:=t.kK;refine⟨At.swap<|f.part (M':=B7 a { X.sk with k:=k',dx:=dx' }) s sub rfl ?_,At.ak f.left s sub λc m=>by simp only[B7,T9,UH,or_false]at m;rcases m with rfl|rfl|rfl|rfl|rfl|rfl<;>rfl⟩;intro c m;simp only[B7,T9,UH,or_false]at m;rcases m with rfl|rfl|rfl|rfl|rfl|rfl
 .exact ep
 .exact B
 .exact hb
 .exact hc
 .exact hd
 .exact D
end
structure A1(K:TH)(H:Hp)(X:HX):Prop where
 num:(X.lines.map (·.l.num)).Nodup
 pre:(X.groups.map (·.g.pre)).Nodup
 ne:∀g∈X.groups,g.g.pre≠TU ""
 lx:∀(i:Nat)(x:LX),X.lines[i]?=some x->Jr K H i x
 gr:∀g∈X.groups,G7 g.g
 sk:HV X.sk.k
structure HT(K:TH)(a:An)(H:Hp)(X:HX)(R:Ax):Prop where
 t:At H (A6 a X R)
 ok:A1 K H X
section
variable {K:TH}{a:An}{H H':Hp}{X:HX}{R:Ax}{i:Nat}{x y:LX}{g g':RX}
def Jr.ak (l:Jr K H j x)(s:Ah H H'):Jr K H' j x:=⟨l.i,l.pr.ak s,Is.ak _ l.wt l.w s,l.wt,l.aD⟩
def A1.ak(k:A1 K H X)(s:Ah H H'):A1 K H' X:=⟨k.num,k.pre,k.ne,λi x h=>(k.lx i x h).ak s,k.gr,k.sk⟩
def HT.same(t:HT K a H X R)(s:Aj H H'):HT K a H' X R:=⟨t.t.same s,t.ok.ak<|.of s⟩
def HT.new (t:HT K a H X R)(n:H b=none):HT K a (upd H b u) X ((b,u)::R):=⟨t.t.aaZ n,t.ok.ak<|.new n⟩
def A1.bF(k:A1 K H X)(s:Ah H H')(h:X.lines[i]?=some x)(D:y.l.num=x.l.num)(I:Jr K H' i y):A1 K H' { X with lines:=X.lines.set i y }:=by
 refine⟨?_,k.pre,k.ne,λj z B=>?_,k.gr,k.sk⟩
 .show ((X.lines.set i y).map (·.l.num)).Nodup;rw[Fy (f:=λx:LX=>x.l.num) h D];exact k.num
 .have B:(X.lines.set i y)[j]?=some z:=B;rw[yc]at B;by_cases e:i=j
  .rw[br e]at B;split at B
   .cases B;rwa[<-e]
   .cases B
  .rw[cZ e]at B;exact(k.lx j z B).ak s
def A1.setG(k:A1 K H X)(s:Ah H H')(h:X.groups[i]?=some g)(B:g'.g.pre=g.g.pre)(D:G7 g'.g):A1 K H' { X with groups:=X.groups.set i g' }:=by
 refine⟨k.num,?_,λz m=>?_,λi x h=>(k.lx i x h).ak s,λz m=>?_,k.sk⟩
 .show ((X.groups.set i g').map (·.g.pre)).Nodup;rw[Fy (f:=λx:RX=>x.g.pre) h B];exact k.pre
 .rcases Z6 m with m|rfl
  .exact k.ne z m
  .rw[B];exact k.ne g<|Ug h
 .rcases Z6 m with m|rfl
  .exact k.gr z m
  .exact D
def A1.jy (k:A1 K H X)(s:Ah H H')(ok:HV B.k):A1 K H' { X with sk:=B }:=⟨k.num,k.pre,k.ne,λi x h=>(k.lx i x h).ak s,k.gr,ok⟩
theorem MW{α:Type}{f:α->bf}{v:α->V}:∀{l:List α}{i:Nat}{x:α},(l.map f).Nodup->l[i]?=some x->Ba (l.map λy=>((UL (f y):Ay),v y)) (.inr (f x))=some (v x)
 |[],_,_,_,h=>by simp at h
 |z::l,0,x,_,h=>by
  have e:z=x:=by simpa using h
  subst e;exact FQ rfl
 |z::l,i+1,x,nd,h=>by
  have B:=Uu.mp nd;have D:l[i]?=some x:=by simpa using h
  refine(EU λe=>?_).trans (MW B.2 D);have I:f z=f x:=Wd e;exact B.1 (by rw[I];exact Uc.mpr ⟨x,Ug D,rfl⟩)
theorem G8{α:Type}{f:α->bf}{v:α->V}{w:bf}:∀{l:List α},w ∉ l.map f->Ba (l.map λy=>((UL (f y):Ay),v y)) (.inr w)=none
 |[],_=>rfl
 |z::l,n=>(EU λe=>n (by rw[<-(Wd e:f z=w)];exact UI)).trans (G8 λm=>n (Uy _ m))
def A1.line(k:A1 K H X)(h:X.lines[i]?=some x):Ba X.gm (.inr x.l.num)=some (.ref x.p):=MW (f:=λx:LX=>x.l.num) (v:=λx=>V.ref x.p) k.num h
def A1.bN (k:A1 K H X)(n:z ∉ X.lines.map (·.l.num)):Ba X.gm (.inr z)=none:=G8 (f:=λx:LX=>x.l.num) (v:=λx=>V.ref x.p) n
def A1.oh(k:A1 K H X):Ba (X.groups.map λx=>((UL x.g.pre:Ay),V.ref x.p)) (.inr<|TU "")=none:=G8 (f:=λx:RX=>x.g.pre) (v:=λx=>V.ref x.p) λm=>by
 obtain⟨g,mg,e⟩:=As<|Uc.mp m;exact k.ne g mg e
def A1.kL(k:A1 K H X):Ba X.cx (.inr<|TU "")=some (.ref X.sk.p):=by unfold HX.cx;rw[Kj _ _ _ _ k.oh,br rfl]
def A1.oi(k:A1 K H X)(h:X.groups[i]?=some g):Ba X.cx (.inr g.g.pre)=some (.ref g.p):=by unfold HX.cx;rw[Kj _ _ _ _ k.oh,cZ λe=>k.ne g (Ug h)<|Wd e];exact MW (f:=λx:RX=>x.g.pre) (v:=λx=>V.ref x.p) k.pre h
def A1.tM(k:A1 K H X){w:bf}(B:w≠TU "")(n:w ∉ X.groups.map (·.g.pre)):Ba X.cx (.inr w)=none:=by unfold HX.cx;rw[Kj _ _ _ _ k.oh,cZ λe=>B<|Wd e];exact G8 (f:=λx:RX=>x.g.pre) (v:=λx=>V.ref x.p) n
structure TxtH(P:TR)(w:TL)(K:TH)(mg:bf->Option af)(a:An):Prop extends TxtK K mg a,TxtP K mg a where
 ic:∃t,mg "AT_SEEKERS"=some (UU "" t)
 kM:mg "WAYS"=some (.ref a.fX)
 b7:∃t1 t2 t3 t4,Mr P w K a.fX [(.inr "lift",.ref t1),(.inr "pulse",.ref t2),(.inr "gap",.ref t3),(.inr "hang",.ref t4)]/\(∀H,Bw K H t1 [.str "rests",.str "rung"])/\(∀H,Bw K H t2 [.str "dials"])/\(∀H,Bw K H t3 [.str "dials"])/\∀H,Bw K H t4 [.str "waits",.str "dials",.str "rings",.str "talks",.str "told"]
 jz:mg "NoLine"=some (.ref a.aT)
 tN:Vy K a.aT [.type "ValueError",.type "Exception",.type "BaseException",.type "object"] "ValueError.__new__"=true
 ie:mg "NotSo"=some (.ref a.aV)
 om:Vy K a.aV [.type "ValueError",.type "Exception",.type "BaseException",.type "object"] "ValueError.__new__"=true
 hc:Afg K a.ah
 lc:Jq K a.Line
 sc:GA K a a.aL
 gc:FT K a a.aM
def G9(K:TH)(a:An):Sp:=λvs H Q E=>∃(X:HX)(R:Ax)(z:bf),vs=[.ref X.h,.str z]/\HT K a H X R/\Ok z /\
 (∀(i:Nat)(x:LX),X.lines[i]?=some x->x.l.num=z->Q (.ref x.p) H)/\(z ∉ X.lines.map (·.l.num)->E (.ref a.aT) none H)
def He(K:TH)(a:An):Sp:=λvs H Q E=>∃(X:HX)(R:Ax)(z:bf),vs=[.ref X.h,.str z]/\HT K a H X R/\Ok z /\
 (z=TU ""->Q (.ref X.sk.p) H)/\(∀(i:Nat)(g:RX),X.groups[i]?=some g->g.g.pre=z->Q (.ref g.p) H)/\(z≠TU ""->z ∉ X.groups.map (·.g.pre)->E (.ref a.aK) none H)
def Rw (h:z∈X.lines.map (·.l.num)):∃(i:Nat)(x:LX),X.lines[i]?=some x/\x.l.num=z:=by obtain⟨x,m,e⟩:=As<|Uc.mp h;obtain⟨i,B,D⟩:=V0 m;exact⟨i,x,by rw[Uh B,D],e⟩
def Js (h:z∈X.groups.map (·.g.pre)):∃(i:Nat)(x:RX),X.groups[i]?=some x/\x.g.pre=z:=by obtain⟨x,m,e⟩:=As<|Uc.mp h;obtain⟨i,B,D⟩:=V0 m;exact⟨i,x,by rw[Uh B,D],e⟩
end
def HW:AM ["self","number"] ["self","number"] (Ae<|Ai (top 28) 16):=.of
def Afi:Gm (Ae<|Ai (top 28) 16) "NoLine":=.of
def Afj(F:AI K "line_of" "Hall.line_of" (Ai (top 28) 16) f fd)(T:TxtH P w K mg a):AB P w K mg base (AJ P w) 1 f fd ["self","number"] (G9 K a):=by
 refine F.aY HW.fs λO A outer s H vs Q E V h=>?_
 .obtain ⟨X,R,z,rfl,t,I,J,L⟩:=h;refine⟨_,(@Af _ _ _ _ _ (AR (AL (GZ (P:=P) (w:=w) (K:=K)) (Aa 1 HW) (AE (Aa 0 HW) rfl)<|by with_unfolding_all rfl) (Ak<|DC DA Afi rfl T.tN T.jz (Ab (GU<|CT Ag (CT (IS<|Aa 1 HW) GS)) Ac)) AV)
    (Ak<|AD (Ap P w K (AE (Aa 0 HW) rfl)<|Aa 1 HW))),?_⟩
  try dsimp only[av,aw]
  show AK X.h a.ah X.dx _ _ rfl t.t.aA T.hc.cls T.hc.li rfl ?_;apply A2 X.ld _ (.inr z) rfl rfl (.of t.t.ld);by_cases m:z∈X.lines.map (·.l.num)
  .obtain ⟨i,x,h,rfl⟩:=Rw m;have hv:=t.ok.line h;rw[hv];show AK X.h a.ah X.dx _ _ rfl t.t.aA T.hc.cls T.hc.li rfl ?_;ext;exact⟨X.ld,_,.inr x.l.num,_,rfl,rfl,.of t.t.ld,hv,J i x h rfl⟩
  .rw[t.ok.bN m];have Y:=Jo I;have B:Uw.length=0:=rfl;have D:(TU "there is no line ").length=17:=by decide +kernel
   show⟨(by simp only[Bk,B,D,TZ];omega),?_⟩;show⟨(by rw[TZ];omega),?_⟩;show⟨(by simp only[Bk,B,D,TZ];omega),?_⟩;refine⟨(by simp only[Bk,B,D,TZ];omega),?_⟩;exact⟨Ao,L m⟩
def HY:AM ["self","where"] ["self","where"] (Ae<|Ai (top 28) 17):=.of
def Afk:Gm (Ae<|Ai (top 28) 17) "NoSwitch":=.of
def Afl(F:AI K "switches_of" "Hall.switches_of" (Ai (top 28) 17) f fd)(T:TxtH P w K mg a):AB P w K mg base (AJ P w) 1 f fd ["self","where"] (He K a):=by
 refine F.aY HY.fs λaj A outer s H vs Q E hr h=>?_
 .obtain ⟨X,R,z,rfl,t,L,O,V,Y⟩:=h;refine⟨_,(@Af _ _ _ _ _ (AR (AL (GZ (P:=P) (w:=w) (K:=K)) (Aa 1 HY) (AE (Aa 0 HY) rfl)<|by with_unfolding_all rfl) (Ak<|DC DA Afk rfl T.ku T.fZ (Ab (GU<|CT Ag (CT (IS<|Aa 1 HY) GS)) Ac)) AV)
    (Ak<|AD (Ap P w K (AE (Aa 0 HY) rfl)<|Aa 1 HY))),?_⟩
  try dsimp only[av,aw]
  have D:(∃p,Ba X.cx (.inr z)=some (.ref p)/\Q (.ref p) H)\/(Ba X.cx (.inr z)=none/\E (.ref a.aK) none H):=by
   by_cases B:z=TU ""
   .exact .inl ⟨_,by rw[B];exact t.ok.kL,O B⟩
   .by_cases m:z∈X.groups.map (·.g.pre)
    .obtain ⟨i,x,h,rfl⟩:=Js m;exact .inl ⟨_,t.ok.oi h,V i x h rfl⟩
    .exact .inr ⟨t.ok.tM B m,Y B m⟩
  show AK X.h a.ah X.dx _ _ rfl t.t.aA T.hc.cls T.hc.sw rfl ?_;apply A2 X.sd _ (.inr z) rfl rfl (.of t.t.sd);rcases D with ⟨p,hv,q⟩|⟨hv,q⟩
  .rw[hv];show AK X.h a.ah X.dx _ _ rfl t.t.aA T.hc.cls T.hc.sw rfl ?_;ext;exact⟨X.sd,_,.inr z,_,rfl,rfl,.of t.t.sd,hv,q⟩
  .rw[hv];have fE:=Jo L;have I:Uw.length=0:=rfl;have J:(TU "there is no group ").length=18:=by decide +kernel
   show⟨(by simp only[Bk,I,J,TZ];omega),?_⟩;show⟨(by rw[TZ];omega),?_⟩;show⟨(by simp only[Bk,I,J,TZ];omega),?_⟩;refine⟨(by simp only[Bk,I,J,TZ];omega),?_⟩;exact⟨Ao,q⟩
def Rx(a:An):Sp:=λvs H Q _=>∃(x y:LX),vs=[.ref x.p,.ref y.p]/\x.p≠y.p/\H x.p=some (.ins a.Line x.dx x.fs)/\H y.p=some (.ins a.Line y.dx y.fs) /\
 Q .aa (upd (upd H x.p (.ins a.Line x.dx { x with l:={ x.l with st:="rings",ao:=some y.l.num } }.fs)) y.p (.ins a.Line y.dx { y with l:={ y.l with st:="rung",ao:=some x.l.num } }.fs))
def MX(a:An):Sp:=λvs H Q _=>∃(x:LX)(v:V),vs=[.ref x.p,v]/\H x.p=some (.ins a.Line x.dx x.fs) /\
 Q .aa (upd H x.p (.ins a.Line x.dx (Cf x.l.num x.i x.h "told" x.l.ae x.l.ag (DI x.l.ao) v)))
def Hf:AM ["self","called"] ["self","called"] (Ae<|Ai (top 22) 2):=.of
def Afm(F:AI K "ring" "Line.ring" (Ai (top 22) 2) f fd)(lc:Jq K a.Line):AB P w K mg base Au 1 f fd ["self","called"] (Rx a):=by
 refine F.ok Hf.fs λI A outer s H vs Q E J h=>?_
 .obtain ⟨x,y,rfl,ne,hx,hy,q⟩:=h;refine⟨_,(@Af _ _ _ _ _ (BH (Aa 0 Hf) Ag rfl)
    (Af (BH (Aa 0 Hf) (AE (Aa 1 Hf) rfl) rfl)
    (Af (BH (Aa 1 Hf) Ag rfl)
    (Ak<|BH (Aa 1 Hf) (AE (Aa 0 Hf) rfl) rfl)))),?_⟩
  try dsimp only[av,aw]
  show Bj x.p a.Line x.dx _ rfl hx lc.cls lc.st (UP rfl) ?_;have B:(upd H x.p<|.ins a.Line x.dx (A8 "state" (.str "rings") x.fs)) y.p=some (.ins a.Line y.dx y.fs):=by rw[Aw ne.symm];exact hy
  show AK y.p a.Line y.dx _ _ rfl B lc.cls lc.nu rfl ?_;show Bj x.p a.Line x.dx _ rfl Aq lc.cls lc.fa (UP rfl) ?_;rw[FI];have D:(upd H x.p<|.ins a.Line x.dx (A8 "far_end" (.str y.l.num)<|A8 "state" (.str "rings") x.fs)) y.p=some (.ins a.Line y.dx y.fs):=by rw[Aw ne.symm];exact hy
  show Bj y.p a.Line y.dx _ rfl D lc.cls lc.st (UP rfl) ?_;show AK x.p a.Line x.dx _ _ rfl (by rw[Aw ne];exact Aq) lc.cls lc.nu rfl ?_;show Bj y.p a.Line y.dx _ rfl Aq lc.cls lc.fa (UP rfl) ?_;rw[FI];exact q
def KP:AM ["self","paper"] ["self","paper"] (Ae<|Ai (top 22) 3):=.of
def Afn(F:AI K "be_told" "Line.be_told" (Ai (top 22) 3) f fd)(lc:Jq K a.Line):AB P w K mg base Au 1 f fd ["self","paper"] (MX a):=by
 refine F.ok KP.fs λB A outer s H vs Q E D h=>?_
 .obtain ⟨x,v,rfl,hx,q⟩:=h;refine⟨_,(@Af _ _ _ _ _ (BH (Aa 0 KP) Ag rfl)
    (Ak<|BH (Aa 0 KP) (Aa 1 KP) rfl)),?_⟩
  try dsimp only[av,aw]
  show Bj x.p a.Line x.dx _ rfl hx lc.cls lc.st (UP rfl) ?_;show Bj x.p a.Line x.dx _ rfl Aq lc.cls lc.wh (UP rfl) ?_;rwa[FI]
noncomputable def aE(S:PS)(w:bf)(k:Int):PS :=
 if w=TU "" then { S with sk:={ S.sk with hs:=S.sk.hs.set k.toNat .aa } }
 else { S with az:=S.az.map λg=>if g.pre=w then { g with hs:=g.hs.set k.toNat .aa } else g }
def E8(S:PS)(w:bf)(k:Int):Prop :=
 if w=TU "" then inR k S.sk.hs=true/\S.sk.hs.getD k.toNat .aa≠.aa
 else ∃g∈S.az,g.pre=w/\inR k g.hs=true/\g.hs.getD k.toNat .aa≠.aa
noncomputable def au(S:PS):List (bf×Int)->PS
 |[]=>S
 |t::ts=>au (aE S t.1 t.2) ts
def bA(S:PS):List (bf×Int)->Prop
 |[]=>True
 |t::ts=>E8 S t.1 t.2/\bA (aE S t.1 t.2) ts
theorem MY(x:bf×Int):∀(ts:List (bf×Int))(S:PS),au S (ts++[x])=aE (au S ts) x.1 x.2
 |[],_=>rfl
 |t::ts,S=>MY x ts _
theorem MZ:∀{ts:List (bf×Int)}{S:PS},bA S ts->∀{j:Nat}{x:bf×Int},ts[j]?=some x->E8 (au S (ts.take j)) x.1 x.2
 |[],_,_,j,x,h=>by simp at h
 |t::ts,S,r,0,x,h=>by
  have e:t=x:=by simpa using h
  subst e;exact r.1
 |t::ts,S,r,j+1,x,h=>MZ (S:=aE S t.1 t.2) r.2 (by simpa using h)
theorem FW{α:Type}:∀{l:List α},l.Nodup->∀{i j:Nat}{x y:α},l[i]?=some x->l[j]?=some y->i≠j->x≠y
 |[],_,i,j,x,y,hx,_,_=>by simp at hx
 |z::l,h,0,0,x,y,_,_,ne=>absurd rfl ne
 |z::l,h,0,j+1,x,y,hx,hy,_=>λe=>by
  have hx:z=x:=by simpa using hx
  have hy:l[j]?=some y:=by simpa using hy
  exact(Uu.mp h).1 (by rw[hx,e];exact Ug hy)
 |z::l,h,i+1,0,x,y,hx,hy,_=>λe=>by
  have hy:z=y:=by simpa using hy
  have hx:l[i]?=some x:=by simpa using hx
  exact(Uu.mp h).1 (by rw[hy,<-e];exact Ug hx)
 |z::l,h,i+1,j+1,x,y,hx,hy,ne=>FW (Uu.mp h).2 (by simpa using hx) (by simpa using hy) (by omega)
theorem Ry{α:Type}{f:α->bf}{h:α->α}:∀{l:List α}{i:Nat}{x:α},(l.map f).Nodup->l[i]?=some x->l.set i (h x)=l.map λy=>if f y=f x then h y else y
 |[],_,_,_,e=>by simp at e
 |z::l,0,x,nd,e=>by
  have e:z=x:=by simpa using e
  subst e;have n:=(Uu.mp nd).1;change h z::l=(if f z=f z then h z else z)::l.map _;rw[br rfl];refine congrArg (h z::·) ?_;conv=>lhs;rw[<-Yj l]
  exact Vr λy D=>by rw[cZ (λq=>n (by rw[<-q];exact Uc.mpr ⟨y,D,rfl⟩))];rfl
 |z::l,i+1,x,nd,e=>by
  have B:=Uu.mp nd;have e:l[i]?=some x:=by simpa using e
  change z::l.set i (h x)=(if f z=f x then h z else z)::l.map _;rw[cZ (λq=>B.1 (by rw[q];exact Uc.mpr ⟨x,Ug e,rfl⟩)),Ry B.2 e]
section
variable {K:TH}{a:An}{H H':Hp}{X:HX}{R:Ax}{i:Nat}{x y:LX}{g g':RX}
def HX.oo{g':RX}{h:Gr->Gr}(B:(X.groups.map (·.g.pre)).Nodup)(e:X.groups[i]?=some g)(D:g'.g=h g.g):({ X with groups:=X.groups.set i g' }:HX).S={ X.S with az:=X.S.az.map λy=>if y.pre=g.g.pre then h y else y }:=by
 have I:(X.groups.set i g').map (·.g)=(X.groups.map (·.g)).set i (h g.g):=by rw[U4,D]
 have J:=Ry (f:=λy:Gr=>y.pre) (h:=h) (l:=X.groups.map (·.g)) (i:=i) (x:=g.g) (by rwa[Uq]) (by rw[T6,e];rfl);change(⟨X.long,X.lines.map (·.l),(X.groups.set i g').map (·.g),X.sk.k,X.q,X.dn⟩:PS)=_;rw[I,J];rfl
def HT.sw(t:HT K a H X R)(sc:GA K a a.aL)(gc:FT K a a.aM){w:bf}(m:w=TU ""\/w∈X.groups.map (·.g.pre)) :
  ∃p C B D J hs js ts,Ba X.cx (.inr w)=some (.ref p)/\C∈a.bw/\(∃dx fs,H p=some (.ins C dx fs)/\Fs fs B D J)/\CY K a H p C B D J hs js ts /\
   ((w=TU ""/\X.sk.ra=B/\X.sk.rb=D/\X.sk.k.hs=hs/\X.sk.k.js=js/\X.sk.k.ts=ts)\/∃(i:Nat)(g:RX),X.groups[i]?=some g/\g.g.pre=w/\w≠TU ""/\g.ra=B/\g.rb=D/\g.g.hs=hs/\g.g.js=js/\g.g.ts=ts):=by
 by_cases I:w=TU ""
 .have s:=t.t.jx sc t.ok.sk;obtain⟨dx,L⟩:=s.ins;exact⟨_,a.aL,_,_,_,_,_,_,by rw[I];exact t.ok.kL,sc.c.mem,⟨dx,_,L,KD ..⟩,s.r,.inl ⟨I,rfl,rfl,rfl,rfl,rfl⟩⟩
 .have m:=m.resolve_left I;obtain⟨i,g,h,rfl⟩:=Bv<|Js m;have r:=t.t.ia h gc<|t.ok.gr g (Ug h);exact⟨_,a.aM,_,_,_,_,_,_,t.ok.oi h,gc.mem,r.ins,r,.inr ⟨i,g,h,rfl,I,rfl,rfl,rfl,rfl,rfl⟩⟩
def HT.aa1 (t:HT K a H X R)(B:hs'.length=X.sk.k.hs.length):HT K a (upd H X.sk.ra<|.lst hs') { X with sk:={ X.sk with k:={ X.sk.k with hs:=hs' } } } R:=by have f:=t.t.kK;have o:=t.ok.sk;refine⟨At.swap<|At.set (P:=[_]) f,t.ok.jy (.chg (o:=.lst X.sk.k.hs) (f.get<|by simp[B7]) rfl) ⟨by change _=hs'.length;rw[B];exact o.lj,by change _=hs'.length;rw[B];exact o.lt,by change _=hs'.length;rw[B];exact o.ls,by change _=hs'.length;rw[B];exact o.lw,by change hs'.length<=_;rw[B];exact o.z⟩⟩
def HT.aa2 (t:HT K a H X R)(B:js'.length=X.sk.k.js.length):HT K a (upd H X.sk.rb<|.lst (js'.map V.bl)) { X with sk:={ X.sk with k:={ X.sk.k with js:=js' } } } R:=by have f:=t.t.kK;have o:=t.ok.sk;refine⟨At.swap<|At.set (P:=[_,_]) f,t.ok.jy (.chg (o:=.lst<|X.sk.k.js.map V.bl) (f.get<|by simp[B7]) rfl) ⟨by change js'.length=_;rw[B];exact o.lj,o.lt,o.ls,o.lw,o.z⟩⟩
def HT.aa3 (t:HT K a H X R)(h:X.groups[i]?=some g)(B:hs'.length=g.g.hs.length):HT K a (upd H g.ra<|.lst hs') { X with groups:=X.groups.set i { g with g:={ g.g with hs:=hs' } } } R:=by have f:=t.t.kJ h;have o:=t.ok.gr g<|Ug h;refine⟨At.og (g:=g) rfl rfl h<|At.set (P:=[_]) f,t.ok.setG (.chg (o:=.lst g.g.hs) (f.get<|by simp[BV]) rfl) h rfl ⟨by change _=hs'.length;rw[B];exact o.lj,by change _=hs'.length;rw[B];exact o.lt,by change hs'.length<=_;rw[B];exact o.z⟩⟩
def HT.aa4 (t:HT K a H X R)(h:X.groups[i]?=some g)(B:js'.length=g.g.js.length):HT K a (upd H g.rb<|.lst (js'.map V.bl)) { X with groups:=X.groups.set i { g with g:={ g.g with js:=js' } } } R:=by have f:=t.t.kJ h;have o:=t.ok.gr g<|Ug h;refine⟨At.og (g:=g) rfl rfl h<|At.set (P:=[_,_]) f,t.ok.setG (.chg (o:=.lst<|g.g.js.map V.bl) (f.get<|by simp[BV]) rfl) h rfl ⟨by change js'.length=_;rw[B];exact o.lj,o.lt,o.z⟩⟩
structure Wk(H H':Hp)(X X':HX):Prop where
 h:X'.h=X.h
 tp:Ah H H'
def HT.frees(t:HT K a H X R)(sc:GA K a a.aL)(gc:FT K a a.aM){w:bf}{k:Int}(hw:E8 X.S w k) :
  ∃p C D L I hs js ts,Ba X.cx (.inr w)=some (.ref p)/\C∈a.bw/\(∃dx fs,H p=some (.ins C dx fs)/\Fs fs D L I)/\CY K a H p C D L I hs js ts/\inR k hs=true/\hs.getD k.toNat .aa≠.aa /\
   ∃J:HX,J.S=aE X.S w k/\J.lines=X.lines/\J.h=X.h/\HT K a (upd H D<|.lst (hs.set k.toNat .aa)) J R/\Ah H (upd H D<|.lst (hs.set k.toNat .aa)):=by
 have m:w=TU ""\/w∈X.groups.map (·.g.pre):=by
  unfold E8 at hw;by_cases B:w=TU ""
  .exact .inl B
  .rw[cZ B]at hw;obtain⟨g,mg,e,_⟩:=AG hw;obtain⟨x,O,rfl⟩:=As<|Uc.mp mg;exact .inr<|Uc.mpr ⟨x,O,e⟩
 obtain⟨p,C,D,L,I,hs,js,ts,e1,e2,e3,r,⟨B,rfl,rfl,rfl,rfl,rfl⟩|⟨i,g,h,rfl,B,rfl,rfl,rfl,rfl,rfl⟩⟩:=t.sw sc gc m
 .unfold E8 at hw;rw[br B]at hw;refine⟨p,C,_,_,I,_,_,_,e1,e2,e3,r,hw.1,hw.2,{ X with sk:={ X.sk with k:={ X.sk.k with hs:=X.sk.k.hs.set k.toNat .aa } } },?_,rfl,rfl,t.aa1 (hs':=X.sk.k.hs.set k.toNat .aa)<|by rw[Uo],.chg r.ha rfl⟩;unfold aE;rw[br B];rfl
 .unfold E8 at hw;rw[cZ B]at hw;obtain⟨g2,mg,e,V,Y⟩:=AG hw;obtain⟨x,O,rfl⟩:=As<|Uc.mp mg;obtain⟨j,hj,ej⟩:=V0 O;have bS:X.groups[j]?=some x:=by rw[Uh hj,ej]
  have eg:x=g:=by
   by_cases ij:i=j
   .subst ij;rw[h]at bS;cases bS;rfl
   .exact absurd e.symm (FW t.ok.pre (i:=i) (j:=j) (by rw[T6,h];rfl) (by rw[T6,bS];rfl) ij)
  subst eg;refine⟨p,C,_,_,I,_,_,_,e1,e2,e3,r,V,Y,{ X with groups:=X.groups.set i { x with g:={ x.g with hs:=x.g.hs.set k.toNat .aa } } },?_,rfl,rfl,t.aa3 h (hs':=x.g.hs.set k.toNat .aa)<|by rw[Uo],.chg r.ha rfl⟩;unfold aE;rw[cZ B];exact HX.oo (h:=λy=>{ y with hs:=y.hs.set k.toNat .aa }) t.ok.pre h rfl
end
def Jt(K:TH)(a:An):Sp:=λvs H Q _=>∃(X:HX)(R:Ax)(i:Nat)(x:LX),vs=[.ref X.h,.ref x.p]/\HT K a H X R/\X.lines[i]?=some x/\bA X.S x.l.held /\
 ∀H' X' y,HT K a H' X' R->X'.h=X.h->X'.S={ au X.S x.l.held with lns:=X.S.lns.set i { x.l with held:=[] } }->X'.lines=X.lines.set i y->y.p=x.p->y.l={ x.l with held:=[] }->Ah H H'->Q .aa H'
def Rz(S:PS)(w:bf)(k:Int):(aE S w k).lns=S.lns:=by unfold aE;split<;>rfl
theorem E9:∀(ts:List (bf×Int))(S:PS),(au S ts).lns=S.lns
 |[],_=>rfl
 |t::ts,S=>(E9 ts _).trans (Rz S t.1 t.2)
theorem CA.at:∀{xs:List ar}{ps:List (bf×Int)},CA H xs ps->∀{j:Nat}{x:ar},xs[j]?=some x->∃p,ps[j]?=some p/\H x=some (.tup [.str p.1,.int p.2])
 |[],[],_,j,x,h=>by simp at h
 |[],_::_,h,_,_,_=>h.elim
 |_::_,[],h,_,_,_=>h.elim
 |y::xs,p::ps,h,0,x,e=>by
  have e:y=x:=by simpa using e
  subst e;exact⟨p,rfl,h.1⟩
 |y::xs,p::ps,h,j+1,x,e=>by
  obtain⟨q,B,D⟩:=CA.at h.2 (by simpa using e);exact⟨q,by simpa using B,D⟩
theorem CA.len:∀{xs:List ar}{ps:List (bf×Int)},CA H xs ps->xs.length=ps.length
 |[],[],_=>rfl
 |[],_::_,h=>h.elim
 |_::_,[],h=>h.elim
 |_::_,_::_,h=>congrArg Nat.succ (CA.len h.2)
def TxtH.cy(T:TxtH P w K mg a):∀C∈a.bw,CN K C:=λC m=>by
 have m:C∈[a.aL,a.aM]:=m;simp only[T9,UH,or_false]at m;rcases m with rfl|rfl
 .exact T.sc.c.cls
 .exact T.gc.cls
def FX:AM ["self","line","where","k"] ["self","line"] (Ae<|Ai (top 28) 14):=.of
def Afo(F:AI K "release" "Hall.release" (Ai (top 28) 14) f fd)(T:TxtH P w K mg a)(oq:∀C∈a.bw,AO P w K mg base (AJ P w) 3 C "free" ["self","k"]<|QR K a):AB P w K mg base (AJ P w) 4 f fd ["self","line"] (Jt K a):=by
 refine F.aY FX.fs λaj A outer s H vs Q E hr h=>?_
 .obtain ⟨X,R,i,x,rfl,t,h,ha,q⟩:=h;have cy:=T.cy;have nd:=FX.fs.nd;refine⟨_,(@Af _ _ _ _ _ (CM Z5 rfl (Dw<|AE (Aa 1 FX) rfl) (FK rfl<|B4 (BR 2 FX) (B4 (BR 3 FX) DU))<|Ak (A5<|Mt oq cy (Ap P w K (AE (Aa 0 FX) rfl)<|Aa 2 FX) hr.d BE (Ab (Aa 3 FX) Ac)))
    (Ak<|BH (Aa 1 FX) (CO Ac) rfl)),?_⟩
  try dsimp only[av,aw]
  show AK x.p a.Line x.dx _ _ rfl (t.t.ay h) T.lc.cls T.lc.he rfl ?_;refine Cd x.h rfl ⟨⟨_,.of<|t.t.h8 h⟩,EL (K:=K) (a:=x.h) (xs:=x.hv.map V.ref) (λj σ I=>∃u v B,σ=[some<|.ref X.h,some<|.ref x.p,u,v]/\HT K a I B R/\B.S=au X.S (x.l.held.take j)/\B.lines=X.lines/\B.h=X.h/\Ah H I) ⟨none,none,X,rfl,t,rfl,rfl,rfl,.refl⟩ (λj σ I _ ⟨_,_,B,_,D,_,e2,_⟩=>.of<|D.t.h8 (by rwa[e2])) ?_ ?_⟩
  .intro j v σ I hj zq;replace zq:=F9 zq;obtain⟨u0,v0,B,rfl,D,L,Y,eh,tp⟩:=zq;have J:=(t.ok.lx i x h).ak tp;rw[T6]at hj;obtain⟨pt,hp,rfl⟩:=As<|UG.mp hj;obtain⟨pr,hk,et⟩:=As<|J.pr.at hp;have hw:=MZ ha hk;rw[<-L]at hw;obtain⟨p,C,ra,rb,rc,hs,js,ts,e1,e2,⟨dx,fs,e3,e4⟩,rk,w1,w2,X3,e5,e6,e7,t3,O⟩:=D.frees T.sc T.gc hw;have hX:I X.h=some (.ins a.ah B.dx<|G6 B.long B.ld B.sd B.qa B.da):=by rw[<-eh];exact D.t.aA
   show CQ pt _ rfl (.of et) rfl ?_;show AK X.h a.ah B.dx _ _ rfl hX T.hc.cls T.hc.sw rfl ?_;show⟨B.sd,_,.inr pr.1,_,rfl,rfl,.of D.t.sd,e1,?_⟩;apply Bx p C dx fs rfl e2 e3 (e4.m _<|by decide);show⟨p,pr.2,C,ra,rb,rc,hs,js,ts,rfl,rk,?_⟩;rw[br ⟨w1,w2⟩];ext;have ot:x.l.held.take (j+1)=x.l.held.take j++[pr]:=by rw[VR,hk];rfl
   exact⟨_,_,X3,rfl,t3,by rw[ot,MY,e5,L],e6.trans Y,e7.trans eh,tp.trans O⟩
  .intro σ I zq;replace zq:=F9 zq;obtain⟨u0,v0,B,rfl,D,L,Y,eh,tp⟩:=zq;rw[TN,(t.ok.lx i x h).pr.len,Vn]at L;have h2:B.lines[i]?=some x:=by rwa[Y]
   show⟨Ao,λl nl=>?_⟩;show Bj x.p a.Line x.dx _ rfl (by rw[Aw<|Ce (D.t.ay h2) nl];exact D.t.ay h2) T.lc.cls T.lc.he (UP rfl) ?_;have J:=D.ok.lx i x h2;have O:Ah I (upd (upd I l<|.lst []) x.p<|.ins a.Line x.dx { x with h:=l,hv:=[],l:={ x.l with held:=[] } }.fs):=Ah.trans (.new nl)<|.chg (o:=.ins a.Line x.dx x.fs) (by rw[Aw<|Ce (D.t.ay h2) nl];exact D.t.ay h2) rfl;refine q _ { B with lines:=B.lines.set i { x with h:=l,hv:=[],l:={ x.l with held:=[] } } } { x with h:=l,hv:=[],l:={ x.l with held:=[] } } ⟨At.aa0 (y:={ x with h:=l,hv:=[],l:={ x.l with held:=[] } }) D.t h2 nl rfl rfl rfl rfl rfl,D.ok.bF O h2 rfl ⟨J.i,trivial,Is.ak _ J.wt J.w O,J.wt,by simp⟩⟩ eh ?_ (by rw[Y]) rfl rfl<|tp.trans O;have:({ B with lines:=B.lines.set i { x with h:=l,hv:=[],l:={ x.l with held:=[] } } }:HX).S={ B.S with lns:=B.S.lns.set i { x.l with held:=[] } }:=by change(⟨B.long,(B.lines.set i _).map (·.l),_,_,_,_⟩:PS)=_;rw[U4];rfl
   rw [this,L,E9]
noncomputable def AX(ln:Ln)(st:bf):Ln:={ ln with st:=st,ae:="",ag:=0,ao:=none,why:=.none }
structure BW(K:TH)(H:Hp)(xs:List ar)(ds:List PyData):Prop where
 i:aW K H (xs.map V.ref) ds
 t:bM ds=true
theorem RA:∀{xs ys:List V}{ds es:List PyData},aW K H xs ds->aW K H ys es->aW K H (xs++ys) (ds++es)
 |[],_,_,_,.nil,h=>h
 |_::_,_,_,_,.cons a b,h=>.cons a (RA b h)
theorem RB:∀{xs:List V}{ds:List PyData},aW K H xs ds->xs.length=ds.length
 |[],_,.nil=>rfl
 |_::_,_,.cons _ b=>congrArg Nat.succ (RB b)
theorem RC:∀{ds es:List PyData},bM ds=true->bM es=true->bM (ds++es)=true
 |[],_,_,h=>h
 |d::ds,es,a,h=>by
  have a:(Cm d && bM ds)=true:=a;rw[VD]at a;change(Cm d && bM (ds++es))=true;rw[a.1,RC a.2 h];rfl
section
variable {K:TH}{a:An}{H H':Hp}{X:HX}{R:Ax}{i:Nat}{x y:LX}{xs ys:List ar}{ds es:List PyData}
def BW.ak(t:BW K H xs ds)(s:Ah H H'):BW K H' xs ds:=⟨aW.ak _ t.t t.i s,t.t⟩
def BW.app(t:BW K H xs ds)(u:BW K H ys es):BW K H (xs++ys) (ds++es):=⟨by rw[Ui];exact RA t.i u.i,RC t.t u.t⟩
def BW.nil:BW K H [] []:=⟨.nil,rfl⟩
def BW.one (h:Is K H (.ref b) d)(t:Cm d=true):BW K H [b] [d]:=⟨.cons h .nil,by change(Cm d && true)=true;rw[t];rfl⟩
def BW.len(t:BW K H xs ds):xs.length=ds.length:=by have:=RB t.i;rwa [TN]at this
def HX.ig:({ X with lines:=X.lines.set i y }:HX).S={ X.S with lns:=X.S.lns.set i y.l }:=by change(⟨X.long,(X.lines.set i _).map (·.l),_,_,_,_⟩:PS)=_;rw[U4];rfl
def HT.bF(t:HT K a H X R)(h:X.lines[i]?=some x)(y:LX)(ep:y.p=x.p)(O:y.dx=x.dx)(V:y.h=x.h)(I:y.hv=x.hv)(Y:y.i=x.i)(J:y.l.num=x.l.num)(L:y.l.held=x.l.held)(w:Is K H y.wv y.l.why)(wt:Cm y.l.why=true) :
  HT K a (upd H x.p<|.ins a.Line x.dx y.fs) { X with lines:=X.lines.set i y } R/\Ah H (upd H x.p<|.ins a.Line x.dx y.fs):=by
 have B:Ah H (upd H x.p<|.ins a.Line x.dx y.fs):=.chg (t.t.ay h) rfl;have D:=t.ok.lx i x h;exact⟨⟨t.t.bF h ep O V I J,t.ok.bF B h J ⟨Y.trans D.i,by rw[I,L];exact D.pr.ak B,Is.ak _ wt w B,wt,by rw[L];exact D.aD⟩⟩,B⟩
def HT.turn(t:HT K a H X R)(h:X.lines[i]?=some x)(st:bf) :
  HT K a (upd H x.p<|.ins a.Line x.dx (Cf x.l.num x.i x.h st "" 0 .aa .aa)) { X with lines:=X.lines.set i { x with wv:=.aa,l:=AX x.l st } } R/\Ah H (upd H x.p<|.ins a.Line x.dx (Cf x.l.num x.i x.h st "" 0 .aa .aa)) :=
 t.bF h { x with wv:=.aa,l:=AX x.l st } rfl rfl rfl rfl rfl rfl rfl .aa rfl
def HT.dP(t:HT K a H X R)(B:List bf):HT K a (upd H X.qa<|.lst (B.map V.str)) { X with q:=B } R/\Ah H (upd H X.qa<|.lst (B.map V.str)):=by have D:Ah H (upd H X.qa<|.lst (B.map V.str)):=.chg t.t.q rfl;exact⟨⟨t.t.dP,⟨t.ok.num,t.ok.pre,t.ok.ne,λi x h=>(t.ok.lx i x h).ak D,t.ok.gr,t.ok.sk⟩⟩,D⟩
def At.kN (t:At H (A6 a X ((r,o)::R))):At (upd H r o') (A6 a X ((r,o')::R)):=by unfold A6 at t ⊢;rw[<-Uk,<-Uk,<-Uk]at t ⊢;exact t.set
def HT.kN (t:HT K a H X ((r,o)::R))(k:Jm o=false):HT K a (upd H r o') X ((r,o')::R)/\Ah H (upd H r o'):=by have B:Ah H (upd H r o'):=.chg (t.t.rest.hd) k;exact⟨⟨t.t.kN,t.ok.ak B⟩,B⟩
theorem HT.at (t:HT K a H X R)(h:X.S.lns[i]?=some ln):∃x,X.lines[i]?=some x/\x.l=ln:=by have h:(X.lines.map (·.l))[i]?=some ln:=h;rw[T6]at h;exact UG.mp h
def B3{α:Type}{l:List α}{i:Nat}{x y:α}(h:l[i]?=some x):(l.set i y)[i]?=some y:=WU (UM.mp h).1
end
noncomputable def Fz(S:PS)(i:Nat)(ln:Ln):PS:={ S with lns:=S.lns.set i (AX ln "waits"),q:=S.q++[ln.num] }
def M0(K:TH)(a:An):Sp:=λvs H Q _=>∃(X:HX)(R:Ax)(i:Nat)(x:LX),vs=[.ref X.h,.ref x.p]/\HT K a H X R/\X.lines[i]?=some x/\X.q.length<1000 /\
 ∀H' X' y b,HT K a H' X' R->X'.h=X.h->X'.S=Fz X.S i x.l->X'.lines=X.lines.set i y->y.p=x.p->y.l=AX x.l "waits"->Ah H H'->H' b=some (.tup [.str "waits",.str x.l.num])->Q (.ref b) H'
def Ju:AM ["self","line"] ["self","line"] (Ae<|Ai (top 28) 13):=.of
def Afp(F:AI K "wait" "Hall.wait" (Ai (top 28) 13) f fd)(T:TxtH P w K mg a)(eP:AO P w K mg base Au 1 a.Line "turn" ["self","state"] (HS a)):AB P w K mg base Au 2 f fd ["self","line"] (M0 K a):=by
 refine F.ok Ju.fs λaj A outer s H vs Q E hr h=>?_
 .obtain ⟨X,R,i,x,rfl,t,h,qz,q⟩:=h;have eQ:=T.lc.cls;refine⟨_,(@Af _ _ _ _ _ (A5<|A7 eP eQ (Aa 1 Ju) hr.d AN (Ab Ag Ac))
    (Af (A5<|Cr UZ Vf Vg C9 (AE (Aa 0 Ju) rfl) (Ab (AE (Aa 1 Ju) rfl) Ac))
    (Ak<|AD (Fj<|Ab Ag (Ab (AE (Aa 1 Ju) rfl) Ac))))),?_⟩
  try dsimp only[av,aw]
  show A2 x.p x.dx _ rfl (t.t.ay h) rfl ?_;show ES x.p x.dx x.l.num x.i x.h ("waits") _ rfl ⟨t.t.ay h,.inr ⟨_,_,_,_,_,rfl⟩,?_⟩;obtain⟨D,L⟩:=t.turn h "waits";have O:(X.lines.set i { x with wv:=.aa,l:=AX x.l "waits" })[i]?=some { x with wv:=.aa,l:=AX x.l "waits" }:=B3 h;generalize upd H _ _=B at D L ⊢;have l1:B x.p=some (.ins a.Line x.dx<|Cf x.l.num x.i x.h "waits" "" 0 .aa .aa):=D.t.ay O;have Y:B X.qa=some (.lst<|X.q.map V.str):=D.t.q;show AK X.h a.ah X.dx _ _ rfl D.t.aA T.hc.cls T.hc.qu rfl ?_;refine⟨.inl ⟨rfl,_,.of Y⟩,?_⟩;show AK x.p a.Line x.dx _ _ rfl l1 T.lc.cls T.lc.nu rfl ?_;show CS X.qa _ _ rfl rfl Y (by rw[TN,TZ];omega) ?_;rw[show X.q.map V.str++[V.str x.l.num]=(X.q++[x.l.num]).map V.str by rw[Ui];rfl];obtain⟨I,J⟩:=D.dP<|X.q++[x.l.num];have I:HT K a (upd B X.qa<|.lst ((X.q++[x.l.num]).map V.str)) { X with lines:=X.lines.set i { x with wv:=.aa,l:=AX x.l "waits" },q:=X.q++[x.l.num] } R:=I;have J:Ah B (upd B X.qa<|.lst ((X.q++[x.l.num]).map V.str)):=J;generalize upd B _ _=H2 at I J ⊢;have l2:H2 x.p=some (.ins a.Line x.dx<|Cf x.l.num x.i x.h "waits" "" 0 .aa .aa):=I.t.ay O;show AK x.p a.Line x.dx _ _ rfl l2 T.lc.cls T.lc.nu rfl ?_;show⟨Ao,λb nb=>?_⟩;have s3:=(Aj.refl H2).upd (o:=.tup [.str "waits",.str x.l.num]) nb;refine q _ _ _ b (I.same s3) rfl ?_ rfl rfl rfl (L.trans<|J.trans (.of s3)) Aq;change(⟨X.long,(X.lines.set i _).map (·.l),_,_,_,_⟩:PS)=_;rw[U4];rfl
noncomputable def Bd(lns:List Ln)(z:bf):Nat:=(lns.map (·.num)).idxOf z
def M3 (h:z∈lns.map (·.num)):∃ln,lns[Bd lns z]?=some ln/\ln.num=z:=by have e:=L8 h;rw[T6]at e;obtain⟨ln,B,D⟩:=As<|UG.mp e;exact⟨ln,B,D⟩
noncomputable def bG(s:Sk)(k:Int)(i:Nat):Sk:={ s with hs:=s.hs.set k.toNat (.int i),ts:=s.ts.set k.toNat (s.ts.getD k.toNat 0+1),mark:=(k+1)%s.hs.length,st:=s.st.set k.toNat i,wt:=s.wt.set k.toNat (s.wt.getD k.toNat 0+((i:Int)-s.st.getD k.toNat 0)%s.places) }
noncomputable def Ei(S:PS):Option (PyData×PS):=match S.q with
 |[]=>none
 |z::r=>match Ct S.sk.hs S.sk.js S.sk.mark with
  |none=>none
  |some k=>match S.lns[Bd S.lns z]? with
   |none=>none
   |some ln=>some (.tuple [.str "tone",.str z,.int k,.int (((Bd S.lns z:Int)-S.sk.st.getD k.toNat 0)%S.sk.places)],{ S with q:=r,lns:=S.lns.set (Bd S.lns z) { AX ln "dials" with held:=ln.held++[((TU ""),k)] },sk:=bG S.sk k (Bd S.lns z) })
noncomputable def aP:Nat->PS->List PyData×PS
 |0,S=>([],S)
 |n+1,S=>match Ei S with
  |none=>([],S)
  |some x=>(x.1::(aP n x.2).1,(aP n x.2).2)
noncomputable def Cv(S:PS):List PyData×PS:=aP S.q.length S
structure Ej(S:PS):Prop where
 nd:S.q.Nodup
 ln:∀z∈S.q,∃ln∈S.lns,ln.num=z/\ln.held=[]
 num:(S.lns.map (·.num)).Nodup
 m0:0<=S.sk.mark
 m1:S.sk.mark<=S.sk.hs.length
 pl:0<S.sk.places
 aD:S.q.length<=100
def FY{lns:List Ln}(B:(lns.map (·.num)).Nodup){i j:Nat}{x y:Ln}(D:lns[i]?=some x)(h2:lns[j]?=some y)(ne:i≠j):x.num≠y.num :=
 FW B (i:=i) (j:=j) (by rw[T6,D];rfl) (by rw[T6,h2];rfl) ne
def KQ (B:(lns.map (·.num)).Nodup)(h:lns[i]?=some ln):Bd lns ln.num=i:=by
 obtain⟨D,f1,f2⟩:=As<|M3 (lns:=lns) (z:=ln.num) (Uc.mpr ⟨ln,Ug h,rfl⟩);by_cases e:Bd lns ln.num=i
 .exact e
 .exact absurd f2 (FY B f1 h e)
def Ej.idx (h:Ej S)(m:z∈S.q):∃ln,S.lns[Bd S.lns z]?=some ln/\ln.num=z/\ln.held=[]:=by
 obtain⟨B,I,m2,J⟩:=AG<|h.ln z m;obtain⟨j,L,O⟩:=V0 I;have D:S.lns[j]?=some B:=by rw[Uh L,O]
 exact⟨B,by rwa[<-m2,KQ h.num D],m2,J⟩
def M4 (q:Ej S)(e:Ei S=some x):∃z r k ln,S.q=z::r/\Ct S.sk.hs S.sk.js S.sk.mark=some k/\S.lns[Bd S.lns z]?=some ln/\ln.num=z/\ln.held=[] /\
  x=(.tuple [.str "tone",.str z,.int k,.int<|((Bd S.lns z:Int)-S.sk.st.getD k.toNat 0)%S.sk.places],{ S with q:=r,lns:=S.lns.set (Bd S.lns z) { AX ln "dials" with held:=ln.held++[((TU ""),k)] },sk:=bG S.sk k (Bd S.lns z) }):=by
 unfold Ei at e;cases eq:S.q with
 |nil=>rw[eq]at e;cases e
 |cons z r =>
  rw [eq]at e;dsimp only at e;cases ef:Ct S.sk.hs S.sk.js S.sk.mark with
  |none=>rw[ef]at e;cases e
  |some k =>
   rw [ef]at e;dsimp only at e;obtain⟨ln,B,D,I⟩:=AG<|q.idx (z:=z) (by rw[eq];simp);rw[B]at e;exact⟨z,r,k,ln,rfl,rfl,B,D,I,(Us e).symm⟩
def RD (B:S.q=z::r)(D:Ct S.sk.hs S.sk.js S.sk.mark=some k)(I:S.lns[Bd S.lns z]?=some ln):Ei S=some (.tuple [.str "tone",.str z,.int k,.int<|((Bd S.lns z:Int)-S.sk.st.getD k.toNat 0)%S.sk.places],{ S with q:=r,lns:=S.lns.set (Bd S.lns z) { AX ln "dials" with held:=ln.held++[((TU ""),k)] },sk:=bG S.sk k (Bd S.lns z) }):=by unfold Ei;rw[B];dsimp only;rw[D];dsimp only;rw[I]
def RE{α:Type}{l:List α}{i j:Nat}{x y:α}(h:i<l.length):(l.set i x)[j]?=some y↔(i=j/\x=y)\/(i≠j/\l[j]?=some y):=by
 rw [yc];by_cases e:i=j
 .subst e;rw[br rfl,br h];exact⟨λz=>.inl ⟨rfl,Us z⟩,λz=>z.elim (λw=>by rw[w.2]) λw=>absurd rfl w.1⟩
 .rw[cZ e];exact⟨λz=>.inr ⟨e,z⟩,λz=>z.elim (λw=>absurd w.1 e) λw=>w.2⟩
def Ej.next (h:Ej S)(e:Ei S=some x):Ej x.2/\x.2.q.length+1=S.q.length:=by
 obtain⟨z,r,k,ln,B,V,D,Y,e5,rfl⟩:=Im<|M4 h e;obtain⟨⟨k0,k1⟩,_⟩:=Gz h.m0 h.m1 V;have I:=h.nd;rw[B]at I;obtain⟨zr,ou⟩:=Uu.mp I;have fw:=h.aD;rw[B,U2]at fw;have il:=(UM.mp D).1;refine⟨⟨ou,λy J=>?_,?_,V2 _<|by omega,?_,h.pl,by change r.length<=100;omega⟩,by rw[B];simp⟩
 .obtain ⟨L,m1,m2,m3⟩:=h.ln y (by rw[B];exact Uy _ J);obtain⟨j,hj,ej⟩:=V0 m1;have O:S.lns[j]?=some L:=by rw[Uh hj,ej]
  refine⟨L,Ug (i:=j)<|(RE il).mpr (.inr ⟨λd=>?_,O⟩),m2,m3⟩;rw[d,O]at D;cases D;exact zr<|by rwa[<-Y,m2]
 .show ((S.lns.set _ _).map _).Nodup;rw[Fy (f:=λx:Ln=>x.num) (y:={ AX ln "dials" with held:=ln.held++[((TU ""),k)] }) D rfl];exact h.num
 .show (k+1)%(S.sk.hs.length:Int)<=((S.sk.hs.set k.toNat _).length:Nat);rw[Uo];exact YX<|V3 _ (by omega)
def RF(K:TH)(a:An):Sp:=λvs H Q _=>∃(X:HX)(R:Ax),vs=[.ref X.h]/\HT K a H X R/\Ej X.S /\
 ∀H' X' r xs,X'.h=X.h->X'.S=(Cv X.S).2->HT K a H' X' ((r,.lst (xs.map V.ref))::R)->Ah H H'->BW K H' xs (Cv X.S).1->Q (.ref r) H'
def HT.seek{H B:Hp}{X:HX}{R:Ax}(t:HT K a H X R){k:Int}{i:Nat}(hk:0<=k/\k<X.sk.k.hs.length)(s:CH [X.sk.p,X.sk.ra,X.sk.rc,X.sk.rs,X.sk.rw] H B)(e:EZ K a B X.sk.p a.aL X.sk.ra X.sk.rb X.sk.rc X.sk.rs X.sk.rw (bG X.sk.k k i).hs (bG X.sk.k k i).js (bG X.sk.k k i).ts (bG X.sk.k k i).places (bG X.sk.k k i).mark (bG X.sk.k k i).st (bG X.sk.k k i).wt) :
  ∃dx',HT K a B { X with sk:={ X.sk with k:=bG X.sk.k k i,dx:=dx' } } R/\Ah H B:=by
 obtain⟨dx,I⟩:=e.ins;obtain⟨u,D⟩:=t.t.jy (k':=bG X.sk.k k i) (dx':=dx) s (λw m=>by simp only[T9,UH,or_false]at m;rcases m with z|z|z|z|z<;>simp[B7,z]) I e.ha e.hb e.hc e.gj e.hw;exact⟨dx,⟨u,t.ok.jy D ⟨e.lj,e.lt,e.ls,e.lw,e.z⟩⟩,D⟩
def HT.kI (t:HT K a H X R)(h:X.lines[i]?=some x)(e:H u=some (.tup [.str D,.int k]))(O:x.l.held.length<=9):
  HT K a (upd H x.h<|.lst (x.hv.map V.ref++[V.ref u])) { X with lines:=X.lines.set i { x with hv:=x.hv++[u],l:={ x.l with held:=x.l.held++[(D,k)] } } } R/\Ah H (upd H x.h<|.lst (x.hv.map V.ref++[V.ref u])):=by
 have I:Ah H (upd H x.h<|.lst (x.hv.map V.ref++[V.ref u])):=.chg (t.t.h8 h) rfl;have J:=(t.ok.lx i x h).ak I;have B:∀{L:List ar}{B:List (bf×Int)}{H:Hp},CA H L B->H u=some (.tup [.str D,.int k])->CA H (L++[u]) (B++[(D,k)]):=λ{L}=>by
  induction L with
  |nil=>intro B H h e;cases B with|nil=>exact⟨e,trivial⟩|cons _ _=>exact h.elim
  |cons y ys ih=>intro B H h e;cases B with|nil=>exact h.elim|cons _ _=>exact⟨h.1,ih h.2 e⟩
 exact⟨⟨At.kI (y:={ x with hv:=x.hv++[u],l:={ x.l with held:=x.l.held++[(D,k)] } }) t.t h rfl rfl rfl rfl rfl rfl,t.ok.bF I h rfl ⟨J.i,B J.pr<|I.t e,J.w,J.wt,by change(x.l.held++[_]).length<=10;rw[UK,Ve];omega⟩⟩,I⟩
def Cw:AM ["self","told","line","taken","k","steps"] ["self"] (Ae<|Ai (top 28) 15):=.of
def RG:Gm (Ae<|Ai (top 28) 15) "AT_SEEKERS":=.of
def Afq(F:AI K "tones" "Hall.tones" (Ai (top 28) 15) f fd)(T:TxtH P w K mg a)(eP:AO P w K mg base Au 1 a.Line "turn" ["self","state"] (HS a))(ox:AO P w K mg base Au 2 a.aL "take" ["self","place"] (Q7 K a)):AB P w K mg base Au 3 f fd ["self"] (RF K a):=by
 refine F.ok Cw.fs λaj A outer s H vs Q E hr h=>?_
 .obtain ⟨X0,R,rfl,t0,tO,q⟩:=h;have eQ:=T.lc.cls;have oy:=T.sc.c.cls;have hu:=hr.units;have nd:=Cw.fs.nd;refine⟨_,(@Af _ _ _ _ _ (A4 1 Cw<|CO Ac)
    (Af (OD U6 (AaX (AE (Aa 0 Cw) rfl)<|by intro _;rfl) (Af (A4 2 Cw<|Ap P w K (AE (Aa 0 Cw) rfl) (AY AZ (AE (Aa 0 Cw) rfl) Am λ_ _=>rfl))
     (Af (A4 3 Cw<|A7 ox oy (Ap P w K (AE (Aa 0 Cw) rfl)<|HN RG T.ic) hr.d AN (Ab (AE (Aa 2 Cw) rfl) Ac))
     (Af (AR (AL Gh (Aa 3 Cw) Cq<|AW _) (Ak<|AD (Aa 1 Cw)) AV)
     (Af (Et (Aa 3 Cw)<|FK rfl (B4 (BR 4 Cw)<|B4 (BR 5 Cw) DU))
     (Af (A5<|Cr UZ yd ye Po (AE (Aa 0 Cw) rfl) (Ab Am Ac))
     (Af (A5<|A7 eP eQ (Aa 2 Cw) hr.d AN (Ab Ag Ac))
     (Af (A5<|Cr UZ Vf Vg C9 (AE (Aa 2 Cw) rfl) (Ab (Fj<|Ab (HN RG T.ic) (Ab (Aa 4 Cw) Ac)) Ac))
     (Ak<|A5 (Cr UZ Vf Vg C9 (Aa 1 Cw)<|Ab (Fj<|Ab Ag (Ab (AE (Aa 2 Cw) rfl)<|Ab (Aa 4 Cw) (Ab (Aa 5 Cw) Ac))) Ac))))))))))
    (Ak<|AD (Aa 1 Cw)))),?_⟩
  try dsimp only[av,aw]
  have bb:start ["self","told","line","taken","k","steps"] [V.ref X0.h]=[some<|.ref X0.h,none,none,none,none,none]:=rfl;simp only[bb,VE,VF];show⟨Ao,λr nr=>?_⟩;have t1:=t0.new (u:=.lst<|([]:List ar).map V.ref) nr;have p1:Ah H (upd H r<|.lst []):=.new nr;change HT K a (upd H r<|.lst []) X0 _ at t1;generalize upd H _ _=H1 at t1 p1 ⊢;show⟨λm σ Y=>∃x2 x3 x4 x5 B D ds,σ=[some<|.ref X0.h,some<|.ref r,x2,x3,x4,x5]/\B.h=X0.h/\HT K a Y B ((r,.lst<|D.map V.ref)::R)/\Ej B.S/\Ah H Y/\BW K Y D ds/\m=B.q.length/\D.length+m<=100/\Cv X0.S=(ds++(aP m B.S).1,(aP m B.S).2),⟨X0.q.length,none,none,none,none,X0,[],[],rfl,rfl,t1,tO,p1,.nil,rfl,(by have:=tO.aD;change 0+X0.S.q.length<=_;omega),by rw[YC];rfl⟩,?_⟩;intro m σ Y zq;obtain⟨x2,x3,x4,x5,B,D,ds,rfl,eh,I,gp,oA,gq,rfl,eF,L⟩:=zq;have hX:Y X0.h=some (.ins a.ah B.dx<|G6 B.long B.ld B.sd B.qa B.da):=by rw[<-eh];exact I.t.aA
  show AK X0.h a.ah B.dx _ _ rfl hX T.hc.cls T.hc.qu rfl ?_;refine⟨_,.inl ⟨_,.of I.t.q,rfl⟩,?_⟩;cases eq:B.q with
  |nil =>
   have e0:Cv X0.S=(ds,B.S):=by rw[L,eq];change(ds++[],B.S)=_;rw[Vi]
   apply BN;ext;exact q Y B r D eh (by rw[e0]) I oA<|by rwa[e0]
  |cons z J =>
   apply B6;rw[eq]at L eF;have oB:B.S.q=z::J:=eq;obtain⟨ln,i1,i2,i3⟩:=AG<|gp.idx (z:=z) (by rw[oB];simp);generalize hi:Bd B.S.lns z=i at i1;obtain⟨x,hx,rfl⟩:=As<|I.at i1;have hv:=I.ok.line hx;rw[i2]at hv;have lx:=I.ok.lx i x hx;have qa0:Cb (B.q.map V.str) 0=some (.str z):=Fm (j:=0) (by rw[eq];rfl);have sk:=I.t.jx T.sc I.ok.sk;obtain⟨oC,se⟩:=sk.ins;refine⟨λσ' H'=>∃m',m'<J.length+1/\∃x2 x3 x4 x5 B D ds,σ'=[some<|.ref X0.h,some<|.ref r,x2,x3,x4,x5]/\B.h=X0.h/\HT K a H' B ((r,.lst<|D.map V.ref)::R)/\Ej B.S/\Ah H H'/\BW K H' D ds/\m'=B.q.length/\D.length+m'<=100/\Cv X0.S=(ds++(aP m' B.S).1,(aP m' B.S).2),λσ' H' h=>h,?_⟩;show AK X0.h a.ah B.dx _ _ rfl hX T.hc.cls T.hc.li rfl ?_;show AK X0.h a.ah B.dx _ _ rfl hX T.hc.cls T.hc.qu rfl ?_;show T2 (Cc (.of I.t.q) qa0 ?_);apply Bx B.ld _ (.inr z) _ rfl rfl (.of I.t.ld) hv;show AK X0.h a.ah B.dx _ _ rfl hX T.hc.cls T.hc.sw rfl ?_;show Bx B.sd _ (.inr "") _ rfl rfl (.of I.t.sd) I.ok.kL ?_;show A2 B.sk.p oC _ rfl se rfl ?_;show AK x.p a.Line x.dx _ _ rfl (I.t.ay hx) T.lc.cls T.lc.pl rfl ?_;show⟨B.sk.p,a.aL,B.sk.ra,B.sk.rb,B.sk.rc,B.sk.rs,B.sk.rw,B.sk.k.hs,B.sk.k.js,B.sk.k.ts,B.sk.k.places,B.sk.k.mark,B.sk.k.st,B.sk.k.wt,x.i,rfl,sk,gp.m0,gp.m1,gp.pl,?_⟩;cases ef:Ct B.sk.k.hs B.sk.k.js B.sk.k.mark with
   |none =>
    intro H3 s3;have et:Ei B.S=none:=by unfold Ei;rw[oB];dsimp only;rw[show Ct B.S.sk.hs B.S.sk.js B.S.sk.mark=none from ef]
    have e0:Cv X0.S=(ds,B.S):=by rw[L];change(ds++(aP (J.length+1) B.S).1,(aP (J.length+1) B.S).2)=_;unfold aP;rw[et];dsimp only;rw[Vi]
    ext;exact q H3 B r D eh (by rw[e0]) (I.same s3) (oA.trans<|.of s3)<|by rw[e0];exact gq.ak<|.of s3
   |some k =>
    rw [lx.i];intro H3 tk sx ntk fT aa5;obtain⟨hk,_⟩:=Gz gp.m0 gp.m1 ef;have et:=RD (ln:=x.l) oB ef (by rwa[hi]);rw[hi]at et;have ok3:=(gp.next et).1;have fT:H3 tk=some (.tup [.int k,.int<|((i:Int)-B.S.sk.st.getD k.toNat 0)%B.S.sk.places]):=fT;generalize ((i:Int)-B.S.sk.st.getD k.toNat 0)%B.S.sk.places=step at fT et;obtain⟨oE,t3,p3⟩:=As<|I.seek hk sx aa5;have hX3:H3 X0.h=some (.ins a.ah B.dx<|G6 B.long B.ld B.sd B.qa B.da):=by rw[<-eh];exact t3.t.aA
    have q3:H3 B.qa=some (.lst<|B.q.map V.str):=t3.t.q;show CQ tk _ rfl (.of fT) rfl ?_;show AK X0.h a.ah B.dx _ _ rfl hX3 T.hc.cls T.hc.qu rfl ?_;refine⟨.inl ⟨rfl,_,.of q3⟩,?_⟩;show Dz B.qa _ 0 0 (.str z) rfl ⟨rfl,q3,(by decide),(by decide),(by rw[eq,UR,U2];unfold XA;simp),(by rw[eq];rfl),?_⟩;rw[show(B.q.map V.str).eraseIdx 0=J.map V.str by rw[eq];rfl];obtain⟨t4,p4⟩:=t3.dP J;generalize jB:upd H3 B.qa (.lst<|J.map V.str)=H4 at t4 p4 ⊢;clear jB
    have l4:=t4.t.ay hx;show A2 x.p x.dx _ rfl l4 rfl ?_;show ES x.p x.dx x.l.num x.i x.h ("dials") _ rfl ⟨l4,.inr ⟨_,_,_,_,_,rfl⟩,?_⟩;obtain⟨t5,p5⟩:=t4.turn hx "dials";have h5:(B.lines.set i { x with wv:=.aa,l:=AX x.l "dials" })[i]?=some { x with wv:=.aa,l:=AX x.l "dials" }:=B3 hx;generalize upd H4 _ _=H5 at t5 p5 ⊢;have l5:H5 x.p=some (.ins a.Line x.dx<|Cf x.l.num x.i x.h "dials" "" 0 .aa .aa):=(by have z:=t5.t.ay h5;exact z);have tP:H5 x.h=some (.lst<|x.hv.map V.ref):=(by have z:=t5.t.h8 h5;exact z);have hv0:x.hv.length=0:=by rw[lx.pr.len,i3];rfl
    show AK x.p a.Line x.dx _ _ rfl l5 T.lc.cls T.lc.he rfl ?_;refine⟨.inl ⟨rfl,_,.of tP⟩,?_⟩;show⟨Ao,λu nu=>?_⟩;have s6:=(Aj.refl H5).upd (o:=.tup [.str "",.int k]) nu;have e6:(upd H5 u<|.tup [.str "",.int k]) u=some (.tup [.str "",.int k]):=Aq;generalize upd H5 _ _=H6 at s6 e6 ⊢;have t6:=t5.same s6;show CS x.h _ _ rfl rfl (s6 _ _ tP) (by rw[TN,hv0,TZ];decide) ?_;obtain⟨O,p7⟩:=t6.kI h5 e6 (by change x.l.held.length<=9;rw[i3];decide);have h7:((B.lines.set i { x with wv:=.aa,l:=AX x.l "dials" }).set i { x with wv:=.aa,hv:=x.hv++[u],l:={ AX x.l "dials" with held:=x.l.held++[(TU "",k)] } })[i]?=some { x with wv:=.aa,hv:=x.hv++[u],l:={ AX x.l "dials" with held:=x.l.held++[(TU "",k)] } }:=B3 h5;have O:HT K a (upd H6 x.h<|.lst (x.hv.map V.ref++[V.ref u])) { B with sk:={ B.sk with k:=bG B.sk.k k i,dx:=oE },q:=J,lines:=(B.lines.set i { x with wv:=.aa,l:=AX x.l "dials" }).set i { x with wv:=.aa,hv:=x.hv++[u],l:={ AX x.l "dials" with held:=x.l.held++[(TU "",k)] } } } ((r,.lst<|D.map V.ref)::R):=O;have p7:Ah H6 (upd H6 x.h<|.lst (x.hv.map V.ref++[V.ref u])):=p7;generalize upd H6 _ _=H7 at O p7 ⊢;have l7:H7 x.p=some (.ins a.Line x.dx<|Cf x.l.num x.i x.h "dials" "" 0 .aa .aa):=(by have z:=O.t.ay h7;exact z);have jC:H7 r=some (.lst<|D.map V.ref):=O.t.rest.hd;obtain⟨X9,O,eS,ik,eq9⟩:∃X9:HX,HT K a H7 X9 ((r,.lst<|D.map V.ref)::R)/\X9.S={ B.S with q:=J,lns:=B.S.lns.set i { AX x.l "dials" with held:=x.l.held++[((TU ""),k)] },sk:=bG B.S.sk k i }/\X9.h=B.h/\X9.q=J:=by refine⟨_,O,?_,rfl,rfl⟩;change(⟨B.long,((B.lines.set i _).set i _).map (·.l),_,_,_,_⟩:PS)=⟨B.long,(B.lines.map (·.l)).set i _,_,_,_,_⟩;rw[U9,U4];rfl
    show⟨.inl ⟨rfl,_,.of jC⟩,?_⟩;show AK x.p a.Line x.dx _ _ rfl l7 T.lc.cls T.lc.nu rfl ?_;show⟨Ao,λv nv=>?_⟩;have s8:=(Aj.refl H7).upd (o:=.tup [.str "tone",.str x.l.num,.int k,.int step]) nv;have e8:(upd H7 v<|.tup [.str "tone",.str x.l.num,.int k,.int step]) v=some (.tup [.str "tone",.str x.l.num,.int k,.int step]):=Aq;generalize upd H7 _ _=H8 at s8 e8 ⊢;have t8:=O.same s8;show CS r _ _ rfl rfl (s8 _ _ jC) (by rw[TN,TZ];rw[U2]at eF;omega) ?_;obtain⟨t9,p9⟩:=t8.kN (o':=.lst<|(D++[v]).map V.ref) rfl;have er:(D.map V.ref++[V.ref v])=(D++[v]).map V.ref:=by rw[Ui];rfl
    rw [er];have tQ:Ah Y (upd H8 r<|.lst ((D++[v]).map V.ref)):=p3.trans<|p4.trans (p5.trans<|(Ah.of s6).trans (p7.trans<|(Ah.of s8).trans p9));have kO:BW K (upd H8 r<|.lst ((D++[v]).map V.ref)) (D++[v]) (ds++[.tuple [.str "tone",.str z,.int k,.int step]]):=(gq.ak tQ).app<|.one (.tup (.of<|p9.t e8)<|.cons (.str _) (.cons (by rw[i2];exact .str _)<|.cons (.int _) (.cons (.int _) .nil))) rfl;refine  ⟨J.length,Xx _,_,_,_,_,X9,D++[v],_,rfl,ik.trans eh,t9,by rwa[eS],oA.trans tQ,kO,by rw[eq9],(by rw[UK,Ve];rw[U2]at eF;omega),?_⟩;rw[L];change(ds++(aP (J.length+1) B.S).1,(aP (J.length+1) B.S).2)=_;have jD:∀n,aP (n+1) B.S=_:=λn=>by unfold aP;rw[et]
    rw [jD,Uk,eS];rfl
noncomputable def Cy(S:PS)(i:Nat)(ln:Ln):PS:={ au S ln.held with lns:=S.lns.set i { ln with held:=[] } }
noncomputable def BF(S:PS)(j:Nat)(lo:Ln):PyData×PS :=
 if lo.st="talks" then(.tuple [.str "waits",.str lo.num],Fz (Cy S j lo) j { lo with held:=[] })
 else(.tuple [.str "quiet",.str lo.num],{ Cy S j lo with lns:=S.lns.set j (AX { lo with held:=[] } "rests") })
def RH(K:TH)(a:An):Sp:=λvs H Q _=>∃(X:HX)(R:Ax)(j:Nat)(y:LX),vs=[.ref X.h,.ref y.p]/\HT K a H X R/\X.lines[j]?=some y/\bA X.S y.l.held/\X.q.length<1000 /\
 ∀H' X' b z,HT K a H' X' R->X'.h=X.h->X'.S=(BF X.S j y.l).2->X'.lines=X.lines.set j z->z.p=y.p->Ah H H'->Is K H' (.ref b) (BF X.S j y.l).1->Q (.ref b) H'
def Afr(S:PS)(w:bf)(k:Int):(aE S w k).q=S.q:=by unfold aE;split<;>rfl
theorem Fb:∀(ts:List (bf×Int))(S:PS),(au S ts).q=S.q
 |[],_=>rfl
 |t::ts,S=>(Fb ts _).trans (Afr S t.1 t.2)
def GB:AM ["self","other"] ["self","other"] (Ae<|Ai (top 28) 12):=.of
def Afs(F:AI K "left_alone" "Hall.left_alone" (Ai (top 28) 12) f fd)(T:TxtH P w K mg a)(eP:AO P w K mg base Au 1 a.Line "turn" ["self","state"] (HS a))(gu:AO P w K mg base (AJ P w) 4 a.ah "release" ["self","line"] (Jt K a))(oF:AO P w K mg base Au 2 a.ah "wait" ["self","line"] (M0 K a)):AB P w K mg base (AJ P w) 5 f fd ["self","other"] (RH K a):=by
 refine F.aY GB.fs λaj A outer s H vs Q E Y h=>?_
 .obtain ⟨X,R,j,y,rfl,t,h,hd,qz,q⟩:=h;have eQ:=T.lc.cls;have gv:=T.hc.cls;have oG:=T.hc.cls;have hu:=Y.units;refine⟨_,(@Af _ _ _ _ _ (A5<|A7 gu gv (Aa 0 GB) Y.d BE (Ab (Aa 1 GB) Ac))
    (Af (AR (AL (B2 hu) (AE (Aa 1 GB) rfl) Ag<|AW _) (Ak<|AD (A7 oF oG (Aa 0 GB) Y.d AN<|Ab (Aa 1 GB) Ac)) AV)
    (Af (A5<|A7 eP eQ (Aa 1 GB) Y.d AN (Ab Ag Ac))
    (Ak<|AD (Fj<|Ab Ag (Ab (AE (Aa 1 GB) rfl) Ac)))))),?_⟩
  try dsimp only[av,aw]
  show A2 X.h X.dx _ rfl t.t.aA rfl ?_;show Bx X R j y rfl t h hd (λH1 D B I eR eT fF dQ cS p1=>?_);have J:D.lines[j]?=some B:=by rw[fF];exact B3 h
  have est:B.l.st=y.l.st:=by rw[cS]
  have iq:B.l.num=y.l.num:=by rw[cS]
  rw [<-dQ,<-eR];show AK B.p a.Line B.dx _ _ rfl (I.t.ay J) T.lc.cls T.lc.st rfl ?_;ext;rw[est];by_cases ht:y.l.st="talks"
  .rw[ht];show A2 D.h D.dx _ rfl I.t.aA rfl ?_;ext;have qz1:D.q.length<1000:=by
    have:D.S.q=X.q:=by rw[eT];exact Fb ..
    rwa[show D.q=D.S.q from rfl,this]
   refine Bx D R j B rfl I J qz1 λH2 X2 y2 b L de cK oH jg el2 p2 eb=>?_;have O:BF X.S j y.l=(.tuple [.str "waits",.str y.l.num],Fz (Cy X.S j y.l) j { y.l with held:=[] }):=br ht;refine q H2 X2 b y2 L (de.trans eR) ?_ (by rw[oH,fF,U9]) (jg.trans dQ) (p1.trans p2) ?_
   .rw[O,cK,eT,cS];rfl
   .rw[O];exact .tup (.of eb)<|.cons (.str _) (.cons (by rw[iq];exact .str _) .nil)
  .rw[dJ λz=>ht<|V.str.inj z];show A2 B.p B.dx _ rfl (I.t.ay J) rfl ?_;show ES B.p B.dx B.l.num B.i B.h ("rests") _ rfl ⟨I.t.ay J,.inr ⟨_,_,_,_,_,rfl⟩,?_⟩;obtain⟨L,p2⟩:=I.turn J "rests";have h2:(D.lines.set j { B with wv:=.aa,l:=AX B.l "rests" })[j]?=some { B with wv:=.aa,l:=AX B.l "rests" }:=B3 J;generalize upd H1 _ _=H2 at L p2 ⊢;have l2:H2 B.p=some (.ins a.Line B.dx<|Cf B.l.num B.i B.h "rests" "" 0 .aa .aa):=by have z:=L.t.ay h2;exact z
   show AK B.p a.Line B.dx _ _ rfl l2 T.lc.cls T.lc.nu rfl ?_;show⟨Ao,λb nb=>?_⟩;have s3:=(Aj.refl H2).upd (o:=.tup [.str "quiet",.str B.l.num]) nb;have O:BF X.S j y.l=(.tuple [.str "quiet",.str y.l.num],{ Cy X.S j y.l with lns:=X.S.lns.set j (AX { y.l with held:=[] } "rests") }):=cZ ht;refine q _ _ b { B with wv:=.aa,l:=AX B.l "rests" } (L.same s3) eR ?_ (by change D.lines.set j _=_;rw[fF,U9]) dQ (p1.trans<|p2.trans (.of s3)) ?_
   .rw[O];have:=HX.ig (X:=D) (i:=j) (y:={ B with wv:=.aa,l:=AX B.l "rests" });rw[this,eT,cS];change({ Cy X.S j y.l with lns:=(X.S.lns.set j { y.l with held:=[] }).set j (AX { y.l with held:=[] } "rests") }:PS)=_;rw[U9]
   .rw[O];exact .tup (.of Aq)<|.cons (.str _) (.cons (by rw[iq];exact .str _) .nil)
def M5 (h:∀C:St->Hp->Prop,C=(λσ' B=>t D σ' B)->s { D with nx:=C } σ H):LB s t D σ H:=h _ rfl
noncomputable def CB(S:PS)(i:Nat)(ln:Ln):PyData×PS :=
 if ln.st="rests" then(.tuple [.str "waits",.str ln.num],Fz S i ln)
 else match ln.ao with
  |none=>(.none,S)
  |some z=>match S.lns[Bd S.lns z]? with
   |none=>(.none,S)
   |some lc=>(.tuple [.str "talks",.str lc.num,.str ln.num],{ S with lns:=(S.lns.set (Bd S.lns z) { lc with st:="talks" }).set i { ln with st:="talks" } })
def M6(S:PS)(i:Nat)(ln:Ln):Prop:=ln.st="rests"\/(ln.st≠"rests"/\∃(j:Nat)(lc:Ln),ln.ao=some lc.num/\S.lns[j]?=some lc/\j≠i)
def RI(K:TH)(a:An):Sp:=λvs H Q _=>∃(X:HX)(R:Ax)(i:Nat)(x:LX),vs=[.ref X.h,.ref x.p]/\HT K a H X R/\X.lines[i]?=some x/\X.q.length<1000/\M6 X.S i x.l /\
 ∀H' X' r b,HT K a H' X' ((r,.lst [.ref b])::R)->X'.h=X.h->X'.S=(CB X.S i x.l).2->Ah H H'->Is K H' (.ref b) (CB X.S i x.l).1->Q (.ref r) H'
noncomputable def aB(S:PS)(ln:Ln):PS:=if ln.st="waits" then { S with q:=S.q.erase ln.num } else S
noncomputable def CC(S:PS)(ln:Ln):List PyData×PS:=match ln.ao with
 |none=>([],S)
 |some z=>match S.lns[Bd S.lns z]? with
  |none=>([],S)
  |some lo=>([(BF S (Bd S.lns z) lo).1],(BF S (Bd S.lns z) lo).2)
noncomputable def bp(S:PS)(i:Nat)(ln:Ln):PS:={ Cy S i ln with lns:=S.lns.set i (AX { ln with held:=[] } "rests") }
noncomputable def Dt(S:PS)(i:Nat)(ln:Ln):List PyData×PS:=(.tuple [.str "rests",.str ln.num]::(CC (aB S ln) ln).1,bp (CC (aB S ln) ln).2 i ln)
structure Jv(S:PS)(i:Nat)(ln:Ln):Prop where
 w:ln.st="waits"->ln.num∈S.q
 f:∀z,ln.ao=some z->∃(j:Nat)(lo:Ln),S.lns[j]?=some lo/\lo.num=z/\j≠i/\bA (aB S ln) lo.held
 h:bA (CC (aB S ln) ln).2 ln.held
def RJ(K:TH)(a:An):Sp:=λvs H Q _=>∃(X:HX)(R:Ax)(i:Nat)(x:LX),vs=[.ref X.h,.ref x.p]/\HT K a H X R/\X.lines[i]?=some x/\X.q.length<1000/\Jv X.S i x.l /\
 ∀H' X' r xs,HT K a H' X' ((r,.lst (xs.map V.ref))::R)->X'.h=X.h->X'.S=(Dt X.S i x.l).2->Ah H H'->BW K H' xs (Dt X.S i x.l).1->Q (.ref r) H'
def RK(S:PS)(j:Nat)(lo:Ln):Cm (BF S j lo).1=true:=by unfold BF;split<;>rfl
def D4{α:Type}{l:List α}{i j:Nat}{x y:α}(h:l[i]?=some x)(n:j≠i):(l.set j y)[i]?=some x:=by rwa[VA n]
def HT.nw (t:HT K a H X R)(n:BI H B l o):HT K a B X ((l,o)::R):=by rw[n.e];exact t.new n.n
def HT.kP (t:HT K a H X R)(h:X.S.lns[j]?=some lc):Bd X.S.lns lc.num=j:=by refine KQ ?_ h;change((X.lines.map (·.l)).map (·.num)).Nodup;rw[Uq];exact t.ok.num
def EE:AM ["self","line","caller"] ["self","line"] (Ae<|Ai (top 28) 4):=.of
def Aft(F:AI K "lift" "Hall.lift" (Ai (top 28) 4) f fd)(T:TxtH P w K mg a)(oF:AO P w K mg base Au 2 a.ah "wait" ["self","line"] (M0 K a)):AB P w K mg base Au 3 f fd ["self","line"] (RI K a):=by
 refine F.ok EE.fs λaj A outer s H vs Q E hr h=>?_
 .obtain ⟨X,R,i,x,rfl,t,h,qz,ok,q⟩:=h;have oG:=T.hc.cls;have hu:=hr.units;have nd:=EE.fs.nd;refine⟨_,(@Af _ _ _ _ _ (AR (AL (B2 hu) (AE (Aa 1 EE) rfl) Ag<|AW _) (Ak<|AD (Bb<|Ab (A7 oF oG (Aa 0 EE) hr.d AN<|Ab (Aa 1 EE) Ac) Ac)) AV)
    (Af (A4 2 EE<|Ap P w K (AE (Aa 0 EE) rfl) (AE (Aa 1 EE) rfl))
    (Af (BH (Aa 2 EE) Ag rfl)
    (Af (BH (Aa 1 EE) Ag rfl)
    (Ak<|AD (Bb<|Ab (Bm<|Ab Ag (Ab (AE (Aa 2 EE) rfl)<|Ab (AE (Aa 1 EE) rfl) Ac)) Ac)))))),?_⟩
  try dsimp only[av,aw]
  show AK x.p a.Line x.dx _ _ rfl (t.t.ay h) T.lc.cls T.lc.st rfl ?_;ext;rcases ok with D|⟨D,j,lc,ef,Y,nj⟩
  .have eD:CB X.S i x.l=(.tuple [.str "waits",.str x.l.num],Fz X.S i x.l):=br D;rw[eD]at q;apply DS (c8<|congrArg V.str D);show A2 X.h X.dx _ rfl t.t.aA rfl ?_;show Bx X R i x rfl t h qz (λI X1 y b B eR eT fF dQ cS J eb=>?_);show⟨Ao,λr H2 n=>?_⟩;exact q _ X1 r b (B.nw n) eR eT (J.trans<|.of n.same)<|.tup (.of<|n.same _ _ eb) (.cons (.str _)<|.cons (.str _) .nil)
  .have ei:=t.kP Y;have eD:CB X.S i x.l=(.tuple [.str "talks",.str lc.num,.str x.l.num],{ X.S with lns:=(X.S.lns.set j { lc with st:="talks" }).set i { x.l with st:="talks" } }):=by
    simp only[CB,cZ D,ef,ei,Y]
   rw [eD]at q;obtain⟨y,hy,rfl⟩:=As<|t.at Y;have oI:DI x.l.ao=.str y.l.num:=by rw[ef];rfl
   apply DX (dJ λz=>D<|V.str.inj z);show AK X.h a.ah X.dx _ _ rfl t.t.aA T.hc.cls T.hc.li rfl ?_;show AK x.p a.Line x.dx _ _ rfl (t.t.ay h) T.lc.cls T.lc.fa rfl ?_;apply Bx X.ld _ (.inr y.l.num) _ rfl oI (.of t.t.ld) (t.ok.line hy);show Bj y.p a.Line y.dx _ rfl (t.t.ay hy) T.lc.cls T.lc.st (UP rfl) ?_;have ly:=t.ok.lx j y hy;obtain⟨B,J⟩:=t.bF hy { y with l:={ y.l with st:="talks" } } rfl rfl rfl rfl rfl rfl rfl ly.w ly.wt;change HT K a (upd H y.p<|.ins a.Line y.dx (A8 "state" (.str "talks") y.fs)) _ _ at B;change Ah _ (upd H y.p<|.ins a.Line y.dx (A8 "state" (.str "talks") y.fs))at J;have O:(X.lines.set j { y with l:={ y.l with st:="talks" } })[i]?=some x:=D4 h nj;generalize upd H _ _=I at B J ⊢;have l1:I x.p=some (.ins a.Line x.dx x.fs):=by have z:=B.t.ay O;exact z
   show Bj x.p a.Line x.dx _ rfl l1 T.lc.cls T.lc.st (UP rfl) ?_;have lx:=B.ok.lx i x O;obtain⟨L,p2⟩:=B.bF O { x with l:={ x.l with st:="talks" } } rfl rfl rfl rfl rfl rfl rfl lx.w lx.wt;change HT K a (upd I x.p<|.ins a.Line x.dx (A8 "state" (.str "talks") x.fs)) _ _ at L;change Ah _ (upd I x.p<|.ins a.Line x.dx (A8 "state" (.str "talks") x.fs))at p2;have h2:((X.lines.set j { y with l:={ y.l with st:="talks" } }).set i { x with l:={ x.l with st:="talks" } })[i]?=some { x with l:={ x.l with st:="talks" } }:=B3 O;have g2:((X.lines.set j { y with l:={ y.l with st:="talks" } }).set i { x with l:={ x.l with st:="talks" } })[j]?=some { y with l:={ y.l with st:="talks" } }:=D4 (B3 hy)<|UC nj;generalize upd I _ _=H2 at L p2 ⊢;have l2:=L.t.ay h2;have m2:=L.t.ay g2;show AK y.p a.Line y.dx _ _ rfl m2 T.lc.cls T.lc.nu rfl ?_;show AK x.p a.Line x.dx _ _ rfl l2 T.lc.cls T.lc.nu rfl ?_;show⟨Ao,λb H3 n3=>⟨Ao,λr H4 n4=>?_⟩⟩;refine q _ _ r b ((L.same n3.same).nw n4) rfl ?_ (J.trans<|p2.trans (.of<|n3.same.trans n4.same))<|.tup (.of<|n4.same _ _ n3.get) (.cons (.str _)<|.cons (.str _) (.cons (.str _) .nil));change(⟨X.long,((X.lines.set j _).set i _).map (·.l),_,_,_,_⟩:PS)=_;rw[U4,U4];rfl
def DJ:AM ["self","line","told"] ["self","line"] (Ae<|Ai (top 28) 11):=.of
def Afu(F:AI K "hang" "Hall.hang" (Ai (top 28) 11) f fd)(T:TxtH P w K mg a)(eP:AO P w K mg base Au 1 a.Line "turn" ["self","state"] (HS a))(gu:AO P w K mg base (AJ P w) 4 a.ah "release" ["self","line"] (Jt K a))(aa6:AO P w K mg base (AJ P w) 5 a.ah "left_alone" ["self","other"] (RH K a)):AB P w K mg base (AJ P w) 6 f fd ["self","line"] (RJ K a):=by
 refine F.aY DJ.fs λaj A outer s H vs Q E hr h=>?_
 .obtain ⟨X,R,i,x,rfl,t,h,qz,ok,q⟩:=h;have gv:=T.hc.cls;have aa7:=T.hc.cls;have eQ:=T.lc.cls;have hu:=hr.units;have nd:=DJ.fs.nd;refine⟨_,(@Af _ _ _ _ _ (A4 2 DJ<|Bb (Ab (Bm<|Ab Ag (Ab (AE (Aa 1 DJ) rfl) Ac)) Ac))
    (Af (AR (AL (B2 hu) (AE (Aa 1 DJ) rfl) Ag<|AW _) (Ak<|A5 (Cr UZ yf yg Qa (AE (Aa 0 DJ) rfl)<|Ab (AE (Aa 1 DJ) rfl) Ac)) AV)
    (Af (AR (AL LJ (AE (Aa 1 DJ) rfl) Cq<|AW _) (Ak<|A5 (Cr UZ Vf Vg C9 (Aa 2 DJ)<|Ab (A7 aa6 aa7 (Aa 0 DJ) hr.d BE<|Ab (Ap P w K (AE (Aa 0 DJ) rfl)<|AE (Aa 1 DJ) rfl) Ac) Ac)) AV)
    (Af (A5<|A7 gu gv (Aa 0 DJ) hr.d BE (Ab (Aa 1 DJ) Ac))
    (Af (A5<|A7 eP eQ (Aa 1 DJ) hr.d AN (Ab Ag Ac))
    (Ak<|AD (Aa 2 DJ))))))),?_⟩
  try dsimp only[av,aw]
  show AK x.p a.Line x.dx _ _ rfl (t.t.ay h) T.lc.cls T.lc.nu rfl ?_;show⟨Ao,λJ H0 n0=>?_⟩;show⟨Ao,λr H1 n1=>?_⟩;have O:HT K a H1 X ((r,.lst<|[J].map V.ref)::R):=(t.same n0.same).nw n1;have p1:Ah H H1:=.of<|n0.same.trans n1.same;have e1:=n1.same _ _ n0.get;clear n0 n1
  apply Lk.use ‹_›;refine M5 λC1 dM=>?_;have mid:∀(L:Hp)(B:HX),HT K a L B ((r,.lst<|[J].map V.ref)::R)->B.h=X.h->B.S=aB X.S x.l->B.lines=X.lines->Ah H1 L->C1 [some<|.ref X.h,some<|.ref x.p,some<|.ref r] L:=by
   intro L B D de Y oH p2;rw[dM];have h2:B.lines[i]?=some x:=by rwa[oH]
   refine M5 λC2 dN=>?_;have last:∀(H3:Hp)(I:HX)(xs:List ar),HT K a H3 I ((r,.lst<|xs.map V.ref)::R)->I.h=X.h->I.S=(CC (aB X.S x.l) x.l).2->I.lines[i]?=some x->Ah L H3->BW K H3 xs (Dt X.S i x.l).1->C2 [some<|.ref X.h,some<|.ref x.p,some<|.ref r] H3:=by
    intro H3 I xs t3 b8 bH h3 p3 td;rw[dN,<-b8];show A2 I.h I.dx _ rfl t3.t.aA rfl ?_;show Bx I _ i x rfl t3 h3 (by rw[bH];exact ok.h) (λH4 X4 y t4 jE ir eL4 ep4 el4 p4=>?_);have h4:X4.lines[i]?=some y:=by rw[eL4];exact B3 h3
    rw [<-ep4];show A2 y.p y.dx _ rfl (t4.t.ay h4) rfl ?_;show ES y.p y.dx y.l.num y.i y.h ("rests") _ rfl ⟨t4.t.ay h4,.inr ⟨_,_,_,_,_,rfl⟩,?_⟩;obtain⟨t5,p5⟩:=t4.turn h4 "rests";show q _ _ r xs t5 (jE.trans b8) ?_ (p1.trans<|p2.trans (p3.trans<|p4.trans p5)) (td.ak<|p4.trans p5);have:=HX.ig (X:=X4) (i:=i) (y:={ y with wv:=.aa,l:=AX y.l "rests" });rw[this,ir,el4,bH];change({ Cy (CC (aB X.S x.l) x.l).2 i x.l with lns:=((CC (aB X.S x.l) x.l).2.lns.set i { x.l with held:=[] }).set i (AX { x.l with held:=[] } "rests") }:PS)=_;rw[U9];rfl
   clear dN
   rw [<-de];show AK x.p a.Line x.dx _ _ rfl (D.t.ay h2) T.lc.cls T.lc.fa rfl ?_;have one:BW K L [J] [.tuple [.str "rests",.str x.l.num]]:=.one (.tup (.of<|p2.t e1)<|.cons (.str _) (.cons (.str _) .nil)) rfl;cases ef:x.l.ao with
   |none =>
    have e2:CC (aB X.S x.l) x.l=([],aB X.S x.l):=by simp only[CC,ef]
    ext;rw[de];exact last L B [J] D de (by rwa[e2]) h2 .refl<|by unfold Dt;rwa[e2]
   |some z =>
    obtain⟨j,lo,ej,en,nj,ha⟩:=BA<|ok.f z ef;have eSl:B.S.lns=X.S.lns:=by rw[Y];unfold aB;split<;>rfl
    have eSq:B.S.q.length<=X.q.length:=by
     rw [Y];unfold aB;split
     .exact ZH
     .exact Ua _
    have iu:B.S.lns[j]?=some lo:=by rwa[eSl]
    have gw:=D.kP iu;rw[en,Y]at gw;have e2:CC (aB X.S x.l) x.l=([(BF B.S j lo).1],(BF B.S j lo).2):=by
     have ej3:(aB X.S x.l).lns[j]?=some lo:=by rwa[<-Y]
     rw [Y];simp only[CC,ef,gw,ej3]
    obtain⟨y,hy,rfl⟩:=As<|D.at iu;have hv:=D.ok.line hy;rw[en]at hv;have jv:L r=some (.lst<|[J].map V.ref):=D.t.rest.hd;have oI:DI x.l.ao=.str z:=by rw[ef];rfl
    show⟨.inl ⟨rfl,_,.of jv⟩,?_⟩;show A2 B.h B.dx _ rfl D.t.aA rfl ?_;show AK B.h a.ah B.dx _ _ rfl D.t.aA T.hc.cls T.hc.li rfl ?_;show AK x.p a.Line x.dx _ _ rfl (D.t.ay h2) T.lc.cls T.lc.fa rfl ?_;apply Bx B.ld _ (.inr z) _ rfl oI (.of D.t.ld) hv;show Bj B _ j y rfl D hy (by rwa[Y]) (UE eSq qz) (λH3 I b z3 t3 b8 bH eL3 tR p3 eb=>?_);have hr3:H3 r=some (.lst<|[J].map V.ref):=t3.t.rest.hd;show CS r _ _ rfl rfl hr3 (by change 1<sizeLine;decide) ?_;obtain⟨t4,p4⟩:=t3.kN (o':=.lst<|[J,b].map V.ref) rfl;rw[de];refine last _ I [J,b] t4 (b8.trans de) (by rwa[e2]) (by rw[eL3];exact D4 h2 nj) (p3.trans p4) ?_;unfold Dt;rw[e2];exact⟨.cons (Is.ak _ rfl (.tup (.of<|p2.t e1)<|.cons (.str _) (.cons (.str _) .nil))<|p3.trans p4)<|.cons (Is.ak _ (RK _ _ _) eb p4) .nil,by change(true && (Cm _ && true))=true;rw[RK];rfl⟩
  clear dM
  show AK x.p a.Line x.dx _ _ rfl (O.t.ay h) T.lc.cls T.lc.st rfl ?_;ext;by_cases aH:x.l.st="waits"
  .refine DS (c8<|congrArg V.str aH) ?_;show AK X.h a.ah X.dx _ _ rfl O.t.aA T.hc.cls T.hc.qu rfl ?_;refine⟨.inl ⟨rfl,_,.of O.t.q⟩,?_⟩;show AK x.p a.Line x.dx _ _ rfl (O.t.ay h) T.lc.cls T.lc.nu rfl ?_;show TY (CS X.qa X.q x.l.num rfl rfl O.t.q (ok.w aH) ?_);obtain⟨D,p2⟩:=O.dP<|X.q.erase x.l.num;exact mid _ _ D rfl (by unfold aB;rw[br aH];rfl) rfl p2
  .refine DX (dJ λz=>aH<|V.str.inj z) ?_;exact mid H1 X O rfl (by unfold aB;rw[cZ aH]) rfl .refl
def Cg(S:PS)(i:Nat)(ln:Ln)(d:PyData):PS:={ Cy S i ln with lns:=S.lns.set i { ln with held:=[],st:="told",why:=d } }
def KR(K:TH)(a:An):Sp:=λvs H Q _=>∃(X:HX)(R:Ax)(i:Nat)(x:LX)(wd:bf),vs=[.ref X.h,.ref x.p,.str wd]/\HT K a H X R/\X.lines[i]?=some x/\bA X.S x.l.held /\
 ∀H' X' r b,HT K a H' X' ((r,.lst [.ref b])::R)->X'.h=X.h->X'.S=Cg X.S i x.l (.tuple [.str wd,.str x.l.ae])->Ah H H'->Is K H' (.ref b) (.tuple [.str wd,.str x.l.num,.str x.l.ae])->Q (.ref r) H'
def M7(K:TH)(a:An):Sp:=λvs H Q _=>∃(X:HX)(R:Ax)(i:Nat)(x:LX)(v:V)(d:PyData),vs=[.ref X.h,.ref x.p,v]/\HT K a H X R/\X.lines[i]?=some x/\bA X.S x.l.held/\Is K H v d/\Cm d=true /\
 ∀H' X' r b,HT K a H' X' ((r,.lst [.ref b])::R)->X'.h=X.h->X'.S=Cg X.S i x.l d->Ah H H'->Is K H' (.ref b) (.tuple [.str "busy",.str x.l.num,d])->Q (.ref r) H'
theorem HT.told (t:HT K a H X R)(h:X.lines[i]?=some x)(B:Is K H v d)(D:Cm d=true):
  HT K a (upd H x.p<|.ins a.Line x.dx (Cf x.l.num x.i x.h "told" x.l.ae x.l.ag (DI x.l.ao) v)) { X with lines:=X.lines.set i { x with wv:=v,l:={ x.l with st:="told",why:=d } } } R/\Ah H (upd H x.p<|.ins a.Line x.dx (Cf x.l.num x.i x.h "told" x.l.ae x.l.ag (DI x.l.ao) v)) :=
 t.bF h { x with wv:=v,l:={ x.l with st:="told",why:=d } } rfl rfl rfl rfl rfl rfl rfl B D
def RL{X B:HX}{i:Nat}{x y:LX}{v:V}{d:PyData}(D:B.S=Cy X.S i x.l)(I:y.l={ x.l with held:=[] }):({ B with lines:=B.lines.set i { y with wv:=v,l:={ y.l with st:="told",why:=d } } }:HX).S=Cg X.S i x.l d:=by have:=HX.ig (X:=B) (i:=i) (y:={ y with wv:=v,l:={ y.l with st:="told",why:=d } });rw[this,D,I];change({ Cy X.S i x.l with lns:=(X.S.lns.set i { x.l with held:=[] }).set i { x.l with held:=[],st:="told",why:=d } }:PS)=_;rw[U9];rfl
def FZ:AM ["self","line","word"] ["self","line","word"] (Ae<|Ai (top 28) 9):=.of
def Afv(F:AI K "no_call" "Hall.no_call" (Ai (top 28) 9) f fd)(T:TxtH P w K mg a)(gu:AO P w K mg base (AJ P w) 4 a.ah "release" ["self","line"] (Jt K a))(oJ:AO P w K mg base Au 1 a.Line "be_told" ["self","paper"] (MX a)):AB P w K mg base (AJ P w) 5 f fd ["self","line","word"] (KR K a):=by
 refine F.aY FZ.fs λaj A outer s H vs Q E L h=>?_
 .obtain ⟨X,R,i,x,wd,rfl,t,h,hd,q⟩:=h;have gv:=T.hc.cls;have oK:=T.lc.cls;refine⟨_,(@Af _ _ _ _ _ (A5<|A7 gu gv (Aa 0 FZ) L.d BE (Ab (Aa 1 FZ) Ac))
    (Af (A5<|A7 oJ oK (Aa 1 FZ) L.d AN (Ab (Bm<|Ab (Aa 2 FZ) (Ab (AE (Aa 1 FZ) rfl) Ac)) Ac))
    (Ak<|AD (Bb<|Ab (Bm<|Ab (Aa 2 FZ) (Ab (AE (Aa 1 FZ) rfl)<|Ab (AE (Aa 1 FZ) rfl) Ac)) Ac)))),?_⟩
  try dsimp only[av,aw]
  show A2 X.h X.dx _ rfl t.t.aA rfl ?_;show Bx X R i x rfl t h hd (λH1 O y D eR eT fF dQ I p1=>?_);have B:O.lines[i]?=some y:=by rw[fF];exact B3 h
  have iq:y.l.num=x.l.num:=by rw[I]
  have V:y.l.ae=x.l.ae:=by rw[I]
  rw [<-dQ];show A2 y.p y.dx _ rfl (D.t.ay B) rfl ?_;show AK y.p a.Line y.dx _ _ rfl (D.t.ay B) T.lc.cls T.lc.di rfl ?_;show⟨Ao,λc H2 Y=>?_⟩;have s2:=Y.same;have e2:=Y.get;have t2:=D.same s2;show⟨t2.t.ay B,?_⟩;obtain⟨J,p3⟩:=t2.told B (v:=.ref c) (d:=.tuple [.str wd,.str x.l.ae]) (.tup (.of e2)<|.cons (.str _) (.cons (by rw[V];exact .str _) .nil)) rfl;have h3:(O.lines.set i { y with wv:=.ref c,l:={ y.l with st:="told",why:=.tuple [.str wd,.str x.l.ae] } })[i]?=some { y with wv:=.ref c,l:={ y.l with st:="told",why:=.tuple [.str wd,.str x.l.ae] } }:=B3 B;generalize upd H2 _ _=H3 at J p3 ⊢;have l3:=J.t.ay h3;show AK y.p a.Line y.dx _ _ rfl l3 T.lc.cls T.lc.nu rfl ?_;show AK y.p a.Line y.dx _ _ rfl l3 T.lc.cls T.lc.di rfl ?_;show⟨Ao,λb H4 nb=>?_⟩;have s4:=nb.same;have e4:=nb.get;have t4:=J.same s4;refine⟨Ao,λr Hr nr=>?_⟩;have p5:=Ah.of nr.same;refine q _ _ r b (t4.nw nr) eR (RL eT I) (p1.trans<|(Ah.of s2).trans (p3.trans<|(Ah.of s4).trans p5))<|.tup (.of<|p5.t e4) (.cons (.str _)<|.cons (by rw[iq];exact .str _) (.cons (by rw[V];exact .str _) .nil))
def Hg:AM ["self","line","paper"] ["self","line","paper"] (Ae<|Ai (top 28) 10):=.of
def Afw(F:AI K "busy" "Hall.busy" (Ai (top 28) 10) f fd)(T:TxtH P w K mg a)(gu:AO P w K mg base (AJ P w) 4 a.ah "release" ["self","line"] (Jt K a))(oJ:AO P w K mg base Au 1 a.Line "be_told" ["self","paper"] (MX a)):AB P w K mg base (AJ P w) 5 f fd ["self","line","paper"] (M7 K a):=by
 refine F.aY Hg.fs λaj A outer s H vs Q E L h=>?_
 .obtain ⟨X,R,i,x,v,d,rfl,t,h,hd,O,D,q⟩:=h;have gv:=T.hc.cls;have oK:=T.lc.cls;refine⟨_,(@Af _ _ _ _ _ (A5<|A7 gu gv (Aa 0 Hg) L.d BE (Ab (Aa 1 Hg) Ac))
    (Af (A5<|A7 oJ oK (Aa 1 Hg) L.d AN (Ab (Aa 2 Hg) Ac))
    (Ak<|AD (Bb<|Ab (Bm<|Ab Ag (Ab (AE (Aa 1 Hg) rfl)<|Ab (Aa 2 Hg) Ac)) Ac)))),?_⟩
  try dsimp only[av,aw]
  show A2 X.h X.dx _ rfl t.t.aA rfl ?_;show Bx X R i x rfl t h hd (λH1 V y I eR eT fF dQ Y p1=>?_);have B:V.lines[i]?=some y:=by rw[fF];exact B3 h
  have iq:y.l.num=x.l.num:=by rw[Y]
  rw [<-dQ];show A2 y.p y.dx _ rfl (I.t.ay B) rfl ?_;show⟨I.t.ay B,?_⟩;obtain⟨J,p3⟩:=I.told B (v:=v) (d:=d) (Is.ak _ D O p1) D;have h3:(V.lines.set i { y with wv:=v,l:={ y.l with st:="told",why:=d } })[i]?=some { y with wv:=v,l:={ y.l with st:="told",why:=d } }:=B3 B;generalize upd H1 _ _=H3 at J p3 ⊢;have l3:=J.t.ay h3;show AK y.p a.Line y.dx _ _ rfl l3 T.lc.cls T.lc.nu rfl ?_;show⟨Ao,λb H4 nb=>?_⟩;have s4:=nb.same;have e4:=nb.get;have t4:=J.same s4;refine⟨Ao,λr Hr nr=>?_⟩;have p5:=Ah.of nr.same;have pp:=p1.trans<|p3.trans ((Ah.of s4).trans p5);refine q _ _ r b (t4.nw nr) eR (RL eT Y) pp<|.tup (.of<|p5.t e4) (.cons (.str _)<|.cons (by rw[iq];exact .str _) (.cons (Is.ak _ D O pp) .nil))
def CI(S:PS)(i:Nat)(ln:Ln)(z:bf):PyData×PS :=
 match S.lns[Bd S.lns z]? with
 |none=>(.tuple [.str "none",.str ln.num,.str ln.ae],Cg S i ln (.tuple [.str "none",.str ln.ae]))
 |some lc=>if lc.st="rests" then(.tuple [.str "rings",.str ln.num,.str z],{ S with lns:=(S.lns.set i { ln with st:="rings",ao:=some lc.num }).set (Bd S.lns z) { lc with st:="rung",ao:=some ln.num } })
  else(.tuple [.str "busy",.str ln.num,.tuple [.str "line",.str z,.str lc.st]],Cg S i ln (.tuple [.str "line",.str z,.str lc.st]))
def RM(K:TH)(a:An):Sp:=λvs H Q _=>∃(X:HX)(R:Ax)(i:Nat)(x:LX)(z:bf),vs=[.ref X.h,.ref x.p,.str z]/\HT K a H X R/\X.lines[i]?=some x/\bA X.S x.l.held/\x.l.st≠"rests" /\
 ∀H' X' r b,HT K a H' X' ((r,.lst [.ref b])::R)->X'.h=X.h->X'.S=(CI X.S i x.l z).2->Ah H H'->Is K H' (.ref b) (CI X.S i x.l z).1->Q (.ref r) H'
def KS (h:z ∉ lns.map (·.num)):lns[Bd lns z]?=none:=by
 have:Bd lns z=lns.length:=by unfold Bd;rw[List.idxOf_eq_length h,TN]
 rw [this];exact wJ<|Ua _
def HT.aa8{H:Hp}{X:HX}{R:Ax}(t:HT K a H X R){i j:Nat}{x y:LX}(B:X.lines[i]?=some x)(h2:X.lines[j]?=some y)(n:i≠j):x.p≠y.p:=λe=>by
 have D:=t.t.ay B;rw[e,t.t.ay h2]at D;have I:HO.ins a.Line y.dx y.fs=HO.ins a.Line x.dx x.fs:=Us D;have J:y.fs=x.fs:=by injection I
 have L:V.str y.l.num=V.str x.l.num:=by have:=congrArg (λl:List (bf×V)=>(l[0]?).map (·.2)) J;exact Us this
 exact FW t.ok.num (i:=i) (j:=j) (by rw[T6,B];rfl) (by rw[T6,h2];rfl) n (V.str.inj L).symm
def Dk:AM ["self","line","figures","called"] ["self","line","figures"] (Ae<|Ai (top 28) 8):=.of
def Afx(F:AI K "to_line" "Hall.to_line" (Ai (top 28) 8) f fd)(T:TxtH P w K mg a)(jF:AO P w K mg base (AJ P w) 5 a.ah "no_call" ["self","line","word"] (KR K a))(oM:AO P w K mg base (AJ P w) 5 a.ah "busy" ["self","line","paper"] (M7 K a))(Y:AO P w K mg base Au 1 a.Line "ring" ["self","called"] (Rx a)):AB P w K mg base (AJ P w) 6 f fd ["self","line","figures"] (RM K a):=by
 refine F.aY Dk.fs λaj A outer s H vs Q E L h=>?_
 .obtain ⟨X,R,i,x,z,rfl,t,h,hd,nr0,q⟩:=h;have jG:=T.hc.cls;have oN:=T.hc.cls;have aba:=T.lc.cls;have hu:=L.units;have nd:=Dk.fs.nd;refine⟨_,(@Af _ _ _ _ _ (AR (AL (GZ (P:=P) (w:=w) (K:=K)) (Aa 2 Dk) (AE (Aa 0 Dk) rfl)<|by with_unfolding_all rfl) (Ak<|AD (A7 jF jG (Aa 0 Dk) L.d BE<|Ab (Aa 1 Dk) (Ab Ag Ac))) AV)
    (Af (A4 3 Dk<|Ap P w K (AE (Aa 0 Dk) rfl) (Aa 2 Dk))
    (Af (AR (AL (Ez hu) (AE (Aa 3 Dk) rfl) Ag<|AW _) (Ak<|AD (A7 oM oN (Aa 0 Dk) L.d BE<|Ab (Aa 1 Dk) (Ab (Bm<|Ab Ag (Ab (Aa 2 Dk)<|Ab (AE (Aa 3 Dk) rfl) Ac)) Ac))) AV)
    (Af (A5<|A7 Y aba (Aa 1 Dk) L.d AN (Ab (Aa 3 Dk) Ac))
    (Ak<|AD (Bb<|Ab (Bm<|Ab Ag (Ab (AE (Aa 1 Dk) rfl)<|Ab (Aa 2 Dk) Ac)) Ac)))))),?_⟩
  try dsimp only[av,aw]
  show AK X.h a.ah X.dx _ _ rfl t.t.aA T.hc.cls T.hc.li rfl ?_;apply A2 X.ld _ (.inr z) rfl rfl (.of t.t.ld);by_cases m:z∈X.lines.map (·.l.num)
  .obtain ⟨j,y,hy,rfl⟩:=Rw m;have hv:=t.ok.line hy;have ej:X.S.lns[j]?=some y.l:=by change(X.lines.map (·.l))[j]?=_;rw[T6,hy];rfl
   have ei:=t.kP ej;rw[hv];show AK X.h a.ah X.dx _ _ rfl t.t.aA T.hc.cls T.hc.li rfl ?_;show Bx X.ld _ (.inr y.l.num) _ rfl rfl (.of t.t.ld) hv ?_;show AK y.p a.Line y.dx _ _ rfl (t.t.ay hy) T.lc.cls T.lc.st rfl ?_;ext;by_cases B:y.l.st="rests"
   .have D:CI X.S i x.l y.l.num=(.tuple [.str "rings",.str x.l.num,.str y.l.num],{ X.S with lns:=(X.S.lns.set i { x.l with st:="rings",ao:=some y.l.num }).set j { y.l with st:="rung",ao:=some x.l.num } }):=by
     simp only[CI,ei,ej,br B]
    rw [D]at q;have nj:i≠j:=λe=>by subst e;rw[h]at hy;cases hy;exact nr0 B
    have np:=t.aa8 h hy nj;rw[c8<|congrArg V.str B];apply BN;show A2 x.p x.dx _ rfl (t.t.ay h) rfl ?_;ext;have lx:=t.ok.lx i x h;have ly:=t.ok.lx j y hy;refine⟨np,t.t.ay h,t.t.ay hy,?_⟩;obtain⟨t1,p1⟩:=t.bF h { x with l:={ x.l with st:="rings",ao:=some y.l.num } } rfl rfl rfl rfl rfl rfl rfl lx.w lx.wt;have h1:(X.lines.set i { x with l:={ x.l with st:="rings",ao:=some y.l.num } })[j]?=some y:=D4 hy nj;obtain⟨I,p2⟩:=t1.bF h1 { y with l:={ y.l with st:="rung",ao:=some x.l.num } } rfl rfl rfl rfl rfl rfl rfl (Is.ak _ ly.wt ly.w p1) ly.wt;have g2:((X.lines.set i { x with l:={ x.l with st:="rings",ao:=some y.l.num } }).set j { y with l:={ y.l with st:="rung",ao:=some x.l.num } })[i]?=some { x with l:={ x.l with st:="rings",ao:=some y.l.num } }:=D4 (B3 h)<|UC nj;generalize upd (upd H _ _) _ _=H2 at I p2 ⊢;have l2:=I.t.ay g2;show AK x.p a.Line x.dx _ _ rfl l2 T.lc.cls T.lc.nu rfl ?_;show⟨Ao,λb O nb=>?_⟩;have s3:=nb.same;have e3:=nb.get;have J:=I.same s3;refine⟨Ao,λr Hr nr=>?_⟩;have p4:=Ah.of nr.same;refine q _ _ r b (J.nw nr) rfl ?_ (p1.trans<|p2.trans ((Ah.of s3).trans p4))<|.tup (.of<|p4.t e3) (.cons (.str _)<|.cons (.str _) (.cons (.str _) .nil));change(⟨X.long,((X.lines.set i _).set j _).map (·.l),_,_,_,_⟩:PS)=_;rw[U4,U4];rfl
   .have D:CI X.S i x.l y.l.num=(.tuple [.str "busy",.str x.l.num,.tuple [.str "line",.str y.l.num,.str y.l.st]],Cg X.S i x.l<|.tuple [.str "line",.str y.l.num,.str y.l.st]):=by
     simp only[CI,ei,ej,cZ B]
    rw [D]at q;rw[dJ λe=>B<|V.str.inj e];apply B6;show A2 X.h X.dx _ rfl t.t.aA rfl ?_;show AK y.p a.Line y.dx _ _ rfl (t.t.ay hy) T.lc.cls T.lc.st rfl ?_;show⟨Ao,λc H2 nc=>?_⟩;have s2:=nc.same;have e2:=nc.get;have I:=t.same s2;refine⟨X,R,i,x,.ref c,.tuple [.str "line",.str y.l.num,.str y.l.st],rfl,I,h,hd,.tup (.of e2)<|.cons (.str _) (.cons (.str _)<|.cons (.str _) .nil),rfl,λO X3 r b J b8 bH p3 ib=>?_⟩;exact q O X3 r b J b8 bH ((Ah.of s2).trans p3) ib
  .have en:X.S.lns[Bd X.S.lns z]?=none:=KS (by change z ∉ (X.lines.map (·.l)).map (·.num);rwa[Uq]);have D:CI X.S i x.l z=(.tuple [.str "none",.str x.l.num,.str x.l.ae],Cg X.S i x.l<|.tuple [.str "none",.str x.l.ae]):=by
    simp only[CI,en]
   rw [D]at q;rw[t.ok.bN m];show A2 X.h X.dx _ rfl t.t.aA rfl ?_;ext;exact⟨X,R,i,x,"none",rfl,t,h,hd,λO X3 r b J b8 bH p3 ib=>q O X3 r b J b8 bH p3 ib⟩
noncomputable def BG(S:PS)(z:bf):Option Gr:=S.az.find? λg=>decide (g.pre=z)
def Jw{l:List Gr}(D:(l.map (·.pre)).Nodup){i:Nat}{g:Gr}(h:l[i]?=some g):l.find? (λy=>decide (y.pre=g.pre))=some g:=by
 induction l generalizing i with
 |nil=>simp at h
 |cons y l ih =>
  have B:=Uu.mp D;cases i with
  |zero =>
   have e:y=g:=by simpa using h
   subst e;rw[V1,c8 rfl]
  |succ i =>
   have h:l[i]?=some g:=by simpa using h
   rw [V1,dJ λe=>B.1<|by change y.pre∈_;rw[e];exact Uc.mpr ⟨g,Ug h,rfl⟩];exact ih B.2 h
def KU{l:List Gr}{z:bf}(h:z ∉ l.map (·.pre)):l.find? (λy=>decide (y.pre=z))=none:=by rw[yh];intro y B e;exact h<|by rw[<-of_decide_eq_true e];exact Uc.mpr ⟨y,B,rfl⟩
def Jx:V->PyData
 |.str z=>.str z
 |_=>.none
def CZ(g:Gr):List PyData:=(Cu g.hs (λk=>g.js.getD k false) g.hs.length).map Jx
def b9(g:Gr)(k:Int)(bT:bf):Gr:={ g with hs:=g.hs.set k.toNat (.str bT),ts:=g.ts.set k.toNat (g.ts.getD k.toNat 0+1) }
def CJ(S:PS)(i:Nat)(ln:Ln)(z:bf):PyData×PS :=
 match BG S z with
 |none=>(.tuple [.str "none",.str ln.num,.str ln.ae],Cg S i ln (.tuple [.str "none",.str ln.ae]))
 |some g=>match Ct g.hs g.js 0 with
  |none=>(.tuple [.str "busy",.str ln.num,.tuple [.str "group",.str z,.tuple (CZ g)]],Cg S i ln (.tuple [.str "group",.str z,.tuple (CZ g)]))
  |some k=>(.tuple [.str "takes",.str ln.num,.str z,.int k],{ S with az:=S.az.map (λy=>if y.pre=z then b9 y k ln.num else y),lns:=S.lns.set i { ln with held:=ln.held++[(z,k)] } })
def M8(g:Gr):Prop:=∀v∈g.hs,v=.aa\/∃z,v=.str z
theorem M9:∀{vs:List V},(∀v∈vs,∃z,v=.str z)->aW K H vs (vs.map Jx)
 |[],_=>.nil
 |v::vs,h=>by
  obtain⟨z,rfl⟩:=h v UI;exact .cons (.str z) (M9 λu m=>h u (Uy _ m))
theorem KW:∀(vs:List V),bM (vs.map Jx)=true
 |[]=>rfl
 |v::vs=>by
  change(Cm (Jx v) && bM (vs.map Jx))=true;rw[KW vs,Bool.and_true];cases v<;>rfl
def RN (h:∀v∈hs,v=.aa\/∃z,v=.str z):∀v∈Cu hs st n,∃z,v=.str z:=by
 intro v B;obtain⟨k,_,rfl⟩:=As<|Uc.mp B;by_cases e:hs.getD k .aa=.aa
 .rw[br e];split
  .exact ⟨_,rfl⟩
  .exact ⟨_,rfl⟩
 .rw[cZ e];rw[Ux]at e ⊢;cases hk:hs[k]? with
  |none=>rw[hk]at e;exact absurd rfl e
  |some u =>
   rw [hk]at e;exact(h u<|Ug hk).resolve_left e
def RO(K:TH)(a:An):Sp:=λvs H Q _=>∃(X:HX)(R:Ax)(i:Nat)(x:LX)(z:bf),vs=[.ref X.h,.ref x.p,.str z]/\HT K a H X R/\X.lines[i]?=some x/\bA X.S x.l.held/\z≠TU ""/\(∀g∈X.S.az,M8 g)/\x.l.held.length<=9 /\
 ∀H' X' r b,HT K a H' X' ((r,.lst [.ref b])::R)->X'.h=X.h->X'.S=(CJ X.S i x.l z).2->Ah H H'->Is K H' (.ref b) (CJ X.S i x.l z).1->Q (.ref r) H'
def CD:AM ["self","line","figures","group","k"] ["self","line","figures"] (Ae<|Ai (top 28) 7):=.of
def Afy(F:AI K "into_group" "Hall.into_group" (Ai (top 28) 7) f fd)(T:TxtH P w K mg a)(jF:AO P w K mg base (AJ P w) 5 a.ah "no_call" ["self","line","word"] (KR K a))(oM:AO P w K mg base (AJ P w) 5 a.ah "busy" ["self","line","paper"] (M7 K a))(ox:AO P w K mg base Au 2 a.aM "take" ["self","who"] (Ru K a))(oO:AO P w K mg base Au 2 a.aM "paper" ["self"] (Rv K a)):AB P w K mg base (AJ P w) 6 f fd ["self","line","figures"] (RO K a):=by
 refine F.aY CD.fs λaj A outer s H vs Q E L h=>?_
 .obtain ⟨X,R,i,x,z,rfl,t,h,hd,z0,hg,aD,q⟩:=h;have jG:=T.hc.cls;have oN:=T.hc.cls;have oy:=T.gc.cls;have oP:=T.gc.cls;have hu:=L.units;have nd:=CD.fs.nd;have gx:(X.S.az.map (·.pre)).Nodup:=by change((X.groups.map (·.g)).map (·.pre)).Nodup;rw[Uq];exact t.ok.pre
  refine⟨_,(@Af _ _ _ _ _ (AR (AL (GZ (P:=P) (w:=w) (K:=K)) (Aa 2 CD) (AE (Aa 0 CD) rfl)<|by with_unfolding_all rfl) (Ak<|AD (A7 jF jG (Aa 0 CD) L.d BE<|Ab (Aa 1 CD) (Ab Ag Ac))) AV)
    (Af (A4 3 CD<|Ap P w K (AE (Aa 0 CD) rfl) (Aa 2 CD))
    (Af (A4 4 CD<|A7 ox oy (Aa 3 CD) L.d AN (Ab (AE (Aa 1 CD) rfl) Ac))
    (Af (AR (AL Gh (Aa 4 CD) Cq<|AW _) (Ak<|AD (A7 oM oN (Aa 0 CD) L.d BE<|Ab (Aa 1 CD) (Ab (Bm<|Ab Ag (Ab (Aa 2 CD)<|Ab (FO oO oP (Aa 3 CD) L.d AN) Ac)) Ac))) AV)
    (Af (A5<|Cr UZ Vf Vg C9 (AE (Aa 1 CD) rfl) (Ab (Bm<|Ab (Aa 2 CD) (Ab (Aa 4 CD) Ac)) Ac))
    (Ak<|AD (Bb<|Ab (Bm<|Ab Ag (Ab (AE (Aa 1 CD) rfl)<|Ab (Aa 2 CD) (Ab (Aa 4 CD) Ac))) Ac))))))),?_⟩
  try dsimp only[av,aw]
  have bb:start ["self","line","figures","group","k"] [V.ref X.h,V.ref x.p,V.str z]=[some<|.ref X.h,some<|.ref x.p,some<|.str z,none,none]:=rfl;simp only[bb,VE,VF];show AK X.h a.ah X.dx _ _ rfl t.t.aA T.hc.cls T.hc.sw rfl ?_;apply A2 X.sd _ (.inr z) rfl rfl (.of t.t.sd);by_cases m:z∈X.groups.map (·.g.pre)
  .obtain ⟨j,g,B,rfl⟩:=Js m;have hv:=t.ok.oi B;have ej:X.S.az[j]?=some g.g:=by change(X.groups.map (·.g))[j]?=_;rw[T6,B];rfl
   have eg:BG X.S g.g.pre=some g.g:=Jw gx ej;have gk:=t.ok.gr g<|Ug B;have rk:=t.t.ia B T.gc gk;obtain⟨gdx,gfs,ge,gF⟩:=Bv rk.ins;rw[hv];show AK X.h a.ah X.dx _ _ rfl t.t.aA T.hc.cls T.hc.sw rfl ?_;show Bx X.sd _ (.inr g.g.pre) _ rfl rfl (.of t.t.sd) hv ?_;show Ey ge (gF.m _<|by decide) ?_;show AK x.p a.Line x.dx _ _ rfl (t.t.ay h) T.lc.cls T.lc.nu rfl ?_;show Gk g.p x.l.num a.aM g.ra g.rb g.rc g.g.hs g.g.js g.g.ts rfl ⟨rk,?_⟩;cases ff:Ct g.g.hs g.g.js 0 with
   |none =>
    have O:CJ X.S i x.l g.g.pre=(.tuple [.str "busy",.str x.l.num,.tuple [.str "group",.str g.g.pre,.tuple<|CZ g.g]],Cg X.S i x.l<|.tuple [.str "group",.str g.g.pre,.tuple<|CZ g.g]):=by simp only[CJ,eg,ff]
    rw [O]at q;intro Y s1;have I:=t.same s1;have fH:=rk.same s1;obtain⟨afO,afP,ge1,gF1⟩:=Bv fH.ins;show A2 X.h X.dx _ rfl I.t.aA rfl ?_;show Ey ge1 (gF1.m _<|by decide) ?_;refine Fp g.p a.aM g.ra g.rb g.rc g.g.hs g.g.js g.g.ts rfl ⟨fH,λH2 tp J ntp oQ=>?_⟩;show⟨Ao,λc H3 nc=>?_⟩;have s3:=nc.same;have e3:=nc.get;have D:=(I.same J).same s3;have td:Cm (.tuple [.str "group",.str g.g.pre,.tuple<|CZ g.g])=true:=by change(true && (true && (bM (CZ g.g) && true)))=true;rw[show bM (CZ g.g)=true from KW _];rfl
    refine⟨X,R,i,x,.ref c,.tuple [.str "group",.str g.g.pre,.tuple<|CZ g.g],rfl,D,h,hd,.tup (.of e3)<|.cons (.str _) (.cons (.str _)<|.cons (.tup (.of<|s3 _ _ oQ)<|M9 (RN<|hg g.g (Ug ej))) .nil),td,λH4 X4 r b t4 jE ir p4 ib=>?_⟩;exact q H4 X4 r b t4 jE ir ((Ah.of s1).trans<|(Ah.of J).trans ((Ah.of s3).trans p4)) ib
   |some k =>
    have O:CJ X.S i x.l g.g.pre=(.tuple [.str "takes",.str x.l.num,.str g.g.pre,.int k],{ X.S with az:=X.S.az.map λy=>if y.pre=g.g.pre then b9 y k x.l.num else y,lns:=X.S.lns.set i { x.l with held:=x.l.held++[(g.g.pre,k)] } }):=by simp only[CJ,eg,ff]
    rw [O]at q;intro Y sx ea ec;have eb1:Y g.rb=some (.lst<|g.g.js.map V.bl):=sx _ _ (by
     intro m;simp only[T9,UH,or_false]at m;rcases m with e|e
     .exact rk.ab e.symm
     .exact rk.bc e) rk.hb
    obtain⟨a1,p1⟩:=t.t.setG (g':={ g with g:=b9 g.g k x.l.num }) B sx (λw m=>by simp only[T9,UH,or_false]at m;exact m.elim .inl λz=>.inr<|.inr z) rfl rfl ea eb1 ec;have I:HT K a Y { X with groups:=X.groups.set j { g with g:=b9 g.g k x.l.num } } R:=⟨a1,t.ok.setG p1 B rfl ⟨by change _=(g.g.hs.set _ _).length;rw[Uo];exact gk.lj,by change(g.g.ts.set _ _).length=(g.g.hs.set _ _).length;rw[Uo,Uo];exact gk.lt,by change(g.g.hs.set _ _).length<=_;rw[Uo];exact gk.z⟩⟩;have l1:Y x.p=some (.ins a.Line x.dx x.fs):=by have z:=I.t.ay h;exact z
    have tT:Y x.h=some (.lst<|x.hv.map V.ref):=by have z:=I.t.h8 h;exact z
    have hvl:x.hv.length<=9:=by rwa[(t.ok.lx i x h).pr.len]
    show AK x.p a.Line x.dx _ _ rfl l1 T.lc.cls T.lc.he rfl ?_;refine⟨.inl ⟨rfl,_,.of tT⟩,?_⟩;show⟨Ao,λu H2 nu=>?_⟩;have J:=nu.same;have e2:=nu.get;have t2:=I.same J;show CS x.h _ _ rfl rfl (J _ _ tT) (by rw[TN,TZ];omega) ?_;obtain⟨D,p3⟩:=t2.kI h e2 aD;have h3:(X.lines.set i { x with hv:=x.hv++[u],l:={ x.l with held:=x.l.held++[(g.g.pre,k)] } })[i]?=some { x with hv:=x.hv++[u],l:={ x.l with held:=x.l.held++[(g.g.pre,k)] } }:=B3 h;generalize upd H2 _ _=H3 at D p3 ⊢;have l3:=D.t.ay h3;show AK x.p a.Line x.dx _ _ rfl l3 T.lc.cls T.lc.nu rfl ?_;show⟨Ao,λb H4 nb=>?_⟩;have s4:=nb.same;have e4:=nb.get;have t4:=D.same s4;refine⟨Ao,λr Hr nr=>?_⟩;have p5:=Ah.of nr.same;refine q _ _ r b (t4.nw nr) rfl ?_ (p1.trans<|(Ah.of J).trans (p3.trans<|(Ah.of s4).trans p5))<|.tup (.of<|p5.t e4) (.cons (.str _)<|.cons (.str _) (.cons (.str _)<|.cons (.int _) .nil));have e5:=HX.oo (X:=X) (i:=j) (g:=g) (g':={ g with g:=b9 g.g k x.l.num }) (h:=λy=>b9 y k x.l.num) t.ok.pre B rfl;have e6:=HX.ig (X:={ X with groups:=X.groups.set j { g with g:=b9 g.g k x.l.num } }) (i:=i) (y:={ x with hv:=x.hv++[u],l:={ x.l with held:=x.l.held++[(g.g.pre,k)] } });exact e6.trans<|by rw[e5]
  .have en:BG X.S z=none:=KU (by change z ∉ (X.groups.map (·.g)).map (·.pre);rwa[Uq]);have O:CJ X.S i x.l z=(.tuple [.str "none",.str x.l.num,.str x.l.ae],Cg X.S i x.l<|.tuple [.str "none",.str x.l.ae]):=by
    simp only[CJ,en]
   rw [O]at q;rw[t.ok.tM z0 m];show A2 X.h X.dx _ rfl t.t.aA rfl ?_;ext;exact⟨X,R,i,x,"none",rfl,t,h,hd,λH3 X3 r b D b8 bH p3 ib=>q H3 X3 r b D b8 bH p3 ib⟩
noncomputable def F0:List bf:=["1","2","3","4","5","6","7","8","9","0"]
noncomputable def D5(n:Int):bf:=F0.getD (n-1).toNat ""
def Afz (h:1<=n/\n<=10):Cb (F0.map V.str) (n-1)=some (.str<|D5 n):=by
 have B:∀m:Nat,m<10->Cb (F0.map V.str) (m:Int)=some (.str<|F0.getD m ""):=by decide +kernel
 have e:n-1=((n-1).toNat:Int):=by omega
 rw [e];exact B _<|by omega
def Jy (h:1<=n/\n<=10):(D5 n).length=1:=by
 have B:∀m:Nat,m<10->(F0.getD m "").length=1:=by decide +kernel
 exact B _<|by omega
structure TxtG(P:TR)(w:TL)(K:TH)(mg:bf->Option af)(a:An):Prop extends TxtH P w K mg a where
 ix:mg "FIGURES"=some (.ref a.fY)
 kQ:∀H,Bw K H a.fY (F0.map V.str)
 jH:mg "NoFigure"=some (.ref a.cf)
 tU:Vy K a.cf [.type "ValueError",.type "Exception",.type "BaseException",.type "object"] "ValueError.__new__"=true
def RP(a:An):Sp:=λvs H Q E=>∃n:Int,vs=[.int n]/\if 1<=n/\n<=10 then Q (.str (D5 n)) H else E (.ref a.cf) none H
def Ek(S:PS)(i:Nat)(ln:Ln):List PyData×PS :=
 if ln.ag+1<=10 then([],{ S with lns:=S.lns.set i { ln with ag:=ln.ag+1 } })
 else([.tuple [.str "over",.str ln.num,.str ln.ae]],Cg { S with lns:=S.lns.set i { ln with ag:=ln.ag+1 } } i { ln with ag:=ln.ag+1 } (.tuple [.str "over",.str ln.ae]))
def RQ(K:TH)(a:An):Sp:=λvs H Q _=>∃(X:HX)(R:Ax)(i:Nat)(x:LX),vs=[.ref X.h,.ref x.p]/\HT K a H X R/\X.lines[i]?=some x/\bA { X.S with lns:=X.S.lns.set i { x.l with ag:=x.l.ag+1 } } x.l.held /\
 ∀H' X' r xs,HT K a H' X' ((r,.lst (xs.map V.ref))::R)->X'.h=X.h->X'.S=(Ek X.S i x.l).2->Ah H H'->BW K H' xs (Ek X.S i x.l).1->Q (.ref r) H'
noncomputable def Al(ln:Ln):Ln:={ ln with ae:=ln.ae++D5 ln.ag,ag:=0 }
def De(S:PS)(i:Nat)(ln:Ln):PyData×PS :=
 let S1:PS:={ S with lns:=S.lns.set i (Al ln) }
 if ((Al ln).ae.length:Int)<=S.long-2 then CJ S1 i (Al ln) (Al ln).ae
 else if ((Al ln).ae.length:Int)<S.long then(.tuple [.str "figure",.str ln.num,.str (Al ln).ae],S1)
 else CI S1 i (Al ln) (Al ln).ae
structure Jz(S:PS)(i:Nat)(ln:Ln):Prop where
 p1:ln.ag<=10
 p0:0<=ln.ag
 st:ln.st≠"rests"
 f:ln.ae.length<=100
 hg:∀g∈S.az,M8 g
 aD:ln.held.length<=9
 h:bA { S with lns:=S.lns.set i (Al ln) } ln.held
def RR(K:TH)(a:An):Sp:=λvs H Q E=>∃(X:HX)(R:Ax)(i:Nat)(x:LX),vs=[.ref X.h,.ref x.p]/\HT K a H X R/\X.lines[i]?=some x/\Jz X.S i x.l /\
 (x.l.ag=0->E (.ref a.aV) none H) /\
 (x.l.ag≠0->∀H' X' r b,HT K a H' X' ((r,.lst [.ref b])::R)->X'.h=X.h->X'.S=(De X.S i x.l).2->Ah H H'->Is K H' (.ref b) (De X.S i x.l).1->Q (.ref r) H')
def KY:AM ["many"] ["many"] (Ae<|top 15):=.of
def RS:Gm (Ae<|top 15) "FIGURES":=.of
def AfA:Gm (Ae<|top 15) "within":=.of
def AfB:Gm (Ae<|top 15) "len":=.of
def AfC:Gm (Ae<|top 15) "NoFigure":=.of
def AfD(F:AI K "figure_of" "figure_of" (top 15) f fd)(T:TxtG P w K mg a)(D:Bt P w K mg base Au 1 "within" ["number","least","most"] HP):AB P w K mg base (AJ P w) 2 f fd ["many"] (RP a):=by
 refine F.aY KY.fs λI A outer s H vs Q E B h=>?_
 .obtain ⟨n,rfl,q⟩:=h;have hu:=B.units;have J:=KY.fs.nd;refine⟨_,(@Af _ _ _ _ _ (AR (Es<|Dv (Bf D AfA B.d AN<|Ab (Aa 0 KY) (Ab Am<|Ab (Bc BQ AfB T.n_len BJ<|Ab (DZ (v:=.ref a.fY) RS T.ix rfl) Ac) Ac))) (Ak<|DC DA AfC rfl T.tU T.jH (Ab Ag Ac)) AV)
    (Ak<|AD (AY AZ (DZ (v:=.ref a.fY) RS T.ix rfl) (Av Gg (Aa 0 KY) Am) λ_ _=>rfl))),?_⟩
  try dsimp only[av,aw]
  show TY (A9 _ _ rfl (.inr<|T.kQ _) ?_);apply BC n 1 _ rfl;ext;have e:((Va V.str F0).length:Int)=10:=rfl;rw[e];by_cases h:1<=n/\n<=10
  .rw[c8 h.1,c8 h.2];apply BN;ext;rw[br h]at q;exact TY<|T2 (ER _ _ _ _ rfl ⟨rfl,T.kQ _,Afz h,q⟩)
  .rw[cZ h]at q;have e:(decide (1<=n) && decide (n<=10))=false:=by
    rw [Bool.and_eq_false_iff,decide_eq_false_iff_not,decide_eq_false_iff_not];omega
   rw [e];apply B6;exact⟨by decide,q⟩
def JA:AM ["self","line"] ["self","line"] (Ae<|Ai (top 28) 5):=.of
def AfE:Gm (Ae<|Ai (top 28) 5) "len":=.of
def AfF:Gm (Ae<|Ai (top 28) 5) "FIGURES":=.of
def AfG(F:AI K "pulse" "Hall.pulse" (Ai (top 28) 5) f fd)(T:TxtG P w K mg a)(jF:AO P w K mg base (AJ P w) 5 a.ah "no_call" ["self","line","word"] (KR K a)):AB P w K mg base (AJ P w) 6 f fd ["self","line"] (RQ K a):=by
 refine F.aY JA.fs λaj A outer s H vs Q E hr h=>?_
 .obtain ⟨X,R,i,x,rfl,t,h,hd,q⟩:=h;have jG:=T.hc.cls;have O:=t.ok.lx i x h;refine⟨_,(@Af _ _ _ _ _ (O3 (Aa 1 JA) Am O4)
    (Af (AR (AL IE (AE (Aa 1 JA) rfl) (Bc BQ AfE T.n_len BJ<|Ab (DZ (v:=.ref a.fY) AfF T.ix rfl) Ac)<|AW _) (Ak<|AD (CO Ac)) AV)
    (Ak<|AD (A7 jF jG (Aa 0 JA) hr.d BE<|Ab (Aa 1 JA) (Ab Ag Ac))))),?_⟩
  try dsimp only[av,aw]
  show AK x.p a.Line x.dx _ _ rfl (t.t.ay h) T.lc.cls T.lc.pu rfl ?_;show⟨x.dx,_,t.t.ay h,(UP rfl),?_⟩;obtain⟨B,D⟩:=t.bF h { x with l:={ x.l with ag:=x.l.ag+1 } } rfl rfl rfl rfl rfl rfl rfl O.w O.wt;change HT K a (upd H x.p<|.ins a.Line x.dx (A8 "pulses" (.int<|x.l.ag+1) x.fs)) _ _ at B;change Ah _ (upd H x.p<|.ins a.Line x.dx (A8 "pulses" (.int<|x.l.ag+1) x.fs))at D;have Y:(X.lines.set i { x with l:={ x.l with ag:=x.l.ag+1 } })[i]?=some { x with l:={ x.l with ag:=x.l.ag+1 } }:=B3 h;generalize upd H _ _=H1 at B D ⊢;have l1:=B.t.ay Y;have J:=HX.ig (X:=X) (i:=i) (y:={ x with l:={ x.l with ag:=x.l.ag+1 } });show AK x.p a.Line x.dx _ _ rfl l1 T.lc.cls T.lc.pu rfl ?_;show TY (A9 _ _ rfl (.inr<|T.kQ _) ?_);have e:((Va V.str F0).length:Int)=10:=rfl;rw[e];ext;by_cases I:x.l.ag+1<=10
  .have L:Ek X.S i x.l=([],{ X.S with lns:=X.S.lns.set i { x.l with ag:=x.l.ag+1 } }):=br I;rw[L]at q;apply DS (c8 I);show⟨Ao,λr nr=>?_⟩;exact q _ _ r [] (B.new nr) rfl J (D.trans<|.new nr) .nil
  .have L:Ek X.S i x.l=([.tuple [.str "over",.str x.l.num,.str x.l.ae]],Cg { X.S with lns:=X.S.lns.set i { x.l with ag:=x.l.ag+1 } } i { x.l with ag:=x.l.ag+1 }<|.tuple [.str "over",.str x.l.ae]):=cZ I;rw[L]at q;apply DX (dJ I);show A2 X.h X.dx _ rfl B.t.aA rfl ?_;show Dz { X with lines:=X.lines.set i { x with l:={ x.l with ag:=x.l.ag+1 } } } R i { x with l:={ x.l with ag:=x.l.ag+1 } } ("over") rfl ⟨B,Y,by rwa[J],λH3 X3 r b t3 b8 bH p3 ib=>?_⟩;rw[J]at bH;exact q H3 X3 r [b] t3 b8 bH (D.trans p3)<|.one ib rfl
def C3:AM ["self","line","many"] ["self","line"] (Ae<|Ai (top 28) 6):=.of
def AfH:Gm (Ae<|Ai (top 28) 6) "len":=.of
def AfI:Gm (Ae<|Ai (top 28) 6) "figure_of":=.of
def AfJ:Gm (Ae<|Ai (top 28) 6) "NotSo":=.of
def AfK(F:AI K "gap" "Hall.gap" (Ai (top 28) 6) f fd)(T:TxtG P w K mg a)(oR:Bt P w K mg base (AJ P w) 2 "figure_of" ["many"] (RP a))(abc:AO P w K mg base (AJ P w) 6 a.ah "into_group" ["self","line","figures"] (RO K a))(abd:AO P w K mg base (AJ P w) 6 a.ah "to_line" ["self","line","figures"] (RM K a)):AB P w K mg base (AJ P w) 7 f fd ["self","line"] (RR K a):=by
 refine F.aY C3.fs λaj A outer s H vs Q E hr h=>?_
 .obtain ⟨X,R,i,x,rfl,t,h,ok,q0,q⟩:=h;have abe:=T.hc.cls;have abf:=T.hc.cls;have hu:=hr.units;have nd:=C3.fs.nd;have lx:=t.ok.lx i x h;refine⟨_,(@Af _ _ _ _ _ (AR (AL (B2 hu) (AE (Aa 1 C3) rfl) Am<|AW _) (Ak<|DC DA AfJ rfl T.om T.ie (Ab Ag Ac)) AV)
    (Af (O3 (Aa 1 C3) (Bf oR AfI hr.d BE<|Ab (AE (Aa 1 C3) rfl) Ac) Ad2)
    (Af (BH (Aa 1 C3) Am rfl)
    (Af (A4 2 C3<|Bc BQ AfH T.n_len BJ (Ab (AE (Aa 1 C3) rfl) Ac))
    (Af (AR (AL IE (Aa 2 C3) (Av Gg (AE (Aa 0 C3) rfl) Am)<|AW _) (Ak<|AD (A7 abc abe (Aa 0 C3) hr.d BE<|Ab (Aa 1 C3) (Ab (AE (Aa 1 C3) rfl) Ac))) AV)
    (Af (AR (AL FL (Aa 2 C3) (AE (Aa 0 C3) rfl)<|AW _) (Ak<|AD (CO<|Ab (Fj<|Ab Ag (Ab (AE (Aa 1 C3) rfl)<|Ab (AE (Aa 1 C3) rfl) Ac)) Ac)) AV)
    (Ak<|AD (A7 abd abf (Aa 0 C3) hr.d BE<|Ab (Aa 1 C3) (Ab (AE (Aa 1 C3) rfl) Ac))))))))),?_⟩
  try dsimp only[av,aw]
  show AK x.p a.Line x.dx _ _ rfl (t.t.ay h) T.lc.cls T.lc.pu rfl ?_;ext;by_cases hp:x.l.ag=0
  .refine DS (c8<|congrArg V.int hp) ?_;exact⟨Ao,q0 hp⟩
  .have q:=q hp;apply DX (dJ λe=>hp<|V.int.inj e);have pr:1<=x.l.ag/\x.l.ag<=10:=⟨by have:=ok.p0;omega,ok.p1⟩;have fl:=Jy pr;show AK x.p a.Line x.dx _ _ rfl (t.t.ay h) T.lc.cls T.lc.di rfl ?_;show AK x.p a.Line x.dx _ _ rfl (t.t.ay h) T.lc.cls T.lc.pu rfl ?_;ext;rw[br pr];show⟨(by rw[fl,TZ];have:=ok.f;omega),?_⟩;refine⟨x.dx,_,t.t.ay h,(UP rfl),?_⟩;show Bj x.p a.Line x.dx _ rfl Aq T.lc.cls T.lc.pu (UP rfl) ?_;rw[FI];obtain⟨B,I⟩:=t.bF h { x with l:=Al x.l } rfl rfl rfl rfl rfl rfl rfl lx.w lx.wt;change HT K a (upd H x.p<|.ins a.Line x.dx (A8 "pulses" (.int 0)<|A8 "dialled_so_far" (.str<|x.l.ae++D5 x.l.ag) x.fs)) _ _ at B;change Ah _ (upd H x.p<|.ins a.Line x.dx (A8 "pulses" (.int 0)<|A8 "dialled_so_far" (.str<|x.l.ae++D5 x.l.ag) x.fs))at I;have h1:(X.lines.set i { x with l:=Al x.l })[i]?=some { x with l:=Al x.l }:=B3 h;generalize upd H _ _=J at B I ⊢;have L:J x.p=some (.ins a.Line x.dx<|Cf x.l.num x.i x.h x.l.st (Al x.l).ae 0 (DI x.l.ao) x.wv):=by have z:=B.t.ay h1;exact z
   have x1:J X.h=some (.ins a.ah X.dx<|G6 X.long X.ld X.sd X.qa X.da):=B.t.aA;have D:=HX.ig (X:=X) (i:=i) (y:={ x with l:=Al x.l });have gl:(Al x.l).ae.length=x.l.ae.length+1:=by change(x.l.ae++D5 x.l.ag).length=_;rw[Bk,fl]
   show AK x.p a.Line x.dx _ _ rfl L T.lc.cls T.lc.di rfl ?_;refine T2<|EO ((Al x.l).ae) rfl (by rw[TZ,gl];have:=ok.f;omega) ?_;show AK X.h a.ah X.dx _ _ rfl x1 T.hc.cls T.hc.lo rfl ?_;ext;by_cases O:((Al x.l).ae.length:Int)<=X.long-2
   .have Y:De X.S i x.l=CJ { X.S with lns:=X.S.lns.set i (Al x.l) } i (Al x.l) (Al x.l).ae:=br O;rw[Y]at q;apply DS (c8 O);show A2 X.h X.dx _ rfl x1 rfl ?_;show AK x.p a.Line x.dx _ _ rfl L T.lc.cls T.lc.di rfl ?_;show Dz { X with lines:=X.lines.set i { x with l:=Al x.l } } R i { x with l:=Al x.l } ((Al x.l).ae) rfl ⟨B,h1,by rw[D];exact ok.h,?_,by rw[D];exact ok.hg,ok.aD,λH3 X3 r b t3 b8 bH p3 ib=>?_⟩
    .intro e;rw[e]at gl;have:(TU "").length=0:=rfl;omega
    .rw[D]at bH ib;exact q H3 X3 r b t3 b8 bH (I.trans p3) ib
   .refine DX (dJ O) ?_;show AK X.h a.ah X.dx _ _ rfl x1 T.hc.cls T.hc.lo rfl ?_;ext;by_cases c2:((Al x.l).ae.length:Int)<X.long
    .have Y:De X.S i x.l=(.tuple [.str "figure",.str x.l.num,.str (Al x.l).ae],{ X.S with lns:=X.S.lns.set i (Al x.l) }):=(cZ O).trans<|br c2;rw[Y]at q;apply DS (c8 c2);show AK x.p a.Line x.dx _ _ rfl L T.lc.cls T.lc.nu rfl ?_;show AK x.p a.Line x.dx _ _ rfl L T.lc.cls T.lc.di rfl ?_;show⟨Ao,λb nb=>?_⟩;have s4:=(Aj.refl J).upd (o:=.tup [.str "figure",.str x.l.num,.str (Al x.l).ae]) nb;have e4:(upd J b<|.tup [.str "figure",.str x.l.num,.str (Al x.l).ae]) b=some (.tup [.str "figure",.str x.l.num,.str (Al x.l).ae]):=Aq;have t4:=B.same s4;generalize upd J _ _=H4 at s4 e4 t4 ⊢;refine⟨Ao,λr nr=>?_⟩;have p5:Ah H4 (upd H4 r<|.lst [.ref b]):=.new nr;exact q _ _ r b (t4.new nr) rfl D (I.trans<|(Ah.of s4).trans p5)<|.tup (.of<|p5.t e4) (.cons (.str _)<|.cons (.str _) (.cons (.str _) .nil))
    .have Y:De X.S i x.l=CI { X.S with lns:=X.S.lns.set i (Al x.l) } i (Al x.l) (Al x.l).ae:=(cZ O).trans<|cZ c2;rw[Y]at q;apply DX (dJ c2);show A2 X.h X.dx _ rfl x1 rfl ?_;show AK x.p a.Line x.dx _ _ rfl L T.lc.cls T.lc.di rfl ?_;show AK { X with lines:=X.lines.set i { x with l:=Al x.l } } R i { x with l:=Al x.l } ((Al x.l).ae) rfl B h1 (by rw[D];exact ok.h) ok.st (λH3 X3 r b t3 b8 bH p3 ib=>?_);rw[D]at bH ib;exact q H3 X3 r b t3 b8 bH (I.trans p3) ib
noncomputable def GC(b:Bool):bf:=if b then "stick" else "mend"
noncomputable def Cz(S:PS)(w:bf):Option (List V):=if w=TU "" then some S.sk.hs else(BG S w).map (·.hs)
noncomputable def Co(S:PS)(b:Bool)(w:bf)(k:Int):PS :=
 if w=TU "" then { S with sk:={ S.sk with js:=S.sk.js.set k.toNat b } }
 else { S with az:=S.az.map λg=>if g.pre=w then { g with js:=g.js.set k.toNat b } else g }
def RT(K:TH)(a:An):Sp:=λvs H Q E=>∃(X:HX)(R:Ax)(b:Bool)(z:bf)(k:Int),vs=[.ref X.h,.str (GC b),.str z,.int k]/\HT K a H X R/\Ok z /\
 match Cz X.S z with
 |none=>E (.ref a.aK) none H
 |some hs=>if inR k hs=true then ∀H' X' r,HT K a H' X' ((r,.lst (([]:List ar).map V.ref))::R)->X'.h=X.h->X'.S=Co X.S b z k->Ah H H'->Q (.ref r) H' else E (.ref a.aK) none H
section
variable {K:TH}{a:An}{H:Hp}{X:HX}{R:Ax}
def HT.abg (t:HT K a H X R)(sc:GA K a a.aL)(gc:FT K a a.aM)(e:Cz X.S z=some hs):
  ∃p C L D O js ts,C∈a.bw/\(∃dx fs,H p=some (.ins C dx fs)/\Fs fs L D O)/\CY K a H p C L D O hs js ts/\((z=TU ""/\X.sk.p=p)\/∃(i:Nat)(g:RX),X.groups[i]?=some g/\g.g.pre=z/\g.p=p) /\
   ∀(b:Bool)(k:Int),∃I:HX,I.S=Co X.S b z k/\I.h=X.h/\HT K a (upd H D<|.lst ((js.set k.toNat b).map V.bl)) I R/\Ah H (upd H D<|.lst ((js.set k.toNat b).map V.bl)):=by
 by_cases B:z=TU ""
 .have s:=t.t.jx sc t.ok.sk;obtain⟨dx,Y⟩:=s.ins;have J:X.sk.k.hs=hs:=by
   unfold Cz at e;rw[br B]at e;exact Us e
  subst J;refine⟨X.sk.p,a.aL,X.sk.ra,X.sk.rb,X.sk.rc,X.sk.k.js,X.sk.k.ts,sc.c.mem,⟨dx,_,Y,KD ..⟩,s.r,.inl ⟨B,rfl⟩,λb k=>⟨{ X with sk:={ X.sk with k:={ X.sk.k with js:=X.sk.k.js.set k.toNat b } } },?_,rfl,t.aa2 (js':=X.sk.k.js.set k.toNat b)<|by rw[Uo],.chg s.hb rfl⟩⟩;unfold Co;rw[br B];rfl
 .have gx:(X.S.az.map (·.pre)).Nodup:=by change((X.groups.map (·.g)).map (·.pre)).Nodup;rw[Uq];exact t.ok.pre
  have m:z∈X.groups.map (·.g.pre):=by apply Yd;intro m;unfold Cz at e;rw[cZ B,show BG X.S z=none from KU<|by change z ∉ (X.groups.map (·.g)).map (·.pre);rwa[Uq]]at e;cases e
  obtain⟨i,g,h,rfl⟩:=Bv<|Js m;have ej:X.S.az[i]?=some g.g:=by change(X.groups.map (·.g))[i]?=_;rw[T6,h];rfl
  have J:g.g.hs=hs:=by unfold Cz at e;rw[cZ B,show BG X.S g.g.pre=some g.g from Jw gx ej]at e;exact Us e
  subst J;have r:=t.t.ia h gc<|t.ok.gr g (Ug h);refine⟨g.p,a.aM,g.ra,g.rb,g.rc,g.g.js,g.g.ts,gc.mem,r.ins,r,.inr ⟨i,g,h,rfl,rfl⟩,λb k=>⟨{ X with groups:=X.groups.set i { g with g:={ g.g with js:=g.g.js.set k.toNat b } } },?_,rfl,t.aa4 h (js':=g.g.js.set k.toNat b)<|by rw[Uo],.chg r.hb rfl⟩⟩;unfold Co;rw[cZ B];exact HX.oo (h:=λy=>{ y with js:=y.js.set k.toNat b }) t.ok.pre h rfl
def RV (e:Cz S z=none):z≠TU ""/\z ∉ S.az.map (·.pre):=by
 unfold Cz at e;by_cases B:z=TU ""
 .rw[br B]at e;cases e
 .rw[cZ B]at e;refine⟨B,λm=>?_⟩;obtain⟨g,mg,D⟩:=As<|Uc.mp m;unfold BG at e;rw[yi,yh]at e;exact e g mg<|c8 D
end
def F1:AM ["self","word","where","k"] ["self","word","where","k"] (Ae<|Ai (top 28) 2):=.of
def AfL(F:AI K "at_switch" "Hall.at_switch" (Ai (top 28) 2) f fd)(T:TxtH P w K mg a)(V:AO P w K mg base (AJ P w) 1 a.ah "switches_of" ["self","where"] (He K a))(oS:∀C∈a.bw,AO P w K mg base (AJ P w) 3 C "stick" ["self","k"]<|Kx K a true)(oT:∀C∈a.bw,AO P w K mg base (AJ P w) 3 C "mend" ["self","k"]<|Kx K a false):AB P w K mg base (AJ P w) 4 f fd ["self","word","where","k"] (RT K a):=by
 refine F.aY F1.fs λaj A outer s H vs Q E J h=>?_
 .obtain ⟨X,R,b,z,k,rfl,t,Y,q⟩:=h;have cy:=T.cy;have iz:=T.hc.cls;have hu:=J.units;have nd:=F1.fs.nd;refine⟨_,(@Af _ _ _ _ _ (AR (AL (B2 hu) (Aa 1 F1) Ag<|AW _) (Ak<|A5 (Mt oS cy (A7 V iz (Aa 0 F1) J.d BE<|Ab (Aa 2 F1) Ac) J.d BE<|Ab (Aa 3 F1) Ac))<|Ak (A5<|Mt oT cy (A7 V iz (Aa 0 F1) J.d BE<|Ab (Aa 2 F1) Ac) J.d BE (Ab (Aa 3 F1) Ac)))
    (Ak<|AD (CO Ac))),?_⟩
  try dsimp only[av,aw]
  have D:X.S.az.map (·.pre)=X.groups.map (·.g.pre):=by change(X.groups.map (·.g)).map (·.pre)=_;rw[Uq];rfl
  cases eh:Cz X.S z with
  |none =>
   rw [eh]at q;obtain⟨z0,zn⟩:=RV eh;rw[D]at zn;cases b;all_goals
    show A2 X.h X.dx _ rfl t.t.aA rfl ?_;ext;exact⟨X,R,z,rfl,t,Y,λe=>absurd e z0,λi g L e=>absurd (Uc.mpr ⟨g,Ug L,e⟩) zn,λ_ _=>q⟩
  |some hs =>
   rw [eh]at q;dsimp only at q;obtain⟨p,C,ra,rb,rc,js,ts,mC,⟨dx,fs,ep,F3⟩,rk,O,bh⟩:=t.abg T.sc T.gc eh;have go:∀(cont:VK),cont (.ref p) H->He K a [.ref X.h,.str z] H cont E:=λcont c=>by
    refine BC X R z rfl ⟨t,Y,λe=>?_,λi g L e=>?_,λn0 n=>?_⟩
    .rcases O with ⟨_,rfl⟩|⟨j,g,I,B,_⟩
     .exact c
     .exact absurd (B.trans e) (t.ok.ne g<|Ug I)
    .rcases O with ⟨B,_⟩|⟨j,g2,I,B,rfl⟩
     .exact absurd (e.trans B) (t.ok.ne g<|Ug L)
     .by_cases ij:i=j
      .subst ij;rw[L]at I;cases I;exact c
      .exact absurd (e.trans B.symm) (FW t.ok.pre (i:=i) (j:=j) (by rw[T6,L];rfl) (by rw[T6,I];rfl) ij)
    .rcases O with ⟨B,_⟩|⟨j,g2,I,B,_⟩
     .exact absurd B n0
     .exact absurd (Uc.mpr ⟨g2,Ug I,B⟩) n
   cases b;all_goals
    show A2 X.h X.dx _ rfl t.t.aA rfl ?_;ext;dsimp only[BP];apply go _;apply Bx p C dx fs rfl mC ep (F3.m _<|by decide);show Gk p k C ra rb rc hs js ts rfl ⟨rk,?_⟩;by_cases hk:inR k hs=true
    .rw[br hk]at q ⊢;obtain⟨X',e1,B,t2,p2⟩:=AG<|bh _ k;show⟨Ao,λr nr=>?_⟩;exact q _ X' r (t2.new nr) B e1<|p2.trans (.new nr)
    .rw[cZ hk]at q ⊢;exact q
inductive LW where
 |lift|cg|gap|bB
noncomputable def LW.wo:LW->bf
 |.lift=>"lift" |.cg=>"pulse" |.gap=>"gap" |.bB=>"hang"
noncomputable def LW.b7:LW->List bf
 |.lift=>["rests","rung"]|.cg=>["dials"]|.gap=>["dials"]|.bB=>["waits","dials","rings","talks","told"]
noncomputable def LW.fits(d:LW)(ln:Ln):Bool:=decide (ln.st∈d.b7) && (match d with|.gap=>decide (ln.ag≠0)|_=>true)
def LW.ok(d:LW)(S:PS)(i:Nat)(ln:Ln):Prop:=match d with
 |.lift=>M6 S i ln
 |.cg=>bA { S with lns:=S.lns.set i { ln with ag:=ln.ag+1 } } ln.held
 |.gap=>Jz S i ln
 |.bB=>Jv S i ln
noncomputable def LW.go(d:LW)(S:PS)(i:Nat)(ln:Ln):List PyData×PS:=match d with
 |.lift=>([(CB S i ln).1],(CB S i ln).2)
 |.cg=>Ek S i ln
 |.gap=>([(De S i ln).1],(De S i ln).2)
 |.bB=>Dt S i ln
def RW(K:TH)(a:An):Sp:=λvs H Q E=>∃(X:HX)(R:Ax)(d:LW)(z:bf),vs=[.ref X.h,.str d.wo,.str z]/\HT K a H X R/\Ok z/\X.q.length<1000 /\
 (z ∉ X.S.lns.map (·.num)->E (.ref a.aT) none H) /\
 ∀(i:Nat)(ln:Ln),X.S.lns[i]?=some ln->ln.num=z->Ok ln.st/\(d.fits ln=false->(d=.gap->ln.st∈d.b7->Jz X.S i ln)/\E (.ref a.aV) none H) /\
  (d.fits ln=true->d.ok X.S i ln/\∀H' X' r xs,HT K a H' X' ((r,.lst (xs.map V.ref))::R)->X'.h=X.h->X'.S=(d.go X.S i ln).2->Ah H H'->BW K H' xs (d.go X.S i ln).1->Q (.ref r) H')
def KZ(z:bf)(ks:List bf):Ec (.str z) (ks.map V.str)=decide (z∈ks):=by
 unfold Ec;rw[List.any_map,Ws,xX,decide_eq_true_eq];constructor
 .intro B;obtain⟨k,hk,e⟩:=As B;have D:decide (k=z)=true:=by simpa [DR]using e
  rwa[<-of_decide_eq_true D]
 .exact λh=>⟨z,h,by simp[DR]⟩
def AfM:Cm (CB S i ln).1=true:=by
 unfold CB;split
 .rfl
 .split
  .rfl
  .split<;>rfl
def AfN:Cm (CI S i ln z).1=true:=by
 unfold CI;split
 .rfl
 .split<;>rfl
def AfO:Cm (CJ S i ln z).1=true:=by
 unfold CJ;split
 .rfl
 .split
  .rename_i g _ _ _
   change(true && (true && ((true && (true && (bM (CZ g) && true))) && true)))=true;rw[show bM (CZ g)=true from KW _];rfl
  .rfl
def Na:Cm (De S i ln).1=true:=by
 unfold De;dsimp only;split
 .exact AfO
 .split
  .rfl
  .exact AfN
def C4:AM ["self","word","number","line"] ["self","word","number"] (Ae<|Ai (top 28) 3):=.of
def AfP:Gm (Ae<|Ai (top 28) 3) "WAYS":=.of
def AfQ:Gm (Ae<|Ai (top 28) 3) "NotSo":=.of
def AfR(F:AI K "at_line" "Hall.at_line" (Ai (top 28) 3) f fd)(T:TxtG P w K mg a)(dh:AO P w K mg base (AJ P w) 1 a.ah "line_of" ["self","number"] (G9 K a))(abh:AO P w K mg base Au 3 a.ah "lift" ["self","line"] (RI K a))(abi:AO P w K mg base (AJ P w) 6 a.ah "hang" ["self","line"] (RJ K a))(abj:AO P w K mg base (AJ P w) 6 a.ah "pulse" ["self","line"] (RQ K a))(abk:AO P w K mg base (AJ P w) 7 a.ah "gap" ["self","line"] (RR K a)):AB P w K mg base (AJ P w) 8 f fd ["self","word","number"] (RW K a):=by
 refine F.aY C4.fs λaj A outer s H vs Q E Y h=>?_
 .obtain ⟨X,R,d,z,rfl,t,zk,qz,q0,q⟩:=h;have abl:=T.hc.cls;have abm:=T.hc.cls;have abn:=T.hc.cls;have abo:=T.hc.cls;have dj:=T.hc.cls;have hu:=Y.units;have nd:=C4.fs.nd;obtain⟨w1,w2,w3,w4,kd,sq1,sq2,sq3,sq4⟩:=DN T.b7;have B:X.S.lns.map (·.num)=X.lines.map (·.l.num):=by change(X.lines.map (·.l)).map (·.num)=_;rw[Uq];rfl
  rw [B]at q0;refine⟨_,(@Af _ _ _ _ _ (A4 3 C4<|A7 dh dj (Aa 0 C4) Y.d BE (Ab (Aa 2 C4) Ac))
    (Af (AR (AL Kb (AE (Aa 3 C4) rfl) (Ap P w K (DZ (v:=.ref a.fX) AfP T.kM rfl)<|Aa 1 C4)<|by with_unfolding_all rfl) (Ak<|DC DA AfQ rfl T.om T.ie (Ab (GU<|CT Ag (CT (Jd<|Aa 1 C4)<|CT Ag (CT (IS<|AE (Aa 3 C4) rfl) GS))) Ac)) AV)
    (Af (AR (AL (B2 hu) (Aa 1 C4) Ag<|AW _) (Ak<|AD (A7 abh abl (Aa 0 C4) Y.d AN<|Ab (Aa 3 C4) Ac)) AV)
    (Af (AR (AL (B2 hu) (Aa 1 C4) Ag<|AW _) (Ak<|AD (A7 abj abn (Aa 0 C4) Y.d BE<|Ab (Aa 3 C4) Ac)) AV)
    (Af (AR (AL (B2 hu) (Aa 1 C4) Ag<|AW _) (Ak<|AD (A7 abk abo (Aa 0 C4) Y.d BE<|Ab (Aa 3 C4) Ac)) AV)
    (Ak<|AD (A7 abi abm (Aa 0 C4) Y.d BE<|Ab (Aa 3 C4) Ac))))))),?_⟩
  try dsimp only[av,aw]
  have bb:start ["self","word","number","line"] [V.ref X.h,V.str d.wo,V.str z]=[some<|.ref X.h,some<|.str d.wo,some<|.str z,none]:=rfl;simp only[bb,VE,VF];show A2 X.h X.dx _ rfl t.t.aA rfl ?_;show BC X R z rfl ⟨t,zk,λi x h ez=>?_,q0⟩;have ej:X.S.lns[i]?=some x.l:=by change(X.lines.map (·.l))[i]?=_;rw[T6,h];rfl
  obtain⟨sk,qf,qt⟩:=AU<|q i x.l ej ez;have fE:=Jo sk;have e0:Uw.length=0:=rfl;have e1:(TU "no ").length=3:=by decide +kernel
  have e2:(TU " of a line in the way ").length=22:=by decide +kernel
  have lw:d.wo.length<=10:=by cases d<;>decide +kernel
  show AK x.p a.Line x.dx _ _ rfl (t.t.ay h) T.lc.cls T.lc.st rfl ?_;ext;have key:∃tw,Ba [((.inr "lift":Ay),V.ref w1),(.inr "pulse",.ref w2),(.inr "gap",.ref w3),(.inr "hang",.ref w4)] (.inr d.wo)=some (.ref tw)/\∀H,Bw K H tw (d.b7.map V.str):=by
   cases d
   .exact ⟨w1,rfl,sq1⟩
   .exact ⟨w2,rfl,sq2⟩
   .exact ⟨w3,rfl,sq3⟩
   .exact ⟨w4,rfl,sq4⟩
  obtain⟨tw,ev,sqw⟩:=As key;apply Bx a.fX _ (.inr d.wo) _ rfl rfl (.inr kd) ev;refine TY<|Ee tw _ rfl (.inr<|sqw _) rfl (by cases d<;>rfl) ?_;rw[KZ];by_cases hw:x.l.st∈d.b7
  .rw[c8 hw];cases d with
   |lift =>
    obtain⟨ok,q⟩:=qt (by unfold LW.fits;rw[c8 hw];rfl);show A2 X.h X.dx _ rfl t.t.aA rfl ?_;ext;exact⟨X,R,i,x,rfl,t,h,qz,ok,λD I r b J L O p ib=>q D I r [b] J L O p<|.one ib AfM⟩
   |cg =>
    obtain⟨ok,q⟩:=qt (by unfold LW.fits;rw[c8 hw];rfl);show A2 X.h X.dx _ rfl t.t.aA rfl ?_;ext;exact⟨X,R,i,x,rfl,t,h,ok,λD I r xs J L O p td=>q D I r xs J L O p td⟩
   |gap =>
    show A2 X.h X.dx _ rfl t.t.aA rfl ?_;ext;by_cases hp:x.l.ag=0
    .obtain ⟨ok,e⟩:=qf (by unfold LW.fits;rw[c8 hw];dsimp only;rw[dJ λn=>n hp];rfl);exact⟨X,R,i,x,rfl,t,h,ok rfl hw,λ_=>e,λn=>absurd hp n⟩
    .obtain ⟨ok,q⟩:=qt (by unfold LW.fits;rw[c8 hw];dsimp only;rw[c8 hp];rfl);exact⟨X,R,i,x,rfl,t,h,ok,λn=>absurd n hp,λ_ D I r b J L O p ib=>q D I r [b] J L O p<|.one ib Na⟩
   |bB =>
    obtain⟨ok,q⟩:=qt (by unfold LW.fits;rw[c8 hw];rfl);show A2 X.h X.dx _ rfl t.t.aA rfl ?_;ext;exact⟨X,R,i,x,rfl,t,h,qz,ok,λD I r xs J L O p td=>q D I r xs J L O p td⟩
  .rw[dJ hw];obtain⟨_,e⟩:=qf (by unfold LW.fits;rw[dJ hw];rfl);show⟨(by simp only[Bk,e0,e1,e2,TZ];omega),?_⟩;show TY (Cd _ rfl ⟨(by rw[TZ];omega),_,rfl,?_⟩);refine⟨(by simp only[Bk,e0,e1,e2,TZ];omega),?_⟩;show⟨(by simp only[Bk,e0,e1,e2,TZ];omega),?_⟩;show AK x.p a.Line x.dx _ _ rfl (t.t.ay h) T.lc.cls T.lc.st rfl ?_;show⟨(by rw[TZ];omega),?_⟩;show⟨(by simp only[Bk,e0,e1,e2,TZ];omega),?_⟩;refine⟨(by simp only[Bk,e0,e1,e2,TZ];omega),?_⟩;exact⟨Ao,e⟩
inductive Bg where
 |bh (b:Bool) (w:bf) (k:Int)
 |line (d:LW) (z:bf)
noncomputable def Bg.vals:Bg->List V
 |.bh b w k=>[.str (GC b),.str w,.int k]
 |.line d z=>[.str d.wo,.str z]
inductive Er where
 |bN|bO|cj
noncomputable def Er.adr(a:An):Er->ar
 |.bN=>a.aT|.bO=>a.aK|.cj=>a.aV
noncomputable def Bg.res(S:PS):Bg->Er ⊕ (List PyData×PS)
 |.bh b w k=>match Cz S w with
  |none=>.inl .bO
  |some hs=>if inR k hs=true then .inr ([],Co S b w k)else .inl .bO
 |.line d z=>match S.lns[Bd S.lns z]? with
  |none=>.inl .bN
  |some ln=>if d.fits ln=true then .inr (d.go S (Bd S.lns z) ln)else .inl .cj
def Bg.pre(S:PS):Bg->Prop
 |.bh _ w _=>Ok w
 |.line d z=>Ok z/\∀ln,S.lns[Bd S.lns z]?=some ln->Ok ln.st/\(d=.gap->ln.st∈d.b7->Jz S (Bd S.lns z) ln)/\(d.fits ln=true->d.ok S (Bd S.lns z) ln)
noncomputable def Dl(S:PS)(dd:ar):PS:={ S with dn:=S.dn++[.ref dd] }
def RY(K:TH)(a:An):Sp:=λvs H Q E=>∃(X:HX)(R:Ax)(d:Bg)(dd:ar),vs=[.ref X.h,.ref dd]/\HT K a H X R/\H dd=some (.tup d.vals)/\d.pre X.S/\X.q.length<1000 /\
 match d.res X.S with
 |.inl e=>∀H',Aj H H'->E (.ref (e.adr a)) none H'
 |.inr r=>Ej r.2/\r.2.dn.length<1000000/\r.1.length<=10/\∀H' X' p xs,HT K a H' X' ((p,.lst (xs.map V.ref))::R)->X'.h=X.h->X'.S=(Cv (Dl r.2 dd)).2->Ah H H'->BW K H' xs (r.1++(Cv (Dl r.2 dd)).1)->Q (.ref p) H'
def At.sub (t:At H C)(s:C'.Sublist C):At H C':=⟨λc m=>t.at_ c<|s.subset m,(s.map _).nodup t.nd⟩
def HT.sub (t:HT K a H X R)(s:R'.Sublist R):HT K a H X R':=⟨t.t.sub<|(Xq _).append ((Xq _).append<|(Xq _).append ((Xq _).append s)),t.ok⟩
theorem Nb:∀(n:Nat)(S:PS),(aP n S).1.length<=n
 |0,_=>Ua 0
 |n+1,S=>by
  unfold aP;split
  .exact Vc _
  .exact YA (Nb n _)
def HT.nY (t:HT K a H X R)(d':List V):HT K a (upd H X.da<|.lst d') { X with dn:=d' } R/\Ah H (upd H X.da<|.lst d'):=by have B:Ah H (upd H X.da<|.lst d'):=.chg t.t.dn rfl;exact⟨⟨t.t.nY,⟨t.ok.num,t.ok.pre,t.ok.ne,λi x h=>(t.ok.lx i x h).ak B,t.ok.gr,t.ok.sk⟩⟩,B⟩
def DK:AM ["self","deed","answer"] ["self","deed"] (Ae<|Ai (top 28) 1):=.of
def AfS(F:AI K "do" "Hall.do" (Ai (top 28) 1) f fd)(T:TxtG P w K mg a)(abp:AO P w K mg base (AJ P w) 4 a.ah "at_switch" ["self","word","where","k"] (RT K a))(abq:AO P w K mg base (AJ P w) 8 a.ah "at_line" ["self","word","number"] (RW K a))(abr:AO P w K mg base Au 3 a.ah "tones" ["self"] (RF K a)):AB P w K mg base (AJ P w) 9 f fd ["self","deed"] (RY K a):=by
 refine F.aY DK.fs λaj A outer s H vs Q E hr h=>?_
 .obtain ⟨X,R,d,D,rfl,t,cm,pre,qz,q⟩:=h;have abt:=T.hc.cls;have abu:=T.hc.cls;have abv:=T.hc.cls;have hu:=hr.units;have nd:=DK.fs.nd;refine⟨_,(@Af _ _ _ _ _ (AR (AL Gp (AY AZ (Aa 1 DK) Am λ_ _=>rfl) (Fj<|Ab Ag (Ab Ag Ac))<|by with_unfolding_all rfl) (Ak<|A4 2 DK (A7 abp abt (Aa 0 DK) hr.d BE<|Ab (AY AZ (Aa 1 DK) Am λ_ _=>rfl) (Ab (AY AZ (Aa 1 DK) Am λ_ _=>rfl)<|Ab (AY AZ (Aa 1 DK) Am λ_ _=>rfl) Ac)))<|Ak (A4 2 DK<|A7 abq abu (Aa 0 DK) hr.d BE (Ab (AY AZ (Aa 1 DK) Am λ_ _=>rfl)<|Ab (AY AZ (Aa 1 DK) Am λ_ _=>rfl) Ac)))
    (Af (A5<|Cr UZ Vf Vg C9 (AE (Aa 0 DK) rfl) (Ab (Aa 1 DK) Ac))
    (Ak<|AD (Av B5 (Aa 2 DK)<|FO abr abv (Aa 0 DK) hr.d AN)))),?_⟩
  try dsimp only[av,aw]
  have bb:start ["self","deed","answer"] [V.ref X.h,V.ref D]=[some<|.ref X.h,some<|.ref D,none]:=rfl;simp only[bb,VE,VF];refine M5 λC hC=>?_;have rest:∀(rr:List PyData×PS),d.res X.S=.inr rr->∀(L:Hp)(B:HX)(r:ar)(O:List ar),HT K a L B ((r,.lst<|O.map V.ref)::R)->B.h=X.h->B.S=rr.2->Ah H L->BW K L O rr.1->C [some<|.ref X.h,some<|.ref D,some<|.ref r] L:=by
   intro rr J L B r O t2 eh eS p2 td;rw[J]at q;replace q:=AU q;obtain⟨cT,dz,tz,q⟩:=q;rw[hC,<-eh];have eSd:B.dn=rr.2.dn:=by rw[<-eS];rfl
   show AK B.h a.ah B.dx _ _ rfl t2.t.aA T.hc.cls T.hc.dn rfl ?_;refine⟨.inl ⟨rfl,_,.of t2.t.dn⟩,?_⟩;show CS B.da _ _ rfl rfl t2.t.dn (by rw[TZ,eSd];omega) ?_;obtain⟨t3,p3⟩:=t2.nY<|B.dn++[.ref D];have e3:({ B with dn:=B.dn++[.ref D] }:HX).S=Dl rr.2 D:=by change({ B.S with dn:=B.S.dn++[.ref D] }:PS)=_;rw[eS];rfl
   have q3:Ej (Dl rr.2 D):=⟨cT.nd,cT.ln,cT.num,cT.m0,cT.m1,cT.pl,cT.aD⟩;generalize upd L _ _=H3 at t3 p3 ⊢;have x3:=t3.t.aA;show A2 B.h B.dx _ rfl x3 rfl ?_;dsimp only[BP];refine CQ { B with dn:=B.dn++[.ref D] } _ rfl t3 (by rw[e3];exact q3) λH4 X4 r4 dR jE ir t4 p4 iA=>?_;rw[e3]at ir iA;have iB:H4 r4=some (.lst<|dR.map V.ref):=t4.t.rest.hd;have fE:H4 r=some (.lst<|O.map V.ref):=t4.t.rest.tl.hd;have jI:=td.ak<|p3.trans p4;have f1:=jI.len;have f2:=iA.len;have f3:(Cv<|Dl rr.2 D).1.length<=100:=U1 (Nb _ _) cT.aD;show TY (TY<|Bj r r4 _ _ rfl rfl fE iB (by rw[TN,TN,TZ];omega) (λp np=>?_));rw[<-Ui];have t5:=(t4.new (u:=.lst<|(O++dR).map V.ref) np).sub (R':=(p,.lst<|(O++dR).map V.ref)::R)<|.cons₂ _ (.cons _<|.cons _ (.refl _));have p5:Ah H4 (upd H4 p<|.lst ((O++dR).map V.ref)):=.new np;exact q _ X4 p (O++dR) t5 (jE.trans eh) ir (p2.trans<|p3.trans (p4.trans p5))<|(jI.app iA).ak p5
  clear hC
  have atd:∀{H1:Hp}{n:Nat}{v:V},Aj H H1->d.vals[n]?=some v->Bw K H1 D d.vals/\Cb d.vals (n:Int)=some v:=λI e=>⟨.of<|I _ _ cm,Fm e⟩;cases d with
  |bh b z k =>
   have Y:=q;show TY (T2<|Bx D _ _ _ rfl rfl (.of cm) rfl ?_);show⟨Ao,λu nu=>?_⟩;have I:=(Aj.refl H).upd (o:=.tup [.str "stick",.str "mend"]) nu;have eu:(upd H u<|.tup [.str "stick",.str "mend"]) u=some (.tup [.str "stick",.str "mend"]):=Aq;generalize upd H _ _=H1 at I eu ⊢;refine TY<|Ee u _ rfl (.inr<|.of eu) rfl rfl ?_;have ei:Ec (.str<|GC b) [V.str "stick",V.str "mend"]=true:=by cases b<;>rfl
   rw [ei];have t1:=t.same I;have d1:=I _ _ cm;show A2 X.h X.dx _ rfl t1.t.aA rfl ?_;show TY (T2<|Bx D _ _ _ rfl rfl (.of d1) rfl ?_);show TY (T2<|Bx D _ _ _ rfl rfl (.of d1) rfl ?_);show TY (T2<|Bx D _ _ _ rfl rfl (.of d1) rfl ?_);dsimp only[BP];refine Dz X R b z k rfl ⟨t1,pre,?_⟩;cases eh:Cz X.S z with
   |none =>
    have J:Bg.res X.S (.bh b z k)=.inl .bO:=by simp only[Bg.res,eh]
    rw [J]at Y;exact Y H1 I
   |some hs =>
    dsimp only;by_cases hk:inR k hs=true
    .have J:Bg.res X.S (.bh b z k)=.inr ([],Co X.S b z k):=by simp only[Bg.res,eh,br hk]
     rw [br hk];intro L B r t2 de cK p2;exact rest _ J L B r [] t2 de cK ((Ah.of I).trans p2) .nil
    .have J:Bg.res X.S (.bh b z k)=.inl .bO:=by simp only[Bg.res,eh,cZ hk]
     rw [J]at Y;rw[cZ hk];exact Y H1 I
  |line d z =>
   have Y:=q;show TY (T2<|Bx D _ _ _ rfl rfl (.of cm) rfl ?_);show⟨Ao,λu nu=>?_⟩;have I:=(Aj.refl H).upd (o:=.tup [.str "stick",.str "mend"]) nu;have eu:(upd H u<|.tup [.str "stick",.str "mend"]) u=some (.tup [.str "stick",.str "mend"]):=Aq;generalize upd H _ _=H1 at I eu ⊢;refine TY<|Ee u _ rfl (.inr<|.of eu) rfl rfl ?_;have ei:Ec (.str d.wo) [V.str "stick",V.str "mend"]=false:=by cases d<;>rfl
   rw [ei];have t1:=t.same I;have d1:=I _ _ cm;show A2 X.h X.dx _ rfl t1.t.aA rfl ?_;show TY (T2<|Bx D _ _ _ rfl rfl (.of d1) rfl ?_);show TY (T2<|Bx D _ _ _ rfl rfl (.of d1) rfl ?_);dsimp only[BP];refine Bj X R d z rfl t1 pre.1 qz (λzn=>?_) λi ln ej ez=>?_
   .have J:Bg.res X.S (.line d z)=.inl .bN:=by simp only[Bg.res,KS zn]
    rw [J]at Y;exact Y H1 I
   .have gw:=t.kP ej;rw[ez]at gw;have iu:X.S.lns[Bd X.S.lns z]?=some ln:=by rw[gw];exact ej
    obtain⟨k1,k2,k3⟩:=AU<|pre.2 ln iu;rw[gw]at k2 k3;refine⟨k1,λhf=>⟨k2,?_⟩,λhf=>⟨k3 hf,λL B r O t2 de cK p2 td=>?_⟩⟩
    .have J:Bg.res X.S (.line d z)=.inl .cj:=by simp only[Bg.res,iu,cZ (show ¬d.fits ln=true by rw[hf];exact UN)]
     rw [J]at Y;exact Y H1 I
    .have J:Bg.res X.S (.line d z)=.inr (d.go X.S i ln):=by simp only[Bg.res,gw,ej,br hf]
     exact rest _ J L B r O t2 de cK ((Ah.of I).trans p2) td
def F2(K:TH)(a:An)(sel:LX->V):Sp:=λvs H Q E=>∃(X:HX)(R:Ax)(z:bf),vs=[.ref X.h,.str z]/\HT K a H X R/\Ok z /\
 (∀(i:Nat)(x:LX),X.lines[i]?=some x->x.l.num=z->Q (sel x) H)/\(z ∉ X.lines.map (·.l.num)->E (.ref a.aT) none H)
def RZ(K:TH)(a:An):Sp:=λvs H Q E=>∃(X:HX)(R:Ax)(z:bf),vs=[.ref X.h,.str z]/\HT K a H X R/\Ok z /\
 (∀(i:Nat)(x:LX),X.lines[i]?=some x->x.l.num=z->∀l,H l=none->Q (.ref l) (upd H l (.lst (x.hv.map V.ref))))/\(z ∉ X.lines.map (·.l.num)->E (.ref a.aT) none H)
def Hh(K:TH)(a:An)(sel:HX->List V):Sp:=λvs H Q _=>∃(X:HX)(R:Ax),vs=[.ref X.h]/\HT K a H X R/\∀l,H l=none->Q (.ref l) (upd H l (.lst (sel X)))
def Nc:AM ["self","line"] ["self","line"] (Ae<|Ai (top 28) 18):=.of
def AfT(F:AI K "way" "Hall.way" (Ai (top 28) 18) f fd)(T:TxtH P w K mg a)(B:AO P w K mg base (AJ P w) 1 a.ah "line_of" ["self","number"] (G9 K a)):AB P w K mg base (AJ P w) 2 f fd ["self","line"] (F2 K a λx=>.str x.l.st):=by
 refine F.aY Nc.fs λV A outer s H vs Q E D h=>?_
 .obtain ⟨X,R,z,rfl,t,I,q,J⟩:=h;have L:=T.hc.cls;refine⟨_,(@Ak _ _ _<|AD (AE (A7 B L (Aa 0 Nc) D.d BE<|Ab (Aa 1 Nc) Ac) rfl)),?_⟩;try dsimp only[av,aw]
  show A2 X.h X.dx _ rfl t.t.aA rfl ?_;show BC X R z rfl ⟨t,I,λi x h O=>?_,J⟩;exact⟨x.p,a.Line,x.dx,_,_,rfl,t.t.ay h,T.lc.cls,T.lc.st,rfl,q i x h O⟩
def Nd:AM ["self","line"] ["self","line"] (Ae<|Ai (top 28) 19):=.of
def AfU(F:AI K "figures" "Hall.figures" (Ai (top 28) 19) f fd)(T:TxtH P w K mg a)(B:AO P w K mg base (AJ P w) 1 a.ah "line_of" ["self","number"] (G9 K a)):AB P w K mg base (AJ P w) 2 f fd ["self","line"] (F2 K a λx=>.str x.l.ae):=by
 refine F.aY Nd.fs λV A outer s H vs Q E D h=>?_
 .obtain ⟨X,R,z,rfl,t,I,q,J⟩:=h;have L:=T.hc.cls;refine⟨_,(@Ak _ _ _<|AD (AE (A7 B L (Aa 0 Nd) D.d BE<|Ab (Aa 1 Nd) Ac) rfl)),?_⟩;try dsimp only[av,aw]
  show A2 X.h X.dx _ rfl t.t.aA rfl ?_;show BC X R z rfl ⟨t,I,λi x h O=>?_,J⟩;exact⟨x.p,a.Line,x.dx,_,_,rfl,t.t.ay h,T.lc.cls,T.lc.di,rfl,q i x h O⟩
def Nf:AM ["self","line"] ["self","line"] (Ae<|Ai (top 28) 21):=.of
def AfV(F:AI K "other" "Hall.other" (Ai (top 28) 21) f fd)(T:TxtH P w K mg a)(B:AO P w K mg base (AJ P w) 1 a.ah "line_of" ["self","number"] (G9 K a)):AB P w K mg base (AJ P w) 2 f fd ["self","line"] (F2 K a λx=>DI x.l.ao):=by
 refine F.aY Nf.fs λV A outer s H vs Q E D h=>?_
 .obtain ⟨X,R,z,rfl,t,I,q,J⟩:=h;have L:=T.hc.cls;refine⟨_,(@Ak _ _ _<|AD (AE (A7 B L (Aa 0 Nf) D.d BE<|Ab (Aa 1 Nf) Ac) rfl)),?_⟩;try dsimp only[av,aw]
  show A2 X.h X.dx _ rfl t.t.aA rfl ?_;show BC X R z rfl ⟨t,I,λi x h O=>?_,J⟩;exact⟨x.p,a.Line,x.dx,_,_,rfl,t.t.ay h,T.lc.cls,T.lc.fa,rfl,q i x h O⟩
def Ng:AM ["self","line"] ["self","line"] (Ae<|Ai (top 28) 22):=.of
def AfW(F:AI K "told_paper" "Hall.told_paper" (Ai (top 28) 22) f fd)(T:TxtH P w K mg a)(B:AO P w K mg base (AJ P w) 1 a.ah "line_of" ["self","number"] (G9 K a)):AB P w K mg base (AJ P w) 2 f fd ["self","line"] (F2 K a λx=>x.wv):=by
 refine F.aY Ng.fs λV A outer s H vs Q E D h=>?_
 .obtain ⟨X,R,z,rfl,t,I,q,J⟩:=h;have L:=T.hc.cls;refine⟨_,(@Ak _ _ _<|AD (AE (A7 B L (Aa 0 Ng) D.d BE<|Ab (Aa 1 Ng) Ac) rfl)),?_⟩;try dsimp only[av,aw]
  show A2 X.h X.dx _ rfl t.t.aA rfl ?_;show BC X R z rfl ⟨t,I,λi x h O=>?_,J⟩;exact⟨x.p,a.Line,x.dx,_,_,rfl,t.t.ay h,T.lc.cls,T.lc.wh,rfl,q i x h O⟩
def Nh:AM ["self","line"] ["self","line"] (Ae<|Ai (top 28) 20):=.of
def AfX:Gm (Ae<|Ai (top 28) 20) "list":=.of
def AfY(F:AI K "holds" "Hall.holds" (Ai (top 28) 20) f fd)(T:TxtH P w K mg a)(B:AO P w K mg base (AJ P w) 1 a.ah "line_of" ["self","number"] (G9 K a)):AB P w K mg base (AJ P w) 2 f fd ["self","line"] (RZ K a):=by
 refine F.aY Nh.fs λV A outer s H vs Q E D h=>?_
 .obtain ⟨X,R,z,rfl,t,I,q,J⟩:=h;have L:=T.hc.cls;refine⟨_,(@Ak _ _ _<|AD (Cs (Fu rfl) AfX T.cv EA<|Ab (AE (A7 B L (Aa 0 Nh) D.d BE<|Ab (Aa 1 Nh) Ac) rfl) Ac)),?_⟩;try dsimp only[av,aw]
  show A2 X.h X.dx _ rfl t.t.aA rfl ?_;show BC X R z rfl ⟨t,I,λi x h O=>?_,J⟩;apply AK x.p a.Line x.dx _ _ rfl (t.t.ay h) T.lc.cls T.lc.he rfl;exact .inl ⟨x.h,_,rfl,.inl<|.of (t.t.h8 h),q i x h O⟩
def R0:AM ["self"] ["self"] (Ae<|Ai (top 28) 25):=.of
def AfZ:Gm (Ae<|Ai (top 28) 25) "list":=.of
def Af0(F:AI K "waiting" "Hall.waiting" (Ai (top 28) 25) f fd)(T:TxtH P w K mg a):AB P w K mg base Au 1 f fd ["self"] (Hh K a λX=>X.q.map V.str):=by
 refine F.ok R0.fs λB A outer s H vs Q E D h=>?_
 .obtain ⟨X,R,rfl,t,q⟩:=h;refine⟨_,(@Ak _ _ _<|AD (Cs (Fu rfl) AfZ T.cv EA<|Ab (AE (Aa 0 R0) rfl) Ac)),?_⟩;try dsimp only[av,aw]
  show AK X.h a.ah X.dx _ _ rfl t.t.aA T.hc.cls T.hc.qu rfl ?_;ext;exact .inl ⟨X.qa,_,rfl,.inl<|.of t.t.q,q⟩
def R4:AM ["self"] ["self"] (Ae<|Ai (top 28) 27):=.of
def Af1:Gm (Ae<|Ai (top 28) 27) "list":=.of
def Af2(F:AI K "deeds" "Hall.deeds" (Ai (top 28) 27) f fd)(T:TxtH P w K mg a):AB P w K mg base Au 1 f fd ["self"] (Hh K a λX=>X.dn):=by
 refine F.ok R4.fs λB A outer s H vs Q E D h=>?_
 .obtain ⟨X,R,rfl,t,q⟩:=h;refine⟨_,(@Ak _ _ _<|AD (Cs (Fu rfl) Af1 T.cv EA<|Ab (AE (Aa 0 R4) rfl) Ac)),?_⟩;try dsimp only[av,aw]
  show AK X.h a.ah X.dx _ _ rfl t.t.aA T.hc.cls T.hc.dn rfl ?_;ext;exact .inl ⟨X.da,_,rfl,.inl<|.of t.t.dn,q⟩
def R5:AM ["self"] ["self"] (Ae<|Ai (top 28) 26):=.of
def Af3:Gm (Ae<|Ai (top 28) 26) "AT_SEEKERS":=.of
def Af4(F:AI K "steps" "Hall.steps" (Ai (top 28) 26) f fd)(T:TxtH P w K mg a)(B:AO P w K mg base Au 1 a.aL "steps" ["self"] (Q6 K a)):AB P w K mg base Au 2 f fd ["self"] (Hh K a λX=>X.sk.k.wt.map V.int):=by
 refine F.ok R5.fs λO A outer s H vs Q E D h=>?_
 .obtain ⟨X,R,rfl,t,q⟩:=h;have I:=T.sc.c.cls;have sk:=t.t.jx T.sc t.ok.sk;obtain⟨J,L⟩:=sk.ins;refine⟨_,(@Ak _ _ _<|AD (FO B I (Ap P w K (AE (Aa 0 R5) rfl)<|HN Af3 T.ic) D.d AN)),?_⟩;try dsimp only[av,aw]
  show AK X.h a.ah X.dx _ _ rfl t.t.aA T.hc.cls T.hc.sw rfl ?_;show Bx X.sd _ (.inr "") _ rfl rfl (.of t.t.sd) t.ok.kL ?_;show A2 X.sk.p J _ rfl L rfl ?_;exact⟨X.sk.p,a.aL,X.sk.ra,X.sk.rb,X.sk.rc,X.sk.rs,X.sk.rw,_,_,_,_,_,_,_,rfl,sk,q⟩
noncomputable def AQ(S:PS)(z:bf):Option (List V×List Bool×List Int):=if z=TU "" then some (S.sk.hs,S.sk.js,S.sk.ts) else(BG S z).map λg=>(g.hs,g.js,g.ts)
noncomputable def D6(S:PS):V->V
 |.int i=>match S.lns[i.toNat]? with
  |none=>.aa
  |some ln=>.str ln.num
 |_=>.aa
def JB(S:PS):Prop:=∀v∈S.sk.hs,v=.aa\/∃i:Nat,v=.int i/\i<S.lns.length
noncomputable def HZ(S:PS)(z:bf)(r:List V×List Bool×List Int):List V:=Cu (if z=TU "" then r.1.map (D6 S)else r.1) (λk=>r.2.1.getD k false) r.1.length
section
variable {K:TH}{a:An}{H:Hp}{X:HX}{R:Ax}
theorem HT.rk (t:HT K a H X R)(sc:GA K a a.aL)(gc:FT K a a.aM)(J:Ok z)(e:AQ X.S z=some r):
  ∃p C Y rb rc,C∈a.bw/\CY K a H p C Y rb rc r.1 r.2.1 r.2.2/\∀(c:VK)(E:XK),c (.ref p) H->He K a [.ref X.h,.str z] H c E:=by
 have eh:Cz X.S z=some r.1:=by
  unfold AQ at e;unfold Cz;by_cases B:z=TU ""
  .rw[br B]at e ⊢;cases e;rfl
  .rw[cZ B]at e ⊢;obtain⟨g,e1,D⟩:=As<|UG.mp e;rw[e1,<-D];rfl
 by_cases B:z=TU ""
 .have s:=t.t.jx sc t.ok.sk;have I:r=(X.sk.k.hs,X.sk.k.js,X.sk.k.ts):=by
   unfold AQ at e;rw[br B]at e;exact(Us e).symm
  subst I;refine⟨X.sk.p,a.aL,_,_,_,sc.c.mem,s.r,λc E h=>⟨X,R,z,rfl,t,J,λ_=>h,λi g hi D=>absurd (D.trans B)<|t.ok.ne g (Ug hi),λn0 _=>absurd B n0⟩⟩
 .have gx:(X.S.az.map (·.pre)).Nodup:=by change((X.groups.map (·.g)).map (·.pre)).Nodup;rw[Uq];exact t.ok.pre
  have m:z∈X.groups.map (·.g.pre):=by apply Yd;intro m;unfold AQ at e;rw[cZ B,show BG X.S z=none from KU<|by change z ∉ (X.groups.map (·.g)).map (·.pre);rwa[Uq]]at e;cases e
  obtain⟨i,g,h,rfl⟩:=Bv<|Js m;have ej:X.S.az[i]?=some g.g:=by change(X.groups.map (·.g))[i]?=_;rw[T6,h];rfl
  have I:r=(g.g.hs,g.g.js,g.g.ts):=by unfold AQ at e;rw[cZ B,show BG X.S g.g.pre=some g.g from Jw gx ej]at e;exact(Us e).symm
  subst I;have rk:=t.t.ia h gc<|t.ok.gr g (Ug h);refine⟨g.p,a.aM,_,_,_,gc.mem,rk,λc E hc=>⟨X,R,g.g.pre,rfl,t,J,λe0=>absurd e0 B,λj g2 L D=>?_,λ_ n=>absurd m n⟩⟩;by_cases O:j=i
  .subst O;rw[L]at h;cases h;exact hc
  .exact absurd D (FW t.ok.pre (i:=j) (j:=i) (by rw[T6,L];rfl) (by rw[T6,h];rfl) O)
def Af5 (e:AQ S z=none):z≠TU ""/\z ∉ S.az.map (·.pre):=by
 apply RV;unfold AQ at e;unfold Cz;by_cases B:z=TU ""
 .rw[br B]at e;cases e
 .rw[cZ B]at e ⊢;rw[yi]at e ⊢;exact e
def HT.tV (t:HT K a H X R)(D:Ok z)(e:AQ X.S z=none)(c:VK)(h:E (.ref a.aK) none H):He K a [.ref X.h,.str z] H c E:=by
 obtain⟨I,zn⟩:=Af5 e;have B:X.S.az.map (·.pre)=X.groups.map (·.g.pre):=by change(X.groups.map (·.g)).map (·.pre)=_;rw[Uq];rfl
 rw [B]at zn;exact⟨X,R,z,rfl,t,D,λe=>absurd e I,λi g J e=>absurd (Uc.mpr ⟨g,Ug J,e⟩) zn,λ_ _=>h⟩
end
def R6(K:TH)(a:An):Sp:=λvs H Q E=>∃(X:HX)(R:Ax)(z:bf),vs=[.ref X.h,.str z]/\HT K a H X R/\Ok z /\
 match AQ X.S z with
 |none=>E (.ref a.aK) none H
 |some r=>∀l,H l=none->Q (.ref l) (upd H l (.lst (r.2.2.map V.int)))
def R7(K:TH)(a:An):Sp:=λvs H Q E=>∃(X:HX)(R:Ax)(z:bf),vs=[.ref X.h,.str z]/\HT K a H X R/\Ok z/\JB X.S /\
 match AQ X.S z with
 |none=>E (.ref a.aK) none H
 |some r=>∀H' t,Aj H H'->H' t=some (.tup (HZ X.S z r))->Q (.ref t) H'
def Ni:AM ["self","where"] ["self","where"] (Ae<|Ai (top 28) 24):=.of
def Af6(F:AI K "shares" "Hall.shares" (Ai (top 28) 24) f fd)(T:TxtH P w K mg a)(I:AO P w K mg base (AJ P w) 1 a.ah "switches_of" ["self","where"] (He K a))(J:∀C∈a.bw,AO P w K mg base Au 1 C "shares" ["self"]<|QQ K a):AB P w K mg base (AJ P w) 2 f fd ["self","where"] (R6 K a):=by
 refine F.aY Ni.fs λaj A outer s H vs Q E B h=>?_
 .obtain ⟨X,R,z,rfl,t,D,q⟩:=h;have cy:=T.cy;have L:=T.hc.cls;refine⟨_,(@Ak _ _ _<|AD (Mu J cy (A7 I L (Aa 0 Ni) B.d BE<|Ab (Aa 1 Ni) Ac) B.d AN)),?_⟩;try dsimp only[av,aw]
  show A2 X.h X.dx _ rfl t.t.aA rfl ?_;ext;dsimp only[BP];cases er:AQ X.S z with
  |none=>rw[er]at q;exact t.tV D er _ q
  |some r =>
   rw [er]at q;obtain⟨p,C,O,V,Y,mC,rk,go⟩:=Ot<|t.rk T.sc T.gc D er;obtain⟨dx,fs,ep,F3⟩:=Bv rk.ins;apply go _ _;apply Bx p C dx fs rfl mC ep (F3.m _<|by decide);exact⟨p,C,O,V,Y,_,_,_,rfl,rk,q⟩
def Af7(X:HX):(X.gm.map λkv=>kV kv.1)=X.S.lns.map λln=>V.str ln.num:=by change((X.lines.map _).map _)=((X.lines.map (·.l)).map _);rw[Uq,Uq];rfl
def R8:EN ["self","where","switches","holders","numbers"] ["self","where"] (Ae<|Ai (top 28) 23):=.of
def R9:Nm (Ae<|Ai (top 28) 23) "self":=.of
def Sa:Nm (Ae<|Ai (top 28) 23) "where":=.of
def Nj:Nm (Ae<|Ai (top 28) 23) "switches":=.of
def K0:Nm (Ae<|Ai (top 28) 23) "holders":=.of
def Af8:Gv (Ae<|Ai (top 28) 23) "numbers":=by walk_at "k"
def Af9:Gm (Ae<|Ai (top 28) 23) "paper_of":=.of
def Aga:Gm (Ae<|Ai (top 28) 23) "AT_SEEKERS":=.of
def Agb:Gm (Ae<|Ai (top 28) 23) "list":=.of
noncomputable def Nk:Scope:={ kind:=.function,names:=[(".0",.local),("place",.local),("numbers",.free)],isGenerator:=false,isCoroutine:=false,more:=[] }
def Sb:BK Nk (Ae<|Ai (top 28) 23) ["place","numbers"] ["self","where","switches","holders","numbers"] [none,some 4]:=BK.mk' rfl (by decide +kernel) (by decide +kernel) (by decide +kernel) (by decide +kernel) rfl<|by decide +kernel
def Nl:Nm Nk "place":=.of
def Agc:FP Nk "numbers":=by walk_at "k"
def Agd(F:AI K "paper" "Hall.paper" (Ai (top 28) 23) f fd)(T:TxtH P w K mg a)(iy:AO P w K mg base (AJ P w) 1 a.ah "switches_of" ["self","where"] (He K a))(hJ:∀C∈a.bw,AO P w K mg base Au 1 C "holders" ["self"]<|MA K a)(hV:∀C∈a.bw,AO P w K mg base Au 1 C "stuck" ["self"]<|MD K a)(hZ:Bt P w K mg base Au 1 "paper_of" ["holders","stuck"] (KC K)):AB P w K mg base (AJ P w) 2 f fd ["self","where"] (R7 K a):=by
 refine F.aY R8 λaj A outer s H vs Q E Y h=>?_
 .obtain ⟨X,R,z,rfl,t,zk,ho,q⟩:=h;have cy:=T.cy;have iz:=T.hc.cls;have hu:=Y.units;have nd:=R8.nd;refine⟨_,(@Af _ _ _ _ _ (DB 2 nd Nj<|A7 iy iz (Az 0 R9) Y.d BE (Ab (Az 1 Sa) Ac))
    (Af (DB 3 nd K0<|Mu hJ cy (Az 2 Nj) Y.d AN)
    (Af (AR (AL (B2 hu) (Az 1 Sa) (HN Aga T.ic)<|AW _) (Af (Md 4 nd Af8<|Cs (AdY rfl) Agb T.cv EA (Ab (AE (Az 0 R9) rfl) Ac))
     (Ak<|HJ (j:=3) rfl nd rfl (T2 K0.loc) Sb (Dw<|Az 3 K0) (λcl C fp π s₂ H₂=>(Dc 0 Sb.nd Nl.comp)) (λcl C fp π s₂ H₂=>GW) (λcl C fp π s₂ H₂=>(Oy (AL Gh (Az 0 Nl.comp) Cq<|AW _) Cq<|AY (AcM K rfl) (GX 1 Agc.comp) (Az 0 Nl.comp) (λ_ _=>rfl))) (by rfl) (by intro _;rfl) (T2 rfl))) AV)
    (Ak<|AD (Bf hZ Af9 Y.d AN<|Ab (Az 3 K0) (Ab (Mu hV cy (Az 2 Nj) Y.d AN) Ac)))))),?_⟩
  try dsimp only[av,aw]
  have bb:start ["self","where","switches","holders","numbers"] [V.ref X.h,V.str z]=[some<|.ref X.h,some<|.str z,none,none,none]:=rfl;simp only[bb,VE,VF];show A2 X.h X.dx _ rfl t.t.aA rfl ?_;ext;dsimp only[BP];cases er:AQ X.S z with
  |none=>rw[er]at q;exact t.tV zk er _ q
  |some r =>
   rw [er]at q;dsimp only at q;obtain⟨p,C,ra,rb,rc,mC,rk,go⟩:=Ot<|t.rk T.sc T.gc zk er;obtain⟨dx,fs,ep,F3⟩:=Bv rk.ins;apply go _ _;show Bx p C dx fs rfl mC ep (F3.m _<|by decide) ?_;refine Fp p C ra rb rc _ _ _ rfl ⟨rk,λl nl=>?_⟩;have s1:=(Aj.refl H).upd (o:=.lst r.1) nl;have e1:(upd H l<|.lst r.1) l=some (.lst r.1):=Aq;generalize upd H _ _=H1 at s1 e1 ⊢;have t1:=t.same s1;ext;have last:∀(B:Hp)(D:ar)(I:List V),Aj H B->B D=some (.lst I)->I=(if z=TU "" then r.1.map (D6 X.S)else r.1)->∀(J:Hp)(u:ar),Aj B J->J u=some (.lst<|(EY r.2.1 r.2.1.length).map V.int)->KC K [.ref D,.ref u] J Q E0:=by
    intro B D I s3 e3 eh J u O e4;have hl:I.length=r.1.length:=by rw[eh];split<;>simp
    refine Bx D u I _ rfl (O _ _ e3) e4 (by rw[hl];exact rk.z) λH5 tt s5 nt e5=>?_;apply q H5 tt (s3.trans<|O.trans s5);rw[e5,hl];unfold HZ;rw[<-eh];exact congrArg (λy=>some<|HO.tup y)<|Rt λk hk=>Q3<|by rwa[rk.lj]
   by_cases z0:z=TU ""
   .have ehs:r.1=X.sk.k.hs:=by
     unfold AQ at er;rw[br z0]at er;rw[<-Us er];rfl
    have ho1:∀v∈r.1,v=.aa\/∃i:Nat,v=.int i/\i<X.S.lns.length:=by rwa[ehs]
    apply DS (c8<|congrArg V.str z0);show AK X.h a.ah X.dx _ _ rfl t1.t.aA T.hc.cls T.hc.li rfl ?_;show A9 X.ld _ rfl (.of t1.t.ld) (λnm nnm=>?_);rw[Af7];have s2:=(Aj.refl H1).upd (o:=.lst<|X.S.lns.map λln=>V.str ln.num) nnm;have e2:(upd H1 nm<|.lst (X.S.lns.map λln=>V.str ln.num)) nm=some (.lst<|X.S.lns.map λln=>V.str ln.num):=Aq;generalize upd H1 _ _=H2 at s2 e2 ⊢;have dF:=s2 _ _ e1;show⟨⟨_,.of dF⟩,λD nD=>?_⟩;refine Kh (K:=K) (a:=l) (xs:=r.1) (λi σ B=>∃x,σ=[x,some<|.ref nm]/\Aj H2 B/\B D=some (.lst<|(r.1.take i).map (D6 X.S))) ⟨none,rfl,(Aj.refl H2).upd nD,Aq⟩ (λi σ B _ ⟨_,_,L,_⟩=>.of<|L _ _ dF) ?_ ?_
    .intro i x σ B hi zq;replace zq:=AG zq;obtain⟨x0,rfl,L,hL⟩:=zq;have et:r.1.take (i+1)=r.1.take i++[x]:=by rw[VR,hi];rfl
     have len:((r.1.take i).map<|D6 X.S).length<sizeLine:=by rw[TN,VM,TZ];have:=rk.z;omega
     rcases ho1 x (Ug hi)with rfl|⟨j,rfl,jl⟩
     .show⟨_,hL,len,_,rfl,L.bI nD,?_⟩;rw[Aq,et,Ui];rfl
     .have hj:X.S.lns[j]?=some X.S.lns[j]:=Uh jl;have ej:D6 X.S (.int j)=.str X.S.lns[j].num:=by
       change(match X.S.lns[((j:Nat):Int).toNat]? with|none=>V.aa|some ln=>.str ln.num)=_;rw[WC,hj]
      show T2 (Bx nm _ _ _ rfl rfl (.of<|L _ _ e2) (Fm (j:=j)<|by rw[T6,hj];rfl) ?_);refine⟨_,hL,len,_,rfl,L.bI nD,?_⟩;rw[Aq,et,Ui];change some (HO.lst<|_++[_])=some (HO.lst<|_++[D6 X.S<|.int j]);rw[ej]
    .intro σ B zq;replace zq:=AG zq;obtain⟨x0,rfl,L,hL⟩:=zq;rw[Vn]at hL;have s3:Aj H B:=s1.trans<|s2.trans L;have tW:=rk.same s3;obtain⟨oE,fs3,tR,F33⟩:=Bv tW.ins;show Bx p C oE fs3 rfl mC tR (F33.m _<|by decide) ?_;refine Fp p C ra rb rc _ _ _ rfl ⟨tW,λJ u O nu e4=>?_⟩;dsimp only[BP];exact last B D _ s3 hL (by rw[br z0]) J u O e4
   .refine DX (dJ λe=>z0<|V.str.inj e) ?_;have fH:=rk.same s1;obtain⟨dx1,fs1,dQ,F31⟩:=Bv fH.ins;show Bx p C dx1 fs1 rfl mC dQ (F31.m _<|by decide) ?_;refine Fp p C ra rb rc _ _ _ rfl ⟨fH,λJ u O nu e4=>?_⟩;dsimp only[BP];exact last H1 l r.1 s1 e1 (by rw[cZ z0]) J u O e4
noncomputable def Bz(S:PS)(p:bf×Int):Option V:=(Cz S p.1).bind λhs=>if 0<=p.2 then hs[p.2.toNat]? else none
noncomputable def GD(w:bf)(i:Nat)(z:bf):V:=if w=TU "" then .int i else .str z
def Age{w:bf}{i j:Nat}{y z:bf}(n:i≠j)(m:y≠z):GD w i y≠GD w j z:=by
 unfold GD;split
 .exact λe=>n<|Int.ofNat.inj (V.int.inj e)
 .exact λe=>m<|V.str.inj e
def F4{w:bf}{i:Nat}{z:bf}:GD w i z≠.aa:=by unfold GD;split<;>exact λe=>nomatch e
def Sd (e:Bz S p=some v):0<=p.2:=by
 unfold Bz at e;cases h:Cz S p.1 with
 |none=>rw[h]at e;cases e
 |some hs =>
  rw [h]at e;by_cases z:0<=p.2
  .exact z
  .rw[Z7,cZ z]at e;cases e
def EF (e:BG S z=some g):g∈S.az/\g.pre=z:=⟨xY e,by have:=xZ (show S.az.find? (λg=>decide (g.pre=z))=some g from e);exact of_decide_eq_true this⟩
def Se (e:(if 0<=k then hs[k.toNat]? else none)=some v):inR k hs=true/\hs.getD k.toNat .aa=v:=by
 by_cases z:0<=k
 .rw[br z]at e;have l:=(UM.mp e).1;exact⟨FU.mpr ⟨z,by omega⟩,by rw[Ux,e];rfl⟩
 .rw[cZ z]at e;cases e
def Agf (e:Bz S p=some v)(n:v≠.aa):E8 S p.1 p.2:=by
 unfold Bz Cz at e;unfold E8;by_cases z:p.1=TU ""
 .rw[br z]at e ⊢;obtain⟨a,b⟩:=Se e;exact⟨a,by rwa[b]⟩
 .rw[cZ z]at e ⊢;cases h:BG S p.1 with
  |none=>rw[h]at e;cases e
  |some g =>
   rw [h]at e;obtain⟨a,b⟩:=Se (hs:=g.hs) e;exact⟨g,(EF h).1,(EF h).2,a,by rwa[b]⟩
def FA{S:PS}{w z:bf}{h:Gr->Gr}(B:∀g,(h g).pre=g.pre):BG { S with az:=S.az.map λg=>if g.pre=w then h g else g } z=(BG S z).map λg=>if z=w then h g else g:=by
 change(S.az.map _).find? _=(S.az.find? _).map _;induction S.az with
 |nil=>rfl
 |cons y l ih =>
  rw [UR,V1,V1];have e:(if y.pre=w then h y else y).pre=y.pre:=by split;exact B y;rfl
  rw [e];by_cases c:y.pre=z
  .rw[c8 c,<-c];rfl
  .rwa[dJ c]
def Sf (g:0<=t.2)(n:p≠t):Bz (aE S t.1 t.2) p=Bz S p:=by
 have B:∀hs:List V,p.1=t.1->(if 0<=p.2 then(hs.set t.2.toNat .aa)[p.2.toNat]? else none)=(if 0<=p.2 then hs[p.2.toNat]? else none):=λhs e=>by
  by_cases z:0<=p.2
  .rw[br z,br z,VA];intro D;exact n<|Prod.ext e (by omega)
  .rw[cZ z,cZ z]
 unfold Bz Cz aE;by_cases z:p.1=TU ""
 .rw[br z,br z];by_cases y:t.1=TU ""
  .rw[br y];exact B _<|z.trans y.symm
  .rw[cZ y]
 .rw[cZ z,cZ z];by_cases y:t.1=TU ""
  .rw[br y];rfl
  .rw[cZ y,FA (h:=λg=>{ g with hs:=g.hs.set t.2.toNat .aa }) λ_=>rfl];cases BG S p.1 with
   |none=>rfl
   |some g =>
    rw [Vj,Vj,Z7,Vj,Z7];by_cases e:p.1=t.1
    .rw[br e];exact B _ e
    .rw[cZ e]
theorem Ia:∀{ts:List (bf×Int)}{S:PS}{p:bf×Int},(∀t∈ts,0<=t.2)->p ∉ ts->Bz (au S ts) p=Bz S p
 |[],_,_,_,_=>rfl
 |t::ts,S,p,g,n=>(Ia (λt m=>g t (Uy _ m)) (λm=>n (Uy _ m))).trans (Sf (g t UI) λe=>n (e▸UI))
theorem GF:∀{ts:List (bf×Int)}{S:PS},ts.Nodup->(∀p∈ts,∃v,Bz S p=some v/\v≠.aa)->bA S ts
 |[],_,_,_=>trivial
 |t::ts,S,B,h=>by
  obtain⟨v,e,n⟩:=h t UI;have B:=Uu.mp B;refine⟨Agf e n,GF B.2 λp m=>?_⟩;obtain⟨u,f,k⟩:=h p (Uy _ m);exact⟨u,by rw[Sf (Sd e) (λz=>B.1 (z▸m))];exact f,k⟩
def GG(ns:List bf)(g:Gr):Prop:=∀v∈g.hs,v=.aa\/∃z∈ns,v=.str z
def GG.s (h:GG ns g):M8 g:=λv m=>(h v m).imp id λ⟨z,_,e⟩=>⟨z,e⟩
structure WG(S:PS):Prop where
 num:(S.lns.map (·.num)).Nodup
 pre:(S.az.map (·.pre)).Nodup
 ne:∀g∈S.az,g.pre≠TU ""
 aD:S.lns.length<=60
 pos:0<S.lns.length
 dk:S.q.Nodup
 cz:∀z∈S.q,z∈S.lns.map (·.num)
 m0:0<=S.sk.mark
 m1:S.sk.mark<S.sk.hs.length
 pl:S.sk.places=S.lns.length
 hs:JB S
 hg:∀g∈S.az,GG (S.lns.map (·.num)) g
 go:∀g∈S.az,G7 g
 so:HV S.sk
 tx:∀z∈S.lns.map (·.num),Ok z/\0<z.length
 px:∀g∈S.az,Ok g.pre
 lo:2<=S.long
 hi:S.long<=9
 tl:∀z∈S.lns.map (·.num),(z.length:Int)=S.long
 pz:∀g∈S.az,(g.pre.length:Int)<=S.long-2
 dg:∀z∈S.lns.map (·.num),Dj z
def JB.num (h:JB S)(e:S'.sk.hs=S.sk.hs)(l:S'.lns.length=S.lns.length):JB S':=λv m=>by rw[l];exact h v<|e▸m
def K1{l B:List Ln}(e:B.map (·.num)=l.map (·.num)):B.length=l.length:=by have:=congrArg XX e;rwa [TN,TN]at this
def WG.lns (w:WG S)(e:l.map (·.num)=S.lns.map (·.num)):WG { S with lns:=l } :=
 ⟨by change(l.map _).Nodup;rw[e];exact w.num,w.pre,w.ne,by change l.length<=60;rw[K1 e];exact w.aD,by change 0<l.length;rw[K1 e];exact w.pos,w.dk,λz m=>by change z∈l.map _;rw[e];exact w.cz z m,w.m0,w.m1,by change S.sk.places=(l.length:Int);rw[K1 e];exact w.pl,w.hs.num rfl<|K1 e,(by change ∀g∈S.az,GG (l.map (·.num)) g;rw[e];exact w.hg),w.go,w.so,(by change ∀z∈l.map (·.num),_;rw[e];exact w.tx),w.px,w.lo,w.hi,(by change ∀z∈l.map (·.num),_;rw[e];exact w.tl),w.pz,(by change ∀z∈l.map (·.num),_;rw[e];exact w.dg)⟩
def WG.dP (w:WG S)(B:q.Nodup)(i:∀z∈q,z∈S.lns.map (·.num)):WG { S with q:=q }:=⟨w.num,w.pre,w.ne,w.aD,w.pos,B,i,w.m0,w.m1,w.pl,w.hs,w.hg,w.go,w.so,w.tx,w.px,w.lo,w.hi,w.tl,w.pz,w.dg⟩
def WG.abw (w:WG S):WG { S with dn:=d }:=⟨w.num,w.pre,w.ne,w.aD,w.pos,w.dk,w.cz,w.m0,w.m1,w.pl,w.hs,w.hg,w.go,w.so,w.tx,w.px,w.lo,w.hi,w.tl,w.pz,w.dg⟩
def WG.oY (w:WG S)(p:k.places=S.sk.places)(B:0<=k.mark)(D:k.mark<k.hs.length)(h:∀v∈k.hs,v=.aa\/∃i:Nat,v=.int i/\i<S.lns.length)(I:HV k):WG { S with sk:=k }:=⟨w.num,w.pre,w.ne,w.aD,w.pos,w.dk,w.cz,B,D,p.trans w.pl,h,w.hg,w.go,I,w.tx,w.px,w.lo,w.hi,w.tl,w.pz,w.dg⟩
def WG.oZ{S:PS}(w:WG S){z:bf}{h:Gr->Gr}(B:∀g,(h g).pre=g.pre)(I:∀g,GG (S.lns.map (·.num)) g->GG (S.lns.map (·.num)) (h g))(J:∀g,G7 g->G7 (h g)):WG { S with az:=S.az.map λg=>if g.pre=z then h g else g }:=by
 have L:(S.az.map λg=>if g.pre=z then h g else g).map (·.pre)=S.az.map (·.pre):=by
  rw [Uq];refine Vr λg _=>?_;change(if g.pre=z then h g else g).pre=g.pre;split
  .exact B g
  .rfl
 have all:∀{p:Gr->Prop},(∀g,p g->p (h g))->(∀g∈S.az,p g)->∀g∈(S.az.map λg=>if g.pre=z then h g else g),p g:=λ{p} f a g m=>by
  obtain⟨y,D,rfl⟩:=As<|Uc.mp m;split
  .exact f y (a y D)
  .exact a y D
 exact⟨w.num,by change(Va _<|S.az.map _).Nodup;rw[L];exact w.pre,all (p:=λg=>g.pre≠TU "") (λg n=>by rwa[B]) w.ne,w.aD,w.pos,w.dk,w.cz,w.m0,w.m1,w.pl,w.hs,all I w.hg,all J w.go,w.so,w.tx,all (p:=λg=>Ok g.pre) (λg n=>by rwa[B]) w.px,w.lo,w.hi,w.tl,all (p:=λg=>(g.pre.length:Int)<=S.long-2) (λg n=>by rwa[B]) w.pz,w.dg⟩
def F5{α:Type}{l:List α}{i:Nat}{x y:α}(h:y∈l.set i x):y=x\/y∈l:=(Z6 h).symm
def WG.aE (w:WG S)(z:bf)(k:Int):WG (aE S z k):=by
 unfold Lw.aE;split
 .exact w.oY rfl w.m0 (by change _<((S.sk.hs.set _ _).length:Int);rw[Uo];exact w.m1) (λv m=>(F5 m).elim .inl<|w.hs v) ⟨by rw[Uo];exact w.so.lj,by rw[Uo];exact w.so.lt,by rw[Uo];exact w.so.ls,by rw[Uo];exact w.so.lw,by rw[Uo];exact w.so.z⟩
 .exact w.oZ (h:=λg=>{ g with hs:=g.hs.set k.toNat .aa }) (λ_=>rfl) (λg a v m=>(F5 m).elim .inl<|a v) λg a=>⟨by rw[Uo];exact a.lj,by rw[Uo];exact a.lt,by rw[Uo];exact a.z⟩
theorem WG.au:∀(ts:List (bf×Int)){S:PS},WG S->WG (au S ts)
 |[],_,w=>w
 |t::ts,_,w=>WG.au ts (w.aE t.1 t.2)
def WG.bh (w:WG S)(b:Bool)(z:bf)(k:Int):WG (Co S b z k):=by
 unfold Co;split
 .exact w.oY rfl w.m0 w.m1 w.hs ⟨by rw[Uo];exact w.so.lj,w.so.lt,w.so.ls,w.so.lw,w.so.z⟩
 .exact w.oZ (h:=λg=>{ g with js:=g.js.set k.toNat b }) (λ_=>rfl) (λg a=>a) λg a=>⟨by rw[Uo];exact a.lj,a.lt,a.z⟩
def WG.b9 (w:WG S)(z B:bf)(k:Int)(D:B∈S.lns.map (·.num)):WG { S with az:=S.az.map λy=>if y.pre=z then b9 y k B else y } :=
 w.oZ (h:=λg=>Lw.b9 g k B) (λ_=>rfl) (λg a v m=>(F5 m).elim (λe=>.inr ⟨B,D,e⟩)<|a v) λg a=>⟨by change g.js.length=(g.hs.set _ _).length;rw[Uo];exact a.lj,by change(g.ts.set _ _).length=(g.hs.set _ _).length;rw[Uo,Uo];exact a.lt,by change(g.hs.set _ _).length<=1000;rw[Uo];exact a.z⟩
def WG.bG (w:WG S)(B:i<S.lns.length):WG { S with sk:=bG S.sk k i }:=by
 have lt:((S.sk.hs.set k.toNat<|.int i).length:Int)=S.sk.hs.length:=by rw[Uo]
 have D:=w.m0;have I:=w.m1;refine w.oY rfl (V2 _<|by omega) (by change(k+1)%(S.sk.hs.length:Int)<((S.sk.hs.set _ _).length:Int);rw[lt];exact V3 _<|by omega) (λv m=>(F5 m).elim (λe=>.inr ⟨i,e,B⟩)<|w.hs v) ⟨?_,?_,?_,?_,?_⟩
 .show S.sk.js.length=(S.sk.hs.set _ _).length;rw[Uo];exact w.so.lj
 .show (S.sk.ts.set _ _).length=(S.sk.hs.set _ _).length;rw[Uo,Uo];exact w.so.lt
 .show (S.sk.st.set _ _).length=(S.sk.hs.set _ _).length;rw[Uo,Uo];exact w.so.ls
 .show (S.sk.wt.set _ _).length=(S.sk.hs.set _ _).length;rw[Uo,Uo];exact w.so.lw
 .show (S.sk.hs.set _ _).length<=1000;rw[Uo];exact w.so.z
inductive Bu where
 |rests|cb|ba|rings|cD|dm|told
noncomputable def Bu.s:Bu->bf
 |.rests=>"rests" |.cb=>"waits" |.ba=>"dials" |.rings=>"rings" |.cD=>"rung" |.dm=>"talks" |.told=>"told"
def Bu.ok(w:Bu):Ok w.s:=by cases w<;>exact⟨by unfold BY;decide +kernel,by decide +kernel⟩
def Bu.inj{v w:Bu}(e:v.s=w.s):v=w:=by cases v<;>cases w<;>first|rfl|exact absurd e<|by decide +kernel
def Zr(ln:Ln):Prop:=ln.ae=""/\ln.ag=0/\ln.why=.none
def Hi(S:PS)(i:Nat)(ln:Ln)(o:Bu):Prop:=∃(j:Nat)(lo:Ln),S.lns[j]?=some lo/\j≠i/\ln.ao=some lo.num/\lo.ao=some ln.num/\lo.st=o.s
def Wy(S:PS)(i:Nat)(ln:Ln):Bu->Prop
 |.rests=>ln.held=[]/\ln.ao=none/\ln.num ∉ S.q/\Zr ln
 |.cb=>ln.held=[]/\ln.ao=none/\ln.num∈S.q/\Zr ln
 |.ba=>ln.ao=none/\ln.num ∉ S.q/\(0<=ln.ag/\ln.ag<=10)/\(ln.ae.length:Int)<S.long/\ln.held.length<=ln.ae.length+1
 |.told=>ln.held=[]/\ln.ao=none/\ln.num ∉ S.q
 |.rings=>ln.num ∉ S.q/\Hi S i ln .cD
 |.cD=>ln.held=[]/\ln.num ∉ S.q/\Hi S i ln .rings
 |.dm=>ln.num ∉ S.q/\Hi S i ln .dm
structure D7(S:PS)(i:Nat)(ln:Ln):Prop where
 nd:ln.held.Nodup
 ow:∀p∈ln.held,Bz S p=some (GD p.1 i ln.num)
 wy:∃w:Bu,ln.st=w.s/\Wy S i ln w
structure WF(S:PS):Prop where
 g:WG S
 l:∀(i:Nat)(ln:Ln),S.lns[i]?=some ln->D7 S i ln
section
variable {S S':PS}{i j:Nat}{ln lo lm:Ln}
def D7.way{w:Bu}(h:D7 S i ln)(e:ln.st=w.s):Wy S i ln w:=by obtain⟨v,B,D⟩:=As h.wy;cases Bu.inj (e.symm.trans B);exact D
def WG.one(g:WG S)(B:S.lns[i]?=some ln)(h2:S.lns[j]?=some lm)(e:ln.num=lm.num):i=j/\ln=lm:=by
 by_cases c:i=j
 .subst c;rw[B]at h2;exact⟨rfl,Us h2⟩
 .exact absurd e (FY g.num B h2 c)
def WF.bA(w:WF S)(h:S.lns[i]?=some ln):bA S ln.held:=GF (w.l i ln h).nd λp m=>⟨_,(w.l i ln h).ow p m,F4⟩
def D7.ge(h:D7 S i ln):∀t∈ln.held,0<=t.2:=λt m=>Sd<|h.ow t m
def WF.apart (w:WF S)(B:S.lns[i]?=some ln)(h2:S.lns[j]?=some lm)(n:j≠i)(m:p∈lm.held):p ∉ ln.held:=λD=>by
 have a:=(w.l i ln B).ow p D;rw[(w.l j lm h2).ow p m]at a;exact Age n (FY w.g.num h2 B n)<|Us a
def WF.chg(w:WF S)(g:WG S')(I:Nat->Prop)(D:∀j,¬I j->S'.lns[j]?=S.lns[j]?)(J:∀(i:Nat) (ln:Ln),I i->S.lns[i]?=some ln->∀z,ln.ao=some z->∃(j:Nat) (lo:Ln),I j/\S.lns[j]?=some lo/\lo.num=z)(hq:∀(j:Nat) (lm:Ln),¬I j->S.lns[j]?=some lm->(lm.num∈S'.q↔lm.num∈S.q))(O:∀(j:Nat) (lm:Ln),¬I j->S.lns[j]?=some lm->∀p∈lm.held,Bz S' p=Bz S p)(hw:S'.long=S.long)(V:∀(i:Nat) (y:Ln),I i->S'.lns[i]?=some y->D7 S' i y):WF S':=by
 refine⟨g,λj lm B=>?_⟩;by_cases c:I j
 .exact V j lm c B
 rw [D j c]at B;have L:=w.l j lm B;obtain⟨v,e,y⟩:=As L.wy;have q:=hq j lm c B;have ao:∀o,Hi S j lm o->Hi S' j lm o:=λo ⟨k,lo,hk,ne,f1,f2,Y⟩=>by
  refine⟨k,lo,(D k λck=>?_).trans hk,ne,f1,f2,Y⟩;obtain⟨i',lo',c',h',e'⟩:=BA<|J k lo ck hk lm.num f2;exact c<|by rwa[<-(w.g.one h' B e').1]
 refine⟨L.nd,λp m=>(O j lm c B p m).trans<|L.ow p m,v,e,?_⟩;cases v with
 |rests=>exact⟨y.1,y.2.1,λz=>y.2.2.1<|q.mp z,y.2.2.2⟩
 |cb=>exact⟨y.1,y.2.1,q.mpr y.2.2.1,y.2.2.2⟩
 |ba=>exact⟨y.1,λz=>y.2.1<|q.mp z,y.2.2.1,by rw[hw];exact y.2.2.2.1,y.2.2.2.2⟩
 |told=>exact⟨y.1,y.2.1,λz=>y.2.2<|q.mp z⟩
 |rings=>exact⟨λz=>y.1<|q.mp z,ao _ y.2⟩
 |cD=>exact⟨y.1,λz=>y.2.1<|q.mp z,ao _ y.2.2⟩
 |dm=>exact⟨λz=>y.1<|q.mp z,ao _ y.2⟩
def WF.iC (w:WF S)(g:WG S')(h:S.lns[i]?=some ln)(fn:ln.ao=none)(B:S'.lns=S.lns.set i y)(hq:∀z,z≠ln.num->(z∈S'.q↔z∈S.q))(D:∀(j:Nat) (lm:Ln),j≠i->S.lns[j]?=some lm->∀p∈lm.held,Bz S' p=Bz S p)(hw:S'.long=S.long)(hy:D7 S' i y):WF S':=by
 refine w.chg g (·=i) (λj n=>by rw[B,VA<|UC n]) (λk lk e hk z f=>?_) (λj lm n I=>hq _<|FY w.g.num I h n) D hw λk z e hk=>?_
 .subst e;rw[h]at hk;cases hk;rw[fn]at f;cases f
 .subst e;rw[B,B3 h]at hk;cases hk;exact hy
def WF.o7 (w:WF S)(g:WG S')(B:S.lns[i]?=some ln)(h2:S.lns[j]?=some lo)(n:j≠i)(f1:∀z,ln.ao=some z->z=lo.num)(f2:∀z,lo.ao=some z->z=ln.num)(D:S'.lns=(S.lns.set i y).set j z)(hq:∀x,x≠ln.num->x≠lo.num->(x∈S'.q↔x∈S.q))(I:∀(k:Nat) (lm:Ln),k≠i->k≠j->S.lns[k]?=some lm->∀p∈lm.held,Bz S' p=Bz S p)(hw:S'.long=S.long)(hy:D7 S' i y)(J:D7 S' j z):WF S':=by
 refine w.chg g (λk=>k=i\/k=j) (λk c=>by rw[D,VA λe=>c<|.inr e.symm,VA λe=>c<|.inl e.symm]) (λk lk e hk x f=>?_) (λk lm c hk=>hq _ (FY w.g.num hk B λe=>c<|.inl e)<|FY w.g.num hk h2 λe=>c<|.inr e) (λk lm c hk=>I k lm (λe=>c<|.inl e) (λe=>c<|.inr e) hk) hw λk x e hk=>?_
 .rcases e with rfl|rfl
  .rw[B]at hk;cases hk;exact⟨j,lo,.inr rfl,h2,(f1 x f).symm⟩
  .rw[h2]at hk;cases hk;exact⟨i,ln,.inl rfl,B,(f2 x f).symm⟩
 .rcases e with rfl|rfl
  .rw[D,VA n,B3 B]at hk;cases hk;exact hy
  .rw[D,B3 (x:=lo)<|by rwa[VA<|UC n]]at hk;cases hk;exact J
def C5 (h:S.lns[i]?=some ln)(e:y.num=ln.num):(S.lns.set i y).map (·.num)=S.lns.map (·.num):=Fy (f:=λx:Ln=>x.num) h e
theorem Ib:∀(ts:List (bf×Int))(S:PS),(au S ts).long=S.long
 |[],_=>rfl
 |t::ts,S=>(Ib ts _).trans (by unfold aE;split<;>rfl)
end
theorem Sg:∀{l m:List bf},l.Nodup->(∀z∈l,z∈m)->l.length<=m.length
 |[],_,_,_=>Vc _
 |a::l,m,B,h=>by
  have B:=Uu.mp B;have ma:=h a UI;have:=Sg (l:=l) (m:=m.erase a) B.2 λz D=>(ZW (λ(e:z=a)=>B.1 (e▸D))).mpr (h z (Uy _ D));rw[xG ma]at this;have:=ZX ma;rw[U2];omega
section
variable {S:PS}{i j:Nat}{ln lo:Ln}
def D7.jJ(h:D7 S i ln)(m:ln.num∈S.q):ln.st=Bu.cb.s/\ln.held=[]/\ln.ao=none/\Zr ln:=by
 obtain⟨v,e,y⟩:=As h.wy;cases v with
 |rests=>exact absurd m y.2.2.1
 |cb=>exact⟨e,y.1,y.2.1,y.2.2.2⟩
 |ba=>exact absurd m y.2.1
 |told=>exact absurd m y.2.2
 |rings=>exact absurd m y.1
 |cD=>exact absurd m y.2.1
 |dm=>exact absurd m y.1
def WF.abx(w:WF S)(h:S.lns[i]?=some ln)(n:ln.st≠Bu.cb.s):ln.num ∉ S.q:=λm=>n ((w.l i ln h).jJ m).1
def WG.at (g:WG S)(m:z∈S.lns.map (·.num)):∃(i:Nat)(ln:Ln),S.lns[i]?=some ln/\ln.num=z:=by obtain⟨ln,B,D⟩:=As<|M3 m;exact⟨_,ln,B,D⟩
def WG.eU(g:WG S):S.q.length<=60:=by have:=Sg g.dk g.cz;rw[TN]at this;exact U1 this g.aD
def WF.cT(w:WF S):Ej S:=by refine⟨w.g.dk,λz m=>?_,w.g.num,w.g.m0,YX w.g.m1,by rw[w.g.pl];exact Int.ofNat_lt.mpr w.g.pos,U1 w.g.eU<|by decide⟩;obtain⟨i,ln,h,rfl⟩:=Bv<|w.g.at (w.g.cz z m);exact⟨ln,Ug h,rfl,((w.l i ln h).jJ m).2.1⟩
def WF.dn (w:WF S):WF { S with dn:=d }:=by refine⟨w.g.abw,λi ln h=>⟨(w.l i ln h).nd,(w.l i ln h).ow,?_⟩⟩;obtain⟨v,e,y⟩:=As<|(w.l i ln h).wy;refine⟨v,e,?_⟩;cases v<;>exact y
def Sh{q:List bf}{z:bf}(D:q.Nodup)(n:z ∉ q):(q++[z]).Nodup:=VP.mpr ⟨D,Uu.mpr ⟨by simp,.nil⟩,λa ma b B e=>n<|by rw[Um]at B;rwa[<-B,<-e]⟩
def Si{q ns:List bf}{z:bf}(h:∀y∈q,y∈ns)(m:z∈ns):∀y∈q++[z],y∈ns:=λy B=>(UD.mp B).elim (h y) λe=>by rwa[Um.mp e]
def Sj{q:List bf}{x z:bf}(n:x≠z):x∈q++[z]↔x∈q:=by simp[n]
def Du(h:S.lns[i]?=some ln):ln.num∈S.lns.map (·.num):=Uc.mpr ⟨ln,Ug h,rfl⟩
def D7.none (e:y.held=[])(w:∃v:Bu,y.st=v.s/\Wy S i y v):D7 S i y:=⟨by rw[e];exact .nil,(λp m=>by rw[e]at m;cases m),w⟩
def WF.wait(w:WF S)(h:S.lns[i]?=some ln)(B:ln.held=[])(fn:ln.ao=none)(D:ln.num ∉ S.q):WF (Fz S i ln) :=
 w.iC (S':=Fz S i ln) (y:=AX ln "waits") ((w.g.lns<|C5 (y:=AX ln "waits") h rfl).dP (Sh w.g.dk D)<|Si (λz m=>by change z∈(S.lns.set i<|AX ln "waits").map _;rw[C5 (y:=AX ln "waits") h rfl];exact w.g.cz z m) (by change _∈(S.lns.set i<|AX ln "waits").map _;rw[C5 (y:=AX ln "waits") h rfl];exact Du h)) h fn rfl (λz n=>Sj n) (λ_ _ _ _ _ _=>rfl) rfl
  (.none B ⟨.cb,rfl,B,rfl,U5 _<|Um.mpr rfl,rfl,rfl,rfl⟩)
def JC(w:WF S)(h:S.lns[j]?=some lo):Bd S.lns lo.num=j:=KQ w.g.num h
def Sl (hs:ln.st≠"rests")(f:ln.ao=some z)(B:S.lns[Bd S.lns z]?=some lo):CB S i ln=(.tuple [.str "talks",.str lo.num,.str ln.num],{ S with lns:=(S.lns.set (Bd S.lns z) { lo with st:="talks" }).set i { ln with st:="talks" } }):=by simp only[CB,cZ hs,f,B]
def Bu.ne{v u:Bu}(e:ln.st=v.s)(n:v≠u):ln.st≠u.s:=λz=>n<|Bu.inj (e.symm.trans z)
def WF.lift(w:WF S)(h:S.lns[i]?=some ln)(f:ln.st=Bu.rests.s\/ln.st=Bu.cD.s):WF (CB S i ln).2/\M6 S i ln:=by
 have L:=w.l i ln h;rcases f with f|f
 .obtain ⟨O,I,y3,_⟩:=L.way f;refine⟨?_,.inl f⟩;rw[show CB S i ln=_ from br f];exact w.wait h O I y3
 .obtain ⟨O,I,j,lo,B,D,f1,f2,f3⟩:=L.way f;have V:ln.st≠"rests":=Bu.ne (u:=.rests) f λe=>nomatch e;refine⟨?_,.inr ⟨V,j,lo,f1,B,D⟩⟩;have Y:=JC w B;have J:=w.l j lo B;rw[Sl V f1 (by rwa[Y]),Y];have h':(S.lns.set j { lo with st:="talks" })[i]?=some ln:=D4 h D;refine w.o7 (i:=j) (j:=i) (y:={ lo with st:="talks" }) (z:={ ln with st:="talks" }) (w.g.lns<|by rw[Fy (f:=λx:Ln=>x.num) (y:={ ln with st:="talks" }) h' rfl];exact C5 (y:={ lo with st:="talks" }) B rfl) B h D.symm (λz e=>by rw[f2]at e;exact(Us e).symm) (λz e=>by rw[f1]at e;exact(Us e).symm) rfl (λ_ _ _=>.rfl) (λ_ _ _ _ _ _ _=>rfl) rfl ⟨J.nd,J.ow,.dm,rfl,(J.way (w:=.rings) f3).1,i,{ ln with st:="talks" },B3 h',D.symm,f2,f1,rfl⟩ ⟨L.nd,L.ow,.dm,rfl,I,j,{ lo with st:="talks" },?_,D,f1,f2,rfl⟩;exact D4 (B3 B) D.symm
def WF.ba (w:WF S)(h:S.lns[i]?=some ln)(fn:ln.ao=none)(I:ln.num ∉ S.q)(B:y.num=ln.num)(D:y.held=ln.held)(es:y.st=Bu.ba.s)(J:y.ao=none)(ep:0<=y.ag/\y.ag<=10)(L:(y.ae.length:Int)<S.long)(O:y.held.length<=y.ae.length+1):WF { S with lns:=S.lns.set i y } :=
 w.iC (w.g.lns<|C5 h B) h fn rfl (λ_ _=>.rfl) (λ_ _ _ _ _ _=>rfl) rfl ⟨by rw[D];exact(w.l i ln h).nd,λp m=>by rw[B];exact(w.l i ln h).ow p (D▸m),.ba,es,J,by rwa[B],ep,L,O⟩
theorem WF.told (w:WF S)(h:S.lns[i]?=some ln)(fn:ln.ao=none)(I:ln.num ∉ S.q)(B:y.num=ln.num)(D:y.held=ln.held)(J:y.ao=none)(d:PyData):WF (Cg { S with lns:=S.lns.set i y } i y d):=by
 have eq:(au { S with lns:=S.lns.set i y } y.held).q=S.q:=Fb ..;refine w.iC (y:={ y with held:=[],st:="told",why:=d }) (((w.g.lns<|C5 h B).au y.held).lns ?_) h fn (U9 ..) (λz _=>by change z∈(au { S with lns:=S.lns.set i y } y.held).q↔_;rw[eq]) (λk L n hk p m=>?_) (Ib ..)<|.none rfl ⟨.told,rfl,rfl,J,?_⟩
 .rw[E9];exact Fy (f:=λx:Ln=>x.num) (y:={ y with held:=[],st:="told",why:=d }) (B3 h) rfl
 .exact Ia (S:={ S with lns:=S.lns.set i y }) (by rw[D];exact(w.l i ln h).ge) (by rw[D];exact w.apart h hk n m)
 .show y.num ∉ (au { S with lns:=S.lns.set i y } y.held).q;rwa[eq,B]
def WF.cg(w:WF S)(h:S.lns[i]?=some ln)(f:ln.st=Bu.ba.s):WF (Ek S i ln).2/\Lw.bA { S with lns:=S.lns.set i { ln with ag:=ln.ag+1 } } ln.held:=by
 have L:=w.l i ln h;obtain⟨B,D,⟨O,V⟩,I,J⟩:=AU<|L.way f;refine⟨?_,GF L.nd λp m=>⟨_,L.ow p m,F4⟩⟩;unfold Ek;split
 .exact w.ba h B D rfl rfl f B ⟨by change 0<=ln.ag+1;omega,by assumption⟩ I J
 .exact w.told h B D (y:={ ln with ag:=ln.ag+1 }) rfl rfl B _
end
section
variable {S:PS}{i j:Nat}{ln lo:Ln}
def Nn{z:bf}{h:Gr->Gr}(B:∀g,(h g).pre=g.pre)(D:z≠TU "")(p:bf×Int):Bz { S with az:=S.az.map λg=>if g.pre=z then h g else g } p=if p.1=z then(BG S z).bind λg=>if 0<=p.2 then(h g).hs[p.2.toNat]? else none else Bz S p:=by
 unfold Bz Cz;by_cases c:p.1=z
 .rw[br c,c,cZ D,FA B];simp only[if_true];cases BG S z<;>rfl
 .rw[cZ c];by_cases y:p.1=TU ""
  .rw[br y,br y]
  .rw[cZ y,cZ y,FA B];simp only[cZ c];cases BG S p.1<;>rfl
def WF.takes(w:WF S)(h:S.lns[i]?=some ln)(fn:ln.ao=none)(nq:ln.num ∉ S.q){y:Ln}(D:y.num=ln.num)(eh:y.held=ln.held)(es:y.st=Bu.ba.s)(ef:y.ao=none)(ep:0<=y.ag/\y.ag<=10)(el:(y.ae.length:Int)<S.long)(ek:y.held.length+1<=y.ae.length+1){z:bf}{g:Gr}{k:Int}(B:z≠TU "")(I:BG S z=some g)(jD:Ct g.hs g.js 0=some k) :
  WF { S with az:=S.az.map λg=>if g.pre=z then b9 g k y.num else g,lns:=S.lns.set i { y with held:=y.held++[(z,k)] } }:=by
 have L:=w.l i ln h;obtain⟨⟨k0,k1⟩,V⟩:=Gz (XG 0) (yj _) jD;have Y:k.toNat<g.hs.length:=by omega
 have free:Bz S (z,k)=some .aa:=by unfold Bz Cz;rw[cZ B,I];change(if 0<=k then g.hs[k.toNat]? else none)=_;unfold BZ at V;rw[VD,decide_eq_true_eq,Ux,Uh Y]at V;rw[br k0,Uh Y];exact congrArg some V.1
 have own:∀p:bf×Int,p≠(z,k)->Bz { S with az:=S.az.map λg=>if g.pre=z then b9 g k y.num else g,lns:=S.lns.set i { y with held:=y.held++[(z,k)] } } p=Bz S p:=λp n=>by
  refine(Nn (S:=S) (h:=λg=>b9 g k y.num) (λ_=>rfl) B p).trans ?_;by_cases c:p.1=z
  .rw[br c,I];unfold Bz Cz;rw[c,cZ B,I];change(if 0<=p.2 then(g.hs.set k.toNat _)[p.2.toNat]? else none)=if 0<=p.2 then g.hs[p.2.toNat]? else none
   by_cases J:0<=p.2
   .rw[br J,br J,VA];intro e;exact n<|Prod.ext c (by change p.2=k;omega)
   .rw[cZ J,cZ J]
  .rw[cZ c]
 have nw:∀{j:Nat}{O:Ln}{p:bf×Int},D7 S j O->p∈O.held->p≠(z,k):=λL m e=>by
  have a:=L.ow _ m;rw[e,free]at a;exact F4 (Us a).symm
 refine w.iC ((w.g.b9 z y.num k<|by rw[D];exact Du h).lns<|C5 (y:={ y with held:=y.held++[(z,k)] }) h D) h fn rfl (λ_ _=>.rfl) (λj O n hj p m=>own p<|nw (w.l j O hj) m) rfl ⟨?_,λp m=>?_,.ba,es,ef,by change y.num ∉ S.q;rwa[D],ep,el,by change(y.held++[(z,k)]).length<=_;rwa[UK]⟩
 .show (y.held++[(z,k)]).Nodup;rw[eh];exact VP.mpr ⟨L.nd,Uu.mpr ⟨by simp,.nil⟩,λa ma b mb e=>nw L ma<|by rw[e];exact Um.mp mb⟩
 .have m:p∈y.held++[(z,k)]:=m;rw[eh]at m;rcases UD.mp m with m|m
  .rw[own p<|nw L m];change _=some (GD p.1 i y.num);rw[D];exact L.ow p m
  .rw[Um.mp m];refine(Nn (S:=S) (h:=λg=>b9 g k y.num) (λ_=>rfl) B (z,k)).trans ?_;rw[br rfl,I];change(if 0<=k then(g.hs.set k.toNat<|.str y.num)[k.toNat]? else none)=_;rw[br k0,WU Y];unfold GD;rw[cZ B]
def Sn (h:1<=n/\n<=10)(x:bf):x++D5 n≠TU "":=λe=>by
 have:=congrArg Xf e;rw[Bk,Jy h]at this;have z:(TU "").length=0:=rfl;omega
def WF.gap(w:WF S)(h:S.lns[i]?=some ln)(f:ln.st=Bu.ba.s)(p0:ln.ag≠0):WF (De S i ln).2:=by
 obtain⟨B,D,⟨y3,y4⟩,y5,y6⟩:=AU<|(w.l i ln h).way f;have J:1<=ln.ag/\ln.ag<=10:=by omega
 have lf:(Al ln).ae.length=ln.ae.length+1:=by change(ln.ae++D5 ln.ag).length=_;rw[Bk,Jy J]
 have told:∀d,WF (Cg { S with lns:=S.lns.set i (Al ln) } i (Al ln) d):=λd=>w.told h B D (y:=Al ln) rfl rfl B d;have hi:=w.g.hi;unfold De;dsimp only;split
 .rename_i c
  unfold CJ;split
  .exact told _
  .rename_i g eg
   split
   .exact told _
   .rename_i k ef
    have:=w.takes h B D (y:=Al ln) rfl rfl f B ⟨XG 0,by change(0:Int)<=10;decide⟩ (by omega) (by change ln.held.length+1<=_;omega) (z:=(Al ln).ae) (Sn J _) eg ef;rwa[show(S.lns.set i<|Al ln).set i { Al ln with held:=(Al ln).held++[((Al ln).ae,k)] }=_ from U9 ..]
 .split
  .rename_i c
   exact w.ba h B D (y:=Al ln) rfl rfl f B ⟨XG 0,by change(0:Int)<=10;decide⟩ c<|by change ln.held.length<=_;omega
  .unfold CI;split
   .exact told _
   .rename_i lc hc
    split
    .rename_i hr
     have hc:(S.lns.set i<|Al ln)[Bd (S.lns.set i<|Al ln) (Al ln).ae]?=some lc:=hc;change WF { S with lns:=((S.lns.set i<|Al ln).set i _).set (Bd (S.lns.set i<|Al ln) (Al ln).ae) _ };generalize Bd (S.lns.set i<|Al ln) (Al ln).ae=j at hc;have n:j≠i:=λe=>by
      rw [e,B3 h]at hc;rw[<-Us hc]at hr;exact Bu.ne (u:=.rests) (ln:=Al ln) f (λe=>nomatch e) hr
     rw [VA n.symm]at hc;rw[U9];have I:=w.l j lc hc;obtain⟨V,Y,c3,c4⟩:=AU<|I.way (w:=.rests) hr;have L:=w.l i ln h;have O:∀y:Ln,(S.lns.set i y)[j]?=some lc:=λy=>D4 hc n.symm;refine w.o7 (w.g.lns ?_) h hc n (λz e=>by rw[B]at e;cases e) (λz e=>by rw[Y]at e;cases e) rfl (λ_ _ _=>.rfl) (λ_ _ _ _ _ _ _=>rfl) rfl ⟨L.nd,L.ow,.rings,rfl,D,j,{ lc with st:="rung",ao:=some ln.num },B3<|O _,n,rfl,rfl,rfl⟩ ⟨I.nd,I.ow,.cD,rfl,V,c3,i,{ Al ln with st:="rings",ao:=some lc.num },D4 (B3 h) n,n.symm,rfl,rfl,rfl⟩;rw[Fy (f:=λx:Ln=>x.num) (y:={ lc with st:="rung",ao:=some (Al ln).num }) (O _) rfl];exact C5 (y:={ Al ln with st:="rings",ao:=some lc.num }) h rfl
    .exact told _
def WF.o8(w:WF S)(h:S.lns[i]?=some ln)(f:ln.st=Bu.ba.s):Jz S i ln:=by have L:=w.l i ln h;obtain⟨I,J,⟨B,D⟩,O,V⟩:=AU<|L.way f;have Y:=w.g.hi;exact⟨D,B,Bu.ne (u:=.rests) f (λe=>nomatch e),by omega,(λg m=>(w.g.hg g m).s),by omega,GF L.nd λp m=>⟨_,L.ow p m,F4⟩⟩
def Np(p:bf×Int):Bz (aB S ln) p=Bz S p:=by unfold aB;split<;>rfl
def JD:(aB S ln).lns=S.lns:=by unfold aB;split<;>rfl
def Agg:(aB S ln).long=S.long:=by unfold aB;split<;>rfl
def WF.aB(w:WF S)(h:S.lns[i]?=some ln):WG (aB S ln)/\ln.num ∉ (Lw.aB S ln).q/\∀z,z≠ln.num->(z∈(Lw.aB S ln).q↔z∈S.q):=by
 unfold Lw.aB;split
 .exact ⟨w.g.dP (w.g.dk.erase _) λz m=>w.g.cz z<|List.mem_of_mem_erase m,λm=>((w.g.dk.mem_erase_iff).mp m).1 rfl,λz n=>ZW n⟩
 .rename_i c
  exact⟨w.g,w.abx h c,λ_ _=>.rfl⟩
def WG.bp (g:WG T)(h:T.lns[i]?=some ln):WG (bp T i ln):=(g.au ln.held).lns<|by rw[E9];exact C5 (y:=AX { ln with held:=[] } "rests") h rfl
end
section
variable {S:PS}{i j:Nat}{ln lo:Ln}
def WF.o9(w:WF S)(h:S.lns[i]?=some ln)(fn:ln.ao=none)(hw:ln.st="waits"->ln.num∈S.q):WF (Dt S i ln).2/\Jv S i ln:=by
 have L:=w.l i ln h;obtain⟨g1,D,I⟩:=AU<|w.aB h;have B:CC (Lw.aB S ln) ln=([],Lw.aB S ln):=by simp only[CC,fn]
 have eq:(au (Lw.aB S ln) ln.held).q=(Lw.aB S ln).q:=Fb ..;refine⟨?_,hw,λz e=>(by rw[fn]at e;cases e),by rw[B];exact GF L.nd λp m=>⟨_,(Np p).trans<|L.ow p m,F4⟩⟩;unfold Dt;rw[B];refine w.iC (S':=bp (Lw.aB S ln) i ln) (y:=AX { ln with held:=[] } "rests") (g1.bp<|by rwa[JD]) h fn (by change(Lw.aB S ln).lns.set i _=_;rw[JD]) (λz n=>by change z∈(au (Lw.aB S ln) ln.held).q↔_;rw[eq];exact I z n) (λk J n hk p m=>?_) ((Ib ..).trans Agg)<|.none rfl ⟨.rests,rfl,rfl,rfl,by change ln.num ∉ (au (Lw.aB S ln) ln.held).q;rwa[eq],rfl,rfl,rfl⟩;exact(Ia L.ge<|w.apart h hk n m).trans (Np p)
def WF.left(w:WF S)(h:S.lns[j]?=some lo)(B:lo.num ∉ S.q):∃y:Ln,y.num=lo.num/\y.held=[]/\y.ao=none/\(BF S j lo).2.lns=S.lns.set j y/\(BF S j lo).2.long=S.long/\WG (BF S j lo).2/\(∀p,p ∉ lo.held->Bz (BF S j lo).2 p=Bz S p)/\(∀x,x≠lo.num->(x∈(BF S j lo).2.q↔x∈S.q))/\∀U:PS,U.q=(BF S j lo).2.q->∃v:Bu,y.st=v.s/\Wy U j y v:=by
 have L:=w.l j lo h;have eq:(au S lo.held).q=S.q:=Fb ..;have D:WG (Cy S j lo):=(w.g.au lo.held).lns (by rw[E9];exact C5 (y:={ lo with held:=[] }) h rfl);have I:(Cy S j lo).lns[j]?=some { lo with held:=[] }:=B3 h;have own:∀p,p ∉ lo.held->Bz (au S lo.held) p=Bz S p:=λp n=>Ia L.ge n;unfold BF;split
 .refine ⟨AX { lo with held:=[] } "waits",rfl,rfl,rfl,U9 ..,Ib ..,(D.lns<|C5 (y:=AX { lo with held:=[] } "waits") I rfl).dP ?_ ?_,own,λx n=>?_,λU e=>⟨.cb,rfl,rfl,rfl,?_,rfl,rfl,rfl⟩⟩
  .show ((au S lo.held).q++[lo.num]).Nodup;rw[eq];exact Sh w.g.dk B
  .show ∀z∈(au S lo.held).q++[lo.num],z∈((Cy S j lo).lns.set j<|AX { lo with held:=[] } "waits").map (·.num);rw[eq,C5 (y:=AX { lo with held:=[] } "waits") I rfl,show(Cy S j lo).lns.map (·.num)=S.lns.map (·.num)from C5 (y:={ lo with held:=[] }) h rfl];exact Si w.g.cz<|Du h
  .show x∈(au S lo.held).q++[lo.num]↔_;rw[eq];exact Sj n
  .rw[e];exact U5 _<|Um.mpr rfl
 .refine ⟨AX { lo with held:=[] } "rests",rfl,rfl,rfl,rfl,Ib ..,D.lns ?_,own,λx n=>?_,λU e=>⟨.rests,rfl,rfl,rfl,?_,rfl,rfl,rfl⟩⟩
  .rw[show(Cy S j lo).lns.map (·.num)=S.lns.map (·.num)from C5 (y:={ lo with held:=[] }) h rfl];exact C5 (y:=AX { lo with held:=[] } "rests") h rfl
  .show x∈(au S lo.held).q↔_;rw[eq]
  .rw[e];change lo.num ∉ (au S lo.held).q;rwa[eq]
def WF.tX(w:WF S)(h:S.lns[i]?=some ln)(nw:ln.st≠"waits")(B:S.lns[j]?=some lo)(D:j≠i)(f1:ln.ao=some lo.num)(f2:lo.ao=some ln.num)(nq:ln.num ∉ S.q)(mq:lo.num ∉ S.q):WF (Dt S i ln).2/\Jv S i ln:=by
 have L:=w.l i ln h;have I:Lw.aB S ln=S:=cZ nw;have ei:=JC w B;have O:CC S ln=([(BF S j lo).1],(BF S j lo).2):=by simp only[CC,f1,ei,B]
 obtain⟨y,y1,y2,y3,V,y5,y6,Y,y8,y9⟩:=AG<|w.left B mq;have eq:(au (BF S j lo).2 ln.held).q=(BF S j lo).2.q:=Fb ..;have hi:(BF S j lo).2.lns[i]?=some ln:=by rw[V];exact D4 h D
 refine⟨?_,λe=>absurd e nw,λz e=>?_,?_⟩
 .unfold Dt;rw[I,O];refine w.o7 (S':=bp (BF S j lo).2 i ln) (i:=j) (j:=i) (y:=y) (z:=AX { ln with held:=[] } "rests") (y6.bp hi) B h D.symm (λz e=>by rw[f2]at e;exact(Us e).symm) (λz e=>by rw[f1]at e;exact(Us e).symm) (by change(BF S j lo).2.lns.set i _=_;rw[V]) (λx J n2=>by change x∈(au (BF S j lo).2 ln.held).q↔_;rw[eq];exact y8 x J) (λk lm J n2 hk p m=>(Ia L.ge<|w.apart h hk n2 m).trans<|Y p (w.apart B hk J m)) ((Ib ..).trans y5) (.none y2<|y9 _ eq)<|.none rfl ⟨.rests,rfl,rfl,rfl,?_,rfl,rfl,rfl⟩;change ln.num ∉ (au (BF S j lo).2 ln.held).q;rw[eq];exact λm=>nq<|(y8 _<|FY w.g.num h B D.symm).mp m
 .rw[f1]at e;cases e;exact⟨j,lo,B,rfl,D,by rw[I];exact w.bA B⟩
 .rw[I,O];exact GF L.nd λp m=>⟨_,(Y p<|w.apart B h D.symm m).trans<|L.ow p m,F4⟩
def WF.bB(w:WF S)(h:S.lns[i]?=some ln)(f:ln.st∈LW.bB.b7):WF (Dt S i ln).2/\Jv S i ln:=by
 have L:=w.l i ln h;obtain⟨v,e,y⟩:=As L.wy;have no:∀u:Bu,u.s ∉ LW.bB.b7->v≠u:=λu n z=>n (by rwa[<-z,<-e]);cases v with
 |rests=>exact absurd rfl<|no .rests (by decide +kernel)
 |cD=>exact absurd rfl<|no .cD (by decide +kernel)
 |cb=>exact w.o9 h y.2.1 λ_=>y.2.2.1
 |ba=>exact w.o9 h y.1 λz=>absurd z<|Bu.ne (u:=.cb) e λz=>nomatch z
 |told=>exact w.o9 h y.2.1 λz=>absurd z<|Bu.ne (u:=.cb) e λz=>nomatch z
 |rings =>
  obtain⟨q,j,lo,B,D,f1,f2,I⟩:=y;exact w.tX h (Bu.ne (u:=.cb) e λz=>nomatch z) B D f1 f2 q ((w.l j lo B).way (w:=.cD) I).2.1
 |dm =>
  obtain⟨q,j,lo,B,D,f1,f2,I⟩:=y;exact w.tX h (Bu.ne (u:=.cb) e λz=>nomatch z) B D f1 f2 q ((w.l j lo B).way (w:=.dm) I).1
def WF.jK (w:WF S)(e:Ei S=some x):WF x.2:=by
 obtain⟨z,r,k,ln,I,e2,B,L,e5,rfl⟩:=Im<|M4 w.cT e;generalize Bd S.lns z=i at B ⊢;have il:=(UM.mp B).1;obtain⟨⟨k0,k1⟩,O⟩:=Gz w.g.m0 (YX w.g.m1) e2;have V:k.toNat<S.sk.hs.length:=by omega
 obtain⟨l1,l2,l3,l4⟩:=AU<|(w.l i ln B).jJ (by rw[L,I];exact UI);have nd:=w.g.dk;rw[I]at nd;obtain⟨zr,ou⟩:=Uu.mp nd;have free:Bz S ((TU ""),k)=some .aa:=by change(if 0<=k then S.sk.hs[k.toNat]? else none)=_;unfold BZ at O;rw[VD,decide_eq_true_eq,Ux,Uh V]at O;rw[br k0,Uh V];exact congrArg some O.1
 have own:∀(T:PS),T.az=S.az->T.sk.hs=S.sk.hs.set k.toNat (.int i)->∀p:bf×Int,p≠((TU ""),k)->Bz T p=Bz S p:=λT eg es p n=>by
  unfold Bz Cz BG;rw[eg,es];by_cases c:p.1=TU ""
  .rw[br c,br c];change(if 0<=p.2 then(S.sk.hs.set k.toNat _)[p.2.toNat]? else none)=if 0<=p.2 then S.sk.hs[p.2.toNat]? else none
   by_cases J:0<=p.2
   .rw[br J,br J,VA];intro e;exact n<|Prod.ext c (by change p.2=k;omega)
   .rw[cZ J,cZ J]
  .rw[cZ c,cZ c]
 have nw:∀(j:Nat)(D:Ln),S.lns[j]?=some D->∀p∈D.held,p≠((TU ""),k):=λj D Y p m c=>by
  have a:=(w.l j D Y).ow p m;rw[c,free]at a;exact F4 (Us a).symm
 dsimp only;refine w.iC (y:={ AX ln "dials" with held:=ln.held++[((TU ""),k)] }) (((w.g.bG (k:=k) il).lns<|C5 (S:=S) (y:={ AX ln "dials" with held:=ln.held++[((TU ""),k)] }) B rfl).dP ou λy my=>?_) B l3 rfl (λx n=>?_) (λj D n Y p m=>by refine own _ ?_ ?_ p λc=>?_;rfl;rfl;exact nw j D Y p m c) rfl ?_
 .show y∈(S.lns.set i _).map _;rw[C5 (y:={ AX ln "dials" with held:=ln.held++[((TU ""),k)] }) B rfl];exact w.g.cz y<|by rw[I];exact Uy _ my
 .show x∈r↔_;rw[L]at n;rw[I,T9];exact⟨.inr,λc=>c.resolve_left n⟩
 .have hl:ln.held++[((TU ""),k)]=[((TU ""),k)]:=by rw[l2];rfl
  have lo:=w.g.lo;refine⟨by change(ln.held++_).Nodup;rw[hl];exact Uu.mpr ⟨by simp,.nil⟩,λp m=>?_,.ba,rfl,rfl,?_,⟨XG 0,by change(0:Int)<=10;decide⟩,?_,?_⟩
  .have m:p∈ln.held++[((TU ""),k)]:=m;rw[hl]at m;rw[Um.mp m];change(if 0<=k then(S.sk.hs.set k.toNat<|.int i)[k.toNat]? else none)=some (.int i);rw[br k0,WU V]
  .show ln.num ∉ r;rw[L];exact zr
  .show ((TU "").length:Int)<S.long;have:(TU "").length=0:=rfl;omega
  .show (ln.held++_).length<=(TU "").length+1;rw[hl];exact Nat.le_add_left 1 _
theorem WF.aP:∀(n:Nat){S:PS},WF S->WF (aP n S).2
 |0,_,w=>w
 |n+1,S,w=>by
  unfold Lw.aP;split
  .exact w
  .rename_i e
   exact WF.aP n (w.jK e)
def WF.aby(w:WF S):WF (Cv S).2:=WF.aP _ w
def Bg.txt:Bg->Prop
 |.bh _ w _=>Ok w
 |.line _ z=>Ok z
def LW.in{d:LW}(f:d.fits ln=true):ln.st∈d.b7:=by unfold LW.fits at f;rw[VD,decide_eq_true_eq]at f;exact f.1
def LW.tY(f:LW.gap.fits ln=true):ln.ag≠0:=by unfold LW.fits at f;rw[VD]at f;exact of_decide_eq_true f.2
def LW.ba{d:LW}(f:d.fits ln=true)(e:d.b7=[("dials":bf)]):ln.st=Bu.ba.s:=by have:=LW.in f;rw[e]at this;exact Um.mp this
def WF.go(w:WF S)(h:S.lns[i]?=some ln){d:LW}(f:d.fits ln=true):WF (d.go S i ln).2/\d.ok S i ln:=by
 cases d with
 |lift =>
  apply w.lift h;have:=LW.in f;rcases T9.mp this with e|e
  .exact .inl e
  .exact .inr (Um.mp e)
 |cg=>exact w.cg h<|LW.ba f rfl
 |gap=>exact⟨w.gap h (LW.ba f rfl)<|LW.tY f,w.o8 h<|LW.ba f rfl⟩
 |bB=>exact w.bB h<|LW.in f
end
noncomputable def Ci(z:bf):Ln:=⟨z,"rests","",0,none,.none,[]⟩
noncomputable def CK(p:bf×Int):Gr:=⟨p.1,T1 p.2.toNat .aa,T1 p.2.toNat false,T1 p.2.toNat 0⟩
noncomputable def Hj(n places:Int):Sk:=⟨T1 n.toNat .aa,T1 n.toNat false,T1 n.toNat 0,places,0,T1 n.toNat 0,T1 n.toNat 0⟩
noncomputable def cL(long:Int)(zs:List bf)(n:Int)(gs:List (bf×Int)):PS:=⟨long,zs.map Ci,gs.map CK,Hj n zs.length,[],[]⟩
def At.init{H B:Hp}{p:ar}{o o':HO}{C N:Ax}(t:At H ((p,o)::C))(s:CH [p] H B)(ep:B p=some o')(D:∀c∈N,H c.1=none/\B c.1=some c.2)(V:(N.map (·.1)).Nodup):At B ((p,o')::(N++C)):=by
 have I:=Uu.mp t.nd;refine⟨λc m=>?_,Uu.mpr ⟨λm=>?_,?_⟩⟩
 .rcases T9.mp m with rfl|m
  .exact ep
  .rcases UD.mp m with m|m
   .exact (D c m).2
   .exact s _ _ (λz=>I.1<|Uc.mpr ⟨c,m,Um.mp z⟩) (t.at_ c<|Uy _ m)
 .obtain ⟨c,mc,L⟩:=Uc.mp m;rcases UD.mp mc with mc|mc
  .have:=(D c mc).1;rw[show c.1=p from L,t.hd]at this;cases this
  .exact I.1 (Uc.mpr ⟨c,mc,L⟩)
 .rw[Ui];refine VP.mpr ⟨V,I.2,λx hx y hy e=>?_⟩;obtain⟨c,mc,rfl⟩:=As<|Uc.mp hx;obtain⟨Y,J,rfl⟩:=As<|Uc.mp hy;have O:=(D c mc).1;rw[e,t.at_ Y<|Uy _ J]at O;cases O
structure K2(a:An)(H:Hp)(D:ar)(zs:List bf)(i:Nat)(L:List LX)(C:Ax):Prop where
 t:At H ((D,.dK (L.map λx=>(.inr x.l.num,.ref x.p)))::(L.flatMap (Cn a)++C))
 len:L.length=i
 l:L.map (·.l)=(zs.take i).map Ci
 x:∀(j:Nat)(x:LX),L[j]?=some x->x.i=j/\x.hv=[]/\x.wv=.aa
def K2.push{a:An}{H B:Hp}{D x dx l:ar}{zs:List bf}{i:Nat}{L:List LX}{C:Ax}{z:bf}(m:K2 a H D zs i L C)(O:zs[i]?=some z)(nd:zs.Nodup)(s:Aj H B)(nx:B x=none)(cU:B dx=none)(eV:dx≠x)(nl:(upd (upd B dx<|.own x) x<|.ins a.Line dx []) l=none) :
  K2 a (upd (upd (upd (upd (upd B dx<|.own x) x<|.ins a.Line dx []) l<|.lst []) x<|.ins a.Line dx (Cf z i l "rests" "" 0 .aa .aa)) D<|.dK (BU (L.map λx=>((.inr x.l.num:Ay),V.ref x.p)) (.inr z)<|.ref x)) D zs (i+1) (L++[⟨x,dx,l,i,.aa,[],Ci z⟩]) C:=by
 have no:z ∉ L.map (·.l.num):=λh=>by
  have e:L.map (·.l.num)=zs.take i:=by have:=congrArg (Va Ln.num) m.l;rw[Uq,Uq]at this;rw[show(λx:LX=>x.l.num)=Ln.num∘(λx:LX=>x.l)from rfl,this,show Ln.num∘Ci=id from rfl,Yj]
  rw [e]at h;obtain⟨j,I,J⟩:=V0 h;rw[VM]at I;have bS:zs[j]?=some z:=by rw[yk]at J;rw[Uh<|by omega,J]
  exact FW nd bS O (by omega) rfl
 have s1:Aj B (upd B dx<|.own x):=(Aj.refl B).upd cU;have t1:=(m.t.same λb o e=>s1 _ _<|s _ _ e).new (b:=x) (u:=.ins a.Line dx []) (by rwa[Aw eV.symm]);have t2:=t1.new (u:=.lst []) nl;have t3:=At.set (P:=[_]) (o':=.ins a.Line dx<|Cf z i l "rests" "" 0 .aa .aa) t2;have t4:=At.set (P:=[_,_]) (o':=.dK<|BU (L.map λx=>((.inr x.l.num:Ay),V.ref x.p)) (.inr z) (.ref x)) t3;have t5:=At.perm (C':=(x,.ins a.Line dx<|Cf z i l "rests" "" 0 .aa .aa)::(l,.lst [])::_) t4<|.swap _ _ _;have Y:=At.swap (P:=[_,_]) (M:=(D,_)::L.flatMap (Cn a)) (R:=C) t5;refine⟨?_,by rw[UK,m.len];rfl,?_,λj y I=>?_⟩
 .have ek:BU (L.map λx=>((.inr x.l.num:Ay),V.ref x.p)) (.inr z) (.ref x)=(L.map λx=>((.inr x.l.num:Ay),V.ref x.p))++[(.inr z,.ref x)]:=Kl _<|G8 (f:=λx:LX=>x.l.num) (v:=λx=>V.ref x.p) no;rw[ek]at Y ⊢;rwa[Z4,Ui,Uk]
 .rw[Ui,m.l,VR,O,Ui];rfl
 .by_cases lt:j<L.length
  .rw[Zi lt]at I;exact m.x j y I
  .have jl:=(UM.mp I).1;rw[UK,Ve]at jl;have J:j=L.length:=by omega
   subst J;rw[List.getElem?_concat_length]at I;cases I;exact⟨m.len.symm,rfl,rfl⟩
structure K4(a:An)(H:Hp)(G:ar)(gs:List (bf×Int))(i:Nat)(L:List RX)(C:Ax):Prop where
 t:At H ((G,.dK (L.map λx=>(.inr x.g.pre,.ref x.p)))::(L.flatMap (BV a)++C))
 len:L.length=i
 g:L.map (·.g)=(gs.take i).map CK
def K4.push (m:K4 a H G O i L C)(Y:O[i]?=some q)(nd:(O.map (·.1)).Nodup)(np:H p=none)(cU:H dx=none)(eV:dx≠p)(s:CH [p] (upd (upd H dx<|.own p) p<|.ins a.aM dx []) J)(ep:J p=some (.ins a.aM dx<|G1 B D I))(na:(upd (upd H dx<|.own p) p<|.ins a.aM dx []) B=none)(nb:(upd (upd H dx<|.own p) p<|.ins a.aM dx []) D=none)(nc:(upd (upd H dx<|.own p) p<|.ins a.aM dx []) I=none)(ea:J B=some (.lst (CK q).hs))(eb:J D=some (.lst<|(CK q).js.map V.bl))(ec:J I=some (.lst<|(CK q).ts.map V.int))(ab:B≠D)(ac:B≠I)(bc:D≠I):
  K4 a (upd J G<|.dK (BU (L.map λx=>((.inr x.g.pre:Ay),V.ref x.p)) (.inr q.1)<|.ref p)) G O (i+1) (L++[⟨p,dx,B,D,I,CK q⟩]) C:=by
 have no:q.1 ∉ L.map (·.g.pre):=λh=>by
  have e:L.map (·.g.pre)=(O.take i).map (·.1):=by have:=congrArg (Va Gr.pre) m.g;rwa[Uq,Uq]at this
  rw [e,List.map_take]at h;obtain⟨j,hj,ej⟩:=V0 h;rw[VM,TN]at hj;have bS:(O.map (·.1))[j]?=some q.1:=by rw[yk]at ej;rw[Uh<|by rw[TN];omega,ej]
  exact FW nd bS (j:=i) (y:=q.1) (by rw[T6,Y];rfl) (by omega) rfl
 have s1:Aj H (upd H dx<|.own p):=(Aj.refl H).upd cU;have t1:=(m.t.same s1).new (b:=p) (u:=.ins a.aM dx []) (by rwa[Aw eV.symm]);have t2:=t1.init (N:=[(B,.lst (CK q).hs),(D,.lst<|(CK q).js.map V.bl),(I,.lst<|(CK q).ts.map V.int)]) s ep (λc mc=>by
  simp only[T9,UH,or_false]at mc;rcases mc with rfl|rfl|rfl
  .exact ⟨na,ea⟩
  .exact ⟨nb,eb⟩
  .exact ⟨nc,ec⟩) (by simp[ab,ac,bc])
 have t3:=At.set (P:=[_,_,_,_]) (o':=.dK<|BU (L.map λx=>((.inr x.g.pre:Ay),V.ref x.p)) (.inr q.1) (.ref p)) t2;have t4:=At.swap (P:=[_,_,_,_]) (M:=(G,_)::L.flatMap (BV a)) (R:=C) t3;refine⟨?_,by rw[UK,m.len];rfl,?_⟩
 .have ek:BU (L.map λx=>((.inr x.g.pre:Ay),V.ref x.p)) (.inr q.1) (.ref p)=(L.map λx=>((.inr x.g.pre:Ay),V.ref x.p))++[(.inr q.1,.ref p)]:=Kl _<|G8 (f:=λx:RX=>x.g.pre) (v:=λx=>V.ref x.p) no;rw[ek]at t4 ⊢;rwa[Z4,Ui,Uk]
 .rw[Ui,m.g,VR,Y,Ui];rfl
def So(K:TH)(a:An):Sp:=λvs H Q _=>∃(h dx pl bx lt gt:ar)(long n:Int)(zs:List bf)(ts:List Pr)(R:Ax),vs=[.ref h,.ref pl]/\At H ((h,.ins a.ah dx [])::R)/\(pl,.ins a.Plan bx (KN long lt n gt))∈R/\KL K a.Plan/\H lt=some (.tup (zs.map V.str))/\H gt=some (.tup (ts.map Bp))/\Ds H ts/\zs.Nodup/\(ts.map (·.2.1)).Nodup/\(∀t∈ts,t.2.1≠TU ""/\0<=t.2.2/\t.2.2<=1000)/\ts.length<=1000/\zs.length<=60/\0<=n/\n<=60 /\
 ∀H' X,X.h=h->X.S=cL long zs n (ts.map (·.2))->HT K a H' X R->Ah H H'->Q .aa H'
def At.nw (t:At H C)(n:BI H B l o):At B ((l,o)::C):=by rw[n.e];exact t.new n.n
def At.st(P:Ax){H:Hp}{R:Ax}{h c dx:ar}{kv:List (bf×V)}{nm:bf}{v:V}{N:Hp->Prop}(t:At H (P++(h,.ins c dx kv)::R))(q:∀B D,D=A8 nm v kv->At B (P++(h,.ins c dx D)::R)->Ah H B->N B):N (upd H h<|.ins c dx (A8 nm v kv)):=q _ _ rfl (At.set t)<|.chg (t.get<|U5 _ UI) rfl
def EG:AM ["self","plan"] ["self","plan"] (Ae<|Ai (top 28) 0):=.of
def Agh:Gm (Ae<|Ai (top 28) 0) "AT_SEEKERS":=.of
def Agi:Gm (Ae<|Ai (top 28) 0) "Seekers":=.of
def Agj:Gm (Ae<|Ai (top 28) 0) "len":=.of
def Agk:Gm (Ae<|Ai (top 28) 0) "enumerate":=.of
noncomputable def K5:Scope:={ kind:=.function,names:=[(".0",.local),("prefix",.local),("many",.local),("Group",.globalImplicit)],isGenerator:=false,isCoroutine:=false,more:=[] }
def Nq:BK K5 (Ae<|Ai (top 28) 0) ["prefix","many"] ["self","plan"] [none,none]:=BK.mk' rfl (by decide +kernel) (by decide +kernel) (by decide +kernel) (by decide +kernel) rfl<|by decide +kernel
def Sq:Nm K5 "prefix":=.of
def Sr:Nm K5 "many":=.of
def Agl:Gm K5 "Group":=.of
noncomputable def K6:Scope:={ kind:=.function,names:=[(".0",.local),("place",.local),("number",.local),("Line",.globalImplicit)],isGenerator:=false,isCoroutine:=false,more:=[] }
def Nr:BK K6 (Ae<|Ai (top 28) 0) ["place","number"] ["self","plan"] [none,none]:=BK.mk' rfl (by decide +kernel) (by decide +kernel) (by decide +kernel) (by decide +kernel) rfl<|by decide +kernel
def Ss:Nm K6 "place":=.of
def Nt:Nm K6 "number":=.of
def Agm:Gm K6 "Line":=.of
def Agn(F:AI K "__init__" "Hall.__init__" (Ai (top 28) 0) f fd)(T:TxtH P w K mg a)(abz:Gu P w K mg base Au 2 a.Line "Line" ["self","number","place"] (Rr a))(abA:Gu P w K mg base Au 2 a.aM "Group" ["self","many"] (KA K a))(abB:Gu P w K mg base Au 2 a.aL "Seekers" ["self","many","places"] (Q5 K a)):AB P w K mg base Au 4 f fd ["self","plan"] (So K a):=by
 refine F.ok EG.fs λaj A outer s H vs Q E hr h=>?_
 .obtain ⟨h,dx,pl,bx,lt,gt,long,n,zs,ts,R,rfl,t,kR,pc,aU,kT,lay,nz,ng,gk,gz,zl,n0,n1,q⟩:=h;have hu:=hr.units;refine⟨_,(@Af _ _ _ _ _ (BH (Aa 0 EG) (AE (Aa 1 EG) rfl) rfl)
    (Af (BH (Aa 0 EG) (QF rfl Nr (AdU Agk T.ji<|Ab (AE (Aa 1 EG) rfl) Ac) (λcl C fp π s₂ H₂=>(HK (X:=Br _ _ _ cl C fp π s₂ H₂) K rfl 2 rfl (B4 (Dc 0 Nr.nd Ss.comp)<|B4 (Dc 1 Nr.nd Nt.comp) DU) rfl rfl)) (λcl C fp π s₂ H₂=>GW) (λcl C fp π s₂ H₂=>(Az 1 Nt.comp)) λcl C fp π s₂ H₂=>(Ja abz Agm.comp hr.d AN<|Ab (Az 1 Nt.comp) (Ab (Az 0 Ss.comp) Ac))) rfl)
    (Af (BH (Aa 0 EG) (QF rfl Nq (OF<|AE (Aa 1 EG) rfl) (λcl C fp π s₂ H₂=>(HK (X:=Br _ _ _ cl C fp π s₂ H₂) K rfl 2 rfl (B4 (Dc 0 Nq.nd Sq.comp)<|B4 (Dc 1 Nq.nd Sr.comp) DU) rfl rfl)) (λcl C fp π s₂ H₂=>GW) (λcl C fp π s₂ H₂=>(Az 0 Sq.comp)) λcl C fp π s₂ H₂=>(Ja abA Agl.comp hr.d AN<|Ab (Az 1 Sr.comp) Ac)) rfl)
    (Af (Ca (UE (UJ (by decide) _) hu) (AE (Aa 0 EG) rfl) (HN Agh T.ic) (Ja abB Agi hr.d AN<|Ab (AE (Aa 1 EG) rfl) (Ab (Bc BQ Agj T.n_len BJ<|Ab (AE (Aa 1 EG) rfl) Ac) Ac)) rfl)
    (Af (BH (Aa 0 EG) (Bb Ac) rfl)
    (Ak<|BH (Aa 0 EG) (Bb Ac) rfl)))))),?_⟩
  try dsimp only[av,aw]
  show AK pl a.Plan bx _ _ rfl (t.tl.get kR) pc.cls pc.l rfl ?_;show ER h a.ah dx _ rfl ⟨t.hd,T.hc.cls,T.hc.lo,(UP rfl),At.st [] t λH1 k1 e1 t1 p1=>?_⟩;show AK pl a.Plan bx _ _ rfl (t1.tl.get kR) pc.cls pc.n rfl ?_;show A9 lt _ rfl (.of<|p1.t aU) (λD nD=>?_);refine AdV (xs:=zs.map V.str) (λi σ H2=>∃x y L,σ=[x,y]/\K2 a H2 D zs i L ((h,.ins a.ah dx k1)::R)/\Ah H H2) ⟨none,none,[],rfl,⟨t1.new nD,rfl,rfl,λj x h=>by simp at h⟩,p1.trans<|.new nD⟩ (λi σ H2 _ ⟨_,_,_,_,_,p⟩=>.of<|p.t aU) ?_ ?_
  .rintro i v tt σ H2 hx ⟨x0,y0,L,rfl,m,p2⟩ nt;rw[T6]at hx;obtain⟨z,hz,rfl⟩:=As<|UG.mp hx;have s3:=(Aj.refl H2).upd (o:=.tup [.int i,.str z]) nt;have O:(upd H2 tt<|.tup [.int i,.str z]) tt=some (.tup [.int i,.str z]):=Aq;generalize upd H2 _ _=H3 at s3 O ⊢;show CQ tt _ rfl (.of O) rfl ?_;ext;intro x I nx cU eV;refine ER x I z i rfl ⟨Aq,λl nl=>⟨rfl,?_⟩⟩;have gh:H3 l=none:=by
    have z1:∀{G:Hp}{b c:ar}{o:HO},(upd G b o) c=none->G c=none:=λ{G b c o} e=>by
     by_cases z:c=b
     .rw[z,Aq]at e;cases e
     .rwa[Aw z]at e
    exact z1<|z1 nl
   have sC:Aj H3 (upd (upd (upd (upd H3 I<|.own x) x<|.ins a.Line I []) l<|.lst []) x<|.ins a.Line I (Cf z i l "rests" "" 0 .aa .aa)):=λb o e=>by
    rwa[Aw<|Ce e nx,Aw<|Ce e gh,Aw<|Ce e nx,Aw<|Ce e cU]
   have r:=m.push hz nz s3 nx cU eV nl;have hD:=sC _ _<|s3 _ _ m.t.hd;show Ed _ (.inr z) rfl ⟨hD,?_,_,_,_,rfl,r,p2.trans<|(Ah.of s3).trans ((Ah.of sC).trans<|.chg hD rfl)⟩;rw[TZ,TN,m.len];have:=(UM.mp hz).1;omega
  .intro σ H2 zq;replace zq:=C7 zq;obtain⟨x0,y0,L,rfl,m,p2⟩:=zq;rw[TN]at m;have ml:=m.l;rw[Vn]at ml;show ER h a.ah dx k1 rfl ⟨m.t.get<|by simp,T.hc.cls,T.hc.li,(by rw[e1];exact UP rfl),At.st ((D,_)::L.flatMap (Cn a)) m.t λH3 k3 O t3 p3=>?_⟩;replace p3:=p2.trans p3
   have abC:H3 pl=some (.ins a.Plan bx<|KN long lt n gt):=t3.get<|U5 _ (Uy _ kR);show AK pl a.Plan bx _ _ rfl abC pc.cls pc.g rfl ?_;refine EO gt rfl ⟨_,.of<|p3.t kT⟩ λG nG=>?_;refine AdW (xs:=ts.map Bp) (λi σ H4=>∃x y B,σ=[x,y]/\K4 a H4 G (ts.map (·.2)) i B ((D,.dK<|L.map λx=>(.inr x.l.num,.ref x.p))::L.flatMap (Cn a)++(h,.ins a.ah dx k3)::R)/\Ah H H4) ⟨none,none,[],rfl,⟨t3.new nG,rfl,rfl⟩,p3.trans<|.new nG⟩ (λi σ H4 _ ⟨_,_,_,_,_,p⟩=>.of<|p.t kT) ?_ ?_
   .intro i v σ H4 hx zq;replace zq:=C7 zq;obtain⟨x0,y0,B,rfl,cM,p4⟩:=zq;rw[T6]at hx;obtain⟨J,gT,rfl⟩:=As<|UG.mp hx;have g3:=gk J<|Ug gT;have oQ:=p4.t<|lay J (Ug gT);show⟨J.1,_,rfl,.of oQ,rfl,?_⟩;ext;intro x I nx cU eV;refine⟨x,J.2.2,a.aM,I,rfl,Aq,T.gc,g3.2.1,g3.2.2,λH5 ra rb rc s5 e5 na nb nc ea eb ec ab ac bc=>⟨rfl,?_⟩⟩;have r:=cM.push (q:=J.2) (by rw[T6,gT];rfl) (by rwa[Uq]) nx cU eV s5 e5 na nb nc ea eb ec ab ac bc;have s4:Aj H4 H5:=λb o e=>s5 b o (λz=>by rw[Um.mp z,nx]at e;cases e) (by rwa[Aw<|Ce e nx,Aw<|Ce e cU]);have hG:=s4 _ _ cM.t.hd;show⟨_,.inr J.2.1,rfl,hG,?_,_,_,_,rfl,r,p4.trans<|(Ah.of s4).trans (.chg hG rfl)⟩;rw[TZ,TN,cM.len];have:=(UM.mp gT).1;omega
   .intro σ H4 zq;replace zq:=C7 zq;obtain⟨x0,y0,B,rfl,cM,p4⟩:=zq;rw[TN]at cM;have gl:=cM.g;rw[show(ts.map (·.2)).take ts.length=ts.map (·.2) by rw[ZC<|by rw[TN];exact Ua _]]at gl;have t4:=cM.t;generalize hdl:(HO.dK<|L.map λx=>((.inr x.l.num:Ay),V.ref x.p))=dl at t4;ext;have kU:At H4 (((G,.dK<|B.map λx=>(.inr x.g.pre,.ref x.p))::(B.flatMap (BV a)++((D,dl)::L.flatMap (Cn a))))++(h,.ins a.ah dx k3)::R):=by
     rwa[Wa,Uk]
    refine ER h a.ah dx k3 rfl ⟨kU.get<|by simp,T.hc.cls,T.hc.sw,(by rw[O,e1];exact UP rfl),At.st _ kU λH5 k5 e5 t5 p5=>?_⟩;replace p5:=p4.trans p5
    have ua:H5 pl=some (.ins a.Plan bx<|KN long lt n gt):=t5.get<|U5 _ (Uy _ kR);show AK pl a.Plan bx _ _ rfl ua pc.cls pc.s rfl ?_;show AK pl a.Plan bx _ _ rfl ua pc.cls pc.n rfl ?_;show TY (A9 lt _ rfl (.inr<|.of (p5.t aU)) ?_);ext;rw[TN];intro x I nx cU eV;have t6:=(t5.same<|(Aj.refl H5).upd (o:=.own x) cU).new (b:=x) (u:=.ins a.aL I []) (by rwa[Aw eV.symm]);refine AK x n zs.length a.aL I rfl Aq T.sc n0 (by omega) λH7 ra rb rc rs bo x7 k7 na nb nc ns nw=>⟨rfl,?_⟩;have s7:Aj H5 H7:=λb o e=>x7 b o (λz=>by rw[Um.mp z,nx]at e;cases e) (by rwa[Aw<|Ce e nx,Aw<|Ce e cU]);obtain⟨kdx,ke⟩:=k7.ins;obtain⟨Y,kW⟩:∃Y:SX,Y=⟨x,kdx,ra,rb,rc,rs,bo,Hj n zs.length⟩:=⟨_,rfl⟩;have t7:At H7 (B7 a Y++(((G,.dK<|B.map λx=>(.inr x.g.pre,.ref x.p))::(B.flatMap (BV a)++((D,dl)::L.flatMap (Cn a))))++(h,.ins a.ah dx k5)::R)):=by
     rw [kW];exact t6.init (N:=[(ra,.lst<|T1 n.toNat .aa),(rb,.lst<|(T1 n.toNat false).map V.bl),(rc,.lst<|(T1 n.toNat 0).map V.int),(rs,.lst<|(T1 n.toNat 0).map V.int),(bo,.lst<|(T1 n.toNat 0).map V.int)]) x7 ke (λc mc=>by
      simp only[T9,UH,or_false]at mc;rcases mc with rfl|rfl|rfl|rfl|rfl
      .exact ⟨na,k7.ha⟩
      .exact ⟨nb,k7.hb⟩
      .exact ⟨nc,k7.hc⟩
      .exact ⟨ns,k7.gj⟩
      .exact ⟨nw,k7.hw⟩) k7.ap
    have hh7:=s7 _ _<|t5.get (U5 _ UI);have ub:=s7 _ _<|t5.get (XO _ UI);show AK h a.ah dx _ _ rfl hh7 T.hc.cls T.hc.sw (by rw[e5,O,e1];rfl) ?_;show A9 G _ rfl (.inl ⟨_,.inr "",ub,rfl,(by rw[TN,cM.len,TZ];omega),rfl⟩) ?_;have nos:Ba (B.map λx=>((.inr x.g.pre:Ay),V.ref x.p)) (.inr<|TU "")=none:=G8 (f:=λx:RX=>x.g.pre) (v:=λx=>V.ref x.p) λmm=>by
     have e:B.map (·.g.pre)=ts.map (·.2.1):=by have:=congrArg (Va Gr.pre) gl;rwa[Uq,Uq,Uq]at this
     rw [e]at mm;obtain⟨J,mt,et⟩:=As<|Uc.mp mm;exact(gk J mt).1 et
    rw [Kl _ nos];have t8:=At.set (P:=B7 a Y) (o':=.dK<|(B.map λx=>((.inr x.g.pre:Ay),V.ref x.p))++[(.inr<|TU "",.ref x)]) t7;have p8:Ah H (upd H7 G<|.dK ((B.map λx=>((.inr x.g.pre:Ay),V.ref x.p))++[(.inr<|TU "",.ref x)])):=p5.trans<|(Ah.of s7).trans (.chg ub rfl);generalize upd H7 _ _=H8 at t8 p8 ⊢;generalize hkv:HO.dK ((B.map λx=>((.inr x.g.pre:Ay),V.ref x.p))++[(.inr<|TU "",.ref x)])=kX at t8;have t9:At H8 ((h,.ins a.ah dx k5)::(D,dl)::(G,kX)::(B7 a Y++(B.flatMap (BV a)++(L.flatMap (Cn a)++R)))):=by
     have u1:At H8 ((B7 a Y++((G,kX)::(B.flatMap (BV a)++((D,dl)::L.flatMap (Cn a)))))++(h,.ins a.ah dx k5)::R):=by rwa[Uk]
     have u2:=u1.front;have u3:At H8 (((h,.ins a.ah dx k5)::(B7 a Y++((G,kX)::B.flatMap (BV a))))++(D,dl)::(L.flatMap (Cn a)++R)):=by rw[Uk,Wa,Uk,Wa]at u2;rwa[Wa,Uk,Wa]
     have u4:=u3.front;have u5:At H8 (((D,dl)::(h,.ins a.ah dx k5)::B7 a Y)++(G,kX)::(B.flatMap (BV a)++(L.flatMap (Cn a)++R))):=by rwa[Wa,Uk,Wa]at u4
     have u6:=u5.front;exact u6.perm<|((Z8 _ _ _).trans<|yl _ (Z8 _ _ _)).trans (Z8 _ _ _)
    show⟨Ao,λqa Ha na=>?_⟩;have ta:=t9.nw na;have pa:=p8.trans<|.of na.same;show ER h a.ah dx k5 rfl ⟨ta.tl.hd,T.hc.cls,T.hc.qu,(by rw[e5,O,e1];exact UP rfl),At.st [_] ta λHb kb eb tb pb=>?_⟩;show⟨Ao,λda Hc uc=>?_⟩;have tc:=tb.nw uc;show ER h a.ah dx kb rfl ⟨tc.tl.tl.hd,T.hc.cls,T.hc.dn,(by rw[eb,e5,O,e1];exact UP rfl),At.st [_,_] tc λHd kd ed td pd=>?_⟩;replace pd:=pa.trans<|pb.trans ((Ah.of uc.same).trans pd)
    obtain rfl:kd=G6 long D G qa da:=by rw[ed,eb,e5,O,e1];rfl
    have te:=At.swap (P:=[_,_]) (M:=[_,_,_])<|At.perm (C':=(qa,_)::(da,_)::_) td (.swap _ _ _);have eS:(⟨h,dx,D,G,qa,da,long,L,B,Y,[],[]⟩:HX).S=cL long zs n (ts.map (·.2)):=by change(⟨long,L.map (·.l),B.map (·.g),Y.k,[],[]⟩:PS)=_;rw[ml,gl,kW];rfl
    refine q Hd ⟨h,dx,D,G,qa,da,long,L,B,Y,[],[]⟩ rfl eS ⟨?_,?_⟩ pd
    .subst kW;rwa[<-hkv,<-hdl]at te
    .have en:L.map (·.l.num)=zs:=by
      have:=congrArg (Va Ln.num) ml;rwa[Uq,Uq,show Ln.num∘Ci=id from rfl,Yj]at this
     have eg:B.map (·.g.pre)=ts.map (·.2.1):=by have:=congrArg (Va Gr.pre) gl;rwa[Uq,Uq,Uq]at this
     have one:∀g∈B,∃J∈ts,g.g=CK J.2:=λg jL=>by
      have:g.g∈(ts.map (·.2)).map CK:=by rw[<-gl];exact Uc.mpr ⟨g,jL,rfl⟩
      obtain⟨q2,m2,e2⟩:=As<|Uc.mp this;obtain⟨J,m3,O⟩:=As<|Uc.mp m2;exact⟨J,m3,by rw[O,e2]⟩
     refine⟨by change(L.map (·.l.num)).Nodup;rwa[en],by change(B.map (·.g.pre)).Nodup;rwa[eg],λg jL=>?_,λj y hj=>?_,λg jL=>?_,?_⟩
     .obtain ⟨J,m3,O⟩:=one g jL;rw[O];exact(gk J m3).1
     .obtain ⟨y1,y2,y3⟩:=m.x j y hj;have:y.l∈zs.map Ci:=by rw[<-ml];exact Uc.mpr ⟨y,Ug hj,rfl⟩
      obtain⟨z,_,ez⟩:=As<|Uc.mp this;exact⟨y1,by rw[y2,<-ez];trivial,by rw[y3,<-ez];exact .aa,by rw[<-ez];rfl,by rw[<-ez];exact Vc _⟩
     .obtain ⟨J,m3,O⟩:=one g jL;have:=gk J m3;rw[O];exact⟨by simp[CK],by simp[CK],by simp only[CK,U3];omega⟩
     .show HV Y.k;rw[kW];exact⟨by simp[Hj],by simp[Hj],by simp[Hj],by simp[Hj],by simp only[Hj,U3];omega⟩
section
variable {S:PS}{i j:Nat}{ln lo:Ln}
theorem K7:∀(ts:List (bf×Int))(S:PS),(au S ts).dn=S.dn
 |[],_=>rfl
 |t::ts,S=>(K7 ts _).trans (by unfold aE;split<;>rfl)
def JE:(Cg S i ln d).dn=S.dn:=K7 ..
def Ago:(BF S j lo).2.dn=S.dn:=by unfold BF;split<;>exact K7 ..
def LW.abD(d:LW):(d.go S i ln).2.dn=S.dn/\(d.go S i ln).1.length<=10:=by
 cases d with
 |lift =>
  refine⟨?_,by change 1<=10;decide⟩;change(CB S i ln).2.dn=_;unfold CB;split
  .rfl
  .split
   .rfl
   .split<;>rfl
 |cg =>
  change(Ek S i ln).2.dn=_/\(Ek S i ln).1.length<=10;unfold Ek;split
  .exact ⟨rfl,by change 0<=10;decide⟩
  .exact ⟨JE,by change 1<=10;decide⟩
 |gap =>
  refine⟨?_,by change 1<=10;decide⟩;change(De S i ln).2.dn=_;unfold De;dsimp only;split
  .unfold CJ;split
   .exact JE
   .split
    .exact JE
    .rfl
  .split
   .rfl
   .unfold CI;split
    .exact JE
    .split
     .rfl
     .exact JE
 |bB =>
  have B:(aB S ln).dn=S.dn:=by unfold aB;split<;>rfl
  have D:(CC (aB S ln) ln).2.dn=S.dn/\(CC (aB S ln) ln).1.length<=1:=by
   unfold CC;split
   .exact ⟨B,Vc _⟩
   .split
    .exact ⟨B,Vc _⟩
    .exact ⟨Ago.trans B,Ua _⟩
  refine⟨(K7 ..).trans D.1,?_⟩;change(CC (aB S ln) ln).1.length+1<=10;omega
def Agp (p:bf×Int):Bz (Co S b z k) p=Bz S p:=by
 unfold Co;by_cases c:z=TU ""
 .rw[br c];rfl
 .rw[cZ c];refine(Nn (h:=λg=>{ g with js:=g.js.set k.toNat b }) (λ_=>rfl) c p).trans ?_;by_cases e:p.1=z
  .rw[br e];unfold Bz Cz;rw[e,cZ c];cases BG S z<;>rfl
  .rw[cZ e]
def Ic:(Co S b z k).lns=S.lns/\(Co S b z k).q=S.q/\(Co S b z k).long=S.long/\(Co S b z k).dn=S.dn:=by unfold Co;split<;>exact⟨rfl,rfl,rfl,rfl⟩
def WF.bh(w:WF S)(b:Bool)(z:bf)(k:Int):WF (Co S b z k) :=
 w.chg (w.g.bh b z k) (λ_=>False) (λ_ _=>by rw[Ic.1]) (λ_ _ f=>f.elim) (λ_ _ _ _=>by rw[Ic.2.1]) (λ_ _ _ _ p _=>Agp p) Ic.2.2.1 λ_ _ f=>f.elim
def WF.res(w:WF S){d:Bg}{r:List PyData×PS}(e:d.res S=.inr r):WF r.2/\r.2.dn=S.dn/\r.1.length<=10:=by
 cases d with
 |bh b z k =>
  unfold Bg.res at e;dsimp only at e;split at e
  .cases e
  .split at e
   .cases e;exact⟨w.bh b z k,Ic.2.2.2,Vc _⟩
   .cases e
 |line d z =>
  unfold Bg.res at e;dsimp only at e;split at e
  .cases e
  .split at e
   .rename_i ln h f
    cases e;exact⟨(w.go h f).1,d.abD⟩
   .cases e
def WF.pre(w:WF S){d:Bg}(t:d.txt):d.pre S:=by
 cases d with
 |bh b z k=>exact t
 |line d z =>
  refine⟨t,λln h=>⟨?_,λe m=>?_,λf=>(w.go h f).2⟩⟩
  .obtain ⟨v,e,_⟩:=(w.l _ ln h).wy;rw[e];exact v.ok
  .subst e;exact w.o8 h<|Um.mp m
def WF.next(w:WF S){d:Bg}{r:List PyData×PS}(e:d.res S=.inr r)(dd:ar):WF (Cv<|Dl r.2 dd).2:=WF.aby (S:=Dl r.2 dd)<|(w.res e).1.dn (d:=r.2.dn++[V.ref dd])
theorem Su:∀(n:Nat)(S:PS),(aP n S).2.dn=S.dn
 |0,_=>rfl
 |n+1,S=>by
  unfold aP;split
  .rfl
  .rename_i x e
   refine(Su n _).trans ?_;unfold Ei at e;split at e
   .cases e
   .split at e
    .cases e
    .split at e
     .cases e
     .cases e;rfl
def WF.abE(w:WF S){d:Bg}{r:List PyData×PS}(e:d.res S=.inr r)(dd:ar):(Cv<|Dl r.2 dd).2.dn=S.dn++[.ref dd]:=(Su ..).trans<|by change r.2.dn++_=_;rw[(w.res e).2.1]
end
def WF.cL (L:2<=long)(O:long<=9)(Y:zs.Nodup)(z0:0<zs.length)(z1:zs.length<=60)(n0:1<=n)(n1:n<=60)(ng:(B.map (·.1)).Nodup)(J:∀p∈B,p.1≠TU ""/\0<=p.2/\p.2<=10)(zk:∀z∈zs,Ok z/\0<z.length)(pk:∀p∈B,Ok p.1)(zl:∀z∈zs,(z.length:Int)=long)(pl:∀p∈B,(p.1.length:Int)<=long-2)(dg:∀z∈zs,Dj z):WF (cL long zs n B):=by
 have I:((zs.map Ci).map (·.num))=zs:=by rw[Uq];exact Yj zs
 have ep:((B.map CK).map (·.pre))=B.map (·.1):=by rw[Uq];rfl
 have D:∀{α:Type}(x:α),(T1 n.toNat x).length=n.toNat:=λx=>U3;have all:∀{p:Gr->Prop},(∀y∈B,p<|CK y)->∀g∈B.map CK,p g:=λh g m=>by
  obtain⟨y,my,rfl⟩:=As<|Uc.mp m;exact h y my
 refine⟨⟨by change((zs.map Ci).map _).Nodup;rwa[I],by change((B.map CK).map _).Nodup;rwa[ep],all (p:=λg=>g.pre≠TU "") λy m=>(J y m).1,by change(zs.map Ci).length<=60;rwa[TN],by change 0<(zs.map Ci).length;rwa[TN],.nil,(λz m=>nomatch m),XG 0,?_,by change(zs.length:Int)=((zs.map Ci).length:Nat);rw[TN],λv m=>.inl (Z9.mp m).2,all (p:=GG _) λy m v mv=>.inl (Z9.mp mv).2,all (p:=G7) λy m=>⟨?_,?_,?_⟩,⟨?_,?_,?_,?_,?_⟩,(by change ∀z∈(zs.map Ci).map (·.num),_;rwa[I]),all (p:=λg=>Ok g.pre) λy m=>pk y m,L,O,(by change ∀z∈(zs.map Ci).map (·.num),_;rwa[I]),all (p:=λg=>(g.pre.length:Int)<=long-2) λy m=>pl y m,(by change ∀z∈(zs.map Ci).map (·.num),_;rwa[I])⟩,λi ln h=>?_⟩
 .show (0:Int)<((T1 n.toNat V.aa).length:Nat);rw[D];omega
 .show (T1 _ _).length=(T1 _ _).length;rw[U3,U3]
 .show (T1 _ _).length=(T1 _ _).length;rw[U3,U3]
 .show (T1 _ _).length<=1000;rw[U3];have:=(J y m).2.2;omega
 .show (T1 _ _).length=(T1 _ _).length;rw[D,D]
 .show (T1 _ _).length=(T1 _ _).length;rw[D,D]
 .show (T1 _ _).length=(T1 _ _).length;rw[D,D]
 .show (T1 _ _).length=(T1 _ _).length;rw[D,D]
 .show (T1 _ _).length<=1000;rw[D];omega
 .have h:(zs.map Ci)[i]?=some ln:=h;rw[T6]at h;obtain⟨z,_,rfl⟩:=As<|UG.mp h;exact .none rfl ⟨.rests,rfl,rfl,rfl,(λm=>nomatch m),rfl,rfl,rfl⟩
inductive Fd where
 |way|ae|ag|ao|why
 deriving DecidableEq
inductive Fl where
 |ax|aC|aR|shr
 deriving DecidableEq
structure VW where
 (w ln q dn sp st:ar) (fa:Fd->ar) (ka:Fl->ar) (long mark:Int) (lns qs:List bf) (ds:List V) (kx:List (Ay×V)) (kf:Fd->List bf) (ff:Fd->bf->V) (kz:Fl->List bf) (la:Fl->bf->ar) (lv:Fl->bf->List V) (dq du:List Int)
noncomputable def dS(zs:List bf)(f:bf->V):List (Ay×V):=zs.map λz=>(.inr z,f z)
def up{α β:Type} [DecidableEq α] (f:α->β) (z:α) (v:β):α->β:=λy=>if y=z then v else f y
def A0{α β γ:Type} [DecidableEq α] [DecidableEq β] (f:α->β->γ) (d:α) (z:β) (v:γ):α->β->γ:=up f d (up (f d) z v)
noncomputable def VW.kv(W:VW):List (Ay×V):=(.inr "long",.int W.long)::(.inr "lines",.ref W.ln)::(.inr "queue",.ref W.q)::(.inr "mark",.int W.mark)::(.inr "done",.ref W.dn)::(.inr "way",.ref (W.fa .way))::(.inr "figures",.ref (W.fa .ae))::(.inr "many",.ref (W.fa .ag))::(.inr "train",.ref (W.ka .ax))::(.inr "end",.ref (W.fa .ao))::(.inr "why",.ref (W.fa .why))::(.inr "held",.ref (W.ka .aC))::(.inr "stuck",.ref (W.ka .aR))::(.inr "shares",.ref (W.ka .shr))::W.kx
def VW.fc(W:VW)(d:Fd):ar×HO:=(W.fa d,.dK (dS (W.kf d) (W.ff d)))
def VW.kc(W:VW)(d:Fl):ar×HO:=(W.ka d,.dK (dS (W.kz d) λu=>.ref (W.la d u)))
def VW.lc(W:VW)(d:Fl):Ax:=(W.kz d).map λu=>(W.la d u,.lst (W.lv d u))
noncomputable def VW.top(W:VW):Ax:=[(W.w,.dK W.kv),(W.ln,.lst (W.lns.map V.str)),(W.q,.lst (W.qs.map V.str)),(W.dn,.lst W.ds),W.fc .way,W.fc .ae,W.fc .ag,W.fc .ao,W.fc .why,W.kc .ax,W.kc .aC,W.kc .aR,W.kc .shr]
noncomputable def VW.C(W:VW)(R:Ax):Ax:=W.top++(W.lc .ax++(W.lc .aC++(W.lc .aR++(W.lc .shr++R))))
section
variable {α β γ:Type} [DecidableEq α] {f:α->β} {y z:α} {v:β}
def FC:up f z v z=v:=br rfl
def Fc(n:y≠z):up f z v y=f y:=cZ n
def Nu:up f z (f z)=f:=by
 funext y
 by_cases e:y=z
 .rw[e,FC]
 .rw[Fc e]
def C6 [DecidableEq β] {g:α->β->γ} {d:α} {z:β} {v:γ}:A0 g d z v d z=v:=by unfold A0;rw[FC,FC]
def Df [DecidableEq β] {g:α->β->γ} {d e:α} {y z:β} {v:γ} (n:¬(e=d/\y=z)):A0 g d z v e y=g e y:=by
 unfold A0;by_cases c:e=d
 .subst c;rw[FC,Fc λe=>n ⟨rfl,e⟩]
 .rw[Fc c]
end
theorem FD{f:bf->V}{z:bf}:∀{zs:List bf},z∈zs->Ba (dS zs f) (.inr z)=some (f z)
 |y::zs,m=>by
  by_cases e:y=z
  .subst e;exact FQ rfl
  .exact (EU (λc=>e (Wd c))).trans (FD ((T9.mp m).resolve_left λc=>e c.symm))
theorem JF{f:bf->V}{z:bf}:∀{zs:List bf},z ∉ zs->Ba (dS zs f) (.inr z)=none
 |[],_=>rfl
 |y::zs,m=>(EU (λc=>m (by rw[<-Wd c];exact UI))).trans (JF λc=>m (Uy _ c))
def Nv{f:bf->V}{z:bf}{zs:List bf}(m:z∈zs)(v:V):BU (dS zs f) (.inr z) v=dS zs (up f z v):=by
 unfold BU;rw[Ki,FD m,br<|by rfl];change Va _ (Va _ zs)=Va _ zs;rw[Uq];refine Vr λy _=>?_;change(if (UL y:Ay)=.inr z then _ else _)=((UL y:Ay),up f z v y);unfold up;by_cases e:y=z
 .rw[br<|congrArg _ e,br e]
 .rw[cZ λc=>e<|Wd c,cZ e]
def Agq{f:bf->V}{z:bf}{zs:List bf}(n:z ∉ zs){v:V}:dS zs (up f z v)=dS zs f:=Vr λy m=>by rw[show up f z v y=f y from Fc λe=>n<|e▸m]
def Sv{f:bf->V}{z:bf}{zs:List bf}(n:z ∉ zs)(v:V):BU (dS zs f) (.inr z) v=dS (zs++[z]) (up f z v):=by rw[Kl _<|JF n];change _=Va _ (zs++[z]);rw[Ui,show Va _ zs=dS zs f from Agq n];change _=dS zs f++[(UL z,up f z v z)];rw[FC]
def JG{zs:List bf}{f:bf->V}(h:zs.length<=1000):(dS zs f).length<sizeLine:=by change(zs.map _).length<_;rw[TN,TZ];omega
def At.chg{H:Hp}{C C':Ax}{a:ar}{o':HO}(t:At H C)(fs:C'.map (·.1)=C.map (·.1))(m:(a,o')∈C')(h:∀c∈C',c.1≠a->c∈C):At (upd H a o') C':=by
 have D:(C'.map (·.1)).Nodup:=by rw[fs];exact t.nd
 refine⟨λc mc=>?_,D⟩;by_cases e:c.1=a
 .obtain ⟨i,B⟩:=Yk.mp mc;obtain⟨j,I⟩:=Yk.mp m;by_cases J:i=j
  .rw[J,I]at B;rw[<-Us B];exact Aq
  .exact absurd e (FW D (i:=i) (j:=j) (by rw[T6,B];rfl) (by rw[T6,I];rfl) J)
 .rw[Aw e];exact t.at_ c<|h c mc e
section
variable {H H':Hp}{W:VW}{R R':Ax}{d:Fd}{e:Fl}{u z:bf}{l:ar}{o o':HO}
def VW.app:W.C R=W.C []++R:=by unfold VW.C;simp only[Vi,Uk]
def VW.pe(m:u∈W.kz e):(W.la e u,.lst<|W.lv e u)∈W.C R:=by have:(W.la e u,HO.lst<|W.lv e u)∈W.lc e:=Uc.mpr ⟨u,m,rfl⟩;cases e<;>simp[VW.C,this]
def VW.of (m:c∈W.C R):c∈W.top\/(∃e u,u∈W.kz e/\c=(W.la e u,.lst<|W.lv e u))\/c∈R:=by
 have f:∀e,c∈W.lc e->∃e u,u∈W.kz e/\c=(W.la e u,.lst<|W.lv e u):=λe m=>by
  obtain⟨u,k,rfl⟩:=As<|Uc.mp m;exact⟨e,u,k,rfl⟩
 simp only[VW.C,UD]at m;rcases m with m|m|m|m|m|m
 .exact .inl m
 .exact .inr (.inl<|f _ m)
 .exact .inr (.inl<|f _ m)
 .exact .inr (.inl<|f _ m)
 .exact .inr (.inl<|f _ m)
 .exact .inr (.inr m)
def VW.inT (m:c∈W.top):c∈W.C R:=XO _ m
def VW.inR (m:c∈R):c∈W.C R:=by rw[VW.app];exact U5 _ m
def At.vw(t:At H (W.C R)):H W.w=some (.dK W.kv):=t.hd
def At.vln(t:At H (W.C R)):H W.ln=some (.lst<|W.lns.map V.str):=t.tl.hd
def At.vq(t:At H (W.C R)):H W.q=some (.lst<|W.qs.map V.str):=t.tl.tl.hd
def At.ud(t:At H (W.C R)):H W.dn=some (.lst W.ds):=t.tl.tl.tl.hd
def At.vf(t:At H (W.C R))(d:Fd):H (W.fa d)=some (.dK<|dS (W.kf d) (W.ff d)):=t.get<|by cases d<;>simp[VW.C,VW.top,VW.fc]
def At.vk(t:At H (W.C R))(e:Fl):H (W.ka e)=some (.dK<|dS (W.kz e) λu=>.ref<|W.la e u):=t.get<|by cases e<;>simp[VW.C,VW.top,VW.kc]
def At.vl(t:At H (W.C R))(m:u∈W.kz e):H (W.la e u)=some (.lst<|W.lv e u):=t.get<|VW.pe m
def At.vr(t:At H (W.C R)):At H R:=by rw[VW.app]at t;exact t.right
def At.pf(t:At H (W.C R))(n:H l=none):At (upd H l o) (W.C ((l,o)::R)):=by have:=t.new (u:=o) n;rw[VW.app]at this ⊢;exact this.back
def At.abF(t:At H (W.C R))(s:R'.Sublist R):At H (W.C R'):=by rw[VW.app]at t ⊢;exact t.sub<|(Xq _).append s
def At.abG(t:At H (W.C R))(k:Int):At (upd H W.w<|.dK { W with mark:=k }.kv) (VW.C { W with mark:=k } R):=At.set (P:=[]) t
def At.sQ(t:At H (W.C R))(q:List bf):At (upd H W.q<|.lst (q.map V.str)) (VW.C { W with qs:=q } R):=At.set (P:=[_,_]) t
def At.sDn(t:At H (W.C R))(q:List V):At (upd H W.dn<|.lst q) (VW.C { W with ds:=q } R):=At.set (P:=[_,_,_]) t
def At.sF(t:At H (W.C R))(d:Fd)(ks:List bf)(f:bf->V):At (upd H (W.fa d)<|.dK (dS ks f)) (VW.C { W with kf:=up W.kf d ks,ff:=up W.ff d f } R):=by
 cases d
 .exact At.set (P:=[_,_,_,_]) t
 .exact At.set (P:=[_,_,_,_,_]) t
 .exact At.set (P:=[_,_,_,_,_,_]) t
 .exact At.set (P:=[_,_,_,_,_,_,_]) t
 .exact At.set (P:=[_,_,_,_,_,_,_,_]) t
def At.sL(t:At H (W.C R))(m:u∈W.kz e)(vs:List V):At (upd H (W.la e u)<|.lst vs) (VW.C { W with lv:=A0 W.lv e u vs } R):=by
 refine t.chg ?_ ?_ λc mc n=>?_
 .simp only[VW.C,VW.lc,Ui,Uq];rfl
 .have z:=VW.pe (W:={ W with lv:=A0 W.lv e u vs }) (R:=R) (e:=e) (u:=u) m;rwa[show(VW.lv { W with lv:=A0 W.lv e u vs } e u)=vs from C6]at z
 .rcases VW.of mc with m|⟨B,D,m,rfl⟩|m
  .exact VW.inT m
  .rw[show VW.lv { W with lv:=A0 W.lv e u vs } B D=W.lv B D from Df λ⟨a,b⟩=>n<|by rw[a,b]];exact VW.pe m
  .exact VW.inR m
end
noncomputable def Cp(S:PS)(w:bf)(hs:List V):List V:=if w=TU "" then hs.map (D6 S)else hs
def Ln.vv(ln:Ln):Fd->V
 |.way=>.str ln.st|.ae=>.str ln.ae|.ag=>.int ln.ag|.ao=>DI ln.ao|.why=>.aa
def Ln.put(ln:Ln):Fd->V->Ln
 |.way,.str s=>{ ln with st:=s }|.ae,.str s=>{ ln with ae:=s }|.ag,.int n=>{ ln with ag:=n }|.ao,.str z=>{ ln with ao:=some z }|.ao,.aa=>{ ln with ao:=none }|_,_=>ln
abbrev PS.aQ(S:PS)(i:Nat)(y:Ln):PS:={ S with lns:=S.lns.set i y }
structure JH(K:TH)(H:Hp)(ff:Fd->bf->V)(lt:bf->List V)(ln:Ln):Prop where
 f:∀d,d≠.why->ff d ln.num=ln.vv d
 why:Is K H (ff .why ln.num) ln.why
 wt:Cm ln.why=true
 tr:∃as,lt ln.num=as.map V.ref/\CA H as ln.held
structure Dg(K:TH)(H:Hp)(W:VW)(S:PS):Prop where
 lo:W.long=S.long
 ma:W.mark=S.sk.mark
 q:W.qs=S.q
 ds:W.ds=S.dn
 sp:W.dq=S.sk.st
 st:W.du=S.sk.wt
 kx:W.kx=[(.inr "spots",.ref W.sp),(.inr "steps",.ref W.st)]
 ln:W.lns=S.lns.map (·.num)
 nn:(S.lns.map (·.num)).Nodup
 zs:∀z,z∈W.kz .ax↔z∈S.lns.map (·.num)
 zn:(W.kz .ax).Nodup
 zl:(W.kz .ax).length<=1000
 kf:∀d,W.kf d=W.kz .ax
 us:∀e,e≠.ax->W.kz e=W.kz .aC
 un:(W.kz .aC).Nodup
 ul:(W.kz .aC).length<64
 rz:∀u,u∈W.kz .aC↔(AQ S u).isSome=true
 l:∀(i:Nat)(ln:Ln),S.lns[i]?=some ln->JH K H W.ff (W.lv .ax) ln
 r:∀u r,AQ S u=some r->W.lv .aC u=Cp S u r.1/\W.lv .aR u=r.2.1.map V.bl/\W.lv .shr u=r.2.2.map V.int
structure WD(K:TH)(b:ar)(H:Hp)(W:VW)(S:PS)(R:Ax):Prop where
 t:At H (W.C ((W.sp,.lst (W.dq.map V.int))::(W.st,.lst (W.du.map V.int))::R))
 ok:Dg K H W S
 b:W.w=b
section
variable {K:TH}{b:ar}{H H':Hp}{W W':VW}{S S':PS}{R R':Ax}{i j:Nat}{ln y:Ln}{l:ar}{o o':HO}{u z:bf}{d:Fd}{e:Fl}{v:V}{r r':List V×List Bool×List Int}
def JH.ak (l:JH K H ff lt ln)(s:Ah H H'):JH K H' ff lt ln:={ l with why:=Is.ak _ l.wt l.why s,tr:=let ⟨B,a,b⟩:=l.tr;⟨B,a,b.ak s⟩ }
def Dg.ak(k:Dg K H W S)(s:Ah H H'):Dg K H' W S:={ k with l:=λi ln h=>(k.l i ln h).ak s }
def WD.same(t:WD K b H W S R)(s:Aj H H'):WD K b H' W S R:=⟨t.t.same s,t.ok.ak<|.of s,t.b⟩
def WD.sub(t:WD K b H W S R)(s:R'.Sublist R):WD K b H W S R':=⟨t.t.abF<|.cons₂ _ (.cons₂ _ s),t.ok,t.b⟩
def WD.vr(t:WD K b H W S R):At H R:=t.t.vr.tl.tl
def At.abH(t:At H (W.C R))(n:H l=none){P:Ax}(e:R=P++R'):At (upd H l o) (W.C (P++(l,o)::R')):=by have:=t.new (u:=o) n;rw[e,VW.app,<-Uk]at this;rw[VW.app,<-Uk];exact this.back
def WD.new(t:WD K b H W S R)(n:BI H H' l o):WD K b H' W S ((l,o)::R):=by rw[n.e];exact⟨t.t.abH n.n (P:=[_,_]) rfl,t.ok.ak<|.new n.n,t.b⟩
def At.ph{P:Ax}(t:At H (W.C (P++(l,o)::R))):At (upd H l o') (W.C (P++(l,o')::R)):=by rw[VW.app,<-Uk]at t ⊢;exact t.set
def WD.set(t:WD K b H W S ((l,o)::R))(k:Jm o=false):WD K b (upd H l o') W S ((l,o')::R)/\Ah H (upd H l o'):=by have B:Ah H (upd H l o'):=.chg t.vr.hd k;exact⟨⟨t.t.ph (P:=[_,_]),t.ok.ak B,t.b⟩,B⟩
def Nw(k:Int):D6 S (.int k)=((S.lns.map (·.num))[k.toNat]?).elim .aa V.str:=by rw[T6];change(match S.lns[k.toNat]? with|none=>V.aa|some ln=>.str ln.num)=_;cases S.lns[k.toNat]?<;>rfl
def Agr(e:S'.lns.map (·.num)=S.lns.map (·.num))(v:V):D6 S' v=D6 S v:=by
 cases v with
 |int k=>rw[Nw,Nw,e]
 |_=>rfl
def Sw(e:S'.lns.map (·.num)=S.lns.map (·.num))(w:bf)(hs:List V):Cp S' w hs=Cp S w hs:=by
 unfold Cp;split
 .exact Vr λv _=>Agr e v
 .rfl
def Dg.fI(k:Dg K H W S)(h:S.lns[i]?=some ln):ln.num∈W.kz .ax:=(k.zs _).mpr<|Du h
def Dg.inf(k:Dg K H W S)(h:S.lns[i]?=some ln)(d:Fd):ln.num∈W.kf d:=by rw[k.kf];exact k.fI h
def Dg.jM(k:Dg K H W S)(B:AQ S u=some r)(n:e≠.ax):u∈W.kz e:=by rw[k.us e n,k.rz,B];rfl
def Dg.bF (k:Dg K H W S)(s:Ah H H')(h:S.lns[i]?=some ln)(L:y.num=ln.num)(of:∀d z,z≠ln.num->ff d z=W.ff d z)(B:∀e z,z≠ln.num\/e≠.ax->lv e z=W.lv e z)(hy:JH K H' ff (lv .ax) y):
  Dg K H' { W with ff:=ff,lv:=lv,la:=la } (S.aQ i y):=by
 have D:(S.lns.set i y).map (·.num)=S.lns.map (·.num):=C5 h L;refine { k with ln:=k.ln.trans D.symm,nn:=by change((S.lns.set i y).map _).Nodup;rw[D];exact k.nn,zs:=λz=>by change _↔z∈(S.lns.set i y).map (·.num);rw[D];exact k.zs z,l:=λj J I=>?_,r:=λu r O=>?_ }
 .rcases (RE (UM.mp h).1).mp I with ⟨_,rfl⟩|⟨ne,I⟩
  .exact hy
  .have l:=(k.l j J I).ak s;have n:=FY k.nn I h (UC ne);exact⟨λd Y=>(of d _ n).trans (l.f d Y),by change Is K H' (ff .why J.num) _;rw[of _ _ n];exact l.why,l.wt,by change ∃as,lv .ax J.num=_/\_;rw[B _ _ (.inl n)];exact l.tr⟩
 .rw[Sw (S:=S) (S':=S.aQ i y) D];change lv _ u=_/\lv _ u=_/\lv _ u=_;rw[B .aC u (.inr λe=>nomatch e),B .aR u (.inr λe=>nomatch e),B .shr u (.inr λe=>nomatch e)];exact k.r u r O
def Dg.ia (k:Dg K H W S)(O:AQ S u=some r)(I:AQ S' u=some r')(J:S'.lns=S.lns)(hq:S'.q=S.q)(hd:S'.dn=S.dn)(Y:S'.long=S.long)(hm:W.mark=S'.sk.mark)(hs:W.dq=S'.sk.st)(ht:W.du=S'.sk.wt)(L:∀w,w≠u->AQ S' w=AQ S w)(B:∀e z,z≠u\/e=.ax->lv e z=W.lv e z)(he:lv .aC u=Cp S u r'.1/\lv .aR u=r'.2.1.map V.bl/\lv .shr u=r'.2.2.map V.int):
  Dg K H { W with lv:=lv } S':=by
 have D:S'.lns.map (·.num)=S.lns.map (·.num):=by rw[J]
 refine { k with lo:=k.lo.trans Y.symm,ma:=hm,q:=k.q.trans hq.symm,ds:=k.ds.trans hd.symm,sp:=hs,st:=ht,ln:=k.ln.trans D.symm,nn:=by rw[D];exact k.nn,zs:=λz=>by rw[D];exact k.zs z,rz:=λw=>?_,l:=λi ln h=>?_,r:=λw s es=>?_ }
 .refine (k.rz w).trans ?_;by_cases c:w=u
  .rw[c,O,I];exact⟨λ_=>rfl,λ_=>rfl⟩
  .rw[L w c]
 .have l:=k.l i ln (by rwa[<-J]);exact { l with tr:=by change ∃as,lv .ax ln.num=_/\_;rw[B _ _<|.inr rfl];exact l.tr }
 .rw[Sw D];by_cases c:w=u
  .subst c;rw[I]at es;cases es;exact he
  .rw[L w c]at es;change lv _ w=_/\lv _ w=_/\lv _ w=_;rw[B _ _<|.inl c,B _ _<|.inl c,B _ _<|.inl c];exact k.r w s es
def Hk(h:S.lns[i]?=some ln):(S.aQ i y).lns[i]?=some y:=B3 h
def Ags(h:S.lns[i]?=some ln):S.aQ i ln=S:=by obtain⟨B,e⟩:=UM.mp h;change({ S with lns:=S.lns.set i ln }:PS)=S;rw[<-e,List.set_getElem_self]
def WD.at(t:WD K b H W S R)(h:S.lns[i]?=some ln):WD K b H W (S.aQ i ln) R:=by rwa[Ags h]
def Ln.lb:(ln.put d v).num=ln.num:=by cases d<;>cases v<;>rfl
def Ln.abI:(ln.put d v).held=ln.held:=by cases d<;>cases v<;>rfl
def Ln.ue:(ln.put d v).why=ln.why:=by cases d<;>cases v<;>rfl
def Ln.abJ (n:d'≠d):(ln.put d v).vv d'=ln.vv d':=by cases d<;>cases v<;>cases d'<;>first|rfl|exact absurd rfl n
end
section
variable {P:TR}{w:TL}{K:TH}{b:ar}{H:Hp}{W:VW}{S:PS}{R:Ax}{i:Nat}{ln l0:Ln}{u z:bf}{d:Fd}{e:Fl}{v:V}{r:List V×List Bool×List Int}{C:V->Prop}{D:Hp->Prop}
def WD.fld(t:WD K b H W S R)(c:C v)(e:Ba W.kv (.inr z)=some v:=by rfl):∃a kvs k v,V.ref b=.ref a/\V.str z=kV k/\Dd P w K H a kvs/\Ba kvs k=some v/\C v:=⟨_,_,_,_,rfl,rfl,.of<|by rw[<-t.b];exact t.t.vw,e,c⟩
def WD.lh(t:WD K b H W S R)(c:C (.int S.long)):∃a kvs k v,V.ref b=.ref a/\V.str "long"=kV k/\Dd P w K H a kvs/\Ba kvs k=some v/\C v:=t.fld (v:=.int W.long)<|by rwa[t.ok.lo]
def WD.abK(t:WD K b H W S R)(c:C (.int S.sk.mark)):∃a kvs k v,V.ref b=.ref a/\V.str "mark"=kV k/\Dd P w K H a kvs/\Ba kvs k=some v/\C v:=t.fld (v:=.int W.mark)<|by rwa[t.ok.ma]
def WD.uf(t:WD K b H W S R):(Ba (dS (W.kz .aC) λu=>.ref<|W.la .aC u)<|.inr u).isSome=(AQ S u).isSome:=by
 by_cases m:u∈W.kz .aC
 .rw[FD m,(t.ok.rz u).mp m];rfl
 .rw[JF m];cases h:(AQ S u).isSome
  .rfl
  .exact absurd ((t.ok.rz u).mpr h) m
def WD.pj(t:WD K b H W S R):(Ba (dS (W.kf .way)<|W.ff .way)<|.inr z).isSome=decide (z∈S.lns.map (·.num)):=by
 rw [t.ok.kf];by_cases m:z∈W.kz .ax
 .rw[FD m,c8<|(t.ok.zs z).mp m];rfl
 .rw[JF m,dJ λc=>m<|(t.ok.zs z).mpr c];rfl
def WD.rF(t:WD K b H W S R)(h:S.lns[i]?=some ln)(c:C (ln.vv d))(n:d≠.why)(ez:ln.num=z):∃a kvs k v,V.ref (W.fa d)=.ref a/\V.str z=kV k/\Dd P w K H a kvs/\Ba kvs k=some v/\C v:=by subst ez;exact⟨_,_,.inr ln.num,_,rfl,rfl,.of<|t.t.vf d,by rw[FD<|t.ok.inf h d,(t.ok.l i ln h).f d n],c⟩
def WD.jN(t:WD K b H W S R)(h:S.lns[i]?=some ln)(c:C (.str ln.st))(ez:ln.num=z:=by rfl):∃a kvs k v,V.ref (W.fa .way)=.ref a/\V.str z=kV k/\Dd P w K H a kvs/\Ba kvs k=some v/\C v:=t.rF h c (λe=>nomatch e) ez
def WD.pq(t:WD K b H W S R)(h:S.lns[i]?=some ln)(c:C (.str ln.ae))(ez:ln.num=z:=by rfl):∃a kvs k v,V.ref (W.fa .ae)=.ref a/\V.str z=kV k/\Dd P w K H a kvs/\Ba kvs k=some v/\C v:=t.rF h c (λe=>nomatch e) ez
def WD.pv(t:WD K b H W S R)(h:S.lns[i]?=some ln)(c:C (.int ln.ag))(ez:ln.num=z:=by rfl):∃a kvs k v,V.ref (W.fa .ag)=.ref a/\V.str z=kV k/\Dd P w K H a kvs/\Ba kvs k=some v/\C v:=t.rF h c (λe=>nomatch e) ez
def WD.pw(t:WD K b H W S R)(h:S.lns[i]?=some ln)(c:C (DI ln.ao))(ez:ln.num=z:=by rfl):∃a kvs k v,V.ref (W.fa .ao)=.ref a/\V.str z=kV k/\Dd P w K H a kvs/\Ba kvs k=some v/\C v:=t.rF h c (λe=>nomatch e) ez
def WD.abL(t:WD K b H W S R)(h:S.lns[i]?=some ln)(c:∀v,Is K H v ln.why->C v)(ez:ln.num=z:=by rfl):∃a kvs k v,V.ref (W.fa .why)=.ref a/\V.str z=kV k/\Dd P w K H a kvs/\Ba kvs k=some v/\C v:=by subst ez;exact⟨_,_,.inr ln.num,_,rfl,rfl,.of<|t.t.vf .why,FD<|t.ok.inf h .why,c _ (t.ok.l i ln h).why⟩
def WD.abM(t:WD K b H W S R)(h:S.lns[i]?=some ln)(c:C (.ref<|W.la .ax z))(ez:ln.num=z:=by rfl):∃a kvs k v,V.ref (W.ka .ax)=.ref a/\V.str z=kV k/\Dd P w K H a kvs/\Ba kvs k=some v/\C v:=by subst ez;exact⟨_,_,.inr ln.num,_,rfl,rfl,.of<|t.t.vk .ax,FD<|t.ok.fI h,c⟩
def WD.rRk(t:WD K b H W S R)(B:AQ S u=some r)(c:C (.ref<|W.la e u))(n:e≠.ax:=by decide):∃a kvs k v,V.ref (W.ka e)=.ref a/\V.str u=kV k/\Dd P w K H a kvs/\Ba kvs k=some v/\C v:=⟨_,_,.inr u,_,rfl,rfl,.of<|t.t.vk e,FD<|t.ok.jM B n,c⟩
def WD.aC(t:WD K b H W S R)(B:AQ S u=some r):H (W.la .aC u)=some (.lst<|Cp S u r.1):=by rw[<-(t.ok.r u r B).1];exact t.t.vl<|t.ok.jM B λe=>nomatch e
def WD.aR(t:WD K b H W S R)(B:AQ S u=some r):H (W.la .aR u)=some (.lst<|r.2.1.map V.bl):=by rw[<-(t.ok.r u r B).2.1];exact t.t.vl<|t.ok.jM B λe=>nomatch e
def WD.shr(t:WD K b H W S R)(B:AQ S u=some r):H (W.la .shr u)=some (.lst<|r.2.2.map V.int):=by rw[<-(t.ok.r u r B).2.2];exact t.t.vl<|t.ok.jM B λe=>nomatch e
def WD.q(t:WD K b H W S R):H W.q=some (.lst<|S.q.map V.str):=by rw[<-t.ok.q];exact t.t.vq
def WD.dn(t:WD K b H W S R):H W.dn=some (.lst S.dn):=by rw[<-t.ok.ds];exact t.t.ud
def WD.lns(t:WD K b H W S R):H W.ln=some (.lst ((S.lns.map (·.num)).map V.str)):=by rw[<-t.ok.ln];exact t.t.vln
def WD.sp(t:WD K b H W S R):H W.sp=some (.lst<|S.sk.st.map V.int):=by rw[<-t.ok.sp];exact t.t.vr.hd
def WD.st(t:WD K b H W S R):H W.st=some (.lst<|S.sk.wt.map V.int):=by rw[<-t.ok.st];exact t.t.vr.tl.hd
def WD.ax(t:WD K b H W S R)(h:S.lns[i]?=some ln):∃as,H (W.la .ax ln.num)=some (.lst<|as.map V.ref)/\CA H as ln.held:=by obtain⟨as,e,p⟩:=As<|(t.ok.l i ln h).tr;exact⟨as,by rw[<-e];exact t.t.vl<|t.ok.fI h,p⟩
def WD.abN(t:WD K b H W S R):Ba W.kv (.inr "spots")=some (.ref W.sp):=by unfold VW.kv;rw[t.ok.kx];rfl
def WD.abO(t:WD K b H W S R):Ba W.kv (.inr "steps")=some (.ref W.st):=by unfold VW.kv;rw[t.ok.kx];rfl
def WD.sF(t:WD K b H W (S.aQ i ln) R)(h:S.lns[i]?=some l0)(c:∀I Y,WD K b I Y (S.aQ i<|ln.put d v) R->Ah H I->D I)(n:d≠.why:=by decide)(ok:(ln.put d v).vv d=v:=by rfl)(ez:ln.num=z:=by rfl):∃a L,V.ref (W.fa d)=.ref a/\Ef H a (.str z) v L/\D L:=by
 subst ez;have g:=Hk (y:=ln) h;have l:=t.ok.l i ln g;refine A9 (W.fa d) _ rfl (.k (k:=.inr ln.num) (t.t.vf d)<|JG (by rw[t.ok.kf];exact t.ok.zl)) ?_;rw[Nv<|t.ok.inf g d];have B:Ah H (upd H (W.fa d)<|.dK (dS (W.kf d)<|up (W.ff d) ln.num v)):=.chg (t.t.vf d) rfl;have O:=t.t.sF d (W.kf d)<|up (W.ff d) ln.num v;rw[Nu]at O;refine c _ { W with ff:=up W.ff d (up (W.ff d) ln.num v) } ⟨O,?_,t.b⟩ B;have k:=t.ok.bF (i:=i) (y:=ln.put d v) (ff:=up W.ff d<|up (W.ff d) ln.num v) (lv:=W.lv) (la:=W.la) B g Ln.lb (λJ y n=>Df (g:=W.ff) λe=>n e.2) (λ_ _ _=>rfl) ⟨λJ nd=>?_,?_,?_,?_⟩
 .rw[show(S.aQ i ln).aQ i (ln.put d v)=S.aQ i (ln.put d v) by change({ S with lns:=(S.lns.set i ln).set i (ln.put d v) }:PS)=_;rw[U9]]at k;exact k
 .rw[Ln.lb];by_cases e:J=d
  .subst e;exact(C6 (g:=W.ff)).trans ok.symm
  .rw[Ln.abJ e];exact(Df (g:=W.ff) λc=>e c.1).trans (l.f J nd)
 .show Is K _ (up W.ff d (up (W.ff d) ln.num v) .why (ln.put d v).num) (ln.put d v).why;rw[Ln.lb,Ln.ue,show up W.ff d (up (W.ff d) ln.num v) .why ln.num=W.ff .why ln.num from Df (g:=W.ff) λc=>n c.1.symm];exact Is.ak _ l.wt l.why B
 .rw[Ln.ue];exact l.wt
 .rw[Ln.lb,Ln.abI];exact(l.ak B).tr
end
def Nx{n:Nat}{k:Int}(B:0<=k)(D:k<n):CP n k=some k.toNat:=by unfold CP;rw[br B,br D]
theorem CA.snoc (B:H u=some (.tup [.str p.1,.int p.2])):∀{xs:List ar}{ps:List (bf×Int)},CA H xs ps->CA H (xs++[u]) (ps++[p])
 |[],[],_=>⟨B,trivial⟩
 |[],_::_,h=>h.elim
 |_::_,[],h=>h.elim
 |_::_,_::_,h=>⟨h.1,CA.snoc B h.2⟩
def K8{α:Type}{l B:List α}(h:∀ [DecidableEq α] (x:α),l.count x=B.count x):l.Perm B:=by
 haveI:DecidableEq α:=λa b=>Classical.propDecidable<|a=b
 exact List.perm_iff_count.mpr λx=>h x
def Agt{ks:List bf}{u:bf}{f f':bf->ar×HO}(m:u∈ks)(D:ks.Nodup)(h:∀y,y≠u->f' y=f y):(f u::ks.map f').Perm (f' u::ks.map f):=by obtain⟨A,B,rfl⟩:=List.append_of_mem m;obtain⟨_,I,J⟩:=AU<|VP.mp D;have L:A.map f'=A.map f:=Vr λy m=>h y λe=>J y m u UI e;have O:B.map f'=B.map f:=Vr λy m=>h y λe=>(Uu.mp I).1<|e▸m;rw[Ui,Ui,UR,UR,L,O];exact((yl _ YW).trans<|.swap ..).trans (.cons _ YW.symm)
section
variable {H:Hp}{W:VW}{P R:Ax}{e:Fl}{u:bf}{l:ar}{vs:List V}
def Sx:up (λu=>V.ref<|la e u) u (V.ref l)=λy=>V.ref (A0 la e u l e y):=by
 funext y
 by_cases c:y=u
 .rw[c,FC];change _=V.ref (A0 la e u l e u);rw[C6]
 .rw[Fc c];change _=V.ref (A0 la e u l e y);rw[Df λd=>c d.2]
def At.sN(t:At H (W.C (P++(l,.lst vs)::R)))(m:u∈W.kz e)(B:(W.kz e).Nodup):At (upd H (W.ka e)<|.dK (dS (W.kz e)<|up (λu=>.ref<|W.la e u) u (.ref l))) (VW.C { W with la:=A0 W.la e u l,lv:=A0 W.lv e u vs }<|P++R):=by
 have q:=Agt (f:=λu=>(W.la e u,HO.lst<|W.lv e u)) (f':=λy=>(A0 W.la e u l e y,.lst<|A0 W.lv e u vs e y)) m B λy n=>by rw[Df λc=>n c.2,Df λc=>n c.2]
 rw [C6,C6]at q;rw[Sx];have s:At H ((W.la e u,.lst<|W.lv e u)::(W.top++(VW.lc { W with la:=A0 W.la e u l,lv:=A0 W.lv e u vs } .ax++(VW.lc { W with la:=A0 W.la e u l,lv:=A0 W.lv e u vs } .aC++(VW.lc { W with la:=A0 W.la e u l,lv:=A0 W.lv e u vs } .aR++(VW.lc { W with la:=A0 W.la e u l,lv:=A0 W.lv e u vs } .shr++(P++R))))))):=by refine t.perm<|K8 λx=>?_;have q:=q.count_eq x;unfold VW.C VW.lc;cases e<;>simp only[vO,YY]at q ⊢<;>dsimp only[A0,up]at q ⊢<;>simp only[reduceCtorEq,if_true,if_false]at q ⊢<;>omega
 cases e
 .exact At.set (P:=[_,_,_,_,_,_,_,_,_]) s.tl
 .exact At.set (P:=[_,_,_,_,_,_,_,_,_,_]) s.tl
 .exact At.set (P:=[_,_,_,_,_,_,_,_,_,_,_]) s.tl
 .exact At.set (P:=[_,_,_,_,_,_,_,_,_,_,_,_]) s.tl
def At.nN(t:At H (W.C (P++(l,.lst vs)::R)))(n:u ∉ W.kz e):At (upd H (W.ka e)<|.dK (dS (W.kz e++[u])<|up (λu=>.ref<|W.la e u) u (.ref l))) (VW.C { W with kz:=up W.kz e<|W.kz e++[u],la:=A0 W.la e u l,lv:=A0 W.lv e u vs }<|P++R):=by
 have q:(W.kz e++[u]).map (λy=>(A0 W.la e u l e y,HO.lst<|A0 W.lv e u vs e y))=(W.kz e).map (λu=>(W.la e u,HO.lst<|W.lv e u))++[(l,.lst vs)]:=by
  rw [Ui];refine congr (congrArg _<|Vr λy m=>?_) ?_
  .have c:y≠u:=λc=>n<|c▸m;rw[Df λd=>c d.2,Df λd=>c d.2]
  .show [(A0 W.la e u l e u,HO.lst<|A0 W.lv e u vs e u)]=_;rw[C6,C6]
 rw [Sx];have s:At H (W.top++(VW.lc { W with kz:=up W.kz e<|W.kz e++[u],la:=A0 W.la e u l,lv:=A0 W.lv e u vs } .ax++(VW.lc { W with kz:=up W.kz e<|W.kz e++[u],la:=A0 W.la e u l,lv:=A0 W.lv e u vs } .aC++(VW.lc { W with kz:=up W.kz e<|W.kz e++[u],la:=A0 W.la e u l,lv:=A0 W.lv e u vs } .aR++(VW.lc { W with kz:=up W.kz e<|W.kz e++[u],la:=A0 W.la e u l,lv:=A0 W.lv e u vs } .shr++(P++R)))))):=by refine t.perm<|K8 λx=>?_;have q:=congrArg (List.count x) q;unfold VW.C VW.lc;cases e<;>simp only[vO,YY,List.count_nil]at q ⊢<;>dsimp only[A0,up]at q ⊢<;>simp only[reduceCtorEq,if_true,if_false]at q ⊢<;>omega
 cases e
 .exact At.set (P:=[_,_,_,_,_,_,_,_,_]) s
 .exact At.set (P:=[_,_,_,_,_,_,_,_,_,_]) s
 .exact At.set (P:=[_,_,_,_,_,_,_,_,_,_,_]) s
 .exact At.set (P:=[_,_,_,_,_,_,_,_,_,_,_,_]) s
end
section
variable {K:TH}{b:ar}{H H':Hp}{W W':VW}{S S':PS}{R R':Ax}{i j:Nat}{ln l0 y:Ln}{l:ar}{o o':HO}{u z:bf}{e:Fl}{v:V}{d:PyData}{r r':List V×List Bool×List Int}{D:Hp->Prop}{D2:V->Hp->Prop}{k:Int}
def WD.r0{vs:List V}{C:V->Prop}(t:WD K b H W S ((l,.lst (v::vs))::R))(c:C v):∃p xs i x,V.ref l=.ref p/\V.int 0=.int i/\A3 K H p xs/\Cb xs i=some x/\C x:=⟨_,_,0,_,rfl,rfl,.of t.vr.hd,Fm (j:=0) rfl,c⟩
def WD.add(t:WD K b H W S R)(n:H l=none)(s:Aj H H')(e:H' l=some o):WD K b H' W S ((l,o)::R):=by
 have a:At H' ((l,o)::W.C ([(W.sp,.lst<|W.dq.map V.int),(W.st,.lst<|W.du.map V.int)]++R)):=⟨λc m=>by
  rcases T9.mp m with rfl|m
  .exact e
  .exact (t.t.same s).at_ c m,Uu.mpr ⟨t.t.free n,t.t.nd⟩⟩
 rw [VW.app,<-Uk]at a;have a:=a.back;rw[Uk,<-VW.app]at a;exact⟨a,t.ok.ak<|.of s,t.b⟩
def WD.wQ(t:WD K b H W S R)(q:List bf):WD K b (upd H W.q<|.lst (q.map V.str)) { W with qs:=q } { S with q:=q } R/\Ah H (upd H W.q<|.lst (q.map V.str)):=by have B:Ah H (upd H W.q<|.lst (q.map V.str)):=.chg t.t.vq rfl;exact⟨⟨t.t.sQ q,{ t.ok.ak B with q:=rfl },t.b⟩,B⟩
def WD.ug(t:WD K b H W S R)(n:S.q.length<1000)(c:∀H' W',WD K b H' W' { S with q:=S.q++[z] } R->Ah H H'->D H'):∃l xs y,V.ref W.q=.ref l/\[V.str z]=[y]/\H l=some (.lst xs)/\xs.length<sizeLine/\D (upd H l<|.lst (xs++[y])):=by refine CS _ _ _ rfl rfl t.q (by rw[TN,TZ];omega) ?_;obtain⟨B,I⟩:=t.wQ<|S.q++[z];rw[Ui]at B I;exact c _ _ B I
def WD.abP{q:List bf}(t:WD K b H W S R)(eq:S.q=z::q)(c:∀H' W',WD K b H' W' { S with q:=q } R->Ah H H'->D2 (.str z) H'):∃l xs i k y,V.ref W.q=.ref l/\[V.int 0]=[.int i]/\H l=some (.lst xs)/\-(2 ^ 63)<=i/\i<2 ^ 63/\XA i xs.length=some k/\xs[k]?=some y/\D2 y (upd H l<|.lst (xs.eraseIdx k)):=by have h:=t.q;rw[eq]at h;obtain⟨B,I⟩:=t.wQ q;exact⟨_,_,0,0,.str z,rfl,rfl,h,by decide,by decide,by rw[UR,U2];unfold XA;simp,rfl,c _ _ B I⟩
def WD.wDn(t:WD K b H W S R)(v:V)(n:S.dn.length<sizeLine)(c:∀H' W',WD K b H' W' { S with dn:=S.dn++[v] } R->Ah H H'->D H'):∃l xs y,V.ref W.dn=.ref l/\[v]=[y]/\H l=some (.lst xs)/\xs.length<sizeLine/\D (upd H l<|.lst (xs++[y])):=by have B:Ah H (upd H W.dn<|.lst (S.dn++[v])):=.chg t.t.ud rfl;exact BC _ _ _ rfl ⟨rfl,t.dn,n,c _ { W with ds:=S.dn++[v] } ⟨t.t.sDn _,{ t.ok.ak B with ds:=rfl },t.b⟩ B⟩
def WD.abQ(t:WD K b H W S R)(c:∀H' W',WD K b H' W' { S with sk:={ S.sk with mark:=k } } R->Ah H H'->D H'):∃a B,V.ref b=.ref a/\Ef H a (.str "mark") (.int k) B/\D B:=by have hb:=t.t.vw;have I:Ah H (upd H W.w<|.dK { W with mark:=k }.kv):=.chg hb rfl;refine A9 b _ rfl (.k (k:=.inr "mark") (kvs:=W.kv) (by rwa[<-t.b])<|by unfold VW.kv;rw[t.ok.kx];change 16<sizeLine;decide) ?_;rw[show BU W.kv (.inr "mark") (.int k)={ W with mark:=k }.kv by unfold VW.kv;rw[t.ok.kx];rfl,<-t.b];refine c _ { W with mark:=k } ⟨t.t.abG k,?_,t.b⟩ I;exact { t.ok.ak I with ma:=rfl }
def WD.wSp(t:WD K b H W S R)(x:Int)(k0:0<=k)(k1:k<S.sk.st.length)(c:∀H' W',WD K b H' W' { S with sk:={ S.sk with st:=S.sk.st.set k.toNat x } } R->Ah H H'->D H'):∃p xs i j,V.ref W.sp=.ref p/\V.int k=.int i/\H p=some (.lst xs)/\CP xs.length i=some j/\D (upd H p<|.lst (xs.set j<|.int x)):=by apply Cc t.sp (Nx k0<|by rwa[TN]);rw[<-U4];have B:Ah H (upd H W.sp<|.lst ((S.sk.st.set k.toNat x).map V.int)):=.chg t.sp rfl;have I:At (upd H W.sp<|.lst ((S.sk.st.set k.toNat x).map V.int)) (VW.C { W with dq:=S.sk.st.set k.toNat x } ((W.sp,.lst<|(S.sk.st.set k.toNat x).map V.int)::(W.st,.lst<|W.du.map V.int)::R)):=At.ph (P:=[]) t.t;exact c _ { W with dq:=S.sk.st.set k.toNat x } ⟨I,{ t.ok.ak B with sp:=rfl },t.b⟩ B
def WD.wSt(t:WD K b H W S R)(x:Int)(k0:0<=k)(k1:k<S.sk.wt.length)(c:∀H' W',WD K b H' W' { S with sk:={ S.sk with wt:=S.sk.wt.set k.toNat x } } R->Ah H H'->D H'):∃p xs i j,V.ref W.st=.ref p/\V.int k=.int i/\H p=some (.lst xs)/\CP xs.length i=some j/\D (upd H p<|.lst (xs.set j<|.int x)):=by apply Cc t.st (Nx k0<|by rwa[TN]);rw[<-U4];have B:Ah H (upd H W.st<|.lst ((S.sk.wt.set k.toNat x).map V.int)):=.chg t.st rfl;have I:At (upd H W.st<|.lst ((S.sk.wt.set k.toNat x).map V.int)) (VW.C { W with du:=S.sk.wt.set k.toNat x } ((W.sp,.lst<|W.dq.map V.int)::(W.st,.lst<|(S.sk.wt.set k.toNat x).map V.int)::R)):=At.ph (P:=[_]) t.t;exact c _ { W with du:=S.sk.wt.set k.toNat x } ⟨I,{ t.ok.ak B with st:=rfl },t.b⟩ B
def WD.iD(t:WD K b H W S R)(J:AQ S u=some r)(ne:e≠.ax)(k0:0<=k)(k1:k<(W.lv e u).length)(O:AQ S' u=some r')(B:S'.lns=S.lns/\S'.q=S.q/\S'.dn=S.dn/\S'.long=S.long)(I:S.sk.mark=S'.sk.mark/\S.sk.st=S'.sk.st/\S.sk.wt=S'.sk.wt)(Y:∀w,w≠u->AQ S' w=AQ S w)(he:A0 W.lv e u ((W.lv e u).set k.toNat v) .aC u=Cp S u r'.1/\A0 W.lv e u ((W.lv e u).set k.toNat v) .aR u=r'.2.1.map V.bl/\A0 W.lv e u ((W.lv e u).set k.toNat v) .shr u=r'.2.2.map V.int)(c:∀H' W',WD K b H' W' S' R->Ah H H'->W'.la=W.la/\W'.lv .ax=W.lv .ax->D H') :
  ∃p xs i j,V.ref (W.la e u)=.ref p/\V.int k=.int i/\H p=some (.lst xs)/\CP xs.length i=some j/\D (upd H p<|.lst (xs.set j v)):=by
 have m:=t.ok.jM J ne;have hv:=t.t.vl m;have L:Ah H (upd H (W.la e u)<|.lst ((W.lv e u).set k.toNat v)):=.chg hv rfl;apply Cc hv (Nx k0 k1);refine c _ _ ⟨t.t.sL m<|(W.lv e u).set k.toNat v,(t.ok.ak L).ia J O B.1 B.2.1 B.2.2.1 B.2.2.2 (t.ok.ma.trans I.1) (t.ok.sp.trans I.2.1) (t.ok.st.trans I.2.2) Y (λe' z' n=>Df λ⟨a,b⟩=>?_) he,t.b⟩ L ⟨rfl,Fc<|UC ne⟩;rcases n with n|n
 .exact n b
 .exact ne (a▸n)
def WD.uh(t:WD K b H W (S.aQ i ln) R)(h:S.lns[i]?=some l0)(iv:Is K H v d)(J:Cm d=true)(c:∀H' W',WD K b H' W' (S.aQ i { ln with why:=d }) R->Ah H H'->D H')(ez:ln.num=z:=by rfl):∃a L,V.ref (W.fa .why)=.ref a/\Ef H a (.str z) v L/\D L:=by
 subst ez;have g:=Hk (y:=ln) h;have l:=t.ok.l i ln g;refine A9 (W.fa .why) _ rfl (.k (k:=.inr ln.num) (t.t.vf .why)<|JG (by rw[t.ok.kf];exact t.ok.zl)) ?_;rw[Nv<|t.ok.inf g .why];have B:Ah H (upd H (W.fa .why)<|.dK (dS (W.kf .why)<|up (W.ff .why) ln.num v)):=.chg (t.t.vf .why) rfl;have O:=t.t.sF .why (W.kf .why)<|up (W.ff .why) ln.num v;rw[Nu]at O;refine c _ { W with ff:=up W.ff .why (up (W.ff .why) ln.num v) } ⟨O,?_,t.b⟩ B;have k:=t.ok.bF (i:=i) (y:={ ln with why:=d }) (ff:=up W.ff .why<|up (W.ff .why) ln.num v) (lv:=W.lv) (la:=W.la) B g rfl (λI y n=>Df (g:=W.ff) λe=>n e.2) (λ_ _ _=>rfl) ⟨λI Y=>?_,?_,J,(l.ak B).tr⟩
 .rw[show(S.aQ i ln).aQ i { ln with why:=d }=S.aQ i { ln with why:=d } by change({ S with lns:=(S.lns.set i ln).set i _ }:PS)=_;rw[U9]]at k;exact k
 .exact (Df (g:=W.ff) λc=>Y c.1).trans ((l.f I Y).trans<|by cases I<;>rfl)
 .show Is K _ (up W.ff .why (up (W.ff .why) ln.num v) .why ln.num) d;rw[show up W.ff .why (up (W.ff .why) ln.num v) .why ln.num=v from C6 (g:=W.ff)];exact Is.ak _ J iv B
def WD.abR{as:List ar}{p:bf×Int}{a:ar}(t:WD K b H W (S.aQ i ln) R)(h:S.lns[i]?=some l0)(I:H (W.la .ax ln.num)=some (.lst<|as.map V.ref))(J:CA H as ln.held)(O:H a=some (.tup [.str p.1,.int p.2]))(n:ln.held.length<=10)(c:∀H' W',WD K b H' W' (S.aQ i { ln with held:=ln.held++[p] }) R->Ah H H'->D H')(ez:ln.num=z:=by rfl):∃l xs y,V.ref (W.la .ax z)=.ref l/\[V.ref a]=[y]/\H l=some (.lst xs)/\xs.length<sizeLine/\D (upd H l<|.lst (xs++[y])):=by subst ez;have g:=Hk (y:=ln) h;have l:=t.ok.l i ln g;refine CS _ _ _ rfl rfl I (by rw[TN,J.len,TZ];omega) ?_;rw[show as.map V.ref++[V.ref a]=(as++[a]).map V.ref by rw[Ui];rfl];have B:Ah H (upd H (W.la .ax ln.num)<|.lst ((as++[a]).map V.ref)):=.chg I rfl;refine c _ _ ⟨t.t.sL (t.ok.fI g)<|(as++[a]).map V.ref,?_,t.b⟩ B;have k:=t.ok.bF (i:=i) (y:={ ln with held:=ln.held++[p] }) (ff:=W.ff) (lv:=A0 W.lv .ax ln.num<|(as++[a]).map V.ref) (la:=W.la) B g rfl (λ_ _ _=>rfl) (λe' y n=>Df λ⟨a,b⟩=>n.elim (λn=>n b) λn=>n a) ⟨λL Y=>(l.f L Y).trans (by cases L<;>rfl),Is.ak _ l.wt l.why B,l.wt,as++[a],C6,(J.ak B).snoc<|B.t O⟩;rw[show(S.aQ i ln).aQ i { ln with held:=ln.held++[p] }=S.aQ i { ln with held:=ln.held++[p] } by change({ S with lns:=(S.lns.set i ln).set i _ }:PS)=_;rw[U9]]at k;exact k
def WD.pB (t:WD K b H W (S.aQ i ln) ((l,.lst<|as.map V.ref)::R))(h:S.lns[i]?=some l0)(L:CA H as hd)(c:∀H' W',WD K b H' W' (S.aQ i { ln with held:=hd }) R->Ah H H'->D H')(ez:ln.num=z:=by rfl):∃a I,V.ref (W.ka .ax)=.ref a/\Ef H a (.str z) (.ref l) I/\D I:=by subst ez;have g:=Hk (y:=ln) h;have lv:=t.ok.l i ln g;refine A9 (W.ka .ax) _ rfl (.k (k:=.inr ln.num) (t.t.vk .ax)<|JG t.ok.zl) ?_;rw[Nv<|t.ok.fI g];have B:Ah H (upd H (W.ka .ax)<|.dK (dS (W.kz .ax)<|up (λu=>.ref<|W.la .ax u) ln.num (.ref l))):=.chg (t.t.vk .ax) rfl;refine c _ _ ⟨t.t.sN (P:=[_,_]) (t.ok.fI g) t.ok.zn,?_,t.b⟩ B;have k:=t.ok.bF (i:=i) (y:={ ln with held:=hd }) (ff:=W.ff) (lv:=A0 W.lv .ax ln.num<|as.map V.ref) (la:=A0 W.la .ax ln.num l) B g rfl (λ_ _ _=>rfl) (λY y n=>Df λ⟨a,b⟩=>n.elim (λn=>n b) λn=>n a) ⟨λJ O=>(lv.f J O).trans (by cases J<;>rfl),Is.ak _ lv.wt lv.why B,lv.wt,as,C6,L.ak B⟩;rw[show(S.aQ i ln).aQ i { ln with held:=hd }=S.aQ i { ln with held:=hd } by change({ S with lns:=(S.lns.set i ln).set i _ }:PS)=_;rw[U9]]at k;exact k
end
def Agu(n m:Nat)(h:m<=n):(UX n).map (λ(f:Nat)=>((m:Int)+(f:Int))%(n:Int))=BS m n++BS 0 m:=by
 obtain⟨d,rfl⟩:∃d,n=m+d:=⟨n-m,by omega⟩;have D:BS (m:Int) ((m+d:Nat):Int)=(UX d).map λ(f:Nat)=>(m:Int)+(f:Int):=by
  unfold BS;have:(((m+d:Nat):Int)-(m:Int)).toNat=d:=by omega
  rw [this]
 have I:BS 0 (m:Int)=(UX m).map λ(f:Nat)=>(f:Int):=by
  unfold BS;have:((m:Int)-0).toNat=m:=by omega
  rw [this];exact Vr λk _=>by omega
 rw [D,I,Nat.add_comm m d,List.range_add,Ui,Uq];congr 1
 .refine Vr λf B=>?_;have:=Vz.mp B;rw[ym (by omega)<|by omega]
 .refine Vr λf B=>?_;have:=Vz.mp B;change((m:Int)+((d+f:Nat):Int))%((d+m:Nat):Int)=(f:Int);have e:(m:Int)+((d+f:Nat):Int)=(f:Int)+((d+m:Nat):Int):=by omega
  rw [e,Int.add_emod_right,ym (by omega)<|by omega]
def Sy{α:Type}(p:α->Bool)(l:List α)(i:Nat)(v:α)(h:l[i]?=some v):(l.take<|i+1).filter p=(l.take i).filter p++(if p v=true then[v] else[]):=by
 rw [VR,h,Z0];congr 1
 change List.filter p [v]=_;rw[Z1,Z2]
theorem K9:∀(ns:List Int),XH (ns.map VG)=true/\WR (ns.map VG)<=1
 |[]=>⟨rfl,by decide⟩
 |z::zs=>by
  obtain⟨B,D⟩:=K9 zs;refine⟨?_,?_⟩
  .show (Yl (.int z) && XH _)=true;rw[B];rfl
  .show max (VH (.int z)) (WR _)<=1;refine vP.mpr ⟨?_,D⟩;simp[VH]
theorem Hl:∀zs:List Int,aW K H (zs.map V.int) (zs.map VG)
 |[]=>.nil
 |z::zs=>.cons (.int z) (Hl zs)
def Sz(ds:List PyData):VH (.tuple ds)=WR ds+1:=by simp[VH]
def JI(ds:List PyData):VH (.list ds)=WR ds+1:=by simp[VH]
def SA (h:BY z):Yl (.str z)=true:=by change PyData.strOk z=true;unfold PyData.strOk;rw[<-yb,VN];intro c hc;have:=h c hc;simp only[decide_eq_true_eq];omega
theorem Ny:∀{zs:List bf},(∀z∈zs,BY z)->XH (zs.map V4)=true/\WR (zs.map V4)<=1
 |[],_=>⟨rfl,by decide⟩
 |z::zs,h=>by
  obtain⟨B,D⟩:=Ny λy hy=>h y (Uy _ hy);refine⟨?_,?_⟩
  .show (Yl _ && XH _)=true;rw[SA (h z UI),B];rfl
  .show max (VH (.str z)) (WR _)<=1;refine vP.mpr ⟨?_,D⟩;simp[VH]
theorem Ie:∀zs:List bf,aW K H (zs.map V.str) (zs.map V4)
 |[]=>.nil
 |z::zs=>.cons (.str z) (Ie zs)
def SD(x y:bf):DR (.str x) (.str y)=decide (x=y):=by
 by_cases h:x=y
 .subst h;simp[DR]
 .simp [DR,h]
structure Be(n:Nat)(d:PyData):Prop where
 c:Yl d=true
 k:VH d<=n
theorem JJ:∀{ds:List PyData},(∀d∈ds,Be n d)->XH ds=true/\WR ds<=n
 |[],_=>⟨rfl,Vc _⟩
 |d::ds,h=>by
  obtain⟨B,D⟩:=JJ λe m=>h e (Uy _ m);have:=h d UI;refine⟨?_,?_⟩
  .show (Yl _ && XH _)=true;rw[this.c,B];rfl
  .show max (VH d) (WR ds)<=n;exact vP.mpr ⟨this.k,D⟩
def Be.tup{n:Nat}{ds:List PyData}(h:∀d∈ds,Be n d):Be (n+1) (.tuple ds):=⟨(JJ h).1,by rw[Sz];exact YA (JJ h).2⟩
def Be.lst{n:Nat}{ds:List PyData}(h:∀d∈ds,Be n d):Be (n+1) (.list ds):=⟨(JJ h).1,by rw[JI];exact YA (JJ h).2⟩
def Be.str (h:BY z):Be n (.str z):=⟨SA h,by simp[VH]⟩
def Be.int (z:Int):Be n (.int z):=⟨rfl,by simp[VH]⟩
def Be.aa:Be n .none:=⟨rfl,by simp[VH]⟩
def Be.up (h:Be n d)(l:n<=m):Be m d:=⟨h.c,U1 h.k l⟩
def GH{p:PyData->Prop}{a b:PyData}(B:p a)(h2:p b):∀d∈[a,b],p d:=λd m=>by
 simp only[T9,UH,or_false]at m;rcases m with rfl|rfl
 .exact B
 .exact h2
def EH{p:PyData->Prop}{a b c:PyData}(B:p a)(h2:p b)(D:p c):∀d∈[a,b,c],p d:=λd m=>by
 simp only[T9,UH,or_false]at m;rcases m with rfl|rfl|rfl
 .exact B
 .exact h2
 .exact D
def SE{p:PyData->Prop}{a b c e:PyData}(B:p a)(h2:p b)(D:p c)(I:p e):∀d∈[a,b,c,e],p d:=λd m=>by
 simp only[T9,UH,or_false]at m;rcases m with rfl|rfl|rfl|rfl
 .exact B
 .exact h2
 .exact D
 .exact I
def Agv (h:BY x)(k:BY y):BY (x++y):=λc m=>by
 rw [Kv]at m;exact(UD.mp m).elim (h c) (k c)
def Agw(n:Int)(h:1<=n/\n<=10):BY (D5 n):=by
 have B:∀m:Nat,m<10->∀c∈(F0.getD m "").cps.toList,c<128:=by decide +kernel
 exact B (n-1).toNat<|by omega
def asc (h:BY z:=by unfold BY;decide +kernel):BY z:=h
def Hm:BY (TU ""):=λc m=>nomatch (show c∈([]:List Nat)from m)
structure DT(ln:Ln):Prop where
 ae:BY ln.ae
 held:∀p∈ln.held,BY p.1
 why:Be 3 ln.why
def WX(S:PS):Prop:=∀ln∈S.lns,DT ln
section
variable {S:PS}{i j:Nat}{ln lo:Ln}
def WX.set (h:WX S)(t:DT y):∀ln∈S.lns.set i y,DT ln:=λln m=>(F5 m).elim (λe=>e▸t)<|h ln
def DT.turn (t:DT ln):DT (AX ln st):=⟨Hm,t.held,.aa⟩
def DT.rest:DT (AX { ln with held:=[] } st):=⟨Hm,(λp m=>nomatch m),.aa⟩
def WX.get(h:WX S)(e:S.lns[i]?=some ln):DT ln:=h ln<|Ug e
def WX.jK (h:WX S)(q:Ej S)(e:Ei S=some x)(B:∀z∈S.q,BY z):WX x.2/\Be 1 x.1:=by
 obtain⟨z,r,k,ln,D,J,I,L,O,rfl⟩:=Im<|M4 q e;refine⟨WX.set h ⟨Hm,λp m=>?_,.aa⟩,.tup<|SE (.str asc) (.str<|B z (by rw[D];exact UI)) (.int _) (.int _)⟩;rcases UD.mp m with m|m
 .exact (h.get I).held p m
 .rw[Um.mp m];exact Hm
theorem WX.aP:∀(n:Nat){S:PS},WF S->WX S->WX (aP n S).2/\∀d∈(aP n S).1,Be 1 d
 |0,_,_,h=>⟨h,λd m=>nomatch m⟩
 |n+1,S,w,h=>by
  unfold Lw.aP;split
  .exact ⟨h,λd m=>nomatch m⟩
  .rename_i x e
   obtain⟨B,h2⟩:=h.jK w.cT e λz m=>(w.g.tx z (w.g.cz z m)).1.1;obtain⟨D,I⟩:=WX.aP n (w.jK e) B;exact⟨D,λd m=>(T9.mp m).elim (λc=>c▸h2) (I d)⟩
theorem WX.told (h:WX S)(B:BY y.ae)(hd:Be 3 d):WX (Cg { S with lns:=S.lns.set i y } i y d):=by change ∀ln∈(S.lns.set i y).set i { y with held:=[],st:="told",why:=d },DT ln;rw[U9];exact h.set ⟨B,(λp m=>nomatch m),hd⟩
def Agx (h:GG ns g)(B:∀z∈ns,BY z):∀d∈CZ g,Be n d:=λd m=>by
 obtain⟨v,D,rfl⟩:=As<|Uc.mp m;obtain⟨k,_,rfl⟩:=As<|Uc.mp D;by_cases e:g.hs.getD k .aa=.aa
 .rw[br e];split
  .exact .str asc
  .exact .str asc
 .rw[cZ e];rw[Ux]at e ⊢;cases hk:g.hs[k]? with
  |none=>rw[hk]at e;exact absurd rfl e
  |some u =>
   rw [hk]at e;obtain⟨z,I,rfl⟩:=As<|(h u<|Ug hk).resolve_left e;exact .str<|B z I
def WX.go(h:WX S)(w:WF S)(e:S.lns[i]?=some ln){d:LW}(f:d.fits ln=true):WX (d.go S i ln).2/\∀x∈(d.go S i ln).1,Be 4 x:=by
 have t:=h.get e;have num:BY ln.num:=(w.g.tx _<|Du e).1.1;have one:∀{a:PyData},Be 4 a->∀x∈[a],Be 4 x:=λO x m=>by rwa[Um.mp m]
 cases d with
 |lift =>
  change WX (CB S i ln).2/\∀x∈[(CB S i ln).1],Be 4 x;unfold CB;split
  .exact ⟨h.set t.turn,one<|.tup (GH (.str asc)<|.str num)⟩
  .split
   .exact ⟨h,one .aa⟩
   .split
    .exact ⟨h,one .aa⟩
    .rename_i z _ lc ec
     have D:=h.get ec;exact⟨λx m=>(F5 m).elim (λc=>c▸⟨t.ae,t.held,t.why⟩)<|h.set (y:={ lc with st:="talks" }) ⟨D.ae,D.held,D.why⟩ x,one<|.tup (EH (.str asc) (.str (w.g.tx _<|Du ec).1.1)<|.str num)⟩
 |cg =>
  change WX (Ek S i ln).2/\∀x∈(Ek S i ln).1,Be 4 x;unfold Ek;split
  .exact ⟨h.set ⟨t.ae,t.held,t.why⟩,λx m=>nomatch m⟩
  .exact ⟨h.told (y:={ ln with ag:=ln.ag+1 }) (d:=.tuple [.str "over",.str ln.ae]) t.ae<|.tup (GH (.str asc)<|.str t.ae),one<|.tup (EH (.str asc) (.str num)<|.str t.ae)⟩
 |gap =>
  obtain⟨Y,y2,⟨y3,y4⟩,_⟩:=AU<|(w.l i ln e).way (LW.ba f rfl);have p0:=LW.tY f;have B:BY (Al ln).ae:=Agv t.ae<|Agw _ (by omega);have none:WX (Cg { S with lns:=S.lns.set i (Al ln) } i (Al ln)<|.tuple [.str "none",.str (Al ln).ae])/\∀x∈[PyData.tuple [.str "none",.str (Al ln).num,.str (Al ln).ae]],Be 4 x:=⟨h.told B<|.tup (GH (.str asc)<|.str B),one<|.tup (EH (.str asc) (.str num)<|.str B)⟩;change WX (De S i ln).2/\∀x∈[(De S i ln).1],Be 4 x;unfold De;dsimp only;split
  .unfold CJ;split
   .exact none
   .rename_i g eg
    split
    .have pl:Be 1 (.tuple<|CZ g):=.tup<|Agx (w.g.hg g (EF eg).1) λz m=>(w.g.tx z m).1.1;exact⟨h.told B<|(Be.tup<|EH (.str asc) (.str B) pl).up (by decide),one<|(Be.tup<|EH (.str asc) (.str num) (Be.tup<|EH (.str asc) (.str B) pl)).up (by decide)⟩
    .refine ⟨?_,one<|.tup (SE (.str asc) (.str num) (.str B)<|.int _)⟩;change ∀x∈(S.lns.set i<|Al ln).set i _,DT x;rw[U9];refine h.set ⟨B,λp m=>?_,t.why⟩;rcases UD.mp m with m|m
     .exact t.held p m
     .rwa[Um.mp m]
  .split
   .exact ⟨h.set ⟨B,t.held,t.why⟩,one<|.tup (EH (.str asc) (.str num)<|.str B)⟩
   .unfold CI;split
    .exact none
    .rename_i lc ec
     have mc:=Ug ec;have D:=WX.set (i:=i) h (y:=Al ln) ⟨B,t.held,t.why⟩ lc mc;split
     .refine ⟨λx m=>(F5 m).elim (λc=>c▸⟨D.ae,D.held,D.why⟩) λm=>?_,one<|.tup (EH (.str asc) (.str num)<|.str B)⟩;exact(F5 m).elim (λc=>c▸⟨B,t.held,t.why⟩) (WX.set (i:=i) h (y:=Al ln) ⟨B,t.held,t.why⟩ x)
     .have st:BY lc.st:=by
       rcases F5 mc with c|c
       .rw[c];change BY ln.st;rw[LW.ba f rfl];exact(Bu.ok _).1
       .obtain ⟨k,hk⟩:=Yk.mp c;obtain⟨v,V,_⟩:=As<|(w.l k lc hk).wy;rw[V];exact(Bu.ok v).1
      have L:Be 1 (.tuple [.str "line",.str (Al ln).ae,.str lc.st]):=.tup<|EH (.str asc) (.str B) (.str st);exact⟨h.told B<|L.up (by decide),one<|(Be.tup<|EH (.str asc) (.str num) L).up (by decide)⟩
 |bB =>
  have J:WX (aB S ln):=by unfold WX;rwa[JD]
  have I:WX (CC (aB S ln) ln).2/\∀x∈(CC (aB S ln) ln).1,Be 4 x:=by
   unfold CC;split
   .exact ⟨J,λx m=>nomatch m⟩
   .split
    .exact ⟨J,λx m=>nomatch m⟩
    .rename_i z _ lo eo
     have no:BY lo.num:=(w.g.tx _<|Du (by rwa[<-JD (ln:=ln)])).1.1;unfold BF;split
     .refine ⟨?_,one<|.tup (GH (.str asc)<|.str no)⟩;change ∀x∈((aB S ln).lns.set _ _).set _ _,DT x;rw[U9];exact J.set DT.rest
     .exact ⟨J.set DT.rest,one<|.tup (GH (.str asc)<|.str no)⟩
  refine⟨I.1.set DT.rest,λx m=>?_⟩;rcases T9.mp m with rfl|m
  .exact .tup (GH (.str asc)<|.str num)
  .exact I.2 x m
def WX.res(h:WX S)(w:WF S){d:Bg}{r:List PyData×PS}(e:d.res S=.inr r):WX r.2/\∀x∈r.1,Be 4 x:=by
 cases d with
 |bh b z k =>
  unfold Bg.res at e;dsimp only at e;split at e
  .cases e
  .split at e
   .cases e;refine⟨?_,λx m=>nomatch m⟩;unfold WX;rwa[Ic.1]
   .cases e
 |line d z =>
  unfold Bg.res at e;dsimp only at e;split at e
  .cases e
  .split at e
   .rename_i ln hl f
    cases e;exact h.go w hl f
   .cases e
def WX.next(h:WX S)(w:WF S){d:Bg}{r:List PyData×PS}(e:d.res S=.inr r)(dd:ar):WX (Cv<|Dl r.2 dd).2/\Be 5 (.list<|r.1++(Cv<|Dl r.2 dd).1):=by obtain⟨B,h2⟩:=h.res w e;obtain⟨D,I⟩:=WX.aP (Dl r.2 dd).q.length (S:=Dl r.2 dd) ((w.res e).1.dn (d:=r.2.dn++[V.ref dd])) B;exact⟨D,.lst λx m=>(UD.mp m).elim (h2 x) λm=>(I x m).up<|by decide⟩
end
section
variable {S:PS}{i j:Nat}{ln lo:Ln}
end
local macro_rules | `(tactic| walk_at "h")=>`(tactic| first | assumption | exact Hk ‹_›)
local macro_rules | `(tactic| walk_at "p")=>`(tactic| first | assumption | exact Ah.refl | exact Ah.of ‹_› | (refine Ah.trans ?_ (by first | assumption | exact Ah.of ‹_›);walk_at "p"))
local macro_rules | `(tactic| walk_at "i")=>`(tactic| first | exact .str _ | exact .int _ | exact .aa | assumption | exact Is.ak _ (by first | rfl | assumption) ‹_› (by walk_at "p") | exact .tup (.of ‹_›) (by walk_at "is"))
local macro_rules | `(tactic| walk_at "is")=>`(tactic| first | exact .nil | exact .cons (by walk_at "i") (by walk_at "is"))
local macro_rules | `(tactic| walk_at "w1")=>`(tactic| first
 | refine WD.lh ‹_› ?_
 | refine WD.abK ‹_› ?_
 | refine WD.fld ‹_› ?_
 | refine WD.fld ‹_› ?_ (WD.abN ‹_›)
 | refine WD.fld ‹_› ?_ (WD.abO ‹_›)
 | refine WD.jN ‹_› (by walk_at "h") ?_
 | refine WD.pq ‹_› (by walk_at "h") ?_
 | refine WD.pv ‹_› (by walk_at "h") ?_
 | refine WD.pw ‹_› (by walk_at "h") ?_
 | refine WD.abM ‹_› (by walk_at "h") ?_
 | refine WD.rRk ‹_› (by first | assumption | exact br rfl) ?_
 | refine T2 (WD.r0 ‹_› ?_)
 | refine TY (T2 ⟨_,_,_,_,rfl,rfl,.of ‹_›,rfl,?_⟩)
 | refine WD.sF ‹_› ‹_› λ_ _ _ _=>?_)
local macro_rules | `(tactic| walk_at "n")=>`(tactic| (refine ⟨Ao,λ_ _ n=>?_⟩;have:=WD.new ‹_› n;have:=Ah.of n.same))
local macro_rules | `(tactic| walk_at "t")=>`(tactic| (refine ⟨Ao,λ_ _ n=>?_⟩;have:=WD.same ‹_› n.same;have:=Ah.of n.same;have:=n.get))
local macro_rules | `(tactic| walk_at "w")=>`(tactic| (walk_at"";repeat (walk_at "w1";walk_at"")))
def F6{S:PS}{w:bf}{hs:List V}:(Cp S w hs).length=hs.length:=by unfold Cp;split<;>simp
def Agy{S:PS}{w:bf}{hs:List V}{k:Nat}:(Cp S w hs).set k .aa=Cp S w (hs.set k .aa):=by
 unfold Cp;split
 .rw[U4];rfl
 .rfl
def At.fld{P:TR}{w:TL}{K:TH}{H:Hp}{W:VW}{R:Ax}{C:V->Prop}{z:bf}{v:V}(t:At H (W.C R))(c:C v)(e:Ba W.kv (.inr z)=some v:=by rfl):∃a kvs k v,V.ref W.w=.ref a/\V.str z=kV k/\Dd P w K H a kvs/\Ba kvs k=some v/\C v:=⟨_,_,_,_,rfl,rfl,.of t.vw,e,c⟩
def At.nF{H:Hp}{W:VW}{R:Ax}{D:Hp->Prop}{d:Fd}{z:bf}{v:V}(t:At H (W.C R))(n:z ∉ W.kf d)(len:(W.kf d).length<=1000)(c:∀B,At B (VW.C { W with kf:=up W.kf d<|W.kf d++[z],ff:=A0 W.ff d z v } R)->Ah H B->D B):∃a I,V.ref (W.fa d)=.ref a/\Ef H a (.str z) v I/\D I:=by refine A9 (W.fa d) _ rfl (.k (k:=.inr z) (t.vf d)<|JG len) ?_;rw[Sv n];exact c _ (t.sF d _ _)<|.chg (t.vf d) rfl
def At.nL{H:Hp}{W:VW}{P R:Ax}{D:Hp->Prop}{e:Fl}{z:bf}{l:ar}{vs:List V}(t:At H (W.C (P++(l,.lst vs)::R)))(n:z ∉ W.kz e)(len:(W.kz e).length<=1000)(c:∀B,At B (VW.C { W with kz:=up W.kz e<|W.kz e++[z],la:=A0 W.la e z l,lv:=A0 W.lv e z vs }<|P++R)->Ah H B->D B):∃a I,V.ref (W.ka e)=.ref a/\Ef H a (.str z) (.ref l) I/\D I:=by refine A9 (W.ka e) _ rfl (.k (k:=.inr z) (t.vk e)<|JG len) ?_;rw[Sv n];exact c _ (t.nN n)<|.chg (t.vk e) rfl
def Nz(K:TH):Sp:=λvs H Q _=>∃(b:ar)(W:VW)(S:PS)(R:Ax)(i:Nat)(ln:Ln)(st:bf),vs=[.ref b,.str ln.num,.str st]/\WD K b H W S R/\S.lns[i]?=some ln/\∀H' W',WD K b H' W' (S.aQ i { AX ln st with held:=[] }) R->Ah H H'->Q .aa H'
def VW.ui(W:VW)(z:bf)(l:ar):VW:={ W with kf:=λd=>W.kf d++[z],ff:=λd=>up (W.ff d) z ((Ci z).vv d),kz:=up W.kz .ax (W.kz .ax++[z]),la:=A0 W.la .ax z l,lv:=A0 W.lv .ax z [] }
def NA:Sp:=λvs H Q _=>∃(W:VW)(R:Ax)(z:bf),vs=[.ref W.w,.str z,.str "rests"]/\At H (W.C R)/\z ∉ W.kz .ax/\(∀d,W.kf d=W.kz .ax)/\(W.kz .ax).length<=1000/\∀H' l,At H' ((W.ui z l).C R)->Ah H H'->Q .aa H'
def D8:AM ["world","line","way"] ["world","line","way"] (Ae<|top 45):=.of
def Agz(F:AI K "_law_begin" "_law_begin" (top 45) f fd):AB P w K mg base Au 1 f fd ["world","line","way"] λvs H Q E=>NA vs H Q E\/Nz K vs H Q E:=by
 refine F.ok D8.fs (λaj A outer s H vs Q E hr h=>?_) λvs H Q E h=>by rcases h with ⟨_,_,_,rfl,_⟩|⟨_,_,_,_,_,_,_,rfl,_⟩<;>rfl
 .have hu:=hr.units;refine⟨_,(@Af _ _ _ _ _ (Ca (UE (UJ (by decide) _) hu) (Ap P w K (Aa 0 D8) Ag) (Aa 1 D8) (Aa 2 D8) rfl)
    (Af (Ca (UE (UJ (by decide) _) hu) (Ap P w K (Aa 0 D8) Ag) (Aa 1 D8) Ag rfl)
    (Af (Ca (UE (UJ (by decide) _) hu) (Ap P w K (Aa 0 D8) Ag) (Aa 1 D8) Am rfl)
    (Af (Ca (UE (UJ (by decide) _) hu) (Ap P w K (Aa 0 D8) Ag) (Aa 1 D8) (Bb Ac) rfl)
    (Af (Ca (UE (UJ (by decide) _) hu) (Ap P w K (Aa 0 D8) Ag) (Aa 1 D8) Cq rfl)
    (Ak<|Ca (UE (UJ (by decide) _) hu) (Ap P w K (Aa 0 D8) Ag) (Aa 1 D8) Cq rfl)))))),?_⟩
  try dsimp only[av,aw]
  rcases h with ⟨W,R,z,rfl,t,L,O,le,q⟩|⟨b,W,S,R,i,ln,st,rfl,t,h,q⟩
  .have B:∀d,z ∉ W.kf d:=λd=>by rwa[O]
   have D:∀d,(W.kf d).length<=1000:=λd=>by rwa[O]
   show t.fld ?_;show t.nF (B .way) (D .way) λH1 V p1=>?_;show V.fld ?_;show V.nF (B .ae) (D .ae) λH2 Y p2=>?_;show Y.fld ?_;show Y.nF (B .ag) (D .ag) λH3 t3 p3=>?_;show⟨Ao,λl H4 I=>?_⟩;have J:=t3.pf (o:=.lst []) I.n;rw[<-I.e]at J;show J.fld ?_;show J.nL (P:=[]) L le λH5 t5 p5=>?_;show t5.fld ?_;show t5.nF (B .ao) (D .ao) λH6 t6 p6=>?_;show t6.fld ?_;show t6.nF (B .why) (D .why) λH7 t7 p7=>?_;have p4:=Ah.of I.same;refine q H7 l ?_ (by walk_at "p");unfold VW.ui;rw[show(λd=>W.kf d++[z])=up (up (up (up (up W.kf .way<|W.kf .way++[z]) .ae<|W.kf .ae++[z]) .ag<|W.kf .ag++[z]) .ao<|W.kf .ao++[z]) .why (W.kf .why++[z]) by funext d;cases d<;>rfl,show(λd=>up (W.ff d) z<|(Ci z).vv d)=A0 (A0 (A0 (A0 (A0 W.ff .way z<|.str "rests") .ae z<|.str "") .ag z<|.int 0) .ao z .aa) .why z .aa by funext d;cases d<;>rfl];exact t7
  .have t:=t.at h;left;walk_at "n";left;refine WD.pB ‹_› h (as:=[]) (hd:=[]) trivial λ_ _ _ _=>?_;left;refine WD.uh ‹_› h (d:=.none) .aa rfl λ_ _ t _=>?_;exact q _ _ t<|by walk_at "p"
def WG.gr (g:WG S)(m:x∈S.az)(e:x.pre=z):BG S z=some x:=by obtain⟨i,h⟩:=Yk.mp m;rw[<-e];exact Jw g.pre h
def SF{S:PS}(g:WG S){w:bf}{k:Int}(h:E8 S w k):∃r,AQ S w=some r/\0<=k/\k<r.1.length:=by
 unfold E8 at h;unfold AQ;by_cases c:w=TU ""
 .rw[br c]at h ⊢;exact⟨_,rfl,FU.mp h.1⟩
 .rw[cZ c]at h ⊢;obtain⟨x,m,e,B,_⟩:=AG h;rw[g.gr m e];exact⟨_,rfl,FU.mp B⟩
def La{S:PS}(g:WG S){w:bf}{r:List V×List Bool×List Int}(B:AQ S w=some r){n:Nat}{v:V}(h:r.1[n]?=some v):∃D,(Cp S w r.1)[n]?=some D/\((v=.aa/\D=.aa)\/v≠.aa/\∃z,D=.str z/\0<z.length/\Ok z):=by
 unfold AQ at B;unfold Cp;by_cases c:w=TU ""
 .rw[br c]at B;cases B;rw[br c,T6,h];refine Cd _ rfl ?_;rcases g.hs v (Ug h)with rfl|⟨i,rfl,J⟩
  .exact .inl ⟨rfl,rfl⟩
  .have e:S.lns[i]?=some S.lns[i]:=Uh J;have:=g.tx _<|Du e;refine .inr ⟨(λe=>nomatch e),S.lns[i].num,?_,this.2,this.1⟩;change(match S.lns[((i:Nat):Int).toNat]? with|none=>V.aa|some ln=>.str ln.num)=_;rw[WC,e]
 .rw[cZ c]at B ⊢;obtain⟨x,ex,rfl⟩:=As<|UG.mp B;refine⟨v,h,?_⟩;rcases g.hg x (EF ex).1 v (Ug h)with rfl|⟨z,I,rfl⟩
  .exact .inl ⟨rfl,rfl⟩
  .exact .inr ⟨(λe=>nomatch e),z,rfl,(g.tx z I).2,(g.tx z I).1⟩
def Lb{S:PS}(g:WG S){w:bf}{r:List V×List Bool×List Int}(B:AQ S w=some r):r.2.1.length=r.1.length/\r.2.2.length=r.1.length/\r.1.length<=1000:=by
 unfold AQ at B;by_cases c:w=TU ""
 .rw[br c]at B;cases B;exact⟨g.so.lj,g.so.lt,g.so.z⟩
 .rw[cZ c]at B;obtain⟨x,ex,rfl⟩:=As<|UG.mp B;have:=g.go x (EF ex).1;exact⟨this.lj,this.lt,this.z⟩
def AgA(S:PS)(w:bf)(k:Int):(aE S w k).q=S.q/\(aE S w k).dn=S.dn/\(aE S w k).long=S.long/\(aE S w k).sk.mark=S.sk.mark/\(aE S w k).sk.st=S.sk.st/\(aE S w k).sk.wt=S.sk.wt:=by unfold aE;split<;>exact⟨rfl,rfl,rfl,rfl,rfl,rfl⟩
def AgB{S:PS}{w:bf}{k:Int}{r:List V×List Bool×List Int}(B:AQ S w=some r):AQ (aE S w k) w=some (r.1.set k.toNat .aa,r.2.1,r.2.2)/\∀u,u≠w->AQ (aE S w k) u=AQ S u:=by
 unfold AQ at B ⊢;unfold aE;by_cases c:w=TU ""
 .rw[br c]at B;cases B;refine⟨by rw[br c,br c],λu n=>?_⟩;rw[br c,cZ λd=>n<|d.trans c.symm,cZ λd=>n<|d.trans c.symm];rfl
 .rw[cZ c]at B;obtain⟨g,D,rfl⟩:=As<|UG.mp B;refine⟨?_,λu n=>?_⟩
  .rw[cZ c,cZ c,FA (h:=λg=>{ g with hs:=g.hs.set k.toNat .aa }) λ_=>rfl,D];simp only[Vj,if_true]
  .rw[cZ c,FA (h:=λg=>{ g with hs:=g.hs.set k.toNat .aa }) λ_=>rfl];by_cases d:u=TU ""
   .rw[br d,br d]
   .rw[cZ d,cZ d];cases BG S u with
    |none=>rfl
    |some g=>rw[Vj,cZ n]
section
variable {K:TH}{b:ar}{H:Hp}{W:VW}{S:PS}{R:Ax}{u:bf}{k:Int}{r:List V×List Bool×List Int}{D:Hp->Prop}
def WD.free(t:WD K b H W S R)(g:WG S)(hw:E8 S u k)(c:∀B I,WD K b B I (aE S u k) R->Ah H B->I.la=W.la/\I.lv .ax=W.lv .ax->D B):∃p xs i j,V.ref (W.la .aC u)=.ref p/\V.int k=.int i/\H p=some (.lst xs)/\CP xs.length i=some j/\D (upd H p<|.lst (xs.set j .aa)):=by obtain⟨r,J,O,Y⟩:=AG<|SF g hw;obtain⟨r1,r2⟩:=AgB (k:=k) J;obtain⟨f1,f2,f3,f4,f5,f6⟩:=AU<|AgA S u k;obtain⟨L,e2,e3⟩:=AU<|t.ok.r u r J;exact t.iD J (by decide) O (by rw[L,F6];exact Y) r1 ⟨Rz ..,f1,f2,f3⟩ ⟨f4.symm,f5.symm,f6.symm⟩ r2 ⟨by rw[C6,L];exact Agy,e2,e3⟩ c
end
def NB(K:TH):Sp:=λvs H Q _=>∃(b:ar)(W:VW)(S:PS)(R:Ax)(i:Nat)(ln:Ln),vs=[.ref b,.str ln.num]/\WD K b H W S R/\WG S/\S.lns[i]?=some ln/\bA S ln.held/\∀H' W',WD K b H' W' (Cy S i ln) R->Ah H H'->Q .aa H'
def NC(K:TH):Sp:=λvs H Q _=>∃(b:ar)(W:VW)(S:PS)(R:Ax)(u:bf)(k:Int)(r:List V×List Bool×List Int),vs=[.ref b,.str u,.int k]/\WD K b H W S R/\WG S/\AQ S u=some r/\0<=k/\k<r.1.length/\Q (.bl (BZ r.1 r.2.1 k)) H
def ND(K:TH):Sp:=λvs H Q _=>∃(b:ar)(W:VW)(S:PS)(R:Ax)(i:Nat)(ln:Ln)(v:V)(d:PyData),vs=[.ref b,.str ln.num,v]/\WD K b H W S R/\WG S/\S.lns[i]?=some ln/\bA S ln.held/\Is K H v d/\Cm d=true/\∀H' W',WD K b H' W' (Cg S i ln d) R->Ah H H'->Q .aa H'
def NF(K:TH):Sp:=λvs H Q _=>∃(b:ar)(W:VW)(S:PS)(R:Ax)(u:bf)(r:List V×List Bool×List Int),vs=[.ref b,.str u]/\WD K b H W S R/\WG S/\AQ S u=some r/\∀H' t,Aj H H'->H' t=some (.tup (HZ S u r))->Q (.ref t) H'
def Fe:AM ["world","line","where","k"] ["world","line"] (Ae<|top 46):=.of
def AgC(F:AI K "_law_freed" "_law_freed" (top 46) f fd):AB P w K mg base Au 1 f fd ["world","line"] (NB K):=by
 refine F.ok Fe.fs λaj A outer s H vs Q E hr h=>?_
 .obtain ⟨b,W,S,R,i,ln,rfl,t,g,h,ha,q⟩:=h;have hu:=hr.units;have nd:=Fe.fs.nd;obtain⟨as,ea,pr⟩:=As<|(t.ok.l i ln h).tr;have tl:=t.t.vl<|t.ok.fI h;rw[ea]at tl;refine⟨_,(@Af _ _ _ _ _ (CM U6 rfl (Dw<|Ap P w K (Ap P w K (Aa 0 Fe) Ag) (Aa 1 Fe)) (FK rfl<|B4 (BR 2 Fe) (B4 (BR 3 Fe) DU))<|Ak (Et Cq<|Fi (Ap P w K (Ap P w K (Aa 0 Fe) Ag)<|Aa 2 Fe) (Aa 3 Fe) DP))
    (Ak<|Ca (UE (UJ (by decide) _) hu) (Ap P w K (Aa 0 Fe) Ag) (Aa 1 Fe) (Bb Ac) rfl)),?_⟩
  try dsimp only[av,aw]
  left;refine⟨⟨_,.of tl⟩,EL (K:=K) (a:=W.la .ax ln.num) (xs:=as.map V.ref) (λn σ I=>∃u v D,σ=[some<|.ref b,some<|.str ln.num,u,v]/\WD K b I D (au S<|ln.held.take n) R/\Ah H I/\D.la=W.la/\D.lv .ax=W.lv .ax) ⟨none,none,W,rfl,t,.refl,rfl,rfl⟩ (λn σ I _ ⟨_,_,D,_,B,_,J,L⟩=>?_) ?_ ?_⟩
  .have z:=B.t.vl<|B.ok.fI (i:=i) (by rw[E9];exact h);rw[J,L,ea]at z;exact .of z
  .intro n v σ I hn O;replace O:=F9 O;obtain⟨u0,v0,D,rfl,B,Y,J,L⟩:=O;rw[T6]at hn;obtain⟨pt,hp,rfl⟩:=As<|UG.mp hn;obtain⟨p,hk,et⟩:=As<|(pr.ak Y).at hp;have hw:=MZ ha hk;have g2:=g.au<|ln.held.take n;obtain⟨r,er,_⟩:=As<|SF g2 hw;left;refine CQ pt _ rfl (.of et) rfl ?_;left;refine B.free g2 hw λH3 W3 t3 p3 e3=>?_;have ot:ln.held.take (n+1)=ln.held.take n++[p]:=by rw[VR,hk];rfl
   exact⟨_,_,W3,rfl,by rw[ot,MY];exact t3,Y.trans p3,e3.1.trans J,e3.2.trans L⟩
  .intro σ I O;replace O:=C7 O;obtain⟨u0,v0,D,rfl,B,Y,_⟩:=O;rw[TN,pr.len,Vn]at B;have h2:(au S ln.held).lns[i]?=some ln:=by rw[E9];exact h
   have B:=B.at h2;ext;walk_at "n";left;refine WD.pB ‹_› h2 (as:=[]) (hd:=[]) trivial λH3 W3 t _=>q H3 W3 ?_ (by walk_at "p");rw[show Cy S i ln=(au S ln.held).aQ i { ln with held:=[] } by unfold Cy;rw[<-E9 ln.held S]];exact t
def Hn:AM ["world","where","k"] ["world","where","k"] (Ae<|top 47):=.of
def AgD(F:AI K "_law_free_at" "_law_free_at" (top 47) f fd):AB P w K mg base Au 1 f fd ["world","where","k"] (NC K):=by
 refine F.ok Hn.fs λO A outer s H vs Q E Y h=>?_
 .obtain ⟨b,W,S,R,u,k,r,rfl,t,g,B,k0,k1,q⟩:=h;obtain⟨l1,_,_⟩:=AU<|Lb g B;obtain⟨v,hv⟩:∃v,r.1[k.toNat]?=some v:=⟨_,Uh<|by omega⟩;obtain⟨c,hc⟩:∃c,r.2.1[k.toNat]?=some c:=⟨_,Uh<|by omega⟩;have I:∀{l:List V}{x:V},l[k.toNat]?=some x->Cb l k=some x:=λh=>by have:=Fm h;rwa [show((k.toNat:Nat):Int)=k by omega]at this
  obtain⟨v',J,L⟩:=As<|La g B hv;rw[show BZ r.1 r.2.1 k=(decide (v=.aa) && !c) by unfold BZ;rw[Ux,Ux,hv,hc];rfl]at q;refine⟨_,(@Ak _ _ _<|AD (Lz (GN Gh (AY AZ (Ap P w K (Ap P w K (Aa 0 Hn) Ag)<|Aa 1 Hn) (Aa 2 Hn) λ_ _=>rfl) Cq<|AW _)<|Iu (LA<|AY AZ (Ap P w K (Ap P w K (Aa 0 Hn) Ag)<|Aa 1 Hn) (Aa 2 Hn) (λ_ _=>rfl)))),?_⟩;try dsimp only[av,aw]
  left;refine T2<|Cc (.of<|t.aC B) (I J) ?_;rcases L with ⟨D,rfl⟩|⟨D,z,rfl,_⟩
  .left;refine T2<|Bx _ _ k _ rfl rfl (.of<|t.aR B) (I<|by rw[T6,hc];rfl) ?_;rw[D]at q;exact⟨_,rfl,q⟩
  .rw[dJ D]at q;ext;rwa[cZ λc=>absurd (of_decide_eq_true c) λe=>nomatch e]
def GI:AM ["world","line","why"] ["world","line","why"] (Ae<|top 50):=.of
def AgE:Gm (Ae<|top 50) "_law_freed":=.of
def AgF(F:AI K "_law_ended" "_law_ended" (top 50) f fd)(J:Bt P w K mg base Au 1 "_law_freed" ["world","line"] (NB K)):AB P w K mg base Au 2 f fd ["world","line","why"] (ND K):=by
 refine F.ok GI.fs λaj A outer s H vs Q E D h=>?_
 .obtain ⟨b,W,S,R,i,ln,v,d,rfl,t,g,h,L,O,I,q⟩:=h;have hu:=D.units;refine⟨_,(@Af _ _ _ _ _ (A5<|Bf J AgE D.d AN (Ab (Aa 0 GI)<|Ab (Aa 1 GI) Ac))
    (Af (Ca (UE (UJ (by decide) _) hu) (Ap P w K (Aa 0 GI) Ag) (Aa 1 GI) Ag rfl)
    (Ak<|Ca (UE (UJ (by decide) _) hu) (Ap P w K (Aa 0 GI) Ag) (Aa 1 GI) (Aa 2 GI) rfl))),?_⟩
  try dsimp only[av,aw]
  ext;dsimp only[BP];refine Fo b W S R i ln rfl ⟨t,g,h,L,λV Y B p1=>?_⟩;have B:WD K b V Y ((au S ln.held).aQ i { ln with held:=[] }) R:=by unfold Cy at B;rwa[<-E9 ln.held S]at B
  have h1:(au S ln.held).lns[i]?=some ln:=by rwa[E9]
  left;rename_i p2
  refine WD.uh ‹_› h1 (Is.ak _ I O<|p1.trans p2) I λH3 W3 t3 p3=>q H3 W3 ?_ (by walk_at "p");rw[show Cg S i ln d=(au S ln.held).aQ i { ln with held:=[],st:="told",why:=d } by unfold Cg Cy;dsimp only[PS.aQ];rw[<-E9 ln.held S]];exact t3
def DL:AM ["world","where","told","k","word"] ["world","where"] (Ae<|top 49):=.of
def AgG:Gm (Ae<|top 49) "tuple":=.of
def AgH:Gm (Ae<|top 49) "range":=.of
def AgI:Gm (Ae<|top 49) "len":=.of
def AgJ:Gm (Ae<|top 49) "int":=.of
def AgK(F:AI K "_law_paper" "_law_paper" (top 49) f fd)(T:TxtH P w K mg a):AB P w K mg base Au 1 f fd ["world","where"] (NF K):=by
 refine F.ok DL.fs λaj A outer s H vs Q E hr h=>?_
 .obtain ⟨b,W,S,R,u,r,rfl,t,g,D,q⟩:=h;have hu:=hr.units;have nd:=DL.fs.nd;obtain⟨l1,_,l3⟩:=AU<|Lb g D;refine⟨_,(@Af _ _ _ _ _ (A4 2 DL<|Bb Ac)
    (Af (CM U6 rfl (HH AgH T.c9<|Ab (Bc BQ AgI T.n_len BJ<|Ab (Ap P w K (Ap P w K (Aa 0 DL) Ag)<|Aa 1 DL) Ac) Ac) (BR 3 DL) (Af (A4 4 DL<|AY AZ (Bb<|Ab Ag (Ab Ag Ac)) (Cs Jc AgJ T.gX IU<|Ab (AY AZ (Ap P w K (Ap P w K (Aa 0 DL) Ag)<|Aa 1 DL) (Aa 3 DL) λ_ _=>rfl) Ac) (λ_ _=>rfl))
     (Ak<|A5 (Cr UZ Vf Vg C9 (Aa 2 DL)<|Ab (QL (AY AZ (Ap P w K (Ap P w K (Aa 0 DL) Ag)<|Aa 1 DL) (Aa 3 DL) λ_ _=>rfl)<|Iu (Aa 4 DL)) Ac))))
    (Ak<|AD (Cs J7 AgG T.gY Kc<|Ab (Aa 2 DL) Ac)))),?_⟩
  try dsimp only[av,aw]
  show⟨Ao,λl H1 J=>?_⟩;have t1:=t.same J.same;left;refine TY<|A9 _ _ rfl (.inl<|.of (t1.aC D)) ?_;rw[F6];show⟨by omega,by omega,Hv (n:=r.1.length) (λi σ Y=>∃x y,σ=[some<|.ref b,some<|.str u,some<|.ref l,x,y]/\Aj H Y/\Y l=some (.lst<|Cu (Cp S u r.1) (λk=>r.2.1.getD k false) i)) ⟨none,none,rfl,J.same,J.get⟩ ?_ ?_⟩
  .intro i σ Y hi zq;replace zq:=BA zq;obtain⟨x,y,rfl,L,hL⟩:=zq;simp only[Yi];have t2:=t.same L;obtain⟨v,hv⟩:∃v,r.1[i]?=some v:=⟨_,Uh hi⟩;obtain⟨c,hc⟩:∃c,r.2.1[i]?=some c:=⟨_,Uh<|by omega⟩;obtain⟨v',a1,a2⟩:=As<|La g D hv;show⟨Ao,λl2 H2 O=>?_⟩;have t3:=t2.same O.same;have bL:=O.same _ _ hL;left;refine T2<|Bx _ _ i _ rfl rfl (.of<|t3.aR D) (Fm<|by rw[T6,hc];rfl) ?_;show T2 (Cd c rfl ?_);show T2 (Bx l2 _ _ (.str (if c then "stuck" else "free")) rfl rfl (.of O.get) (by cases c<;>rfl) ?_);show⟨.inl ⟨rfl,_,.of bL⟩,?_⟩;left;refine T2<|Cc (.of<|t3.aC D) (Fm a1) ?_;have I:∀x,x=(if v'=.aa then(if c=true then V.str "stuck" else V.str "free")else v')->∃x1 y1,([some<|.ref b,some<|.str u,some<|.ref l,some<|.int i,some<|.str (if c then "stuck" else "free")]:St)=[some<|.ref b,some<|.str u,some<|.ref l,x1,y1]/\Aj H (upd H2 l<|.lst (Cu (Cp S u r.1) (λk=>r.2.1.getD k false) i++[x]))/\(upd H2 l<|.lst (Cu (Cp S u r.1) (λk=>r.2.1.getD k false) i++[x])) l=some (.lst<|Cu (Cp S u r.1) (λk=>r.2.1.getD k false) (i+1)):=λx e=>⟨_,_,rfl,(L.trans O.same).bI J.n,by rw[Aq,ME,Ux,Ux,a1,hc,e];rfl⟩;have B:(Cu (Cp S u r.1) (λk=>r.2.1.getD k false) i).length<sizeLine:=by unfold Cu;rw[TN,WH,TZ];omega
   rcases a2 with ⟨z1,rfl⟩|⟨z1,z,rfl,z0,zk⟩
   .refine Cd false rfl ?_;rw[cZ UN];ext;exact⟨l,_,_,rfl,rfl,bL,B,I _<|by cases c<;>rfl⟩
   .refine ⟨true,⟨by have z20:=zk.2;rw[TZ];omega,by have:((z.length:Int) != 0)=true:=(bne_iff_ne ..).mpr (by omega);exact this.symm⟩,?_⟩;rw[br rfl];ext;exact⟨l,_,_,rfl,rfl,bL,B,I _<|by rw[cZ λe=>nomatch e]⟩
  .intro σ H2 zq;replace zq:=BA zq;obtain⟨x,y,rfl,L,hL⟩:=zq;show Ed l _ rfl (.inl ⟨.of hL,λtt nt=>q _ tt (L.upd nt) ?_⟩);rw[Aq];rfl
def FE:AQ S (TU "")=some (S.sk.hs,S.sk.js,S.sk.ts):=br rfl
def AgL{S:PS}{i:Nat}{ln:Ln}(h:S.lns[i]?=some ln):D6 S (.int i)=.str ln.num:=by rw[Nw,WC,T6,h];rfl
def SG(zs:List bf):(zs.map V.str).all DQ=true:=by rw[VN];intro y B;obtain⟨_,_,rfl⟩:=As<|Uc.mp B;rfl
section
variable {K:TH}{b:ar}{H:Hp}{W:VW}{S:PS}{R:Ax}{i:Nat}{ln:Ln}{u:bf}{k:Int}{D:Hp->Prop}
def SH:∀w,w≠TU ""->AQ { S with sk:=s } w=AQ S w:=λw n=>by unfold AQ;rw[cZ n,cZ n];rfl
def WD.abS(t:WD K b H W S R)(h:S.lns[i]?=some ln)(k0:0<=k)(k1:k<S.sk.hs.length)(c:∀B I,WD K b B I { S with sk:={ S.sk with hs:=S.sk.hs.set k.toNat (.int i) } } R->Ah H B->D B):∃p xs a j,V.ref (W.la .aC<|TU "")=.ref p/\V.int k=.int a/\H p=some (.lst xs)/\CP xs.length a=some j/\D (upd H p<|.lst (xs.set j<|.str ln.num)):=by obtain⟨J,L,O⟩:=AU<|t.ok.r _ _ FE;exact t.iD FE (by decide) k0 (by rwa[J,F6]) (S':={ S with sk:={ S.sk with hs:=S.sk.hs.set k.toNat (.int i) } }) FE ⟨rfl,rfl,rfl,rfl⟩ ⟨rfl,rfl,rfl⟩ SH ⟨by rw[C6,J];unfold Cp;rw[br rfl,br rfl,U4,AgL h],L,O⟩ λB I t p _=>c B I t p
def WD.abT(t:WD K b H W S R)(x:Int)(k0:0<=k)(k1:k<S.sk.ts.length)(c:∀B I,WD K b B I { S with sk:={ S.sk with ts:=S.sk.ts.set k.toNat x } } R->Ah H B->D B):∃p xs a j,V.ref (W.la .shr<|TU "")=.ref p/\V.int k=.int a/\H p=some (.lst xs)/\CP xs.length a=some j/\D (upd H p<|.lst (xs.set j<|.int x)):=by obtain⟨L,O,J⟩:=AU<|t.ok.r _ _ FE;exact t.iD FE (by decide) k0 (by rwa[J,TN]) (S':={ S with sk:={ S.sk with ts:=S.sk.ts.set k.toNat x } }) FE ⟨rfl,rfl,rfl,rfl⟩ ⟨rfl,rfl,rfl⟩ SH ⟨L,O,by rw[C6,J,U4]⟩ λB I t p _=>c B I t p
end
def SI(K:TH):Sp:=λvs H Q _=>∃(b:ar)(W:VW)(S:PS)(R:Ax),vs=[.ref b]/\WD K b H W S R/\WF S/\∀H' W' r xs,WD K b H' W' (Cv S).2 ((r,.lst (xs.map V.ref))::R)->Ah H H'->BW K H' xs (Cv S).1->Q (.ref r) H'
def SJ:EN ["world","told","many","some","line","place","went"] ["world"] (Ae<|top 48):=.of
def El:Gv (Ae<|top 48) "world":=by walk_at "k"
def Ld:Nm (Ae<|top 48) "told":=.of
def NG:Gv (Ae<|top 48) "many":=by walk_at "k"
def EI:Nm (Ae<|top 48) "some":=.of
def Ig:Nm (Ae<|top 48) "line":=.of
def NH:Nm (Ae<|top 48) "place":=.of
def NI:Nm (Ae<|top 48) "went":=.of
def SK:Gm (Ae<|top 48) "len":=.of
def AgM:Gm (Ae<|top 48) "range":=.of
noncomputable def Le:Scope:={ kind:=.function,names:=[(".0",.local),("k",.local),("_law_free_at",.globalImplicit),("world",.free)],isGenerator:=false,isCoroutine:=false,more:=[] }
def SM:BK Le (Ae<|top 48) ["k","world"] ["world","told","many","some","line","place","went"] [none,some 0]:=BK.mk' rfl (by decide +kernel) (by decide +kernel) (by decide +kernel) (by decide +kernel) rfl<|by decide +kernel
def NJ:Nm Le "k":=.of
def AgN:FP Le "world":=by walk_at "k"
def AgO:Gm Le "_law_free_at":=.of
noncomputable def Lf:Scope:={ kind:=.function,names:=[(".0",.local),("far",.local),("many",.free),("world",.free)],isGenerator:=false,isCoroutine:=false,more:=[] }
def SN:BK Lf (Ae<|top 48) ["far","many","world"] ["world","told","many","some","line","place","went"] [none,some 2,some 0]:=BK.mk' rfl (by decide +kernel) (by decide +kernel) (by decide +kernel) (by decide +kernel) rfl<|by decide +kernel
def SO:Nm Lf "far":=.of
def AgP:FP Lf "many":=by walk_at "k"
def AgQ:FP Lf "world":=by walk_at "k"
def AgR(F:AI K "_law_tones" "_law_tones" (top 48) f fd)(T:TxtH P w K mg a)(iE:Bt P w K mg base Au 1 "_law_free_at" ["world","where","k"] (NC K)):AB P w K mg base Au 2 f fd ["world"] (SI K):=by
 refine F.ok SJ λaj A outer s H vs Q E hr h=>?_
 .obtain ⟨b,W0,J,R,rfl,t0,lp,q⟩:=h;have hu:=hr.units;have nd:=SJ.nd;have ls0:=lp.g.so.ls;have zz0:=lp.g.so.z;refine⟨_,(@Af _ _ _ _ _ (DB 1 nd Ld<|Bb Ac)
    (Af (Md 2 nd NG<|Bc BQ SK T.n_len BJ (Ab (Ap P w K (AS 0 El) Ag) Ac))
    (Af (OD U6 (AL (Ez hu) (Ap P w K (AS 0 El) Ag) (Bb Ac)<|AW _) (Af (HJ (j:=3) rfl nd rfl (T2 EI.loc) SN (HH AgM T.c9<|Ab (AS 2 NG) Ac) (λcl C fp π s₂ H₂=>(Dc 0 SN.nd SO.comp)) (λcl C fp π s₂ H₂=>GW) (λcl C fp π s₂ H₂=>(Av BM (Av B5 (Ap P w K (GX 2 AgQ.comp) Ag)<|Az 0 SO.comp)<|GX 1 AgP.comp)) (by rfl) (by intro _;rfl)<|T2 rfl)
     (Af (HJ (j:=3) rfl nd rfl (T2 EI.loc) SM (Dw<|Az 3 EI) (λcl C fp π s₂ H₂=>(Dc 0 SM.nd NJ.comp)) (λcl C fp π s₂ H₂=>(IY<|Dv (Bf iE AgO.comp hr.d AN<|Ab (GX 1 AgN.comp) (Ab Ag<|Ab (Az 0 NJ.comp) Ac)))) (λcl C fp π s₂ H₂=>(Az 0 NJ.comp)) (by rfl) (by intro _;rfl)<|T2 rfl)
     (Af (AR (AL (B2 hu) (Az 3 EI) (Bb Ac)<|AW _) (Ak<|AD (Az 1 Ld)) AV)
     (Af (DB 4 nd Ig<|Cr UZ yd ye Po (Ap P w K (AS 0 El) Ag) (Ab Am Ac))
     (Af (DB 5 nd NH<|Cr UZ PySem.F.slot_list_index PySem.F.type_list_index Ad0 (Ap P w K (AS 0 El) Ag) (Ab (Az 4 Ig) Ac))
     (Af (DB 6 nd NI<|Av BM (Av Gg (Az 5 NH)<|AY AZ (Ap P w K (AS 0 El) Ag) (AY AZ (Az 3 EI) Am λ_ _=>rfl) (λ_ _=>rfl)) (Bc BQ SK T.n_len BJ<|Ab (Ap P w K (AS 0 El) Ag) Ac))
     (Af (Et (Az 5 NH)<|Fi (Ap P w K (AS 0 El) Ag) (AY AZ (Az 3 EI) Am λ_ _=>rfl) DP)
     (Af (Iy (Ap P w K (AS 0 El) Ag) (AY AZ (Az 3 EI) Am λ_ _=>rfl) Jb (Az 6 NI) Iz DP)
     (Af (Ca (UE (UJ (by decide) _) hu) (AS 0 El) Ag (Av BM (Av B5 (AY AZ (Az 3 EI) Am λ_ _=>rfl) Am)<|AS 2 NG) rfl)
     (Af (Et (Az 4 Ig)<|Fi (Ap P w K (Ap P w K (AS 0 El) Ag) Ag) (AY AZ (Az 3 EI) Am λ_ _=>rfl) DP)
     (Af (Iy (Ap P w K (Ap P w K (AS 0 El) Ag) Ag) (AY AZ (Az 3 EI) Am λ_ _=>rfl) Jb Am Iz DP)
     (Af (Ca (UE (UJ (by decide) _) hu) (Ap P w K (AS 0 El) Ag) (Az 4 Ig) Ag rfl)
     (Af (Ca (UE (UJ (by decide) _) hu) (Ap P w K (AS 0 El) Ag) (Az 4 Ig) (Bb<|Ab (Bm<|Ab Ag (Ab (AY AZ (Az 3 EI) Am λ_ _=>rfl) Ac)) Ac) rfl)
     (Ak<|A5 (Cr UZ Vf Vg C9 (Az 1 Ld)<|Ab (Bm<|Ab Ag (Ab (Az 4 Ig)<|Ab (AY AZ (Az 3 EI) Am λ_ _=>rfl) (Ab (Az 6 NI) Ac))) Ac))))))))))))))))
    (Ak<|AD (Az 1 Ld))))),?_⟩
  try dsimp only[av,aw]
  have bb:start ["world","told","many","some","line","place","went"] [V.ref b]=[some<|.ref b,none,none,none,none,none,none]:=rfl;simp only[bb,VE,VF];show⟨Ao,λr H1 n1=>?_⟩;have t1:=t0.new n1;left;refine TY<|A9 _ _ rfl (.inl<|.of t1.sp) ?_;rw[TN,ls0];show⟨λm σ H2=>∃x3 x4 x5 x6 W2 B L tl,σ=[some<|.ref b,some<|.ref r,some<|.int J.sk.hs.length,x3,x4,x5,x6]/\WD K b H2 W2 B ((r,.lst<|L.map V.ref)::R)/\WF B/\B.sk.hs.length=J.sk.hs.length/\Ah H H2/\BW K H2 L tl/\m=B.q.length/\L.length+m<=100/\Cv J=(tl++(aP m B).1,(aP m B).2),⟨J.q.length,none,none,none,none,W0,J,[],[],rfl,t1,lp,rfl,.of n1.same,.nil,rfl,by have:=lp.g.eU;simp only[YK];omega,rfl⟩,?_⟩;intro m σ H2 Y;obtain⟨x3,x4,x5,x6,W2,B,L,tl,rfl,t2,O,c5,p2,gq,rfl,eF,eq2⟩:=Y;obtain⟨ly,dp⟩:=Ny λz hz=>(O.g.tx z<|O.g.cz z hz).1.1;left;refine⟨Ao,λle H3 n3=>?_⟩;have t3:=t2.same n3.same;refine TY ⟨.list<|B.q.map V4,.list [],.lst (.of t3.q)<|Ie B.q,.lst (.of n3.get) .nil,ly,rfl,(by rw[JI];omega),?_⟩;cases eq:B.q with
  |nil =>
   have e0:Cv J=(tl,B):=by rw[eq2,eq];change(tl++[],B)=_;rw[Vi]
   ext;exact q H3 W2 r L (by rw[e0];exact t3) (p2.trans<|.of n3.same)<|by rw[e0];exact gq.ak<|.of n3.same
  |cons z rr =>
   rw [show Xm (.list<|(z::rr).map V4) (.list [])=false from rfl];rw[eq]at eq2 eF;show B6 ?_;refine⟨_,λσ' H' h=>h,?_⟩;show⟨by omega,by omega,λD nD=>?_⟩;have m0:=O.g.m0;have m1:=O.g.m1;refine Qd (lo:=0) (n:=J.sk.hs.length) (λi σ' H'=>∃x,σ'=[x,some<|.int J.sk.hs.length,some<|.ref b]/\Aj H3 H'/\H' D=some (.lst<|((UX i).map λ(f:Nat)=>(B.sk.mark+(f:Int))%(J.sk.hs.length:Int)).map V.int)) ⟨none,rfl,(Aj.refl H3).upd nD,Aq⟩ ?_ ?_
   .intro i σ' H' hi Y;replace Y:=AG Y;obtain⟨x,rfl,sm,hL⟩:=Y;simp only[Yi];have t4:=t3.same sm;left;refine⟨_,hL,(by rw[TN,TN,WH,TZ];omega),_,rfl,sm.bI nD,?_⟩;rw[Aq,YU,Ui,Ui];rfl
   intro σ' H4 Y;replace Y:=AG Y;obtain⟨x,rfl,s4,hL⟩:=Y;have t4:=t3.same s4;obtain⟨mk,pC⟩:=YJ m0;have pF:=Agu J.sk.hs.length mk (by omega);rw[pC]at hL;generalize hO:(UX J.sk.hs.length).map (λ(f:Nat)=>((mk:Int)+(f:Int))%(J.sk.hs.length:Int))=ord at hL pF;have bV:Ct B.sk.hs B.sk.js B.sk.mark=(ord.filter<|BZ B.sk.hs B.sk.js).head?:=by unfold Ct;rw[pC,c5,<-pF,yn]
   have afQ:ord.length=J.sk.hs.length:=by rw[<-hO,TN,WH]
   show⟨⟨_,.of hL⟩,λD2 pG=>?_⟩;refine Kh (K:=K) (a:=D) (xs:=ord.map V.int) (λi σ' H'=>∃x,σ'=[x,some<|.ref b]/\Aj H4 H'/\H' D2=some (.lst<|((ord.take i).filter<|BZ B.sk.hs B.sk.js).map V.int)) ⟨none,rfl,(Aj.refl H4).upd pG,Aq⟩ (λi σ H' _ ⟨_,_,sm,_⟩=>.of<|sm _ _ hL) ?_ ?_
   .intro i y σ' H' hi Y;replace Y:=AG Y;obtain⟨x,rfl,sm,bL⟩:=Y;rw[T6]at hi;obtain⟨kk,hk,rfl⟩:=As<|UG.mp hi;obtain⟨I,k1⟩:=Q4 (n:=B.sk.hs.length) (by omega) (by omega) (show kk∈_ by rw[c5,pC,<-pF];exact Ug hk);have tf:=Sy (BZ B.sk.hs B.sk.js) ord i kk hk;have fl:=U1 (YV (BZ B.sk.hs B.sk.js)<|ord.take i)<|yo i ord;ext;dsimp only[BP];refine ES b W2 B _ (TU "") kk _ rfl ⟨t4.same sm,O.g,FE,I,k1,?_⟩;cases hf:BZ B.sk.hs B.sk.js kk with
    |false =>
     rw [hf]at tf;refine Cd false rfl<|BN ⟨_,rfl,sm,?_⟩;rw[bL,tf,cZ<|by decide,Vi]
    |true =>
     rw [hf]at tf;refine Cd true rfl<|B6 ?_;show⟨_,bL,(by rw[TN,TZ];omega),_,rfl,sm.bI pG,?_⟩;rw[Aq,tf,br rfl,Ui];rfl
   intro σ' H5 Y;replace Y:=AG Y;obtain⟨x',rfl,s5,bL⟩:=Y;rw[TN,Vn]at bL;show⟨Ao,λle2 H6 n6=>?_⟩;have t6:=t4.add pG (s5.trans n6.same)<|n6.same _ _ bL;have p6:Ah H2 H6:=.of<|((n3.same.trans s4).trans s5).trans n6.same;cases uk:ord.filter (BZ B.sk.hs B.sk.js) with
   |nil =>
    rw [uk]at t6 bV;have et:Ei B=none:=by unfold Ei;rw[eq];dsimp only;rw[bV];rfl
    have e0:Cv J=(tl,B):=by rw[eq2];change(tl++(aP (rr.length+1) B).1,(aP (rr.length+1) B).2)=_;unfold aP;rw[et];dsimp only;rw[Vi]
    refine TY ⟨.list [],.list [],.lst (.of t6.vr.hd) .nil,.lst (.of n6.get) .nil,rfl,rfl,by decide,?_⟩;ext;exact q H6 W2 r L (by rw[e0];exact t6.sub<|.cons _ (.refl _)) (p2.trans p6)<|by rw[e0];exact gq.ak p6
   |cons I rest =>
    rw [uk]at t6 bV;have bV:Ct B.sk.hs B.sk.js B.sk.mark=some I:=bV;obtain⟨⟨dU,iF⟩,_⟩:=Gz m0 (YX m1) bV;obtain⟨gB,um⟩:=K9 (I::rest);refine TY ⟨.list<|(I::rest).map VG,.list [],.lst (.of t6.vr.hd)<|Hl (I::rest),.lst (.of n6.get) .nil,gB,rfl,(by rw[JI];omega),?_⟩;rw[show Xm (.list<|(I::rest).map VG) (.list [])=false from rfl];have uo:z∈B.q:=by rw[eq];exact UI
    obtain⟨ln,i1,i2⟩:=As<|M3 (O.g.cz z uo);generalize hi:Bd B.lns z=i at i1;subst i2;obtain⟨q1,q2,q3,q4⟩:=AU<|(O.l i ln i1).jJ uo;have et:=RD eq bV (by rw[hi];exact i1);rw[hi]at et;have aI:∀{l:List Int},l.length=B.sk.hs.length->Cb (l.map V.int) I=some (.int<|l.getD I.toNat 0):=λ{l} hl=>by
     rw [<-show((I.toNat:Nat):Int)=I by omega];exact Fm<|by rw[T6,WC,Ux,Uh<|by omega];rfl
    obtain⟨so1,uq,kH,ur,_⟩:=O.g.so;left;refine⟨.inl ⟨rfl,_,.of t6.q⟩,?_⟩;show t6.abP eq λH7 W7 t7 p7=>?_;left;refine⟨.inl ⟨rfl,_,.of t7.lns⟩,?_⟩;show ER _ _ (.str ln.num) i rfl ⟨rfl,t7.lns,rfl,SG _,⟨.str ln.num,by rw[T6,T6,i1];rfl,by rw[SD];exact c8 rfl⟩,λm y hm hy=>?_,?_⟩
    .rw[T6,T6]at hy;obtain⟨_,e0,rfl⟩:=As<|UG.mp hy;obtain⟨lm,e1,rfl⟩:=As<|UG.mp e0;rw[SD];exact dJ<|FY O.g.num e1 i1 (by omega)
    left;refine T2<|Cc (.of t7.sp) (aI kH) ?_;left;refine TY<|A9 _ _ rfl (.inl<|.of t7.lns) ?_;rw[show((((B.lns.map (·.num)).map V.str).length:Nat):Int)=B.sk.places by rw[TN,TN,O.g.pl]];refine CQ _ _ rfl rfl (by rw[O.g.pl];have:=O.g.pos;omega) ?_;left;refine t7.wSp i dU (by rw[kH];exact iF) λH8 W8 t8 p8=>?_;left;refine Bj _ _ I _ rfl rfl dU (.of t8.st) (aI ur) ?_;show t8.wSt _ dU (by rw[ur];exact iF) λH9 W9 t9 p9=>?_;left;refine t9.abQ λeX W10 iG uu=>?_;left;refine iG.abS i1 dU iF λjO W11 uv p11=>?_;left;refine Bj _ _ I _ rfl rfl dU (.of<|uv.shr FE) (aI uq) ?_;show uv.abT _ dU (by rw[uq];exact iF) λiH W12 iI pH=>?_;have iI:=iI.at i1;left;rename_i p13
    refine⟨Ao,λu uw gC=>?_⟩;have t14:=WD.same ‹_› gC.same;refine⟨Ao,λl H15 pI=>?_⟩;have t15:=t14.new pI;have p15:=Ah.of<|gC.same.trans pI.same;left;refine t15.pB i1 (as:=[u]) (hd:=[(TU "",I)]) ⟨pI.same _ _ gC.get,trivial⟩ λH16 W16 ux p16=>?_;show⟨.inl ⟨rfl,_,.of ux.vr.tl.hd⟩,?_⟩;left;refine⟨Ao,λv jP pJ=>?_⟩;have uy:=(ux.same pJ.same).sub<|.cons _ (.refl _);show CS r _ _ rfl rfl uy.vr.hd (by rw[TN,TZ];rw[U2]at eF;omega) ?_;obtain⟨pK,uz⟩:=uy.set (o':=.lst<|(L++[v]).map V.ref) rfl;rw[show(L.map V.ref++[V.ref v])=(L++[v]).map V.ref by rw[Ui];rfl];have p17:=Ah.of pJ.same;have pA:Ah H2 jP:=by walk_at "p"
    have eL:({ AX ln "dials" with held:=ln.held++[((TU ""),I)] }:Ln)={ ln with st:="dials",held:=[(TU "",I)] }:=by unfold AX;rw[q2,q3,q4.1,q4.2.1,q4.2.2];rfl
    have pK:WD K b (upd jP r<|.lst ((L++[v]).map V.ref)) W16 { B with q:=rr,lns:=B.lns.set i { AX ln "dials" with held:=ln.held++[((TU ""),I)] },sk:=bG B.sk I i } ((r,.lst<|(L++[v]).map V.ref)::R):=by rw[eL];unfold bG;rw[c5];exact pK
    refine  ⟨rr.length,Xx _,_,_,_,_,_,_,L++[v],tl++[.tuple [.str "tone",.str ln.num,.int I,.int<|((i:Int)-B.sk.st.getD I.toNat 0)%B.sk.places]],rfl,pK,O.jK et,(by change(B.sk.hs.set _ _).length=_;rw[Uo];exact c5),p2.trans<|pA.trans uz,((gq.ak pA).app<|.one (.tup (.of pJ.get)<|.cons (.str _) (.cons (.str _)<|.cons (.int _) (.cons (.int _) .nil))) rfl).ak uz,rfl,(by rw[UK,Ve];rw[U2]at eF;omega),?_⟩;have jD:∀n,aP (n+1) B=_:=λn=>by unfold aP;rw[et]
    rw [eq2,U2,jD,Uk];rfl
def AgS (h:1<=n/\n<=10):(toString (n%10):bf)=D5 n:=by
 have B:n=1\/n=2\/n=3\/n=4\/n=5\/n=6\/n=7\/n=8\/n=9\/n=10:=by omega
 rcases B with rfl|rfl|rfl|rfl|rfl|rfl|rfl|rfl|rfl|rfl<;>decide +kernel
def AgT(n:Nat):BS 0 (n:Int)++BS 0 0=(UX n).map λ(k:Nat)=>(k:Int):=by unfold BS;simp
structure TxtW(P:TR)(w:TL)(K:TH)(mg:bf->Option af)(a:An):Prop extends TxtG P w K mg a where
 pM:mg "str"=none
abbrev PS.fJ(S:PS)(z:bf)(h:Gr->Gr):PS:={ S with az:=S.az.map λg=>if g.pre=z then h g else g }
def SQ (B:∀g,(h g).pre=g.pre)(D:z≠TU "")(I:BG S z=some g):AQ (S.fJ z h) z=some ((h g).hs,(h g).js,(h g).ts)/\∀u,u≠z->AQ (S.fJ z h) u=AQ S u:=by
 unfold AQ;refine⟨?_,λu n=>?_⟩
 .rw[cZ D,FA B,I];simp only[Vj,if_true]
 .by_cases d:u=TU ""
  .rw[br d,br d]
  .rw[cZ d,cZ d,FA B];cases BG S u with
   |none=>rfl
   |some g=>rw[Vj,cZ n]
def AgU{S:PS}{z:bf}{h h':Gr->Gr}(B:∀g,(h g).pre=g.pre):(S.fJ z h).fJ z h'=S.fJ z λg=>h' (h g):=by
 apply congrArg (λl=>({ S with az:=l }:PS));change Va _ (Va _ _)=_;rw[Uq];refine Vr λg _=>?_;change(if (if g.pre=z then h g else g).pre=z then _ else _)=_;by_cases c:g.pre=z
 .simp only[c,if_true,B]
 .simp only[c,if_false]
section
variable {K:TH}{b:ar}{H:Hp}{W:VW}{S:PS}{R:Ax}{z:bf}{k:Int}{g:Gr}{D:Hp->Prop}
def Lg(B:z≠TU "")(I:BG S z=some g):AQ S z=some (g.hs,g.js,g.ts):=by unfold AQ;rw[cZ B,I];rfl
def WD.abU(t:WD K b H W S R)(I:z≠TU "")(L:BG S z=some g)(v:V)(k0:0<=k)(k1:k<g.hs.length)(c:∀B J,WD K b B J (S.fJ z λg=>{ g with hs:=g.hs.set k.toNat v }) R->Ah H B->D B):∃p xs a j,V.ref (W.la .aC z)=.ref p/\V.int k=.int a/\H p=some (.lst xs)/\CP xs.length a=some j/\D (upd H p<|.lst (xs.set j v)):=by have O:=Lg I L;obtain⟨Y,e2,e3⟩:=AU<|t.ok.r _ _ O;obtain⟨r1,r2⟩:=SQ (h:=λg=>{ g with hs:=g.hs.set k.toNat v }) (λ_=>rfl) I L;exact t.iD O (by decide) k0 (by rwa[Y,F6]) r1 ⟨rfl,rfl,rfl,rfl⟩ ⟨rfl,rfl,rfl⟩ r2 ⟨by rw[C6,Y];unfold Cp;rw[cZ I,cZ I],e2,e3⟩ λB J t p _=>c B J t p
def WD.abV(t:WD K b H W S R)(J:z≠TU "")(L:BG S z=some g)(x:Gr->Int)(k0:0<=k)(k1:k<g.ts.length)(c:∀B I,WD K b B I (S.fJ z λg=>{ g with ts:=g.ts.set k.toNat (x g) }) R->Ah H B->D B):∃p xs a j,V.ref (W.la .shr z)=.ref p/\V.int k=.int a/\H p=some (.lst xs)/\CP xs.length a=some j/\D (upd H p<|.lst (xs.set j<|.int (x g))):=by have O:=Lg J L;obtain⟨e1,e2,Y⟩:=AU<|t.ok.r _ _ O;obtain⟨r1,r2⟩:=SQ (h:=λg=>{ g with ts:=g.ts.set k.toNat (x g) }) (λ_=>rfl) J L;exact t.iD O (by decide) k0 (by rwa[Y,TN]) r1 ⟨rfl,rfl,rfl,rfl⟩ ⟨rfl,rfl,rfl⟩ r2 ⟨e1,e2,by rw[C6,Y,U4]⟩ λB I t p _=>c B I t p
end
def SR(K:TH):Sp:=λvs H Q _=>∃(b:ar)(W:VW)(S:PS)(R:Ax)(i:Nat)(ln:Ln),vs=[.ref b,.str ln.num]/\WD K b H W S R/\WF S/\S.lns[i]?=some ln/\ln.st=Bu.ba.s/\ln.ag≠0 /\
 ∀H' W' c,WD K b H' W' (De S i ln).2 R->Ah H H'->Is K H' (.ref c) (De S i ln).1->Q (.ref c) H'
def SS:EN ["world","line","figures","some","why"] ["world","line"] (Ae<|top 51):=.of
def CL:Gv (Ae<|top 51) "world":=by walk_at "k"
def Dm:Nm (Ae<|top 51) "line":=.of
def CF:Gv (Ae<|top 51) "figures":=by walk_at "k"
def Ih:Nm (Ae<|top 51) "some":=.of
def Ii:Nm (Ae<|top 51) "why":=.of
def NK:Gm (Ae<|top 51) "_law_ended":=.of
def NL:Gm (Ae<|top 51) "len":=.of
def AgV:Gm (Ae<|top 51) "_law_paper":=.of
def AgW:Gm (Ae<|top 51) "range":=.of
def AgX:Gm (Ae<|top 51) "str":=.of
def JK:Scope:={ kind:=.function,names:=[(".0",.local),("k",.local),("_law_free_at",.globalImplicit),("figures",.free),("world",.free)],isGenerator:=false,isCoroutine:=false,more:=[] }
def SU:BK JK (Ae<|top 51) ["k","world","figures"] ["world","line","figures","some","why"] [none,some 0,some 2]:=BK.mk' rfl (by decide +kernel) (by decide +kernel) (by decide +kernel) (by decide +kernel) rfl<|by decide +kernel
def NM:Nm JK "k":=.of
def AgY:FP JK "world":=by walk_at "k"
def AgZ:FP JK "figures":=by walk_at "k"
def Ag0:Gm JK "_law_free_at":=.of
def Ag1(F:AI K "_law_gap" "_law_gap" (top 51) f fd)(T:TxtW P w K mg a)(iE:Bt P w K mg base Au 1 "_law_free_at" ["world","where","k"] (NC K))(fK:Bt P w K mg base Au 2 "_law_ended" ["world","line","why"] (ND K))(iJ:Bt P w K mg base Au 1 "_law_paper" ["world","where"] (NF K)):AB P w K mg base Au 3 f fd ["world","line"] (SR K):=by
 refine F.ok SS λaj A outer s H vs Q E hr h=>?_
 .obtain ⟨b,W,S,R,i,ln,rfl,t,wf,h,ev,p0,q⟩:=h;have hu:=hr.units;have nd:=SS.nd;obtain⟨y1,y2,⟨y3,y4⟩,y5,y6⟩:=AU<|(wf.l i ln h).way ev;have hp:1<=ln.ag/\ln.ag<=10:=by omega
  have hi9:=wf.g.hi;have lo2:=wf.g.lo;have ef:(Al ln).ae=ln.ae++D5 ln.ag:=rfl;have lf:(Al ln).ae.length=ln.ae.length+1:=by rw[ef,Bk,Jy hp]
  have iK:(Al ln).ae≠TU "":=Sn hp _;have t:=t.at h;refine⟨_,(@Af _ _ _ _ _ (Md 2 nd CF<|Av B5 (Ap P w K (Ap P w K (AS 0 CL) Ag)<|Az 1 Dm) (Cs AaZ AgX T.pM PQ<|Ab (Av BM (Ap P w K (Ap P w K (AS 0 CL) Ag)<|Az 1 Dm) Am) Ac))
    (Af (Ca (UE (UJ (by decide) _) hu) (Ap P w K (AS 0 CL) Ag) (Az 1 Dm) (AS 2 CF) rfl)
    (Af (Ca (UE (UJ (by decide) _) hu) (Ap P w K (AS 0 CL) Ag) (Az 1 Dm) Am rfl)
    (Af (AR (AL (B2 hu) (Bc BQ NL T.n_len BJ<|Ab (AS 2 CF) Ac) (Av Gg (Ap P w K (AS 0 CL) Ag) Am)<|AW _) (Ak<|AD (Bm<|Ab Ag (Ab (Az 1 Dm)<|Ab (AS 2 CF) Ac))) AV)
    (Af (AR (PW.pt<|Ea (AL (GZ (P:=P) (w:=w) (K:=K)) (AS 2 CF) (Ap P w K (AS 0 CL) Ag)<|by with_unfolding_all rfl) (Ep<|AL (GZ (P:=P) (w:=w) (K:=K)) (AS 2 CF) (Ap P w K (AS 0 CL) Ag) (by with_unfolding_all rfl))) (Af (A5<|Bf fK NK hr.d AN (Ab (AS 0 CL)<|Ab (Az 1 Dm) (Ab (Bm<|Ab Ag (Ab (AS 2 CF) Ac)) Ac)))
     (Ak<|AD (Bm<|Ab Ag (Ab (Az 1 Dm)<|Ab (AS 2 CF) Ac)))) AV)
    (Af (AR (AL FL (Bc BQ NL T.n_len BJ<|Ab (AS 2 CF) Ac) (Ap P w K (AS 0 CL) Ag)<|AW _) (Af (HJ (j:=3) rfl nd rfl (T2 Ih.loc) SU (HH AgW T.c9<|Ab (Bc BQ NL T.n_len BJ<|Ab (Ap P w K (Ap P w K (AS 0 CL) Ag)<|AS 2 CF) Ac) Ac) (λcl C fp π s₂ H₂=>(Dc 0 SU.nd NM.comp)) (λcl C fp π s₂ H₂=>(IY<|Dv (Bf iE Ag0.comp hr.d AN<|Ab (GX 1 AgY.comp) (Ab (GX 2 AgZ.comp)<|Ab (Az 0 NM.comp) Ac)))) (λcl C fp π s₂ H₂=>(Az 0 NM.comp)) (by rfl) (by intro _;rfl)<|T2 rfl)
     (Af (AR (AL (B2 hu) (Az 3 Ih) (Bb Ac)<|AW _) (Af (DB 4 nd Ii<|Bm (Ab Ag<|Ab (AS 2 CF) (Ab (Bf iJ AgV hr.d AN<|Ab (AS 0 CL) (Ab (AS 2 CF) Ac)) Ac)))
      (Af (A5<|Bf fK NK hr.d AN (Ab (AS 0 CL)<|Ab (Az 1 Dm) (Ab (Az 4 Ii) Ac)))
      (Ak<|AD (Bm<|Ab Ag (Ab (Az 1 Dm)<|Ab (Az 4 Ii) Ac))))) AV)
     (Af (Et (Az 1 Dm)<|Fi (Ap P w K (Ap P w K (AS 0 CL) Ag)<|AS 2 CF) (AY AZ (Az 3 Ih) Am λ_ _=>rfl) DP)
     (Af (Iy (Ap P w K (Ap P w K (AS 0 CL) Ag)<|AS 2 CF) (AY AZ (Az 3 Ih) Am λ_ _=>rfl) Jb Am Iz DP)
     (Af (A5<|Cr UZ Vf Vg C9 (Ap P w K (Ap P w K (AS 0 CL) Ag)<|Az 1 Dm) (Ab (Bm<|Ab (AS 2 CF) (Ab (AY AZ (Az 3 Ih) Am λ_ _=>rfl) Ac)) Ac))
     (Ak<|AD (Bm<|Ab Ag (Ab (Az 1 Dm)<|Ab (AS 2 CF) (Ab (AY AZ (Az 3 Ih) Am λ_ _=>rfl) Ac))))))))) AV)
    (Af (AR (AL (Ez hu) (Ap P w K (Ap P w K (AS 0 CL) Ag)<|AS 2 CF) Ag<|AW _) (Af (DB 4 nd Ii<|Bm (Ab Ag<|Ab (AS 2 CF) (Ab (Ap P w K (Ap P w K (AS 0 CL) Ag)<|AS 2 CF) Ac)))
     (Af (A5<|Bf fK NK hr.d AN (Ab (AS 0 CL)<|Ab (Az 1 Dm) (Ab (Az 4 Ii) Ac)))
     (Ak<|AD (Bm<|Ab Ag (Ab (Az 1 Dm)<|Ab (Az 4 Ii) Ac))))) AV)
    (Af (Ca (UE (UJ (by decide) _) hu) (Ap P w K (AS 0 CL) Ag) (AS 2 CF) Ag rfl)
    (Af (Ca (UE (UJ (by decide) _) hu) (Ap P w K (AS 0 CL) Ag) (AS 2 CF) (Az 1 Dm) rfl)
    (Af (Ca (UE (UJ (by decide) _) hu) (Ap P w K (AS 0 CL) Ag) (Az 1 Dm) Ag rfl)
    (Af (Ca (UE (UJ (by decide) _) hu) (Ap P w K (AS 0 CL) Ag) (Az 1 Dm) (AS 2 CF) rfl)
    (Ak<|AD (Bm<|Ab Ag (Ab (Az 1 Dm)<|Ab (AS 2 CF) Ac)))))))))))))),?_⟩
  try dsimp only[av,aw]
  have bb:start ["world","line","figures","some","why"] [V.ref b,V.str ln.num]=[some<|.ref b,some<|.str ln.num,none,none,none]:=rfl;simp only[bb,VE,VF];left;refine⟨(by
   have pL:ln.ag%10=0\/ln.ag%10=1\/ln.ag%10=2\/ln.ag%10=3\/ln.ag%10=4\/ln.ag%10=5\/ln.ag%10=6\/ln.ag%10=7\/ln.ag%10=8\/ln.ag%10=9:=by omega
   rcases pL with e|e|e|e|e|e|e|e|e|e<;>rw[e]<;>decide),?_⟩
  rw [show(toString (ln.ag%10):bf)=D5 ln.ag from AgS hp];refine TY<|T2 (CQ _ _ rfl rfl (by rw[Jy hp,TZ];omega) ?_);rw[<-ef];left;rename_i H1 _ _ p1 _ _ H2 W2 I p2 _ _
  obtain⟨B,iL⟩:∃B:PS,B=S.aQ i (Al ln):=⟨_,rfl⟩;have I:WD K b H2 W2 B R:=by rwa[iL]
  have h2:B.lns[i]?=some (Al ln):=by rw[iL];exact B3 h
  have g1:WG B:=by rw[iL];exact wf.g.lns<|C5 (y:=Al ln) h rfl
  have iM:bA B (Al ln).held:=by rw[iL];exact(wf.o8 h ev).h
  have lo1:B.long=S.long:=by rw[iL]
  have Y:De S i ln=if ((Al ln).ae.length:Int)<=S.long-2 then CJ B i (Al ln) (Al ln).ae else if ((Al ln).ae.length:Int)<S.long then(.tuple [.str "figure",.str ln.num,.str (Al ln).ae],B)else CI B i (Al ln) (Al ln).ae:=by rw[iL];rfl
  refine T2<|EO _ rfl (by rw[TZ];omega) ?_;show I.lh ?_;rw[lo1];ext;by_cases cA:((Al ln).ae.length:Int)=S.long-1
  .rw[Y,cZ<|by omega,br<|by omega]at q;rw[show decide (V.int ((Al ln).ae.length:Int)=(λi j=>V.int<|i-j) S.long 1)=true from c8<|congrArg V.int cA];apply B6;ext;walk_at "t";exact q _ _ _ ‹_› (by walk_at "p")<|by walk_at "i"
  rw [show decide (V.int ((Al ln).ae.length:Int)=(λi j=>V.int<|i-j) S.long 1)=false from dJ λe=>cA<|V.int.inj e];apply BN;show I.fld ?_;apply A2 _ _ (.inr (Al ln).ae) rfl rfl (.of<|I.t.vk .aC);rw[I.uf,show(AQ B (Al ln).ae).isSome=(BG B (Al ln).ae).isSome by unfold AQ;rw[cZ iK,xb]];by_cases cB:((Al ln).ae.length:Int)<=S.long-2
  .rw[br cB]at Y;have jQ:(Al ln).ae ∉ B.lns.map (·.num):=λm=>by have:=g1.tl _ m;omega
   cases O:BG B (Al ln).ae with
   |none =>
    rw [Y,show CJ B i (Al ln) (Al ln).ae=(.tuple [.str "none",.str (Al ln).num,.str (Al ln).ae],Cg B i (Al ln)<|.tuple [.str "none",.str (Al ln).ae]) by simp only[CJ,O]]at q;show I.fld ?_;apply A2 _ _ (.inr (Al ln).ae) rfl rfl (.of<|I.t.vf .way);rw[I.pj,dJ jQ];ext;walk_at "t";refine⟨b,_,B,R,i,Al ln,_,.tuple [.str "none",.str (Al ln).ae],rfl,‹_›,g1,h2,iM,(by walk_at "i"),rfl,λH4 W4 L p4=>?_⟩;ext;walk_at "t";exact q _ _ _ ‹_› (by walk_at "p")<|by walk_at "i"
   |some g =>
    have er:=Lg iK O;obtain⟨l1,l2,l3⟩:=AU<|Lb g1 er;have l1:g.js.length=g.hs.length:=l1;have l2:g.ts.length=g.hs.length:=l2;have l3:g.hs.length<=1000:=l3;show T2 (EO _ rfl (by rw[TZ];omega) ?_);show I.lh ?_;rw[lo1];show DS (c8<|show((Al ln).ae.length:Int)<S.long by omega) ?_;left;refine TY<|A9 _ _ rfl (.inl<|.of (I.aC er)) ?_;rw[F6];show⟨by omega,by omega,λD nD=>?_⟩;refine Qd (lo:=0) (n:=g.hs.length) (λi σ' H'=>∃x,σ'=[x,some<|.ref b,some<|.str (Al ln).ae]/\Aj H2 H'/\H' D=some (.lst<|(((UX i).map λ(k:Nat)=>(k:Int)).filter<|BZ g.hs g.js).map V.int)) ⟨none,rfl,(Aj.refl H2).upd nD,Aq⟩ ?_ ?_
    .intro k σ' H' hk zq;replace zq:=AG zq;obtain⟨x,rfl,sm,hL⟩:=zq;simp only[Yi];have tf:((UX<|k+1).map λ(k:Nat)=>(k:Int)).filter (BZ g.hs g.js)=((UX k).map λ(k:Nat)=>(k:Int)).filter (BZ g.hs g.js)++if BZ g.hs g.js (k:Int)=true then[(k:Int)] else[]:=by
      rw [YU,Ui,Z0,UR,Xi,Z1,Z2]
     have fl:=YV (BZ g.hs g.js)<|(UX k).map λ(k:Nat)=>(k:Int);rw[TN,WH]at fl;show ES b W2 B R ((Al ln).ae) (k:Int) _ rfl ⟨I.same sm,g1,er,by omega,by change(k:Int)<g.hs.length;omega,?_⟩;dsimp only;cases hf:BZ g.hs g.js (k:Int) with
     |false =>
      rw [hf]at tf;refine Cd false rfl<|BN ⟨_,rfl,sm,?_⟩;rw[hL,tf,cZ<|by decide,Vi]
     |true =>
      rw [hf]at tf;refine Cd true rfl<|B6 ?_;show⟨_,hL,(by rw[TN,TZ];omega),_,rfl,sm.bI nD,?_⟩;rw[Aq,tf,br rfl,Ui];rfl
    intro σ' H3 zq;replace zq:=AG zq;obtain⟨x,rfl,s3,hL⟩:=zq;have bV:Ct g.hs g.js 0=(((UX g.hs.length).map λ(k:Nat)=>(k:Int)).filter<|BZ g.hs g.js).head?:=by unfold Ct;rw[AgT,yn]
    generalize ((UX g.hs.length).map λ(k:Nat)=>(k:Int)).filter (BZ g.hs g.js)=so at hL bV;show⟨Ao,λle H4 n4=>?_⟩;have L:=I.add nD (s3.trans n4.same)<|n4.same _ _ hL;have p4:=Ah.of<|s3.trans n4.same;cases so with
    |nil =>
     rw [Y,show CJ B i (Al ln) (Al ln).ae=(.tuple [.str "busy",.str (Al ln).num,.tuple [.str "group",.str (Al ln).ae,.tuple<|CZ g]],Cg B i (Al ln)<|.tuple [.str "group",.str (Al ln).ae,.tuple<|CZ g]) by simp only[CJ,O,show Ct g.hs g.js 0=none from bV]]at q;refine TY ⟨.list [],.list [],.lst (.of L.vr.hd) .nil,.lst (.of n4.get) .nil,rfl,rfl,by decide,?_⟩;have L:=L.sub<|.cons _ (.refl R);show Fo b W2 B R ((Al ln).ae) _ rfl ⟨L,g1,er,λH5 tt s5 e5=>?_⟩;have t5:=L.same s5;have p5:=Ah.of s5;rw[show HZ B (Al ln).ae (g.hs,g.js,g.ts)=Cu g.hs (λk=>g.js.getD k false) g.hs.length by unfold HZ;rw[cZ iK]]at e5;have ip:Is K H5 (.ref tt) (.tuple<|CZ g):=.tup (.of e5)<|M9 (RN (g1.hg g (EF O).1).s);have tpp:Cm (.tuple<|CZ g)=true:=KW _;have tpd:Cm (.tuple [.str "group",.str (Al ln).ae,.tuple<|CZ g])=true:=by change(true && (true && (bM (CZ g) && true)))=true;rw[show bM (CZ g)=true from tpp];rfl
     walk_at "t";have iw:Is K _ _ (.tuple [.str "group",.str (Al ln).ae,.tuple<|CZ g]):=.tup (.of ‹_=some (HO.tup _)›) (by walk_at "is");show Fp b _ B R i (Al ln) _ _ rfl ⟨‹_›,g1,h2,iM,iw,tpd,λH7 W7 t7 p7=>?_⟩;ext;walk_at "t";exact q _ _ _ ‹_› (by walk_at "p")<|by walk_at "i"
    |cons J rest =>
     have bV:Ct g.hs g.js 0=some J:=bV;obtain⟨⟨dU,iF⟩,_⟩:=Gz (XG 0) (yj _) bV;rw[Y,show CJ B i (Al ln) (Al ln).ae=(.tuple [.str "takes",.str (Al ln).num,.str (Al ln).ae,.int J],{ B with az:=B.az.map λy=>if y.pre=(Al ln).ae then b9 y J (Al ln).num else y,lns:=B.lns.set i { Al ln with held:=(Al ln).held++[((Al ln).ae,J)] } }) by simp only[CJ,O,bV]]at q;obtain⟨gB,um⟩:=K9 (J::rest);refine TY ⟨.list<|(J::rest).map VG,.list [],.lst (.of L.vr.hd)<|Hl (J::rest),.lst (.of n4.get) .nil,gB,rfl,(by rw[JI];omega),?_⟩;rw[show Xm (.list<|(J::rest).map VG) (.list [])=false from rfl];left;refine L.abU iK O (.str ln.num) dU iF λH5 W5 t5 p5=>?_;have uA:BG (B.fJ (Al ln).ae λg=>{ g with hs:=g.hs.set J.toNat (.str ln.num) }) (Al ln).ae=some { g with hs:=g.hs.set J.toNat (.str ln.num) }:=by rw[FA (h:=λg=>{ g with hs:=g.hs.set J.toNat (.str ln.num) }) λ_=>rfl,O];simp only[Vj,if_true]
     have er5:=Lg iK uA;left;refine Bj _ _ J _ rfl rfl dU (.of<|t5.shr er5) (by rw[<-show((J.toNat:Nat):Int)=J by omega];exact Fm (v:=.int<|g.ts.getD J.toNat 0)<|by rw[T6,WC,Ux,Uh<|by change _<g.ts.length;omega];rfl) ?_;show t5.abV iK uA (λg=>g.ts.getD J.toNat 0+1) dU (by change _<((g.ts.length:Nat):Int);omega) λH6 W6 t6 p6=>?_;rw[AgU (h:=λg=>{ g with hs:=g.hs.set J.toNat (.str ln.num) }) λ_=>rfl]at t6;have t6:=t6.at (i:=i) (ln:=Al ln) h2;obtain⟨as,ta,pr⟩:=As<|t6.ax (i:=i) (Hk (y:=Al ln) h2);left;refine⟨.inl ⟨rfl,_,.of ta⟩,?_⟩;left;refine⟨Ao,λu H7 n7=>?_⟩;have t7:=t6.same n7.same;have p7:=Ah.of n7.same;show t7.abR h2 (n7.same _ _ ta) (pr.ak p7) (p:=((Al ln).ae,J)) n7.get (by change ln.held.length<=10;omega) λH8 W8 t8 p8=>?_;left;refine⟨Ao,λc H9 n9=>?_⟩;have t9:=(t8.same n9.same).sub<|.cons _ (.refl _);have p9:=Ah.of n9.same;exact q _ _ c t9 (by walk_at "p")<|.tup (.of n9.get) (by walk_at "is")
  .rw[cZ cB,cZ<|by omega]at Y;have cC:((Al ln).ae.length:Int)=S.long:=by omega
   have O:BG B (Al ln).ae=none:=by
    cases O:BG B (Al ln).ae with
    |none=>rfl
    |some g =>
     have:=g1.pz g (EF O).1;rw[(EF O).2]at this;omega
   rw [O];by_cases jQ:(Al ln).ae ∉ B.lns.map (·.num)
   .rw[Y,show CI B i (Al ln) (Al ln).ae=(.tuple [.str "none",.str (Al ln).num,.str (Al ln).ae],Cg B i (Al ln)<|.tuple [.str "none",.str (Al ln).ae]) by simp only[CI,KS jQ]]at q;show I.fld ?_;apply A2 _ _ (.inr (Al ln).ae) rfl rfl (.of<|I.t.vf .way);rw[I.pj,dJ jQ];ext;walk_at "t";refine⟨b,_,B,R,i,Al ln,_,.tuple [.str "none",.str (Al ln).ae],rfl,‹_›,g1,h2,iM,(by walk_at "i"),rfl,λH4 W4 L p4=>?_⟩;ext;walk_at "t";exact q _ _ _ ‹_› (by walk_at "p")<|by walk_at "i"
   .have min:=Yd jQ;obtain⟨j,lc,hc,en⟩:=Bv<|g1.at min;have ej:Bd B.lns (Al ln).ae=j:=by rw[<-en];exact KQ g1.num hc
    show I.fld ?_;apply A2 _ _ (.inr (Al ln).ae) rfl rfl (.of<|I.t.vf .way);rw[I.pj,c8 min];show T2 (EO _ rfl (by rw[TZ];omega) ?_);show I.lh ?_;rw[lo1];show DX (dJ (show ¬((Al ln).ae.length:Int)<S.long by omega)) ?_;show I.fld ?_;show I.jN hc ?_ en;ext;by_cases cr:lc.st="rests"
    .have pN:j≠i:=λe=>by
      rw [e,h2]at hc;rw[<-Us hc]at cr;exact Bu.ne (u:=.rests) (ln:=Al ln) ev (λe=>nomatch e) cr
     rw [Y,show CI B i (Al ln) (Al ln).ae=(.tuple [.str "rings",.str (Al ln).num,.str (Al ln).ae],{ B with lns:=(B.lns.set i { Al ln with st:="rings",ao:=some (Al ln).ae }).set j { lc with st:="rung",ao:=some (Al ln).num } }) by simp only[CI,ej,hc,br cr];rw[en],<-Ym _ _ pN]at q;rw[show decide (V.str lc.st=V.str (TU "rests"))=true from c8<|congrArg V.str cr];apply BN;have t3:=I.at hc;show t3.fld ?_;show t3.sF hc (λH4 W4 L p4=>?_) (ez:=en);show L.fld ?_;show L.sF hc (λH5 W5 t5 p5=>?_) (ez:=en);have t6:=t5.at (i:=i) (ln:=Al ln)<|D4 h2 pN;have h6:(B.aQ j { lc with st:="rung",ao:=some (Al ln).num }).lns[i]?=some (Al ln):=D4 h2 pN;show t6.fld ?_;show t6.sF h6 (λH7 W7 t7 p7=>?_);show t7.fld ?_;show t7.sF h6 (λH8 W8 t8 p8=>?_);show⟨Ao,λc H9 n9=>?_⟩;have p9:=Ah.of n9.same;exact q _ _ c (t8.same n9.same) (by walk_at "p")<|.tup (.of n9.get) (by walk_at "is")
    .rw[Y,show CI B i (Al ln) (Al ln).ae=(.tuple [.str "busy",.str (Al ln).num,.tuple [.str "line",.str (Al ln).ae,.str lc.st]],Cg B i (Al ln)<|.tuple [.str "line",.str (Al ln).ae,.str lc.st]) by simp only[CI,ej,hc,cZ cr]]at q;rw[show decide (V.str lc.st=V.str (TU "rests"))=false from dJ λe=>cr<|V.str.inj e];apply B6;show I.fld ?_;show I.jN hc ?_ en;ext;walk_at "t";have iw:Is K _ _ (.tuple [.str "line",.str (Al ln).ae,.str lc.st]):=.tup (.of ‹_=some (HO.tup _)›) (by walk_at "is");show Fp b _ B R i (Al ln) _ _ rfl ⟨‹_›,g1,h2,iM,iw,rfl,λH4 W4 L p4=>?_⟩;ext;walk_at "t";exact q _ _ _ ‹_› (by walk_at "p")<|by walk_at "i"
def SV{α:Type}{l:List α}{i j:Nat}{x:α}:(l.set i x).set j x=(l.set j x).set i x:=by
 by_cases e:i=j
 .rw[e]
 .exact Ym x x e
def Ag2(S:PS)(w u:bf)(k n:Int):aE (aE S w k) u n=aE (aE S u n) w k:=by
 unfold aE;by_cases a:w=TU ""
 .by_cases b:u=TU ""
  .rw[br a,br b,br a,br b];dsimp only;rw[SV]
  .rw[br a,cZ b,br a,cZ b]
 .by_cases b:u=TU ""
  .rw[cZ a,br b,cZ a,br b]
  .rw[cZ a,cZ b,cZ a,cZ b];dsimp only;rw[Uq,Uq];refine congrArg (λx=>({ S with az:=x }:PS))<|Vr λg _=>?_;change(if (if g.pre=w then { g with hs:=g.hs.set k.toNat .aa } else g).pre=u then _ else _)=(if (if g.pre=u then { g with hs:=g.hs.set n.toNat .aa } else g).pre=w then _ else _);by_cases c:g.pre=w
   .by_cases d:g.pre=u
    .simp only[c,if_true];rw[c]at d;simp only[d,if_true];rw[SV]
    .have B:¬w=u:=λe=>d<|c.trans e;simp only[c,if_true,B,if_false]
   .by_cases d:g.pre=u
    .have D:¬u=w:=λe=>c<|d.trans e;simp only[d,if_true,D,if_false]
    .simp only[c,d,if_false]
theorem SW(w:bf)(k:Int):∀(ts:List (bf×Int))(S:PS),au (aE S w k) ts=aE (au S ts) w k
 |[],_=>rfl
 |t::ts,S=>by
  change au (aE (aE S w k) t.1 t.2) ts=aE (au (aE S t.1 t.2) ts) w k;rw[Ag2,SW]
theorem SY(us:List (bf×Int)):∀(ts:List (bf×Int))(S:PS),au (au S ts) us=au (au S us) ts
 |[],_=>rfl
 |t::ts,S=>by
  change au (au (aE S t.1 t.2) ts) us=au (aE (au S us) t.1 t.2) ts;rw[SY us ts,SW]
theorem Lh:∀(ts:List (bf×Int))(S:PS)(l:List Ln)(q:List bf),au { S with lns:=l,q:=q } ts={ au S ts with lns:=l,q:=q }
 |[],_,_,_=>rfl
 |t::ts,S,l,q=>by
  have e:aE { S with lns:=l,q:=q } t.1 t.2={ aE S t.1 t.2 with lns:=l,q:=q }:=by unfold aE;split<;>rfl
  change au (aE { S with lns:=l,q:=q } t.1 t.2) ts=_;rw[e,Lh ts];rfl
def Ag3 (n:j≠i)(I:S.lns[j]?=some lo):bp (BF S j lo).2 i ln =
  if lo.st="talks" then { Cy (bp S i ln) j lo with lns:=(bp S i ln).lns.set j { AX lo "waits" with held:=[] },q:=S.q++[lo.num] } else { Cy (bp S i ln) j lo with lns:=(bp S i ln).lns.set j { AX lo "rests" with held:=[] } }:=by
 have B:au (bp S i ln) lo.held={ au (au S lo.held) ln.held with lns:=(bp S i ln).lns,q:=(au S ln.held).q }:=by have:bp S i ln={ au S ln.held with lns:=(bp S i ln).lns,q:=(au S ln.held).q }:=rfl;rw[this,Lh,SY]
 unfold BF;split
 .show ({ au { au S lo.held with lns:=(S.lns.set j { lo with held:=[] }).set j<|AX { lo with held:=[] } "waits",q:=(au S lo.held).q++[lo.num] } ln.held with lns:=((S.lns.set j { lo with held:=[] }).set j<|AX { lo with held:=[] } "waits").set i (AX { ln with held:=[] } "rests") }:PS)={ au (bp S i ln) lo.held with lns:=(S.lns.set i<|AX { ln with held:=[] } "rests").set j { AX lo "waits" with held:=[] },q:=S.q++[lo.num] };rw[B,Lh,Fb,U9,Ym _ _ n];rfl
 .show ({ au { au S lo.held with lns:=S.lns.set j (AX { lo with held:=[] } "rests") } ln.held with lns:=(S.lns.set j<|AX { lo with held:=[] } "rests").set i (AX { ln with held:=[] } "rests") }:PS)={ au (bp S i ln) lo.held with lns:=(S.lns.set i<|AX { ln with held:=[] } "rests").set j { AX lo "rests" with held:=[] } };have D:au { au S lo.held with lns:=S.lns.set j (AX { lo with held:=[] } "rests") } ln.held={ au (au S lo.held) ln.held with lns:=S.lns.set j<|AX { lo with held:=[] } "rests",q:=(au S lo.held).q }:=Lh _ (au S lo.held) _ _;rw[B,D,Fb,Fb,Ym _ _ n];rfl
def NO:(Cy S i ln).aQ i y={ au S ln.held with lns:=S.lns.set i y }:=by change({ au S ln.held with lns:=(S.lns.set i _).set i y }:PS)=_;rw[U9]
def NP(K:TH):Sp:=λvs H Q _=>∃(b:ar)(W:VW)(S:PS)(R:Ax)(i:Nat)(ln:Ln),vs=[.ref b,.str ln.num]/\WD K b H W S R/\WF S/\S.lns[i]?=some ln/\ln.st∈LW.bB.b7 /\
 ∀H' W' r xs,WD K b H' W' (Dt S i ln).2 ((r,.lst (xs.map V.ref))::R)->Ah H H'->BW K H' xs (Dt S i ln).1->Q (.ref r) H'
def B8:AM ["world","line","other"] ["world","line"] (Ae<|top 52):=.of
def NQ:Gm (Ae<|top 52) "_law_begin":=.of
def S3:Gm (Ae<|top 52) "_law_freed":=.of
def Ag4(F:AI K "_law_hang" "_law_hang" (top 52) f fd)(gA:Bt P w K mg base Au 1 "_law_freed" ["world","line"] (NB K))(fL:Bt P w K mg base Au 1 "_law_begin" ["world","line","way"] λvs H Q E=>NA vs H Q E\/Nz K vs H Q E):AB P w K mg base Au 2 f fd ["world","line"] (NP K):=by
 refine F.ok B8.fs λaj A outer s H vs Q E Y h=>?_
 .obtain ⟨b,W,S,R,i,ln,rfl,t,B,h,hw,q⟩:=h;have hu:=Y.units;have nd:=B8.fs.nd;have L:=B.l i ln h;obtain⟨_,ok⟩:=B.bB h hw;obtain⟨g1,nq1,_⟩:=AU<|B.aB h;have aH:ln.num∈S.q↔ln.st="waits":=⟨λm=>(L.jJ m).1,λe=>ok.w e⟩;refine⟨_,(@Af _ _ _ _ _ (A4 2 B8<|Ap P w K (Ap P w K (Aa 0 B8) Ag) (Aa 1 B8))
    (Af (AR (AL Gp (Aa 1 B8) (Ap P w K (Aa 0 B8) Ag)<|by with_unfolding_all rfl) (Ak<|A5 (Cr UZ yf yg Qa (Ap P w K (Aa 0 B8) Ag)<|Ab (Aa 1 B8) Ac)) AV)
    (Af (A5<|Bf gA S3 Y.d AN (Ab (Aa 0 B8)<|Ab (Aa 1 B8) Ac))
    (Af (A5<|Bf fL NQ Y.d AN (Ab (Aa 0 B8)<|Ab (Aa 1 B8) (Ab Ag Ac)))
    (Af (AR (AL Gh (Aa 2 B8) Cq<|AW _) (Ak<|AD (Bb<|Ab (Bm<|Ab Ag (Ab (Aa 1 B8) Ac)) Ac)) AV)
    (Af (A5<|Bf gA S3 Y.d AN (Ab (Aa 0 B8)<|Ab (Aa 2 B8) Ac))
    (Af (AR (AL (B2 hu) (Ap P w K (Ap P w K (Aa 0 B8) Ag)<|Aa 2 B8) Ag<|AW _) (Af (A5<|Bf fL NQ Y.d AN (Ab (Aa 0 B8)<|Ab (Aa 2 B8) (Ab Ag Ac)))
     (Ak<|AD (Bb<|Ab (Bm<|Ab Ag (Ab (Aa 1 B8) Ac)) (Ab (Bm<|Ab Ag (Ab (Aa 2 B8) Ac)) Ac)))) AV)
    (Af (A5<|Bf fL NQ Y.d AN (Ab (Aa 0 B8)<|Ab (Aa 2 B8) (Ab Ag Ac)))
    (Af (A5<|Cr UZ Vf Vg C9 (Ap P w K (Aa 0 B8) Ag) (Ab (Aa 2 B8) Ac))
    (Ak<|AD (Bb<|Ab (Bm<|Ab Ag (Ab (Aa 1 B8) Ac)) (Ab (Bm<|Ab Ag (Ab (Aa 2 B8) Ac)) Ac)))))))))))),?_⟩
  try dsimp only[av,aw]
  left;rename_i C hC
  have mid:∀(H1:Hp)(W1:VW),WD K b H1 W1 (aB S ln) R->Ah H H1->C [some<|.ref b,some<|.str ln.num,some<|DI ln.ao] H1:=by
   intro H1 W1 t1 p1;apply hC.use;have h1:(aB S ln).lns[i]?=some ln:=by rwa[JD]
   ext;dsimp only[BP];refine Fo b W1 _ R i ln rfl ⟨t1,g1,h1,GF L.nd λp m=>⟨_,(Np p).trans<|L.ow p m,F4⟩,λH2 W2 t2 p2=>?_⟩;ext;dsimp only[BP];refine TY<|ES b W2 _ R i { ln with held:=[] } ("rests") rfl ⟨t2,B3 h1,λH3 W3 t3 p3=>?_⟩;rw[NO]at t3;have t3:WD K b H3 W3 (bp (aB S ln) i ln) R:=t3;cases hf:ln.ao with
   |none =>
    rw [show Dt S i ln=([.tuple [.str "rests",.str ln.num]],bp (aB S ln) i ln) by unfold Dt;simp only[CC,hf]]at q;show⟨Ao,λc H4 n4=>?_⟩;refine⟨Ao,λr H5 n5=>?_⟩;have p5:=Ah.of<|n4.same.trans n5.same;exact q _ W3 r [c] ((t3.same n4.same).new n5) (by walk_at "p")<|.one (.tup (.of<|n5.same _ _ n4.get)<|by walk_at "is") rfl
   |some z =>
    obtain⟨j,lo,J,rfl,nj,_⟩:=BA<|ok.f z hf;have uB:aB S ln=S:=cZ λe=>by
     have:=(L.way (w:=.cb) e).2.1;rw[hf]at this;cases this
    rw [uB]at t3;have uC:(bp S i ln).lns[j]?=some lo:=D4 J nj.symm;rw[show Dt S i ln=(.tuple [.str "rests",.str ln.num]::[(BF S j lo).1],bp (BF S j lo).2 i ln) by unfold Dt;rw[uB];simp only[CC,hf,JC B J,J],Ag3 nj J]at q;have Lo:=B.l j lo J;rw[show DI (some lo.num)=V.str lo.num from rfl];ext;dsimp only[BP];refine Fo b W3 _ R j lo rfl ⟨t3,B.g.bp h,uC,GF Lo.nd λp m=>⟨_,(Ia L.ge<|B.apart h J nj m).trans<|Lo.ow p m,F4⟩,λH4 W4 t4 p4=>?_⟩;have h4:(Cy (bp S i ln) j lo).lns[j]?=some { lo with held:=[] }:=B3 uC;have lst:lo.st="rung"\/lo.st="talks":=by
     obtain⟨v,ev,y⟩:=As L.wy;have key:∀o,Hi S i ln o->lo.st=o.s:=λo ⟨k,lm,hk,_,f1,_,f3⟩=>by
      rw [hf]at f1;obtain⟨_,rfl⟩:=B.g.one hk J (Us f1).symm;exact f3
     cases v with
     |rests=>rw[y.2.1]at hf;cases hf
     |cb=>rw[y.2.1]at hf;cases hf
     |ba=>rw[y.1]at hf;cases hf
     |told=>rw[y.2.1]at hf;cases hf
     |rings=>exact .inl<|key _ y.2
     |cD=>exact absurd hw<|by rw[ev];decide +kernel
     |dm=>exact .inr<|key _ y.2
    left;rcases lst with ls|ls
    .have nt:lo.st≠"talks":=by rw[ls];decide +kernel
     rw [cZ nt,show(BF S j lo).1=.tuple [.str "quiet",.str lo.num] by unfold BF;rw[cZ nt]]at q;apply DS (c8<|congrArg V.str ls);ext;dsimp only[BP];refine TY<|ES b W4 _ R j { lo with held:=[] } ("rests") rfl ⟨t4,h4,λH5 W5 t5 p5=>?_⟩;rw[NO]at t5;show⟨Ao,λc H6 O=>?_⟩;show⟨Ao,λe H7 D=>?_⟩;refine⟨Ao,λr H8 I=>?_⟩;have p8:=Ah.of<|O.same.trans (D.same.trans I.same);have e6:=(D.same.trans I.same) _ _ O.get;have e7:=I.same _ _ D.get;exact q _ W5 r [c,e] ((t5.same<|O.same.trans D.same).new I) (by walk_at "p") ⟨by walk_at "is",rfl⟩
    .rw[br ls,show(BF S j lo).1=.tuple [.str "waits",.str lo.num] by unfold BF;rw[br ls]]at q;apply DX (dJ λc=>absurd ((V.str.inj c).symm.trans ls)<|by decide +kernel);ext;dsimp only[BP];refine TY<|ES b W4 _ R j { lo with held:=[] } ("waits") rfl ⟨t4,h4,λH5 W5 t5 p5=>?_⟩;rw[NO]at t5;have uD:(au (bp S i ln) lo.held).q=S.q:=(Fb ..).trans<|Fb ..;have eU:=B.g.eU;left;refine⟨.inl ⟨rfl,_,.of t5.q⟩,?_⟩;show t5.ug (by change(au (bp S i ln) lo.held).q.length<_;rw[uD];omega) λuE W5' t6 p6=>?_;show⟨Ao,λc H6 O=>?_⟩;show⟨Ao,λe H7 D=>?_⟩;refine⟨Ao,λr H8 I=>?_⟩;have p8:=Ah.of<|O.same.trans (D.same.trans I.same);have e6:=(D.same.trans I.same) _ _ O.get;have e7:=I.same _ _ D.get;rw[<-uD]at q;exact q _ W5' r [c,e] ((t6.same<|O.same.trans D.same).new I) (by walk_at "p") ⟨by walk_at "is",rfl⟩
  refine TY<|Ee _ _ rfl (.inl<|.of t.q) rfl (SG _) ?_;rw[KZ];by_cases m:ln.num∈S.q
  .rw[c8 m];left;refine⟨.inl ⟨rfl,_,.of t.q⟩,?_⟩;show TY (CS _ S.q ln.num rfl rfl t.q m ?_);obtain⟨t1,p1⟩:=t.wQ<|S.q.erase ln.num;exact mid _ _ (by unfold aB;rwa[br<|aH.mp m]) p1
  .rw[dJ m];exact⟨_,rfl,BN<|mid H W (by unfold aB;rwa[cZ λe=>m<|aH.mpr e]) .refl⟩
def S4(K:TH):Sp:=λvs H Q _=>∃(b:ar)(W:VW)(S:PS)(R:Ax)(d:LW)(z:bf),vs=[.ref b,.str d.wo,.str z]/\WD K b H W S R/\WF S /\
 match S.lns[Bd S.lns z]? with
 |none=>Q (.str "NoLine") H
 |some ln=>(d.fits ln=false->∀H',Aj H H'->Q (.str "NotSo") H')/\(d.fits ln=true->∀H' W' r xs,WD K b H' W' (d.go S (Bd S.lns z) ln).2 ((r,.lst (xs.map V.ref))::R)->Ah H H'->BW K H' xs (d.go S (Bd S.lns z) ln).1->Q (.ref r) H')
def Ag5 (z:Zr ln)(f:ln.ao=none)(st:bf):AX ln st={ ln with st:=st }:=by obtain⟨a,b,c,d,e,g,h⟩:=ln;obtain⟨B,D,I⟩:=AU z;cases B;cases D;cases I;cases f;rfl
def Li{d:LW}{ln:Ln}{v:Bu}(e:ln.st=v.s)(n:v.s ∉ d.b7):d.fits ln=false:=by unfold LW.fits;rw[e,dJ n];rfl
def Lj{d:LW}{ln:Ln}{v:Bu}(e:ln.st=v.s)(m:v.s∈d.b7)(g:d≠.gap):d.fits ln=true:=by
 unfold LW.fits;rw[e,c8 m];cases d with
 |gap=>exact absurd rfl g
 |_=>rfl
section
variable {K:TH}{b:ar}{H:Hp}{W:VW}{S:PS}{R:Ax}{i:Nat}{ln l0:Ln}{D:Hp->Prop}
def WD.abW(t:WD K b H W S R)(h:S.lns[i]?=some ln):Gx H (W.fa .ag) (.str ln.num) (some<|.int ln.ag):=by have z:=Gx.k (k:=.inr ln.num)<|t.t.vf .ag;rwa[FD<|t.ok.inf h .ag,(t.ok.l i ln h).f .ag λe=>nomatch e]at z
def WD.abX (t:WD K b H W (S.aQ i ln) R)(h:S.lns[i]?=some l0)(c:∀I J,WD K b I J (S.aQ i { ln with ag:=n }) R->Ah H I->D I):∃B,Ef H (W.fa .ag) (.str ln.num) (.int n) B/\D B:=by obtain⟨_,B,e,p,q⟩:=BA<|t.sF (d:=.ag) (v:=.int n) h c;cases e;exact⟨B,p,q⟩
end
def Bi:AM ["world","word","line","way","other"] ["world","word","line"] (Ae<|top 53):=.of
def Ag6:Gm (Ae<|top 53) "_law_gap":=.of
def Ag7:Gm (Ae<|top 53) "_law_ended":=.of
def Ag8:Gm (Ae<|top 53) "_law_hang":=.of
def Ag9(F:AI K "_law_at_line" "_law_at_line" (top 53) f fd)(pO:Bt P w K mg base Au 2 "_law_hang" ["world","line"] (NP K))(fK:Bt P w K mg base Au 2 "_law_ended" ["world","line","why"] (ND K))(pP:Bt P w K mg base Au 3 "_law_gap" ["world","line"] (SR K)):AB P w K mg base Au 4 f fd ["world","word","line"] (S4 K):=by
 refine F.ok Bi.fs λaj A outer s H vs Q E hr h=>?_
 .obtain ⟨b,W,S,R,d,z,rfl,t,J,q⟩:=h;have hu:=hr.units;have nd:=Bi.fs.nd;refine⟨_,(@Af _ _ _ _ _ (A4 3 Bi<|Ac3 (UE (UJ (by decide) _) hu) (Ap P w K (Aa 0 Bi) Ag) (Aa 2 Bi) Ag ⟨rfl,rfl,rfl,rfl⟩)
    (Af (AR (AL (B2 hu) (Aa 3 Bi) Ag<|AW _) (Ak<|AD Ag) AV)
    (Af (AR (PW.pt<|Ea (AL (B2 hu) (Aa 1 Bi) Ag<|AW _) (Ep<|AL (B2 hu) (Aa 3 Bi) Ag (AW _))) (Af (A4 4 Bi<|Ap P w K (Ap P w K (Aa 0 Bi) Ag) (Aa 2 Bi))
     (Af (Ca (UE (UJ (by decide) _) hu) (Ap P w K (Aa 0 Bi) Ag) (Aa 2 Bi) Ag rfl)
     (Af (Ca (UE (UJ (by decide) _) hu) (Ap P w K (Aa 0 Bi) Ag) (Aa 4 Bi) Ag rfl)
     (Ak<|AD (Bb<|Ab (Bm<|Ab Ag (Ab (Aa 4 Bi)<|Ab (Aa 2 Bi) Ac)) Ac))))) AV)
    (Af (AR (PW.pt<|Ea (AL (B2 hu) (Aa 1 Bi) Ag<|AW _) (Ep<|AL (B2 hu) (Aa 3 Bi) Ag (AW _))) (Af (Ca (UE (UJ (by decide) _) hu) (Ap P w K (Aa 0 Bi) Ag) (Aa 2 Bi) Ag rfl)
     (Af (A5<|Cr UZ Vf Vg C9 (Ap P w K (Aa 0 Bi) Ag) (Ab (Aa 2 Bi) Ac))
     (Ak<|AD (Bb<|Ab (Bm<|Ab Ag (Ab (Aa 2 Bi) Ac)) Ac)))) AV)
    (Af (AR (PW.pt<|Ea (AL (B2 hu) (Aa 1 Bi) Ag<|AW _) (Ep<|AL Kb (Aa 3 Bi) (Bm<|Ab Ag (Ab Ag Ac)) (by with_unfolding_all rfl))) (Ak<|AD (Bf pO Ag8 hr.d AN<|Ab (Aa 0 Bi) (Ab (Aa 2 Bi) Ac))) AV)
    (Af (AR (PW.pt<|Ea (AL (B2 hu) (Aa 1 Bi) Ag<|AW _) (Ep<|AL (B2 hu) (Aa 3 Bi) Ag (AW _))) (Af (AcU (UE (UJ (by decide) _) hu) (Ap P w K (Aa 0 Bi) Ag) (Aa 2 Bi) Am O4<|by intros;rfl)
     (Af (AR (AL FL (Ap P w K (Ap P w K (Aa 0 Bi) Ag)<|Aa 2 Bi) Am<|AW _) (Ak<|AD (Bb Ac)) AV)
     (Af (A5<|Bf fK Ag7 hr.d AN (Ab (Aa 0 Bi)<|Ab (Aa 2 Bi) (Ab (Bm<|Ab Ag (Ab (Ap P w K (Ap P w K (Aa 0 Bi) Ag)<|Aa 2 Bi) Ac)) Ac)))
     (Ak<|AD (Bb<|Ab (Bm<|Ab Ag (Ab (Aa 2 Bi)<|Ab (Ap P w K (Ap P w K (Aa 0 Bi) Ag)<|Aa 2 Bi) Ac)) Ac))))) AV)
    (Af (AR (PW.pt<|Ea (AL (B2 hu) (Aa 1 Bi) Ag<|AW _) (Ea (AL (B2 hu) (Aa 3 Bi) Ag<|AW _)<|Ep (AL LH (Ap P w K (Ap P w K (Aa 0 Bi) Ag)<|Aa 2 Bi) Am<|AW _))) (Ak<|AD (Bb<|Ab (Bf pP Ag6 hr.d AN<|Ab (Aa 0 Bi) (Ab (Aa 2 Bi) Ac)) Ac)) AV)
    (Ak<|AD Ag)))))))),?_⟩
  try dsimp only[av,aw]
  have bb:start ["world","word","line","way","other"] [V.ref b,V.str d.wo,V.str z]=[some<|.ref b,some<|.str d.wo,some<|.str z,none,none]:=rfl;simp only[bb,VE,VF];left;refine⟨.inl ⟨_,.inl<|t.t.vf .way⟩,?_⟩;show⟨_,.k (k:=.inr z)<|t.t.vf .way,?_⟩;by_cases m:z∈S.lns.map (·.num)
  .obtain ⟨i,ln,h,rfl⟩:=J.g.at m;rw[JC J h,h]at q;obtain⟨qn,qy⟩:=q;rw[FD<|t.ok.inf h .way,(t.ok.l i ln h).f .way λe=>nomatch e];obtain⟨v,B,y⟩:=As<|(J.l i ln h).wy;have Y:=t.at h;rw[show ln.vv .way=.str v.s from congrArg V.str B];cases d with
   |lift =>
    cases v with
    |rests =>
     obtain⟨y1,y2,y3,y4⟩:=AU y;have q:=qy<|Lj B (by decide +kernel) λc=>nomatch c;rw[show LW.go .lift S i ln=([.tuple [.str "waits",.str ln.num]],Fz S i ln) by change([(CB S i ln).1],(CB S i ln).2)=_;rw[show CB S i ln=_ from br B],show Fz S i ln={ S with lns:=S.lns.set i { ln with st:="waits" },q:=S.q++[ln.num] } by unfold Fz;rw[Ag5 y4 y2]]at q;have eU:=J.g.eU;show Y.fld ?_;show Y.sF h λL W1 D p1=>?_;left;refine⟨.inl ⟨rfl,_,.of D.q⟩,?_⟩;show D.ug (by change S.q.length<_;omega) λH2 W2 t2 p2=>?_;show⟨Ao,λc H3 O=>?_⟩;refine⟨Ao,λr H4 I=>?_⟩;have p4:=Ah.of<|O.same.trans I.same;exact q _ W2 r [c] ((t2.same O.same).new I) (by walk_at "p")<|.one (.tup (.of<|I.same _ _ O.get)<|by walk_at "is") rfl
    |cD =>
     obtain⟨y1,y2,j,lo,hj,nj,f1,f2,f3⟩:=AU y;have q:=qy<|Lj B (by decide +kernel) λc=>nomatch c;have ej:=JC J hj;rw[show LW.go .lift S i ln=([.tuple [.str "talks",.str lo.num,.str ln.num]],{ S with lns:=(S.lns.set i { ln with st:="talks" }).set j { lo with st:="talks" } }) by change([(CB S i ln).1],(CB S i ln).2)=_;rw[Sl (Bu.ne (u:=.rests) B λc=>nomatch c) f1 (by rwa[ej]),ej,Ym _ _ nj]]at q;show t.fld ?_;show t.pw h ?_;rw[f1];show Y.fld ?_;show Y.sF h λL W1 D p1=>?_;have uF:(S.aQ i<|ln.put .way (.str "talks")).lns[j]?=some lo:=D4 hj nj.symm;have D:=D.at uF;show D.fld ?_;show D.sF uF (λH2 W2 t2 p2=>?_);show⟨Ao,λc H3 O=>?_⟩;refine⟨Ao,λr H4 I=>?_⟩;have p4:=Ah.of<|O.same.trans I.same;exact q _ W2 r [c] ((t2.same O.same).new I) (by walk_at "p")<|.one (.tup (.of<|I.same _ _ O.get)<|by walk_at "is") rfl
    |_ =>
     ext;exact qn (Li B<|by decide +kernel) H<|Aj.refl H
   |cg =>
    cases v with
    |ba =>
     obtain⟨y1,y2,⟨y3,y4⟩,y5,y6⟩:=AU y;have q:=qy<|Lj B (by decide +kernel) (λc=>nomatch c);obtain⟨_,iM⟩:=J.cg h B;show Y.fld ?_;show  ⟨_,_,rfl,t.abW h,?_⟩;show Y.abX h λL W1 D p1=>?_;have h1:=Hk (y:={ ln with ag:=ln.ag+1 }) h;show D.fld ?_;show D.pv h1 ?_;ext;by_cases c:ln.ag+1<11
     .rw[show LW.go .cg S i ln=([],{ S with lns:=S.lns.set i { ln with ag:=ln.ag+1 } })from br<|by omega]at q;apply DS (c8 c);show⟨Ao,λr H2 n2=>?_⟩;exact q _ _ r [] (D.new n2) (p1.trans<|.of n2.same) .nil
     .rw[show LW.go .cg S i ln=([.tuple [.str "over",.str ln.num,.str ln.ae]],Cg { S with lns:=S.lns.set i { ln with ag:=ln.ag+1 } } i { ln with ag:=ln.ag+1 }<|.tuple [.str "over",.str ln.ae])from cZ<|by omega]at q;apply DX (dJ c);show D.fld ?_;show D.pq h1 ?_;ext;walk_at "t";dsimp only[BP];refine⟨b,W1,_,R,i,{ ln with ag:=ln.ag+1 },_,.tuple [.str "over",.str ln.ae],rfl,‹_›,J.g.lns<|C5 (y:={ ln with ag:=ln.ag+1 }) h rfl,h1,iM,(by walk_at "i"),rfl,λH3 W3 t3 p3=>?_⟩;show t3.fld ?_;show t3.pq (B3 h1) ?_;show⟨Ao,λc H4 I=>?_⟩;refine⟨Ao,λr H5 n5=>?_⟩;have p5:=Ah.of<|I.same.trans n5.same;exact q _ W3 r [c] ((t3.same I.same).new n5) (by walk_at "p")<|.one (.tup (.of<|n5.same _ _ I.get)<|by walk_at "is") rfl
    |_ =>
     ext;exact qn (Li B<|by decide +kernel) H<|Aj.refl H
   |gap =>
    cases v with
    |ba =>
     obtain⟨y1,y2,⟨y3,y4⟩,y5,y6⟩:=AU y;show t.fld ?_;show t.pv h ?_;ext;by_cases c:ln.ag=0
     .rw[dJ<|by rw[c];decide];apply BN;ext;exact qn (by unfold LW.fits;dsimp only;rw[show decide (ln.ag≠0)=false from dJ λn=>n c,Bool.and_false]) H<|Aj.refl H
     .have q:=qy (by unfold LW.fits;rw[B,c8<|by decide +kernel];dsimp only;rw[c8 c];rfl);apply DS (c8<|show(0:Int)<ln.ag by omega);ext;dsimp only[BP];refine Fo b W S R i ln rfl ⟨t,J,h,B,c,λL W1 c D p1 ib=>?_⟩;refine⟨Ao,λr H2 n2=>?_⟩;have p2:=Ah.of n2.same;exact q _ W1 r [c] (D.new n2) (p1.trans p2)<|.one (Is.ak _ Na ib p2) Na
    |_ =>
     ext;exact qn (Li B<|by decide +kernel) H<|Aj.refl H
   |bB =>
    have tail:∀(L:Hp),Aj H L->v.s∈LW.bB.b7->NP K [.ref b,.str ln.num] L Q E0:=λL s1 m=>⟨b,W,S,R,i,ln,rfl,t.same s1,J,h,by rwa[B],λH2 W2 r xs t2 p2 td=>qy (Lj B m λc=>nomatch c) H2 W2 r xs t2 ((Ah.of s1).trans p2) td⟩;cases v with
    |rests|cD =>
     show⟨Ao,λu L n1=>?_⟩;refine TY<|Ee u _ rfl (.inr<|.of n1.get) rfl rfl ?_;ext;exact qn (Li B<|by decide +kernel) _ n1.same
    |_ =>
     show⟨Ao,λu L n1=>?_⟩;refine TY<|Ee u _ rfl (.inr<|.of n1.get) rfl rfl ?_;ext;dsimp only[BP];exact tail _ n1.same<|by decide +kernel
  .rw[KS m]at q;rw[JF λc=>m<|(t.ok.zs z).mp (by rwa[<-t.ok.kf .way])];ext;exact q
noncomputable def Er.nm:Er->bf
 |.bN=>"NoLine" |.bO=>"NoSwitch" |.cj=>"NotSo"
def S5(K:TH):Sp:=λvs H Q _=>∃(b:ar)(W:VW)(S:PS)(R:Ax)(d:Bg)(dd:ar),vs=[.ref b,.ref dd]/\WD K b H W S R/\WF S/\H dd=some (.tup d.vals)/\S.dn.length<1000000 /\
 match d.res S with
 |.inl e=>∀H',Aj H H'->Q (.str e.nm) H'
 |.inr r=>∀H' W' p xs,WD K b H' W' (Cv (Dl r.2 dd)).2 ((p,.lst (xs.map V.ref))::R)->Ah H H'->BW K H' xs (r.1++(Cv (Dl r.2 dd)).1)->Q (.ref p) H'
def S6:Cz S z=(AQ S z).map (·.1):=by
 unfold Cz AQ;split
 .rfl
 .cases BG S z<;>rfl
def Aha{S:PS}{b:Bool}{w:bf}{k:Int}{r:List V×List Bool×List Int}(B:AQ S w=some r):AQ (Co S b w k) w=some (r.1,r.2.1.set k.toNat b,r.2.2)/\∀u,u≠w->AQ (Co S b w k) u=AQ S u:=by
 unfold AQ at B ⊢;unfold Co;by_cases c:w=TU ""
 .rw[br c]at B;cases B;refine⟨by rw[br c,br c],λu n=>?_⟩;rw[br c,cZ λd=>n<|d.trans c.symm,cZ λd=>n<|d.trans c.symm];rfl
 .rw[cZ c]at B;obtain⟨g,D,rfl⟩:=As<|UG.mp B;refine⟨?_,λu n=>?_⟩
  .rw[cZ c,cZ c,FA (h:=λg=>{ g with js:=g.js.set k.toNat b }) λ_=>rfl,D];simp only[Vj,if_true]
  .rw[cZ c,FA (h:=λg=>{ g with js:=g.js.set k.toNat b }) λ_=>rfl];by_cases d:u=TU ""
   .rw[br d,br d]
   .rw[cZ d,cZ d];cases BG S u with
    |none=>rfl
    |some g=>rw[Vj,cZ n]
def Ahb(S:PS)(b:Bool)(w:bf)(k:Int):(Co S b w k).sk.mark=S.sk.mark/\(Co S b w k).sk.st=S.sk.st/\(Co S b w k).sk.wt=S.sk.wt:=by unfold Co;split<;>exact⟨rfl,rfl,rfl⟩
def WD.bh{b:ar}{H:Hp}{W:VW}{S:PS}{R:Ax}{D:Hp->Prop}{u:bf}{k:Int}{r:List V×List Bool×List Int}(t:WD K b H W S R)(g:WG S)(I:AQ S u=some r)(x:Bool)(k0:0<=k)(k1:k<r.1.length)(c:∀B J,WD K b B J (Co S x u k) R->Ah H B->D B):∃p xs i j,V.ref (W.la .aR u)=.ref p/\V.int k=.int i/\H p=some (.lst xs)/\CP xs.length i=some j/\D (upd H p<|.lst (xs.set j<|.bl x)):=by obtain⟨O,L,Y⟩:=AU<|t.ok.r u r I;obtain⟨r1,r2⟩:=Aha (b:=x) (k:=k) I;obtain⟨j1,j2,j3,j4⟩:=AU<|Ic (S:=S) (b:=x) (z:=u) (k:=k);obtain⟨j5,j6,j7⟩:=AU<|Ahb S x u k;exact t.iD I (by decide) k0 (by rwa[L,TN,(Lb g I).1]) r1 ⟨j1,j2,j4,j3⟩ ⟨j5.symm,j6.symm,j7.symm⟩ r2 ⟨O,by rw[C6,L,U4],Y⟩ λB J t p _=>c B J t p
def CG:AM ["world","deed","told"] ["world","deed"] (Ae<|top 54):=.of
def Ahc:Gm (Ae<|top 54) "_law_tones":=.of
def Ahd:Gm (Ae<|top 54) "isinstance":=.of
def Ahe:Gm (Ae<|top 54) "str":=.of
def Ahf:Gm (Ae<|top 54) "len":=.of
def Ahg:Gm (Ae<|top 54) "_law_at_line":=.of
def Ahh(F:AI K "_law_due" "_law_due" (top 54) f fd)(T:TxtW P w K mg a)(pQ:Bt P w K mg base Au 4 "_law_at_line" ["world","word","line"] (S4 K))(pR:Bt P w K mg base Au 2 "_law_tones" ["world"] (SI K)):AB P w K mg base Au 5 f fd ["world","deed"] (S5 K):=by
 refine F.ok CG.fs λaj A outer s H vs Q E hr h=>?_
 .obtain ⟨b,W,S,R,d,dd,rfl,t,wf,cm,dz,q⟩:=h;have hu:=hr.units;have nd:=CG.fs.nd;refine⟨_,(@Af _ _ _ _ _ (AR (AL Gp (AY AZ (Aa 1 CG) Am λ_ _=>rfl) (Bm<|Ab Ag (Ab Ag Ac))<|by with_unfolding_all rfl) (Af (AR (PW.pt<|JR (AL (GZ (P:=P) (w:=w) (K:=K)) (AY AZ (Aa 1 CG) Am λ_ _=>rfl) (Ap P w K (Aa 0 CG) Ag)<|by with_unfolding_all rfl) (JQ<|Es (AaV IE FL Am (AY AZ (Aa 1 CG) Am λ_ _=>rfl)<|Bc BQ Ahf T.n_len BJ (Ab (Ap P w K (Ap P w K (Aa 0 CG) Ag)<|AY AZ (Aa 1 CG) Am (λ_ _=>rfl)) Ac)))) (Ak<|AD Ag) AV)
     (Af (Et (GN (B2 hu) (AY AZ (Aa 1 CG) Am λ_ _=>rfl) Ag<|AW _)<|Fi (Ap P w K (Ap P w K (Aa 0 CG) Ag)<|AY AZ (Aa 1 CG) Am (λ_ _=>rfl)) (AY AZ (Aa 1 CG) Am λ_ _=>rfl) DP)
     (Ak<|A4 2 CG (Bb Ac)))) (Ak<|A4 2 CG (Bf pQ Ahg hr.d AN<|Ab (Aa 0 CG) (Ab (AY AZ (Aa 1 CG) Am λ_ _=>rfl)<|Ab (AY AZ (Aa 1 CG) Am λ_ _=>rfl) Ac))))
    (Af (AR (Dv<|Bc Gq Ahd T.eJ Gs (Ab (Aa 2 CG)<|Ab (Kd (v:=.ty "str") Ahe T.pM PQ rfl) Ac)) (Ak<|AD (Aa 2 CG)) AV)
    (Af (A5<|Cr UZ Vf Vg C9 (Ap P w K (Aa 0 CG) Ag) (Ab (Aa 1 CG) Ac))
    (Ak<|AD (Av B5 (Aa 2 CG)<|Bf pR Ahc hr.d AN (Ab (Aa 0 CG) Ac)))))),?_⟩
  try dsimp only[av,aw]
  refine Pu λC hC=>?_;have rest:∀(J:List PyData×PS),d.res S=.inr J->∀(B:Hp)(W2:VW)(r:ar)(L:List ar),WD K b B W2 J.2 ((r,.lst<|L.map V.ref)::R)->Ah H B->BW K B L J.1->C [some<|.ref b,some<|.ref dd,some<|.ref r] B:=by intro J er B W2 r L O p2 td;rw[er]at q;obtain⟨bP,pS,tz⟩:=AU<|wf.res er;refine hC.use ?_;show T2 (Dz _ _ _ _ false rfl ⟨.of<|.lst O.vr.hd,rfl,rfl,?_⟩);left;refine⟨.inl ⟨rfl,_,.of O.dn⟩,?_⟩;show O.wDn _ (by rw[TZ,pS];omega) λH3 W3 t3 p3=>?_;ext;dsimp only[BP];refine⟨b,W3,Dl J.2 dd,_,rfl,t3,bP.dn (d:=J.2.dn++[V.ref dd]),λH4 W4 r4 dR t4 p4 iA=>?_⟩;have jI:=td.ak<|p3.trans p4;have f1:=jI.len;have f2:=iA.len;have f3:(Cv<|Dl J.2 dd).1.length<=60:=U1 (Nb _ _) bP.g.eU;show TY (TY<|Bj r r4 _ _ rfl rfl t4.vr.tl.hd t4.vr.hd (by rw[TN,TN,TZ];omega) (λp np=>?_));rw[<-Ui];have t5:=(t4.new (o:=.lst<|(L++dR).map V.ref) ⟨np,rfl⟩).sub (R':=(p,.lst<|(L++dR).map V.ref)::R)<|.cons₂ _ (.cons _<|.cons _ (.refl _));have p5:Ah H4 (upd H4 p<|.lst ((L++dR).map V.ref)):=.new np;exact q _ W4 p (L++dR) t5 (p2.trans<|p3.trans (p4.trans p5))<|(jI.app iA).ak p5
  have I:∀(e:Er),d.res S=.inl e->∀(B:Hp),Aj H B->C [some<|.ref b,some<|.ref dd,some<|.str e.nm] B:=by intro e ee B s2;rw[ee]at q;refine hC.use ?_;show T2 (Dz _ _ _ _ true rfl ⟨.of<|.str _,rfl,rfl,?_⟩);ext;exact q B s2
  clear hC
  show TY (T2<|Bx dd _ _ (.str (match d with|.bh x _ _=>GC x|.line d _=>d.wo)) rfl rfl (.of cm) (by cases d<;>rfl) ?_);show⟨Ao,λu H1 n1=>?_⟩;refine TY<|Ee u _ rfl (.inr<|.of n1.get) rfl rfl ?_;have t1:=t.same n1.same;have Y:=n1.same;have d1:=Y _ _ cm;cases d with
  |bh x z k =>
   rw [show Ec (.str<|GC x) [V.str "stick",V.str "mend"]=true by cases x<;>rfl];have D:Bg.res S (.bh x z k)=.inl .bO->∀B,Aj H B->Q (.str "NoSwitch") B:=λe B s2=>by rw[e]at q;exact q B s2
   clear q
   left;refine A2 _ _ (.inr z) rfl rfl (.of<|t1.t.vk .aC) ?_;rw[t1.uf];cases er:AQ S z with
   |none =>
    ext;exact D (by simp only[Bg.res,S6,er,wU]) H1 Y
   |some r =>
    have iN:Bg.res S (.bh x z k)=if inR k r.1=true then .inr ([],Co S x z k)else .inl .bO:=by simp only[Bg.res,S6,er,Vj]
    left;by_cases k0:0<=k
    .refine DS (c8 k0) ?_;left;refine TY<|A9 _ _ rfl (.inl<|.of (t1.aC er)) ?_;rw[F6];ext;by_cases k1:k<(r.1.length:Int)
     .rw[br<|FU.mpr ⟨k0,k1⟩]at iN;rw[c8 k1];left;refine t1.bh wf.g er _ k0 k1 λB W2 O p2=>?_;rw[show decide (V.str (GC x)=V.str (TU "stick"))=x by cases x<;>decide +kernel]at O;show⟨Ao,λJ H3 n3=>?_⟩;exact rest _ iN _ _ J [] (O.new n3) ((Ah.of Y).trans<|p2.trans (.of n3.same)) .nil
     .rw[cZ λc=>k1 (FU.mp c).2]at iN;rw[dJ k1];ext;exact D iN H1 Y
    .rw[cZ λc=>k0 (FU.mp c).1]at iN;refine DX (dJ k0) ?_;ext;exact D iN H1 Y
  |line d z =>
   rw [show Ec (.str d.wo) [V.str "stick",V.str "mend"]=false by cases d<;>rfl];left;dsimp only[BP];refine Fo b W S R d z rfl ⟨t1,wf,?_⟩;cases el:S.lns[Bd S.lns z]? with
   |none=>exact I .bN (by simp only[Bg.res,el]) H1 Y
   |some ln =>
    refine⟨λhf B s2=>I .cj (by simp only[Bg.res,el];rw[cZ<|by rw[hf];exact UN]) B<|Y.trans s2,λhf B W2 r L O p2 td=>rest (d.go S (Bd S.lns z) ln) (by simp only[Bg.res,el];rw[br hf]) B W2 r L O ((Ah.of Y).trans p2) td⟩
def Er.is:Er->Er->Bool
 |.bN,.bN|.bO,.bO|.cj,.cj=>true
 |_,_=>false
structure ExF(K:TH)(a:An)(e:Er):Prop where
 c:Fq K (e.adr a)
 m:YD K (.ref (e.adr a)) (.ref a.eI)=some true
 k:∀i:Er,Vq K (.ref (e.adr a)) (.ref (i.adr a))=some (i.is e)
 v:Vq K (.ref (e.adr a)) (.type "ValueError")=some true
 o:XC K (.ref (e.adr a)) [.ref a.bK,.ref a.cf,.ref a.cQ,.ref a.cR]=some false
structure Ij(P:TR)(w:TL)(K:TH)(mg:bf->Option af)(a:An):Prop extends TxtW P w K mg a where
 lq:mg "HallError"=some (.ref a.eI)
 lu:mg "NoRow"=some (.ref a.cQ)
 lA:mg "NoText"=some (.ref a.cR)
 uG:mg "ValueError"=none
 uH:mg "zip"=none
 ex:∀e,ExF K a e
def S7(K:TH)(a:An):Sp:=λvs H Q _=>∃(X:HX)(R:Ax)(d:Bg)(dd:ar),vs=[.ref X.h,.ref dd]/\HT K a H X R/\H dd=some (.tup d.vals)/\WF X.S/\d.txt/\X.dn.length<100000 /\
 match d.res X.S with
 |.inl e=>∀H',Aj H H'->Q (.str e.nm) H'
 |.inr r=>∀H' X' p xs,HT K a H' X' ((p,.lst (xs.map V.ref))::R)->X'.h=X.h->X'.S=(Cv (Dl r.2 dd)).2->Ah H H'->BW K H' xs (r.1++(Cv (Dl r.2 dd)).1)->Q (.ref p) H'
def CU:AM ["hall","deed","told","kinds","e","some"] ["hall","deed"] (Ae<|top 55):=.of
def Ahi:Gm (Ae<|top 55) "int":=.of
def Ahj:Gm (Ae<|top 55) "zip":=.of
def Ahk:Gm (Ae<|top 55) "HallError":=.of
def JL:Gm (Ae<|top 55) "isinstance":=.of
def Ahl:Gm (Ae<|top 55) "NoText":=.of
def Ahm:Gm (Ae<|top 55) "NoRow":=.of
def Ahn:Gm (Ae<|top 55) "NoFigure":=.of
def Aho:Gm (Ae<|top 55) "BadPlan":=.of
def Ahp:Gm (Ae<|top 55) "ValueError":=.of
def Ahq:Gm (Ae<|top 55) "NotSo":=.of
def Ahr:Gm (Ae<|top 55) "NoSwitch":=.of
def Ahs:Gm (Ae<|top 55) "NoLine":=.of
def NR:Scope:={ kind:=.function,names:=[(".0",.local),("name",.local),("is_it",.local)],isGenerator:=false,isCoroutine:=false,more:=[] }
def NS:BK NR (Ae<|top 55) ["name","is_it"] ["hall","deed","told","kinds","e","some"] [none,none]:=BK.mk' rfl (by decide +kernel) (by decide +kernel) (by decide +kernel) (by decide +kernel) rfl<|by decide +kernel
def S8:Nm NR "name":=.of
def S9:Nm NR "is_it":=.of
def Aht(F:AI K "_law_answer" "_law_answer" (top 55) f fd)(T:Ij P w K mg a)(abY:AO P w K mg base (AJ P w) 9 a.ah "do" ["self","deed"] (RY K a)):AB P w K mg base Au 10 f fd ["hall","deed"] (S7 K a):=by
 refine F.ok CU.fs λaj A outer s H vs Q E hr h=>?_
 .obtain ⟨X,R,d,dd,rfl,t,cm,wf,tx,dz,q⟩:=h;have hu:=hr.units;have nd:=CU.fs.nd;have abZ:=T.hc.cls;have eU:=wf.g.eU;refine⟨_,(@Af _ _ _ _ _ (A4 2 CU Cq)
    (Af (A4 3 CU<|Bb Ac)
    (Af (Acr 4 Ahk (CU.n 4 rfl) T.lq nd (λEw π W hp ho=>(Ak<|A4 2 CU (AcJ abY abZ (Aa 0 CU) hr.d hp<|Ab (Aa 1 CU) Ac))) (λI=>(Af (A4 3 CU<|Bb (Ab (Bc Gq JL T.eJ Gs<|Ab (Aa 4 CU) (Ab (DZ (v:=.ref a.aT) Ahs T.jz rfl) Ac))<|Ab (Bc Gq JL T.eJ Gs<|Ab (Aa 4 CU) (Ab (DZ (v:=.ref a.aK) Ahr T.fZ rfl) Ac)) (Ab (Bc Gq JL T.eJ Gs<|Ab (Aa 4 CU) (Ab (DZ (v:=.ref a.aV) Ahq T.ie rfl) Ac))<|Ab (Bc Gq JL T.eJ Gs<|Ab (Aa 4 CU) (Ab (Kd (v:=.ty "ValueError") Ahp T.uG Acp rfl) Ac)) Ac)))
     (Ak<|A5 (Cr UZ Vf Vg C9 (Aa 3 CU)<|Ab (LA<|Bc Gq JL T.eJ Gs (Ab (Aa 4 CU)<|Ab (Bm<|Ab (DZ (v:=.ref a.bK) Aho T.cJ rfl) (Ab (DZ (v:=.ref a.cf) Ahn T.jH rfl)<|Ab (DZ (v:=.ref a.cQ) Ahm T.lu rfl) (Ab (DZ (v:=.ref a.cR) Ahl T.lA rfl) Ac))) Ac)) Ac)))))
    (Af (AR (AL (B2 hu) (Aa 3 CU) (Bb Ac)<|AW _) (Ak<|AD (Aa 2 CU)) AV)
    (Af (HJ (j:=5) rfl nd rfl (T2 (CU.n 5 rfl).loc) NS (Ad7 Ahj T.uH<|Ab (Bb<|Ab Ag (Ab Ag<|Ab Ag Ac)) (Ab (Aa 3 CU) Ac)) (λcl C fp π s₂ H₂=>(HK (X:=Br _ _ _ cl C fp π s₂ H₂) K rfl 2 rfl (B4 (Dc 0 NS.nd S8.comp)<|B4 (Dc 1 NS.nd S9.comp) DU) rfl rfl)) (λcl C fp π s₂ H₂=>(IY<|Dv (Az 1 S9.comp))) (λcl C fp π s₂ H₂=>(Az 0 S8.comp)) (by rfl) (by intro _;rfl)<|T2 rfl)
    (Ak<|AD (Cr PySem.F.plainAttrs_str PySem.F.slot_str_join PySem.F.type_str_join AdK Ag<|Ab (Av B5 (Aa 5 CU)<|Av B9 (Bb<|Ab Ag Ac) (Cs Jc Ahi T.gX IU<|Ab (GN (Ez hu) (II IT (Aa 3 CU) (IH Am) IG) (Bb<|Ab EK (Ab EK Ac))<|AW _) Ac)) Ac))))))),?_⟩
  try dsimp only[av,aw]
  have bb:start ["hall","deed","told","kinds","e","some"] [V.ref X.h,V.ref dd]=[some<|.ref X.h,some<|.ref dd,none,none,none,none]:=rfl;simp only[bb,VE,VF];show⟨Ao,λl H1 Y=>?_⟩;have t1:HT K a H1 X ((l,.lst [])::R):=by rw[Y.e];exact t.new Y.n
  ext;intro Ew π;show A2 X.h X.dx _ rfl t1.t.aA rfl ?_;show Bj X _ d dd rfl t1 (Y.same _ _ cm) (wf.pre tx) (by change X.S.q.length<1000;omega) ?_;cases er:d.res X.S with
  |inr r =>
   rw [er]at q;obtain⟨bP,pS,tz⟩:=AU<|wf.res er;refine⟨bP.cT,(by rw[pS];change X.dn.length<_;omega),tz,λH2 X2 p xs t2 eh eS p2 td=>?_⟩;show⟨Ao,λl3 H3 n3=>?_⟩;refine TY ⟨.list [],.list [],.lst (.of<|n3.same _ _ t2.t.rest.tl.hd) .nil,.lst (.of n3.get) .nil,rfl,rfl,by decide,?_⟩;ext;exact q H3 X2 p xs ((t2.same n3.same).sub<|.cons₂ _ (.cons _<|.refl _)) eh eS ((Ah.of Y.same).trans<|p2.trans (.of n3.same))<|td.ak (.of n3.same)
  |inl e =>
   rw [er]at q;intro H2 s2;have x:=T.ex e;refine⟨x.m,λI hea=>?_⟩;have s3:=(Aj.refl H2).upd (o:=ET I<|T8 (e.adr a)) hea;have e3:(upd H2 I<|ET I (T8<|e.adr a)) I=some (ET I<|T8 (e.adr a)):=Aq;generalize upd H2 _ _=H3 at s3 e3 ⊢;show T2 (Dz _ _ _ _ _ rfl ⟨.exc e3 x.c,rfl,x.k .bN,?_⟩);show T2 (Dz _ _ _ _ _ rfl ⟨.exc e3 x.c,rfl,x.k .bO,?_⟩);show T2 (Dz _ _ _ _ _ rfl ⟨.exc e3 x.c,rfl,x.k .cj,?_⟩);show T2 (Dz _ _ _ _ _ rfl ⟨.exc e3 x.c,rfl,x.v,?_⟩);refine⟨Ao,λL H4 n4=>?_⟩;show⟨.inl ⟨rfl,_,.of n4.get⟩,?_⟩;show⟨Ao,λtk H5 n5=>?_⟩;refine TY<|Fo I _ tk _ _ _ rfl ⟨n5.same _ _<|n4.same _ _ e3,x.c,n5.get,rfl,x.o,?_⟩;show CS L _ _ rfl rfl (n5.same _ _ n4.get) (by change 4<sizeLine;decide) ?_;have s5:Aj H H5:=Y.same.trans<|s2.trans (s3.trans<|n4.same.trans n5.same);obtain⟨B,J⟩:∃B:List (bf×Bool),B=[(("NoLine":bf),Er.bN.is e),("NoSwitch",Er.bO.is e),("NotSo",Er.cj.is e)]:=⟨_,rfl⟩;rw[show([V.bl<|Er.bN.is e,V.bl<|Er.bO.is e,V.bl<|Er.cj.is e,V.bl true]++[V.bl !false])=B.map (λp=>V.bl p.2)++[.bl true,.bl true] by rw[J];rfl];have s6:Aj H (upd H5 L<|.lst (B.map (λp=>V.bl p.2)++[.bl true,.bl true])):=s5.bI<|(Y.same.trans<|s2.trans s3).free n4.n;have k6:(upd H5 L<|.lst (B.map (λp=>V.bl p.2)++[.bl true,.bl true])) L=_:=Aq;generalize upd H5 _ _=H6 at s6 k6 ⊢;show⟨Ao,λl7 H7 n7=>?_⟩;refine TY ⟨.list<|B.map (λp=>PyData.bool p.2)++[.bool true,.bool true],.list [],.lst (.of<|n7.same _ _ k6)<|by rw[J];exact .cons (.bl _)<|.cons (.bl _) (.cons (.bl _)<|.cons (.bl _) (.cons (.bl _) .nil)),.lst (.of n7.get) .nil,by rw[J];rfl,rfl,by rw[J];cases e<;>decide,?_⟩;rw[show Xm (.list<|B.map (λp=>PyData.bool p.2)++[.bool true,.bool true]) (.list [])=false by rw[J];rfl];show⟨Ao,λl8 H8 n8=>?_⟩;have k8:=(n7.same.trans n8.same) _ _ k6;show ER l8 L _ _ rfl ⟨.of n8.get,.of k8,λD nD=>?_⟩;refine Ad8 (K:=K) (a:=l8) (b:=L) (xs:=B.map λp=>V.str p.1) (ys:=B.map (λp=>V.bl p.2)++[.bl true,.bl true]) (λi σ' O=>∃x y,σ'=[x,y]/\Aj H8 O/\O D=some (.lst (((B.take i).filter (·.2)).map λp=>V.str p.1))) (by rw[UK,TN,TN];omega) ⟨none,none,rfl,(Aj.refl H8).upd nD,Aq⟩ (λi σ O _ ⟨_,_,_,sm,_⟩=>⟨.of<|sm _ _ (by rw[J];exact n8.get),.of<|sm _ _ k8⟩) ?_ ?_
   .rintro i x y tt σ' O hx hy ⟨x0,y0,rfl,sm,hD⟩ uI;rw[T6]at hx;obtain⟨p,hp,rfl⟩:=As<|UG.mp hx;rw[Zi<|by rw[TN];exact(UM.mp hp).1,T6,hp]at hy;cases hy;have tf:=Sy (λp:bf×Bool=>p.2) B i p hp;have len:(((B.take i).filter (·.2)).map λp=>V.str p.1).length<sizeLine:=by
     have:=YV (λp:bf×Bool=>p.2)<|B.take i;have:=yo i B;rw[TN,TZ];rw[J]at *;simp only[U2,YK]at *;omega
    have cI:=sm.upd (o:=.tup [V.str p.1,V.bl p.2]) uI;have pT:=((Aj.refl O).upd (o:=.tup [V.str p.1,V.bl p.2]) uI) _ _ hD;have et:(upd O tt<|.tup [V.str p.1,V.bl p.2]) tt=_:=Aq;generalize upd O _ _=H9 at cI pT et ⊢;show CQ tt _ rfl (.of et) rfl ?_;ext;cases hb:p.2 with
    |false =>
     rw [hb]at tf;refine BN ⟨_,_,rfl,cI,?_⟩;rw[pT,tf,cZ<|by decide,Vi]
    |true =>
     rw [hb]at tf;apply B6;show⟨_,pT,len,_,_,rfl,cI.bI nD,?_⟩;rw[Aq,tf,br rfl,Ui];rfl
   intro σ' H9 zq;replace zq:=BA zq;obtain⟨x,y,rfl,s9,hD⟩:=zq;rw[TN,Vn,show(B.filter (·.2)).map (λp=>V.str p.1)=[.str e.nm] by rw[J];cases e<;>rfl]at hD;have k9:=s9 _ _ k8;show⟨Ao,λl10 eX fM=>?_⟩;show TY (A9 L _ rfl (.of<|fM.same _ _ k9) ?_);intro pU ab0;rw[show IJ (B.map (λp=>V.bl p.2)++[V.bl true,V.bl true]) (some 3) none=[.bl true,.bl true] by rw[J];rfl];have lB:BI eX (upd eX pU<|.lst [.bl true,.bl true]) pU (.lst [.bl true,.bl true]):=⟨ab0,rfl⟩;generalize upd eX _ _=jO at lB ⊢;show⟨Ao,λl12 iH lC=>?_⟩;refine TY ⟨.list [.bool true,.bool true],.list [.bool true,.bool true],.lst (.of<|lC.same _ _ lB.get)<|.cons (.bl _) (.cons (.bl _) .nil),.lst (.of lC.get)<|.cons (.bl _) (.cons (.bl _) .nil),rfl,rfl,by decide,?_⟩;show T2 (Cd _ rfl ?_);ext;have lD:=(lB.same.trans lC.same) _ _ fM.get;refine TY<|TY (BC l10 0 _ rfl ⟨rfl,lD,by decide,by decide,by change 1*0<=sizeLine;decide,λlE ab1=>?_⟩);have pV:BI iH (upd iH lE<|.lst []) lE (.lst []):=⟨ab1,rfl⟩;rw[show(T1 (0:Int).toNat [V.str<|TU "other"]).flatten=[]from rfl];generalize upd iH _ _=jR at pV ⊢;have uJ:Aj H9 jR:=fM.same.trans<|lB.same.trans (lC.same.trans pV.same);refine TY<|TY (Bj D lE _ _ rfl rfl (uJ _ _ hD) pV.get (by change 1+0<=sizeLine;decide) λlF ab2=>?_);have gC:BI jR (upd jR lF<|.lst ([V.str e.nm]++[])) lF (.lst<|[V.str e.nm]++[]):=⟨ab2,rfl⟩;generalize upd jR _ _=uw at gC ⊢;show BC _ lF [e.nm] rfl ⟨rfl,.of gC.get,by cases e<;>decide,by decide,?_⟩;rw[show Str.join (TU " ") [e.nm]=e.nm by cases e<;>decide +kernel];exact q _<|s6.trans (n7.same.trans<|n8.same.trans (s9.trans<|uJ.trans gC.same))
def VW.A(W:VW)(R:Ax):Ax:=W.C ((W.sp,.lst (W.dq.map V.int))::(W.st,.lst (W.du.map V.int))::R)
structure BD(K:TH)(a:An)(b:ar)(H:Hp)(X:HX)(W:VW)(R:Ax):Prop where
 h:HT K a H X (W.A R)
 w:Dg K H W X.S
 b:W.w=b
def F7:A6 a X R=A6 a X []++R:=by unfold A6;simp only[Vi,Uk]
section
variable {K:TH}{a:An}{b:ar}{H H':Hp}{X:HX}{W:VW}{R C:Ax}
def VW.dW:W.A R=W.A []++R:=by unfold VW.A;rw[VW.app,VW.app (R:=_::_::[]),Uk];rfl
def BD.same(t:BD K a b H X W R)(s:Aj H H'):BD K a b H' X W R:=⟨t.h.same s,t.w.ak<|.of s,t.b⟩
def At.toW(t:At H (A6 a X<|C++W.A R)):At H (W.A<|A6 a X (C++R)):=by rw[F7,VW.dW,<-Uk]at t;rw[VW.dW,F7,<-Uk (A6 a X [])];exact t.swap
def At.toH(t:At H (W.A<|A6 a X (C++R))):At H (A6 a X<|C++W.A R):=by rw[F7,VW.dW,<-Uk];rw[VW.dW,F7,<-Uk (A6 a X [])]at t;exact t.swap
def BD.wd(t:BD K a b H X W R):WD K b H W X.S (A6 a X R):=⟨At.toW (C:=[]) t.h.t,t.w,t.b⟩
end
noncomputable def Ta(p:bf×Int):PyData:=.tuple [.str p.1,.int p.2]
noncomputable def Tb:Option bf->PyData
 |none=>.none
 |some z=>.str z
theorem NT:∀{xs:List ar}{ps:List (bf×Int)},CA H xs ps->aW K H (xs.map V.ref) (ps.map Ta)
 |[],[],_=>.nil
 |[],_::_,h=>h.elim
 |_::_,[],h=>h.elim
 |_::_,_::_,h=>.cons (.tup (.of h.1) (.cons (.str _) (.cons (.int _) .nil))) (NT h.2)
theorem Tc:∀f:Option bf,Is K H (DI f) (Tb f)
 |none=>.aa
 |some z=>.str z
noncomputable def NU(ln:Ln):PyData:=.list [.str ln.st,.str ln.ae,.list (ln.held.map Ta),Tb ln.ao,ln.why]
def Ahu{S:PS}(w:WF S)(x:WX S){i:Nat}{ln:Ln}(h:S.lns[i]?=some ln):Be 5 (NU ln):=by
 have t:=x.get h;have L:=w.l i ln h;obtain⟨v,D,y⟩:=As L.wy;refine .lst λd m=>?_;simp only[T9,UH,or_false]at m;rcases m with rfl|rfl|rfl|rfl|rfl
 .rw[D];exact .str v.ok.1
 .exact .str t.ae
 .refine (Be.lst (n:=1) λd m=>?_).up (by decide);obtain⟨p,I,rfl⟩:=As<|Uc.mp m;exact .tup<|GH (.str<|t.held p I) (.int _)
 .cases hf:ln.ao with
  |none=>exact .aa
  |some z =>
   have B:∀o,Hi S i ln o->BY z:=λo ⟨j,lo,J,_,f1,_⟩=>by
    rw [hf]at f1;rw[Us f1];exact(w.g.tx _<|Du J).1.1
   refine .str ?_;cases v with
   |rests=>rw[y.2.1]at hf;cases hf
   |cb=>rw[y.2.1]at hf;cases hf
   |ba=>rw[y.1]at hf;cases hf
   |told=>rw[y.2.1]at hf;cases hf
   |rings=>exact B _ y.2
   |cD=>exact B _ y.2.2
   |dm=>exact B _ y.2
 .exact t.why.up (by decide)
def Ahv (g:WG S)(D:AQ S u=some r):∀v∈HZ S u r,∃z,v=.str z/\BY z:=by
 intro v I;obtain⟨k,mk,rfl⟩:=As<|Uc.mp I;have J:=Vz.mp mk;obtain⟨B,L,O⟩:=As<|La g D (Uh J);have e:(if u=TU "" then r.1.map (D6 S)else r.1).getD k .aa=B:=by rw[Ux,show(if u=TU "" then r.1.map (D6 S)else r.1)[k]?=some B from L];rfl
 dsimp only;rw[e];rcases O with ⟨_,rfl⟩|⟨_,z,rfl,_,Y⟩
 .rw[br rfl];split
  .exact ⟨_,rfl,asc⟩
  .exact ⟨_,rfl,asc⟩
 .rw[cZ λc=>nomatch c];exact⟨z,rfl,Y.1⟩
theorem Td:∀{vs:List V},(∀v∈vs,∃z,v=.str z/\BY z)->∃zs:List bf,vs=zs.map V.str/\∀z∈zs,BY z
 |[],_=>⟨[],rfl,λz m=>nomatch m⟩
 |v::vs,h=>by
  obtain⟨z,rfl,k⟩:=h v UI;obtain⟨zs,rfl,B⟩:=Td λu m=>h u (Uy _ m);exact⟨z::zs,rfl,λy m=>(T9.mp m).elim (λc=>c▸k) (B y)⟩
def Te(K:TH)(a:An):Sp:=λvs H Q _=>∃(X:HX)(b:ar)(W:VW)(R:Ax)(dl:List ar)(ds:List PyData),vs=[.ref X.h,.ref b]/\BD K a b H X W R/\WF X.S/\WX X.S/\X.dn=dl.map V.ref/\BW K H dl ds/\(∀d∈ds,Be 2 d)/\∀H',Aj H H'->Q (.bl true) H'
def Bq:AM ["hall","world","line","way","told","where"] ["hall","world"] (Ae<|top 56):=.of
def Ahw:Gm (Ae<|top 56) "sorted":=.of
def Ahx:Gm (Ae<|top 56) "_law_paper":=.of
def Ahy(F:AI K "_law_shows" "_law_shows" (top 56) f fd)(T:TxtW P w K mg a)(ab3:AO P w K mg base (AJ P w) 2 a.ah "way" ["self","line"] (F2 K a λx=>.str x.l.st))(ab4:AO P w K mg base (AJ P w) 2 a.ah "figures" ["self","line"] (F2 K a λx=>.str x.l.ae))(ab5:AO P w K mg base (AJ P w) 2 a.ah "holds" ["self","line"] (RZ K a))(ab6:AO P w K mg base (AJ P w) 2 a.ah "other" ["self","line"] (F2 K a λx=>DI x.l.ao))(ab7:AO P w K mg base (AJ P w) 2 a.ah "told_paper" ["self","line"] (F2 K a λx=>x.wv))(oO:AO P w K mg base (AJ P w) 2 a.ah "paper" ["self","where"] (R7 K a))(ab8:AO P w K mg base (AJ P w) 2 a.ah "shares" ["self","where"] (R6 K a))(ab9:AO P w K mg base Au 1 a.ah "waiting" ["self"] (Hh K a λX=>X.q.map V.str))(oU:AO P w K mg base Au 2 a.ah "steps" ["self"] (Hh K a λX=>X.sk.k.wt.map V.int))(pW:AO P w K mg base Au 1 a.ah "deeds" ["self"] (Hh K a λX=>X.dn))(iJ:Bt P w K mg base Au 1 "_law_paper" ["world","where"] (NF K)):AB P w K mg base Au 3 f fd ["hall","world"] (Te K a):=by
 refine F.ok Bq.fs λaj A outer s H vs Q E J h=>?_
 .obtain ⟨X,b,W,R,dl,ds,rfl,t,Y,wx,uK,tdn,ldn,q⟩:=h;have hu:=J.units;have nd:=Bq.fs.nd;have aca:=T.hc.cls;have acb:=T.hc.cls;have acd:=T.hc.cls;have ace:=T.hc.cls;have acf:=T.hc.cls;have oP:=T.hc.cls;have acg:=T.hc.cls;have ach:=T.hc.cls;have oV:=T.hc.cls;have aci:=T.hc.cls;have tw:=t.wd;have HA:∀{H'},Aj H H'->H' X.h=_:=λs=>(t.h.same s).t.aA;refine⟨_,(@Af _ _ _ _ _ (CM U6 rfl (Dw<|Ap P w K (Aa 1 Bq) Ag) (BR 2 Bq) (Af (A4 3 Bq<|Ap P w K (Ap P w K (Aa 1 Bq) Ag) (Aa 2 Bq))
     (Af (A4 4 Bq<|Bb (Ab (A7 ab3 aca (Aa 0 Bq) J.d Gn<|Ab (Aa 2 Bq) Ac)<|Ab (A7 ab4 acb (Aa 0 Bq) J.d Gn<|Ab (Aa 2 Bq) Ac) (Ab (A7 ab5 acd (Aa 0 Bq) J.d Gn<|Ab (Aa 2 Bq) Ac)<|Ab (A7 ab6 ace (Aa 0 Bq) J.d Gn<|Ab (Aa 2 Bq) Ac) (Ab (A7 ab7 acf (Aa 0 Bq) J.d Gn<|Ab (Aa 2 Bq) Ac) Ac))))
     (Ak<|AR (AL (Ez hu) (Aa 4 Bq) (Bb<|Ab (Aa 3 Bq) (Ab (Ap P w K (Ap P w K (Aa 1 Bq) Ag)<|Aa 2 Bq)<|Ab (Ap P w K (Ap P w K (Aa 1 Bq) Ag)<|Aa 2 Bq) (Ab (Ap P w K (Ap P w K (Aa 1 Bq) Ag)<|Aa 2 Bq)<|Ab (Ap P w K (Ap P w K (Aa 1 Bq) Ag)<|Aa 2 Bq) Ac)))<|AW _) (Ak<|AD EK) AV))))
    (Af (CM U6 rfl (Dw<|Bc (QM rfl) Ahw T.g8 IV (Ab (Ap P w K (Aa 1 Bq) Ag) Ac)) (BR 5 Bq)<|Ak (AR (PW.pt<|JR (AL (Ez hu) (A7 oO oP (Aa 0 Bq) J.d Gn<|Ab (Aa 5 Bq) Ac) (Bf iJ Ahx J.d AN<|Ab (Aa 1 Bq) (Ab (Aa 5 Bq) Ac))<|AW _) (JQ<|AL (Ez hu) (A7 ab8 acg (Aa 0 Bq) J.d Gn<|Ab (Aa 5 Bq) Ac) (Ap P w K (Ap P w K (Aa 1 Bq) Ag)<|Aa 5 Bq) (AW _))) (Ak<|AD EK) AV))
    (Ak<|AD (GN (B2 hu) (Bb<|Ab (FO ab9 ach (Aa 0 Bq) J.d AN) (Ab (FO oU oV (Aa 0 Bq) J.d AN)<|Ab (FO pW aci (Aa 0 Bq) J.d AN) Ac)) (Bb<|Ab (Ap P w K (Aa 1 Bq) Ag) (Ab (Ap P w K (Aa 1 Bq) Ag)<|Ab (Ap P w K (Aa 1 Bq) Ag) Ac))<|AW _)))),?_⟩
  try dsimp only[av,aw]
  have bb:start ["hall","world","line","way","told","where"] [V.ref X.h,V.ref b]=[some<|.ref X.h,some<|.ref b,none,none,none,none]:=rfl;simp only[bb,VE,VF];left;refine⟨⟨_,.of tw.lns⟩,EL (K:=K) (a:=W.ln) (xs:=(X.S.lns.map (·.num)).map V.str) (λn σ H2=>∃x y z,σ=[some<|.ref X.h,some<|.ref b,x,y,z,none]/\Aj H H2) ⟨none,none,none,rfl,.refl H⟩ (λn σ H2 _ ⟨_,_,_,_,D⟩=>.of<|D _ _ tw.lns) ?_ ?_⟩
  .intro n v σ H2 hn zq;replace zq:=C7 zq;obtain⟨x0,y0,z0,rfl,D⟩:=zq;rw[T6,T6]at hn;obtain⟨_,pX,rfl⟩:=As<|UG.mp hn;obtain⟨ln,h,rfl⟩:=As<|UG.mp pX;have w2:=tw.same D;have zk:Ok ln.num:=(Y.g.tx _<|Du h).1;obtain⟨x,hx,rfl⟩:=As<|t.h.at h;have rd:∀{sel:LX->V} {H'} {Q':V->Hp->Prop} {E'},Aj H H'->Q' (sel x) H'->F2 K a sel [.ref X.h,.str x.l.num] H' Q' E':=λs c=>⟨X,_,x.l.num,rfl,t.h.same s,zk,λj y hy e=>by
    obtain⟨e1,_⟩:=Y.g.one (show X.S.lns[j]?=some y.l by change(X.lines.map (·.l))[j]?=_;rw[T6,hy];rfl) h e;rw[e1,hx]at hy;cases hy;exact c,λno=>absurd (Uc.mpr ⟨x,Ug hx,rfl⟩) no⟩
   left;apply A2 X.h X.dx _ rfl (HA D) rfl;ext;dsimp only[BP];apply rd D;show A2 X.h X.dx _ rfl (HA D) rfl ?_;ext;dsimp only[BP];apply rd D;show A2 X.h X.dx _ rfl (HA D) rfl ?_;show CS X _ x.l.num rfl (t.h.same D) zk (λj y hy ey l nl=>?_) (λno=>absurd (Uc.mpr ⟨x,Ug hx,rfl⟩) no);obtain⟨e1,_⟩:=Y.g.one (show X.S.lns[j]?=some y.l by change(X.lines.map (·.l))[j]?=_;rw[T6,hy];rfl) h ey;rw[e1,hx]at hy;cases hy;have n3:BI H2 (upd H2 l<|.lst (x.hv.map V.ref)) l (.lst<|x.hv.map V.ref):=⟨nl,rfl⟩;generalize upd H2 _ _=H3 at n3 ⊢;have s3:=D.trans n3.same;show A2 X.h X.dx _ rfl (HA s3) rfl ?_;ext;dsimp only[BP];apply rd s3;show A2 X.h X.dx _ rfl (HA s3) rfl ?_;ext;dsimp only[BP];apply rd s3;show⟨Ao,λl5 H4 n4=>?_⟩;have B:=s3.trans n4.same;have w4:=tw.same B;obtain⟨as,ta,pr⟩:=As<|w4.ax h;left;refine w4.abL h λwv iw=>?_;show⟨Ao,λl6 H5 L=>?_⟩;have lx:=(t.h.same<|B.trans L.same).ok.lx n x hx;have I:=Ahu Y wx h;have wt:=(tw.ok.l n x.l h).wt;refine TY ⟨NU x.l,NU x.l,.lst (.of<|L.same _ _ n4.get)<|.cons (.str _) (.cons (.str _)<|.cons (.lst (.of<|L.same _ _ (n4.same _ _ n3.get))<|NT lx.pr) (.cons (Tc _)<|.cons lx.w .nil)),.lst (.of L.get)<|.cons (.str _) (.cons (.str _)<|.cons (.lst (.of<|L.same _ _ ta)<|NT (pr.ak<|.of L.same)) (.cons (Tc _)<|.cons (Is.ak _ wt iw<|.of L.same) .nil)),I.c,I.c,(by have:=I.k;omega),?_⟩;rw[Yn _ I.c];ext;exact BC _ _ _ rfl<|B.trans L.same
  .intro σ H2 zq;replace zq:=C7 zq;obtain⟨x0,y0,z0,rfl,D⟩:=zq;have w2:=tw.same D;left;refine BC _ _ (W.kz .aC) rfl ⟨.of<|w2.t.vk .aC,(by change Va _ (Va _ _)=_;rw[Uq];rfl),w2.ok.un,w2.ok.ul,λl ts nl pm _=>?_⟩;have n3:BI H2 (upd H2 l<|.lst (ts.map V.str)) l (.lst<|ts.map V.str):=⟨nl,rfl⟩;generalize upd H2 _ _=H3 at n3 ⊢;have s3:=D.trans n3.same;refine Cd l rfl ⟨⟨_,.of n3.get⟩,EL (K:=K) (a:=l) (xs:=ts.map V.str) (λn σ H4=>∃x,σ=[some<|.ref X.h,some<|.ref b,x0,y0,z0,x]/\Aj H3 H4) ⟨none,rfl,.refl H3⟩ (λn σ H4 _ ⟨_,_,B⟩=>.of<|B _ _ n3.get) ?_ ?_⟩
   .intro n v σ H4 hn zq;replace zq:=As zq;obtain⟨x5,rfl,lG⟩:=zq;rw[T6]at hn;obtain⟨u,gU,rfl⟩:=As<|UG.mp hn;have B:=s3.trans lG;obtain⟨r,er⟩:=XW.mp<|(tw.ok.rz u).mp (pm.mem_iff.mp<|Ug gU);have zk:Ok u:=by
     unfold AQ at er;by_cases c:u=TU ""
     .rw[c];exact⟨Hm,by decide⟩
     .rw[cZ c]at er;obtain⟨g,eg,_⟩:=As<|UG.mp er;have:=Y.g.px g (EF eg).1;rwa[(EF eg).2]at this
    obtain⟨zs,ezs,azs⟩:=As<|Td (Ahv Y.g er);show A2 X.h X.dx _ rfl (HA B) rfl ?_;show CS X _ u rfl (t.h.same B) zk Y.g.hs ?_;rw[er];intro H5 tt s5 e5;ext;dsimp only[BP];refine Fo b W _ _ u r rfl ⟨tw.same<|B.trans s5,Y.g,er,λH6 tt2 pY e6=>?_⟩;obtain⟨I,dp⟩:=Ny azs;rw[ezs]at e5 e6;refine TY ⟨.tuple<|zs.map V4,.tuple<|zs.map V4,.tup (.of<|pY _ _ e5)<|Ie zs,.tup (.of e6)<|Ie zs,I,I,(by rw[Sz];omega),?_⟩;rw[Yn (.tuple<|zs.map V4) I];have s6:=B.trans<|s5.trans pY;show A2 X.h X.dx _ rfl (HA s6) rfl ?_;show Ey (t.h.same s6) zk ?_;rw[er];intro l7 pZ;have O:BI H6 (upd H6 l7<|.lst (r.2.2.map V.int)) l7 (.lst<|r.2.2.map V.int):=⟨pZ,rfl⟩;generalize upd H6 _ _=H7 at O ⊢;have w7:=tw.same<|s6.trans O.same;left;obtain⟨gB,um⟩:=K9 r.2.2;refine TY ⟨.list<|r.2.2.map VG,.list<|r.2.2.map VG,.lst (.of O.get)<|Hl _,.lst (.of<|w7.shr er)<|Hl _,gB,gB,(by rw[JI];omega),?_⟩;rw[Yn (.list<|r.2.2.map VG) gB];ext;exact lG.trans<|s5.trans (pY.trans O.same)
   .intro σ H4 zq;replace zq:=As zq;obtain⟨x5,rfl,lG⟩:=zq;have B:=s3.trans lG;show A2 X.h X.dx _ rfl (HA B) rfl ?_;refine A9 X _ rfl (t.h.same B) λl1 f9=>?_;have L:BI H4 (upd H4 l1<|.lst (X.q.map V.str)) l1 (.lst<|X.q.map V.str):=⟨f9,rfl⟩;generalize upd H4 _ _=H5 at L ⊢;have s5:=B.trans L.same;show A2 X.h X.dx _ rfl (HA s5) rfl ?_;refine A9 X _ rfl (t.h.same s5) λl2 cw=>?_;have n6:BI H5 (upd H5 l2<|.lst (X.sk.k.wt.map V.int)) l2 (.lst<|X.sk.k.wt.map V.int):=⟨cw,rfl⟩;generalize upd H5 _ _=H6 at n6 ⊢;have s6:=s5.trans n6.same;show A2 X.h X.dx _ rfl (HA s6) rfl ?_;refine A9 X _ rfl (t.h.same s6) λl3 gh=>?_;have O:BI H6 (upd H6 l3<|.lst X.dn) l3 (.lst X.dn):=⟨gh,rfl⟩;generalize upd H6 _ _=H7 at O ⊢;refine⟨Ao,λl4 H8 n8=>?_⟩;have w8:=tw.same<|s6.trans (O.same.trans n8.same);left;refine⟨Ao,λl9 H9 n9=>?_⟩;have w9:=w8.same n9.same;have s9:=s6.trans<|O.same.trans (n8.same.trans n9.same);have kO:=tdn.ak<|.of s9;have vd:=w9.dn;have e7:=(n8.same.trans n9.same) _ _ O.get;rw[show X.S.dn=X.dn from rfl,uK]at vd;rw[uK]at e7;have I:Be 4 (.list [.list<|X.q.map V4,.list<|X.sk.k.wt.map VG,.list ds]):=by
     refine .lst<|EH ?_ ?_ (.lst ldn)
     .refine (Be.lst (n:=0) λd m=>?_).up (by decide);obtain⟨z,mz,rfl⟩:=As<|Uc.mp m;exact .str (Y.g.tx z<|Y.g.cz z mz).1.1
     .refine (Be.lst (n:=0) λd m=>?_).up (by decide);obtain⟨z,mz,rfl⟩:=As<|Uc.mp m;exact .int _
    refine TY ⟨.list [.list<|X.q.map V4,.list<|X.sk.k.wt.map VG,.list ds],.list [.list<|X.q.map V4,.list<|X.sk.k.wt.map VG,.list ds],.lst (.of<|n9.same _ _ n8.get)<|.cons (.lst (.of<|(n6.same.trans<|O.same.trans (n8.same.trans n9.same)) _ _ L.get)<|Ie _) (.cons (.lst (.of<|(O.same.trans<|n8.same.trans n9.same) _ _ n6.get)<|Hl _)<|.cons (.lst (.of e7) kO.i) .nil),.lst (.of n9.get)<|.cons (.lst (.of w9.q)<|Ie _) (.cons (.lst (.of w9.st)<|Hl _)<|.cons (.lst (.of vd) kO.i) .nil),I.c,I.c,(by have:=I.k;omega),?_⟩;rw[Yn _ I.c];exact q H9 s9
def Tf(K:TH):Sp:=λvs H Q _=>∃(pt l g:ar)(long n:Int)(zs:List bf)(ts:List Pr)(C:Ax),vs=[.ref pt]/\At H C/\H pt=some (.tup [.int long,.ref l,.int n,.ref g])/\(l,.lst (zs.map V.str))∈C/\(g,.lst (ts.map Bp))∈C/\Ds H ts/\Jp long n zs ts /\
 ∀H' W,At H' (W.A C)->(∀(aq:List bf)(aZ:List Pr),aq.Perm zs->aq.Pairwise CV->aZ.Perm ts->Dg K H' W (cL long aq n (aZ.map (·.2))))->Ah H H'->Q (.ref W.w) H'
noncomputable def F8:List bf:=["way","figures","many","train","end","why","held","stuck","shares"]
noncomputable def NV(long:Int)(ln q dn:ar):List (Ay×V):=[(.inr "long",.int long),(.inr "lines",.ref ln),(.inr "queue",.ref q),(.inr "mark",.int 0),(.inr "done",.ref dn)]
noncomputable def Em(long:Int)(ln q dn:ar)(as:List ar):List (Ay×V):=NV long ln q dn++List.zipWith (λz a=>((.inr z:Ay),V.ref a)) F8 as
def Ahz (long:Int)(ln q dn:ar)(as:List ar)(b:ar)(B:F8[as.length]?=some z):BU (Em long ln q dn as) (.inr z) (.ref b)=Em long ln q dn (as++[b]):=by
 match as,B with
 |[],B=>cases B;rfl
 |[_],B=>cases B;rfl
 |[_,_],B=>cases B;rfl
 |[_,_,_],B=>cases B;rfl
 |[_,_,_,_],B=>cases B;rfl
 |[_,_,_,_,_],B=>cases B;rfl
 |[_,_,_,_,_,_],B=>cases B;rfl
 |[_,_,_,_,_,_,_],B=>cases B;rfl
 |[_,_,_,_,_,_,_,_],B=>cases B;rfl
 |_::_::_::_::_::_::_::_::_::_,B=>simp[F8]at B
def AhA{as:List ar}(h:as.length=9):∃a b c d e f g i j,as=[a,b,c,d,e,f,g,i,j]:=by
 match as,h with
 |[_,_,_,_,_,_,_,_,_],_=>exact⟨_,_,_,_,_,_,_,_,_,rfl⟩
def Ho{α β:Type}(f:α->β)(n:Nat)(x:α):(T1 n x).map f=T1 n (f x):=by simp
def AhB (D:(B.map (·.1)).Nodup)(m:p∈B):BG (cL long zs n B) p.1=some (CK p):=by obtain⟨i,I⟩:=Yk.mp m;refine Jw (l:=B.map CK) (i:=i) (g:=CK p) ?_ (by rw[T6,I];rfl);rwa[Uq]
def AhC (m:z ∉ B.map (·.1)):BG (cL long zs n B) z=none:=KU (l:=B.map CK)<|by rwa[Uq]
def NW(lv:Fl->bf->List V)(t:Pr):Prop:=lv .aC t.2.1=T1 t.2.2.toNat .aa/\lv .aR t.2.1=T1 t.2.2.toNat (.bl false)/\lv .shr t.2.1=T1 t.2.2.toNat (.int 0)
def AhD{K:TH}{H:Hp}{W:VW}{long n:Int}{zs aq B:List bf}{ts D J:List Pr}{t0:ar}(zn:zs.Nodup)(z1:zs.length<=60)(pm:aq.Perm zs)(gD:aq.Pairwise CV)(V:B.Perm zs)(qb:B.Pairwise CV)(pt:D.Perm ts)(gl:ts.length<=40)(I:J=(t0,TU "",n)::ts)(L:(J.map (·.2.1)).Nodup)(Y:W.kz .ax=zs)(hf:∀d,W.kf d=zs)(hu:∀e,e≠.ax->W.kz e=J.map (·.2.1))(bV:∀z∈zs,∀d,W.ff d z=(Ci z).vv d)(hl:∀z∈zs,W.lv .ax z=[])(hr:∀t∈J,NW W.lv t)(h1:W.long=long)(h2:W.mark=0)(h3:W.qs=[])(h4:W.ds=[])(h5:W.dq=T1 n.toNat 0)(h6:W.du=T1 n.toNat 0)(hx:W.kx=[(.inr "spots",.ref W.sp),(.inr "steps",.ref W.st)])(h7:W.lns=aq):Dg K H W (cL long B n (D.map (·.2))):=by
 have en:(B.map Ci).map (·.num)=B:=by rw[Uq];exact Yj B
 have nt:(ts.map (·.2.1)).Nodup:=by rw[I]at L;exact(Uu.mp L).2
 have n0:TU "" ∉ ts.map (·.2.1):=by rw[I]at L;exact(Uu.mp L).1
 have eg:(D.map (·.2)).map (·.1)=D.map (·.2.1):=by rw[Uq];rfl
 have pg:(D.map (·.2.1)).Perm (ts.map (·.2.1)):=pt.map _;have ng:((D.map (·.2)).map (·.1)).Nodup:=by rw[eg];exact pg.nodup_iff.mpr nt
 have fH:∀t∈ts,AQ (cL long B n (D.map (·.2))) t.2.1=some (T1 t.2.2.toNat .aa,T1 t.2.2.toNat false,T1 t.2.2.toNat 0):=λt m=>by
  unfold AQ;rw[cZ λc=>n0<|by rw[<-c];exact Uc.mpr ⟨t,m,rfl⟩,AhB ng (p:=t.2)<|Uc.mpr ⟨t,pt.mem_iff.mpr m,rfl⟩];rfl
 have us:=hu .aC λe=>nomatch e;have sm:∀w,(AQ (cL long B n (D.map (·.2))) w).isSome=true->∃t∈J,t.2.1=w:=λw s=>by
  by_cases c:w=TU ""
  .exact ⟨_,by rw[I];exact UI,c.symm⟩
  .by_cases m:w∈ts.map (·.2.1)
   .obtain ⟨t,mt,e⟩:=Uc.mp m;exact⟨t,by rw[I];exact Uy _ mt,e⟩
   .unfold AQ at s;rw[cZ c,AhC<|by rw[eg];exact λk=>m<|pg.mem_iff.mp k]at s;cases s
 refine { lo:=h1,ma:=h2,q:=h3,ds:=h4,sp:=h5,st:=h6,kx:=hx,ln:=?_,nn:=?_,zs:=λz=>?_,zn:=by rw[Y];exact zn,zl:=by rw[Y];omega,kf:=λd=>(hf d).trans Y.symm,us:=λe n=>(hu e n).trans us.symm,un:=by rw[us];exact L,ul:=?_,rz:=λw=>?_,l:=λi ln h=>?_,r:=λw r O=>?_ }
 .show W.lns=(B.map Ci).map (·.num);rw[en,h7];exact Ac8 (pm.trans V.symm) gD qb
 .show ((B.map Ci).map (·.num)).Nodup;rw[en];exact V.nodup_iff.mpr zn
 .show z∈W.kz .ax↔z∈(B.map Ci).map (·.num);rw[en,Y];exact V.mem_iff.symm
 .rw[us,TN,I,U2];omega
 .rw[us];refine⟨λm=>?_,λs=>let ⟨t,mt,e⟩:=sm w s;Uc.mpr ⟨t,mt,e⟩⟩;obtain⟨t,mt,rfl⟩:=As<|Uc.mp m;rw[I]at mt;rcases T9.mp mt with rfl|mt
  .rw[FE];rfl
  .rw[fH t mt];rfl
 .have h:(B.map Ci)[i]?=some ln:=h;rw[T6]at h;obtain⟨z,qc,rfl⟩:=As<|UG.mp h;have mz:=V.mem_iff.mp<|Ug qc;exact⟨λd _=>bV z mz d,by rw[show W.ff .why (Ci z).num=.aa from bV z mz .why];exact .aa,rfl,[],hl z mz,trivial⟩
 .obtain ⟨t,mt,rfl⟩:=sm w (by rw[O];rfl);obtain⟨g2,g3,g4⟩:=AU<|hr t mt;rw[I]at mt;rcases T9.mp mt with rfl|mt
  .rw[FE]at O;cases O;refine⟨?_,g3.trans (Ho ..).symm,g4.trans (Ho ..).symm⟩;unfold Cp;rw[br rfl,g2];exact(Ho (D6 (cL long B n (D.map (·.2)))) n.toNat .aa).symm
  .rw[fH t mt]at O;cases O;refine⟨?_,g3.trans (Ho ..).symm,g4.trans (Ho ..).symm⟩;unfold Cp;rw[cZ λc=>n0<|by rw[<-c];exact Uc.mpr ⟨t,mt,rfl⟩,g2]
def AhE{α β:Type} [DecidableEq α] {f:α->β} {z:α} {u v:β}:up (up f z u) z v=up f z v:=by
 funext y
 by_cases e:y=z
 .rw[e,FC,FC]
 .rw[Fc e,Fc e,Fc e]
def NX{α β γ:Type} [DecidableEq α] [DecidableEq β] {g:α->β->γ} {d e:α} {y z:β} {v:γ} (n:e≠d):A0 g d z v e y=g e y:=Df λc=>n c.1
def At.mid{H:Hp}{P M R:Ax}{l:ar}{u:HO}(t:At H (P++(M++R)))(n:H l=none):At (upd H l u) (P++((M++[(l,u)])++R)):=by have:=t.new (u:=u) n;rw[<-Uk]at this;have:=this.back;rw[Uk]at this;rwa[Uk]
def At.nX{H:Hp}{b:ar}{W:VW}{R:Ax}{D:Hp->Prop}{z:bf}{v:V}(kx:List (Ay×V))(t:At H (W.C R))(e:BU W.kv (.inr z) v={ W with kx:=kx }.kv)(len:W.kv.length<sizeLine)(c:∀B,At B (VW.C { W with kx:=kx } R)->Ah H B->D B)(J:W.w=b:=by rfl):∃a I,V.ref b=.ref a/\Ef H a (.str z) v I/\D I:=by subst J;refine A9 W.w _ rfl (.k (k:=.inr z) t.vw len) ?_;rw[e];exact c _ (At.set (P:=[]) t)<|.chg t.vw rfl
def At.rep{H:Hp}{W:VW}{R:Ax}{b l:ar}{v:V}{n:Nat}(t:At H (W.C R))(D:H b=none)(I:(upd H b<|.lst [v]) l=none):∃B,upd (upd H b<|.lst [v]) l (.lst<|T1 n v)=B/\At B (W.C ((l,.lst<|T1 n v)::R))/\Ah H B :=
 ⟨_,rfl,(t.same<|(Aj.refl H).upd D).pf I,(Ah.new D).trans<|.new I⟩
def BL:AM ["parts","long","lines","seekers","groups","world","word","line","where","many"] ["parts"] (Ae<|top 44):=.of
def AhF:Gm (Ae<|top 44) "_law_begin":=.of
def AhG:Gm (Ae<|top 44) "sorted":=.of
def AhH(F:AI K "_law_world" "_law_world" (top 44) f fd)(T:TxtW P w K mg a)(fL:Bt P w K mg base Au 1 "_law_begin" ["world","line","way"] λvs H Q E=>NA vs H Q E\/Nz K vs H Q E):AB P w K mg base Au 2 f fd ["parts"] (Tf K):=by
 refine F.ok BL.fs λaj A outer s H vs Q E hr h=>?_
 .obtain ⟨pt,l,g,long,n,zs,ts,C,rfl,t,kF,ml,cM,lay,good,q⟩:=h;obtain⟨⟨uL,lo1,n0,n1⟩,⟨⟨z0,z1⟩,zd,zn⟩,⟨g0,gd,gn⟩⟩:=AU good;have hu:=hr.units;have nd:=BL.fs.nd;refine⟨_,(@Af _ _ _ _ _ (Et (Aa 0 BL)<|FK rfl (B4 (BR 1 BL)<|B4 (BR 2 BL) (B4 (BR 3 BL)<|B4 (BR 4 BL) DU)))
    (Af (@DB _ _ _ 5 _ _ _ nd (BL.n 5 rfl) (@AcZ _ _ _ _ _ (Jf Ag (Aa 1 BL)<|Jf Ag (Bc Qn AhG T.g8 IV<|Ab (Aa 2 BL) Ac) (Jf Ag (CO Ac)<|Jf Ag Am (Jf Ag (CO Ac) AcX))) rfl rfl (by simp)<|by decide) rfl rfl)
    (Af (CM U6 rfl (OF<|Fj (Ke rfl)) (BR 6 BL)<|Ak (Ca (UE (UJ (by decide) _) hu) (Aa 5 BL) (Aa 6 BL) AcW rfl))
    (Af (CM U6 rfl (Dw<|Aa 2 BL) (BR 7 BL)<|Ak (A5<|Bf fL AhF hr.d AN (Ab (Aa 5 BL)<|Ab (Aa 7 BL) (Ab Ag Ac))))
    (Af (CM U6 rfl (Dw<|Av B5 (CO<|Ab (Fj<|Ab Ag (Ab (Aa 3 BL) Ac)) Ac) (Aa 4 BL)) (FK rfl<|B4 (BR 8 BL) (B4 (BR 9 BL) DU)) (Af (Ca (UE (UJ (by decide) _) hu) (Ap P w K (Aa 5 BL) Ag) (Aa 8 BL) (Av B9 (CO<|Ab Cq Ac)<|Aa 9 BL) rfl)
     (Af (Ca (UE (UJ (by decide) _) hu) (Ap P w K (Aa 5 BL) Ag) (Aa 8 BL) (Av B9 (CO<|Ab EK Ac)<|Aa 9 BL) rfl)
     (Ak<|Ca (UE (UJ (by decide) _) hu) (Ap P w K (Aa 5 BL) Ag) (Aa 8 BL) (Av B9 (CO<|Ab Am Ac)<|Aa 9 BL) rfl))))
    (Af (Ca (UE (UJ (by decide) _) hu) (Aa 5 BL) Ag (Av B9 (CO<|Ab Am Ac)<|Aa 3 BL) rfl)
    (Af (Ca (UE (UJ (by decide) _) hu) (Aa 5 BL) Ag (Av B9 (CO<|Ab Am Ac)<|Aa 3 BL) rfl)
    (Ak<|AD (Aa 5 BL))))))))),?_⟩
  try dsimp only[av,aw]
  have bb:start ["parts","long","lines","seekers","groups","world","word","line","where","many"] [V.ref pt]=[some<|.ref pt,none,none,none,none,none,none,none,none,none]:=rfl;simp only[bb,VE,VF];show CQ pt _ rfl (.of kF) rfl ?_;ext;intro O uM;have t1:=t.new (u:=.dK []) uM;have p1:Ah H (upd H O<|.dK []):=.new uM;generalize upd H _ _=H1 at t1 p1 ⊢;show CQ l zs rfl (.of<|t1.tl.get ml) (by omega) (λln aq uN pm gD=>?_);have t2:=t1.new (u:=.lst<|aq.map V.str) uN;have p2:Ah H1 (upd H1 ln<|.lst (aq.map V.str)):=.new uN;generalize upd H1 _ _=I at t2 p2 ⊢;show⟨Ao,λJ uO=>?_⟩;have t3:=t2.new (u:=.lst []) uO;have p3:Ah I (upd I J<|.lst []):=.new uO;generalize upd I _ _=H3 at t3 p3 ⊢;show⟨Ao,λL uP=>?_⟩;have t4:=t3.new (u:=.lst []) uP;have p4:Ah H3 (upd H3 L<|.lst []):=.new uP;generalize upd H3 _ _=H4 at t4 p4 ⊢;refine  ⟨t4.get<|by simp,NV long ln J L,rfl,(by change 5<=15;decide),?_⟩;rw[show HL [] (NV long ln J L)=Em long ln J L []from rfl];have t5:At (upd H4 O<|.dK (Em long ln J L [])) ((O,.dK<|Em long ln J L [])::(([]:List ar).map (λa=>(a,HO.dK []))++((ln,.lst<|aq.map V.str)::(J,.lst [])::(L,.lst [])::C))):=by have kU:At H4 ((O,.dK [])::(ln,.lst<|aq.map V.str)::(J,.lst [])::(L,.lst [])::C):=t4.perm<|show([(O,HO.dK []),(ln,HO.lst<|aq.map V.str),(J,HO.lst []),(L,HO.lst [])]++C).Perm ([(O,HO.dK []),(ln,HO.lst<|aq.map V.str),(J,HO.lst []),(L,HO.lst [])].reverse++C)from ya C (List.reverse_perm _).symm;exact kU.kG
  have p5:Ah H4 (upd H4 O<|.dK (Em long ln J L [])):=.chg (o:=.dK []) (t4.get<|by simp) rfl;have uQ:Ah H (upd H4 O<|.dK (Em long ln J L [])):=p1.trans<|p2.trans (p3.trans<|p4.trans p5);generalize upd H4 _ _=H5 at t5 uQ ⊢;generalize hD:(ln,HO.lst<|aq.map V.str)::(J,.lst [])::(L,.lst [])::C=D at t5;have mlD:(l,.lst<|zs.map V.str)∈D:=by rw[<-hD];simp[ml]
  have mgD:(g,.lst<|ts.map Bp)∈D:=by rw[<-hD];simp[cM]
  clear p5 p4 p3 p2 p1 t4 t3 t2 t1
  show⟨Ao,λwt nwt=>?_⟩;have s6:=(Aj.refl H5).upd (o:=.tup<|F8.map V.str) nwt;have e6:(upd H5 wt<|.tup (F8.map V.str)) wt=some (.tup<|F8.map V.str):=Aq;have ew:upd H5 wt (.tup [.str "way",.str "figures",.str "many",.str "train",.str "end",.str "why",.str "held",.str "stuck",.str "shares"])=upd H5 wt (.tup<|F8.map V.str):=rfl;rw[ew];generalize upd H5 _ _=H6 at s6 e6 ⊢;refine Cd wt rfl ⟨⟨_,.of e6⟩,AaK (K:=K) (a:=wt) (xs:=F8.map V.str) (λi σ I=>∃as x,σ=[some<|.ref pt,some<|.int long,some<|.ref l,some<|.int n,some<|.ref g,some<|.ref O,x,none,none,none]/\as.length=i/\At I ((O,.dK<|Em long ln J L as)::(as.map (λa=>(a,HO.dK []))++D))/\Ah H6 I) ⟨[],none,rfl,rfl,t5.same s6,.refl⟩ (λi σ I _ ⟨_,_,_,_,_,p⟩=>.of<|p.t e6) ?_ ?_⟩
  .intro i v σ I hi zq;replace zq:=BA zq;obtain⟨as,x,rfl,la,t7,p7⟩:=zq;rw[T6]at hi;obtain⟨z,hz,rfl⟩:=As<|UG.mp hi;ext;intro b nb;have t8:At (upd I b<|.dK []) ((O,.dK<|Em long ln J L as)::((as++[b]).map (λa=>(a,HO.dK []))++D)):=by
    rw [Ui];exact At.mid (P:=[_]) (M:=as.map λa=>(a,HO.dK [])) (R:=D) (u:=.dK []) t7 nb
   have p8:Ah I (upd I b<|.dK []):=.new nb;generalize upd I _ _=H3 at t8 p8 ⊢;show A9 O _ rfl (.k (k:=.inr z) t8.hd ?_) ?_
   .have:(Em long ln J L as).length<=14:=by
     unfold Em;rw[UK,List.length_zipWith];change 5+min 9 as.length<=14;omega
    rw [TZ];omega
   rw [Ahz long ln J L as b<|by rwa[la]];exact⟨as++[b],_,rfl,by rw[UK,la];rfl,t8.kG,p7.trans<|p8.trans (.chg t8.hd rfl)⟩
  .intro σ H7 zq;replace zq:=BA zq;obtain⟨as,x,rfl,la,t7,p7⟩:=zq;obtain⟨a1,a2,a3,a4,a5,a6,a7,a8,a9,rfl⟩:=AhA la;clear la
   obtain⟨W,hW⟩:∃W:VW,W={ w:=O,ln:=ln,q:=J,dn:=L,sp:=0,st:=0,fa:=λd=>match d with|.way=>a1|.ae=>a2|.ag=>a3|.ao=>a5|.why=>a6,ka:=λe=>match e with|.ax=>a4|.aC=>a7|.aR=>a8|.shr=>a9,long:=long,mark:=0,lns:=aq,qs:=[],ds:=[],kx:=[],kf:=λ_=>[],ff:=λ_ _=>.aa,kz:=λ_=>[],la:=λ_ _=>0,lv:=λ_ _=>[],dq:=[],du:=[] }:=⟨_,rfl⟩;have eW:W.w=O:=by rw[hW]
   have t8:At H7 (W.C C):=by rw[show W.C C=(O,.dK<|Em long ln J L [a1,a2,a3,a4,a5,a6,a7,a8,a9])::(ln,.lst<|aq.map V.str)::(J,.lst [])::(L,.lst [])::(a1,.dK [])::(a2,.dK [])::(a3,.dK [])::(a5,.dK [])::(a6,.dK [])::(a4,.dK [])::(a7,.dK [])::(a8,.dK [])::(a9,.dK [])::C by rw[hW];rfl];refine t7.perm<|K8 λc=>?_;rw[<-hD];simp only[UR,Xi,Wa,YC,YY];omega
   have jS:∀{H'} {W':VW} {R:Ax},At H' (W'.C<|R++C)->H' l=some (.lst<|zs.map V.str):=λt=>t.get<|VW.inR (U5 _ ml);show⟨⟨_,.of<|jS (R:=[]) t8⟩,EL (K:=K) (a:=l) (xs:=zs.map V.str) (λi σ I=>∃ff la lv y,σ=[some<|.ref pt,some<|.int long,some<|.ref l,some<|.int n,some<|.ref g,some<|.ref O,x,y,none,none]/\At I (VW.C { W with kf:=λ_=>zs.take i,ff:=ff,kz:=up (λ_=>[]) .ax<|zs.take i,la:=la,lv:=lv } C)/\Ah H7 I/\(∀z∈zs.take i,∀d,ff d z=(Ci z).vv d)/\∀z∈zs.take i,lv .ax z=[]) ⟨W.ff,W.la,W.lv,none,rfl,(by rw[show up (λ_=>[]) Fl.ax (zs.take 0)=W.kz by rw[hW];exact Nu];rw[hW]at t8 ⊢;exact t8),.refl,(λz m=>nomatch m),λz m=>nomatch m⟩ (λi σ I _ ⟨_,_,_,_,_,t,_⟩=>.of<|jS (R:=[]) t) ?_ ?_⟩
   .intro i v σ I hi zq;replace zq:=DN zq;obtain⟨ff,la,lv,y,rfl,t9,p9,hf,hv⟩:=zq;rw[T6]at hi;obtain⟨z,hz,rfl⟩:=As<|UG.mp hi;have et:zs.take (i+1)=zs.take i++[z]:=by rw[VR,hz];rfl
    have nz:z ∉ zs.take i:=by have:(zs.take<|i+1).Nodup:=zn.sublist<|Zj _ _;rw[et]at this;exact λm=>(VP.mp this).2.2 z m z (Um.mpr rfl) rfl
    ext;dsimp only[BP];refine T2 ⟨_,C,z,by rw[<-eW];rfl,t9,nz,λ_=>rfl,(by change(zs.take i).length<=1000;rw[VM];omega),λH3 l3 iG uu=>?_⟩;have iG:At H3 (VW.C { W with kf:=λ_=>zs.take i++[z],ff:=λd=>up (ff d) z<|(Ci z).vv d,kz:=up (up (λ_=>[]) .ax<|zs.take i) .ax<|zs.take i++[z],la:=A0 la .ax z l3,lv:=A0 lv .ax z [] } C):=iG;rw[AhE]at iG;refine Bx _ _ _ _ rfl (by rwa[et]) (p9.trans uu) (λy m d=>?_) λy m=>?_
    .by_cases c:y=z
     .subst c;exact FC
     .rw[et]at m;exact(Fc c).trans (hf y ((UD.mp m).resolve_right λk=>c<|Um.mp k) d)
    .by_cases c:y=z
     .subst c;exact C6
     .rw[et]at m;exact(Df λk=>c k.2).trans (hv y<|(UD.mp m).resolve_right λk=>c<|Um.mp k)
   .intro σ H8 zq;replace zq:=DN zq;obtain⟨ff,la,lv,y,rfl,t9,p9,hf,hv⟩:=zq;rw[TN,Vn]at t9 hf hv;have gE:H8 g=some (.lst<|ts.map Bp):=t9.get<|VW.inR cM;show⟨Ao,λt0 nt0=>?_⟩;have jh:=(Aj.refl H8).upd (o:=.tup [.str "",.int n]) nt0;have lD:(upd H8 t0<|.tup [.str "",.int n]) t0=some (.tup [.str "",.int n]):=Aq;generalize upd H8 _ _=eX at jh lD ⊢;refine⟨Ao,λg1 ng1=>?_⟩;have jT:=(Aj.refl eX).upd (o:=.lst [.ref t0]) ng1;have uR:(upd eX g1<|.lst [.ref t0]) g1=some (.lst [.ref t0]):=Aq;generalize upd eX _ _=jO at jT uR ⊢;show TY (TY<|Bj g1 g _ _ rfl rfl uR (jT _ _<|jh _ _ gE) (by rw[TN,TZ];change 1+ts.length<=_;omega) (λg2 jU=>?_));obtain⟨Y,iO⟩:∃Y:List Pr,Y=(t0,TU "",n)::ts:=⟨_,rfl⟩;rw[show[V.ref t0]++ts.map Bp=Y.map Bp by rw[iO];rfl];have iI:=(t9.same<|jh.trans jT).pf (o:=.lst<|Y.map Bp) jU;have pH:Ah H8 (upd jO g2<|.lst (Y.map Bp)):=(Ah.of<|jh.trans jT).trans<|.new jU;have lay0:∀t∈Y,(upd jO g2<|.lst (Y.map Bp)) t.1=some (.tup [.str t.2.1,.int t.2.2]):=λt m=>by
     rw [iO]at m;rcases T9.mp m with rfl|m
     .exact (Ah.new jU).t (jT _ _ lD)
     .exact (uQ.trans<|(Ah.of s6).trans (p7.trans<|p9.trans pH)).t (lay t m)
    have fN:(Y.map (·.2.1)).Nodup:=by rw[iO];refine Uu.mpr ⟨λm=>?_,gn⟩;obtain⟨t,mt,et⟩:=As<|Uc.mp m;have:=(gd t mt).1.1;rw[et]at this;have this:(1:Int)<=((TU "").length:Int):=this;exact absurd this<|by decide
    have nb0:∀t∈Y,0<=t.2.2/\t.2.2<=60:=λt m=>by
     rw [iO]at m;rcases T9.mp m with rfl|m
     .exact ⟨by change 0<=n;omega,n1⟩
     .have:=(gd t m).2.2;omega
    have l0:Y.length<=41:=by rw[iO,U2];omega
    generalize upd jO _ _=iH at iI pH lay0 ⊢;refine Cd g2 rfl ⟨⟨_,.of iI.vr.hd⟩,EL (K:=K) (a:=g2) (xs:=Y.map Bp) (λi σ I=>∃kz la lv y1 y2,σ=[some<|.ref pt,some<|.int long,some<|.ref l,some<|.int n,some<|.ref g,some<|.ref O,x,y,y1,y2]/\At I (VW.C { W with kf:=λ_=>zs,ff:=ff,kz:=kz,la:=la,lv:=lv } ((g2,.lst<|Y.map Bp)::C))/\Ah iH I/\kz .ax=zs/\(∀e,e≠.ax->kz e=(Y.take i).map (·.2.1))/\(∀z∈zs,lv .ax z=[])/\∀t∈Y.take i,NW lv t) ⟨_,la,lv,none,none,rfl,iI,.refl,FC,(λe n=>Fc n),hv,λt m=>nomatch m⟩ (λi σ I _ ⟨_,_,_,_,_,_,t,_⟩=>.of t.vr.hd) ?_ ?_⟩
    .intro i v σ I hi zq;replace zq:=Io zq;obtain⟨kz,la,lv,y1,y2,rfl,u1,pu,k1,k2,v1,v2⟩:=zq;rw[T6]at hi;obtain⟨B,ht,rfl⟩:=As<|UG.mp hi;have mt:=Ug ht;obtain⟨b0,b1⟩:=nb0 B mt;have et:Y.take (i+1)=Y.take i++[B]:=by rw[VR,ht];rfl
     have nw:B.2.1 ∉ (Y.take i).map (·.2.1):=by have:((Y.take<|i+1).map (·.2.1)).Nodup:=fN.sublist<|(Zj _ _).map _;rw[et,Ui]at this;exact λm=>(VP.mp this).2.2 _ m _ (Um.mpr rfl) rfl
     have nk:∀e,e≠.ax->B.2.1 ∉ kz e:=λe n=>by rwa[k2 e n]
     have lk:∀e,e≠.ax->(kz e).length<=1000:=λe n=>by rw[k2 e n,TN,VM];omega
     show⟨B.1,_,rfl,.of<|pu.t (lay0 B mt),rfl,?_⟩;show⟨Ao,λsv qd=>?_⟩;show TY (TY ⟨sv,B.2.2,[.aa],rfl,rfl,Aq,by omega,by omega,(by rw[Ve,TZ];omega),λha nha=>?_⟩);rw[Fw];obtain⟨H3,e,u2,q2⟩:=AG<|u1.rep qd nha;rw[e];clear e;rw[<-eW];show u2.fld ?_;show u2.nL (P:=[]) (nk .aC λe=>nomatch e) (lk .aC λe=>nomatch e) λH4 u3 q3=>?_;show⟨Ao,λb2 qe=>?_⟩;show TY (TY ⟨b2,B.2.2,[.bl false],rfl,rfl,Aq,by omega,by omega,(by rw[Ve,TZ];omega),λja nja=>?_⟩);rw[Fw];obtain⟨uE,e,u4,q4⟩:=AG<|u3.rep qe nja;rw[e];clear e;show u4.fld ?_;show u4.nL (P:=[]) (nk .aR λe=>nomatch e) (lk .aR λe=>nomatch e) λH6' u5 q5=>?_;show⟨Ao,λb3 nb3=>?_⟩;show TY (TY ⟨b3,B.2.2,[.int 0],rfl,rfl,Aq,by omega,by omega,(by rw[Ve,TZ];omega),λsa nsa=>?_⟩);rw[Fw];obtain⟨lH,e,u6,q6⟩:=AG<|u5.rep nb3 nsa;rw[e];clear e;show u6.fld ?_;show u6.nL (P:=[]) (nk .shr λe=>nomatch e) (lk .shr λe=>nomatch e) λH8' u7 q7=>?_;refine  ⟨_,_,_,_,_,(by rw[eW];rfl),u7,by walk_at "p",k1,λe n=>?_,v1,λt m=>?_⟩
     .rw[et,Ui];cases e with
      |ax=>exact absurd rfl n
      |aC=>change kz .aC++_=_;rw[k2 .aC n];rfl
      |aR=>change kz .aR++_=_;rw[k2 .aR n];rfl
      |shr=>change kz .shr++_=_;rw[k2 .shr n];rfl
     .rw[et]at m;rcases UD.mp m with m|m
      .have n:t.2.1≠B.2.1:=λe=>nw (by rw[<-e];exact Uc.mpr ⟨t,m,rfl⟩);have k:∀e,A0 (A0 (A0 lv .aC B.2.1<|T1 B.2.2.toNat V.aa) .aR B.2.1<|T1 B.2.2.toNat (V.bl false)) .shr B.2.1 (T1 B.2.2.toNat<|V.int 0) e t.2.1=lv e t.2.1:=λe=>(Df λc=>n c.2).trans<|(Df λc=>n c.2).trans (Df λc=>n c.2);obtain⟨f1,f2,f3⟩:=AU<|v2 t m;exact⟨(k _).trans f1,(k _).trans f2,(k _).trans f3⟩
      .rw[Um.mp m];change NW (A0 (A0 (A0 lv .aC B.2.1<|T1 B.2.2.toNat V.aa) .aR B.2.1<|T1 B.2.2.toNat (V.bl false)) .shr B.2.1<|T1 B.2.2.toNat (V.int 0)) B;exact⟨(NX (e:=Fl.aC) (d:=.shr)<|by decide).trans<|(NX (e:=Fl.aC) (d:=.aR)<|by decide).trans C6,(NX (e:=Fl.aR) (d:=.shr)<|by decide).trans C6,C6⟩
    .intro σ jR zq;replace zq:=Io zq;obtain⟨kz,la,lv,y1,y2,rfl,u1,pu,k1,k2,v1,v2⟩:=zq;rw[TN,Vn]at k2 v2;have uS:W.kx=[]:=by rw[hW]
     rw [<-eW];show⟨Ao,λb1 qd=>?_⟩;show TY (TY<|BC b1 n [.int 0] rfl ⟨rfl,Aq,by omega,by omega,(by rw[Ve,TZ];omega),λsp nsp=>?_⟩);rw[Fw];obtain⟨uw,e,u2,q2⟩:=AG<|u1.rep qd nsp;rw[e];clear e;show u2.nX [(.inr "spots",.ref sp)] (by unfold VW.kv;dsimp only;rw[uS];rfl) (by unfold VW.kv;rw[show VW.kx { W with kf:=λ_=>zs,ff:=ff,kz:=kz,la:=la,lv:=lv }=[]from uS];change 14<sizeLine;decide) λH15 u3 q3=>?_;show⟨Ao,λb2 qe=>?_⟩;show TY (TY<|BC b2 n [.int 0] rfl ⟨rfl,Aq,by omega,by omega,(by rw[Ve,TZ];omega),λst nst=>?_⟩);rw[Fw];obtain⟨H16,e,u4,q4⟩:=AG<|u3.rep qe nst;rw[e];clear e;show u4.nX [(.inr "spots",.ref sp),(.inr "steps",.ref st)] rfl (by change 15<sizeLine;decide) λjP u5 q5=>?_;show q jP { W with kf:=λ_=>zs,ff:=ff,kz:=kz,la:=la,lv:=lv,kx:=[(.inr "spots",.ref sp),(.inr "steps",.ref st)],sp:=sp,st:=st,dq:=T1 n.toNat 0,du:=T1 n.toNat 0 } ?_ ?_ ?_
     .show At jP (VW.C _ ((sp,.lst<|(T1 n.toNat 0).map V.int)::(st,.lst<|(T1 n.toNat 0).map V.int)::C));rw[Ho,VW.app];rw[VW.app]at u5;exact(u5.perm<|List.Perm.append_left _ (.swap ..)).sub ((Xq _).append<|.cons₂ _ (.cons₂ _<|.cons _ (.refl _)))
     .intro bY dX bq qb tJ;exact AhD zn z1 pm gD bq qb tJ g0 iO fN k1 (λ_=>rfl) k2 hf v1 v2 (by rw[hW]) (by rw[hW]) (by rw[hW]) (by rw[hW]) rfl rfl rfl<|by rw[hW]
     .have p6:=Ah.of s6;walk_at "p"
def Ff:AM ["draw","long","figures","k"] ["draw","long"] (Ae<|top 43):=.of
def AhI:Gm (Ae<|top 43) "range":=.of
def AhJ(F:AI K "_law_number" "_law_number" (top 43) f fd)(T:Txt K mg a):AB P w K mg base Au 1 f fd ["draw","long"] QP:=by
 refine F.ok Ff.fs λaj A outer s H vs Q E O h=>?_
 .obtain ⟨d,l,rfl,l0,l1,q⟩:=h;have hu:=O.units;have nd:=Ff.fs.nd;refine⟨_,(@Af _ _ _ _ _ (A4 2 Ff Ag)
    (Af (CM U6 rfl (HH AhI T.c9<|Ab (Aa 1 Ff) Ac) (BR 3 Ff) (Af (A4 2 Ff<|Av B5 (Aa 2 Ff) (AY AZ Ag (Av BM (Aa 0 Ff) Am) λ_ _=>rfl))
     (Ak<|A4 0 Ff (Av EM (Aa 0 Ff) Am))))
    (Ak<|AD (Aa 2 Ff)))),?_⟩
  try dsimp only[av,aw]
  show⟨by omega,by omega,Hv (n:=l.toNat) (λi σ D=>∃(d:Int)(z:bf)(x:Option V),σ=[some<|.int d,some<|.int l,some<|.str z,x]/\D=H/\z.length=i/\Dj z) ?_ ?_ ?_⟩
  .exact ⟨d,_,none,rfl,rfl,rfl,λc hc=>absurd hc<|by change ¬c∈[];simp⟩
  .intro i σ D hi I;replace I:=C7 I;obtain⟨d,z,x,rfl,rfl,B,hd⟩:=I;ext;obtain⟨c,Y,e2⟩:=As<|GV (xs:=(TU "0123456789").cps.toList) (k:=d%10) (by omega) (by change d%10<10;omega);have J:∀m:Nat,m<10->∀c,(TU "0123456789").cps.toList[m]?=some c->48<=c/\c<=57:=by
    intro m hm c hc;have k:(TU "0123456789").cps.toList.all (λc=>decide (48<=c/\c<=57))=true:=by decide +kernel
    simpa using VN.mp k c (Ug hc)
   have kc:=J _ (by omega) c e2;refine TY<|TY (CS _ _ c rfl rfl (by decide +kernel) Y ?_);refine TY<|T2 (CQ _ _ rfl rfl ?_ ?_)
   .rw[B,TZ];change i+1<=_;omega
   show A2 _ _ _ rfl rfl ?_ ?_
   .rw[FR,Kv,UK,<-FR,B];rfl
   .intro e L;rw[Kv]at L;rcases UD.mp L with h|h
    .exact hd e h
    .have:e=c:=by simpa using h
     rwa[this]
  .intro σ D I;replace I:=C7 I;obtain⟨d,z,x,rfl,rfl,B,hd⟩:=I;ext;exact q z B hd
def Tg{xs:List Int}{i:Int}(D:0<=i)(I:i<xs.length):∃z,Cb (xs.map V.int) i=some (.int z)/\z∈xs:=by
 obtain⟨v,J,B⟩:=As<|GV (xs:=xs.map V.int) D (by rwa[TN]);rw[T6]at B;cases q:xs[i.toNat]? with
 |none=>rw[q]at B;cases B
 |some z=>rw[q]at B;cases B;exact⟨z,J,Ug q⟩
def AhK{xs:List bf}{i:Int}(D:0<=i)(I:i<xs.length):∃z,Cb (xs.map V.str) i=some (.str z)/\z∈xs:=by
 obtain⟨v,J,B⟩:=As<|GV (xs:=xs.map V.str) D (by rwa[TN]);rw[T6]at B;cases q:xs[i.toNat]? with
 |none=>rw[q]at B;cases B
 |some z=>rw[q]at B;cases B;exact⟨z,J,Ug q⟩
def Th(ks:List bf):(ks.map V.str).all DQ=true:=by rw[Z3,VN];exact λ_ _=>rfl
def Ds.put (h:Ds H ts)(B:H g=some (.lst xs)):Ds (upd H g o) ts:=λt m=>by
 rw [Aw<|JN (h t m) B (by intro z;cases z)];exact h t m
def AhL (B:0<=k):(DY z none<|some k).cps.toList=z.cps.toList.take k.toNat:=by
 obtain⟨n,rfl⟩:=YJ B;change(Ft z.cps.toList none<|some (n:Int)).toArray.toList=_;unfold Ft;rw[HT.aak,HT.aaj,wR,Nat.sub_zero];have:(n:Int).toNat=n:=rfl;rw[this];simp only[yp];by_cases h:n<=z.cps.toList.length
 .rw[Nat.min_eq_left h]
 .rw[Nat.min_eq_right<|by omega,Vn,ZC<|by omega]
def AhM (B:0<=k)(D:k<=z.length):(DY z none<|some k).length=k.toNat:=by rw[FR,AhL B,VM,<-FR];omega
noncomputable def Ti(z:bf)(k:Nat):bf:=DY z none (some (1+(k:Int)))
def AhN (h:k+1<=z.length):(Ti z k).length=k+1:=by unfold Ti;rw[AhM (by omega)<|by omega];omega
def Tj(xs:List Int)(v k:Int)(hk:(xs.length:Int)=k:=by rfl)(h:0<k:=by decide):∃z,Cb (xs.map V.int) (v%k)=some (.int z)/\z∈xs:=Tg (V2 _<|by omega)<|by rw[hk];exact V3 _ h
def AhO{p:bf->Prop}{zs ys:List bf}(h:∀z∈zs,p z)(q:∀z∈ys,p z):∀z∈zs++ys,p z:=λz m=>(UD.mp m).elim (h z)<|q z
def drawn{B:List Int}{b i:Int}(h:∀v∈B,0<=v/\v<b)(D:0<=i)(I:i<B.length):∃e,Cb (B.map V.int) i=some (.int e)/\0<=e/\e<b:=by obtain⟨e,J,L⟩:=As<|Tg D I;exact⟨e,J,h e L⟩
def AhP{zs:List bf}{i:Nat}{y:V}(h:(zs.map V.str)[i]?=some y):∃z,y=.str z/\zs[i]?=some z:=by
 rw [T6]at h;cases q:zs[i]? with
 |none=>rw[q]at h;cases h
 |some z=>rw[q]at h;cases h;exact⟨z,rfl,rfl⟩
local macro_rules | `(tactic| walk_at "s")=>`(tactic| first | assumption | exact BI.get ‹_› | (refine (by first | assumption | exact BI.same ‹_›:Aj _ _) _ _ ?_;walk_at "s"))
local macro_rules | `(tactic| walk_at "S")=>`(tactic| first | assumption | exact Aj.refl _ | exact BI.same ‹_› | (refine Aj.trans ?_ (by first | assumption | exact BI.same ‹_›);walk_at "S"))
local macro_rules | `(tactic| walk_at "g")=>`(tactic| (walk_at"";repeat (refine T2 (Bx _ _ _ _ rfl rfl (.of (by walk_at "s")) (by first | assumption | rfl) ?_);walk_at"")))
def Tn(K:TH)(a:An):Sp:=λvs H Q _=>∃(pt l g:ar)(long n:Int)(zs:List bf)(ts:List Pr)(C:Ax),vs=[.ref pt]/\At H C/\H pt=some (.tup [.int long,.ref l,.int n,.ref g])/\(l,.lst (zs.map V.str))∈C/\(g,.lst (ts.map Bp))∈C/\Ds H ts/\Jp long n zs ts /\
 ∀(H':Hp)(X:HX)(aq:List bf)(aZ:List Pr),HT K a H' X C->X.S=cL long aq n (aZ.map (·.2))->aq.Perm zs->aq.Pairwise CV->aZ.Perm ts->WF X.S->WX X.S->Ah H H'->Q (.ref X.h) H'
def JM:AM ["parts"] ["parts"] (Ae<|top 57):=.of
def AhQ:Gm (Ae<|top 57) "Hall":=.of
def AhR:Gm (Ae<|top 57) "Plan":=.of
def To:Gm (Ae<|top 57) "list":=.of
def AhS(F:AI K "_law_hall" "_law_hall" (top 57) f fd)(T:Ij P w K mg a)(acj:Gu P w K mg base Au 4 a.ah "Hall" ["self","plan"] (So K a))(ack:Gu P w K mg base (AJ P w) 3 a.Plan "Plan" ["self","long","lines","seekers","groups"] (Ro a K))(pc:KL K a.Plan):AB P w K mg base Au 6 f fd ["parts"] (Tn K a):=by
 refine F.ok JM.fs λaj A outer s H vs Q E hr h=>?_
 .obtain ⟨pt,l,g,long,n,zs,ts,C,rfl,t2,acm,ml,cM,lay,I,q⟩:=h;have hu:=hr.units;have acn:=I;obtain⟨⟨uL,lo1,n0,n1⟩,⟨⟨z0,z1⟩,zd,zn⟩,⟨g0,gd,gn⟩⟩:=AU acn;refine⟨_,(@Ak _ _ _ (AD (Ja acj AhQ hr.d AN (Ab (Ja ack AhR hr.d Gn (Ab (AY AZ (Aa 0 JM) Am (λ_ _=>rfl)) (Ab (Cs (Fu rfl) To T.cv EA (Ab (AY AZ (Aa 0 JM) Am (λ_ _=>rfl)) Ac)) (Ab (AY AZ (Aa 0 JM) Am (λ_ _=>rfl)) (Ab (Cs (Fu rfl) To T.cv EA (Ab (AY AZ (Aa 0 JM) Am (λ_ _=>rfl)) Ac)) Ac))))) Ac)))),?_⟩;try dsimp only[av,aw]
  walk_at "w";refine .inl (A9 l _ rfl (.inl (.of (t2.get ml))) (λl2 cw=>?_));have O:BI H (upd H l2 (.lst (zs.map V.str))) l2 (.lst (zs.map V.str)):=⟨cw,rfl⟩;generalize upd H _ _=H3 at O ⊢;have e3:=O.same _ _ acm;walk_at "w";refine .inl (A9 g _ rfl (.inl (.of (O.same _ _ (t2.get cM)))) (λg2 jU=>?_));have n4:BI H3 (upd H3 g2 (.lst (ts.map Bp))) g2 (.lst (ts.map Bp)):=⟨jU,rfl⟩;generalize upd H3 _ _=Y at n4 ⊢;have t4:=t2.same (O.same.trans n4.same);walk_at"";intro pl B npl uT gx;have uU:(upd Y B (.own pl)) pl=none:=by rw[Aw (UC gx)];exact npl
  have t5:=(t4.new (u:=.own pl) uT).new (u:=.ins a.Plan B []) uU;have s5:Aj Y (upd (upd Y B (.own pl)) pl (.ins a.Plan B [])):=((Aj.refl Y).upd uT).upd uU;have e5:(upd (upd Y B (.own pl)) pl (.ins a.Plan B [])) pl=some (.ins a.Plan B []):=Aq;generalize upd (upd Y _ _) _ _=H5 at t5 s5 e5 ⊢;have uV:=O.same.trans (n4.same.trans s5);have aco:Ds H5 ts:=λt m=>uV _ _ (lay t m);refine Gk pl long l2 n g2 a.Plan B zs ts rfl ⟨e5,pc,⟨s5 _ _ (n4.same _ _ O.get),s5 _ _ n4.get,aco,λz m=>⟨(zd z m).2.asc,by have:=(zd z m).1;omega⟩,λt m=>⟨(gd t m).2.1.asc,by have:=(gd t m).1.2;omega⟩,by omega,by omega⟩,λ_ H6 lt gt aq aZ x6 e6 aU kT D gD J _=>?_,λng=>absurd I ng⟩;have t6:=At.init (N:=[]) t5 x6 e6 (λc m=>nomatch m) .nil;have p6:Ah H5 H6:=At.ak (C:=[(pl,.ins a.Plan B [])]) (t5.sub (.cons₂ _ (List.nil_sublist _))) x6 (λw m=>by simpa using m) (λc m=>by rw[Um.mp m];rfl);walk_at"";intro h L nh uW nhd;have uX:(upd H6 L (.own h)) h=none:=by rw[Aw (UC nhd)];exact nh
  have t7:=(t6.new (u:=.own h) uW).new (u:=.ins a.ah L []) uX;have s7:Aj H6 (upd (upd H6 L (.own h)) h (.ins a.ah L [])):=((Aj.refl H6).upd uW).upd uX;generalize upd (upd H6 _ _) _ _=H7 at t7 s7 ⊢;have p7:Ah H H7:=(Ah.of uV).trans (p6.trans (.of s7));have uY:(aZ.map (·.2.1)).Nodup:=(J.map _).nodup_iff.mpr gn;have uZ:∀t∈aZ,t.2.1≠TU ""/\0<=t.2.2/\t.2.2<=10:=λt m=>by
   obtain⟨⟨u1,_⟩,_,u2,u3⟩:=AU<|gd t (J.mem_iff.mp m);refine⟨λc=>?_,u2,by omega⟩;rw[c]at u1;exact absurd u1 (by decide)
  refine⟨h,L,pl,B,lt,gt,long,n,aq,aZ,_,rfl,t7,by simp,pc,s7 _ _ aU,s7 _ _ kT,λt m=>p7.t (lay t (J.mem_iff.mp m)),D.nodup_iff.mpr zn,uY,(λt m=>let ⟨a,b,c⟩:=uZ t m;⟨a,b,by omega⟩),by rw[J.length_eq];omega,by rw[D.length_eq];exact z1,by omega,n1,λH8 X eh eS t8 p8=>?_⟩;rw[<-eh];refine⟨rfl,q H8 X aq aZ (t8.sub (.cons _ (.cons _ (.cons _ (.refl _))))) eS D gD J ?_ (λln m=>?_) (p7.trans p8)⟩
  .rw[eS];refine WF.cL uL (by omega) (D.nodup_iff.mpr zn) (by rw[D.length_eq];omega) (by rw[D.length_eq];exact z1) n0 n1 (by rw[Uq];exact uY) (λp m=>?_) (λz m=>?_) (λp m=>?_) (λz m=>(zd z (D.mem_iff.mp m)).1) (λp m=>?_) λz m=>(zd z (D.mem_iff.mp m)).2
   .obtain ⟨t,mt,rfl⟩:=Uc.mp m;exact uZ t mt
   .have:=zd z (D.mem_iff.mp m);exact⟨⟨this.2.asc,by omega⟩,by omega⟩
   .obtain ⟨t,mt,rfl⟩:=Uc.mp m;have:=gd t (J.mem_iff.mp mt);exact⟨this.2.1.asc,by have:=this.1.2;omega⟩
   .obtain ⟨t,mt,rfl⟩:=Uc.mp m;exact(gd t (J.mem_iff.mp mt)).1.2
  .rw[eS]at m;obtain⟨z,_,rfl⟩:=As<|Uc.mp m;exact⟨Hm,(λp m=>nomatch m),.aa⟩
structure En(K:TH)(a:An)(b:ar)(H:Hp)(X:HX)(W:VW)(R:Ax)(dl:List ar)(ds:List PyData):Prop where
 bt:BD K a b H X W R
 wf:WF X.S
 wx:WX X.S
 dn:X.dn=dl.map V.ref
 td:BW K H dl ds
 ld:∀d∈ds,Be 2 d
noncomputable def Bg.data:Bg->PyData
 |.bh b w k=>.tuple [.str (GC b),.str w,.int k]
 |.line d z=>.tuple [.str d.wo,.str z]
def AhT (d:Bg)(h:H dd=some (.tup d.vals)):Is K H (.ref dd) d.data:=by
 cases d with
 |bh b w k=>exact .tup (.of h)<|.cons (.str _) (.cons (.str _)<|.cons (.int _) .nil)
 |line d z=>exact .tup (.of h)<|.cons (.str _) (.cons (.str _) .nil)
def AhU(d:Bg)(t:d.txt):Be 2 d.data:=by
 cases d with
 |bh b w k=>exact(Be.tup (n:=0)<|EH (.str<|by cases b<;>exact asc) (.str t.1) (.int _)).up<|by decide
 |line d z=>exact(Be.tup (n:=0)<|GH (.str<|by cases d<;>exact asc) (.str t.1)).up<|by decide
def AhV(d:Bg):Cm d.data=true:=by cases d<;>rfl
section
variable {K:TH}{a:An}{b:ar}{H H':Hp}{X:HX}{W:VW}{R R':Ax}{dl:List ar}{ds:List PyData}{l:ar}{o:HO}
def BD.add(t:BD K a b H X W R)(s:Aj H H')(n:H l=none)(e:H' l=some o):BD K a b H' X W ((l,o)::R):=by refine⟨⟨?_,t.h.ok.ak<|.of s⟩,t.w.ak<|.of s,t.b⟩;have h:At H' ((l,o)::_):=⟨λc m=>(T9.mp m).elim (λz=>by rwa[z]) λm=>s _ _<|t.h.t.at_ c m,Uu.mpr ⟨t.h.t.free n,t.h.t.nd⟩⟩;rw[F7,VW.dW,<-Uk]at h;rw[F7,VW.dW,<-Uk];exact h.back
def BD.sub(t:BD K a b H X W R)(s:R'.Sublist R):BD K a b H X W R':=by refine⟨t.h.sub ?_,t.w,t.b⟩;rw[VW.dW,VW.dW (R:=R)];exact(Xq _).append s
def BD.r(t:BD K a b H X W R):At H R:=by have z:=t.h.t;rw[F7,VW.dW]at z;exact z.right.right
def En.same(t:En K a b H X W R dl ds)(s:Aj H H'):En K a b H' X W R dl ds:=⟨t.bt.same s,t.wf,t.wx,t.dn,t.td.ak<|.of s,t.ld⟩
def En.sub(t:En K a b H X W R dl ds)(s:R'.Sublist R):En K a b H X W R' dl ds:=⟨t.bt.sub s,t.wf,t.wx,t.dn,t.td,t.ld⟩
def En.add(t:En K a b H X W R dl ds)(s:Aj H H')(n:H l=none)(e:H' l=some o):En K a b H' X W ((l,o)::R) dl ds:=⟨t.bt.add s n e,t.wf,t.wx,t.dn,t.td.ak<|.of s,t.ld⟩
def At.acp (t:At H (W.A ((l,o)::A6 a X (C++R)))):At H (A6 a X ((l,o)::C++W.A R)):=by apply At.toH (C:=(l,o)::C);rw[VW.dW]at t ⊢;rw[F7]at t;rw[F7 (R:=(l,o)::C++R)];exact t.perm (K8 λc=>by simp only[vO,YY,Wa];omega)
end
def DD(H:Hp)(z:bf)(xs:List ar):Prop:=∀x∈xs,∃d:LW,H x=some (.tup [.str d.wo,.str z])
def DD.ak (h:DD H z xs)(s:Ah H B):DD B z xs:=λx m=>let ⟨d,e⟩:=h x m;⟨d,s.t e⟩
def DD.app (h:DD H z xs)(k:DD H z ys):DD H z (xs++ys):=λx m=>(UD.mp m).elim (h x)<|k x
def AhW (h:48<=c/\c<=57):Yb ⟨#[c]⟩=some ((c:Int)-48):=by
 have B:∀m:Nat,m<10->Yb ⟨#[48+m]⟩=some (m:Int):=by decide +kernel
 have e:=B (c-48) (by omega);rw[show 48+(c-48)=c by omega]at e;rw[e];congr 1;omega
def AhX{c:Nat}(h:48<=c/\c<=57):∃m:Int,Cb [V.int 10,.int 1,.int 2,.int 3,.int 4,.int 5,.int 6,.int 7,.int 8,.int 9] ((c:Int)-48)=some (.int m)/\0<=m/\m<=11:=by
 have h:c=48\/c=49\/c=50\/c=51\/c=52\/c=53\/c=54\/c=55\/c=56\/c=57:=by omega
 rcases h with rfl|rfl|rfl|rfl|rfl|rfl|rfl|rfl|rfl|rfl<;>exact⟨_,rfl,by decide,by decide⟩
def Tp (h:Dj z):Dj (DY z lo B):=λc hc=>by
 have hc:c∈(Ft z.cps.toList lo B).toArray.toList:=hc;unfold Ft at hc;rw[yp]at hc;exact h c<|List.mem_of_mem_drop (wW hc)
def Tq(K:TH):Sp:=λvs H Q _=>∃(b:ar)(W:VW)(S:PS)(R:Ax)(i:Nat)(ln:Ln)(z:bf),vs=[.ref b,.str ln.num,.str z]/\WD K b H W S R/\S.lns[i]?=some ln/\Dj z/\z.length<=9/\ln.ae.length<100 /\
 ∀H' l xs,Aj H H'->H l=none->H' l=some (.lst (xs.map V.ref))->DD H' ln.num xs->xs.length<=120->Q (.ref l) H'
def Eo:AM ["world","line","goal","deeds","figure"] ["world","line","goal"] (Ae<|top 59):=.of
def AhY:Gm (Ae<|top 59) "len":=.of
def AhZ:Gm (Ae<|top 59) "int":=.of
def Ah0(F:AI K "_law_pulsed" "_law_pulsed" (top 59) f fd)(T:Ij P w K mg a):AB P w K mg base Au 1 f fd ["world","line","goal"] (Tq K):=by
 refine F.ok Eo.fs λaj A outer s H vs Q E hr h=>?_
 .obtain ⟨b,W,S,R,i,ln,z,rfl,t,cV,dz,lz,lf,q⟩:=h;have hu:=hr.units;have nd:=Eo.fs.nd;refine⟨_,(@Af _ _ _ _ _ (A4 3 Eo<|Bb Ac)
    (Af (CM U6 rfl (PK<|II IT (Aa 2 Eo) (IH<|Bc BQ AhY T.n_len BJ (Ab (Ap P w K (Ap P w K (Aa 0 Eo) Ag)<|Aa 1 Eo) Ac)) IG) (BR 4 Eo)<|Ak (A4 3 Eo<|Av B5 (Av B5 (Aa 3 Eo)<|Av B9 (Bb<|Ab (Bm<|Ab Ag (Ab (Aa 1 Eo) Ac)) Ac) (AY AZ (Bb<|Ke rfl) (Cs Jc AhZ T.gX IU<|Ab (Aa 4 Eo) Ac) λ_ _=>rfl)) (Bb<|Ab (Bm<|Ab Ag (Ab (Aa 1 Eo) Ac)) Ac)))
    (Ak<|AD (Aa 3 Eo)))),?_⟩
  try dsimp only[av,aw]
  have bb:start ["world","line","goal","deeds","figure"] [V.ref b,.str ln.num,.str z]=[some<|.ref b,some<|.str ln.num,some<|.str z,none,none]:=rfl;simp only[bb,VE,VF];show⟨Ao,λl0 H0 n0=>?_⟩;have t:=t.same n0.same;left;refine T2<|Cd ln.ae rfl ?_;refine⟨by rw[TZ];omega,?_⟩;show T2 (EO z rfl (by rw[TZ];omega) ?_);have dy:Dj (DY z (some (ln.ae.length:Int)) none):=Tp dz;have ly:(DY z (some (ln.ae.length:Int)) none).cps.toList.length<=9:=by have:=Pz z (some (ln.ae.length:Int)) none;rw[<-FR];omega
  generalize DY z (some (ln.ae.length:Int)) none=y at dy ly ⊢;show⟨Rb dy.asc,Ace (z:=y) (λi σ H'=>∃I B v,σ=[some<|.ref b,some<|.str ln.num,some<|.str z,some<|.ref I,v]/\Aj H H'/\H I=none/\H' I=some (.lst<|B.map V.ref)/\DD H' ln.num B/\B.length<=13*i) ⟨l0,[],none,rfl,n0.same,n0.n,n0.get,(λx m=>nomatch m),Ua _⟩ ?_ ?_⟩
  .intro i c σ H' hc zq;replace zq:=F9 zq;obtain⟨I,B,v,rfl,sm,cw,c5,dd,lx⟩:=zq;have dc:=dy c<|Ug hc;have il:=(UM.mp hc).1;obtain⟨m,em,m0,m1'⟩:=AG<|AhX dc;show⟨Ao,λD H1' L=>?_⟩;refine⟨Ao,λl3 qg m2=>?_⟩;show⟨Ao,λl jB O=>?_⟩;show TY (TY<|CQ _ _ rfl (AhW dc) (by change 1<=640;decide) ?_);refine T2<|Cc (.of O.get) em ?_;show TY (TY<|BC l3 m [V.ref D] rfl ⟨rfl,O.same _ _ m2.get,by omega,by omega,(by rw[Ve,TZ];omega),λl4 eN=>?_⟩);rw[Fw,<-Ho];have Y:BI jB (upd jB l4<|.lst ((T1 m.toNat D).map V.ref)) l4 (.lst<|(T1 m.toNat D).map V.ref):=⟨eN,rfl⟩;generalize upd jB _ _=qh at Y ⊢;refine TY<|TY (Bj I l4 _ _ rfl rfl ((L.same.trans<|m2.same.trans (O.same.trans Y.same)) _ _ c5) Y.get (by rw[TN,TN,U3,TZ];omega) λl5 ni=>?_);rw[<-Ui];have m4:BI qh (upd qh l5<|.lst ((B++T1 m.toNat D).map V.ref)) l5 (.lst<|(B++T1 m.toNat D).map V.ref):=⟨ni,rfl⟩;generalize upd qh _ _=uE at m4 ⊢;show⟨Ao,λJ H6' m5=>?_⟩;refine⟨Ao,λl6 lH m6=>?_⟩;refine TY<|TY (Bj l5 l6 _ _ rfl rfl ((m5.same.trans m6.same) _ _ m4.get) m6.get (by rw[TN,UK,U3,TZ];change _+1<=_;omega) λl8 fO=>?_);rw[show(B++T1 m.toNat D).map V.ref++[V.ref J]=(B++T1 m.toNat D++[J]).map V.ref by rw[Ui (l₂:=[J])];rfl];have m7:BI lH (upd lH l8<|.lst ((B++T1 m.toNat D++[J]).map V.ref)) l8 (.lst<|(B++T1 m.toNat D++[J]).map V.ref):=⟨fO,rfl⟩;generalize upd lH _ _=H8' at m7 ⊢;have sA:=m2.same.trans<|O.same.trans (Y.same.trans<|m4.same.trans (m5.same.trans<|m6.same.trans m7.same));refine BC l8 (B++T1 m.toNat D++[J]) _ rfl ⟨sm.trans<|L.same.trans sA,(sm.trans<|L.same.trans (m2.same.trans<|O.same.trans (Y.same.trans<|m4.same.trans (m5.same.trans m6.same)))).free fO,m7.get,?_,?_⟩
   .refine ((dd.ak<|.of (L.same.trans sA)).app λx m=>?_).app λx m=>?_
    .rw[(Z9.mp m).2];exact⟨.cg,sA _ _ L.get⟩
    .rw[Um.mp m];exact⟨.gap,(m6.same.trans m7.same) _ _ m5.get⟩
   .rw[UK,UK,U3,Ve];omega
  .intro σ H9 zq;replace zq:=F9 zq;obtain⟨I,B,v,rfl,sm,cw,c5,dd,lx⟩:=zq;ext;exact q H9 I B sm cw c5 dd<|by omega
def DG(H:Hp)(xs:List ar):Prop:=∀x∈xs,∃d:Bg,H x=some (.tup d.vals)/\d.txt
def Tr(K:TH):Sp:=λvs H Q _=>∃(b:ar)(W:VW)(S:PS)(R:Ax)(v:Int),vs=[.ref b,.int v]/\WD K b H W S R/\WF S/\0<=v/\v<1440000000 /\
 ∀H' l xs,Aj H H'->H l=none->H' l=some (.lst (xs.map V.ref))->DG H' xs->xs.length<=120->Q (.ref l) H'
theorem Ts:∀{vs:List V},(∀v∈vs,v=.aa\/∃z,v=.str z/\BY z)->∃ds,aW K H vs ds/\(∀d∈ds,Be 0 d)/\ds.length=vs.length
 |[],_=>⟨[],.nil,(λd m=>nomatch m),rfl⟩
 |v::vs,h=>by
  obtain⟨ds,a,b,c⟩:=Ts λu m=>h u (Uy v m);rcases h v UI with rfl|⟨z,rfl,k⟩
  .exact ⟨.none::ds,.cons .aa a,λd m=>(T9.mp m).elim (λe=>by rw[e];exact .aa) (b d),congrArg (·+1) c⟩
  .exact ⟨.str z::ds,.cons (.str z) a,λd m=>(T9.mp m).elim (λe=>by rw[e];exact .str k) (b d),congrArg (·+1) c⟩
def Ah1 (g:WG S)(I:AQ S u=some r):∀v∈Cp S u r.1,v=.aa\/∃z,v=.str z/\BY z:=by
 intro v J;obtain⟨k,B,e⟩:=List.mem_iff_getElem.mp J;obtain⟨D,L,O⟩:=As<|La g I (Uh<|by rwa[F6]at B);have:v=D:=by have h:=Uh B;rw[e,show(Cp S u r.1)[k]?=some D from L]at h;exact(Us h).symm
 subst this;rcases O with ⟨_,rfl⟩|⟨_,z,rfl,_,Y⟩
 .exact .inl rfl
 .exact .inr ⟨z,rfl,Y.1⟩
def Tt{S:PS}(pos:0<S.lns.length)(v:Int):∃(m:Nat)(ln:Ln),S.lns[m]?=some ln/\Cb ((S.lns.map (·.num)).map V.str) (v%(S.lns.length:Int))=some (.str ln.num):=by have D:=V2 v (show(S.lns.length:Int)≠0 by omega);have J:=V3 v (show 0<(S.lns.length:Int) by omega);obtain⟨m,I⟩:=YJ D;obtain⟨ln,B⟩:∃ln,S.lns[m]?=some ln:=⟨_,Uh (by omega)⟩;exact⟨m,ln,B,by rw[I];exact Fm (by rw[T6,T6,B];rfl)⟩
def Tu:EN ["world","draw","line","goal","kind","wheres","where","way","other"] ["world","draw"] (Ae<|top 60):=.of
def FF:Gv (Ae<|top 60) "world":=by walk_at "k"
def Hq:Nm (Ae<|top 60) "draw":=.of
def Ik:Nm (Ae<|top 60) "line":=.of
def NY:Nm (Ae<|top 60) "goal":=.of
def Ll:Nm (Ae<|top 60) "kind":=.of
def NZ:Nm (Ae<|top 60) "wheres":=.of
def N0:Nm (Ae<|top 60) "where":=.of
def Lm:Nm (Ae<|top 60) "way":=.of
def N1:Nm (Ae<|top 60) "other":=.of
def Ah2:Gm (Ae<|top 60) "int":=.of
def Ah3:Gm (Ae<|top 60) "_law_pulsed":=.of
def Lp:Gm (Ae<|top 60) "len":=.of
def Ah4:Gm (Ae<|top 60) "sorted":=.of
def N2:Scope:={ kind:=.function,names:=[(".0",.local),("where",.local),("world",.free)],isGenerator:=false,isCoroutine:=false,more:=[] }
def Tv:BK N2 (Ae<|top 60) ["where","world"] ["world","draw","line","goal","kind","wheres","where","way","other"] [none,some 0]:=BK.mk' rfl (by decide +kernel) (by decide +kernel) (by decide +kernel) (by decide +kernel) rfl<|by decide +kernel
def N3:Nm N2 "where":=.of
def Ah5:FP N2 "world":=by walk_at "k"
def Ah6(F:AI K "_law_deeds" "_law_deeds" (top 60) f fd)(T:Ij P w K mg a)(qi:Bt P w K mg base Au 1 "_law_pulsed" ["world","line","goal"] (Tq K)):AB P w K mg base Au 2 f fd ["world","draw"] (Tr K):=by
 refine F.ok Tu λaj A outer s H vs Q E hr h=>?_
 .obtain ⟨b,W,S,R,v,rfl,t,wf,v0,v1,q⟩:=h;have hu:=hr.units;have Y:=Tu.nd;have g:=wf.g;have pos:=g.pos;refine⟨_,(@Af _ _ _ _ _ (DB 2 Y Ik (AY AZ (Ap P w K (AS 0 FF) Ag) (Av BM (Az 1 Hq) (Bc BQ Lp T.n_len BJ (Ab (Ap P w K (AS 0 FF) Ag) Ac))) (λ_ _=>rfl)))
    (Af (DB 3 Y NY (AY AZ (Ap P w K (AS 0 FF) Ag) (Av BM (Av EM (Az 1 Hq) Am) (Bc BQ Lp T.n_len BJ (Ab (Ap P w K (AS 0 FF) Ag) Ac))) (λ_ _=>rfl)))
    (Af (DB 4 Y Ll (Av BM (Av EM (Az 1 Hq) Am) Am))
    (Af (AR (AL (B2 hu) (Az 4 Ll) Am (AW _)) (Af (HJ (j:=5) rfl Y rfl (T2 NZ.loc) Tv (Dw (Bc (QM rfl) Ah4 T.g8 IV (Ab (Ap P w K (AS 0 FF) Ag) Ac))) (λcl C fp π s₂ H₂=>(Dc 0 Tv.nd N3.comp)) (λcl C fp π s₂ H₂=>(IY (AL (AcN K rfl hu) (Ap P w K (Ap P w K (GX 1 Ah5.comp) Ag) (Az 0 N3.comp)) (Bb Ac) (AW _)))) (λcl C fp π s₂ H₂=>(Az 0 N3.comp)) (by rfl) (by intro _;rfl) (T2 rfl))
     (Af (DB 6 Y N0 (AY AZ (Bb (Ab Ag (Ab (AY AZ (Az 5 NZ) (Av BM (Av EM (Az 1 Hq) Am) (Bc BQ Lp T.n_len BJ (Ab (Az 5 NZ) Ac))) (λ_ _=>rfl)) Ac))) (Av BM (Av EM (Az 1 Hq) Am) Am) (λ_ _=>rfl)))
     (Ak (AD (Bb (Ab (Bm (Ab (AY AZ (Bb (Ab Ag (Ab Ag Ac))) (Av BM (Av EM (Az 1 Hq) Am) Am) (λ_ _=>rfl)) (Ab (Az 6 N0) (Ab (Av BM (Av EM (Az 1 Hq) Am) (Bc BQ Lp T.n_len BJ (Ab (Ap P w K (Ap P w K (AS 0 FF) Ag) (Az 6 N0)) Ac))) Ac)))) Ac)))))) AV)
    (Af (DB 7 Y Lm (Ap P w K (Ap P w K (AS 0 FF) Ag) (Az 2 Ik)))
    (Af (AR (AL Gp (Az 7 Lm) (Bm (Ab Ag (Ab Ag Ac))) (by with_unfolding_all rfl)) (Ak (AD (Bb (Ab (Bm (Ab Ag (Ab (Az 2 Ik) Ac))) Ac)))) AV)
    (Af (AR (PW.pt (Ea (AL (B2 hu) (Az 7 Lm) Ag (AW _)) (Ep (AL FL (Az 4 Ll) Am (AW _))))) (Ak (AD (Bf qi Ah3 hr.d AN (Ab (AS 0 FF) (Ab (Az 2 Ik) (Ab (Az 3 NY) Ac)))))) AV)
    (Af (AR (PW.pt (Ea (AL Gp (Az 7 Lm) (Bm (Ab Ag (Ab Ag Ac))) (by with_unfolding_all rfl)) (Ep (AL FL (Az 4 Ll) Am (AW _))))) (Af (DB 8 Y N1 (QL (Ap P w K (Ap P w K (AS 0 FF) Ag) (Az 2 Ik)) (Iu (Az 3 NY))))
     (Ak (AD (II IT (Bb (Ab (Bm (Ab Ag (Ab (Az 8 N1) Ac))) Ac)) IG (IH (Cs Jc Ah2 T.gX IU (Ab (GN Gp (Ap P w K (Ap P w K (AS 0 FF) Ag) (Az 8 N1)) (Bm (Ab Ag (Ab Ag Ac))) (by with_unfolding_all rfl)) Ac))))))) AV)
    (Ak (AD (Bb (Ab (Bm (Ab Ag (Ab (Az 2 Ik) Ac))) Ac)))))))))))),?_⟩
  try dsimp only[av,aw]
  have bb:start ["world","draw","line","goal","kind","wheres","where","way","other"] [V.ref b,V.int v]=[some (.ref b),some (.int v),none,none,none,none,none,none,none]:=rfl;simp only[bb,VE,VF];obtain⟨i,ln,O,ei⟩:=Bv<|Tt (by omega) v;obtain⟨j,lg,qj,ej⟩:=Bv<|Tt (S:=S) (by omega) (v / 60);walk_at "w";refine TY (A9 _ _ rfl (.inl (.of t.lns)) ?_);rw[TN,TN];refine CQ _ _ rfl rfl (by omega) ?_;refine T2 (Bx _ _ _ (.str ln.num) rfl rfl (.of t.lns) ei ?_);walk_at "w";refine TY (A9 _ _ rfl (.inl (.of t.lns)) ?_);rw[TN,TN];refine CQ _ _ rfl rfl (by omega) ?_;refine T2 (Bx _ _ _ (.str lg.num) rfl rfl (.of t.lns) ej ?_);walk_at "w";by_cases c:v / 3600%20=0
  .rw[show decide ((λi j=>V.int (i%j)) (v / 3600) 20=V.int 0)=true from c8 (congrArg V.int c)];refine B6 ?_;walk_at "w";refine BC _ _ (W.kz .aC) rfl ⟨.of (t.t.vk .aC),(by change Va _ (Va _ _)=_;rw[Uq];rfl),t.ok.un,t.ok.ul,λl1 ts f9 pm _=>?_⟩;have I:BI H (upd H l1 (.lst (ts.map V.str))) l1 (.lst (ts.map V.str)):=⟨f9,rfl⟩;generalize upd H _ _=H1 at I ⊢;have t1:=t.same I.same;walk_at "w";refine⟨⟨_,.of I.get⟩,λD nD=>?_⟩;refine Kh (K:=K) (a:=l1) (xs:=ts.map V.str) (λi σ' H'=>∃x us,σ'=[x,some (.ref b)]/\Aj H1 H'/\H' D=some (.lst (us.map V.str))/\(∀u∈us,∃r,AQ S u=some r/\r.1≠[])/\us.length<=i/\(TU ""∈ts.take i->us≠[])) ⟨none,[],rfl,(Aj.refl H1).upd nD,Aq,(λu m=>nomatch m),Ua _,(λm=>by simp at m)⟩ (λi σ H' _ ⟨_,_,_,sm,_⟩=>.of (sm _ _ I.get)) ?_ ?_
   .intro i y σ' H' hi zq;replace zq:=Il zq;obtain⟨x,us,rfl,sm,hD,lI,gU,qk⟩:=zq;rw[T6]at hi;obtain⟨u,hk,rfl⟩:=As<|UG.mp hi;have t2:=t1.same sm;obtain⟨r,er⟩:=XW.mp ((t2.ok.rz u).mp (pm.mem_iff.mp (Ug hk)));walk_at "w";refine⟨Ao,λle H2 B=>?_⟩;obtain⟨ds,is,ly,dl⟩:=AG<|Ts (K:=K) (H:=H2) (Ah1 g er);rw[F6]at dl;have u9:=Be.lst ly;refine TY ⟨.list ds,.list [],.lst (.of ((t2.same B.same).aC er)) is,.lst (.of B.get) .nil,u9.c,rfl,(by have:=u9.k;omega),?_⟩;have tk:ts.take (i+1)=ts.take i++[u]:=by rw[yq,hk];rfl
    walk_at"";cases e1:r.1 with
    |nil =>
     have:ds=[]:=ZA.mp (by rw[dl,e1];rfl);subst this;rw[show(if true=true then !(WS []).eqv (WS []) else(WS []).eqv (WS []))=false by decide];refine BN ⟨_,us,rfl,sm.trans B.same,B.same _ _ hD,lI,by omega,λm=>qk ?_⟩;rw[tk]at m;rcases UD.mp m with m|m
     .exact m
     .rw[<-Um.mp m]at er;have:r.1=S.sk.hs:=by rw[show AQ S (TU "")=some (S.sk.hs,S.sk.js,S.sk.ts)from br rfl]at er;rw[<-Us er]
      have m0:=g.m0;have m1:=g.m1;rw[<-this,e1]at m1;exact absurd m1 (by change ¬_<(0:Int);omega)
    |cons y ys =>
     obtain⟨d0,iP,rfl⟩:∃d0 iP,ds=d0::iP:=by
      cases ds with
      |nil=>rw[e1]at dl;cases dl
      |cons d0 iP=>exact⟨d0,iP,rfl⟩
     rw [show(if true=true then !(WS (d0::iP)).eqv (WS []) else(WS (d0::iP)).eqv (WS []))=true by simp[Xm,PyData.eqvAll]];refine B6 ?_;show⟨_,B.same _ _ hD,(by rw[TN,TZ];have:=(UM.mp hk).1;have:=pm.length_eq;have:=t.ok.ul;omega),_,us++[u],rfl,(sm.trans B.same).bI ?_,?_,λz m=>?_,by rw[UK];change _+1<=_;omega,λ_ c=>by simp at c⟩
     .exact nD
     .rw[Aq,Ui];rfl
     .rcases UD.mp m with m|m
      .exact lI z m
      .rw[Um.mp m];exact⟨r,er,by rw[e1];exact λc=>nomatch c⟩
   intro σ' H5 zq;replace zq:=Il zq;obtain⟨x,us,rfl,s5,hD,lI,gU,qk⟩:=zq;have ql:us≠[]:=qk (by rw[TN,Vn];exact pm.mem_iff.mpr ((t.ok.rz _).mpr (by rfl)));have ul:us.length<64:=by rw[TN]at gU;have:=pm.length_eq;have:=t.ok.ul;omega
   walk_at "w";refine TY (A9 D _ rfl (.inl (.of hD)) ?_);rw[TN];have p0:0<us.length:=yr.mpr ql;walk_at"";obtain⟨zu,eu,mu⟩:=As<|AhK (xs:=us) (i:=v / 72000%(us.length:Int)) (V2 _ (by omega)) (V3 _ (by omega));refine T2 (Cc (.of hD) eu ?_);show⟨Ao,λl2 H6 J=>?_⟩;obtain⟨wh,ew,fV,lJ,nrw⟩:∃wh,Cb [V.str "",V.str zu] (v / 7%2)=some (.str wh)/\∃r,AQ S wh=some r/\r.1≠[]:=by
    have h2:v / 7%2=0\/v / 7%2=1:=by omega
    rcases h2 with h2|h2<;>rw[h2]
    .refine Cd _ rfl ⟨_,br rfl,λc=>?_⟩;have m0:=g.m0;have m1:=g.m1;rw[show S.sk.hs=[]from c]at m1;exact absurd m1 (by change ¬_<(0:Int);omega)
    .exact ⟨_,rfl,lI zu mu⟩
   have s6:=I.same.trans (s5.trans J.same);have t6:=t.same s6;show T2 (Cc (.of J.get) ew ?_);walk_at "w";refine⟨Ao,λl3 H7 L=>?_⟩;walk_at "w";obtain⟨jb,ejb⟩:∃jb,Cb [V.str "stick",V.str "mend"] (v / 14%2)=some (.str (GC jb)):=by
    have h2:v / 14%2=0\/v / 14%2=1:=by omega
    rcases h2 with h2|h2<;>rw[h2]
    .exact ⟨true,rfl⟩
    .exact ⟨false,rfl⟩
   refine T2 (Cc (.of L.get) ejb ?_);have t7:=t6.same L.same;clear t6 t1 t
   walk_at "w";refine TY (A9 _ _ rfl (.inl (.of (t7.aC lJ))) ?_);rw[F6];have pr:0<fV.1.length:=yr.mpr nrw;show⟨Ao,λp8 H8 n8=>?_⟩;show⟨Ao,λl9 H9 n9=>?_⟩;walk_at"";have zk:Ok wh:=by
    unfold AQ at lJ;by_cases c:wh=TU ""
    .rw[c];exact⟨Hm,by decide⟩
    .rw[cZ c]at lJ;obtain⟨g',eg,_⟩:=As<|UG.mp lJ;have:=wf.g.px g' (EF eg).1;rw[(EF eg).2]at this;exact this
   refine q H9 l9 [p8] ((s6.trans L.same).trans (n8.same.trans n9.same)) (((s6.trans L.same).trans n8.same).free n9.n) n9.get (λx m=>?_) (by simp);rw[Um.mp m];exact⟨.bh jb wh (v / 72000%(fV.1.length:Int)),n9.same _ _ n8.get,zk⟩
  .rw[show decide ((λi j=>V.int (i%j)) (v / 3600) 20=V.int 0)=false from dJ (λe=>c (V.int.inj e))];refine BN ?_;walk_at "w";refine t.jN O ?_;walk_at "w";refine⟨Ao,λu3 H3 n3=>?_⟩;refine TY (Ee u3 _ rfl (.inr (.of n3.get)) rfl rfl ?_);have one:∀(H0 H1 H2:Hp)(p l:ar)(d:LW)(m:Nat)(y:Ln),S.lns[m]?=some y->Aj H H0->BI H0 H1 p (.tup [.str d.wo,.str y.num])->BI H1 H2 l (.lst [.ref p])->Q (.ref l) H2:=by
    intro H0 H1 H2 p l d m y hy s0 I B;refine q H2 l [p] (s0.trans (I.same.trans B.same)) ((s0.trans I.same).free B.n) B.get (λx mx=>?_) (by simp);rw[Um.mp mx];exact⟨.line d y.num,B.same _ _ I.get,(g.tx _ (Du hy)).1⟩
   have t3:=t.same n3.same;cases c1:Ec (.str ln.st) [V.str "rests",V.str "rung"] with
   |true =>
    show⟨Ao,λp H4 n4=>?_⟩;refine⟨Ao,λl H5 n5=>?_⟩;walk_at"";exact one H3 H4 H5 p l .lift i ln O n3.same n4 n5
   |false =>
    walk_at"";rename_i C hC
    have rest:C [some (.ref b),some (.int v),some (.str ln.num),some (.str lg.num),some (.int (v / 3600%20)),none,none,some (.str ln.st),none] H3:=by
     refine hC.use ?_;clear hC C
     show⟨Ao,λu4 H4 n4=>?_⟩;refine TY (Ee u4 _ rfl (.inr (.of n4.get)) rfl rfl ?_);have t4:=t3.same n4.same;walk_at"";rename_i C hC
     have bB:C [some (.ref b),some (.int v),some (.str ln.num),some (.str lg.num),some (.int (v / 3600%20)),none,none,some (.str ln.st),none] H4:=by refine hC.use ?_;show⟨Ao,λp H5 n5=>?_⟩;refine⟨Ao,λl H6 J=>?_⟩;walk_at"";exact one H4 H5 H6 p l .bB i ln O (n3.same.trans n4.same) n5 J
     clear hC
     cases c2:Ec (.str ln.st) [V.str "rings",V.str "waits"] with
     |false =>
      walk_at"";exact bB
     |true =>
      walk_at"";by_cases ck:v / 3600%20<12
      .rw[show decide ((λi j=>i%j) (v / 3600) 20<12)=true from c8 ck];obtain⟨m,y,hy,ey⟩:∃(m:Nat)(y:Ln),S.lns[m]?=some y/\(ln.ao=some y.num\/ln.ao=none/\y=lg):=by
        obtain⟨yw,e1,e2⟩:=As<|(wf.l i ln O).wy;rw[e1]at c2;cases yw<;>first|exact absurd c2 (by decide +kernel)|skip
        .exact ⟨j,lg,qj,.inr ⟨e2.2.1,rfl⟩⟩
        .obtain ⟨_,m,y,hy,_,e,_⟩:=e2;exact⟨m,y,hy,.inl e⟩
       show WD.fld t4 ?_;show t4.pw O ?_;walk_at"";have ny:y.num.length≠0:=by have:=(g.tx _ (Du hy)).2;omega
       clear bB
       rcases ey with ey|⟨ey,rfl⟩<;>rw[ey];refine⟨true,⟨by have:=g.tl _ (Du hy);have:=g.hi;rw[TZ];omega,by simp[ny]⟩,B6 ?_⟩;rotate_left
       refine Cd false rfl (BN ?_);all_goals
        walk_at"";dsimp only[BP];refine⟨Ao,λp H5 n5=>?_⟩;show⟨Ao,λl H6 J=>?_⟩;have t6:=t4.same (n5.same.trans J.same);show WD.fld t6 ?_;show t6.jN hy ?_;show⟨Ao,λu7 H7 L=>?_⟩;refine TY (Ee u7 _ rfl (.inr (.of L.get)) rfl rfl ?_);generalize Ec (.str y.st) [V.str "rests",V.str "rung"]=c3;walk_at"";dsimp only[BP];first|refine T2 (Cd _ rfl ?_)|refine TY (T2 (Cd _ rfl ?_))
        show  TY ⟨l,[.ref p],rfl,A3.of (L.same _ _ J.get),λl8 fO=>?_⟩;have sA:=(n3.same.trans n4.same).trans (n5.same.trans (J.same.trans L.same));have dp:∃d:Bg,H7 p=some (.tup d.vals)/\d.txt:=⟨.line .lift y.num,(J.same.trans L.same) _ _ n5.get,(g.tx _ (Du hy)).1⟩;cases c3 with
        |true=>exact q _ l8 [p] (sA.upd fO) (sA.free fO) Aq (λx m=>by rw[Um.mp m];obtain⟨d,e,k⟩:=As dp;exact⟨d,(Aj.refl H7).upd fO _ _ e,k⟩) (by simp)
        |false=>exact q _ l8 [] (sA.upd fO) (sA.free fO) Aq (λx m=>nomatch m) (by simp)
      .rw[show decide ((λi j=>i%j) (v / 3600) 20<12)=false from dJ ck];walk_at"";exact bB
    clear hC
    by_cases cd:ln.st="dials"
    .rw[show decide (V.str ln.st=V.str (TU "dials"))=true from c8 (congrArg V.str cd)];refine B6 ?_;walk_at"";by_cases ck:v / 3600%20<18
     .rw[show decide ((λi j=>i%j) (v / 3600) 20<18)=true from c8 ck];walk_at"";dsimp only[BP];have lf:=((wf.l i ln O).way (w:=.ba) cd).2.2.2.1;refine ES b W S _ i ln lg.num rfl ⟨t3,O,g.dg _ (Du qj),(by have:=g.tl _ (Du qj);have:=g.hi;omega),(by have:=g.hi;omega),λH' l xs s5 nl e dd lx=>?_⟩;exact q H' l xs (n3.same.trans s5) (n3.same.free nl) e (λx m=>by obtain⟨d,e⟩:=dd x m;exact⟨.line d ln.num,e,(g.tx _ (Du O)).1⟩) lx
     .rw[show decide ((λi j=>i%j) (v / 3600) 20<18)=false from dJ ck];walk_at"";exact rest
    .rw[show decide (V.str ln.st=V.str (TU "dials"))=false from dJ (λe=>cd (V.str.inj e))];refine BN ?_;walk_at"";exact rest
local macro_rules | `(tactic| walk_at "s")=>`(tactic| first | assumption | exact BI.get ‹_› | (refine (by first | assumption | exact BI.same ‹_›:Aj _ _) _ _ ?_;walk_at "s"))
local macro_rules | `(tactic| walk_at "S")=>`(tactic| first | assumption | exact Aj.refl _ | exact BI.same ‹_› | (refine Aj.trans ?_ (by first | assumption | exact BI.same ‹_›);walk_at "S"))
local macro_rules | `(tactic| walk_at "g")=>`(tactic| (walk_at"";repeat (refine T2 (Bx _ _ _ _ rfl rfl (.of (by walk_at "s")) (by first | assumption | rfl) ?_);walk_at"")))
def Tw(K:TH):Sp:=λvs H Q _=>∃(p:ar)(ns:List Int),vs=[.ref p]/\A3 K H p (ns.map V.int)/\ns.length<=63 /\
 ∀(H':Hp)(t:ar)(long:Int)(l:ar)(bz:Int)(g:ar)(zs:List bf)(ts:List Pr),Aj H H'->H' t=some (.tup [.int long,.ref l,.int bz,.ref g])->H' l=some (.lst (zs.map V.str))->H' g=some (.lst (ts.map Bp))->Ds H' ts->Jp long bz zs ts->H t=none->H l=none->H g=none->l≠g->(∀t∈ts,H t.1=none)->Q (.ref t) H'
structure GT(H H':Hp)(long:Int)(ts:List Pr):Prop where
 lay:Ds H' ts
 nd:(ts.map (·.2.1)).Nodup
 aD:ts.length<=40
 ok:∀t∈ts,(1<=(t.2.1.length:Int)/\(t.2.1.length:Int)<=long-2)/\Dj t.2.1/\0<=t.2.2/\t.2.2<=10
 free:∀t∈ts,H t.1=none
def GT.nil:GT H B long []:=⟨(λt m=>nomatch m),VQ,Vc _,(λt m=>nomatch m),(λt m=>nomatch m)⟩
def GT.same (g:GT H B long ts)(s:Aj B D):GT H D long ts:=⟨λt m=>s _ _<|g.lay t m,g.nd,g.aD,g.ok,g.free⟩
def Bl:AM ["script","row","draws","long","lines","k","far","line","groups","size"] ["script"] (Ae<|top 58):=.of
def Tx:Gm (Ae<|top 58) "range":=.of
def N4:Gm (Ae<|top 58) "len":=.of
def Ah7:Gm (Ae<|top 58) "_law_number":=.of
def Tz:Gm (Ae<|top 58) "_law_draws":=.of
def N5:Scope:={ kind:=.function,names:=[(".0",.local),("prefix",.local),("many",.local)],isGenerator:=false,isCoroutine:=false,more:=[] }
def N6:BK N5 (Ae<|top 58) ["prefix","many"] ["script","row","draws","long","lines","k","far","line","groups","size"] [none,none]:=BK.mk' rfl (by decide +kernel) (by decide +kernel) (by decide +kernel) (by decide +kernel) rfl<|by decide +kernel
def TB:Nm N5 "prefix":=.of
def Ah8:Nm N5 "many":=.of
def Ah9(F:AI K "_law_great" "_law_great" (top 58) f fd)(T:TxtP K mg a)(gI:Bt P w K mg base Au 2 "_law_draws" ["script","k","many","base"] (My K))(qm:Bt P w K mg base Au 1 "_law_number" ["draw","long"] QP) :
  AB P w K mg base Au 3 f fd ["script"] (Tw K):=by
 refine F.ok Bl.fs λaj A outer s H vs Q E hr h=>?_
 .obtain ⟨p,ns,rfl,hS,hn,q⟩:=h;have hu:=hr.units;have nd:=Bl.fs.nd;refine⟨_,(@Af _ _ _ _ _ (A4 1 Bl<|Bf gI Tz hr.d AN (Ab (Aa 0 Bl)<|Ab Am (Ab Am<|Ab Am Ac)))
    (Af (A4 2 Bl<|Bf gI Tz hr.d AN (Ab (Aa 0 Bl)<|Ab Am (Ab Am<|Ab Am Ac)))
    (Af (A4 3 Bl<|Av B5 Am (Av BM (AY AZ (Aa 1 Bl) Am λ_ _=>rfl) Am))
    (Af (A4 4 Bl<|Bb Ac)
    (Af (CM U6 rfl (HH Tx T.c9<|Ab Am Ac) (BR 5 Bl) (Af (A4 6 Bl<|Av BM (Av EM (AY AZ (Aa 2 Bl) (Av BM (Aa 5 Bl) Am) λ_ _=>rfl)<|Av B5 Am (Av EM (Aa 5 Bl) Am)) (Av B5 Am<|Av BM (AY AZ (Aa 1 Bl) Am λ_ _=>rfl) Am))
     (Af (A4 7 Bl<|Bf qm Ah7 hr.d AN (Ab (Av B5 (Av B9 (Aa 6 Bl) Am)<|Av B9 (Aa 5 Bl) (Av B5 Am<|Av BM (AY AZ (Aa 1 Bl) Am λ_ _=>rfl) Am))<|Ab (Aa 3 Bl) Ac))
     (Ak<|AR (PW.pt<|Ea (AL Kb (Aa 7 Bl) (Aa 4 Bl)<|by with_unfolding_all rfl) (Ep<|AL FL (Bc BQ N4 T.n_len BJ<|Ab (Aa 4 Bl) Ac) Am (AW _))) (Ak<|A5 (Cr UZ Vf Vg C9 (Aa 4 Bl)<|Ab (Aa 7 Bl) Ac)) AV))))
    (Af (A4 8 Bl<|Bb Ac)
    (Af (CM U6 rfl (Dw<|Aa 4 Bl) (BR 7 Bl)<|Ak (CM U6 rfl (QD Tx T.c9<|Ab Am (Ab (Av Gg (Aa 3 Bl) Am) Ac)) (BR 9 Bl)<|Ak (AR (PW.pt<|Ea (AL FL (Bc BQ N4 T.n_len BJ<|Ab (Aa 8 Bl) Ac) Am<|AW _) (Ep<|AL Kb (II IT (Aa 7 Bl) IG<|IH (Aa 9 Bl)) (LZ rfl N6 (Dw<|Aa 8 Bl) (λcl C fp π s₂ H₂=>(HK (X:=Br _ _ _ cl C fp π s₂ H₂) K rfl 2 rfl (B4 (Dc 0 N6.nd TB.comp)<|B4 (Dc 1 N6.nd Ah8.comp) DU) rfl rfl)) (λcl C fp π s₂ H₂=>GW) λcl C fp π s₂ H₂=>(Az 0 TB.comp)) (by with_unfolding_all rfl))) (Ak<|A5 (Cr UZ Vf Vg C9 (Aa 8 Bl)<|Ab (Bm<|Ab (II IT (Aa 7 Bl) IG<|IH (Aa 9 Bl)) (Ab (Av B5 Am<|Av BM (AY AZ (Aa 2 Bl) (Bc BQ N4 T.n_len BJ<|Ab (Aa 8 Bl) Ac) λ_ _=>rfl) (AY AZ (Bb<|Ab Am (Ab Am Ac)) (Av BM (AY AZ (Aa 1 Bl) Am λ_ _=>rfl) Am) λ_ _=>rfl)) Ac)) Ac)) AV)))
    (Ak<|AD (Bm<|Ab (Aa 3 Bl) (Ab (Aa 4 Bl)<|Ab (AY AZ (Bb<|Ab (Av B5 Am<|Av BM (AY AZ (Aa 1 Bl) Am λ_ _=>rfl) Am) (Ab (Av B5 Am<|Av BM (AY AZ (Aa 1 Bl) Am λ_ _=>rfl) Am) Ac)) (Av BM (Av EM (AY AZ (Aa 1 Bl) Am λ_ _=>rfl) Am) Am) λ_ _=>rfl) (Ab (Aa 8 Bl) Ac))))))))))),?_⟩
  try dsimp only[av,aw]
  symm;refine Dz p ns 0 _ _ rfl ⟨hS,by decide,by decide,hn,by decide,by decide,by decide,by decide,λr row H1 s1 nr fE va vb=>?_⟩;obtain⟨v0,v1,v2,v3,v4,rfl⟩:∃v0 v1 v2 v3 v4,row=[v0,v1,v2,v3,v4]:=by
   match row,va with
   |[_,_,_,_,_],_=>exact⟨_,_,_,_,_,rfl⟩
  obtain⟨b0,b1,b2,b3,b4⟩:_/\_/\_/\_/\_:=by simpa using vb
  clear vb va
  symm;refine Dz p ns 1 _ _ rfl ⟨s1.seq hS,by decide,by decide,hn,by decide,by decide,by decide,by decide,λd dr H2 s2 nd2 hd2 aC lK=>?_⟩;have aC:dr.length=60:=aC;have jv:=s2 _ _ fE;symm;refine⟨Ao,λln H3 n3=>?_⟩;have fln:H ln=none:=(s1.trans s2).free n3.n;have iY:2<=2+v0%3/\2+v0%3<=4:=by omega
  generalize 2+v0%3=long at iY ⊢;symm;refine⟨by omega,by omega,Hv (n:=200) (λi σ qg=>∃x5 x6 x7,σ=[some<|.ref p,some<|.ref r,some<|.ref d,some<|.int long,some<|.ref ln,x5,x6,x7,none,none]/\Aj H2 qg/\∃zs:List bf,qg ln=some (.lst<|zs.map V.str)/\zs.Nodup/\zs.length<=60/\(0<i->0<zs.length)/\∀z∈zs,(z.length:Int)=long/\Dj z) ?_ ?_ ?_⟩
  .exact ⟨none,none,none,rfl,n3.same,[],n3.get,VQ,Vc _,λh=>absurd h<|V5 _,λz J=>absurd J<|by simp⟩
  .intro i σ H4 hi L;replace L:=C7 L;obtain⟨x5,x6,x7,rfl,I,zs,J,jV,lz,pz,oz⟩:=L;simp only[Yi];have i60:(i:Int)%60<60:=V3 _ (by decide);obtain⟨e,ei,eb⟩:=As<|drawn lK (i:=(i:Int)%60) (V2 _<|by decide) (by rwa[aC]);have ii:(i:Int)<200:=by omega
   have qo:=I _ _ hd2;have iB:=I _ _ jv;symm;refine⟨by omega,by omega,λline qc dl=>?_⟩;have ll:(line.length:Int)=long:=by omega
   clear qc
   symm;refine TY<|Ee ln (zs.map V.str) rfl (.inl<|.of J) rfl (Th zs) ?_;simp only[if_true];rw[KZ];symm;by_cases hm:line∈zs
   .rw[c8 hm];symm;exact BC _ _ _ rfl ⟨I,zs,J,jV,lz,λ_=>ZX hm,oz⟩
   .rw[dJ hm];symm;refine TY<|A9 _ _ rfl (.inl<|.of J) ?_;rw[TN];symm;by_cases hl:zs.length<60
    .rw[c8<|show(zs.length:Int)<60 by omega];symm;refine⟨.inl ⟨rfl,_,.of J⟩,?_⟩;symm;refine CS ln _ _ rfl rfl J (by rw[TN,TZ];omega) ?_;refine BC _ _ _ rfl ⟨I.bI n3.n,zs++[line],?_,?_,?_,?_,AhO oz λy hy=>?_⟩
     .rw[Aq,Ui];rfl
     .exact VP.mpr ⟨jV,Uu.mpr ⟨by simp,VQ⟩,λx hx y hy z=>by rw[Um.mp hy]at z;exact hm<|z▸hx⟩
     .rw[UK];simp;omega
     .intro _;rw[UK];simp
     .rw[Um.mp hy];exact⟨ll,dl⟩
    .rw[dJ (show ¬(zs.length:Int)<60 by omega)];symm;exact BC _ _ _ rfl ⟨I,zs,J,jV,lz,λ_=>by omega,oz⟩
  .intro σ H4 L;replace L:=C7 L;obtain⟨x5,x6,x7,rfl,I,zs,J,jV,lz,pz,oz⟩:=L;have lz1:=pz (by decide);clear pz
   have qo:=I _ _ hd2;have iB:=I _ _ jv;symm;refine⟨Ao,λgl H5 n5=>?_⟩;have fgl:H gl=none:=(s1.trans<|s2.trans I).free n5.n;have ngl:ln≠gl:=Ce J n5.n;symm;refine⟨⟨_,.of<|n5.same _ _ J⟩,EL (K:=K) (a:=ln) (xs:=zs.map V.str) (λi σ O=>∃x7 x9,σ=[some<|.ref p,some<|.ref r,some<|.ref d,some<|.int long,some<|.ref ln,x5,x6,x7,some<|.ref gl,x9]/\Aj H4 O/\∃ts:List Pr,O gl=some (.lst<|ts.map Bp)/\GT H O long ts) ⟨x7,none,rfl,n5.same,[],n5.get,GT.nil⟩ (λi σ O _ ⟨_,_,_,I,_⟩=>.of<|I _ _ J) ?_ ?_⟩
   .intro i y σ H6 hi L;replace L:=BA L;obtain⟨x7,x9,rfl,fP,ts,Y,B⟩:=L;obtain⟨z,rfl,hk⟩:=As<|AhP hi;obtain⟨zl,zd⟩:=oz z<|Ug hk;have hd6:=fP _ _ qo;have qp:=fP _ _ iB;symm;refine⟨⟨by omega,by omega,by omega,by omega⟩,Hv (lo:=1) (n:=(long-1-1).toNat) (λj σ O=>∃x9,σ=[some<|.ref p,some<|.ref r,some<|.ref d,some<|.int long,some<|.ref ln,x5,x6,some<|.str z,some<|.ref gl,x9]/\Aj H4 O/\∃ts:List Pr,O gl=some (.lst<|ts.map Bp)/\GT H O long ts) ⟨x9,rfl,fP,ts,Y,B⟩ ?_ λσ O ⟨x9,e,I,ts,Y,B⟩=>⟨_,x9,e,I,ts,Y,B⟩⟩;clear Y B ts fP hd6 qp
    intro j σ H7 hj L;replace L:=AG L;obtain⟨x9,rfl,lL,ts,Y,B⟩:=L;have hd7:=lL _ _ qo;have jC:=lL _ _ iB;symm;refine TY<|A9 _ _ rfl (.inl<|.of Y) ?_;rw[TN];symm;by_cases hl:ts.length<40
    .rw[c8<|show(ts.length:Int)<40 by omega];symm;refine T2<|EO z rfl (by rw[TZ];omega) ?_;have pl:(DY z none<|some (1+(j:Int))).length=j+1:=AhN (by omega);have pd:Dj (DY z none<|some (1+(j:Int))):=Tp zd;generalize gR:DY z none (some<|1+(j:Int))=pre at pl pd ⊢;symm;refine⟨⟨_,.of Y⟩,λD nD=>?_⟩;refine Kh (K:=K) (a:=gl) (xs:=ts.map Bp) (λk σ' O=>∃x y,σ'=[x,y]/\Aj H7 O/\O D=some (.lst (((ts.take k).map (·.2.1)).map V.str))) ⟨none,none,rfl,(Aj.refl H7).upd nD,Aq⟩ (λk σ' O _ ⟨_,_,_,I,_⟩=>.of<|I _ _ Y) ?_ ?_
     .intro k y σ' H8 vc L;replace L:=BA L;obtain⟨x,y',rfl,e9,hD⟩:=L;rw[T6]at vc;obtain⟨t,ht,rfl⟩:=As<|UG.mp vc;have et:=e9 _ _<|B.lay t (Ug ht);have kl:=(UM.mp ht).1;refine⟨t.1,[.str t.2.1,.int t.2.2],rfl,.of et,rfl,?_⟩;ext;have tk:ts.take (k+1)=ts.take k++[t]:=by rw[yq,ht];rfl
      refine⟨_,hD,(by rw[TN,TN,VM,TZ];omega),_,_,rfl,e9.bI nD,?_⟩;rw[Aq,tk,Ui,Ui];rfl
     intro σ' H8 L;replace L:=BA L;obtain⟨x,y',rfl,e9,hD⟩:=L;rw[TN,Vn]at hD;symm;refine TY<|Ee D _ rfl (.inl<|.of hD) rfl (Th _) ?_;simp only[if_true];rw[KZ];symm;have qq:=lL.trans e9;have gE:=e9 _ _ Y;have hd8:=e9 _ _ hd7;have hr8:=e9 _ _ jC;by_cases hm:pre∈ts.map (·.2.1)
     .rw[c8 hm];symm;exact⟨qq,ts,gE,B.same e9⟩
     .rw[dJ hm];symm;refine⟨.inl ⟨rfl,_,.of gE⟩,?_⟩;symm;refine T2<|EO z rfl (by rw[TZ];omega) ?_;rw[gR];symm;refine TY<|A9 _ _ rfl (.inl<|.of gE) ?_;rw[TN];obtain⟨e,ei,eb⟩:=As<|drawn lK (i:=(ts.length:Int)) (by omega) (by omega);symm;refine⟨Ao,λl9 H9 n9=>?_⟩;have hr9:=n9.same _ _ hr8;obtain⟨mx,em,mm⟩:=As<|Tj [2,10] v3 2;have hmx:2<=mx/\mx<=10:=(by decide:∀x∈([2,10]:List Int),2<=x/\x<=10) _ mm;symm;refine⟨Ao,λt9 eX fM=>?_⟩;have sB:=n9.same.trans fM.same;have ev:0<=e%mx/\e%mx<10:=⟨V2 _<|by omega,by have:=V3 e (show 0<mx by omega);omega⟩;have ve:=sB _ _ gE;have gtB:=B.same<|e9.trans sB;have smB:=qq.trans sB;refine CS gl _ _ rfl rfl ve (by rw[TN,TZ];omega) ?_;refine Cd _ rfl ⟨smB.bI n5.n,ts++[(t9,pre,1+e%mx)],?_,?_⟩
      .rw[Aq,Ui];rfl
      .have n9g:t9≠gl:=(Ce (n9.same _ _ gE) fM.n).symm;refine⟨λt m=>?_,?_,by rw[UK];change _+1<=_;omega,λt m=>?_,λt m=>?_⟩
       .rcases UD.mp m with m|m
        .exact Ds.put gtB.lay ve t m
        .rw[Um.mp m];exact(Aw n9g).trans fM.get
       .rw[Ui];exact VP.mpr ⟨B.nd,Uu.mpr ⟨by simp,VQ⟩,λx hx y hy e=>hm<|by rw[Um.mp hy]at e;have e:x=pre:=e;rwa[<-e]⟩
       .rcases UD.mp m with m|m
        .exact B.ok t m
        .rw[Um.mp m];exact⟨⟨by change 1<=(pre.length:Int);omega,by change(pre.length:Int)<=_;omega⟩,pd,by change 0<=1+e%mx;omega,by change 1+e%mx<=10;omega⟩
       .rcases UD.mp m with m|m
        .exact B.free t m
        .rw[Um.mp m];exact((s1.trans<|s2.trans I).trans<|qq.trans n9.same).free fM.n
    .rw[dJ (show ¬(ts.length:Int)<40 by omega)];symm;exact⟨lL,ts,Y,B⟩
   .intro σ H6 L;replace L:=BA L;obtain⟨x7,x9,rfl,fP,ts,Y,B⟩:=L;have qp:=fP _ _ iB;have vg:=I.trans fP;have hz6:=fP _ _ J;symm;refine⟨Ao,λl7 H7 n7=>?_⟩;have jC:=n7.same _ _ qp;obtain⟨n,en,mn⟩:=As<|Tj [1+v4%60,1+v4%9] (v3 / 2) 2;have pX:1<=n/\n<=60:=by
     simp only[T9,UH,or_false]at mn;rcases mn with h|h<;>omega
    symm;refine⟨Ao,λt8 H8 n8=>?_⟩;symm;have sA:=n7.same.trans n8.same;exact q H8 t8 long ln n gl zs ts ((s1.trans<|s2.trans vg).trans sA) n8.get (sA _ _ hz6) (sA _ _ Y) (B.same sA).lay ⟨⟨iY.1,iY.2,pX⟩,⟨⟨by omega,lz⟩,oz,jV⟩,⟨B.aD,B.ok,B.nd⟩⟩ (((s1.trans<|s2.trans vg).trans n7.same).free n8.n) fln fgl ngl B.free
def Lq(K:TH):Sp:=λvs H Q _=>∃(p:ar)(ns:List Int),vs=[.ref p]/\A3 K H p (ns.map V.int)/\ns.length<=63/\∀H',Q (.bl true) H'
def DG.ak (h:DG H xs)(s:Ah H B):DG B xs:=λx m=>let ⟨d,e,t⟩:=h x m;⟨d,s.t e,t⟩
def BX:AM ["script","parts","world","hall","done","at","k","draw","deed","due"] ["script"] (Ae<|top 61):=.of
def Aia:Gm (Ae<|top 61) "len":=.of
def TC:Gm (Ae<|top 61) "_law_shows":=.of
def Aib:Gm (Ae<|top 61) "range":=.of
def Aic:Gm (Ae<|top 61) "enumerate":=.of
def Aid:Gm (Ae<|top 61) "_law_draws":=.of
def Aie:Gm (Ae<|top 61) "_law_deeds":=.of
def Aif:Gm (Ae<|top 61) "_law_answer":=.of
def Aig:Gm (Ae<|top 61) "int":=.of
def Aih:Gm (Ae<|top 61) "isinstance":=.of
def Aii:Gm (Ae<|top 61) "list":=.of
def Aij:Gm (Ae<|top 61) "_law_due":=.of
def Aik:Gm (Ae<|top 61) "_law_hall":=.of
def Ail:Gm (Ae<|top 61) "_law_world":=.of
def Aim:Gm (Ae<|top 61) "_law_great":=.of
def Ain(F:AI K "law" "law" (top 61) f fd)(T:Ij P w K mg a)(gI:Bt P w K mg base Au 2 "_law_draws" ["script","k","many","base"] (My K))(qr:Bt P w K mg base Au 3 "_law_great" ["script"] (Tw K))(qv:Bt P w K mg base Au 2 "_law_world" ["parts"] (Tf K))(qw:Bt P w K mg base Au 6 "_law_hall" ["parts"] (Tn K a))(qx:Bt P w K mg base Au 2 "_law_deeds" ["world","draw"] (Tr K))(qA:Bt P w K mg base Au 10 "_law_answer" ["hall","deed"] (S7 K a))(qB:Bt P w K mg base Au 5 "_law_due" ["world","deed"] (S5 K))(lM:Bt P w K mg base Au 3 "_law_shows" ["hall","world"] (Te K a))(pW:AO P w K mg base Au 1 a.ah "deeds" ["self"] (Hh K a λX=>X.dn)):AB P w K mg base Au 11 f fd ["script"] (Lq K):=by
 refine F.ok BX.fs λaj A outer s H vs Q E Y h=>?_
 .obtain ⟨J,ns,rfl,hS,hn,q⟩:=h;have hu:=Y.units;have nd:=BX.fs.nd;have cls:=T.hc.cls;refine⟨_,(@Af _ _ _ _ _ (A4 1 BX<|Bf qr Aim Y.d AN (Ab (Aa 0 BX) Ac))
    (Af (A4 2 BX<|Bf qv Ail Y.d AN (Ab (Aa 1 BX) Ac))
    (Af (A4 3 BX<|Bf qw Aik Y.d AN (Ab (Aa 1 BX) Ac))
    (Af (A4 4 BX Am)
    (Af (CM U6 rfl (QD Aib T.c9<|Ab Am (Ab Am Ac)) (BR 5 BX) (Ak (CM U6 rfl (L4 Aic T.ji<|Ab (Bf gI Aid Y.d AN<|Ab (Aa 0 BX) (Ab (Aa 5 BX)<|Ab Am (Ab (Av B9 (Av B9 (Av B9 Am Am) Am) Am) Ac))) Ac) (FK rfl<|B4 (BR 6 BX) (B4 (BR 7 BX) DU)) (Af (CM U6 rfl (Dw<|Bf qx Aie Y.d AN (Ab (Aa 2 BX)<|Ab (Aa 7 BX) Ac)) (BR 8 BX) (Af (A4 9 BX<|Bf qB Aij Y.d AN (Ab (Aa 2 BX)<|Ab (Aa 8 BX) Ac))
       (Af (A4 4 BX<|Av B5 (Aa 4 BX) (Cs Jc Aig T.gX IU<|Ab (Bc Gq Aih T.eJ Gs<|Ab (Aa 9 BX) (Ab (Kd (v:=.ty "list") Aii T.cv EA rfl) Ac)) Ac))
       (Ak<|AR (AL (Ez hu) (Bf qA Aif Y.d AN<|Ab (Aa 3 BX) (Ab (Aa 8 BX) Ac)) (Aa 9 BX)<|AW _) (Ak<|AD EK) AV))))
      (Ak<|AR (PW.pt<|Ea (AL (B2 hu) (Av BM (Aa 6 BX) Am) Am<|AW _) (Ep<|Es (Dv<|Bf lM TC Y.d AN (Ab (Aa 3 BX)<|Ab (Aa 2 BX) Ac)))) (Ak<|AD EK) AV)))))
    (Ak<|AD (Lz (Bf lM TC Y.d AN<|Ab (Aa 3 BX) (Ab (Aa 2 BX) Ac))<|Iu (GN (B2 hu) (Bc BQ Aia T.n_len BJ<|Ab (FO pW cls (Aa 3 BX) Y.d AN) Ac) (Aa 4 BX)<|AW _)))))))),?_⟩
  try dsimp only[av,aw]
  show CQ J ns rfl hS hn (λH1 pt long l n g zs ts s1 vh el eg lay good npt nl ng vi nts=>?_);have c0:At H1 [(l,.lst<|zs.map V.str),(g,.lst<|ts.map Bp)]:=by
   refine⟨λc m=>?_,?_⟩
   .simp only[T9,UH,or_false]at m;rcases m with rfl|rfl
    .exact el
    .exact eg
   .simp [vi]
  obtain⟨C0,c1,kS⟩:∃C0:Ax,At H1 ((l,.lst<|zs.map V.str)::(g,.lst<|ts.map Bp)::C0)/\∀D,At D C0->Ah H1 D->A3 K D J (ns.map V.int):=by
   rcases hS with (hS|⟨o,hS⟩)|hS
   .refine ⟨[(J,.lst<|ns.map V.int)],?_,λD t _=>.of t.hd⟩;have n1:J≠l:=Ce hS nl;have n2:J≠g:=Ce hS ng;refine⟨λc m=>?_,?_⟩
    .simp only[T9,UH,or_false]at m;rcases m with rfl|rfl|rfl
     .exact el
     .exact eg
     .exact s1 _ _ hS
    .simp [vi,n1.symm,n2.symm]
   .exact ⟨[],c0,λD _ p=>.inl<|.inr ⟨o,p.f _ _ rfl<|s1 _ _ hS⟩⟩
   .exact ⟨[],c0,λD _ _=>.inr hS⟩
  show Fp pt l g long n zs ts _ rfl ⟨c1,vh,by simp,by simp,lay,good,λH2 W t2 wok p2=>?_⟩;generalize hR:(l,HO.lst<|zs.map V.str)::(g,.lst<|ts.map Bp)::C0=R at t2;show Fp pt l g long n zs ts (W.A R) rfl ⟨t2,p2.t vh,VW.inR<|by rw[<-hR];simp,VW.inR<|by rw[<-hR];simp,λt m=>p2.t<|lay t m,good,λH3 X aq aZ t3 eS pm gD bq wf wx p3=>?_⟩;have b3:BD K a W.w H3 X W R:=⟨t3,by rw[eS];exact(wok aq aZ pm gD bq).ak p3,rfl⟩;have dn3:X.dn=[]:=by
   have:X.S.dn=[]:=by rw[eS];rfl
   exact this
  have kS':∀{D X' W'},BD K a W.w D X' W' R->Ah H1 D->A3 K D J (ns.map V.int):=λt p=>kS _ (by have z:=t.r;rw[<-hR]at z;exact z.tl.tl) p;show⟨by decide,Hv (lo:=2) (n:=3) (λi σ H2=>∃L W2 dl ds x5 x6 x7 x8 x9,σ=[some<|.ref J,some<|.ref pt,some<|.ref W.w,some<|.ref X.h,some<|.int (dl.length:Nat),x5,x6,x7,x8,x9]/\En K a W.w H2 L W2 R dl ds/\L.h=X.h/\dl.length<=7200*i/\Ah H1 H2) ⟨X,W,[],[],none,none,none,none,none,rfl,⟨b3,wf,wx,dn3,.nil,(λd m=>nomatch m)⟩,rfl,Vc _,p2.trans p3⟩ ?_ ?_⟩
  .intro i σ H4 hi zq;replace zq:=Lu zq;obtain⟨L,W2,dl,ds,x5,x6,x7,x8,x9,rfl,B,eh,vj,p4⟩:=zq;rw[<-eh];show Dz J ns _ 60 _ rfl ⟨kS' B.bt p4,by omega,by omega,hn,by decide,by decide,by decide,by decide,λr dr H5 s5 nr vm qC rdr=>?_⟩;have qC:dr.length=60:=qC;have iv5:=B.add s5 nr vm;show Ed _ _ rfl ⟨.of vm,Qe (K:=K) (a:=r) (xs:=dr.map V.int) (λj σ D=>∃O W5 dv gJ y6 y7 y8 y9,σ=[some<|.ref J,some<|.ref pt,some<|.ref W.w,some<|.ref L.h,some<|.int (dv.length:Nat),some<|.int (2+i),y6,y7,y8,y9]/\En K a W.w D O W5 ((r,.lst<|dr.map V.int)::R) dv gJ/\O.h=L.h/\dv.length<=7200*i+120*j/\Ah H5 D) ⟨L,W2,dl,ds,_,_,_,_,rfl,iv5,rfl,vj,.refl⟩ (λj σ D _ ⟨_,_,_,_,_,_,_,_,_,v,_⟩=>.of v.bt.r.hd) ?_ ?_⟩
   .rintro j v t σ D hj ⟨O,W5,dv,gJ,y6,y7,y8,y9,rfl,gK,qD,qE,p5⟩ nt;rw[T6]at hj;obtain⟨c,hc,rfl⟩:=As<|UG.mp hj;obtain⟨c0,c1⟩:=rdr c<|Ug hc;have jl:=(UM.mp hc).1;have n6:BI D (upd D t<|.tup [.int j,.int c]) t (.tup [.int j,.int c]):=⟨nt,rfl⟩;generalize upd D _ _=H6 at n6 ⊢;have gK:=gK.same n6.same;rw[<-qD];refine CQ t _ rfl (.of n6.get) rfl ?_;show AK W.w W5 O.S _ c rfl gK.bt.wd gK.wf c0 c1 (λH7 l7 xs s7 pZ jS dg lx=>?_);have iv7:=gK.add s7 pZ jS;show⟨⟨_,.of jS⟩,EL (K:=K) (a:=l7) (xs:=xs.map V.ref) (λm σ D=>∃I W9 dY gL z8 z9,σ=[some<|.ref J,some<|.ref pt,some<|.ref W.w,some<|.ref O.h,some<|.int (dY.length:Nat),some<|.int (2+i),some<|.int j,some<|.int c,z8,z9]/\En K a W.w D I W9 ((l7,.lst<|xs.map V.ref)::(r,.lst<|dr.map V.int)::R) dY gL/\I.h=O.h/\dY.length<=7200*i+120*j+m/\Ah H7 D) ⟨O,W5,dv,gJ,_,_,rfl,iv7,rfl,qE,.refl⟩ (λm σ D _ ⟨_,_,_,_,_,_,_,v,_⟩=>.of v.bt.r.hd) ?_ ?_⟩
    .intro m v σ D cP zq;obtain⟨I,W9,dY,gL,z8,z9,rfl,B,ik,vn,p9⟩:=zq;rw[T6]at cP;obtain⟨dd,hd,rfl⟩:=As<|UG.mp cP;obtain⟨d,cm,dt⟩:=As<|(dg.ak p9) dd (Ug hd);have il:=(UM.mp hd).1;rw[<-ik];have ldn:I.dn.length<22000:=by rw[B.dn,TN];omega
     show Fo W.w W9 I.S _ d dd rfl ⟨B.bt.wd,B.wf,cm,(by change I.dn.length<_;omega),?_⟩;cases er:Bg.res I.S d with
     |inl e =>
      intro H2 s2;have vo:=B.same s2;show T2 (Dz _ _ _ _ _ rfl ⟨.of<|.str _,rfl,(rfl:Vq K (.type "str") (.type "list")=some false),?_⟩);show T2 (Cd _ rfl ?_);show ER I _ d dd rfl ⟨vo.bt.h,s2 _ _ cm,B.wf,dt,by omega,?_⟩;rw[er];intro H3 s3;have iv3:=vo.same s3;ext;rw[c8 (rfl:V.str e.nm=V.str e.nm)];refine BN ?_;ext;exact⟨I,W9,dY,gL,_,_,rfl,iv3,rfl,by omega,p9.trans<|.of (s2.trans s3)⟩
     |inr rr =>
      intro H2 W3 p3 xs3 t3 q3 td3;show T2 (Dz _ _ _ _ _ rfl ⟨.of<|.lst t3.vr.hd,rfl,Aeg K,?_⟩);show T2 (Cd _ rfl ?_);show ER I _ d dd rfl ⟨⟨At.acp (C:=[]) t3.t,B.bt.h.ok.ak q3⟩,q3.t cm,B.wf,dt,by omega,?_⟩;rw[er];intro H4 X0 p0 xs0 t0 eh0 lN q0 td0;obtain⟨wx3,ly⟩:=B.wx.next B.wf er dd
      show TY ⟨_,_,.lst (.of t0.t.rest.hd) td0.i,.lst (.of t0.t.rest.tl.hd) (td3.ak q0).i,ly.c,ly.c,(by have:=ly.k;omega),?_⟩;rw[Yn _ ly.c];show⟨X0,W3,dY++[dd],gL++[d.data],_,_,(by rw[UK];rfl),⟨⟨t0.sub<|.cons _ (.cons _<|.refl _),by rw[lN];exact t3.ok.ak q0,t3.b⟩,by rw[lN];exact B.wf.next er dd,by rw[lN];exact wx3,?_,(B.td.ak<|q3.trans q0).app<|.one (AhT d<|(q3.trans q0).t cm) (AhV _),λe m=>(UD.mp m).elim (B.ld e) λm=>by rw[Um.mp m];exact AhU d dt⟩,eh0,?_,p9.trans<|q3.trans q0⟩
      .have:X0.S.dn=I.S.dn++[.ref dd]:=by rw[lN];exact B.wf.abE er dd
       rw [show X0.dn=X0.S.dn from rfl,this,show I.S.dn=I.dn from rfl,B.dn,Ui];rfl
      .rw[UK];change _+1<=_;omega
    .intro σ D zq;obtain⟨I,W9,dY,gL,z8,z9,rfl,B,ik,vn,p9⟩:=zq;rw[TN]at vn;have B:=B.sub<|.cons _ (.refl _);have fin:∀H2,Aj D H2->∃vp W5 dv gJ y6 y7 y8 y9,([some<|.ref J,some<|.ref pt,some<|.ref W.w,some<|.ref O.h,some<|.int (dY.length:Nat),some<|.int (2+i),some<|.int j,some<|.int c,z8,z9]:St)=[some<|.ref J,some<|.ref pt,some<|.ref W.w,some<|.ref O.h,some<|.int (dv.length:Nat),some<|.int (2+i),y6,y7,y8,y9]/\En K a W.w H2 vp W5 ((r,.lst<|dr.map V.int)::R) dv gJ/\vp.h=O.h/\dv.length<=7200*i+120*(j+1)/\Ah H5 H2:=λH2 s=>⟨I,W9,dY,gL,_,_,_,_,rfl,B.same s,ik,by omega,p5.trans<|(Ah.of<|n6.same.trans s7).trans (p9.trans<|.of s)⟩;show IM (λ_=>?_) (λ_=>?_)
     .show⟨I,W.w,W9,_,dY,gL,(by rw[ik];rfl),B.bt,B.wf,B.wx,B.dn,B.td,B.ld,λH4 s4=>?_⟩;show BN ?_;ext;exact fin H4 s4
     .show BN ?_;ext;exact fin D<|.refl _
   .intro σ D zq;obtain⟨O,W5,dv,gJ,y6,y7,y8,y9,rfl,gK,qD,qE,p5⟩:=zq;rw[TN,qC]at qE;exact⟨O,W5,dv,gJ,_,_,_,_,_,rfl,gK.sub<|.cons _ (.refl _),qD,by omega,p4.trans<|(Ah.of s5).trans p5⟩
  .intro σ H4 zq;replace zq:=Lu zq;obtain⟨L,W2,dl,ds,x5,x6,x7,x8,x9,rfl,B,eh,vj,p4⟩:=zq;rw[<-eh];show Fo L W.w W2 _ dl ds rfl ⟨B.bt,B.wf,B.wx,B.dn,B.td,B.ld,λH5 s5=>?_⟩;show A2 L.h L.dx _ rfl ((B.bt.h.same s5).t.hd) rfl ?_;show A9 L _ rfl (B.bt.h.same s5) (λl nl=>?_);show TY (A9 _ _ rfl (.inl<|.of Aq) ?_);ext;rw[c8 (show V.int (L.dn.length:Nat)=V.int (dl.length:Nat) by rw[B.dn,TN])];exact q _
open PySem PySem.Spec PyProof.Rows L2
section
variable {K:TH}{mg:bf->Option af}{h:Heap}{CX:Cj}{k:Nat}{x q:bf}{st:Stmt}{ps:List bf}{sp:Sp}{C:ar}{A:An}
def N7(K:TH)(x q:bf)(st:Stmt)(R:ar->Prop):Prop:=∃(f:ar)(oc:af)(od:Option ar)(sl:Array (Option af))(kV dc pm:af)(an:Option ar)(cd ct:af),R f/\K.lookup f=some ⟨oc,od,.func (Vx x q (Ex st) (DV st) (Ae st) .none kV dc pm an cd ct),sl⟩/\Wi K cd q=true/\U8 K (.ref f)=true
structure aX(K:TH)(x q:bf)(st:Stmt):Prop where
 ex:N7 K x q st λf=>Ur K Uj x=some (some (.ref f))
structure aF(K:TH)(C:ar)(x q:bf)(st:Stmt):Prop where
 ex:N7 K x q st λf=>Ue K (.ref C) x=some (some (.ref f))/\Wu K (.ref f)=true
structure cE(K:TH)(A:An)(x q:bf)(st:Stmt):Prop where
 ex:N7 K x q st λf=>Ue K (.ref A.aL) x=some (some (.ref f))/\Ue K (.ref A.aM) x=some (some (.ref f))/\Wu K (.ref f)=true
abbrev Lr(x q:bf)(st:Stmt)(ps:List bf):Prop:=∀(kV doc pm:af)(an:Option ar)(aj ct:af)(us:List af),us.length=ps.length->bindArgs (Vx x q (Ex st) (DV st) (Ae st) .none kV doc pm an aj ct) ⟨us,[]⟩=pure (ps.zip us)
def aX.fn(F:aX K x q st)(P:TR)(w:TL)(base:Heap)(X:K.In h)(G:h.Ns Uj mg)(o:∀f B,AI K x q st f B->AB P w K mg base CX k f B ps sp)(b:Lr x q st ps:=by walk_at "b"):Bt P w K mg base CX k x ps sp:=by obtain⟨f,D,I,J,kV,L,O,V,Y,ct,a,l,c,y⟩:=F.ex;have F:=Hy l c y;exact⟨f,_,UQ X G a,y,F.binds b,o f _ F⟩
def aF.me(F:aF K C x q st)(P:TR)(w:TL)(mg:bf->Option af)(base:Heap)(o:∀f B,AI K x q st f B->AB P w K mg base CX k f B ps sp)(b:Lr x q st ps:=by walk_at "b"):AO P w K mg base CX k C x ps sp:=by obtain⟨f,D,I,J,kV,L,O,V,Y,ct,⟨a,i⟩,l,c,y⟩:=F.ex;have F:=Hy l c y;exact⟨f,_,⟨a,i,y⟩,F.binds b,o f _ F⟩
def aF.lO (F:aF K C "__init__" q st)(P:TR)(w:TL)(mg:bf->Option af)(base:Heap)(g:mg z=some (.ref C))(m:Wv K C=true)(n:U8 K (.ref C)=true)(o:∀f B,AI K "__init__" q st f B->AB P w K mg base CX k f B ps sp)(b:Lr "__init__" q st ps:=by walk_at "b"):Gu P w K mg base CX k C z ps sp:=by obtain⟨f,D,I,J,kV,L,O,V,Y,ct,⟨a,i⟩,l,c,y⟩:=F.ex;have F:=Hy l c y;exact⟨f,_,g,⟨m,a,i,n⟩,F.binds b,o f _ F⟩
def cE.me(F:cE K A x q st)(P:TR)(w:TL)(mg:bf->Option af)(base:Heap)(o:∀f B,AI K x q st f B->AB P w K mg base CX k f B ps sp)(b:Lr x q st ps:=by walk_at "b"):∀C∈A.bw,AO P w K mg base CX k C x ps sp:=by
 obtain⟨f,J,L,O,kV,V,Y,an,cd,ct,⟨a,D,i⟩,l,c,y⟩:=F.ex;have F:=Hy l c y;intro C I;rcases T9.mp I with e|e
 .subst e;exact⟨f,_,⟨a,i,y⟩,F.binds b,o f _ F⟩
 .have e:=Um.mp e;subst e;exact⟨f,_,⟨D,i,y⟩,F.binds b,o f _ F⟩
section
variable {f:ar}{oc:af}{od:Option ar}{sl:Array (Option af)}{kV dc pm:af}{an:Option ar}{cd ct:af}
def aX.of(a:Ur K Uj x=some (some<|.ref f))(l:K.lookup f=some ⟨oc,od,.func<|Vx x q (Ex st) (DV st) (Ae st) .none kV dc pm an cd ct,sl⟩)(c:Wi K cd q=true)(k:U8 K (.ref f)=true):aX K x q st:=⟨⟨_,_,_,_,_,_,_,_,_,_,a,l,c,k⟩⟩
def aF.of(a:Ue K (.ref C) x=some (some<|.ref f))(i:Wu K (.ref f)=true)(l:K.lookup f=some ⟨oc,od,.func<|Vx x q (Ex st) (DV st) (Ae st) .none kV dc pm an cd ct,sl⟩)(c:Wi K cd q=true)(k:U8 K (.ref f)=true):aF K C x q st:=⟨⟨_,_,_,_,_,_,_,_,_,_,⟨a,i⟩,l,c,k⟩⟩
def cE.of(a:Ue K (.ref A.aL) x=some (some<|.ref f))(b:Ue K (.ref A.aM) x=some (some<|.ref f))(i:Wu K (.ref f)=true)(l:K.lookup f=some ⟨oc,od,.func<|Vx x q (Ex st) (DV st) (Ae st) .none kV dc pm an cd ct,sl⟩)(c:Wi K cd q=true)(k:U8 K (.ref f)=true):cE K A x q st:=⟨⟨_,_,_,_,_,_,_,_,_,_,⟨a,b,i⟩,l,c,k⟩⟩
end
end
theorem ql{α:Type}{P:List α->Prop}(h:∀a,P [a]):∀us:List α,us.length=1->P us
 |[a],_=>h a
theorem us2{α:Type}{P:List α->Prop}(h:∀a b,P [a,b]):∀us:List α,us.length=2->P us
 |[a,b],_=>h a b
theorem us3{α:Type}{P:List α->Prop}(h:∀a b c,P [a,b,c]):∀us:List α,us.length=3->P us
 |[a,b,c],_=>h a b c
theorem us4{α:Type}{P:List α->Prop}(h:∀a b c d,P [a,b,c,d]):∀us:List α,us.length=4->P us
 |[a,b,c,d],_=>h a b c d
theorem us5{α:Type}{P:List α->Prop}(h:∀a b c d e,P [a,b,c,d,e]):∀us:List α,us.length=5->P us
 |[a,b,c,d,e],_=>h a b c d e
local macro_rules | `(tactic| walk_at "b")=>`(tactic| first
 | exact λ_ _ _ _ _ _=>us2 λ_ _=>rfl
 | exact λ_ _ _ _ _ _=>ql λ_=>rfl
 | exact λ_ _ _ _ _ _=>us3 λ_ _ _=>rfl
 | exact λ_ _ _ _ _ _=>us4 λ_ _ _ _=>rfl
 | exact λ_ _ _ _ _ _=>us5 λ_ _ _ _ _=>rfl)
abbrev mkA{a0 a1 a2 a3 a4 a5 a6 a7 a8 a9 a10 a11 a12 a13 a14 a15:ar}:An:=⟨a0,a1,a2,a3,a4,a5,a6,a7,a8,a9,a10,a11,a12,a13,a14,a15⟩
def TF (c:Vs K C=some B)(t:Vp K (.ref C)=some (.type "type"))(s:Uv K x (.ref C)=some r):PySem.W.kitCls K x (.ref C)=some r:=by change(if ((Vs K C).isSome && Vp K (.ref C) == some (.type "type"))=true then Uv K x (.ref C)else none)=some r;rwa[c,t]
def N8 (c:Vs K C=some B)(t:Vp K (.ref C)=some (.type "type"))(b:Uv K (.ref C) (.type "BaseException")=some true)(s:Uv K x (.ref C)=some r):YD K x (.ref C)=some r:=by unfold YD;rw[b];exact TF c t s
def Dp (d:(x == T8 C)=false)(c:Vs K C=some B)(t:Vp K (.ref C)=some (.type "type"))(s:Uv K x (.ref C)=some r):Vq K x (.ref C)=some r:=by unfold Vq;rw[d];exact TF c t s
def N9 (m:yt T=true)(s:Uv K (.ref x) (.type T)=some r):Vq K (.ref x) (.type T)=some r:=by change(if yt T=true then Uv K (.ref x) (.type T)else none)=some r;rwa[m]
def EJ (h:Vq K x c=some false)(q:XC K x B=some r):XC K x (c::B)=some r:=by unfold XC;rwa[h]
def Oa(K:TH)(v:af):Vq K v v=some true:=by unfold Vq;rw[br<|beq_self_eq_true v]
def all_mk{l:Zw}{w:TL}{K:TH}{h:Heap}{mg:bf->Option af}{fa:ar}(X:K.In h)(G:h.Ns Uj mg)(O:mg "law"=some (.ref fa)){V B:ar}{Y vt acr acs:Option ar}{acu acv:Array (Option af)}{acw vy vz vA qG vB acy acz acA acB vC acC:af}{A:An}{t1 t2 t3 t4:ar}{acD acE acF acG acH acI acJ acK:Tok}{vD:Array X7}{nW n1 n2 n3 n4 n5:Nat}{qH gQ qI qJ qK:Array af}{od1 od2 od3 od4 od5:Option ar}{sl1 sl2 sl3 sl4 sl5:Array (Option af)}{acL acM acN acO acP acQ acR acS:YZ}(lq:Ur K Uj "HallError"=some (some<|.ref A.eI))(cJ:Ur K Uj "BadPlan"=some (some<|.ref A.bK))(fZ:Ur K Uj "NoSwitch"=some (some<|.ref A.aK))(jz:Ur K Uj "NoLine"=some (some<|.ref A.aT))(ie:Ur K Uj "NotSo"=some (some<|.ref A.aV))(jH:Ur K Uj "NoFigure"=some (some<|.ref A.cf))(lu:Ur K Uj "NoRow"=some (some<|.ref A.cQ))(lA:Ur K Uj "NoText"=some (some<|.ref A.cR))(acT:Ur K Uj "Plan"=some (some<|.ref A.Plan))(acU:Ur K Uj "Seekers"=some (some<|.ref A.aL))(kD:Ur K Uj "Switches"=some (some<|.ref A.fW))(acV:Ur K Uj "Group"=some (some<|.ref A.aM))(acW:Ur K Uj "Line"=some (some<|.ref A.Line))(acX:Ur K Uj "Hall"=some (some<|.ref A.ah))(kM:Ur K Uj "WAYS"=some (some<|.ref A.fX))(ix:Ur K Uj "FIGURES"=some (some<|.ref A.fY))(acY:Ur K Uj "SIGNS"=some (some<|.str "0123456789" acD))(acZ:Ur K Uj "LEAST_LONG"=some (some<|.int 2 acE))(ac0:Ur K Uj "MOST_LONG"=some (some<|.int 4 acF))(ac1:Ur K Uj "MOST_LINES"=some (some<|.int 60 acG))(ac2:Ur K Uj "MOST_SEEKERS"=some (some<|.int 60 acH))(ac3:Ur K Uj "MOST_GROUPS"=some (some<|.int 40 acI))(ac4:Ur K Uj "MOST_SWITCHES"=some (some<|.int 10 acJ))(ac5:Ur K Uj "AT_SEEKERS"=some (some<|.str "" acK))(haa:aX K "within" "within" (top 11))(hab:aX K "are_figures" "are_figures" (top 12))(mL:aX K "figure_of" "figure_of" (top 15))(had:aX K "paper_of" "paper_of" (top 18))(hae:aX K "check_counts" "check_counts" (top 37))(haf:aX K "check_lines" "check_lines" (top 38))(hag:aX K "check_groups" "check_groups" (top 39))(hah:aX K "_law_cell" "_law_cell" (top 41))(hai:aX K "_law_draws" "_law_draws" (top 42))(haj:aX K "_law_number" "_law_number" (top 43))(hak:aX K "_law_world" "_law_world" (top 44))(hal:aX K "_law_begin" "_law_begin" (top 45))(ham:aX K "_law_freed" "_law_freed" (top 46))(han:aX K "_law_free_at" "_law_free_at" (top 47))(hao:aX K "_law_tones" "_law_tones" (top 48))(hap:aX K "_law_paper" "_law_paper" (top 49))(haq:aX K "_law_ended" "_law_ended" (top 50))(har:aX K "_law_gap" "_law_gap" (top 51))(has:aX K "_law_hang" "_law_hang" (top 52))(hat:aX K "_law_at_line" "_law_at_line" (top 53))(hau:aX K "_law_due" "_law_due" (top 54))(hav:aX K "_law_answer" "_law_answer" (top 55))(haw:aX K "_law_shows" "_law_shows" (top 56))(hax:aX K "_law_hall" "_law_hall" (top 57))(hay:aX K "_law_great" "_law_great" (top 58))(haz:aX K "_law_pulsed" "_law_pulsed" (top 59))(hba:aX K "_law_deeds" "_law_deeds" (top 60))(abb:Ur K Uj "law"=some (some<|.ref V))(lbb:K.lookup V=some ⟨acw,Y,.func<|Vx "law" "law" (Ex<|top 61) (DV<|top 61) (Ae<|top 61) .none vy vz vA vt qG vB,acu⟩)(cbb:Wi K qG "law"=true)(kbb:U8 K (.ref V)=true)(hbc:cE K A "first_free" "Switches.first_free" (Ai (top 17) 1))(lK:cE K A "hold" "Switches.hold" (Ai (top 17) 2))(dZ:cE K A "free" "Switches.free" (Ai (top 17) 3))(hbf:cE K A "stick" "Switches.stick" (Ai (top 17) 4))(hbg:cE K A "mend" "Switches.mend" (Ai (top 17) 5))(hbh:cE K A "check" "Switches.check" (Ai (top 17) 6))(hbi:cE K A "holders" "Switches.holders" (Ai (top 17) 7))(hbj:cE K A "stuck" "Switches.stuck" (Ai (top 17) 8))(hbk:cE K A "shares" "Switches.shares" (Ai (top 17) 9))(hbl:aF K A.aL "__init__" "Seekers.__init__" (Ai (top 24) 0))(hbm:aF K A.aL "take" "Seekers.take" (Ai (top 24) 1))(hbn:aF K A.aL "steps" "Seekers.steps" (Ai (top 24) 3))(hbo:aF K A.aM "take" "Group.take" (Ai (top 20) 0))(hbp:aF K A.aM "paper" "Group.paper" (Ai (top 20) 1))(hbq:aF K A.Line "__init__" "Line.__init__" (Ai (top 22) 0))(hbr:aF K A.Line "turn" "Line.turn" (Ai (top 22) 1))(hbs:aF K A.Line "ring" "Line.ring" (Ai (top 22) 2))(hbt:aF K A.Line "be_told" "Line.be_told" (Ai (top 22) 3))(hbu:aF K A.ah "__init__" "Hall.__init__" (Ai (top 28) 0))(hbv:aF K A.ah "do" "Hall.do" (Ai (top 28) 1))(hbw:aF K A.ah "at_switch" "Hall.at_switch" (Ai (top 28) 2))(hbx:aF K A.ah "at_line" "Hall.at_line" (Ai (top 28) 3))(hby:aF K A.ah "lift" "Hall.lift" (Ai (top 28) 4))(hbz:aF K A.ah "pulse" "Hall.pulse" (Ai (top 28) 5))(hca:aF K A.ah "gap" "Hall.gap" (Ai (top 28) 6))(hcb:aF K A.ah "into_group" "Hall.into_group" (Ai (top 28) 7))(jY:aF K A.ah "to_line" "Hall.to_line" (Ai (top 28) 8))(cH:aF K A.ah "no_call" "Hall.no_call" (Ai (top 28) 9))(hce:aF K A.ah "busy" "Hall.busy" (Ai (top 28) 10))(hcf:aF K A.ah "hang" "Hall.hang" (Ai (top 28) 11))(hcg:aF K A.ah "left_alone" "Hall.left_alone" (Ai (top 28) 12))(bj:aF K A.ah "wait" "Hall.wait" (Ai (top 28) 13))(hci:aF K A.ah "release" "Hall.release" (Ai (top 28) 14))(hcj:aF K A.ah "tones" "Hall.tones" (Ai (top 28) 15))(hck:aF K A.ah "line_of" "Hall.line_of" (Ai (top 28) 16))(cu:aF K A.ah "switches_of" "Hall.switches_of" (Ai (top 28) 17))(hcm:aF K A.ah "way" "Hall.way" (Ai (top 28) 18))(hcn:aF K A.ah "figures" "Hall.figures" (Ai (top 28) 19))(hco:aF K A.ah "holds" "Hall.holds" (Ai (top 28) 20))(hcp:aF K A.ah "other" "Hall.other" (Ai (top 28) 21))(hcq:aF K A.ah "told_paper" "Hall.told_paper" (Ai (top 28) 22))(hcr:aF K A.ah "paper" "Hall.paper" (Ai (top 28) 23))(hcs:aF K A.ah "shares" "Hall.shares" (Ai (top 28) 24))(hct:aF K A.ah "waiting" "Hall.waiting" (Ai (top 28) 25))(hcu:aF K A.ah "steps" "Hall.steps" (Ai (top 28) 26))(hcv:aF K A.ah "deeds" "Hall.deeds" (Ai (top 28) 27))(hcw:aF K A.Plan "__init__" "Plan.__init__" (Ai (top 36) 0))(rdS:xh K A.fW (.type "type")=true)(spS:Yu K (.ref A.fW) "__getattribute__"=some (some<|.builtin "type.__getattribute__"))(fdS:xi K (.ref A.fW) (.type "type") "__init__"=some (.val<|.ref B))(tyS:Vp K (.ref B)=some (.type "function"))(acx:Ue K (.ref A.fW) "__init__"=some (some<|.ref B))(icx:Wu K (.ref B)=true)(lcx:K.lookup B=some ⟨acy,acr,.func<|Vx "__init__" "Switches.__init__" (Ex<|Ai (top 17) 0) (DV<|Ai (top 17) 0) (Ae<|Ai (top 17) 0) .none acz acA acB acs vC acC,acv⟩)(ccx:Wi K vC "Switches.__init__"=true)(vE:U8 K (.ref B)=true)(aG:Ue K (.ref A.aM) "__init__"=some (some<|.ref B))(ac6:Wv K A.aL=true)(ac7:U8 K (.ref A.aL)=true)(ac8:Wv K A.Line=true)(ac9:U8 K (.ref A.Line)=true)(ada:Wv K A.ah=true)(adb:U8 K (.ref A.ah)=true)(ade:Wv K A.Plan=true)(adf:U8 K (.ref A.Plan)=true)(adg:Wv K A.aM=true)(adh:U8 K (.ref A.aM)=true)(adi:Wg K A.aL Uw=true)(adj:Wt K A.aL=true)(adk:Xa K A.aL=true)(adl:Ue K (.ref A.aL) "__setattr__"=some (some<|.builtin "object.__setattr__"))(adm:Ue K (.ref A.aL) "held_by"=some none)(adn:Ue K (.ref A.aL) "jammed"=some none)(ado:Ue K (.ref A.aL) "taken"=some none)(adp:Ue K (.ref A.aL) "places"=some none)(adq:Ue K (.ref A.aL) "stands"=some none)(ads:Ue K (.ref A.aL) "went"=some none)(adt:Ue K (.ref A.aL) "mark_at"=some none)(adu:Wg K A.aM Uw=true)(adv:Wt K A.aM=true)(adw:Xa K A.aM=true)(adx:Ue K (.ref A.aM) "__setattr__"=some (some<|.builtin "object.__setattr__"))(ady:Ue K (.ref A.aM) "held_by"=some none)(adz:Ue K (.ref A.aM) "jammed"=some none)(adA:Ue K (.ref A.aM) "taken"=some none)(adB:Wg K A.Line Uw=true)(adC:Wt K A.Line=true)(adD:Xa K A.Line=true)(adE:Ue K (.ref A.Line) "__setattr__"=some (some<|.builtin "object.__setattr__"))(adF:Ue K (.ref A.Line) "number"=some none)(adG:Ue K (.ref A.Line) "place"=some none)(adH:Ue K (.ref A.Line) "held"=some none)(adI:Ue K (.ref A.Line) "state"=some none)(adJ:Ue K (.ref A.Line) "dialled_so_far"=some none)(adK:Ue K (.ref A.Line) "pulses"=some none)(adL:Ue K (.ref A.Line) "far_end"=some none)(adM:Ue K (.ref A.Line) "why"=some none)(adN:Wg K A.ah Uw=true)(adO:Wt K A.ah=true)(adP:Xa K A.ah=true)(adQ:Ue K (.ref A.ah) "__setattr__"=some (some<|.builtin "object.__setattr__"))(adR:Ue K (.ref A.ah) "long"=some none)(adS:Ue K (.ref A.ah) "lines"=some none)(adT:Ue K (.ref A.ah) "switches"=some none)(adU:Ue K (.ref A.ah) "queue"=some none)(adV:Ue K (.ref A.ah) "done"=some none)(adW:Wg K A.Plan Uw=true)(adX:Wt K A.Plan=true)(adY:Xa K A.Plan=true)(adZ:Ue K (.ref A.Plan) "__setattr__"=some (some<|.builtin "object.__setattr__"))(ad0:Ue K (.ref A.Plan) "long"=some none)(ad1:Ue K (.ref A.Plan) "lines"=some none)(ad2:Ue K (.ref A.Plan) "seekers"=some none)(ad3:Ue K (.ref A.Plan) "groups"=some none)(ad4:Vy K A.bK [.type "ValueError",.type "Exception",.type "BaseException",.type "object"] "ValueError.__new__"=true)(ad5:Vy K A.aK [.type "ValueError",.type "Exception",.type "BaseException",.type "object"] "ValueError.__new__"=true)(ad6:Vy K A.aT [.type "ValueError",.type "Exception",.type "BaseException",.type "object"] "ValueError.__new__"=true)(ad7:Vy K A.aV [.type "ValueError",.type "Exception",.type "BaseException",.type "object"] "ValueError.__new__"=true)(ad8:Vy K A.cf [.type "ValueError",.type "Exception",.type "BaseException",.type "object"] "ValueError.__new__"=true)(qL:Vs K A.eI=some acL)(qM:Vp K (.ref A.eI)=some (.type "type"))(qN:Vs K A.aT=some acM)(vF:Vp K (.ref A.aT)=some (.type "type"))(qO:Vs K A.aK=some acN)(vG:Vp K (.ref A.aK)=some (.type "type"))(qP:Vs K A.aV=some acO)(vH:Vp K (.ref A.aV)=some (.type "type"))(qQ:Vs K A.bK=some acP)(qR:Vp K (.ref A.bK)=some (.type "type"))(qS:Vs K A.cf=some acQ)(qT:Vp K (.ref A.cf)=some (.type "type"))(qU:Vs K A.cQ=some acR)(qV:Vp K (.ref A.cQ)=some (.type "type"))(qW:Vs K A.cR=some acS)(qX:Vp K (.ref A.cR)=some (.type "type"))(hb:Uv K (.ref A.eI) (.type "BaseException")=some true)(ad9:Ue K (.ref A.aT) "__getattribute__"=some (some<|.builtin "BaseException.__getattribute__"))(aea:Ue K (.ref A.aT) "__getattr__"=some none)(aeb:Ue K (.ref A.aT) "__class__"=some (some<|.builtin "object.__class__"))(aec:Uv K (.ref A.aT) (.type "object")=some true)(aed:Uv K (.ref A.aT) (.type "BaseException")=some true)(aee:Uv K (.ref A.aT) (.type "ValueError")=some true)(aef:Uv K (.ref A.aT) (.ref A.eI)=some true)(aeg:Uv K (.ref A.aT) (.ref A.aK)=some false)(aeh:(T8 A.aT == T8 A.aK)=false)(aei:Uv K (.ref A.aT) (.ref A.aV)=some false)(aej:(T8 A.aT == T8 A.aV)=false)(aek:Uv K (.ref A.aT) (.ref A.bK)=some false)(ael:(T8 A.aT == T8 A.bK)=false)(aem:Uv K (.ref A.aT) (.ref A.cf)=some false)(aen:(T8 A.aT == T8 A.cf)=false)(aeo:Uv K (.ref A.aT) (.ref A.cQ)=some false)(aep:(T8 A.aT == T8 A.cQ)=false)(aeq:Uv K (.ref A.aT) (.ref A.cR)=some false)(aer:(T8 A.aT == T8 A.cR)=false)(aes:Ue K (.ref A.aK) "__getattribute__"=some (some<|.builtin "BaseException.__getattribute__"))(aet:Ue K (.ref A.aK) "__getattr__"=some none)(aeu:Ue K (.ref A.aK) "__class__"=some (some<|.builtin "object.__class__"))(aev:Uv K (.ref A.aK) (.type "object")=some true)(aew:Uv K (.ref A.aK) (.type "BaseException")=some true)(aex:Uv K (.ref A.aK) (.type "ValueError")=some true)(aey:Uv K (.ref A.aK) (.ref A.eI)=some true)(aez:Uv K (.ref A.aK) (.ref A.aT)=some false)(aeA:(T8 A.aK == T8 A.aT)=false)(aeB:Uv K (.ref A.aK) (.ref A.aV)=some false)(aeC:(T8 A.aK == T8 A.aV)=false)(aeD:Uv K (.ref A.aK) (.ref A.bK)=some false)(aeE:(T8 A.aK == T8 A.bK)=false)(aeF:Uv K (.ref A.aK) (.ref A.cf)=some false)(aeG:(T8 A.aK == T8 A.cf)=false)(aeH:Uv K (.ref A.aK) (.ref A.cQ)=some false)(aeI:(T8 A.aK == T8 A.cQ)=false)(aeJ:Uv K (.ref A.aK) (.ref A.cR)=some false)(aeK:(T8 A.aK == T8 A.cR)=false)(aeL:Ue K (.ref A.aV) "__getattribute__"=some (some<|.builtin "BaseException.__getattribute__"))(aeM:Ue K (.ref A.aV) "__getattr__"=some none)(aeN:Ue K (.ref A.aV) "__class__"=some (some<|.builtin "object.__class__"))(aeO:Uv K (.ref A.aV) (.type "object")=some true)(aeP:Uv K (.ref A.aV) (.type "BaseException")=some true)(aeQ:Uv K (.ref A.aV) (.type "ValueError")=some true)(aeR:Uv K (.ref A.aV) (.ref A.eI)=some true)(aeS:Uv K (.ref A.aV) (.ref A.aT)=some false)(aeT:(T8 A.aV == T8 A.aT)=false)(aeU:Uv K (.ref A.aV) (.ref A.aK)=some false)(aeV:(T8 A.aV == T8 A.aK)=false)(aeW:Uv K (.ref A.aV) (.ref A.bK)=some false)(aeX:(T8 A.aV == T8 A.bK)=false)(aeY:Uv K (.ref A.aV) (.ref A.cf)=some false)(aeZ:(T8 A.aV == T8 A.cf)=false)(ae0:Uv K (.ref A.aV) (.ref A.cQ)=some false)(ae1:(T8 A.aV == T8 A.cQ)=false)(ae2:Uv K (.ref A.aV) (.ref A.cR)=some false)(ae3:(T8 A.aV == T8 A.cR)=false)(lW:K.lookup A.fX=some ⟨.type "dict",none,.dict vD nW,#[]⟩)(oW:(A.fX == Vk)=false)(vW:Ku w.params vD.toList [("lift",.ref t1),("pulse",.ref t2),("gap",.ref t3),("hang",.ref t4)])(lT1:K.lookup t1=some ⟨.type "tuple",od1,.seq qH n1,sl1⟩)(zT1:qH.size<=10)(vT1:AA [.str "rests",.str "rung"] qH.toList)(lT2:K.lookup t2=some ⟨.type "tuple",od2,.seq gQ n2,sl2⟩)(zT2:gQ.size<=10)(vT2:AA [.str "dials"] gQ.toList)(lT3:K.lookup t3=some ⟨.type "tuple",od3,.seq qI n3,sl3⟩)(zT3:qI.size<=10)(vT3:AA [.str "dials"] qI.toList)(lT4:K.lookup t4=some ⟨.type "tuple",od4,.seq qJ n4,sl4⟩)(zT4:qJ.size<=10)(vT4:AA [.str "waits",.str "dials",.str "rings",.str "talks",.str "told"] qJ.toList)(lT5:K.lookup A.fY=some ⟨.type "tuple",od5,.seq qK n5,sl5⟩)(zT5:qK.size<=10)(vT5:AA [.str "1",.str "2",.str "3",.str "4",.str "5",.str "6",.str "7",.str "8",.str "9",.str "0"] qK.toList)(ae4:Ur K Uj "len"=some none)(ae5:Ur K Uj "isinstance"=some none)(ae6:Ur K Uj "bool"=some none)(ae7:Ur K Uj "int"=some none)(ae8:Ur K Uj "range"=some none)(ae9:Ur K Uj "all"=some none)(afa:Ur K Uj "list"=some none)(afb:Ur K Uj "enumerate"=some none)(afc:Ur K Uj "tuple"=some none)(afd:Ur K Uj "sorted"=some none)(afe:Ur K Uj "set"=some none)(aff:Ur K Uj "min"=some none)(afg:Ur K Uj "str"=some none)(afh:Ur K Uj "zip"=some none)(afi:Ur K Uj "ValueError"=some none) :
  ∃fd:T3,(∀(s:TK)(v:af),Xc s fd ⟨[v],[]⟩ [("script",v)])/\∀base:Heap,K.In base->base.Ns Uj mg->AB l.prog w K mg base Au 11 fa fd ["script"] (Lq K):=by
 have e:=O.symm.trans<|UQ X G abb;cases e;have T:Ij l.prog w K mg A :=
  { n_len:=Vt X G ae4,eJ:=Vt X G ae5,sj:=Vt X G ae6,gX:=Vt X G ae7,c9:=Vt X G ae8,sW:=Vt X G ae9,cv:=Vt X G afa,ji:=Vt X G afb,gY:=Vt X G afc,g8:=Vt X G afd,sX:=Vt X G afe,aaV:=Vt X G aff,pM:=Vt X G afg,uH:=Vt X G afh,uG:=Vt X G afi,sY:=⟨_,UQ X G acY⟩,sZ:=⟨_,UQ X G acZ⟩,tq:=⟨_,UQ X G ac0⟩,tu:=⟨_,UQ X G ac1⟩,tD:=⟨_,UQ X G ac2⟩,tE:=⟨_,UQ X G ac3⟩,tF:=⟨_,UQ X G ac4⟩,ic:=⟨_,UQ X G ac5⟩,fZ:=UQ X G fZ,kD:=UQ X G kD,cJ:=UQ X G cJ,kM:=UQ X G kM,jz:=UQ X G jz,ie:=UQ X G ie,jH:=UQ X G jH,ix:=UQ X G ix,lq:=UQ X G lq,lu:=UQ X G lu,lA:=UQ X G lA,ku:=ad5,dO:=ad4,tN:=ad6,om:=ad7,tU:=ad8,b7:=⟨t1,t2,t3,t4,AdX oW lW vW (show([("lift":bf),"pulse","gap","hang"]).Nodup by decide +kernel) (show 4<=1000 by decide),λH=>.inr ⟨_,_,_,lT1,rfl,rfl,U1 zT1<|by decide,vT1⟩,λH=>.inr ⟨_,_,_,lT2,rfl,rfl,U1 zT2<|by decide,vT2⟩,λH=>.inr ⟨_,_,_,lT3,rfl,rfl,U1 zT3<|by decide,vT3⟩,λH=>.inr ⟨_,_,_,lT4,rfl,rfl,U1 zT4<|by decide,vT4⟩⟩,kQ:=λH=>.inr ⟨_,_,_,lT5,rfl,rfl,U1 zT5<|by decide,vT5⟩,hc:=⟨⟨adN,adO,adP,adQ⟩,adR,adS,adT,adU,adV⟩,lc:=⟨⟨adB,adC,adD,adE⟩,adF,adG,adH,adI,adJ,adK,adL,adM⟩,sc:=⟨⟨UI,⟨adi,adj,adk,adl⟩,adm,adn,ado⟩,adp,adq,ads,adt⟩,ex:=λe=>match e with|.bN=>⟨⟨by rw[show Vs K (Er.adr A .bN)=_ from qN];rfl,ad9,aea,aeb,aec,aed⟩,N8 qL qM hb aef,λi=>match i with|.bN=>Oa K _|.bO=>Dp aeh qO vG aeg|.cj=>Dp aej qP vH aei,N9 (by decide +kernel) aee,(EJ (Dp ael qQ qR aek)<|EJ (Dp aen qS qT aem) (EJ (Dp aep qU qV aeo)<|EJ (Dp aer qW qX aeq) rfl))⟩|.bO=>⟨⟨by rw[show Vs K (Er.adr A .bO)=_ from qO];rfl,aes,aet,aeu,aev,aew⟩,N8 qL qM hb aey,λi=>match i with|.bN=>Dp aeA qN vF aez|.bO=>Oa K _|.cj=>Dp aeC qP vH aeB,N9 (by decide +kernel) aex,(EJ (Dp aeE qQ qR aeD)<|EJ (Dp aeG qS qT aeF) (EJ (Dp aeI qU qV aeH)<|EJ (Dp aeK qW qX aeJ) rfl))⟩|.cj=>⟨⟨by rw[show Vs K (Er.adr A .cj)=_ from qP];rfl,aeL,aeM,aeN,aeO,aeP⟩,N8 qL qM hb aeR,λi=>match i with|.bN=>Dp aeT qN vF aeS|.bO=>Dp aeV qO vG aeU|.cj=>Oa K _,N9 (by decide +kernel) aeQ,(EJ (Dp aeX qQ qR aeW)<|EJ (Dp aeZ qS qT aeY) (EJ (Dp ae1 qU qV ae0)<|EJ (Dp ae3 qW qX ae2) rfl))⟩,gc:=⟨Uy _<|Um.mpr rfl,⟨adu,adv,adw,adx⟩,ady,adz,adA⟩ }
 have pc:KL K A.Plan:=⟨⟨adW,adX,adY,adZ⟩,ad0,ad1,ad2,ad3⟩;have Fbb:=Hy (st:=(top 61)) lbb cbb kbb;have qY:=Hy (st:=(Ai (top 17) 0)) lcx ccx vE;have vI:=qY.binds (ps:=["self","many"]) λ_ _ _ _ _ _ us hl=>match us,hl with|[_,_],_=>rfl
 refine⟨Vx "law" "law" (Ex<|top 61) (DV<|top 61) (Ae<|top 61) .none vy vz vA vt qG vB,λs v=>.of_eq rfl,λbase _ _=>?_⟩;have I:=haa.fn l.prog w base X G λ_ _ F=>Aej F T.toTxt;have mX:=hah.fn l.prog w base X G λ_ _ F=>Ad9 F T.toTxt;have gI:=hai.fn l.prog w base X G λ_ _ F=>Aee F T.toTxt mX;have g9:=hab.fn l.prog w base X G λ_ _ F=>AeN F T.toTxtP;have nR:=hae.fn l.prog w base X G λ_ _ F=>AeR F T.toTxtP I;have nS:=haf.fn l.prog w base X G λ_ _ F=>AeW F T.toTxtP I g9;have nT:=hag.fn l.prog w base X G λ_ _ F=>Ae1 F T.toTxtP I g9;have hZ:=had.fn l.prog w base X G λ_ _ F=>Afb F T.toTxtS;have oR:=mL.fn l.prog w base X G λ_ _ F=>AfD F T.toTxtG I;have eK:=hbh.me l.prog w mg base λ_ _ F=>Aer F T.toTxtS I;have oq:=dZ.me l.prog w mg base λ_ _ F=>Aev F T.toTxtS eK;have oS:=hbf.me l.prog w mg base λ_ _ F=>Aes F T.toTxtS eK;have oT:=hbg.me l.prog w mg base λ_ _ F=>Aet F T.toTxtS eK;have hJ:=hbi.me l.prog w mg base λ_ _ F=>Ael F T.toTxtS;have oX:=hbk.me l.prog w mg base λ_ _ F=>Aen F T.toTxtS;have hV:=hbj.me l.prog w mg base λ_ _ F=>AeC F T.toTxtS;have g7:=lK.me l.prog w mg base λ_ _ F=>Aeo F T.toTxtS;have vJ:=hbc.me l.prog w mg base λ_ _ F=>Aex F T.toTxtS;have afj:=hbm.me l.prog w mg base λ_ _ F=>AeI F T.toTxtK vJ g7;have afk:=hbn.me l.prog w mg base λ_ _ F=>AeE F T.toTxtK;have afl:=hbo.me l.prog w mg base λ_ _ F=>Afc F T.toTxtS vJ g7;have afm:=hbp.me l.prog w mg base λ_ _ F=>Afe F T.toTxtS hJ hV hZ;have MS:=hbl.lO l.prog w mg base (UQ X G acU) ac6 ac7 λ_ _ F=>AeG F T.toTxtK ⟨rdS,spS,fdS,tyS,vE⟩ (QW qY T.toTxtS) vI;have MG:Gu l.prog w K mg base Au 2 A.aM "Group" ["self","many"] (KA K A):=⟨_,_,UQ X G acV,⟨adg,aG,icx,adh⟩,vI,(QW qY T.toTxtS).mono<|by decide⟩;have J:=hbr.me l.prog w mg base λ_ _ F=>Ae7 F T.lc;have afn:=hbs.me l.prog w mg base λ_ _ F=>Afm F T.lc;have vK:=hbt.me l.prog w mg base λ_ _ F=>Afn F T.lc;have ML:=hbq.lO l.prog w mg base (UQ X G acW) ac8 ac9 λ_ _ F=>Ae8 F T.lc J;have MP:=hcw.lO l.prog w mg base (UQ X G acT) ade adf λ_ _ F=>Ae5 F T.toTxtP nR nS nT;have D:=hck.me l.prog w mg base λ_ _ F=>Afj F T.toTxtH;have qZ:=cu.me l.prog w mg base λ_ _ F=>Afl F T.toTxtH;have vL:=bj.me l.prog w mg base λ_ _ F=>Afp F T.toTxtH J;have L:=hci.me l.prog w mg base λ_ _ F=>Afo F T.toTxtH oq;have afo:=hby.me l.prog w mg base λ_ _ F=>Aft F T.toTxtH vL;have afp:=hcg.me l.prog w mg base λ_ _ F=>Afs F T.toTxtH J L vL;have afq:=hcf.me l.prog w mg base λ_ _ F=>Afu F T.toTxtH J L afp;have rf:=cH.me l.prog w mg base λ_ _ F=>Afv F T.toTxtH L vK;have vM:=hce.me l.prog w mg base λ_ _ F=>Afw F T.toTxtH L vK;have afr:=jY.me l.prog w mg base λ_ _ F=>Afx F T.toTxtH rf vM afn;have afs:=hcb.me l.prog w mg base λ_ _ F=>Afy F T.toTxtH rf vM afl afm;have aft:=hbz.me l.prog w mg base λ_ _ F=>AfG F T.toTxtG rf;have afu:=hca.me l.prog w mg base λ_ _ F=>AfK F T.toTxtG oR afs afr;have afv:=hcj.me l.prog w mg base λ_ _ F=>Afq F T.toTxtH J afj;have afw:=hbw.me l.prog w mg base λ_ _ F=>AfL F T.toTxtH qZ oS oT;have afx:=hbx.me l.prog w mg base λ_ _ F=>AfR F T.toTxtG D afo afq aft afu;have afy:=hbv.me l.prog w mg base λ_ _ F=>AfS F T.toTxtG afw afx afv;have afz:=hcm.me l.prog w mg base λ_ _ F=>AfT F T.toTxtH D;have afA:=hcn.me l.prog w mg base λ_ _ F=>AfU F T.toTxtH D;have afB:=hcp.me l.prog w mg base λ_ _ F=>AfV F T.toTxtH D;have afC:=hcq.me l.prog w mg base λ_ _ F=>AfW F T.toTxtH D;have afD:=hco.me l.prog w mg base λ_ _ F=>AfY F T.toTxtH D;have afE:=hct.me l.prog w mg base λ_ _ F=>Af0 F T.toTxtH;have vN:=hcv.me l.prog w mg base λ_ _ F=>Af2 F T.toTxtH;have afF:=hcu.me l.prog w mg base λ_ _ F=>Af4 F T.toTxtH afk;have afG:=hcs.me l.prog w mg base λ_ _ F=>Af6 F T.toTxtH qZ oX;have afH:=hcr.me l.prog w mg base λ_ _ F=>Agd F T.toTxtH qZ hJ hV hZ;have MH:=hbu.lO l.prog w mg base (UQ X G acX) ada adb λ_ _ F=>Agn F T.toTxtH ML MG MS;have qm:=haj.fn l.prog w base X G λ_ _ F=>AhJ F T.toTxt;have fL:=hal.fn l.prog w base X G λ_ _ F=>Agz F;have gA:=ham.fn l.prog w base X G λ_ _ F=>AgC F;have iE:=han.fn l.prog w base X G λ_ _ F=>AgD F;have fK:=haq.fn l.prog w base X G λ_ _ F=>AgF F gA;have iJ:=hap.fn l.prog w base X G λ_ _ F=>AgK F T.toTxtH;have pR:=hao.fn l.prog w base X G λ_ _ F=>AgR F T.toTxtH iE;have pO:=has.fn l.prog w base X G λ_ _ F=>Ag4 F gA fL;have pP:=har.fn l.prog w base X G λ_ _ F=>Ag1 F T.toTxtW iE fK iJ;have pQ:=hat.fn l.prog w base X G λ_ _ F=>Ag9 F pO fK pP;have qB:=hau.fn l.prog w base X G λ_ _ F=>Ahh F T.toTxtW pQ pR;have qA:=hav.fn l.prog w base X G λ_ _ F=>Aht F T afy;have lM:=haw.fn l.prog w base X G λ_ _ F=>Ahy F T.toTxtW afz afA afD afB afC afH afG afE afF vN iJ;have qv:=hak.fn l.prog w base X G λ_ _ F=>AhH F T.toTxtW fL;have qw:=hax.fn l.prog w base X G λ_ _ F=>AhS F T MH MP pc;have qr:=hay.fn l.prog w base X G λ_ _ F=>Ah9 F T.toTxtP gI qm;have qi:=haz.fn l.prog w base X G λ_ _ F=>Ah0 F T;have qx:=hba.fn l.prog w base X G λ_ _ F=>Ah6 F T qi;exact Ain Fbb T gI qr qv qw qx qA qB lM vN
def walk{l:Zw}{q:TR}{B:List bf}{J:(bf->Option af)->Heap->Prop}{D:TL->Heap->Prop}{d:DefRec}{K:XZ->TH}(L:l.most=some 63)(O:d.params.defaults=[])(V:∀(w:TL) (h:Heap),D w h->(K w.params).In h)(F:∀(w:TL) (mg:bf->Option af) (fa:ar) (h:Heap),(K w.params).In h->h.Ns Uj mg->mg d.name=some (.ref fa) ->
   ∃I:T3,(∀(s:TK) (u:af),Xc s I ⟨[u],[]⟩ [("script",u)])/\∀base:Heap,(K w.params).In base->base.Ns Uj mg->AB l.prog w (K w.params) mg base Au 11 fa I ["script"] (Lq<|K w.params)) :
  PySem.W.WalkO q B J D l.row.toRowW d [] (λf vs=>Zv f vs) :=
 L2.aaz (n:=63) (k:=11) (x:="script") (CX:=λ_=>Au) (sp:=λw=>Lq<|K w.params) L (by decide) O ⟨rfl,by decide,by decide⟩ V F (λ_ _ a Y hl _ hS=>⟨a,Y,rfl,hS,hl,λ_=>rfl⟩) λ_ _ _ _ _ z=>z
end
end Lw
local macro_rules | `(tactic| walk_at "f")=>`(tactic| (refine' Lw.aX.of ?a ?l ?c ?k;(case a=>k_is);(case l=>k_is);(case c=>k_is);(case k=>k_is)))
local macro_rules | `(tactic| walk_at "fM")=>`(tactic| (refine' Lw.aF.of ?a ?i ?l ?c ?k;(case a=>k_is);(case i=>k_is);(case l=>k_is);(case c=>k_is);(case k=>k_is)))
local macro_rules | `(tactic| walk_at "fR")=>`(tactic| (refine' Lw.cE.of ?a ?b ?i ?l ?c ?k;(case a=>k_is);(case b=>k_is);(case i=>k_is);(case l=>k_is);(case c=>k_is);(case k=>k_is)))
namespace PySem.W.Fast
def tw16532979613958702245:=0
def tw6480391050638994446:=0
def tw14929265792069721355:=0
def tw6750190444631303287:=0
def tw11471844709872082518:=0
def tw12615667527652367649:=0
def tw8905335777965280998:=0
def tw12174819152458217971:=0
def tw6858497378279411673:=0
def tw7699534259299086343:=0
def tw16104396533745385802:=0
def tw12161802388073054594:=0
def tw15048144539852853335:=0
def tw7094403344180468208:=0
def tw10401446299269293583:=0
def tw16538632174735759533:=0
def tw15917797389860501346:=0
def tw1100821903190575865:=0
def tw1007766991968700564:=0
def tw17229137652597631460:=0
def tw16244285502181181044:=0
def tw15017228340110537942:=0
def tw9708480333732470256:=0
def tw8876437437800213812:=0
def tw12407613055061179490:=0
def tw15745151961774642540:=0
def tw13118983027242362223:=0
def tw1619902726236787104:=0
def tw18275714289610495279:=0
def tw4727939859774675174:=0
def tw15371837492526760504:=0
def tw9354130793692229262:=0
def tw2949209548663995301:=0
def tw3065723660814532273:=0
def tw17732257491436820386:=0
def tw14581522699685245280:=0
def tw12417604310511921484:=0
def tw1426503103817000111:=0
def tw3453985302520067038:=0
def tw4111962958681982247:=0
def tw12267559319653256498:=0
def tw10725545443384878413:=0
def tw5843342596919316773:=0
def tw5292213031603287637:=0
def tw9756472752264179424:=0
def tw15371805872499959535:=0
def tw1202643743490402784:=0
def tw18234945346431310611:=0
def tw12442829934539588475:=0
def tw17656869569140303291:=0
def tw5802929016224535789:=0
def tw2955165444355320505:=0
def tw7906421539033771593:=0
def tw16668912199958023088:=0
def tw776925480518830715:=0
def tw508353966031935007:=0
def tw6979429896643601382:=0
def tw14499861774800470329:=0
def tw8028585319742867571:=0
def tw7054050961268916228:=0
def tw13815236728557255966:=0
def tw15872846763314408157:=0
def tw16685391109630609625:=0
def tw11758162931179569315:=0
def tw15501921460884234379:=0
def tw1653423771576831072:=0
def tw17700575970288165529:=0
def tw13611891559662404875:=0
def tw15289558937496062096:=0
def tw11195222713841191490:=0
def tw5044783596428718821:=0
def tw18386248395483464729:=0
def tw14336278695281657168:=0
def tw5103188151377974488:=0
def tw4113833143184259959:=0
def tw15160368576169041221:=0
def tw6770468334699681468:=0
def tw3525721302792571643:=0
def tw3393537738360797186:=0
def tw9358037317430252983:=0
def tw2487337853324501501:=0
def tw12034133620284116876:=0
def tw8267116082851978060:=0
def tw13394520269042712176:=0
def tw16789766728039328172:=0
def tw14332994296059564657:=0
def tw17947731472429405292:=0
def tw7097733402847488931:=0
def tw11028958325291276053:=0
def tw12494357009627701544:=0
def tw14313003771553867914:=0
def tw5162957610294398526:=0
def tw2406693462375598021:=0
def tw2046096582080523136:=0
def tw1643467778998142406:=0
def tw5350403846686597093:=0
def tw11623687608360383477:=0
def tw5289203520875050447:=0
def tw13827811567184817969:=0
def tw2433337327812886786:=0
def tw150347468897147978:=0
def tw12760782095680285918:=0
def tw13950877797907024959:=0
def tw4808216630605055215:=0
def tw14119710542684294259:=0
def tw15055888903610447388:=0
def tw15886928762919601397:=0
def tw2750811425515465786:=0
def tw11807854735509421188:=0
def tw15587595467374363425:=0
def tw234914492902070846:=0
def tw4925856150518447507:=0
def tw5295362342802979239:=0
def tw4474344216549153788:=0
def tw16275391680045062830:=0
def tw9341939482920055532:=0
def tw2661927194570073999:=0
def tw13147034408980567971:=0
def tw9041952555757937474:=0
def tw399581622355770107:=0
def tw13374763961123511067:=0
def tw6472859223793891329:=0
def tw15052811255433538555:=0
def tw3877460271565408461:=0
def tw2820483920951080584:=0
def tw11707839780369735534:=0
def tw7706841531787858908:=0
def tw2737078616898220266:=0
def tw12484051368921064241:=0
def tw7223299269245831138:=0
def tw18010514709203477346:=0
def tw12825147668103692497:=0
def tw2297301461267221210:=0
def tw12978439237055878651:=0
def tw2568915276339945103:=0
def tw1799298992445829286:=0
def tw2024711288502589455:=0
def tw4603498086933754137:=0
def tw998445667282489214:=0
def tw8147898789932382605:=0
def tw11223467676214433227:=0
def tw13822727730250433499:=0
def tw2442866217263413975:=0
def tw13563368749448327315:=0
def tw17389334895559682564:=0
def tw933174423143713294:=0
def tw8624572274460177720:=0
def tw1064634872039359520:=0
def tw12109942456775216366:=0
def tw9552339963920178145:=0
def tw354173618742603669:=0
def tw15529908480541928217:=0
def tw677036123036055591:=0
def tw15820945458973724045:=0
def tw11530123372177146113:=0
def tw767339012576271251:=0
def tw7858010019367846400:=0
def tw1269378392675750174:=0
def tw1996518753541837351:=0
def tw2146626779867441771:=0
def tw17478884580158546690:=0
def tw9651932898448051802:=0
def tw2904291476577194442:=0
def tw6522750345184298255:=0
def tw3376051380761718222:=0
def tw9717328252111926549:=0
def tw17049663693873070430:=0
def tw16362298532537684443:=0
def tw16135687144512587156:=0
def tw9216006870792415139:=0
def tw15280950656189365506:=0
def tw7504727825210170787:=0
def tw16999881759993234267:=0
def tw17512014947847124956:=0
def tw13912135925930494591:=0
def tw5526735703504453779:=0
def tw6132615457632307253:=0
def tw14041768891515959668:=0
def tw14090053158669588309:=0
def tw3714017853638738034:=0
def tw10379060996771245710:=0
def tw1053609250108901354:=0
def tw12351220124389556637:=0
def tw18339355124110504740:=0
def tw8924462180069038876:=0
def tw8824067029141681987:=0
def tw3891342309485694312:=0
def tw6363721508460296388:=0
def tw185344855465535745:=0
def tw4342342869986062876:=0
def tw16350092174095984417:=0
def tw6230457825142545934:=0
def tw4891238954610341884:=0
def tw17144385790808865438:=0
def tw12354655764406597500:=0
def tw10816286433524326837:=0
def tw5661860860086720693:=0
def tw9001788648147506055:=0
def tw12716926026835028742:=0
def tw11052271228816228359:=0
def tw12574157531675012403:=0
def tw12753293613559895722:=0
def tw17336316148625547157:=0
def tw4258479761863070374:=0
def tw383076072804975503:=0
def tw10883541681668488419:=0
def tw3984304468089853275:=0
def tw10358229058406912152:=0
def tw14659336001722982659:=0
def tw9317365893974470398:=0
def tw979177177422916253:=0
def tw3272810461544090927:=0
def tw3124936831608828258:=0
def tw18279663872376371971:=0
def tw4005603023641218045:=0
def tw16302859505075355114:=0
def tw16053070182374308900:=0
def tw10483835981742973821:=0
def tw12950680426582040771:=0
def tw5632343239937911311:=0
def tw12475530807650128416:=0
def tw7261302837788734280:=0
def tw10608440474260020950:=0
def tw8016110691262626301:=0
def tw3967572546612999616:=0
def tw11689530964669630145:=0
def tw763602046871594378:=0
def tw18206943180986748239:=0
def tw10071743586227843492:=0
def tw15662343752110611304:=0
def tw12679827675533472633:=0
def tw1646298262430881559:=0
def tw3994233006939571204:=0
def tw12913424445337830169:=0
def tw7156073896440994560:=0
def tw13429397170803009465:=0
def tw5438961111112080383:=0
def tw7490584404000041287:=0
def tw833549913233467358:=0
def tw13482833435703860688:=0
def tw7315266710408448565:=0
def tw12441724617878071945:=0
def tw6336030424843512188:=0
def tw13705416342158269099:=0
def tw8700804821852317067:=0
def tw1462659759117236259:=0
def tw15889541139796934705:=0
def tw6332296472492895079:=0
def tw15378050724235700694:=0
def tw10088593842716849173:=0
def tw17576403954960525293:=0
def tw17907856890902919930:=0
def tw1305448505308601777:=0
def tw14764845998525787371:=0
def tw3231282521975240241:=0
def tw10822750966726195877:=0
def tw10321685473348791188:=0
def tw18244619932824040248:=0
def tw16598521253450480512:=0
def tw3945210676434196463:=0
def tw9628457046507431672:=0
def tw945073399535557828:=0
def tw6517120599355423530:=0
def tw10801493166468512395:=0
def tw12550500674325600818:=0
def tw1219743881591144182:=0
def tw16516545646530047242:=0
def tw2979946193919930792:=0
def tw11493941005809046330:=0
def tw16390224970505600286:=0
def tw9220698523794029019:=0
def tw8270760946288474870:=0
def tw8272036342391689168:=0
def tw6383527074210681604:=0
def tw3787031444204610865:=0
def tw15243427344688727505:=0
def tw2334586599247489317:=0
def tw16784482766692321695:=0
def tw4315790102721268318:=0
def tw8560932762457243700:=0
def tw17923944442682355349:=0
def tw641680934638088277:=0
def tw5607255202320274146:=0
def tw9740739798109045666:=0
def tw11888634690121853187:=0
def tw2309215008620725147:=0
def tw2131598186578158633:=0
def tw2445473503904170389:=0
def tw1256834440091283888:=0
def tw14424345204591295095:=0
def tw8425726314033820227:=0
def tw8445511907377967359:=0
def tw8753363114582654055:=0
def tw8135559018607905186:=0
def tw702131904292342867:=0
def tw18120090103545888318:=0
def tw14018729559566817795:=0
def tw12530117973845877221:=0
def tw7908871705680277817:=0
def tw7283924506655890931:=0
def tw2628427439653219379:=0
def tw3709178785043157901:=0
def tw7032149712341593275:=0
def tw2815694271661116234:=0
def tw7688283253087708075:=0
def tw2749303240982307279:=0
def tw2800002222239399400:=0
def tw11754121905659962777:=0
def tw11940965017801885913:=0
def tw8661142940122617935:=0
def tw16810403313084445888:=0
def tw7518000391993250470:=0
def tw16328036694349315994:=0
def tw876195962978362403:=0
def tw15633733187705507924:=0
def tw14370583766395471403:=0
def tw14154908974459936076:=0
def tw13819034269366328013:=0
def tw11162059572409761749:=0
def tw7026553952722675568:=0
def tw6731923733303489776:=0
def tw7880956500601359058:=0
def tw13457687336993307979:=0
def tw701604382482871848:=0
def tw2852115208269923545:=0
def tw6204875963341535339:=0
def tw4405900569210447246:=0
def tw13464652406750503845:=0
def tw10208479486292329105:=0
def tw3850511337204286285:=0
def tw6716765705299505280:=0
def tw9803584229220453381:=0
def tw1492052336783911629:=0
def tw11558905559599228928:=0
def tw11168797955444147728:=0
def tw6411289425811923860:=0
def tw13845646295841150525:=0
def tw9505800039674062778:=0
def tw10879259292915902076:=0
def tw496210335911620582:=0
def tw14284201567965259804:=0
def tw14252869370519320921:=0
def tw11842505934820227577:=0
def tw15724041577267536244:=0
def tw14026123326876127264:=0
def tw13710329707666057984:=0
def tw12886933229719348195:=0
def tw9838268107629433071:=0
def tw8560460688905856701:=0
def tw11547080102585436365:=0
def tw8771388745273083802:=0
def tw13171842800960849188:=0
def tw18012176532143830532:=0
end PySem.W.Fast
open PySem PySem.W PyProof.Rows
set_option maxRecDepth 100000 in
set_option maxHeartbeats 0 in
theorem PySem.Challenge.cw_stephall_k27_whole_sixty_lines_holds : PySem.Challenge.rw_stephall_k27_whole_sixty_lines.Holds := by
 w_on;o_law;k_head;(case hw=>w_witness2)
 k_fill
 refine Lw.walk (l:=PySem.Challenge.rw_stephall_k27_whole_sixty_lines) rfl rfl (λw h Y=>PySem.W.kIn_of Y) ?F;case F =>
  intro w mg fa h KX G i4;exact Lw.all_mk (A:=Lw.mkA) KX G i4 (by k_is) (by k_is) (by k_is) (by k_is) (by k_is) (by k_is) (by k_is) (by k_is) (by k_is) (by k_is) (by k_is) (by k_is) (by k_is) (by k_is) (by k_is) (by k_is) (by k_is) (by k_is) (by k_is) (by k_is) (by k_is) (by k_is) (by k_is) (by k_is) (by walk_at "f") (by walk_at "f") (by walk_at "f") (by walk_at "f") (by walk_at "f") (by walk_at "f") (by walk_at "f") (by walk_at "f") (by walk_at "f") (by walk_at "f") (by walk_at "f") (by walk_at "f") (by walk_at "f") (by walk_at "f") (by walk_at "f") (by walk_at "f") (by walk_at "f") (by walk_at "f") (by walk_at "f") (by walk_at "f") (by walk_at "f") (by walk_at "f") (by walk_at "f") (by walk_at "f") (by walk_at "f") (by walk_at "f") (by walk_at "f") (by k_is) (by k_is) (by k_is) (by k_is) (by walk_at "fR") (by walk_at "fR") (by walk_at "fR") (by walk_at "fR") (by walk_at "fR") (by walk_at "fR") (by walk_at "fR") (by walk_at "fR") (by walk_at "fR") (by walk_at "fM") (by walk_at "fM") (by walk_at "fM") (by walk_at "fM") (by walk_at "fM") (by walk_at "fM") (by walk_at "fM") (by walk_at "fM") (by walk_at "fM") (by walk_at "fM") (by walk_at "fM") (by walk_at "fM") (by walk_at "fM") (by walk_at "fM") (by walk_at "fM") (by walk_at "fM") (by walk_at "fM") (by walk_at "fM") (by walk_at "fM") (by walk_at "fM") (by walk_at "fM") (by walk_at "fM") (by walk_at "fM") (by walk_at "fM") (by walk_at "fM") (by walk_at "fM") (by walk_at "fM") (by walk_at "fM") (by walk_at "fM") (by walk_at "fM") (by walk_at "fM") (by walk_at "fM") (by walk_at "fM") (by walk_at "fM") (by walk_at "fM") (by walk_at "fM") (by walk_at "fM") (by walk_at "fM") (by k_is) (by k_is) (by k_is) (by k_is) (by k_is) (by k_is) (by k_is) (by k_is) (by k_is) (by k_is) (by k_is) (by k_is) (by k_is) (by k_is) (by k_is) (by k_is) (by k_is) (by k_is) (by k_is) (by k_is) (by k_is) (by k_is) (by k_is) (by k_is) (by k_is) (by k_is) (by k_is) (by k_is) (by k_is) (by k_is) (by k_is) (by k_is) (by k_is) (by k_is) (by k_is) (by k_is) (by k_is) (by k_is) (by k_is) (by k_is) (by k_is) (by k_is) (by k_is) (by k_is) (by k_is) (by k_is) (by k_is) (by k_is) (by k_is) (by k_is) (by k_is) (by k_is) (by k_is) (by k_is) (by k_is) (by k_is) (by k_is) (by k_is) (by k_is) (by k_is) (by k_is) (by k_is) (by k_is) (by k_is) (by k_is) (by k_is) (by k_is) (by k_exc) (by k_exc) (by k_exc) (by k_exc) (by k_exc) (by k_is) (by k_is) (by k_is) (by k_is) (by k_is) (by k_is) (by k_is) (by k_is) (by k_is) (by k_is) (by k_is) (by k_is) (by k_is) (by k_is) (by k_is) (by k_is) (by k_is) (by k_is) (by k_is) (by k_is) (by k_is) (by k_is) (by k_is) (by k_is) (by k_is) (by rfl) (by k_is) (by rfl) (by k_is) (by rfl) (by k_is) (by rfl) (by k_is) (by rfl) (by k_is) (by rfl) (by k_is) (by k_is) (by k_is) (by k_is) (by k_is) (by k_is) (by k_is) (by k_is) (by rfl) (by k_is) (by rfl) (by k_is) (by rfl) (by k_is) (by rfl) (by k_is) (by rfl) (by k_is) (by rfl) (by k_is) (by k_is) (by k_is) (by k_is) (by k_is) (by k_is) (by k_is) (by k_is) (by rfl) (by k_is) (by rfl) (by k_is) (by rfl) (by k_is) (by rfl) (by k_is) (by rfl) (by k_is) (by rfl) (by k_is) (by rfl) (by exact ⟨⟨_,rfl⟩,rfl,rfl,⟨_,rfl⟩,rfl,rfl,⟨_,rfl⟩,rfl,rfl,⟨_,rfl⟩,rfl,rfl,trivial⟩) (by k_is) (by exact (by decide)) (by exact (.cons ⟨_,rfl⟩ (.cons ⟨_,rfl⟩ .nil))) (by k_is) (by exact (by decide)) (by exact (.cons ⟨_,rfl⟩ .nil)) (by k_is) (by exact (by decide)) (by exact (.cons ⟨_,rfl⟩ .nil)) (by k_is) (by exact (by decide)) (by exact (.cons ⟨_,rfl⟩ (.cons ⟨_,rfl⟩ (.cons ⟨_,rfl⟩ (.cons ⟨_,rfl⟩ (.cons ⟨_,rfl⟩ .nil)))))) (by k_is) (by exact (by decide)) (by exact (.cons ⟨_,rfl⟩ (.cons ⟨_,rfl⟩ (.cons ⟨_,rfl⟩ (.cons ⟨_,rfl⟩ (.cons ⟨_,rfl⟩ (.cons ⟨_,rfl⟩ (.cons ⟨_,rfl⟩ (.cons ⟨_,rfl⟩ (.cons ⟨_,rfl⟩ (.cons ⟨_,rfl⟩ .nil))))))))))) (by k_is) (by k_is) (by k_is) (by k_is) (by k_is) (by k_is) (by k_is) (by k_is) (by k_is) (by k_is) (by k_is) (by k_is) (by k_is) (by k_is) (by k_is)
