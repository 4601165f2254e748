import PyProof.Rows.All
import Wide.All
import OpenK.AllK
import KE.OsGo
import Open.SpecLaws
import PyProof.TableCode
import PySem.Challenge.RW_lanewise_s02_run
set_option Elab.async false
set_option linter.all false
set_option maxRecDepth 100000
set_option maxHeartbeats 4000000
set_option bootstrap.genMatcherCode false
set_option genSizeOf false
set_option genInjectivity false
set_option compiler.extract_closed false
set_option hygiene false
noncomputable section
open Nat renaming and_two_pow_sub_one_eq_mod->xZ,mod_two_eq_zero_or_one->qJ,add_mul_mod_self_left->C2,add_sub_cancel_left->vE,testBit_mod_two_pow->vF,div_div_eq_div_mul->vH,testBit_lt_two_pow->n0,div_lt_iff_lt_mul->zN,add_mul_div_left->qY,eq_of_testBit_eq->pC,mul_le_mul_right->m1,pow_le_pow_right->dh,and_mod_two_pow->tL,mul_le_mul_left->Dh,and_lt_two_pow->vL,lt_of_le_of_lt->jf,lt_of_lt_of_le->aW,xor_lt_two_pow->m2,le_of_succ_le->tP,lt_succ_of_lt->zQ,or_lt_two_pow->tQ,and_le_right->va,div_eq_of_lt->ja,le_add_right->rQ,mod_eq_of_lt->aj,and_div_two->vh,and_le_left->rT,div_add_mod->mH,div_le_self->oj,testBit_and->jy,add_assoc->oq,lt_irrefl->lE,xor_assoc->jc,add_comm->fg,add_zero->lF,le_of_eq->ot,le_of_lt->gp,le_trans->c_,mul_comm->cz,ne_of_lt->cH,pow_succ->ou,pow_zero->qo,succ_mul->jd,zero_add->lG,div_one->rY,le_refl->aI,mod_mod->gq,mul_add->ov,mul_one->ox,pow_add->dB,pow_one->rZ,zero_le->lH,mod_lt->au,blt->Wf,strongRecOn->Xk,or_mod_two_pow->XJ,mod_mod_of_dvd->XM,xor_comm->XS,testBit_eq_decide_div_mod_eq->XT,sub_self->XU,ne_of_gt->XW,mul_zero->XX,mul_succ->XY,mul_left_comm->XZ,lt_succ_self->Yg,pow_mul->Yj,log2_lt->Yk,testBit_xor->Yp,testBit_two_pow_sub_succ->Yq,two_pow_add_eq_or_of_lt->Yw,mod_mul_right_div_self->YE,zero_mod->Y2,sub_zero->Y3,mod_mul_right_mod->Zc,or_comm->Zm,testBit_two_pow->Zz,one_le_two_pow->ZO,mod_eq_sub_mod->ZP,beq->ZT,zero_testBit->Z8,testBit_zero->Z9,testBit_succ->Z_,min_eq_right->b'
open Array renaming getD_eq_getD_getElem?->Ir,length_toList->tJ,toList->YN,isEmpty_iff->ZG
open PyProof.Rows renaming callWith_type1->uB,envOfC->XG,boot_list->X3,boot_min->Yd,boot_max->Ye,AllBare->Yu,Constant_none->Zq,subscriptTail_builtinR->ZJ,Call_->I'
open Int renaming fdiv_eq_ediv_of_nonneg->Ep,toNat_of_nonneg->zO,toNat_natCast->dQ,natCast_emod->zS,emod_nonneg->rS,ofNat->Wa,negSucc->W3,natCast_ediv->Yh,fmod_eq_emod_of_nonneg->YH,ediv_lt_of_lt_mul->Zg,ofNat_eq_natCast->Zp,toNat->E'
open List renaming getD_eq_getElem?_getD->pA,getElem?_append_right->vC,getElem?_append_left->uC,getElem?_eq_some_iff->ni,find?_range_eq_some->zI,getElem?_eq_getElem->lh,getElem?_take_of_lt->zJ,getElem?_cons_succ->C3,getElem?_replicate->tF,length_eq_zero_iff->C4,getElem?_set_self->nZ,range_succ_eq_map->zL,take_of_length_le->vG,zipWith_map_right->C8,getElem?_eq_none->ej,getElem?_toArray->C_,getElem?_zipWith->zM,length_replicate->n8,mem_append_right->pB,zipWith_map_left->Dc,getElem?_of_mem->tH,getElem?_set_ne->lV,mem_cons_of_mem->dN,mem_of_getElem?->ka,filterMap_cons->tK,getElem?_range->pD,length_reverse->Dg,map_congr_left->dP,replicate_succ->n_,find?_eq_none->tM,length_append->en,mem_cons_self->jx,mem_filterMap->vK,zip_cons_cons->q0,append_assoc->pF,ext_getElem?->oa,flatten_cons->q_,getElem?_map->cV,length_range->cG,size_toArray->dj,all_eq_true->cC,cons_append->ra,length_cons->dR,length_take->km,lookup_cons->ij,map_snd_zip->u_,not_mem_nil->kn,append_nil->ko,foldl_cons->qj,forIn_cons->vg,length_map->aB,length_nil->jb,length_set->mz,map_append->kq,mem_filter->lD,nil_append->mB,nodup_cons->oi,of_mem_zip->mD,range_succ->mG,forIn_nil->rV,mem_range->cg,all_cons->d6,map_cons->bf,mem_cons->aE,all_map->rW,map_map->aS,map_nil->qm,mem_map->gm,range->VW,replicate->VY,zipWith->Wj,lookup->WS,length->W2,map->Xg,sum_cons->Xw,any_cons->Xx,set_cons_zero->Xz,getElem?_drop->XA,findIdx?_cons->XB,filter_append->XC,zipWith_self->XO,zipIdx_cons->X4,length_drop->X5,filter_cons->X6,any_eq_true->X7,range_add->Yx,mem_of_find?_eq_some->YF,findIdx?_eq_none_iff->YG,set_eq_of_length_le->YK,getElem?_cons_zero->YM,length_singleton->Y4,length_filter_le->Y5,getElem?_reverse->Y6,mem_of_mem_take->Zd,mem_of_mem_drop->Ze,mem_append_left->Zf,length_zipWith->Zn,getD_cons_succ->Zo,set_cons_succ->ZA,getElem?_take->ZC,foldl->ZD,getElem?_set->ZQ,take_length->ZU,map_fst_zip->ZV,isEmpty_iff->ZW,getElem_mem->ZX,drop_length->ZY,zipIdx_nil->j',sum_append->l',range_zero->A',lookup_nil->C',find?_cons->D'
open Classical renaming byContradiction->Iu
open Option renaming isNone_iff_eq_none->vD,isSome_iff_exists->zK,bind_eq_some_iff->C5,map_eq_some_iff->bj,isSome_some->zP,bind_some->vb,elim_none->oh,elim_some->ik,getD_none->rR,getD_some->vc,join_some->vd,map_some->fM
open PySem.F renaming plainAttrs_list->C6,slot_zip_next->vf,slot_list_index->Yv,slot_dict_get->YJ
open PySem.Calls renaming callWith_builtin->C7,Name_function_global->Yt,evalArgs_plain->Y_,spliced_cons->Zs,spliced_nil->ZE
open PySem.Heap renaming get?_push_of_some->aV,get?_push_size->dO,size_push->c9,lt_size->aR,SameBut->XQ,get?_update_other->YR,get?_update_self->Y7,IsList->Zh
open PyProof renaming noPylong_small->C9
open PySem renaming wpAny_nextOf_list_item->vJ,codeAny_call_function->Dd,wpAny_nextOf_list_end->De,mem_of_lookup->eR,wpAny_Call_Name_kw->tN,wpAny_setField_rec->vM,wpAny_pyIter_list->zR,wpAny_truthy_bool->og,wpAny_pyIter_zip->ve,pushCells_keeps->qk,wpAny_execs_nil->vi,wpAny_passesOwn->om,wpAny_seqItems->mI,wpAny_onRaise->ql,codeAny_mono->rX,sizeLine_eq->mJ,wpAny_field->mK,wpAny_letGo->r0,wpAny_bind->ai,wpAny_mono->eM,wpAny_pure->aP,Addr->VZ,mainGlobals->V1,starEach->V2,model->V3,wpAny->V5,World->V6,OsState->V9,cellsFrom->V_,compEnvC->We,Params->Wh,foldedSetIterable->Wi,eval->Wo,assignEach->Wq,swapsWith->Ws,NameKind->Wu,compareOp->Ww,backTo->Wz,inplaceOp->WC,rawInt->WD,behindInMarks->WE,binaryOp->WI,builtinsNs->WJ,Around->WK,attributeBase->WN,pushCells->WQ,codeAny->WW,qualnameIn->WX,bootBuiltins->WZ,treeTable->W4,holding->W5,sliceBounds->W6,keywordEach->W7,bindArgs->W8,Operator->W9,importedModules->Xc,swapsWithSole->Xj,standAt->Xn,Keyword->Xo,letOwnedTupleGo->Xp,Spec->Xv,newFunctionEnv->XD,backToKw->XH,assign->XI,sysModules->X9,call_meets->Yc,boot_len->Yo,IsZip->Yr,wpAny_execs_cons->YA,getMethod->YB,PassesOwn->YD,subscripted->YI,Within->YL,valueAt->YO,notedBy->YQ,wpAny_newFunctionEnv_cells->YS,pyNext->YT,defaultsOf->YW,annTrees->YZ,PyData->Y1,FuncBody->Y8,wpAny_letOwnedTupleGo_zip->Za,wpAny_standAt->Zi,wpAny_holding->Zj,swappedStores->Zk,Comprehension->Zr,wpAny_callSpecial?_slot->Zt,storeName->Zu,codeAmong->Zw,wpAny_pyNext_range_end->ZH,wpAny_pyIter_rangeiter->ZI,seqIndex_neg->ZK,getItem->ZL,codeAny_func->ZM,UnaryOp->ZN,wpAny_isTrue_Compare1->ZR,wpAny_pyIter_revIter->ZZ,wpAny_loadName_local->Z1,seqIndex_of->Z2,bindL->Z5,CmpOp->G',wpAny_loadName_cell->J'
open Bool renaming false_eq_true->qZ,false_ne_true->ek,not_eq_true'->lj,and_eq_true->aD,eq_iff_iff->my,or_eq_true->qi,noConfusion->X8,and_false->Yz
open Function renaming comp_def->tO,comp->Yl
open Option.some renaming injEq->aF,inj->dz
open Int.ofNat renaming inj->il
open Prod.mk renaming injEq->aH
open PySem.W renaming piece_app->bF,segRun_of->bJ,Frag->V7,boot_heap->WY,kla_fn->Xb,findIn->Xd,nsIn->Xh,behindTheImports->Xl,Frag->Xu,keepIn->XE,instObj->XN,mg_of->X2,WellAll->Yn,plainGet->YU,looseW->YV,cellsFrom_some->YX,callWith_K->YY,CodeHd->Y9,hasDictIn->Zv,Codec->ZS,plainGet_of->Z4
open Ne renaming symm->iq
open Or renaming inl->iu
open Sg40 renaming signed->VX,ofLanes->V0,chosen->V4,bitsOf->Wb,widthOk->Wg,ofBits->Wn,run->Wt,ones->Wx,onRegs->Wy,step->WB,times8->WM,number->WT,flagsOf->WU,clmul->Xa,heldS->Xf,setP->Xr,inverse8->Xs,read->Xy,onMemory->X_,lengthOf->Yb,affine->Zl,heldU->K'
open False renaming elim->V8
open PySem.Value renaming ref->Wc,int->Yi,none->YC,str->L'
open Sg40Neutral renaming vecs->Wl,«ints»->Wm,val->Wv,nats->WO,fields->Z7
open PySem.NameKind renaming free->Wr,cell->W_
open PySem.Builtin renaming bitNot->WA,bitXor->X0,bitAnd->X1,bitOr->Ym
open PySem.Builtin.Range renaming rangeSize->WG,rangeFitsLong->Yy,small->ZF
open PySem.Builtin.Int renaming intBits->WH
open Sum renaming inl->WL,inr->Y0
open PySem.Builtin.List renaming listTooLong->WR
open PySem.W.WData renaming int->W0
open PySem.W.Codec renaming list->Xe
open PySg40 renaming run->Xi
open PySem.Builtin.SmallTypes renaming ownedTupleIsFree->Xm
open ForInStep renaming yield->Xq
open PySem.Obj renaming mapSeq->XR
open PySem.Heap.IsList renaming push->Ys
open UInt8 renaming ofNat->Zb,toNat_ofNat_of_lt'->Z6
open PySem.PyData renaming int->Zy
open PySem.Env renaming kindOf->F'
section
open PySem PySem.Spec PySem.W PyProof.Rows
abbrev tG:=@decide_eq_false_iff_not
abbrev pE:=@decide_eq_true_iff
abbrev bg:=@decide_eq_true_eq
abbrev jg:=@of_decide_eq_true
abbrev bp:=@decide_eq_false
abbrev gU:=@decide_eq_true
abbrev kr:=@if_false
abbrev lI:=@or_false
abbrev dC:=@if_true
abbrev ab:=@if_neg
abbrev ae:=@if_pos
end
namespace Lw
open PySem PySem.W PyProof.Rows
abbrev PGx:=PySem.Challenge.pw_lanewise_s02_run
abbrev RW:=PySem.Challenge.rw_lanewise_s02_run
def sd4:sreFenced PGx.main=true:=by decide+kernel
def sd5:((moduleNames PGx.main.body).isEmpty||lookedIntoSs (moduleNames PGx.main.body) PGx.main.body)=true:=by decide+kernel
def sd6:namesResolve PGx=true:=by decide+kernel
def sd7:PGx.boundNames.all (λn=> !worldNames.contains n)=true:=by decide+kernel
def sd8:noRoadLSs {strict:= !(importedModules PGx.main.body).all cThrough.contains,foot:=none,bare:=(["vars","dir","locals"]:List Str).filter (readsOut PGx PGx.main.body)} PGx.main.body=true:=by decide+kernel
def sd9:(namesMeet PGx PGx.main.body λ_ n=>attrL n)=true:=by decide+kernel
def sd1:looksOpen PGx=true:=by unfold looksOpen;rw[sd4,sd5,sd6,sd7,sd8,sd9];rfl
def sd2:(PGx.boundNames.contains PySem.Challenge.nm_lanewise_s02_run&& !startupNames.contains PySem.Challenge.nm_lanewise_s02_run&&specDef PGx PySem.Challenge.nm_lanewise_s02_run PySem.Challenge.fa_lanewise_s02_run.length&&PySem.Challenge.fa_lanewise_s02_run.all Codec.fits&&PySem.Challenge.fr_lanewise_s02_run.ok)=true:=by decide+kernel
def sd3:opensWell PGx=true:=by decide+kernel
open TablesWhole in
def tw3(p:Program)(a:noTwice p.main.scope=true)(b:wSs gather p.main.scope ⟨p.main.scope,[],[],[],none⟩ p.main.scope p.main.body=[])(c:wSs holds p.main.scope ⟨p.main.scope,[],[],[],none⟩ p.main.scope p.main.body=true)(d:p.modules=[])(e:p.parses=[])(f:p.harvested=[]):p.tablesWhole=true:=by
 unfold Program.tablesWhole wProgram wModule;rw[a,b,d,e,f];dsimp only;rw[c];rfl
def tw0:TablesWhole.noTwice PGx.main.scope=true:=by decide+kernel
def tw1:TablesWhole.wSs TablesWhole.gather PGx.main.scope ⟨PGx.main.scope,[],[],[],none⟩ PGx.main.scope PGx.main.body=[]:=by decide+kernel
def tw2:TablesWhole.wSs TablesWhole.holds PGx.main.scope ⟨PGx.main.scope,[],[],[],none⟩ PGx.main.scope PGx.main.body=true:=by decide+kernel
def aaw:RW.prog.bare:=⟨rfl,rfl,rfl,rfl,rfl,tw3 _ tw0 tw1 tw2 rfl rfl rfl⟩
end Lw
section
open PySem
abbrev TyB:=Value->Shared->Prop
abbrev TyC:=List (Addr×Obj)
abbrev x1:=Str->Option Value
abbrev L1:=List (Str×Addr)
abbrev tR:=List (Nat×List Obj)
abbrev A7:=List (Str×Nat×Value)
abbrev TyJ:=List Value
abbrev d_:=List Nat
abbrev TyM:=List Stmt
abbrev iG:=List Str
abbrev mw:=List Addr
abbrev k_:=List Expr
abbrev o6:=Option Value
abbrev uQ:=Option Int
end
open Option renaming some->N',none->O'
open Bool renaming true->P',false->Q'
local macro_rules|`(())=>`(by decide)
local macro_rules|`('l')=>`(by lia)
local macro_rules|`(#[$a])=>`(⟨$a⟩)|`(#[$a,$b,*])=>`(⟨$a,$b,*⟩)
local macro_rules|`(tactic|simp![$a,*])=>`(tactic|simp only[$a,*])|`(tactic|simp![$a,*]$b:location)=>`(tactic|simp only[$a,*]$b:location)
local macro_rules|`(tactic|show $e)=>`(tactic|exact $e)
local macro_rules|`(tactic|apply $e)=>`(tactic|refine $e)
theorem S'{a:α}:a=a:=rfl
local macro_rules|`(universe a)=>`(set_option tactic.hygienic false)|`(universe b)=>`(set_option tactic.hygienic true)
universe a
namespace L2
open PySem PySem.W PySem.Spec PyProof.Rows
abbrev Key:=Sum Int Str
noncomputable def x3:Key->Value->Bool
 |.inl k,v=>Value.isInt k v
 |.inr x,v=>Value.isStrOf x v
noncomputable def aaz(w:V6):Key->Int
 |.inl k=>hashInt k
 |.inr x=>hashStr w x
theorem fh:∀{k:Key} {v:Value},x3 k v=P'->(∃i t,k=WL i/\v=Yi i t)\/(∃x t,k=Y0 x/\v=L' x t)
 |.inl i,v,h=>by obtain⟨t,e⟩:=Value.isInt_shape (k:=i) (v:=v) h;show .inl #[i,t,S',e]
 |.inr x,v,h=>by obtain⟨t,e⟩:=Value.isStrOf_shape (x:=x) (v:=v) h;show .inr #[x,t,S',e]
def GR(i)(t:Tok):x3 (.inl i) (.int i t)=true:=by simp[x3,Value.isInt]
def GU(x)(t:Tok):x3 (.inr x) (.str x t)=true:=by simp[x3,Value.isStrOf]
def O_(a b):decide ((WL a:Key)=WL b)=(a==b):=by by_cases e:a=b;subst e;simp;have h:¬(WL a:Key)=WL b:=λq=>e (Sum.inl.inj q);rw[bp h];show(beq_eq_false_iff_ne.mpr e).symm
def Pa(a b):decide ((Y0 a:Key)=Y0 b)=decide (a=b):=by by_cases e:a=b;subst e;simp;have h:¬(Y0 a:Key)=Y0 b:=λq=>e (Sum.inr.inj q);rw[bp h,bp e]
def Pb(a)(b):decide ((WL a:Key)=Y0 b)=false:=bp (λq=>nomatch q)
def Pc(a)(b):decide ((Y0 a:Key)=WL b)=false:=bp (λq=>nomatch q)
def gV(prog:Program)(w:V6):PySem.KeyKind prog w Key where
 is:=x3
 hash:=aaz w
 inj:=λv a b q o=>by
  rcases fh q with⟨i,t,rfl,rfl⟩|⟨x,t,rfl,rfl⟩
  ·rcases fh o with⟨j,u,rfl,e⟩|⟨y,u,rfl,e⟩
   ·injection e with e1 _;rw[e1]
   ·show nomatch e
  ·rcases fh o with⟨j,u,rfl,e⟩|⟨y,u,rfl,e⟩
   ·show nomatch e
   ·injection e with e1 _;rw[e1]
 byValue:=λk v h=>by rcases fh h with⟨i,t,rfl,rfl⟩|⟨x,t,rfl,rfl⟩<;>rfl
 pyHash:=λc h=>by
  rcases fh c with⟨i,t,rfl,rfl⟩|⟨x,t,rfl,rfl⟩
  ·show wpAny_pyHash_int h
  ·show wpAny_pyHash_str h
 eqBool:=λr c h=>by
  rcases fh r with⟨i,t,rfl,rfl⟩|⟨x,t,rfl,rfl⟩
  ·rcases fh c with⟨j,u,rfl,rfl⟩|⟨y,u,rfl,rfl⟩
   ·rw[O_]at h;show wpAny_eqBool_int h
   ·rw[Pb]at h;show SeqAt.EqAt.int_str i t y u _ _ _ _ h
  ·rcases fh c with⟨j,u,rfl,rfl⟩|⟨y,u,rfl,rfl⟩
   ·rw[Pc]at h;show SeqAt.EqAt.str_int x t j u _ _ _ _ h
   ·rw[Pa]at h;show wpAny_eqBool_str h
 «strs»:=λk x t v h=>by
  rcases fh h with⟨i,u,rfl,e⟩|⟨y,u,rfl,e⟩
  ·show nomatch e
  ·injection e with e1 _;subst e1;cases v<;>rfl
def uD(prog)(w)(i)(t:Tok):(gV prog w).is (.inl i) (.int i t)=true:=GR i t
def Ba(prog)(w)(x)(t:Tok):(gV prog w).is (.inr x) (.str x t)=true:=GU x t
set_option genInjectivity true in
inductive V where
 |bQ|bl (b:Bool)|int (i:Int)|str (x:Str)|Di (b:Array UInt8)|S_ (b:UInt64)|ref (a:VZ)|ty (n:String)
 deriving DecidableEq
def RelV:V->Value->Prop
 |.bQ,u=>u=YC
 |.bl b,u=>u=Value.bool b
 |.int i,u=>∃t,u=Yi i t
 |.str x,u=>∃t,u=L' x t
 |.Di b,u=>∃t,u=Value.bytes b t
 |.S_ b,u=>∃t,u=Value.float b t
 |.ref a,u=>u=Wc a
 |.ty n,u=>u=Value.type n
abbrev Vals:List V->(TyJ)->Prop:=Paired RelV
def Vals.length(r:Vals xs us):xs.length=us.length:=Paired.length r
theorem Vals.get:∀{xs:List V} {us:(TyJ)} {i:Nat} {x:V},Vals xs us->xs[i]?=N' x->∃u,us[i]?=N' u/\RelV x u
 |_,_,_,_,.nil,e=>by simp at e
 |_,_,0,_,.cons r _,e=>by simp at e;subst e;show#[_,S',r]
 |_,_,i+1,x,.cons _ t,e=>by obtain⟨u,c,h⟩:=Vals.get (i:=i) (x:=x) t (by simpa using e);show#[u,by simpa using c,h]
theorem Vals.set(r:RelV x u):∀{xs:List V} {us:(TyJ)} (i),Vals xs us->Vals (xs.set i x) (us.set i u)
 |_,_,_,.nil=>.nil
 |_,_,0,.cons _ t=>.cons r t
 |_,_,i+1,.cons q t=>.cons q (Vals.set r i t)
theorem Vals.append:∀{xs c:List V} {us ws:(TyJ)},Vals xs us->Vals c ws->Vals (xs++c) (us++ws)
 |_,_,_,_,.nil,s=>s
 |_,_,_,_,.cons r t,s=>.cons r (Vals.append t s)
theorem Vals.take:∀{xs:List V} {us:(TyJ)} (n),Vals xs us->Vals (xs.take n) (us.take n)
 |_,_,0,_=>.nil
 |_,_,_+1,.nil=>.nil
 |_,_,n+1,.cons r t=>.cons r (Vals.take n t)
theorem Vals.drop:∀{xs:List V} {us:(TyJ)} (n),Vals xs us->Vals (xs.drop n) (us.drop n)
 |_,_,0,r=>r
 |_,_,_+1,.nil=>.nil
 |_,_,n+1,.cons _ t=>Vals.drop n t
def xA:Option V->(o6)->Prop
 |some v,N' u=>RelV v u
 |none,O'=>True
 |_,_=>False
def KV{c:Type}:List (c×V)->List (c×Value)->Prop:=Paired λ(p:c×V) (q:c×Value)=>p.1=q.1/\RelV p.2 q.2
noncomputable def kV:Key->V
 |.inl i=>.int i
 |.inr x=>.str x
inductive HO where
 |lst (xs:List V)
 |tup (xs:List V)
 |dK (kvs:List (Key×V))|dT (kvs:List (List Key×V))
 |set (S:Int->Bool) (n:Nat)
 |ins (C dx:VZ) (fs:List (Str×V))
 |own (x:VZ)
 |xd (fs:List (Str×V))
 |met (f x:VZ)
 |L3 (lo hi:Int)
 |nX (o:Obj) (u:HO)
 |qK (ps:Array Value)
 |ext (φ:Heap->Prop)
abbrev Hp:=VZ->Option HO
noncomputable def upd(H:Hp)(a:VZ)(o:HO):Hp:=λb=>if b=a then N' o else H b
def aw:upd H a o a=N' o:=by unfold upd;rw[ae S']
def aq(h:b≠a):upd H a o b=H b:=by unfold upd;rw[ab h]
def aN{H:Hp}{a b:VZ}{o:HO}(h:H a=N' o)(h':H b=O'):a≠b:=by intro e;subst e;rw[h]at h';cases h'
section
variable (P:Program) (w:V6)
def gz(H:Hp)(h:Heap)(a:VZ):HO->Prop
 |.lst xs=>xs.length<=sizeLine/\∃(c:(TyJ)) (n:Nat),Vals xs c/\h.get? a=N' {cls:=.type "list",data:=.seq c.toArray n}
 |.tup xs=>xs.length<=sizeLine/\∃c:(TyJ),Vals xs c/\IsTup h a c.toArray
 |.dK kvs=>kvs.length<=sizeLine/\(a==X9)=Q'/\∃vs,KV kvs vs/\h.DictOf (gV P w) a vs
 |.dT kvs=>kvs.length<=sizeLine/\(a==X9)=Q'/\∃xs:List (List Key×VZ×Value),
   Paired (λ(p:List Key×V) (q:List Key×VZ×Value)=>p.1=q.1/\H q.2.1=N' (.tup (p.1.map kV))/\RelV p.2 q.2.2) kvs xs/\
   ∃o r B,h.get? a=N' o/\o.ExactDict/\o.data=.dict r B/\r.toList=xs.map (entryOfKey (tupleKind (gV P w)))/\(xs.map (·.1)).Nodup
 |.set S n=>h.SetOf (intKind P w) a S n
 |.ins C dx fs=>H dx=N' (.own a)/\fs.length<=1000/\dx≠a/\h.get? a=N' (XN C dx)/\
   ∃j,h.Ns1 dx j/\(∀f,xA (fs.lookup f) (j f))/\YL j (fs.map (·.1))
 |.own _=>∃o,h.get? a=N' o
 |.xd fs=>∃j,h.Ns1 a j/\∀f,xA (fs.lookup f) (j f)
 |.L3 lo hi=>∃t u v,h.get? a=N' {cls:=.type "range",data:=.fields (List.toArray [.int lo t,.int hi u,.int 1 v])}
 |.nX o u=>h.get? a=N' o/\gz H h a u
 |.qK ps=>h.get? a=N' {cls:=.none,data:=.fields ps}
 |.met f x=>h.get? a=N' (methodObj (.ref f) (.ref x))
 |.ext φ=>φ h/\(∃o,h.get? a=N' o)/\∀s y:Heap,φ s->(∀o,s.get? a=N' o->y.get? a=N' o)->φ y
def uR(H:Hp)(h:Heap):Prop:=∀a o,H a=N' o->gz P w H h a o
end
def gz.lt(x:gz P w H h a o):a<h.objs.size:=by
 cases o with
 |lst xs=>obtain⟨_,_,_,_,e⟩:=x;show aR e
 |tup xs=>obtain⟨_,_,_,p⟩:=x;show p.lt
 |dK c=>obtain⟨_,_,_,_,o,_,_,e,_⟩:=x;show aR e
 |dT c=>obtain⟨_,_,_,_,o,_,_,e,_⟩:=x;show aR e
 |set S n=>obtain⟨o,_,_,_,e,_⟩:=x;show aR e
 |ins C j fs=>obtain⟨_,_,_,e,_⟩:=x;show aR e
 |own y=>obtain⟨_,e⟩:=x;show aR e
 |xd fs=>obtain⟨_,⟨_,_,_,e,_⟩,_⟩:=x;show aR e
 |L3 q r=>obtain⟨_,_,_,e⟩:=x;show aR e
 |nX s u=>obtain⟨e,_⟩:=x;show aR e
 |qK ps=>show aR (show h.get? a=N' _ from x)
 |met f y=>show aR (show h.get? a=N' _ from x)
 |ext B=>obtain⟨_,⟨_,e⟩,_⟩:=x;show aR e
theorem Paired.Ta:∀{l₁:List α} {l₂:List β},Paired F l₁ l₂->(∀a b,F a b->G a b)->Paired G l₁ l₂
 |_,_,.nil,_=>.nil
 |_,_,.cons r t,f=>.cons (f _ _ r) (Paired.Ta t f)
def gz.zT(x:gz P w H h a o)(k:∀b u,(b=a\/H b=N' (.own a))->h.get? b=N' u->h'.get? b=N' u)(Q:∀b,H b=N' (.own a)->M b=N' (.own a))(U:∀b xs,H b=N' (.tup xs)->M b=N' (.tup xs)):gz P w M h' a o:=by
 induction o with
 |lst xs=>obtain⟨z,E,n,r,e⟩:=x;show#[z,E,n,r,k _ _ (.inl S') e]
 |tup xs=>obtain⟨z,E,r,j,e,c⟩:=x;show#[z,E,r,j,k _ _ (.inl S') e,c]
 |dK G=>obtain⟨z,y,vs,r,j,s,B,e,c⟩:=x;show#[z,y,vs,r,j,s,B,k _ _ (.inl S') e,c]
 |dT G=>
  obtain⟨z,y,xs,r,j,s,B,e,c⟩:=x;show#[z,y,xs,Paired.Ta r λp q z=>#[z.1,U _ _ z.2.1,z.2.2],j,s,B,k _ _ (.inl S') e,c]
 |set S n=>obtain⟨j,s,B,t,e,c⟩:=x;show#[j,s,B,t,k _ _ (.inl S') e,c]
 |ins C T fs=>
  obtain⟨d,z,X,e,J,⟨L,s,B,Y,c⟩,r⟩:=x;show#[Q _ d,z,X,k _ _ (.inl S') e,J,#[L,s,B,k _ _ (.inr d) Y,c],r]
 |own y=>obtain⟨j,e⟩:=x;show#[j,k _ _ (.inl S') e]
 |xd fs=>obtain⟨J,⟨L,s,B,e,c⟩,r⟩:=x;show#[J,#[L,s,B,k _ _ (.inl S') e,c],r]
 |L3 F D=>obtain⟨t,u,v,e⟩:=x;show#[t,u,v,k _ _ (.inl S') e]
 |nX j u Z=>obtain⟨e,q⟩:=x;show#[k _ _ (.inl S') e,Z q]
 |qK ps=>
  have e:h.get? a=N' {cls:=.none,data:=.fields ps}:=x;show k a _ (.inl S') e
 |met f y=>
  have e:h.get? a=N' (methodObj (.ref f) (.ref y)):=x;show k a _ (.inl S') e
 |ext V=>obtain⟨p,⟨o,e⟩,O⟩:=x;show#[O _ _ p λo q=>k _ _ (.inl S') q,#[o,k _ _ (.inl S') e],O]
def uR.lt(x:uR P w H h)(e:H a=N' o):a<h.objs.size:=(x a o e).lt
def uR.fresh(x:uR P w H h)(e:h.objs.size<=a):H a=none:=by
 cases q:H a with
 |none=>rfl
 |some u=>show absurd (aW (x.lt q) e) (lE _)
def uR.kept(x:uR P w H h)(k:∀b u,h.get? b=N' u->h'.get? b=N' u):uR P w H h':=λa o e=>
 (x a o e).zT (λb u _ q=>k b u q) (λ_ q=>q) λ_ _ q=>q
def uR.laid(x:uR P w H h)(k:∀b u,h.get? b=N' u->h'.get? b=N' u)(y:h.objs.size<=a)(j:gz P w (upd H a o) h' a o):uR P w (upd H a o) h':=λb u e=>by have r:=x.fresh y;by_cases s:b=a;subst s;rw[aw]at e;cases e;show j;rw[aq s]at e;show(x b u e).zT (λc v _ q=>k c v q) (λc q=>by rw[aq (aN q r)];show q) λc xs q=>by rw[aq (aN q r)];show q
def Rd(H:Hp)(a:VZ)(u:HO):Prop:=H a=N' u\/∃o,H a=N' (.nX o u)
def Rd.ok(r:Rd H a u)(x:uR P w H h):gz P w H h a u:=by rcases r with r|⟨o,r⟩;show x a u r;obtain⟨_,q⟩:=x a _ r;show q
def Mut:Option HO->Prop
 |some (.lst _)=>True
 |some (.dK _)=>True
 |some (.dT _)=>True
 |some (.set _ _)=>True
 |some (.ins _ _ _)=>True
 |some (.ext _)=>True
 |_=>False
def uR.write(Q:uR P w H h)(B:Mut (H x))(he:e=x\/H e=N' (.own x))(k:∀b u,b≠e->h.get? b=N' u->h'.get? b=N' u)(J:∃u,h'.get? e=N' u)(L:gz P w (upd H x M) h' x M):uR P w (upd H x M) h':=λb u q=>by
 have o:∀c y,H c=N' (.own y)->c≠x:=λc y r z=>by subst z;rw[r]at B;show B
 have s:∀c xs,H c=N' (.tup xs)->c≠x:=λc xs r z=>by subst z;rw[r]at B;show B
 by_cases E:b=x;subst E;rw[aw]at q;cases q;show L;rw[aq E]at q;by_cases j:b=e;have O:H b=N' (.own x):=by rcases he with z|z;show absurd (j.trans z) E;rw[j];show z
 rw[q]at O;cases O;obtain⟨v,U⟩:=J;show#[v,by rw[j];show U];apply(Q b u q).zT (λc v G r=>k c v ?_ r) (λc r=>by rw[aq (o c b r)];show r) λc xs r=>by rw[aq (s c xs r)];show r
 rcases G with rfl|G;show j;rintro rfl;rcases he with z|z;show o c b G z;rw[G]at z;cases z;show E S'
structure Un(fs ex:(mw))(H H':Hp)(h h':Heap):Prop where
 keep:∀b o,h.get? b=N' o->H b=O'->b∉fs->b∉ex->h'.get? b=N' o
 slot:∀b o,h.get? b=N' o->H b=O'->b∈fs->b∉ex->∃sl,h'.get? b=N' {o with slots:=sl}
 free:∀b o,h.get? b=N' o->H b=O'->b∉ex->H' b=O'
 there:∀b o,h.get? b=N' o->b∉ex->∃o',h'.get? b=N' o'
 zU:∀b xs,H b=N' (.tup xs)->H' b=N' (.tup xs)
 uS:∀b o u,H b=N' (.nX o u)->H' b=N' (.nX o u)
 xB:∀b ps,H b=N' (.qK ps)->∃more,H' b=N' (.qK (ps++more))
def Un.any(u:Un fs ex H H1 h o)(q:h.get? b=N' ob)(n:H b=O')(c:b∉ex):∃r,o.get? b=N' {ob with slots:=r}:=by by_cases j:b∈fs;show u.slot b ob q n j c;show#[ob.slots,u.keep b ob q n j c]
def Un.kept(k:∀b u,h.get? b=N' u->h'.get? b=N' u):Un fs ex H H h h':=#[λb c q _ _ _=>k b c q,λb c q _ _ _=>#[c.slots,k b c q],λ_ _ _ n _=>n,λb c q _=>#[c,k b c q],λ_ _ q=>q,λ_ _ _ q=>q,λ_ ps q=>#[#[],by rw[q];simp]]
def Un.refl:Un fs ex H H h h:=Un.kept λ_ _ q=>q
def Un.laid(k:∀b u,h.get? b=N' u->h'.get? b=N' u)(j:h.objs.size<=a)(c:H a=O'):Un fs ex H (upd H a o) h h' where
 keep:=λb u q _ _ _=>k b u q
 slot:=λb u q _ _ _=>#[u.slots,k b u q]
 free:=λb u q n _=>by rw[aq (cH (aW (aR q) j))];show n
 there:=λb u q _=>#[u,k b u q]
 zU:=λb xs q=>by rw[aq (aN q c)];show q
 uS:=λb u xs q=>by rw[aq (aN q c)];show q
 xB:=λb ps q=>#[#[],by rw[aq (aN q c),q];simp]
def Un.write(j:Mut (H x))(he:e=x\/H e=N' (.own x))(k:∀b u,b≠e->h.get? b=N' u->h'.get? b=N' u)(s:∃u,h'.get? e=N' u):Un fs ex H (upd H x o) h h':=by
 have B:∀b,H b=O'->b≠x:=λb n z=>by subst z;rw[n]at j;show j
 have E:∀b,H b=O'->b≠e:=λb n z=>by subst z;rcases he with r|r;show B b n r;rw[n]at r;cases r
 have y:∀b u,H b=N' u→¬Mut (N' u)->b≠x:=λb u q G z=>by subst z;rw[q]at j;show G j
 apply#[λb u q n _ _=>k b u (E b n) q,λb u q n _ _=>#[u.slots,k b u (E b n) q],λb u q n _=>by rw[aq (B b n)];show n,λb u q _=> ?_,
  λb xs q=>by rw[aq (y b _ q λz=>z)];show q,λb u xs q=>by rw[aq (y b _ q λz=>z)];show q,λb ps q=>#[#[],by rw[aq (y b _ q λz=>z),q];simp]]
 by_cases c:b=e;subst c;show s;show#[u,k b u c q]
noncomputable def trk(h:Heap)(H:Hp):(mw):=(VW h.objs.size).filter λa=>(H a).isSome
def Bb(h:Heap)(H:Hp):Heap:=hideAll h (trk h H)
def GV(h)(H):(Bb h H).objs.size=h.objs.size:=hideAll_size _ _
def Bc(e:h.get? b=N' o)(n:H b=O'):(Bb h H).get? b=N' o:=hideAll_get _ e λc=>by have q:(H b).isSome=true:=(lD.mp c).2;rw[n]at q;simp at q
def L4(e:(Bb h H).get? b=N' o):h.get? b=N' o/\H b=none:=by
 have e':h.get? b=N' o:=of_hideAll (trk h H) e;apply#[e',?_];cases q:H b with
 |none=>rfl
 |some x=>
  have c:b∈trk h H:=lD.mpr #[cg.mpr (aR e'),by simp[q]];have z:(Bb h H).get? b=none:=hideAll_none (trk h H) c;rw[z]at e;cases e
structure Mod(K:V7)(mg:(Str->o6))(base:Heap):Prop where
 Pe:K.In base
 glob:base.Ns V1 mg
 blt:∃mb,base.Ns WJ mb/\∀x:Str,x≠"__name__"→mb x=WZ x
 nolimit:base.NoLimit
structure Cx where
 prog:Program
 w:V6
 K:V7
 mg:(Str->o6)
 base:Heap
 A:WK
 N:(iG)
 zV:Shared
 SQ:Hp
 env:Env
 outer:List Env
 stack:List Env
 ex:(mw)
 fn:Str->Bool
 calm:Bool
 pn:(List (VZ×Obj))
 xe:(Value->Shared->Prop)
 fz:Str->Bool:=λ_=>Q'
noncomputable def Iv(l:List Env):(mw):=l.filterMap (·.frame)
abbrev Cx.fs(X:Cx):(mw):=Iv X.outer
def Bd(c:Scope)(x:Str):Prop:=c.names.lookup x=N' .local\/c.names.lookup x=N' .cell\/c.names.lookup x=N' .free
def Loc(c:Scope)(x:Str):Prop:=c.names.lookup x=N' .local\/c.names.lookup x=N' .cell
def Look(env:Env)(h:Heap)(m:(Str->o6))(x:Str)(u:Value):Prop:=(env.kindOf x=N' .local/\m x=N' u)\/((env.kindOf x=N' .cell\/env.kindOf x=N' .free)/\∃c,env.4.lookup x=N' c/\h.IsCell c (N' u))
structure Cx.Ok(X:Cx):Prop where
 mod:Mod X.K X.mg X.base
 kind:X.env.1.kind=.function
 glob:X.env.globals=V1
 blt:X.env.builtins=WJ
 above:X.zV.1.1.size<=X.env.locals
 inj:∀x y c,X.env.4.lookup x=N' c->X.env.4.lookup y=N' c->x=y
 has:∀x,(X.env.kindOf x=N' .cell\/X.env.kindOf x=N' .free)->∃c,X.env.4.lookup x=N' c
 Pf:∀x c,X.fn x=P'->X.env.4.lookup x=N' c->X.zV.1.1.size<=c
 hd:X.calm=P'->X.A.handled=O'
 frames:X.A.frames=N' X.stack
 Tb:X.stack=X.outer\/(X.stack=X.env::X.outer/\X.env.frame=N' X.env.locals)
 Tc:∀b∈X.ex,b≠X.env.locals/\∀x c,X.env.4.lookup x=N' c->c≠b
 bs:∀b o,X.base.get? b=N' o->X.zV.1.get? b=N' o/\X.SQ b=O'
 Iw:X.base.objs.size<=X.zV.1.1.size
 GX:∀b o,X.base.get? b=N' o->b∉X.ex
 GY:∀b∈X.ex,b∉X.fs
 r9:X.zV.1.FunFrames X.base X.outer
 L5:∀b∈X.fs,X.SQ b=O'
structure Inv(X:Cx)(pins:(List (VZ×Obj)))(σ:List (Option V))(H:Hp)(s:Shared):Prop where
 ok:X.Ok
 os:s.os=X.zV.os
 bare:Yu s.gens
 base:Un X.fs X.ex X.SQ H X.zV.1 s.1
 loc:∃m,s.1.Ns X.env.locals m/\∀(i:Nat) (x:Str) (v:V),X.N[i]?=N' x->σ[i]?=N' (N' v)->Bd X.env.1 x->∃u,RelV v u/\Look X.env s.1 m x u
 cell:∀x c,X.env.4.lookup x=N' c->∃v,s.1.IsCell c v
 free:H X.env.locals=O'
 nk:∀x c,X.env.4.lookup x=N' c->H c=O'\/(X.fz x=P'/\∃o u,H c=N' (.nX o u))
 pin:∀p∈X.pn++pins,s.1.get? p.1=N' p.2/\H p.1=O'/\p.1≠X.env.locals/\p.1∉X.fs/\∀v,p.2.data≠.cell v
 fO:uR X.1 X.w H s.1
 len:σ.length=X.N.length
section
variable {X:Cx} {pins:(List (VZ×Obj))} {σ:List (Option V)} {H H':Hp} {s:Shared}
def Cx.Ok.aaA(c:X.Ok)(e:X.base.get? b=N' o):b∉X.fs:=λh=>by have:=(c.r9.mem h).1;rw[e]at this;cases this
def Inv.bs(I:Inv X pins σ H s):∀b o,X.base.get? b=N' o->s.1.get? b=N' o/\H b=none:=λb o e=>
 #[I.base.keep b o (I.ok.bs b o e).1 (I.ok.bs b o e).2 (I.ok.aaA e) (I.ok.GX b o e),I.base.free b o (I.ok.bs b o e).1 (I.ok.bs b o e).2 (I.ok.GX b o e)]
def Inv.bk(I:Inv X pins σ H s):∀b o,X.base.get? b=N' o->s.1.get? b=N' o:=λb o e=>(I.bs b o e).1
def Inv.mod(I:Inv X pins σ H s):Mod X.K X.mg X.base:=I.ok.mod
def Inv.x6(I:Inv X pins σ H s):X.K.In s.heap:=I.ok.mod.Pe.keeps I.bk
def Inv.nolimit(I:Inv X pins σ H s):s.1.NoLimit:=I.ok.mod.nolimit.keeps I.bk
def Inv.lt(I:Inv X pins σ H s):X.env.locals<s.1.1.size:=let ⟨_,hn,_⟩:=I.loc;hn.lt
def Inv.sz(I:Inv X pins σ H s):X.zV.1.1.size<=s.1.1.size:=c_ I.ok.above (gp I.lt)
def Inv.aaB(I:Inv X pins σ H s)(h:s.1.1.size<=a):a∉X.fs:=λc=>by obtain⟨_,o,j,_⟩:=I.ok.r9.mem c;show absurd (aW (aR j) (c_ I.sz h)) (lE _)
def Inv.Ot(I:Inv X pins σ H s):∀x c,X.env.4.lookup x=N' c->c≠X.env.locals:=λx c e z=>by obtain⟨v,o,q,r⟩:=I.cell x c e;obtain⟨m,⟨u,y,B,h,j,_⟩,_⟩:=I.loc;rw[z,h]at q;cases q;rw[j]at r;cases r
def Inv.r9(I:Inv X pins σ H s):s.1.FunFrames X.base X.outer:=by
 have all:∀l,(∀b∈Iv l,b∈X.fs)->X.zV.1.FunFrames X.base l->s.1.FunFrames X.base l:=by
  intro l;induction l with
  |nil=>intro _ _;trivial
  |cons env r ih=>
   intro hs hl;obtain⟨hk,⟨L,o,hf,hn,ho,hd⟩,hr⟩:=hl;have hL:L∈X.fs:=hs L (by unfold Iv;rw[tK,hf];show jx);obtain⟨sl,e⟩:=I.base.slot L o ho (I.ok.L5 L hL) hL λz=>I.ok.GY L z hL;show#[hk,#[L,_,hf,hn,e,hd],ih (λb hb=>hs b (by unfold Iv;rw[tK,hf];show dN _ hb)) hr]
 show all X.outer (λ_ hb=>hb) I.ok.r9
def Inv.stack(I:Inv X pins σ H s):s.1.FunFrames X.base X.stack:=by rcases I.ok.Tb with e|⟨e,c⟩;rw[e];show I.r9;rw[e];obtain⟨m,h,_⟩:=I.loc;apply .cons (by rw[I.ok.kind];decide) c h ?_ I.r9;show Heap.get?_none_of_le (c_ I.ok.Iw I.ok.above)
def Inv.Dj(I:Inv X pins σ H s):∀b∈Iv X.stack,b∈X.env.locals::X.fs:=λb hb=>by rcases I.ok.Tb with e|⟨e,hf⟩;rw[e]at hb;show dN _ hb;rw[e]at hb;unfold Iv at hb;rw[tK,hf]at hb;show hb
def Inv.Er(I:Inv X pins σ H s):∀b∈Iv X.stack,H b=none:=λb hb=>by rcases aE.mp (I.Dj b hb)with e|hb;rw[e];show I.free;obtain⟨_,o,ho,_⟩:=I.ok.r9.mem hb;show I.base.free b o ho (I.ok.L5 b hb) λz=>I.ok.GY b z hb
def Inv.step{g':Array GenState}{t':Nat}{d':Drawn}{ch:(mw)}(I:Inv X pins σ H s)(j:∀b∈ch,(b∈X.ex\/X.zV.1.1.size<=b)/\b≠X.env.locals/\(∀x c,X.env.4.lookup x=N' c->c≠b)/\∀p∈X.pn++pins,p.1≠b)(keep:∀b o,b≠X.env.locals->b∉X.fs->b∉ch->s.1.get? b=N' o->H b=O'->h'.get? b=N' o)(slot:∀b o,b≠X.env.locals->b∈X.fs->b∉ch->s.1.get? b=N' o->H b=O'->∃Y,h'.get? b=N' {o with slots:=Y})(free:∀b o,b∉ch->s.1.get? b=N' o->H b=O'->H' b=O')(there:∀b o,b∉ch->s.1.get? b=N' o->∃E,h'.get? b=N' E)(zU:∀b xs,H b=N' (.tup xs)->H' b=N' (.tup xs))(uS:∀b o u,H b=N' (.nX o u)->H' b=N' (.nX o u))(xB:∀b ps,H b=N' (.qK ps)->∃O,H' b=N' (.qK (ps++O)))(ns:∀m,s.1.Ns X.env.locals m->h'.Ns X.env.locals m)(fO:uR X.1 X.w H' h')(S:Yu g'):Inv X pins σ H' {s with heap:=h',gens:=g',drawn:=d',toks:=t'}:=by
 have P:∀b o,X.zV.1.get? b=N' o->b≠X.env.locals:=λb o e=>cH (aW (aR e) I.ok.above);have G:∀b o,X.zV.1.get? b=N' o->b∉X.ex->b∉ch:=λb o e h L=>by rcases(j b L).1 with z|z;show h z;show absurd (aW (aR e) z) (lE _)
 have y:∀x c,X.env.4.lookup x=N' c->∀v,s.1.IsCell c v->h'.IsCell c v:=λx c e v Z=>by obtain⟨o,M,U⟩:=Z;have B:c∉ch:=λz=>(j c z).2.2.1 x c e S';rcases I.nk x c e with n|⟨_,E,u,q⟩;by_cases C:c∈X.fs;obtain⟨Y,q⟩:=slot c o (I.Ot x c e) C B M n;show#[_,q,U];show#[o,keep c o (I.Ot x c e) C B M n,U];have F:=(I.fO c _ q).1;rw[M]at F;cases F;show#[o,(fO c _ (uS c _ u q)).1,U]
 apply#[I.ok,I.os,S,#[λb o e n L h=> ?_,λb o e n L h=> ?_,λb o e n h=> ?_,λb o e h=> ?_,λb xs e=>zU b xs (I.base.zU b xs e),λb o xs e=>uS b o xs (I.base.uS b o xs e),λb ps e=> ?_],?_,λx c e=> ?_,?_,λx c e=> ?_,λp D=> ?_,fO,I.len];show keep b o (P b o e) L (G b o e h) (I.base.keep b o e n L h) (I.base.free b o e n h);obtain⟨Y,J⟩:=I.base.slot b o e n L h;obtain⟨T,Q⟩:=slot b _ (P b o e) L (G b o e h) J (I.base.free b o e n h);show#[T,Q];obtain⟨E,J⟩:=I.base.there b o e h;show free b E (G b o e h) J (I.base.free b o e n h);obtain⟨E,J⟩:=I.base.there b o e h;show there b E (G b o e h) J;obtain⟨A,J⟩:=I.base.xB b ps e;obtain⟨K,Q⟩:=xB b _ J;show#[A++K,by rw[Q,Array.append_assoc]];obtain⟨m,N,W⟩:=I.loc;apply#[m,ns m N,λi x v J Q a=> ?_];obtain⟨u,r,l⟩:=W i x v J Q a;apply#[u,r,?_];rcases l with l|⟨k,c,e,z⟩;show .inl l;show .inr #[k,c,e,y x c e _ z];obtain⟨v,z⟩:=I.cell x c e;show#[v,y x c e v z];obtain⟨m,⟨o,_,_,M,_⟩,_⟩:=I.loc;show free _ o (λz=>(j _ z).2.1 rfl) M I.free;obtain⟨v,o,M,U⟩:=I.cell x c e;rcases I.nk x c e with n|⟨z,E,u,q⟩;show .inl (free c o (λz=>(j c z).2.2.1 x c e S') M n);show .inr #[z,E,u,uS c E u q];obtain⟨e,n,V,R,d⟩:=I.pin p D;have B:p.1∉ch:=λz=>(j p.1 z).2.2.2 p D S';show#[keep p.1 p.2 V R B e n,free p.1 p.2 B e n,V,R,d]
def Inv.un{t':Nat}(I:Inv X pins σ H s)(u:Un X.fs [] H H' s.1 h')(h:uR X.1 X.w H' h'):Inv X pins σ H' {s with heap:=h',toks:=t'}:=by obtain⟨m,⟨o,L,M,B,r⟩,_⟩:=id I.loc;obtain⟨O,E⟩:=u.any B I.free (by simp);show I.step (g':=s.gens) (d':=s.drawn) (ch:=[]) (λ_ z=>nomatch z) (λb o _ j _ e n=>u.keep b o e n j (by simp)) (λb o _ j _ e n=>u.slot b o e n j (by simp)) (λb o _ e n=>u.free b o e n (by simp)) (λb o _ e=>u.there b o e (by simp)) u.zU u.uS u.xB (λP G=>by obtain⟨Q,q,y,c,J⟩:=G;rw[B]at c;cases c;show#[_,q,y,E,J]) h I.bare
def Inv.call{g':Array GenState}{t':Nat}{d':Drawn}{ch:(mw)}(I:Inv X pins σ H s)(u:Un (Iv X.stack) ch H H' s.1 h')(y:uR X.1 X.w H' h')(L:Yu g')(j:∀b∈ch,(b∈X.ex\/X.zV.1.1.size<=b)/\b≠X.env.locals/\(∀x c,X.env.4.lookup x=N' c->c≠b)/\∀p∈X.pn++pins,p.1≠b):Inv X pins σ H' {s with heap:=h',gens:=g',drawn:=d',toks:=t'}:=by obtain⟨m,⟨o,Q,U,J,r⟩,_⟩:=id I.loc;obtain⟨Y,B⟩:=u.any J I.free λz=>(j _ z).2.1 rfl;show I.step (ch:=ch) j (λb o B M h e n=>u.keep b o e n (λz=>(aE.mp (I.Dj b z)).elim B M) h) (λb o _ _ h e n=>u.any e n h) (λb o h e n=>u.free b o e n h) (λb o h e=>u.there b o e h) u.zU u.uS u.xB (λZ O=>by obtain⟨T,E,G,q,P⟩:=O;rw[J]at q;cases q;show#[_,E,G,B,P]) y L
def Inv.turned{t':Nat}{h:VZ}(I:Inv X pins σ H s)(k:∀b o,b≠h->s.1.get? b=N' o->h'.get? b=N' o)(E:H h=O')(B:h≠X.env.locals)(G:h∈X.ex\/X.zV.1.1.size<=h)(J:∀x c,X.env.4.lookup x=N' c->c≠h)(L:∀p∈X.pn++pins,p.1≠h):Inv X pins σ H {s with heap:=h',toks:=t'}:=by
 have y:∀b u,H b=N' u->b≠h:=λb u e z=>by rw[z,E]at e;cases e
 apply I.step (g':=s.gens) (d':=s.drawn) (ch:=[h]) (λb M=> ?_) (λb o _ _ j e _=>k b o (λz=>j (by simp[z])) e) (λb o _ _ j e _=>#[o.slots,k b o (λz=>j (by simp[z])) e]) (λ_ _ _ _ n=>n)
  (λb o j e=>#[o,k b o (λz=>j (by simp[z])) e]) (λ_ _ e=>e) (λ_ _ _ e=>e) (λb ps e=>#[#[],by rw[e];simp]) (λm O=> ?_) (λb u e=> ?_) I.bare
 have e:b=h:=by simpa using M
 subst e;show#[G,B,J,L];obtain⟨o,P,Q,U,r⟩:=O;show#[o,P,Q,k _ o (iq B) U,r];apply(I.fO b u e).zT (λc v j q=>k c v ?_ q) (λ_ q=>q) λ_ _ q=>q;rcases j with z|z;rw[z];show y b u e;show y c _ z
def Inv.tok(I:Inv X pins σ H s)(t):Inv X pins σ H {s with toks:=t}:=I.un (h':=s.1) (t':=t) Un.refl I.fO
def Inv.kept(I:Inv X pins σ H s)(k:∀b u,s.1.get? b=N' u->h'.get? b=N' u):Inv X pins σ H {s with heap:=h',toks:=t'}:=I.un (Un.kept k) (I.fO.kept k)
def Inv.laid(I:Inv X pins σ H s)(k:∀b u,s.1.get? b=N' u->h'.get? b=N' u)(c:s.1.1.size<=a)(h:gz X.1 X.w (upd H a o) h' a o):Inv X pins σ (upd H a o) {s with heap:=h',toks:=t'}:=I.un (Un.laid k c (I.fO.fresh c)) (I.fO.laid k c h)
def Inv.write(I:Inv X pins σ H s)(j:Mut (H x))(he:e=x\/H e=N' (.own x))(k:∀b u,b≠e->s.1.get? b=N' u->h'.get? b=N' u)(c:∃u,h'.get? e=N' u)(h:gz X.1 X.w (upd H x o) h' x o):Inv X pins σ (upd H x o) {s with heap:=h',toks:=t'}:=I.un (Un.write j he k c) (I.fO.write j he k c h)
def Inv.weak(I:Inv X pins σ H s)(c:σ'.length=σ.length)(w:∀(i:Nat) v,σ'[i]?=N' (N' v)->σ[i]?=N' (N' v)):Inv X pins σ' H s:=#[I.ok,I.os,I.bare,I.base,let ⟨m,hn,hl'⟩:=I.loc;#[m,hn,λi x v h j o=>hl' i x v h (w i v j) o],I.cell,I.free,I.nk,I.pin,I.fO,c.trans I.len]
def Inv.Es(I:Inv X pins σ H s)(h:∀p∈c,s.1.get? p.1=N' p.2/\H p.1=O'/\p.1≠X.env.locals/\p.1∉X.fs/\∀v,p.2.data≠.cell v):Inv X c σ H s:=#[I.ok,I.os,I.bare,I.base,I.loc,I.cell,I.free,I.nk,λp j=>(List.mem_append.mp j).elim (λz=>I.pin p (Zf _ z)) (h p),I.fO,I.len]
def vN{N:(iG)}(c:N.Nodup){i j:Nat}{x:Str}(a:N[i]?=N' x)(b:N[j]?=N' x):i=j:=by obtain⟨q,h⟩:=ni.mp a;obtain⟨r,o⟩:=ni.mp b;show(List.getElem_inj c).mp (h.trans o.symm)
noncomputable def x8(I:Inv X pins σ H s)(hN:X.N.Nodup)(D:X.N[i]?=N' x)(O:Loc X.env.1 x)(r:RelV v u)(h:∀s',Inv X pins (σ.set i (N' v)) H s'->(∃a,XQ a s.1 s'.1/\(a=X.env.locals\/X.env.4.lookup x=N' a))->Q ⟨⟩ s')(hf:(X.fn x=P'/\X.fz x=Q')\/X.env.1.2.lookup x=N' .local:=by first|show .inl #[S',S']|show .inr S'|assumption):V5 M A (Zu X.env x u) Q E s:=by
 obtain⟨m,t,hl⟩:=id I.loc;have V:(X.env.1.kind==.class||(X.env.1.kind==.module&&X.env.locals !=X.env.globals))=false:=by rw[I.ok.kind];rfl
 have Z:i<σ.length:=by rw[I.len];show(ni.mp D).1
 have Ot:=I.Ot;have G:∀{a:VZ} {h':Heap},(∃o,s.1.get? a=N' o/\H a=O')->XQ a s.1 h'->uR X.1 X.w H h':=λ{a h'} ha B b ob e=>by obtain⟨_,_,P⟩:=ha;apply(I.fO b ob e).zT (λc f L q=>(B.2 c ?_).trans q) (λ_ q=>q) λ_ _ q=>q;rintro rfl;rcases L with rfl|L;rw[P]at e;cases e;rw[P]at L;cases L
 rcases O with T|T;apply wpAny_storeName_local T t (λh' za B=> ?_) V;obtain⟨oL,_,_,zb,_⟩:=id t;apply h _ #[I.ok,I.os,I.bare,#[λb o e n C O=> ?_,λb o e n C O=> ?_,I.base.free,λb o e O=> ?_,I.base.zU,I.base.uS,I.base.xB],#[_,za,λj y v' J Y e3=> ?_],λy c e=> ?_,I.free,I.nk,λp hp=> ?_,G #[oL,zb,I.free] B,by simpa using I.len] #[_,B,.inl S'];show(B.2 b (cH (aW (aR e) I.ok.above))).trans (I.base.keep b o e n C O);obtain⟨sl,J⟩:=I.base.slot b o e n C O;show#[sl,(B.2 b (cH (aW (aR e) I.ok.above))).trans J];obtain⟨o',J⟩:=I.base.there b o e O;show#[o',(B.2 b (cH (aW (aR e) I.ok.above))).trans J];by_cases F:j=i;subst F;rw[D]at J;cases J;rw[nZ Z]at Y;cases Y;show#[u,r,.inl #[T,by simp]];rw[lV (iq F)]at Y;obtain⟨u',r',q⟩:=hl j y v' J Y e3;apply#[u',r',?_];rcases q with⟨k,e⟩|⟨k,c,e,z⟩;apply .inl #[k,?_];have:y≠x:=λe=>F (vN hN J (e▸D));simp[this,e];show .inr #[k,c,e,z.sameBut B (Ot y c e)];obtain⟨f,z⟩:=I.cell y c e;show#[f,z.sameBut B (Ot y c e)];obtain⟨e,n,g,nf,d⟩:=I.pin p hp;show#[(B.2 p.1 g).trans e,n,g,nf,d];have U:X.fn x=P'/\X.fz x=false:=by rcases hf with z|z;show z;rw[z]at T;cases T
 obtain⟨U,zc⟩:=U;obtain⟨c,L⟩:=I.ok.has x (.inl T);obtain⟨f,z⟩:=I.cell x c L;have zd:H c=none:=by rcases I.nk x c L with n|⟨z,_⟩;show n;rw[zc]at z;cases z
 apply wpAny_storeName_cell I.ok.kind T L z (λh' R B=> ?_);obtain⟨oc,S,K⟩:=id z;apply h {s with heap:=h'} #[I.ok,I.os,I.bare,#[λb o e n C O=> ?_,λb o e n C O=> ?_,I.base.free,λb o e O=> ?_,I.base.zU,I.base.uS,I.base.xB],#[m,t.sameBut B (iq (Ot x c L)),λj y v' J Y e3=> ?_],λy l e=> ?_,I.free,I.nk,λp hp=> ?_,G #[oc,S,zd] B,by simpa using I.len] #[c,B,.inr L];show(B.2 b (cH (aW (aR e) (I.ok.Pf x c U L)))).trans (I.base.keep b o e n C O);obtain⟨sl,J⟩:=I.base.slot b o e n C O;show#[sl,(B.2 b (cH (aW (aR e) (I.ok.Pf x c U L)))).trans J];obtain⟨o',J⟩:=I.base.there b o e O;show#[o',(B.2 b (cH (aW (aR e) (I.ok.Pf x c U L)))).trans J];by_cases F:j=i;subst F;rw[D]at J;cases J;rw[nZ Z]at Y;cases Y;show#[u,r,.inr #[.inl T,c,L,R]];rw[lV (iq F)]at Y;obtain⟨u',r',q⟩:=hl j y v' J Y e3;apply#[u',r',?_];rcases q with q|⟨k,l,e,z'⟩;show .inl q;apply .inr #[k,l,e,z'.sameBut B ?_];rintro rfl;show F (vN hN J (I.ok.inj _ _ _ e L▸D));by_cases W:l=c;subst W;show#[_,R];obtain⟨w2,z2⟩:=I.cell y l e;show#[w2,z2.sameBut B W];obtain⟨e,n,g,nf,d⟩:=I.pin p hp;apply#[(B.2 p.1 ?_).trans e,n,g,nf,d];intro q;rw[q,S]at e;have q':oc=p.2:=dz e;show d f (by rw[<-q'];show K)
def nq(I:Inv X pins σ H s)(j:X.N.Nodup)(o:X.N[i]?=N' x)(q:Loc X.env.1 x)(r:RelV v u)(h:∀c,Inv X pins (σ.set i (N' v)) H c->Q ⟨⟩ c)(y:(X.fn x=P'/\X.fz x=Q')\/X.env.1.2.lookup x=N' .local:=by first|show .inl #[S',S']|show .inr S'|assumption):V5 M A (Zu X.env x u) Q E s:=
 x8 I j o q r (λc B _=>h c B) y
def Inv.Td(I:Inv X pins σ H s)(q:h.os=s.os)(u:Un (Iv X.stack) ch H H' s.1 h.1)(j:uR X.1 X.w H' h.1)(r:Yu h.gens)(o:∀b∈ch,(b∈X.ex\/X.zV.1.1.size<=b)/\b≠X.env.locals/\(∀x c,X.env.4.lookup x=N' c->c≠b)/\∀p∈X.pn++pins,p.1≠b):Inv X pins σ H' h:=by obtain⟨h',g',d',t',y⟩:=h;have e:y=s.os:=q;subst e;show I.call (g':=g') (t':=t') (d':=d') u j r o
end
abbrev XK:=Value->Option VZ->Hp->Prop
abbrev St:=List (Option V)
abbrev VK:=V->Hp->Prop
abbrev TE:=St->Hp->VK->Prop
abbrev TT:=St->Hp->(Bool->Hp->Prop)->Prop
abbrev TA:=St->Hp->(List V->Hp->Prop)->Prop
structure Ends where
 nx:St->Hp->Prop
 rt:VK
 bk:St->Hp->Prop:=λ_ _=>False
 ct:St->Hp->Prop:=λ_ _=>False
abbrev TS:=Ends->St->Hp->Prop
inductive EP(X:Cx)(pins:(List (VZ×Obj)))(σ:St)(Q:VK)(u:Value)(s':Shared):Prop
 |mk (v:V) (H':Hp) (I:Inv X pins σ H' s') (r:RelV v u) (q:Q v H'):EP X pins σ Q u s'
inductive TP(X:Cx)(pins:(List (VZ×Obj)))(σ:St)(Q:Bool->Hp->Prop)(b:Bool)(s':Shared):Prop
 |mk (H':Hp) (I:Inv X pins σ H' s') (q:Q b H'):TP X pins σ Q b s'
inductive AP(X:Cx)(pins:(List (VZ×Obj)))(σ:St)(Q:List V->Hp->Prop)(us:(TyJ))(s':Shared):Prop
 |mk (vs:List V) (H':Hp) (I:Inv X pins σ H' s') (r:Vals vs us) (q:Q vs H'):AP X pins σ Q us s'
universe b
def SP(X:Cx)(pins:(List (VZ×Obj)))(D:Ends)(f:Flow)(h:Shared):Prop:=match f with
 |.next=>∃σ' c,Inv X pins σ' c h/\D.nx σ' c
 |.brk=>∃σ' c,Inv X pins σ' c h/\D.bk σ' c
 |.cont=>∃σ' c,Inv X pins σ' c h/\D.ct σ' c
 |.ret u=>∃v σ' c,Inv X pins σ' c h/\RelV v u/\D.rt v c
def PE(X:Cx)(e:Expr)(t:TE):Prop:=∀(pins:(List (VZ×Obj))) (s:Shared) (σ:St) (H:Hp) (Q:VK),Inv X pins σ H s->t σ H Q->V5 (V3 X.1 X.w) X.A (Wo e X.env) (EP X pins σ Q) X.xe s
def PT(X:Cx)(e:Expr)(t:TT):Prop:=∀(pins:(List (VZ×Obj))) (s:Shared) (σ:St) (H:Hp) (Q:Bool->Hp->Prop),Inv X pins σ H s->t σ H Q->V5 (V3 X.1 X.w) X.A (isTrue e X.env (Wo e X.env)) (TP X pins σ Q) X.xe s
def PW(X:Cx)(e:Expr)(t:TT):Prop:=∀(whole:Sem Value) (pins:(List (VZ×Obj))) (s:Shared) (σ:St) (H:Hp) (Q:Bool->Hp->Prop),Inv X pins σ H s->t σ H Q->V5 (V3 X.1 X.w) X.A (isTrue e X.env whole) (TP X pins σ Q) X.xe s
def PW.pt(h:PW X e t):PT X e t:=h _
def PA(X:Cx)(c:(k_))(t:TA):Prop:=∀(pos:Pos) (pins:(List (VZ×Obj))) (s:Shared) (σ:St) (H:Hp) (Q:List V->Hp->Prop),Inv X pins σ H s->t σ H Q->V5 (V3 X.1 X.w) X.A (spliced (Wz pos (V2 c X.env))) (AP X pins σ Q) X.xe s
def PS(X:Cx)(c:Stmt)(t:TS):Prop:=∀(pins:(List (VZ×Obj))) (s:Shared) (σ:St) (H:Hp) (D:Ends),Inv X pins σ H s->t D σ H->V5 (V3 X.1 X.w) X.A (exec c X.env) (SP X pins D) X.xe s
def gA(X:Cx)(c:(TyM))(t:TS):Prop:=∀(pins:(List (VZ×Obj))) (s:Shared) (σ:St) (H:Hp) (D:Ends),Inv X pins σ H s->t D σ H->V5 (V3 X.1 X.w) X.A (execs c X.env) (SP X pins D) X.xe s
def d7(h:V5 M A t Q E s)(c:∀a s,Q a s->j a s):V5 M A t j E s:=eM h c λ_ _ x=>x
section
variable {X:Cx}
def tU(i:Nat):TE:=λσ H Q=>∃v,σ[i]?=N' (N' v)/\Q v H
def tC(v:V):TE:=λ_ H Q=>Q v H
universe a
noncomputable def pG(G:X.N[i]?=N' x)(J:Bd X.env.1 x)(y:(x==("__debug__":Str))=false:=by decide)(B:(x==("__classdict__":Str))=false:=by decide):PE X (.Name x pos) (tU i):=by intro pins s L H Q I h;obtain⟨v,e,h⟩:=h;obtain⟨m,M,O⟩:=I.loc;obtain⟨u,r,l⟩:=O i x v G e J;have o:EP X pins L Q u s:=#[v,H,I,r,h];rcases l with⟨q,P⟩|⟨q,c,E,j⟩;show wpAny_Name (Z1 I.ok.kind q M P o) y;rcases q with q|q;show wpAny_Name (J' I.ok.kind q E j o) y;show wpAny_Name (wpAny_loadName_free I.ok.kind q E j o B) y
def gW{i j pos}:PE X (.Constant (.int i) j pos) (tC (.int i)):=λ_ _ _ H _ I h=>wpAny_Constant_int #[.int i,H,I.tok _,#[_,S'],h]
def Te{b j pos}:PE X (.Constant (.bool b) j pos) (tC (.bl b)):=λ_ _ _ H _ I h=>Constant_bool #[.bl b,H,I,S',h]
def Pg{j pos}:PE X (.Constant .none j pos) (tC .bQ):=λ_ _ _ H _ I h=>Zq #[.bQ,H,I,S',h]
def Gl(X:Cx)(x:Str):Prop:=X.env.kindOf x=N' .globalImplicit
noncomputable def oy(I:Inv X pins σ H s)(c:Gl X x)(j:X.mg x=N' u)(h:Q u s)(o:(x==("__debug__":Str))=false:=by decide):V5 (V3 X.1 X.w) X.A (Wo (.Name x pos) X.env) Q E s:=
 Yt I.ok.kind c (Calls.loadGlobal_global (by rw[I.ok.glob];show I.mod.glob.keeps I.bk) j h) o
noncomputable def oz(I:Inv X pins σ H s)(c:Gl X x)(j:X.mg x=O')(o:WZ x=N' u)(h:Q u s)(q:x≠"__name__":=by decide)(r:(x==("__debug__":Str))=false:=by decide):V5 (V3 X.1 X.w) X.A (Wo (.Name x pos) X.env) Q E s:=by obtain⟨G,y,B⟩:=I.mod.blt;show Yt I.ok.kind c (Calls.loadGlobal_builtin (by rw[I.ok.glob];show I.mod.glob.keeps I.bk) j (by rw[I.ok.blt];show y.keeps I.bk) ((B x q).trans o) h) r
def eO(c:Gl X x)(j:X.mg x=N' u)(r:RelV v u)(o:(x==("__debug__":Str))=false:=by decide):PE X (.Name x pos) (tC v):=
 λ_ _ _ H _ I h=>oy I c j #[v,H,I,r,h] o
variable {a b:Expr} {ta tb:TE} {pos:Pos}
def PC(X:Cx)(j:G')(a b:Expr)(t:TE):Prop:=∀(pins:(List (VZ×Obj))) (s:Shared) (σ:St) (H:Hp) (Q:VK),Inv X pins σ H s->t σ H Q->
  V5 (V3 X.1 X.w) X.A (Wo a X.env) (λv c=>V5 (V3 X.1 X.w) X.A (Wo b X.env) (λu h=>V5 (V3 X.1 X.w) X.A (Ww j v u) (EP X pins σ Q) X.xe h) X.xe c) X.xe s
def Be(b)(h:op≠.In)(c:op≠.NotIn):WE op b=false:=by
 have j:(op==CmpOp.In)=false:=by cases op<;>first|rfl|show absurd rfl h
 have o:(op==CmpOp.NotIn)=false:=by cases op<;>first|rfl|show absurd rfl c
 cases b<;>simp[WE,j,o]
def Tf(ta:TE):TE:=λσ H Q=>ta σ H λx c=>Q (.bl (decide (x=.bQ))) c
def Ou(ta:TE):TE:=λσ H Q=>ta σ H λx c=>Q (.bl (!decide (x=.bQ))) c
def RelV.Bf(r:RelV x v):(v==YC)=decide (x=.bQ):=by
 cases x with
 |bQ=>cases r;rfl
 |bl _=>cases r;rfl
 |int _=>obtain⟨t,rfl⟩:=r;rfl
 |str _=>obtain⟨t,rfl⟩:=r;rfl
 |Di _=>obtain⟨t,rfl⟩:=r;rfl
 |S_ _=>obtain⟨t,rfl⟩:=r;rfl
 |ref _=>cases r;rfl
 |ty _=>cases r;rfl
def Iy{j pos'}(o:PE X a ta):PC X .Is a (.Constant .none j pos') (Tf ta):=by intro pins s q H Q I h;apply d7 (o pins s q H _ I h) λv E c=> ?_;obtain⟨x,r,u,y,B⟩:=c;show Zq (is_none_gen #[.bl _,r,u,by rw[y.Bf];rfl,B])
def zW{j pos'}(o:PE X a ta):PC X .IsNot a (.Constant .none j pos') (Ou ta):=by intro pins s q H Q I h;apply d7 (o pins s q H _ I h) λv E c=> ?_;obtain⟨x,r,u,y,B⟩:=c;show Zq (isnot_none_gen #[.bl _,r,u,by rw[y.Bf];rfl,B])
def tB(t:TE):TT:=λσ H Q=>t σ H λx h=>∃c,x=.bl c/\Q c h
noncomputable def zX(h:PC X op a b t)(c:WE op b=false:=by first|show Be _ () ()|rfl):PE X (.Compare a [op] [b] pos) t:=λpins s σ H Q I j=>wpAny_Compare1 (h pins s σ H Q I j) c
noncomputable def vO(h:PC X op a b t)(j:WE op b=false:=by first|show Be _ () ()|rfl):PT X (.Compare a [op] [b] pos) (tB t):=by intro pins s o H Q I r;apply ZR (d7 (h pins s o H _ I r) λv B j=>d7 j λu E y=>d7 y λc G #[x,H1,I1,r1,q1]=> ?_) j;obtain⟨d,rfl,q⟩:=q1;cases r1;show og #[H1,I1,q]
variable {tA tB':TT} {rest:(k_)}
def aaC(t u:TT):TT:=λσ H Q=>t σ H λc h=>if c=P' then u σ h Q else Q Q' h
def tOr(t u:TT):TT:=λσ H Q=>t σ H λc h=>if c=P' then Q P' h else u σ h Q
def aaD(t:TT):TT:=λσ H Q=>t σ H λc h=>Q (!c) h
def L6(j:PT X a tA):PW X (.BoolOp .And [a] pos) tA:=by
 intro q pins s o H Q I h;apply isTrue_and (d7 (j pins s o H Q I h) λc r e=> ?_);cases c with
 |true=>show isTrue_and_nil e
 |false=>show e
def Ph(j:PT X a tA):PW X (.BoolOp .Or [a] pos) tA:=by
 intro q pins s o H Q I h;apply isTrue_or (d7 (j pins s o H Q I h) λc r e=> ?_);cases c with
 |false=>show isTrue_or_nil e
 |true=>show e
def Pj(y:PT X a tA)(B:PW X (.BoolOp .And (b::rest) pos) tB'):PW X (.BoolOp .And (a::b::rest) pos) (aaC tA tB'):=by
 intro E pins s o H Q I h;apply isTrue_and (d7 (y pins s o H _ I h) λc G j=> ?_);obtain⟨q,r,u⟩:=j;cases c with
 |true=>show B E pins G o q Q r u
 |false=>show#[q,r,u]
def Tg(y:PT X a tA)(B:PW X (.BoolOp .Or (b::rest) pos) tB'):PW X (.BoolOp .Or (a::b::rest) pos) (tOr tA tB'):=by
 intro E pins s o H Q I h;apply isTrue_or (d7 (y pins s o H _ I h) λc G j=> ?_);obtain⟨q,r,u⟩:=j;cases c with
 |true=>show#[q,r,u]
 |false=>show B E pins G o q Q r u
def Dk(o:PT X a tA):PT X (.UnaryOp .Not a pos) (aaD tA):=by intro pins s q H Q I h;show isTrue_not (d7 (o pins s q H (λc j=>Q (!c) j) I h) λc y z=>by obtain⟨j,r,u⟩:=z;show#[j,r,u])
def Th(ta tb:TE):TE:=λσ H Q=>ta σ H λx h=>∃c,x=.bl c/\if c=P' then tb σ h Q else Q (.bl Q') h
def aaE(ta tb:TE):TE:=λσ H Q=>ta σ H λx h=>∃c,x=.bl c/\if c=P' then Q (.bl P') h else tb σ h Q
def Ti(ta:TE):TE:=λσ H Q=>ta σ H λx h=>∃c,x=.bl c/\Q (.bl (!c)) h
def Iz{op}(h:PE X a t):PE X (.BoolOp op [a] pos) t:=λpins s σ H Q I c=>BoolOp_one (h pins s σ H Q I c)
def Pk(y:PE X a ta)(B:PE X (.BoolOp .And (b::rest) pos) tb):PE X (.BoolOp .And (a::b::rest) pos) (Th ta tb):=by
 intro pins s q H Q I h;apply BoolOp_and (d7 (y pins s q H _ I h) λv E o=> ?_);obtain⟨x,r,u,G,j⟩:=o;obtain⟨c,rfl,j⟩:=j;cases G;apply og ?_;cases c with
 |true=>show B pins E q r Q u j
 |false=>show#[.bl Q',r,u,S',j]
def Tj(y:PE X a ta)(B:PE X (.BoolOp .Or (b::rest) pos) tb):PE X (.BoolOp .Or (a::b::rest) pos) (aaE ta tb):=by
 intro pins s q H Q I h;apply BoolOp_or (d7 (y pins s q H _ I h) λv E o=> ?_);obtain⟨x,r,u,G,j⟩:=o;obtain⟨c,rfl,j⟩:=j;cases G;apply og ?_;cases c with
 |false=>show B pins E q r Q u j
 |true=>show#[.bl P',r,u,S',j]
def Pm(q:PE X a ta):PE X (.UnaryOp .Not a pos) (Ti ta):=by intro pins s r H Q I h;apply UnaryOp_ (d7 (q pins s r H _ I h) λv E j=> ?_);obtain⟨x,u,y,B,o⟩:=j;obtain⟨c,rfl,o⟩:=o;cases B;show not_of (og #[.bl (!c),u,y,S',o])
def tIf(t:TT)(ta tb:TE):TE:=λσ H Q=>t σ H λc h=>if c=P' then ta σ h Q else tb σ h Q
def vP(B:PT X c tA)(E:PE X a ta)(G:PE X b tb):PE X (.IfExp c a b pos) (tIf tA ta tb):=by
 intro pins s j H Q I h;apply wpAny_IfExp (d7 (B pins s j H _ I h) λd q o=> ?_);obtain⟨r,u,y⟩:=o;cases d with
 |true=>show E pins q j r Q u y
 |false=>show G pins q j r Q u y
end
def cQ(K:V7)(H:Hp)(a:VZ)(xs:List V):Prop:=Rd H a (.lst xs)\/
  ∃(o:Obj) (c:Array Value) (n:Nat),K.lookup a=N' o/\o.cls=.type "list"∧o.dict=O'/\o.data=.seq c n/\c.size<=sizeLine/\Vals xs c.toList
def o8(K:V7)(H:Hp)(a:VZ)(xs:List V):Prop:=Rd H a (.tup xs)\/
  ∃(o:Obj) (c:Array Value) (n:Nat),K.lookup a=N' o/\o.cls=.type "tuple"∧o.data=.seq c n/\c.size<=sizeLine/\Vals xs c.toList
noncomputable def aaF:Value->Option V
 |.none=>N' .bQ
 |.bool b=>N' (.bl b)
 |.int i _=>N' (.int i)
 |.str x _=>N' (.str x)
 |.bytes b _=>N' (.Di b)
 |.float b _=>N' (.S_ b)
 |.ref a=>N' (.ref a)
 |.type n=>N' (.ty n)
 |_=>O'
universe a
def RelV.abs(r:RelV x u):aaF u=N' x:=by
 cases x with
 |bQ=>cases r;rfl
 |bl _=>cases r;rfl
 |int _=>obtain⟨t,rfl⟩:=r;rfl
 |str _=>obtain⟨t,rfl⟩:=r;rfl
 |Di _=>obtain⟨t,rfl⟩:=r;rfl
 |S_ _=>obtain⟨t,rfl⟩:=r;rfl
 |ref _=>cases r;rfl
 |ty _=>cases r;rfl
def RelV.inj(r:RelV x u)(q:RelV y u):x=y:=dz (r.abs.symm.trans q.abs)
theorem Vals.inj:∀{xs c:List V} {us:(TyJ)},Vals xs us->Vals c us->xs=c
 |_,_,_,.nil,.nil=>rfl
 |_,_,_,.cons r t,.cons h t'=>by rw[r.inj h,Vals.inj t t']
def cQ.of{K:V7}(h:H a=N' (.lst xs)):cQ K H a xs:=.inl (.inl h)
def o8.of{K:V7}(h:H a=N' (.tup xs)):o8 K H a xs:=.inl (.inl h)
def Inv.list(I:Inv X pins σ H s)(h:cQ X.K H a xs):∃c:(TyJ),Vals xs c/\PlainL s.1 a c.toArray/\xs.length<=sizeLine:=by rcases h with h|⟨o,c,n,j,q,u,y,B,r⟩;obtain⟨z,c,n,r,e⟩:=h.ok I.fO;show#[c,r,#[_,n,e,S',S',S'],z];apply#[c.toList,r,#[o,n,I.x6 a o j,q,u,by simpa using y],?_];have e:=r.length;simp![tJ]at e;lia
def Inv.tuple(I:Inv X pins σ H s)(h:o8 X.K H a xs):∃c:(TyJ),Vals xs c/\IsTup s.1 a c.toArray/\xs.length<=sizeLine:=by rcases h with h|⟨o,c,n,j,q,u,y,r⟩;obtain⟨z,c,r,p⟩:=h.ok I.fO;show#[c,r,p,z];apply#[c.toList,r,#[o,I.x6 a o j,q,n,by simpa using u],?_];have e:=r.length;simp![tJ]at e;lia
def Inv.kA(I:Inv X pins σ H s)(h:cQ X.K H a xs)(h':cQ X.K H a j):xs=j:=by
 obtain⟨c,r,⟨o,n,e,_,_,d⟩,_⟩:=I.list h;obtain⟨its',q,⟨u,y,e',_,_,d'⟩,_⟩:=I.list h';rw[e]at e';cases e';rw[d]at d';injection d' with d1 _;have:c=its':=by simpa using congrArg YN d1
 subst this;show r.inj q
def Inv.GZ(I:Inv X pins σ H s)(h:o8 X.K H a xs)(h':o8 X.K H a j):xs=j:=by
 obtain⟨c,r,⟨o,e,_,n,d⟩,_⟩:=I.tuple h;obtain⟨its',q,⟨u,e',_,y,d'⟩,_⟩:=I.tuple h';rw[e]at e';cases e';rw[d]at d';injection d' with d1 _;have:c=its':=by simpa using congrArg YN d1
 subst this;show r.inj q
noncomputable abbrev Cx.uT(X:Cx)(E:(Value->Shared->Prop)):Cx:={X with xe:=E}
abbrev Cx.vj(X:Cx):Cx:=X.uT λ_ _=>False
def Cx.Ok.uT{X:Cx}(c:X.Ok)(E:(Value->Shared->Prop)):(X.uT E).Ok:=#[c.mod,c.kind,c.glob,c.blt,c.above,c.inj,c.has,c.Pf,c.hd,c.frames,c.Tb,c.Tc,c.bs,c.Iw,c.GX,c.GY,c.r9,c.L5]
def Cx.Ok.m3{X:Cx}{E:(Value->Shared->Prop)}(c:(X.uT E).Ok):X.Ok:=#[c.mod,c.kind,c.glob,c.blt,c.above,c.inj,c.has,c.Pf,c.hd,c.frames,c.Tb,c.Tc,c.bs,c.Iw,c.GX,c.GY,c.r9,c.L5]
def Inv.uT(I:Inv X pins σ H s)(E:(Value->Shared->Prop)):Inv (X.uT E) pins σ H s:=#[I.ok.uT E,I.os,I.bare,I.base,I.loc,I.cell,I.free,I.nk,I.pin,I.fO,I.len]
def Inv.m3(I:Inv (X.uT E) pins σ H s):Inv X pins σ H s:=#[I.ok.m3,I.os,I.bare,I.base,I.loc,I.cell,I.free,I.nk,I.pin,I.fO,I.len]
universe b
def SP.m3(h:SP (X.uT E) pins D f j):SP X pins D f j:=by
 cases f with
 |next=>obtain⟨σ',c,I,q⟩:=h;show#[σ',c,I.m3,q]
 |brk=>obtain⟨σ',c,I,q⟩:=h;show#[σ',c,I.m3,q]
 |cont=>obtain⟨σ',c,I,q⟩:=h;show#[σ',c,I.m3,q]
 |ret u=>obtain⟨v,σ',c,I,r,q⟩:=h;show#[v,σ',c,I.m3,r,q]
universe a
def PE.vj(h:PE X.vj e t):PE X e t:=λpins s σ H Q I j=>
 eM (h pins s σ H Q (I.uT _) j) (λ_ _ c=>by obtain⟨v,o,u,r,q⟩:=c;show#[v,o,u.m3,r,q]) λ_ _ z=>V8 z
def gA.vj{c:(TyM)}{t:TS}(h:gA X.vj c t):gA X c t:=λpins s σ H D I j=>
 eM (h pins s σ H D (I.uT _) j) (λ_ _ q=>q.m3) λ_ _ z=>V8 z
section
variable {X:Cx} {st:Stmt} {rest:(TyM)} {t u:TS}
def Ov:TS:=λD σ H=>D.nx σ H
def Tn(t u:TS):TS:=λD σ H=>t {D with nx:=u D} σ H
def mL:gA X [] Ov:=λ_ _ σ H _ I h=>vi #[σ,H,I,h]
universe b
def aJ(c:PS X st t)(j:gA X rest u):gA X (st::rest) (Tn t u):=by
 intro pins s o H D I h;apply YA (d7 (c pins s o H {D with nx:=u D} I h) λf r q=> ?_);cases f with
 |next=>
  obtain⟨σ',y,B,q⟩:=q;show j pins r σ' y D B q
 |ret v=>show q
 |brk=>show q
 |cont=>show q
def dD(c:PS X st t):gA X [st] t:=by
 intro pins s j H D I h;apply YA (d7 (c pins s j H D I h) λf o q=> ?_);cases f with
 |next=>show vi q
 |ret v=>show q
 |brk=>show q
 |cont=>show q
universe a
def Inv.quiet(I:Inv X pins σ H s):interactive X.env=false:=by simp[interactive,I.ok.kind]
universe b
def IA{x j pos pos'}:PS X (.Expr (.Constant (.str x) j pos) pos') Ov:=λ_ s σ H _ I h=>wpAny_Expr (Calls.Constant_str (show SP X _ _ .next {s with toks:=s.4+1}from#[σ,H,I.tok _,h])) I.quiet
def To(c:TE):TS:=λD σ H=>c σ H λ_ h=>D.nx σ h
universe a
noncomputable def qp(he:PE X e o)(q:Ws e O' pos.line X.env=pure false:=by rfl):PS X (.Expr e pos) (To o):=by intro pins s j H D I h;show wpAny_Expr_any (d7 (he pins s j H _ I h) λv E c=>by obtain⟨x,r,y,G,B⟩:=c;show#[j,r,y,B]) I.quiet q
def aaG(c:TE):TS:=λD σ H=>c σ H D.rt
def kb(he:PE X e o):PS X (.Return (N' e) pos) (aaG o):=by intro pins s j H D I h;show wpAny_Return_some (d7 (he pins s j H _ I h) λv E c=>by obtain⟨x,q,r,y,B⟩:=c;show#[x,j,q,r,y,B])
def aaH(c:TT)(t u:TS):TS:=λD σ H=>c σ H λb h=>if b=P' then t D σ h else u D σ h
def uE(E:PT X c G)(J:gA X a t)(L:gA X b u):PS X (.If c a b pos) (aaH G t u):=by
 intro pins s j H D I h;apply wpAny_If (d7 (E pins s j H _ I h) λd q o=> ?_);obtain⟨r,y,B⟩:=o;cases d with
 |true=>show J pins q j r D y B
 |false=>show L pins q j r D y B
end
abbrev TG:=V->St->Hp->(St->Hp->Prop)->Prop
abbrev SR:=List V->St->Hp->(St->Hp->Prop)->Prop
def PG(X:Cx)(c:Expr)(t:TG):Prop:=∀(pins:(List (VZ×Obj))) (s:Shared) (σ:St) (H:Hp) (v:V) (u:Value) (Q:St->Hp->Prop),Inv X pins σ H s->RelV v u->t v σ H Q->
  V5 (V3 X.1 X.w) X.A (XI c X.env u) (λ_ j=>∃σ' h,Inv X pins σ' h j/\Q σ' h) X.xe s
def L7(X:Cx)(h:(k_))(t:SR):Prop:=∀(pins:(List (VZ×Obj))) (s:Shared) (σ:St) (H:Hp) (vs:List V) (us:(TyJ)) (Q:St->Hp->Prop),Inv X pins σ H s->Vals vs us->t vs σ H Q->
  V5 (V3 X.1 X.w) X.A (assignInOrder ((Wq h X.env).map (·.2)) us) (λ_ j=>∃σ' c,Inv X pins σ' c j/\Q σ' c) X.xe s
abbrev Tp:=V->V->V->Hp->(Hp->Prop)->Prop
def Tq(X:Cx)(t:Tp):Prop:=∀(pins:(List (VZ×Obj))) (s:Shared) (σ:St) (H:Hp) (o i v:V) (c h u:Value) (Q:Hp->Prop),Inv X pins σ H s->RelV o c->RelV i h->RelV v u->t o i v H Q->
  V5 (V3 X.1 X.w) X.A (setItem c h u) (λ_ q=>∃j,Inv X pins σ j q/\Q j) X.xe s
abbrev TIp:=V->V->Hp->VK->Prop
def PIp(X:Cx)(c:W9)(t:TIp):Prop:=∀(pins:(List (VZ×Obj))) (s:Shared) (σ:St) (H:Hp) (x y:V) (v u:Value) (Q:VK),Inv X pins σ H s->RelV x v->RelV y u->t x y H Q->
  V5 (V3 X.1 X.w) X.A (WC c v u) (EP X pins σ Q) X.xe s
def Bg(i:Nat):TG:=λv σ H Q=>Q (σ.set i (N' v)) H
def Et(c:X.N.Nodup)(j:X.N[i]?=N' x)(o:Loc X.env.1 x)(q:(X.fn x=P'/\X.fz x=Q')\/X.env.1.2.lookup x=N' .local:=by first|show .inl #[S',S']|show .inr S'|assumption):PG X (.Name x pos) (Bg i):=by intro pins s B H v u Q I r h;show wpAny_assign_Name (nq I c j o r (λE y=>#[_,H,y,h]) q)
def aaI:SR:=λvs σ H Q=>vs=[]/\Q σ H
def Tr(t:TG)(u:SR):SR:=λvs σ H Q=>∃v r,vs=v::r/\t v σ H λσ' c=>u r σ' c Q
def L8:L7 X [] aaI:=by intro pins s c H vs us Q I r h;obtain⟨e,h⟩:=h;subst e;cases r;show assignInOrder_nil #[c,H,I,h]
noncomputable def IB(o:PG X e t)(q:L7 X c u)(y:(Wq (e::c) X.env).map (·.2)=XI e X.env::(Wq c X.env).map (·.2):=by rfl):L7 X (e::c) (Tr t u):=by
 intro pins s B H vs us Q I r h;obtain⟨v,P,E,h⟩:=h;subst E;cases r with
 |cons r G=>
  rw[y];apply assignInOrder_cons (d7 (o pins s B H _ _ _ I r h) λ_ J j=> ?_);obtain⟨σ1,L,M,O⟩:=j;show q pins J σ1 L _ _ Q M G O
def aaJ(K:V7)(n:Nat)(t:SR):TG:=λv σ H Q=>∃a xs,v=.ref a/\o8 K H a xs/\xs.length=n/\t xs σ H Q
noncomputable def Pn(E:X.calm=P')(h:L7 X c t)(G:(Wq c X.env).length=n:=by rfl)(j:(Wq c X.env).findIdx? (·.1)=none:=by rfl):PG X (.Tuple c k pos) (aaJ X.K n t):=by intro pins s y H v u Q I r q;obtain⟨a,xs,J,L,M,q⟩:=q;subst J;cases r;obtain⟨O,B,P,Z⟩:=I.tuple L;apply assign_Tuple_tuple (I.ok.hd E) P (by simp[G,<-M,B.length]) j λh' U=> ?_;have Y:Inv X pins y H {s with heap:=h'}:=I.kept (t':=s.4) λb o e=>U b o (cH (aR e)) e;show h pins _ y H xs _ Q Y (by simpa using B) q
def Po(c h:TE)(t:Tp):TG:=λv σ H Q=>c σ H λo j=>h σ j λi q=>t o i v q λr=>Q σ r
noncomputable def Dl(E:PE X o to)(G:PE X i ti)(J:Tq X t)(L:∀v,XI (.Subscript o i pos) X.env v=(do
   let j<-W5 [v] (Wo o X.env)
   let q<-W5 [v,j] (Wo i X.env)
   Xn pos
   W5 [v,j,q] (setItem j q v)
   release [v,j,q] []):=by intro _;rfl):PG X (.Subscript o i pos) (Po to ti t):=by
 intro pins s B H v u Q I r h
 rw[L]
 apply ai (Zj (d7 (E pins s B H _ I h) λj M c=> ?_))
 obtain⟨x,O,P,U,Y⟩:=c
 apply ai (Zj (d7 (G pins M B O _ P Y) λq Z c=> ?_))
 obtain⟨y,T,C,F,D⟩:=c
 apply ai (Zi (ai (Zj (d7 (J pins Z B T x y v j q u _ C U F r D) λ_ A c=> ?_))))
 obtain⟨V,R,S⟩:=c
 show wpAny_release #[B,V,R,S]
def Pq(c:TE)(g:TG):TS:=λD σ H=>c σ H λx h=>g x σ h D.nx
noncomputable def IC(he:PE X e j)(o:PG X tg g)(r:Xj [tg] e pos.line X.env=pure false:=by rfl)(u:Zk [tg] e X.env=pure none:=by rfl)
  (y:(Wq [tg] X.env).map (·.2)=[XI tg X.env]:=by rfl):PS X (.Assign [tg] e pos) (Pq j g):=by
 intro pins s c H D I h
 apply wpAny_Assign_stores (d7 (he pins s c H _ I h) λv B #[x,H1,I1,r1,q1]=> ?_) r u
 rw[y]
 show d7 (o pins B c H1 x v _ I1 r1 q1) λ_ E q=>q
def kc(c:X.N.Nodup)(j:X.N[i]?=N' x)(o:Loc X.env.1 x)(he:PE X e q)(r:Ws e (N' (.Name x pos')) pos.line X.env=pure false:=by rfl)(u:(X.fn x=P'/\X.fz x=Q')\/X.env.1.2.lookup x=N' .local:=by first|show .inl #[S',S']|show .inr S'|assumption):
  PS X (.Assign [.Name x pos'] e pos) (Pq q (Bg i)):=by
 intro pins s B H D I h
 apply wpAny_Assign_Name (d7 (he pins s B H _ I h) λv G #[y,H1,I1,r1,q1]=> ?_) r
 show nq I1 c j o r1 (λJ E=>#[_,H1,E,q1]) u
def aaK(i:Nat)(c:TE)(h:TIp):TS:=λD σ H=>∃x,σ[i]?=N' (N' x)/\c σ H λy j=>h x y j λz o=>D.nx (σ.set i (N' z)) o
universe b
def Pr(P:X.N.Nodup)(L:X.N[i]?=N' x)(G:Loc X.env.1 x)(he:PE X e Q)(U:PIp X op ti)(Y:(X.fn x=P'/\X.fz x=Q')\/X.env.1.2.lookup x=N' .local:=by first|show .inl #[S',S']|show .inr S'|assumption):
  PS X (.AugAssign (.Name x pos') op e pos) (aaK i Q ti):=by
 intro pins s M H D I h
 obtain⟨v,Z,h⟩:=h
 obtain⟨m,T,C⟩:=I.loc
 have J:Bd X.env.1 x:=by rcases G with k|k;show .inl k;show .inr (.inl k)
 obtain⟨u,r,l⟩:=C i x v L Z J
 apply wpAny_AugAssign_Name ?_
 have O:V5 (V3 X.1 X.w) X.A (Wo e X.env) (λw B=>V5 (V3 X.1 X.w) X.A (WC op u w) (λr E=>V5 (V3 X.1 X.w) X.A (Zu X.env x r) (λ_=>SP X pins D .next) X.xe E) X.xe B) X.xe s:=by apply d7 (he pins s M H _ I h) λw F o=> ?_;obtain⟨y,V,R,S,K⟩:=o;apply d7 (U pins F M V v y u w _ R r S K) λz p o=> ?_;obtain⟨t,W,a,b,d⟩:=o;show nq a P L G b (λs3 f=>#[_,W,f,d]) Y
 rcases l with⟨j,g⟩|⟨j,c,n,q⟩
 ·show Z1 I.ok.kind j T g O
 ·rcases j with j|j
  ·show J' I.ok.kind j n q O
  ·rcases G with k|k
   ·have:X.env.1.2.lookup x=N' .free:=j;rw[k]at this;cases this
   ·have:X.env.1.2.lookup x=N' .free:=j;rw[k]at this;cases this
def Pu(c:TT)(q:TS):TS:=λD σ H=>∃W:Nat->St->Hp->Prop,(∃m,W m σ H)/\∀m σ H,W m σ H->
 c σ H λb h=>if b=P' then ∃N:St->Hp->Prop,(∀σ' j,N σ' j->∃o,o<m/\W o σ' j)/\q {D with nx:=N,ct:=N,bk:=D.nx} σ h else D.nx σ h
def Bh(L:YD (V3 X.1 X.w) X.A X.env X.xe)(Y:PT X c Z)(T:gA X body tb):PS X (.While c body [] pos) (Pu Z tb):=by
 intro pins s C H D I h;obtain⟨W,⟨F,V⟩,j⟩:=h;apply wpAny_While (codeAny_whileLoop (λn R=>∃σ' M,Inv X pins σ' M R/\W n σ' M) ?_ F #[C,H,I,V]);rintro n S ⟨σ1,O,K,a⟩;apply om L (d7 (Y pins S σ1 O _ K (j n σ1 O a)) λb d u=> ?_);obtain⟨P,Q,q⟩:=u;cases b with
 |true=>
  obtain⟨N,U,q⟩:=q;rw[ae S'];apply om L (d7 (T pins d σ1 P _ Q q) λf e r=> ?_);cases f with
  |next=>
   obtain⟨σ3,o,y,B⟩:=r;obtain⟨E,G,J⟩:=U σ3 o B;show#[E,G,σ3,o,y,J]
  |cont=>
   obtain⟨σ3,o,y,B⟩:=r;obtain⟨E,G,J⟩:=U σ3 o B;show#[E,G,σ3,o,y,J]
  |brk=>show r
  |ret v=>show r
 |false=>
  rw[ab ek];show vi #[σ1,P,Q,q]
structure It where
 go:Nat->Hp->Prop
 ID:Nat->Hp->V->Hp->Prop
 stop:Nat->Hp->Prop
def uU(X:Cx)(pins:(List (VZ×Obj)))(H:Hp)(b:VZ):Prop:=H b=O'/\b≠X.env.locals/\b∉X.fs/\(b∈X.ex\/X.zV.1.1.size<=b)/\(∀x c,X.env.4.lookup x=N' c->c≠b)/\∀p∈X.pn++pins,p.1≠b
universe a
def Inv.Bj(I:Inv X pins σ H s)(h:s.1.1.size<=b)(j:o b=O'):uU X pins o b:=by apply#[j,XW (aW I.lt h),I.aaB h,.inr (c_ I.sz h),λx c e z=> ?_,λp r z=> ?_];obtain⟨v,q⟩:=I.cell x c e;show absurd (aW q.lt (by rw[z];show h)) (lE _);show absurd (aW (aR (I.pin p r).1) (by rw[z];show h)) (lE _)
structure Turn(P:Program)(w:V6)(K:V7)(tg:Expr)(J:It)(fp:(mw))(it:VZ)(tn:Nat->Heap->Prop):Prop where
 mem:it∈fp
 obj:∀i h,tn i h->∀b∈fp,∃o,h.get? b=N' o/\∀v,o.data≠.cell v
 keep:∀i h h',tn i h->(∀b∈fp,∀o,h.get? b=N' o->h'.get? b=N' o)->tn i h'
 item:∀(X:Cx),X.1=P->X.w=w->X.K=K->X.calm=P'->∀(i:Nat) (pins:(List (VZ×Obj))) (s:Shared) (σ:St) (H:Hp) (E:(Value->Shared->Prop)),Inv X pins σ H s->(∀b∈fp,uU X pins H b)->tn i s.1->J.go i H->
  V5 (V3 P w) X.A (YT (.ref it)) (λr s1=>∃u,r=N' u/\
   V5 (V3 P w) X.A (Xp tg (.ref it) u) (λ_ s2=>∃x H',Inv X pins σ H' s2/\RelV x u/\J.ID i H x H'/\tn (i+1) s2.1/\∀b∈fp,H' b=O') E s1) E s
 done:∀(X:Cx),X.1=P->X.w=w->X.K=K->X.calm=P'->∀(i:Nat) (pins:(List (VZ×Obj))) (s:Shared) (σ:St) (H:Hp) (E:(Value->Shared->Prop)),Inv X pins σ H s->(∀b∈fp,uU X pins H b)->tn i s.1->J.stop i H->
  V5 (V3 P w) X.A (YT (.ref it)) (λr s1=>r=O'/\Inv X pins σ H s1) E s
 self:∀(A:WK) (i:Nat) (s:Shared) (Q:(Value->Shared->Prop)) (E:(Value->Shared->Prop)),tn i s.1->Q (.ref it) s->V5 (V3 P w) A (pyIter (.ref it)) Q E s
abbrev TI:=St->Hp->(It->Hp->Prop)->Prop
def PIE(X:Cx)(pins:(List (VZ×Obj)))(r:St)(tg:Expr)(R:It->Hp->Prop)(c:Value)(j:Shared):Prop:=∃(it:VZ) (o:(mw)) (q:Nat->Heap->Prop) (J:It) (h:Hp),c=.ref it/\Inv X pins r h j/\Turn X.1 X.w X.K tg J o it q/\q 0 j.1/\(∀b∈o,uU X pins h b)/\R J h
def PI(X:Cx)(tg c:Expr)(h:TI):Prop:=∀(pins:(List (VZ×Obj))) (s:Shared) (σ:St) (H:Hp) (R:It->Hp->Prop),Inv X pins σ H s->h σ H R->
  V5 (V3 X.1 X.w) X.A (Wo c X.env) (λv j=>V5 (V3 X.1 X.w) X.A (pyIter v) (PIE X pins σ tg R) X.xe j) X.xe s
def Bk(j:s.1.get? it=N' o)(q:o.cls=.type n)(r:o.data=.fields vs)(y:["enumerate","zip","dict_itemiterator","dict_reverseitemiterator","odict_iterator","itertools.zip_longest","itertools.pairwise"].contains n=Q')(c:Q ⟨⟩ s):V5 M A (Xp tg (.ref it) u) Q E s:=by
 unfold Xp;cases tg<;>first
  |show aP c
  |(cases u<;>first
    |show aP c
    |(apply ai (wpAny_load j ?_)
      rw[q,r]
      show V5 M A (if(["enumerate","zip","dict_itemiterator","dict_reverseitemiterator","odict_iterator","itertools.zip_longest","itertools.pairwise"].contains n&&vs[0]?==N' (WD _))=P' then _ else _) Q E s
      rw[ab (by intro h;rw[y,Bool.false_and]at h;cases h)]
      show aP c))
noncomputable def Itl(K:V7)(a:VZ):It:=#[λi H=>∃xs x,cQ K H a xs/\xs[i]?=N' x,λi H x c=>c=H/\∀xs,cQ K H a xs->xs[i]?=N' x,λi H=>∃xs,cQ K H a xs/\xs.length<=i]
noncomputable def Itt(K:V7)(a:VZ):It:=#[λi H=>∃xs x,o8 K H a xs/\xs[i]?=N' x,λi H x c=>c=H/\∀xs,o8 K H a xs->xs[i]?=N' x,λi H=>∃xs,o8 K H a xs/\xs.length<=i]
noncomputable def Ts(c:Int)(n:Nat):It:=#[λi _=>i<n,λi H x h=>h=H/\x=.int (c+i),λi _=>n<=i]
def G0{P:Program}{w:V6}{K:V7}{tg:Expr}(a it):Turn P w K tg (Itl K a) [it] it (λi h=>h.IsListIter it a i) where
 mem:=by simp
 obj:=λi h j b q=>by
  have e:b=it:=by simpa using q
  subst e;obtain⟨o,e,c,d⟩:=j;show#[o,e,λv z=>by rw[d]at z;cases z]
 keep:=λi h h' j k=>j.at λo e=>k it (by simp) o e
 item:=by intro X G J L D i pins s V H E I y j M;subst G J L;obtain⟨xs,x,B,O⟩:=M;obtain⟨Q,U,p,R⟩:=I.list B;obtain⟨u,S,A⟩:=U.get O;obtain⟨Y,Z,N,T,C,F⟩:=y it (by simp);apply wpAny_pyNext_list_item j p.isList (x:=u) (by simpa using S) λh' r W=> ?_;have f:Inv X pins V H {s with heap:=h'}:=I.turned (t':=s.4) (λb o q e=>(W.2 b q).trans e) Y Z T C F;obtain⟨o,e,c,d⟩:=id r;show#[u,S',Bk (s:={s with heap:=h'}) e c d () #[x,H,f,A,#[S',λm g=>by rw[I.kA g B];show O],r,λb q=>(y b q).1]]
 done:=by intro X G J L D i pins s V H E I y j M;subst G J L;obtain⟨xs,B,O⟩:=M;obtain⟨Q,U,p,R⟩:=I.list B;obtain⟨Y,Z,N,T,C,F⟩:=y it (by simp);have n:=U.length;show wpAny_pyNext_list_end (I.ok.hd D) j p.isList (by simp;lia) λh' l=>#[S',I.turned (t':=s.4) (λb o q e=>l b o q e) Y Z T C F]
 self:=λ_ _ _ _ _ j h=>wpAny_pyIter_listiter j h
def Dm{P:Program}{w:V6}{K:V7}{tg:Expr}(a it):Turn P w K tg (Itt K a) [it] it (λi h=>h.IsTupleIter it a i) where
 mem:=by simp
 obj:=λi h j b q=>by
  have e:b=it:=by simpa using q
  subst e;obtain⟨o,e,c,d⟩:=j;show#[o,e,λv z=>by rw[d]at z;cases z]
 keep:=λi h h' j k=>j.at λo e=>k it (by simp) o e
 item:=by intro X J L M D i pins s V H E I B j O;subst J L M;obtain⟨xs,x,G,Q⟩:=O;obtain⟨r,U,p,R⟩:=I.tuple G;obtain⟨u,S,A⟩:=U.get Q;obtain⟨Y,Z,N,T,C,F⟩:=B it (by simp);apply wpAny_pyNext_tuple_item j (show s.1.IsTuple a r.toArray from p) (x:=u) (by simpa using S) λh' y W=> ?_;have f:Inv X pins V H {s with heap:=h'}:=I.turned (t':=s.4) (λb o q e=>(W.2 b q).trans e) Y Z T C F;obtain⟨o,e,c,d⟩:=id y;show#[u,S',Bk (s:={s with heap:=h'}) e c d () #[x,H,f,A,#[S',λm g=>by rw[I.GZ g G];show Q],y,λb q=>(B b q).1]]
 done:=by intro X J L M D i pins s V H E I B j O;subst J L M;obtain⟨xs,G,Q⟩:=O;obtain⟨r,U,p,R⟩:=I.tuple G;obtain⟨Y,Z,N,T,C,F⟩:=B it (by simp);have n:=U.length;show wpAny_pyNext_tuple_end (I.ok.hd D) j (show s.1.IsTuple a r.toArray from p) (by simp;lia) λh' l=>#[S',I.turned (t':=s.4) (λb o q e=>l b o q e) Y Z T C F]
 self:=λ_ _ _ _ _ j h=>wpAny_pyIter_tupleiter j h
def Dq{P:Program}{w:V6}{K:V7}{tg:Expr}(it)(lo)(n):Turn P w K tg (Ts lo n) [it] it (λi h=>IsRangeIter h it (lo+(i)*1) ((n)-(i)) 1) where
 mem:=by simp
 obj:=λi h c b j=>by
  have e:b=it:=by simpa using j
  subst e;show#[_,c,λv z=>by have Z:Data.fields _=Data.cell v:=z;cases Z]
 keep:=λi h h' c k=>k it (by simp) _ c
 item:=by intro X u y B G i pins s Y H E I r c J;subst u y B;obtain⟨L,M,T,O,Q,U⟩:=r it (by simp);have W:=Walks.range (prog:=X.1) (w:=X.w) (I.ok.hd G) it lo 1 n;apply W.item i s _ _ J c λv h' tk C q F=> ?_;obtain⟨t,rfl⟩:=C;have D:Inv X pins Y H {s with heap:=h',toks:=tk}:=I.turned (λb o j e=>F b o (by simpa using j) e) L M O Q U;apply#[_,S',Bk (s:={s with heap:=h',toks:=tk}) (n:="range_iterator") q S' rfl () #[.int (lo+i),H,D,#[t,?_],#[S',S'],q,λb j=>(r b j).1]];rw[Int.mul_one]
 done:=by intro X u y B G i pins s Y H E I r c J;subst u y B;obtain⟨L,M,T,O,Q,U⟩:=r it (by simp);show ZH (I.ok.hd G) c (by have:n<=i:=J;lia) λh' V=>#[S',I.turned (t':=s.4) (λb o j e=>V b o j e) L M O Q U]
 self:=λ_ _ _ _ _ c h=>ZI c h
def Tt(K:V7)(h:TE):TI:=λσ H R=>h σ H λx c=>∃a,x=.ref a/\(∃xs,cQ K c a xs)/\R (Itl K a) c
def aaL(K:V7)(h:TE):TI:=λσ H R=>h σ H λx c=>∃a,x=.ref a/\(∃xs,o8 K c a xs)/\R (Itt K a) c
def L9{l:Expr}{u:TE}(y:PE X l u):PI X tg l (Tt X.K u):=by
 intro pins s B H R I h;apply d7 (y pins s B H _ I h) λv c r=> ?_;obtain⟨x,E,j,G,J⟩:=r;obtain⟨a,e,⟨xs,L⟩,q⟩:=J;subst e;cases G;obtain⟨M,P,p,Q⟩:=j.list L;apply zR p.isList ?_;apply#[c.1.1.size,[c.1.1.size],_,_,E,S',j.kept (t':=c.toks) λb o e=>aV _ e,G0 a _,#[_,dO _ S',S',S'],λb O=> ?_,q];have e:b=c.1.1.size:=by simpa using O
 subst e;show j.Bj (aI _) (j.fO.fresh (aI _))
def Pw{l:Expr}{y:TE}(B:PE X l y):PI X tg l (aaL X.K y):=by
 intro pins s E H R I h;apply d7 (B pins s E H _ I h) λv c r=> ?_;obtain⟨x,G,j,J,L⟩:=r;obtain⟨a,e,⟨xs,M⟩,q⟩:=L;subst e;cases J;obtain⟨u,P,p,Q⟩:=j.tuple M;apply wpAny_pyIter_tuple (show c.1.IsTuple a u.toArray from p) ?_;apply#[c.1.1.size,[c.1.1.size],_,_,G,S',j.kept (t':=c.toks) λb o e=>aV _ e,Dm a _,#[_,dO _ S',S',S'],λb O=> ?_,q];have e:b=c.1.1.size:=by simpa using O
 subst e;show j.Bj (aI _) (j.fO.fresh (aI _))
def Bl{pins:(List (VZ×Obj))}{j:St}{H:Hp}{s:Shared}{R:It->Hp->Prop}{E:(Value->Shared->Prop)}{c h:Int}{t u v:Tok}{tk:Nat}(I:Inv X pins j H s)(y: -(2^62)<=c)(B:c<2^62)(G: -(2^62)<=h)(J:h<2^62)(q:R (Ts c (h-c).toNat) H):V5 (V3 X.1 X.w) X.A (pyIter (.ref s.1.1.size)) (PIE X pins j tg R) E {s with heap:=s.1.push {cls:=.type "range",data:=.fields (List.toArray [.int c t,.int h u,.int 1 v])},toks:=tk}:=by
 apply wpAny_pyIter_range (IsRange.new ..) (small_one y B G J) ?_;have r:Inv X pins j H {s with heap:=s.1.push {cls:=.type "range",data:=.fields (List.toArray [.int c t,.int h u,.int 1 v])},toks:=tk}:=I.kept λb o e=>aV _ e;apply#[(s.1.push {cls:=.type "range",data:=.fields (List.toArray [.int c t,.int h u,.int 1 v])}).objs.size,[(s.1.push {cls:=.type "range",data:=.fields (List.toArray [.int c t,.int h u,.int 1 v])}).objs.size],_,_,H,S',
  r.kept (t':=tk) λb o e=>aV _ e,Dq _ c (h-c).toNat,?_,λb L=> ?_,q]
 have M:c+((0:Nat):Int)*1=c:=by simp
 have O:(((h-c).toNat:Nat):Int)-((0:Nat):Int)=WG c h 1:=by rw[rangeSize_one];split<;>lia
 rw[M,O];show dO _ S';have e:b=(s.1.push {cls:=.type "range",data:=.fields (List.toArray [.int c t,.int h u,.int 1 v])}).objs.size:=by simpa using L
 subst e;show r.Bj (aI _) (r.fO.fresh (aI _))
def Tu(c:TA):TI:=λσ H R=>c σ H λvs h=>∃j:Int,vs=[.int j]∧-(2^62)<=j/\j<2^62/\R (Ts 0 j.toNat) h
def Tv(c:TA):TI:=λσ H R=>c σ H λvs h=>∃i j:Int,vs=[.int i,.int j]/\(-(2^62)<=i/\i<2^62∧-(2^62)<=j/\j<2^62)/\R (Ts i (j-i).toNat) h
def G1{a:Expr}{o:TA}{p pos:Pos}(u:Gl X "range")(y:X.mg "range"=O')(B:PA X [a] o)(E:V2 [a] X.env=[(Q',Wo a X.env)]:=by rfl):PI X tg (.Call (.Name "range" p) [a] [] pos) (Tu o):=by
 intro pins s G H R I h;apply I' (oz I u y boot_range (uB (d7 (B pos pins s G H _ I h) λus M #[vs,H1,I1,r1,c]=> ?_) E S'));obtain⟨j,e,c,J,q⟩:=c;subst e;cases r1 with
 |cons r L=>
  cases L;obtain⟨t,rfl⟩:=r;show call_range_1 (Bl I1 'l' 'l' c J (by simpa using q))
def G2(y:Gl X "range")(B:X.mg "range"=O')(E:PA X [a,b] ta)(G:V2 [a,b] X.env=[(Q',Wo a X.env),(Q',Wo b X.env)]:=by rfl)(c:V2 [b] X.env=[(Q',Wo b X.env)]:=by rfl):
  PI X tg (.Call (.Name "range" p) [a,b] [] pos) (Tv ta):=by
 intro pins s J H R I h
 apply I' (oz I y B boot_range (uB (d7 (E pos pins s J H _ I h) λus Q #[vs,H1,I1,r1,o]=> ?_) (by rw[G,c]) (by rw[c];rfl)))
 obtain⟨i,j,e,⟨o,L,M,O⟩,q⟩:=o
 subst e
 cases r1 with
 |cons r u=>
  cases u with
  |cons P u=>
   cases u
   obtain⟨t,rfl⟩:=r
   obtain⟨t',rfl⟩:=P
   show call_range_2 (Bl I1 o L M O q)
def aaM(j:TI)(g:TG)(o:TS):TS:=λD σ H=>j σ H λJ q=>∃W:Nat->Nat->St->Hp->Prop,(∃m,W 0 m σ q)/\∀i m σ H,W i m σ H->
 (J.stop i H/\D.nx σ H)\/(J.go i H/\∃N:St->Hp->Prop,(∀σ' c,N σ' c->∃h,h<m/\W (i+1) h σ' c)/\∀x c,J.ID i H x c->g x σ c λσ2 r=>o {D with nx:=N,ct:=N,bk:=D.nx} σ2 r)
noncomputable def vQ(c:(mw))(h:Heap):(List (VZ×Obj)):=c.filterMap λb=>(h.get? b).map λo=>(b,o)
def rb(c:b∈j)(e:h.get? b=N' o):(b,o)∈vQ j h:=vK.mpr #[b,c,by rw[e];rfl]
def G3(c:p∈vQ j h):p.1∈j/\h.get? p.1=N' p.2:=by
 obtain⟨b,r,e⟩:=vK.mp c;cases q:h.get? b with
 |none=>rw[q]at e;cases e
 |some o=>
  rw[q]at e;have e':(b,o)=p:=dz e;subst e';show#[r,q]
def Inv.pinned(I:Inv X pins σ H s)(j:∀b∈c,uU X pins H b)(q:∀b∈c,∃o,s.1.get? b=N' o/\∀v,o.data≠.cell v):Inv X (pins++vQ c s.1) σ H s:=I.Es λp r=>(List.mem_append.mp r).elim (λz=>I.pin p (pB _ z)) λz=>by obtain⟨h,e⟩:=G3 z;obtain⟨u,y,B,_⟩:=j p.1 h;obtain⟨o,e',d⟩:=q p.1 h;rw[e]at e';cases e';show#[e,u,y,B,d]
def Inv.r_(I:Inv X (pins++pl) σ H s):Inv X pins σ H s:=I.Es λp c=>I.pin p (pB _ (Zf _ c))
universe b
def Px(P:YD (V3 X.1 X.w) X.A X.env X.xe)(p:X.calm=P')(hi:PI X tg iter wi)(hg:PG X tg g)(q:gA X body tb)(hs:∀x,Wi iter X.env x=pure x:=by intro _;rfl):PS X (.For tg iter body [] pos) (aaM wi g tb):=by
 intro pins s t H D I h;apply wpAny_For (d7 (hi pins s t H _ I h) λv s1 h1=>d7 h1 λza s2 h2=> ?_) hs;obtain⟨it,Q,z,J,H2,e,I2,T,S,f2,W,⟨m0,w0⟩,U⟩:=h2;subst e;have y:∀{L:Hp},(∀b∈Q,L b=O')->∀b∈Q,uU X pins L b:=λhn b q=>#[hn b q,(f2 b q).2];apply codeAny_forLoop_any (λn s'=>∃i σ' L,Inv X pins σ' L s'/\z i s'.1/\(∀b∈Q,L b=O')/\W i n σ' L) ?_ m0 #[0,t,H2,I2,S,λb q=>(f2 b q).1,w0];rintro n s3 ⟨i,σ3,R,I3,Y,Z,w3⟩;rcases U i n σ3 R w3 with⟨C,qn⟩|⟨go,N,hN,F⟩
 ·apply om P (d7 (T.done X S' rfl rfl p i pins s3 σ3 R X.xe I3 (y Z) Y C) λr s4 j=> ?_);obtain⟨K,I4⟩:=j;subst K;show vi #[σ3,R,I4,qn]
 ·apply om P (d7 (T.item X S' rfl rfl p i pins s3 σ3 R X.xe I3 (y Z) Y go) λr s4 j=> ?_);obtain⟨u,K,h4⟩:=j;subst K;apply om P (d7 h4 λ_ s5 j=> ?_);obtain⟨x,H5,I5,r5,y5,O,a⟩:=j;have k:=I5.pinned (y a) (T.obj _ _ O);apply om P (d7 (hg _ s5 σ3 H5 x u _ k r5 (F x H5 y5)) λ_ s6 j=> ?_);obtain⟨σ6,H6,I6,q6⟩:=j;apply om P (d7 (q _ s6 σ6 H6 _ I6 q6) λf l M=> ?_);have B:∀{c:St} {E:Hp},Inv X (pins++vQ Q s5.1) c E l->N c E->∃m,m<n/\∃i σ' L,Inv X pins σ' L l/\z i l.1/\(∀b∈Q,L b=O')/\W i m σ' L:=λ{c E} G V=>by obtain⟨m',hm,w7⟩:=hN c E V;apply#[m',hm,i+1,c,E,G.r_,T.keep _ _ _ O λb q o e=>(G.pin (b,o) (pB _ (pB _ (rb q e)))).1,λb q=> ?_,w7];obtain⟨o,e,d⟩:=T.obj _ _ O b q;show(G.pin (b,o) (pB _ (pB _ (rb q e)))).2.1
  cases f with
  |next=>obtain⟨c,E,G,V⟩:=M;show B G V
  |cont=>obtain⟨c,E,G,V⟩:=M;show B G V
  |brk=>obtain⟨c,E,G,M⟩:=M;show#[c,E,G.r_,M]
  |ret v=>obtain⟨x7,c,E,G,r7,M⟩:=M;show#[x7,c,E,G.r_,r7,M]
abbrev R2:=V->V->Hp->VK->Prop
def kB(X:Cx)(f:Value->Value->Sem Value)(r:R2):Prop:=∀(pins:(List (VZ×Obj))) (s:Shared) (σ:St) (H:Hp) (x y:V) (v u:Value) (Q:VK),Inv X pins σ H s->RelV x v->RelV y u->r x y H Q->
  V5 (V3 X.1 X.w) X.A (f v u) (EP X pins σ Q) X.xe s
def UnR(X:Cx)(f:Value->Sem Value)(r:V->Hp->VK->Prop):Prop:=∀(pins:(List (VZ×Obj))) (s:Shared) (σ:St) (H:Hp) (x:V) (v:Value) (Q:VK),Inv X pins σ H s->RelV x v->r x H Q->
  V5 (V3 X.1 X.w) X.A (f v) (EP X pins σ Q) X.xe s
def se(X:Cx)(f:Value)(r:List V->Hp->VK->Prop):Prop:=∀(pins:(List (VZ×Obj))) (s:Shared) (σ:St) (H:Hp) (xs:List V) (us:(TyJ)) (Q:VK),Inv X pins σ H s->Vals xs us->r xs H Q->
  V5 (V3 X.1 X.w) X.A (call f us) (EP X pins σ Q) X.xe s
def aaN(X:Cx)(r:V->Hp->(Bool->Hp->Prop)->Prop):Prop:=∀(pins:(List (VZ×Obj))) (s:Shared) (σ:St) (H:Hp) (x:V) (v:Value) (Q:Bool->Hp->Prop),Inv X pins σ H s->RelV x v->r x H Q->
  V5 (V3 X.1 X.w) X.A (truthy v) (TP X pins σ Q) X.xe s
def LM(r:R2)(c h:TE):TE:=λσ H Q=>c σ H λx j=>h σ j λy o=>r x y o Q
def tUn(r:V->Hp->VK->Prop)(c:TE):TE:=λσ H Q=>c σ H λx h=>r x h Q
def rI(C:Int->Int->Prop)(g:Int->Int->V):R2:=λx y H Q=>∃i j,x=.int i/\y=.int j/\C i j/\Q (g i j) H
def Bm(g:Int->Int->V):R2:=λx y H Q=>∃i j,x=.int i/\y=.int j/\Q (g i j) H
def rU(g:Int->V):V->Hp->VK->Prop:=λx H Q=>∃i,x=.int i/\Q (g i) H
universe a
def Py(G:PE X a ta)(J:PE X b tb){pins:(List (VZ×Obj))}{s:Shared}{j:St}{H:Hp}{R:V->V->Hp->Prop}(I:Inv X pins j H s)(h:ta j H λx E=>tb j E λy o=>R x y o){Q:(Value->Shared->Prop)}{f:Value->Value->Sem Value}(L:∀v u B x y o,Inv X pins j o B->RelV x v->RelV y u->R x y o->V5 (V3 X.1 X.w) X.A (f v u) Q X.xe B):V5 (V3 X.1 X.w) X.A (Wo a X.env) (λv q=>V5 (V3 X.1 X.w) X.A (Wo b X.env) (λu r=>V5 (V3 X.1 X.w) X.A (f v u) Q X.xe r) X.xe q) X.xe s:=by apply d7 (G pins s j H _ I h) λv M c=> ?_;obtain⟨x,E,O,P,U⟩:=c;apply d7 (J pins M j E _ O U) λu B c=> ?_;obtain⟨y,o,Y,Z,T⟩:=c;show L v u B x y o Y P Z T
def j8(c:kB X (WI op) r)(j:PE X a ta)(o:PE X b tb):PE X (.BinOp a op b pos) (LM r ta tb):=by intro pins s B H Q I h;show wpAny_BinOp (Py j o I h λv u E x y G J L M q=>c pins E B G x y v u Q J L M q)
def Ow(o:UnR X (unaryOp op) r)(q:PE X a ta):PE X (.UnaryOp op a pos) (tUn r ta):=by intro pins s j H Q I h;show UnaryOp_ (d7 (q pins s j H _ I h) λv u c=>by obtain⟨x,y,B,E,G⟩:=c;show o pins u j y x v Q B E G)
def LN{f:Value->Value->Sem Value}{C:Int->Int->Prop}{g:Int->Int->Int}(c:∀(i j) (t u:Tok) (s) (Q:(Value->Shared->Prop)) (E:(Value->Shared->Prop)),C i j->Q (.int (g i j) s.4) {s with toks:=s.4+1}->V5 (V3 X.1 X.w) X.A (f (.int i t) (.int j u)) Q E s):kB X f (rI C λi j=>.int (g i j)):=by intro pins s G H x y v u Q I o r h;obtain⟨i,j,rfl,rfl,B,q⟩:=h;obtain⟨t,rfl⟩:=o;obtain⟨t',rfl⟩:=r;show c i j t t' s _ _ B #[.int (g i j),H,I.tok _,#[_,S'],q]
def xC{f:Value->Value->Sem Value}{g:Int->Int->Int}(c:∀(i j) (t u:Tok) (s) (Q:(Value->Shared->Prop)) (E:(Value->Shared->Prop)),Q (.int (g i j) s.4) {s with toks:=s.4+1}->V5 (V3 X.1 X.w) X.A (f (.int i t) (.int j u)) Q E s):kB X f (Bm λi j=>.int (g i j)):=by intro pins s B H x y v u Q I o r h;obtain⟨i,j,rfl,rfl,q⟩:=h;obtain⟨t,rfl⟩:=o;obtain⟨t',rfl⟩:=r;show c i j t t' s _ _ #[.int (g i j),H,I.tok _,#[_,S'],q]
def L_{f:Value->Value->Sem Value}{g:Int->Int->Bool}(c:∀(i j) (t u:Tok) (s) (Q:(Value->Shared->Prop)) (E:(Value->Shared->Prop)),Q (.bool (g i j)) s->V5 (V3 X.1 X.w) X.A (f (.int i t) (.int j u)) Q E s):kB X f (Bm λi j=>.bl (g i j)):=by intro pins s B H x y v u Q I o r h;obtain⟨i,j,rfl,rfl,q⟩:=h;obtain⟨t,rfl⟩:=o;obtain⟨t',rfl⟩:=r;show c i j t t' s _ _ #[.bl (g i j),H,I,S',q]
def IF(i j:Int):Prop:=0<j/\j<1073741824
def G4(i j:Int):Prop:=(-(2^64)<i/\i<2^64)\/(-(2^64)<j/\j<2^64)
def G4.ok(h:G4 i j):IntMulOk i j:=by rcases h with⟨c,o⟩|⟨c,o⟩;show .of_left (intBits_le_64 c o);show .of_right (intBits_le_64 c o)
def vR(k):(0:Int)<=2^k:=by rw[two_pow_cast];show Int.natCast_nonneg _
def Dr:kB X (WI .Add) (Bm λi j=>.int (i+j)):=xC λ_ _ _ _ _ _ _ q=>add_int q
def Ds:kB X (WI .Sub) (Bm λi j=>.int (i-j)):=xC λ_ _ _ _ _ _ _ q=>sub_int q
def Pz:kB X (WI .Mult) (rI G4 λi j=>.int (i*j)):=LN λ_ _ _ _ _ _ _ c q=>mul_int q c.ok
def Eu:kB X (WI .FloorDiv) (rI IF λi j=>.int (i/j)):=LN λi j _ _ _ _ _ c q=>by have h:(0)<j:=c.1;have o:j<1073741824:=c.2;show floordiv_int 'l' (by rw[Ep i 'l'];show q) (.inl (C9 'l'))
def PD:kB X (WI .Mod) (rI (λ_ j=>0<j) λi j=>.int (i % j)):=LN λi j _ _ _ _ _ c q=>by have h:(0)<j:=c;show mod_int' 'l' (by rw[YH i 'l'];show q)
def PF:kB X (WI .RShift) (rI (λ_ j=>0<=j) λi j=>.int (i/2^j.toNat)):=LN λi j _ _ _ _ _ c q=>
 rshift_int c (by rw[Ep i (vR _)];show q)
def PH:kB X (WI .BitAnd) (Bm λi j=>.int (X1 i j)):=xC λ_ _ _ _ _ _ _ q=>and_int q
def Tw:kB X (WI .BitOr) (Bm λi j=>.int (Ym i j)):=xC λ_ _ _ _ _ _ _ q=>or_int q
def PJ:kB X (WI .BitXor) (Bm λi j=>.int (X0 i j)):=xC λ_ _ _ _ _ _ _ q=>xor_int q
def Ew:kB X (WC .Add) (Bm λi j=>.int (i+j)):=xC λ_ _ _ _ _ _ _ q=>iadd_int q
def Ma:kB X (WC .Sub) (Bm λi j=>.int (i-j)):=xC λ_ _ _ _ _ _ _ q=>isub_int q
def Mb:kB X (WC .Mult) (rI G4 λi j=>.int (i*j)):=LN λ_ _ _ _ _ _ _ c q=>imul_int q c.ok
def IG:kB X (WC .FloorDiv) (rI IF λi j=>.int (i/j)):=LN λi j _ _ _ _ _ c q=>by have h:(0)<j:=c.1;have o:j<1073741824:=c.2;show ifloordiv_int 'l' (by rw[Ep i 'l'];show q) (.inl (C9 'l'))
def Mc:kB X (WC .Mod) (rI (λ_ j=>0<j) λi j=>.int (i % j)):=LN λi j _ _ _ _ _ c q=>by have h:(0)<j:=c;show imod_int 'l' (by rw[YH i 'l'];show q)
def Md:kB X (WC .RShift) (rI (λ_ j=>0<=j) λi j=>.int (i/2^j.toNat)):=LN λi j _ _ _ _ _ c q=>
 irshift_int c (by rw[Ep i (vR _)];show q)
def Me:kB X (WC .BitAnd) (Bm λi j=>.int (X1 i j)):=xC λ_ _ _ _ _ _ _ q=>iand_int q
def PK:kB X (WC .BitOr) (Bm λi j=>.int (Ym i j)):=xC λ_ _ _ _ _ _ _ q=>ior_int q
def Mf:kB X (WC .BitXor) (Bm λi j=>.int (X0 i j)):=xC λ_ _ _ _ _ _ _ q=>ixor_int q
def unI{f:Value->Sem Value}{g:Int->Int}(c:∀(i) (t:Tok) (s) (Q:(Value->Shared->Prop)) (E:(Value->Shared->Prop)),Q (.int (g i) s.4) {s with toks:=s.4+1}->V5 (V3 X.1 X.w) X.A (f (.int i t)) Q E s):UnR X f (rU λi=>.int (g i)):=by intro pins s o H x v Q I j h;obtain⟨i,rfl,q⟩:=h;obtain⟨t,rfl⟩:=j;show c i t s _ _ #[.int (g i),H,I.tok _,#[_,S'],q]
def PL:UnR X (unaryOp .USub) (rU λi=>.int (-i)):=unI λ_ _ _ _ _ q=>neg_int q
def PM:UnR X (unaryOp .Invert) (rU λi=>.int (WA i)):=unI λ_ _ _ _ _ q=>invert_int q
noncomputable def Tx:V->V->Bool
 |.bQ,.bQ=>P'|.bQ,.int _=>P'|.int _,.bQ=>P'|.bQ,.bl _=>P'|.bl _,.bQ=>P'|.bQ,.str _=>P'|.str _,.bQ=>P'
 |.int _,.int _=>P'|.bl _,.bl _=>P'|.str _,.str _=>P'|.Di _,.Di _=>P'
 |.int _,.str _=>P'|.str _,.int _=>P'|.bl _,.str _=>P'|.str _,.bl _=>P'
 |_,_=>Q'
def rEq:R2:=λx y H Q=>Tx x y=P'/\Q (.bl (decide (x=y))) H
def rNe:R2:=λx y H Q=>Tx x y=P'/\Q (.bl (!decide (x=y))) H
def Ey:decide (V.int i=V.int j)=(i==j):=by rw[my];simp
def II:decide (V.bl i=V.bl j)=(i==j):=by rw[my];simp
def Ez:decide (V.str i=V.str j)=(i==j):=by rw[my];simp
def EA:decide (V.Di i=V.Di j)=(i.toList==j.toList):=by rw[my];cases i;cases j;simp
def cD(I:Inv X pins σ H s)(q:Q (.bl k) H)(e:k=c):EP X pins σ Q (.bool c) s:=by subst e;show#[.bl k,H,I,S',q]
def EB:kB X (Ww .Eq) rEq:=by
 intro pins s B H x y v u Q I r c h;obtain⟨o,q⟩:=h;cases x with
 |bQ=>
  cases r;cases y with
  |bQ=>cases c;show PySem.EqNone.eq_none_none (cD I q (by simp))
  |bl j=>cases c;show PySem.EqNone.eq_none_bool (cD I q (by simp))
  |int j=>obtain⟨t',rfl⟩:=c;show PySem.EqNone.eq_none_int (cD I q (by simp))
  |str j=>obtain⟨t',rfl⟩:=c;show PySem.EqNone.eq_none_str (cD I q (by simp))
  |_=>show absurd (show Q'=P' from o) ek
 |bl i=>
  cases r;cases y with
  |bQ=>cases c;show PySem.EqNone.eq_bool_none (cD I q (by simp))
  |bl j=>cases c;show eq_bool (cD I q II)
  |str j=>obtain⟨t',rfl⟩:=c;show PySem.EqMixed.eq_bool_str (cD I q (by simp))
  |_=>show absurd (show Q'=P' from o) ek
 |int i=>
  obtain⟨t,rfl⟩:=r;cases y with
  |bQ=>cases c;show PySem.EqNone.eq_int_none (cD I q (by simp))
  |int j=>obtain⟨t',rfl⟩:=c;show eq_int (cD I q Ey)
  |str j=>obtain⟨t',rfl⟩:=c;show PySem.EqMixed.eq_int_str (cD I q (by simp))
  |_=>show absurd (show Q'=P' from o) ek
 |str i=>
  obtain⟨t,rfl⟩:=r;cases y with
  |bQ=>cases c;show PySem.EqNone.eq_str_none (cD I q (by simp))
  |bl j=>cases c;show PySem.EqMixed.eq_str_bool (cD I q (by simp))
  |int j=>obtain⟨t',rfl⟩:=c;show PySem.EqMixed.eq_str_int (cD I q (by simp))
  |str j=>obtain⟨t',rfl⟩:=c;show eq_str (cD I q Ez)
  |_=>show absurd (show Q'=P' from o) ek
 |Di i=>
  obtain⟨t,rfl⟩:=r;cases y with
  |Di j=>obtain⟨t',rfl⟩:=c;show eq_bytes (cD I q EA)
  |_=>show absurd (show Q'=P' from o) ek
 |_=>cases y<;>show absurd (show Q'=P' from o) ek
def IJ:kB X (Ww .NotEq) rNe:=by
 intro pins s B H x y v u Q I r c h;obtain⟨o,q⟩:=h;cases x with
 |bQ=>
  cases r;cases y with
  |bQ=>cases c;show PySem.EqNone.ne_none_none (cD I q (by simp))
  |bl j=>cases c;show PySem.EqNone.ne_none_bool (cD I q (by simp))
  |int j=>obtain⟨t',rfl⟩:=c;show PySem.EqNone.ne_none_int (cD I q (by simp))
  |str j=>obtain⟨t',rfl⟩:=c;show PySem.EqNone.ne_none_str (cD I q (by simp))
  |_=>show absurd (show Q'=P' from o) ek
 |bl i=>
  cases r;cases y with
  |bQ=>cases c;show PySem.EqNone.ne_bool_none (cD I q (by simp))
  |bl j=>cases c;show ne_bool (cD I q (congrArg not II))
  |str j=>obtain⟨t',rfl⟩:=c;show PySem.EqMixed.ne_bool_str (cD I q (by simp))
  |_=>show absurd (show Q'=P' from o) ek
 |int i=>
  obtain⟨t,rfl⟩:=r;cases y with
  |bQ=>cases c;show PySem.EqNone.ne_int_none (cD I q (by simp))
  |int j=>obtain⟨t',rfl⟩:=c;show ne_int (cD I q (congrArg not Ey))
  |str j=>obtain⟨t',rfl⟩:=c;show PySem.EqMixed.ne_int_str (cD I q (by simp))
  |_=>show absurd (show Q'=P' from o) ek
 |str i=>
  obtain⟨t,rfl⟩:=r;cases y with
  |bQ=>cases c;show PySem.EqNone.ne_str_none (cD I q (by simp))
  |bl j=>cases c;show PySem.EqMixed.ne_str_bool (cD I q (by simp))
  |int j=>obtain⟨t',rfl⟩:=c;show PySem.EqMixed.ne_str_int (cD I q (by simp))
  |str j=>obtain⟨t',rfl⟩:=c;show ne_str (cD I q (congrArg not Ez))
  |_=>show absurd (show Q'=P' from o) ek
 |Di i=>
  obtain⟨t,rfl⟩:=r;cases y with
  |Di j=>obtain⟨t',rfl⟩:=c;show ne_bytes (cD I q (congrArg not EA))
  |_=>show absurd (show Q'=P' from o) ek
 |_=>cases y<;>show absurd (show Q'=P' from o) ek
def Ox:kB X (Ww .Lt) (Bm λi j=>.bl (decide (i<j))):=L_ λ_ _ _ _ _ _ _ q=>lt_int q
def Tz:kB X (Ww .LtE) (Bm λi j=>.bl (decide (i<=j))):=L_ λ_ _ _ _ _ _ _ q=>le_int q
def TB:kB X (Ww .Gt) (Bm λi j=>.bl (decide (j<i))):=L_ λ_ _ _ _ _ _ _ q=>gt_int q
def TC:kB X (Ww .GtE) (Bm λi j=>.bl (decide (j<=i))):=L_ λ_ _ _ _ _ _ _ q=>ge_int q
noncomputable def zY(b)(h:op≠.In:=by decide)(c:op≠.NotIn:=by decide):WE op b=false:=by
 have j:(op==CmpOp.In)=false:=by cases op<;>first|rfl|show absurd rfl h
 have o:(op==CmpOp.NotIn)=false:=by cases op<;>first|rfl|show absurd rfl c
 cases b<;>simp[WE,j,o]
def EC(c:kB X (Ww op) r)(j:PE X a ta)(o:PE X b tb)(B:WE op b=Q'):PE X (.Compare a [op] [b] pos) (LM r ta tb):=by intro pins s E H Q I h;show wpAny_Compare1 (Py j o I h λv u G x y J L M O q=>c pins G E J x y v u Q L M O q) B
def IK(t:TE):TT:=λσ H Q=>t σ H λx c=>∃k,x=.bl k/\Q k c
def qr(o:kB X (Ww op) r)(q:PE X a ta)(B:PE X b tb)(E:WE op b=Q'):PT X (.Compare a [op] [b] pos) (IK (LM r ta tb)):=by
 intro pins s j H Q I h;apply ZR (d7 (q pins s j H _ I h) λv G #[x,H1,I1,r1,q1]=>d7 (B pins G j H1 _ I1 q1) λu J #[y,H2,I2,r2,q2]=>
  d7 (o pins J j H2 x y v u _ I2 r1 r2 q2) λc L #[z,H3,I3,r3,k,e,q3]=> ?_) E
 subst e;cases r3;show og #[H3,I3,q3]
def Dt(r h:R2)(j o q:TE):TE:=λσ H Q=>j σ H λx s=>o σ s λy u=>r x y u λz c=>∃k,z=.bl k/\
 (if k=P' then q σ c λB E=>h y B E Q else Q (.bl Q') c)
noncomputable def IL(ho:kB X (Ww op) r)(ho':kB X (Ww op') r')(ha:PE X a ta)(hb:PE X b tb)(hc:PE X c tc)(hm:lastMarks [op,op'] [b,c]=false:=by with_unfolding_all rfl):PE X (.Compare a [op,op'] [b,c] pos) (Dt r r' ta tb tc):=by
 intro pins s σ H Q I h;apply Compare_chain (d7 (ha pins s σ H _ I h) λv s1 #[x,H1,I1,r1,q1]=>chain_link (d7 (hb pins s1 σ H1 _ I1 q1) λu s2 #[y,H2,I2,r2,q2]=>
  d7 (ho pins s2 σ H2 x y v u _ I2 r1 r2 q2) λd s3 #[z,H3,I3,r3,k,e,q3]=> ?_)) hm
 subst e;cases r3;apply og ?_;cases k with
 |false=>show ite_ff #[.bl Q',H3,I3,S',q3]
 |true=>show ite_tt (chain_last (d7 (hc pins s3 σ H3 _ I3 q3) λw' s4 z0_=>by obtain⟨z',H4,I4,r4,q4⟩:=z0_;show ho' pins s4 σ H4 y z' u w' Q I4 r2 r4 q4))
noncomputable def IM(ho:kB X (Ww op) r)(ho':kB X (Ww op') r')(ha:PE X a ta)(hb:PE X b tb)(hc:PE X c tc)(hm:lastMarks [op,op'] [b,c]=false:=by with_unfolding_all rfl):PT X (.Compare a [op,op'] [b,c] pos) (IK (Dt r r' ta tb tc)):=by
 intro pins s σ H Q I h;apply isTrue_chain (d7 (ha pins s σ H _ I h) λv s1 #[x,H1,I1,r1,q1]=>test_link (d7 (hb pins s1 σ H1 _ I1 q1) λu s2 #[y,H2,I2,r2,q2]=>
  d7 (ho pins s2 σ H2 x y v u _ I2 r1 r2 q2) λd s3 #[z,H3,I3,r3,k,e,q3]=> ?_)) hm
 subst e;cases r3;apply og ?_;cases k with
 |false=>
  obtain⟨k',e',q'⟩:=q3;cases e';show ite_ff #[H3,I3,q']
 |true=>
  apply ite_tt (test_last (d7 (hc pins s3 σ H3 _ I3 q3) λw' s4 #[z',H4,I4,r4,q4]=>d7 (ho' pins s4 σ H4 y z' u w' _ I4 r2 r4 q4) λd' s5 z0_=> ?_));obtain⟨z2,H5,I5,r5,k2,e2,q5⟩:=z0_;subst e2;cases r5;show og #[H5,I5,q5]
def TF(K:V7)(x:V)(H:Hp)(k:Bool):Prop:=match x with
 |.bQ=>k=Q'
 |.bl b=>k=b
 |.int i=>k=(i !=0)
 |.str y=>y.length<=sizeLine/\k=((y.length:Int) !=0)
 |.Di y=>y.size<=sizeLine/\k=((y.size:Int) !=0)
 |.ref p=>(∃xs,cQ K H p xs/\k= !xs.isEmpty)\/(∃xs,o8 K H p xs/\k= !xs.isEmpty)\/∃c,H p=N' (.dK c)/\k= !c.isEmpty
 |_=>False
def Du(r:KV c vs):(!vs.isEmpty)= !c.isEmpty:=by cases r<;>rfl
def vS(r:Vals xs c):(!c.toArray.isEmpty)= !xs.isEmpty:=by cases r<;>simp
def vT:(sizeLine)<2^63:=by rw[mJ];decide
def PN:aaN X (λx H Q=>∃k,TF X.K x H k/\Q k H):=by
 intro pins s G H x v Q I o h;obtain⟨k,e,q⟩:=h;have J:=vT;have L:sizeLine=16777216:=mJ;cases x with
 |bQ=>
  cases o;have e':k=false:=e;subst e';show truthy_none #[H,I,q]
 |bl b=>
  cases o;have e':k=b:=e;subst e';show og #[H,I,q]
 |int i=>
  obtain⟨t,rfl⟩:=o;have e':k=(i !=0):=e;subst e';show PySem.P.truthy_int #[H,I,q]
 |str y=>
  obtain⟨t,rfl⟩:=o;obtain⟨hy,e'⟩:y.length<=sizeLine/\k=((y.length:Int) !=0):=e;subst e';show PySem.P.truthy_str 'l' #[H,I.tok _,q]
 |Di y=>
  obtain⟨t,rfl⟩:=o;obtain⟨hy,e'⟩:y.size<=sizeLine/\k=((y.size:Int) !=0):=e;subst e';show truthy_bytes 'l' #[H,I.tok _,q]
 |ref p=>
  cases o;have e':(∃xs,cQ X.K H p xs/\k= !xs.isEmpty)\/(∃xs,o8 X.K H p xs/\k= !xs.isEmpty)\/∃c,H p=N' (.dK c)/\k= !c.isEmpty:=e;rcases e' with⟨xs,u,e'⟩|⟨xs,u,e'⟩|⟨c,u,e'⟩;subst e';obtain⟨B,r,pl,E⟩:=I.list u;have j:=r.length;show wpAny_truthy_list pl.isList (by simp![dj];lia) #[H,I.tok _,by rw[vS r];show q];subst e';obtain⟨B,r,pl,E⟩:=I.tuple u;have j:=r.length;show truthy_tuple pl (by simp![dj];lia) #[H,I.tok _,by rw[vS r];show q];subst e';obtain⟨E,hS,vs,r,m⟩:c.length<=sizeLine/\(p==X9)=Q'/\∃vs,KV c vs/\s.1.DictOf (gV X.1 X.w) p vs:=I.fO p _ u;have j:c.length=vs.length:=Paired.length r;show wpAny_truthy_dict hS m 'l' #[H,I.tok _,by rw[Du r];show q]
 |_=>show(show False from e).elim
def nr(r:PE X a ta)(he:∀c,isTrue a X.env c=(do let v<-c;Xn a.pos;W5 [v] (truthy v))):
  PT X a (λj H Q=>ta j H λx q=>∃k,TF X.K x q k/\Q k q):=by
 intro pins s j H Q I h
 show isTrue_plain (d7 (r pins s j H _ I h) λv u o=>by obtain⟨x,y,B,E,G⟩:=o;show PN pins u j y x v Q B E G) (he _)
def vals1(r:Vals [x] us):∃u,us=[u]/\RelV x u:=by
 cases r with
 |cons c h=>cases h;show#[_,S',c]
def vals2(r:Vals [x,y] us):∃u c,us=[u,c]/\RelV x u/\RelV y c:=by
 cases r with
 |cons h j=>
  cases j with
  |cons o q=>cases q;show#[_,_,S',h,o]
def IP:se X (.builtin "abs") (λxs H Q=>∃i,xs=[.int i]/\Q (.int (if i<0 then-i else i)) H):=by intro pins s c H xs us Q I r h;obtain⟨i,rfl,q⟩:=h;obtain⟨u,rfl,t,rfl⟩:=vals1 r;show call_abs_int λu tk=>#[.int (if i<0 then-i else i),H,I.tok _,#[_,S'],q]
def x9(o:X.calm=P'):se X (.builtin "max") (λxs H Q=>∃i j,xs=[.int i,.int j]/\Q (.int (if j>i then j else i)) H):=by intro pins s y H xs us Q I r h;obtain⟨i,j,rfl,q⟩:=h;obtain⟨u,B,rfl,⟨t,rfl⟩,⟨t',rfl⟩⟩:=vals2 r;apply max_two_ints (I.ok.hd o) λh' tk k=>#[_,H,I.kept k,?_,q];by_cases c:j>i;rw[ae c,ae c];show#[_,S'];rw[ab c,ab c];show#[_,S']
def G5(o:X.calm=P'):se X (.builtin "min") (λxs H Q=>∃i j,xs=[.int i,.int j]/\Q (.int (if j<i then j else i)) H):=by intro pins s y H xs us Q I r h;obtain⟨i,j,rfl,q⟩:=h;obtain⟨u,B,rfl,⟨t,rfl⟩,⟨t',rfl⟩⟩:=vals2 r;apply min_two_ints (I.ok.hd o) λh' tk k=>#[_,H,I.kept k,?_,q];by_cases c:j<i;rw[ae c,ae c];show#[_,S'];rw[ab c,ab c];show#[_,S']
structure Dv(h:Heap)(x dx C:VZ)(mA:(Str->o6)):Prop where
 obj:h.get? x=N' (XN C dx)
 ns:h.Ns1 dx mA
 ne:dx≠x
universe b
def G6{h:Heap}{j:VZ}{r:(Str->o6)}(n:h.Ns1 j r):∃s,h.get? j=N' s/\∀name,lookIn name s=N' (r name):=by
 obtain⟨o,u,M,B,E,G,_,H⟩:=n;apply#[o,B,λname=> ?_];have e:=H name;unfold nsFind findBy at e;rw[<-Array.find?_toList]at e;unfold lookIn;rw[E];dsimp only;split;rename_i y q;rw[q]at e;show congrArg N' e;rename_i q;rw[q]at e;have a:u.toList.any (·.refKey)=false:=by rw[List.any_eq_false];intro y J;obtain⟨z,t,c⟩:=G y (Array.mem_toList_iff.mp J);simp[DictEntry.refKey,c]
 have L:¬u.toList.any (·.refKey)=true:=by rw[a];show ek
 rw[ab L];show congrArg N' e
def Dv.look(I:Dv h x j C o):∃c,InstAt h x (XN C j) C (N' c)/\∀name,lookIn name c=N' (o name):=let ⟨c,ho,hl⟩:=G6 I.ns
 #[c,#[I.obj,S',S',ho],hl]
section
variable {prog:Program} {w:V6} {A:WK} {E:(Value->Shared->Prop)} {s:Shared} {K:V7} {x dx C f:VZ} {mA:(Str->o6)} {name:Str} {v:Value}
universe a
def get_map{c:Bool}{Q:(Value->Shared->Prop)}(X:K.In s.1)(I:Dv s.1 x dx C mA)(o:YU K C name=P')(q:Zv K C=P')(r:Xd K (.ref C) name=N' O')(u:mA name=N' v)(j:handedIn v=P')(h:Q v {s with toks:=s.4+1}):V5 (V3 prog w) A (getAttr (.ref x) name c) Q E s:=by obtain⟨B,J,y⟩:=I.look;show get_value X J (Z4 o).1 (findObj_own q r S' (by rw[y,u])) j h
def IQ(X:K.In s.1)(I:Dv s.1 x dx C mA)(c:YU K C name=P')(j:Xd K (.ref C) name=N' (N' (.ref f)))(o:isFn K (.ref f)=P')(q:mA name=O')(h:Q (.ref f,[.ref x]) s):V5 (V3 prog w) A (YB (.ref x) name pl) Q E s:=by obtain⟨r,J,u⟩:=I.look;show method_fn X J (Z4 c).1 (Z4 c).2 j (beq_iff_eq.mp o) (by show(lookIn name r).map (·.isSome)=N' Q';rw[u,q];rfl) h
def Mg{ns:(iG)}{Q:Unit->Shared->Prop}(X:K.In s.1)(I:Dv s.1 x dx C mA)(G:Xd K (.ref C) "__setattr__"=N' (N' (.builtin "object.__setattr__")))(H:plainOver K C=P')(L:takerIn K C name=N' O')(M:Zv K C=P')(O:YL mA ns)(hsz:ns.length<=sizeLine)(h:∀h',Dv h' x dx C (λy=>if y=name then N' v else mA y)->XQ dx s.1 h'->Q ⟨⟩ {s with heap:=h',toks:=s.4+2}):V5 (V3 prog w) A (setAttr (.ref x) name v) Q E s:=by obtain⟨T,J,F⟩:=I.look;apply set_plain X J G (osa_open (s:={s with toks:=s.4+1}) (r:=O') X J H L λb=> ?_);obtain⟨cd,P,o⟩:=any_some M;have U:s.1.get? x=N' #[.ref C,N' dx,.plain,#[]]:=I.obj;apply ai (aP (ai (ai (wpAny_loadPart U (ai (Looks.here (s:={s with toks:=s.4+1}) (looks_clsIn X P) ?_))))));rw[o];apply aP (a:=N' dx) (ai (aP (ai ?_)));apply wpAny_nsSet1 (s:={s with toks:=s.4+1}) I.ns λh' c j=> ?_;obtain⟨D,Y,Z,q,u,B⟩:=c.count (PySem.Within.cons name v O);apply ai (wpAny_lookBehind q (by rw[u];show pastItsLine_dict (c_ B (by rw[dR];lia))) ?_);show aP (h _ #[(j.2 _ (iq I.ne)).trans I.obj,c,I.ne] j)
def IT{R:Result->Shared->Prop}{vs:(TyJ)}{j:List (Str×Value)}(X:K.In s.1)(o:makesIn K C=P')(q:Xd K (.ref C) "__init__"=N' (N' (.ref f)))(r:typeIn K (.ref f)=N' (.type "function"))(h:WW (V3 prog w) (A.under (.builtin "type.__call__" #[.ref C::vs,j])) (.call (.ref f) #[.ref (s.1.1.size+1)::vs,j]) (InitBack (s.1.1.size+1) R) {s with heap:=(s.1.push emptyDict).push (XN C s.1.1.size)}):WW (V3 prog w) A (.call (.ref C) #[vs,j]) R s:=by obtain⟨u,g,d,t,y⟩:=s;show make_core (makes_of X o) (looks_findIn X q) (λc=>bind_fn X c r) (.inl S') h
end
noncomputable def lW(f:Str)(v:V):List (Str×V)->List (Str×V)
 |[]=>[(f,v)]
 |(g,x)::r=>if g=f then(g,v)::r else(g,x)::lW f v r
universe a
theorem uF(f g)(v):∀fs:List (Str×V),(lW f v fs).lookup g=if g=f then N' v else fs.lookup g
 |[]=>by show WS g [(f,v)]=_;by_cases h:g=f;have c:(g==f)=true:=beq_iff_eq.mpr h;simp![WS,c,ae h];have c:(g==f)=false:=beq_eq_false_iff_ne.mpr h;simp![WS,c,ab h]
 |(k,x)::r=>by have o:=uF f g v r;rw[show lW f v ((k,x)::r)=(if k=f then(k,v)::r else(k,x)::lW f v r)from rfl];by_cases j:k=f;rw[ae j];by_cases h:g=k;have c:(g==k)=true:=beq_iff_eq.mpr h;simp![WS,c,ae (h.trans j)];have c:(g==k)=false:=beq_eq_false_iff_ne.mpr h;simp![WS,c,ab (λe:g=f=>h (e.trans j.symm))];rw[ab j];by_cases h:g=k;have c:(g==k)=true:=beq_iff_eq.mpr h;simp![WS,c,ab (λe:g=f=>j (h.symm.trans e))];have c:(g==k)=false:=beq_eq_false_iff_ne.mpr h;simp![WS,c];show o
theorem tV(f)(v):∀fs:List (Str×V),f∈(lW f v fs).map (·.1)/\∀g,g∈fs.map (·.1)->g∈(lW f v fs).map (·.1)
 |[]=>#[by simp[lW],λg h=>by simp at h]
 |(k,x)::r=>by obtain⟨j,o⟩:=tV f v r;rw[show lW f v ((k,x)::r)=(if k=f then(k,v)::r else(k,x)::lW f v r)from rfl];by_cases c:k=f;rw[ae c];subst c;show#[by simp,λg h=>by simpa using h];rw[ab c];apply#[?_,λg h=> ?_];rw[bf];show dN _ j;rw[bf]at h|-;rcases aE.mp h with e|e;show aE.mpr (.inl e);show dN _ (o g e)
theorem uG(f)(v):∀fs:List (Str×V),(lW f v fs).length<=fs.length+1
 |[]=>by simp[lW]
 |(k,x)::r=>by have h:=uG f v r;rw[show lW f v ((k,x)::r)=(if k=f then(k,v)::r else(k,x)::lW f v r)from rfl];by_cases c:k=f;rw[ae c,dR,dR];lia;rw[ab c,dR,dR];lia
def xA.some_of(r:xA (N' v) o):∃u,o=N' u/\RelV v u:=by
 cases o with
 |none=>show(show False from r).elim
 |some u=>show#[u,S',r]
def xA.none_of(r:xA O' o):o=none:=by
 cases o with
 |none=>rfl
 |some u=>show(show False from r).elim
def G7(r:RelV v u):handedIn u=true:=by
 cases v with
 |bQ=>cases(show u=YC from r);rfl
 |bl b=>cases(show u=Value.bool b from r);rfl
 |int i=>obtain⟨t,e⟩:=(show ∃t,u=Yi i t from r);cases e;rfl
 |str x=>obtain⟨t,e⟩:=(show ∃t,u=L' x t from r);cases e;rfl
 |Di b=>obtain⟨t,e⟩:=(show ∃t,u=Value.bytes b t from r);cases e;rfl
 |S_ b=>obtain⟨t,e⟩:=(show ∃t,u=Value.float b t from r);cases e;rfl
 |ref a=>cases(show u=Wc a from r);rfl
 |ty n=>cases(show u=Value.type n from r);rfl
def zZ(j:uR P w H h)(e:H a=N' (.ins C o fs)):∃c,Dv h a o C c/\(∀f,xA (fs.lookup f) (c f))/\YL c (fs.map (·.1))/\fs.length<=1000/\H o=N' (.own a):=by obtain⟨d,z,s,u,c,n,r,q⟩:=(show gz P w H h a (.ins C o fs)from j a _ e);show#[c,#[u,n,s],r,q,z,d]
structure vk(K:V7)(C:VZ):Prop where
 pg:YU K C Str.empty=P'
 hd:Zv K C=P'
 po:plainOver K C=P'
 sa:Xd K (.ref C) "__setattr__"=N' (N' (.builtin "object.__setattr__"))
def vk.get{K:V7}{C:VZ}(c:vk K C)(f):YU K C f=true:=c.pg
def fP(K:V7)(C:VZ)(f:Str):Prop:=Xd K (.ref C) f=N' O'
def fP.TH{K:V7}{C:VZ}{f:Str}(n:fP K C f):takerIn K C f=N' none:=by unfold takerIn;rw[show Xd K (.ref C) f=N' O' from n];rfl
structure Meth(K:V7)(C:VZ)(m:Str)(f:VZ):Prop where
 at_:Xd K (.ref C) m=N' (N' (.ref f))
 fn:isFn K (.ref f)=P'
 kp:XE K (.ref f)=P'
def vU(I:Inv X pins σ H s)(e:H a=N' (.ins C G fs))(c:vk X.K C)(n:fP X.K C f)(l:fs.lookup f=N' v)(h:∀u j,Inv X pins σ H j->RelV v u->Q u j):V5 (V3 X.1 X.w) A (getAttr (.ref a) f b) Q E s:=by obtain⟨y,O,r,_,_,_⟩:=zZ I.fO e;obtain⟨u,B,q⟩:=xA.some_of (v:=v) (o:=y f) (by rw[<-l];show r f);show get_map I.x6 O (c.get f) c.hd n B (G7 q) (h u _ (I.tok _) q)
def vV(I:Inv X pins σ H s)(e:H a=N' (.ins C q fs))(c:vk X.K C)(k:Meth X.K C m g)(l:fs.lookup m=O')(h:Q (.ref g,[.ref a]) s):V5 (V3 X.1 X.w) A (YB (.ref a) m pl) Q E s:=by obtain⟨j,O,r,_,_,_⟩:=zZ I.fO e;have o:j m=none:=xA.none_of (by rw[<-l];show r m);show IQ I.x6 O (c.get m) k.at_ k.fn o h
def vW{y:V}{u:Value}{Q:Unit->Shared->Prop}(I:Inv X pins σ H s)(e:H a=N' (.ins C j fs))(c:vk X.K C)(n:fP X.K C f)(F:fs.length<1000)(P:RelV y u)(h:∀G,Inv X pins σ (upd H a (.ins C j (lW f y fs))) G->Q ⟨⟩ G):V5 (V3 X.1 X.w) A (setAttr (.ref a) f u) Q E s:=by
 obtain⟨J,O,r,L,_,M⟩:=zZ I.fO e;have U:(fs.map (·.1)).length<=sizeLine:=by rw[aB,mJ];lia
 apply Mg I.x6 O c.sa c.po n.TH c.hd L U λh' B Y=>h _ ?_;have hd:∃o,h'.get? j=N' o:=let ⟨o,_,_,e',_⟩:=B.ns;#[o,e'];apply I.write (x:=a) (e:=j) (by rw[e];show True.intro) (.inr M) (λb q Z z=>(Y.2 b Z).trans z) hd ?_;apply#[by rw[aq O.ne];show M,?_,O.ne,B.obj,_,B.ns,λg=> ?_,λg T=> ?_];have:=uG f y fs;lia;show xA ((lW f y fs).lookup g) (if g=f then N' u else J g);rw[uF];by_cases q:g=f;rw[ae q,ae q];show P;rw[ab q,ab q];show r g;by_cases q:g=f;rw[q];show(tV f y fs).1;apply(tV f y fs).2 g (L g λz=>T ?_);show(if g=f then N' u else J g)=O';rw[ab q];show z
def Inv.made(I:Inv X pins σ H s):Inv X pins σ (upd (upd H s.1.1.size (.own (s.1.1.size+1))) (s.1.1.size+1) (.ins C s.1.1.size [])) {s with heap:=(s.1.push emptyDict).push (XN C s.1.1.size)}:=by
 have c:(s.1.push emptyDict).get? s.1.1.size=N' emptyDict:=dO s.1 S';have j:((s.1.push emptyDict).push (XN C s.1.1.size)).get? (s.1.1.size+1)=N' (XN C s.1.1.size):=by have:=dO (s.1.push emptyDict) (o:=XN C s.1.1.size) S';rw[c9]at this;assumption
 have r:(s.1.push emptyDict).Ns s.1.1.size (λ_=>O'):=#[emptyDict,#[],_,c,S',(λe he=>absurd he (by simp)),λ_=>rfl];have B:=I.laid (a:=s.1.1.size) (o:=.own (s.1.1.size+1)) (h':=s.1.push emptyDict) (t':=s.4) (λb u q=>aV _ q) (aI _) #[_,c];apply B.laid (a:=s.1.1.size+1) (o:=.ins C s.1.1.size []) (t':=s.4) (λb u q=>aV _ q) (ot (c9 _ _)) ?_;have h:s.1.1.size≠s.1.1.size+1:=cH (Yg _);apply#[by rw[aq h,aw],lH _,h,j,λ_=>O',(Heap.Ns1.of_empty r).at λo q=>aV _ q,λ_=>True.intro,λy E=>absurd rfl E]
def Mh(j:WN e f env (Wo e env)=Wo e env)(h:V5 (V3 prog w) A (Wo e env) (λo c=>V5 (V3 prog w) A (getAttr o f P') Q E c) E s):V5 (V3 prog w) A (Wo (.Attribute e f pos) env) Q E s:=Attribute_any_ h (by rw[arm_eval_Attribute,j])
def Mi(K:V7)(h:TE)(f:Str):TE:=λσ H Q=>h σ H λx c=>∃a C j fs v,x=.ref a/\c a=N' (.ins C j fs)/\vk K C/\fP K C f/\fs.lookup f=N' v/\Q v c
def PQ(K:V7)(j o:TE)(f:Str):TS:=λD σ H=>o σ H λy q=>j σ q λx c=>∃a C h fs,x=.ref a/\c a=N' (.ins C h fs)/\vk K C/\fP K C f/\fs.length<1000/\
 D.nx σ (upd c a (.ins C h (lW f y fs)))
def cX(he:PE X e ta)(o:WN e f X.env (Wo e X.env)=Wo e X.env):PE X (.Attribute e f pos) (Mi X.K ta f):=by intro pins s r H Q I h;apply Mh o (d7 (he pins s r H _ I h) λu O j=> ?_);obtain⟨x,y,B,E,a,C,P,fs,v,G,J,c,n,l,q⟩:=j;subst G;obtain rfl:u=Wc a:=E;show vU B J c n l λU Y L M=>#[v,y,L,M,q]
def dU(r:PE X o ta)(B:PE X value E)(G:Ws value (N' (.Attribute o f pos')) pos.line X.env=pure Q'):PS X (.Assign [.Attribute o f pos'] value pos) (PQ X.K ta E f):=by intro pins s j H D I h;apply plainObj_wpAny_Assign_Attribute (d7 (B pins s j H _ I h) λu J #[y,H1,I1,ry,q]=>d7 (r pins J j H1 _ I1 q) λL O #[x,H2,I2,rx,a,C,dx,fs,ex,ea,c,n,l,q2]=> ?_) G;subst ex;obtain rfl:L=Wc a:=rx;show vW I2 ea c n l ry λP M=>#[j,_,M,q2]
structure fH(k:Nat)(A:WK):Prop where
 hd:A.handled=O'
 dp:A.depth+3*k+5<recursionLimit
 un:A.units+16*k+200<cLine
def fH.mono(r:fH k A)(h:j<=k):fH j A:=#[r.hd,by have:=r.dp;lia,by have:=r.un;lia]
def fH.deeper(r:fH (k+1) A)(env):fH k (A.deeper env):=#[r.hd,by have:=r.dp;show A.depth+1+3*k+5<_;lia,by have:=r.un;show A.units+3+16*k+200<_;lia]
def Dw{A:WK}{C:VZ}{us:(TyJ)}{c:List (Str×Value)}:(A.under (.builtin "type.__call__" #[.ref C::us,c])).depth=A.depth+1:=by first|rfl|simp[Around.under,Code.weight,Code.isCreation,Code.isGuard,Code.isCaller,Code.frames,Code.isFrame,guardIds]
def Dx{A:WK}{C:VZ}{us:(TyJ)}{c:List (Str×Value)}:(A.under (.builtin "type.__call__" #[.ref C::us,c])).units=A.units+1:=by first|rfl|simp[Around.under,Code.cUnits,Code.frames,Code.isFrame]
def fH.make(r:fH (k+1) A)(C)(us)(kw):fH k (A.under (.builtin "type.__call__" #[.ref C::us,kw])):=#[r.hd,by have:=r.dp;rw[Dw];lia,by have:=r.un;rw[Dx];lia]
def fH.depth(r:fH k A):A.depth<recursionLimit:=by have:=r.dp;lia
def fH.units(r:fH k A):A.units+64<cLine:=by have:=r.un;lia
def xD:TA:=λ_ H Q=>Q [] H
def o9(c:TE)(h:TA):TA:=λσ H Q=>c σ H λx j=>h σ j λxs o=>Q (x::xs) o
def br:PA X [] xD:=λ_ _ _ _ H Q I h=>ZE #[[],H,I,.nil,h]
noncomputable def aC(q:PE X e r)(y:PA X j t)(B:V2 (e::j) X.env=(Q',Wo e X.env)::V2 j X.env:=by rfl):PA X (e::j) (o9 r t):=by intro pos pins s o H Q I h;rw[B];apply Zs (d7 (q pins s o H _ I h) λu E c=> ?_);obtain⟨x,G,J,L,M⟩:=c;show d7 (y pos pins E o G _ J M) λus Z c=>by obtain⟨xs,O,P,U,Y⟩:=c;show#[x::xs,O,P,.cons L U,Y]
def aaO(t:TA):TE:=λσ H Q=>t σ H λxs c=>xs.length<=sizeLine/\∀p,c p=O'->Q (.ref p) (upd c p (.tup xs))
def TJ(t:TA):TE:=λσ H Q=>t σ H λxs c=>xs.length<=sizeLine/\∀p,c p=O'->Q (.ref p) (upd c p (.lst xs))
def PR{j}(h:PA X o t):PE X (.Tuple o j pos) (aaO t):=by intro pins s y H Q I B;apply wpAny_Tuple_spliced (d7 (h pos pins s y H _ I B) λus c #[xs,H1,I1,r,z,q]=>#[by rw[<-r.length];show z,?_]);have E:H1 c.1.1.size=none:=I1.fO.fresh (aI _);apply#[.ref c.1.1.size,upd H1 c.1.1.size (.tup xs),I1.laid (t':=c.toks) (λb u e=>aV _ e) (aI _) ?_,S',q _ E];show#[z,us,r,#[_,dO _ S',S',_,S']]
def pH(h:PA X j t):PE X (.List j pos) (TJ t):=by intro pins s o H Q I y;apply wpAny_List_spliced (d7 (h pos pins s o H _ I y) λus c #[xs,H1,I1,r,z,q]=>#[by rw[<-r.length];show z,?_]);have B:H1 c.1.1.size=none:=I1.fO.fresh (aI _);apply#[.ref c.1.1.size,upd H1 c.1.1.size (.lst xs),I1.laid (t':=c.toks) (λb u e=>aV _ e) (aI _) ?_,S',q _ B];show#[z,us,0,r,dO _ S']
abbrev Sp:=List V->Hp->VK->XK->Prop
abbrev IU:=List Env->Hp->Shared->XK->Value->Shared->Prop
structure rd(P:Program)(w:V6)(K:V7)(mg:(Str->o6))(base:Heap)(A:WK)(outer:List Env)(s:Shared)(H:Hp):Prop where
 frames:A.frames=N' outer
 mod:Mod K mg base
 bs:∀b o,base.get? b=N' o->s.1.get? b=N' o/\H b=O'
 Iw:base.objs.size<=s.1.1.size
 r9:s.1.FunFrames base outer
 L5:∀b∈Iv outer,H b=O'
 fO:uR P w H s.1
 bare:Yu s.gens
def CE(c:List Env)(P:Program)(w:V6)(H:Hp)(s:Shared)(Q:VK)(u:Value)(h:Shared):Prop:=∃v j,h.os=s.os/\Yu h.gens/\Un (Iv c) [] H j s.1 h.1/\uR P w j h.1/\RelV v u/\Q v j
def CR(CX:IU)(c:List Env)(P:Program)(w:V6)(H:Hp)(s:Shared)(Q:VK)(E:XK)(r:Result)(h:Shared):Prop:=match r with
 |.ok (.ret u)=>CE c P w H s Q u h
 |.ok _=>False
 |.error e=>CX c H s E e h
structure gX(P:Program)(w:V6)(K:V7)(mg:(Str->o6))(base:Heap)(CX:IU)(k:Nat)(f:VZ)(fd:FuncData)(ps:(iG))(sp:Sp):Prop where
 len:∀vs H Q E,sp vs H Q E->vs.length=ps.length
 run:∀(A:WK) (outer:List Env) (s:Shared) (H:Hp) (args:Args) (us:(TyJ)) (vs:List V) (Q:VK) (E:XK),fH k A->rd P w K mg base A outer s H->BindsTo s fd args (ps.zip us)->Vals vs us->sp vs H Q E->
  WW (V3 P w) A (.call (.ref f) args) (CR CX outer P w H s Q E) s
def rd.make{P:Program}{w:V6}{K:V7}{mg:(Str->o6)}{base:Heap}{A:WK}{c:List Env}{s:Shared}{H:Hp}(e:rd P w K mg base A c s H)(C)(us)(kw):rd P w K mg base (A.under (.builtin "type.__call__" #[.ref C::us,kw])) c s H:=#[by first|show e.frames|(simpa [Around.under,Code.envs,Code.isFrame,pushEnvs] using e.frames),e.mod,e.bs,e.Iw,e.r9,e.L5,e.fO,e.bare]
def Inv.PU(I:Inv X pins σ H s):rd X.1 X.w X.K X.mg X.base X.A X.stack s H:=#[I.ok.frames,I.ok.mod,I.bs,c_ I.ok.Iw I.sz,I.stack,I.Er,I.fO,I.bare]
def Inv.after(I:Inv X pins σ H s)(h:CE X.stack X.1 X.w H s Q u y):EP X pins σ Q u y:=by obtain⟨v,B,os,c,E,j,r,q⟩:=h;obtain⟨G,g,d,t,o⟩:=y;obtain rfl:o=s.os:=os;show#[v,B,I.call (h':=G) (g':=g) (d':=d) (t':=t) (ch:=[]) E j c (λb z=>absurd z (by simp)),r,q]
def TK(c:Sp)(dvs:List V)(E:XK)(t:TA):TE:=λσ H Q=>t σ H λvs h=>c (vs++dvs) h Q E
def IV(C:VZ)(m:Str)(h:Sp)(dvs:List V)(E:XK)(j:TE)(t:TA):TE:=λσ H Q=>j σ H λx c=>∃a o fs,x=.ref a/\c a=N' (.ins C o fs)/\fs.lookup m=O'/\
 t σ c λvs q=>h (x::(vs++dvs)) q Q E
def TM(C:VZ)(j:Sp)(dvs:List V)(E:XK)(t:TA):TE:=λσ H Q=>t σ H λvs h=>∀x c,h x=O'->h c=O'->c≠x->
 j (.ref x::(vs++dvs)) (upd (upd h c (.own x)) x (.ins C c [])) (λv o=>v=.bQ/\Q (.ref x) o) E
def Binds(K:V7)(fd:FuncData)(ps:(iG))(c:(TyJ)):Prop:=∀(s:Shared) (us:(TyJ)),K.In s.1->(us++c).length=ps.length->BindsTo s fd #[us,[]] (ps.zip (us++c))
def Binds.all{K:V7}{fd:FuncData}{ps:(iG)}(h:∀us:(TyJ),us.length=ps.length->W8 fd #[us,[]]=pure (ps.zip us)):Binds K fd ps []:=λs us _ c=>by rw[ko]at c|-;show .of_eq (h us c)
def Passes(CX:IU)(X:Cx)(E:XK):Prop:=∀(pins:(List (VZ×Obj))) (σ:St) (H:Hp) (s:Shared) (e:Value) (c:Shared),Inv X pins σ H s->CX X.stack H s E e c->X.xe e c
universe b
def z0(F:gX X.1 X.w X.K X.mg X.base CX k f fd ps sp)(o:fH k X.A)(q:Binds X.K fd ps ds)(y:Vals dvs ds)(B:Passes CX X E)(I:Inv X pins σ H s)(r:Vals vs us)(h:sp (vs++dvs) H Q E):V5 (V3 X.1 X.w) X.A (call (.ref f) us) (EP X pins σ Q) X.xe s:=by
 have j:Vals (vs++dvs) (us++ds):=r.append y;have G:(us++ds).length=ps.length:=by rw[<-j.length];show F.len _ _ _ _ h
 apply wpAny_call (rX (F.run X.A X.stack s H #[us,[]] (us++ds) (vs++dvs) Q E o I.PU (q s us I.x6 G) j h) λr J c=> ?_);cases r with
 |error e=>show B pins σ H s e J I c
 |ok L=>
  cases L with
  |ret u=>show I.after c
  |next=>show V8 c
  |brk=>show V8 c
  |cont=>show V8 c
universe a
def gr(F:gX X.1 X.w X.K X.mg X.base CX k f fd ps sp)(o:fH k X.A)(u:Gl X x)(y:X.mg x=N' (.ref f))(B:XE X.K (.ref f)=P')(G:Binds X.K fd ps ds)(J:Vals dvs ds)(L:Passes CX X E)(M:PA X (e::c) t)(j:(x==("__debug__":Str))=false:=by decide)(he:V2 (e::c) X.env=(Q',Wo e X.env)::V2 c X.env:=by rfl)(hpl:(Wz pos (V2 c X.env)).any (·.1)=false:=by rfl):
  PE X (.Call (.Name x p) (e::c) [] pos) (TK sp dvs E t):=by
 intro pins s O H Q I h
 apply tN (oy I u y ?_ j)
 apply YY (h₀:=X.base) I.ok.mod.Pe B (d7 (M pos pins s O H _ I h) λus P #[vs,H1,I1,r,q]=>#[I1.x6,?_]) he hpl
 show z0 F o G J L I1 r q
def oC(he:PE X o ta)(c:vk X.K C)(B:Meth X.K C m f)(F:gX X.1 X.w X.K X.mg X.base CX k f fd ps sp)(L:fH k X.A)(M:Binds X.K fd ps ds)(O:Vals dvs ds)(P:Passes CX X E)(U:PA X (e::j) t)(y:V2 (e::j) X.env=(Q',Wo e X.env)::V2 j X.env:=by rfl)(hpl:(Wz pos (V2 j X.env)).any (·.1)=false:=by rfl)
  (Y:Wo (.Call (.Attribute o m apos) (e::j) [] pos) X.env=(do
   let G<-Wo o X.env
   Xn apos.atName
   let (f,first)<-W5 [G] (YB G m pl)
   callWith pos f first (Wz pos (V2 (e::j) X.env)) (XH pos (W7 [] X.env))):=by rfl):
  PE X (.Call (.Attribute o m apos) (e::j) [] pos) (IV C m sp dvs E ta t):=by
 intro pins s J H Q I h
 apply methodCall_KW (pl:=pl) (d7 (he pins s J H _ I h) λu Z #[x,H1,I1,rx,a,dx,fs,ex,ea,l,q]=> ?_) Y
 subst ex
 obtain rfl:u=Wc a:=rx
 apply vV I1 ea c B l ?_
 apply YY (first:=[.ref a]) (h₀:=X.base) I.ok.mod.Pe B.kp (d7 (U pos pins Z J H1 _ I1 q) λus T #[vs,H2,I2,r,q2]=>#[I2.x6,?_]) y hpl
 show z0 (us:=.ref a::us) (vs:=.ref a::vs) F L M O P I2 (.cons S' r) q2
structure Mk(K:V7)(C f:VZ):Prop where
 makes:makesIn K C=P'
 init:Xd K (.ref C) "__init__"=N' (N' (.ref f))
 fn:isFn K (.ref f)=P'
 kp:XE K (.ref C)=P'
universe b
def IW{pins:(List (VZ×Obj))}{q:St}{H:Hp}{s:Shared}{Q:VK}{us:(TyJ)}{vs:List V}(M:Mk X.K C f)(F:gX X.1 X.w X.K X.mg X.base CX k f fd ps sp)(G:fH (k+1) X.A)(J:Binds X.K fd ps ds)(L:Vals dvs ds)(O:Passes CX X E)(I:Inv X pins q H s)(r:Vals vs us)(h:∀x j,H x=O'->H j=O'->j≠x->sp (.ref x::(vs++dvs)) (upd (upd H j (.own x)) x (.ins C j [])) (λv P=>v=.bQ/\Q (.ref x) P) E):V5 (V3 X.1 X.w) X.A (call (.ref C) us) (EP X pins q Q) X.xe s:=by
 have y:=h (s.1.1.size+1) s.1.1.size (I.fO.fresh (Nat.le_succ _)) (I.fO.fresh (aI _)) (cH (Yg _));have o:=Inv.made (C:=C) I;have B:Vals (V.ref (s.1.1.size+1)::(vs++dvs)) (Wc (s.1.1.size+1)::(us++ds)):=.cons S' (r.append L);have U:(Wc (s.1.1.size+1)::us++ds).length=ps.length:=by have e:=B.length;rw[F.len _ _ _ _ y]at e;show e.symm
 apply wpAny_call (IT (f:=f) I.x6 M.makes M.init (beq_iff_eq.mp M.fn) (rX (F.run _ X.stack _ _ #[Wc (s.1.1.size+1)::us,[]] (Wc (s.1.1.size+1)::(us++ds)) _ _ E (G.make C us [])
  (o.PU.make C us []) (J _ (Wc (s.1.1.size+1)::us) o.x6 U) B y) λr Y c=> ?_))
 cases r with
 |error e=>show O pins q _ _ e Y o c
 |ok Z=>
  cases Z with
  |ret u=>
   obtain⟨v,T,D,R,S,N⟩:=o.after c;subst S;show#[R,#[V.ref (s.1.1.size+1),T,D,S',N]]
  |next=>show V8 c
  |brk=>show V8 c
  |cont=>show V8 c
universe a
def vl(M:Mk X.K C f)(F:gX X.1 X.w X.K X.mg X.base CX k f fd ps sp)(o:fH (k+1) X.A)(u:Gl X x)(y:X.mg x=N' (.ref C))(B:Binds X.K fd ps ds)(G:Vals dvs ds)(J:Passes CX X E)(L:PA X (e::c) t)(j:(x==("__debug__":Str))=false:=by decide)(he:V2 (e::c) X.env=(Q',Wo e X.env)::V2 c X.env:=by rfl)(hpl:(Wz pos (V2 c X.env)).any (·.1)=false:=by rfl):
  PE X (.Call (.Name x p) (e::c) [] pos) (TM C sp dvs E t):=by
 intro pins s O H Q I h
 apply tN (oy I u y ?_ j)
 apply YY (h₀:=X.base) I.ok.mod.Pe M.kp (d7 (L pos pins s O H _ I h) λus P #[vs,H1,I1,r,q]=>#[I1.x6,?_]) he hpl
 show IW M F o B G J I1 r q
structure fi(N P:(iG))(sc:Scope):Prop where
 kind:sc.kind=.function
 co:sc.isCoroutine=Q'
 gen:sc.isGenerator=Q'
 nd:N.Nodup
 pre:N.take P.length=P
 par:∀x∈P,sc.names.lookup x=N' .local\/sc.names.lookup x=N' .cell
 PV:∀y∈sc.names,y.2≠.free
theorem x_{j:Str->Option Wu}{x:Str}:∀{c:List (Str×Value)} {m:(Str->o6)},(∀v,(x,v)∉c)->Z5 j c m x=m x
 |[],_,_=>rfl
 |(n,v)::r,m,h=>by
  unfold Z5;rw[x_ λw o=>h w (dN _ o)];split;have:x≠n:=by rintro rfl;show h v jx
  simp[this];rfl
theorem yA{j:Str->Option Wu}{x:Str}:∀{c:List (Str×Value)} {m:(Str->o6)},(∀v,(x,v)∉c)->bindC j c m x=m x
 |[],_,_=>rfl
 |(n,v)::r,m,h=>by
  unfold bindC;rw[yA λw o=>h w (dN _ o)];split;rfl;have:x≠n:=by rintro rfl;show h v jx
  simp[this]
theorem yB{c:Str->Option Wu}{x:Str}{v:Value}:∀{P:(iG)} {vs:(TyJ)} {i:Nat} {m:(Str->o6)},P.Nodup->P[i]?=N' x->vs[i]?=N' v->c x=N' .local->Z5 c (P.zip vs) m x=N' v
 |[],_,_,_,_,h,_,_=>by simp at h
 |_::_,[],_,_,_,_,h,_=>by simp at h
 |p::P,w::vs,0,m,nd,j,o,q=>by simp at j o;subst j;subst o;show Z5 c ((p,w)::P.zip vs) m p=_;unfold Z5;rw[x_ λv r=>(oi.mp nd).1 (mD r).1,ae q];simp
 |p::P,w::vs,i+1,m,nd,j,o,q=>by unfold Z5;show yB (i:=i) (oi.mp nd).2 (by simpa using j) (by simpa using o) q
theorem yC{c:Str->Option Wu}{x:Str}{v:Value}:∀{P:(iG)} {vs:(TyJ)} {i:Nat} {m:(Str->o6)},P.Nodup->P[i]?=N' x->vs[i]?=N' v->c x≠N' .local->bindC c (P.zip vs) m x=N' v
 |[],_,_,_,_,h,_,_=>by simp at h
 |_::_,[],_,_,_,_,h,_=>by simp at h
 |p::P,w::vs,0,m,nd,j,o,q=>by simp at j o;subst j;subst o;show bindC c ((p,w)::P.zip vs) m p=_;unfold bindC;rw[yA λv r=>(oi.mp nd).1 (mD r).1,ab q];simp
 |p::P,w::vs,i+1,m,nd,j,o,q=>by unfold bindC;show yC (i:=i) (oi.mp nd).2 (by simpa using j) (by simpa using o) q
noncomputable def start(N:(iG))(vs:List V):St:=vs.map N'++VY (N.length-vs.length) O'
noncomputable def pI(CX:IU)(P:Program)(w:V6)(K:V7)(mg:(Str->o6))(base:Heap)(N:(iG))(qual:Str)(scope:Scope)(f:VZ)(cd:Value)(A:WK)(outer:List Env)(s:Shared)(H:Hp)(E:XK):Cx where
 prog:=P
 w:=w
 K:=K
 mg:=mg
 base:=base
 A:=A.deeper (XG qual scope s.1.1.size f cd)
 N:=N
 zV:=s
 SQ:=H
 env:=XG qual scope s.1.1.size f cd
 outer:=outer
 stack:=XG qual scope s.1.1.size f cd::outer
 ex:=[]
 calm:=P'
 fn:=λ_=>P'
 pn:=[]
 xe:=λe h=>V5 (V3 P w) (A.deeper (XG qual scope s.1.1.size f cd)) (leaving (XG qual scope s.1.1.size f cd) e) (λ_ c=>CX outer H s E e c) (λe' c=>CX outer H s E e' c) h
def vX{j:Scope}{n:Nat}{x:Str}(h:j.names.lookup x=N' .cell):∃c,(V_ n j.names []).lookup x=N' c:=by have q:=YX j.names n [] (.inl h);show zK.mp q
def yD{CX:IU}{P:Program}{w:V6}{K:V7}{mg:(Str->o6)}{base:Heap}{N ps:(iG)}{qual:Str}{scope:Scope}{f:VZ}{cd:Value}{A:WK}{j:List Env}{s U:Shared}{H:Hp}{E:XK}{us:(TyJ)}{vs:List V}(S:fi N ps scope)(Z:A.handled=O')(B:rd P w K mg base A j s H)(F:vs.length=ps.length)(r:Vals vs us)(x:InCallC s s.1.1.size (Z5 (XG qual scope s.1.1.size f cd).kindOf (ps.zip us) λ_=>O') (V_ (s.1.1.size+1) scope.2 []) (bindC (XG qual scope s.1.1.size f cd).kindOf (ps.zip us) λ_=>O') U):Inv (pI CX P w K mg base N qual scope f cd A j s H E) [] (start N vs) H U:=by
 have hpl:ps.length<=N.length:=by have:=congrArg W2 S.pre;rw[km]at this;lia
 obtain⟨O,tk,rfl,X⟩:=x.done;have G:∀b:VZ,b∉(pI CX P w K mg base N qual scope f cd A j s H E).ex:=λb z=>absurd (show b∈([]:(mw))from z) (by simp);apply#[#[B.mod,S.kind,S',S',aI _,λy z c O o=> ?_,λy J=> ?_,λy c _ h=> ?_,λ_=>Z,Around.frames_deeper B.frames,.inr #[S',S'],λb z=>absurd z (G b),B.bs,B.Iw,λb _ _=>G b,λb z=>absurd z (G b),B.r9,B.L5],
  rfl,B.bare,Un.kept X,#[_,x.toInCall.ns,λi y v O o D=> ?_],λy c h=>#[_,x.cell y c h],B.fO.fresh (aI _),λy c h=> ?_,λp L=>absurd (show p∈([]:(List (VZ×Obj)))from L) (by simp),B.fO.kept X,?_]
 show name_of_addr x.apart (eR O) (eR o);have J:scope.2.lookup y=N' .cell\/scope.2.lookup y=N' .free:=J;rcases J with J|J;show vX J;show absurd rfl (S.PV _ (eR J));show gp (x.above y c (eR h));have Q:i<vs.length:=by unfold start at o;by_cases Q:i<vs.length;show Q;rw[vC (by simpa using Q)]at o;rw[tF]at o;split at o<;>cases o
 have T:vs[i]?=N' v:=by
  unfold start at o;rw[uC (by simpa using Q),cV]at o;cases e:vs[i]? with
  |none=>rw[e]at o;cases o
  |some a=>rw[e]at o;cases o;rfl
 obtain⟨u,Y,C⟩:=r.get T;have L:ps[i]?=N' y:=by rw[<-S.pre,zJ 'l'];show O
 have M:ps.Nodup:=by rw[<-S.pre];show S.nd.sublist (List.take_sublist _ _)
 apply#[u,C,?_];rcases S.par y (ka L)with k|k;show .inl #[k,yB M L Y k];obtain⟨c,e⟩:=vX (n:=s.1.1.size+1) k;apply .inr #[.inl k,c,e,?_];have q:=x.cell y c e;rw[yC M L Y (by show scope.2.lookup y≠_;rw[k];decide)]at q;show q;show .inl (B.fO.fresh (gp (x.above y c (eR h))));unfold start;show _=N.length;rw[en,aB,n8];lia
universe b
def TN{CX:IU}{P:Program}{w:V6}{K:V7}{mg:(Str->o6)}{base:Heap}{k:Nat}{f:VZ}{name qual:Str}{params:Arguments}{body:(TyM)}{scope:Scope}{d g doc pm h ct z:Value}{i od:Option VZ}{Z:Array ((o6))}{N ps:(iG)}{T:Sp}(lk:K.lookup f=N' #[z,od,.func (fnOf name qual params body scope d g doc pm i h ct),Z])(C:codeIn K h qual=P')(S:fi N ps scope)(O:∀vs H Q E,T vs H Q E->vs.length=ps.length)(G:∀(A) (c) (s) (H) (vs) (Q:VK) (E:XK),fH k (A.deeper (XG qual scope s.1.1.size f h))->T vs H Q E->∃t,gA (pI CX P w K mg base N qual scope f h A c s H E) body t/\t {nx:=λ_ B=>Q .bQ B,rt:=Q} (start N vs) H):gX P w K mg base CX (k+1) f (fnOf name qual params body scope d g doc pm i h ct) ps T:=by
 apply#[O,λA c s H l us vs Q E F U hb r X=> ?_];have hl:=O _ _ _ _ X;have m:K.In s.heap:=U.mod.Pe.keeps λb o e=>(U.bs b o e).1;have D:s.1.NoLimit:=U.mod.nolimit.keeps λb o e=>(U.bs b o e).1;have L:∀y∈ps.zip us,scope.2.lookup y.1=N' .local\/(scope.2.lookup y.1=N' .cell/\((V_ (s.1.1.size+1) scope.2 []).lookup y.1).isSome=P'):=λR hy=>by
  obtain⟨n,v⟩:=R;rcases S.par n (mD hy).1 with q|q
  ·show .inl q
  ·show .inr #[q,YX _ _ _ (.inl q)]
 apply Dd F.depth (m _ _ lk) S' S.co S.gen S' (codeRec_of m C) (hb _ _ _ _ ?_);apply YS S.kind L λenv he p x=> ?_;subst he;apply#[D.keeps x.toInCall.keep,ZM ?_];obtain⟨t,ht,hq⟩:=G A c s H vs Q E (F.deeper _) X;have I:Inv (pI CX P w K mg base N qual scope f h A c s H E) [] (start N vs) H p:=yD S F.hd U hl r x;apply eM (ht [] p (start N vs) H _ I hq) (λfl W M=> ?_) λe W M=>M;have Y:∀{j:St} {B:Hp} {v:V} {u:Value},Inv (pI CX P w K mg base N qual scope f h A c s H E) [] j B W->RelV v u->Q v B->CE c P w H s Q u W:=
  λ{j B v u} J a q=>#[v,B,J.os,J.bare,J.base,J.fO,a,q]
 cases fl with
 |ret u=>
  obtain⟨v,j,B,J,a,q⟩:=M;show Y J a q
 |next=>
  obtain⟨j,B,J,q⟩:=M;show Y (v:=V.bQ) (u:=YC) J S' q
 |brk=>
  obtain⟨_,_,_,q⟩:=M;show V8 q
 |cont=>
  obtain⟨_,_,_,q⟩:=M;show V8 q
section
variable {X:Cx} {x:Str} {p pos:Pos} {e:Expr} {es:(k_)} {t:TA} {id T:String} {r:List V->Hp->VK->Prop}
def TQ(r:List V->Hp->VK->Prop)(t:TA):TE:=λσ H Q=>t σ H λvs c=>r vs c Q
universe a
def jz(q:se X (.builtin id) r)(u:Gl X x)(y:X.mg x=O')(B:WZ x=N' (.builtin id))(E:PA X (e::es) t)(G:x≠"__name__":=by decide)(c:(x==("__debug__":Str))=false:=by decide)
  (he:V2 (e::es) X.env=(Q',Wo e X.env)::V2 es X.env:=by rfl)(hpl:(Wz pos (V2 es X.env)).any (·.1)=false:=by rfl):PE X (.Call (.Name x p) (e::es) [] pos) (TQ r t):=by
 intro pins s o H Q I h
 apply tN (oz I u y B ?_ G c)
 show PyProof.Rows.callWith_builtin1 (d7 (E pos pins s o H _ I h) λus J j=>by obtain⟨vs,L,M,O,P⟩:=j;show q pins J o L vs us Q M O P) he hpl
def yE(q:se X (.type T) r)(u:Gl X x)(y:X.mg x=O')(B:WZ x=N' (.type T))(E:PA X (e::es) t)(G:x≠"__name__":=by decide)(c:(x==("__debug__":Str))=false:=by decide)
  (he:V2 (e::es) X.env=(Q',Wo e X.env)::V2 es X.env:=by rfl)(hpl:(Wz pos (V2 es X.env)).any (·.1)=false:=by rfl):PE X (.Call (.Name x p) (e::es) [] pos) (TQ r t):=by
 intro pins s o H Q I h
 apply tN (oz I u y B ?_ G c)
 show uB (d7 (E pos pins s o H _ I h) λus J j=>by obtain⟨vs,L,M,O,P⟩:=j;show q pins J o L vs us Q M O P) he hpl
end
end L2
namespace HT
open PySem PyProof.Rows
section
open PySem.SeqAt
open PySem.AutoSeq1 (wpAny_loadPart')
open PySem.MeetsSeq PySem.MeetsSeq2 PySem.MeetsSeq3
end
noncomputable def A8(n d:Nat):(uQ)->Nat
 |none=>d
 |some v=>if v<0 then(v+(n:Int)).toNat else min v.toNat n
end HT
namespace L2
open PySem PySem.W PySem.Spec PyProof.Rows
abbrev TO:=St->Hp->((uQ)->Hp->Prop)->Prop
def PO(X:Cx)(e:Option Expr)(t:TO):Prop:=∀(pins:(List (VZ×Obj))) (s:Shared) (σ:St) (H:Hp) (Q:(uQ)->Hp->Prop),Inv X pins σ H s->t σ H Q->
  V5 (V3 X.1 X.w) X.A (evalPart e X.env) (λu h=>∃o c,Inv X pins σ c h/\IsPart u o/\Q o c) X.xe s
def ED:TO:=λ_ H Q=>Q O' H
def Oy(t:TE):TO:=λσ H Q=>t σ H λx c=>∃i,x=.int i/\Q (N' i) c
section
variable {X:Cx} {e:Expr} {te:TE} {lo hi:Option Expr} {tl th:TO} {pos p2:Pos}
def vm:PO X O' ED:=by intro pins s c H Q I h;rw[evalPart_none];show aP #[O',H,I,.none,h]
def qs(h:PE X e te):PO X (N' e) (Oy te):=by intro pins s j H Q I o;rw[evalPart_some];apply d7 (h pins s j H _ I o) λu G c=> ?_;obtain⟨x,r,y,B,E⟩:=c;obtain⟨i,rfl,q⟩:=E;obtain⟨t,rfl⟩:=B;show#[N' i,r,y,.int i t,q]
def SlR(X:Cx)(r:V->(uQ)->(uQ)->Hp->VK->Prop):Prop:=∀(pins:(List (VZ×Obj))) (s:Shared) (σ:St) (H:Hp) (x:V) (v c h:Value) (lo hi:(uQ)) (sl:VZ) (Q:VK),Inv X pins σ H s->RelV x v->s.1.IsSliceOf sl c h .none->IsPart c lo->IsPart h hi->r x lo hi H Q->
  ∃T id,typeLookup (.type T) "__getitem__"=pure (N' (.builtin id))/\s.TypeIs v T/\V5 (V3 X.1 X.w) X.A (ZL v (.ref sl)) (EP X pins σ Q) X.xe s
def tSl(r:V->(uQ)->(uQ)->Hp->VK->Prop)(te:TE)(tl th:TO):TE:=λσ H Q=>te σ H λx c=>tl σ c λl h=>th σ h λu j=>r x l u j Q
def pJ(G:SlR X r)(he:PE X e te)(J:PO X lo tl)(L:PO X hi th):PE X (.Subscript e (.Slice lo hi O' p2) pos) (tSl r te tl th):=by intro pins s o H Q I h;apply Subscript_ (d7 (he pins s o H _ I h) λv M c=> ?_);obtain⟨x,O,P,U,Y⟩:=c;apply wpAny_Slice (d7 (J pins M o O _ P Y) λy Z #[l,H2,I2,pl,q2]=>d7 (L pins Z o H2 _ I2 q2) λB j c=> ?_);obtain⟨u,E,C,F,D⟩:=c;rw[evalPart_none];apply aP ?_;have V:Inv X pins o E {j with heap:=j.1.push {cls:=.type "slice",data:=.fields (List.toArray [y,B,.none])}}:=C.kept (t':=j.toks) λb K q=>aV _ q;obtain⟨T,id,R,S,A⟩:=G pins {j with heap:=j.1.push {cls:=.type "slice",data:=.fields (List.toArray [y,B,.none])}} o E x v y B l u j.1.1.size Q V U (Heap.IsSliceOf.new ..) pl F D;show tail_any (ops:=[.ref j.1.1.size,v]) S R A (by with_unfolding_all rfl)
def uV(xs:List V)(lo hi:(uQ)):List V:=(xs.drop (HT.A8 xs.length 0 lo)).take (HT.A8 xs.length xs.length hi-HT.A8 xs.length 0 lo)
def Bn(xs)(lo hi):(uV xs lo hi).length<=xs.length:=by unfold uV;rw[km,X5];lia
end
noncomputable def Mj(n:Nat)(i:Int):Option Nat:=if 0<=i then(if i<n then N' i.toNat else O')else if-(n:Int)<=i then N' (i+n).toNat else O'
def Oz{c:Type}(xs:List c)(i:Int):Option c:=(Mj xs.length i).bind λj=>xs[j]?
def EE(h:Mj n i=N' j):seqIndex? i n=N' j/\j<n∧-(n)<=i/\i<n:=by unfold Mj at h;by_cases o:0<=i;rw[ae o]at h;by_cases c:i<n;rw[ae c]at h;have e:i.toNat=j:=dz h;show#[by rw[Z2 o c,e],by lia,by lia,c];rw[ab c]at h;cases h;rw[ab o]at h;by_cases c: -(n)<=i;rw[ae c]at h;have e:(i+n).toNat=j:=dz h;show#[by rw[ZK 'l' c,e],by lia,c,by lia];rw[ab c]at h;cases h
def EF(h:Oz xs i=N' v):∃j,seqIndex? i xs.length=N' j/\xs[j]?=N' v/\j<xs.length∧-(xs.length:Int)<=i/\i<xs.length:=by
 unfold Oz at h;cases e:Mj xs.length i with
 |none=>rw[e]at h;cases h
 |some j=>
  rw[e]at h;obtain⟨c,o,q,r⟩:=EE e;show#[j,c,h,o,q,r]
def Ml{c:Type}{xs:List c}{j:Nat}{v:c}(h:xs[j]?=N' v):Oz xs (j)=N' v:=by
 have o:j<xs.length:=(ni.mp h).1;have e:Mj xs.length (j)=N' j:=by unfold Mj;rw[ae 'l',ae 'l'];simp
 unfold Oz;rw[e];show h
def EG(b:Expr):Prop:=∀o i,YI b Q' o i=operate [o,i] (ZL o i)
def IxR(X:Cx)(r:R2):Prop:=∀(value slice:Expr) (pins:(List (VZ×Obj))) (s:Shared) (σ:St) (H:Hp) (x y:V) (v u:Value) (Q:VK),Inv X pins σ H s->RelV x v->RelV y u->r x y H Q->
  YI slice Q' v u=operate [v,u] (ZL v u)->V5 (V3 X.1 X.w) X.A (subscriptTail value slice v u) (EP X pins σ Q) X.xe s
def MtR(X:Cx)(id:String)(r:V->List V->Hp->VK->Prop):Prop:=∀(pins:(List (VZ×Obj))) (s:Shared) (σ:St) (H:Hp) (x:V) (xs:List V) (v:Value) (us:(TyJ)) (Q:VK),Inv X pins σ H s->RelV x v->Vals xs us->r x xs H Q->
  V5 (V3 X.1 X.w) X.A (call (.builtin id) (v::us)) (EP X pins σ Q) X.xe s
section
variable {X:Cx}
def vY(c:IxR X r)(j:PE X a ta)(o:PE X b tb)(B:EG b):PE X (.Subscript a b pos) (LM r ta tb):=by intro pins s E H Q I h;show Subscript_ (Py j o I h λv u G x y J L M O q=>c a b pins G E J x y v u Q L M O q (B _ _))
def TR(K:V7):R2:=λx y H Q=>∃p xs i v,x=.ref p/\y=.int i/\cQ K H p xs/\Oz xs i=N' v/\Q v H
def aaP(K:V7):R2:=λx y H Q=>∃p xs i v,x=.ref p/\y=.int i/\o8 K H p xs/\Oz xs i=N' v/\Q v H
def qt:IxR X (TR X.K):=by
 intro B E pins s M H x y v u Q I Y Z h O;obtain⟨p,xs,i,z,rfl,rfl,T,he,q⟩:=h;cases Y;obtain⟨t,rfl⟩:=Z;obtain⟨G,r,pl,S⟩:=I.list T;obtain⟨j,o,C,A,F,D⟩:=EF he;obtain⟨w,P,J⟩:=r.get C;have V:=r.length;have N:=vT;have c:EP X pins M Q w s:=#[z,H,I,J,q];by_cases U:0<=i;have L:i.toNat=j:=by rw[Z2 U D]at o;show dz o
 show item_listR pl.isList U 'l' (by rw[L];simpa using P) c O;have L:(i+(G.toArray.size:Int)).toNat=j:=by rw[ZK 'l' F]at o;rw[dj,<-V];show dz o
 show ZJ (x:=w) pl.isList.typeIs slot_list_getitem.lookup
  (wpAny_getItem_list_neg (Q:=λr R=>r=w/\EP X pins M Q r R) pl.isList 'l' (by rw[dj]<;>lia) 'l' (by rw[L];simpa using P) #[S',c]) O
def PX:IxR X (aaP X.K):=by
 intro c o pins s G H x y v u Q I J L h M;obtain⟨p,xs,i,z,rfl,rfl,O,he,q⟩:=h;cases J;obtain⟨t,rfl⟩:=L;obtain⟨P,r,pl,F⟩:=I.tuple O;obtain⟨j,U,Y,D,V,R⟩:=EF he;obtain⟨w,Z,B⟩:=r.get Y;have T:=r.length;have S:=vT;have E:EP X pins G Q w s:=#[z,H,I,B,q];show ZJ (x:=w) pl.typeIs slot_tuple_getitem.lookup
  (getItem_tuple (j:=j) (Q:=λr C=>r=w/\EP X pins G Q r C) pl 'l' 'l' (by rw[dj,<-T];show U) (by simpa using Z) #[S',E]) M
def Dy(c:(TyJ))(n j)(u):XR (·.setIfInBounds j u) {cls:=.type "list",data:=.seq c.toArray n}={cls:=.type "list",data:=.seq (c.set j u).toArray n}:=by simp[XR]
def Inv.lst(I:Inv X pins σ H s)(h:H p=N' (.lst xs)):∃c n,Vals xs c/\s.1.get? p=N' {cls:=.type "list",data:=.seq c.toArray n}/\xs.length<=sizeLine:=by obtain⟨z,c,n,r,e⟩:=I.fO p _ h;show#[c,n,r,e,z]
def Inv.PY{pins:(List (VZ×Obj))}{y:St}{H:Hp}{s:Shared}{p:VZ}{xs j:List V}{c its':(TyJ)}{n o:Nat}{f:Obj->Obj}(I:Inv X pins y H s)(h:H p=N' (.lst xs))(E:s.1.get? p=N' {cls:=.type "list",data:=.seq c.toArray n})(B:f {cls:=.type "list",data:=.seq c.toArray n}={cls:=.type "list",data:=.seq its'.toArray o})(r:Vals j its')(G:j.length<=sizeLine)(t):Inv X pins y (upd H p (.lst j)) {s with heap:=s.1.update p f,toks:=t}:=by
 have e:(s.1.update p f).get? p=N' {cls:=.type "list",data:=.seq its'.toArray o}:=by rw[Y7 f E (by rw[B]<;>rfl),B]
 apply I.write (x:=p) (e:=p) (by rw[h];trivial) (.inl S') (λb u J q=>(YR _ _ (iq J)).trans q) #[_,e] ?_;show#[G,its',o,r,e]
def IX:V->V->V->Hp->(Hp->Prop)->Prop:=λo i v H Q=>∃p xs k j,o=.ref p/\i=.int k/\H p=N' (.lst xs)/\Mj xs.length k=N' j/\Q (upd H p (.lst (xs.set j v)))
def set_list:Tq X IX:=by
 intro pins s U H o i v D V u Q I Y Z T h;obtain⟨p,xs,k,j,rfl,rfl,J,C,q⟩:=h;cases Y;obtain⟨t,rfl⟩:=Z;obtain⟨c,n,r,B,F⟩:=I.lst J;obtain⟨y,R,L,M⟩:=EE C;have E:=r.length;have S:=vT;have O:Inv X pins U (upd H p (.lst (xs.set j v))) {s with heap:=s.1.update p (XR (·.setIfInBounds j u))}:=
  I.PY J B (Dy c n j u) (r.set T j) (by rw[mz];show F) s.4
 by_cases P:0<=k;have G:k.toNat=j:=by rw[Z2 P M]at y;show dz y
 show ki_setAt B P 'l' (by rw[dj,<-E];show M) (by rw[G];show#[_,O,q]);have G:(k+(c.toArray.size:Int)).toNat=j:=by rw[ZK 'l' L]at y;rw[dj,<-E];show dz y
 show ki_setBack B 'l' (by rw[dj,<-E];show L) 'l' (by rw[G];show#[_,O,q])
def z4(lo hi)(n):(W6 lo hi O' n).1=((HT.A8 n 0 lo:Nat):Int)/\(W6 lo hi O' n).2.1=((HT.A8 n n hi:Nat):Int)/\(W6 lo hi O' n).2.2=1:=by
 apply#[?_,?_,S'];cases lo with
 |none=>simp[W6,HT.A8]
 |some i=>
  simp![W6,HT.A8,rR,show(1)>0 by decide,dC];by_cases h:i<0;simp![h,dC]<;>lia;simp![h,kr]<;>lia
 cases hi with
 |none=>simp[W6,HT.A8]
 |some i=>
  simp![W6,HT.A8,rR,show(1)>0 by decide,dC];by_cases h:i<0;simp![h,dC]<;>lia;simp![h,kr]<;>lia
def xE(c:(TyJ))(lo hi):slicePick c.toArray lo hi O'=((c.drop (HT.A8 c.length 0 lo)).take (HT.A8 c.length c.length hi-HT.A8 c.length 0 lo)).toArray:=by obtain⟨h,j,o⟩:=z4 lo hi c.toArray.size;unfold slicePick;rw[h,j,o];simp![sliceRange_one,pick_run,dj]<;>rfl
def TU(K:V7):V->(uQ)->(uQ)->Hp->VK->Prop:=λx c h H Q=>∃a xs,x=.ref a/\cQ K H a xs/\∀p,H p=O'->Q (.ref p) (upd H p (.lst (uV xs c h)))
def si:SlR X (TU X.K):=by intro pins s O H x v P U j u Y Q I B E pl G h;obtain⟨a,xs,rfl,J,q⟩:=h;cases B;obtain⟨L,r,y,M⟩:=I.list J;have c:=r.length;apply#["list",_,slot_list_getitem.lookup,y.isList.typeIs,?_];apply wpAny_getItem_list_slice y.isList E pl G .none (by simp) ?_ (by rw[dj]<;>lia);rw[xE,<-c];apply#[.ref s.1.1.size,_,I.laid (t':=s.4) (o:=.lst (uV xs j u)) (λb Z q=>aV _ q) (aI _) ?_,S',q _ (I.fO.fresh (aI _))];show#[c_ (Bn xs j u) M,_,0,(r.drop (HT.A8 xs.length 0 j)).take (HT.A8 xs.length xs.length u-HT.A8 xs.length 0 j),dO _ S']
noncomputable def nt:V->Bool
 |.bQ=>P'
 |.bl _=>P'
 |.int _=>P'
 |.str _=>P'
 |_=>Q'
noncomputable def Il:V->V->Bool
 |.bQ,.bQ=>P'
 |.bl a,.bl b=>a==b
 |.bl a,.int b=>(if a then 1 else 0)==b
 |.int a,.bl b=>a==(if b then 1 else 0)
 |.int a,.int b=>a==b
 |.str a,.str b=>a==b
 |_,_=>Q'
def PZ(h:RelV y u)(c:RelV x v)(o:nt y=P')(j:nt x=P'):SeqAt.EqAt A s u v (Il y x):=by
 cases y with
 |bQ=>
  cases h;cases x with
  |bQ=>cases c;show SeqAt.EqAt.same _
  |bl b=>cases c;show SeqAt.EqAt.none_bool b
  |int b=>obtain⟨t,rfl⟩:=c;show SeqAt.EqAt.none_int b t
  |str b=>obtain⟨t,rfl⟩:=c;show SeqAt.EqAt.none_str b t
  |_=>show absurd (show Q'=P' from j) ek
 |bl a=>
  cases h;cases x with
  |bQ=>cases c;show SeqAt.EqAt.bool_none a
  |bl b=>cases c;show SeqAt.EqAt.bool_bool a b
  |int b=>obtain⟨t,rfl⟩:=c;show SeqAt.EqAt.bool_int a b t
  |str b=>obtain⟨t,rfl⟩:=c;show SeqAt.EqAt.bool_str a b t
  |_=>show absurd (show Q'=P' from j) ek
 |int a=>
  obtain⟨t',rfl⟩:=h;cases x with
  |bQ=>cases c;show SeqAt.EqAt.int_none a t'
  |bl b=>cases c;show SeqAt.EqAt.int_bool a t' b
  |int b=>obtain⟨t,rfl⟩:=c;show SeqAt.EqAt.int_int a t' b t
  |str b=>obtain⟨t,rfl⟩:=c;show SeqAt.EqAt.int_str a t' b t
  |_=>show absurd (show Q'=P' from j) ek
 |str a=>
  obtain⟨t',rfl⟩:=h;cases x with
  |bQ=>cases c;show SeqAt.EqAt.str_none a t'
  |bl b=>cases c;show SeqAt.EqAt.str_bool a t' b
  |int b=>obtain⟨t,rfl⟩:=c;show SeqAt.EqAt.str_int a t' b t
  |str b=>obtain⟨t,rfl⟩:=c;show SeqAt.EqAt.str_str a t' b t
  |_=>show absurd (show Q'=P' from j) ek
 |_=>show absurd (show Q'=P' from o) ek
def LO(x:V)(u:Value):Bool:=match u with
 |.none=>Il .bQ x
 |.bool b=>Il (.bl b) x
 |.int i _=>Il (.int i) x
 |.str z _=>Il (.str z) x
 |_=>Q'
def z5(r:RelV y u)(f:nt y=P'):LO x u=Il y x:=by
 cases y with
 |bQ=>cases r;rfl
 |bl b=>cases r;rfl
 |int i=>obtain⟨t,rfl⟩:=r;rfl
 |str z=>obtain⟨t,rfl⟩:=r;rfl
 |_=>show absurd (show Q'=P' from f) ek
theorem z6:∀{xs:List V} {us:(TyJ)},Vals xs us->xs.all nt=P'->us.any (LO x)=xs.any λy=>Il y x
 |_,_,.nil,_=>rfl
 |y::xs,u::us,.cons r t,f=>by rw[d6,aD]at f;rw[Xx,Xx,z5 r f.1,z6 t f.2]
theorem sj(h:RelV x v)(j:nt x=P'):∀{xs:List V} {us:(TyJ)},Vals xs us->xs.all nt=P'->∀u∈us,SeqAt.EqAt A s u v (LO x u)
 |_,_,.nil,_=>λu c=>by cases c
 |y::xs,u::us,.cons r t,f=>λo c=>by rw[d6,aD]at f;rcases aE.mp c with rfl|c;rw[z5 r f.1];show PZ r h f.1 j;show sj h j t f.2 o c
def TV(x:V)(xs:List V):Bool:=xs.any λy=>Il y x
def rIn(K:V7)(c:Bool):R2:=λx y H Q=>∃p xs,y=.ref p/\(cQ K H p xs\/o8 K H p xs)/\nt x=P'/\xs.all nt=P'/\Q (.bl (if c then !TV x xs else TV x xs)) H
def yF:kB X (Ww .In) (rIn X.K Q'):=by intro pins s L H x y v u Q I B G h;obtain⟨p,xs,rfl,j,E,fs,q⟩:=h;cases G;rcases j with j|j;obtain⟨c,r,pl,J⟩:=I.list j;apply SeqAt.in_listAt (LO x) pl.isList (λw o=>sj B E r fs w (by simpa using o)) #[.bl _,H,I,S',?_];rw[show c.toArray.any (LO x)=c.any (LO x) by simp,z6 r fs];show q;obtain⟨c,r,pl,J⟩:=I.tuple j;apply SeqAt.in_tupleAt (LO x) pl (λw o=>sj B E r fs w (by simpa using o)) #[.bl _,H,I,S',?_];rw[show c.toArray.any (LO x)=c.any (LO x) by simp,z6 r fs];show q
def oE:se X (.builtin "len") (λxs H Q=>∃p j,xs=[.ref p]/\(cQ X.K H p j\/o8 X.K H p j)/\Q (.int j.length) H):=by intro pins s J H xs us Q I r h;obtain⟨p,j,rfl,o,q⟩:=h;obtain⟨u,rfl,E⟩:=vals1 r;cases E;have L:=vT;rcases o with o|o;obtain⟨y,B,pl,G⟩:=I.list o;have c:=B.length;show Calls.call_len_list pl.isList (by simp![dj]<;>lia) #[.int j.length,H,I.tok _,#[s.4+1,by rw[dj,c]],q];obtain⟨y,B,pl,G⟩:=I.tuple o;have c:=B.length;show len_tuple pl (by simp![dj]<;>lia) #[.int j.length,H,I.tok _,#[s.4+1,by rw[dj,c]],q]
def sk:se X (.type "list") (λxs H Q=>∃p j,xs=[.ref p]/\(cQ X.K H p j\/o8 X.K H p j)/\∀l,H l=O'->Q (.ref l) (upd H l (.lst j))):=by
 intro pins s Z H xs us Q I r h;obtain⟨p,j,rfl,E,q⟩:=h;obtain⟨u,rfl,T⟩:=vals1 r;cases T;have G:∀c,Vals j c->j.length<=sizeLine->∀h' y,(∀b Y,s.1.get? b=N' Y->h'.get? b=N' Y)->
   h'.get? s.1.1.size=N' {cls:=.type "list",dict:=O',data:=.seq c.toArray y,slots:= #[]}->EP X pins Z Q (.ref s.1.1.size) {s with heap:=h'}:=λc B J h' y L e=>
  #[.ref s.1.1.size,_,I.laid (t':=s.4) L (aI _) (show gz X.1 X.w _ h' _ (.lst j)from#[J,c,y,B,e]),S',q _ (I.fO.fresh (aI _))]
 rcases E with E|E;obtain⟨c,B,pl,J⟩:=I.list E;have M:=B.length;obtain⟨o,O,P,n,U⟩:=pl.isList;show call_list_seq p (.inl S') O P U (λh' y L e=>G c B J h' y L e) (by simp![dj]<;>lia);obtain⟨c,B,pl,J⟩:=I.tuple E;have M:=B.length;obtain⟨o,O,P,n,U⟩:=pl;show call_list_seq p (.inr S') O P U (λh' y L e=>G c B J h' y L e) (by simp![dj]<;>lia)
def tyV(K:V7)(T:String)(x:V)(H:Hp):Prop:=match x with
 |.str _=>T="str"
 |.int _=>T="int"
 |.ref p=>(T="list"∧∃xs,cQ K H p xs)\/(T="tuple"∧∃o,K.lookup p=N' o/\o.cls=.type "tuple"∧o.dict=O')\/
   (T="dict"∧((∃c,H p=N' (.dK c))\/∃c,H p=N' (.dT c)))\/(T="set"∧∃S n,H p=N' (.set S n))
 |_=>False
def IY(I:Inv X pins σ H s)(r:RelV x v)(q:tyV X.K T x H):s.TypeIs v T/\∀a,v=.ref a->∃E,s.1.get? a=N' E/\E.dict=none:=by
 cases x with
 |str z=>
  obtain⟨t,rfl⟩:=r;cases(show T="str" from q);show#[typeIs_str s z t,λ_ e=>nomatch e]
 |int i=>
  obtain⟨t,rfl⟩:=r;cases(show T="int" from q);show#[typeIs_int s i t,λ_ e=>nomatch e]
 |ref p=>
  cases r;rcases q with⟨rfl,xs,G⟩|⟨rfl,o,h,J,u⟩|⟨rfl,h⟩|⟨rfl,S,n,h⟩;obtain⟨L,_,pl,_⟩:=I.list G;apply#[pl.isList.typeIs,λa e=> ?_];cases e;obtain⟨o,n,e,c,u,_⟩:=pl;show#[o,e,u];apply#[#[o,I.x6 p o h,J],λa e=> ?_];cases e;show#[o,I.x6 _ o h,u];have z:∃o,s.1.get? p=N' o/\o.ExactDict:=by rcases h with⟨y,h⟩|⟨y,h⟩;obtain⟨_,_,_,_,o,_,_,e,j,_⟩:=I.fO p _ h;show#[o,e,j];obtain⟨_,_,_,_,o,_,_,e,j,_⟩:=I.fO p _ h;show#[o,e,j]
  obtain⟨o,e,j⟩:=z;apply#[#[o,e,j.1],λa B=> ?_];cases B;show#[o,e,j.2.1];obtain⟨o,_,_,_,e,j,_⟩:=I.fO p _ h;apply#[#[o,e,j.1],λa B=> ?_];cases B;show#[o,e,j.2.1]
 |_=>show V8 q
def aaQ(K:V7)(T:String)(r:V->List V->Hp->VK->Prop)(h:TE):TE:=λσ H Q=>h σ H λx c=>tyV K T x c/\r x [] c Q
def tBM(K:V7)(T:String)(r:V->List V->Hp->VK->Prop)(h:TE)(t:TA):TE:=λσ H Q=>h σ H λx c=>tyV K T x c/\t σ c λxs j=>r x xs j Q
variable {o e:Expr} {es:(k_)} {to:TE} {t:TA} {name:Str} {apos cpos:Pos} {T id:String} {r:V->List V->Hp->VK->Prop}
noncomputable def P0(J:PlainAttrs T)(q:Slot T name id)(u:typeOf (.builtin id)=pure (.type "method_descriptor"))(L:MtR X id r)(M:PE X o to)(c:WN o name X.env (Wo o X.env)=Wo o X.env:=by rfl)(j:(apos.endLine==cpos.line)=true:=by rfl):PE X (.Call (.Attribute o name apos) [] [] cpos) (aaQ X.K T r to):=by intro pins s B H Q I h;apply wpAny_Call_method0_late c j (d7 (M pins s B H _ I h) λv O y=> ?_);obtain⟨x,P,E,G,U,Y⟩:=y;obtain⟨Z,C⟩:=IY E G U;show#[T,id,J,q,u,Z,C,C7 S' (PySem.evalArgs_none (L pins O B P x [] v [] Q E G .nil Y))]
noncomputable def IZ(O:PlainAttrs T)(y:Slot T name id)(E:typeOf (.builtin id)=pure (.type "method_descriptor"))(P:MtR X id r)(U:PE X o to)(Y:PA X (e::es) t)(j:WN o name X.env (Wo o X.env)=Wo o X.env:=by rfl)
  (B:((Wz cpos (V2 (e::es) X.env)).all (λx=> !x.1)&&(XH cpos (W7 [] X.env)).all (λx=>x.1.isSome)
   &&decide ((e::es).length+([]:List Xo).length+(if([]:List Xo).isEmpty then 0 else 1)<30))=true:=by rfl)
  (q:(apos.endLine==cpos.line)=true:=by rfl)(Z:V2 (e::es) X.env=(Q',Wo e X.env)::V2 es X.env:=by rfl)(c:(Wz cpos (V2 es X.env)).any (·.1)=false:=by rfl):
  PE X (.Call (.Attribute o name apos) (e::es) [] cpos) (tBM X.K T r to t):=by
 intro pins s G H Q I h
 apply wpAny_Call_method_late j B q S' (d7 (U pins s G H _ I h) λv C u=> ?_)
 obtain⟨x,F,J,L,D,V⟩:=u
 obtain⟨R,S⟩:=IY J L D
 apply#[T,id,O,y,E,R,S,?_]
 have M:=Y cpos pins C G F _ J V
 rw[Z]at M|-
 apply C7 (by show(Q'||(Wz cpos (V2 es X.env)).any (·.1))=Q';rw[c]<;>rfl) (Y_ ?_)
 show d7 M λus A u=>by obtain⟨vs,N,W,a,b⟩:=u;show P pins A G N x vs v us Q W L a b
end
def MtM(X:Cx)(id:String)(r:V->List V->Hp->VK->Prop):Prop:=∀(pins:(List (VZ×Obj))) (s:Shared) (σ:St) (H:Hp) (x:V) (xs:List V) (v:Value) (us:(TyJ)) (Q:VK),Inv X pins σ H s->RelV x v->Vals xs us->r x xs H Q->
  V5 (V3 X.1 X.w) X.A (call (.builtin id) (v::us)) (EP X pins σ Q) X.xe s
theorem Vals.one:∀{x:V} {us:(TyJ)},Vals [x] us->∃u,us=[u]/\RelV x u
 |_,_,.cons r .nil=>#[_,S',r]
theorem Vals.rep(h:Vals xs us):∀k:Nat,Vals (VY k xs).flatten (VY k us).flatten
 |0=>.nil
 |k+1=>by rw[n_,n_,q_,q_];show Vals.append h (Vals.rep h k)
theorem foldl_rep(c):∀(k:Nat) (acc:(TyJ)),ZD (λh j=>h++j) acc.toArray (VY k c.toArray)=(acc++(VY k c).flatten).toArray
 |0,acc=>by simp
 |k+1,acc=>by
  have e:acc.toArray++c.toArray=(acc++c).toArray:=by simp
  have o:(acc++c)++(VY k c).flatten=acc++(VY (k+1) c).flatten:=by rw[n_,q_,pF]
  rw[<-o,<-foldl_rep c k (acc++c),<-e,n_,qj]
def Inv.TY{c its':(TyJ)}{n:Nat}{f:Array Value->Array Value}{t':Nat}(I:Inv X pins σ H s)(j:H l=N' (.lst xs))(e:s.1.get? l=N' {cls:=.type "list",data:=.seq c.toArray n})(o:f c.toArray=its'.toArray)(r:Vals h its')(y:h.length<=sizeLine):Inv X pins σ (upd H l (.lst h)) {s with heap:=s.1.update l (XR f),toks:=t'}:=by have q:=PySem.IsL.update e f;rw[o]at q;apply I.write (x:=l) (e:=l) (by rw[j];show trivial) (.inl S') (λG u B E=>(YR s.1 (XR f) (iq B)).trans E) #[_,q] ?_;show#[y,its',_,r,q]
def Inv.TZ(I:Inv X pins σ H s)(j:Vals h c)(o:h.length<=sizeLine):Inv X pins σ (upd H s.1.1.size (.lst h)) {s with heap:=s.1.push {cls:=.type "list",data:=.seq c.toArray},toks:=t'}:=I.laid (λ_ _ q=>aV _ q) (aI _) #[o,c,0,j,dO _ S']
def Inv.fresh(I:Inv X pins σ H s):H s.1.1.size=none:=I.fO.fresh (aI _)
def Inv.G8(I:Inv X pins σ H s)(h:H l=N' (.lst xs)):xs.length<=sizeLine/\∃c n,Vals xs c/\xs.length=c.length/\s.1.get? l=N' {cls:=.type "list",data:=.seq c.toArray n}:=by obtain⟨z,c,n,r,e⟩:=I.fO l _ h;show#[z,c,n,r,r.length,e]
def Bo(h:n<=sizeLine):WR n=false:=by unfold WR;show bp 'l'
def Mm:V->List V->Hp->VK->Prop:=λx vs H Q=>∃l xs y,x=.ref l/\vs=[y]/\H l=N' (.lst xs)/\xs.length<sizeLine/\Q .bQ (upd H l (.lst (xs++[y])))
def G9:MtM X "list.append" Mm:=by intro pins s G H x vs v us Q I o B h;obtain⟨l,xs,y,rfl,rfl,j,J,q⟩:=h;cases o;obtain⟨u,rfl,E⟩:=B.one;obtain⟨z,c,n,r,L,e⟩:=I.G8 j;apply Yc F.slot_list_append #[_,e,S'] F.entry_list_append (F.args_list_append_2 _ _) (PySem.list_append l c.toArray n u (by rw[dj];lia)) #[e,?_];apply#[.bQ,_,I.TY (its':=c++[u]) j e (by simp) (r.append (.cons E .nil)) ?_,S',q];rw[en,Y4];lia
def Mn:V->List V->Hp->VK->Prop:=λx vs H Q=>∃l b xs c,x=.ref l/\vs=[.ref b]/\H l=N' (.lst xs)/\H b=N' (.lst c)/\xs.length+c.length<=sizeLine/\Q .bQ (upd H l (.lst (xs++c)))
def G_:MtM X "list.extend" Mn:=by
 intro pins s U H x vs v us Q I B E h;obtain⟨l,b,xs,Y,rfl,rfl,y,G,Z,q⟩:=h;cases B;obtain⟨u,rfl,J⟩:=E.one;cases J;obtain⟨z,j,n,r,T,e⟩:=I.G8 y;obtain⟨C,c,L,M,O,P⟩:=I.G8 G;have hsz:j.toArray.size+c.toArray.size<=sizeLine:=by rw[dj,dj];lia
 have o:¬(!j.toArray.isEmpty&&WR (j.toArray.size+c.toArray.size))=true:=by rw[Bo hsz,Yz];show ek
 apply Yc F.slot_list_extend #[_,e,S'] F.entry_list_extend (F.args_list_extend_2 _ _)
  (AutoSeq1.list_extend_list_list_0 l j.toArray n b c.toArray L o (by rw[dj];lia) 'l') #[e,P,?_]
 apply#[.bQ,_,I.TY (its':=j++c) y e (by simp) (r.append M) ?_,S',q];rw[en];lia
def Mp:R2:=λx y H Q=>∃l b xs c,x=.ref l/\y=.ref b/\H l=N' (.lst xs)/\H b=N' (.lst c)/\xs.length+c.length<=sizeLine/\∀p,H p=O'->Q (.ref p) (upd H p (.lst (xs++c)))
def lX:kB X (WI .Add) Mp:=by
 intro pins s U H x y v u Q I o B h;obtain⟨l,b,xs,Y,rfl,rfl,E,G,Z,q⟩:=h;cases o;cases B;obtain⟨z,j,n,r,T,e⟩:=I.G8 E;obtain⟨C,c,F,J,L,M⟩:=I.G8 G;apply PySem.P.add_list e M ?_ (by rw[dj,dj];lia);have O:j.toArray++c.toArray=(j++c).toArray:=by simp
 rw[O];show#[.ref _,_,I.TZ (t':=s.4) (r.append J) (by rw[en];lia),S',q _ I.fresh]
def T1:R2:=λx y H Q=>∃l k xs,x=.ref l/\y=.int k/\H l=N' (.lst xs)∧-(2^63)<=k/\k<2^63/\xs.length*k.toNat<=sizeLine/\
 ∀p,H p=O'->Q (.ref p) (upd H p (.lst (VY k.toNat xs).flatten))
def len_rep(xs:List α)(k):(VY k xs).flatten.length=k*xs.length:=by
 induction k with
 |zero=>simp
 |succ k c=>rw[n_,q_,en,c,jd,fg]
def Dz:kB X (WI .Mult) T1:=by
 intro pins s S H x y v u Q I O P h;obtain⟨l,k,xs,rfl,rfl,Y,Z,C,M,q⟩:=h;cases O;obtain⟨t,rfl⟩:=P;obtain⟨z,c,n,r,D,e⟩:=I.G8 Y;have o:c.toArray.size*k.toNat<=sizeLine:=by rw[dj,<-D];show M
 have B:¬c.toArray.size*k.toNat>(2^63-1)/8:=by
  have:(sizeLine)<=(2^63-1)/8:=by decide
  lia
 have E:¬(!Builtin.List.listFitsIndex k)=true:=by rw[fitsIndex_both Z C];show ek
 have j:¬WR (c.toArray.size*k.toNat)=true:=by rw[Bo o];show ek
 have G:ZD (λJ L=>J++L) #[] (VY (if c.toArray.isEmpty=P' then 0 else k.toNat) c.toArray)=(VY k.toNat c).flatten.toArray:=by
  have V:∀m:Nat,ZD (λJ L=>J++L) #[] (VY m c.toArray)=(VY m c).flatten.toArray:=λm=>by have:=foldl_rep c m [];rw[mB]at this;show this
  rw[V];cases c with
  |nil=>simp
  |cons a A=>rw[ab (by simp)]
 apply wpAny_binaryOp_repeat_ref (T:="list") (U:="int") () #[_,e,S'] (λR=>typeIs_int R k t) noFill_list_mul F.fills_int_mul F.slot_int_rmul repeat_list F.slot_int_index.lookup
  (Yc F.slot_int_rmul (typeIs_int s k t) F.entry_int_rmul (F.args_int_rmul_2 _ _) (int___rmul___int_list k t l c.toArray n)
   #[e,S',#[_,e,S'],Yc F.slot_list_mul #[_,e,S'] F.entry_list_mul (F.args_list_mul_2 _ _) (AutoListH.list___mul___list_int_3 l c.toArray n k t E B j) #[e,?_]])
 rw[G];show#[.ref _,_,I.TZ (t':=s.4) (r.rep k.toNat) (by rw[len_rep,cz];show M),S',q _ I.fresh]
theorem Vals.ints:∀{ns:List Int} {us:(TyJ)},Vals (ns.map V.int) us->IntsAre us ns
 |[],us,h=>by rw[qm]at h;cases h;show IntsAre.nil
 |n::ns,us,h=>by
  rw[bf]at h;cases h with
  |cons r t=>
   obtain⟨k,rfl⟩:=r;show IntsAre.cons n k (Vals.ints t)
def Vals.T2(r:Vals [V.ref a] us):us=[Wc a]:=by
 cases r with
 |cons r t=>
  cases t;cases r;rfl
def Mq(u:A.handled=O')(j:s.1.IsList l c.toArray)(q:IntsAre c ns)(h:∀h' tk t',(∀b o,s.1.get? b=N' o->h'.get? b=N' o)->Q (.int ns.sum t') {s with heap:=h',toks:=tk}):V5 (V3 prog w) A (call (.builtin "sum") [.ref l]) Q E s:=by
 obtain⟨xs,e⟩:=q.allInts.items;have r:numsOf (intItems xs).toList=ns:=by rw[<-e];show q.numsOf
 rw[nums_intItems]at r;rw[e]at j;apply PySem.sum_intListG u j λh' tk t' y=> ?_;have:=h h' tk t' y;rw[preSum_eq,vG (by simp),r];show this
def Mr(B:A.handled=O')(r:s.1.IsList l c.toArray)(u:IntsAre c ns)(q:0<ns.length)(h:∀h' tk M t',(∀b o,s.1.get? b=N' o->h'.get? b=N' o)->M∈ns->(∀a,a∈ns->M<=a)->Q (.int M t') {s with heap:=h',toks:=tk}):V5 (V3 prog w) A (call (.builtin "min") [.ref l]) Q E s:=by
 obtain⟨xs,e⟩:=u.allInts.items;have y:numsOf (intItems xs).toList=ns:=by rw[<-e];show u.numsOf
 rw[nums_intItems]at y;subst y;rw[e]at r;have hsz:0<xs.size:=by simpa using q
 apply PySem.min_intList B r hsz λv h' tk G H=> ?_;obtain⟨t,rfl⟩:=intItems_at G;obtain⟨P,J⟩:=argBest_lt (numAt xs) (xs.size-1);apply h h' tk _ t H ?_ λa L=> ?_;rw[numAt_eq];show PySem.getD_mem (by rw[aB,tJ];lia);obtain⟨j,O,rfl⟩:=mem_getD L;rw[aB,tJ]at O;rw[<-numAt_eq];show J j 'l'
def aaR(K:V7):List V->Hp->VK->Prop:=λvs H Q=>∃(a:VZ) (ns:List Int),vs=[V.ref a]/\cQ K H a (ns.map V.int)/\Q (.int ns.sum) H
def aaS(K:V7):List V->Hp->VK->Prop:=λvs H Q=>∃(a:VZ) (ns:List Int),vs=[V.ref a]/\cQ K H a (ns.map V.int)/\0<ns.length/\∀m,m∈ns->(∀y,y∈ns->m<=y)->Q (.int m) H
def P1(c:X.calm=P'):se X (.builtin "sum") (aaR X.K):=by intro pins s E H vs us Q I r h;obtain⟨a,ns,rfl,j,q⟩:=h;obtain⟨o,u,y,_⟩:=I.list j;rw[Vals.T2 r];show Mq (I.ok.hd c) y.isList u.ints λh' tk t' B=>#[.int _,H,I.kept B,#[_,S'],q]
def P2(j:X.calm=P'):se X (.builtin "min") (aaS X.K):=by intro pins s L H vs us Q I r h;obtain⟨a,ns,rfl,o,c,q⟩:=h;obtain⟨u,y,B,_⟩:=I.list o;rw[Vals.T2 r];show Mr (I.ok.hd j) B.isList y.ints c λh' tk m t' E G J=>#[.int _,H,I.kept E,#[_,S'],q m G J]
def P4(K:V7):V->List V->Hp->VK->Prop:=λx xs H Q=>∃(a:VZ) (c:List V) (y:V) (j:Nat) (z:V),x=V.ref a/\xs=[y]/\cQ K H a c/\nt y=P'/\c.all nt=P'/\c[j]?=N' z/\Il z y=P'/\
 (∀(m:Nat) (h:V),m<j->c[m]?=N' h->Il h y=Q')/\Q (.int (j:Nat)) H
def EH{c:List V}(f:c.all nt=P'){j:Nat}{z:V}(h:c[j]?=N' z):nt z=true:=cC.mp f z (ka h)
universe b
def I0:MtR X "list.index" (P4 X.K):=by
 intro pins s σ H x xs v us Q I b E h;obtain⟨a,G,y,j,z,rfl,rfl,d,e,o,V,J,L,q⟩:=h;cases b;cases E with
 |cons f g=>
  rename_i i ut;cases g;obtain⟨c,B,⟨⟨k,l,R,p⟩,n,S,A,t,N⟩,W⟩:=I.list d;simp only at A N;subst A N;obtain⟨u,w,ru⟩:=B.get V;obtain⟨M,O⟩:=ni.mp w;have za:=B.length;have hj:j<c.toArray.size:=by simpa using M
  have zb:=mJ;apply Yc Yv #[_,S,S'] PySem.F.entry_list_index (PySem.F.args_list_index_2 _ _)
   (SeqAt.list_indexAt a c.toArray n l p i (LO y) j hj 'l' ?_ ?_) #[S,λu' P=>sj f e B o u' (by simpa using P),?_]
  have U:c.toArray[j]=u:=by simpa using O
  rw[U,z5 ru (EH o V)];show J;intro m hm Y;have zc:m<c.length:=by simpa using hm
  have Z:m<G.length:=by lia
  have r:G[m]?=N' G[m]:=lh Z;obtain⟨u2,T,C⟩:=B.get r;obtain⟨_,D⟩:=ni.mp T;have U:c.toArray[m]=u2:=by simpa using D
  rw[U,z5 C (EH o r)];show L m _ Y r;show#[.int (j),H,I.tok _,#[_,S'],q]
mutual
inductive Dp(K:V7)(H:Hp):V->Y1->Prop
 |bQ:Dp K H .bQ .none
 |bl (b:Bool):Dp K H (.bl b) (.bool b)
 |int (i:Int):Dp K H (.int i) (.int i)
 |str (x:Str):Dp K H (.str x) (.str x)
 |lst {a:VZ} {xs:List V} {ds:List Y1}:cQ K H a xs->vZ K H xs ds->Dp K H (.ref a) (.list ds)
 |tup {a:VZ} {xs:List V} {ds:List Y1}:o8 K H a xs->vZ K H xs ds->Dp K H (.ref a) (.tuple ds)
inductive vZ(K:V7)(H:Hp):List V->List Y1->Prop
 |nil:vZ K H [] []
 |cons {v:V} {vs:List V} {d:Y1} {ds:List Y1}:Dp K H v d->vZ K H vs ds->vZ K H (v::vs) (d::ds)
end
mutual
theorem Dp.reads(I:Inv X pins σ H s):∀(d:Y1) (v) (u),Dp X.K H v d->RelV v u->∃as,Reads s.1 u d as
 |.none,_,_,h,r=>by cases h;cases r;show#[_,Reads.none]
 |.bool b,_,_,h,r=>by cases h;cases r;show#[_,Reads.bool b]
 |.int i,_,_,h,r=>by cases h;obtain⟨t,rfl⟩:=r;show#[_,Reads.int i t]
 |.str x,_,_,h,r=>by cases h;obtain⟨t,rfl⟩:=r;show#[_,Reads.str x t]
 |.list ds,_,_,h,r=>by
  cases h with
  |lst j q=>
   cases r;obtain⟨c,y,⟨o,n,B,E,_,G⟩,_⟩:=I.list j;obtain⟨as,J⟩:=Dp.readsAll I ds _ c q y;show#[_,Reads.list B E G J]
 |.tuple ds,_,_,h,r=>by
  cases h with
  |tup j q=>
   cases r;obtain⟨c,y,⟨o,B,E,n,G⟩,_⟩:=I.tuple j;obtain⟨as,J⟩:=Dp.readsAll I ds _ c q y;show#[_,Reads.tuple B E G J]
 |.dict _,_,_,h,_=>by cases h
theorem Dp.readsAll(I:Inv X pins σ H s):∀c vs us,vZ X.K H vs c->Vals vs us->∃as,ReadsAll s.1 us c as
 |[],_,_,h,r=>by cases h;cases r;show#[_,ReadsAll.nil]
 |d::c,_,_,h,r=>by
  cases h with
  |cons j o=>
   cases r with
   |cons q u=>
    obtain⟨as,y⟩:=Dp.reads I d _ _ j q;obtain⟨bs,B⟩:=Dp.readsAll I c _ _ o u;show#[_,ReadsAll.cons y B]
end
def aaT(K:V7):R2:=λx y H Q=>∃d e,Dp K H x d/\Dp K H y e/\SeqAt.shaped d=P'/\SeqAt.shaped e=P'/\Q (.bl (PyData.eqv d e)) H
universe a
def P5(c:X.A.units+64<cLine):kB X (Ww .Eq) (aaT X.K):=by intro pins s L H x y v u Q I j o h;obtain⟨d,e,r,he,B,E,q⟩:=h;obtain⟨as,G⟩:=Dp.reads I d x v r j;obtain⟨bs,J⟩:=Dp.reads I e y u he o;show SeqAt.compareEq_shaped G J B E c #[.bl _,H,I,S',q]
abbrev DA(h:Heap)(c:VZ)(v:(o6)):Prop:=h.IsCell c v
noncomputable def aaU(scope c:Scope):Scope:={scope with names:=scope.2.map λ(n,k)=>if(k==.free&&c.kind==.function&&c.names.lookup n==N' .cell)then(n,.cell)else(n,k)}
noncomputable def aX(cells:(List (Str×VZ))):List (Str×Wu)->(List (Str×VZ))->(List (Str×VZ))
 |[],acc=>acc
 |(n,k)::r,acc=>if k==.free then aX cells r ((n,(cells.lookup n).getD 0)::acc)else aX cells r acc
theorem so(env)(f:Str×Wu->(List (Str×VZ))->Sem (ForInStep ((List (Str×VZ)))))(o:∀n k c,f (n,k) c=if k==.free then(do let a<-cellOf env n;pure (.yield ((n,a)::c)))else pure (.yield c)):
  ∀names acc,(∀y∈names,y.2=.free->∃c,env.4.lookup y.1=N' c)->forIn names acc f=pure (aX env.4 names acc)
 |[],acc,_=>by rw[rV];rfl
 |(n,k)::r,acc,h=>by
  rw[vg,o];have q:=λacc=>so env f o r acc λy u=>h y (dN _ u);unfold aX;by_cases j:(k==Wr)=P';rw[ae j,ae j];obtain⟨c,s⟩:=h (n,k) jx (by simpa using j);have e:cellOf env n=pure c:=by unfold cellOf;rw[s]
  rw[e];have B:(env.4.lookup n).getD 0=c:=by rw[s];rfl
  rw[B];show q _;rw[ab j,ab j];show q _
def lY(h:∀y∈scope.2,y.2=.free->∃c,env.4.lookup y.1=N' c):closureFor scope env=pure (aX env.4 scope.2 []):=by simp![closureFor];rw[so env _ (λn k c=>rfl) scope.2 [] h];rfl
theorem mem_lookup:∀{l:List (Str×α)} {n:Str} {c:α},(n,c)∈l->∃j,l.lookup n=N' j
 |(k,v)::r,n,c,h=>by
  rw[ij];cases o:n==k with
  |true=>show#[_,S']
  |false=>
   rcases aE.mp h with e|h;cases e;simp at o;show mem_lookup h
universe b
theorem fj:∀{names:List (Str×Wu)} {acc:(List (Str×VZ))} {n:Str} {c:VZ},(n,c)∈aX cells names acc->(n,c)∈acc\/((n,.free)∈names/\c=(cells.lookup n).getD 0)
 |[],_,_,_,h=>.inl h
 |(m,k)::r,acc,n,c,h=>by
  unfold aX at h;split at h;rename_i j;have j:k=.free:=by simpa using j
  rcases fj h with h|⟨o,q⟩;rcases aE.mp h with e|h;cases e;show .inr #[j▸jx,S'];show .inl h;show .inr #[dN _ o,q];rcases fj h with h|⟨o,q⟩;show .inl h;show .inr #[dN _ o,q]
universe a
theorem pK:∀{names:List (Str×Wu)} {acc:(List (Str×VZ))} {p:Str×VZ},p∈acc->p∈aX cells names acc
 |[],_,_,h=>h
 |(m,k)::r,acc,p,h=>by unfold aX;split;show pK (dN _ h);show pK h
theorem pL:∀{names:List (Str×Wu)} {acc:(List (Str×VZ))} {n:Str},(n,.free)∈names->(n,(cells.lookup n).getD 0)∈aX cells names acc
 |(m,k)::r,acc,n,h=>by unfold aX;rcases aE.mp h with e|h;cases e;show pK jx;split;show pL h;show pL h
universe b
theorem lL:∀{names:List (Str×Wu)} {h:Heap} {acc:(List (Str×VZ))} {x:Str} {c:VZ},(x,c)∈V_ h.objs.size names acc->(x,c)∈acc\/((x,.cell)∈names/\h.objs.size<=c/\DA (WQ h names) c O')
 |[],_,_,_,_,h=>.inl h
 |(n,k)::r,h,acc,x,c,j=>by
  unfold V_ at j;unfold WQ;split at j;rename_i o;rw[ae o];have o:k=.cell:=by simpa using o
  rw[<-c9 h {cls:=.type "cell",data:=.cell O'}]at j;rcases lL j with j|⟨s,q,u⟩;rcases aE.mp j with e|j;cases e;show .inr #[o▸jx,aI _,_,qk r _ _ _ (dO _ S'),S'];show .inl j;rw[c9]at q;show .inr #[dN _ s,tP q,u];rename_i o;rw[ab o];rcases lL j with j|⟨s,q,u⟩;show .inl j;show .inr #[dN _ s,q,u]
universe a
theorem nu:∀{names:List (Str×Wu)} {n:Nat} {acc:(List (Str×VZ))} {p:Str×VZ},p∈acc->p∈V_ n names acc
 |[],_,_,_,h=>h
 |(m,k)::r,n,acc,p,h=>by unfold V_;split;show nu (dN _ h);show nu h
theorem qu:∀{names:List (Str×Wu)} {n:Nat} {acc:(List (Str×VZ))} {x:Str},(x,.cell)∈names->∃c,(x,c)∈V_ n names acc
 |(m,k)::r,n,acc,x,h=>by unfold V_;rcases aE.mp h with e|h;cases e;show#[n,nu jx];split;show qu h;show qu h
universe b
theorem qw:∀{names:List (Str×Wu)} {h:Heap} {acc:(List (Str×VZ))} {x y:Str} {c:VZ},(∀p∈acc,p.2<h.objs.size)->(∀x y c,(x,c)∈acc->(y,c)∈acc->x=y)->(x,c)∈V_ h.objs.size names acc->(y,c)∈V_ h.objs.size names acc->x=y
 |[],_,_,_,_,_,_,hi,o,j=>hi _ _ _ o j
 |(n,k)::r,h,acc,x,y,c,q,hi,o,j=>by unfold V_ at o j;split at o;rename_i s;rw[ae s]at j;rw[<-c9 h {cls:=.type "cell",data:=.cell O'}]at o j;apply qw (h:=h.push _) (λp u=> ?_) (λx y c a b=> ?_) o j;rw[c9];rcases aE.mp u with rfl|u;show Yg _;show zQ (q p u);rcases aE.mp a with e|a<;>rcases aE.mp b with e'|b;cases e;cases e';rfl;cases e;show absurd (q _ b) (lE _);cases e';show absurd (q _ a) (lE _);show hi _ _ _ a b;rename_i s;rw[ab s]at j;show qw q hi o j
universe a
def Bp{M:Model}{A:WK}{E:(Value->Shared->Prop)}{s:Shared}{scope:Scope}{q:VZ}{j:(List (Str×VZ))}{qual:Str}{u:Option VZ}{y:Value}{r:Env}{o:VZ}{Q:Env->Shared->Prop}(h:Q (newEnv scope s.1.1.size q (V_ (s.1.1.size+1) scope.2 j) qual u y (N' r) o) {s with heap:=WQ (s.1.push {cls:=.type "dict",data:=.dict #[]}) scope.2}):V5 M A (XD scope q j [] qual u y (N' r) o) Q E s:=by simp![XD,zP,dC];apply ai (wpAny_alloc ?_);apply ai (wpAny_layCells _ (λn k c=>rfl) scope.2 j _ _ ?_);rw[show({s with heap:=s.1.push {cls:=.type "dict",data:=.dict #[]}}:Shared).1.1.size=s.1.1.size+1 from c9 ..];rw[rV];show ai (aP (aP h))
theorem pM{c:Scope}:∀{names:List (Str×Wu)} {x:Str} {k:Wu},(names.map λ(n,k)=>if(k==Wr&&c.kind==.function&&c.names.lookup n==N' .cell)then(n,W_)else(n,k)).lookup x=N' k->∃q,names.lookup x=N' q/\(k=q\/(q=.free/\k=.cell))
 |[],_,_,h=>by simp at h
 |(n,k₀)::r,x,k,h=>by
  have s:=@pM c r x k;have h':WS x ((if(k₀==Wr&&c.kind==.function&&c.names.lookup n==N' .cell)=P' then(n,W_)else(n,k₀))::(r.map _))=N' k:=h;cases o:x==n with
  |true=>
   simp![ij,o];by_cases j:(k₀==Wr&&c.kind==.function&&c.names.lookup n==N' .cell)=P';rw[ae j]at h';simp![ij,o]at h';cases h';simp![aD,beq_iff_eq]at j;show#[k₀,S',.inr #[j.1.1,S']];rw[ab j]at h';simp![ij,o]at h';cases h';show#[_,S',.inl S']
  |false=>
   simp![ij,o];by_cases j:(k₀==Wr&&c.kind==.function&&c.names.lookup n==N' .cell)=P';rw[ae j]at h';simp![ij,o]at h';show s h';rw[ab j]at h';simp![ij,o]at h';show s h'
structure qL(N:(iG))(sc scope:Scope)(own:List (Str×Nat)):Prop where
 kind:scope.kind=.function
 uniq:∀y∈scope.2,scope.2.lookup y.1=N' y.2
 ix:∀p∈own,N[p.2]?=N' p.1
 free:∀y∈scope.2,y.2=.free->sc.names.lookup y.1=N' .cell\/sc.names.lookup y.1=N' .free
 own:∀y∈scope.2,y.2=.local\/y.2=.cell->y.1∈own.map (·.1)\/y.1∉N
noncomputable def wipe(c:St):(d_)->St
 |[]=>c
 |v::vs=>(wipe c vs).set v O'
theorem gh(σ):∀vs:(d_),(wipe σ vs).length=σ.length
 |[]=>rfl
 |v::vs=>by unfold wipe;rw[mz,gh σ vs]
theorem tX:∀{vs:(d_)},(wipe σ vs)[i]?=N' (N' x)->σ[i]?=N' (N' x)/\i∉vs
 |[],h=>#[h,by simp]
 |v::vs,h=>by unfold wipe at h;by_cases c:v=i;subst c;by_cases j:v<(wipe σ vs).length;rw[nZ j]at h;cases h;rw[ej (by simpa using j)]at h;cases h;rw[lV c]at h;obtain⟨o,q⟩:=tX h;show#[o,by simp![aE,not_or];show#[λe=>c e.symm,q]]
noncomputable abbrev Cx.ll(X:Cx)(s:Shared)(H:Hp)(scope:Scope)(c:Env)(h:(mw)):Cx:={X with zV:=s,SQ:=H,env:=c,outer:=X.stack,ex:=h,fn:=λx=>scope.2.lookup x==N' .cell,pn:=[],xe:=λ_ _=>False}
def Bq(I:Inv X pins σ H s)(ok:qL X.N X.env.1 scope own)(hN:X.N.Nodup)(B:∀b∈fp,uU X pins H b/\b<s.1.1.size):Inv (X.ll s H scope (We scope (V_ (s.1.1.size+1) scope.2 (aX X.env.4 scope.2 [])) s.1.1.size X.env) fp) [] (wipe σ (own.map (·.2))) H {s with heap:=WQ (s.1.push {cls:=.type "dict",data:=.dict #[]}) scope.2}:=by
 have T:∀y∈scope.2,y.2=.free->∃c,X.env.4.lookup y.1=N' c:=λy L e=>by rcases ok.free y L e with k|k;show I.ok.has _ (.inl k);show I.ok.has _ (.inr k)
 generalize h:We scope (V_ (s.1.1.size+1) scope.2 (aX X.env.4 scope.2 [])) s.1.1.size X.env=cenv;have W:∀b o,s.1.get? b=N' o->(WQ (s.1.push {cls:=.type "dict",data:=.dict #[]}) scope.2).get? b=N' o:=λb o e=>qk _ _ _ _ (aV _ e);have d:cenv.locals=s.1.1.size:=by rw[<-h];rfl
 have u:cenv.cells=V_ (s.1.1.size+1) scope.2 (aX X.env.4 scope.2 []):=by rw[<-h];rfl
 have C:cenv.scope=aaU scope X.env.1:=by rw[<-h];rfl
 rw[<-c9 s.1 {cls:=.type "dict",data:=.dict #[]}]at u;have S:∀{y c},(y,c)∈aX X.env.4 scope.2 []->X.env.4.lookup y=N' c/\c<s.1.1.size:=λ{y c} E=>by rcases fj E with E|⟨j,rfl⟩;cases E;obtain⟨c,x⟩:=T _ j S';rw[x];obtain⟨w,z⟩:=I.cell _ _ x;show#[S',z.lt]
 have F:∀{y c},cenv.cells.lookup y=N' c->(X.env.4.lookup y=N' c/\c<s.1.1.size)\/(s.1.1.size+1<=c/\DA (WQ (s.1.push {cls:=.type "dict",data:=.dict #[]}) scope.2) c O'):=λ{y c} e=>by rw[u]at e;rcases lL (eR e)with E|⟨_,M,h3⟩;show .inl (S E);rw[c9]at M;show .inr #[M,h3]
 have P:∀{y},scope.2.lookup y=N' .free->∃c,cenv.cells.lookup y=N' c/\X.env.4.lookup y=N' c:=λ{y} f=>by have L:(y,Wr)∈scope.2:=eR f;obtain⟨g,e'⟩:=mem_lookup (nu (names:=scope.2) (n:=(s.1.push {cls:=.type "dict",data:=.dict #[]}).objs.size) (pL (cells:=X.env.4) (acc:=[]) L));rw[<-u]at e';apply#[g,e',?_];rw[u]at e';rcases lL (eR e')with E|⟨j,_,_⟩;show(S E).1;have:=ok.uniq _ j;rw[f]at this;cases this
 have l:(X.ll s H scope cenv fp).Ok:=by
  apply#[I.ok.mod,by show cenv.scope.kind=_;rw[C];show ok.kind,by show cenv.globals=_;rw[<-h];show I.ok.glob,by show cenv.builtins=_;rw[<-h];show I.ok.blt,by show s.1.1.size<=cenv.locals;rw[d];show aI _,
   λy z c Q U=> ?_,λy L=> ?_,λy c z e=> ?_,I.ok.hd,I.ok.frames,.inl S',λb Y=>#[?_,λy c e z=> ?_],I.bs,c_ I.ok.Iw I.sz,λb o e Y=> ?_,λb Y z=> ?_,I.stack,I.Er]
  have Q:cenv.cells.lookup y=N' c:=Q;have U:cenv.cells.lookup z=N' c:=U;rw[u]at Q U;apply qw (λp R=> ?_) (λy z c a b=>I.ok.inj y z c (S a).1 (S b).1) (eR Q) (eR U);rw[c9];show zQ (S (y:=p.1) (c:=p.2) R).2;show ∃c,cenv.cells.lookup y=N' c;have G:∀k,cenv.kindOf y=N' k->(k=.cell\/k=.free)->∃c,cenv.cells.lookup y=N' c:=λk D V=>by
   unfold F' at D;rw[C]at D;obtain⟨Z,e,r⟩:=pM D;have:Z=.cell\/Z=.free:=by rcases r with rfl|⟨rfl,_⟩;show V;show .inr S'
   rcases this with rfl|rfl;obtain⟨c,E⟩:=qu (n:=(s.1.push {cls:=.type "dict",data:=.dict #[]}).objs.size) (acc:=aX X.env.4 scope.2 []) (eR e);obtain⟨g,e'⟩:=mem_lookup E;show#[g,by rw[u];show e'];obtain⟨c,j,_⟩:=P e;show#[c,j]
  rcases L with L|L;show G _ L (.inl S');show G _ L (.inr S');have z:(scope.2.lookup y==N' W_)=true:=z;have z:scope.2.lookup y=N' .cell:=by simpa using z
  have e:cenv.cells.lookup y=N' c:=e;rw[u]at e;rcases lL (eR e)with E|⟨_,M,_⟩;rcases fj E with E|⟨j,_⟩;cases E;have q:=ok.uniq _ j;rw[z]at q;cases q;rw[c9]at M;show tP M;show b≠cenv.locals;rw[d];show cH (B b Y).2;have e:cenv.cells.lookup y=N' c:=e;rcases F e with⟨j,_⟩|⟨j,_⟩;show(B b Y).1.2.2.2.2.1 y c j z;have M:s.1.1.size+1<=b:=by rw[<-z];show j
  show absurd (aW (B b Y).2 (tP M)) (lE _);rcases(B b Y).1.2.2.2.1 with z|z;show I.ok.GX b o e z;show absurd (aW (aR e) (c_ I.ok.Iw z)) (lE _);rcases aE.mp (I.Dj b z)with z|z;show(B b Y).1.2.1 z;show(B b Y).1.2.2.1 z
 apply#[l,S',I.bare,Un.kept W,#[λ_=>O',?_,λi y av Q U J=> ?_],λy c e=> ?_,?_,λy c e=> ?_,λp R=> ?_,I.fO.kept W,by rw[gh];show I.len];show Heap.Ns _ cenv.locals _;rw[d];show Heap.Ns.keeps (Heap.Ns.new ..) λb o e=>qk _ _ _ _ e;obtain⟨U,t⟩:=tX U;have O:scope.2.lookup y=N' .free/\(cenv.kindOf y=N' .cell\/cenv.kindOf y=N' .free):=by
  have G:∀k,cenv.scope.2.lookup y=N' k->k=.local\/k=.cell\/k=.free->scope.2.lookup y=N' .free/\(cenv.kindOf y=N' .cell\/cenv.kindOf y=N' .free):=λk D V=>by
   have A:=D;rw[C]at D;obtain⟨Z,e,r⟩:=pM D;have no:¬(Z=.local\/Z=.cell):=λhh=>by rcases ok.own _ (eR e) hh with e'|e';obtain⟨p,R,v⟩:=gm.mp e';have J:=ok.ix p R;have:p.1=y:=v;rw[this]at J;show t (gm.mpr #[p,R,vN hN J Q]);show e' (ka Q)
   rcases r with rfl|⟨rfl,rfl⟩;rcases V with rfl|rfl|rfl;show absurd (.inl S') no;show absurd (.inr S') no;show#[e,.inr A];show#[e,.inl A]
  have J:Bd cenv.scope y:=J;rcases J with J|J|J;show G _ J (.inl S');show G _ J (.inr (.inl S'));show G _ J (.inr (.inr S'))
 obtain⟨m,hn,f⟩:=I.loc;have K:Bd X.env.1 y:=(ok.free _ (eR O.1) S').elim (λk=>.inr (.inl k)) (λk=>.inr (.inr k));obtain⟨w,r,q⟩:=f i y av Q U K;apply#[w,r,.inr #[O.2,?_]];obtain⟨c,j,M⟩:=P O.1;rcases q with⟨k,_⟩|⟨_,g,e',z⟩;have k:X.env.1.2.lookup y=N' .local:=k;rcases ok.free _ (eR O.1) S' with Z|Z<;>rw[show X.env.1.2.lookup y=_ from Z]at k<;>cases k;rw[M]at e';cases e';show#[c,j,z.keeps W];have e:cenv.cells.lookup y=N' c:=e;rcases F e with⟨j,_⟩|⟨_,z⟩;obtain⟨w,z⟩:=I.cell y c j;show#[w,z.keeps W];show#[_,z];show H cenv.locals=O';rw[d];show I.fO.fresh (aI _);have e:cenv.cells.lookup y=N' c:=e;rcases F e with⟨j,_⟩|⟨j,_⟩;show I.nk y c j;show .inl (I.fO.fresh (tP j));show absurd (show p∈([]:(List (VZ×Obj)))++[]from R) (by simp)
def P6(I:Inv X pins σ H s)(o:H D=N' (.lst xs))(J:xs.length<sizeLine)(r:RelV y v)(h:∀B,Inv X pins σ (upd H D (.lst (xs++[y]))) B->Q .none B):V5 (V3 X.1 X.w) X.A (call (.builtin "list.append") [.ref D,v]) Q E s:=by obtain⟨L,j,n,G,e⟩:=I.fO D _ o;have P:=G.length;apply append_at (hsz:=by rw[dj];lia) e λh' M c=> ?_;apply h {s with heap:=h'} (I.write (t':=s.4) (by rw[o];trivial) (.inl S') (λb u O q=>(M.2 b O).trans q) #[_,c] #[by rw[en];show J,j++[v],n+1,G.append (.cons r .nil),?_]);rw[c];simp
def T3(X:Cx)(h:(k_))(t:TT):Prop:=∀(pins:(List (VZ×Obj))) (s:Shared) (σ:St) (H:Hp) (Q:Bool->Hp->Prop),Inv X pins σ H s->t σ H Q->
  V5 (V3 X.1 X.w) X.A (forIn h P' λc r=>if r=P' then do let ok<-isTrue c X.env (Wo c X.env);pure (Xq ok)else pure (Xq r)) (TP X pins σ Q) X.xe s
def T4:TT:=λ_ H Q=>Q P' H
def EI:T3 X [] T4:=λ_ _ _ H _ I h=>wpAny_tests_nil #[H,I,h]
def EJ(h:PT X c t):T3 X [c] t:=λpins s σ H Q I j=>wpAny_tests_one (h pins s σ H Q I j)
def Ha(h:V5 M A t Q (λ_ _=>False) s)(c:∀a s,Q a s->j a s):V5 M A t j E s:=eM h c λ_ _ z=>V8 z
universe b
theorem z8(I:Nat->Shared->Prop)(L:∀n s,I n s->V5 (V3 prog w) A (YT it) (λr j=>match r with
   |none=>R (.ok .next) j
   |some v=>V5 (V3 prog w) A (Xp target it v) (λ_ o=>V5 (V3 prog w) A (XI target env v) (λ_ y=>
     V5 (V3 prog w) A (forIn ifs P' λc r=>if r=P' then do let ok<-isTrue c env (Wo c env);pure (Xq ok)else pure (Xq r)) (λok q=>
      if ok=P' then V5 (V3 prog w) A (Wo elt env) (λx B=>
       V5 (V3 prog w) A (call (.builtin "list.append") [acc,x]) (λ_ E=>∃m,m<n/\I m E) (YQ (V3 prog w) A env λe u=>R (.error e) u) B) (YQ (V3 prog w) A env λe u=>R (.error e) u) q
      else ∃m,m<n/\I m q) (YQ (V3 prog w) A env λe u=>R (.error e) u) y) (YQ (V3 prog w) A env λe u=>R (.error e) u) o) (YQ (V3 prog w) A env λe u=>R (.error e) u) j) (YQ (V3 prog w) A env λe u=>R (.error e) u) s)
  (n)(h:I n s):
  WW (V3 prog w) A (.compLoop (.ListComp elt [#[target,iter,ifs,0]] scope pos) 0 it acc env) R s:=by
 apply codeAny_loop S' I (λn s Q=> ?_) n h
 apply wpAny_noted ?_
 rw[compTurn_list]
 apply ai (Zi (ai (eM (L n s Q) (λr j G=> ?_) λ_ _ h'=>h')))
 cases r with
 |none=>show aP G
 |some v=>
  apply ai (eM G (λ_ o J=> ?_) λ_ _ h'=>h')
  apply ai (eM J (λ_ y M=>ai (eM M (λok q H=> ?_) λ_ _ h'=>h')) λ_ _ h'=>h')
  cases ok with
  |false=>show aP #[S',H]
  |true=>
   show ai (ai (eM H (λx B O=>ai (eM O (λ_ E P=>aP (aP #[S',P])) λ_ _ h'=>h')) λ_ _ h'=>h'))
def P7(s:TI)(g:TG)(u:TT)(B:TE)(vs:(d_)):TE:=λσ H Q=>s σ H λJ j=>∀D,j D=O'->∃W:Nat->Nat->Hp->Prop,(∃m,W 0 m (upd j D (.lst [])))/\∀i m H,W i m H->
 (J.stop i H/\Q (.ref D) H)\/(J.go i H/\∃h:Hp->Prop,(∀c,h c->∃o,o<m/\W (i+1) o c)/\∀x c,J.ID i H x c->g x (wipe σ vs) c λσ2 E=>wipe σ2 vs=wipe σ vs/\u σ2 E λb q=>
  if b=P' then B σ2 q λy r=>∃acc,r D=N' (.lst acc)/\acc.length<sizeLine/\h (upd r D (.lst (acc++[y])))else h q)
def EK{pins:(List (VZ×Obj))}{s:Shared}{Y:St}{H:Hp}{Q:VK}{Z tg M:Expr}{F:(k_)}{scope:Scope}{P:List (Str×Nat)}{pos za:Pos}{wi:TI}{g:TG}{tt:TT}{te:TE}{use:Option (Value->Sem Unit)}{Qf:(Value->Shared->Prop)}(hc:X.calm=P')(hN:X.N.Nodup)(I:Inv X pins Y H s)(hi:PI X tg M wi)(ok:qL X.N X.env.1 scope P)(hg:∀(s:Shared) (H:Hp) (C:VZ) (cl:(List (Str×VZ))) (B:(mw)),PG (X.ll s H scope (We scope cl C X.env) B) tg g)(ht:∀s H C cl B,T3 (X.ll s H scope (We scope cl C X.env) B) F tt)(he:∀s H C cl B,PE (X.ll s H scope (We scope cl C X.env) B) Z te)(hs:∀x,Wi M X.env x=pure x)(h:P7 wi g tt te (P.map (·.2)) Y H Q)(hRR:∀D C O m G,Inv X pins Y G O->Q (.ref D) G->O.1.Ns C m->uU X pins G C->compPost (V3 X.1 X.w) X.A X.xe use Qf (.ref D) C (.ok .next) O):V5 (V3 X.1 X.w) X.A (comprehension (.ListComp Z [#[tg,M,F,0]] scope pos) scope X.env za (newList []) Q' (Wo M X.env) use) Qf X.xe s:=by
 have K:∀y∈scope.2,y.2=.free->∃c,X.env.4.lookup y.1=N' c:=λy hy e=>by
  rcases ok.free y hy e with k|k
  ·show I.ok.has _ (.inl k)
  ·show I.ok.has _ (.inr k)
 apply wpAny_comprehension_free (use:=use) S' hs (lY K) ok.kind (λy hy e=>by rw[ok.uniq y hy,e])
  (d7 (hi pins s Y H _ I h) λxv s1 hx=>d7 hx λyb l h2=> ?_)
 obtain⟨it,B,tn,J,V,e,I2,T,zb,f2,q⟩:=h2;subst e;apply wpAny_newObj_type (Bp ?_) (by show 0<=sizeLine;decide);generalize hD:l.1.1.size=D;have zk:V D=none:=I2.fO.fresh (ot hD);obtain⟨W,⟨m0,w0⟩,zc⟩:=q D zk;generalize zd:({l with heap:=l.1.push {cls:=.type "list",data:=.seq ([]:(TyJ)).toArray}}:Shared)=s3;have I3:Inv X pins Y (upd V D (.lst [])) s3:=by rw[<-zd];apply I2.laid (t':=l.toks) (λb o e=>aV _ e) (ot hD) #[lH _,[],0,.nil,?_];rw[<-hD];show dO _ S'
 have h3:s3.1=l.1.push {cls:=.type "list",data:=.seq ([]:(TyJ)).toArray}:=by rw[<-zd]
 have sz:∀b∈B,b<l.1.1.size:=λb E=>by obtain⟨o,e,_⟩:=T.obj _ _ zb b E;show aR e
 have a:∀b∈B,uU X pins (upd V D (.lst [])) b/\b<s3.1.1.size:=λb E=>by have ze:=sz b E;apply#[#[?_,(f2 b E).2],by rw[h3,c9];show zQ ze];rw[aq (by rw[<-hD];show cH ze)];show(f2 b E).1
 have zm:tn 0 s3.heap:=T.keep _ _ _ zb λb _ o e=>by rw[h3];show aV _ e
 have I4:=Bq I3 ok hN a;have pg:=hg s3 (upd V D (.lst [])) s3.1.1.size (V_ (s3.1.1.size+1) scope.2 (aX X.env.4 scope.2 [])) B;have pt:=ht s3 (upd V D (.lst [])) s3.1.1.size (V_ (s3.1.1.size+1) scope.2 (aX X.env.4 scope.2 [])) B;have pe:=he s3 (upd V D (.lst [])) s3.1.1.size (V_ (s3.1.1.size+1) scope.2 (aX X.env.4 scope.2 [])) B;show WW _ _ (.compStart (.ListComp Z [#[tg,M,F,0]] scope pos) 0 (.ref it) (.ref D) (We scope (V_ (s3.1.1.size+1) scope.2 (aX X.env.4 scope.2 [])) s3.1.1.size X.env)) (compPost (V3 X.1 X.w) X.A X.xe use Qf (.ref D) s3.1.1.size) {s3 with heap:=WQ (s3.1.push {cls:=.type "dict",data:=.dict #[]}) scope.2};have zf:∀b∈B,(upd V D (.lst [])) b=none:=λb E=>(a b E).1.1;generalize hce:We scope (V_ (s3.1.1.size+1) scope.2 (aX X.env.4 scope.2 [])) s3.1.1.size X.env=ce at I4 pg pt pe|-;have cL:ce.locals=s3.1.1.size:=by subst hce;rfl
 generalize hH3:upd V D (.lst [])=H3 at I3 I4 pg pt pe w0 zf a;generalize zv:({s3 with heap:=WQ (s3.1.push {cls:=.type "dict",data:=.dict #[]}) scope.2}:Shared)=s4 at I4|-;have zg:tn 0 s4.heap:=T.keep _ _ _ zm λb _ o e=>by rw[<-zv];show qk _ _ _ _ (aV _ e)
 have U:∀{new:St} {G:Hp} {O:Shared},Inv (X.ll s3 H3 scope ce B) [] new G O->(∀b∈B,G b=O')->∀b∈B,uU (X.ll s3 H3 scope ce B) [] G b:=λ{new G O} t hn b E=>
  #[hn b E,(t.ok.Tc b E).1,t.ok.GY b E,.inl E,λx c e=>(t.ok.Tc b E).2 x c e,λp hp=>absurd (show p∈([]:(List (VZ×Obj)))++[]from hp) (by simp)]
 have R:WW (V3 X.1 X.w) X.A (.compLoop (.ListComp Z [#[tg,M,F,0]] scope pos) 0 (.ref it) (.ref D) ce) (compPost (V3 X.1 X.w) X.A X.xe use Qf (.ref D) s3.1.1.size) s4:=by
  apply z8 (λn O=>∃i G,Inv (X.ll s3 H3 scope ce B) [] (wipe Y (P.map (·.2))) G O/\tn i O.1/\(∀b∈B,G b=O')/\W i n G) ?_ m0 #[0,H3,I4,zg,zf,w0];rintro n s5 ⟨i,d,I5,zh,n5,w5⟩;rcases zc i n d w5 with⟨zo,qq⟩|⟨go,Nx,zp,zi⟩
  ·have td:=T.done (X.ll s3 H3 scope ce B) S' rfl rfl hc i [] s5 _ d (λ_ _=>False) I5 (U I5 n5) zh zo;apply Ha td λr s6 L=> ?_;obtain⟨hr,I6⟩:=L;subst hr;have I7:Inv X pins Y d s6:=I3.Td (ch:=B) I6.os I6.base I6.fO I6.bare λb E=>#[(a b E).1.2.2.2.1,(a b E).1.2.1,(a b E).1.2.2.2.2.1,(a b E).1.2.2.2.2.2];have nC:d s3.1.1.size=none:=by have z:d ce.locals=none:=I6.free;rw[cL]at z;show z
   obtain⟨m,hn,_⟩:=I6.loc;have hn:s6.1.Ns ce.locals m:=hn;rw[cL]at hn;show hRR D s3.1.1.size s6 m d I7 qq hn (I3.Bj (aI _) nC)
  ·have ti:=T.item (X.ll s3 H3 scope ce B) S' rfl rfl hc i [] s5 _ d (λ_ _=>False) I5 (U I5 n5) zh go;apply Ha ti λr s6 L=> ?_;obtain⟨u,hr,h6⟩:=L;subst hr;apply Ha h6 λ_ s7 L=> ?_;obtain⟨x,H7,I7,r7,y7,f,n7⟩:=L;have zq:=I7.pinned (U I7 n7) (T.obj _ _ f);apply Ha (pg _ s7 _ H7 x u _ zq r7 (zi x H7 y7)) λ_ s8 L=> ?_;obtain⟨σ8,H8,I8,zl,q8⟩:=L;apply Ha (pt _ s8 σ8 H8 _ I8 q8) λb s9 L=> ?_;obtain⟨H9,I9,q9⟩:=L;have zj:∀{O:Shared} {G:Hp},Inv (X.ll s3 H3 scope ce B) ([]++vQ B s7.1) σ8 G O->Nx G->∃m,m<n/\∃i G,Inv (X.ll s3 H3 scope ce B) [] (wipe Y (P.map (·.2))) G O/\tn i O.1/\(∀b∈B,G b=O')/\W i m G:=λ{O G} t nx=>by
    obtain⟨m',hm,w'⟩:=zp G nx;have S:∀b∈B,∀o,s7.1.get? b=N' o->O.1.get? b=N' o/\G b=none:=λb E o e=>
     let z:=t.pin (b,o) (pB _ (pB _ (rb E e)))
     #[z.1,z.2.1]
    have hl:(wipe Y (P.map (·.2))).length=σ8.length:=by rw[<-zl,gh]
    apply#[m',hm,i+1,G,(t.r_ (pins:=[])).weak hl (λj v e=> ?_),T.keep _ _ _ f λb E o e=>(S b E o e).1,λb E=> ?_,w']
    ·rw[<-zl]at e;show(tX e).1
    ·obtain⟨o,e,_⟩:=T.obj _ _ f b E;show(S b E o e).2
   cases b with
   |false=>
    simp![qZ,kr]at q9|-;show zj I9 q9
   |true=>
    simp![dC]at q9|-;apply Ha (pe _ s9 σ8 H9 _ I9 q9) λz s10 L=> ?_;obtain⟨yv,H10,I10,r10,acc,hD10,hz10,nx⟩:=L;show P6 (X:=X.ll s3 H3 scope ce B) I10 hD10 hz10 r10 λyf I11=>zj I11 nx
 show codeAny_compStart_list R (T.self X.A 0 _ _ _ zg R)
universe a
def OB(r:X.calm=P')(u:X.N.Nodup)(y:PI X tg iter B)(E:qL X.N X.env.1 scope own)(G:∀s H C c j,PG (X.ll s H scope (We scope c C X.env) j) tg g)(J:∀s H C c j,T3 (X.ll s H scope (We scope c C X.env) j) ifs tt)(he:∀s H C c j,PE (X.ll s H scope (We scope c C X.env) j) elt L)(M:∀x,Wi iter X.env x=pure x:=by intro _;rfl):
  PE X (.ListComp elt [#[tg,iter,ifs,0]] scope pos) (P7 B g tt L (own.map (·.2))):=by
 intro pins s W H Q I h
 rw[eval_ListComp]
 apply EK r u I y E G J he M h λD C O m P U q Y f=>#[m,Y,λZ T=> ?_]
 obtain⟨F,V,a,R,S,A⟩:=f
 show#[.ref D,P,U.turned (t':=O.toks) (λb o K e=>(T.2 b K).trans e) F V R S A,S',q]
universe b
def Br(Z:X.calm=P')(M:X.N.Nodup)(T:X.N[i]?=N' y)(c:X.env.1.2.lookup y=N' .local)(B:Ws (.ListComp elt [#[tg,iter,ifs,0]] scope pos) (N' (.Name y py)) j.line X.env=pure P')(F:PI X tg iter O)(R:qL X.N X.env.1 scope own)(S:∀s H C r u,PG (X.ll s H scope (We scope r C X.env) u) tg g)(A:∀s H C r u,T3 (X.ll s H scope (We scope r C X.env) u) ifs tt)(he:∀s H C r u,PE (X.ll s H scope (We scope r C X.env) u) elt P)(K:∀x,Wi iter X.env x=pure x:=by intro _;rfl):
  PS X (.Assign [.Name y py] (.ListComp elt [#[tg,iter,ifs,0]] scope pos) j) (Pq (P7 O g tt P (own.map (·.2))) (Bg i)):=by
 intro pins s Q H D I h
 rw[exec_Assign_Name_used _ _ _ _ B]
 apply ai (Zi (ai ?_))
 have h:P7 O g tt P (own.map (·.2)) Q H (λx W=>Bg i x Q W D.nx):=h
 apply ai (d7 (EK (Qf:=λ_ E=>SP X pins D .next E) Z M I F R S A he K h λL C E m d k q l f=> ?_) λ_ E n=>aP (aP n))
 apply wpAny_assign_Name (x8 (v:=V.ref L) k M T (.inl c) S' (λp t #[a,sb,ha]=> ?_) (.inr c))
 obtain⟨w,U,f2,f3,Y,f5⟩:=f
 have G:C≠a:=by
  rcases ha with z|z
  ·rw[z];show U
  ·show λe=>Y y a z e.symm
 apply#[m,l.sameBut sb G,λh3 J=> ?_]
 show#[_,d,t.turned (t':=p.toks) (λb o hb e=>(J.2 b hb).trans e) w U f3 Y f5,q]
section
variable {κ:Type} [DecidableEq κ]
end
universe a
def T5(r:RelV (kV k) u):(gV P w).is k u=true:=by
 cases k with
 |inl i=>obtain⟨t,e⟩:=(show ∃t,u=Yi i t from r);subst e;show uD P w i t
 |inr x=>obtain⟨t,e⟩:=(show ∃t,u=L' x t from r);subst e;show Ba P w x t
def aaV(i:Expr):Prop:=∀c h,YI i Q' c h=operate [c,h] (ZL c h)
def Ms{prog:Program}{w:V6}{A:WK}{E:(Value->Shared->Prop)}{s:Shared}{env:Env}{j c:Expr}{pos:Pos}{T id:String}{Q:(Value->Shared->Prop)}(M:typeLookup (.type T) "__getitem__"=pure (N' (.builtin id)))(O:aaV c)(h:V5 (V3 prog w) A (Wo j env) (λo y=>V5 (V3 prog w) A (Wo c env) (λi q=>q.TypeIs o T/\V5 (V3 prog w) A (ZL o i) Q E q) E y) E s):V5 (V3 prog w) A (Wo (.Subscript j c pos) env) Q E s:=by
 apply Subscript_ (eM h (λo y H=>eM H (λi q u=> ?_) λ_ _ x=>x) λ_ _ x=>x);obtain⟨L,u⟩:=u;unfold subscriptTail;apply ai ?_;rw[getitemInPython_of_ne L.not_modules];apply ai (wpAny_specialOf L M ?_);have G:V5 (V3 prog w) A (YI c Q' o i) (λr B=>V5 (V3 prog w) A (letTemporaryGo j o r>>=λ_=>pure r) Q E B) E q:=by rw[O o i];show wpAny_operating (eM u (λr B J=>ai (wpAny_letTemporaryGo (aP J))) λ_ _ x=>x)
 first
  |show aP (ai G)
  |show ai (aP (ai G))
  |show ai G
def v7:WZ "reversed"=N' (.type "reversed"):=by decide+kernel
def Inv.EL{t':Nat}{ch:(mw)}(I:Inv X pins σ H s)(k:∀b o,b∉ch->s.1.get? b=N' o->h'.get? b=N' o)(j:∀b∈ch,uU X pins H b):Inv X pins σ H {s with heap:=h',toks:=t'}:=by
 have y:∀b u,H b=N' u->b∉ch:=λb u e z=>by have q:=(j b z).1;rw[q]at e;cases e
 apply I.step (g':=s.gens) (d':=s.drawn) (ch:=ch) (λb B=>#[(j b B).2.2.2.1,(j b B).2.1,(j b B).2.2.2.2.1,(j b B).2.2.2.2.2]) (λb o _ _ h e _=>k b o h e) (λb o _ _ h e _=>#[o.slots,k b o h e])
  (λ_ _ _ _ n=>n) (λb o h e=>#[o,k b o h e]) (λ_ _ e=>e) (λ_ _ _ e=>e) (λb ps e=>#[#[],by rw[e];simp]) (λm E=> ?_) (λb u e=> ?_) I.bare
 obtain⟨o,G,J,L,r⟩:=E;show#[o,G,J,k _ o (λz=>(j _ z).2.1 rfl) L,r];apply(I.fO b u e).zT (λc v h q=>k c v ?_ q) (λ_ q=>q) λ_ _ q=>q;rcases h with z|z;rw[z];show y b u e;show y c _ z
def Inv.tY{t':Nat}{ch:(mw)}{T:VZ}{G:HO}(I:Inv X pins σ H s)(k:∀b o,b∉ch->s.1.get? b=N' o->h'.get? b=N' o)(y:∀b∈ch,uU X pins H b)(L:s.1.1.size<=T)(J:gz X.1 X.w (upd H T G) h' T G):Inv X pins σ (upd H T G) {s with heap:=h',toks:=t'}:=by
 have B:H T=none:=I.fO.fresh L;have E:∀b u,H b=N' u->b∉ch:=λb u e z=>by have q:=(y b z).1;rw[q]at e;cases e
 apply I.step (g':=s.gens) (d':=s.drawn) (ch:=ch) (λb h=>#[(y b h).2.2.2.1,(y b h).2.1,(y b h).2.2.2.2.1,(y b h).2.2.2.2.2]) (λb o _ _ j e _=>k b o j e) (λb o _ _ j e _=>#[o.slots,k b o j e])
  (λb o _ e n=> ?_) (λb o j e=>#[o,k b o j e]) (λb xs e=> ?_) (λb o u e=> ?_) (λb ps e=>#[#[],?_]) (λm M=> ?_) (λb u e=> ?_) I.bare
 rw[aq (cH (aW (aR e) L))];show n;rw[aq (aN e B)];show e;rw[aq (aN e B)];show e;rw[aq (aN e B),e];simp;obtain⟨o,O,P,Q,r⟩:=M;show#[o,O,P,k _ o (λz=>(y _ z).2.1 rfl) Q,r];by_cases h:b=T;subst h;rw[aw]at e;cases e;show J;rw[aq h]at e;apply(I.fO b u e).zT (λc v j q=>k c v ?_ q) (λc q=>by rw[aq (aN q B)];show q) λc xs q=>by rw[aq (aN q B)];show q
 rcases j with z|z;rw[z];show E b u e;show E c _ z
def I_(I:Inv X pins σ H s)(o)(T:Turn X.1 X.w X.K tg J [s.1.1.size] s.1.1.size c)(h:c 0 (s.1.push o))(q:R J H):PIE X pins σ tg R (.ref s.1.1.size) {s with heap:=s.1.push o,toks:=tk}:=by
 apply#[s.1.1.size,[s.1.1.size],c,J,H,S',I.kept λb r e=>aV _ e,T,h,λb j=> ?_,q];have e:b=s.1.1.size:=by simpa using j
 subst e;show I.Bj (aI _) (I.fO.fresh (aI _))
noncomputable def Itc(h c:Int)(n:Nat):It:=#[λi _=>i<n,λi H x j=>j=H/\x=.int (h+(i:Nat)*c),λi _=>n<=i]
def Bs{P:Program}{w:V6}{K:V7}{tg:Expr}(it)(lo c)(n):Turn P w K tg (Itc lo c n) [it] it (λi h=>IsRangeIter h it (lo+(i)*c) ((n)-(i)) c) where
 mem:=by simp
 obj:=λi h j b q=>by
  have e:b=it:=by simpa using q
  subst e;show#[_,j,λv z=>nomatch z]
 keep:=λi h h' j k=>k it (by simp) _ j
 item:=by intro X y B G J i pins s T H E I u j L;subst y B G;obtain⟨M,O,C,U,Y,Z⟩:=u it (by simp);have W:=Walks.range (prog:=X.1) (w:=X.w) (I.ok.hd J) it lo c n;apply W.item i s _ _ L j λv h' tk F r D=> ?_;obtain⟨t,rfl⟩:=F;have V:Inv X pins T H {s with heap:=h',toks:=tk}:=I.turned (λb o q e=>D b o (by simpa using q) e) M O U Y Z;show#[_,S',Bk (s:={s with heap:=h',toks:=tk}) (n:="range_iterator") r S' rfl () #[.int (lo+(i)*c),H,V,#[t,S'],#[S',S'],r,λb q=>(u b q).1]]
 done:=by intro X y B G J i pins s T H E I u j L;subst y B G;obtain⟨M,O,C,U,Y,Z⟩:=u it (by simp);show ZH (I.ok.hd J) j (by have:n<=i:=L;lia) λh' R=>#[S',I.turned (t':=s.4) (λb o q e=>R b o q e) M O U Y Z]
 self:=λA i s Q E j h=>ZI j h
def RgC(i j c:Int)(n:Nat):Prop:=c≠0/\c.natAbs<1073741824/\ZF i j c=P'/\WG i j c=n
def T6(h:TA):TI:=λσ H R=>h σ H λvs o=>∃(i j c:Int) (n:Nat),vs=[.int i,.int j,.int c]/\RgC i j c n/\R (Itc i c n) o
def Hb(J:Gl X "range")(L:X.mg "range"=O')(M:PA X [a,b,c] ta)(O:V2 [a,b,c] X.env=(Q',Wo a X.env)::V2 [b,c] X.env:=by rfl)(hpl:(Wz pos (V2 [b,c] X.env)).any (·.1)=false:=by rfl):
  PI X tg (.Call (.Name "range" p) [a,b,c] [] pos) (T6 ta):=by
 intro pins s G H R I h
 apply I' (oz I J L boot_range (uB (d7 (M pos pins s G H _ I h) λus y #[vs,H1,I1,r1,q1]=> ?_) O hpl))
 obtain⟨i,j,k,n,e,⟨P,Q,U,Y⟩,q⟩:=q1
 subst e
 cases r1 with
 |cons r u=>
  cases u with
  |cons Z u=>
   cases u with
   |cons B u=>
    cases u
    obtain⟨t,rfl⟩:=r
    obtain⟨t',rfl⟩:=Z
    obtain⟨E,rfl⟩:=B
    apply call_range_3 P ?_ (.inl (C9 Q))
    apply wpAny_pyIter_range (IsRange.new ..) U ?_
    have T:Inv X pins G H1 {y with heap:=y.1.push {cls:=.type "range",data:=.fields (List.toArray [.int i t,.int j t',.int k E])}}:=I1.kept (t':=y.toks) λb o e=>aV _ e
    apply I_ (tk:=y.toks) T _ (Bs _ i k n) ?_ q
    have C:i+((0:Nat):Int)*k=i:=by simp
    have F:(n)-((0:Nat):Int)=WG i j k:=by rw[Y];simp
    rw[C,F]
    show dO _ S'
noncomputable def Itv(K:V7)(a:VZ)(n:Nat):It:=#[λi H=>i<n/\∃(xs:List V) (x:V),cQ K H a xs/\xs[n-1-i]?=N' x,λi H x c=>c=H/\∀xs,cQ K H a xs->xs[n-1-i]?=N' x,λi _=>n<=i]
def Ja{P:Program}{w:V6}{K:V7}{tg:Expr}(a it)(n):Turn P w K tg (Itv K a n) [it] it (λi h=>i<=n/\h.IsRevIter it a ((n)-1-(i))) where
 mem:=by simp
 obj:=λi h q b r=>by
  have e:b=it:=by simpa using r
  subst e;obtain⟨_,o,e,c,d⟩:=q;show#[o,e,λv z=>by rw[d]at z;cases z]
 keep:=λi h h' q k=>#[q.1,q.2.at λo e=>k it (by simp) o e]
 item:=by
  intro X J L M D i pins s V H E I G q O;subst J L M;obtain⟨B,xs,x,R,S⟩:=O;obtain⟨N,W,p,hz⟩:=I.list R;obtain⟨u,f,g⟩:=W.get S;obtain⟨U,Y,l,Z,T,C⟩:=G it (by simp);obtain⟨_,j⟩:=q;have F:(n)-1-((i):Int)=((n-1-i:Nat):Int):=by lia
  rw[F]at j;apply wpAny_pyNext_rev_item j p.isList (x:=u) (by simpa using f) λh' y m=> ?_;have t:((n-1-i:Nat):Int)-1=(n)-1-((i+1:Nat):Int):=by lia
  rw[t]at y;have I1:Inv X pins V H {s with heap:=h'}:=I.turned (t':=s.4) (λb o r e=>(m.2 b r).trans e) U Y Z T C;obtain⟨o,e,c,d⟩:=id y;show#[u,S',Bk (s:={s with heap:=h'}) e c d () #[x,H,I1,g,#[S',λys hy=>by rw[I.kA hy R];show S],#[B,y],λb r=>(G b r).1]]
 done:=by
  intro X J L M D i pins s V H E I G q O;subst J L M;obtain⟨U,Y,l,Z,T,C⟩:=G it (by simp);obtain⟨B,j⟩:=q;have za:n<=i:=O;have F:(n)-1-((i):Int)= -1:=by lia
  rw[F]at j;show wpAny_pyNext_rev_end (I.ok.hd D) j λh' eb=>#[S',I.turned (t':=s.4) (λb o r e=>eb b o r e) U Y Z T C]
 self:=λA i s Q E q h=>ZZ q.2 h
def aaW(K:V7)(h:TA):TI:=λσ H R=>h σ H λvs c=>∃(a:VZ) (xs:List V),vs=[.ref a]/\cQ K c a xs/\R (Itv K a xs.length) c
def Bt{e:Expr}{j:TA}{p pos:Pos}(o:Gl X "reversed")(u:X.mg "reversed"=O')(y:PA X [e] j)(B:V2 [e] X.env=[(Q',Wo e X.env)]:=by rfl):PI X tg (.Call (.Name "reversed" p) [e] [] pos) (aaW X.K j):=by
 intro pins s E H R I h;apply I' (oz I o u v7 (uB (d7 (y pos pins s E H _ I h) λus G #[vs,H1,I1,r1,q1]=> ?_) B S'));obtain⟨a,xs,e,J,q⟩:=q1;subst e;cases r1 with
 |cons r L=>
  cases L;cases r;obtain⟨c,M,O,Q⟩:=I1.list J;have U:=M.length;have P:((c.toArray.size:Nat):Int)-1=(xs.length:Int)-1-((0:Nat):Int):=by simp![dj];lia
  apply call_reversed_list O.isList (ZZ (l:=a) (i:=((c.toArray.size:Nat):Int)-1) #[_,dO _ S',S',S'] ?_);apply I_ (tk:=G.toks) I1 _ (Ja a _ xs.length) #[lH _,?_] q;rw[<-P];show#[_,dO _ S',S',S']
def Ite(K:V7)(a:VZ):It:=#[λi H=>∃(xs:List V) (x:V),cQ K H a xs/\xs[i]?=N' x,λi H v c=>∃T x,v=.ref T/\H T=O'/\c=upd H T (.tup [.int (i:Nat),x])/\∀xs,cQ K H a xs->xs[i]?=N' x,λi H=>∃xs:List V,cQ K H a xs/\xs.length<=i]
def Hc{P:Program}{w:V6}{K:V7}{J:(k_)}{t:Nat}{L:Pos}(a e it):Turn P w K (.Tuple J t L) (Ite K a) [e,it] e (λi h=>(∃c,IsEnum h e it ((i):Int) c)/\h.IsListIter it a i/\e≠it) where
 mem:=by simp
 obj:=λi h y b r=>by
  obtain⟨⟨c,he⟩,⟨o,Z,T,hd⟩,_⟩:=y;have e':b=e\/b=it:=by simpa using r
  rcases e' with z|z;rw[z];show#[_,he,λv q=>nomatch q];rw[z];show#[o,Z,λv q=>by rw[hd]at q;cases q]
 keep:=λi h h' y k=>let ⟨⟨c,he⟩,hi,j⟩:=y;#[#[c,k e (by simp) _ he],hi.at λo q=>k it (by simp) o q,j]
 item:=by
  intro X C F D T i pins s n H E I U y V;subst C F D;obtain⟨⟨c,he⟩,B,j⟩:=y;obtain⟨xs,x,Y,R⟩:=V;obtain⟨S,N,p,hz⟩:=I.list Y;obtain⟨u,hu,ru⟩:=N.get R;have M:e<s.1.1.size:=aR he;have W:it<s.1.1.size:=by obtain⟨_,q,_⟩:=B;show aR q
  apply wpAny_pyNext_enum_item he B p.isList (x:=u) (by simpa using hu) j λh' Z O hT hsz hk=> ?_;apply#[_,S',wpAny_letOwnedTupleGo_enum (s:={s with heap:=h',toks:=s.4+1}) Z λG d f=> ?_];have g:G.get? s.1.1.size=N' {cls:=.type "tuple",data:=.seq (List.toArray [.int i s.4,u])}:=(f.2 _ (XW M)).trans hT;have l:gz X.1 X.w (upd H s.1.1.size (.tup [.int (i),x])) G s.1.1.size (.tup [.int (i),x]):=
   #[by show 2<=sizeLine;decide,[.int i s.4,u],.cons #[_,S'] (.cons ru .nil),#[_,g,S',_,S']]
  have I1:Inv X pins n (upd H s.1.1.size (.tup [.int (i),x])) {s with heap:=G,toks:=s.4+1}:=
   I.tY (ch:=[e,it]) (λb ob r q=>(f.2 b (λz=>r (by simp[z]))).trans (hk b ob (λz=>r (by simp[z])) (λz=>r (by simp[z])) q)) U (aI _) l
  apply#[.ref s.1.1.size,_,I1,S',#[_,x,S',I.fO.fresh (aI _),S',λys hy=>by rw[I.kA hy Y];show R],#[#[u,?_],O.at λo q=>(f.2 it (iq j)).trans q,j],λb r=> ?_];have e1:((i+1:Nat):Int)=(i)+1:=by lia
  rw[e1];show d;have m:b<s.1.1.size:=by
   have e':b=e\/b=it:=by simpa using r
   rcases e' with z|z;rw[z];show M;rw[z];show W
  rw[aq (cH m)];show(U b r).1
 done:=by intro X C F D T i pins s n H E I U y V;subst C F D;obtain⟨⟨c,he⟩,B,j⟩:=y;obtain⟨xs,Y,R⟩:=V;obtain⟨S,N,p,hz⟩:=I.list Y;obtain⟨f0,f1,f2,f3,f4,f5⟩:=U it (by simp);have hl:=N.length;show wpAny_pyNext_enum_end (I.ok.hd T) he B p.isList (by simp;lia) λh' eb=>#[S',I.turned (t':=s.4) (λb o r q=>eb b o r q) f0 f1 f3 f4 f5]
 self:=λA i s Q E y h=>let ⟨⟨_,he⟩,_⟩:=y;wpAny_pyIter_enum he h
def T7(K:V7)(h:TA):TI:=λσ H R=>h σ H λvs c=>∃a xs,vs=[.ref a]/\cQ K c a xs/\R (Ite K a) c
def Mt{X:Cx}{e:Expr}{B:TA}{p pos j:Pos}{o:(k_)}{G:Nat}(J:Gl X "enumerate")(L:X.mg "enumerate"=O')(M:PA X [e] B)(O:V2 [e] X.env=[(Q',Wo e X.env)]:=by rfl):
  PI X (.Tuple o G j) (.Call (.Name "enumerate" p) [e] [] pos) (T7 X.K B):=by
 intro pins s E H R I h
 apply I' (oz I J L boot_enumerate (uB (d7 (M pos pins s E H _ I h) λus c #[vs,H1,I1,r1,q1]=> ?_) O S'))
 obtain⟨a,xs,P,Q,q⟩:=q1
 subst P
 cases r1 with
 |cons r U=>
  cases U
  cases r
  obtain⟨Y,D,Z,V⟩:=I1.list Q
  apply call_enumerate_list Z.isList λh' he y hsz T=>wpAny_pyIter_enum he ?_
  have C:Inv X pins E H1 {c with heap:=h'}:=I1.kept (t':=c.toks) T
  apply#[c.1.1.size+1,[c.1.1.size+1,c.1.1.size],_,_,H1,S',C,Hc a (c.1.1.size+1) c.1.1.size,#[#[.none,he],y,Nat.succ_ne_self _],λb F=> ?_,q]
  have e':b=c.1.1.size+1\/b=c.1.1.size:=by simpa using F
  have u:c.1.1.size<=b:=by rcases e' with z|z;rw[z];show rQ _ _;rw[z];show aI _
  show I1.Bj u (I1.fO.fresh u)
def yG:WZ "zip"=N' (.type "zip"):=by decide+kernel
def Itz(K:V7)(a b:VZ):It:=#[λi H=>∃(xs c:List V) (x y:V),cQ K H a xs/\cQ K H b c/\xs[i]?=N' x/\c[i]?=N' y,
  λi H v h=>∃T x y,v=.ref T/\H T=O'/\h=upd H T (.tup [x,y])/\(∀xs,cQ K H a xs->xs[i]?=N' x)/\∀c,cQ K H b c->c[i]?=N' y,
  λi H=>∃xs c:List V,cQ K H a xs/\cQ K H b c/\(xs.length<=i\/c.length<=i)]
def Jb{P:Program}{w:V6}{K:V7}{W:(k_)}{kk:Nat}{d:Pos}{a b z J L M O:VZ}(D:ZipApart z J L M O a b):Turn P w K (.Tuple W kk d) (Itz K a b) [z,J,L,M,O] z (λi h=>Yr h z J L .none/\IsPair h J (.ref M) (.ref O)/\(∃x y,IsPair h L x y)/\h.IsListIter M a i/\h.IsListIter O b i) where
 mem:=by simp
 obj:=λi h U c n=>by
  obtain⟨T,j,⟨x,y,r⟩,⟨o1,e1,_,d1⟩,⟨o2,e2,_,d2⟩⟩:=U;have e':c=z\/c=J\/c=L\/c=M\/c=O:=by simpa using n
  rcases e' with q|q|q|q|q;rw[q];show#[_,T,λv q=>nomatch q];rw[q];show#[_,j,λv q=>nomatch q];rw[q];show#[_,r,λv q=>nomatch q];rw[q];show#[o1,e1,λv q=>by rw[d1]at q;cases q];rw[q];show#[o2,e2,λv q=>by rw[d2]at q;cases q]
 keep:=λi h h' U k=>by obtain⟨T,j,⟨x,y,r⟩,R,S⟩:=U;show#[k z (by simp) _ T,k J (by simp) _ j,#[x,y,k L (by simp) _ r],R.at λo q=>k M (by simp) o q,S.at λo q=>k O (by simp) o q]
 item:=by
  intro X hP hw hK n i pins s σ H E I t U hg;subst hP hw hK;obtain⟨T,j,⟨x0,y0,r⟩,R,S⟩:=U;obtain⟨xs,ys,x,y,Y,Z,hx,hy⟩:=hg;obtain⟨e,rv,p,_⟩:=I.list Y;obtain⟨C,F,p2,_⟩:=I.list Z;obtain⟨u,hu,ru⟩:=rv.get hx;obtain⟨u2,za,zb⟩:=F.get hy;have f:z<s.1.1.size:=aR T;apply wpAny_pyNext_zip_item D T j r R S p.isList p2.isList (x:=u) (y:=u2) (by simpa using hu) (by simpa using za) λh' z' zc zd h2' hT hsz hk=> ?_;apply#[_,S',Za (s:={s with heap:=h'}) z' λV zf N=> ?_];have zg:V.get? s.1.1.size=N' {cls:=.type "tuple",data:=.seq (List.toArray [u,u2])}:=(N.2 _ (XW f)).trans hT;have ze:gz X.1 X.w (upd H s.1.1.size (.tup [x,y])) V s.1.1.size (.tup [x,y]):=
   #[by show 2<=sizeLine;decide,[u,u2],.cons ru (.cons zb .nil),#[_,zg,S',_,S']]
  have I1:Inv X pins σ (upd H s.1.1.size (.tup [x,y])) {s with heap:=V}:=
   I.tY (t':=s.4) (ch:=[z,J,L,M,O]) (λc o G q=>(N.2 c (λB=>G (by simp[B]))).trans (hk c o (λB=>G (by simp[B])) (λB=>G (by simp[B])) (λB=>G (by simp[B])) (λB=>G (by simp[B])) q)) t (aI _) ze
  apply#[.ref s.1.1.size,_,I1,S',#[_,x,y,S',I.fO.fresh (aI _),S',λl hl=>by rw[I.kA hl Y];show hx,λl hl=>by rw[I.kA hl Z];show hy],#[zf,?_,#[u,u2,?_],?_,?_],λc g=> ?_];show(N.2 _ D.TIz).trans (hk _ _ D.TIz D.TITO D.TIi1 D.TIi2 j);show(N.2 _ D.TOz).trans zc;show zd.at λo q=>(N.2 _ D.i1z).trans q;show h2'.at λo q=>(N.2 _ D.i2z).trans q;have zh:c<s.1.1.size:=by
   have e':c=z\/c=J\/c=L\/c=M\/c=O:=by simpa using g
   rcases e' with q|q|q|q|q;rw[q];show f;rw[q];show aR j;rw[q];show aR r;rw[q];obtain⟨_,e1,_⟩:=R;show aR e1;rw[q];obtain⟨_,e2,_⟩:=S;show aR e2
  rw[aq (cH zh)];show(t c g).1
 done:=by
  intro X hP hw hK n i pins s σ H E I t U hg;subst hP hw hK;obtain⟨T,j,⟨x0,y0,r⟩,R,S⟩:=U;obtain⟨xs,ys,Y,Z,m⟩:=hg;obtain⟨e,rv,p,_⟩:=I.list Y;obtain⟨C,F,p2,_⟩:=I.list Z;have l1:=rv.length;have l2:=F.length;have he:e.toArray[i]?=O'\/C.toArray[i]?=none:=by rcases m with q|q;show .inl (by simp;lia);show .inr (by simp;lia)
  show wpAny_pyNext_zip_end (I.ok.hd n) D T j r R S p.isList p2.isList he λh' hk=>#[S',I.EL (t':=s.4) (ch:=[z,J,L,M,O]) (λc o G q=>
   hk c o (λB=>G (by simp[B])) (λB=>G (by simp[B])) (λB=>G (by simp[B])) (λB=>G (by simp[B])) q) t]
 self:=λA i s Q E U h=>ve U.1 h
def aaX(K:V7)(h:TA):TI:=λσ H R=>h σ H λvs c=>∃a b xs j,vs=[.ref a,.ref b]/\cQ K c a xs/\cQ K c b j/\R (Itz K a b) c
def P8{X:Cx}{e o:Expr}{P:TA}{p pos u:Pos}{y:(k_)}{C:Nat}(F:Gl X "zip")(D:X.mg "zip"=O')(V:PA X [e,o] P)(S:V2 [e,o] X.env=(Q',Wo e X.env)::V2 [o] X.env:=by rfl)(hpl:(Wz pos (V2 [o] X.env)).any (·.1)=false:=by rfl):
  PI X (.Tuple y C u) (.Call (.Name "zip" p) [e,o] [] pos) (aaX X.K P):=by
 intro pins s Q H R I h
 apply I' (oz I F D yG (uB (d7 (V pos pins s Q H _ I h) λus j #[vs,H1,I1,r1,q1]=> ?_) S hpl))
 obtain⟨a,b,xs,n,A,E,G,q⟩:=q1
 subst A
 cases r1 with
 |cons r J=>
  cases J with
  |cons N J=>
   cases J
   cases r
   cases N
   obtain⟨W,t,U,_⟩:=I1.list E
   obtain⟨Y,d,Z,_⟩:=I1.list G
   have f:a<j.1.1.size:=U.lt
   have g:b<j.1.1.size:=Z.lt
   apply call_zip_2 U.isList Z.isList λh' T L M i k hsz l=>ve T ?_
   have m:Inv X pins Q H1 {j with heap:=h'}:=I1.kept (t':=j.toks) l
   apply#[j.1.1.size+4,[j.1.1.size+4,j.1.1.size+2,j.1.1.size+3,j.1.1.size,j.1.1.size+1],_,_,H1,S',m,Jb (ktu_apart j.1.1.size a b f g),#[T,L,#[_,_,M],i,k],λc O=> ?_,q]
   have e':c=j.1.1.size+4\/c=j.1.1.size+2\/c=j.1.1.size+3\/c=j.1.1.size\/c=j.1.1.size+1:=by simpa using O
   have B:j.1.1.size<=c:=by rcases e' with z|z|z|z|z;rw[z];show rQ _ _;rw[z];show rQ _ _;rw[z];show rQ _ _;rw[z];show aI _;rw[z];show rQ _ _
   show I1.Bj B (I1.fO.fresh B)
end L2
namespace Bits
open PySem PyProof.Rows
end Bits
namespace TL
open PySem PySem.Builtin PySem.Builtin.Str PySem.StrLaws
end TL
namespace L2
open PySem PySem.W PySem.Spec PyProof.Rows
end L2
namespace Att
open PySem PySem.W PySem.Calls PyProof.Rows
end Att
namespace L2
open PySem PySem.W PySem.Spec PyProof.Rows
noncomputable def lJ(s:Stmt):Arguments:=match s with
 |.FunctionDef _ a _ _ _ _ _ _ _ _=>a
 |_=>{posonlyargs:=[],args:=[],vararg:=O',kwonlyargs:=[],kw_defaults:=[],kwarg:=O',defaults:=[]}
noncomputable def b9(s:Stmt):(TyM):=match s with
 |.FunctionDef _ _ b _ _ _ _ _ _ _=>b
 |_=>[]
noncomputable def aG(s:Stmt):Scope:=match s with
 |.FunctionDef _ _ _ _ _ _ sc _ _ _=>sc
 |_=>{kind:=.function,names:=[],isGenerator:=Q',isCoroutine:=Q'}
abbrev lM:IU:=λ_ _ _ _ _ _=>False
abbrev E0:XK:=λ_ _ _=>False
def eQ:Passes lM X E0:=λ_ _ _ _ _ _ _ h=>h.elim
structure xF(K:V7)(x qual:Str)(st:Stmt)(f:VZ)(fd:FuncData):Prop where
 ex:∃(oc:Value) (od:Option VZ) (kV doc pm:Value) (an:Option VZ) (cdv ct:Value) (osl:Array ((o6))),
  fd=fnOf x qual (lJ st) (b9 st) (aG st) .none kV doc pm an cdv ct/\K.lookup f=N' #[oc,od,.func fd,osl]/\codeIn K cdv qual=P'
 kp:XE K (.ref f)=P'
section
variable {P:Program} {w:V6} {K:V7} {mg:(Str->o6)} {base:Heap}
def xF.ok{x qual:Str}{r:Stmt}{f:VZ}{fd:FuncData}{N ps:(iG)}{k:Nat}{u:Sp}(F:xF K x qual r f fd)(S:fi N ps (aG r))(y:∀vs H Q E,u vs H Q E->vs.length=ps.length)(o:∀(j) (A) (c) (s) (H) (vs) (Q:VK) (E:XK),fH k (A.deeper (XG qual (aG r) s.1.1.size f j))->u vs H Q E->∃t,gA (pI lM P w K mg base N qual (aG r) f j A c s H E).vj (b9 r) t/\t {nx:=λ_ J=>Q .bQ J,rt:=Q} (start N vs) H):gX P w K mg base lM (k+1) f fd ps u:=by obtain⟨U,X,Y,doc,pm,Z,j,ct,L,rfl,M,B⟩:=F.ex;apply TN M B S y λA c s H vs Q E O G=> ?_;obtain⟨t,h,q⟩:=o j A c s H vs Q E O G;show#[t,h.vj,q]
def xF.binds{x qual:Str}{j:Stmt}{f:VZ}{fd:FuncData}{ps:(iG)}(F:xF K x qual j f fd)(h:∀o doc pm q c ct us,us.length=ps.length->W8 (fnOf x qual (lJ j) (b9 j) (aG j) .none o doc pm q c ct) #[us,[]]=pure (ps.zip us)):Binds K fd ps []:=by obtain⟨u,y,o,doc,pm,q,c,ct,r,rfl,B,s⟩:=F.ex;show .all (h o doc pm q c ct)
end
def pv(i)(h:X.N[i]?=N' x:=by rfl)(j:Bd X.env.1 x:=by first|show iu S'|show Or.inr (iu S')|show Or.inr (Or.inr S'))(o:(x==("__debug__":Str))=false:=by decide)
  (c:(x==("__classdict__":Str))=false:=by decide):PE X (.Name x pos) (tU i):=pG h j o c
def ph(H c:Hp):Prop:=∀b o,H b=N' o->c b=N' o
section
variable {κ:Type} [DecidableEq κ]
end
def at_of{xs:List V}{z:Int}{j:Nat}{v:V}(e:z=(j))(h:xs[j]?=N' v):Oz xs z=N' v:=by rw[e];show Ml h
noncomputable def sr(c:VZ)(v:V):HO:=.ext λh=>∃u,h.IsCell c (N' u)/\RelV v u
noncomputable def tZ(a:VZ)(fd:FuncData):HO:=.ext λh=>h.get? a=N' {cls:=.type "function",data:=.func fd}
noncomputable def qM(c:VZ)(q:Str):HO:=.ext λh=>h.CodeRec (.ref c) q
noncomputable abbrev Cx.frozen(X:Cx)(z:Str->Bool):Cx:={X with fz:=z}
def Cx.Ok.frozen{X:Cx}(c:X.Ok)(z):(X.frozen z).Ok:=#[c.mod,c.kind,c.glob,c.blt,c.above,c.inj,c.has,c.Pf,c.hd,c.frames,c.Tb,c.Tc,c.bs,c.Iw,c.GX,c.GY,c.r9,c.L5]
inductive Hd(X:Cx)(σ:St):List (Nat×Str)->Hp->Hp->Prop
 |nil {H:Hp}:Hd X σ [] H H
 |cons {i:Nat} {x:Str} {r:List (Nat×Str)} {H H':Hp} {c:VZ} {v:V} {o:Obj} (hc:X.env.4.lookup x=N' c) (hv:σ[i]?=N' (N' v)) (hn:H c=O') (rest:Hd X σ r (upd H c (.nX o (sr c v))) H'):Hd X σ ((i,x)::r) H H'
section
variable {X:Cx} {pins:(List (VZ×Obj))} {σ:St} {H:Hp} {s:Shared}
def Inv.Mu{z:Str->Bool}{i:Nat}{x:Str}{v:V}{c:VZ}(I:Inv (X.frozen z) pins σ H s)(T:z x=P')(M:X.fn x=P')(C:X.N[i]?=N' x)(F:σ[i]?=N' (N' v))(O:X.env.1.2.lookup x=N' .cell)(J:X.env.4.lookup x=N' c)(h:H c=O'):∃o,Inv (X.frozen z) pins σ (upd H c (.nX o (sr c v))) s:=by
 obtain⟨m,D,R⟩:=id I.loc;obtain⟨u,r,q⟩:=R i x v C F (.inr (.inl O));have j:s.1.IsCell c (N' u):=by rcases q with⟨k,_⟩|⟨_,L,e',S⟩;have k:X.env.1.2.lookup x=N' .local:=k;rw[k]at O;cases O;have e':X.env.4.lookup x=N' L:=e';rw[J]at e';cases e';show S
 obtain⟨o,P,A⟩:=id j;apply#[o,I.ok,I.os,I.bare,#[I.base.keep,I.base.slot,λb B e n K=> ?_,I.base.there,λb xs e=> ?_,λb B y e=> ?_,λb ps e=> ?_],I.loc,I.cell,?_,λy L e=> ?_,λp W=> ?_,λb B e=> ?_,I.len];have Q:b≠c:=cH (aW (aR e) (I.ok.Pf x c M J));rw[aq Q];show I.base.free b B e n K;have q:=I.base.zU b xs e;rw[aq (aN q h)];show q;have q:=I.base.uS b B y e;rw[aq (aN q h)];show q;obtain⟨E,q⟩:=I.base.xB b ps e;show#[E,by rw[aq (aN q h)];show q];rw[aq (iq (I.Ot x c J))];show I.free;by_cases G:L=c;subst G;have U:y=x:=I.ok.inj _ _ _ e J;subst U;show .inr #[T,o,_,aw];rw[aq G];show I.nk y L e;obtain⟨e,n,a,f,d⟩:=I.pin p W;have Y:p.1≠c:=λz=>by rw[z,P]at e;cases e;show d _ A
 show#[e,by rw[aq Y];show n,a,f,d];by_cases Z:b=c;subst Z;rw[aw]at e;cases e;apply#[P,#[u,j,r],#[o,P],λt w #[g,#[o1,e1,d1],r1] k=>#[g,#[o1,k o1 e1,d1],r1]];rw[aq Z]at e;show(I.fO b B e).zT (λ_ _ _ q=>q) (λl q=>by rw[aq (aN q h)];show q) λl xs q=>by rw[aq (aN q h)];show q
def Inv.aaY(I:Inv X pins σ H s)(z)(j:∀x,X.fz x=P'->z x=P'):Inv (X.frozen z) pins σ H s:=#[I.ok.frozen z,I.os,I.bare,I.base,I.loc,I.cell,I.free,λx c e=>(I.nk x c e).imp id λ⟨h,r⟩=>#[j x h,r],I.pin,I.fO,I.len]
theorem Inv.EM{z:Str->Bool}:∀{ns:List (Nat×Str)} {H:Hp},Inv (X.frozen z) pins σ H s->(∀p∈ns,z p.2=P'/\X.fn p.2=P'/\X.N[p.1]?=N' p.2/\X.env.1.2.lookup p.2=N' .cell)->(ns.map (·.2)).Nodup->(∀p∈ns,∃v,σ[p.1]?=N' (N' v))->(∀p∈ns,∀c,X.env.4.lookup p.2=N' c->H c=O')->∃E,Hd X σ ns H E/\Inv (X.frozen z) pins σ E s
 |[],H,I,_,_,_,_=>#[H,.nil,I]
 |(i,x)::r,H,I,h,nd,L,M=>by
  obtain⟨Q,G,U,O⟩:=h (i,x) (by simp);obtain⟨v,u⟩:=L (i,x) (by simp);obtain⟨c,j⟩:=I.ok.has x (.inl O);have j:X.env.4.lookup x=N' c:=j;have y:=M (i,x) (by simp) c j;obtain⟨o,Y⟩:=I.Mu Q G U u O j y;rw[bf,oi]at nd;obtain⟨E,f,Z⟩:=Inv.EM Y (λp q=>h p (by simp[q])) nd.2 (λp q=>L p (by simp[q])) λp q P B=>by
   have J:P≠c:=λe=>by subst e;have:p.2=x:=I.ok.inj _ _ _ B j;show nd.1 (gm.mpr #[p,q,this])
   rw[aq J];show M p (by simp[q]) P B
  show#[E,.cons j u y f,Z]
end
def He(H:Hp)(P:VZ)(pos:Pos)(q:Str):Prop:=H P=N' (.qK #[])\/∃c,H P=N' (.qK (List.toArray [WD pos.line,WD pos.col,.ref c]))/\H c=N' (qM c q)
def BMain(mg:(Str->o6))(base:Heap):Prop:=∃h c,mg "__builtins__"=N' (.ref h)/\h≠WJ/\base.get? h=N' c/\c.cls=.type "module"∧c.dict=N' WJ/\c.data=.plain
structure Made(H H1:Hp)(f:VZ)(fd:Value->FuncData)(P:VZ)(pos:Pos)(q:Str):Prop where
 new:H f=O'
 fn:∃c',H1 f=N' (tZ f (fd (.ref c')))/\H1 c'=N' (qM c' q)
 tab:He H1 P pos q
 keep:∀b o,H b=N' o->b≠P->H1 b=N' o
def Inv.z9(I:Inv X pins σ H s)(h:H P=N' (.qK ps)):s.1.get? P=N' (tabObj ps):=I.fO P _ h
def Inv.z_(I:Inv X pins σ H s)(h:H P=N' o)(c:X.base.get? b=N' ob):b≠P:=λz=>by have:=(I.bs b ob c).2;rw[z,h]at this;cases this
def Inv.Mv(I:Inv X pins σ H s)(h:H P=N' o)(B:BMain X.mg X.base):s.1.BuiltinsAt X.mg P:=by obtain⟨r,u,y,E,c,G,J,j⟩:=B;apply#[r,u,y,E,λq=> ?_,I.z_ h c,I.bk _ _ c,G,J,j];obtain⟨M,O,Q,e,L,_⟩:=I.mod.glob;rw[q,e]at c;cases c;rw[L]at j;cases j
def Inv.EN{P c:VZ}{pos:Pos}{q:Str}{fd:Value->FuncData}{h':Heap}{tk:Nat}(I:Inv X pins σ H s)(r:H P=N' (.qK (List.toArray [WD pos.line,WD pos.col,.ref c])))(j:H c=N' (qM c q))(E:∀b o,s.1.get? b=N' o->h'.get? b=N' o)(y:s.1.1.size<=h'.objs.size):∃B,Inv X pins σ B {s with heap:=h'.push {cls:=.type "function",data:=.func (fd (.ref c))},toks:=tk}/\Made H B h'.objs.size fd P pos q:=by have h:H h'.objs.size=none:=I.fO.fresh y;apply#[upd H h'.objs.size (tZ h'.objs.size (fd (.ref c))),I.laid (λb u e=>aV _ (E b u e)) y ?_,h,#[c,aw,?_],.inr #[c,?_,?_],λb o e _=> ?_];show#[dO _ S',#[_,dO _ S'],λG J e k=>k _ e];rw[aq (aN j h)];show j;rw[aq (aN r h)];show r;rw[aq (aN j h)];show j;rw[aq (aN e h)];show e
def Inv.EO(I:Inv X pins σ H s)(L:H P=N' (.qK #[]))(d:Heap.ExtBut P s.1 h')(r:s.1.1.size<=c)(E:c<h'.objs.size)(Z:h'.CodeRec (.ref c) q)(T:h'.get? P=N' (tabObj (#[]++ (List.toArray [WD pos.line,WD pos.col,.ref c])))):∃M,Inv X pins σ M {s with heap:=h'.push {cls:=.type "function",data:=.func (fd (.ref c))},toks:=tk}/\Made H M h'.objs.size fd P pos q:=by
 have C:P<s.1.1.size:=I.fO.lt L;have S:H c=none:=I.fO.fresh r;have F:H h'.objs.size=none:=I.fO.fresh (gp (jf r E));have A:P≠c:=cH (aW C r);have K:P≠h'.objs.size:=cH (Nat.lt_trans (aW C r) E);have N:c≠h'.objs.size:=cH E;let M:=upd (upd (upd H P (.qK (List.toArray [WD pos.line,WD pos.col,.ref c]))) c (qM c q)) h'.objs.size (tZ h'.objs.size (fd (.ref c)));have Q:∀b,b≠P->b≠c->b≠h'.objs.size->M b=H b:=λb G Y R=>by show upd (upd (upd _ _ _) _ _) _ _ b=_;rw[aq R,aq Y,aq G]
 have h:∀b o,H b=N' o->b≠P->M b=N' o:=λb o e G=>by rw[Q b G (aN e S) (aN e F)];show e
 have y:M P=N' (.qK (List.toArray [WD pos.line,WD pos.col,.ref c])):=by show upd (upd (upd _ _ _) _ _) _ _ P=_;rw[aq K,aq A,aw]
 have B:M c=N' (qM c q):=by show upd (upd (upd _ _ _) _ _) _ _ c=_;rw[aq N,aw]
 have j:∀b o,b≠P->s.1.get? b=N' o->(h'.push {cls:=.type "function",data:=.func (fd (.ref c))}).get? b=N' o:=λb o U e=>aV _ (d b o U e);have W:∀b,H b=O'->b≠P:=λb n z=>by rw[z,L]at n;cases n
 have O:∀b o,s.1.get? b=N' o->b≠c/\b≠h'.objs.size:=λb o e=>
  have:=aR e
  #[cH (aW this r),cH (Nat.lt_trans (aW this r) E)]
 apply#[M,I.un (h':=h'.push _) (t':=tk) #[λb o e n _ _=>j b o (W b n) e,λb o e n _ _=>#[o.slots,j b o (W b n) e],λb o e n _=> ?_,λb o e _=> ?_,λb xs e=> ?_,λb o u e=> ?_,λb ps e=> ?_] (λb o e=> ?_),F,#[c,aw,B],.inr #[c,y,B],h];rw[Q b (W b n) (O b o e).1 (O b o e).2];show n;by_cases U:b=P;subst U;show#[_,aV _ T];show#[o,j b o U e];show h b _ e λz=>by rw[z,L]at e;cases e
 show h b _ e λz=>by rw[z,L]at e;cases e
 by_cases U:b=P;subst U;rw[L]at e;cases e;show#[(List.toArray [WD pos.line,WD pos.col,.ref c]),by rw[y];simp];show#[#[],by rw[h b _ e U];simp];by_cases R:b=h'.objs.size;subst R;have e:N' (tZ h'.objs.size (fd (.ref c)))=N' o:=by rw[<-e];show aw.symm
 cases e;show#[dO _ S',#[_,dO _ S'],λG Y e k=>k _ e];by_cases Y:b=c;subst Y;rw[B]at e;cases e;obtain⟨l,a,vs,t,f,D,g,i⟩:=Z;cases f;apply#[#[_,a,vs,t,S',aV _ D,g,i],#[a,aV _ D],λG Y #[m,o3,v3,t3,e3,g3,d3,r3] k=> ?_];cases e3;show#[_,o3,v3,t3,S',k _ g3,d3,r3];by_cases G:b=P;subst G;rw[y]at e;cases e;show aV _ T;rw[Q b G Y R]at e;apply(I.fO b o e).zT (λV u J q=>j V u ?_ q) (λV q=>h V _ q ?_) λV xs q=>h V _ q ?_;rcases J with rfl|J;show G;intro z;rw[z,L]at J;cases J;intro z;rw[z,L]at q;cases q;intro z;rw[z,L]at q;cases q
def aaZ(X:Cx)(P:VZ)(pos:Pos)(q:Str)(fd:Value->Value->FuncData):TE:=λ_ H Q=>He H P pos q/\∀f ct c,Made H c f (fd ct) P pos q->Q (.ref f) c
def P9(E:YW params X.env=([],[]))(j:∀y∈scope.2,y.2=.free->∃c,X.env.4.lookup y.1=N' c)(q:X.env.code=.ref c)(C:Y9 X.base c P)(B:BMain X.mg X.base):PE X (.Lambda params body scope pos) (aaZ X P pos (X.env.qual++"<lambda>") λct cd=>Xb "<lambda>" (X.env.qual++"<lambda>") params body scope (aX X.env.4 scope.2 []) ((X.mg "__name__").getD .none) cd ct):=by
 intro pins s N H Q I ⟨T,h⟩;have D:s.1.Ns V1 X.mg:=I.mod.glob.keeps I.bk;apply kla_eval E ?_;rcases T with u|⟨L,u,V⟩;have O:V1≠P:=by obtain⟨o,W,a,e,_⟩:=I.mod.glob;show I.z_ u e
 apply kla_makeFunction (mg:=X.mg) (ps:= #[]) (lY j) I.ok.glob D q (C.keeps I.bk) (I.z9 u) trivial rfl O (I.Mv u B) λL r h' tk R U Y G Z=> ?_;obtain⟨J,F,M⟩:=I.EO (fd:=λcd=>Xb "<lambda>" (X.env.qual++"<lambda>") params body scope (aX X.env.4 scope.2 []) ((X.mg "__name__").getD .none) cd r) (tk:=tk) u R U Y G Z;show#[.ref h'.objs.size,J,F,S',h _ r J M];have S:Zw pos ((List.toArray [WD pos.line,WD pos.col,Wc L]):Array Value).toList=N' (.ref L):=by simp[Zw,WD]
 apply kla_makeFunctionHit (mg:=X.mg) (lY j) I.ok.glob D q (C.keeps I.bk) (I.z9 u) (by show TriplesOk [_,_,_];show trivial) S (I.Mv u B) λr h' tk A K=> ?_;obtain⟨J,F,M⟩:=I.EN (fd:=λcd=>Xb "<lambda>" (X.env.qual++"<lambda>") params body scope (aX X.env.4 scope.2 []) ((X.mg "__name__").getD .none) cd r) (tk:=tk) u V A K;show#[.ref h'.objs.size,J,F,S',h _ r J M]
def aa0(X:Cx)(P:VZ)(pos:Pos)(q:Str)(fd:Value->Value->Value->FuncData)(i:Nat):TS:=λD σ H=>He H P pos q/\∀f ct doc c,Made H c f (fd ct doc) P pos q->D.nx (σ.set i (N' (.ref f))) c
def P_(J:params.defaults=[])(L:params.kw_defaults=[])(d:YZ params O' X.env=[])(j:∀y∈scope.2,y.2=.free->∃c,X.env.4.lookup y.1=N' c)(q:X.env.code=.ref c)(C:Y9 X.base c P)(B:BMain X.mg X.base)(A:X.N.Nodup)(K:X.N[i]?=N' name)(W:Loc X.env.1 name)(a:(X.fn name=P'/\X.fz name=Q')\/X.env.1.2.lookup name=N' .local):PS X (.FunctionDef name params body [] O' [] scope O' name pos) (aa0 X P pos (WX X.env name name) (λct doc cd=>fnX name (WX X.env name name) params body scope (aX X.env.4 scope.2 []) .none .none doc ((X.mg "__name__").getD .none) O' cd ct) i):=by
 intro pins s m H D I ⟨T,h⟩;have b:s.1.Ns V1 X.mg:=I.mod.glob.keeps I.bk;apply nestDef_K J L d ?_;rcases T with u|⟨O,u,f⟩;have Q:V1≠P:=by obtain⟨o,n,p,e,_⟩:=I.mod.glob;show I.z_ u e
 apply makeFunction_K (mg:=X.mg) (ps:= #[]) (lY j) I.ok.glob b q (C.keeps I.bk) (I.z9 u) trivial rfl Q (I.Mv u B) λO r doc h' tk U Y Z E F=> ?_;obtain⟨G,V,M⟩:=I.EO (fd:=λcd=>fnX name (WX X.env name name) params body scope (aX X.env.4 scope.2 []) .none .none doc ((X.mg "__name__").getD .none) O' cd r) (tk:=tk) u U Y Z E F;show nq V A K W (show RelV (.ref h'.objs.size) (Wc h'.objs.size)from rfl) (λg R=>#[_,G,R,h _ r doc G M]) a;have S:Zw pos ((List.toArray [WD pos.line,WD pos.col,Wc O]):Array Value).toList=N' (.ref O):=by simp[Zw,WD]
 apply makeFunction_hit (mg:=X.mg) (lY j) I.ok.glob b q (C.keeps I.bk) (I.z9 u) (by show TriplesOk [_,_,_];show trivial) S (I.Mv u B) λr doc h' tk k l=> ?_;obtain⟨G,V,M⟩:=I.EN (fd:=λcd=>fnX name (WX X.env name name) params body scope (aX X.env.4 scope.2 []) .none .none doc ((X.mg "__name__").getD .none) O' cd r) (tk:=tk) u f k l;show nq V A K W (show RelV (.ref h'.objs.size) (Wc h'.objs.size)from rfl) (λg R=>#[_,G,R,h _ r doc G M]) a
structure lZ(N ps cs:(iG))(sc:Scope):Prop where
 kind:sc.kind=.function
 co:sc.isCoroutine=Q'
 gen:sc.isGenerator=Q'
 nd:N.Nodup
 pre:N.take (ps++cs).length=ps++cs
 par:∀x∈ps,sc.names.lookup x=N' .local\/sc.names.lookup x=N' .cell
 cap:∀x∈cs,sc.names.lookup x=N' .free
 uniq:∀y∈sc.names,sc.names.lookup y.1=N' y.2
 SS:∀y∈sc.names,y.2=.free->y.1∈cs
structure oF(H:Hp)(cs:(iG))(clos:(List (Str×VZ)))(vs:List V):Prop where
 inj:∀x y c,(x,c)∈clos->(y,c)∈clos->x=y
 uniq:∀x c,(x,c)∈clos->clos.lookup x=N' c
 only:∀x c,(x,c)∈clos->x∈cs
 len:cs.length=vs.length
 has:∀(i:Nat) x,cs[i]?=N' x->∃c v o,clos.lookup x=N' c/\vs[i]?=N' v/\H c=N' (.nX o (sr c v))
noncomputable def jA(qual:Str)(scope:Scope)(L f:VZ)(cd:Value)(c:(List (Str×VZ))):Env:=newEnv scope L V1 (V_ (L+1) scope.2 c) (qual++".<locals>.") (N' f) cd O' WJ
def qN(CX:IU)(P:Program)(w:V6)(K:V7)(mg:(Str->o6))(base:Heap)(N:(iG))(qual:Str)(scope:Scope)(f:VZ)(cd:Value)(c:(List (Str×VZ)))(A:WK)(outer:List Env)(s:Shared)(H:Hp)(E:XK):Cx where
 prog:=P
 w:=w
 K:=K
 mg:=mg
 base:=base
 A:=A.deeper (jA qual scope s.1.1.size f cd c)
 N:=N
 zV:=s
 SQ:=H
 env:=jA qual scope s.1.1.size f cd c
 outer:=outer
 stack:=jA qual scope s.1.1.size f cd c::outer
 ex:=[]
 calm:=P'
 fn:=λx=>scope.2.lookup x==N' .cell
 pn:=[]
 xe:=λe j=>V5 (V3 P w) (A.deeper (jA qual scope s.1.1.size f cd c)) (leaving (jA qual scope s.1.1.size f cd c) e) (λ_ h=>CX outer H s E e h) (λe' h=>CX outer H s E e' h) j
 fz:=λx=>scope.2.lookup x==N' .free
noncomputable def v9(N ps:(iG))(c:List V):St:=VY ps.length O'++(c.map N'++VY (N.length-(ps.length+c.length)) O')
section
variable {CX:IU} {P:Program} {w:V6} {K:V7} {mg:(Str->o6)} {base:Heap} {N ps cs:(iG)} {qual:Str} {scope:Scope} {f:VZ} {cd:Value} {clos:(List (Str×VZ))} {A:WK} {outer:List Env} {s:Shared} {H:Hp} {E:XK} {cvs:List V}
def Hf(S:lZ N ps cs scope)(t:A.handled=O')(B:rd P w K mg base A outer s H)(C:oF H cs clos cvs):Inv (qN CX P w K mg base N qual scope f cd clos A outer s H E) [] (v9 N ps cvs) H {s with heap:=WQ (s.1.push {cls:=.type "frame",data:=.dict #[]}) scope.2}:=by
 have hpl:(ps++cs).length<=N.length:=by have:=congrArg W2 S.pre;rw[km]at this;lia
 rw[en]at hpl;have x:=C.len;have T:∀b o,s.1.get? b=N' o->(WQ (s.1.push {cls:=.type "frame",data:=.dict #[]}) scope.2).get? b=N' o:=λb o e=>qk _ _ _ _ (aV _ e);have O:∀b:VZ,b∉(qN CX P w K mg base N qual scope f cd clos A outer s H E).ex:=λb z=>absurd (show b∈([]:(mw))from z) (by simp);have F:(jA qual scope s.1.1.size f cd clos).cells=V_ (s.1.push {cls:=.type "frame",data:=.dict #[]}).objs.size scope.2 clos:=by rw[c9];rfl
 have L:∀{y c},(y,c)∈clos->∃v o,clos.lookup y=N' c/\H c=N' (.nX o (sr c v))/\c<s.1.1.size:=λ{y c} Y=>by obtain⟨i,X⟩:=tH (C.only y c Y);obtain⟨W,v,o,r,_,G⟩:=C.has i y X;have:=C.uniq y c Y;rw[r]at this;cases this;show#[v,o,r,G,B.fO.lt G]
 have J:∀{y c},(jA qual scope s.1.1.size f cd clos).cells.lookup y=N' c->(clos.lookup y=N' c/\c<s.1.1.size/\∃v o,H c=N' (.nX o (sr c v))/\scope.2.lookup y=N' .free)\/(scope.2.lookup y=N' .cell/\s.1.1.size+1<=c/\DA (WQ (s.1.push {cls:=.type "frame",data:=.dict #[]}) scope.2) c O'):=λ{y c} e=>by rw[F]at e;rcases lL (eR e)with Y|⟨r,j,G⟩;obtain⟨v,o,r,j,G⟩:=L Y;show .inl #[r,G,v,o,j,S.cap y (C.only y c Y)];rw[c9]at j;show .inr #[S.uniq _ r,j,G]
 have M:∀{y},scope.2.lookup y=N' .free->∃c v o,(jA qual scope s.1.1.size f cd clos).cells.lookup y=N' c/\clos.lookup y=N' c/\H c=N' (.nX o (sr c v)):=λ{y} d=>by obtain⟨i,X⟩:=tH (S.SS _ (eR d) S');obtain⟨c,v,o,r,_,G⟩:=C.has i y X;obtain⟨W,e'⟩:=mem_lookup (nu (names:=scope.2) (n:=(s.1.push {cls:=.type "frame",data:=.dict #[]}).objs.size) (eR r));rw[<-F]at e';rcases J e' with⟨D,_,v',o',q2,_⟩|⟨q,_⟩;rw[r]at D;cases D;show#[c,v,o,e',r,G];rw[d]at q;cases q
 apply#[#[B.mod,S.kind,S',S',aI _,λy z c r j=> ?_,λy Q=> ?_,λy c Z h=> ?_,λ_=>t,Around.frames_deeper B.frames,.inr #[S',S'],λb z=>absurd z (O b),B.bs,B.Iw,λb _ _=>O b,λb z=>absurd z (O b),B.r9,B.L5],
  rfl,B.bare,Un.kept T,#[λ_=>O',?_,λi y v r j G=> ?_],λy c h=> ?_,B.fO.fresh (aI _),λy c h=> ?_,λp V=>absurd (show p∈([]:(List (VZ×Obj)))from V) (by simp),B.fO.kept T,?_]
 have r:(jA qual scope s.1.1.size f cd clos).cells.lookup y=N' c:=r;have j:(jA qual scope s.1.1.size f cd clos).cells.lookup z=N' c:=j;rw[F]at r j;apply qw (λp V=> ?_) C.inj (eR r) (eR j);rw[c9];obtain⟨_,_,_,_,h⟩:=L (y:=p.1) (c:=p.2) V;show zQ h;show ∃c,(jA qual scope s.1.1.size f cd clos).cells.lookup y=N' c;have Q:scope.2.lookup y=N' .cell\/scope.2.lookup y=N' .free:=Q;rcases Q with Q|Q;obtain⟨c,hc⟩:=qu (n:=(s.1.push {cls:=.type "frame",data:=.dict #[]}).objs.size) (acc:=clos) (eR Q);rw[F];show mem_lookup hc;obtain⟨c,_,_,h,_⟩:=M Q;show#[c,h];have Z:(scope.2.lookup y==N' W_)=true:=Z;have Z:scope.2.lookup y=N' .cell:=by simpa using Z
 rcases J h with⟨_,_,_,_,_,q⟩|⟨_,q,_⟩;rw[Z]at q;cases q;show tP q;show Heap.Ns.keeps (Heap.Ns.new ..) λb o e=>qk _ _ _ _ e;have R:ps.length<=i/\i<ps.length+cs.length/\cvs[i-ps.length]?=N' v:=by
  unfold v9 at j;by_cases X:i<ps.length;rw[uC (by simpa using X),tF]at j;split at j<;>cases j;rw[vC (by simpa using X),n8]at j;by_cases g:i-ps.length<cvs.length;rw[uC (by simpa using g),cV]at j;apply#[by lia,by lia,?_];cases e:cvs[i-ps.length]? with
  |none=>rw[e]at j;cases j
  |some a=>rw[e]at j;cases j;rfl
  rw[vC (by simpa using g),tF]at j;split at j<;>cases j
 obtain⟨D,q2,q3⟩:=R;have U:cs[i-ps.length]?=N' y:=by
  have:(ps++cs)[i]?=N' y:=by rw[<-S.pre,zJ (by rw[en];lia)];show r
  rw[vC D]at this;show this
 obtain⟨c,v',o,r1,k,r3⟩:=C.has _ y U;rw[q3]at k;cases k;obtain⟨W,za,o',l1,l,l3⟩:=M (S.cap y (ka U));rw[r1]at l;cases l;obtain⟨_,⟨u,I,m⟩,_⟩:=(show gz P w H s.1 c (.nX o (sr c v))from B.fO c _ r3);show#[u,m,.inr #[.inr (S.cap y (ka U)),c,l1,I.keeps T]];rcases J h with⟨_,_,v,o,q,_⟩|⟨_,_,z⟩;obtain⟨_,⟨u,I,m⟩,_⟩:=(show gz P w H s.1 c (.nX o (sr c v))from B.fO c _ q);show#[_,I.keeps T];show#[_,z];rcases J h with⟨_,_,v,o,q,z⟩|⟨_,q,_⟩;apply .inr #[?_,o,_,q];show(scope.2.lookup y==N' Wr)=P';rw[z];rfl;show .inl (B.fO.fresh (tP q));unfold v9;show _=N.length;rw[en,en,aB,n8,n8];lia
end
noncomputable def setFrom(c:St):Nat->List V->St
 |_,[]=>c
 |j,v::vs=>setFrom (c.set j (N' v)) (j+1) vs
theorem v_:∀vs j c n,n=vs.length->setFrom (j++(VY n O'++c)) j.length vs=j++(vs.map N'++c)
 |[],j,c,n,h=>by subst h;simp[setFrom]
 |v::vs,j,c,n,h=>by subst h;rw[setFrom,dR,n_,ra,List.set_append_right _ _ (aI _),XU,Xz];have:=v_ vs (j++[N' v]) c vs.length S';rw[en,Y4,pF,List.singleton_append]at this;rw[this,pF];rfl
def Jc(N ps)(vs c)(h:vs.length=ps.length):setFrom (v9 N ps c) 0 vs=start N (vs++c):=by have:=v_ vs [] (c.map N'++VY (N.length-(ps.length+c.length)) O') ps.length h.symm;rw[mB,mB,jb]at this;unfold v9 start;rw[this,kq,pF,en,h]
theorem Bu(f:Str×Value->PUnit->Sem (ForInStep PUnit))(q:∀n v u,f (n,v) u=(do Zu X.env n v;pure (.yield ⟨⟩)))(y:X.N.Nodup):
  ∀(ps:(iG)) (us) (vs) (j) (σ) (s) (Q:PUnit->Shared->Prop),Inv X [] σ H s->Vals vs us->
   (∀(i) x,ps[i]?=N' x->X.N[j+i]?=N' x/\Loc X.env.1 x/\((X.fn x=P'/\X.fz x=Q')\/X.env.1.2.lookup x=N' .local))->vs.length=ps.length->
   (∀o,Inv X [] (setFrom σ j vs) H o->Q ⟨⟩ o)->V5 M A (forIn (ps.zip us) ⟨⟩ f) Q E s
 |[],us,vs,j,σ,s,Q,I,r,_,c,h=>by have:vs=[]:=C4.mp c;subst this;rw[List.zip_nil_left,rV];show aP (h s I)
 |p::ps,[],vs,j,σ,s,Q,I,r,_,c,h=>by have:=r.length;simp at this;subst this;simp at c
 |p::ps,u::us,[],j,σ,s,Q,I,r,_,c,h=>by simp at c
 |p::ps,u::us,v::vs,j,σ,s,Q,I,r,U,c,h=>by
  cases r with
  |cons B G=>
   obtain⟨J,L,O⟩:=U 0 p S';rw[q0,vg,q];apply ai (ai (nq I y (by simpa using J) L B (λo P=>aP ?_) O));apply Bu f q y ps us vs (j+1) _ o Q P G (λi x e=> ?_) (by simpa using c) h;have:=U (i+1) x (by simpa using e);rw[show j+(i+1)=j+1+i by lia]at this;show this
section
variable {CX:IU} {P:Program} {w:V6} {K:V7} {mg:(Str->o6)} {base:Heap} {N ps cs:(iG)} {qual:Str} {scope:Scope} {f:VZ} {cd:Value} {clos:(List (Str×VZ))} {A:WK} {outer:List Env} {s:Shared} {H:Hp} {E:XK} {cvs vs:List V} {us:(TyJ)}
def wa(S:lZ N ps cs scope)(B:A.handled=O')(G:rd P w K mg base A outer s H)(C:oF H cs clos cvs)(q:vs.length=ps.length)(r:Vals vs us)(h:∀j,Inv (qN CX P w K mg base N qual scope f cd clos A outer s H E) [] (start N (vs++cvs)) H j->R (jA qual scope s.1.1.size f cd clos) j):V5 (V3 P w) L (XD scope V1 clos (ps.zip us) (qual++".<locals>.") (N' f) cd O' WJ) R M s:=by
 simp![XD,Option.isSome_none,qZ,kr];apply ai (wpAny_alloc ?_);apply ai (wpAny_layCells _ (λname c cells=>by cases o:c==W_<;>simp[o]) _ _ _ _ ?_);rw[show({s with heap:=s.1.push {cls:=.type "frame",data:=.dict #[]}}:Shared).1.1.size=s.1.1.size+1 from c9 ..];have I:=Hf (CX:=CX) (qual:=qual) (f:=f) (cd:=cd) (E:=E) S B G C;have hpl:(ps++cs).length<=N.length:=by have:=congrArg W2 S.pre;rw[km]at this;lia
 rw[en]at hpl;apply ai (Bu (X:=qN CX P w K mg base N qual scope f cd clos A outer s H E) _ (λ_ _ _=>rfl) S.nd ps us vs 0 _ _ _ I r (λi x e=> ?_) q λj u=>aP ?_);have y:=ka e;have J:i<ps.length:=(ni.mp e).1;apply#[?_,S.par x y,?_];show N[0+i]?=N' x;rw[lG];have:(N.take (ps++cs).length)[i]?=N' x:=by rw[S.pre,uC J];show e
 rwa [zJ (by rw[en];lia)]at this;rcases S.par x y with k|k;show .inr k;apply .inl #[?_,?_];show(scope.2.lookup x==N' W_)=P';rw[k];rfl;show(scope.2.lookup x==N' Wr)=Q';rw[k];rfl;rw[Jc N ps vs cvs q]at u;show h j u
def Hg(S:lZ N ps cs scope)(B:fH (k+1) A)(j:rd P w K mg base A outer s H)(C:oF H cs clos cvs)(G:H f=N' (tZ f (Xb name qual params body scope clos pm (.ref c) ct)))(L:H c=N' (qM c qual))(M:vs.length=ps.length)(r:Vals vs us)(O:W8 (Xb name qual params body scope clos pm (.ref c) ct) #[us,[]]=pure (ps.zip us))(h:∃t,PE (qN CX P w K mg base N qual scope f (.ref c) clos A outer s H E) body t/\t (start N (vs++cvs)) H Q):WW (V3 P w) A (.call (.ref f) #[us,[]]) (CR CX outer P w H s Q E) s:=by obtain⟨o,_,_⟩:=(show gz P w H s.1 f (tZ f _)from j.fO f _ G);obtain⟨y,_,_⟩:=(show gz P w H s.1 c (qM c qual)from j.fO c _ L);apply kla_callFunE B.depth o S' S.co S.gen S' y ?_;rw[O];apply aP (wa (CX:=CX) (E:=E) S B.hd j C M r λU I=>#[I.nolimit,kla_codeExpr ?_]);obtain⟨t,X,Y⟩:=h;apply eM (X [] U _ H _ I Y) (λu Z #[v,H',J,rv,q]=> ?_) λe Z T=>T;show#[v,H',J.os,J.bare,J.base,J.fO,rv,q]
universe b
def Hh{k:Nat}{c:VZ}{name:Str}{params:Arguments}{body:(TyM)}{pm ct doc:Value}{Q:VK}(S:lZ N ps cs scope)(L:fH (k+1) A)(y:rd P w K mg base A outer s H)(C:oF H cs clos cvs)(M:H f=N' (tZ f (fnX name qual params body scope clos .none .none doc pm O' (.ref c) ct)))(O:H c=N' (qM c qual))(U:vs.length=ps.length)(r:Vals vs us)(X:W8 (fnX name qual params body scope clos .none .none doc pm O' (.ref c) ct) #[us,[]]=pure (ps.zip us))(h:∃t,gA (qN CX P w K mg base N qual scope f (.ref c) clos A outer s H E) body t/\t {nx:=λ_ o=>Q .bQ o,rt:=Q} (start N (vs++cvs)) H):WW (V3 P w) A (.call (.ref f) #[us,[]]) (CR CX outer P w H s Q E) s:=by
 obtain⟨B,_,_⟩:=(show gz P w H s.1 f (tZ f _)from y.fO f _ M);obtain⟨G,_,_⟩:=(show gz P w H s.1 c (qM c qual)from y.fO c _ O);apply Dd L.depth B S' S.co S.gen S' G ?_;rw[X];apply aP (wa (CX:=CX) (E:=E) S L.hd y C U r λY I=>#[I.nolimit,ZM ?_]);obtain⟨t,Z,T⟩:=h;apply eM (Z [] Y _ H _ I T) (λF D j=> ?_) λe D j=>j;cases F with
 |ret u=>
  obtain⟨v,σ',o,J,V,q⟩:=j;show#[v,o,J.os,J.bare,J.base,J.fO,V,q]
 |next=>
  obtain⟨σ',o,J,q⟩:=j;show#[.bQ,o,J.os,J.bare,J.base,J.fO,S',q]
 |brk=>
  obtain⟨_,_,_,q⟩:=j;show V8 q
 |cont=>
  obtain⟨_,_,_,q⟩:=j;show V8 q
def Mw(j:Passes CX X o)(I:Inv X pins σ H s)(h:WW (V3 X.1 X.w) X.A (.call (.ref f) #[us,[]]) (CR CX X.stack X.1 X.w H s Q o) s):V5 (V3 X.1 X.w) X.A (call (.ref f) us) (EP X pins σ Q) X.xe s:=by
 apply wpAny_call (rX h λr q c=> ?_);cases r with
 |error e=>show j pins σ H s e q I c
 |ok y=>
  cases y with
  |ret u=>show I.after c
  |next=>show V8 c
  |brk=>show V8 c
  |cont=>show V8 c
end
def PB(X:Cx)(c:(TyM))(t:TS):Prop:=∀(s:Shared) (σ:St) (H:Hp) (D:Ends),Inv X [] σ H s->t D σ H->V5 (V3 X.1 X.w) X.A (execs c X.env) (λf h=>∃z,SP (X.frozen z) [] D f h) X.xe s
def PB.of{X:Cx}{c:(TyM)}{t:TS}(h:gA X c t):PB X c t:=λs σ H D I q=>d7 (h [] s σ H D I q) λf j q=>#[X.fz,q]
universe b
def PB.cons{X:Cx}{j:Stmt}{c:(TyM)}{t u:TS}(o:PS X j t)(r:PB X c u):PB X (j::c) (Tn t u):=by
 intro s y H D I h;apply YA (d7 (o [] s y H {D with nx:=u D} I h) λf B q=> ?_);cases f with
 |next=>
  obtain⟨σ',E,G,q⟩:=q;show r B σ' E D G q
 |ret v=>show#[X.fz,q]
 |brk=>show#[X.fz,q]
 |cont=>show#[X.fz,q]
def aa1(X:Cx)(ns:List (Nat×Str))(u:TS):TS:=λD σ H=>(∀p∈ns,∃v,σ[p.1]?=N' (N' v))/\∀c,Hd X σ ns H c->u D σ c
universe a
def PB.freeze{X:Cx}{o:(TyM)}{u:TS}{z:Str->Bool}{ns:List (Nat×Str)}(h:PB (X.frozen z) o u)(r:∀x,X.fz x=Q')(B:∀p∈ns,z p.2=P')(E:∀p∈ns,X.fn p.2=P')(G:∀p∈ns,X.N[p.1]?=N' p.2)(J:∀p∈ns,X.env.1.2.lookup p.2=N' .cell)(L:(ns.map (·.2)).Nodup):PB X o (aa1 X ns u):=by
 intro s M H D I ⟨hv,q⟩;have O:=I.aaY z λx e=>by rw[r x]at e;cases e
 obtain⟨y,f,P⟩:=Inv.EM O (λp j=>#[B p j,E p j,G p j,J p j]) L hv λp j c Q=>by rcases I.nk _ _ Q with n|⟨e,_⟩;show n;rw[r]at e;cases e
 show h s M y D P (q y f)
universe b
def Qa{CX:IU}{P:Program}{w:V6}{K:V7}{mg:(Str->o6)}{base:Heap}{k:Nat}{f:VZ}{name qual:Str}{params:Arguments}{body:(TyM)}{scope:Scope}{F D doc pm h ct d:Value}{V g:Option VZ}{U:Array ((o6))}{N ps:(iG)}{X:Sp}(i:K.lookup f=N' #[d,g,.func (fnOf name qual params body scope F D doc pm V h ct),U])(Y:codeIn K h qual=P')(S:fi N ps scope)(L:∀vs H Q E,X vs H Q E->vs.length=ps.length)(j:∀(A) (c) (s) (H) (vs) (Q:VK) (E:XK),fH k (A.deeper (XG qual scope s.1.1.size f h))->X vs H Q E->∃t,PB (pI CX P w K mg base N qual scope f h A c s H E) body t/\t {nx:=λ_ M=>Q .bQ M,rt:=Q} (start N vs) H):gX P w K mg base CX (k+1) f (fnOf name qual params body scope F D doc pm V h ct) ps X:=by
 apply#[L,λA c s H R us vs Q E Z T l r O=> ?_];have m:=L _ _ _ _ O;have W:K.In s.heap:=T.mod.Pe.keeps λb o e=>(T.bs b o e).1;have B:∀y∈ps.zip us,scope.2.lookup y.1=N' .local\/(scope.2.lookup y.1=N' .cell/\((V_ (s.1.1.size+1) scope.2 []).lookup y.1).isSome=P'):=λC p=>by
  obtain⟨n,v⟩:=C;rcases S.par n (mD p).1 with q|q
  ·show .inl q
  ·show .inr #[q,YX _ _ _ (.inl q)]
 apply Dd Z.depth (W _ _ i) S' S.co S.gen S' (codeRec_of W Y) (l _ _ _ _ ?_);apply YS S.kind B λenv he a x=> ?_;subst he;obtain⟨t,ht,hq⟩:=j A c s H vs Q E (Z.deeper _) O;have I:Inv (pI CX P w K mg base N qual scope f h A c s H E) [] (start N vs) H a:=yD S Z.hd T m r x;apply#[I.nolimit,ZM ?_];apply eM (ht a (start N vs) H _ I hq) (λfl s' #[z,G]=> ?_) λe s' G=>G;cases fl with
 |ret u=>
  obtain⟨v,σ',M,J,rv,q⟩:=G;show#[v,M,J.os,J.bare,J.base,J.fO,rv,q]
 |next=>
  obtain⟨σ',M,J,q⟩:=G;show#[.bQ,M,J.os,J.bare,J.base,J.fO,S',q]
 |brk=>
  obtain⟨_,_,_,q⟩:=G;show V8 q
 |cont=>
  obtain⟨_,_,_,q⟩:=G;show V8 q
local macro_rules
 | `(tactic|trivial)=> `(tactic|(change @Ne Nat _ _;lia))
abbrev j9(h:Heap)(t:VZ)(a b c:Value):Prop:=h.get? t=N' {cls:=.type "tuple",data:=.seq (List.toArray [a,b,c])}
universe a
def xG(a b c):checkTypeCall "zip" #[[a,b,c],[]]=pure ⟨⟩:=by kernel_rfl
def Aa(a b c):checkBuiltinCall "zip.__new__" #[[.type "zip",a,b,c],[]]=pure ⟨⟩:=by kernel_rfl
def DB(a b c d):argsOk "object.__init__" #[[a,b,c,d],[]]:=by unfold argsOk;rw[signature?_of (id:="object.__init__") (n:=['_','_','t','i','n','i','_','_']) (o:=['t','c','e','j','b','o']) (by kernel_rfl) F.owner_object];kernel_rfl
def su{t:VZ}{a b c x:Value}{k:Nat}{Q:Unit->Shared->Prop}(j:j9 s.1 t a b c)(h:∀h',h'.get? t=N' {cls:=.type "tuple",data:=.seq (((List.toArray [a,b,c]):Array Value).setIfInBounds k x)}->XQ t s.1 h'->Q ⟨⟩ {s with heap:=h'}):V5 (V3 P w) A (updateSeq t (·.setIfInBounds k x)) Q E s:=by apply wpAny_updateSeq j S' (h _ ?_ (Heap.SameBut.update ..));rw[Y7 _ j S'];simp[XR]
structure Z3(h:Heap)(I a b c n:Nat):Prop where
 z:Yr h (I+5) (I+3) (I+4) .none
 ti:j9 h (I+3) (.ref I) (.ref (I+1)) (.ref (I+2))
 to:∃x y u,j9 h (I+4) x y u
 i1:h.IsListIter I a n
 i2:h.IsListIter (I+1) b n
 i3:h.IsListIter (I+2) c n
def Hi(I:Nat)(h h':Heap):Prop:=∀q o,q≠I+5->q≠I+4->q≠I->q≠I+1->q≠I+2->h.get? q=N' o->h'.get? q=N' o
def Mx{xs ys us:Array Value}{x y u:Value}{Q:(Value->Shared->Prop)}(la:a<I)(lb:b<I)(lc:c<I)(S:Z3 s.1 I a b c n)(h1:s.1.IsList a xs)(h2:s.1.IsList b ys)(h3:s.1.IsList c us)(hx:xs[n]?=N' x)(hy:ys[n]?=N' y)(hu:us[n]?=N' u)(hQ:∀h',Yr h' (I+5) (I+3) (I+4) (WD s.1.1.size)->j9 h' (I+4) x y u->h'.IsListIter I a (n+1)->h'.IsListIter (I+1) b (n+1)->h'.IsListIter (I+2) c (n+1)->j9 h' s.1.1.size x y u->Hi I s.1 h'->Q (.ref s.1.1.size) {s with heap:=h'}):V5 (V3 P w) A (Builtin.«zip.__next__» #[[.ref (I+5)],[]]) (λF s'=>∃v,F=.done (.ret v)/\Q v s') E s:=by
 obtain⟨L,D,⟨p0,V,M,R⟩,j1,j2,j3⟩:=S;show V5 _ _ (field (.ref (I+5)) 2>>=_) _ _ _;apply ai (mK L S' (x:=.bool Q') S' ?_);apply ai (mK L S' (x:=.ref (I+3)) S' (ai (mI D S' ?_)));apply ai ?_;unfold Xm;apply ai (mK L S' (x:=.none) S' (aP ?_));simp![dC];apply ai (wpAny_rule (ai (mK L S' (x:=.ref (I+4)) S' (ai (vM L (by simp) λg1 K X=>ai ?_)))));simp![X4,j',vg,rV];replace K:Yr g1 (I+5) (I+3) (I+4) .ellipsis:=K;apply ai (ai (ql ?_));apply ai (vJ (j1.extBut X.extBut (by trivial)) (h1.extBut X.extBut (by trivial)) hx λg2 k1 N=>aP ?_);have O:∀q o,q≠I+5->q≠I->s.1.get? q=N' o->g2.get? q=N' o:=λq o h j e=>N.extBut _ _ j (X.extBut _ _ h e);have t2:j9 g2 (I+4) p0 V M:=O _ _ (by trivial) (by trivial) R;apply ai (mI t2 S' (ai (su t2 λW d Y=>ai (r0 (aP ?_)))));replace d:j9 W (I+4) x V M:=d;have r:∀q o,q≠I+5->q≠I+4->q≠I->s.1.get? q=N' o->W.get? q=N' o:=λq o h j U e=>Y.extBut _ _ j (O q o h U e);apply ai (ai (ql ?_));apply ai (vJ (j2.at λo e=>r _ o (by trivial) (by trivial) (by trivial) e) (h2.at λo e=>r _ o (by trivial) (by trivial) (by trivial) e) hy λg4 k4 f=>aP ?_);have t4:j9 g4 (I+4) x V M:=f.extBut _ _ (by trivial) d;apply ai (mI t4 S' (ai (su t4 λg i k=>ai (r0 (aP ?_)))));replace i:j9 g (I+4) x y M:=i;have B:∀q o,q≠I+4->q≠I+1->W.get? q=N' o->g.get? q=N' o:=λq o h j e=>k.extBut _ _ h (f.extBut _ _ j e);apply ai (ai (ql ?_));apply ai (vJ (j3.at λo e=>B _ o (by trivial) (by trivial) (r _ o (by trivial) (by trivial) (by trivial) e)) (h3.at λo e=>B _ o (by trivial) (by trivial) (r _ o (by trivial) (by trivial) (by trivial) e)) hu λg6 k6 l=>aP ?_);have t6:j9 g6 (I+4) x y M:=l.extBut _ _ (by trivial) i;apply ai (mI t6 S' (ai (su t6 λH Z m=>ai (r0 (aP (aP ?_))))));replace Z:j9 H (I+4) x y u:=Z;have J:∀q o,q≠I+4->q≠I+2->g.get? q=N' o->H.get? q=N' o:=λq o h j e=>m.extBut _ _ h (l.extBut _ _ j e);apply ai (mI Z S' (ai (wpAny_newTuple ?_)));have sz:H.objs.size=s.1.1.size:=by rw[m.1,l.1,k.1,f.1,Y.1,N.1,X.1]
 have z7:Yr H (I+5) (I+3) (I+4) .ellipsis:=J _ _ (by trivial) (by trivial) (B _ _ (by trivial) (by trivial) (Y.extBut _ _ (by trivial) (N.extBut _ _ (by trivial) K)));have o7:Hi I s.1 H:=λq o h j U p t e=>J q o j t (B q o j p (r q o h j U e));have zl:I+5<H.objs.size:=aR z7;apply ai ?_;unfold Builtin.SmallTypes.ownedTupleHandOut;apply ai (vM (aV _ z7) (by simp) λg8 z e8=> ?_);replace z:Yr g8 (I+5) (I+3) (I+4) (WD H.objs.size):=z;apply vM z (by simp) λT C e9=> ?_;replace C:Yr T (I+5) (I+3) (I+4) (WD H.objs.size):=C;have G:∀q o,q≠I+5->H.get? q=N' o->T.get? q=N' o:=λq o h e=>e9.extBut _ _ h (e8.extBut _ _ h (aV _ e));have tn:j9 T H.objs.size x y u:=e9.extBut _ _ (by trivial) (e8.extBut _ _ (by trivial) (dO _ S'));apply aP #[_,S',?_];rw[sz]at C tn|-;apply hQ T C (G _ _ (by trivial) Z) (k1.at λo e=>G _ o (by trivial) (J _ o (by trivial) (by trivial) (B _ o (by trivial) (by trivial) (Y.extBut _ _ (by trivial) e)))) (k4.at λo e=>G _ o (by trivial) (J _ o (by trivial) (by trivial) (k.extBut _ _ (by trivial) e))) (k6.at λo e=>G _ o (by trivial) (m.extBut _ _ (by trivial) e)) tn λq o h j U p t e=>G q o h (o7 q o h j U p t e)
def Qb{xs R us:Array Value}{Q:Fin->Shared->Prop}(K:A.handled=O')(la:a<I)(lb:b<I)(lc:c<I)(S:Z3 s.1 I a b c n)(h1:s.1.IsList a xs)(h2:s.1.IsList b R)(h3:s.1.IsList c us)(L:xs[n]?=O'\/R[n]?=O'\/us[n]?=O')(hE:∀h' e,Hi I s.1 h'->(∃o,h'.get? e=N' o/\o.cls=.type "StopIteration")->E (.ref e) {s with heap:=h'}):V5 (V3 P w) A (Builtin.«zip.__next__» #[[.ref (I+5)],[]]) Q E s:=by
 obtain⟨M,N,⟨p0,W,d,f⟩,j1,j2,j3⟩:=S;have G:∀g e,Yr g (I+5) (I+3) (I+4) .ellipsis->Hi I s.1 g->(∃o,g.get? e=N' o/\o.cls=.type "StopIteration")->V5 (V3 P w) A (setField (.ref (I+5)) 0 .none) (λ_ s'=>E (.ref e) s') E {s with heap:=g}:=λg e z k i=>by
  obtain⟨oe,H,O⟩:=i;have ne:e≠I+5:=λq=>by subst q;rw[z]at H;cases H;simp at O
  show vM z (by simp) λg' _ e'=>hE g' e (λq o h r u U l x=>e'.extBut _ _ h (k q o h r u U l x)) #[oe,e'.extBut _ _ ne H,O]
 show V5 _ _ (field (.ref (I+5)) 2>>=_) _ _ _;apply ai (mK M S' (x:=.bool Q') S' ?_);apply ai (mK M S' (x:=.ref (I+3)) S' (ai (mI N S' ?_)));apply ai ?_;unfold Xm;apply ai (mK M S' (x:=.none) S' (aP ?_));simp![dC];apply ai (wpAny_rule (ai (mK M S' (x:=.ref (I+4)) S' (ai (vM M (by simp) λg1 F J=>ai ?_)))));simp![X4,j',vg,rV];replace F:Yr g1 (I+5) (I+3) (I+4) .ellipsis:=F;apply ai (ai (ql ?_));cases m:xs[n]? with
 |none=>
  apply ai (De K (j1.extBut J.extBut (by trivial)) (h1.extBut J.extBut (by trivial)) m λD e X he=> ?_);show G D e (X _ _ (by trivial) F) (λq o h _ u _ _ x=>X _ _ u (J.extBut _ _ h x)) he
 |some x=>
  apply ai (vJ (j1.extBut J.extBut (by trivial)) (h1.extBut J.extBut (by trivial)) m λD k1 X=>aP ?_);have Y:∀q o,q≠I+5->q≠I->s.1.get? q=N' o->D.get? q=N' o:=λq o h r e=>X.extBut _ _ r (J.extBut _ _ h e);have t2:j9 D (I+4) p0 W d:=Y _ _ (by trivial) (by trivial) f;apply ai (mI t2 S' (ai (su t2 λV p e3=>ai (r0 (aP ?_)))));replace p:j9 V (I+4) x W d:=p;have j:∀q o,q≠I+5->q≠I+4->q≠I->s.1.get? q=N' o->V.get? q=N' o:=λq o h r u e=>e3.extBut _ _ r (Y q o h u e);have z3:Yr V (I+5) (I+3) (I+4) .ellipsis:=e3.extBut _ _ (by trivial) (X.extBut _ _ (by trivial) F);apply ai (ai (ql ?_));have Z:=j2.at λo e=>j _ o (by trivial) (by trivial) (by trivial) e;have T:=h2.at λo e=>j _ o (by trivial) (by trivial) (by trivial) e;cases t:R[n]? with
  |none=>
   apply ai (De K Z T t λv e C he=> ?_);show G v e (C _ _ (by trivial) z3) (λq o h r u U _ x=>C _ _ U (j q o h r u x)) he
  |some y=>
   have hu:us[n]?=none:=by rcases L with q|q|q;rw[m]at q;cases q;rw[t]at q;cases q;show q
   apply ai (vJ Z T t λv k4 C=>aP ?_);have t4:j9 v (I+4) x W d:=C.extBut _ _ (by trivial) p;apply ai (mI t4 S' (ai (su t4 λg5 t5 e5=>ai (r0 (aP ?_)))));have B:∀q o,q≠I+4->q≠I+1->V.get? q=N' o->g5.get? q=N' o:=λq o h r e=>e5.extBut _ _ h (C.extBut _ _ r e);apply ai (ai (ql ?_));apply ai (De K (j3.at λo e=>B _ o (by trivial) (by trivial) (j _ o (by trivial) (by trivial) (by trivial) e)) (h3.at λo e=>B _ o (by trivial) (by trivial) (j _ o (by trivial) (by trivial) (by trivial) e)) hu λg6 e e6 he=> ?_);show G g6 e (e6 _ _ (by trivial) (B _ _ (by trivial) (by trivial) z3)) (λq o h r u U l x=>e6 _ _ l (B q o r U (j q o h r u x))) he
local macro_rules
 | `(tactic|trivial)=> `(tactic|(change @Ne Nat _ _;lia))
def Hj{xs h us:Array Value}{x y u:Value}{Q:(o6)->Shared->Prop}(o:a<I)(q:b<I)(r:c<I)(S:Z3 s.1 I a b c n)(B:s.1.IsList a xs)(G:s.1.IsList b h)(H:s.1.IsList c us)(J:xs[n]?=N' x)(L:h[n]?=N' y)(M:us[n]?=N' u)(O:∀h',Yr h' (I+5) (I+3) (I+4) (WD s.1.1.size)->j9 h' (I+4) x y u->h'.IsListIter I a (n+1)->h'.IsListIter (I+1) b (n+1)->h'.IsListIter (I+2) c (n+1)->j9 h' s.1.1.size x y u->Hi I s.1 h'->Q (N' (.ref s.1.1.size)) {s with heap:=h'}):V5 (V3 P w) A (YT (.ref (I+5))) Q E s:=by have j:s.TypeIs (.ref (I+5)) "zip":=#[_,S.z,S'];unfold YT;show ai (wpAny_attempt (Zt (name:=Str.ofString "__next__") j vf (wpAny_call_entry vf j F.entry_zip_next (Mx o q r S B G H J L M λh' U X Y Z T C D=>aP (O h' U X Y Z T C D)) (F.args_zip_next_1 _))))
def Jd{xs j us:Array Value}{Q:(o6)->Shared->Prop}(r:A.handled=O')(u:a<I)(y:b<I)(B:c<I)(S:Z3 s.1 I a b c n)(G:s.1.IsList a xs)(H:s.1.IsList b j)(J:s.1.IsList c us)(h:xs[n]?=O'\/j[n]?=O'\/us[n]?=O')(L:∀h',Hi I s.1 h'->Q O' {s with heap:=h'}):V5 (V3 P w) A (YT (.ref (I+5))) Q E s:=by have q:s.TypeIs (.ref (I+5)) "zip":=#[_,S.z,S'];unfold YT;apply ai (wpAny_attempt (Zt (name:=Str.ofString "__next__") q vf (wpAny_call_entry vf q F.entry_zip_next (Qb r u y B S G H J h λh' e M #[o,ho,hc]=> ?_) (F.args_zip_next_1 _))));show ai (wpAny_isInstance (T:="StopIteration") (b:=P') #[o,ho,hc] isSubtype_stop (aP (L _ M)))
noncomputable abbrev Qc(l:VZ):Obj:={cls:=.type "list_iterator",data:=.fields (List.toArray [.ref l,.int 0 0])}
abbrev z3A(h:Heap)(a:VZ):Heap:=h.push (Qc a)
abbrev z3B(h:Heap)(a b:VZ):Heap:=(z3A h a).push (Qc b)
abbrev z3C(h:Heap)(a b c:VZ):Heap:=(z3B h a b).push (Qc c)
abbrev z3D(h:Heap)(a b c:VZ):Heap:=(z3C h a b c).push {cls:=.type "tuple",data:=.seq (List.toArray [.ref h.objs.size,.ref (z3A h a).objs.size,.ref (z3B h a b).objs.size])}
abbrev z3E(h:Heap)(a b c:VZ):Heap:=(z3D h a b c).push {cls:=.type "tuple",data:=.seq (List.toArray [.none,.none,.none])}
abbrev Qd(h:Heap)(a b c:VZ):Heap:=(z3E h a b c).push {cls:=.type "zip",data:=.fields (List.toArray [.none,.bool Q',.bool Q',.ref (z3C h a b c).objs.size,.ref (z3D h a b c).objs.size])}
def DC(a b c)(xs q us:Array Value):Meets (Builtin.«zip.__new__» #[[.type "zip",.ref a,.ref b,.ref c],[]]) (λ_ R s=>s.1.IsList a xs/\s.1.IsList b q/\s.1.IsList c us/\R (.ok (.ret (.ref (z3E s.1 a b c).objs.size))) {s with heap:=Qd s.1 a b c}):=.of_wp λprog w A R s h=>by obtain⟨j,g,d,tk,o⟩:=s;obtain⟨u,y,B,h⟩:=h;have r:=sub_zip;have E:Zh (Shared.heap #[j,g,d,tk,o]) a xs:=u;have G:Zh (Shared.heap #[j.push {cls:=.type "list_iterator",data:=.fields (List.toArray [.ref a,.int 0 0])},g,d,tk,o]) b q:=Ys y _;have H:Zh (Shared.heap #[(j.push {cls:=.type "list_iterator",data:=.fields (List.toArray [.ref a,.int 0 0])}).push {cls:=.type "list_iterator",data:=.fields (List.toArray [.ref b,.int 0 0])},g,d,tk,o]) c us:=Ys (Ys B _) _;wp_walk using zR E,zR G,zR H;show#[_,S',h]
def Hk{xs H us:Array Value}{Q:(Value->Shared->Prop)}(X:s.1.IsList a xs)(Y:s.1.IsList b H)(Z:s.1.IsList c us)(h:∀h',Z3 h' s.1.1.size a b c 0->(∀q o,s.1.get? q=N' o->h'.get? q=N' o)->Q (.ref (s.1.1.size+5)) {s with heap:=h'}):V5 (V3 P w) A (call (.type "zip") [.ref a,.ref b,.ref c]) Q E s:=by
 apply callType_new F.called_zip () (xG _ _ _) (Aa _ _ _) (λj=>DB j _ _ _) F.entry_zip_new (DC a b c xs H us) #[X,Y,Z,?_];have r:(z3A s.1 a).objs.size=s.1.1.size+1:=c9 ..;have u:(z3B s.1 a b).objs.size=s.1.1.size+2:=by rw[c9,r]
 have y:(z3C s.1 a b c).objs.size=s.1.1.size+3:=by rw[c9,u]
 have B:(z3D s.1 a b c).objs.size=s.1.1.size+4:=by rw[c9,y]
 have J:(z3E s.1 a b c).objs.size=s.1.1.size+5:=by rw[c9,B]
 have T:(Qd s.1 a b c).get? s.1.1.size=N' _:=aV _ (aV _ (aV _ (aV _ (aV _ (dO _ S')))));have L:(Qd s.1 a b c).get? (z3A s.1 a).objs.size=N' _:=aV _ (aV _ (aV _ (aV _ (dO _ S'))));have M:(Qd s.1 a b c).get? (z3B s.1 a b).objs.size=N' _:=aV _ (aV _ (aV _ (dO _ S')));have O:(Qd s.1 a b c).get? (z3C s.1 a b c).objs.size=N' _:=aV _ (aV _ (dO _ S'));have U:(Qd s.1 a b c).get? (z3D s.1 a b c).objs.size=N' _:=aV _ (dO _ S');have G:(Qd s.1 a b c).get? (z3E s.1 a b c).objs.size=N' _:=dO _ S';rw[y,B,J]at G;rw[r,u,y]at O;rw[B]at U;rw[u]at M;rw[r]at L;rw[J];show#[#[_,G,S'],h _ #[G,O,#[_,_,_,U],#[_,T,S',S'],#[_,L,S',S'],#[_,M,S',S']] λq o x=>aV _ (aV _ (aV _ (aV _ (aV _ (aV _ x)))))]
def Qe(K:V7)(a b c:VZ):It:=#[λi H=>∃(xs h us:List V) (x y u:V),cQ K H a xs/\cQ K H b h/\cQ K H c us/\xs[i]?=N' x/\h[i]?=N' y/\us[i]?=N' u,
  λi H v j=>∃T x y u,v=.ref T/\H T=O'/\j=upd H T (.tup [x,y,u])/\(∀xs,cQ K H a xs->xs[i]?=N' x)/\(∀h,cQ K H b h->h[i]?=N' y)/\∀us,cQ K H c us->us[i]?=N' u,
  λi H=>∃xs h us:List V,cQ K H a xs/\cQ K H b h/\cQ K H c us/\(xs.length<=i\/h.length<=i\/us.length<=i)]
def Hl{P:Program}{w:V6}{K:V7}{R:(k_)}{kk:Nat}{S:Pos}{a b c I:VZ}(la:a<I)(lb:b<I)(lc:c<I):Turn P w K (.Tuple R kk S) (Qe K a b c) [I+5,I+3,I+4,I,I+1,I+2] (I+5) (λi h=>Z3 h I a b c i) where
 mem:=by simp
 obj:=λi h za q f=>by
  obtain⟨hz,U,⟨x,y,u,Y⟩,⟨o1,e1,_,d1⟩,⟨o2,e2,_,d2⟩,⟨o3,e3,_,d3⟩⟩:=za;have e':q=I+5\/q=I+3\/q=I+4\/q=I\/q=I+1\/q=I+2:=by simpa using f
  rcases e' with z|z|z|z|z|z;rw[z];show#[_,hz,λv q=>nomatch q];rw[z];show#[_,U,λv q=>nomatch q];rw[z];show#[_,Y,λv q=>nomatch q];rw[z];show#[o1,e1,λv q=>by rw[d1]at q;cases q];rw[z];show#[o2,e2,λv q=>by rw[d2]at q;cases q];rw[z];show#[o3,e3,λv q=>by rw[d3]at q;cases q]
 keep:=λi h h' #[hz,U,#[x,y,u,Y],h1,h2,h3] k=>
  #[k _ (by simp) _ hz,k _ (by simp) _ U,#[x,y,u,k _ (by simp) _ Y],h1.at λo q=>k I (by simp) o q,h2.at λo q=>k (I+1) (by simp) o q,h3.at λo q=>k (I+2) (by simp) o q]
 item:=by
  intro X hP hw hK hc i pins s σ H E J g Z hg;subst hP hw hK;obtain⟨xs,ys,us,x,y,u,B,G,L,hx,hy,hu⟩:=hg;obtain⟨N,rv,p,_⟩:=J.list B;obtain⟨M,T,p2,_⟩:=J.list G;obtain⟨O,C,p3,_⟩:=J.list L;obtain⟨m,zb,rx⟩:=rv.get hx;obtain⟨n,zc,ry⟩:=T.get hy;obtain⟨t,zd,ru⟩:=C.get hu;have F:I+5<s.1.1.size:=aR Z.z;apply Hj la lb lc Z p.isList p2.isList p3.isList (x:=m) (y:=n) (u:=t) (by simpa using zb) (by simpa using zc) (by simpa using zd) λh' z' h2' zf zg new hT hk=> ?_;apply#[_,S',Za (s:={s with heap:=h'}) z' λD st5 V=> ?_];have zh:j9 D s.1.1.size m n t:=(V.2 _ (XW F)).trans hT;have ze:gz X.1 X.w (upd H s.1.1.size (.tup [x,y,u])) D s.1.1.size (.tup [x,y,u]):=
   #[by show 3<=sizeLine;decide,[m,n,t],.cons rx (.cons ry (.cons ru .nil)),#[_,zh,S',_,S']]
  have I1:Inv X pins σ (upd H s.1.1.size (.tup [x,y,u])) {s with heap:=D}:=
   J.tY (t':=s.4) (ch:=[I+5,I+3,I+4,I,I+1,I+2]) (λq o r e=>(V.2 q (λj=>r (by simp[j]))).trans (hk q o (λj=>r (by simp[j])) (λj=>r (by simp[j])) (λj=>r (by simp[j])) (λj=>r (by simp[j])) (λj=>r (by simp[j])) e)) g (aI _) ze
  apply#[.ref s.1.1.size,_,I1,S',#[_,x,y,u,S',J.fO.fresh (aI _),S',λl W=>by rw[J.kA W B];show hx,λl W=>by rw[J.kA W G];show hy,λl W=>by rw[J.kA W L];show hu],#[st5,?_,#[m,n,t,?_],?_,?_,?_],λq f=> ?_];show(V.2 _ (by trivial)).trans (hk _ _ (by trivial) (by trivial) (by trivial) (by trivial) (by trivial) Z.ti);show(V.2 _ (by trivial)).trans h2';show zf.at λo q=>(V.2 _ (by trivial)).trans q;show zg.at λo q=>(V.2 _ (by trivial)).trans q;show new.at λo q=>(V.2 _ (by trivial)).trans q;have zl:q<s.1.1.size:=by
   have e':q=I+5\/q=I+3\/q=I+4\/q=I\/q=I+1\/q=I+2:=by simpa using f
   have F:@LT.lt Nat _ (I+5) s.1.1.size:=F;show @LT.lt Nat _ q s.1.1.size;rcases e' with z|z|z|z|z|z<;>(rw[z];lia)
  rw[aq (cH zl)];show(g q f).1
 done:=by
  intro X hP hw hK hc i pins s σ H E J g Z hg;subst hP hw hK;obtain⟨xs,ys,us,B,G,L,d⟩:=hg;obtain⟨N,rv,p,_⟩:=J.list B;obtain⟨M,T,p2,_⟩:=J.list G;obtain⟨O,C,p3,_⟩:=J.list L;have l1:=rv.length;have l2:=T.length;have l3:=C.length;have he:N.toArray[i]?=O'\/M.toArray[i]?=O'\/O.toArray[i]?=none:=by rcases d with q|q|q;show .inl (by simp;lia);show .inr (.inl (by simp;lia));show .inr (.inr (by simp;lia))
  show Jd (J.ok.hd hc) la lb lc Z p.isList p2.isList p3.isList he λh' hk=>#[S',J.EL (t':=s.4) (ch:=[I+5,I+3,I+4,I,I+1,I+2]) (λq o r e=>
   hk q o (λj=>r (by simp[j])) (λj=>r (by simp[j])) (λj=>r (by simp[j])) (λj=>r (by simp[j])) (λj=>r (by simp[j])) e) g]
 self:=λA i s Q E Z h=>ve Z.z h
def T8(K:V7)(j:TA):TI:=λσ H R=>j σ H λvs h=>∃a b c xs o us,vs=[.ref a,.ref b,.ref c]/\cQ K h a xs/\cQ K h b o/\cQ K h c us/\R (Qe K a b c) h
def My{X:Cx}{e o u:Expr}{P:TA}{p pos y:Pos}{B:(k_)}{D:Nat}(V:Gl X "zip")(S:X.mg "zip"=O')(A:PA X [e,o,u] P)(N:V2 [e,o,u] X.env=(Q',Wo e X.env)::V2 [o,u] X.env:=by rfl)(hpl:(Wz pos (V2 [o,u] X.env)).any (·.1)=false:=by rfl):
  PI X (.Tuple B D y) (.Call (.Name "zip" p) [e,o,u] [] pos) (T8 X.K P):=by
 intro pins s Q H R I h
 apply I' (oz I V S yG (uB (d7 (A pos pins s Q H _ I h) λus j #[vs,H1,I1,r1,q1]=> ?_) N hpl))
 obtain⟨a,b,c,xs,n,t,W,J,L,M,q⟩:=q1
 subst W
 cases r1 with
 |cons r E=>
  cases E with
  |cons d E=>
   cases E with
   |cons O E=>
    cases E
    cases r
    cases d
    cases O
    obtain⟨f,v,U,_⟩:=I1.list J
    obtain⟨Y,g,Z,_⟩:=I1.list L
    obtain⟨T,i,C,_⟩:=I1.list M
    apply Hk U.isList Z.isList C.isList λh' F k=>ve F.z ?_
    have l:Inv X pins Q H1 {j with heap:=h'}:=I1.kept (t':=j.toks) k
    apply#[j.1.1.size+5,[j.1.1.size+5,j.1.1.size+3,j.1.1.size+4,j.1.1.size,j.1.1.size+1,j.1.1.size+2],_,_,H1,S',l,Hl U.lt Z.lt C.lt,F,λq m=> ?_,q]
    have e':q=j.1.1.size+5\/q=j.1.1.size+3\/q=j.1.1.size+4\/q=j.1.1.size\/q=j.1.1.size+1\/q=j.1.1.size+2:=by simpa using m
    have G:j.1.1.size<=q:=by rcases e' with z|z|z|z|z|z<;>(rw[z];lia)
    show I1.Bj G (I1.fO.fresh G)
def tRetN:TS:=λD _ H=>D.rt .bQ H
def ps_retN:PS X (.Return O' pos) tRetN:=λ_ _ σ H _ I h=>wpAny_Return_none #[.bQ,σ,H,I,S',h]
def InOp(X:Cx)(h:W9)(j:V->V->Hp->VK->Prop):Prop:=∀(pins:TyC) (s:Shared) (σ:St) (H:Hp) (x y:V) (u v:Value) (Q:VK),Inv X pins σ H s->RelV x u->RelV y v->j x y H Q->V5 (V3 X.1 X.w) X.A (WC h u v) (EP X pins σ Q) X.xe s
def sFldAug(K:Xu)(q r:TE)(s:V->V->Hp->VK->Prop)(f:Str):TS:=λD σ H=>q σ H λx j=>∃a C u fs v,x=.ref a/\j a=N' (.ins C u fs)/\vk K C/\fP K C f/\fs.lookup f=N' v/\
 r σ j λy B=>s v y B λz o=>∃h fs',o a=N' (.ins C h fs')/\fs'.length<1000/\D.nx σ (upd o a (.ins C h (lW f z fs')))
def ps_fldaug{G:W9}{J:V->V->Hp->VK->Prop}(M:PE X o ta)(O:PE X value P)(B:InOp X G J):PS X (.AugAssign (.Attribute o f L) G value pos) (sFldAug X.K ta P J f):=by intro pins s r H D I h;apply wpAny_AugAssign_AttributeAny (d7 (M pins s r H _ I h) λQ m j=> ?_);obtain⟨x,U,Y,Z,a,C,p,fs,v,T,F,c,n,l,q⟩:=j;subst T;obtain rfl:Q=Wc a:=Z;apply vU Y F c n l λu R S A=>d7 (O pins R r U _ S q) λN W #[y,H2,I3,ry,q3]=>d7 (B pins W r H2 v y u N _ I3 A ry q3) λt w j=> ?_;obtain⟨z,H3,b,d,e,fs',E,g,i⟩:=j;show vW b E c n g d λs5 k=>#[r,_,k,i]
theorem pe_meth0{pl:Sem Bool}(he:PE X o ta)(c:vk X.K C)(j:Meth X.K C m f)(F:gX X.1 X.w X.K X.mg X.base CX k f fd ps sp)(y:fH k X.A)(B:Binds X.K fd ps ds)(G:Vals dvs ds)(J:Passes CX X E) (L:Wo (.Call (.Attribute o m apos) [] [] pos) X.env=(do
   let r<-Wo o X.env
   Xn apos.atName
   let (f,first)<-W5 [r] (YB r m pl)
   callWith pos f first (Wz pos (V2 [] X.env)) (XH pos (W7 [] X.env))):=by rfl):
  PE X (.Call (.Attribute o m apos) [] [] pos) (IV C m sp dvs E ta xD):=by
 intro pins s M H Q I h
 apply PySem.W.methodCall_KW (pl:=pl) (d7 (he pins s M H _ I h) λu O #[x,H1,I1,rx,a,dx,fs,ex,ea,l,q]=> ?_) L
 subst ex
 obtain rfl:u=Wc a:=rx
 apply vV I1 ea c j l ?_
 show PySem.W.callWith_K0 (first:=[.ref a]) I1.x6 j.kp (z0 (us:=[.ref a]) (vs:=[.ref a]) F y B G J I1 (.cons S' .nil) q)
end L2
namespace Lw
inductive F.A|a|b|c|d|e
inductive F.B|a|b|c|d|e|f|g|h|i|j|k|l|m|n|o|p|q|r|s|t|u|v|w|x|y|z|A|B|C|D|E|F|G|H|I|J|K|L|M|N|O|P|Q|R|S|T|U
structure F where(i:F.A)(j:F.B)
namespace F
abbrev ones:=mk .a .a
abbrev cut:=mk .a .b
abbrev signed:=mk .a .c
abbrev held:=mk .a .d
abbrev cm:=mk .a .e
abbrev jh:=mk .a .f
abbrev fk:=mk .a .g
abbrev cA:=mk .a .h
abbrev kC:=mk .a .i
abbrev l0:=mk .a .j
abbrev fQ:=mk .a .k
abbrev et:=mk .a .l
abbrev gB:=mk .a .m
abbrev jl:=mk .a .n
abbrev fR:=mk .a .o
abbrev iv:=mk .a .p
abbrev bX:=mk .a .q
abbrev iw:=mk .a .r
abbrev Bv:=mk .a .s
abbrev iM:=mk .a .t
abbrev fS:=mk .a .u
abbrev pN:=mk .a .v
abbrev fT:=mk .a .w
abbrev kd:=mk .a .x
abbrev gY:=mk .a .y
abbrev iN:=mk .a .z
abbrev dk:=mk .a .A
abbrev l4:=mk .a .B
abbrev eu:=mk .a .C
abbrev pO:=mk .a .D
abbrev nv:=mk .a .E
abbrev fU:=mk .a .F
abbrev fm:=mk .a .G
abbrev ny:=mk .a .H
abbrev ee:=mk .a .I
abbrev eU:=mk .a .J
abbrev iy:=mk .a .K
abbrev nz:=mk .a .L
abbrev d4:=mk .a .M
abbrev d5:=mk .a .N
abbrev gC:=mk .a .O
abbrev iO:=mk .a .P
abbrev gD:=mk .a .Q
abbrev pP:=mk .a .R
abbrev lN:=mk .a .S
abbrev compress:=mk .a .T
abbrev gZ:=mk .a .U
abbrev g0:=mk .b .a
abbrev lO:=mk .b .b
abbrev nA:=mk .b .c
abbrev g7:=mk .b .d
abbrev g_:=mk .b .e
abbrev iP:=mk .b .f
abbrev dr:=mk .b .g
abbrev sy:=mk .b .h
abbrev apart:=mk .b .i
abbrev wb:=mk .b .j
abbrev sC:=mk .b .k
abbrev iQ:=mk .b .l
abbrev hF:=mk .b .m
abbrev gE:=mk .b .n
abbrev pQ:=mk .b .o
abbrev dt:=mk .b .p
abbrev iR:=mk .b .q
abbrev hH:=mk .b .r
abbrev iS:=mk .b .s
abbrev du:=mk .b .t
abbrev ew:=mk .b .u
abbrev fV:=mk .b .v
abbrev fo:=mk .b .w
abbrev ez:=mk .b .x
abbrev nB:=mk .b .y
abbrev l_:=mk .b .z
abbrev eA:=mk .b .A
abbrev negate:=mk .b .B
abbrev hI:=mk .b .C
abbrev iT:=mk .b .D
abbrev kD:=mk .b .E
abbrev gF:=mk .b .F
abbrev kF:=mk .b .G
abbrev jB:=mk .b .H
abbrev c6:=mk .b .I
abbrev lP:=mk .b .J
abbrev iU:=mk .b .K
abbrev dv:=mk .b .L
abbrev eV:=mk .b .M
abbrev cY:=mk .b .N
abbrev eX:=mk .b .O
abbrev fI:=mk .b .P
abbrev dW:=mk .b .Q
abbrev kG:=mk .b .R
abbrev fq:=mk .b .S
abbrev cI:=mk .b .T
abbrev jC:=mk .b .U
abbrev ft:=mk .c .a
abbrev jD:=mk .c .b
abbrev cJ:=mk .c .c
abbrev bY:=mk .c .d
abbrev eC:=mk .c .e
abbrev qx:=mk .c .f
abbrev df:=mk .c .g
abbrev iV:=mk .c .h
abbrev hJ:=mk .c .i
abbrev qy:=mk .c .j
abbrev iW:=mk .c .k
abbrev transform:=mk .c .l
abbrev cZ:=mk .c .m
abbrev dF:=mk .c .n
abbrev fu:=mk .c .o
abbrev bh:=mk .c .p
abbrev c7:=mk .c .q
abbrev kH:=mk .c .r
abbrev fW:=mk .c .s
abbrev jE:=mk .c .t
abbrev jF:=mk .c .u
abbrev gM:=mk .c .v
abbrev Bw:=mk .c .w
abbrev fX:=mk .c .x
abbrev c1:=mk .c .y
abbrev c3:=mk .c .z
abbrev c4:=mk .c .A
abbrev dy:=mk .c .B
abbrev bz:=mk .c .C
abbrev cu:=mk .c .D
abbrev cf:=mk .c .E
abbrev wc:=mk .c .F
abbrev iz:=mk .c .G
abbrev eY:=mk .c .H
abbrev jm:=mk .c .I
noncomputable abbrev pick:=mk .c .J
abbrev kI:=mk .c .K
abbrev fw:=mk .c .L
abbrev ke:=mk .c .M
abbrev nD:=mk .c .N
abbrev c5:=mk .c .O
abbrev eZ:=mk .c .P
abbrev nG:=mk .c .Q
abbrev jn:=mk .c .R
abbrev jo:=mk .c .S
abbrev fJ:=mk .c .T
abbrev fY:=mk .c .U
abbrev fZ:=mk .d .a
abbrev jG:=mk .d .b
abbrev hO:=mk .d .c
abbrev jH:=mk .d .d
abbrev iX:=mk .d .e
abbrev cw:=mk .d .f
abbrev ef:=mk .d .g
abbrev expand:=mk .d .h
abbrev fy:=mk .d .i
abbrev hR:=mk .d .j
abbrev eD:=mk .d .k
abbrev f6:=mk .d .l
abbrev cx:=mk .d .m
abbrev cR:=mk .d .n
abbrev cy:=mk .d .o
abbrev cS:=mk .d .p
abbrev widen:=mk .d .q
abbrev jI:=mk .d .r
abbrev kJ:=mk .d .s
abbrev md:=mk .d .t
abbrev narrow:=mk .d .u
abbrev fA:=mk .d .v
abbrev gN:=mk .d .w
abbrev gG:=mk .d .x
abbrev jq:=mk .d .y
abbrev cM:=mk .d .z
abbrev c8:=mk .d .A
abbrev jr:=mk .d .B
abbrev among:=mk .d .C
abbrev f7:=mk .d .D
abbrev between:=mk .d .E
abbrev alike:=mk .d .F
abbrev mf:=mk .d .G
abbrev answer:=mk .d .H
abbrev fB:=mk .d .I
abbrev kf:=mk .d .J
abbrev iY:=mk .d .K
abbrev gH:=mk .d .L
abbrev lQ:=mk .d .M
abbrev Bx:=mk .d .N
abbrev f9:=mk .d .O
abbrev compare:=mk .d .P
abbrev hV:=mk .d .Q
abbrev hY:=mk .d .R
abbrev jJ:=mk .d .S
abbrev jK:=mk .d .T
abbrev eE:=mk .d .U
abbrev f_:=mk .e .a
abbrev jL:=mk .e .b
abbrev fits:=mk .e .c
abbrev fC:=mk .e .d
abbrev h_:=mk .e .e
abbrev js:=mk .e .f
abbrev dH:=mk .e .g
abbrev bR:=mk .e .h
noncomputable abbrev start:=mk .e .i
abbrev dg:=mk .e .j
abbrev eg:=mk .e .k
abbrev e7:=mk .e .l
abbrev e_:=mk .e .m
abbrev kK:=mk .e .n
abbrev gs:=mk .e .o
abbrev gu:=mk .e .p
abbrev gj:=mk .e .q
abbrev kL:=mk .e .r
abbrev jM:=mk .e .s
abbrev bA:=mk .e .t
abbrev pR:=mk .e .u
abbrev transfer:=mk .e .v
abbrev on:=mk .e .w
abbrev sD:=mk .e .x
abbrev kg:=mk .e .y
abbrev gc:=mk .e .z
abbrev jt:=mk .e .A
abbrev fb:=mk .e .B
abbrev ji:=mk .e .C
abbrev ju:=mk .e .D
abbrev iA:=mk .e .E
abbrev way:=mk .e .F
abbrev aa:=mk .e .G
abbrev gO:=mk .e .H
abbrev jN:=mk .e .I
abbrev jO:=mk .e .J
abbrev a0:=mk .e .K
abbrev cj:=mk .e .L
abbrev aL:=mk .e .M
abbrev cN:=mk .e .N
abbrev ia:=mk .e .O
abbrev mh:=mk .e .P
abbrev kP:=mk .e .Q
abbrev gw:=mk .e .R
abbrev aY:=mk .e .S
abbrev gd:=mk .e .T
abbrev eh:=mk .e .U
noncomputable def ix(f:F):=f.i.ctorIdx*47+f.j.ctorIdx
end F
inductive D
 |uH|a8|wd|uI|iE|kQ|bZ|rf|uJ|qF|m4|m5|fc|uW|jv
inductive DD|add|sub|mul|fdiv|mod|shl|shr|and|or|xor
inductive Qg|eq|ne|lt|le|gt|ge
inductive OA|sound|operation|k|n|oH|d|a|b|g|z|m
inductive ML|vec|we|xH|rN
noncomputable def kR(x:Int):Int:= -x-1
def sE:Int->Int->Int
 |.ofNat a,.ofNat b=>((a&&&b:Nat):Int)
 |.ofNat a,.negSucc b=>(a:Int)-((a&&&b:Nat):Int)
 |.negSucc a,.ofNat b=>(b:Int)-((b&&&a:Nat):Int)
 |.negSucc a,.negSucc b=>kR ((a|||b:Nat):Int)
def SU(x y:Int):Int:=kR (sE (kR x) (kR y))
def Je(x y:Int):Int:=SU x y-sE x y
noncomputable def pS(x:Int):Int:=if x.natAbs=0 then 0 else(x.natAbs.log2:Int)+1
structure Ord where
 sound:Bool
 operation:Int
 k:Int
 n:Int
 oH:Bool
 d:Int
 a:Int
 b:Int
 g:Int
 z:Int
 m:Int
set_option genInjectivity true in
structure xu where
 v:List Int
 p:List Int
 x:List Int
 f:Int
 c:List Int
 deriving DecidableEq
set_option genInjectivity true in
inductive SV where
 |bQ
 |bl (b:Bool)
 |int (i:Int)
 |lst (xs:List SV)
 |tup (xs:List SV)
 |fn (f:F)
 |j4 (f:F) (cs:List SV)
 |ord (o:Ord)
 |cT
 |mem
 |ml (j:ML)
abbrev gf:=Option xu
abbrev kS:=List SV
abbrev T9:=Option (SV×Bool×gf)
abbrev By:=F->kS->gf->T9
inductive IE where
 |v (i:Nat)
 |int (c:Int)
 |bl (b:Bool)
 |bQ
 |pj (nm:Nat) (c:Int)
 |fn (f:F)
 |bin (o:DD) (a b:IE)
 |neg (a:IE)
 |inv (a:IE)
 |cmp (o:Qg) (a b:IE)
 |Jf (a:IE)
 |uX (a:IE)
 |Im (a b:IE)
 |inD (a:IE) (d:D)
 |oI (a:IE) (d:D)
 |chain (a b c:IE)
 |not (a:IE)
 |and (a b:IE)
 |or (a b:IE)
 |qG (c a b:IE)
 |Jg (e:IE) (f:OA)
 |Mz (e:IE) (j:ML)
 |ix (a b:IE)
 |LP (a lo:IE)
 |Bz (a hi:IE)
 |sl (a lo hi:IE)
 |call (f:F) (as:IE)
 |eP (f:F) (o:IE) (as:IE)
 |sF (i:Nat) (as:IE)
 |len (a:IE)
 |abs (a:IE)
 |min2 (a b:IE)
 |max2 (a b:IE)
 |Hm (a:IE)
 |sum (a:IE)
 |pS (a:IE)
 |index (a b:IE)
 |iZ (d:D) (a:IE)
 |DE (d:D) (a:IE)
 |Hn (d:D) (a:IE)
 |list (es:IE)
 |tup (es:IE)
 |lc (tg:d_) (it elt:IE)
 |pq (tg:d_) (it cond elt:IE)
 |lam (f:F) (caps:d_)
 |nil
 |cons (e es:IE)
 |seq (e:IE)
 |mx (a:IE)
 |BA (a b:IE)
 |rg (a b c:IE)
 |enum (e:IE)
 |zip2 (a b:IE)
 |xI (a b c:IE)
 |rev (e:IE)
 |OC (e:IE)
 |rN (e:IE)
 |Jh (f:F) (o:IE) (as:IE)
inductive IS where
 |nil
 |set (i:Nat) (e:IE) (r:IS)
 |own (i:Nat) (e:IE) (r:IS)
 |nX (i:Nat) (r:IS)
 |aug (i:Nat) (o:DD) (e:IE) (r:IS)
 |app (i:Nat) (e:IE) (r:IS)
 |ext (i:Nat) (e:IE) (r:IS)
 |put (i:Nat) (ix e:IE) (r:IS)
 |xJ (i:Nat) (j:ML) (ix e:IE) (r:IS)
 |Ho (i:Nat) (e:IE) (r:IS)
 |ex (f:F) (o:IE) (as:IE) (r:IS)
 |Qh (i:Nat) (as:IE) (r:IS)
 |ite (c:IE) (a b r:IS)
 |iH (tg:d_) (it:IE) (body r:IS)
 |SW (fuel:Nat) (c:IE) (body r:IS)
 |ret (e:IE)
 |xK (i:Nat)
 |pT (i:Nat) (f:F) (caps:d_) (r:IS)
 |BB (i:Nat) (ix e:IE) (r:IS)
 |MA (f:F) (o:IE) (as:IE) (r:IS)
structure Ev where
 vals:List (Option SV)
 own:Option (Nat×kS)
inductive Out where
 |nx (e:Ev) (m:gf)
 |rt (v:SV) (fr:Bool) (m:gf)
structure Df where
 np:Nat
 slots:Nat
 body:IS
structure kT where
 iZ:D->Int->Option F
 qH:D->Int->Bool
 DE:D->Int->Option (List Int)
 Hn:D->Nat->Option F
noncomputable abbrev bw:Nat:=100000
section
abbrev R:=Option (SV×Bool)
noncomputable def ints?:kS->Option (List Int)
 |[]=>N' []
 |.int i::r=>(ints? r).map (i::·)
 |_::_=>O'
def binI(o:DD)(i j:Int):uQ:=match o with
 |.add=>N' (i+j)
 |.sub=>N' (i-j)
 |.mul=>if(i.natAbs<2^64)\/(j.natAbs<2^64)then N' (i*j)else O'
 |.fdiv=>if 0<j/\j<1073741824 then N' (i/j)else O'
 |.mod=>if 0<j then N' (i % j)else O'
 |.shl=>if 0<=j/\j<=100000/\i.natAbs<2^200 then N' (i*2^j.toNat)else O'
 |.shr=>if 0<=j then N' (i/2^j.toNat)else O'
 |.and=>N' (sE i j)
 |.or=>N' (SU i j)
 |.xor=>N' (Je i j)
def t8(o:DD)(x y:SV):R:=match x,y with
 |.int i,.int j=>(binI o i j).map λr=>(.int r,Q')
 |.lst xs,.lst ys=>(match o with
  |.add=>if xs.length+ys.length<=bw then N' (.lst (xs++ys),P')else O'
  |_=>O')
 |.lst xs,.int k=>(match o with
  |.mul=>if xs.length*k.toNat<=bw/\k.natAbs<2^62 then N' (.lst (VY k.toNat xs).flatten,P')else O'
  |_=>O')
 |_,_=>O'
noncomputable def cF(o:Qg)(i j:Int):Bool:=match o with
 |.eq=>decide (i=j)
 |.ne=> !decide (i=j)
 |.lt=>decide (i<j)
 |.le=>decide (i<=j)
 |.gt=>decide (j<i)
 |.ge=>decide (j<=i)
def xM(o:Qg)(x y:SV):Option Bool:=match x,y with
 |.int i,.int j=>N' (cF o i j)
 |.bl a,.bl b=>(match o with
  |.eq=>N' (a==b)
  |.ne=>N' (a !=b)
  |_=>O')
 |.lst xs,.lst ys=>(match o with
  |.eq=>(match ints? xs,ints? ys with
   |some a,N' b=>N' (decide (a=b))
   |_,_=>O')
  |_=>O')
 |_,_=>O'
noncomputable def Ord.get(o:Ord):OA->SV
 |.sound=>.bl o.sound
 |.operation=>.int o.operation
 |.k=>.int o.k
 |.n=>.int o.n
 |.oH=>.bl o.oH
 |.d=>.int o.d
 |.a=>.int o.a
 |.b=>.int o.b
 |.g=>.int o.g
 |.z=>.int o.z
 |.m=>.int o.m
noncomputable def xu.get(m:xu):ML->List Int
 |.vec=>m.v
 |.we=>m.p
 |.xH=>m.x
 |.rN=>m.c
noncomputable def xu.put(m:xu)(j:ML)(l:List Int):xu:=match j with
 |.vec=>{m with v:=l}
 |.we=>{m with p:=l}
 |.xH=>{m with x:=l}
 |.rN=>{m with c:=l}
def items?(M:gf):SV->Option (kS)
 |.lst xs=>N' xs
 |.ml j=>M.map λm=>(m.get j).map SV.int
 |_=>O'
noncomputable def truth:SV->Option Bool
 |.bl b=>N' b
 |.int i=>N' (i !=0)
 |_=>O'
noncomputable def SX(t:Option Bool)(x y:R):R:=match t with
 |some P'=>x
 |some Q'=>y
 |none=>O'
noncomputable def sG(xs:kS)(h j:Int):R:=if 0<=h/\0<=j then N' (.lst ((xs.drop h.toNat).take (j.toNat-h.toNat)),P')else O'
noncomputable def Ev.get(e:Ev)(i:Nat):Option SV:=(e.vals[i]?).join
noncomputable def Ev.put(e:Ev)(i:Nat)(x:SV):Ev:={e with vals:=e.vals.set i (N' x)}
def Ev.kh(e:Ev):d_->kS->Ev
 |i::is,x::xs=>(e.put i x).kh is xs
 |_,_=>e
def Ev.sH(e:Ev):d_->Option (kS)
 |[]=>N' []
 |i::is=>match e.get i,e.sH is with
  |some x,N' xs=>N' (x::xs)
  |_,_=>O'
noncomputable def Ji{h:Type}:List h->Nat->Bool
 |[],_=>Q'
 |_::_,0=>P'
 |_::l,i+1=>Ji l i
def Ev.free(e:Ev)(i:Nat):Bool:=Ji e.vals i&&match e.own with
 |some (j,_)=>i !=j
 |none=>P'
noncomputable def pU{h j:Type}(f:h->Option j):List h->Option (List j)
 |[]=>N' []
 |x::r=>match f x with
  |some y=>(pU f r).map (y::·)
  |none=>O'
noncomputable def iB{h j:Type}(c:h->Option Bool)(f:h->Option j):List h->Option (List j)
 |[]=>N' []
 |x::r=>match c x with
  |some P'=>(match f x with
   |some y=>(iB c f r).map (y::·)
   |none=>O')
  |some Q'=>iB c f r
  |none=>O'
noncomputable def ib(h:Int)(n:Nat)(j:Int):List (kS):=(VW n).map λ(i:Nat)=>[.int (h+i*j)]
noncomputable def j_(n:Nat):kS->List (kS)
 |[]=>[]
 |x::r=>[.int n,x]::j_ (n+1) r
noncomputable def m6:List Int->uQ
 |[]=>O'
 |x::r=>N' (r.foldl (λa b=>if b<a then b else a) x)
noncomputable def jP(y:Int):List Int->Option Nat
 |[]=>O'
 |x::r=>if x=y then N' 0 else(jP y r).map (·+1)
variable (T:kT) (cl:By)
noncomputable def ER(M:gf)(r:T9):R:=match r with
 |some (x,fr,M')=>if M'=M then N' (x,fr)else O'
 |none=>O'
def jQ(f:F)(as:kS)(M:gf):R:=ER M (cl f as M)
noncomputable def wg(g:SV)(as:kS)(M:gf):T9:=match g with
 |.fn f=>cl f as M
 |.j4 f cs=>cl f (as++cs) M
 |_=>O'
def nH(g:SV)(as:kS)(M:gf):R:=match g with
 |.fn f=>jQ cl f as M
 |.j4 f cs=>jQ cl f (as++cs) M
 |_=>O'
mutual
def ay(e:Ev)(M:gf):IE->R
 |.v i=>(e.get i).map λx=>(x,Q')
 |.int c=>N' (.int c,Q')
 |.bl b=>N' (.bl b,Q')
 |.bQ=>N' (.bQ,Q')
 |.pj _ c=>N' (.int c,Q')
 |.fn f=>N' (.fn f,Q')
 |.bin o a b=>match ay e M a,ay e M b with
  |some (x,_),N' (y,_)=>t8 o x y
  |_,_=>O'
 |.neg a=>match ay e M a with
  |some (.int i,_)=>N' (.int (-i),Q')
  |_=>O'
 |.inv a=>match ay e M a with
  |some (.int i,_)=>N' (.int (kR i),Q')
  |_=>O'
 |.cmp o a b=>match ay e M a,ay e M b with
  |some (x,_),N' (y,_)=>(xM o x y).map λr=>(.bl r,Q')
  |_,_=>O'
 |.Jf a=>match ay e M a with
  |some (.bQ,_)=>N' (.bl P',Q')
  |some (.fn _,_)=>N' (.bl Q',Q')
  |some (.lst _,_)=>N' (.bl Q',Q')
  |_=>O'
 |.uX a=>match ay e M a with
  |some (.bQ,_)=>N' (.bl Q',Q')
  |some (.fn _,_)=>N' (.bl P',Q')
  |some (.lst _,_)=>N' (.bl P',Q')
  |_=>O'
 |.Im a b=>match ay e M a,ay e M b with
  |some (.int i,_),N' (.lst xs,_)=>(ints? xs).map λl=>(.bl (decide (i∈l)),Q')
  |some (.int i,_),N' (.tup xs,_)=>(ints? xs).map λl=>(.bl (decide (i∈l)),Q')
  |_,_=>O'
 |.inD a d=>match ay e M a with
  |some (.int i,_)=>N' (.bl (T.qH d i),Q')
  |_=>O'
 |.oI a d=>match ay e M a with
  |some (.int i,_)=>N' (.bl (!T.qH d i),Q')
  |_=>O'
 |.chain a b c=>match ay e M a,ay e M b with
  |some (.int i,_),N' (.int j,_)=>if i<=j then(match ay e M c with
   |some (.int l,_)=>N' (.bl (decide (j<=l)),Q')
   |_=>O')else N' (.bl Q',Q')
  |_,_=>O'
 |.not a=>match ay e M a with
  |some (.bl b,_)=>N' (.bl (!b),Q')
  |_=>O'
 |.and a b=>match ay e M a with
  |some (.bl P',_)=>(match ay e M b with
   |some (.bl y,_)=>N' (.bl y,Q')
   |_=>O')
  |some (.bl Q',_)=>N' (.bl Q',Q')
  |_=>O'
 |.or a b=>match ay e M a with
  |some (.bl P',_)=>N' (.bl P',Q')
  |some (.bl Q',_)=>(match ay e M b with
   |some (.bl y,_)=>N' (.bl y,Q')
   |_=>O')
  |_=>O'
 |.qG c a b=>match ay e M c with
  |some (x,_)=>SX (truth x) (ay e M a) (ay e M b)
  |none=>O'
 |.Jg a f=>match ay e M a with
  |some (.ord o,_)=>N' (o.get f,Q')
  |_=>O'
 |.Mz a j=>match ay e M a with
  |some (.cT,_)=>(match M.isSome with
   |true=>N' (.ml j,Q')
   |false=>O')
  |_=>O'
 |.ix a b=>match ay e M a,ay e M b with
  |some (x,_),N' (.int i,_)=>(match items? M x with
   |some xs=>if 0<=i then(xs[i.toNat]?).map λy=>(y,Q')else O'
   |none=>O')
  |_,_=>O'
 |.LP a lo=>match ay e M a,ay e M lo with
  |some (x,_),N' (.int i,_)=>(match items? M x with
   |some xs=>if 0<=i then N' (.lst (xs.drop i.toNat),P')else O'
   |none=>O')
  |_,_=>O'
 |.Bz a hi=>match ay e M a,ay e M hi with
  |some (x,_),N' (.int i,_)=>(match items? M x with
   |some xs=>if 0<=i then N' (.lst (xs.take i.toNat),P')else O'
   |none=>O')
  |_,_=>O'
 |.sl a lo hi=>match ay e M a,ay e M lo,ay e M hi with
  |some (x,_),N' (.int i,_),N' (.int j,_)=>(match items? M x with
   |some xs=>sG xs i j
   |none=>O')
  |_,_,_=>O'
 |.call f as=>match iC e M as with
  |some xs=>jQ cl f xs M
  |none=>O'
 |.eP f o as=>match ay e M o,iC e M as with
  |some (.cT,_),N' xs=>jQ cl f (.cT::xs) M
  |_,_=>O'
 |.sF i as=>match e.get i,iC e M as with
  |some g,N' xs=>nH cl g xs M
  |_,_=>O'
 |.len a=>match ay e M a with
  |some (x,_)=>(items? M x).map λxs=>(.int xs.length,Q')
  |none=>O'
 |.abs a=>match ay e M a with
  |some (.int i,_)=>N' (.int (if i<0 then-i else i),Q')
  |_=>O'
 |.min2 a b=>match ay e M a,ay e M b with
  |some (.int i,_),N' (.int j,_)=>N' (.int (if j<i then j else i),Q')
  |_,_=>O'
 |.max2 a b=>match ay e M a,ay e M b with
  |some (.int i,_),N' (.int j,_)=>N' (.int (if j>i then j else i),Q')
  |_,_=>O'
 |.Hm a=>match ay e M a with
  |some (.lst xs,_)=>((ints? xs).bind m6).map λi=>(.int i,Q')
  |_=>O'
 |.sum a=>match ay e M a with
  |some (.lst xs,_)=>(ints? xs).map λl=>(.int l.sum,Q')
  |_=>O'
 |.pS a=>match ay e M a with
  |some (.int i,_)=>N' (.int (pS i),Q')
  |_=>O'
 |.index a b=>match ay e M a,ay e M b with
  |some (.lst xs,_),N' (.int i,_)=>((ints? xs).bind (jP i)).map λ(j:Nat)=>(.int (Wa j),Q')
  |_,_=>O'
 |.iZ d a=>match ay e M a with
  |some (.int i,_)=>N' ((T.iZ d i).elim .bQ .fn,Q')
  |_=>O'
 |.DE d a=>match ay e M a with
  |some (.int i,_)=>(T.DE d i).map λl=>(.tup (l.map .int),Q')
  |_=>O'
 |.Hn d a=>match ay e M a with
  |some (.int i,_)=>if 0<=i then(T.Hn d i.toNat).map λf=>(.fn f,Q')else O'
  |_=>O'
 |.list es=>match iC e M es with
  |some xs=>if xs.length<=bw then N' (.lst xs,P')else O'
  |none=>O'
 |.tup es=>match iC e M es with
  |some xs=>if xs.length<=bw then N' (.tup xs,Q')else O'
  |none=>O'
 |.lc tg it elt=>match e.own,t9 e M it with
  |none,N' xs=>if xs.length<=bw then(pU (λx=>(ay (e.kh tg x) M elt).map (·.1)) xs).map λh=>(.lst h,P')else O'
  |_,_=>O'
 |.pq tg it cond elt=>match e.own,t9 e M it with
  |none,N' xs=>if xs.length<=bw then(iB (λx=>(ay (e.kh tg x) M cond).bind λc=>truth c.1) (λx=>(ay (e.kh tg x) M elt).map (·.1)) xs).map λh=>(.lst h,P')else O'
  |_,_=>O'
 |.lam f caps=>(e.sH caps).map λq=>(.j4 f q,Q')
 |.OC a=>match ay e M a with
  |some (.cT,_)=>M.map λm=>(.int m.f,Q')
  |_=>O'
 |.rN a=>match ay e M a with
  |some (.mem,_)=>(match M.isSome with
   |true=>N' (.ml .rN,Q')
   |false=>O')
  |_=>O'
 |.Jh f o as=>match ay e M o,iC e M as with
  |some (.mem,_),N' xs=>jQ cl f (.mem::xs) M
  |_,_=>O'
 |_=>O'
def iC(e:Ev)(M:gf):IE->Option (kS)
 |.nil=>N' []
 |.cons a r=>match ay e M a,iC e M r with
  |some (x,_),N' xs=>N' (x::xs)
  |_,_=>O'
 |_=>O'
def t9(e:Ev)(M:gf):IE->Option (List (kS))
 |.seq a=>match ay e M a with
  |some (.lst xs,_)=>N' (xs.map λx=>[x])
  |some (.tup xs,_)=>N' (xs.map λx=>[x])
  |_=>O'
 |.mx a=>match ay e M a with
  |some (.int n,_)=>if n.natAbs<=bw then N' (ib 0 n.toNat 1)else O'
  |_=>O'
 |.BA a b=>match ay e M a,ay e M b with
  |some (.int i,_),N' (.int j,_)=>if i.natAbs<=bw/\j.natAbs<=bw then N' (ib i (j-i).toNat 1)else O'
  |_,_=>O'
 |.rg a b c=>match ay e M a,ay e M b,ay e M c with
  |some (.int i,_),N' (.int j,_),N' (.int st,_)=>if i.natAbs<=bw/\j.natAbs<=bw/\0<st/\st<=bw then N' (ib i ((j-i+st-1)/st).toNat st)else O'
  |_,_,_=>O'
 |.enum a=>match ay e M a with
  |some (.lst xs,_)=>N' (j_ 0 xs)
  |_=>O'
 |.zip2 a b=>match ay e M a,ay e M b with
  |some (.lst xs,_),N' (.lst ys,_)=>N' (Wj (λx y=>[x,y]) xs ys)
  |_,_=>O'
 |.xI a b c=>match ay e M a,ay e M b,ay e M c with
  |some (.lst xs,_),N' (.lst ys,_),N' (.lst zs,_)=>N' (Wj (λx (y:SV×SV)=>[x,y.1,y.2]) xs (ys.zip zs))
  |_,_,_=>O'
 |.rev a=>match ay e M a with
  |some (.lst xs,_)=>N' (xs.reverse.map λx=>[x])
  |_=>O'
 |_=>O'
end
def cU(tg:d_)(body:Ev->gf->Option (Out)):List (kS)->Ev->gf->Option (Out)
 |[],e,M=>N' (.nx e M)
 |x::r,e,M=>match tg.all e.free with
  |true=>(match body (e.kh tg x) M with
   |some (.nx e' M')=>cU tg body r e' M'
   |some (.rt v fr M')=>N' (.rt v fr M')
   |none=>O')
  |false=>O'
def o_(c:Ev->gf->R)(body:Ev->gf->Option (Out)):Nat->Ev->gf->Option (Out)
 |0,_,_=>O'
 |n+1,e,M=>match c e M with
  |some (x,_)=>(match truth x with
   |some P'=>(match body e M with
    |some (.nx e' M')=>o_ c body n e' M'
    |some (.rt v fr M')=>N' (.rt v fr M')
    |none=>O')
   |some Q'=>N' (.nx e M)
   |none=>O')
  |none=>O'
def Ab(c:IE)(e:Ev)(M:gf):R:=ay T cl e M c
def cO:IS->Ev->gf->Option (Out)
 |.nil,e,M=>N' (.nx e M)
 |.set i a r,e,M=>match ay T cl e M a with
  |some (x,_)=>(match e.free i with
   |true=>cO r (e.put i x) M
   |false=>O')
  |none=>O'
 |.own i a r,e,M=>match ay T cl e M a with
  |some (.lst xs,P')=>(match(ints? xs).isSome&&(e.own.isNone&&Ji e.vals i)with
   |true=>cO r {vals:=e.vals.set i O',own:=N' (i,xs)} M
   |false=>O')
  |_=>O'
 |.nX i r,e,M=>match e.own with
  |some (j,xs)=>if i=j then cO r {vals:=e.vals.set i (N' (.lst xs)),own:=O'} M else O'
  |none=>O'
 |.aug i o a r,e,M=>match e.get i,ay T cl e M a with
  |some (.int x),N' (.int y,_)=>(match binI o x y with
   |some z=>cO r (e.put i (.int z)) M
   |none=>O')
  |_,_=>O'
 |.app i a r,e,M=>match e.own,ay T cl e M a with
  |some (j,xs),N' (x,_)=>if i=j/\xs.length<bw then cO r {e with own:=N' (j,xs++[x])} M else O'
  |_,_=>O'
 |.ext i a r,e,M=>match e.own,ay T cl e M a with
  |some (j,xs),N' (.lst ys,_)=>if i=j/\xs.length+ys.length<=bw then cO r {e with own:=N' (j,xs++ys)} M else O'
  |_,_=>O'
 |.put i a b r,e,M=>match e.own,ay T cl e M b,ay T cl e M a with
  |some (j,xs),N' (y,_),N' (.int n,_)=>if i=j/\0<=n/\n<xs.length then cO r {e with own:=N' (j,xs.set n.toNat y)} M else O'
  |_,_,_=>O'
 |.xJ i j a b r,e,M=>match e.get i,M,ay T cl e M b,ay T cl e M a with
  |some .cT,N' m,N' (.int y,_),N' (.int n,_)=>if 0<=n/\n<(m.get j).length then cO r e (N' (m.put j ((m.get j).set n.toNat y)))else O'
  |_,_,_,_=>O'
 |.Ho i a r,e,M=>match e.get i,M,ay T cl e M a with
  |some .cT,N' m,N' (.int y,_)=>cO r e (N' {m with f:=y})
  |_,_,_=>O'
 |.ex f o as r,e,M=>match ay T cl e M o,iC T cl e M as with
  |some (.cT,_),N' xs=>(match cl f (.cT::xs) M with
   |some (_,_,M')=>cO r e M'
   |none=>O')
  |some (.bQ,_),N' xs=>(match cl f xs M with
   |some (_,_,M')=>cO r e M'
   |none=>O')
  |_,_=>O'
 |.Qh i as r,e,M=>match e.get i,iC T cl e M as with
  |some g,N' xs=>(match wg cl g xs M with
   |some (_,_,M')=>cO r e M'
   |none=>O')
  |_,_=>O'
 |.ite c a b r,e,M=>match ay T cl e M c with
  |some (x,_)=>(match truth x with
   |some P'=>(match cO a e M with
    |some (.nx e' M')=>cO r e' M'
    |q=>q)
   |some Q'=>(match cO b e M with
    |some (.nx e' M')=>cO r e' M'
    |q=>q)
   |none=>O')
  |none=>O'
 |.iH tg it body r,e,M=>match t9 T cl e M it with
  |some xs=>(match cU tg (cO body) xs e M with
   |some (.nx e' M')=>cO r e' M'
   |q=>q)
  |none=>O'
 |.SW n c body r,e,M=>match o_ (Ab T cl c) (cO body) n e M with
  |some (.nx e' M')=>cO r e' M'
  |q=>q
 |.ret a,e,M=>match ay T cl e M a with
  |some (x,fr)=>N' (.rt x fr M)
  |none=>O'
 |.xK i,e,M=>match e.own with
  |some (j,xs)=>if i=j then N' (.rt (.lst xs) P' M)else O'
  |none=>O'
 |.pT i f caps r,e,M=>match e.sH caps with
  |some h=>(match e.free i with
   |true=>cO r (e.put i (.j4 f h)) M
   |false=>O')
  |none=>O'
 |.BB i a b r,e,M=>match e.get i,M,ay T cl e M b,ay T cl e M a with
  |some .mem,N' m,N' (.int y,_),N' (.int n,_)=>if 0<=n/\n<m.c.length then cO r e (N' {m with c:=m.c.set n.toNat y})else O'
  |_,_,_,_=>O'
 |.MA f o as r,e,M=>match ay T cl e M o,iC T cl e M as with
  |some (.mem,_),N' xs=>(match cl f (.mem::xs) M with
   |some (_,_,M')=>cO r e M'
   |none=>O')
  |_,_=>O'
def sI(d:Df)(as:kS)(M:gf):T9:=if as.length=d.np then(match cO T cl d.body #[as.map N'++VY (d.slots-d.np) O',O'] M with
  |some (.nx _ M')=>N' (.bQ,Q',M')
  |some (.rt v fr M')=>N' (v,fr,M')
  |none=>O')else O'
end
section
variable (T:kT) (defs:F->Df)
def bt:Nat->F->kS->gf->T9
 |0=>λ_ _ _=>O'
 |n+1=>λf as M=>sI T (bt n) (defs f) as M
end
section
variable (T:kT) (cl:By) (e:Ev) (M:gf)
def b6(tg:d_)(h:IE)(x:kS):Option SV:=(ay T cl (e.kh tg x) M h).map (·.1)
def BC(tg:d_)(h:IE)(x:kS):Option Bool:=(ay T cl (e.kh tg x) M h).bind λc=>truth c.1
theorem pa(i:Nat):ay T cl e M (.v i)=((e.get i).map λx=>(x,Q')):=rfl
theorem fN(c:Int):ay T cl e M (.int c)=(N' (.int c,Q')):=rfl
theorem Jj(b:Bool):ay T cl e M (.bl b)=(N' (.bl b,Q')):=rfl
theorem Ac:ay T cl e M .bQ=(N' (.bQ,Q')):=rfl
theorem wj(h:Nat)(c:Int):ay T cl e M (.pj h c)=(N' (.int c,Q')):=rfl
theorem Jk(f:F):ay T cl e M (.fn f)=(N' (.fn f,Q')):=rfl
theorem mN(o:DD)(a:IE)(b:IE):ay T cl e M (.bin o a b)=(match ay T cl e M a,ay T cl e M b with
  |some (x,_),N' (y,_)=>t8 o x y
  |_,_=>O'):=rfl
theorem ES(a:IE):ay T cl e M (.neg a)=(match ay T cl e M a with
  |some (.int i,_)=>N' (.int (-i),Q')
  |_=>O'):=rfl
theorem ET(a:IE):ay T cl e M (.inv a)=(match ay T cl e M a with
  |some (.int i,_)=>N' (.int (kR i),Q')
  |_=>O'):=rfl
theorem sJ(o:Qg)(a:IE)(b:IE):ay T cl e M (.cmp o a b)=(match ay T cl e M a,ay T cl e M b with
  |some (x,_),N' (y,_)=>(xM o x y).map λr=>(.bl r,Q')
  |_,_=>O'):=rfl
theorem EU(a:IE):ay T cl e M (.Jf a)=(match ay T cl e M a with
  |some (.bQ,_)=>N' (.bl P',Q')
  |some (.fn _,_)=>N' (.bl Q',Q')
  |some (.lst _,_)=>N' (.bl Q',Q')
  |_=>O'):=rfl
theorem BD(a:IE):ay T cl e M (.uX a)=(match ay T cl e M a with
  |some (.bQ,_)=>N' (.bl Q',Q')
  |some (.fn _,_)=>N' (.bl P',Q')
  |some (.lst _,_)=>N' (.bl P',Q')
  |_=>O'):=rfl
theorem EV(a:IE)(b:IE):ay T cl e M (.Im a b)=(match ay T cl e M a,ay T cl e M b with
  |some (.int i,_),N' (.lst xs,_)=>(ints? xs).map λl=>(.bl (decide (i∈l)),Q')
  |some (.int i,_),N' (.tup xs,_)=>(ints? xs).map λl=>(.bl (decide (i∈l)),Q')
  |_,_=>O'):=rfl
theorem EW(a:IE)(d:D):ay T cl e M (.inD a d)=(match ay T cl e M a with
  |some (.int i,_)=>N' (.bl (T.qH d i),Q')
  |_=>O'):=rfl
theorem wk(a:IE)(d:D):ay T cl e M (.oI a d)=(match ay T cl e M a with
  |some (.int i,_)=>N' (.bl (!T.qH d i),Q')
  |_=>O'):=rfl
theorem yH(a:IE)(b:IE)(c:IE):ay T cl e M (.chain a b c)=(match ay T cl e M a,ay T cl e M b with
  |some (.int i,_),N' (.int j,_)=>if i<=j then(match ay T cl e M c with
   |some (.int l,_)=>N' (.bl (decide (j<=l)),Q')
   |_=>O')else N' (.bl Q',Q')
  |_,_=>O'):=rfl
theorem EX(a:IE):ay T cl e M (.not a)=(match ay T cl e M a with
  |some (.bl b,_)=>N' (.bl (!b),Q')
  |_=>O'):=rfl
theorem Ad(a:IE)(b:IE):ay T cl e M (.and a b)=(match ay T cl e M a with
  |some (.bl P',_)=>(match ay T cl e M b with
   |some (.bl y,_)=>N' (.bl y,Q')
   |_=>O')
  |some (.bl Q',_)=>N' (.bl Q',Q')
  |_=>O'):=rfl
theorem Jl(a:IE)(b:IE):ay T cl e M (.or a b)=(match ay T cl e M a with
  |some (.bl P',_)=>N' (.bl P',Q')
  |some (.bl Q',_)=>(match ay T cl e M b with
   |some (.bl y,_)=>N' (.bl y,Q')
   |_=>O')
  |_=>O'):=rfl
theorem EY(c:IE)(a:IE)(b:IE):ay T cl e M (.qG c a b)=(match ay T cl e M c with
  |some (x,_)=>SX (truth x) (ay T cl e M a) (ay T cl e M b)
  |none=>O'):=rfl
theorem EZ(a:IE)(f:OA):ay T cl e M (.Jg a f)=(match ay T cl e M a with
  |some (.ord o,_)=>N' (o.get f,Q')
  |_=>O'):=rfl
theorem Ae(a:IE)(j:ML):ay T cl e M (.Mz a j)=(match ay T cl e M a with
  |some (.cT,_)=>(match M.isSome with
   |true=>N' (.ml j,Q')
   |false=>O')
  |_=>O'):=rfl
theorem Jm(a:IE)(b:IE):ay T cl e M (.ix a b)=(match ay T cl e M a,ay T cl e M b with
  |some (x,_),N' (.int i,_)=>(match items? M x with
   |some xs=>if 0<=i then(xs[i.toNat]?).map λy=>(y,Q')else O'
   |none=>O')
  |_,_=>O'):=rfl
theorem E1(a:IE)(h:IE):ay T cl e M (.LP a h)=(match ay T cl e M a,ay T cl e M h with
  |some (x,_),N' (.int i,_)=>(match items? M x with
   |some xs=>if 0<=i then N' (.lst (xs.drop i.toNat),P')else O'
   |none=>O')
  |_,_=>O'):=rfl
theorem E2(a:IE)(h:IE):ay T cl e M (.Bz a h)=(match ay T cl e M a,ay T cl e M h with
  |some (x,_),N' (.int i,_)=>(match items? M x with
   |some xs=>if 0<=i then N' (.lst (xs.take i.toNat),P')else O'
   |none=>O')
  |_,_=>O'):=rfl
theorem Jn(a:IE)(h:IE)(o:IE):ay T cl e M (.sl a h o)=(match ay T cl e M a,ay T cl e M h,ay T cl e M o with
  |some (x,_),N' (.int i,_),N' (.int j,_)=>(match items? M x with
   |some xs=>sG xs i j
   |none=>O')
  |_,_,_=>O'):=rfl
theorem pV(f:F)(as:IE):ay T cl e M (.call f as)=(match iC T cl e M as with
  |some xs=>jQ cl f xs M
  |none=>O'):=rfl
theorem BE(f:F)(o:IE)(as:IE):ay T cl e M (.eP f o as)=(match ay T cl e M o,iC T cl e M as with
  |some (.cT,_),N' xs=>jQ cl f (.cT::xs) M
  |_,_=>O'):=rfl
theorem yI(i:Nat)(as:IE):ay T cl e M (.sF i as)=(match e.get i,iC T cl e M as with
  |some g,N' xs=>nH cl g xs M
  |_,_=>O'):=rfl
theorem E3(a:IE):ay T cl e M (.len a)=(match ay T cl e M a with
  |some (x,_)=>(items? M x).map λxs=>(.int xs.length,Q')
  |none=>O'):=rfl
theorem E4(a:IE):ay T cl e M (.abs a)=(match ay T cl e M a with
  |some (.int i,_)=>N' (.int (if i<0 then-i else i),Q')
  |_=>O'):=rfl
theorem BF(a:IE)(b:IE):ay T cl e M (.min2 a b)=(match ay T cl e M a,ay T cl e M b with
  |some (.int i,_),N' (.int j,_)=>N' (.int (if j<i then j else i),Q')
  |_,_=>O'):=rfl
theorem BG(a:IE)(b:IE):ay T cl e M (.max2 a b)=(match ay T cl e M a,ay T cl e M b with
  |some (.int i,_),N' (.int j,_)=>N' (.int (if j>i then j else i),Q')
  |_,_=>O'):=rfl
theorem BH(a:IE):ay T cl e M (.Hm a)=(match ay T cl e M a with
  |some (.lst xs,_)=>((ints? xs).bind m6).map λi=>(.int i,Q')
  |_=>O'):=rfl
theorem E5(a:IE):ay T cl e M (.sum a)=(match ay T cl e M a with
  |some (.lst xs,_)=>(ints? xs).map λl=>(.int l.sum,Q')
  |_=>O'):=rfl
theorem BJ(a:IE):ay T cl e M (.pS a)=(match ay T cl e M a with
  |some (.int i,_)=>N' (.int (pS i),Q')
  |_=>O'):=rfl
theorem yJ(a:IE)(b:IE):ay T cl e M (.index a b)=(match ay T cl e M a,ay T cl e M b with
  |some (.lst xs,_),N' (.int i,_)=>((ints? xs).bind (jP i)).map λ(j:Nat)=>(.int (Wa j),Q')
  |_,_=>O'):=rfl
theorem BK(d:D)(a:IE):ay T cl e M (.iZ d a)=(match ay T cl e M a with
  |some (.int i,_)=>N' ((T.iZ d i).elim .bQ .fn,Q')
  |_=>O'):=rfl
theorem E6(d:D)(a:IE):ay T cl e M (.DE d a)=(match ay T cl e M a with
  |some (.int i,_)=>(T.DE d i).map λl=>(.tup (l.map .int),Q')
  |_=>O'):=rfl
theorem E7(d:D)(a:IE):ay T cl e M (.Hn d a)=(match ay T cl e M a with
  |some (.int i,_)=>if 0<=i then(T.Hn d i.toNat).map λf=>(.fn f,Q')else O'
  |_=>O'):=rfl
theorem BL(h:IE):ay T cl e M (.list h)=(match iC T cl e M h with
  |some xs=>if xs.length<=bw then N' (.lst xs,P')else O'
  |none=>O'):=rfl
theorem E8(h:IE):ay T cl e M (.tup h)=(match iC T cl e M h with
  |some xs=>if xs.length<=bw then N' (.tup xs,Q')else O'
  |none=>O'):=rfl
theorem Jo(tg:d_)(j:IE)(h:IE):ay T cl e M (.lc tg j h)=(match e.own,t9 T cl e M j with
  |none,N' xs=>if xs.length<=bw then(pU (b6 T cl e M tg h) xs).map λo=>(.lst o,P')else O'
  |_,_=>O'):=rfl
theorem BM(tg:d_)(o:IE)(h:IE)(j:IE):ay T cl e M (.pq tg o h j)=(match e.own,t9 T cl e M o with
  |none,N' xs=>if xs.length<=bw then(iB (BC T cl e M tg h) (b6 T cl e M tg j) xs).map λq=>(.lst q,P')else O'
  |_,_=>O'):=rfl
theorem E9(f:F)(h:d_):ay T cl e M (.lam f h)=((e.sH h).map λj=>(.j4 f j,Q')):=rfl
theorem pW:iC T cl e M .nil=(N' []):=rfl
theorem lR(a:IE)(r:IE):iC T cl e M (.cons a r)=(match ay T cl e M a,iC T cl e M r with
  |some (x,_),N' xs=>N' (x::xs)
  |_,_=>O'):=rfl
theorem ks(a:IE):t9 T cl e M (.seq a)=(match ay T cl e M a with
  |some (.lst xs,_)=>N' (xs.map λx=>[x])
  |some (.tup xs,_)=>N' (xs.map λx=>[x])
  |_=>O'):=rfl
theorem i0(a:IE):t9 T cl e M (.mx a)=(match ay T cl e M a with
  |some (.int n,_)=>if n.natAbs<=bw then N' (ib 0 n.toNat 1)else O'
  |_=>O'):=rfl
theorem i4(a:IE)(b:IE):t9 T cl e M (.BA a b)=(match ay T cl e M a,ay T cl e M b with
  |some (.int i,_),N' (.int j,_)=>if i.natAbs<=bw/\j.natAbs<=bw then N' (ib i (j-i).toNat 1)else O'
  |_,_=>O'):=rfl
theorem i5(a:IE)(b:IE)(c:IE):t9 T cl e M (.rg a b c)=(match ay T cl e M a,ay T cl e M b,ay T cl e M c with
  |some (.int i,_),N' (.int j,_),N' (.int st,_)=>if i.natAbs<=bw/\j.natAbs<=bw/\0<st/\st<=bw then N' (ib i ((j-i+st-1)/st).toNat st)else O'
  |_,_,_=>O'):=rfl
theorem i6(a:IE):t9 T cl e M (.enum a)=(match ay T cl e M a with
  |some (.lst xs,_)=>N' (j_ 0 xs)
  |_=>O'):=rfl
theorem i7(a:IE)(b:IE):t9 T cl e M (.zip2 a b)=(match ay T cl e M a,ay T cl e M b with
  |some (.lst xs,_),N' (.lst h,_)=>N' (Wj (λx y=>[x,y]) xs h)
  |_,_=>O'):=rfl
theorem i8(a:IE)(b:IE)(c:IE):t9 T cl e M (.xI a b c)=(match ay T cl e M a,ay T cl e M b,ay T cl e M c with
  |some (.lst xs,_),N' (.lst h,_),N' (.lst zs,_)=>N' (Wj (λx (y:SV×SV)=>[x,y.1,y.2]) xs (h.zip zs))
  |_,_,_=>O'):=rfl
theorem ku(a:IE):t9 T cl e M (.rev a)=(match ay T cl e M a with
  |some (.lst xs,_)=>N' (xs.reverse.map λx=>[x])
  |_=>O'):=rfl
theorem E_:cO T cl .nil e M=(N' (.nx e M)):=rfl
theorem Fb(i:Nat)(a:IE)(r:IS):cO T cl (.set i a r) e M=(match ay T cl e M a with
  |some (x,_)=>(match e.free i with
   |true=>cO T cl r (e.put i x) M
   |false=>O')
  |none=>O'):=rfl
theorem Fc(i:Nat)(a:IE)(r:IS):cO T cl (.own i a r) e M=(match ay T cl e M a with
  |some (.lst xs,P')=>(match(ints? xs).isSome&&(e.own.isNone&&Ji e.vals i)with
   |true=>cO T cl r {vals:=e.vals.set i O',own:=N' (i,xs)} M
   |false=>O')
  |_=>O'):=rfl
theorem Fd(i:Nat)(r:IS):cO T cl (.nX i r) e M=(match e.own with
  |some (j,xs)=>if i=j then cO T cl r {vals:=e.vals.set i (N' (.lst xs)),own:=O'} M else O'
  |none=>O'):=rfl
theorem Fe(i:Nat)(o:DD)(a:IE)(r:IS):cO T cl (.aug i o a r) e M=(match e.get i,ay T cl e M a with
  |some (.int x),N' (.int y,_)=>(match binI o x y with
   |some z=>cO T cl r (e.put i (.int z)) M
   |none=>O')
  |_,_=>O'):=rfl
theorem Ff(i:Nat)(a:IE)(r:IS):cO T cl (.app i a r) e M=(match e.own,ay T cl e M a with
  |some (j,xs),N' (x,_)=>if i=j/\xs.length<bw then cO T cl r {e with own:=N' (j,xs++[x])} M else O'
  |_,_=>O'):=rfl
theorem Fg(i:Nat)(a:IE)(r:IS):cO T cl (.ext i a r) e M=(match e.own,ay T cl e M a with
  |some (j,xs),N' (.lst h,_)=>if i=j/\xs.length+h.length<=bw then cO T cl r {e with own:=N' (j,xs++h)} M else O'
  |_,_=>O'):=rfl
theorem Fh(i:Nat)(a:IE)(b:IE)(r:IS):cO T cl (.put i a b r) e M=(match e.own,ay T cl e M b,ay T cl e M a with
  |some (j,xs),N' (y,_),N' (.int n,_)=>if i=j/\0<=n/\n<xs.length then cO T cl r {e with own:=N' (j,xs.set n.toNat y)} M else O'
  |_,_,_=>O'):=rfl
theorem BN(i:Nat)(j:ML)(a:IE)(b:IE)(r:IS):cO T cl (.xJ i j a b r) e M=(match e.get i,M,ay T cl e M b,ay T cl e M a with
  |some .cT,N' m,N' (.int y,_),N' (.int n,_)=>if 0<=n/\n<(m.get j).length then cO T cl r e (N' (m.put j ((m.get j).set n.toNat y)))else O'
  |_,_,_,_=>O'):=rfl
theorem BO(i:Nat)(a:IE)(r:IS):cO T cl (.Ho i a r) e M=(match e.get i,M,ay T cl e M a with
  |some .cT,N' m,N' (.int y,_)=>cO T cl r e (N' {m with f:=y})
  |_,_,_=>O'):=rfl
theorem DF(f:F)(o:IE)(as:IE)(r:IS):cO T cl (.ex f o as r) e M=(match ay T cl e M o,iC T cl e M as with
  |some (.cT,_),N' xs=>(match cl f (.cT::xs) M with
   |some (_,_,h)=>cO T cl r e h
   |none=>O')
  |some (.bQ,_),N' xs=>(match cl f xs M with
   |some (_,_,h)=>cO T cl r e h
   |none=>O')
  |_,_=>O'):=rfl
theorem Fi(i:Nat)(as:IE)(r:IS):cO T cl (.Qh i as r) e M=(match e.get i,iC T cl e M as with
  |some g,N' xs=>(match wg cl g xs M with
   |some (_,_,h)=>cO T cl r e h
   |none=>O')
  |_,_=>O'):=rfl
theorem Fj(c:IE)(a:IS)(b:IS)(r:IS):cO T cl (.ite c a b r) e M=(match ay T cl e M c with
  |some (x,_)=>(match truth x with
   |some P'=>(match cO T cl a e M with
    |some (.nx e' h)=>cO T cl r e' h
    |q=>q)
   |some Q'=>(match cO T cl b e M with
    |some (.nx e' h)=>cO T cl r e' h
    |q=>q)
   |none=>O')
  |none=>O'):=rfl
theorem BP(tg:d_)(h:IE)(body:IS)(r:IS):cO T cl (.iH tg h body r) e M=(match t9 T cl e M h with
  |some xs=>(match cU tg (cO T cl body) xs e M with
   |some (.nx e' j)=>cO T cl r e' j
   |q=>q)
  |none=>O'):=rfl
theorem Fl(n:Nat)(c:IE)(body:IS)(r:IS):cO T cl (.SW n c body r) e M=(match o_ (Ab T cl c) (cO T cl body) n e M with
  |some (.nx e' h)=>cO T cl r e' h
  |q=>q):=rfl
theorem vo(a:IE):cO T cl (.ret a) e M=(match ay T cl e M a with
  |some (x,fr)=>N' (.rt x fr M)
  |none=>O'):=rfl
theorem BQ(i:Nat):cO T cl (.xK i) e M=(match e.own with
  |some (j,xs)=>if i=j then N' (.rt (.lst xs) P' M)else O'
  |none=>O'):=rfl
theorem BR(i:Nat)(f:F)(h:d_)(r:IS):cO T cl (.pT i f h r) e M=(match e.sH h with
  |some j=>(match e.free i with
   |true=>cO T cl r (e.put i (.j4 f j)) M
   |false=>O')
  |none=>O'):=rfl
theorem Fm(a:IE):ay T cl e M (.OC a)=(match ay T cl e M a with
  |some (.cT,_)=>M.map λm=>(.int m.f,Q')
  |_=>O'):=rfl
theorem Af(a:IE):ay T cl e M (.rN a)=(match ay T cl e M a with
  |some (.mem,_)=>(match M.isSome with
   |true=>N' (.ml .rN,Q')
   |false=>O')
  |_=>O'):=rfl
theorem Fo(f:F)(o:IE)(as:IE):ay T cl e M (.Jh f o as)=(match ay T cl e M o,iC T cl e M as with
  |some (.mem,_),N' xs=>jQ cl f (.mem::xs) M
  |_,_=>O'):=rfl
theorem BS(i:Nat)(a b:IE)(r:IS):cO T cl (.BB i a b r) e M=(match e.get i,M,ay T cl e M b,ay T cl e M a with
  |some .mem,N' m,N' (.int y,_),N' (.int n,_)=>if 0<=n/\n<m.c.length then cO T cl r e (N' {m with c:=m.c.set n.toNat y})else O'
  |_,_,_,_=>O'):=rfl
theorem Fp(f:F)(o:IE)(as:IE)(r:IS):cO T cl (.MA f o as r) e M=(match ay T cl e M o,iC T cl e M as with
  |some (.mem,_),N' xs=>(match cl f (.mem::xs) M with
   |some (_,_,h)=>cO T cl r e h
   |none=>O')
  |_,_=>O'):=rfl
end
universe b
def Jp(h:t8 o x y=N' (z,fr)):(∃i j r,x=.int i/\y=.int j/\binI o i j=N' r/\z=.int r/\fr=Q')\/(o=.add/\∃xs q,x=.lst xs/\y=.lst q/\xs.length+q.length<=bw/\z=.lst (xs++q)/\fr=P')\/(o=.mul/\∃xs k,x=.lst xs/\y=.int k/\xs.length*k.toNat<=bw/\k.natAbs<2^62/\z=.lst (VY k.toNat xs).flatten/\fr=P'):=by unfold t8 at h;split at h;rename_i i j;simp![bj,aH]at h;obtain⟨r,u,B,E⟩:=h;show .inl #[i,j,r,S',S',u,B.symm,E.symm];rename_i xs q;split at h;split at h;rename_i s;simp![aF,aH]at h;show .inr (.inl #[S',xs,q,S',S',s,h.1.symm,h.2.symm]);cases h;cases h;rename_i xs k;split at h;split at h;rename_i s;simp![aF,aH]at h;show .inr (.inr #[S',xs,k,S',S',s.1,s.2,h.1.symm,h.2.symm]);cases h;cases h;cases h
def MB(h:ay T cl e M (.bin o a b)=N' (z,fr)):∃x j y q,ay T cl e M a=N' (x,j)/\ay T cl e M b=N' (y,q)/\t8 o x y=N' (z,fr):=by rw[mN]at h;split at h;rename_i x j y q r s;show#[x,j,y,q,r,s,h];cases h
def Fq(h:ay T cl e M (.cmp o a b)=N' (z,fr)):∃x j y q r,ay T cl e M a=N' (x,j)/\ay T cl e M b=N' (y,q)/\xM o x y=N' r/\z=.bl r/\fr=false:=by rw[sJ]at h;split at h;rename_i x j y q s u;simp![bj,aH]at h;obtain⟨r,B,E,G⟩:=h;show#[x,j,y,q,r,s,u,B,E.symm,G.symm];cases h
def Jq(h:xM o x y=N' r):(∃i j,x=.int i/\y=.int j/\r=cF o i j)\/(o=.eq/\∃a b,x=.bl a/\y=.bl b/\r=(a==b))\/(o=.ne/\∃a b,x=.bl a/\y=.bl b/\r=(a !=b))\/(o=.eq/\∃xs q a b,x=.lst xs/\y=.lst q/\ints? xs=N' a/\ints? q=N' b/\r=decide (a=b)):=by unfold xM at h;split at h;rename_i i j;show .inl #[i,j,S',S',by simpa using h.symm];rename_i a b;split at h;show .inr (.inl #[S',a,b,S',S',by simpa using h.symm]);show .inr (.inr (.inl #[S',a,b,S',S',by simpa using h.symm]));cases h;rename_i xs q;split at h;split at h;rename_i a b s u;show .inr (.inr (.inr #[S',xs,q,a,b,S',S',s,u,by simpa using h.symm]));cases h;cases h;cases h
def MC(h:ay T cl e M (.neg a)=N' (z,fr)):∃i j,ay T cl e M a=N' (.int i,j)/\z=.int (-i)/\fr=false:=by rw[ES]at h;split at h;rename_i i j o;simp![aF,aH]at h;show#[i,j,o,h.1.symm,h.2.symm];cases h
def inv_inv(h:ay T cl e M (.inv a)=N' (z,fr)):∃i j,ay T cl e M a=N' (.int i,j)/\z=.int (kR i)/\fr=false:=by rw[ET]at h;split at h;rename_i i j o;simp![aF,aH]at h;show#[i,j,o,h.1.symm,h.2.symm];cases h
def Fs(h:ay T cl e M (.Jf a)=N' (z,fr)):∃x j,ay T cl e M a=N' (x,j)/\fr=Q'/\((x=.bQ/\z=.bl P')\/((∃f,x=.fn f)/\z=.bl Q')\/((∃l,x=.lst l)/\z=.bl Q')):=by rw[EU]at h;split at h;rename_i j o;simp![aF,aH]at h;show#[_,j,o,h.2.symm,.inl #[S',h.1.symm]];rename_i f j o;simp![aF,aH]at h;show#[_,j,o,h.2.symm,.inr (.inl #[#[f,S'],h.1.symm])];rename_i l j o;simp![aF,aH]at h;show#[_,j,o,h.2.symm,.inr (.inr #[#[l,S'],h.1.symm])];cases h
def BU(h:ay T cl e M (.uX a)=N' (z,fr)):∃x j,ay T cl e M a=N' (x,j)/\fr=Q'/\((x=.bQ/\z=.bl Q')\/((∃f,x=.fn f)/\z=.bl P')\/((∃l,x=.lst l)/\z=.bl P')):=by rw[BD]at h;split at h;rename_i j o;simp![aF,aH]at h;show#[_,j,o,h.2.symm,.inl #[S',h.1.symm]];rename_i f j o;simp![aF,aH]at h;show#[_,j,o,h.2.symm,.inr (.inl #[#[f,S'],h.1.symm])];rename_i l j o;simp![aF,aH]at h;show#[_,j,o,h.2.symm,.inr (.inr #[#[l,S'],h.1.symm])];cases h
def Ft(h:ay T cl e M (.Im a b)=N' (z,fr)):∃i j y o xs l,ay T cl e M a=N' (.int i,j)/\ay T cl e M b=N' (y,o)/\(y=.lst xs\/y=.tup xs)/\ints? xs=N' l/\z=.bl (decide (i∈l))/\fr=false:=by rw[EV]at h;split at h;rename_i i j xs o q r;simp![bj,aH]at h;obtain⟨l,s,u,B⟩:=h;show#[i,j,_,o,xs,l,q,r,.inl S',s,u.symm,B.symm];rename_i i j xs o q r;simp![bj,aH]at h;obtain⟨l,s,u,B⟩:=h;show#[i,j,_,o,xs,l,q,r,.inr S',s,u.symm,B.symm];cases h
def yK(h:ay T cl e M (.chain a b c)=N' (z,fr)):∃i q j r,ay T cl e M a=N' (.int i,q)/\ay T cl e M b=N' (.int j,r)/\fr=Q'/\((i<=j/\∃l s,ay T cl e M c=N' (.int l,s)/\z=.bl (decide (j<=l)))\/(¬i<=j/\z=.bl Q')):=by rw[yH]at h;split at h;rename_i i q j r u y;split at h;rename_i o;split at h;rename_i l s B;simp![aF,aH]at h;show#[i,q,j,r,u,y,h.2.symm,.inl #[o,l,s,B,h.1.symm]];cases h;rename_i o;simp![aF,aH]at h;show#[i,q,j,r,u,y,h.2.symm,.inr #[o,h.1.symm]];cases h
def Fu(h:ay T cl e M (.not a)=N' (z,fr)):∃j b,ay T cl e M a=N' (.bl b,j)/\z=.bl (!b)/\fr=false:=by rw[EX]at h;split at h;rename_i b j o;simp![aF,aH]at h;show#[j,b,o,h.1.symm,h.2.symm];cases h
def Fv(h:ay T cl e M (.and a b)=N' (z,fr)):∃c j,ay T cl e M a=N' (.bl c,j)/\fr=Q'/\((c=P'/\∃y o,ay T cl e M b=N' (.bl y,o)/\z=.bl y)\/(c=Q'/\z=.bl Q')):=by rw[Ad]at h;split at h;rename_i j q;split at h;rename_i y o r;simp![aF,aH]at h;show#[P',j,q,h.2.symm,.inl #[S',y,o,r,h.1.symm]];cases h;rename_i j q;simp![aF,aH]at h;show#[Q',j,q,h.2.symm,.inr #[S',h.1.symm]];cases h
def Jr(h:ay T cl e M (.or a b)=N' (z,fr)):∃c j,ay T cl e M a=N' (.bl c,j)/\fr=Q'/\((c=Q'/\∃y o,ay T cl e M b=N' (.bl y,o)/\z=.bl y)\/(c=P'/\z=.bl P')):=by rw[Jl]at h;split at h;rename_i j q;simp![aF,aH]at h;show#[P',j,q,h.2.symm,.inr #[S',h.1.symm]];rename_i j q;split at h;rename_i y o r;simp![aF,aH]at h;show#[Q',j,q,h.2.symm,.inl #[S',y,o,r,h.1.symm]];cases h;cases h
def MD(h:ay T cl e M (.qG c a b)=N' (z,fr)):∃x j t,ay T cl e M c=N' (x,j)/\truth x=N' t/\(if t=P' then ay T cl e M a else ay T cl e M b)=N' (z,fr):=by rw[EY]at h;split at h;rename_i x j q;unfold SX at h;split at h;rename_i o;show#[x,j,P',q,o,by simpa using h];rename_i o;show#[x,j,Q',q,o,by simpa using h];cases h;cases h
def ME(h:ay T cl e M (.Jg a f)=N' (z,fr)):∃o j,ay T cl e M a=N' (.ord o,j)/\z=o.get f/\fr=false:=by rw[EZ]at h;split at h;rename_i o j q;simp![aF,aH]at h;show#[o,j,q,h.1.symm,h.2.symm];cases h
def MF(h:ay T cl e M (.Mz a j)=N' (z,fr)):∃o,ay T cl e M a=N' (.cT,o)/\M.isSome=P'/\z=.ml j/\fr=false:=by rw[Ae]at h;split at h;rename_i o q;split at h;rename_i r;simp![aF,aH]at h;show#[o,q,r,h.1.symm,h.2.symm];cases h;cases h
noncomputable def DG:Bool->SV
 |false=>.cT
 |true=>.mem
noncomputable def DH:Bool->IE->ML->IE
 |false,a,j=>.Mz a j
 |true,a,_=>.rN a
noncomputable def Hq(b:Bool)(j:ML):Bool:=match b,j with
 |false,.rN=>Q'
 |false,_=>P'
 |true,.rN=>P'
 |true,_=>Q'
def Js{b}(q:Hq b j=P')(h:ay T cl e M (DH b a j)=N' (z,fr)):∃o,ay T cl e M a=N' (DG b,o)/\M.isSome=P'/\z=.ml j/\fr=false:=by
 cases b with
 |false=>show MF h
 |true=>
  cases j<;>first|(cases q;done)|skip
  rw[show DH P' a .rN=.rN a from rfl,Af]at h;split at h;rename_i o r;split at h;rename_i s;simp![aF,aH]at h;show#[o,r,s,h.1.symm,h.2.symm];cases h;cases h
def MG(h:ay T cl e M (.OC a)=N' (z,fr)):∃j m,ay T cl e M a=N' (.cT,j)/\M=N' m/\z=.int m.f/\fr=false:=by rw[Fm]at h;split at h;rename_i j o;simp![bj,aH]at h;obtain⟨m,q,r,s⟩:=h;show#[j,m,o,q,r.symm,s.symm];cases h
def Qi(h:ay T cl e M (.ix a b)=N' (z,fr)):∃x j i o xs,ay T cl e M a=N' (x,j)/\ay T cl e M b=N' (.int i,o)/\items? M x=N' xs/\0<=i/\xs[i.toNat]?=N' z/\fr=false:=by rw[Jm]at h;split at h;rename_i x j i o q r;split at h;rename_i xs s;split at h;rename_i u;simp![bj,aH]at h;obtain⟨y,B,E,G⟩:=h;subst E;show#[x,j,i,o,xs,q,r,s,u,B,G.symm];cases h;cases h;cases h
def MH(h:ay T cl e M (.LP a b)=N' (z,fr)):∃x j i o xs,ay T cl e M a=N' (x,j)/\ay T cl e M b=N' (.int i,o)/\items? M x=N' xs/\0<=i/\z=.lst (xs.drop i.toNat)/\fr=true:=by rw[E1]at h;split at h;rename_i x j i o q r;split at h;rename_i xs s;split at h;rename_i u;simp![aF,aH]at h;show#[x,j,i,o,xs,q,r,s,u,h.1.symm,h.2.symm];cases h;cases h;cases h
def MI(h:ay T cl e M (.Bz a b)=N' (z,fr)):∃x j i o xs,ay T cl e M a=N' (x,j)/\ay T cl e M b=N' (.int i,o)/\items? M x=N' xs/\0<=i/\z=.lst (xs.take i.toNat)/\fr=true:=by rw[E2]at h;split at h;rename_i x j i o q r;split at h;rename_i xs s;split at h;rename_i u;simp![aF,aH]at h;show#[x,j,i,o,xs,q,r,s,u,h.1.symm,h.2.symm];cases h;cases h;cases h
def Qj(h:ay T cl e M (.sl a b c)=N' (z,fr)):∃x o i q j r xs,ay T cl e M a=N' (x,o)/\ay T cl e M b=N' (.int i,q)/\ay T cl e M c=N' (.int j,r)/\items? M x=N' xs/\0<=i/\0<=j/\z=.lst ((xs.drop i.toNat).take (j.toNat-i.toNat))/\fr=true:=by rw[Jn]at h;split at h;rename_i x o i q j r u y B;split at h;rename_i xs E;unfold sG at h;split at h;rename_i s;simp![aF,aH]at h;show#[x,o,i,q,j,r,xs,u,y,B,E,s.1,s.2,h.1.symm,h.2.symm];cases h;cases h;cases h
def lS(h:jQ cl f as M=N' (x,fr)):cl f as M=N' (x,fr,M):=by unfold jQ ER at h;split at h;rename_i y g q j;split at h;rename_i o;subst o;simp![aF,aH]at h;obtain⟨rfl,rfl⟩:=h;show j;cases h;cases h
def Jt(h:ay T cl e M (.call f as)=N' (z,fr)):∃xs,iC T cl e M as=N' xs/\cl f xs M=N' (z,fr,M):=by rw[pV]at h;split at h;rename_i xs j;show#[xs,j,lS h];cases h
def Ju(h:ay T cl e M (.eP f o as)=N' (z,fr)):∃j xs,ay T cl e M o=N' (.cT,j)/\iC T cl e M as=N' xs/\cl f (.cT::xs) M=N' (z,fr,M):=by rw[BE]at h;split at h;rename_i j xs q r;show#[j,xs,q,r,lS h];cases h
noncomputable def BV:Bool->F->IE->IE->IE
 |false=>.eP
 |true=>.Jh
def Hr{b}(h:ay T cl e M (BV b f o as)=N' (z,fr)):∃j xs,ay T cl e M o=N' (DG b,j)/\iC T cl e M as=N' xs/\cl f (DG b::xs) M=N' (z,fr,M):=by
 cases b with
 |false=>show Ju h
 |true=>
  rw[show BV P' f o as=.Jh f o as from rfl,Fo]at h;split at h;rename_i j xs q r;show#[j,xs,q,r,lS h];cases h
def Hs(h:ay T cl e M (.sF i as)=N' (z,fr)):∃g xs,e.get i=N' g/\iC T cl e M as=N' xs/\wg cl g xs M=N' (z,fr,M):=by rw[yI]at h;split at h;rename_i g xs j o;apply#[g,xs,j,o,?_];unfold nH at h;split at h;show lS h;show lS h;cases h;cases h
def MJ(h:ay T cl e M (.len a)=N' (z,fr)):∃x j xs,ay T cl e M a=N' (x,j)/\items? M x=N' xs/\z=.int xs.length/\fr=false:=by rw[E3]at h;split at h;rename_i x j o;simp![bj,aH]at h;obtain⟨xs,q,r,s⟩:=h;show#[x,j,xs,o,q,r.symm,s.symm];cases h
def Fw{a:IE}{o:IE}{g:Int->Int}(q:ay T cl e M o=(match ay T cl e M a with
  |some (.int i,_)=>N' (.int (g i),Q')
  |_=>O')){z:SV}{fr:Bool}(h:ay T cl e M o=N' (z,fr)):∃i j,ay T cl e M a=N' (.int i,j)/\z=.int (g i)/\fr=false:=by
 rw[q]at h
 split at h
 rename_i i j r
 simp![aF,aH]at h
 show#[i,j,r,h.1.symm,h.2.symm]
 cases h
def Fx{a b:IE}{r:IE}{g:Int->Int->Int}(s:ay T cl e M r=(match ay T cl e M a,ay T cl e M b with
  |some (.int i,_),N' (.int j,_)=>N' (.int (g i j),Q')
  |_,_=>O')){z:SV}{fr:Bool}(h:ay T cl e M r=N' (z,fr)):∃i o j q,ay T cl e M a=N' (.int i,o)/\ay T cl e M b=N' (.int j,q)/\z=.int (g i j)/\fr=false:=by
 rw[s]at h
 split at h
 rename_i i o j q u y
 simp![aF,aH]at h
 show#[i,o,j,q,u,y,h.1.symm,h.2.symm]
 cases h
def Jv(h:ay T cl e M (.list as)=N' (z,fr)):∃xs,iC T cl e M as=N' xs/\xs.length<=bw/\z=.lst xs/\fr=true:=by rw[BL]at h;split at h;rename_i xs j;split at h;rename_i o;simp![aF,aH]at h;show#[xs,j,o,h.1.symm,h.2.symm];cases h;cases h
def MK(h:ay T cl e M (.tup as)=N' (z,fr)):∃xs,iC T cl e M as=N' xs/\xs.length<=bw/\z=.tup xs/\fr=false:=by rw[E8]at h;split at h;rename_i xs j;split at h;rename_i o;simp![aF,aH]at h;show#[xs,j,o,h.1.symm,h.2.symm];cases h;cases h
def DI(o:ay T cl e M q=(match ay T cl e M a with
  |some (.lst xs,_)=>((ints? xs).bind g).map λi=>(.int i,Q')
  |_=>O'))(h:ay T cl e M q=N' (z,fr)):∃xs j l i,ay T cl e M a=N' (.lst xs,j)/\ints? xs=N' l/\g l=N' i/\z=.int i/\fr=false:=by
 rw[o]at h
 split at h
 rename_i xs j r
 simp![bj,C5,aH]at h
 obtain⟨i,⟨l,s,u⟩,y,B⟩:=h
 show#[xs,j,l,i,r,s,u,y.symm,B.symm]
 cases h
def MM(h:ay T cl e M (.sum a)=N' (z,fr)):∃xs j l,ay T cl e M a=N' (.lst xs,j)/\ints? xs=N' l/\z=.int l.sum/\fr=false:=by rw[E5]at h;split at h;rename_i xs j o;simp![bj,aH]at h;obtain⟨l,q,r,s⟩:=h;show#[xs,j,l,o,q,r.symm,s.symm];cases h
def Ht(h:ay T cl e M (.index a b)=N' (z,fr)):∃xs o i q l j,ay T cl e M a=N' (.lst xs,o)/\ay T cl e M b=N' (.int i,q)/\ints? xs=N' l/\jP i l=N' j/\z=.int (Wa j)/\fr=false:=by rw[yJ]at h;split at h;rename_i xs o i q r s;simp![bj,C5,aH]at h;obtain⟨j,⟨l,u,y⟩,B,E⟩:=h;show#[xs,o,i,q,l,j,r,s,u,y,B.symm,E.symm];cases h
theorem sL:∀{l:List Int} {j:Nat},jP i l=N' j->l[j]?=N' i/\∀m z,m<j->l[m]?=N' z->z≠i
 |[],j,h=>by simp[jP]at h
 |x::r,j,h=>by
  unfold jP at h;split at h;rename_i e;simp![aF]at h;subst h;show#[by simp[e],λm z q=>absurd q (Nat.not_lt_zero m)];rename_i e;simp![bj]at h;obtain⟨B,s,rfl⟩:=h;obtain⟨u,y⟩:=sL s;apply#[by simpa using u,λm z q o=> ?_];cases m with
  |zero=>simp at o;subst o;show e
  |succ m=>show y m z 'l' (by simpa using o)
universe a
def BW(h:m6 l=N' i):i∈l/\∀a∈l,i<=a:=by
 cases l with
 |nil=>simp[m6]at h
 |cons x r=>
  simp![m6,aF]at h;subst h;have q:∀(r:List Int) (x:Int),(r.foldl (λa b=>if b<a then b else a) x∈x::r)/\r.foldl (λa b=>if b<a then b else a) x<=x/\∀a∈r,r.foldl (λa b=>if b<a then b else a) x<=a:=by
   intro r;induction r with
   |nil=>intro x;simp
   |cons y r B=>
    intro x;obtain⟨s,o,u⟩:=B (if y<x then y else x);simp![qj];apply#[?_,?_,?_];rcases aE.mp s with h|h;rw[h];split;simp;simp;simp[h];apply Int.le_trans o ?_;split<;>lia;intro a j;rcases aE.mp j with rfl|j;apply Int.le_trans o ?_;split<;>lia;show u a j
  obtain⟨s,o,u⟩:=q r x;show#[s,λa j=>by rcases aE.mp j with rfl|j;show o;show u a j]
universe b
def cons_inv(h:iC T cl e M (.cons a r)=N' zs):∃x j xs,ay T cl e M a=N' (x,j)/\iC T cl e M r=N' xs/\zs=x::xs:=by rw[lR]at h;split at h;rename_i x j xs o q;simp![aF]at h;show#[x,j,xs,o,q,h.symm];cases h
def Jw(h:ay T cl e M (.iZ d a)=N' (z,fr)):∃i j,ay T cl e M a=N' (.int i,j)/\z=(T.iZ d i).elim .bQ .fn/\fr=false:=by rw[BK]at h;split at h;rename_i i j o;simp![aF,aH]at h;show#[i,j,o,h.1.symm,h.2.symm];cases h
def MN(h:ay T cl e M (.DE d a)=N' (z,fr)):∃i j l,ay T cl e M a=N' (.int i,j)/\T.DE d i=N' l/\z=.tup (l.map .int)/\fr=false:=by rw[E6]at h;split at h;rename_i i j o;simp![bj,aH]at h;obtain⟨l,q,r,s⟩:=h;show#[i,j,l,o,q,r.symm,s.symm];cases h
def MO(h:ay T cl e M (.Hn d a)=N' (z,fr)):∃i j f,ay T cl e M a=N' (.int i,j)/\0<=i/\T.Hn d i.toNat=N' f/\z=.fn f/\fr=false:=by rw[E7]at h;split at h;rename_i i j o;split at h;rename_i q;simp![bj,aH]at h;obtain⟨f,r,s,u⟩:=h;show#[i,j,f,o,q,r,s.symm,u.symm];cases h;cases h
def Fy(h:ay T cl e M (.inD a d)=N' (z,fr)):∃i j,ay T cl e M a=N' (.int i,j)/\z=.bl (T.qH d i)/\fr=false:=by rw[EW]at h;split at h;rename_i i j o;simp![aF,aH]at h;show#[i,j,o,h.1.symm,h.2.symm];cases h
def wo(h:ay T cl e M (.oI a d)=N' (z,fr)):∃i j,ay T cl e M a=N' (.int i,j)/\z=.bl (!T.qH d i)/\fr=false:=by rw[wk]at h;split at h;rename_i i j o;simp![aF,aH]at h;show#[i,j,o,h.1.symm,h.2.symm];cases h
def MP(h:t9 T cl e M (.seq a)=N' rs):∃y j xs,ay T cl e M a=N' (y,j)/\(y=.lst xs\/y=.tup xs)/\rs=xs.map λx=>[x]:=by rw[ks]at h;split at h;rename_i xs j o;simp![aF]at h;show#[_,j,xs,o,.inl S',h.symm];rename_i xs j o;simp![aF]at h;show#[_,j,xs,o,.inr S',h.symm];cases h
def Jx(h:t9 T cl e M (.mx a)=N' rs):∃n j,ay T cl e M a=N' (.int n,j)/\n.natAbs<=bw/\rs=ib 0 n.toNat 1:=by rw[i0]at h;split at h;rename_i n j o;split at h;rename_i q;simp![aF]at h;show#[n,j,o,q,h.symm];cases h;cases h
def Jy(h:t9 T cl e M (.BA a b)=N' rs):∃i o j q,ay T cl e M a=N' (.int i,o)/\ay T cl e M b=N' (.int j,q)/\i.natAbs<=bw/\j.natAbs<=bw/\rs=ib i (j-i).toNat 1:=by rw[i4]at h;split at h;rename_i i o j q s u;split at h;rename_i r;simp![aF]at h;show#[i,o,j,q,s,u,r.1,r.2,h.symm];cases h;cases h
def Jz(h:t9 T cl e M (.rg a b c)=N' rs):∃i r j s o u,ay T cl e M a=N' (.int i,r)/\ay T cl e M b=N' (.int j,s)/\ay T cl e M c=N' (.int o,u)/\i.natAbs<=bw/\j.natAbs<=bw/\0<o/\o<=bw/\rs=ib i ((j-i+o-1)/o).toNat o:=by rw[i5]at h;split at h;rename_i i r j s o u y B E;split at h;rename_i q;simp![aF]at h;show#[i,r,j,s,o,u,y,B,E,q.1,q.2.1,q.2.2.1,q.2.2.2,h.symm];cases h;cases h
def JA(h:t9 T cl e M (.enum a)=N' rs):∃xs j,ay T cl e M a=N' (.lst xs,j)/\rs=j_ 0 xs:=by rw[i6]at h;split at h;rename_i xs j o;simp![aF]at h;show#[xs,j,o,h.symm];cases h
def JB(h:t9 T cl e M (.zip2 a b)=N' rs):∃xs o j q,ay T cl e M a=N' (.lst xs,o)/\ay T cl e M b=N' (.lst j,q)/\rs=Wj (λx y=>[x,y]) xs j:=by rw[i7]at h;split at h;rename_i xs o j q r s;simp![aF]at h;show#[xs,o,j,q,r,s,h.symm];cases h
def MQ(h:t9 T cl e M (.rev a)=N' rs):∃xs j,ay T cl e M a=N' (.lst xs,j)/\rs=xs.reverse.map λx=>[x]:=by rw[ku]at h;split at h;rename_i xs j o;simp![aF]at h;show#[xs,j,o,h.symm];cases h
universe a
theorem yL{tg:d_}{body:Ev->gf->Option (Out)}(P:Nat->Ev->gf->Prop):∀(xs:List (kS)) (i:Nat) (e:Ev) (M:gf),P i e M->(∀j x e M,xs[j]?=N' x->P (i+j) e M->tg.all e.free=P'/\∃e' o,body (e.kh tg x) M=N' (.nx e' o)/\P (i+j+1) e' o)->∃e' o,cU tg body xs e M=N' (.nx e' o)/\P (i+xs.length) e' o
 |[],i,e,M,h0,_=>#[e,M,S',h0]
 |x::r,i,e,M,h0,h=>by
  obtain⟨q,s,u,B,E⟩:=h 0 x e M S' h0;obtain⟨e',o,G,H⟩:=yL P r (i+1) s u E λj y e M J L=>by have:=h (j+1) y e M (by simpa using J) (by rw[show i+(j+1)=i+1+j by lia];show L);rw[show i+(j+1)+1=i+1+j+1 by lia]at this;show this
  apply#[e',o,?_,by rw[dR,show i+(r.length+1)=i+1+r.length by lia];show H];simp![cU,q,dC,B];show G
def Ag{tg:d_}{body:Ev->gf->Option (Out)}{xs:List (kS)}{e:Ev}{M:gf}(P:Nat->Ev->gf->Prop)(q:P 0 e M) (h:∀j x e M,xs[j]?=N' x->P j e M->tg.all e.free=P'/\∃e' o,body (e.kh tg x) M=N' (.nx e' o)/\P (j+1) e' o):∃e' o,cU tg body xs e M=N' (.nx e' o)/\P xs.length e' o:=by
 have:=yL P xs 0 e M q λj x e M r s=>by have:=h j x e M r (by simpa using s);simpa using this
 simpa using this
def eF{tg:d_}{body:Ev->gf->Option (Out)}{xs:List (kS)}{e:Ev}{M:gf}(P:Nat->Ev->Prop)(u:P 0 e) (h:∀j x e,xs[j]?=N' x->P j e->tg.all e.free=P'/\∃e',body (e.kh tg x) M=N' (.nx e' M)/\P (j+1) e'):∃e',cU tg body xs e M=N' (.nx e' M)/\P xs.length e':=by
 obtain⟨e',o,q,r,rfl⟩:=Ag (M:=M) (λi e o=>P i e/\o=M) #[u,S'] λj x e o y s=>by obtain⟨B,E⟩:=s;subst E;obtain⟨q,e',r,G⟩:=h j x e y B;show#[q,e',_,r,G,S']
 show#[e',q,r]
theorem nI{j o q:Type}{f:o->Option q}{g:j->o}{h:j->q}:∀(xs:List j),(∀x∈xs,f (g x)=N' (h x))->pU f (xs.map g)=N' (xs.map h)
 |[],_=>rfl
 |x::r,s=>by simp![bf,pU,s x (by simp),nI r λy u=>s y (by simp[u])];rfl
end Lw
local macro_rules|`(instance $i:declId $b* : $t $v:declVal)=>`(noncomputable def $i:declId $b* : $t $v:declVal)
namespace Lw
open PySem PySem.W L2
structure Zx where
 on:Bool
 po:Bool->VZ
 dp:Bool->VZ
 pl:ML->VZ
instance Zx.ma(Z:Zx):mw:=if Z.on=P' then [Z.po Q',Z.po P',Z.pl .vec,Z.pl .we,Z.pl .xH,Z.pl .rN]else []
def Zx.BX{Z:Zx}(h:Z.on=P'):(∀b,Z.po b∈Z.ma)/\∀j,Z.pl j∈Z.ma:=by simp![Zx.ma,h];show#[λb=>by cases b<;>simp,λj=>by cases j<;>simp]
structure Gx where
 K:V7
 mg:x1
 CL:Bool->VZ
 CO:VZ
 nm:F->Str
 fa:F->VZ
 fd:F->FuncData
 ps:F->iG
 glob:F->Bool
 eP:Bool->F->Bool
 j4:F->Bool
 gn:Nat->Str
 dn:D->Str
 da:D->VZ
 BY:D->Bool
 tb:List (VZ×Pos×Str)
 cs:F->iG
 cq:F->Str
 DJ:F->L1->Value->Value->Value->FuncData
instance BZ(o:Ord):List (Str×V):=[("sound",.bl o.sound),("operation",.int o.operation),("k",.int o.k),("n",.int o.n),("zeroing",.bl o.oH),("d",.int o.d),("a",.int o.a),("b",.int o.b),("g",.int o.g),("z",.int o.z),("m",.int o.m)]
instance wq(Z:Zx)(f:Int):List (Str×V):=[("vectors",.ref (Z.pl .vec)),("predicates",.ref (Z.pl .we)),("scalars",.ref (Z.pl .xH)),("flags",.int f)]
def DK(Z:Zx)(f:Int):Bool->List (Str×V)
 |false=>wq Z f
 |true=>[("cells",.ref (Z.pl .rN))]
instance SY:OA->Str
 |.sound=>"sound"|.operation=>"operation"|.k=>"k"|.n=>"n"|.oH=>"zeroing"|.d=>"d"|.a=>"a"|.b=>"b"|.g=>"g"|.z=>"z"|.m=>"m"
instance OD:ML->Str
 |.vec=>"vectors"|.we=>"predicates"|.xH=>"scalars"|.rN=>"cells"
def nJ(G:Gx)(B:mw)(H:Hp)(a:VZ)(f:F)(vs:List V):Prop:=G.j4 f=P'/\∃h ct doc j,H a=N' (tZ a (G.DJ f h ct doc (.ref j)))/\H j=N' (qM j (G.cq f))/\oF H (G.cs f) h vs/\a∉B/\j∉B/\∀x c,(x,c)∈h->c∉B
def NT(o:HO):Prop:=∀ps,o≠.qK ps
def bU(xs):NT (.lst xs):=λ_ h=>nomatch h
def JC(xs):NT (.tup xs):=λ_ h=>nomatch h
def lp(C j)(fs):NT (.ins C j fs):=λ_ h=>nomatch h
def wt(φ):NT (.ext φ):=λ_ h=>nomatch h
def wu(o)(u):NT (.nX o u):=λ_ h=>nomatch h
mutual
def Rep(G:Gx)(Z:Zx)(B:mw)(H:Hp):SV->V->Prop
 |.bQ,v=>v=.bQ
 |.bl b,v=>v=.bl b
 |.int i,v=>v=.int i
 |.lst xs,v=>∃a vs,v=.ref a/\a∉B/\H a=N' (.lst vs)/\aA G Z B H xs vs
 |.tup xs,v=>∃a vs,v=.ref a/\((a∉B/\H a=N' (.tup vs))\/o8 G.K (λ_=>O') a vs)/\aA G Z B H xs vs
 |.fn f,v=>v=.ref (G.fa f)/\G.glob f=P'
 |.j4 f cs,v=>∃a vs,v=.ref a/\nJ G B H a f vs/\aA G Z B H cs vs
 |.ord o,v=>∃a h,v=.ref a/\a∉B/\H a=N' (.ins G.CO h (BZ o))
 |.cT,v=>v=.ref (Z.po Q')/\Z.on=P'
 |.mem,v=>v=.ref (Z.po P')/\Z.on=P'
 |.ml j,v=>v=.ref (Z.pl j)/\Z.on=P'
def aA(G:Gx)(Z:Zx)(B:mw)(H:Hp):kS->List V->Prop
 |[],vs=>vs=[]
 |x::xs,vs=>∃v r,vs=v::r/\Rep G Z B H x v/\aA G Z B H xs r
end
def mi(B h:mw)(H j:Hp):Prop:=∀b o,H b=N' o->NT o->b∉B->j b=N' o/\b∉h
theorem oF.cell(k:oF H cs j vs)(h:(x,c)∈j):∃o u,H c=N' (.nX o u):=by obtain⟨i,r⟩:=tH (k.only x c h);obtain⟨y,v,o,q,_,s⟩:=k.has i x r;rw[k.uniq x c h]at q;cases q;show#[o,_,s]
theorem nJ.keep(k:mi B L H M)(h:nJ G B H a f vs):nJ G L M a f vs:=by obtain⟨O,r,ct,doc,s,P,Q,j,U,X,y⟩:=h;obtain⟨Y,Z⟩:=k a _ P (wt _) U;obtain⟨T,C⟩:=k s _ Q (wt _) X;apply#[O,r,ct,doc,s,Y,T,#[j.inj,j.uniq,j.only,j.len,λi x e=> ?_],Z,C,λx c E=> ?_];obtain⟨c,v,o,J,F,D⟩:=j.has i x e;show#[c,v,o,J,F,(k c _ D (wu _ _) (y x c (eR J))).1];obtain⟨o,u,q⟩:=oF.cell j E;show(k c _ q (wu _ _) (y x c E)).2
mutual
theorem Rep.keep(k:mi B E H J):∀{x:SV} {v:V},Rep G Z B H x v->Rep G Z E J x v
 |.bQ,_,h=>by simpa [Rep] using h
 |.bl b,_,h=>by simpa [Rep] using h
 |.int i,_,h=>by simpa [Rep] using h
 |.lst xs,v,h=>by simp![Rep]at h|-;obtain⟨a,vs,e,q,s,r⟩:=h;obtain⟨u,y⟩:=k a _ s (bU _) q;show#[a,vs,e,y,u,aA.keep k r]
 |.tup xs,v,h=>by simp![Rep]at h|-;obtain⟨a,vs,e,c,r⟩:=h;apply#[a,vs,e,?_,aA.keep k r];rcases c with⟨q,s⟩|c;obtain⟨u,y⟩:=k a _ s (JC _) q;show .inl #[y,u];show .inr c
 |.fn f,_,h=>by simpa [Rep] using h
 |.j4 f cs,v,h=>by simp![Rep]at h|-;obtain⟨a,vs,e,c,r⟩:=h;show#[a,vs,e,nJ.keep k c,aA.keep k r]
 |.ord o,v,h=>by simp![Rep]at h|-;obtain⟨a,L,e,q,s⟩:=h;obtain⟨u,y⟩:=k a _ s (lp _ _ _) q;show#[a,L,e,y,u]
 |.cT,_,h=>by simpa [Rep] using h
 |.mem,_,h=>by simpa [Rep] using h
 |.ml j,_,h=>by simpa [Rep] using h
theorem aA.keep(k:mi B j H o):∀{xs:kS} {vs:List V},aA G Z B H xs vs->aA G Z j o xs vs
 |[],_,h=>by simpa [aA] using h
 |x::xs,vs,h=>by simp![aA]at h|-;obtain⟨v,r,e,q,s⟩:=h;show#[v,r,e,Rep.keep k q,aA.keep k s]
end
def TabAt(G:Gx)(H:Hp):Prop:=∀t∈G.tb,He H t.1 t.2.1 t.2.2
structure Sm(G:Gx)(H H':Hp):Prop where
 kp:∀b o,H b=N' o->NT o->H' b=N' o
 tb:∀b ps,H b=N' (.qK ps)->∃ps',H' b=N' (.qK ps')
 ta:TabAt G H->TabAt G H'
def Sm.refl(H):Sm G H H:=#[λ_ _ h _=>h,λ_ ps h=>#[ps,h],id]
def Sm.trans(a:Sm G H H1)(b:Sm G H1 j):Sm G H j:=#[λc o h n=>b.kp c o (a.kp c o h n) n,λc ps h=>let ⟨ps',h'⟩:=a.tb c ps h;b.tb c ps' h',λh=>b.ta (a.ta h)]
def Sm.free(a:Sm G H j)(h:j l=O'):H l=none:=by
 cases q:H l with
 |none=>rfl
 |some o=>
  cases o with
  |qK ps=>obtain⟨_,e⟩:=a.tb l ps q;rw[e]at h;cases h
  |_=>rw[a.kp l _ q (λ_ z=>nomatch z)]at h;cases h
def _root_.L2.ph.sm(s:ph H j):Sm G H j:=#[λb o h _=>s b o h,λb ps h=>#[ps,s b _ h],λh t q=>(h t q).imp (λe=>s _ _ e) λ⟨r,e1,e2⟩=>#[r,s _ _ e1,s _ _ e2]]
def mi.same(s:Sm G H j):mi B B H j:=λb o h n q=>#[s.kp b o h n,q]
def Rep.same(s:Sm G H h)(r:Rep G Z B H x v):Rep G Z B h x v:=r.keep (mi.same s)
def aA.same(s:Sm G H h)(r:aA G Z B H xs vs):aA G Z B h xs vs:=r.keep (mi.same s)
theorem aA.length:∀{xs:kS} {vs:List V},aA G Z B H xs vs->xs.length=vs.length
 |[],_,h=>by simp![aA]at h;subst h;rfl
 |x::xs,vs,h=>by simp![aA]at h;obtain⟨v,r,e,_,j⟩:=h;subst e;simp[aA.length j]
theorem aA.get:∀{xs:kS} {vs:List V} {i:Nat} {x:SV},aA G Z B H xs vs->xs[i]?=N' x->∃v,vs[i]?=N' v/\Rep G Z B H x v
 |[],_,_,_,_,e=>by simp at e
 |y::xs,vs,i,x,h,e=>by
  simp![aA]at h;obtain⟨v,r,j,o,q⟩:=h;subst j;cases i with
  |zero=>simp at e;subst e;show#[v,S',o]
  |succ i=>simpa using aA.get q (by simpa using e)
theorem aA.append:∀{xs j:kS} {vs ws:List V},aA G Z B H xs vs->aA G Z B H j ws->aA G Z B H (xs++j) (vs++ws)
 |[],_,_,_,h,k=>by simp![aA]at h;subst h;simpa using k
 |x::xs,j,vs,ws,h,k=>by simp![aA]at h;obtain⟨v,r,e,o,q⟩:=h;subst e;simp![ra,aA];show#[v,r++ws,S',o,aA.append q k]
theorem aA.drop:∀{xs:kS} {vs:List V} (n),aA G Z B H xs vs->aA G Z B H (xs.drop n) (vs.drop n)
 |_,_,0,h=>by simpa using h
 |[],_,n+1,h=>by simp![aA]at h;subst h;simp[aA]
 |x::xs,vs,n+1,h=>by simp![aA]at h;obtain⟨v,r,e,o,j⟩:=h;subst e;simpa using aA.drop n j
theorem aA.take:∀{xs:kS} {vs:List V} (n),aA G Z B H xs vs->aA G Z B H (xs.take n) (vs.take n)
 |_,_,0,h=>by simp[aA]
 |[],_,n+1,h=>by simp![aA]at h;subst h;simp[aA]
 |x::xs,vs,n+1,h=>by simp![aA]at h;obtain⟨v,r,e,j,o⟩:=h;subst e;simp![List.take_succ_cons,aA];show#[v,_,S',j,aA.take n o]
theorem aA.rep(h:aA G Z B H xs vs):∀n:Nat,aA G Z B H (VY n xs).flatten (VY n vs).flatten
 |0=>by simp[aA]
 |n+1=>by rw[n_,n_,q_,q_];show h.append (h.rep n)
theorem aA.set(j:Rep G Z B H x v):∀{xs:kS} {vs:List V} (i),aA G Z B H xs vs->aA G Z B H (xs.set i x) (vs.set i v)
 |[],_,i,h=>by simp![aA]at h;subst h;simp[aA]
 |y::xs,vs,i,h=>by
  simp![aA]at h;obtain⟨u,r,e,q,o⟩:=h;subst e;cases i with
  |zero=>simp![Xz,aA];show#[v,r,S',j,o]
  |succ i=>simp![ZA,aA];show#[u,_,S',q,aA.set j i o]
theorem aA.ints:∀(l:List Int),aA G Z B H (l.map SV.int:kS) (l.map V.int)
 |[]=>by simp[aA]
 |i::l=>by simp![bf,aA];show#[.int i,_,S',by simp[Rep],aA.ints l]
theorem aA.kv:∀{xs:kS} {l:List Int} {vs:List V},ints? xs=N' l->aA G Z B H xs vs->vs=l.map V.int
 |[],l,vs,e,h=>by simp![ints?,aF]at e;simp![aA]at h;subst e;subst h;rfl
 |x::xs,l,vs,e,h=>by
  simp![aA]at h;obtain⟨v,r,o,q,s⟩:=h;subst o;cases x with
  |int i=>
   simp![ints?,bj]at e;obtain⟨E,u,y⟩:=e;subst y;have j:v=.int i:=by simpa [Rep] using q
   rw[j,aA.kv u s];rfl
  |_=>simp[ints?]at e
structure sM(G:Gx)(Z:Zx)(H:Hp)(m:xu):Prop where
 ob:∀b,H (Z.po b)=N' (.ins (G.CL b) (Z.dp b) (DK Z m.f b))
 ls:∀j,H (Z.pl j)=N' (.lst ((m.get j).map V.int))
 nj:∀i j,Z.pl i=Z.pl j->i=j
def kU(G:Gx)(Z:Zx)(H:Hp)(M:gf):Prop:=(Z.on=P'/\∃m,M=N' m/\sM G Z H m)\/(Z.on=Q'/\M=O')
def kU.same(s:Sm G H o)(r:kU G Z H M):kU G Z o M:=by rcases r with⟨h,m,e,q⟩|r;show .inl #[h,m,e,λb=>s.kp _ _ (q.ob b) (lp _ _ _),λj=>s.kp _ _ (q.ls j) (bU _),q.nj];show .inr r
def kU.get(r:kU G Z H M)(e:M=N' m):Z.on=P'/\sM G Z H m:=by rcases r with⟨h,j,e',q⟩|⟨_,e'⟩;rw[e]at e';cases e';show#[h,q];rw[e]at e';cases e'
structure kX(G:Gx)(Z:Zx)(H H':Hp):Prop where
 kp:∀b o,H b=N' o->NT o->b∉Z.ma->H' b=N' o
 tb:∀b ps,H b=N' (.qK ps)->∃ps',H' b=N' (.qK ps')
 ta:TabAt G H->TabAt G H'
def kX.refl(H):kX G Z H H:=#[λ_ _ h _ _=>h,λ_ ps h=>#[ps,h],id]
def kX.trans(a:kX G Z H H1)(b:kX G Z H1 j):kX G Z H j:=#[λc o h n m=>b.kp c o (a.kp c o h n m) n m,λc ps h=>let ⟨ps',h'⟩:=a.tb c ps h;b.tb c ps' h',λh=>b.ta (a.ta h)]
def Sm.JD(s:Sm G H j):kX G Z H j:=#[λb o h n _=>s.kp b o h n,s.tb,s.ta]
def kX.same(k:kX G Z H y)(r:kU G Z H M)(B:kU G Z y M):Sm G H y:=#[λb o h n=>by rcases r with⟨j,m,e,q⟩|⟨j,_⟩;obtain⟨_,s⟩:=B.get e;by_cases u:b∈Z.ma;simp![Zx.ma,j,dC,aE,kn,lI]at u;rcases u with rfl|rfl|rfl|rfl|rfl|rfl;rw[q.ob]at h;cases h;show s.ob _;rw[q.ob]at h;cases h;show s.ob _;rw[q.ls]at h;cases h;show s.ls _;rw[q.ls]at h;cases h;show s.ls _;rw[q.ls]at h;cases h;show s.ls _;rw[q.ls]at h;cases h;show s.ls _;show k.kp b o h n u;show k.kp b o h n (by simp[Zx.ma,j]),k.tb,k.ta]
def Std(H:Hp)(b:VZ):Prop:=∃o,H b=N' o/\∀φ,o≠.ext φ
def Std.lst(h:H b=N' (.lst xs)):Std H b:=#[_,h,λ_ z=>nomatch z]
def Std.ins(h:H b=N' (.ins C d fs)):Std H b:=#[_,h,λ_ z=>nomatch z]
structure Rel(G:Gx)(Z:Zx)(B0:mw)(H0:Hp)(B:mw)(σ:L2.St)(e:Ev)(H:Hp)(M:gf):Prop where
 len:σ.length=e.vals.length
 uY:∀b∈B0,Std H b
 ext:kX G Z H0 H
 tab:TabAt G H
 iJ:kU G Z H M
 wx:∀b∈Z.ma,b∈B0
 val:∀i x,e.get i=N' x->∃v,σ[i]?=N' (N' v)/\Rep G Z B H x v
 no:e.own=O'->B=B0
 on:∀i xs,e.own=N' (i,xs)->e.get i=O'
 ow:∀i xs,e.own=N' (i,xs)->∃a vs,B=a::B0/\σ[i]?=N' (N' (.ref a))/\a∉B0/\H0 a=O'/\H a=N' (.lst vs)/\aA G Z B H xs vs
def _root_.L2.HO.yM(o):NT o\/∃ps,o=.qK ps:=by
 cases o with
 |qK ps=>show .inr #[ps,S']
 |_=>show .inl λ_ h=>nomatch h
def Sm.uY(s:Sm G H j)(h:Std H b):Std j b:=by obtain⟨o,h,q⟩:=h;rcases o.yM with n|⟨ps,rfl⟩;show#[o,s.kp _ _ h n,q];obtain⟨r,e⟩:=s.tb _ _ h;show#[_,e,λ_ z=>nomatch z]
def Rel.same(r:Rel G Z B0 j B σ e H M)(s:Sm G H o):Rel G Z B0 j B σ e o M where
 len:=r.len
 uY:=λb q=>s.uY (r.uY b q)
 ext:=r.ext.trans s.JD
 tab:=s.ta r.tab
 iJ:=r.iJ.same s
 wx:=r.wx
 val:=λi x h=>let ⟨v,h1,h2⟩:=r.val i x h;#[v,h1,h2.same s]
 no:=r.no
 on:=r.on
 ow:=λi xs h=>let ⟨a,vs,h1,h2,h3,h4,h5,h6⟩:=r.ow i xs h;#[a,vs,h1,h2,h3,h4,s.kp _ _ h5 (bU _),h6.same s]
def Rel.Hu(r:Rel G Z B0 s B σ e H M):∀b∈B,Std H b:=by
 intro b j;cases h:e.own with
 |none=>rw[r.no h]at j;show r.uY b j
 |some p=>
  obtain⟨i,xs⟩:=p;obtain⟨a,vs,o,_,_,_,q,_⟩:=r.ow i xs h;rw[o]at j;rcases aE.mp j with rfl|j;show Std.lst q;show r.uY b j
def Rel.fresh(r:Rel G Z B0 s B σ e H M)(j:H p=O'):p∉B:=λq=>by obtain⟨o,h,_⟩:=r.Hu p q;rw[j]at h;cases h
def _root_.L2.ph.new(j:H p=O'):ph H (upd H p o):=λb u h=>by rw[aq (aN h j)];show h
inductive SpI(G:Gx)(cl:By)(f:F)(vs:List V)(H:Hp)(Q:VK):Prop
 |mk (len:vs.length=(G.ps f).length) (Z:Zx) (B:mw) (xs:kS) (M:gf) (x:SV) (fr:Bool) (M':gf) (hB:∀b∈B,Std H b) (hZ:∀b∈Z.ma,b∈B) (r:aA G Z B H xs vs) (hm:kU G Z H M) (ht:TabAt G H) (hc:cl f xs M=N' (x,fr,M'))
  (q:∀v H',kX G Z H H'->Rep G Z B H' x v->kU G Z H' M'->(fr=P'->∃a,v=.ref a/\H a=O')->Q v H'):SpI G cl f vs H Q
def uZ(G:Gx)(h:By)(f:F):Sp:=λvs H Q _=>SpI G h f vs H Q
structure Mo(G:Gx)(T:kT)(cl:By)(gv:Nat->uQ)(k:Nat)(X:Cx):Prop where
 K:X.K=G.K
 mg:X.mg=G.mg
 calm:X.calm=P'
 room:fH k X.A
 nd:X.N.Nodup
 Qk:∀f,G.glob f=P'->X.mg (G.nm f)=N' (.ref (G.fa f))/\XE X.K (.ref (G.fa f))=P'/\(G.nm f=="__debug__")=Q'
 ar:∀f xs M r,cl f xs M=N' r->G.glob f=P'\/(∃b,G.eP b f=P')\/G.j4 f=P'->xs.length=(G.ps f).length
 Ah:∀f,G.glob f=P'\/(∃b,G.eP b f=P')->gX X.1 X.w X.K X.mg X.base lM k (G.fa f) (G.fd f) (G.ps f) (uZ G cl f)/\Binds X.K (G.fd f) (G.ps f) []
 met:∀b f,G.eP b f=P'->Meth X.K (G.CL b) (G.nm f) (G.fa f)
 nme:∀b f (Z:Zx) (i:Int),G.eP b f=P'->(DK Z i b).lookup (G.nm f)=O'
 xw:∀b,vk X.K (G.CL b)
 wz:vk X.K G.CO
 Hv:∀b j,fP X.K (G.CL b) (OD j)
 MS:fP X.K (G.CL Q') "flags"
 wA:∀a,fP X.K G.CO (SY a)
 T_:∀f,G.j4 f=P'->∀(A:WK) (outer:List Env) (s:Shared) (H:Hp) (us:TyJ) (vs cvs:List V) (a:VZ) (Q:VK),fH k A->rd X.1 X.w X.K X.mg X.base A outer s H->nJ G [] H a f cvs->Vals vs us->uZ G cl f (vs++cvs) H Q E0->
  WW (V3 X.1 X.w) A (.call (.ref a) #[us,[]]) (CR lM outer X.1 X.w H s Q E0) s
 gi:∀n c,gv n=N' c->(∃t,X.mg (G.gn n)=N' (.int c t))/\(G.gn n=="__debug__")=Q'
def _root_.L2.PE.weak(h:PE X e t)(w:∀σ H Q,t' σ H Q->t σ H Q):PE X e t':=λpins s σ H Q I q=>h pins s σ H Q I (w σ H Q q)
def _root_.L2.PT.weak(h:PT X e t)(w:∀σ H Q,t' σ H Q->t σ H Q):PT X e t':=λpins s σ H Q I q=>h pins s σ H Q I (w σ H Q q)
def _root_.L2.PA.weak(h:PA X e t)(w:∀σ H Q,t' σ H Q->t σ H Q):PA X e t':=λp pins s σ H Q I q=>h p pins s σ H Q I (w σ H Q q)
def _root_.L2.PI.weak(h:PI X tg e t)(w:∀σ H Q,t' σ H Q->t σ H Q):PI X tg e t':=λpins s σ H Q I q=>h pins s σ H Q I (w σ H Q q)
def Ua(H:Hp)(v:V):Prop:=∃a,v=.ref a/\H a=O'
section
variable (G T cl)
inductive EvI(ir:IE)(σ:L2.St)(H:Hp)(Q:VK):Prop
 |mk (Z:Zx) (B0:mw) (H0:Hp) (B:mw) (e:Ev) (M:gf) (x:SV) (fr:Bool) (R:Rel G Z B0 H0 B σ e H M) (h:ay T cl e M ir=N' (x,fr)) (q:∀v H',Sm G H H'->Rep G Z B H' x v->(fr=P'->Ua H v)->Q v H'):EvI ir σ H Q
def tI(h:IE):TE:=EvI G T cl h
inductive EvT(ir:IE)(σ:L2.St)(H:Hp)(Q:Bool->Hp->Prop):Prop
 |mk (Z:Zx) (B0:mw) (H0:Hp) (B:mw) (e:Ev) (M:gf) (x:SV) (fr b:Bool) (R:Rel G Z B0 H0 B σ e H M) (h:ay T cl e M ir=N' (x,fr)) (ht:truth x=N' b) (q:∀H',Sm G H H'->Q b H'):EvT ir σ H Q
def tT(h:IE):TT:=EvT G T cl h
inductive EvA(ir:IE)(σ:L2.St)(H:Hp)(Q:List V->Hp->Prop):Prop
 |mk (Z:Zx) (B0:mw) (H0:Hp) (B:mw) (e:Ev) (M:gf) (xs:kS) (R:Rel G Z B0 H0 B σ e H M) (h:iC T cl e M ir=N' xs) (q:∀vs H',Sm G H H'->aA G Z B H' xs vs->Q vs H'):EvA ir σ H Q
def DL(h:IE):TA:=EvA G T cl h
end
def s_v(r:X.N[i]?=N' x)(s:Bd X.env.1 x)(u:(x=="__debug__")=Q')(j:(x=="__classdict__")=Q'):PE X (.Name x pos) (tI G T cl (.v i)):=(pG r s u j).weak λσ H Q o=>by obtain⟨Z,O,P,B,e,M,x,fr,R,h,q⟩:=o;simp![pa,fN,bj,aH]at h;obtain⟨y,E,rfl,rfl⟩:=h;obtain⟨v,J,L⟩:=R.val i y E;show#[v,J,q v H (Sm.refl H) L (by simp)]
def Ub:PE X (.Constant (.int c) j pos) (tI G T cl (.int c)):=gW.weak λσ H Q o=>by obtain⟨Z,r,s,B,e,M,x,fr,R,h,q⟩:=o;simp![fN]at h;obtain⟨rfl,rfl⟩:=h;show q _ H (Sm.refl H) (by simp[Rep]) (by simp)
def aa2:PE X (.Constant (.bool c) j pos) (tI G T cl (.bl c)):=Te.weak λσ H Q o=>by obtain⟨Z,r,s,B,e,M,x,fr,R,h,q⟩:=o;simp![fN,Jj]at h;obtain⟨rfl,rfl⟩:=h;show q _ H (Sm.refl H) (by simp[Rep]) (by simp)
def Uc:PE X (.Constant .none j pos) (tI G T cl .bQ):=Pg.weak λσ H Q o=>by obtain⟨Z,r,s,B,e,M,x,fr,R,h,q⟩:=o;simp![fN,Ac]at h;obtain⟨rfl,rfl⟩:=h;show q _ H (Sm.refl H) (by simp[Rep]) (by simp)
def Ql(m:Mo G T cl gv k X)(o:gv n=N' c)(r:Gl X (G.gn n)):PE X (.Name (G.gn n) pos) (tI G T cl (.pj n c)):=let ⟨⟨t,h1⟩,h2⟩:=m.gi n c o
 (eO (v:=.int c) r h1 #[t,S'] h2).weak λσ H Q j=>by obtain⟨Z,s,u,B,e,M,x,fr,R,h,q⟩:=j;simp![fN,wj]at h;obtain⟨rfl,rfl⟩:=h;show q _ H (Sm.refl H) (by simp[Rep]) (by simp)
def aa3(m:Mo G T cl gv k X)(o:G.glob f=P')(r:Gl X (G.nm f)):PE X (.Name (G.nm f) pos) (tI G T cl (.fn f)):=let ⟨h1,h2,h3⟩:=m.Qk f o
 (eO (v:=.ref (G.fa f)) r h1 S' h3).weak λσ H Q j=>by obtain⟨Z,s,u,B,e,M,x,fr,R,h,q⟩:=j;simp![fN,Jk]at h;obtain⟨rfl,rfl⟩:=h;show q _ H (Sm.refl H) (by simp[Rep,o]) (by simp)
def two(R:Rel G Z B0 o B σ e H M) (u:ay T cl e M a=N' (x,f1))(E:ay T cl e M b=N' (y,f2))(h:∀v w j,Sm G H j->Rep G Z B j x v->Rep G Z B j y w->r v w j Q):LM r (tI G T cl a) (tI G T cl b) σ H Q:=#[Z,B0,o,B,e,M,x,f1,R,u,λv O q J _=>#[Z,B0,o,B,e,M,y,f2,R.same q,E,λw j s L _=>h v w j (q.trans s) (J.same s) L]]
instance B1:DD->W9
 |.add=>.Add|.sub=>.Sub|.mul=>.Mult|.fdiv=>.FloorDiv|.mod=>.Mod|.shl=>.LShift|.shr=>.RShift|.and=>.BitAnd|.or=>.BitOr|.xor=>.BitXor
def vp(i j):X1 i j=sE i j:=by
 unfold X1;cases i with
 |ofNat a=>
  cases j with
  |ofNat b=>simp[sE]
  |negSucc b=>
   have e:(WA (W3 b)).toNat=b:=by unfold WA;lia
   simp[sE,e]
 |negSucc a=>
  have h:(WA (W3 a)).toNat=a:=by unfold WA;lia
  cases j with
  |ofNat b=>simp[sE,h]
  |negSucc b=>
   have e:(WA (W3 b)).toNat=b:=by unfold WA;lia
   simp[sE,h,kR,WA]
def DM(i j):Ym i j=SU i j:=by unfold Ym SU;rw[vp];rfl
def Fz(i j):X0 i j=Je i j:=by unfold X0 Je;rw[vp,DM]
universe b
def MT:kB X (WI .LShift) (rI (λi j=>0<=j/\j<=100000/\i.natAbs<2^200) λi j=>.int (i*2^j.toNat)):=LN λi j _ _ _ _ _ o q=>by
 apply PyProof.Rows.lshift_int o.1 ?_ q;have h:WH i<=200:=by
  unfold WH;split;lia;rename_i r;have s:i.natAbs≠0:=by intro e;show r (by simpa using Int.natAbs_eq_zero.mp e)
  have:=(Yk s).mpr o.2.2;lia
 have:=o.2.1;have e:(2)^27=134217728:=by decide
 lia
def JE:kB X (WC .LShift) (rI (λi j=>0<=j/\j<=100000/\i.natAbs<2^200) λi j=>.int (i*2^j.toNat)):=LN λi j _ _ _ _ _ o q=>by
 apply PyProof.Rows.ilshift_int o.1 ?_ q;have h:WH i<=200:=by
  unfold WH;split;lia;rename_i r;have s:i.natAbs≠0:=by intro e;show r (by simpa using Int.natAbs_eq_zero.mp e)
  have:=(Yk s).mpr o.2.2;lia
 have:=o.2.1;have e:(2)^27=134217728:=by decide
 lia
def rB(o:DD):R2:=λx y H Q=>∃i j r,x=.int i/\y=.int j/\binI o i j=N' r/\Q (.int r) H
def _root_.L2.kB.weak(h:kB X f r)(w:∀x y H Q,j x y H Q->r x y H Q):kB X f j:=λpins s σ H x y v u Q I o B q=>h pins s σ H x y v u Q I o B (w _ _ _ _ q)
universe a
def gP{f:Value->Value->Sem Value}{C:Int->Int->Prop}{g:Int->Int->Int}{o:DD}(h:kB X f (rI C λi j=>.int (g i j)))(w:∀i j r,binI o i j=N' r->C i j/\g i j=r):kB X f (rB o):=kB.weak h λx y H Q s=>by obtain⟨i,j,r,u,B,E,q⟩:=s;obtain⟨G,J⟩:=w i j r E;show#[i,j,u,B,G,by show Q (.int (g i j)) H;rw[J];show q]
def fK{f:Value->Value->Sem Value}{g:Int->Int->Int}{o:DD}(h:kB X f (Bm λi j=>.int (g i j)))(w:∀i j r,binI o i j=N' r->g i j=r):kB X f (rB o):=kB.weak h λx y H Q #[i,j,r,ex,ey,hb,q]=>#[i,j,ex,ey,by show Q (.int (g i j)) H;rw[w i j r hb];show q]
def JF(h:(i.natAbs<2^64)\/(j.natAbs<2^64)):G4 i j:=by
 unfold G4;have e:(2)^64=18446744073709551616:=by decide
 have o:2^64=18446744073709551616:=by decide
 omega
universe b
theorem MU:∀o:DD,kB X (WI (B1 o)) (rB o)
 |.add=>fK Dr λi j r h=>by simpa [binI] using h
 |.sub=>fK Ds λi j r h=>by simpa [binI] using h
 |.mul=>gP Pz λi j r h=>by simp![binI]at h;split at h;rename_i q;show#[JF q,by simpa using h];cases h
 |.fdiv=>gP Eu λi j r h=>by simp![binI]at h;split at h;rename_i q;show#[q,by simpa using h];cases h
 |.mod=>gP PD λi j r h=>by simp![binI]at h;split at h;rename_i q;show#[q,by simpa using h];cases h
 |.shl=>gP MT λi j r h=>by simp![binI]at h;split at h;rename_i q;show#[q,by simpa using h];cases h
 |.shr=>gP PF λi j r h=>by simp![binI]at h;split at h;rename_i q;show#[q,by simpa using h];cases h
 |.and=>fK PH λi j r h=>by rw[vp];simpa [binI] using h
 |.or=>fK Tw λi j r h=>by rw[DM];simpa [binI] using h
 |.xor=>fK PJ λi j r h=>by rw[Fz];simpa [binI] using h
theorem JG:∀o:DD,kB X (WC (B1 o)) (rB o)
 |.add=>fK Ew λi j r h=>by simpa [binI] using h
 |.sub=>fK Ma λi j r h=>by simpa [binI] using h
 |.mul=>gP Mb λi j r h=>by simp![binI]at h;split at h;rename_i q;show#[JF q,by simpa using h];cases h
 |.fdiv=>gP IG λi j r h=>by simp![binI]at h;split at h;rename_i q;show#[q,by simpa using h];cases h
 |.mod=>gP Mc λi j r h=>by simp![binI]at h;split at h;rename_i q;show#[q,by simpa using h];cases h
 |.shl=>gP JE λi j r h=>by simp![binI]at h;split at h;rename_i q;show#[q,by simpa using h];cases h
 |.shr=>gP Md λi j r h=>by simp![binI]at h;split at h;rename_i q;show#[q,by simpa using h];cases h
 |.and=>fK Me λi j r h=>by rw[vp];simpa [binI] using h
 |.or=>fK PK λi j r h=>by rw[DM];simpa [binI] using h
 |.xor=>fK Mf λi j r h=>by rw[Fz];simpa [binI] using h
universe a
def sN:bw<=sizeLine:=by rw[mJ];decide
def aa4(o:DD):R2:=λx y H Q=>rB o x y H Q\/(o=.add/\Mp x y H Q)\/(o=.mul/\T1 x y H Q)
def Qm(o):kB X (WI (B1 o)) (aa4 o):=λpins s σ H x y v u Q I h j q=>by rcases q with q|⟨rfl,q⟩|⟨rfl,q⟩;show MU o pins s σ H x y v u Q I h j q;show lX pins s σ H x y v u Q I h j q;show Dz pins s σ H x y v u Q I h j q
def Sm.lay(s:Sm G H H1)(h:H1 p=O'):Sm G H (upd H1 p o):=s.trans (ph.new h).sm
def qz(R:Rel G Z B0 j B σ e H M)(s:Sm G H H1)(h:H1 p=O')(r:aA G Z B H1 xs vs):Rep G Z B (upd H1 p (.lst vs)) (.lst xs) (.ref p):=by simp![Rep];show#[p,vs,S',R.fresh (s.free h),aw,r.same (ph.new h).sm]
def Ud(D:PE X ea (tI G T cl a))(V:PE X eb (tI G T cl b)):PE X (.BinOp ea (B1 o) eb pos) (tI G T cl (.bin o a b)):=(j8 (Qm o) D V).weak λσ H Q L=>by
  obtain⟨Z,g,k,B,e,M,x,fr,R,h,q⟩:=L;obtain⟨l,m,n,t,I,S,A⟩:=MB h;apply two R I S λv w K s y E=> ?_;rcases Jp A with⟨i,j,r,rfl,rfl,N,rfl,rfl⟩|⟨rfl,xs,z,rfl,rfl,O,rfl,rfl⟩|⟨rfl,xs,c,rfl,rfl,O,hc,rfl,rfl⟩;simp![Rep]at y E;show .inl #[i,j,r,y,E,N,q _ K s (by simp[Rep]) (by simp)];simp![Rep]at y E;obtain⟨P,vs,rfl,U,Y,J⟩:=y;obtain⟨W,d,rfl,f,C,F⟩:=E;apply .inr (.inl #[S',P,W,vs,d,S',S',Y,C,?_,λp u=>q _ _ (s.lay u) (qz R s u (J.append F)) λ_=>#[p,S',s.free u]]);rw[<-J.length,<-F.length];show c_ O sN;simp![Rep]at y E;obtain⟨P,vs,rfl,U,Y,J⟩:=y;subst E;apply .inr (.inr #[S',P,c,vs,S',S',Y,?_,?_,?_,λp u=>q _ _ (s.lay u) (qz R s u (J.rep _)) λ_=>#[p,S',s.free u]]);have e:(2)^63=9223372036854775808:=by decide
  have C:2^62=4611686018427387904:=by decide
  lia;have e:(2)^63=9223372036854775808:=by decide
  have C:2^62=4611686018427387904:=by decide
  lia;rw[<-J.length];show c_ O sN
instance notStar:Expr->Bool
 |.Starred _ _=>Q'
 |_=>P'
def ao(h:notStar e=P'):V2 (e::j) env=(Q',Wo e env)::V2 j env:=by cases e<;>first|rfl|cases h
def fD(h:j.all notStar=P'):(Wz pos (V2 j env)).any (·.1)=false:=by
 induction j with
 |nil=>rfl
 |cons e j o=>
  rw[d6,aD]at h;rw[ao h.1];have:=o h.2;unfold Wz at this|-;rw[bf,Xx,this];rfl
def Ue:PA X [] (DL G T cl .nil):=br.weak λσ H Q j=>by obtain⟨Z,o,r,B,e,M,xs,R,h,q⟩:=j;simp![pW,aF]at h;subst h;show q [] H (Sm.refl H) (by simp[aA])
def Qn(J:notStar o=P')(L:PE X o (tI G T cl a))(O:PA X P (DL G T cl r)):PA X (o::P) (DL G T cl (.cons a r)):=(aC L O (ao J)).weak λσ H Q j=>by obtain⟨Z,s,u,B,e,M,xs,R,h,q⟩:=j;obtain⟨x,U,Y,C,F,rfl⟩:=cons_inv h;show#[Z,s,u,B,e,M,x,U,R,C,λv S y D _=>#[Z,s,u,B,e,M,Y,R.same y,F,λvs V E I=>q (v::vs) V (y.trans E) (by simp![aA];show#[v,vs,S',D.same E,I])]]
def Ug(R:Rel G Z B0 o B σ e H M) (q:ay T cl e M a=N' (x,f1))(h:∀v j,Sm G H j->Rep G Z B j x v->r v j Q):tUn r (tI G T cl a) σ H Q:=#[Z,B0,o,B,e,M,x,f1,R,q,λv s u y _=>h v s u y]
def Uh(r:PE X s (tI G T cl a)):PE X (.UnaryOp .USub s pos) (tI G T cl (.neg a)):=(Ow PL r).weak λσ H Q j=>by obtain⟨Z,J,L,B,e,M,x,fr,R,h,q⟩:=j;obtain⟨i,O,u,rfl,rfl⟩:=MC h;apply Ug R u λv y E o=> ?_;simp![Rep]at o;show#[i,o,q _ y E (by simp[Rep]) (by simp)]
def Ui(r:PE X s (tI G T cl a)):PE X (.UnaryOp .Invert s pos) (tI G T cl (.inv a)):=(Ow PM r).weak λσ H Q j=>by obtain⟨Z,J,L,B,e,M,x,fr,R,h,q⟩:=j;obtain⟨i,O,u,rfl,rfl⟩:=inv_inv h;apply Ug R u λv y E o=> ?_;simp![Rep]at o;show#[i,o,q _ y E (by simp[Rep,kR,WA]) (by simp)]
instance yN:Qg->G'
 |.eq=>.Eq|.ne=>.NotEq|.lt=>.Lt|.le=>.LtE|.gt=>.Gt|.ge=>.GtE
def rC(K:V7)(o:Qg):R2:=λx y H Q=>(∃i j,x=.int i/\y=.int j/\Q (.bl (cF o i j)) H)\/(o=.eq/\∃a b,x=.bl a/\y=.bl b/\Q (.bl (a==b)) H)\/(o=.ne/\∃a b,x=.bl a/\y=.bl b/\Q (.bl (a !=b)) H)\/
 (o=.eq/\∃(p q:VZ) (a b:List Int),x=.ref p/\y=.ref q/\H p=N' (.lst (a.map V.int))/\H q=N' (.lst (b.map V.int))/\Q (.bl (decide (a=b))) H)
theorem Ai:∀l:List Int,vZ K H (l.map V.int) (l.map Zy)
 |[]=>.nil
 |i::l=>.cons (.int i) (Ai l)
def shaped_ints(l:List Int):SeqAt.shaped (.list (l.map Zy))=true:=ke_shaped_ints l
def JH(a b:List Int):PyData.eqv (.list (a.map Zy)) (.list (b.map Zy))=decide (a=b):=ked_eqvAll a b
def t_(B:fH k X.A):∀o:Qg,kB X (Ww (yN o)) (rC X.K o):=λo pins s σ H x y v u Q I h r q=>by
 rcases q with⟨i,j,rfl,rfl,q⟩|⟨rfl,a,b,rfl,rfl,q⟩|⟨rfl,a,b,rfl,rfl,q⟩|⟨rfl,p,J,a,b,rfl,rfl,E,G,q⟩;cases o with
 |eq=>show EB pins s σ H _ _ v u Q I h r #[S',by simpa [cF] using q]
 |ne=>show IJ pins s σ H _ _ v u Q I h r #[S',by simpa [cF] using q]
 |lt=>show Ox pins s σ H _ _ v u Q I h r #[i,j,S',S',q]
 |le=>show Tz pins s σ H _ _ v u Q I h r #[i,j,S',S',q]
 |gt=>show TB pins s σ H _ _ v u Q I h r #[i,j,S',S',q]
 |ge=>show TC pins s σ H _ _ v u Q I h r #[i,j,S',S',q]
 apply EB pins s σ H _ _ v u Q I h r #[S',?_];have e:decide (V.bl a=V.bl b)=(a==b):=by cases a<;>cases b<;>rfl
 rw[e];show q;apply IJ pins s σ H _ _ v u Q I h r #[S',?_];have e:(!decide (V.bl a=V.bl b))=(a !=b):=by cases a<;>cases b<;>rfl
 rw[e];show q;apply P5 B.units pins s σ H _ _ v u Q I h r #[_,_,.lst (cQ.of E) (Ai a),.lst (cQ.of G) (Ai b),shaped_ints a,shaped_ints b,?_];rw[JH];show q
def JI(m:Mo G T cl gv k X)(h:tI G T cl (.cmp o a b) σ H Q):LM (rC X.K o) (tI G T cl a) (tI G T cl b) σ H Q:=by obtain⟨Z,S,A,B,e,M,x,fr,R,h,q⟩:=h;obtain⟨N,W,c,d,r,O,P,U,rfl,rfl⟩:=Fq h;apply two R O P λv w E Y u y=> ?_;have s:Q (.bl r) E:=q _ E Y (by simp[Rep]) (by simp);rcases Jq U with⟨i,j,rfl,rfl,rfl⟩|⟨rfl,a,b,rfl,rfl,rfl⟩|⟨rfl,a,b,rfl,rfl,rfl⟩|⟨rfl,xs,f,a,b,rfl,rfl,C,F,rfl⟩;simp![Rep]at u y;show .inl #[i,j,u,y,s];simp![Rep]at u y;show .inr (.inl #[S',a,b,u,y,s]);simp![Rep]at u y;show .inr (.inr (.inl #[S',a,b,u,y,s]));simp![Rep]at u y;obtain⟨p,vs,rfl,_,J,D⟩:=u;obtain⟨V,g,rfl,_,L,I⟩:=y;rw[aA.kv C D]at J;rw[aA.kv F I]at L;show .inr (.inr (.inr #[S',p,V,a,b,S',S',J,L,s]))
def Aj(o):yN o≠.In/\yN o≠.NotIn:=by cases o<;>show#[by decide,by decide]
def Uj(m:Mo G T cl gv k X)(q:PE X r (tI G T cl a))(s:PE X j (tI G T cl b)):PE X (.Compare r [yN o] [j] pos) (tI G T cl (.cmp o a b)):=(EC (t_ m.room o) q s (zY j (Aj o).1 (Aj o).2)).weak λσ H Q h=>JI m h
def FA(u:∀Q,tI G T cl j σ H Q->t σ H Q)(y:∀e M x fr,ay T cl e M j=N' (x,fr)->∃b,x=.bl b)(h:tT G T cl j σ H Q):IK t σ H Q:=by
 obtain⟨Z,E,J,B,e,M,x,fr,b,R,o,L,q⟩:=h;obtain⟨c,rfl⟩:=y _ _ _ _ o;have O:c=b:=by simpa [truth] using L
 subst O;show u _ #[Z,E,J,B,e,M,_,fr,R,o,λv P s r _=>#[c,by simpa [Rep] using r,q P s]]
def Uk(m:Mo G T cl gv k X)(q:PE X s (tI G T cl a))(u:PE X j (tI G T cl b)):PT X (.Compare s [yN o] [j] pos) (tT G T cl (.cmp o a b)):=(qr (t_ m.room o) q u (zY j (Aj o).1 (Aj o).2)).weak λσ H Q h=>FA (λQ h=>JI m h) (λe M x fr h=>by obtain⟨_,_,_,_,r,_,_,_,rfl,_⟩:=Fq h;show#[r,S']) h
def FD(r:Rep G Z B H x v):(x=.bQ->v=.bQ)/\(((∃f,x=.fn f)\/∃l,x=.lst l)->v≠.bQ):=by apply#[λe=>by subst e;simpa [Rep] using r,λe=> ?_];rcases e with⟨f,rfl⟩|⟨l,rfl⟩;simp![Rep]at r;rw[r.1];simp;simp![Rep]at r;obtain⟨a,_,rfl,_⟩:=r;simp
def JJ(h:tI G T cl (.Jf a) σ H Q):Tf (tI G T cl a) σ H Q:=by obtain⟨Z,u,y,B,e,M,x,fr,R,h,q⟩:=h;obtain⟨E,J,L,rfl,O⟩:=Fs h;apply#[Z,u,y,B,e,M,E,J,R,L,λv o r P _=> ?_];obtain⟨U,s⟩:=FD P;rcases O with⟨j,rfl⟩|⟨j,rfl⟩|⟨j,rfl⟩;rw[U j];show q _ o r (by simp[Rep]) (by simp);rw[bp (s (.inl j))];show q _ o r (by simp[Rep]) (by simp);rw[bp (s (.inr j))];show q _ o r (by simp[Rep]) (by simp)
def FF(h:tI G T cl (.uX a) σ H Q):Ou (tI G T cl a) σ H Q:=by obtain⟨Z,u,y,B,e,M,x,fr,R,h,q⟩:=h;obtain⟨E,J,L,rfl,O⟩:=BU h;apply#[Z,u,y,B,e,M,E,J,R,L,λv o r P _=> ?_];obtain⟨U,s⟩:=FD P;rcases O with⟨j,rfl⟩|⟨j,rfl⟩|⟨j,rfl⟩;rw[U j];show q _ o r (by simp[Rep]) (by simp);rw[bp (s (.inl j))];show q _ o r (by simp[Rep]) (by simp);rw[bp (s (.inr j))];show q _ o r (by simp[Rep]) (by simp)
def Ul(o:PE X q (tI G T cl a)):PE X (.Compare q [.Is] [.Constant .none j pos'] pos) (tI G T cl (.Jf a)):=(zX (Iy o)).weak λσ H Q h=>JJ h
def Qo(o:PE X q (tI G T cl a)):PE X (.Compare q [.IsNot] [.Constant .none j pos'] pos) (tI G T cl (.uX a)):=(zX (zW o)).weak λσ H Q h=>FF h
def Ak(o:∀Q,tI G T cl j σ H Q->t σ H Q)(q:∀e M x fr,ay T cl e M j=N' (x,fr)->∃b,x=.bl b)(h:tT G T cl j σ H Q):tB t σ H Q:=FA o q h
def Um(o:PE X q (tI G T cl a)):PT X (.Compare q [.Is] [.Constant .none j pos'] pos) (tT G T cl (.Jf a)):=(vO (Iy o)).weak λσ H Q h=>Ak (λQ h=>JJ h) (λe M x fr h=>by obtain⟨_,_,_,_,r⟩:=Fs h;rcases r with⟨_,rfl⟩|⟨_,rfl⟩|⟨_,rfl⟩<;>show#[_,S']) h
def Qp(o:PE X q (tI G T cl a)):PT X (.Compare q [.IsNot] [.Constant .none j pos'] pos) (tT G T cl (.uX a)):=(vO (zW o)).weak λσ H Q h=>Ak (λQ h=>FF h) (λe M x fr h=>by obtain⟨_,_,_,_,r⟩:=BU h;rcases r with⟨_,rfl⟩|⟨_,rfl⟩|⟨_,rfl⟩<;>show#[_,S']) h
theorem qA:∀l:List Int,(l.map V.int).all nt=P'
 |[]=>rfl
 |i::l=>by rw[bf,d6,qA l];rfl
theorem wB(i):∀l:List Int,TV (.int i) (l.map V.int)=decide (i∈l)
 |[]=>by simp[TV]
 |j::l=>by have o:=wB i l;unfold TV at o|-;rw[bf,Xx,o];show(j==i||_)=_;by_cases h:i=j;subst h;simp;have h':¬j=i:=λe=>h e.symm;simp[h,h']
def _root_.L2.o8.none(h:o8 K (λ_=>O') a vs):o8 K H a vs:=by rcases h with(h|⟨o,h⟩)|h;cases h;cases h;show .inr h
def JK(m:Mo G T cl gv k X)(h:tI G T cl (.Im a b) σ H Q):LM (rIn X.K Q') (tI G T cl a) (tI G T cl b) σ H Q:=by obtain⟨Z,Y,C,B,e,M,x,fr,R,h,q⟩:=h;obtain⟨i,F,y,D,xs,l,J,L,O,s,rfl,rfl⟩:=Ft h;apply two R J L λv w u P E o=> ?_;simp![Rep]at E;subst E;have j:Q (.bl (decide (i∈l))) u:=q _ u P (by simp[Rep]) (by simp);rcases O with rfl|rfl;simp![Rep]at o;obtain⟨p,vs,rfl,_,g,r⟩:=o;rw[aA.kv s r]at g;apply#[p,_,S',.inl (cQ.of g),S',qA l,?_];simp![kr,wB];show j;simp![Rep]at o;obtain⟨p,vs,rfl,c,r⟩:=o;have U:=aA.kv s r;subst U;apply#[p,_,S',.inr ?_,S',qA l,?_];rcases c with⟨_,g⟩|c;show o8.of g;rw[m.K];show o8.none c;simp![kr,wB];show j
instance pX:Expr->Bool
 |.Set _ _ _=>Q'
 |_=>P'
def FH(h:pX b=P'):WE op b=false:=by cases b<;>first|rfl|cases h
def Uo(m:Mo G T cl gv k X)(o:pX j=P')(q:PE X r (tI G T cl a))(s:PE X j (tI G T cl b)):PE X (.Compare r [.In] [j] pos) (tI G T cl (.Im a b)):=(EC yF q s (FH o)).weak λσ H Q h=>JK m h
def Up(m:Mo G T cl gv k X)(o:pX j=P')(q:PE X r (tI G T cl a))(s:PE X j (tI G T cl b)):PT X (.Compare r [.In] [j] pos) (tT G T cl (.Im a b)):=(qr yF q s (FH o)).weak λσ H Q h=>FA (λQ h=>JK m h) (λe M x fr h=>by obtain⟨_,_,_,_,_,_,_,_,_,_,rfl,_⟩:=Ft h;show#[_,S']) h
def B2(m:Mo G T cl gv k X)(h:tI G T cl (.chain a b c) σ H Q):Dt (rC X.K .le) (rC X.K .le) (tI G T cl a) (tI G T cl b) (tI G T cl c) σ H Q:=by obtain⟨Z,s,y,B,e,M,x,fr,R,h,q⟩:=h;obtain⟨i,U,j,Y,C,F,rfl,E⟩:=yK h;apply#[Z,s,y,B,e,M,_,U,R,C,λv A r O _=>#[Z,s,y,B,e,M,_,Y,R.same r,F,λw D J L _=> ?_]];simp![Rep]at O L;apply .inl #[i,j,O,L,_,S',?_];rcases E with⟨o,l,V,E,rfl⟩|⟨o,rfl⟩;simp![cF,o];apply#[Z,s,y,B,e,M,_,V,R.same (r.trans J),E,λu I S P _=> ?_];simp![Rep]at P;show .inl #[j,l,L,P,q _ I ((r.trans J).trans S) (by simp[Rep,cF]) (by simp)];simp![cF,o];show q _ D (r.trans J) (by simp[Rep]) (by simp)
def MV(m:Mo G T cl gv k X)(o:PE X q (tI G T cl a))(r:PE X s (tI G T cl b))(u:PE X j (tI G T cl c)):PE X (.Compare q [.LtE,.LtE] [s,j] pos) (tI G T cl (.chain a b c)):=(IL (t_ m.room .le) (t_ m.room .le) o r u (zY j () ())).weak λσ H Q h=>B2 m h
def MW(m:Mo G T cl gv k X)(o:PE X q (tI G T cl a))(r:PE X s (tI G T cl b))(u:PE X j (tI G T cl c)):PT X (.Compare q [.LtE,.LtE] [s,j] pos) (tT G T cl (.chain a b c)):=(IM (t_ m.room .le) (t_ m.room .le) o r u (zY j () ())).weak λσ H Q h=>FA (λQ h=>B2 m h) (λe M x fr h=>by obtain⟨_,_,_,_,_,_,_,y⟩:=yK h;rcases y with⟨_,_,_,_,rfl⟩|⟨_,rfl⟩<;>show#[_,S']) h
def Uq(o:PE X r (tI G T cl a)):PE X (.UnaryOp .Not r pos) (tI G T cl (.not a)):=(Pm o).weak λσ H Q j=>by obtain⟨Z,s,u,B,e,M,x,fr,R,h,q⟩:=j;obtain⟨y,b,E,rfl,rfl⟩:=Fu h;apply#[Z,s,u,B,e,M,_,y,R,E,λv J L O _=>#[b,by simpa [Rep] using O,q _ J L (by simp[Rep]) (by simp)]]
def Ur(o:PT X r (tT G T cl a)):PT X (.UnaryOp .Not r pos) (tT G T cl (.not a)):=(Dk o).weak λσ H Q j=>by
  obtain⟨Z,u,y,B,e,M,x,fr,b,R,h,E,q⟩:=j;obtain⟨J,c,L,rfl,rfl⟩:=Fu h;have O:b= !c:=by simpa [truth] using E.symm
  subst O;show#[Z,u,y,B,e,M,_,J,c,R,L,S',λP s=>q P s]
def Us(E:PE X J (tI G T cl a))(L:PE X O (tI G T cl b)):PE X (.BoolOp .And [J,O] pos) (tI G T cl (.and a b)):=(Pk E (Iz L)).weak λσ H Q j=>by obtain⟨Z,s,u,B,e,M,x,fr,R,h,q⟩:=j;obtain⟨c,P,U,rfl,o⟩:=Fv h;apply#[Z,s,u,B,e,M,_,P,R,U,λv Y r C _=>#[c,by simpa [Rep] using C,?_]];rcases o with⟨rfl,y,F,o,rfl⟩|⟨rfl,rfl⟩;rw[ae S'];show#[Z,s,u,B,e,M,_,F,R.same r,o,λw D V I _=>q w D (r.trans V) I (by simp)];rw[ab (by simp)];show q _ Y r (by simp[Rep]) (by simp)
def aa5(E:PE X J (tI G T cl a))(L:PE X O (tI G T cl b)):PE X (.BoolOp .Or [J,O] pos) (tI G T cl (.or a b)):=(Tj E (Iz L)).weak λσ H Q j=>by obtain⟨Z,s,u,B,e,M,x,fr,R,h,q⟩:=j;obtain⟨c,P,U,rfl,o⟩:=Jr h;apply#[Z,s,u,B,e,M,_,P,R,U,λv Y r C _=>#[c,by simpa [Rep] using C,?_]];rcases o with⟨rfl,y,F,o,rfl⟩|⟨rfl,rfl⟩;rw[ab (by simp)];show#[Z,s,u,B,e,M,_,F,R.same r,o,λw D V I _=>q w D (r.trans V) I (by simp)];rw[ae S'];show q _ Y r (by simp[Rep]) (by simp)
def Ut(J:PT X L (tT G T cl a))(O:PT X P (tT G T cl b)):PT X (.BoolOp .And [L,P] pos) (tT G T cl (.and a b)):=(Pj J (L6 O)).pt.weak λσ H Q j=>by
  obtain⟨Z,s,u,B,e,M,x,fr,d,R,h,E,q⟩:=j;obtain⟨c,U,Y,rfl,o⟩:=Fv h;apply#[Z,s,u,B,e,M,_,U,c,R,Y,S',λC r=> ?_];rcases o with⟨rfl,y,F,o,rfl⟩|⟨rfl,rfl⟩;rw[ae S'];show#[Z,s,u,B,e,M,_,F,d,R.same r,o,E,λD V=>q D (r.trans V)];rw[ab (by simp)];have I:d=false:=by simpa [truth] using E.symm
  subst I;show q C r
def aa6(J:PT X L (tT G T cl a))(O:PT X P (tT G T cl b)):PT X (.BoolOp .Or [L,P] pos) (tT G T cl (.or a b)):=(Tg J (Ph O)).pt.weak λσ H Q j=>by
  obtain⟨Z,s,u,B,e,M,x,fr,d,R,h,E,q⟩:=j;obtain⟨c,U,Y,rfl,o⟩:=Jr h;apply#[Z,s,u,B,e,M,_,U,c,R,Y,S',λC r=> ?_];rcases o with⟨rfl,y,F,o,rfl⟩|⟨rfl,rfl⟩;rw[ab (by simp)];show#[Z,s,u,B,e,M,_,F,d,R.same r,o,E,λD V=>q D (r.trans V)];rw[ae S'];have I:d=true:=by simpa [truth] using E.symm
  subst I;show q C r
def Uu(U:PT X Y (tT G T cl c))(C:PE X ea (tI G T cl a))(F:PE X eb (tI G T cl b)):PE X (.IfExp Y ea eb pos) (tI G T cl (.qG c a b)):=(vP U C F).weak λσ H Q r=>by
  obtain⟨Z,s,u,B,e,M,x,fr,R,h,q⟩:=r;obtain⟨y,D,t,V,I,o⟩:=MD h;apply#[Z,s,u,B,e,M,y,D,t,R,V,I,λS j=> ?_];cases t with
  |true=>
   rw[ae S']at o|-;show#[Z,s,u,B,e,M,x,fr,R.same j,o,λv E J L O=>q v E (j.trans J) L λP=>let ⟨p,e1,e2⟩:=O P;#[p,e1,j.free e2]]
  |false=>
   rw[ab (by simp)]at o|-;show#[Z,s,u,B,e,M,x,fr,R.same j,o,λv E J L O=>q v E (j.trans J) L λP=>let ⟨p,e1,e2⟩:=O P;#[p,e1,j.free e2]]
def Uv(s:PE X r (tI G T cl u))(he:∀j,isTrue r X.env j=(do let v<-j;Xn r.pos;W5 [v] (truthy v))):PT X r (tT G T cl u):=
 (nr s he).weak λσ H Q #[Z,B0,H0,B,e,M,x,fr,b,R,h,hb,q]=>
  #[Z,B0,H0,B,e,M,x,fr,R,h,λv y E o _=>#[b,by
   cases x with
   |bl c=>simp![Rep]at o;subst o;simp![truth,aF]at hb;show hb.symm
   |int i=>simp![Rep]at o;subst o;simp![truth,aF]at hb;show hb.symm
   |_=>simp[truth]at hb,q y E]]
instance isName:Expr->Bool
 |.Name _ _=>P'
 |_=>Q'
def lT(h:isName j=P'):WN j f env w=w:=by cases j<;>first|rfl|cases h
def DN(o:Ord)(f):∃v,(BZ o).lookup (SY f)=N' v/\∀(G) Z B H,Rep G Z B H (o.get f:SV) v:=by cases f<;>apply#[_,by rfl,λG Z B H=>by simp[Ord.get,Rep]]
def oJ(Z)(f){b}(j)(h:Hq b j=P'):(DK Z f b).lookup (OD j)=N' (.ref (Z.pl j)):=by cases b<;>cases j<;>first|rfl|cases h
def Uw(m:Mo G T cl gv k X)(y:isName r=P')(E:PE X r (tI G T cl a)):PE X (.Attribute r (SY f) pos) (tI G T cl (.Jg a f)):=(cX E (lT y)).weak λσ H Q j=>by obtain⟨Z,J,L,B,e,M,x,fr,R,h,q⟩:=j;obtain⟨o,O,P,rfl,rfl⟩:=ME h;apply#[Z,J,L,B,e,M,_,O,R,P,λv s U u _=> ?_];simp![Rep]at u;obtain⟨p,Y,rfl,_,g⟩:=u;obtain⟨w,C,F⟩:=DN o f;show#[p,G.CO,Y,_,w,S',g,m.wz,m.wA f,C,q w s U (F G Z B s) (by simp)]
def Am(h:Rep G Z B H (DG b) v):v=.ref (Z.po b)/\Z.on=true:=by cases b<;>simpa [DG,Rep] using h
def oM(h:Z.on=P'):Rep G Z B H (DG b) (.ref (Z.po b)):=by cases b<;>simp[DG,Rep,h]
def FI(m:Mo G T cl gv k X)(s:Hq b j=P')(E:isName u=P')(J:PE X u (tI G T cl a)):PE X (.Attribute u (OD j) pos) (tI G T cl (DH b a j)):=(cX J (lT E)).weak λσ H Q o=>by obtain⟨Z,L,O,B,e,M,x,fr,R,h,q⟩:=o;obtain⟨P,U,Y,rfl,rfl⟩:=Js s h;apply#[Z,L,O,B,e,M,_,P,R,U,λv C y F _=> ?_];obtain⟨rfl,r⟩:=Am F;obtain⟨I,D⟩:=zK.mp Y;obtain⟨_,V⟩:=((R.same y).iJ).get D;show#[Z.po b,G.CL b,Z.dp b,_,_,S',V.ob b,m.xw b,m.Hv b j,oJ Z _ j s,q _ C y (by simp[Rep,r]) (by simp)]
def Ux(m:Mo G T cl gv k X)(s:isName o=P')(u:PE X o (tI G T cl a)):PE X (.Attribute o "flags" pos) (tI G T cl (.OC a)):=(cX u (lT s)).weak λσ H Q j=>by obtain⟨Z,y,E,B,e,M,x,fr,R,h,q⟩:=j;obtain⟨J,F,L,O,rfl,rfl⟩:=MG h;apply#[Z,y,E,B,e,M,_,J,R,L,λv P r U _=> ?_];obtain⟨rfl,Y⟩:=Am (b:=Q') U;obtain⟨_,C⟩:=((R.same r).iJ).get O;show#[Z.po Q',G.CL Q',Z.dp Q',_,_,S',C.ob Q',m.xw Q',m.MS,by rfl,q _ P r (by simp[Rep]) (by simp)]
def nK(o:kU G Z H M)(r:Rep G Z B H x v)(h:items? M x=N' xs):∃a vs,v=.ref a/\H a=N' (.lst vs)/\aA G Z B H xs vs:=by
 cases x with
 |lst E=>
  simp![items?,aF]at h;subst h;simp![Rep]at r;obtain⟨a,vs,rfl,_,s,u⟩:=r;show#[a,vs,S',s,u]
 |ml j=>
  simp![items?,bj]at h;obtain⟨m,y,rfl⟩:=h;simp![Rep]at r;obtain⟨rfl,_⟩:=r;obtain⟨_,q⟩:=o.get y;show#[_,_,S',q.ls j,aA.ints _]
 |_=>simp[items?]at h
instance ic:Expr->Bool
 |.Slice _ _ _ _=>Q'
 |_=>P'
def mP(h:ic b=P'):EG b:=λo i=>by cases b<;>first|rfl|cases h
def aa7(J:ic r=P')(L:PE X O (tI G T cl a))(P:PE X r (tI G T cl b)):PE X (.Subscript O r pos) (tI G T cl (.ix a b)):=(vY qt L P (mP J)).weak λσ H Q o=>by obtain⟨Z,K,N,B,e,M,x,fr,R,h,q⟩:=o;obtain⟨y,W,i,c,xs,U,Y,C,d,F,rfl⟩:=Qi h;apply two R U Y λv w D s V E=> ?_;obtain⟨p,vs,rfl,g,I⟩:=nK (R.same s).iJ V C;simp![Rep]at E;obtain⟨u,S,A⟩:=I.get F;apply#[p,vs,i,u,S',E,cQ.of g,at_of (j:=i.toNat) 'l' S,q u D s A (by simp)]
def DO(l:List α)(a b):(l.drop (min a l.length)).take (min b l.length-min a l.length)=(l.drop a).take (b-a):=by
 by_cases h:a<=l.length;rw[Nat.min_eq_left h];by_cases j:b<=l.length;rw[Nat.min_eq_left j];rw[b' 'l',vG (by simp),vG (by simp;lia)];have h':l.length<=a:=by lia
 rw[b' h',ZY,List.drop_of_length_le h'];simp
def MX(vs:List V)(h:0<=i)(o:0<=j):uV vs (N' i) (N' j)=(vs.drop i.toNat).take (j.toNat-i.toNat):=by unfold uV HT.A8;simp![ab (Int.not_lt.mpr h),ab (Int.not_lt.mpr o)];show DO vs _ _
def An(vs:List V)(h:0<=i):uV vs (N' i) O'=vs.drop i.toNat:=by unfold uV HT.A8;simp![ab (Int.not_lt.mpr h)];have:=DO vs i.toNat vs.length;rw[Nat.min_self]at this;rw[this,vG (by simp)]
def Qq(vs:List V)(h:0<=j):uV vs O' (N' j)=vs.take j.toNat:=by unfold uV HT.A8;simp![ab (Int.not_lt.mpr h)];have:=DO vs 0 j.toNat;simp![List.drop_zero]at this;simpa using this
def aa8(P:PE X U (tI G T cl a))(Y:PE X eb (tI G T cl b))(C:PE X ec (tI G T cl c)):PE X (.Subscript U (.Slice (N' eb) (N' ec) O' p2) pos) (tI G T cl (.sl a b c)):=(pJ si P (qs Y) (qs C)).weak λσ H Q r=>by obtain⟨Z,s,u,B,e,M,x,fr,R,h,q⟩:=r;obtain⟨y,F,i,D,j,V,xs,I,S,A,K,N,W,rfl,rfl⟩:=Qj h;apply#[Z,s,u,B,e,M,y,F,R,I,λv n E d _=>#[Z,s,u,B,e,M,_,D,R.same E,S,λt w J f _=>#[i,by simpa [Rep] using f,Z,s,u,B,e,M,_,V,R.same (E.trans J),A,λz H3 O k _=>#[j,by simpa [Rep] using k,?_]]]];have o:=(E.trans J).trans O;obtain⟨p,vs,rfl,g,m⟩:=nK (R.same o).iJ (d.same (J.trans O)) K;apply#[p,vs,S',cQ.of g,λl L=>q _ _ (o.lay L) ?_ λ_=>#[l,S',o.free L]];rw[MX vs N W];show qz R o L ((m.drop _).take _)
def Uy(L:PE X O (tI G T cl a))(P:PE X U (tI G T cl b)):PE X (.Subscript O (.Slice (N' U) O' O' p2) pos) (tI G T cl (.LP a b)):=(pJ si L (qs P) vm).weak λσ H Q o=>by obtain⟨Z,s,u,B,e,M,x,fr,R,h,q⟩:=o;obtain⟨y,Y,i,C,xs,F,D,V,I,rfl,rfl⟩:=MH h;apply#[Z,s,u,B,e,M,y,Y,R,F,λv N E S _=>#[Z,s,u,B,e,M,_,C,R.same E,D,λW c J A _=>#[i,by simpa [Rep] using A,?_]]];have j:=E.trans J;obtain⟨p,vs,rfl,g,K⟩:=nK (R.same j).iJ (S.same J) V;apply#[p,vs,S',cQ.of g,λl r=>q _ _ (j.lay r) ?_ λ_=>#[l,S',j.free r]];rw[An vs I];show qz R j r (K.drop _)
def Uz(L:PE X O (tI G T cl a))(P:PE X U (tI G T cl b)):PE X (.Subscript O (.Slice O' (N' U) O' p2) pos) (tI G T cl (.Bz a b)):=(pJ si L vm (qs P)).weak λσ H Q o=>by obtain⟨Z,s,u,B,e,M,x,fr,R,h,q⟩:=o;obtain⟨y,Y,i,C,xs,F,D,V,I,rfl,rfl⟩:=MI h;apply#[Z,s,u,B,e,M,y,Y,R,F,λv N E S _=>#[Z,s,u,B,e,M,_,C,R.same E,D,λW c J A _=>#[i,by simpa [Rep] using A,?_]]];have j:=E.trans J;obtain⟨p,vs,rfl,g,K⟩:=nK (R.same j).iJ (S.same J) V;apply#[p,vs,S',cQ.of g,λl r=>q _ _ (j.lay r) ?_ λ_=>#[l,S',j.free r]];rw[Qq vs I];show qz R j r (K.take _)
def Qr(u:PA X y (DL G T cl as)):PE X (.List y pos) (tI G T cl (.list as)):=(pH u).weak λσ H Q j=>by obtain⟨Z,E,J,B,e,M,x,fr,R,h,q⟩:=j;obtain⟨xs,L,O,rfl,rfl⟩:=Jv h;apply#[Z,E,J,B,e,M,xs,R,L,λvs P o s=>#[by rw[<-s.length];show c_ O sN,λp r=>q _ _ (o.lay r) (qz R o r s) λ_=>#[p,S',o.free r]]]
def UA(y:PA X E (DL G T cl as)):PE X (.Tuple E j pos) (tI G T cl (.tup as)):=(PR y).weak λσ H Q o=>by obtain⟨Z,J,L,B,e,M,x,fr,R,h,q⟩:=o;obtain⟨xs,O,P,rfl,rfl⟩:=MK h;apply#[Z,J,L,B,e,M,xs,R,O,λvs U s u=>#[by rw[<-u.length];show c_ P sN,λp r=>q _ _ (s.lay r) ?_ (by simp)]];simp![Rep];show#[p,vs,S',.inl #[R.fresh (s.free r),aw],u.same (ph.new r).sm]
structure Bi(X:Cx):Prop where
 len:X.mg "len"=O'
 abs:X.mg "abs"=O'
 min:X.mg "min"=O'
 max:X.mg "max"=O'
 sum:X.mg "sum"=O'
 range:X.mg "range"=O'
 enumerate:X.mg "enumerate"=O'
 zip:X.mg "zip"=O'
 reversed:X.mg "reversed"=O'
def LQ(j:notStar h=P')(o:PE X h (tI G T cl a)):PA X [h] (o9 (tI G T cl a) xD):=aC o br (ao j)
def pa2(q:notStar j=P')(h:notStar o=P')(r:PE X j (tI G T cl a))(s:PE X o (tI G T cl b)):PA X [j,o] (o9 (tI G T cl a) (o9 (tI G T cl b) xD)):=aC r (aC s br (ao h)) (ao q)
def UB(b:Bi X)(u:Gl X "len")(o:notStar r=P')(E:PE X r (tI G T cl a)):PE X (.Call (.Name "len" p) [r] [] pos) (tI G T cl (.len a)):=(jz oE u b.len Yo (LQ o E) (he:=ao o)).weak λσ H Q j=>by obtain⟨Z,J,L,B,e,M,x,fr,R,h,q⟩:=j;obtain⟨y,O,xs,P,U,rfl,rfl⟩:=MJ h;apply#[Z,J,L,B,e,M,y,O,R,P,λv Y s C _=> ?_];obtain⟨p,vs,rfl,g,F⟩:=nK (R.same s).iJ C U;show#[p,vs,S',.inl (cQ.of g),q _ Y s (by simp[Rep,F.length]) (by simp)]
def UC(b:Bi X)(u:Gl X "abs")(o:notStar r=P')(y:PE X r (tI G T cl a)):PE X (.Call (.Name "abs" p) [r] [] pos) (tI G T cl (.abs a)):=(jz IP u b.abs PyProof.Rows.boot_abs (LQ o y) (he:=ao o)).weak λσ H Q j=>by obtain⟨Z,E,J,B,e,M,x,fr,R,h,q⟩:=j;obtain⟨i,L,O,rfl,rfl⟩:=Fw (E4 T cl e M a) h;apply#[Z,E,J,B,e,M,_,L,R,O,λv P U s _=> ?_];simp![Rep]at s;subst s;show#[i,S',q _ P U (by simp[Rep]) (by simp)]
def Qs(m:Mo G T cl gv k X)(b:Bi X)(U:Gl X "min")(s:notStar u=P')(o:notStar y=P')(Y:PE X u (tI G T cl a))(C:PE X y (tI G T cl c)):PE X (.Call (.Name "min" p) [u,y] [] pos) (tI G T cl (.min2 a c)):=(jz (G5 m.calm) U b.min Yd (pa2 s o Y C) (he:=ao s) (hpl:=fD (by simp[o]))).weak λσ H Q r=>by obtain⟨Z,E,J,B,e,M,x,fr,R,h,q⟩:=r;obtain⟨i,F,j,D,V,I,rfl,rfl⟩:=Fx (BF T cl e M a c) h;apply#[Z,E,J,B,e,M,_,F,R,V,λv K L O _=>#[Z,E,J,B,e,M,_,D,R.same L,I,λw S A P _=> ?_]];simp![Rep]at O P;subst O;subst P;show#[i,j,S',q _ S (L.trans A) (by simp[Rep]) (by simp)]
def Qt(m:Mo G T cl gv k X)(b:Bi X)(U:Gl X "max")(s:notStar u=P')(o:notStar y=P')(Y:PE X u (tI G T cl a))(C:PE X y (tI G T cl c)):PE X (.Call (.Name "max" p) [u,y] [] pos) (tI G T cl (.max2 a c)):=(jz (x9 m.calm) U b.max Ye (pa2 s o Y C) (he:=ao s) (hpl:=fD (by simp[o]))).weak λσ H Q r=>by obtain⟨Z,E,J,B,e,M,x,fr,R,h,q⟩:=r;obtain⟨i,F,j,D,V,I,rfl,rfl⟩:=Fx (BG T cl e M a c) h;apply#[Z,E,J,B,e,M,_,F,R,V,λv K L O _=>#[Z,E,J,B,e,M,_,D,R.same L,I,λw S A P _=> ?_]];simp![Rep]at O P;subst O;subst P;show#[i,j,S',q _ S (L.trans A) (by simp[Rep]) (by simp)]
def Ao(h:m6 l=N' i)(j:m∈l)(o:∀y,y∈l->m<=y):m=i:=by obtain⟨a,b⟩:=BW h;have:=b m j;have:=o i a;lia
def Qu(m:Mo G T cl gv k X)(b:Bi X)(E:Gl X "min")(r:notStar s=P')(J:PE X s (tI G T cl a)):PE X (.Call (.Name "min" p) [s] [] pos) (tI G T cl (.Hm a)):=(jz (P2 m.calm) E b.min Yd (LQ r J) (he:=ao r)).weak λσ H Q j=>by
  obtain⟨Z,L,O,B,e,M,x,fr,R,h,q⟩:=j;obtain⟨xs,P,l,i,U,Y,u,rfl,rfl⟩:=DI (BH T cl e M a) h;apply#[Z,L,O,B,e,M,_,P,R,U,λv C F y _=> ?_];simp![Rep]at y;obtain⟨p,vs,rfl,_,g,D⟩:=y;rw[aA.kv Y D]at g;apply#[p,l,S',cQ.of g,?_,λc V o=> ?_];cases l with
  |nil=>simp[m6]at u
  |cons=>simp
  rw[Ao u V o];show q _ C F (by simp[Rep]) (by simp)
def UD(m:Mo G T cl gv k X)(b:Bi X)(u:Gl X "sum")(o:notStar r=P')(y:PE X r (tI G T cl a)):PE X (.Call (.Name "sum" p) [r] [] pos) (tI G T cl (.sum a)):=(jz (P1 m.calm) u b.sum PyProof.Rows.boot_sum (LQ o y) (he:=ao o)).weak λσ H Q j=>by obtain⟨Z,E,J,B,e,M,x,fr,R,h,q⟩:=j;obtain⟨xs,L,l,O,P,rfl,rfl⟩:=MM h;apply#[Z,E,J,B,e,M,_,L,R,O,λv U Y s _=> ?_];simp![Rep]at s;obtain⟨p,vs,rfl,_,g,C⟩:=s;rw[aA.kv P C]at g;show#[p,l,S',cQ.of g,q _ U Y (by simp[Rep]) (by simp)]
def sO(R:Rel G Z B0 H0 B σ e H M)(s:Sm G H H1)(u:vs.length=(G.ps f).length) (r:aA G Z B H1 xs vs)(y:cl f xs M=N' (x,fr,M))(q:∀v j,Sm G H j->Rep G Z B j x v->(fr=P'->Ua H v)->Q v j):uZ G cl f (vs++[]) H1 Q E0:=by
 rw[ko];have o:=R.same s;apply#[u,Z,B,xs,M,x,fr,M,o.Hu,λb E=> ?_,r,o.iJ,o.tab,y,λv j J L O P=> ?_];have:=R.wx b E;cases h:e.own with
 |none=>rw[R.no h];show this
 |some p=>
  obtain⟨i,U⟩:=p;obtain⟨a,_,X,_⟩:=R.ow i U h;rw[X];show dN _ this
 have Y:Sm G H1 j:=J.same o.iJ O;show q v j (s.trans Y) L λT=>let ⟨a,e1,e2⟩:=P T;#[a,e1,s.free e2]
def s_call(m:Mo G T cl gv k X)(o:G.glob f=P')(J:Gl X (G.nm f))(j:(s::u).all notStar=P')(L:PA X (s::u) (DL G T cl as)):PE X (.Call (.Name (G.nm f) p) (s::u) [] pos) (tI G T cl (.call f as)):=by obtain⟨O,P,U⟩:=m.Qk f o;obtain⟨Y,C⟩:=m.Ah f (.inl o);rw[d6,aD]at j;show(gr Y m.room J O P C .nil eQ L U (ao j.1) (fD j.2)).weak λσ H Q r=>by obtain⟨Z,F,D,B,e,M,x,fr,R,h,q⟩:=r;obtain⟨xs,V,y⟩:=Jt h;show#[Z,F,D,B,e,M,xs,R,V,λvs S I E=>sO R I (by rw[<-E.length];show m.ar f xs M _ y (.inl o)) E y q]
def JL(h:j.all notStar=P'):(Wz pos (V2 j env)).all (λx=> !x.1)=true:=by
 induction j with
 |nil=>rfl
 |cons e j o=>
  rw[d6,aD]at h;rw[ao h.1];have:=o h.2;unfold Wz at this|-;rw[bf,d6,this];rfl
def pY(h:j.all notStar=P')(o:j.length<30):((Wz pos (V2 j env)).all (λx=> !x.1)&&(XH pos (W7 [] env)).all (λx=>x.1.isSome)&&decide (j.length+([]:List Xo).length+(if([]:List Xo).isEmpty then 0 else 1)<30))=true:=by rw[JL h];show(P'&&P'&&decide (j.length+0+0<30))=P';simp[o]
def wC(h:j.all notStar=P')(u:j.length<30)(o:(ap.endLine==pos.line)=P'):Wo (.Call (.Attribute (.Name y py) nm ap) j [] pos) env=(do
   let s<-Wo (.Name y py) env
   Xn ap.atName
   let (f,first)<-W5 [s] (YB s nm (do return (<-importBound (.Name y py) env).getD P'))
   callWith pos f first (Wz pos (V2 j env)) (XH pos (W7 [] env))):=by
 have q:methodCallForm (j.length+([]:List Xo).length) (Wz pos (V2 j env)) (XH pos (W7 [] env))=true:=pY h u
 have r:methodCallPos P' (.Name y py) env ap pos=pure pos:=by unfold methodCallPos;simp[o]
 show(do
  let s<-Wo (.Name y py) env
  Xn ap.atName
  methodCall (.Name y py) nm ap pos env s (j.length+([]:List Xo).length) (Wz pos (V2 j env)) (XH pos (W7 [] env)))=_
 unfold methodCall
 rw[q,r]
 rfl
def FJ(m:Mo G T cl gv k X)(u:G.eP b f=P')(U:∀σ H Q,DL G T cl as σ H Q->t σ H Q)(σ H Q)(s:tI G T cl (BV b f o as) σ H Q):IV (G.CL b) (G.nm f) (uZ G cl f) [] E0 (tI G T cl o) t σ H Q:=by
 obtain⟨Z,y,E,B,e,M,x,fr,R,h,q⟩:=s;obtain⟨Y,xs,C,F,J⟩:=Hr h;apply#[Z,y,E,B,e,M,_,Y,R,C,λv N L D _=> ?_];obtain⟨rfl,r⟩:=Am D;have O:=R.same L;rcases O.iJ with⟨_,W,V,I⟩|⟨j,V⟩;apply#[Z.po b,Z.dp b,_,S',I.ob b,m.nme b f Z _ u,U _ _ _ #[Z,y,E,B,e,M,xs,O,F,λvs S A K=> ?_]];have P:aA G Z B S (DG b::xs) (.ref (Z.po b)::vs):=by simp![aA];show#[_,vs,S',oM r,K]
 show sO R (L.trans A) (by rw[<-P.length];show m.ar f _ M _ J (.inr (.inl #[b,u]))) P J q;rw[r]at j;cases j
instance B3:IE->Nat
 |.cons _ r=>B3 r+1
 |_=>0
universe b
def FK:∀{as:IE} {xs:kS},iC T cl e M as=N' xs->xs.length=B3 as:=by
 intro as;induction as with
 |cons a r _ j=>
  intro xs h;rw[lR]at h;split at h;rename_i q o;cases h;simp[B3,j o];cases h
 |nil=>intro xs h;rw[pW]at h;cases h;rfl
 |_=>intro xs h;show nomatch (show O'=N' _ from h)
universe a
def MY(j:B3 as=0)(σ H Q)(h:DL G T cl as σ H Q):xD σ H Q:=by obtain⟨Z,o,r,B,e,M,xs,R,h,q⟩:=h;have:=FK h;rw[j,C4]at this;subst this;show q [] H (Sm.refl H) (by simp[aA])
def JM(m:Mo G T cl gv k X)(s:G.eP b f=P')(H:isName u=P')(j:(B::E).all notStar=P')(J:(B::E).length<30)(q:(ap.endLine==pos.line)=P') (L:PE X u (tI G T cl o))(M:PA X (B::E) (DL G T cl as)):PE X (.Call (.Attribute u (G.nm f) ap) (B::E) [] pos) (tI G T cl (BV b f o as)):=by
 obtain⟨O,P⟩:=m.Ah f (.inr #[b,s]);have r:=j;rw[d6,aD]at j;cases u with
 |Name y Q=>show(oC (pl:=_) L (m.xw b) (m.met b f s) O m.room P .nil eQ M (ao j.1) (fD j.2) (wC r J q)).weak (FJ m s λ_ _ _ h=>h)
 |_=>cases H
def FL(m:Mo G T cl gv k X)(j:G.eP b f=P')(r:isName q=P')(h:(ap.endLine==pos.line)=P')(s:B3 as=0) (u:PE X q (tI G T cl o)):PE X (.Call (.Attribute q (G.nm f) ap) [] [] pos) (tI G T cl (BV b f o as)):=by
 obtain⟨B,E⟩:=m.Ah f (.inr #[b,j]);cases q with
 |Name y H=>show(pe_meth0 (pl:=_) u (m.xw b) (m.met b f j) B m.room E .nil eQ (wC S' () h)).weak (FJ m j (MY s))
 |_=>cases r
def Qv(G:Gx)(h:By)(i:Nat)(t:TA):TE:=λσ H Q=>∃f,G.glob f=P'/\σ[i]?=N' (N' (.ref (G.fa f)))/\t σ H λvs j=>uZ G h f (vs++[]) j Q E0
def wD(m:Mo G T cl gv k X)(B:X.N[i]?=N' x)(E:Bd X.env.1 x)(J:(x=="__debug__")=Q')(j:(x=="__classdict__")=Q') (L:PA X (e::h) t)(he:V2 (e::h) X.env=(Q',Wo e X.env)::V2 h X.env)(hpl:(Wz pos (V2 h X.env)).any (·.1)=Q'):PE X (.Call (.Name x p) (e::h) [] pos) (Qv G cl i t):=by intro pins s o H Q I ⟨f,hf,hσ,ht⟩;obtain⟨_,M,_⟩:=m.Qk f hf;obtain⟨O,P⟩:=m.Ah f (.inl hf);apply tN (d7 (pG B E J j pins s o H (λv y=>v=.ref (G.fa f)/\y=H) I #[_,hσ,S',S']) λu U #[v,y,I1,rv,ev,eH]=> ?_);subst ev eH;obtain rfl:u=Wc (G.fa f):=rv;apply YY (h₀:=X.base) I.ok.mod.Pe M (d7 (L pos pins U o _ _ I1 ht) λus Y #[vs,H2,I2,r,q]=>#[I2.x6,?_]) he hpl;show z0 O m.room P .nil eQ I2 r q
def _root_.L2.PE.or(h:PE X e t)(h':PE X e t'):PE X e (λσ H Q=>t σ H Q\/t' σ H Q):=λpins s σ H Q I q=>q.elim (h pins s σ H Q I) (h' pins s σ H Q I)
def Qw(G:Gx)(o:By)(i:Nat)(t:TA):TE:=λσ H Q=>∃f a fd,G.j4 f=P'/\σ[i]?=N' (N' (.ref a))/\H a=N' (tZ a fd)/\t σ H λvs j=>j a=N' (tZ a fd)/\∃h,nJ G [] j a f h/\uZ G o f (vs++h) j Q E0
def B4(m:Mo G T cl gv k X)(J:X.N[i]?=N' x)(L:Bd X.env.1 x)(M:(x=="__debug__")=Q')(y:(x=="__classdict__")=Q') (O:PA X (e::j) t)(he:V2 (e::j) X.env=(Q',Wo e X.env)::V2 j X.env)(hpl:(Wz pos (V2 j X.env)).any (·.1)=Q'):PE X (.Call (.Name x p) (e::j) [] pos) (Qw G cl i t):=by
 intro pins s B H Q I ⟨f,a,fd,hf,hσ,hfa,ht⟩;have h:∀{o:Shared} {q:Hp},Inv X pins B q o->q a=N' (tZ a fd)->FnAt a o.heap:=λ{o q} P h'=>by obtain⟨U,_,_⟩:=(show gz X.1 X.w q o.1 a (tZ a fd)from P.fO a _ h');show#[_,_,_,_,U]
 apply tN (d7 (pG J L M y pins s B H (λv E=>v=.ref a/\E=H) I #[_,hσ,S',S']) λu Y #[v,E,I1,rv,ev,eH]=> ?_);subst ev eH;obtain rfl:u=Wc a:=rv;apply callWith_F (first:=[]) (h I1 hfa) (d7 (O pos pins Y B _ _ I1 ht) λus Z #[vs,H2,I2,r,q1,cvs,q2,q3]=>#[h I2 q1,?_]) he hpl;show Mw eQ I2 (m.T_ f hf X.A X.stack Z H2 us vs cvs a Q m.room I2.PU q2 r q3)
def nJ.nil(h:nJ G B H a f vs):nJ G [] H a f vs:=by obtain⟨o,j,ct,doc,q,r,s,u,y,E,J⟩:=h;show#[o,j,ct,doc,q,r,s,u,by simp,by simp,λ_ _ _=>by simp]
def MZ(m:Mo G T cl gv k X)(P:X.N[i]?=N' x)(U:Bd X.env.1 x)(Y:(x=="__debug__")=Q')(r:(x=="__classdict__")=Q') (j:(C::es).all notStar=P')(F:PA X (C::es) (DL G T cl as)):PE X (.Call (.Name x p) (C::es) [] pos) (tI G T cl (.sF i as)):=by
 rw[d6,aD]at j;show((wD m P U Y r F (ao j.1) (fD j.2)).or (B4 m P U Y r F (ao j.1) (fD j.2))).weak λσ H Q L=>by
  obtain⟨Z,D,V,B,e,M,x,fr,R,h,q⟩:=L;obtain⟨g,xs,b,I,s⟩:=Hs h;obtain⟨v,u,E⟩:=R.val i g b;cases g with
  |fn f=>
   simp![Rep]at E;obtain⟨rfl,y⟩:=E;show .inl #[f,y,u,Z,D,V,B,e,M,xs,R,I,λvs c o J=>sO R o (by rw[<-J.length];show m.ar f xs M _ s (.inl y)) J s q]
  |j4 f d=>
   simp![Rep]at E;obtain⟨a,O,rfl,S,l⟩:=E;obtain⟨y,A,ct,doc,n,K,_⟩:=id S;apply .inr #[f,a,_,y,u,K,Z,D,V,B,e,M,xs,R,I,λvs c o J=>#[o.kp _ _ K (wt _),O,(S.keep (mi.same o)).nil,?_]];have W:=J.append (l.same o);have:=sO (Q:=Q) R o (by rw[<-W.length];show m.ar f (xs++d) M _ s (.inr (.inr y))) W s q;rw[ko]at this;show this
  |_=>simp[wg]at s
def M0:MtR X "int.bit_length" (λx xs H Q=>∃i,x=.int i/\xs=[]/\Q (.int (pS i)) H):=λpins s σ H x xs v us Q I r u j=>by
 obtain⟨i,y,o,q⟩:=j;subst y o;obtain⟨t,rfl⟩:=r;cases u;have e:(WH i:Int)=pS i:=by unfold WH pS;by_cases h:i=0;subst h;rfl;have h':i.natAbs≠0:=λe=>h (Int.natAbs_eq_zero.mp e);simp[h,h']
 apply PyProof.Rows.call_int_bit_length ?_;rw[e];show#[.int (pS i),H,I.tok _,#[_,S'],q]
def Qx(u:WN o "bit_length" X.env (Wo o X.env)=Wo o X.env)(j:(ap.endLine==pos.line)=P')(y:PE X o (tI G T cl a)):PE X (.Call (.Attribute o "bit_length" ap) [] [] pos) (tI G T cl (.pS a)):=(P0 PySem.F.plainAttrs_int PyProof.Rows.slot_int_bit_length PyProof.Rows.type_int_bit_length M0 y u j).weak λσ H Q r=>by obtain⟨Z,E,J,B,e,M,x,fr,R,h,q⟩:=r;obtain⟨i,L,O,rfl,rfl⟩:=Fw (BJ T cl e M a) h;apply#[Z,E,J,B,e,M,_,L,R,O,λv P U s _=> ?_];simp![Rep]at s;subst s;show#[S',i,S',S',q _ P U (by simp[Rep]) (by simp)]
def M1(C:isName y=P')(r:notStar E=P')(o:(ap.endLine==pos.line)=P')(D:PE X y (tI G T cl a))(V:PE X E (tI G T cl b)):PE X (.Call (.Attribute y "index" ap) [E] [] pos) (tI G T cl (.index a b)):=(IZ C6 Yv PySem.F.type_list_index I0 D (LQ r V) (lT C) (pY (by simp[r]) (by simp)) o (ao r) S').weak λσ H Q s=>by obtain⟨Z,J,L,B,e,M,x,fr,R,h,q⟩:=s;obtain⟨xs,I,i,S,l,j,A,K,N,W,rfl,rfl⟩:=Ht h;apply#[Z,J,L,B,e,M,_,I,R,A,λv H1 O u _=> ?_];have d:=u;simp![Rep]at u;obtain⟨p,vs,rfl,_,g,f⟩:=u;apply#[.inl #[S',_,cQ.of g],Z,J,L,B,e,M,_,S,R.same O,K,λw k P U _=> ?_];simp![Rep]at U;subst U;obtain⟨m,n⟩:=sL W;have t:=aA.kv N f;subst t;apply#[p,_,.int i,j,.int i,S',S',cQ.of (P.kp _ _ g (bU _)),S',qA l,by simp[m],by simp[Il],λz z' hm Y=> ?_,q _ k (O.trans P) (by simp[Rep]) (by simp)];simp![cV,bj]at Y;obtain⟨c,hc,rfl⟩:=Y;have:=n z c hm hc;simpa [Il] using this
structure wF(G:Gx)(T:kT)(X:Cx)(d:D):Prop where
 nm:X.mg (G.dn d)=N' (.ref (G.da d))
 db:(G.dn d=="__debug__")=Q'
 hd:(G.da d==X9)=Q'
 vs:∃vs:List (Key×Value),(∀h,X.K.In h->h.DictOf (gV X.1 X.w) (G.da d) vs)/\(∀i:Int,T.qH d i=(YO vs (.inl i)).isSome)/\
  (∀(i:Int) f,T.iZ d i=N' f->YO vs (.inl i)=N' (.ref (G.fa f))/\G.glob f=P')/\(∀i:Int,G.BY d=P'->T.iZ d i=O'->YO vs (.inl i)=O')/\
  ∀(i:Int) l,T.DE d i=N' l->∃a,YO vs (.inl i)=N' (.ref a)/\o8 X.K (λ_=>O') a (l.map V.int)
structure M3(G:Gx)(T:kT)(X:Cx)(d:D):Prop where
 nm:X.mg (G.dn d)=N' (.ref (G.da d))
 db:(G.dn d=="__debug__")=Q'
 vs:∃fs:List F,(∀f∈fs,G.glob f=P')/\o8 X.K (λ_=>O') (G.da d) (fs.map λf=>.ref (G.fa f))/\∀i f,T.Hn d i=N' f->fs[i]?=N' f
def tDG(G:Gx)(T:kT)(d:D)(h:TE):TE:=λσ H Q=>h σ H λy j=>∃i,y=.int i/\Q ((T.iZ d i).elim .bQ λf=>.ref (G.fa f)) j
def vq(r:RelV (.int i) u):(gV P w).is (.inl i) u=true:=T5 (k:=.inl i) r
def Qy(o:wF G T X d)(J:G.BY d=P')(V:Gl X (G.dn d))(O:notStar r=P')(j:(ap.endLine==pos.line)=P')(S:PE X r (tI G T cl a)):PE X (.Call (.Attribute (.Name (G.dn d) p) "get" ap) [r] [] pos) (tI G T cl (.iZ d a)):=by
 obtain⟨vs,P,l,U,A,m⟩:=o.vs;have u:PE X (.Call (.Attribute (.Name (G.dn d) p) "get" ap) [r] [] pos) (tDG G T d (tI G T cl a)):=by
  intro pins s Y H Q I h;apply wpAny_Call_method S' (pY (by simp[O]) (by simp)) j PySem.F.plainAttrs_dict YJ PySem.F.type_dict_get (oy I V o.nm ?_ o.db);have C:=P _ I.x6;apply#[C.typeIs,λb q=> ?_,?_];cases q;obtain⟨K,_,_,L,N,_⟩:=C;show#[K,L,N.2.1];have W:Wz pos (V2 [r] X.env)=[(Q',Wo r X.env)]:=by rw[ao O];rfl
  rw[W];apply C7 S' (Y_ (Zs (d7 (S pins s Y H _ I h) λn t #[y,H2,I2,ry,i,ei,q2]=>ZE ?_)));subst ei;have E:=P _ I2.x6;apply call_meetsIn YJ E.typeIs PySem.F.entry_dict_get (PySem.F.args_dict_get_2 _ _) (meets_dict_get (gV X.1 X.w) (G.da d) (vq ry) o.hd) #[_,E.mapOf,#[_,H2,I2.tok _,?_,q2]];cases e:T.iZ d i with
  |none=>rw[A i J e];rfl
  |some f=>rw[(U i f e).1];rfl
 apply u.weak λY H Q #[Z,B0,H0,B,e,M,x,fr,R,h,q]=> ?_;obtain⟨i,c,L,rfl,rfl⟩:=Jw h;apply#[Z,B0,H0,B,e,M,_,c,R,L,λv g k D _=> ?_];simp![Rep]at D;apply#[i,D,q _ g k ?_ (by simp)];cases e:T.iZ d i with
 |none=>simp[Rep]
 |some f=>simp[Rep,(U i f e).2]
def tDI(G:Gx)(T:kT)(d:D)(h:TE):TE:=λσ H Q=>h σ H λy j=>∃i,y=.int i/\Q (.bl (T.qH d i)) j
def UE(G:Gx)(T:kT)(d:D)(h:TE):TE:=λσ H Q=>h σ H λy j=>∃i,y=.int i/\Q (.bl (!T.qH d i)) j
def JN(o:wF G T X d)(j:Gl X (G.dn d))(q:PE X r ty):PC X .In r (.Name (G.dn d) p) (tDI G T d ty):=by obtain⟨vs,u,B,_⟩:=o.vs;intro pins s E H Q I h;apply d7 (q pins s E H _ I h) λJ L #[y,H1,I1,ry,i,ei,q1]=>oy I1 j o.nm ?_ o.db;subst ei;apply wpAny_in_of (vq ry) o.hd (u _ I1.x6).mapOf ?_;rw[<-B i];show#[.bl (T.qH d i),H1,I1.tok _,S',q1]
def yO(o:wF G T X d)(j:Gl X (G.dn d))(q:PE X r ty):PC X .NotIn r (.Name (G.dn d) p) (UE G T d ty):=by obtain⟨vs,u,B,_⟩:=o.vs;intro pins s E H Q I h;apply d7 (q pins s E H _ I h) λJ L #[y,H1,I1,ry,i,ei,q1]=>oy I1 j o.nm ?_ o.db;subst ei;apply wpAny_notIn_of (vq ry) o.hd (u _ I1.x6).mapOf ?_;rw[<-B i];show#[.bl (!T.qH d i),H1,I1.tok _,S',q1]
def JO(h:tI G T cl (.inD a d) σ H Q):tDI G T d (tI G T cl a) σ H Q:=by obtain⟨Z,o,r,B,e,M,x,fr,R,h,q⟩:=h;obtain⟨i,s,u,rfl,rfl⟩:=Fy h;apply#[Z,o,r,B,e,M,_,s,R,u,λv y E j _=> ?_];simp![Rep]at j;show#[i,j,q _ y E (by simp[Rep]) (by simp)]
def yP(h:tI G T cl (.oI a d) σ H Q):UE G T d (tI G T cl a) σ H Q:=by obtain⟨Z,o,r,B,e,M,x,fr,R,h,q⟩:=h;obtain⟨i,s,u,rfl,rfl⟩:=wo h;apply#[Z,o,r,B,e,M,_,s,R,u,λv y E j _=> ?_];simp![Rep]at j;show#[i,j,q _ y E (by simp[Rep]) (by simp)]
def UG(o:wF G T X d)(j:Gl X (G.dn d))(q:PE X r (tI G T cl a)):PE X (.Compare r [.In] [.Name (G.dn d) p] pos) (tI G T cl (.inD a d)):=(zX (JN o j q) S').weak λσ H Q h=>JO h
def JP(o:wF G T X d)(j:Gl X (G.dn d))(q:PE X r (tI G T cl a)):PE X (.Compare r [.NotIn] [.Name (G.dn d) p] pos) (tI G T cl (.oI a d)):=(zX (yO o j q) S').weak λσ H Q h=>yP h
def UH(o:wF G T X d)(j:Gl X (G.dn d))(q:PE X r (tI G T cl a)):PT X (.Compare r [.In] [.Name (G.dn d) p] pos) (tT G T cl (.inD a d)):=(vO (JN o j q) S').weak λσ H Q h=>Ak (λQ h=>JO h) (λe M x fr h=>by obtain⟨_,_,_,rfl,_⟩:=Fy h;show#[_,S']) h
def JQ(o:wF G T X d)(j:Gl X (G.dn d))(q:PE X r (tI G T cl a)):PT X (.Compare r [.NotIn] [.Name (G.dn d) p] pos) (tT G T cl (.oI a d)):=(vO (yO o j q) S').weak λσ H Q h=>Ak (λQ h=>yP h) (λe M x fr h=>by obtain⟨_,_,_,rfl,_⟩:=wo h;show#[_,S']) h
def tDX(K:V7)(T:kT)(d:D)(h:TE):TE:=λσ H Q=>h σ H λy j=>∃i l,y=.int i/\T.DE d i=N' l/\∀a,o8 K (λ_=>O') a (l.map V.int)->Q (.ref a) j
def UI(m:Mo G T cl gv k X)(o:wF G T X d)(U:Gl X (G.dn d))(Y:ic u=P')(C:PE X u (tI G T cl a)):PE X (.Subscript (.Name (G.dn d) p) u pos) (tI G T cl (.DE d a)):=by
 obtain⟨vs,D,W,c,f,V⟩:=o.vs;have j:PE X (.Subscript (.Name (G.dn d) p) u pos) (tDX X.K T d (tI G T cl a)):=by intro pins s L H Q I h;apply Ms PySem.F.slot_dict_getitem.lookup (mP Y) (oy I U o.nm (d7 (C pins s L H _ I h) λg n #[y,H2,I2,ry,i,l,ei,el,q2]=> ?_) o.db);subst ei;obtain⟨b,E,J⟩:=V i l el;have r:=D _ I2.x6;show#[r.typeIs,wpAny_getItem_of (vq ry) r.mapOf E #[.ref b,H2,I2.tok _,S',q2 b J]]
 apply j.weak λL H Q #[Z,B0,H0,B,e,M,x,fr,R,h,q]=> ?_;obtain⟨i,S,l,E,J,rfl,rfl⟩:=MN h;apply#[Z,B0,H0,B,e,M,_,S,R,E,λv A N O _=> ?_];simp![Rep]at O;apply#[i,l,O,J,λb P=>q _ A N ?_ (by simp)];simp![Rep];rw[m.K]at P;show#[b,_,S',.inr P,aA.ints l]
def UJ(o:M3 G T X d)(E:Gl X (G.dn d))(J:ic s=P')(L:PE X s (tI G T cl a)):PE X (.Subscript (.Name (G.dn d) p) s pos) (tI G T cl (.Hn d a)):=by obtain⟨fs,O,P,U⟩:=o.vs;apply(vY PX (eO (v:=.ref (G.da d)) E o.nm S' o.db) L (mP J)).weak λσ H Q #[Z,B0,H0,B,e,M,x,fr,R,h,q]=> ?_;obtain⟨i,Y,f,C,I,F,rfl,rfl⟩:=MO h;apply#[Z,B0,H0,B,e,M,_,Y,R,C,λv D V u _=> ?_];simp![Rep]at u;have y:=U _ _ F;apply#[_,_,i,.ref (G.fa f),S',u,o8.none P,at_of (j:=i.toNat) 'l' (by rw[cV,y];rfl),q _ D V ?_ (by simp)];have r:=O f (ka y);simp![Rep,r];show#[trivial,trivial]
section
variable {G:Gx}
variable {Z:Zx} {B0 B B':mw} {H0 H H' H1:Hp} {σ:L2.St} {e:Ev} {M:gf}
def Ap(o:i<e.vals.length)(j):(e.put i x).get j=if j=i then N' x else e.get j:=by unfold Ev.put Ev.get;by_cases h:j=i;subst h;simp[o];rw[ab h];simp![lV (λq=>h q.symm)]
def M4:(e.put i x).own=e.own:=rfl
def Aq:(e.put i x).vals.length=e.vals.length:=by simp[Ev.put]
theorem ua{h:Type}:∀(l:List h) (i:Nat),Ji l i=decide (i<l.length)
 |[],_=>by simp[Ji]
 |_::_,0=>by simp[Ji]
 |_::l,i+1=>by simp[Ji,ua l i]
def FN(h:e.free i=P'):i<e.vals.length:=by unfold Ev.free at h;rw[ua,aD]at h;simpa using h.1
def B5(h:e.free i=P')(o:e.own=N' (j,xs)):i≠j:=by unfold Ev.free at h;rw[aD,o]at h;simpa using h.2
def JR:(e.put i x).free j=e.free j:=by unfold Ev.free;rw[ua,ua,M4,Aq]
theorem Rel.put(R:Rel G Z B0 H0 B σ e H M)(o:e.free i=P')(r:Rep G Z B H x v):Rel G Z B0 H0 B (σ.set i (N' v)) (e.put i x) H M where
 tab:=R.tab
 len:=by rw[Aq,mz];show R.len
 uY:=R.uY
 ext:=R.ext
 iJ:=R.iJ
 wx:=R.wx
 val:=λj y h=>by have J:=FN o;rw[Ap J]at h;by_cases s:j=i;subst s;rw[ae S']at h;cases h;show#[v,by rw[nZ (by rw[R.len];show J)],r];rw[ab s]at h;obtain⟨w,u,E⟩:=R.val j y h;show#[w,by rw[lV (λq=>s q.symm)];show u,E]
 no:=R.no
 on:=λj xs h=>by rw[Ap (FN o),ab (λq=>B5 o h q.symm)];show R.on j xs h
 ow:=λj xs h=>by obtain⟨a,vs,u,E,L,O,P,Q⟩:=R.ow j xs h;show#[a,vs,u,by rw[lV (B5 o h)];show E,L,O,P,Q]
instance iK(σ:L2.St):d_->List V->L2.St
 |i::is,v::vs=>iK (σ.set i (N' v)) is vs
 |_,_=>σ
theorem Rel.kh:∀{tg:d_} {xs:kS} {vs:List V} {σ:L2.St} {e:Ev},Rel G Z B0 H0 B σ e H M->tg.all e.free=P'->aA G Z B H xs vs->Rel G Z B0 H0 B (iK σ tg vs) (e.kh tg xs) H M
 |[],xs,vs,σ,e,R,_,r=>by cases xs<;>cases vs<;>show R
 |i::is,[],vs,σ,e,R,_,r=>by simp![aA]at r;subst r;show R
 |i::is,x::xs,vs,σ,e,R,hf,r=>by simp![aA]at r;obtain⟨v,h,rfl,o,q⟩:=r;rw[d6,aD]at hf;have s:=R.put hf.1 o;show Rel.kh (tg:=is) (xs:=xs) (vs:=h) s (by have:(λj=>(e.put i x).free j)=λj=>e.free j:=funext λj=>JR;simpa [this] using hf.2) q
structure Walk(G:Gx)(Z:Zx)(B:mw)(tp:Bool)(J:It)(H1:Hp)(xs:List (kS)):Prop where
 stop:∀B' H,mi B B' H1 H->J.stop xs.length H
 go:∀i x B' H,xs[i]?=N' x->mi B B' H1 H->J.go i H
 ID:∀i x B' H v H',xs[i]?=N' x->mi B B' H1 H->(∀b∈B',Std H b)->J.ID i H v H'->Sm G H H'/\if tp=P' then ∃a vs,v=.ref a/\H' a=N' (.tup vs)/\aA G Z B' H' x vs else ∃y,x=[y]/\Rep G Z B' H' y v
section
variable (G T cl)
inductive EvW(tp:Bool)(ir:IE)(σ:L2.St)(H:Hp)(R:It->Hp->Prop):Prop
 |mk (Z:Zx) (B0:mw) (H0:Hp) (B:mw) (e:Ev) (M:gf) (xs:List (kS)) (Rl:Rel G Z B0 H0 B σ e H M) (h:t9 T cl e M ir=N' xs) (q:∀J H1,Sm G H H1->Walk G Z B tp J H1 xs->R J H1):EvW tp ir σ H R
def tW(h:Bool)(j:IE):TI:=EvW G T cl h j
end
def _root_.L2.PI.or{tg e:Expr}{w j:TI}(h:PI X tg e w)(h':PI X tg e j):PI X tg e (λσ H R=>w σ H R\/j σ H R):=λpins s σ H R I q=>q.elim (h pins s σ H R I) (h' pins s σ H R I)
def mi.lst(h:mi B B' H1 H)(j:a∉B)(g:H1 a=N' (.lst vs))(r:aA G Z B H1 xs vs):H a=N' (.lst vs)/\aA G Z B' H xs vs:=#[(h a _ g (bU _) j).1,r.keep h]
def Hw(q:a∉B)(g:H1 a=N' (.lst vs))(r:aA G Z B H1 xs vs):Walk G Z B Q' (Itl K a) H1 (xs.map λx=>[x]) where
 stop:=λB' H h=>#[vs,cQ.of (h.lst q g r).1,by rw[aB,r.length];show aI _]
 go:=λi x B' H j h=>by simp![cV,bj]at j;obtain⟨y,o,rfl⟩:=j;obtain⟨v,u,_⟩:=r.get o;show#[vs,v,cQ.of (h.lst q g r).1,u]
 ID:=λi x B' H v H' j h _ o=>by obtain⟨rfl,E⟩:=o;simp![cV,bj]at j;obtain⟨y,o,rfl⟩:=j;obtain⟨g',J⟩:=h.lst q g r;obtain⟨w,L,s⟩:=J.get o;have:=E vs (cQ.of g');rw[L]at this;cases this;apply#[Sm.refl _,?_];rw[ab (by simp)];show#[y,S',s]
def JS(c:(a∉B/\H1 a=N' (.tup vs))\/o8 K (λ_=>O') a vs)(r:aA G Z B H1 xs vs):Walk G Z B Q' (Itt K a) H1 (xs.map λx=>[x]):=by
 have q:∀{B' H},mi B B' H1 H->o8 K H a vs:=λ{B' H} h=>by rcases c with⟨u,g⟩|c;show o8.of (h a _ g (JC _) u).1;show o8.none c
 apply#[λB' H h=>#[vs,q h,by rw[aB,r.length];show aI _],λi x B' H j h=> ?_,λi x B' H v H' j h _ o=> ?_];simp![cV,bj]at j;obtain⟨y,o,rfl⟩:=j;obtain⟨v,E,_⟩:=r.get o;show#[vs,v,q h,E];obtain⟨rfl,J⟩:=o;simp![cV,bj]at j;obtain⟨y,o,rfl⟩:=j;obtain⟨w,L,s⟩:=(r.keep h).get o;have:=J vs (q h);rw[L]at this;cases this;apply#[Sm.refl _,?_];rw[ab (by simp)];show#[y,S',s]
def oO(h:(ib lo n st)[i]?=N' x):i<n/\x=[.int (lo+i*st)]:=by simp![ib,cV,bj]at h;obtain⟨j,q,rfl⟩:=h;obtain⟨o,rfl⟩:=ni.mp q;simp![cG]at o;show#[o,by simp]
def B6:Walk G Z B Q' (Ts lo n) H1 (ib lo n 1) where
 stop:=λB' H j=>by show n<=_;simp[ib]
 go:=λi x B' H h j=>(oO h).1
 ID:=λi x B' H v H' h j _ o=>by obtain⟨rfl,rfl⟩:=o;obtain⟨_,rfl⟩:=oO h;apply#[Sm.refl _,?_];rw[ab (by simp)];show#[_,S',by simp[Rep]]
def Hx:Walk G Z B Q' (Itc lo c n) H1 (ib lo n c) where
 stop:=λB' H j=>by show n<=_;simp[ib]
 go:=λi x B' H h j=>(oO h).1
 ID:=λi x B' H v H' h j _ o=>by obtain⟨rfl,rfl⟩:=o;obtain⟨_,rfl⟩:=oO h;apply#[Sm.refl _,?_];rw[ab (by simp)];show#[_,S',by simp[Rep]]
def JT(E:a∉B)(g:H1 a=N' (.lst vs))(r:aA G Z B H1 xs vs):Walk G Z B Q' (Itv K a vs.length) H1 (xs.reverse.map λx=>[x]):=by
 have J:∀{i:Nat} {x:kS},(xs.reverse.map λx=>[x])[i]?=N' x->i<vs.length/\∃y,x=[y]/\xs[vs.length-1-i]?=N' y:=λ{i x} h=>by simp![cV,bj]at h;obtain⟨y,j,rfl⟩:=h;have q:i<xs.reverse.length:=(ni.mp j).1;rw[Dg]at q;rw[Y6 q]at j;rw[<-r.length];show#[q,y,S',j]
 apply#[λB' H o=>by show vs.length<=_;simp[r.length],λi x B' H h o=> ?_,λi x B' H v H' h o _ j=> ?_];obtain⟨L,y,rfl,s⟩:=J h;obtain⟨v,O,_⟩:=r.get s;show#[L,vs,v,cQ.of (o.lst E g r).1,O];obtain⟨rfl,s⟩:=j;obtain⟨_,y,rfl,P⟩:=J h;obtain⟨g',Q⟩:=o.lst E g r;obtain⟨w,U,u⟩:=Q.get P;have:=s vs (cQ.of g');rw[U]at this;cases this;apply#[Sm.refl _,?_];rw[ab (by simp)];show#[y,S',u]
theorem ub:∀{xs:kS} {n i:Nat} {x:kS},(j_ n xs)[i]?=N' x->∃y,xs[i]?=N' y/\x=[.int ((n+i:Nat):Int),y]
 |[],_,_,_,h=>by simp[j_]at h
 |y::r,n,0,x,h=>by simp![j_,YM,aF]at h;show#[y,S',h.symm]
 |y::r,n,i+1,x,h=>by simp![j_,C3]at h;obtain⟨z,j,o⟩:=ub h;show#[z,by simpa using j,by rw[o,show n+1+i=n+(i+1) by lia]]
theorem sP:∀xs n,(j_ n xs).length=xs.length
 |[],_=>rfl
 |x::r,n=>by simp[j_,sP r]
def Hy(o:a∉B)(g:H1 a=N' (.lst vs))(r:aA G Z B H1 xs vs):Walk G Z B P' (Ite K a) H1 (j_ 0 xs) where
 stop:=λB' H h=>#[vs,cQ.of (h.lst o g r).1,by rw[sP,r.length];show aI _]
 go:=λi x B' H q h=>by obtain⟨y,j,rfl⟩:=ub q;obtain⟨v,E,_⟩:=r.get j;show#[vs,v,cQ.of (h.lst o g r).1,E]
 ID:=λi x B' H v H' q h Q j=>by obtain⟨t,w,rfl,s,rfl,J⟩:=j;obtain⟨y,j,rfl⟩:=ub q;obtain⟨g',L⟩:=h.lst o g r;obtain⟨u,O,P⟩:=L.get j;have:=J vs (cQ.of g');rw[O]at this;cases this;apply#[(ph.new s).sm,?_];rw[ae S'];apply#[t,_,S',aw,?_];simp![lG];show#[_,_,S',by simp[Rep],_,_,S',P.same (ph.new s).sm,S']
def JU(J:a∉B)(g:H1 a=N' (.lst vs))(r:aA G Z B H1 xs vs)(o:b∉B)(L:H1 b=N' (.lst ws))(u:aA G Z B H1 E ws):Walk G Z B P' (Itz K a b) H1 (Wj (λx y=>[x,y]) xs E):=by
 have T:∀{i:Nat} {x:kS},(Wj (λx y=>[x,y]) xs E)[i]?=N' x->∃y z,xs[i]?=N' y/\E[i]?=N' z/\x=[y,z]:=λ{i x} h=>by
  rw[zM]at h;cases q:xs[i]? with
  |none=>simp[q]at h
  |some y=>
   cases s:E[i]? with
   |none=>simp[s]at h
   |some z=>
    simp![q,s,aF]at h;show#[y,z,S',S',h.symm]
 apply#[λB' H j=>#[vs,ws,cQ.of (j.lst J g r).1,cQ.of (j.lst o L u).1,?_],λi x B' H h j=> ?_,λi x B' H v H' h j A D=> ?_];rw[Zn,<-r.length,<-u.length];lia;obtain⟨y,z,q,s,rfl⟩:=T h;obtain⟨v,O,_⟩:=r.get q;obtain⟨w,P,_⟩:=u.get s;show#[vs,ws,v,w,cQ.of (j.lst J g r).1,cQ.of (j.lst o L u).1,O,P];obtain⟨t,N,W,rfl,Q,rfl,V,R⟩:=D;obtain⟨y,z,q,s,rfl⟩:=T h;obtain⟨g',I⟩:=j.lst J g r;obtain⟨U,X⟩:=j.lst o L u;obtain⟨v,O,S⟩:=I.get q;obtain⟨w,P,Y⟩:=X.get s;have C:=V vs (cQ.of g');have F:=R ws (cQ.of U);rw[O]at C;rw[P]at F;cases C;cases F;apply#[(ph.new Q).sm,?_];rw[ae S'];apply#[t,_,S',aw,?_];simp![aA];show#[_,_,S',S.same (ph.new Q).sm,_,_,S',Y.same (ph.new Q).sm,S']
end
def UK(m:Mo G T cl gv k X)(E:PE X U (tI G T cl a)):PI X tg U (tW G T cl Q' (.seq a)):=((L9 E).or (Pw E)).weak λσ H Q o=>by obtain⟨Z,J,L,B,e,M,F,R,h,q⟩:=o;obtain⟨y,O,xs,P,Y,rfl⟩:=MP h;rcases Y with rfl|rfl;apply .inl #[Z,J,L,B,e,M,_,O,R,P,λv s u j _=> ?_];simp![Rep]at j;obtain⟨p,vs,rfl,C,g,r⟩:=j;show#[p,S',#[vs,cQ.of g],q _ s u (Hw C g r)];apply .inr #[Z,J,L,B,e,M,_,O,R,P,λv s u j _=> ?_];simp![Rep]at j;obtain⟨p,vs,rfl,c,r⟩:=j;rw[<-m.K]at c;apply#[p,S',#[vs,?_],q _ s u (JS c r)];rcases c with⟨_,g⟩|c;show o8.of g;show o8.none c
def Qz(b:Bi X)(u:Gl X "range")(o:notStar r=P')(y:PE X r (tI G T cl a)):PI X tg (.Call (.Name "range" p) [r] [] pos) (tW G T cl Q' (.mx a)):=(G1 u b.range (LQ o y) (ao o)).weak λσ H Q j=>by obtain⟨Z,E,J,B,e,M,C,R,h,q⟩:=j;obtain⟨n,L,O,P,rfl⟩:=Jx h;apply#[Z,E,J,B,e,M,_,L,R,O,λv U Y s _=> ?_];simp![Rep]at s;subst s;simp![bw]at P;show#[n,S',by omega,by omega,q _ U Y B6]
def pa3(s:notStar o=P')(h:notStar q=P')(j:notStar r=P')(u:PE X o (tI G T cl a))(y:PE X q (tI G T cl b))(B:PE X r (tI G T cl c)):PA X [o,q,r] (o9 (tI G T cl a) (o9 (tI G T cl b) (o9 (tI G T cl c) xD))):=aC u (aC y (aC B br (ao j)) (ao h)) (ao s)
def QA(U:Bi X)(Y:Gl X "range")(s:notStar u=P')(o:notStar y=P')(C:PE X u (tI G T cl a))(F:PE X y (tI G T cl b)):PI X tg (.Call (.Name "range" p) [u,y] [] pos) (tW G T cl Q' (.BA a b)):=(G2 Y U.range (pa2 s o C F) (by rw[ao s,ao o];rfl) (ao o)).weak λσ H Q r=>by obtain⟨Z,E,J,B,e,M,c,R,h,q⟩:=r;obtain⟨i,D,j,V,I,S,A,K,rfl⟩:=Jy h;apply#[Z,E,J,B,e,M,_,D,R,I,λv d L O _=>#[Z,E,J,B,e,M,_,V,R.same L,S,λw N W P _=> ?_]];simp![Rep]at O P;subst O;subst P;simp![bw]at A K;show#[i,j,S',#[by lia,by lia,by lia,by lia],q _ N (L.trans W) B6]
def sQ(h: -1000000<=i)(j:i<=1000000):Yy i=true:=by unfold Yy;rw[aD];show#[gU 'l',gU 'l']
universe b
def JV{i j c:Int}(o:0<c):WG i j c=(((j-i+c-1)/c).toNat:Nat):=by
 unfold WG;rw[ae o];split;rename_i h;have e:j-i+c-1=(j-i-1)+c*1:=by lia
 rw[e,Int.add_mul_ediv_left _ _ 'l'];have:0<=(j-i-1)/c:=Int.ediv_nonneg 'l' 'l';lia;rename_i h;have:(j-i+c-1)/c<=0:=by have:=Zg o (by lia:j-i+c-1<1*c);lia
 lia
universe a
def QB{i j c:Int}(q:i.natAbs<=bw)(r:j.natAbs<=bw)(h:0<c)(s:c<=bw):RgC i j c ((j-i+c-1)/c).toNat:=by
 simp![bw]at q r s;have o:=JV (i:=i) (j:=j) h;have u:(((j-i+c-1)/c).toNat:Int)<=1000000:=by have y:(j-i+c-1)/c<1000000:=Zg h (by have:1000000*1<=1000000*c:=Int.mul_le_mul_of_nonneg_left 'l' ();lia);lia
 apply#[by lia,by lia,?_,o];unfold ZF;rw[sQ 'l' 'l',sQ (i:=j) 'l' 'l',sQ (i:=c) 'l' 'l',o,sQ 'l' u,ae h,sQ (i:=j+(c-1)) 'l' 'l'];simp
def QC(V:Bi X)(I:Gl X "range")(L:notStar O=P')(o:notStar P=P')(r:notStar U=P')(S:PE X O (tI G T cl a))(A:PE X P (tI G T cl b))(K:PE X U (tI G T cl c)):PI X tg (.Call (.Name "range" p) [O,P,U] [] pos) (tW G T cl Q' (.rg a b c)):=(Hb I V.range (pa3 L o r S A K) (ao L) (fD (by simp[o,r]))).weak λσ H Q s=>by obtain⟨Z,y,E,B,e,M,rs,R,h,q⟩:=s;obtain⟨i,N,j,W,d,f,g,k,l,m,n,t,x,rfl⟩:=Jz h;apply#[Z,y,E,B,e,M,_,N,R,g,λv H1 J Y _=>#[Z,y,E,B,e,M,_,W,R.same J,k,λw H2 C F _=>#[Z,y,E,B,e,M,_,f,R.same (J.trans C),l,λu z s3 D _=> ?_]]];simp![Rep]at Y F D;subst Y;subst F;subst D;show#[i,j,d,_,S',QB m n t x,q _ z ((J.trans C).trans s3) Hx]
def QD(E:Bi X)(J:Gl X "enumerate")(o:notStar s=P')(L:PE X s (tI G T cl a)):PI X (.Tuple elts kk u) (.Call (.Name "enumerate" p) [s] [] pos) (tW G T cl P' (.enum a)):=(Mt J E.enumerate (LQ o L) (ao o)).weak λσ H Q j=>by obtain⟨Z,O,P,B,e,M,V,R,h,q⟩:=j;obtain⟨xs,U,Y,rfl⟩:=JA h;apply#[Z,O,P,B,e,M,_,U,R,Y,λv C F y _=> ?_];simp![Rep]at y;obtain⟨p,vs,rfl,D,g,r⟩:=y;show#[p,vs,S',cQ.of g,q _ C F (Hy D g r)]
def QE(D:Bi X)(V:Gl X "zip")(E:notStar J=P')(j:notStar L=P')(I:PE X J (tI G T cl a))(S:PE X L (tI G T cl b)):PI X (.Tuple elts kk O) (.Call (.Name "zip" p) [J,L] [] pos) (tW G T cl P' (.zip2 a b)):=(P8 V D.zip (pa2 E j I S) (ao E) (fD (by simp[j]))).weak λσ H Q u=>by obtain⟨Z,P,U,B,e,M,l,R,h,q⟩:=u;obtain⟨xs,A,m,K,N,W,rfl⟩:=JB h;apply#[Z,P,U,B,e,M,_,A,R,N,λv n Y c _=>#[Z,P,U,B,e,M,_,K,R.same Y,W,λw d C s _=> ?_]];have o:=c.same C;simp![Rep]at o s;obtain⟨p,vs,rfl,f,g,r⟩:=o;obtain⟨i,k,rfl,y,F,s⟩:=s;show#[p,i,vs,k,S',cQ.of g,cQ.of F,q _ d (Y.trans C) (JU f g r y F s)]
def UL(y:Bi X)(E:Gl X "reversed")(o:notStar s=P')(J:PE X s (tI G T cl a)):PI X tg (.Call (.Name "reversed" p) [s] [] pos) (tW G T cl Q' (.rev a)):=(Bt E y.reversed (LQ o J) (ao o)).weak λσ H Q j=>by obtain⟨Z,L,O,B,e,M,D,R,h,q⟩:=j;obtain⟨xs,P,U,rfl⟩:=MQ h;apply#[Z,L,O,B,e,M,_,P,R,U,λv Y C u _=> ?_];simp![Rep]at u;obtain⟨p,vs,rfl,F,g,r⟩:=u;show#[p,vs,S',cQ.of g,q _ Y C (JT F g r)]
section
variable {G:Gx} {Z:Zx} {B B0 B':mw} {H H0 H1:Hp} {σ:L2.St} {e:Ev} {M:gf}
def M5(h:¬i<e.vals.length):e.put i x=e:=by unfold Ev.put;rw[YK 'l']
theorem pZ:∀{tg:d_} {xs:kS} {e:Ev},(e.kh tg xs).own=e.own
 |[],xs,e=>by cases xs<;>rfl
 |i::is,[],e=>rfl
 |i::is,x::xs,e=>by rw[Ev.kh,pZ];rfl
theorem m7:∀{tg:d_} {vs:List V} {σ:L2.St},(iK σ tg vs).length=σ.length
 |[],vs,σ=>by cases vs<;>rfl
 |i::is,[],σ=>rfl
 |i::is,v::vs,σ=>by rw[iK,m7,mz]
universe b
theorem p4{σ:L2.St}{i:Nat}:∀{vs:d_},(wipe σ vs)[i]?=if i∈vs then(σ[i]?).map λ_=>O' else σ[i]?
 |[]=>by simp[wipe]
 |v::vs=>by unfold wipe;rw[ZQ];have o:=p4 (σ:=σ) (i:=i) (vs:=vs);by_cases h:v=i;subst h;simp![dC,aE];split;rename_i j;rw[gh]at j;rw[lh j];rfl;rename_i j;rw[gh]at j;rw[ej 'l'];rfl;rw[ab h,o];have h':¬i=v:=λq=>h q.symm;simp![aE,h',false_or]
universe a
theorem wG:∀{tg:d_} {vs:List V} {σ:L2.St},i∉tg->(iK σ tg vs)[i]?=σ[i]?
 |[],vs,σ,_=>by cases vs<;>rfl
 |j::is,[],σ,_=>rfl
 |j::is,v::vs,σ,h=>by rw[aE,not_or]at h;rw[iK,wG h.2,lV (λq=>h.1 q.symm)]
def B7(h:∀i∈tg,i∈own):wipe (iK (wipe σ own) tg vs) own=wipe σ own:=by apply oa;intro i;rw[p4,p4];by_cases j:i∈own;rw[ae j,ae j];by_cases o:i<σ.length;rw[lh (by rw[m7,gh];show o),lh o];rfl;rw[ej (by rw[m7,gh];lia),ej 'l'];rw[ab j,ab j,wG (λq=>j (h i q)),p4,ab j]
def gT(K:V7)(h:Bool)(tg:d_):TG:=λv σ H Q=>if h=P' then ∃a xs,v=.ref a/\o8 K H a xs/\xs.length=tg.length/\Q (iK σ tg xs) H else ∃i,tg=[i]/\Q (σ.set i (N' v)) H
def JW(tg:d_):SR:=λvs σ H Q=>vs.length=tg.length/\Q (iK σ tg vs) H
def Hz:L7 X [] (JW []):=λpins s σ H vs us Q I r h=>L8 pins s σ H vs us Q I r (by obtain⟨j,o⟩:=h;have:vs=[]:=C4.mp j;subst this;show#[S',o])
def DP(u:X.N.Nodup)(y:X.N[i]?=N' x)(E:Loc X.env.1 x)(J:(X.fn x=P'/\X.fz x=Q')\/X.env.1.2.lookup x=N' .local)(h:L7 X j (JW tg)) (L:(Wq (.Name x p::j) X.env).map (·.2)=XI (.Name x p) X.env::(Wq j X.env).map (·.2)):L7 X (.Name x p::j) (JW (i::tg)):=λpins s σ H vs us Q I r q=>
 IB (Et u y E J) h L pins s σ H vs us Q I r (by
  obtain⟨o,O⟩:=q;cases vs with
  |nil=>simp at o
  |cons v vs=>show#[v,vs,S',by simpa using o,O])
def QF(o:X.N.Nodup)(y:X.N[i]?=N' x)(E:Loc X.env.1 x)(J:(X.fn x=P'/\X.fz x=Q')\/X.env.1.2.lookup x=N' .local):PG X (.Name x p) (gT X.K Q' [i]):=λpins s σ H v u Q I r h=>
 Et o y E J pins s σ H v u Q I r (by simp![gT,qZ]at h;obtain⟨j,e,q⟩:=h;cases e;show q)
def UM(E:X.calm=P')(h:L7 X j (JW tg))(J:(Wq j X.env).length=tg.length)(o:(Wq j X.env).findIdx? (·.1)=O'):PG X (.Tuple j kk tp) (gT X.K P' tg):=λpins s σ H v u Q I r q=>
 Pn E h J o pins s σ H v u Q I r (by simp![gT,dC]at q;obtain⟨a,xs,e,L,y,q⟩:=q;show#[a,xs,e,L,y,y,q])
def Mo.ll(m:Mo G T cl gv k X)(s)(H)(scope)(h)(j):Mo G T cl gv k (X.ll s H scope h j):=#[m.K,m.mg,m.calm,m.room,m.nd,m.Qk,m.ar,m.Ah,m.met,m.nme,m.xw,m.wz,m.Hv,m.MS,m.wA,m.T_,m.gi]
def Bi.ll(b:Bi X)(s)(H)(scope)(h)(j):Bi (X.ll s H scope h j):=by obtain⟨o,q,r,u,y,E,J,L,O⟩:=b;show#[o,q,r,u,y,E,J,L,O]
def Rel.inner(R:Rel G Z B0 H0 B σ e H M)(U:e.own=O')(L:Sm G H H1)(D:Std H1 u)(I:H u=O')(O:∀i∈own,i∈tg)(J:tg.length=xs.length)(r:aA G Z (u::B0) H1 xs vs):Rel G Z (u::B0) H (u::B0) (iK (wipe σ own) tg vs) (e.kh tg xs) H1 M:=by
 have S:=R.no U;subst S;have kp:mi B (u::B) H H1:=λb o h n A=>#[L.kp b o h n,λq=>(aE.mp q).elim (λz=>by rw[z,I]at h;cases h) A];have Y:∀{tg:d_} {xs:kS} {vs:List V} {σ':L2.St} {e':Ev},tg.length=xs.length->aA G Z (u::B) H1 xs vs->σ'.length=e'.vals.length->e'.own=O'->
   (∀i x,i∉tg->e'.get i=N' x->∃v,σ'[i]?=N' (N' v)/\Rep G Z (u::B) H1 x v)->
   (iK σ' tg vs).length=(e'.kh tg xs).vals.length/\∀i x,(e'.kh tg xs).get i=N' x->∃v,(iK σ' tg vs)[i]?=N' (N' v)/\Rep G Z (u::B) H1 x v:=by
  intro tg
  induction tg with
  |nil=>
   intro xs vs σ' e' J r E P h
   cases xs with
   |cons=>simp at J
   |nil=>
    simp![aA]at r
    subst r
    show#[E,λi x q=>h i x (by simp) q]
  |cons j tg K=>
   intro xs vs σ' e' J r E P h
   cases xs with
   |nil=>simp at J
   |cons x xs=>
    simp![aA]at r
    obtain⟨v,N,rfl,W,a⟩:=r
    apply K (xs:=xs) (vs:=N) (σ':=σ'.set j (N' v)) (e':=e'.put j x) (by simpa using J) a (by rw[mz,Aq];show E) P λi y X q=> ?_
    by_cases F:j<e'.vals.length
    rw[Ap F]at q
    by_cases s:i=j
    subst s
    rw[ae S']at q
    cases q
    show#[v,by rw[nZ 'l'],W]
    rw[ab s]at q
    obtain⟨w,T,C⟩:=h i y (by simp[s,X]) q
    show#[w,by rw[lV (λz=>s z.symm)];show T,C]
    rw[M5 F]at q
    rw[YK 'l']
    by_cases s:i=j
    subst s
    exfalso
    unfold Ev.get at q
    rw[ej 'l']at q
    cases q
    show h i y (by simp[s,X]) q
 obtain⟨c,d⟩:=Y (tg:=tg) (xs:=xs) (vs:=vs) (σ':=wipe σ own) (e':=e) J r (by rw[gh];show R.len) U λi x X q=>by obtain⟨v,T,C⟩:=R.val i x q;show#[v,by rw[p4,ab (λz=>X (O i z))];show T,C.keep kp]
 apply#[c,λb Q=> ?_,L.JD,L.ta R.tab,R.iJ.same L,λb Q=>dN _ (R.wx b Q),d,λ_=>rfl,(λi f h=>by rw[pZ,U]at h;cases h),λi f h=> ?_];rcases aE.mp Q with rfl|Q;show D;show L.uY (R.uY b Q);rw[pZ,U]at h;cases h
end
section
variable {G:Gx} {T:kT} {cl:By} {X:Cx}
theorem uc:∀{l:List α} {x:α} {o zs:List β},iB c f (l++[x])=N' zs->iB c f l=N' o->∃b,c x=N' b/\((b=P'/\∃y,f x=N' y/\zs=o++[y])\/(b=Q'/\zs=o))
 |[],x,o,zs,h,j=>by
  simp![iB,aF]at j;subst j;rw[mB,iB]at h;cases q:c x with
  |none=>rw[q]at h;simp at h
  |some b=>
   rw[q]at h;cases b with
   |true=>
    simp only at h;cases r:f x with
    |none=>rw[r]at h;simp at h
    |some y=>
     rw[r]at h;simp![iB,fM,aF]at h;show#[P',S',.inl #[S',y,S',by rw[<-h];rfl]]
   |false=>
    simp![iB,aF]at h;show#[Q',S',.inr #[S',h.symm]]
 |a::l,x,o,zs,h,j=>by
  rw[ra,iB]at h;rw[iB]at j;cases q:c a with
  |none=>rw[q]at h;simp at h
  |some b=>
   rw[q]at h j;cases b with
   |true=>
    simp only at h j;cases r:f a with
    |none=>rw[r]at h;simp at h
    |some y=>
     rw[r]at h j;simp![bj]at h j;obtain⟨s,u,rfl⟩:=h;obtain⟨B,E,rfl⟩:=j;obtain⟨b,H,J⟩:=uc u E;apply#[b,H,J.imp (λ⟨e,y',e1,e2⟩=>#[e,y',e1,by rw[e2];rfl]) λ⟨e,e2⟩=>#[e,by rw[e2]]]
   |false=>
    simp only at h j;show uc h j
theorem wH:∀{l r:List α} {zs:List β},iB c f (l++r)=N' zs->∃j,iB c f l=N' j
 |[],r,zs,h=>#[[],S']
 |a::l,r,zs,h=>by
  rw[ra,iB]at h;rw[iB];cases o:c a with
  |none=>rw[o]at h;simp at h
  |some b=>
   rw[o]at h;cases b with
   |true=>
    simp only at h|-;cases q:f a with
    |none=>rw[q]at h;simp at h
    |some y=>
     rw[q]at h;simp![bj]at h|-;obtain⟨s,u,rfl⟩:=h;obtain⟨j,B⟩:=wH u;show#[_,j,B,S']
   |false=>
    simp only at h|-;show wH h
theorem p5:∀{l:List α} {j:List β},iB c f l=N' j->j.length<=l.length
 |[],j,h=>by simp![iB,aF]at h;subst h;simp
 |a::l,j,h=>by
  rw[iB]at h;cases o:c a with
  |none=>rw[o]at h;simp at h
  |some b=>
   rw[o]at h;cases b with
   |true=>
    simp only at h;cases q:f a with
    |none=>rw[q]at h;simp at h
    |some y=>
     rw[q]at h;simp![bj]at h;obtain⟨s,r,rfl⟩:=h;have:=p5 r;simp![dR];lia
   |false=>
    simp only at h;have:=p5 h;simp![dR];lia
def OE (zf:∀i∈tg,i∈own)(zg:∀i∈own,i∈tg)(hK:X.K=G.K)(R:Rel G Z B0 H0 B σ e H M)(ho:e.own=O')(hx:t9 T cl e M it=N' xs)(hl:xs.length<=bw)(hf:iB c f xs=N' ys)(zh:∀x∈xs,x.length=tg.length) (ht:∀x b σ' E s (K:Bool->Hp->Prop),c x=N' b->Rel G Z (s::B0) E (s::B0) σ' (e.kh tg x) E M->(∀u,Sm G E u->K b u)->tt σ' E K) (he:∀x y σ' E s (K:VK),f x=N' y->Rel G Z (s::B0) E (s::B0) σ' (e.kh tg x) E M->(∀v u,Sm G E u->Rep G Z (s::B0) u y v->K v u)->te σ' E K) (q:∀v E,Sm G H E->Rep G Z B E (.lst ys) v->Ua H v->Q v E):P7 (tW G T cl tp it) (gT X.K tp tg) tt te own σ H Q:=by
 have hB:=R.no ho;subst hB;apply#[Z,B,H0,B,e,M,xs,R,hx,λJ D s1 Wk=> ?_];intro s hD;have S:H s=none:=s1.free hD;have zi:s∉B:=R.fresh S;have O:∀{u:Hp},Sm G D u->mi B (s::B) D u:=λ{u} U b o h n nb=>#[U.kp b o h n,λz=>(aE.mp z).elim (λz=>by rw[z,hD]at h;cases h) nb];have A:∀{u:Hp},Sm G D u->Std u s->∀b∈s::B,Std u b:=λ{u} U hd b hb=>by rcases aE.mp hb with rfl|hb;show hd;show U.uY ((R.same s1).uY b hb)
 apply#[λi m u=>i+m=xs.length/\Sm G D u/\∃acc L,u s=N' (.lst acc)/\aA G Z (s::B) u L acc/\iB c f (xs.take i)=N' L,#[xs.length,by lia,(ph.new hD).sm,[],[],aw,by simp[aA],by simp[iB]],?_];rintro i m u ⟨zw,U,acc,L,N,rz,hz⟩;by_cases hi:i<xs.length;right;obtain⟨x,hxi⟩:∃x,xs[i]?=N' x:=#[xs[i],lh hi];apply#[Wk.go i x _ u hxi (O U),λE=>(i+1)+(m-1)=xs.length/\Sm G D E/\∃acc L,E s=N' (.lst acc)/\aA G Z (s::B) E L acc/\iB c f (xs.take (i+1))=N' L,λE h=>#[m-1,by lia,h],λv W hy=> ?_];obtain⟨s3,hv⟩:=Wk.ID i x (s::B) u v W hxi (O U) (A U (Std.lst N)) hy;have d:=U.trans s3;have za:W s=N' (.lst acc):=s3.kp _ _ N (bU _);have g:=zh x (ka hxi);have zb:∀vs,aA G Z (s::B) W x vs->(λσ2 zj=>wipe σ2 own=wipe σ own/\tt σ2 zj λb Y=>if b=P' then te σ2 Y λy C=>∃acc,C s=N' (.lst acc)/\acc.length<sizeLine/\((i+1)+(m-1)=xs.length/\Sm G D (upd C s (.lst (acc++[y])))/\∃V L,(upd C s (.lst (acc++[y]))) s=N' (.lst V)/\aA G Z (s::B) (upd C s (.lst (acc++[y]))) L V/\iB c f (xs.take (i+1))=N' L)else((i+1)+(m-1)=xs.length/\Sm G D Y/\∃acc L,Y s=N' (.lst acc)/\aA G Z (s::B) Y L acc/\iB c f (xs.take (i+1))=N' L)) (iK (wipe σ own) tg vs) W:=λvs rv=>by
  apply#[B7 zf,?_];have I:=R.inner ho (s1.trans d) (Std.lst za) S zg g.symm rv;have R3:Rel G Z (s::B) W (s::B) (iK (wipe σ own) tg vs) (e.kh tg x) W M:=#[I.len,I.uY,kX.refl _,I.tab,I.iJ,I.wx,I.val,I.no,I.on,λi' zk h=>by rw[pZ,ho]at h;cases h];have k:xs.take (i+1)=xs.take i++[x]:=by rw[List.take_succ,hxi];rfl
  obtain⟨zx,F⟩:=wH (l:=xs.take (i+1)) (r:=xs.drop (i+1)) (by rw[List.take_append_drop];show hf);rw[k]at F;obtain⟨b,zl,zm⟩:=uc F hz;have zc:L.length<=i:=by have:=p5 hz;rw[km]at this;lia
  apply ht x b _ W s _ zl R3 λC s4=> ?_;have zd:C s=N' (.lst acc):=s4.kp _ _ za (bU _);rcases zm with⟨rfl,y,zo,rfl⟩|⟨rfl,rfl⟩;rw[ae S'];have R4:Rel G Z (s::B) C (s::B) (iK (wipe σ own) tg vs) (e.kh tg x) C M:=by have:=R3.same s4;show#[this.len,this.uY,kX.refl _,this.tab,this.iJ,this.wx,this.val,this.no,this.on,λi' zk h=>by rw[pZ,ho]at h;cases h]
  apply he x y _ C s _ zo R4 λv5 H5 s5 r5=> ?_;have P:H5 s=N' (.lst acc):=s5.kp _ _ zd (bU _);have p:Sm G D H5:=(d.trans s4).trans s5;have zv:acc.length<=i:=by rw[<-rz.length];show zc
  apply#[acc,P,by rw[mJ];simp![bw]at hl;lia,by lia,?_,acc++[v5],L++[y],aw,?_,by rw[k];show F];apply#[λb o h n=> ?_,λb ps h=> ?_,λhT=> ?_];rw[aq (aN h hD)];show p.kp b o h n;rw[aq (aN h hD)];show p.tb b ps h;have zp:=p.ta hT;have ne:∀b o,H5 b=N' o->NT o->(∀xs,o≠.lst xs)->b≠s:=λb o h _ zq z=>by rw[z,P]at h;cases h;show zq _ S'
  intro t' zr;rcases zp t' zr with h|⟨c',t,w⟩;show .inl (by rw[aq (λz=>by rw[z,P]at h;cases h)];show h);show .inr #[c',by rw[aq (λz=>by rw[z,P]at t;cases t)];show t,by rw[aq (λz=>by rw[z,P]at w;cases w)];show w];have ze:mi (s::B) (s::B) H5 (upd H5 s (.lst (acc++[v5]))):=λb o h n nb=>#[by rw[aq (λz=>nb (by rw[z];show jx))];show h,nb];have zt:aA G Z (s::B) H5 L acc:=(rz.same s3).same (s4.trans s5);apply(zt.keep ze).append ?_;simp![aA];show#[v5,[],S',r5.keep ze,S'];rw[ab ()];show#[by lia,d.trans s4,acc,_,zd,(rz.same s3).same s4,by rw[k];show F]
 unfold gT;cases tp with
 |true=>
  rw[ae S']at hv|-;obtain⟨a,vs,rfl,ha,rv⟩:=hv;show#[a,vs,S',o8.of ha,by rw[<-rv.length];show g,zb vs rv]
 |false=>
  rw[ab ()]at hv|-;obtain⟨y,rfl,ry⟩:=hv;obtain⟨j,rfl⟩:∃j,tg=[j]:=by
   match tg,g with
   |[j],_=>show#[j,S']
  apply#[j,S',?_];have:=zb [v] (by simp![aA];show#[v,[],S',ry,S']);show this
 left;have zu:i=xs.length:=by lia
 subst zu;rw[ZU,hf]at hz;cases hz;apply#[Wk.stop _ u (O U),q _ u (s1.trans U) ?_ #[s,S',S]];simp![Rep];show#[s,acc,S',zi,N,rz.keep λb o h n nb=>#[h,λz=>nb (dN _ z)]]
end
section
variable {G:Gx} {T:kT} {cl:By} {gv:Nat->uQ} {k:Nat} {X:Cx}
instance JX:IE->Nat
 |.enum _=>2
 |.zip2 _ _=>2
 |.xI _ _ _=>3
 |_=>1
theorem yQ:∀{xs:kS} {n:Nat} {x:kS},x∈j_ n xs->x.length=2
 |[],n,x,h=>by simp[j_]at h
 |a::xs,n,x,h=>by rw[j_]at h;rcases aE.mp h with rfl|h;rfl;show yQ h
def Ar(h:t9 T cl e M it=N' xs):∀x∈xs,x.length=JX it:=by
 have one:∀{l:kS},∀x∈l.map (λy=>[y]),x.length=1:=λx hx=>by obtain⟨y,_,rfl⟩:=gm.mp hx;rfl
 have L3:∀{lo st:Int} {n:Nat},∀x∈(ib lo n st),x.length=1:=λx hx=>by obtain⟨y,_,rfl⟩:=gm.mp hx;rfl
 cases it with
 |seq a=>
  simp![ks,i0,i4,i5,i6,i7,i8,ku]at h;split at h;cases h;show one;cases h;show one;cases h
 |mx a=>
  simp![ks,i0,i4,i5,i6,i7,i8,ku]at h;split at h;split at h;cases h;show L3;cases h;cases h
 |BA a b=>
  simp![ks,i0,i4,i5,i6,i7,i8,ku]at h;split at h;split at h;cases h;show L3;cases h;cases h
 |rg a b c=>
  simp![ks,i0,i4,i5,i6,i7,i8,ku]at h;split at h;split at h;cases h;show L3;cases h;cases h
 |enum a=>
  simp![ks,i0,i4,i5,i6,i7,i8,ku]at h;split at h;cases h;show λx hx=>yQ hx;cases h
 |zip2 a b=>
  simp![ks,i0,i4,i5,i6,i7,i8,ku]at h;split at h;cases h;intro x hx;obtain⟨i,hi⟩:=tH hx;rw[zM]at hi;split at hi;cases hi;rfl;cases hi;cases h
 |xI a b c=>
  simp![ks,i0,i4,i5,i6,i7,i8,ku]at h;split at h;cases h;intro x hx;obtain⟨i,hi⟩:=tH hx;rw[zM]at hi;split at hi;cases hi;rfl;cases hi;cases h
 |rev a=>
  simp![ks,i0,i4,i5,i6,i7,i8,ku]at h;split at h;cases h;show one;cases h
 |_=>show nomatch (show O'=N' _ from h)
theorem yR:∀{l:List α},iB (λ_=>N' P') f l=pU f l
 |[]=>rfl
 |x::l=>by
  rw[iB,pU];simp only;cases f x with
  |none=>rfl
  |some y=>simp![yR (l:=l)]
universe b
def M6(h:ay T cl e M (.lc tg it elt)=N' (x,fr)):e.own=O'/\∃xs j,t9 T cl e M it=N' xs/\xs.length<=bw/\pU (b6 T cl e M tg elt) xs=N' j/\x=.lst j/\fr=true:=by rw[Jo]at h;split at h;rename_i xs o q;split at h;rename_i r;simp![bj,aH]at h;obtain⟨j,s,rfl,rfl⟩:=h;show#[o,xs,j,q,r,s,S',S'];cases h;cases h
def HA{e:Ev}{M:gf}{tg:d_}{r j o:IE}{x:SV}{fr:Bool}(h:ay T cl e M (.pq tg r j o)=N' (x,fr)):e.own=O'/\∃xs q,t9 T cl e M r=N' xs/\xs.length<=bw/\iB (BC T cl e M tg j) (b6 T cl e M tg o) xs=N' q/\x=.lst q/\fr=true:=by rw[BM]at h;split at h;rename_i xs s u;split at h;rename_i y;simp![bj,aH]at h;obtain⟨q,B,rfl,rfl⟩:=h;show#[s,xs,q,u,y,B,S',S'];cases h;cases h
universe a
def JY:∀x y σ' j u (K:VK),b6 T cl e M tg elt x=N' y->Rel G Z (u::B0) j (u::B0) σ' (e.kh tg x) j M->(∀v o,Sm G j o->Rep G Z (u::B0) o y v->K v o)->tI G T cl elt σ' j K:=λx y σ' j u K h R q=>by unfold b6 at h;simp![bj]at h;obtain⟨⟨z,fr⟩,B,rfl⟩:=h;show#[Z,_,j,_,_,M,z,fr,R,B,λv o s r _=>q v o s r]
def QG{e:Ev}{M:gf}{tg:d_}{j:IE}{Z:Zx}{s:mw}:∀x b σ' o r (K:Bool->Hp->Prop),BC T cl e M tg j x=N' b->Rel G Z (r::s) o (r::s) σ' (e.kh tg x) o M->(∀u,Sm G o u->K b u)->tT G T cl j σ' o K:=λx b σ' o r K h R q=>by unfold BC at h;rw[C5]at h;obtain⟨⟨z,fr⟩,y,B⟩:=h;show#[Z,_,o,_,_,M,z,fr,b,R,y,B,q]
section
variable {tp:Bool} {it cond elt:IE} {tg:d_} {ex tgt iter ec:Expr} {scope:Scope} {own:List (Str×Nat)} {pos:Pos}
def FP(m:Mo G T cl gv k X)(o:∀i∈tg,i∈own.map (·.2))(u:∀i∈own.map (·.2),i∈tg)(J:tg.length=JX it)(h:tI G T cl (.lc tg it elt) σ H Q):P7 (tW G T cl tp it) (gT X.K tp tg) T4 (tI G T cl elt) (own.map (·.2)) σ H Q:=by obtain⟨Z,F,D,B,e,M,x,fr,R,h,q⟩:=h;obtain⟨y,xs,V,E,L,O,rfl,rfl⟩:=M6 h;have P:=R.no y;subst P;apply OE o u m.K R y E L (c:=λ_=>N' P') (f:=b6 T cl e M tg elt) (by rw[yR];show O) (λx U=>by rw[J];show Ar E x U) (λx b σ' j I K Y S C=> ?_) JY λv j s r n=>q v j s r λ_=>n;cases Y;show C j (Sm.refl j)
def aa9(m:Mo G T cl gv k X)(u:PI X tgt iter (tW G T cl tp it))(y:qL X.N X.env.1 scope own)(B:∀s H C j o,PG (X.ll s H scope (We scope j C X.env) o) tgt (gT X.K tp tg)) (he:∀s H C j o,PE (X.ll s H scope (We scope j C X.env) o) ex (tI G T cl elt))(q:∀i∈tg,i∈own.map (·.2))(r:∀i∈own.map (·.2),i∈tg)(E:tg.length=JX it)(J:∀x,Wi iter X.env x=pure x):PE X (.ListComp ex [#[tgt,iter,[],0]] scope pos) (tI G T cl (.lc tg it elt)):=(OB m.calm m.nd u y B (λ_ _ _ _ _=>EI) he J).weak λσ H Q h=>FP m q r E h
def yS(m:Mo G T cl gv k X)(j:∀i∈tg,i∈own.map (·.2))(o:∀i∈own.map (·.2),i∈tg)(E:tg.length=JX it)(h:tI G T cl (.pq tg it cond elt) σ H Q):P7 (tW G T cl tp it) (gT X.K tp tg) (tT G T cl cond) (tI G T cl elt) (own.map (·.2)) σ H Q:=by obtain⟨Z,Y,C,B,e,M,x,fr,R,h,q⟩:=h;obtain⟨u,xs,F,y,J,L,rfl,rfl⟩:=HA h;have O:=R.no u;subst O;show OE j o m.K R u y J L (λx P=>by rw[E];show Ar y x P) QG JY λv U s r n=>q v U s r λ_=>n
def QH(m:Mo G T cl gv k X)(u:PI X tgt iter (tW G T cl tp it))(y:qL X.N X.env.1 scope own)(B:∀s H C j o,PG (X.ll s H scope (We scope j C X.env) o) tgt (gT X.K tp tg)) (E:∀s H C j o,PT (X.ll s H scope (We scope j C X.env) o) ec (tT G T cl cond)) (he:∀s H C j o,PE (X.ll s H scope (We scope j C X.env) o) ex (tI G T cl elt))(q:∀i∈tg,i∈own.map (·.2))(r:∀i∈own.map (·.2),i∈tg)(J:tg.length=JX it)(L:∀x,Wi iter X.env x=pure x):PE X (.ListComp ex [#[tgt,iter,[ec],0]] scope pos) (tI G T cl (.pq tg it cond elt)):=(OB m.calm m.nd u y B (λs H C j o=>EJ (E s H C j o)) he L).weak λσ H Q h=>yS m q r J h
end
end
section
def _root_.L2.PS.weak(h:PS X st t)(w:∀D σ H,t' D σ H->t D σ H):PS X st t':=λpins s σ H Dn I q=>h pins s σ H Dn I (w _ _ _ q)
def _root_.L2.gA.weak(h:gA X st t)(w:∀D σ H,t' D σ H->t D σ H):gA X st t':=λpins s σ H Dn I q=>h pins s σ H Dn I (w _ _ _ q)
def _root_.L2.PB.weak(h:PB X st t)(w:∀D σ H,t' D σ H->t D σ H):PB X st t':=λs σ H Dn I q=>h s σ H Dn I (w _ _ _ q)
def DQ(G:Gx)(Z:Zx)(o:mw)(j:Hp)(Dn:Ends):Out->Prop
 |.nx e' M'=>∀σ' q h,Rel G Z o j q σ' e' h M'->Dn.nx σ' h
 |.rt v fr M'=>∀u h,kX G Z j h->kU G Z h M'->Rep G Z o h v u->(fr=P'->Ua j u)->Dn.rt u h
variable (G T cl) in
inductive EvS(ir:IS)(Dn:Ends)(σ:L2.St)(H:Hp):Prop
 |mk (Z:Zx) (B0:mw) (H0:Hp) (B:mw) (e:Ev) (M:gf) (o:Out) (R:Rel G Z B0 H0 B σ e H M) (h:cO T cl ir e M=N' o) (q:DQ G Z B0 H0 Dn o):EvS ir Dn σ H
variable (G T cl) in
def tS(h:IS):TS:=EvS G T cl h
def iL{j:Stmt}{h:TyM}{t:TS}{o r:IS}(q:PS X j t)(s:gA X h (tS G T cl r))(w:∀Dn σ H,tS G T cl o Dn σ H->t {Dn with nx:=tS G T cl r Dn} σ H):gA X (j::h) (tS G T cl o):=(aJ q s).weak w
def FQ(h:PS X st t)(w:∀Dn σ H,tS G T cl j Dn σ H->t Dn σ H):gA X [st] (tS G T cl j):=(dD h).weak w
def UN:gA X [] (tS G T cl .nil):=mL.weak λDn σ H j=>by obtain⟨Z,r,s,B,e,M,o,R,h,q⟩:=j;simp![E_,aF]at h;subst h;show q σ B H R
def UO{x j pos pos'}{o:TyM}{r:IS}(h:gA X o (tS G T cl r)):gA X (.Expr (.Constant (.str x) j pos) pos'::o) (tS G T cl r):=(aJ IA h).weak λDn σ H q=>q
universe b
def As{i:Nat}{a:IE}{r:IS}{Dn:Ends}{K:TS}(h:tS G T cl (.set i a r) Dn σ H)(y:∀σ H,tS G T cl r Dn σ H->K Dn σ H):tI G T cl a σ H λv j=>K Dn (σ.set i (N' v)) j:=by obtain⟨Z,s,u,B,e,M,o,R,h,q⟩:=h;rw[Fb]at h;split at h;rename_i x fr E;split at h;rename_i J;show#[Z,s,u,B,e,M,x,fr,R,E,λv j L O _=>y _ _ #[Z,s,u,B,_,M,o,(R.same L).put J O,h,q]];cases h;cases h
def OF{i:Nat}{x:Str}{a:IE}{r:IS}{o:Expr}{j:TyM}{p pos:Pos}(m:Mo G T cl gv k X)(s:X.N[i]?=N' x)(u:Loc X.env.1 x)(y:(X.fn x=P'/\X.fz x=Q')\/X.env.1.2.lookup x=N' .local) (B:Ws o (N' (.Name x p)) pos.line X.env=pure Q')(E:PE X o (tI G T cl a))(J:gA X j (tS G T cl r)):gA X (.Assign [.Name x p] o pos::j) (tS G T cl (.set i a r)):=iL (kc m.nd s u E B y) J λDn σ H h=>As (K:=tS G T cl r) h λ_ _ q=>q
def M7{i:Nat}{x:Str}{r:IS}{u:TyM}{p pos y:Pos}{Z:Bool}{J E:IE}{tg:d_}{L o j:Expr}{scope:Scope}{B:List (Str×Nat)}(m:Mo G T cl gv k X)(F:X.N[i]?=N' x)(D:X.env.1.2.lookup x=N' .local) (V:Ws (.ListComp L [#[o,j,[],0]] scope pos) (N' (.Name x p)) y.line X.env=pure P')(R:PI X o j (tW G T cl Z J))(I:qL X.N X.env.1 scope B)(S:∀s H C M O,PG (X.ll s H scope (We scope M C X.env) O) o (gT X.K Z tg)) (he:∀s H C M O,PE (X.ll s H scope (We scope M C X.env) O) L (tI G T cl E))(P:∀i∈tg,i∈B.map (·.2))(U:∀i∈B.map (·.2),i∈tg)(A:tg.length=JX J)(Y:∀x,Wi j X.env x=pure x)(W:gA X u (tS G T cl r)):gA X (.Assign [.Name x p] (.ListComp L [#[o,j,[],0]] scope pos) y::u) (tS G T cl (.set i (.lc tg J E) r)):=iL (Br m.calm m.nd F D V R I S (λ_ _ _ _ _=>EI) he Y) W λDn σ H h=>FP (Q:=λv a=>tS G T cl r Dn (σ.set i (N' v)) a) m P U A (As (K:=tS G T cl r) h λ_ _ q=>q)
def HB{i:Nat}{x:Str}{r:IS}{u:TyM}{p pos y:Pos}{D:Bool}{O B M:IE}{tg:d_}{P o j U:Expr}{scope:Scope}{E:List (Str×Nat)}(m:Mo G T cl gv k X)(V:X.N[i]?=N' x)(R:X.env.1.2.lookup x=N' .local) (I:Ws (.ListComp P [#[o,j,[U],0]] scope pos) (N' (.Name x p)) y.line X.env=pure P')(S:PI X o j (tW G T cl D O))(A:qL X.N X.env.1 scope E)(W:∀s H C J L,PG (X.ll s H scope (We scope J C X.env) L) o (gT X.K D tg)) (a:∀s H C J L,PT (X.ll s H scope (We scope J C X.env) L) U (tT G T cl B)) (he:∀s H C J L,PE (X.ll s H scope (We scope J C X.env) L) P (tI G T cl M))(Y:∀i∈tg,i∈E.map (·.2))(Z:∀i∈E.map (·.2),i∈tg)(b:tg.length=JX O)(F:∀x,Wi j X.env x=pure x)(c:gA X u (tS G T cl r)):gA X (.Assign [.Name x p] (.ListComp P [#[o,j,[U],0]] scope pos) y::u) (tS G T cl (.set i (.pq tg O B M) r)):=iL (Br m.calm m.nd V R I S A W (λs H C J L=>EJ (a s H C J L)) he F) c λDn σ H h=>yS (Q:=λv d=>tS G T cl r Dn (σ.set i (N' v)) d) m Y Z b (As (K:=tS G T cl r) h λ_ _ q=>q)
universe a
def JZ(o:(ints? xs).isSome=P')(r:aA G Z B H xs vs)(q)(s):aA G Z q s xs vs:=by
 obtain⟨l,j⟩:=zK.mp o;have u:=aA.kv j r;subst u;have:∀{xs:kS} {l:List Int},ints? xs=N' l->xs=l.map SV.int:=by
  intro xs;induction xs with
  |nil=>intro l h;simp![ints?,aF]at h;subst h;rfl
  |cons x xs y=>
   intro l h;cases x with
   |int i=>
    simp![ints?,bj]at h;obtain⟨J,E,rfl⟩:=h;rw[y E];rfl
   |_=>simp[ints?]at h
 rw[this j];show aA.ints l
universe b
def OG{i:Nat}{x:Str}{a:IE}{r:IS}{U:Expr}{u:TyM}{p pos:Pos}(m:Mo G T cl gv k X)(d:X.N[i]?=N' x)(f:Loc X.env.1 x)(l:(X.fn x=P'/\X.fz x=Q')\/X.env.1.2.lookup x=N' .local) (t:Ws U (N' (.Name x p)) pos.line X.env=pure Q')(w:PE X U (tI G T cl a))(hr:gA X u (tS G T cl r)):gA X (.Assign [.Name x p] U pos::u) (tS G T cl (.own i a r)):=iL (kc m.nd d f w t l) hr λDn σ H Y=>by
  obtain⟨Z,B0,O,B,e,M,o,R,h,q⟩:=Y;rw[Fc]at h;split at h
  ·rename_i xs h1;split at h
   ·rename_i S;simp![ua,aD,vD,bg]at S;obtain⟨hi,ho,E⟩:=S;have hB:=R.no ho;subst hB;apply#[Z,B,O,B,e,M,_,P',R,h1,λv H1 A K hn=> ?_];obtain⟨p,rfl,P⟩:=hn S';simp![Rep]at K;obtain⟨p',vs,ep,C,g,rl⟩:=K;cases ep;have J:=R.same A;have kp:mi B (p::B) H H1:=λb Q h' n C=>#[A.kp b Q h' n,λz=>(aE.mp z).elim (λz=>by rw[z,P]at h';cases h') C];have F:O p=none:=by
     cases W:O p with
     |none=>rfl
     |some Q=>
      by_cases c:p∈Z.ma
      ·show absurd (R.wx p c) (R.fresh P)
      ·rcases Q.yM with n|⟨ps,rfl⟩
       ·have:=R.ext.kp p Q W n c;rw[P]at this;cases this
       ·obtain⟨_,this⟩:=R.ext.tb p ps W;rw[P]at this;cases this
    apply#[Z,B,O,p::B,_,M,o,#[?_,J.uY,J.ext,J.tab,J.iJ,J.wx,λj y s=> ?_,λz=> ?_,λj ys s=> ?_,λj ys s=> ?_],h,q]
    ·show(σ.set i _).length=(e.vals.set i O').length;rw[mz,mz];show R.len
    ·have L:j≠i:=λz=>by
      subst z
      unfold Ev.get at s
      simp![nZ E,vd]at s
      cases s
     have D:e.get j=N' y:=by unfold Ev.get at s|-;simp![lV (λz=>L z.symm)]at s;show s
     obtain⟨v,V,I⟩:=R.val j y D
     show#[v,by rw[lV (λz=>L z.symm)];show V,I.keep kp]
    ·cases z
    ·cases s;unfold Ev.get;simp![nZ E,vd]
    ·cases s;show#[p,vs,S',by rw[nZ (by rw[R.len];show E)],C,F,g,JZ hi rl _ _]
   ·cases h
  ·cases h
def QI(h:tS G T cl (.nX i r) Dn σ H):tS G T cl r Dn σ H:=by
 obtain⟨Z,E,Y,B,e,M,o,R,h,q⟩:=h;rw[Fd]at h;split at h;rename_i j xs C;split at h;rename_i J;subst J;obtain⟨a,vs,rfl,U,F,A,D,V⟩:=R.ow _ xs C;have X:mi (a::E) E H H:=λb K h' n I=>#[h',λz=>I (dN _ z)];have L:i<e.vals.length:=by have:=(ni.mp U).1;rw[R.len]at this;show this
 apply#[Z,E,Y,E,_,M,o,#[?_,R.uY,R.ext,R.tab,R.iJ,R.wx,λj y s=> ?_,λ_=>rfl,(λj S s=>by cases s),λj S s=>by cases s],h,q];show σ.length=(e.vals.set i _).length;rw[mz];show R.len;by_cases u:j=i;subst u;unfold Ev.get at s;simp![nZ L,vd]at s;cases s;apply#[.ref a,U,?_];simp![Rep];show#[a,vs,S',F,D,V.keep X];have O:e.get j=N' y:=by unfold Ev.get at s|-;simp![lV (λz=>u z.symm)]at s;show s
 obtain⟨v,P,Q⟩:=R.val j y O;show#[v,P,Q.keep X];cases h;cases h
def UP(j:gA X st (tS G T cl r)):gA X st (tS G T cl (.nX i r)):=j.weak λ_ _ _ h=>QI h
universe a
def Rel.wr(R:Rel G Z B0 H0 (a::B0) σ e H M)(V:e.own=N' (i,xs))(Q:σ[i]?=N' (N' (.ref a)))(U:a∉B0)(X:H0 a=O')(J:∃vs,H a=N' (.lst vs))(r:aA G Z (a::B0) H Y B):Rel G Z B0 H0 (a::B0) σ {e with own:=N' (i,Y)} (upd H a (.lst B)) M:=by
 obtain⟨N,J⟩:=J;have kp:mi (a::B0) (a::B0) H (upd H a (.lst B)):=λb o h n F=>#[by rw[aq (λz=>F (by rw[z];show jx))];show h,F];have s:∀b ps,H b=N' (.qK ps)->b≠a:=λb ps h z=>by rw[z,J]at h;cases h
 apply#[R.len,λb P=> ?_,#[λb o h n m=> ?_,λb ps h=> ?_,λI=> ?_],?_,?_,R.wx,λj y L=> ?_,λz=> ?_,λj S L=> ?_,λj S L=> ?_];unfold Std;rw[aq (λz=>U (by rw[<-z];show P))];show R.uY b P;rw[aq (aN h X)];show R.ext.kp b o h n m;rw[aq (aN h X)];show R.ext.tb b ps h;have:=R.ext.ta I;intro t T;rcases this t T with h|⟨C,E,u⟩;show .inl (by rw[aq (s _ _ h)];show h);show .inr #[C,by rw[aq (s _ _ E)];show E,by rw[aq (λz=>by rw[z,J]at u;cases u)];show u];intro t T;rcases R.tab t T with h|⟨C,E,u⟩;show .inl (by rw[aq (s _ _ h)];show h);show .inr #[C,by rw[aq (s _ _ E)];show E,by rw[aq (λz=>by rw[z,J]at u;cases u)];show u];have D:∀b∈Z.ma,b≠a:=λb P z=>U (by rw[<-z];show R.wx b P);rcases R.iJ with⟨O,A,K,q⟩|q;have ma:=Zx.BX O;show .inl #[O,A,K,λb=>by rw[aq (D _ (ma.1 b))];show q.ob b,λj=>by rw[aq (D _ (ma.2 j))];show q.ls j,q.nj];show .inr q;obtain⟨v,E,u⟩:=R.val j y L;show#[v,E,u.keep kp];cases z;cases L;show R.on _ xs V;cases L;show#[a,B,S',Q,U,X,aw,r.keep kp]
end
section
variable {G:Gx} {T:kT} {cl:By} {gv:Nat->uQ} {k:Nat} {X:Cx} {Z:Zx} {B B0:mw} {H H0 H1 H':Hp} {σ:L2.St} {e:Ev} {M M':gf}
def Rel.J0(R:Rel G Z B0 H0 B σ e H M):∀b∈Z.ma,b∈B:=λb j=>by
 have:=R.wx b j;cases h:e.own with
 |none=>rw[R.no h];show this
 |some p=>
  obtain⟨i,o⟩:=p;obtain⟨a,_,q,_⟩:=R.ow i o h;rw[q];show dN _ this
def Rel.after(R:Rel G Z B0 H0 B σ e H M)(k:kX G Z H H')(E:kU G Z H' M'):Rel G Z B0 H0 B σ e H' M':=by have kp:mi B B H H':=λb o h n J=>#[k.kp b o h n λz=>J (R.J0 b z),J];apply#[R.len,λb O=> ?_,R.ext.trans k,k.ta R.tab,E,R.wx,λi x h=>let ⟨v,s,u⟩:=R.val i x h;#[v,s,u.keep kp],R.no,R.on,λi xs h=> ?_];obtain⟨o,h,P⟩:=R.uY b O;by_cases r:b∈Z.ma;rcases E with⟨y,m,_,q⟩|⟨j,_⟩;simp![Zx.ma,y,dC,aE,kn,lI]at r;rcases r with rfl|rfl|rfl|rfl|rfl|rfl;show Std.ins (q.ob _);show Std.ins (q.ob _);show Std.lst (q.ls _);show Std.lst (q.ls _);show Std.lst (q.ls _);show Std.lst (q.ls _);simp[Zx.ma,j]at r;rcases o.yM with n|⟨ps,rfl⟩;show#[o,k.kp b o h n r,P];obtain⟨_,q⟩:=k.tb b ps h;show#[_,q,λ_ z=>nomatch z];obtain⟨a,vs,s,u,L,Q,U,Y⟩:=R.ow i xs h;show#[a,vs,s,u,L,Q,k.kp _ _ U (bU _) λz=>L (R.wx a z),Y.keep kp]
def J1(o):PIp X (B1 o) (rB o):=λpins s σ H x y v u Q I h j q=>JG o pins s σ H x y v u Q I h j q
universe b
def UQ{i:Nat}{x:Str}{o:DD}{a:IE}{r:IS}{O:Expr}{s:TyM}{p pos:Pos}(m:Mo G T cl gv k X)(C:X.N[i]?=N' x)(F:Loc X.env.1 x)(D:(X.fn x=P'/\X.fz x=Q')\/X.env.1.2.lookup x=N' .local) (V:PE X O (tI G T cl a))(I:gA X s (tS G T cl r)):gA X (.AugAssign (.Name x p) (B1 o) O pos::s) (tS G T cl (.aug i o a r)):=iL (Pr m.nd C F V (J1 o) D) I λDn σ H J=>by
  obtain⟨Z,B0,H0,B,e,M,S,R,h,q⟩:=J;rw[Fe]at h;split at h;rename_i x y fr P A;split at h;rename_i z K;obtain⟨v,Q,U⟩:=R.val i _ P;simp![Rep]at U;subst U;apply#[_,Q,Z,B0,H0,B,e,M,_,fr,R,A,λw H1 W Y _=> ?_];simp![Rep]at Y;subst Y;have E:i<e.vals.length:=by have:=(ni.mp Q).1;rw[R.len]at this;show this
  have u:e.free i=true:=by
   unfold Ev.free;rw[ua];cases b:e.own with
   |none=>simpa using E
   |some p=>
    obtain⟨j,c⟩:=p;have L:i≠j:=λz=>by have:=R.on j c b;rw[<-z,P]at this;cases this
    simp[E,L]
  show#[x,y,z,S',S',K,Z,B0,H0,B,_,M,S,(R.same W).put u (by simp[Rep]),h,q];cases h;cases h
def UR{i:Nat}{x:Str}{a:IE}{r:IS}{E:Expr}{o:TyM}{p J L pos:Pos}(m:Mo G T cl gv k X)(S:X.N[i]?=N' x)(A:Bd X.env.1 x)(K:(x=="__debug__")=Q')(O:(x=="__classdict__")=Q')(s:notStar E=P')(u:(J.endLine==L.line)=P') (P:Ws (.Call (.Attribute (.Name x p) "append" J) [E] [] L) O' pos.line X.env=pure Q')(W:PE X E (tI G T cl a))(b:gA X o (tS G T cl r)):gA X (.Expr (.Call (.Attribute (.Name x p) "append" J) [E] [] L) pos::o) (tS G T cl (.app i a r)):=iL (qp (IZ C6 PySem.F.slot_list_append PySem.F.type_list_append G9 (pG S A K O) (LQ s W) (lT S') (pY (by simp[s]) (by simp)) u (ao s) S') P) b λDn σ H Q=>by
  obtain⟨Z,B0,H0,B,e,M,c,R,h,q⟩:=Q;rw[Ff]at h;split at h
  ·rename_i j xs x fr Y d;split at h
   ·rename_i f;obtain⟨rfl,y⟩:=f;obtain⟨g,vs,rfl,C,l,n,D,V⟩:=R.ow _ xs Y;apply#[_,C,.inl #[S',_,cQ.of D],Z,B0,H0,_,e,M,x,fr,R,d,λv H1 U t _=> ?_];have I:=U.kp _ _ D (bU _);apply#[g,vs,v,S',S',I,?_,?_]
    ·rw[<-V.length,mJ];simp![bw]at y;lia
    ·apply#[Z,B0,H0,_,_,M,c,(R.same U).wr Y C l n #[_,I] ((V.same U).append ?_),h,q];simp![aA];show#[v,[],S',t,S']
   ·cases h
  ·cases h
def US{i:Nat}{x:Str}{a:IE}{r:IS}{E:Expr}{o:TyM}{p J L pos:Pos}(m:Mo G T cl gv k X)(K:X.N[i]?=N' x)(W:Bd X.env.1 x)(c:(x=="__debug__")=Q')(O:(x=="__classdict__")=Q')(s:notStar E=P')(u:(J.endLine==L.line)=P') (P:Ws (.Call (.Attribute (.Name x p) "extend" J) [E] [] L) O' pos.line X.env=pure Q')(d:PE X E (tI G T cl a))(f:gA X o (tS G T cl r)):gA X (.Expr (.Call (.Attribute (.Name x p) "extend" J) [E] [] L) pos::o) (tS G T cl (.ext i a r)):=iL (qp (IZ C6 PySem.F.slot_list_extend PySem.F.type_list_extend G_ (pG K W c O) (LQ s d) (lT S') (pY (by simp[s]) (by simp)) u (ao s) S') P) f λDn σ H Q=>by
  obtain⟨Z,B0,H0,B,e,M,g,R,h,q⟩:=Q;rw[Fg]at h;split at h
  ·rename_i j xs ys fr Y l;split at h
   ·rename_i n;obtain⟨rfl,y⟩:=n;obtain⟨t,vs,rfl,C,w,z,D,V⟩:=R.ow _ xs Y;apply#[_,C,.inl #[S',_,cQ.of D],Z,B0,H0,_,e,M,_,fr,R,l,λv H1 U I _=> ?_];have S:=U.kp _ _ D (bU _);simp![Rep]at I;obtain⟨b,ws,rfl,nb,gb,A⟩:=I;apply#[t,b,vs,ws,S',S',S,gb,?_,?_]
    ·rw[<-V.length,<-A.length,mJ];simp![bw]at y;lia
    ·show#[Z,B0,H0,_,_,M,g,(R.same U).wr Y C w z #[_,S] ((V.same U).append A),h,q]
   ·cases h
  ·cases h
universe a
def FU{n:Nat}{i:Int}(h:0<=i)(j:i<n):Mj n i=N' i.toNat:=by unfold Mj;rw[ae h,ae j]
universe b
def UT{i:Nat}{x:Str}{Q a:IE}{r:IS}{u J:Expr}{o:TyM}{p E pos:Pos}(m:Mo G T cl gv k X)(hN:X.N[i]?=N' x)(hv:Bd X.env.1 x)(hd:(x=="__debug__")=Q')(S:(x=="__classdict__")=Q') (A:PG X (.Subscript (.Name x p) u E) (Po (tU i) (tI G T cl Q) IX))(K:Xj [.Subscript (.Name x p) u E] J pos.line X.env=pure Q')(W:Zk [.Subscript (.Name x p) u E] J X.env=pure O') (b:(Wq [.Subscript (.Name x p) u E] X.env).map (·.2)=[XI (.Subscript (.Name x p) u E) X.env])(c:PE X J (tI G T cl a))(d:gA X o (tS G T cl r)):gA X (.Assign [.Subscript (.Name x p) u E] J pos::o) (tS G T cl (.put i Q a r)):=iL (IC c A K W b) d λDn σ H L=>by
  obtain⟨Z,B0,H0,B,e,M,f,R,h,q⟩:=L;rw[Fh]at h;split at h
  ·rename_i j xs y g n l U t z;split at h
   ·rename_i hc;obtain⟨rfl,O,P⟩:=hc;obtain⟨a',vs,rfl,Y,h3,h4,h5,C⟩:=R.ow _ xs U;apply#[Z,B0,H0,_,e,M,_,g,R,t,λv H1 F r1 _=>#[_,Y,Z,B0,H0,_,e,M,_,l,R.same F,z,λw H2 D V _=> ?_]];simp![Rep]at V;subst V;have s:=F.trans D;have I:=s.kp _ _ h5 (bU _);apply#[a',vs,n,n.toNat,S',S',I,FU O (by rw[<-C.length];show P),?_];show#[Z,B0,H0,_,_,M,f,(R.same s).wr U Y h3 h4 #[_,I] (aA.set (r1.same D) _ (C.same s)),h,q]
   ·cases h
  ·cases h
universe a
def kU.putL(O:kU G Z H (N' m)):kU G Z (upd H (Z.pl j) (.lst (l.map V.int))) (N' (m.put j l))/\kX G Z H (upd H (Z.pl j) (.lst (l.map V.int))):=by
 obtain⟨s,q⟩:=O.get S';have u:∀b,Z.po b≠Z.pl j:=λb z=>by have:=q.ob b;rw[z,q.ls]at this;cases this
 apply#[.inl #[s,_,S',λb=> ?_,λr=> ?_,q.nj],#[λb o h n P=> ?_,λb ps h=> ?_,λQ t U=> ?_]];rw[aq (u b)];have:(m.put j l).f=m.f:=by cases j<;>rfl
 rw[this];show q.ob b;by_cases y:r=j;subst y;rw[aw];cases r<;>rfl;have E:Z.pl r≠Z.pl j:=λz=>y (q.nj _ _ z);rw[aq E];have:(m.put j l).get r=m.get r:=by cases r<;>cases j<;>first|rfl|show absurd rfl y
 rw[this];show q.ls r;rw[aq (λz=>P (by rw[z];show(Zx.BX s).2 j))];show h;rw[aq (λz=>by rw[z,q.ls]at h;cases h)];show#[ps,h];rcases Q t U with h|⟨Y,J,L⟩;show .inl (by rw[aq (λz=>by rw[z,q.ls]at h;cases h)];show h);show .inr #[Y,by rw[aq (λz=>by rw[z,q.ls]at J;cases J)];show J,by rw[aq (λz=>by rw[z,q.ls]at L;cases L)];show L]
instance M8:Bool->Nat->ML->IE->IE->IS->IS
 |false,i,j,a,b,r=>.xJ i j a b r
 |true,i,_,a,b,r=>.BB i a b r
universe b
def J2{b:Bool}{j:ML}{i ix a r O}(P:Hq b j=P')(h:cO T cl (M8 b i j ix a r) e M=N' O):∃o y q n s,e.get i=N' (DG b)/\M=N' o/\ay T cl e M a=N' (.int y,q)/\ay T cl e M ix=N' (.int n,s)/\(0<=n/\n<(o.get j).length)/\cO T cl r e (N' (o.put j ((o.get j).set n.toNat y)))=N' O:=by
 cases b with
 |false=>
  rw[show M8 Q' i j ix a r=.xJ i j ix a r from rfl,BN]at h;split at h;rename_i o y q n s u E J;split at h;rename_i L;show#[o,y,q,n,s,u,S',E,J,L,h];cases h;cases h
 |true=>
  cases j<;>first|(cases P;done)|skip
  rw[show M8 P' i .rN ix a r=.BB i ix a r from rfl,BS]at h;split at h;rename_i o y q n s u E J;split at h;rename_i L;show#[o,y,q,n,s,u,S',E,J,L,h];cases h;cases h
universe a
def M9{b:Bool}{j:ML}{i o}(q:Hq b j=P')(h:e.get i=N' (DG b)):ay T cl e (N' o) (DH b (.v i) j)=N' (.ml j,Q'):=by
 cases b with
 |false=>simp![DH,Ae,pa,h,fM,DG,zP,dC]
 |true=>
  cases j<;>first|(cases q;done)|skip
  simp![DH,Af,pa,h,fM,DG,zP,dC]
def J3{b:Bool}{i:Nat}{j:ML}{Y a:IE}{r:IS}{s E L:Expr}{o:TyM}{J pos:Pos}(m:Mo G T cl gv k X)(C:Hq b j=P') (K:PG X (.Subscript s E J) (Po (tI G T cl (DH b (.v i) j)) (tI G T cl Y) IX))(N:Xj [.Subscript s E J] L pos.line X.env=pure Q')(W:Zk [.Subscript s E J] L X.env=pure O') (c:(Wq [.Subscript s E J] X.env).map (·.2)=[XI (.Subscript s E J) X.env])(d:PE X L (tI G T cl a))(f:gA X o (tS G T cl r)):gA X (.Assign [.Subscript s E J] L pos::o) (tS G T cl (M8 b i j Y a r)):=iL (IC d K N W c) f λDn σ H O=>by
  obtain⟨Z,B0,H0,B,e,M,g,R,h,q⟩:=O;obtain⟨P,y,p,n,t,x,rfl,z,e2,F,h⟩:=J2 C h;apply#[Z,B0,H0,B,e,_,_,p,R,z,λv H1 Q D _=>#[Z,B0,H0,B,e,_,.ml j,Q',R.same Q,M9 C x,λw H2 I S _=>#[Z,B0,H0,B,e,_,_,t,(R.same Q).same I,e2,λu H3 s3 A _=> ?_]]];simp![Rep]at D S A;subst D;subst A;obtain⟨rfl,za⟩:=S;have U:=((R.same Q).same I).same s3;obtain⟨_,MR⟩:=U.iJ.get S';apply#[Z.pl j,_,n,n.toNat,S',S',MR.ls j,FU F.1 (by rw[aB];show F.2),?_];have e3:((P.get j).map V.int).set n.toNat (V.int y)=((P.get j).set n.toNat y).map V.int:=by rw[List.map_set]
  rw[e3];obtain⟨p1,p2⟩:=U.iJ.putL (j:=j) (l:=(P.get j).set n.toNat y);show#[Z,B0,H0,B,e,_,g,U.after p2 p1,h,q]
def J4(Z)(f y):lW "flags" (.int y) (wq Z f)=wq Z y:=by
 unfold wq;have h:¬(("vectors":Str)="flags"):=by decide+kernel
 have j:¬(("predicates":Str)="flags"):=by decide+kernel
 have o:¬(("scalars":Str)="flags"):=by decide+kernel
 simp![lW,ab h,ab j,ab o,dC]
universe b
def QJ{i:Nat}{x:Str}{a:IE}{r:IS}{L:Expr}{o:TyM}{p U pos:Pos}(m:Mo G T cl gv k X)(I:PE X (.Name x p) (tI G T cl (.v i))) (S:Ws L (N' (.Attribute (.Name x p) "flags" U)) pos.line X.env=pure Q')(A:PE X L (tI G T cl a))(K:gA X o (tS G T cl r)):gA X (.Assign [.Attribute (.Name x p) "flags" U] L pos::o) (tS G T cl (.Ho i a r)):=iL (dU I A S) K λDn σ H O=>by
  obtain⟨Z,B0,H0,B,e,M,N,R,h,q⟩:=O;rw[BO]at h;split at h
  ·rename_i Y y W c d;apply#[Z,B0,H0,B,e,_,_,W,R,d,λv H1 C F _=>#[Z,B0,H0,B,e,_,.cT,Q',R.same C,by simp![pa,fN,c,fM],λw H2 g D _=> ?_]];simp![Rep]at F D;subst F;obtain⟨rfl,J⟩:=D;have V:=(R.same C).same g;obtain⟨_,s⟩:=V.iJ.get S';apply#[Z.po Q',G.CL Q',Z.dp Q',_,S',s.ob Q',m.xw Q',m.MS,by show 4<1000;decide,?_];rw[show DK Z Y.f Q'=wq Z Y.f from rfl,J4];have P:∀j,Z.pl j≠Z.po false:=λj z=>by have:=s.ls j;rw[z,s.ob]at this;cases this
   have ob:=s.ob Q';have Q:Z.po P'≠Z.po false:=λz=>by have:=s.ob P';rw[z,ob]at this;injection this with this;injection this with _ _ this;cases this
   apply#[Z,B0,H0,B,e,_,N,V.after #[λb o' h' n l=> ?_,λb ps h'=> ?_,λhT t ht=> ?_] (.inl #[J,_,S',λb=>match b with|false=>aw|true=>by rw[aq Q];show s.ob P',λj=>by rw[aq (P j)];show s.ls j,s.nj]),h,q]
   ·rw[aq (λz=>l (by rw[z];show(Zx.BX J).1 _))];show h'
   ·rw[aq (λz=>by rw[z,ob]at h';cases h')];show#[ps,h']
   ·rcases hT t ht with h'|⟨c',u,E⟩
    ·show .inl (by rw[aq (λz=>by rw[z,ob]at h';cases h')];show h')
    ·show .inr #[c',by rw[aq (λz=>by rw[z,ob]at u;cases u)];show u,by rw[aq (λz=>by rw[z,ob]at E;cases E)];show E]
  ·cases h
end
def sR(R:Rel G Z B0 o B σ e H M)(s:vs.length=(G.ps f).length)(r:aA G Z B H xs vs)(u:cl f xs M=N' (x,fr,j))(q:∀v h,Rel G Z B0 o B σ e h j->Q v h):uZ G cl f vs H Q E0:=#[s,Z,B,xs,M,x,fr,j,R.Hu,R.J0,r,R.iJ,R.tab,u,λv h y _ E _=>q v h (R.after y E)]
instance exB:Bool->F->IE->IE->IS->IS
 |false=>.ex
 |true=>.MA
universe b
def OH{b:Bool}{f:F}{o as:IE}{r:IS}{y:Str}{K:Pos}{C:Expr}{D:k_}{N W pos:Pos}{E:TyM}(m:Mo G T cl gv k X)(V:G.eP b f=P')(s:(C::D).all notStar=P')(i:(C::D).length<30)(P:(N.endLine==W.line)=P') (a:Ws (.Call (.Attribute (.Name y K) (G.nm f) N) (C::D) [] W) O' pos.line X.env=pure Q')(c:b=Q'->∀e M xs,iC T cl e M as=N' xs->xs.length≠(G.ps f).length)(l:PE X (.Name y K) (tI G T cl o))(n:PA X (C::D) (DL G T cl as))(p:gA X E (tS G T cl r)):gA X (.Expr (.Call (.Attribute (.Name y K) (G.nm f) N) (C::D) [] W) pos::E) (tS G T cl (exB b f o as r)):=by
 obtain⟨t,w⟩:=m.Ah f (.inr #[b,V]);have I:=s;rw[d6,aD]at s;apply iL (qp (oC (pl:=_) l (m.xw b) (m.met b f V) t m.room w .nil eQ n (ao s.1) (fD s.2) (wC I i P)) a) p λDn σ H #[Z,B0,H0,B,e,M,oo,R,h,q]=> ?_;have d:∃J xs Q j u,ay T cl e M o=N' (DG b,J)/\iC T cl e M as=N' xs/\cl f (DG b::xs) M=N' (Q,j,u)/\cO T cl r e u=N' oo:=by
  cases b with
  |false=>
   rw[show exB Q' f o as r=.ex f o as r from rfl,DF]at h;split at h
   ·rename_i J xs Y U;split at h
    ·rename_i Q j u L;show#[J,xs,Q,j,u,Y,U,L,h]
    ·cases h
   ·rename_i J xs Y U;split at h
    ·rename_i Q j u L;show absurd (m.ar f _ M _ L (.inr (.inl #[_,V]))) (c S' _ _ _ U)
    ·cases h
   ·cases h
  |true=>
   rw[show exB P' f o as r=.MA f o as r from rfl,Fp]at h;split at h
   ·rename_i J xs Y U;split at h
    ·rename_i Q j u L;show#[J,xs,Q,j,u,Y,U,L,h]
    ·cases h
   ·cases h
 obtain⟨J,xs,Q,j,u,Y,U,L,h⟩:=d;apply#[Z,B0,H0,B,e,M,_,J,R,Y,λv H1 x z _=> ?_];obtain⟨rfl,S⟩:=Am z;have g:=R.same x;rcases g.iJ with⟨_,mm,em,MR⟩|⟨O,em⟩
 ·apply#[Z.po b,Z.dp b,_,S',MR.ob b,m.nme b f Z _ V,Z,B0,H0,B,e,M,xs,g,U,λvs H2 s2 r2=> ?_];have A:aA G Z B H2 (DG b::xs) (.ref (Z.po b)::vs):=by simp![aA];show#[_,vs,S',oM S,r2]
  dsimp only;rw[ko];show sR (g.same s2) (by rw[<-A.length];show m.ar f _ M _ L (.inr (.inl #[b,V]))) A L λ_ H3 R3=>#[Z,B0,H0,B,e,u,oo,R3,h,q]
 ·rw[S]at O;cases O
def UU{f:F}{as:IE}{r:IS}{s:Expr}{u:k_}{p J pos:Pos}{j:TyM}(m:Mo G T cl gv k X)(y:G.glob f=P')(U:Gl X (G.nm f))(o:(s::u).all notStar=P') (E:Ws (.Call (.Name (G.nm f) p) (s::u) [] J) O' pos.line X.env=pure Q')(Y:PA X (s::u) (DL G T cl as))(C:gA X j (tS G T cl r)):gA X (.Expr (.Call (.Name (G.nm f) p) (s::u) [] J) pos::j) (tS G T cl (.ex f .bQ as r)):=by
 obtain⟨D,V,I⟩:=m.Qk f y;obtain⟨S,A⟩:=m.Ah f (.inl y);rw[d6,aD]at o;apply iL (qp (gr S m.room U D V A .nil eQ Y I (ao o.1) (fD o.2)) E) C λDn σ H #[Z,B0,H0,B,e,M,oo,R,h,q]=> ?_;rw[DF]at h;split at h
 ·rename_i K xs L O;simp[Ac]at L
 ·rename_i K xs L O;split at h
  ·rename_i c N W P;apply#[Z,B0,H0,B,e,M,xs,R,O,λvs d a Q=> ?_];dsimp only;rw[ko];show sR (R.same a) (by rw[<-Q.length];show m.ar f _ M _ P (.inl y)) Q P λ_ g b=>#[Z,B0,H0,B,e,W,oo,b,h,q]
  ·cases h
 ·cases h
def UW{i:Nat}{x:Str}{as:IE}{r:IS}{O:Expr}{P:k_}{p D pos:Pos}{o:TyM}(m:Mo G T cl gv k X)(V:X.N[i]?=N' x)(I:Bd X.env.1 x)(S:(x==("__debug__":Str))=Q')(u:(x==("__classdict__":Str))=Q')(j:(O::P).all notStar=P') (Y:Ws (.Call (.Name x p) (O::P) [] D) O' pos.line X.env=pure Q')(A:PA X (O::P) (DL G T cl as))(l:gA X o (tS G T cl r)):gA X (.Expr (.Call (.Name x p) (O::P) [] D) pos::o) (tS G T cl (.Qh i as r)):=by
 rw[d6,aD]at j;apply iL (qp ((wD m V I S u A (ao j.1) (fD j.2)).or (B4 m V I S u A (ao j.1) (fD j.2))) Y) l λDn σ H #[Z,B0,H0,B,e,M,oo,R,h,q]=> ?_;rw[Fi]at h;split at h
 ·rename_i g xs n K;split at h
  ·rename_i x' t W y;obtain⟨v,E,Q⟩:=R.val i g n;cases g with
   |fn f=>
    simp![Rep]at Q;obtain⟨rfl,J⟩:=Q;apply .inl #[f,J,E,Z,B0,H0,B,e,M,xs,R,K,λvs w s U=> ?_];dsimp only;rw[ko];show sR (R.same s) (by rw[<-U.length];show m.ar f xs M _ y (.inl J)) U y λ_ z C=>#[Z,B0,H0,B,e,W,oo,C,h,q]
   |j4 f cs=>
    simp![Rep]at Q;obtain⟨a,F,rfl,L,rc⟩:=Q;obtain⟨J,b,ct,doc,c',c,_⟩:=id L;apply .inr #[f,a,_,J,E,c,Z,B0,H0,B,e,M,xs,R,K,λvs w s U=>#[s.kp _ _ c (wt _),F,(L.keep (mi.same s)).nil,?_]];have d:=U.append (rc.same s);show sR (R.same s) (by rw[<-d.length];show m.ar f (xs++cs) M _ y (.inr (.inr J))) d y λ_ z C=>#[Z,B0,H0,B,e,W,oo,C,h,q]
   |_=>simp[wg]at y
  ·cases h
 ·cases h
universe a
theorem within(R:Rel G Z B0 j B σ e H M)(h:(match cO T cl a e M with
   |some (.nx e' s)=>cO T cl r e' s
   |q=>q)=N' o)(q:DQ G Z B0 j Dn o)(N:L2.St->Hp->Prop)(bk ct:L2.St->Hp->Prop)(E:∀σ' y,tS G T cl r Dn σ' y->N σ' y):tS G T cl a {nx:=N,rt:=Dn.rt,bk:=bk,ct:=ct} σ H:=by
 cases u:cO T cl a e M with
 |none=>rw[u]at h;cases h
 |some J=>
  rw[u]at h
  cases J with
  |nx e' s=>show#[Z,B0,j,B,e,M,_,R,u,λσ' L y O=>E _ _ #[Z,B0,j,L,e',s,o,O,h,q]]
  |rt v fr s=>
   simp only at h
   cases h
   show#[Z,B0,j,B,e,M,_,R,u,q]
universe b
def aba{c:IE}{a b r:IS}{y:Expr}{E J j:TyM}{pos:Pos}(Q:PT X y (tT G T cl c))(U:gA X E (tS G T cl a))(Y:gA X J (tS G T cl b))(C:gA X j (tS G T cl r)):gA X (.If y E J pos::j) (tS G T cl (.ite c a b r)):=iL (uE Q U Y) C λDn σ H o=>by obtain⟨Z,L,O,B,e,M,D,R,h,q⟩:=o;rw[Fj]at h;split at h;rename_i x fr P;split at h;rename_i s;show#[Z,L,O,B,e,M,x,fr,P',R,P,s,λF u=>by rw[ae S'];show within (R.same u) h q _ _ _ λ_ _ z=>z];rename_i s;show#[Z,L,O,B,e,M,x,fr,Q',R,P,s,λF u=>by rw[ab ()];show within (R.same u) h q _ _ _ λ_ _ z=>z];cases h;cases h
def UX{a:IE}{y:Expr}{pos:Pos}{j:TyM}(r:j=[])(s:PE X y (tI G T cl a)):gA X (.Return (N' y) pos::j) (tS G T cl (.ret a)):=by
 subst r;apply FQ (kb s) λDn σ H #[Z,B0,H0,B,e,M,oo,R,h,q]=> ?_;rw[vo]at h;split at h;rename_i x fr u;cases h;apply#[Z,B0,H0,B,e,M,x,fr,R,u,λv Q U Y C=> ?_];have E:=R.same U;apply q v Q E.ext E.iJ (Y.keep λb o h n F=>#[h,λz=>F ?_]) λD=> ?_;cases J:e.own with
 |none=>rw[R.no J];show z
 |some p=>
  obtain⟨i,V⟩:=p;obtain⟨a,_,u,_⟩:=R.ow i V J;rw[u];show dN _ z
 obtain⟨a,rfl,s⟩:=C D;apply#[a,S',?_];cases L:H0 a with
 |none=>rfl
 |some O=>
  by_cases P:a∈Z.ma;show absurd (R.J0 a P) (R.fresh s);rcases O.yM with n|⟨ps,rfl⟩;have:=R.ext.kp a O L n P;rw[s]at this;cases this;obtain⟨_,this⟩:=R.ext.tb a ps L;rw[s]at this;cases this
 cases h
def QK(y:X.N[i]?=N' x)(E:Bd X.env.1 x)(J:(x==("__debug__":Str))=Q')(r:(x==("__classdict__":Str))=Q'):gA X [.Return (N' (.Name x p)) pos] (tS G T cl (.xK i)):=FQ (kb (pG y E J r)) λDn σ H s=>by obtain⟨Z,F,D,B,e,M,V,R,h,q⟩:=s;rw[BQ]at h;split at h;rename_i j xs L;split at h;rename_i u;subst u;cases h;obtain⟨a,vs,rfl,O,P,Q,U,Y⟩:=R.ow _ xs L;apply#[_,O,q _ H R.ext R.iJ ?_ λ_=>#[a,S',Q]];simp![Rep];show#[a,vs,S',P,U,Y.keep λb o h n C=>#[h,λz=>C (dN _ z)]];cases h;cases h
section
open Classical in
def px(h B:mw)(H:Hp):Hp:=λb=>if b∈B/\b∉h then O' else H b
universe a
def mQ(h:¬(b∈B/\b∉B0)):px B0 B H b=H b:=by unfold px;rw[ab h]
def FV(h:px B0 B H b=N' o):H b=N' o:=by unfold px at h;split at h;cases h;show h
def Rel.B0B(R:Rel G Z B0 r B σ e H M):∀b∈B0,b∈B:=λb j=>by
 cases h:e.own with
 |none=>rw[R.no h];show j
 |some p=>
  obtain⟨i,o⟩:=p;obtain⟨a,_,q,_⟩:=R.ow i o h;rw[q];show dN _ j
def Rel.cut(R:Rel G Z B0 y B σ e H M):Rel G Z B0 (px B0 B H) B σ e H M:=#[R.len,R.uY,#[λb o h _ _=>FV h,λb ps h=>#[ps,FV h],λ_=>R.tab],R.tab,R.iJ,R.wx,R.val,R.no,R.on,λi xs h=>by obtain⟨a,vs,j,r,q,E,s,u⟩:=R.ow i xs h;apply#[a,vs,j,r,q,?_,s,u];unfold px;rw[ae #[by rw[j];show jx,q]]]
def Rel.DR(R:Rel G Z B0 u B σ e H M)(h:u b=N' o):¬(b∈B/\b∉B0):=λq=>by
 obtain⟨j,r⟩:=q;cases s:e.own with
 |none=>rw[R.no s]at j;show r j
 |some p=>
  obtain⟨i,y⟩:=p;obtain⟨a,_,E,_,_,J,_⟩:=R.ow i y s;rw[E]at j;rcases aE.mp j with rfl|j;rw[J]at h;cases h;show r j
def Rel.J5(R:Rel G Z B0 q B σ e H M)(h:px B0 B H p=O')(r:p∉Z.ma):q p=none:=by
 cases j:q p with
 |none=>rfl
 |some o=>
  rw[mQ (R.DR j)]at h;rcases o.yM with n|⟨ps,rfl⟩;have:=R.ext.kp p o j n r;rw[h]at this;cases this;obtain⟨_,this⟩:=R.ext.tb p ps j;rw[h]at this;cases this
def Rel.UY(R:Rel G Z B0 r B σ e H M)(x:kX G Z (px B0 B H) q)(s:TabAt G q):kX G Z r q:=#[λb o h n m=>x.kp b o (by rw[mQ (R.DR h)];show R.ext.kp b o h n m) n m,λb ps h=>by obtain⟨j,h'⟩:=R.ext.tb b ps h;show x.tb b j (by rw[mQ (R.DR h)];show h'),λ_=>s]
def Rel.back(R:Rel G Z B0 P B σ e H M)(j:Rel G Z B0 (px B0 B H) E σ' e' J Q):mi B E H J/\Rel G Z B0 P E σ' e' J Q:=by
 apply#[λb o h n r=> ?_,j.len,j.uY,R.UY j.ext j.tab,j.tab,j.iJ,j.wx,j.val,j.no,j.on,λi xs h=> ?_];have s:px B0 B H b=N' o:=by rw[mQ λz=>r z.1];show h
 apply#[j.ext.kp b o s n λz=>r (R.J0 b z),λq=> ?_];cases L:e'.own with
 |none=>rw[j.no L]at q;show r (R.B0B b q)
 |some p=>
  obtain⟨i,U⟩:=p;obtain⟨a,_,u,_,_,y,_⟩:=j.ow i U L;rw[u]at q;rcases aE.mp q with rfl|q;rw[y]at s;cases s;show r (R.B0B b q)
 obtain⟨a,vs,u,X,O,y,Y,T⟩:=j.ow i xs h;show#[a,vs,u,X,O,R.J5 y λz=>O (R.wx a z),Y,T]
def Rel.QL(R:Rel G Z B0 r B σ e H M)(j:p∈Z.ma):px B0 B H p≠none:=by rw[mQ λz=>z.2 (R.wx p j)];intro q;obtain⟨o,h,_⟩:=R.uY p (R.wx p j);rw[q]at h;cases h
def DQ.cut{Dn:Ends}{o:Out}(R:Rel G Z B0 r B σ e H M)(s:∀{h:Hp},kX G Z (px B0 B H) h->TabAt G h)(q:DQ G Z B0 r Dn o):DQ G Z B0 (px B0 B H) Dn o:=by
 cases o with
 |nx e' y=>show λσ' E h J=>q σ' E h (R.back J).2
 |rt v fr y=>
  apply λu h a b c d=>q u h (R.UY a (s a)) b c λL=> ?_;obtain⟨p,rfl,j⟩:=d L;show#[p,S',R.J5 j λz=>R.QL z j]
def Rel.abb(R:Rel G Z B0 Q B σ e H M):∀{r:Hp},kX G Z (px B0 B H) r->TabAt G r:=λ{r} x=>x.ta λt E=>by
 have s:∀{b:VZ} {o:HO},H b=N' o->(∀xs,o≠.lst xs)→¬(b∈B/\b∉B0):=λ{b o} h J ⟨j,hn⟩=>by
  cases u:e.own with
  |none=>rw[R.no u]at j;show hn j
  |some p=>
   obtain⟨i,L⟩:=p;obtain⟨a,vs,q,_,_,_,O,_⟩:=R.ow i L u;rw[q]at j;rcases aE.mp j with rfl|j;rw[O]at h;cases h;show J _ S';show hn j
 rcases R.tab t E with h|⟨P,q,y⟩;show .inl (by rw[mQ (s h λ_ z=>nomatch z)];show h);show .inr #[P,by rw[mQ (s q λ_ z=>nomatch z)];show q,by rw[mQ (s y λ_ z=>nomatch z)];show y]
universe b
def UZ{tp:Bool}{tg:d_}{it:IE}{body r:IS}{D Q:Expr}{sb C:TyM}{pos:Pos}(m:Mo G T cl gv k X)(hp:YD (V3 X.1 X.w) X.A X.env X.xe)(hi:PI X D Q (tW G T cl tp it))(hg:PG X D (gT X.K tp tg))(hn:tg.length=JX it) (hs:∀x,Wi Q X.env x=pure x)(hb:gA X sb (tS G T cl body))(hr:gA X C (tS G T cl r)):gA X (.For D Q sb [] pos::C) (tS G T cl (.iH tg it body r)):=iL (Px hp m.calm hi hg hb hs) hr λDn σ H za=>by
  obtain⟨Z,O,H0,B,e,M,oo,R,h,q⟩:=za;rw[BP]at h;split at h;rename_i xs hx;apply#[Z,O,H0,B,e,M,xs,R,hx,λJ g s1 Wk=> ?_];have l:=R.same s1;have zb:∃of,cU tg (cO T cl body) xs e M=N' of/\((∃e' P,of=.nx e' P/\cO T cl r e' P=N' oo)\/(∃v fr P,of=.rt v fr P/\oo=of)):=by
   cases p:cU tg (cO T cl body) xs e M with
   |none=>rw[p]at h;cases h
   |some of=>
    rw[p]at h;cases of with
    |nx e' P=>show#[_,S',.inl #[e',P,S',h]]
    |rt v fr P=>cases h;show#[_,S',.inr #[v,fr,P,S',S']]
  obtain⟨of,p,F⟩:=zb;apply#[λi n V S=>i+n=xs.length/\∃s L E,Rel G Z O (px O B g) s V L S E/\cU tg (cO T cl body) (xs.drop i) L E=N' of,#[xs.length,by lia,B,e,M,l.cut,by simpa using p],?_];rintro i n V S ⟨zf,s,L,E,R2,U⟩;obtain⟨kp,zc⟩:=l.back R2;by_cases N:i<xs.length;right;obtain⟨x,hxi⟩:∃x,xs[i]?=N' x:=#[xs[i],lh N];apply#[Wk.go i x s S hxi kp,λσ' Y=>(i+1)+(n-1)=xs.length/\∃s L E,Rel G Z O (px O B g) s σ' L Y E/\cU tg (cO T cl body) (xs.drop (i+1)) L E=N' of,λσ' Y h=>#[n-1,by lia,h],λv H3 hy=> ?_];obtain⟨s3,t⟩:=Wk.ID i x s S v H3 hxi kp R2.Hu hy;have hd:xs.drop i=x::xs.drop (i+1):=by rw[List.drop_eq_getElem_cons N];have:=(ni.mp hxi).2;rw[this]
  rw[hd,cU]at U;have W:x.length=tg.length:=by rw[hn];show Ar hx x (ka hxi)
  split at U;rename_i I;have f:∀vs,aA G Z s H3 x vs->tS G T cl body {nx:=λσ' Y=>(i+1)+(n-1)=xs.length/\∃s L E,Rel G Z O (px O B g) s σ' L Y E/\cU tg (cO T cl body) (xs.drop (i+1)) L E=N' of,rt:=Dn.rt,bk:=tS G T cl r Dn,ct:=λσ' Y=>(i+1)+(n-1)=xs.length/\∃s L E,Rel G Z O (px O B g) s σ' L Y E/\cU tg (cO T cl body) (xs.drop (i+1)) L E=N' of} (iK V tg vs) H3:=λvs rv=>by
   have R3:=(R2.same s3).kh I rv;cases o:cO T cl body (L.kh tg x) E with
   |none=>rw[o]at U;cases U
   |some ob=>
    rw[o]at U;cases ob with
    |nx e' P=>show#[Z,O,_,s,_,E,_,R3,o,λσ' B' Y R'=>#[by lia,B',e',P,R',U]]
    |rt v fr P=>
     simp![aF]at U;subst U;rcases F with⟨_,_,z,_⟩|⟨_,_,_,z,rfl⟩;cases z;show#[Z,O,_,s,_,E,_,R3,o,λu Y a b c d=>DQ.cut (Dn:=Dn) l l.abb q u Y a b c d]
  unfold gT;cases tp with
  |true=>
   rw[ae S']at t|-;obtain⟨a,vs,rfl,ha,rv⟩:=t;show#[a,vs,S',o8.of ha,by rw[<-rv.length];show W,f vs rv]
  |false=>
   rw[ab ()]at t|-;obtain⟨y,rfl,ry⟩:=t;obtain⟨j,rfl⟩:∃j,tg=[j]:=by
    match tg,W with
    |[j],_=>show#[j,S']
   apply#[j,S',?_];show f [v] (by simp![aA];show#[v,[],S',ry,S'])
  cases U;left;have zd:i=xs.length:=by lia
  subst zd;rw[ZY,cU,aF]at U;subst U;apply#[Wk.stop s S kp,?_];rcases F with⟨e',P,z,ze⟩|⟨_,_,_,z,_⟩;cases z;show#[Z,O,H0,s,_,_,oo,zc,ze,q];cases z;cases h
def U0{o:Nat}{c:IE}{body r:IS}{i:Expr}{l P:TyM}{pos:Pos}(m:Mo G T cl gv k X)(t:YD (V3 X.1 X.w) X.A X.env X.xe)(hc:PT X i (tT G T cl c))(hb:gA X l (tS G T cl body))(hr:gA X P (tS G T cl r)):gA X (.While i l [] pos::P) (tS G T cl (.SW o c body r)):=iL (Bh t hc hb) hr λDn σ H K=>by
  obtain⟨Z,U,Y,B,e,M,N,R,h,q⟩:=K;rw[Fl]at h;have W:∃L,o_ (Ab T cl c) (cO T cl body) o e M=N' L/\((∃e' y,L=.nx e' y/\cO T cl r e' y=N' N)\/(∃v fr y,L=.rt v fr y/\N=L)):=by
   cases I:o_ (Ab T cl c) (cO T cl body) o e M with
   |none=>rw[I]at h;cases h
   |some L=>
    rw[I]at h;cases L with
    |nx e' y=>show#[_,S',.inl #[e',y,S',h]]
    |rt v fr y=>cases h;show#[_,S',.inr #[v,fr,y,S',S']]
  obtain⟨L,I,Q⟩:=W;apply#[λn C p=>∃O E J,Rel G Z U Y O C E p J/\o_ (Ab T cl c) (cO T cl body) n E J=N' L,#[o,B,e,M,R,I],?_];rintro n C p ⟨O,E,J,F,s⟩;cases n with
  |zero=>simp[o_]at s
  |succ n=>
   rw[o_]at s;split at s;rename_i x fr hx;have D:ay T cl E J c=N' (x,fr):=hx;split at s;rename_i f;apply#[Z,U,Y,O,E,J,x,fr,P',F,D,f,λH3 S=> ?_];dsimp only;rw[ae S'];apply#[λσ' V=>∃O E J,Rel G Z U Y O σ' E V J/\o_ (Ab T cl c) (cO T cl body) n E J=N' L,λσ' V h=>#[n,by lia,h],?_];cases j:cO T cl body E J with
   |none=>rw[j]at s;cases s
   |some ob=>
    rw[j]at s;cases ob with
    |nx e' y=>show#[Z,U,Y,O,E,J,_,F.same S,j,λσ' B' V R'=>#[B',e',y,R',s]]
    |rt v fr y=>
     simp![aF]at s;subst s;rcases Q with⟨_,_,z,_⟩|⟨_,_,_,z,rfl⟩;cases z;show#[Z,U,Y,O,E,J,_,F.same S,j,λu V a b c d=>q u V a b c d]
   rename_i f;apply#[Z,U,Y,O,E,J,x,fr,Q',F,D,f,λH3 S=> ?_];dsimp only;rw[ab ()];simp![aF]at s;subst s;rcases Q with⟨e',y,z,g⟩|⟨_,_,_,z,_⟩;cases z;show#[Z,U,Y,O,_,_,N,F.same S,g,q];cases z;cases s;cases s
end
universe a
def _root_.L2.Hd.same(f:Hd X σ ns H j):ph H j:=by
 induction f with
 |nil=>show λb o h=>h
 |cons s u q _ r=>show λb o h=>r b o (by rw[aq (aN h q)];show h)
def _root_.L2.Hd.at(f:Hd X σ ns H s):∀p∈ns,∃c v o,X.env.4.lookup p.2=N' c/\σ[p.1]?=N' (N' v)/\H c=O'/\s c=N' (.nX o (sr c v)):=by
 induction f with
 |nil=>intro p h;cases h
 |@cons i x r H s c v o y B E j G=>
  intro p h;rcases aE.mp h with rfl|h;show#[c,v,o,y,B,E,j.same _ _ aw];obtain⟨u,J,L,M,O,q,P⟩:=G p h;apply#[u,J,L,M,O,?_,P];have:u≠c:=λz=>by rw[z,aw]at q;cases q
  rw[aq this]at q;assumption
def _root_.L2.Hd.inj(f:Hd X σ ns H M):∀p∈ns,∀q∈ns,∀c,X.env.4.lookup p.2=N' c->X.env.4.lookup q.2=N' c->p.2=q.2:=by
 induction f with
 |nil=>intro p u;cases u
 |@cons i x r H M c v o G P Q B O=>
  have J:∀q∈r,∀s,X.env.4.lookup q.2=N' s->s≠c:=λq h s E z=>by obtain⟨U,_,_,j,_,L,_⟩:=B.at q h;rw[j]at E;cases E;rw[z,aw]at L;cases L
  intro p u q h s j y;rcases aE.mp u with rfl|u;rcases aE.mp h with rfl|h;rfl;have j:X.env.4.lookup x=N' s:=j;rw[G]at j;cases j;show absurd rfl (J q h _ y);rcases aE.mp h with rfl|h;have y:X.env.4.lookup x=N' s:=y;rw[G]at y;cases y;show absurd rfl (J p u _ j);show O p u q h s j y
universe b
theorem fj:∀{names:List (Str×Wu)} {acc:L1} {x:Str} {c:VZ},(x,c)∈aX cells names acc->(x,c)∈acc\/((x,Wr)∈names/\c=(cells.lookup x).getD 0)
 |[],acc,x,c,h=>.inl h
 |(n,s)::r,acc,x,c,h=>by
  rw[aX]at h;split at h;rename_i u;have j:s=.free:=by cases s<;>first|rfl|simp at u
  subst j;rcases fj h with h|⟨o,q⟩;rcases aE.mp h with h|h;cases h;show .inr #[by simp,S'];show .inl h;show .inr #[by simp[o],q];rcases fj h with h|⟨o,q⟩;show .inl h;show .inr #[by simp[o],q]
theorem ri:∀{names:List (Str×Wu)} {acc:L1} {x:Str} {c:VZ},((x,c)∈acc\/((x,Wr)∈names/\c=(cells.lookup x).getD 0))->(x,c)∈aX cells names acc
 |[],acc,x,c,h=>by rcases h with h|⟨h,_⟩;show h;cases h
 |(n,s)::r,acc,x,c,h=>by rw[aX];split;apply ri ?_;rcases h with h|⟨j,o⟩;show .inl (by simp[h]);rcases aE.mp j with j|j;cases j;show .inl (by rw[o];simp);show .inr #[j,o];rename_i q;apply ri ?_;rcases h with h|⟨j,o⟩;show .inl h;rcases aE.mp j with j|j;cases j;show absurd rfl q;show .inr #[j,o]
universe a
def p6{l:L1}{x:Str}{c:VZ}(q:(x,c)∈l)(r:∀o,(x,o)∈l->o=c):l.lookup x=N' c:=by
 induction l with
 |nil=>cases q
 |cons p l s=>
  obtain⟨y,d⟩:=p;rw[ij];by_cases j:x=y;subst j;rw[beq_self_eq_true];rw[r d (by simp)];have:(x==y)=false:=by simp[j]
  rw[this];apply s ?_ λo h=>r o (by simp[h]);rcases aE.mp q with h|h;cases h;show absurd rfl j;show h
structure HC(X:Cx)(G:Gx)(f:F)(caps:d_)(scope:Scope)(ns:List (Nat×Str)):Prop where
 fst:ns.map (·.1)=caps
 snd:ns.map (·.2)=G.cs f
 SS:∀y∈scope.2,y.2=.free->y.1∈G.cs f
 has:∀x∈G.cs f,(x,Wr)∈scope.2
universe b
theorem ud:∀{o:d_} {cs:kS},Rel G Z B0 O B σ e H M->e.sH o=N' cs->∃vs,aA G Z B H cs vs/\∀(j i:Nat),o[j]?=N' i->∃v,vs[j]?=N' v/\σ[i]?=N' (N' v)
 |[],cs,R,h=>by simp![Ev.sH,aF]at h;subst h;show#[[],by simp[aA],λj i h=>by simp at h]
 |i::o,cs,R,h=>by
  rw[Ev.sH]at h;split at h;rename_i x xs r s;cases h;obtain⟨v,u,y⟩:=R.val i x r;obtain⟨vs,E,J⟩:=ud R s;apply#[v::vs,by simp![aA];show#[v,vs,S',y,E],λj L q=> ?_];cases j with
  |zero=>simp at q;subst q;show#[v,S',u]
  |succ j=>simpa using J j L (by simpa using q)
  cases h
universe a
def M_(C:HC X G f s scope ns)(M:Hd X σ ns H H')(r:aA G Z B H cs vs)(A:vs.length=s.length)(D:∀(j i:Nat),s[j]?=N' i->∃v,vs[j]?=N' v/\σ[i]?=N' (N' v)):oF H' (G.cs f) (aX X.env.4 scope.2 []) vs:=by
 have q:∀{x c},(x,c)∈aX X.env.4 scope.2 []->x∈G.cs f/\c=(X.env.4.lookup x).getD 0:=λ{x c} h=>by rcases fj h with h|⟨E,u⟩;cases h;show#[C.SS _ E S',u]
 have pl:∀{x},x∈G.cs f->∃i,(i,x)∈ns:=λ{x} h=>by rw[<-C.snd]at h;obtain⟨p,L,rfl⟩:=gm.mp h;show#[p.1,L]
 have J:∀{x c},(x,c)∈aX X.env.4 scope.2 []->X.env.4.lookup x=N' c:=λ{x c} h=>by obtain⟨E,u⟩:=q h;obtain⟨i,O⟩:=pl E;obtain⟨P,_,_,Q,_⟩:=M.at _ O;have Q:X.env.4.lookup x=N' P:=Q;rw[Q]at u|-;rw[u];rfl
 apply#[λx y c E u=> ?_,λx c h=>p6 h λP h'=>by rw[(q h).2,(q h').2],λx c h=>(q h).1,?_,λi x U=> ?_];obtain⟨i,O⟩:=pl (q E).1;obtain⟨j,V⟩:=pl (q u).1;show M.inj _ O _ V c (J E) (J u);have E:=congrArg W2 C.snd;have u:=congrArg W2 C.fst;rw[aB]at E u;lia;have Y:∃p,ns[i]?=N' p/\p.2=x:=by rw[<-C.snd,cV,bj]at U;show U
 obtain⟨p,L,rfl⟩:=Y;have R:s[i]?=N' p.1:=by rw[<-C.fst,cV,L];rfl
 obtain⟨v,E,u⟩:=D i p.1 R;obtain⟨c,K,o,T,F,_,I⟩:=M.at p (ka L);rw[u]at F;cases F;have S:(p.2,c)∈aX X.env.4 scope.2 []:=ri (.inr #[C.has _ (ka U),by rw[T];rfl]);show#[c,v,o,p6 S λP h'=>by rw[(q h').2,T];rfl,E,I]
universe b
def FX(C:HC X G f j scope ns)(k:G.j4 f=P')(l:(P,pos,G.cq f)∈G.tb)(w:∀t∈G.tb,t.1=P->t=(P,pos,G.cq f)) (R:Rel G Z B0 H0 B σ e H M)(A:e.sH j=N' u)(Y:Hd X σ ns H L)(m:Made L H1 a fd P pos (G.cq f))(T:∀cd,fd cd=G.DJ f (aX X.env.4 scope.2 []) ct doc cd):Sm G H H1/\Rep G Z B H1 (.j4 f u) (.ref a):=by
 obtain⟨vs,r,hv⟩:=ud R A;have F:Sm G H L:=Y.same.sm;have D:∃ps,L P=N' (.qK ps):=by rcases F.ta R.tab _ l with h|⟨_,h,_⟩<;>show#[_,h]
 obtain⟨ps,D⟩:=D;have O:∀{b o},L b=N' o->NT o->b≠P:=λ{b o} h n z=>by rw[z,D]at h;cases h;show n _ S'
 have K:Sm G L H1:=#[λb o h n=>m.keep b o h (O h n),λb V h=>by
  by_cases q:b=P;subst q;rcases m.tab with h|⟨_,h,_⟩<;>show#[_,h];show#[V,m.keep b _ h q],λhA t N=>by
  by_cases q:t.1=P;rw[w t N q];show m.tab;rcases hA t N with h|⟨U,s,y⟩;show .inl (m.keep _ _ h q);show .inr #[U,m.keep _ _ s q,m.keep _ _ y (O y (wt _))]]
 have I:=F.trans K;apply#[I,?_];simp![Rep];have Q:vs.length=j.length:=by
  have s:=congrArg W2 C.snd;have:∀{j:d_} {u:kS},e.sH j=N' u->u.length=j.length:=by
   intro j;induction j with
   |nil=>intro u h;simp![Ev.sH,aF]at h;subst h;rfl
   |cons i j ih=>
    intro u h;rw[Ev.sH]at h;split at h;rename_i x xs s y;cases h;simp[ih y];cases h
  rw[<-r.length];show this A
 have E:=M_ C Y r Q hv;obtain⟨U,W,d⟩:=m.fn;rw[T]at W;apply#[a,vs,S',#[k,_,ct,doc,U,W,d,#[E.inj,E.uniq,E.only,E.len,λi x J=> ?_],?_,?_,λx c g q=> ?_],r.same I];obtain⟨c,v,o,s,y,S⟩:=E.has i x J;show#[c,v,o,s,y,K.kp _ _ S (wu _ _)];intro q;obtain⟨o,h,_⟩:=F.uY (R.Hu a q);rw[m.new]at h;cases h;intro q;obtain⟨o,h,J⟩:=I.uY (R.Hu U q);rw[d]at h;cases h;show J _ S';have J:=E.only x c g;rw[<-C.snd]at J;obtain⟨p,hp,rfl⟩:=gm.mp J;obtain⟨c2,_,_,s,_,S,_⟩:=Y.at p hp;have:c=c2:=by rcases fj g with h|⟨_,h⟩;cases h;rw[h,s];rfl
 subst this;show R.fresh S q
universe a
def OI(R:Rel G Z B0 r B σ e H M)(q:DQ G Z B0 r Dn (.rt x fr M))(J:Sm G H H1)(L:Rep G Z B H1 x v)(O:fr=P'->Ua H v):Dn.rt v H1:=by
 have s:=R.same J;apply q v H1 s.ext s.iJ (L.keep λb o h n P=>#[h,λz=>P (R.B0B b z)]) λQ=> ?_;obtain⟨a,rfl,j⟩:=O Q;apply#[a,S',?_];cases u:r a with
 |none=>rfl
 |some y=>
  by_cases E:a∈Z.ma;show absurd (R.J0 a E) (R.fresh j);rcases y.yM with n|⟨ps,rfl⟩;have:=R.ext.kp a y u n E;rw[j]at this;cases this;obtain⟨_,this⟩:=R.ext.tb a ps u;rw[j]at this;cases this
def Mo.nX(m:Mo G T cl gv k X)(z):Mo G T cl gv k (X.frozen z):=#[m.K,m.mg,m.calm,m.room,m.nd,m.Qk,m.ar,m.Ah,m.met,m.nme,m.xw,m.wz,m.Hv,m.MS,m.wA,m.T_,m.gi]
structure DS(X:Cx)(z:Str->Bool)(ns:List (Nat×Str)):Prop where
 z:∀p∈ns,z p.2=P'
 f:∀p∈ns,X.fn p.2=P'
 i:∀p∈ns,X.N[p.1]?=N' p.2
 k:∀p∈ns,X.env.1.2.lookup p.2=N' .cell
 nd:(ns.map (·.2)).Nodup
def yT(C:HC X G f o scope ns)(R:Rel G Z B0 y B σ e H M)(q:e.sH o=N' cs):∀p∈ns,∃v,σ[p.1]?=N' (N' v):=λp r=>by obtain⟨vs,_,s⟩:=ud R q;obtain⟨j,u⟩:=tH r;obtain⟨v,_,h⟩:=s j p.1 (by rw[<-C.fst,cV,u];rfl);show#[v,h]
universe b
def QM{i:Nat}{f:F}{j:d_}{r:IS}{name:Str}{params:Arguments}{body:TyM}{scope:Scope}{pos:Pos}{c P:VZ}{s:TyM}{z:Str->Bool}{ns:List (Nat×Str)}(m:Mo G T cl gv k X)(K:∀x,X.fz x=Q')(fz:DS X z ns)(C:HC X G f j scope ns)(W:G.j4 f=P') (D:WX X.env name name=G.cq f)(O:∀u ct doc cd,G.DJ f u ct doc cd=fnX name (G.cq f) params body scope u .none .none doc ((X.mg "__name__").getD .none) O' cd ct)(V:(P,pos,G.cq f)∈G.tb)(b:∀t∈G.tb,t.1=P->t=(P,pos,G.cq f)) (Q:params.defaults=[])(U:params.kw_defaults=[])(d:YZ params O' X.env=[])(E:∀y∈scope.2,y.2=.free->∃c,X.env.4.lookup y.1=N' c)(J:X.env.code=.ref c)(g:Y9 X.base c P)(l:BMain X.mg X.base)(n:X.N[i]?=N' name)(p:Loc X.env.1 name) (v:(X.fn name=P'/\z name=Q')\/X.env.1.2.lookup name=N' .local)(w:gA (X.frozen z) s (tS G T cl r)):PB X (.FunctionDef name params body [] O' [] scope O' name pos::s) (tS G T cl (.pT i f j r)):=by have h1:=PB.cons (P_ (X:=X.frozen z) (name:=name) (params:=params) (body:=body) (scope:=scope) (pos:=pos) (i:=i) Q U d E J g l m.nd n p v) (PB.of w);apply(PB.freeze h1 K fz.z fz.f fz.i fz.k fz.nd).weak λDn σ H #[Z,B0,H0,B,e,M,o,R,h,q]=> ?_;rw[BR]at h;split at h;rename_i cs I;split at h;rename_i Y;apply#[yT C R I,λS A=>#[?_,λa ct doc H1 L=> ?_]];show He S P pos (WX X.env name name);rw[D];show(A.same.sm (G:=G)).ta R.tab _ V;have L:Made S H1 a (λcd=>fnX name (WX X.env name name) params body scope (aX X.env.4 scope.2 []) .none .none doc ((X.mg "__name__").getD .none) O' cd ct) P pos (WX X.env name name):=L;rw[D]at L;obtain⟨s1,r1⟩:=FX (ct:=ct) (doc:=doc) C W V b R I A L λcd=>(O _ _ _ _).symm;show#[Z,B0,H0,B,_,M,o,(R.same s1).put Y r1,h,q];cases h;cases h
def J6(m:Mo G T cl gv k X)(hX:∀x,X.fz x=Q')(fz:DS X z ns)(C:HC X G f J scope ns)(hG:G.j4 f=P') (W:X.env.qual++"<lambda>"=G.cq f)(I:∀r ct doc cd,G.DJ f r ct doc cd=Xb "<lambda>" (G.cq f) params body scope r ((X.mg "__name__").getD .none) cd ct)(b:(P,j,G.cq f)∈G.tb)(hU:∀t∈G.tb,t.1=P->t=(P,j,G.cq f)) (L:YW params X.env=([],[]))(s:∀y∈scope.2,y.2=.free->∃c,X.env.4.lookup y.1=N' c)(u:X.env.code=.ref c)(hC:Y9 X.base c P)(hB:BMain X.mg X.base) (E:G.glob g=P')(hg:Gl (X.frozen z) (G.nm g))(S:Y.all notStar=P')(A:PA (X.frozen z) Y (DL G T cl as)):PB X [.Return (N' (.Call (.Name (G.nm g) p) (.Lambda params body scope j::Y) [] cp)) O] (tS G T cl (.ret (.call g (.cons (.lam f J) as)))):=by
 obtain⟨h1,h2,h3⟩:=m.Qk g E;obtain⟨h4,h5⟩:=m.Ah g (.inl E);have hl:=P9 (X:=X.frozen z) (params:=params) (body:=body) (scope:=scope) (pos:=j) L s u hC hB;have d:V2 (.Lambda params body scope j::Y) (X.frozen z).env=(Q',Wo (.Lambda params body scope j) (X.frozen z).env)::V2 Y (X.frozen z).env:=ao S';have h6:=kb (pos:=O) (gr (X:=X.frozen z) (p:=p) (pos:=cp) (dvs:=[]) h4 (m.nX z).room hg h1 h2 h5 .nil eQ (aC hl A d) h3 d (fD S));apply(PB.freeze (PB.of (dD h6)) hX fz.z fz.f fz.i fz.k fz.nd).weak λDn σ H #[Z,B0,H0,B,e,M,o,R,h,q]=> ?_;rw[vo]at h;split at h;rename_i x fr F;cases h;rw[pV]at F;split at F;rename_i xs D;rw[lR,E9]at D;split at D;rename_i y f1 K l N;cases D;simp![bj,aH]at l;obtain⟨n,Q,rfl,rfl⟩:=l;apply#[yT C R Q,λw hz=>#[?_,λa ct H1 V=> ?_]];show He w P j (X.env.qual++"<lambda>");rw[W];show(hz.same.sm (G:=G)).ta R.tab _ b;have V:Made w H1 a (λcd=>Xb "<lambda>" (X.env.qual++"<lambda>") params body scope (aX X.env.4 scope.2 []) ((X.mg "__name__").getD .none) cd ct) P j (X.env.qual++"<lambda>"):=V;rw[W]at V;obtain⟨s1,r1⟩:=FX (ct:=ct) (doc:=.none) C hG b hU R Q hz V λcd=>(I _ _ _ _).symm;apply#[Z,B0,H0,B,e,M,K,R.same s1,N,λvs H2 s2 r2=> ?_];have hc:cl g (.j4 f n::K) M=N' (x,fr,M):=lS F;have U:aA G Z B H2 (.j4 f n::K) (.ref a::vs):=by simp![aA];show#[_,vs,S',r1.same s2,r2]
 apply sO R (s1.trans s2) ?_ U hc λv H3 s3 r3 n3=>OI R q s3 r3 n3;rw[<-U.length];show m.ar g _ M _ hc (.inl E);cases D;cases F;cases h
def U1{x j pos pos'}{o:TyM}{r:IS}(h:PB X o (tS G T cl r)):PB X (.Expr (.Constant (.str x) j pos) pos'::o) (tS G T cl r):=(PB.cons IA h).weak λDn σ H q=>q
def U2{i:Nat}{x:Str}{a:IE}{r:IS}{o:Expr}{j:TyM}{p pos:Pos}(m:Mo G T cl gv k X)(s:X.N[i]?=N' x)(u:Loc X.env.1 x)(y:(X.fn x=P'/\X.fz x=Q')\/X.env.1.2.lookup x=N' .local) (B:Ws o (N' (.Name x p)) pos.line X.env=pure Q')(E:PE X o (tI G T cl a))(J:PB X j (tS G T cl r)):PB X (.Assign [.Name x p] o pos::j) (tS G T cl (.set i a r)):=(PB.cons (kc m.nd s u E B y) J).weak λDn σ H h=>As (K:=tS G T cl r) h λ_ _ q=>q
def J7(h:t9 T cl e M (.xI a b c)=N' rs):∃xs q j r o s,ay T cl e M a=N' (.lst xs,q)/\ay T cl e M b=N' (.lst j,r)/\ay T cl e M c=N' (.lst o,s)/\rs=Wj (λx (y:SV×SV)=>[x,y.1,y.2]) xs (j.zip o):=by rw[i8]at h;split at h;rename_i xs q j r o s u B E;cases h;show#[xs,q,j,r,o,s,u,B,E,S'];cases h
universe a
def HD(Q:a∉B)(g:H1 a=N' (.lst vs))(r:aA G Z B H1 xs vs)(s:b∉B)(U:H1 b=N' (.lst ws))(L:aA G Z B H1 O ws)(E:c∉B)(X:H1 c=N' (.lst us))(M:aA G Z B H1 zs us):Walk G Z B P' (Qe K a b c) H1 (Wj (λx (y:SV×SV)=>[x,y.1,y.2]) xs (O.zip zs)):=by
 have A:∀{i:Nat} {x:kS},(Wj (λx (y:SV×SV)=>[x,y.1,y.2]) xs (O.zip zs))[i]?=N' x->∃p q t,xs[i]?=N' p/\O[i]?=N' q/\zs[i]?=N' t/\x=[p,q,t]:=λ{i x} j=>by
  rw[zM]at j;cases J:xs[i]? with
  |none=>simp[J]at j
  |some p=>
   cases o:(O.zip zs)[i]? with
   |none=>simp[J,o]at j
   |some N=>
    simp![J,o,aF]at j;rw[List.getElem?_zip_eq_some]at o;show#[p,N.1,N.2,S',o.1,o.2,j.symm]
 apply#[λW H h=>#[vs,ws,us,cQ.of (h.lst Q g r).1,cQ.of (h.lst s U L).1,cQ.of (h.lst E X M).1,?_],λi x W H j h=> ?_,λi x W H v H' j h hd k=> ?_];rw[Zn,List.length_zip,<-r.length,<-L.length,<-M.length];lia;obtain⟨p,q,t,J,o,Y,rfl⟩:=A j;obtain⟨v,T,_⟩:=r.get J;obtain⟨w,C,_⟩:=L.get o;obtain⟨u,F,_⟩:=M.get Y;show#[vs,ws,us,v,w,u,cQ.of (h.lst Q g r).1,cQ.of (h.lst s U L).1,cQ.of (h.lst E X M).1,T,C,F];obtain⟨t,u1,u2,u3,rfl,P,rfl,l,m,n⟩:=k;obtain⟨p,q,t',J,o,Y,rfl⟩:=A j;obtain⟨g',z⟩:=h.lst Q g r;obtain⟨D,V⟩:=h.lst s U L;obtain⟨R,I⟩:=h.lst E X M;obtain⟨v,T,rv⟩:=z.get J;obtain⟨w,C,S⟩:=V.get o;obtain⟨u,F,ru⟩:=I.get Y;have d:=l vs (cQ.of g');have e:=m ws (cQ.of D);have f:=n us (cQ.of R);rw[T]at d;rw[C]at e;rw[F]at f;cases d;cases e;cases f;apply#[(ph.new P).sm,?_];rw[ae S'];apply#[t,_,S',aw,?_];simp![aA];show#[_,_,S',rv.same (ph.new P).sm,_,_,S',S.same (ph.new P).sm,_,_,S',ru.same (ph.new P).sm,S']
def QN(A:Bi X)(K:Gl X "zip")(V:notStar ea=P')(j:notStar eb=P')(o:notStar ec=P')(N:PE X ea (tI G T cl a))(W:PE X eb (tI G T cl b))(d:PE X ec (tI G T cl c)):PI X (.Tuple elts kk za) (.Call (.Name "zip" p) [ea,eb,ec] [] pos) (tW G T cl P' (.xI a b c)):=(My K A.zip (pa3 V j o N W d) (ao V) (fD (by simp[j,o]))).weak λσ H Q J=>by obtain⟨Z,L,O,B,e,M,rs,R,h,q⟩:=J;obtain⟨xs,f,ys,i,zs,k,l,m,n,rfl⟩:=J7 h;apply#[Z,L,O,B,e,M,_,f,R,l,λv H1 P t _=>#[Z,L,O,B,e,M,_,i,R.same P,m,λw H2 U Y _=>#[Z,L,O,B,e,M,_,k,(R.same P).same U,n,λu x C E _=> ?_]]];have s:=t.same (U.trans C);have y:=Y.same C;simp![Rep]at s y E;obtain⟨z,vs,rfl,nb,g,r⟩:=s;obtain⟨p2,ws,rfl,F,I,Y⟩:=y;obtain⟨p3,us,rfl,D,S,E⟩:=E;show#[z,p2,p3,vs,ws,us,S',cQ.of g,cQ.of I,cQ.of S,q _ x ((P.trans U).trans C) (HD nb g r F I Y D S E)]
section
variable {G:Gx} {T:kT} {defs:F->Df} {n:Nat} {Z:Zx} {B B' B0:mw} {H H0 H1 H':Hp} {σ σ':L2.St} {e e':Ev} {M M':gf}
def _root_.L2.PB.vj(h:PB X.vj st t):PB X st t:=λs σ H D I j=>
 eM (h s σ H D (I.uT _) j) (λ_ _ #[z,q]=>#[z,SP.m3 (X:=X.frozen z) (E:=λ_ _=>False) q]) λ_ _ z=>V8 z
def entry(P:N.length=(defs f).slots)(s:(defs f).np<=(defs f).slots)(Q:xs.length=(defs f).np)(u:∀b∈B,Std H b)(E:∀b∈Z.ma,b∈B)(r:aA G Z B H xs vs)(J:kU G Z H M)(L:TabAt G H):Rel G Z B H B (L2.start N vs) #[xs.map N'++VY ((defs f).slots-(defs f).np) O',O'] H M where
 len:=by have q:=r.length;unfold L2.start;simp![en,aB,n8];lia
 uY:=u
 ext:=kX.refl H
 tab:=L
 iJ:=J
 wx:=E
 val:=λi x h=>by
  unfold Ev.get at h;by_cases j:i<xs.length;rw[uC (by simpa using j),cV]at h;cases o:xs[i]? with
  |none=>rw[o]at h;cases h
  |some y=>
   rw[o]at h;cases h;obtain⟨v,q,O⟩:=r.get o;apply#[v,?_,O];unfold L2.start;rw[uC (by simpa [<-r.length] using j),cV,q];rfl
  rw[vC (by simpa using j),tF]at h;split at h<;>cases h
 no:=λ_=>rfl
 on:=λi xs h=>nomatch h
 ow:=λi xs h=>nomatch h
universe b
def Au(E:N.length=(defs f).slots)(s:(defs f).np<=(defs f).slots)(h:uZ G (bt T defs (n+1)) f vs H Q E0):tS G T (bt T defs n) (defs f).body {nx:=λ_ H'=>Q .bQ H',rt:=Q} (L2.start N vs) H:=by obtain⟨C,Z,B,xs,M,x,fr,M',J,L,r,O,P,j,q⟩:=h;have j:sI T (bt T defs n) (defs f) xs M=N' (x,fr,M'):=j;unfold sI at j;split at j;rename_i o;split at j;rename_i e' X y;cases j;apply#[Z,B,H,B,_,M,_,entry E s o J L r O P,y,λσ' B' H' U=>q _ H' U.ext (by simp[Rep]) U.iJ λz=>by cases z];rename_i F Y X y;cases j;show#[Z,B,H,B,_,M,_,entry E s o J L r O P,y,λu H' a b c d=>q u H' a c b d];cases j;cases j
def QO(u:N.length=(defs f).slots)(j:(defs f).np<=(defs f).slots)(y:(defs f).body=.ret a)(h:uZ G (bt T defs (n+1)) f vs H Q E0):tI G T (bt T defs n) a (L2.start N vs) H Q:=by obtain⟨Z,B0,H0,B,e,M,o,R,h,q⟩:=Au u j h;rw[y,vo]at h;split at h;rename_i x fr E;cases h;show#[Z,B0,H0,B,e,M,x,fr,R,E,λv H' s r J=>OI R q s r J];cases h
universe a
def QP(O:xF K x qual st (G.fa f) (G.fd f))(S:fi N (G.ps f) (aG st))(U:N.length=(defs f).slots)(u:(defs f).np<=(defs f).slots) (q:∀(o) (A) (j) (s) (H) (E:XK),(G.fd f).code=o->fH n (A.deeper (PyProof.Rows.envOfC qual (aG st) s.1.1.size (G.fa f) o))->PB (pI lM P w K mg base N qual (aG st) (G.fa f) o A j s H E).vj (b9 st) (tS G T (bt T defs n) (defs f).body)):gX P w K mg base lM (n+1) (G.fa f) (G.fd f) (G.ps f) (uZ G (bt T defs (n+1)) f):=by obtain⟨C,F,D,doc,pm,V,o,ct,X,r,L,y⟩:=O.ex;rw[r]at L|-;show Qa L y S (λvs H Q E h=>h.1) λA j s H vs Q E Y J=>#[_,(q o A j s H E (by rw[r]) Y).vj,Au U u J]
def U3:gX P w K mg base lM 0 (G.fa f) (G.fd f) (G.ps f) (uZ G (bt T defs 0) f):=#[λvs H Q E h=>h.1,λA j s H q us vs Q E y J L r o=>by obtain⟨_,_,_,_,_,_,_,_,_,_,_,_,_,u,_⟩:=o;simp[bt]at u]
def Na(F:G.j4 f=P')(y:∀h ct doc cd,G.DJ f h ct doc cd=fnX name (G.cq f) params body scope h .none .none doc pm O' cd ct)(S:lZ N (G.ps f|>.take ((G.ps f).length-(G.cs f).length)) (G.cs f) scope)(U:(G.ps f).take ((G.ps f).length-(G.cs f).length)++G.cs f=G.ps f) (X:N.length=(defs f).slots)(J:(defs f).np<=(defs f).slots) (Y:∀h ct doc cd us,us.length=(G.ps f).length-(G.cs f).length->W8 (fnX name (G.cq f) params body scope h .none .none doc pm O' cd ct) #[us,[]]=pure (((G.ps f).take ((G.ps f).length-(G.cs f).length)).zip us)) (u:∀(a:VZ) (cd:Value) (h:L1) (A:WK) (j:List Env) (s:Shared) (H:Hp) (o:List V),fH n (A.deeper (jA (G.cq f) scope s.1.1.size a cd h))->gA (qN lM P w K mg base N (G.cq f) scope a cd h A j s H E0).vj body (tS G T (bt T defs n) (defs f).body)):∀(A) (j) (s) (H) (us) (vs o) (a:VZ) (Q:VK),fH (n+1) A->rd P w K mg base A j s H->nJ G [] H a f o->Vals vs us->uZ G (bt T defs (n+1)) f (vs++o) H Q E0->WW (V3 P w) A (.call (.ref a) #[us,[]]) (CR lM j P w H s Q E0) s:=by
 intro A j s H us vs o a Q L C ⟨_,h,ct,doc,c',h1,h2,h3,_⟩ r hsp;have O:vs.length=((G.ps f).take ((G.ps f).length-(G.cs f).length)).length:=by have q:=hsp.1;have D:=h3.len;rw[en]at q;rw[km];lia
 rw[y]at h1;show Hh (CX:=lM) (E:=E0) S L C h3 h1 h2 O r (Y _ _ _ _ _ (by rw[<-r.length,O,km];lia)) #[_,(u a _ h A j s H o (L.deeper _)).vj,Au X J hsp]
def Nb(D:G.j4 f=P')(y:∀h ct doc cd,G.DJ f h ct doc cd=Xb name (G.cq f) params body scope h pm cd ct)(S:lZ N (G.ps f|>.take ((G.ps f).length-(G.cs f).length)) (G.cs f) scope) (X:N.length=(defs f).slots)(J:(defs f).np<=(defs f).slots)(L:(defs f).body=.ret Y) (C:∀h ct cd us,us.length=(G.ps f).length-(G.cs f).length->W8 (Xb name (G.cq f) params body scope h pm cd ct) #[us,[]]=pure (((G.ps f).take ((G.ps f).length-(G.cs f).length)).zip us)) (u:∀(a:VZ) (cd:Value) (h:L1) (A:WK) (j:List Env) (s:Shared) (H:Hp) (o:List V),fH n (A.deeper (jA (G.cq f) scope s.1.1.size a cd h))->PE (qN lM P w K mg base N (G.cq f) scope a cd h A j s H E0).vj body (tI G T (bt T defs n) Y)):∀(A) (j) (s) (H) (us) (vs o) (a:VZ) (Q:VK),fH (n+1) A->rd P w K mg base A j s H->nJ G [] H a f o->Vals vs us->uZ G (bt T defs (n+1)) f (vs++o) H Q E0->WW (V3 P w) A (.call (.ref a) #[us,[]]) (CR lM j P w H s Q E0) s:=by
 intro A j s H us vs o a Q O F ⟨_,h,ct,doc,c',h1,h2,h3,_⟩ r hsp;have U:vs.length=((G.ps f).take ((G.ps f).length-(G.cs f).length)).length:=by have q:=hsp.1;have R:=h3.len;rw[en]at q;rw[km];lia
 rw[y]at h1;show Hg (CX:=lM) (E:=E0) S O F h3 h1 h2 U r (C _ _ _ _ (by rw[<-r.length,U,km];lia)) #[_,(u a _ h A j s H o (O.deeper _)).vj,QO X J L hsp]
end
end Lw
namespace Lw
open Sg40
abbrev Vl:=SV
abbrev Ex:=IE
abbrev St:=IS
noncomputable def pkF{c:Type}(l:List (List c))(f:F)(d:c):c:=(l.getD (f.ix/15) []).getD (f.ix % 15) d
section
local macro_rules|`(($n:num))=>`(IE.v $n)
local macro_rules|`($a+$b)=>`(IE.bin .add $a $b)
local macro_rules|`($a-$b)=>`(IE.bin .sub $a $b)
local macro_rules|`($a* $b)=>`(IE.bin .mul $a $b)
local macro_rules|`($a/$b)=>`(IE.bin .fdiv $a $b)
local macro_rules|`($a%$b)=>`(IE.bin .mod $a $b)
local macro_rules|`($a<<<$b)=>`(IE.bin .shl $a $b)
local macro_rules|`($a>>>$b)=>`(IE.bin .shr $a $b)
local macro_rules|`($a&&&$b)=>`(IE.bin .and $a $b)
local macro_rules|`($a|||$b)=>`(IE.bin .or $a $b)
local macro_rules|`($a^^^$b)=>`(IE.bin .xor $a $b)
local macro_rules|`($a=$b)=>`(IE.cmp .eq $a $b)
local macro_rules|`($a != $b)=>`(IE.cmp .ne $a $b)
local macro_rules|`($a<$b)=>`(IE.cmp .lt $a $b)
local macro_rules|`($a<=$b)=>`(IE.cmp .le $a $b)
local macro_rules|`($a>$b)=>`(IE.cmp .gt $a $b)
local macro_rules|`($a>=$b)=>`(IE.cmp .ge $a $b)
local macro_rules|`(($n:num).$f:ident)=>`(IE.Jg (IE.v $n) .$f)
local macro_rules|`(#[])=>`(List.nil)
local macro_rules|`([$n:num])=>`(IE.int $n)
local macro_rules|`(#[$a])=>`(IE.cons $a IE.nil)|`(#[$a,$b,*])=>`(IE.cons $a #[$b,*])
local macro_rules|`(#[$n:num])=>`(List.cons $n List.nil)|`(#[$n:num,$b,*])=>`(List.cons $n #[$b,*])
local macro_rules|`(.$f:ident #[$a,*])=>`(IE.call .$f #[$a,*])
local macro_rules|`(.$f:ident ($n:num) #[$a,*])=>`(IE.eP .$f (IE.v $n) #[$a,*])
local macro_rules|`($n:num #[$a,*])=>`(IE.sF $n #[$a,*])
noncomputable def defs(f:F):Df:=pkF ([[⟨1,1,.ret (([1]<<<(0))-[1])⟩,⟨2,2,.ret ((0)&&&(.ones #[(1)]))⟩,⟨2,2,.ret (.qG ((0)>>>((1)-[1])) ((0)-([1]<<<(1))) (0))⟩,⟨2,2,.ret (.max2 [0] (.min2 (0) (.ones #[(1)])))⟩,⟨2,3,.set 2 (.ones #[((1)-[1])]) (.ret (.cut #[.max2 ((.neg (2))-[1]) (.min2 (0) (2)),(1)]))⟩,⟨1,2,.set 1 [0] (.SW 300 (0) (.aug 0 .and ((0)-[1]) (.aug 1 .add [1] .nil)) (.ret (1)))⟩,⟨1,4,.set 1 [0] (.iH #[2,3] (.enum (0)) (.ite (3) (.aug 1 .or ([1]<<<(2)) .nil) .nil .nil) (.ret (1)))⟩,⟨2,2,.ret ((((0)>>>(1))&&&[1])=[1])⟩,⟨2,6,.set 2 (.ones #[(1)]) (.own 3 (.list .nil) (.iH #[4] (.seq (0)) (.iH #[5] (.rg [0] [64] (1)) (.app 3 (((4)>>>(5))&&&(2)) .nil) .nil) (.xK 3)))⟩,⟨2,7,.set 2 ([64]/(1)) (.own 3 (.list .nil) (.iH #[4] (.rg [0] (.len (0)) (2)) (.set 5 [0] (.iH #[6] (.rev (.sl (0) (4) ((4)+(2)))) (.set 5 (((5)<<<(1))|||(6)) .nil) (.app 3 (5) .nil))) (.xK 3)))⟩,⟨3,6,.set 3 ((.len (0))/[4]) (.own 4 (.list .nil) (.iH #[5] (.rg [0] (.len (0)) (3)) (.ext 4 (2 #[.sl (0) (5) ((5)+(3)),.sl (1) (5) ((5)+(3))]) .nil) (.xK 4)))⟩,⟨3,9,.set 3 (.aa (2) #[(1).d,(1).k]) (.set 4 (.aa (2) #[(1).a,(1).k]) (.set 5 (.aa (2) #[(1).b,(1).k]) (.ret (.lc #[6,7,8] (.xI (3) (4) (5)) (0 #[(6),(7),(8)])))))⟩,⟨4,4,.ret (.cut #[(((((1)<<<(3))|||(2))<<<((0)% (3)))>>>(3)),(3)])⟩,⟨2,3,.set 2 (0).k (.ret (.et #[.lam .gB #[2],(0),(1)]))⟩,⟨4,4,.ret (.cut #[((((2)<<<(3))|||(1))>>>((0)% (3))),(3)])⟩],[⟨2,3,.set 2 (0).k (.ret (.et #[.lam .fR #[2],(0),(1)]))⟩,⟨5,10,.set 5 [0] (.iH #[6] (.mx [8]) (.ite (.cA #[(3).m,(6)]) (.set 7 (.qG ((6)&&&[4]) (0) ((0)^^^(4))) (.set 8 (.qG ((6)&&&[2]) (1) ((1)^^^(4))) (.set 9 (.qG ((6)&&&[1]) (2) ((2)^^^(4))) (.aug 5 .or (((7)&&&(8))&&&(9)) .nil)))) .nil .nil) (.ret (5)))⟩,⟨2,4,.set 2 (.ones #[(0).k]) (.pT 3 .bX #[0,2] (.ret (.et #[(3),(0),(1)])))⟩,⟨2,6,.set 2 (.a0 (1) #[(0).m]) (.set 3 (.aa (1) #[(0).a,(0).k]) (.set 4 (.aa (1) #[(0).b,(0).k]) (.ret (.lc #[5] (.mx (0).n) (.qG (.cA #[(2),(5)]) (.ix (4) (5)) (.ix (3) (5)))))))⟩,⟨2,2,.ret ((IE.list #[.cut #[.aL (1) #[(0).b],(0).k]])*(0).n)⟩,⟨2,2,.ret ((IE.list #[.cut #[.a0 (1) #[(0).b],(0).n]])*(0).n)⟩,⟨2,4,.set 2 (.aL (1) #[(0).b]) (.ret (.lc #[3] (.mx (0).n) (.cut #[((2)+((3)*(0).z)),(0).k])))⟩,⟨2,4,.set 2 (.a0 (1) #[(0).b]) (.ret (.lc #[3] (.mx (0).n) (.qG (.cA #[(2),(3)]) (.ones #[(0).k]) [0])))⟩,⟨1,1,.ret (.iZ .uH (0))⟩,⟨3,3,.ret ((0)&&&(1))⟩,⟨3,3,.ret ((0)|||(1))⟩,⟨3,3,.ret ((0)^^^(1))⟩,⟨3,3,.ret (.inv ((0)^^^(1)))⟩,⟨3,3,.ret ((.inv (0))&&&(1))⟩,⟨3,3,.ret (.inv (0))⟩],[⟨3,3,.ret ((0)+(1))⟩,⟨3,3,.ret ((0)<<<((2).m% [256]))⟩,⟨3,3,.ret ((0)>>>((2).m% [256]))⟩,⟨3,4,.set 3 ((2).k/[2]) (.ret (((.cut #[(0),(3)])<<<(3))|||(.cut #[(1),(3)])))⟩,⟨3,3,.ret (.cut #[.a0 (2) #[(0)],(1).k])⟩,⟨2,4,.set 2 (.iZ .a8 (0).operation) (.set 3 (2 #[.ee #[(0).a,(0),(1)],.ee #[(0).b,(0),(1)],(0)]) (.ex .cj (1) #[(0).d,.cut #[(3),(0).k]] .nil))⟩,⟨2,3,.ret (.fk #[.lc #[2] (.seq (0)) (.Im (2) (1))])⟩,⟨2,5,.set 2 (.aa (1) #[(0).a,(0).k]) (.set 3 (.aa (1) #[(0).b,(0).k]) (.set 4 (((0).d/[2])*[2]) (.ex .cj (1) #[(4),.iy #[(2),(3)]] (.ex .cj (1) #[((4)+[1]),.iy #[(3),(2)]] .nil))))⟩,⟨2,2,.ex .cN (1) #[(0).d,.ee #[(0).a,(0),(1)]] .nil⟩,⟨2,2,.ex .cj (1) #[(0).d,.cut #[.aL (1) #[(0).a],(0).k]] .nil⟩,⟨2,3,.set 2 ((.ee #[(0).a,(0),(1)])|||(.ee #[(0).b,(0),(1)])) (.ex .ia (1) #[((2)=[0]),((2)=(.ones #[(0).k]))] .nil)⟩,⟨2,4,.set 2 (.ee #[(0).a,(0),(1)]) (.set 3 (.ee #[(0).b,(0),(1)]) (.ex .ia (1) #[(((2)&&&(3))=[0]),(((.inv (2))&&&(3))=[0])] .nil))⟩,⟨2,3,.set 2 (.ee #[(0).a,(0),(1)]) (.ex .cN (1) #[(0).d,.qG (2) ((.pS ((2)&&&(.neg (2))))-[1]) (0).k] .nil)⟩,⟨2,2,.ex .cN (1) #[(0).d,.jh #[.ee #[(0).a,(0),(1)]]] .nil⟩,⟨1,1,.ret (.qG (.inD (0) .a8) (.fn .eU) (.iZ .wd (0)))⟩],[⟨2,6,.set 2 (.a0 (1) #[(0).g]) (.set 3 (.aa (1) #[(0).a,(0).k]) (.set 4 (.pq #[5] (.mx (0).n) (.cA #[(2),(5)]) (.ix (3) (5))) (.ex .gO (1) #[(0).d,((4)+(.LP (.jO (1) #[(0),(0).k]) (.len (4))))] .nil)))⟩,⟨2,2,.ex .cN (1) #[(0).d,.ix (.aa (1) #[(0).a,(0).k]) ((0).m% (0).n)] .nil⟩,⟨2,3,.own 2 (.aa (1) #[(0).d,(0).k]) (.put 2 ((0).m% (0).n) (.cut #[.aL (1) #[(0).a],(0).k]) (.nX 2 (.ex .gO (1) #[(0).d,(2)] .nil)))⟩,⟨1,1,.ret (.iZ .uI (0))⟩,⟨3,3,.ret (.cut #[((0)+(1)),(2)])⟩,⟨3,3,.ret (.cut #[((0)-(1)),(2)])⟩,⟨3,3,.ret (.cut #[((0)*(1)),(2)])⟩,⟨3,3,.ret (((0)*(1))>>>(2))⟩,⟨3,3,.ret (.cut #[(((.signed #[(0),(2)])*(.signed #[(1),(2)]))>>>(2)),(2)])⟩,⟨3,3,.ret ((((0)+(1))+[1])/[2])⟩,⟨3,3,.ret (.abs ((0)-(1)))⟩,⟨3,3,.ret (.min2 (0) (1))⟩,⟨3,3,.ret (.max2 (0) (1))⟩,⟨3,3,.ret (.cut #[.min2 (.signed #[(0),(2)]) (.signed #[(1),(2)]),(2)])⟩,⟨3,3,.ret (.cut #[.max2 (.signed #[(0),(2)]) (.signed #[(1),(2)]),(2)])⟩],[⟨3,3,.ret (.cm #[((.signed #[(0),(2)])+(.signed #[(1),(2)])),(2)])⟩,⟨3,3,.ret (.held #[((0)+(1)),(2)])⟩,⟨3,3,.ret (.cm #[((.signed #[(0),(2)])-(.signed #[(1),(2)])),(2)])⟩,⟨3,3,.ret (.held #[((0)-(1)),(2)])⟩,⟨3,3,.ret ((0)&&&(1))⟩,⟨3,3,.ret ((0)|||(1))⟩,⟨3,3,.ret ((0)^^^(1))⟩,⟨3,3,.ret ((.cut #[.inv (0),(2)])&&&(1))⟩,⟨3,3,.ret (.qG ((1)>=(2)) [0] (.cut #[((0)<<<(1)),(2)]))⟩,⟨3,3,.ret (.qG ((1)>=(2)) [0] ((0)>>>(1)))⟩,⟨3,3,.ret (.cut #[((.signed #[(0),(2)])>>>(.min2 (1) ((2)-[1]))),(2)])⟩,⟨3,4,.set 3 ((1)% (2)) (.ret (.cut #[(((0)<<<(3))|||((0)>>>((2)-(3)))),(2)]))⟩,⟨3,4,.set 3 ((1)% (2)) (.ret (.cut #[(((0)>>>(3))|||((0)<<<((2)-(3)))),(2)]))⟩,⟨3,3,.ret (.abs (.signed #[(0),(2)]))⟩,⟨3,3,.ret (.cut #[.neg (0),(2)])⟩],[⟨3,3,.ite ((1)=[0]) (.ret [0]) .nil (.ret (.qG ((.signed #[(1),(2)])>[0]) (0) (.cut #[.neg (0),(2)])))⟩,⟨3,3,.ret (.jh #[(0)])⟩,⟨3,3,.ret ((2)-(.pS (0)))⟩,⟨3,4,.set 3 (((.signed #[(0),(2)])*(.signed #[(1),(2)]))>>>((2)-[2])) (.ret (.cut #[(((3)+[1])>>>[1]),(2)]))⟩,⟨1,1,.ret (.iZ .iE (0))⟩,⟨3,7,.set 3 (.aa (2) #[(1).a,(1).k]) (.set 4 (.aa (2) #[(1).b,(1).k]) (.ret (.lc #[5,6] (.zip2 (3) (4)) (0 #[(5),(6),(1).k]))))⟩,⟨2,3,.ret (.lc #[2] (.rg [0] (.len (0)) (1)) (.sum (.sl (0) (2) ((2)+(1)))))⟩,⟨2,4,.ret (.lc #[2,3] (.zip2 (0) (1)) (.abs ((2)-(3))))⟩,⟨2,2,.ret (.c6 #[.lP #[.aa (1) #[(0).a,[8]],.aa (1) #[(0).b,[8]]],[8]])⟩,⟨4,6,.set 4 (.sl (1) (3) ((3)+[4])) (.ret (.lc #[5] (.mx [8]) (.sum (.lP #[.sl (0) ((2)+(5)) (((2)+(5))+[4]),(4)]))))⟩,⟨2,5,.set 2 ((((0).m/[4])% [2])*[4]) (.set 3 (((0).m% [4])*[4]) (.pT 4 .dv #[2,3] (.ret (.fQ #[.aa (1) #[(0).a,[8]],.aa (1) #[(0).b,[8]],(4)]))))⟩,⟨2,3,.set 2 (.Hm (0)) (.ret (IE.list #[((2)|||((.index (0) (2))<<<[16])),[0]]))⟩,⟨2,3,.pT 2 .cY #[] (.ret (.fQ #[.aa (1) #[(0).a,[16]],.aa (1) #[(0).b,[16]],(2)]))⟩,⟨2,6,.set 2 (.aa (1) #[(0).a,[8]]) (.set 3 (.aa (1) #[(0).b,[8]]) (.ret (.lc #[4,5] (.zip2 (2) (3)) ((4)*(.signed #[(5),[8]])))))⟩,⟨2,6,.set 2 (.aa (1) #[(0).a,[16]]) (.set 3 (.aa (1) #[(0).b,[16]]) (.ret (.lc #[4,5] (.zip2 (2) (3)) ((.signed #[(4),[16]])*(.signed #[(5),[16]])))))⟩],[⟨3,6,.set 3 (.aa (2) #[(1).d,[32]]) (.ret (.lc #[4,5] (.zip2 (3) (0)) ((.signed #[(4),[32]])+(5))))⟩,⟨2,3,.ret (.lc #[2] (.seq (.kG #[.c6 #[.fI #[(0),(1)],[4]],(0),(1)])) (.cut #[(2),[32]]))⟩,⟨2,3,.ret (.lc #[2] (.seq (.kG #[.c6 #[.fI #[(0),(1)],[4]],(0),(1)])) (.cm #[(2),[32]]))⟩,⟨2,3,.ret (.lc #[2] (.seq (.kG #[.c6 #[.dW #[(0),(1)],[2]],(0),(1)])) (.cut #[(2),[32]]))⟩,⟨2,3,.ret (.lc #[2] (.seq (.kG #[.c6 #[.dW #[(0),(1)],[2]],(0),(1)])) (.cm #[(2),[32]]))⟩,⟨2,3,.ret (.lc #[2] (.seq (.c6 #[.dW #[(0),(1)],[2]])) (.cut #[(2),[32]]))⟩,⟨2,3,.ret (.lc #[2] (.seq (.c6 #[.fI #[(0),(1)],[2]])) (.cm #[(2),[16]]))⟩,⟨3,6,.set 3 (.aa (2) #[(1).b,[64]]) (.ret (.lc #[4,5] (.enum (.aa (2) #[(1).a,[8]])) (0 #[(5),.ix (3) ((4)/[8])])))⟩,⟨2,2,.ret (.cut #[((((1)<<<[64])|||(1))>>>((0)% [64])),[8]])⟩,⟨2,3,.pT 2 .eC #[] (.ret (.bY #[(2),(0),(1)]))⟩,⟨2,4,.set 2 [0] (.iH #[3] (.mx [8]) (.ite (.cA #[(1),(3)]) (.aug 2 .xor (0) .nil) .nil (.aug 0 .shl [1] (.ite ((0)>[255]) (.aug 0 .xor (.pj 2 283) .nil) .nil .nil))) (.ret (2)))⟩,⟨1,4,.set 1 [1] (.set 2 (0) (.iH #[3] (.BA [1] [8]) (.set 2 (.df #[(2),(2)]) (.set 1 (.df #[(1),(2)]) .nil)) (.ret (1))))⟩,⟨2,6,.set 2 (.aa (1) #[(0).a,[8]]) (.set 3 (.aa (1) #[(0).b,[8]]) (.ret (.lc #[4,5] (.zip2 (2) (3)) (.df #[(4),(5)]))))⟩,⟨2,3,.ret (.fk #[.lc #[2] (.mx [8]) ((.jh #[(((1)>>>([56]-([8]*(2))))&&&(0))])% [2])])⟩,⟨3,3,.ret ((.qy #[(0),(1)])^^^(.cut #[(2).m,[8]]))⟩],[⟨2,2,.ret (.bY #[.lam .iW #[0],(0),(1)])⟩,⟨3,3,.ret ((.qy #[.iV #[(0)],(1)])^^^(.cut #[(2).m,[8]]))⟩,⟨2,2,.ret (.bY #[.lam .cZ #[0],(0),(1)])⟩,⟨2,4,.set 2 [0] (.iH #[3] (.mx [64]) (.ite (.cA #[(1),(3)]) (.aug 2 .xor ((0)<<<(3)) .nil) .nil .nil) (.ret (2)))⟩,⟨4,5,.set 4 (.fu #[.ix (0) (2),.ix (1) (3)]) (.ret (IE.list #[.cut #[(4),[64]],((4)>>>[64])]))⟩,⟨2,5,.set 2 ((0).m% [2]) (.set 3 (((0).m/[16])% [2]) (.pT 4 .bh #[2,3] (.ret (.fQ #[.aa (1) #[(0).a,[64]],.aa (1) #[(0).b,[64]],(4)]))))⟩,⟨2,6,.set 2 (.aa (1) #[(0).a,(0).k]) (.ret (.lc #[4,5] (.enum (2)) (.fk #[.lc #[3] (.seq (.Bz (2) (4))) ((3)=(5))])))⟩,⟨2,6,.set 2 (.aa (1) #[(0).a,[64]]) (.set 3 (.aa (1) #[(0).b,[64]]) (.ret (.lc #[4,5] (.zip2 (2) (3)) ((.cut #[(4),[52]])*(.cut #[(5),[52]])))))⟩,⟨2,5,.set 2 (.aa (1) #[(0).d,[64]]) (.ret (.lc #[3,4] (.zip2 (2) (.fW #[(0),(1)])) (.cut #[((3)+(.cut #[(4),[52]])),[64]])))⟩,⟨2,5,.set 2 (.aa (1) #[(0).d,[64]]) (.ret (.lc #[3,4] (.zip2 (2) (.fW #[(0),(1)])) (.cut #[((3)+((4)>>>[52])),[64]])))⟩,⟨1,1,.ret (.iZ .kQ (0))⟩,⟨3,3,.ret ((0)+(2))⟩,⟨3,3,.ret ((0)+(1))⟩,⟨3,3,.ret ((0)-(1))⟩,⟨3,3,.ret ((0)*(1))⟩],[⟨3,3,.ret ((0)&&&(1))⟩,⟨3,3,.ret ((0)|||(1))⟩,⟨3,3,.ret ((0)^^^(1))⟩,⟨3,3,.ret ((0)<<<((1)% [64]))⟩,⟨3,3,.ret ((0)>>>((1)% [64]))⟩,⟨3,3,.ret (2)⟩,⟨2,5,.set 2 (.iZ .bZ (0).operation) (.set 3 (.aL (1) #[(0).a]) (.set 4 (.aL (1) #[(0).b]) (.ex .cN (1) #[(0).d,2 #[(3),(4),(0).z]] .nil)))⟩,⟨2,4,.set 2 (.aL (1) #[(0).a]) (.set 3 (.aL (1) #[(0).b]) (.ex .ia (1) #[((2)=(3)),((2)<(3))] .nil))⟩,⟨1,1,.ite ((0)=[140]) (.ret (.fn .eY)) .nil (.ret (.qG (.inD (0) .bZ) (.fn .iz) .bQ))⟩,⟨2,4,.set 2 (.aa (1) #[(0).a,(0).k]) (.ret (.lc #[3] (.seq (.aa (1) #[(0).b,(0).k])) (.ix (2) ((3)% (0).n))))⟩,⟨2,4,.set 2 ((.aa (1) #[(0).a,(0).k])+(.aa (1) #[(0).d,(0).k])) (.ret (.lc #[3] (.seq (.aa (1) #[(0).b,(0).k])) (.ix (2) ((3)% (.len (2))))))⟩,⟨2,3,.ret (.lc #[2] (.seq (1)) (.qG ((2)>=[128]) [0] (.ix (0) ((2)% [16]))))⟩,⟨2,3,.pT 2 .fw #[] (.ret (.fQ #[.aa (1) #[(0).a,[8]],.aa (1) #[(0).b,[8]],(2)]))⟩,⟨2,4,.set 2 ((.aa (1) #[(0).b,(0).k])+(.aa (1) #[(0).a,(0).k])) (.set 3 ((0).m% (0).n) (.ret (.sl (2) (3) ((3)+(0).n))))⟩,⟨3,3,.ret (.sl (((1)+(0))+((IE.list #[[0]])*[32])) (2) ((2)+[16]))⟩],[⟨2,4,.set 2 ((0).m% [32]) (.pT 3 .c5 #[2] (.ret (.fQ #[.aa (1) #[(0).a,[8]],.aa (1) #[(0).b,[8]],(3)])))⟩,⟨2,5,.own 2 (.list .nil) (.iH #[3,4] (.zip2 (0) (1)) (.ext 2 (IE.list #[(3),(4)]) .nil) (.xK 2))⟩,⟨2,3,.set 2 ((.len (0))/[2]) (.ret (.nG #[.Bz (0) (2),.Bz (1) (2)]))⟩,⟨2,3,.set 2 ((.len (0))/[2]) (.ret (.nG #[.LP (0) (2),.LP (1) (2)]))⟩,⟨3,3,.ret (.fQ #[.aa (2) #[(1).a,(1).k],.aa (2) #[(1).b,(1).k],(0)])⟩,⟨2,2,.ret (.fJ #[.fn .jn,(0),(1)])⟩,⟨2,2,.ret (.fJ #[.fn .jo,(0),(1)])⟩,⟨2,3,.set 2 (((1)% [4])*[2]) (.ret (.sl (0) (2) ((2)+[2])))⟩,⟨2,5,.set 2 (.aa (1) #[(0).a,[64]]) (.set 3 (.aa (1) #[(0).b,[64]]) (.set 4 ((.jG #[(2),(0).m])+(.jG #[(2),((0).m>>>[2])])) (.ret (((4)+(.jG #[(3),((0).m>>>[4])]))+(.jG #[(3),((0).m>>>[6])])))))⟩,⟨2,4,.set 2 (.aa (1) #[(0).b,[64]]) (.set 3 (((0).m% [4])*[2]) (.ret (((.Bz (2) (3))+(.Bz (.aa (1) #[(0).a,[64]]) [2]))+(.LP (2) ((3)+[2])))))⟩,⟨2,2,.ret ((.jG #[.aa (1) #[(0).a,[64]],(0).m])+((IE.list #[[0]])*[6]))⟩,⟨2,4,.set 2 [0] (.iH #[3] (.rg [0] (1).k [8]) (.set 2 (((2)<<<[8])|||(((0)>>>(3))&&&[255])) .nil) (.ret (2)))⟩,⟨2,4,.pT 2 .cw #[0] (.ret (.lc #[3] (.seq (.aa (1) #[(0).a,(0).k])) (2 #[(3)])))⟩,⟨2,7,.set 2 (.a0 (1) #[(0).g]) (.set 3 (.aa (1) #[(0).a,(0).k]) (.own 4 (.list .nil) (.set 5 [0] (.iH #[6] (.mx (0).n) (.app 4 (.ix (3) (5)) (.ite (.cA #[(2),(6)]) (.aug 5 .add [1] .nil) .nil .nil)) (.xK 4)))))⟩,⟨3,5,.set 3 ((0)+(1)) (.ret (.lc #[4] (.rg [0] (.len (3)) [2]) (2 #[.ix (3) (4),.ix (3) ((4)+[1])])))⟩],[⟨3,4,.pT 3 .fy #[0] (.ret (.fJ #[(3),(1),(2)]))⟩,⟨3,3,.ret (.cut #[((0)+(1)),(2).k])⟩,⟨2,2,.ret (.hR #[.lam .eD #[0],(0),(1)])⟩,⟨3,3,.ret (.cut #[((0)-(1)),(2).k])⟩,⟨2,2,.ret (.hR #[.lam .cx #[0],(0),(1)])⟩,⟨3,3,.ret (.cm #[((.signed #[(0),(2)])+(.signed #[(1),(2)])),(2)])⟩,⟨2,3,.set 2 (0).k (.ret (.hR #[.lam .cy #[2],(0),(1)]))⟩,⟨2,2,.ret (.Bz (.aa (1) #[(0).a,(0).k]) ((0).n/[2]))⟩,⟨2,3,.ret (.lc #[2] (.seq (.widen #[(0),(1)])) (.cut #[.signed #[(2),(0).k],([2]*(0).k)]))⟩,⟨3,4,.ret ((.lc #[3] (.seq (.aa (2) #[(1).a,([2]*(1).k)])) (0 #[(3)]))+((IE.list #[[0]])*((1).n/[2])))⟩,⟨2,2,.ret (.cut #[(0),(1).k])⟩,⟨2,2,.ret (.kJ #[.lam .md #[0],(0),(1)])⟩,⟨2,2,.ret (.cm #[.signed #[(0),([2]*(1).k)],(1).k])⟩,⟨2,2,.ret (.kJ #[.lam .fA #[0],(0),(1)])⟩,⟨2,2,.ret (.held #[(0),(1).k])⟩],[⟨2,2,.ret (.kJ #[.lam .gG #[0],(0),(1)])⟩,⟨2,2,.ret (.held #[.signed #[(0),([2]*(1).k)],(1).k])⟩,⟨2,2,.ret (.kJ #[.lam .cM #[0],(0),(1)])⟩,⟨1,1,.ret (.iZ .rf (0))⟩,⟨2,3,.ret (.lc #[2] (.seq (1)) (.Im (2) (0)))⟩,⟨2,3,.iH #[2] (.rg [0] ((.len (1))-[1]) [2]) (.ite (.chain (.ix (1) (2)) (0) (.ix (1) ((2)+[1]))) (.ret (.bl true)) .nil .nil) (.ret (.bl false))⟩,⟨2,3,.ret (.lc #[2] (.seq (1)) (.f7 #[(2),(0)]))⟩,⟨2,3,.ret (.lc #[2] (.mx [16]) ((.sl (0) (2) ((2)+[1]))=(.sl (1) (2) ((2)+[1]))))⟩,⟨2,3,.ret (.lc #[2] (.mx [16]) ((.Bz (0) ([16]-(2)))=(.sl (1) (2) ((2)+(.len (0))))))⟩,⟨4,6,.set 4 (.Hn .jv ((0).m% [4])) (.set 5 (.fk #[4 #[(2),(3)]]) (.ex .cj (1) #[(0).d,(5)] (.ex .ia (1) #[((.len (3))<[16]),((5)!=[0])] .nil)))⟩,⟨2,2,.ret (.Bz (.aa (1) #[(0),[8]]) [16])⟩,⟨1,1,.ret (.qG (.Im [0] (0)) (.Bz (0) (.index (0) [0])) (0))⟩,⟨2,4,.set 2 (.kf #[.fB #[(0).a,(1)]]) (.set 3 (.kf #[.fB #[(0).b,(1)]]) (.ex .answer .bQ #[(0),(1),(2),(3)] .nil))⟩,⟨2,4,.set 2 (.Bz (.fB #[(0).a,(1)]) (.min2 (.aL (1) #[[0]]) [16])) (.set 3 (.Bz (.fB #[(0).b,(1)]) (.min2 (.aL (1) #[[1]]) [16])) (.ex .answer .bQ #[(0),(1),(2),(3)] .nil))⟩,⟨1,1,.ret (.iZ .uJ (0))⟩],[⟨3,3,.ite ((0)=[0]) (.ret ((1)=(2))) .nil (.ite ((0)=[1]) (.ret ((1)<(2))) .nil (.ret (.and ((0)=[2]) ((1)<=(2)))))⟩,⟨3,6,.set 3 (.cA #[(0).m,[2]]) (.ret (.lc #[4,5] (.zip2 (1) (2)) ((.Bx #[((0).m% [4]),(4),(5)])!=(3))))⟩,⟨2,4,.set 2 (.aa (1) #[(0).a,(0).k]) (.set 3 (.aa (1) #[(0).b,(0).k]) (.ret (.f9 #[(0),(2),(3)])))⟩,⟨2,6,.set 2 (.lc #[4] (.seq (.aa (1) #[(0).a,(0).k])) (.signed #[(4),(0).k])) (.set 3 (.lc #[5] (.seq (.aa (1) #[(0).b,(0).k])) (.signed #[(5),(0).k])) (.ret (.f9 #[(0),(2),(3)])))⟩,⟨2,6,.set 2 (.aa (1) #[(0).a,(0).k]) (.set 3 (.aa (1) #[(0).b,(0).k]) (.ret (.lc #[4,5] (.zip2 (2) (3)) (((4)&&&(5))!=[0]))))⟩,⟨2,3,.ret (.lc #[2] (.seq (.hY #[(0),(1)])) (.not (2)))⟩,⟨2,3,.ret (.lc #[2] (.seq (.aa (1) #[(0).a,(0).k])) (.cA #[(2),((0).k-[1])]))⟩,⟨2,2,.ret (.cA #[(1),((0)% [64])])⟩,⟨2,2,.ret (.bY #[.lam .eE #[],(0),(1)])⟩,⟨1,1,.ret (.iZ .qF (0))⟩,⟨1,1,.ret (.and (0).sound (.or (.oI (0).operation .m4) (.Im (0).k (.DE .m4 (0).operation))))⟩,⟨2,4,.iH #[2] (.seq (1)) (.set 3 (2 #[(0)]) (.ite (.uX (3)) (.ret (3)) .nil .nil)) (.ret .bQ)⟩,⟨2,4,.set 2 (.kF #[(0).operation]) (.ite (.uX (2)) (.ret (.jB #[(2),(0),(1)])) .nil (.set 3 (.fC #[(0).operation,IE.tup #[.fn .kd,.fn .jr,.fn .gM]]) (.ret (.qG (.Jf (3)) .bQ (3 #[(0),(1)])))))⟩,⟨2,3,.set 2 (.jL #[(0).operation]) (.ret (.qG (.Jf (2)) .bQ (2 #[(0),(1)])))⟩,⟨2,5,.ite (.not (.fits #[(0)])) (.ret (.bl false)) .nil (.set 2 (.h_ #[(0),(1)]) (.ite (.uX (2)) (.ex .jN (1) #[(0),(2)] (.ret (.bl true))) .nil (.set 3 (.js #[(0),(1)]) (.ite (.uX (3)) (.ex .cj (1) #[(0).d,((.fk #[(3)])&&&(.a0 (1) #[(0).g]))] (.ret (.bl true))) .nil (.set 4 (.fC #[(0).operation,IE.tup #[.fn .lO,.fn .lN,.fn .lQ,.fn .jm]]) (.ite (.Jf (4)) (.ret (.bl false)) .nil (.Qh 4 #[(0),(1)] (.ret (.bl true)))))))))⟩],[⟨1,1,.ret ((0).k/[8])⟩,⟨2,2,.ret ((.aL (1) #[(0).b])+(0).z)⟩,⟨2,4,.set 2 (.a0 (1) #[(0).g]) (.ret (.pq #[3] (.mx (0).n) (.cA #[(2),(3)]) (3)))⟩,⟨2,4,.set 2 (.start #[(0),(1)]) (.ret (.lc #[3] (.seq (.dg #[(0),(1)])) ((2)+((3)*(.bR #[(0)])))))⟩,⟨2,4,.set 2 (.start #[(0),(1)]) (.ret (.lc #[3] (.mx (.len (.dg #[(0),(1)]))) ((2)+((3)*(.bR #[(0)])))))⟩,⟨2,5,.set 2 (.start #[(0),(1)]) (.set 3 (.aa (1) #[(0).a,(0).k]) (.ret (.lc #[4] (.seq (.dg #[(0),(1)])) ((2)+((.signed #[.ix (3) (4),(0).k])*(.bR #[(0)]))))))⟩,⟨2,2,.ret ((IE.list #[.start #[(0),(1)]])*(.len (.dg #[(0),(1)])))⟩,⟨2,2,.ret (IE.list #[.start #[(0),(1)]])⟩,⟨4,7,.own 4 ((IE.list #[[0]])*(0).n) (.iH #[5,6] (.zip2 (.dg #[(0),(1)]) (3)) (.put 4 (5) (.Jh .aY (2) #[(6),.bR #[(0)]]) .nil) (.nX 4 (.ex .jN (1) #[(0),(4)] .nil)))⟩,⟨4,7,.set 4 (.aa (1) #[(0).d,(0).k]) (.iH #[5,6] (.zip2 (.dg #[(0),(1)]) (3)) (.MA .gd (2) #[(6),.bR #[(0)],.ix (4) (5)] .nil) .nil)⟩,⟨4,4,.ex .cN (1) #[(0).d,.Jh .aY (2) #[.ix (3) [0],.bR #[(0)]]] .nil⟩,⟨4,4,.MA .gd (2) #[.ix (3) [0],.bR #[(0)],.aL (1) #[(0).d]] .nil⟩,⟨1,1,.ret (.inD (0) .fc)⟩,⟨3,4,.iH #[3] (.seq (1)) (.ite (.not (.Jh .gw (0) #[(3),(2)])) (.ret (.bl false)) .nil .nil) (.ret (.bl true))⟩,⟨3,7,.set 3 (.iZ .m5 (0).operation) (.set 4 (.lc #[6] (.seq (3 #[(0),(1)])) (.cut #[(6),[64]])) (.ite (.not (.pR #[(2),(4),.bR #[(0)]])) (.ret (.bl false)) .nil (.set 5 (.iZ .fc (0).operation) (.Qh 5 #[(0),(1),(2),(4)] (.ret (.bl true))))))⟩],[⟨3,3,.ret ((2)+(0).z)⟩,⟨3,3,.ret (.qG (0) ((2)+(1).z) (2))⟩,⟨3,3,.ret (.sD #[.eP .mh (1) .nil,(0),(2)])⟩,⟨3,3,.ret (.sD #[.not (.eP .mh (1) .nil),(0),(2)])⟩,⟨3,3,.ret (.sD #[.eP .kP (1) .nil,(0),(2)])⟩,⟨3,3,.ret (.sD #[.not (.eP .kP (1) .nil),(0),(2)])⟩,⟨3,3,.ex .cN (1) #[(0).d,((.aL (1) #[(0).d])-[1])] (.ret (.sD #[((.aL (1) #[(0).d])!=[0]),(0),(2)]))⟩,⟨3,3,.ex .cN (1) #[(0).d,(2)] (.ret ((2)+(0).z))⟩,⟨3,3,.ret (.aL (1) #[(0).a])⟩,⟨1,1,.ret (.iZ .uW (0))⟩,⟨3,3,.ret (.kC #[.sl (.Mz (0) .vec) ([8]*(1)) (([8]*(1))+[8]),(2)])⟩,⟨3,5,.iH #[3,4] (.enum (.l0 #[(2),([512]/(.len (2)))])) (.xJ 0 .vec (([8]*(1))+(3)) (4) .nil) .nil⟩,⟨3,7,.set 3 (.a0 (0) #[(1).g]) (.own 4 (.jO (0) #[(1),([512]/(.len (2)))]) (.iH #[5,6] (.enum (2)) (.ite (.cA #[(3),(5)]) (.put 4 (5) (6) .nil) .nil .nil) (.nX 4 (.ex .gO (0) #[(1).d,(4)] .nil))))⟩,⟨3,3,.ret (.qG (1).oH ((IE.list #[[0]])*([512]/(2))) (.aa (0) #[(1).d,(2)]))⟩,⟨2,2,.ret (.ix (.Mz (0) .we) ((1)% [8]))⟩],[⟨3,3,.ite (((1)% [8])!=[0]) (.xJ 0 .we ((1)% [8]) (2) .nil) .nil .nil⟩,⟨2,2,.ret (.ix (.Mz (0) .xH) (1))⟩,⟨3,3,.xJ 0 .xH (1) (.cut #[(2),[64]]) .nil⟩,⟨3,3,.Ho 0 ((.qG (1) (.pj 0 1) [0])|||(.qG (2) (.pj 1 2) [0])) .nil⟩,⟨1,1,.ret (((.OC (0))&&&(.pj 0 1))!=[0])⟩,⟨1,1,.ret (((.OC (0))&&&(.pj 1 2))!=[0])⟩,⟨3,3,.ret (.chain [0] (1) ((.pj 8 65536)-(2)))⟩,⟨3,5,.set 3 [0] (.iH #[4] (.rev (.sl (.rN (0)) (1) ((1)+(2)))) (.set 3 (((3)<<<[8])|||(4)) .nil) (.ret (3)))⟩,⟨4,5,.iH #[4] (.mx (2)) (.BB 0 ((1)+(4)) (((3)>>>([8]*(4)))&&&[255]) .nil) .nil⟩,⟨3,3,.ret (.sl (.rN (0)) (1) ((1)+(2)))⟩]]) f ⟨0,0,.nil⟩
end
def wI:D->List (Int×F)
 |.uH=>[(25,.jl),(26,.iv),(33,.iw),(34,.Bv),(35,.iM),(36,.fS),(37,.pN),(86,.fT)]
 |.a8=>[(90,.gY),(91,.iN),(92,.dk),(93,.l4),(94,.eu),(95,.pO),(96,.nv),(97,.fU),(98,.fm),(99,.ny)]
 |.wd=>[(87,.nz),(100,.d4),(101,.d5),(102,.gC),(103,.iO),(104,.gD),(105,.pP)]
 |.uI=>[(48,.compress),(106,.gZ),(107,.g0)]
 |.iE=>[(1,.nA),(2,.g7),(3,.g_),(4,.iP),(5,.dr),(6,.sy),(7,.apart),(8,.wb),(9,.sC),(10,.iQ),(11,.hF),(12,.gE),(13,.pQ),(14,.dt),(15,.iR),(16,.hH),(17,.iS),(18,.du),(19,.ew),(20,.fV),(21,.fo),(22,.ez),(23,.nB),(24,.l_),(27,.eA),(28,.negate),(29,.hI),(30,.iT),(31,.kD),(32,.gF)]
 |.kQ=>[(63,.iU),(64,.eV),(65,.eX),(66,.fq),(67,.cI),(68,.jC),(69,.ft),(70,.jD),(71,.cJ),(72,.qx),(74,.hJ),(75,.transform),(76,.dF),(77,.c7),(78,.kH),(79,.jE),(80,.jF)]
 |.bZ=>[(130,.Bw),(131,.fX),(132,.c1),(133,.c3),(134,.c4),(135,.dy),(136,.bz),(137,.cu),(138,.cf),(139,.wc)]
 |.rf=>[(40,.pick),(41,.kI),(42,.ke),(43,.nD),(44,.eZ),(45,.fY),(46,.fZ),(47,.hO),(49,.expand),(50,.ef),(51,.jH),(52,.iX),(53,.widen),(54,.jI),(55,.narrow),(56,.gN),(57,.jq),(58,.c8),(60,.f6),(61,.cR),(62,.cS)]
 |.uJ=>[(88,.iY),(89,.gH)]
 |.qF=>[(73,.f_),(81,.compare),(82,.hV),(83,.hY),(84,.jJ),(85,.jK)]
 |.m5=>[(110,.eg),(111,.eg),(112,.e7),(113,.e7),(114,.e_),(115,.e_),(116,.kK),(117,.gs),(118,.gs)]
 |.fc=>[(110,.gu),(111,.gj),(112,.gu),(113,.gj),(114,.gu),(115,.gj),(116,.gu),(117,.kL),(118,.jM)]
 |.uW=>[(120,.on),(121,.kg),(122,.gc),(123,.jt),(124,.fb),(125,.ji),(126,.ju),(127,.iA)]
 |_=>[]
instance B8:List (Int×List Int):=[(36,[32,64]),(53,[8,16,32]),(54,[8,16,32]),(55,[8,16,32]),(56,[8,16,32]),(57,[8,16,32]),(58,[8,16,32]),(62,[16]),(78,[32,64]),(87,[32,64])]
instance Av{h:Type}:List (Int×h)->Int->Option h
 |[],_=>O'
 |(k,v)::r,i=>if i=k then N' v else Av r i
def DT(d:D):Bool:= !(wI d).isEmpty
def a_(d:D)(i:Int):Option F:=Av (wI d) i
def qO(d:D)(i:Int):Bool:=decide (i∈if DT d=P' then(wI d).map (·.1)else B8.map (·.1))
def QQ:D->Int->Option (List Int)
 |.m4,i=>Av B8 i
 |_,_=>O'
instance abc:D->Nat->Option F
 |.jv,i=>[F.among,F.between,F.alike,F.mf][i]?
 |_,_=>O'
def T:kT:=#[a_,qO,QQ,abc]
abbrev C(n:Nat):=bt T defs n
def Aw(n:Nat)(f:F)(as:List Vl)(M:gf):C (n+1) f as M=sI T (C n) (defs f) as M:=rfl
def J8(b:Bool):truth (.bl b:Vl)=N' b:=rfl
def yU(i:Int):truth (.int i:Vl)=N' (i !=0):=rfl
def HE(h:Int)(n:Nat)(j:Int):(ib h n j:List (List Vl))=(VW n).map λ(i:Nat)=>[.int (h+i*j)]:=rfl
def wJ(h:F->List Vl->gf->Option (Vl×Bool×gf))(f:F)(as:List Vl)(M:gf):nH h (.fn f) as M=jQ h f as M:=rfl
def ue(h:F->List Vl->gf->Option (Vl×Bool×gf))(f:F)(j as:List Vl)(M:gf):nH h (.j4 f j) as M=jQ h f (as++j) M:=rfl
def J9(h:F->List Vl->gf->Option (Vl×Bool×gf))(f:F)(as:List Vl)(M:gf):wg h (.fn f) as M=h f as M:=rfl
def HF(h:F->List Vl->gf->Option (Vl×Bool×gf))(f:F)(j as:List Vl)(M:gf):wg h (.j4 f j) as M=h f (as++j) M:=rfl
def mj(o:DD)(i j:Int):t8 o (.int i:Vl) (.int j)=(binI o i j).map λr=>(.int r,Q'):=rfl
def J_(xs h:List Vl):t8 .add (.lst xs:Vl) (.lst h)=if xs.length+h.length<=bw then N' (.lst (xs++h),P')else none:=rfl
def kY{x:Vl}{m:Nat}(h:m<=1000):t8 .mul (.lst [x]:Vl) (.int (m:Int))=N' (.lst ((VW m).map λ_=>x),P'):=by
 have c:[x].length*(m:Int).toNat<=bw/\(m:Int).natAbs<2^62:=by simp![bw,dR,jb];lia
 have e:∀m:Nat,(VY m [x]).flatten=(VW m).map λ_=>x:=λm=>by
  induction m with
  |zero=>rfl
  |succ m j=>rw[List.replicate_succ',List.flatten_append,j,mG,kq];rfl
 simp![t8];rw[ae c,dQ,e]
def nn0(n:Nat):((0:Int)<=(n:Int))=True:=eq_true 'l'
def U4(n:Nat):(0:Int)+(n:Int)*1=(n:Int):=by lia
theorem ints_map:∀(l:List Int),ints? (l.map SV.int:List Vl)=N' l
 |[]=>rfl
 |x::l=>by simp![bf,ints?,ints_map l];rfl
def iD(n:Nat)(f:Nat->Int):ints? ((VW n).map λj=>(SV.int (f j):Vl))=N' ((VW n).map f):=by rw[<-ints_map ((VW n).map f),aS];rfl
def Ka:(ints? ([]:List Vl))=N' []:=rfl
def rD1(T:kT)(cl s t a M):sI T cl #[1,s,t] [a] M=match cO T cl t #[N' a::VY (s-1) O',O'] M with
  |some (.nx _ h)=>N' (.bQ,Q',h)
  |some (.rt v fr h)=>N' (v,fr,h)
  |none=>none:=rfl
def rD2(T:kT)(cl s t a b M):sI T cl #[2,s,t] [a,b] M=match cO T cl t #[N' a::N' b::VY (s-2) O',O'] M with
  |some (.nx _ h)=>N' (.bQ,Q',h)
  |some (.rt v fr h)=>N' (v,fr,h)
  |none=>none:=rfl
def rD3(T:kT)(cl s t a b c M):sI T cl #[3,s,t] [a,b,c] M=match cO T cl t #[N' a::N' b::N' c::VY (s-3) O',O'] M with
  |some (.nx _ h)=>N' (.bQ,Q',h)
  |some (.rt v fr h)=>N' (v,fr,h)
  |none=>none:=rfl
def rD4(T:kT)(cl s t a b c d M):sI T cl #[4,s,t] [a,b,c,d] M=match cO T cl t #[N' a::N' b::N' c::N' d::VY (s-4) O',O'] M with
  |some (.nx _ h)=>N' (.bQ,Q',h)
  |some (.rt v fr h)=>N' (v,fr,h)
  |none=>none:=rfl
def rD5(T:kT)(cl s t a b c d e M):sI T cl #[5,s,t] [a,b,c,d,e] M=match cO T cl t #[N' a::N' b::N' c::N' d::N' e::VY (s-5) O',O'] M with
  |some (.nx _ h)=>N' (.bQ,Q',h)
  |some (.rt v fr h)=>N' (v,fr,h)
  |none=>none:=rfl
def rD6(T:kT)(cl s t a b c d e f M):sI T cl #[6,s,t] [a,b,c,d,e,f] M=match cO T cl t #[N' a::N' b::N' c::N' d::N' e::N' f::VY (s-6) O',O'] M with
  |some (.nx _ h)=>N' (.bQ,Q',h)
  |some (.rt v fr h)=>N' (v,fr,h)
  |none=>none:=rfl
def ge0(n:Nat)(a b:α):(if(0:Int)<=(n:Int)then a else b)=a:=rfl
def U5(x y):SX (N' P') x y=x:=rfl
def U6(x y):SX (N' Q') x y=y:=rfl
def mpc(f:α->β)(a l):(a::l).map f=f a::l.map f:=rfl
def mpn(f:α->β):[].map f=[]:=rfl
def frc(a:α)(l i):Ji (a::l) (i+1)=Ji l i:=rfl
def fr0(a:α)(l):Ji (a::l) 0=true:=rfl
def tta(b:Bool):(P'&&b)=b:=rfl
def uf(M x fr):ER M (N' (x,fr,M))=N' (x,fr):=ae S'
def QR(o i j):xM o (.int i) (.int j)=N' (cF o i j):=rfl
theorem QS(a b):xM .eq (.lst a) (.lst b)=match ints? a,ints? b with
 |some a,N' b=>N' (decide (a=b))
 |_,_=>none:=rfl
def QT(a b):xM .ne (.bl a) (.bl b)=N' (a !=b):=rfl
local macro_rules
 | `(tactic|erw[$[$ls:term],*])=> `(tactic|simp only[U5,U6,rD1,rD2,rD3,rD4,rD5,rD6,mpc,mpn,frc,fr0,tta,uf,QR,QS,QT,bw,aS,tO,↓ge0,nn0,U4,dQ,pa,fN,Jj,Ac,wj,Jk,mN,ES,ET,sJ,EU,BD,EV,EW,wk,yH,EX,Ad,Jl,EY,EZ,Ae,Jm,E1,E2,Jn,pV,BE,yI,E3,E4,BF,BG,BH,E5,BJ,yJ,BK,E6,E7,BL,E8,Jo,BM,E9,Fm,Af,Fo,pW,lR,ks,i0,i4,i5,i6,i7,i8,ku,E_,Fb,Fc,Fd,Fe,Ff,Fg,Fh,BN,BO,DF,Fi,Fj,BP,Fl,vo,BQ,BR,BS,Fp,Ev.get,Ev.put,Ev.kh,Ev.sH,Ev.free,mj,J_,J8,yU,Ka,items?,Ab,HE,xu.get,Ord.get,dR,jb,aB,cG,and_self,and_true,true_and,ra,mB,ko,dC,kr,YM,C3,Xz,ZA,vd,fM,zP,Option.isNone_none,jQ,wJ,ue,J9,HF,VY,Nat.reduceAdd,Nat.reduceSub,Nat.reduceLT,Nat.reduceLeDiff,Nat.lt_add_left_iff_pos,Nat.reduceBNe,Nat.reduceEqDiff,decide_true,decide_false,Bool.and_true,qZ,d6,List.all_nil,reduceIte,eq_self,reduceCtorEq,Bool.not_true,Bool.not_false,$[$ls:term],*])
local macro_rules
 | `(tactic|rwa[$[$ls:term],*])=> `(tactic|((first|change sI _ (C _) (Df.mk _ _ _) _ _=_|change ER _ (sI _ (C _) (Df.mk _ _ _) _ _)=_|(rw[Aw];conv in defs _=>whnf)|conv in defs _=>whnf);erw[$[$ls:term],*]))
def tp(k):0<2^k:=Nat.two_pow_pos k
instance pk(k:Nat)(f:Nat->Nat):Nat->Nat
 |0=>0
 |n+1=>pk k f n+f n*2^(k*n)
def b0(g:α->Nat->α)(a:α)(n):(VW (n+1)).foldl g a=g ((VW n).foldl g a) n:=by rw[mG,List.foldl_append];rfl
theorem FY(k)(f:Nat->Nat):∀n,(VW n).foldl (λx i=>x+f i % 2^k*2^(k*i)) 0=pk k (λi=>f i % 2^k) n
 |0=>rfl
 |n+1=>by rw[b0,FY k f n];rfl
def oQ(k)(f:Nat->Nat):V0 k f=pk k (λi=>f i % 2^k) (lanes k):=FY k f _
theorem B9:∀{n:Nat},(∀i,i<n->f i=g i)->pk k f n=pk k g n
 |0,_=>rfl
 |n+1,h=>by simp![pk,h n 'l',B9 (n:=n) λi j=>h i 'l']
def kx(h:∀i,i<lanes k->f i % 2^k=g i % 2^k):V0 k f=V0 k g:=by rw[oQ,oQ];show B9 h
theorem Ax(k)(f)(a):∀b,pk k f (a+b)=pk k f a+2^(k*a)*pk k (λi=>f (a+i)) b
 |0=>by simp[pk]
 |b+1=>by rw[<-oq,pk,Ax k f a b,pk,ov,ov,dB];rw[oq];congr 2;rw[XZ]
theorem sS:∀{n:Nat},(∀i,i<n->f i<2^k)->pk k f n<2^(k*n)
 |0,_=>by simp[pk]
 |n+1,h=>by
  have o:=sS (n:=n) λi q=>h i 'l';have j:=h n 'l';rw[pk,XY,dB,cz (2^(k*n))]
  calc pk k f n+f n*2^(k*n)<2^(k*n)+f n*2^(k*n):=by lia
   _=(f n+1)*2^(k*n):=by rw[jd];lia
   _<=2^k*2^(k*n):=m1 _ j
def DU(h:∀i,i<n->f i<2^k)(o:i<n):pk k f n/2^(k*i) % 2^k=f i:=by
 have e:n=i+(1+(n-i-1)):=by lia
 rw[e,Ax,Ax];have q:pk k f i<2^(k*i):=sS λj r=>h j 'l';rw[qY _ _ (tp _),ja q,lG];simp![pk,ox,lG,XX,qo,lF];rw[C2,aj (h i o)]
def fE(h:i<lanes k):lane k (V0 k f) i=f i % 2^k:=by rw[oQ];show DU (f:=λi=>f i % 2^k) (λi _=>au _ (tp k)) h
def az(k v i):lane k v i<2^k:=au _ (tp k)
def ki(o:k∣w)(h:0<k)(j t)(q:t<w/k):lane k v (j*(w/k)+t)=lane k (lane w v j) t:=by
 obtain⟨c,rfl⟩:=o;have r:k*c/k=c:=Nat.mul_div_cancel_left c h;rw[r]at q|-;unfold lane;have e:k*(j*c+t)=k*c*j+k*t:=by rw[ov,Nat.mul_assoc,cz j c]
 rw[e,dB,<-vH];have:k*c=k*t+(k*(c-t)):=by rw[<-ov];congr 1;lia
 rw[this,dB,YE];have s:k*(c-t)=k+k*(c-t-1):=by
  have:c-t=1+(c-t-1):=by lia
  rw[this,ov];simp
 rw[s,dB,Zc]
theorem p7:∀{n a b:Nat},a<2^(k*n)->b<2^(k*n)->(∀i,i<n->lane k a i=lane k b i)->a=b
 |0,a,b,o,q,_=>by simp at o q;lia
 |n+1,a,b,o,q,h=>by
  have r:=h 0 'l';simp![lane,XX,qo,rY]at r;have j:∀x,x<2^(k*(n+1))->x/2^k<2^(k*n):=λx s=>by rw[zN (tp k),<-dB,<-XY];show s
  have u:=p7 (n:=n) (j a o) (j b q) λi y=>by have:=h (i+1) 'l';simp![lane,XY]at this;rw[fg (k*i) k,dB,<-vH,<-vH]at this;show this
  rw[<-mH a (2^k),<-mH b (2^k),u,r]
def p9(n)(f):Wn (n+1) f=if f n=P' then Wn n f+2^n else Wn n f:=by unfold Wn;rw[b0]
theorem kj(f):∀n,Wn n f<2^n
 |0=>by simp[Wn]
 |n+1=>by have:=kj f n;rw[p9,ou];split<;>lia
def b_(n i):bit n i=n.testBit i:=by unfold bit;rw[XT];simp[BEq.beq]
universe b
theorem eJ(f):∀n i,(Wn n f).testBit i=(decide (i<n)&&f i)
 |0,i=>by simp[Wn]
 |n+1,i=>by
  rw[p9];have o:=kj f n;split;rename_i h;rw[fg];rcases Nat.lt_trichotomy i n with j|j|j;rw[Nat.testBit_two_pow_add_gt j,eJ f n i];have:decide (i<n+1)=decide (i<n):=by congr 1;apply propext;lia
  rw[this];subst j;rw[Nat.testBit_two_pow_add_eq,n0 o];simp[h];rw[n0];have:decide (i<n+1)=false:=by simp;lia
  rw[this];rfl;have:2^(n+1)<=2^i:=dh 'l' 'l';rw[ou]at this;lia;rename_i h;rw[eJ f n i];by_cases j:i=n;subst j;simp[h];have:(decide (i<n+1))=decide (i<n):=by congr 1;apply propext;lia
  rw[this]
universe a
def aQ(k x:Nat):Wb k (x)=x % 2^k:=by
 unfold Wb;have:((2)^k)=((2^k:Nat):Int):=by simp
 rw[this,<-zS];rfl
def ug(k)(z):Wb k z<2^k:=by
 unfold Wb;have h:(0:Int)<2^k:=by have:=tp k;exact_mod_cast this
 have:=Int.emod_lt_of_pos z h;have j:=rS z (Int.ne_of_gt h);have e:((2)^k)=((2^k:Nat):Int):=by simp
 lia
def B_(k)(z):((Wb k z):Int)=z % 2^k:=by
 unfold Wb;have h:(0:Int)<2^k:=by have:=tp k;exact_mod_cast this
 show zO (rS z (Int.ne_of_gt h))
noncomputable abbrev NI(n:Nat):Vl:=.int (n:Int)
noncomputable abbrev BI(b:Bool):Vl:=.bl b
noncomputable abbrev LF(n:Nat)(f:Nat->Vl):Vl:=.lst ((VW n).map f)
def Nc(a b:Nat):sE (a) (b)=((a&&&b:Nat):Int):=rfl
def HG(x):kR (kR x)=x:=by unfold kR;lia
def Kb(a b:Nat):SU (a) (b)=((a|||b:Nat):Int):=by
 unfold SU;have h:kR (a)=W3 a:=by unfold kR;lia
 have j:kR (b)=W3 b:=by unfold kR;lia
 rw[h,j];show kR (kR _)=_;rw[HG]
def wK(a b:Nat):(a^^^b)+(a&&&b)=a|||b:=by
 induction a using Xk generalizing b with
 |ind a s=>
  by_cases u:a=0;subst u;simp;have h:=s (a/2) 'l' (b/2);have y:=mH (a^^^b) 2;have B:=mH (a&&&b) 2;have E:=mH (a|||b) 2;rw[Nat.xor_div_two]at y;rw[vh]at B;rw[Nat.or_div_two]at E;have G:(a^^^b) % 2+(a&&&b) % 2=(a|||b) % 2:=by have j:=tL (a:=a) (b:=b) (n:=1);have o:=XJ (a:=a) (b:=b) (n:=1);have q:=Nat.xor_mod_two_pow (a:=a) (b:=b) (n:=1);simp![rZ]at j o q;rw[j,o,q];rcases qJ a with r|r<;>rcases qJ b with j|j<;>rw[r,j]<;>rfl
  lia
def Nd(a b:Nat):Je (a) (b)=((a^^^b:Nat):Int):=by unfold Je;rw[Kb,Nc,<-wK];lia
def HH(x)(k):sE x ((2^k-1:Nat):Int)=x % 2^k:=by
 have e:((2)^k)=((2^k:Nat):Int):=by simp
 have h:=tp k;rw[e];cases x with
 |ofNat a=>
  show((a&&&(2^k-1):Nat):Int)=_;rw[xZ];simp
 |negSucc a=>
  show(((2^k-1:Nat):Int)-(((2^k-1)&&&a:Nat):Int))=_;rw[Nat.and_comm,xZ,Int.negSucc_emod _ 'l'];have:=au a h;lia
def fF(a b:Nat):binI .add (a) (b)=N' ((a+b:Nat):Int):=by simp[binI]
def jR(a b):binI .add a b=N' (a+b):=rfl
def lr(a b):binI .sub a b=N' (a-b):=rfl
def p_{a b:Nat}(h:b<=a):binI .sub (a) (b)=N' ((a-b:Nat):Int):=by simp![binI];congr 1;lia
def i9(a b:Nat):binI .and (a) (b)=N' ((a&&&b:Nat):Int):=rfl
def qI(a b:Nat):binI .or (a) (b)=N' ((a|||b:Nat):Int):=by simp[binI,Kb]
def qP(a b:Nat):binI .xor (a) (b)=N' ((a^^^b:Nat):Int):=by simp[binI,Nd]
def rj(h:a.natAbs<2^64\/b.natAbs<2^64):binI .mul a b=N' (a*b):=by simp![binI,ae h]
def nL{a b:Nat}(h:a<2^64\/b<2^64):binI .mul (a) (b)=N' ((a*b:Nat):Int):=by rw[rj (by simpa using h)];simp
def jw{a b:Nat}(o:b<=100000)(j:a<2^200):binI .shl (a) (b)=N' ((a*2^b:Nat):Int):=by have h:(0)<=(b:Int)/\(b:Int)<=100000/\(a:Int).natAbs<2^200:=#[by lia,by lia,by simpa using j];simp![binI,ae h];simp
def ie(a b:Nat):binI .shr (a) (b)=N' ((a/2^b:Nat):Int):=by
 have h:(0)<=(b):=by lia
 simp![binI,ae h];simp
def Ay(a)(b:Nat):binI .shr a (b)=N' (a/2^b):=by
 have h:(0)<=(b):=by lia
 simp![binI,ae h];simp
def gk{a b:Nat}(h:0<b):binI .mod (a) (b)=N' ((a % b:Nat):Int):=by
 have h:(0)<(b:Int):=by lia
 simp![binI,ae h];simp
def ig{a b:Nat}(h:0<b)(j:b<1073741824):binI .fdiv (a) (b)=N' ((a/b:Nat):Int):=by
 have h:(0)<(b:Int)/\(b:Int)<1073741824:=by lia
 simp![binI,ae h];simp
def qa(n)(k)(o:k<=1000)(M):C (n+1) .ones [NI k] M=N' (NI (2^k-1),Q',M):=by
 have h:binI .shl 1 (k)=N' ((1*2^k:Nat):Int):=jw (a:=1) 'l' ();have j:binI .sub ((1*2^k:Nat):Int) 1=N' ((2^k-1:Nat):Int):=by have q:1<=2^k:=ZO;simp![binI];congr 1;lia
 rwa[h,j]
def jS(n)(x)(k)(h:k<=1000)(M):C (n+2) .cut [.int x,NI k] M=N' (NI (Wb k x),Q',M):=by
 have e:binI .and x ((2^k-1:Nat):Int)=N' ((Wb k x):Int):=by simp![binI,HH,B_]
 rwa[qa n k h,e]
def gR(n)(x)(k)(h:k<=1000)(M):C (n+2) .cut [NI x,NI k] M=N' (NI (x % 2^k),Q',M):=by rw[jS n x k h M,aQ]
def dJ(n x i:Nat)(M):C (n+1) .cA [NI x,NI i] M=N' (BI (bit x i),Q',M):=by
 have e:binI .and ((x/2^i:Nat):Int) 1=N' ((x/2^i % 2:Nat):Int):=by rw[show(1)=((1:Nat):Int) by rfl,i9,Nat.and_one_is_mod]
 have j:cF .eq ((x/2^i % 2:Nat):Int) 1=bit x i:=by simp![cF,bit];rcases qJ (x/2^i)with h|h<;>simp[h]
 rwa[ie,e,j]
def HI(q:1<=k)(j:x<2^k):VX k x=if x/2^(k-1)≠0 then(x:Int)-2^k else x:=by unfold VX;rw[aj j];have o:=tp (k-1);by_cases h:x<2^(k-1);rw[ae h,ab (by simpa [ja h] using h)];rw[ab h,ae];have:1<=x/2^(k-1):=(Nat.le_div_iff_mul_le o).mpr 'l';lia
def bc(n x k:Nat)(o:1<=k)(r:k<=1000)(s:x<2^k)(M):C (n+1) .signed [NI x,NI k] M=N' (.int (VX k x),Q',M):=by
 have q:binI .sub (k) 1=N' ((k-1:Nat):Int):=p_ (b:=1) o;have u:binI .shl 1 (k)=N' ((1*2^k:Nat):Int):=jw (a:=1) 'l' ();rw[HI o s];by_cases h:x/2^(k-1)=0;have j:(((x/2^(k-1):Nat):Int) !=0)=false:=by rw[h];rfl
 rw[ab (by simpa using h)];rwa[q,ie,j];have j:(((x/2^(k-1):Nat):Int) !=0)=true:=bne_iff_ne.mpr 'l';rw[ae h];rwa[q,ie,j,u,lr];simp
def pw(k):((2)^k)=((2^k:Nat):Int):=by simp
def Az(n)(z)(k)(h:k<=1000)(M):C (n+2) .held [.int z,NI k] M=N' (NI (K' k z),Q',M):=by
 rwa[qa n k h];congr 3;have j:=tp k;unfold K';rw[pw];repeat' split
 all_goals lia
def pw1(h:1<=k):2^k=2*2^(k-1):=by rw[<-Nat.pow_succ'];congr 1;lia
def gQ(n)(z)(k)(h:1<=k)(j:k<=1000)(M):C (n+3) .cm [.int z,NI k] M=N' (NI (Xf k z),Q',M):=by
 have o:binI .sub (k) 1=N' ((k-1:Nat):Int):=p_ (b:=1) h;rwa[o,qa (n+1) (k-1) (by omega),lr,jS n _ k j];congr 3;have q:=tp (k-1);unfold Xf;rw[pw (k-1)];congr 1;repeat' split
 all_goals omega
instance OJ:Nat->Nat->Nat
 |0,_=>0
 |n+1,x=>x % 2+OJ n (x/2)
theorem Ca:∀n:Nat,OJ n 0=0
 |0=>rfl
 |n+1=>by rw[OJ,Nat.zero_div,Ca n]
theorem Kc:∀n m x,x<=n->x<=m->OJ n x=OJ m x
 |0,m,x,h,_=>by rw[Nat.le_zero.mp h,Ca,Ca]
 |n,0,x,_,h=>by rw[Nat.le_zero.mp h,Ca,Ca]
 |n+1,m+1,x,h,h'=>by rw[OJ,OJ,Kc n m (x/2) 'l' 'l']
def pc(x:Nat):Nat:=OJ x x
def AA:pc 0=0:=rfl
def AB(x):pc x=x % 2+pc (x/2):=by
 cases x with
 |zero=>rfl
 |succ n=>show congrArg ((n+1) % 2+·) (Kc n ((n+1)/2) ((n+1)/2) 'l' (aI _))
def QU(x)(r:x≠0):pc (x&&&(x-1))+1=pc x:=by
 induction x using Xk with
 |ind x o=>
  rw[AB (x&&&(x-1)),AB x,vh];have m:=tL (a:=x) (b:=x-1) (n:=1);simp![rZ]at m;rw[m];rcases qJ x with h|h;have j:(x-1)/2=x/2-1:=by lia
  rw[h,j];have:=o (x/2) 'l' 'l';simp![Nat.zero_and,Y2];lia;have j:(x-1)/2=x/2:=by lia
  have q:(x-1) % 2=0:=by lia
  rw[h,j,q,Nat.and_self];simp;lia
def sU(p)(n):((VW (n+1)).filter p).length=((VW n).filter (λi=>p (i+1))).length+(if p 0=P' then 1 else 0):=by
 rw[zL,X6];have:(List.filter p (Xg Nat.succ (VW n))).length=((VW n).filter (λi=>p (i+1))).length:=by rw[List.filter_map,aB];rfl
 split<;>simp[this]
def Kd(x i):bit x (i+1)=bit (x/2) i:=by unfold bit;rw[Nat.pow_succ',vH]
theorem vt:∀k x,x<2^k->Wx k x=pc x
 |0,x,h=>by simp at h;subst h;simp[Wx,AA]
 |k+1,x,h=>by
  unfold Wx;rw[sU,AB];have j:=vt k (x/2) (by rw[ou]at h;lia);unfold Wx at j;rw[show(λi=>bit x (i+1))=bit (x/2)from funext λi=>Kd x i,j];have:bit x 0=(x % 2==1):=by simp[bit]
  rw[this];rcases qJ x with h|h<;>simp[h]<;>lia
theorem FZ:∀k x,x<2^k->pc x<=k
 |0,x,h=>by simp at h;subst h;simp[AA]
 |k+1,x,h=>by rw[AB];have:=FZ k (x/2) (by rw[ou]at h;lia);lia
theorem yV(j:F->List Vl->gf->Option (Vl×Bool×gf))(M):∀f x c,pc x<f->o_ (Ab T j (.v 0)) (cO T j (.aug 0 .and (.bin .sub (.v 0) (.int 1)) (.aug 1 .add (.int 1) .nil))) f #[[N' (NI x),N' (NI c)],O'] M=N' (.nx #[[N' (NI 0),N' (NI (c+pc x))],O'] M)
 |0,_,_,h=>by lia
 |f+1,x,c,h=>by unfold o_;by_cases o:x=0;subst o;have e:(((0:Nat):Int) !=0)=false:=rfl;erw[e,AA,lF];have e:((x:Int) !=0)=true:=bne_iff_ne.mpr 'l';have q:binI .sub (x) 1=N' ((x-1:Nat):Int):=p_ (b:=1) 'l';have r:binI .add (c) 1=N' ((c+1:Nat):Int):=fF c 1;have:=QU x o;erw[e,q,r,i9,yV j M f (x&&&(x-1)) (c+1) 'l'];rw[show c+1+pc (x&&&(x-1))=c+pc x by lia]
def oR(n x)(j:x<2^256)(M):C (n+1) .jh [NI x] M=N' (NI (pc x),Q',M):=by have:=FZ 256 x j;have h:o_ (Ab T (C n) (.v 0)) _ 300 #[[N' (NI x),N' (.int 0)],O'] M=_:=yV (C n) M 300 x 0 'l';rwa[h];simp
def aU(h:((VW n).map f)[j]?=N' x):j<n/\x=f j:=by rw[cV,bj]at h;obtain⟨a,r,rfl⟩:=h;obtain⟨o,q⟩:=ni.mp r;rw[cG]at o;rw[List.getElem_range]at q;show#[o,by rw[q]]
theorem Cb:∀l a,j_ a l=(VW l.length).map λi=>[NI (a+i),l.getD i .bQ]
 |[],_=>rfl
 |x::r,a=>by rw[j_,Cb r (a+1),dR,zL,bf,aS];congr 1;apply dP;intro i _;simp![Yl,Zo];rw[show a+1+i=a+i.succ by lia]
def rk(n)(f):j_ 0 ((VW n).map f)=(VW n).map λi=>[NI i,f i]:=by rw[Cb,aB,cG];apply dP;intro i h;rw[cg]at h;rw[lG,pA,cV,pD h];rfl
def Kf(h:x<2^n):x|||2^n=x+2^n:=by have:=Yw h 1;rw[ox]at this;rw[Zm,fg,this]
def i_(n N)(f)(g)(B:N<=1000)(h:∀i,i<N->truth (f i)=N' (g i))(M):C (n+1) .fk [LF N f] M=N' (NI (Wn N g),Q',M):=by
 obtain⟨e',s,a,b,rfl⟩:=eF (M:=M) (tg:=[2,3]) (body:=cO T (C n) (.ite (.v 3) (.aug 1 .or (.bin .shl (.int 1) (.v 2)) .nil) .nil .nil)) (xs:=j_ 0 ((VW N).map f)) (e:=#[[N' (LF N f),N' (.int 0),O',O'],O'])
  (λi e=>∃a b:Option Vl,e=#[[N' (LF N f),N' (NI (Wn i g)),a,b],O']) #[_,_,S'] λj x e q #[a,b,he]=>by
   subst he;rw[rk]at q;obtain⟨u,rfl⟩:=aU q;have o:=h j u;apply#[S',?_];have y:binI .shl 1 (j)=N' ((1*2^j:Nat):Int):=jw (a:=1) 'l' ();apply#[_,?_,N' (NI j),N' (f j),S'];rw[p9];cases r:g j with
   |true=>
    rw[r]at o;erw[o,y,qI];rw[Nat.one_mul,Kf (kj g j)]
   |false=>
    rw[r]at o;erw[o]
 rwa[s];rw[rk];simp
def Wd(k:Nat):Prop:=k=8\/k=16\/k=32\/k=64
def Wd.pos(h:Wd k):0<k:=by rcases h with rfl|rfl|rfl|rfl<;>decide
def Wd.le{k:Nat}(h:Wd k):k<=64:=by rcases h with rfl|rfl|rfl|rfl<;>decide
def Wd.L3(h:Wd k):(((64:Int)-0+k-1)/k).toNat=64/k:=by rcases h with rfl|rfl|rfl|rfl<;>decide
def Wd.dvd(h:Wd k):k∣64:=by rcases h with rfl|rfl|rfl|rfl<;>decide
def Wd.U7(h:Wd k):8*(64/k)=lanes k:=by rcases h with rfl|rfl|rfl|rfl<;>decide
def Wd.S0(h:Wd k):8<=lanes k:=by rcases h with rfl|rfl|rfl|rfl<;>decide
def Wd.le64(h:Wd k):lanes k<=64:=by rcases h with rfl|rfl|rfl|rfl<;>decide
def Wd.inv(h:Wd k):512/lanes k=k:=by rcases h with rfl|rfl|rfl|rfl<;>decide
def mn(f:Nat->α)(n):(VW n).map f++[f n]=(VW (n+1)).map f:=by rw[mG,kq];rfl
abbrev WV(v:Nat):Vl:=LF 8 λj=>NI (lane 64 v j)
abbrev LV(k v:Nat):Vl:=LF (lanes k) λj=>NI (lane k v j)
def xN(n v k:Nat)(o:Wd k)(M):C (n+2) .kC [WV v,NI k] M=N' (LV k v,P',M):=by
 have E:((0:Int).natAbs<=bw/\(64:Int).natAbs<=bw/\(0:Int)<k/\(k:Int)<=bw):=by have:=o.pos;have:=o.le;simp![bw];lia
 have u:=o.pos;have G:=o.le64;have r:∀j l,j<8->∃q:Option Vl,cU [5] (cO T (C (n+1)) (.app 3 (.bin .and (.bin .shr (.v 4) (.v 5)) (.v 2)) .nil)) ((VW (64/k)).map λ(i:Nat)=>[.int (0+i*k)])
   #[[N' (WV v),N' (NI k),N' (NI (2^k-1)),O',N' (NI (lane 64 v j)),l],N' (3,(VW (j*(64/k))).map λt=>NI (lane k v t))] M=N' (.nx #[[N' (WV v),N' (NI k),N' (NI (2^k-1)),O',N' (NI (lane 64 v j)),q],N' (3,(VW ((j+1)*(64/k))).map λt=>NI (lane k v t))] M):=by
  intro j l O
  obtain⟨e',y,q,H⟩:=eF (M:=M) (tg:=[5]) (body:=cO T (C (n+1)) (.app 3 (.bin .and (.bin .shr (.v 4) (.v 5)) (.v 2)) .nil)) (xs:=(VW (64/k)).map λ(i:Nat)=>[.int (0+i*k)])
   (e:=#[[N' (WV v),N' (NI k),N' (NI (2^k-1)),O',N' (NI (lane 64 v j)),l],N' (3,(VW (j*(64/k))).map λt=>NI (lane k v t))])
   (λi e=>∃q:Option Vl,e=#[[N' (WV v),N' (NI k),N' (NI (2^k-1)),O',N' (NI (lane 64 v j)),q],N' (3,(VW (j*(64/k)+i)).map λt=>NI (lane k v t))])
   #[l,S'] λi x e B #[q,he]=>by
    subst he;obtain⟨s,rfl⟩:=aU B;apply#[S',?_];have J:(0:Int)+(i:Int)*(k:Int)=((k*i:Nat):Int):=by rw[cz];simp
    apply#[_,?_,N' (NI (k*i)),S'];have L:j*(64/k)+i<bw:=by have:j*(64/k)<=8*(64/k):=m1 _ 'l';rw[o.U7]at this;have:64/k<=64:=oj _ _;simp![bw];lia
    erw[J,ie,i9,xZ,aB,cG,L,and_self];rw[<-oq,<-mn,ki o.dvd u j i s];rfl
  apply#[q,?_]
  rw[y,H,aB,cG,jd]
 obtain⟨e',y,a,b,rfl⟩:=eF (M:=M) (tg:=[4]) (body:=cO T (C (n+1)) (.iH [5] (.rg (.int 0) (.int 64) (.v 1)) (.app 3 (.bin .and (.bin .shr (.v 4) (.v 5)) (.v 2)) .nil) .nil)) (xs:=(VW 8).map λj=>[NI (lane 64 v j)])
  (e:=#[[N' (WV v),N' (NI k),N' (NI (2^k-1)),O',O',O'],N' (3,[])])
  (λi e=>∃a b:Option Vl,e=#[[N' (WV v),N' (NI k),N' (NI (2^k-1)),O',a,b],N' (3,(VW (i*(64/k))).map λt=>NI (lane k v t))])
  #[_,_,by rw[Nat.zero_mul];rfl] λj x e B #[a,b,he]=>by subst he;obtain⟨s,rfl⟩:=aU B;obtain⟨q,h⟩:=r j b s;apply#[S',_,?_,N' (NI (lane 64 v j)),q,S'];erw[E,o.L3,h]
 rwa[qa n k (by have:=o.le;lia),y,lH];rw[o.U7]
def m8(h:y<2^k):x*2^k|||y=y+2^k*x:=by have:=Yw h x;rw[cz x,<-this,fg]
universe b
def gI(n a b)(f:Nat->Vl)(h:a+b<=n):(((VW n).map f).drop a).take b=(VW b).map λi=>f (a+i):=by apply oa;intro i;rw[ZC];split;rename_i j;rw[XA,cV,pD 'l',cV,pD j];rfl;rename_i j;rw[ej (by simp;lia)]
universe a
def AD(k)(f)(n):pk k f (n+1)=f 0+2^k*pk k (λi=>f (i+1)) n:=by rw[fg n 1,Ax];simp[pk,fg]
def mR(n)(f:Nat->α):((VW n).map f).reverse=(VW n).map λi=>f (n-1-i):=by apply oa;intro i;by_cases h:i<n;rw[Y6 (by simpa using h)];simp![aB,cG,cV];rw[pD (by omega),pD h];rfl;rw[ej (by simp;omega),ej (by simp;omega)]
def AE(h:Wd k)(f)(o:∀i,i<lanes k->f i<2^k)(s:j<8):lane 64 (V0 k f) j=pk k (λi=>f (j*(64/k)+i)) (64/k):=by
 have e:64=k*(64/k):=by rcases h with rfl|rfl|rfl|rfl<;>decide
 have u:j*(64/k)+64/k<=lanes k:=by rw[<-h.U7];have:(j+1)*(64/k)<=8*(64/k):=m1 _ 'l';rw[jd]at this;show this
 apply p7 (k:=k) (n:=64/k) ?_ ?_ λt q=> ?_;rw[<-e];show az _ _ _;show sS λi r=>o _ 'l';rw[<-ki h.dvd h.pos j t q,fE 'l',aj (o _ 'l')];show(DU (f:=λi=>f (j*(64/k)+i)) (λi r=>o _ 'l') q).symm
def AF(n k:Nat)(f:Nat->Nat)(q:Wd k)(E:∀i,i<lanes k->f i<2^k)(M):C (n+1) .l0 [LF (lanes k) λi=>NI (f i),NI k] M=N' (WV (V0 k f),P',M):=by
 have s:=q.pos;have Q:=q.le64;have G:=q.le;have K:0<64/k:=Nat.div_pos G s;have U:64/k<=64:=oj _ _;have X:binI .fdiv 64 (k)=N' ((64/k:Nat):Int):=ig (a:=64) s 'l';have Y:((0:Int).natAbs<=bw/\((lanes k):Int).natAbs<=bw/\(0)<((64/k:Nat):Int)/\((64/k:Nat):Int)<=bw):=by simp![bw];lia
 have Z:((((lanes k):Int)-0+((64/k:Nat):Int)-1)/((64/k:Nat):Int)).toNat=8:=by rcases q with rfl|rfl|rfl|rfl<;>decide
 have r:∀(j:Nat) (a b:Option Vl) (u:List Vl),j<8->∃o:Option Vl,cU [6] (cO T (C n) (.set 5 (.bin .or (.bin .shl (.v 5) (.v 1)) (.v 6)) .nil)) (((VW (64/k)).map λi=>NI (f (j*(64/k)+i))).reverse.map λx=>[x])
   #[[N' (LF (lanes k) λi=>NI (f i)),N' (NI k),N' (NI (64/k)),O',a,N' (.int 0),b],N' (3,u)] M=N' (.nx #[[N' (LF (lanes k) λi=>NI (f i)),N' (NI k),N' (NI (64/k)),O',a,N' (NI (lane 64 (V0 k f) j)),o],N' (3,u)] M):=by
  intro j a b u F
  have P:j*(64/k)+64/k<=lanes k:=by rw[<-q.U7];have:(j+1)*(64/k)<=8*(64/k):=m1 _ 'l';rw[jd]at this;show this
  obtain⟨e',H,o,D⟩:=eF (M:=M) (tg:=[6]) (body:=cO T (C n) (.set 5 (.bin .or (.bin .shl (.v 5) (.v 1)) (.v 6)) .nil)) (xs:=((VW (64/k)).map λi=>NI (f (j*(64/k)+i))).reverse.map λx=>[x])
   (e:=#[[N' (LF (lanes k) λi=>NI (f i)),N' (NI k),N' (NI (64/k)),O',a,N' (.int 0),b],N' (3,u)])
   (λt e=>∃o:Option Vl,e=#[[N' (LF (lanes k) λi=>NI (f i)),N' (NI k),N' (NI (64/k)),O',a,N' (NI (pk k (λi=>f (j*(64/k)+(64/k-t)+i)) t)),o],N' (3,u)])
   #[b,S'] λt x e B #[o,he]=>by
    subst he;rw[mR,aS]at B;obtain⟨y,rfl⟩:=aU B;apply#[S',_,?_,N' (NI (f (j*(64/k)+(64/k-1-t)))),S'];have V:pk k (λi=>f (j*(64/k)+(64/k-t)+i)) t<2^(k*t):=sS λi N=>E _ 'l';have J:pk k (λi=>f (j*(64/k)+(64/k-t)+i)) t<2^200:=aW V (dh 'l' (by have:k*t<=k*(64/k):=Dh _ 'l';have:=Nat.mul_div_le 64 k;lia));have L:=E (j*(64/k)+(64/k-1-t)) 'l';erw[Yl,jw (show k<=100000 by lia) J,qI,m8 L,AD];have R:∀i,j*(64/k)+(64/k-(t+1))+(i+1)=j*(64/k)+(64/k-t)+i:=λi=>by lia
    have I:j*(64/k)+(64/k-(t+1))+0=j*(64/k)+(64/k-1-t):=by lia
    simp![R,I]
  apply#[o,?_]
  rw[H,D,AE q f E F]
  simp![aB,Dg,cG,XU,lF]
 obtain⟨e',H,a,b,c,rfl⟩:=eF (M:=M) (tg:=[4]) (body:=cO T (C n) (.set 5 (.int 0) (.iH [6] (.rev (.sl (.v 0) (.v 4) (.bin .add (.v 4) (.v 2)))) (.set 5 (.bin .or (.bin .shl (.v 5) (.v 1)) (.v 6)) .nil) (.app 3 (.v 5) .nil)))) (xs:=(VW 8).map λ(i:Nat)=>[.int (0+i*((64/k:Nat):Int))])
  (e:=#[[N' (LF (lanes k) λi=>NI (f i)),N' (NI k),N' (NI (64/k)),O',O',O',O'],N' (3,[])])
  (λi e=>∃a b c:Option Vl,e=#[[N' (LF (lanes k) λi=>NI (f i)),N' (NI k),N' (NI (64/k)),O',a,b,c],N' (3,(VW i).map λt=>NI (lane 64 (V0 k f) t))])
  #[_,_,_,S'] λj x e B #[a,b,c,he]=>by
   subst he;obtain⟨y,rfl⟩:=aU B;have S:(0:Int)+(j:Int)*((64/k:Nat):Int)=((j*(64/k):Nat):Int):=by simp
   obtain⟨o,h⟩:=r j (N' (NI (j*(64/k)))) c ((VW j).map λt=>NI (lane 64 (V0 k f) t)) y;apply#[S',_,?_,N' (NI (j*(64/k))),N' (NI (lane 64 (V0 k f) j)),o,S'];have P:j*(64/k)+64/k<=lanes k:=by rw[<-q.U7];have:(j+1)*(64/k)<=8*(64/k):=m1 _ 'l';rw[jd]at this;show this
   have A:sG ((VW (lanes k)).map λi=>NI (f i)) ((j*(64/k):Nat):Int) ((j*(64/k)+64/k:Nat):Int)=N' (.lst ((VW (64/k)).map λi=>NI (f (j*(64/k)+i))),P'):=by unfold sG;rw[ae 'l',dQ,dQ,vE,gI _ _ _ _ P]
   have O:j<bw:=by simp![bw];lia
   erw[S,fF,A,h,O,mn λt=>NI (lane 64 (V0 k f) t)]
 rwa[X,Y,Z,H,lH]
def qQ(f:Nat->α)(a b):(VW a).map f++(VW b).map (λi=>f (a+i))=(VW (a+b)).map f:=by rw[Yx,kq,aS];rfl
def Cc(n s t)(f g:Nat->Vl)(h:Nat->Nat->Vl)(A:Vl)(M)(B:0<s)(E:s<=100)(G:0<t)(H:t<=100)(fr) (J:∀q,q<4->nH (C n) A [LF s λi=>f (q*s+i),LF s λi=>g (q*s+i)] M=N' (LF t (h q),fr)):C (n+1) .fQ [LF (4*s) f,LF (4*s) g,A] M=N' (LF (4*t) λi=>h (i/t) (i % t),P',M):=by
 have L:binI .fdiv ((4*s:Nat):Int) 4=N' ((s):Int):=by rw[show(4)=((4:Nat):Int)from rfl,ig () ()];congr 2;lia
 have O:((0:Int).natAbs<=bw/\((4*s:Nat):Int).natAbs<=bw/\(0:Int)<(s:Int)/\(s:Int)<=bw):=by simp![bw];lia
 have P:((((4*s:Nat):Int)-0+(s:Int)-1)/(s:Int)).toNat=4:=by
  have:(((4*s:Nat):Int)-0+(s:Int)-1)=((s-1+s*4:Nat):Int):=by lia
  rw[this,<-Yh,dQ,qY _ _ B,ja 'l']
 obtain⟨e',Q,a,rfl⟩:=eF (M:=M) (tg:=[5]) (body:=cO T (C n) (.ext 4 (.sF 2 (.cons (.sl (.v 0) (.v 5) (.bin .add (.v 5) (.v 3))) (.cons (.sl (.v 1) (.v 5) (.bin .add (.v 5) (.v 3))) .nil))) .nil)) (xs:=(VW 4).map λ(i:Nat)=>[.int (0+i*(s:Int))])
  (e:=#[[N' (LF (4*s) f),N' (LF (4*s) g),N' A,N' (NI s),O',O'],N' (4,[])])
  (λi e=>∃a:Option Vl,e=#[[N' (LF (4*s) f),N' (LF (4*s) g),N' A,N' (NI s),O',a],N' (4,(VW (i*t)).map λi=>h (i/t) (i % t))])
  #[_,by rw[Nat.zero_mul];rfl] λj x e U #[a,he]=>by
   subst he;obtain⟨o,rfl⟩:=aU U;have X:(0:Int)+(j:Int)*(s:Int)=((j*s:Nat):Int):=by simp
   apply#[S',_,?_,N' (NI (j*s)),S'];have Y:j*s+s<=4*s:=by have:(j+1)*s<=4*s:=m1 _ 'l';rw[jd]at this;show this
   have Z:j*t+t<=4*t:=by have:(j+1)*t<=4*t:=m1 _ 'l';rw[jd]at this;show this
   have F:∀f:Nat->Vl,sG ((VW (4*s)).map f) ((j*s:Nat):Int) ((j*s+s:Nat):Int)=N' (.lst ((VW s).map λi=>f (j*s+i)),P'):=λf=>by unfold sG;rw[ae 'l',dQ,dQ,vE,gI _ _ _ _ Y]
   have r:j*t+t<=bw:=by simp![bw];lia
   have u:=J j o;erw[X,fF,F,r,u];rw[show(j+1)*t=j*t+t from jd j t,<-qQ];have D:(VW t).map (h j)=(VW t).map λi=>h ((j*t+i)/t) ((j*t+i) % t):=by apply dP;intro i y;rw[cg]at y;rw[cz j t,Nat.mul_add_div G,ja y,lF,Nat.mul_add_mod,aj y]
   rw[D]
 rwa[L,O,P,Q,lH]
@[irreducible] noncomputable def mS(m:Nat->UInt8):List Int:=(VW 65536).map λj=>((m j).toNat:Int)
def af(s:Sg40.Machine):xu:=#[(VW 128).map λj=>(lane 64 (s.v (j/8)) (j % 8):Int),(VW 8).map λj=>(s.p j:Int),(VW 16).map λj=>(s.x j:Int),(WU s:Int),mS s.mem]
structure mq(s:Sg40.Machine):Prop where
 v:∀j,s.v j<2^512
 p:∀j,s.p j<2^64
 x:∀j,s.x j<2^64
 p0:s.p 0=ALL
instance ag(i:Ins):Ord:=#[P',(i.op:Nat),(i.k:Nat),(lanes i.k:Int),i.zero,(i.d:Nat),(i.a:Nat),(i.b:Nat),(i.g:Nat),i.z,(i.z.toNat:Int)]
structure b8(i:Ins):Prop where
 op:i.op<256
 k:Wd i.k
 d:i.d<16
 a:i.a<16
 b:i.b<16
 g:i.g<8
 lo: -2^31<=i.z
 hi:i.z<2^31
def DV(s):(af s).v=(VW 128).map λj=>(lane 64 (s.v (j/8)) (j % 8):Int):=rfl
def wL(s):(af s).p=(VW 8).map λj=>(s.p j:Int):=rfl
def wM(s):(af s).x=(VW 16).map λj=>(s.x j:Int):=rfl
def aK(h:i<n)(f:Nat->α):((VW n).map f)[i]?=N' (f i):=by rw[cV,pD h];rfl
def b5(n d:Nat)(s):C (n+1) .a0 [.cT,NI d] (N' (af s))=N' (NI (s.p (d % 8)),Q',N' (af s)):=by
 have o:binI .mod (d) 8=N' ((d % 8:Nat):Int):=gk (b:=8) ();have h:(0)<=((d % 8:Nat):Int):=by omega
 have q:((VW 8).map λj=>SV.int (s.p j:Int))[d % 8]?=N' (NI (s.p (d % 8))):=aK (by omega) _;rwa[o,wL,aS,tO,h,dQ,q]
def ba(n d:Nat)(q:d<16)(s):C (n+1) .aL [.cT,NI d] (N' (af s))=N' (NI (s.x d),Q',N' (af s)):=by
 have h:(0)<=((d):Int):=by omega
 have o:((VW 16).map λj=>SV.int (s.x j:Int))[d]?=N' (NI (s.x d)):=aK (by omega) _;rwa[wM,aS,tO,h,dQ,o]
universe b
def set_range(n i:Nat)(f)(y:α):((VW n).map f).set i y=(VW n).map λj=>if j=i then y else f j:=by apply oa;intro j;by_cases o:j<n;rw[aK o,ZQ];simp![aB,cG];split;rename_i h;subst h;simp[o];rename_i h;rw[aK o,ab (λe=>h e.symm)];rw[ej (by simp;omega),ej (by simp;omega)]
universe a
def HJ(s)(d w)(h:d % 8≠0):af (Xr s d w)=#[(af s).v,(af s).p.set (d % 8) (w),(af s).x,(af s).f,(af s).c]:=by unfold Xr;rw[ab h,wL,set_range];unfold af WU;simp![put];congr 1;apply dP;intro j _;split<;>rfl
def gJ(n d w)(s):C (n+1) .cj [.cT,NI d,NI w] (N' (af s))=N' (.bQ,Q',N' (af (Xr s d w))):=by
 have o:binI .mod (d) 8=N' ((d % 8:Nat):Int):=gk (b:=8) ();by_cases h:d % 8=0;have j:cF .ne ((d % 8:Nat):Int) 0=false:=by simp![h];rfl
 have q:Xr s d w=s:=by unfold Xr;rw[ae h]
 rwa[o,j,q];have j:cF .ne ((d % 8:Nat):Int) 0=true:=by simp![cF];rw[bp (by omega)];rfl
 have r:(0)<=((d % 8:Nat):Int)/\((d % 8:Nat):Int)<((8:Nat):Int):=by omega
 rw[HJ s d w h];rwa[o,j,wL,r,xu.put,dQ]
def HK(s)(d w):af (setX s d w)=#[(af s).v,(af s).p,(af s).x.set d (w),(af s).f,(af s).c]:=by unfold setX;rw[wM,set_range];unfold af WU;simp![put];congr 1;apply dP;intro j _;split<;>rfl
def d8(n d)(z)(o:d<16)(s):C (n+3) .cN [.cT,NI d,.int z] (N' (af s))=N' (.bQ,Q',N' (af (setX s d (Wb 64 z)))):=by
 have h:(0)<=((d):Int)/\((d):Int)<((16:Nat):Int):=by omega
 have j:C (n+2) .cut [.int z,.int 64] (N' (af s))=N' (NI (Wb 64 z),Q',N' (af s)):=jS n z 64 () _;rw[HK];rwa[j,wM,h,xu.put,dQ]
def mU(n)(a b)(s):C (n+1) .ia [.cT,BI a,BI b] (N' (af s))=N' (.bQ,Q',N' (af {s with z:=a,c:=b})):=by cases a<;>cases b<;>(rwa[])<;>rfl
def ak(n d k)(y:d<16)(h:Wd k)(s):C (n+3) .aa [.cT,NI d,NI k] (N' (af s))=N' (LV k (s.v d),P',N' (af s)):=by
 have o:binI .mul 8 (d)=N' ((8*d:Nat):Int):=nL (a:=8) (.inl ());have q:binI .add ((8*d:Nat):Int) 8=N' ((8*d+8:Nat):Int):=fF (8*d) 8;have r:sG ((VW 128).map λj=>NI (lane 64 (s.v (j/8)) (j % 8))) ((8*d:Nat):Int) ((8*d+8:Nat):Int)=N' (WV (s.v d),P'):=by unfold sG;rw[ae (by omega),dQ,dQ,vE,gI _ _ _ _ (by omega)];congr 3;apply dP;intro i u;rw[cg]at u;rw[show(8*d+i)/8=d by omega,show(8*d+i) % 8=i by omega]
 rwa[o,q,DV,aS,tO,r,xN n (s.v d) k h]
def HL(s)(d w):af {s with v:=put s.v d w}=#[(VW 128).map λj=>(((if j/8=d then lane 64 w (j % 8)else lane 64 (s.v (j/8)) (j % 8)):Nat):Int),(af s).p,(af s).x,(af s).f,(af s).c]:=by unfold af WU;simp![put];congr 1;apply dP;intro j _;split<;>rfl
def OK(h:Wd k):binI .fdiv 512 ((lanes k):Int)=N' ((k):Int):=by have:=h.S0;have:=h.le64;rw[show(512)=((512:Nat):Int)from rfl,ig (by omega) (by omega),h.inv]
def m9(n d k)(f)(J:d<16)(h:Wd k)(y:∀i,i<lanes k->f i<2^k)(s):C (n+2) .gO [.cT,NI d,LF (lanes k) λi=>NI (f i)] (N' (af s))=N' (.bQ,Q',N' (af {s with v:=put s.v d (V0 k f)})):=by
 obtain⟨e',L,o,q,a,b,rfl⟩:=Ag (M:=N' (af s)) (tg:=[3,4]) (body:=cO T (C (n+1)) (.xJ 0 .vec (.bin .add (.bin .mul (.int 8) (.v 1)) (.v 3)) (.v 4) .nil)) (xs:=(VW 8).map λi=>[NI i,NI (lane 64 (V0 k f) i)])
  (e:=#[[N' .cT,N' (NI d),N' (LF (lanes k) λi=>NI (f i)),O',O'],O'])
  (λi e M=>M=N' #[(VW 128).map λj=>(((if j/8=d/\j % 8<i then lane 64 (V0 k f) (j % 8)else lane 64 (s.v (j/8)) (j % 8)):Nat):Int),(af s).p,(af s).x,(af s).f,(af s).c]/\∃a b:Option Vl,e=#[[N' .cT,N' (NI d),N' (LF (lanes k) λi=>NI (f i)),a,b],O'])
  #[by simp[af],_,_,S'] λj x e M B #[q,a,b,he]=>by
   subst he;subst q;obtain⟨E,rfl⟩:=aU B;apply#[S',_,_,?_,S',N' (NI j),N' (NI (lane 64 (V0 k f) j)),S'];have G:binI .mul 8 (d)=N' ((8*d:Nat):Int):=nL (a:=8) (.inl ());have o:(0)<=((8*d+j:Nat):Int)/\((8*d+j:Nat):Int)<((128:Nat):Int):=by omega
   erw[G,fF,xu.put,o,dQ];rw[set_range];congr 4;apply dP;intro t H;by_cases r:t=8*d+j;rw[ae r,ae (by omega)];rw[show t % 8=j by omega];rw[ab r];by_cases u:t/8=d/\t % 8<j;rw[ae u,ae (by omega)];rw[ab u,ab (by omega)]
 subst q;have O:512/lanes k=k:=h.inv;rw[HL];rwa[OK h,AF n k f h y,rk,o];apply congrArg (λl=>N' (SV.bQ,Q',N' (xu.mk l (af s).p (af s).x (af s).f (af s).c)));apply dP;intro t H;have:t % 8<8:=au _ ();simp[this]
def sV(n k)(i)(q:b8 i)(h:Wd k)(s):C (n+4) .jO [.cT,.ord (ag i),NI k] (N' (af s))=N' (LF (lanes k) λj=>NI (if i.zero=P' then 0 else lane k (s.v i.d) j),P',N' (af s)):=by
 have r:binI .fdiv 512 (k)=N' ((lanes k):Int):=ig (a:=512) h.pos (by have:=h.le;omega);have u:=h.le64;cases o:i.zero with
 |true=>
  rwa[ag,o,r,kY (show lanes k<=1000 by omega),lH];rfl
 |false=>
  rwa[ag,o,ak n i.d k q.d h]
def g8(h:b8 i):i.g % 8=i.g:=aj h.g
universe b
def sW(n k x)(i)(G:b8 i)(B:Wd k)(f:Nat->Nat)(s)(L:∀j,j<lanes k->bit (s.p i.g) j=P'->f j=lane k x j):C (n+5) .jN [.cT,.ord (ag i),LF (lanes k) λj=>NI (f j)] (N' (af s))=N' (.bQ,Q',N' (af (setV i s k x))):=by
 have P:=B.le64;obtain⟨e',r,a,b,rfl⟩:=eF (M:=N' (af s)) (tg:=[5,6]) (body:=cO T (C (n+4)) (.ite (.call .cA (.cons (.v 3) (.cons (.v 5) .nil))) (.put 4 (.v 5) (.v 6) .nil) .nil .nil)) (xs:=(VW (lanes k)).map λi=>[NI i,NI (f i)])
  (e:=#[[N' .cT,N' (.ord (ag i)),N' (LF (lanes k) λj=>NI (f j)),N' (NI (s.p i.g)),O',O',O'],N' (4,(VW (lanes k)).map λj=>NI (if i.zero=P' then 0 else lane k (s.v i.d) j))])
  (λt e=>∃a b:Option Vl,e=#[[N' .cT,N' (.ord (ag i)),N' (LF (lanes k) λj=>NI (f j)),N' (NI (s.p i.g)),O',a,b],N' (4,(VW (lanes k)).map λj=>NI (if j<t/\bit (s.p i.g) j=P' then f j else if i.zero=P' then 0 else lane k (s.v i.d) j))])
  #[O',O',by simp] λt y e Q #[a,b,he]=>by
   subst he;obtain⟨U,rfl⟩:=aU Q;apply#[S',_,?_,N' (NI t),N' (NI (f t)),S'];have r:(0)<=((t):Int)/\((t):Int)<((lanes k):Int):=by omega
   cases E:bit (s.p i.g) t with
   |true=>
    erw[dJ,E,r,dQ];rw[set_range];congr 5;apply dP;intro j q;by_cases h:j=t;subst h;rw[ae S',ae #[by omega,E]];rw[ab h];by_cases o:j<t/\bit (s.p i.g) j=P';rw[ae o,ae #[by omega,o.2]];have H:¬(j<t+1/\bit (s.p i.g) j=P'):=λu=>o #[by omega,u.2];rw[ab o,ab H]
   |false=>
    erw[dJ,E];congr 5;apply dP;intro j q;by_cases o:j<t/\bit (s.p i.g) j=P';rw[ae o,ae #[by omega,o.2]];have H:¬(j<t+1/\bit (s.p i.g) j=P'):=λu=>by apply o #[?_,u.2];by_cases h:j=t;subst h;rw[E]at u;show absurd u.2 (by simp);omega
    rw[ab o,ab H]
 have J:∀j,j<lanes k->(if j<lanes k/\bit (s.p i.g) j=P' then f j else if i.zero=P' then 0 else lane k (s.v i.d) j)<2^k:=λj q=>by split;rename_i h;rw[L j q h.2];show az _ _ _;split;show tp k;show az _ _ _
 have O:=sV n k i G B s;have X:=m9 (n+2) i.d k _ G.d B J s;have Y:setV i s k x={s with v:=put s.v i.d (V0 k λj=>if j<lanes k/\bit (s.p i.g) j=P' then f j else if i.zero=P' then 0 else lane k (s.v i.d) j)}:=by unfold setV laid;congr 2;apply kx;intro j q;simp![q,true_and];by_cases h:bit (s.p i.g) j=P';rw[ae h,ae h,L j q h];rw[ab h,ab h]
 rw[Y];simp![aB,cG]at r;simp![ag]at r O;rwa[ag,b5,g8 G,OK B,O,iD,rk,r,X]
universe a
def fin{R S:Nat}{M:gf}{b:Bool}(h:R=S):N' ((NI R:Vl),b,M)=N' (NI S,b,M):=by rw[h]
def Kg{z:Int}{S:Nat}{M:gf}{b:Bool}(h:z=(S)):N' ((SV.int z:Vl),b,M)=N' (NI S,b,M):=by rw[h]
def Wd.HM(h:Wd k):2^k<=2^64:=dh () h.le
def Wd.one(h:Wd k):1<=k:=h.pos
def Wd.aZ(h:Wd k):k<=1000:=by have:=h.le;lia
def Wd.klt(h:Wd k):k<2^k:=by rcases h with rfl|rfl|rfl|rfl<;>decide
def kl{k x y:Nat}(h:y<=2^k):Wb k ((x)-y)=(x+2^k-y) % 2^k:=by
 have e:((x)-y) % 2^k=((x:Int)-y+2^k) % 2^k:=by simp
 unfold Wb;rw[e,pw];have:(x)-y+((2^k:Nat):Int)=((x+2^k-y:Nat):Int):=by lia
 rw[this,<-zS,dQ]
def rp{k x:Nat}(h:x<=2^k):Wb k (-(x))=(2^k-x) % 2^k:=by have:=kl (k:=k) (x:=0) (y:=x) h;simpa using this
universe b
def oS(o:1<=k)(j:x<2^k):(VX k x=x/\x<2^(k-1))\/(VX k x=(x)-(2^k:Nat)/\2^(k-1)<=x):=by unfold VX;rw[aj j,pw];split;rename_i h;show .inl #[S',h];rename_i h;show .inr #[S',by lia]
universe a
def wN(j:1<=k)(o:x<2^k):(VX k x).natAbs<=2^(k-1):=by have:=pw1 j;rcases oS j o with⟨h,q⟩|⟨h,q⟩<;>rw[h]<;>omega
def fL{k x:Nat}(o:1<=k)(j:x<2^k):Wb k (VX k x)=x:=by rcases oS o j with⟨h,q⟩|⟨h,q⟩<;>rw[h];rw[aQ,aj j];rw[kl (aI _),Nat.add_sub_cancel,aj j]
def jj(k)(z):Wb k z % 2^k=Wb k z:=aj (ug k z)
def mr(k)(z):Xf k z<2^k:=ug _ _
def sX(k)(z):K' k z<2^k:=by have:=tp k;have e:=pw k;unfold K';split;omega;split<;>omega
section
variable {n x y k d:Nat} {z:Int} {M:gf}
def p_1(h:Wd k):C (n+6) .nA [NI x,NI y,NI k] M=N' (NI ((each 1 k x y d z).getD 0 % 2^k),Q',M):=by rwa[fF,gR _ _ k h.aZ];show fin (gq _ _).symm
def p_2(h:Wd k)(j:y<2^k):C (n+6) .g7 [NI x,NI y,NI k] M=N' (NI ((each 2 k x y d z).getD 0 % 2^k),Q',M):=by rwa[lr,jS _ _ k h.aZ,kl (gp j)];show fin (gq _ _).symm
def p_3(h:Wd k)(j:x<2^k):C (n+6) .g_ [NI x,NI y,NI k] M=N' (NI ((each 3 k x y d z).getD 0 % 2^k),Q',M):=by have:=h.HM;rwa[nL (show x<2^64\/y<2^64 by lia),gR _ _ k h.aZ];show fin (gq _ _).symm
def p_4(h:Wd k)(j:x<2^k)(o:y<2^k):C (n+6) .iP [NI x,NI y,NI k] M=N' (NI ((each 4 k x y d z).getD 0 % 2^k),Q',M):=by have:=h.HM;rwa[nL (show x<2^64\/y<2^64 by lia),ie];apply fin (aj ?_).symm;rw[zN (tp k)];show Nat.mul_lt_mul'' j o
def Kh(h:Wd k)(j:x<2^k):(VX k x).natAbs<2^64:=by have o:=wN h.one j;have q:=pw1 h.one;have r:=h.HM;have:=tp (k-1);lia
def p_5(h:Wd k)(j:x<2^k)(o:y<2^k):C (n+6) .dr [NI x,NI y,NI k] M=N' (NI ((each 5 k x y d z).getD 0 % 2^k),Q',M):=by rwa[bc _ x k h.one h.aZ j,bc _ y k h.one h.aZ o,rj (.inl (Kh h j)),Ay,jS _ _ k h.aZ];show fin (jj _ _).symm
def p_6(o:Wd k)(q:x<2^k)(r:y<2^k):C (n+6) .sy [NI x,NI y,NI k] M=N' (NI ((each 6 k x y d z).getD 0 % 2^k),Q',M):=by have h:binI .add ((x+y:Nat):Int) 1=N' ((x+y+1:Nat):Int):=fF (x+y) 1;have j:binI .fdiv ((x+y+1:Nat):Int) 2=N' (((x+y+1)/2:Nat):Int):=ig (b:=2) () ();rwa[fF,h,j];apply fin (aj ?_).symm;lia
def p_7(j:x<2^k)(o:y<2^k):C (n+6) .apart [NI x,NI y,NI k] M=N' (NI ((each 7 k x y d z).getD 0 % 2^k),Q',M):=by
 rwa[lr];have h:(if x<y then y-x else x-y)<2^k:=by split<;>lia
 apply Kg ?_;show _=(((if x<y then y-x else x-y) % 2^k:Nat):Int);rw[aj h];split<;>split<;>lia
def p_8(h:x<2^k)(j:y<2^k):C (n+6) .wb [NI x,NI y,NI k] M=N' (NI ((each 8 k x y d z).getD 0 % 2^k),Q',M):=by rwa[];apply Kg ?_;show _=((min x y % 2^k:Nat):Int);rw[aj 'l'];split<;>lia
def p_9(h:x<2^k)(j:y<2^k):C (n+6) .sC [NI x,NI y,NI k] M=N' (NI ((each 9 k x y d z).getD 0 % 2^k),Q',M):=by rwa[];apply Kg ?_;show _=((max x y % 2^k:Nat):Int);rw[aj 'l'];split<;>lia
def abd(h:Wd k)(j:x<2^k)(o:y<2^k):C (n+6) .iQ [NI x,NI y,NI k] M=N' (NI ((each 10 k x y d z).getD 0 % 2^k),Q',M):=by rwa[bc _ x k h.one h.aZ j,bc _ y k h.one h.aZ o,jS _ _ k h.aZ];apply fin ?_;show _=(if VX k x<=VX k y then x else y) % 2^k;split;rw[ab 'l',fL h.one o,aj o];rw[ae 'l',fL h.one j,aj j]
universe b
def abe(j:Wd k)(o:x<2^k)(q:y<2^k):C (n+6) .hF [NI x,NI y,NI k] M=N' (NI ((each 11 k x y d z).getD 0 % 2^k),Q',M):=by
 rwa[bc _ x k j.one j.aZ o,bc _ y k j.one j.aZ q,jS _ _ k j.aZ];apply fin ?_;show _=(if VX k x<=VX k y then y else x) % 2^k;have e:VX k x=VX k y->x=y:=λh=>by rw[<-fL j.one o,h,fL j.one q]
 split;rw[ae 'l',fL j.one q,aj q];split;rename_i r s;have:=e 'l';subst this;rw[fL j.one o,aj o];rw[fL j.one o,aj o]
universe a
def abf(h:Wd k)(j:x<2^k)(o:y<2^k):C (n+6) .gE [NI x,NI y,NI k] M=N' (NI ((each 12 k x y d z).getD 0 % 2^k),Q',M):=by rwa[bc _ x k h.one h.aZ j,bc _ y k h.one h.aZ o,jR,gQ _ _ k h.one h.aZ];show fin (aj (mr _ _)).symm
def abg(h:Wd k):C (n+6) .pQ [NI x,NI y,NI k] M=N' (NI ((each 13 k x y d z).getD 0 % 2^k),Q',M):=by rwa[jR,Az _ _ k h.aZ];show fin (aj (sX _ _)).symm
def abh(h:Wd k)(j:x<2^k)(o:y<2^k):C (n+6) .dt [NI x,NI y,NI k] M=N' (NI ((each 14 k x y d z).getD 0 % 2^k),Q',M):=by rwa[bc _ x k h.one h.aZ j,bc _ y k h.one h.aZ o,lr,gQ _ _ k h.one h.aZ];show fin (aj (mr _ _)).symm
def abi(h:Wd k):C (n+6) .iR [NI x,NI y,NI k] M=N' (NI ((each 15 k x y d z).getD 0 % 2^k),Q',M):=by rwa[lr,Az _ _ k h.aZ];show fin (aj (sX _ _)).symm
def abj(j:x<2^k)(h:y<2^k):C (n+6) .hH [NI x,NI y,NI k] M=N' (NI ((each 16 k x y d z).getD 0 % 2^k),Q',M):=by rwa[i9];show fin (aj (vL x h)).symm
def abk(h:x<2^k)(j:y<2^k):C (n+6) .iS [NI x,NI y,NI k] M=N' (NI ((each 17 k x y d z).getD 0 % 2^k),Q',M):=by rwa[qI];show fin (aj (tQ h j)).symm
def abl(h:x<2^k)(j:y<2^k):C (n+6) .du [NI x,NI y,NI k] M=N' (NI ((each 18 k x y d z).getD 0 % 2^k),Q',M):=by rwa[qP];show fin (aj (m2 h j)).symm
def rA{k x:Nat}(h:x<2^k):Wb k (kR (x))=2^k-1-x:=by
 have e:kR (x)= -((x+1:Nat):Int):=by unfold kR;lia
 rw[e,rp 'l',aj 'l'];lia
def abm(h:Wd k)(j:x<2^k)(o:y<2^k):C (n+6) .ew [NI x,NI y,NI k] M=N' (NI ((each 19 k x y d z).getD 0 % 2^k),Q',M):=by rwa[jS _ _ k h.aZ,rA j,i9];show fin (aj (vL _ o)).symm
def U8(a b:Nat):cF .ge (a) (b)=decide (b<=a):=by simp![cF];congr 1;apply propext;lia
def abn(j:Wd k)(o:x<2^k)(q:y<2^k):C (n+6) .fV [NI x,NI y,NI k] M=N' (NI ((each 20 k x y d z).getD 0 % 2^k),Q',M):=by have r:=j.HM;have s:=j.le;by_cases h:k<=y;rwa[U8,h];apply fin (R:=0) ?_;show 0=(if y<k then x*2^y % 2^k else 0) % 2^k;rw[ab 'l',Y2];rwa[U8,h,jw (show y<=100000 by lia) (show x<2^200 by lia),gR _ _ k j.aZ];apply fin ?_;show _=(if y<k then x*2^y % 2^k else 0) % 2^k;rw[ae 'l',gq]
def abo(o:Wd k)(j:x<2^k)(q:y<2^k):C (n+6) .fo [NI x,NI y,NI k] M=N' (NI ((each 21 k x y d z).getD 0 % 2^k),Q',M):=by by_cases h:k<=y;rwa[U8,h];apply fin (R:=0) ?_;show 0=(if y<k then x/2^y else 0) % 2^k;rw[ab 'l',Y2];rwa[U8,h,ie];apply fin ?_;show _=(if y<k then x/2^y else 0) % 2^k;rw[ae 'l',aj (jf (oj _ _) j)]
def abp(h:Wd k)(j:x<2^k):C (n+6) .ez [NI x,NI y,NI k] M=N' (NI ((each 22 k x y d z).getD 0 % 2^k),Q',M):=by
 have o:binI .sub (k) 1=N' ((k-1:Nat):Int):=p_ (b:=1) h.one;have q:(if((k-1:Nat):Int)<(y)then((k-1:Nat):Int)else(y))=((min y (k-1):Nat):Int):=by split<;>omega
 rwa[bc _ x k h.one h.aZ j,o,q,Ay,jS _ _ k h.aZ];show fin (jj _ _).symm
end
section
variable {n x y k d:Nat} {z:Int} {M:gf}
def wO(h:x<2^k)(j:m<=k):x/2^(k-m)<2^m:=by rw[zN (tp _),<-dB];rw[show m+(k-m)=k by lia];show h
def abq(h:Wd k)(o:x<2^k):C (n+6) .nB [NI x,NI y,NI k] M=N' (NI ((each 23 k x y d z).getD 0 % 2^k),Q',M):=by have q:=h.HM;have r:=h.le;have j:y % k<k:=au _ h.pos;rwa[gk h.pos,jw (show y % k<=100000 by lia) (show x<2^200 by lia),p_ (gp j),ie,qI,gR _ _ k h.aZ,m8 (wO o (gp j))];apply fin ?_;show _=(x*2^(y % k)+x/2^(k-y % k)) % 2^k % 2^k;rw[gq,fg,cz]
def abr(h:Wd k)(j:x<2^k):C (n+6) .l_ [NI x,NI y,NI k] M=N' (NI ((each 24 k x y d z).getD 0 % 2^k),Q',M):=by
 have u:=h.HM;have B:=h.le;have o:y % k<k:=au _ h.pos;have q:x/2^(y % k)<2^(k-y % k):=by have:=wO (m:=k-y % k) j (by omega);rw[show k-(k-y % k)=y % k by omega]at this;show this
 have r:x/2^(y % k)|||x*2^(k-y % k)=x/2^(y % k)+2^(k-y % k)*x:=by rw[Zm];show m8 q
 rwa[gk h.pos,p_ (gp o),jw (show k-y % k<=100000 by omega) (show x<2^200 by omega),ie,qI,gR _ _ k h.aZ,r];apply fin ?_;show _=(x*2^((k-y % k) % k)+x/2^(k-(k-y % k) % k)) % 2^k % 2^k;rw[gq];by_cases s:y % k=0;rw[s];simp![Y3,Nat.mod_self,qo,ox,rY];rw[ja j,C2,lF];rw[aj (show k-y % k<k by omega),show k-(k-y % k)=y % k by omega,fg,cz]
def abt(h:Wd k)(j:x<2^k):C (n+6) .eA [NI x,NI y,NI k] M=N' (NI ((each 27 k x y d z).getD 0 % 2^k),Q',M):=by rwa[bc _ x k h.one h.aZ j];apply Kg ?_;show _=(((VX k x).natAbs % 2^k % 2^k:Nat):Int);have o:=wN h.one j;have q:=pw1 h.one;have:=tp (k-1);rw[gq,aj 'l'];split<;>lia
def abu(h:Wd k)(j:x<2^k):C (n+6) .negate [NI x,NI y,NI k] M=N' (NI ((each 28 k x y d z).getD 0 % 2^k),Q',M):=by rwa[jS _ _ k h.aZ,rp (gp j)];show fin (gq _ _).symm
def abv(j:Wd k)(s:x<2^k)(q:y<2^k):C (n+6) .hI [NI x,NI y,NI k] M=N' (NI ((each 29 k x y d z).getD 0 % 2^k),Q',M):=by
 have B:(each 29 k x y d z).getD 0 % 2^k=(if VX k y<0 then(2^k-x) % 2^k else if y=0 then 0 else x) % 2^k:=rfl;rw[Aw,B];have E:=oS j.one q;have G:=tp (k-1);by_cases h:y=0;subst h;have o:cF .eq ((0):Int) 0=true:=rfl;rwa[o];apply fin (R:=0) ?_;rw[ab 'l'];simp;have o:cF .eq (y) 0=false:=by simp![cF];rw[bp 'l']
 by_cases u:VX k y<0;have r:cF .gt (VX k y) 0=false:=by simp![cF];rw[bp 'l']
 rwa[o,bc _ y k j.one j.aZ q,r,jS _ _ k j.aZ,rp (gp s)];apply fin ?_;rw[ae u,gq];have r:cF .gt (VX k y) 0=true:=by simp![cF];rw[gU 'l']
 rwa[o,bc _ y k j.one j.aZ q,r];apply fin ?_;rw[ab u,ab h,aj s]
def abw(h:Wd k)(j:x<2^k):C (n+6) .iT [NI x,NI y,NI k] M=N' (NI ((each 30 k x y d z).getD 0 % 2^k),Q',M):=by have o:=h.HM;have q:=FZ k x j;have r:=h.klt;rwa[oR _ x (show x<2^256 by lia)];apply fin ?_;show _=Wx k x % 2^k;rw[vt k x j,aj 'l']
universe b
def xO(k x)(o:x<2^k):zerosAbove k x=if x=0 then k else k-1-x.log2:=by
 unfold zerosAbove;split;rename_i h;subst h;have:((VW k).find? λi=>bit 0 (k-1-i))=none:=by rw[tM];intro i _;simp[bit]
 rw[this];rfl;rename_i h;have q:x.log2<k:=(Yk h).mpr o;have:((VW k).find? λi=>bit x (k-1-i))=N' (k-1-x.log2):=by rw[zI];apply#[?_,by simp;omega,λj r=> ?_];rw[show k-1-(k-1-x.log2)=x.log2 by omega,b_];show Nat.testBit_log2 h;rw[b_,n0];rfl;have:x<2^(x.log2+1):=Nat.lt_log2_self;show aW this (dh () (by omega))
 rw[this];rfl
universe a
def Cd(x:Nat):pS (x)=if x=0 then 0 else(x.log2:Int)+1:=by unfold pS;simp
def abx(o:Wd k)(j:x<2^k):C (n+6) .kD [NI x,NI y,NI k] M=N' (NI ((each 31 k x y d z).getD 0 % 2^k),Q',M):=by have q:=o.klt;rwa[Cd,lr];apply Kg ?_;show _=((zerosAbove k x % 2^k:Nat):Int);rw[xO k x j];by_cases h:x=0;rw[ae h,ae h,aj (by omega)];omega;have r:x.log2<k:=(Yk h).mpr j;rw[ab h,ab h,aj (by omega)];omega
def aby(h:Wd k)(j:x<2^k)(o:y<2^k):C (n+6) .gF [NI x,NI y,NI k] M=N' (NI ((each 32 k x y d z).getD 0 % 2^k),Q',M):=by
 have q:2<=k:=by rcases h with rfl|rfl|rfl|rfl<;>decide
 have r:binI .sub (k) 2=N' ((k-2:Nat):Int):=p_ (b:=2) q;have s:∀a:Int,binI .shr a 1=N' (a/2):=λa=>Ay a 1;rwa[bc _ x k h.one h.aZ j,bc _ y k h.one h.aZ o,rj (.inl (Kh h j)),r,Ay,jR,s,jS _ _ k h.aZ];show fin (jj _ _).symm
end
def je(n:Nat)(f g:Nat->Vl):Wj (λx y=>[x,y]) ((VW n).map f) ((VW n).map g)=(VW n).map λi=>[f i,g i]:=by rw[Dc,C8,XO]
def Nf(n:Nat)(f g h:Nat->Vl):Wj (λx (y:Vl×Vl)=>[x,y.1,y.2]) ((VW n).map f) (((VW n).map g).zip ((VW n).map h))=(VW n).map λi=>[f i,g i,h i]:=by rw[List.zip_eq_zipWith,Dc (l₁:=VW n) (l₂:=(VW n).map h),C8,XO,Dc,C8,XO]
def aM{j:Type}{F:List Vl->Option j}{n:Nat}{g:Nat->List Vl}{h:Nat->j}(o:∀i,i<n->F (g i)=N' (h i)):pU F ((VW n).map g)=N' ((VW n).map h):=nI (VW n) λi q=>o i (cg.mp q)
def Mk(h:F)(k X:Nat)(i:Ins)(s:Sg40.Machine):Prop:=∃(f:Nat->Nat) (fr:Bool),(∀n,C (n+12) h [.ord (ag i),.cT] (N' (af s))=N' (LF (lanes k) λj=>NI (f j),fr,N' (af s)))/\∀j,j<lanes k->bit (s.p i.g) j=P'->f j=lane k X j
def Mk.of{o:F}{k:Nat}{i:Ins}{s:Sg40.Machine}{f g:Nat->Nat}{fr:Bool}(h:∀n,C (n+12) o [.ord (ag i),.cT] (N' (af s))=N' (LF (lanes k) λj=>NI (f j),fr,N' (af s)))(e:∀j,j<lanes k->f j=g j % 2^k):Mk o k (V0 k g) i s:=#[f,fr,h,λj q _=>by rw[fE q,e j q]]
def wQ(n:Nat)(f:F)(r:Nat->Nat->Nat)(i:Ins)(o:b8 i)(s:Sg40.Machine)(h:∀x y,x<2^i.k->y<2^i.k->C (n+6) f [NI x,NI y,NI i.k] (N' (af s))=N' (NI (r x y),Q',N' (af s))):C (n+7) .jB [.fn f,.ord (ag i),.cT] (N' (af s))=N' (LF (lanes i.k) λj=>NI (r (lane i.k (s.v i.a) j) (lane i.k (s.v i.b) j)),P',N' (af s)):=by
 have q:=o.k;have u:=q.le64;have B:lanes i.k<=bw:=by simp![bw];lia
 rwa[ag,ak (n+3) _ i.k o.a q,ak (n+3) _ i.k o.b q,je,B];rw[aM (h:=λj=>NI (r (lane i.k (s.v i.a) j) (lane i.k (s.v i.b) j)))];rfl;intro j E;erw[b6,h _ _ (az i.k (s.v i.a) j) (az i.k (s.v i.b) j)]
def AG(n:Nat)(A:Vl)(r:Nat->Nat->Nat->Nat)(fr:Bool)(i:Ins)(o:b8 i)(s:Sg40.Machine)(h:∀d x y,d<2^i.k->x<2^i.k->y<2^i.k->nH (C (n+6)) A [NI d,NI x,NI y] (N' (af s))=N' (NI (r d x y),fr)):C (n+7) .et [A,.ord (ag i),.cT] (N' (af s))=N' (LF (lanes i.k) λj=>NI (r (lane i.k (s.v i.d) j) (lane i.k (s.v i.a) j) (lane i.k (s.v i.b) j)),P',N' (af s)):=by
 have q:=o.k;have u:=q.le64;have B:lanes i.k<=bw:=by simp![bw];lia
 rwa[ag,ak (n+3) _ i.k o.a q,ak (n+3) _ i.k o.b q,ak (n+3) _ i.k o.d q,Nf,B];rw[aM (h:=λj=>NI (r (lane i.k (s.v i.d) j) (lane i.k (s.v i.a) j) (lane i.k (s.v i.b) j)))];rfl;intro j E;erw[b6,h _ _ _ (az i.k (s.v i.d) j) (az i.k (s.v i.a) j) (az i.k (s.v i.b) j)]
def Kj{k x:Nat}(h:Wd k)(j:x<2^k):x<2^200:=aW j (dh () (by have:=h.le;lia))
def abz(i:Ins)(q:b8 i)(s:Sg40.Machine):Mk .jl i.k (V0 i.k λj=>(each 25 i.k (lane i.k (s.v i.a) j) (lane i.k (s.v i.b) j) (lane i.k (s.v i.d) j) i.z).getD 0) i s:=by
 have h:=q.k;have B:=h.le;apply Mk.of (f:=λj=>(lane i.k (s.v i.a) j*2^(lane i.k (s.v i.d) j % i.k)+lane i.k (s.v i.b) j/2^(i.k-lane i.k (s.v i.d) j % i.k)) % 2^i.k) (fr:=P') (λn=> ?_) (λj E=>(gq _ _).symm);have:=AG (n+4) (.j4 .gB [NI i.k]) (λd x y=>(x*2^(d % i.k)+y/2^(i.k-d % i.k)) % 2^i.k) Q' i q s (λd x y G r u=>by
  have H:d % i.k<i.k:=au _ h.pos;have o:y+2^i.k*x<2^200:=by
   have:2^i.k*x<2^i.k*2^i.k:=(Nat.mul_lt_mul_left (tp _)).mpr r;rw[<-dB]at this;have J:2^(i.k+i.k)<=2^128:=dh () 'l';have h3:=h.HM;have:(2:Nat)^200=2^72*2^128:=by rw[<-dB]
   lia
  rwa[jw (show i.k<=100000 by lia) (Kj h r),qI,m8 u,gk h.pos,jw (show d % i.k<=100000 by lia) o,ie,gR _ _ i.k h.aZ];congr 3;rw[Nat.add_mul,Nat.mul_assoc,qY _ _ (tp _)];congr 1;rw[fg,cz y];congr 1;rw[show 2^i.k=2^(d % i.k)*2^(i.k-d % i.k) by rw[<-dB];congr 1;lia,Nat.mul_div_mul_left _ _ (tp _)])
 simp![ag]at this;rwa[ag,this]
def abA(i:Ins)(o:b8 i)(s:Sg40.Machine):Mk .iv i.k (V0 i.k λj=>(each 26 i.k (lane i.k (s.v i.a) j) (lane i.k (s.v i.b) j) (lane i.k (s.v i.d) j) i.z).getD 0) i s:=by have h:=o.k;have u:=h.le;apply Mk.of (f:=λj=>(lane i.k (s.v i.a) j/2^(lane i.k (s.v i.d) j % i.k)+lane i.k (s.v i.b) j*2^(i.k-lane i.k (s.v i.d) j % i.k)) % 2^i.k) (fr:=P') (λn=> ?_) (λj B=>(gq _ _).symm);have:=AG (n+4) (.j4 .fR [NI i.k]) (λd x y=>(x/2^(d % i.k)+y*2^(i.k-d % i.k)) % 2^i.k) Q' i o s (λd x y E q r=>by have G:d % i.k<i.k:=au _ h.pos;rwa[jw (show i.k<=100000 by lia) (Kj h r),qI,m8 q,gk h.pos,ie,gR _ _ i.k h.aZ];congr 4;rw[show 2^i.k*y=2^(d % i.k)*(y*2^(i.k-d % i.k)) by rw[XZ,<-dB,cz,show d % i.k+(i.k-d % i.k)=i.k by lia],qY _ _ (tp _)]);simp![ag]at this;rwa[ag,this]
def AH{k d i:Nat}(h:i<k)(b:Bool):((if b=P' then d else d^^^(2^k-1)).testBit i)=(d.testBit i==b):=by cases b;simp![qZ,kr,Yp,Nat.testBit_two_pow_sub_one,h];cases d.testBit i<;>rfl;simp![dC];cases d.testBit i<;>rfl
instance sel(d x y i:Nat):Nat:=4*one (bit d i)+2*one (bit x i)+one (bit y i)
def one_le(b:Bool):one b<=1:=by cases b<;>decide
def QV(d x y i:Nat):sel d x y i<8:=by unfold sel;have:=one_le (bit d i);have:=one_le (bit x i);have:=one_le (bit y i);lia
def Ng{k d:Nat}(h:d<2^k)(b:Bool):(if b=P' then d else d^^^(2^k-1))<2^k:=by have:=tp k;split;show h;show m2 h (by omega)
instance flip(k d:Nat)(b:Bool):Nat:=if b=P' then d else d^^^(2^k-1)
def Kk(k d x y t i:Nat)(h:i<k)(j:t<8):(flip k d (t/4 % 2==1)&&&flip k x (t/2 % 2==1)&&&flip k y (t % 2==1)).testBit i=decide (sel d x y i=t):=by rw[jy,jy];unfold flip;rw[AH h,AH h,AH h];unfold sel;rw[b_,b_,b_];generalize d.testBit i=p;generalize x.testBit i=q;generalize y.testBit i=r;revert p q r;revert t;decide
def Ce(n:Nat)(i:Ins)(d x y:Nat)(D:Wd i.k)(V:d<2^i.k)(R:x<2^i.k)(H:y<2^i.k)(M:gf):C (n+2) .bX [NI d,NI x,NI y,.ord (ag i),NI (2^i.k-1)] M=N' (NI (Wn i.k λj=>bit (i.z.toNat % 256) (sel d x y j)),Q',M):=by
 obtain⟨e',J,w,s,u,a,b,c,e,rfl⟩:=eF (M:=M) (tg:=[6]) (body:=cO T (C (n+1)) (.ite (.call .cA (.cons (.Jg (.v 3) .m) (.cons (.v 6) .nil))) (.set 7 (.qG (.bin .and (.v 6) (.int 4)) (.v 0) (.bin .xor (.v 0) (.v 4))) (.set 8 (.qG (.bin .and (.v 6) (.int 2)) (.v 1) (.bin .xor (.v 1) (.v 4))) (.set 9 (.qG (.bin .and (.v 6) (.int 1)) (.v 2) (.bin .xor (.v 2) (.v 4))) (.aug 5 .or (.bin .and (.bin .and (.v 7) (.v 8)) (.v 9)) .nil)))) .nil .nil)) (xs:=(VW 8).map λ(i:Nat)=>[NI i])
  (e:=#[[N' (NI d),N' (NI x),N' (NI y),N' (.ord (ag i)),N' (NI (2^i.k-1)),N' (.int 0),O',O',O',O'],O'])
  (λt e=>∃w:Nat,w<2^i.k/\(∀j,j<i.k->w.testBit j=(decide (sel d x y j<t)&&bit i.z.toNat (sel d x y j)))/\∃a b c f:Option Vl,e=#[[N' (NI d),N' (NI x),N' (NI y),N' (.ord (ag i)),N' (NI (2^i.k-1)),N' (NI w),a,b,c,f],O'])
  #[0,tp _,by intro j _;simp,_,_,_,_,S'] λt I e G #[w,s,u,a,b,c,f,he]=>by
   subst he;obtain⟨o,rfl⟩:=aU G;apply#[S',?_];have L:binI .and (t:Int) 4=N' ((t&&&4:Nat):Int):=i9 t 4;have O:binI .and (t:Int) 2=N' ((t&&&2:Nat):Int):=i9 t 2;have P:binI .and (t:Int) 1=N' ((t&&&1:Nat):Int):=i9 t 1;have q:∀t:Nat,t<8->((((t&&&4:Nat):Int) !=0)=(t/4 % 2==1))/\((((t&&&2:Nat):Int) !=0)=(t/2 % 2==1))/\((((t&&&1:Nat):Int) !=0)=(t % 2==1)):=by decide
   obtain⟨Q,U,X⟩:=q t o;cases B:bit i.z.toNat t with
   |false=>
    apply#[_,?_,w,s,λj h=> ?_,N' (NI t),b,c,f,S'];erw[ag,dJ,B];rw[u j h];by_cases E:sel d x y j=t;rw[E,B,Yz,Yz];have:decide (sel d x y j<t)=decide (sel d x y j<t+1):=by congr 1;apply propext;omega
    rw[this]
   |true=>
    apply#[_,?_,w|||(flip i.k d (t/4 % 2==1)&&&flip i.k x (t/2 % 2==1)&&&flip i.k y (t % 2==1)),?_,λj h=> ?_,N' (NI t),N' (NI (flip i.k d (t/4 % 2==1))),N' (NI (flip i.k x (t/2 % 2==1))),N' (NI (flip i.k y (t % 2==1))),S'];have Y:∀d b,SX (N' b) (N' (NI d,Q')) (N' (NI (d^^^(2^i.k-1)),Q'))=N' (NI (flip i.k d b),Q'):=λd b=>by cases b<;>rfl
    erw[ag,dJ,B,L,O,P,Q,U,X,Y,qP,i9,qI];show tQ s (vL _ (Ng H _));rw[Nat.testBit_or,u j h,Kk i.k d x y t j h o];by_cases E:sel d x y j=t;rw[E,B];simp;have:decide (sel d x y j<t)=decide (sel d x y j<t+1):=by congr 1;apply propext;omega
    rw[this];simp[E]
 have r:w=Wn i.k λj=>bit (i.z.toNat % 256) (sel d x y j):=by apply pC;intro j;rw[eJ];by_cases h:j<i.k;rw[u j h];simp![cG,h];rw[b_,b_,show(256:Nat)=2^8 from rfl,vF];simp[QV];rw[n0 (aW s (dh () (by omega)))];simp[h]
 have Z:(8:Int).natAbs<=bw:=by decide
 have F:(8:Int).toNat=8:=rfl;rwa[Z,F,J];show fin r
def abB(i:Ins)(h:b8 i)(s:Sg40.Machine):Mk .iw i.k (V0 i.k λj=>(each 33 i.k (lane i.k (s.v i.a) j) (lane i.k (s.v i.b) j) (lane i.k (s.v i.d) j) i.z).getD 0) i s:=by have o:=h.k;apply Mk.of (f:=λj=>Wn i.k λt=>bit (i.z.toNat % 256) (sel (lane i.k (s.v i.d) j) (lane i.k (s.v i.a) j) (lane i.k (s.v i.b) j) t)) (fr:=P') (λn=> ?_) (λj B=>(aj (kj _ _)).symm);have:=AG (n+4) (.j4 .bX [.ord (ag i),NI (2^i.k-1)]) (λd x y=>Wn i.k λt=>bit (i.z.toNat % 256) (sel d x y t)) Q' i h s (λd x y q r u=>by rw[ue];simp![jQ,ra,mB,Ce _ i d x y o q r u,uf]);simp![ag]at this;rwa[ag,qa _ i.k o.aZ,this]
def aO{k:Nat}(h:Wd k):lanes k<=bw:=by have:=h.le64;simp![bw];omega
def nN{k:Nat}(h:Wd k):(lanes k:Int).natAbs<=bw:=by have:=h.le64;simp![bw];omega
def abC(i:Ins)(q:b8 i)(s:Sg40.Machine):Mk .Bv i.k (V0 i.k λj=>if bit (s.p (i.z.toNat % 8)) j=P' then lane i.k (s.v i.b) j else lane i.k (s.v i.a) j) i s:=by have o:=q.k;apply Mk.of (f:=λj=>if bit (s.p (i.z.toNat % 8)) j=P' then lane i.k (s.v i.b) j else lane i.k (s.v i.a) j) (fr:=P') (λn=> ?_) (λj r=>(aj (by split<;>show az _ _ _)).symm);rwa[ag,b5,ak (n+8) _ i.k q.a o,ak (n+8) _ i.k q.b o,nN o,aO o];rw[aM (h:=λj=>NI (if bit (s.p (i.z.toNat % 8)) j=P' then lane i.k (s.v i.b) j else lane i.k (s.v i.a) j))];rfl;intro j r;cases h:bit (s.p (i.z.toNat % 8)) j<;>erw[b6,dJ,h,aK r]
def abD(i:Ins)(h:b8 i)(s:Sg40.Machine):Mk .iM i.k (V0 i.k λ_=>s.x i.b) i s:=by have o:=h.k;have q:=o.le64;apply Mk.of (f:=λj=>s.x i.b % 2^i.k) (fr:=P') (λn=> ?_) (λj r=>rfl);rwa[ag,ba _ i.b h.b,gR _ _ i.k o.aZ,kY (show lanes i.k<=1000 by omega)]
def abE(i:Ins)(u:b8 i)(o:32<=i.k)(s:Sg40.Machine):Mk .fS i.k (V0 i.k λ_=>s.p (i.b % 8) % 2^lanes i.k) i s:=by
 have r:=u.k;have y:=r.le64;have q:lanes i.k<=i.k:=by rcases r with h|h|h|h<;>rw[h]at o⊢<;>revert o<;>decide
 apply Mk.of (f:=λj=>s.p (i.b % 8) % 2^lanes i.k) (fr:=P') (λn=> ?_) (λj B=>(aj (aW (au _ (tp _)) (dh () q))).symm);rwa[ag,b5,gR _ _ (lanes i.k) (show lanes i.k<=1000 by omega),kY (show lanes i.k<=1000 by omega)]
def Cf{k:Nat}(r:k<=64)(x j:Nat)(z:Int):Wb k ((x:Int)+j*z)=(x+j*wrap z) % 2^k:=by
 unfold Wb wrap;have h:((2:Int)^k)∣2^64:=#[2^(64-k),by rw[<-Int.pow_add];congr 1;omega];have o:0<=z % 2^64:=rS _ ();have e:((x:Int)+j*z) % 2^k=((x:Int)+j*(z % 2^64)) % 2^k:=by rw[Int.add_emod,Int.mul_emod,<-Int.emod_emod_of_dvd z h,<-Int.mul_emod,<-Int.add_emod]
 rw[e];have q:(x:Int)+j*(z % 2^64)=((x+j*(z % 2^64).toNat:Nat):Int):=by rw[Int.natCast_add,Int.natCast_mul,zO o]
 rw[q,pw k,<-zS,dQ]
def abF(i:Ins)(q:b8 i)(s:Sg40.Machine)(B:mq s):Mk .pN i.k (V0 i.k λj=>s.x i.b+j*wrap i.z) i s:=by have o:=q.k;have r:=o.le64;apply Mk.of (f:=λj=>(s.x i.b+j*wrap i.z) % 2^i.k) (fr:=P') (λn=> ?_) (λj u=>rfl);rwa[ag,ba _ i.b q.b,nN o,aO o];rw[aM (h:=λj=>NI ((s.x i.b+j*wrap i.z) % 2^i.k))];rfl;intro j u;have y:binI .mul (j:Int) i.z=N' ((j:Int)*i.z):=rj (.inl (by omega));erw[b6,y,jR,jS _ _ i.k o.aZ,Cf o.le]
def abG(i:Ins)(q:b8 i)(s:Sg40.Machine):Mk .fT i.k (V0 i.k λj=>if bit (s.p (i.b % 8)) j=P' then 2^i.k-1 else 0) i s:=by have o:=q.k;have u:=tp i.k;apply Mk.of (f:=λj=>if bit (s.p (i.b % 8)) j=P' then 2^i.k-1 else 0) (fr:=P') (λn=> ?_) (λj r=>(aj (by split<;>omega)).symm);rwa[ag,b5,nN o,aO o];rw[aM (h:=λj=>NI (if bit (s.p (i.b % 8)) j=P' then 2^i.k-1 else 0))];rfl;intro j r;cases h:bit (s.p (i.b % 8)) j<;>erw[b6,dJ,h,qa _ i.k o.aZ];rfl
def oT(a b)(f g:Nat->Vl):(VW a).map f++(VW b).map g=(VW (a+b)).map λi=>if i<a then f i else g (i-a):=by rw[<-qQ (λi=>if i<a then f i else g (i-a))];congr 1;apply dP;intro i h;rw[ae (cg.mp h)];apply dP;intro i h;rw[ab 'l'];congr 1;lia
def jT(h:m<=n)(f:Nat->Vl):((VW n).map f).take m=(VW m).map f:=by have:=gI n 0 m f 'l';simpa using this
def vu(n m)(f:Nat->Vl):((VW n).map f).drop m=(VW (n-m)).map λi=>f (m+i):=by apply oa;intro i;rw[XA];by_cases h:m+i<n;rw[aK h,aK 'l'];rw[ej (by simp;lia),ej (by simp;lia)]
def qb(n j o:Nat)(f:Nat->Vl):sG ((VW n).map f) (j) (o)=N' (.lst ((VW (min o n-j)).map λi=>f (j+i)),P'):=by unfold sG;rw[ae (by omega),dQ,dQ,vu];congr 3;apply oa;intro i;rw[ZC];by_cases h:i<o-j;rw[ae h];by_cases q:i<n-j;rw[aK q,aK (by omega)];rw[ej (by simp;omega),ej (by simp;omega)];rw[ab h,ej (by simp;omega)]
def Cg(h:∀i,i<n->f i=g i):LF n f=LF n g:=by show SV.lst _=SV.lst _;congr 1;show dP λi j=>h i (cg.mp j)
def wR(h:∀i,i<n->f i=g i):N' (LF n f,b,M)=N' (LF n g,b,M):=by rw[Cg h]
def abH(i)(q:b8 i)(s):Mk .pick i.k (V0 i.k λj=>lane i.k (s.v i.a) (lane i.k (s.v i.b) j % lanes i.k)) i s:=by have o:=q.k;have u:=o.S0;apply Mk.of (f:=λj=>lane i.k (s.v i.a) (lane i.k (s.v i.b) j % lanes i.k)) (fr:=P') (λn=> ?_) (λj r=>(aj (az _ _ _)).symm);rwa[ag,ak (n+8) _ i.k q.a o,ak (n+8) _ i.k q.b o,aO o];rw[aM (h:=λj=>NI (lane i.k (s.v i.a) (lane i.k (s.v i.b) j % lanes i.k)))];rfl;intro j r;erw[b6,gk (show 0<lanes i.k by lia),aK (au _ (show 0<lanes i.k by lia))]
def abI(i)(q:b8 i)(s:Sg40.Machine):Mk .kI i.k (V0 i.k λj=>if lane i.k (s.v i.b) j % (2*lanes i.k)<lanes i.k then lane i.k (s.v i.a) (lane i.k (s.v i.b) j % (2*lanes i.k))else lane i.k (s.v i.d) (lane i.k (s.v i.b) j % (2*lanes i.k)-lanes i.k)) i s:=by
 have o:=q.k;have B:=o.S0;have r:=o.le64;apply Mk.of (f:=λj=>if lane i.k (s.v i.b) j % (2*lanes i.k)<lanes i.k then lane i.k (s.v i.a) (lane i.k (s.v i.b) j % (2*lanes i.k))else lane i.k (s.v i.d) (lane i.k (s.v i.b) j % (2*lanes i.k)-lanes i.k)) (fr:=P') (λn=> ?_) (λj u=>(aj (by split<;>show az _ _ _)).symm);have y:lanes i.k+lanes i.k<=bw:=by simp![bw];lia
 rwa[ag,ak (n+8) _ i.k q.a o,ak (n+8) _ i.k q.b o,ak (n+8) _ i.k q.d o,aO o,y,oT];rw[aM (h:=λj=>NI (if lane i.k (s.v i.b) j % (2*lanes i.k)<lanes i.k then lane i.k (s.v i.a) (lane i.k (s.v i.b) j % (2*lanes i.k))else lane i.k (s.v i.d) (lane i.k (s.v i.b) j % (2*lanes i.k)-lanes i.k)))];rfl;intro j u;have e:lanes i.k+lanes i.k=2*lanes i.k:=by lia
 rw[e];erw[b6,gk (show 0<2*lanes i.k by lia),aK (au _ (show 0<2*lanes i.k by lia))];split<;>rfl
def gy(n d)(h:d<16)(s):C (n+3) .aa [.cT,NI d,.int 8] (N' (af s))=N' (LV 8 (s.v d),P',N' (af s)):=ak n d 8 h (.inl S') s
def sY(n d)(h:d<16)(s):C (n+3) .aa [.cT,NI d,.int 16] (N' (af s))=N' (LV 16 (s.v d),P',N' (af s)):=ak n d 16 h (.inr (.inl S')) s
def Kl(n d)(h:d<16)(s):C (n+3) .aa [.cT,NI d,.int 32] (N' (af s))=N' (LV 32 (s.v d),P',N' (af s)):=ak n d 32 h (.inr (.inr (.inl S'))) s
def gg(n d)(h:d<16)(s):C (n+3) .aa [.cT,NI d,.int 64] (N' (af s))=N' (LV 64 (s.v d),P',N' (af s)):=ak n d 64 h (.inr (.inr (.inr S'))) s
def nO(n s t N u)(f g)(h:Nat->Nat->Vl)(A:Vl)(M)(y:0<s)(j:s<=100)(B:0<t)(o:t<=100)(fr)(E:4*s=N)(r:4*t=u) (G:∀q,q<4->nH (C n) A [LF s λi=>f (q*s+i),LF s λi=>g (q*s+i)] M=N' (LF t (h q),fr)):C (n+1) .fQ [LF N f,LF N g,A] M=N' (LF u λi=>h (i/t) (i % t),P',M):=by subst E;subst r;show Cc n s t f g h A M y j B o fr G
def abJ(i)(o:b8 i)(s):Mk .ke 8 (V0 8 λj=>if 128<=lane 8 (s.v i.b) j then 0 else lane 8 (s.v i.a) (j/16*16+lane 8 (s.v i.b) j % 16)) i s:=by apply Mk.of (f:=λj=>if 128<=lane 8 (s.v i.b) j then 0 else lane 8 (s.v i.a) (j/16*16+lane 8 (s.v i.b) j % 16)) (fr:=P') (λn=> ?_) (λj r=>(aj (by split<;>first|decide|show az _ _ _)).symm);have y:=nO (n+10) 16 16 (lanes 8) (lanes 8) (λj=>NI (lane 8 (s.v i.a) j)) (λj=>NI (lane 8 (s.v i.b) j)) (λq j=>NI (if 128<=lane 8 (s.v i.b) (q*16+j)then 0 else lane 8 (s.v i.a) (q*16+lane 8 (s.v i.b) (q*16+j) % 16))) (.j4 .fw []) (N' (af s)) () () () () P' S' rfl (λq E=>by rwa[];rw[aM (h:=λj=>NI (if 128<=lane 8 (s.v i.b) (q*16+j)then 0 else lane 8 (s.v i.a) (q*16+lane 8 (s.v i.b) (q*16+j) % 16)))];erw[];intro j r;have u:cF .ge (lane 8 (s.v i.b) (q*16+j):Int) 128=decide (128<=lane 8 (s.v i.b) (q*16+j)):=U8 _ 128;have B:∀x:Nat,binI .mod (x) 16=N' ((x % 16:Nat):Int):=λx=>gk (b:=16) ();by_cases h:128<=lane 8 (s.v i.b) (q*16+j);erw[b6,u,h];rfl;erw[b6,u,h,B,aK (au _ (show 0<16 by decide))]);rwa[ag,gy _ _ o.a,gy _ _ o.b,y];apply wR λj r=> ?_;rw[show j/16*16+j % 16=j by lia]
def abK(i)(o:b8 i)(s:Sg40.Machine):Mk .nD i.k (V0 i.k λj=>if j+i.z.toNat % lanes i.k<lanes i.k then lane i.k (s.v i.b) (j+i.z.toNat % lanes i.k)else lane i.k (s.v i.a) (j+i.z.toNat % lanes i.k-lanes i.k)) i s:=by
 have h:=o.k;have y:=h.S0;have q:=h.le64;apply Mk.of (f:=λj=>if j+i.z.toNat % lanes i.k<lanes i.k then lane i.k (s.v i.b) (j+i.z.toNat % lanes i.k)else lane i.k (s.v i.a) (j+i.z.toNat % lanes i.k-lanes i.k)) (fr:=P') (λn=> ?_) (λj r=>(aj (by split<;>show az _ _ _)).symm);have u:lanes i.k+lanes i.k<=bw:=by simp![bw];lia
 have B:i.z.toNat % lanes i.k<lanes i.k:=au _ 'l';rwa[ag,ak (n+8) _ i.k o.a h,ak (n+8) _ i.k o.b h,u,oT,gk (show 0<lanes i.k by lia),fF,qb];rw[show min (i.z.toNat % lanes i.k+lanes i.k) (lanes i.k+lanes i.k)-i.z.toNat % lanes i.k=lanes i.k by lia];apply wR λj r=> ?_;rw[fg j];split<;>rfl
def abL(i)(o:b8 i)(s):Mk .eZ 8 (V0 8 λj=>if j % 16+i.z.toNat % 32<16 then lane 8 (s.v i.b) (j/16*16+(j % 16+i.z.toNat % 32))else if j % 16+i.z.toNat % 32<32 then lane 8 (s.v i.a) (j/16*16+(j % 16+i.z.toNat % 32)-16)else 0) i s:=by apply Mk.of (f:=λj=>if j % 16+i.z.toNat % 32<16 then lane 8 (s.v i.b) (j/16*16+(j % 16+i.z.toNat % 32))else if j % 16+i.z.toNat % 32<32 then lane 8 (s.v i.a) (j/16*16+(j % 16+i.z.toNat % 32)-16)else 0) (fr:=P') (λn=> ?_) (λj u=>(aj (by(repeat' split)<;>first|decide|show az _ _ _)).symm);have H:i.z.toNat % 32<32:=au _ ();have y:binI .mod (i.z.toNat:Int) 32=N' ((i.z.toNat % 32:Nat):Int):=gk (b:=32) ();have B:binI .add ((i.z.toNat % 32:Nat):Int) 16=N' ((i.z.toNat % 32+16:Nat):Int):=fF _ 16;have E:t8 .mul (.lst [.int 0]:Vl) (.int 32)=N' (LF 32 λ_=>.int 0,P'):=kY (m:=32) ();have G:=nO (n+10) 16 16 (lanes 8) (lanes 8) (λj=>NI (lane 8 (s.v i.a) j)) (λj=>NI (lane 8 (s.v i.b) j)) (λq j=>NI (if j+i.z.toNat % 32<16 then lane 8 (s.v i.b) (q*16+(j+i.z.toNat % 32))else if j+i.z.toNat % 32<32 then lane 8 (s.v i.a) (q*16+(j+i.z.toNat % 32)-16)else 0)) (.j4 .c5 [NI (i.z.toNat % 32)]) (N' (af s)) () () () () P' S' rfl (λq J=>by rw[ue];simp![jQ];rwa[E,oT,B,qb];rw[show min (i.z.toNat % 32+16) 64-i.z.toNat % 32=16 by lia];apply congrArg (λl=>N' (l,P')) (Cg λj u=> ?_);by_cases h:j+i.z.toNat % 32<16;rw[ae h,ae 'l',ae 'l',fg j];by_cases r:j+i.z.toNat % 32<32;rw[ab h,ae r,ae 'l',ab 'l'];congr 3;lia;rw[ab h,ab r,ab 'l'];rfl);rwa[ag,y,gy _ _ o.a,gy _ _ o.b,G]
def wU(n m)(f g)(s:m<=100)(M):C (n+1) .nG [LF m f,LF m g] M=N' (LF (2*m) λi=>if i % 2=0 then f (i/2)else g (i/2),P',M):=by
 obtain⟨e',h,a,b,rfl⟩:=eF (M:=M) (tg:=[3,4]) (body:=cO T (C n) (.ext 2 (.list (.cons (.v 3) (.cons (.v 4) .nil))) .nil)) (xs:=(VW m).map λi=>[f i,g i])
  (e:=#[[N' (LF m f),N' (LF m g),O',O',O'],N' (2,[])])
  (λt e=>∃a b:Option Vl,e=#[[N' (LF m f),N' (LF m g),O',a,b],N' (2,(VW (2*t)).map λi=>if i % 2=0 then f (i/2)else g (i/2))])
  #[_,_,S'] λt x e j #[a,b,he]=>by
   subst he;obtain⟨o,rfl⟩:=aU j;apply#[S',_,?_,N' (f t),N' (g t),S'];have q:2*t+2<=bw:=by simp![bw];lia
   have r:VW (2*(t+1))=VW (2*t)++[2*t,2*t+1]:=by rw[show 2*(t+1)=2*t+1+1 by lia,mG,mG,pF];rfl
   erw[q,r,kq];rw[ae 'l',ab 'l',show(2*t)/2=t by lia,show(2*t+1)/2=t by lia]
 rwa[lH,je,h]
def uK(h:Wd k):4*group k=lanes k:=by rcases h with rfl|rfl|rfl|rfl<;>decide
def mV(h:Wd k):2<=group k/\group k<=16/\2*(group k/2)=group k:=by rcases h with rfl|rfl|rfl|rfl<;>decide
def xP(n m)(f g)(o:m<=100)(h:2*(m/2)=m)(M):C (n+2) .jn [LF m f,LF m g] M=N' (LF m λi=>if i % 2=0 then f (i/2)else g (i/2),P',M):=by have j:binI .fdiv ((m):Int) 2=N' ((m/2:Nat):Int):=ig (b:=2) () ();have:=wU n (m/2) f g 'l' M;rw[h]at this;rwa[j,jT (show m/2<=m by lia),this]
def xQ(n m)(f g)(o:m<=100)(h:2*(m/2)=m)(M):C (n+2) .jo [LF m f,LF m g] M=N' (LF m λi=>if i % 2=0 then f (m/2+i/2)else g (m/2+i/2),P',M):=by have j:binI .fdiv ((m):Int) 2=N' ((m/2:Nat):Int):=ig (b:=2) () ();have:=wU n (m/2) (λi=>f (m/2+i)) (λi=>g (m/2+i)) 'l' M;rw[h]at this;rwa[j,vu,show m-m/2=m/2 by lia,this]
def oU(n)(A:Vl)(h:Nat->Nat->Vl)(fr)(i)(r:b8 i)(s) (u:∀q,q<4->nH (C (n+5)) A [LF (group i.k) λj=>NI (lane i.k (s.v i.a) (q*group i.k+j)),LF (group i.k) λj=>NI (lane i.k (s.v i.b) (q*group i.k+j))] (N' (af s))=N' (LF (group i.k) (h q),fr)):C (n+7) .fJ [A,.ord (ag i),.cT] (N' (af s))=N' (LF (lanes i.k) λj=>h (j/group i.k) (j % group i.k),P',N' (af s)):=by have o:=r.k;obtain⟨E,y,G⟩:=mV o;have B:=nO (n+5) (group i.k) (group i.k) (lanes i.k) (lanes i.k) (λj=>NI (lane i.k (s.v i.a) j)) (λj=>NI (lane i.k (s.v i.b) j)) h A (N' (af s)) 'l' 'l' 'l' 'l' fr (uK o) (uK o) u;rwa[ag,ak (n+3) _ i.k r.a o,ak (n+3) _ i.k r.b o,B]
def abM(i)(h:b8 i)(s):Mk .fY i.k (V0 i.k λj=>if j % 2=0 then lane i.k (s.v i.a) (j/group i.k*group i.k+j % group i.k/2)else lane i.k (s.v i.b) (j/group i.k*group i.k+j % group i.k/2)) i s:=by have u:=h.k;obtain⟨E,y,o⟩:=mV u;apply Mk.of (f:=λj=>if j % 2=0 then lane i.k (s.v i.a) (j/group i.k*group i.k+j % group i.k/2)else lane i.k (s.v i.b) (j/group i.k*group i.k+j % group i.k/2)) (fr:=P') (λn=> ?_) (λj B=>(aj (by split<;>show az _ _ _)).symm);have r:=oU (n+4) (.fn .jn) (λq j=>if j % 2=0 then NI (lane i.k (s.v i.a) (q*group i.k+j/2))else NI (lane i.k (s.v i.b) (q*group i.k+j/2))) P' i h s (λq G=>by rw[wJ];simp![jQ,xP _ (group i.k) _ _ (show group i.k<=100 by lia) o,uf]);simp![ag]at r;rwa[ag,r];apply wR λj B=> ?_;rw[show j % group i.k % 2=j % 2 from XM j #[group i.k/2,o.symm]];split<;>rfl
def abN(i)(h:b8 i)(s):Mk .fZ i.k (V0 i.k λj=>if j % 2=0 then lane i.k (s.v i.a) (j/group i.k*group i.k+group i.k/2+j % group i.k/2)else lane i.k (s.v i.b) (j/group i.k*group i.k+group i.k/2+j % group i.k/2)) i s:=by have u:=h.k;obtain⟨E,y,o⟩:=mV u;apply Mk.of (f:=λj=>if j % 2=0 then lane i.k (s.v i.a) (j/group i.k*group i.k+group i.k/2+j % group i.k/2)else lane i.k (s.v i.b) (j/group i.k*group i.k+group i.k/2+j % group i.k/2)) (fr:=P') (λn=> ?_) (λj B=>(aj (by split<;>show az _ _ _)).symm);have r:=oU (n+4) (.fn .jo) (λq j=>if j % 2=0 then NI (lane i.k (s.v i.a) (q*group i.k+(group i.k/2+j/2)))else NI (lane i.k (s.v i.b) (q*group i.k+(group i.k/2+j/2)))) P' i h s (λq G=>by rw[wJ];simp![jQ,xQ _ (group i.k) _ _ (show group i.k<=100 by lia) o,uf]);simp![ag]at r;rwa[ag,r];apply wR λj B=> ?_;rw[show j % group i.k % 2=j % 2 from XM j #[group i.k/2,o.symm],<-oq];split<;>rfl
def wV(n m)(v)(M):C (n+1) .jG [LV 64 v,NI m] M=N' (LF 2 λj=>NI (lane 64 v (m % 4*2+j)),P',M):=by have r:m % 4<4:=au _ ();have h:binI .mod ((m):Int) 4=N' ((m % 4:Nat):Int):=gk (b:=4) ();have o:binI .mul ((m % 4:Nat):Int) 2=N' ((m % 4*2:Nat):Int):=nL (b:=2) (.inr ());have q:binI .add ((m % 4*2:Nat):Int) 2=N' ((m % 4*2+2:Nat):Int):=fF _ 2;rwa[h,o,q,qb];rw[show min (m % 4*2+2) (lanes 64)-m % 4*2=2 by have:lanes 64=8:=rfl;omega]
def ky(h:j<8):lane 64 (V0 128 f) j=lane 64 (f (j/2) % 2^128) (j % 2):=by have:=ki (k:=64) (w:=128) (v:=V0 128 f) () () (j/2) (j % 2) 'l';rw[show j/2*(128/64)+j % 2=j by lia]at this;rw[this,fE (show j/2<lanes 128 by have:lanes 128=4:=rfl;lia)]
def mu(v q r)(h:r<2):lane 64 (lane 128 v q % 2^128) r=lane 64 v (q*2+r):=by rw[aj (az _ _ _)];show(ki (k:=64) (w:=128) () () q r h).symm
def abO(i)(o:b8 i)(s):Mk .hO 64 (V0 128 λj=>lane 128 (if j<2 then s.v i.a else s.v i.b) (i.z.toNat/4^j % 4)) i s:=by
 have r:binI .shr (i.z.toNat:Int) 2=N' ((i.z.toNat/4:Nat):Int):=ie _ 2;have u:binI .shr (i.z.toNat:Int) 4=N' ((i.z.toNat/16:Nat):Int):=ie _ 4;have y:binI .shr (i.z.toNat:Int) 6=N' ((i.z.toNat/64:Nat):Int):=ie _ 6;apply#[λj=>lane 64 (V0 128 λj=>lane 128 (if j<2 then s.v i.a else s.v i.b) (i.z.toNat/4^j % 4)) j,P',λn=> ?_,λj q _=>rfl];rwa[ag,gg _ _ o.a,gg _ _ o.b,r,u,y,wV,oT];apply wR (n:=8) λj q=> ?_;rw[ky q,mu _ _ _ 'l'];have h:j=0\/j=1\/j=2\/j=3\/j=4\/j=5\/j=6\/j=7:=by lia
 rcases h with rfl|rfl|rfl|rfl|rfl|rfl|rfl|rfl<;>simp
def abP(i)(q:b8 i)(s):Mk .jH 64 (V0 128 λj=>if j=i.z.toNat % 4 then lane 128 (s.v i.a) 0 else lane 128 (s.v i.b) j) i s:=by
 have L:i.z.toNat % 4<4:=au _ ();have u:binI .mod (i.z.toNat:Int) 4=N' ((i.z.toNat % 4:Nat):Int):=gk (b:=4) ();have y:binI .mul ((i.z.toNat % 4:Nat):Int) 2=N' ((i.z.toNat % 4*2:Nat):Int):=nL (b:=2) (.inr ());have B:binI .add ((i.z.toNat % 4*2:Nat):Int) 2=N' ((i.z.toNat % 4*2+2:Nat):Int):=fF _ 2;have M:lanes 64=8:=rfl;have E:(0:Int)<=2:=by decide
 have G:(2:Int).toNat=2:=rfl;have H:i.z.toNat % 4*2+2<=bw:=by simp![bw];lia
 have o:i.z.toNat % 4*2+2+(lanes 64-(i.z.toNat % 4*2+2))<=bw:=by simp![bw];lia
 apply#[λj=>lane 64 (V0 128 λj=>if j=i.z.toNat % 4 then lane 128 (s.v i.a) 0 else lane 128 (s.v i.b) j) j,P',λn=> ?_,λj r _=>rfl];rwa[ag,gg _ _ q.a,gg _ _ q.b,u,y,B,jT (show i.z.toNat % 4*2<=lanes 64 by lia),E,G,jT (show 2<=lanes 64 by lia),vu,oT,H,o];rw[show i.z.toNat % 4*2+2+(lanes 64-(i.z.toNat % 4*2+2))=8 by lia];apply wR (n:=8) λj r=> ?_;rw[ky r];by_cases h:j/2=i.z.toNat % 4;rw[ae h,ae 'l',ab 'l',mu _ _ _ 'l'];congr 3;lia;rw[ab h,mu _ _ _ 'l',show j/2*2+j % 2=j by lia];by_cases J:j<i.z.toNat % 4*2;rw[ae 'l',ae J];rw[ab 'l'];congr 3;lia
def abQ(i)(q:b8 i)(s):Mk .iX 64 (lane 128 (s.v i.a) (i.z.toNat % 4)) i s:=by
 have r:t8 .mul (.lst [.int 0]:Vl) (.int 6)=N' (LF 6 λ_=>.int 0,P'):=kY (m:=6) ();apply#[λj=>lane 64 (lane 128 (s.v i.a) (i.z.toNat % 4)) j,P',λn=> ?_,λj u _=>rfl];rwa[ag,gg _ _ q.a,wV,r,oT];apply wR (n:=8) λj u=> ?_;by_cases h:j<2;rw[ae h];show congrArg NI (ki (k:=64) (w:=128) () () (i.z.toNat % 4) j h);rw[ab h];have:lane 64 (lane 128 (s.v i.a) (i.z.toNat % 4)) j=0:=by have o:=az 128 (s.v i.a) (i.z.toNat % 4);unfold lane at o|-;rw[ja (aW o (dh () 'l'))]
 rw[this];rfl
def abR(i)(q:b8 i)(o:i.k<=32)(s):Mk .widen (2*i.k) (V0 (2*i.k) λj=>lane i.k (s.v i.a) j) i s:=by
 have r:=q.k;have u:lanes i.k/2=lanes (2*i.k):=by rcases r with h|h|h|h<;>rw[h]at o⊢<;>revert o<;>decide
 have y:binI .fdiv (lanes i.k:Int) 2=N' (lanes (2*i.k):Int):=by rw[<-u];show ig (b:=2) () ()
 apply Mk.of (f:=λj=>lane i.k (s.v i.a) j) (fr:=P') (λn=> ?_) (λj B=>(aj (aW (az _ _ _) (dh () 'l'))).symm);rwa[ag,ak (n+8) _ i.k q.a r,y,jT (show lanes (2*i.k)<=lanes i.k by lia)]
def Wd.dbl(j:Wd k)(o:k<=32):Wd (2*k):=by rcases j with h|h|h|h<;>subst h<;>first|(show .inr (.inl S'))|(show .inr (.inr (.inl S')))|(show .inr (.inr (.inr S')))|lia
def F0(k)(h:Wd k):binI .mul 2 (k)=N' ((2*k:Nat):Int):=nL (a:=2) (.inl ())
def abS(i)(r:b8 i)(o:i.k<=32)(s):Mk .jI (2*i.k) (V0 (2*i.k) λj=>Wb (2*i.k) (VX i.k (lane i.k (s.v i.a) j))) i s:=by
 have q:=r.k;have u:=q.dbl o;have B:lanes i.k/2=lanes (2*i.k):=by rcases q with h|h|h|h<;>rw[h]at o⊢<;>revert o<;>decide
 have E:binI .fdiv (lanes i.k:Int) 2=N' (lanes (2*i.k):Int):=by rw[<-B];show ig (b:=2) () ()
 apply Mk.of (f:=λj=>Wb (2*i.k) (VX i.k (lane i.k (s.v i.a) j))) (fr:=P') (λn=> ?_) (λj G=>(jj _ _).symm);have y:C (n+11) .widen [.ord (ag i),.cT] (N' (af s))=N' (LF (lanes (2*i.k)) λj=>NI (lane i.k (s.v i.a) j),P',N' (af s)):=by rwa[ag,ak (n+7) _ i.k r.a q,E,jT (show lanes (2*i.k)<=lanes i.k by lia)]
 simp![ag]at y;rwa[ag,y,aO u];rw[aM (h:=λj=>NI (Wb (2*i.k) (VX i.k (lane i.k (s.v i.a) j))))];rfl;intro j G;erw[b6,bc _ _ i.k q.one q.aZ (az i.k (s.v i.a) j),F0 i.k q,jS _ _ (2*i.k) u.aZ]
def oV(n)(A:Vl)(r:Nat->Nat)(fr)(i)(y:b8 i)(o:i.k<=32)(s)(h:∀x,x<2^(2*i.k)->nH (C (n+6)) A [NI x] (N' (af s))=N' (NI (r x),fr)):C (n+7) .kJ [A,.ord (ag i),.cT] (N' (af s))=N' (LF (lanes i.k) λj=>NI (if j<lanes (2*i.k)then r (lane (2*i.k) (s.v i.a) j)else 0),P',N' (af s)):=by
 have q:=y.k;have B:=q.dbl o;have G:=q.le64;have H:lanes i.k/2=lanes (2*i.k):=by rcases q with h|h|h|h<;>rw[h]at o⊢<;>revert o<;>decide
 have u:lanes (2*i.k)+lanes (2*i.k)=lanes i.k:=by rcases q with h|h|h|h<;>rw[h]at o⊢<;>revert o<;>decide
 have J:binI .fdiv (lanes i.k:Int) 2=N' (lanes (2*i.k):Int):=by rw[<-H];show ig (b:=2) () ()
 have E:pU (b6 T (C (n+6)) #[[N' A,N' (.ord (ag i)),N' .cT,O'],O'] (N' (af s)) [3] (.sF 0 (.cons (.v 3) .nil))) ((VW (lanes (2*i.k))).map λj=>[NI (lane (2*i.k) (s.v i.a) j)])=N' ((VW (lanes (2*i.k))).map λj=>NI (r (lane (2*i.k) (s.v i.a) j))):=
  aM λj L=>by erw[b6,h _ (az (2*i.k) (s.v i.a) j)]
 simp![ag]at E;rwa[ag,F0 i.k q,ak (n+3) _ (2*i.k) y.a B,aO B,E,J,kY (show lanes (2*i.k)<=1000 by lia),oT,u,aO q];apply wR λj L=> ?_;split<;>rfl
def qB{o:F}{i:Ins}(y:b8 i)(q:i.k<=32){s:Sg40.Machine}{r:Nat->Nat}(u:∀x,x<2^(2*i.k)->r x<2^i.k) (h:∀n,C (n+12) o [.ord (ag i),.cT] (N' (af s))=N' (LF (lanes i.k) λj=>NI (if j<lanes (2*i.k)then r (lane (2*i.k) (s.v i.a) j)else 0),P',N' (af s))):Mk o i.k (V0 i.k λj=>if j<lanes (2*i.k)then r (lane (2*i.k) (s.v i.a) j)else 0) i s:=Mk.of h λj B=>(aj (by split;show u _ (az _ _ _);show tp _)).symm
def abT(i)(o:b8 i)(h:i.k<=32)(s:Sg40.Machine):Mk .narrow i.k (V0 i.k λj=>if j<lanes (2*i.k)then lane (2*i.k) (s.v i.a) j % 2^i.k else 0) i s:=by apply qB o h (r:=λx=>x % 2^i.k) (λx _=>au _ (tp _)) λn=> ?_;have q:=oV (n+4) (.j4 .md [.ord (ag i)]) (λx=>x % 2^i.k) Q' i o h s (λx u=>by rwa[ag,gR _ _ i.k o.k.aZ]);simp![ag]at q;rwa[ag,q]
def abU(i)(o:b8 i)(h:i.k<=32)(s:Sg40.Machine):Mk .gN i.k (V0 i.k λj=>if j<lanes (2*i.k)then Xf i.k (VX (2*i.k) (lane (2*i.k) (s.v i.a) j))else 0) i s:=by have q:=o.k.dbl h;apply qB o h (r:=λx=>Xf i.k (VX (2*i.k) x)) (λx _=>mr _ _) λn=> ?_;have u:=oV (n+4) (.j4 .fA [.ord (ag i)]) (λx=>Xf i.k (VX (2*i.k) x)) Q' i o h s (λx y=>by rwa[ag,F0 i.k o.k,bc _ x (2*i.k) q.one q.aZ y,gQ _ _ i.k o.k.one o.k.aZ]);simp![ag]at u;rwa[ag,u]
def abV(i)(o:b8 i)(h:i.k<=32)(s:Sg40.Machine):Mk .jq i.k (V0 i.k λj=>if j<lanes (2*i.k)then K' i.k (lane (2*i.k) (s.v i.a) j)else 0) i s:=by apply qB o h (r:=λx=>K' i.k x) (λx _=>sX _ _) λn=> ?_;have q:=oV (n+4) (.j4 .gG [.ord (ag i)]) (λx=>K' i.k x) Q' i o h s (λx u=>by rwa[ag,Az _ _ i.k o.k.aZ]);simp![ag]at q;rwa[ag,q]
def abW(i)(o:b8 i)(h:i.k<=32)(s:Sg40.Machine):Mk .c8 i.k (V0 i.k λj=>if j<lanes (2*i.k)then K' i.k (VX (2*i.k) (lane (2*i.k) (s.v i.a) j))else 0) i s:=by have q:=o.k.dbl h;apply qB o h (r:=λx=>K' i.k (VX (2*i.k) x)) (λx _=>sX _ _) λn=> ?_;have u:=oV (n+4) (.j4 .cM [.ord (ag i)]) (λx=>K' i.k (VX (2*i.k) x)) Q' i o h s (λx y=>by rwa[ag,F0 i.k o.k,bc _ x (2*i.k) q.one q.aZ y,Az _ _ i.k o.k.aZ]);simp![ag]at u;rwa[ag,u]
def oW(n)(A:Vl)(r:Nat->Nat->Nat)(fr)(i)(G:b8 i)(s)(h:∀x y,x<2^i.k->y<2^i.k->nH (C (n+4)) A [NI x,NI y] (N' (af s))=N' (NI (r x y),fr)):C (n+8) .hR [A,.ord (ag i),.cT] (N' (af s))=N' (LF (lanes i.k) λj=>NI (r (lane i.k (if j % group i.k<group i.k/2 then s.v i.a else s.v i.b) (j/group i.k*group i.k+j % group i.k*2 % group i.k)) (lane i.k (if j % group i.k<group i.k/2 then s.v i.a else s.v i.b) (j/group i.k*group i.k+j % group i.k*2 % group i.k+1))),P',N' (af s)):=by
 have J:=G.k;obtain⟨X,L,Y⟩:=mV J;have H:=oU (n+0) (.j4 .fy [A]) (λq j=>NI (r (lane i.k (if j<group i.k/2 then s.v i.a else s.v i.b) (q*group i.k+j*2 % group i.k)) (lane i.k (if j<group i.k/2 then s.v i.a else s.v i.b) (q*group i.k+j*2 % group i.k+1)))) P' i G s (λq Z=>by
  have M:group i.k+group i.k<=bw:=by simp![bw];lia
  have u:group i.k<=bw:=by simp![bw];lia
  have O:(0:Int).natAbs<=bw/\((group i.k+group i.k:Nat):Int).natAbs<=bw/\(0:Int)<2/\(2:Int)<=bw:=by simp![bw];lia
  have P:((((group i.k+group i.k:Nat):Int)-0+2-1)/2).toNat=group i.k:=by lia
  rwa[M,oT,O,P,u];rw[aM (h:=λj=>NI (r (lane i.k (if j<group i.k/2 then s.v i.a else s.v i.b) (q*group i.k+j*2 % group i.k)) (lane i.k (if j<group i.k/2 then s.v i.a else s.v i.b) (q*group i.k+j*2 % group i.k+1))))];erw[];intro j T;have Q:(0)+(j:Int)*2=((2*j:Nat):Int):=by lia
  have U:binI .add ((2*j:Nat):Int) 1=N' ((2*j+1:Nat):Int):=fF _ 1;have B:(if 2*j<group i.k then NI (lane i.k (s.v i.a) (q*group i.k+2*j))else NI (lane i.k (s.v i.b) (q*group i.k+(2*j-group i.k))))=NI (lane i.k (if j<group i.k/2 then s.v i.a else s.v i.b) (q*group i.k+j*2 % group i.k)):=by by_cases o:j<group i.k/2;rw[ae 'l',ae o,aj (show j*2<group i.k by lia),cz j];rw[ab 'l',ab o,show j*2 % group i.k=2*j-group i.k by rw[ZP 'l',aj 'l',cz]]
  have E:(if 2*j+1<group i.k then NI (lane i.k (s.v i.a) (q*group i.k+(2*j+1)))else NI (lane i.k (s.v i.b) (q*group i.k+(2*j+1-group i.k))))=NI (lane i.k (if j<group i.k/2 then s.v i.a else s.v i.b) (q*group i.k+j*2 % group i.k+1)):=by by_cases o:j<group i.k/2;rw[ae 'l',ae o,aj (show j*2<group i.k by lia),cz j,<-oq];rw[ab 'l',ab o,show j*2 % group i.k=2*j-group i.k by rw[ZP 'l',aj 'l',cz]];congr 2;lia
  erw[b6,Q,U,aK (show 2*j<group i.k+group i.k by lia),aK (show 2*j+1<group i.k+group i.k by lia),B,E];rw[h _ _ (az _ _ _) (az _ _ _)];rfl)
 simp![ag]at H;rwa[ag,H]
def abX(i)(h:b8 i)(s):Mk .f6 i.k (V0 i.k λj=>lane i.k (if j % group i.k<group i.k/2 then s.v i.a else s.v i.b) (j/group i.k*group i.k+j % group i.k*2 % group i.k)+lane i.k (if j % group i.k<group i.k/2 then s.v i.a else s.v i.b) (j/group i.k*group i.k+j % group i.k*2 % group i.k+1)) i s:=by apply Mk.of (f:=λj=>(lane i.k (if j % group i.k<group i.k/2 then s.v i.a else s.v i.b) (j/group i.k*group i.k+j % group i.k*2 % group i.k)+lane i.k (if j % group i.k<group i.k/2 then s.v i.a else s.v i.b) (j/group i.k*group i.k+j % group i.k*2 % group i.k+1)) % 2^i.k) (fr:=P') (λn=> ?_) (λj q=>rfl);have o:=oW (n+3) (.j4 .eD [.ord (ag i)]) (λx y=>(x+y) % 2^i.k) Q' i h s (λx y r u=>by rwa[ag,fF,gR _ _ i.k h.k.aZ]);simp![ag]at o;rwa[ag,o]
def abY(i)(h:b8 i)(s):Mk .cR i.k (V0 i.k λj=>lane i.k (if j % group i.k<group i.k/2 then s.v i.a else s.v i.b) (j/group i.k*group i.k+j % group i.k*2 % group i.k)+2^i.k-lane i.k (if j % group i.k<group i.k/2 then s.v i.a else s.v i.b) (j/group i.k*group i.k+j % group i.k*2 % group i.k+1)) i s:=by apply Mk.of (f:=λj=>(lane i.k (if j % group i.k<group i.k/2 then s.v i.a else s.v i.b) (j/group i.k*group i.k+j % group i.k*2 % group i.k)+2^i.k-lane i.k (if j % group i.k<group i.k/2 then s.v i.a else s.v i.b) (j/group i.k*group i.k+j % group i.k*2 % group i.k+1)) % 2^i.k) (fr:=P') (λn=> ?_) (λj r=>rfl);have o:=oW (n+3) (.j4 .cx [.ord (ag i)]) (λx y=>(x+2^i.k-y) % 2^i.k) Q' i h s (λx y u q=>by rwa[ag,lr,jS _ _ i.k h.k.aZ,kl (gp q)]);simp![ag]at o;rwa[ag,o]
def abZ(i)(h:b8 i)(s):Mk .cS i.k (V0 i.k λj=>Xf i.k (VX i.k (lane i.k (if j % group i.k<group i.k/2 then s.v i.a else s.v i.b) (j/group i.k*group i.k+j % group i.k*2 % group i.k))+VX i.k (lane i.k (if j % group i.k<group i.k/2 then s.v i.a else s.v i.b) (j/group i.k*group i.k+j % group i.k*2 % group i.k+1)))) i s:=by apply Mk.of (f:=λj=>Xf i.k (VX i.k (lane i.k (if j % group i.k<group i.k/2 then s.v i.a else s.v i.b) (j/group i.k*group i.k+j % group i.k*2 % group i.k))+VX i.k (lane i.k (if j % group i.k<group i.k/2 then s.v i.a else s.v i.b) (j/group i.k*group i.k+j % group i.k*2 % group i.k+1)))) (fr:=P') (λn=> ?_) (λj u=>(aj (mr _ _)).symm);have o:=oW (n+3) (.j4 .cy [NI i.k]) (λx y=>Xf i.k (VX i.k x+VX i.k y)) Q' i h s (λx y q r=>by rwa[bc _ x i.k h.k.one h.k.aZ q,bc _ y i.k h.k.one h.k.aZ r,jR,gQ _ _ i.k h.k.one h.k.aZ]);simp![ag]at o;rwa[ag,o]
def Km(n x)(i)(j:Wd i.k)(O:x<2^i.k)(M):C (n+1) .cw [NI x,.ord (ag i)] M=N' (NI (pk 8 (λt=>lane 8 x (i.k/8-1-t)) (i.k/8)),Q',M):=by
 have P:=j.le;have Q:=j.pos;obtain⟨e',o,a,rfl⟩:=eF (M:=M) (tg:=[3]) (body:=cO T (C n) (.set 2 (.bin .or (.bin .shl (.v 2) (.int 8)) (.bin .and (.bin .shr (.v 0) (.v 3)) (.int 255))) .nil)) (xs:=(VW (i.k/8)).map λ(t:Nat)=>[.int (0+t*8)])
  (e:=#[[N' (NI x),N' (.ord (ag i)),N' (.int 0),O'],O'])
  (λt e=>∃a:Option Vl,e=#[[N' (NI x),N' (.ord (ag i)),N' (NI (pk 8 (λu=>lane 8 x (t-1-u)) t)),a],O'])
  #[_,S'] λt y e r #[a,he]=>by
   subst he;obtain⟨s,rfl⟩:=aU r;have B:(0)+(t)*8=((8*t:Nat):Int):=by lia
   apply#[S',_,?_,N' (NI (8*t)),S'];have E:pk 8 (λu=>lane 8 x (t-1-u)) t<2^200:=aW (sS λ_ _=>az _ _ _) (dh () 'l');have G:binI .shl (pk 8 (λu=>lane 8 x (t-1-u)) t:Int) 8=N' ((pk 8 (λu=>lane 8 x (t-1-u)) t*2^8:Nat):Int):=jw (b:=8) () E;have H:binI .and ((x/2^(8*t):Nat):Int) 255=N' ((lane 8 x t):Int):=by rw[show(255)=((2^8-1:Nat):Int)from rfl,i9,xZ];rfl
   erw[B,G,ie,H,qI,m8 (az 8 x t),AD];rw[show t+1-1-0=t by lia];have q:∀u,t+1-1-(u+1)=t-1-u:=λu=>by lia
   simp![q]
 have J:(0:Int).natAbs<=bw/\(i.k:Int).natAbs<=bw/\(0:Int)<8/\(8:Int)<=bw:=by simp![bw];lia
 have L:((i.k:Int)-0+8-1)/8=((i.k/8:Nat):Int):=by rcases j with h|h|h|h<;>rw[h]<;>rfl
 simp![ag]at o;rwa[ag,J,L,o]
def Wd.dv8(h:Wd k):8∣k:=by rcases h with rfl|rfl|rfl|rfl<;>decide
def Wd.l8(h:Wd k):lanes k*(k/8)=64/\8*(k/8)=k:=by rcases h with rfl|rfl|rfl|rfl<;>decide
def ab0(i)(B:b8 i)(s):Mk .ef i.k (V0 8 λj=>lane 8 (s.v i.a) (j/(i.k/8)*(i.k/8)+(i.k/8-1-j % (i.k/8)))) i s:=by
 have o:=B.k;obtain⟨r,u⟩:=o.l8;have G:0<i.k/8:=by have:=o.pos;omega
 apply#[λj=>pk 8 (λt=>lane 8 (lane i.k (s.v i.a) j) (i.k/8-1-t)) (i.k/8),P',λn=> ?_,λj E _=> ?_];have q:=λj=>Km (n+10) (lane i.k (s.v i.a) j) i o (az _ _ _) (N' (af s));simp![ag]at q;rwa[ag,ak (n+8) _ i.k B.a o,aO o];rw[aM (h:=λj=>NI (pk 8 (λt=>lane 8 (lane i.k (s.v i.a) j) (i.k/8-1-t)) (i.k/8)))];rfl;intro j E;erw[b6,q];apply p7 (k:=8) (n:=i.k/8) (sS λ_ _=>az _ _ _) (by rw[u];show az _ _ _) λt q=> ?_;have y:j*(i.k/8)+t<64:=by have:(j+1)*(i.k/8)<=lanes i.k*(i.k/8):=m1 _ E;rw[r,jd]at this;omega
 rw[<-ki o.dv8 () j t q,fE (show j*(i.k/8)+t<lanes 8 from y),aj (az _ _ _)];rw[show(j*(i.k/8)+t)/(i.k/8)=j by rw[cz,Nat.mul_add_div G,ja q];rfl,show(j*(i.k/8)+t) % (i.k/8)=t by rw[cz,Nat.mul_add_mod,aj q]];rw[ki o.dv8 () j _ (by omega)];show DU (f:=λt=>lane 8 (lane i.k (s.v i.a) j) (i.k/8-1-t)) (λ_ _=>az _ _ _) q
instance cnt(P:Nat->Bool)(j:Nat):Nat:=((VW j).filter P).length
def Kn(P)(j):cnt P (j+1)=cnt P j+if P j=P' then 1 else 0:=by unfold cnt;rw[mG,XC,en];congr 1;cases h:P j<;>simp[h]
def DW(P)(j):cnt P j<=j:=by unfold cnt;have:=Y5 P (VW j);simpa using this
def AI(P)(o:j<n)(h:P j=P'):(VW n).filter P=(VW j).filter P++j::((VW (n-j-1)).map (λi=>j+(1+i))).filter P:=by
 have e:n=j+(1+(n-j-1)):=by omega
 conv=>lhs;rw[e]
 rw[Yx,XC,Yx];congr 1;simp![kq,aS,XC];have:List.filter P (Xg (λx=>j+x) (VW 1))=[j]:=by simp[h]
 rw[this];rfl
def wW(P)(h:j<n)(o:P j=P'):((VW n).filter P).findIdx? (λy=>y==j)=N' (cnt P j):=by
 rw[AI P h o,List.findIdx?_append];have q:((VW j).filter P).findIdx? (λy=>y==j)=none:=by rw[YG];intro x r;have:=(lD.mp r).1;rw[cg]at this;simp;lia
 rw[q,XB];simp[cnt]
def ab1(i)(h:b8 i)(s):Mk .expand i.k (spread i.k (s.v i.a) (V4 i s)) i s:=by
 have o:=h.k;have B:=o.le64;apply#[λj=>lane i.k (s.v i.a) (cnt (bit (s.p i.g)) j),P',λn=> ?_,λj r q=> ?_];obtain⟨e',u,a,rfl⟩:=eF (M:=N' (af s)) (tg:=[6]) (body:=cO T (C (n+11)) (.app 4 (.ix (.v 3) (.v 5)) (.ite (.call .cA (.cons (.v 2) (.cons (.v 6) .nil))) (.aug 5 .add (.int 1) .nil) .nil .nil))) (xs:=(VW (lanes i.k)).map λt=>[NI t])
  (e:=#[[N' (.ord (ag i)),N' .cT,N' (NI (s.p i.g)),N' (LV i.k (s.v i.a)),O',N' (.int 0),O'],N' (4,[])])
  (λt e=>∃a:Option Vl,e=#[[N' (.ord (ag i)),N' .cT,N' (NI (s.p i.g)),N' (LV i.k (s.v i.a)),O',N' (NI (cnt (bit (s.p i.g)) t)),a],N' (4,(VW t).map λj=>NI (lane i.k (s.v i.a) (cnt (bit (s.p i.g)) j)))])
  #[_,S'] λt y e E #[a,he]=>by
   subst he;obtain⟨G,rfl⟩:=aU E;apply#[S',_,?_,N' (NI t),S'];have L:=DW (bit (s.p i.g)) t;have H:t<bw:=by simp![bw];lia
   have J:binI .add (cnt (bit (s.p i.g)) t:Int) 1=N' ((cnt (bit (s.p i.g)) t+1:Nat):Int):=fF _ 1;rw[Kn];cases q:bit (s.p i.g) t<;>erw[aK (show cnt (bit (s.p i.g)) t<lanes i.k by lia),H,dJ,q,J,mn λj=>NI (lane i.k (s.v i.a) (cnt (bit (s.p i.g)) j)),lF]
 simp![ag]at u;rwa[ag,b5,g8 h,ak (n+8) _ i.k h.a o,lH,nN o,u];unfold spread;rw[fE r];unfold V4;rw[wW _ r q];show(aj (az _ _ _)).symm
def F1{y:Type}{c:List Vl->Option Bool}{F:List Vl->Option y}{g:Nat->List Vl}{P:Nat->Bool}{h:Nat->y}:∀{n:Nat},(∀i,i<n->c (g i)=N' (P i))->(∀i,i<n->F (g i)=N' (h i))->iB c F ((VW n).map g)=N' (((VW n).filter P).map h):=by
 have u:∀l:d_,(∀i∈l,c (g i)=N' (P i))->(∀i∈l,F (g i)=N' (h i))->iB c F (l.map g)=N' ((l.filter P).map h):=by
  intro l;induction l with
  |nil=>intros;rfl
  |cons x r E=>
   intro o s;have q:=E (λi j=>o i (by simp[j])) (λi j=>s i (by simp[j]));cases B:P x with
   |true=>simp![bf,iB,o x (by simp),B,s x (by simp),q,X6];rfl
   |false=>simp![bf,iB,o x (by simp),B,q,X6,qZ,kr]
 intro n o s;show u _ (λi j=>o i (cg.mp j)) λi j=>s i (cg.mp j)
def map_getD(l:d_)(f:Nat->Vl):l.map f=(VW l.length).map λj=>f (l.getD j 0):=by apply oa;intro j;by_cases h:j<l.length;rw[aK h,cV,pA,lh h];rfl;rw[ej (by simp;lia),ej (by simp;lia)]
def A9(h:F)(i:Ins)(s j:Sg40.Machine):Prop:=∀n,∃v fr,C (n+14) h [.ord (ag i),.cT] (N' (af s))=N' (v,fr,N' (af j))
def ab2(i:Ins)(y:b8 i)(s:Sg40.Machine):A9 .compress i s {s with v:=put s.v i.d (V0 i.k λj=>if j<(V4 i s).length then lane i.k (packed i.k (s.v i.a) (V4 i s)) j else if i.zero=P' then 0 else lane i.k (s.v i.d) j)}:=by
 have u:=y.k;have J:=u.le64;have L:(V4 i s).length<=lanes i.k:=by have:=DW (bit (s.p i.g)) (lanes i.k);show this
 intro n;have H:iB (BC T (C (n+13)) #[[N' (.ord (ag i)),N' .cT,N' (NI (s.p i.g)),N' (LV i.k (s.v i.a)),O',O'],O'] (N' (af s)) [5] (.call .cA (.cons (.v 2) (.cons (.v 5) .nil)))) (b6 T (C (n+13)) #[[N' (.ord (ag i)),N' .cT,N' (NI (s.p i.g)),N' (LV i.k (s.v i.a)),O',O'],O'] (N' (af s)) [5] (.ix (.v 3) (.v 5))) ((VW (lanes i.k)).map λt=>[NI t])=N' ((VW (V4 i s).length).map λj=>NI (lane i.k (s.v i.a) ((V4 i s).getD j 0))):=by rw[F1 (P:=bit (s.p i.g)) (h:=λj=>NI (lane i.k (s.v i.a) j)) (λj r=>by erw[BC,dJ,vb]) (λj r=>by erw[b6,aK r])];rw[map_getD];rfl
 have U:∀j,j<(V4 i s).length->(V4 i s).getD j 0<lanes i.k:=λj r=>by rw[pA,lh r];have:=ZX r;unfold V4 at this;have:=(lD.mp this).1;rw[cg]at this;show this
 have E:∀j,j<lanes i.k->(if j<(V4 i s).length then lane i.k (s.v i.a) ((V4 i s).getD j 0)else if i.zero=P' then 0 else lane i.k (s.v i.d) j)<2^i.k:=λj _=>by have:=tp i.k;(repeat' split)<;>first|show az _ _ _|show this
 have M:=m9 (n+11) i.d i.k _ y.d u E s;have O:(V0 i.k λj=>if j<(V4 i s).length then lane i.k (packed i.k (s.v i.a) (V4 i s)) j else if i.zero=P' then 0 else lane i.k (s.v i.d) j)=V0 i.k λj=>(if j<(V4 i s).length then lane i.k (s.v i.a) ((V4 i s).getD j 0)else if i.zero=P' then 0 else lane i.k (s.v i.d) j):=by apply kx;intro j r;by_cases q:j<(V4 i s).length;rw[ae q,ae q];unfold packed;rw[fE r,pA,lh q,gq];rfl;rw[ab q,ab q]
 rw[O];have o:=sV (n+9) i.k i y u s;have Q:lanes i.k<=bw:=aO u;have B:((VW (V4 i s).length).map λj=>NI (lane i.k (s.v i.a) ((V4 i s).getD j 0)))++((VW (lanes i.k-(V4 i s).length)).map λt=>NI (if i.zero=P' then 0 else lane i.k (s.v i.d) ((V4 i s).length+t)))=(VW (lanes i.k)).map λj=>NI (if j<(V4 i s).length then lane i.k (s.v i.a) ((V4 i s).getD j 0)else if i.zero=P' then 0 else lane i.k (s.v i.d) j):=by rw[oT,show(V4 i s).length+(lanes i.k-(V4 i s).length)=lanes i.k by lia];apply dP;intro j r;by_cases q:j<(V4 i s).length;rw[ae q,ae q];rw[ab q,ab q,show(V4 i s).length+(j-(V4 i s).length)=j by lia]
 have G:(V4 i s).length+(lanes i.k-(V4 i s).length)<=bw:=by simp![bw]at Q⊢;lia
 apply#[.bQ,Q',?_];simp![ag]at H o;rwa[ag,b5,g8 y,ak (n+10) _ i.k y.a u,nN u,aO u,H,o,vu,G,B,M]
def U9(i)(h:b8 i)(s):A9 .gZ i s (setX s i.d (lane i.k (s.v i.a) (i.z.toNat % lanes i.k))):=by have j:=h.k;have q:=j.S0;intro n;apply#[.bQ,Q',?_];have o:=d8 (n+10) i.d (lane i.k (s.v i.a) (i.z.toNat % lanes i.k):Int) h.d s;rw[aQ,aj (aW (az _ _ _) j.HM)]at o;rwa[ag,ak (n+10) _ i.k h.a j,gk (show 0<lanes i.k by lia),aK (au _ (show 0<lanes i.k by lia)),o]
def U_(i)(o:b8 i)(s):A9 .g0 i s {s with v:=put s.v i.d (V0 i.k λj=>if j=i.z.toNat % lanes i.k then s.x i.a else lane i.k (s.v i.d) j)}:=by
 have q:=o.k;have G:=q.S0;intro n;apply#[.bQ,Q',?_];have H:i.z.toNat % lanes i.k<lanes i.k:=au _ 'l';have r:∀j,j<lanes i.k->(if j=i.z.toNat % lanes i.k then s.x i.a % 2^i.k else lane i.k (s.v i.d) j)<2^i.k:=λj _=>by split;show au _ (tp _);show az _ _ _
 have u:=m9 (n+11) i.d i.k _ o.d q r s;have y:(V0 i.k λj=>if j=i.z.toNat % lanes i.k then s.x i.a else lane i.k (s.v i.d) j)=V0 i.k λj=>(if j=i.z.toNat % lanes i.k then s.x i.a % 2^i.k else lane i.k (s.v i.d) j):=by apply kx;intro j B;split;rw[gq];rfl
 rw[y];have h:((VW (lanes i.k)).map λj=>NI (lane i.k (s.v i.d) j)).set (i.z.toNat % lanes i.k) (NI (s.x i.a % 2^i.k))=(VW (lanes i.k)).map λj=>NI (if j=i.z.toNat % lanes i.k then s.x i.a % 2^i.k else lane i.k (s.v i.d) j):=by rw[set_range];apply dP;intro j B;split<;>rfl
 have E:((i.z.toNat % lanes i.k:Nat):Int)<(lanes i.k:Int):=by lia
 rwa[ag,ak (n+10) _ i.k o.d q,gk (show 0<lanes i.k by lia),ba _ i.a o.a,gR _ _ i.k q.aZ,iD,E,h,u]
noncomputable abbrev LI(n:Nat)(f:Nat->Int):Vl:=.lst ((VW n).map λj=>.int (f j))
def QW{n a e:Nat}(f:Nat->Int)(h:a+e<=n):sG ((VW n).map λj=>(SV.int (f j):Vl)) (a) ((a+e:Nat):Int)=N' (LI e λt=>f (a+t),P'):=by rw[qb,show min (a+e) n-a=e by lia]
def mX(n c e:Nat)(f)(he:0<e)(o:e<=100)(H:c<=100)(N)(r:c*e=N)(s:N<=1000)(M):C (n+1) .c6 [LI N f,NI e] M=N' (LI c λq=>((VW e).map λt=>f (q*e+t)).sum,P',M):=by
 have u:(0:Int).natAbs<=bw/\((N):Int).natAbs<=bw/\(0)<(e:Int)/\(e:Int)<=bw:=by simp![bw];lia
 have y:((N:Int)-0+(e:Int)-1)/(e:Int)=(c:Int):=by
  have:(N:Int)-0+(e:Int)-1=((e-1+e*c:Nat):Int):=by rw[<-r,cz c e];lia
  rw[this,<-Yh,qY _ _ he,ja 'l',lG]
 have B:c<=bw:=by simp![bw];lia
 rwa[u,y,B];rw[aM (h:=λq=>SV.int ((VW e).map λt=>f (q*e+t)).sum)];rfl;intro q E;have G:(0:Int)+(q:Int)*(e:Int)=((q*e:Nat):Int):=by simp
 have j:q*e+e<=N:=by have:(q+1)*e<=c*e:=m1 _ E;rw[jd]at this;lia
 erw[b6,G,fF,QW f j,iD]
def uL(n m)(f g:Nat->Nat)(q:m<=1000)(M):C (n+1) .lP [LF m λj=>NI (f j),LF m λj=>NI (g j)] M=N' (LF m λj=>NI (dist (f j) (g j)),P',M):=by
 have o:m<=bw:=by simp![bw];lia
 rwa[je,o];rw[aM (h:=λj=>NI (dist (f j) (g j)))];rfl;intro j r;erw[b6,lr];congr 2;unfold dist;split<;>split<;>lia
def Ci(l:d_)(f):(l.map λt=>((f t):Int)).sum=(((l.map f).sum:Nat):Int):=by
 induction l with
 |nil=>rfl
 |cons x l h=>simp![bf,Xw];lia
def F2(h:a<256)(j:b<256):dist a b<=255:=by unfold dist;split<;>lia
def Ko(l:d_)(f)(c)(h:∀t,f t<=c):(l.map f).sum<=l.length*c:=by
 induction l with
 |nil=>simp
 |cons x l j=>simp![bf,Xw,dR];have:=h x;lia
def ab3(i:Ins)(h:b8 i)(s:Sg40.Machine):Mk .iU 64 (V0 64 λj=>((VW 8).map λt=>dist (lane 8 (s.v i.a) (8*j+t)) (lane 8 (s.v i.b) (8*j+t))).sum) i s:=by apply Mk.of (f:=λj=>((VW 8).map λt=>dist (lane 8 (s.v i.a) (8*j+t)) (lane 8 (s.v i.b) (8*j+t))).sum) (fr:=P') (λn=> ?_) (λj o=>(aj ?_).symm);have r:=uL (n+10) (lanes 8) (λj=>lane 8 (s.v i.a) j) (λj=>lane 8 (s.v i.b) j) () (N' (af s));have u:C (n+11) .c6 [LF (lanes 8) λj=>NI (dist (lane 8 (s.v i.a) j) (lane 8 (s.v i.b) j)),.int 8] (N' (af s))=N' (LI 8 λq=>((VW 8).map λt=>(dist (lane 8 (s.v i.a) (q*8+t)) (lane 8 (s.v i.b) (q*8+t)):Int)).sum,P',N' (af s)):=mX (n+10) 8 8 (λj=>(dist (lane 8 (s.v i.a) j) (lane 8 (s.v i.b) j):Int)) () () () (lanes 8) S' () (N' (af s));rwa[ag,gy _ _ h.a,gy _ _ h.b,r,u,Ci];apply wR (n:=8) λj o=> ?_;simp![cz j 8];have:=Ko (VW 8) (λt=>dist (lane 8 (s.v i.a) (8*j+t)) (lane 8 (s.v i.b) (8*j+t))) 255 λt=>F2 (az 8 _ _) (az 8 _ _);rw[cG]at this;lia
def ab4(i:Ins)(o:b8 i)(s:Sg40.Machine):Mk .eV 16 (V0 16 λj=>((VW 4).map λt=>dist (lane 8 (s.v i.a) (j/8*16+i.z.toNat/4 % 2*4+j % 8+t)) (lane 8 (s.v i.b) (j/8*16+i.z.toNat % 4*4+t))).sum) i s:=by
 apply Mk.of (f:=λj=>((VW 4).map λt=>dist (lane 8 (s.v i.a) (j/8*16+i.z.toNat/4 % 2*4+j % 8+t)) (lane 8 (s.v i.b) (j/8*16+i.z.toNat % 4*4+t))).sum) (fr:=P') (λn=> ?_) (λj u=>(aj ?_).symm);have y:binI .fdiv (i.z.toNat:Int) 4=N' ((i.z.toNat/4:Nat):Int):=ig (b:=4) () ();have B:binI .mod ((i.z.toNat/4:Nat):Int) 2=N' ((i.z.toNat/4 % 2:Nat):Int):=gk (b:=2) ();have E:∀x:Nat,binI .mul (x) 4=N' ((x*4:Nat):Int):=λx=>nL (b:=4) (.inr ());have G:binI .mod (i.z.toNat:Int) 4=N' ((i.z.toNat % 4:Nat):Int):=gk (b:=4) ();have r:∀x:Nat,binI .add (x) 4=N' ((x+4:Nat):Int):=λx=>fF x 4;have H:(8:Int).natAbs<=bw:=by decide
 have J:(8:Int).toNat=8:=rfl;have L:=nO (n+10) 16 8 (lanes 8) (lanes 16) (λj=>NI (lane 8 (s.v i.a) j)) (λj=>NI (lane 8 (s.v i.b) j)) (λq j=>NI ((VW 4).map λt=>dist (lane 8 (s.v i.a) (q*16+i.z.toNat/4 % 2*4+j+t)) (lane 8 (s.v i.b) (q*16+i.z.toNat % 4*4+t))).sum) (.j4 .dv [NI (i.z.toNat/4 % 2*4),NI (i.z.toNat % 4*4)]) (N' (af s)) () () () () P' S' rfl (λq M=>by rwa[r,qb,H,J];rw[show min (i.z.toNat % 4*4+4) 16-i.z.toNat % 4*4=4 by lia];rw[aM (h:=λj=>NI ((VW 4).map λt=>dist (lane 8 (s.v i.a) (q*16+i.z.toNat/4 % 2*4+j+t)) (lane 8 (s.v i.b) (q*16+i.z.toNat % 4*4+t))).sum)];erw[];intro j u;have hd:=uL (n+8) 4 (λt=>lane 8 (s.v i.a) (q*16+(i.z.toNat/4 % 2*4+j+t))) (λt=>lane 8 (s.v i.b) (q*16+(i.z.toNat % 4*4+t))) () (N' (af s));erw[b6,fF,r,qb,show min (i.z.toNat/4 % 2*4+j+4) 16-(i.z.toNat/4 % 2*4+j)=4 by lia,hd,iD,Ci];simp![oq]);rwa[ag,y,B,E,G,gy _ _ o.a,gy _ _ o.b,L];have:=Ko (VW 4) (λt=>dist (lane 8 (s.v i.a) (j/8*16+i.z.toNat/4 % 2*4+j % 8+t)) (lane 8 (s.v i.b) (j/8*16+i.z.toNat % 4*4+t))) 255 λt=>F2 (az 8 _ _) (az 8 _ _);rw[cG]at this;lia
instance p8(s:Sg40.Machine)(i:Ins)(j:Nat):Int:=(lane 8 (s.v i.a) j:Int)*VX 8 (lane 8 (s.v i.b) j)
instance tE(s:Sg40.Machine)(i:Ins)(j:Nat):Int:=VX 16 (lane 16 (s.v i.a) j)*VX 16 (lane 16 (s.v i.b) j)
def w8:Wd 8:=.inl S'
def Va:Wd 16:=.inr (.inl S')
def LR:Wd 32:=.inr (.inr (.inl S'))
def Kp:Wd 64:=.inr (.inr (.inr S'))
def s8(n x)(h:x<2^8)(M):C (n+1) .signed [NI x,.int 8] M=N' (.int (VX 8 x),Q',M):=bc n x 8 () () h M
def s16(n x)(h:x<2^16)(M):C (n+1) .signed [NI x,.int 16] M=N' (.int (VX 16 x),Q',M):=bc n x 16 () () h M
def s32(n x)(h:x<2^32)(M):C (n+1) .signed [NI x,.int 32] M=N' (.int (VX 32 x),Q',M):=bc n x 32 () () h M
def lu(n)(i)(o:b8 i)(s):C (n+4) .fI [.ord (ag i),.cT] (N' (af s))=N' (LI (lanes 8) λj=>p8 s i j,P',N' (af s)):=by rwa[ag,gy _ _ o.a,gy _ _ o.b,je,aO w8];rw[aM (h:=λj=>SV.int (p8 s i j))];rfl;intro j q;have:=az 8 (s.v i.a) j;erw[b6,s8 _ _ (az 8 (s.v i.b) j),rj (show(lane 8 (s.v i.a) j:Int).natAbs<2^64\/(VX 8 (lane 8 (s.v i.b) j)).natAbs<2^64 by omega)];rfl
def jU(n)(i)(o:b8 i)(s):C (n+4) .dW [.ord (ag i),.cT] (N' (af s))=N' (LI (lanes 16) λj=>tE s i j,P',N' (af s)):=by rwa[ag,sY _ _ o.a,sY _ _ o.b,je,aO Va];rw[aM (h:=λj=>SV.int (tE s i j))];rfl;intro j q;erw[b6,s16 _ _ (az 16 (s.v i.b) j),s16 _ _ (az 16 (s.v i.a) j),rj (.inl (Kh Va (az 16 (s.v i.a) j)))];rfl
def oX(n)(f)(i)(o:b8 i)(s):C (n+4) .kG [LI 16 f,.ord (ag i),.cT] (N' (af s))=N' (LI (lanes 32) λj=>VX 32 (lane 32 (s.v i.d) j)+f j,P',N' (af s)):=by have q:Wj (λx y=>[x,y]) ((VW (lanes 32)).map λj=>NI (lane 32 (s.v i.d) j)) ((VW 16).map λj=>(SV.int (f j):Vl))=(VW (lanes 32)).map λj=>[NI (lane 32 (s.v i.d) j),.int (f j)]:=je (lanes 32) _ _;rwa[ag,Kl _ _ o.d,q,aO LR];rw[aM (h:=λj=>SV.int (VX 32 (lane 32 (s.v i.d) j)+f j))];rfl;intro j r;erw[b6,s32 _ _ (az 32 (s.v i.d) j),jR]
def ab5(f:Nat->Int)(q):((VW 4).map λt=>f (q*4+t)).sum=f (4*q+0)+f (4*q+1)+f (4*q+2)+f (4*q+3):=by simp![mG,A',kq,bf,qm,l',Xw,List.sum_nil];lia
def sum2(f:Nat->Int)(q):((VW 2).map λt=>f (q*2+t)).sum=f (2*q+0)+f (2*q+1):=by simp![mG,A',kq,bf,qm,l',Xw,List.sum_nil];lia
def sb4(n:Nat)(i)(s):C (n+1) .c6 [LI (lanes 8) λj=>p8 s i j,.int 4] (N' (af s))=N' (LI 16 λq=>p8 s i (4*q+0)+p8 s i (4*q+1)+p8 s i (4*q+2)+p8 s i (4*q+3),P',N' (af s)):=by have:=mX n 16 4 (λj=>p8 s i j) () () () (lanes 8) S' () (N' (af s));simp![ab5]at this;show this
def sb2(n:Nat)(i)(s):C (n+1) .c6 [LI (lanes 8) λj=>p8 s i j,.int 2] (N' (af s))=N' (LI (lanes 16) λq=>p8 s i (2*q+0)+p8 s i (2*q+1),P',N' (af s)):=by have:=mX n 32 2 (λj=>p8 s i j) () () () (lanes 8) S' () (N' (af s));simp![sum2]at this;show this
def sw2(n:Nat)(i)(s):C (n+1) .c6 [LI (lanes 16) λj=>tE s i j,.int 2] (N' (af s))=N' (LI 16 λq=>tE s i (2*q+0)+tE s i (2*q+1),P',N' (af s)):=by have:=mX n 16 2 (λj=>tE s i j) () () () (lanes 16) S' () (N' (af s));simp![sum2]at this;show this
def Kq(n)(z)(M):C (n+2) .cut [.int z,.int 32] M=N' (NI (Wb 32 z),Q',M):=jS n z 32 () M
def Kr(n)(z)(M):C (n+3) .cm [.int z,.int 32] M=N' (NI (Xf 32 z),Q',M):=gQ n z 32 () () M
def QX(n)(z)(M):C (n+3) .cm [.int z,.int 16] M=N' (NI (Xf 16 z),Q',M):=gQ n z 16 () () M
def ab6(i)(o:b8 i)(s):Mk .fq 32 (V0 32 λj=>Wb 32 (VX 32 (lane 32 (s.v i.d) j)+(p8 s i (4*j+0)+p8 s i (4*j+1)+p8 s i (4*j+2)+p8 s i (4*j+3)))) i s:=by apply Mk.of (f:=λj=>Wb 32 (VX 32 (lane 32 (s.v i.d) j)+(p8 s i (4*j+0)+p8 s i (4*j+1)+p8 s i (4*j+2)+p8 s i (4*j+3)))) (fr:=P') (λn=> ?_) (λj y=>(jj _ _).symm);have r:=lu (n+7) i o s;have u:=oX (n+7) (λq=>p8 s i (4*q+0)+p8 s i (4*q+1)+p8 s i (4*q+2)+p8 s i (4*q+3)) i o s;simp![ag]at r u;rwa[ag,r,sb4,u,aO LR];rw[aM (h:=λj=>NI (Wb 32 (VX 32 (lane 32 (s.v i.d) j)+(p8 s i (4*j+0)+p8 s i (4*j+1)+p8 s i (4*j+2)+p8 s i (4*j+3)))))];rfl;intro j y;erw[b6,Kq]
def ab7(i)(o:b8 i)(s):Mk .cI 32 (V0 32 λj=>Xf 32 (VX 32 (lane 32 (s.v i.d) j)+(p8 s i (4*j+0)+p8 s i (4*j+1)+p8 s i (4*j+2)+p8 s i (4*j+3)))) i s:=by apply Mk.of (f:=λj=>Xf 32 (VX 32 (lane 32 (s.v i.d) j)+(p8 s i (4*j+0)+p8 s i (4*j+1)+p8 s i (4*j+2)+p8 s i (4*j+3)))) (fr:=P') (λn=> ?_) (λj y=>(aj (mr _ _)).symm);have r:=lu (n+7) i o s;have u:=oX (n+7) (λq=>p8 s i (4*q+0)+p8 s i (4*q+1)+p8 s i (4*q+2)+p8 s i (4*q+3)) i o s;simp![ag]at r u;rwa[ag,r,sb4,u,aO LR];rw[aM (h:=λj=>NI (Xf 32 (VX 32 (lane 32 (s.v i.d) j)+(p8 s i (4*j+0)+p8 s i (4*j+1)+p8 s i (4*j+2)+p8 s i (4*j+3)))))];rfl;intro j y;erw[b6,Kr]
def ab8(i)(o:b8 i)(s):Mk .jC 32 (V0 32 λj=>Wb 32 (VX 32 (lane 32 (s.v i.d) j)+(tE s i (2*j+0)+tE s i (2*j+1)))) i s:=by apply Mk.of (f:=λj=>Wb 32 (VX 32 (lane 32 (s.v i.d) j)+(tE s i (2*j+0)+tE s i (2*j+1)))) (fr:=P') (λn=> ?_) (λj y=>(jj _ _).symm);have r:=jU (n+7) i o s;have u:=oX (n+7) (λq=>tE s i (2*q+0)+tE s i (2*q+1)) i o s;simp![ag]at r u;rwa[ag,r,sw2,u,aO LR];rw[aM (h:=λj=>NI (Wb 32 (VX 32 (lane 32 (s.v i.d) j)+(tE s i (2*j+0)+tE s i (2*j+1)))))];rfl;intro j y;erw[b6,Kq]
def ab9(i)(o:b8 i)(s):Mk .ft 32 (V0 32 λj=>Xf 32 (VX 32 (lane 32 (s.v i.d) j)+(tE s i (2*j+0)+tE s i (2*j+1)))) i s:=by apply Mk.of (f:=λj=>Xf 32 (VX 32 (lane 32 (s.v i.d) j)+(tE s i (2*j+0)+tE s i (2*j+1)))) (fr:=P') (λn=> ?_) (λj y=>(aj (mr _ _)).symm);have r:=jU (n+7) i o s;have u:=oX (n+7) (λq=>tE s i (2*q+0)+tE s i (2*q+1)) i o s;simp![ag]at r u;rwa[ag,r,sw2,u,aO LR];rw[aM (h:=λj=>NI (Xf 32 (VX 32 (lane 32 (s.v i.d) j)+(tE s i (2*j+0)+tE s i (2*j+1)))))];rfl;intro j y;erw[b6,Kr]
def aca(i)(q:b8 i)(s):Mk .jD 32 (V0 32 λj=>Wb 32 (tE s i (2*j+0)+tE s i (2*j+1))) i s:=by apply Mk.of (f:=λj=>Wb 32 (tE s i (2*j+0)+tE s i (2*j+1))) (fr:=P') (λn=> ?_) (λj r=>(jj _ _).symm);have o:=jU (n+7) i q s;simp![ag]at o;rwa[ag,o,sw2];rw[aM (h:=λj=>NI (Wb 32 (tE s i (2*j+0)+tE s i (2*j+1))))];rfl;intro j r;erw[b6,Kq]
def acb(i)(q:b8 i)(s):Mk .cJ 16 (V0 16 λj=>Xf 16 (p8 s i (2*j+0)+p8 s i (2*j+1))) i s:=by apply Mk.of (f:=λj=>Xf 16 (p8 s i (2*j+0)+p8 s i (2*j+1))) (fr:=P') (λn=> ?_) (λj r=>(aj (mr _ _)).symm);have o:=lu (n+7) i q s;simp![ag]at o;rwa[ag,o,sb2,aO Va];rw[aM (h:=λj=>NI (Xf 16 (p8 s i (2*j+0)+p8 s i (2*j+1))))];rfl;intro j r;erw[b6,QX]
def Ks(n x)(M):C (n+2) .cut [NI x,.int 52] M=N' (NI (x % 2^52),Q',M):=gR n x 52 () M
def DX(n x)(M):C (n+2) .cut [NI x,.int 64] M=N' (NI (x % 2^64),Q',M):=gR n x 64 () M
def Ku(n x)(M):C (n+2) .cut [NI x,.int 8] M=N' (NI (x % 2^8),Q',M):=gR n x 8 () M
def qR(n)(i)(o:b8 i)(s):C (n+4) .fW [.ord (ag i),.cT] (N' (af s))=N' (LF (lanes 64) λj=>NI (lane 64 (s.v i.a) j % 2^52*(lane 64 (s.v i.b) j % 2^52)),P',N' (af s)):=by rwa[ag,gg _ _ o.a,gg _ _ o.b,je,aO Kp];rw[aM (h:=λj=>NI (lane 64 (s.v i.a) j % 2^52*(lane 64 (s.v i.b) j % 2^52)))];rfl;intro j q;erw[b6,Ks,nL (show lane 64 (s.v i.a) j % 2^52<2^64\/lane 64 (s.v i.b) j % 2^52<2^64 by lia)]
def acd(i)(o:b8 i)(s):Mk .jE 64 (V0 64 λj=>lane 64 (s.v i.d) j+lane 64 (s.v i.a) j % 2^52*(lane 64 (s.v i.b) j % 2^52) % 2^52) i s:=by apply Mk.of (f:=λj=>(lane 64 (s.v i.d) j+lane 64 (s.v i.a) j % 2^52*(lane 64 (s.v i.b) j % 2^52) % 2^52) % 2^64) (fr:=P') (λn=> ?_) (λj r=>rfl);have q:=qR (n+7) i o s;simp![ag]at q;rwa[ag,gg _ _ o.d,q,je,aO Kp];rw[aM (h:=λj=>NI ((lane 64 (s.v i.d) j+lane 64 (s.v i.a) j % 2^52*(lane 64 (s.v i.b) j % 2^52) % 2^52) % 2^64))];rfl;intro j r;erw[b6,Ks,fF,DX]
def ace(i)(q:b8 i)(s):Mk .jF 64 (V0 64 λj=>lane 64 (s.v i.d) j+lane 64 (s.v i.a) j % 2^52*(lane 64 (s.v i.b) j % 2^52)/2^52) i s:=by apply Mk.of (f:=λj=>(lane 64 (s.v i.d) j+lane 64 (s.v i.a) j % 2^52*(lane 64 (s.v i.b) j % 2^52)/2^52) % 2^64) (fr:=P') (λn=> ?_) (λj u=>rfl);have r:=qR (n+7) i q s;have o:∀x:Nat,binI .shr (x) 52=N' ((x/2^52:Nat):Int):=λx=>ie x 52;simp![ag]at r;rwa[ag,gg _ _ q.d,r,je,aO Kp];rw[aM (h:=λj=>NI ((lane 64 (s.v i.d) j+lane 64 (s.v i.a) j % 2^52*(lane 64 (s.v i.b) j % 2^52)/2^52) % 2^64))];rfl;intro j u;erw[b6,o,fF,DX]
def m_(n)(A:Vl)(r:Nat->Nat->Nat)(fr)(i)(o:b8 i)(s)(h:∀x w,x<256->w<2^64->nH (C (n+6)) A [NI x,NI w] (N' (af s))=N' (NI (r x w),fr)):C (n+7) .bY [A,.ord (ag i),.cT] (N' (af s))=N' (LF (lanes 8) λj=>NI (r (lane 8 (s.v i.a) j) (lane 64 (s.v i.b) (j/8))),P',N' (af s)):=by have q:∀x:Nat,binI .fdiv (x) 8=N' ((x/8:Nat):Int):=λx=>ig (b:=8) () ();rwa[ag,gg _ _ o.b,gy _ _ o.a,rk,aO w8];rw[aM (h:=λj=>NI (r (lane 8 (s.v i.a) j) (lane 64 (s.v i.b) (j/8))))];rfl;intro j u;have y:j<64:=u;erw[b6,q,aK (show j/8<lanes 64 by have:lanes 64=8:=rfl;lia),h _ _ (az 8 (s.v i.a) j) (az 64 (s.v i.b) (j/8))]
def wX(n)(A:Vl)(r:Nat->Nat->Bool)(fr)(i)(o:b8 i)(s)(h:∀x w,x<256->w<2^64->nH (C (n+6)) A [NI x,NI w] (N' (af s))=N' (BI (r x w),fr)):C (n+7) .bY [A,.ord (ag i),.cT] (N' (af s))=N' (LF (lanes 8) λj=>BI (r (lane 8 (s.v i.a) j) (lane 64 (s.v i.b) (j/8))),P',N' (af s)):=by have q:∀x:Nat,binI .fdiv (x) 8=N' ((x/8:Nat):Int):=λx=>ig (b:=8) () ();rwa[ag,gg _ _ o.b,gy _ _ o.a,rk,aO w8];rw[aM (h:=λj=>BI (r (lane 8 (s.v i.a) j) (lane 64 (s.v i.b) (j/8))))];rfl;intro j u;have y:j<64:=u;erw[b6,q,aK (show j/8<lanes 64 by have:lanes 64=8:=rfl;lia),h _ _ (az 8 (s.v i.a) j) (az 64 (s.v i.b) (j/8))]
def HN(x w)(j:w<2^64):(w+2^64*w)/2^(x % 64) % 2^8=turned 64 w (64-x % 64) % 256:=by unfold turned;have o:x % 64<64:=au _ ();generalize x % 64=t at o;rw[XM _ (show 2^8∣2^64 by decide)];by_cases h:t=0;subst h;simp![Nat.mod_self];rw[ja j];lia;rw[aj (show 64-t<64 by lia),show 64-(64-t)=t by lia];rw[show 2^64*w=2^t*(w*2^(64-t)) by rw[XZ,<-dB,cz,show t+(64-t)=64 by lia],qY _ _ (tp _),fg]
def acf(i)(q:b8 i)(s):Mk .qx 8 (V0 8 λj=>turned 64 (lane 64 (s.v i.b) (j/8)) (64-lane 8 (s.v i.a) j % 64) % 256) i s:=by apply Mk.of (f:=λj=>turned 64 (lane 64 (s.v i.b) (j/8)) (64-lane 8 (s.v i.a) j % 64) % 256) (fr:=P') (λn=> ?_) (λj y=>(gq _ 256).symm);have h:=m_ (n+4) (.j4 .eC []) (λx w=>turned 64 w (64-x % 64) % 256) Q' i q s (λx w B o=>by have r:binI .shl (w) 64=N' ((w*2^64:Nat):Int):=jw (b:=64) () 'l';have u:binI .mod (x) 64=N' ((x % 64:Nat):Int):=gk (b:=64) ();rwa[r,qI,m8 o,u,ie,Ku,HN x w o]);simp![ag]at h;rwa[ag,h]
def Cj(n)(f)[DecidablePred f]:(VW n).foldl (λx j=>if f j then x+2^j else x) 0=Wn n λj=>decide (f j):=by unfold Wn;congr 1;funext x j;by_cases h:f j<;>simp[h]
def acg(i)(y:b8 i)(o:32<=i.k)(s):Mk .kH i.k (V0 i.k λt=>(VW t).foldl (λx j=>if lane i.k (s.v i.a) j=lane i.k (s.v i.a) t then x+2^j else x) 0) i s:=by
 have q:=y.k;have M:=q.le64;have O:lanes i.k<=i.k:=by rcases q with h|h|h|h<;>rw[h]at o⊢<;>revert o<;>decide
 apply Mk.of (f:=λt=>Wn t λj=>decide (lane i.k (s.v i.a) j=lane i.k (s.v i.a) t)) (fr:=P') (λn=> ?_) (λt B=> ?_);rwa[ag,ak (n+8) _ i.k y.a q,rk,aO q];rw[aM (h:=λt=>NI (Wn t λj=>decide (lane i.k (s.v i.a) j=lane i.k (s.v i.a) t)))];rfl;intro t B;have P:∀E G H J L r:Option Vl,r=N' (NI (lane i.k (s.v i.a) t))->pU (b6 T (C (n+11)) #[[E,G,H,J,L,r],O'] (N' (af s)) [3] (.cmp .eq (.v 3) (.v 5))) ((VW t).map λj=>[NI (lane i.k (s.v i.a) j)])=N' ((VW t).map λj=>BI (decide (lane i.k (s.v i.a) j=lane i.k (s.v i.a) t))):=λE G H J L r h=>aM λj U=>by
  subst h;have e:cF .eq (lane i.k (s.v i.a) j:Int) (lane i.k (s.v i.a) t:Int)=decide (lane i.k (s.v i.a) j=lane i.k (s.v i.a) t):=by simp![cF];congr 1;apply propext;lia
  erw[b6,e]
 have u:=i_ (n+10) t (λj=>BI (decide (lane i.k (s.v i.a) j=lane i.k (s.v i.a) t))) (λj=>decide (lane i.k (s.v i.a) j=lane i.k (s.v i.a) t)) 'l' (λ_ _=>rfl) (N' (af s));have Q:t<=bw:=by simp![bw];lia
 erw[b6,jT (gp B),Q,P,u];rw[Cj,aj];show aW (kj _ _) (dh () 'l')
def Ck(n x y)(E:x<2^64)(M):C (n+2) .fu [NI x,NI y] M=N' (NI (Xa 64 x y),Q',M):=by
 obtain⟨e',h,a,rfl⟩:=eF (M:=M) (tg:=[3]) (body:=cO T (C (n+1)) (.ite (.call .cA (.cons (.v 1) (.cons (.v 3) .nil))) (.aug 2 .xor (.bin .shl (.v 0) (.v 3)) .nil) .nil .nil)) (xs:=(VW 64).map λt=>[NI t])
  (e:=#[[N' (NI x),N' (NI y),N' (.int 0),O'],O'])
  (λt e=>∃a:Option Vl,e=#[[N' (NI x),N' (NI y),N' (NI (Xa t x y)),a],O'])
  #[_,S'] λt w e j #[a,he]=>by
   subst he;obtain⟨o,rfl⟩:=aU j;apply#[S',_,?_,N' (NI t),S'];have q:Xa (t+1) x y=if bit y t=P' then Xa t x y^^^(x*2^t)else Xa t x y:=by unfold Xa;rw[b0]
   have r:=jw (a:=x) (b:=t) 'l' 'l';rw[q];cases s:bit y t<;>erw[dJ,s,r,qP]
 have u:(64:Int).natAbs<=bw:=by decide
 have B:(64:Int).toNat=64:=rfl;rwa[u,B,h]
theorem Cm(x y)(k)(j:x<2^k):∀t,t<=k->Xa t x y<2^(k+k)
 |0,_=>by unfold Xa;show tp _
 |t+1,h=>by
  have q:Xa (t+1) x y=if bit y t=P' then Xa t x y^^^(x*2^t)else Xa t x y:=by unfold Xa;rw[b0]
  rw[q];have o:=Cm x y k j t 'l';split;apply m2 o ?_;have:x*2^t<2^k*2^t:=(Nat.mul_lt_mul_right (tp t)).mpr j;rw[<-dB]at this;show aW this (dh () 'l');show o
def ach(i)(u:b8 i)(s):Mk .c7 64 (V0 128 λq=>Xa 64 (lane 64 (s.v i.a) (2*q+i.z.toNat % 2)) (lane 64 (s.v i.b) (2*q+i.z.toNat/16 % 2))) i s:=by apply#[λj=>lane 64 (V0 128 λq=>Xa 64 (lane 64 (s.v i.a) (2*q+i.z.toNat % 2)) (lane 64 (s.v i.b) (2*q+i.z.toNat/16 % 2))) j,P',λn=> ?_,λj y _=>rfl];have E:∀x:Nat,binI .mod (x) 2=N' ((x % 2:Nat):Int):=λx=>gk (b:=2) ();have G:∀x:Nat,binI .fdiv (x) 16=N' ((x/16:Nat):Int):=λx=>ig (b:=16) () ();have H:∀x:Nat,binI .shr (x) 64=N' ((x/2^64:Nat):Int):=λx=>ie x 64;have o:i.z.toNat % 2<2:=au _ ();have r:i.z.toNat/16 % 2<2:=au _ ();have J:=nO (n+10) 2 2 (lanes 64) (lanes 64) (λj=>NI (lane 64 (s.v i.a) j)) (λj=>NI (lane 64 (s.v i.b) j)) (λq j=>NI (if j=0 then Xa 64 (lane 64 (s.v i.a) (q*2+i.z.toNat % 2)) (lane 64 (s.v i.b) (q*2+i.z.toNat/16 % 2)) % 2^64 else Xa 64 (lane 64 (s.v i.a) (q*2+i.z.toNat % 2)) (lane 64 (s.v i.b) (q*2+i.z.toNat/16 % 2))/2^64)) (.j4 .bh [NI (i.z.toNat % 2),NI (i.z.toNat/16 % 2)]) (N' (af s)) () () () () P' S' rfl (λq L=>by rwa[aK o,aK r,Ck _ _ _ (az 64 _ _),DX,H];rfl);rwa[ag,E,G,gg _ _ u.a,gg _ _ u.b,J];apply wR λj y=> ?_;rw[ky y,cz 2];have B:=Cm (lane 64 (s.v i.a) (j/2*2+i.z.toNat % 2)) (lane 64 (s.v i.b) (j/2*2+i.z.toNat/16 % 2)) 64 (az _ _ _) 64 (aI _);rw[aj B];unfold lane;by_cases h:j % 2=0;rw[ae h,h];simp;rw[ab h,show j % 2=1 by lia];simp![ox];rw[aj (a:=Xa _ _ _/_)];rw[zN ()];show B
instance red(x:Nat):Nat:=(VW 7).foldl (λ(x i:Nat)=>if bit x (14-i)=P' then x^^^(0x11B*2^(6-i))else x) x
def F3(a b i):bit (a^^^b) i=(bit a i !=bit b i):=by rw[b_,b_,b_,Yp]
def Kv(u v c j):(if bit (u^^^v) j=P' then(u^^^v)^^^c else u^^^v)=(if bit u j=P' then u^^^c else u)^^^(if bit v j=P' then v^^^c else v):=by rw[F3];cases bit u j<;>cases bit v j;rfl;show u^^^v^^^c=u^^^(v^^^c);rw[jc];show u^^^v^^^c=u^^^c^^^v;rw[jc,XS v c,<-jc];show u^^^v=(u^^^c)^^^(v^^^c);rw[jc,<-jc c,XS c v,jc v,Nat.xor_self,Nat.xor_zero]
def HP(n)(u v):(VW n).foldl (λx i=>if bit x (14-i)=P' then x^^^(0x11B*2^(6-i))else x) (u^^^v)=(VW n).foldl (λx i=>if bit x (14-i)=P' then x^^^(0x11B*2^(6-i))else x) u^^^(VW n).foldl (λx i=>if bit x (14-i)=P' then x^^^(0x11B*2^(6-i))else x) v:=by
 induction n with
 |zero=>rfl
 |succ n h=>rw[b0,b0,b0,h,Kv]
def Nh(u v):red (u^^^v)=red u^^^red v:=HP 7 u v
instance xt(x:Nat):Nat:=if 255<x*2 then x*2^^^283 else x*2
def C0:Nat->Nat->Nat
 |0,x=>x
 |n+1,x=>xt (C0 n x)
def Ni:∀a,a<256->∀p,p<8->red (a*2^p)=C0 p a:=by decide+kernel
def Vb:∀a,a<256->xt a<256:=by decide+kernel
theorem DY(h:a<256):∀p,C0 p a<256
 |0=>h
 |p+1=>Vb _ (DY h p)
def yW(a b:Nat):Nat->Nat
 |0=>0
 |n+1=>if bit b n=P' then yW a b n^^^C0 n a else yW a b n
def DZ(t x y):Xa (t+1) x y=if bit y t=P' then Xa t x y^^^(x*2^t)else Xa t x y:=by unfold Xa;rw[b0]
theorem ui(j:a<256)(b):∀n,n<=8->red (Xa n a b)=yW a b n
 |0,_=>by show red 0=0;decide
 |n+1,h=>by rw[DZ,yW];split;rw[Nh,ui j b n 'l',Ni a j n 'l'];show ui j b n 'l'
def jk(h:a<256)(b):WM a b=yW a b 8:=ui h b 8 (aI _)
theorem D0(h:a<256)(b):∀n,yW a b n<256
 |0=>by show 0<256;decide
 |n+1=>by rw[yW];split;show m2 (n:=8) (D0 h b n) (DY h n);show D0 h b n
def uj(h:a<256)(b):WM a b<256:=by rw[jk h];show D0 h b 8
def ly(n x y)(h:x<256)(M):C (n+2) .df [NI x,NI y] M=N' (NI (WM x y),Q',M):=by
 obtain⟨e',o,a,rfl⟩:=eF (M:=M) (tg:=[3]) (body:=cO T (C (n+1)) (.ite (.call .cA (.cons (.v 1) (.cons (.v 3) .nil))) (.aug 2 .xor (.v 0) .nil) .nil (.aug 0 .shl (.int 1) (.ite (.cmp .gt (.v 0) (.int 255)) (.aug 0 .xor (.pj 2 283) .nil) .nil .nil)))) (xs:=(VW 8).map λt=>[NI t])
  (e:=#[[N' (NI x),N' (NI y),N' (.int 0),O'],O'])
  (λt e=>∃a:Option Vl,e=#[[N' (NI (C0 t x)),N' (NI y),N' (NI (yW x y t)),a],O'])
  #[_,S'] λt w e q #[a,he]=>by
   subst he;obtain⟨r,rfl⟩:=aU q;apply#[S',_,?_,N' (NI t),S'];have j:=DY h t;have s:binI .shl ((C0 t x):Int) 1=N' ((C0 t x*2:Nat):Int):=jw (b:=1) () (by omega);have u:cF .gt ((C0 t x*2:Nat):Int) 255=decide (255<C0 t x*2):=by simp![cF];congr 1;apply propext;omega
   have B:binI .xor ((C0 t x*2:Nat):Int) 283=N' ((C0 t x*2^^^283:Nat):Int):=qP _ 283;rw[yW,C0,xt];by_cases E:255<C0 t x*2<;>cases j:bit y t<;>erw[dJ,j,qP,s,u,E,B]
 have G:(8:Int).natAbs<=bw:=by decide
 have H:(8:Int).toNat=8:=rfl;rwa[G,H,o,jk h]
def wY(h:a<256)(x y):WM a (x^^^y)=WM a x^^^WM a y:=by
 rw[jk h,jk h,jk h];have:∀n,yW a (x^^^y) n=yW a x n^^^yW a y n:=λn=>by
  induction n with
  |zero=>simp[yW]
  |succ n j=>
   simp![yW];rw[F3,j];generalize yW a x n=u;generalize yW a y n=v;generalize C0 n a=c;cases bit x n<;>cases bit y n;rfl;show u^^^v^^^c=u^^^(v^^^c);rw[jc];show u^^^v^^^c=u^^^c^^^v;rw[jc,XS v c,<-jc];show u^^^v=(u^^^c)^^^(v^^^c);rw[jc,<-jc c,XS c v,jc v,Nat.xor_self,Nat.xor_zero]
 show this 8
instance ip:Nat->Nat->Nat->Nat
 |0,i,_=>i
 |n+1,i,p=>ip n (WM i (WM p p)) (WM p p)
instance D1:d_:=[0,1,141,246,203,82,123,209,232,79,41,192,176,225,229,199,116,180,170,75,153,43,96,95,88,63,253,204,255,64,238,178,58,110,90,241,85,77,168,201,193,10,152,21,48,68,162,194,44,69,146,108,243,57,102,66,242,53,32,111,119,187,89,25,29,254,55,103,45,49,245,105,167,100,171,19,84,37,233,9,237,92,5,202,76,36,135,191,24,62,34,240,81,236,97,23,22,94,175,211,73,166,54,67,244,71,145,223,51,147,33,59,121,183,151,133,16,181,186,60,182,112,208,6,161,250,129,130,131,126,127,128,150,115,190,86,155,158,149,217,247,2,185,164,222,106,50,109,216,138,132,114,42,20,159,136,249,220,137,154,251,124,46,195,143,184,101,72,38,200,18,74,206,231,210,98,12,224,31,239,17,117,120,113,165,142,118,61,189,188,134,87,11,40,47,163,218,212,228,15,169,39,83,4,27,252,172,230,122,7,174,99,197,219,226,234,148,139,196,213,157,248,144,107,177,13,214,235,198,14,207,173,8,78,215,227,93,80,30,179,91,35,56,52,104,70,3,140,221,156,125,160,205,26,65,28]
def F4:∀a,a<256->ip 7 1 a=D1.getD a 0:=by decide+kernel
def HQ:∀a,a<256->a≠0->∀p,p<8->WM (D1.getD a 0) (WM a (2^p))=2^p:=by decide+kernel
def sZ:∀a,a<256->D1.getD a 0<256:=by decide+kernel
def Cn:∀a,a<256->a≠0->WM a (D1.getD a 0)=1:=by decide+kernel
def D2:∀x,x<256->WM 0 x≠1:=by
 intro x _;rw[jk ()];have:∀n,yW 0 x n=0:=λn=>by
  induction n with
  |zero=>rfl
  |succ n h=>
   have j:∀m,C0 m 0=0:=λm=>by
    induction m with
    |zero=>rfl
    |succ m h=>rw[C0,h];rfl
   rw[yW,h,j];split<;>rfl
 rw[this];decide
def yX(o:a<256)(y:a≠0):∀n,n<=8->∀z,z<2^n->WM (D1.getD a 0) (WM a z)=z:=by
 intro n;induction n with
 |zero=>
  intro _ z r;have:z=0:=by simpa using r
  subst this;have e:∀b,b<256->WM b 0=0:=λb B=>by
   rw[jk B];have:∀n,yW b 0 n=0:=λn=>by
    induction n with
    |zero=>rfl
    |succ n s=>rw[yW,s];simp[bit]
   show this 8
  rw[e a o,e _ (sZ a o)]
 |succ n s=>
  intro G z r;by_cases h:z<2^n;show s 'l' z h;have e:z=(z-2^n)^^^2^n:=by
   have q:z-2^n<2^n:=by rw[ou]at r;lia
   have E:=wK (z-2^n) (2^n);rw[Kf q]at E;have H:(z-2^n)&&&2^n=0:=by apply pC;intro j;rw[jy,Zz,Z8];by_cases u:n=j;subst u;rw[n0 q];rfl;simp[u]
   lia
  rw[e,wY o,wY (sZ a o),HQ a o y n 'l',s 'l' (z-2^n) (by rw[ou]at r;lia)]
def uM(a)(h:a<256):Xs a=ip 7 1 a:=by
 rw[F4 a h];unfold Xs;by_cases o:a=0;subst o;have:((VW 256).find? λx=>WM 0 x==1)=none:=by rw[tM];intro x q;rw[cg]at q;simpa using D2 x q
 rw[this];rfl;have:((VW 256).find? λx=>WM a x==1)=N' (D1.getD a 0):=by rw[zI];apply#[by simpa using Cn a h o,by simpa using sZ a h,λj B=> ?_];have r:=sZ a h;simp![lj,beq_eq_false_iff_ne];intro s;have u:=yX h o 8 (aI _) j 'l';have y:=yX h o 8 (aI _) (D1.getD a 0) r;rw[s]at u;rw[Cn a h o]at y;lia
 rw[this];rfl
def aci(i)(o:b8 i)(s):Mk .hJ 8 (V0 8 λj=>WM (lane 8 (s.v i.a) j) (lane 8 (s.v i.b) j)) i s:=by apply Mk.of (f:=λj=>WM (lane 8 (s.v i.a) j) (lane 8 (s.v i.b) j)) (fr:=P') (λn=> ?_) (λj q=>(aj (uj (az 8 _ _) _)).symm);rwa[ag,gy _ _ o.a,gy _ _ o.b,je,aO w8];rw[aM (h:=λj=>NI (WM (lane 8 (s.v i.a) j) (lane 8 (s.v i.b) j)))];rfl;intro j q;erw[b6,ly _ _ _ (az 8 (s.v i.a) j)]
instance OL(a:Nat):Nat->Nat
 |0=>a
 |n+1=>WM (OL a n) (OL a n)
def OM(a:Nat):Nat->Nat
 |0=>1
 |n+1=>WM (OM a n) (OL a (n+1))
theorem Kw(h:a<256):∀n,OL a n<256
 |0=>h
 |n+1=>uj (Kw h n) _
theorem Kx(h:a<256):∀n,OM a n<256
 |0=>by show 1<256;decide
 |n+1=>uj (Kx h n) _
theorem Ky(a):∀n m,ip n (OM a m) (OL a m)=OM a (m+n)
 |0,m=>rfl
 |n+1,m=>by rw[ip];have:=Ky a n (m+1);rw[OM,OL]at this;rw[this,Nat.add_right_comm];rfl
def u0(n x)(h:x<256)(M):C (n+3) .iV [NI x] M=N' (NI (Xs x),Q',M):=by
 obtain⟨e',j,a,rfl⟩:=eF (M:=M) (tg:=[3]) (body:=cO T (C (n+2)) (.set 2 (.call .df (.cons (.v 2) (.cons (.v 2) .nil))) (.set 1 (.call .df (.cons (.v 1) (.cons (.v 2) .nil))) .nil))) (xs:=(VW 7).map λ(t:Nat)=>[.int (1+t*1)])
  (e:=#[[N' (NI x),N' (.int 1),N' (NI x),O'],O'])
  (λt e=>∃a:Option Vl,e=#[[N' (NI x),N' (NI (OM x t)),N' (NI (OL x t)),a],O'])
  #[_,S'] λt w e o #[a,he]=>by subst he;obtain⟨q,rfl⟩:=aU o;apply#[S',_,?_,N' (.int (1+t*1)),S'];rw[OM,OL];erw[ly _ _ _ (Kw h t),ly _ _ _ (Kx h t)]
 have r:(1:Int).natAbs<=bw/\(8:Int).natAbs<=bw:=by decide
 have s:((8:Int)-1).toNat=7:=rfl;have e:OM x 7=Xs x:=by rw[uM x h];show(Ky x 7 0).symm
 rwa[r,s,j,e]
def Nj(w x j)(q:j<8)(h:x<256):pc (w/2^(56-8*j)&&&x)=Wx 8 ((w/256^(7-j) % 256)&&&x):=by
 have e:w/2^(56-8*j)&&&x=(w/256^(7-j) % 256)&&&x:=by rw[show(256)^(7-j)=2^(56-8*j) by rw[show(256)=2^8 from rfl,<-Yj];congr 1;lia];apply pC;intro b;rw[jy,jy,show(256)=2^8 from rfl,vF];by_cases o:b<8;simp[o];have:x.testBit b=false:=n0 (aW h (dh (n:=2) () (by lia:8<=b)));rw[this];simp
 rw[e,vt 8];show jf va h
def yY(n x w)(q:x<256)(J:w<2^64)(M):C (n+2) .qy [NI x,NI w] M=N' (NI (Wn 8 λj=>Wx 8 ((w/256^(7-j) % 256)&&&x) % 2==1),Q',M):=by
 have r:(8:Int).natAbs<=bw:=by decide
 have s:(8:Int).toNat=8:=rfl;have o:=i_ n 8 (λj=>NI (Wx 8 ((w/256^(7-j) % 256)&&&x) % 2)) (λj=>Wx 8 ((w/256^(7-j) % 256)&&&x) % 2==1) () (λj _=>by rw[yU];rcases qJ (Wx 8 ((w/256^(7-j) % 256)&&&x))with h|h<;>rw[h]<;>rfl) M;rwa[r,s];rw[aM (h:=λj=>NI (Wx 8 ((w/256^(7-j) % 256)&&&x) % 2))];erw[o];intro j u;have B:binI .mul 8 (j)=N' ((8*j:Nat):Int):=nL (a:=8) (.inl ());have E:binI .sub 56 ((8*j:Nat):Int)=N' ((56-8*j:Nat):Int):=p_ (a:=56) 'l';have G:∀y:Nat,binI .mod (y) 2=N' ((y % 2:Nat):Int):=λy=>gk (b:=2) ();have H:w/2^(56-8*j)&&&x<2^256:=jf va 'l';erw[b6,B,E,ie,i9,oR _ _ H,Nj w x j u q,G]
def uk(w x c):Zl w x (c % 256)=(Wn 8 λj=>Wx 8 ((w/256^(7-j) % 256)&&&x) % 2==1)^^^(c % 2^8):=by have e:Zl w x (c % 256)=Wn 8 λj=>(Wx 8 ((w/256^(7-j) % 256)&&&x) % 2==1) !=bit (c % 256) j:=rfl;rw[e];apply pC;intro j;rw[Yp,eJ,eJ,b_,show(256)=2^8 from rfl,vF];by_cases h:j<8;simp[h];simp[h]
def yZ(w x c):Zl w x (c % 256)<2^8:=by rw[uk];show m2 (kj _ _) (au _ ())
def acj(i)(o:b8 i)(s):Mk .transform 8 (V0 8 λj=>Zl (lane 64 (s.v i.b) (j/8)) (lane 8 (s.v i.a) j) (i.z.toNat % 256)) i s:=by apply Mk.of (f:=λj=>Zl (lane 64 (s.v i.b) (j/8)) (lane 8 (s.v i.a) j) (i.z.toNat % 256)) (fr:=P') (λn=> ?_) (λj u=>(aj (yZ _ _ _)).symm);have h:=m_ (n+4) (.j4 .iW [.ord (ag i)]) (λx w=>Zl w x (i.z.toNat % 256)) Q' i o s (λx w q r=>by rwa[ag,yY _ x w q r,Ku,qP,uk]);simp![ag]at h;rwa[ag,h]
def ack(i)(q:b8 i)(s):Mk .dF 8 (V0 8 λj=>Zl (lane 64 (s.v i.b) (j/8)) (Xs (lane 8 (s.v i.a) j)) (i.z.toNat % 256)) i s:=by
 apply Mk.of (f:=λj=>Zl (lane 64 (s.v i.b) (j/8)) (Xs (lane 8 (s.v i.a) j)) (i.z.toNat % 256)) (fr:=P') (λn=> ?_) (λj y=>(aj (yZ _ _ _)).symm);have o:=m_ (n+4) (.j4 .cZ [.ord (ag i)]) (λx w=>Zl w (Xs x) (i.z.toNat % 256)) Q' i q s (λx w h r=>by
  have u:Xs x<256:=by rw[uM x h,F4 x h];show sZ x h
  rwa[ag,u0 _ x h,yY _ (Xs x) w u r,Ku,qP,uk])
 simp![ag]at o;rwa[ag,o]
theorem qc:∀(r:d_) (x:Nat),(r.map λ(t:Nat)=>(t:Int)).foldl (λa b=>if b<a then b else a) (x:Int)=((r.foldl min x:Nat):Int)
 |[],x=>rfl
 |y::r,x=>by
  simp![bf,qj];have:(if(y)<(x:Int)then(y:Int)else(x))=((min x y:Nat):Int):=by split<;>lia
  rw[this,qc r (min x y)]
def HR(x:Nat)(r:d_)(h:x<=65535):m6 ((x::r).map λ(t:Nat)=>(t:Int))=N' (((x::r).foldl min 65535:Nat):Int):=by simp![bf,m6,qc,qj];rw[show min 65535 x=x by lia]
theorem qS:∀(r:d_) (x:Nat),r.foldl min x∈x::r
 |[],x=>by simp
 |y::r,x=>by have:=qS r (min x y);simp![qj,aE]at this|-;rcases this with h|h;rw[h];rcases Nat.le_total x y with j|j;left;lia;right;left;lia;show .inr (.inr h)
theorem rD(y:Nat):∀l:d_,jP (y) (l.map λ(t:Nat)=>(t))=l.findIdx? (λt=>t==y)
 |[]=>rfl
 |x::l=>by
  simp![bf,jP,XB,rD y l];by_cases h:x=y;subst h;simp;have j:¬(x)=(y:Int):=by lia
  rw[ab j];have:(x==y)=false:=by simpa using h
  rw[this];rfl
def acm(i:Ins)(O:b8 i)(s):Mk .eX 64 (least (s.v i.a)) i s:=by
 apply#[λj=>lane 64 (least (s.v i.a)) j,P',λn=> ?_,λj G _=>rfl];let l:=λq=>(VW 8).map λj=>lane 16 (s.v i.a) (8*q+j);let x:=λq=>(l q).foldl min 65535;have o:∀q,l q=lane 16 (s.v i.a) (8*q)::((VW 7).map λj=>lane 16 (s.v i.a) (8*q+(j+1))):=λq=>by show(VW 8).map _=_;rw[zL,bf,aS];rfl
 have r:∀q,lane 16 (s.v i.a) (8*q)<=65535:=λq=>by have:=az 16 (s.v i.a) (8*q);lia
 have u:∀q,x q∈l q:=λq=>by show(l q).foldl min 65535∈l q;rw[o q,qj,show min 65535 (lane 16 (s.v i.a) (8*q))=lane 16 (s.v i.a) (8*q) by have:=r q;lia];show qS _ _
 have B:∀q,x q<65536:=λq=>by have:=u q;simp![l,gm]at this;obtain⟨j,_,G⟩:=this;rw[<-G];show az 16 _ _
 have E:∀q,∃t,(l q).findIdx? (λy=>y==x q)=N' t/\t<8:=λq=>by
  cases h:(l q).findIdx? (λy=>y==x q)with
  |none=>
   rw[YG]at h;have:=h _ (u q);simp at this
  |some t=>
   apply#[t,S',?_];have:=(List.findIdx?_eq_some_iff_getElem.mp h).1;simpa [l] using this
 have H:∀q,m6 ((VW 8).map λj=>(lane 16 (s.v i.a) (q*8+j):Int))=N' ((x q):Int):=λq=>by have h:=HR (lane 16 (s.v i.a) (8*q)) ((VW 7).map λj=>lane 16 (s.v i.a) (8*q+(j+1))) (r q);rw[<-o q]at h;rw[<-h,cz q 8];rw[aS];rfl
 have J:∀q,jP ((x q):Int) ((VW 8).map λj=>(lane 16 (s.v i.a) (q*8+j):Int))=(l q).findIdx? (λy=>y==x q):=λq=>by rw[<-rD,cz q 8];rw[aS];rfl
 have P:=nO (n+10) 8 2 (lanes 16) (lanes 64) (λj=>NI (lane 16 (s.v i.a) j)) (λj=>NI (lane 16 (s.v i.b) j)) (λq j=>NI (if j=0 then x q+((l q).findIdx? (λy=>y==x q)).getD 0*65536 else 0)) (.j4 .cY []) (N' (af s)) () () () () P' S' rfl (λq X=>by
  obtain⟨t,L,M⟩:=E q;have Q:binI .shl (t:Int) 16=N' ((t*2^16:Nat):Int):=jw (b:=16) () 'l';have U:x q|||t*2^16=x q+2^16*t:=by rw[Zm];show m8 (B q)
  rwa[iD,vb,H q,J q,L,Zp,Q,qI,U];rw[show(2^16*t)=t*65536 by lia];rfl)
 rwa[ag,sY _ _ O.a,sY _ _ O.b,P];apply wR λj G=> ?_;unfold least;rw[ky G];obtain⟨t,L,M⟩:=E (j/2);show NI (if j % 2=0 then x (j/2)+((l (j/2)).findIdx? (λy=>y==x (j/2))).getD 0*65536 else 0)=NI (lane 64 ((x (j/2)+((l (j/2)).findIdx? (λy=>y==x (j/2))).getD 0*65536) % 2^128) (j % 2));rw[L];simp![vc];have:=B (j/2);generalize x (j/2)=y at this;rw[aj (show y+t*65536<2^128 by lia)];unfold lane;by_cases h:j % 2=0;rw[ae h,h];simp![XX,qo,rY];rw[aj 'l'];rw[ab h,show j % 2=1 by lia];simp![ox];rw[ja 'l']
def Nk(h:F)(N:Nat)(g:Nat->Bool)(i:Ins)(s:Sg40.Machine):Prop:=∃fr:Bool,∀n,C (n+12) h [.ord (ag i),.cT] (N' (af s))=N' (LF N λj=>BI (g j),fr,N' (af s))
def Nl(n h:Nat)(x y:Int)(M:gf):C (n+1) .Bx [NI (h % 4),.int x,.int y] M=N' (BI (match h % 4 with|0=>x==y|1=>decide (x<y)|2=>decide (x<=y)|_=>Q'),Q',M):=by
 have s:h % 4=0\/h % 4=1\/h % 4=2\/h % 4=3:=by lia
 have u:cF .eq x y=(x==y):=by simp![cF];rfl
 have B:cF .lt x y=decide (x<y):=rfl;have q:cF .le x y=decide (x<=y):=rfl;rcases s with h|h|h|h<;>rw[h];have j:cF .eq ((0:Nat):Int) 0=true:=rfl;rwa[j,u];have j:cF .eq ((1:Nat):Int) 0=false:=rfl;have o:cF .eq ((1:Nat):Int) 1=true:=rfl;rwa[j,o,B];have j:cF .eq ((2:Nat):Int) 0=false:=rfl;have o:cF .eq ((2:Nat):Int) 1=false:=rfl;have r:cF .eq ((2:Nat):Int) 2=true:=rfl;rwa[j,o,r,q];have j:cF .eq ((3:Nat):Int) 0=false:=rfl;have o:cF .eq ((3:Nat):Int) 1=false:=rfl;have r:cF .eq ((3:Nat):Int) 2=false:=rfl;rwa[j,o,r]
def Kz(m:Nat)(a b:Int):holds m a b=((match m % 4 with|0=>a==b|1=>decide (a<b)|2=>decide (a<=b)|_=>Q') !=bit m 2):=by
 have j:∀x:Bool,(if m/4 % 2=1 then !x else x)=(x !=(m/4 % 2==1)):=λx=>by rcases qJ (m/4)with h|h<;>simp[h]
 show j _
def wZ(n N:Nat)(f g:Nat->Int)(i:Ins)(s:N<=1000)(M:gf):C (n+2) .f9 [.ord (ag i),LI N f,LI N g] M=N' (LF N λj=>BI (holds i.z.toNat (f j) (g j)),P',M):=by
 have o:N<=bw:=by simp![bw];lia
 have q:C (n+1) .cA [NI i.z.toNat,.int 2] M=N' (BI (bit i.z.toNat 2),Q',M):=dJ n i.z.toNat 2 M;have r:binI .mod (i.z.toNat:Int) 4=N' ((i.z.toNat % 4:Nat):Int):=gk (b:=4) ();rwa[ag,q,je,o];rw[aM (h:=λj=>BI (holds i.z.toNat (f j) (g j)))];rfl;intro j u;erw[b6,r,Nl,Kz]
def acn(i:Ins)(h:b8 i)(s:Sg40.Machine):Nk .compare (lanes i.k) (λj=>holds i.z.toNat (lane i.k (s.v i.a) j) (lane i.k (s.v i.b) j)) i s:=by have o:=h.k;have r:=o.le64;apply#[P',λn=> ?_];have q:=wZ (n+9) (lanes i.k) (λj=>(lane i.k (s.v i.a) j:Int)) (λj=>(lane i.k (s.v i.b) j:Int)) i 'l' (N' (af s));simp![ag]at q;rwa[ag,ak (n+8) _ i.k h.a o,ak (n+8) _ i.k h.b o,q]
def aco(i:Ins)(o:b8 i)(s:Sg40.Machine):Nk .hV (lanes i.k) (λj=>holds i.z.toNat (VX i.k (lane i.k (s.v i.a) j)) (VX i.k (lane i.k (s.v i.b) j))) i s:=by
 have h:=o.k;have y:=h.le64;apply#[P',λn=> ?_];have q:=wZ (n+9) (lanes i.k) (λj=>VX i.k (lane i.k (s.v i.a) j)) (λj=>VX i.k (lane i.k (s.v i.b) j)) i 'l' (N' (af s));have r:∀a b c d:Option Vl,pU (b6 T (C (n+11)) #[[N' (.ord (ag i)),N' .cT,a,b,c,d],O'] (N' (af s)) [4] (.call .signed (.cons (.v 4) (.cons (.Jg (.v 0) .k) .nil)))) ((VW (lanes i.k)).map λj=>[NI (lane i.k (s.v i.a) j)])=N' ((VW (lanes i.k)).map λj=>.int (VX i.k (lane i.k (s.v i.a) j))):=λa b c d=>aM λj B=>by erw[b6,ag,bc _ _ i.k h.one h.aZ (az i.k (s.v i.a) j)]
 have u:∀a b c d:Option Vl,pU (b6 T (C (n+11)) #[[N' (.ord (ag i)),N' .cT,a,b,c,d],O'] (N' (af s)) [5] (.call .signed (.cons (.v 5) (.cons (.Jg (.v 0) .k) .nil)))) ((VW (lanes i.k)).map λj=>[NI (lane i.k (s.v i.b) j)])=N' ((VW (lanes i.k)).map λj=>.int (VX i.k (lane i.k (s.v i.b) j))):=λa b c d=>aM λj B=>by erw[b6,ag,bc _ _ i.k h.one h.aZ (az i.k (s.v i.b) j)]
 simp![ag]at q r u;rwa[ag,ak (n+8) _ i.k o.a h,ak (n+8) _ i.k o.b h,aO h,r,u,q]
def Vc(a:Nat):cF .ne (a:Int) 0=(a !=0):=by simp![cF];by_cases h:a=0;subst h;rfl;rw[bp 'l',bne_iff_ne.mpr h];rfl
def F5(n:Nat)(i:Ins)(o:b8 i)(s:Sg40.Machine):C (n+4) .hY [.ord (ag i),.cT] (N' (af s))=N' (LF (lanes i.k) λj=>BI ((lane i.k (s.v i.a) j&&&lane i.k (s.v i.b) j) !=0),P',N' (af s)):=by have q:=o.k;rwa[ag,ak n _ i.k o.a q,ak n _ i.k o.b q,je,aO q];rw[aM (h:=λj=>BI ((lane i.k (s.v i.a) j&&&lane i.k (s.v i.b) j) !=0))];rfl;intro j r;erw[b6,i9,Vc]
def acp(i:Ins)(h:b8 i)(s:Sg40.Machine):Nk .hY (lanes i.k) (λj=>(lane i.k (s.v i.a) j&&&lane i.k (s.v i.b) j) !=0) i s:=#[P',λn=>F5 (n+8) i h s]
def acq(i:Ins)(o:b8 i)(s:Sg40.Machine):Nk .jJ (lanes i.k) (λj=>(lane i.k (s.v i.a) j&&&lane i.k (s.v i.b) j)==0) i s:=by have r:=o.k;apply#[P',λn=> ?_];have q:=F5 (n+7) i o s;simp![ag]at q;rwa[ag,q,aO r];rw[aM (h:=λj=>BI ((lane i.k (s.v i.a) j&&&lane i.k (s.v i.b) j)==0))];rfl;intro j u;erw[b6];congr 2;cases h:(lane i.k (s.v i.a) j&&&lane i.k (s.v i.b) j)==0<;>simp[bne,h]
def acr(i:Ins)(q:b8 i)(s:Sg40.Machine):Nk .jK (lanes i.k) (λj=>bit (lane i.k (s.v i.a) j) (i.k-1)) i s:=by have o:=q.k;have r:binI .sub (i.k:Int) 1=N' ((i.k-1:Nat):Int):=p_ (b:=1) o.one;apply#[P',λn=> ?_];rwa[ag,ak (n+8) _ i.k q.a o,aO o];rw[aM (h:=λj=>BI (bit (lane i.k (s.v i.a) j) (i.k-1)))];rfl;intro j u;erw[b6,r,dJ]
def acs(i:Ins)(o:b8 i)(s:Sg40.Machine):Nk .f_ 64 (λj=>bit (lane 64 (s.v i.b) (j/8)) (lane 8 (s.v i.a) j % 64)) i s:=by apply#[P',λn=> ?_];have h:=wX (n+4) (.j4 .eE []) (λx w=>bit w (x % 64)) Q' i o s (λx w r u=>by have q:binI .mod (x:Int) 64=N' ((x % 64:Nat):Int):=gk (b:=64) ();rwa[q,dJ]);simp![ag]at h;rwa[ag,h];rfl
def D3(a b:Nat):(a|||b)+(a&&&b)=a+b:=by
 induction a using Xk generalizing b with
 |ind a r=>
  by_cases s:a=0;subst s;simp;have h:=r (a/2) 'l' (b/2);have u:=mH (a&&&b) 2;have y:=mH (a|||b) 2;rw[vh]at u;rw[Nat.or_div_two]at y;have B:(a|||b) % 2+(a&&&b) % 2=a % 2+b % 2:=by have j:=tL (a:=a) (b:=b) (n:=1);have o:=XJ (a:=a) (b:=b) (n:=1);simp![rZ]at j o;rw[j,o];rcases qJ a with q|q<;>rcases qJ b with j|j<;>rw[q,j]<;>rfl
  lia
def not_and(o:x<2^k)(r:y<2^k):(2^k-1-x)&&&y=y-(y&&&x):=by
 have q:2^k-1-x=2^k-(x+1):=by lia
 have s:((2^k-1-x)&&&y)|||(y&&&x)=y:=by apply pC;intro j;rw[Nat.testBit_or,jy,jy,q,Yq o];by_cases u:j<k;simp![u,decide_true];cases x.testBit j<;>cases y.testBit j<;>rfl;have:y.testBit j=false:=n0 (aW r (dh () 'l'));rw[this];simp
 have B:((2^k-1-x)&&&y)&&&(y&&&x)=0:=by apply pC;intro j;rw[jy,jy,jy,q,Yq o,Z8];cases x.testBit j<;>cases y.testBit j<;>simp
 have h:=D3 ((2^k-1-x)&&&y) (y&&&x);rw[s,B]at h;lia
def KA(x:Nat):kR (x)=W3 x:=by unfold kR;lia
def y4(x y:Nat):binI .and (kR (x)) (y)=N' ((y-(y&&&x):Nat):Int):=by rw[KA];show N' ((y:Int)-((y&&&x:Nat):Int))=_;have:y&&&x<=y:=rT;congr 1;lia
def jV(n d)(i)(h:Wd i.k)(s):C (n+3) .ee [NI d,.ord (ag i),.cT] (N' (af s))=N' (NI (s.p (d % 8) % 2^i.k),Q',N' (af s)):=by rwa[ag,b5,gR _ _ i.k h.aZ]
def Pp(f:F)(h:Nat):Prop:=a_ .a8 (h:Int)=N' f/\∀(n x y:Nat) (i:Ins) (j o:Nat) (M:gf),b8 i->x=j % 2^i.k->y=o % 2^i.k->∃z:Int,C (n+5) f [NI x,NI y,.ord (ag i)] M=N' (.int z,Q',M)/\N' (Wb i.k z)=logic h i.k j o i.z
def Vd:Pp .gY 90:=#[S',λn x y i o q M r h j=>by apply#[((x&&&y:Nat):Int),?_,?_];rwa[i9];subst h;subst j;rw[aQ,aj (vL _ (au _ (tp _)))];rfl]
def Ve:Pp .iN 91:=#[S',λn x y i o q M r h j=>by apply#[((x|||y:Nat):Int),?_,?_];rwa[qI];subst h;subst j;rw[aQ,aj (tQ (au _ (tp _)) (au _ (tp _)))];rfl]
def Vf:Pp .dk 92:=#[S',λn x y i o q M r h j=>by apply#[((x^^^y:Nat):Int),?_,?_];rwa[qP];subst h;subst j;rw[aQ,aj (m2 (au _ (tp _)) (au _ (tp _)))];rfl]
def Vg:Pp .l4 93:=#[S',λn x y i o q M r h j=>by apply#[kR ((x^^^y:Nat):Int),?_,?_];rwa[qP];subst h;subst j;rw[rA (m2 (au _ (tp _)) (au _ (tp _)))];rfl]
def Vh:Pp .eu 94:=#[S',λn x y i r s M u h j=>by
 apply#[((y-(y&&&x):Nat):Int),?_,?_];rwa[y4];have o:x<2^i.k:=by rw[h];show au _ (tp _)
 have q:y<2^i.k:=by rw[j];show au _ (tp _)
 rw[aQ,aj (by omega),<-not_and o q,h,j];rfl]
def Vi:Pp .pO 95:=#[S',λn x y i j o M q h r=>by apply#[kR (x),?_,?_];rwa[];subst h;rw[rA (au _ (tp _))];rfl]
def Vj:Pp .nv 96:=#[S',λn x y i o q M r h j=>by apply#[((x+y:Nat):Int),?_,?_];rwa[fF];subst h;subst j;rw[aQ];rfl]
universe b
def Vk:Pp .fU 97:=#[S',λn x y i o u M q j B=>by
 have r:x<2^i.k:=by rw[j];show au _ (tp _)
 have E:i.z.toNat % 256<256:=au _ ();have s:binI .mod (i.z.toNat:Int) 256=N' ((i.z.toNat % 256:Nat):Int):=gk (b:=256) ();apply#[((x*2^(i.z.toNat % 256):Nat):Int),?_,?_];rwa[ag,s,jw (show i.z.toNat % 256<=100000 by lia) (Kj q.k r)];rw[aQ];show _=N' (if i.z.toNat % 256<i.k then o % 2^i.k*2^(i.z.toNat % 256) % 2^i.k else 0);rw[j];split;rfl;rename_i h;rw[Nat.mod_eq_zero_of_dvd];show Nat.dvd_trans (Nat.pow_dvd_pow 2 'l') (Nat.dvd_mul_left _ _)]
def Vm:Pp .fm 98:=#[S',λn x y i q s M u j B=>by
 have o:x<2^i.k:=by rw[j];show au _ (tp _)
 have r:binI .mod (i.z.toNat:Int) 256=N' ((i.z.toNat % 256:Nat):Int):=gk (b:=256) ();apply#[((x/2^(i.z.toNat % 256):Nat):Int),?_,?_];rwa[ag,r,ie];rw[aQ,aj (jf (oj _ _) o)];show _=N' (if i.z.toNat % 256<i.k then q % 2^i.k/2^(i.z.toNat % 256)else 0);split;rw[j];rename_i h;rw[ja (aW o (dh () 'l'))]]
universe a
def Vn:Pp .ny 99:=#[S',λn x y i o q M r s u=>by
 have j:=r.k;have O:=j.le;have B:2*(i.k/2)=i.k:=by rcases j with h|h|h|h<;>rw[h]
 have E:binI .fdiv (i.k:Int) 2=N' ((i.k/2:Nat):Int):=ig (b:=2) () ();have G:x % 2^(i.k/2)<2^200:=aW (au _ (tp _)) (dh () 'l');apply#[((y % 2^(i.k/2)+2^(i.k/2)*(x % 2^(i.k/2)):Nat):Int),?_,?_];rwa[ag,E,gR _ _ (i.k/2) (show i.k/2<=1000 by lia),jw (show i.k/2<=100000 by lia) G,qI,m8 (au y (tp (i.k/2)))];have H:y % 2^(i.k/2)+2^(i.k/2)*(x % 2^(i.k/2))<2^i.k:=by have P:=au y (tp (i.k/2));have J:=au x (tp (i.k/2));have L:2^(i.k/2)*(x % 2^(i.k/2)+1)<=2^(i.k/2)*2^(i.k/2):=Dh _ J;rw[<-dB,show i.k/2+i.k/2=i.k by lia,XY]at L;lia
 rw[aQ,aj H];subst s;subst u;show _=N' (o % 2^i.k % 2^(i.k/2)*2^(i.k/2)+q % 2^i.k % 2^(i.k/2));rw[fg,cz]]
def xR(h:Pp f op)(i)(o:b8 i)(L:i.op=op)(s):∃y,logic i.op i.k (s.p (i.a % 8)) (s.p (i.b % 8)) i.z=N' y/\A9 .eU i s (Xr s i.d y):=by
 have q:=o.k;subst L;obtain⟨M,E⟩:=h;obtain⟨r,_,j⟩:=E 0 _ _ i (s.p (i.a % 8)) (s.p (i.b % 8)) O' o S' rfl;apply#[Wb i.k r,j.symm,λn=>#[.bQ,Q',?_]];obtain⟨z,G,u⟩:=E (n+8) _ _ i (s.p (i.a % 8)) (s.p (i.b % 8)) (N' (af s)) o S' rfl;have B:Wb i.k z=Wb i.k r:=by have:=u.trans j.symm;show dz this
 have H:=jV (n+10) i.a i q s;have J:=jV (n+10) i.b i q s;have O:=gJ (n+12) i.d (Wb i.k r) s;have P:T.iZ .a8 (i.op:Int)=N' f:=M;simp![ag]at H J G;rwa[ag,P,ik,H,J,G,jS _ _ i.k q.aZ,B,O]
def Co(n N:Nat)(f g:Nat->Nat)(u:N<=1000)(M:gf):C (n+2) .iy [LF N λj=>NI (f j),LF N λj=>NI (g j)] M=N' (NI (Wn N λj=>(VW N).any λq=>f j==g q),Q',M):=by
 have y:N<=bw:=by simp![bw];lia
 have o:=i_ n N (λj=>BI ((VW N).any λq=>f j==g q)) (λj=>(VW N).any λq=>f j==g q) u (λ_ _=>rfl) M;rwa[y];rw[aM (h:=λj=>BI ((VW N).any λq=>f j==g q))];erw[o];intro j B;have e:decide ((f j:Int)∈(VW N).map λq=>(g q:Int))=(VW N).any λq=>f j==g q:=by rw[my,pE,X7,gm];constructor;rintro⟨q,r,s⟩;show#[q,r,by simp;lia];rintro⟨q,r,s⟩;apply#[q,r,?_];simp at s;lia
 erw[b6,iD,e]
def acu(i:Ins)(h:b8 i)(s:Sg40.Machine):A9 .nz i s (Xr (Xr s (i.d/2*2) (Wn (lanes i.k) λj=>(VW (lanes i.k)).any λq=>lane i.k (s.v i.a) j==lane i.k (s.v i.b) q)) (i.d/2*2+1) (Wn (lanes i.k) λj=>(VW (lanes i.k)).any λq=>lane i.k (s.v i.b) j==lane i.k (s.v i.a) q)):=by have o:=h.k;have r:=o.le64;intro n;apply#[.bQ,Q',?_];have u:binI .fdiv (i.d:Int) 2=N' ((i.d/2:Nat):Int):=ig (b:=2) () ();have y:binI .mul ((i.d/2:Nat):Int) 2=N' ((i.d/2*2:Nat):Int):=nL (b:=2) (.inr ());have B:binI .add ((i.d/2*2:Nat):Int) 1=N' ((i.d/2*2+1:Nat):Int):=fF _ 1;rwa[ag,ak (n+10) _ i.k h.a o,ak (n+10) _ i.k h.b o,u,y,B,Co _ (lanes i.k) _ _ (show lanes i.k<=1000 by lia),gJ]
def Vo(i:Ins)(h:b8 i)(s:Sg40.Machine):A9 .d4 i s (setX s i.d (s.p (i.a % 8) % 2^i.k)):=by have j:=h.k;intro n;apply#[.bQ,Q',?_];have o:=jV (n+10) i.a i j s;have q:=d8 (n+10) i.d ((s.p (i.a % 8) % 2^i.k:Nat):Int) h.d s;rw[aQ,aj (aW (au _ (tp _)) j.HM)]at q;simp![ag]at o;rwa[ag,o,q]
def Vp(i:Ins)(h:b8 i)(s:Sg40.Machine):A9 .d5 i s (Xr s i.d (s.x i.a % 2^i.k)):=by have j:=h.k;intro n;apply#[.bQ,Q',?_];rwa[ag,ba _ i.a h.a,gR _ _ i.k j.aZ,gJ]
def Vq(a:Nat):cF .eq (a:Int) 0=(a==0):=by simp![cF];by_cases h:a=0;subst h;rfl;rw[bp 'l'];simp[h]
def Vr(a b:Nat):cF .eq (a:Int) (b:Int)=(a==b):=by simp![cF];by_cases h:a=b;subst h;simp;rw[bp 'l'];simp[h]
def Vs(i:Ins)(q:b8 i)(s:Sg40.Machine):A9 .gC i s {s with z:=(s.p (i.a % 8)|||s.p (i.b % 8)) % 2^i.k==0,c:=(s.p (i.a % 8)|||s.p (i.b % 8)) % 2^i.k==2^i.k-1}:=by have h:=q.k;intro n;apply#[.bQ,Q',?_];have j:=jV (n+10) i.a i h s;have o:=jV (n+10) i.b i h s;simp![ag]at j o;rw[Aw,XJ];rwa[ag,j,o,qI,Vq,qa _ i.k h.aZ,Vr,mU]
def Vt(i:Ins)(r:b8 i)(s:Sg40.Machine):A9 .iO i s {s with z:=(s.p (i.a % 8)&&&s.p (i.b % 8)) % 2^i.k==0,c:=((2^i.k-1-s.p (i.a % 8) % 2^i.k)&&&s.p (i.b % 8)) % 2^i.k==0}:=by
 have h:=r.k;intro n;apply#[.bQ,Q',?_];have j:=jV (n+10) i.a i h s;have o:=jV (n+10) i.b i h s;have q:=tp i.k;have e:((2^i.k-1-s.p (i.a % 8) % 2^i.k)&&&s.p (i.b % 8)) % 2^i.k=s.p (i.b % 8) % 2^i.k-(s.p (i.b % 8) % 2^i.k&&&s.p (i.a % 8) % 2^i.k):=by rw[tL,aj (show 2^i.k-1-s.p (i.a % 8) % 2^i.k<2^i.k by omega),not_and (au _ q) (au _ q)]
 simp![ag]at j o;rw[Aw,e,tL];rwa[ag,j,o,i9,Vq,y4,mU]
def Nm(x:Nat)(u:x≠0):∃t,x-(x&&&(x-1))=2^t/\x.testBit t=P'/\∀j,j<t->x.testBit j=false:=by
 induction x using Xk with
 |ind x o=>
  have m:=tL (a:=x) (b:=x-1) (n:=1);simp![rZ]at m;have e:=mH (x&&&(x-1)) 2;rw[vh]at e;rcases qJ x with h|h;obtain⟨t,y,q,r⟩:=o (x/2) 'l' 'l';apply#[t+1,?_,?_,?_];rw[h,Nat.zero_and]at m;rw[show(x-1)/2=x/2-1 by lia]at e;have:x/2&&&(x/2-1)<=x/2:=rT;rw[ou];lia;rw[Z_];show q;intro j s;cases j with
  |zero=>rw[Z9];simp[h]
  |succ j=>rw[Z_];show r j 'l'
  apply#[0,?_,?_,λj s=>by lia];rw[show(x-1)/2=x/2 by lia,Nat.and_self]at e;rw[h,show(x-1) % 2=0 by lia]at m;simp at m;simp;lia;rw[Z9];simp[h]
def Vu(i:Ins)(y:b8 i)(s:Sg40.Machine):A9 .gD i s (setX s i.d (((VW i.k).find? (bit (s.p (i.a % 8)))).getD i.k)):=by
 have L:=y.k;intro n;apply#[.bQ,Q',?_];have B:=jV (n+10) i.a i L s;have h:∀j,j<i.k->bit (s.p (i.a % 8)) j=(s.p (i.a % 8) % 2^i.k).testBit j:=λj q=>by rw[b_,vF];simp[q]
 have E:s.p (i.a % 8) % 2^i.k<2^i.k:=au _ (tp _);generalize U:s.p (i.a % 8) % 2^i.k=x at*;have M:=L.le;simp![ag]at B;by_cases G:x=0;have H:((VW i.k).find? (bit (s.p (i.a % 8))))=none:=by rw[tM];intro j q;rw[h j (cg.mp q),G];simp
 have e:((x:Int) !=0)=false:=by rw[G];rfl
 have r:=d8 (n+10) i.d (i.k:Int) y.d s;rw[aQ,aj (show i.k<2^64 by lia)]at r;rw[H];rwa[ag,B,e,r,rR];obtain⟨t,X,o,J⟩:=Nm x G;have u:t<i.k:=by apply Decidable.byContradiction;intro Y;rw[n0 (aW E (dh () 'l'))]at o;cases o
 have H:((VW i.k).find? (bit (s.p (i.a % 8))))=N' t:=by rw[zI];apply#[by rw[h t u,o],by simpa using u,λj q=> ?_];rw[h j 'l',J j q];rfl
 have e:((x:Int) !=0)=true:=bne_iff_ne.mpr 'l';have O:binI .and (x:Int) (-(x:Int))=N' ((2^t:Nat):Int):=by
  have: -(x:Int)=W3 (x-1):=by lia
  rw[this];show N' ((x:Int)-((x&&&(x-1):Nat):Int))=_;have Z:x&&&(x-1)<=x:=rT;congr 1;lia
 have P:pS ((2^t:Nat):Int)=((t+1:Nat):Int):=by rw[Cd,ab (by have:=tp t;lia),Nat.log2_two_pow];rfl
 have Q:binI .sub ((t+1:Nat):Int) 1=N' (t:Int):=p_ (b:=1) 'l';have r:=d8 (n+10) i.d (t:Int) y.d s;rw[aQ,aj (show t<2^64 by lia)]at r;rw[H];rwa[ag,B,e,O,P,Q,r,vc]
def Vv(i:Ins)(o:b8 i)(s:Sg40.Machine):A9 .pP i s (setX s i.d (Wx i.k (s.p (i.a % 8)))):=by
 have q:=o.k;have r:=q.le;intro n;apply#[.bQ,Q',?_];have u:=jV (n+10) i.a i q s;have h:s.p (i.a % 8) % 2^i.k<2^i.k:=au _ (tp _);have E:Wx i.k (s.p (i.a % 8))=pc (s.p (i.a % 8) % 2^i.k):=by rw[<-vt i.k _ h];unfold Wx;congr 1;apply List.filter_congr;intro j y;rw[cg]at y;rw[b_,b_,vF];simp[y]
 have hpl:=FZ i.k _ h;have B:=d8 (n+10) i.d (pc (s.p (i.a % 8) % 2^i.k):Int) o.d s;rw[aQ,aj (show pc (s.p (i.a % 8) % 2^i.k)<2^64 by lia)]at B;rw[E];simp![ag]at u;rwa[ag,u,oR _ _ (aW h (dh () (show i.k<=256 by lia))),B]
abbrev TX(l v:Nat):Vl:=LF l λj=>NI (lane 8 v j)
def qT(n)(g)(o:n<=16):Wn n g=Wn 16 λj=>decide (j<n)&&g j:=by
 apply pC;intro j;rw[eJ,eJ];by_cases h:j<n;have:j<16:=by lia
 simp[this];simp[h]
def q_0(n a b o r)(y:r<=16)(M):∃N g,N<=16/\C (n+3) .among [TX o a,TX r b] M=N' (LF N λj=>BI (g j),P',M)/\Wn N g=among 0 a o b r:=by
 apply#[r,λj=>(VW o).any λt=>lane 8 a t==lane 8 b j,y,?_,?_];have s:r<=bw:=by simp![bw];lia
 rwa[s];rw[aM (h:=λj=>BI ((VW o).any λt=>lane 8 a t==lane 8 b j))];rfl;intro j E;have e:decide (((lane 8 b j):Int)∈(VW o).map λq=>((lane 8 a q):Int))=(VW o).any λt=>lane 8 a t==lane 8 b j:=by rw[my,pE,X7,gm];constructor;rintro⟨q,u,B⟩;show#[q,u,by simp;lia];rintro⟨q,u,B⟩;apply#[q,u,?_];simp at B;lia
 erw[b6,iD,e];rw[qT r _ y];rfl
def QY(n a j y)(V:j<=16)(M):C (n+1) .f7 [NI y,TX j a] M=N' (BI ((VW (j/2)).any λt=>decide (lane 8 a (2*t)<=y/\y<=lane 8 a (2*t+1))),Q',M):=by
 have L:binI .sub ((j):Int) 1=N' ((j:Int)-1):=rfl;have O:(0:Int).natAbs<=bw/\((j:Int)-1).natAbs<=bw/\(0:Int)<2/\(2:Int)<=bw:=by simp![bw];lia
 have P:(((j:Int)-1-0+2-1)/2).toNat=j/2:=by lia
 have E:∀(l:d_) (w:Option Vl),(∀t∈l,t<j/2)->
   ((l.any λt=>decide (lane 8 a (2*t)<=y/\y<=lane 8 a (2*t+1)))=P'->cU [2] (cO T (C n) (.ite (.chain (.ix (.v 1) (.v 2)) (.v 0) (.ix (.v 1) (.bin .add (.v 2) (.int 1)))) (.ret (.bl P')) .nil .nil)) (l.map λ(t:Nat)=>[.int (0+t*2)]) #[[N' (NI y),N' (TX j a),w],O'] M=N' (.rt (.bl P') Q' M))/\
   ((l.any λt=>decide (lane 8 a (2*t)<=y/\y<=lane 8 a (2*t+1)))=Q'->∃Q,cU [2] (cO T (C n) (.ite (.chain (.ix (.v 1) (.v 2)) (.v 0) (.ix (.v 1) (.bin .add (.v 2) (.int 1)))) (.ret (.bl P')) .nil .nil)) (l.map λ(t:Nat)=>[.int (0+t*2)]) #[[N' (NI y),N' (TX j a),w],O'] M=N' (.nx #[[N' (NI y),N' (TX j a),Q],O'] M)):=by
  intro l
  induction l with
  |nil=>show λw _=>#[by simp,λ_=>#[w,S']]
  |cons t l Z=>
   intro w r
   have U:=r t (by simp)
   have G:(0:Int)+(t:Int)*2=((2*t:Nat):Int):=by lia
   have H:binI .add ((2*t:Nat):Int) 1=N' ((2*t+1:Nat):Int):=fF _ 1
   obtain⟨s,B⟩:=Z (N' (NI (2*t))) λu F=>r u (by simp[F])
   by_cases X:lane 8 a (2*t)<=y
   have o:(lane 8 a (2*t):Int)<=(y:Int):=by lia
   by_cases Y:y<=lane 8 a (2*t+1)
   have q:(y:Int)<=(lane 8 a (2*t+1):Int):=by lia
   apply#[λ_=> ?_,λh=>by simp[X,Y]at h]
   erw[cU,G,H,aK (show 2*t<j by lia),aK (show 2*t+1<j by lia),o,q]
   have q:¬(y:Int)<=(lane 8 a (2*t+1):Int):=by lia
   have J:((t::l).any λt=>decide (lane 8 a (2*t)<=y/\y<=lane 8 a (2*t+1)))=l.any λt=>decide (lane 8 a (2*t)<=y/\y<=lane 8 a (2*t+1)):=by simp[Y]
   rw[J]
   erw[cU,G,H,aK (show 2*t<j by lia),aK (show 2*t+1<j by lia),o,q]
   show#[s,B]
   have o:¬(lane 8 a (2*t):Int)<=(y:Int):=by lia
   have J:((t::l).any λt=>decide (lane 8 a (2*t)<=y/\y<=lane 8 a (2*t+1)))=l.any λt=>decide (lane 8 a (2*t)<=y/\y<=lane 8 a (2*t+1)):=by simp[X]
   rw[J]
   erw[cU,G,H,aK (show 2*t<j by lia),aK (show 2*t+1<j by lia),o]
   show#[s,B]
 obtain⟨s,B⟩:=E (VW (j/2)) O' λt U=>cg.mp U;cases h:(VW (j/2)).any λt=>decide (lane 8 a (2*t)<=y/\y<=lane 8 a (2*t+1))with
 |true=>rwa[L,O,P,s h]
 |false=>
  obtain⟨Q,D⟩:=B h;rwa[L,O,P,D]
def q_1(n a b o q)(r:o<=16)(u:q<=16)(M):∃N g,N<=16/\C (n+3) .between [TX o a,TX q b] M=N' (LF N λj=>BI (g j),P',M)/\Wn N g=among 1 a o b q:=by
 apply#[q,λj=>(VW (o/2)).any λt=>decide (lane 8 a (2*t)<=lane 8 b j/\lane 8 b j<=lane 8 a (2*t+1)),u,?_,?_];have s:q<=bw:=by simp![bw];lia
 rwa[s];rw[aM (h:=λj=>BI ((VW (o/2)).any λt=>decide (lane 8 a (2*t)<=lane 8 b j/\lane 8 b j<=lane 8 a (2*t+1))))];rfl;intro j y;erw[b6,QY _ a o _ r];rw[qT q _ u];rfl
def KC(n m)(f:Nat->Vl):((VW n).map f).take m=(VW (min m n)).map f:=by by_cases h:m<=n;rw[jT h,show min m n=m by lia];rw[vG (by simp;lia),show min m n=n by lia]
def nP:(VW p).map f=(VW q).map g↔p=q/\∀t,t<p->f t=g t:=by constructor;intro h;have o:=congrArg W2 h;simp![aB,cG]at o;apply#[o,λt j=> ?_];have:=congrArg (λl=>l[t]?) h;simp![aK j,aK (show t<q by lia)]at this;show dz this;rintro⟨rfl,h⟩;show dP λt j=>h t (cg.mp j)
def q_2(n a b o q)(M):∃N g,N<=16/\C (n+3) .alike [TX o a,TX q b] M=N' (LF N λj=>BI (g j),P',M)/\Wn N g=among 2 a o b q:=by
 apply#[16,λj=>if j<o/\j<q then lane 8 a j==lane 8 b j else decide (o<=j/\q<=j),by decide,?_,S'];have r:(16:Int).natAbs<=bw:=by decide
 have s:(16:Int).toNat=16:=rfl;rwa[r,s];rw[aM (h:=λj=>BI (if j<o/\j<q then lane 8 a j==lane 8 b j else decide (o<=j/\q<=j)))];rfl;intro j G;have u:binI .add ((j):Int) 1=N' ((j+1:Nat):Int):=fF _ 1;have e:decide ((VW (min (j+1) o-j)).map (λt=>(lane 8 a (j+t):Int))=(VW (min (j+1) q-j)).map λt=>(lane 8 b (j+t):Int))=(if j<o/\j<q then lane 8 a j==lane 8 b j else decide (o<=j/\q<=j)):=by
  rw[my,pE,nP];by_cases y:j<o<;>by_cases B:j<q;rw[ae #[y,B],beq_iff_eq];constructor;rintro⟨_,h⟩;have:=h 0 'l';simp![lF]at this;lia;intro h;apply#[by lia,λt E=> ?_];have:t=0:=by lia
  subst this;simp![lF];lia;rw[ab 'l',pE];show#[λh=>by lia,λh=>by lia];rw[ab 'l',pE];show#[λh=>by lia,λh=>by lia];rw[ab 'l',pE];show#[λh=>by lia,λh=>#[by lia,λt E=>by lia]]
 erw[b6,u,qb,iD,e]
def q_3(n a b o q)(B:o<=16)(O:q<=16)(M:gf):∃N g,N<=16/\C (n+3) .mf [TX o a,TX q b] M=N' (LF N λj=>BI (g j),P',M)/\Wn N g=among 3 a o b q:=by
 apply#[16,λj=>(VW o).all λt=>decide (16<=t+j)||(decide (t+j<q)&&lane 8 a t==lane 8 b (t+j)),by decide,?_,S'];have E:(16:Int).natAbs<=bw:=by decide
 have G:(16:Int).toNat=16:=rfl;rwa[E,G];rw[aM (h:=λj=>BI ((VW o).all λt=>decide (16<=t+j)||(decide (t+j<q)&&lane 8 a t==lane 8 b (t+j))))];rfl;intro j P;have H:binI .sub 16 ((j):Int)=N' ((16-j:Nat):Int):=p_ (a:=16) 'l';have e:decide ((VW (min (16-j) o)).map (λt=>((lane 8 a t):Int))=(VW (min (j+o) q-j)).map λt=>(lane 8 b (j+t):Int))=((VW o).all λt=>decide (16<=t+j)||(decide (t+j<q)&&lane 8 a t==lane 8 b (t+j))):=by
  rw[my,pE,nP,cC];constructor;rintro⟨r,s⟩ t u;rw[cg]at u;by_cases y:16<=t+j;simp[y];have:=s t 'l';rw[fg j t]at this;have J:t+j<q:=by lia
  simp[J];right;lia;intro h;have h':∀t,t<o->t+j<16->t+j<q/\lane 8 a t=lane 8 b (t+j):=λt r s=>by
   have:=h t (cg.mpr r);have L:¬16<=t+j:=by lia
   simpa [L] using this
  apply#[?_,λt u=> ?_];by_cases Q:o=0;lia;by_cases y:o<=16-j;have:=(h' (o-1) 'l' 'l').1;lia;have:=(h' (15-j) 'l' 'l').1;lia;have:=(h' t 'l' 'l').2;rw[fg j t];lia
 erw[b6,H,KC,fF,qb,iD,e]
def Vw(n h a b o q)(r:o<=16)(s:q<=16)(y:h<4)(M):∃f,T.Hn .jv h=N' f/\∃N g,N<=16/\C (n+3) f [TX o a,TX q b] M=N' (LF N λj=>BI (g j),P',M)/\Wn N g=among h a o b q:=by
 have u:h=0\/h=1\/h=2\/h=3:=by lia
 rcases u with rfl|rfl|rfl|rfl;show#[.among,S',q_0 n a b o q s M];show#[.between,S',q_1 n a b o q r s M];show#[.alike,S',q_2 n a b o q M];show#[.mf,S',q_3 n a b o q r s M]
def Cp(n o h)(q:o<=16)(u:h<=16)(i)(a b)(s):C (n+6) .answer [.ord (ag i),.cT,TX o a,TX h b] (N' (af s))=N' (.bQ,Q',N' (af {Xr s i.d (among (i.z.toNat % 4) a o b h)with z:=decide (h<16),c:=among (i.z.toNat % 4) a o b h !=0})):=by
 have y:binI .mod (i.z.toNat:Int) 4=N' ((i.z.toNat % 4:Nat):Int):=gk (b:=4) ();obtain⟨f,B,N,g,J,E,G⟩:=Vw (n+2) (i.z.toNat % 4) a b o h q u (au _ ()) (N' (af s));have r:=i_ (n+4) N (λj=>BI (g j)) g 'l' (λ_ _=>rfl) (N' (af s));rw[G]at r;have H:cF .lt ((h):Int) 16=decide (h<16):=by simp![cF];congr 1;apply propext;lia
 rwa[ag,y,B,E,r,gJ,H,Vc,mU]
def jW(n d)(h:d<16)(s):C (n+4) .fB [NI d,.cT] (N' (af s))=N' (TX 16 (s.v d),P',N' (af s)):=by
 have j:(0:Int)<=16:=by decide
 have o:(16:Int).toNat=16:=rfl;rwa[gy _ _ h,j,o,jT (show 16<=lanes 8 by decide)]
def s_(n v)(M):∃fr,C (n+1) .kf [TX 16 v] M=N' (TX (Yb v) v,fr,M)/\Yb v<=16:=by
 unfold Yb;cases h:(VW 16).find? λi=>lane 8 v i==0 with
 |none=>
  apply#[Q',?_,by simp];have e:decide ((0)∈(VW 16).map λj=>((lane 8 v j):Int))=false:=by rw[tG,gm];rintro⟨q,u,B⟩;rw[tM]at h;have:=h q u;simp at this;lia
  rwa[iD,e,rR]
 |some t=>
  have r:=zI.mp h;have o:t<16:=cg.mp r.2.1;apply#[P',?_,by simp;lia];have e:decide ((0)∈(VW 16).map λj=>((lane 8 v j):Int))=true:=by rw[pE,gm];apply#[t,r.2.1,?_];have:=r.1;simp at this;lia
  have s:jP 0 ((VW 16).map λj=>((lane 8 v j):Int))=N' t:=by have:=rD 0 ((VW 16).map λj=>lane 8 v j);rw[aS]at this;apply Eq.trans this ?_;rw[List.findIdx?_eq_some_iff_getElem];apply#[by simpa using o,by simpa using r.1,λj y=> ?_];have:=r.2.2 j y;simpa using this
  rwa[iD,e,vb,s,Zp,jT (gp o),vc]
def acv(i)(h:b8 i)(s):A9 .iY i s {Xr s i.d (among (i.z.toNat % 4) (s.v i.a) (Yb (s.v i.a)) (s.v i.b) (Yb (s.v i.b)))with z:=decide (Yb (s.v i.b)<16),c:=among (i.z.toNat % 4) (s.v i.a) (Yb (s.v i.a)) (s.v i.b) (Yb (s.v i.b)) !=0}:=by intro n;apply#[.bQ,Q',?_];obtain⟨y,o,q⟩:=s_ (n+12) (s.v i.a) (N' (af s));obtain⟨B,r,u⟩:=s_ (n+12) (s.v i.b) (N' (af s));have j:=Cp (n+7) _ _ q u i (s.v i.a) (s.v i.b) s;simp![ag]at j;rwa[ag,jW _ _ h.a,jW _ _ h.b,o,r,j]
def acw(i)(h:b8 i)(s):A9 .gH i s {Xr s i.d (among (i.z.toNat % 4) (s.v i.a) (min (s.x 0) 16) (s.v i.b) (min (s.x 1) 16))with z:=decide (min (s.x 1) 16<16),c:=among (i.z.toNat % 4) (s.v i.a) (min (s.x 0) 16) (s.v i.b) (min (s.x 1) 16) !=0}:=by
 intro n;apply#[.bQ,Q',?_];have o:C (n+13) .aL [.cT,.int 0] (N' (af s))=N' (NI (s.x 0),Q',N' (af s)):=ba (n+12) 0 () s;have q:C (n+13) .aL [.cT,.int 1] (N' (af s))=N' (NI (s.x 1),Q',N' (af s)):=ba (n+12) 1 () s;have r:∀x:Nat,(if(16)<(x:Int)then(16)else(x:Int))=((min x 16:Nat):Int):=λx=>by split<;>lia
 have j:=Cp (n+7) (min (s.x 0) 16) (min (s.x 1) 16) 'l' 'l' i (s.v i.a) (s.v i.b) s;simp![ag]at j;rwa[ag,jW _ _ h.a,jW _ _ h.b,o,q,r,jT (show min (s.x 0) 16<=16 by lia),jT (show min (s.x 1) 16<=16 by lia),j]
def Ps(f:F)(h:Nat)(w:Nat->Nat->Int->Nat):Prop:=a_ .bZ (h:Int)=N' f/\∀(n x y:Nat) (z:Int) (M:gf),x<2^64->y<2^64->∃r:Int,C (n+5) f [NI x,NI y,.int z] M=N' (.int r,Q',M)/\Wb 64 r=w x y z
def QZ:Ps .Bw 130 λx y z=>wrap ((x)+z):=#[S',λn x y z M h j=>#[(x)+z,by rwa[jR],S']]
def Q0:Ps .fX 131 λx y z=>(x+y) % WORD:=#[S',λn x y z M h j=>#[((x+y:Nat):Int),by rwa[fF],by unfold WORD;rw[aQ]]]
def Q1:Ps .c1 132 λx y z=>(x+WORD-y) % WORD:=#[S',λn x y z M j h=>#[(x)-y,by rwa[lr],by unfold WORD;rw[kl (gp h)]]]
def Q2:Ps .c3 133 λx y z=>x*y % WORD:=#[S',λn x y z M h j=>#[((x*y:Nat):Int),by rwa[nL (.inl h)],by unfold WORD;rw[aQ]]]
def Q3:Ps .c4 134 λx y z=>x&&&y:=#[S',λn x y z M j h=>#[((x&&&y:Nat):Int),by rwa[i9],by rw[aQ,aj (vL _ h)]]]
def Q4:Ps .dy 135 λx y z=>x|||y:=#[S',λn x y z M h j=>#[((x|||y:Nat):Int),by rwa[qI],by rw[aQ,aj (tQ h j)]]]
def Q5:Ps .bz 136 λx y z=>x^^^y:=#[S',λn x y z M h j=>#[((x^^^y:Nat):Int),by rwa[qP],by rw[aQ,aj (m2 h j)]]]
def F6(y:Nat):binI .mod (y) 64=N' ((y % 64:Nat):Int):=gk (b:=64) ()
def Q6:Ps .cu 137 λx y z=>x*2^(y % 64) % WORD:=#[S',λn x y z M h j=>#[((x*2^(y % 64):Nat):Int),by rwa[F6,jw (show y % 64<=100000 by lia) (show x<2^200 by lia)],by unfold WORD;rw[aQ]]]
def Q7:Ps .cf 138 λx y z=>x/2^(y % 64):=#[S',λn x y z M h j=>#[((x/2^(y % 64):Nat):Int),by rwa[F6,ie],by rw[aQ,aj (jf (oj _ _) h)]]]
def Q8:Ps .wc 139 λx y z=>wrap z:=#[S',λn x y z M h j=>#[z,by rwa[],S']]
def xS(h:Ps f op w)(i)(j:b8 i)(u:i.op=op)(s)(o:mq s):A9 .iz i s (setX s i.d (w (s.x i.a) (s.x i.b) i.z)):=by subst u;obtain⟨y,B⟩:=h;intro n;apply#[.bQ,Q',?_];obtain⟨r,E,G⟩:=B (n+8) (s.x i.a) (s.x i.b) i.z (N' (af s)) (o.x _) (o.x _);have q:=d8 (n+10) i.d r j.d s;rw[G]at q;have H:T.iZ .bZ (i.op:Int)=N' f:=y;rwa[ag,H,ik,ba _ i.a j.a,ba _ i.b j.b,E,q]
def Vx(i)(h:b8 i)(s):A9 .eY i s {s with z:=s.x i.a==s.x i.b,c:=decide (s.x i.a<s.x i.b)}:=by
 intro n;apply#[.bQ,Q',?_];have j:∀a b:Nat,cF .lt (a) (b)=decide (a<b):=λa b=>by simp![cF];congr 1;apply propext;lia
 rwa[ag,ba _ i.a h.a,ba _ i.b h.b,Vr,j,mU]
noncomputable abbrev fv(o:Option F):Vl:=o.elim .bQ .fn
def nc(n op)(M):C (n+1) .kF [NI op] M=N' (fv (a_ .iE op),Q',M):=by rwa[];rfl
def AJ(n op)(M):C (n+1) .kd [NI op] M=N' (fv (a_ .uH op),Q',M):=by rwa[];rfl
def xT(n op)(M):C (n+1) .jr [NI op] M=N' (fv (a_ .rf op),Q',M):=by rwa[];rfl
def u4(n op)(M):C (n+1) .gM [NI op] M=N' (fv (a_ .kQ op),Q',M):=by rwa[];rfl
def qd(n op)(M):C (n+1) .jL [NI op] M=N' (fv (a_ .qF op),Q',M):=by rwa[];rfl
def Cq(n op)(M):C (n+1) .lO [NI op] M=N' (fv (a_ .uI op),Q',M):=by rwa[];rfl
def Cr(n op)(M):C (n+1) .lQ [NI op] M=N' (fv (a_ .uJ op),Q',M):=by rwa[];rfl
def KD(h:Nat):Option F:=if qO .a8 h=P' then N' .eU else a_ .wd h
def Cs(n op)(M):C (n+1) .lN [NI op] M=N' (fv (KD op),Q',M):=by have j:T.qH .a8 ((op):Int)=qO .a8 op:=rfl;unfold KD;cases h:qO .a8 ((op):Int);rwa[j,h];rfl;rwa[j,h];rfl
def AK(h:Nat):Option F:=if h=140 then N' .eY else if qO .bZ h=P' then N' .iz else O'
def xU(n op)(M):C (n+1) .jm [NI op] M=N' (fv (AK op),Q',M):=by
 have o:T.qH .bZ ((op):Int)=qO .bZ op:=rfl;have e:cF .eq ((op):Int) 140=decide (op=140):=by simp![cF];congr 1;apply propext;lia
 unfold AK;by_cases j:op=140;rw[ae j];rwa[e,j];rfl;rw[ab j];cases h:qO .bZ ((op):Int);rwa[e,j,o,h];rfl;rwa[e,j,o,h];rfl
def ff3(n op)(a b c)(A B D)(M)(h:C (n+1) a [NI op] M=N' (fv A,Q',M))(j:C (n+1) b [NI op] M=N' (fv B,Q',M))(o:C (n+1) c [NI op] M=N' (fv D,Q',M)):C (n+2) .fC [NI op,.tup [.fn a,.fn b,.fn c]] M=N' (fv (A<|>B<|>D),Q',M):=by
 cases A with
 |some f=>rwa[cU,h,fv,ik];rfl
 |none=>
  cases B with
  |some f=>rwa[cU,h,j,fv,ik,oh];rfl
  |none=>
   cases D with
   |some f=>rwa[cU,h,j,o,fv,ik,oh];rfl
   |none=>rwa[cU,h,j,o,fv,ik,oh];rfl
def ff4(n op)(a b c d)(A B D E)(M)(h:C (n+1) a [NI op] M=N' (fv A,Q',M))(j:C (n+1) b [NI op] M=N' (fv B,Q',M))(o:C (n+1) c [NI op] M=N' (fv D,Q',M))(q:C (n+1) d [NI op] M=N' (fv E,Q',M)):C (n+2) .fC [NI op,.tup [.fn a,.fn b,.fn c,.fn d]] M=N' (fv (A<|>B<|>D<|>E),Q',M):=by
 cases A with
 |some f=>rwa[cU,h,fv,ik];rfl
 |none=>
  cases B with
  |some f=>rwa[cU,h,j,fv,ik,oh];rfl
  |none=>
   cases D with
   |some f=>rwa[cU,h,j,o,fv,ik,oh];rfl
   |none=>
    cases E with
    |some f=>rwa[cU,h,j,o,q,fv,ik,oh];rfl
    |none=>rwa[cU,h,j,o,q,fv,ik,oh];rfl
def mY(h:Nat):Option F:=a_ .uH h<|>a_ .rf h<|>a_ .kQ h
def y6(h:Nat):Option F:=a_ .uI h<|>KD h<|>a_ .uJ h<|>AK h
def F7(n op)(M):C (n+2) .fC [NI op,.tup [.fn .kd,.fn .jr,.fn .gM]] M=N' (fv (mY op),Q',M):=ff3 n op _ _ _ _ _ _ M (AJ n op M) (xT n op M) (u4 n op M)
def F8(n op)(M):C (n+2) .fC [NI op,.tup [.fn .lO,.fn .lN,.fn .lQ,.fn .jm]] M=N' (fv (y6 op),Q',M):=ff4 n op _ _ _ _ _ _ _ _ M (Cq n op M) (Cs n op M) (Cr n op M) (xU n op M)
def vw(f):fv (N' f)=.fn f:=rfl
def vx:fv O'=.bQ:=rfl
def uo(n)(i)(s)(h:a_ .iE i.op=O')(j:mY i.op=O'):C (n+14) .h_ [.ord (ag i),.cT] (N' (af s))=N' (.bQ,Q',N' (af s)):=by rwa[ag,nc,h,vx,F7,j]
def Nn(n)(i)(s)(q:a_ .iE i.op=O')(r:mY i.op=N' f)(h:Mk f k X i s):∃(g:Nat->Nat) (fr:Bool),C (n+14) .h_ [.ord (ag i),.cT] (N' (af s))=N' (LF (lanes k) λj=>NI (g j),fr,N' (af s))/\∀j,j<lanes k->bit (s.p i.g) j=P'->g j=lane k X j:=by obtain⟨g,fr,u,y⟩:=h;apply#[g,fr,?_,y];have o:=u (n+1);simp![ag]at o;rwa[ag,nc,q,vx,F7,r,vw,o]
def HS(n)(i)(u:b8 i)(s)(B:a_ .iE i.op=N' f)(h:∀n x y d z M,x<2^i.k->y<2^i.k->C (n+6) f [NI x,NI y,NI i.k] M=N' (NI ((each i.op i.k x y d z).getD 0 % 2^i.k),Q',M)):∃(g:Nat->Nat) (fr:Bool),C (n+14) .h_ [.ord (ag i),.cT] (N' (af s))=N' (LF (lanes i.k) λj=>NI (g j),fr,N' (af s))/\∀j,j<lanes i.k->bit (s.p i.g) j=P'->g j=lane i.k (V0 i.k λj=>(each i.op i.k (lane i.k (s.v i.a) j) (lane i.k (s.v i.b) j) (lane i.k (s.v i.d) j) i.z).getD 0) j:=by
 have r:=wQ (n+6) f (λx y=>(each i.op i.k x y 0 0).getD 0 % 2^i.k) i u s λx y o q=>h (n+6) x y 0 0 _ o q;have E:∀x y d z,x<2^i.k->y<2^i.k->(each i.op i.k x y 0 0).getD 0 % 2^i.k=(each i.op i.k x y d z).getD 0 % 2^i.k:=λx y d z o q=>by have a:=h 0 x y 0 0 O' o q;have b:=h 0 x y d z O' o q;rw[a]at b;simp![aF,aH]at b;lia
 apply#[λj=>(each i.op i.k (lane i.k (s.v i.a) j) (lane i.k (s.v i.b) j) 0 0).getD 0 % 2^i.k,P',?_,λj G _=> ?_];simp![ag]at r;rwa[ag,nc,B,vw,r];rw[fE G];show E _ _ _ _ (az _ _ _) (az _ _ _)
def w1(n)(i)(r:b8 i)(M):C (n+1) .fits [.ord (ag i)] M=N' (BI (Wg i),Q',M):=by
 have s:=r.k;by_cases h:i.op∈[36,53,54,55,56,57,58,62,78,87];have W:∀o∈[36,53,54,55,56,57,58,62,78,87],∀k∈[8,16,32,64],T.qH .m4 (o:Nat)=P'/\(T.DE .m4 (o:Nat)).map (λl=>decide (((k:Nat):Int)∈l))=N' (Wg #[o,k,Q',0,0,0,0,0]):=by decide
 obtain⟨q,u⟩:=W _ h i.k (by rcases s with k|k|k|k<;>rw[k]<;>decide);obtain⟨l,y,j⟩:=bj.mp u;replace j:decide ((i.k:Int)∈l)=Wg i:=j;rwa[ag,q,y,ints_map,j];have q:T.qH .m4 (i.op:Int)=false:=by show decide ((i.op:Int)∈[36,53,54,55,56,57,58,62,78,87])=Q';rw[tG];simp![aE,kn,lI]at h|-;lia
 have j:Wg i=true:=by unfold Wg;simp![aE,kn,lI]at h;split<;>first|rfl|lia
 rw[Aw,j];rwa[ag,q]
def Q9(n)(i)(h:b8 i)(s)(j:Wg i=Q'):C (n+16) .dH [.ord (ag i),.cT] (N' (af s))=N' (.bl Q',Q',N' (af s)):=by rwa[w1 _ i h,j]
def KG(n k X)(i)(o:b8 i)(q:Wd k)(s)(r:Wg i=P')(h:∀n,∃(g:Nat->Nat) (fr:Bool),C (n+14) .h_ [.ord (ag i),.cT] (N' (af s))=N' (LF (lanes k) λj=>NI (g j),fr,N' (af s))/\∀j,j<lanes k->bit (s.p i.g) j=P'->g j=lane k X j):C (n+16) .dH [.ord (ag i),.cT] (N' (af s))=N' (.bl P',Q',N' (af (setV i s k X))):=by obtain⟨g,fr,u,y⟩:=h (n+1);have B:=sW (n+10) k X i o q g s y;rwa[w1 _ i o,r,u,B]
def nQ(n)(i)(s)(h:a_ .qF i.op=O'):C (n+14) .js [.ord (ag i),.cT] (N' (af s))=N' (.bQ,Q',N' (af s)):=by rwa[ag,qd,h,vx]
def Np(n N)(f)(g)(i)(u:b8 i)(s)(E:Wg i=P')(G:a_ .iE i.op=O')(H:mY i.op=O')(J:a_ .qF i.op=N' f)(L:N<=1000)(h:Nk f N g i s):C (n+16) .dH [.ord (ag i),.cT] (N' (af s))=N' (.bl P',Q',N' (af (Xr s i.d (Wn N g&&&s.p i.g)))):=by
 obtain⟨fr,M⟩:=h;have o:=M (n+2);have y:C (n+15) .js [.ord (ag i),.cT] (N' (af s))=N' (LF N λj=>BI (g j),fr,N' (af s)):=by simp![ag]at o;rwa[ag,qd,J,vw,o]
 have B:=uo (n+1) i s G H;have r:=i_ (n+14) N (λj=>BI (g j)) g L (λ_ _=>rfl) (N' (af s));have q:=w1 (n+14) i u (N' (af s));simp![ag]at y B q;rwa[ag,q,E,B,y,r,b5,g8 u,i9,gJ]
def Nq(n)(f)(i)(y:b8 i)(s o)(B:Wg i=P')(E:a_ .iE i.op=O')(G:mY i.op=O')(H:a_ .qF i.op=O')(J:y6 i.op=N' f)(h:A9 f i s o):C (n+16) .dH [.ord (ag i),.cT] (N' (af s))=N' (.bl P',Q',N' (af o)):=by obtain⟨v,fr,q⟩:=h (n+1);have r:=nQ (n+1) i s H;have u:=uo (n+1) i s E G;have j:=w1 (n+14) i y (N' (af s));simp![ag]at r u j q;rwa[ag,j,B,u,r,F8,J,vw,q]
def Nr(n)(i)(q:b8 i)(s)(r:Wg i=P')(u:a_ .iE i.op=O')(y:mY i.op=O')(B:a_ .qF i.op=O')(E:y6 i.op=O'):C (n+16) .dH [.ord (ag i),.cT] (N' (af s))=N' (.bl Q',Q',N' (af s)):=by have j:=nQ (n+1) i s B;have o:=uo (n+1) i s u y;have h:=w1 (n+14) i q (N' (af s));simp![ag]at j o h;rwa[ag,h,r,o,j,F8,E,vx]
def Due(i:Ins)(s:Sg40.Machine):Prop:=∀n,C (n+16) .dH [.ord (ag i),.cT] (N' (af s))=match Wy i s with
 |some h=>N' (.bl P',Q',N' (af h))
 |none=>N' (.bl Q',Q',N' (af s))
def tf(e:Wy i s=N' j)(h:∀n,C (n+16) .dH [.ord (ag i),.cT] (N' (af s))=N' (.bl P',Q',N' (af j))):Due i s:=λn=>by rw[e];show h n
def Ct(e:Wy i s=O')(h:∀n,C (n+16) .dH [.ord (ag i),.cT] (N' (af s))=N' (.bl Q',Q',N' (af s))):Due i s:=λn=>by rw[e];show h n
def kz(j:b8 i)(h:Wg i=Q'):Due i s:=Ct (by unfold Wy;rw[ae h]) λn=>Q9 n i j s h
def jX(j:b8 i)(o:Wd k)(q:Wg i=P')(e:Wy i s=N' (setV i s k X))(r:a_ .iE i.op=O')(u:mY i.op=N' f)(h:Mk f k X i s):Due i s:=tf e λn=>KG n k X i j o s q λn=>Nn n i s r u h
def KH(o:b8 i)(q:Wg i=P')(e:Wy i s=N' (setV i s i.k (V0 i.k λj=>(each i.op i.k (lane i.k (s.v i.a) j) (lane i.k (s.v i.b) j) (lane i.k (s.v i.d) j) i.z).getD 0)))(r:a_ .iE i.op=N' f) (h:∀n x y d z M,x<2^i.k->y<2^i.k->C (n+6) f [NI x,NI y,NI i.k] M=N' (NI ((each i.op i.k x y d z).getD 0 % 2^i.k),Q',M)):Due i s:=tf e λn=>KG n i.k _ i o o.k s q λn=>HS n i o s r h
def KI(j:b8 i)(o:Wg i=P')(e:Wy i s=N' (Xr s i.d (Wn N g&&&s.p i.g)))(q:a_ .iE i.op=O')(r:mY i.op=O')(u:a_ .qF i.op=N' f)(y:N<=1000)(h:Nk f N g i s):Due i s:=tf e λn=>Np n N f g i j s o q r u y h
def gK(o:b8 i)(q:Wg i=P')(e:Wy i s=N' j)(r:a_ .iE i.op=O')(u:mY i.op=O')(y:a_ .qF i.op=O')(B:y6 i.op=N' f)(h:A9 f i s j):Due i s:=tf e λn=>Nq n f i o s j q r u y B h
section
variable {k d a b g:Nat} {zero:Bool} {z:Int} {s:Sg40.Machine}
def Pd(k d a b g:Nat)(zero:Bool)(z:Int)(s:Sg40.Machine)(h:Nat):Prop:=b8 #[h,k,zero,d,a,b,g,z]->mq s->Due #[h,k,zero,d,a,b,g,z] s
def pz{P:Nat->Prop}{n:Nat}(h:∀m,m<n->P m)(q:P n):∀m,m<n+1->P m:=λm j=>(Nat.lt_succ_iff_lt_or_eq.mp j).elim (h m) λe=>e▸q
def Q_:Pd k d a b g zero z s 36:=λj q=>by by_cases h:32<=k;have o:Wg #[36,k,zero,d,a,b,g,z]=true:=gU h;show jX j j.k o (ab (by rw[o];decide)) S' rfl (abE _ j h s);show kz j (bp h)
def Ra:Pd k d a b g zero z s 78:=λj q=>by by_cases h:32<=k;have o:Wg #[78,k,zero,d,a,b,g,z]=true:=gU h;show jX j j.k o (ab (by rw[o];decide)) S' rfl (acg _ j h s);show kz j (bp h)
def Rb:Pd k d a b g zero z s 53:=λj q=>by by_cases h:k<=32;have o:Wg #[53,k,zero,d,a,b,g,z]=true:=gU h;show jX j (j.k.dbl h) o (ab (by rw[o];decide)) S' rfl (abR _ j h s);show kz j (bp h)
def Rc:Pd k d a b g zero z s 54:=λj q=>by by_cases h:k<=32;have o:Wg #[54,k,zero,d,a,b,g,z]=true:=gU h;show jX j (j.k.dbl h) o (ab (by rw[o];decide)) S' rfl (abS _ j h s);show kz j (bp h)
def Rf:Pd k d a b g zero z s 56:=λj q=>by by_cases h:k<=32;have o:Wg #[56,k,zero,d,a,b,g,z]=true:=gU h;show jX j j.k o (ab (by rw[o];decide)) S' rfl (abU _ j h s);show kz j (bp h)
def Rg:Pd k d a b g zero z s 57:=λj q=>by by_cases h:k<=32;have o:Wg #[57,k,zero,d,a,b,g,z]=true:=gU h;show jX j j.k o (ab (by rw[o];decide)) S' rfl (abV _ j h s);show kz j (bp h)
def Rh:Pd k d a b g zero z s 58:=λj q=>by by_cases h:k<=32;have o:Wg #[58,k,zero,d,a,b,g,z]=true:=gU h;show jX j j.k o (ab (by rw[o];decide)) S' rfl (abW _ j h s);show kz j (bp h)
def Ri:Pd k d a b g zero z s 55:=λo r=>by
 by_cases h:k<=32;have q:Wg #[55,k,zero,d,a,b,g,z]=true:=gU h;apply jX o o.k q (ab (by rw[q];decide)) S' rfl (X:=V0 k λj=>if j<lanes (2*k)then lane (2*k) (s.v a) j else 0) ?_;have:=abT _ o h s;have e:(V0 k λj=>if j<lanes (2*k)then lane (2*k) (s.v a) j % 2^k else 0)=V0 k λj=>if j<lanes (2*k)then lane (2*k) (s.v a) j else 0:=by apply kx;intro j _;split;rw[gq];rfl
 show e▸this;show kz o (bp h)
def Rj:Pd k d a b g zero z s 62:=λj q=>by
 by_cases h:k=16;have o:Wg #[62,k,zero,d,a,b,g,z]=true:=by show(k==16)=P';simp[h]
 show jX j j.k o (ab (by rw[o];decide)) S' rfl (abZ _ j s);show kz j (by show(k==16)=Q';simp[h])
def Rk:Pd k d a b g zero z s 87:=λj q=>by by_cases h:32<=k;have o:Wg #[87,k,zero,d,a,b,g,z]=true:=gU h;show gK j o (ab (by rw[o];decide)) S' rfl rfl rfl (acu _ j s);show kz j (bp h)
def Rm:Pd k d a b g zero z s 90:=λh q=>by
 obtain⟨y,j,o⟩:=xR Vd _ h S' s;apply gK h S' ?_ S' rfl rfl rfl o;have:Wy #[90,k,zero,d,a,b,g,z] s=(match logic 90 k (s.p (a % 8)) (s.p (b % 8)) z with
  |some y=>N' (Xr s d y)
  |none=>O'):=rfl
 rw[this];simp only at j;rw[j]
def Rn:Pd k d a b g zero z s 91:=λh q=>by
 obtain⟨y,j,o⟩:=xR Ve _ h S' s;apply gK h S' ?_ S' rfl rfl rfl o;have:Wy #[91,k,zero,d,a,b,g,z] s=(match logic 91 k (s.p (a % 8)) (s.p (b % 8)) z with
  |some y=>N' (Xr s d y)
  |none=>O'):=rfl
 rw[this];simp only at j;rw[j]
def Ro:Pd k d a b g zero z s 92:=λh q=>by
 obtain⟨y,j,o⟩:=xR Vf _ h S' s;apply gK h S' ?_ S' rfl rfl rfl o;have:Wy #[92,k,zero,d,a,b,g,z] s=(match logic 92 k (s.p (a % 8)) (s.p (b % 8)) z with
  |some y=>N' (Xr s d y)
  |none=>O'):=rfl
 rw[this];simp only at j;rw[j]
def Rp:Pd k d a b g zero z s 93:=λh q=>by
 obtain⟨y,j,o⟩:=xR Vg _ h S' s;apply gK h S' ?_ S' rfl rfl rfl o;have:Wy #[93,k,zero,d,a,b,g,z] s=(match logic 93 k (s.p (a % 8)) (s.p (b % 8)) z with
  |some y=>N' (Xr s d y)
  |none=>O'):=rfl
 rw[this];simp only at j;rw[j]
def Rq:Pd k d a b g zero z s 94:=λh q=>by
 obtain⟨y,j,o⟩:=xR Vh _ h S' s;apply gK h S' ?_ S' rfl rfl rfl o;have:Wy #[94,k,zero,d,a,b,g,z] s=(match logic 94 k (s.p (a % 8)) (s.p (b % 8)) z with
  |some y=>N' (Xr s d y)
  |none=>O'):=rfl
 rw[this];simp only at j;rw[j]
def Rr:Pd k d a b g zero z s 95:=λh q=>by
 obtain⟨y,j,o⟩:=xR Vi _ h S' s;apply gK h S' ?_ S' rfl rfl rfl o;have:Wy #[95,k,zero,d,a,b,g,z] s=(match logic 95 k (s.p (a % 8)) (s.p (b % 8)) z with
  |some y=>N' (Xr s d y)
  |none=>O'):=rfl
 rw[this];simp only at j;rw[j]
def Rt:Pd k d a b g zero z s 96:=λh q=>by
 obtain⟨y,j,o⟩:=xR Vj _ h S' s;apply gK h S' ?_ S' rfl rfl rfl o;have:Wy #[96,k,zero,d,a,b,g,z] s=(match logic 96 k (s.p (a % 8)) (s.p (b % 8)) z with
  |some y=>N' (Xr s d y)
  |none=>O'):=rfl
 rw[this];simp only at j;rw[j]
def Ru:Pd k d a b g zero z s 97:=λh q=>by
 obtain⟨y,j,o⟩:=xR Vk _ h S' s;apply gK h S' ?_ S' rfl rfl rfl o;have:Wy #[97,k,zero,d,a,b,g,z] s=(match logic 97 k (s.p (a % 8)) (s.p (b % 8)) z with
  |some y=>N' (Xr s d y)
  |none=>O'):=rfl
 rw[this];simp only at j;rw[j]
def Rv:Pd k d a b g zero z s 98:=λh q=>by
 obtain⟨y,j,o⟩:=xR Vm _ h S' s;apply gK h S' ?_ S' rfl rfl rfl o;have:Wy #[98,k,zero,d,a,b,g,z] s=(match logic 98 k (s.p (a % 8)) (s.p (b % 8)) z with
  |some y=>N' (Xr s d y)
  |none=>O'):=rfl
 rw[this];simp only at j;rw[j]
def Rw:Pd k d a b g zero z s 99:=λh q=>by
 obtain⟨y,j,o⟩:=xR Vn _ h S' s;apply gK h S' ?_ S' rfl rfl rfl o;have:Wy #[99,k,zero,d,a,b,g,z] s=(match logic 99 k (s.p (a % 8)) (s.p (b % 8)) z with
  |some y=>N' (Xr s d y)
  |none=>O'):=rfl
 rw[this];simp only at j;rw[j]
end
section
variable {k d a b g:Nat} {zero:Bool} {z:Int} {s:Sg40.Machine}
abbrev Al(k d a b g:Nat)(zero:Bool)(z:Int)(s:Sg40.Machine)(n:Nat):Prop:=∀m,m<n->Pd k d a b g zero z s m
def Vy(h:Al k d a b g zero z s n)(j:P'=Wg #[n,k,zero,d,a,b,g,z])(e:O'=Wy #[n,k,zero,d,a,b,g,z] s)(o:O'=a_ .iE n)(q:O'=mY n)(r:O'=a_ .qF n)(u:O'=y6 n):Al k d a b g zero z s (n+1):=pz h λy _=>Ct e.symm λn=>Nr n _ y s j.symm o.symm q.symm r.symm u.symm
def xy(h:Al k d a b g zero z s n)(o:P'=Wg #[n,k,zero,d,a,b,g,z])(e:Wy #[n,k,zero,d,a,b,g,z] s=N' r)(u:O'=a_ .iE n)(y:O'=mY n)(B:O'=a_ .qF n)(E:N' f=y6 n)(q:b8 #[n,k,zero,d,a,b,g,z]->mq s->A9 f #[n,k,zero,d,a,b,g,z] s r):Al k d a b g zero z s (n+1):=pz h λj G=>gK j o.symm e u.symm y.symm B.symm E.symm (q j G)
def xV(h:Al k d a b g zero z s n)(o:Wd w)(r:P'=Wg #[n,k,zero,d,a,b,g,z])(e:Wy #[n,k,zero,d,a,b,g,z] s=N' (setV #[n,k,zero,d,a,b,g,z] s w X))(u:O'=a_ .iE n)(y:N' f=mY n)(q:b8 #[n,k,zero,d,a,b,g,z]->Mk f w X #[n,k,zero,d,a,b,g,z] s):Al k d a b g zero z s (n+1):=pz h λj _=>jX j o r.symm e u.symm y.symm (q j)
def C1(h:Al k d a b g zero z s n)(o:P'=Wg #[n,k,zero,d,a,b,g,z])(e:Wy #[n,k,zero,d,a,b,g,z] s=N' (setV #[n,k,zero,d,a,b,g,z] s k X))(r:O'=a_ .iE n)(u:N' f=mY n)(q:b8 #[n,k,zero,d,a,b,g,z]->mq s->Mk f k X #[n,k,zero,d,a,b,g,z] s):Al k d a b g zero z s (n+1):=pz h λj y=>jX j j.k o.symm e r.symm u.symm (q j y)
def rO(h:Al k d a b g zero z s n)(r:P'=Wg #[n,k,zero,d,a,b,g,z])(e:Wy #[n,k,zero,d,a,b,g,z] s=N' (setV #[n,k,zero,d,a,b,g,z] s k (V0 k λj=>(each n k (lane k (s.v a) j) (lane k (s.v b) j) (lane k (s.v d) j) z).getD 0)))(u:N' f=a_ .iE n) (q:∀{m x y d z M},Wd k->x<2^k->y<2^k->C (m+6) f [NI x,NI y,NI k] M=N' (NI ((each n k x y d z).getD 0 % 2^k),Q',M)):Al k d a b g zero z s (n+1):=pz h λo _=>KH o r.symm e u.symm λ_ _ _ _ _ _=>q o.k
def S1(h:Al k d a b g zero z s n)(o:P'=Wg #[n,k,zero,d,a,b,g,z])(e:Wy #[n,k,zero,d,a,b,g,z] s=N' (Xr s d (Wn N r&&&s.p g)))(u:O'=a_ .iE n)(y:O'=mY n)(B:N' f=a_ .qF n)(E:b8 #[n,k,zero,d,a,b,g,z]->N<=1000)(q:b8 #[n,k,zero,d,a,b,g,z]->Nk f N r #[n,k,zero,d,a,b,g,z] s):Al k d a b g zero z s (n+1):=pz h λj _=>KI j o.symm e u.symm y.symm B.symm (E j) (q j)
def w4(h:b8 #[n,k,zero,d,a,b,g,z]):lanes k<=1000:=by have:=h.k.le64;show lanes k<=1000;simp only at this;lia
def Nt:∀u,u<256->Pd k d a b g zero z s u:=by
 iterate 115 apply Vy ?_ S' rfl rfl rfl rfl rfl
 apply xy ?_ S' rfl rfl rfl rfl rfl λh q=>Vx _ h s;apply xy ?_ S' rfl rfl rfl rfl rfl λh q=>xS Q8 _ h S' s q;apply xy ?_ S' rfl rfl rfl rfl rfl λh q=>xS Q7 _ h S' s q;apply xy ?_ S' rfl rfl rfl rfl rfl λh q=>xS Q6 _ h S' s q;apply xy ?_ S' rfl rfl rfl rfl rfl λh q=>xS Q5 _ h S' s q;apply xy ?_ S' rfl rfl rfl rfl rfl λh q=>xS Q4 _ h S' s q;apply xy ?_ S' rfl rfl rfl rfl rfl λh q=>xS Q3 _ h S' s q;apply xy ?_ S' rfl rfl rfl rfl rfl λh q=>xS Q2 _ h S' s q;apply xy ?_ S' rfl rfl rfl rfl rfl λh q=>xS Q1 _ h S' s q;apply xy ?_ S' rfl rfl rfl rfl rfl λh q=>xS Q0 _ h S' s q;apply xy ?_ S' rfl rfl rfl rfl rfl λh q=>xS QZ _ h S' s q;iterate 22 apply Vy ?_ S' rfl rfl rfl rfl rfl
 apply xy ?_ S' rfl rfl rfl rfl rfl λh q=>U_ _ h s;apply xy ?_ S' rfl rfl rfl rfl rfl λh q=>U9 _ h s;apply xy ?_ S' rfl rfl rfl rfl rfl λh q=>Vv _ h s;apply xy ?_ S' rfl rfl rfl rfl rfl λh q=>Vu _ h s;apply xy ?_ S' rfl rfl rfl rfl rfl λh q=>Vt _ h s;apply xy ?_ S' rfl rfl rfl rfl rfl λh q=>Vs _ h s;apply xy ?_ S' rfl rfl rfl rfl rfl λh q=>Vp _ h s;apply xy ?_ S' rfl rfl rfl rfl rfl λh q=>Vo _ h s;apply pz ?_ Rw;apply pz ?_ Rv;apply pz ?_ Ru;apply pz ?_ Rt;apply pz ?_ Rr;apply pz ?_ Rq;apply pz ?_ Rp;apply pz ?_ Ro;apply pz ?_ Rn;apply pz ?_ Rm;apply xy ?_ S' rfl rfl rfl rfl rfl λh q=>acw _ h s;apply xy ?_ S' rfl rfl rfl rfl rfl λh q=>acv _ h s;apply pz ?_ Rk;apply C1 ?_ S' rfl rfl rfl λh q=>abG _ h s;apply S1 (N:=lanes k) ?_ S' rfl rfl rfl rfl w4 λh=>acr _ h s;apply S1 (N:=lanes k) ?_ S' rfl rfl rfl rfl w4 λh=>acq _ h s;apply S1 (N:=lanes k) ?_ S' rfl rfl rfl rfl w4 λh=>acp _ h s;apply S1 (N:=lanes k) ?_ S' rfl rfl rfl rfl w4 λh=>aco _ h s;apply S1 (N:=lanes k) ?_ S' rfl rfl rfl rfl w4 λh=>acn _ h s;apply xV ?_ Kp S' rfl rfl rfl λh=>ace _ h s;apply xV ?_ Kp S' rfl rfl rfl λh=>acd _ h s;apply pz ?_ Ra;apply xV ?_ Kp S' rfl rfl rfl λh=>ach _ h s;apply xV ?_ w8 S' rfl rfl rfl λh=>ack _ h s;apply xV ?_ w8 S' rfl rfl rfl λh=>acj _ h s;apply xV ?_ w8 S' rfl rfl rfl λh=>aci _ h s;apply S1 (N:=64) ?_ S' rfl rfl rfl rfl (λ_=>by decide) λh=>acs _ h s;apply xV ?_ w8 S' rfl rfl rfl λh=>acf _ h s;apply xV ?_ Va S' rfl rfl rfl λh=>acb _ h s;apply xV ?_ LR S' rfl rfl rfl λh=>aca _ h s;apply xV ?_ LR S' rfl rfl rfl λh=>ab9 _ h s;apply xV ?_ LR S' rfl rfl rfl λh=>ab8 _ h s;apply xV ?_ LR S' rfl rfl rfl λh=>ab7 _ h s;apply xV ?_ LR S' rfl rfl rfl λh=>ab6 _ h s;apply xV ?_ Kp S' rfl rfl rfl λh=>acm _ h s;apply xV ?_ Va S' rfl rfl rfl λh=>ab4 _ h s;apply xV ?_ Kp S' rfl rfl rfl λh=>ab3 _ h s;apply pz ?_ Rj;apply C1 ?_ S' rfl rfl rfl λh q=>abY _ h s;apply C1 ?_ S' rfl rfl rfl λh q=>abX _ h s;apply Vy ?_ S' rfl rfl rfl rfl rfl;apply pz ?_ Rh;apply pz ?_ Rg;apply pz ?_ Rf;apply pz ?_ Ri;apply pz ?_ Rc;apply pz ?_ Rb;apply xV ?_ Kp S' rfl rfl rfl λh=>abQ _ h s;apply xV ?_ Kp S' rfl rfl rfl λh=>abP _ h s;apply C1 ?_ S' rfl rfl rfl λh q=>ab0 _ h s;apply C1 ?_ S' rfl rfl rfl λh q=>ab1 _ h s;apply xy ?_ S' rfl rfl rfl rfl rfl λh q=>ab2 _ h s;apply xV ?_ Kp S' rfl rfl rfl λh=>abO _ h s;apply C1 ?_ S' rfl rfl rfl λh q=>abN _ h s;apply C1 ?_ S' rfl rfl rfl λh q=>abM _ h s;apply xV ?_ w8 S' rfl rfl rfl λh=>abL _ h s;apply C1 ?_ S' rfl rfl rfl λh q=>abK _ h s;apply xV ?_ w8 S' rfl rfl rfl λh=>abJ _ h s;apply C1 ?_ S' rfl rfl rfl λh q=>abI _ h s;apply C1 ?_ S' rfl rfl rfl λh q=>abH _ h s;iterate 2 apply Vy ?_ S' rfl rfl rfl rfl rfl
 apply C1 ?_ S' rfl rfl rfl λh q=>abF _ h s q;apply pz ?_ Q_;apply C1 ?_ S' rfl rfl rfl λh q=>abD _ h s;apply C1 ?_ S' rfl rfl rfl λh q=>abC _ h s;apply C1 ?_ S' rfl rfl rfl λh q=>abB _ h s;apply rO ?_ S' rfl rfl λo j r=>aby o j r;apply rO ?_ S' rfl rfl λo j r=>abx o j;apply rO ?_ S' rfl rfl λo j r=>abw o j;apply rO ?_ S' rfl rfl λo j r=>abv o j r;apply rO ?_ S' rfl rfl λo j r=>abu o j;apply rO ?_ S' rfl rfl λo j r=>abt o j;apply C1 ?_ S' rfl rfl rfl λh q=>abA _ h s;apply C1 ?_ S' rfl rfl rfl λh q=>abz _ h s;apply rO ?_ S' rfl rfl λo j r=>abr o j;apply rO ?_ S' rfl rfl λo j r=>abq o j;apply rO ?_ S' rfl rfl λo j r=>abp o j;apply rO ?_ S' rfl rfl λo j r=>abo o j r;apply rO ?_ S' rfl rfl λo j r=>abn o j r;apply rO ?_ S' rfl rfl λo j r=>abm o j r;apply rO ?_ S' rfl rfl λo j r=>abl j r;apply rO ?_ S' rfl rfl λo j r=>abk j r;apply rO ?_ S' rfl rfl λo j r=>abj j r;apply rO ?_ S' rfl rfl λo j r=>abi o;apply rO ?_ S' rfl rfl λo j r=>abh o j r;apply rO ?_ S' rfl rfl λo j r=>abg o;apply rO ?_ S' rfl rfl λo j r=>abf o j r;apply rO ?_ S' rfl rfl λo j r=>abe o j r;apply rO ?_ S' rfl rfl λo j r=>abd o j r;apply rO ?_ S' rfl rfl λo j r=>p_9 j r;apply rO ?_ S' rfl rfl λo j r=>p_8 j r;apply rO ?_ S' rfl rfl λo j r=>p_7 j r;apply rO ?_ S' rfl rfl λo j r=>p_6 o j r;apply rO ?_ S' rfl rfl λo j r=>p_5 o j r;apply rO ?_ S' rfl rfl λo j r=>p_4 o j r;apply rO ?_ S' rfl rfl λo j r=>p_3 o j;apply rO ?_ S' rfl rfl λo j r=>p_2 o r;apply rO ?_ S' rfl rfl λo j r=>p_1 o;apply Vy ?_ S' rfl rfl rfl rfl rfl;show λm y=>absurd y (Nat.not_lt_zero m)
end
def Cu(i)(s)(h:b8 i)(o:mq s):Due i s:=by obtain⟨op,k,j,d,a,b,g,z⟩:=i;show Nt op h.op h o
instance AL(w:Nat):Ord:=#[decide (w/256 % 256<=7)&&decide (w/2^31 % 2=0),((w % 256:Nat):Int),((8*2^(w/256 % 4):Nat):Int),((512/(8*2^(w/256 % 4)):Nat):Int),decide (w/1024 % 2=1),((w/2^16 % 16:Nat):Int),((w/2^20 % 16:Nat):Int),((w/2^24 % 16:Nat):Int),((w/2^28 % 8:Nat):Int),
  VX 32 (w/2^32),((((VX 32 (w/2^32))).toNat:Nat):Int)]
def y8(w)(h:(AL w).sound=P'):∃i,Xy w=N' i/\AL w=ag i/\b8 i:=by
 simp![AL,aD,bg]at h;obtain⟨s,j⟩:=h;have u:bit w 31=false:=by unfold bit;rw[j];rfl
 apply#[#[w % 256,8*2^(w/256 % 4),bit w 10,w/2^16 % 16,w/2^20 % 16,w/2^24 % 16,w/2^28 % 8,VX 32 (w/2^32)],?_,?_,?_];unfold Xy;rw[ab (by rw[u];simp;lia)];unfold AL ag;have y:(decide (w/256 % 256<=7)&&decide (w/2^31 % 2=0))=true:=by simp[s,j]
 have B:decide (w/1024 % 2=1)=bit w 10:=by unfold bit;rw[show(2)^10=1024 from rfl];by_cases q:w/1024 % 2=1<;>simp[q]
 rw[y,B];rfl;have o: -2^31<=VX 32 (w/2^32)/\VX 32 (w/2^32)<2^31:=by unfold VX;have r:=au (w/2^32) (show 0<2^32 by decide);generalize w/2^32 % 2^32=q at r|-;rw[show(2)^32=4294967296 from rfl]at r;simp![show(2)^31=2147483648 from rfl];split<;>lia
 apply#[au _ (),?_,au _ (),au _ (),au _ (),au _ (),o.1,o.2];have:w/256 % 4<4:=au _ ();generalize w/256 % 4=q at this;match q,this with
 |0,_=>show .inl S'
 |1,_=>show .inr (.inl S')
 |2,_=>show .inr (.inr (.inl S'))
 |3,_=>show .inr (.inr (.inr S'))
def y9(w)(h:(AL w).sound=Q'):Xy w=none:=by
 have h:(decide (w/256 % 256<=7)&&decide (w/2^31 % 2=0))=false:=h;unfold Xy;rw[ae];by_cases j:w/256 % 256<=7;right;have o:¬w/2^31 % 2=0:=by simpa [j] using h
 unfold bit;have:w/2^31 % 2=1:=by lia
 rw[this];rfl;left;lia
instance qe(v p x:d_)(f:Nat):Sg40.Machine:={fresh with v:=λj=>(Wl v).getD j 0,p:=λj=>if j=0 then ALL else p.getD j 0,x:=λj=>x.getD j 0,z:=bit f 0,c:=bit f 1}
theorem KJ:∀{l:d_},(∀y∈l,y<2^64)->Wv l<2^(64*l.length)
 |[],_=>by simp[Wv]
 |y::l,h=>by have q:=h y (by simp);have j:=KJ (l:=l) λz o=>h z (by simp[o]);show y+2^64*Wv l<2^(64*(l.length+1));rw[ov,ox,dB];have:2^64*(Wv l+1)<=2^64*2^(64*l.length):=Dh _ j;rw[cz (2^(64*l.length))];rw[ov,ox]at this;lia
theorem Cv:∀{l:d_} (k),(∀y∈l,y<2^64)->lane 64 (Wv l) k=l.getD k 0
 |[],k,_=>by simp[Wv,lane]
 |y::l,0,h=>by have j:=h y (by simp);show(y+2^64*Wv l)/2^(64*0) % 2^64=y;rw[XX,qo,rY,C2,aj j]
 |y::l,k+1,h=>by have j:=h y (by simp);have o:=Cv (l:=l) k λz q=>h z (by simp[q]);show(y+2^64*Wv l)/2^(64*(k+1)) % 2^64=l.getD k 0;rw[show 64*(k+1)=64+64*k by lia,dB,<-vH,qY _ _ (),ja j,lG];show o
def F9(h:j<16):(Wl v).getD j 0=Wv ((v.drop (8*j)).take 8):=by unfold Wl;rw[pA,cV,pD h];rfl
def KL(h:16<=j):(Wl v).getD j 0=0:=by unfold Wl;rw[pA,ej (by simpa using h)];rfl
def range_getD(h:v.length=n):(VW n).map (λj=>v.getD j 0)=v:=by apply oa;intro i;rw[cV];by_cases o:i<n;rw[pD o];simp![fM,pA];rw[lh 'l'];rfl;rw[ej (by simpa using o),ej 'l'];rfl
section
variable {v p x:d_} {f:Nat}
def Nu(G:v.length=128)(q:∀y∈v,y<2^64)(r:∀y∈p,y<2^64)(s:∀y∈x,y<2^64):mq (qe v p x f):=by
 have o:∀{l:d_} (j),(∀y∈l,y<2^64)->l.getD j 0<2^64:=λ{l} j h=>by
  rw[pA];cases e:l[j]? with
  |none=>show 0<2^64;decide
  |some y=>show h y (ka e)
 apply#[λj=> ?_,λj=> ?_,λj=>o j s,S'];show(Wl v).getD j 0<2^512;by_cases u:j<16;rw[F9 u];have B:((v.drop (8*j)).take 8).length=8:=by rw[km,X5];lia
 have:=KJ (l:=(v.drop (8*j)).take 8) λy E=>q y (Ze (Zd E));rw[B,show 64*8=512 from rfl]at this;show this;rw[KL 'l'];show Nat.pow_pos ();show(if j=0 then ALL else p.getD j 0)<2^64;split;decide;show o j r
def Rx(o:v.length=128)(q:∀y∈v,y<2^64):(af (qe v p x f)).v=v.map λ(n:Nat)=>(n:Int):=by
 show((VW 128).map λj=>(lane 64 ((Wl v).getD (j/8) 0) (j % 8):Int))=_;have e:v.map (λ(n:Nat)=>(n:Int))=(VW 128).map λj=>(v.getD j 0:Int):=by have:=congrArg (Xg λ(n:Nat)=>(n:Int)) (range_getD o);rw[aS]at this;show this.symm
 rw[e];apply dP λj h=> ?_;have h:j<128:=cg.mp h;rw[F9 'l',Cv _ λy r=>q y (Ze (Zd r))];congr 1;rw[pA,pA,zJ 'l',XA,show 8*(j/8)+j % 8=j by lia]
def Ry(j:p.length=8):(af (qe v p x f)).p=((ALL):Int)::(p.drop 1).map λ(n:Nat)=>(n):=by
 match p,j with
 |[a,b,c,d,e,g,h,i],_=>rfl
def Rz(h:x.length=16):(af (qe v p x f)).x=x.map λ(n:Nat)=>(n:Int):=by have:=congrArg (Xg λ(n:Nat)=>(n:Int)) (range_getD h);rw[aS]at this;show this
def RA:(af (qe v p x f)).f=((f % 4:Nat):Int):=by
 show(WU (qe v p x f):Int)=_;congr 1;show one (bit f 0)+2*one (bit f 1)=_;unfold bit one;rw[qo,rY,rZ];have a:f % 2<2:=au _ ();have b:f/2 % 2<2:=au _ ();have:f % 4=f % 2+2*(f/2 % 2):=by lia
 rw[this];rcases(show f % 2=0\/f % 2=1 by lia)with h|h<;>rcases(show f/2 % 2=0\/f/2 % 2=1 by lia)with h'|h'<;>rw[h,h']<;>rfl
end
theorem nR:∀l,WO (l.map λ(n:Nat)=>(n))=l
 |[]=>rfl
 |a::l=>by show(a:Int).toNat::WO (l.map λ(n:Nat)=>(n:Int))=a::l;rw[nR l];rfl
def uq(w:Nat)(s:Option Nat):Ev:=#[[O',N' (NI w),s.map λn=>NI n],O']
def D4(w)(s):(uq w s).get 1=N' (NI w):=rfl
def D5(w s):(uq w (N' s)).get 2=N' (NI s):=rfl
def mask(a k):a&&&(2^k-1)=a % 2^k:=xZ a k
def ur(h:F->List Vl->gf->Option (Vl×Bool×gf))(w a k m:Nat)(s)(j:m=2^k-1):ay T h (uq w s) O' (.bin .and (.bin .shr (.v 1) (.int (a))) (.int (m)))=N' (NI (w/2^a % 2^k),Q'):=by simp![mN,pa,fN,D4,fM,mj,ie,i9];rw[j,mask]
def Vz(h:F->List Vl->gf->Option (Vl×Bool×gf))(w k m:Nat)(s)(j:m=2^k-1):ay T h (uq w s) O' (.bin .and (.v 1) (.int (m)))=N' (NI (w % 2^k),Q'):=by simp![mN,pa,fN,D4,fM,mj,i9];rw[j,mask]
def e_k(h:F->List Vl->gf->Option (Vl×Bool×gf))(w s):ay T h (uq w (N' s)) O' (.bin .shl (.int 8) (.bin .and (.v 2) (.int 3)))=N' (NI (8*2^(s % 4)),Q'):=by
 have e:binI .and ((s):Int) 3=N' ((s % 4:Nat):Int):=by have:=i9 s 3;rw[show s&&&3=s % 4 from mask s 2]at this;show this
 have o:s % 4<4:=au _ ();have j:binI .shl 8 ((s % 4:Nat):Int)=N' ((8*2^(s % 4):Nat):Int):=jw (a:=8) 'l' ();simp![mN,pa,fN,D5,fM,mj,e,j]
def RB(q:F->List Vl->gf->Option (Vl×Bool×gf))(w s):ay T q (uq w (N' s)) O' (.cmp .ne (.bin .and (.v 2) (.int 4)) (.int 0))=N' (.bl (decide (s/4 % 2=1)),Q'):=by
 have e:binI .and ((s):Int) 4=N' (((s&&&4:Nat)):Int):=i9 s 4;have r:s&&&4=4*(s/4 % 2):=by
  apply pC;intro i;rw[jy];have:(4)=2^2:=rfl;rw[this,Zz,Nat.testBit_two_pow_mul];by_cases j:i=2;subst j;simp[XT];by_cases u:2<=i;have o:¬2=i:=λz=>j z.symm;have:(s/2^2 % 2).testBit (i-2)=false:=by
   apply n0;have a:s/2^2 % 2<2:=au _ ();have b:2<=2^(i-2):=by have:2^1<=2^(i-2):=dh () 'l';simpa using this
   lia
  simp[o,this];have o:¬2=i:=λz=>j z.symm;simp[u,o]
 simp![sJ,mN,pa,fN,D5,fM,mj,e,r,cF];have a:s/4 % 2<2:=au _ ();rcases(show s/4 % 2=0\/s/4 % 2=1 by lia)with h|h<;>rw[h]<;>rfl
def Nv(j:F->List Vl->gf->Option (Vl×Bool×gf))(w s):ay T j (uq w (N' s)) O' (.and (.cmp .le (.v 2) (.int 7)) (.cmp .eq (.bin .and (.bin .shr (.v 1) (.int 31)) (.int 1)) (.int 0)))=N' (.bl (decide (s<=7)&&decide (w/2^31 % 2=0)),Q'):=by
 have o:ay T j (uq w (N' s)) O' (.bin .and (.bin .shr (.v 1) (.int 31)) (.int 1))=N' (NI (w/2^31 % 2^1),Q'):=ur j w 31 1 1 (N' s) S';have q:ay T j (uq w (N' s)) O' (.cmp .le (.v 2) (.int 7))=N' (.bl (decide (s<=7)),Q'):=by simp![sJ,pa,fN,D5,fM,xM,cF];have:((s:Int)<=7)=(s<=7):=propext #[λh=>by lia,λh=>by lia];simp![this]
 have r:ay T j (uq w (N' s)) O' (.cmp .eq (.bin .and (.bin .shr (.v 1) (.int 31)) (.int 1)) (.int 0))=N' (.bl (decide (w/2^31 % 2=0)),Q'):=by rw[sJ,o];simp![fN,xM,cF,fM];have:(((w/2^31 % 2^1:Nat):Int)=0)=(w/2^31 % 2=0):=propext #[λh=>by simpa using il h,λh=>by rw[show(2)^1=2 from rfl,h];rfl];simp![this]
 rw[Ad,q,r];cases decide (s<=7)<;>rfl
def qf(m):mS m=(VW 65536).map λj=>((m j).toNat:Int):=by unfold mS;rfl
def Nw(m):(mS m).length=65536:=by rw[qf,aB,cG]
def KN(s):(af s).c=mS s.mem:=rfl
def Cw(s)(m):af {s with mem:=m}=#[(af s).v,(af s).p,(af s).x,(af s).f,mS m]:=by simp![af,WU]
def F_(m){a n:Nat}(h:a+n<=65536):sG ((mS m).map SV.int) (a) ((a+n:Nat):Int)=N' (LF n λj=>NI (m (a+j)).toNat,P'):=by unfold sG;rw[ae 'l',dQ,dQ,vE,qf,aS];have:=gI 65536 a n (λj=>NI (m j).toNat) h;show congrArg (λl=>N' (SV.lst l,P')) this
theorem uu(m)(a):∀n,WT m a n=pk 8 (λj=>(m (a+j)).toNat) n
 |0=>rfl
 |n+1=>by have h:=uu m a n;unfold WT at h|-;rw[b0,h,pk,Yj]
def AM(x:UInt8):x.toNat<2^8:=x.toNat_lt
def qC(m)(a n):WT m a n<2^(8*n):=by rw[uu];show sS λi _=>AM _
def ng(n a len)(h:a+len<=65536)(H:len<=8)(s):C (n+1) .aY [.mem,NI a,NI len] (N' (af s))=N' (NI (WT s.mem a len),Q',N' (af s)):=by
 obtain⟨e',q,j,r⟩:=eF (M:=N' (af s)) (tg:=[4]) (body:=cO T (C n) (.set 3 (.bin .or (.bin .shl (.v 3) (.int 8)) (.v 4)) .nil)) (xs:=((VW len).map λi=>NI (s.mem (a+i)).toNat).reverse.map λx=>[x])
  (e:=#[[N' .mem,N' (NI a),N' (NI len),N' (.int 0),O'],O'])
  (λt e=>∃j:Option Vl,e=#[[N' .mem,N' (NI a),N' (NI len),N' (NI (pk 8 (λi=>(s.mem (a+(len-t)+i)).toNat) t)),j],O'])
  #[O',S'] λt x e u #[j,he]=>by
   subst he;rw[mR,aS]at u;obtain⟨y,rfl⟩:=aU u;apply#[S',_,?_,N' (NI (s.mem (a+(len-1-t))).toNat),S'];have o:pk 8 (λi=>(s.mem (a+(len-t)+i)).toNat) t<2^200:=aW (sS λi _=>AM _) (dh () 'l');have B:binI .shl ((pk 8 (λi=>(s.mem (a+(len-t)+i)).toNat) t:Nat):Int) 8=_:=jw (b:=8) () o;erw[Yl,B,qI,m8 (AM (s.mem (a+(len-1-t)))),AD];have E:∀i,a+(len-(t+1))+(i+1)=a+(len-t)+i:=λi=>by lia
   have G:a+(len-(t+1))+0=a+(len-1-t):=by lia
   simp![E,G]
 simp![aB,Dg,cG,XU,lF]at r;rw[r]at q;rw[Aw,uu];rwa[fF,KN,F_ s.mem h,q]
def Ny(m)(p){y:Nat}(h:y<256):(mS m).set p (y)=mS (λj=>if j=p then Zb y else m j):=by rw[qf,set_range,qf];apply dP;intro j _;split;rw[Z6 h];rfl
def Cy(m a n v):stored m a (n+1) v=λj=>if j=a+n then Zb (v/2^(8*n) % 256)else stored m a n v j:=by funext j;unfold stored;by_cases h:j=a+n;subst h;rw[ae 'l',ae S',vE,Yj];rw[ab h];by_cases o:a<=j/\j<a+n;rw[ae o,ae 'l'];rw[ab o,ab 'l']
def qg(n a len v)(h:a+len<=65536)(J:len<=8)(s):C (n+1) .gd [.mem,NI a,NI len,NI v] (N' (af s))=N' (.bQ,Q',N' (af {s with mem:=stored s.mem a len v})):=by
 obtain⟨e',L,r,o,q,rfl⟩:=Ag (M:=N' (af s)) (tg:=[4]) (body:=cO T (C n) (.BB 0 (.bin .add (.v 1) (.v 4)) (.bin .and (.bin .shr (.v 3) (.bin .mul (.int 8) (.v 4))) (.int 255)) .nil)) (xs:=(VW len).map λi=>[NI i])
  (e:=#[[N' .mem,N' (NI a),N' (NI len),N' (NI v),O'],O'])
  (λt e M=>M=N' (af {s with mem:=stored s.mem a t v})/\∃q:Option Vl,e=#[[N' .mem,N' (NI a),N' (NI len),N' (NI v),q],O'])
  #[by
   have:stored s.mem a 0 v=s.mem:=by funext j;unfold stored;rw[ab (by omega)]
   rw[this],_,S'] λt x e M u #[o,q,he]=>by
   subst he;subst o;obtain⟨y,rfl⟩:=aU u;apply#[S',_,_,?_,S',N' (NI t),S'];have B:binI .mul 8 (t)=N' ((8*t:Nat):Int):=nL (a:=8) (.inl ());have E:binI .and ((v/2^(8*t):Nat):Int) 255=N' ((v/2^(8*t) % 256:Nat):Int):=by rw[show binI .and ((v/2^(8*t):Nat):Int) 255=N' (((v/2^(8*t))&&&255:Nat):Int)from rfl,show(255)=2^8-1 from rfl,xZ]
   have G:(0)<=((a+t:Nat):Int)/\((a+t:Nat):Int)<(((mS (stored s.mem a t v)).length:Nat):Int):=by rw[Nw];omega
   erw[fF,B,ie,E,Cw,G,Ny (stored s.mem a t v) (a+t) (show v/2^(8*t) % 256<256 from au _ ()),Cy]
 subst o;simp![aB,cG]at r;have H:(len:Int).natAbs<=bw:=by simp![bw];omega
 rwa[H,r]
def AN(n a len)(h:len<=8)(M):C (n+1) .gw [.mem,NI a,NI len] M=N' (BI (there a len),Q',M):=by
 have e:decide ((a)<=65536-(len:Int))=there a len:=by unfold there SIZE;congr 1;apply propext;lia
 rwa[lr,e]
def HU(n a len)(h:a+len<=65536)(s):C (n+1) .eh [.mem,NI a,NI len] (N' (af s))=N' (LF len λj=>NI (s.mem (a+j)).toNat,P',N' (af s)):=by rwa[fF,KN,F_ s.mem h]
section
variable (i:Ins)
def oK:(ag i).k=(i.k:Int):=rfl
def oN:(ag i).n=(lanes i.k:Int):=rfl
def oD:(ag i).d=(i.d:Int):=rfl
def oA:(ag i).a=(i.a:Int):=rfl
def oB:(ag i).b=(i.b:Int):=rfl
def oG:(ag i).g=(i.g:Int):=rfl
def oZ:(ag i).z=i.z:=rfl
def oP:(ag i).operation=(i.op:Int):=rfl
end
def d9(n)(i)(M):C (n+1) .bR [.ord (ag i)] M=N' (NI (i.k/8),Q',M):=by have e:binI .fdiv (i.k:Int) 8=N' ((i.k/8:Nat):Int):=ig (b:=8) () ();rwa[oK,e]
def tj(n)(i)(h:b8 i)(s):C (n+2) .start [.ord (ag i),.cT] (N' (af s))=N' (.int ((s.x i.b:Int)+i.z),Q',N' (af s)):=by rwa[oB,oZ,ba n _ h.b,jR]
def nS(n)(i)(o:b8 i)(s):C (n+2) .dg [.ord (ag i),.cT] (N' (af s))=N' (.lst ((V4 i s).map λj=>NI j),P',N' (af s)):=by
 have q:=o.k.le64;have r:iB (BC T (C (n+1)) #[[N' (.ord (ag i)),N' .cT,N' (NI (s.p i.g)),O'],O'] (N' (af s)) [3] (.call .cA (.cons (.v 2) (.cons (.v 3) .nil)))) (b6 T (C (n+1)) #[[N' (.ord (ag i)),N' .cT,N' (NI (s.p i.g)),O'],O'] (N' (af s)) [3] (.v 3)) ((VW (lanes i.k)).map λt=>[NI t])=N' ((V4 i s).map λj=>NI j):=by rw[F1 (P:=bit (s.p i.g)) (h:=λj=>NI j) (λj u=>by erw[BC,dJ,vb]) (λj u=>by erw[b6])];rfl
 have y:(lanes i.k:Int).natAbs<=bw:=by simp![bw];lia
 have B:lanes i.k<=bw:=by simp![bw];lia
 rwa[oG,oN,b5,g8 o,y,B,r]
def lU(i)(h:b8 i)(s):(V4 i s).length<=64:=c_ (DW (bit (s.p i.g)) (lanes i.k)) h.k.le64
def ON(f:F)(i:Ins)(s:Sg40.Machine)(l:List Int):Prop:=∀n,∃fr,C (n+4) f [.ord (ag i),.cT] (N' (af s))=N' (.lst (l.map SV.int),fr,N' (af s))
def D6(h:b8 i)(z):binI .mul z ((i.k/8:Nat):Int)=N' (z*(i.k/8:Nat)):=rj (.inr (by
 have:=h.k.le;have:i.k/8<=8:=by lia
 simp![Int.natAbs_natCast];lia))
noncomputable abbrev aT(i:Ins)(s:Sg40.Machine):Int:=(s.x i.b:Int)+i.z
def y_(i)(h:b8 i)(s):ON .eg i s ((V4 i s).map λ(j:Nat)=>aT i s+j*(i.k/8:Nat)):=λn=>by
 have r:=lU i h s;have o:(V4 i s).length<=bw:=by simp![bw];lia
 have q:pU (b6 T (C (n+3)) #[[N' (.ord (ag i)),N' .cT,N' (.int (aT i s)),O'],O'] (N' (af s)) [3] (.bin .add (.v 2) (.bin .mul (.v 3) (.call .bR (.cons (.v 0) .nil))))) ((V4 i s).map λj=>[NI j])=N' ((V4 i s).map λj=>.int (aT i s+j*(i.k/8:Nat))):=nI _ λj u=>by erw[b6,d9,D6 h,jR]
 apply#[P',?_];rwa[tj _ _ h,nS _ _ h,o,q]
def KO(i)(h:b8 i)(s):ON .e7 i s ((VW (V4 i s).length).map λ(j:Nat)=>aT i s+j*(i.k/8:Nat)):=λn=>by
 have u:=lU i h s;have o:(V4 i s).length<=bw:=by simp![bw];lia
 have q:((V4 i s).length:Int).natAbs<=bw:=by simp![bw];lia
 have r:pU (b6 T (C (n+3)) #[[N' (.ord (ag i)),N' .cT,N' (.int (aT i s)),O'],O'] (N' (af s)) [3] (.bin .add (.v 2) (.bin .mul (.v 3) (.call .bR (.cons (.v 0) .nil))))) ((VW (V4 i s).length).map λj=>[NI j])=N' ((VW (V4 i s).length).map λj=>.int (aT i s+(j)*(i.k/8:Nat))):=nI _ λj y=>by erw[b6,d9,D6 h,jR]
 apply#[P',?_];rwa[tj _ _ h,nS _ _ h,o,q,r]
def Cz(i)(h:b8 i)(s):ON .e_ i s ((V4 i s).map λj=>aT i s+VX i.k (lane i.k (s.v i.a) j)*(i.k/8:Nat)):=λn=>by
 have y:=lU i h s;have q:(V4 i s).length<=bw:=by simp![bw];lia
 have r:pU (b6 T (C (n+3)) #[[N' (.ord (ag i)),N' .cT,N' (.int (aT i s)),N' (LV i.k (s.v i.a)),O'],O'] (N' (af s)) [4] (.bin .add (.v 2) (.bin .mul (.call .signed (.cons (.ix (.v 3) (.v 4)) (.cons (.Jg (.v 0) .k) .nil))) (.call .bR (.cons (.v 0) .nil))))) ((V4 i s).map λj=>[NI j])=N' ((V4 i s).map λj=>.int (aT i s+VX i.k (lane i.k (s.v i.a) j)*(i.k/8:Nat))):=nI _ λj u=>by have o:j<lanes i.k:=cg.mp (lD.mp u).1;erw[b6,d9,D6 h,jR,aK o,oK,bc (n+2) (lane i.k (s.v i.a) j) i.k h.k.one h.k.aZ (az _ _ _)]
 apply#[P',?_];rwa[tj _ _ h,nS _ _ h,oA,oK,ak n i.a i.k h.a h.k,q,r]
def Nz(i)(h:b8 i)(s):ON .kK i s ((V4 i s).map λ_=>aT i s):=λn=>by have o:=lU i h s;have e:t8 .mul (.lst [.int (aT i s)]) (.int ((V4 i s).length:Int))=_:=kY (show(V4 i s).length<=1000 by lia);have j:=map_getD (V4 i s) λ_=>(SV.int (aT i s):Vl);apply#[P',?_];rwa[tj _ _ h,nS _ _ h,e,j]
def RC(i)(h:b8 i)(s):ON .gs i s [aT i s]:=λn=>by apply#[P',?_];rwa[tj _ _ h]
section
variable {i:Ins}
def k8(h:b8 i):i.k/8<=8:=by have:=h.k.le;lia
def k88(j:b8 i):8*(i.k/8)=i.k:=by rcases j.k with h|h|h|h<;>rw[h]
def mv(h:there a n=P'):a+n<=65536:=jg h
def D7(n)(j:b8 i)(M)(ps:d_):C (n+2) .pR [.mem,.lst (ps.map λa=>NI a),NI (i.k/8)] M=N' (.bl (ps.all λa=>there a (i.k/8)),Q',M):=by
 have s:∀(q ps:d_) (l:Option Vl),∃e',cU [3] (cO T (C (n+1)) (.ite (.not (.Jh .gw (.v 0) (.cons (.v 3) (.cons (.v 2) .nil)))) (.ret (.bl Q')) .nil .nil)) (q.map λa=>[NI a]) #[[N' .mem,N' (.lst (ps.map λa=>NI a)),N' (NI (i.k/8)),l],O'] M=N' (if(q.all λa=>there a (i.k/8))=P' then .nx e' M else .rt (.bl Q') Q' M):=by
  intro q ps;induction q with
  |nil=>show λl=>#[_,S']
  |cons a q u=>
   intro l;obtain⟨e',h⟩:=u (N' (NI a));apply#[e',?_];cases o:there a (i.k/8)with
   |true=>erw[cU,AN n a _ (k8 j),o,h,Option.all_some]
   |false=>erw[cU,AN n a _ (k8 j),o,Bool.false_and]
 obtain⟨e',h⟩:=s ps ps O';cases r:(ps.all λa=>there a (i.k/8))with
 |true=>
  rw[r]at h;rwa[h]
 |false=>
  rw[r]at h;rwa[h]
def Act(f:F)(i:Ins)(s h:Sg40.Machine)(ps:d_):Prop:=∀n,C (n+7) f [.ord (ag i),.cT,.mem,.lst (ps.map λa=>NI a)] (N' (af s))=N' (.bQ,Q',N' (af h))
instance RD(h:Nat->Nat)(f:Nat->Nat):List (Nat×Nat)->Nat->Nat
 |[]=>f
 |x::q=>RD h (λj=>if j=x.1 then h x.2 else f j) q
theorem D8(num)(j):∀(q) (f),(q.map (·.1)).Nodup->RD num f q j=((q.find? λx=>x.1==j).map λx=>num x.2).getD (f j)
 |[],f,_=>rfl
 |x::q,f,h=>by
  rw[bf,oi]at h;rw[RD,D8 num j q _ h.2,D'];by_cases o:x.1=j;subst o;have:(q.find? λy=>y.1==x.1)=none:=by rw[tM];intro y r he;show h.1 (gm.mpr #[y,r,by simpa using he])
  rw[this];simp;rw[ab (λz=>o z.symm),show(x.1==j)=Q' by simpa using o]
theorem zip_rows:∀(l:d_) (ps:d_),Wj (λx y=>[x,y]) (l.map λj=>NI j) (ps.map λa=>NI a)=(l.zip ps).map λx=>[NI x.1,NI x.2]
 |[],_=>rfl
 |_::_,[]=>rfl
 |a::l,b::ps=>by have:=zip_rows l ps;simp![bf,List.zipWith_cons_cons,q0,this]
def NA(o:b8 i)(s)(ps:d_)(R:ps.length=(V4 i s).length)(J:∀a∈ps,there a (i.k/8)=P'):Act .gu i s (setV i s i.k (V0 i.k λj=>((((V4 i s).zip ps).find? λx=>x.1==j).map λx=>WT s.mem x.2 (i.k/8)).getD 0)) ps:=λn=>by
 have L:=o.k.le64;have M:=k8 o;have O:∀q f a b,(∀x∈q,x.1<lanes i.k/\there x.2 (i.k/8)=P')->∃r u,cU [5,6] (cO T (C (n+6)) (.put 4 (.v 5) (.Jh .aY (.v 2) (.cons (.v 6) (.cons (.call .bR (.cons (.v 0) .nil)) .nil))) .nil)) (q.map λx=>[NI x.1,NI x.2])
   #[[N' (.ord (ag i)),N' .cT,N' .mem,N' (.lst (ps.map λa=>NI a)),O',a,b],N' (4,(VW (lanes i.k)).map λj=>NI (f j))] (N' (af s))=N' (.nx #[[N' (.ord (ag i)),N' .cT,N' .mem,N' (.lst (ps.map λa=>NI a)),O',r,u],N' (4,(VW (lanes i.k)).map λj=>NI (RD (λa=>WT s.mem a (i.k/8)) f q j))] (N' (af s))):=by
  intro q
  induction q with
  |nil=>show λf a b _=>#[a,b,S']
  |cons x q P=>
   intro f a b B
   obtain⟨I,Q⟩:=B x (by simp)
   obtain⟨r,u,h⟩:=P (λj=>if j=x.1 then WT s.mem x.2 (i.k/8)else f j) (N' (NI x.1)) (N' (NI x.2)) λy U=>B y (by simp[U])
   apply#[r,u,?_]
   have E:x.2+i.k/8<=65536:=mv Q
   have X:(0)<=(x.1:Int)/\(x.1:Int)<(lanes i.k:Int):=by lia
   have e:((VW (lanes i.k)).map λj=>NI (f j)).set x.1 (NI (WT s.mem x.2 (i.k/8)))=(VW (lanes i.k)).map λj=>NI (if j=x.1 then WT s.mem x.2 (i.k/8)else f j):=by rw[set_range];apply dP;intro j _;split<;>rfl
   erw[cU,d9,ng (n+5) x.2 (i.k/8) E M,X,e,h,RD]
 have B:∀x∈(V4 i s).zip ps,x.1<lanes i.k/\there x.2 (i.k/8)=true:=λx G=>#[cg.mp (lD.mp (mD G).1).1,J _ (mD G).2];obtain⟨r,u,h⟩:=O ((V4 i s).zip ps) (λ_=>0) O' O' B;simp![show(NI 0:Vl)=.int 0 from rfl]at h;have H:(((V4 i s).zip ps).map (·.1)).Nodup:=by rw[ZV 'l'];show List.nodup_range.filter _
 have Y:∀j,RD (λa=>WT s.mem a (i.k/8)) (λ_=>0) ((V4 i s).zip ps) j<2^i.k:=λj=>by
  rw[D8 _ _ _ _ H];cases(((V4 i s).zip ps).find? λx=>x.1==j)with
  |none=>show tp _
  |some x=>
   have:=qC s.mem x.2 (i.k/8);rw[k88 o]at this;show this
 have Z:=sW (n+1) i.k (V0 i.k λj=>((((V4 i s).zip ps).find? λx=>x.1==j).map λx=>WT s.mem x.2 (i.k/8)).getD 0) i o o.k (RD (λa=>WT s.mem a (i.k/8)) (λ_=>0) ((V4 i s).zip ps)) s λj F _=>by rw[fE F,<-D8 (λa=>WT s.mem a (i.k/8)) j _ (λ_=>0) H,aj (Y j)]
 have D:t8 .mul (.lst [.int 0]) (.int (lanes i.k:Int))=_:=kY (show lanes i.k<=1000 by lia);have V:ints? ((VW (lanes i.k)).map λ_=>(SV.int 0:Vl))=N' _:=iD (lanes i.k) λ_=>0;rwa[oN,D,V,nS _ _ o,zip_rows,h,Z]
universe b
def KP(o:b8 i)(s)(ps:d_)(U:∀a∈ps,there a (i.k/8)=P')(r)(G:storeAll (i.k/8) (((V4 i s).zip ps).map λx=>(x.2,lane i.k (s.v i.d) x.1)) s.mem=N' r):Act .gj i s {s with mem:=r} ps:=λn=>by
 have H:=k8 o;have J:∀(q:List (Nat×Nat)) (j:Sg40.Machine) (a b:Option Vl),(∀x∈q,x.1<lanes i.k)->storeAll (i.k/8) (q.map λx=>(x.2,lane i.k (s.v i.d) x.1)) j.mem=N' r->∃e',cU [5,6] (cO T (C (n+6)) (.MA .gd (.v 2) (.cons (.v 6) (.cons (.call .bR (.cons (.v 0) .nil)) (.cons (.ix (.v 4) (.v 5)) .nil))) .nil)) (q.map λx=>[NI x.1,NI x.2])
   #[[N' (.ord (ag i)),N' .cT,N' .mem,N' (.lst (ps.map λa=>NI a)),N' (LV i.k (s.v i.d)),a,b],O'] (N' (af j))=N' (.nx e' (N' (af {j with mem:=r}))):=by
  intro q
  induction q with
  |nil=>
   intro j a b _ h
   cases h
   show#[_,S']
  |cons x q L=>
   intro j a b E u
   have M:=E x (by simp)
   rw[bf,storeAll]at u
   split at u
   rename_i O
   obtain⟨e',h⟩:=L {j with mem:=stored j.mem x.2 (i.k/8) (lane i.k (s.v i.d) x.1)} (N' (NI x.1)) (N' (NI x.2)) (λy P=>E y (by simp[P])) u
   apply#[e',?_]
   have B:x.2+i.k/8<=65536:=mv O
   erw[cU,d9,aK M,qg (n+5) x.2 (i.k/8) (lane i.k (s.v i.d) x.1) B H,h]
   cases u
 obtain⟨e',h⟩:=J ((V4 i s).zip ps) s O' O' (λx Q=>cg.mp (lD.mp (mD Q).1).1) G;rwa[oD,oK,ak (n+3) i.d i.k o.d o.k,nS _ _ o,zip_rows,h]
universe a
def KQ(h:b8 i)(s)(a)(o:there a (i.k/8)=P'):Act .kL i s {s with x:=put s.x i.d (WT s.mem a (i.k/8))} [a]:=λn=>by
 have q:=k8 h;have j:a+i.k/8<=65536:=mv o;have r:WT s.mem a (i.k/8)<2^64:=by have:=qC s.mem a (i.k/8);rw[k88 h]at this;show aW this h.k.HM
 have e:=d8 (n+3) i.d (WT s.mem a (i.k/8):Int) h.d s;rw[aQ,aj r]at e;rwa[oD,Int.toNat_zero,Int.le_refl,d9,ng (n+5) a (i.k/8) j q,e];rfl
universe b
def D9(o:b8 i)(m a v):stored m a (i.k/8) (v % 2^i.k)=stored m a (i.k/8) v:=by
 funext j;unfold stored;split;rename_i h;congr 1;have e:i.k=8*(j-a)+(8+(i.k-8*(j-a)-8)):=by have:=k88 o;lia
 rw[show(256)=2^8 from rfl,<-Yj,e,dB,YE,dB,Zc];rfl
universe a
def HV(h:b8 i)(s)(a)(o:there a (i.k/8)=P'):Act .jM i s {s with mem:=stored s.mem a (i.k/8) (s.x i.d % 2^i.k)} [a]:=λn=>by have q:=k8 h;have j:a+i.k/8<=65536:=mv o;rw[D9 h,Aw];rwa[oD,Int.toNat_zero,Int.le_refl,d9,ba _ _ h.d,qg (n+5) a (i.k/8) (s.x i.d) j q]
end
section
variable {i:Ins}
def KR(d)(x):T.iZ d x=a_ d x:=rfl
def rE(n)(G:b8 i)(s q)(O:l.length<=1000)(r:a_ .m5 (i.op:Int)=N' u)(H:a_ .fc (i.op:Int)=N' J)(j:ON u i s l)(L:((l.map wrap).all λa=>there a (i.k/8))=P'->Act J i s q (l.map wrap)):C (n+9) .transfer [.ord (ag i),.cT,.mem] (N' (af s))=N' (.bl ((l.map wrap).all λa=>there a (i.k/8)),Q',N' (af (if((l.map wrap).all λa=>there a (i.k/8))=P' then q else s))):=by
 obtain⟨fr,j⟩:=j (n+4);have y:l.length<=bw:=by simp![bw];lia
 have B:pU (b6 T (C (n+8)) #[[N' (.ord (ag i)),N' .cT,N' .mem,N' (.fn u),O',O',O'],O'] (N' (af s)) [6] (.call .cut (.cons (.v 6) (.cons (.int 64) .nil)))) (l.map λz=>[SV.int z])=N' (l.map λz=>NI (wrap z)):=nI _ λz _=>by have e:∀M,C (n+8) .cut [.int z,.int 64] M=N' (NI (wrap z),Q',M):=jS (n+6) z 64 ();erw[b6,e]
 have h:=D7 (n+6) G (N' (af s)) (l.map wrap);simp![aS,tO]at h;cases o:((l.map wrap).all λa=>there a (i.k/8))with
 |false=>
  rw[o]at h;rwa[oP,KR,r,ik,j,y,B,d9,h]
 |true=>
  rw[o]at h;have E:=L o (n+1);simp![aS,tO]at E;rwa[oP,KR,r,H,ik,j,y,B,d9,h,E]
def NB(z)(m:Nat):wrap (z+m)=(wrap z+m) % WORD:=by
 unfold wrap WORD;have h:=rS z (show(2)^64≠0 by decide);have e:((((z % 2^64).toNat+m) % 2^64:Nat):Int)=(z+m) % 2^64:=by rw[zS,Int.natCast_add,zO h];show(z % 2^64+(m:Int)) % 2^64=(z+m) % 2^64;rw[Int.emod_add_emod]
 have j:=rS (z+m) (show(2)^64≠0 by decide);lia
def NC(i:Ins)(s:Sg40.Machine)(r:Option Sg40.Machine):Prop:=∀n,C (n+9) .transfer [.ord (ag i),.cT,.mem] (N' (af s))=N' (.bl r.isSome,Q',N' (af (r.getD s)))
def vy(j:b8 i)(s)(r:a_ .m5 (i.op:Int)=N' u)(y:a_ .fc (i.op:Int)=N' .gu)(B:ON u i s l)(E:l.length=(V4 i s).length)(G:q=(V4 i s).zip (l.map wrap)):NC i s ((loadAll i s q).map λv=>setV i s i.k v):=λn=>by
 subst G;have o:=λh:((l.map wrap).all λa=>there a (i.k/8))=P'=>NA j s (l.map wrap) (by rw[aB,E]) λa o=>cC.mp h a o;have e:=rE n j s _ (by have:=lU i j s;lia) r y B o;rw[e];have H:(((V4 i s).zip (l.map wrap)).all λx=>there x.2 (i.k/8))=((l.map wrap).all λa=>there a (i.k/8)):=by
  have:((V4 i s).zip (l.map wrap)).map (·.2)=l.map wrap:=u_ (by rw[aB];lia);conv=>rhs;rw[<-this]
  rw[rW];rfl
 unfold loadAll;rw[H];cases((l.map wrap).all λa=>there a (i.k/8))<;>rfl
theorem w6(k):∀(q) (m),(q.all λx=>there x.1 k)=(storeAll k q m).isSome
 |[],m=>rfl
 |x::q,m=>by rw[d6,storeAll,w6 k q (stored m x.1 k x.2)];cases there x.1 k<;>rfl
def w9(o:b8 i)(s)(u:a_ .m5 (i.op:Int)=N' y)(B:a_ .fc (i.op:Int)=N' .gj)(E:ON y i s l)(M:l.length=(V4 i s).length)(G:q=((V4 i s).zip (l.map wrap)).map λx=>(x.2,lane i.k (s.v i.d) x.1)):NC i s ((storeAll (i.k/8) q s.mem).map λmem=>{s with mem:=mem}):=λn=>by
 subst G;have H:((((V4 i s).zip (l.map wrap)).map λx=>(x.2,lane i.k (s.v i.d) x.1)).all λx=>there x.1 (i.k/8))=((l.map wrap).all λa=>there a (i.k/8)):=by
  have:((V4 i s).zip (l.map wrap)).map (·.2)=l.map wrap:=u_ (by rw[aB];lia);conv=>rhs;rw[<-this]
  rw[rW,rW];rfl
 have j:=w6 (i.k/8) (((V4 i s).zip (l.map wrap)).map λx=>(x.2,lane i.k (s.v i.d) x.1)) s.mem;rw[H]at j;have e:=rE n o s (((storeAll (i.k/8) (((V4 i s).zip (l.map wrap)).map λx=>(x.2,lane i.k (s.v i.d) x.1)) s.mem).map λmem=>{s with mem:=mem}).getD s) (by have:=lU i o s;lia) u B E λh=>by rw[j]at h;obtain⟨J,r⟩:=zK.mp h;rw[r];show KP o s _ (λa L=>cC.mp (by rw[j];show h) a L) J r
 rw[e,j];cases(storeAll (i.k/8) (((V4 i s).zip (l.map wrap)).map λx=>(x.2,lane i.k (s.v i.d) x.1)) s.mem)<;>rfl
def KS(o:b8 i)(s j)(q:a_ .m5 (i.op:Int)=N' .gs)(r:a_ .fc (i.op:Int)=N' u)(y:there (wrap (aT i s)) (i.k/8)=P'->Act u i s j [wrap (aT i s)]):NC i s (if there (wrap (aT i s)) (i.k/8)=P' then N' j else O'):=λn=>by have e:=rE (l:=[aT i s]) n o s j (show 1<=1000 by decide) q r (RC i o s) λh=>y (by simpa using h);rw[e];simp![bf,qm,d6];cases there (wrap (aT i s)) (i.k/8)<;>rfl
def nT(f:α->β)(l:List α):l.zip (l.map f)=l.map λx=>(x,f x):=by
 induction l with
 |nil=>rfl
 |cons a l h=>simp![bf,q0,h]
def Ga(f:Nat->β)(l:List α):∀k,l.zip ((VW l.length).map λj=>f (k+j))=(l.zipIdx k).map λx=>(x.1,f x.2):=by
 induction l with
 |nil=>intro k;rfl
 |cons a l h=>
  intro k;have e:(VW (l.length+1)).map (λj=>f (k+j))=f k::(VW l.length).map λj=>f (k+1+j):=by rw[zL,bf,aS];congr 1;apply dP;intro j _;show f (k+(j+1))=f (k+1+j);rw[oq,fg 1]
  rw[dR,e,q0,h,X4];rfl
def Gb(s)(j:Nat):wrap (aT i s+j*(i.k/8:Nat))=placeOf i (wrap (aT i s)) j:=by have:=NB (aT i s) (j*(i.k/8));rw[Int.natCast_mul]at this;show this
def ND(s)(j):wrap (aT i s+VX i.k (lane i.k (s.v i.a) j)*(i.k/8:Nat))=byLane i s j:=by unfold byLane;congr 1;lia
end
universe b
def AO(i)(s)(o:b8 i)(r)(h:X_ i s=N' r):NC i s r:=by
 have q:((V4 i s).map λ(j:Nat)=>aT i s+j*(i.k/8:Nat)).map wrap=(V4 i s).map λj=>placeOf i (wrap (aT i s)) j:=by rw[aS];show dP λj _=>Gb s j
 have u:((VW (V4 i s).length).map λ(j:Nat)=>aT i s+j*(i.k/8:Nat)).map wrap=(VW (V4 i s).length).map λj=>placeOf i (wrap (aT i s)) (0+j):=by rw[aS];show dP λj _=>by rw[lG];show Gb s j
 have y:((V4 i s).map λj=>aT i s+VX i.k (lane i.k (s.v i.a) j)*(i.k/8:Nat)).map wrap=(V4 i s).map λj=>byLane i s j:=by rw[aS];show dP λj _=>ND s j
 have G:((V4 i s).map λ_=>aT i s).map wrap=(V4 i s).map λ_=>wrap (aT i s):=by rw[aS];rfl
 obtain⟨H,k,B,d,a,b,g,z⟩:=i;unfold X_ at h;split at h;all_goals first|(cases h;done)|skip
 all_goals (rename_i E;simp only at E;subst E;cases h)
 ·show vy o s S' rfl (y_ _ o s) (by rw[aB]) (by rw[q,nT])
 ·show w9 o s S' rfl (y_ _ o s) (by rw[aB]) (by rw[q,nT,aS];rfl)
 ·show vy o s S' rfl (KO _ o s) (by rw[aB,cG]) (by rw[u,Ga])
 ·show w9 o s S' rfl (KO _ o s) (by rw[aB,cG]) (by rw[u,Ga,aS];rfl)
 ·show vy o s S' rfl (Cz _ o s) (by rw[aB]) (by rw[y,nT])
 ·show w9 o s S' rfl (Cz _ o s) (by rw[aB]) (by rw[y,nT,aS];rfl)
 ·show vy o s S' rfl (Nz _ o s) (by rw[aB]) (by rw[G,nT])
 ·show KS o s _ S' rfl λh=>KQ o s _ h
 ·show KS o s _ S' rfl λh=>HV o s _ h
section
set_option exponentiation.threshold 600
section
variable {i:Ins}
universe a
def w_(n)(s):C (n+1) .mh [.cT] (N' (af s))=N' (.bl s.z,Q',N' (af s)):=by
 have e:(af s).f=(WU s):=rfl;have h:cF .ne (sE (WU s) 1) 0=s.z:=by unfold WU;cases s.z<;>cases s.c<;>rfl
 have b:binI .and (WU s) 1=N' (sE (WU s) 1):=rfl;rwa[e,b,h]
def uN(n)(s):C (n+1) .kP [.cT] (N' (af s))=N' (.bl s.c,Q',N' (af s)):=by
 have e:(af s).f=(WU s):=rfl;have h:cF .ne (sE (WU s) 2) 0=s.c:=by unfold WU;cases s.z<;>cases s.c<;>rfl
 have b:binI .and (WU s) 2=N' (sE (WU s) 2):=rfl;rwa[e,b,h]
def tq(n)(b)(i)(a)(M):C (n+1) .sD [.bl b,.ord (ag i),NI a] M=N' (.int (if b=P' then(a)+i.z else a),Q',M):=by cases b<;>rwa[oZ,jR]
def Way(f:F)(i:Ins)(s h:Sg40.Machine)(a:Nat)(z:Int):Prop:=∀n,C (n+4) f [.ord (ag i),.cT,NI a] (N' (af s))=N' (.int z,Q',N' (af h))
def VA(s)(a):Way .on i s s a (a+i.z):=λn=>by rwa[oZ,jR]
def VB(s)(a):Way .kg i s s a (if s.z=P' then(a)+i.z else a):=λn=>by rwa[w_,tq]
def VC(s)(a):Way .gc i s s a (if s.z=Q' then(a)+i.z else a):=λn=>by rwa[w_,tq];cases s.z<;>rfl
def VD(s)(a):Way .jt i s s a (if s.c=P' then(a)+i.z else a):=λn=>by rwa[uN,tq]
def VE(s)(a):Way .fb i s s a (if s.c=Q' then(a)+i.z else a):=λn=>by rwa[uN,tq];cases s.c<;>rfl
def KU(x:Nat):Wb 64 ((x)-1)=(x+WORD-1) % WORD:=by have h:=kl (k:=64) (x:=x) (y:=1) (ZO);have e:WORD=2^64:=rfl;rw[e,<-h];rfl
def RE(h:b8 i)(s)(a)(j:Wb 64 ((s.x i.d:Int)-1)=y):Way .ji i s (setX s i.d y) a (if y≠0 then(a)+i.z else a):=λn=>by
 have e:=d8 n i.d ((s.x i.d:Int)-1) h.d s;rw[j]at e;have r:=ba (n+2) i.d h.d (setX s i.d y);rw[show(setX s i.d y).x i.d=y from ae S']at r;have c:cF .ne (y) 0=decide (y≠0):=by simp![cF];cases y<;>rfl
 rwa[oD,ba (n+2) i.d h.d s,lr,e,r,c,tq,bg]
def VF(h:b8 i)(s)(a:Nat):Way .ji i s (setX s i.d ((s.x i.d+WORD-1) % WORD)) a (if(s.x i.d+WORD-1) % WORD≠0 then(a)+i.z else a):=RE h s a (KU _)
def VG(h:b8 i)(s)(a)(j:a<WORD):Way .ju i s (setX s i.d a) a (a+i.z):=λn=>by have e:=d8 n i.d (a) h.d s;rw[aQ,show a % 2^64=a from aj j]at e;rwa[oD,oZ,e,jR]
def VH(h:b8 i)(s)(a):Way .iA i s s a (s.x i.a:Int):=λn=>by rwa[oA,ba _ _ h.a]
def CA(h:a<WORD):wrap (a)=a:=by rw[show wrap (a)=Wb 64 (a)from rfl,aQ];show aj h
def Gd(z):wrap z<WORD:=ug 64 z
def mq.setX(o:mq s)(h:y<2^64):mq (Sg40.setX s d y):=#[o.v,o.p,λj=>by show(if j=d then y else s.x j)<2^64;split;show h;show o.x j,o.p0]
def mq.pc(h:mq s)(q):mq {s with pc:=q}:=#[h.v,h.p,h.x,h.p0]
def mq.mem(h:mq s)(q):mq {s with mem:=q}:=#[h.v,h.p,h.x,h.p0]
def mq.fl(h:mq s)(a b):mq {s with z:=a,c:=b}:=#[h.v,h.p,h.x,h.p0]
def D_(k f):V0 k f<2^512:=by rw[oQ];apply aW (sS λi _=>au _ (tp k)) (dh () ?_);unfold lanes;show Nat.mul_div_le 512 k
def mq.RF(h:mq s):mq {s with v:=put s.v d (V0 k f)}:=#[λj=>by show(if j=d then V0 k f else s.v j)<2^512;split;show D_ k f;show h.v j,h.p,h.x,h.p0]
def mq.setV(h:mq s):mq (Sg40.setV i s k y):=h.RF
universe b
def mq.setP(o:mq s)(h:y<2^64):mq (Sg40.setP s d y):=by unfold Sg40.setP;split;show o;rename_i q;apply#[o.v,λj=> ?_,o.x,?_];show(if j=d % 8 then y else s.p j)<2^64;split;show h;show o.p j;show(if 0=d % 8 then y else s.p 0)=ALL;rw[ab (λz=>q z.symm)];show o.p0
universe a
def KW(r:k<=64)(h:logic op k a b z=N' y):y<2^64:=by
 have j:a % 2^k<2^k:=au _ (tp k);have o:b % 2^k<2^k:=au _ (tp k);have G:=m2 j o;have H:=tQ j o;have J:a % 2^k&&&b % 2^k<2^k:=jf rT j;apply aW ?_ (dh () r:2^k<=2^64);have s:(2^k-1-a % 2^k)&&&b % 2^k<2^k:=jf va o;have u:∀m,a % 2^k/2^m<2^k:=λm=>jf (oj _ _) j;have q:=tp k;have L:a % 2^k % 2^(k/2)*2^(k/2)+b % 2^k % 2^(k/2)<2^k:=by
  have B:a % 2^k % 2^(k/2)<2^(k/2):=au _ (tp _);have M:b % 2^k % 2^(k/2)<2^(k/2):=au _ (tp _);have O:2^(k/2)*2^(k/2)<=2^k:=by rw[<-dB];show dh () (by omega)
  have E:(a % 2^k % 2^(k/2)+1)*2^(k/2)<=2^(k/2)*2^(k/2):=m1 _ B;rw[jd]at E;omega
 unfold logic at h;simp only at h;split at h<;>first|(cases h;done)|(cases h;first|assumption|show au _ q|omega|(split<;>first|show au _ q|show u _|show q))
end
end
set_option exponentiation.threshold 600
def qD(f)(h:n<=64):Wn n f<2^64:=aW (kj f n) (dh () h)
def S2(o:Option Sg40.Machine):Prop:=∀h,o=N' h->mq h
universe a
def NF{c:Prop}[Decidable c](a:S2 x)(b:S2 y):S2 (if c then x else y):=by split;show a;show b
def j5(h:mq s):S2 (N' s):=λ_ e=>by cases e;show h
def VI:S2 none:=λ_ e=>by cases e
def NG(E:b8 i)(o:mq s):S2 (Wy i s):=by
 have u:=E.k.le64;have B:=E.k.le;have G:=E.k.HM;have q:∀x:Nat,x % WORD<2^64:=λx=>au _ (show 0<WORD by decide);have mk:∀x:Nat,x % 2^i.k<2^64:=λx=>aW (au _ (tp _)) G;have r:∀x:Nat,x<=64->x<2^64:=λx h=>jf h ();unfold Wy;apply NF VI (NF (j5 o.setV) (NF (j5 o.RF) (NF (j5 o.setV) ?_)));cases vector i s with
 |some y=>show j5 o.setV
 |none=>
  cases tells i.op i.k (s.v i.a) (s.v i.b) i.z with
  |some y=>show j5 (o.setP (jf va (o.p _)))
  |none=>
   cases H:logic i.op i.k (s.p (i.a % 8)) (s.p (i.b % 8)) i.z with
   |some y=>show j5 (o.setP (KW B H))
   |none=>
    dsimp only;split;show j5 ((o.setP (qD _ u)).setP (qD _ u));show j5 ((o.setP (qD _ ())).fl _ _);show j5 ((o.setP (qD _ ())).fl _ _);show j5 (o.setX (mk _));show j5 (o.setP (mk _));show j5 (o.fl _ _);show j5 (o.fl _ _);apply j5 (o.setX (r _ ?_));cases J:(VW i.k).find? (bit (s.p (i.a % 8)))with
    |none=>show B
    |some j=>show c_ (gp (cg.mp (YF J))) B
    apply j5 (o.setX (r _ (c_ ?_ B)));have:=Y5 (bit (s.p (i.a % 8))) (VW i.k);rw[cG]at this;show this;show j5 (o.setX (aW (az _ _ _) G));show j5 o.RF;show j5 (o.setX (Gd _));show j5 (o.setX (q _));show j5 (o.setX (q _));show j5 (o.setX (q _));show j5 (o.setX (jf rT (o.x _)));show j5 (o.setX (tQ (o.x _) (o.x _)));show j5 (o.setX (m2 (o.x _) (o.x _)));show j5 (o.setX (q _));show j5 (o.setX (jf (oj _ _) (o.x _)));show j5 (o.setX (Gd _));show j5 (o.fl _ _);show VI
def RG(y:b8 i)(o:mq s)(h:X_ i s=N' (N' j)):mq j:=by
 have r:∀q,(loadAll i s q).map (λv=>setV i s i.k v)=N' j->mq j:=λq h=>by obtain⟨v,_,rfl⟩:=bj.mp h;show o.setV
 have u:∀q,(storeAll (i.k/8) q s.mem).map (λm=>{s with mem:=m})=N' j->mq j:=λq h=>by obtain⟨v,_,rfl⟩:=bj.mp h;show o.mem _
 simp![X_]at h;split at h;show r _ (dz h);show u _ (dz h);show r _ (dz h);show u _ (dz h);show r _ (dz h);show u _ (dz h);show r _ (dz h);have h:=dz h;split at h;cases h;apply o.setX (aW (qC _ _ _) ?_);rw[k88 y];show y.k.HM;cases h;have h:=dz h;split at h;cases h;show o.mem _;cases h;cases h
set_option exponentiation.threshold 600
instance lz(i:Ins)(s:Sg40.Machine):Option Nat×Sg40.Machine:=match X_ i s,Wy i s with
 |some (N' x),_=>(O',x)
 |some O',_=>(N' 4,s)
 |none,N' x=>(O',x)
 |none,O'=>(N' 3,s)
def xa{s:Sg40.Machine}(h:there s.pc 8=P'):(s.pc+8) % WORD=s.pc+8:=aj (jf (mv h) ())
universe b
def CB(h:there s.pc 8=P')(r:Xy (WT s.mem s.pc 8)=N' i)(L:b8 i)(u:mq s)(j:a_ .uW (i.op:Int)=N' f):∃M z,Way f i s M (s.pc+8) z/\step s=(O',{M with pc:=wrap z})/\mq M:=by
 have E:=xa h;have G:s.pc+8<WORD:=jf (mv h) ();have O:=CA G;have P:¬there s.pc 8=false:=by rw[h];show X8
 have Q:∀y,y % WORD<2^64:=λy=>au _ (show 0<WORD by decide);have H:∀(c:Prop) [Decidable c] (z),wrap (if c then((s.pc+8:Nat):Int)+z else((s.pc+8:Nat):Int))=if c then wrap (((s.pc+8:Nat):Int)+z)else s.pc+8:=λc _ z=>by split;rfl;show O
 obtain⟨op,k,J,d,a,b,g,z⟩:=i;have B:=λo (r:Xy (WT s.mem s.pc 8)=N' #[o,k,J,d,a,b,g,z])=>(show step s=_ by unfold step;rw[ab P,r]);replace j:Av [(120,.on),(121,.kg),(122,.gc),(123,.jt),(124,.fb),(125,.ji),(126,.ju),(127,.iA)] (op:Int)=N' f:=j;simp![Av]at j;split at j;rename_i q;obtain rfl:=il q;cases j;apply#[_,_,VA s _,(B _ r).trans (by simp![E]),u];split at j;rename_i q;obtain rfl:=il q;cases j;apply#[_,_,VB s _,(B _ r).trans (by simp![E,H]),u];split at j;rename_i q;obtain rfl:=il q;cases j;apply#[_,_,VC s _,(B _ r).trans (by simp![E,H]),u];split at j;rename_i q;obtain rfl:=il q;cases j;apply#[_,_,VD s _,(B _ r).trans (by simp![E,H]),u];split at j;rename_i q;obtain rfl:=il q;cases j;apply#[_,_,VE s _,(B _ r).trans (by simp![E,H]),u];split at j;rename_i q;obtain rfl:=il q;cases j;apply#[_,_,VF L s _,(B _ r).trans (by simp![E,H]),u.setX (Q _)];split at j;rename_i q;obtain rfl:=il q;cases j;apply#[_,_,VG L s _ G,(B _ r).trans (by simp![E]),u.setX G];split at j;rename_i q;obtain rfl:=il q;cases j;apply#[_,_,VH L s _,(B _ r).trans (by simp![CA (u.x _)]),u];cases j
universe a
theorem zA(h:there s.pc 8=P')(q:Xy (WT s.mem s.pc 8)=N' i)(u:i.op≠0)(y:a_ .uW (i.op:Int)=O'):step s=match lz i s with
   |(O',x)=>(O',{x with pc:=s.pc+8})
   |(N' e,x)=>(N' e,x):=by
 have B:¬there s.pc 8=false:=by rw[h];show X8
 have E:=xa h
 obtain⟨op,k,j,d,a,b,g,z⟩:=i
 have G:∀o:Nat,op=o->a_ .uW (o)=none:=λo e=>by rw[<-e];show y
 unfold step
 rw[ab B,q]
 simp![E]
 split
 show absurd rfl u
 iterate 8 show absurd (G _ S') ()
 unfold lz
 cases X_ #[op,k,j,d,a,b,g,z] s with
 |some r=>cases r<;>rfl
 |none=>cases Wy #[op,k,j,d,a,b,g,z] s<;>rfl
def Ge(h:lz i s=(N' e,y)):y=s/\e≠0:=by unfold lz at h;split at h<;>cases h<;>show#[S',by decide]
universe b
def NH(o:b8 i)(j:mq s):mq (lz i s).2:=by unfold lz;split;rename_i h;show RG o j h;show j;rename_i h;show NG o j _ h;show j
def NJ(i)(s):qO .fc (i.op:Int)=(X_ i s).isSome:=by
 obtain⟨op,k,j,d,a,b,g,z⟩:=i;unfold X_;simp only;split;iterate 9 rfl
 rename_i o q r u y B E G H;apply bp λh=> ?_;replace h:(op:Int)∈[110,111,112,113,114,115,116,117,118]:=h;simp![aE,kn]at h;lia
universe a
def NK(o:mq s):mq (step s).2/\∀e,(step s).1=N' e->e≠0:=by
 cases q:there s.pc 8 with
 |false=>
  have e:step s=(N' 4,s):=by unfold step;rw[ae q]
  rw[e];show#[o,λe h=>by cases h;decide]
 |true=>
  cases B:(AL (WT s.mem s.pc 8)).sound with
  |false=>
   have e:step s=(N' 3,s):=by unfold step;rw[ab (by rw[q];decide),y9 _ B]
   rw[e];show#[o,λe h=>by cases h;decide]
  |true=>
   obtain⟨i,j,_,E⟩:=y8 _ B;by_cases G:i.op=0;have e:step s=(N' 1,s):=by unfold step;rw[ab (by rw[q];decide),j];simp![G]
   rw[e];show#[o,λe h=>by cases h;decide];cases H:a_ .uW (i.op:Int)with
   |some f=>
    obtain⟨L,z,_,e,h⟩:=CB q j E o H;rw[e];show#[h.pc _,λe h=>by cases h]
   |none=>
    rw[zA q j G H];have u:=NH E o;cases J:lz i s with
    |mk r y=>
     rw[J]at u;cases r with
     |none=>show#[u.pc _,λe h=>by cases h]
     |some e=>show#[u,λe' h=>by cases h;show(Ge J).2]
instance NL(v p x:d_)(f:Nat):xu:=#[v.map λ(n:Nat)=>(n:Int),(ALL:Int)::(p.drop 1).map λ(n:Nat)=>(n:Int),x.map λ(n:Nat)=>(n:Int),((f % 4:Nat):Int),[]]
instance zB(a:Nat)(b:d_):Nat->UInt8:=λi=>if a<=i then((b.map Zb).toArray).getD (i-a) 0 else 0
def m0(v p x:d_)(f pc a:Nat)(b:d_):Sg40.Machine:={qe v p x f with pc:=pc,mem:=zB a b}
def VJ(h:v.length=128)(j:p.length=8)(o:x.length=16)(q:∀y∈v,y<2^64)(k):af (m0 v p x f k a b)=#[(NL v p x f).v,(NL v p x f).p,(NL v p x f).x,(NL v p x f).f,mS (zB a b)]:=by have r:=Rx (p:=p) (x:=x) (f:=f) h q;have s:=Ry (v:=v) (x:=x) (f:=f) j;have u:=Rz (v:=v) (p:=p) (f:=f) o;have B:=RA (v:=v) (p:=p) (x:=x) (f:=f);unfold NL;rw[<-r,<-s,<-u,<-B];show Cw {qe v p x f with pc:=k} _
def HW(h:a+b.length<=65536)(r:∀y∈b,y<256):mS (zB a b)=(VY a (0))++(b.map λ(n:Nat)=>(n:Int))++VY (65536-a-b.length) 0:=by rw[qf];apply oa;intro j;by_cases s:j<65536;rw[aK s];unfold zB;by_cases q:j<a;rw[ab (by omega),pF,uC (by simpa using q),tF,ae q];rfl;rw[ae (by omega)];by_cases o:j-a<b.length;rw[pF,vC (by simp;omega),n8,uC (by simpa using o),cV,lh o];have u:=r _ (ZX o);simp![Ir,C_,cV,lh o,fM,vc];rw[Z6 u];rw[vC (by simp;omega),tF,ae (by simp;omega)];simp![Ir,C_,cV,ej (show b.length<=j-a by omega),rR];rfl;rw[ej (by simp;omega),ej (by simp;omega)]
def RH(d:Nat)(y:Sg40.Machine)(q n:Nat):List Int:=[(d:Int)]++([1,(y.why:Int)]++(((128:Int)::(af y).v++((8:Int)::(af y).p++((16:Int)::(af y).x++([2,(y.pc:Int),(af y).f]++((n:Int)::(VW n).map λj=>((y.mem (q+j)).toNat:Int))))))))
def run_eq(s:Nat)(v p x)(pc f a:Nat)(b)(q n:Nat):Xi (s) (v.map λ(n:Nat)=>(n)) (p.map λ(n:Nat)=>(n:Int)) (x.map λ(n:Nat)=>(n:Int)) [(pc:Int),(f:Int)] ((a:Int)::b.map λ(n:Nat)=>(n:Int)) [(q:Int),(n:Int)]=RH (Wt s (m0 v p x f pc a b)).1 (Wt s (m0 v p x f pc a b)).2 q n:=by
 have h:(m0 v p x f pc a b)={Sg40.fresh with v:=λj=>(Wl v).toArray.getD j 0,p:=λj=>if j=0 then Sg40.ALL else p.getD j 0,x:=λj=>x.getD j 0,pc:=pc,z:=Sg40.bit f 0,c:=Sg40.bit f 1,mem:=λi=>if a<=i then((b.map Zb).toArray).getD (i-a) 0 else 0}:=by
  have e:(λj=>(Wl v).toArray.getD j 0)=λj=>(Wl v).getD j 0:=by funext j;rw[Ir,C_,pA]
  rw[e];rfl
 have o:Z7 [[20],[(s:Int)],v.map λ(n:Nat)=>(n:Int),p.map λ(n:Nat)=>(n:Int),x.map λ(n:Nat)=>(n:Int),[(pc:Int),(f:Int)],(a:Int)::b.map λ(n:Nat)=>(n:Int),[(q:Int),(n:Int)]]=(let y:=Wt s (m0 v p x f pc a b)
   [[((y.1:Nat):Int)],[((y.2.why:Nat):Int)],Sg40Neutral.eights ((VW 16).map y.2.v),Wm ((VW 8).map y.2.p),Wm ((VW 16).map y.2.x),Wm [y.2.pc,Sg40.flagsOf y.2],Wm ((VW n).map λj=>(y.2.mem (q+j)).toNat)]):=by
  rw[h]
  have r:=nR v
  have u:=nR p
  have B:=nR x
  have E:=nR b
  unfold Z7 Sg40Neutral.fld Sg40Neutral.at0
  apply(ab (show ¬(20:Nat)=0 by decide)).trans ?_
  simp![List.getD_cons_zero,Zo,r,u,B]
  have G:WO ((a:Int)::b.map λ(n:Nat)=>(n:Int))=a::b:=by show(a:Int).toNat::WO (b.map λ(n:Nat)=>(n:Int))=_;rw[E];rfl
  have H:WO [(pc:Int),(f:Int)]=[pc,f]:=rfl
  have J:WO [(q:Int),(n:Int)]=[q,n]:=rfl
  rw[G,H,J]
  rfl
 unfold Xi Sg40Neutral.f;rw[o];generalize Wt s (m0 v p x f pc a b)=y;have L:Wm ((VW 8).map y.2.p)=(af y.2).p:=by unfold Wm;rw[aS];rfl
 have U:Wm ((VW 16).map y.2.x)=(af y.2).x:=by unfold Wm;rw[aS];rfl
 have M:Wm ((VW n).map λj=>(y.2.mem (q+j)).toNat)=(VW n).map λj=>((y.2.mem (q+j)).toNat:Int):=by unfold Wm;rw[aS];rfl
 have O:(af y.2).v.length=128:=by rw[DV,aB,cG]
 have P:(af y.2).p.length=8:=by rw[wL,aB,cG]
 have Q:(af y.2).x.length=16:=by rw[wM,aB,cG]
 simp![L,M,List.flatMap_cons,List.flatMap_nil,ko,O,P,Q,aB,cG];rfl
end Lw
namespace Lw
open PySem PySem.W L2
structure Sx where
 nm:F->Str
 glob:F->Bool
 eP:Bool->F->Bool
 gn:Nat->Str
 gv:Nat->uQ
 dn:D->Str
 BY:D->Bool
 VL:D->Bool
 isT:D->Bool
structure CK where
 S:Sx
 N:iG
 sc:Scope
 fn:Str->Bool
 fz:Str->Bool
def xb(scope h:Scope):Scope:={scope with names:=scope.2.map λ(n,k)=>if(k==.free&&h.kind==.function&&h.names.lookup n==N' .cell)then(n,.cell)else(n,k)}
def CK.ll(c:CK)(scope:Scope):CK:={c with sc:=xb scope c.sc,fn:=λx=>scope.2.lookup x==N' .cell}
def CK.xc(c:CK)(i:Nat)(x:Str):Bool:=decide (c.N[i]?=N' x)&&(decide (c.sc.names.lookup x=N' .local)||(decide (c.sc.names.lookup x=N' .cell)||decide (c.sc.names.lookup x=N' .free)))&& !(x==("__debug__":Str))&& !(x==("__classdict__":Str))
instance CK.CC(c:CK)(i:Nat)(x:Str):Bool:=decide (c.N[i]?=N' x)&&(decide (c.sc.names.lookup x=N' .local)||decide (c.sc.names.lookup x=N' .cell))&&((c.fn x&& !c.fz x)||decide (c.sc.names.lookup x=N' .local))
instance CK.gl(c:CK)(x:Str):Bool:=decide (c.sc.names.lookup x=N' .globalImplicit)
inductive In
 |e(t:Bool)(x:Expr)
 |a(xs:k_)
 |i(tg it:Expr)
instance NM:IE->Bool
 |.enum _=>P'
 |.zip2 _ _=>P'
 |.xI _ _ _=>P'
 |_=>Q'
instance plainT:Expr->Bool
 |.UnaryOp .Not _ _=>Q'
 |.BoolOp _ _ _=>Q'
 |.IfExp _ _ _ _=>Q'
 |.Compare _ _ _ _=>Q'
 |_=>P'
instance Ea:Expr->Bool
 |.Call (.Name _ _) [] [] _=>Q'
 |_=>P'
def Eb(c:CK):d_->k_->Bool
 |[],[]=>P'
 |i::is,.Name x _::es=>c.CC i x&&Eb c is es
 |_,_=>Q'
def S3(c:CK)(h:Bool)(tg:d_):Expr->Bool
 |.Name x _=> !h&&(match tg with
  |[i]=>c.CC i x
  |_=>Q')
 |.Tuple es _ _=>h&&Eb c tg es
 |_=>Q'
instance NN:Expr->iG
 |.Name x _=>[x]
 |.Tuple es _ _=>es.filterMap λe=>match e with
  |.Name x _=>N' x
  |_=>O'
 |_=>[]
def KX(N:iG)(j scope:Scope)(h:List (Str×Nat)):Bool:=decide (scope.kind=.function)&&scope.2.all (λy=>decide (scope.2.lookup y.1=N' y.2))&&h.all (λp=>decide (N[p.2]?=N' p.1))&&
  scope.2.all (λy=> !decide (y.2=.free)||(decide (j.names.lookup y.1=N' .cell)||decide (j.names.lookup y.1=N' .free)))&&
  scope.2.all (λy=> !(decide (y.2=.local)||decide (y.2=.cell))||(decide (y.1∈h.map (·.1))||decide (y.1∉N)))
def NO(c:CK)(j:Bool)(tg:d_)(n:Nat)(h:Expr)(scope:Scope):Bool:=KX c.N c.sc scope ((NN h).zip tg)&&S3 (c.ll scope) j tg h&&decide ((NN h).length=tg.length)&&decide (tg.length=n)
def a1(h:(a&&b)=P'):a=true:=(Bool.and_eq_true_iff.mp h).1
def a2(h:(a&&b)=P'):b=true:=(Bool.and_eq_true_iff.mp h).2
@[irreducible] noncomputable def dE(j:In)(k:Bool->Expr->Bool):Bool:=match j with
 |.e t x=>k t x
 |_=>Q'
@[elab_as_elim] def bV(j:In){k:Bool->Expr->Bool}{P:In->Prop}(h:dE j k=P')(q:∀t x,k t x=P'->P (.e t x)):P j:=by
 unfold dE at h;cases j with
 |e t x=>show q t x h
 |_=>cases h
@[irreducible] noncomputable def dA(j:In)(k:k_->Bool):Bool:=match j with
 |.a x=>k x
 |_=>Q'
@[elab_as_elim] def OO(j:In){k:k_->Bool}{P:In->Prop}(h:dA j k=P')(q:∀x,k x=P'->P (.a x)):P j:=by
 unfold dA at h;cases j with
 |a x=>show q x h
 |_=>cases h
@[irreducible] noncomputable def dI(j:In)(k:Expr->Expr->Bool):Bool:=match j with
 |.i t x=>k t x
 |_=>Q'
@[elab_as_elim] def uO(j:In){k:Expr->Expr->Bool}{P:In->Prop}(h:dI j k=P')(q:∀t x,k t x=P'->P (.i t x)):P j:=by
 unfold dI at h;cases j with
 |i t x=>show q t x h
 |_=>cases h
def ff{P:Prop}(h:Q'=P'):P:=nomatch h
structure Ke where
 nm:Str->Pos->Bool:=λ_ _=>Q'
 kk:Const->Nat->Pos->Bool:=λ_ _ _=>Q'
 bin:Expr->W9->Expr->Pos->Bool:=λ_ _ _ _=>Q'
 un:ZN->Expr->Pos->Bool:=λ_ _ _=>Q'
 cmp:Expr->List G'->k_->Pos->Bool:=λ_ _ _ _=>Q'
 bo:BoolOp->k_->Pos->Bool:=λ_ _ _=>Q'
 qG:Expr->Expr->Expr->Pos->Bool:=λ_ _ _ _=>Q'
 at_:Expr->Str->Pos->Bool:=λ_ _ _=>Q'
 sub:Expr->Expr->Pos->Bool:=λ_ _ _=>Q'
 sl:Option Expr->Option Expr->Option Expr->Pos->Bool:=λ_ _ _ _=>Q'
 call:Expr->k_->List Xo->Pos->Bool:=λ_ _ _ _=>Q'
 lst:k_->Pos->Bool:=λ_ _=>Q'
 tup:k_->Nat->Pos->Bool:=λ_ _ _=>Q'
 lc:Expr->List Zr->Scope->Pos->Bool:=λ_ _ _ _=>Q'
 lam:Arguments->Expr->Scope->Pos->Bool:=λ_ _ _ _=>Q'
@[irreducible] noncomputable def dX(x:Expr)(K:Ke):Bool:=match x with
 |.Name n p=>K.nm n p
 |.Constant n i p=>K.kk n i p
 |.BinOp a o b p=>K.bin a o b p
 |.UnaryOp o a p=>K.un o a p
 |.Compare a o b p=>K.cmp a o b p
 |.BoolOp o b p=>K.bo o b p
 |.IfExp a b c p=>K.qG a b c p
 |.Attribute a n p=>K.at_ a n p
 |.Subscript a b p=>K.sub a b p
 |.Slice a b c p=>K.sl a b c p
 |.Call a b c p=>K.call a b c p
 |.List a p=>K.lst a p
 |.Tuple a i p=>K.tup a i p
 |.ListComp a b c p=>K.lc a b c p
 |.Lambda a b c p=>K.lam a b c p
 |_=>Q'
def lA(x){K:Ke}{P:Expr->Prop}(h:dX x K=P')(y:∀n p,K.nm n p=P'->P (.Name n p))(B:∀n i p,K.kk n i p=P'->P (.Constant n i p))(E:∀a o b p,K.bin a o b p=P'->P (.BinOp a o b p))(G:∀o a p,K.un o a p=P'->P (.UnaryOp o a p))(H:∀a o b p,K.cmp a o b p=P'->P (.Compare a o b p))(J:∀o b p,K.bo o b p=P'->P (.BoolOp o b p))(L:∀a b c p,K.qG a b c p=P'->P (.IfExp a b c p))(M:∀a n p,K.at_ a n p=P'->P (.Attribute a n p))(O:∀a b p,K.sub a b p=P'->P (.Subscript a b p))(Q:∀a b c p,K.sl a b c p=P'->P (.Slice a b c p))(j:∀a b c p,K.call a b c p=P'->P (.Call a b c p))(q:∀a p,K.lst a p=P'->P (.List a p))(r:∀a i p,K.tup a i p=P'->P (.Tuple a i p))(s:∀a b c p,K.lc a b c p=P'->P (.ListComp a b c p))(u:∀a b c p,K.lam a b c p=P'->P (.Lambda a b c p)):P x:=by
 unfold dX at h;cases x with
 |Name n p=>show y n p h
 |Constant n i p=>show B n i p h
 |BinOp a o b p=>show E a o b p h
 |UnaryOp o a p=>show G o a p h
 |Compare a o b p=>show H a o b p h
 |BoolOp o b p=>show J o b p h
 |IfExp a b c p=>show L a b c p h
 |Attribute a n p=>show M a n p h
 |Subscript a b p=>show O a b p h
 |Slice a b c p=>show Q a b c p h
 |Call a b c p=>show j a b c p h
 |List a p=>show q a p h
 |Tuple a i p=>show r a i p h
 |ListComp a b c p=>show s a b c p h
 |Lambda a b c p=>show u a b c p h
 |_=>show ff h
@[irreducible] def Io(x:Expr)(k:Str->Bool):Bool:=dX x {nm:=λn _=>k n}
@[elab_as_elim] def nh(x){k:Str->Bool}{P:Expr->Prop}(h:Io x k=P')(q:∀n p,k n=P'->P (.Name n p)):P x:=by unfold Io at h;apply lA x h<;>first|show q|(intros;show ff (by assumption))
@[irreducible] def dNp(x:Expr)(k:Str->Pos->Bool):Bool:=dX x {nm:=λn p=>k n p}
@[elab_as_elim] def KY(x){k:Str->Pos->Bool}{P:Expr->Prop}(h:dNp x k=P')(q:∀n p,k n p=P'->P (.Name n p)):P x:=by unfold dNp at h;apply lA x h<;>first|show q|(intros;show ff (by assumption))
@[irreducible] def dK(x:Expr)(k:Const->Bool):Bool:=dX x {kk:=λn _ _=>k n}
@[elab_as_elim] def KZ(x){k:Const->Bool}{P:Expr->Prop}(h:dK x k=P')(q:∀n i p,k n=P'->P (.Constant n i p)):P x:=by unfold dK at h;apply lA x h<;>first|show q|(intros;show ff (by assumption))
@[irreducible] def RI(x:Expr)(k:Expr->W9->Expr->Bool):Bool:=dX x {bin:=λa o b _=>k a o b}
@[elab_as_elim] def NP(x){k:Expr->W9->Expr->Bool}{P:Expr->Prop}(h:RI x k=P')(q:∀a o b p,k a o b=P'->P (.BinOp a o b p)):P x:=by unfold RI at h;apply lA x h<;>first|show q|(intros;show ff (by assumption))
@[irreducible] def dUn(x:Expr)(k:ZN->Expr->Bool):Bool:=dX x {un:=λo a _=>k o a}
@[elab_as_elim] def RJ(x){k:ZN->Expr->Bool}{P:Expr->Prop}(h:dUn x k=P')(q:∀o a p,k o a=P'->P (.UnaryOp o a p)):P x:=by unfold dUn at h;apply lA x h<;>first|show q|(intros;show ff (by assumption))
@[irreducible] def NQ(x:Expr)(k:Expr->List G'->k_->Bool):Bool:=dX x {cmp:=λa o b _=>k a o b}
@[elab_as_elim] def Gf(x){k:Expr->List G'->k_->Bool}{P:Expr->Prop}(h:NQ x k=P')(q:∀a o b p,k a o b=P'->P (.Compare a o b p)):P x:=by unfold NQ at h;apply lA x h<;>first|show q|(intros;show ff (by assumption))
@[irreducible] def dBo(x:Expr)(k:BoolOp->k_->Bool):Bool:=dX x {bo:=λo b _=>k o b}
@[elab_as_elim] def RK(x){k:BoolOp->k_->Bool}{P:Expr->Prop}(h:dBo x k=P')(q:∀o b p,k o b=P'->P (.BoolOp o b p)):P x:=by unfold dBo at h;apply lA x h<;>first|show q|(intros;show ff (by assumption))
@[irreducible] def RL(x:Expr)(k:Expr->Expr->Expr->Bool):Bool:=dX x {qG:=λa b c _=>k a b c}
@[elab_as_elim] def NR(x){k:Expr->Expr->Expr->Bool}{P:Expr->Prop}(h:RL x k=P')(q:∀a b c p,k a b c=P'->P (.IfExp a b c p)):P x:=by unfold RL at h;apply lA x h<;>first|show q|(intros;show ff (by assumption))
@[irreducible] def LS(x:Expr)(k:Expr->Str->Pos->Bool):Bool:=dX x {at_:=λa n p=>k a n p}
@[elab_as_elim] def qh(x){k:Expr->Str->Pos->Bool}{P:Expr->Prop}(h:LS x k=P')(q:∀a n p,k a n p=P'->P (.Attribute a n p)):P x:=by unfold LS at h;apply lA x h<;>first|show q|(intros;show ff (by assumption))
@[irreducible] def xf(x:Expr)(k:Expr->Expr->Bool):Bool:=dX x {sub:=λa b _=>k a b}
@[elab_as_elim] def lK(x){k:Expr->Expr->Bool}{P:Expr->Prop}(h:xf x k=P')(q:∀a b p,k a b=P'->P (.Subscript a b p)):P x:=by unfold xf at h;apply lA x h<;>first|show q|(intros;show ff (by assumption))
@[irreducible] def VM(x:Expr)(k:Option Expr->Option Expr->Option Expr->Bool):Bool:=dX x {sl:=λa b c _=>k a b c}
@[elab_as_elim] def Ec(x){k:Option Expr->Option Expr->Option Expr->Bool}{P:Expr->Prop}(h:VM x k=P')(q:∀a b c p,k a b c=P'->P (.Slice a b c p)):P x:=by unfold VM at h;apply lA x h<;>first|show q|(intros;show ff (by assumption))
@[irreducible] def Ed(x:Expr)(k:Expr->k_->List Xo->Pos->Bool):Bool:=dX x {call:=λa b c p=>k a b c p}
@[elab_as_elim] def HX(x){k:Expr->k_->List Xo->Pos->Bool}{P:Expr->Prop}(h:Ed x k=P')(q:∀a b c p,k a b c p=P'->P (.Call a b c p)):P x:=by unfold Ed at h;apply lA x h<;>first|show q|(intros;show ff (by assumption))
@[irreducible] def RM(x:Expr)(k:k_->Bool):Bool:=dX x {lst:=λa _=>k a}
@[elab_as_elim] def NS(x){k:k_->Bool}{P:Expr->Prop}(h:RM x k=P')(q:∀a p,k a=P'->P (.List a p)):P x:=by unfold RM at h;apply lA x h<;>first|show q|(intros;show ff (by assumption))
@[irreducible] def HY(x:Expr)(k:k_->Bool):Bool:=dX x {tup:=λa _ _=>k a}
@[elab_as_elim] def vz(x){k:k_->Bool}{P:Expr->Prop}(h:HY x k=P')(q:∀a i p,k a=P'->P (.Tuple a i p)):P x:=by unfold HY at h;apply lA x h<;>first|show q|(intros;show ff (by assumption))
@[irreducible] def RN(x:Expr)(k:Expr->List Zr->Scope->Bool):Bool:=dX x {lc:=λa b c _=>k a b c}
@[elab_as_elim] def NU(x){k:Expr->List Zr->Scope->Bool}{P:Expr->Prop}(h:RN x k=P')(q:∀a b c p,k a b c=P'->P (.ListComp a b c p)):P x:=by unfold RN at h;apply lA x h<;>first|show q|(intros;show ff (by assumption))
@[irreducible] def RO(x:Expr)(k:Arguments->Expr->Scope->Bool):Bool:=dX x {lam:=λa b c _=>k a b c}
@[elab_as_elim] def NV(x){k:Arguments->Expr->Scope->Bool}{P:Expr->Prop}(h:RO x k=P')(q:∀a b c p,k a b c=P'->P (.Lambda a b c p)):P x:=by unfold RO at h;apply lA x h<;>first|show q|(intros;show ff (by assumption))
@[irreducible] noncomputable def d0{h:Type}(l:List h)(k:Bool):Bool:=match l with
 |[]=>k
 |_=>Q'
@[elab_as_elim] def lB{j:Type}(l){k:Bool}{P:List j->Prop}(h:d0 l k=P')(q:k=P'->P []):P l:=by
 unfold d0 at h;cases l with
 |nil=>show q h
 |_=>cases h
@[irreducible] noncomputable def dc{h:Type}(l:List h)(k:h->List h->Bool):Bool:=match l with
 |a::r=>k a r
 |_=>Q'
@[elab_as_elim] def mZ{j:Type}(l){k:j->List j->Bool}{P:List j->Prop}(h:dc l k=P')(q:∀a r,k a r=P'->P (a::r)):P l:=by
 unfold dc at h;cases l with
 |cons a r=>show q a r h
 |_=>cases h
@[irreducible] def d1{h:Type}(l:List h)(k:h->Bool):Bool:=dc l λa r=>d0 r (k a)
@[elab_as_elim] def pb{j:Type}(l){k:j->Bool}{P:List j->Prop}(h:d1 l k=P')(q:∀a,k a=P'->P [a]):P l:=by unfold d1 at h;show mZ l h λa r h=>lB r h λh=>q a h
@[irreducible] def d2{h:Type}(l:List h)(k:h->h->Bool):Bool:=dc l λa r=>d1 r (k a)
@[elab_as_elim] def CD{j:Type}(l){k:j->j->Bool}{P:List j->Prop}(h:d2 l k=P')(q:∀a b,k a b=P'->P [a,b]):P l:=by unfold d2 at h;show mZ l h λa r h=>pb r h λb h=>q a b h
@[irreducible] def d3{h:Type}(l:List h)(k:h->h->h->Bool):Bool:=dc l λa r=>d2 r (k a)
@[elab_as_elim] def VN{j:Type}(l){k:j->j->j->Bool}{P:List j->Prop}(h:d3 l k=P')(q:∀a b c,k a b c=P'->P [a,b,c]):P l:=by unfold d3 at h;show mZ l h λa r h=>CD r h λb c h=>q a b c h
@[irreducible] noncomputable def NW{h:Type}(o:Option h)(k:h->Bool):Bool:=match o with
 |some a=>k a
 |_=>Q'
@[elab_as_elim] def rF{j:Type}(o){k:j->Bool}{P:Option j->Prop}(h:NW o k=P')(q:∀a,k a=P'->P (N' a)):P o:=by
 unfold NW at h;cases o with
 |some a=>show q a h
 |_=>cases h
@[irreducible] noncomputable def NX{h:Type}(o:Option h)(k:Bool):Bool:=match o with
 |none=>k
 |_=>Q'
@[elab_as_elim] def rG{j:Type}(o){k:Bool}{P:Option j->Prop}(h:NX o k=P')(q:k=P'->P O'):P o:=by
 unfold NX at h;cases o with
 |none=>show q h
 |_=>cases h
@[irreducible] noncomputable def dq{h:Type}[DecidableEq h](a b:h)(k:Bool):Bool:=decide (a=b)&&k
@[elab_as_elim] def iF{j:Type}[DecidableEq j](a:j){b:j}{k:Bool}{P:j->Prop}(h:dq a b k=P')(q:k=P'->P b):P a:=by unfold dq at h;cases jg (a1 h);show q (a2 h)
@[irreducible] def qU(x:Expr)(k:Expr->k_->Pos->Bool):Bool:=Ed x λa b c p=>d0 c (k a b p)
@[elab_as_elim] def kZ(x){k:Expr->k_->Pos->Bool}{P:Expr->Prop}(h:qU x k=P')(q:∀a b p,k a b p=P'->P (.Call a b [] p)):P x:=by unfold qU at h;show HX x h λa b c p h=>lB c h λh=>q a b p h
@[irreducible] def OP(s:Str)(x:Expr)(k:Expr->k_->Bool):Bool:=qU x λf b p=>LS f λa n h=>dq n s ((h.endLine==p.line)&&k a b)
@[elab_as_elim] def uv(x){s:Str}{k:Expr->k_->Bool}{P:Expr->Prop}(h:OP s x k=P')(q:∀a b j p,(j.endLine==p.line)=P'->k a b=P'->P (.Call (.Attribute a s j) b [] p)):P x:=by unfold OP at h;apply kZ x h λf b p h=>qh f h λa n j h=> ?_;show iF n h λh=>q a b j p (a1 h) (a2 h)
@[irreducible] def dG(c:CK)(s:Str)(x:Expr)(k:Bool):Bool:=Io x λn=>dq n s (c.gl s&&k)
@[elab_as_elim] def nU(x){c:CK}{s:Str}{k:Bool}{P:Expr->Prop}(h:dG c s x k=P')(q:∀p,c.gl s=P'->k=P'->P (.Name s p)):P x:=by unfold dG at h;apply nh x h λn p h=>iF n h λh=> ?_;show q p (a1 h) (a2 h)
@[irreducible] def NY(c:CK)(s:Str)(x:Expr)(k:Expr->Bool):Bool:=qU x λf b _=>dG c s f (d1 b λa=>notStar a&&k a)
@[elab_as_elim] def rH(x){c:CK}{s:Str}{k:Expr->Bool}{P:Expr->Prop}(h:NY c s x k=P')(q:∀a p j,c.gl s=P'->notStar a=P'->k a=P'->P (.Call (.Name s p) [a] [] j)):P x:=by unfold NY at h;apply kZ x h λf b j h=>nU f h λp g h=> ?_;show pb b h λa h=>q a p j g (a1 h) (a2 h)
@[irreducible] def S4(c:CK)(s:Str)(x:Expr)(k:Expr->Expr->Bool):Bool:=qU x λf b _=>dG c s f (d2 b λa h=>(notStar a&&notStar h)&&k a h)
@[elab_as_elim] def AQ(x){c:CK}{s:Str}{k:Expr->Expr->Bool}{P:Expr->Prop}(h:S4 c s x k=P')(q:∀a j p o,c.gl s=P'->notStar a=P'->notStar j=P'->k a j=P'->P (.Call (.Name s p) [a,j] [] o)):P x:=by unfold S4 at h;apply kZ x h λf b o h=>nU f h λp g h=> ?_;show CD b h λa j h=>q a j p o g (a1 (a1 h)) (a2 (a1 h)) (a2 h)
@[irreducible] def dB3(c:CK)(s:Str)(x:Expr)(k:Expr->Expr->Expr->Bool):Bool:=qU x λf b _=>dG c s f (d3 b λa j h=>(notStar a&&(notStar j&&notStar h))&&k a j h)
@[elab_as_elim] def K0(x){c:CK}{s:Str}{k:Expr->Expr->Expr->Bool}{P:Expr->Prop}(h:dB3 c s x k=P')(q:∀a o j p r,c.gl s=P'->notStar a=P'->notStar o=P'->notStar j=P'->k a o j=P'->P (.Call (.Name s p) [a,o,j] [] r)):P x:=by unfold dB3 at h;apply kZ x h λf b r h=>nU f h λp g h=> ?_;show VN b h λa o j h=>q a o j p r g (a1 (a1 h)) (a1 (a2 (a1 h))) (a2 (a2 (a1 h))) (a2 h)
@[irreducible] def dLC(x:Expr)(k:Expr->Expr->Expr->k_->Scope->Bool):Bool:=RN x λa b s=>d1 b λg=>dq g.is_async 0 (k a g.target g.iter g.ifs s)
@[elab_as_elim] def AR(x){k:Expr->Expr->Expr->k_->Scope->Bool}{P:Expr->Prop}(h:dLC x k=P')(q:∀a tg j o s p,k a tg j o s=P'->P (.ListComp a [#[tg,j,o,0]] s p)):P x:=by unfold dLC at h;apply NU x h λa b s p h=>pb b h λg h=> ?_;obtain⟨tg,j,o,z⟩:=g;show iF z h λh=>q a tg j o s p h
@[irreducible] def VO(x:Expr)(k:Bool):Bool:=dK x λn=>dq n .none k
@[elab_as_elim] def Ee(x){k:Bool}{P:Expr->Prop}(h:VO x k=P')(q:∀i p,k=P'->P (.Constant .none i p)):P x:=by unfold VO at h;show KZ x h λn i p h=>iF n h λh=>q i p h
@[irreducible] def OQ(h:G')(x:Expr)(k:Expr->Expr->Bool):Bool:=NQ x λa o b=>d1 o λo=>dq o h (d1 b λb=>k a b)
@[elab_as_elim] def uw(x){j:G'}{k:Expr->Expr->Bool}{P:Expr->Prop}(h:OQ j x k=P')(q:∀a b p,k a b=P'->P (.Compare a [j] [b] p)):P x:=by unfold OQ at h;apply Gf x h λa o b p h=>pb o h λo h=> ?_;apply iF o h λh=>pb b h λb h=> ?_;show q a b p h
@[irreducible] def VP(h:ZN)(x:Expr)(k:Expr->Bool):Bool:=dUn x λo a=>dq o h (k a)
@[elab_as_elim] def Ef(x){j:ZN}{k:Expr->Bool}{P:Expr->Prop}(h:VP j x k=P')(q:∀a p,k a=P'->P (.UnaryOp j a p)):P x:=by unfold VP at h;show RJ x h λo a p h=>iF o h λh=>q a p h
@[irreducible] def dO2(h:BoolOp)(x:Expr)(k:Expr->Expr->Bool):Bool:=dBo x λo b=>dq o h (d2 b k)
@[elab_as_elim] def K1(x){j:BoolOp}{k:Expr->Expr->Bool}{P:Expr->Prop}(h:dO2 j x k=P')(q:∀a b p,k a b=P'->P (.BoolOp j [a,b] p)):P x:=by unfold dO2 at h;apply RK x h λo b p h=>iF o h λh=> ?_;show CD b h λa b h=>q a b p h
def xg{a b:Bool}{P:Prop}(h:(a||b)=P')(q:a=P'->P)(r:b=P'->P):P:=(Bool.or_eq_true_iff.mp h).elim q r
def ck:IE->CK->In->Bool
 |.v i,c,j=>dE j λt x=>Io x λn=>c.xc i n
 |.int n,c,j=>dE j λt x=>dK x λm=>dq m (.int n) P'
 |.bl n,c,j=>dE j λt x=>dK x λm=>dq m (.bool n) P'
 |.bQ,c,j=>dE j λt x=>VO x P'
 |.pj n v,c,j=>dE j λt x=>dG c (c.S.gn n) x (decide (c.S.gv n=N' v))
 |.fn g,c,j=>dE j λt x=>dG c (c.S.nm g) x (c.S.glob g)
 |.bin o a b,c,j=>dE j λt x=>RI x λh X s=>dq X (B1 o) (ck a c (.e Q' h)&&ck b c (.e Q' s))
 |.neg a,c,j=>dE j λt x=>VP .USub x λh=>ck a c (.e Q' h)
 |.inv a,c,j=>dE j λt x=>VP .Invert x λh=>ck a c (.e Q' h)
 |.cmp o a b,c,j=>dE j λt x=>OQ (yN o) x λh s=>ck a c (.e Q' h)&&ck b c (.e Q' s)
 |.Jf a,c,j=>dE j λt x=>OQ .Is x λh s=>VO s (ck a c (.e Q' h))
 |.uX a,c,j=>dE j λt x=>OQ .IsNot x λh s=>VO s (ck a c (.e Q' h))
 |.Im a b,c,j=>dE j λt x=>OQ .In x λh s=>pX s&&(ck a c (.e Q' h)&&ck b c (.e Q' s))
 |.inD a d,c,j=>dE j λt x=>OQ .In x λh s=>dG c (c.S.dn d) s (c.S.VL d&&ck a c (.e Q' h))
 |.oI a d,c,j=>dE j λt x=>OQ .NotIn x λh s=>dG c (c.S.dn d) s (c.S.VL d&&ck a c (.e Q' h))
 |.chain a b d,c,j=>dE j λt x=>NQ x λh o bs=>d2 o λY Z=>dq Y .LtE (dq Z .LtE (d2 bs λs G=>ck a c (.e Q' h)&&(ck b c (.e Q' s)&&ck d c (.e Q' G))))
 |.not a,c,j=>dE j λt x=>VP .Not x λh=>ck a c (.e t h)
 |.and a b,c,j=>dE j λt x=>dO2 .And x λh s=>ck a c (.e t h)&&ck b c (.e t s)
 |.or a b,c,j=>dE j λt x=>dO2 .Or x λh s=>ck a c (.e t h)&&ck b c (.e t s)
 |.qG q a b,c,j=>dE j λt x=>dq t Q' (RL x λP h s=>ck q c (.e P' P)&&(ck a c (.e Q' h)&&ck b c (.e Q' s)))
 |.Jg a g,c,j=>dE j λt x=>LS x λh n _=>dq n (SY g) (isName h&&ck a c (.e Q' h))
 |.Mz a g,c,j=>dE j λt x=>LS x λh n _=>dq n (OD g) (Hq Q' g&&(isName h&&ck a c (.e Q' h)))
 |.rN a,c,j=>dE j λt x=>LS x λh n _=>dq n "cells" (isName h&&ck a c (.e Q' h))
 |.OC a,c,j=>dE j λt x=>LS x λh n _=>dq n "flags" (isName h&&ck a c (.e Q' h))
 |.ix a b,c,j=>dE j λt x=>xf x λh s=>ic s&&(ck a c (.e Q' h)&&ck b c (.e Q' s))
 |.LP a b,c,j=>dE j λt x=>xf x λh u=>VM u λJ L M=>NW J λs=>NX L (NX M (ck a c (.e Q' h)&&ck b c (.e Q' s)))
 |.Bz a b,c,j=>dE j λt x=>xf x λh u=>VM u λJ L M=>NW L λs=>NX J (NX M (ck a c (.e Q' h)&&ck b c (.e Q' s)))
 |.sl a b d,c,j=>dE j λt x=>xf x λh u=>VM u λJ L M=>NW J λs=>NW L λG=>NX M (ck a c (.e Q' h)&&(ck b c (.e Q' s)&&ck d c (.e Q' G)))
 |.call g as,c,j=>dE j λt x=>qU x λQ xs _=>dG c (c.S.nm g) Q (dc xs λh u=>c.S.glob g&&((h::u).all notStar&&ck as c (.a (h::u))))
 |.eP g o as,c,j=>dE j λt x=>OP (c.S.nm g) x λO xs=>c.S.eP Q' g&&(isName O&&(ck o c (.e Q' O)&&(d0 xs (decide (B3 as=0))||dc xs λh u=>(h::u).all notStar&&(decide ((h::u).length<30)&&ck as c (.a (h::u))))))
 |.Jh g o as,c,j=>dE j λt x=>OP (c.S.nm g) x λO xs=>c.S.eP P' g&&(isName O&&(ck o c (.e Q' O)&&(d0 xs (decide (B3 as=0))||dc xs λh u=>(h::u).all notStar&&(decide ((h::u).length<30)&&ck as c (.a (h::u))))))
 |.sF i as,c,j=>dE j λt x=>qU x λQ xs _=>Io Q λn=>dc xs λh u=>c.xc i n&&((h::u).all notStar&&ck as c (.a (h::u)))
 |.len a,c,j=>dE j λt x=>NY c "len" x λh=>ck a c (.e Q' h)
 |.abs a,c,j=>dE j λt x=>NY c "abs" x λh=>ck a c (.e Q' h)
 |.Hm a,c,j=>dE j λt x=>NY c "min" x λh=>ck a c (.e Q' h)
 |.sum a,c,j=>dE j λt x=>NY c "sum" x λh=>ck a c (.e Q' h)
 |.min2 a b,c,j=>dE j λt x=>S4 c "min" x λh s=>ck a c (.e Q' h)&&ck b c (.e Q' s)
 |.max2 a b,c,j=>dE j λt x=>S4 c "max" x λh s=>ck a c (.e Q' h)&&ck b c (.e Q' s)
 |.pS a,c,j=>dE j λt x=>OP "bit_length" x λh xs=>d0 xs (Ea h&&ck a c (.e Q' h))
 |.index a b,c,j=>dE j λt x=>OP "index" x λh xs=>d1 xs λs=>isName h&&(notStar s&&(ck a c (.e Q' h)&&ck b c (.e Q' s)))
 |.iZ d a,c,j=>dE j λt x=>OP "get" x λy xs=>d1 xs λh=>dG c (c.S.dn d) y (c.S.VL d&&(c.S.BY d&&(notStar h&&ck a c (.e Q' h))))
 |.DE d a,c,j=>dE j λt x=>xf x λy h=>dG c (c.S.dn d) y (c.S.VL d&&(ic h&&ck a c (.e Q' h)))
 |.Hn d a,c,j=>dE j λt x=>xf x λy h=>dG c (c.S.dn d) y (c.S.isT d&&(ic h&&ck a c (.e Q' h)))
 |.list u,c,j=>dE j λt x=>RM x λxs=>ck u c (.a xs)
 |.tup u,c,j=>dE j λt x=>HY x λxs=>ck u c (.a xs)
 |.lc tg it elt,c,j=>dE j λt x=>dLC x λU E B H scope=>d0 H (NO c (NM it) tg (JX it) E scope&&(pX B&&(ck it c (.i E B)&&ck elt (c.ll scope) (.e Q' U))))
 |.pq tg it q elt,c,j=>dE j λt x=>dLC x λU E B H scope=>d1 H λP=>NO c (NM it) tg (JX it) E scope&&(pX B&&(ck it c (.i E B)&&(ck q (c.ll scope) (.e P' P)&&ck elt (c.ll scope) (.e Q' U))))
 |.lam g caps,c,j=>Q'
 |.nil,c,j=>dA j λxs=>d0 xs P'
 |.cons a r,c,j=>dA j λxs=>dc xs λh T=>notStar h&&(ck a c (.e Q' h)&&ck r c (.a T))
 |.seq a,c,j=>dI j λt x=>ck a c (.e Q' x)
 |.mx a,c,j=>dI j λt x=>NY c "range" x λh=>ck a c (.e Q' h)
 |.BA a b,c,j=>dI j λt x=>S4 c "range" x λh s=>ck a c (.e Q' h)&&ck b c (.e Q' s)
 |.rg a b d,c,j=>dI j λt x=>dB3 c "range" x λh s G=>ck a c (.e Q' h)&&(ck b c (.e Q' s)&&ck d c (.e Q' G))
 |.enum a,c,j=>dI j λt x=>HY t λ_=>NY c "enumerate" x λh=>ck a c (.e Q' h)
 |.zip2 a b,c,j=>dI j λt x=>HY t λ_=>S4 c "zip" x λh s=>ck a c (.e Q' h)&&ck b c (.e Q' s)
 |.xI a b d,c,j=>dI j λt x=>HY t λ_=>dB3 c "zip" x λh s G=>ck a c (.e Q' h)&&(ck b c (.e Q' s)&&ck d c (.e Q' G))
 |.rev a,c,j=>dI j λt x=>NY c "reversed" x λh=>ck a c (.e Q' h)
section
variable {G:Gx} {T:kT} {cl:By} {k:Nat} {X:Cx} {c:CK}
structure pd(c:CK)(G:Gx)(T:kT)(cl:By)(k:Nat)(X:Cx):Prop where
 N:X.N=c.N
 sc:X.env.1=c.sc
 fn:X.fn=c.fn
 fz:X.fz=c.fz
 xe:X.xe=λ_ _=>False
 mo:Mo G T cl c.S.gv k X
 bi:Bi X
 di:∀d,c.S.VL d=P'->wF G T X d
 tu:∀d,c.S.isT d=P'->M3 G T X d
 nm:G.nm=c.S.nm
 glob:G.glob=c.S.glob
 eP:G.eP=c.S.eP
 gn:G.gn=c.S.gn
 dn:G.dn=c.S.dn
 BY:G.BY=c.S.BY
def pd.ll(f:pd c G T cl k X)(s)(H)(scope)(C)(o)(j):pd (c.ll scope) G T cl k (X.ll s H scope (We scope o C X.env) j) where
 N:=f.N
 sc:=by show relabel scope X.env=xb scope c.sc;unfold relabel xb F';rw[f.sc]
 fn:=rfl
 fz:=f.fz
 xe:=rfl
 mo:=f.mo.ll s H scope _ j
 bi:=f.bi.ll s H scope _ j
 di:=λd h=>#[(f.di d h).nm,(f.di d h).db,(f.di d h).hd,(f.di d h).vs]
 tu:=λd h=>#[(f.tu d h).nm,(f.tu d h).db,(f.tu d h).vs]
 nm:=f.nm
 glob:=f.glob
 eP:=f.eP
 gn:=f.gn
 dn:=f.dn
 BY:=f.BY
def pd.xc(f:pd c G T cl k X)(h:c.xc i x=P'):X.N[i]?=N' x/\Bd X.env.1 x/\(x=="__debug__")=Q'/\(x=="__classdict__")=false:=by unfold CK.xc at h;simp![aD,qi,bg,lj]at h;obtain⟨⟨⟨j,o⟩,q⟩,r⟩:=h;apply#[by rw[f.N];show j,?_,q,r];unfold Bd;rw[f.sc];show o
def pd.CC(f:pd c G T cl k X)(h:c.CC i x=P'):X.N[i]?=N' x/\L2.Loc X.env.1 x/\((X.fn x=P'/\X.fz x=Q')\/X.env.1.2.lookup x=N' .local):=by unfold CK.CC at h;simp![aD,qi,bg,lj]at h;obtain⟨⟨j,o⟩,q⟩:=h;apply#[by rw[f.N];show j,?_,?_];unfold L2.Loc;rw[f.sc];show o;rw[f.sc,f.fn,f.fz];show q
def pd.gl(f:pd c G T cl k X)(h:c.gl x=P'):Gl X x:=by unfold CK.gl at h;simp![bg]at h;unfold Gl F';rw[f.sc];show h
theorem Gg(f:pd c G T cl k X):∀{tg:d_} {j:k_},Eb c tg j=P'->L7 X j (JW tg)/\(Wq j X.env).length=tg.length/\List.findIdx? (λx=>x.1) (Wq j X.env)=O'
 |[],[],_=>#[Hz,S',S']
 |[],e::j,h=>by simp[Eb]at h
 |i::is,[],h=>by simp[Eb]at h
 |i::is,e::j,h=>by
  cases e with
  |Name x p=>
   rw[Eb,aD]at h;obtain⟨o,q⟩:=h;obtain⟨r,s,u⟩:=f.CC o;obtain⟨y,B,E⟩:=Gg f q;apply#[DP f.mo.nd r s u y S',?_,?_];show(Wq j X.env).length+1=is.length+1;rw[B];show List.findIdx? (λx:Bool×(Value->Sem Unit)=>x.1) ((Q',XI (.Name x p) X.env)::Wq j X.env)=O';rw[XB];simp![qZ,kr,E,Option.map_none]
  |_=>simp[Eb]at h
universe b
def K2{q:Bool}(f:pd c G T cl k X)(h:S3 c q tg j=P'):PG X j (gT X.K q tg):=by
 cases j with
 |Name x p=>
  unfold S3 at h;simp![aD]at h;obtain⟨r,o⟩:=h;split at o;rename_i i;obtain⟨s,u,y⟩:=f.CC o;cases q with
  |true=>cases r
  |false=>show QF f.mo.nd s u y
  cases o
 |Tuple J L p=>
  rw[S3,aD]at h;obtain⟨r,o⟩:=h;obtain⟨B,E,H⟩:=Gg f o;cases r;show UM f.mo.calm B E H
 |_=>simp[S3]at h
universe a
def K3(h:KX N sc scope own=P'):qL N sc scope own:=by unfold KX at h;simp![aD,bg,cC,qi,lj,tG]at h;obtain⟨⟨⟨⟨o,r⟩,s⟩,u⟩,B⟩:=h;apply#[o,r,s,λy j E=>(u y j).resolve_left λz=>z E,λy j H=>(B y j).resolve_left λz=> ?_];rcases H with q|q<;>simp[q]at z
def k0(h:pX iter=P'):∀x,Wi iter env x=pure x:=by intro x;cases iter<;>first|rfl|cases h
def CF(h:Ea j=P'):WN j x env w=w:=by unfold WN;split;simp[Ea]at h;rfl
def CG(h:plainT x=P'):∀j,PySem.isTrue x env j=(do let v<-j;Xn x.pos;W5 [v] (truthy v)):=by
 intro j;cases x with
 |UnaryOp o e p=>cases o<;>first|rfl|cases h
 |BoolOp=>cases h
 |IfExp=>cases h
 |Compare=>cases h
 |_=>rfl
variable (G T cl) in
def OR(X:Cx)(h:IE):In->Prop
 |.e Q' x=>PE X x (tI G T cl h)
 |.e P' x=>PT X x (tT G T cl h)
 |.a xs=>PA X xs (DL G T cl h)
 |.i tg it=>PI X tg it (tW G T cl (NM h) h)
def gL(j:plainT x=P')(h:PE X x (tI G T cl o)):OR G T cl X o (.e t x):=by
 cases t with
 |false=>show h
 |true=>show Uv h (CG j)
def Eg(h:PE X x (tI G T cl j))(h':PT X x (tT G T cl j)):OR G T cl X j (.e t x):=by
 cases t with
 |false=>show h
 |true=>show h'
def vA{y:Bool}(f:pd c G T cl k X)(h:NO c y tg n j scope=P'):∃o:List (Str×Nat),qL X.N X.env.1 scope o/\(∀s H C r u,PG (X.ll s H scope (We scope r C X.env) u) j (gT X.K y tg))/\(∀i∈tg,i∈o.map (·.2))/\(∀i∈o.map (·.2),i∈tg)/\tg.length=n:=by unfold NO at h;simp![aD,bg]at h;obtain⟨⟨⟨E,J⟩,M⟩,L⟩:=h;have B:((NN j).zip tg).map (·.2)=tg:=u_ 'l';apply#[(NN j).zip tg,?_,λs H C r u=>K2 (f.ll s H scope C r u) J,λi q=>by rw[B];show q,λi q=>by rw[B]at q;show q,L];rw[f.N,f.sc];show K3 E
def acx(h:PE X x (tI G T cl o)->PE X r (tI G T cl j))(h':PT X x (tT G T cl o)->PT X r (tT G T cl j))(q:OR G T cl X o (.e t x)):OR G T cl X j (.e t r):=by
 cases t with
 |false=>show h q
 |true=>show h' q
def OS(h:PE X x (tI G T cl j)->PE X y (tI G T cl o)->PE X u (tI G T cl s))(h':PT X x (tT G T cl j)->PT X y (tT G T cl o)->PT X u (tT G T cl s))(q:OR G T cl X j (.e t x))(r:OR G T cl X o (.e t y)):OR G T cl X s (.e t u):=by
 cases t with
 |false=>show h q r
 |true=>show h' q r
def cb(ir):∀{c:CK} {X:Cx} {j:In},pd c G T cl k X->ck ir c j=P'->OR G T cl X ir j:=by
 induction ir with
 |v i=>intro c X j f h;apply bV j h λt x h=>nh x h λn p h=> ?_;obtain⟨h1,L,E,U⟩:=f.xc h;show gL S' (s_v h1 L E U)
 |int n=>intro c X j f h;apply bV j h λt x h=>KZ x h λm i p h=> ?_;show iF m h λh=>gL S' Ub
 |bl n=>intro c X j f h;apply bV j h λt x h=>KZ x h λm i p h=> ?_;show iF m h λh=>gL S' aa2
 |bQ=>intro c X j f h;apply bV j h λt x h=>Ee x h λi p h=> ?_;show gL S' Uc
 |pj n v=>intro c X j f h;apply bV j h λt x h=>nU x h λp E L=> ?_;rw[<-f.gn]at E⊢;show gL S' (Ql f.mo (jg L) (f.gl E))
 |fn g=>intro c X j f h;apply bV j h λt x h=>nU x h λp E L=> ?_;rw[<-f.nm]at E⊢;show gL S' (aa3 f.mo (f.glob▸L) (f.gl E))
 |bin o a b u B=>intro c X j f h;apply bV j h λt x h=>NP x h λJ op M p h=> ?_;show iF op h λh=>gL S' (Ud (u f (a1 h)) (B f (a2 h)))
 |neg a u=>intro c X j f h;apply bV j h λt x h=>Ef x h λJ p h=> ?_;show gL S' (Uh (u f h))
 |inv a u=>intro c X j f h;apply bV j h λt x h=>Ef x h λJ p h=> ?_;show gL S' (Ui (u f h))
 |cmp o a b u B=>intro c X j f h;apply bV j h λt x h=>uw x h λJ M p h=> ?_;show Eg (Uj f.mo (u f (a1 h)) (B f (a2 h))) (Uk f.mo (u f (a1 h)) (B f (a2 h)))
 |Jf a u=>intro c X j f h;apply bV j h λt x h=>uw x h λJ M p h=> ?_;show Ee M h λi O h=>Eg (Ul (u f h)) (Um (u f h))
 |uX a u=>intro c X j f h;apply bV j h λt x h=>uw x h λJ M p h=> ?_;show Ee M h λi O h=>Eg (Qo (u f h)) (Qp (u f h))
 |Im a b u B=>intro c X j f h;apply bV j h λt x h=>uw x h λJ M p h=> ?_;show Eg (Uo f.mo (a1 h) (u f (a1 (a2 h))) (B f (a2 (a2 h)))) (Up f.mo (a1 h) (u f (a1 (a2 h))) (B f (a2 (a2 h))))
 |inD a d u=>intro c X j f h;apply bV j h λt x h=>uw x h λJ M p h=> ?_;apply nU M h ?_;intro O E h;rw[<-f.dn]at E⊢;show Eg (UG (f.di d (a1 h)) (f.gl E) (u f (a2 h))) (UH (f.di d (a1 h)) (f.gl E) (u f (a2 h)))
 |oI a d u=>intro c X j f h;apply bV j h λt x h=>uw x h λJ M p h=> ?_;apply nU M h ?_;intro O E h;rw[<-f.dn]at E⊢;show Eg (JP (f.di d (a1 h)) (f.gl E) (u f (a2 h))) (JQ (f.di d (a1 h)) (f.gl E) (u f (a2 h)))
 |chain a b d u B Q=>intro c X j f h;apply bV j h λt x h=>Gf x h λJ o bs p h=> ?_;apply CD o h λo1 o2 h=>iF o1 h λh=> ?_;apply iF o2 h λh=>CD bs h λM ed h=> ?_;show Eg (MV f.mo (u f (a1 h)) (B f (a1 (a2 h))) (Q f (a2 (a2 h)))) (MW f.mo (u f (a1 h)) (B f (a1 (a2 h))) (Q f (a2 (a2 h))))
 |not a u=>intro c X j f h;apply bV j h λt x h=>Ef x h λJ p h=> ?_;show acx (λq=>Uq q) (λq=>Ur q) (u f h)
 |and a b u B=>intro c X j f h;apply bV j h λt x h=>K1 x h λJ M p h=> ?_;show OS (λq r=>Us q r) (λq r=>Ut q r) (u f (a1 h)) (B f (a2 h))
 |or a b u B=>intro c X j f h;apply bV j h λt x h=>K1 x h λJ M p h=> ?_;show OS (λq r=>aa5 q r) (λq r=>aa6 q r) (u f (a1 h)) (B f (a2 h))
 |qG q a b R u B=>intro c X j f h;apply bV j h λt x h=>iF t h λh=> ?_;show NR x h λeq J M p h=>(Uu (R f (a1 h)) (u f (a1 (a2 h))) (B f (a2 (a2 h))):PE _ _ _)
 |Jg a g u=>intro c X j f h;apply bV j h λt x h=>qh x h λJ n p h=> ?_;show iF n h λh=>gL S' (Uw f.mo (a1 h) (u f (a2 h)))
 |Mz a g u=>intro c X j f h;apply bV j h λt x h=>qh x h λJ n p h=> ?_;show iF n h λh=>gL S' (FI (b:=Q') f.mo (a1 h) (a1 (a2 h)) (u f (a2 (a2 h))))
 |rN a u=>intro c X j f h;apply bV j h λt x h=>qh x h λJ n p h=> ?_;show iF n h λh=>gL S' (FI (b:=P') (j:=.rN) f.mo S' (a1 h) (u f (a2 h)))
 |OC a u=>intro c X j f h;apply bV j h λt x h=>qh x h λJ n p h=> ?_;show iF n h λh=>gL S' (Ux f.mo (a1 h) (u f (a2 h)))
 |ix a b u B=>intro c X j f h;apply bV j h λt x h=>lK x h λJ M p h=> ?_;show gL S' (aa7 (a1 h) (u f (a1 (a2 h))) (B f (a2 (a2 h))))
 |LP a b u B=>intro c X j f h;apply bV j h λt x h=>lK x h λJ Z p h=> ?_;apply Ec Z h λA K N O h=>rF A h λM h=> ?_;apply rG K h λh=>rG N h λh=> ?_;show gL S' (Uy (u f (a1 h)) (B f (a2 h)))
 |Bz a b u B=>intro c X j f h;apply bV j h λt x h=>lK x h λJ Z p h=> ?_;apply Ec Z h λA K N O h=>rF K h λM h=> ?_;apply rG A h λh=>rG N h λh=> ?_;show gL S' (Uz (u f (a1 h)) (B f (a2 h)))
 |sl a b d u B Q=>intro c X j f h;apply bV j h λt x h=>lK x h λJ Z p h=> ?_;apply Ec Z h λA K N O h=>rF A h λM h=> ?_;apply rF K h λed h=>rG N h λh=> ?_;show gL S' (aa8 (u f (a1 h)) (B f (a1 (a2 h))) (Q f (a2 (a2 h))))
 |call g as P=>intro c X j f h;apply bV j h λt x h=>kZ x h λfe xs p h=> ?_;apply nU fe h λO E h=>mZ xs h λJ Z h=> ?_;rw[<-f.nm]at E⊢;show gL S' (s_call f.mo (f.glob▸a1 h) (f.gl E) (a1 (a2 h)) (P f (a2 (a2 h))))
 |eP g o as F P=>intro c X j f h;apply bV j h λt x h=>uv x h λeo xs ap p W h=> ?_;rw[<-f.nm];apply xg (a2 (a2 (a2 h))) (λh'=>lB xs h' λh'=> ?_) (λh'=>mZ xs h' λJ Z h'=> ?_);show gL S' (FL (b:=Q') f.mo (f.eP▸a1 h) (a1 (a2 h)) W (jg h') (F f (a1 (a2 (a2 h)))));show gL S' (JM (b:=Q') f.mo (f.eP▸a1 h) (a1 (a2 h)) (a1 h') (jg (a1 (a2 h'))) W (F f (a1 (a2 (a2 h)))) (P f (a2 (a2 h'))))
 |Jh g o as F P=>intro c X j f h;apply bV j h λt x h=>uv x h λeo xs ap p W h=> ?_;rw[<-f.nm];apply xg (a2 (a2 (a2 h))) (λh'=>lB xs h' λh'=> ?_) (λh'=>mZ xs h' λJ Z h'=> ?_);show gL S' (FL (b:=P') f.mo (f.eP▸a1 h) (a1 (a2 h)) W (jg h') (F f (a1 (a2 (a2 h)))));show gL S' (JM (b:=P') f.mo (f.eP▸a1 h) (a1 (a2 h)) (a1 h') (jg (a1 (a2 h'))) W (F f (a1 (a2 (a2 h)))) (P f (a2 (a2 h'))))
 |sF i as P=>intro c X j f h;apply bV j h λt x h=>kZ x h λfe xs p h=> ?_;apply nh fe h λn O h=>mZ xs h λJ Z h=> ?_;obtain⟨e,l,w,z⟩:=f.xc (a1 h);show gL S' (MZ f.mo e l w z (a1 (a2 h)) (P f (a2 (a2 h))))
 |len a u=>intro c X j f h;apply bV j h λt x h=>rH x h λJ p O L E h=> ?_;show gL S' (UB f.bi (f.gl L) E (u f h))
 |abs a u=>intro c X j f h;apply bV j h λt x h=>rH x h λJ p O L E h=> ?_;show gL S' (UC f.bi (f.gl L) E (u f h))
 |Hm a u=>intro c X j f h;apply bV j h λt x h=>rH x h λJ p O L E h=> ?_;show gL S' (Qu f.mo f.bi (f.gl L) E (u f h))
 |sum a u=>intro c X j f h;apply bV j h λt x h=>rH x h λJ p O L E h=> ?_;show gL S' (UD f.mo f.bi (f.gl L) E (u f h))
 |min2 a b u B=>intro c X j f h;apply bV j h λt x h=>AQ x h λJ M p O L E U h=> ?_;show gL S' (Qs f.mo f.bi (f.gl L) E U (u f (a1 h)) (B f (a2 h)))
 |max2 a b u B=>intro c X j f h;apply bV j h λt x h=>AQ x h λJ M p O L E U h=> ?_;show gL S' (Qt f.mo f.bi (f.gl L) E U (u f (a1 h)) (B f (a2 h)))
 |pS a u=>intro c X j f h;apply bV j h λt x h=>uv x h λJ xs ap p E h=> ?_;show lB xs h λh=>gL S' (Qx (CF (a1 h)) E (u f (a2 h)))
 |index a b u B=>intro c X j f h;apply bV j h λt x h=>uv x h λJ xs ap p U h=> ?_;show pb xs h λM h=>gL S' (M1 (a1 h) (a1 (a2 h)) U (u f (a1 (a2 (a2 h)))) (B f (a2 (a2 (a2 h)))))
 |iZ d a u=>intro c X j f h;apply bV j h λt x h=>uv x h λy xs ap p h7 h=> ?_;apply pb xs h λJ h=>nU y h λO S h=> ?_;rw[<-f.dn]at S⊢;show gL S' (Qy (f.di d (a1 h)) (f.BY▸a1 (a2 h)) (f.gl S) (a1 (a2 (a2 h))) h7 (u f (a2 (a2 (a2 h)))))
 |DE d a u=>intro c X j f h;apply bV j h λt x h=>lK x h λy J p h=> ?_;apply nU y h ?_;intro O E h;rw[<-f.dn]at E⊢;show gL S' (UI f.mo (f.di d (a1 h)) (f.gl E) (a1 (a2 h)) (u f (a2 (a2 h))))
 |Hn d a u=>intro c X j f h;apply bV j h λt x h=>lK x h λy J p h=> ?_;apply nU y h ?_;intro O E h;rw[<-f.dn]at E⊢;show gL S' (UJ (f.tu d (a1 h)) (f.gl E) (a1 (a2 h)) (u f (a2 (a2 h))))
 |list Z D=>intro c X j f h;apply bV j h λt x h=>NS x h λxs p h=> ?_;show gL S' (Qr (D f h))
 |tup Z D=>intro c X j f h;apply bV j h λt x h=>vz x h λxs i p h=> ?_;show gL S' (UA (D f h))
 |lc tg it zb V Y=>intro c X j f h;apply bV j h λt x h=>AR x h λex zc za I scope p h=> ?_;apply lB I h ?_;intro h;obtain⟨zd,e,l,w,z,q5⟩:=vA f (a1 h);show gL S' (aa9 f.mo (V f (a1 (a2 (a2 h)))) e l (λs H C cc fp=>Y (f.ll s H _ C cc fp) (a2 (a2 (a2 h)))) w z q5 (k0 (a1 (a2 h))))
 |pq tg it q zb V R Y=>intro c X j f h;apply bV j h λt x h=>AR x h λex zc za I scope p h=> ?_;apply pb I h ?_;intro eq h;obtain⟨zd,e,l,w,z,q5⟩:=vA f (a1 h);show gL S' (QH f.mo (V f (a1 (a2 (a2 h)))) e l (λs H C cc fp=>R (f.ll s H _ C cc fp) (a1 (a2 (a2 (a2 h))))) (λs H C cc fp=>Y (f.ll s H _ C cc fp) (a2 (a2 (a2 (a2 h))))) w z q5 (k0 (a1 (a2 h))))
 |lam g zf=>intro c X j f h;cases(show Q'=P' from h)
 |nil=>intro c X j f h;apply OO j h λxs h=>lB xs h λh=> ?_;show(Ue:PA _ _ _)
 |cons a r u ze=>intro c X j f h;apply OO j h λxs h=>mZ xs h λJ er h=> ?_;show(Qn (a1 h) (u f (a1 (a2 h))) (ze f (a2 (a2 h))):PA _ _ _)
 |seq a u=>intro c X j f h;show uO j h λt x h=>(UK f.mo (u f h):PI _ _ _ _)
 |mx a u=>intro c X j f h;apply uO j h λt x h=>rH x h λJ p O L E h=> ?_;show(Qz f.bi (f.gl L) E (u f h):PI _ _ _ _)
 |BA a b u B=>intro c X j f h;apply uO j h λt x h=>AQ x h λJ M p O L E U h=> ?_;show(QA f.bi (f.gl L) E U (u f (a1 h)) (B f (a2 h)):PI _ _ _ _)
 |rg a b d u B Q=>intro c X j f h;apply uO j h λt x h=>K0 x h λJ M ed p O L E U S h=> ?_;show(QC f.bi (f.gl L) E U S (u f (a1 h)) (B f (a1 (a2 h))) (Q f (a2 (a2 h))):PI _ _ _ _)
 |enum a u=>intro c X j f h;apply uO j h λt x h=>vz t h λZ n p0 h=> ?_;show rH x h λJ p O L E h=>(QD f.bi (f.gl L) E (u f h):PI _ _ _ _)
 |zip2 a b u B=>intro c X j f h;apply uO j h λt x h=>vz t h λZ n p0 h=> ?_;show AQ x h λJ M p O L E U h=>(QE f.bi (f.gl L) E U (u f (a1 h)) (B f (a2 h)):PI _ _ _ _)
 |xI a b d u B Q=>intro c X j f h;apply uO j h λt x h=>vz t h λZ n p0 h=> ?_;show K0 x h λJ M ed p O L E U S h=>(QN f.bi (f.gl L) E U S (u f (a1 h)) (B f (a1 (a2 h))) (Q f (a2 (a2 h))):PI _ _ _ _)
 |rev a u=>intro c X j f h;apply uO j h λt x h=>rH x h λJ p O L E h=> ?_;show(UL f.bi (f.gl L) E (u f h):PI _ _ _ _)
end
section
instance bu:TyM->TyM
 |.Expr (.Constant (.str _) _ _) _::r=>bu r
 |l=>l
instance jY:Expr->Bool
 |.ListComp _ _ _ _=>Q'
 |.SetComp _ _ _ _=>Q'
 |.DictComp _ _ _ _ _=>Q'
 |_=>P'
instance RP(c:CK)(x:Str)(p:Pos):Expr->Bool
 |.ListComp _ _ scope pos=>(if c.sc.kind.isAnnotationScope then ScopeKind.function else c.sc.kind)==.function&&c.sc.names.lookup x==N' .local&&p.line==pos.line&& !(scope.2.any λ(n,k)=>n==x&&(k==.local||k==.cell))
 |_=>Q'
instance K4:Expr->Bool
 |.ListComp _ _ _ _=>P'
 |_=>Q'
structure Kt where
 asg:k_->Expr->Pos->Bool:=λ_ _ _=>Q'
 aug:Expr->W9->Expr->Pos->Bool:=λ_ _ _ _=>Q'
 ex:Expr->Pos->Bool:=λ_ _=>Q'
 if_:Expr->TyM->TyM->Pos->Bool:=λ_ _ _ _=>Q'
 iH:Expr->Expr->TyM->TyM->Pos->Bool:=λ_ _ _ _ _=>Q'
 wh:Expr->TyM->TyM->Pos->Bool:=λ_ _ _ _=>Q'
 rt:Option Expr->Pos->Bool:=λ_ _=>Q'
 fn:Str->Arguments->TyM->k_->Option Expr->List TypeParam->Scope->Option Scope->Str->Pos->Bool:=λ_ _ _ _ _ _ _ _ _ _=>Q'
@[irreducible] noncomputable def dY(x:Stmt)(K:Kt):Bool:=match x with
 |.Assign a b p=>K.asg a b p
 |.AugAssign a o b p=>K.aug a o b p
 |.Expr a p=>K.ex a p
 |.If a b c p=>K.if_ a b c p
 |.For a b c d p=>K.iH a b c d p
 |.While a b c p=>K.wh a b c p
 |.Return a p=>K.rt a p
 |.FunctionDef a b c d e f g u i p=>K.fn a b c d e f g u i p
 |_=>Q'
def uP(x){K:Kt}{P:Stmt->Prop}(h:dY x K=P')(j:∀a b p,K.asg a b p=P'->P (.Assign a b p))(q:∀a o b p,K.aug a o b p=P'->P (.AugAssign a o b p))(r:∀a p,K.ex a p=P'->P (.Expr a p))(s:∀a b c p,K.if_ a b c p=P'->P (.If a b c p))(y:∀a b c d p,K.iH a b c d p=P'->P (.For a b c d p))(B:∀a b c p,K.wh a b c p=P'->P (.While a b c p))(E:∀a p,K.rt a p=P'->P (.Return a p))(G:∀a b c d e f g u i p,K.fn a b c d e f g u i p=P'->P (.FunctionDef a b c d e f g u i p)):P x:=by
 unfold dY at h;cases x with
 |Assign a b p=>show j a b p h
 |AugAssign a o b p=>show q a o b p h
 |Expr a p=>show r a p h
 |If a b c p=>show s a b c p h
 |For a b c d p=>show y a b c d p h
 |While a b c p=>show B a b c p h
 |Return a p=>show E a p h
 |FunctionDef a b c d e f g u i p=>show G a b c d e f g u i p h
 |_=>show ff h
@[irreducible] def RQ(x:Stmt)(k:k_->Expr->Bool):Bool:=dY x {asg:=λa b _=>k a b}
@[elab_as_elim] def NZ(x){k:k_->Expr->Bool}{P:Stmt->Prop}(h:RQ x k=P')(q:∀a b p,k a b=P'->P (.Assign a b p)):P x:=by unfold RQ at h;apply uP x h<;>first|show q|(intros;show ff (by assumption))
@[irreducible] def RR(x:Stmt)(k:Expr->W9->Expr->Bool):Bool:=dY x {aug:=λa o b _=>k a o b}
@[elab_as_elim] def N0(x){k:Expr->W9->Expr->Bool}{P:Stmt->Prop}(h:RR x k=P')(q:∀a o b p,k a o b=P'->P (.AugAssign a o b p)):P x:=by unfold RR at h;apply uP x h<;>first|show q|(intros;show ff (by assumption))
@[irreducible] def dEx(x:Stmt)(k:Expr->Bool):Bool:=dY x {ex:=λa _=>k a}
@[elab_as_elim] def K5(x){k:Expr->Bool}{P:Stmt->Prop}(h:dEx x k=P')(q:∀a p,k a=P'->P (.Expr a p)):P x:=by unfold dEx at h;apply uP x h<;>first|show q|(intros;show ff (by assumption))
@[irreducible] def dIf(x:Stmt)(k:Expr->TyM->TyM->Bool):Bool:=dY x {if_:=λa b c _=>k a b c}
@[elab_as_elim] def RS(x){k:Expr->TyM->TyM->Bool}{P:Stmt->Prop}(h:dIf x k=P')(q:∀a b c p,k a b c=P'->P (.If a b c p)):P x:=by unfold dIf at h;apply uP x h<;>first|show q|(intros;show ff (by assumption))
@[irreducible] def RT(x:Stmt)(k:Expr->Expr->TyM->TyM->Bool):Bool:=dY x {iH:=λa b c d _=>k a b c d}
@[elab_as_elim] def N1(x){k:Expr->Expr->TyM->TyM->Bool}{P:Stmt->Prop}(h:RT x k=P')(q:∀a b c d p,k a b c d=P'->P (.For a b c d p)):P x:=by unfold RT at h;apply uP x h<;>first|show q|(intros;show ff (by assumption))
@[irreducible] def dWh(x:Stmt)(k:Expr->TyM->TyM->Bool):Bool:=dY x {wh:=λa b c _=>k a b c}
@[elab_as_elim] def RU(x){k:Expr->TyM->TyM->Bool}{P:Stmt->Prop}(h:dWh x k=P')(q:∀a b c p,k a b c=P'->P (.While a b c p)):P x:=by unfold dWh at h;apply uP x h<;>first|show q|(intros;show ff (by assumption))
@[irreducible] def VQ(x:Stmt)(k:Option Expr->Bool):Bool:=dY x {rt:=λa _=>k a}
@[elab_as_elim] def Eh(x){k:Option Expr->Bool}{P:Stmt->Prop}(h:VQ x k=P')(q:∀a p,k a=P'->P (.Return a p)):P x:=by unfold VQ at h;apply uP x h<;>first|show q|(intros;show ff (by assumption))
@[irreducible] def RV(x:Stmt)(k:Str->Arguments->TyM->k_->Option Expr->List TypeParam->Scope->Option Scope->Str->Bool):Bool:=dY x {fn:=λa b c d e f g u i _=>k a b c d e f g u i}
@[elab_as_elim] def N2(x){k:Str->Arguments->TyM->k_->Option Expr->List TypeParam->Scope->Option Scope->Str->Bool}{P:Stmt->Prop}(h:RV x k=P')(q:∀a b c d e f g u i p,k a b c d e f g u i=P'->P (.FunctionDef a b c d e f g u i p)):P x:=by unfold RV at h;apply uP x h<;>first|show q|(intros;show ff (by assumption))
structure Ki where
 bQ:Unit->Bool:=λ_=>Q'
 lc:d_->IE->IE->Bool:=λ_ _ _=>Q'
 pq:d_->IE->IE->IE->Bool:=λ_ _ _ _=>Q'
 call:F->IE->Bool:=λ_ _=>Q'
 cons:IE->IE->Bool:=λ_ _=>Q'
 lam:F->d_->Bool:=λ_ _=>Q'
@[irreducible] noncomputable def dZ(x:IE)(K:Ki):Bool:=match x with
 |.bQ=>K.bQ ⟨⟩
 |.lc tg it elt=>K.lc tg it elt
 |.pq tg it c elt=>K.pq tg it c elt
 |.call g as=>K.call g as
 |.cons g as=>K.cons g as
 |.lam g as=>K.lam g as
 |_=>Q'
def CH(x){K:Ki}{P:IE->Prop}(h:dZ x K=P')(q:K.bQ ⟨⟩=P'->P (.bQ))(r:∀tg o j,K.lc tg o j=P'->P (.lc tg o j))(s:∀tg o c j,K.pq tg o c j=P'->P (.pq tg o c j))(u:∀g as,K.call g as=P'->P (.call g as))(y:∀g as,K.cons g as=P'->P (.cons g as))(B:∀g as,K.lam g as=P'->P (.lam g as)):P x:=by
 unfold dZ at h;cases x with
 |bQ=>show q h
 |lc tg o j=>show r tg o j h
 |pq tg o c j=>show s tg o c j h
 |call g as=>show u g as h
 |cons g as=>show y g as h
 |lam g as=>show B g as h
 |_=>show ff h
@[irreducible] def Ei(x:IE)(k:Bool):Bool:=dZ x {bQ:=λ_=>k}
@[elab_as_elim] def HZ(x){k:Bool}{P:IE->Prop}(h:Ei x k=P')(q:k=P'->P (.bQ)):P x:=by unfold Ei at h;apply CH x h<;>first|show q|(intros;show ff (by assumption))
@[irreducible] def K6(x:IE)(k:F->IE->Bool):Bool:=dZ x {call:=λg as=>k g as}
@[elab_as_elim] def K7(x){k:F->IE->Bool}{P:IE->Prop}(h:K6 x k=P')(q:∀g as,k g as=P'->P (.call g as)):P x:=by unfold K6 at h;apply CH x h<;>first|show q|(intros;show ff (by assumption))
@[irreducible] def K8(x:IE)(k:IE->IE->Bool):Bool:=dZ x {cons:=λg as=>k g as}
@[elab_as_elim] def K9(x){k:IE->IE->Bool}{P:IE->Prop}(h:K8 x k=P')(q:∀g as,k g as=P'->P (.cons g as)):P x:=by unfold K8 at h;apply CH x h<;>first|show q|(intros;show ff (by assumption))
@[irreducible] def RX(x:IE)(k:F->d_->Bool):Bool:=dZ x {lam:=λg as=>k g as}
@[elab_as_elim] def N3(x){k:F->d_->Bool}{P:IE->Prop}(h:RX x k=P')(q:∀g as,k g as=P'->P (.lam g as)):P x:=by unfold RX at h;apply CH x h<;>first|show q|(intros;show ff (by assumption))
@[irreducible] def RY(s:Stmt)(k:Expr->Expr->Bool):Bool:=RQ s λa b=>d1 a λa=>k a b
@[elab_as_elim] def xh(s){k:Expr->Expr->Bool}{P:Stmt->Prop}(h:RY s k=P')(q:∀a b p,k a b=P'->P (.Assign [a] b p)):P s:=by unfold RY at h;apply NZ s h λa b p h=>pb a h λa h=> ?_;show q a b p h
@[irreducible] def VR(s:Stmt)(k:Str->Pos->Expr->Bool):Bool:=RY s λa b=>dNp a λn p=>k n p b
@[elab_as_elim] def Ej(s){k:Str->Pos->Expr->Bool}{P:Stmt->Prop}(h:VR s k=P')(q:∀n p b j,k n p b=P'->P (.Assign [.Name n p] b j)):P s:=by unfold VR at h;apply xh s h λa b j h=>KY a h λn p h=> ?_;show q n p b j h
@[irreducible] def S5(m:Str)(s:Stmt)(k:Str->Pos->k_->Bool):Bool:=dEx s λx=>OP m x λy xs=>dNp y λn p=>k n p xs
@[elab_as_elim] def AS(s){m:Str}{k:Str->Pos->k_->Bool}{P:Stmt->Prop}(h:S5 m s k=P')(q:∀n p xs j o r,(j.endLine==o.line)=P'->k n p xs=P'->P (.Expr (.Call (.Attribute (.Name n p) m j) xs [] o) r)):P s:=by unfold S5 at h;apply K5 s h λx r h=>uv x h λy xs j o e h=> ?_;show KY y h λn p h=>q n p xs j o r e h
@[irreducible] def dXc(s:Stmt)(k:Expr->Expr->k_->Bool):Bool:=dEx s λx=>qU x λy xs _=>dc xs λa r=>k y a r
@[elab_as_elim] def K_(s){k:Expr->Expr->k_->Bool}{P:Stmt->Prop}(h:dXc s k=P')(q:∀y a r j o,k y a r=P'->P (.Expr (.Call y (a::r) [] j) o)):P s:=by unfold dXc at h;apply K5 s h λx o h=>kZ x h λy xs j h=> ?_;show mZ xs h λa r h=>q y a r j o h
@[irreducible] def Gh(x:IE):Bool:=dZ x {lc:=λ_ _ _=>P',pq:=λ_ _ _ _=>P'}
@[elab_as_elim] def La(x){P:IE->Prop}(h:Gh x=P')(q:∀tg o j,P (.lc tg o j))(s:∀tg o c j,P (.pq tg o c j)):P x:=by unfold Gh at h;apply CH x h (λr=>ff r) (λtg o j _=>q tg o j) (λtg o c j _=>s tg o c j) (λ_ _ r=>ff r) (λ_ _ r=>ff r) (λ_ _ r=>ff r)
def OT(h:dE (.e t x) k=P'):k t x=true:=by unfold dE at h;show h
def u5(ps:F->iG):IS->CK->TyM->Bool
 |.nil,c,st=>d0 (bu st) P'
 |.set i a r,c,st=>dc (bu st) λs h=>VR s λn p j=>(jY j||(K4 j&&Gh a))&&(c.CC i n&&(ck a c (.e Q' j)&&u5 ps r c h))
 |.own i a r,c,st=>dc (bu st) λs h=>VR s λn p j=>(jY j||(K4 j&& !RP c n p j))&&(c.CC i n&&(ck a c (.e Q' j)&&u5 ps r c h))
 |.nX i r,c,st=>u5 ps r c st
 |.aug i o a r,c,st=>dc (bu st) λs h=>RR s λtg M j=>Io tg λn=>dq M (B1 o) (c.CC i n&&(ck a c (.e Q' j)&&u5 ps r c h))
 |.app i a r,c,st=>dc (bu st) λs h=>S5 "append" s λn _ xs=>d1 xs λj=>c.xc i n&&(notStar j&&(ck a c (.e Q' j)&&u5 ps r c h))
 |.ext i a r,c,st=>dc (bu st) λs h=>S5 "extend" s λn _ xs=>d1 xs λj=>c.xc i n&&(notStar j&&(ck a c (.e Q' j)&&u5 ps r c h))
 |.put i ix a r,c,st=>dc (bu st) λs h=>RY s λtg j=>xf tg λy B=>Io y λn=>jY j&&(ic B&&(c.xc i n&&(ck ix c (.e Q' B)&&(ck a c (.e Q' j)&&u5 ps r c h))))
 |.xJ i l ix a r,c,st=>dc (bu st) λs h=>RY s λtg j=>xf tg λz B=>LS z λy m _=>dq m (OD l) (Io y λn=>jY j&&(ic B&&(c.xc i n&&(ck ix c (.e Q' B)&&(ck a c (.e Q' j)&&(Hq Q' l&&u5 ps r c h))))))
 |.BB i ix a r,c,st=>dc (bu st) λs h=>RY s λtg j=>xf tg λz B=>LS z λy m _=>dq m "cells" (Io y λn=>jY j&&(ic B&&(c.xc i n&&(ck ix c (.e Q' B)&&(ck a c (.e Q' j)&&u5 ps r c h)))))
 |.MA g o as r,c,st=>dc (bu st) λs h=>S5 (c.S.nm g) s λn p xs=>dc xs λj u=>c.S.eP P' g&&((j::u).all notStar&&(decide ((j::u).length<30)&&(ck o c (.e Q' (.Name n p))&&(ck as c (.a (j::u))&&u5 ps r c h))))
 |.Ho i a r,c,st=>dc (bu st) λs h=>RY s λtg j=>LS tg λy m _=>dq m "flags" (Io y λn=>jY j&&(c.xc i n&&(ck a c (.e Q' j)&&u5 ps r c h)))
 |.ex g o as r,c,st=>dc (bu st) λs h=>(S5 (c.S.nm g) s λn p xs=>dc xs λj u=>c.S.eP Q' g&&((j::u).all notStar&&(decide ((j::u).length<30)&&(decide (B3 as≠(ps g).length)&&(ck o c (.e Q' (.Name n p))&&(ck as c (.a (j::u))&&u5 ps r c h))))))||(Ei o P'&&dXc s λy j u=>dG c (c.S.nm g) y (c.S.glob g&&((j::u).all notStar&&(ck as c (.a (j::u))&&u5 ps r c h))))
 |.Qh i as r,c,st=>dc (bu st) λs h=>dXc s λy j u=>Io y λn=>c.xc i n&&((j::u).all notStar&&(ck as c (.a (j::u))&&u5 ps r c h))
 |.ite q a b r,c,st=>dc (bu st) λs h=>dIf s λL O H=>ck q c (.e P' L)&&(u5 ps a c O&&(u5 ps b c H&&u5 ps r c h))
 |.iH tg it body r,c,st=>dc (bu st) λs h=>RT s λJ E H G=>d0 G (pX E&&(S3 c (NM it) tg J&&(decide (tg.length=JX it)&&(ck it c (.i J E)&&(u5 ps body c H&&u5 ps r c h)))))
 |.SW n q body r,c,st=>dc (bu st) λs h=>dWh s λL H G=>d0 G (ck q c (.e P' L)&&(u5 ps body c H&&u5 ps r c h))
 |.ret a,c,st=>dc (bu st) λs h=>d0 h (VQ s λo=>NW o λj=>ck a c (.e Q' j))
 |.xK i,c,st=>dc (bu st) λs h=>d0 h (VQ s λo=>NW o λj=>Io j λn=>c.xc i n)
 |.pT i g caps r,c,st=>Q'
variable {G:Gx} {T:kT} {cl:By} {k:Nat} {X:Cx} {c:CK}
universe b
def xi:∀{j:TyM},gA X (bu j) (tS G T cl o)->gA X j (tS G T cl o):=by
 intro j;induction j with
 |nil=>show id
 |cons s r q=>
  intro h;unfold bu at h;split at h;rename_i e;cases e;show UO (q h);show h
universe a
def eK(h:jY j=P'):Ws j t l env=pure false:=by cases j<;>first|rfl|cases h
def k9{j:IS}{o:TyM}{k:Stmt->TyM->Bool}(h:dc (bu o) k=P')(q:∀s r,k s r=P'->gA X (s::r) (tS G T cl j)):gA X o (tS G T cl j):=xi (@mZ _ _ _ (λl=>gA X l (tS G T cl j)) h q)
def N4(f:pd c G T cl k X):Ws (.ListComp ex h scope pos) (N' (.Name x p)) l X.env=pure (RP c x p (.ListComp ex h scope pos)):=by show pure (X.env.blockKind==.function&&X.env.kindOf x==N' .local&&p.line==pos.line&& !(scope.2.any λ(n,k)=>n==x&&(k==.local||k==.cell)))=_;unfold RP Env.blockKind F';rw[f.sc]
def Lb(f:pd c G T cl k X)(h:K4 j=P'):Ws j (N' (.Name x p)) l X.env=pure (RP c x p j):=by
 cases j with
 |ListComp o q scope r=>show N4 f
 |_=>cases h
def VS(h:RP c x p j=P'):c.sc.names.lookup x=N' .local:=by
 cases j with
 |ListComp o q scope r=>show beq_iff_eq.mp (a2 (a1 (a1 h)))
 |_=>cases h
end
section
variable {G:Gx} {T:kT} {cl:By} {k:Nat} {X:Cx} {c:CK}
def AU(h:ic i=P'):∀v,XI (.Subscript o i p) env v=(do
   let j<-W5 [v] (Wo o env)
   let q<-W5 [v,j] (Wo i env)
   Xn p
   W5 [v,j,q] (setItem j q v)
   release [v,j,q] []):=by
 intro v
 cases i<;>first|rfl|cases h
def AV(h:jY j=P'):Xj [t] j l env=pure false:=by unfold Xj;show eK h
def pd.pass(f:pd c G T cl k X):YD (V3 X.1 X.w) X.A X.env X.xe:=by rw[f.xe];show PassesOwn.never
def pd.gbq(f:pd c G T cl k X)(h:c.S.glob g=P'):G.glob g=true:=by rw[f.glob];show h
def pd.mtq(f:pd c G T cl k X)(h:c.S.eP b g=P'):G.eP b g=true:=by rw[f.eP];show h
def RZ(f:pd c G T cl k X){i:Nat}{x:Str}{p pos:Pos}{a:IE}{r:IS}{y:Expr}{u:TyM}(J:(jY y||(K4 y&&Gh a))=P')(W:c.CC i x=P')(j:ck a c (.e Q' y)=P')(P:gA X u (tS G T cl r)):gA X (.Assign [.Name x p] y pos::u) (tS G T cl (.set i a r)):=by
 obtain⟨Q,A,K⟩:=f.CC W;apply xg J (λb=> ?_) (λJ=> ?_);show OF f.mo Q A K (eK b) (cb a f j) P;have o:=Lb f (x:=x) (p:=p) (l:=pos.line) (a1 J);cases U:RP c x p y with
 |false=>rw[U]at o;show OF f.mo Q A K o (cb a f j) P
 |true=>
  rw[U]at o;have N:X.env.1.2.lookup x=N' .local:=by rw[f.sc];show VS U
  clear U;revert j;apply La a (a2 J) ?_ ?_;intro tg Y B j;have j:=OT j;clear J;revert o;apply AR y j λd Z L E scope g h=>lB E h λh o=> ?_;obtain⟨F,D,V,R,I,S⟩:=vA f (a1 h);show M7 f.mo Q N o (cb Y f (a1 (a2 (a2 h)))) D V (λs H C M O=>cb B (f.ll s H _ C M O) (a2 (a2 (a2 h)))) R I S (k0 (a1 (a2 h))) P;intro tg Y q B j;have j:=OT j;clear J;revert o;apply AR y j λd Z L E scope g h=>pb E h λm h o=> ?_;obtain⟨F,D,V,R,I,S⟩:=vA f (a1 h);show HB f.mo Q N o (cb Y f (a1 (a2 (a2 h)))) D V (λs H C M O=>cb q (f.ll s H _ C M O) (a1 (a2 (a2 (a2 h))))) (λs H C M O=>cb B (f.ll s H _ C M O) (a2 (a2 (a2 (a2 h))))) R I S (k0 (a1 (a2 h))) P
def R0(f:pd c G T cl k X){i:Nat}{x:Str}{p pos:Pos}{a:IE}{r:IS}{j:Expr}{h:TyM}(o:(jY j||(K4 j&& !RP c x p j))=P')(H:c.CC i x=P')(q:ck a c (.e Q' j)=P')(s:gA X h (tS G T cl r)):gA X (.Assign [.Name x p] j pos::h) (tS G T cl (.own i a r)):=by obtain⟨u,y,B⟩:=f.CC H;apply xg o (λJ=> ?_) (λo=> ?_);show OG f.mo u y B (eK J) (cb a f q) s;have E:=Lb f (x:=x) (p:=p) (l:=pos.line) (a1 o);rw[(lj _).mp (a2 o)]at E;show OG f.mo u y B E (cb a f q) s
def Ek(D:G.ps=ps)(ir):∀{c:CK} {X:Cx} {E:TyM},pd c G T cl k X->u5 ps ir c E=P'->gA X E (tS G T cl ir):=by
 induction ir with
 |nil=>
  intro c X E f h;apply xi ?_;show @lB _ _ _ (λl=>gA X l (tS G T cl .nil)) h λ_=>UN
 |set i a r u=>
  intro c X E f h;apply k9 h λs B h=>Ej s h λn p Q U h=> ?_;show RZ f (a1 h) (a1 (a2 h)) (a1 (a2 (a2 h))) (u f (a2 (a2 (a2 h))))
 |own i a r u=>
  intro c X E f h;apply k9 h λs B h=>Ej s h λn p Q U h=> ?_;show R0 f (a1 h) (a1 (a2 h)) (a1 (a2 (a2 h))) (u f (a2 (a2 (a2 h))))
 |nX i r u=>
  intro c X E f h;show UP (u f h)
 |aug i o a r u=>
  intro c X E f h;apply k9 h λs B h=>N0 s h λtg w Q U h=> ?_;apply nh tg h λn p h=>iF w h λh=> ?_;obtain⟨J,L,O⟩:=f.CC (a1 h);show UQ f.mo J L O (cb a f (a1 (a2 h))) (u f (a2 (a2 h)))
 |app i a r u=>
  intro c X E f h;apply k9 h λs B h=>AS s h λn p xs V C U R h=> ?_;apply pb xs h ?_;intro Q h;obtain⟨J,L,O,P⟩:=f.xc (a1 h);show UR f.mo J L O P (a1 (a2 h)) R (eK S') (cb a f (a1 (a2 (a2 h)))) (u f (a2 (a2 (a2 h))))
 |ext i a r u=>
  intro c X E f h;apply k9 h λs B h=>AS s h λn p xs V C U R h=> ?_;apply pb xs h ?_;intro Q h;obtain⟨J,L,O,P⟩:=f.xc (a1 h);show US f.mo J L O P (a1 (a2 h)) R (eK S') (cb a f (a1 (a2 (a2 h)))) (u f (a2 (a2 (a2 h))))
 |put i F a r u=>
  intro c X E f h;apply k9 h λs B h=>xh s h λtg Q p h=> ?_;apply lK tg h λy N U h=>nh y h λn Y h=> ?_;obtain⟨J,L,O,P⟩:=f.xc (a1 (a2 (a2 h)));show UT f.mo J L O P (Dl (pG J L O P) (cb F f (a1 (a2 (a2 (a2 h))))) set_list (AU (a1 (a2 h)))) (AV (a1 h)) S' rfl (cb a f (a1 (a2 (a2 (a2 (a2 h)))))) (u f (a2 (a2 (a2 (a2 (a2 h))))))
 |xJ i l F a r u=>
  intro c X E f h;apply k9 h λs B h=>xh s h λtg Q p h=> ?_;apply lK tg h λz N U h=>qh z h λy m x h=> ?_;apply iF m h λh=>nh y h λn Y h=> ?_;obtain⟨J,L,O,P⟩:=f.xc (a1 (a2 (a2 h)));show J3 (b:=Q') f.mo (a1 (a2 (a2 (a2 (a2 (a2 h)))))) (Dl (FI (b:=Q') f.mo (a1 (a2 (a2 (a2 (a2 (a2 h)))))) S' (s_v J L O P)) (cb F f (a1 (a2 (a2 (a2 h))))) set_list (AU (a1 (a2 h)))) (AV (a1 h)) S' rfl (cb a f (a1 (a2 (a2 (a2 (a2 h)))))) (u f (a2 (a2 (a2 (a2 (a2 (a2 h)))))))
 |BB i F a r u=>
  intro c X E f h;apply k9 h λs B h=>xh s h λtg Q p h=> ?_;apply lK tg h λz N U h=>qh z h λy m x h=> ?_;apply iF m h λh=>nh y h λn Y h=> ?_;obtain⟨J,L,O,P⟩:=f.xc (a1 (a2 (a2 h)));show J3 (b:=P') (j:=.rN) f.mo S' (Dl (FI (b:=P') (j:=.rN) f.mo S' rfl (s_v J L O P)) (cb F f (a1 (a2 (a2 (a2 h))))) set_list (AU (a1 (a2 h)))) (AV (a1 h)) S' rfl (cb a f (a1 (a2 (a2 (a2 (a2 h)))))) (u f (a2 (a2 (a2 (a2 (a2 h))))))
 |Ho i a r u=>
  intro c X E f h;apply k9 h λs B h=>xh s h λtg Q p h=> ?_;apply qh tg h λy m U h=>iF m h λh=> ?_;apply nh y h ?_;intro n Y h;obtain⟨J,L,O,P⟩:=f.xc (a1 (a2 h));show QJ f.mo (s_v J L O P) (eK (a1 h)) (cb a f (a1 (a2 (a2 h)))) (u f (a2 (a2 (a2 h))))
 |ex g o as r u=>
  intro c X E f h;apply k9 h λs B h=>xg h (λh=> ?_) (λh=> ?_);apply AS s h λn p xs V C U I h=>mZ xs h λQ S h=> ?_;rw[<-f.nm];show OH (b:=Q') f.mo (f.mtq (a1 h)) (a1 (a2 h)) (jg (a1 (a2 (a2 h)))) I (eK S') (λ_ e M xs hx=>by rw[FK hx,D];show jg (a1 (a2 (a2 (a2 h))))) (cb o f (a1 (a2 (a2 (a2 (a2 h)))))) (cb as f (a1 (a2 (a2 (a2 (a2 (a2 h))))))) (u f (a2 (a2 (a2 (a2 (a2 (a2 h)))))));apply HZ o (a1 h) λ_=>K_ s (a2 h) λy Q S C U h=> ?_;apply nU y h ?_;intro p W h;rw[<-f.nm]at W|-;show UU f.mo (f.gbq (a1 h)) (f.gl W) (a1 (a2 h)) (eK S') (cb as f (a1 (a2 (a2 h)))) (u f (a2 (a2 (a2 h))))
 |MA g o as r u=>
  intro c X E f h;apply k9 h λs B h=>AS s h λn p xs V C U I h=>mZ xs h λQ S h=> ?_;rw[<-f.nm];show OH (b:=P') f.mo (f.mtq (a1 h)) (a1 (a2 h)) (jg (a1 (a2 (a2 h)))) I (eK S') (λz=>X8 z) (cb o f (a1 (a2 (a2 (a2 h))))) (cb as f (a1 (a2 (a2 (a2 (a2 h)))))) (u f (a2 (a2 (a2 (a2 (a2 h))))))
 |Qh i as r u=>
  intro c X E f h;apply k9 h λs B h=>K_ s h λy Q S C U h=> ?_;apply nh y h ?_;intro n p h;obtain⟨J,L,O,P⟩:=f.xc (a1 h);show UW f.mo J L O P (a1 (a2 h)) (eK S') (cb as f (a1 (a2 (a2 h)))) (u f (a2 (a2 (a2 h))))
 |ite q a b r A K u=>
  intro c X E f h;apply k9 h λs B h=>RS s h λeq sa d p h=> ?_;show aba (cb q f (a1 h)) (A f (a1 (a2 h))) (K f (a1 (a2 (a2 h)))) (u f (a2 (a2 (a2 h))))
 |iH tg it body r H u=>
  intro c X E f h;apply k9 h λs B h=>N1 s h λza t d Z p h=> ?_;show lB Z h λh=>UZ f.mo f.pass (cb it f (a1 (a2 (a2 (a2 h))))) (K2 f (a1 (a2 h))) (jg (a1 (a2 (a2 h)))) (k0 (a1 h)) (H f (a1 (a2 (a2 (a2 (a2 h)))))) (u f (a2 (a2 (a2 (a2 (a2 h))))))
 |SW n q body r H u=>
  intro c X E f h;apply k9 h λs B h=>RU s h λeq d Z p h=> ?_;show lB Z h λh=>U0 f.mo f.pass (cb q f (a1 h)) (H f (a1 (a2 h))) (u f (a2 (a2 h)))
 |ret a=>
  intro c X E f h;apply k9 h λs B h=>lB B h λh=> ?_;apply Eh s h λo p h=>rF o h λQ h=> ?_;show UX S' (cb a f h)
 |xK i=>
  intro c X E f h;apply k9 h λs B h=>lB B h λh=> ?_;apply Eh s h λo p h=>rF o h λQ h=> ?_;apply nh Q h ?_;intro n U h;obtain⟨J,L,O,P⟩:=f.xc h;show QK J L O P
 |pT i g v r u=>
  intro c X E f h;cases(show Q'=P' from h)
end
inductive Node
 |d(name:Str)(params:Arguments)(body:TyM)(scope:Scope)(pos:Pos)
 |l(params:Arguments)(body:Expr)(scope:Scope)(pos:Pos)
instance Node.sc:Node->Scope
 |.d _ _ _ s _=>s
 |.l _ _ s _=>s
instance Node.pos:Node->Pos
 |.d _ _ _ _ p=>p
 |.l _ _ _ p=>p
def cP:TyM->Option Node
 |.FunctionDef name params body [] O' [] scope O' name' pos::_=>N' (.d name params body scope pos)
 |.Return (N' (.Call _ (.Lambda params body scope pos::_) [] _)) _::_=>N' (.l params body scope pos)
 |_::r=>cP r
 |[]=>O'
section
def N5(h:F->iG)(c:CK)(f:F)(j:d_)(scope:Scope):Bool:=decide (j.length=(h f).length)&&decide ((h f).Nodup)&&(j.zip (h f)).all (λp=>c.fn p.2&&decide (c.N[p.1]?=N' p.2)&&decide (c.sc.names.lookup p.2=N' .cell))&&
  scope.2.all (λy=> !decide (y.2=.free)||decide (y.1∈h f))&&(h f).all (λx=>decide ((x,Wr)∈scope.2))
instance VT(h:F->iG)(f:F):Str->Bool:=λx=>decide (x∈h f)
@[irreducible] def dFn(s:Stmt)(k:Str->Scope->Bool):Bool:=RV s λa _ _ d e f g h i=>d0 d (NX e (d0 f (NX h (dq i a (k a g)))))
@[elab_as_elim] def R1(s){k:Str->Scope->Bool}{P:Stmt->Prop}(h:dFn s k=P')(q:∀a b c g p,k a g=P'->P (.FunctionDef a b c [] O' [] g O' a p)):P s:=by unfold dFn at h;apply N2 s h λa b c d e f g j i p h=>lB d h λh=> ?_;apply rG e h λh=>lB f h λh=> ?_;apply rG j h λh=>iF i h λh=> ?_;show q a b c g p h
@[irreducible] def ckR(h:F->iG)(a:IE)(c:CK)(y:TyM):Bool:=K6 a λg r=>K8 r λl as=>RX l λf j=>dc (bu y) λs q=>d0 q (VQ s λo=>NW o λe=>qU e λB xs _=>dG c (c.S.nm g) B (dc xs λl u=>RO l λ_ _ scope=>c.S.glob g&&(N5 h c f j scope&&(u.all notStar&&ck as {c with fz:=VT h f} (.a u)))))
def ckB(ps h:F->iG):IS->CK->TyM->Bool
 |.set i a r,c,st=>dc (bu st) λs j=>VR s λn _ o=>jY o&&(c.CC i n&&(ck a c (.e Q' o)&&ckB ps h r c j))
 |.pT i f caps r,c,st=>dc (bu st) λs j=>dFn s λname scope=>N5 h c f caps scope&&(decide (c.N[i]?=N' name)&&((decide (c.sc.names.lookup name=N' .local)||decide (c.sc.names.lookup name=N' .cell))&&(((c.fn name&& !VT h f name)||decide (c.sc.names.lookup name=N' .local))&&u5 ps r {c with fz:=VT h f} j)))
 |.ret a,c,st=>ckR h a c st
 |_,_,_=>Q'
instance CI:IS->Option F
 |.set _ _ r=>CI r
 |.pT _ f _ _=>N' f
 |.ret (.call _ (.cons (.lam f _) _))=>N' f
 |_=>O'
variable {G:Gx} {T:kT} {cl:By} {k:Nat} {X:Cx} {c:CK}
structure Lc(G:Gx)(X:Cx)(f:F)(nd:Node)(c0 P:VZ):Prop where
 j4:G.j4 f=P'
 d:∀name params body scope pos,nd=.d name params body scope pos->WX X.env name name=G.cq f/\(∀clos ct doc cd,G.DJ f clos ct doc cd=fnX name (G.cq f) params body scope clos .none .none doc ((X.mg "__name__").getD .none) O' cd ct)/\params.defaults=[]/\params.kw_defaults=[]/\YZ params O' X.env=[]
 l:∀params body scope pos,nd=.l params body scope pos->X.env.qual++"<lambda>"=G.cq f/\(∀clos ct doc cd,G.DJ f clos ct doc cd=Xb "<lambda>" (G.cq f) params body scope clos ((X.mg "__name__").getD .none) cd ct)/\YW params X.env=([],[])
 tb:(P,nd.pos,G.cq f)∈G.tb
 tu:∀t∈G.tb,t.1=P->t=(P,nd.pos,G.cq f)
 SS:∀y∈nd.sc.names,y.2=.free->∃a,X.env.4.lookup y.1=N' a
 code:X.env.code=.ref c0
 hd:Y9 X.base c0 P
 bm:BMain X.mg X.base
def pd.nX(f:pd c G T cl k X)(z):pd {c with fz:=z} G T cl k (X.frozen z):=#[f.N,f.sc,f.fn,S',f.xe,f.mo.nX z,#[f.bi.len,f.bi.abs,f.bi.min,f.bi.max,f.bi.sum,f.bi.range,f.bi.enumerate,f.bi.zip,f.bi.reversed],λd h=>#[(f.di d h).nm,(f.di d h).db,(f.di d h).hd,(f.di d h).vs],λd h=>#[(f.tu d h).nm,(f.tu d h).db,(f.tu d h).vs],f.nm,f.glob,f.eP,f.gn,f.dn,f.BY]
universe b
def H_:∀{j:TyM},PB X (bu j) (tS G T cl o)->PB X j (tS G T cl o):=by
 intro j;induction j with
 |nil=>show id
 |cons s r q=>
  intro h;unfold bu at h;split at h;rename_i e;cases e;show U1 (q h);show h
def El:∀{h:TyM},cP (bu h)=cP h:=by
 intro h;induction h with
 |nil=>rfl
 |cons s r j=>
  unfold bu;split;rename_i e;cases e;rw[j];rfl;rfl
universe a
def Gi(o:pd c G T cl k X)(q:G.cs=A_)(h:N5 A_ c f j scope=P'):DS X (VT A_ f) (j.zip (A_ f))/\HC X G f j scope (j.zip (A_ f)):=by unfold N5 at h;simp![aD,bg,cC,qi,lj,tG]at h;obtain⟨⟨⟨⟨P,E⟩,s⟩,H⟩,J⟩:=h;have L:(j.zip (A_ f)).map (·.1)=j:=ZV 'l';have u:(j.zip (A_ f)).map (·.2)=A_ f:=u_ 'l';apply#[#[λp r=> ?_,λp r=>by rw[o.fn];show(s p r).1.1,λp r=>by rw[o.N];show(s p r).1.2,λp r=>by rw[o.sc];show(s p r).2,by rw[u];show E],#[L,by rw[u,q],λy M O=>by rw[q];show(H y M).resolve_left λz=>z O,λx B=>by rw[q]at B;show J x B]];unfold VT;simp![bg];show(mD r).2
def Ld{o:IS}{B:TyM}{k:Stmt->TyM->Bool}(y:∀f j,CI o=N' f->cP B=N' j->∃u P,Lc G X f j u P)(h:dc (bu B) k=P')(q:∀s r,(∀f j,CI o=N' f->cP (s::r)=N' j->∃u P,Lc G X f j u P)->k s r=P'->PB X (s::r) (tS G T cl o)):PB X B (tS G T cl o):=by apply H_ ?_;rw[<-El]at y;revert y;show @mZ _ _ _ (λl=>(∀f j,CI o=N' f->cP l=N' j->∃u P,Lc G X f j u P)->PB X l (tS G T cl o)) h λs r h y=>q s r y h
def R5{ps B:F->iG}(O:G.ps=ps)(H:G.cs=B)(L):∀{c:CK} {X:Cx} {y:TyM},pd c G T cl k X->(∀x,c.fz x=Q')->(∀f M,CI L=N' f->cP y=N' M->∃Q P,Lc G X f M Q P)->ckB ps B L c y=P'->PB X y (tS G T cl L):=by
 induction L with
 |set i a r U=>
  intro c X y f E j h;apply Ld j h ?_;intro s u j h;revert j;apply Ej s h ?_;intro n p v S h j;obtain⟨A,K,W⟩:=f.CC (a1 (a2 h));show U2 f.mo A K W (eK (a1 h)) (cb a f (a1 (a2 (a2 h)))) (U f E (λg M h h'=>j g M h h') (a2 (a2 (a2 h))))
 |pT i g J r=>
  intro c X y f E j h;apply Ld j h ?_;intro s u j h;revert j;apply R1 s h ?_;intro name params body scope pos h j;obtain⟨Q,P,o⟩:=j g _ S' rfl;obtain⟨Y,Z,C,b,m⟩:=o.d _ _ _ _ _ S';obtain⟨D,V⟩:=Gi f H (a1 h);apply QM f.mo (λx=>by rw[f.fz];show E x) D V o.j4 Y Z o.tb o.tu C b m o.SS o.code o.hd o.bm (by rw[f.N];show jg (a1 (a2 h))) ?_ ?_ (Ek O r (f.nX _) (a2 (a2 (a2 (a2 h)))));unfold L2.Loc;rw[f.sc];show xg (a1 (a2 (a2 h))) (λz=>.inl (jg z)) (λz=>.inr (jg z));rw[f.sc,f.fn];show xg (a1 (a2 (a2 (a2 h)))) (λz=>.inl #[a1 z,(lj _).mp (a2 z)]) (λz=>.inr (jg z))
 |ret a=>
  intro c X y f E j h;have h:ckR B a c y=true:=h;unfold ckR at h;revert j;apply K7 a h λg r h=>K9 r h λl as h=> ?_;apply N3 l h λq J h j=>Ld j h λs u j h=> ?_;revert j;apply lB u h λh=>Eh s h λo p h=> ?_;apply rF o h λe h=>kZ e h λt xs w h=> ?_;apply nU t h λS R h=>mZ xs h λl es h=> ?_;apply NV l h ?_;intro params body scope I h j;obtain⟨Q,P,o⟩:=j q _ S' rfl;obtain⟨Y,Z,C⟩:=o.l _ _ _ _ S';obtain⟨D,V⟩:=Gi f H (a1 (a2 h));rw[<-f.nm]at R|-;show J6 f.mo (λx=>by rw[f.fz];show E x) D V o.j4 Y Z o.tb o.tu C o.SS o.code o.hd o.bm (f.gbq (a1 h)) (pd.gl (X:=X.frozen _) (f.nX _) R) (a1 (a2 (a2 h))) (cb as (f.nX _) (a2 (a2 (a2 h))))
 |_=>intro c X y f E j h;cases(show Q'=P' from h)
end
instance nmW:List (iG):=[["order","machine","x","y","k","xs","ys","number","place","i","self","action","operation","lanes","word"],["z","first","after","d","chosen","memory","places","from_x","from_y","by","product","length","words","lane","ds"],["lower","half","both","upper","truths","truth","low","each","every","turned","make","greatest","count","mask","size"],["index","from_d","looked_up","made","even","either","taken","doubled","numbers","fixed","slid","least","found","sums","eight_from"],["inverse","power","multiplied","before","picked","moved","other","used","joined","question","row","how","shared","finders","find"],["step","find_places","merged","value","zero","carry","cell","offset"]]
def dgs:Nat->Nat->List PySem.Str
 |0,_=>[]
 |k+1,n=>if n=0 then []else(nmW.getD ((n % 100-1)/15) []).getD ((n % 100-1) % 15) ""::dgs k (n/100)
def nF(f:F):List PySem.Str:=dgs 12 (pkF [[5,508,508,508,420508,4308,36090835,908,371514440528,29151728380514,171445120706,40319070630020112,5040319,50201,5040319],[50201,24234746293901040319,48390201,100706200201,201,201,10170201,10200201,13,10403,10403,10403,10403,10403,10403],[10403,10403,10403,32010403,20108,49120201,30706,5007060201,201,201,510201,4030201,30201,201,13],[105206200201,201,140201,13,50403,50403,50403,50403,50403,50403,50403,50403,50403,50403,50403],[50403,50403,50403,50403,50403,50403,50403,50403,50403,50403,50403,25050403,25050403,50403,50403],[50403,50403,50403,53050403,13,4030706020112,173854,4030706,201,105524230706,5624230201,570706,580201,40307060201,40307060201],[81930020159,30201,30201,30201,30201,30201,30201,30907020112,1503,600201,9260403,9626103,40307060201,101503,11503],[201,11503,201,9260403,2624230706,6324230201,30964060201,40307060201,2619300201,2619300201,13,160403,160403,160403,160403],[160403,160403,160403,160403,160403,160403,403120201,4030201,13,4060201,4330201,40706,650201,25330201,250706],[66250201,403140706,320706,320706,20112,201,201,170828,3107060201,17280201,201,37670129,3400201,9681406200201,1033120706],[69020112,13431,201,13431,201,53431,50201,201,30201,3020112,103,201,103,201,103],[201,103,201,13,40706,100604,40706,100706,100706,157007060201,208,71,7060201,7060201,13],[40372,40340070601,7060201,40307060201,40307060201,730201,30201,1503,201,13,1,12757413,41120201,410201,7635140201],[1,201,10200201,10170201,10170201,1006170201,201,201,9101422210201,9101422210201,22210201,22210201,13,9272221,9122277210201],[180201,180136,180201,180201,180201,180201,180201,180201,180201,13,50811,1509140811,29097820140111,50111,811],[150811,811,790811,818011,11,11,270911,8208270911,8308270911,270911]] f 0)
inductive Pl|top(i:Nat)|AW(i j:Nat)|rJ(f:F)
instance Ip(f:F):Pl:=pkF ([[.top 1,.top 2,.top 3,.top 4,.top 5,.top 6,.top 7,.top 8,.top 9,.top 10,.top 11,.top 22,.rJ .jl,.top 23,.rJ .iv],[.top 24,.rJ .iw,.top 25,.top 26,.top 27,.top 28,.top 29,.top 30,.top 32,.top 34,.top 36,.top 38,.top 40,.top 41,.top 43],[.top 44,.top 46,.top 48,.top 50,.top 52,.top 53,.top 54,.top 55,.top 56,.top 57,.top 58,.top 59,.top 60,.top 61,.top 63],[.top 65,.top 66,.top 67,.top 69,.top 71,.top 73,.top 75,.top 77,.top 78,.top 79,.top 80,.top 81,.top 82,.top 83,.top 84],[.top 85,.top 86,.top 87,.top 88,.top 89,.top 91,.top 93,.top 95,.top 97,.top 99,.top 101,.top 102,.top 103,.top 104,.top 105],[.top 106,.top 107,.top 108,.top 109,.top 111,.top 112,.top 115,.top 116,.top 117,.rJ .eV,.top 118,.rJ .eX,.top 119,.top 120,.top 121],[.top 122,.top 123,.top 124,.top 125,.top 126,.top 127,.top 128,.top 129,.rJ .qx,.top 130,.top 131,.top 132,.top 133,.top 134,.rJ .transform],[.top 135,.rJ .dF,.top 136,.top 137,.rJ .c7,.top 138,.top 139,.top 140,.top 141,.top 142,.top 144,.top 146,.top 147,.top 149,.top 151],[.top 153,.top 155,.top 157,.top 159,.top 161,.top 163,.top 165,.top 166,.top 167,.top 169,.top 170,.rJ .ke,.top 171,.top 172,.rJ .eZ],[.top 173,.top 174,.top 175,.top 176,.top 177,.top 178,.top 179,.top 180,.top 181,.top 182,.top 183,.rJ .ef,.top 184,.top 185,.rJ .hR],[.top 186,.rJ .f6,.top 187,.rJ .cR,.top 188,.rJ .cS,.top 189,.top 190,.top 191,.top 192,.rJ .narrow,.top 193,.rJ .gN,.top 194,.rJ .jq],[.top 195,.rJ .c8,.top 196,.top 198,.top 200,.top 201,.top 202,.top 203,.top 204,.top 206,.top 207,.top 208,.top 209,.top 210,.top 212],[.top 214,.top 215,.top 216,.top 217,.top 218,.top 219,.top 220,.rJ .f_,.top 221,.top 223,.top 226,.top 227,.top 228,.top 229,.top 230],[.top 232,.top 233,.top 234,.top 235,.top 236,.top 237,.top 238,.top 239,.top 241,.top 242,.top 243,.top 244,.top 246,.top 247,.top 248],[.top 250,.top 251,.top 252,.top 253,.top 254,.top 255,.top 256,.top 257,.top 258,.top 260,.AW 15 1,.AW 15 2,.AW 15 3,.AW 15 4,.AW 15 5],[.AW 15 6,.AW 15 7,.AW 15 8,.AW 15 9,.AW 15 10,.AW 15 11,.AW 18 1,.AW 18 2,.AW 18 3,.AW 18 4]]:List (List Pl)) f (.top 0)
instance PG0:Program:=PySem.Challenge.pw_lanewise_s02_run
def xj(i:Nat):Stmt:=PG0.main.body.getD i (.Pass #[0,0,0,0])
def AX(i j:Nat):Stmt:=match xj i with
 |.ClassDef _ _ _ body _ _ _ _ _ _ _=>body.getD j (.Pass #[0,0,0,0])
 |_=>.Pass #[0,0,0,0]
def stP:Pl->Stmt
 |.top i=>xj i
 |.AW i j=>AX i j
 |.rJ _=>.Pass #[0,0,0,0]
def nV(f:F):Stmt:=match Ip f with
 |.rJ g=>stP (Ip g)
 |p=>stP p
instance dnS:Stmt->Str
 |.FunctionDef n _ _ _ _ _ _ _ _ _=>n
 |.ClassDef n _ _ _ _ _ _ _ _ _ _=>n
 |_=>""
def OU(f:F):Str:=dnS (nV f)
def Gj(f:F):Str:=match Ip f with
 |.top i=>(match xj (i+1)with
  |.Assign [.Name x _] (.Name _ _) _=>x
  |_=>OU f)
 |.AW _ _=>OU f
 |_=>""
def u6(f:F):Str:=match Ip f with
 |.top _=>OU f
 |.AW i _=>dnS (xj i)++"."++OU f
 |.rJ _=>OU f++".<locals>."++(match cP (b9 (nV f))with
  |some (.d n _ _ _ _)=>n
  |_=>"<lambda>")
def A_(f:F):iG:=match Ip f with
 |.rJ g=>(match cP (b9 (nV f))with
  |some d=>(nF g).filter λx=>d.sc.names.lookup x==N' .free
  |_=>[])
 |_=>[]
def lg(f:F):Nat:=match Ip f with
 |.top _=>0
 |.AW i _=>if i=18 then 3 else 1
 |.rJ _=>2
def pf(f:F):List PySem.Str:=(nF f).take (defs f).np
instance OV:Nat->PySem.Str
 |0=>"ZERO"
 |1=>"CARRY"
 |2=>"FIELD"
 |3=>"ORDER_BYTES"
 |4=>"GOES_ON"
 |5=>"ASKED_TO_STOP"
 |6=>"NO_INSTRUCTION"
 |7=>"NOT_IN_MEMORY"
 |8=>"SIZE"
 |_=>""
instance VU:Nat->uQ
 |0=>N' 1
 |1=>N' 2
 |2=>N' 283
 |3=>N' 8
 |4=>N' 0
 |5=>N' 1
 |6=>N' 3
 |7=>N' 4
 |8=>N' 65536
 |_=>O'
instance S6:D->PySem.Str
 |.uH=>"FILLS"
 |.a8=>"PREDICATE_PAIRS"
 |.wd=>"MASKS"
 |.uI=>"MOVES"
 |.iE=>"PAIRS"
 |.kQ=>"PRODUCTS"
 |.bZ=>"SCALAR_PAIRS"
 |.rf=>"SHAPES"
 |.uJ=>"TEXTS"
 |.qF=>"TOLD"
 |.m4=>"WIDTHS"
 |.m5=>"PLACES"
 |.fc=>"TRANSFERS"
 |.uW=>"WAYS"
 |.jv=>"QUESTIONS"
instance AY:D->Bool
 |.jv=>P'
 |_=>Q'
instance u7:List F:=[F.A.a,.b,.c,.d,.e].flatMap λi=>([[.a,.b,.c,.d,.e,.f,.g,.h,.i,.j,.k,.l,.m,.n,.o],[.p,.q,.r,.s,.t,.u,.v,.w,.x,.y,.z,.A,.B,.C,.D],[.E,.F,.G,.H,.I,.J,.K,.L,.M,.N,.O,.P,.Q,.R,.S],[.T,.U]]:List (List F.B)).flatten.map (F.mk i)
def OW:Sx:=#[Gj,λf=>lg f==0,λb f=>lg f==(if b then 3 else 1),OV,VU,S6,DT,λd=> !AY d,AY]
def Le(f:F):CK:=#[OW,nF f,aG (nV f),λ_=>P',λ_=>Q']
def Gk(f:F)(h:Scope):CK:=#[OW,nF f,h,λx=>h.names.lookup x==N' .cell,λx=>h.names.lookup x==N' .free]
def acy(f:F):Bool:=(CI (defs f).body).isSome
def okF(f:F):Bool:=if lg f=2 then(match cP (b9 (nV f))with
  |some (.d _ _ b sc _)=>u5 pf (defs f).body (Gk f sc) b
  |some (.l _ e sc _)=>(match(defs f).body with
   |.ret ir=>ck ir (Gk f sc) (.e Q' e)
   |_=>Q')
  |none=>Q')
 else if acy f then ckB pf A_ (defs f).body (Le f) (b9 (nV f))else u5 pf (defs f).body (Le f) (b9 (nV f))
def Lf:u7.all okF=true:=by decide+kernel
end Lw
namespace Lw
def AZ(f:F):f∈u7:=ka (i:=f.ix) (by obtain⟨i,j⟩:=f;cases i<;>cases j<;>rfl)
def jZ{p:F->Bool}(h:u7.all p=P')(f:F):p f=true:=cC.mp h f (AZ f)
end Lw
namespace Lw
open PySem PySem.W L2
def R6(N ps:iG)(h:Scope):Bool:=decide (h.kind=.function)&& !h.isCoroutine&& !h.isGenerator&&decide N.Nodup&&decide (N.take ps.length=ps)&&ps.all (λx=>decide (h.names.lookup x=N' .local)||decide (h.names.lookup x=N' .cell))&&h.names.all (λy=> !decide (y.2=.free))
def j0{N ps:iG}{j:Scope}(h:R6 N ps j=P'):fi N ps j:=by unfold R6 at h;simp![aD,bg,cC,qi,lj,tG]at h;obtain⟨⟨⟨⟨⟨⟨o,q⟩,r⟩,s⟩,u⟩,y⟩,B⟩:=h;show#[o,q,r,s,u,y,B]
def R7(N ps j:iG)(h:Scope):Bool:=decide (h.kind=.function)&& !h.isCoroutine&& !h.isGenerator&&decide N.Nodup&&decide (N.take (ps++j).length=ps++j)&&ps.all (λx=>decide (h.names.lookup x=N' .local)||decide (h.names.lookup x=N' .cell))&&j.all (λx=>decide (h.names.lookup x=N' .free))&&
  h.names.all (λy=>decide (h.names.lookup y.1=N' y.2))&&h.names.all (λy=> !decide (y.2=.free)||decide (y.1∈j))
def N6{N ps j:iG}{o:Scope}(h:R7 N ps j o=P'):lZ N ps j o:=by unfold R7 at h;simp![aD,bg,cC,qi,lj,tG]at h;obtain⟨⟨⟨⟨⟨⟨⟨⟨q,r⟩,s⟩,u⟩,B⟩,E⟩,G⟩,H⟩,J⟩:=h;show#[q,r,s,u,B,E,G,H,λy L M=>(J y L).resolve_left λz=>z M]
def LU(f:F):iG:=(pf f).take ((pf f).length-(A_ f).length)
def okN(f:F):Bool:=decide ((nF f).length=(defs f).slots)&&decide ((defs f).np<=(defs f).slots)&&decide ((pf f).length=(defs f).np)&&decide (nF f).Nodup&&
 (if lg f=2 then(match cP (b9 (nV f))with
  |some h=>R7 (nF f) (LU f) (A_ f) h.sc&&decide (LU f++A_ f=pf f)
  |none=>Q')else R6 (nF f) (pf f) (aG (nV f)))&& !(Gj f=="__debug__")&&
 (match CI (defs f).body with
  |some g=>decide (lg g=2)&&(match Ip g,Ip f with
   |.rJ f',.top _=>decide (f'.ix=f.ix)
   |_,_=>Q')
  |none=>P')
def Gm:u7.all okN=true:=by decide+kernel
def zC{f g:F}(h:f.ix=g.ix):f=g:=by
 have a:u7[f.ix]?=N' f:=by obtain⟨i,j⟩:=f;cases i<;>cases j<;>rfl
 have b:u7[g.ix]?=N' g:=by obtain⟨i,j⟩:=g;cases i<;>cases j<;>rfl
 rw[h,b]at a;cases a;rfl
structure Top(P:Program)(w:V6)(base:Heap)(G:Gx):Prop where
 nm:G.nm=Gj
 ps:G.ps=pf
 glob:G.glob=λf=>lg f==0
 eP:G.eP=λb f=>lg f==(if b then 3 else 1)
 j4:G.j4=λf=>lg f==2
 gn:G.gn=OV
 dn:G.dn=S6
 BY:G.BY=DT
 cs:G.cs=A_
 cq:G.cq=u6
 fn:∀f,lg f≠2->xF G.K (OU f) (u6 f) (nV f) (G.fa f) (G.fd f)
 bd:∀f,lg f≠2->Binds G.K (G.fd f) (pf f) []
 OX:∀f,lg f=0->G.mg (Gj f)=N' (.ref (G.fa f))/\XE G.K (.ref (G.fa f))=P'
 met:∀b f,lg f=(if b then 3 else 1)->Meth G.K (G.CL b) (Gj f) (G.fa f)
 xw:∀b,vk G.K (G.CL b)
 wz:vk G.K G.CO
 Hv:∀b j,fP G.K (G.CL b) (OD j)
 MS:fP G.K (G.CL Q') "flags"
 wA:∀a,fP G.K G.CO (SY a)
 gi:∀n c,VU n=N' c->(∃t,G.mg (OV n)=N' (.int c t))/\(OV n=="__debug__")=Q'
 bi:∀x∈(["len","abs","min","max","sum","range","enumerate","zip","reversed"]:iG),G.mg x=O'
 di:∀d,AY d=Q'->∀X:Cx,X.K=G.K->X.mg=G.mg->X.1=P->X.w=w->wF G T X d
 tu:∀d,AY d=P'->∀X:Cx,X.K=G.K->X.mg=G.mg->M3 G T X d
 bm:BMain G.mg base
 made:∀f g nd,Ip f=.rJ g->cP (b9 (nV f))=N' nd->∃c0 Pt,(G.fd g).code=.ref c0/\Y9 base c0 Pt/\(Pt,nd.pos,u6 f)∈G.tb/\∀t∈G.tb,t.1=Pt->t=(Pt,nd.pos,u6 f)
 DJ:∀f name params body scope pos,lg f=2->cP (b9 (nV f))=N' (.d name params body scope pos)->∀clos ct doc cd,G.DJ f clos ct doc cd=fnX name (u6 f) params body scope clos .none .none doc ((G.mg "__name__").getD .none) O' cd ct
 cfl:∀f params body scope pos,lg f=2->cP (b9 (nV f))=N' (.l params body scope pos)->∀clos ct doc cd,G.DJ f clos ct doc cd=Xb "<lambda>" (u6 f) params body scope clos ((G.mg "__name__").getD .none) cd ct
structure Calls(P:Program)(w:V6)(base:Heap)(G:Gx)(n:Nat):Prop where
 Ah:∀f,lg f≠2->gX P w G.K G.mg base lM n (G.fa f) (G.fd f) (pf f) (uZ G (bt T defs n) f)
 T_:∀f,lg f=2->∀(A:WK) (outer:List Env) (s:Shared) (H:Hp) (us:TyJ) (vs cvs:List V) (a:VZ) (Q:VK),fH n A->rd P w G.K G.mg base A outer s H->nJ G [] H a f cvs->Vals vs us->uZ G (bt T defs n) f (vs++cvs) H Q E0->
  WW (V3 P w) A (.call (.ref a) #[us,[]]) (CR lM outer P w H s Q E0) s
section
variable {P:Program} {w:V6} {base:Heap} {G:Gx} {n:Nat}
def A0(f):(nF f).length=(defs f).slots/\(defs f).np<=(defs f).slots/\(pf f).length=(defs f).np/\(nF f).Nodup/\(Gj f=="__debug__")=false:=by have h:=jZ Gm f;unfold okN at h;simp![aD,bg,lj]at h;show#[h.1.1.1.1.1.1,h.1.1.1.1.1.2,h.1.1.1.1.2,h.1.1.1.2,h.1.2]
universe b
def OY{f:F}{xs:kS}{M:gf}{r:SV×Bool×gf}(h:bt T defs n f xs M=N' r):xs.length=(pf f).length:=by
 cases n with
 |zero=>simp[bt]at h
 |succ n=>
  have h:sI T (bt T defs n) (defs f) xs M=N' r:=h;unfold sI at h;split at h;rename_i j;rw[j,(A0 f).2.2.1];cases h
universe a
def R8:∀b f Z i,lg f=(if b then 3 else 1)->(DK Z i b).lookup (Gj f)=none:=by
 intro b f Z i h;have j:(u7.all λf=>decide (lg f=0)||decide (lg f=2)||(["vectors","predicates","scalars","flags","cells"]:iG).all λx=> !(Gj f==x))=true:=by decide+kernel
 have:=jZ j f;have o:¬lg f=0:=by rw[h];cases b<;>decide
 have q:¬lg f=2:=by rw[h];cases b<;>decide
 simp![o,q,decide_false,Bool.false_or,d6,List.all_nil,aD,lj]at this;obtain⟨r,s,u,y,B,_⟩:=this;cases b with
 |false=>simp![DK,wq,ij,r,s,u,y,C']
 |true=>simp![DK,ij,B,C']
def VV(t:Top P w base G)(y:Calls P w base G n){X:Cx}(u:X.K=G.K)(s:X.mg=G.mg)(B:X.1=P)(E:X.w=w)(H:X.base=base)(J:X.calm=P')(L:fH n X.A)(O:X.N.Nodup):Mo G T (bt T defs n) VU n X:=by
 subst B E H;apply#[u,s,J,L,O,λf o=> ?_,λf xs M r h _=>by rw[t.ps];show OY h,λf o=> ?_,λb f o=> ?_,λb f Z i o=> ?_,λb=>by rw[u];show t.xw b,by rw[u];show t.wz,λb j=>by rw[u];show t.Hv b j,by rw[u];show t.MS,λa=>by rw[u];show t.wA a,λf o=> ?_,λm c h=> ?_];rw[t.glob]at o;have o:lg f=0:=by simpa using o
 rw[s,u,t.nm];show#[(t.OX f o).1,(t.OX f o).2,(A0 f).2.2.2.2];rw[t.glob,t.eP]at o;have o:lg f≠2:=by
  rcases o with q|⟨b,q⟩;have:lg f=0:=by simpa using q
  lia;have:lg f=(if b then 3 else 1):=by simpa using q
  rw[this];cases b<;>decide
 rw[s,u,t.ps];show#[y.Ah f o,t.bd f o];rw[t.eP]at o;rw[u,t.nm];show t.met b f (by simpa using o);rw[t.eP]at o;rw[t.nm];show R8 b f Z i (by simpa using o);rw[t.j4]at o;rw[u,s];show y.T_ f (by simpa using o);rw[s,t.gn];show t.gi m c h
def rK(t:Top P w base G)(H:Calls P w base G n){X:Cx}{c:CK}(h:c.S=OW)(q:X.K=G.K)(j:X.mg=G.mg)(B:X.1=P)(E:X.w=w)(J:X.base=base)(L:X.calm=P')(M:fH n X.A)(O:X.N.Nodup)(Q:X.N=c.N)(r:X.env.1=c.sc)(s:X.fn=c.fn)(u:X.fz=c.fz)(y:X.xe=λ_ _=>False):pd c G T (bt T defs n) n X:=by have m:=VV t H q j B E J L M O;apply#[Q,r,s,u,y,by rw[h];show m,?_,λd o=> ?_,λd o=> ?_,by rw[h];show t.nm,by rw[h];show t.glob,by rw[h];show t.eP,by rw[h];show t.gn,by rw[h];show t.dn,by rw[h];show t.BY];constructor<;>(rw[j];show t.bi _ (by simp));rw[h]at o;show t.di d (by simpa [OW] using o) X q j B E;rw[h]at o;show t.tu d o X q j
end
instance rL(p:Arguments):Bool:=p.posonlyargs.isEmpty&&p.vararg.isNone&&p.kwonlyargs.isEmpty&&p.kw_defaults.isEmpty&&p.kwarg.isNone&&p.defaults.isEmpty&&p.args.all (λa=>a.annotation.isNone)
theorem Gn{env:Env}:∀{as:List Arg},as.all (λa=>a.annotation.isNone)=P'->annotationsOf as env=[]
 |[],_=>rfl
 |⟨x,O',p⟩::r,h=>by rw[d6,aD]at h;show annotationsOf r env=[];show Gn h.2
 |⟨x,N' a,p⟩::r,h=>by simp at h
def zD{p:Arguments}{env:Env}(h:rL p=P'):p.defaults=[]/\p.kw_defaults=[]/\YZ p O' env=[]/\YW p env=([],[]):=by obtain⟨q,a,r,s,j,o,d⟩:=p;unfold rL at h;simp![aD,ZW,vD]at h;obtain⟨⟨⟨⟨⟨⟨rfl,rfl⟩,rfl⟩,rfl⟩,rfl⟩,rfl⟩,h⟩:=h;apply#[S',S',?_,S'];unfold YZ;simp![ko,Option.toList,Gn h];rfl
instance Node.ps:Node->Arguments
 |.d _ p _ _ _=>p
 |.l p _ _ _=>p
def okM(g:F):Bool:=match Ip g with
 |.rJ f=>(match cP (b9 (nV g))with
  |some h=>rL h.ps&&h.sc.names.all (λy=> !decide (y.2=.free)||decide ((aG (nV f)).names.lookup y.1=N' .cell))&&(match h with
   |.d name _ _ _ _=>decide (u6 g=u6 f++".<locals>."++name)&& !((aG (nV f)).names.lookup name==N' .globalExplicit)
   |.l _ _ _ _=>decide (u6 g=u6 f++".<locals>."++"<lambda>"))
  |none=>Q')
 |_=>P'
def aaa:u7.all okM=true:=by decide+kernel
section
variable {P:Program} {w:V6} {base:Heap} {G:Gx} {n:Nat}
universe b
def N7(t:Top P w base G){f g:F}{O:Node}{r:Value}{A:WK}{j:List Env}{s:Shared}{H:Hp}{E:XK}(Q:(G.fd f).code=r)(D:CI (defs f).body=N' g)(B:cP (b9 (nV f))=N' O):∃U X,Lc G (pI lM P w G.K G.mg base (nF f) (u6 f) (aG (nV f)) (G.fa f) r A j s H E).vj g O U X:=by
 have h:=jZ Gm f;unfold okN at h;rw[D]at h;simp![aD,bg]at h;obtain⟨_,Y,L⟩:=h;split at L;rename_i o i u Z;simp![bg]at L;have:o=f:=zC L;subst this;have T:nV g=nV o:=by simp![nV,u,Z]
 rw[<-T]at B;obtain⟨U,X,V,R,I,S⟩:=t.made g o O u B;have M:=jZ aaa g;unfold okM at M;rw[u]at M;simp![B,aD]at M;obtain⟨⟨C,N⟩,J⟩:=M;apply#[U,X,by rw[t.j4];simp[Y],λname params body scope pos e=> ?_,λparams body scope pos e=> ?_,by rw[t.cq];show I,by rw[t.cq];show S,λy W a=> ?_,by rw[<-V,Q];rfl,R,t.bm];subst e;obtain⟨b,c,d,_⟩:=zD (env:=(pI lM P w G.K G.mg base (nF o) (u6 o) (aG (nV o)) (G.fa o) r A j s H E).vj.env) C;simp![aD,bg,lj]at J;apply#[?_,λq ct doc cd=>by rw[t.cq];show t.DJ g _ _ _ _ _ Y B q ct doc cd,b,c,d];rw[t.cq,J.1];show(if(aG (nV o)).names.lookup name==N' .globalExplicit then name else u6 o++".<locals>."++name)=_;rw[J.2];rfl;subst e;obtain⟨_,_,_,k⟩:=zD (env:=(pI lM P w G.K G.mg base (nF o) (u6 o) (aG (nV o)) (G.fa o) r A j s H E).vj.env) C;simp![bg]at J;apply#[?_,λq ct doc cd=>by rw[t.cq];show t.cfl g _ _ _ _ Y B q ct doc cd,k];rw[t.cq,J];rfl;have:=cC.mp N y W;simp![a,decide_true,Bool.not_true,Bool.false_or,bg]at this;show vX this;cases L
structure Lg(G:Gx):Prop where
 d:∀f name params body scope pos,lg f=2->cP (b9 (nV f))=N' (.d name params body scope pos)->∀(clos:L1) (pm ct doc cd:Value) (us:TyJ),us.length=(pf f).length-(A_ f).length->W8 (fnX name (u6 f) params body scope clos .none .none doc pm O' cd ct) #[us,[]]=pure ((LU f).zip us)
 l:∀f params body scope pos,lg f=2->cP (b9 (nV f))=N' (.l params body scope pos)->∀(clos:L1) (pm ct cd:Value) (us:TyJ),us.length=(pf f).length-(A_ f).length->W8 (Xb "<lambda>" (u6 f) params body scope clos pm cd ct) #[us,[]]=pure ((LU f).zip us)
def Em(t:Top P w base G)(b:Lg G)(X:Calls P w base G n):Calls P w base G (n+1):=by
 apply#[λf r=> ?_,λf r=> ?_];obtain⟨M,O,R,Q,_⟩:=A0 f;have U:fi (nF f) (pf f) (aG (nV f)):=by have h:=jZ Gm f;unfold okN at h;simp![aD,ab r]at h;show j0 h.1.1.2
 have:=QP (P:=P) (w:=w) (mg:=G.mg) (base:=base) (T:=T) (defs:=defs) (n:=n) (N:=nF f) (t.fn f r) (by rw[t.ps];show U) M O λY A j s H E Z L=>by have q:pd (Le f) G T (bt T defs n) n (pI lM P w G.K G.mg base (nF f) (u6 f) (aG (nV f)) (G.fa f) Y A j s H E).vj:=rK t X S' rfl rfl rfl rfl rfl rfl L Q S' rfl rfl rfl rfl;have h:=jZ Lf f;unfold okF at h;rw[ab r]at h;split at h;show R5 t.ps t.cs _ q (λ_=>rfl) (λg V I u=>N7 t Z I u) h;show PB.of (Ek t.ps _ q h)
 rw[t.ps]at this;show this;obtain⟨M,O,R,Q,_⟩:=A0 f;have y:=jZ Gm f;unfold okN at y;simp![aD,ae r]at y;have y:=y.1.1.2;have h:=jZ Lf f;unfold okF at h;rw[ae r]at h;cases u:cP (b9 (nV f))with
 |none=>rw[u]at h;cases h
 |some V=>
  rw[u]at h y;simp![aD,bg]at y;have U:=N6 y.1;have B:G.j4 f=true:=by rw[t.j4];simp[r]
  cases V with
  |d name params body scope pos=>
   have J:=t.DJ f _ _ _ _ _ r u;apply Na (name:=name) (params:=params) (body:=body) (scope:=scope) (pm:=(G.mg "__name__").getD .none) (N:=nF f) B (by rw[t.cq];show J) (by rw[t.ps,t.cs];show U) (by rw[t.ps,t.cs];show y.2) M O (by rw[t.ps,t.cs,t.cq];show λo ct doc cd us C=>b.d f _ _ _ _ _ r u o _ ct doc cd us C) λa cd o A j s H F L=> ?_;have q:pd (Gk f scope) G T (bt T defs n) n (qN lM P w G.K G.mg base (nF f) (G.cq f) scope a cd o A j s H E0).vj:=rK t X S' rfl rfl rfl rfl rfl rfl L Q S' rfl rfl rfl rfl;show Ek t.ps _ q h
  |l params body scope pos=>
   have J:=t.cfl f _ _ _ _ r u;simp only at h;split at h;rename_i S D;apply Nb (name:="<lambda>") (params:=params) (body:=body) (scope:=scope) (pm:=(G.mg "__name__").getD .none) (N:=nF f) B (by rw[t.cq];show J) (by rw[t.ps,t.cs];show U) M O D (by rw[t.ps,t.cs,t.cq];show λo ct cd us C=>b.l f _ _ _ _ r u o _ ct cd us C) λa cd o A j s H F L=> ?_;have q:pd (Gk f scope) G T (bt T defs n) n (qN lM P w G.K G.mg base (nF f) (G.cq f) scope a cd o A j s H E0).vj:=rK t X S' rfl rfl rfl rfl rfl rfl L Q S' rfl rfl rfl rfl;show cb S q h;cases h
universe a
def En(t:Top P w base G):Calls P w base G 0:=by apply#[λf q=> ?_,λf q A h s H us vs u a Q y B E r j=>by obtain⟨_,_,_,_,_,_,_,_,_,_,_,_,_,o,_⟩:=j;simp[bt]at o];have:=U3 (G:=G) (T:=T) (defs:=defs) (P:=P) (w:=w) (K:=G.K) (mg:=G.mg) (base:=base) (f:=f);rw[t.ps]at this;show this
theorem calls(t:Top P w base G)(b:Lg G):∀n,Calls P w base G n
 |0=>En t
 |n+1=>Em t b (calls t b n)
end
theorem CJ:∀{ns:iG} {us:TyJ},us.length=ns.length->∀x∈ns,((ns.zip us).lookup x).isNone=Q'
 |[],us,_,x,h=>by cases h
 |n::ns,[],j,x,h=>by simp at j
 |n::ns,u::us,j,x,h=>by
  rw[q0,ij];by_cases o:x=n;subst o;simp;have:(x==n)=false:=by simp[o]
  rw[this];show CJ (by simpa using j) x ((aE.mp h).resolve_left o)
theorem CM{j o:Type}{f g:j->Option o}:∀{l:List j},(∀x∈l,f x=g x)->l.filterMap f=l.filterMap g
 |[],_=>rfl
 |a::l,h=>by rw[tK,tK,h a (by simp),CM λx q=>h x (by simp[q])]
theorem xk:∀{ns:iG} {us:TyJ},ns.Nodup->us.length=ns.length->ns.filterMap (λn=>((ns.zip us).lookup n).map (n,·))=ns.zip us
 |[],us,_,_=>by simp
 |n::ns,[],_,h=>by simp at h
 |n::ns,u::us,nd,h=>by
  obtain⟨j,o⟩:=oi.mp nd;have q:=xk o (us:=us) (by simpa using h);rw[q0,tK];simp![ij,beq_self_eq_true,fM];congr 1;apply Eq.trans (CM λx r=> ?_) q;have:(x==n)=false:=by have:x≠n:=λz=>j (z▸r);simp[this]
  simp![this]
def oY{fd:FuncData}{h:List Arg}{names:iG}{us:TyJ}(o:fd.params=#[[],h,O',[],[],O',[]])(q:h.map (·.arg)=names)(r:fd.defaults=.none)(s:names.Nodup)(j:us.length=names.length):W8 fd #[us,[]]=pure (names.zip us):=by
 have u:(seqItems? YC:Sem _)=pure none:=rfl;have y:(names.take names.length).filter (λn=>((names.zip us).lookup n).isNone)=[]:=by rw[ZU,List.filter_eq_nil_iff];intro x B;rw[CJ j x B];decide
 unfold W8;rw[o,r,u];simp![qm,mB,q];show(if us.length>names.length&&P' then _ else _:Sem _)=_;rw[ab (by simp[j])];have E:((O':Option (Array Value)).getD #[]).toList=[]:=rfl;rw[E];simp![List.drop_nil,jb,Y3,y,List.zip_nil_right];show(pure ((names++[]).filterMap (λn=>((names.zip us).lookup n).map (n,·))):Sem _)=_;rw[ko,xk s j]
def okA(f:F):Bool:=if lg f=2 then(match cP (b9 (nV f))with
  |some h=>rL h.ps&&decide (h.ps.args.map (·.arg)=LU f)&&decide (LU f).Nodup&&decide ((LU f).length=(pf f).length-(A_ f).length)
  |none=>P')
 else rL (lJ (nV f))&&decide ((lJ (nV f)).args.map (·.arg)=pf f)&&decide (pf f).Nodup
def OZ:u7.all okA=true:=by decide+kernel
def zE{p:Arguments}(h:rL p=P'):p=#[[],p.args,O',[],[],O',[]]:=by obtain⟨q,a,r,s,j,o,d⟩:=p;unfold rL at h;simp![aD,ZW,vD]at h;obtain⟨⟨⟨⟨⟨⟨rfl,rfl⟩,rfl⟩,rfl⟩,rfl⟩,rfl⟩,h⟩:=h;rfl
def Gp{f:F}{j:Node}(o:lg f=2)(q:cP (b9 (nV f))=N' j):j.ps=#[[],j.ps.args,O',[],[],O',[]]/\j.ps.args.map (·.arg)=LU f/\(LU f).Nodup/\(LU f).length=(pf f).length-(A_ f).length:=by have h:=jZ OZ f;unfold okA at h;rw[ae o,q]at h;simp![aD,bg]at h;show#[zE h.1.1.1,h.1.1.2,h.1.2,h.2]
def bindC(G):Lg G:=by apply#[λf name params body scope pos j o h pm ct doc cd us q=> ?_,λf params body scope pos j o h pm ct cd us q=> ?_];obtain⟨r,s,u,y⟩:=Gp j o;show oY (fd:=fnX name (u6 f) params body scope h .none .none doc pm O' cd ct) r s S' u (by rw[y];show q);obtain⟨r,s,u,y⟩:=Gp j o;show oY (fd:=Xb "<lambda>" (u6 f) params body scope h pm cd ct) r s S' u (by rw[y];show q)
def aab{K:V7}{f:F}{x qual:Str}{o:VZ}{fd:FuncData}(q:lg f≠2)(r:xF K x qual (nV f) o fd):Binds K fd (pf f) []:=by have h:=jZ OZ f;unfold okA at h;rw[ab q]at h;simp![aD,bg]at h;show r.binds λs doc pm u j ct us y=>oY (fd:=fnOf x qual (lJ (nV f)) (b9 (nV f)) (aG (nV f)) .none s doc pm u j ct) (zE h.1.1) h.1.2 rfl h.2 y
def qV{x qual:Str}{j:Stmt}{f:VZ}{fd:FuncData}{h:List Arg}{ps:iG}(F:xF K x qual j f fd)(o:lJ j=#[[],h,O',[],[],O',[]])(q:h.map (·.arg)=ps)(r:ps.Nodup):Binds K fd ps []:=F.binds λ_ _ _ _ _ _ _ s=>oY o q S' r s
section
variable {G:Gx} {cl:By} {k:Nat} {X:Cx} {H:Hp} {σ:L2.St}
instance Z0:Zx:=#[Q',λ_=>0,λ_=>0,λ_=>0]
noncomputable def CN(ns:List (uQ)):Ev:=#[ns.map λo=>o.map SV.int,O']
def aac{ns:List (uQ)}(q:TabAt G H)(r:σ.length=ns.length)(s:∀(i:Nat) n,ns[i]?=N' (N' n)->σ[i]?=N' (N' (.int n))):Rel G Z0 [] H [] σ (CN ns) H O' where
 len:=by rw[r];simp[CN]
 uY:=λb j=>by cases j
 ext:=kX.refl H
 tab:=q
 iJ:=.inr #[S',S']
 wx:=λb j=>by simp[Zx.ma,Z0]at j
 val:=λi x h=>by
  unfold Ev.get CN at h;simp![cV]at h;cases e:ns[i]? with
  |none=>rw[e]at h;cases h
  |some o=>
   rw[e]at h;cases o with
   |none=>cases h
   |some n=>
    cases h;show#[.int n,s i n e,by simp[Rep]]
 no:=λ_=>rfl
 on:=λi xs h=>nomatch h
 ow:=λi xs h=>nomatch h
def A1{ns:List (uQ)}{j:IE}{n:Int}{Q:VK}(o:TabAt G H)(u:σ.length=ns.length)(y:∀(i:Nat) n,ns[i]?=N' (N' n)->σ[i]?=N' (N' (.int n)))(he:ay T cl (CN ns) O' j=N' (.int n,Q'))(q:∀h,Sm G H h->Q (.int n) h):tI G T cl j σ H Q:=#[Z0,[],H,[],_,O',_,_,aac o u y,he,λv h s r _=>by simp![Rep]at r;subst r;show q h s]
def aad{ns:List (uQ)}{j:IE}{b:Bool}{Q:VK}(o:TabAt G H)(u:σ.length=ns.length)(y:∀(i:Nat) n,ns[i]?=N' (N' n)->σ[i]?=N' (N' (.int n)))(he:ay T cl (CN ns) O' j=N' (.bl b,Q'))(q:∀h,Sm G H h->Q (.bl b) h):tI G T cl j σ H Q:=#[Z0,[],H,[],_,O',_,_,aac o u y,he,λv h s r _=>by simp![Rep]at r;subst r;show q h s]
end
end Lw
namespace Lw
instance lC(f:F):Nat:=pkF ([[21,28,35,42,49,56,63,70,77,84,91,264,0,271,0],[278,0,285,290,297,304,309,314,322,329,336,343,350,357,364],[371,378,385,392,400,407,412,419,426,433,440,447,454,461,469],[474,481,488,496,503,510,517,524,531,538,545,552,559,566,573],[580,587,594,601,608,615,622,629,636,643,650,657,664,671,678],[685,692,699,706,715,720,725,730,737,0,744,0,751,756,761],[766,771,776,781,786,791,796,801,0,808,815,822,827,832,0],[839,0,846,853,0,860,865,870,875,880,888,895,902,909,916],[923,930,937,944,951,958,966,973,980,985,990,0,997,1004,0],[1011,1018,1025,1032,1039,1046,1053,1060,1067,1074,1081,0,1086,1093,0],[1100,0,1107,0,1114,0,1121,1128,1133,1138,0,1145,0,1152,0],[1159,0,1166,1175,1180,1187,1192,1197,1202,1210,1217,1224,1231,1238,1246],[1253,1258,1265,1270,1275,1280,1285,0,1292,1300,1318,1325,1332,1339,1346],[1353,1360,1365,1370,1375,1380,1387,1394,1402,1409,1416,1423,1431,1438,1443],[1450,1457,1464,1471,1478,1485,1492,1499,1506,1514,112,119,126,133,140],[147,154,161,168,175,182,210,217,224,231]]:List (d_)) f 0
instance S7:D->Nat
 |.uH=>315
 |.a8=>393
 |.wd=>462
 |.uI=>489
 |.iE=>707
 |.kQ=>881
 |.bZ=>959
 |.rf=>1167
 |.uJ=>1239
 |.qF=>1293
 |.m4=>1301
 |.m5=>1395
 |.fc=>1424
 |.uW=>1507
 |.jv=>1203
instance LW:F->Nat
 |.gB=>266
 |.fR=>273
 |.bX=>280
 |.dv=>739
 |.cY=>746
 |.eC=>803
 |.iW=>834
 |.cZ=>841
 |.bh=>855
 |.fw=>992
 |.c5=>1006
 |.cw=>1083
 |.fy=>1095
 |.eD=>1102
 |.cx=>1109
 |.cy=>1116
 |.md=>1140
 |.fA=>1147
 |.gG=>1154
 |.cM=>1161
 |.eE=>1287
 |_=>0
noncomputable abbrev LX:Nat:=185
noncomputable abbrev Iq:Nat:=255
noncomputable abbrev Gr:Nat:=234
noncomputable abbrev Gs:Nat:=1552
noncomputable abbrev Ia:Nat:=105
noncomputable abbrev A2:Nat:=252
noncomputable abbrev A3:Nat:=1563
noncomputable abbrev Ib:Nat:=1570
noncomputable abbrev Lh:Nat:=203
noncomputable abbrev Li:Nat:=1528
noncomputable abbrev O0:Nat:=1535
noncomputable abbrev xl:Nat:=1542
noncomputable abbrev xW:Nat:=1549
noncomputable abbrev CP:Nat:=1577
instance Lj:d_:=[3,4,20,21,27,28,34,35,41,42,48,49,55,56,62,63,69,70,76,77,83,84,90,91,104,105,111,112,118,119,125,126,132,133,139,140,146,147,153,154,160,161,167,168,174,175,181,182,184,185,202,203,209,210,216,217,223,224,230,231,233,234,251,252,254,255,263,264,270,271,277,278,284,285,289,290,296,297,303,304,308,309,313,314,315,321,322,328,329,335,336,342,343,349,350,356,357,363,364,370,371,377,378,384,385,391,392,393,399,400,406,407,411,412,418,419,425,426,432,433,439,440,446,447,453,454,460,461,462,468,469,473,474,480,481,487,488,489,495,496,502,503,509,510,516,517,523,524,530,531,537,538,544,545,551,552,558,559,565,566,572,573,579,580,586,587,593,594,600,601,607,608,614,615,621,622,628,629,635,636,642,643,649,650,656,657,663,664,670,671,677,678,684,685,691,692,698,699,705,706,707,714,715,719,720,724,725,729,730,736,737,743,744,750,751,755,756,760,761,765,766,770,771,775,776,780,781,785,786,790,791,795,796,800,801,807,808,814,815,821,822,826,827,831,832,838,839,845,846,852,853,859,860,864,865,869,870,874,875,879,880,881,887,888,894,895,901,902,908,909,915,916,922,923,929,930,936,937,943,944,950,951,957,958,959,965,966,972,973,979,980,984,985,989,990,996,997,1003,1004,1010,1011,1017,1018,1024,1025,1031,1032,1038,1039,1045,1046,1052,1053,1059,1060,1066,1067,1073,1074,1080,1081,1085,1086,1092,1093,1099,1100,1106,1107,1113,1114,1120,1121,1127,1128,1132,1133,1137,1138,1144,1145,1151,1152,1158,1159,1165,1166,1167,1174,1175,1179,1180,1186,1187,1191,1192,1196,1197,1201,1202,1203,1209,1210,1216,1217,1223,1224,1230,1231,1237,1238,1239,1245,1246,1252,1253,1257,1258,1264,1265,1269,1270,1274,1275,1279,1280,1284,1285,1291,1292,1293,1299,1300,1301,1302,1303,1304,1305,1306,1307,1308,1309,1310,1311,1317,1318,1324,1325,1331,1332,1338,1339,1345,1346,1352,1353,1359,1360,1364,1365,1369,1370,1374,1375,1379,1380,1386,1387,1393,1394,1395,1401,1402,1408,1409,1415,1416,1422,1423,1424,1430,1431,1437,1438,1442,1443,1449,1450,1456,1457,1463,1464,1470,1471,1477,1478,1484,1485,1491,1492,1498,1499,1505,1506,1507,1513,1514,1527,1528,1534,1535,1541,1542,1548,1549,1551,1552,1562,1563,1569,1570,1576,1577]
instance Gu:d_:=[266,273,280,739,746,803,834,841,855,992,1006,1083,1095,1102,1109,1116,1140,1147,1154,1161,1287]
instance N8:List D:=[.uH,.a8,.wd,.uI,.iE,.kQ,.bZ,.rf,.uJ,.qF,.m4,.m5,.fc,.uW,.jv]
instance N9:List F:=[F.among,F.between,F.alike,F.mf]
end Lw
namespace Lw
open PySem PySem.W L2
instance gone(o:Obj):Bool:=match o.data with
 |.freed=>P'
 |_=>Q'
def Lk{o:Obj}(h:gone o=Q'):o.data≠.freed:=λe=>by unfold gone at h;rw[e]at h;cases h
def pick:List Obj->d_->Nat->V7
 |[],_,_=>[]
 |_::_,[],_=>[]
 |o::os,a::as,i=>match ZT a i,gone o with
  |true,Q'=>(a,o)::pick os as (i+1)
  |true,P'=>pick os as (i+1)
  |false,_=>pick os (a::as) (i+1)
theorem CQ:∀{q:List Obj} {as:d_} {i a:Nat} {o:Obj},(a,o)∈pick q as i->i<=a/\q[a-i]?=N' o/\o.data≠.freed
 |[],as,i,a,o,h=>by simp[pick]at h
 |r::q,[],i,a,o,h=>by simp[pick]at h
 |r::q,y::as,i,a,o,h=>by
  have j:∀{s:d_},(a,o)∈pick q s (i+1)->i<=a/\(r::q)[a-i]?=N' o/\o.data≠.freed:=λh'=>by obtain⟨G,B,E⟩:=CQ h';apply#[by lia,?_,E];obtain⟨d,rfl⟩:∃d,a=i+1+d:=#[a-(i+1),by lia];rw[show i+1+d-(i+1)=d by lia]at B;rw[show i+1+d-i=d+1 by lia,C3];show B
  rw[pick]at h;cases e:ZT y i with
  |false=>rw[e]at h;show j h
  |true=>
   rw[e]at h;have e':y=i:=Nat.eq_of_beq_eq_true e;subst e';cases u:gone r with
   |true=>rw[u]at h;show j h
   |false=>
    rw[u]at h;rcases aE.mp h with h|h;cases h;show#[aI _,by rw[XU];rfl,Lk u];show j h
def mem_lookup{K:V7}{a:Nat}{o:Obj}(h:K.lookup a=N' o):(a,o)∈K:=by
 induction K with
 |nil=>cases h
 |cons p K j=>
  obtain⟨b,q⟩:=p;rw[ij]at h;cases e:a==b with
  |true=>
   rw[e]at h;have:a=b:=by simpa using e
   subst this;cases h;show jx
  |false=>
   rw[e]at h;show dN _ (j h)
def Gv(h)(as):(pick h.objs.toList as 0).In h:=λa o e=>by obtain⟨_,j,q⟩:=CQ (mem_lookup e);rw[Y3,Array.getElem?_toList]at j;unfold Heap.get?;rw[j];obtain⟨s,u,r,y⟩:=o;cases r<;>first|rfl|show absurd rfl q
instance N_(K:V7)(name qual:Str)(a:Nat):Bool:=(match K.lookup a with
  |some ⟨_,_,.func fd,_⟩=>decide (fd.name=name)&&decide (fd.qualname=qual)&&decide (fd.globals=V1)&&fd.closure.isEmpty&&decide (fd.defaults=.none)&&decide (fd.code=.ref (a-1))&&decide (fd.builtins=WJ)
  |_=>Q')&&codeIn K (.ref (a-1)) qual
instance ptF(K:V7)(a:Nat):Option (Arguments×Y8×Scope):=match K.lookup a with
 |some ⟨_,_,.func fd,_⟩=>N' (fd.params,fd.body,fd.scope)
 |_=>O'
inductive XF|cT|ord|cnt|Oa|mem|Ob|go|pz|O1|rn
def faX:XF->Nat
 |.cT=>Ia|.ord=>A2|.cnt=>A3|.Oa=>Ib|.mem=>Lh|.Ob=>Li|.go=>O0|.pz=>xl|.O1=>xW|.rn=>CP
def nmX:XF->Str
 |.cnt=>"counted"|.Oa=>"told_parts"|.go=>"go"|.pz=>"try_step"|.O1=>"obey"|.rn=>"run"|_=>"__init__"
def qlX:XF->Str
 |.cT=>"Machine.__init__"|.ord=>"Order.__init__"|.mem=>"Memory.__init__"|.Ob=>"Walk.__init__"|.go=>"Walk.go"|.pz=>"Walk.try_step"|.O1=>"Walk.obey"|x=>nmX x
def Ll:List XF:=[.cT,.ord,.cnt,.Oa,.mem,.Ob,.go,.pz,.O1,.rn]
def CS:List F:=u7.filter λf=> !(lg f==2)
def Lm(K:V7):Bool:=CS.all (λf=>N_ K (OU f) (u6 f) (lC f))&&Ll.all λx=>N_ K (nmX x) (qlX x) (faX x)
def Oc(K:V7):Bool:=CS.all (λf=> !(lg f==0)||decide (Xh K V1 (Gj f)=N' (N' (.ref (lC f)))))&&
 (VW 9).all (λn=>match Xh K V1 (OV n)with|some (N' (.int c _))=>decide (VU n=N' c)|_=>Q')&&
 (["len","abs","min","max","sum","range","enumerate","zip","reversed","list"]:iG).all (λx=>decide (Xh K V1 x=N' O'))&&
 N8.all (λd=>decide (Xh K V1 (S6 d)=N' (N' (.ref (S7 d)))))&&
 decide (Xh K V1 "Machine"=N' (N' (.ref LX)))&&decide (Xh K V1 "Order"=N' (N' (.ref Iq)))&&
 decide (Xh K V1 "counted"=N' (N' (.ref A3)))&&decide (Xh K V1 "told_parts"=N' (N' (.ref Ib)))&&decide (Xh K V1 "Memory"=N' (N' (.ref Gr)))&&decide (Xh K V1 "Walk"=N' (N' (.ref Gs)))&&decide (Xh K V1 "run"=N' (N' (.ref CP)))&&
 decide (Xh K V1 "__builtins__"=N' (N' (.ref 4)))
instance R9(K:V7)(C:Nat)(h:Nat):Bool:=YU K C Str.empty&&Zv K C&&plainOver K C&&decide (Xd K (.ref C) "__setattr__"=N' (N' (.builtin "object.__setattr__")))&&makesIn K C&&XE K (.ref C)&&
 decide (Xd K (.ref C) "__init__"=N' (N' (.ref h)))
def aae:List (Nat×Nat×iG):=[(LX,Ia,["vectors","predicates","scalars","cells","flags"]),(Iq,A2,["sound","operation","k","n","zeroing","d","a","b","g","z","m"]),(Gr,Lh,["vectors","predicates","scalars","cells"]),(Gs,Li,["machine","memory","place","done","why"])]
def Ln:List (Str×Nat):=[("go",O0),("try_step",xl),("obey",xW)]
def aCL:Bool->Nat
 |false=>LX
 |true=>Gr
def Od(K:V7):Bool:=aae.all (λc=>R9 K c.1 c.2.1&&isFn K (.ref c.2.1)&&c.2.2.all λx=>decide (Xd K (.ref c.1) x=N' O'))&&
 CS.all (λf=>decide (lg f=0)||decide (Xd K (.ref (aCL (lg f==3))) (Gj f)=N' (N' (.ref (lC f)))))&&
 CS.all (λf=>isFn K (.ref (lC f)))&&Ln.all λx=>decide (Xd K (.ref Gs) x.1=N' (N' (.ref x.2)))&&isFn K (.ref x.2)&&XE K (.ref x.2)
instance Ic(e:DictEntry):Option (Int×Value):=match e.key with
 |.int i _=>if e.hash=hashInt i then N' (i,e.val)else O'
 |_=>O'
def Lo(K:V7)(a:Nat):Option (List (Int×Value)):=match K.lookup a with
 |some ⟨cl,dd,.dict es _,sl⟩=>if cl=.type "dict"&&dd.isNone&&sl.isEmpty then es.toList.mapM Ic else O'
 |_=>O'
instance tupI(K:V7)(a:Nat):Option (List Int):=match K.lookup a with
 |some ⟨.type "tuple",_,.seq its _,_⟩=>its.toList.mapM λv=>match v with
  |.int i _=>N' i
  |_=>O'
 |_=>O'
def R_(K:V7):Bool:=N8.all λd=>match AY d with
 |true=>(match K.lookup (S7 d)with
  |some ⟨cl,_,.seq its _,_⟩=>decide (cl=.type "tuple")&&decide (its.toList=N9.map λf=>.ref (lC f))
  |_=>Q')
 |false=>(match Lo K (S7 d)with
  |some l=>(match DT d with
   |true=>decide (l=(wI d).map λx=>(x.1,.ref (lC x.2)))
   |false=>decide (l.map (·.1)=B8.map (·.1))&&(l.zip B8).all λx=>match x.1.2 with
    |.ref a=>decide (tupI K a=N' x.2.2)
    |_=>Q')
  |none=>Q')
def rP:XF->Stmt
 |.cT=>AX 15 0|.ord=>AX 20 0|.cnt=>xj 269|.Oa=>xj 270|.mem=>AX 18 0|.Ob=>AX 267 0|.go=>AX 267 1|.pz=>AX 267 2|.O1=>AX 267 3|.rn=>xj 271
instance nY(K:V7)(a:Nat):FuncData:=match K.lookup a with
 |some ⟨_,_,.func fd,_⟩=>fd
 |_=>default
def ptS(h:Stmt):Option (Arguments×Y8×Scope):=N' (lJ h,.stmts (b9 h),aG h)
universe b
def Lp{K:V7}{x qual:Str}{a:Nat}{s:Stmt}(h:N_ K x qual a=P')(t:ptF K a=ptS s):xF K x qual s a (nY K a)/\(nY K a).code=.ref (a-1):=by
 unfold N_ at h;rw[aD]at h;obtain⟨h,P⟩:=h;unfold ptF ptS at t;unfold nY;split at h
 ·rename_i Q U fd X j;first|rw[j]at t⊢|rw[j]at t
  simp![aF,aH]at t;obtain⟨u,y,B⟩:=t;simp![aD,bg]at h;obtain⟨⟨⟨⟨⟨⟨E,G⟩,H⟩,J⟩,L⟩,o⟩,M⟩:=h;have q:XE K (.ref a)=true:=by unfold XE;simp![j]
  apply#[#[#[Q,U,fd.kwdefaults,fd.doc,fd.pyModule,fd.annotations,fd.code,fd.closureTuple,X,?_,j,by rw[o];show P],q],o];obtain⟨V,R,I,S,A,N,O,W,b,Y,Z,T,C,F,D⟩:=fd;simp only at E G H J L o M u y B;have r:O=[]:=by
   cases O with
   |nil=>rfl
   |cons _ _=>cases J
  subst E G H r L M u y B;rfl
 ·cases h
def Sa(K:V7):List (Option (Arguments×Y8×Scope)):=CS.map (λf=>ptF K (lC f))++Ll.map λx=>ptF K (faX x)
def LY:List (Option (Arguments×Y8×Scope)):=CS.map (λf=>ptS (nV f))++Ll.map λx=>ptS (rP x)
def Sb(K h:V7):Bool:=Gu.all λa=>(K.lookup a).isNone&&(match h.lookup a with
 |some ⟨cl,O',.fields vs,sl⟩=>decide (cl=.none)&&vs.isEmpty&&sl.isEmpty
 |_=>Q')
instance Lq(K:V7)(c P:Nat):Bool:=match K.lookup c with
 |some ⟨cl,_,.fields vs,_⟩=>decide (cl=.type "code")&&decide (vs[11]?=N' (.ref P))&&decide (vs.getD 11 .none=.ref P)&&(match vs.getD 18 .none,vs.getD 7 .none,vs.getD 9 .none,vs.getD 10 .none with
  |Value.str _ _,Yi _ _,Value.bool _,Yi _ _=>P'
  |_,_,_,_=>Q')&&decide (c≠P)
 |_=>Q'
def Ie:List F:=u7.filter λf=>lg f==2
def Sd(K:V7):Bool:=Ie.all λf=>match Ip f with
 |.rJ g=>Lq K (lC g-1) (LW f)&&decide (LW f∈Gu)
 |_=>Q'
instance Oe(K:V7):Bool:=match K.lookup 4 with
 |some ⟨cl,d,.plain,_⟩=>decide (cl=.type "module")&&decide (d=N' WJ)
 |_=>Q'
def Ig(K h:V7):Bool:=Lm K&&Oc K&&Od K&&R_ K&&Sb K h&&Sd K&&Oe K
def Laid(h:Heap):Prop:=∃K j:V7,K.In h/\j.In h/\Ig K j=P'/\Sa K=LY
def Ih(s:Shared):Bool×List (Option (Arguments×Y8×Scope)):=(Ig (pick s.1.1.toList Lj 0) (pick s.1.1.toList Gu 0),Sa (pick s.1.1.toList Lj 0))
universe a
def Of{s:Shared}(e:Ih s=(P',LY)):Laid s.heap:=by unfold Ih at e;obtain⟨h,j⟩:=Prod.mk.inj e;show#[_,_,Gv _ _,Gv _ _,h,j]
def Laid.keeps{h h':Heap}(l:Laid h)(k:∀b o,h.get? b=N' o->h'.get? b=N' o):Laid h':=let ⟨K,KT,a,b,c,d⟩:=l
 #[K,KT,a.keeps k,b.keeps k,c,d]
def tbL:List (VZ×Pos×Str):=Ie.filterMap λf=>(cP (b9 (nV f))).map λh=>(LW f,h.pos,u6 f)
def Lr(mg:x1)(f:F)(h:L1)(ct doc cd:Value):FuncData:=match cP (b9 (nV f))with
 |some (.d name params body scope _)=>fnX name (u6 f) params body scope h .none .none doc ((mg "__name__").getD .none) O' cd ct
 |some (.l params body scope _)=>Xb "<lambda>" (u6 f) params body scope h ((mg "__name__").getD .none) cd ct
 |none=>default
def gx(K:V7)(mg:x1):Gx where
 K:=K
 mg:=mg
 CL:=aCL
 CO:=Iq
 nm:=Gj
 fa:=lC
 fd:=λf=>nY K (lC f)
 ps:=pf
 glob:=λf=>lg f==0
 eP:=λb f=>lg f==(if b then 3 else 1)
 j4:=λf=>lg f==2
 gn:=OV
 dn:=S6
 da:=S7
 BY:=DT
 tb:=tbL
 cs:=A_
 cq:=u6
 DJ:=Lr mg
def Gw{f:F}(h:lg f≠2):f∈CS:=lD.mpr #[AZ f,by simp[h]]
def A4{f:F}(h:lg f=2):f∈Ie:=lD.mpr #[AZ f,by simp[h]]
def tr{p:F->Bool}(h:CS.all p=P'){f:F}(j:lg f≠2):p f=true:=cC.mp h f (Gw j)
def xn(d):d∈N8:=by cases d<;>simp[N8]
def CT(x:XF):x∈Ll:=by cases x<;>simp[Ll]
section
variable {K KT:V7} {mg:x1} {base:Heap}
structure ux(K KT:V7):Prop where
 f:Lm K=P'
 g:Oc K=P'
 m:Od K=P'
 d:R_ K=P'
 t:Sb K KT=P'
 n:Sd K=P'
 b:Oe K=P'
 tx:Sa K=LY
def Se(h:Ig K KT=P')(t:Sa K=LY):ux K KT:=by unfold Ig at h;simp![aD]at h;obtain⟨⟨⟨⟨⟨⟨j,o⟩,q⟩,r⟩,s⟩,u⟩,y⟩:=h;show#[j,o,q,r,s,u,y,t]
def Gy{j:Type}{a b c d:List j}(h:a++b=c++d)(o:a.length=c.length):a=c/\b=d:=List.append_inj h o
def ux.fn(c:ux K KT){f:F}(j:lg f≠2):xF K (OU f) (u6 f) (nV f) (lC f) (nY K (lC f))/\(nY K (lC f)).code=.ref (lC f-1):=by have h:=c.f;unfold Lm at h;rw[aD]at h;have o:=c.tx;unfold Sa LY at o;have q:=(Gy o (by simp)).1;show Lp (tr h.1 j) (List.map_inj_left.mp q f (Gw j))
def ux.fx(c:ux K KT)(x:XF):xF K (nmX x) (qlX x) (rP x) (faX x) (nY K (faX x)):=by have h:=c.f;unfold Lm at h;rw[aD]at h;have j:=c.tx;unfold Sa LY at j;have o:=(Gy j (by simp)).2;show(Lp (cC.mp h.2 x (CT x)) (List.map_inj_left.mp o x (CT x))).1
structure GlK(K:V7):Prop where
 f:∀f,lg f=0->Xh K V1 (Gj f)=N' (N' (.ref (lC f)))
 i:∀n c,VU n=N' c->∃t,Xh K V1 (OV n)=N' (N' (.int c t))
 b:∀x∈(["len","abs","min","max","sum","range","enumerate","zip","reversed","list"]:iG),Xh K V1 x=N' O'
 d:∀d,Xh K V1 (S6 d)=N' (N' (.ref (S7 d)))
 cT:Xh K V1 "Machine"=N' (N' (.ref LX))
 ord:Xh K V1 "Order"=N' (N' (.ref Iq))
 cnt:Xh K V1 "counted"=N' (N' (.ref A3))
 Oa:Xh K V1 "told_parts"=N' (N' (.ref Ib))
 mem:Xh K V1 "Memory"=N' (N' (.ref Gr))
 Ob:Xh K V1 "Walk"=N' (N' (.ref Gs))
 rn:Xh K V1 "run"=N' (N' (.ref CP))
 bm:Xh K V1 "__builtins__"=N' (N' (.ref 4))
universe b
def ux.gl(c:ux K KT):GlK K:=by
 have h:=c.g;unfold Oc at h;simp![aD,bg]at h;obtain⟨⟨⟨⟨⟨⟨⟨⟨⟨⟨⟨y,B⟩,E⟩,G⟩,H⟩,J⟩,L⟩,M⟩,O⟩,j⟩,o⟩,q⟩:=h;apply#[λf s=> ?_,λn P u=> ?_,λx Q=> ?_,λd=> ?_,H,J,L,M,O,j,o,q];have:=tr y (f:=f) (by rw[s];decide);simpa [s] using this;have r:n∈VW 9:=cg.mpr (Iu λz=>by obtain⟨k,rfl⟩:∃k,n=k+9:=#[n-9,by lia];cases u);have:=cC.mp B n r;split at this;rename_i U t e;rw[u]at this;have X:P=U:=by simpa using this
 subst X;show#[t,e];cases this;have:=cC.mp E x Q;simpa using this;have:=cC.mp G d (xn d);simpa using this
structure MtK(K:V7):Prop where
 cl:∀c∈aae,vk K c.1/\L2.Mk K c.1 c.2.1/\∀x∈c.2.2,fP K c.1 x
 me:∀b f,lg f=(if b then 3 else 1)->Meth K (aCL b) (Gj f) (lC f)
 wm:∀x∈Ln,Meth K Gs x.1 x.2
universe a
def Sf{C f:Nat}(h:R9 K C f=P')(j:isFn K (.ref f)=P'):vk K C/\L2.Mk K C f:=by unfold R9 at h;simp![aD,bg]at h;obtain⟨⟨⟨⟨⟨⟨o,q⟩,r⟩,s⟩,u⟩,y⟩,B⟩:=h;show#[#[o,q,r,s],#[u,B,j,y]]
def ux.mt(c:ux K KT):MtK K:=by
 have h:=c.m;unfold Od at h;simp![aD]at h;obtain⟨⟨⟨r,s⟩,u⟩,y⟩:=h;apply#[λd B=> ?_,λb f q=> ?_,λx j=> ?_];have:=cC.mp r d B;simp![aD]at this;obtain⟨a,b⟩:=Sf this.1.1 this.1.2;apply#[a,b,λx j=> ?_];have:=cC.mp this.2 x j;rw[bg]at this;show this;have o:lg f≠2:=by rw[q];cases b<;>decide
 have:=tr s o;apply#[?_,tr u o,(c.fn o).1.kp];rw[q]at this;cases b<;>simpa using this;have:=cC.mp y x j;simp![aD,bg]at this;show#[this.1.1,this.1.2,this.2]
end
section
variable {K KT:V7} {mg:x1} {base:Heap} {P:Program} {w:V6}
def A5(d)(h:AY d=Q')(i):a_ d i=Av (wI d) i:=rfl
def Ls(d)(i){l:List Int}(h:QQ d i=N' l):d=.m4/\Av B8 i=N' l:=by cases d<;>first|show#[S',h]|cases h
def GA(d)(h:AY d=Q')(i):qO d i=decide (i∈if DT d=P' then(wI d).map (·.1)else B8.map (·.1)):=rfl
def ts{l:List (Int×Value)}(i):YO (l.map λx=>((WL x.1:Key),x.2)) (.inl i)=Av l i:=by
 induction l with
 |nil=>rfl
 |cons x l j=>
  obtain⟨k,v⟩:=x;unfold YO at j|-;rw[bf,D'];unfold Av;by_cases h:i=k;subst h;simp;have:¬(WL k:Key)=WL i:=λz=>h (Sum.inl.inj z).symm;rw[ab h,bp this];show j
def CU{j:Type}{l:List (Int×j)}{i:Int}:(Av l i).isSome=decide (i∈l.map (·.1)):=by
 induction l with
 |nil=>rfl
 |cons x l o=>
  obtain⟨k,v⟩:=x;unfold Av;by_cases h:i=k;subst h;simp;rw[ab h,o];simp[h]
def GD{h j:Type}{g:h->j}{l:List (Int×h)}{i:Int}:Av (l.map λx=>(x.1,g x.2)) i=(Av l i).map g:=by
 induction l with
 |nil=>rfl
 |cons x l o=>
  obtain⟨k,v⟩:=x;simp![bf,Av];split;rfl;show o
universe b
def Og{e:DictEntry}{i:Int}{v:Value}(h:Ic e=N' (i,v)):(∃t,e.key=.int i t)/\e.hash=hashInt i/\e.val=v:=by unfold Ic at h;split at h;rename_i q t j;split at h;rename_i o;cases h;show#[#[t,j],o,S'];cases h;cases h
universe a
theorem xo:∀{j:List DictEntry} {l:List (Int×Value)},j.mapM Ic=N' l->Pairs (gV P w) j (l.map λx=>((WL x.1:Key),x.2))/\∀e∈j,∃k,(gV P w).is k e.key=P'/\e.hash=(gV P w).hash k
 |[],l,h=>by simp at h;subst h;show#[.nil,λe he=>by cases he]
 |e::j,l,h=>by
  rw[List.mapM_cons]at h;cases he:Ic e with
  |none=>rw[he]at h;cases h
  |some x=>
   rw[he]at h;cases o:j.mapM Ic with
   |none=>rw[o]at h;cases h
   |some r=>
    rw[o]at h;cases h;obtain⟨i,v⟩:=x;obtain⟨⟨t,s⟩,u,y⟩:=Og he;obtain⟨a,b⟩:=xo o;have q:(gV P w).is (.inl i) e.key=true:=by rw[s];show uD P w i t
    apply#[.cons q y a,λe' h'=> ?_];rcases aE.mp h' with z|z;subst z;show#[.inl i,q,u];show b e' z
universe b
def GF{a:Nat}{l:List (Int×Value)}(h:Lo K a=N' l)(r:(l.map (·.1)).Nodup)(o)(s:K.In o):o.DictOf (gV P w) a (l.map λx=>((WL x.1:Key),x.2)):=by
 unfold Lo at h;split at h;rename_i O Q u y U B;split at h;rename_i q;simp![aD,bg,vD,ZG]at q;obtain⟨⟨E,G⟩,H⟩:=q;obtain⟨J,L⟩:=xo (P:=P) (w:=w) h;apply#[_,u,y,s _ _ B,#[E,G,H],S',λe he=>L e (Array.mem_toList_iff.mpr he),J,?_];rw[aS];have:((λj:Key×Value=>j.1)∘λx:Int×Value=>((WL x.1:Key),x.2))=λx=>WL x.1:=rfl;have M:l.map ((λj:Key×Value=>j.1)∘λx:Int×Value=>((WL x.1:Key),x.2))=(l.map (·.1)).map (WL:Int->Key):=by rw[aS];rfl
 rw[M];show List.Pairwise.map _ (λa b h z=>h (Sum.inl.inj z)) r;cases h;cases h
universe a
theorem A6:∀{vs:TyJ} {l:List Int},(vs.mapM λv=>match v with
  |Value.int i _=>N' i
  |_=>O')=N' l->Vals (l.map V.int) vs
 |[],l,h=>by simp at h;subst h;show .nil
 |v::vs,l,h=>by
  rw[List.mapM_cons]at h;cases v with
  |int i t=>
   cases j:(vs.mapM λv=>match v with
    |Value.int i _=>N' i
    |_=>O')with
   |none=>simp![j]at h;cases h
   |some r=>
    simp![j]at h;cases h;show .cons #[t,S'] (A6 j)
  |_=>cases h
end
theorem zF:∀(l:List F),Vals (l.map λf=>V.ref (lC f)) (l.map λf=>Wc (lC f))
 |[]=>.nil
 |f::l=>.cons S' (zF l)
def Sg(d):((wI d).map (·.1)).Nodup:=by cases d<;>decide
def Sh:(B8.map (·.1)).Nodup:=by decide
def O2(d):(S6 d=="__debug__")=false:=by cases d<;>decide+kernel
def aaf(d):(S7 d==X9)=false:=by cases d<;>decide+kernel
def Lu(d):∀x∈wI d,lg x.2=0:=by cases d<;>decide+kernel
def Lv:∀f∈N9,lg f=0:=by decide+kernel
section
variable {K KT:V7} {mg:x1} {base:Heap} {P:Program} {w:V6}
universe b
def GI{j:Type}{l:List (Int×j)}{i:Int}{v:j}(h:Av l i=N' v):(i,v)∈l:=by
 induction l with
 |nil=>cases h
 |cons x l o=>
  obtain⟨k,u⟩:=x;unfold Av at h;split at h;rename_i e;cases h;rw[e];show jx;show dN _ (o h)
universe a
theorem Lx:∀{l:List (Int×Value)} {m:List (Int×List Int)} {p:Value->List Int->Prop},l.map (·.1)=m.map (·.1)->(∀x∈l.zip m,p x.1.2 x.2.2)->∀{i:Int} {q:List Int},Av m i=N' q->∃v,Av l i=N' v/\p v q
 |[],[],p,_,_,i,q,h=>by cases h
 |[],y::m,p,e,_,i,q,h=>by simp at e
 |x::l,[],p,e,_,i,q,h=>by simp at e
 |x::l,y::m,p,e,j,i,q,h=>by obtain⟨k,v⟩:=x;obtain⟨E,u⟩:=y;simp![bf,List.cons.injEq]at e;obtain⟨r,s⟩:=e;subst r;unfold Av at h|-;by_cases o:i=k;rw[ae o]at h|-;cases h;show#[v,S',j ((k,v),(k,q)) (by simp)];rw[ab o]at h|-;show Lx s (λx B=>j x (by rw[q0];show dN _ B)) h
universe b
def ux.di(c:ux K KT)(U:K.In base)(G:base.Ns V1 mg)(d)(r:AY d=Q')(X)(H:X.K=K)(Y:X.mg=mg)(V:X.1=P)(R:X.w=w):wF (gx K mg) T X d:=by
 have j:=cC.mp c.d d (xn d);rw[r]at j;simp only at j;apply#[by rw[Y];show X2 U G (c.gl.d d),O2 d,aaf d,?_];split at j;rename_i l M;have O:∀i:Int,T.qH d i=qO d i:=λ_=>rfl;have J:∀i:Int,T.iZ d i=a_ d i:=λ_=>rfl;have E:∀i:Int,T.DE d i=QQ d i:=λ_=>rfl;split at j;rename_i s;rw[bg]at j;have u:l.map (·.1)=(wI d).map (·.1):=by rw[j,aS];rfl
 apply#[l.map λx=>((WL x.1:Key),x.2),λh y=>GF M (by rw[u];show Sg d) h (by rw[<-H];show y),λi=> ?_,λi f h=> ?_,λi o h=> ?_,λi q h=> ?_];rw[O,GA d r,ae s,ts,CU,u];rw[J,A5 d r]at h;apply#[?_,?_];rw[ts,j,GD (g:=λf=>Wc (lC f)),h];rfl;show(lg f==0)=P';rw[Lu d _ (GI h)];rfl;rw[J,A5 d r]at h;rw[ts,j,GD (g:=λf=>Wc (lC f)),h];rfl;rw[E]at h;obtain⟨e,_⟩:=Ls d i h;subst e;cases s;rename_i s;simp![aD,bg,cC]at j;obtain⟨u,Z⟩:=j;apply#[l.map λx=>((WL x.1:Key),x.2),λh y=>GF M (by rw[u];show Sh) h (by rw[<-H];show y),λi=> ?_,λi f h=> ?_,λi o h=> ?_,λi q h=> ?_];rw[O,GA d r,ab (by rw[s];decide),ts,CU,u];rw[J,A5 d r]at h;have:wI d=[]:=by cases d<;>first|rfl|cases s
 rw[this]at h;cases h;rw[show(gx K mg).BY d=DT d from rfl,s]at o;cases o;rw[E]at h;obtain⟨_,h⟩:=Ls d i h;obtain⟨v,C,a,rfl,B⟩:=Lx (p:=λv q=>∃a,v=.ref a/\tupI K a=N' q) u (λx E=>by have:=Z x E;split at this;rename_i a e;show#[a,e,by simpa using this];cases this) h;apply#[a,by rw[ts];show C,?_];rw[H];unfold tupI at B;split at B;rename_i I L n S y;apply .inr #[_,L,n,y,S',S',?_,A6 B];have Q:=(A6 B).length;have F:q.length<=3:=by
  have D:=GI h;have:∀x∈B8,x.2.length<=3:=by decide
  show this _ D
 rw[aB]at Q;rw[<-tJ,<-Q];show c_ F ();cases B;cases j
def ux.tu(c:ux K KT)(u:K.In base)(o:base.Ns V1 mg)(d:D)(r:AY d=P')(X)(y:X.K=K)(B:X.mg=mg):M3 (gx K mg) T X d:=by
 have j:=cC.mp c.d d (xn d);rw[r]at j;simp only at j;apply#[by rw[B];show X2 u o (c.gl.d d),O2 d,?_];split at j;rename_i J L q n M E;simp![aD,bg]at j;obtain⟨G,s⟩:=j;apply#[N9,λf H=>by show(lg f==0)=P';rw[Lv f H];rfl,?_,λi f h=> ?_];rw[y];apply .inr #[_,q,n,E,G,S',?_,?_];rw[<-tJ,s,aB];decide;rw[s];show zF N9;have:d=.jv:=by cases d<;>first|rfl|cases r
 subst this;show h;cases j
end
def aag:(u7.all λf=>match Ip f with
  |.rJ g=>lg f==2&&lg g==0
  |_=> !(lg f==2))=true:=by decide+kernel
def Si:(Ie.all λf=>Ie.all λg=> !(LW f==LW g)||f.ix==g.ix)=true:=by decide+kernel
def aah:∀n,n<9->(OV n==("__debug__":Str))=false:=by decide+kernel
section
variable {K KT:V7} {mg:x1} {base:Heap} {P:Program} {w:V6}
universe b
def GJ{c j:Nat}(h:Lq K c j=P')(q:K.In base):Y9 base c j:=by unfold Lq at h;split at h;rename_i L M vs O r;simp![aD,bg]at h;obtain⟨⟨⟨⟨s,u⟩,y⟩,o⟩,B⟩:=h;split at o;rename_i Q U X Y Z T C E G H J;show#[_,vs,_,_,_,_,_,_,_,q _ _ r,s,S',u,y,E,G,H,J,B];cases o;cases h
def ux.top(c:ux K KT)(s:K.In base)(o:base.Ns V1 mg):Top P w base (gx K mg) where
 nm:=rfl
 ps:=rfl
 glob:=rfl
 eP:=rfl
 j4:=rfl
 gn:=rfl
 dn:=rfl
 BY:=rfl
 cs:=rfl
 cq:=rfl
 fn:=λf r=>(c.fn r).1
 bd:=λf r=>aab r (c.fn r).1
 OX:=λf r=>#[X2 s o (c.gl.f f r),(c.fn (by rw[r];decide)).1.kp]
 met:=λb f r=>c.mt.me b f r
 xw:=λb=>match b with
  |false=>(c.mt.cl _ (.head _)).1
  |true=>(c.mt.cl _ (.tail _ (.tail _ (.head _)))).1
 wz:=(c.mt.cl _ (.tail _ (.head _))).1
 Hv:=λb j=>match b with
  |false=>(c.mt.cl _ (.head _)).2.2 _ (by cases j<;>simp[OD])
  |true=>(c.mt.cl _ (.tail _ (.tail _ (.head _)))).2.2 _ (by cases j<;>simp[OD])
 MS:=(c.mt.cl _ (.head _)).2.2 _ (by simp)
 wA:=λa=>(c.mt.cl _ (.tail _ (.head _))).2.2 _ (by cases a<;>simp[SY])
 gi:=λn Y u=>by obtain⟨t,e⟩:=c.gl.i n Y u;apply#[#[t,X2 s o e],?_];show aah n (Iu λz=>by obtain⟨k,rfl⟩:∃k,n=k+9:=#[n-9,by lia];cases u)
 bi:=λx M=>mg_none_of s o (c.gl.b x (by simp![aE,kn,lI]at M|-;rcases M with h|h|h|h|h|h|h|h|h<;>simp[h]))
 di:=λd B X E G Z T=>c.di s o d B X E G Z T
 tu:=λd B X E G=>c.tu s o d B X E G
 bm:=by have h:=c.b;unfold Oe at h;split at h;rename_i cl S A H;simp![aD,bg]at h;show#[4,_,X2 s o c.gl.bm,by decide,s _ _ H,h.1,h.2,S'];cases h
 made:=λf g N O y=>by have hpl:=jZ aag f;rw[O]at hpl;simp![aD,beq_iff_eq]at hpl;obtain⟨J,C⟩:=hpl;have u:=cC.mp c.n f (A4 J);rw[O]at u;simp![aD,bg]at u;apply#[lC g-1,LW f,(c.fn (by rw[C];decide)).2,GJ u.1 s,vK.mpr #[f,A4 J,by rw[y];rfl],λt F e=> ?_];obtain⟨L,D,V⟩:=vK.mp F;obtain⟨R,Q,I⟩:=bj.mp V;subst I;have U:=cC.mp (cC.mp Si L D) f (A4 J);have e':LW L=LW f:=e;rw[e']at U;have:L=f:=zC (by simpa using U);subst this;rw[y]at Q;cases Q;rfl
 DJ:=λf name params body scope pos H y q ct doc cd=>by show Lr mg f q ct doc cd=_;unfold Lr;rw[y];rfl
 cfl:=λf params body scope pos H y q ct doc cd=>by show Lr mg f q ct doc cd=_;unfold Lr;rw[y];rfl
end
instance Oh:iG:=["self","instruction","second"]
def Sj:fi Oh ["self","instruction"] (aG (rP .ord)):=j0 (by decide+kernel)
def cOr:CK:=#[OW,Oh,aG (rP .ord),λ_=>P',λ_=>Q']
structure qW(G:Gx)(p:VZ)(H H':Hp):Prop where
 kp:∀b o,H b=N' o->NT o->b≠p->H' b=N' o
 tb:∀b ps,H b=N' (.qK ps)->∃ps',H' b=N' (.qK ps')
 ta:TabAt G H->TabAt G H'
section
variable {G:Gx} {p:VZ} {H H1 H2:Hp}
def qW.refl:qW G p H H:=#[λ_ _ h _ _=>h,λ_ ps h=>#[ps,h],id]
def qW.trans(a:qW G p H H1)(b:qW G p H1 H2):qW G p H H2:=#[λc o h n e=>b.kp c o (a.kp c o h n e) n e,λc ps h=>let ⟨ps',h'⟩:=a.tb c ps h;b.tb c ps' h',λt=>b.ta (a.ta t)]
def qW.of(a:Sm G H H1):qW G p H H1:=#[λc o h n _=>a.kp c o h n,a.tb,a.ta]
def qW.upd{C j:VZ}{fs fs':List (Str×V)}(h:H p=N' (.ins C j fs)):qW G p H (L2.upd H p (.ins C j fs')) where
 kp:=λc o r n e=>by rw[aq e];show r
 tb:=λc ps r=>by
  have e:c≠p:=λz=>by subst z;rw[h]at r;cases r
  show#[ps,by rw[aq e];show r]
 ta:=λt y B=>by
  have s:∀{b:VZ} {o:HO},H b=N' o->(∀C j fs,o≠.ins C j fs)->L2.upd H p (.ins C j fs') b=N' o:=λ{b o} u E=>by
   have e:b≠p:=λz=>by subst z;rw[h]at u;cases u;show E _ _ _ S'
   rw[aq e];show u
  rcases t y B with z|⟨J,L,M⟩;show .inl (s z λ_ _ _ q=>(nomatch q));show .inr #[J,s L (λ_ _ _ q=>(nomatch q)),s M (λ_ _ _ q=>(nomatch q))]
end
theorem xp{f:Str}{v:V}:∀{fs:List (Str×V)},(fs.all λx=> !(decide (x.1=f)))=P'->lW f v fs=fs++[(f,v)]
 |[],_=>rfl
 |(g,u)::fs,h=>by
  rw[d6,aD]at h;have j:¬g=f:=by simpa using h.1
  show(if g=f then _ else(g,u)::lW f v fs)=_;rw[ab j,xp h.2];rfl
section
variable {G:Gx} {cl:By} {X:Cx} {H:Hp} {σ:L2.St}
def fG{f:Str}{u:TE}{v:V}{C o p:VZ}{fs:List (Str×V)}{Dn:Ends}(E:σ[0]?=N' (N' (.ref p)))(J:vk X.K C)(L:fP X.K C f)(r)(y:fs.map (·.1)=r)(j:(decide (r.length<1000)&&r.all λx=> !(decide (x=f)))=P')(B:H p=N' (.ins C o fs)) (M:∀Q:VK,(∀h,Sm G H h->Q v h)->u σ H Q)(q:∀h,qW G p H h->h p=N' (.ins C o (fs++[(f,v)]))->Dn.nx σ h):PQ X.K (tU 0) u f Dn σ H:=M _ λh s=>#[_,E,p,C,o,fs,S',s.kp _ _ B (lp _ _ _),J,L,by
  rw[aD,bg,<-y,aB]at j;show j.1,by
  rw[aD,<-y,rW]at j;rw[xp j.2];show q _ ((qW.of s).trans (qW.upd (s.kp _ _ B (lp _ _ _)))) aw]
end
section
variable {P:Program} {w:V6} {K:V7} {mg:x1} {base:Heap} {n:Nat}
def O3(G:Gx):Sp:=λvs H Q _=>∃(p o:VZ) (h:Nat),vs=[.ref p,.int (h:Int)]/\h<2^64/\H p=N' (.ins Iq o [])/\TabAt G H/\
 ∀j:Hp,qW G p H j->j p=N' (.ins Iq o (BZ (AL h)))->Q .bQ j
def Sk(t:Top P w base (gx K mg))(IH:Calls P w base (gx K mg) (n+1)){fd:FuncData}(Fn:xF K "__init__" "Order.__init__" (rP .ord) A2 fd):gX P w K mg base lM (n+2) A2 fd ["self","instruction"] (O3 (gx K mg)):=by
 apply Fn.ok Sj (λvs H Q E h=> ?_) (λza A B s H vs Q E hr h=> ?_);obtain⟨p,dx,o,rfl,_⟩:=h;rfl;obtain⟨p,dx,o,rfl,hw,hp,J,k⟩:=h;have r:pd cOr (gx K mg) T (bt T defs (n+1)) (n+1) (pI lM P w K mg base Oh "Order.__init__" (aG (rP .ord)) A2 za A B s H E).vj:=rK t IH S' rfl rfl rfl rfl rfl rfl hr Sj.nd S' rfl rfl rfl rfl;apply#[_,aJ (kc (i:=2) Sj.nd S' (iu S') (cb (.bin .and (.bin .shr (.v 1) (.int 8)) (.int 255)) (j:=.e Q' _) r (by decide+kernel)))
  (aJ (dU (pv 0) (cb (.and (.cmp .le (.v 2) (.int 7)) (.cmp .eq (.bin .and (.bin .shr (.v 1) (.int 31)) (.int 1)) (.int 0))) (j:=.e Q' _) r (by decide+kernel)) S')
  (aJ (dU (pv 0) (cb (.bin .and (.v 1) (.int 255)) (j:=.e Q' _) r (by decide+kernel)) S')
  (aJ (dU (pv 0) (cb (.bin .shl (.int 8) (.bin .and (.v 2) (.int 3))) (j:=.e Q' _) r (by decide+kernel)) S')
  (aJ (dU (pv 0) (j8 Eu gW (cX (pv 0) S')) S')
  (aJ (dU (pv 0) (cb (.cmp .ne (.bin .and (.v 2) (.int 4)) (.int 0)) (j:=.e Q' _) r (by decide+kernel)) S')
  (aJ (dU (pv 0) (cb (.bin .and (.bin .shr (.v 1) (.int 16)) (.int 15)) (j:=.e Q' _) r (by decide+kernel)) S')
  (aJ (dU (pv 0) (cb (.bin .and (.bin .shr (.v 1) (.int 20)) (.int 15)) (j:=.e Q' _) r (by decide+kernel)) S')
  (aJ (dU (pv 0) (cb (.bin .and (.bin .shr (.v 1) (.int 24)) (.int 15)) (j:=.e Q' _) r (by decide+kernel)) S')
  (aJ (dU (pv 0) (cb (.bin .and (.bin .shr (.v 1) (.int 28)) (.int 7)) (j:=.e Q' _) r (by decide+kernel)) S')
  (aJ (dU (pv 0) (cb (.call .signed (.cons (.bin .shr (.v 1) (.int 32)) (.cons (.int 32) .nil))) (j:=.e Q' _) r (by decide+kernel)) S')
  (dD (dU (pv 0) (jz (x9 S') (by rfl) (t.bi "max" (by simp)) Ye (aC (cX (pv 0) S') (aC gW br))) S')))))))))))),?_]
 have zb:∀(i:Nat) (m:Int),([O',N' (o:Int),O']:List (uQ))[i]?=N' (N' m)->(L2.start Oh [V.ref p,V.int (o:Int)])[i]?=N' (N' (V.int m)):=λi m h=>by
  match i,h with
  |0,h=>cases h
  |1,h=>cases h;rfl
  |2,h=>cases h
  |i+3,h=>simp at h
 apply A1 (ns:=[O',N' (o:Int),O']) J S' zb (ur _ o 8 8 255 O' S') λH0 s0=> ?_;have L:=s0.ta J;have zc:=s0.kp _ _ hp (lp _ _ _);have M:∀(i:Nat) (m:Int),([O',N' (o:Int),N' ((o/2^8 % 2^8:Nat):Int)]:List (uQ))[i]?=N' (N' m)->((L2.start Oh [V.ref p,V.int (o:Int)]).set 2 (N' (V.int ((o/2^8 % 2^8:Nat):Int))))[i]?=N' (N' (V.int m)):=λi m h=>by
  match i,h with
  |0,h=>cases h
  |1,h=>cases h;rfl
  |2,h=>cases h;rfl
  |i+3,h=>simp at h
 have u:∀{H:Hp} {O:IE} {v:Int},TabAt (gx K mg) H->ay T (bt T defs (n+1)) (uq o (N' (o/2^8 % 2^8))) O' O=N' (.int v,Q')->∀Q:VK,(∀y,Sm (gx K mg) H y->Q (.int v) y)->tI (gx K mg) T (bt T defs (n+1)) O ((L2.start Oh [V.ref p,V.int (o:Int)]).set 2 (N' (V.int ((o/2^8 % 2^8:Nat):Int)))) H Q:=λJ he Q q=>A1 (ns:=[O',N' (o:Int),N' ((o/2^8 % 2^8:Nat):Int)]) J S' M he q;have U:∀{H:Hp} {O:IE} {v:Bool},TabAt (gx K mg) H->ay T (bt T defs (n+1)) (uq o (N' (o/2^8 % 2^8))) O' O=N' (.bl v,Q')->∀Q:VK,(∀y,Sm (gx K mg) H y->Q (.bl v) y)->tI (gx K mg) T (bt T defs (n+1)) O ((L2.start Oh [V.ref p,V.int (o:Int)]).set 2 (N' (V.int ((o/2^8 % 2^8:Nat):Int)))) H Q:=λJ he Q q=>aad (ns:=[O',N' (o:Int),N' ((o/2^8 % 2^8:Nat):Int)]) J S' M he q;have hz:ay T (bt T defs (n+1)) (uq o (N' (o/2^8 % 2^8))) O' (.call .signed (.cons (.bin .shr (.v 1) (.int 32)) (.cons (.int 32) .nil)))=N' (.int (VX 32 (o/2^32)),Q'):=by have e1:bt T defs (n+1) .signed [.int ((o/2^32:Nat):Int),.int 32] O'=N' (.int (VX 32 (o/2^32)),Q',O'):=bc n (o/2^32) 32 () () (by omega) O';have e2:binI .shr (o:Int) 32=N' ((o/2^32:Nat):Int):=ie o 32;simp![pV,lR,pW,mN,pa,fN,D4,fM,mj,e2,jQ,e1,uf]
 have zd:IF 512 ((8*2^((o/2^8 % 2^8) % 4):Nat):Int):=by have h1:o/2^8 % 2^8 % 4<4:=au _ ();have h2:2^(o/2^8 % 2^8 % 4)<=2^3:=dh () (by omega);have h3:0<2^(o/2^8 % 2^8 % 4):=Nat.pow_pos ();unfold IF;omega
 apply fG (G:=gx K mg) (fs:=[]) S' t.wz (t.wA .sound) [] S' (by decide+kernel) zc (U L (Nv _ o _)) λH1 s1 h1=> ?_;have X:=s1.ta L;apply fG (G:=gx K mg) S' t.wz (t.wA .operation) ["sound"] S' (by decide+kernel) h1 (u X (Vz _ o 8 255 _ S')) λH2 s2 h2=> ?_;have Y:=s2.ta X;apply fG (G:=gx K mg) S' t.wz (t.wA .k) ["sound","operation"] S' (by decide+kernel) h2 (u Y (e_k _ o _)) λH3 s3 h3=> ?_;have ze:=s3.ta Y;have zf:∀Q:VK,(∀y,Sm (gx K mg) H3 y->Q (V.int (512/((8*2^((o/2^8 % 2^8) % 4):Nat):Int))) y)->LM (rI IF λi j=>V.int (i/j)) (tC (V.int 512)) (Mi K (tU 0) "k") ((L2.start Oh [V.ref p,V.int (o:Int)]).set 2 (N' (V.int ((o/2^8 % 2^8:Nat):Int)))) H3 Q:=λQ q=>#[_,S',p,Iq,dx,_,_,S',h3,t.wz,t.wA .k,S',512,_,S',S',zd,q _ (Sm.refl _)];apply fG (G:=gx K mg) S' t.wz (t.wA .n) ["sound","operation","k"] S' (by decide+kernel) h3 zf λH4 s4 h4=> ?_;have Z:=s4.ta ze;apply fG (G:=gx K mg) S' t.wz (t.wA .oH) ["sound","operation","k","n"] S' (by decide+kernel) h4 (U Z (RB _ o _)) λH5 s5 h5=> ?_;have C:=s5.ta Z;apply fG (G:=gx K mg) S' t.wz (t.wA .d) ["sound","operation","k","n","zeroing"] S' (by decide+kernel) h5 (u C (ur _ o 16 4 15 _ S')) λH6 s6 h6=> ?_;have F:=s6.ta C;apply fG (G:=gx K mg) S' t.wz (t.wA .a) ["sound","operation","k","n","zeroing","d"] S' (by decide+kernel) h6 (u F (ur _ o 20 4 15 _ S')) λH7 s7 h7=> ?_;have D:=s7.ta F;apply fG (G:=gx K mg) S' t.wz (t.wA .b) ["sound","operation","k","n","zeroing","d","a"] S' (by decide+kernel) h7 (u D (ur _ o 24 4 15 _ S')) λH8 s8 h8=> ?_;have R:=s8.ta D;apply fG (G:=gx K mg) S' t.wz (t.wA .g) ["sound","operation","k","n","zeroing","d","a","b"] S' (by decide+kernel) h8 (u R (ur _ o 28 3 7 _ S')) λH9 s9 h9=> ?_;have I:=s9.ta R;apply fG (G:=gx K mg) S' t.wz (t.wA .z) ["sound","operation","k","n","zeroing","d","a","b","g"] S' (by decide+kernel) h9 (u I hz) λS N W=> ?_;have c:=N.ta I;have zg:∀Q:VK,(∀y,Sm (gx K mg) S y->Q (V.int (if(0:Int)>VX 32 (o/2^32)then 0 else VX 32 (o/2^32))) y)->TQ (λxs H Q=>∃i j,xs=[.int i,.int j]/\Q (.int (if j>i then j else i)) H) (o9 (Mi K (tU 0) "z") (o9 (tC (V.int 0)) xD)) ((L2.start Oh [V.ref p,V.int (o:Int)]).set 2 (N' (V.int ((o/2^8 % 2^8:Nat):Int)))) S Q:=λQ q=>#[_,S',p,Iq,dx,_,_,S',W,t.wz,t.wA .z,S',_,_,S',q _ (Sm.refl _)];apply fG (G:=gx K mg) S' t.wz (t.wA .m) ["sound","operation","k","n","zeroing","d","a","b","g","z"] S' (by decide+kernel) W zg λf x zh=> ?_;have zi:=x.ta c;have e:∀{l:List (Str×V)},l=BZ (AL o)->f p=N' (.ins Iq dx l)->Q .bQ f:=λ{l} el hl=>k _ ((qW.of s0).trans (s1.trans (s2.trans (s3.trans (s4.trans (s5.trans (s6.trans (s7.trans (s8.trans (s9.trans (N.trans x))))))))))) (by rw[hl,el]);apply e ?_ zh;have a2:o/2^8 % 2^8 % 4=o/256 % 4:=by omega
 have a3:o/2^8 % 2^8/4 % 2=o/1024 % 2:=by omega
 have a4:(512:Int)/((8*2^(o/256 % 4):Nat):Int)=((512/(8*2^(o/256 % 4)):Nat):Int):=by rw[Yh];rfl
 have a5:(if(0:Int)>VX 32 (o/2^32)then 0 else VX 32 (o/2^32))=((VX 32 (o/2^32)).toNat:Int):=by split<;>omega
 rw[a2,a3,a4,a5];rfl
end
instance O4:iG:=["self","vectors","predicates","scalars","flags"]
def aai:fi O4 ["self","vectors","predicates","scalars","flags"] (aG (rP .cT)):=j0 (by decide+kernel)
def cMc:CK:=#[OW,O4,aG (rP .cT),λ_=>P',λ_=>Q']
section
variable {G:Gx} {X:Cx} {H H':Hp} {σ:L2.St} {p:VZ} {K:V7}
def Sm.sq(s:Sm G H H'){a:VZ}{xs:List V}(h:cQ K H a xs):cQ K H' a xs:=by rcases h with(h|⟨o,h⟩)|h;show .inl (.inl (s.kp _ _ h (bU _)));show .inl (.inr #[o,s.kp _ _ h (wu _ _)]);show .inr h
def qW.sq(s:qW G p H H'){C q:VZ}{fs:List (Str×V)}(j:H p=N' (.ins C q fs)){a:VZ}{xs:List V}(h:cQ K H a xs):cQ K H' a xs:=by rcases h with(h|⟨o,h⟩)|h;show .inl (.inl (s.kp _ _ h (bU _) λe=>by subst e;rw[j]at h;cases h));show .inl (.inr #[o,s.kp _ _ h (wu _ _) λe=>by subst e;rw[j]at h;cases h]);show .inr h
def qW.free(s:qW G p H H'){C u:VZ}{fs:List (Str×V)}(j:H' p=N' (.ins C u fs)){l:VZ}(h:H' l=O'):H l=none:=by
 cases q:H l with
 |none=>rfl
 |some o=>
  have y:l≠p:=λe=>by subst e;rw[j]at h;cases h
  by_cases r:NT o;rw[s.kp l o q r y]at h;cases h;have:∃ps,o=.qK ps:=Iu λz=>r λps e=>z #[ps,e];obtain⟨ps,rfl⟩:=this;obtain⟨B,h'⟩:=s.tb l ps q;rw[h']at h;cases h
def vB{f:Str}{J:TE}{xs:List V}{C r:VZ}{fs:List (Str×V)}{Dn:Ends}(O:σ[0]?=N' (N' (.ref p)))(P:vk X.K C)(U:fP X.K C f)(u:iG)(L:fs.map (·.1)=u)(o:(decide (u.length<1000)&&u.all λx=> !(decide (x=f)))=P')(M:H p=N' (.ins C r fs)) (Y:∀Q:VK,(∀l H',Sm G H H'->H l=O'->H' l=N' (.lst xs)->Q (.ref l) H')->J σ H Q)(q:∀l H',qW G p H H'->H l=O'->H' l=N' (.lst xs)->H' p=N' (.ins C r (fs++[(f,.ref l)]))->Dn.nx σ H'):PQ X.K (tU 0) J f Dn σ H:=Y _ λl H' s y B=>by
  have h:=s.kp _ _ M (lp _ _ _);rw[aD,bg]at o;apply#[_,O,p,C,r,fs,S',h,P,U,by rw[<-L,aB]at o;show o.1,?_];have j:(fs.all λx=> !(decide (x.1=f)))=true:=by have:=o.2;rw[<-L,rW]at this;show this
  rw[xp j];have E:l≠p:=λe=>by subst e;rw[M]at y;cases y
  show q l _ ((qW.of s).trans (qW.upd h)) y (by rw[aq E];show B) aw
end
section
variable {P:Program} {w:V6} {K:V7} {mg:x1} {base:Heap} {n:Nat}
instance vI(l:d_):List V:=l.map λ(n:Nat)=>V.int (n:Int)
def aaj(G:Gx):Sp:=λvs H Q _=>∃(p o r ap s:VZ) (v q x:d_) (f:Nat),vs=[.ref p,.ref r,.ref ap,.ref s,.int (f:Int)]/\v.length<=128/\q.length<=8/\x.length<=16/\H p=N' (.ins LX o [])/\cQ G.K H r (vI v)/\cQ G.K H ap (vI q)/\cQ G.K H s (vI x)/\TabAt G H/\
 ∀(l:ML->VZ) (h:Hp),(∀j,Hq Q' j=P'->H (l j)=O')->(∀i j,Hq Q' i=P'->Hq Q' j=P'->l i=l j->i=j)->qW G p H h->h p=N' (.ins LX o (wq #[P',λ_=>0,λ_=>0,l] ((f % 4:Nat):Int)))->(∀j,Hq Q' j=P'->h (l j)=N' (.lst (((NL v q x f).get j).map V.int)))->Q .bQ h
def Sl(t:Top P w base (gx K mg))(B:mg "list"=O')(IH:Calls P w base (gx K mg) (n+1)){fd:FuncData}(Fn:xF K "__init__" "Machine.__init__" (rP .cT) Ia fd):gX P w K mg base lM (n+2) Ia fd ["self","vectors","predicates","scalars","flags"] (aaj (gx K mg)):=by
 apply Fn.ok aai (λvs H Q E h=> ?_) (λza A L s H vs Q E hr h=> ?_);obtain⟨p,dx,M,O,U,v,q,x,f,rfl,_⟩:=h;rfl;obtain⟨p,dx,M,O,U,v,q,x,f,rfl,lv,lq,lx,z,hv,hq,hx,hT,k⟩:=h;have D:pd cMc (gx K mg) T (bt T defs (n+1)) (n+1) (pI lM P w K mg base O4 "Machine.__init__" (aG (rP .cT)) Ia za A L s H E).vj:=rK t IH S' rfl rfl rfl rfl rfl rfl hr aai.nd S' rfl rfl rfl rfl;apply#[_,aJ (dU (pv 0) (yE sk (by rfl) B X3 (aC (pv 1) br)) S')
  (aJ (dU (pv 0) (j8 lX (pH (aC (cb (.call .ones (.cons (.int 64) .nil)) (j:=.e Q' _) D (by decide+kernel)) br)) (pJ si (pv 2) (qs gW) vm)) S')
  (aJ (dU (pv 0) (yE sk (by rfl) B X3 (aC (pv 3) br)) S')
  (dD (dU (pv 0) (cb (.bin .and (.v 4) (.bin .or (.pj 0 1) (.pj 1 2))) (j:=.e Q' _) D (by decide+kernel)) S')))),?_]
 have hs:∀(i:Nat) (m:Int),([O',O',O',O',N' (f:Int)]:List (uQ))[i]?=N' (N' m)->(L2.start O4 [V.ref p,V.ref M,V.ref O,V.ref U,V.int (f:Int)])[i]?=N' (N' (V.int m)):=λi m h=>by
  match i,h with
  |0,h=>cases h
  |1,h=>cases h
  |2,h=>cases h
  |3,h=>cases h
  |4,h=>cases h;rfl
  |i+5,h=>simp at h
 have zb:∀Q:VK,(∀l u,Sm (gx K mg) H u->H l=O'->u l=N' (.lst (vI v))->Q (.ref l) u)->TQ (λxs r Q=>∃p X,xs=[V.ref p]/\(cQ K r p X\/o8 K r p X)/\∀l,r l=O'->Q (.ref l) (upd r l (.lst X))) (o9 (tU 1) xD) (L2.start O4 [V.ref p,V.ref M,V.ref O,V.ref U,V.int (f:Int)]) H Q:=λQ q=>#[_,S',M,_,S',.inl hv,λl B=>q l _ ((Sm.refl H).lay B) B aw];apply vB (G:=gx K mg) (fs:=[]) S' (t.xw Q') (t.Hv Q' .vec) [] S' (by decide+kernel) z zb λl1 H1 C n1 a1 R=> ?_;have I:=C.ta hT;have zc:=C.sq z hq;have zd:=C.sq z hx;have e1:ay T (bt T defs (n+1)) (CN [O',O',O',O',N' (f:Int)]) O' (.call .ones (.cons (.int 64) .nil))=N' (.int ((2^64-1:Nat):Int),Q'):=by have e:bt T defs (n+1) .ones [.int 64] O'=N' (.int ((2^64-1:Nat):Int),Q',O'):=qa n 64 () O';simp![pV,lR,pW,fN,jQ,e,uf]
 have ze:∀Q:VK,(∀l u,Sm (gx K mg) H1 u->H1 l=O'->u l=N' (.lst (V.int ((2^64-1:Nat):Int)::(vI q).drop 1))->Q (.ref l) u)->LM Mp (TJ (o9 (tI (gx K mg) T (bt T defs (n+1)) (.call .ones (.cons (.int 64) .nil))) xD)) (tSl (TU K) (tU 2) (Oy (tC (V.int 1))) ED) (L2.start O4 [V.ref p,V.ref M,V.ref O,V.ref U,V.int (f:Int)]) H1 Q:=λQ qq=>by
  apply A1 (ns:=[O',O',O',O',N' (f:Int)]) I S' hs e1 λF J=>#[by decide,λS zf=> ?_];have Y:Sm (gx K mg) H1 (upd F S (.lst [V.int ((2^64-1:Nat):Int)])):=J.lay zf;apply#[_,S',1,S',O,vI q,S',Y.sq zc,λb2 y=> ?_];have zg:S≠b2:=λe=>by subst e;rw[aw]at y;cases y
  apply#[S,b2,[V.int ((2^64-1:Nat):Int)],_,S',S',by rw[aq zg,aw],aw,?_,λb3 N=> ?_];rw[An (vI q) ()];simp![dR,jb,X5,vI,aB];show c_ (by lia:_<=9) ();apply qq b3 _ ((Y.lay y).lay N) ((Y.lay y).free N) ?_;rw[aw,An (vI q) ()];rfl
 apply vB (G:=gx K mg) S' (t.xw Q') (t.Hv Q' .we) ["vectors"] S' (by decide+kernel) R ze λl2 F J W a2 h2=> ?_;have zh:=J.ta I;have zi:=J.sq R zd;have zj:∀Q:VK,(∀l u,Sm (gx K mg) F u->F l=O'->u l=N' (.lst (vI x))->Q (.ref l) u)->TQ (λxs r Q=>∃p X,xs=[V.ref p]/\(cQ K r p X\/o8 K r p X)/\∀l,r l=O'->Q (.ref l) (upd r l (.lst X))) (o9 (tU 3) xD) (L2.start O4 [V.ref p,V.ref M,V.ref O,V.ref U,V.int (f:Int)]) F Q:=λQ q=>#[_,S',U,_,S',.inl zi,λl B=>q l _ ((Sm.refl F).lay B) B aw];apply vB (G:=gx K mg) S' (t.xw Q') (t.Hv Q' .xH) ["vectors","predicates"] S' (by decide+kernel) h2 zj λl3 H3 s3 Z a3 h3=> ?_;have zk:=s3.ta zh;have e4:ay T (bt T defs (n+1)) (CN [O',O',O',O',N' (f:Int)]) O' (.bin .and (.v 4) (.bin .or (.pj 0 1) (.pj 1 2)))=N' (.int ((f % 4:Nat):Int),Q'):=by have e:binI .and (f:Int) 3=N' ((f&&&3:Nat):Int):=i9 f 3;rw[show f&&&3=f % 4 from mask f 2]at e;have g:(CN [O',O',O',O',N' (f:Int)]).get 4=N' (SV.int (f:Int)):=rfl;have o:binI .or 1 2=N' 3:=rfl;simp![mN,pa,wj,g,fM,mj,o,e]
 have zl:∀Q:VK,(∀u,Sm (gx K mg) H3 u->Q (.int ((f % 4:Nat):Int)) u)->tI (gx K mg) T (bt T defs (n+1)) (.bin .and (.v 4) (.bin .or (.pj 0 1) (.pj 1 2))) (L2.start O4 [V.ref p,V.ref M,V.ref O,V.ref U,V.int (f:Int)]) H3 Q:=λQ q=>A1 (ns:=[O',O',O',O',N' (f:Int)]) zk S' hs e4 q;apply fG (G:=gx K mg) S' (t.xw Q') t.MS ["vectors","predicates","scalars"] S' (by decide+kernel) h3 zl λH4 s4 h4=> ?_;have p1:l1≠p:=λe=>by subst e;rw[z]at n1;cases n1
 have p2:l2≠p:=λe=>by subst e;rw[R]at W;cases W
 have p3:l3≠p:=λe=>by subst e;rw[h2]at Z;cases Z
 have S:=s4.kp _ _ (s3.kp _ _ (J.kp _ _ a1 (bU _) p1) (bU _) p1) (bU _) p1;have b2:=s4.kp _ _ (s3.kp _ _ a2 (bU _) p2) (bU _) p2;have b3:=s4.kp _ _ a3 (bU _) p3;have zm:=J.kp _ _ a1 (bU _) p1;have a:l1≠l2:=λe'=>by rw[<-e',a1]at W;cases W
 have b:l2≠l3:=λe'=>by rw[<-e',a2]at Z;cases Z
 have c:l1≠l3:=λe'=>by rw[<-e',zm]at Z;cases Z
 apply k (λj=>match j with|.vec=>l1|.we=>l2|.xH=>l3|.rN=>0) H4 (λj d=> ?_) (λi j hi d e=> ?_) (C.trans (J.trans (s3.trans s4))) h4 (λj d=> ?_);cases j with
 |vec=>show n1
 |we=>show C.free R W
 |xH=>show C.free R (J.free h2 Z)
 |rN=>cases d
 cases i<;>cases j<;>first|rfl|(cases hi;done)|(cases d;done)|show absurd e a|show absurd e c|show absurd e b|show absurd e.symm a|show absurd e.symm c|show absurd e.symm b
 cases j with
 |vec=>show S.trans (by simp![NL,xu.get,vI,aS];rfl)
 |we=>show b2.trans (by simp![NL,xu.get,vI,bf,aS,List.map_drop];rfl)
 |xH=>show b3.trans (by simp![NL,xu.get,vI,aS];rfl)
 |rN=>cases d
end
instance nMe:iG:=["self","given","first"]
def aak:fi nMe ["self","given"] (aG (rP .mem)):=j0 (by decide+kernel)
section
variable {P:Program} {w:V6} {K:V7} {mg:x1} {base:Heap} {n:Nat}
def aal(G:Gx):Sp:=λvs H Q _=>∃(p j o:VZ) (a:Nat) (b:d_),vs=[.ref p,.ref o]/\a+b.length<=65536/\(∀y∈b,y<256)/\H p=N' (.ins Gr j [])/\cQ G.K H o (vI (a::b))/\TabAt G H/\
 ∀(l:VZ) (h:Hp),H l=O'->qW G p H h->h p=N' (.ins Gr j [("cells",.ref l)])->h l=N' (.lst ((mS (zB a b)).map V.int))->Q .bQ h
def Sn(t:Top P w base (gx K mg))(Fn:xF K "__init__" "Memory.__init__" (rP .mem) Lh fd):gX P w K mg base lM 1 Lh fd ["self","given"] (aal (gx K mg)):=by
 apply Fn.ok aak (λvs H Q E h=> ?_) (λza A Z s H vs Q E hr h=> ?_);obtain⟨p,dx,U,a,b,rfl,_⟩:=h;rfl;obtain⟨p,dx,U,a,b,rfl,T,hb,hp,C,hT,k⟩:=h;obtain⟨⟨tk,hS⟩,_⟩:=t.gi 8 65536 rfl;apply#[_,aJ (kc (i:=2) aak.nd S' (iu S') (vY qt (pv 1) gW (mP S')))
  (dD (dU (pv 0) (j8 lX (j8 lX (j8 Dz (pH (aC gW br)) (pv 2)) (pJ si (pv 1) (qs gW) vm)) (j8 Dz (pH (aC gW br)) (j8 Dr (j8 Ds (j8 Ds (eO (v:=.int 65536) (by rfl) hS #[tk,S']) (pv 2)) (jz oE (by rfl) (t.bi "len" (by simp)) Yo (aC (pv 1) br))) gW))) S')),?_]
 apply#[_,S',U,_,0,.int (a),S',S',C,at_of (j:=0) S' rfl,?_];have X:∀m:Nat,∀{α:Type} (x:α),(VY m [x]).flatten=VY m x:=λm α x=>by
  induction m with
  |zero=>rfl
  |succ m ih=>rw[n_,q_,ih];rfl
 have zb:200000<=sizeLine:=by decide
 have y:(vI (a::b)).length=b.length+1:=by unfold vI;simp
 have cE:vk K Gr:=t.xw P';have nE:fP K Gr "cells":=t.Hv P' .rN;dsimp only[Bg];apply vB (G:=gx K mg) (fs:=[]) (by rfl) (by show cE) (by show nE) [] (by rfl) (by decide+kernel) (by show hp) (xs:=(mS (zB a b)).map V.int) (λQ qq=> ?_) λl H1 s1 n1 a1 h1=> ?_;rotate_left
 show k l H1 n1 s1 h1 a1;apply#[by show 1<=sizeLine;decide,λb1 F=>#[_,S',b1,a,[V.int 0],S',S',aw,by lia,by lia,?_,λS D=> ?_]]
 ·simp![dR,jb];lia
 have t1:=(Sm.refl (G:=gx K mg) H).lay (o:=.lst [V.int 0]) F;have N:=t1.lay (o:=.lst (VY (a:Int).toNat [V.int 0]).flatten) D;have g2:=N.sq C;apply#[_,S',1,S',U,_,S',g2,λW r=> ?_];have R:=N.lay (o:=.lst (uV (vI (a::b)) (N' 1) O')) r;have c:uV (vI (a::b)) (N' 1) O'=vI b:=by rw[An _ ()];rfl
 rw[c];rw[c]at R;have B:S≠W:=λe=>by subst e;rw[aw]at r;cases r
 apply#[S,W,_,_,S',S',by rw[aq B,aw],aw,?_,λI J=> ?_]
 ·rw[dQ,X,n8];unfold vI;rw[aB];lia
 rw[dQ,X];rw[dQ,X]at J R;have t4:=R.lay (o:=.lst (VY a (V.int 0)++vI b)) J;apply#[by show 1<=sizeLine;decide,λd q=> ?_];have f:=t4.lay (o:=.lst [V.int 0]) q;have g5:=f.sq C;have Y:(65536)-a-((vI (a::b)).length:Int)+1=((65536-a-b.length:Nat):Int):=by rw[y];lia
 apply#[_,S',65536,a,S',S',_,S',U,_,S',.inl g5,_,_,S',S',_,_,S',S',d,_,[V.int 0],S',S',aw,?_,?_,?_,λg u=> ?_]
 ·rw[Y];lia
 ·rw[Y];lia
 ·rw[Y];simp![dR,jb];lia
 rw[Y,dQ,X];have t6:=f.lay (o:=.lst (VY (65536-a-b.length) (V.int 0))) u;have L:I≠g:=λe=>by subst e;rw[aq (λz=>by subst z;rw[aw]at q;cases q),aw]at u;cases u
 have M:I≠d:=λe=>by subst e;rw[aw]at q;cases q
 apply#[I,g,_,_,S',S',by rw[aq L,aq M,aw],aw,?_,λb7 O=> ?_]
 ·rw[en,n8,n8];unfold vI;rw[aB];lia
 apply qq b7 _ (t6.lay O) (t6.free O) (aw.trans ?_);rw[HW T hb];simp![kq,List.map_replicate,aS];rfl
end
instance nWk:iG:=["self","machine","memory","place"]
def acz:fi nWk nWk (aG (rP .Ob)):=j0 (by decide+kernel)
def acA:fi ["self","order"] ["self","order"] (aG (rP .O1)):=j0 (by decide+kernel)
instance CV(Z:Zx)(pl h j:Int):List (Str×V):=[("machine",.ref (Z.po Q')),("memory",.ref (Z.po P')),("place",.int pl),("done",.int h),("why",.int j)]
structure zG(G:Gx)(l:mw)(H H':Hp):Prop where
 kp:∀b o,H b=N' o->NT o->b∉l->H' b=N' o
 tb:∀b ps,H b=N' (.qK ps)->∃ps',H' b=N' (.qK ps')
 ta:TabAt G H->TabAt G H'
section
variable {G:Gx} {Z:Zx} {H H1 H2:Hp} {pw dw:VZ} {pl dn wy:Int} {m m':xu} {l:mw}
def zG.trans(a:zG G l H H1)(b:zG G l H1 H2):zG G l H H2:=#[λc o h n e=>b.kp c o (a.kp c o h n e) n e,λc ps h=>let ⟨ps',h'⟩:=a.tb c ps h;b.tb c ps' h',λt=>b.ta (a.ta t)]
def zG.sm(a:Sm G H H1):zG G l H H1:=#[λc o h n _=>a.kp c o h n,a.tb,a.ta]
def zG.ex(a:kX G Z H H1):zG G (pw::Z.ma) H H1:=#[λc o h n e=>a.kp c o h n λz=>e (dN _ z),a.tb,a.ta]
def zG.sp(a:qW G pw H H1):zG G (pw::Z.ma) H H1:=#[λc o h n e=>a.kp c o h n λz=>e (by rw[z];show jx),a.tb,a.ta]
structure uy(G:Gx)(Z:Zx)(pw dw:VZ)(H:Hp)(m:xu)(pl dn wy:Int):Prop where
 on:Z.on=P'
 R:sM G Z H m
 T:TabAt G H
 W:H pw=N' (.ins Gs dw (CV Z pl dn wy))
 nw:pw∉Z.ma
def sM.same(q:sM G Z H m)(s:Sm G H H1):sM G Z H1 m:=#[λb=>s.kp _ _ (q.ob b) (lp _ _ _),λj=>s.kp _ _ (q.ls j) (bU _),q.nj]
def uy.same(a:uy G Z pw dw H m pl dn wy)(k:Sm G H H1):uy G Z pw dw H1 m pl dn wy:=#[a.on,a.R.same k,k.ta a.T,k.kp _ _ a.W (lp _ _ _),a.nw]
def uy.ext(a:uy G Z pw dw H m pl dn wy)(k:kX G Z H H1)(r:sM G Z H1 m'):uy G Z pw dw H1 m' pl dn wy:=#[a.on,r,k.ta a.T,k.kp _ _ a.W (lp _ _ _) a.nw,a.nw]
def sM.put(r:sM G Z H m)(h:Z.on=P')(q:pw∉Z.ma):sM G Z (upd H pw o) m:=#[λb=>by rw[aq (λz=>q (by rw[<-z];show(Zx.BX h).1 b))];show r.ob b,λj=>by rw[aq (λz=>q (by rw[<-z];show(Zx.BX h).2 j))];show r.ls j,r.nj]
def uy.put(a:uy G Z pw dw H m pl dn wy)(h j o):uy G Z pw dw (upd H pw (.ins Gs dw (CV Z h j o))) m h j o:=#[a.on,a.R.put a.on a.nw,(qW.upd (fs':=CV Z h j o) a.W).ta a.T,aw,a.nw]
def sM.S8(r:sM G Z H m)(h:Z.on=P'):∀b∈Z.ma,Std H b:=λb j=>by simp![Zx.ma,h,dC,aE,kn,lI]at j;rcases j with rfl|rfl|rfl|rfl|rfl|rfl;show Std.ins (r.ob _);show Std.ins (r.ob _);show Std.lst (r.ls _);show Std.lst (r.ls _);show Std.lst (r.ls _);show Std.lst (r.ls _)
def uy.S8(a:uy G Z pw dw H m pl dn wy):∀b∈Z.ma,Std H b:=a.R.S8 a.on
def uy.fresh(a:uy G Z pw dw H m pl dn wy)(h:H p=O'):p∉Z.ma:=λj=>by obtain⟨o,e,_⟩:=a.S8 p j;rw[h]at e;cases e
def uy.call{cl f vs xs x fr}(a:uy G Z pw dw H m pl dn wy)(o:vs.length=(G.ps f).length)(r:aA G Z Z.ma H xs vs)(s:cl f xs (N' m)=N' (x,fr,N' m'))(q:∀v j,kX G Z H j->Rep G Z Z.ma j x v->uy G Z pw dw j m' pl dn wy->Q v j):uZ G cl f vs H Q E0:=#[o,Z,Z.ma,xs,_,x,fr,_,a.S8,λ_ h=>h,r,.inl #[a.on,_,S',a.R],a.T,s,λv j k u y _=>q v j k u (a.ext k (y.get S').2)]
def uy.zH{cl f vs xs x fr}(a:uy G Z pw dw H m pl dn wy)(o:vs.length=(G.ps f).length)(r:aA G Z Z.ma H xs vs)(s:cl f xs (N' m)=N' (x,fr,N' m))(q:∀v j,Sm G H j->Rep G Z Z.ma j x v->Q v j):uZ G cl f vs H Q E0:=#[o,Z,Z.ma,xs,_,x,fr,_,a.S8,λ_ h=>h,r,.inl #[a.on,_,S',a.R],a.T,s,λv j k u y _=>q v j (k.same (.inl #[a.on,_,S',a.R]) y) u]
def Sm.plus(s:Sm G H q)(j:qW G p q H1)(r:H p=O'):Sm G H H1:=#[λb o h n=>j.kp b o (s.kp b o h n) n (λe=>by subst e;rw[r]at h;cases h),λb ps h=>let ⟨ps',h'⟩:=s.tb b ps h;j.tb b ps' h',λt=>j.ta (s.ta t)]
def Ly{K:V7}{j:L2.St}{Q:VK}{f}(o:j[i]?=N' (N' (.ref p)))(r:H p=N' (.ins h s fs))(u:vk K h)(y:fP K h f)(B:fs.lookup f=N' v)(q:Q v H):Mi K (tU i) f j H Q:=#[_,o,p,h,s,fs,v,S',r,u,y,B,q]
def rdI{K:V7}{h:L2.St}{Q:VK}{j}(o:h[i]?=N' (N' (.ref p)))(r:cQ K H p xs)(s:Oz xs j=N' v)(q:Q v H):LM (TR K) (tU i) (tC (.int j)) h H Q:=#[_,o,p,xs,j,v,S',S',r,s,q]
def rdC{Q:VK}(h:H a=N' (.lst xs))(j:H b=N' (.lst zs))(o:xs.length+zs.length<=sizeLine)(q:∀p,H p=O'->Q (.ref p) (upd H p (.lst (xs++zs)))):Mp (.ref a) (.ref b) H Q:=#[a,b,xs,zs,S',S',h,j,o,q]
def rdS{K:V7}{j:L2.St}{f}{D:Ends}(r:j[i]?=N' (N' (.ref p)))(s:H p=N' (.ins o h fs))(u:vk K o)(B:fP K o f)(E:fs.length<1000)(q:D.nx j (upd H p (.ins o h (lW f y fs)))):tU i j H λx H2=>∃a C h fs,x=.ref a/\H2 a=N' (.ins C h fs)/\vk K C/\fP K C f/\fs.length<1000/\D.nx j (upd H2 a (.ins C h (lW f y fs))):=#[_,r,p,o,h,fs,S',s,u,B,E,q]
def o4(i):Rep G Z B H (.int i) (.int i):=by simp[Rep]
def o5:aA G Z B H [] []:=by simp[aA]
def dM(h:Rep G Z B H x v)(r:aA G Z B H xs vs):aA G Z B H (x::xs) (v::vs):=by simp![aA];show#[_,_,S',h,r]
end
section
variable {P:Program} {w:V6} {K:V7} {mg:x1} {base:Heap} {n:Nat}
def aam(G:Gx):Sp:=λvs H Q _=>∃(p j:VZ) (Z:Zx) (pl:Int),vs=[.ref p,.ref (Z.po Q'),.ref (Z.po P'),.int pl]/\H p=N' (.ins Gs j [])/\
 ∀h:Hp,qW G p H h->h p=N' (.ins Gs j (CV Z pl 0 0))->Q .bQ h
def So{u:V7}(c:ux K u)(t:Top P w base (gx K mg)){fd:FuncData}(y:xF K "__init__" "Walk.__init__" (rP .Ob) Li fd):gX P w K mg base lM 1 Li fd nWk (aam (gx K mg)):=by apply y.ok acz (λvs H Q E h=> ?_) (λB A r s H vs Q E S h=> ?_);obtain⟨p,J,Z,pl,rfl,_⟩:=h;rfl;obtain⟨p,J,Z,pl,rfl,L,k⟩:=h;obtain⟨⟨tk,M⟩,_⟩:=t.gi 4 0 rfl;obtain⟨j,_,o⟩:=c.mt.cl _ (.tail _ (.tail _ (.tail _ (.head _))));apply#[_,aJ (dU (pv 0) (pv 1) S') (aJ (dU (pv 0) (pv 2) S') (aJ (dU (pv 0) (pv 3) S') (aJ (dU (pv 0) gW S') (dD (dU (pv 0) (eO (v:=.int 0) (by rfl) M #[tk,S']) S'))))),?_];apply fG (G:=gx K mg) (fs:=[]) S' j (o "machine" (by simp)) [] S' (by decide+kernel) L (λQ q=>#[_,S',q _ (Sm.refl _)]) λN O U=> ?_;dsimp only;apply fG (G:=gx K mg) S' j (o "memory" (by simp)) ["machine"] S' (by decide+kernel) U (λQ q=>#[_,S',q _ (Sm.refl _)]) λW X Y=> ?_;dsimp only;apply fG (G:=gx K mg) S' j (o "place" (by simp)) ["machine","memory"] S' (by decide+kernel) Y (λQ q=>#[_,S',q _ (Sm.refl _)]) λa T C=> ?_;dsimp only;apply fG (G:=gx K mg) S' j (o "done" (by simp)) ["machine","memory","place"] S' (by decide+kernel) C (λQ q=>q _ (Sm.refl _)) λb F D=> ?_;dsimp only;apply fG (G:=gx K mg) S' j (o "why" (by simp)) ["machine","memory","place","done"] S' (by decide+kernel) D (λQ q=>q _ (Sm.refl _)) λV R I=> ?_;show k V (O.trans (X.trans (T.trans (F.trans R)))) I
end
section
variable {P:Program} {w:V6} {K KT:V7} {mg:x1} {base:Heap} {n:Nat}
def O5(G:Gx):Sp:=λvs H Q _=>∃(Z:Zx) (pw j:VZ) (s:Sg40.Machine) (pl dn o:Int) (po dp:VZ) (i:Sg40.Ins),vs=[.ref pw,.ref po]/\uy G Z pw j H (af s) pl dn o/\H po=N' (.ins Iq dp (BZ (ag i)))/\po∉Z.ma/\b8 i/\mq s/\
 ∀h,kX G Z H h->uy G Z pw j h (af (lz i s).2) pl dn o->Q (.int ((lz i s).1.getD 0:Nat)) h
def Sq(c:ux K KT)(t:Top P w base (gx K mg))(M:Calls P w base (gx K mg) 17)(x:xF K "obey" "Walk.obey" (rP .O1) xW fd):gX P w K mg base lM 18 xW fd ["self","order"] (O5 (gx K mg)):=by
 have z:gX P w K mg base lM 17 (lC .bA) (nY K (lC .bA)) (pf .bA) (uZ (gx K mg) (bt T defs 17) .bA):=M.Ah .bA ();have GT:gX P w K mg base lM 17 (lC .transfer) (nY K (lC .transfer)) (pf .transfer) (uZ (gx K mg) (bt T defs 17) .transfer):=M.Ah .transfer ();have GP:gX P w K mg base lM 17 (lC .dH) (nY K (lC .dH)) (pf .dH) (uZ (gx K mg) (bt T defs 17) .dH):=M.Ah .dH ();have bI:Binds K (nY K (lC .bA)) (pf .bA) []:=t.bd .bA ();have bT:Binds K (nY K (lC .transfer)) (pf .transfer) []:=t.bd .transfer ();have bP:Binds K (nY K (lC .dH)) (pf .dH) []:=t.bd .dH ();have I:=t.OX .bA S';have S:=t.OX .transfer S';have N:=t.OX .dH S';obtain⟨⟨d,f⟩,_⟩:=t.gi 4 0 rfl;obtain⟨⟨k6,h6⟩,_⟩:=t.gi 6 3 rfl;obtain⟨⟨k7,h7⟩,_⟩:=t.gi 7 4 rfl;obtain⟨O,_,U⟩:=c.mt.cl _ (.tail _ (.tail _ (.tail _ (.head _))));apply x.ok acA (λvs H Q E h=> ?_) (λza A X s H vs Q E Y h=> ?_);obtain⟨Z,pw,dw,s,pl,dn,wy,po,g,i,rfl,_⟩:=h;rfl;obtain⟨Z,pw,dw,s,pl,dn,wy,po,g,i,rfl,a,l,no,m,hs,k⟩:=h;apply#[_,aJ (uE (nr (gr z Y S' I.1 I.2 bI .nil eQ (aC (cX (pv 1) S') br)) (λ_=>rfl))
   (dD (kb (vP (nr (gr GT Y S' S.1 S.2 bT .nil eQ (aC (pv 1) (aC (cX (pv 0) S') (aC (cX (pv 0) S') br)))) (λ_=>rfl)) (eO (v:=.int 0) (by rfl) f #[d,S']) (eO (v:=.int 4) (by rfl) h7 #[k7,S'])))) mL)
  (dD (kb (vP (nr (gr GP Y S' N.1 N.2 bP .nil eQ (aC (pv 1) (aC (cX (pv 0) S') br))) (λ_=>rfl)) (eO (v:=.int 0) (by rfl) f #[d,S']) (eO (v:=.int 3) (by rfl) h6 #[k6,S'])))),?_]
 have eI:bt T defs 17 .bA [.int (i.op:Int)] (N' (af s))=N' (.bl (Sg40.onMemory i s).isSome,Q',N' (af s)):=by show C (16+1) .bA [NI i.op] _=_;rw[Aw,<-NJ i s];rfl
 apply Ly S' l t.wz (t.wA .operation) S' (a.zH S' (dM (o4 _) o5) eI λv F q p=> ?_);simp![Rep]at p;subst p;apply#[_,S',?_];have o:=a.same q;have D:=q.kp _ _ l (lp _ _ _);have V:Rep (gx K mg) Z Z.ma F (.ord (ag i)) (.ref po):=by simp![Rep];show#[po,g,S',no,D]
 have R:Rep (gx K mg) Z Z.ma F .cT (.ref (Z.po Q')):=oM (b:=Q') a.on;have re:Rep (gx K mg) Z Z.ma F .mem (.ref (Z.po P')):=oM (b:=P') a.on;cases G:Sg40.onMemory i s with
 |some r=>
  have e:(lz i s)=(if r.isSome then O' else N' 4,r.getD s):=by unfold lz;rw[G];cases r<;>rfl
  rw[e]at k;have eT:=AO i s m r G 8;apply#[_,S',Ly S' o.W O (U "machine" (by simp)) S' (Ly S' o.W O (U "memory" (by simp)) S' (o.call S' (dM V (dM R (dM re o5))) eT λv u y j B=> ?_))];simp![Rep]at j;subst j;apply#[_,S',?_];have k':=k u (q.JD.trans y) B;cases r<;>show k'
 |none=>
  have J:=Cu i s m hs 1;apply#[_,S',Ly S' o.W O (U "machine" (by simp)) S' ?_];cases L:Sg40.onRegs i s with
  |none=>
   have e:(lz i s)=(N' 3,s):=by unfold lz;rw[G,L]
   rw[e]at k;rw[L]at J;apply o.call S' (dM V (dM R o5)) J λv u y j B=> ?_;simp![Rep]at j;subst j;show#[_,S',k u (q.JD.trans y) B]
  |some s'=>
   have e:(lz i s)=(O',s'):=by unfold lz;rw[G,L]
   rw[e]at k;rw[L]at J;apply o.call S' (dM V (dM R o5)) J λv u y j B=> ?_;simp![Rep]at j;subst j;show#[_,S',k u (q.JD.trans y) B]
end
instance nSt:iG:=["self","order","after","find_place","why"]
def Ii:fi nSt ["self"] (aG (rP .pz)):=j0 (by decide+kernel)
def cSt:CK:=#[OW,nSt,aG (rP .pz),λ_=>P',λ_=>Q']
section
variable {P:Program} {w:V6} {K KT:V7} {mg:x1} {base:Heap} {n:Nat}
def O6(G:Gx):Sp:=λvs H Q _=>∃(Z:Zx) (pw j:VZ) (s:Sg40.Machine) (dn o:Int),vs=[.ref pw]/\uy G Z pw j H (af s) s.pc dn o/\mq s/\
 ∀h,zG G (pw::Z.ma) H h->uy G Z pw j h (af (WB s).2) (WB s).2.pc dn o->Q (.int ((WB s).1.getD 0:Nat)) h
def Sr(c:ux K KT)(t:Top P w base (gx K mg))(D:Calls P w base (gx K mg) 17)(Fn:xF K "try_step" "Walk.try_step" (rP .pz) xl fd) (GO:gX P w K mg base lM 2 A2 (nY K A2) ["self","instruction"] (O3 (gx K mg)))(bO:Binds K (nY K A2) ["self","instruction"] [])(mO:mg "Order"=N' (.ref Iq)) (GB:gX P w K mg base lM 18 xW (nY K xW) ["self","order"] (O5 (gx K mg)))(bB:Binds K (nY K xW) ["self","order"] []):gX P w K mg base lM 19 xl fd ["self"] (O6 (gx K mg)):=by
 have GH:gX P w K mg base lM 17 (lC .gw) (nY K (lC .gw)) (pf .gw) (uZ (gx K mg) (bt T defs 17) .gw):=D.Ah .gw ();have GN:gX P w K mg base lM 17 (lC .aY) (nY K (lC .aY)) (pf .aY) (uZ (gx K mg) (bt T defs 17) .aY):=D.Ah .aY ();have GW:gX P w K mg base lM 17 (lC .way) (nY K (lC .way)) (pf .way) (uZ (gx K mg) (bt T defs 17) .way):=D.Ah .way ();have GC:gX P w K mg base lM 17 (lC .cut) (nY K (lC .cut)) (pf .cut) (uZ (gx K mg) (bt T defs 17) .cut):=D.Ah .cut ();have bH:Binds K (nY K (lC .gw)) (pf .gw) []:=t.bd .gw ();have bN:Binds K (nY K (lC .aY)) (pf .aY) []:=t.bd .aY ();have bW:Binds K (nY K (lC .way)) (pf .way) []:=t.bd .way ();have bC:Binds K (nY K (lC .cut)) (pf .cut) []:=t.bd .cut ();have eH:Meth K Gr "holds" (lC .gw):=t.met P' .gw S';have eN:Meth K Gr "read_number" (lC .aY):=t.met P' .aY S';have eB:Meth K Gs "obey" xW:=c.mt.wm ("obey",xW) (by simp[Ln]);have cE:vk K Gr:=t.xw P';have mW:=t.OX .way S';have mC:=t.OX .cut S';obtain⟨⟨k3,h3⟩,_⟩:=t.gi 3 8 rfl;obtain⟨⟨k4,h4⟩,_⟩:=t.gi 4 0 rfl;obtain⟨⟨k5,h5⟩,_⟩:=t.gi 5 1 rfl;obtain⟨⟨k6,h6⟩,_⟩:=t.gi 6 3 rfl;obtain⟨⟨k7,h7⟩,_⟩:=t.gi 7 4 rfl;obtain⟨u,_,nW⟩:=c.mt.cl _ (.tail _ (.tail _ (.tail _ (.head _))));obtain⟨_,kO,_⟩:=c.mt.cl _ (.tail _ (.head _));apply Fn.ok Ii (λvs H Q E h=> ?_) (λza A O s0 H vs Q E hr h=> ?_);obtain⟨Z,m,dw,s,p,x,rfl,_⟩:=h;rfl;obtain⟨Z,m,dw,s,p,x,rfl,a,hs,k⟩:=h;have j:fH 17 _:=hr.mono ();have zb:fH 3 _:=hr.mono ();have zc:pd cSt (gx K mg) T (bt T defs 17) 17 (pI lM P w K mg base nSt "Walk.try_step" (aG (rP .pz)) xl za A O s0 H E).vj:=rK t D S' rfl rfl rfl rfl rfl rfl j Ii.nd S' rfl rfl rfl rfl;apply#[_,aJ (uE (Dk (nr (oC (cX (pv 0) S') cE eH GH j bH .nil eQ (aC (cX (pv 0) S') (aC (eO (v:=.int 8) (by rfl) h3 #[k3,S']) br))) (λ_=>rfl))) (dD (kb (eO (v:=.int 4) (by rfl) h7 #[k7,S']))) mL)
  (aJ (kc (i:=1) Ii.nd S' (iu S') (vl kO GO zb S' mO bO .nil eQ (aC (oC (cX (pv 0) S') cE eN GN j bN .nil eQ (aC (cX (pv 0) S') (aC (eO (v:=.int 8) (by rfl) h3 #[k3,S']) br))) br)))
  (aJ (uE (Dk (nr (cX (pv 1) S') (λ_=>rfl))) (dD (kb (eO (v:=.int 3) (by rfl) h6 #[k6,S']))) mL)
  (aJ (uE (qr EB (cX (pv 1) S') gW S') (dD (kb (eO (v:=.int 1) (by rfl) h5 #[k5,S']))) mL)
  (aJ (kc (i:=2) Ii.nd S' (iu S') (j8 Dr (cX (pv 0) S') (eO (v:=.int 8) (by rfl) h3 #[k3,S'])))
  (aJ (kc (i:=3) Ii.nd S' (iu S') (gr GW j S' mW.1 mW.2 bW .nil eQ (aC (cX (pv 1) S') br)))
  (aJ (uE (vO (zW (pv 3))) (aJ (dU (pv 0) (gr GC j S' mC.1 mC.2 bC .nil eQ (aC (wD zc.mo (i:=3) S' (iu S') S' rfl (aC (pv 1) (aC (cX (pv 0) S') (aC (pv 2) br))) S' rfl) (aC gW br))) S') (dD (kb (eO (v:=.int 0) (by rfl) h4 #[k4,S'])))) mL)
  (aJ (kc (i:=4) Ii.nd S' (iu S') (oC (pv 0) u eB GB hr bB .nil eQ (aC (pv 1) br)))
  (aJ (uE (qr EB (pv 4) (eO (v:=.int 0) (by rfl) h4 #[k4,S']) S') (dD (dU (pv 0) (pv 2) S')) mL)
  (dD (kb (pv 4))))))))))),?_]
 have re:∀{H},Rep (gx K mg) Z Z.ma H .mem (.ref (Z.po P')):=oM (b:=P') a.on;have rm:∀{H},Rep (gx K mg) Z Z.ma H .cT (.ref (Z.po Q')):=oM (b:=Q') a.on;have J:=nW "memory" (by simp);have o:=nW "place" (by simp);have I:=nW "machine" (by simp);have e8:∀{H},aA (gx K mg) Z Z.ma H [.mem,NI s.pc,NI 8] [.ref (Z.po P'),.int (s.pc:Int),.int 8]:=dM re (dM (o4 _) (dM (o4 _) o5));apply#[_,S',_,_,_,_,_,S',a.W,u,J,S',_,_,_,S',a.R.ob P',S',Ly S' a.W u o S' (a.zH S' e8 (AN 16 s.pc 8 () _) λv H1 s1 r1=> ?_)];simp![Rep]at r1;subst r1;apply#[_,S',?_];have Y:=a.same s1;cases F:Sg40.there s.pc 8 with
 |false=>
  have e:WB s=(N' 4,s):=by unfold WB;rw[ae F]
  rw[e]at k;show k H1 (.sm s1) Y
 |true=>
  apply#[_,S',_,_,_,_,_,S',Y.W,u,J,S',_,_,_,S',Y.R.ob P',S',Ly S' Y.W u o S' (Y.zH S' e8 (ng 16 s.pc 8 (mv F) () s) λv H2 s2 r2=> ?_)];simp![Rep]at r2;subst r2;have a2:=Y.same s2;have hw:Sg40.number s.mem s.pc 8<2^64:=qC s.mem s.pc 8;apply λpo S n1 n2 n3=> ?_;have N:Sm (gx K mg) H2 (upd (upd H2 S (.own po)) po (.ins Iq S [])):=((Sm.refl H2).lay n2).lay (by rw[aq (iq n3)];show n1);apply#[po,S,Sg40.number s.mem s.pc 8,S',hw,aw,N.ta a2.T,λH3 zd d=>#[S',?_]];have s3:Sm (gx K mg) H2 H3:=N.plus zd n1;have g:=a2.same s3;have no:po∉Z.ma:=a2.fresh n1;have B:Sm (gx K mg) H H3:=(s1.trans s2).trans s3;apply#[_,S',_,_,_,_,_,S',d,t.wz,t.wA .sound,S',_,S',?_];cases hS:(AL (Sg40.number s.mem s.pc 8)).sound with
  |false=>
   have e:WB s=(N' 3,s):=by unfold WB;rw[ab (by rw[F];decide),y9 _ hS]
   rw[e]at k;show k H3 (.sm B) g
  |true=>
   obtain⟨i,U,ze,hi⟩:=y8 _ hS;rw[ze]at d;apply#[_,S',_,_,_,_,_,S',d,t.wz,t.wA .operation,S',S',_,S',?_];by_cases h0:i.op=0
   ·have e:WB s=(N' 1,s):=by
     unfold WB
     rw[ab (by rw[F];decide),U]
     simp![h0]
    rw[e]at k
    rw[gU (by rw[oP,h0];rfl)]
    show k H3 (.sm B) g
   ·rw[bp (λz=>h0 (by injection z with z;show il z))];apply#[_,S',_,_,_,_,_,S',g.W,u,o,S',_,_,S',S',?_];have eW:bt T defs 17 .way [.int (i.op:Int)] (N' (af s))=N' ((a_ .uW (i.op:Int)).elim .bQ .fn,Q',N' (af s)):=by show C (16+1) .way [NI i.op] _=_;rw[Aw];rfl
    apply Ly S' d t.wz (t.wA .operation) S' (g.zH S' (dM (o4 _) o5) eW λv H4 s4 r4=> ?_);have a4:=g.same s4;have g4:=s4.kp _ _ d (lp _ _ _);have ro:Rep (gx K mg) Z Z.ma H4 (.ord (ag i)) (.ref po):=by simp![Rep];show#[po,S,S',no,g4]
    have ep:((s.pc:Int)+8)=((s.pc+8:Nat):Int):=rfl;cases G:a_ .uW (i.op:Int)with
    |some f=>
     rw[G]at r4;have q:Rep (gx K mg) Z Z.ma H4 (.fn f) v:=r4;simp![Rep]at q;obtain⟨rfl,zf⟩:=q;obtain⟨s',z,L,X,zh⟩:=CB F U hi hs G;apply#[_,S',_,S',f,zf,S',_,S',Ly S' a4.W u I S' #[_,S',a4.call (OY (L 13)) (dM ro (dM rm (dM (o4 _) o5))) (L 13) λv5 H5 x5 r5 M=> ?_]];simp![Rep]at r5;subst r5;apply M.zH S' (dM (o4 _) (dM (o4 _) o5)) (jS 15 z 64 () _) λv6 H6 s6 r6=> ?_;simp![Rep]at r6;subst r6;have l:=M.same s6;apply rdS S' l.W u o (by show 5<1000;decide) ?_;rw[X]at k;have em:af {s' with pc:=Sg40.wrap z}=af s':=rfl;have a7:=l.put (Sg40.wrap z:Int) p x;apply k _ (((zG.sm (B.trans s4)).trans (.ex x5)).trans ((zG.sm s6).trans (.sp (qW.upd l.W)))) ?_;rw[em];show a7
    |none=>
     rw[G]at r4;have q:Rep (gx K mg) Z Z.ma H4 .bQ v:=r4;simp![Rep]at q;subst q;have X:=zA F U h0 G;apply#[_,S',_,S',_,S',m,dw,_,S',a4.W,S',_,S',Z,m,dw,s,s.pc,p,x,po,S,i,S',a4,g4,no,hi,hs,λH5 x5 M=> ?_];apply#[_,S',S',_,S',?_];have xx:zG (gx K mg) (m::Z.ma) H H5:=(zG.sm (B.trans s4)).trans (.ex x5);rw[X]at k;cases hb:lz i s with
     |mk r y=>
      rw[hb]at k M;cases r with
      |none=>
       apply#[_,S',rdS S' M.W u o (by show 5<1000;decide) #[_,S',?_]];have l:=M.put ((s.pc+8:Nat):Int) p x;have em:af {y with pc:=s.pc+8}=af y:=rfl;apply k _ (xx.trans (.sp (qW.upd M.W))) ?_;rw[em];show l
      |some e=>
       obtain⟨rfl,he⟩:=Ge hb;have zg:decide (V.int ((e:Nat):Int)=V.int 0)=false:=bp λz=>he (by injection z with z;show il z);show if decide (V.int ((e:Nat):Int)=V.int 0)=P' then _ else _
       rw[zg];show#[_,S',k H5 xx M]
end
instance O7:iG:=["self","steps"]
def aan:fi O7 O7 (aG (rP .go)):=j0 (by decide+kernel)
def cGo:CK:=#[OW,O7,aG (rP .go),λ_=>P',λ_=>Q']
def Lz(m s):Wt (m+1) s=match WB s with
  |(N' e,n)=>(0,{n with why:=e})
  |(O',n)=>((Wt m n).1+1,(Wt m n).2):=rfl
section
variable {P:Program} {w:V6} {K KT:V7} {mg:x1} {base:Heap} {n:Nat}
def acB(G:Gx):Sp:=λvs H Q _=>∃(Z:Zx) (pw j:VZ) (s:Sg40.Machine) (n:Nat),vs=[.ref pw,.int (n:Int)]/\uy G Z pw j H (af s) s.pc 0 0/\mq s/\
 ∀h,zG G (pw::Z.ma) H h->uy G Z pw j h (af (Wt n s).2) (Wt n s).2.pc (Wt n s).1 (Wt n s).2.why->Q .bQ h
def aao(c:ux K KT)(t:Top P w base (gx K mg))(l:Calls P w base (gx K mg) 17)(p:xF K "go" "Walk.go" (rP .go) O0 fd) (x:gX P w K mg base lM 19 xl (nY K xl) ["self"] (O6 (gx K mg)))(bS:Binds K (nY K xl) ["self"] []):gX P w K mg base lM 20 O0 fd O7 (acB (gx K mg)):=by
 have eS:Meth K Gs "try_step" xl:=c.mt.wm ("try_step",xl) (by simp[Ln]);obtain⟨⟨k4,h4⟩,_⟩:=t.gi 4 0 rfl;obtain⟨O,_,f⟩:=c.mt.cl _ (.tail _ (.tail _ (.tail _ (.head _))));apply p.ok aan (λvs H Q E h=> ?_) (λD A G s0 H vs Q E g h=> ?_);obtain⟨Z,q,J,s,n,rfl,_⟩:=h;rfl;obtain⟨Z,q,J,s,n,rfl,a,hs,k⟩:=h;have U:fH 17 _:=g.mono ();have R:pd cGo (gx K mg) T (bt T defs 17) 17 (pI lM P w K mg base O7 "Walk.go" (aG (rP .go)) O0 D A G s0 H E).vj:=rK t l S' rfl rfl rfl rfl rfl rfl U aan.nd S' rfl rfl rfl rfl;apply#[_,dD (Bh R.pass (qr Ox (cX (pv 0) S') (pv 1) S')
  (aJ (dU (pv 0) (pe_meth0 (pv 0) O eS x g bS .nil eQ) S')
  (aJ (uE (qr IJ (cX (pv 0) S') (eO (v:=.int 0) (by rfl) h4 #[k4,S']) S') (dD ps_retN) mL)
  (dD (ps_fldaug (pv 0) gW Ew))))),?_]
 have B:=f "why" (by simp);have u:=f "done" (by simp);apply#[λm σ M=>σ=L2.start O7 [V.ref q,V.int (n)]/\∃o d,d+m=n/\uy (gx K mg) Z q J M (af o) o.pc (d) 0/\mq o/\zG (gx K mg) (q::Z.ma) H M/\Wt n s=(d+(Wt m o).1,(Wt m o).2),#[n,S',s,0,by lia,a,hs,.sm (Sm.refl _),by rw[lG]],λm σ H1 hW=> ?_];obtain⟨rfl,o,d,hd,F,X,i,j⟩:=hW;apply#[_,S',_,_,_,_,_,S',F.W,O,u,S',_,S',_,_,S',S',_,S',?_];cases m with
 |zero=>
  rw[bp 'l'];rw[j]at k;show k H1 i F
 |succ m=>
  rw[gU 'l'];apply#[λσ M=>σ=L2.start O7 [V.ref q,V.int (n)]/\∃o d,d+m=n/\uy (gx K mg) Z q J M (af o) o.pc (d) 0/\mq o/\zG (gx K mg) (q::Z.ma) H M/\Wt n s=(d+(Wt m o).1,(Wt m o).2),λσ' M hN=>#[m,by lia,hN],?_];obtain⟨Y,C⟩:=NK X;apply#[_,S',q,J,_,S',F.W,S',Z,q,J,o,d,0,S',F,X,λH2 x2 I=> ?_];apply rdS S' I.W O B (by show 5<1000;decide) ?_;have L:=I.put (WB o).2.pc d ((WB o).1.getD 0:Nat);have S:zG (gx K mg) (q::Z.ma) H _:=(i.trans x2).trans (.sp (qW.upd (fs':=CV Z (WB o).2.pc d ((WB o).1.getD 0:Nat)) I.W));apply#[_,S',_,_,_,_,_,S',L.W,O,B,S',S',_,S',?_];rw[Lz]at j;cases N:WB o with
  |mk r y=>
   rw[N]at L S Y C j;cases r with
   |some e=>
    have he:=C e S';have b:decide (V.int (e:Int)=V.int 0)=false:=bp λz=>he (by injection z with z;show il z);show if(!decide (V.int ((e:Nat):Int)=V.int 0))=P' then _ else _
    rw[b];simp only at j;rw[j]at k;show k _ S L
   |none=>
    apply#[_,S',q,Gs,J,_,_,S',L.W,O,u,S',_,_,S',S',J,_,L.W,by show 5<1000;decide,S',y,d+1,by lia,?_,Y,S.trans (.sp (qW.upd L.W)),?_];show L.put y.pc ((d+1:Nat):Int) 0;simp only at j;rw[j];show Prod.ext (by show d+((Wt m y).1+1)=d+1+(Wt m y).1;lia) S'
end
def acC:fi ["numbers"] ["numbers"] (aG (rP .cnt)):=j0 (by decide+kernel)
def acD:fi ["machine"] ["machine"] (aG (rP .Oa)):=j0 (by decide+kernel)
section
variable {P:Program} {w:V6} {K:V7} {mg:x1} {base:Heap} {n:Nat}
def O8(G:Gx):Sp:=λvs H Q _=>∃(a:VZ) (xs:List V),vs=[.ref a]/\H a=N' (.lst xs)/\xs.length<=100000/\∀(l:VZ) (h:Hp),Sm G H h->H l=O'->h l=N' (.lst (V.int (xs.length:Int)::xs))->Q (.ref l) h
def LA(t:Top P w base (gx K mg))(y:xF K "counted" "counted" (rP .cnt) A3 fd):gX P w K mg base lM 1 A3 fd ["numbers"] (O8 (gx K mg)):=by
 apply y.ok acC (λvs H Q E h=> ?_) (λB A o s H vs Q E J h=> ?_);obtain⟨a,xs,rfl,_⟩:=h;rfl;obtain⟨a,xs,rfl,q,L,k⟩:=h;apply#[_,dD (kb (j8 lX (pH (aC (jz oE (by rfl) (t.bi "len" (by simp)) Yo (aC (pv 0) br)) br)) (pv 0))),?_];apply#[_,S',a,xs,S',.inl (cQ.of q),by show 1<=sizeLine;decide,λb j=>#[_,S',?_]];have r:a≠b:=λe=>by subst e;rw[q]at j;cases j
 apply#[b,a,_,xs,S',S',aw,by rw[aq r];show q,?_,λc u=> ?_];have:(100000)+1<=sizeLine:=by decide
 simp![dR,jb];lia;apply k c _ (((Sm.refl H).lay j).lay u) (((Sm.refl (G:=gx K mg) H).lay j).free u) aw
instance cn(xs:List V):List V:=V.int (xs.length:Int)::xs
def aap(G:Gx):Sp:=λvs H Q _=>∃(Z:Zx) (m:xu),vs=[.ref (Z.po Q')]/\sM G Z H m/\m.v.length<=128/\m.p.length<=8/\m.x.length<=16/\
 ∀(l:VZ) (h:Hp),Sm G H h->H l=O'->h l=N' (.lst (cn (m.v.map V.int)++cn (m.p.map V.int)++cn (m.x.map V.int)))->Q (.ref l) h
def Ss(t:Top P w base (gx K mg))(y:mg "counted"=N' (.ref A3))(r:xF K "counted" "counted" (rP .cnt) A3 j)(B:Binds K j ["numbers"] [])(F:xF K "told_parts" "told_parts" (rP .Oa) Ib fd):gX P w K mg base lM 2 Ib fd ["machine"] (aap (gx K mg)):=by
 have J:gX P w K mg base lM 1 A3 j ["numbers"] (O8 (gx K mg)):=LA t r;apply F.ok acD (λvs H Q E h=> ?_) (λD A L s H vs Q E M h=> ?_);obtain⟨Z,m,rfl,_⟩:=h;rfl;obtain⟨Z,m,rfl,R,I,S,N,k⟩:=h;apply#[_,dD (kb (j8 lX (j8 lX
  (gr J M S' y r.kp B .nil eQ (aC (cX (pv 0) S') br))
  (gr J M S' y r.kp B .nil eQ (aC (cX (pv 0) S') br)))
  (gr J M S' y r.kp B .nil eQ (aC (cX (pv 0) S') br)))),?_]
 apply#[_,S',Z.po Q',LX,Z.dp Q',_,_,S',R.ob Q',t.xw Q',t.Hv Q' .vec,oJ Z _ .vec S',_,_,S',R.ls .vec,by simp![aB];show c_ I (),λW p O v a=> ?_];have U:=R.same O;apply#[_,S',Z.po Q',LX,Z.dp Q',_,_,S',U.ob Q',t.xw Q',t.Hv Q' .we,oJ Z _ .we S',_,_,S',U.ls .we,by simp![aB];show c_ S (),λb c u x d=> ?_];have e:=U.same u;apply#[W,b,_,_,S',S',u.kp _ _ a (bU _),d,?_,λf X=> ?_];have:(138)<=sizeLine:=by decide
 simp![dR,aB,xu.get];lia;have Y:=(Sm.refl (G:=gx K mg) c).lay (o:=.lst (V.int ((Xg V.int (m.get .vec)).length:Int)::Xg V.int (m.get .vec)++V.int ((Xg V.int (m.get .we)).length:Int)::Xg V.int (m.get .we))) X;have C:=e.same Y;apply#[_,S',Z.po Q',LX,Z.dp Q',_,_,S',C.ob Q',t.xw Q',t.Hv Q' .xH,oJ Z _ .xH S',_,_,S',C.ls .xH,by simp![aB];show c_ N (),λg z T n4 i=> ?_];apply#[f,g,_,_,S',S',T.kp _ _ aw (bU _),i,?_,λl q=> ?_];have:(155)<=sizeLine:=by decide
 simp![dR,en,aB,xu.get];lia;apply k l _ ((((O.trans u).trans Y).trans T).lay q) ((((O.trans u).trans Y).trans T).free q) (aw.trans ?_);rfl
end
instance nRn:iG:=["steps","vectors","predicates","scalars","here","memory","looked","machine","walk","ended","seen"]
instance pRn:iG:=["steps","vectors","predicates","scalars","here","memory","looked"]
def LB:fi nRn pRn (aG (rP .rn)):=j0 (by decide+kernel)
instance iI(l:d_):List Int:=l.map λ(n:Nat)=>(n:Int)
def Sm.exl(s:Sm G H q)(j:zG G l q H1)(r:∀b∈l,H b=O'):Sm G H H1:=#[λb o h n=>j.kp b o (s.kp b o h n) n (λe=>by have:=r b e;rw[this]at h;cases h),λb ps h=>let ⟨ps',h'⟩:=s.tb b ps h;j.tb b ps' h',λt=>j.ta (s.ta t)]
section
variable {P:Program} {w:V6} {K KT:V7} {mg:x1} {base:Heap} {n:Nat}
def aaq(G:Gx):Sp:=λvs H Q _=>∃(j ap o r am al:VZ) (st:Nat) (v q x:d_) (pc f a:Nat) (b:d_) (lo ln:Nat),vs=[.int (st:Int),.ref j,.ref ap,.ref o,.ref r,.ref am,.ref al]/\v.length=128/\q.length=8/\x.length=16/\(∀y∈v,y<2^64)/\(∀y∈q,y<2^64)/\(∀y∈x,y<2^64)/\a+b.length<=65536/\(∀y∈b,y<256)/\lo+ln<=65536/\
 cQ G.K H j (vI v)/\cQ G.K H ap (vI q)/\cQ G.K H o (vI x)/\cQ G.K H r (vI [pc,f])/\cQ G.K H am (vI (a::b))/\cQ G.K H al (vI [lo,ln])/\TabAt G H/\
 ∀(l:VZ) (h:Hp),Sm G H h->H l=O'->h l=N' (.lst ((Xi (st:Int) (iI v) (iI q) (iI x) (iI [pc,f]) (iI (a::b)) (iI [lo,ln])).map V.int))->Q (.ref l) h
def Su(c:ux K KT)(X:K.In base)(r:base.Ns V1 mg):gX P w K mg base lM 21 CP (nY K CP) pRn (aaq (gx K mg)):=by
 have t:Top P w base (gx K mg):=c.top X r;have cl:=λn=>calls t (bindC (gx K mg)) n;have IH:=cl 17;have FM:=c.fx .cT;have FO:=c.fx .ord;have FC:=c.fx .cnt;have FT:=c.fx .Oa;have FE:=c.fx .mem;have FW:=c.fx .Ob;have FG:=c.fx .go;have FS:=c.fx .pz;have FB:=c.fx .O1;have FR:=c.fx .rn;have bM:Binds K (nY K Ia) ["self","vectors","predicates","scalars","flags"] []:=qV FM S' rfl ();have bO:Binds K (nY K A2) ["self","instruction"] []:=qV FO S' rfl ();have bC:Binds K (nY K A3) ["numbers"] []:=qV FC S' rfl ();have bT:Binds K (nY K Ib) ["machine"] []:=qV FT S' rfl ();have bE:Binds K (nY K Lh) ["self","given"] []:=qV FE S' rfl ();have bW:Binds K (nY K Li) nWk []:=qV FW S' rfl ();have bG:Binds K (nY K O0) O7 []:=qV FG S' rfl ();have bS:Binds K (nY K xl) ["self"] []:=qV FS S' rfl ();have bB:Binds K (nY K xW) ["self","order"] []:=qV FB S' rfl ();have mC:=X2 X r c.gl.cnt;have mT:=X2 X r c.gl.Oa;have mM:=X2 X r c.gl.cT;have mO:=X2 X r c.gl.ord;have mE:=X2 X r c.gl.mem;have mW:=X2 X r c.gl.Ob;have GM:=Sl (n:=0) t (mg_none_of X r (c.gl.b "list" (by simp))) (cl 1) FM;have GO:=Sk (n:=0) t (cl 1) FO;have GC:=LA t FC;have GT:=Ss t mC FC bC FT;have GE:=Sn t FE;have GW:=So c t FW;have GB:=Sq c t IH FB;have GS:=Sr c t IH FS GO bO mO GB bB;have GG:=aao c t IH FG GS bS;have GL:gX P w K mg base lM 17 (lC .eh) (nY K (lC .eh)) (pf .eh) (uZ (gx K mg) (bt T defs 17) .eh):=IH.Ah .eh ();have bL:Binds K (nY K (lC .eh)) (pf .eh) []:=t.bd .eh ();have eL:Meth K Gr "look_at" (lC .eh):=t.met P' .eh S';have eG:Meth K Gs "go" O0:=c.mt.wm ("go",O0) (by simp[Ln]);have cE:vk K Gr:=t.xw P';obtain⟨_,kM,_⟩:=c.mt.cl _ (.head _);obtain⟨_,kE,_⟩:=c.mt.cl _ (.tail _ (.tail _ (.head _)));obtain⟨cW,kW,nW⟩:=c.mt.cl _ (.tail _ (.tail _ (.tail _ (.head _))));apply FR.ok LB (λvs H Q E h=> ?_) (λcdv A zw J H vs Q E hr h=> ?_);obtain⟨av,ap,ax,ah,am,al,st,v,q,x,pc,f,a,b,Y,L,rfl,_⟩:=h;rfl;obtain⟨av,ap,ax,ah,am,al,st,v,q,x,pc,f,a,b,Y,L,rfl,lv,lq,lx,bv,bq,bx,zx,hb,zy,hv,hq,hx,hh,hm,hl,hT,k⟩:=h;have zc:fH 17 _:=hr.mono ();have zz:fH 3 _:=hr.mono ();have D:fH 2 _:=hr.mono ();have I:fH 1 _:=hr.mono ();apply#[_,aJ (kc (i:=7) LB.nd S' (iu S') (vl kM GM zz S' mM bM .nil eQ (aC (pv 1) (aC (pv 2) (aC (pv 3) (aC (vY qt (pv 4) gW (mP S')) br))))))
  (aJ (kc (i:=8) LB.nd S' (iu S') (vl kW GW D S' mW bW .nil eQ (aC (pv 7) (aC (vl kE GE D S' mE bE .nil eQ (aC (pv 5) br)) (aC (vY qt (pv 4) gW (mP S')) br)))))
  (aJ (qp (oC (pv 8) cW eG GG hr bG .nil eQ (aC (pv 0) br)))
  (aJ (kc (i:=9) LB.nd S' (iu S') (j8 lX (pH (aC (cX (pv 8) S') br)) (gr GC I S' mC FC.kp bC .nil eQ (aC (pH (aC (cX (pv 8) S') br)) br))))
  (aJ (kc (i:=10) LB.nd S' (iu S') (gr GC I S' mC FC.kp bC .nil eQ (aC (oC (cX (pv 8) S') cE eL GL zc bL .nil eQ (aC (vY qt (pv 6) gW (mP S')) (aC (vY qt (pv 6) gW (mP S')) br))) br)))
  (dD (kb (j8 lX (j8 lX (j8 lX (pv 9) (gr GT D S' mT FT.kp bT .nil eQ (aC (pv 7) br))) (gr GC I S' mC FC.kp bC .nil eQ (aC (pH (aC (cX (pv 8) S') (aC (cX (pv 7) S') br))) br))) (pv 10)))))))),?_]
 apply#[_,S',_,S',_,S',rdI S' hh (at_of (j:=1) S' rfl) λxm dm S ya yb=> ?_];have J:Sm (gx K mg) H (upd (upd H dm (.own xm)) xm (.ins LX dm [])):=((Sm.refl H).lay ya).lay (by rw[aq (iq yb)];show S);apply#[xm,dm,av,ap,ax,v,q,x,f,S',ot lv,ot lq,ot lx,aw,J.sq hv,J.sq hq,J.sq hx,J.ta hT,λl H1 N zd yc hM hL=>#[S',?_]];have s1:Sm (gx K mg) H H1:=J.plus yc S;apply#[_,S',_,S',λxe de g yd ye=> ?_];have u:Sm (gx K mg) H1 (upd (upd H1 de (.own xe)) xe (.ins Gr de [])):=((Sm.refl H1).lay yd).lay (by rw[aq (iq ye)];show g);apply#[xe,de,am,a,b,S',zx,hb,aw,(s1.trans u).sq hm,u.ta (s1.ta hT),λlc H2 ze yf hE hC=>#[S',?_]];have s2:Sm (gx K mg) H1 H2:=u.plus yf g;have m:=s1.trans s2;apply rdI S' (m.sq hh) (at_of (j:=0) S' rfl) λM dw O yg yh=> ?_;have yi:Sm (gx K mg) H2 (upd (upd H2 dw (.own M)) M (.ins Gs dw [])):=((Sm.refl H2).lay yg).lay (by rw[aq (iq yh)];show O);apply#[M,dw,#[P',λb=>match b with|false=>xm|true=>xe,λb=>match b with|false=>dm|true=>de,λj=>match j with|.vec=>l .vec|.we=>l .we|.xH=>l .xH|.rN=>lc],pc,S',aw,λH3 yj hW=>#[S',?_]];generalize hZ:(#[P',λb=>match b with|false=>xm|true=>xe,λb=>match b with|false=>dm|true=>de,λj=>match j with|.vec=>l .vec|.we=>l .we|.xH=>l .xH|.rN=>lc]:Zx)=Z at hW;have s3:Sm (gx K mg) H2 H3:=yi.plus yj O;have s23:=s2.trans s3;have C:=m.trans s3;have U:Z.on=true:=by rw[<-hZ]
 have z1:Z.po Q'=xm:=by rw[<-hZ]
 have z2:Z.po P'=xe:=by rw[<-hZ]
 have zf:∀j,Hq Q' j=P'->l j≠lc:=λj hj e=>by have:=u.kp _ _ (hL j hj) (bU _);rw[e,ze]at this;cases this
 have R2:sM (gx K mg) Z H2 (af (m0 v q x f pc a b)):=by
  rw[VJ lv lq lx bv];subst hZ;apply#[λb=> ?_,λj=> ?_,λi j e=> ?_]
  ·cases b with
   |false=>show s2.kp _ _ hM (lp _ _ _)
   |true=>show hE
  ·cases j with
   |vec=>show s2.kp _ _ (hL .vec S') (bU _)
   |we=>show s2.kp _ _ (hL .we S') (bU _)
   |xH=>show s2.kp _ _ (hL .xH S') (bU _)
   |rN=>show hC
  ·cases i<;>cases j<;>first|rfl|show zd _ _ S' rfl e|show absurd e (zf _ S')|show absurd e.symm (zf _ S')
 have nw:M∉Z.ma:=λhb=>by obtain⟨o,e,_⟩:=R2.S8 U M hb;rw[O]at e;cases e
 have fr:∀b∈M::Z.ma,H b=none:=λb hb=>by simp![Zx.ma,U,dC,aE,kn,lI]at hb;subst hZ;rcases hb with rfl|rfl|rfl|rfl|rfl|rfl|rfl;show m.free O;show S;show s1.free g;show J.free (N .vec S');show J.free (N .we S');show J.free (N .xH S');show(s1.trans u).free ze
 have yk:mq (m0 v q x f pc a b):=let h:=Nu (f:=f) lv bv bq bx;#[h.v,h.p,h.x,h.p0];have a3:uy (gx K mg) Z M dw H3 (af (m0 v q x f pc a b)) (m0 v q x f pc a b).pc 0 0:=#[U,R2.same s3,C.ta hT,hW,nw];apply#[_,S',M,dw,_,S',hW,S',_,S',Z,M,dw,m0 v q x f pc a b,st,S',a3,yk,λH4 x4 a4=> ?_];have zg:=run_eq st v q x pc f a b Y L;generalize Wt st (m0 v q x f pc a b)=yy at a4 zg;obtain⟨d,y⟩:=yy;have s4:Sm (gx K mg) H H4:=C.exl x4 fr;have z:=nW "done" (by simp);have zh:=nW "why" (by simp);have zi:=nW "place" (by simp);have zj:=nW "memory" (by simp);have big:200000<=sizeLine:=by decide
 apply Ly S' a4.W cW z S' #[by show 1<=sizeLine;decide,λb1 yl=> ?_];have t5:=(Sm.refl (G:=gx K mg) H4).lay (o:=.lst [V.int (d:Int)]) yl;have a5:=a4.same t5;apply Ly S' a5.W cW zh S' #[by show 1<=sizeLine;decide,λb2 ym=> ?_];have t6:=(Sm.refl (G:=gx K mg) (upd H4 b1 (.lst [V.int (d:Int)]))).lay (o:=.lst [V.int (y.why:Int)]) ym;apply#[b2,_,S',aw,by show 1<=100000;decide,λl3 H6 s6 n6 e6=> ?_];have a6:=(a5.same t6).same s6;apply rdC (s6.kp _ _ (t6.kp _ _ aw (bU _)) (bU _)) e6 (by show 1+2<=sizeLine;decide) λb4 yn=> ?_;have yo:Sm (gx K mg) H H6:=((s4.trans t5).trans t6).trans s6;have t7:=(Sm.refl (G:=gx K mg) H6).lay (o:=.lst ([V.int (d:Int)]++V.int (([V.int (y.why:Int)].length:Nat):Int)::[V.int (y.why:Int)])) yn;have a7:=a6.same t7;have s7:=yo.trans t7;have l7:=s7.sq hl;apply#[_,S',_,_,_,_,_,S',a7.W,cW,zj,S',_,_,_,S',a7.R.ob P',S',rdI S' l7 (at_of (j:=0) S' rfl) (rdI S' l7 (at_of (j:=1) S' rfl) (a7.zH S' (dM (oM (b:=P') U) (dM (o4 _) (dM (o4 _) o5))) (HU 16 Y L zy y) λv8 H8 s8 r8=> ?_))];simp![Rep]at r8;obtain⟨p8,yp,rfl,_,h8,r8⟩:=r8;have e8:yp=((VW L).map λj=>((y.mem (Y+j)).toNat:Int)).map V.int:=aA.kv (iD L λj=>((y.mem (Y+j)).toNat:Int)) r8;subst e8;have zk:(((VW L).map λj=>((y.mem (Y+j)).toNat:Int)).map V.int).length=L:=by simp
 apply#[p8,_,S',h8,by rw[zk];lia,λl9 H9 s9 n9 e9=> ?_];have za:=s8.trans s9;have a9:=a7.same za;have g9:=za.kp _ _ (show upd H6 b4 _ b4=_ from aw) (bU _);have yq:∀s:Sg40.Machine,(af s).v.length=128/\(af s).p.length=8/\(af s).x.length=16:=λs=>#[by rw[DV,aB,cG],by rw[wL,aB,cG],by rw[wM,aB,cG]];obtain⟨y1,y2,y3⟩:=yq y;apply#[_,S',_,S',Z,af y,by rw[z1];rfl,a9.R,by lia,by lia,by lia,λl10 yr zb n10 ys=> ?_];apply rdC (zb.kp _ _ g9 (bU _)) ys ?_ λb11 zl=> ?_
 ·simp![cn,dR,en,aB,jb];lia
 have zm:=(Sm.refl (G:=gx K mg) yr).lay (o:=.lst ([V.int (d:Int)]++V.int (([V.int (y.why:Int)].length:Nat):Int)::[V.int (y.why:Int)]++(cn ((af y).v.map V.int)++cn ((af y).p.map V.int)++cn ((af y).x.map V.int)))) zl;have zo:=(a9.same zb).same zm;apply#[_,S',_,_,_,_,_,S',zo.W,cW,zi,S',Ly (p:=Z.po Q') (by rw[z1];rfl) (zo.R.ob Q') (t.xw Q') t.MS S' #[by show 2<=sizeLine;decide,λyt zp=> ?_]];have zq:=(Sm.refl (G:=gx K mg) _).lay (o:=.lst [V.int (y.pc:Int),V.int (af y).f]) zp;apply#[yt,[V.int (y.pc:Int),V.int (af y).f],S',aw,by show 2<=100000;decide,λl13 yu zr n13 yv=> ?_];apply rdC (zr.kp _ _ (zq.kp _ _ aw (bU _)) (bU _)) yv ?_ λyw B=> ?_
 ·simp![cn,dR,en,aB,jb];lia
 have sB:Sm (gx K mg) H9 yu:=((zb.trans zm).trans zq).trans zr;have zt:=sB.kp _ _ e9 (bU _);have zu:l9≠yw:=λe=>by rw[<-e,zt]at B;cases B
 have yx:=sB.lay (o:=.lst ([V.int (d:Int)]++V.int (([V.int (y.why:Int)].length:Nat):Int)::[V.int (y.why:Int)]++(cn ((af y).v.map V.int)++cn ((af y).p.map V.int)++cn ((af y).x.map V.int))++V.int (([V.int (y.pc:Int),V.int (af y).f].length:Nat):Int)::[V.int (y.pc:Int),V.int (af y).f])) B;apply#[_,S',rdC aw (by rw[aq zu];show zt) ?_ λyz F=> ?_]
 ·simp![cn,dR,en,aB,jb,cG];lia
 have sA:=(s7.trans za).trans yx;apply k yz _ (sA.lay F) (sA.free F) (aw.trans ?_);have zv:Xi (st:Int) (iI v) (iI q) (iI x) (iI [pc,f]) (iI (a::b)) (iI [Y,L])=RH d y Y L:=zg;rw[zv];congr 2;simp![cn,RH,aB,y1,y2,y3,kq,bf,qm,ra,mB,pF,dR,jb,cG];rfl
end
end Lw
namespace Lw
open PySem L2 PySem.Spec PyProof.Rows
def Sv:(Gu.all λa=>Ie.any λf=>LW f==a)=true:=by decide+kernel
set_option genInjectivity true in
structure Arg where
 a:VZ
 vs:TyJ
 xs:List V
instance Arg.ob(y:Arg):Obj:={cls:=.type "list",data:=.seq y.vs.toArray}
def O9(K:Xu)(l:List Arg):Hp:=λb=>if b∈Gu then N' (.qK #[])else if(K.lookup b).isSome=P' then O' else(l.find? λy=>decide (y.a=b)).map λy=>.nX y.ob (.lst y.xs)
section
variable {P:Program} {w:V6} {K KT:Xu} {mg mb:x1} {h:Heap} {l:List Arg}
universe b
def ux.tab(c:ux K KT)(r:a∈Gu):K.lookup a=O'/\∃o,KT.lookup a=N' o/\o={cls:=.none,data:=.fields #[]}:=by have q:=cC.mp c.t a r;rw[aD,vD]at q;apply#[q.1,?_];have j:=q.2;split at j;rename_i E vs G s;simp![aD,bg,ZG]at j;obtain⟨⟨u,y⟩,B⟩:=j;subst u y B;show#[_,s,S'];cases j
universe a
def CW(e:(l.find? λy=>decide (y.a=b))=N' y):y∈l/\y.a=b:=#[YF e,by simpa using List.find?_some e]
universe b
def GK(e:O9 K l b=N' u):(b∈Gu/\u=.qK #[])\/(b∉Gu/\K.lookup b=O'/\∃y∈l,y.a=b/\u=.nX y.ob (.lst y.xs)):=by
 unfold O9 at e;split at e;rename_i j;cases e;show .inl #[j,S'];rename_i j;split at e;cases e;rename_i r;obtain⟨y,s,rfl⟩:=bj.mp e;obtain⟨B,E⟩:=CW s;apply .inr #[j,?_,y,B,E,S'];cases q:K.lookup b with
 |none=>rfl
 |some o=>rw[q]at r;show absurd rfl r
universe a
def uz(c:ux K KT)(G:K.In h)(j:KT.In h)(H:∀y∈l,h.get? y.a=N' y.ob/\Vals y.xs y.vs/\y.xs.length<=sizeLine)(s:y∈l)(J:∀z∈l,z.a=y.a->z=y):cQ K (O9 K l) y.a y.xs:=by
 obtain⟨u,B,L⟩:=H y s;have q:y.a∉Gu:=λM=>by obtain⟨_,o,O,rfl⟩:=c.tab M;have:=j _ _ O;rw[u]at this;unfold Arg.ob at this;cases this
 cases r:K.lookup y.a with
 |some o=>
  have e:=G _ _ r;rw[u]at e;cases e;show .inr #[_,y.vs.toArray,_,r,S',S',S',by rw[dj,<-B.length];show L,by simpa using B]
 |none=>
  apply .inl (.inr #[y.ob,?_]);unfold O9;rw[ab q,r,ab (by simp)];cases E:(l.find? λz=>decide (z.a=y.a))with
  |none=>
   have:=tM.mp E y s;simp at this
  |some z=>
   obtain⟨Q,U⟩:=CW E;rw[J z Q U];rfl
def Sw(c:ux K KT)(J:K.In h)(j:KT.In h)(s:∀y∈l,h.get? y.a=N' y.ob/\Vals y.xs y.vs/\y.xs.length<=sizeLine):uR P w (O9 K l) h:=λb u e=>by rcases GK e with⟨q,rfl⟩|⟨q,L,y,B,rfl,rfl⟩;obtain⟨_,o,E,rfl⟩:=c.tab q;show j _ _ E;obtain⟨r,G,H⟩:=s y B;show#[r,H,y.vs,_,G,r]
def Oi(c:ux K KT):TabAt (gx K mg) (O9 K l):=λt o=>by obtain⟨f,q,r⟩:=vK.mp o;obtain⟨s,u,rfl⟩:=bj.mp r;apply .inl ?_;have j:=cC.mp c.n f q;split at j;rw[aD,bg]at j;unfold O9;rw[ae j.2];cases j
theorem CY:∀{us:TyJ} {l j:d_},Vals (vI l) us->Vals (vI j) us->l=j
 |_,[],[],_,_=>rfl
 |_,[],_::_,.nil,h=>by cases h
 |_,_::_,[],h,.nil=>by cases h
 |_,a::l,b::j,.cons r h,.cons o h'=>by obtain⟨t,rfl⟩:=r;obtain⟨t',e⟩:=o;injection e with e;rw[il e,CY h h']
def LC(r:∀y∈l,h.get? y.a=N' y.ob/\Vals y.xs y.vs/\y.xs.length<=sizeLine)(s:∀y∈l,∃n,y.xs=vI n):∀y∈l,∀z∈l,z.a=y.a->z=y:=λy u z B e=>by
 obtain⟨L,E,_⟩:=r y u;obtain⟨o,G,_⟩:=r z B;obtain⟨n,H⟩:=s y u;obtain⟨Q,J⟩:=s z B;rw[e,L]at o;obtain⟨a,vs,xs⟩:=y;obtain⟨U,j,M⟩:=z;simp only at e H J E G;subst e H J;have q:Data.seq vs.toArray 0=Data.seq j.toArray 0:=by unfold Arg.ob at o;cases o;rfl
 have O:vs=j:=by injection q with q _;have:=congrArg YN q;simpa using this
 subst O;rw[CY E G]
universe b
def Eo(c:ux K KT)(r:K.In h)(s:b∈Gu):isCodeTable h b:=by
 obtain⟨f,u,y⟩:=X7.mp (cC.mp Sv b s);have e:LW f=b:=by simpa using y
 have j:=cC.mp c.n f u;split at j;rename_i g H;rw[aD]at j;obtain⟨o,vs,_,_,_,_,_,_,_,B,E,G,q,_⟩:=GJ j.1 r;rw[e]at q;show#[_,o,vs,B,E,G,q];cases j
end
def Sy(l):(iI l).map V.int=vI l:=by unfold iI vI;rw[aS];rfl
universe b
def LD{P:Program}{w:V6}{K KT:Xu}{mg mb:x1}{j:Shared}(c:ux K KT)(Y:K.In j.1)(E:KT.In j.1)(zb:j.1.Ns V1 mg)(C:j.1.Ns WJ mb)(zg:∀x:Str,x≠"__name__"→mb x=WZ x)(zc:j.1.NoLimit)(hg:j.gens= #[]) {J L M O Q U:VZ}{i k t uh um ul:TyJ}{I:Nat}{tw:Tok}{v q x:d_}{F f a:Nat}{b:d_}{Z T:Nat}(lv:v.length=128)(lq:q.length=8)(lx:x.length=16)(bv:∀y∈v,y<2^64)(bq:∀y∈q,y<2^64)(bx:∀y∈x,y<2^64)(zh:a+b.length<=65536)(bb:∀y∈b,y<256)(zi:Z+T<=65536) (hv:j.1.get? J=N' {cls:=.type "list",data:=.seq i.toArray})(rv:Vals (vI v) i)(hq:j.1.get? L=N' {cls:=.type "list",data:=.seq k.toArray})(rq:Vals (vI q) k)(hx:j.1.get? M=N' {cls:=.type "list",data:=.seq t.toArray})(rx:Vals (vI x) t) (hh:j.1.get? O=N' {cls:=.type "list",data:=.seq uh.toArray})(rh:Vals (vI [F,f]) uh)(hm:j.1.get? Q=N' {cls:=.type "list",data:=.seq um.toArray})(rm:Vals (vI (a::b)) um)(hl:j.1.get? U=N' {cls:=.type "list",data:=.seq ul.toArray})(rl:Vals (vI [Z,T]) ul):WW (V3 P w) callerA (.call (.ref CP) #[[.int (I) tw,.ref J,.ref L,.ref M,.ref O,.ref Q,.ref U],[]]) (λr s'=>(∃l za n,r=.ok (.ret (.ref l))/\s'.1.get? l=N' {cls:=.type "list",data:=.seq za n}/\Vals ((Xi (I:Int) (iI v) (iI q) (iI x) (iI [F,f]) (iI (a::b)) (iI [Z,T])).map V.int) za.toList)/\OldK j.1 s'.1/\s'.os=j.os/\Yu s'.gens) j:=by
 have G:∀l:d_,(vI l).length=l.length:=λl=>by unfold vI;rw[aB]
 have B:∀y∈[(#[J,i,vI v]:Arg),#[L,k,vI q],#[M,t,vI x],#[O,uh,vI [F,f]],#[Q,um,vI (a::b)],#[U,ul,vI [Z,T]]],j.1.get? y.a=N' y.ob/\Vals y.xs y.vs/\y.xs.length<=sizeLine:=λy S=>by
  have zl:(70000)<=sizeLine:=by decide
  simp![aE,kn,lI]at S;rcases S with rfl|rfl|rfl|rfl|rfl|rfl
  ·show#[hv,rv,by show(vI v).length<=_;rw[G];lia]
  ·show#[hq,rq,by show(vI q).length<=_;rw[G];lia]
  ·show#[hx,rx,by show(vI x).length<=_;rw[G];lia]
  ·show#[hh,rh,by show 2<=_;lia]
  ·show#[hm,rm,by show(vI (a::b)).length<=_;rw[G,dR];lia]
  ·show#[hl,rl,by show 2<=_;lia]
 have s:=LC B λy S=>by simp![aE,kn,lI]at S;rcases S with rfl|rfl|rfl|rfl|rfl|rfl<;>show#[_,S']
 generalize D:O9 K [#[J,i,vI v],#[L,k,vI q],#[M,t,vI x],#[O,uh,vI [F,f]],#[Q,um,vI (a::b)],#[U,ul,vI [Z,T]]]=H;have N:uR P w H j.heap:=D▸Sw c Y E B;have hT:TabAt (gx K mg) H:=D▸Oi c;have sv:cQ K H J (vI v):=D▸uz c Y E B (y:=#[J,i,vI v]) (by simp) (s _ (by simp));have sq:cQ K H L (vI q):=D▸uz c Y E B (y:=#[L,k,vI q]) (by simp) (s _ (by simp));have sx:cQ K H M (vI x):=D▸uz c Y E B (y:=#[M,t,vI x]) (by simp) (s _ (by simp));have sh:cQ K H O (vI [F,f]):=D▸uz c Y E B (y:=#[O,uh,vI [F,f]]) (by simp) (s _ (by simp));have sm:cQ K H Q (vI (a::b)):=D▸uz c Y E B (y:=#[Q,um,vI (a::b)]) (by simp) (s _ (by simp));have sl:cQ K H U (vI [Z,T]):=D▸uz c Y E B (y:=#[U,ul,vI [Z,T]]) (by simp) (s _ (by simp));have g:∀{p:VZ} {u:HO},H p=N' u->(p∈Gu/\u=.qK #[])\/(p∉Gu/\K.lookup p=O'/\∃y∈[(#[J,i,vI v]:Arg),#[L,k,vI q],#[M,t,vI x],#[O,uh,vI [F,f]],#[Q,um,vI (a::b)],#[U,ul,vI [Z,T]]],y.a=p/\u=.nX y.ob (.lst y.xs)):=λe=>GK (by rw[D];show e);have zj:∀{b:VZ} {o:Obj} {es:Array DictEntry} {ep:Nat},j.1.get? b=N' o->o.data=.dict es ep->H b=none:=λ{b o es ep} e d=>by
  cases q:H b with
  |none=>rfl
  |some u=>
   rcases g q with⟨C,rfl⟩|⟨_,_,y,S,rfl,rfl⟩
   ·obtain⟨_,o',h4,rfl⟩:=c.tab C;rw[E _ _ h4]at e;cases e;cases d
   ·rw[(B y S).1]at e;cases e;unfold Arg.ob at d;cases d
 have R:∀{b:VZ} {m:x1},j.1.Ns b m->(Bb j.1 H).Ns b m:=λ{b m} ⟨o,es,ep,e,d,r⟩=>#[o,es,ep,Bc e (zj e d),d,r];have zd:K.In (Bb j.1 H):=λb o e=>Bc (Y b o e) (by
  cases q:H b with
  |none=>rfl
  |some u=>
   rcases g q with⟨C,rfl⟩|⟨_,hk,_⟩
   ·rw[(c.tab C).1]at e;cases e
   ·rw[hk]at e;cases e)
 have hM:Mod K mg (Bb j.1 H):=#[zd,R zb,#[mb,R C,zg],let ⟨mc,h1,h2⟩:=zc;#[mc,R h1,h2]];have e0:rd P w K mg (Bb j.1 H) callerA [] j H:=#[S',hM,λb o e=>L4 e,ot (GV _ _),trivial,λb C=>absurd (show b∈([]:mw)from C) (by simp),N,.of_eq hg];have bD:Binds K (nY K CP) pRn []:=qV (c.fx .rn) S' rfl ();apply rX ((Su c zd (R zb)).run callerA [] j H #[[.int (I) tw,.ref J,.ref L,.ref M,.ref O,.ref Q,.ref U],[]] [.int (I) tw,.ref J,.ref L,.ref M,.ref O,.ref Q,.ref U] [.int (I),.ref J,.ref L,.ref M,.ref O,.ref Q,.ref U]
  (λr H'=>∃l,r=.ref l/\H' l=N' (.lst ((Xi (I:Int) (iI v) (iI q) (iI x) (iI [F,f]) (iI (a::b)) (iI [Z,T])).map V.int))) E0 #[S',by decide,by decide] e0 (by have:=bD j [.int (I) tw,.ref J,.ref L,.ref M,.ref O,.ref Q,.ref U] Y S';simpa using this) (.cons #[tw,S'] (.cons S' (.cons S' (.cons S' (.cons S' (.cons S' (.cons S' .nil)))))))
  #[J,L,M,O,Q,U,I,v,q,x,F,f,a,b,Z,T,S',lv,lq,lx,bv,bq,bx,zh,bb,zi,sv,sq,sx,sh,sm,sl,hT,λl H' _ _ e=>#[l,S',e]]) λr s' h=> ?_
 cases r with
 |error e=>show V8 h
 |ok fl=>
  cases fl with
  |next=>show V8 h
  |brk=>show V8 h
  |cont=>show V8 h
  |ret u=>
   obtain⟨vv,H',os,ze,un,X,r',l,rfl,hl⟩:=h;obtain rfl:u=Wc l:=r';obtain⟨z,za,n,rr,e⟩:=X l _ hl;apply#[#[l,za.toArray,n,S',e,by simpa using rr],#[λb o e=> ?_,λb o e=>un.there b o e (by simp)],os,ze];cases q:H b with
   |none=>show .inl (un.keep b o e q (by intro z;show absurd (show b∈([]:mw)from z) (by simp)) (by simp))
   |some u=>
    rcases g q with⟨C,rfl⟩|⟨_,_,y,S,rfl,rfl⟩
    ·obtain⟨A,hm⟩:=un.xB b _ q;have h1:=N b _ q;have h2:=X b _ hm;have zf:j.1.get? b=N' {cls:=.none,data:=.fields #[]}:=h1;have zk:s'.1.get? b=N' {cls:=.none,data:=.fields (#[]++A)}:=h2;rw[e]at zf;cases zf;show .inr (.inl #[Eo c Y C,S',#[],A,S',zk])
    ·have h2:=un.uS _ _ _ q;obtain⟨g1,_⟩:=N _ _ q;obtain⟨g2,_⟩:=X _ _ h2;rw[e]at g1;cases g1;show .inl g2
end Lw
namespace Lw
open PySem
def sT:iG->Nat->TyJ
 |[],_=>[]
 |x::l,t=>.str x t::sT l (t+1)
def bk(a t:Nat)(h:Stmt)(j o:Str)(q r:Nat)(s:Option (iG×iG))(pm:Str)(u:Nat):List Obj:=let F:Value:=.str "/claim/cut.py" (t+2)
 let cd (n:Nat) (x y z:Value) (t':Nat):Obj:={cls:=.type "code",data:=.fields (List.toArray [.str j t,.str o (t+1),F,.int q 0,.int r 0,.int 0 0,.int 0 0,.int 3 0,.ref a,.bool P',.int 181 0,.ref (a+1),.none,x,y,z,.int t' 0,.int q 0,.str "/claim/cut.py" (t'+1)])}
 let tm:Obj:={cls:=.none,data:=.func {name:=j,qualname:=o,params:=L2.lJ h,body:=.stmts (L2.b9 h),scope:=L2.aG h,globals:=0,closure:=[],defaults:=.none,kwdefaults:=.none}}
 let fn (c:Nat):Obj:={cls:=.type "function",data:=.func {name:=j,qualname:=o,params:=L2.lJ h,body:=.stmts (L2.b9 h),scope:=L2.aG h,globals:=3,closure:=[],defaults:=.none,kwdefaults:=.none,pyModule:=.str pm u,code:=.ref c}}
 let tu (l:TyJ):Obj:={cls:=.type "tuple",data:=.seq l.toArray}
 let tb:Obj:={cls:=.none,data:=.fields #[]}
 match s with
 |some (vn,cv)=>[tu [],tb,tu (sT vn (t+3)),tu (sT cv (t+3+vn.length)),tm,cd 0 (.ref (a+2)) (.ref (a+3)) (.ref (a+4)) (t+3+vn.length+cv.length),fn (a+5)]
 |none=>[tu [],tb,tm,cd 0 .none .none (.ref (a+2)) (t+3),fn (a+3)]
def dS(P:Wh)(l:A7):List DictEntry:=l.map λx=>#[PyData.keyHash P x.1,.str x.1 x.2.1,x.2.2]
def S9(l:List (Nat×Nat×Value)):List DictEntry:=l.map λx=>#[((x.1:Nat):Int),.int ((x.1:Nat):Int) x.2.1,x.2.2]
def xq(d:D)(t s:Nat):List DictEntry:=S9 ((wI d).zipIdx.map λx=>(x.1.1.toNat,t+s*x.2,.ref (lC x.1.2)))
def tbA:List (Nat×Nat):=[(2,20),(4,27),(6,34),(8,41),(10,48),(13,55),(19,62),(25,69),(27,76),(34,83),(43,90),(52,97),(101,195),(123,244),(139,263),(144,270),(147,277),(150,284),(163,289),(168,296),(170,303),(172,308),(175,313),(179,321),(182,328),(185,335),(188,342),(191,349),(193,356),(196,363),(198,370),(201,377),(204,384),(207,391),(211,399),(213,406),(217,411),(219,418),(225,425),(227,432),(229,439),(232,446),(236,453),(239,460),(242,468),(245,473),(250,480),(252,487),(257,495),(260,502),(263,509),(266,516),(269,523),(271,530),(273,537),(275,544),(277,551),(279,558),(281,565),(283,572),(285,579),(287,586),(289,593),(291,600),(293,607),(296,614),(299,621),(302,628),(305,635),(308,642),(311,649),(313,656),(316,663),(319,670),(321,677),(323,684),(327,691),(329,698),(331,705),(335,714),(337,719),(343,724),(345,729),(347,736),(349,743),(357,750),(363,755),(367,760),(371,765),(374,770),(376,775),(378,780),(380,785),(382,790),(384,795),(386,800),(389,807),(394,814),(403,821),(410,826),(414,831),(416,838),(418,845),(420,852),(426,859),(434,864),(437,869),(441,874),(444,879),(448,887),(451,894),(453,901),(456,908),(459,915),(462,922),(465,929),(468,936),(471,943),(474,950),(477,957),(480,965),(485,972),(489,979),(494,984),(497,989),(500,996),(505,1003),(509,1010),(515,1017),(520,1024),(523,1031),(526,1038),(528,1045),(530,1052),(532,1059),(535,1066),(540,1073),(544,1080),(546,1085),(554,1092),(564,1099),(570,1106),(572,1113),(574,1120),(577,1127),(579,1132),(581,1137),(583,1144),(585,1151),(587,1158),(589,1165),(592,1174),(595,1179),(597,1186),(602,1191),(604,1196),(606,1201),(609,1209),(614,1216),(616,1223),(618,1230),(622,1237),(627,1245),(630,1252),(636,1257),(639,1264),(643,1269),(647,1274),(651,1279),(653,1284),(655,1291),(658,1299),(662,1317),(664,1324),(670,1331),(676,1338),(679,1345),(696,1352),(698,1359),(700,1364),(703,1369),(706,1374),(709,1379),(713,1386),(715,1393),(718,1401),(723,1408),(727,1415),(729,1422),(732,1430),(734,1437),(739,1442),(748,1449),(750,1456),(752,1463),(754,1470),(756,1477),(758,1484),(760,1491),(763,1498),(766,1505),(769,1513),(777,1520),(816,1562),(818,1569),(820,1576)]
def tbO(n:Nat):Obj:={cls:=.none,data:=.fields ((tbA.take n).flatMap λx=>[.int ((x.1:Nat):Int) 0,.int 0 0,.ref x.2]).toArray}
def LG:Str×Nat:=("lanewise.bits",187)
def LZ:Str×Nat:=("lanewise.fills",548)
def xX:Str×Nat:=("lanewise.masks",643)
def zq3:Str×Nat:=("lanewise.moves",874)
def qX:Str×Nat:=("lanewise.pairs",913)
def tv:Str×Nat:=("lanewise.products",1271)
def Ij:Str×Nat:=("lanewise.scalar_steps",1521)
def tD:Str×Nat:=("lanewise.shapes",1670)
def LH:Str×Nat:=("lanewise.texts",1968)
def Oj:Str×Nat:=("lanewise.told",2063)
def LJ:Str×Nat:=("lanewise.perform",2142)
def rM:Str×Nat:=("lanewise.memory_steps",2237)
def xY:Str×Nat:=("lanewise.ways",2401)
def Sz:Str×Nat:=("lanewise.lanes",2582)
def u9:Str×Nat:=("lanewise.machine",292)
def LK:Str×Nat:=("lanewise.memory",432)
def acE:Str×Nat:=("lanewise.order",506)
def Ol:Str×Nat:=("lanewise.walk",2508)
def nmS:Stmt->Str×Nat×iG
 |.FunctionDef nm a _ _ _ _ _ _ _ p=>(nm,p.line,a.args.map (·.arg))
 |.ClassDef nm _ _ _ _ _ _ _ _ _ _=>(nm,0,[])
 |_=>("",0,[])
def kN(l:List (Str×Wu))(k:Wu)(b:iG):iG:=(l.filter λx=>x.2==k&& !b.contains x.1).map (·.1)
def bS(a t:Nat)(h:Stmt)(q:Str)(n:Bool)(z:Str×Nat):Nat×List Obj:=let s:=nmS h
 (a,bk a t h s.1 (q++s.1) s.2.1 s.2.2.length (match n with
  |true=>O'
  |false=>N' (s.2.2++kN (L2.aG h).names .local s.2.2,kN (L2.aG h).names .cell [])) z.1 z.2)
def bK(a t i:Nat):Str×Nat->Nat×List Obj:=bS a t (xj i) "" Q'
def bN(a t i:Nat):Str×Nat->Nat×List Obj:=bS a t (xj i) "" P'
def cK(a t c j:Nat):Str×Nat->Nat×List Obj:=bS a t (AX c j) ((nmS (xj c)).1++".") Q'
def ob0(P:Wh):tR:=[(11,[{cls:=.type "tuple",data:=.seq ([]:TyJ).toArray 0}]),
 (12,[tbO 206]),
 (13,[{cls:=.type "code",data:=.fields ([.str "<module>" 182,.str "<module>" 183,.str "/claim/cut.py" 184,.int 1 0,.int 0 0,.int 0 0,.int 0 0,.int 0 0,.ref 11,(.bool Q'),.int 181 0,.ref 12,.none,.none,.none,.none,.int 185 0,.int 1 0,.str "/claim/cut.py" 186]:TyJ).toArray}]),
 (14,[{cls:=.type "frame",slots:=([N' (.ref 13),N' (.ref 3),N' (.ref 3),O',N' (.str "__main__" 164),O',N' (.ref 0)]:List (o6)).toArray}]),
 bK 15 189 1 LG,
 bK 22 196 2 LG,
 bK 29 204 3 LG,
 bK 36 212 4 LG,
 bK 43 220 5 LG,
 bK 50 229 6 LG,
 bK 57 237 7 LG,
 bK 64 247 8 LG]
def ob1(P:Wh):tR:=[bK 71 255 9 LG,
 bK 78 267 10 LG,
 bK 85 280 11 LG,
 (92,[{cls:=.type "tuple",data:=.seq ([]:TyJ).toArray 0}]),
 (93,[{cls:=.type "builtin_function_or_method",data:=.fields ([(.builtin "type.__prepare__"),(.type "type")]:TyJ).toArray}]),
 (94,[{cls:=.type "dict",data:=.dict (dS P [("__module__",305,.str "lanewise.machine" 292),("__qualname__",307,.str "Machine" 306),("__firstlineno__",309,.int 52 308),("__init__",320,.ref 105),("read_lanes",329,.ref 112),("write_lanes",340,.ref 119),("put_vector",353,.ref 126),("kept_lanes",362,.ref 133),("read_predicate",370,.ref 140),("put_predicate",379,.ref 147),("read_scalar",387,.ref 154),("put_scalar",396,.ref 161),("put_flags",405,.ref 168),("has_zero",412,.ref 175),("has_carry",419,.ref 182),("__static_attributes__",424,.ref 183)]).toArray 16}]),
 (95,[{cls:=.type "tuple",data:=.seq ([]:TyJ).toArray 0}]),
 (96,[{cls:=.none,data:=.fields ([.int 54 0,.int 4 0,.ref 104,.int 60 0,.int 4 0,.ref 111,.int 63 0,.int 4 0,.ref 118,.int 67 0,.int 4 0,.ref 125,.int 75 0,.int 4 0,.ref 132,.int 78 0,.int 4 0,.ref 139,.int 81 0,.int 4 0,.ref 146,.int 85 0,.int 4 0,.ref 153,.int 88 0,.int 4 0,.ref 160,.int 91 0,.int 4 0,.ref 167,.int 94 0,.int 4 0,.ref 174,.int 97 0,.int 4 0,.ref 181]:TyJ).toArray}]),
 (97,[{cls:=.type "code",data:=.fields ([.str "Machine" 300,.str "Machine" 301,.str "/claim/cut.py" 302,.int 52 0,.int 0 0,.int 0 0,.int 0 0,.int 0 0,.ref 95,(.bool Q'),.int 181 0,.ref 96,.none,.none,.none,.none,.int 303 0,.int 52 0,.str "/claim/cut.py" 304]:TyJ).toArray}]),
 (98,[{cls:=.type "frame",slots:=([N' (.ref 97),N' (.ref 3),N' (.ref 94),O',N' (.str "lanewise.machine" 292),O',N' (.ref 0)]:List (o6)).toArray}]),
 cK 99 310 15 0 u9,
 cK 106 321 15 1 u9]
def ob2(P:Wh):tR:=[cK 113 330 15 2 u9,
 cK 120 341 15 3 u9,
 cK 127 354 15 4 u9,
 cK 134 363 15 5 u9,
 cK 141 371 15 6 u9,
 cK 148 380 15 7 u9,
 cK 155 388 15 8 u9,
 cK 162 397 15 9 u9,
 cK 169 406 15 10 u9,
 cK 176 413 15 11 u9,
 (183,[{cls:=.type "tuple",data:=.seq ([.str "flags" 420,.str "predicates" 421,.str "scalars" 422,.str "vectors" 423]:TyJ).toArray 0}]),
 (184,[{cls:=.type "dict",data:=.dict (dS P [("__module__",305,.str "lanewise.machine" 292),("__firstlineno__",309,.int 52 308),("__init__",320,.ref 105),("read_lanes",329,.ref 112),("write_lanes",340,.ref 119),("put_vector",353,.ref 126),("kept_lanes",362,.ref 133),("read_predicate",370,.ref 140),("put_predicate",379,.ref 147),("read_scalar",387,.ref 154),("put_scalar",396,.ref 161),("put_flags",405,.ref 168),("has_zero",412,.ref 175),("has_carry",419,.ref 182),("__static_attributes__",424,.ref 183),("__dict__",426,.ref 186),("__weakref__",428,.ref 187),("__doc__",429,.none)]).toArray 4}])]
def ob3(P:Wh):tR:=[(185,[{cls:=.type "type",data:=.cls {name:="Machine",bases:=[.type "object"],mro:=[.ref 185,.type "object"],ns:=184,qualname:="Machine"},slots:=([O',O',N' (.str "Machine" 298),N' (.str "Machine" 306),N' (.builtin "object.__new__"),N' (.bool P')]:List (o6)).toArray}]),
 (186,[{cls:=.type "getset_descriptor",data:=.fields ([.str "__dict__" 425,.ref 185,(.builtin "function.__dict__"),(.builtin "function.__dict__#set")]:TyJ).toArray}]),
 (187,[{cls:=.type "getset_descriptor",data:=.fields ([.str "__weakref__" 427,.ref 185,(.builtin "ExceptionGroup.__weakref__"),.none]:TyJ).toArray}]),
 (188,[{cls:=.type "super",data:=.fields ([.ref 185,.ref 185,.ref 185]:TyJ).toArray}]),
 (189,[{cls:=.type "builtin_function_or_method",data:=.fields ([(.builtin "object.__init_subclass__"),.ref 185]:TyJ).toArray}]),
 (190,[{cls:=.type "tuple",data:=.seq ([]:TyJ).toArray 0}]),
 (191,[{cls:=.type "builtin_function_or_method",data:=.fields ([(.builtin "type.__prepare__"),(.type "type")]:TyJ).toArray}]),
 (192,[{cls:=.type "dict",data:=.dict (dS P [("__module__",443,.str "lanewise.memory" 432),("__qualname__",445,.str "Memory" 444),("__firstlineno__",447,.int 101 446),("__init__",456,.ref 203),("holds",465,.ref 210),("read_number",476,.ref 217),("write_number",487,.ref 224),("look_at",496,.ref 231),("__static_attributes__",498,.ref 232)]).toArray 9}]),
 (193,[{cls:=.type "tuple",data:=.seq ([]:TyJ).toArray 0}]),
 (194,[{cls:=.none,data:=.fields ([.int 103 0,.int 4 0,.ref 202,.int 107 0,.int 4 0,.ref 209,.int 110 0,.int 4 0,.ref 216,.int 116 0,.int 4 0,.ref 223,.int 120 0,.int 4 0,.ref 230]:TyJ).toArray}]),
 (195,[{cls:=.type "code",data:=.fields ([.str "Memory" 438,.str "Memory" 439,.str "/claim/cut.py" 440,.int 101 0,.int 0 0,.int 0 0,.int 0 0,.int 0 0,.ref 193,(.bool Q'),.int 181 0,.ref 194,.none,.none,.none,.none,.int 441 0,.int 101 0,.str "/claim/cut.py" 442]:TyJ).toArray}]),
 (196,[{cls:=.type "frame",slots:=([N' (.ref 195),N' (.ref 3),N' (.ref 192),O',N' (.str "lanewise.memory" 432),O',N' (.ref 0)]:List (o6)).toArray}])]
def ob4(P:Wh):tR:=[cK 197 448 18 0 LK,
 cK 204 457 18 1 LK,
 cK 211 466 18 2 LK,
 cK 218 477 18 3 LK,
 cK 225 488 18 4 LK,
 (232,[{cls:=.type "tuple",data:=.seq ([.str "cells" 497]:TyJ).toArray 0}]),
 (233,[{cls:=.type "dict",data:=.dict (dS P [("__module__",443,.str "lanewise.memory" 432),("__firstlineno__",447,.int 101 446),("__init__",456,.ref 203),("holds",465,.ref 210),("read_number",476,.ref 217),("write_number",487,.ref 224),("look_at",496,.ref 231),("__static_attributes__",498,.ref 232),("__dict__",500,.ref 235),("__weakref__",502,.ref 236),("__doc__",503,.none)]).toArray 4}]),
 (234,[{cls:=.type "type",data:=.cls {name:="Memory",bases:=[.type "object"],mro:=[.ref 234,.type "object"],ns:=233,qualname:="Memory"},slots:=([O',O',N' (.str "Memory" 436),N' (.str "Memory" 444),N' (.builtin "object.__new__"),N' (.bool P')]:List (o6)).toArray}]),
 (235,[{cls:=.type "getset_descriptor",data:=.fields ([.str "__dict__" 499,.ref 234,(.builtin "function.__dict__"),(.builtin "function.__dict__#set")]:TyJ).toArray}]),
 (236,[{cls:=.type "getset_descriptor",data:=.fields ([.str "__weakref__" 501,.ref 234,(.builtin "ExceptionGroup.__weakref__"),.none]:TyJ).toArray}]),
 (237,[{cls:=.type "super",data:=.fields ([.ref 234,.ref 234,.ref 234]:TyJ).toArray}]),
 (238,[{cls:=.type "builtin_function_or_method",data:=.fields ([(.builtin "object.__init_subclass__"),.ref 234]:TyJ).toArray}])]
def ob5(P:Wh):tR:=[(239,[{cls:=.type "tuple",data:=.seq ([]:TyJ).toArray 0}]),
 (240,[{cls:=.type "builtin_function_or_method",data:=.fields ([(.builtin "type.__prepare__"),(.type "type")]:TyJ).toArray}]),
 (241,[{cls:=.type "dict",data:=.dict (dS P [("__module__",515,.str "lanewise.order" 506),("__qualname__",517,.str "Order" 516),("__firstlineno__",519,.int 123 518),("__init__",528,.ref 252),("__static_attributes__",540,.ref 253)]).toArray 5}]),
 (242,[{cls:=.type "tuple",data:=.seq ([]:TyJ).toArray 0}]),
 (243,[{cls:=.none,data:=.fields ([.int 125 0,.int 4 0,.ref 251]:TyJ).toArray}]),
 (244,[{cls:=.type "code",data:=.fields ([.str "Order" 510,.str "Order" 511,.str "/claim/cut.py" 512,.int 123 0,.int 0 0,.int 0 0,.int 0 0,.int 0 0,.ref 242,(.bool Q'),.int 181 0,.ref 243,.none,.none,.none,.none,.int 513 0,.int 123 0,.str "/claim/cut.py" 514]:TyJ).toArray}]),
 (245,[{cls:=.type "frame",slots:=([N' (.ref 244),N' (.ref 3),N' (.ref 241),O',N' (.str "lanewise.order" 506),O',N' (.ref 0)]:List (o6)).toArray}]),
 cK 246 520 20 0 acE,
 (253,[{cls:=.type "tuple",data:=.seq ([.str "a" 529,.str "b" 530,.str "d" 531,.str "g" 532,.str "k" 533,.str "m" 534,.str "n" 535,.str "operation" 536,.str "sound" 537,.str "z" 538,.str "zeroing" 539]:TyJ).toArray 0}]),
 (254,[{cls:=.type "dict",data:=.dict (dS P [("__module__",515,.str "lanewise.order" 506),("__firstlineno__",519,.int 123 518),("__init__",528,.ref 252),("__static_attributes__",540,.ref 253),("__dict__",542,.ref 256),("__weakref__",544,.ref 257),("__doc__",545,.none)]).toArray 4}]),
 (255,[{cls:=.type "type",data:=.cls {name:="Order",bases:=[.type "object"],mro:=[.ref 255,.type "object"],ns:=254,qualname:="Order"},slots:=([O',O',N' (.str "Order" 508),N' (.str "Order" 516),N' (.builtin "object.__new__"),N' (.bool P')]:List (o6)).toArray}]),
 (256,[{cls:=.type "getset_descriptor",data:=.fields ([.str "__dict__" 541,.ref 255,(.builtin "function.__dict__"),(.builtin "function.__dict__#set")]:TyJ).toArray}])]
def ob6(P:Wh):tR:=[(257,[{cls:=.type "getset_descriptor",data:=.fields ([.str "__weakref__" 543,.ref 255,(.builtin "ExceptionGroup.__weakref__"),.none]:TyJ).toArray}]),
 (258,[{cls:=.type "super",data:=.fields ([.ref 255,.ref 255,.ref 255]:TyJ).toArray}]),
 (259,[{cls:=.type "builtin_function_or_method",data:=.fields ([(.builtin "object.__init_subclass__"),.ref 255]:TyJ).toArray}]),
 bN 260 550 22 LZ,
 bK 265 556 23 LZ,
 bK 272 565 24 LZ,
 bK 279 574 25 LZ,
 bN 286 585 26 LZ,
 bK 291 591 27 LZ,
 bK 298 599 28 LZ,
 bN 305 607 29 LZ,
 bN 310 613 30 LZ]
def ob7(P:Wh):tR:=[(315,[{cls:=.type "dict",data:=.dict (xq .uH 619 1).toArray 8}]),
 bK 316 636 32 LZ,
 bK 323 645 34 xX,
 bK 330 655 36 xX,
 bK 337 665 38 xX,
 bK 344 675 40 xX,
 bK 351 684 41 xX,
 bK 358 694 43 xX,
 bK 365 703 44 xX,
 bK 372 713 46 xX,
 bK 379 723 48 xX,
 bK 386 733 50 xX]
def ob8(P:Wh):tR:=[(393,[{cls:=.type "dict",data:=.dict (xq .a8 743 1).toArray 10}]),
 bK 394 764 52 xX,
 bK 401 773 53 xX,
 bN 408 783 54 xX,
 bK 413 789 55 xX,
 bK 420 800 56 xX,
 bK 427 808 57 xX,
 bK 434 816 58 xX,
 bK 441 825 59 xX,
 bK 448 835 60 xX,
 bK 455 844 61 xX,
 (462,[{cls:=.type "dict",data:=.dict (xq .wd 852 1).toArray 7}])]
def ob9(P:Wh):tR:=[bK 463 867 63 xX,
 bN 470 876 65 zq3,
 bK 475 882 66 zq3,
 bK 482 890 67 zq3,
 (489,[{cls:=.type "dict",data:=.dict (xq .uI 899 1).toArray 3}]),
 bK 490 906 69 zq3,
 bK 497 915 71 qX,
 bK 504 925 73 qX,
 bK 511 935 75 qX,
 bK 518 945 77 qX,
 bK 525 954 78 qX,
 bK 532 963 79 qX]
def acF(P:Wh):tR:=[bK 539 972 80 qX,
 bK 546 981 81 qX,
 bK 553 990 82 qX,
 bK 560 999 83 qX,
 bK 567 1008 84 qX,
 bK 574 1017 85 qX,
 bK 581 1026 86 qX,
 bK 588 1035 87 qX,
 bK 595 1044 88 qX,
 bK 602 1053 89 qX,
 bK 609 1063 91 qX,
 bK 616 1073 93 qX]
def acG(P:Wh):tR:=[bK 623 1083 95 qX,
 bK 630 1093 97 qX,
 bK 637 1103 99 qX,
 bK 644 1113 101 qX,
 bK 651 1122 102 qX,
 bK 658 1132 103 qX,
 bK 665 1142 104 qX,
 bK 672 1151 105 qX,
 bK 679 1160 106 qX,
 bK 686 1169 107 qX,
 bK 693 1178 108 qX,
 bK 700 1187 109 qX]
def acH(P:Wh):tR:=[(707,[{cls:=.type "dict",data:=.dict (S9 [(1,1197,.ref 503),(2,1199,.ref 510),(3,1201,.ref 517),(4,1203,.ref 524),(5,1205,.ref 531),(6,1207,.ref 538),(7,1209,.ref 545),(8,1211,.ref 552),(9,1213,.ref 559),(10,1215,.ref 566),(11,1217,.ref 573),(12,1219,.ref 580),(13,1221,.ref 587),(14,1223,.ref 594),(15,1225,.ref 601),(16,1227,.ref 608),(17,1229,.ref 615),(18,1231,.ref 622),(19,1232,.ref 629),(20,1233,.ref 636),(21,1234,.ref 643),(22,1235,.ref 650),(23,1236,.ref 657),(24,1237,.ref 664),(27,1238,.ref 671),(28,1239,.ref 678),(29,1240,.ref 685),(30,1241,.ref 692),(31,1242,.ref 699),(32,1243,.ref 706)]).toArray 30}]),
 (708,[{cls:=.type "dict",data:=.dict (S9 [(18,1231,.ref 622),(19,1232,.ref 629),(20,1233,.ref 636),(21,1234,.ref 643),(22,1235,.ref 650),(23,1236,.ref 657),(24,1237,.ref 664),(27,1238,.ref 671),(28,1239,.ref 678),(29,1240,.ref 685),(30,1241,.ref 692),(31,1242,.ref 699),(32,1243,.ref 706)]).toArray 13}]),
 bK 709 1258 111 qX,
 bN 716 1265 112 qX,
 bN 721 1275 115 tv,
 bN 726 1281 116 tv,
 bK 731 1287 117 tv,
 bK 738 1295 118 tv,
 bK 745 1306 119 tv,
 bN 752 1315 120 tv,
 bN 757 1321 121 tv,
 bN 762 1327 122 tv]
def acI(P:Wh):tR:=[bN 767 1333 123 tv,
 bN 772 1339 124 tv,
 bN 777 1345 125 tv,
 bN 782 1351 126 tv,
 bN 787 1357 127 tv,
 bN 792 1363 128 tv,
 bN 797 1369 129 tv,
 bK 802 1375 130 tv,
 bK 809 1384 131 tv,
 bK 816 1394 132 tv,
 bN 823 1404 133 tv,
 bN 828 1410 134 tv]
def acJ(P:Wh):tR:=[bK 833 1416 135 tv,
 bK 840 1425 136 tv,
 bK 847 1434 137 tv,
 bK 854 1444 138 tv,
 bN 861 1455 139 tv,
 bN 866 1461 140 tv,
 bN 871 1467 141 tv,
 bN 876 1473 142 tv,
 (881,[{cls:=.type "dict",data:=.dict (xq .kQ 1479 2).toArray 17}]),
 bK 882 1514 144 tv,
 bK 889 1523 146 Ij,
 bK 896 1532 147 Ij]
def acK(P:Wh):tR:=[bK 903 1542 149 Ij,
 bK 910 1552 151 Ij,
 bK 917 1562 153 Ij,
 bK 924 1572 155 Ij,
 bK 931 1582 157 Ij,
 bK 938 1592 159 Ij,
 bK 945 1602 161 Ij,
 bK 952 1612 163 Ij,
 (959,[{cls:=.type "dict",data:=.dict (xq .bZ 1621 1).toArray 10}]),
 bK 960 1642 165 Ij,
 bK 967 1653 166 Ij,
 bK 974 1663 167 Ij]
def acL(P:Wh):tR:=[bN 981 1672 169 tD,
 bN 986 1678 170 tD,
 bK 991 1684 171 tD,
 bK 998 1693 172 tD,
 bK 1005 1703 173 tD,
 bK 1012 1713 174 tD,
 bK 1019 1724 175 tD,
 bK 1026 1733 176 tD,
 bK 1033 1742 177 tD,
 bK 1040 1751 178 tD,
 bK 1047 1759 179 tD,
 bK 1054 1767 180 tD]
def acM(P:Wh):tR:=[bK 1061 1776 181 tD,
 bK 1068 1787 182 tD,
 bK 1075 1797 183 tD,
 bN 1082 1805 184 tD,
 bK 1087 1811 185 tD,
 bK 1094 1824 186 tD,
 bK 1101 1835 187 tD,
 bK 1108 1844 188 tD,
 bK 1115 1853 189 tD,
 bK 1122 1862 190 tD,
 bN 1129 1870 191 tD,
 bN 1134 1876 192 tD]
def acN(P:Wh):tR:=[bK 1139 1882 193 tD,
 bK 1146 1891 194 tD,
 bK 1153 1900 195 tD,
 bK 1160 1909 196 tD,
 (1167,[{cls:=.type "dict",data:=.dict (S9 [(40,1918,.ref 985),(41,1920,.ref 990),(42,1922,.ref 997),(43,1924,.ref 1004),(44,1926,.ref 1011),(45,1928,.ref 1046),(46,1930,.ref 1053),(47,1932,.ref 1067),(49,1934,.ref 1093),(50,1936,.ref 1086),(51,1938,.ref 1074),(52,1940,.ref 1081),(53,1942,.ref 1128),(54,1944,.ref 1133),(55,1946,.ref 1145),(56,1948,.ref 1152),(57,1950,.ref 1159),(58,1952,.ref 1166),(60,1953,.ref 1107),(61,1954,.ref 1114),(62,1955,.ref 1121)]).toArray 21}]),
 (1168,[{cls:=.type "dict",data:=.dict (S9 [(58,1952,.ref 1166),(60,1953,.ref 1107),(61,1954,.ref 1114),(62,1955,.ref 1121)]).toArray 4}]),
 bK 1169 1961 198 tD,
 bN 1176 1970 200 LH,
 bK 1181 1976 201 LH,
 bN 1188 1985 202 LH,
 bN 1193 1991 203 LH,
 bN 1198 1997 204 LH]
def acO(P:Wh):tR:=[(1203,[{cls:=.type "tuple",data:=.seq ([.ref 1180,.ref 1192,.ref 1197,.ref 1202]:TyJ).toArray 0}]),
 bK 1204 2004 206 LH,
 bK 1211 2016 207 LH,
 bK 1218 2024 208 LH,
 bK 1225 2031 209 LH,
 bK 1232 2041 210 LH,
 (1239,[{cls:=.type "dict",data:=.dict (xq .uJ 2051 1).toArray 2}]),
 bK 1240 2056 212 LH,
 bK 1247 2065 214 Oj,
 bN 1254 2074 215 Oj,
 bK 1259 2080 216 Oj,
 bN 1266 2090 217 Oj]
def acP(P:Wh):tR:=[bN 1271 2096 218 Oj,
 bN 1276 2102 219 Oj,
 bN 1281 2108 220 Oj,
 bK 1286 2114 221 Oj,
 (1293,[{cls:=.type "dict",data:=.dict (xq .qF 2122 1).toArray 6}]),
 bK 1294 2135 223 Oj,
 (1301,[{cls:=.type "dict",data:=.dict (S9 [(36,2144,.ref 1302),(53,2147,.ref 1303),(54,2151,.ref 1304),(55,2155,.ref 1305),(56,2159,.ref 1306),(57,2163,.ref 1307),(58,2167,.ref 1308),(62,2171,.ref 1309),(78,2173,.ref 1310),(87,2176,.ref 1311)]).toArray 10}]),
 (1302,[{cls:=.type "tuple",data:=.seq ([.int 32 2145,.int 64 2146]:TyJ).toArray 0}]),
 (1303,[{cls:=.type "tuple",data:=.seq ([.int 8 2148,.int 16 2149,.int 32 2150]:TyJ).toArray 0}]),
 (1304,[{cls:=.type "tuple",data:=.seq ([.int 8 2152,.int 16 2153,.int 32 2154]:TyJ).toArray 0}]),
 (1305,[{cls:=.type "tuple",data:=.seq ([.int 8 2156,.int 16 2157,.int 32 2158]:TyJ).toArray 0}]),
 (1306,[{cls:=.type "tuple",data:=.seq ([.int 8 2160,.int 16 2161,.int 32 2162]:TyJ).toArray 0}])]
def acQ(P:Wh):tR:=[(1307,[{cls:=.type "tuple",data:=.seq ([.int 8 2164,.int 16 2165,.int 32 2166]:TyJ).toArray 0}]),
 (1308,[{cls:=.type "tuple",data:=.seq ([.int 8 2168,.int 16 2169,.int 32 2170]:TyJ).toArray 0}]),
 (1309,[{cls:=.type "tuple",data:=.seq ([.int 16 2172]:TyJ).toArray 0}]),
 (1310,[{cls:=.type "tuple",data:=.seq ([.int 32 2174,.int 64 2175]:TyJ).toArray 0}]),
 (1311,[{cls:=.type "tuple",data:=.seq ([.int 32 2177,.int 64 2178]:TyJ).toArray 0}]),
 bK 1312 2190 226 LJ,
 bK 1319 2197 227 LJ,
 bK 1326 2207 228 LJ,
 bK 1333 2217 229 LJ,
 bK 1340 2226 230 LJ,
 bK 1347 2239 232 rM,
 bK 1354 2246 233 rM]
def acR(P:Wh):tR:=[bN 1361 2254 234 rM,
 bN 1366 2260 235 rM,
 bN 1371 2266 236 rM,
 bN 1376 2272 237 rM,
 bK 1381 2278 238 rM,
 bK 1388 2286 239 rM,
 (1395,[{cls:=.type "dict",data:=.dict (xq .m5 2294 1).toArray 9}]),
 bK 1396 2313 241 rM,
 bK 1403 2326 242 rM,
 bK 1410 2339 243 rM,
 bK 1417 2349 244 rM,
 (1424,[{cls:=.type "dict",data:=.dict (xq .fc 2359 1).toArray 9}])]
def acS(P:Wh):tR:=[bK 1425 2378 246 rM,
 bK 1432 2385 247 rM,
 bN 1439 2395 248 rM,
 bK 1444 2403 250 xY,
 bK 1451 2412 251 xY,
 bK 1458 2421 252 xY,
 bK 1465 2430 253 xY,
 bK 1472 2439 254 xY,
 bK 1479 2448 255 xY,
 bK 1486 2457 256 xY,
 bK 1493 2466 257 xY,
 bK 1500 2475 258 xY]
def acT(P:Wh):tR:=[(1507,[{cls:=.type "dict",data:=.dict (xq .uW 2484 1).toArray 8}]),
 bK 1508 2501 260 xY,
 (1515,[{cls:=.type "tuple",data:=.seq ([]:TyJ).toArray 0}]),
 (1516,[{cls:=.type "builtin_function_or_method",data:=.fields ([(.builtin "type.__prepare__"),(.type "type")]:TyJ).toArray}]),
 (1517,[{cls:=.type "dict",data:=.dict (dS P [("__module__",2527,.str "lanewise.walk" 2508),("__qualname__",2529,.str "Walk" 2528),("__firstlineno__",2531,.int 777 2530),("__init__",2541,.ref 1528),("go",2549,.ref 1535),("try_step",2560,.ref 1542),("obey",2568,.ref 1549),("__static_attributes__",2574,.ref 1550)]).toArray 8}]),
 (1518,[{cls:=.type "tuple",data:=.seq ([]:TyJ).toArray 0}]),
 (1519,[{cls:=.none,data:=.fields ([.int 779 0,.int 4 0,.ref 1527,.int 786 0,.int 4 0,.ref 1534,.int 793 0,.int 4 0,.ref 1541,.int 811 0,.int 4 0,.ref 1548]:TyJ).toArray}]),
 (1520,[{cls:=.type "code",data:=.fields ([.str "Walk" 2522,.str "Walk" 2523,.str "/claim/cut.py" 2524,.int 777 0,.int 0 0,.int 0 0,.int 0 0,.int 0 0,.ref 1518,(.bool Q'),.int 181 0,.ref 1519,.none,.none,.none,.none,.int 2525 0,.int 777 0,.str "/claim/cut.py" 2526]:TyJ).toArray}]),
 (1521,[{cls:=.type "frame",slots:=([N' (.ref 1520),N' (.ref 3),N' (.ref 1517),O',N' (.str "lanewise.walk" 2508),O',N' (.ref 0)]:List (o6)).toArray}]),
 cK 1522 2532 267 0 Ol,
 cK 1529 2542 267 1 Ol,
 cK 1536 2550 267 2 Ol]
def acU(P:Wh):tR:=[cK 1543 2561 267 3 Ol,
 (1550,[{cls:=.type "tuple",data:=.seq ([.str "done" 2569,.str "machine" 2570,.str "memory" 2571,.str "place" 2572,.str "why" 2573]:TyJ).toArray 0}]),
 (1551,[{cls:=.type "dict",data:=.dict (dS P [("__module__",2527,.str "lanewise.walk" 2508),("__firstlineno__",2531,.int 777 2530),("__init__",2541,.ref 1528),("go",2549,.ref 1535),("try_step",2560,.ref 1542),("obey",2568,.ref 1549),("__static_attributes__",2574,.ref 1550),("__dict__",2576,.ref 1553),("__weakref__",2578,.ref 1554),("__doc__",2579,.none)]).toArray 4}]),
 (1552,[{cls:=.type "type",data:=.cls {name:="Walk",bases:=[.type "object"],mro:=[.ref 1552,.type "object"],ns:=1551,qualname:="Walk"},slots:=([O',O',N' (.str "Walk" 2520),N' (.str "Walk" 2528),N' (.builtin "object.__new__"),N' (.bool P')]:List (o6)).toArray}]),
 (1553,[{cls:=.type "getset_descriptor",data:=.fields ([.str "__dict__" 2575,.ref 1552,(.builtin "function.__dict__"),(.builtin "function.__dict__#set")]:TyJ).toArray}]),
 (1554,[{cls:=.type "getset_descriptor",data:=.fields ([.str "__weakref__" 2577,.ref 1552,(.builtin "ExceptionGroup.__weakref__"),.none]:TyJ).toArray}]),
 (1555,[{cls:=.type "super",data:=.fields ([.ref 1552,.ref 1552,.ref 1552]:TyJ).toArray}]),
 (1556,[{cls:=.type "builtin_function_or_method",data:=.fields ([(.builtin "object.__init_subclass__"),.ref 1552]:TyJ).toArray}]),
 bK 1557 2584 269 Sz,
 bK 1564 2591 270 Sz,
 bK 1571 2598 271 Sz]
def nth(l:List Obj)(i:Nat):Obj:=match l,i with
 |[],_=>default
 |o::_,0=>o
 |_::l,i+1=>nth l i
def uA:tR->Nat->Obj
 |[],_=>default
 |[x],i=>nth x.2 (i-x.1)
 |x::y::l,i=>match Wf i y.1 with
  |true=>nth x.2 (i-x.1)
  |false=>uA (y::l) i
def obF(P:Wh)(i:Nat):Obj:=(match Wf i 767 with|true=>(match Wf i 315 with|true=>(match Wf i 197 with|true=>(match Wf i 113 with|true=>(match Wf i 71 with|true=>uA (ob0 P) i|false=>uA (ob1 P) i)|false=>(match Wf i 185 with|true=>uA (ob2 P) i|false=>uA (ob3 P) i))|false=>(match Wf i 257 with|true=>(match Wf i 239 with|true=>uA (ob4 P) i|false=>uA (ob5 P) i)|false=>uA (ob6 P) i))|false=>(match Wf i 539 with|true=>(match Wf i 463 with|true=>(match Wf i 393 with|true=>uA (ob7 P) i|false=>uA (ob8 P) i)|false=>uA (ob9 P) i)|false=>(match Wf i 707 with|true=>(match Wf i 623 with|true=>uA (acF P) i|false=>uA (acG P) i)|false=>uA (acH P) i)))|false=>(match Wf i 1271 with|true=>(match Wf i 1061 with|true=>(match Wf i 903 with|true=>(match Wf i 833 with|true=>uA (acI P) i|false=>uA (acJ P) i)|false=>(match Wf i 981 with|true=>uA (acK P) i|false=>uA (acL P) i))|false=>(match Wf i 1203 with|true=>(match Wf i 1139 with|true=>uA (acM P) i|false=>uA (acN P) i)|false=>uA (acO P) i))|false=>(match Wf i 1425 with|true=>(match Wf i 1361 with|true=>(match Wf i 1307 with|true=>uA (acP P) i|false=>uA (acQ P) i)|false=>uA (acR P) i)|false=>(match Wf i 1543 with|true=>(match Wf i 1507 with|true=>uA (acS P) i|false=>uA (acT P) i)|false=>uA (acU P) i))))
def vr(k:Nat):List (Nat×Value)->Value->Value
 |[],v=>v
 |(j,u)::l,v=>match Wf k j with
  |true=>v
  |false=>vr k l u
def mF(f:F)(t:Nat):Str×Nat×Value:=(Gj f,t,.ref (lC f))
def mn0(k:Nat):A7:=[("__name__",165,vr k [(1,.str "lanewise.bits" 187),(13,.str "lanewise.machine" 292),(17,.str "lanewise.memory" 432),(20,.str "lanewise.order" 506),(22,.str "lanewise.fills" 548),(34,.str "lanewise.masks" 643),(65,.str "lanewise.moves" 874),(71,.str "lanewise.pairs" 913),(114,.str "lanewise.products" 1271),(146,.str "lanewise.scalar_steps" 1521),(169,.str "lanewise.shapes" 1670),(200,.str "lanewise.texts" 1968),(214,.str "lanewise.told" 2063),(225,.str "lanewise.perform" 2142),(232,.str "lanewise.memory_steps" 2237),(250,.str "lanewise.ways" 2401),(262,.str "lanewise.walk" 2508),(269,.str "lanewise.lanes" 2582)] (.str "__main__" 164)),("__doc__",166,.none),("__package__",167,.none),("__loader__",168,(.builtin "__main__.__loader__#opaque")),("__spec__",169,.none),("__annotations__",170,.ref 6),("__builtins__",171,.ref 4),("__file__",173,.str "/claim/cut.py" 172),("__cached__",174,.none),mF .ones 195,mF .cut 203,mF .signed 211,mF .held 219,mF .cm 228,mF .jh 236,mF .fk 246]
def mn1(k:Nat):A7:=[mF .cA 254,mF .kC 266,mF .l0 279,mF .fQ 291,("ZERO",295,.int 1 294),("CARRY",297,.int 2 296),("Machine",431,.ref 185),("SIZE",435,.int 65536 434),("Memory",505,.ref 234),("Order",547,.ref 255),mF .et 555,mF .jl 564,mF .iv 573,mF .iw 584,mF .Bv 590,mF .iM 598]
def mn2(k:Nat):A7:=[mF .fS 606,mF .pN 612,mF .fT 618,("FILLS",635,.ref 315),mF .kd 642,("bits_and",653,vr k [(90,.ref 608),(154,.ref 923)] (.ref 329)),mF .gY 654,("bits_or",663,vr k [(92,.ref 615),(156,.ref 930)] (.ref 336)),mF .iN 664,("bits_exclusive",673,vr k [(94,.ref 622),(158,.ref 937)] (.ref 343)),mF .dk 674,mF .l4 683,("bits_not_and",692,vr k [(96,.ref 629)] (.ref 357)),mF .eu 693,mF .pO 702,("add",711,vr k [(72,.ref 503),(148,.ref 902)] (.ref 371))]
def mn3(k:Nat):A7:=[mF .nv 712,("shift_left",721,vr k [(98,.ref 636),(160,.ref 944)] (.ref 378)),mF .fU 722,("shift_right",731,vr k [(100,.ref 643),(162,.ref 951)] (.ref 385)),mF .fm 732,mF .ny 742,("PREDICATE_PAIRS",763,.ref 393),mF .ee 772,mF .eU 782,mF .iy 788,mF .nz 799,mF .d4 807,mF .d5 815,mF .gC 824,mF .iO 834,mF .gD 843]
def mn4(k:Nat):A7:=[mF .pP 851,("MASKS",866,.ref 462),mF .lN 873,mF .compress 881,mF .gZ 889,mF .g0 898,("MOVES",905,.ref 489),mF .lO 912,mF .nA 924,("subtract",933,vr k [(150,.ref 909)] (.ref 510)),mF .g7 934,("multiply",943,vr k [(152,.ref 916)] (.ref 517)),mF .g_ 944,mF .iP 953,mF .dr 962,mF .sy 971]
def mn5(k:Nat):A7:=[mF .apart 980,mF .wb 989,mF .sC 998,mF .iQ 1007,mF .hF 1016,mF .gE 1025,mF .pQ 1034,mF .dt 1043,mF .iR 1052,mF .hH 1062,mF .iS 1072,mF .du 1082,mF .ew 1092,mF .fV 1102,mF .fo 1112,mF .ez 1121]
def mn6(k:Nat):A7:=[mF .nB 1131,mF .l_ 1141,mF .eA 1150,mF .negate 1159,mF .hI 1168,mF .iT 1177,mF .kD 1186,mF .gF 1196,("PAIRS",1257,.ref 707),mF .kF 1264,mF .jB 1270,("FIELD",1274,.int 283 1273),mF .c6 1280,mF .lP 1286,mF .iU 1294,mF .eV 1305]
def mn7(k:Nat):A7:=[mF .eX 1314,mF .fI 1320,mF .dW 1326,mF .kG 1332,mF .fq 1338,mF .cI 1344,mF .jC 1350,mF .ft 1356,mF .jD 1362,mF .cJ 1368,mF .bY 1374,mF .qx 1383,mF .df 1393,mF .iV 1403,mF .hJ 1409,mF .qy 1415]
def mn8(k:Nat):A7:=[mF .transform 1424,mF .dF 1433,mF .fu 1443,mF .c7 1454,mF .kH 1460,mF .fW 1466,mF .jE 1472,mF .jF 1478,("PRODUCTS",1513,.ref 881),mF .gM 1520,mF .Bw 1531,mF .fX 1541,mF .c1 1551,mF .c3 1561,mF .c4 1571,mF .dy 1581]
def mn9(k:Nat):A7:=[mF .bz 1591,mF .cu 1601,mF .cf 1611,mF .wc 1620,("SCALAR_PAIRS",1641,.ref 959),mF .iz 1652,mF .eY 1662,mF .jm 1669,mF .pick 1677,mF .kI 1683,mF .ke 1692,mF .nD 1702,mF .eZ 1712,mF .nG 1723,mF .jn 1732,mF .jo 1741]
def acV(k:Nat):A7:=[mF .fJ 1750,mF .fY 1758,mF .fZ 1766,mF .jG 1775,mF .hO 1786,mF .jH 1796,mF .iX 1804,mF .ef 1810,mF .expand 1823,mF .hR 1834,mF .f6 1843,mF .cR 1852,mF .cS 1861,mF .widen 1869,mF .jI 1875,mF .kJ 1881]
def acW(k:Nat):A7:=[mF .narrow 1890,mF .gN 1899,mF .jq 1908,mF .c8 1917,("SHAPES",1960,.ref 1167),mF .jr 1967,mF .among 1975,mF .f7 1984,mF .between 1990,mF .alike 1996,mF .mf 2002,("QUESTIONS",2003,.ref 1203),mF .answer 2015,mF .fB 2023,mF .kf 2030,mF .iY 2040]
def acX(k:Nat):A7:=[mF .gH 2050,("TEXTS",2055,.ref 1239),mF .lQ 2062,mF .Bx 2073,mF .f9 2079,mF .compare 2089,mF .hV 2095,mF .hY 2101,mF .jJ 2107,mF .jK 2113,mF .f_ 2121,("TOLD",2134,.ref 1293),mF .jL 2141,("WIDTHS",2189,.ref 1301),mF .fits 2196,mF .fC 2206]
def acY(k:Nat):A7:=[mF .h_ 2216,mF .js 2225,mF .dH 2236,mF .bR 2245,mF .start 2253,mF .dg 2259,mF .eg 2265,mF .e7 2271,mF .e_ 2277,mF .kK 2285,mF .gs 2293,("PLACES",2312,.ref 1395),mF .gu 2325,mF .gj 2338,mF .kL 2348,mF .jM 2358]
def acZ(k:Nat):A7:=[("TRANSFERS",2377,.ref 1424),mF .bA 2384,mF .pR 2394,mF .transfer 2400,mF .on 2411,mF .sD 2420,mF .kg 2429,mF .gc 2438,mF .jt 2447,mF .fb 2456,mF .ji 2465,mF .ju 2474,mF .iA 2483,("WAYS",2500,.ref 1507),mF .way 2507,("ORDER_BYTES",2511,.int 8 2510)]
def ac0(k:Nat):A7:=[("GOES_ON",2513,.int 0 2512),("ASKED_TO_STOP",2515,.int 1 2514),("NO_INSTRUCTION",2517,.int 3 2516),("NOT_IN_MEMORY",2519,.int 4 2518),("Walk",2581,.ref 1552),("counted",2590,.ref 1563),("told_parts",2597,.ref 1570),("run",2614,.ref 1577)]
def mnA(k:Nat):A7:=mn0 k++mn1 k++mn2 k++mn3 k++mn4 k++mn5 k++mn6 k++mn7 k++mn8 k++mn9 k++acV k++acW k++acX k++acY k++acZ k++ac0 k
def gS:iG:=(((mnA 0).map (·.1)).drop 9).dropLast
def mnO(P:Wh)(k n e:Nat):Obj:={cls:=.type "dict",data:=.dict (dS P ((mnA k).take n)).toArray e}
open PySem.W in
def mkT(f:Nat->Obj)(n:Nat):Nat->Nat->Nat->BT
 |0,_,_=>.nil
 |s+1,a,b=>match Wf b n with
  |true=>.node (f b) (mkT f n s (2*a) (a+b)) (mkT f n s (2*a) (2*a+b))
  |false=>.nil
end Lw
namespace Lw
open PySem PySem.W PyProof.Rows
def btO(P:Wh)(i:Nat):Obj:=nth [boot_o_0 P,boot_o_1 P,boot_o_2 P,boot_o_3 P,boot_o_4 P,boot_o_5 P,boot_o_6 P,boot_o_7 P,boot_o_8 P,boot_o_9 P,boot_o_10 P] i
def obA(P:Wh)(k n e m i:Nat):Obj:=match ZT i 3,ZT i 12,Wf i 11 with
 |true,_,_=>mnO P k n e
 |_,P',_=>tbO m
 |_,_,P'=>btO P i
 |_,_,_=>obF P i
def j6(k ns e m n tk:Nat)(w:V6)(h:V9):SharedT:=#[mkT (obA w.params k ns e m) n 12 1 0,n,{},#[[]],{},tk,h]
def L0:Env:={scope:=PGx.main.scope,locals:=mainNs,globals:=mainNs,cells:=[],code:=.ref 13,frame:=N' 14}
abbrev B0:List Frame:=[topFrame #[0,0,0,0]]
def j7(i m:Nat):TyM:=(PGx.main.body.drop i).take m
universe b
def Gq(j:Nat)(S:V6->V9->SharedT)(i m:Nat)(p:Pos)(Z:V6->V9->SharedT)(r:Pos)(w:V6):Prop:=∀h b,segRunT W4 PGx w 11 (N' (.ref 6)) 1 j (S w h) (piecesOf (j7 i m) L0 (.body b L0) p B0)=N' (.next,Z w h,.body b L0,r)
def Gz(h:Nat)(S:V6->V9->SharedT)(i m:Nat)(p:Pos)(Z:V6->V9->SharedT)(r:Pos):Prop:=∀w,Gq h S i m p Z r w
def Ik{j:Nat}{S:V6->V9->SharedT}{i m:Nat}{p:Pos}{Z:V6->V9->SharedT}{r:Pos}(h:∀w:V6,Gq j S i m p Z r (w.withFollow "special-get-raises" Q'))(h':∀w:V6,Gq j S i m p Z r (w.withFollow "special-get-raises" P')):Gz j S i m p Z r:=λw=>byRow2 "special-get-raises" (P:=Gq j S i m p Z r) h h' w
universe a
def gq0:Gz 382 (j6 0 9 9 0 15 187) 0 15 #[0,0,0,0] (j6 15 22 22 11 92 298) #[51,0,51,5]:=λw h b=>by kernel_rfl
def gq1:Gz 592 (j6 15 22 22 11 92 298) 15 1 #[51,0,51,5] (j6 16 23 23 12 190 432) #[52,0,98,38]:=λw h b=>by kernel_rfl
def gq2:Gz 387 (j6 16 23 23 12 190 432) 16 4 #[52,0,98,38] (j6 20 25 25 13 239 508) #[122,0,122,8]:=λw h b=>by kernel_rfl
def gq3:Gz 390 (j6 20 25 25 13 239 508) 20 7 #[122,0,122,8] (j6 27 31 31 19 291 591) #[163,0,167,75]:=λw h b=>by kernel_rfl
def gq4:Gz 396 (j6 27 31 31 19 291 591) 27 13 #[163,0,167,75] (j6 40 43 43 27 344 675) #[190,0,190,20]:=Ik (λw h b=>by kernel_rfl) (λw h b=>by kernel_rfl)
def gq5:Gz 259 (j6 40 43 43 27 344 675) 40 11 #[190,0,190,20] (j6 51 54 54 34 393 743) #[207,0,209,46]:=λw h b=>by kernel_rfl
def gq6:Gz 396 (j6 51 54 54 34 393 743) 51 9 #[207,0,209,46] (j6 60 63 63 42 448 835) #[232,0,235,46]:=Ik (λw h b=>by kernel_rfl) (λw h b=>by kernel_rfl)
def gq7:Gz 385 (j6 60 63 63 42 448 835) 60 11 #[232,0,235,46] (j6 71 72 72 49 497 915) #[259,0,259,8]:=Ik (λw h b=>by kernel_rfl) (λw h b=>by kernel_rfl)
def gq8:Gz 372 (j6 71 72 72 49 497 915) 71 14 #[259,0,259,8] (j6 85 85 85 60 574 1017) #[283,0,284,50]:=λw h b=>by kernel_rfl
def gq9:Gz 371 (j6 85 85 85 60 574 1017) 85 16 #[283,0,284,50] (j6 101 95 95 70 644 1113) #[310,0,310,17]:=λw h b=>by kernel_rfl
def ac1:Gz 283 (j6 101 95 95 70 644 1113) 101 9 #[310,0,310,17] (j6 110 104 104 79 707 1197) #[331,0,333,35]:=λw h b=>by kernel_rfl
def ac2:Gz 516 (j6 110 104 104 79 707 1197) 110 1 #[331,0,333,35] (j6 111 105 105 79 709 1258) #[334,0,334,5]:=Ik (λw h b=>by kernel_rfl) (λw h b=>by kernel_rfl)
def ac3:Gz 376 (j6 111 105 105 79 709 1258) 111 15 #[334,0,334,5] (j6 126 119 119 92 782 1351) #[378,0,379,104]:=λw h b=>by kernel_rfl
def ac4:Gz 379 (j6 126 119 119 92 782 1351) 126 13 #[378,0,379,104] (j6 139 132 132 105 861 1455) #[426,0,433,98]:=λw h b=>by kernel_rfl
def ac5:Gz 392 (j6 139 132 132 105 861 1455) 139 7 #[426,0,433,98] (j6 146 138 138 110 889 1523) #[450,0,450,8]:=Ik (λw h b=>by kernel_rfl) (λw h b=>by kernel_rfl)
def ac6:Gz 391 (j6 146 138 138 110 889 1523) 146 18 #[450,0,450,8] (j6 164 148 148 120 959 1621) #[477,0,478,12]:=λw h b=>by kernel_rfl
def ac7:Gz 401 (j6 164 148 148 120 959 1621) 164 10 #[477,0,478,12] (j6 174 157 157 128 1012 1713) #[509,0,514,91]:=Ik (λw h b=>by kernel_rfl) (λw h b=>by kernel_rfl)
def ac8:Gz 374 (j6 174 157 157 128 1012 1713) 174 12 #[509,0,514,91] (j6 186 169 169 140 1094 1824) #[554,0,563,16]:=λw h b=>by kernel_rfl
def ac9:Gz 333 (j6 186 169 169 140 1094 1824) 186 11 #[554,0,563,16] (j6 197 180 180 151 1167 1918) #[589,0,590,84]:=λw h b=>by kernel_rfl
def ada:Gz 400 (j6 197 180 180 151 1167 1918) 197 4 #[589,0,590,84] (j6 201 183 183 153 1181 1976) #[595,0,596,32]:=Ik (λw h b=>by kernel_rfl) (λw h b=>by kernel_rfl)
def adb:Gz 392 (j6 201 183 183 153 1181 1976) 201 14 #[595,0,596,32] (j6 215 196 196 164 1254 2074) #[630,0,635,30]:=Ik (λw h b=>by kernel_rfl) (λw h b=>by kernel_rfl)
def ade:Gz 325 (j6 215 196 196 164 1254 2074) 215 10 #[630,0,635,30] (j6 225 205 205 172 1301 2144) #[660,0,660,8]:=Ik (λw h b=>by kernel_rfl) (λw h b=>by kernel_rfl)
def adf:Gz 401 (j6 225 205 205 172 1301 2144) 225 9 #[660,0,660,8] (j6 234 213 213 179 1361 2254) #[698,0,699,49]:=Ik (λw h b=>by kernel_rfl) (λw h b=>by kernel_rfl)
def adg:Gz 371 (j6 234 213 213 179 1361 2254) 234 9 #[698,0,699,49] (j6 243 222 222 187 1410 2339) #[723,0,726,63]:=Ik (λw h b=>by kernel_rfl) (λw h b=>by kernel_rfl)
def adh:Gz 390 (j6 243 222 222 187 1410 2339) 243 10 #[723,0,726,63] (j6 253 231 231 195 1465 2430) #[752,0,753,50]:=Ik (λw h b=>by kernel_rfl) (λw h b=>by kernel_rfl)
def adi:Gz 392 (j6 253 231 231 195 1465 2430) 253 14 #[752,0,753,50] (j6 267 244 244 202 1515 2520) #[776,0,776,13]:=Ik (λw h b=>by kernel_rfl) (λw h b=>by kernel_rfl)
def adj:Gz 395 (j6 267 244 244 202 1515 2520) 267 4 #[776,0,776,13] (j6 271 247 247 205 1571 2598) #[818,0,819,92]:=λw h b=>by kernel_rfl
def adk:Gz 40 (j6 271 247 247 205 1571 2598) 271 1 #[818,0,819,92] (j6 272 248 248 206 1578 2615) #[820,0,826,84]:=λw h b=>by kernel_rfl
def qv:Program:={PGx with main:={PGx.main with body:=[xj 271]}}
def Om(P:Wh):Heap:=absHeap (mkT (obA P 272 248 248 206) 1578 12 1 0) 1578 {}
abbrev st0(w:V6)(h:V9):Shared:=#[WY w.params,#[],boot_drawn,boot_toks,h]
abbrev cB:Code:=.body (Xl PGx) L0
abbrev stB(w:V6)(h:V9):Shared:=(j6 0 9 9 0 15 187 w h).abs
abbrev s1(w:V6)(h:V9):Shared:=#[Om w.params,#[[]],{},2615,h]
def aar(w:V6)(h:V9):topGo W4 PGx w 11 (N' (.ref 6)) 12 (st0 w h) (topStub PGx)=N' (stB w h,#[denote W4 cB,cB,#[0,0,0,0],B0]):=by kernel_rfl
universe b
def Oo(w:V6)(h:V9):segRun W4 PGx w 11 (N' (.ref 6)) 1 1 (stB w h) (blockOf (Xl PGx) L0 cB #[0,0,0,0] B0)=N' (.next,stB w h,cB,#[0,0,0,0]):=by kernel_rfl
universe a
def aas(w:V6)(h:V9):topRun W4 PGx w 11 (N' (.ref 6)) 2 (s1 w h) (restOf [] L0 cB #[820,0,826,84] B0)=N' (s1 w h):=by kernel_rfl
def SA(w:V6):((WY w.params).isNs V1&&(#[[]]:Array GenState).size==0,(WY w.params).objs.size,(WY w.params).nsMap V1 "__annotations__")=(P',11,N' (.ref 6)):=by kernel_rfl
def SD:restOf (Xl PGx) L0 cB #[0,0,0,0] B0=restOf (j7 0 15++(j7 15 1++(j7 16 4++(j7 20 7++(j7 27 13++(j7 40 11++(j7 51 9++(j7 60 11++(j7 71 14++(j7 85 16++(j7 101 9++(j7 110 1++(j7 111 15++(j7 126 13++(j7 139 7++(j7 146 18++(j7 164 10++(j7 174 12++(j7 186 11++(j7 197 4++(j7 201 14++(j7 215 10++(j7 225 9++(j7 234 9++(j7 243 10++(j7 253 14++(j7 267 4++(j7 271 1++[])))))))))))))))))))))))))))) L0 cB #[0,0,0,0] B0:=by kernel_rfl
def aat(w:V6)(h:V9):topRun W4 PGx w 11 (N' (.ref 6)) (382+(592+(387+(390+(396+(259+(396+(385+(372+(371+(283+(516+(376+(379+(392+(391+(401+(374+(333+(400+(392+(325+(401+(371+(390+(392+(395+(40+2)))))))))))))))))))))))))))) (stB w h) (restOf (j7 0 15++(j7 15 1++(j7 16 4++(j7 20 7++(j7 27 13++(j7 40 11++(j7 51 9++(j7 60 11++(j7 71 14++(j7 85 16++(j7 101 9++(j7 110 1++(j7 111 15++(j7 126 13++(j7 139 7++(j7 146 18++(j7 164 10++(j7 174 12++(j7 186 11++(j7 197 4++(j7 201 14++(j7 215 10++(j7 225 9++(j7 234 9++(j7 243 10++(j7 253 14++(j7 267 4++(j7 271 1++[])))))))))))))))))))))))))))) L0 cB #[0,0,0,0] B0)=N' (s1 w h):=bF (bJ (gq0 w h _)) (bF (bJ (gq1 w h _)) (bF (bJ (gq2 w h _)) (bF (bJ (gq3 w h _)) (bF (bJ (gq4 w h _)) (bF (bJ (gq5 w h _)) (bF (bJ (gq6 w h _)) (bF (bJ (gq7 w h _)) (bF (bJ (gq8 w h _)) (bF (bJ (gq9 w h _)) (bF (bJ (ac1 w h _)) (bF (bJ (ac2 w h _)) (bF (bJ (ac3 w h _)) (bF (bJ (ac4 w h _)) (bF (bJ (ac5 w h _)) (bF (bJ (ac6 w h _)) (bF (bJ (ac7 w h _)) (bF (bJ (ac8 w h _)) (bF (bJ (ac9 w h _)) (bF (bJ (ada w h _)) (bF (bJ (adb w h _)) (bF (bJ (ade w h _)) (bF (bJ (adf w h _)) (bF (bJ (adg w h _)) (bF (bJ (adh w h _)) (bF (bJ (adi w h _)) (bF (bJ (adj w h _)) (bF (bJ (adk w h _)) (aas w h))))))))))))))))))))))))))))
def nM:Nat:=12+(1+(382+(592+(387+(390+(396+(259+(396+(385+(372+(371+(283+(516+(376+(379+(392+(391+(401+(374+(333+(400+(392+(325+(401+(371+(390+(392+(395+(40+2)))))))))))))))))))))))))))))
def aau(w:V6)(h:V9):topRun W4 PGx w 11 (N' (.ref 6)) nM (st0 w h) (topStub PGx)=N' #[Om w.params,#[[]],{},2615,h]:=by
 have j:topRun W4 PGx w 11 (N' (.ref 6)) (382+(592+(387+(390+(396+(259+(396+(385+(372+(371+(283+(516+(376+(379+(392+(391+(401+(374+(333+(400+(392+(325+(401+(371+(390+(392+(395+(40+2)))))))))))))))))))))))))))) (stB w h) (restOf (Xl PGx) L0 cB #[0,0,0,0] B0)=N' (s1 w h):=by rw[SD];show aat w h
 show go_top (aar w h) (piece_block (Oo w h) j)
def adl:Nat.ble nM 17300=true:=by decide+kernel
def SE(w:V6):(fencedOpening W4 PGx w 17300).map (λs=>(s.1,s.gens,s.drawn,s.4))=N' (WY w.params,#[[]],boot_drawn,boot_toks):=boot_open (by kernel_rfl) () (λs=>by kernel_rfl) w
def l_a(w:V6):staticsOk (Xc PGx.main.body) (WY w.params) (Om w.params)=true:=by kernel_rfl
def l_c(w:V6)(h:V9):gensDone (s1 w h)=true:=by kernel_rfl
def l_d(w:V6):laidKept (WY w.params) (Om w.params)=true:=by kernel_rfl
def l_g(w:V6)(h:V9):tabsOk qv (s1 w h)=true:=by kernel_rfl
def l_e(w:V6)(h:V9):seen ((recsOf qv).map (·.name)) (ownsOf qv) [] {s1 w h with gens:= #[]}=expectedOf qv:=by kernel_rfl
def l_f(w:V6)(h:V9):(s1 w h).1.bltView=bltViewBooted:=by kernel_rfl
def l_h(w:V6)(h:V9):(s1 w h).1.accountedOkI (Xc PGx.main.body)=true:=by kernel_rfl
def l_i(w:V6)(h:V9):((s1 w h).1.isNs V1&&(s1 w h).1.isNs WJ&&tablesOk qv (s1 w h).1&&recOk [] (s1 w h)&&((s1 w h).gens.size==0))=true:=by kernel_rfl
def l_j(w:V6)(h:V9):pinSeenD qv (drecsOf qv) (s1 w h)=pinGoodD (drecsOf qv):=by kernel_rfl
def l_m(w:V6)(h:V9):wideSeen qv (s1 w h)=wideGood qv:=by kernel_rfl
def l_k(w:V6)(h:V9):plainSeenE qv (YV qv gS) (s1 w h)=plainGoodE qv (YV qv gS):=by kernel_rfl
def l_l(w:V6)(h:V9):plainSeenD qv gS (s1 w h)=plainGoodD qv gS:=by kernel_rfl
def l_n(w:V6)(h:V9):clsSeenW qv gS (s1 w h)=clsGoodW qv gS:=by kernel_rfl
def l_b(w:V6):namesBound PGx (Om w.params)=true:=by kernel_rfl
def l_o(w:V6)(h:V9):(s1 w h).1.keysOk (YV qv gS) ((recsOf qv).map (·.name)) ((litsOf qv).map (·.1)) ((clssOf qv (YV qv gS)).map (·.name))=true:=by kernel_rfl
def l_p(w:V6)(h:V9):Sa (pick (s1 w h).1.1.toList Lj 0)=LY:=by kernel_rfl
def SF(w:V6)(h:V9):Lm (pick (s1 w h).1.1.toList Lj 0)=true:=by kernel_rfl
def SG(w:V6)(h:V9):Oc (pick (s1 w h).1.1.toList Lj 0)=true:=by kernel_rfl
def SH(w:V6)(h:V9):Od (pick (s1 w h).1.1.toList Lj 0)=true:=by kernel_rfl
def SI(w:V6)(h:V9):R_ (pick (s1 w h).1.1.toList Lj 0)=true:=by kernel_rfl
def SJ(w:V6)(h:V9):Sd (pick (s1 w h).1.1.toList Lj 0)=true:=by kernel_rfl
def SK(w:V6)(h:V9):Oe (pick (s1 w h).1.1.toList Lj 0)=true:=by kernel_rfl
def SM(w:V6)(h:V9):Sb (pick (s1 w h).1.1.toList Lj 0) (pick (s1 w h).1.1.toList Gu 0)=true:=by kernel_rfl
def aav(w:V6)(j:V9):Ih (s1 w j)=(P',LY):=by
 have h:Ig (pick (s1 w j).1.1.toList Lj 0) (pick (s1 w j).1.1.toList Gu 0)=true:=by unfold Ig;rw[SF w j,SG w j,SH w j,SI w j,SM w j,SJ w j,SK w j];rfl
 unfold Ih;rw[h,l_p w j]
def left:LeftO PGx qv gS (λs=>recOk [] s) Ih (λ_=>(P',LY)) 17300:=LeftO.of_pieces (H₀:=WY) (H₁:=Om) (gs₀:=#[[]]) (gs₁:=#[[]]) (d₀:=boot_drawn) (d₁:={}) (k₀:=boot_toks) (k₁:=2615) (m₀:=11) (ann:=N' (.ref 6)) (M:=nM) SE SA aau adl λw=>by
  funext os;have h:=l_i w os;simp![aD]at h;obtain⟨⟨⟨⟨j,o⟩,q⟩,r⟩,u⟩:=h;have y:(staticsOk (Xc PGx.main.body) (WY w.params) (Om w.params)&&namesBound PGx (Om w.params)&&gensDone (s1 w os)&&laidKept (WY w.params) (Om w.params))=true:=by rw[l_a w,l_b w,l_c w os,l_d w];rfl
  have B:((s1 w os).1.keysOk (YV qv gS) ((recsOf qv).map (·.name)) ((litsOf qv).map (·.1)) ((clssOf qv (YV qv gS)).map (·.name))&&(s1 w os).1.accountedOkI (Xc PGx.main.body)&&(s1 w os).1.isNs V1&&(s1 w os).1.isNs WJ&&tablesOk qv (s1 w os).1&&recOk [] (s1 w os)&&(s1 w os).gens.size==0)=true:=by rw[l_o w os,l_h w os,j,o,q,r];show u
  have E:openSeen qv gS (Xc PGx.main.body) (λs=>recOk [] s) P' (s1 w os)=openGood qv gS:=by unfold openSeen openGood;rw[l_e w os,l_f w os,l_g w os,l_j w os,l_k w os,l_l w os,l_m w os,l_n w os];show congrArg (λb=>(expectedOf qv,bltViewBooted,b,P',pinGoodD (drecsOf qv),plainGoodE qv (YV qv gS),plainGoodD qv gS,wideGood qv,clsGoodW qv gS)) B
  show Prod.ext y (Prod.ext E (aav w os))
end Lw
namespace Lw
open PySem PySem.W PyProof.Rows PySem.W.Codec
def Oq:RW.wellSaid=true:=by have j:=sd1;have h:=sd2;simp![aD]at h;obtain⟨⟨⟨⟨a,b⟩,c⟩,d⟩,e⟩:=h;show(looksOpen PGx&&PGx.boundNames.contains PySem.Challenge.nm_lanewise_s02_run&& !startupNames.contains PySem.Challenge.nm_lanewise_s02_run&&specDef PGx PySem.Challenge.nm_lanewise_s02_run PySem.Challenge.fa_lanewise_s02_run.length&&PySem.Challenge.fa_lanewise_s02_run.all Codec.fits&&PySem.Challenge.fr_lanewise_s02_run.ok)=P';rw[j,a,b,c,d,e];rfl
def hOk:(chainsOk qv&&opensWell RW.prog)=true:=by
 have:chainsOk qv=true:=by decide+kernel
 rw[this];show sd3
def aax:∃h,RW.pre h=P'/\WData.layableAll h=true:=OpenSpec.nonEmpty_of Oq (leastAll RW.args) (by decide+kernel) (by decide+kernel)
theorem xr{j:Str->Option VZ}{h:Heap}:∀{l:List Int} {us:TyJ},L2.Vals (l.map L2.V.int) us->ReadsAllW [] j h us (l.map W0) []
 |[],_,.nil=>.nil
 |i::l,_,.cons r t=>by obtain⟨k,rfl⟩:=r;show .cons (as:=[]) (bs:=[]) (.int i k) (xr t)
theorem GQ{P:Wh}{h:Heap}:∀{l:List Int} {us:TyJ},Yn P h us (l.map W0)->L2.Vals (l.map L2.V.int) us
 |[],_,w=>by cases w;show .nil
 |i::l,_,w=>by
  cases w with
  |cons a b=>
   cases a;show .cons #[_,S'] (GQ b)
def SN{P:Wh}{h:Heap}(w:Yn P h us (.int i::l)):∃t r,us=.int i t::r/\Yn P h r l:=by
 cases w with
 |cons a b=>
  cases a;show#[_,_,S',b]
def qE{P:Wh}{h:Heap}{v:d_}(w:Yn P h us (.list ((iI v).map W0)::l)):∃a vs r,us=.ref a::r/\h.get? a=N' {cls:=.type "list",data:=.seq vs.toArray}/\L2.Vals (vI v) vs/\Yn P h r l:=by
 cases w with
 |cons a b=>
  cases a with
  |list j o=>show#[_,_,_,S',j,by rw[<-Sy];show GQ o,b]
def SO{P:Wh}{h:Heap}(w:Yn P h us []):us=[]:=by cases w;rfl
def LL{l:List Int}(h:∀z∈l,0<=z/\z<=18446744073709551615):∃v:d_,l=iI v/\v.length=l.length/\∀y∈v,y<2^64:=by
 apply#[l.map E',?_,by rw[aB],λy o=> ?_]
 ·unfold iI;rw[aS];have:∀z∈l,((λ(n:Nat)=>(n:Int))∘E') z=z:=λz j=>by have:=(h z j).1;show((z.toNat:Nat):Int)=z;lia
  show(dP this).trans (List.map_id _)|>.symm
 ·obtain⟨z,j,rfl⟩:=gm.mp o;have:=h z j;lia
def CZ{n m k:Nat}{l:List Int}(h:(Xe n m (.int (Wa 0) (Wa k))).within l=P'):(n<=l.length/\l.length<=m)/\∀z∈l,0<=z/\z<=(k:Int):=by
 have h':(inLen n m l&&l.all (inInt (Wa 0) (Wa k)))=true:=h;rw[aD]at h';apply#[?_,λz j=> ?_]
 ·have:(decide (n<=l.length)&&decide (l.length<=m))=true:=h'.1;simp![aD,bg]at this;show this
 ·have:=inInt_iff.mp (cC.mp h'.2 z j);show this
def in_list{n k:Nat}(q:k<=18446744073709551615){l:List Int}(h:(Xe n n (.int (Wa 0) (Wa k))).within l=P'):∃v:d_,l=iI v/\v.length=n/\∀y∈v,y<2^64:=by obtain⟨r,j⟩:=CZ h;obtain⟨v,e,s,b⟩:=LL λz o=>#[(j z o).1,by have:=(j z o).2;lia];show#[v,e,by lia,b]
def aay{v:d_}(h:v.length=2):∃a b,v=[a,b]:=by
 match v,h with
 |[a,b],_=>show#[a,b,S']
def some_of{v:d_}(h:1<=v.length):∃a b,v=a::b:=by
 cases v with
 |nil=>cases h
 |cons a b=>show#[a,b,S']
end Lw
namespace Lw
open PySem PySem.W PyProof.Rows PySem.W.Codec
def walk{d:DefRec}{D:List (Str×Expr)}(hd:d.name="run"){XP:(x1)->Heap->Prop}:WalkOS qv gS XP (λ_ h=>Laid h) RW d D λf vs=>PySem.call f vs:=by
 intro w s0 s1 mg mb G Y a o pm cd doc dV kV ho za zb hD s hg u B as E e zc V zd;obtain⟨K,KT,i,R,H,I⟩:=Y;have c:=Se H I;rw[hd]at s;have ea:=s.symm.trans (X2 i G.T.g c.gl.rn);obtain rfl:a=CP:=by cases ea;rfl
 obtain⟨⟨J,vs,ps,xs,hs,k,ls,un⟩,L,M,rfl⟩:=(OpenSpec.pre_iff Oq u).mp E;have j:((Codec.int (Wa 0) (Wa 1099511627776)).within J&&((Xe 128 128 (.int (Wa 0) (Wa 18446744073709551615))).within vs&&((Xe 8 8 (.int (Wa 0) (Wa 18446744073709551615))).within ps&&((Xe 16 16 (.int (Wa 0) (Wa 18446744073709551615))).within xs&&((Xe 2 2 (.int (Wa 0) (Wa 18446744073709551615))).within hs&&((Xe 1 61680 (.int (Wa 0) (Wa 65535))).within k&&((Xe 2 2 (.int (Wa 0) (Wa 65536))).within ls&&P')))))))=true:=L;simp![aD]at j;obtain⟨n1,n2,n3,n4,n5,n6,n7,_⟩:=j;have b1:0<=J/\J<=1099511627776:=inInt_iff.mp n1;obtain⟨n,rfl⟩:∃n:Nat,J=(n:Int):=#[E' J,(zO b1.1).symm];obtain⟨v,rfl,lv,bv⟩:=in_list () n2;obtain⟨q,rfl,lq,bq⟩:=in_list () n3;obtain⟨x,rfl,lx,bx⟩:=in_list () n4;obtain⟨m,rfl,l5,_⟩:=in_list () n5;obtain⟨l2,rfl,l7,_⟩:=in_list () n7;obtain⟨l6,p⟩:=CZ n6;obtain⟨mm,rfl,lm,_⟩:=LL (l:=k) λz t=>#[(p z t).1,by have:=(p z t).2;lia];obtain⟨S,f,rfl⟩:=aay l5;obtain⟨C,F,rfl⟩:=aay l7;obtain⟨O,b,rfl⟩:=some_of (show 1<=mm.length by rw[lm];show l6.1);have hk:Sg40Neutral.asked [[20],[(n:Int)],iI v,iI q,iI x,iI [S,f],iI (O::b),iI [C,F]]=true:=M;have Q:((_:Bool)&&(NeutralIO.within (n:Int) 0 1099511627776&&(decide ((iI v).length=128)&&(decide ((iI q).length=8)&&(decide ((iI x).length=16)&&(Sg40Neutral.word (f:Int)&&(NeutralIO.bytes (iI b)&&(decide ((O:Int)+((iI b).length:Int)<=65536)&&decide ((C:Int)+(F:Int)<=65536)))))))))=true:=hk;simp![aD,bg]at Q;obtain⟨_,_,_,_,_,_,A,U,ze⟩:=Q;have N:∀y∈b,y<256:=λy hy=>by have:=cC.mp A (y:Int) (gm.mpr #[y,hy,S']);simp![aD,bg]at this;lia
 have X:O+b.length<=65536:=by unfold iI at U;rw[aB]at U;lia
 have Z:Yn w.params s1.1 B [.int (n:Int),.list ((iI v).map W0),.list ((iI q).map W0),.list ((iI x).map W0),.list ((iI [S,f]).map W0),.list ((iI (O::b)).map W0),.list ((iI [C,F]).map W0)]:=V;obtain⟨tw,_,rfl,r1⟩:=SN Z;obtain⟨_,_,_,rfl,m,r2,q2⟩:=qE r1;obtain⟨_,_,_,rfl,h3,r3,q3⟩:=qE q2;obtain⟨_,_,_,rfl,h4,r4,q4⟩:=qE q3;obtain⟨_,_,_,rfl,h5,r5,q5⟩:=qE q4;obtain⟨_,_,_,rfl,h6,r6,q6⟩:=qE q5;obtain⟨_,_,_,rfl,h7,r7,q7⟩:=qE q6;obtain rfl:=SO q7;apply enter_call (rX (LD (P:=RW.prog) (w:=w) c i R G.T.g G.T.b G.T.builtins G.T.nolimit hg lv lq lx bv bq bx X N 'l' m r2 h3 r3 h4 r4 h5 r5 h6 r6 h7 r7) λr s' hq=> ?_);obtain⟨⟨l,zf,n',rfl,hl,rr⟩,hK,W,N⟩:=hq;apply#[.inl #[.ref l,.list ((Xi (n:Int) (iI v) (iI q) (iI x) (iI [S,f]) (iI (O::b)) (iI [C,F])).map W0),_,S',λ_=>rfl,.list hl S' rfl (xr rr),(OpenSpec.post_iff Oq L _ _).mpr S',λh=>by cases h],hK,W,N]
def holds:RW.Holds:=holds_os (r:=RW) (q:=qv) (loose:=gS) (Xt:=λs=>recOk [] s) (XP:=λ_ _=>True) (Yf:=Ih) (Ya:=λ_=>(P',LY)) (YP:=λ_ h=>Laid h) (N:=17300) left (λw s e=>Of e) (λw h h' l k=>l.keeps k) (λ_ _=>trivial) (λ_ _ _ _ _=>trivial) (by rfl) (by rfl) (by rfl) (λs e=>recFacts_of e) os_shapes Oq hOk aaw aax (walk S')
end Lw
theorem PySem.Challenge.cw_lanewise_s02_run_holds : PySem.Challenge.rw_lanewise_s02_run.Holds :=
 Lw.holds
