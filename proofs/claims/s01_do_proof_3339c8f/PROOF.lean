import PyProof.Rows.All
import Wide.All
import OpenK.AllK
import KE.OsGo
import Open.SpecLaws
import PyProof.TableCode
import PySem.Challenge.RW_lanewise_s01_do
set_option Elab.async false
set_option linter.all false
set_option maxRecDepth 100000
set_option maxHeartbeats 4000000
set_option bootstrap.genMatcherCode false
set_option genSizeOf false
set_option compiler.extract_closed false
noncomputable section
open Nat renaming and_two_pow_sub_one_eq_mod->DJ,mod_two_eq_zero_or_one->tJ,add_mul_mod_self_left->Ll,add_sub_cancel_left->FP,testBit_mod_two_pow->yL,div_div_eq_div_mul->yN,testBit_lt_two_pow->pZ,div_lt_iff_lt_mul->B8,add_mul_div_left->ua,eq_of_testBit_eq->q7,mul_le_mul_right->p4,pow_le_pow_right->fh,and_mod_two_pow->wd,mul_le_mul_left->F1,and_lt_two_pow->yS,lt_of_le_of_lt->we,lt_of_lt_of_le->bw,xor_lt_two_pow->rb,le_of_succ_le->wm,lt_succ_of_lt->Cb,or_lt_two_pow->Cc,div_eq_of_lt->lL,le_add_right->yV,mod_eq_of_lt->aq,and_div_two->yp,div_add_mod->n8,div_le_self->uY,testBit_and->jM,add_assoc->sH,lt_irrefl->mB,xor_assoc->jf,add_comm->fD,add_zero->n_,le_of_eq->qa,le_of_lt->hF,le_trans->eF,mul_comm->cJ,ne_of_lt->cV,pow_succ->qb,pow_zero->sL,succ_mul->jO,zero_add->qc,div_one->u4,le_refl->aH,mod_mod->gk,mul_add->oa,mul_one->og,pow_add->eV,pow_one->u5,zero_le->mD,mod_lt->aw,blt->Go,strongRecOn->Re,or_mod_two_pow->T0,mod_mod_of_dvd->UF,xor_comm->WP,testBit_eq_decide_div_mod_eq->Wp,ne_of_gt->W1,mul_zero->XV,mul_succ->ZB,mul_left_comm->ac,lt_succ_self->bn,log2_lt->cr,testBit_xor->em,testBit_two_pow_sub_succ->f8,and_le_left->ga,two_pow_add_eq_or_of_lt->im,zero_mod->lw,sub_zero->ms,sub_self->na,or_comm->pr,testBit_two_pow->sn,mod_eq_sub_mod->up,beq->v4,zero_testBit->wf,testBit_zero->wl,testBit_succ->wn,min_eq_right->wp,and_le_right->wv,not_lt_zero->_A,mul_add_mod->_B,mul_add_div->_C,min_eq_left->_D,testBit_or->_G,or_div_two->_H,pow_succ'->_L,mul_assoc->_M,zero_mul->_P,zero_and->_Q,xor_zero->_R,xor_self->_S,mod_self->_T,lt_trans->_U,and_self->_V,pow_pos->_c
open Int renaming fdiv_eq_ediv_of_nonneg->Hz,toNat_of_nonneg->B9,toNat_natCast->fH,ofNat->KB,negSucc->P6,natCast_emod->ca,natCast_ediv->ci,emod_nonneg->ii,fmod_eq_emod_of_nonneg->kt,toNat->lm,ediv_lt_of_lt_mul->pi,ofNat_eq_natCast->sB,ne_of_gt->_X,mul_emod->_Y,le_trans->_Z,add_emod->_a
open List renaming getD_eq_getElem?_getD->tH,getElem?_append_right->DK,getElem?_append_left->Bl,getElem?_eq_some_iff->ph,find?_range_eq_some->B4,getElem?_eq_getElem->oE,getElem?_take_of_lt->B5,getElem?_cons_succ->FN,getElem?_replicate->B6,getElem?_set_self->pY,range_succ_eq_map->FV,take_of_length_le->yM,zipWith_map_right->FW,getElem?_eq_none->fF,getElem?_zipWith->B7,length_replicate->yP,mem_append_right->q0,zipWith_map_left->FY,getElem?_of_mem->wa,getElem?_set_ne->m1,mem_cons_of_mem->d7,mem_of_getElem?->ky,filterMap_cons->wc,getElem?_range->q_,map_congr_left->fG,replicate_succ->ra,find?_eq_none->yQ,length_append->fi,mem_cons_self->kz,mem_filterMap->yR,zip_cons_cons->B_,append_assoc->wj,ext_getElem?->rd,flatten_cons->wk,getElem?_map->dQ,length_range->fI,size_toArray->c4,all_eq_true->c_,cons_append->uc,filter_cons->yU,length_cons->fJ,length_take->oG,lookup_cons->lJ,not_mem_nil->lK,append_nil->kZ,foldl_cons->sD,forIn_cons->yo,length_map->aP,length_nil->my,length_set->nZ,map_append->k0,mem_filter->sE,nil_append->n0,nodup_cons->sF,of_mem_zip->uX,range_succ->mz,forIn_nil->uZ,mem_range->dw,range_add->yr,all_cons->fC,map_cons->bI,mem_cons->aA,map_map->bY,map_nil->sJ,mem_map->iu,range->AC,replicate->Da,zipWith->Gc,lookup->P1,length->P4,map->P9,sum_cons->SL,any_cons->SZ,set_cons_zero->Sc,getElem?_drop->TD,findIdx?_cons->TW,filter_append->Tk,zipWith_self->WF,length_drop->al,any_eq_true->am,findIdx?_eq_none_iff->jp,set_eq_of_length_le->lf,getElem?_cons_zero->li,length_singleton->nl,getElem?_reverse->nn,mem_of_mem_take->nw,mem_of_mem_drop->ol,mem_append_left->o0,length_zipWith->pu,length_reverse->re,set_cons_succ->ss,getElem?_take->sw,foldl->tz,reverse_cons->v0,getElem?_set->v1,zipIdx_cons->v6,take_length->wE,map_snd_zip->wP,isEmpty_iff->wS,drop_length->wT,zipIdx_nil->ww,sum_append->xL,range_zero->xz,mapM_cons->_E,findIdx?->_I,sum_nil->_N,all_map->_O,filter->_W
open Option renaming isNone_iff_eq_none->DL,isSome_iff_exists->FL,bind_eq_some_iff->FQ,map_eq_some_iff->bR,elim_none->p7,elim_some->jL,getD_none->yk,join_some->yl,map_some->g_,isSome_some->Rs,getD_some->UV,bind_some->Uf
open Array renaming length_toList->wb,append_assoc->sK,isEmpty_iff->t0,toList->_K
open Bool renaming false_eq_true->ub,false_ne_true->eu,not_eq_true'->lI,and_eq_true->aB,eq_iff_iff->nY,or_eq_true->p9,and_false->io,not_true->_J
open Function renaming comp_def->Ca,comp->v2
open Option.some renaming injEq->aD,inj->jN
open Prod.mk renaming injEq->aG
open Ne renaming symm->jQ
open Sg40 renaming signed->AT,ofLanes->Ch,bitsOf->FS,onRegs->Fa,widthOk->Fk,ofBits->IR,chosen->KM,ones->On,times8->PP,clmul->P7,heldS->P8,inverse8->SC,setP->Tl,lengthOf->be,read->dL,affine->pp,flagsOf->ul,heldU->zn,onCall->_b
open False renaming elim->Db
open Sg40Neutral renaming «ints»->FB,vecs->KF,val->No,eights->P2,nats->P5
open Sum renaming inl->Pv,inr->ln
open PySg40 renaming do_->P3
open ForInStep renaming yield->SB
open Sum.inl renaming inj->_F
section
open PySem PySem.Spec PySem.W PyProof.Rows
abbrev xr:=@PyProof.Rows.callWith_type1
abbrev FR:=@PySem.F.plainAttrs_list
abbrev v_:=@decide_eq_false_iff_not
abbrev FU:=@Calls.callWith_builtin
abbrev aX:=@Heap.get?_push_of_some
abbrev FX:=@PyProof.noPylong_small
abbrev yO:=@wpAny_nextOf_list_item
abbrev FZ:=@codeAny_call_function
abbrev F0:=@wpAny_nextOf_list_end
abbrev dP:=@Heap.get?_push_size
abbrev eJ:=@PySem.mem_of_lookup
abbrev p5:=@decide_eq_true_iff
abbrev wg:=@wpAny_Call_Name_kw
abbrev yT:=@wpAny_setField_rec
abbrev bG:=@decide_eq_true_eq
abbrev oF:=@of_decide_eq_true
abbrev Cd:=@wpAny_pyIter_list
abbrev p6:=@wpAny_truthy_bool
abbrev ym:=@wpAny_pyIter_zip
abbrev yn:=@F.slot_zip_next
abbrev b9:=@decide_eq_false
abbrev sG:=@pushCells_keeps
abbrev yq:=@wpAny_execs_nil
abbrev p_:=@wpAny_passesOwn
abbrev dv:=@Heap.size_push
abbrev je:=@decide_eq_true
abbrev n9:=@wpAny_seqItems
abbrev sI:=@wpAny_onRaise
abbrev aT:=@Heap.lt_size
abbrev u0:=@codeAny_mono
abbrev oh:=@sizeLine_eq
abbrev oi:=@wpAny_field
abbrev u6:=@wpAny_letGo
abbrev af:=@wpAny_bind
abbrev eG:=@wpAny_mono
abbrev aQ:=@wpAny_pure
abbrev cK:=@piece_app
abbrev cN:=@segRun_of
abbrev k3:=@if_false
abbrev jP:=@or_false
abbrev c6:=@if_true
abbrev ab:=@if_neg
abbrev ae:=@if_pos
end
section
open PySem
abbrev wo:=Value->Shared->Prop
abbrev m2:=List (Addr×Obj)
abbrev qL:=Str->Option Value
abbrev v8:=List (Str×Addr)
abbrev AJ:=List (Nat×List Obj)
abbrev FI:=List (Str×Nat×Value)
abbrev TyJ:=List Value
abbrev gd:=List Nat
abbrev TyM:=List Stmt
abbrev jR:=List Str
abbrev oj:=List Addr
abbrev lj:=List Expr
abbrev Lg:=Option Value
abbrev xu:=Option Int
end
namespace L2
open PySem PySem.W PySem.Spec PyProof.Rows
abbrev Key:=Sum Int Str
noncomputable def Bm:Key->Value->Bool
 |.inl k,v=>Value.isInt k v
 |.inr x,v=>Value.isStrOf x v
noncomputable def YM(w:World):Key->Int
 |.inl k=>hashInt k
 |.inr x=>hashStr w x
theorem eW:∀{k:Key} {v:Value},Bm k v=true->(∃i t,k=Pv i/\v=Value.int i t)\/(∃x t,k=ln x/\v=Value.str x t)
 |.inl i,v,h=>by obtain⟨t,e⟩:=Value.isInt_shape (k:=i) (v:=v) h;exact .inl ⟨i,t,rfl,e⟩
 |.inr x,v,h=>by obtain⟨t,e⟩:=Value.isStrOf_shape (x:=x) (v:=v) h;exact .inr ⟨x,t,rfl,e⟩
def JP(i)(t:Tok):Bm (.inl i) (.int i t)=true:=by simp[Bm,Value.isInt]
def JQ(x)(t:Tok):Bm (.inr x) (.str x t)=true:=by simp[Bm,Value.isStrOf]
def RG(a b):decide ((Pv a:Key)=Pv b)=(a==b):=by by_cases e:a=b;subst e;simp;have h:¬(Pv a:Key)=Pv b:=λq=>e (_F q);rw[b9 h];exact(beq_eq_false_iff_ne.mpr e).symm
def RH(a b):decide ((ln a:Key)=ln b)=decide (a=b):=by by_cases e:a=b;subst e;simp;have h:¬(ln a:Key)=ln b:=λq=>e (Sum.inr.inj q);rw[b9 h,b9 e]
def RI(a)(b):decide ((Pv a:Key)=ln b)=false:=b9 (λq=>nomatch q)
def RJ(a)(b):decide ((ln a:Key)=Pv b)=false:=b9 (λq=>nomatch q)
def hH(prog:Program)(w:World):PySem.KeyKind prog w Key where
 is:=Bm
 hash:=YM w
 inj:=λv a b q o=>by
  rcases eW q with⟨i,t,rfl,rfl⟩|⟨x,t,rfl,rfl⟩
  ·rcases eW o with⟨j,u,rfl,e⟩|⟨y,u,rfl,e⟩
   ·injection e with e1 _;rw[e1]
   ·exact nomatch e
  ·rcases eW o with⟨j,u,rfl,e⟩|⟨y,u,rfl,e⟩
   ·exact nomatch e
   ·injection e with e1 _;rw[e1]
 byValue:=λk v h=>by rcases eW h with⟨i,t,rfl,rfl⟩|⟨x,t,rfl,rfl⟩<;>rfl
 pyHash:=λc h=>by
  rcases eW c with⟨i,t,rfl,rfl⟩|⟨x,t,rfl,rfl⟩
  ·exact wpAny_pyHash_int h
  ·exact wpAny_pyHash_str h
 eqBool:=λr c h=>by
  rcases eW r with⟨i,t,rfl,rfl⟩|⟨x,t,rfl,rfl⟩
  ·rcases eW c with⟨j,u,rfl,rfl⟩|⟨y,u,rfl,rfl⟩
   ·rw[RG]at h;exact wpAny_eqBool_int h
   ·rw[RI]at h;exact SeqAt.EqAt.int_str i t y u _ _ _ _ h
  ·rcases eW c with⟨j,u,rfl,rfl⟩|⟨y,u,rfl,rfl⟩
   ·rw[RJ]at h;exact SeqAt.EqAt.str_int x t j u _ _ _ _ h
   ·rw[RH]at h;exact wpAny_eqBool_str h
 «strs»:=λk x t v h=>by
  rcases eW h with⟨i,u,rfl,e⟩|⟨y,u,rfl,e⟩
  ·exact nomatch e
  ·injection e with e1 _;subst e1;cases v<;>rfl
def xw(prog)(w)(i)(t:Tok):(hH prog w).is (.inl i) (.int i t)=true:=JP i t
def DM(prog)(w)(x)(t:Tok):(hH prog w).is (.inr x) (.str x t)=true:=JQ x t
inductive V where
 |cw|bl (b:Bool)|int (i:Int)|str (x:Str)|F2 (b:Array UInt8)|Vv (b:UInt64)|ref (a:Addr)|ty (n:String)
 deriving DecidableEq
def RelV:V->Value->Prop
 |.cw,u=>u=Value.none
 |.bl b,u=>u=Value.bool b
 |.int i,u=>∃t,u=Value.int i t
 |.str x,u=>∃t,u=Value.str x t
 |.F2 b,u=>∃t,u=Value.bytes b t
 |.Vv b,u=>∃t,u=Value.float b t
 |.ref a,u=>u=Value.ref a
 |.ty n,u=>u=Value.type n
abbrev Vals:List V->TyJ->Prop:=Paired RelV
def Vals.length(r:Vals xs us):xs.length=us.length:=Paired.length r
theorem Vals.get:∀{xs:List V} {us:TyJ} {i:Nat} {x:V},Vals xs us->xs[i]?=some x->∃u,us[i]?=some u/\RelV x u
 |_,_,_,_,.nil,e=>by simp at e
 |_,_,0,_,.cons r _,e=>by simp at e;subst e;exact⟨_,rfl,r⟩
 |_,_,i+1,x,.cons _ t,e=>by obtain⟨u,c,h⟩:=Vals.get (i:=i) (x:=x) t (by simpa using e);exact⟨u,by simpa using c,h⟩
theorem Vals.set(r:RelV x u):∀{xs:List V} {us:TyJ} (i),Vals xs us->Vals (xs.set i x) (us.set i u)
 |_,_,_,.nil=>.nil
 |_,_,0,.cons _ t=>.cons r t
 |_,_,i+1,.cons q t=>.cons q (Vals.set r i t)
theorem Vals.append:∀{xs c:List V} {us ws:TyJ},Vals xs us->Vals c ws->Vals (xs++c) (us++ws)
 |_,_,_,_,.nil,s=>s
 |_,_,_,_,.cons r t,s=>.cons r (Vals.append t s)
theorem Vals.take:∀{xs:List V} {us:TyJ} (n),Vals xs us->Vals (xs.take n) (us.take n)
 |_,_,0,_=>.nil
 |_,_,_+1,.nil=>.nil
 |_,_,n+1,.cons r t=>.cons r (Vals.take n t)
theorem Vals.drop:∀{xs:List V} {us:TyJ} (n),Vals xs us->Vals (xs.drop n) (us.drop n)
 |_,_,0,r=>r
 |_,_,_+1,.nil=>.nil
 |_,_,n+1,.cons _ t=>Vals.drop n t
def xH:Option V->Lg->Prop
 |some v,some u=>RelV v u
 |none,none=>True
 |_,_=>False
def KV{c:Type}:List (c×V)->List (c×Value)->Prop:=Paired λ(p:c×V) (q:c×Value)=>p.1=q.1/\RelV p.2 q.2
noncomputable def kV:Key->V
 |.inl i=>.int i
 |.inr x=>.str x
inductive HO where
 |lst (xs:List V)
 |tup (xs:List V)
 |dK (kvs:List (Key×V))|dT (kvs:List (List Key×V))
 |set (S:Int->Bool) (n:Nat)
 |ins (C dx:Addr) (fs:List (Str×V))
 |own (x:Addr)
 |xd (fs:List (Str×V))
 |met (f x:Addr)
 |Ow (lo hi:Int)
 |pj (o:Obj) (u:HO)
 |uW (ps:Array Value)
 |ext (φ:Heap->Prop)
abbrev Hp:=Addr->Option HO
noncomputable def upd(H:Hp)(a:Addr)(o:HO):Hp:=λb=>if b=a then some o else H b
def aC:upd H a o a=some o:=by unfold upd;rw[ae rfl]
def ao(h:b≠a):upd H a o b=H b:=by unfold upd;rw[ab h]
def aE{H:Hp}{a b:Addr}{o:HO}(h:H a=some o)(h':H b=none):a≠b:=by intro e;subst e;rw[h]at h';cases h'
section
variable (P:Program) (w:World)
def gF(H:Hp)(h:Heap)(a:Addr):HO->Prop
 |.lst xs=>xs.length<=sizeLine/\∃(c:TyJ) (n:Nat),Vals xs c/\h.get? a=some {cls:=.type "list",data:=.seq c.toArray n}
 |.tup xs=>xs.length<=sizeLine/\∃c:TyJ,Vals xs c/\IsTup h a c.toArray
 |.dK kvs=>kvs.length<=sizeLine/\(a==sysModules)=false/\∃vs,KV kvs vs/\h.DictOf (hH P w) a vs
 |.dT kvs=>kvs.length<=sizeLine/\(a==sysModules)=false/\∃xs:List (List Key×Addr×Value),
   Paired (λ(p:List Key×V) (q:List Key×Addr×Value)=>p.1=q.1/\H q.2.1=some (.tup (p.1.map kV))/\RelV p.2 q.2.2) kvs xs/\
   ∃o r B,h.get? a=some o/\o.ExactDict/\o.data=.dict r B/\r.toList=xs.map (entryOfKey (tupleKind (hH P w)))/\(xs.map (·.1)).Nodup
 |.set S n=>h.SetOf (intKind P w) a S n
 |.ins C dx fs=>H dx=some (.own a)/\fs.length<=1000/\dx≠a/\h.get? a=some (instObj C dx)/\
   ∃j,h.Ns1 dx j/\(∀f,xH (fs.lookup f) (j f))/\PySem.Within j (fs.map (·.1))
 |.own _=>∃o,h.get? a=some o
 |.xd fs=>∃j,h.Ns1 a j/\∀f,xH (fs.lookup f) (j f)
 |.Ow lo hi=>∃t u v,h.get? a=some {cls:=.type "range",data:=.fields #[.int lo t,.int hi u,.int 1 v]}
 |.pj o u=>h.get? a=some o/\gF H h a u
 |.uW ps=>h.get? a=some {cls:=.none,data:=.fields ps}
 |.met f x=>h.get? a=some (methodObj (.ref f) (.ref x))
 |.ext φ=>φ h/\(∃o,h.get? a=some o)/\∀s y:Heap,φ s->(∀o,s.get? a=some o->y.get? a=some o)->φ y
def xI(H:Hp)(h:Heap):Prop:=∀a o,H a=some o->gF P w H h a o
end
def gF.lt(x:gF P w H h a o):a<h.objs.size:=by
 cases o with
 |lst xs=>obtain⟨_,_,_,_,e⟩:=x;exact aT e
 |tup xs=>obtain⟨_,_,_,p⟩:=x;exact p.lt
 |dK c=>obtain⟨_,_,_,_,o,_,_,e,_⟩:=x;exact aT e
 |dT c=>obtain⟨_,_,_,_,o,_,_,e,_⟩:=x;exact aT e
 |set S n=>obtain⟨o,_,_,_,e,_⟩:=x;exact aT e
 |ins C j fs=>obtain⟨_,_,_,e,_⟩:=x;exact aT e
 |own y=>obtain⟨_,e⟩:=x;exact aT e
 |xd fs=>obtain⟨_,⟨_,_,_,e,_⟩,_⟩:=x;exact aT e
 |Ow q r=>obtain⟨_,_,_,e⟩:=x;exact aT e
 |pj s u=>obtain⟨e,_⟩:=x;exact aT e
 |uW ps=>exact aT (show h.get? a=some _ from x)
 |met f y=>exact aT (show h.get? a=some _ from x)
 |ext B=>obtain⟨_,⟨_,e⟩,_⟩:=x;exact aT e
theorem Paired.RK:∀{l₁:List α} {l₂:List β},Paired F l₁ l₂->(∀a b,F a b->G a b)->Paired G l₁ l₂
 |_,_,.nil,_=>.nil
 |_,_,.cons r t,f=>.cons (f _ _ r) (Paired.RK t f)
def gF.Ce(x:gF P w H h a o)(k:∀b u,(b=a\/H b=some (.own a))->h.get? b=some u->h'.get? b=some u) (Q:∀b,H b=some (.own a)->M b=some (.own a))(U:∀b xs,H b=some (.tup xs)->M b=some (.tup xs)):gF P w M h' a o:=by
 induction o with
 |lst xs=>obtain⟨z,E,n,r,e⟩:=x;exact⟨z,E,n,r,k _ _ (.inl rfl) e⟩
 |tup xs=>obtain⟨z,E,r,j,e,c⟩:=x;exact⟨z,E,r,j,k _ _ (.inl rfl) e,c⟩
 |dK G=>obtain⟨z,y,vs,r,j,s,B,e,c⟩:=x;exact⟨z,y,vs,r,j,s,B,k _ _ (.inl rfl) e,c⟩
 |dT G=>
  obtain⟨z,y,xs,r,j,s,B,e,c⟩:=x;exact⟨z,y,xs,Paired.RK r λp q z=>⟨z.1,U _ _ z.2.1,z.2.2⟩,j,s,B,k _ _ (.inl rfl) e,c⟩
 |set S n=>obtain⟨j,s,B,t,e,c⟩:=x;exact⟨j,s,B,t,k _ _ (.inl rfl) e,c⟩
 |ins C T fs=>
  obtain⟨d,z,X,e,J,⟨L,s,B,Y,c⟩,r⟩:=x;exact⟨Q _ d,z,X,k _ _ (.inl rfl) e,J,⟨L,s,B,k _ _ (.inr d) Y,c⟩,r⟩
 |own y=>obtain⟨j,e⟩:=x;exact⟨j,k _ _ (.inl rfl) e⟩
 |xd fs=>obtain⟨J,⟨L,s,B,e,c⟩,r⟩:=x;exact⟨J,⟨L,s,B,k _ _ (.inl rfl) e,c⟩,r⟩
 |Ow F D=>obtain⟨t,u,v,e⟩:=x;exact⟨t,u,v,k _ _ (.inl rfl) e⟩
 |pj j u Z=>obtain⟨e,q⟩:=x;exact⟨k _ _ (.inl rfl) e,Z q⟩
 |uW ps=>
  have e:h.get? a=some {cls:=.none,data:=.fields ps}:=x;exact k a _ (.inl rfl) e
 |met f y=>
  have e:h.get? a=some (methodObj (.ref f) (.ref y)):=x;exact k a _ (.inl rfl) e
 |ext V=>obtain⟨p,⟨o,e⟩,O⟩:=x;exact⟨O _ _ p λo q=>k _ _ (.inl rfl) q,⟨o,k _ _ (.inl rfl) e⟩,O⟩
def xI.lt(x:xI P w H h)(e:H a=some o):a<h.objs.size:=(x a o e).lt
def xI.fresh(x:xI P w H h)(e:h.objs.size<=a):H a=none:=by
 cases q:H a with
 |none=>rfl
 |some u=>exact absurd (bw (x.lt q) e) (mB _)
def xI.kept(x:xI P w H h)(k:∀b u,h.get? b=some u->h'.get? b=some u):xI P w H h':=λa o e=>
 (x a o e).Ce (λb u _ q=>k b u q) (λ_ q=>q) λ_ _ q=>q
def xI.laid(x:xI P w H h)(k:∀b u,h.get? b=some u->h'.get? b=some u)(y:h.objs.size<=a)(j:gF P w (upd H a o) h' a o):xI P w (upd H a o) h':=λb u e=>by have r:=x.fresh y;by_cases s:b=a;subst s;rw[aC]at e;cases e;exact j;rw[ao s]at e;exact(x b u e).Ce (λc v _ q=>k c v q) (λc q=>by rw[ao (aE q r)];exact q) λc xs q=>by rw[ao (aE q r)];exact q
def Rd(H:Hp)(a:Addr)(u:HO):Prop:=H a=some u\/∃o,H a=some (.pj o u)
def Rd.ok(r:Rd H a u)(x:xI P w H h):gF P w H h a u:=by rcases r with r|⟨o,r⟩;exact x a u r;obtain⟨_,q⟩:=x a _ r;exact q
def Yn:Option HO->Prop
 |some (.lst _)=>True
 |some (.dK _)=>True
 |some (.dT _)=>True
 |some (.set _ _)=>True
 |some (.ins _ _ _)=>True
 |some (.ext _)=>True
 |_=>False
def xI.write(Q:xI P w H h)(B:Yn (H x))(he:e=x\/H e=some (.own x))(k:∀b u,b≠e->h.get? b=some u->h'.get? b=some u)(J:∃u,h'.get? e=some u) (L:gF P w (upd H x M) h' x M):xI P w (upd H x M) h':=λb u q=>by
 have o:∀c y,H c=some (.own y)->c≠x:=λc y r z=>by subst z;rw[r]at B;exact B
 have s:∀c xs,H c=some (.tup xs)->c≠x:=λc xs r z=>by subst z;rw[r]at B;exact B
 by_cases E:b=x;subst E;rw[aC]at q;cases q;exact L;rw[ao E]at q;by_cases j:b=e;have O:H b=some (.own x):=by rcases he with z|z;exact absurd (j.trans z) E;rw[j];exact z
 rw[q]at O;cases O;obtain⟨v,U⟩:=J;exact⟨v,by rw[j];exact U⟩;refine(Q b u q).Ce (λc v G r=>k c v ?_ r) (λc r=>by rw[ao (o c b r)];exact r) λc xs r=>by rw[ao (s c xs r)];exact r
 rcases G with rfl|G;exact j;rintro rfl;rcases he with z|z;exact o c b G z;rw[G]at z;cases z;exact E rfl
structure Un(fs ex:oj)(H H':Hp)(h h':Heap):Prop where
 keep:∀b o,h.get? b=some o->H b=none->b∉fs->b∉ex->h'.get? b=some o
 slot:∀b o,h.get? b=some o->H b=none->b∈fs->b∉ex->∃sl,h'.get? b=some {o with slots:=sl}
 free:∀b o,h.get? b=some o->H b=none->b∉ex->H' b=none
 there:∀b o,h.get? b=some o->b∉ex->∃o',h'.get? b=some o'
 wq:∀b xs,H b=some (.tup xs)->H' b=some (.tup xs)
 sY:∀b o u,H b=some (.pj o u)->H' b=some (.pj o u)
 u7:∀b ps,H b=some (.uW ps)->∃more,H' b=some (.uW (ps++more))
def Un.any(u:Un fs ex H H1 h o)(q:h.get? b=some ob)(n:H b=none)(c:b∉ex):∃r,o.get? b=some {ob with slots:=r}:=by by_cases j:b∈fs;exact u.slot b ob q n j c;exact⟨ob.slots,u.keep b ob q n j c⟩
def Un.trans(a:Un fs ex H H1 h E)(b:Un fs ex H1 G E J):Un fs ex H G h J where
 keep:=λc j q n s o=>b.keep c j (a.keep c j q n s o) (a.free c j q n o) s o
 slot:=λc j q n s o=>by obtain⟨O,r⟩:=a.slot c j q n s o;obtain⟨u,y⟩:=b.slot c _ r (a.free c j q n o) s o;exact⟨u,y⟩
 free:=λc j q n o=>by obtain⟨B,r⟩:=a.there c j q o;exact b.free c B r (a.free c j q n o) o
 there:=λc j q o=>by obtain⟨B,r⟩:=a.there c j q o;exact b.there c B r o
 wq:=λc xs q=>b.wq c xs (a.wq c xs q)
 sY:=λc j xs q=>b.sY c j xs (a.sY c j xs q)
 u7:=λc ps q=>by obtain⟨L,r⟩:=a.u7 c ps q;obtain⟨M,y⟩:=b.u7 c _ r;exact⟨L++M,by rw[y,sK]⟩
def Un.kept(k:∀b u,h.get? b=some u->h'.get? b=some u):Un fs ex H H h h':=⟨λb c q _ _ _=>k b c q,λb c q _ _ _=>⟨c.slots,k b c q⟩,λ_ _ _ n _=>n,λb c q _=>⟨c,k b c q⟩,λ_ _ q=>q,λ_ _ _ q=>q,λ_ ps q=>⟨#[],by rw[q];simp⟩⟩
def Un.refl:Un fs ex H H h h:=Un.kept λ_ _ q=>q
def Un.laid(k:∀b u,h.get? b=some u->h'.get? b=some u)(j:h.objs.size<=a)(c:H a=none):Un fs ex H (upd H a o) h h' where
 keep:=λb u q _ _ _=>k b u q
 slot:=λb u q _ _ _=>⟨u.slots,k b u q⟩
 free:=λb u q n _=>by rw[ao (cV (bw (aT q) j))];exact n
 there:=λb u q _=>⟨u,k b u q⟩
 wq:=λb xs q=>by rw[ao (aE q c)];exact q
 sY:=λb u xs q=>by rw[ao (aE q c)];exact q
 u7:=λb ps q=>⟨#[],by rw[ao (aE q c),q];simp⟩
def Un.write(j:Yn (H x))(he:e=x\/H e=some (.own x))(k:∀b u,b≠e->h.get? b=some u->h'.get? b=some u)(s:∃u,h'.get? e=some u):Un fs ex H (upd H x o) h h':=by
 have B:∀b,H b=none->b≠x:=λb n z=>by subst z;rw[n]at j;exact j
 have E:∀b,H b=none->b≠e:=λb n z=>by subst z;rcases he with r|r;exact B b n r;rw[n]at r;cases r
 have y:∀b u,H b=some u→¬Yn (some u)->b≠x:=λb u q G z=>by subst z;rw[q]at j;exact G j
 refine⟨λb u q n _ _=>k b u (E b n) q,λb u q n _ _=>⟨u.slots,k b u (E b n) q⟩,λb u q n _=>by rw[ao (B b n)];exact n,λb u q _=> ?_,
  λb xs q=>by rw[ao (y b _ q λz=>z)];exact q,λb u xs q=>by rw[ao (y b _ q λz=>z)];exact q,λb ps q=>⟨#[],by rw[ao (y b _ q λz=>z),q];simp⟩⟩
 by_cases c:b=e;subst c;exact s;exact⟨u,k b u c q⟩
def Un.mono(u:Un fs ex H H1 h s)(y:∀b∈fs,b∈o)(j:∀b∈ex,b∈r):Un o r H H1 h s:=⟨λb c q n B he=>u.keep b c q n (λz=>B (y b z)) λz=>he (j b z),λ_ _ q n _ he=>u.any q n λz=>he (j _ z),λb c q n he=>u.free b c q n λz=>he (j b z),λb c q he=>u.there b c q λz=>he (j b z),u.wq,u.sY,u.u7⟩
noncomputable def Yo(h:Heap)(H:Hp):oj:=(AC h.objs.size).filter λa=>(H a).isSome
def DN(h:Heap)(H:Hp):Heap:=hideAll h (Yo h H)
def JR(h)(H):(DN h H).objs.size=h.objs.size:=hideAll_size _ _
def DO(e:h.get? b=some o)(n:H b=none):(DN h H).get? b=some o:=hideAll_get _ e λc=>by have q:(H b).isSome=true:=(sE.mp c).2;rw[n]at q;simp at q
def Ox(e:(DN h H).get? b=some o):h.get? b=some o/\H b=none:=by
 have e':h.get? b=some o:=of_hideAll (Yo h H) e;refine⟨e',?_⟩;cases q:H b with
 |none=>rfl
 |some x=>
  have c:b∈Yo h H:=sE.mpr ⟨dw.mpr (aT e'),by simp[q]⟩;have z:(DN h H).get? b=none:=hideAll_none (Yo h H) c;rw[z]at e;cases e
noncomputable def Oy(g h:Heap)(L:Addr):m2:=(AC h.objs.size).filterMap λa=>if a=L\/(g.get? a).isSome=true then none else(h.get? a).map λo=>(a,o)
def rest(g h:Heap)(L d:Addr):m2:=(Oy g h L).filter λp=>decide (p.1≠d)
structure Mod(K:Frag)(mg:qL)(base:Heap):Prop where
 RL:K.In base
 glob:base.Ns mainGlobals mg
 blt:∃mb,base.Ns builtinsNs mb/\∀x:Str,x≠"__name__"→mb x=bootBuiltins x
 nolimit:base.NoLimit
structure Cx where
 prog:Program
 w:World
 K:Frag
 mg:qL
 base:Heap
 A:Around
 N:jR
 Cf:Shared
 Vh:Hp
 env:Env
 outer:List Env
 stack:List Env
 ex:oj
 fn:Str->Bool
 calm:Bool
 pn:m2
 xe:wo
 fz:Str->Bool:=λ_=>false
noncomputable def Lm(l:List Env):oj:=l.filterMap (·.frame)
abbrev Cx.fs(X:Cx):oj:=Lm X.outer
def DP(c:Scope)(x:Str):Prop:=c.names.lookup x=some .local\/c.names.lookup x=some .cell\/c.names.lookup x=some .free
def Loc(c:Scope)(x:Str):Prop:=c.names.lookup x=some .local\/c.names.lookup x=some .cell
def Look(env:Env)(h:Heap)(m:qL)(x:Str)(u:Value):Prop:=(env.kindOf x=some .local/\m x=some u)\/((env.kindOf x=some .cell\/env.kindOf x=some .free)/\∃c,env.cells.lookup x=some c/\h.IsCell c (some u))
structure Cx.Ok(X:Cx):Prop where
 mod:Mod X.K X.mg X.base
 kind:X.env.scope.kind=.function
 glob:X.env.globals=mainGlobals
 blt:X.env.builtins=builtinsNs
 above:X.Cf.heap.objs.size<=X.env.locals
 inj:∀x y c,X.env.cells.lookup x=some c->X.env.cells.lookup y=some c->x=y
 has:∀x,(X.env.kindOf x=some .cell\/X.env.kindOf x=some .free)->∃c,X.env.cells.lookup x=some c
 RM:∀x c,X.fn x=true->X.env.cells.lookup x=some c->X.Cf.heap.objs.size<=c
 hd:X.calm=true->X.A.handled=none
 frames:X.A.frames=some X.stack
 Vw:X.stack=X.outer\/(X.stack=X.env::X.outer/\X.env.frame=some X.env.locals)
 Vx:∀b∈X.ex,b≠X.env.locals/\∀x c,X.env.cells.lookup x=some c->c≠b
 bs:∀b o,X.base.get? b=some o->X.Cf.heap.get? b=some o/\X.Vh b=none
 Ln:X.base.objs.size<=X.Cf.heap.objs.size
 JS:∀b o,X.base.get? b=some o->b∉X.ex
 JT:∀b∈X.ex,b∉X.fs
 u9:X.Cf.heap.FunFrames X.base X.outer
 Oz:∀b∈X.fs,X.Vh b=none
structure Inv(X:Cx)(pins:m2)(σ:List (Option V))(H:Hp)(s:Shared):Prop where
 ok:X.Ok
 os:s.os=X.Cf.os
 bare:AllBare s.gens
 base:Un X.fs X.ex X.Vh H X.Cf.heap s.heap
 loc:∃m,s.heap.Ns X.env.locals m/\∀(i:Nat) (x:Str) (v:V),X.N[i]?=some x->σ[i]?=some (some v)->DP X.env.scope x->∃u,RelV v u/\Look X.env s.heap m x u
 cell:∀x c,X.env.cells.lookup x=some c->∃v,s.heap.IsCell c v
 free:H X.env.locals=none
 pq:∀x c,X.env.cells.lookup x=some c->H c=none\/(X.fz x=true/\∃o u,H c=some (.pj o u))
 pin:∀p∈X.pn++pins,s.heap.get? p.1=some p.2/\H p.1=none/\p.1≠X.env.locals/\p.1∉X.fs/\∀v,p.2.data≠.cell v
 fK:xI X.prog X.w H s.heap
 len:σ.length=X.N.length
section
variable {X:Cx} {pins:m2} {σ:List (Option V)} {H H':Hp} {s:Shared}
def Cx.Ok.YN(c:X.Ok)(e:X.base.get? b=some o):b∉X.fs:=λh=>by have:=(c.u9.mem h).1;rw[e]at this;cases this
def Inv.bs(I:Inv X pins σ H s):∀b o,X.base.get? b=some o->s.heap.get? b=some o/\H b=none:=λb o e=>
 ⟨I.base.keep b o (I.ok.bs b o e).1 (I.ok.bs b o e).2 (I.ok.YN e) (I.ok.JS b o e),I.base.free b o (I.ok.bs b o e).1 (I.ok.bs b o e).2 (I.ok.JS b o e)⟩
def Inv.bk(I:Inv X pins σ H s):∀b o,X.base.get? b=some o->s.heap.get? b=some o:=λb o e=>(I.bs b o e).1
def Inv.mod(I:Inv X pins σ H s):Mod X.K X.mg X.base:=I.ok.mod
def Inv.Cg(I:Inv X pins σ H s):X.K.In s.heap:=I.ok.mod.RL.keeps I.bk
def Inv.nolimit(I:Inv X pins σ H s):s.heap.NoLimit:=I.ok.mod.nolimit.keeps I.bk
def Inv.lt(I:Inv X pins σ H s):X.env.locals<s.heap.objs.size:=let ⟨_,hn,_⟩:=I.loc;hn.lt
def Inv.sz(I:Inv X pins σ H s):X.Cf.heap.objs.size<=s.heap.objs.size:=eF I.ok.above (hF I.lt)
def Inv.YO(I:Inv X pins σ H s)(h:s.heap.objs.size<=a):a∉X.fs:=λc=>by obtain⟨_,o,j,_⟩:=I.ok.u9.mem c;exact absurd (bw (aT j) (eF I.sz h)) (mB _)
def Inv.Q2(I:Inv X pins σ H s):∀x c,X.env.cells.lookup x=some c->c≠X.env.locals:=λx c e z=>by obtain⟨v,o,q,r⟩:=I.cell x c e;obtain⟨m,⟨u,y,B,h,j,_⟩,_⟩:=I.loc;rw[z,h]at q;cases q;rw[j]at r;cases r
def Inv.u9(I:Inv X pins σ H s):s.heap.FunFrames X.base X.outer:=by
 have all:∀l,(∀b∈Lm l,b∈X.fs)->X.Cf.heap.FunFrames X.base l->s.heap.FunFrames X.base l:=by
  intro l;induction l with
  |nil=>intro _ _;trivial
  |cons env r ih=>
   intro hs hl;obtain⟨hk,⟨L,o,hf,hn,ho,hd⟩,hr⟩:=hl;have hL:L∈X.fs:=hs L (by unfold Lm;rw[wc,hf];exact kz);obtain⟨sl,e⟩:=I.base.slot L o ho (I.ok.Oz L hL) hL λz=>I.ok.JT L z hL;exact⟨hk,⟨L,_,hf,hn,e,hd⟩,ih (λb hb=>hs b (by unfold Lm;rw[wc,hf];exact d7 _ hb)) hr⟩
 exact all X.outer (λ_ hb=>hb) I.ok.u9
def Inv.stack(I:Inv X pins σ H s):s.heap.FunFrames X.base X.stack:=by rcases I.ok.Vw with e|⟨e,c⟩;rw[e];exact I.u9;rw[e];obtain⟨m,h,_⟩:=I.loc;refine .cons (by rw[I.ok.kind];decide) c h ?_ I.u9;exact Heap.get?_none_of_le (eF I.ok.Ln I.ok.above)
def Inv.F3(I:Inv X pins σ H s):∀b∈Lm X.stack,b∈X.env.locals::X.fs:=λb hb=>by rcases I.ok.Vw with e|⟨e,hf⟩;rw[e]at hb;exact d7 _ hb;rw[e]at hb;unfold Lm at hb;rw[wc,hf]at hb;exact hb
def Inv.HA(I:Inv X pins σ H s):∀b∈Lm X.stack,H b=none:=λb hb=>by rcases aA.mp (I.F3 b hb)with e|hb;rw[e];exact I.free;obtain⟨_,o,ho,_⟩:=I.ok.u9.mem hb;exact I.base.free b o ho (I.ok.Oz b hb) λz=>I.ok.JT b z hb
def Inv.step{g':Array GenState}{t':Nat}{d':Drawn}{ch:oj}(I:Inv X pins σ H s) (j:∀b∈ch,(b∈X.ex\/X.Cf.heap.objs.size<=b)/\b≠X.env.locals/\(∀x c,X.env.cells.lookup x=some c->c≠b)/\∀p∈X.pn++pins,p.1≠b) (keep:∀b o,b≠X.env.locals->b∉X.fs->b∉ch->s.heap.get? b=some o->H b=none->h'.get? b=some o) (slot:∀b o,b≠X.env.locals->b∈X.fs->b∉ch->s.heap.get? b=some o->H b=none->∃Y,h'.get? b=some {o with slots:=Y})(free:∀b o,b∉ch->s.heap.get? b=some o->H b=none->H' b=none) (there:∀b o,b∉ch->s.heap.get? b=some o->∃E,h'.get? b=some E) (wq:∀b xs,H b=some (.tup xs)->H' b=some (.tup xs))(sY:∀b o u,H b=some (.pj o u)->H' b=some (.pj o u))(u7:∀b ps,H b=some (.uW ps)->∃O,H' b=some (.uW (ps++O))) (ns:∀m,s.heap.Ns X.env.locals m->h'.Ns X.env.locals m)(fK:xI X.prog X.w H' h')(S:AllBare g'):Inv X pins σ H' {s with heap:=h',gens:=g',drawn:=d',toks:=t'}:=by
 have P:∀b o,X.Cf.heap.get? b=some o->b≠X.env.locals:=λb o e=>cV (bw (aT e) I.ok.above);have G:∀b o,X.Cf.heap.get? b=some o->b∉X.ex->b∉ch:=λb o e h L=>by rcases(j b L).1 with z|z;exact h z;exact absurd (bw (aT e) z) (mB _)
 have y:∀x c,X.env.cells.lookup x=some c->∀v,s.heap.IsCell c v->h'.IsCell c v:=λx c e v Z=>by obtain⟨o,M,U⟩:=Z;have B:c∉ch:=λz=>(j c z).2.2.1 x c e rfl;rcases I.pq x c e with n|⟨_,E,u,q⟩;by_cases C:c∈X.fs;obtain⟨Y,q⟩:=slot c o (I.Q2 x c e) C B M n;exact⟨_,q,U⟩;exact⟨o,keep c o (I.Q2 x c e) C B M n,U⟩;have F:=(I.fK c _ q).1;rw[M]at F;cases F;exact⟨o,(fK c _ (sY c _ u q)).1,U⟩
 refine⟨I.ok,I.os,S,⟨λb o e n L h=> ?_,λb o e n L h=> ?_,λb o e n h=> ?_,λb o e h=> ?_,λb xs e=>wq b xs (I.base.wq b xs e),λb o xs e=>sY b o xs (I.base.sY b o xs e),λb ps e=> ?_⟩,?_,λx c e=> ?_,?_,λx c e=> ?_,λp D=> ?_,fK,I.len⟩;exact keep b o (P b o e) L (G b o e h) (I.base.keep b o e n L h) (I.base.free b o e n h);obtain⟨Y,J⟩:=I.base.slot b o e n L h;obtain⟨T,Q⟩:=slot b _ (P b o e) L (G b o e h) J (I.base.free b o e n h);exact⟨T,Q⟩;obtain⟨E,J⟩:=I.base.there b o e h;exact free b E (G b o e h) J (I.base.free b o e n h);obtain⟨E,J⟩:=I.base.there b o e h;exact there b E (G b o e h) J;obtain⟨A,J⟩:=I.base.u7 b ps e;obtain⟨K,Q⟩:=u7 b _ J;exact⟨A++K,by rw[Q,sK]⟩;obtain⟨m,N,W⟩:=I.loc;refine⟨m,ns m N,λi x v J Q a=> ?_⟩;obtain⟨u,r,l⟩:=W i x v J Q a;refine⟨u,r,?_⟩;rcases l with l|⟨k,c,e,z⟩;exact .inl l;exact .inr ⟨k,c,e,y x c e _ z⟩;obtain⟨v,z⟩:=I.cell x c e;exact⟨v,y x c e v z⟩;obtain⟨m,⟨o,_,_,M,_⟩,_⟩:=I.loc;exact free _ o (λz=>(j _ z).2.1 rfl) M I.free;obtain⟨v,o,M,U⟩:=I.cell x c e;rcases I.pq x c e with n|⟨z,E,u,q⟩;exact .inl (free c o (λz=>(j c z).2.2.1 x c e rfl) M n);exact .inr ⟨z,E,u,sY c E u q⟩;obtain⟨e,n,V,R,d⟩:=I.pin p D;have B:p.1∉ch:=λz=>(j p.1 z).2.2.2 p D rfl;exact⟨keep p.1 p.2 V R B e n,free p.1 p.2 B e n,V,R,d⟩
def Inv.un{t':Nat}(I:Inv X pins σ H s)(u:Un X.fs [] H H' s.heap h')(h:xI X.prog X.w H' h'):Inv X pins σ H' {s with heap:=h',toks:=t'}:=by obtain⟨m,⟨o,L,M,B,r⟩,_⟩:=id I.loc;obtain⟨O,E⟩:=u.any B I.free (by simp);exact I.step (g':=s.gens) (d':=s.drawn) (ch:=[]) (λ_ z=>nomatch z) (λb o _ j _ e n=>u.keep b o e n j (by simp)) (λb o _ j _ e n=>u.slot b o e n j (by simp)) (λb o _ e n=>u.free b o e n (by simp)) (λb o _ e=>u.there b o e (by simp)) u.wq u.sY u.u7 (λP G=>by obtain⟨Q,q,y,c,J⟩:=G;rw[B]at c;cases c;exact⟨_,q,y,E,J⟩) h I.bare
def Inv.call{g':Array GenState}{t':Nat}{d':Drawn}{ch:oj}(I:Inv X pins σ H s)(u:Un (Lm X.stack) ch H H' s.heap h')(y:xI X.prog X.w H' h')(L:AllBare g') (j:∀b∈ch,(b∈X.ex\/X.Cf.heap.objs.size<=b)/\b≠X.env.locals/\(∀x c,X.env.cells.lookup x=some c->c≠b)/\∀p∈X.pn++pins,p.1≠b):Inv X pins σ H' {s with heap:=h',gens:=g',drawn:=d',toks:=t'}:=by obtain⟨m,⟨o,Q,U,J,r⟩,_⟩:=id I.loc;obtain⟨Y,B⟩:=u.any J I.free λz=>(j _ z).2.1 rfl;exact I.step (ch:=ch) j (λb o B M h e n=>u.keep b o e n (λz=>(aA.mp (I.F3 b z)).elim B M) h) (λb o _ _ h e n=>u.any e n h) (λb o h e n=>u.free b o e n h) (λb o h e=>u.there b o e h) u.wq u.sY u.u7 (λZ O=>by obtain⟨T,E,G,q,P⟩:=O;rw[J]at q;cases q;exact⟨_,E,G,B,P⟩) y L
def Inv.turned{t':Nat}{h:Addr}(I:Inv X pins σ H s)(k:∀b o,b≠h->s.heap.get? b=some o->h'.get? b=some o)(E:H h=none)(B:h≠X.env.locals) (G:h∈X.ex\/X.Cf.heap.objs.size<=h)(J:∀x c,X.env.cells.lookup x=some c->c≠h)(L:∀p∈X.pn++pins,p.1≠h):Inv X pins σ H {s with heap:=h',toks:=t'}:=by
 have y:∀b u,H b=some u->b≠h:=λb u e z=>by rw[z,E]at e;cases e
 refine I.step (g':=s.gens) (d':=s.drawn) (ch:=[h]) (λb M=> ?_) (λb o _ _ j e _=>k b o (λz=>j (by simp[z])) e) (λb o _ _ j e _=>⟨o.slots,k b o (λz=>j (by simp[z])) e⟩) (λ_ _ _ _ n=>n)
  (λb o j e=>⟨o,k b o (λz=>j (by simp[z])) e⟩) (λ_ _ e=>e) (λ_ _ _ e=>e) (λb ps e=>⟨#[],by rw[e];simp⟩) (λm O=> ?_) (λb u e=> ?_) I.bare
 have e:b=h:=by simpa using M
 subst e;exact⟨G,B,J,L⟩;obtain⟨o,P,Q,U,r⟩:=O;exact⟨o,P,Q,k _ o (jQ B) U,r⟩;refine(I.fK b u e).Ce (λc v j q=>k c v ?_ q) (λ_ q=>q) λ_ _ q=>q;rcases j with z|z;rw[z];exact y b u e;exact y c _ z
def Inv.tok(I:Inv X pins σ H s)(t):Inv X pins σ H {s with toks:=t}:=I.un (h':=s.heap) (t':=t) Un.refl I.fK
def Inv.kept(I:Inv X pins σ H s)(k:∀b u,s.heap.get? b=some u->h'.get? b=some u):Inv X pins σ H {s with heap:=h',toks:=t'}:=I.un (Un.kept k) (I.fK.kept k)
def Inv.laid(I:Inv X pins σ H s)(k:∀b u,s.heap.get? b=some u->h'.get? b=some u)(c:s.heap.objs.size<=a)(h:gF X.prog X.w (upd H a o) h' a o):Inv X pins σ (upd H a o) {s with heap:=h',toks:=t'}:=I.un (Un.laid k c (I.fK.fresh c)) (I.fK.laid k c h)
def Inv.write(I:Inv X pins σ H s)(j:Yn (H x))(he:e=x\/H e=some (.own x))(k:∀b u,b≠e->s.heap.get? b=some u->h'.get? b=some u)(c:∃u,h'.get? e=some u) (h:gF X.prog X.w (upd H x o) h' x o):Inv X pins σ (upd H x o) {s with heap:=h',toks:=t'}:=I.un (Un.write j he k c) (I.fK.write j he k c h)
def Inv.weak(I:Inv X pins σ H s)(c:σ'.length=σ.length)(w:∀(i:Nat) v,σ'[i]?=some (some v)->σ[i]?=some (some v)):Inv X pins σ' H s:=⟨I.ok,I.os,I.bare,I.base,let ⟨m,hn,hl'⟩:=I.loc;⟨m,hn,λi x v h j o=>hl' i x v h (w i v j) o⟩,I.cell,I.free,I.pq,I.pin,I.fK,c.trans I.len⟩
def Inv.HB(I:Inv X pins σ H s)(h:∀p∈c,s.heap.get? p.1=some p.2/\H p.1=none/\p.1≠X.env.locals/\p.1∉X.fs/\∀v,p.2.data≠.cell v):Inv X c σ H s:=⟨I.ok,I.os,I.bare,I.base,I.loc,I.cell,I.free,I.pq,λp j=>(List.mem_append.mp j).elim (λz=>I.pin p (o0 _ z)) (h p),I.fK,I.len⟩
def yW{N:jR}(c:N.Nodup){i j:Nat}{x:Str}(a:N[i]?=some x)(b:N[j]?=some x):i=j:=by obtain⟨q,h⟩:=ph.mp a;obtain⟨r,o⟩:=ph.mp b;exact(List.getElem_inj c).mp (h.trans o.symm)
noncomputable def Bn(I:Inv X pins σ H s)(hN:X.N.Nodup)(D:X.N[i]?=some x)(O:Loc X.env.scope x)(r:RelV v u) (h:∀s',Inv X pins (σ.set i (some v)) H s'->(∃a,Heap.SameBut a s.heap s'.heap/\(a=X.env.locals\/X.env.cells.lookup x=some a))->Q () s')(hf:(X.fn x=true/\X.fz x=false)\/X.env.scope.names.lookup x=some .local:=by first|exact .inl ⟨rfl,rfl⟩|exact .inr rfl|assumption):wpAny M A (storeName X.env x u) Q E s:=by
 obtain⟨m,t,hl⟩:=id I.loc;have V:(X.env.scope.kind==.class||(X.env.scope.kind==.module&&X.env.locals !=X.env.globals))=false:=by rw[I.ok.kind];rfl
 have Z:i<σ.length:=by rw[I.len];exact(ph.mp D).1
 have Q2:=I.Q2;have G:∀{a:Addr} {h':Heap},(∃o,s.heap.get? a=some o/\H a=none)->Heap.SameBut a s.heap h'->xI X.prog X.w H h':=λ{a h'} ha B b ob e=>by obtain⟨_,_,P⟩:=ha;refine(I.fK b ob e).Ce (λc f L q=>(B.2 c ?_).trans q) (λ_ q=>q) λ_ _ q=>q;rintro rfl;rcases L with rfl|L;rw[P]at e;cases e;rw[P]at L;cases L
 rcases O with T|T;refine wpAny_storeName_local T t (λh' za B=> ?_) V;obtain⟨oL,_,_,zb,_⟩:=id t;refine h _ ⟨I.ok,I.os,I.bare,⟨λb o e n C O=> ?_,λb o e n C O=> ?_,I.base.free,λb o e O=> ?_,I.base.wq,I.base.sY,I.base.u7⟩,⟨_,za,λj y v' J Y e3=> ?_⟩,λy c e=> ?_,I.free,I.pq,λp hp=> ?_,G ⟨oL,zb,I.free⟩ B,by simpa using I.len⟩ ⟨_,B,.inl rfl⟩;exact(B.2 b (cV (bw (aT e) I.ok.above))).trans (I.base.keep b o e n C O);obtain⟨sl,J⟩:=I.base.slot b o e n C O;exact⟨sl,(B.2 b (cV (bw (aT e) I.ok.above))).trans J⟩;obtain⟨o',J⟩:=I.base.there b o e O;exact⟨o',(B.2 b (cV (bw (aT e) I.ok.above))).trans J⟩;by_cases F:j=i;subst F;rw[D]at J;cases J;rw[pY Z]at Y;cases Y;exact⟨u,r,.inl ⟨T,by simp⟩⟩;rw[m1 (jQ F)]at Y;obtain⟨u',r',q⟩:=hl j y v' J Y e3;refine⟨u',r',?_⟩;rcases q with⟨k,e⟩|⟨k,c,e,z⟩;refine .inl ⟨k,?_⟩;have:y≠x:=λe=>F (yW hN J (e▸D));simp[this,e];exact .inr ⟨k,c,e,z.sameBut B (Q2 y c e)⟩;obtain⟨f,z⟩:=I.cell y c e;exact⟨f,z.sameBut B (Q2 y c e)⟩;obtain⟨e,n,g,nf,d⟩:=I.pin p hp;exact⟨(B.2 p.1 g).trans e,n,g,nf,d⟩;have U:X.fn x=true/\X.fz x=false:=by rcases hf with z|z;exact z;rw[z]at T;cases T
 obtain⟨U,zc⟩:=U;obtain⟨c,L⟩:=I.ok.has x (.inl T);obtain⟨f,z⟩:=I.cell x c L;have zd:H c=none:=by rcases I.pq x c L with n|⟨z,_⟩;exact n;rw[zc]at z;cases z
 refine wpAny_storeName_cell I.ok.kind T L z (λh' R B=> ?_);obtain⟨oc,S,K⟩:=id z;refine h {s with heap:=h'} ⟨I.ok,I.os,I.bare,⟨λb o e n C O=> ?_,λb o e n C O=> ?_,I.base.free,λb o e O=> ?_,I.base.wq,I.base.sY,I.base.u7⟩,⟨m,t.sameBut B (jQ (Q2 x c L)),λj y v' J Y e3=> ?_⟩,λy l e=> ?_,I.free,I.pq,λp hp=> ?_,G ⟨oc,S,zd⟩ B,by simpa using I.len⟩ ⟨c,B,.inr L⟩;exact(B.2 b (cV (bw (aT e) (I.ok.RM x c U L)))).trans (I.base.keep b o e n C O);obtain⟨sl,J⟩:=I.base.slot b o e n C O;exact⟨sl,(B.2 b (cV (bw (aT e) (I.ok.RM x c U L)))).trans J⟩;obtain⟨o',J⟩:=I.base.there b o e O;exact⟨o',(B.2 b (cV (bw (aT e) (I.ok.RM x c U L)))).trans J⟩;by_cases F:j=i;subst F;rw[D]at J;cases J;rw[pY Z]at Y;cases Y;exact⟨u,r,.inr ⟨.inl T,c,L,R⟩⟩;rw[m1 (jQ F)]at Y;obtain⟨u',r',q⟩:=hl j y v' J Y e3;refine⟨u',r',?_⟩;rcases q with q|⟨k,l,e,z'⟩;exact .inl q;refine .inr ⟨k,l,e,z'.sameBut B ?_⟩;rintro rfl;exact F (yW hN J (I.ok.inj _ _ _ e L▸D));by_cases W:l=c;subst W;exact⟨_,R⟩;obtain⟨w2,z2⟩:=I.cell y l e;exact⟨w2,z2.sameBut B W⟩;obtain⟨e,n,g,nf,d⟩:=I.pin p hp;refine⟨(B.2 p.1 ?_).trans e,n,g,nf,d⟩;intro q;rw[q,S]at e;have q':oc=p.2:=jN e;exact d f (by rw[<-q'];exact K)
def px(I:Inv X pins σ H s)(j:X.N.Nodup)(o:X.N[i]?=some x)(q:Loc X.env.scope x)(r:RelV v u) (h:∀c,Inv X pins (σ.set i (some v)) H c->Q () c)(y:(X.fn x=true/\X.fz x=false)\/X.env.scope.names.lookup x=some .local:=by first|exact .inl ⟨rfl,rfl⟩|exact .inr rfl|assumption):wpAny M A (storeName X.env x u) Q E s:=
 Bn I j o q r (λc B _=>h c B) y
def Inv.Vy(I:Inv X pins σ H s)(q:h.os=s.os)(u:Un (Lm X.stack) ch H H' s.heap h.heap)(j:xI X.prog X.w H' h.heap)(r:AllBare h.gens) (o:∀b∈ch,(b∈X.ex\/X.Cf.heap.objs.size<=b)/\b≠X.env.locals/\(∀x c,X.env.cells.lookup x=some c->c≠b)/\∀p∈X.pn++pins,p.1≠b):Inv X pins σ H' h:=by obtain⟨h',g',d',t',y⟩:=h;have e:y=s.os:=q;subst e;exact I.call (g':=g') (t':=t') (d':=d') u j r o
end
abbrev XK:=Value->Option Addr->Hp->Prop
abbrev St:=List (Option V)
abbrev VK:=V->Hp->Prop
abbrev TE:=St->Hp->VK->Prop
abbrev TT:=St->Hp->(Bool->Hp->Prop)->Prop
abbrev TA:=St->Hp->(List V->Hp->Prop)->Prop
structure Ends where
 nx:St->Hp->Prop
 rt:VK
 bk:St->Hp->Prop:=λ_ _=>False
 ct:St->Hp->Prop:=λ_ _=>False
abbrev TS:=Ends->St->Hp->Prop
inductive EP(X:Cx)(pins:m2)(σ:St)(Q:VK)(u:Value)(s':Shared):Prop
 |mk (v:V) (H':Hp) (I:Inv X pins σ H' s') (r:RelV v u) (q:Q v H'):EP X pins σ Q u s'
inductive TP(X:Cx)(pins:m2)(σ:St)(Q:Bool->Hp->Prop)(b:Bool)(s':Shared):Prop
 |mk (H':Hp) (I:Inv X pins σ H' s') (q:Q b H'):TP X pins σ Q b s'
inductive AP(X:Cx)(pins:m2)(σ:St)(Q:List V->Hp->Prop)(us:TyJ)(s':Shared):Prop
 |mk (vs:List V) (H':Hp) (I:Inv X pins σ H' s') (r:Vals vs us) (q:Q vs H'):AP X pins σ Q us s'
def SP(X:Cx)(pins:m2)(D:Ends)(f:Flow)(h:Shared):Prop:=match f with
 |.next=>∃σ' c,Inv X pins σ' c h/\D.nx σ' c
 |.brk=>∃σ' c,Inv X pins σ' c h/\D.bk σ' c
 |.cont=>∃σ' c,Inv X pins σ' c h/\D.ct σ' c
 |.ret u=>∃v σ' c,Inv X pins σ' c h/\RelV v u/\D.rt v c
def PE(X:Cx)(e:Expr)(t:TE):Prop:=∀(pins:m2) (s:Shared) (σ:St) (H:Hp) (Q:VK),Inv X pins σ H s->t σ H Q->wpAny (model X.prog X.w) X.A (eval e X.env) (EP X pins σ Q) X.xe s
def PT(X:Cx)(e:Expr)(t:TT):Prop:=∀(pins:m2) (s:Shared) (σ:St) (H:Hp) (Q:Bool->Hp->Prop),Inv X pins σ H s->t σ H Q->wpAny (model X.prog X.w) X.A (isTrue e X.env (eval e X.env)) (TP X pins σ Q) X.xe s
def PW(X:Cx)(e:Expr)(t:TT):Prop:=∀(whole:Sem Value) (pins:m2) (s:Shared) (σ:St) (H:Hp) (Q:Bool->Hp->Prop),Inv X pins σ H s->t σ H Q->wpAny (model X.prog X.w) X.A (isTrue e X.env whole) (TP X pins σ Q) X.xe s
def PW.pt(h:PW X e t):PT X e t:=h _
def PA(X:Cx)(c:lj)(t:TA):Prop:=∀(pos:Pos) (pins:m2) (s:Shared) (σ:St) (H:Hp) (Q:List V->Hp->Prop),Inv X pins σ H s->t σ H Q->wpAny (model X.prog X.w) X.A (spliced (backTo pos (starEach c X.env))) (AP X pins σ Q) X.xe s
def PS(X:Cx)(c:Stmt)(t:TS):Prop:=∀(pins:m2) (s:Shared) (σ:St) (H:Hp) (D:Ends),Inv X pins σ H s->t D σ H->wpAny (model X.prog X.w) X.A (exec c X.env) (SP X pins D) X.xe s
def gG(X:Cx)(c:TyM)(t:TS):Prop:=∀(pins:m2) (s:Shared) (σ:St) (H:Hp) (D:Ends),Inv X pins σ H s->t D σ H->wpAny (model X.prog X.w) X.A (execs c X.env) (SP X pins D) X.xe s
def ew(h:wpAny M A t Q E s)(c:∀a s,Q a s->j a s):wpAny M A t j E s:=eG h c λ_ _ x=>x
section
variable {X:Cx}
def yX(i:Nat):TE:=λσ H Q=>∃v,σ[i]?=some (some v)/\Q v H
def tC(v:V):TE:=λ_ H Q=>Q v H
noncomputable def rf(G:X.N[i]?=some x)(J:DP X.env.scope x)(y:(x==("__debug__":Str))=false:=by decide)(B:(x==("__classdict__":Str))=false:=by decide):PE X (.Name x pos) (yX i):=by intro pins s L H Q I h;obtain⟨v,e,h⟩:=h;obtain⟨m,M,O⟩:=I.loc;obtain⟨u,r,l⟩:=O i x v G e J;have o:EP X pins L Q u s:=⟨v,H,I,r,h⟩;rcases l with⟨q,P⟩|⟨q,c,E,j⟩;exact wpAny_Name (wpAny_loadName_local I.ok.kind q M P o) y;rcases q with q|q;exact wpAny_Name (wpAny_loadName_cell I.ok.kind q E j o) y;exact wpAny_Name (wpAny_loadName_free I.ok.kind q E j o B) y
def wt{i j pos}:PE X (.Constant (.int i) j pos) (tC (.int i)):=λ_ _ _ H _ I h=>wpAny_Constant_int ⟨.int i,H,I.tok _,⟨_,rfl⟩,h⟩
def Vz{b j pos}:PE X (.Constant (.bool b) j pos) (tC (.bl b)):=λ_ _ _ H _ I h=>Constant_bool ⟨.bl b,H,I,rfl,h⟩
def RN{j pos}:PE X (.Constant .none j pos) (tC .cw):=λ_ _ _ H _ I h=>Constant_none ⟨.cw,H,I,rfl,h⟩
def Gl(X:Cx)(x:Str):Prop:=X.env.kindOf x=some .globalImplicit
noncomputable def qd(I:Inv X pins σ H s)(c:Gl X x)(j:X.mg x=some u)(h:Q u s) (o:(x==("__debug__":Str))=false:=by decide):wpAny (model X.prog X.w) X.A (eval (.Name x pos) X.env) Q E s:=
 Calls.Name_function_global I.ok.kind c (Calls.loadGlobal_global (by rw[I.ok.glob];exact I.mod.glob.keeps I.bk) j h) o
noncomputable def qe(I:Inv X pins σ H s)(c:Gl X x)(j:X.mg x=none)(o:bootBuiltins x=some u)(h:Q u s) (q:x≠"__name__":=by decide)(r:(x==("__debug__":Str))=false:=by decide):wpAny (model X.prog X.w) X.A (eval (.Name x pos) X.env) Q E s:=by obtain⟨G,y,B⟩:=I.mod.blt;exact Calls.Name_function_global I.ok.kind c (Calls.loadGlobal_builtin (by rw[I.ok.glob];exact I.mod.glob.keeps I.bk) j (by rw[I.ok.blt];exact y.keeps I.bk) ((B x q).trans o) h) r
def Ci(c:Gl X x)(j:X.mg x=some u)(r:RelV v u)(o:(x==("__debug__":Str))=false:=by decide):PE X (.Name x pos) (tC v):=
 λ_ _ _ H _ I h=>qd I c j ⟨v,H,I,r,h⟩ o
variable {a b:Expr} {ta tb:TE} {pos:Pos}
def PC(X:Cx)(j:CmpOp)(a b:Expr)(t:TE):Prop:=∀(pins:m2) (s:Shared) (σ:St) (H:Hp) (Q:VK),Inv X pins σ H s->t σ H Q->
  wpAny (model X.prog X.w) X.A (eval a X.env) (λv c=>wpAny (model X.prog X.w) X.A (eval b X.env) (λu h=>wpAny (model X.prog X.w) X.A (compareOp j v u) (EP X pins σ Q) X.xe h) X.xe c) X.xe s
def DQ(b)(h:op≠.In)(c:op≠.NotIn):behindInMarks op b=false:=by
 have j:(op==CmpOp.In)=false:=by cases op<;>first|rfl|exact absurd rfl h
 have o:(op==CmpOp.NotIn)=false:=by cases op<;>first|rfl|exact absurd rfl c
 cases b<;>simp[behindInMarks,j,o]
def VA(ta:TE):TE:=λσ H Q=>ta σ H λx c=>Q (.bl (decide (x=.cw))) c
def Q3(ta:TE):TE:=λσ H Q=>ta σ H λx c=>Q (.bl (!decide (x=.cw))) c
def RelV.DR(r:RelV x v):(v==Value.none)=decide (x=.cw):=by
 cases x with
 |cw=>cases r;rfl
 |bl _=>cases r;rfl
 |int _=>obtain⟨t,rfl⟩:=r;rfl
 |str _=>obtain⟨t,rfl⟩:=r;rfl
 |F2 _=>obtain⟨t,rfl⟩:=r;rfl
 |Vv _=>obtain⟨t,rfl⟩:=r;rfl
 |ref _=>cases r;rfl
 |ty _=>cases r;rfl
def Lo{j pos'}(o:PE X a ta):PC X .Is a (.Constant .none j pos') (VA ta):=by intro pins s q H Q I h;refine ew (o pins s q H _ I h) λv E c=> ?_;obtain⟨x,r,u,y,B⟩:=c;exact Constant_none (is_none_gen ⟨.bl _,r,u,by rw[y.DR];rfl,B⟩)
def HC{j pos'}(o:PE X a ta):PC X .IsNot a (.Constant .none j pos') (Q3 ta):=by intro pins s q H Q I h;refine ew (o pins s q H _ I h) λv E c=> ?_;obtain⟨x,r,u,y,B⟩:=c;exact Constant_none (isnot_none_gen ⟨.bl _,r,u,by rw[y.DR];rfl,B⟩)
def tB(t:TE):TT:=λσ H Q=>t σ H λx h=>∃c,x=.bl c/\Q c h
noncomputable def Cj(h:PC X op a b t)(c:behindInMarks op b=false:=by first|exact DQ _ (by decide) (by decide)|rfl):PE X (.Compare a [op] [b] pos) t:=λpins s σ H Q I j=>wpAny_Compare1 (h pins s σ H Q I j) c
noncomputable def Ck(h:PC X op a b t)(j:behindInMarks op b=false:=by first|exact DQ _ (by decide) (by decide)|rfl):PT X (.Compare a [op] [b] pos) (tB t):=by intro pins s o H Q I r;refine wpAny_isTrue_Compare1 (ew (h pins s o H _ I r) λv B j=>ew j λu E y=>ew y λc G ⟨x,H1,I1,r1,q1⟩=> ?_) j;obtain⟨d,rfl,q⟩:=q1;cases r1;exact p6 ⟨H1,I1,q⟩
variable {tA tB':TT} {rest:lj}
def YQ(t u:TT):TT:=λσ H Q=>t σ H λc h=>if c=true then u σ h Q else Q false h
def tOr(t u:TT):TT:=λσ H Q=>t σ H λc h=>if c=true then Q true h else u σ h Q
def YR(t:TT):TT:=λσ H Q=>t σ H λc h=>Q (!c) h
def OB(j:PT X a tA):PW X (.BoolOp .And [a] pos) tA:=by
 intro q pins s o H Q I h;refine isTrue_and (ew (j pins s o H Q I h) λc r e=> ?_);cases c with
 |true=>exact isTrue_and_nil e
 |false=>exact e
def RO(j:PT X a tA):PW X (.BoolOp .Or [a] pos) tA:=by
 intro q pins s o H Q I h;refine isTrue_or (ew (j pins s o H Q I h) λc r e=> ?_);cases c with
 |false=>exact isTrue_or_nil e
 |true=>exact e
def RP(y:PT X a tA)(B:PW X (.BoolOp .And (b::rest) pos) tB'):PW X (.BoolOp .And (a::b::rest) pos) (YQ tA tB'):=by
 intro E pins s o H Q I h;refine isTrue_and (ew (y pins s o H _ I h) λc G j=> ?_);obtain⟨q,r,u⟩:=j;cases c with
 |true=>exact B E pins G o q Q r u
 |false=>exact⟨q,r,u⟩
def VB(y:PT X a tA)(B:PW X (.BoolOp .Or (b::rest) pos) tB'):PW X (.BoolOp .Or (a::b::rest) pos) (tOr tA tB'):=by
 intro E pins s o H Q I h;refine isTrue_or (ew (y pins s o H _ I h) λc G j=> ?_);obtain⟨q,r,u⟩:=j;cases c with
 |true=>exact⟨q,r,u⟩
 |false=>exact B E pins G o q Q r u
def Lp(o:PT X a tA):PT X (.UnaryOp .Not a pos) (YR tA):=by intro pins s q H Q I h;exact isTrue_not (ew (o pins s q H (λc j=>Q (!c) j) I h) λc y z=>by obtain⟨j,r,u⟩:=z;exact⟨j,r,u⟩)
def VC(ta tb:TE):TE:=λσ H Q=>ta σ H λx h=>∃c,x=.bl c/\if c=true then tb σ h Q else Q (.bl false) h
def YS(ta tb:TE):TE:=λσ H Q=>ta σ H λx h=>∃c,x=.bl c/\if c=true then Q (.bl true) h else tb σ h Q
def VD(ta:TE):TE:=λσ H Q=>ta σ H λx h=>∃c,x=.bl c/\Q (.bl (!c)) h
def Lq{op}(h:PE X a t):PE X (.BoolOp op [a] pos) t:=λpins s σ H Q I c=>BoolOp_one (h pins s σ H Q I c)
def RQ(y:PE X a ta)(B:PE X (.BoolOp .And (b::rest) pos) tb):PE X (.BoolOp .And (a::b::rest) pos) (VC ta tb):=by
 intro pins s q H Q I h;refine BoolOp_and (ew (y pins s q H _ I h) λv E o=> ?_);obtain⟨x,r,u,G,j⟩:=o;obtain⟨c,rfl,j⟩:=j;cases G;refine p6 ?_;cases c with
 |true=>exact B pins E q r Q u j
 |false=>exact⟨.bl false,r,u,rfl,j⟩
def VE(y:PE X a ta)(B:PE X (.BoolOp .Or (b::rest) pos) tb):PE X (.BoolOp .Or (a::b::rest) pos) (YS ta tb):=by
 intro pins s q H Q I h;refine BoolOp_or (ew (y pins s q H _ I h) λv E o=> ?_);obtain⟨x,r,u,G,j⟩:=o;obtain⟨c,rfl,j⟩:=j;cases G;refine p6 ?_;cases c with
 |false=>exact B pins E q r Q u j
 |true=>exact⟨.bl true,r,u,rfl,j⟩
def RR(q:PE X a ta):PE X (.UnaryOp .Not a pos) (VD ta):=by intro pins s r H Q I h;refine UnaryOp_ (ew (q pins s r H _ I h) λv E j=> ?_);obtain⟨x,u,y,B,o⟩:=j;obtain⟨c,rfl,o⟩:=o;cases B;exact not_of (p6 ⟨.bl (!c),u,y,rfl,o⟩)
def tIf(t:TT)(ta tb:TE):TE:=λσ H Q=>t σ H λc h=>if c=true then ta σ h Q else tb σ h Q
def Lr(B:PT X c tA)(E:PE X a ta)(G:PE X b tb):PE X (.IfExp c a b pos) (tIf tA ta tb):=by
 intro pins s j H Q I h;refine wpAny_IfExp (ew (B pins s j H _ I h) λd q o=> ?_);obtain⟨r,u,y⟩:=o;cases d with
 |true=>exact E pins q j r Q u y
 |false=>exact G pins q j r Q u y
end
def dr(K:Frag)(H:Hp)(a:Addr)(xs:List V):Prop:=Rd H a (.lst xs)\/
  ∃(o:Obj) (c:Array Value) (n:Nat),K.lookup a=some o/\o.cls=.type "list"∧o.dict=none/\o.data=.seq c n/\c.size<=sizeLine/\Vals xs c.toList
def qM(K:Frag)(H:Hp)(a:Addr)(xs:List V):Prop:=Rd H a (.tup xs)\/
  ∃(o:Obj) (c:Array Value) (n:Nat),K.lookup a=some o/\o.cls=.type "tuple"∧o.data=.seq c n/\c.size<=sizeLine/\Vals xs c.toList
noncomputable def YT:Value->Option V
 |.none=>some .cw
 |.bool b=>some (.bl b)
 |.int i _=>some (.int i)
 |.str x _=>some (.str x)
 |.bytes b _=>some (.F2 b)
 |.float b _=>some (.Vv b)
 |.ref a=>some (.ref a)
 |.type n=>some (.ty n)
 |_=>none
def RelV.abs(r:RelV x u):YT u=some x:=by
 cases x with
 |cw=>cases r;rfl
 |bl _=>cases r;rfl
 |int _=>obtain⟨t,rfl⟩:=r;rfl
 |str _=>obtain⟨t,rfl⟩:=r;rfl
 |F2 _=>obtain⟨t,rfl⟩:=r;rfl
 |Vv _=>obtain⟨t,rfl⟩:=r;rfl
 |ref _=>cases r;rfl
 |ty _=>cases r;rfl
def RelV.inj(r:RelV x u)(q:RelV y u):x=y:=jN (r.abs.symm.trans q.abs)
theorem Vals.inj:∀{xs c:List V} {us:TyJ},Vals xs us->Vals c us->xs=c
 |_,_,_,.nil,.nil=>rfl
 |_,_,_,.cons r t,.cons h t'=>by rw[r.inj h,Vals.inj t t']
def dr.of{K:Frag}(h:H a=some (.lst xs)):dr K H a xs:=.inl (.inl h)
def qM.of{K:Frag}(h:H a=some (.tup xs)):qM K H a xs:=.inl (.inl h)
def Inv.list(I:Inv X pins σ H s)(h:dr X.K H a xs):∃c:TyJ,Vals xs c/\PlainL s.heap a c.toArray/\xs.length<=sizeLine:=by rcases h with h|⟨o,c,n,j,q,u,y,B,r⟩;obtain⟨z,c,n,r,e⟩:=h.ok I.fK;exact⟨c,r,⟨_,n,e,rfl,rfl,rfl⟩,z⟩;refine⟨c.toList,r,⟨o,n,I.Cg a o j,q,u,by simpa using y⟩,?_⟩;have e:=r.length;simp only[wb]at e;omega
def Inv.tuple(I:Inv X pins σ H s)(h:qM X.K H a xs):∃c:TyJ,Vals xs c/\IsTup s.heap a c.toArray/\xs.length<=sizeLine:=by rcases h with h|⟨o,c,n,j,q,u,y,r⟩;obtain⟨z,c,r,p⟩:=h.ok I.fK;exact⟨c,r,p,z⟩;refine⟨c.toList,r,⟨o,I.Cg a o j,q,n,by simpa using u⟩,?_⟩;have e:=r.length;simp only[wb]at e;omega
def Inv.ll(I:Inv X pins σ H s)(h:dr X.K H a xs)(h':dr X.K H a j):xs=j:=by
 obtain⟨c,r,⟨o,n,e,_,_,d⟩,_⟩:=I.list h;obtain⟨its',q,⟨u,y,e',_,_,d'⟩,_⟩:=I.list h';rw[e]at e';cases e';rw[d]at d';injection d' with d1 _;have:c=its':=by simpa using congrArg _K d1
 subst this;exact r.inj q
def Inv.JU(I:Inv X pins σ H s)(h:qM X.K H a xs)(h':qM X.K H a j):xs=j:=by
 obtain⟨c,r,⟨o,e,_,n,d⟩,_⟩:=I.tuple h;obtain⟨its',q,⟨u,e',_,y,d'⟩,_⟩:=I.tuple h';rw[e]at e';cases e';rw[d]at d';injection d' with d1 _;have:c=its':=by simpa using congrArg _K d1
 subst this;exact r.inj q
noncomputable abbrev Cx.xJ(X:Cx)(E:wo):Cx:={X with xe:=E}
abbrev Cx.AK(X:Cx):Cx:=X.xJ λ_ _=>False
def Cx.Ok.xJ{X:Cx}(c:X.Ok)(E:wo):(X.xJ E).Ok:=⟨c.mod,c.kind,c.glob,c.blt,c.above,c.inj,c.has,c.RM,c.hd,c.frames,c.Vw,c.Vx,c.bs,c.Ln,c.JS,c.JT,c.u9,c.Oz⟩
def Cx.Ok.oH{X:Cx}{E:wo}(c:(X.xJ E).Ok):X.Ok:=⟨c.mod,c.kind,c.glob,c.blt,c.above,c.inj,c.has,c.RM,c.hd,c.frames,c.Vw,c.Vx,c.bs,c.Ln,c.JS,c.JT,c.u9,c.Oz⟩
def Inv.xJ(I:Inv X pins σ H s)(E:wo):Inv (X.xJ E) pins σ H s:=⟨I.ok.xJ E,I.os,I.bare,I.base,I.loc,I.cell,I.free,I.pq,I.pin,I.fK,I.len⟩
def Inv.oH(I:Inv (X.xJ E) pins σ H s):Inv X pins σ H s:=⟨I.ok.oH,I.os,I.bare,I.base,I.loc,I.cell,I.free,I.pq,I.pin,I.fK,I.len⟩
def SP.oH(h:SP (X.xJ E) pins D f j):SP X pins D f j:=by
 cases f with
 |next=>obtain⟨σ',c,I,q⟩:=h;exact⟨σ',c,I.oH,q⟩
 |brk=>obtain⟨σ',c,I,q⟩:=h;exact⟨σ',c,I.oH,q⟩
 |cont=>obtain⟨σ',c,I,q⟩:=h;exact⟨σ',c,I.oH,q⟩
 |ret u=>obtain⟨v,σ',c,I,r,q⟩:=h;exact⟨v,σ',c,I.oH,r,q⟩
def PE.AK(h:PE X.AK e t):PE X e t:=λpins s σ H Q I j=>
 eG (h pins s σ H Q (I.xJ _) j) (λ_ _ c=>by obtain⟨v,o,u,r,q⟩:=c;exact⟨v,o,u.oH,r,q⟩) λ_ _ z=>Db z
def gG.AK{c:TyM}{t:TS}(h:gG X.AK c t):gG X c t:=λpins s σ H D I j=>
 eG (h pins s σ H D (I.xJ _) j) (λ_ _ q=>q.oH) λ_ _ z=>Db z
section
variable {X:Cx} {st:Stmt} {rest:TyM} {t u:TS}
def Q4:TS:=λD σ H=>D.nx σ H
def VF(t u:TS):TS:=λD σ H=>t {D with nx:=u D} σ H
def HD:gG X [] Q4:=λ_ _ σ H _ I h=>yq ⟨σ,H,I,h⟩
def c9(c:PS X st t)(j:gG X rest u):gG X (st::rest) (VF t u):=by
 intro pins s o H D I h;refine wpAny_execs_cons (ew (c pins s o H {D with nx:=u D} I h) λf r q=> ?_);cases f with
 |next=>
  obtain⟨σ',y,B,q⟩:=q;exact j pins r σ' y D B q
 |ret v=>exact q
 |brk=>exact q
 |cont=>exact q
def om(c:PS X st t):gG X [st] t:=by
 intro pins s j H D I h;refine wpAny_execs_cons (ew (c pins s j H D I h) λf o q=> ?_);cases f with
 |next=>exact yq q
 |ret v=>exact q
 |brk=>exact q
 |cont=>exact q
def Inv.quiet(I:Inv X pins σ H s):interactive X.env=false:=by simp[interactive,I.ok.kind]
def Ls{x j pos pos'}:PS X (.Expr (.Constant (.str x) j pos) pos') Q4:=λ_ s σ H _ I h=>wpAny_Expr (Calls.Constant_str (show SP X _ _ .next {s with toks:=s.toks+1}from⟨σ,H,I.tok _,h⟩)) I.quiet
def VG(c:TE):TS:=λD σ H=>c σ H λ_ h=>D.nx σ h
noncomputable def u_(he:PE X e o)(q:swapsWith e none pos.line X.env=pure false:=by rfl):PS X (.Expr e pos) (VG o):=by intro pins s j H D I h;exact wpAny_Expr_any (ew (he pins s j H _ I h) λv E c=>by obtain⟨x,r,y,G,B⟩:=c;exact⟨j,r,y,B⟩) I.quiet q
def YU(c:TE):TS:=λD σ H=>c σ H D.rt
def ud(he:PE X e o):PS X (.Return (some e) pos) (YU o):=by intro pins s j H D I h;exact wpAny_Return_some (ew (he pins s j H _ I h) λv E c=>by obtain⟨x,q,r,y,B⟩:=c;exact⟨x,j,q,r,y,B⟩)
def YV(c:TT)(t u:TS):TS:=λD σ H=>c σ H λb h=>if b=true then t D σ h else u D σ h
def Q5(E:PT X c G)(J:gG X a t)(L:gG X b u):PS X (.If c a b pos) (YV G t u):=by
 intro pins s j H D I h;refine wpAny_If (ew (E pins s j H _ I h) λd q o=> ?_);obtain⟨r,y,B⟩:=o;cases d with
 |true=>exact J pins q j r D y B
 |false=>exact L pins q j r D y B
end
abbrev TG:=V->St->Hp->(St->Hp->Prop)->Prop
abbrev Vi:=List V->St->Hp->(St->Hp->Prop)->Prop
noncomputable def PG(X:Cx)(c:Expr)(t:TG):Prop:=∀(pins:m2) (s:Shared) (σ:St) (H:Hp) (v:V) (u:Value) (Q:St->Hp->Prop),Inv X pins σ H s->RelV v u->t v σ H Q->
  wpAny (model X.prog X.w) X.A (assign c X.env u) (λ_ j=>∃σ' h,Inv X pins σ' h j/\Q σ' h) X.xe s
def OC(X:Cx)(h:lj)(t:Vi):Prop:=∀(pins:m2) (s:Shared) (σ:St) (H:Hp) (vs:List V) (us:TyJ) (Q:St->Hp->Prop),Inv X pins σ H s->Vals vs us->t vs σ H Q->
  wpAny (model X.prog X.w) X.A (assignInOrder ((assignEach h X.env).map (·.2)) us) (λ_ j=>∃σ' c,Inv X pins σ' c j/\Q σ' c) X.xe s
abbrev VH:=V->V->V->Hp->(Hp->Prop)->Prop
def VI(X:Cx)(t:VH):Prop:=∀(pins:m2) (s:Shared) (σ:St) (H:Hp) (o i v:V) (c h u:Value) (Q:Hp->Prop),Inv X pins σ H s->RelV o c->RelV i h->RelV v u->t o i v H Q->
  wpAny (model X.prog X.w) X.A (setItem c h u) (λ_ q=>∃j,Inv X pins σ j q/\Q j) X.xe s
abbrev TIp:=V->V->Hp->VK->Prop
def PIp(X:Cx)(c:Operator)(t:TIp):Prop:=∀(pins:m2) (s:Shared) (σ:St) (H:Hp) (x y:V) (v u:Value) (Q:VK),Inv X pins σ H s->RelV x v->RelV y u->t x y H Q->
  wpAny (model X.prog X.w) X.A (inplaceOp c v u) (EP X pins σ Q) X.xe s
def HE(i:Nat):TG:=λv σ H Q=>Q (σ.set i (some v)) H
def HF(c:X.N.Nodup)(j:X.N[i]?=some x)(o:Loc X.env.scope x)(q:(X.fn x=true/\X.fz x=false)\/X.env.scope.names.lookup x=some .local:=by first|exact .inl ⟨rfl,rfl⟩|exact .inr rfl|assumption):PG X (.Name x pos) (HE i):=by intro pins s B H v u Q I r h;exact wpAny_assign_Name (px I c j o r (λE y=>⟨_,H,y,h⟩) q)
def YW:Vi:=λvs σ H Q=>vs=[]/\Q σ H
def VJ(t:TG)(u:Vi):Vi:=λvs σ H Q=>∃v r,vs=v::r/\t v σ H λσ' c=>u r σ' c Q
def OD:OC X [] YW:=by intro pins s c H vs us Q I r h;obtain⟨e,h⟩:=h;subst e;cases r;exact assignInOrder_nil ⟨c,H,I,h⟩
def Lu(o:PG X e t)(q:OC X c u) (y:(assignEach (e::c) X.env).map (·.2)=assign e X.env::(assignEach c X.env).map (·.2):=by rfl):OC X (e::c) (VJ t u):=by
 intro pins s B H vs us Q I r h;obtain⟨v,P,E,h⟩:=h;subst E;cases r with
 |cons r G=>
  rw[y];refine assignInOrder_cons (ew (o pins s B H _ _ _ I r h) λ_ J j=> ?_);obtain⟨σ1,L,M,O⟩:=j;exact q pins J σ1 L _ _ Q M G O
def YX(K:Frag)(n:Nat)(t:Vi):TG:=λv σ H Q=>∃a xs,v=.ref a/\qM K H a xs/\xs.length=n/\t xs σ H Q
def RS(E:X.calm=true)(h:OC X c t) (G:(assignEach c X.env).length=n:=by rfl)(j:(assignEach c X.env).findIdx? (·.1)=none:=by rfl):PG X (.Tuple c k pos) (YX X.K n t):=by intro pins s y H v u Q I r q;obtain⟨a,xs,J,L,M,q⟩:=q;subst J;cases r;obtain⟨O,B,P,Z⟩:=I.tuple L;refine assign_Tuple_tuple (I.ok.hd E) P (by simp[G,<-M,B.length]) j λh' U=> ?_;have Y:Inv X pins y H {s with heap:=h'}:=I.kept (t':=s.toks) λb o e=>U b o (cV (aT e)) e;exact h pins _ y H xs _ Q Y (by simpa using B) q
def RT(c h:TE)(t:VH):TG:=λv σ H Q=>c σ H λo j=>h σ j λi q=>t o i v q λr=>Q σ r
def Lv(E:PE X o to)(G:PE X i ti)(J:VI X t) (L:∀v,assign (.Subscript o i pos) X.env v=(do
   let j<-holding [v] (eval o X.env)
   let q<-holding [v,j] (eval i X.env)
   standAt pos
   holding [v,j,q] (setItem j q v)
   release [v,j,q] []):=by intro _;rfl):PG X (.Subscript o i pos) (RT to ti t):=by
 intro pins s B H v u Q I r h
 rw[L]
 refine af (wpAny_holding (ew (E pins s B H _ I h) λj M c=> ?_))
 obtain⟨x,O,P,U,Y⟩:=c
 refine af (wpAny_holding (ew (G pins M B O _ P Y) λq Z c=> ?_))
 obtain⟨y,T,C,F,D⟩:=c
 refine af (wpAny_standAt (af (wpAny_holding (ew (J pins Z B T x y v j q u _ C U F r D) λ_ A c=> ?_))))
 obtain⟨V,R,S⟩:=c
 exact wpAny_release ⟨B,V,R,S⟩
def RU(c:TE)(g:TG):TS:=λD σ H=>c σ H λx h=>g x σ h D.nx
def Lx(he:PE X e j)(o:PG X tg g)(r:swapsWithSole [tg] e pos.line X.env=pure false:=by rfl)(u:swappedStores [tg] e X.env=pure none:=by rfl)
  (y:(assignEach [tg] X.env).map (·.2)=[assign tg X.env]:=by rfl):PS X (.Assign [tg] e pos) (RU j g):=by
 intro pins s c H D I h
 refine wpAny_Assign_stores (ew (he pins s c H _ I h) λv B ⟨x,H1,I1,r1,q1⟩=> ?_) r u
 rw[y]
 exact ew (o pins B c H1 x v _ I1 r1 q1) λ_ E q=>q
def yY(c:X.N.Nodup)(j:X.N[i]?=some x)(o:Loc X.env.scope x)(he:PE X e q)(r:swapsWith e (some (.Name x pos')) pos.line X.env=pure false:=by rfl)(u:(X.fn x=true/\X.fz x=false)\/X.env.scope.names.lookup x=some .local:=by first|exact .inl ⟨rfl,rfl⟩|exact .inr rfl|assumption):
  PS X (.Assign [.Name x pos'] e pos) (RU q (HE i)):=by
 intro pins s B H D I h
 refine wpAny_Assign_Name (ew (he pins s B H _ I h) λv G ⟨y,H1,I1,r1,q1⟩=> ?_) r
 exact px I1 c j o r1 (λJ E=>⟨_,H1,E,q1⟩) u
def YY(i:Nat)(c:TE)(h:TIp):TS:=λD σ H=>∃x,σ[i]?=some (some x)/\c σ H λy j=>h x y j λz o=>D.nx (σ.set i (some z)) o
def RV(P:X.N.Nodup)(L:X.N[i]?=some x)(G:Loc X.env.scope x)(he:PE X e Q)(U:PIp X op ti)(Y:(X.fn x=true/\X.fz x=false)\/X.env.scope.names.lookup x=some .local:=by first|exact .inl ⟨rfl,rfl⟩|exact .inr rfl|assumption):
  PS X (.AugAssign (.Name x pos') op e pos) (YY i Q ti):=by
 intro pins s M H D I h
 obtain⟨v,Z,h⟩:=h
 obtain⟨m,T,C⟩:=I.loc
 have J:DP X.env.scope x:=by rcases G with k|k;exact .inl k;exact .inr (.inl k)
 obtain⟨u,r,l⟩:=C i x v L Z J
 refine wpAny_AugAssign_Name ?_
 have O:wpAny (model X.prog X.w) X.A (eval e X.env) (λw B=>wpAny (model X.prog X.w) X.A (inplaceOp op u w) (λr E=>wpAny (model X.prog X.w) X.A (storeName X.env x r) (λ_=>SP X pins D .next) X.xe E) X.xe B) X.xe s:=by refine ew (he pins s M H _ I h) λw F o=> ?_;obtain⟨y,V,R,S,K⟩:=o;refine ew (U pins F M V v y u w _ R r S K) λz p o=> ?_;obtain⟨t,W,a,b,d⟩:=o;exact px a P L G b (λs3 f=>⟨_,W,f,d⟩) Y
 rcases l with⟨j,g⟩|⟨j,c,n,q⟩
 ·exact wpAny_loadName_local I.ok.kind j T g O
 ·rcases j with j|j
  ·exact wpAny_loadName_cell I.ok.kind j n q O
  ·rcases G with k|k
   ·have:X.env.scope.names.lookup x=some .free:=j;rw[k]at this;cases this
   ·have:X.env.scope.names.lookup x=some .free:=j;rw[k]at this;cases this
def RX(c:TT)(q:TS):TS:=λD σ H=>∃W:Nat->St->Hp->Prop,(∃m,W m σ H)/\∀m σ H,W m σ H->
 c σ H λb h=>if b=true then ∃N:St->Hp->Prop,(∀σ' j,N σ' j->∃o,o<m/\W o σ' j)/\q {D with nx:=N,ct:=N,bk:=D.nx} σ h else D.nx σ h
def Ly(L:PassesOwn (model X.prog X.w) X.A X.env X.xe)(Y:PT X c Z)(T:gG X body tb):PS X (.While c body [] pos) (RX Z tb):=by
 intro pins s C H D I h;obtain⟨W,⟨F,V⟩,j⟩:=h;refine wpAny_While (codeAny_whileLoop (λn R=>∃σ' M,Inv X pins σ' M R/\W n σ' M) ?_ F ⟨C,H,I,V⟩);rintro n S ⟨σ1,O,K,a⟩;refine p_ L (ew (Y pins S σ1 O _ K (j n σ1 O a)) λb d u=> ?_);obtain⟨P,Q,q⟩:=u;cases b with
 |true=>
  obtain⟨N,U,q⟩:=q;rw[ae rfl];refine p_ L (ew (T pins d σ1 P _ Q q) λf e r=> ?_);cases f with
  |next=>
   obtain⟨σ3,o,y,B⟩:=r;obtain⟨E,G,J⟩:=U σ3 o B;exact⟨E,G,σ3,o,y,J⟩
  |cont=>
   obtain⟨σ3,o,y,B⟩:=r;obtain⟨E,G,J⟩:=U σ3 o B;exact⟨E,G,σ3,o,y,J⟩
  |brk=>exact r
  |ret v=>exact r
 |false=>
  rw[ab eu];exact yq ⟨σ1,P,Q,q⟩
structure It where
 go:Nat->Hp->Prop
 Lz:Nat->Hp->V->Hp->Prop
 stop:Nat->Hp->Prop
def xK(X:Cx)(pins:m2)(H:Hp)(b:Addr):Prop:=H b=none/\b≠X.env.locals/\b∉X.fs/\(b∈X.ex\/X.Cf.heap.objs.size<=b)/\(∀x c,X.env.cells.lookup x=some c->c≠b)/\∀p∈X.pn++pins,p.1≠b
def Inv.DS(I:Inv X pins σ H s)(h:s.heap.objs.size<=b)(j:o b=none):xK X pins o b:=by refine⟨j,W1 (bw I.lt h),I.YO h,.inr (eF I.sz h),λx c e z=> ?_,λp r z=> ?_⟩;obtain⟨v,q⟩:=I.cell x c e;exact absurd (bw q.lt (by rw[z];exact h)) (mB _);exact absurd (bw (aT (I.pin p r).1) (by rw[z];exact h)) (mB _)
structure Turn(P:Program)(w:World)(K:Frag)(tg:Expr)(J:It)(fp:oj)(it:Addr)(tn:Nat->Heap->Prop):Prop where
 mem:it∈fp
 obj:∀i h,tn i h->∀b∈fp,∃o,h.get? b=some o/\∀v,o.data≠.cell v
 keep:∀i h h',tn i h->(∀b∈fp,∀o,h.get? b=some o->h'.get? b=some o)->tn i h'
 item:∀(X:Cx),X.prog=P->X.w=w->X.K=K->X.calm=true->∀(i:Nat) (pins:m2) (s:Shared) (σ:St) (H:Hp) (E:wo),Inv X pins σ H s->(∀b∈fp,xK X pins H b)->tn i s.heap->J.go i H->
  wpAny (model P w) X.A (pyNext (.ref it)) (λr s1=>∃u,r=some u/\
   wpAny (model P w) X.A (letOwnedTupleGo tg (.ref it) u) (λ_ s2=>∃x H',Inv X pins σ H' s2/\RelV x u/\J.Lz i H x H'/\tn (i+1) s2.heap/\∀b∈fp,H' b=none) E s1) E s
 done:∀(X:Cx),X.prog=P->X.w=w->X.K=K->X.calm=true->∀(i:Nat) (pins:m2) (s:Shared) (σ:St) (H:Hp) (E:wo),Inv X pins σ H s->(∀b∈fp,xK X pins H b)->tn i s.heap->J.stop i H->
  wpAny (model P w) X.A (pyNext (.ref it)) (λr s1=>r=none/\Inv X pins σ H s1) E s
 self:∀(A:Around) (i:Nat) (s:Shared) (Q:wo) (E:wo),tn i s.heap->Q (.ref it) s->wpAny (model P w) A (pyIter (.ref it)) Q E s
abbrev TI:=St->Hp->(It->Hp->Prop)->Prop
def YZ(X:Cx)(pins:m2)(r:St)(tg:Expr)(R:It->Hp->Prop)(c:Value)(j:Shared):Prop:=∃(it:Addr) (o:oj) (q:Nat->Heap->Prop) (J:It) (h:Hp),c=.ref it/\Inv X pins r h j/\Turn X.prog X.w X.K tg J o it q/\q 0 j.heap/\(∀b∈o,xK X pins h b)/\R J h
def PI(X:Cx)(tg c:Expr)(h:TI):Prop:=∀(pins:m2) (s:Shared) (σ:St) (H:Hp) (R:It->Hp->Prop),Inv X pins σ H s->h σ H R->
  wpAny (model X.prog X.w) X.A (eval c X.env) (λv j=>wpAny (model X.prog X.w) X.A (pyIter v) (YZ X pins σ tg R) X.xe j) X.xe s
def DT(j:s.heap.get? it=some o)(q:o.cls=.type n)(r:o.data=.fields vs) (y:["enumerate","zip","dict_itemiterator","dict_reverseitemiterator","odict_iterator","itertools.zip_longest","itertools.pairwise"].contains n=false)(c:Q () s):wpAny M A (letOwnedTupleGo tg (.ref it) u) Q E s:=by
 unfold letOwnedTupleGo;cases tg<;>first
  |exact aQ c
  |(cases u<;>first
    |exact aQ c
    |(refine af (wpAny_load j ?_)
      rw[q,r]
      show wpAny M A (if(["enumerate","zip","dict_itemiterator","dict_reverseitemiterator","odict_iterator","itertools.zip_longest","itertools.pairwise"].contains n&&vs[0]?==some (rawInt _))=true then _ else _) Q E s
      rw[ab (by intro h;rw[y,Bool.false_and]at h;cases h)]
      exact aQ c))
noncomputable def Y0(K:Frag)(a:Addr):It:=⟨λi H=>∃xs x,dr K H a xs/\xs[i]?=some x,λi H x c=>c=H/\∀xs,dr K H a xs->xs[i]?=some x,λi H=>∃xs,dr K H a xs/\xs.length<=i⟩
noncomputable def Y1(K:Frag)(a:Addr):It:=⟨λi H=>∃xs x,qM K H a xs/\xs[i]?=some x,λi H x c=>c=H/\∀xs,qM K H a xs->xs[i]?=some x,λi H=>∃xs,qM K H a xs/\xs.length<=i⟩
noncomputable def VL(c:Int)(n:Nat):It:=⟨λi _=>i<n,λi H x h=>h=H/\x=.int (c+i),λi _=>n<=i⟩
def JV{P:Program}{w:World}{K:Frag}{tg:Expr}(a it):Turn P w K tg (Y0 K a) [it] it (λi h=>h.IsListIter it a i) where
 mem:=by simp
 obj:=λi h j b q=>by
  have e:b=it:=by simpa using q
  subst e;obtain⟨o,e,c,d⟩:=j;exact⟨o,e,λv z=>by rw[d]at z;cases z⟩
 keep:=λi h h' j k=>j.at λo e=>k it (by simp) o e
 item:=by intro X G J L D i pins s V H E I y j M;subst G J L;obtain⟨xs,x,B,O⟩:=M;obtain⟨Q,U,p,R⟩:=I.list B;obtain⟨u,S,A⟩:=U.get O;obtain⟨Y,Z,N,T,C,F⟩:=y it (by simp);refine wpAny_pyNext_list_item j p.isList (x:=u) (by simpa using S) λh' r W=> ?_;have f:Inv X pins V H {s with heap:=h'}:=I.turned (t':=s.toks) (λb o q e=>(W.2 b q).trans e) Y Z T C F;obtain⟨o,e,c,d⟩:=id r;exact⟨u,rfl,DT (s:={s with heap:=h'}) e c d (by decide) ⟨x,H,f,A,⟨rfl,λm g=>by rw[I.ll g B];exact O⟩,r,λb q=>(y b q).1⟩⟩
 done:=by intro X G J L D i pins s V H E I y j M;subst G J L;obtain⟨xs,B,O⟩:=M;obtain⟨Q,U,p,R⟩:=I.list B;obtain⟨Y,Z,N,T,C,F⟩:=y it (by simp);have n:=U.length;exact wpAny_pyNext_list_end (I.ok.hd D) j p.isList (by simp;omega) λh' l=>⟨rfl,I.turned (t':=s.toks) (λb o q e=>l b o q e) Y Z T C F⟩
 self:=λ_ _ _ _ _ j h=>wpAny_pyIter_listiter j h
def F4{P:Program}{w:World}{K:Frag}{tg:Expr}(a it):Turn P w K tg (Y1 K a) [it] it (λi h=>h.IsTupleIter it a i) where
 mem:=by simp
 obj:=λi h j b q=>by
  have e:b=it:=by simpa using q
  subst e;obtain⟨o,e,c,d⟩:=j;exact⟨o,e,λv z=>by rw[d]at z;cases z⟩
 keep:=λi h h' j k=>j.at λo e=>k it (by simp) o e
 item:=by intro X J L M D i pins s V H E I B j O;subst J L M;obtain⟨xs,x,G,Q⟩:=O;obtain⟨r,U,p,R⟩:=I.tuple G;obtain⟨u,S,A⟩:=U.get Q;obtain⟨Y,Z,N,T,C,F⟩:=B it (by simp);refine wpAny_pyNext_tuple_item j (show s.heap.IsTuple a r.toArray from p) (x:=u) (by simpa using S) λh' y W=> ?_;have f:Inv X pins V H {s with heap:=h'}:=I.turned (t':=s.toks) (λb o q e=>(W.2 b q).trans e) Y Z T C F;obtain⟨o,e,c,d⟩:=id y;exact⟨u,rfl,DT (s:={s with heap:=h'}) e c d (by decide) ⟨x,H,f,A,⟨rfl,λm g=>by rw[I.JU g G];exact Q⟩,y,λb q=>(B b q).1⟩⟩
 done:=by intro X J L M D i pins s V H E I B j O;subst J L M;obtain⟨xs,G,Q⟩:=O;obtain⟨r,U,p,R⟩:=I.tuple G;obtain⟨Y,Z,N,T,C,F⟩:=B it (by simp);have n:=U.length;exact wpAny_pyNext_tuple_end (I.ok.hd D) j (show s.heap.IsTuple a r.toArray from p) (by simp;omega) λh' l=>⟨rfl,I.turned (t':=s.toks) (λb o q e=>l b o q e) Y Z T C F⟩
 self:=λ_ _ _ _ _ j h=>wpAny_pyIter_tupleiter j h
def F5{P:Program}{w:World}{K:Frag}{tg:Expr}(it)(lo)(n):Turn P w K tg (VL lo n) [it] it (λi h=>IsRangeIter h it (lo+(i)*1) ((n)-(i)) 1) where
 mem:=by simp
 obj:=λi h c b j=>by
  have e:b=it:=by simpa using j
  subst e;exact⟨_,c,λv z=>by have Z:Data.fields _=Data.cell v:=z;cases Z⟩
 keep:=λi h h' c k=>k it (by simp) _ c
 item:=by intro X u y B G i pins s Y H E I r c J;subst u y B;obtain⟨L,M,T,O,Q,U⟩:=r it (by simp);have W:=Walks.range (prog:=X.prog) (w:=X.w) (I.ok.hd G) it lo 1 n;refine W.item i s _ _ J c λv h' tk C q F=> ?_;obtain⟨t,rfl⟩:=C;have D:Inv X pins Y H {s with heap:=h',toks:=tk}:=I.turned (λb o j e=>F b o (by simpa using j) e) L M O Q U;refine⟨_,rfl,DT (s:={s with heap:=h',toks:=tk}) (n:="range_iterator") q rfl rfl (by decide) ⟨.int (lo+i),H,D,⟨t,?_⟩,⟨rfl,rfl⟩,q,λb j=>(r b j).1⟩⟩;rw[Int.mul_one]
 done:=by intro X u y B G i pins s Y H E I r c J;subst u y B;obtain⟨L,M,T,O,Q,U⟩:=r it (by simp);exact wpAny_pyNext_range_end (I.ok.hd G) c (by have:n<=i:=J;omega) λh' V=>⟨rfl,I.turned (t':=s.toks) (λb o j e=>V b o j e) L M O Q U⟩
 self:=λ_ _ _ _ _ c h=>wpAny_pyIter_rangeiter c h
def VM(K:Frag)(h:TE):TI:=λσ H R=>h σ H λx c=>∃a,x=.ref a/\(∃xs,dr K c a xs)/\R (Y0 K a) c
def Y2(K:Frag)(h:TE):TI:=λσ H R=>h σ H λx c=>∃a,x=.ref a/\(∃xs,qM K c a xs)/\R (Y1 K a) c
def OE{l:Expr}{u:TE}(y:PE X l u):PI X tg l (VM X.K u):=by
 intro pins s B H R I h;refine ew (y pins s B H _ I h) λv c r=> ?_;obtain⟨x,E,j,G,J⟩:=r;obtain⟨a,e,⟨xs,L⟩,q⟩:=J;subst e;cases G;obtain⟨M,P,p,Q⟩:=j.list L;refine Cd p.isList ?_;refine⟨c.heap.objs.size,[c.heap.objs.size],_,_,E,rfl,j.kept (t':=c.toks) λb o e=>aX _ e,JV a _,⟨_,dP _ rfl,rfl,rfl⟩,λb O=> ?_,q⟩;have e:b=c.heap.objs.size:=by simpa using O
 subst e;exact j.DS (aH _) (j.fK.fresh (aH _))
def RY{l:Expr}{y:TE}(B:PE X l y):PI X tg l (Y2 X.K y):=by
 intro pins s E H R I h;refine ew (B pins s E H _ I h) λv c r=> ?_;obtain⟨x,G,j,J,L⟩:=r;obtain⟨a,e,⟨xs,M⟩,q⟩:=L;subst e;cases J;obtain⟨u,P,p,Q⟩:=j.tuple M;refine wpAny_pyIter_tuple (show c.heap.IsTuple a u.toArray from p) ?_;refine⟨c.heap.objs.size,[c.heap.objs.size],_,_,G,rfl,j.kept (t':=c.toks) λb o e=>aX _ e,F4 a _,⟨_,dP _ rfl,rfl,rfl⟩,λb O=> ?_,q⟩;have e:b=c.heap.objs.size:=by simpa using O
 subst e;exact j.DS (aH _) (j.fK.fresh (aH _))
def DU{pins:m2}{j:St}{H:Hp}{s:Shared}{R:It->Hp->Prop}{E:wo}{c h:Int}{t u v:Tok}{tk:Nat}(I:Inv X pins j H s)(y: -(2^62)<=c)(B:c<2^62)(G: -(2^62)<=h)(J:h<2^62) (q:R (VL c (h-c).toNat) H):wpAny (model X.prog X.w) X.A (pyIter (.ref s.heap.objs.size)) (YZ X pins j tg R) E {s with heap:=s.heap.push {cls:=.type "range",data:=.fields #[.int c t,.int h u,.int 1 v]},toks:=tk}:=by
 refine wpAny_pyIter_range (IsRange.new ..) (small_one y B G J) ?_;have r:Inv X pins j H {s with heap:=s.heap.push {cls:=.type "range",data:=.fields #[.int c t,.int h u,.int 1 v]},toks:=tk}:=I.kept λb o e=>aX _ e;refine⟨(s.heap.push {cls:=.type "range",data:=.fields #[.int c t,.int h u,.int 1 v]}).objs.size,[(s.heap.push {cls:=.type "range",data:=.fields #[.int c t,.int h u,.int 1 v]}).objs.size],_,_,H,rfl,
  r.kept (t':=tk) λb o e=>aX _ e,F5 _ c (h-c).toNat,?_,λb L=> ?_,q⟩
 have M:c+((0:Nat):Int)*1=c:=by simp
 have O:(((h-c).toNat:Nat):Int)-((0:Nat):Int)=Builtin.Range.rangeSize c h 1:=by rw[rangeSize_one];split<;>omega
 rw[M,O];exact dP _ rfl;have e:b=(s.heap.push {cls:=.type "range",data:=.fields #[.int c t,.int h u,.int 1 v]}).objs.size:=by simpa using L
 subst e;exact r.DS (aH _) (r.fK.fresh (aH _))
def VN(c:TA):TI:=λσ H R=>c σ H λvs h=>∃j:Int,vs=[.int j]∧-(2^62)<=j/\j<2^62/\R (VL 0 j.toNat) h
def VO(c:TA):TI:=λσ H R=>c σ H λvs h=>∃i j:Int,vs=[.int i,.int j]/\(-(2^62)<=i/\i<2^62∧-(2^62)<=j/\j<2^62)/\R (VL i (j-i).toNat) h
def JW{a:Expr}{o:TA}{p pos:Pos}(u:Gl X "range")(y:X.mg "range"=none)(B:PA X [a] o)(E:starEach [a] X.env=[(false,eval a X.env)]:=by rfl):PI X tg (.Call (.Name "range" p) [a] [] pos) (VN o):=by
 intro pins s G H R I h;refine Call_ (qe I u y boot_range (xr (ew (B pos pins s G H _ I h) λus M ⟨vs,H1,I1,r1,c⟩=> ?_) E rfl));obtain⟨j,e,c,J,q⟩:=c;subst e;cases r1 with
 |cons r L=>
  cases L;obtain⟨t,rfl⟩:=r;exact call_range_1 (DU I1 (by omega) (by omega) c J (by simpa using q))
def JX(y:Gl X "range")(B:X.mg "range"=none)(E:PA X [a,b] ta)(G:starEach [a,b] X.env=[(false,eval a X.env),(false,eval b X.env)]:=by rfl)(c:starEach [b] X.env=[(false,eval b X.env)]:=by rfl):
  PI X tg (.Call (.Name "range" p) [a,b] [] pos) (VO ta):=by
 intro pins s J H R I h
 refine Call_ (qe I y B boot_range (xr (ew (E pos pins s J H _ I h) λus Q ⟨vs,H1,I1,r1,o⟩=> ?_) (by rw[G,c]) (by rw[c];rfl)))
 obtain⟨i,j,e,⟨o,L,M,O⟩,q⟩:=o
 subst e
 cases r1 with
 |cons r u=>
  cases u with
  |cons P u=>
   cases u
   obtain⟨t,rfl⟩:=r
   obtain⟨t',rfl⟩:=P
   exact call_range_2 (DU I1 o L M O q)
def Y3(j:TI)(g:TG)(o:TS):TS:=λD σ H=>j σ H λJ q=>∃W:Nat->Nat->St->Hp->Prop,(∃m,W 0 m σ q)/\∀i m σ H,W i m σ H->
 (J.stop i H/\D.nx σ H)\/(J.go i H/\∃N:St->Hp->Prop,(∀σ' c,N σ' c->∃h,h<m/\W (i+1) h σ' c)/\∀x c,J.Lz i H x c->g x σ c λσ2 r=>o {D with nx:=N,ct:=N,bk:=D.nx} σ2 r)
noncomputable def yZ(c:oj)(h:Heap):m2:=c.filterMap λb=>(h.get? b).map λo=>(b,o)
def ue(c:b∈j)(e:h.get? b=some o):(b,o)∈yZ j h:=yR.mpr ⟨b,c,by rw[e];rfl⟩
def JY(c:p∈yZ j h):p.1∈j/\h.get? p.1=some p.2:=by
 obtain⟨b,r,e⟩:=yR.mp c;cases q:h.get? b with
 |none=>rw[q]at e;cases e
 |some o=>
  rw[q]at e;have e':(b,o)=p:=jN e;subst e';exact⟨r,q⟩
def Inv.pinned(I:Inv X pins σ H s)(j:∀b∈c,xK X pins H b)(q:∀b∈c,∃o,s.heap.get? b=some o/\∀v,o.data≠.cell v):Inv X (pins++yZ c s.heap) σ H s:=I.HB λp r=>(List.mem_append.mp r).elim (λz=>I.pin p (q0 _ z)) λz=>by obtain⟨h,e⟩:=JY z;obtain⟨u,y,B,_⟩:=j p.1 h;obtain⟨o,e',d⟩:=q p.1 h;rw[e]at e';cases e';exact⟨e,u,y,B,d⟩
def Inv.va(I:Inv X (pins++pl) σ H s):Inv X pins σ H s:=I.HB λp c=>I.pin p (q0 _ (o0 _ c))
def RZ(P:PassesOwn (model X.prog X.w) X.A X.env X.xe)(p:X.calm=true)(hi:PI X tg iter wi)(hg:PG X tg g)(q:gG X body tb) (hs:∀x,foldedSetIterable iter X.env x=pure x:=by intro _;rfl):PS X (.For tg iter body [] pos) (Y3 wi g tb):=by
 intro pins s t H D I h;refine wpAny_For (ew (hi pins s t H _ I h) λv s1 h1=>ew h1 λza s2 h2=> ?_) hs;obtain⟨it,Q,z,J,H2,e,I2,T,S,f2,W,⟨m0,w0⟩,U⟩:=h2;subst e;have y:∀{L:Hp},(∀b∈Q,L b=none)->∀b∈Q,xK X pins L b:=λhn b q=>⟨hn b q,(f2 b q).2⟩;refine codeAny_forLoop_any (λn s'=>∃i σ' L,Inv X pins σ' L s'/\z i s'.heap/\(∀b∈Q,L b=none)/\W i n σ' L) ?_ m0 ⟨0,t,H2,I2,S,λb q=>(f2 b q).1,w0⟩;rintro n s3 ⟨i,σ3,R,I3,Y,Z,w3⟩;rcases U i n σ3 R w3 with⟨C,qn⟩|⟨go,N,hN,F⟩
 ·refine p_ P (ew (T.done X rfl rfl rfl p i pins s3 σ3 R X.xe I3 (y Z) Y C) λr s4 j=> ?_);obtain⟨K,I4⟩:=j;subst K;exact yq ⟨σ3,R,I4,qn⟩
 ·refine p_ P (ew (T.item X rfl rfl rfl p i pins s3 σ3 R X.xe I3 (y Z) Y go) λr s4 j=> ?_);obtain⟨u,K,h4⟩:=j;subst K;refine p_ P (ew h4 λ_ s5 j=> ?_);obtain⟨x,H5,I5,r5,y5,O,a⟩:=j;have k:=I5.pinned (y a) (T.obj _ _ O);refine p_ P (ew (hg _ s5 σ3 H5 x u _ k r5 (F x H5 y5)) λ_ s6 j=> ?_);obtain⟨σ6,H6,I6,q6⟩:=j;refine p_ P (ew (q _ s6 σ6 H6 _ I6 q6) λf l M=> ?_);have B:∀{c:St} {E:Hp},Inv X (pins++yZ Q s5.heap) c E l->N c E->∃m,m<n/\∃i σ' L,Inv X pins σ' L l/\z i l.heap/\(∀b∈Q,L b=none)/\W i m σ' L:=λ{c E} G V=>by obtain⟨m',hm,w7⟩:=hN c E V;refine⟨m',hm,i+1,c,E,G.va,T.keep _ _ _ O λb q o e=>(G.pin (b,o) (q0 _ (q0 _ (ue q e)))).1,λb q=> ?_,w7⟩;obtain⟨o,e,d⟩:=T.obj _ _ O b q;exact(G.pin (b,o) (q0 _ (q0 _ (ue q e)))).2.1
  cases f with
  |next=>obtain⟨c,E,G,V⟩:=M;exact B G V
  |cont=>obtain⟨c,E,G,V⟩:=M;exact B G V
  |brk=>obtain⟨c,E,G,M⟩:=M;exact⟨c,E,G.va,M⟩
  |ret v=>obtain⟨x7,c,E,G,r7,M⟩:=M;exact⟨x7,c,E,G.va,r7,M⟩
abbrev R2:=V->V->Hp->VK->Prop
def lp(X:Cx)(f:Value->Value->Sem Value)(r:R2):Prop:=∀(pins:m2) (s:Shared) (σ:St) (H:Hp) (x y:V) (v u:Value) (Q:VK),Inv X pins σ H s->RelV x v->RelV y u->r x y H Q->
  wpAny (model X.prog X.w) X.A (f v u) (EP X pins σ Q) X.xe s
def Yp(X:Cx)(f:Value->Sem Value)(r:V->Hp->VK->Prop):Prop:=∀(pins:m2) (s:Shared) (σ:St) (H:Hp) (x:V) (v:Value) (Q:VK),Inv X pins σ H s->RelV x v->r x H Q->
  wpAny (model X.prog X.w) X.A (f v) (EP X pins σ Q) X.xe s
def vb(X:Cx)(f:Value)(r:List V->Hp->VK->Prop):Prop:=∀(pins:m2) (s:Shared) (σ:St) (H:Hp) (xs:List V) (us:TyJ) (Q:VK),Inv X pins σ H s->Vals xs us->r xs H Q->
  wpAny (model X.prog X.w) X.A (call f us) (EP X pins σ Q) X.xe s
def Y4(X:Cx)(r:V->Hp->(Bool->Hp->Prop)->Prop):Prop:=∀(pins:m2) (s:Shared) (σ:St) (H:Hp) (x:V) (v:Value) (Q:Bool->Hp->Prop),Inv X pins σ H s->RelV x v->r x H Q->
  wpAny (model X.prog X.w) X.A (truthy v) (TP X pins σ Q) X.xe s
def OF(r:R2)(c h:TE):TE:=λσ H Q=>c σ H λx j=>h σ j λy o=>r x y o Q
def tUn(r:V->Hp->VK->Prop)(c:TE):TE:=λσ H Q=>c σ H λx h=>r x h Q
def rI(C:Int->Int->Prop)(g:Int->Int->V):R2:=λx y H Q=>∃i j,x=.int i/\y=.int j/\C i j/\Q (g i j) H
def DV(g:Int->Int->V):R2:=λx y H Q=>∃i j,x=.int i/\y=.int j/\Q (g i j) H
def rU(g:Int->V):V->Hp->VK->Prop:=λx H Q=>∃i,x=.int i/\Q (g i) H
def R0(G:PE X a ta)(J:PE X b tb){pins:m2}{s:Shared}{j:St}{H:Hp}{R:V->V->Hp->Prop}(I:Inv X pins j H s) (h:ta j H λx E=>tb j E λy o=>R x y o){Q:wo}{f:Value->Value->Sem Value} (L:∀v u B x y o,Inv X pins j o B->RelV x v->RelV y u->R x y o->wpAny (model X.prog X.w) X.A (f v u) Q X.xe B):wpAny (model X.prog X.w) X.A (eval a X.env) (λv q=>wpAny (model X.prog X.w) X.A (eval b X.env) (λu r=>wpAny (model X.prog X.w) X.A (f v u) Q X.xe r) X.xe q) X.xe s:=by refine ew (G pins s j H _ I h) λv M c=> ?_;obtain⟨x,E,O,P,U⟩:=c;refine ew (J pins M j E _ O U) λu B c=> ?_;obtain⟨y,o,Y,Z,T⟩:=c;exact L v u B x y o Y P Z T
def xx(c:lp X (binaryOp op) r)(j:PE X a ta)(o:PE X b tb):PE X (.BinOp a op b pos) (OF r ta tb):=by intro pins s B H Q I h;exact wpAny_BinOp (R0 j o I h λv u E x y G J L M q=>c pins E B G x y v u Q J L M q)
def Q6(o:Yp X (unaryOp op) r)(q:PE X a ta):PE X (.UnaryOp op a pos) (tUn r ta):=by intro pins s j H Q I h;exact UnaryOp_ (ew (q pins s j H _ I h) λv u c=>by obtain⟨x,y,B,E,G⟩:=c;exact o pins u j y x v Q B E G)
def Ob{f:Value->Value->Sem Value}{C:Int->Int->Prop}{g:Int->Int->Int} (c:∀(i j) (t u:Tok) (s) (Q:wo) (E:wo),C i j->Q (.int (g i j) s.toks) {s with toks:=s.toks+1}->wpAny (model X.prog X.w) X.A (f (.int i t) (.int j u)) Q E s):lp X f (rI C λi j=>.int (g i j)):=by intro pins s G H x y v u Q I o r h;obtain⟨i,j,rfl,rfl,B,q⟩:=h;obtain⟨t,rfl⟩:=o;obtain⟨t',rfl⟩:=r;exact c i j t t' s _ _ B ⟨.int (g i j),H,I.tok _,⟨_,rfl⟩,q⟩
def AN{f:Value->Value->Sem Value}{g:Int->Int->Int} (c:∀(i j) (t u:Tok) (s) (Q:wo) (E:wo),Q (.int (g i j) s.toks) {s with toks:=s.toks+1}->wpAny (model X.prog X.w) X.A (f (.int i t) (.int j u)) Q E s):lp X f (DV λi j=>.int (g i j)):=by intro pins s B H x y v u Q I o r h;obtain⟨i,j,rfl,rfl,q⟩:=h;obtain⟨t,rfl⟩:=o;obtain⟨t',rfl⟩:=r;exact c i j t t' s _ _ ⟨.int (g i j),H,I.tok _,⟨_,rfl⟩,q⟩
def OG{f:Value->Value->Sem Value}{g:Int->Int->Bool} (c:∀(i j) (t u:Tok) (s) (Q:wo) (E:wo),Q (.bool (g i j)) s->wpAny (model X.prog X.w) X.A (f (.int i t) (.int j u)) Q E s):lp X f (DV λi j=>.bl (g i j)):=by intro pins s B H x y v u Q I o r h;obtain⟨i,j,rfl,rfl,q⟩:=h;obtain⟨t,rfl⟩:=o;obtain⟨t',rfl⟩:=r;exact c i j t t' s _ _ ⟨.bl (g i j),H,I,rfl,q⟩
def LA(i j:Int):Prop:=0<j/\j<1073741824
def JZ(i j:Int):Prop:=(-(2^64)<i/\i<2^64)\/(-(2^64)<j/\j<2^64)
def JZ.ok(h:JZ i j):IntMulOk i j:=by rcases h with⟨c,o⟩|⟨c,o⟩;exact .of_left (intBits_le_64 c o);exact .of_right (intBits_le_64 c o)
def y1(k):(0:Int)<=2^k:=by rw[two_pow_cast];exact Int.natCast_nonneg _
def R1:lp X (binaryOp .Add) (DV λi j=>.int (i+j)):=AN λ_ _ _ _ _ _ _ q=>add_int q
def R6:lp X (binaryOp .Sub) (DV λi j=>.int (i-j)):=AN λ_ _ _ _ _ _ _ q=>sub_int q
def R7:lp X (binaryOp .Mult) (rI JZ λi j=>.int (i*j)):=Ob λ_ _ _ _ _ _ _ c q=>mul_int q c.ok
def HG:lp X (binaryOp .FloorDiv) (rI LA λi j=>.int (i/j)):=Ob λi j _ _ _ _ _ c q=>by have h:(0)<j:=c.1;have o:j<1073741824:=c.2;exact floordiv_int (by omega) (by rw[Hz i (by omega)];exact q) (.inl (FX (by omega)))
def R8:lp X (binaryOp .Mod) (rI (λ_ j=>0<j) λi j=>.int (i % j)):=Ob λi j _ _ _ _ _ c q=>by have h:(0)<j:=c;exact mod_int' (by omega) (by rw[kt i (by omega)];exact q)
def R9:lp X (binaryOp .RShift) (rI (λ_ j=>0<=j) λi j=>.int (i/2^j.toNat)):=Ob λi j _ _ _ _ _ c q=>
 rshift_int c (by rw[Hz i (y1 _)];exact q)
def R_:lp X (binaryOp .BitAnd) (DV λi j=>.int (Builtin.bitAnd i j)):=AN λ_ _ _ _ _ _ _ q=>and_int q
def VP:lp X (binaryOp .BitOr) (DV λi j=>.int (Builtin.bitOr i j)):=AN λ_ _ _ _ _ _ _ q=>or_int q
def Sa:lp X (binaryOp .BitXor) (DV λi j=>.int (Builtin.bitXor i j)):=AN λ_ _ _ _ _ _ _ q=>xor_int q
def OH:lp X (inplaceOp .Add) (DV λi j=>.int (i+j)):=AN λ_ _ _ _ _ _ _ q=>iadd_int q
def OI:lp X (inplaceOp .Sub) (DV λi j=>.int (i-j)):=AN λ_ _ _ _ _ _ _ q=>isub_int q
def OJ:lp X (inplaceOp .Mult) (rI JZ λi j=>.int (i*j)):=Ob λ_ _ _ _ _ _ _ c q=>imul_int q c.ok
def LB:lp X (inplaceOp .FloorDiv) (rI LA λi j=>.int (i/j)):=Ob λi j _ _ _ _ _ c q=>by have h:(0)<j:=c.1;have o:j<1073741824:=c.2;exact ifloordiv_int (by omega) (by rw[Hz i (by omega)];exact q) (.inl (FX (by omega)))
def OK:lp X (inplaceOp .Mod) (rI (λ_ j=>0<j) λi j=>.int (i % j)):=Ob λi j _ _ _ _ _ c q=>by have h:(0)<j:=c;exact imod_int (by omega) (by rw[kt i (by omega)];exact q)
def OL:lp X (inplaceOp .RShift) (rI (λ_ j=>0<=j) λi j=>.int (i/2^j.toNat)):=Ob λi j _ _ _ _ _ c q=>
 irshift_int c (by rw[Hz i (y1 _)];exact q)
def OM:lp X (inplaceOp .BitAnd) (DV λi j=>.int (Builtin.bitAnd i j)):=AN λ_ _ _ _ _ _ _ q=>iand_int q
def Sb:lp X (inplaceOp .BitOr) (DV λi j=>.int (Builtin.bitOr i j)):=AN λ_ _ _ _ _ _ _ q=>ior_int q
def ON:lp X (inplaceOp .BitXor) (DV λi j=>.int (Builtin.bitXor i j)):=AN λ_ _ _ _ _ _ _ q=>ixor_int q
def unI{f:Value->Sem Value}{g:Int->Int} (c:∀(i) (t:Tok) (s) (Q:wo) (E:wo),Q (.int (g i) s.toks) {s with toks:=s.toks+1}->wpAny (model X.prog X.w) X.A (f (.int i t)) Q E s):Yp X f (rU λi=>.int (g i)):=by intro pins s o H x v Q I j h;obtain⟨i,rfl,q⟩:=h;obtain⟨t,rfl⟩:=j;exact c i t s _ _ ⟨.int (g i),H,I.tok _,⟨_,rfl⟩,q⟩
def Sd:Yp X (unaryOp .USub) (rU λi=>.int (-i)):=unI λ_ _ _ _ _ q=>neg_int q
def Se:Yp X (unaryOp .Invert) (rU λi=>.int (Builtin.bitNot i)):=unI λ_ _ _ _ _ q=>invert_int q
noncomputable def VQ:V->V->Bool
 |.cw,.cw=>true|.cw,.int _=>true|.int _,.cw=>true|.cw,.bl _=>true|.bl _,.cw=>true|.cw,.str _=>true|.str _,.cw=>true
 |.int _,.int _=>true|.bl _,.bl _=>true|.str _,.str _=>true|.F2 _,.F2 _=>true
 |.int _,.str _=>true|.str _,.int _=>true|.bl _,.str _=>true|.str _,.bl _=>true
 |_,_=>false
def rEq:R2:=λx y H Q=>VQ x y=true/\Q (.bl (decide (x=y))) H
def rNe:R2:=λx y H Q=>VQ x y=true/\Q (.bl (!decide (x=y))) H
def HH:decide (V.int i=V.int j)=(i==j):=by rw[nY];simp
def LC:decide (V.bl i=V.bl j)=(i==j):=by rw[nY];simp
def HI:decide (V.str i=V.str j)=(i==j):=by rw[nY];simp
def HJ:decide (V.F2 i=V.F2 j)=(i.toList==j.toList):=by rw[nY];cases i;cases j;simp
def cQ(I:Inv X pins σ H s)(q:Q (.bl k) H)(e:k=c):EP X pins σ Q (.bool c) s:=by subst e;exact⟨.bl k,H,I,rfl,q⟩
def Q7:lp X (compareOp .Eq) rEq:=by
 intro pins s B H x y v u Q I r c h;obtain⟨o,q⟩:=h;cases x with
 |cw=>
  cases r;cases y with
  |cw=>cases c;exact PySem.EqNone.eq_none_none (cQ I q (by simp))
  |bl j=>cases c;exact PySem.EqNone.eq_none_bool (cQ I q (by simp))
  |int j=>obtain⟨t',rfl⟩:=c;exact PySem.EqNone.eq_none_int (cQ I q (by simp))
  |str j=>obtain⟨t',rfl⟩:=c;exact PySem.EqNone.eq_none_str (cQ I q (by simp))
  |_=>exact absurd (show false=true from o) eu
 |bl i=>
  cases r;cases y with
  |cw=>cases c;exact PySem.EqNone.eq_bool_none (cQ I q (by simp))
  |bl j=>cases c;exact eq_bool (cQ I q LC)
  |str j=>obtain⟨t',rfl⟩:=c;exact PySem.EqMixed.eq_bool_str (cQ I q (by simp))
  |_=>exact absurd (show false=true from o) eu
 |int i=>
  obtain⟨t,rfl⟩:=r;cases y with
  |cw=>cases c;exact PySem.EqNone.eq_int_none (cQ I q (by simp))
  |int j=>obtain⟨t',rfl⟩:=c;exact eq_int (cQ I q HH)
  |str j=>obtain⟨t',rfl⟩:=c;exact PySem.EqMixed.eq_int_str (cQ I q (by simp))
  |_=>exact absurd (show false=true from o) eu
 |str i=>
  obtain⟨t,rfl⟩:=r;cases y with
  |cw=>cases c;exact PySem.EqNone.eq_str_none (cQ I q (by simp))
  |bl j=>cases c;exact PySem.EqMixed.eq_str_bool (cQ I q (by simp))
  |int j=>obtain⟨t',rfl⟩:=c;exact PySem.EqMixed.eq_str_int (cQ I q (by simp))
  |str j=>obtain⟨t',rfl⟩:=c;exact eq_str (cQ I q HI)
  |_=>exact absurd (show false=true from o) eu
 |F2 i=>
  obtain⟨t,rfl⟩:=r;cases y with
  |F2 j=>obtain⟨t',rfl⟩:=c;exact eq_bytes (cQ I q HJ)
  |_=>exact absurd (show false=true from o) eu
 |_=>cases y<;>exact absurd (show false=true from o) eu
def Q8:lp X (compareOp .NotEq) rNe:=by
 intro pins s B H x y v u Q I r c h;obtain⟨o,q⟩:=h;cases x with
 |cw=>
  cases r;cases y with
  |cw=>cases c;exact PySem.EqNone.ne_none_none (cQ I q (by simp))
  |bl j=>cases c;exact PySem.EqNone.ne_none_bool (cQ I q (by simp))
  |int j=>obtain⟨t',rfl⟩:=c;exact PySem.EqNone.ne_none_int (cQ I q (by simp))
  |str j=>obtain⟨t',rfl⟩:=c;exact PySem.EqNone.ne_none_str (cQ I q (by simp))
  |_=>exact absurd (show false=true from o) eu
 |bl i=>
  cases r;cases y with
  |cw=>cases c;exact PySem.EqNone.ne_bool_none (cQ I q (by simp))
  |bl j=>cases c;exact ne_bool (cQ I q (congrArg not LC))
  |str j=>obtain⟨t',rfl⟩:=c;exact PySem.EqMixed.ne_bool_str (cQ I q (by simp))
  |_=>exact absurd (show false=true from o) eu
 |int i=>
  obtain⟨t,rfl⟩:=r;cases y with
  |cw=>cases c;exact PySem.EqNone.ne_int_none (cQ I q (by simp))
  |int j=>obtain⟨t',rfl⟩:=c;exact ne_int (cQ I q (congrArg not HH))
  |str j=>obtain⟨t',rfl⟩:=c;exact PySem.EqMixed.ne_int_str (cQ I q (by simp))
  |_=>exact absurd (show false=true from o) eu
 |str i=>
  obtain⟨t,rfl⟩:=r;cases y with
  |cw=>cases c;exact PySem.EqNone.ne_str_none (cQ I q (by simp))
  |bl j=>cases c;exact PySem.EqMixed.ne_str_bool (cQ I q (by simp))
  |int j=>obtain⟨t',rfl⟩:=c;exact PySem.EqMixed.ne_str_int (cQ I q (by simp))
  |str j=>obtain⟨t',rfl⟩:=c;exact ne_str (cQ I q (congrArg not HI))
  |_=>exact absurd (show false=true from o) eu
 |F2 i=>
  obtain⟨t,rfl⟩:=r;cases y with
  |F2 j=>obtain⟨t',rfl⟩:=c;exact ne_bytes (cQ I q (congrArg not HJ))
  |_=>exact absurd (show false=true from o) eu
 |_=>cases y<;>exact absurd (show false=true from o) eu
def VR:lp X (compareOp .Lt) (DV λi j=>.bl (decide (i<j))):=OG λ_ _ _ _ _ _ _ q=>lt_int q
def VS:lp X (compareOp .LtE) (DV λi j=>.bl (decide (i<=j))):=OG λ_ _ _ _ _ _ _ q=>le_int q
def VT:lp X (compareOp .Gt) (DV λi j=>.bl (decide (j<i))):=OG λ_ _ _ _ _ _ _ q=>gt_int q
def VU:lp X (compareOp .GtE) (DV λi j=>.bl (decide (j<=i))):=OG λ_ _ _ _ _ _ _ q=>ge_int q
noncomputable def Cm(b)(h:op≠.In:=by decide)(c:op≠.NotIn:=by decide):behindInMarks op b=false:=by
 have j:(op==CmpOp.In)=false:=by cases op<;>first|rfl|exact absurd rfl h
 have o:(op==CmpOp.NotIn)=false:=by cases op<;>first|rfl|exact absurd rfl c
 cases b<;>simp[behindInMarks,j,o]
def HK(c:lp X (compareOp op) r)(j:PE X a ta)(o:PE X b tb)(B:behindInMarks op b=false):PE X (.Compare a [op] [b] pos) (OF r ta tb):=by intro pins s E H Q I h;exact wpAny_Compare1 (R0 j o I h λv u G x y J L M O q=>c pins G E J x y v u Q L M O q) B
def LD(t:TE):TT:=λσ H Q=>t σ H λx c=>∃k,x=.bl k/\Q k c
def HL(o:lp X (compareOp op) r)(q:PE X a ta)(B:PE X b tb)(E:behindInMarks op b=false):PT X (.Compare a [op] [b] pos) (LD (OF r ta tb)):=by
 intro pins s j H Q I h;refine wpAny_isTrue_Compare1 (ew (q pins s j H _ I h) λv G ⟨x,H1,I1,r1,q1⟩=>ew (B pins G j H1 _ I1 q1) λu J ⟨y,H2,I2,r2,q2⟩=>
  ew (o pins J j H2 x y v u _ I2 r1 r2 q2) λc L ⟨z,H3,I3,r3,k,e,q3⟩=> ?_) E
 subst e;cases r3;exact p6 ⟨H3,I3,q3⟩
def F6(r h:R2)(j o q:TE):TE:=λσ H Q=>j σ H λx s=>o σ s λy u=>r x y u λz c=>∃k,z=.bl k/\
 (if k=true then q σ c λB E=>h y B E Q else Q (.bl false) c)
noncomputable def LG(ho:lp X (compareOp op) r)(ho':lp X (compareOp op') r')(ha:PE X a ta)(hb:PE X b tb)(hc:PE X c tc) (hm:lastMarks [op,op'] [b,c]=false:=by with_unfolding_all rfl):PE X (.Compare a [op,op'] [b,c] pos) (F6 r r' ta tb tc):=by
 intro pins s σ H Q I h;refine Compare_chain (ew (ha pins s σ H _ I h) λv s1 ⟨x,H1,I1,r1,q1⟩=>chain_link (ew (hb pins s1 σ H1 _ I1 q1) λu s2 ⟨y,H2,I2,r2,q2⟩=>
  ew (ho pins s2 σ H2 x y v u _ I2 r1 r2 q2) λd s3 ⟨z,H3,I3,r3,k,e,q3⟩=> ?_)) hm
 subst e;cases r3;refine p6 ?_;cases k with
 |false=>exact ite_ff ⟨.bl false,H3,I3,rfl,q3⟩
 |true=>exact ite_tt (chain_last (ew (hc pins s3 σ H3 _ I3 q3) λw' s4 z0_=>by obtain⟨z',H4,I4,r4,q4⟩:=z0_;exact ho' pins s4 σ H4 y z' u w' Q I4 r2 r4 q4))
noncomputable def LH(ho:lp X (compareOp op) r)(ho':lp X (compareOp op') r')(ha:PE X a ta)(hb:PE X b tb)(hc:PE X c tc) (hm:lastMarks [op,op'] [b,c]=false:=by with_unfolding_all rfl):PT X (.Compare a [op,op'] [b,c] pos) (LD (F6 r r' ta tb tc)):=by
 intro pins s σ H Q I h;refine isTrue_chain (ew (ha pins s σ H _ I h) λv s1 ⟨x,H1,I1,r1,q1⟩=>test_link (ew (hb pins s1 σ H1 _ I1 q1) λu s2 ⟨y,H2,I2,r2,q2⟩=>
  ew (ho pins s2 σ H2 x y v u _ I2 r1 r2 q2) λd s3 ⟨z,H3,I3,r3,k,e,q3⟩=> ?_)) hm
 subst e;cases r3;refine p6 ?_;cases k with
 |false=>
  obtain⟨k',e',q'⟩:=q3;cases e';exact ite_ff ⟨H3,I3,q'⟩
 |true=>
  refine ite_tt (test_last (ew (hc pins s3 σ H3 _ I3 q3) λw' s4 ⟨z',H4,I4,r4,q4⟩=>ew (ho' pins s4 σ H4 y z' u w' _ I4 r2 r4 q4) λd' s5 z0_=> ?_));obtain⟨z2,H5,I5,r5,k2,e2,q5⟩:=z0_;subst e2;cases r5;exact p6 ⟨H5,I5,q5⟩
def VV(K:Frag)(x:V)(H:Hp)(k:Bool):Prop:=match x with
 |.cw=>k=false
 |.bl b=>k=b
 |.int i=>k=(i !=0)
 |.str y=>y.length<=sizeLine/\k=((y.length:Int) !=0)
 |.F2 y=>y.size<=sizeLine/\k=((y.size:Int) !=0)
 |.ref p=>(∃xs,dr K H p xs/\k= !xs.isEmpty)\/(∃xs,qM K H p xs/\k= !xs.isEmpty)\/∃c,H p=some (.dK c)/\k= !c.isEmpty
 |_=>False
def F7(r:KV c vs):(!vs.isEmpty)= !c.isEmpty:=by cases r<;>rfl
def y2(r:Vals xs c):(!c.toArray.isEmpty)= !xs.isEmpty:=by cases r<;>simp
def y3:(sizeLine)<2^63:=by rw[oh];decide
def Sf:Y4 X (λx H Q=>∃k,VV X.K x H k/\Q k H):=by
 intro pins s G H x v Q I o h;obtain⟨k,e,q⟩:=h;have J:=y3;have L:sizeLine=16777216:=oh;cases x with
 |cw=>
  cases o;have e':k=false:=e;subst e';exact truthy_none ⟨H,I,q⟩
 |bl b=>
  cases o;have e':k=b:=e;subst e';exact p6 ⟨H,I,q⟩
 |int i=>
  obtain⟨t,rfl⟩:=o;have e':k=(i !=0):=e;subst e';exact PySem.P.truthy_int ⟨H,I,q⟩
 |str y=>
  obtain⟨t,rfl⟩:=o;obtain⟨hy,e'⟩:y.length<=sizeLine/\k=((y.length:Int) !=0):=e;subst e';exact PySem.P.truthy_str (by omega) ⟨H,I.tok _,q⟩
 |F2 y=>
  obtain⟨t,rfl⟩:=o;obtain⟨hy,e'⟩:y.size<=sizeLine/\k=((y.size:Int) !=0):=e;subst e';exact truthy_bytes (by omega) ⟨H,I.tok _,q⟩
 |ref p=>
  cases o;have e':(∃xs,dr X.K H p xs/\k= !xs.isEmpty)\/(∃xs,qM X.K H p xs/\k= !xs.isEmpty)\/∃c,H p=some (.dK c)/\k= !c.isEmpty:=e;rcases e' with⟨xs,u,e'⟩|⟨xs,u,e'⟩|⟨c,u,e'⟩;subst e';obtain⟨B,r,pl,E⟩:=I.list u;have j:=r.length;exact wpAny_truthy_list pl.isList (by simp only[c4];omega) ⟨H,I.tok _,by rw[y2 r];exact q⟩;subst e';obtain⟨B,r,pl,E⟩:=I.tuple u;have j:=r.length;exact truthy_tuple pl (by simp only[c4];omega) ⟨H,I.tok _,by rw[y2 r];exact q⟩;subst e';obtain⟨E,hS,vs,r,m⟩:c.length<=sizeLine/\(p==sysModules)=false/\∃vs,KV c vs/\s.heap.DictOf (hH X.prog X.w) p vs:=I.fK p _ u;have j:c.length=vs.length:=Paired.length r;exact wpAny_truthy_dict hS m (by omega) ⟨H,I.tok _,by rw[F7 r];exact q⟩
 |_=>exact(show False from e).elim
def DW(r:PE X a ta)(he:∀c,isTrue a X.env c=(do let v<-c;standAt a.pos;holding [v] (truthy v))):
  PT X a (λj H Q=>ta j H λx q=>∃k,VV X.K x q k/\Q k q):=by
 intro pins s j H Q I h
 exact isTrue_plain (ew (r pins s j H _ I h) λv u o=>by obtain⟨x,y,B,E,G⟩:=o;exact Sf pins u j y x v Q B E G) (he _)
def vals1(r:Vals [x] us):∃u,us=[u]/\RelV x u:=by
 cases r with
 |cons c h=>cases h;exact⟨_,rfl,c⟩
def vals2(r:Vals [x,y] us):∃u c,us=[u,c]/\RelV x u/\RelV y c:=by
 cases r with
 |cons h j=>
  cases j with
  |cons o q=>cases q;exact⟨_,_,rfl,h,o⟩
def LJ:vb X (.builtin "abs") (λxs H Q=>∃i,xs=[.int i]/\Q (.int (if i<0 then-i else i)) H):=by intro pins s c H xs us Q I r h;obtain⟨i,rfl,q⟩:=h;obtain⟨u,rfl,t,rfl⟩:=vals1 r;exact call_abs_int λu tk=>⟨.int (if i<0 then-i else i),H,I.tok _,⟨_,rfl⟩,q⟩
def Bo(o:X.calm=true):vb X (.builtin "max") (λxs H Q=>∃i j,xs=[.int i,.int j]/\Q (.int (if j>i then j else i)) H):=by intro pins s y H xs us Q I r h;obtain⟨i,j,rfl,q⟩:=h;obtain⟨u,B,rfl,⟨t,rfl⟩,⟨t',rfl⟩⟩:=vals2 r;refine max_two_ints (I.ok.hd o) λh' tk k=>⟨_,H,I.kept k,?_,q⟩;by_cases c:j>i;rw[ae c,ae c];exact⟨_,rfl⟩;rw[ab c,ab c];exact⟨_,rfl⟩
def J0(o:X.calm=true):vb X (.builtin "min") (λxs H Q=>∃i j,xs=[.int i,.int j]/\Q (.int (if j<i then j else i)) H):=by intro pins s y H xs us Q I r h;obtain⟨i,j,rfl,q⟩:=h;obtain⟨u,B,rfl,⟨t,rfl⟩,⟨t',rfl⟩⟩:=vals2 r;refine min_two_ints (I.ok.hd o) λh' tk k=>⟨_,H,I.kept k,?_,q⟩;by_cases c:j<i;rw[ae c,ae c];exact⟨_,rfl⟩;rw[ab c,ab c];exact⟨_,rfl⟩
structure F8(h:Heap)(x dx C:Addr)(mA:qL):Prop where
 obj:h.get? x=some (instObj C dx)
 ns:h.Ns1 dx mA
 ne:dx≠x
def J1{h:Heap}{j:Addr}{r:qL}(n:h.Ns1 j r):∃s,h.get? j=some s/\∀name,lookIn name s=some (r name):=by
 obtain⟨o,u,M,B,E,G,_,H⟩:=n;refine⟨o,B,λname=> ?_⟩;have e:=H name;unfold nsFind findBy at e;rw[<-Array.find?_toList]at e;unfold lookIn;rw[E];dsimp only;split;rename_i y q;rw[q]at e;exact congrArg some e;rename_i q;rw[q]at e;have a:u.toList.any (·.refKey)=false:=by rw[List.any_eq_false];intro y J;obtain⟨z,t,c⟩:=G y (Array.mem_toList_iff.mp J);simp[DictEntry.refKey,c]
 have L:¬u.toList.any (·.refKey)=true:=by rw[a];exact eu
 rw[ab L];exact congrArg some e
def F8.look(I:F8 h x j C o):∃c,InstAt h x (instObj C j) C (some c)/\∀name,lookIn name c=some (o name):=let ⟨c,ho,hl⟩:=J1 I.ns
 ⟨c,⟨I.obj,rfl,rfl,ho⟩,hl⟩
section
variable {prog:Program} {w:World} {A:Around} {E:wo} {s:Shared} {K:Frag} {x dx C f:Addr} {mA:qL} {name:Str} {v:Value}
def get_map{c:Bool}{Q:wo}(X:K.In s.heap)(I:F8 s.heap x dx C mA)(o:plainGet K C name=true)(q:hasDictIn K C=true) (r:findIn K (.ref C) name=some none)(u:mA name=some v)(j:handedIn v=true)(h:Q v {s with toks:=s.toks+1}):wpAny (model prog w) A (getAttr (.ref x) name c) Q E s:=by obtain⟨B,J,y⟩:=I.look;exact get_value X J (plainGet_of o).1 (findObj_own q r rfl (by rw[y,u])) j h
def LK(X:K.In s.heap)(I:F8 s.heap x dx C mA)(c:plainGet K C name=true) (j:findIn K (.ref C) name=some (some (.ref f)))(o:isFn K (.ref f)=true)(q:mA name=none)(h:Q (.ref f,[.ref x]) s):wpAny (model prog w) A (getMethod (.ref x) name pl) Q E s:=by obtain⟨r,J,u⟩:=I.look;exact method_fn X J (plainGet_of c).1 (plainGet_of c).2 j (beq_iff_eq.mp o) (by show(lookIn name r).map (·.isSome)=some false;rw[u,q];rfl) h
def OO{ns:jR}{Q:Unit->Shared->Prop}(X:K.In s.heap)(I:F8 s.heap x dx C mA) (G:findIn K (.ref C) "__setattr__"=some (some (.builtin "object.__setattr__")))(H:plainOver K C=true)(L:takerIn K C name=some none)(M:hasDictIn K C=true) (O:PySem.Within mA ns)(hsz:ns.length<=sizeLine) (h:∀h',F8 h' x dx C (λy=>if y=name then some v else mA y)->Heap.SameBut dx s.heap h'->Q () {s with heap:=h',toks:=s.toks+2}):wpAny (model prog w) A (setAttr (.ref x) name v) Q E s:=by obtain⟨T,J,F⟩:=I.look;refine set_plain X J G (osa_open (s:={s with toks:=s.toks+1}) (r:=none) X J H L λb=> ?_);obtain⟨cd,P,o⟩:=any_some M;have U:s.heap.get? x=some ⟨.ref C,some dx,.plain,#[]⟩:=I.obj;refine af (aQ (af (af (wpAny_loadPart U (af (Looks.here (s:={s with toks:=s.toks+1}) (looks_clsIn X P) ?_))))));rw[o];refine aQ (a:=some dx) (af (aQ (af ?_)));refine wpAny_nsSet1 (s:={s with toks:=s.toks+1}) I.ns λh' c j=> ?_;obtain⟨D,Y,Z,q,u,B⟩:=c.count (PySem.Within.cons name v O);refine af (wpAny_lookBehind q (by rw[u];exact pastItsLine_dict (eF B (by rw[fJ];omega))) ?_);exact aQ (h _ ⟨(j.2 _ (jQ I.ne)).trans I.obj,c,I.ne⟩ j)
def LL{R:Result->Shared->Prop}{vs:TyJ}{j:List (Str×Value)}(X:K.In s.heap)(o:makesIn K C=true) (q:findIn K (.ref C) "__init__"=some (some (.ref f)))(r:typeIn K (.ref f)=some (.type "function")) (h:codeAny (model prog w) (A.under (.builtin "type.__call__" ⟨.ref C::vs,j⟩)) (.call (.ref f) ⟨.ref (s.heap.objs.size+1)::vs,j⟩) (InitBack (s.heap.objs.size+1) R) {s with heap:=(s.heap.push emptyDict).push (instObj C s.heap.objs.size)}):codeAny (model prog w) A (.call (.ref C) ⟨vs,j⟩) R s:=by obtain⟨u,g,d,t,y⟩:=s;exact make_core (makes_of X o) (looks_findIn X q) (λc=>bind_fn X c r) (.inl rfl) h
end
noncomputable def oI(f:Str)(v:V):List (Str×V)->List (Str×V)
 |[]=>[(f,v)]
 |(g,x)::r=>if g=f then(g,v)::r else(g,x)::oI f v r
theorem xy(f g)(v):∀fs:List (Str×V),(oI f v fs).lookup g=if g=f then some v else fs.lookup g
 |[]=>by show P1 g [(f,v)]=_;by_cases h:g=f;have c:(g==f)=true:=beq_iff_eq.mpr h;simp only[P1,c,ae h];have c:(g==f)=false:=beq_eq_false_iff_ne.mpr h;simp only[P1,c,ab h]
 |(k,x)::r=>by have o:=xy f g v r;rw[show oI f v ((k,x)::r)=(if k=f then(k,v)::r else(k,x)::oI f v r)from rfl];by_cases j:k=f;rw[ae j];by_cases h:g=k;have c:(g==k)=true:=beq_iff_eq.mpr h;simp only[P1,c,ae (h.trans j)];have c:(g==k)=false:=beq_eq_false_iff_ne.mpr h;simp only[P1,c,ab (λe:g=f=>h (e.trans j.symm))];rw[ab j];by_cases h:g=k;have c:(g==k)=true:=beq_iff_eq.mpr h;simp only[P1,c,ab (λe:g=f=>j (h.symm.trans e))];have c:(g==k)=false:=beq_eq_false_iff_ne.mpr h;simp only[P1,c];exact o
theorem wu(f)(v):∀fs:List (Str×V),f∈(oI f v fs).map (·.1)/\∀g,g∈fs.map (·.1)->g∈(oI f v fs).map (·.1)
 |[]=>⟨by simp[oI],λg h=>by simp at h⟩
 |(k,x)::r=>by obtain⟨j,o⟩:=wu f v r;rw[show oI f v ((k,x)::r)=(if k=f then(k,v)::r else(k,x)::oI f v r)from rfl];by_cases c:k=f;rw[ae c];subst c;exact⟨by simp,λg h=>by simpa using h⟩;rw[ab c];refine⟨?_,λg h=> ?_⟩;rw[bI];exact d7 _ j;rw[bI]at h|-;rcases aA.mp h with e|e;exact aA.mpr (.inl e);exact d7 _ (o g e)
theorem xA(f)(v):∀fs:List (Str×V),(oI f v fs).length<=fs.length+1
 |[]=>by simp[oI]
 |(k,x)::r=>by have h:=xA f v r;rw[show oI f v ((k,x)::r)=(if k=f then(k,v)::r else(k,x)::oI f v r)from rfl];by_cases c:k=f;rw[ae c,fJ,fJ];omega;rw[ab c,fJ,fJ];omega
def xH.some_of(r:xH (some v) o):∃u,o=some u/\RelV v u:=by
 cases o with
 |none=>exact(show False from r).elim
 |some u=>exact⟨u,rfl,r⟩
def xH.none_of(r:xH none o):o=none:=by
 cases o with
 |none=>rfl
 |some u=>exact(show False from r).elim
def J2(r:RelV v u):handedIn u=true:=by
 cases v with
 |cw=>cases(show u=Value.none from r);rfl
 |bl b=>cases(show u=Value.bool b from r);rfl
 |int i=>obtain⟨t,e⟩:=(show ∃t,u=Value.int i t from r);cases e;rfl
 |str x=>obtain⟨t,e⟩:=(show ∃t,u=Value.str x t from r);cases e;rfl
 |F2 b=>obtain⟨t,e⟩:=(show ∃t,u=Value.bytes b t from r);cases e;rfl
 |Vv b=>obtain⟨t,e⟩:=(show ∃t,u=Value.float b t from r);cases e;rfl
 |ref a=>cases(show u=Value.ref a from r);rfl
 |ty n=>cases(show u=Value.type n from r);rfl
def Cn(j:xI P w H h)(e:H a=some (.ins C o fs)):∃c,F8 h a o C c/\(∀f,xH (fs.lookup f) (c f))/\PySem.Within c (fs.map (·.1))/\fs.length<=1000/\H o=some (.own a):=by obtain⟨d,z,s,u,c,n,r,q⟩:=(show gF P w H h a (.ins C o fs)from j a _ e);exact⟨c,⟨u,n,s⟩,r,q,z,d⟩
structure DF(K:Frag)(C:Addr):Prop where
 pg:plainGet K C Str.empty=true
 hd:hasDictIn K C=true
 po:plainOver K C=true
 sa:findIn K (.ref C) "__setattr__"=some (some (.builtin "object.__setattr__"))
def DF.get{K:Frag}{C:Addr}(c:DF K C)(f):plainGet K C f=true:=c.pg
def gW(K:Frag)(C:Addr)(f:Str):Prop:=findIn K (.ref C) f=some none
def gW.VW{K:Frag}{C:Addr}{f:Str}(n:gW K C f):takerIn K C f=some none:=by unfold takerIn;rw[show findIn K (.ref C) f=some none from n];rfl
structure Meth(K:Frag)(C:Addr)(m:Str)(f:Addr):Prop where
 at_:findIn K (.ref C) m=some (some (.ref f))
 fn:isFn K (.ref f)=true
 kp:keepIn K (.ref f)=true
def F9(I:Inv X pins σ H s)(e:H a=some (.ins C G fs))(c:DF X.K C)(n:gW X.K C f)(l:fs.lookup f=some v) (h:∀u j,Inv X pins σ H j->RelV v u->Q u j):wpAny (model X.prog X.w) A (getAttr (.ref a) f b) Q E s:=by obtain⟨y,O,r,_,_,_⟩:=Cn I.fK e;obtain⟨u,B,q⟩:=xH.some_of (v:=v) (o:=y f) (by rw[<-l];exact r f);exact get_map I.Cg O (c.get f) c.hd n B (J2 q) (h u _ (I.tok _) q)
def F_(I:Inv X pins σ H s)(e:H a=some (.ins C q fs))(c:DF X.K C)(k:Meth X.K C m g)(l:fs.lookup m=none) (h:Q (.ref g,[.ref a]) s):wpAny (model X.prog X.w) A (getMethod (.ref a) m pl) Q E s:=by obtain⟨j,O,r,_,_,_⟩:=Cn I.fK e;have o:j m=none:=xH.none_of (by rw[<-l];exact r m);exact LK I.Cg O (c.get m) k.at_ k.fn o h
def Ga{y:V}{u:Value}{Q:Unit->Shared->Prop}(I:Inv X pins σ H s)(e:H a=some (.ins C j fs))(c:DF X.K C)(n:gW X.K C f)(F:fs.length<1000)(P:RelV y u) (h:∀G,Inv X pins σ (upd H a (.ins C j (oI f y fs))) G->Q () G):wpAny (model X.prog X.w) A (setAttr (.ref a) f u) Q E s:=by
 obtain⟨J,O,r,L,_,M⟩:=Cn I.fK e;have U:(fs.map (·.1)).length<=sizeLine:=by rw[aP,oh];omega
 refine OO I.Cg O c.sa c.po n.VW c.hd L U λh' B Y=>h _ ?_;have hd:∃o,h'.get? j=some o:=let ⟨o,_,_,e',_⟩:=B.ns;⟨o,e'⟩;refine I.write (x:=a) (e:=j) (by rw[e];exact True.intro) (.inr M) (λb q Z z=>(Y.2 b Z).trans z) hd ?_;refine⟨by rw[ao O.ne];exact M,?_,O.ne,B.obj,_,B.ns,λg=> ?_,λg T=> ?_⟩;have:=xA f y fs;omega;show xH ((oI f y fs).lookup g) (if g=f then some u else J g);rw[xy];by_cases q:g=f;rw[ae q,ae q];exact P;rw[ab q,ab q];exact r g;by_cases q:g=f;rw[q];exact(wu f y fs).1;refine(wu f y fs).2 g (L g λz=>T ?_);show(if g=f then some u else J g)=none;rw[ab q];exact z
def Inv.made(I:Inv X pins σ H s):Inv X pins σ (upd (upd H s.heap.objs.size (.own (s.heap.objs.size+1))) (s.heap.objs.size+1) (.ins C s.heap.objs.size [])) {s with heap:=(s.heap.push emptyDict).push (instObj C s.heap.objs.size)}:=by
 have c:(s.heap.push emptyDict).get? s.heap.objs.size=some emptyDict:=dP s.heap rfl;have j:((s.heap.push emptyDict).push (instObj C s.heap.objs.size)).get? (s.heap.objs.size+1)=some (instObj C s.heap.objs.size):=by have:=dP (s.heap.push emptyDict) (o:=instObj C s.heap.objs.size) rfl;rwa [dv]at this
 have r:(s.heap.push emptyDict).Ns s.heap.objs.size (λ_=>none):=⟨emptyDict,#[],_,c,rfl,(λe he=>absurd he (by simp)),λ_=>rfl⟩;have B:=I.laid (a:=s.heap.objs.size) (o:=.own (s.heap.objs.size+1)) (h':=s.heap.push emptyDict) (t':=s.toks) (λb u q=>aX _ q) (aH _) ⟨_,c⟩;refine B.laid (a:=s.heap.objs.size+1) (o:=.ins C s.heap.objs.size []) (t':=s.toks) (λb u q=>aX _ q) (qa (dv _ _)) ?_;have h:s.heap.objs.size≠s.heap.objs.size+1:=cV (bn _);refine⟨by rw[ao h,aC],mD _,h,j,λ_=>none,(Heap.Ns1.of_empty r).at λo q=>aX _ q,λ_=>True.intro,λy E=>absurd rfl E⟩
def OP(j:attributeBase e f env (eval e env)=eval e env) (h:wpAny (model prog w) A (eval e env) (λo c=>wpAny (model prog w) A (getAttr o f true) Q E c) E s):wpAny (model prog w) A (eval (.Attribute e f pos) env) Q E s:=Attribute_any_ h (by rw[arm_eval_Attribute,j])
def Sg(K:Frag)(h:TE)(f:Str):TE:=λσ H Q=>h σ H λx c=>∃a C j fs v,x=.ref a/\c a=some (.ins C j fs)/\DF K C/\gW K C f/\fs.lookup f=some v/\Q v c
def OQ(K:Frag)(j o:TE)(f:Str):TS:=λD σ H=>o σ H λy q=>j σ q λx c=>∃a C h fs,x=.ref a/\c a=some (.ins C h fs)/\DF K C/\gW K C f/\fs.length<1000/\
 D.nx σ (upd c a (.ins C h (oI f y fs)))
def rg(he:PE X e ta)(o:attributeBase e f X.env (eval e X.env)=eval e X.env):PE X (.Attribute e f pos) (Sg X.K ta f):=by intro pins s r H Q I h;refine OP o (ew (he pins s r H _ I h) λu O j=> ?_);obtain⟨x,y,B,E,a,C,P,fs,v,G,J,c,n,l,q⟩:=j;subst G;obtain rfl:u=Value.ref a:=E;exact F9 B J c n l λU Y L M=>⟨v,y,L,M,q⟩
def iK(r:PE X o ta)(B:PE X value E)(G:swapsWith value (some (.Attribute o f pos')) pos.line X.env=pure false):PS X (.Assign [.Attribute o f pos'] value pos) (OQ X.K ta E f):=by intro pins s j H D I h;refine plainObj_wpAny_Assign_Attribute (ew (B pins s j H _ I h) λu J ⟨y,H1,I1,ry,q⟩=>ew (r pins J j H1 _ I1 q) λL O ⟨x,H2,I2,rx,a,C,dx,fs,ex,ea,c,n,l,q2⟩=> ?_) G;subst ex;obtain rfl:L=Value.ref a:=rx;exact Ga I2 ea c n l ry λP M=>⟨j,_,M,q2⟩
structure gH(k:Nat)(A:Around):Prop where
 hd:A.handled=none
 dp:A.depth+3*k+5<recursionLimit
 un:A.units+16*k+200<cLine
def gH.mono(r:gH k A)(h:j<=k):gH j A:=⟨r.hd,by have:=r.dp;omega,by have:=r.un;omega⟩
def gH.deeper(r:gH (k+1) A)(env):gH k (A.deeper env):=⟨r.hd,by have:=r.dp;show A.depth+1+3*k+5<_;omega,by have:=r.un;show A.units+3+16*k+200<_;omega⟩
def Gb{A:Around}{C:Addr}{us:TyJ}{c:List (Str×Value)}:(A.under (.builtin "type.__call__" ⟨.ref C::us,c⟩)).depth=A.depth+1:=by first|rfl|simp[Around.under,Code.weight,Code.isCreation,Code.isGuard,Code.isCaller,Code.frames,Code.isFrame,guardIds]
def Gd{A:Around}{C:Addr}{us:TyJ}{c:List (Str×Value)}:(A.under (.builtin "type.__call__" ⟨.ref C::us,c⟩)).units=A.units+1:=by first|rfl|simp[Around.under,Code.cUnits,Code.frames,Code.isFrame]
def gH.make(r:gH (k+1) A)(C)(us)(kw):gH k (A.under (.builtin "type.__call__" ⟨.ref C::us,kw⟩)):=⟨r.hd,by have:=r.dp;rw[Gb];omega,by have:=r.un;rw[Gd];omega⟩
def gH.depth(r:gH k A):A.depth<recursionLimit:=by have:=r.dp;omega
def gH.units(r:gH k A):A.units+64<cLine:=by have:=r.un;omega
def DX:TA:=λ_ H Q=>Q [] H
def qN(c:TE)(h:TA):TA:=λσ H Q=>c σ H λx j=>h σ j λxs o=>Q (x::xs) o
def fj:PA X [] DX:=λ_ _ _ _ H Q I h=>Calls.spliced_nil ⟨[],H,I,.nil,h⟩
noncomputable def bJ(q:PE X e r)(y:PA X j t)(B:starEach (e::j) X.env=(false,eval e X.env)::starEach j X.env:=by rfl):PA X (e::j) (qN r t):=by intro pos pins s o H Q I h;rw[B];refine Calls.spliced_cons (ew (q pins s o H _ I h) λu E c=> ?_);obtain⟨x,G,J,L,M⟩:=c;exact ew (y pos pins E o G _ J M) λus Z c=>by obtain⟨xs,O,P,U,Y⟩:=c;exact⟨x::xs,O,P,.cons L U,Y⟩
def Y5(t:TA):TE:=λσ H Q=>t σ H λxs c=>xs.length<=sizeLine/\∀p,c p=none->Q (.ref p) (upd c p (.tup xs))
def VX(t:TA):TE:=λσ H Q=>t σ H λxs c=>xs.length<=sizeLine/\∀p,c p=none->Q (.ref p) (upd c p (.lst xs))
def Sh{j}(h:PA X o t):PE X (.Tuple o j pos) (Y5 t):=by intro pins s y H Q I B;refine wpAny_Tuple_spliced (ew (h pos pins s y H _ I B) λus c ⟨xs,H1,I1,r,z,q⟩=>⟨by rw[<-r.length];exact z,?_⟩);have E:H1 c.heap.objs.size=none:=I1.fK.fresh (aH _);refine⟨.ref c.heap.objs.size,upd H1 c.heap.objs.size (.tup xs),I1.laid (t':=c.toks) (λb u e=>aX _ e) (aH _) ?_,rfl,q _ E⟩;exact⟨z,us,r,⟨_,dP _ rfl,rfl,_,rfl⟩⟩
def wx(h:PA X j t):PE X (.List j pos) (VX t):=by intro pins s o H Q I y;refine wpAny_List_spliced (ew (h pos pins s o H _ I y) λus c ⟨xs,H1,I1,r,z,q⟩=>⟨by rw[<-r.length];exact z,?_⟩);have B:H1 c.heap.objs.size=none:=I1.fK.fresh (aH _);refine⟨.ref c.heap.objs.size,upd H1 c.heap.objs.size (.lst xs),I1.laid (t':=c.toks) (λb u e=>aX _ e) (aH _) ?_,rfl,q _ B⟩;exact⟨z,us,0,r,dP _ rfl⟩
abbrev Sp:=List V->Hp->VK->XK->Prop
abbrev Lh:=List Env->Hp->Shared->XK->Value->Shared->Prop
structure uf(P:Program)(w:World)(K:Frag)(mg:qL)(base:Heap)(A:Around)(outer:List Env)(s:Shared)(H:Hp):Prop where
 frames:A.frames=some outer
 mod:Mod K mg base
 bs:∀b o,base.get? b=some o->s.heap.get? b=some o/\H b=none
 Ln:base.objs.size<=s.heap.objs.size
 u9:s.heap.FunFrames base outer
 Oz:∀b∈Lm outer,H b=none
 fK:xI P w H s.heap
 bare:AllBare s.gens
def CE(c:List Env)(P:Program)(w:World)(H:Hp)(s:Shared)(Q:VK)(u:Value)(h:Shared):Prop:=∃v j,h.os=s.os/\AllBare h.gens/\Un (Lm c) [] H j s.heap h.heap/\xI P w j h.heap/\RelV v u/\Q v j
def CR(CX:Lh)(c:List Env)(P:Program)(w:World)(H:Hp)(s:Shared)(Q:VK)(E:XK)(r:Result)(h:Shared):Prop:=match r with
 |.ok (.ret u)=>CE c P w H s Q u h
 |.ok _=>False
 |.error e=>CX c H s E e h
structure nT(P:Program)(w:World)(K:Frag)(mg:qL)(base:Heap)(CX:Lh)(k:Nat)(f:Addr)(fd:FuncData)(ps:jR)(sp:Sp):Prop where
 len:∀vs H Q E,sp vs H Q E->vs.length=ps.length
 run:∀(A:Around) (outer:List Env) (s:Shared) (H:Hp) (args:Args) (us:TyJ) (vs:List V) (Q:VK) (E:XK),gH k A->uf P w K mg base A outer s H->BindsTo s fd args (ps.zip us)->Vals vs us->sp vs H Q E->
  codeAny (model P w) A (.call (.ref f) args) (CR CX outer P w H s Q E) s
def nT.mono{P:Program}{w:World}{K:Frag}{mg:qL}{base:Heap}{CX:Lh}{j k:Nat}{f:Addr}{fd:FuncData}{ps:jR}{q:Sp}(F:nT P w K mg base CX j f fd ps q)(h:j<=k):nT P w K mg base CX k f fd ps q:=⟨F.len,λA c s H o us vs Q E r=>F.run A c s H o us vs Q E (r.mono h)⟩
def uf.make{P:Program}{w:World}{K:Frag}{mg:qL}{base:Heap}{A:Around}{c:List Env}{s:Shared}{H:Hp}(e:uf P w K mg base A c s H)(C)(us)(kw):uf P w K mg base (A.under (.builtin "type.__call__" ⟨.ref C::us,kw⟩)) c s H:=⟨by first|exact e.frames|(simpa [Around.under,Code.envs,Code.isFrame,pushEnvs] using e.frames),e.mod,e.bs,e.Ln,e.u9,e.Oz,e.fK,e.bare⟩
def Inv.Si(I:Inv X pins σ H s):uf X.prog X.w X.K X.mg X.base X.A X.stack s H:=⟨I.ok.frames,I.ok.mod,I.bs,eF I.ok.Ln I.sz,I.stack,I.HA,I.fK,I.bare⟩
def Inv.after(I:Inv X pins σ H s)(h:CE X.stack X.prog X.w H s Q u y):EP X pins σ Q u y:=by obtain⟨v,B,os,c,E,j,r,q⟩:=h;obtain⟨G,g,d,t,o⟩:=y;obtain rfl:o=s.os:=os;exact⟨v,B,I.call (h':=G) (g':=g) (d':=d) (t':=t) (ch:=[]) E j c (λb z=>absurd z (by simp)),r,q⟩
def VY(c:Sp)(dvs:List V)(E:XK)(t:TA):TE:=λσ H Q=>t σ H λvs h=>c (vs++dvs) h Q E
def VZ(C:Addr)(m:Str)(h:Sp)(dvs:List V)(E:XK)(j:TE)(t:TA):TE:=λσ H Q=>j σ H λx c=>∃a o fs,x=.ref a/\c a=some (.ins C o fs)/\fs.lookup m=none/\
 t σ c λvs q=>h (x::(vs++dvs)) q Q E
def V0(C:Addr)(j:Sp)(dvs:List V)(E:XK)(t:TA):TE:=λσ H Q=>t σ H λvs h=>∀x c,h x=none->h c=none->c≠x->
 j (.ref x::(vs++dvs)) (upd (upd h c (.own x)) x (.ins C c [])) (λv o=>v=.cw/\Q (.ref x) o) E
def Binds(K:Frag)(fd:FuncData)(ps:jR)(c:TyJ):Prop:=∀(s:Shared) (us:TyJ),K.In s.heap->(us++c).length=ps.length->BindsTo s fd ⟨us,[]⟩ (ps.zip (us++c))
def Binds.all{K:Frag}{fd:FuncData}{ps:jR}(h:∀us:TyJ,us.length=ps.length->bindArgs fd ⟨us,[]⟩=pure (ps.zip us)):Binds K fd ps []:=λs us _ c=>by rw[kZ]at c|-;exact .of_eq (h us c)
def Passes(CX:Lh)(X:Cx)(E:XK):Prop:=∀(pins:m2) (σ:St) (H:Hp) (s:Shared) (e:Value) (c:Shared),Inv X pins σ H s->CX X.stack H s E e c->X.xe e c
def Ge(F:nT X.prog X.w X.K X.mg X.base CX k f fd ps sp)(o:gH k X.A)(q:Binds X.K fd ps ds)(y:Vals dvs ds)(B:Passes CX X E) (I:Inv X pins σ H s)(r:Vals vs us)(h:sp (vs++dvs) H Q E):wpAny (model X.prog X.w) X.A (call (.ref f) us) (EP X pins σ Q) X.xe s:=by
 have j:Vals (vs++dvs) (us++ds):=r.append y;have G:(us++ds).length=ps.length:=by rw[<-j.length];exact F.len _ _ _ _ h
 refine wpAny_call (u0 (F.run X.A X.stack s H ⟨us,[]⟩ (us++ds) (vs++dvs) Q E o I.Si (q s us I.Cg G) j h) λr J c=> ?_);cases r with
 |error e=>exact B pins σ H s e J I c
 |ok L=>
  cases L with
  |ret u=>exact I.after c
  |next=>exact Db c
  |brk=>exact Db c
  |cont=>exact Db c
def mE(F:nT X.prog X.w X.K X.mg X.base CX k f fd ps sp)(o:gH k X.A)(u:Gl X x)(y:X.mg x=some (.ref f))(B:keepIn X.K (.ref f)=true)(G:Binds X.K fd ps ds)(J:Vals dvs ds)(L:Passes CX X E) (M:PA X (e::c) t)(j:(x==("__debug__":Str))=false:=by decide)(he:starEach (e::c) X.env=(false,eval e X.env)::starEach c X.env:=by rfl)(hpl:(backTo pos (starEach c X.env)).any (·.1)=false:=by rfl):
  PE X (.Call (.Name x p) (e::c) [] pos) (VY sp dvs E t):=by
 intro pins s O H Q I h
 refine wg (qd I u y ?_ j)
 refine callWith_K (h₀:=X.base) I.ok.mod.RL B (ew (M pos pins s O H _ I h) λus P ⟨vs,H1,I1,r,q⟩=>⟨I1.Cg,?_⟩) he hpl
 exact Ge F o G J L I1 r q
def HM(he:PE X o ta)(c:DF X.K C)(B:Meth X.K C m f)(F:nT X.prog X.w X.K X.mg X.base CX k f fd ps sp)(L:gH k X.A)(M:Binds X.K fd ps ds)(O:Vals dvs ds)(P:Passes CX X E)(U:PA X (e::j) t) (y:starEach (e::j) X.env=(false,eval e X.env)::starEach j X.env:=by rfl)(hpl:(backTo pos (starEach j X.env)).any (·.1)=false:=by rfl)
  (Y:eval (.Call (.Attribute o m apos) (e::j) [] pos) X.env=(do
   let G<-eval o X.env
   standAt apos.atName
   let (f,first)<-holding [G] (getMethod G m pl)
   callWith pos f first (backTo pos (starEach (e::j) X.env)) (backToKw pos (keywordEach [] X.env))):=by rfl):
  PE X (.Call (.Attribute o m apos) (e::j) [] pos) (VZ C m sp dvs E ta t):=by
 intro pins s J H Q I h
 refine methodCall_KW (pl:=pl) (ew (he pins s J H _ I h) λu Z ⟨x,H1,I1,rx,a,dx,fs,ex,ea,l,q⟩=> ?_) Y
 subst ex
 obtain rfl:u=Value.ref a:=rx
 refine F_ I1 ea c B l ?_
 refine callWith_K (first:=[.ref a]) (h₀:=X.base) I.ok.mod.RL B.kp (ew (U pos pins Z J H1 _ I1 q) λus T ⟨vs,H2,I2,r,q2⟩=>⟨I2.Cg,?_⟩) y hpl
 exact Ge (us:=.ref a::us) (vs:=.ref a::vs) F L M O P I2 (.cons rfl r) q2
structure Mk(K:Frag)(C f:Addr):Prop where
 makes:makesIn K C=true
 init:findIn K (.ref C) "__init__"=some (some (.ref f))
 fn:isFn K (.ref f)=true
 kp:keepIn K (.ref C)=true
def LM{pins:m2}{q:St}{H:Hp}{s:Shared}{Q:VK}{us:TyJ}{vs:List V}(M:Mk X.K C f)(F:nT X.prog X.w X.K X.mg X.base CX k f fd ps sp)(G:gH (k+1) X.A)(J:Binds X.K fd ps ds)(L:Vals dvs ds) (O:Passes CX X E)(I:Inv X pins q H s)(r:Vals vs us) (h:∀x j,H x=none->H j=none->j≠x->sp (.ref x::(vs++dvs)) (upd (upd H j (.own x)) x (.ins C j [])) (λv P=>v=.cw/\Q (.ref x) P) E):wpAny (model X.prog X.w) X.A (call (.ref C) us) (EP X pins q Q) X.xe s:=by
 have y:=h (s.heap.objs.size+1) s.heap.objs.size (I.fK.fresh (Nat.le_succ _)) (I.fK.fresh (aH _)) (cV (bn _));have o:=Inv.made (C:=C) I;have B:Vals (V.ref (s.heap.objs.size+1)::(vs++dvs)) (Value.ref (s.heap.objs.size+1)::(us++ds)):=.cons rfl (r.append L);have U:(Value.ref (s.heap.objs.size+1)::us++ds).length=ps.length:=by have e:=B.length;rw[F.len _ _ _ _ y]at e;exact e.symm
 refine wpAny_call (LL (f:=f) I.Cg M.makes M.init (beq_iff_eq.mp M.fn) (u0 (F.run _ X.stack _ _ ⟨Value.ref (s.heap.objs.size+1)::us,[]⟩ (Value.ref (s.heap.objs.size+1)::(us++ds)) _ _ E (G.make C us [])
  (o.Si.make C us []) (J _ (Value.ref (s.heap.objs.size+1)::us) o.Cg U) B y) λr Y c=> ?_))
 cases r with
 |error e=>exact O pins q _ _ e Y o c
 |ok Z=>
  cases Z with
  |ret u=>
   obtain⟨v,T,D,R,S,N⟩:=o.after c;subst S;exact⟨R,⟨V.ref (s.heap.objs.size+1),T,D,rfl,N⟩⟩
  |next=>exact Db c
  |brk=>exact Db c
  |cont=>exact Db c
def HN(M:Mk X.K C f)(F:nT X.prog X.w X.K X.mg X.base CX k f fd ps sp)(o:gH (k+1) X.A)(u:Gl X x)(y:X.mg x=some (.ref C))(B:Binds X.K fd ps ds)(G:Vals dvs ds)(J:Passes CX X E) (L:PA X (e::c) t)(j:(x==("__debug__":Str))=false:=by decide)(he:starEach (e::c) X.env=(false,eval e X.env)::starEach c X.env:=by rfl)(hpl:(backTo pos (starEach c X.env)).any (·.1)=false:=by rfl):
  PE X (.Call (.Name x p) (e::c) [] pos) (V0 C sp dvs E t):=by
 intro pins s O H Q I h
 refine wg (qd I u y ?_ j)
 refine callWith_K (h₀:=X.base) I.ok.mod.RL M.kp (ew (L pos pins s O H _ I h) λus P ⟨vs,H1,I1,r,q⟩=>⟨I1.Cg,?_⟩) he hpl
 exact LM M F o B G J I1 r q
structure jg(N P:jR)(sc:Scope):Prop where
 kind:sc.kind=.function
 co:sc.isCoroutine=false
 gen:sc.isGenerator=false
 nd:N.Nodup
 pre:N.take P.length=P
 par:∀x∈P,sc.names.lookup x=some .local\/sc.names.lookup x=some .cell
 Sj:∀y∈sc.names,y.2≠.free
theorem Bp{j:Str->Option NameKind}{x:Str}:∀{c:List (Str×Value)} {m:qL},(∀v,(x,v)∉c)->bindL j c m x=m x
 |[],_,_=>rfl
 |(n,v)::r,m,h=>by
  unfold bindL;rw[Bp λw o=>h w (d7 _ o)];split;have:x≠n:=by rintro rfl;exact h v kz
  simp[this];rfl
theorem Bq{j:Str->Option NameKind}{x:Str}:∀{c:List (Str×Value)} {m:qL},(∀v,(x,v)∉c)->bindC j c m x=m x
 |[],_,_=>rfl
 |(n,v)::r,m,h=>by
  unfold bindC;rw[Bq λw o=>h w (d7 _ o)];split;rfl;have:x≠n:=by rintro rfl;exact h v kz
  simp[this]
theorem Br{c:Str->Option NameKind}{x:Str}{v:Value}:∀{P:jR} {vs:TyJ} {i:Nat} {m:qL},P.Nodup->P[i]?=some x->vs[i]?=some v->c x=some .local->bindL c (P.zip vs) m x=some v
 |[],_,_,_,_,h,_,_=>by simp at h
 |_::_,[],_,_,_,_,h,_=>by simp at h
 |p::P,w::vs,0,m,nd,j,o,q=>by simp at j o;subst j;subst o;show bindL c ((p,w)::P.zip vs) m p=_;unfold bindL;rw[Bp λv r=>(sF.mp nd).1 (uX r).1,ae q];simp
 |p::P,w::vs,i+1,m,nd,j,o,q=>by unfold bindL;exact Br (i:=i) (sF.mp nd).2 (by simpa using j) (by simpa using o) q
theorem Bs{c:Str->Option NameKind}{x:Str}{v:Value}:∀{P:jR} {vs:TyJ} {i:Nat} {m:qL},P.Nodup->P[i]?=some x->vs[i]?=some v->c x≠some .local->bindC c (P.zip vs) m x=some v
 |[],_,_,_,_,h,_,_=>by simp at h
 |_::_,[],_,_,_,_,h,_=>by simp at h
 |p::P,w::vs,0,m,nd,j,o,q=>by simp at j o;subst j;subst o;show bindC c ((p,w)::P.zip vs) m p=_;unfold bindC;rw[Bq λv r=>(sF.mp nd).1 (uX r).1,ab q];simp
 |p::P,w::vs,i+1,m,nd,j,o,q=>by unfold bindC;exact Bs (i:=i) (sF.mp nd).2 (by simpa using j) (by simpa using o) q
noncomputable def start(N:jR)(vs:List V):St:=vs.map some++Da (N.length-vs.length) none
noncomputable def ug(CX:Lh)(P:Program)(w:World)(K:Frag)(mg:qL)(base:Heap)(N:jR)(qual:Str)(scope:Scope)(f:Addr)(cd:Value)(A:Around)(outer:List Env)(s:Shared)(H:Hp)(E:XK):Cx where
 prog:=P
 w:=w
 K:=K
 mg:=mg
 base:=base
 A:=A.deeper (envOfC qual scope s.heap.objs.size f cd)
 N:=N
 Cf:=s
 Vh:=H
 env:=envOfC qual scope s.heap.objs.size f cd
 outer:=outer
 stack:=envOfC qual scope s.heap.objs.size f cd::outer
 ex:=[]
 calm:=true
 fn:=λ_=>true
 pn:=[]
 xe:=λe h=>wpAny (model P w) (A.deeper (envOfC qual scope s.heap.objs.size f cd)) (leaving (envOfC qual scope s.heap.objs.size f cd) e) (λ_ c=>CX outer H s E e c) (λe' c=>CX outer H s E e' c) h
def y4{j:Scope}{n:Nat}{x:Str}(h:j.names.lookup x=some .cell):∃c,(cellsFrom n j.names []).lookup x=some c:=by have q:=cellsFrom_some j.names n [] (.inl h);exact FL.mp q
def Bt{CX:Lh}{P:Program}{w:World}{K:Frag}{mg:qL}{base:Heap}{N ps:jR}{qual:Str}{scope:Scope}{f:Addr}{cd:Value}{A:Around}{j:List Env}{s U:Shared}{H:Hp}{E:XK}{us:TyJ}{vs:List V} (S:jg N ps scope)(Z:A.handled=none)(B:uf P w K mg base A j s H)(F:vs.length=ps.length)(r:Vals vs us) (x:InCallC s s.heap.objs.size (bindL (envOfC qual scope s.heap.objs.size f cd).kindOf (ps.zip us) λ_=>none) (cellsFrom (s.heap.objs.size+1) scope.names []) (bindC (envOfC qual scope s.heap.objs.size f cd).kindOf (ps.zip us) λ_=>none) U):Inv (ug CX P w K mg base N qual scope f cd A j s H E) [] (start N vs) H U:=by
 have hpl:ps.length<=N.length:=by have:=congrArg P4 S.pre;rw[oG]at this;omega
 obtain⟨O,tk,rfl,X⟩:=x.done;have G:∀b:Addr,b∉(ug CX P w K mg base N qual scope f cd A j s H E).ex:=λb z=>absurd (show b∈([]:oj)from z) (by simp);refine⟨⟨B.mod,S.kind,rfl,rfl,aH _,λy z c O o=> ?_,λy J=> ?_,λy c _ h=> ?_,λ_=>Z,Around.frames_deeper B.frames,.inr ⟨rfl,rfl⟩,λb z=>absurd z (G b),B.bs,B.Ln,λb _ _=>G b,λb z=>absurd z (G b),B.u9,B.Oz⟩,
  rfl,B.bare,Un.kept X,⟨_,x.toInCall.ns,λi y v O o D=> ?_⟩,λy c h=>⟨_,x.cell y c h⟩,B.fK.fresh (aH _),λy c h=> ?_,λp L=>absurd (show p∈([]:m2)from L) (by simp),B.fK.kept X,?_⟩
 exact name_of_addr x.apart (eJ O) (eJ o);have J:scope.names.lookup y=some .cell\/scope.names.lookup y=some .free:=J;rcases J with J|J;exact y4 J;exact absurd rfl (S.Sj _ (eJ J));exact hF (x.above y c (eJ h));have Q:i<vs.length:=by unfold start at o;by_cases Q:i<vs.length;exact Q;rw[DK (by simpa using Q)]at o;rw[B6]at o;split at o<;>cases o
 have T:vs[i]?=some v:=by
  unfold start at o;rw[Bl (by simpa using Q),dQ]at o;cases e:vs[i]? with
  |none=>rw[e]at o;cases o
  |some a=>rw[e]at o;cases o;rfl
 obtain⟨u,Y,C⟩:=r.get T;have L:ps[i]?=some y:=by rw[<-S.pre,B5 (by omega)];exact O
 have M:ps.Nodup:=by rw[<-S.pre];exact S.nd.sublist (List.take_sublist _ _)
 refine⟨u,C,?_⟩;rcases S.par y (ky L)with k|k;exact .inl ⟨k,Br M L Y k⟩;obtain⟨c,e⟩:=y4 (n:=s.heap.objs.size+1) k;refine .inr ⟨.inl k,c,e,?_⟩;have q:=x.cell y c e;rw[Bs M L Y (by show scope.names.lookup y≠_;rw[k];decide)]at q;exact q;exact .inl (B.fK.fresh (hF (x.above y c (eJ h))));unfold start;show _=N.length;rw[fi,aP,yP];omega
def V1{CX:Lh}{P:Program}{w:World}{K:Frag}{mg:qL}{base:Heap}{k:Nat}{f:Addr}{name qual:Str}{params:Arguments}{body:TyM}{scope:Scope}{d g doc pm h ct z:Value}{i od:Option Addr} {Z:Array (Lg)}{N ps:jR}{T:Sp}(lk:K.lookup f=some ⟨z,od,.func (fnOf name qual params body scope d g doc pm i h ct),Z⟩)(C:codeIn K h qual=true)(S:jg N ps scope) (O:∀vs H Q E,T vs H Q E->vs.length=ps.length) (G:∀(A) (c) (s) (H) (vs) (Q:VK) (E:XK),gH k (A.deeper (envOfC qual scope s.heap.objs.size f h))->T vs H Q E->∃t,gG (ug CX P w K mg base N qual scope f h A c s H E) body t/\t {nx:=λ_ B=>Q .cw B,rt:=Q} (start N vs) H):nT P w K mg base CX (k+1) f (fnOf name qual params body scope d g doc pm i h ct) ps T:=by
 refine⟨O,λA c s H l us vs Q E F U hb r X=> ?_⟩;have hl:=O _ _ _ _ X;have m:K.In s.heap:=U.mod.RL.keeps λb o e=>(U.bs b o e).1;have D:s.heap.NoLimit:=U.mod.nolimit.keeps λb o e=>(U.bs b o e).1;have L:∀y∈ps.zip us,scope.names.lookup y.1=some .local\/(scope.names.lookup y.1=some .cell/\((cellsFrom (s.heap.objs.size+1) scope.names []).lookup y.1).isSome=true):=λR hy=>by
  obtain⟨n,v⟩:=R;rcases S.par n (uX hy).1 with q|q
  ·exact .inl q
  ·exact .inr ⟨q,cellsFrom_some _ _ _ (.inl q)⟩
 refine FZ F.depth (m _ _ lk) rfl S.co S.gen rfl (codeRec_of m C) (hb _ _ _ _ ?_);refine wpAny_newFunctionEnv_cells S.kind L λenv he p x=> ?_;subst he;refine⟨D.keeps x.toInCall.keep,codeAny_func ?_⟩;obtain⟨t,ht,hq⟩:=G A c s H vs Q E (F.deeper _) X;have I:Inv (ug CX P w K mg base N qual scope f h A c s H E) [] (start N vs) H p:=Bt S F.hd U hl r x;refine eG (ht [] p (start N vs) H _ I hq) (λfl W M=> ?_) λe W M=>M;have Y:∀{j:St} {B:Hp} {v:V} {u:Value},Inv (ug CX P w K mg base N qual scope f h A c s H E) [] j B W->RelV v u->Q v B->CE c P w H s Q u W:=
  λ{j B v u} J a q=>⟨v,B,J.os,J.bare,J.base,J.fK,a,q⟩
 cases fl with
 |ret u=>
  obtain⟨v,j,B,J,a,q⟩:=M;exact Y J a q
 |next=>
  obtain⟨j,B,J,q⟩:=M;exact Y (v:=V.cw) (u:=Value.none) J rfl q
 |brk=>
  obtain⟨_,_,_,q⟩:=M;exact Db q
 |cont=>
  obtain⟨_,_,_,q⟩:=M;exact Db q
section
variable {X:Cx} {x:Str} {p pos:Pos} {e:Expr} {es:lj} {t:TA} {id T:String} {r:List V->Hp->VK->Prop}
def V2(r:List V->Hp->VK->Prop)(t:TA):TE:=λσ H Q=>t σ H λvs c=>r vs c Q
def lr(q:vb X (.builtin id) r)(u:Gl X x)(y:X.mg x=none)(B:bootBuiltins x=some (.builtin id))(E:PA X (e::es) t)(G:x≠"__name__":=by decide)(c:(x==("__debug__":Str))=false:=by decide)
  (he:starEach (e::es) X.env=(false,eval e X.env)::starEach es X.env:=by rfl)(hpl:(backTo pos (starEach es X.env)).any (·.1)=false:=by rfl):PE X (.Call (.Name x p) (e::es) [] pos) (V2 r t):=by
 intro pins s o H Q I h
 refine wg (qe I u y B ?_ G c)
 exact PyProof.Rows.callWith_builtin1 (ew (E pos pins s o H _ I h) λus J j=>by obtain⟨vs,L,M,O,P⟩:=j;exact q pins J o L vs us Q M O P) he hpl
def Bu(q:vb X (.type T) r)(u:Gl X x)(y:X.mg x=none)(B:bootBuiltins x=some (.type T))(E:PA X (e::es) t)(G:x≠"__name__":=by decide)(c:(x==("__debug__":Str))=false:=by decide)
  (he:starEach (e::es) X.env=(false,eval e X.env)::starEach es X.env:=by rfl)(hpl:(backTo pos (starEach es X.env)).any (·.1)=false:=by rfl):PE X (.Call (.Name x p) (e::es) [] pos) (V2 r t):=by
 intro pins s o H Q I h
 refine wg (qe I u y B ?_ G c)
 exact xr (ew (E pos pins s o H _ I h) λus J j=>by obtain⟨vs,L,M,O,P⟩:=j;exact q pins J o L vs us Q M O P) he hpl
end
end L2
namespace HT
open PySem PyProof.Rows
section
open PySem.SeqAt
open PySem.AutoSeq1 (wpAny_loadPart')
open PySem.MeetsSeq PySem.MeetsSeq2 PySem.MeetsSeq3
end
noncomputable def DG(n d:Nat):xu->Nat
 |none=>d
 |some v=>if v<0 then(v+(n:Int)).toNat else min v.toNat n
end HT
namespace L2
open PySem PySem.W PySem.Spec PyProof.Rows
abbrev TO:=St->Hp->(xu->Hp->Prop)->Prop
def PO(X:Cx)(e:Option Expr)(t:TO):Prop:=∀(pins:m2) (s:Shared) (σ:St) (H:Hp) (Q:xu->Hp->Prop),Inv X pins σ H s->t σ H Q->
  wpAny (model X.prog X.w) X.A (evalPart e X.env) (λu h=>∃o c,Inv X pins σ c h/\IsPart u o/\Q o c) X.xe s
def HP:TO:=λ_ H Q=>Q none H
def Q9(t:TE):TO:=λσ H Q=>t σ H λx c=>∃i,x=.int i/\Q (some i) c
section
variable {X:Cx} {e:Expr} {te:TE} {lo hi:Option Expr} {tl th:TO} {pos p2:Pos}
def Co:PO X none HP:=by intro pins s c H Q I h;rw[evalPart_none];exact aQ ⟨none,H,I,.none,h⟩
def vc(h:PE X e te):PO X (some e) (Q9 te):=by intro pins s j H Q I o;rw[evalPart_some];refine ew (h pins s j H _ I o) λu G c=> ?_;obtain⟨x,r,y,B,E⟩:=c;obtain⟨i,rfl,q⟩:=E;obtain⟨t,rfl⟩:=B;exact⟨some i,r,y,.int i t,q⟩
def SlR(X:Cx)(r:V->xu->xu->Hp->VK->Prop):Prop:=∀(pins:m2) (s:Shared) (σ:St) (H:Hp) (x:V) (v c h:Value) (lo hi:xu) (sl:Addr) (Q:VK),Inv X pins σ H s->RelV x v->s.heap.IsSliceOf sl c h .none->IsPart c lo->IsPart h hi->r x lo hi H Q->
  ∃T id,typeLookup (.type T) "__getitem__"=pure (some (.builtin id))/\s.TypeIs v T/\wpAny (model X.prog X.w) X.A (getItem v (.ref sl)) (EP X pins σ Q) X.xe s
def tSl(r:V->xu->xu->Hp->VK->Prop)(te:TE)(tl th:TO):TE:=λσ H Q=>te σ H λx c=>tl σ c λl h=>th σ h λu j=>r x l u j Q
def vd(G:SlR X r)(he:PE X e te)(J:PO X lo tl)(L:PO X hi th):PE X (.Subscript e (.Slice lo hi none p2) pos) (tSl r te tl th):=by intro pins s o H Q I h;refine Subscript_ (ew (he pins s o H _ I h) λv M c=> ?_);obtain⟨x,O,P,U,Y⟩:=c;refine wpAny_Slice (ew (J pins M o O _ P Y) λy Z ⟨l,H2,I2,pl,q2⟩=>ew (L pins Z o H2 _ I2 q2) λB j c=> ?_);obtain⟨u,E,C,F,D⟩:=c;rw[evalPart_none];refine aQ ?_;have V:Inv X pins o E {j with heap:=j.heap.push {cls:=.type "slice",data:=.fields #[y,B,.none]}}:=C.kept (t':=j.toks) λb K q=>aX _ q;obtain⟨T,id,R,S,A⟩:=G pins {j with heap:=j.heap.push {cls:=.type "slice",data:=.fields #[y,B,.none]}} o E x v y B l u j.heap.objs.size Q V U (Heap.IsSliceOf.new ..) pl F D;exact tail_any (ops:=[.ref j.heap.objs.size,v]) S R A (by with_unfolding_all rfl)
def AO(xs:List V)(lo hi:xu):List V:=(xs.drop (HT.DG xs.length 0 lo)).take (HT.DG xs.length xs.length hi-HT.DG xs.length 0 lo)
def DY(xs)(lo hi):(AO xs lo hi).length<=xs.length:=by unfold AO;rw[oG,al];omega
end
noncomputable def OR(n:Nat)(i:Int):Option Nat:=if 0<=i then(if i<n then some i.toNat else none)else if-(n:Int)<=i then some (i+n).toNat else none
def Sk{c:Type}(xs:List c)(i:Int):Option c:=(OR xs.length i).bind λj=>xs[j]?
def HQ(h:OR n i=some j):seqIndex? i n=some j/\j<n∧-(n)<=i/\i<n:=by unfold OR at h;by_cases o:0<=i;rw[ae o]at h;by_cases c:i<n;rw[ae c]at h;have e:i.toNat=j:=jN h;exact⟨by rw[seqIndex_of o c,e],by omega,by omega,c⟩;rw[ab c]at h;cases h;rw[ab o]at h;by_cases c: -(n)<=i;rw[ae c]at h;have e:(i+n).toNat=j:=jN h;exact⟨by rw[seqIndex_neg (by omega) c,e],by omega,c,by omega⟩;rw[ab c]at h;cases h
def HR(h:Sk xs i=some v):∃j,seqIndex? i xs.length=some j/\xs[j]?=some v/\j<xs.length∧-(xs.length:Int)<=i/\i<xs.length:=by
 unfold Sk at h;cases e:OR xs.length i with
 |none=>rw[e]at h;cases h
 |some j=>
  rw[e]at h;obtain⟨c,o,q,r⟩:=HQ e;exact⟨j,c,h,o,q,r⟩
def OS{c:Type}{xs:List c}{j:Nat}{v:c}(h:xs[j]?=some v):Sk xs (j)=some v:=by
 have o:j<xs.length:=(ph.mp h).1;have e:OR xs.length (j)=some j:=by unfold OR;rw[ae (by omega),ae (by omega)];simp
 unfold Sk;rw[e];exact h
def HS(b:Expr):Prop:=∀o i,subscripted b false o i=operate [o,i] (getItem o i)
def Y6(X:Cx)(r:R2):Prop:=∀(value slice:Expr) (pins:m2) (s:Shared) (σ:St) (H:Hp) (x y:V) (v u:Value) (Q:VK),Inv X pins σ H s->RelV x v->RelV y u->r x y H Q->
  subscripted slice false v u=operate [v,u] (getItem v u)->wpAny (model X.prog X.w) X.A (subscriptTail value slice v u) (EP X pins σ Q) X.xe s
def Yq(X:Cx)(id:String)(r:V->List V->Hp->VK->Prop):Prop:=∀(pins:m2) (s:Shared) (σ:St) (H:Hp) (x:V) (xs:List V) (v:Value) (us:TyJ) (Q:VK),Inv X pins σ H s->RelV x v->Vals xs us->r x xs H Q->
  wpAny (model X.prog X.w) X.A (call (.builtin id) (v::us)) (EP X pins σ Q) X.xe s
section
variable {X:Cx}
def Q_(c:Y6 X r)(j:PE X a ta)(o:PE X b tb)(B:HS b):PE X (.Subscript a b pos) (OF r ta tb):=by intro pins s E H Q I h;exact Subscript_ (R0 j o I h λv u G x y J L M O q=>c a b pins G E J x y v u Q L M O q (B _ _))
def Y7(K:Frag):R2:=λx y H Q=>∃p xs i v,x=.ref p/\y=.int i/\dr K H p xs/\Sk xs i=some v/\Q v H
def Y8(K:Frag):R2:=λx y H Q=>∃p xs i v,x=.ref p/\y=.int i/\qM K H p xs/\Sk xs i=some v/\Q v H
def OT:Y6 X (Y7 X.K):=by
 intro B E pins s M H x y v u Q I Y Z h O;obtain⟨p,xs,i,z,rfl,rfl,T,he,q⟩:=h;cases Y;obtain⟨t,rfl⟩:=Z;obtain⟨G,r,pl,S⟩:=I.list T;obtain⟨j,o,C,A,F,D⟩:=HR he;obtain⟨w,P,J⟩:=r.get C;have V:=r.length;have N:=y3;have c:EP X pins M Q w s:=⟨z,H,I,J,q⟩;by_cases U:0<=i;have L:i.toNat=j:=by rw[seqIndex_of U D]at o;exact jN o
 exact item_listR pl.isList U (by omega) (by rw[L];simpa using P) c O;have L:(i+(G.toArray.size:Int)).toNat=j:=by rw[seqIndex_neg (by omega) F]at o;rw[c4,<-V];exact jN o
 exact subscriptTail_builtinR (x:=w) pl.isList.typeIs slot_list_getitem.lookup
  (wpAny_getItem_list_neg (Q:=λr R=>r=w/\EP X pins M Q r R) pl.isList (by omega) (by rw[c4]<;>omega) (by omega) (by rw[L];simpa using P) ⟨rfl,c⟩) O
def Sl:Y6 X (Y8 X.K):=by
 intro c o pins s G H x y v u Q I J L h M;obtain⟨p,xs,i,z,rfl,rfl,O,he,q⟩:=h;cases J;obtain⟨t,rfl⟩:=L;obtain⟨P,r,pl,F⟩:=I.tuple O;obtain⟨j,U,Y,D,V,R⟩:=HR he;obtain⟨w,Z,B⟩:=r.get Y;have T:=r.length;have S:=y3;have E:EP X pins G Q w s:=⟨z,H,I,B,q⟩;exact subscriptTail_builtinR (x:=w) pl.typeIs slot_tuple_getitem.lookup
  (getItem_tuple (j:=j) (Q:=λr C=>r=w/\EP X pins G Q r C) pl (by omega) (by omega) (by rw[c4,<-T];exact U) (by simpa using Z) ⟨rfl,E⟩) M
def Gf(c:TyJ)(n j)(u):Obj.mapSeq (·.setIfInBounds j u) {cls:=.type "list",data:=.seq c.toArray n}={cls:=.type "list",data:=.seq (c.set j u).toArray n}:=by simp[Obj.mapSeq]
def Inv.lst(I:Inv X pins σ H s)(h:H p=some (.lst xs)):∃c n,Vals xs c/\s.heap.get? p=some {cls:=.type "list",data:=.seq c.toArray n}/\xs.length<=sizeLine:=by obtain⟨z,c,n,r,e⟩:=I.fK p _ h;exact⟨c,n,r,e,z⟩
def Inv.Sn{pins:m2}{y:St}{H:Hp}{s:Shared}{p:Addr}{xs j:List V}{c its':TyJ}{n o:Nat}{f:Obj->Obj}(I:Inv X pins y H s)(h:H p=some (.lst xs)) (E:s.heap.get? p=some {cls:=.type "list",data:=.seq c.toArray n})(B:f {cls:=.type "list",data:=.seq c.toArray n}={cls:=.type "list",data:=.seq its'.toArray o})(r:Vals j its')(G:j.length<=sizeLine)(t):Inv X pins y (upd H p (.lst j)) {s with heap:=s.heap.update p f,toks:=t}:=by
 have e:(s.heap.update p f).get? p=some {cls:=.type "list",data:=.seq its'.toArray o}:=by rw[Heap.get?_update_self f E (by rw[B]<;>rfl),B]
 refine I.write (x:=p) (e:=p) (by rw[h];trivial) (.inl rfl) (λb u J q=>(Heap.get?_update_other _ _ (jQ J)).trans q) ⟨_,e⟩ ?_;exact⟨G,its',o,r,e⟩
def LN:V->V->V->Hp->(Hp->Prop)->Prop:=λo i v H Q=>∃p xs k j,o=.ref p/\i=.int k/\H p=some (.lst xs)/\OR xs.length k=some j/\Q (upd H p (.lst (xs.set j v)))
def set_list:VI X LN:=by
 intro pins s U H o i v D V u Q I Y Z T h;obtain⟨p,xs,k,j,rfl,rfl,J,C,q⟩:=h;cases Y;obtain⟨t,rfl⟩:=Z;obtain⟨c,n,r,B,F⟩:=I.lst J;obtain⟨y,R,L,M⟩:=HQ C;have E:=r.length;have S:=y3;have O:Inv X pins U (upd H p (.lst (xs.set j v))) {s with heap:=s.heap.update p (Obj.mapSeq (·.setIfInBounds j u))}:=
  I.Sn J B (Gf c n j u) (r.set T j) (by rw[nZ];exact F) s.toks
 by_cases P:0<=k;have G:k.toNat=j:=by rw[seqIndex_of P M]at y;exact jN y
 exact ki_setAt B P (by omega) (by rw[c4,<-E];exact M) (by rw[G];exact⟨_,O,q⟩);have G:(k+(c.toArray.size:Int)).toNat=j:=by rw[seqIndex_neg (by omega) L]at y;rw[c4,<-E];exact jN y
 exact ki_setBack B (by omega) (by rw[c4,<-E];exact L) (by omega) (by rw[G];exact⟨_,O,q⟩)
def Cp(lo hi)(n):(sliceBounds lo hi none n).1=((HT.DG n 0 lo:Nat):Int)/\(sliceBounds lo hi none n).2.1=((HT.DG n n hi:Nat):Int)/\(sliceBounds lo hi none n).2.2=1:=by
 refine⟨?_,?_,rfl⟩;cases lo with
 |none=>simp[sliceBounds,HT.DG]
 |some i=>
  simp only[sliceBounds,HT.DG,yk,show(1)>0 by decide,c6];by_cases h:i<0;simp only[h,c6]<;>omega;simp only[h,k3]<;>omega
 cases hi with
 |none=>simp[sliceBounds,HT.DG]
 |some i=>
  simp only[sliceBounds,HT.DG,yk,show(1)>0 by decide,c6];by_cases h:i<0;simp only[h,c6]<;>omega;simp only[h,k3]<;>omega
def AQ(c:TyJ)(lo hi):slicePick c.toArray lo hi none=((c.drop (HT.DG c.length 0 lo)).take (HT.DG c.length c.length hi-HT.DG c.length 0 lo)).toArray:=by obtain⟨h,j,o⟩:=Cp lo hi c.toArray.size;unfold slicePick;rw[h,j,o];simp only[sliceRange_one,pick_run,c4]<;>rfl
def V3(K:Frag):V->xu->xu->Hp->VK->Prop:=λx c h H Q=>∃a xs,x=.ref a/\dr K H a xs/\∀p,H p=none->Q (.ref p) (upd H p (.lst (AO xs c h)))
def yt:SlR X (V3 X.K):=by intro pins s O H x v P U j u Y Q I B E pl G h;obtain⟨a,xs,rfl,J,q⟩:=h;cases B;obtain⟨L,r,y,M⟩:=I.list J;have c:=r.length;refine⟨"list",_,slot_list_getitem.lookup,y.isList.typeIs,?_⟩;refine wpAny_getItem_list_slice y.isList E pl G .none (by simp) ?_ (by rw[c4]<;>omega);rw[AQ,<-c];refine⟨.ref s.heap.objs.size,_,I.laid (t':=s.toks) (o:=.lst (AO xs j u)) (λb Z q=>aX _ q) (aH _) ?_,rfl,q _ (I.fK.fresh (aH _))⟩;exact⟨eF (DY xs j u) M,_,0,(r.drop (HT.DG xs.length 0 j)).take (HT.DG xs.length xs.length u-HT.DG xs.length 0 j),dP _ rfl⟩
noncomputable def pz:V->Bool
 |.cw=>true
 |.bl _=>true
 |.int _=>true
 |.str _=>true
 |_=>false
noncomputable def Li:V->V->Bool
 |.cw,.cw=>true
 |.bl a,.bl b=>a==b
 |.bl a,.int b=>(if a then 1 else 0)==b
 |.int a,.bl b=>a==(if b then 1 else 0)
 |.int a,.int b=>a==b
 |.str a,.str b=>a==b
 |_,_=>false
def So(h:RelV y u)(c:RelV x v)(o:pz y=true)(j:pz x=true):SeqAt.EqAt A s u v (Li y x):=by
 cases y with
 |cw=>
  cases h;cases x with
  |cw=>cases c;exact SeqAt.EqAt.same _
  |bl b=>cases c;exact SeqAt.EqAt.none_bool b
  |int b=>obtain⟨t,rfl⟩:=c;exact SeqAt.EqAt.none_int b t
  |str b=>obtain⟨t,rfl⟩:=c;exact SeqAt.EqAt.none_str b t
  |_=>exact absurd (show false=true from j) eu
 |bl a=>
  cases h;cases x with
  |cw=>cases c;exact SeqAt.EqAt.bool_none a
  |bl b=>cases c;exact SeqAt.EqAt.bool_bool a b
  |int b=>obtain⟨t,rfl⟩:=c;exact SeqAt.EqAt.bool_int a b t
  |str b=>obtain⟨t,rfl⟩:=c;exact SeqAt.EqAt.bool_str a b t
  |_=>exact absurd (show false=true from j) eu
 |int a=>
  obtain⟨t',rfl⟩:=h;cases x with
  |cw=>cases c;exact SeqAt.EqAt.int_none a t'
  |bl b=>cases c;exact SeqAt.EqAt.int_bool a t' b
  |int b=>obtain⟨t,rfl⟩:=c;exact SeqAt.EqAt.int_int a t' b t
  |str b=>obtain⟨t,rfl⟩:=c;exact SeqAt.EqAt.int_str a t' b t
  |_=>exact absurd (show false=true from j) eu
 |str a=>
  obtain⟨t',rfl⟩:=h;cases x with
  |cw=>cases c;exact SeqAt.EqAt.str_none a t'
  |bl b=>cases c;exact SeqAt.EqAt.str_bool a t' b
  |int b=>obtain⟨t,rfl⟩:=c;exact SeqAt.EqAt.str_int a t' b t
  |str b=>obtain⟨t,rfl⟩:=c;exact SeqAt.EqAt.str_str a t' b t
  |_=>exact absurd (show false=true from j) eu
 |_=>exact absurd (show false=true from o) eu
def Oc(x:V)(u:Value):Bool:=match u with
 |.none=>Li .cw x
 |.bool b=>Li (.bl b) x
 |.int i _=>Li (.int i) x
 |.str z _=>Li (.str z) x
 |_=>false
def Cq(r:RelV y u)(f:pz y=true):Oc x u=Li y x:=by
 cases y with
 |cw=>cases r;rfl
 |bl b=>cases r;rfl
 |int i=>obtain⟨t,rfl⟩:=r;rfl
 |str z=>obtain⟨t,rfl⟩:=r;rfl
 |_=>exact absurd (show false=true from f) eu
theorem Cr:∀{xs:List V} {us:TyJ},Vals xs us->xs.all pz=true->us.any (Oc x)=xs.any λy=>Li y x
 |_,_,.nil,_=>rfl
 |y::xs,u::us,.cons r t,f=>by rw[fC,aB]at f;rw[SZ,SZ,Cq r f.1,Cr t f.2]
theorem ve(h:RelV x v)(j:pz x=true):∀{xs:List V} {us:TyJ},Vals xs us->xs.all pz=true->∀u∈us,SeqAt.EqAt A s u v (Oc x u)
 |_,_,.nil,_=>λu c=>by cases c
 |y::xs,u::us,.cons r t,f=>λo c=>by rw[fC,aB]at f;rcases aA.mp c with rfl|c;rw[Cq r f.1];exact So r h f.1 j;exact ve h j t f.2 o c
def V4(x:V)(xs:List V):Bool:=xs.any λy=>Li y x
def rIn(K:Frag)(c:Bool):R2:=λx y H Q=>∃p xs,y=.ref p/\(dr K H p xs\/qM K H p xs)/\pz x=true/\xs.all pz=true/\Q (.bl (if c then !V4 x xs else V4 x xs)) H
def Bv:lp X (compareOp .In) (rIn X.K false):=by intro pins s L H x y v u Q I B G h;obtain⟨p,xs,rfl,j,E,fs,q⟩:=h;cases G;rcases j with j|j;obtain⟨c,r,pl,J⟩:=I.list j;refine SeqAt.in_listAt (Oc x) pl.isList (λw o=>ve B E r fs w (by simpa using o)) ⟨.bl _,H,I,rfl,?_⟩;rw[show c.toArray.any (Oc x)=c.any (Oc x) by simp,Cr r fs];exact q;obtain⟨c,r,pl,J⟩:=I.tuple j;refine SeqAt.in_tupleAt (Oc x) pl (λw o=>ve B E r fs w (by simpa using o)) ⟨.bl _,H,I,rfl,?_⟩;rw[show c.toArray.any (Oc x)=c.any (Oc x) by simp,Cr r fs];exact q
def vf:vb X (.builtin "len") (λxs H Q=>∃p j,xs=[.ref p]/\(dr X.K H p j\/qM X.K H p j)/\Q (.int j.length) H):=by intro pins s J H xs us Q I r h;obtain⟨p,j,rfl,o,q⟩:=h;obtain⟨u,rfl,E⟩:=vals1 r;cases E;have L:=y3;rcases o with o|o;obtain⟨y,B,pl,G⟩:=I.list o;have c:=B.length;exact Calls.call_len_list pl.isList (by simp only[c4]<;>omega) ⟨.int j.length,H,I.tok _,⟨s.toks+1,by rw[c4,c]⟩,q⟩;obtain⟨y,B,pl,G⟩:=I.tuple o;have c:=B.length;exact len_tuple pl (by simp only[c4]<;>omega) ⟨.int j.length,H,I.tok _,⟨s.toks+1,by rw[c4,c]⟩,q⟩
def vg:vb X (.type "list") (λxs H Q=>∃p j,xs=[.ref p]/\(dr X.K H p j\/qM X.K H p j)/\∀l,H l=none->Q (.ref l) (upd H l (.lst j))):=by
 intro pins s Z H xs us Q I r h;obtain⟨p,j,rfl,E,q⟩:=h;obtain⟨u,rfl,T⟩:=vals1 r;cases T;have G:∀c,Vals j c->j.length<=sizeLine->∀h' y,(∀b Y,s.heap.get? b=some Y->h'.get? b=some Y)->
   h'.get? s.heap.objs.size=some {cls:=.type "list",dict:=none,data:=.seq c.toArray y,slots:= #[]}->EP X pins Z Q (.ref s.heap.objs.size) {s with heap:=h'}:=λc B J h' y L e=>
  ⟨.ref s.heap.objs.size,_,I.laid (t':=s.toks) L (aH _) (show gF X.prog X.w _ h' _ (.lst j)from⟨J,c,y,B,e⟩),rfl,q _ (I.fK.fresh (aH _))⟩
 rcases E with E|E;obtain⟨c,B,pl,J⟩:=I.list E;have M:=B.length;obtain⟨o,O,P,n,U⟩:=pl.isList;exact call_list_seq p (.inl rfl) O P U (λh' y L e=>G c B J h' y L e) (by simp only[c4]<;>omega);obtain⟨c,B,pl,J⟩:=I.tuple E;have M:=B.length;obtain⟨o,O,P,n,U⟩:=pl;exact call_list_seq p (.inr rfl) O P U (λh' y L e=>G c B J h' y L e) (by simp only[c4]<;>omega)
def Y9(K:Frag)(T:String)(x:V)(H:Hp):Prop:=match x with
 |.str _=>T="str"
 |.int _=>T="int"
 |.ref p=>(T="list"∧∃xs,dr K H p xs)\/(T="tuple"∧∃o,K.lookup p=some o/\o.cls=.type "tuple"∧o.dict=none)\/
   (T="dict"∧((∃c,H p=some (.dK c))\/∃c,H p=some (.dT c)))\/(T="set"∧∃S n,H p=some (.set S n))
 |_=>False
def LO(I:Inv X pins σ H s)(r:RelV x v)(q:Y9 X.K T x H):s.TypeIs v T/\∀a,v=.ref a->∃E,s.heap.get? a=some E/\E.dict=none:=by
 cases x with
 |str z=>
  obtain⟨t,rfl⟩:=r;cases(show T="str" from q);exact⟨typeIs_str s z t,λ_ e=>nomatch e⟩
 |int i=>
  obtain⟨t,rfl⟩:=r;cases(show T="int" from q);exact⟨typeIs_int s i t,λ_ e=>nomatch e⟩
 |ref p=>
  cases r;rcases q with⟨rfl,xs,G⟩|⟨rfl,o,h,J,u⟩|⟨rfl,h⟩|⟨rfl,S,n,h⟩;obtain⟨L,_,pl,_⟩:=I.list G;refine⟨pl.isList.typeIs,λa e=> ?_⟩;cases e;obtain⟨o,n,e,c,u,_⟩:=pl;exact⟨o,e,u⟩;refine⟨⟨o,I.Cg p o h,J⟩,λa e=> ?_⟩;cases e;exact⟨o,I.Cg _ o h,u⟩;have z:∃o,s.heap.get? p=some o/\o.ExactDict:=by rcases h with⟨y,h⟩|⟨y,h⟩;obtain⟨_,_,_,_,o,_,_,e,j,_⟩:=I.fK p _ h;exact⟨o,e,j⟩;obtain⟨_,_,_,_,o,_,_,e,j,_⟩:=I.fK p _ h;exact⟨o,e,j⟩
  obtain⟨o,e,j⟩:=z;refine⟨⟨o,e,j.1⟩,λa B=> ?_⟩;cases B;exact⟨o,e,j.2.1⟩;obtain⟨o,_,_,_,e,j,_⟩:=I.fK p _ h;refine⟨⟨o,e,j.1⟩,λa B=> ?_⟩;cases B;exact⟨o,e,j.2.1⟩
 |_=>exact Db q
def Y_(K:Frag)(T:String)(r:V->List V->Hp->VK->Prop)(h:TE):TE:=λσ H Q=>h σ H λx c=>Y9 K T x c/\r x [] c Q
def tBM(K:Frag)(T:String)(r:V->List V->Hp->VK->Prop)(h:TE)(t:TA):TE:=λσ H Q=>h σ H λx c=>Y9 K T x c/\t σ c λxs j=>r x xs j Q
variable {o e:Expr} {es:lj} {to:TE} {t:TA} {name:Str} {apos cpos:Pos} {T id:String} {r:V->List V->Hp->VK->Prop}
noncomputable def Sq(J:PlainAttrs T)(q:Slot T name id)(u:typeOf (.builtin id)=pure (.type "method_descriptor"))(L:Yq X id r)(M:PE X o to) (c:attributeBase o name X.env (eval o X.env)=eval o X.env:=by rfl)(j:(apos.endLine==cpos.line)=true:=by rfl):PE X (.Call (.Attribute o name apos) [] [] cpos) (Y_ X.K T r to):=by intro pins s B H Q I h;refine wpAny_Call_method0_late c j (ew (M pins s B H _ I h) λv O y=> ?_);obtain⟨x,P,E,G,U,Y⟩:=y;obtain⟨Z,C⟩:=LO E G U;exact⟨T,id,J,q,u,Z,C,FU rfl (PySem.evalArgs_none (L pins O B P x [] v [] Q E G .nil Y))⟩
noncomputable def LP(O:PlainAttrs T)(y:Slot T name id)(E:typeOf (.builtin id)=pure (.type "method_descriptor"))(P:Yq X id r)(U:PE X o to)(Y:PA X (e::es) t) (j:attributeBase o name X.env (eval o X.env)=eval o X.env:=by rfl)
  (B:((backTo cpos (starEach (e::es) X.env)).all (λx=> !x.1)&&(backToKw cpos (keywordEach [] X.env)).all (λx=>x.1.isSome)
   &&decide ((e::es).length+([]:List Keyword).length+(if([]:List Keyword).isEmpty then 0 else 1)<30))=true:=by rfl)
  (q:(apos.endLine==cpos.line)=true:=by rfl)(Z:starEach (e::es) X.env=(false,eval e X.env)::starEach es X.env:=by rfl)(c:(backTo cpos (starEach es X.env)).any (·.1)=false:=by rfl):
  PE X (.Call (.Attribute o name apos) (e::es) [] cpos) (tBM X.K T r to t):=by
 intro pins s G H Q I h
 refine wpAny_Call_method_late j B q rfl (ew (U pins s G H _ I h) λv C u=> ?_)
 obtain⟨x,F,J,L,D,V⟩:=u
 obtain⟨R,S⟩:=LO J L D
 refine⟨T,id,O,y,E,R,S,?_⟩
 have M:=Y cpos pins C G F _ J V
 rw[Z]at M|-
 refine FU (by show(false||(backTo cpos (starEach es X.env)).any (·.1))=false;rw[c]<;>rfl) (Calls.evalArgs_plain ?_)
 exact ew M λus A u=>by obtain⟨vs,N,W,a,b⟩:=u;exact P pins A G N x vs v us Q W L a b
end
def MtM(X:Cx)(id:String)(r:V->List V->Hp->VK->Prop):Prop:=∀(pins:m2) (s:Shared) (σ:St) (H:Hp) (x:V) (xs:List V) (v:Value) (us:TyJ) (Q:VK),Inv X pins σ H s->RelV x v->Vals xs us->r x xs H Q->
  wpAny (model X.prog X.w) X.A (call (.builtin id) (v::us)) (EP X pins σ Q) X.xe s
theorem Vals.one:∀{x:V} {us:TyJ},Vals [x] us->∃u,us=[u]/\RelV x u
 |_,_,.cons r .nil=>⟨_,rfl,r⟩
theorem Vals.zero:∀{us:TyJ},Vals [] us->us=[]
 |_,.nil=>rfl
def Vals.reverse(h:Vals xs us):Vals xs.reverse us.reverse:=by
 induction h with
 |nil=>exact .nil
 |cons r t c=>rw[v0,v0];exact Vals.append c (.cons r .nil)
theorem Vals.rep(h:Vals xs us):∀k:Nat,Vals (Da k xs).flatten (Da k us).flatten
 |0=>.nil
 |k+1=>by rw[ra,ra,wk,wk];exact Vals.append h (Vals.rep h k)
theorem foldl_rep(c):∀(k:Nat) (acc:TyJ),tz (λh j=>h++j) acc.toArray (Da k c.toArray)=(acc++(Da k c).flatten).toArray
 |0,acc=>by simp
 |k+1,acc=>by
  have e:acc.toArray++c.toArray=(acc++c).toArray:=by simp
  have o:(acc++c)++(Da k c).flatten=acc++(Da (k+1) c).flatten:=by rw[ra,wk,wj]
  rw[<-o,<-foldl_rep c k (acc++c),<-e,ra,sD]
def Inv.V5{c its':TyJ}{n:Nat}{f:Array Value->Array Value}{t':Nat}(I:Inv X pins σ H s)(j:H l=some (.lst xs)) (e:s.heap.get? l=some {cls:=.type "list",data:=.seq c.toArray n})(o:f c.toArray=its'.toArray)(r:Vals h its')(y:h.length<=sizeLine):Inv X pins σ (upd H l (.lst h)) {s with heap:=s.heap.update l (Obj.mapSeq f),toks:=t'}:=by have q:=PySem.IsL.update e f;rw[o]at q;refine I.write (x:=l) (e:=l) (by rw[j];exact trivial) (.inl rfl) (λG u B E=>(Heap.get?_update_other s.heap (Obj.mapSeq f) (jQ B)).trans E) ⟨_,q⟩ ?_;exact⟨y,its',_,r,q⟩
def Inv.V6(I:Inv X pins σ H s)(j:Vals h c)(o:h.length<=sizeLine):Inv X pins σ (upd H s.heap.objs.size (.lst h)) {s with heap:=s.heap.push {cls:=.type "list",data:=.seq c.toArray},toks:=t'}:=I.laid (λ_ _ q=>aX _ q) (aH _) ⟨o,c,0,j,dP _ rfl⟩
def Inv.fresh(I:Inv X pins σ H s):H s.heap.objs.size=none:=I.fK.fresh (aH _)
def Inv.J3(I:Inv X pins σ H s)(h:H l=some (.lst xs)):xs.length<=sizeLine/\∃c n,Vals xs c/\xs.length=c.length/\s.heap.get? l=some {cls:=.type "list",data:=.seq c.toArray n}:=by obtain⟨z,c,n,r,e⟩:=I.fK l _ h;exact⟨z,c,n,r,r.length,e⟩
def DZ(h:n<=sizeLine):Builtin.List.listTooLong n=false:=by unfold Builtin.List.listTooLong;exact b9 (by omega)
def OU:V->List V->Hp->VK->Prop:=λx vs H Q=>∃l xs y,x=.ref l/\vs=[y]/\H l=some (.lst xs)/\xs.length<sizeLine/\Q .cw (upd H l (.lst (xs++[y])))
def J4:MtM X "list.append" OU:=by intro pins s G H x vs v us Q I o B h;obtain⟨l,xs,y,rfl,rfl,j,J,q⟩:=h;cases o;obtain⟨u,rfl,E⟩:=B.one;obtain⟨z,c,n,r,L,e⟩:=I.J3 j;refine call_meets F.slot_list_append ⟨_,e,rfl⟩ F.entry_list_append (F.args_list_append_2 _ _) (PySem.list_append l c.toArray n u (by rw[c4];omega)) ⟨e,?_⟩;refine⟨.cw,_,I.V5 (its':=c++[u]) j e (by simp) (r.append (.cons E .nil)) ?_,rfl,q⟩;rw[fi,nl];omega
def OV:V->List V->Hp->VK->Prop:=λx vs H Q=>∃l b xs c,x=.ref l/\vs=[.ref b]/\H l=some (.lst xs)/\H b=some (.lst c)/\xs.length+c.length<=sizeLine/\Q .cw (upd H l (.lst (xs++c)))
def J5:MtM X "list.extend" OV:=by
 intro pins s U H x vs v us Q I B E h;obtain⟨l,b,xs,Y,rfl,rfl,y,G,Z,q⟩:=h;cases B;obtain⟨u,rfl,J⟩:=E.one;cases J;obtain⟨z,j,n,r,T,e⟩:=I.J3 y;obtain⟨C,c,L,M,O,P⟩:=I.J3 G;have hsz:j.toArray.size+c.toArray.size<=sizeLine:=by rw[c4,c4];omega
 have o:¬(!j.toArray.isEmpty&&Builtin.List.listTooLong (j.toArray.size+c.toArray.size))=true:=by rw[DZ hsz,io];exact eu
 refine call_meets F.slot_list_extend ⟨_,e,rfl⟩ F.entry_list_extend (F.args_list_extend_2 _ _)
  (AutoSeq1.list_extend_list_list_0 l j.toArray n b c.toArray L o (by rw[c4];omega) (by omega)) ⟨e,P,?_⟩
 refine⟨.cw,_,I.V5 (its':=j++c) y e (by simp) (r.append M) ?_,rfl,q⟩;rw[fi];omega
def Sr:R2:=λx y H Q=>∃l b xs c,x=.ref l/\y=.ref b/\H l=some (.lst xs)/\H b=some (.lst c)/\xs.length+c.length<=sizeLine/\∀p,H p=none->Q (.ref p) (upd H p (.lst (xs++c)))
def uh:lp X (binaryOp .Add) Sr:=by
 intro pins s U H x y v u Q I o B h;obtain⟨l,b,xs,Y,rfl,rfl,E,G,Z,q⟩:=h;cases o;cases B;obtain⟨z,j,n,r,T,e⟩:=I.J3 E;obtain⟨C,c,F,J,L,M⟩:=I.J3 G;refine PySem.P.add_list e M ?_ (by rw[c4,c4];omega);have O:j.toArray++c.toArray=(j++c).toArray:=by simp
 rw[O];exact⟨.ref _,_,I.V6 (t':=s.toks) (r.append J) (by rw[fi];omega),rfl,q _ I.fresh⟩
def V7:R2:=λx y H Q=>∃l k xs,x=.ref l/\y=.int k/\H l=some (.lst xs)∧-(2^63)<=k/\k<2^63/\xs.length*k.toNat<=sizeLine/\
 ∀p,H p=none->Q (.ref p) (upd H p (.lst (Da k.toNat xs).flatten))
def len_rep(xs:List α)(k):(Da k xs).flatten.length=k*xs.length:=by
 induction k with
 |zero=>simp
 |succ k c=>rw[ra,wk,fi,c,jO,fD]
def Ss:lp X (binaryOp .Mult) V7:=by
 intro pins s S H x y v u Q I O P h;obtain⟨l,k,xs,rfl,rfl,Y,Z,C,M,q⟩:=h;cases O;obtain⟨t,rfl⟩:=P;obtain⟨z,c,n,r,D,e⟩:=I.J3 Y;have o:c.toArray.size*k.toNat<=sizeLine:=by rw[c4,<-D];exact M
 have B:¬c.toArray.size*k.toNat>(2^63-1)/8:=by
  have:(sizeLine)<=(2^63-1)/8:=by decide
  omega
 have E:¬(!Builtin.List.listFitsIndex k)=true:=by rw[fitsIndex_both Z C];exact eu
 have j:¬Builtin.List.listTooLong (c.toArray.size*k.toNat)=true:=by rw[DZ o];exact eu
 have G:tz (λJ L=>J++L) #[] (Da (if c.toArray.isEmpty=true then 0 else k.toNat) c.toArray)=(Da k.toNat c).flatten.toArray:=by
  have V:∀m:Nat,tz (λJ L=>J++L) #[] (Da m c.toArray)=(Da m c).flatten.toArray:=λm=>by have:=foldl_rep c m [];rw[n0]at this;exact this
  rw[V];cases c with
  |nil=>simp
  |cons a A=>rw[ab (by simp)]
 refine wpAny_binaryOp_repeat_ref (T:="list") (U:="int") (by decide) ⟨_,e,rfl⟩ (λR=>typeIs_int R k t) noFill_list_mul F.fills_int_mul F.slot_int_rmul repeat_list F.slot_int_index.lookup
  (call_meets F.slot_int_rmul (typeIs_int s k t) F.entry_int_rmul (F.args_int_rmul_2 _ _) (int___rmul___int_list k t l c.toArray n)
   ⟨e,rfl,⟨_,e,rfl⟩,call_meets F.slot_list_mul ⟨_,e,rfl⟩ F.entry_list_mul (F.args_list_mul_2 _ _) (AutoListH.list___mul___list_int_3 l c.toArray n k t E B j) ⟨e,?_⟩⟩)
 rw[G];exact⟨.ref _,_,I.V6 (t':=s.toks) (r.rep k.toNat) (by rw[len_rep,cJ];exact M),rfl,q _ I.fresh⟩
theorem Vals.ints:∀{ns:List Int} {us:TyJ},Vals (ns.map V.int) us->IntsAre us ns
 |[],us,h=>by rw[sJ]at h;cases h;exact IntsAre.nil
 |n::ns,us,h=>by
  rw[bI]at h;cases h with
  |cons r t=>
   obtain⟨k,rfl⟩:=r;exact IntsAre.cons n k (Vals.ints t)
def Vals.V8(r:Vals [V.ref a] us):us=[Value.ref a]:=by
 cases r with
 |cons r t=>
  cases t;cases r;rfl
def OW(u:A.handled=none)(j:s.heap.IsList l c.toArray)(q:IntsAre c ns) (h:∀h' tk t',(∀b o,s.heap.get? b=some o->h'.get? b=some o)->Q (.int ns.sum t') {s with heap:=h',toks:=tk}):wpAny (model prog w) A (call (.builtin "sum") [.ref l]) Q E s:=by
 obtain⟨xs,e⟩:=q.allInts.items;have r:numsOf (intItems xs).toList=ns:=by rw[<-e];exact q.numsOf
 rw[nums_intItems]at r;rw[e]at j;refine PySem.sum_intListG u j λh' tk t' y=> ?_;have:=h h' tk t' y;rw[preSum_eq,yM (by simp),r];exact this
def OX(B:A.handled=none)(r:s.heap.IsList l c.toArray)(u:IntsAre c ns)(q:0<ns.length) (h:∀h' tk M t',(∀b o,s.heap.get? b=some o->h'.get? b=some o)->M∈ns->(∀a,a∈ns->M<=a)->Q (.int M t') {s with heap:=h',toks:=tk}):wpAny (model prog w) A (call (.builtin "min") [.ref l]) Q E s:=by
 obtain⟨xs,e⟩:=u.allInts.items;have y:numsOf (intItems xs).toList=ns:=by rw[<-e];exact u.numsOf
 rw[nums_intItems]at y;subst y;rw[e]at r;have hsz:0<xs.size:=by simpa using q
 refine PySem.min_intList B r hsz λv h' tk G H=> ?_;obtain⟨t,rfl⟩:=intItems_at G;obtain⟨P,J⟩:=argBest_lt (numAt xs) (xs.size-1);refine h h' tk _ t H ?_ λa L=> ?_;rw[numAt_eq];exact PySem.getD_mem (by rw[aP,wb];omega);obtain⟨j,O,rfl⟩:=mem_getD L;rw[aP,wb]at O;rw[<-numAt_eq];exact J j (by omega)
def Za(K:Frag):List V->Hp->VK->Prop:=λvs H Q=>∃(a:Addr) (ns:List Int),vs=[V.ref a]/\dr K H a (ns.map V.int)/\Q (.int ns.sum) H
def Zb(K:Frag):List V->Hp->VK->Prop:=λvs H Q=>∃(a:Addr) (ns:List Int),vs=[V.ref a]/\dr K H a (ns.map V.int)/\0<ns.length/\∀m,m∈ns->(∀y,y∈ns->m<=y)->Q (.int m) H
def Su(c:X.calm=true):vb X (.builtin "sum") (Za X.K):=by intro pins s E H vs us Q I r h;obtain⟨a,ns,rfl,j,q⟩:=h;obtain⟨o,u,y,_⟩:=I.list j;rw[Vals.V8 r];exact OW (I.ok.hd c) y.isList u.ints λh' tk t' B=>⟨.int _,H,I.kept B,⟨_,rfl⟩,q⟩
def Sv(j:X.calm=true):vb X (.builtin "min") (Zb X.K):=by intro pins s L H vs us Q I r h;obtain⟨a,ns,rfl,o,c,q⟩:=h;obtain⟨u,y,B,_⟩:=I.list o;rw[Vals.V8 r];exact OX (I.ok.hd j) B.isList y.ints c λh' tk m t' E G J=>⟨.int _,H,I.kept E,⟨_,rfl⟩,q m G J⟩
def Sw(K:Frag):V->List V->Hp->VK->Prop:=λx xs H Q=>∃(a:Addr) (c:List V) (y:V) (j:Nat) (z:V),x=V.ref a/\xs=[y]/\dr K H a c/\pz y=true/\c.all pz=true/\c[j]?=some z/\Li z y=true/\
 (∀(m:Nat) (h:V),m<j->c[m]?=some h->Li h y=false)/\Q (.int (j:Nat)) H
def HU{c:List V}(f:c.all pz=true){j:Nat}{z:V}(h:c[j]?=some z):pz z=true:=c_.mp f z (ky h)
def LQ:Yq X "list.index" (Sw X.K):=by
 intro pins s σ H x xs v us Q I b E h;obtain⟨a,G,y,j,z,rfl,rfl,d,e,o,V,J,L,q⟩:=h;cases b;cases E with
 |cons f g=>
  rename_i i ut;cases g;obtain⟨c,B,⟨⟨k,l,R,p⟩,n,S,A,t,N⟩,W⟩:=I.list d;simp only at A N;subst A N;obtain⟨u,w,ru⟩:=B.get V;obtain⟨M,O⟩:=ph.mp w;have za:=B.length;have hj:j<c.toArray.size:=by simpa using M
  have zb:=oh;refine call_meets PySem.F.slot_list_index ⟨_,S,rfl⟩ PySem.F.entry_list_index (PySem.F.args_list_index_2 _ _)
   (SeqAt.list_indexAt a c.toArray n l p i (Oc y) j hj (by omega) ?_ ?_) ⟨S,λu' P=>ve f e B o u' (by simpa using P),?_⟩
  have U:c.toArray[j]=u:=by simpa using O
  rw[U,Cq ru (HU o V)];exact J;intro m hm Y;have zc:m<c.length:=by simpa using hm
  have Z:m<G.length:=by omega
  have r:G[m]?=some G[m]:=oE Z;obtain⟨u2,T,C⟩:=B.get r;obtain⟨_,D⟩:=ph.mp T;have U:c.toArray[m]=u2:=by simpa using D
  rw[U,Cq C (HU o r)];exact L m _ Y r;exact⟨.int (j),H,I.tok _,⟨_,rfl⟩,q⟩
mutual
inductive Dp(K:Frag)(H:Hp):V->PyData->Prop
 |cw:Dp K H .cw .none
 |bl (b:Bool):Dp K H (.bl b) (.bool b)
 |int (i:Int):Dp K H (.int i) (.int i)
 |str (x:Str):Dp K H (.str x) (.str x)
 |lst {a:Addr} {xs:List V} {ds:List PyData}:dr K H a xs->y6 K H xs ds->Dp K H (.ref a) (.list ds)
 |tup {a:Addr} {xs:List V} {ds:List PyData}:qM K H a xs->y6 K H xs ds->Dp K H (.ref a) (.tuple ds)
inductive y6(K:Frag)(H:Hp):List V->List PyData->Prop
 |nil:y6 K H [] []
 |cons {v:V} {vs:List V} {d:PyData} {ds:List PyData}:Dp K H v d->y6 K H vs ds->y6 K H (v::vs) (d::ds)
end
mutual
theorem Dp.reads(I:Inv X pins σ H s):∀(d:PyData) (v) (u),Dp X.K H v d->RelV v u->∃as,Reads s.heap u d as
 |.none,_,_,h,r=>by cases h;cases r;exact⟨_,Reads.none⟩
 |.bool b,_,_,h,r=>by cases h;cases r;exact⟨_,Reads.bool b⟩
 |.int i,_,_,h,r=>by cases h;obtain⟨t,rfl⟩:=r;exact⟨_,Reads.int i t⟩
 |.str x,_,_,h,r=>by cases h;obtain⟨t,rfl⟩:=r;exact⟨_,Reads.str x t⟩
 |.list ds,_,_,h,r=>by
  cases h with
  |lst j q=>
   cases r;obtain⟨c,y,⟨o,n,B,E,_,G⟩,_⟩:=I.list j;obtain⟨as,J⟩:=Dp.readsAll I ds _ c q y;exact⟨_,Reads.list B E G J⟩
 |.tuple ds,_,_,h,r=>by
  cases h with
  |tup j q=>
   cases r;obtain⟨c,y,⟨o,B,E,n,G⟩,_⟩:=I.tuple j;obtain⟨as,J⟩:=Dp.readsAll I ds _ c q y;exact⟨_,Reads.tuple B E G J⟩
 |.dict _,_,_,h,_=>by cases h
theorem Dp.readsAll(I:Inv X pins σ H s):∀c vs us,y6 X.K H vs c->Vals vs us->∃as,ReadsAll s.heap us c as
 |[],_,_,h,r=>by cases h;cases r;exact⟨_,ReadsAll.nil⟩
 |d::c,_,_,h,r=>by
  cases h with
  |cons j o=>
   cases r with
   |cons q u=>
    obtain⟨as,y⟩:=Dp.reads I d _ _ j q;obtain⟨bs,B⟩:=Dp.readsAll I c _ _ o u;exact⟨_,ReadsAll.cons y B⟩
end
def Zc(K:Frag):R2:=λx y H Q=>∃d e,Dp K H x d/\Dp K H y e/\SeqAt.shaped d=true/\SeqAt.shaped e=true/\Q (.bl (PyData.eqv d e)) H
def Sy(c:X.A.units+64<cLine):lp X (compareOp .Eq) (Zc X.K):=by intro pins s L H x y v u Q I j o h;obtain⟨d,e,r,he,B,E,q⟩:=h;obtain⟨as,G⟩:=Dp.reads I d x v r j;obtain⟨bs,J⟩:=Dp.reads I e y u he o;exact SeqAt.compareEq_shaped G J B E c ⟨.bl _,H,I,rfl,q⟩
abbrev Gg(h:Heap)(c:Addr)(v:Lg):Prop:=h.IsCell c v
noncomputable def Zd(scope c:Scope):Scope:={scope with names:=scope.names.map λ(n,k)=>if(k==.free&&c.kind==.function&&c.names.lookup n==some .cell)then(n,.cell)else(n,k)}
noncomputable def aZ(cells:v8):List (Str×NameKind)->v8->v8
 |[],acc=>acc
 |(n,k)::r,acc=>if k==.free then aZ cells r ((n,(cells.lookup n).getD 0)::acc)else aZ cells r acc
theorem vh(env)(f:Str×NameKind->v8->Sem (ForInStep (v8))) (o:∀n k c,f (n,k) c=if k==.free then(do let a<-cellOf env n;pure (.yield ((n,a)::c)))else pure (.yield c)):
  ∀names acc,(∀y∈names,y.2=.free->∃c,env.cells.lookup y.1=some c)->forIn names acc f=pure (aZ env.cells names acc)
 |[],acc,_=>by rw[uZ];rfl
 |(n,k)::r,acc,h=>by
  rw[yo,o];have q:=λacc=>vh env f o r acc λy u=>h y (d7 _ u);unfold aZ;by_cases j:(k==NameKind.free)=true;rw[ae j,ae j];obtain⟨c,s⟩:=h (n,k) kz (by simpa using j);have e:cellOf env n=pure c:=by unfold cellOf;rw[s]
  rw[e];have B:(env.cells.lookup n).getD 0=c:=by rw[s];rfl
  rw[B];exact q _;rw[ab j,ab j];exact q _
def m3(h:∀y∈scope.names,y.2=.free->∃c,env.cells.lookup y.1=some c):closureFor scope env=pure (aZ env.cells scope.names []):=by simp only[closureFor];rw[vh env _ (λn k c=>rfl) scope.names [] h];rfl
theorem mem_lookup:∀{l:List (Str×α)} {n:Str} {c:α},(n,c)∈l->∃j,l.lookup n=some j
 |(k,v)::r,n,c,h=>by
  rw[lJ];cases o:n==k with
  |true=>exact⟨_,rfl⟩
  |false=>
   rcases aA.mp h with e|h;cases e;simp at o;exact mem_lookup h
theorem eX:∀{names:List (Str×NameKind)} {acc:v8} {n:Str} {c:Addr},(n,c)∈aZ cells names acc->(n,c)∈acc\/((n,.free)∈names/\c=(cells.lookup n).getD 0)
 |[],_,_,_,h=>.inl h
 |(m,k)::r,acc,n,c,h=>by
  unfold aZ at h;split at h;rename_i j;have j:k=.free:=by simpa using j
  rcases eX h with h|⟨o,q⟩;rcases aA.mp h with e|h;cases e;exact .inr ⟨j▸kz,rfl⟩;exact .inl h;exact .inr ⟨d7 _ o,q⟩;rcases eX h with h|⟨o,q⟩;exact .inl h;exact .inr ⟨d7 _ o,q⟩
theorem rh:∀{names:List (Str×NameKind)} {acc:v8} {p:Str×Addr},p∈acc->p∈aZ cells names acc
 |[],_,_,h=>h
 |(m,k)::r,acc,p,h=>by unfold aZ;split;exact rh (d7 _ h);exact rh h
theorem ri:∀{names:List (Str×NameKind)} {acc:v8} {n:Str},(n,.free)∈names->(n,(cells.lookup n).getD 0)∈aZ cells names acc
 |(m,k)::r,acc,n,h=>by unfold aZ;rcases aA.mp h with e|h;cases e;exact rh kz;split;exact ri h;exact ri h
theorem mJ:∀{names:List (Str×NameKind)} {h:Heap} {acc:v8} {x:Str} {c:Addr},(x,c)∈cellsFrom h.objs.size names acc->(x,c)∈acc\/((x,.cell)∈names/\h.objs.size<=c/\Gg (pushCells h names) c none)
 |[],_,_,_,_,h=>.inl h
 |(n,k)::r,h,acc,x,c,j=>by
  unfold cellsFrom at j;unfold pushCells;split at j;rename_i o;rw[ae o];have o:k=.cell:=by simpa using o
  rw[<-dv h {cls:=.type "cell",data:=.cell none}]at j;rcases mJ j with j|⟨s,q,u⟩;rcases aA.mp j with e|j;cases e;exact .inr ⟨o▸kz,aH _,_,sG r _ _ _ (dP _ rfl),rfl⟩;exact .inl j;rw[dv]at q;exact .inr ⟨d7 _ s,wm q,u⟩;rename_i o;rw[ab o];rcases mJ j with j|⟨s,q,u⟩;exact .inl j;exact .inr ⟨d7 _ s,q,u⟩
theorem pA:∀{names:List (Str×NameKind)} {n:Nat} {acc:v8} {p:Str×Addr},p∈acc->p∈cellsFrom n names acc
 |[],_,_,_,h=>h
 |(m,k)::r,n,acc,p,h=>by unfold cellsFrom;split;exact pA (d7 _ h);exact pA h
theorem sM:∀{names:List (Str×NameKind)} {n:Nat} {acc:v8} {x:Str},(x,.cell)∈names->∃c,(x,c)∈cellsFrom n names acc
 |(m,k)::r,n,acc,x,h=>by unfold cellsFrom;rcases aA.mp h with e|h;cases e;exact⟨n,pA kz⟩;split;exact sM h;exact sM h
theorem sN:∀{names:List (Str×NameKind)} {h:Heap} {acc:v8} {x y:Str} {c:Addr},(∀p∈acc,p.2<h.objs.size)->(∀x y c,(x,c)∈acc->(y,c)∈acc->x=y)->(x,c)∈cellsFrom h.objs.size names acc->(y,c)∈cellsFrom h.objs.size names acc->x=y
 |[],_,_,_,_,_,_,hi,o,j=>hi _ _ _ o j
 |(n,k)::r,h,acc,x,y,c,q,hi,o,j=>by unfold cellsFrom at o j;split at o;rename_i s;rw[ae s]at j;rw[<-dv h {cls:=.type "cell",data:=.cell none}]at o j;refine sN (h:=h.push _) (λp u=> ?_) (λx y c a b=> ?_) o j;rw[dv];rcases aA.mp u with rfl|u;exact bn _;exact Cb (q p u);rcases aA.mp a with e|a<;>rcases aA.mp b with e'|b;cases e;cases e';rfl;cases e;exact absurd (q _ b) (mB _);cases e';exact absurd (q _ a) (mB _);exact hi _ _ _ a b;rename_i s;rw[ab s]at j;exact sN q hi o j
def D0{M:Model}{A:Around}{E:wo}{s:Shared}{scope:Scope}{q:Addr}{j:v8}{qual:Str}{u:Option Addr}{y:Value}{r:Env}{o:Addr}{Q:Env->Shared->Prop} (h:Q (newEnv scope s.heap.objs.size q (cellsFrom (s.heap.objs.size+1) scope.names j) qual u y (some r) o) {s with heap:=pushCells (s.heap.push {cls:=.type "dict",data:=.dict #[]}) scope.names}):wpAny M A (newFunctionEnv scope q j [] qual u y (some r) o) Q E s:=by simp only[newFunctionEnv,Rs,c6];refine af (wpAny_alloc ?_);refine af (wpAny_layCells _ (λn k c=>rfl) scope.names j _ _ ?_);rw[show({s with heap:=s.heap.push {cls:=.type "dict",data:=.dict #[]}}:Shared).heap.objs.size=s.heap.objs.size+1 from dv ..];rw[uZ];exact af (aQ (aQ h))
theorem rj{c:Scope}:∀{names:List (Str×NameKind)} {x:Str} {k:NameKind},(names.map λ(n,k)=>if(k==NameKind.free&&c.kind==.function&&c.names.lookup n==some .cell)then(n,NameKind.cell)else(n,k)).lookup x=some k->∃q,names.lookup x=some q/\(k=q\/(q=.free/\k=.cell))
 |[],_,_,h=>by simp at h
 |(n,k₀)::r,x,k,h=>by
  have s:=@rj c r x k;have h':P1 x ((if(k₀==NameKind.free&&c.kind==.function&&c.names.lookup n==some .cell)=true then(n,NameKind.cell)else(n,k₀))::(r.map _))=some k:=h;cases o:x==n with
  |true=>
   simp only[lJ,o];by_cases j:(k₀==NameKind.free&&c.kind==.function&&c.names.lookup n==some .cell)=true;rw[ae j]at h';simp only[lJ,o]at h';cases h';simp only[aB,beq_iff_eq]at j;exact⟨k₀,rfl,.inr ⟨j.1.1,rfl⟩⟩;rw[ab j]at h';simp only[lJ,o]at h';cases h';exact⟨_,rfl,.inl rfl⟩
  |false=>
   simp only[lJ,o];by_cases j:(k₀==NameKind.free&&c.kind==.function&&c.names.lookup n==some .cell)=true;rw[ae j]at h';simp only[lJ,o]at h';exact s h';rw[ab j]at h';simp only[lJ,o]at h';exact s h'
structure tK(N:jR)(sc scope:Scope)(own:List (Str×Nat)):Prop where
 kind:scope.kind=.function
 uniq:∀y∈scope.names,scope.names.lookup y.1=some y.2
 ix:∀p∈own,N[p.2]?=some p.1
 free:∀y∈scope.names,y.2=.free->sc.names.lookup y.1=some .cell\/sc.names.lookup y.1=some .free
 own:∀y∈scope.names,y.2=.local\/y.2=.cell->y.1∈own.map (·.1)\/y.1∉N
noncomputable def wipe(c:St):gd->St
 |[]=>c
 |v::vs=>(wipe c vs).set v none
theorem gf(σ):∀vs:gd,(wipe σ vs).length=σ.length
 |[]=>rfl
 |v::vs=>by unfold wipe;rw[nZ,gf σ vs]
theorem wy:∀{vs:gd},(wipe σ vs)[i]?=some (some x)->σ[i]?=some (some x)/\i∉vs
 |[],h=>⟨h,by simp⟩
 |v::vs,h=>by unfold wipe at h;by_cases c:v=i;subst c;by_cases j:v<(wipe σ vs).length;rw[pY j]at h;cases h;rw[fF (by simpa using j)]at h;cases h;rw[m1 c]at h;obtain⟨o,q⟩:=wy h;exact⟨o,by simp only[aA,not_or];exact⟨λe=>c e.symm,q⟩⟩
noncomputable abbrev Cx.lM(X:Cx)(s:Shared)(H:Hp)(scope:Scope)(c:Env)(h:oj):Cx:={X with Cf:=s,Vh:=H,env:=c,outer:=X.stack,ex:=h,fn:=λx=>scope.names.lookup x==some .cell,pn:=[],xe:=λ_ _=>False}
def D1(I:Inv X pins σ H s)(ok:tK X.N X.env.scope scope own)(hN:X.N.Nodup)(B:∀b∈fp,xK X pins H b/\b<s.heap.objs.size):Inv (X.lM s H scope (compEnvC scope (cellsFrom (s.heap.objs.size+1) scope.names (aZ X.env.cells scope.names [])) s.heap.objs.size X.env) fp) [] (wipe σ (own.map (·.2))) H {s with heap:=pushCells (s.heap.push {cls:=.type "dict",data:=.dict #[]}) scope.names}:=by
 have T:∀y∈scope.names,y.2=.free->∃c,X.env.cells.lookup y.1=some c:=λy L e=>by rcases ok.free y L e with k|k;exact I.ok.has _ (.inl k);exact I.ok.has _ (.inr k)
 generalize h:compEnvC scope (cellsFrom (s.heap.objs.size+1) scope.names (aZ X.env.cells scope.names [])) s.heap.objs.size X.env=cenv;have W:∀b o,s.heap.get? b=some o->(pushCells (s.heap.push {cls:=.type "dict",data:=.dict #[]}) scope.names).get? b=some o:=λb o e=>sG _ _ _ _ (aX _ e);have d:cenv.locals=s.heap.objs.size:=by rw[<-h];rfl
 have u:cenv.cells=cellsFrom (s.heap.objs.size+1) scope.names (aZ X.env.cells scope.names []):=by rw[<-h];rfl
 have C:cenv.scope=Zd scope X.env.scope:=by rw[<-h];rfl
 rw[<-dv s.heap {cls:=.type "dict",data:=.dict #[]}]at u;have S:∀{y c},(y,c)∈aZ X.env.cells scope.names []->X.env.cells.lookup y=some c/\c<s.heap.objs.size:=λ{y c} E=>by rcases eX E with E|⟨j,rfl⟩;cases E;obtain⟨c,x⟩:=T _ j rfl;rw[x];obtain⟨w,z⟩:=I.cell _ _ x;exact⟨rfl,z.lt⟩
 have F:∀{y c},cenv.cells.lookup y=some c->(X.env.cells.lookup y=some c/\c<s.heap.objs.size)\/(s.heap.objs.size+1<=c/\Gg (pushCells (s.heap.push {cls:=.type "dict",data:=.dict #[]}) scope.names) c none):=λ{y c} e=>by rw[u]at e;rcases mJ (eJ e)with E|⟨_,M,h3⟩;exact .inl (S E);rw[dv]at M;exact .inr ⟨M,h3⟩
 have P:∀{y},scope.names.lookup y=some .free->∃c,cenv.cells.lookup y=some c/\X.env.cells.lookup y=some c:=λ{y} f=>by have L:(y,NameKind.free)∈scope.names:=eJ f;obtain⟨g,e'⟩:=mem_lookup (pA (names:=scope.names) (n:=(s.heap.push {cls:=.type "dict",data:=.dict #[]}).objs.size) (ri (cells:=X.env.cells) (acc:=[]) L));rw[<-u]at e';refine⟨g,e',?_⟩;rw[u]at e';rcases mJ (eJ e')with E|⟨j,_,_⟩;exact(S E).1;have:=ok.uniq _ j;rw[f]at this;cases this
 have l:(X.lM s H scope cenv fp).Ok:=by
  refine⟨I.ok.mod,by show cenv.scope.kind=_;rw[C];exact ok.kind,by show cenv.globals=_;rw[<-h];exact I.ok.glob,by show cenv.builtins=_;rw[<-h];exact I.ok.blt,by show s.heap.objs.size<=cenv.locals;rw[d];exact aH _,
   λy z c Q U=> ?_,λy L=> ?_,λy c z e=> ?_,I.ok.hd,I.ok.frames,.inl rfl,λb Y=>⟨?_,λy c e z=> ?_⟩,I.bs,eF I.ok.Ln I.sz,λb o e Y=> ?_,λb Y z=> ?_,I.stack,I.HA⟩
  have Q:cenv.cells.lookup y=some c:=Q;have U:cenv.cells.lookup z=some c:=U;rw[u]at Q U;refine sN (λp R=> ?_) (λy z c a b=>I.ok.inj y z c (S a).1 (S b).1) (eJ Q) (eJ U);rw[dv];exact Cb (S (y:=p.1) (c:=p.2) R).2;show ∃c,cenv.cells.lookup y=some c;have G:∀k,cenv.kindOf y=some k->(k=.cell\/k=.free)->∃c,cenv.cells.lookup y=some c:=λk D V=>by
   unfold Env.kindOf at D;rw[C]at D;obtain⟨Z,e,r⟩:=rj D;have:Z=.cell\/Z=.free:=by rcases r with rfl|⟨rfl,_⟩;exact V;exact .inr rfl
   rcases this with rfl|rfl;obtain⟨c,E⟩:=sM (n:=(s.heap.push {cls:=.type "dict",data:=.dict #[]}).objs.size) (acc:=aZ X.env.cells scope.names []) (eJ e);obtain⟨g,e'⟩:=mem_lookup E;exact⟨g,by rw[u];exact e'⟩;obtain⟨c,j,_⟩:=P e;exact⟨c,j⟩
  rcases L with L|L;exact G _ L (.inl rfl);exact G _ L (.inr rfl);have z:(scope.names.lookup y==some NameKind.cell)=true:=z;have z:scope.names.lookup y=some .cell:=by simpa using z
  have e:cenv.cells.lookup y=some c:=e;rw[u]at e;rcases mJ (eJ e)with E|⟨_,M,_⟩;rcases eX E with E|⟨j,_⟩;cases E;have q:=ok.uniq _ j;rw[z]at q;cases q;rw[dv]at M;exact wm M;show b≠cenv.locals;rw[d];exact cV (B b Y).2;have e:cenv.cells.lookup y=some c:=e;rcases F e with⟨j,_⟩|⟨j,_⟩;exact(B b Y).1.2.2.2.2.1 y c j z;have M:s.heap.objs.size+1<=b:=by rw[<-z];exact j
  exact absurd (bw (B b Y).2 (wm M)) (mB _);rcases(B b Y).1.2.2.2.1 with z|z;exact I.ok.JS b o e z;exact absurd (bw (aT e) (eF I.ok.Ln z)) (mB _);rcases aA.mp (I.F3 b z)with z|z;exact(B b Y).1.2.1 z;exact(B b Y).1.2.2.1 z
 refine⟨l,rfl,I.bare,Un.kept W,⟨λ_=>none,?_,λi y av Q U J=> ?_⟩,λy c e=> ?_,?_,λy c e=> ?_,λp R=> ?_,I.fK.kept W,by rw[gf];exact I.len⟩;show Heap.Ns _ cenv.locals _;rw[d];exact Heap.Ns.keeps (Heap.Ns.new ..) λb o e=>sG _ _ _ _ e;obtain⟨U,t⟩:=wy U;have O:scope.names.lookup y=some .free/\(cenv.kindOf y=some .cell\/cenv.kindOf y=some .free):=by
  have G:∀k,cenv.scope.names.lookup y=some k->k=.local\/k=.cell\/k=.free->scope.names.lookup y=some .free/\(cenv.kindOf y=some .cell\/cenv.kindOf y=some .free):=λk D V=>by
   have A:=D;rw[C]at D;obtain⟨Z,e,r⟩:=rj D;have no:¬(Z=.local\/Z=.cell):=λhh=>by rcases ok.own _ (eJ e) hh with e'|e';obtain⟨p,R,v⟩:=iu.mp e';have J:=ok.ix p R;have:p.1=y:=v;rw[this]at J;exact t (iu.mpr ⟨p,R,yW hN J Q⟩);exact e' (ky Q)
   rcases r with rfl|⟨rfl,rfl⟩;rcases V with rfl|rfl|rfl;exact absurd (.inl rfl) no;exact absurd (.inr rfl) no;exact⟨e,.inr A⟩;exact⟨e,.inl A⟩
  have J:DP cenv.scope y:=J;rcases J with J|J|J;exact G _ J (.inl rfl);exact G _ J (.inr (.inl rfl));exact G _ J (.inr (.inr rfl))
 obtain⟨m,hn,f⟩:=I.loc;have K:DP X.env.scope y:=(ok.free _ (eJ O.1) rfl).elim (λk=>.inr (.inl k)) (λk=>.inr (.inr k));obtain⟨w,r,q⟩:=f i y av Q U K;refine⟨w,r,.inr ⟨O.2,?_⟩⟩;obtain⟨c,j,M⟩:=P O.1;rcases q with⟨k,_⟩|⟨_,g,e',z⟩;have k:X.env.scope.names.lookup y=some .local:=k;rcases ok.free _ (eJ O.1) rfl with Z|Z<;>rw[show X.env.scope.names.lookup y=_ from Z]at k<;>cases k;rw[M]at e';cases e';exact⟨c,j,z.keeps W⟩;have e:cenv.cells.lookup y=some c:=e;rcases F e with⟨j,_⟩|⟨_,z⟩;obtain⟨w,z⟩:=I.cell y c j;exact⟨w,z.keeps W⟩;exact⟨_,z⟩;show H cenv.locals=none;rw[d];exact I.fK.fresh (aH _);have e:cenv.cells.lookup y=some c:=e;rcases F e with⟨j,_⟩|⟨j,_⟩;exact I.pq y c j;exact .inl (I.fK.fresh (wm j));exact absurd (show p∈([]:m2)++[]from R) (by simp)
def Sz(I:Inv X pins σ H s)(o:H D=some (.lst xs))(J:xs.length<sizeLine)(r:RelV y v) (h:∀B,Inv X pins σ (upd H D (.lst (xs++[y]))) B->Q .none B):wpAny (model X.prog X.w) X.A (call (.builtin "list.append") [.ref D,v]) Q E s:=by obtain⟨L,j,n,G,e⟩:=I.fK D _ o;have P:=G.length;refine append_at (hsz:=by rw[c4];omega) e λh' M c=> ?_;refine h {s with heap:=h'} (I.write (t':=s.toks) (by rw[o];trivial) (.inl rfl) (λb u O q=>(M.2 b O).trans q) ⟨_,c⟩ ⟨by rw[fi];exact J,j++[v],n+1,G.append (.cons r .nil),?_⟩);rw[c];simp
def V9(X:Cx)(h:lj)(t:TT):Prop:=∀(pins:m2) (s:Shared) (σ:St) (H:Hp) (Q:Bool->Hp->Prop),Inv X pins σ H s->t σ H Q->
  wpAny (model X.prog X.w) X.A (forIn h true λc r=>if r=true then do let ok<-isTrue c X.env (eval c X.env);pure (SB ok)else pure (SB r)) (TP X pins σ Q) X.xe s
def V_:TT:=λ_ H Q=>Q true H
def HV:V9 X [] V_:=λ_ _ _ H _ I h=>wpAny_tests_nil ⟨H,I,h⟩
def HW(h:PT X c t):V9 X [c] t:=λpins s σ H Q I j=>wpAny_tests_one (h pins s σ H Q I j)
def J6(h:wpAny M A t Q (λ_ _=>False) s)(c:∀a s,Q a s->j a s):wpAny M A t j E s:=eG h c λ_ _ z=>Db z
theorem Cs(I:Nat->Shared->Prop) (L:∀n s,I n s->wpAny (model prog w) A (pyNext it) (λr j=>match r with
   |none=>R (.ok .next) j
   |some v=>wpAny (model prog w) A (letOwnedTupleGo target it v) (λ_ o=>wpAny (model prog w) A (assign target env v) (λ_ y=>
     wpAny (model prog w) A (forIn ifs true λc r=>if r=true then do let ok<-isTrue c env (eval c env);pure (SB ok)else pure (SB r)) (λok q=>
      if ok=true then wpAny (model prog w) A (eval elt env) (λx B=>
       wpAny (model prog w) A (call (.builtin "list.append") [acc,x]) (λ_ E=>∃m,m<n/\I m E) (notedBy (model prog w) A env λe u=>R (.error e) u) B) (notedBy (model prog w) A env λe u=>R (.error e) u) q
      else ∃m,m<n/\I m q) (notedBy (model prog w) A env λe u=>R (.error e) u) y) (notedBy (model prog w) A env λe u=>R (.error e) u) o) (notedBy (model prog w) A env λe u=>R (.error e) u) j) (notedBy (model prog w) A env λe u=>R (.error e) u) s)
  (n)(h:I n s):
  codeAny (model prog w) A (.compLoop (.ListComp elt [⟨target,iter,ifs,0⟩] scope pos) 0 it acc env) R s:=by
 refine codeAny_loop rfl I (λn s Q=> ?_) n h
 refine wpAny_noted ?_
 rw[compTurn_list]
 refine af (wpAny_standAt (af (eG (L n s Q) (λr j G=> ?_) λ_ _ h'=>h')))
 cases r with
 |none=>exact aQ G
 |some v=>
  refine af (eG G (λ_ o J=> ?_) λ_ _ h'=>h')
  refine af (eG J (λ_ y M=>af (eG M (λok q H=> ?_) λ_ _ h'=>h')) λ_ _ h'=>h')
  cases ok with
  |false=>exact aQ ⟨rfl,H⟩
  |true=>
   exact af (af (eG H (λx B O=>af (eG O (λ_ E P=>aQ (aQ ⟨rfl,P⟩)) λ_ _ h'=>h')) λ_ _ h'=>h'))
def SA(s:TI)(g:TG)(u:TT)(B:TE)(vs:gd):TE:=λσ H Q=>s σ H λJ j=>∀D,j D=none->∃W:Nat->Nat->Hp->Prop,(∃m,W 0 m (upd j D (.lst [])))/\∀i m H,W i m H->
 (J.stop i H/\Q (.ref D) H)\/(J.go i H/\∃h:Hp->Prop,(∀c,h c->∃o,o<m/\W (i+1) o c)/\∀x c,J.Lz i H x c->g x (wipe σ vs) c λσ2 E=>wipe σ2 vs=wipe σ vs/\u σ2 E λb q=>
  if b=true then B σ2 q λy r=>∃acc,r D=some (.lst acc)/\acc.length<sizeLine/\h (upd r D (.lst (acc++[y])))else h q)
def HX{pins:m2}{s:Shared}{Y:St}{H:Hp}{Q:VK}{Z tg M:Expr}{F:lj}{scope:Scope}{P:List (Str×Nat)}{pos za:Pos}{wi:TI}{g:TG}{tt:TT}{te:TE}{use:Option (Value->Sem Unit)}{Qf:wo} (hc:X.calm=true)(hN:X.N.Nodup)(I:Inv X pins Y H s)(hi:PI X tg M wi)(ok:tK X.N X.env.scope scope P) (hg:∀(s:Shared) (H:Hp) (C:Addr) (cl:v8) (B:oj),PG (X.lM s H scope (compEnvC scope cl C X.env) B) tg g)(ht:∀s H C cl B,V9 (X.lM s H scope (compEnvC scope cl C X.env) B) F tt) (he:∀s H C cl B,PE (X.lM s H scope (compEnvC scope cl C X.env) B) Z te)(hs:∀x,foldedSetIterable M X.env x=pure x) (h:SA wi g tt te (P.map (·.2)) Y H Q) (zq:∀D C O m G,Inv X pins Y G O->Q (.ref D) G->O.heap.Ns C m->xK X pins G C->compPost (model X.prog X.w) X.A X.xe use Qf (.ref D) C (.ok .next) O):wpAny (model X.prog X.w) X.A (comprehension (.ListComp Z [⟨tg,M,F,0⟩] scope pos) scope X.env za (newList []) false (eval M X.env) use) Qf X.xe s:=by
 have K:∀y∈scope.names,y.2=.free->∃c,X.env.cells.lookup y.1=some c:=λy hy e=>by
  rcases ok.free y hy e with k|k
  ·exact I.ok.has _ (.inl k)
  ·exact I.ok.has _ (.inr k)
 refine wpAny_comprehension_free (use:=use) rfl hs (m3 K) ok.kind (λy hy e=>by rw[ok.uniq y hy,e])
  (ew (hi pins s Y H _ I h) λxv s1 hx=>ew hx λyb l h2=> ?_)
 obtain⟨it,B,tn,J,V,e,I2,T,zb,f2,q⟩:=h2;subst e;refine wpAny_newObj_type (D0 ?_) (by show 0<=sizeLine;decide);generalize hD:l.heap.objs.size=D;have zr:V D=none:=I2.fK.fresh (qa hD);obtain⟨W,⟨m0,w0⟩,zc⟩:=q D zr;generalize zd:({l with heap:=l.heap.push {cls:=.type "list",data:=.seq ([]:TyJ).toArray}}:Shared)=s3;have I3:Inv X pins Y (upd V D (.lst [])) s3:=by rw[<-zd];refine I2.laid (t':=l.toks) (λb o e=>aX _ e) (qa hD) ⟨mD _,[],0,.nil,?_⟩;rw[<-hD];exact dP _ rfl
 have h3:s3.heap=l.heap.push {cls:=.type "list",data:=.seq ([]:TyJ).toArray}:=by rw[<-zd]
 have sz:∀b∈B,b<l.heap.objs.size:=λb E=>by obtain⟨o,e,_⟩:=T.obj _ _ zb b E;exact aT e
 have a:∀b∈B,xK X pins (upd V D (.lst [])) b/\b<s3.heap.objs.size:=λb E=>by have ze:=sz b E;refine⟨⟨?_,(f2 b E).2⟩,by rw[h3,dv];exact Cb ze⟩;rw[ao (by rw[<-hD];exact cV ze)];exact(f2 b E).1
 have zt:tn 0 s3.heap:=T.keep _ _ _ zb λb _ o e=>by rw[h3];exact aX _ e
 have I4:=D1 I3 ok hN a;have pg:=hg s3 (upd V D (.lst [])) s3.heap.objs.size (cellsFrom (s3.heap.objs.size+1) scope.names (aZ X.env.cells scope.names [])) B;have pt:=ht s3 (upd V D (.lst [])) s3.heap.objs.size (cellsFrom (s3.heap.objs.size+1) scope.names (aZ X.env.cells scope.names [])) B;have pe:=he s3 (upd V D (.lst [])) s3.heap.objs.size (cellsFrom (s3.heap.objs.size+1) scope.names (aZ X.env.cells scope.names [])) B;show codeAny _ _ (.compStart (.ListComp Z [⟨tg,M,F,0⟩] scope pos) 0 (.ref it) (.ref D) (compEnvC scope (cellsFrom (s3.heap.objs.size+1) scope.names (aZ X.env.cells scope.names [])) s3.heap.objs.size X.env)) (compPost (model X.prog X.w) X.A X.xe use Qf (.ref D) s3.heap.objs.size) {s3 with heap:=pushCells (s3.heap.push {cls:=.type "dict",data:=.dict #[]}) scope.names};have zf:∀b∈B,(upd V D (.lst [])) b=none:=λb E=>(a b E).1.1;generalize zu:compEnvC scope (cellsFrom (s3.heap.objs.size+1) scope.names (aZ X.env.cells scope.names [])) s3.heap.objs.size X.env=ce at I4 pg pt pe|-;have cL:ce.locals=s3.heap.objs.size:=by subst zu;rfl
 generalize yc:upd V D (.lst [])=H3 at I3 I4 pg pt pe w0 zf a;generalize zv:({s3 with heap:=pushCells (s3.heap.push {cls:=.type "dict",data:=.dict #[]}) scope.names}:Shared)=s4 at I4|-;have zg:tn 0 s4.heap:=T.keep _ _ _ zt λb _ o e=>by rw[<-zv];exact sG _ _ _ _ (aX _ e)
 have U:∀{zh:St} {G:Hp} {O:Shared},Inv (X.lM s3 H3 scope ce B) [] zh G O->(∀b∈B,G b=none)->∀b∈B,xK (X.lM s3 H3 scope ce B) [] G b:=λ{zh G O} t hn b E=>
  ⟨hn b E,(t.ok.Vx b E).1,t.ok.JT b E,.inl E,λx c e=>(t.ok.Vx b E).2 x c e,λp hp=>absurd (show p∈([]:m2)++[]from hp) (by simp)⟩
 have R:codeAny (model X.prog X.w) X.A (.compLoop (.ListComp Z [⟨tg,M,F,0⟩] scope pos) 0 (.ref it) (.ref D) ce) (compPost (model X.prog X.w) X.A X.xe use Qf (.ref D) s3.heap.objs.size) s4:=by
  refine Cs (λn O=>∃i G,Inv (X.lM s3 H3 scope ce B) [] (wipe Y (P.map (·.2))) G O/\tn i O.heap/\(∀b∈B,G b=none)/\W i n G) ?_ m0 ⟨0,H3,I4,zg,zf,w0⟩;rintro n s5 ⟨i,d,I5,zi,n5,w5⟩;rcases zc i n d w5 with⟨zj,qq⟩|⟨go,Nx,zw,zk⟩
  ·have td:=T.done (X.lM s3 H3 scope ce B) rfl rfl rfl hc i [] s5 _ d (λ_ _=>False) I5 (U I5 n5) zi zj;refine J6 td λr s6 L=> ?_;obtain⟨hr,I6⟩:=L;subst hr;have I7:Inv X pins Y d s6:=I3.Vy (ch:=B) I6.os I6.base I6.fK I6.bare λb E=>⟨(a b E).1.2.2.2.1,(a b E).1.2.1,(a b E).1.2.2.2.2.1,(a b E).1.2.2.2.2.2⟩;have nC:d s3.heap.objs.size=none:=by have z:d ce.locals=none:=I6.free;rw[cL]at z;exact z
   obtain⟨m,hn,_⟩:=I6.loc;have hn:s6.heap.Ns ce.locals m:=hn;rw[cL]at hn;exact zq D s3.heap.objs.size s6 m d I7 qq hn (I3.DS (aH _) nC)
  ·have ti:=T.item (X.lM s3 H3 scope ce B) rfl rfl rfl hc i [] s5 _ d (λ_ _=>False) I5 (U I5 n5) zi go;refine J6 ti λr s6 L=> ?_;obtain⟨u,hr,h6⟩:=L;subst hr;refine J6 h6 λ_ s7 L=> ?_;obtain⟨x,H7,I7,r7,y7,f,n7⟩:=L;have zx:=I7.pinned (U I7 n7) (T.obj _ _ f);refine J6 (pg _ s7 _ H7 x u _ zx r7 (zk x H7 y7)) λ_ s8 L=> ?_;obtain⟨σ8,H8,I8,zl,q8⟩:=L;refine J6 (pt _ s8 σ8 H8 _ I8 q8) λb s9 L=> ?_;obtain⟨H9,I9,q9⟩:=L;have zm:∀{O:Shared} {G:Hp},Inv (X.lM s3 H3 scope ce B) ([]++yZ B s7.heap) σ8 G O->Nx G->∃m,m<n/\∃i G,Inv (X.lM s3 H3 scope ce B) [] (wipe Y (P.map (·.2))) G O/\tn i O.heap/\(∀b∈B,G b=none)/\W i m G:=λ{O G} t nx=>by
    obtain⟨m',hm,w'⟩:=zw G nx;have S:∀b∈B,∀o,s7.heap.get? b=some o->O.heap.get? b=some o/\G b=none:=λb E o e=>
     let z:=t.pin (b,o) (q0 _ (q0 _ (ue E e)))
     ⟨z.1,z.2.1⟩
    have hl:(wipe Y (P.map (·.2))).length=σ8.length:=by rw[<-zl,gf]
    refine⟨m',hm,i+1,G,(t.va (pins:=[])).weak hl (λj v e=> ?_),T.keep _ _ _ f λb E o e=>(S b E o e).1,λb E=> ?_,w'⟩
    ·rw[<-zl]at e;exact(wy e).1
    ·obtain⟨o,e,_⟩:=T.obj _ _ f b E;exact(S b E o e).2
   cases b with
   |false=>
    simp only[ub,k3]at q9|-;exact zm I9 q9
   |true=>
    simp only[c6]at q9|-;refine J6 (pe _ s9 σ8 H9 _ I9 q9) λz yd L=> ?_;obtain⟨yv,ye,zy,zz,acc,zo,zp,nx⟩:=L;exact Sz (X:=X.lM s3 H3 scope ce B) zy zo zp zz λyf ya=>zm ya nx
 exact codeAny_compStart_list R (T.self X.A 0 _ _ _ zg R)
def Ra(r:X.calm=true)(u:X.N.Nodup)(y:PI X tg iter B)(E:tK X.N X.env.scope scope own) (G:∀s H C c j,PG (X.lM s H scope (compEnvC scope c C X.env) j) tg g)(J:∀s H C c j,V9 (X.lM s H scope (compEnvC scope c C X.env) j) ifs tt) (he:∀s H C c j,PE (X.lM s H scope (compEnvC scope c C X.env) j) elt L)(M:∀x,foldedSetIterable iter X.env x=pure x:=by intro _;rfl):
  PE X (.ListComp elt [⟨tg,iter,ifs,0⟩] scope pos) (SA B g tt L (own.map (·.2))):=by
 intro pins s W H Q I h
 rw[eval_ListComp]
 refine HX r u I y E G J he M h λD C O m P U q Y f=>⟨m,Y,λZ T=> ?_⟩
 obtain⟨F,V,a,R,S,A⟩:=f
 exact⟨.ref D,P,U.turned (t':=O.toks) (λb o K e=>(T.2 b K).trans e) F V R S A,rfl,q⟩
def D2(Z:X.calm=true)(M:X.N.Nodup)(T:X.N[i]?=some y)(c:X.env.scope.names.lookup y=some .local) (B:swapsWith (.ListComp elt [⟨tg,iter,ifs,0⟩] scope pos) (some (.Name y py)) j.line X.env=pure true)(F:PI X tg iter O)(R:tK X.N X.env.scope scope own) (S:∀s H C r u,PG (X.lM s H scope (compEnvC scope r C X.env) u) tg g)(A:∀s H C r u,V9 (X.lM s H scope (compEnvC scope r C X.env) u) ifs tt) (he:∀s H C r u,PE (X.lM s H scope (compEnvC scope r C X.env) u) elt P)(K:∀x,foldedSetIterable iter X.env x=pure x:=by intro _;rfl):
  PS X (.Assign [.Name y py] (.ListComp elt [⟨tg,iter,ifs,0⟩] scope pos) j) (RU (SA O g tt P (own.map (·.2))) (HE i)):=by
 intro pins s Q H D I h
 rw[exec_Assign_Name_used _ _ _ _ B]
 refine af (wpAny_standAt (af ?_))
 have h:SA O g tt P (own.map (·.2)) Q H (λx W=>HE i x Q W D.nx):=h
 refine af (ew (HX (Qf:=λ_ E=>SP X pins D .next E) Z M I F R S A he K h λL C E m d k q l f=> ?_) λ_ E n=>aQ (aQ n))
 refine wpAny_assign_Name (Bn (v:=V.ref L) k M T (.inl c) rfl (λp t ⟨a,sb,ha⟩=> ?_) (.inr c))
 obtain⟨w,U,f2,f3,Y,f5⟩:=f
 have G:C≠a:=by
  rcases ha with z|z
  ·rw[z];exact U
  ·exact λe=>Y y a z e.symm
 refine⟨m,l.sameBut sb G,λh3 J=> ?_⟩
 exact⟨_,d,t.turned (t':=p.toks) (λb o hb e=>(J.2 b hb).trans e) w U f3 Y f5,q⟩
section
variable {κ:Type} [DecidableEq κ]
noncomputable def OY(c:List (κ×V))(k:κ):Option V:=(c.find? λh=>decide (h.1=k)).map (·.2)
noncomputable def putK(c:List (κ×V))(k:κ)(v:V):List (κ×V):=if(c.any λh=>decide (h.1=k))=true then c.map (λh=>if h.1=k then(h.1,v)else h)else c++[(k,v)]
noncomputable def Rb(c:List (κ×V))(k:κ):List (κ×V):=c.filter λh=>decide (h.1≠k)
def xH.getD(r:xH o u)(c:RelV d d'):RelV (o.getD d) (u.getD d'):=by
 cases o with
 |none=>cases u with
  |none=>exact c
  |some _=>exact(show False from r).elim
 |some _=>cases u with
  |none=>exact(show False from r).elim
  |some _=>exact r
def KV.drop(r:KV c vs)(k:κ):KV (Rb c k) (without vs k):=by
 unfold KV at r|-;unfold Rb without;induction r with
 |nil=>exact .nil
 |@cons p q ps u h t o=>
  obtain⟨j,s⟩:=h;rw[yU,yU];by_cases e:p.1=k;have a:¬decide (p.1≠k)=true:=by simp[e]
  have b:¬decide (q.1≠k)=true:=by simp[j.symm.trans e]
  rw[ab a,ab b];exact o;have e':¬q.1=k:=λz=>e (j.trans z);have a:decide (p.1≠k)=true:=by simp[e]
  have b:decide (q.1≠k)=true:=by simp[e']
  rw[ae a,ae b];exact .cons ⟨j,s⟩ o
def KV.keys{c:List (κ×V)}{vs:List (κ×Value)}(r:KV c vs):c.map (·.1)=vs.map (·.1):=by
 unfold KV at r;induction r with
 |nil=>rfl
 |cons h t j=>rw[bI,bI,j,h.1]
def KV.length(r:KV c vs):c.length=vs.length:=Paired.length r
end
def Wa(r:RelV (kV k) u):(hH P w).is k u=true:=by
 cases k with
 |inl i=>obtain⟨t,e⟩:=(show ∃t,u=Value.int i t from r);subst e;exact xw P w i t
 |inr x=>obtain⟨t,e⟩:=(show ∃t,u=Value.str x t from r);subst e;exact DM P w x t
abbrev KT(H:Hp):List (List Key×V)->List (List Key×Addr×Value)->Prop:=Paired λp q=>p.1=q.1/\H q.2.1=some (.tup (p.1.map kV))/\RelV p.2 q.2.2
def KT.keeps(r:KT H c xs)(j:∀b h,H b=some (.tup h)->o b=some (.tup h)):KT o c xs:=Paired.RK r λ_ _ z=>⟨z.1,j _ _ z.2.1,z.2.2⟩
def OZ(H:Hp)(a:Addr)(y:V)(r:Option V):Prop:=(∃c k,Rd H a (.dK c)/\y=kV k/\r=OY c k)\/∃c k b,Rd H a (.dT c)/\y=.ref b/\H b=some (.tup (k.map kV))/\r=OY c k
def O0(H:Hp)(a:Addr)(y v:V)(h:Hp):Prop:=(∃c k,H a=some (.dK c)/\y=kV k/\c.length<sizeLine/\h=upd H a (.dK (putK c k v)))\/
 ∃c k b,H a=some (.dT c)/\y=.ref b/\H b=some (.tup (k.map kV))/\c.length<sizeLine/\h=upd H a (.dT (putK c k v))
def OZ.k{H:Hp}{a:Addr}{c:List (Key×V)}{k:Key}(e:H a=some (.dK c)):OZ H a (kV k) (OY c k):=.inl ⟨c,k,.inl e,rfl,rfl⟩
def OZ.t{H:Hp}{a b:Addr}{c:List (List Key×V)}{k:List Key}(e:H a=some (.dT c))(h:H b=some (.tup (k.map kV))):OZ H a (.ref b) (OY c k):=.inr ⟨c,k,b,.inl e,rfl,h,rfl⟩
def O0.k{H:Hp}{a:Addr}{c:List (Key×V)}{k:Key}{v:V}(e:H a=some (.dK c))(h:c.length<sizeLine):O0 H a (kV k) v (upd H a (.dK (putK c k v))):=.inl ⟨c,k,e,rfl,h,rfl⟩
def O0.t{H:Hp}{a b:Addr}{c:List (List Key×V)}{k:List Key}{v:V}(e:H a=some (.dT c))(h:H b=some (.tup (k.map kV)))(j:c.length<sizeLine):O0 H a (.ref b) v (upd H a (.dT (putK c k v))):=.inr ⟨c,k,b,e,rfl,h,j,rfl⟩
def Ze(i:Expr):Prop:=∀c h,subscripted i false c h=operate [c,h] (getItem c h)
def O1{prog:Program}{w:World}{A:Around}{E:wo}{s:Shared}{env:Env}{j c:Expr}{pos:Pos}{T id:String}{Q:wo} (M:typeLookup (.type T) "__getitem__"=pure (some (.builtin id)))(O:Ze c) (h:wpAny (model prog w) A (eval j env) (λo y=>wpAny (model prog w) A (eval c env) (λi q=>q.TypeIs o T/\wpAny (model prog w) A (getItem o i) Q E q) E y) E s):wpAny (model prog w) A (eval (.Subscript j c pos) env) Q E s:=by
 refine Subscript_ (eG h (λo y H=>eG H (λi q u=> ?_) λ_ _ x=>x) λ_ _ x=>x);obtain⟨L,u⟩:=u;unfold subscriptTail;refine af ?_;rw[getitemInPython_of_ne L.not_modules];refine af (wpAny_specialOf L M ?_);have G:wpAny (model prog w) A (subscripted c false o i) (λr B=>wpAny (model prog w) A (letTemporaryGo j o r>>=λ_=>pure r) Q E B) E q:=by rw[O o i];exact wpAny_operating (eG u (λr B J=>af (wpAny_letTemporaryGo (aQ J))) λ_ _ x=>x)
 first
  |exact aQ (af G)
  |exact af (aQ (af G))
  |exact af G
structure M2(X:Cx)(o:Expr)(m:Str)(apos:Pos)(e f:Expr)(cpos:Pos):Prop where
 base:attributeBase o m X.env (eval o X.env)=eval o X.env
 few:((backTo cpos (starEach [e,f] X.env)).all (λx=> !x.1)&&(backToKw cpos (keywordEach [] X.env)).all (λx=>x.1.isSome)
  &&decide (([e,f]:lj).length+([]:List Keyword).length+(if([]:List Keyword).isEmpty then 0 else 1)<30))=true
 line:(apos.endLine==cpos.line)=true
 trees:backTo cpos (starEach [e,f] X.env)=[(false,eval e X.env),(false,eval f X.env)]
def y8:bootBuiltins "reversed"=some (.type "reversed"):=by decide+kernel
def Inv.HY{t':Nat}{ch:oj}(I:Inv X pins σ H s)(k:∀b o,b∉ch->s.heap.get? b=some o->h'.get? b=some o)(j:∀b∈ch,xK X pins H b):Inv X pins σ H {s with heap:=h',toks:=t'}:=by
 have y:∀b u,H b=some u->b∉ch:=λb u e z=>by have q:=(j b z).1;rw[q]at e;cases e
 refine I.step (g':=s.gens) (d':=s.drawn) (ch:=ch) (λb B=>⟨(j b B).2.2.2.1,(j b B).2.1,(j b B).2.2.2.2.1,(j b B).2.2.2.2.2⟩) (λb o _ _ h e _=>k b o h e) (λb o _ _ h e _=>⟨o.slots,k b o h e⟩)
  (λ_ _ _ _ n=>n) (λb o h e=>⟨o,k b o h e⟩) (λ_ _ e=>e) (λ_ _ _ e=>e) (λb ps e=>⟨#[],by rw[e];simp⟩) (λm E=> ?_) (λb u e=> ?_) I.bare
 obtain⟨o,G,J,L,r⟩:=E;exact⟨o,G,J,k _ o (λz=>(j _ z).2.1 rfl) L,r⟩;refine(I.fK b u e).Ce (λc v h q=>k c v ?_ q) (λ_ q=>q) λ_ _ q=>q;rcases h with z|z;rw[z];exact y b u e;exact y c _ z
def Inv.wz{t':Nat}{ch:oj}{T:Addr}{G:HO}(I:Inv X pins σ H s)(k:∀b o,b∉ch->s.heap.get? b=some o->h'.get? b=some o)(y:∀b∈ch,xK X pins H b)(L:s.heap.objs.size<=T) (J:gF X.prog X.w (upd H T G) h' T G):Inv X pins σ (upd H T G) {s with heap:=h',toks:=t'}:=by
 have B:H T=none:=I.fK.fresh L;have E:∀b u,H b=some u->b∉ch:=λb u e z=>by have q:=(y b z).1;rw[q]at e;cases e
 refine I.step (g':=s.gens) (d':=s.drawn) (ch:=ch) (λb h=>⟨(y b h).2.2.2.1,(y b h).2.1,(y b h).2.2.2.2.1,(y b h).2.2.2.2.2⟩) (λb o _ _ j e _=>k b o j e) (λb o _ _ j e _=>⟨o.slots,k b o j e⟩)
  (λb o _ e n=> ?_) (λb o j e=>⟨o,k b o j e⟩) (λb xs e=> ?_) (λb o u e=> ?_) (λb ps e=>⟨#[],?_⟩) (λm M=> ?_) (λb u e=> ?_) I.bare
 rw[ao (cV (bw (aT e) L))];exact n;rw[ao (aE e B)];exact e;rw[ao (aE e B)];exact e;rw[ao (aE e B),e];simp;obtain⟨o,O,P,Q,r⟩:=M;exact⟨o,O,P,k _ o (λz=>(y _ z).2.1 rfl) Q,r⟩;by_cases h:b=T;subst h;rw[aC]at e;cases e;exact J;rw[ao h]at e;refine(I.fK b u e).Ce (λc v j q=>k c v ?_ q) (λc q=>by rw[ao (aE q B)];exact q) λc xs q=>by rw[ao (aE q B)];exact q
 rcases j with z|z;rw[z];exact E b u e;exact E c _ z
def LR(I:Inv X pins σ H s)(o) (T:Turn X.prog X.w X.K tg J [s.heap.objs.size] s.heap.objs.size c)(h:c 0 (s.heap.push o))(q:R J H):YZ X pins σ tg R (.ref s.heap.objs.size) {s with heap:=s.heap.push o,toks:=tk}:=by
 refine⟨s.heap.objs.size,[s.heap.objs.size],c,J,H,rfl,I.kept λb r e=>aX _ e,T,h,λb j=> ?_,q⟩;have e:b=s.heap.objs.size:=by simpa using j
 subst e;exact I.DS (aH _) (I.fK.fresh (aH _))
noncomputable def Zf(h c:Int)(n:Nat):It:=⟨λi _=>i<n,λi H x j=>j=H/\x=.int (h+(i:Nat)*c),λi _=>n<=i⟩
def D3{P:Program}{w:World}{K:Frag}{tg:Expr}(it)(lo c)(n):Turn P w K tg (Zf lo c n) [it] it (λi h=>IsRangeIter h it (lo+(i)*c) ((n)-(i)) c) where
 mem:=by simp
 obj:=λi h j b q=>by
  have e:b=it:=by simpa using q
  subst e;exact⟨_,j,λv z=>nomatch z⟩
 keep:=λi h h' j k=>k it (by simp) _ j
 item:=by intro X y B G J i pins s T H E I u j L;subst y B G;obtain⟨M,O,C,U,Y,Z⟩:=u it (by simp);have W:=Walks.range (prog:=X.prog) (w:=X.w) (I.ok.hd J) it lo c n;refine W.item i s _ _ L j λv h' tk F r D=> ?_;obtain⟨t,rfl⟩:=F;have V:Inv X pins T H {s with heap:=h',toks:=tk}:=I.turned (λb o q e=>D b o (by simpa using q) e) M O U Y Z;exact⟨_,rfl,DT (s:={s with heap:=h',toks:=tk}) (n:="range_iterator") r rfl rfl (by decide) ⟨.int (lo+(i)*c),H,V,⟨t,rfl⟩,⟨rfl,rfl⟩,r,λb q=>(u b q).1⟩⟩
 done:=by intro X y B G J i pins s T H E I u j L;subst y B G;obtain⟨M,O,C,U,Y,Z⟩:=u it (by simp);exact wpAny_pyNext_range_end (I.ok.hd J) j (by have:n<=i:=L;omega) λh' R=>⟨rfl,I.turned (t':=s.toks) (λb o q e=>R b o q e) M O U Y Z⟩
 self:=λA i s Q E j h=>wpAny_pyIter_rangeiter j h
def RgC(i j c:Int)(n:Nat):Prop:=c≠0/\c.natAbs<1073741824/\Builtin.Range.small i j c=true/\Builtin.Range.rangeSize i j c=n
def Wb(h:TA):TI:=λσ H R=>h σ H λvs o=>∃(i j c:Int) (n:Nat),vs=[.int i,.int j,.int c]/\RgC i j c n/\R (Zf i c n) o
def J7(J:Gl X "range")(L:X.mg "range"=none)(M:PA X [a,b,c] ta) (O:starEach [a,b,c] X.env=(false,eval a X.env)::starEach [b,c] X.env:=by rfl)(hpl:(backTo pos (starEach [b,c] X.env)).any (·.1)=false:=by rfl):
  PI X tg (.Call (.Name "range" p) [a,b,c] [] pos) (Wb ta):=by
 intro pins s G H R I h
 refine Call_ (qe I J L boot_range (xr (ew (M pos pins s G H _ I h) λus y ⟨vs,H1,I1,r1,q1⟩=> ?_) O hpl))
 obtain⟨i,j,k,n,e,⟨P,Q,U,Y⟩,q⟩:=q1
 subst e
 cases r1 with
 |cons r u=>
  cases u with
  |cons Z u=>
   cases u with
   |cons B u=>
    cases u
    obtain⟨t,rfl⟩:=r
    obtain⟨t',rfl⟩:=Z
    obtain⟨E,rfl⟩:=B
    refine call_range_3 P ?_ (.inl (FX Q))
    refine wpAny_pyIter_range (IsRange.new ..) U ?_
    have T:Inv X pins G H1 {y with heap:=y.heap.push {cls:=.type "range",data:=.fields #[.int i t,.int j t',.int k E]}}:=I1.kept (t':=y.toks) λb o e=>aX _ e
    refine LR (tk:=y.toks) T _ (D3 _ i k n) ?_ q
    have C:i+((0:Nat):Int)*k=i:=by simp
    have F:(n)-((0:Nat):Int)=Builtin.Range.rangeSize i j k:=by rw[Y];simp
    rw[C,F]
    exact dP _ rfl
noncomputable def Zg(K:Frag)(a:Addr)(n:Nat):It:=⟨λi H=>i<n/\∃(xs:List V) (x:V),dr K H a xs/\xs[n-1-i]?=some x,λi H x c=>c=H/\∀xs,dr K H a xs->xs[n-1-i]?=some x,λi _=>n<=i⟩
def LS{P:Program}{w:World}{K:Frag}{tg:Expr}(a it)(n):Turn P w K tg (Zg K a n) [it] it (λi h=>i<=n/\h.IsRevIter it a ((n)-1-(i))) where
 mem:=by simp
 obj:=λi h q b r=>by
  have e:b=it:=by simpa using r
  subst e;obtain⟨_,o,e,c,d⟩:=q;exact⟨o,e,λv z=>by rw[d]at z;cases z⟩
 keep:=λi h h' q k=>⟨q.1,q.2.at λo e=>k it (by simp) o e⟩
 item:=by
  intro X J L M D i pins s V H E I G q O;subst J L M;obtain⟨B,xs,x,R,S⟩:=O;obtain⟨N,W,p,hz⟩:=I.list R;obtain⟨u,f,g⟩:=W.get S;obtain⟨U,Y,l,Z,T,C⟩:=G it (by simp);obtain⟨_,j⟩:=q;have F:(n)-1-((i):Int)=((n-1-i:Nat):Int):=by omega
  rw[F]at j;refine wpAny_pyNext_rev_item j p.isList (x:=u) (by simpa using f) λh' y m=> ?_;have t:((n-1-i:Nat):Int)-1=(n)-1-((i+1:Nat):Int):=by omega
  rw[t]at y;have I1:Inv X pins V H {s with heap:=h'}:=I.turned (t':=s.toks) (λb o r e=>(m.2 b r).trans e) U Y Z T C;obtain⟨o,e,c,d⟩:=id y;exact⟨u,rfl,DT (s:={s with heap:=h'}) e c d (by decide) ⟨x,H,I1,g,⟨rfl,λys hy=>by rw[I.ll hy R];exact S⟩,⟨B,y⟩,λb r=>(G b r).1⟩⟩
 done:=by
  intro X J L M D i pins s V H E I G q O;subst J L M;obtain⟨U,Y,l,Z,T,C⟩:=G it (by simp);obtain⟨B,j⟩:=q;have za:n<=i:=O;have F:(n)-1-((i):Int)= -1:=by omega
  rw[F]at j;exact wpAny_pyNext_rev_end (I.ok.hd D) j λh' eb=>⟨rfl,I.turned (t':=s.toks) (λb o r e=>eb b o r e) U Y Z T C⟩
 self:=λA i s Q E q h=>wpAny_pyIter_revIter q.2 h
def Zh(K:Frag)(h:TA):TI:=λσ H R=>h σ H λvs c=>∃(a:Addr) (xs:List V),vs=[.ref a]/\dr K c a xs/\R (Zg K a xs.length) c
def D4{e:Expr}{j:TA}{p pos:Pos}(o:Gl X "reversed")(u:X.mg "reversed"=none)(y:PA X [e] j)(B:starEach [e] X.env=[(false,eval e X.env)]:=by rfl):PI X tg (.Call (.Name "reversed" p) [e] [] pos) (Zh X.K j):=by
 intro pins s E H R I h;refine Call_ (qe I o u y8 (xr (ew (y pos pins s E H _ I h) λus G ⟨vs,H1,I1,r1,q1⟩=> ?_) B rfl));obtain⟨a,xs,e,J,q⟩:=q1;subst e;cases r1 with
 |cons r L=>
  cases L;cases r;obtain⟨c,M,O,Q⟩:=I1.list J;have U:=M.length;have P:((c.toArray.size:Nat):Int)-1=(xs.length:Int)-1-((0:Nat):Int):=by simp only[c4];omega
  refine call_reversed_list O.isList (wpAny_pyIter_revIter (l:=a) (i:=((c.toArray.size:Nat):Int)-1) ⟨_,dP _ rfl,rfl,rfl⟩ ?_);refine LR (tk:=G.toks) I1 _ (LS a _ xs.length) ⟨mD _,?_⟩ q;rw[<-P];exact⟨_,dP _ rfl,rfl,rfl⟩
def Zi(K:Frag)(a:Addr):It:=⟨λi H=>∃(xs:List V) (x:V),dr K H a xs/\xs[i]?=some x,λi H v c=>∃T x,v=.ref T/\H T=none/\c=upd H T (.tup [.int (i:Nat),x])/\∀xs,dr K H a xs->xs[i]?=some x,λi H=>∃xs:List V,dr K H a xs/\xs.length<=i⟩
def J8{P:Program}{w:World}{K:Frag}{J:lj}{t:Nat}{L:Pos}(a e it):Turn P w K (.Tuple J t L) (Zi K a) [e,it] e (λi h=>(∃c,IsEnum h e it ((i):Int) c)/\h.IsListIter it a i/\e≠it) where
 mem:=by simp
 obj:=λi h y b r=>by
  obtain⟨⟨c,he⟩,⟨o,Z,T,hd⟩,_⟩:=y;have e':b=e\/b=it:=by simpa using r
  rcases e' with z|z;rw[z];exact⟨_,he,λv q=>nomatch q⟩;rw[z];exact⟨o,Z,λv q=>by rw[hd]at q;cases q⟩
 keep:=λi h h' y k=>let ⟨⟨c,he⟩,hi,j⟩:=y;⟨⟨c,k e (by simp) _ he⟩,hi.at λo q=>k it (by simp) o q,j⟩
 item:=by
  intro X C F D T i pins s n H E I U y V;subst C F D;obtain⟨⟨c,he⟩,B,j⟩:=y;obtain⟨xs,x,Y,R⟩:=V;obtain⟨S,N,p,hz⟩:=I.list Y;obtain⟨u,hu,ru⟩:=N.get R;have M:e<s.heap.objs.size:=aT he;have W:it<s.heap.objs.size:=by obtain⟨_,q,_⟩:=B;exact aT q
  refine wpAny_pyNext_enum_item he B p.isList (x:=u) (by simpa using hu) j λh' Z O hT hsz hk=> ?_;refine⟨_,rfl,wpAny_letOwnedTupleGo_enum (s:={s with heap:=h',toks:=s.toks+1}) Z λG d f=> ?_⟩;have g:G.get? s.heap.objs.size=some {cls:=.type "tuple",data:=.seq #[.int i s.toks,u]}:=(f.2 _ (W1 M)).trans hT;have l:gF X.prog X.w (upd H s.heap.objs.size (.tup [.int (i),x])) G s.heap.objs.size (.tup [.int (i),x]):=
   ⟨by show 2<=sizeLine;decide,[.int i s.toks,u],.cons ⟨_,rfl⟩ (.cons ru .nil),⟨_,g,rfl,_,rfl⟩⟩
  have I1:Inv X pins n (upd H s.heap.objs.size (.tup [.int (i),x])) {s with heap:=G,toks:=s.toks+1}:=
   I.wz (ch:=[e,it]) (λb ob r q=>(f.2 b (λz=>r (by simp[z]))).trans (hk b ob (λz=>r (by simp[z])) (λz=>r (by simp[z])) q)) U (aH _) l
  refine⟨.ref s.heap.objs.size,_,I1,rfl,⟨_,x,rfl,I.fK.fresh (aH _),rfl,λys hy=>by rw[I.ll hy Y];exact R⟩,⟨⟨u,?_⟩,O.at λo q=>(f.2 it (jQ j)).trans q,j⟩,λb r=> ?_⟩;have e1:((i+1:Nat):Int)=(i)+1:=by omega
  rw[e1];exact d;have m:b<s.heap.objs.size:=by
   have e':b=e\/b=it:=by simpa using r
   rcases e' with z|z;rw[z];exact M;rw[z];exact W
  rw[ao (cV m)];exact(U b r).1
 done:=by intro X C F D T i pins s n H E I U y V;subst C F D;obtain⟨⟨c,he⟩,B,j⟩:=y;obtain⟨xs,Y,R⟩:=V;obtain⟨S,N,p,hz⟩:=I.list Y;obtain⟨f0,f1,f2,f3,f4,f5⟩:=U it (by simp);have hl:=N.length;exact wpAny_pyNext_enum_end (I.ok.hd T) he B p.isList (by simp;omega) λh' eb=>⟨rfl,I.turned (t':=s.toks) (λb o r q=>eb b o r q) f0 f1 f3 f4 f5⟩
 self:=λA i s Q E y h=>let ⟨⟨_,he⟩,_⟩:=y;wpAny_pyIter_enum he h
def Wc(K:Frag)(h:TA):TI:=λσ H R=>h σ H λvs c=>∃a xs,vs=[.ref a]/\dr K c a xs/\R (Zi K a) c
def O2{X:Cx}{e:Expr}{B:TA}{p pos j:Pos}{o:lj}{G:Nat}(J:Gl X "enumerate")(L:X.mg "enumerate"=none)(M:PA X [e] B)(O:starEach [e] X.env=[(false,eval e X.env)]:=by rfl):
  PI X (.Tuple o G j) (.Call (.Name "enumerate" p) [e] [] pos) (Wc X.K B):=by
 intro pins s E H R I h
 refine Call_ (qe I J L boot_enumerate (xr (ew (M pos pins s E H _ I h) λus c ⟨vs,H1,I1,r1,q1⟩=> ?_) O rfl))
 obtain⟨a,xs,P,Q,q⟩:=q1
 subst P
 cases r1 with
 |cons r U=>
  cases U
  cases r
  obtain⟨Y,D,Z,V⟩:=I1.list Q
  refine call_enumerate_list Z.isList λh' he y hsz T=>wpAny_pyIter_enum he ?_
  have C:Inv X pins E H1 {c with heap:=h'}:=I1.kept (t':=c.toks) T
  refine⟨c.heap.objs.size+1,[c.heap.objs.size+1,c.heap.objs.size],_,_,H1,rfl,C,J8 a (c.heap.objs.size+1) c.heap.objs.size,⟨⟨.none,he⟩,y,Nat.succ_ne_self _⟩,λb F=> ?_,q⟩
  have e':b=c.heap.objs.size+1\/b=c.heap.objs.size:=by simpa using F
  have u:c.heap.objs.size<=b:=by rcases e' with z|z;rw[z];exact yV _ _;rw[z];exact aH _
  exact I1.DS u (I1.fK.fresh u)
def Bw:bootBuiltins "zip"=some (.type "zip"):=by decide+kernel
def Zj(K:Frag)(a b:Addr):It:=⟨λi H=>∃(xs c:List V) (x y:V),dr K H a xs/\dr K H b c/\xs[i]?=some x/\c[i]?=some y,
  λi H v h=>∃T x y,v=.ref T/\H T=none/\h=upd H T (.tup [x,y])/\(∀xs,dr K H a xs->xs[i]?=some x)/\∀c,dr K H b c->c[i]?=some y,
  λi H=>∃xs c:List V,dr K H a xs/\dr K H b c/\(xs.length<=i\/c.length<=i)⟩
def LU{P:Program}{w:World}{K:Frag}{W:lj}{kk:Nat}{d:Pos}{a b z J L M O:Addr}(D:ZipApart z J L M O a b):Turn P w K (.Tuple W kk d) (Zj K a b) [z,J,L,M,O] z (λi h=>IsZip h z J L .none/\IsPair h J (.ref M) (.ref O)/\(∃x y,IsPair h L x y)/\h.IsListIter M a i/\h.IsListIter O b i) where
 mem:=by simp
 obj:=λi h U c n=>by
  obtain⟨T,j,⟨x,y,r⟩,⟨o1,e1,_,d1⟩,⟨o2,e2,_,d2⟩⟩:=U;have e':c=z\/c=J\/c=L\/c=M\/c=O:=by simpa using n
  rcases e' with q|q|q|q|q;rw[q];exact⟨_,T,λv q=>nomatch q⟩;rw[q];exact⟨_,j,λv q=>nomatch q⟩;rw[q];exact⟨_,r,λv q=>nomatch q⟩;rw[q];exact⟨o1,e1,λv q=>by rw[d1]at q;cases q⟩;rw[q];exact⟨o2,e2,λv q=>by rw[d2]at q;cases q⟩
 keep:=λi h h' U k=>by obtain⟨T,j,⟨x,y,r⟩,R,S⟩:=U;exact⟨k z (by simp) _ T,k J (by simp) _ j,⟨x,y,k L (by simp) _ r⟩,R.at λo q=>k M (by simp) o q,S.at λo q=>k O (by simp) o q⟩
 item:=by
  intro X hP hw hK n i pins s σ H E I t U hg;subst hP hw hK;obtain⟨T,j,⟨x0,y0,r⟩,R,S⟩:=U;obtain⟨xs,ys,x,y,Y,Z,hx,hy⟩:=hg;obtain⟨e,rv,p,_⟩:=I.list Y;obtain⟨C,F,p2,_⟩:=I.list Z;obtain⟨u,hu,ru⟩:=rv.get hx;obtain⟨u2,za,zb⟩:=F.get hy;have f:z<s.heap.objs.size:=aT T;refine wpAny_pyNext_zip_item D T j r R S p.isList p2.isList (x:=u) (y:=u2) (by simpa using hu) (by simpa using za) λh' z' zc zd ze hT hsz hk=> ?_;refine⟨_,rfl,wpAny_letOwnedTupleGo_zip (s:={s with heap:=h'}) z' λV zf N=> ?_⟩;have zg:V.get? s.heap.objs.size=some {cls:=.type "tuple",data:=.seq #[u,u2]}:=(N.2 _ (W1 f)).trans hT;have zh:gF X.prog X.w (upd H s.heap.objs.size (.tup [x,y])) V s.heap.objs.size (.tup [x,y]):=
   ⟨by show 2<=sizeLine;decide,[u,u2],.cons ru (.cons zb .nil),⟨_,zg,rfl,_,rfl⟩⟩
  have I1:Inv X pins σ (upd H s.heap.objs.size (.tup [x,y])) {s with heap:=V}:=
   I.wz (t':=s.toks) (ch:=[z,J,L,M,O]) (λc o G q=>(N.2 c (λB=>G (by simp[B]))).trans (hk c o (λB=>G (by simp[B])) (λB=>G (by simp[B])) (λB=>G (by simp[B])) (λB=>G (by simp[B])) q)) t (aH _) zh
  refine⟨.ref s.heap.objs.size,_,I1,rfl,⟨_,x,y,rfl,I.fK.fresh (aH _),rfl,λl hl=>by rw[I.ll hl Y];exact hx,λl hl=>by rw[I.ll hl Z];exact hy⟩,⟨zf,?_,⟨u,u2,?_⟩,?_,?_⟩,λc g=> ?_⟩;exact(N.2 _ D.TIz).trans (hk _ _ D.TIz D.TITO D.TIi1 D.TIi2 j);exact(N.2 _ D.TOz).trans zc;exact zd.at λo q=>(N.2 _ D.i1z).trans q;exact ze.at λo q=>(N.2 _ D.i2z).trans q;have zi:c<s.heap.objs.size:=by
   have e':c=z\/c=J\/c=L\/c=M\/c=O:=by simpa using g
   rcases e' with q|q|q|q|q;rw[q];exact f;rw[q];exact aT j;rw[q];exact aT r;rw[q];obtain⟨_,e1,_⟩:=R;exact aT e1;rw[q];obtain⟨_,e2,_⟩:=S;exact aT e2
  rw[ao (cV zi)];exact(t c g).1
 done:=by
  intro X hP hw hK n i pins s σ H E I t U hg;subst hP hw hK;obtain⟨T,j,⟨x0,y0,r⟩,R,S⟩:=U;obtain⟨xs,ys,Y,Z,m⟩:=hg;obtain⟨e,rv,p,_⟩:=I.list Y;obtain⟨C,F,p2,_⟩:=I.list Z;have l1:=rv.length;have l2:=F.length;have he:e.toArray[i]?=none\/C.toArray[i]?=none:=by rcases m with q|q;exact .inl (by simp;omega);exact .inr (by simp;omega)
  exact wpAny_pyNext_zip_end (I.ok.hd n) D T j r R S p.isList p2.isList he λh' hk=>⟨rfl,I.HY (t':=s.toks) (ch:=[z,J,L,M,O]) (λc o G q=>
   hk c o (λB=>G (by simp[B])) (λB=>G (by simp[B])) (λB=>G (by simp[B])) (λB=>G (by simp[B])) q) t⟩
 self:=λA i s Q E U h=>ym U.1 h
def Zk(K:Frag)(h:TA):TI:=λσ H R=>h σ H λvs c=>∃a b xs j,vs=[.ref a,.ref b]/\dr K c a xs/\dr K c b j/\R (Zj K a b) c
def SD{X:Cx}{e o:Expr}{P:TA}{p pos u:Pos}{y:lj}{C:Nat}(F:Gl X "zip")(D:X.mg "zip"=none)(V:PA X [e,o] P) (S:starEach [e,o] X.env=(false,eval e X.env)::starEach [o] X.env:=by rfl)(hpl:(backTo pos (starEach [o] X.env)).any (·.1)=false:=by rfl):
  PI X (.Tuple y C u) (.Call (.Name "zip" p) [e,o] [] pos) (Zk X.K P):=by
 intro pins s Q H R I h
 refine Call_ (qe I F D Bw (xr (ew (V pos pins s Q H _ I h) λus j ⟨vs,H1,I1,r1,q1⟩=> ?_) S hpl))
 obtain⟨a,b,xs,n,A,E,G,q⟩:=q1
 subst A
 cases r1 with
 |cons r J=>
  cases J with
  |cons N J=>
   cases J
   cases r
   cases N
   obtain⟨W,t,U,_⟩:=I1.list E
   obtain⟨Y,d,Z,_⟩:=I1.list G
   have f:a<j.heap.objs.size:=U.lt
   have g:b<j.heap.objs.size:=Z.lt
   refine call_zip_2 U.isList Z.isList λh' T L M i k hsz l=>ym T ?_
   have m:Inv X pins Q H1 {j with heap:=h'}:=I1.kept (t':=j.toks) l
   refine⟨j.heap.objs.size+4,[j.heap.objs.size+4,j.heap.objs.size+2,j.heap.objs.size+3,j.heap.objs.size,j.heap.objs.size+1],_,_,H1,rfl,m,LU (ktu_apart j.heap.objs.size a b f g),⟨T,L,⟨_,_,M⟩,i,k⟩,λc O=> ?_,q⟩
   have e':c=j.heap.objs.size+4\/c=j.heap.objs.size+2\/c=j.heap.objs.size+3\/c=j.heap.objs.size\/c=j.heap.objs.size+1:=by simpa using O
   have B:j.heap.objs.size<=c:=by rcases e' with z|z|z|z|z;rw[z];exact yV _ _;rw[z];exact yV _ _;rw[z];exact yV _ _;rw[z];exact aH _;rw[z];exact yV _ _
   exact I1.DS B (I1.fK.fresh B)
end L2
namespace Bits
open PySem PyProof.Rows
end Bits
namespace TL
open PySem PySem.Builtin PySem.Builtin.Str PySem.StrLaws
end TL
namespace L2
open PySem PySem.W PySem.Spec PyProof.Rows
end L2
namespace Att
open PySem PySem.W PySem.Calls PyProof.Rows
end Att
namespace L2
open PySem PySem.W PySem.Spec PyProof.Rows
noncomputable def oq(s:Stmt):Arguments:=match s with
 |.FunctionDef _ a _ _ _ _ _ _ _ _=>a
 |_=>{posonlyargs:=[],args:=[],vararg:=none,kwonlyargs:=[],kw_defaults:=[],kwarg:=none,defaults:=[]}
noncomputable def cP(s:Stmt):TyM:=match s with
 |.FunctionDef _ _ b _ _ _ _ _ _ _=>b
 |_=>[]
noncomputable def a0(s:Stmt):Scope:=match s with
 |.FunctionDef _ _ _ _ _ _ sc _ _ _=>sc
 |_=>{kind:=.function,names:=[],isGenerator:=false,isCoroutine:=false}
abbrev ui:Lh:=λ_ _ _ _ _ _=>False
abbrev E0:XK:=λ_ _ _=>False
def m4:Passes ui X E0:=λ_ _ _ _ _ _ _ h=>h.elim
structure Gh(K:Frag)(x qual:Str)(st:Stmt)(f:Addr)(fd:FuncData):Prop where
 ex:∃(oc:Value) (od:Option Addr) (kV doc pm:Value) (an:Option Addr) (cdv ct:Value) (osl:Array (Lg)),
  fd=fnOf x qual (oq st) (cP st) (a0 st) .none kV doc pm an cdv ct/\K.lookup f=some ⟨oc,od,.func fd,osl⟩/\codeIn K cdv qual=true
 kp:keepIn K (.ref f)=true
section
variable {P:Program} {w:World} {K:Frag} {mg:qL} {base:Heap}
def Gh.ok{x qual:Str}{r:Stmt}{f:Addr}{fd:FuncData}{N ps:jR}{k:Nat}{u:Sp}(F:Gh K x qual r f fd)(S:jg N ps (a0 r))(y:∀vs H Q E,u vs H Q E->vs.length=ps.length) (o:∀(j) (A) (c) (s) (H) (vs) (Q:VK) (E:XK),gH k (A.deeper (envOfC qual (a0 r) s.heap.objs.size f j))->u vs H Q E->∃t,gG (ug ui P w K mg base N qual (a0 r) f j A c s H E).AK (cP r) t/\t {nx:=λ_ J=>Q .cw J,rt:=Q} (start N vs) H):nT P w K mg base ui (k+1) f fd ps u:=by obtain⟨U,X,Y,doc,pm,Z,j,ct,L,rfl,M,B⟩:=F.ex;refine V1 M B S y λA c s H vs Q E O G=> ?_;obtain⟨t,h,q⟩:=o j A c s H vs Q E O G;exact⟨t,h.AK,q⟩
def Gh.binds{x qual:Str}{j:Stmt}{f:Addr}{fd:FuncData}{ps:jR}(F:Gh K x qual j f fd) (h:∀o doc pm q c ct us,us.length=ps.length->bindArgs (fnOf x qual (oq j) (cP j) (a0 j) .none o doc pm q c ct) ⟨us,[]⟩=pure (ps.zip us)):Binds K fd ps []:=by obtain⟨u,y,o,doc,pm,q,c,ct,r,rfl,B,s⟩:=F.ex;exact .all (h o doc pm q c ct)
end
def pv(i)(h:X.N[i]?=some x:=by rfl)(j:DP X.env.scope x:=by first|exact Or.inl rfl|exact Or.inr (Or.inl rfl)|exact Or.inr (Or.inr rfl))(o:(x==("__debug__":Str))=false:=by decide)
  (c:(x==("__classdict__":Str))=false:=by decide):PE X (.Name x pos) (yX i):=rf h j o c
def kn(H c:Hp):Prop:=∀b o,H b=some o->c b=some o
def kn.refl(H):kn H H:=λ_ _ h=>h
def kn.trans(a:kn H H1)(b:kn H1 j):kn H j:=λc o h=>b c o (a c o h)
def kn.free(e:kn H c)(h:c l=Option.none):H l=Option.none:=by
 cases q:H l with
 |none=>rfl
 |some o=>
  rw[e l o q]at h;cases h
section
variable {κ:Type} [DecidableEq κ]
end
def at_of{xs:List V}{z:Int}{j:Nat}{v:V}(e:z=(j))(h:xs[j]?=some v):Sk xs z=some v:=by rw[e];exact OS h
def kn.made(c:H x=Option.none)(j:H h=Option.none)(k:∀b o,(upd (upd H h (.own x)) x (.ins C h [])) b=some o->b≠x->H1 b=some o):kn H H1:=λb o e=>
 k b o (by rw[ao (aE e c),ao (aE e j)];exact e) (aE e c)
noncomputable def vi(c:Addr)(v:V):HO:=.ext λh=>∃u,h.IsCell c (some u)/\RelV v u
noncomputable def wA(a:Addr)(fd:FuncData):HO:=.ext λh=>h.get? a=some {cls:=.type "function",data:=.func fd}
noncomputable def tL(c:Addr)(q:Str):HO:=.ext λh=>h.CodeRec (.ref c) q
noncomputable abbrev Cx.frozen(X:Cx)(z:Str->Bool):Cx:={X with fz:=z}
def Cx.Ok.frozen{X:Cx}(c:X.Ok)(z):(X.frozen z).Ok:=⟨c.mod,c.kind,c.glob,c.blt,c.above,c.inj,c.has,c.RM,c.hd,c.frames,c.Vw,c.Vx,c.bs,c.Ln,c.JS,c.JT,c.u9,c.Oz⟩
inductive J9(X:Cx)(σ:St):List (Nat×Str)->Hp->Hp->Prop
 |nil {H:Hp}:J9 X σ [] H H
 |cons {i:Nat} {x:Str} {r:List (Nat×Str)} {H H':Hp} {c:Addr} {v:V} {o:Obj} (hc:X.env.cells.lookup x=some c) (hv:σ[i]?=some (some v)) (hn:H c=none) (rest:J9 X σ r (upd H c (.pj o (vi c v))) H'):J9 X σ ((i,x)::r) H H'
section
variable {X:Cx} {pins:m2} {σ:St} {H:Hp} {s:Shared}
def Inv.O3{z:Str->Bool}{i:Nat}{x:Str}{v:V}{c:Addr}(I:Inv (X.frozen z) pins σ H s)(T:z x=true)(M:X.fn x=true)(C:X.N[i]?=some x)(F:σ[i]?=some (some v))(O:X.env.scope.names.lookup x=some .cell) (J:X.env.cells.lookup x=some c)(h:H c=none):∃o,Inv (X.frozen z) pins σ (upd H c (.pj o (vi c v))) s:=by
 obtain⟨m,D,R⟩:=id I.loc;obtain⟨u,r,q⟩:=R i x v C F (.inr (.inl O));have j:s.heap.IsCell c (some u):=by rcases q with⟨k,_⟩|⟨_,L,e',S⟩;have k:X.env.scope.names.lookup x=some .local:=k;rw[k]at O;cases O;have e':X.env.cells.lookup x=some L:=e';rw[J]at e';cases e';exact S
 obtain⟨o,P,A⟩:=id j;refine⟨o,I.ok,I.os,I.bare,⟨I.base.keep,I.base.slot,λb B e n K=> ?_,I.base.there,λb xs e=> ?_,λb B y e=> ?_,λb ps e=> ?_⟩,I.loc,I.cell,?_,λy L e=> ?_,λp W=> ?_,λb B e=> ?_,I.len⟩;have Q:b≠c:=cV (bw (aT e) (I.ok.RM x c M J));rw[ao Q];exact I.base.free b B e n K;have q:=I.base.wq b xs e;rw[ao (aE q h)];exact q;have q:=I.base.sY b B y e;rw[ao (aE q h)];exact q;obtain⟨E,q⟩:=I.base.u7 b ps e;exact⟨E,by rw[ao (aE q h)];exact q⟩;rw[ao (jQ (I.Q2 x c J))];exact I.free;by_cases G:L=c;subst G;have U:y=x:=I.ok.inj _ _ _ e J;subst U;exact .inr ⟨T,o,_,aC⟩;rw[ao G];exact I.pq y L e;obtain⟨e,n,a,f,d⟩:=I.pin p W;have Y:p.1≠c:=λz=>by rw[z,P]at e;cases e;exact d _ A
 exact⟨e,by rw[ao Y];exact n,a,f,d⟩;by_cases Z:b=c;subst Z;rw[aC]at e;cases e;refine⟨P,⟨u,j,r⟩,⟨o,P⟩,λt w ⟨g,⟨o1,e1,d1⟩,r1⟩ k=>⟨g,⟨o1,k o1 e1,d1⟩,r1⟩⟩;rw[ao Z]at e;exact(I.fK b B e).Ce (λ_ _ _ q=>q) (λl q=>by rw[ao (aE q h)];exact q) λl xs q=>by rw[ao (aE q h)];exact q
def Inv.Zl(I:Inv X pins σ H s)(z)(j:∀x,X.fz x=true->z x=true):Inv (X.frozen z) pins σ H s:=⟨I.ok.frozen z,I.os,I.bare,I.base,I.loc,I.cell,I.free,λx c e=>(I.pq x c e).imp id λ⟨h,r⟩=>⟨j x h,r⟩,I.pin,I.fK,I.len⟩
theorem Inv.HZ{z:Str->Bool}:∀{ns:List (Nat×Str)} {H:Hp},Inv (X.frozen z) pins σ H s->(∀p∈ns,z p.2=true/\X.fn p.2=true/\X.N[p.1]?=some p.2/\X.env.scope.names.lookup p.2=some .cell)->(ns.map (·.2)).Nodup->(∀p∈ns,∃v,σ[p.1]?=some (some v))->(∀p∈ns,∀c,X.env.cells.lookup p.2=some c->H c=none)->∃E,J9 X σ ns H E/\Inv (X.frozen z) pins σ E s
 |[],H,I,_,_,_,_=>⟨H,.nil,I⟩
 |(i,x)::r,H,I,h,nd,L,M=>by
  obtain⟨Q,G,U,O⟩:=h (i,x) (by simp);obtain⟨v,u⟩:=L (i,x) (by simp);obtain⟨c,j⟩:=I.ok.has x (.inl O);have j:X.env.cells.lookup x=some c:=j;have y:=M (i,x) (by simp) c j;obtain⟨o,Y⟩:=I.O3 Q G U u O j y;rw[bI,sF]at nd;obtain⟨E,f,Z⟩:=Inv.HZ Y (λp q=>h p (by simp[q])) nd.2 (λp q=>L p (by simp[q])) λp q P B=>by
   have J:P≠c:=λe=>by subst e;have:p.2=x:=I.ok.inj _ _ _ B j;exact nd.1 (iu.mpr ⟨p,q,this⟩)
   rw[ao J];exact M p (by simp[q]) P B
  exact⟨E,.cons j u y f,Z⟩
end
def J_(H:Hp)(P:Addr)(pos:Pos)(q:Str):Prop:=H P=some (.uW #[])\/∃c,H P=some (.uW #[rawInt pos.line,rawInt pos.col,.ref c])/\H c=some (tL c q)
def BMain(mg:qL)(base:Heap):Prop:=∃h c,mg "__builtins__"=some (.ref h)/\h≠builtinsNs/\base.get? h=some c/\c.cls=.type "module"∧c.dict=some builtinsNs/\c.data=.plain
structure Made(H H1:Hp)(f:Addr)(fd:Value->FuncData)(P:Addr)(pos:Pos)(q:Str):Prop where
 new:H f=none
 fn:∃c',H1 f=some (wA f (fd (.ref c')))/\H1 c'=some (tL c' q)
 tab:J_ H1 P pos q
 keep:∀b o,H b=some o->b≠P->H1 b=some o
def Inv.Ct(I:Inv X pins σ H s)(h:H P=some (.uW ps)):s.heap.get? P=some (tabObj ps):=I.fK P _ h
def Inv.Cu(I:Inv X pins σ H s)(h:H P=some o)(c:X.base.get? b=some ob):b≠P:=λz=>by have:=(I.bs b ob c).2;rw[z,h]at this;cases this
def Inv.O4(I:Inv X pins σ H s)(h:H P=some o)(B:BMain X.mg X.base):s.heap.BuiltinsAt X.mg P:=by obtain⟨r,u,y,E,c,G,J,j⟩:=B;refine⟨r,u,y,E,λq=> ?_,I.Cu h c,I.bk _ _ c,G,J,j⟩;obtain⟨M,O,Q,e,L,_⟩:=I.mod.glob;rw[q,e]at c;cases c;rw[L]at j;cases j
def Inv.H_{P c:Addr}{pos:Pos}{q:Str}{fd:Value->FuncData}{h':Heap}{tk:Nat}(I:Inv X pins σ H s)(r:H P=some (.uW #[rawInt pos.line,rawInt pos.col,.ref c]))(j:H c=some (tL c q)) (E:∀b o,s.heap.get? b=some o->h'.get? b=some o)(y:s.heap.objs.size<=h'.objs.size):∃B,Inv X pins σ B {s with heap:=h'.push {cls:=.type "function",data:=.func (fd (.ref c))},toks:=tk}/\Made H B h'.objs.size fd P pos q:=by have h:H h'.objs.size=none:=I.fK.fresh y;refine⟨upd H h'.objs.size (wA h'.objs.size (fd (.ref c))),I.laid (λb u e=>aX _ (E b u e)) y ?_,h,⟨c,aC,?_⟩,.inr ⟨c,?_,?_⟩,λb o e _=> ?_⟩;exact⟨dP _ rfl,⟨_,dP _ rfl⟩,λG J e k=>k _ e⟩;rw[ao (aE j h)];exact j;rw[ao (aE r h)];exact r;rw[ao (aE j h)];exact j;rw[ao (aE e h)];exact e
def Inv.Ia(I:Inv X pins σ H s)(L:H P=some (.uW #[]))(d:Heap.ExtBut P s.heap h')(r:s.heap.objs.size<=c)(E:c<h'.objs.size) (Z:h'.CodeRec (.ref c) q)(T:h'.get? P=some (tabObj (#[]++ #[rawInt pos.line,rawInt pos.col,.ref c]))):∃M,Inv X pins σ M {s with heap:=h'.push {cls:=.type "function",data:=.func (fd (.ref c))},toks:=tk}/\Made H M h'.objs.size fd P pos q:=by
 have C:P<s.heap.objs.size:=I.fK.lt L;have S:H c=none:=I.fK.fresh r;have F:H h'.objs.size=none:=I.fK.fresh (hF (we r E));have A:P≠c:=cV (bw C r);have K:P≠h'.objs.size:=cV (_U (bw C r) E);have N:c≠h'.objs.size:=cV E;let M:=upd (upd (upd H P (.uW #[rawInt pos.line,rawInt pos.col,.ref c])) c (tL c q)) h'.objs.size (wA h'.objs.size (fd (.ref c)));have Q:∀b,b≠P->b≠c->b≠h'.objs.size->M b=H b:=λb G Y R=>by show upd (upd (upd _ _ _) _ _) _ _ b=_;rw[ao R,ao Y,ao G]
 have h:∀b o,H b=some o->b≠P->M b=some o:=λb o e G=>by rw[Q b G (aE e S) (aE e F)];exact e
 have y:M P=some (.uW #[rawInt pos.line,rawInt pos.col,.ref c]):=by show upd (upd (upd _ _ _) _ _) _ _ P=_;rw[ao K,ao A,aC]
 have B:M c=some (tL c q):=by show upd (upd (upd _ _ _) _ _) _ _ c=_;rw[ao N,aC]
 have j:∀b o,b≠P->s.heap.get? b=some o->(h'.push {cls:=.type "function",data:=.func (fd (.ref c))}).get? b=some o:=λb o U e=>aX _ (d b o U e);have W:∀b,H b=none->b≠P:=λb n z=>by rw[z,L]at n;cases n
 have O:∀b o,s.heap.get? b=some o->b≠c/\b≠h'.objs.size:=λb o e=>
  have:=aT e
  ⟨cV (bw this r),cV (_U (bw this r) E)⟩
 refine⟨M,I.un (h':=h'.push _) (t':=tk) ⟨λb o e n _ _=>j b o (W b n) e,λb o e n _ _=>⟨o.slots,j b o (W b n) e⟩,λb o e n _=> ?_,λb o e _=> ?_,λb xs e=> ?_,λb o u e=> ?_,λb ps e=> ?_⟩ (λb o e=> ?_),F,⟨c,aC,B⟩,.inr ⟨c,y,B⟩,h⟩;rw[Q b (W b n) (O b o e).1 (O b o e).2];exact n;by_cases U:b=P;subst U;exact⟨_,aX _ T⟩;exact⟨o,j b o U e⟩;exact h b _ e λz=>by rw[z,L]at e;cases e
 exact h b _ e λz=>by rw[z,L]at e;cases e
 by_cases U:b=P;subst U;rw[L]at e;cases e;exact⟨#[rawInt pos.line,rawInt pos.col,.ref c],by rw[y];simp⟩;exact⟨#[],by rw[h b _ e U];simp⟩;by_cases R:b=h'.objs.size;subst R;have e:some (wA h'.objs.size (fd (.ref c)))=some o:=by rw[<-e];exact aC.symm
 cases e;exact⟨dP _ rfl,⟨_,dP _ rfl⟩,λG Y e k=>k _ e⟩;by_cases Y:b=c;subst Y;rw[B]at e;cases e;obtain⟨l,a,vs,t,f,D,g,i⟩:=Z;cases f;refine⟨⟨_,a,vs,t,rfl,aX _ D,g,i⟩,⟨a,aX _ D⟩,λG Y ⟨m,o3,v3,t3,e3,g3,d3,r3⟩ k=> ?_⟩;cases e3;exact⟨_,o3,v3,t3,rfl,k _ g3,d3,r3⟩;by_cases G:b=P;subst G;rw[y]at e;cases e;exact aX _ T;rw[Q b G Y R]at e;refine(I.fK b o e).Ce (λV u J q=>j V u ?_ q) (λV q=>h V _ q ?_) λV xs q=>h V _ q ?_;rcases J with rfl|J;exact G;intro z;rw[z,L]at J;cases J;intro z;rw[z,L]at q;cases q;intro z;rw[z,L]at q;cases q
def Zm(X:Cx)(P:Addr)(pos:Pos)(q:Str)(fd:Value->Value->FuncData):TE:=λ_ H Q=>J_ H P pos q/\∀f ct c,Made H c f (fd ct) P pos q->Q (.ref f) c
def SE(E:defaultsOf params X.env=([],[]))(j:∀y∈scope.names,y.2=.free->∃c,X.env.cells.lookup y.1=some c)(q:X.env.code=.ref c)(C:CodeHd X.base c P)(B:BMain X.mg X.base):PE X (.Lambda params body scope pos) (Zm X P pos (X.env.qual++"<lambda>") λct cd=>kla_fn "<lambda>" (X.env.qual++"<lambda>") params body scope (aZ X.env.cells scope.names []) ((X.mg "__name__").getD .none) cd ct):=by
 intro pins s N H Q I ⟨T,h⟩;have D:s.heap.Ns mainGlobals X.mg:=I.mod.glob.keeps I.bk;refine kla_eval E ?_;rcases T with u|⟨L,u,V⟩;have O:mainGlobals≠P:=by obtain⟨o,W,a,e,_⟩:=I.mod.glob;exact I.Cu u e
 refine kla_makeFunction (mg:=X.mg) (ps:= #[]) (m3 j) I.ok.glob D q (C.keeps I.bk) (I.Ct u) trivial rfl O (I.O4 u B) λL r h' tk R U Y G Z=> ?_;obtain⟨J,F,M⟩:=I.Ia (fd:=λcd=>kla_fn "<lambda>" (X.env.qual++"<lambda>") params body scope (aZ X.env.cells scope.names []) ((X.mg "__name__").getD .none) cd r) (tk:=tk) u R U Y G Z;exact⟨.ref h'.objs.size,J,F,rfl,h _ r J M⟩;have S:codeAmong pos (#[rawInt pos.line,rawInt pos.col,Value.ref L]:Array Value).toList=some (.ref L):=by simp[codeAmong,rawInt]
 refine kla_makeFunctionHit (mg:=X.mg) (m3 j) I.ok.glob D q (C.keeps I.bk) (I.Ct u) (by show TriplesOk [_,_,_];exact trivial) S (I.O4 u B) λr h' tk A K=> ?_;obtain⟨J,F,M⟩:=I.H_ (fd:=λcd=>kla_fn "<lambda>" (X.env.qual++"<lambda>") params body scope (aZ X.env.cells scope.names []) ((X.mg "__name__").getD .none) cd r) (tk:=tk) u V A K;exact⟨.ref h'.objs.size,J,F,rfl,h _ r J M⟩
def Zn(X:Cx)(P:Addr)(pos:Pos)(q:Str)(fd:Value->Value->Value->FuncData)(i:Nat):TS:=λD σ H=>J_ H P pos q/\∀f ct doc c,Made H c f (fd ct doc) P pos q->D.nx (σ.set i (some (.ref f))) c
def SF(J:params.defaults=[])(L:params.kw_defaults=[])(d:annTrees params none X.env=[]) (j:∀y∈scope.names,y.2=.free->∃c,X.env.cells.lookup y.1=some c)(q:X.env.code=.ref c)(C:CodeHd X.base c P)(B:BMain X.mg X.base)(A:X.N.Nodup)(K:X.N[i]?=some name)(W:Loc X.env.scope name) (a:(X.fn name=true/\X.fz name=false)\/X.env.scope.names.lookup name=some .local):PS X (.FunctionDef name params body [] none [] scope none name pos) (Zn X P pos (qualnameIn X.env name name) (λct doc cd=>fnX name (qualnameIn X.env name name) params body scope (aZ X.env.cells scope.names []) .none .none doc ((X.mg "__name__").getD .none) none cd ct) i):=by
 intro pins s m H D I ⟨T,h⟩;have b:s.heap.Ns mainGlobals X.mg:=I.mod.glob.keeps I.bk;refine nestDef_K J L d ?_;rcases T with u|⟨O,u,f⟩;have Q:mainGlobals≠P:=by obtain⟨o,n,p,e,_⟩:=I.mod.glob;exact I.Cu u e
 refine makeFunction_K (mg:=X.mg) (ps:= #[]) (m3 j) I.ok.glob b q (C.keeps I.bk) (I.Ct u) trivial rfl Q (I.O4 u B) λO r doc h' tk U Y Z E F=> ?_;obtain⟨G,V,M⟩:=I.Ia (fd:=λcd=>fnX name (qualnameIn X.env name name) params body scope (aZ X.env.cells scope.names []) .none .none doc ((X.mg "__name__").getD .none) none cd r) (tk:=tk) u U Y Z E F;exact px V A K W (show RelV (.ref h'.objs.size) (Value.ref h'.objs.size)from rfl) (λg R=>⟨_,G,R,h _ r doc G M⟩) a;have S:codeAmong pos (#[rawInt pos.line,rawInt pos.col,Value.ref O]:Array Value).toList=some (.ref O):=by simp[codeAmong,rawInt]
 refine makeFunction_hit (mg:=X.mg) (m3 j) I.ok.glob b q (C.keeps I.bk) (I.Ct u) (by show TriplesOk [_,_,_];exact trivial) S (I.O4 u B) λr doc h' tk k l=> ?_;obtain⟨G,V,M⟩:=I.H_ (fd:=λcd=>fnX name (qualnameIn X.env name name) params body scope (aZ X.env.cells scope.names []) .none .none doc ((X.mg "__name__").getD .none) none cd r) (tk:=tk) u f k l;exact px V A K W (show RelV (.ref h'.objs.size) (Value.ref h'.objs.size)from rfl) (λg R=>⟨_,G,R,h _ r doc G M⟩) a
structure m5(N ps cs:jR)(sc:Scope):Prop where
 kind:sc.kind=.function
 co:sc.isCoroutine=false
 gen:sc.isGenerator=false
 nd:N.Nodup
 pre:N.take (ps++cs).length=ps++cs
 par:∀x∈ps,sc.names.lookup x=some .local\/sc.names.lookup x=some .cell
 Zo:∀x∈cs,sc.names.lookup x=some .free
 uniq:∀y∈sc.names,sc.names.lookup y.1=some y.2
 Vj:∀y∈sc.names,y.2=.free->y.1∈cs
structure lN(H:Hp)(cs:jR)(clos:v8)(vs:List V):Prop where
 inj:∀x y c,(x,c)∈clos->(y,c)∈clos->x=y
 uniq:∀x c,(x,c)∈clos->clos.lookup x=some c
 only:∀x c,(x,c)∈clos->x∈cs
 len:cs.length=vs.length
 has:∀(i:Nat) x,cs[i]?=some x->∃c v o,clos.lookup x=some c/\vs[i]?=some v/\H c=some (.pj o (vi c v))
def lN.keep(k:lN H cs j vs)(h:∀c o u,H c=some (.pj o u)->q c=some (.pj o u)):lN q cs j vs:=⟨k.inj,k.uniq,k.only,k.len,λi x e=>let ⟨c,v,o,h1,h2,h3⟩:=k.has i x e;⟨c,v,o,h1,h2,h _ _ _ h3⟩⟩
noncomputable def jS(qual:Str)(scope:Scope)(L f:Addr)(cd:Value)(c:v8):Env:=newEnv scope L mainGlobals (cellsFrom (L+1) scope.names c) (qual++".<locals>.") (some f) cd none builtinsNs
def tM(CX:Lh)(P:Program)(w:World)(K:Frag)(mg:qL)(base:Heap)(N:jR)(qual:Str)(scope:Scope)(f:Addr)(cd:Value)(c:v8)(A:Around)(outer:List Env)(s:Shared)(H:Hp)(E:XK):Cx where
 prog:=P
 w:=w
 K:=K
 mg:=mg
 base:=base
 A:=A.deeper (jS qual scope s.heap.objs.size f cd c)
 N:=N
 Cf:=s
 Vh:=H
 env:=jS qual scope s.heap.objs.size f cd c
 outer:=outer
 stack:=jS qual scope s.heap.objs.size f cd c::outer
 ex:=[]
 calm:=true
 fn:=λx=>scope.names.lookup x==some .cell
 pn:=[]
 xe:=λe j=>wpAny (model P w) (A.deeper (jS qual scope s.heap.objs.size f cd c)) (leaving (jS qual scope s.heap.objs.size f cd c) e) (λ_ h=>CX outer H s E e h) (λe' h=>CX outer H s E e' h) j
 fz:=λx=>scope.names.lookup x==some .free
noncomputable def y9(N ps:jR)(c:List V):St:=Da ps.length none++(c.map some++Da (N.length-(ps.length+c.length)) none)
section
variable {CX:Lh} {P:Program} {w:World} {K:Frag} {mg:qL} {base:Heap} {N ps cs:jR} {qual:Str} {scope:Scope} {f:Addr} {cd:Value} {clos:v8} {A:Around} {outer:List Env} {s:Shared} {H:Hp} {E:XK} {cvs:List V}
def Ka(S:m5 N ps cs scope)(t:A.handled=none)(B:uf P w K mg base A outer s H)(C:lN H cs clos cvs):Inv (tM CX P w K mg base N qual scope f cd clos A outer s H E) [] (y9 N ps cvs) H {s with heap:=pushCells (s.heap.push {cls:=.type "frame",data:=.dict #[]}) scope.names}:=by
 have hpl:(ps++cs).length<=N.length:=by have:=congrArg P4 S.pre;rw[oG]at this;omega
 rw[fi]at hpl;have x:=C.len;have T:∀b o,s.heap.get? b=some o->(pushCells (s.heap.push {cls:=.type "frame",data:=.dict #[]}) scope.names).get? b=some o:=λb o e=>sG _ _ _ _ (aX _ e);have O:∀b:Addr,b∉(tM CX P w K mg base N qual scope f cd clos A outer s H E).ex:=λb z=>absurd (show b∈([]:oj)from z) (by simp);have F:(jS qual scope s.heap.objs.size f cd clos).cells=cellsFrom (s.heap.push {cls:=.type "frame",data:=.dict #[]}).objs.size scope.names clos:=by rw[dv];rfl
 have L:∀{y c},(y,c)∈clos->∃v o,clos.lookup y=some c/\H c=some (.pj o (vi c v))/\c<s.heap.objs.size:=λ{y c} Y=>by obtain⟨i,X⟩:=wa (C.only y c Y);obtain⟨W,v,o,r,_,G⟩:=C.has i y X;have:=C.uniq y c Y;rw[r]at this;cases this;exact⟨v,o,r,G,B.fK.lt G⟩
 have J:∀{y c},(jS qual scope s.heap.objs.size f cd clos).cells.lookup y=some c->(clos.lookup y=some c/\c<s.heap.objs.size/\∃v o,H c=some (.pj o (vi c v))/\scope.names.lookup y=some .free)\/(scope.names.lookup y=some .cell/\s.heap.objs.size+1<=c/\Gg (pushCells (s.heap.push {cls:=.type "frame",data:=.dict #[]}) scope.names) c none):=λ{y c} e=>by rw[F]at e;rcases mJ (eJ e)with Y|⟨r,j,G⟩;obtain⟨v,o,r,j,G⟩:=L Y;exact .inl ⟨r,G,v,o,j,S.Zo y (C.only y c Y)⟩;rw[dv]at j;exact .inr ⟨S.uniq _ r,j,G⟩
 have M:∀{y},scope.names.lookup y=some .free->∃c v o,(jS qual scope s.heap.objs.size f cd clos).cells.lookup y=some c/\clos.lookup y=some c/\H c=some (.pj o (vi c v)):=λ{y} d=>by obtain⟨i,X⟩:=wa (S.Vj _ (eJ d) rfl);obtain⟨c,v,o,r,_,G⟩:=C.has i y X;obtain⟨W,e'⟩:=mem_lookup (pA (names:=scope.names) (n:=(s.heap.push {cls:=.type "frame",data:=.dict #[]}).objs.size) (eJ r));rw[<-F]at e';rcases J e' with⟨D,_,v',o',q2,_⟩|⟨q,_⟩;rw[r]at D;cases D;exact⟨c,v,o,e',r,G⟩;rw[d]at q;cases q
 refine⟨⟨B.mod,S.kind,rfl,rfl,aH _,λy z c r j=> ?_,λy Q=> ?_,λy c Z h=> ?_,λ_=>t,Around.frames_deeper B.frames,.inr ⟨rfl,rfl⟩,λb z=>absurd z (O b),B.bs,B.Ln,λb _ _=>O b,λb z=>absurd z (O b),B.u9,B.Oz⟩,
  rfl,B.bare,Un.kept T,⟨λ_=>none,?_,λi y v r j G=> ?_⟩,λy c h=> ?_,B.fK.fresh (aH _),λy c h=> ?_,λp V=>absurd (show p∈([]:m2)from V) (by simp),B.fK.kept T,?_⟩
 have r:(jS qual scope s.heap.objs.size f cd clos).cells.lookup y=some c:=r;have j:(jS qual scope s.heap.objs.size f cd clos).cells.lookup z=some c:=j;rw[F]at r j;refine sN (λp V=> ?_) C.inj (eJ r) (eJ j);rw[dv];obtain⟨_,_,_,_,h⟩:=L (y:=p.1) (c:=p.2) V;exact Cb h;show ∃c,(jS qual scope s.heap.objs.size f cd clos).cells.lookup y=some c;have Q:scope.names.lookup y=some .cell\/scope.names.lookup y=some .free:=Q;rcases Q with Q|Q;obtain⟨c,hc⟩:=sM (n:=(s.heap.push {cls:=.type "frame",data:=.dict #[]}).objs.size) (acc:=clos) (eJ Q);rw[F];exact mem_lookup hc;obtain⟨c,_,_,h,_⟩:=M Q;exact⟨c,h⟩;have Z:(scope.names.lookup y==some NameKind.cell)=true:=Z;have Z:scope.names.lookup y=some .cell:=by simpa using Z
 rcases J h with⟨_,_,_,_,_,q⟩|⟨_,q,_⟩;rw[Z]at q;cases q;exact wm q;exact Heap.Ns.keeps (Heap.Ns.new ..) λb o e=>sG _ _ _ _ e;have R:ps.length<=i/\i<ps.length+cs.length/\cvs[i-ps.length]?=some v:=by
  unfold y9 at j;by_cases X:i<ps.length;rw[Bl (by simpa using X),B6]at j;split at j<;>cases j;rw[DK (by simpa using X),yP]at j;by_cases g:i-ps.length<cvs.length;rw[Bl (by simpa using g),dQ]at j;refine⟨by omega,by omega,?_⟩;cases e:cvs[i-ps.length]? with
  |none=>rw[e]at j;cases j
  |some a=>rw[e]at j;cases j;rfl
  rw[DK (by simpa using g),B6]at j;split at j<;>cases j
 obtain⟨D,q2,q3⟩:=R;have U:cs[i-ps.length]?=some y:=by
  have:(ps++cs)[i]?=some y:=by rw[<-S.pre,B5 (by rw[fi];omega)];exact r
  rw[DK D]at this;exact this
 obtain⟨c,v',o,r1,k,r3⟩:=C.has _ y U;rw[q3]at k;cases k;obtain⟨W,za,o',l1,l,l3⟩:=M (S.Zo y (ky U));rw[r1]at l;cases l;obtain⟨_,⟨u,I,m⟩,_⟩:=(show gF P w H s.heap c (.pj o (vi c v))from B.fK c _ r3);exact⟨u,m,.inr ⟨.inr (S.Zo y (ky U)),c,l1,I.keeps T⟩⟩;rcases J h with⟨_,_,v,o,q,_⟩|⟨_,_,z⟩;obtain⟨_,⟨u,I,m⟩,_⟩:=(show gF P w H s.heap c (.pj o (vi c v))from B.fK c _ q);exact⟨_,I.keeps T⟩;exact⟨_,z⟩;rcases J h with⟨_,_,v,o,q,z⟩|⟨_,q,_⟩;refine .inr ⟨?_,o,_,q⟩;show(scope.names.lookup y==some NameKind.free)=true;rw[z];rfl;exact .inl (B.fK.fresh (wm q));unfold y9;show _=N.length;rw[fi,fi,aP,yP,yP];omega
end
noncomputable def setFrom(c:St):Nat->List V->St
 |_,[]=>c
 |j,v::vs=>setFrom (c.set j (some v)) (j+1) vs
theorem y_:∀vs j c n,n=vs.length->setFrom (j++(Da n none++c)) j.length vs=j++(vs.map some++c)
 |[],j,c,n,h=>by subst h;simp[setFrom]
 |v::vs,j,c,n,h=>by subst h;rw[setFrom,fJ,ra,uc,List.set_append_right _ _ (aH _),na,Sc];have:=y_ vs (j++[some v]) c vs.length rfl;rw[fi,nl,wj,List.singleton_append]at this;rw[this,wj];rfl
def LW(N ps)(vs c)(h:vs.length=ps.length):setFrom (y9 N ps c) 0 vs=start N (vs++c):=by have:=y_ vs [] (c.map some++Da (N.length-(ps.length+c.length)) none) ps.length h.symm;rw[n0,n0,my]at this;unfold y9 start;rw[this,k0,wj,fi,h]
theorem D5(f:Str×Value->PUnit->Sem (ForInStep PUnit))(q:∀n v u,f (n,v) u=(do storeName X.env n v;pure (.yield ⟨⟩)))(y:X.N.Nodup):
  ∀(ps:jR) (us) (vs) (j) (σ) (s) (Q:PUnit->Shared->Prop),Inv X [] σ H s->Vals vs us->
   (∀(i) x,ps[i]?=some x->X.N[j+i]?=some x/\Loc X.env.scope x/\((X.fn x=true/\X.fz x=false)\/X.env.scope.names.lookup x=some .local))->vs.length=ps.length->
   (∀o,Inv X [] (setFrom σ j vs) H o->Q ⟨⟩ o)->wpAny M A (forIn (ps.zip us) ⟨⟩ f) Q E s
 |[],us,vs,j,σ,s,Q,I,r,_,c,h=>by have:vs=[]:=List.length_eq_zero_iff.mp c;subst this;rw[List.zip_nil_left,uZ];exact aQ (h s I)
 |p::ps,[],vs,j,σ,s,Q,I,r,_,c,h=>by have:=r.length;simp at this;subst this;simp at c
 |p::ps,u::us,[],j,σ,s,Q,I,r,_,c,h=>by simp at c
 |p::ps,u::us,v::vs,j,σ,s,Q,I,r,hp,c,h=>by
  cases r with
  |cons B G=>
   obtain⟨J,L,O⟩:=hp 0 p rfl;rw[B_,yo,q];refine af (af (px I y (by simpa using J) L B (λo P=>aQ ?_) O));refine D5 f q y ps us vs (j+1) _ o Q P G (λi x e=> ?_) (by simpa using c) h;have:=hp (i+1) x (by simpa using e);rw[show j+(i+1)=j+1+i by omega]at this;exact this
section
variable {CX:Lh} {P:Program} {w:World} {K:Frag} {mg:qL} {base:Heap} {N ps cs:jR} {qual:Str} {scope:Scope} {f:Addr} {cd:Value} {clos:v8} {A:Around} {outer:List Env} {s:Shared} {H:Hp} {E:XK} {cvs vs:List V} {us:TyJ}
def zA(S:m5 N ps cs scope)(B:A.handled=none)(G:uf P w K mg base A outer s H)(C:lN H cs clos cvs)(q:vs.length=ps.length)(r:Vals vs us) (h:∀j,Inv (tM CX P w K mg base N qual scope f cd clos A outer s H E) [] (start N (vs++cvs)) H j->R (jS qual scope s.heap.objs.size f cd clos) j):wpAny (model P w) L (newFunctionEnv scope mainGlobals clos (ps.zip us) (qual++".<locals>.") (some f) cd none builtinsNs) R M s:=by
 simp only[newFunctionEnv,Option.isSome_none,ub,k3];refine af (wpAny_alloc ?_);refine af (wpAny_layCells _ (λname c cells=>by cases o:c==NameKind.cell<;>simp[o]) _ _ _ _ ?_);rw[show({s with heap:=s.heap.push {cls:=.type "frame",data:=.dict #[]}}:Shared).heap.objs.size=s.heap.objs.size+1 from dv ..];have I:=Ka (CX:=CX) (qual:=qual) (f:=f) (cd:=cd) (E:=E) S B G C;have hpl:(ps++cs).length<=N.length:=by have:=congrArg P4 S.pre;rw[oG]at this;omega
 rw[fi]at hpl;refine af (D5 (X:=tM CX P w K mg base N qual scope f cd clos A outer s H E) _ (λ_ _ _=>rfl) S.nd ps us vs 0 _ _ _ I r (λi x e=> ?_) q λj u=>aQ ?_);have y:=ky e;have J:i<ps.length:=(ph.mp e).1;refine⟨?_,S.par x y,?_⟩;show N[0+i]?=some x;rw[qc];have:(N.take (ps++cs).length)[i]?=some x:=by rw[S.pre,Bl J];exact e
 rwa [B5 (by rw[fi];omega)]at this;rcases S.par x y with k|k;exact .inr k;refine .inl ⟨?_,?_⟩;show(scope.names.lookup x==some NameKind.cell)=true;rw[k];rfl;show(scope.names.lookup x==some NameKind.free)=false;rw[k];rfl;rw[LW N ps vs cvs q]at u;exact h j u
def Kb(S:m5 N ps cs scope)(B:gH (k+1) A)(j:uf P w K mg base A outer s H)(C:lN H cs clos cvs) (G:H f=some (wA f (kla_fn name qual params body scope clos pm (.ref c) ct)))(L:H c=some (tL c qual))(M:vs.length=ps.length)(r:Vals vs us) (O:bindArgs (kla_fn name qual params body scope clos pm (.ref c) ct) ⟨us,[]⟩=pure (ps.zip us)) (h:∃t,PE (tM CX P w K mg base N qual scope f (.ref c) clos A outer s H E) body t/\t (start N (vs++cvs)) H Q):codeAny (model P w) A (.call (.ref f) ⟨us,[]⟩) (CR CX outer P w H s Q E) s:=by obtain⟨o,_,_⟩:=(show gF P w H s.heap f (wA f _)from j.fK f _ G);obtain⟨y,_,_⟩:=(show gF P w H s.heap c (tL c qual)from j.fK c _ L);refine kla_callFunE B.depth o rfl S.co S.gen rfl y ?_;rw[O];refine aQ (zA (CX:=CX) (E:=E) S B.hd j C M r λU I=>⟨I.nolimit,kla_codeExpr ?_⟩);obtain⟨t,X,Y⟩:=h;refine eG (X [] U _ H _ I Y) (λu Z ⟨v,H',J,rv,q⟩=> ?_) λe Z T=>T;exact⟨v,H',J.os,J.bare,J.base,J.fK,rv,q⟩
def Kc{k:Nat}{c:Addr}{name:Str}{params:Arguments}{body:TyM}{pm ct doc:Value}{Q:VK}(S:m5 N ps cs scope)(L:gH (k+1) A)(y:uf P w K mg base A outer s H)(C:lN H cs clos cvs) (M:H f=some (wA f (fnX name qual params body scope clos .none .none doc pm none (.ref c) ct)))(O:H c=some (tL c qual))(U:vs.length=ps.length)(r:Vals vs us) (X:bindArgs (fnX name qual params body scope clos .none .none doc pm none (.ref c) ct) ⟨us,[]⟩=pure (ps.zip us)) (h:∃t,gG (tM CX P w K mg base N qual scope f (.ref c) clos A outer s H E) body t/\t {nx:=λ_ o=>Q .cw o,rt:=Q} (start N (vs++cvs)) H):codeAny (model P w) A (.call (.ref f) ⟨us,[]⟩) (CR CX outer P w H s Q E) s:=by
 obtain⟨B,_,_⟩:=(show gF P w H s.heap f (wA f _)from y.fK f _ M);obtain⟨G,_,_⟩:=(show gF P w H s.heap c (tL c qual)from y.fK c _ O);refine FZ L.depth B rfl S.co S.gen rfl G ?_;rw[X];refine aQ (zA (CX:=CX) (E:=E) S L.hd y C U r λY I=>⟨I.nolimit,codeAny_func ?_⟩);obtain⟨t,Z,T⟩:=h;refine eG (Z [] Y _ H _ I T) (λF D j=> ?_) λe D j=>j;cases F with
 |ret u=>
  obtain⟨v,σ',o,J,V,q⟩:=j;exact⟨v,o,J.os,J.bare,J.base,J.fK,V,q⟩
 |next=>
  obtain⟨σ',o,J,q⟩:=j;exact⟨.cw,o,J.os,J.bare,J.base,J.fK,rfl,q⟩
 |brk=>
  obtain⟨_,_,_,q⟩:=j;exact Db q
 |cont=>
  obtain⟨_,_,_,q⟩:=j;exact Db q
def O5(j:Passes CX X o)(I:Inv X pins σ H s)(h:codeAny (model X.prog X.w) X.A (.call (.ref f) ⟨us,[]⟩) (CR CX X.stack X.prog X.w H s Q o) s):wpAny (model X.prog X.w) X.A (call (.ref f) us) (EP X pins σ Q) X.xe s:=by
 refine wpAny_call (u0 h λr q c=> ?_);cases r with
 |error e=>exact j pins σ H s e q I c
 |ok y=>
  cases y with
  |ret u=>exact I.after c
  |next=>exact Db c
  |brk=>exact Db c
  |cont=>exact Db c
end
def PB(X:Cx)(c:TyM)(t:TS):Prop:=∀(s:Shared) (σ:St) (H:Hp) (D:Ends),Inv X [] σ H s->t D σ H->wpAny (model X.prog X.w) X.A (execs c X.env) (λf h=>∃z,SP (X.frozen z) [] D f h) X.xe s
def PB.of{X:Cx}{c:TyM}{t:TS}(h:gG X c t):PB X c t:=λs σ H D I q=>ew (h [] s σ H D I q) λf j q=>⟨X.fz,q⟩
def PB.cons{X:Cx}{j:Stmt}{c:TyM}{t u:TS}(o:PS X j t)(r:PB X c u):PB X (j::c) (VF t u):=by
 intro s y H D I h;refine wpAny_execs_cons (ew (o [] s y H {D with nx:=u D} I h) λf B q=> ?_);cases f with
 |next=>
  obtain⟨σ',E,G,q⟩:=q;exact r B σ' E D G q
 |ret v=>exact⟨X.fz,q⟩
 |brk=>exact⟨X.fz,q⟩
 |cont=>exact⟨X.fz,q⟩
def Zp(X:Cx)(ns:List (Nat×Str))(u:TS):TS:=λD σ H=>(∀p∈ns,∃v,σ[p.1]?=some (some v))/\∀c,J9 X σ ns H c->u D σ c
def PB.freeze{X:Cx}{o:TyM}{u:TS}{z:Str->Bool}{ns:List (Nat×Str)}(h:PB (X.frozen z) o u)(r:∀x,X.fz x=false)(B:∀p∈ns,z p.2=true)(E:∀p∈ns,X.fn p.2=true)(G:∀p∈ns,X.N[p.1]?=some p.2) (J:∀p∈ns,X.env.scope.names.lookup p.2=some .cell)(L:(ns.map (·.2)).Nodup):PB X o (Zp X ns u):=by
 intro s M H D I ⟨hv,q⟩;have O:=I.Zl z λx e=>by rw[r x]at e;cases e
 obtain⟨y,f,P⟩:=Inv.HZ O (λp j=>⟨B p j,E p j,G p j,J p j⟩) L hv λp j c Q=>by rcases I.pq _ _ Q with n|⟨e,_⟩;exact n;rw[r]at e;cases e
 exact h s M y D P (q y f)
def SG{CX:Lh}{P:Program}{w:World}{K:Frag}{mg:qL}{base:Heap}{k:Nat}{f:Addr}{name qual:Str}{params:Arguments}{body:TyM}{scope:Scope}{F D doc pm h ct d:Value}{V g:Option Addr} {U:Array (Lg)}{N ps:jR}{X:Sp}(i:K.lookup f=some ⟨d,g,.func (fnOf name qual params body scope F D doc pm V h ct),U⟩)(Y:codeIn K h qual=true)(S:jg N ps scope) (L:∀vs H Q E,X vs H Q E->vs.length=ps.length) (j:∀(A) (c) (s) (H) (vs) (Q:VK) (E:XK),gH k (A.deeper (envOfC qual scope s.heap.objs.size f h))->X vs H Q E->∃t,PB (ug CX P w K mg base N qual scope f h A c s H E) body t/\t {nx:=λ_ M=>Q .cw M,rt:=Q} (start N vs) H):nT P w K mg base CX (k+1) f (fnOf name qual params body scope F D doc pm V h ct) ps X:=by
 refine⟨L,λA c s H R us vs Q E Z T l r O=> ?_⟩;have m:=L _ _ _ _ O;have W:K.In s.heap:=T.mod.RL.keeps λb o e=>(T.bs b o e).1;have B:∀y∈ps.zip us,scope.names.lookup y.1=some .local\/(scope.names.lookup y.1=some .cell/\((cellsFrom (s.heap.objs.size+1) scope.names []).lookup y.1).isSome=true):=λC p=>by
  obtain⟨n,v⟩:=C;rcases S.par n (uX p).1 with q|q
  ·exact .inl q
  ·exact .inr ⟨q,cellsFrom_some _ _ _ (.inl q)⟩
 refine FZ Z.depth (W _ _ i) rfl S.co S.gen rfl (codeRec_of W Y) (l _ _ _ _ ?_);refine wpAny_newFunctionEnv_cells S.kind B λenv he a x=> ?_;subst he;obtain⟨t,ht,hq⟩:=j A c s H vs Q E (Z.deeper _) O;have I:Inv (ug CX P w K mg base N qual scope f h A c s H E) [] (start N vs) H a:=Bt S Z.hd T m r x;refine⟨I.nolimit,codeAny_func ?_⟩;refine eG (ht a (start N vs) H _ I hq) (λfl s' ⟨z,G⟩=> ?_) λe s' G=>G;cases fl with
 |ret u=>
  obtain⟨v,σ',M,J,rv,q⟩:=G;exact⟨v,M,J.os,J.bare,J.base,J.fK,rv,q⟩
 |next=>
  obtain⟨σ',M,J,q⟩:=G;exact⟨.cw,M,J.os,J.bare,J.base,J.fK,rfl,q⟩
 |brk=>
  obtain⟨_,_,_,q⟩:=G;exact Db q
 |cont=>
  obtain⟨_,_,_,q⟩:=G;exact Db q
local macro_rules
 | `(tactic|trivial)=> `(tactic|(change @Ne Nat _ _;omega))
abbrev kv(h:Heap)(t:Addr)(a b c:Value):Prop:=h.get? t=some {cls:=.type "tuple",data:=.seq #[a,b,c]}
def AR(a b c):checkTypeCall "zip" ⟨[a,b,c],[]⟩=pure ():=by kernel_rfl
def Cv(a b c):checkBuiltinCall "zip.__new__" ⟨[.type "zip",a,b,c],[]⟩=pure ():=by kernel_rfl
def Gi(a b c d):argsOk "object.__init__" ⟨[a,b,c,d],[]⟩:=by unfold argsOk;rw[signature?_of (id:="object.__init__") (n:=['_','_','t','i','n','i','_','_']) (o:=['t','c','e','j','b','o']) (by kernel_rfl) F.owner_object];kernel_rfl
def vj{t:Addr}{a b c x:Value}{k:Nat}{Q:Unit->Shared->Prop}(j:kv s.heap t a b c) (h:∀h',h'.get? t=some {cls:=.type "tuple",data:=.seq ((#[a,b,c]:Array Value).setIfInBounds k x)}->Heap.SameBut t s.heap h'->Q () {s with heap:=h'}):wpAny (model P w) A (updateSeq t (·.setIfInBounds k x)) Q E s:=by refine wpAny_updateSeq j rfl (h _ ?_ (Heap.SameBut.update ..));rw[Heap.get?_update_self _ j rfl];simp[Obj.mapSeq]
structure Z3(h:Heap)(I a b c n:Nat):Prop where
 z:IsZip h (I+5) (I+3) (I+4) .none
 ti:kv h (I+3) (.ref I) (.ref (I+1)) (.ref (I+2))
 to:∃x y u,kv h (I+4) x y u
 i1:h.IsListIter I a n
 i2:h.IsListIter (I+1) b n
 i3:h.IsListIter (I+2) c n
def Kd(I:Nat)(h h':Heap):Prop:=∀q o,q≠I+5->q≠I+4->q≠I->q≠I+1->q≠I+2->h.get? q=some o->h'.get? q=some o
def O6{xs ys us:Array Value}{x y u:Value}{Q:wo}(la:a<I)(lb:b<I)(lc:c<I)(S:Z3 s.heap I a b c n)(h1:s.heap.IsList a xs)(h2:s.heap.IsList b ys)(h3:s.heap.IsList c us)(hx:xs[n]?=some x)(hy:ys[n]?=some y)(hu:us[n]?=some u) (hQ:∀h',IsZip h' (I+5) (I+3) (I+4) (rawInt s.heap.objs.size)->kv h' (I+4) x y u->h'.IsListIter I a (n+1)->h'.IsListIter (I+1) b (n+1)->h'.IsListIter (I+2) c (n+1)->kv h' s.heap.objs.size x y u->Kd I s.heap h'->Q (.ref s.heap.objs.size) {s with heap:=h'}):wpAny (model P w) A (Builtin.«zip.__next__» ⟨[.ref (I+5)],[]⟩) (λF s'=>∃v,F=.done (.ret v)/\Q v s') E s:=by
 obtain⟨L,D,⟨p0,V,M,R⟩,j1,j2,j3⟩:=S;show wpAny _ _ (field (.ref (I+5)) 2>>=_) _ _ _;refine af (oi L rfl (x:=.bool false) rfl ?_);refine af (oi L rfl (x:=.ref (I+3)) rfl (af (n9 D rfl ?_)));refine af ?_;unfold Builtin.SmallTypes.ownedTupleIsFree;refine af (oi L rfl (x:=.none) rfl (aQ ?_));simp only[c6];refine af (wpAny_rule (af (oi L rfl (x:=.ref (I+4)) rfl (af (yT L (by simp) λg1 K X=>af ?_)))));simp only[v6,ww,yo,uZ];replace K:IsZip g1 (I+5) (I+3) (I+4) .ellipsis:=K;refine af (af (sI ?_));refine af (yO (j1.extBut X.extBut (by trivial)) (h1.extBut X.extBut (by trivial)) hx λg2 k1 N=>aQ ?_);have O:∀q o,q≠I+5->q≠I->s.heap.get? q=some o->g2.get? q=some o:=λq o h j e=>N.extBut _ _ j (X.extBut _ _ h e);have t2:kv g2 (I+4) p0 V M:=O _ _ (by trivial) (by trivial) R;refine af (n9 t2 rfl (af (vj t2 λW d Y=>af (u6 (aQ ?_)))));replace d:kv W (I+4) x V M:=d;have r:∀q o,q≠I+5->q≠I+4->q≠I->s.heap.get? q=some o->W.get? q=some o:=λq o h j U e=>Y.extBut _ _ j (O q o h U e);refine af (af (sI ?_));refine af (yO (j2.at λo e=>r _ o (by trivial) (by trivial) (by trivial) e) (h2.at λo e=>r _ o (by trivial) (by trivial) (by trivial) e) hy λg4 k4 f=>aQ ?_);have t4:kv g4 (I+4) x V M:=f.extBut _ _ (by trivial) d;refine af (n9 t4 rfl (af (vj t4 λg i k=>af (u6 (aQ ?_)))));replace i:kv g (I+4) x y M:=i;have B:∀q o,q≠I+4->q≠I+1->W.get? q=some o->g.get? q=some o:=λq o h j e=>k.extBut _ _ h (f.extBut _ _ j e);refine af (af (sI ?_));refine af (yO (j3.at λo e=>B _ o (by trivial) (by trivial) (r _ o (by trivial) (by trivial) (by trivial) e)) (h3.at λo e=>B _ o (by trivial) (by trivial) (r _ o (by trivial) (by trivial) (by trivial) e)) hu λg6 k6 l=>aQ ?_);have t6:kv g6 (I+4) x y M:=l.extBut _ _ (by trivial) i;refine af (n9 t6 rfl (af (vj t6 λH Z m=>af (u6 (aQ (aQ ?_))))));replace Z:kv H (I+4) x y u:=Z;have J:∀q o,q≠I+4->q≠I+2->g.get? q=some o->H.get? q=some o:=λq o h j e=>m.extBut _ _ h (l.extBut _ _ j e);refine af (n9 Z rfl (af (wpAny_newTuple ?_)));have sz:H.objs.size=s.heap.objs.size:=by rw[m.1,l.1,k.1,f.1,Y.1,N.1,X.1]
 have z7:IsZip H (I+5) (I+3) (I+4) .ellipsis:=J _ _ (by trivial) (by trivial) (B _ _ (by trivial) (by trivial) (Y.extBut _ _ (by trivial) (N.extBut _ _ (by trivial) K)));have o7:Kd I s.heap H:=λq o h j U p t e=>J q o j t (B q o j p (r q o h j U e));have zl:I+5<H.objs.size:=aT z7;refine af ?_;unfold Builtin.SmallTypes.ownedTupleHandOut;refine af (yT (aX _ z7) (by simp) λg8 z e8=> ?_);replace z:IsZip g8 (I+5) (I+3) (I+4) (rawInt H.objs.size):=z;refine yT z (by simp) λT C e9=> ?_;replace C:IsZip T (I+5) (I+3) (I+4) (rawInt H.objs.size):=C;have G:∀q o,q≠I+5->H.get? q=some o->T.get? q=some o:=λq o h e=>e9.extBut _ _ h (e8.extBut _ _ h (aX _ e));have tn:kv T H.objs.size x y u:=e9.extBut _ _ (by trivial) (e8.extBut _ _ (by trivial) (dP _ rfl));refine aQ ⟨_,rfl,?_⟩;rw[sz]at C tn|-;refine hQ T C (G _ _ (by trivial) Z) (k1.at λo e=>G _ o (by trivial) (J _ o (by trivial) (by trivial) (B _ o (by trivial) (by trivial) (Y.extBut _ _ (by trivial) e)))) (k4.at λo e=>G _ o (by trivial) (J _ o (by trivial) (by trivial) (k.extBut _ _ (by trivial) e))) (k6.at λo e=>G _ o (by trivial) (m.extBut _ _ (by trivial) e)) tn λq o h j U p t e=>G q o h (o7 q o h j U p t e)
def SH{xs R us:Array Value}{Q:Fin->Shared->Prop}(K:A.handled=none)(la:a<I)(lb:b<I)(lc:c<I)(S:Z3 s.heap I a b c n)(h1:s.heap.IsList a xs)(h2:s.heap.IsList b R)(h3:s.heap.IsList c us)(L:xs[n]?=none\/R[n]?=none\/us[n]?=none) (hE:∀h' e,Kd I s.heap h'->(∃o,h'.get? e=some o/\o.cls=.type "StopIteration")->E (.ref e) {s with heap:=h'}):wpAny (model P w) A (Builtin.«zip.__next__» ⟨[.ref (I+5)],[]⟩) Q E s:=by
 obtain⟨M,N,⟨p0,W,d,f⟩,j1,j2,j3⟩:=S;have G:∀g e,IsZip g (I+5) (I+3) (I+4) .ellipsis->Kd I s.heap g->(∃o,g.get? e=some o/\o.cls=.type "StopIteration")->wpAny (model P w) A (setField (.ref (I+5)) 0 .none) (λ_ s'=>E (.ref e) s') E {s with heap:=g}:=λg e z k i=>by
  obtain⟨oe,H,O⟩:=i;have ne:e≠I+5:=λq=>by subst q;rw[z]at H;cases H;simp at O
  exact yT z (by simp) λg' _ e'=>hE g' e (λq o h r u U l x=>e'.extBut _ _ h (k q o h r u U l x)) ⟨oe,e'.extBut _ _ ne H,O⟩
 show wpAny _ _ (field (.ref (I+5)) 2>>=_) _ _ _;refine af (oi M rfl (x:=.bool false) rfl ?_);refine af (oi M rfl (x:=.ref (I+3)) rfl (af (n9 N rfl ?_)));refine af ?_;unfold Builtin.SmallTypes.ownedTupleIsFree;refine af (oi M rfl (x:=.none) rfl (aQ ?_));simp only[c6];refine af (wpAny_rule (af (oi M rfl (x:=.ref (I+4)) rfl (af (yT M (by simp) λg1 F J=>af ?_)))));simp only[v6,ww,yo,uZ];replace F:IsZip g1 (I+5) (I+3) (I+4) .ellipsis:=F;refine af (af (sI ?_));cases m:xs[n]? with
 |none=>
  refine af (F0 K (j1.extBut J.extBut (by trivial)) (h1.extBut J.extBut (by trivial)) m λD e X he=> ?_);exact G D e (X _ _ (by trivial) F) (λq o h _ u _ _ x=>X _ _ u (J.extBut _ _ h x)) he
 |some x=>
  refine af (yO (j1.extBut J.extBut (by trivial)) (h1.extBut J.extBut (by trivial)) m λD k1 X=>aQ ?_);have Y:∀q o,q≠I+5->q≠I->s.heap.get? q=some o->D.get? q=some o:=λq o h r e=>X.extBut _ _ r (J.extBut _ _ h e);have t2:kv D (I+4) p0 W d:=Y _ _ (by trivial) (by trivial) f;refine af (n9 t2 rfl (af (vj t2 λV p e3=>af (u6 (aQ ?_)))));replace p:kv V (I+4) x W d:=p;have j:∀q o,q≠I+5->q≠I+4->q≠I->s.heap.get? q=some o->V.get? q=some o:=λq o h r u e=>e3.extBut _ _ r (Y q o h u e);have z3:IsZip V (I+5) (I+3) (I+4) .ellipsis:=e3.extBut _ _ (by trivial) (X.extBut _ _ (by trivial) F);refine af (af (sI ?_));have Z:=j2.at λo e=>j _ o (by trivial) (by trivial) (by trivial) e;have T:=h2.at λo e=>j _ o (by trivial) (by trivial) (by trivial) e;cases t:R[n]? with
  |none=>
   refine af (F0 K Z T t λv e C he=> ?_);exact G v e (C _ _ (by trivial) z3) (λq o h r u U _ x=>C _ _ U (j q o h r u x)) he
  |some y=>
   have hu:us[n]?=none:=by rcases L with q|q|q;rw[m]at q;cases q;rw[t]at q;cases q;exact q
   refine af (yO Z T t λv k4 C=>aQ ?_);have t4:kv v (I+4) x W d:=C.extBut _ _ (by trivial) p;refine af (n9 t4 rfl (af (vj t4 λg5 t5 e5=>af (u6 (aQ ?_)))));have B:∀q o,q≠I+4->q≠I+1->V.get? q=some o->g5.get? q=some o:=λq o h r e=>e5.extBut _ _ h (C.extBut _ _ r e);refine af (af (sI ?_));refine af (F0 K (j3.at λo e=>B _ o (by trivial) (by trivial) (j _ o (by trivial) (by trivial) (by trivial) e)) (h3.at λo e=>B _ o (by trivial) (by trivial) (j _ o (by trivial) (by trivial) (by trivial) e)) hu λg6 e e6 he=> ?_);exact G g6 e (e6 _ _ (by trivial) (B _ _ (by trivial) (by trivial) z3)) (λq o h r u U l x=>e6 _ _ l (B q o r U (j q o h r u x))) he
local macro_rules
 | `(tactic|trivial)=> `(tactic|(change @Ne Nat _ _;omega))
def Kf{xs h us:Array Value}{x y u:Value}{Q:Lg->Shared->Prop}(o:a<I)(q:b<I)(r:c<I)(S:Z3 s.heap I a b c n)(B:s.heap.IsList a xs)(G:s.heap.IsList b h)(H:s.heap.IsList c us)(J:xs[n]?=some x)(L:h[n]?=some y)(M:us[n]?=some u) (O:∀h',IsZip h' (I+5) (I+3) (I+4) (rawInt s.heap.objs.size)->kv h' (I+4) x y u->h'.IsListIter I a (n+1)->h'.IsListIter (I+1) b (n+1)->h'.IsListIter (I+2) c (n+1)->kv h' s.heap.objs.size x y u->Kd I s.heap h'->Q (some (.ref s.heap.objs.size)) {s with heap:=h'}):wpAny (model P w) A (pyNext (.ref (I+5))) Q E s:=by have j:s.TypeIs (.ref (I+5)) "zip":=⟨_,S.z,rfl⟩;unfold pyNext;exact af (wpAny_attempt (wpAny_callSpecial?_slot (name:=Str.ofString "__next__") j yn (wpAny_call_entry yn j F.entry_zip_next (O6 o q r S B G H J L M λh' U X Y Z T C D=>aQ (O h' U X Y Z T C D)) (F.args_zip_next_1 _))))
def LX{xs j us:Array Value}{Q:Lg->Shared->Prop}(r:A.handled=none)(u:a<I)(y:b<I)(B:c<I)(S:Z3 s.heap I a b c n)(G:s.heap.IsList a xs)(H:s.heap.IsList b j)(J:s.heap.IsList c us)(h:xs[n]?=none\/j[n]?=none\/us[n]?=none) (L:∀h',Kd I s.heap h'->Q none {s with heap:=h'}):wpAny (model P w) A (pyNext (.ref (I+5))) Q E s:=by have q:s.TypeIs (.ref (I+5)) "zip":=⟨_,S.z,rfl⟩;unfold pyNext;refine af (wpAny_attempt (wpAny_callSpecial?_slot (name:=Str.ofString "__next__") q yn (wpAny_call_entry yn q F.entry_zip_next (SH r u y B S G H J h λh' e M ⟨o,ho,hc⟩=> ?_) (F.args_zip_next_1 _))));exact af (wpAny_isInstance (T:="StopIteration") (b:=true) ⟨o,ho,hc⟩ isSubtype_stop (aQ (L _ M)))
noncomputable abbrev SI(l:Addr):Obj:={cls:=.type "list_iterator",data:=.fields #[.ref l,.int 0 0]}
abbrev Yr(h:Heap)(a:Addr):Heap:=h.push (SI a)
abbrev Ys(h:Heap)(a b:Addr):Heap:=(Yr h a).push (SI b)
abbrev Yt(h:Heap)(a b c:Addr):Heap:=(Ys h a b).push (SI c)
abbrev Yu(h:Heap)(a b c:Addr):Heap:=(Yt h a b c).push {cls:=.type "tuple",data:=.seq #[.ref h.objs.size,.ref (Yr h a).objs.size,.ref (Ys h a b).objs.size]}
abbrev Yv(h:Heap)(a b c:Addr):Heap:=(Yu h a b c).push {cls:=.type "tuple",data:=.seq #[.none,.none,.none]}
abbrev SJ(h:Heap)(a b c:Addr):Heap:=(Yv h a b c).push {cls:=.type "zip",data:=.fields #[.none,.bool false,.bool false,.ref (Yt h a b c).objs.size,.ref (Yu h a b c).objs.size]}
def Gj(a b c)(xs q us:Array Value):Meets (Builtin.«zip.__new__» ⟨[.type "zip",.ref a,.ref b,.ref c],[]⟩) (λ_ R s=>s.heap.IsList a xs/\s.heap.IsList b q/\s.heap.IsList c us/\R (.ok (.ret (.ref (Yv s.heap a b c).objs.size))) {s with heap:=SJ s.heap a b c}):=.of_wp λprog w A R s h=>by obtain⟨j,g,d,tk,o⟩:=s;obtain⟨u,y,B,h⟩:=h;have r:=sub_zip;have E:Heap.IsList (Shared.heap ⟨j,g,d,tk,o⟩) a xs:=u;have G:Heap.IsList (Shared.heap ⟨j.push {cls:=.type "list_iterator",data:=.fields #[.ref a,.int 0 0]},g,d,tk,o⟩) b q:=Heap.IsList.push y _;have H:Heap.IsList (Shared.heap ⟨(j.push {cls:=.type "list_iterator",data:=.fields #[.ref a,.int 0 0]}).push {cls:=.type "list_iterator",data:=.fields #[.ref b,.int 0 0]},g,d,tk,o⟩) c us:=Heap.IsList.push (Heap.IsList.push B _) _;wp_walk using Cd E,Cd G,Cd H;exact⟨_,rfl,h⟩
def Kg{xs H us:Array Value}{Q:wo}(X:s.heap.IsList a xs)(Y:s.heap.IsList b H)(Z:s.heap.IsList c us) (h:∀h',Z3 h' s.heap.objs.size a b c 0->(∀q o,s.heap.get? q=some o->h'.get? q=some o)->Q (.ref (s.heap.objs.size+5)) {s with heap:=h'}):wpAny (model P w) A (call (.type "zip") [.ref a,.ref b,.ref c]) Q E s:=by
 refine callType_new F.called_zip (by decide) (AR _ _ _) (Cv _ _ _) (λj=>Gi j _ _ _) F.entry_zip_new (Gj a b c xs H us) ⟨X,Y,Z,?_⟩;have r:(Yr s.heap a).objs.size=s.heap.objs.size+1:=dv ..;have u:(Ys s.heap a b).objs.size=s.heap.objs.size+2:=by rw[dv,r]
 have y:(Yt s.heap a b c).objs.size=s.heap.objs.size+3:=by rw[dv,u]
 have B:(Yu s.heap a b c).objs.size=s.heap.objs.size+4:=by rw[dv,y]
 have J:(Yv s.heap a b c).objs.size=s.heap.objs.size+5:=by rw[dv,B]
 have T:(SJ s.heap a b c).get? s.heap.objs.size=some _:=aX _ (aX _ (aX _ (aX _ (aX _ (dP _ rfl)))));have L:(SJ s.heap a b c).get? (Yr s.heap a).objs.size=some _:=aX _ (aX _ (aX _ (aX _ (dP _ rfl))));have M:(SJ s.heap a b c).get? (Ys s.heap a b).objs.size=some _:=aX _ (aX _ (aX _ (dP _ rfl)));have O:(SJ s.heap a b c).get? (Yt s.heap a b c).objs.size=some _:=aX _ (aX _ (dP _ rfl));have U:(SJ s.heap a b c).get? (Yu s.heap a b c).objs.size=some _:=aX _ (dP _ rfl);have G:(SJ s.heap a b c).get? (Yv s.heap a b c).objs.size=some _:=dP _ rfl;rw[y,B,J]at G;rw[r,u,y]at O;rw[B]at U;rw[u]at M;rw[r]at L;rw[J];exact⟨⟨_,G,rfl⟩,h _ ⟨G,O,⟨_,_,_,U⟩,⟨_,T,rfl,rfl⟩,⟨_,L,rfl,rfl⟩,⟨_,M,rfl,rfl⟩⟩ λq o x=>aX _ (aX _ (aX _ (aX _ (aX _ (aX _ x)))))⟩
def SK(K:Frag)(a b c:Addr):It:=⟨λi H=>∃(xs h us:List V) (x y u:V),dr K H a xs/\dr K H b h/\dr K H c us/\xs[i]?=some x/\h[i]?=some y/\us[i]?=some u,
  λi H v j=>∃T x y u,v=.ref T/\H T=none/\j=upd H T (.tup [x,y,u])/\(∀xs,dr K H a xs->xs[i]?=some x)/\(∀h,dr K H b h->h[i]?=some y)/\∀us,dr K H c us->us[i]?=some u,
  λi H=>∃xs h us:List V,dr K H a xs/\dr K H b h/\dr K H c us/\(xs.length<=i\/h.length<=i\/us.length<=i)⟩
def Kh{P:Program}{w:World}{K:Frag}{R:lj}{kk:Nat}{S:Pos}{a b c I:Addr}(la:a<I)(lb:b<I)(lc:c<I):Turn P w K (.Tuple R kk S) (SK K a b c) [I+5,I+3,I+4,I,I+1,I+2] (I+5) (λi h=>Z3 h I a b c i) where
 mem:=by simp
 obj:=λi h za q f=>by
  obtain⟨hz,U,⟨x,y,u,Y⟩,⟨o1,e1,_,d1⟩,⟨o2,e2,_,d2⟩,⟨o3,e3,_,d3⟩⟩:=za;have e':q=I+5\/q=I+3\/q=I+4\/q=I\/q=I+1\/q=I+2:=by simpa using f
  rcases e' with z|z|z|z|z|z;rw[z];exact⟨_,hz,λv q=>nomatch q⟩;rw[z];exact⟨_,U,λv q=>nomatch q⟩;rw[z];exact⟨_,Y,λv q=>nomatch q⟩;rw[z];exact⟨o1,e1,λv q=>by rw[d1]at q;cases q⟩;rw[z];exact⟨o2,e2,λv q=>by rw[d2]at q;cases q⟩;rw[z];exact⟨o3,e3,λv q=>by rw[d3]at q;cases q⟩
 keep:=λi h h' ⟨hz,U,⟨x,y,u,Y⟩,h1,h2,h3⟩ k=>
  ⟨k _ (by simp) _ hz,k _ (by simp) _ U,⟨x,y,u,k _ (by simp) _ Y⟩,h1.at λo q=>k I (by simp) o q,h2.at λo q=>k (I+1) (by simp) o q,h3.at λo q=>k (I+2) (by simp) o q⟩
 item:=by
  intro X hP hw hK hc i pins s σ H E J g Z hg;subst hP hw hK;obtain⟨xs,ys,us,x,y,u,B,G,L,hx,hy,hu⟩:=hg;obtain⟨N,rv,p,_⟩:=J.list B;obtain⟨M,T,p2,_⟩:=J.list G;obtain⟨O,C,p3,_⟩:=J.list L;obtain⟨m,zb,rx⟩:=rv.get hx;obtain⟨n,zc,ry⟩:=T.get hy;obtain⟨t,zd,ru⟩:=C.get hu;have F:I+5<s.heap.objs.size:=aT Z.z;refine Kf la lb lc Z p.isList p2.isList p3.isList (x:=m) (y:=n) (u:=t) (by simpa using zb) (by simpa using zc) (by simpa using zd) λh' z' ze zf zg zh hT hk=> ?_;refine⟨_,rfl,wpAny_letOwnedTupleGo_zip (s:={s with heap:=h'}) z' λD zi V=> ?_⟩;have zj:kv D s.heap.objs.size m n t:=(V.2 _ (W1 F)).trans hT;have zk:gF X.prog X.w (upd H s.heap.objs.size (.tup [x,y,u])) D s.heap.objs.size (.tup [x,y,u]):=
   ⟨by show 3<=sizeLine;decide,[m,n,t],.cons rx (.cons ry (.cons ru .nil)),⟨_,zj,rfl,_,rfl⟩⟩
  have I1:Inv X pins σ (upd H s.heap.objs.size (.tup [x,y,u])) {s with heap:=D}:=
   J.wz (t':=s.toks) (ch:=[I+5,I+3,I+4,I,I+1,I+2]) (λq o r e=>(V.2 q (λj=>r (by simp[j]))).trans (hk q o (λj=>r (by simp[j])) (λj=>r (by simp[j])) (λj=>r (by simp[j])) (λj=>r (by simp[j])) (λj=>r (by simp[j])) e)) g (aH _) zk
  refine⟨.ref s.heap.objs.size,_,I1,rfl,⟨_,x,y,u,rfl,J.fK.fresh (aH _),rfl,λl W=>by rw[J.ll W B];exact hx,λl W=>by rw[J.ll W G];exact hy,λl W=>by rw[J.ll W L];exact hu⟩,⟨zi,?_,⟨m,n,t,?_⟩,?_,?_,?_⟩,λq f=> ?_⟩;exact(V.2 _ (by trivial)).trans (hk _ _ (by trivial) (by trivial) (by trivial) (by trivial) (by trivial) Z.ti);exact(V.2 _ (by trivial)).trans ze;exact zf.at λo q=>(V.2 _ (by trivial)).trans q;exact zg.at λo q=>(V.2 _ (by trivial)).trans q;exact zh.at λo q=>(V.2 _ (by trivial)).trans q;have zl:q<s.heap.objs.size:=by
   have e':q=I+5\/q=I+3\/q=I+4\/q=I\/q=I+1\/q=I+2:=by simpa using f
   have F:@LT.lt Nat _ (I+5) s.heap.objs.size:=F;show @LT.lt Nat _ q s.heap.objs.size;rcases e' with z|z|z|z|z|z<;>(rw[z];omega)
  rw[ao (cV zl)];exact(g q f).1
 done:=by
  intro X hP hw hK hc i pins s σ H E J g Z hg;subst hP hw hK;obtain⟨xs,ys,us,B,G,L,d⟩:=hg;obtain⟨N,rv,p,_⟩:=J.list B;obtain⟨M,T,p2,_⟩:=J.list G;obtain⟨O,C,p3,_⟩:=J.list L;have l1:=rv.length;have l2:=T.length;have l3:=C.length;have he:N.toArray[i]?=none\/M.toArray[i]?=none\/O.toArray[i]?=none:=by rcases d with q|q|q;exact .inl (by simp;omega);exact .inr (.inl (by simp;omega));exact .inr (.inr (by simp;omega))
  exact LX (J.ok.hd hc) la lb lc Z p.isList p2.isList p3.isList he λh' hk=>⟨rfl,J.HY (t':=s.toks) (ch:=[I+5,I+3,I+4,I,I+1,I+2]) (λq o r e=>
   hk q o (λj=>r (by simp[j])) (λj=>r (by simp[j])) (λj=>r (by simp[j])) (λj=>r (by simp[j])) (λj=>r (by simp[j])) e) g⟩
 self:=λA i s Q E Z h=>ym Z.z h
def We(K:Frag)(j:TA):TI:=λσ H R=>j σ H λvs h=>∃a b c xs o us,vs=[.ref a,.ref b,.ref c]/\dr K h a xs/\dr K h b o/\dr K h c us/\R (SK K a b c) h
def O7{X:Cx}{e o u:Expr}{P:TA}{p pos y:Pos}{B:lj}{D:Nat}(V:Gl X "zip")(S:X.mg "zip"=none)(A:PA X [e,o,u] P) (N:starEach [e,o,u] X.env=(false,eval e X.env)::starEach [o,u] X.env:=by rfl)(hpl:(backTo pos (starEach [o,u] X.env)).any (·.1)=false:=by rfl):
  PI X (.Tuple B D y) (.Call (.Name "zip" p) [e,o,u] [] pos) (We X.K P):=by
 intro pins s Q H R I h
 refine Call_ (qe I V S Bw (xr (ew (A pos pins s Q H _ I h) λus j ⟨vs,H1,I1,r1,q1⟩=> ?_) N hpl))
 obtain⟨a,b,c,xs,n,t,W,J,L,M,q⟩:=q1
 subst W
 cases r1 with
 |cons r E=>
  cases E with
  |cons d E=>
   cases E with
   |cons O E=>
    cases E
    cases r
    cases d
    cases O
    obtain⟨f,v,U,_⟩:=I1.list J
    obtain⟨Y,g,Z,_⟩:=I1.list L
    obtain⟨T,i,C,_⟩:=I1.list M
    refine Kg U.isList Z.isList C.isList λh' F k=>ym F.z ?_
    have l:Inv X pins Q H1 {j with heap:=h'}:=I1.kept (t':=j.toks) k
    refine⟨j.heap.objs.size+5,[j.heap.objs.size+5,j.heap.objs.size+3,j.heap.objs.size+4,j.heap.objs.size,j.heap.objs.size+1,j.heap.objs.size+2],_,_,H1,rfl,l,Kh U.lt Z.lt C.lt,F,λq m=> ?_,q⟩
    have e':q=j.heap.objs.size+5\/q=j.heap.objs.size+3\/q=j.heap.objs.size+4\/q=j.heap.objs.size\/q=j.heap.objs.size+1\/q=j.heap.objs.size+2:=by simpa using m
    have G:j.heap.objs.size<=q:=by rcases e' with z|z|z|z|z|z<;>(rw[z];omega)
    exact I1.DS G (I1.fK.fresh G)
end L2
namespace Lw
inductive F.A|a|b|c|d|e|f|g|h|i|j|k|l
inductive F.B|a|b|c|d|e|f|g|h|i|j|k|l|m|n|o|p|q
structure F where(i:F.A)(j:F.B)
namespace F
abbrev ones:F:=⟨.a,.a⟩
abbrev cut:F:=⟨.a,.b⟩
abbrev signed:F:=⟨.a,.c⟩
abbrev held:F:=⟨.a,.d⟩
abbrev cz:F:=⟨.a,.e⟩
abbrev jk:F:=⟨.a,.f⟩
abbrev eY:F:=⟨.a,.g⟩
abbrev c7:F:=⟨.a,.h⟩
abbrev lu:F:=⟨.a,.i⟩
abbrev m6:F:=⟨.a,.j⟩
abbrev fL:F:=⟨.a,.k⟩
abbrev ez:F:=⟨.a,.l⟩
abbrev c1:F:=⟨.a,.m⟩
abbrev hO:F:=⟨.a,.n⟩
abbrev cA:F:=⟨.a,.o⟩
abbrev gm:F:=⟨.a,.p⟩
abbrev aU:F:=⟨.a,.q⟩
abbrev gp:F:=⟨.b,.a⟩
abbrev Bx:F:=⟨.b,.b⟩
abbrev gJ:F:=⟨.b,.c⟩
abbrev eg:F:=⟨.b,.d⟩
abbrev pB:F:=⟨.b,.e⟩
abbrev eh:F:=⟨.b,.f⟩
abbrev kA:F:=⟨.b,.g⟩
abbrev dD:F:=⟨.b,.h⟩
abbrev d9:F:=⟨.b,.i⟩
abbrev bz:F:=⟨.b,.j⟩
abbrev kB:F:=⟨.b,.k⟩
abbrev bS:F:=⟨.b,.l⟩
abbrev pC:F:=⟨.b,.m⟩
abbrev jy:F:=⟨.b,.n⟩
abbrev cC:F:=⟨.b,.o⟩
abbrev b_:F:=⟨.b,.p⟩
abbrev mK:F:=⟨.b,.q⟩
abbrev ej:F:=⟨.c,.a⟩
abbrev eO:F:=⟨.c,.b⟩
abbrev iv:F:=⟨.c,.c⟩
abbrev mL:F:=⟨.c,.d⟩
abbrev cX:F:=⟨.c,.e⟩
abbrev cY:F:=⟨.c,.f⟩
abbrev eP:F:=⟨.c,.g⟩
abbrev gK:F:=⟨.c,.h⟩
abbrev eQ:F:=⟨.c,.i⟩
abbrev pD:F:=⟨.c,.j⟩
abbrev mN:F:=⟨.c,.k⟩
abbrev compress:F:=⟨.c,.l⟩
abbrev fM:F:=⟨.c,.m⟩
abbrev fN:F:=⟨.c,.n⟩
abbrev mQ:F:=⟨.c,.o⟩
abbrev jz:F:=⟨.c,.p⟩
abbrev dF:F:=⟨.c,.q⟩
abbrev dH:F:=⟨.d,.a⟩
abbrev gL:F:=⟨.d,.b⟩
abbrev cD:F:=⟨.d,.c⟩
abbrev sO:F:=⟨.d,.d⟩
abbrev apart:F:=⟨.d,.e⟩
abbrev wB:F:=⟨.d,.f⟩
abbrev sP:F:=⟨.d,.g⟩
abbrev gM:F:=⟨.d,.h⟩
abbrev fO:F:=⟨.d,.i⟩
abbrev eR:F:=⟨.d,.j⟩
abbrev pE:F:=⟨.d,.k⟩
abbrev cE:F:=⟨.d,.l⟩
abbrev gN:F:=⟨.d,.m⟩
abbrev dJ:F:=⟨.d,.n⟩
abbrev d_:F:=⟨.d,.o⟩
abbrev bA:F:=⟨.d,.p⟩
abbrev bU:F:=⟨.d,.q⟩
abbrev cF:F:=⟨.e,.a⟩
abbrev cb:F:=⟨.e,.b⟩
abbrev de:F:=⟨.e,.c⟩
abbrev mR:F:=⟨.e,.d⟩
abbrev kC:F:=⟨.e,.e⟩
abbrev df:F:=⟨.e,.f⟩
abbrev negate:F:=⟨.e,.g⟩
abbrev fP:F:=⟨.e,.h⟩
abbrev gO:F:=⟨.e,.i⟩
abbrev jA:F:=⟨.e,.j⟩
abbrev eS:F:=⟨.e,.k⟩
abbrev ly:F:=⟨.e,.l⟩
abbrev jT:F:=⟨.e,.m⟩
abbrev dg:F:=⟨.e,.n⟩
abbrev mS:F:=⟨.e,.o⟩
abbrev gP:F:=⟨.e,.p⟩
abbrev bB:F:=⟨.e,.q⟩
abbrev dR:F:=⟨.f,.a⟩
abbrev bg:F:=⟨.f,.b⟩
abbrev dU:F:=⟨.f,.c⟩
abbrev fk:F:=⟨.f,.d⟩
abbrev dW:F:=⟨.f,.e⟩
abbrev lz:F:=⟨.f,.f⟩
abbrev dN:F:=⟨.f,.g⟩
abbrev bZ:F:=⟨.f,.h⟩
abbrev iw:F:=⟨.f,.i⟩
abbrev dO:F:=⟨.f,.j⟩
abbrev iy:F:=⟨.f,.k⟩
abbrev b0:F:=⟨.f,.l⟩
abbrev b1:F:=⟨.f,.m⟩
abbrev bV:F:=⟨.f,.n⟩
abbrev qf:F:=⟨.f,.o⟩
abbrev dy:F:=⟨.f,.p⟩
abbrev iY:F:=⟨.f,.q⟩
abbrev fQ:F:=⟨.g,.a⟩
abbrev sQ:F:=⟨.g,.b⟩
abbrev ee:F:=⟨.g,.c⟩
abbrev transform:F:=⟨.g,.d⟩
abbrev bh:F:=⟨.g,.e⟩
abbrev cW:F:=⟨.g,.f⟩
abbrev eZ:F:=⟨.g,.g⟩
abbrev aF:F:=⟨.g,.h⟩
abbrev cx:F:=⟨.g,.i⟩
abbrev jB:F:=⟨.g,.j⟩
abbrev fR:F:=⟨.g,.k⟩
abbrev iz:F:=⟨.g,.l⟩
abbrev iA:F:=⟨.g,.m⟩
abbrev gQ:F:=⟨.g,.n⟩
abbrev By:F:=⟨.g,.o⟩
abbrev cG:F:=⟨.g,.p⟩
abbrev bj:F:=⟨.g,.q⟩
abbrev bp:F:=⟨.h,.a⟩
abbrev br:F:=⟨.h,.b⟩
abbrev bE:F:=⟨.h,.c⟩
abbrev aL:F:=⟨.h,.d⟩
abbrev a6:F:=⟨.h,.e⟩
abbrev aV:F:=⟨.h,.f⟩
abbrev wC:F:=⟨.h,.g⟩
abbrev iB:F:=⟨.h,.h⟩
abbrev eT:F:=⟨.h,.i⟩
abbrev jC:F:=⟨.h,.j⟩
abbrev pick:F:=⟨.h,.k⟩
abbrev jD:F:=⟨.h,.l⟩
abbrev cc:F:=⟨.h,.m⟩
abbrev jl:F:=⟨.h,.n⟩
abbrev mU:F:=⟨.h,.o⟩
abbrev bt:F:=⟨.h,.p⟩
abbrev d4:F:=⟨.h,.q⟩
abbrev pF:F:=⟨.i,.a⟩
abbrev jE:F:=⟨.i,.b⟩
abbrev jF:F:=⟨.i,.c⟩
abbrev fm:F:=⟨.i,.d⟩
abbrev ek:F:=⟨.i,.e⟩
abbrev en:F:=⟨.i,.f⟩
abbrev jU:F:=⟨.i,.g⟩
abbrev fS:F:=⟨.i,.h⟩
abbrev iC:F:=⟨.i,.i⟩
abbrev gR:F:=⟨.i,.j⟩
abbrev a7:F:=⟨.i,.k⟩
abbrev dh:F:=⟨.i,.l⟩
abbrev expand:F:=⟨.i,.m⟩
abbrev cf:F:=⟨.i,.n⟩
abbrev hR:F:=⟨.i,.o⟩
abbrev bW:F:=⟨.i,.p⟩
abbrev eA:F:=⟨.i,.q⟩
abbrev a8:F:=⟨.j,.a⟩
abbrev b7:F:=⟨.j,.b⟩
abbrev a9:F:=⟨.j,.c⟩
abbrev b8:F:=⟨.j,.d⟩
abbrev widen:F:=⟨.j,.e⟩
abbrev iD:F:=⟨.j,.f⟩
abbrev lA:F:=⟨.j,.g⟩
abbrev hV:F:=⟨.j,.h⟩
abbrev narrow:F:=⟨.j,.i⟩
abbrev cg:F:=⟨.j,.j⟩
abbrev fo:F:=⟨.j,.k⟩
abbrev c3:F:=⟨.j,.l⟩
abbrev hW:F:=⟨.j,.m⟩
abbrev bc:F:=⟨.j,.n⟩
abbrev cy:F:=⟨.j,.o⟩
abbrev jG:F:=⟨.j,.p⟩
abbrev among:F:=⟨.j,.q⟩
abbrev fT:F:=⟨.k,.a⟩
abbrev between:F:=⟨.k,.b⟩
abbrev alike:F:=⟨.k,.c⟩
abbrev m7:F:=⟨.k,.d⟩
abbrev answer:F:=⟨.k,.e⟩
abbrev e7:F:=⟨.k,.f⟩
abbrev kD:F:=⟨.k,.g⟩
abbrev gS:F:=⟨.k,.h⟩
abbrev eU:F:=⟨.k,.i⟩
abbrev mV:F:=⟨.k,.j⟩
abbrev D6:F:=⟨.k,.k⟩
abbrev fU:F:=⟨.k,.l⟩
abbrev compare:F:=⟨.k,.m⟩
abbrev fV:F:=⟨.k,.n⟩
abbrev gg:F:=⟨.k,.o⟩
abbrev iE:F:=⟨.k,.p⟩
abbrev iF:F:=⟨.k,.q⟩
abbrev bX:F:=⟨.l,.a⟩
abbrev eB:F:=⟨.l,.b⟩
abbrev jV:F:=⟨.l,.c⟩
abbrev fits:F:=⟨.l,.d⟩
abbrev e_:F:=⟨.l,.e⟩
abbrev hY:F:=⟨.l,.f⟩
abbrev jH:F:=⟨.l,.g⟩
abbrev c8:F:=⟨.l,.h⟩
abbrev aa:F:=⟨.l,.i⟩
abbrev ef:F:=⟨.l,.j⟩
abbrev iG:F:=⟨.l,.k⟩
abbrev gq:F:=⟨.l,.l⟩
abbrev aY:F:=⟨.l,.m⟩
abbrev bH:F:=⟨.l,.n⟩
abbrev aW:F:=⟨.l,.o⟩
abbrev dz:F:=⟨.l,.p⟩
abbrev fb:F:=⟨.l,.q⟩
noncomputable def ix(f:F):=f.i.ctorIdx*17+f.j.ctorIdx
end F
inductive D
 |tN|aR|vk|tO|jI|iZ|bF|oJ|tP|sZ|lO|jJ
inductive Gk|add|sub|mul|fdiv|mod|shl|shr|and|or|xor
inductive SM|eq|ne|lt|le|gt|ge
inductive OA|sound|operation|k|n|qg|d|a|b|g|z|m
inductive ML|vec|Cw|D7
noncomputable def lB(x:Int):Int:= -x-1
def AS:Int->Int->Int
 |.ofNat a,.ofNat b=>((a&&&b:Nat):Int)
 |.ofNat a,.negSucc b=>(a:Int)-((a&&&b:Nat):Int)
 |.negSucc a,.ofNat b=>(b:Int)-((b&&&a:Nat):Int)
 |.negSucc a,.negSucc b=>lB ((a|||b:Nat):Int)
def Vk(x y:Int):Int:=lB (AS (lB x) (lB y))
def LY(x y:Int):Int:=Vk x y-AS x y
noncomputable def rk(x:Int):Int:=if x.natAbs=0 then 0 else(x.natAbs.log2:Int)+1
structure Ord where
 sound:Bool
 operation:Int
 k:Int
 n:Int
 qg:Bool
 d:Int
 a:Int
 b:Int
 g:Int
 z:Int
 m:Int
structure AL where
 v:List Int
 p:List Int
 x:List Int
 f:Int
 deriving DecidableEq
inductive SV where
 |cw
 |bl (b:Bool)
 |int (i:Int)
 |lst (xs:List SV)
 |tup (xs:List SV)
 |fn (f:F)
 |ko (f:F) (cs:List SV)
 |ord (o:Ord)
 |d5
 |ml (j:ML)
abbrev gc:=Option AL
abbrev lC:=List SV
abbrev Yw:=Option (SV×Bool×gc)
abbrev D8:=F->lC->gc->Yw
inductive IE where
 |v (i:Nat)
 |int (c:Int)
 |bl (b:Bool)
 |cw
 |uj (nm:Nat) (c:Int)
 |fn (f:F)
 |bin (o:Gk) (a b:IE)
 |neg (a:IE)
 |inv (a:IE)
 |cmp (o:SM) (a b:IE)
 |LZ (a:IE)
 |xM (a:IE)
 |Lj (a b:IE)
 |inD (a:IE) (d:D)
 |qh (a:IE) (d:D)
 |chain (a b c:IE)
 |not (a:IE)
 |and (a b:IE)
 |or (a b:IE)
 |tQ (c a b:IE)
 |aK (e:IE) (f:OA)
 |Od (e:IE) (j:ML)
 |ix (a b:IE)
 |Oe (a lo:IE)
 |D9 (a hi:IE)
 |sl (a lo hi:IE)
 |call (f:F) (as:IE)
 |aI (f:F) (o:IE) (as:IE)
 |i0 (i:Nat) (as:IE)
 |len (a:IE)
 |abs (a:IE)
 |min2 (a b:IE)
 |max2 (a b:IE)
 |Kj (a:IE)
 |sum (a:IE)
 |rk (a:IE)
 |index (a b:IE)
 |kq (d:D) (a:IE)
 |Gm (d:D) (a:IE)
 |Kk (d:D) (a:IE)
 |list (es:IE)
 |tup (es:IE)
 |lc (tg:gd) (it elt:IE)
 |rm (tg:gd) (it cond elt:IE)
 |lam (f:F) (caps:gd)
 |nil
 |cons (e es:IE)
 |seq (e:IE)
 |qi (a:IE)
 |D_ (a b:IE)
 |uk (a b c:IE)
 |enum (e:IE)
 |zip2 (a b:IE)
 |AU (a b c:IE)
 |rev (e:IE)
inductive IS where
 |nil
 |set (i:Nat) (e:IE) (r:IS)
 |own (i:Nat) (e:IE) (r:IS)
 |pj (i:Nat) (r:IS)
 |aug (i:Nat) (o:Gk) (e:IE) (r:IS)
 |app (i:Nat) (e:IE) (r:IS)
 |ext (i:Nat) (e:IE) (r:IS)
 |put (i:Nat) (ix e:IE) (r:IS)
 |Cy (i:Nat) (j:ML) (ix e:IE) (r:IS)
 |Kl (i:Nat) (e:IE) (r:IS)
 |ex (f:F) (o:IE) (as:IE) (r:IS)
 |Vm (i:Nat) (as:IE) (r:IS)
 |ite (c:IE) (a b r:IS)
 |kr (tg:gd) (it:IE) (body r:IS)
 |Vn (fuel:Nat) (c:IE) (body r:IS)
 |ret (e:IE)
 |AV (i:Nat)
 |rn (i:Nat) (f:F) (caps:gd) (r:IS)
structure Ev where
 vals:List (Option SV)
 own:Option (Nat×lC)
inductive Out where
 |nx (e:Ev) (m:gc)
 |rt (v:SV) (fr:Bool) (m:gc)
structure Df where
 np:Nat
 slots:Nat
 body:IS
structure pG where
 kq:D->Int->Option F
 s_:D->Int->Bool
 Gm:D->Int->Option (List Int)
 Kk:D->Nat->Option F
noncomputable abbrev b6:Nat:=100000
section
abbrev R:=Option (SV×Bool)
noncomputable def ints?:lC->Option (List Int)
 |[]=>some []
 |.int i::r=>(ints? r).map (i::·)
 |_::_=>none
def binI(o:Gk)(i j:Int):xu:=match o with
 |.add=>some (i+j)
 |.sub=>some (i-j)
 |.mul=>if(i.natAbs<2^64)\/(j.natAbs<2^64)then some (i*j)else none
 |.fdiv=>if 0<j/\j<1073741824 then some (i/j)else none
 |.mod=>if 0<j then some (i % j)else none
 |.shl=>if 0<=j/\j<=100000/\i.natAbs<2^200 then some (i*2^j.toNat)else none
 |.shr=>if 0<=j then some (i/2^j.toNat)else none
 |.and=>some (AS i j)
 |.or=>some (Vk i j)
 |.xor=>some (LY i j)
def zB(o:Gk)(x y:SV):R:=match o,x,y with
 |o,.int i,.int j=>(binI o i j).map λr=>(.int r,false)
 |.add,.lst xs,.lst ys=>if xs.length+ys.length<=b6 then some (.lst (xs++ys),true)else none
 |.mul,.lst xs,.int k=>if xs.length*k.toNat<=b6/\k.natAbs<2^62 then some (.lst (Da k.toNat xs).flatten,true)else none
 |_,_,_=>none
noncomputable def dj(o:SM)(i j:Int):Bool:=match o with
 |.eq=>decide (i=j)
 |.ne=> !decide (i=j)
 |.lt=>decide (i<j)
 |.le=>decide (i<=j)
 |.gt=>decide (j<i)
 |.ge=>decide (j<=i)
def Ea(o:SM)(x y:SV):Option Bool:=match o,x,y with
 |o,.int i,.int j=>some (dj o i j)
 |.eq,.bl a,.bl b=>some (a==b)
 |.ne,.bl a,.bl b=>some (a !=b)
 |.eq,.lst xs,.lst ys=>match ints? xs,ints? ys with
  |some a,some b=>some (decide (a=b))
  |_,_=>none
 |_,_,_=>none
noncomputable def Ord.get(o:Ord):OA->SV
 |.sound=>.bl o.sound
 |.operation=>.int o.operation
 |.k=>.int o.k
 |.n=>.int o.n
 |.qg=>.bl o.qg
 |.d=>.int o.d
 |.a=>.int o.a
 |.b=>.int o.b
 |.g=>.int o.g
 |.z=>.int o.z
 |.m=>.int o.m
noncomputable def AL.get(m:AL):ML->List Int
 |.vec=>m.v
 |.Cw=>m.p
 |.D7=>m.x
noncomputable def AL.put(m:AL)(j:ML)(l:List Int):AL:=match j with
 |.vec=>{m with v:=l}
 |.Cw=>{m with p:=l}
 |.D7=>{m with x:=l}
def items?(M:gc):SV->Option (lC)
 |.lst xs=>some xs
 |.ml j=>M.map λm=>(m.get j).map SV.int
 |_=>none
noncomputable def truth:SV->Option Bool
 |.bl b=>some b
 |.int i=>some (i !=0)
 |_=>none
noncomputable def xN(xs:lC)(c h:Int):R:=if 0<=c/\0<=h then some (.lst ((xs.drop c.toNat).take (h.toNat-c.toNat)),true)else none
noncomputable def Ev.get(e:Ev)(i:Nat):Option SV:=(e.vals[i]?).join
noncomputable def Ev.put(e:Ev)(i:Nat)(x:SV):Ev:={e with vals:=e.vals.set i (some x)}
def Ev.kE(e:Ev):gd->lC->Ev
 |i::is,x::xs=>(e.put i x).kE is xs
 |_,_=>e
def Ev.vl(e:Ev):gd->Option (lC)
 |[]=>some []
 |i::is=>match e.get i,e.vl is with
  |some x,some xs=>some (x::xs)
  |_,_=>none
noncomputable def Ev.free(e:Ev)(i:Nat):Bool:=i<e.vals.length&&match e.own with
 |some (j,_)=>i !=j
 |none=>true
noncomputable def wD{c h:Type}(f:c->Option h):List c->Option (List h)
 |[]=>some []
 |x::r=>match f x with
  |some y=>(wD f r).map (y::·)
  |none=>none
noncomputable def iL{h j:Type}(c:h->Option Bool)(f:h->Option j):List h->Option (List j)
 |[]=>some []
 |x::r=>match c x with
  |some true=>(match f x with
   |some y=>(iL c f r).map (y::·)
   |none=>none)
  |some false=>iL c f r
  |none=>none
noncomputable def h_(c:Int)(n:Nat)(h:Int):List (lC):=(AC n).map λ(i:Nat)=>[.int (c+i*h)]
noncomputable def kx(n:Nat):lC->List (lC)
 |[]=>[]
 |x::r=>[.int n,x]::kx (n+1) r
noncomputable def oK:List Int->xu
 |[]=>none
 |x::r=>some (r.foldl (λa b=>if b<a then b else a) x)
noncomputable def jW(y:Int):List Int->Option Nat
 |[]=>none
 |x::r=>if x=y then some 0 else(jW y r).map (·+1)
variable (T:pG) (cl:D8)
noncomputable def dt(f:F)(as:lC)(M:gc):R:=match cl f as M with
 |some (x,fr,M')=>if M'=M then some (x,fr)else none
 |none=>none
noncomputable def zC(g:SV)(as:lC)(M:gc):Yw:=match g with
 |.fn f=>cl f as M
 |.ko f cs=>cl f (as++cs) M
 |_=>none
def pH(g:SV)(as:lC)(M:gc):R:=match g with
 |.fn f=>dt cl f as M
 |.ko f cs=>dt cl f (as++cs) M
 |_=>none
mutual
def au(e:Ev)(M:gc):IE->R
 |.v i=>(e.get i).map λx=>(x,false)
 |.int c=>some (.int c,false)
 |.bl b=>some (.bl b,false)
 |.cw=>some (.cw,false)
 |.uj _ c=>some (.int c,false)
 |.fn f=>some (.fn f,false)
 |.bin o a b=>match au e M a,au e M b with
  |some (x,_),some (y,_)=>zB o x y
  |_,_=>none
 |.neg a=>match au e M a with
  |some (.int i,_)=>some (.int (-i),false)
  |_=>none
 |.inv a=>match au e M a with
  |some (.int i,_)=>some (.int (lB i),false)
  |_=>none
 |.cmp o a b=>match au e M a,au e M b with
  |some (x,_),some (y,_)=>(Ea o x y).map λr=>(.bl r,false)
  |_,_=>none
 |.LZ a=>match au e M a with
  |some (.cw,_)=>some (.bl true,false)
  |some (.fn _,_)=>some (.bl false,false)
  |some (.lst _,_)=>some (.bl false,false)
  |_=>none
 |.xM a=>match au e M a with
  |some (.cw,_)=>some (.bl false,false)
  |some (.fn _,_)=>some (.bl true,false)
  |some (.lst _,_)=>some (.bl true,false)
  |_=>none
 |.Lj a b=>match au e M a,au e M b with
  |some (.int i,_),some (.lst xs,_)=>(ints? xs).map λl=>(.bl (decide (i∈l)),false)
  |some (.int i,_),some (.tup xs,_)=>(ints? xs).map λl=>(.bl (decide (i∈l)),false)
  |_,_=>none
 |.inD a d=>match au e M a with
  |some (.int i,_)=>some (.bl (T.s_ d i),false)
  |_=>none
 |.qh a d=>match au e M a with
  |some (.int i,_)=>some (.bl (!T.s_ d i),false)
  |_=>none
 |.chain a b c=>match au e M a,au e M b with
  |some (.int i,_),some (.int j,_)=>if i<=j then(match au e M c with
   |some (.int l,_)=>some (.bl (decide (j<=l)),false)
   |_=>none)else some (.bl false,false)
  |_,_=>none
 |.not a=>match au e M a with
  |some (.bl b,_)=>some (.bl (!b),false)
  |_=>none
 |.and a b=>match au e M a with
  |some (.bl true,_)=>(match au e M b with
   |some (.bl y,_)=>some (.bl y,false)
   |_=>none)
  |some (.bl false,_)=>some (.bl false,false)
  |_=>none
 |.or a b=>match au e M a with
  |some (.bl true,_)=>some (.bl true,false)
  |some (.bl false,_)=>(match au e M b with
   |some (.bl y,_)=>some (.bl y,false)
   |_=>none)
  |_=>none
 |.tQ c a b=>match au e M c with
  |some (x,_)=>(match truth x with
   |some true=>au e M a
   |some false=>au e M b
   |none=>none)
  |none=>none
 |.aK a f=>match au e M a with
  |some (.ord o,_)=>some (o.get f,false)
  |_=>none
 |.Od a j=>match au e M a with
  |some (.d5,_)=>if M.isSome then some (.ml j,false)else none
  |_=>none
 |.ix a b=>match au e M a,au e M b with
  |some (x,_),some (.int i,_)=>(match items? M x with
   |some xs=>if 0<=i then(xs[i.toNat]?).map λy=>(y,false)else none
   |none=>none)
  |_,_=>none
 |.Oe a lo=>match au e M a,au e M lo with
  |some (x,_),some (.int i,_)=>(match items? M x with
   |some xs=>if 0<=i then some (.lst (xs.drop i.toNat),true)else none
   |none=>none)
  |_,_=>none
 |.D9 a hi=>match au e M a,au e M hi with
  |some (x,_),some (.int i,_)=>(match items? M x with
   |some xs=>if 0<=i then some (.lst (xs.take i.toNat),true)else none
   |none=>none)
  |_,_=>none
 |.sl a lo hi=>match au e M a,au e M lo,au e M hi with
  |some (x,_),some (.int i,_),some (.int j,_)=>(match items? M x with
   |some xs=>xN xs i j
   |none=>none)
  |_,_,_=>none
 |.call f as=>match ks e M as with
  |some xs=>dt cl f xs M
  |none=>none
 |.aI f o as=>match au e M o,ks e M as with
  |some (.d5,_),some xs=>dt cl f (.d5::xs) M
  |_,_=>none
 |.i0 i as=>match e.get i,ks e M as with
  |some g,some xs=>pH cl g xs M
  |_,_=>none
 |.len a=>match au e M a with
  |some (x,_)=>(items? M x).map λxs=>(.int xs.length,false)
  |none=>none
 |.abs a=>match au e M a with
  |some (.int i,_)=>some (.int (if i<0 then-i else i),false)
  |_=>none
 |.min2 a b=>match au e M a,au e M b with
  |some (.int i,_),some (.int j,_)=>some (.int (if j<i then j else i),false)
  |_,_=>none
 |.max2 a b=>match au e M a,au e M b with
  |some (.int i,_),some (.int j,_)=>some (.int (if j>i then j else i),false)
  |_,_=>none
 |.Kj a=>match au e M a with
  |some (.lst xs,_)=>((ints? xs).bind oK).map λi=>(.int i,false)
  |_=>none
 |.sum a=>match au e M a with
  |some (.lst xs,_)=>(ints? xs).map λl=>(.int l.sum,false)
  |_=>none
 |.rk a=>match au e M a with
  |some (.int i,_)=>some (.int (rk i),false)
  |_=>none
 |.index a b=>match au e M a,au e M b with
  |some (.lst xs,_),some (.int i,_)=>((ints? xs).bind (jW i)).map λ(j:Nat)=>(.int (KB j),false)
  |_,_=>none
 |.kq d a=>match au e M a with
  |some (.int i,_)=>some ((T.kq d i).elim .cw .fn,false)
  |_=>none
 |.Gm d a=>match au e M a with
  |some (.int i,_)=>(T.Gm d i).map λl=>(.tup (l.map .int),false)
  |_=>none
 |.Kk d a=>match au e M a with
  |some (.int i,_)=>if 0<=i then(T.Kk d i.toNat).map λf=>(.fn f,false)else none
  |_=>none
 |.list es=>match ks e M es with
  |some xs=>if xs.length<=b6 then some (.lst xs,true)else none
  |none=>none
 |.tup es=>match ks e M es with
  |some xs=>if xs.length<=b6 then some (.tup xs,false)else none
  |none=>none
 |.lc tg it elt=>match e.own,wF e M it with
  |none,some xs=>if xs.length<=b6 then(wD (λx=>(au (e.kE tg x) M elt).map (·.1)) xs).map λh=>(.lst h,true)else none
  |_,_=>none
 |.rm tg it cond elt=>match e.own,wF e M it with
  |none,some xs=>if xs.length<=b6 then(iL (λx=>(au (e.kE tg x) M cond).bind λc=>truth c.1) (λx=>(au (e.kE tg x) M elt).map (·.1)) xs).map λh=>(.lst h,true)else none
  |_,_=>none
 |.lam f caps=>(e.vl caps).map λq=>(.ko f q,false)
 |_=>none
def ks(e:Ev)(M:gc):IE->Option (lC)
 |.nil=>some []
 |.cons a r=>match au e M a,ks e M r with
  |some (x,_),some xs=>some (x::xs)
  |_,_=>none
 |_=>none
def wF(e:Ev)(M:gc):IE->Option (List (lC))
 |.seq a=>match au e M a with
  |some (.lst xs,_)=>some (xs.map λx=>[x])
  |some (.tup xs,_)=>some (xs.map λx=>[x])
  |_=>none
 |.qi a=>match au e M a with
  |some (.int n,_)=>if n.natAbs<=b6 then some (h_ 0 n.toNat 1)else none
  |_=>none
 |.D_ a b=>match au e M a,au e M b with
  |some (.int i,_),some (.int j,_)=>if i.natAbs<=b6/\j.natAbs<=b6 then some (h_ i (j-i).toNat 1)else none
  |_,_=>none
 |.uk a b c=>match au e M a,au e M b,au e M c with
  |some (.int i,_),some (.int j,_),some (.int st,_)=>if i.natAbs<=b6/\j.natAbs<=b6/\0<st/\st<=b6 then some (h_ i ((j-i+st-1)/st).toNat st)else none
  |_,_,_=>none
 |.enum a=>match au e M a with
  |some (.lst xs,_)=>some (kx 0 xs)
  |_=>none
 |.zip2 a b=>match au e M a,au e M b with
  |some (.lst xs,_),some (.lst ys,_)=>some (Gc (λx y=>[x,y]) xs ys)
  |_,_=>none
 |.AU a b c=>match au e M a,au e M b,au e M c with
  |some (.lst xs,_),some (.lst ys,_),some (.lst zs,_)=>some (Gc (λx (y:SV×SV)=>[x,y.1,y.2]) xs (ys.zip zs))
  |_,_,_=>none
 |.rev a=>match au e M a with
  |some (.lst xs,_)=>some (xs.reverse.map λx=>[x])
  |_=>none
 |_=>none
end
def eC(tg:gd)(body:Ev->gc->Option (Out)):List (lC)->Ev->gc->Option (Out)
 |[],e,M=>some (.nx e M)
 |x::r,e,M=>if tg.all e.free then(match body (e.kE tg x) M with
  |some (.nx e' M')=>eC tg body r e' M'
  |some (.rt v fr M')=>some (.rt v fr M')
  |none=>none)else none
def qO(c:Ev->gc->R)(body:Ev->gc->Option (Out)):Nat->Ev->gc->Option (Out)
 |0,_,_=>none
 |n+1,e,M=>match c e M with
  |some (x,_)=>(match truth x with
   |some true=>(match body e M with
    |some (.nx e' M')=>qO c body n e' M'
    |some (.rt v fr M')=>some (.rt v fr M')
    |none=>none)
   |some false=>some (.nx e M)
   |none=>none)
  |none=>none
def Cz(c:IE)(e:Ev)(M:gc):R:=au T cl e M c
def d8:IS->Ev->gc->Option (Out)
 |.nil,e,M=>some (.nx e M)
 |.set i a r,e,M=>match au T cl e M a with
  |some (x,_)=>if e.free i then d8 r (e.put i x) M else none
  |none=>none
 |.own i a r,e,M=>match au T cl e M a with
  |some (.lst xs,true)=>if(ints? xs).isSome&&(e.own.isNone&&i<e.vals.length)then d8 r {vals:=e.vals.set i none,own:=some (i,xs)} M else none
  |_=>none
 |.pj i r,e,M=>match e.own with
  |some (j,xs)=>if i=j then d8 r {vals:=e.vals.set i (some (.lst xs)),own:=none} M else none
  |none=>none
 |.aug i o a r,e,M=>match e.get i,au T cl e M a with
  |some (.int x),some (.int y,_)=>(match binI o x y with
   |some z=>d8 r (e.put i (.int z)) M
   |none=>none)
  |_,_=>none
 |.app i a r,e,M=>match e.own,au T cl e M a with
  |some (j,xs),some (x,_)=>if i=j/\xs.length<b6 then d8 r {e with own:=some (j,xs++[x])} M else none
  |_,_=>none
 |.ext i a r,e,M=>match e.own,au T cl e M a with
  |some (j,xs),some (.lst ys,_)=>if i=j/\xs.length+ys.length<=b6 then d8 r {e with own:=some (j,xs++ys)} M else none
  |_,_=>none
 |.put i a b r,e,M=>match e.own,au T cl e M b,au T cl e M a with
  |some (j,xs),some (y,_),some (.int n,_)=>if i=j/\0<=n/\n<xs.length then d8 r {e with own:=some (j,xs.set n.toNat y)} M else none
  |_,_,_=>none
 |.Cy i j a b r,e,M=>match e.get i,M,au T cl e M b,au T cl e M a with
  |some .d5,some m,some (.int y,_),some (.int n,_)=>if 0<=n/\n<(m.get j).length then d8 r e (some (m.put j ((m.get j).set n.toNat y)))else none
  |_,_,_,_=>none
 |.Kl i a r,e,M=>match e.get i,M,au T cl e M a with
  |some .d5,some m,some (.int y,_)=>d8 r e (some {m with f:=y})
  |_,_,_=>none
 |.ex f o as r,e,M=>match au T cl e M o,ks T cl e M as with
  |some (.d5,_),some xs=>(match cl f (.d5::xs) M with
   |some (_,_,M')=>d8 r e M'
   |none=>none)
  |some (.cw,_),some xs=>(match cl f xs M with
   |some (_,_,M')=>d8 r e M'
   |none=>none)
  |_,_=>none
 |.Vm i as r,e,M=>match e.get i,ks T cl e M as with
  |some g,some xs=>(match zC cl g xs M with
   |some (_,_,M')=>d8 r e M'
   |none=>none)
  |_,_=>none
 |.ite c a b r,e,M=>match au T cl e M c with
  |some (x,_)=>(match truth x with
   |some true=>(match d8 a e M with
    |some (.nx e' M')=>d8 r e' M'
    |q=>q)
   |some false=>(match d8 b e M with
    |some (.nx e' M')=>d8 r e' M'
    |q=>q)
   |none=>none)
  |none=>none
 |.kr tg it body r,e,M=>match wF T cl e M it with
  |some xs=>(match eC tg (d8 body) xs e M with
   |some (.nx e' M')=>d8 r e' M'
   |q=>q)
  |none=>none
 |.Vn n c body r,e,M=>match qO (Cz T cl c) (d8 body) n e M with
  |some (.nx e' M')=>d8 r e' M'
  |q=>q
 |.ret a,e,M=>match au T cl e M a with
  |some (x,fr)=>some (.rt x fr M)
  |none=>none
 |.AV i,e,M=>match e.own with
  |some (j,xs)=>if i=j then some (.rt (.lst xs) true M)else none
  |none=>none
 |.rn i f caps r,e,M=>match e.vl caps with
  |some h=>if e.free i then d8 r (e.put i (.ko f h)) M else none
  |none=>none
def Gn(d:Df)(as:lC)(M:gc):Yw:=if as.length=d.np then(match d8 T cl d.body ⟨as.map some++Da (d.slots-d.np) none,none⟩ M with
  |some (.nx _ M')=>some (.cw,false,M')
  |some (.rt v fr M')=>some (v,fr,M')
  |none=>none)else none
end
section
variable (T:pG) (defs:F->Df)
def cR:Nat->F->lC->gc->Yw
 |0=>λ_ _ _=>none
 |n+1=>λf as M=>Gn T (cR n) (defs f) as M
end
section
variable (T:pG) (cl:D8) (e:Ev) (M:gc)
def cZ(tg:gd)(c:IE)(x:lC):Option SV:=(au T cl (e.kE tg x) M c).map (·.1)
def Km(tg:gd)(h:IE)(x:lC):Option Bool:=(au T cl (e.kE tg x) M h).bind λc=>truth c.1
theorem qP(i:Nat):au T cl e M (.v i)=((e.get i).map λx=>(x,false)):=rfl
theorem eI(c:Int):au T cl e M (.int c)=(some (.int c,false)):=rfl
theorem Gp(b:Bool):au T cl e M (.bl b)=(some (.bl b,false)):=rfl
theorem CA:au T cl e M .cw=(some (.cw,false)):=rfl
theorem vm(h:Nat)(c:Int):au T cl e M (.uj h c)=(some (.int c,false)):=rfl
theorem Gr(f:F):au T cl e M (.fn f)=(some (.fn f,false)):=rfl
theorem ot(o:Gk)(a:IE)(b:IE):au T cl e M (.bin o a b)=(match au T cl e M a,au T cl e M b with
  |some (x,_),some (y,_)=>zB o x y
  |_,_=>none):=rfl
theorem Ib(a:IE):au T cl e M (.neg a)=(match au T cl e M a with
  |some (.int i,_)=>some (.int (-i),false)
  |_=>none):=rfl
theorem Ic(a:IE):au T cl e M (.inv a)=(match au T cl e M a with
  |some (.int i,_)=>some (.int (lB i),false)
  |_=>none):=rfl
theorem vo(o:SM)(a:IE)(b:IE):au T cl e M (.cmp o a b)=(match au T cl e M a,au T cl e M b with
  |some (x,_),some (y,_)=>(Ea o x y).map λr=>(.bl r,false)
  |_,_=>none):=rfl
theorem Ie(a:IE):au T cl e M (.LZ a)=(match au T cl e M a with
  |some (.cw,_)=>some (.bl true,false)
  |some (.fn _,_)=>some (.bl false,false)
  |some (.lst _,_)=>some (.bl false,false)
  |_=>none):=rfl
theorem Eb(a:IE):au T cl e M (.xM a)=(match au T cl e M a with
  |some (.cw,_)=>some (.bl false,false)
  |some (.fn _,_)=>some (.bl true,false)
  |some (.lst _,_)=>some (.bl true,false)
  |_=>none):=rfl
theorem Ig(a:IE)(b:IE):au T cl e M (.Lj a b)=(match au T cl e M a,au T cl e M b with
  |some (.int i,_),some (.lst xs,_)=>(ints? xs).map λl=>(.bl (decide (i∈l)),false)
  |some (.int i,_),some (.tup xs,_)=>(ints? xs).map λl=>(.bl (decide (i∈l)),false)
  |_,_=>none):=rfl
theorem Ih(a:IE)(d:D):au T cl e M (.inD a d)=(match au T cl e M a with
  |some (.int i,_)=>some (.bl (T.s_ d i),false)
  |_=>none):=rfl
theorem zD(a:IE)(d:D):au T cl e M (.qh a d)=(match au T cl e M a with
  |some (.int i,_)=>some (.bl (!T.s_ d i),false)
  |_=>none):=rfl
theorem Bz(a:IE)(b:IE)(c:IE):au T cl e M (.chain a b c)=(match au T cl e M a,au T cl e M b with
  |some (.int i,_),some (.int j,_)=>if i<=j then(match au T cl e M c with
   |some (.int l,_)=>some (.bl (decide (j<=l)),false)
   |_=>none)else some (.bl false,false)
  |_,_=>none):=rfl
theorem Ii(a:IE):au T cl e M (.not a)=(match au T cl e M a with
  |some (.bl b,_)=>some (.bl (!b),false)
  |_=>none):=rfl
theorem CB(a:IE)(b:IE):au T cl e M (.and a b)=(match au T cl e M a with
  |some (.bl true,_)=>(match au T cl e M b with
   |some (.bl y,_)=>some (.bl y,false)
   |_=>none)
  |some (.bl false,_)=>some (.bl false,false)
  |_=>none):=rfl
theorem L0(a:IE)(b:IE):au T cl e M (.or a b)=(match au T cl e M a with
  |some (.bl true,_)=>some (.bl true,false)
  |some (.bl false,_)=>(match au T cl e M b with
   |some (.bl y,_)=>some (.bl y,false)
   |_=>none)
  |_=>none):=rfl
theorem Ij(c:IE)(a:IE)(b:IE):au T cl e M (.tQ c a b)=(match au T cl e M c with
  |some (x,_)=>(match truth x with
   |some true=>au T cl e M a
   |some false=>au T cl e M b
   |none=>none)
  |none=>none):=rfl
theorem CC(a:IE)(f:OA):au T cl e M (.aK a f)=(match au T cl e M a with
  |some (.ord o,_)=>some (o.get f,false)
  |_=>none):=rfl
theorem yu(a:IE)(j:ML):au T cl e M (.Od a j)=(match au T cl e M a with
  |some (.d5,_)=>if M.isSome then some (.ml j,false)else none
  |_=>none):=rfl
theorem L1(a:IE)(b:IE):au T cl e M (.ix a b)=(match au T cl e M a,au T cl e M b with
  |some (x,_),some (.int i,_)=>(match items? M x with
   |some xs=>if 0<=i then(xs[i.toNat]?).map λy=>(y,false)else none
   |none=>none)
  |_,_=>none):=rfl
theorem Ik(a:IE)(c:IE):au T cl e M (.Oe a c)=(match au T cl e M a,au T cl e M c with
  |some (x,_),some (.int i,_)=>(match items? M x with
   |some xs=>if 0<=i then some (.lst (xs.drop i.toNat),true)else none
   |none=>none)
  |_,_=>none):=rfl
theorem Il(a:IE)(c:IE):au T cl e M (.D9 a c)=(match au T cl e M a,au T cl e M c with
  |some (x,_),some (.int i,_)=>(match items? M x with
   |some xs=>if 0<=i then some (.lst (xs.take i.toNat),true)else none
   |none=>none)
  |_,_=>none):=rfl
theorem L3(a:IE)(c:IE)(h:IE):au T cl e M (.sl a c h)=(match au T cl e M a,au T cl e M c,au T cl e M h with
  |some (x,_),some (.int i,_),some (.int j,_)=>(match items? M x with
   |some xs=>xN xs i j
   |none=>none)
  |_,_,_=>none):=rfl
theorem ro(f:F)(as:IE):au T cl e M (.call f as)=(match ks T cl e M as with
  |some xs=>dt cl f xs M
  |none=>none):=rfl
theorem Ec(f:F)(o:IE)(as:IE):au T cl e M (.aI f o as)=(match au T cl e M o,ks T cl e M as with
  |some (.d5,_),some xs=>dt cl f (.d5::xs) M
  |_,_=>none):=rfl
theorem BA(i:Nat)(as:IE):au T cl e M (.i0 i as)=(match e.get i,ks T cl e M as with
  |some g,some xs=>pH cl g xs M
  |_,_=>none):=rfl
theorem Im(a:IE):au T cl e M (.len a)=(match au T cl e M a with
  |some (x,_)=>(items? M x).map λxs=>(.int xs.length,false)
  |none=>none):=rfl
theorem Io(a:IE):au T cl e M (.abs a)=(match au T cl e M a with
  |some (.int i,_)=>some (.int (if i<0 then-i else i),false)
  |_=>none):=rfl
theorem Ed(a:IE)(b:IE):au T cl e M (.min2 a b)=(match au T cl e M a,au T cl e M b with
  |some (.int i,_),some (.int j,_)=>some (.int (if j<i then j else i),false)
  |_,_=>none):=rfl
theorem Ee(a:IE)(b:IE):au T cl e M (.max2 a b)=(match au T cl e M a,au T cl e M b with
  |some (.int i,_),some (.int j,_)=>some (.int (if j>i then j else i),false)
  |_,_=>none):=rfl
theorem Ef(a:IE):au T cl e M (.Kj a)=(match au T cl e M a with
  |some (.lst xs,_)=>((ints? xs).bind oK).map λi=>(.int i,false)
  |_=>none):=rfl
theorem Ip(a:IE):au T cl e M (.sum a)=(match au T cl e M a with
  |some (.lst xs,_)=>(ints? xs).map λl=>(.int l.sum,false)
  |_=>none):=rfl
theorem Eg(a:IE):au T cl e M (.rk a)=(match au T cl e M a with
  |some (.int i,_)=>some (.int (rk i),false)
  |_=>none):=rfl
theorem BB(a:IE)(b:IE):au T cl e M (.index a b)=(match au T cl e M a,au T cl e M b with
  |some (.lst xs,_),some (.int i,_)=>((ints? xs).bind (jW i)).map λ(j:Nat)=>(.int (KB j),false)
  |_,_=>none):=rfl
theorem Eh(d:D)(a:IE):au T cl e M (.kq d a)=(match au T cl e M a with
  |some (.int i,_)=>some ((T.kq d i).elim .cw .fn,false)
  |_=>none):=rfl
theorem Iq(d:D)(a:IE):au T cl e M (.Gm d a)=(match au T cl e M a with
  |some (.int i,_)=>(T.Gm d i).map λl=>(.tup (l.map .int),false)
  |_=>none):=rfl
theorem Ir(d:D)(a:IE):au T cl e M (.Kk d a)=(match au T cl e M a with
  |some (.int i,_)=>if 0<=i then(T.Kk d i.toNat).map λf=>(.fn f,false)else none
  |_=>none):=rfl
theorem Ei(c:IE):au T cl e M (.list c)=(match ks T cl e M c with
  |some xs=>if xs.length<=b6 then some (.lst xs,true)else none
  |none=>none):=rfl
theorem Iu(c:IE):au T cl e M (.tup c)=(match ks T cl e M c with
  |some xs=>if xs.length<=b6 then some (.tup xs,false)else none
  |none=>none):=rfl
theorem L4(tg:gd)(h:IE)(c:IE):au T cl e M (.lc tg h c)=(match e.own,wF T cl e M h with
  |none,some xs=>if xs.length<=b6 then(wD (cZ T cl e M tg c) xs).map λj=>(.lst j,true)else none
  |_,_=>none):=rfl
theorem Ej(tg:gd)(j:IE)(c:IE)(h:IE):au T cl e M (.rm tg j c h)=(match e.own,wF T cl e M j with
  |none,some xs=>if xs.length<=b6 then(iL (Km T cl e M tg c) (cZ T cl e M tg h) xs).map λo=>(.lst o,true)else none
  |_,_=>none):=rfl
theorem Iv(f:F)(c:gd):au T cl e M (.lam f c)=((e.vl c).map λh=>(.ko f h,false)):=rfl
theorem rp:ks T cl e M .nil=(some []):=rfl
theorem mW(a:IE)(r:IE):ks T cl e M (.cons a r)=(match au T cl e M a,ks T cl e M r with
  |some (x,_),some xs=>some (x::xs)
  |_,_=>none):=rfl
theorem k5(a:IE):wF T cl e M (.seq a)=(match au T cl e M a with
  |some (.lst xs,_)=>some (xs.map λx=>[x])
  |some (.tup xs,_)=>some (xs.map λx=>[x])
  |_=>none):=rfl
theorem i4(a:IE):wF T cl e M (.qi a)=(match au T cl e M a with
  |some (.int n,_)=>if n.natAbs<=b6 then some (h_ 0 n.toNat 1)else none
  |_=>none):=rfl
theorem i5(a:IE)(b:IE):wF T cl e M (.D_ a b)=(match au T cl e M a,au T cl e M b with
  |some (.int i,_),some (.int j,_)=>if i.natAbs<=b6/\j.natAbs<=b6 then some (h_ i (j-i).toNat 1)else none
  |_,_=>none):=rfl
theorem i6(a:IE)(b:IE)(c:IE):wF T cl e M (.uk a b c)=(match au T cl e M a,au T cl e M b,au T cl e M c with
  |some (.int i,_),some (.int j,_),some (.int st,_)=>if i.natAbs<=b6/\j.natAbs<=b6/\0<st/\st<=b6 then some (h_ i ((j-i+st-1)/st).toNat st)else none
  |_,_,_=>none):=rfl
theorem i7(a:IE):wF T cl e M (.enum a)=(match au T cl e M a with
  |some (.lst xs,_)=>some (kx 0 xs)
  |_=>none):=rfl
theorem i8(a:IE)(b:IE):wF T cl e M (.zip2 a b)=(match au T cl e M a,au T cl e M b with
  |some (.lst xs,_),some (.lst c,_)=>some (Gc (λx y=>[x,y]) xs c)
  |_,_=>none):=rfl
theorem i9(a:IE)(b:IE)(c:IE):wF T cl e M (.AU a b c)=(match au T cl e M a,au T cl e M b,au T cl e M c with
  |some (.lst xs,_),some (.lst h,_),some (.lst zs,_)=>some (Gc (λx (y:SV×SV)=>[x,y.1,y.2]) xs (h.zip zs))
  |_,_,_=>none):=rfl
theorem k7(a:IE):wF T cl e M (.rev a)=(match au T cl e M a with
  |some (.lst xs,_)=>some (xs.reverse.map λx=>[x])
  |_=>none):=rfl
theorem Iw:d8 T cl .nil e M=(some (.nx e M)):=rfl
theorem Iy(i:Nat)(a:IE)(r:IS):d8 T cl (.set i a r) e M=(match au T cl e M a with
  |some (x,_)=>if e.free i then d8 T cl r (e.put i x) M else none
  |none=>none):=rfl
theorem Iz(i:Nat)(a:IE)(r:IS):d8 T cl (.own i a r) e M=(match au T cl e M a with
  |some (.lst xs,true)=>if(ints? xs).isSome&&(e.own.isNone&&i<e.vals.length)then d8 T cl r {vals:=e.vals.set i none,own:=some (i,xs)} M else none
  |_=>none):=rfl
theorem IA(i:Nat)(r:IS):d8 T cl (.pj i r) e M=(match e.own with
  |some (j,xs)=>if i=j then d8 T cl r {vals:=e.vals.set i (some (.lst xs)),own:=none} M else none
  |none=>none):=rfl
theorem IB(i:Nat)(o:Gk)(a:IE)(r:IS):d8 T cl (.aug i o a r) e M=(match e.get i,au T cl e M a with
  |some (.int x),some (.int y,_)=>(match binI o x y with
   |some z=>d8 T cl r (e.put i (.int z)) M
   |none=>none)
  |_,_=>none):=rfl
theorem IC(i:Nat)(a:IE)(r:IS):d8 T cl (.app i a r) e M=(match e.own,au T cl e M a with
  |some (j,xs),some (x,_)=>if i=j/\xs.length<b6 then d8 T cl r {e with own:=some (j,xs++[x])} M else none
  |_,_=>none):=rfl
theorem ID(i:Nat)(a:IE)(r:IS):d8 T cl (.ext i a r) e M=(match e.own,au T cl e M a with
  |some (j,xs),some (.lst c,_)=>if i=j/\xs.length+c.length<=b6 then d8 T cl r {e with own:=some (j,xs++c)} M else none
  |_,_=>none):=rfl
theorem IF(i:Nat)(a:IE)(b:IE)(r:IS):d8 T cl (.put i a b r) e M=(match e.own,au T cl e M b,au T cl e M a with
  |some (j,xs),some (y,_),some (.int n,_)=>if i=j/\0<=n/\n<xs.length then d8 T cl r {e with own:=some (j,xs.set n.toNat y)} M else none
  |_,_,_=>none):=rfl
theorem Ek(i:Nat)(j:ML)(a:IE)(b:IE)(r:IS):d8 T cl (.Cy i j a b r) e M=(match e.get i,M,au T cl e M b,au T cl e M a with
  |some .d5,some m,some (.int y,_),some (.int n,_)=>if 0<=n/\n<(m.get j).length then d8 T cl r e (some (m.put j ((m.get j).set n.toNat y)))else none
  |_,_,_,_=>none):=rfl
theorem El(i:Nat)(a:IE)(r:IS):d8 T cl (.Kl i a r) e M=(match e.get i,M,au T cl e M a with
  |some .d5,some m,some (.int y,_)=>d8 T cl r e (some {m with f:=y})
  |_,_,_=>none):=rfl
theorem Gs(f:F)(o:IE)(as:IE)(r:IS):d8 T cl (.ex f o as r) e M=(match au T cl e M o,ks T cl e M as with
  |some (.d5,_),some xs=>(match cl f (.d5::xs) M with
   |some (_,_,c)=>d8 T cl r e c
   |none=>none)
  |some (.cw,_),some xs=>(match cl f xs M with
   |some (_,_,c)=>d8 T cl r e c
   |none=>none)
  |_,_=>none):=rfl
theorem IG(i:Nat)(as:IE)(r:IS):d8 T cl (.Vm i as r) e M=(match e.get i,ks T cl e M as with
  |some g,some xs=>(match zC cl g xs M with
   |some (_,_,c)=>d8 T cl r e c
   |none=>none)
  |_,_=>none):=rfl
theorem II(c:IE)(a:IS)(b:IS)(r:IS):d8 T cl (.ite c a b r) e M=(match au T cl e M c with
  |some (x,_)=>(match truth x with
   |some true=>(match d8 T cl a e M with
    |some (.nx e' h)=>d8 T cl r e' h
    |q=>q)
   |some false=>(match d8 T cl b e M with
    |some (.nx e' h)=>d8 T cl r e' h
    |q=>q)
   |none=>none)
  |none=>none):=rfl
theorem Em(tg:gd)(c:IE)(body:IS)(r:IS):d8 T cl (.kr tg c body r) e M=(match wF T cl e M c with
  |some xs=>(match eC tg (d8 T cl body) xs e M with
   |some (.nx e' h)=>d8 T cl r e' h
   |q=>q)
  |none=>none):=rfl
theorem IJ(n:Nat)(c:IE)(body:IS)(r:IS):d8 T cl (.Vn n c body r) e M=(match qO (Cz T cl c) (d8 T cl body) n e M with
  |some (.nx e' h)=>d8 T cl r e' h
  |q=>q):=rfl
theorem yw(a:IE):d8 T cl (.ret a) e M=(match au T cl e M a with
  |some (x,fr)=>some (.rt x fr M)
  |none=>none):=rfl
theorem En(i:Nat):d8 T cl (.AV i) e M=(match e.own with
  |some (j,xs)=>if i=j then some (.rt (.lst xs) true M)else none
  |none=>none):=rfl
theorem Eo(i:Nat)(f:F)(c:gd)(r:IS):d8 T cl (.rn i f c r) e M=(match e.vl c with
  |some h=>if e.free i then d8 T cl r (e.put i (.ko f h)) M else none
  |none=>none):=rfl
end
def L5(h:zB o x y=some (z,fr)):(∃i j r,x=.int i/\y=.int j/\binI o i j=some r/\z=.int r/\fr=false)\/(o=.add/\∃xs c,x=.lst xs/\y=.lst c/\xs.length+c.length<=b6/\z=.lst (xs++c)/\fr=true)\/(o=.mul/\∃xs k,x=.lst xs/\y=.int k/\xs.length*k.toNat<=b6/\k.natAbs<2^62/\z=.lst (Da k.toNat xs).flatten/\fr=true):=by unfold zB at h;split at h;rename_i i j;simp only[bR,aG]at h;obtain⟨r,s,u,B⟩:=h;exact .inl ⟨i,j,r,rfl,rfl,s,u.symm,B.symm⟩;rename_i xs c;split at h;rename_i q;simp only[aD,aG]at h;exact .inr (.inl ⟨rfl,xs,c,rfl,rfl,q,h.1.symm,h.2.symm⟩);cases h;rename_i xs k;split at h;rename_i q;simp only[aD,aG]at h;exact .inr (.inr ⟨rfl,xs,k,rfl,rfl,q.1,q.2,h.1.symm,h.2.symm⟩);cases h;cases h
def O8(h:au T cl e M (.bin o a b)=some (z,fr)):∃x c y j,au T cl e M a=some (x,c)/\au T cl e M b=some (y,j)/\zB o x y=some (z,fr):=by rw[ot]at h;split at h;rename_i x c y j q r;exact⟨x,c,y,j,q,r,h⟩;cases h
def IK(h:au T cl e M (.cmp o a b)=some (z,fr)):∃x c y j r,au T cl e M a=some (x,c)/\au T cl e M b=some (y,j)/\Ea o x y=some r/\z=.bl r/\fr=false:=by rw[vo]at h;split at h;rename_i x c y j q s;simp only[bR,aG]at h;obtain⟨r,u,B,E⟩:=h;exact⟨x,c,y,j,r,q,s,u,B.symm,E.symm⟩;cases h
def L6(h:Ea o x y=some r):(∃i j,x=.int i/\y=.int j/\r=dj o i j)\/(o=.eq/\∃a b,x=.bl a/\y=.bl b/\r=(a==b))\/(o=.ne/\∃a b,x=.bl a/\y=.bl b/\r=(a !=b))\/(o=.eq/\∃xs c a b,x=.lst xs/\y=.lst c/\ints? xs=some a/\ints? c=some b/\r=decide (a=b)):=by unfold Ea at h;split at h;rename_i i j;exact .inl ⟨i,j,rfl,rfl,by simpa using h.symm⟩;rename_i a b;exact .inr (.inl ⟨rfl,a,b,rfl,rfl,by simpa using h.symm⟩);rename_i a b;exact .inr (.inr (.inl ⟨rfl,a,b,rfl,rfl,by simpa using h.symm⟩));rename_i xs c;split at h;rename_i a b q s;exact .inr (.inr (.inr ⟨rfl,xs,c,a,b,rfl,rfl,q,s,by simpa using h.symm⟩));cases h;cases h
def O9(h:au T cl e M (.neg a)=some (z,fr)):∃i c,au T cl e M a=some (.int i,c)/\z=.int (-i)/\fr=false:=by rw[Ib]at h;split at h;rename_i i c j;simp only[aD,aG]at h;exact⟨i,c,j,h.1.symm,h.2.symm⟩;cases h
def inv_inv(h:au T cl e M (.inv a)=some (z,fr)):∃i c,au T cl e M a=some (.int i,c)/\z=.int (lB i)/\fr=false:=by rw[Ic]at h;split at h;rename_i i c j;simp only[aD,aG]at h;exact⟨i,c,j,h.1.symm,h.2.symm⟩;cases h
def IL(h:au T cl e M (.LZ a)=some (z,fr)):∃x c,au T cl e M a=some (x,c)/\fr=false/\((x=.cw/\z=.bl true)\/((∃f,x=.fn f)/\z=.bl false)\/((∃l,x=.lst l)/\z=.bl false)):=by rw[Ie]at h;split at h;rename_i c j;simp only[aD,aG]at h;exact⟨_,c,j,h.2.symm,.inl ⟨rfl,h.1.symm⟩⟩;rename_i f c j;simp only[aD,aG]at h;exact⟨_,c,j,h.2.symm,.inr (.inl ⟨⟨f,rfl⟩,h.1.symm⟩)⟩;rename_i l c j;simp only[aD,aG]at h;exact⟨_,c,j,h.2.symm,.inr (.inr ⟨⟨l,rfl⟩,h.1.symm⟩)⟩;cases h
def Ep(h:au T cl e M (.xM a)=some (z,fr)):∃x c,au T cl e M a=some (x,c)/\fr=false/\((x=.cw/\z=.bl false)\/((∃f,x=.fn f)/\z=.bl true)\/((∃l,x=.lst l)/\z=.bl true)):=by rw[Eb]at h;split at h;rename_i c j;simp only[aD,aG]at h;exact⟨_,c,j,h.2.symm,.inl ⟨rfl,h.1.symm⟩⟩;rename_i f c j;simp only[aD,aG]at h;exact⟨_,c,j,h.2.symm,.inr (.inl ⟨⟨f,rfl⟩,h.1.symm⟩)⟩;rename_i l c j;simp only[aD,aG]at h;exact⟨_,c,j,h.2.symm,.inr (.inr ⟨⟨l,rfl⟩,h.1.symm⟩)⟩;cases h
def IM(h:au T cl e M (.Lj a b)=some (z,fr)):∃i c y j xs l,au T cl e M a=some (.int i,c)/\au T cl e M b=some (y,j)/\(y=.lst xs\/y=.tup xs)/\ints? xs=some l/\z=.bl (decide (i∈l))/\fr=false:=by rw[Ig]at h;split at h;rename_i i c xs j o q;simp only[bR,aG]at h;obtain⟨l,r,s,u⟩:=h;exact⟨i,c,_,j,xs,l,o,q,.inl rfl,r,s.symm,u.symm⟩;rename_i i c xs j o q;simp only[bR,aG]at h;obtain⟨l,r,s,u⟩:=h;exact⟨i,c,_,j,xs,l,o,q,.inr rfl,r,s.symm,u.symm⟩;cases h
def BC(h:au T cl e M (.chain a b c)=some (z,fr)):∃i q j r,au T cl e M a=some (.int i,q)/\au T cl e M b=some (.int j,r)/\fr=false/\((i<=j/\∃l s,au T cl e M c=some (.int l,s)/\z=.bl (decide (j<=l)))\/(¬i<=j/\z=.bl false)):=by rw[Bz]at h;split at h;rename_i i q j r u y;split at h;rename_i o;split at h;rename_i l s B;simp only[aD,aG]at h;exact⟨i,q,j,r,u,y,h.2.symm,.inl ⟨o,l,s,B,h.1.symm⟩⟩;cases h;rename_i o;simp only[aD,aG]at h;exact⟨i,q,j,r,u,y,h.2.symm,.inr ⟨o,h.1.symm⟩⟩;cases h
def IP(h:au T cl e M (.not a)=some (z,fr)):∃c b,au T cl e M a=some (.bl b,c)/\z=.bl (!b)/\fr=false:=by rw[Ii]at h;split at h;rename_i b c j;simp only[aD,aG]at h;exact⟨c,b,j,h.1.symm,h.2.symm⟩;cases h
def IQ(h:au T cl e M (.and a b)=some (z,fr)):∃c j,au T cl e M a=some (.bl c,j)/\fr=false/\((c=true/\∃y o,au T cl e M b=some (.bl y,o)/\z=.bl y)\/(c=false/\z=.bl false)):=by rw[CB]at h;split at h;rename_i j q;split at h;rename_i y o r;simp only[aD,aG]at h;exact⟨true,j,q,h.2.symm,.inl ⟨rfl,y,o,r,h.1.symm⟩⟩;cases h;rename_i j q;simp only[aD,aG]at h;exact⟨false,j,q,h.2.symm,.inr ⟨rfl,h.1.symm⟩⟩;cases h
def L7(h:au T cl e M (.or a b)=some (z,fr)):∃c j,au T cl e M a=some (.bl c,j)/\fr=false/\((c=false/\∃y o,au T cl e M b=some (.bl y,o)/\z=.bl y)\/(c=true/\z=.bl true)):=by rw[L0]at h;split at h;rename_i j q;simp only[aD,aG]at h;exact⟨true,j,q,h.2.symm,.inr ⟨rfl,h.1.symm⟩⟩;rename_i j q;split at h;rename_i y o r;simp only[aD,aG]at h;exact⟨false,j,q,h.2.symm,.inl ⟨rfl,y,o,r,h.1.symm⟩⟩;cases h;cases h
def O_(h:au T cl e M (.tQ c a b)=some (z,fr)):∃x j t,au T cl e M c=some (x,j)/\truth x=some t/\(if t=true then au T cl e M a else au T cl e M b)=some (z,fr):=by rw[Ij]at h;split at h;rename_i x j q;split at h;rename_i o;exact⟨x,j,true,q,o,by simpa using h⟩;rename_i o;exact⟨x,j,false,q,o,by simpa using h⟩;cases h;cases h
def Pa(h:au T cl e M (.aK a f)=some (z,fr)):∃o c,au T cl e M a=some (.ord o,c)/\z=o.get f/\fr=false:=by rw[CC]at h;split at h;rename_i o c j;simp only[aD,aG]at h;exact⟨o,c,j,h.1.symm,h.2.symm⟩;cases h
def Pb(h:au T cl e M (.Od a j)=some (z,fr)):∃c,au T cl e M a=some (.d5,c)/\M.isSome=true/\z=.ml j/\fr=false:=by rw[yu]at h;split at h;rename_i c o;split at h;rename_i q;simp only[aD,aG]at h;exact⟨c,o,q,h.1.symm,h.2.symm⟩;cases h;cases h
def SN(h:au T cl e M (.ix a b)=some (z,fr)):∃x c i j xs,au T cl e M a=some (x,c)/\au T cl e M b=some (.int i,j)/\items? M x=some xs/\0<=i/\xs[i.toNat]?=some z/\fr=false:=by rw[L1]at h;split at h;rename_i x c i j o q;split at h;rename_i xs r;split at h;rename_i s;simp only[bR,aG]at h;obtain⟨y,u,B,E⟩:=h;subst B;exact⟨x,c,i,j,xs,o,q,r,s,u,E.symm⟩;cases h;cases h;cases h
def Pc(h:au T cl e M (.Oe a b)=some (z,fr)):∃x c i j xs,au T cl e M a=some (x,c)/\au T cl e M b=some (.int i,j)/\items? M x=some xs/\0<=i/\z=.lst (xs.drop i.toNat)/\fr=true:=by rw[Ik]at h;split at h;rename_i x c i j o q;split at h;rename_i xs r;split at h;rename_i s;simp only[aD,aG]at h;exact⟨x,c,i,j,xs,o,q,r,s,h.1.symm,h.2.symm⟩;cases h;cases h;cases h
def Pe(h:au T cl e M (.D9 a b)=some (z,fr)):∃x c i j xs,au T cl e M a=some (x,c)/\au T cl e M b=some (.int i,j)/\items? M x=some xs/\0<=i/\z=.lst (xs.take i.toNat)/\fr=true:=by rw[Il]at h;split at h;rename_i x c i j o q;split at h;rename_i xs r;split at h;rename_i s;simp only[aD,aG]at h;exact⟨x,c,i,j,xs,o,q,r,s,h.1.symm,h.2.symm⟩;cases h;cases h;cases h
def SO(h:au T cl e M (.sl a b c)=some (z,fr)):∃x o i q j r xs,au T cl e M a=some (x,o)/\au T cl e M b=some (.int i,q)/\au T cl e M c=some (.int j,r)/\items? M x=some xs/\0<=i/\0<=j/\z=.lst ((xs.drop i.toNat).take (j.toNat-i.toNat))/\fr=true:=by rw[L3]at h;split at h;rename_i x o i q j r u y B;split at h;rename_i xs E;unfold xN at h;split at h;rename_i s;simp only[aD,aG]at h;exact⟨x,o,i,q,j,r,xs,u,y,B,E,s.1,s.2,h.1.symm,h.2.symm⟩;cases h;cases h;cases h
def sR(h:dt cl f as M=some (x,fr)):cl f as M=some (x,fr,M):=by unfold dt at h;split at h;rename_i y g o c;split at h;rename_i j;subst j;simp only[aD,aG]at h;obtain⟨rfl,rfl⟩:=h;exact c;cases h;cases h
def L8(h:au T cl e M (.call f as)=some (z,fr)):∃xs,ks T cl e M as=some xs/\cl f xs M=some (z,fr,M):=by rw[ro]at h;split at h;rename_i xs c;exact⟨xs,c,sR h⟩;cases h
def L9(h:au T cl e M (.aI f o as)=some (z,fr)):∃c xs,au T cl e M o=some (.d5,c)/\ks T cl e M as=some xs/\cl f (.d5::xs) M=some (z,fr,M):=by rw[Ec]at h;split at h;rename_i c xs j q;exact⟨c,xs,j,q,sR h⟩;cases h
def Kn(h:au T cl e M (.i0 i as)=some (z,fr)):∃g xs,e.get i=some g/\ks T cl e M as=some xs/\zC cl g xs M=some (z,fr,M):=by rw[BA]at h;split at h;rename_i g xs c j;refine⟨g,xs,c,j,?_⟩;unfold pH at h;split at h;exact sR h;exact sR h;cases h;cases h
def Pf(h:au T cl e M (.len a)=some (z,fr)):∃x c xs,au T cl e M a=some (x,c)/\items? M x=some xs/\z=.int xs.length/\fr=false:=by rw[Im]at h;split at h;rename_i x c j;simp only[bR,aG]at h;obtain⟨xs,o,q,r⟩:=h;exact⟨x,c,xs,j,o,q.symm,r.symm⟩;cases h
def IT{a:IE}{j:IE}{g:Int->Int}(o:au T cl e M j=(match au T cl e M a with
  |some (.int i,_)=>some (.int (g i),false)
  |_=>none)){z:SV}{fr:Bool}(h:au T cl e M j=some (z,fr)):∃i c,au T cl e M a=some (.int i,c)/\z=.int (g i)/\fr=false:=by
 rw[o]at h
 split at h
 rename_i i c q
 simp only[aD,aG]at h
 exact⟨i,c,q,h.1.symm,h.2.symm⟩
 cases h
def IU{a b:IE}{q:IE}{g:Int->Int->Int}(r:au T cl e M q=(match au T cl e M a,au T cl e M b with
  |some (.int i,_),some (.int j,_)=>some (.int (g i j),false)
  |_,_=>none)){z:SV}{fr:Bool}(h:au T cl e M q=some (z,fr)):∃i c j o,au T cl e M a=some (.int i,c)/\au T cl e M b=some (.int j,o)/\z=.int (g i j)/\fr=false:=by
 rw[r]at h
 split at h
 rename_i i c j o s u
 simp only[aD,aG]at h
 exact⟨i,c,j,o,s,u,h.1.symm,h.2.symm⟩
 cases h
def L_(h:au T cl e M (.list as)=some (z,fr)):∃xs,ks T cl e M as=some xs/\xs.length<=b6/\z=.lst xs/\fr=true:=by rw[Ei]at h;split at h;rename_i xs c;split at h;rename_i j;simp only[aD,aG]at h;exact⟨xs,c,j,h.1.symm,h.2.symm⟩;cases h;cases h
def Pg(h:au T cl e M (.tup as)=some (z,fr)):∃xs,ks T cl e M as=some xs/\xs.length<=b6/\z=.tup xs/\fr=false:=by rw[Iu]at h;split at h;rename_i xs c;split at h;rename_i j;simp only[aD,aG]at h;exact⟨xs,c,j,h.1.symm,h.2.symm⟩;cases h;cases h
def Gu(j:au T cl e M o=(match au T cl e M a with
  |some (.lst xs,_)=>((ints? xs).bind g).map λi=>(.int i,false)
  |_=>none))(h:au T cl e M o=some (z,fr)):∃xs c l i,au T cl e M a=some (.lst xs,c)/\ints? xs=some l/\g l=some i/\z=.int i/\fr=false:=by
 rw[j]at h
 split at h
 rename_i xs c q
 simp only[bR,FQ,aG]at h
 obtain⟨i,⟨l,r,s⟩,u,y⟩:=h
 exact⟨xs,c,l,i,q,r,s,u.symm,y.symm⟩
 cases h
def Ph(h:au T cl e M (.sum a)=some (z,fr)):∃xs c l,au T cl e M a=some (.lst xs,c)/\ints? xs=some l/\z=.int l.sum/\fr=false:=by rw[Ip]at h;split at h;rename_i xs c j;simp only[bR,aG]at h;obtain⟨l,o,q,r⟩:=h;exact⟨xs,c,l,j,o,q.symm,r.symm⟩;cases h
def Ko(h:au T cl e M (.index a b)=some (z,fr)):∃xs c i o l j,au T cl e M a=some (.lst xs,c)/\au T cl e M b=some (.int i,o)/\ints? xs=some l/\jW i l=some j/\z=.int (KB j)/\fr=false:=by rw[BB]at h;split at h;rename_i xs c i o q r;simp only[bR,FQ,aG]at h;obtain⟨j,⟨l,s,u⟩,y,B⟩:=h;exact⟨xs,c,i,o,l,j,q,r,s,u,y.symm,B.symm⟩;cases h
theorem vp:∀{l:List Int} {j:Nat},jW i l=some j->l[j]?=some i/\∀m z,m<j->l[m]?=some z->z≠i
 |[],j,h=>by simp[jW]at h
 |x::r,j,h=>by
  unfold jW at h;split at h;rename_i e;simp only[aD]at h;subst h;exact⟨by simp[e],λm z o=>absurd o (_A m)⟩;rename_i e;simp only[bR]at h;obtain⟨y,q,rfl⟩:=h;obtain⟨s,u⟩:=vp q;refine⟨by simpa using s,λm z o c=> ?_⟩;cases m with
  |zero=>simp at c;subst c;exact e
  |succ m=>exact u m z (by lia) (by simpa using c)
def Er(h:oK l=some i):i∈l/\∀a∈l,i<=a:=by
 cases l with
 |nil=>simp[oK]at h
 |cons x r=>
  simp only[oK,aD]at h;subst h;have o:∀(r:List Int) (x:Int),(r.foldl (λa b=>if b<a then b else a) x∈x::r)/\r.foldl (λa b=>if b<a then b else a) x<=x/\∀a∈r,r.foldl (λa b=>if b<a then b else a) x<=a:=by
   intro r;induction r with
   |nil=>intro x;simp
   |cons y r u=>
    intro x;obtain⟨q,j,s⟩:=u (if y<x then y else x);simp only[sD];refine⟨?_,?_,?_⟩;rcases aA.mp q with h|h;rw[h];split;simp;simp;simp[h];refine _Z j ?_;split<;>lia;intro a c;rcases aA.mp c with rfl|c;refine _Z j ?_;split<;>lia;exact s a c
  obtain⟨q,j,s⟩:=o r x;exact⟨q,λa c=>by rcases aA.mp c with rfl|c;exact j;exact s a c⟩
def cons_inv(h:ks T cl e M (.cons a r)=some zs):∃x c xs,au T cl e M a=some (x,c)/\ks T cl e M r=some xs/\zs=x::xs:=by rw[mW]at h;split at h;rename_i x c xs j o;simp only[aD]at h;exact⟨x,c,xs,j,o,h.symm⟩;cases h
def Ma(h:au T cl e M (.kq d a)=some (z,fr)):∃i c,au T cl e M a=some (.int i,c)/\z=(T.kq d i).elim .cw .fn/\fr=false:=by rw[Eh]at h;split at h;rename_i i c j;simp only[aD,aG]at h;exact⟨i,c,j,h.1.symm,h.2.symm⟩;cases h
def Pj(h:au T cl e M (.Gm d a)=some (z,fr)):∃i c l,au T cl e M a=some (.int i,c)/\T.Gm d i=some l/\z=.tup (l.map .int)/\fr=false:=by rw[Iq]at h;split at h;rename_i i c j;simp only[bR,aG]at h;obtain⟨l,o,q,r⟩:=h;exact⟨i,c,l,j,o,q.symm,r.symm⟩;cases h
def Pk(h:au T cl e M (.Kk d a)=some (z,fr)):∃i c f,au T cl e M a=some (.int i,c)/\0<=i/\T.Kk d i.toNat=some f/\z=.fn f/\fr=false:=by rw[Ir]at h;split at h;rename_i i c j;split at h;rename_i o;simp only[bR,aG]at h;obtain⟨f,q,r,s⟩:=h;exact⟨i,c,f,j,o,q,r.symm,s.symm⟩;cases h;cases h
def IV(h:au T cl e M (.inD a d)=some (z,fr)):∃i c,au T cl e M a=some (.int i,c)/\z=.bl (T.s_ d i)/\fr=false:=by rw[Ih]at h;split at h;rename_i i c j;simp only[aD,aG]at h;exact⟨i,c,j,h.1.symm,h.2.symm⟩;cases h
def zE(h:au T cl e M (.qh a d)=some (z,fr)):∃i c,au T cl e M a=some (.int i,c)/\z=.bl (!T.s_ d i)/\fr=false:=by rw[zD]at h;split at h;rename_i i c j;simp only[aD,aG]at h;exact⟨i,c,j,h.1.symm,h.2.symm⟩;cases h
def Pm(h:wF T cl e M (.seq a)=some rs):∃y c xs,au T cl e M a=some (y,c)/\(y=.lst xs\/y=.tup xs)/\rs=xs.map λx=>[x]:=by rw[k5]at h;split at h;rename_i xs c j;simp only[aD]at h;exact⟨_,c,xs,j,.inl rfl,h.symm⟩;rename_i xs c j;simp only[aD]at h;exact⟨_,c,xs,j,.inr rfl,h.symm⟩;cases h
def Mb(h:wF T cl e M (.qi a)=some rs):∃n c,au T cl e M a=some (.int n,c)/\n.natAbs<=b6/\rs=h_ 0 n.toNat 1:=by rw[i4]at h;split at h;rename_i n c j;split at h;rename_i o;simp only[aD]at h;exact⟨n,c,j,o,h.symm⟩;cases h;cases h
def Mc(h:wF T cl e M (.D_ a b)=some rs):∃i c j o,au T cl e M a=some (.int i,c)/\au T cl e M b=some (.int j,o)/\i.natAbs<=b6/\j.natAbs<=b6/\rs=h_ i (j-i).toNat 1:=by rw[i5]at h;split at h;rename_i i c j o r s;split at h;rename_i q;simp only[aD]at h;exact⟨i,c,j,o,r,s,q.1,q.2,h.symm⟩;cases h;cases h
def Md(h:wF T cl e M (.uk a b c)=some rs):∃i r j s o u,au T cl e M a=some (.int i,r)/\au T cl e M b=some (.int j,s)/\au T cl e M c=some (.int o,u)/\i.natAbs<=b6/\j.natAbs<=b6/\0<o/\o<=b6/\rs=h_ i ((j-i+o-1)/o).toNat o:=by rw[i6]at h;split at h;rename_i i r j s o u y B E;split at h;rename_i q;simp only[aD]at h;exact⟨i,r,j,s,o,u,y,B,E,q.1,q.2.1,q.2.2.1,q.2.2.2,h.symm⟩;cases h;cases h
def Me(h:wF T cl e M (.enum a)=some rs):∃xs c,au T cl e M a=some (.lst xs,c)/\rs=kx 0 xs:=by rw[i7]at h;split at h;rename_i xs c j;simp only[aD]at h;exact⟨xs,c,j,h.symm⟩;cases h
def Mf(h:wF T cl e M (.zip2 a b)=some rs):∃xs j c o,au T cl e M a=some (.lst xs,j)/\au T cl e M b=some (.lst c,o)/\rs=Gc (λx y=>[x,y]) xs c:=by rw[i8]at h;split at h;rename_i xs j c o q r;simp only[aD]at h;exact⟨xs,j,c,o,q,r,h.symm⟩;cases h
def Pn(h:wF T cl e M (.rev a)=some rs):∃xs c,au T cl e M a=some (.lst xs,c)/\rs=xs.reverse.map λx=>[x]:=by rw[k7]at h;split at h;rename_i xs c j;simp only[aD]at h;exact⟨xs,c,j,h.symm⟩;cases h
theorem BD{tg:gd}{body:Ev->gc->Option (Out)}(P:Nat->Ev->gc->Prop):∀(xs:List (lC)) (i:Nat) (e:Ev) (M:gc),P i e M->(∀j x e M,xs[j]?=some x->P (i+j) e M->tg.all e.free=true/\∃e' c,body (e.kE tg x) M=some (.nx e' c)/\P (i+j+1) e' c)->∃e' c,eC tg body xs e M=some (.nx e' c)/\P (i+xs.length) e' c
 |[],i,e,M,h0,_=>⟨e,M,rfl,h0⟩
 |x::r,i,e,M,h0,h=>by
  obtain⟨o,q,s,u,B⟩:=h 0 x e M rfl h0;obtain⟨e',c,E,G⟩:=BD P r (i+1) q s B λj y e M H J=>by have:=h (j+1) y e M (by simpa using H) (by rw[show i+(j+1)=i+1+j by lia];exact J);rw[show i+(j+1)+1=i+1+j+1 by lia]at this;exact this
  refine⟨e',c,?_,by rw[fJ,show i+(r.length+1)=i+1+r.length by lia];exact G⟩;simp only[eC,o,c6,u];exact E
def IW{tg:gd}{body:Ev->gc->Option (Out)}{xs:List (lC)}{e:Ev}{M:gc}(P:Nat->Ev->gc->Prop)(o:P 0 e M) (h:∀j x e M,xs[j]?=some x->P j e M->tg.all e.free=true/\∃e' c,body (e.kE tg x) M=some (.nx e' c)/\P (j+1) e' c):∃e' c,eC tg body xs e M=some (.nx e' c)/\P xs.length e' c:=by
 have:=BD P xs 0 e M o λj x e M q r=>by have:=h j x e M q (by simpa using r);simpa using this
 simpa using this
def fc{tg:gd}{body:Ev->gc->Option (Out)}{xs:List (lC)}{e:Ev}{M:gc}(P:Nat->Ev->Prop)(s:P 0 e) (h:∀j x e,xs[j]?=some x->P j e->tg.all e.free=true/\∃e',body (e.kE tg x) M=some (.nx e' M)/\P (j+1) e'):∃e',eC tg body xs e M=some (.nx e' M)/\P xs.length e':=by
 obtain⟨e',c,o,q,rfl⟩:=IW (M:=M) (λi e c=>P i e/\c=M) ⟨s,rfl⟩ λj x e c u r=>by obtain⟨y,B⟩:=r;subst B;obtain⟨o,e',q,E⟩:=h j x e u y;exact⟨o,e',_,q,E,rfl⟩
 exact⟨e',o,q⟩
theorem Es{c j o:Type}{f:j->Option o}{g:c->j}{h:c->o}:∀(xs:List c),(∀x∈xs,f (g x)=some (h x))->wD f (xs.map g)=some (xs.map h)
 |[],_=>rfl
 |x::r,q=>by simp only[bI,wD,q x (by simp),Es r λy s=>q y (by simp[s])];rfl
end Lw
namespace Lw
open PySem PySem.W L2
structure Zx where
 on:Bool
 pm:Addr
 dm:Addr
 pl:ML->Addr
noncomputable def Zx.ma(Z:Zx):oj:=if Z.on=true then [Z.pm,Z.pl .vec,Z.pl .Cw,Z.pl .D7]else []
structure Gx where
 K:Frag
 mg:qL
 CM:Addr
 CO:Addr
 nm:F->Str
 fa:F->Addr
 fd:F->FuncData
 ps:F->jR
 glob:F->Bool
 aI:F->Bool
 ko:F->Bool
 gn:Nat->Str
 dn:D->Str
 da:D->Addr
 Et:D->Bool
 tb:List (Addr×Pos×Str)
 cs:F->jR
 cq:F->Str
 Gv:F->v8->Value->Value->Value->FuncData
noncomputable def IX(o:Ord):List (Str×V):=[("sound",.bl o.sound),("operation",.int o.operation),("k",.int o.k),("n",.int o.n),("zeroing",.bl o.qg),("d",.int o.d),("a",.int o.a),("b",.int o.b),("g",.int o.g),("z",.int o.z),("m",.int o.m)]
noncomputable def tR(Z:Zx)(f:Int):List (Str×V):=[("vectors",.ref (Z.pl .vec)),("predicates",.ref (Z.pl .Cw)),("scalars",.ref (Z.pl .D7)),("flags",.int f)]
noncomputable def Rc:OA->Str
 |.sound=>"sound"|.operation=>"operation"|.k=>"k"|.n=>"n"|.qg=>"zeroing"|.d=>"d"|.a=>"a"|.b=>"b"|.g=>"g"|.z=>"z"|.m=>"m"
noncomputable def Of:ML->Str
 |.vec=>"vectors"|.Cw=>"predicates"|.D7=>"scalars"
def pI(G:Gx)(B:oj)(H:Hp)(a:Addr)(f:F)(vs:List V):Prop:=G.ko f=true/\∃h ct doc j,H a=some (wA a (G.Gv f h ct doc (.ref j)))/\H j=some (tL j (G.cq f))/\lN H (G.cs f) h vs/\a∉B/\j∉B/\∀x c,(x,c)∈h->c∉B
def NT(o:HO):Prop:=∀ps,o≠.uW ps
def dk(xs):NT (.lst xs):=λ_ h=>nomatch h
def Mg(xs):NT (.tup xs):=λ_ h=>nomatch h
def rA(C c)(fs):NT (.ins C c fs):=λ_ h=>nomatch h
def zF(φ):NT (.ext φ):=λ_ h=>nomatch h
def zG(o)(u):NT (.pj o u):=λ_ h=>nomatch h
mutual
def Rep(G:Gx)(Z:Zx)(B:oj)(H:Hp):SV->V->Prop
 |.cw,v=>v=.cw
 |.bl b,v=>v=.bl b
 |.int i,v=>v=.int i
 |.lst xs,v=>∃a vs,v=.ref a/\a∉B/\H a=some (.lst vs)/\az G Z B H xs vs
 |.tup xs,v=>∃a vs,v=.ref a/\((a∉B/\H a=some (.tup vs))\/qM G.K (λ_=>none) a vs)/\az G Z B H xs vs
 |.fn f,v=>v=.ref (G.fa f)/\G.glob f=true
 |.ko f cs,v=>∃a vs,v=.ref a/\pI G B H a f vs/\az G Z B H cs vs
 |.ord o,v=>∃a c,v=.ref a/\a∉B/\H a=some (.ins G.CO c (IX o))
 |.d5,v=>v=.ref Z.pm/\Z.on=true
 |.ml j,v=>v=.ref (Z.pl j)/\Z.on=true
def az(G:Gx)(Z:Zx)(B:oj)(H:Hp):lC->List V->Prop
 |[],vs=>vs=[]
 |x::xs,vs=>∃v r,vs=v::r/\Rep G Z B H x v/\az G Z B H xs r
end
def m8(B c:oj)(H h:Hp):Prop:=∀b o,H b=some o->NT o->b∉B->h b=some o/\b∉c
theorem lN.cell(k:lN H cs j vs)(h:(x,c)∈j):∃o u,H c=some (.pj o u):=by obtain⟨i,r⟩:=wa (k.only x c h);obtain⟨y,v,o,q,_,s⟩:=k.has i x r;rw[k.uniq x c h]at q;cases q;exact⟨o,_,s⟩
theorem pI.keep(k:m8 B L H M)(h:pI G B H a f vs):pI G L M a f vs:=by obtain⟨O,r,ct,doc,s,P,Q,j,U,X,y⟩:=h;obtain⟨Y,Z⟩:=k a _ P (zF _) U;obtain⟨T,C⟩:=k s _ Q (zF _) X;refine⟨O,r,ct,doc,s,Y,T,⟨j.inj,j.uniq,j.only,j.len,λi x e=> ?_⟩,Z,C,λx c E=> ?_⟩;obtain⟨c,v,o,J,F,D⟩:=j.has i x e;exact⟨c,v,o,J,F,(k c _ D (zG _ _) (y x c (eJ J))).1⟩;obtain⟨o,u,q⟩:=lN.cell j E;exact(k c _ q (zG _ _) (y x c E)).2
mutual
theorem Rep.keep(k:m8 B E H J):∀{x:SV} {v:V},Rep G Z B H x v->Rep G Z E J x v
 |.cw,_,h=>by simpa [Rep] using h
 |.bl b,_,h=>by simpa [Rep] using h
 |.int i,_,h=>by simpa [Rep] using h
 |.lst xs,v,h=>by simp only[Rep]at h|-;obtain⟨a,vs,e,q,s,r⟩:=h;obtain⟨u,y⟩:=k a _ s (dk _) q;exact⟨a,vs,e,y,u,az.keep k r⟩
 |.tup xs,v,h=>by simp only[Rep]at h|-;obtain⟨a,vs,e,c,r⟩:=h;refine⟨a,vs,e,?_,az.keep k r⟩;rcases c with⟨q,s⟩|c;obtain⟨u,y⟩:=k a _ s (Mg _) q;exact .inl ⟨y,u⟩;exact .inr c
 |.fn f,_,h=>by simpa [Rep] using h
 |.ko f cs,v,h=>by simp only[Rep]at h|-;obtain⟨a,vs,e,c,r⟩:=h;exact⟨a,vs,e,pI.keep k c,az.keep k r⟩
 |.ord o,v,h=>by simp only[Rep]at h|-;obtain⟨a,L,e,q,s⟩:=h;obtain⟨u,y⟩:=k a _ s (rA _ _ _) q;exact⟨a,L,e,y,u⟩
 |.d5,_,h=>by simpa [Rep] using h
 |.ml j,_,h=>by simpa [Rep] using h
theorem az.keep(k:m8 B c H j):∀{xs:lC} {vs:List V},az G Z B H xs vs->az G Z c j xs vs
 |[],_,h=>by simpa [az] using h
 |x::xs,vs,h=>by simp only[az]at h|-;obtain⟨v,r,e,o,q⟩:=h;exact⟨v,r,e,Rep.keep k o,az.keep k q⟩
end
def TabAt(G:Gx)(H:Hp):Prop:=∀t∈G.tb,J_ H t.1 t.2.1 t.2.2
structure Sm(G:Gx)(H H':Hp):Prop where
 kp:∀b o,H b=some o->NT o->H' b=some o
 tb:∀b ps,H b=some (.uW ps)->∃ps',H' b=some (.uW ps')
 ta:TabAt G H->TabAt G H'
def Sm.refl(H):Sm G H H:=⟨λ_ _ h _=>h,λ_ ps h=>⟨ps,h⟩,id⟩
def Sm.trans(a:Sm G H H1)(b:Sm G H1 j):Sm G H j:=⟨λc o h n=>b.kp c o (a.kp c o h n) n,λc ps h=>let ⟨ps',h'⟩:=a.tb c ps h;b.tb c ps' h',λh=>b.ta (a.ta h)⟩
def Sm.free(a:Sm G H c)(h:c l=none):H l=none:=by
 cases q:H l with
 |none=>rfl
 |some o=>
  cases o with
  |uW ps=>obtain⟨_,e⟩:=a.tb l ps q;rw[e]at h;cases h
  |_=>rw[a.kp l _ q (λ_ z=>nomatch z)]at h;cases h
def _root_.L2.kn.sm(s:kn H c):Sm G H c:=⟨λb o h _=>s b o h,λb ps h=>⟨ps,s b _ h⟩,λh t j=>(h t j).imp (λe=>s _ _ e) λ⟨q,e1,e2⟩=>⟨q,s _ _ e1,s _ _ e2⟩⟩
def m8.same(s:Sm G H c):m8 B B H c:=λb o h n j=>⟨s.kp b o h n,j⟩
def Rep.same(s:Sm G H c)(r:Rep G Z B H x v):Rep G Z B c x v:=r.keep (m8.same s)
def az.same(s:Sm G H c)(r:az G Z B H xs vs):az G Z B c xs vs:=r.keep (m8.same s)
theorem az.length:∀{xs:lC} {vs:List V},az G Z B H xs vs->xs.length=vs.length
 |[],_,h=>by simp only[az]at h;subst h;rfl
 |x::xs,vs,h=>by simp only[az]at h;obtain⟨v,r,e,_,c⟩:=h;subst e;simp[az.length c]
theorem az.get:∀{xs:lC} {vs:List V} {i:Nat} {x:SV},az G Z B H xs vs->xs[i]?=some x->∃v,vs[i]?=some v/\Rep G Z B H x v
 |[],_,_,_,_,e=>by simp at e
 |y::xs,vs,i,x,h,e=>by
  simp only[az]at h;obtain⟨v,r,c,j,o⟩:=h;subst c;cases i with
  |zero=>simp at e;subst e;exact⟨v,rfl,j⟩
  |succ i=>simpa using az.get o (by simpa using e)
theorem az.append:∀{xs c:lC} {vs ws:List V},az G Z B H xs vs->az G Z B H c ws->az G Z B H (xs++c) (vs++ws)
 |[],_,_,_,h,k=>by simp only[az]at h;subst h;simpa using k
 |x::xs,c,vs,ws,h,k=>by simp only[az]at h;obtain⟨v,r,e,j,o⟩:=h;subst e;simp only[uc,az];exact⟨v,r++ws,rfl,j,az.append o k⟩
theorem az.drop:∀{xs:lC} {vs:List V} (n),az G Z B H xs vs->az G Z B H (xs.drop n) (vs.drop n)
 |_,_,0,h=>by simpa using h
 |[],_,n+1,h=>by simp only[az]at h;subst h;simp[az]
 |x::xs,vs,n+1,h=>by simp only[az]at h;obtain⟨v,r,e,j,c⟩:=h;subst e;simpa using az.drop n c
theorem az.take:∀{xs:lC} {vs:List V} (n),az G Z B H xs vs->az G Z B H (xs.take n) (vs.take n)
 |_,_,0,h=>by simp[az]
 |[],_,n+1,h=>by simp only[az]at h;subst h;simp[az]
 |x::xs,vs,n+1,h=>by simp only[az]at h;obtain⟨v,r,e,c,j⟩:=h;subst e;simp only[List.take_succ_cons,az];exact⟨v,_,rfl,c,az.take n j⟩
theorem az.rep(h:az G Z B H xs vs):∀n:Nat,az G Z B H (Da n xs).flatten (Da n vs).flatten
 |0=>by simp[az]
 |n+1=>by rw[ra,ra,wk,wk];exact h.append (h.rep n)
theorem az.set(c:Rep G Z B H x v):∀{xs:lC} {vs:List V} (i),az G Z B H xs vs->az G Z B H (xs.set i x) (vs.set i v)
 |[],_,i,h=>by simp only[az]at h;subst h;simp[az]
 |y::xs,vs,i,h=>by
  simp only[az]at h;obtain⟨u,r,e,o,j⟩:=h;subst e;cases i with
  |zero=>simp only[Sc,az];exact⟨v,r,rfl,c,j⟩
  |succ i=>simp only[ss,az];exact⟨u,_,rfl,o,az.set c i j⟩
theorem az.ints:∀(l:List Int),az G Z B H (l.map SV.int:lC) (l.map V.int)
 |[]=>by simp[az]
 |i::l=>by simp only[bI,az];exact⟨.int i,_,rfl,by simp[Rep],az.ints l⟩
theorem az.mF:∀{xs:lC} {l:List Int} {vs:List V},ints? xs=some l->az G Z B H xs vs->vs=l.map V.int
 |[],l,vs,e,h=>by simp only[ints?,aD]at e;simp only[az]at h;subst e;subst h;rfl
 |x::xs,l,vs,e,h=>by
  simp only[az]at h;obtain⟨v,r,j,o,q⟩:=h;subst j;cases x with
  |int i=>
   simp only[ints?,bR]at e;obtain⟨y,s,u⟩:=e;subst u;have c:v=.int i:=by simpa [Rep] using o
   rw[c,az.mF s q];rfl
  |_=>simp[ints?]at e
structure Gw(G:Gx)(Z:Zx)(H:Hp)(m:AL):Prop where
 ob:H Z.pm=some (.ins G.CM Z.dm (tR Z m.f))
 ls:∀j,H (Z.pl j)=some (.lst ((m.get j).map V.int))
 nv:Z.pl .vec≠Z.pl .Cw
 np:Z.pl .Cw≠Z.pl .D7
 ns:Z.pl .vec≠Z.pl .D7
def lD(G:Gx)(Z:Zx)(H:Hp)(M:gc):Prop:=(Z.on=true/\∃m,M=some m/\Gw G Z H m)\/(Z.on=false/\M=none)
def lD.same(s:Sm G H c)(r:lD G Z H M):lD G Z c M:=by rcases r with⟨h,m,e,q⟩|r;exact .inl ⟨h,m,e,s.kp _ _ q.ob (rA _ _ _),λj=>s.kp _ _ (q.ls j) (dk _),q.nv,q.np,q.ns⟩;exact .inr r
def lD.get(r:lD G Z H M)(e:M=some m):Z.on=true/\Gw G Z H m:=by rcases r with⟨h,c,e',q⟩|⟨_,e'⟩;rw[e]at e';cases e';exact⟨h,q⟩;rw[e]at e';cases e'
structure m9(G:Gx)(Z:Zx)(H H':Hp):Prop where
 kp:∀b o,H b=some o->NT o->b∉Z.ma->H' b=some o
 tb:∀b ps,H b=some (.uW ps)->∃ps',H' b=some (.uW ps')
 ta:TabAt G H->TabAt G H'
def m9.refl(H):m9 G Z H H:=⟨λ_ _ h _ _=>h,λ_ ps h=>⟨ps,h⟩,id⟩
def m9.trans(a:m9 G Z H H1)(b:m9 G Z H1 j):m9 G Z H j:=⟨λc o h n m=>b.kp c o (a.kp c o h n m) n m,λc ps h=>let ⟨ps',h'⟩:=a.tb c ps h;b.tb c ps' h',λh=>b.ta (a.ta h)⟩
def Sm.Wf(s:Sm G H c):m9 G Z H c:=⟨λb o h n _=>s.kp b o h n,s.tb,s.ta⟩
def m9.same(k:m9 G Z H u)(r:lD G Z H M)(y:lD G Z u M):Sm G H u:=⟨λb o h n=>by rcases r with⟨c,m,e,q⟩|⟨c,_⟩;obtain⟨_,j⟩:=y.get e;by_cases s:b∈Z.ma;simp only[Zx.ma,c,c6,aA,lK,jP]at s;rcases s with rfl|rfl|rfl|rfl;rw[q.ob]at h;cases h;exact j.ob;rw[q.ls]at h;cases h;exact j.ls _;rw[q.ls]at h;cases h;exact j.ls _;rw[q.ls]at h;cases h;exact j.ls _;exact k.kp b o h n s;exact k.kp b o h n (by simp[Zx.ma,c]),k.tb,k.ta⟩
def Std(H:Hp)(b:Addr):Prop:=∃o,H b=some o/\∀φ,o≠.ext φ
def Std.lst(h:H b=some (.lst xs)):Std H b:=⟨_,h,λ_ z=>nomatch z⟩
def Std.ins(h:H b=some (.ins C d fs)):Std H b:=⟨_,h,λ_ z=>nomatch z⟩
structure Rel(G:Gx)(Z:Zx)(B0:oj)(H0:Hp)(B:oj)(σ:L2.St)(e:Ev)(H:Hp)(M:gc):Prop where
 len:σ.length=e.vals.length
 xO:∀b∈B0,Std H b
 ext:m9 G Z H0 H
 tab:TabAt G H
 i_:lD G Z H M
 zH:∀b∈Z.ma,b∈B0
 val:∀i x,e.get i=some x->∃v,σ[i]?=some (some v)/\Rep G Z B H x v
 no:e.own=none->B=B0
 on:∀i xs,e.own=some (i,xs)->e.get i=none
 ow:∀i xs,e.own=some (i,xs)->∃a vs,B=a::B0/\σ[i]?=some (some (.ref a))/\a∉B0/\H0 a=none/\H a=some (.lst vs)/\az G Z B H xs vs
def _root_.L2.HO.BE(o):NT o\/∃ps,o=.uW ps:=by
 cases o with
 |uW ps=>exact .inr ⟨ps,rfl⟩
 |_=>exact .inl λ_ h=>nomatch h
def Sm.xO(s:Sm G H c)(h:Std H b):Std c b:=by obtain⟨o,h,j⟩:=h;rcases o.BE with n|⟨ps,rfl⟩;exact⟨o,s.kp _ _ h n,j⟩;obtain⟨q,e⟩:=s.tb _ _ h;exact⟨_,e,λ_ z=>nomatch z⟩
def Rel.same(r:Rel G Z B0 c B σ e H M)(s:Sm G H j):Rel G Z B0 c B σ e j M where
 len:=r.len
 xO:=λb o=>s.xO (r.xO b o)
 ext:=r.ext.trans s.Wf
 tab:=s.ta r.tab
 i_:=r.i_.same s
 zH:=r.zH
 val:=λi x h=>let ⟨v,h1,h2⟩:=r.val i x h;⟨v,h1,h2.same s⟩
 no:=r.no
 on:=r.on
 ow:=λi xs h=>let ⟨a,vs,h1,h2,h3,h4,h5,h6⟩:=r.ow i xs h;⟨a,vs,h1,h2,h3,h4,s.kp _ _ h5 (dk _),h6.same s⟩
def Rel.Kp(r:Rel G Z B0 q B σ e H M):∀b∈B,Std H b:=by
 intro b c;cases h:e.own with
 |none=>rw[r.no h]at c;exact r.xO b c
 |some p=>
  obtain⟨i,xs⟩:=p;obtain⟨a,vs,j,_,_,_,o,_⟩:=r.ow i xs h;rw[j]at c;rcases aA.mp c with rfl|c;exact Std.lst o;exact r.xO b c
def Rel.fresh(r:Rel G Z B0 q B σ e H M)(c:H p=none):p∉B:=λj=>by obtain⟨o,h,_⟩:=r.Kp p j;rw[c]at h;cases h
def _root_.L2.kn.new(c:H p=none):kn H (upd H p o):=λb u h=>by rw[ao (aE h c)];exact h
inductive SpI(G:Gx)(cl:D8)(f:F)(vs:List V)(H:Hp)(Q:VK):Prop
 |mk (len:vs.length=(G.ps f).length) (Z:Zx) (B:oj) (xs:lC) (M:gc) (x:SV) (fr:Bool) (M':gc) (hB:∀b∈B,Std H b) (hZ:∀b∈Z.ma,b∈B) (r:az G Z B H xs vs) (hm:lD G Z H M) (ht:TabAt G H) (hc:cl f xs M=some (x,fr,M'))
  (q:∀v H',m9 G Z H H'->Rep G Z B H' x v->lD G Z H' M'->(fr=true->∃a,v=.ref a/\H a=none)->Q v H'):SpI G cl f vs H Q
def Gy(G:Gx)(c:D8)(f:F):Sp:=λvs H Q _=>SpI G c f vs H Q
structure Mo(G:Gx)(T:pG)(cl:D8)(gv:Nat->xu)(k:Nat)(X:Cx):Prop where
 K:X.K=G.K
 mg:X.mg=G.mg
 calm:X.calm=true
 room:gH k X.A
 nd:X.N.Nodup
 SQ:∀f,G.glob f=true->X.mg (G.nm f)=some (.ref (G.fa f))/\keepIn X.K (.ref (G.fa f))=true/\(G.nm f=="__debug__")=false
 ar:∀f xs M r,cl f xs M=some r->G.glob f=true\/G.aI f=true\/G.ko f=true->xs.length=(G.ps f).length
 Mh:∀f,G.glob f=true\/G.aI f=true->nT X.prog X.w X.K X.mg X.base ui k (G.fa f) (G.fd f) (G.ps f) (Gy G cl f)/\Binds X.K (G.fd f) (G.ps f) []
 met:∀f,G.aI f=true->Meth X.K G.CM (G.nm f) (G.fa f)
 Yx:∀f (Z:Zx) (i:Int),G.aI f=true->(tR Z i).lookup (G.nm f)=none
 Eu:DF X.K G.CM
 CD:DF X.K G.CO
 Lk:∀j,gW X.K G.CM (Of j)
 Rf:gW X.K G.CM "flags"
 CF:∀a,gW X.K G.CO (Rc a)
 Wg:∀f,G.ko f=true->∀(A:Around) (outer:List Env) (s:Shared) (H:Hp) (us:TyJ) (vs cvs:List V) (a:Addr) (Q:VK),gH k A->uf X.prog X.w X.K X.mg X.base A outer s H->pI G [] H a f cvs->Vals vs us->Gy G cl f (vs++cvs) H Q E0->
  codeAny (model X.prog X.w) A (.call (.ref a) ⟨us,[]⟩) (CR ui outer X.prog X.w H s Q E0) s
 gi:∀n c,gv n=some c->(∃t,X.mg (G.gn n)=some (.int c t))/\(G.gn n=="__debug__")=false
def _root_.L2.PE.weak(h:PE X e t)(w:∀σ H Q,t' σ H Q->t σ H Q):PE X e t':=λpins s σ H Q I q=>h pins s σ H Q I (w σ H Q q)
def _root_.L2.PT.weak(h:PT X e t)(w:∀σ H Q,t' σ H Q->t σ H Q):PT X e t':=λpins s σ H Q I q=>h pins s σ H Q I (w σ H Q q)
def _root_.L2.PA.weak(h:PA X e t)(w:∀σ H Q,t' σ H Q->t σ H Q):PA X e t':=λp pins s σ H Q I q=>h p pins s σ H Q I (w σ H Q q)
def _root_.L2.PI.weak(h:PI X tg e t)(w:∀σ H Q,t' σ H Q->t σ H Q):PI X tg e t':=λpins s σ H Q I q=>h pins s σ H Q I (w σ H Q q)
def Wh(H:Hp)(v:V):Prop:=∃a,v=.ref a/\H a=none
section
variable (G T cl)
inductive EvI(ir:IE)(σ:L2.St)(H:Hp)(Q:VK):Prop
 |mk (Z:Zx) (B0:oj) (H0:Hp) (B:oj) (e:Ev) (M:gc) (x:SV) (fr:Bool) (R:Rel G Z B0 H0 B σ e H M) (h:au T cl e M ir=some (x,fr)) (q:∀v H',Sm G H H'->Rep G Z B H' x v->(fr=true->Wh H v)->Q v H'):EvI ir σ H Q
def tI(c:IE):TE:=EvI G T cl c
inductive EvT(ir:IE)(σ:L2.St)(H:Hp)(Q:Bool->Hp->Prop):Prop
 |mk (Z:Zx) (B0:oj) (H0:Hp) (B:oj) (e:Ev) (M:gc) (x:SV) (fr b:Bool) (R:Rel G Z B0 H0 B σ e H M) (h:au T cl e M ir=some (x,fr)) (ht:truth x=some b) (q:∀H',Sm G H H'->Q b H'):EvT ir σ H Q
def tT(c:IE):TT:=EvT G T cl c
inductive EvA(ir:IE)(σ:L2.St)(H:Hp)(Q:List V->Hp->Prop):Prop
 |mk (Z:Zx) (B0:oj) (H0:Hp) (B:oj) (e:Ev) (M:gc) (xs:lC) (R:Rel G Z B0 H0 B σ e H M) (h:ks T cl e M ir=some xs) (q:∀vs H',Sm G H H'->az G Z B H' xs vs->Q vs H'):EvA ir σ H Q
def Kq(c:IE):TA:=EvA G T cl c
end
def Zq(o:X.N[i]?=some x)(r:DP X.env.scope x)(s:(x=="__debug__")=false)(c:(x=="__classdict__")=false):PE X (.Name x pos) (tI G T cl (.v i)):=(rf o r s c).weak λσ H Q j=>by obtain⟨Z,L,O,B,e,M,x,fr,R,h,q⟩:=j;simp only[qP,eI,bR,aG]at h;obtain⟨y,u,rfl,rfl⟩:=h;obtain⟨v,E,J⟩:=R.val i y u;exact⟨v,E,q v H (Sm.refl H) J (by simp)⟩
def Wi:PE X (.Constant (.int c) j pos) (tI G T cl (.int c)):=wt.weak λσ H Q o=>by obtain⟨Z,r,s,B,e,M,x,fr,R,h,q⟩:=o;simp only[eI]at h;obtain⟨rfl,rfl⟩:=h;exact q _ H (Sm.refl H) (by simp[Rep]) (by simp)
def Zr:PE X (.Constant (.bool c) j pos) (tI G T cl (.bl c)):=Vz.weak λσ H Q o=>by obtain⟨Z,r,s,B,e,M,x,fr,R,h,q⟩:=o;simp only[eI,Gp]at h;obtain⟨rfl,rfl⟩:=h;exact q _ H (Sm.refl H) (by simp[Rep]) (by simp)
def Wj:PE X (.Constant .none j pos) (tI G T cl .cw):=RN.weak λσ H Q c=>by obtain⟨Z,o,r,B,e,M,x,fr,R,h,q⟩:=c;simp only[eI,CA]at h;obtain⟨rfl,rfl⟩:=h;exact q _ H (Sm.refl H) (by simp[Rep]) (by simp)
def SR(m:Mo G T cl gv k X)(o:gv n=some c)(r:Gl X (G.gn n)):PE X (.Name (G.gn n) pos) (tI G T cl (.uj n c)):=let ⟨⟨t,h1⟩,h2⟩:=m.gi n c o
 (Ci (v:=.int c) r h1 ⟨t,rfl⟩ h2).weak λσ H Q j=>by obtain⟨Z,s,u,B,e,M,x,fr,R,h,q⟩:=j;simp only[eI,vm]at h;obtain⟨rfl,rfl⟩:=h;exact q _ H (Sm.refl H) (by simp[Rep]) (by simp)
def Zs(m:Mo G T cl gv k X)(j:G.glob f=true)(o:Gl X (G.nm f)):PE X (.Name (G.nm f) pos) (tI G T cl (.fn f)):=let ⟨h1,h2,h3⟩:=m.SQ f j
 (Ci (v:=.ref (G.fa f)) o h1 rfl h3).weak λσ H Q c=>by obtain⟨Z,r,s,B,e,M,x,fr,R,h,q⟩:=c;simp only[eI,Gr]at h;obtain⟨rfl,rfl⟩:=h;exact q _ H (Sm.refl H) (by simp[Rep,j]) (by simp)
def two(R:Rel G Z B0 j B σ e H M) (s:au T cl e M a=some (x,f1))(u:au T cl e M b=some (y,f2))(h:∀v w c,Sm G H c->Rep G Z B c x v->Rep G Z B c y w->r v w c Q):OF r (tI G T cl a) (tI G T cl b) σ H Q:=⟨Z,B0,j,B,e,M,x,f1,R,s,λv L o E _=>⟨Z,B0,j,B,e,M,y,f2,R.same o,u,λw c q J _=>h v w c (o.trans q) (E.same q) J⟩⟩
noncomputable def Ew:Gk->Operator
 |.add=>.Add|.sub=>.Sub|.mul=>.Mult|.fdiv=>.FloorDiv|.mod=>.Mod|.shl=>.LShift|.shr=>.RShift|.and=>.BitAnd|.or=>.BitOr|.xor=>.BitXor
def yx(i j):Builtin.bitAnd i j=AS i j:=by
 unfold Builtin.bitAnd;cases i with
 |ofNat a=>
  cases j with
  |ofNat b=>simp[AS]
  |negSucc b=>
   have e:(Builtin.bitNot (P6 b)).toNat=b:=by unfold Builtin.bitNot;omega
   simp[AS,e]
 |negSucc a=>
  have c:(Builtin.bitNot (P6 a)).toNat=a:=by unfold Builtin.bitNot;omega
  cases j with
  |ofNat b=>simp[AS,c]
  |negSucc b=>
   have e:(Builtin.bitNot (P6 b)).toNat=b:=by unfold Builtin.bitNot;omega
   simp[AS,c,lB,Builtin.bitNot]
def GA(i j):Builtin.bitOr i j=Vk i j:=by unfold Builtin.bitOr Vk;rw[yx];rfl
def IY(i j):Builtin.bitXor i j=LY i j:=by unfold Builtin.bitXor LY;rw[yx,GA]
def Po:lp X (binaryOp .LShift) (rI (λi j=>0<=j/\j<=100000/\i.natAbs<2^200) λi j=>.int (i*2^j.toNat)):=Ob λi j _ _ _ _ _ c q=>by
 refine PyProof.Rows.lshift_int c.1 ?_ q;have h:Builtin.Int.intBits i<=200:=by
  unfold Builtin.Int.intBits;split;omega;rename_i o;have r:i.natAbs≠0:=by intro e;exact o (by simpa using Int.natAbs_eq_zero.mp e)
  have:=(cr r).mpr c.2.2;omega
 have:=c.2.1;have e:(2)^27=134217728:=by decide
 omega
def Mi:lp X (inplaceOp .LShift) (rI (λi j=>0<=j/\j<=100000/\i.natAbs<2^200) λi j=>.int (i*2^j.toNat)):=Ob λi j _ _ _ _ _ c q=>by
 refine PyProof.Rows.ilshift_int c.1 ?_ q;have h:Builtin.Int.intBits i<=200:=by
  unfold Builtin.Int.intBits;split;omega;rename_i o;have r:i.natAbs≠0:=by intro e;exact o (by simpa using Int.natAbs_eq_zero.mp e)
  have:=(cr r).mpr c.2.2;omega
 have:=c.2.1;have e:(2)^27=134217728:=by decide
 omega
def rB(o:Gk):R2:=λx y H Q=>∃i j r,x=.int i/\y=.int j/\binI o i j=some r/\Q (.int r) H
def _root_.L2.lp.weak(h:lp X f r)(w:∀x y H Q,c x y H Q->r x y H Q):lp X f c:=λpins s σ H x y v u Q I j o q=>h pins s σ H x y v u Q I j o (w _ _ _ _ q)
def gU{f:Value->Value->Sem Value}{C:Int->Int->Prop}{g:Int->Int->Int}{o:Gk}(h:lp X f (rI C λi j=>.int (g i j)))(w:∀i j r,binI o i j=some r->C i j/\g i j=r):lp X f (rB o):=lp.weak h λx y H Q c=>by obtain⟨i,j,r,s,u,B,q⟩:=c;obtain⟨E,G⟩:=w i j r B;exact⟨i,j,s,u,E,by show Q (.int (g i j)) H;rw[G];exact q⟩
def fq{f:Value->Value->Sem Value}{g:Int->Int->Int}{o:Gk}(h:lp X f (DV λi j=>.int (g i j)))(w:∀i j r,binI o i j=some r->g i j=r):lp X f (rB o):=lp.weak h λx y H Q ⟨i,j,r,ex,ey,hb,q⟩=>⟨i,j,ex,ey,by show Q (.int (g i j)) H;rw[w i j r hb];exact q⟩
def Mj(h:(i.natAbs<2^64)\/(j.natAbs<2^64)):JZ i j:=by
 unfold JZ;have e:(2)^64=18446744073709551616:=by decide
 have c:2^64=18446744073709551616:=by decide
 omega
theorem Pq:∀o:Gk,lp X (binaryOp (Ew o)) (rB o)
 |.add=>fq R1 λi j r h=>by simpa [binI] using h
 |.sub=>fq R6 λi j r h=>by simpa [binI] using h
 |.mul=>gU R7 λi j r h=>by simp only[binI]at h;split at h;rename_i c;exact⟨Mj c,by simpa using h⟩;cases h
 |.fdiv=>gU HG λi j r h=>by simp only[binI]at h;split at h;rename_i c;exact⟨c,by simpa using h⟩;cases h
 |.mod=>gU R8 λi j r h=>by simp only[binI]at h;split at h;rename_i c;exact⟨c,by simpa using h⟩;cases h
 |.shl=>gU Po λi j r h=>by simp only[binI]at h;split at h;rename_i c;exact⟨c,by simpa using h⟩;cases h
 |.shr=>gU R9 λi j r h=>by simp only[binI]at h;split at h;rename_i c;exact⟨c,by simpa using h⟩;cases h
 |.and=>fq R_ λi j r h=>by rw[yx];simpa [binI] using h
 |.or=>fq VP λi j r h=>by rw[GA];simpa [binI] using h
 |.xor=>fq Sa λi j r h=>by rw[IY];simpa [binI] using h
theorem Ml:∀o:Gk,lp X (inplaceOp (Ew o)) (rB o)
 |.add=>fq OH λi j r h=>by simpa [binI] using h
 |.sub=>fq OI λi j r h=>by simpa [binI] using h
 |.mul=>gU OJ λi j r h=>by simp only[binI]at h;split at h;rename_i c;exact⟨Mj c,by simpa using h⟩;cases h
 |.fdiv=>gU LB λi j r h=>by simp only[binI]at h;split at h;rename_i c;exact⟨c,by simpa using h⟩;cases h
 |.mod=>gU OK λi j r h=>by simp only[binI]at h;split at h;rename_i c;exact⟨c,by simpa using h⟩;cases h
 |.shl=>gU Mi λi j r h=>by simp only[binI]at h;split at h;rename_i c;exact⟨c,by simpa using h⟩;cases h
 |.shr=>gU OL λi j r h=>by simp only[binI]at h;split at h;rename_i c;exact⟨c,by simpa using h⟩;cases h
 |.and=>fq OM λi j r h=>by rw[yx];simpa [binI] using h
 |.or=>fq Sb λi j r h=>by rw[GA];simpa [binI] using h
 |.xor=>fq ON λi j r h=>by rw[IY];simpa [binI] using h
def vq:b6<=sizeLine:=by rw[oh];decide
def Zt(o:Gk):R2:=λx y H Q=>rB o x y H Q\/(o=.add/\Sr x y H Q)\/(o=.mul/\V7 x y H Q)
def SS(o):lp X (binaryOp (Ew o)) (Zt o):=λpins s σ H x y v u Q I c h q=>by rcases q with q|⟨rfl,q⟩|⟨rfl,q⟩;exact Pq o pins s σ H x y v u Q I c h q;exact uh pins s σ H x y v u Q I c h q;exact Ss pins s σ H x y v u Q I c h q
def Sm.lay(s:Sm G H H1)(c:H1 p=none):Sm G H (upd H1 p o):=s.trans (kn.new c).sm
def sS(R:Rel G Z B0 h B σ e H M)(s:Sm G H H1)(c:H1 p=none)(r:az G Z B H1 xs vs):Rep G Z B (upd H1 p (.lst vs)) (.lst xs) (.ref p):=by simp only[Rep];exact⟨p,vs,rfl,R.fresh (s.free c),aC,r.same (kn.new c).sm⟩
def Wl(D:PE X ea (tI G T cl a))(V:PE X eb (tI G T cl b)):PE X (.BinOp ea (Ew o) eb pos) (tI G T cl (.bin o a b)):=(xx (SS o) D V).weak λσ H Q L=>by
  obtain⟨Z,g,k,B,e,M,x,fr,R,h,q⟩:=L;obtain⟨l,m,n,t,I,S,A⟩:=O8 h;refine two R I S λv w K s y E=> ?_;rcases L5 A with⟨i,j,r,rfl,rfl,N,rfl,rfl⟩|⟨rfl,xs,z,rfl,rfl,O,rfl,rfl⟩|⟨rfl,xs,c,rfl,rfl,O,hc,rfl,rfl⟩;simp only[Rep]at y E;exact .inl ⟨i,j,r,y,E,N,q _ K s (by simp[Rep]) (by simp)⟩;simp only[Rep]at y E;obtain⟨P,vs,rfl,U,Y,J⟩:=y;obtain⟨W,d,rfl,f,C,F⟩:=E;refine .inr (.inl ⟨rfl,P,W,vs,d,rfl,rfl,Y,C,?_,λp u=>q _ _ (s.lay u) (sS R s u (J.append F)) λ_=>⟨p,rfl,s.free u⟩⟩);rw[<-J.length,<-F.length];exact eF O vq;simp only[Rep]at y E;obtain⟨P,vs,rfl,U,Y,J⟩:=y;subst E;refine .inr (.inr ⟨rfl,P,c,vs,rfl,rfl,Y,?_,?_,?_,λp u=>q _ _ (s.lay u) (sS R s u (J.rep _)) λ_=>⟨p,rfl,s.free u⟩⟩);have e:(2)^63=9223372036854775808:=by decide
  have C:2^62=4611686018427387904:=by decide
  omega;have e:(2)^63=9223372036854775808:=by decide
  have C:2^62=4611686018427387904:=by decide
  omega;rw[<-J.length];exact eF O vq
noncomputable def notStar:Expr->Bool
 |.Starred _ _=>false
 |_=>true
def ai(h:notStar e=true):starEach (e::c) env=(false,eval e env)::starEach c env:=by cases e<;>first|rfl|cases h
def fg(h:c.all notStar=true):(backTo pos (starEach c env)).any (·.1)=false:=by
 induction c with
 |nil=>rfl
 |cons e c j=>
  rw[fC,aB]at h;rw[ai h.1];have:=j h.2;unfold backTo at this|-;rw[bI,SZ,this];rfl
def Wm:PA X [] (Kq G T cl .nil):=fj.weak λσ H Q c=>by obtain⟨Z,j,o,B,e,M,xs,R,h,q⟩:=c;simp only[rp,aD]at h;subst h;exact q [] H (Sm.refl H) (by simp[az])
def SU(E:notStar j=true)(J:PE X j (tI G T cl a))(L:PA X O (Kq G T cl r)):PA X (j::O) (Kq G T cl (.cons a r)):=(bJ J L (ai E)).weak λσ H Q c=>by obtain⟨Z,o,s,B,e,M,xs,R,h,q⟩:=c;obtain⟨x,P,U,Y,C,rfl⟩:=cons_inv h;exact⟨Z,o,s,B,e,M,x,P,R,Y,λv I u F _=>⟨Z,o,s,B,e,M,U,R.same u,C,λvs D y V=>q (v::vs) D (u.trans y) (by simp only[az];exact⟨v,vs,rfl,F.same y,V⟩)⟩⟩
def Wn(R:Rel G Z B0 j B σ e H M) (o:au T cl e M a=some (x,f1))(h:∀v c,Sm G H c->Rep G Z B c x v->r v c Q):tUn r (tI G T cl a) σ H Q:=⟨Z,B0,j,B,e,M,x,f1,R,o,λv q s u _=>h v q s u⟩
def Wo(o:PE X r (tI G T cl a)):PE X (.UnaryOp .USub r pos) (tI G T cl (.neg a)):=(Q6 Sd o).weak λσ H Q c=>by obtain⟨Z,E,J,B,e,M,x,fr,R,h,q⟩:=c;obtain⟨i,L,s,rfl,rfl⟩:=O9 h;refine Wn R s λv u y j=> ?_;simp only[Rep]at j;exact⟨i,j,q _ u y (by simp[Rep]) (by simp)⟩
def Wq(o:PE X r (tI G T cl a)):PE X (.UnaryOp .Invert r pos) (tI G T cl (.inv a)):=(Q6 Se o).weak λσ H Q c=>by obtain⟨Z,E,J,B,e,M,x,fr,R,h,q⟩:=c;obtain⟨i,L,s,rfl,rfl⟩:=inv_inv h;refine Wn R s λv u y j=> ?_;simp only[Rep]at j;exact⟨i,j,q _ u y (by simp[Rep,lB,Builtin.bitNot]) (by simp)⟩
noncomputable def BF:SM->CmpOp
 |.eq=>.Eq|.ne=>.NotEq|.lt=>.Lt|.le=>.LtE|.gt=>.Gt|.ge=>.GtE
def rC(K:Frag)(o:SM):R2:=λx y H Q=>(∃i j,x=.int i/\y=.int j/\Q (.bl (dj o i j)) H)\/(o=.eq/\∃a b,x=.bl a/\y=.bl b/\Q (.bl (a==b)) H)\/(o=.ne/\∃a b,x=.bl a/\y=.bl b/\Q (.bl (a !=b)) H)\/
 (o=.eq/\∃(p q:Addr) (a b:List Int),x=.ref p/\y=.ref q/\H p=some (.lst (a.map V.int))/\H q=some (.lst (b.map V.int))/\Q (.bl (decide (a=b))) H)
theorem CG:∀l:List Int,y6 K H (l.map V.int) (l.map PyData.int)
 |[]=>.nil
 |i::l=>.cons (.int i) (CG l)
def shaped_ints(l:List Int):SeqAt.shaped (.list (l.map PyData.int))=true:=ke_shaped_ints l
def Mm(a b:List Int):PyData.eqv (.list (a.map PyData.int)) (.list (b.map PyData.int))=decide (a=b):=ked_eqvAll a b
def wG(r:gH k X.A):∀o:SM,lp X (compareOp (BF o)) (rC X.K o):=λo pins s σ H x y v u Q I c h q=>by
 rcases q with⟨i,j,rfl,rfl,q⟩|⟨rfl,a,b,rfl,rfl,q⟩|⟨rfl,a,b,rfl,rfl,q⟩|⟨rfl,p,G,a,b,rfl,rfl,B,E,q⟩;cases o with
 |eq=>exact Q7 pins s σ H _ _ v u Q I c h ⟨rfl,by simpa [dj] using q⟩
 |ne=>exact Q8 pins s σ H _ _ v u Q I c h ⟨rfl,by simpa [dj] using q⟩
 |lt=>exact VR pins s σ H _ _ v u Q I c h ⟨i,j,rfl,rfl,q⟩
 |le=>exact VS pins s σ H _ _ v u Q I c h ⟨i,j,rfl,rfl,q⟩
 |gt=>exact VT pins s σ H _ _ v u Q I c h ⟨i,j,rfl,rfl,q⟩
 |ge=>exact VU pins s σ H _ _ v u Q I c h ⟨i,j,rfl,rfl,q⟩
 refine Q7 pins s σ H _ _ v u Q I c h ⟨rfl,?_⟩;have e:decide (V.bl a=V.bl b)=(a==b):=by cases a<;>cases b<;>rfl
 rw[e];exact q;refine Q8 pins s σ H _ _ v u Q I c h ⟨rfl,?_⟩;have e:(!decide (V.bl a=V.bl b))=(a !=b):=by cases a<;>cases b<;>rfl
 rw[e];exact q;refine Sy r.units pins s σ H _ _ v u Q I c h ⟨_,_,.lst (dr.of B) (CG a),.lst (dr.of E) (CG b),shaped_ints a,shaped_ints b,?_⟩;rw[Mm];exact q
def Mn(m:Mo G T cl gv k X)(h:tI G T cl (.cmp o a b) σ H Q):OF (rC X.K o) (tI G T cl a) (tI G T cl b) σ H Q:=by obtain⟨Z,I,S,B,e,M,x,fr,R,h,q⟩:=h;obtain⟨A,N,W,d,r,L,O,P,rfl,rfl⟩:=IK h;refine two R L O λv w y U s u=> ?_;have c:Q (.bl r) y:=q _ y U (by simp[Rep]) (by simp);rcases L6 P with⟨i,j,rfl,rfl,rfl⟩|⟨rfl,a,b,rfl,rfl,rfl⟩|⟨rfl,a,b,rfl,rfl,rfl⟩|⟨rfl,xs,f,a,b,rfl,rfl,Y,C,rfl⟩;simp only[Rep]at s u;exact .inl ⟨i,j,s,u,c⟩;simp only[Rep]at s u;exact .inr (.inl ⟨rfl,a,b,s,u,c⟩);simp only[Rep]at s u;exact .inr (.inr (.inl ⟨rfl,a,b,s,u,c⟩));simp only[Rep]at s u;obtain⟨p,vs,rfl,_,E,F⟩:=s;obtain⟨D,g,rfl,_,J,V⟩:=u;rw[az.mF Y F]at E;rw[az.mF C V]at J;exact .inr (.inr (.inr ⟨rfl,p,D,a,b,rfl,rfl,E,J,c⟩))
def CH(o):BF o≠.In/\BF o≠.NotIn:=by cases o<;>exact⟨by decide,by decide⟩
def Wr(m:Mo G T cl gv k X)(j:PE X q (tI G T cl a))(r:PE X c (tI G T cl b)):PE X (.Compare q [BF o] [c] pos) (tI G T cl (.cmp o a b)):=(HK (wG m.room o) j r (Cm c (CH o).1 (CH o).2)).weak λσ H Q h=>Mn m h
def IZ(u:∀Q,tI G T cl j σ H Q->t σ H Q)(y:∀e M x fr,au T cl e M j=some (x,fr)->∃b,x=.bl b)(h:tT G T cl j σ H Q):LD t σ H Q:=by
 obtain⟨Z,E,J,B,e,M,x,fr,b,R,o,L,q⟩:=h;obtain⟨c,rfl⟩:=y _ _ _ _ o;have O:c=b:=by simpa [truth] using L
 subst O;exact u _ ⟨Z,E,J,B,e,M,_,fr,R,o,λv P s r _=>⟨c,by simpa [Rep] using r,q P s⟩⟩
def Ws(m:Mo G T cl gv k X)(j:PE X q (tI G T cl a))(s:PE X c (tI G T cl b)):PT X (.Compare q [BF o] [c] pos) (tT G T cl (.cmp o a b)):=(HL (wG m.room o) j s (Cm c (CH o).1 (CH o).2)).weak λσ H Q h=>IZ (λQ h=>Mn m h) (λe M x fr h=>by obtain⟨_,_,_,_,r,_,_,_,rfl,_⟩:=IK h;exact⟨r,rfl⟩) h
def I0(r:Rep G Z B H x v):(x=.cw->v=.cw)/\(((∃f,x=.fn f)\/∃l,x=.lst l)->v≠.cw):=by refine⟨λe=>by subst e;simpa [Rep] using r,λe=> ?_⟩;rcases e with⟨f,rfl⟩|⟨l,rfl⟩;simp only[Rep]at r;rw[r.1];simp;simp only[Rep]at r;obtain⟨a,_,rfl,_⟩:=r;simp
def Mp(h:tI G T cl (.LZ a) σ H Q):VA (tI G T cl a) σ H Q:=by obtain⟨Z,s,u,B,e,M,x,fr,R,h,q⟩:=h;obtain⟨y,E,J,rfl,L⟩:=IL h;refine⟨Z,s,u,B,e,M,y,E,R,J,λv j o O _=> ?_⟩;obtain⟨P,r⟩:=I0 O;rcases L with⟨c,rfl⟩|⟨c,rfl⟩|⟨c,rfl⟩;rw[P c];exact q _ j o (by simp[Rep]) (by simp);rw[b9 (r (.inl c))];exact q _ j o (by simp[Rep]) (by simp);rw[b9 (r (.inr c))];exact q _ j o (by simp[Rep]) (by simp)
def I_(h:tI G T cl (.xM a) σ H Q):Q3 (tI G T cl a) σ H Q:=by obtain⟨Z,s,u,B,e,M,x,fr,R,h,q⟩:=h;obtain⟨y,E,J,rfl,L⟩:=Ep h;refine⟨Z,s,u,B,e,M,y,E,R,J,λv j o O _=> ?_⟩;obtain⟨P,r⟩:=I0 O;rcases L with⟨c,rfl⟩|⟨c,rfl⟩|⟨c,rfl⟩;rw[P c];exact q _ j o (by simp[Rep]) (by simp);rw[b9 (r (.inl c))];exact q _ j o (by simp[Rep]) (by simp);rw[b9 (r (.inr c))];exact q _ j o (by simp[Rep]) (by simp)
def Wt(c:PE X o (tI G T cl a)):PE X (.Compare o [.Is] [.Constant .none j pos'] pos) (tI G T cl (.LZ a)):=(Cj (Lo c)).weak λσ H Q h=>Mp h
def SW(c:PE X o (tI G T cl a)):PE X (.Compare o [.IsNot] [.Constant .none j pos'] pos) (tI G T cl (.xM a)):=(Cj (HC c)).weak λσ H Q h=>I_ h
def CI(j:∀Q,tI G T cl c σ H Q->t σ H Q)(o:∀e M x fr,au T cl e M c=some (x,fr)->∃b,x=.bl b)(h:tT G T cl c σ H Q):tB t σ H Q:=IZ j o h
def Wu(c:PE X o (tI G T cl a)):PT X (.Compare o [.Is] [.Constant .none j pos'] pos) (tT G T cl (.LZ a)):=(Ck (Lo c)).weak λσ H Q h=>CI (λQ h=>Mp h) (λe M x fr h=>by obtain⟨_,_,_,_,q⟩:=IL h;rcases q with⟨_,rfl⟩|⟨_,rfl⟩|⟨_,rfl⟩<;>exact⟨_,rfl⟩) h
def SX(c:PE X o (tI G T cl a)):PT X (.Compare o [.IsNot] [.Constant .none j pos'] pos) (tT G T cl (.xM a)):=(Ck (HC c)).weak λσ H Q h=>CI (λQ h=>I_ h) (λe M x fr h=>by obtain⟨_,_,_,_,q⟩:=Ep h;rcases q with⟨_,rfl⟩|⟨_,rfl⟩|⟨_,rfl⟩<;>exact⟨_,rfl⟩) h
theorem sU:∀l:List Int,(l.map V.int).all pz=true
 |[]=>rfl
 |i::l=>by rw[bI,fC,sU l];rfl
theorem zI(i):∀l:List Int,V4 (.int i) (l.map V.int)=decide (i∈l)
 |[]=>by simp[V4]
 |j::l=>by have c:=zI i l;unfold V4 at c|-;rw[bI,SZ,c];show(j==i||_)=_;by_cases h:i=j;subst h;simp;have h':¬j=i:=λe=>h e.symm;simp[h,h']
def _root_.L2.qM.none(h:qM K (λ_=>none) a vs):qM K H a vs:=by rcases h with(h|⟨o,h⟩)|h;cases h;cases h;exact .inr h
def Mq(m:Mo G T cl gv k X)(h:tI G T cl (.Lj a b) σ H Q):OF (rIn X.K false) (tI G T cl a) (tI G T cl b) σ H Q:=by obtain⟨Z,Y,C,B,e,M,x,fr,R,h,q⟩:=h;obtain⟨i,F,y,D,xs,l,J,L,O,s,rfl,rfl⟩:=IM h;refine two R J L λv w u P E o=> ?_;simp only[Rep]at E;subst E;have j:Q (.bl (decide (i∈l))) u:=q _ u P (by simp[Rep]) (by simp);rcases O with rfl|rfl;simp only[Rep]at o;obtain⟨p,vs,rfl,_,g,r⟩:=o;rw[az.mF s r]at g;refine⟨p,_,rfl,.inl (dr.of g),rfl,sU l,?_⟩;simp only[k3,zI];exact j;simp only[Rep]at o;obtain⟨p,vs,rfl,c,r⟩:=o;have U:=az.mF s r;subst U;refine⟨p,_,rfl,.inr ?_,rfl,sU l,?_⟩;rcases c with⟨_,g⟩|c;exact qM.of g;rw[m.K];exact qM.none c;simp only[k3,zI];exact j
noncomputable def rD:Expr->Bool
 |.Set _ _ _=>false
 |_=>true
def Ja(h:rD b=true):behindInMarks op b=false:=by cases b<;>first|rfl|cases h
def Wv(m:Mo G T cl gv k X)(j:rD c=true)(o:PE X q (tI G T cl a))(r:PE X c (tI G T cl b)):PE X (.Compare q [.In] [c] pos) (tI G T cl (.Lj a b)):=(HK Bv o r (Ja j)).weak λσ H Q h=>Mq m h
def Ww(m:Mo G T cl gv k X)(j:rD c=true)(o:PE X q (tI G T cl a))(r:PE X c (tI G T cl b)):PT X (.Compare q [.In] [c] pos) (tT G T cl (.Lj a b)):=(HL Bv o r (Ja j)).weak λσ H Q h=>IZ (λQ h=>Mq m h) (λe M x fr h=>by obtain⟨_,_,_,_,_,_,_,_,_,_,rfl,_⟩:=IM h;exact⟨_,rfl⟩) h
def Ey(m:Mo G T cl gv k X)(h:tI G T cl (.chain a b c) σ H Q):F6 (rC X.K .le) (rC X.K .le) (tI G T cl a) (tI G T cl b) (tI G T cl c) σ H Q:=by obtain⟨Z,s,y,B,e,M,x,fr,R,h,q⟩:=h;obtain⟨i,U,j,Y,C,F,rfl,E⟩:=BC h;refine⟨Z,s,y,B,e,M,_,U,R,C,λv A r O _=>⟨Z,s,y,B,e,M,_,Y,R.same r,F,λw D J L _=> ?_⟩⟩;simp only[Rep]at O L;refine .inl ⟨i,j,O,L,_,rfl,?_⟩;rcases E with⟨o,l,V,E,rfl⟩|⟨o,rfl⟩;simp only[dj,o];refine⟨Z,s,y,B,e,M,_,V,R.same (r.trans J),E,λu I S P _=> ?_⟩;simp only[Rep]at P;exact .inl ⟨j,l,L,P,q _ I ((r.trans J).trans S) (by simp[Rep,dj]) (by simp)⟩;simp only[dj,o];exact q _ D (r.trans J) (by simp[Rep]) (by simp)
def Pr(m:Mo G T cl gv k X)(o:PE X q (tI G T cl a))(r:PE X s (tI G T cl b))(u:PE X j (tI G T cl c)):PE X (.Compare q [.LtE,.LtE] [s,j] pos) (tI G T cl (.chain a b c)):=(LG (wG m.room .le) (wG m.room .le) o r u (Cm j (by decide) (by decide))).weak λσ H Q h=>Ey m h
def Pu(m:Mo G T cl gv k X)(o:PE X q (tI G T cl a))(r:PE X s (tI G T cl b))(u:PE X j (tI G T cl c)):PT X (.Compare q [.LtE,.LtE] [s,j] pos) (tT G T cl (.chain a b c)):=(LH (wG m.room .le) (wG m.room .le) o r u (Cm j (by decide) (by decide))).weak λσ H Q h=>IZ (λQ h=>Ey m h) (λe M x fr h=>by obtain⟨_,_,_,_,_,_,_,y⟩:=BC h;rcases y with⟨_,_,_,_,rfl⟩|⟨_,rfl⟩<;>exact⟨_,rfl⟩) h
def Wx(j:PE X o (tI G T cl a)):PE X (.UnaryOp .Not o pos) (tI G T cl (.not a)):=(RR j).weak λσ H Q c=>by obtain⟨Z,r,s,B,e,M,x,fr,R,h,q⟩:=c;obtain⟨u,b,y,rfl,rfl⟩:=IP h;refine⟨Z,r,s,B,e,M,_,u,R,y,λv E J L _=>⟨b,by simpa [Rep] using L,q _ E J (by simp[Rep]) (by simp)⟩⟩
def Wy(o:PT X r (tT G T cl a)):PT X (.UnaryOp .Not r pos) (tT G T cl (.not a)):=(Lp o).weak λσ H Q j=>by
  obtain⟨Z,u,y,B,e,M,x,fr,b,R,h,E,q⟩:=j;obtain⟨J,c,L,rfl,rfl⟩:=IP h;have O:b= !c:=by simpa [truth] using E.symm
  subst O;exact⟨Z,u,y,B,e,M,_,J,c,R,L,rfl,λP s=>q P s⟩
def Wz(E:PE X J (tI G T cl a))(L:PE X O (tI G T cl b)):PE X (.BoolOp .And [J,O] pos) (tI G T cl (.and a b)):=(RQ E (Lq L)).weak λσ H Q j=>by obtain⟨Z,s,u,B,e,M,x,fr,R,h,q⟩:=j;obtain⟨c,P,U,rfl,o⟩:=IQ h;refine⟨Z,s,u,B,e,M,_,P,R,U,λv Y r C _=>⟨c,by simpa [Rep] using C,?_⟩⟩;rcases o with⟨rfl,y,F,o,rfl⟩|⟨rfl,rfl⟩;rw[ae rfl];exact⟨Z,s,u,B,e,M,_,F,R.same r,o,λw D V I _=>q w D (r.trans V) I (by simp)⟩;rw[ab (by simp)];exact q _ Y r (by simp[Rep]) (by simp)
def Zu(E:PE X J (tI G T cl a))(L:PE X O (tI G T cl b)):PE X (.BoolOp .Or [J,O] pos) (tI G T cl (.or a b)):=(VE E (Lq L)).weak λσ H Q j=>by obtain⟨Z,s,u,B,e,M,x,fr,R,h,q⟩:=j;obtain⟨c,P,U,rfl,o⟩:=L7 h;refine⟨Z,s,u,B,e,M,_,P,R,U,λv Y r C _=>⟨c,by simpa [Rep] using C,?_⟩⟩;rcases o with⟨rfl,y,F,o,rfl⟩|⟨rfl,rfl⟩;rw[ab (by simp)];exact⟨Z,s,u,B,e,M,_,F,R.same r,o,λw D V I _=>q w D (r.trans V) I (by simp)⟩;rw[ae rfl];exact q _ Y r (by simp[Rep]) (by simp)
def WA(J:PT X L (tT G T cl a))(O:PT X P (tT G T cl b)):PT X (.BoolOp .And [L,P] pos) (tT G T cl (.and a b)):=(RP J (OB O)).pt.weak λσ H Q j=>by
  obtain⟨Z,s,u,B,e,M,x,fr,d,R,h,E,q⟩:=j;obtain⟨c,U,Y,rfl,o⟩:=IQ h;refine⟨Z,s,u,B,e,M,_,U,c,R,Y,rfl,λC r=> ?_⟩;rcases o with⟨rfl,y,F,o,rfl⟩|⟨rfl,rfl⟩;rw[ae rfl];exact⟨Z,s,u,B,e,M,_,F,d,R.same r,o,E,λD V=>q D (r.trans V)⟩;rw[ab (by simp)];have I:d=false:=by simpa [truth] using E.symm
  subst I;exact q C r
def Zv(J:PT X L (tT G T cl a))(O:PT X P (tT G T cl b)):PT X (.BoolOp .Or [L,P] pos) (tT G T cl (.or a b)):=(VB J (RO O)).pt.weak λσ H Q j=>by
  obtain⟨Z,s,u,B,e,M,x,fr,d,R,h,E,q⟩:=j;obtain⟨c,U,Y,rfl,o⟩:=L7 h;refine⟨Z,s,u,B,e,M,_,U,c,R,Y,rfl,λC r=> ?_⟩;rcases o with⟨rfl,y,F,o,rfl⟩|⟨rfl,rfl⟩;rw[ab (by simp)];exact⟨Z,s,u,B,e,M,_,F,d,R.same r,o,E,λD V=>q D (r.trans V)⟩;rw[ae rfl];have I:d=true:=by simpa [truth] using E.symm
  subst I;exact q C r
def WB(U:PT X Y (tT G T cl c))(C:PE X ea (tI G T cl a))(F:PE X eb (tI G T cl b)):PE X (.IfExp Y ea eb pos) (tI G T cl (.tQ c a b)):=(Lr U C F).weak λσ H Q r=>by
  obtain⟨Z,s,u,B,e,M,x,fr,R,h,q⟩:=r;obtain⟨y,D,t,V,I,o⟩:=O_ h;refine⟨Z,s,u,B,e,M,y,D,t,R,V,I,λS j=> ?_⟩;cases t with
  |true=>
   rw[ae rfl]at o|-;exact⟨Z,s,u,B,e,M,x,fr,R.same j,o,λv E J L O=>q v E (j.trans J) L λP=>let ⟨p,e1,e2⟩:=O P;⟨p,e1,j.free e2⟩⟩
  |false=>
   rw[ab (by simp)]at o|-;exact⟨Z,s,u,B,e,M,x,fr,R.same j,o,λv E J L O=>q v E (j.trans J) L λP=>let ⟨p,e1,e2⟩:=O P;⟨p,e1,j.free e2⟩⟩
def WC(s:PE X r (tI G T cl u))(he:∀j,isTrue r X.env j=(do let v<-j;standAt r.pos;holding [v] (truthy v))):PT X r (tT G T cl u):=
 (DW s he).weak λσ H Q ⟨Z,B0,H0,B,e,M,x,fr,b,R,h,hb,q⟩=>
  ⟨Z,B0,H0,B,e,M,x,fr,R,h,λv y E o _=>⟨b,by
   cases x with
   |bl c=>simp only[Rep]at o;subst o;simp only[truth,aD]at hb;exact hb.symm
   |int i=>simp only[Rep]at o;subst o;simp only[truth,aD]at hb;exact hb.symm
   |_=>simp[truth]at hb,q y E⟩⟩
noncomputable def isName:Expr->Bool
 |.Name _ _=>true
 |_=>false
def pJ(h:isName c=true):attributeBase c f env w=w:=by cases c<;>first|rfl|cases h
def GB(o:Ord)(f):∃v,(IX o).lookup (Rc f)=some v/\∀(G) Z B H,Rep G Z B H (o.get f:SV) v:=by cases f<;>refine⟨_,by rfl,λG Z B H=>by simp[Ord.get,Rep]⟩
def GD(Z)(f)(j):(tR Z f).lookup (Of j)=some (.ref (Z.pl j)):=by cases j<;>rfl
def WD(m:Mo G T cl gv k X)(u:isName j=true)(y:PE X j (tI G T cl a)):PE X (.Attribute j (Rc f) pos) (tI G T cl (.aK a f)):=(rg y (pJ u)).weak λσ H Q c=>by obtain⟨Z,E,J,B,e,M,x,fr,R,h,q⟩:=c;obtain⟨o,L,O,rfl,rfl⟩:=Pa h;refine⟨Z,E,J,B,e,M,_,L,R,O,λv r P s _=> ?_⟩;simp only[Rep]at s;obtain⟨p,U,rfl,_,g⟩:=s;obtain⟨w,Y,C⟩:=GB o f;exact⟨p,G.CO,U,_,w,rfl,g,m.CD,m.CF f,Y,q w r P (C G Z B r) (by simp)⟩
def Rg(m:Mo G T cl gv k X)(y:isName r=true)(E:PE X r (tI G T cl a)):PE X (.Attribute r (Of j) pos) (tI G T cl (.Od a j)):=(rg E (pJ y)).weak λσ H Q c=>by obtain⟨Z,J,L,B,e,M,x,fr,R,h,q⟩:=c;obtain⟨O,P,U,rfl,rfl⟩:=Pb h;refine⟨Z,J,L,B,e,M,_,O,R,P,λv Y s u _=> ?_⟩;simp only[Rep]at u;obtain⟨rfl,o⟩:=u;obtain⟨D,C⟩:=FL.mp U;obtain⟨_,F⟩:=((R.same s).i_).get C;exact⟨Z.pm,G.CM,Z.dm,_,_,rfl,F.ob,m.Eu,m.Lk j,GD Z _ j,q _ Y s (by simp[Rep,o]) (by simp)⟩
def pK(c:lD G Z H M)(r:Rep G Z B H x v)(h:items? M x=some xs):∃a vs,v=.ref a/\H a=some (.lst vs)/\az G Z B H xs vs:=by
 cases x with
 |lst y=>
  simp only[items?,aD]at h;subst h;simp only[Rep]at r;obtain⟨a,vs,rfl,_,o,s⟩:=r;exact⟨a,vs,rfl,o,s⟩
 |ml j=>
  simp only[items?,bR]at h;obtain⟨m,u,rfl⟩:=h;simp only[Rep]at r;obtain⟨rfl,_⟩:=r;obtain⟨_,q⟩:=c.get u;exact⟨_,_,rfl,q.ls j,az.ints _⟩
 |_=>simp[items?]at h
noncomputable def ja:Expr->Bool
 |.Slice _ _ _ _=>false
 |_=>true
def CJ(h:ja b=true):HS b:=λo i=>by cases b<;>first|rfl|cases h
def Zw(E:ja o=true)(J:PE X L (tI G T cl a))(O:PE X o (tI G T cl b)):PE X (.Subscript L o pos) (tI G T cl (.ix a b)):=(Q_ OT J O (CJ E)).weak λσ H Q c=>by obtain⟨Z,A,K,B,e,M,x,fr,R,h,q⟩:=c;obtain⟨y,N,i,W,xs,P,U,Y,d,C,rfl⟩:=SN h;refine two R P U λv w F r D s=> ?_;obtain⟨p,vs,rfl,g,V⟩:=pK (R.same r).i_ D Y;simp only[Rep]at s;obtain⟨u,I,S⟩:=V.get C;refine⟨p,vs,i,u,rfl,s,dr.of g,at_of (j:=i.toNat) (by omega) I,q u F r S (by simp)⟩
def GF(l:List α)(a b):(l.drop (min a l.length)).take (min b l.length-min a l.length)=(l.drop a).take (b-a):=by
 by_cases h:a<=l.length;rw[_D h];by_cases c:b<=l.length;rw[_D c];rw[wp (by omega),yM (by simp),yM (by simp;omega)];have h':l.length<=a:=by omega
 rw[wp h',wT,List.drop_of_length_le h'];simp
def Pw(vs:List V)(c:0<=i)(h:0<=j):AO vs (some i) (some j)=(vs.drop i.toNat).take (j.toNat-i.toNat):=by unfold AO HT.DG;simp only[ab (Int.not_lt.mpr c),ab (Int.not_lt.mpr h)];exact GF vs _ _
def GG(vs:List V)(c:0<=i):AO vs (some i) none=vs.drop i.toNat:=by unfold AO HT.DG;simp only[ab (Int.not_lt.mpr c)];have:=GF vs i.toNat vs.length;rw[Nat.min_self]at this;rw[this,yM (by simp)]
def SY(vs:List V)(c:0<=j):AO vs none (some j)=vs.take j.toNat:=by unfold AO HT.DG;simp only[ab (Int.not_lt.mpr c)];have:=GF vs 0 j.toNat;simp only[List.drop_zero]at this;simpa using this
def Zy(P:PE X U (tI G T cl a))(Y:PE X eb (tI G T cl b))(C:PE X ec (tI G T cl c)):PE X (.Subscript U (.Slice (some eb) (some ec) none p2) pos) (tI G T cl (.sl a b c)):=(vd yt P (vc Y) (vc C)).weak λσ H Q r=>by obtain⟨Z,s,u,B,e,M,x,fr,R,h,q⟩:=r;obtain⟨y,F,i,D,j,V,xs,I,S,A,K,N,W,rfl,rfl⟩:=SO h;refine⟨Z,s,u,B,e,M,y,F,R,I,λv n E d _=>⟨Z,s,u,B,e,M,_,D,R.same E,S,λt w J f _=>⟨i,by simpa [Rep] using f,Z,s,u,B,e,M,_,V,R.same (E.trans J),A,λz H3 O k _=>⟨j,by simpa [Rep] using k,?_⟩⟩⟩⟩;have o:=(E.trans J).trans O;obtain⟨p,vs,rfl,g,m⟩:=pK (R.same o).i_ (d.same (J.trans O)) K;refine⟨p,vs,rfl,dr.of g,λl L=>q _ _ (o.lay L) ?_ λ_=>⟨l,rfl,o.free L⟩⟩;rw[Pw vs N W];exact sS R o L ((m.drop _).take _)
def WE(J:PE X L (tI G T cl a))(O:PE X P (tI G T cl b)):PE X (.Subscript L (.Slice (some P) none none p2) pos) (tI G T cl (.Oe a b)):=(vd yt J (vc O) Co).weak λσ H Q j=>by obtain⟨Z,r,s,B,e,M,x,fr,R,h,q⟩:=j;obtain⟨y,U,i,Y,xs,C,F,D,V,rfl,rfl⟩:=Pc h;refine⟨Z,r,s,B,e,M,y,U,R,C,λv K u I _=>⟨Z,r,s,B,e,M,_,Y,R.same u,F,λN W E S _=>⟨i,by simpa [Rep] using S,?_⟩⟩⟩;have c:=u.trans E;obtain⟨p,vs,rfl,g,A⟩:=pK (R.same c).i_ (I.same E) D;refine⟨p,vs,rfl,dr.of g,λl o=>q _ _ (c.lay o) ?_ λ_=>⟨l,rfl,c.free o⟩⟩;rw[GG vs V];exact sS R c o (A.drop _)
def WG(J:PE X L (tI G T cl a))(O:PE X P (tI G T cl b)):PE X (.Subscript L (.Slice none (some P) none p2) pos) (tI G T cl (.D9 a b)):=(vd yt J Co (vc O)).weak λσ H Q j=>by obtain⟨Z,r,s,B,e,M,x,fr,R,h,q⟩:=j;obtain⟨y,U,i,Y,xs,C,F,D,V,rfl,rfl⟩:=Pe h;refine⟨Z,r,s,B,e,M,y,U,R,C,λv K u I _=>⟨Z,r,s,B,e,M,_,Y,R.same u,F,λN W E S _=>⟨i,by simpa [Rep] using S,?_⟩⟩⟩;have c:=u.trans E;obtain⟨p,vs,rfl,g,A⟩:=pK (R.same c).i_ (I.same E) D;refine⟨p,vs,rfl,dr.of g,λl o=>q _ _ (c.lay o) ?_ λ_=>⟨l,rfl,c.free o⟩⟩;rw[SY vs V];exact sS R c o (A.take _)
def S0(s:PA X u (Kq G T cl as)):PE X (.List u pos) (tI G T cl (.list as)):=(wx s).weak λσ H Q c=>by obtain⟨Z,y,E,B,e,M,x,fr,R,h,q⟩:=c;obtain⟨xs,J,L,rfl,rfl⟩:=L_ h;refine⟨Z,y,E,B,e,M,xs,R,J,λvs O j r=>⟨by rw[<-r.length];exact eF L vq,λp o=>q _ _ (j.lay o) (sS R j o r) λ_=>⟨p,rfl,j.free o⟩⟩⟩
def WH(u:PA X y (Kq G T cl as)):PE X (.Tuple y j pos) (tI G T cl (.tup as)):=(Sh u).weak λσ H Q c=>by obtain⟨Z,E,J,B,e,M,x,fr,R,h,q⟩:=c;obtain⟨xs,L,O,rfl,rfl⟩:=Pg h;refine⟨Z,E,J,B,e,M,xs,R,L,λvs P r s=>⟨by rw[<-s.length];exact eF O vq,λp o=>q _ _ (r.lay o) ?_ (by simp)⟩⟩;simp only[Rep];exact⟨p,vs,rfl,.inl ⟨R.fresh (r.free o),aC⟩,s.same (kn.new o).sm⟩
structure Bi(X:Cx):Prop where
 len:X.mg "len"=none
 abs:X.mg "abs"=none
 min:X.mg "min"=none
 max:X.mg "max"=none
 sum:X.mg "sum"=none
 range:X.mg "range"=none
 enumerate:X.mg "enumerate"=none
 zip:X.mg "zip"=none
 reversed:X.mg "reversed"=none
def Og(h:notStar c=true)(j:PE X c (tI G T cl a)):PA X [c] (qN (tI G T cl a) DX):=bJ j fj (ai h)
def Yy(o:notStar h=true)(c:notStar j=true)(q:PE X h (tI G T cl a))(r:PE X j (tI G T cl b)):PA X [h,j] (qN (tI G T cl a) (qN (tI G T cl b) DX)):=bJ q (bJ r fj (ai c)) (ai o)
def WI(b:Bi X)(s:Gl X "len")(j:notStar o=true)(u:PE X o (tI G T cl a)):PE X (.Call (.Name "len" p) [o] [] pos) (tI G T cl (.len a)):=(lr vf s b.len PySem.boot_len (Og j u) (he:=ai j)).weak λσ H Q c=>by obtain⟨Z,E,J,B,e,M,x,fr,R,h,q⟩:=c;obtain⟨y,L,xs,O,P,rfl,rfl⟩:=Pf h;refine⟨Z,E,J,B,e,M,y,L,R,O,λv U r Y _=> ?_⟩;obtain⟨p,vs,rfl,g,C⟩:=pK (R.same r).i_ Y P;exact⟨p,vs,rfl,.inl (dr.of g),q _ U r (by simp[Rep,C.length]) (by simp)⟩
def WJ(b:Bi X)(s:Gl X "abs")(j:notStar o=true)(u:PE X o (tI G T cl a)):PE X (.Call (.Name "abs" p) [o] [] pos) (tI G T cl (.abs a)):=(lr LJ s b.abs PyProof.Rows.boot_abs (Og j u) (he:=ai j)).weak λσ H Q c=>by obtain⟨Z,y,E,B,e,M,x,fr,R,h,q⟩:=c;obtain⟨i,J,L,rfl,rfl⟩:=IT (Io T cl e M a) h;refine⟨Z,y,E,B,e,M,_,J,R,L,λv O P r _=> ?_⟩;simp only[Rep]at r;subst r;exact⟨i,rfl,q _ O P (by simp[Rep]) (by simp)⟩
def S1(m:Mo G T cl gv k X)(b:Bi X)(U:Gl X "min")(s:notStar u=true)(o:notStar y=true)(Y:PE X u (tI G T cl a))(C:PE X y (tI G T cl c)):PE X (.Call (.Name "min" p) [u,y] [] pos) (tI G T cl (.min2 a c)):=(lr (J0 m.calm) U b.min PyProof.Rows.boot_min (Yy s o Y C) (he:=ai s) (hpl:=fg (by simp[o]))).weak λσ H Q r=>by obtain⟨Z,E,J,B,e,M,x,fr,R,h,q⟩:=r;obtain⟨i,F,j,D,V,I,rfl,rfl⟩:=IU (Ed T cl e M a c) h;refine⟨Z,E,J,B,e,M,_,F,R,V,λv K L O _=>⟨Z,E,J,B,e,M,_,D,R.same L,I,λw S A P _=> ?_⟩⟩;simp only[Rep]at O P;subst O;subst P;exact⟨i,j,rfl,q _ S (L.trans A) (by simp[Rep]) (by simp)⟩
def S2(m:Mo G T cl gv k X)(b:Bi X)(U:Gl X "max")(s:notStar u=true)(o:notStar y=true)(Y:PE X u (tI G T cl a))(C:PE X y (tI G T cl c)):PE X (.Call (.Name "max" p) [u,y] [] pos) (tI G T cl (.max2 a c)):=(lr (Bo m.calm) U b.max PyProof.Rows.boot_max (Yy s o Y C) (he:=ai s) (hpl:=fg (by simp[o]))).weak λσ H Q r=>by obtain⟨Z,E,J,B,e,M,x,fr,R,h,q⟩:=r;obtain⟨i,F,j,D,V,I,rfl,rfl⟩:=IU (Ee T cl e M a c) h;refine⟨Z,E,J,B,e,M,_,F,R,V,λv K L O _=>⟨Z,E,J,B,e,M,_,D,R.same L,I,λw S A P _=> ?_⟩⟩;simp only[Rep]at O P;subst O;subst P;exact⟨i,j,rfl,q _ S (L.trans A) (by simp[Rep]) (by simp)⟩
def CL(h:oK l=some i)(c:m∈l)(j:∀y,y∈l->m<=y):m=i:=by obtain⟨a,b⟩:=Er h;have:=b m c;have:=j i a;omega
def S3(m:Mo G T cl gv k X)(b:Bi X)(E:Gl X "min")(r:notStar s=true)(J:PE X s (tI G T cl a)):PE X (.Call (.Name "min" p) [s] [] pos) (tI G T cl (.Kj a)):=(lr (Sv m.calm) E b.min PyProof.Rows.boot_min (Og r J) (he:=ai r)).weak λσ H Q j=>by
  obtain⟨Z,L,O,B,e,M,x,fr,R,h,q⟩:=j;obtain⟨xs,P,l,i,U,Y,u,rfl,rfl⟩:=Gu (Ef T cl e M a) h;refine⟨Z,L,O,B,e,M,_,P,R,U,λv C F y _=> ?_⟩;simp only[Rep]at y;obtain⟨p,vs,rfl,_,g,D⟩:=y;rw[az.mF Y D]at g;refine⟨p,l,rfl,dr.of g,?_,λc V o=> ?_⟩;cases l with
  |nil=>simp[oK]at u
  |cons=>simp
  rw[CL u V o];exact q _ C F (by simp[Rep]) (by simp)
def WK(m:Mo G T cl gv k X)(b:Bi X)(s:Gl X "sum")(j:notStar o=true)(u:PE X o (tI G T cl a)):PE X (.Call (.Name "sum" p) [o] [] pos) (tI G T cl (.sum a)):=(lr (Su m.calm) s b.sum PyProof.Rows.boot_sum (Og j u) (he:=ai j)).weak λσ H Q c=>by obtain⟨Z,y,E,B,e,M,x,fr,R,h,q⟩:=c;obtain⟨xs,J,l,L,O,rfl,rfl⟩:=Ph h;refine⟨Z,y,E,B,e,M,_,J,R,L,λv P U r _=> ?_⟩;simp only[Rep]at r;obtain⟨p,vs,rfl,_,g,Y⟩:=r;rw[az.mF O Y]at g;exact⟨p,l,rfl,dr.of g,q _ P U (by simp[Rep]) (by simp)⟩
def vt(R:Rel G Z B0 H0 B σ e H M)(o:Sm G H H1)(s:vs.length=(G.ps f).length) (r:az G Z B H1 xs vs)(u:cl f xs M=some (x,fr,M))(q:∀v c,Sm G H c->Rep G Z B c x v->(fr=true->Wh H v)->Q v c):Gy G cl f (vs++[]) H1 Q E0:=by
 rw[kZ];have j:=R.same o;refine⟨s,Z,B,xs,M,x,fr,M,j.Kp,λb y=> ?_,r,j.i_,j.tab,u,λv c E J L O=> ?_⟩;have:=R.zH b y;cases h:e.own with
 |none=>rw[R.no h];exact this
 |some p=>
  obtain⟨i,P⟩:=p;obtain⟨a,_,U,_⟩:=R.ow i P h;rw[U];exact d7 _ this
 have X:Sm G H1 c:=E.same j.i_ L;exact q v c (o.trans X) J λY=>let ⟨a,e1,e2⟩:=O Y;⟨a,e1,o.free e2⟩
def s_call(m:Mo G T cl gv k X)(j:G.glob f=true)(E:Gl X (G.nm f))(c:(r::s).all notStar=true)(J:PA X (r::s) (Kq G T cl as)):PE X (.Call (.Name (G.nm f) p) (r::s) [] pos) (tI G T cl (.call f as)):=by obtain⟨L,O,P⟩:=m.SQ f j;obtain⟨U,Y⟩:=m.Mh f (.inl j);rw[fC,aB]at c;exact(mE U m.room E L O Y .nil m4 J P (ai c.1) (fg c.2)).weak λσ H Q o=>by obtain⟨Z,C,F,B,e,M,x,fr,R,h,q⟩:=o;obtain⟨xs,D,u⟩:=L8 h;exact⟨Z,C,F,B,e,M,xs,R,D,λvs I V y=>vt R V (by rw[<-y.length];exact m.ar f xs M _ u (.inl j)) y u q⟩
def Mr(h:c.all notStar=true):(backTo pos (starEach c env)).all (λx=> !x.1)=true:=by
 induction c with
 |nil=>rfl
 |cons e c j=>
  rw[fC,aB]at h;rw[ai h.1];have:=j h.2;unfold backTo at this|-;rw[bI,fC,this];rfl
def rE(h:c.all notStar=true)(j:c.length<30):((backTo pos (starEach c env)).all (λx=> !x.1)&&(backToKw pos (keywordEach [] env)).all (λx=>x.1.isSome)&&decide (c.length+([]:List Keyword).length+(if([]:List Keyword).isEmpty then 0 else 1)<30))=true:=by rw[Mr h];show(true&&true&&decide (c.length+0+0<30))=true;simp[j]
def Ez(h:c.all notStar=true)(s:c.length<30)(j:(ap.endLine==pos.line)=true):eval (.Call (.Attribute (.Name y py) nm ap) c [] pos) env=(do
   let r<-eval (.Name y py) env
   standAt ap.atName
   let (f,first)<-holding [r] (getMethod r nm (do return (<-importBound (.Name y py) env).getD true))
   callWith pos f first (backTo pos (starEach c env)) (backToKw pos (keywordEach [] env))):=by
 have o:methodCallForm (c.length+([]:List Keyword).length) (backTo pos (starEach c env)) (backToKw pos (keywordEach [] env))=true:=rE h s
 have q:methodCallPos true (.Name y py) env ap pos=pure pos:=by unfold methodCallPos;simp[j]
 show(do
  let r<-eval (.Name y py) env
  standAt ap.atName
  methodCall (.Name y py) nm ap pos env r (c.length+([]:List Keyword).length) (backTo pos (starEach c env)) (backToKw pos (keywordEach [] env)))=_
 unfold methodCall
 rw[o,q]
 rfl
def S4(m:Mo G T cl gv k X)(E:G.aI f=true)(S:isName J=true)(c:(L::O).all notStar=true)(A:(L::O).length<30)(r:(ap.endLine==pos.line)=true) (K:PE X J (tI G T cl o))(N:PA X (L::O) (Kq G T cl as)):PE X (.Call (.Attribute J (G.nm f) ap) (L::O) [] pos) (tI G T cl (.aI f o as)):=by
 obtain⟨W,a⟩:=m.Mh f (.inr E);have s:=c;rw[fC,aB]at c;cases J with
 |Name y w=>
  exact(HM (pl:=_) K m.Eu (m.met f E) W m.room a .nil m4 N (ai c.1) (fg c.2) (Ez s A r)).weak λσ H Q P=>by
   obtain⟨Z,U,Y,B,e,M,x,fr,R,h,q⟩:=P;obtain⟨b,xs,d,g,C⟩:=L9 h;refine⟨Z,U,Y,B,e,M,_,b,R,d,λv z F D _=> ?_⟩;simp only[Rep]at D;obtain⟨rfl,u⟩:=D;have V:=R.same F;rcases V.i_ with⟨_,mm,i,l⟩|⟨j,i⟩;refine⟨Z.pm,Z.dm,_,rfl,l.ob,m.Yx f Z _ E,Z,U,Y,B,e,M,xs,V,g,λvs n p t=> ?_⟩;have I:az G Z B n (.d5::xs) (.ref Z.pm::vs):=by simp only[az];exact⟨_,vs,rfl,by simp[Rep,u],t⟩
   exact vt R (F.trans p) (by rw[<-I.length];exact m.ar f _ M _ C (.inr (.inl E))) I C q;rw[u]at j;cases j
 |_=>cases S
def S5(G:Gx)(c:D8)(i:Nat)(t:TA):TE:=λσ H Q=>∃f,G.glob f=true/\σ[i]?=some (some (.ref (G.fa f)))/\t σ H λvs h=>Gy G c f (vs++[]) h Q E0
def EA(m:Mo G T cl gv k X)(y:X.N[i]?=some x)(B:DP X.env.scope x)(E:(x=="__debug__")=false)(h:(x=="__classdict__")=false) (J:PA X (e::c) t)(he:starEach (e::c) X.env=(false,eval e X.env)::starEach c X.env)(hpl:(backTo pos (starEach c X.env)).any (·.1)=false):PE X (.Call (.Name x p) (e::c) [] pos) (S5 G cl i t):=by intro pins s j H Q I ⟨f,hf,hσ,ht⟩;obtain⟨_,L,_⟩:=m.SQ f hf;obtain⟨M,O⟩:=m.Mh f (.inl hf);refine wg (ew (rf y B E h pins s j H (λv o=>v=.ref (G.fa f)/\o=H) I ⟨_,hσ,rfl,rfl⟩) λu P ⟨v,o,I1,rv,ev,eH⟩=> ?_);subst ev eH;obtain rfl:u=Value.ref (G.fa f):=rv;refine callWith_K (h₀:=X.base) I.ok.mod.RL L (ew (J pos pins P j _ _ I1 ht) λus U ⟨vs,H2,I2,r,q⟩=>⟨I2.Cg,?_⟩) he hpl;exact Ge M m.room O .nil m4 I2 r q
def _root_.L2.PE.or(h:PE X e t)(h':PE X e t'):PE X e (λσ H Q=>t σ H Q\/t' σ H Q):=λpins s σ H Q I q=>q.elim (h pins s σ H Q I) (h' pins s σ H Q I)
def S6(G:Gx)(j:D8)(i:Nat)(t:TA):TE:=λσ H Q=>∃f a fd,G.ko f=true/\σ[i]?=some (some (.ref a))/\H a=some (wA a fd)/\t σ H λvs h=>h a=some (wA a fd)/\∃c,pI G [] h a f c/\Gy G j f (vs++c) h Q E0
def EB(m:Mo G T cl gv k X)(E:X.N[i]?=some x)(J:DP X.env.scope x)(L:(x=="__debug__")=false)(q:(x=="__classdict__")=false) (M:PA X (e::h) t)(he:starEach (e::h) X.env=(false,eval e X.env)::starEach h X.env)(hpl:(backTo pos (starEach h X.env)).any (·.1)=false):PE X (.Call (.Name x p) (e::h) [] pos) (S6 G cl i t):=by
 intro pins s y H Q I ⟨f,a,fd,hf,hσ,hfa,ht⟩;have c:∀{j:Shared} {o:Hp},Inv X pins y o j->o a=some (wA a fd)->FnAt a j.heap:=λ{j o} O h'=>by obtain⟨P,_,_⟩:=(show gF X.prog X.w o j.heap a (wA a fd)from O.fK a _ h');exact⟨_,_,_,_,P⟩
 refine wg (ew (rf E J L q pins s y H (λv B=>v=.ref a/\B=H) I ⟨_,hσ,rfl,rfl⟩) λu U ⟨v,B,I1,rv,ev,eH⟩=> ?_);subst ev eH;obtain rfl:u=Value.ref a:=rv;refine callWith_F (first:=[]) (c I1 hfa) (ew (M pos pins U y _ _ I1 ht) λus Y ⟨vs,H2,I2,r,q1,cvs,q2,q3⟩=>⟨c I2 q1,?_⟩) he hpl;exact O5 m4 I2 (m.Wg f hf X.A X.stack Y H2 us vs cvs a Q m.room I2.Si q2 r q3)
def pI.nil(h:pI G B H a f vs):pI G [] H a f vs:=by obtain⟨j,c,ct,doc,o,q,r,s,u,y,E⟩:=h;exact⟨j,c,ct,doc,o,q,r,s,by simp,by simp,λ_ _ _=>by simp⟩
def Px(m:Mo G T cl gv k X)(O:X.N[i]?=some x)(P:DP X.env.scope x)(U:(x=="__debug__")=false)(o:(x=="__classdict__")=false) (c:(Y::es).all notStar=true)(C:PA X (Y::es) (Kq G T cl as)):PE X (.Call (.Name x p) (Y::es) [] pos) (tI G T cl (.i0 i as)):=by
 rw[fC,aB]at c;exact((EA m O P U o C (ai c.1) (fg c.2)).or (EB m O P U o C (ai c.1) (fg c.2))).weak λσ H Q J=>by
  obtain⟨Z,F,D,B,e,M,x,fr,R,h,q⟩:=J;obtain⟨g,xs,W,V,r⟩:=Kn h;obtain⟨v,s,y⟩:=R.val i g W;cases g with
  |fn f=>
   simp only[Rep]at y;obtain⟨rfl,u⟩:=y;exact .inl ⟨f,u,s,Z,F,D,B,e,M,xs,R,V,λvs b j E=>vt R j (by rw[<-E.length];exact m.ar f xs M _ r (.inl u)) E r q⟩
  |ko f d=>
   simp only[Rep]at y;obtain⟨a,L,rfl,I,l⟩:=y;obtain⟨u,S,ct,doc,n,A,_⟩:=id I;refine .inr ⟨f,a,_,u,s,A,Z,F,D,B,e,M,xs,R,V,λvs b j E=>⟨j.kp _ _ A (zF _),L,(I.keep (m8.same j)).nil,?_⟩⟩;have K:=E.append (l.same j);have:=vt (Q:=Q) R j (by rw[<-K.length];exact m.ar f (xs++d) M _ r (.inr (.inr u))) K r q;rw[kZ]at this;exact this
  |_=>simp[zC]at r
def Py:Yq X "int.bit_length" (λx xs H Q=>∃i,x=.int i/\xs=[]/\Q (.int (rk i)) H):=λpins s σ H x xs v us Q I o r c=>by
 obtain⟨i,u,j,q⟩:=c;subst u j;obtain⟨t,rfl⟩:=o;cases r;have e:(Builtin.Int.intBits i:Int)=rk i:=by unfold Builtin.Int.intBits rk;by_cases h:i=0;subst h;rfl;have h':i.natAbs≠0:=λe=>h (Int.natAbs_eq_zero.mp e);simp[h,h']
 refine PyProof.Rows.call_int_bit_length ?_;rw[e];exact⟨.int (rk i),H,I.tok _,⟨_,rfl⟩,q⟩
def S7(s:attributeBase j "bit_length" X.env (eval j X.env)=eval j X.env)(c:(ap.endLine==pos.line)=true)(u:PE X j (tI G T cl a)):PE X (.Call (.Attribute j "bit_length" ap) [] [] pos) (tI G T cl (.rk a)):=(Sq PySem.F.plainAttrs_int PyProof.Rows.slot_int_bit_length PyProof.Rows.type_int_bit_length Py u s c).weak λσ H Q o=>by obtain⟨Z,y,E,B,e,M,x,fr,R,h,q⟩:=o;obtain⟨i,J,L,rfl,rfl⟩:=IT (Eg T cl e M a) h;refine⟨Z,y,E,B,e,M,_,J,R,L,λv O P r _=> ?_⟩;simp only[Rep]at r;subst r;exact⟨rfl,i,rfl,rfl,q _ O P (by simp[Rep]) (by simp)⟩
def Pz(C:isName y=true)(r:notStar E=true)(o:(ap.endLine==pos.line)=true)(D:PE X y (tI G T cl a))(V:PE X E (tI G T cl b)):PE X (.Call (.Attribute y "index" ap) [E] [] pos) (tI G T cl (.index a b)):=(LP FR PySem.F.slot_list_index PySem.F.type_list_index LQ D (Og r V) (pJ C) (rE (by simp[r]) (by simp)) o (ai r) rfl).weak λσ H Q s=>by obtain⟨Z,J,L,B,e,M,x,fr,R,h,q⟩:=s;obtain⟨xs,I,i,S,l,j,A,K,N,W,rfl,rfl⟩:=Ko h;refine⟨Z,J,L,B,e,M,_,I,R,A,λv H1 O u _=> ?_⟩;have d:=u;simp only[Rep]at u;obtain⟨p,vs,rfl,_,g,f⟩:=u;refine⟨.inl ⟨rfl,_,dr.of g⟩,Z,J,L,B,e,M,_,S,R.same O,K,λw k P U _=> ?_⟩;simp only[Rep]at U;subst U;obtain⟨m,n⟩:=vp W;have t:=az.mF N f;subst t;refine⟨p,_,.int i,j,.int i,rfl,rfl,dr.of (P.kp _ _ g (dk _)),rfl,sU l,by simp[m],by simp[Li],λz z' hm Y=> ?_,q _ k (O.trans P) (by simp[Rep]) (by simp)⟩;simp only[dQ,bR]at Y;obtain⟨c,hc,rfl⟩:=Y;have:=n z c hm hc;simpa [Li] using this
structure zJ(G:Gx)(T:pG)(X:Cx)(d:D):Prop where
 nm:X.mg (G.dn d)=some (.ref (G.da d))
 db:(G.dn d=="__debug__")=false
 hd:(G.da d==sysModules)=false
 vs:∃vs:List (Key×Value),(∀h,X.K.In h->h.DictOf (hH X.prog X.w) (G.da d) vs)/\(∀i:Int,T.s_ d i=(valueAt vs (.inl i)).isSome)/\
  (∀(i:Int) f,T.kq d i=some f->valueAt vs (.inl i)=some (.ref (G.fa f))/\G.glob f=true)/\(∀i:Int,G.Et d=true->T.kq d i=none->valueAt vs (.inl i)=none)/\
  ∀(i:Int) l,T.Gm d i=some l->∃a,valueAt vs (.inl i)=some (.ref a)/\qM X.K (λ_=>none) a (l.map V.int)
structure PD(G:Gx)(T:pG)(X:Cx)(d:D):Prop where
 nm:X.mg (G.dn d)=some (.ref (G.da d))
 db:(G.dn d=="__debug__")=false
 vs:∃fs:List F,(∀f∈fs,G.glob f=true)/\qM X.K (λ_=>none) (G.da d) (fs.map λf=>.ref (G.fa f))/\∀i f,T.Kk d i=some f->fs[i]?=some f
def tDG(G:Gx)(T:pG)(d:D)(c:TE):TE:=λσ H Q=>c σ H λy h=>∃i,y=.int i/\Q ((T.kq d i).elim .cw λf=>.ref (G.fa f)) h
def yy(r:RelV (.int i) u):(hH P w).is (.inl i) u=true:=Wa (k:=.inl i) r
def S8(o:zJ G T X d)(E:G.Et d=true)(D:Gl X (G.dn d))(L:notStar j=true)(c:(ap.endLine==pos.line)=true)(V:PE X j (tI G T cl a)):PE X (.Call (.Attribute (.Name (G.dn d) p) "get" ap) [j] [] pos) (tI G T cl (.kq d a)):=by
 obtain⟨vs,O,l,P,S,m⟩:=o.vs;have r:PE X (.Call (.Attribute (.Name (G.dn d) p) "get" ap) [j] [] pos) (tDG G T d (tI G T cl a)):=by
  intro pins s U H Q I h;refine wpAny_Call_method rfl (rE (by simp[L]) (by simp)) c PySem.F.plainAttrs_dict PySem.F.slot_dict_get PySem.F.type_dict_get (qd I D o.nm ?_ o.db);have Y:=O _ I.Cg;refine⟨Y.typeIs,λb q=> ?_,?_⟩;cases q;obtain⟨A,_,_,J,K,_⟩:=Y;exact⟨A,J,K.2.1⟩;have N:backTo pos (starEach [j] X.env)=[(false,eval j X.env)]:=by rw[ai L];rfl
  rw[N];refine FU rfl (Calls.evalArgs_plain (Calls.spliced_cons (ew (V pins s U H _ I h) λn t ⟨y,H2,I2,ry,i,ei,q2⟩=>Calls.spliced_nil ?_)));subst ei;have u:=O _ I2.Cg;refine call_meetsIn PySem.F.slot_dict_get u.typeIs PySem.F.entry_dict_get (PySem.F.args_dict_get_2 _ _) (meets_dict_get (hH X.prog X.w) (G.da d) (yy ry) o.hd) ⟨_,u.mapOf,⟨_,H2,I2.tok _,?_,q2⟩⟩;cases e:T.kq d i with
  |none=>rw[S i E e];rfl
  |some f=>rw[(P i f e).1];rfl
 refine r.weak λU H Q ⟨Z,B0,H0,B,e,M,x,fr,R,h,q⟩=> ?_;obtain⟨i,W,J,rfl,rfl⟩:=Ma h;refine⟨Z,B0,H0,B,e,M,_,W,R,J,λv g k C _=> ?_⟩;simp only[Rep]at C;refine⟨i,C,q _ g k ?_ (by simp)⟩;cases e:T.kq d i with
 |none=>simp[Rep]
 |some f=>simp[Rep,(P i f e).2]
def tDI(G:Gx)(T:pG)(d:D)(c:TE):TE:=λσ H Q=>c σ H λy h=>∃i,y=.int i/\Q (.bl (T.s_ d i)) h
def WL(G:Gx)(T:pG)(d:D)(c:TE):TE:=λσ H Q=>c σ H λy h=>∃i,y=.int i/\Q (.bl (!T.s_ d i)) h
def Ms(o:zJ G T X d)(c:Gl X (G.dn d))(j:PE X q ty):PC X .In q (.Name (G.dn d) p) (tDI G T d ty):=by obtain⟨vs,r,u,_⟩:=o.vs;intro pins s B H Q I h;refine ew (j pins s B H _ I h) λE J ⟨y,H1,I1,ry,i,ei,q1⟩=>qd I1 c o.nm ?_ o.db;subst ei;refine wpAny_in_of (yy ry) o.hd (r _ I1.Cg).mapOf ?_;rw[<-u i];exact⟨.bl (T.s_ d i),H1,I1.tok _,rfl,q1⟩
def BG(o:zJ G T X d)(c:Gl X (G.dn d))(j:PE X q ty):PC X .NotIn q (.Name (G.dn d) p) (WL G T d ty):=by obtain⟨vs,r,u,_⟩:=o.vs;intro pins s B H Q I h;refine ew (j pins s B H _ I h) λE J ⟨y,H1,I1,ry,i,ei,q1⟩=>qd I1 c o.nm ?_ o.db;subst ei;refine wpAny_notIn_of (yy ry) o.hd (r _ I1.Cg).mapOf ?_;rw[<-u i];exact⟨.bl (!T.s_ d i),H1,I1.tok _,rfl,q1⟩
def Mt(h:tI G T cl (.inD a d) σ H Q):tDI G T d (tI G T cl a) σ H Q:=by obtain⟨Z,j,o,B,e,M,x,fr,R,h,q⟩:=h;obtain⟨i,r,s,rfl,rfl⟩:=IV h;refine⟨Z,j,o,B,e,M,_,r,R,s,λv u y c _=> ?_⟩;simp only[Rep]at c;exact⟨i,c,q _ u y (by simp[Rep]) (by simp)⟩
def BH(h:tI G T cl (.qh a d) σ H Q):WL G T d (tI G T cl a) σ H Q:=by obtain⟨Z,j,o,B,e,M,x,fr,R,h,q⟩:=h;obtain⟨i,r,s,rfl,rfl⟩:=zE h;refine⟨Z,j,o,B,e,M,_,r,R,s,λv u y c _=> ?_⟩;simp only[Rep]at c;exact⟨i,c,q _ u y (by simp[Rep]) (by simp)⟩
def WM(o:zJ G T X d)(c:Gl X (G.dn d))(j:PE X q (tI G T cl a)):PE X (.Compare q [.In] [.Name (G.dn d) p] pos) (tI G T cl (.inD a d)):=(Cj (Ms o c j) rfl).weak λσ H Q h=>Mt h
def Mu(o:zJ G T X d)(c:Gl X (G.dn d))(j:PE X q (tI G T cl a)):PE X (.Compare q [.NotIn] [.Name (G.dn d) p] pos) (tI G T cl (.qh a d)):=(Cj (BG o c j) rfl).weak λσ H Q h=>BH h
def WN(o:zJ G T X d)(c:Gl X (G.dn d))(j:PE X q (tI G T cl a)):PT X (.Compare q [.In] [.Name (G.dn d) p] pos) (tT G T cl (.inD a d)):=(Ck (Ms o c j) rfl).weak λσ H Q h=>CI (λQ h=>Mt h) (λe M x fr h=>by obtain⟨_,_,_,rfl,_⟩:=IV h;exact⟨_,rfl⟩) h
def Mv(o:zJ G T X d)(c:Gl X (G.dn d))(j:PE X q (tI G T cl a)):PT X (.Compare q [.NotIn] [.Name (G.dn d) p] pos) (tT G T cl (.qh a d)):=(Ck (BG o c j) rfl).weak λσ H Q h=>CI (λQ h=>BH h) (λe M x fr h=>by obtain⟨_,_,_,rfl,_⟩:=zE h;exact⟨_,rfl⟩) h
def tDX(K:Frag)(T:pG)(d:D)(c:TE):TE:=λσ H Q=>c σ H λy h=>∃i l,y=.int i/\T.Gm d i=some l/\∀a,qM K (λ_=>none) a (l.map V.int)->Q (.ref a) h
def WO(m:Mo G T cl gv k X)(o:zJ G T X d)(P:Gl X (G.dn d))(U:ja r=true)(Y:PE X r (tI G T cl a)):PE X (.Subscript (.Name (G.dn d) p) r pos) (tI G T cl (.Gm d a)):=by
 obtain⟨vs,C,N,W,f,D⟩:=o.vs;have c:PE X (.Subscript (.Name (G.dn d) p) r pos) (tDX X.K T d (tI G T cl a)):=by intro pins s J H Q I h;refine O1 PySem.F.slot_dict_getitem.lookup (CJ U) (qd I P o.nm (ew (Y pins s J H _ I h) λg n ⟨y,H2,I2,ry,i,l,ei,el,q2⟩=> ?_) o.db);subst ei;obtain⟨b,u,E⟩:=D i l el;have j:=C _ I2.Cg;exact⟨j.typeIs,wpAny_getItem_of (yy ry) j.mapOf u ⟨.ref b,H2,I2.tok _,rfl,q2 b E⟩⟩
 refine c.weak λJ H Q ⟨Z,B0,H0,B,e,M,x,fr,R,h,q⟩=> ?_;obtain⟨i,V,l,u,E,rfl,rfl⟩:=Pj h;refine⟨Z,B0,H0,B,e,M,_,V,R,u,λv S A L _=> ?_⟩;simp only[Rep]at L;refine⟨i,l,L,E,λb O=>q _ S A ?_ (by simp)⟩;simp only[Rep];rw[m.K]at O;exact⟨b,_,rfl,.inr O,az.ints l⟩
def WQ(o:PD G T X d)(y:Gl X (G.dn d))(E:ja r=true)(J:PE X r (tI G T cl a)):PE X (.Subscript (.Name (G.dn d) p) r pos) (tI G T cl (.Kk d a)):=by obtain⟨fs,L,O,P⟩:=o.vs;refine(Q_ Sl (Ci (v:=.ref (G.da d)) y o.nm rfl o.db) J (CJ E)).weak λσ H Q ⟨Z,B0,H0,B,e,M,x,fr,R,h,q⟩=> ?_;obtain⟨i,U,f,Y,V,C,rfl,rfl⟩:=Pk h;refine⟨Z,B0,H0,B,e,M,_,U,R,Y,λv F D s _=> ?_⟩;simp only[Rep]at s;have u:=P _ _ C;refine⟨_,_,i,.ref (G.fa f),rfl,s,qM.none O,at_of (j:=i.toNat) (by omega) (by rw[dQ,u];rfl),q _ F D ?_ (by simp)⟩;have c:=L f (ky u);simp only[Rep,c];exact⟨trivial,trivial⟩
section
variable {G:Gx}
variable {Z:Zx} {B0 B B':oj} {H0 H H' H1:Hp} {σ:L2.St} {e:Ev} {M:gc}
def CN(c:i<e.vals.length)(j):(e.put i x).get j=if j=i then some x else e.get j:=by unfold Ev.put Ev.get;by_cases h:j=i;subst h;simp[c];rw[ab h];simp only[m1 (λq=>h q.symm)]
def PF:(e.put i x).own=e.own:=rfl
def CP:(e.put i x).vals.length=e.vals.length:=by simp[Ev.put]
def Jb(h:e.free i=true):i<e.vals.length:=by unfold Ev.free at h;rw[aB]at h;simpa using h.1
def EC(h:e.free i=true)(c:e.own=some (j,xs)):i≠j:=by unfold Ev.free at h;rw[aB,c]at h;simpa using h.2
def Mw:(e.put i x).free j=e.free j:=by unfold Ev.free;rw[PF,CP]
theorem Rel.put(R:Rel G Z B0 H0 B σ e H M)(c:e.free i=true)(r:Rep G Z B H x v):Rel G Z B0 H0 B (σ.set i (some v)) (e.put i x) H M where
 tab:=R.tab
 len:=by rw[CP,nZ];exact R.len
 xO:=R.xO
 ext:=R.ext
 i_:=R.i_
 zH:=R.zH
 val:=λj y h=>by have E:=Jb c;rw[CN E]at h;by_cases o:j=i;subst o;rw[ae rfl]at h;cases h;exact⟨v,by rw[pY (by rw[R.len];exact E)],r⟩;rw[ab o]at h;obtain⟨w,s,u⟩:=R.val j y h;exact⟨w,by rw[m1 (λq=>o q.symm)];exact s,u⟩
 no:=R.no
 on:=λj xs h=>by rw[CN (Jb c),ab (λq=>EC c h q.symm)];exact R.on j xs h
 ow:=λj xs h=>by obtain⟨a,vs,s,u,J,L,O,P⟩:=R.ow j xs h;exact⟨a,vs,s,by rw[m1 (EC c h)];exact u,J,L,O,P⟩
noncomputable def iM(σ:L2.St):gd->List V->L2.St
 |i::is,v::vs=>iM (σ.set i (some v)) is vs
 |_,_=>σ
theorem Rel.kE:∀{tg:gd} {xs:lC} {vs:List V} {σ:L2.St} {e:Ev},Rel G Z B0 H0 B σ e H M->tg.all e.free=true->az G Z B H xs vs->Rel G Z B0 H0 B (iM σ tg vs) (e.kE tg xs) H M
 |[],xs,vs,σ,e,R,_,r=>by cases xs<;>cases vs<;>exact R
 |i::is,[],vs,σ,e,R,_,r=>by simp only[az]at r;subst r;exact R
 |i::is,x::xs,vs,σ,e,R,hf,r=>by simp only[az]at r;obtain⟨v,c,rfl,h,o⟩:=r;rw[fC,aB]at hf;have q:=R.put hf.1 h;exact Rel.kE (tg:=is) (xs:=xs) (vs:=c) q (by have:(λj=>(e.put i x).free j)=λj=>e.free j:=funext λj=>Mw;simpa [this] using hf.2) o
structure Walk(G:Gx)(Z:Zx)(B:oj)(tp:Bool)(J:It)(H1:Hp)(xs:List (lC)):Prop where
 stop:∀B' H,m8 B B' H1 H->J.stop xs.length H
 go:∀i x B' H,xs[i]?=some x->m8 B B' H1 H->J.go i H
 Lz:∀i x B' H v H',xs[i]?=some x->m8 B B' H1 H->(∀b∈B',Std H b)->J.Lz i H v H'->Sm G H H'/\if tp=true then ∃a vs,v=.ref a/\H' a=some (.tup vs)/\az G Z B' H' x vs else ∃y,x=[y]/\Rep G Z B' H' y v
section
variable (G T cl)
inductive EvW(tp:Bool)(ir:IE)(σ:L2.St)(H:Hp)(R:It->Hp->Prop):Prop
 |mk (Z:Zx) (B0:oj) (H0:Hp) (B:oj) (e:Ev) (M:gc) (xs:List (lC)) (Rl:Rel G Z B0 H0 B σ e H M) (h:wF T cl e M ir=some xs) (q:∀J H1,Sm G H H1->Walk G Z B tp J H1 xs->R J H1):EvW tp ir σ H R
def tW(c:Bool)(h:IE):TI:=EvW G T cl c h
end
def _root_.L2.PI.or{tg e:Expr}{w c:TI}(h:PI X tg e w)(h':PI X tg e c):PI X tg e (λσ H R=>w σ H R\/c σ H R):=λpins s σ H R I q=>q.elim (h pins s σ H R I) (h' pins s σ H R I)
def m8.lst(c:m8 B B' H1 H)(h:a∉B)(g:H1 a=some (.lst vs))(r:az G Z B H1 xs vs):H a=some (.lst vs)/\az G Z B' H xs vs:=⟨(c a _ g (dk _) h).1,r.keep c⟩
def Kr(o:a∉B)(g:H1 a=some (.lst vs))(r:az G Z B H1 xs vs):Walk G Z B false (Y0 K a) H1 (xs.map λx=>[x]) where
 stop:=λB' H c=>⟨vs,dr.of (c.lst o g r).1,by rw[aP,r.length];exact aH _⟩
 go:=λi x B' H h c=>by simp only[dQ,bR]at h;obtain⟨y,j,rfl⟩:=h;obtain⟨v,s,_⟩:=r.get j;exact⟨vs,v,dr.of (c.lst o g r).1,s⟩
 Lz:=λi x B' H v H' h c _ j=>by obtain⟨rfl,u⟩:=j;simp only[dQ,bR]at h;obtain⟨y,j,rfl⟩:=h;obtain⟨g',E⟩:=c.lst o g r;obtain⟨w,J,q⟩:=E.get j;have:=u vs (dr.of g');rw[J]at this;cases this;refine⟨Sm.refl _,?_⟩;rw[ab (by simp)];exact⟨y,rfl,q⟩
def Mx(c:(a∉B/\H1 a=some (.tup vs))\/qM K (λ_=>none) a vs)(r:az G Z B H1 xs vs):Walk G Z B false (Y1 K a) H1 (xs.map λx=>[x]):=by
 have q:∀{B' H},m8 B B' H1 H->qM K H a vs:=λ{B' H} h=>by rcases c with⟨u,g⟩|c;exact qM.of (h a _ g (Mg _) u).1;exact qM.none c
 refine⟨λB' H h=>⟨vs,q h,by rw[aP,r.length];exact aH _⟩,λi x B' H j h=> ?_,λi x B' H v H' j h _ o=> ?_⟩;simp only[dQ,bR]at j;obtain⟨y,o,rfl⟩:=j;obtain⟨v,E,_⟩:=r.get o;exact⟨vs,v,q h,E⟩;obtain⟨rfl,J⟩:=o;simp only[dQ,bR]at j;obtain⟨y,o,rfl⟩:=j;obtain⟨w,L,s⟩:=(r.keep h).get o;have:=J vs (q h);rw[L]at this;cases this;refine⟨Sm.refl _,?_⟩;rw[ab (by simp)];exact⟨y,rfl,s⟩
def qj(h:(h_ lo n st)[i]?=some x):i<n/\x=[.int (lo+i*st)]:=by simp only[h_,dQ,bR]at h;obtain⟨j,o,rfl⟩:=h;obtain⟨c,rfl⟩:=ph.mp o;simp only[fI]at c;exact⟨c,by simp⟩
def ED:Walk G Z B false (VL lo n) H1 (h_ lo n 1) where
 stop:=λB' H h=>by show n<=_;simp[h_]
 go:=λi x B' H c h=>(qj c).1
 Lz:=λi x B' H v H' c h _ j=>by obtain⟨rfl,rfl⟩:=j;obtain⟨_,rfl⟩:=qj c;refine⟨Sm.refl _,?_⟩;rw[ab (by simp)];exact⟨_,rfl,by simp[Rep]⟩
def Ks:Walk G Z B false (Zf lo c n) H1 (h_ lo n c) where
 stop:=λB' H j=>by show n<=_;simp[h_]
 go:=λi x B' H h j=>(qj h).1
 Lz:=λi x B' H v H' h j _ o=>by obtain⟨rfl,rfl⟩:=o;obtain⟨_,rfl⟩:=qj h;refine⟨Sm.refl _,?_⟩;rw[ab (by simp)];exact⟨_,rfl,by simp[Rep]⟩
def My(u:a∉B)(g:H1 a=some (.lst vs))(r:az G Z B H1 xs vs):Walk G Z B false (Zg K a vs.length) H1 (xs.reverse.map λx=>[x]):=by
 have E:∀{i:Nat} {x:lC},(xs.reverse.map λx=>[x])[i]?=some x->i<vs.length/\∃y,x=[y]/\xs[vs.length-1-i]?=some y:=λ{i x} c=>by simp only[dQ,bR]at c;obtain⟨y,h,rfl⟩:=c;have o:i<xs.reverse.length:=(ph.mp h).1;rw[re]at o;rw[nn o]at h;rw[<-r.length];exact⟨o,y,rfl,h⟩
 refine⟨λB' H j=>by show vs.length<=_;simp[r.length],λi x B' H c j=> ?_,λi x B' H v H' c j _ h=> ?_⟩;obtain⟨J,y,rfl,q⟩:=E c;obtain⟨v,L,_⟩:=r.get q;exact⟨J,vs,v,dr.of (j.lst u g r).1,L⟩;obtain⟨rfl,q⟩:=h;obtain⟨_,y,rfl,O⟩:=E c;obtain⟨g',P⟩:=j.lst u g r;obtain⟨w,Q,s⟩:=P.get O;have:=q vs (dr.of g');rw[Q]at this;cases this;refine⟨Sm.refl _,?_⟩;rw[ab (by simp)];exact⟨y,rfl,s⟩
theorem wH:∀{xs:lC} {n i:Nat} {x:lC},(kx n xs)[i]?=some x->∃y,xs[i]?=some y/\x=[.int ((n+i:Nat):Int),y]
 |[],_,_,_,h=>by simp[kx]at h
 |y::r,n,0,x,h=>by simp only[kx,li,aD]at h;exact⟨y,rfl,h.symm⟩
 |y::r,n,i+1,x,h=>by simp only[kx,FN]at h;obtain⟨z,c,j⟩:=wH h;exact⟨z,by simpa using c,by rw[j,show n+1+i=n+(i+1) by omega]⟩
theorem vu:∀xs n,(kx n xs).length=xs.length
 |[],_=>rfl
 |x::r,n=>by simp[kx,vu r]
def Ku(j:a∉B)(g:H1 a=some (.lst vs))(r:az G Z B H1 xs vs):Walk G Z B true (Zi K a) H1 (kx 0 xs) where
 stop:=λB' H c=>⟨vs,dr.of (c.lst j g r).1,by rw[vu,r.length];exact aH _⟩
 go:=λi x B' H o c=>by obtain⟨y,h,rfl⟩:=wH o;obtain⟨v,s,_⟩:=r.get h;exact⟨vs,v,dr.of (c.lst j g r).1,s⟩
 Lz:=λi x B' H v H' o c P h=>by obtain⟨t,w,rfl,q,rfl,E⟩:=h;obtain⟨y,h,rfl⟩:=wH o;obtain⟨g',J⟩:=c.lst j g r;obtain⟨u,L,O⟩:=J.get h;have:=E vs (dr.of g');rw[L]at this;cases this;refine⟨(kn.new q).sm,?_⟩;rw[ae rfl];refine⟨t,_,rfl,aC,?_⟩;simp only[qc];exact⟨_,_,rfl,by simp[Rep],_,_,rfl,O.same (kn.new q).sm,rfl⟩
def Mz(E:a∉B)(g:H1 a=some (.lst vs))(r:az G Z B H1 xs vs)(j:b∉B)(J:H1 b=some (.lst ws))(s:az G Z B H1 u ws):Walk G Z B true (Zj K a b) H1 (Gc (λx y=>[x,y]) xs u):=by
 have Y:∀{i:Nat} {x:lC},(Gc (λx y=>[x,y]) xs u)[i]?=some x->∃y z,xs[i]?=some y/\u[i]?=some z/\x=[y,z]:=λ{i x} c=>by
  rw[B7]at c;cases o:xs[i]? with
  |none=>simp[o]at c
  |some y=>
   cases q:u[i]? with
   |none=>simp[q]at c
   |some z=>
    simp only[o,q,aD]at c;exact⟨y,z,rfl,rfl,c.symm⟩
 refine⟨λB' H h=>⟨vs,ws,dr.of (h.lst E g r).1,dr.of (h.lst j J s).1,?_⟩,λi x B' H c h=> ?_,λi x B' H v H' c h S F=> ?_⟩;rw[pu,<-r.length,<-s.length];omega;obtain⟨y,z,o,q,rfl⟩:=Y c;obtain⟨v,L,_⟩:=r.get o;obtain⟨w,O,_⟩:=s.get q;exact⟨vs,ws,v,w,dr.of (h.lst E g r).1,dr.of (h.lst j J s).1,L,O⟩;obtain⟨t,A,N,rfl,P,rfl,D,V⟩:=F;obtain⟨y,z,o,q,rfl⟩:=Y c;obtain⟨g',R⟩:=h.lst E g r;obtain⟨Q,U⟩:=h.lst j J s;obtain⟨v,L,I⟩:=R.get o;obtain⟨w,O,X⟩:=U.get q;have T:=D vs (dr.of g');have C:=V ws (dr.of Q);rw[L]at T;rw[O]at C;cases T;cases C;refine⟨(kn.new P).sm,?_⟩;rw[ae rfl];refine⟨t,_,rfl,aC,?_⟩;simp only[az];exact⟨_,_,rfl,I.same (kn.new P).sm,_,_,rfl,X.same (kn.new P).sm,rfl⟩
end
def WR(m:Mo G T cl gv k X)(E:PE X U (tI G T cl a)):PI X tg U (tW G T cl false (.seq a)):=((OE E).or (RY E)).weak λσ H Q o=>by obtain⟨Z,J,L,B,e,M,F,R,h,q⟩:=o;obtain⟨y,O,xs,P,Y,rfl⟩:=Pm h;rcases Y with rfl|rfl;refine .inl ⟨Z,J,L,B,e,M,_,O,R,P,λv s u j _=> ?_⟩;simp only[Rep]at j;obtain⟨p,vs,rfl,C,g,r⟩:=j;exact⟨p,rfl,⟨vs,dr.of g⟩,q _ s u (Kr C g r)⟩;refine .inr ⟨Z,J,L,B,e,M,_,O,R,P,λv s u j _=> ?_⟩;simp only[Rep]at j;obtain⟨p,vs,rfl,c,r⟩:=j;rw[<-m.K]at c;refine⟨p,rfl,⟨vs,?_⟩,q _ s u (Mx c r)⟩;rcases c with⟨_,g⟩|c;exact qM.of g;exact qM.none c
def S9(b:Bi X)(s:Gl X "range")(j:notStar o=true)(u:PE X o (tI G T cl a)):PI X tg (.Call (.Name "range" p) [o] [] pos) (tW G T cl false (.qi a)):=(JW s b.range (Og j u) (ai j)).weak λσ H Q c=>by obtain⟨Z,y,E,B,e,M,Y,R,h,q⟩:=c;obtain⟨n,J,L,O,rfl⟩:=Mb h;refine⟨Z,y,E,B,e,M,_,J,R,L,λv P U r _=> ?_⟩;simp only[Rep]at r;subst r;simp only[b6]at O;exact⟨n,rfl,by omega,by omega,q _ P U ED⟩
def pa3(s:notStar o=true)(h:notStar q=true)(j:notStar r=true)(u:PE X o (tI G T cl a))(y:PE X q (tI G T cl b))(B:PE X r (tI G T cl c)):PA X [o,q,r] (qN (tI G T cl a) (qN (tI G T cl b) (qN (tI G T cl c) DX))):=bJ u (bJ y (bJ B fj (ai j)) (ai h)) (ai s)
def S_(P:Bi X)(U:Gl X "range")(r:notStar s=true)(c:notStar u=true)(Y:PE X s (tI G T cl a))(C:PE X u (tI G T cl b)):PI X tg (.Call (.Name "range" p) [s,u] [] pos) (tW G T cl false (.D_ a b)):=(JX U P.range (Yy r c Y C) (by rw[ai r,ai c];rfl) (ai c)).weak λσ H Q o=>by obtain⟨Z,y,E,B,e,M,W,R,h,q⟩:=o;obtain⟨i,F,j,D,V,I,S,A,rfl⟩:=Mc h;refine⟨Z,y,E,B,e,M,_,F,R,V,λv d J L _=>⟨Z,y,E,B,e,M,_,D,R.same J,I,λw K N O _=> ?_⟩⟩;simp only[Rep]at L O;subst L;subst O;simp only[b6]at S A;exact⟨i,j,rfl,⟨by omega,by omega,by omega,by omega⟩,q _ K (J.trans N) ED⟩
def vw(c: -1000000<=i)(h:i<=1000000):Builtin.Range.rangeFitsLong i=true:=by unfold Builtin.Range.rangeFitsLong;rw[aB];exact⟨je (by omega),je (by omega)⟩
def MA{i j c:Int}(o:0<c):Builtin.Range.rangeSize i j c=(((j-i+c-1)/c).toNat:Nat):=by
 unfold Builtin.Range.rangeSize;rw[ae o];split;rename_i h;have e:j-i+c-1=(j-i-1)+c*1:=by omega
 rw[e,Int.add_mul_ediv_left _ _ (by omega)];have:0<=(j-i-1)/c:=Int.ediv_nonneg (by omega) (by omega);omega;rename_i h;have:(j-i+c-1)/c<=0:=by have:=pi o (by omega:j-i+c-1<1*c);omega
 omega
def Ta{i j c:Int}(q:i.natAbs<=b6)(r:j.natAbs<=b6)(h:0<c)(s:c<=b6):RgC i j c ((j-i+c-1)/c).toNat:=by
 simp only[b6]at q r s;have o:=MA (i:=i) (j:=j) h;have u:(((j-i+c-1)/c).toNat:Int)<=1000000:=by have y:(j-i+c-1)/c<1000000:=pi h (by have:1000000*1<=1000000*c:=Int.mul_le_mul_of_nonneg_left (by omega) (by decide);omega);omega
 refine⟨by omega,by omega,?_,o⟩;unfold Builtin.Range.small;rw[vw (by omega) (by omega),vw (i:=j) (by omega) (by omega),vw (i:=c) (by omega) (by omega),o,vw (by omega) u,ae h,vw (i:=j+(c-1)) (by omega) (by omega)];simp
def Tb(V:Bi X)(I:Gl X "range")(L:notStar O=true)(o:notStar P=true)(r:notStar U=true)(S:PE X O (tI G T cl a))(A:PE X P (tI G T cl b))(K:PE X U (tI G T cl c)):PI X tg (.Call (.Name "range" p) [O,P,U] [] pos) (tW G T cl false (.uk a b c)):=(J7 I V.range (pa3 L o r S A K) (ai L) (fg (by simp[o,r]))).weak λσ H Q s=>by obtain⟨Z,y,E,B,e,M,rs,R,h,q⟩:=s;obtain⟨i,N,j,W,d,f,g,k,l,m,n,t,x,rfl⟩:=Md h;refine⟨Z,y,E,B,e,M,_,N,R,g,λv H1 J Y _=>⟨Z,y,E,B,e,M,_,W,R.same J,k,λw H2 C F _=>⟨Z,y,E,B,e,M,_,f,R.same (J.trans C),l,λu z s3 D _=> ?_⟩⟩⟩;simp only[Rep]at Y F D;subst Y;subst F;subst D;exact⟨i,j,d,_,rfl,Ta m n t x,q _ z ((J.trans C).trans s3) Ks⟩
def Tc(y:Bi X)(E:Gl X "enumerate")(j:notStar o=true)(J:PE X o (tI G T cl a)):PI X (.Tuple elts kk s) (.Call (.Name "enumerate" p) [o] [] pos) (tW G T cl true (.enum a)):=(O2 E y.enumerate (Og j J) (ai j)).weak λσ H Q c=>by obtain⟨Z,L,O,B,e,M,D,R,h,q⟩:=c;obtain⟨xs,P,U,rfl⟩:=Me h;refine⟨Z,L,O,B,e,M,_,P,R,U,λv Y C u _=> ?_⟩;simp only[Rep]at u;obtain⟨p,vs,rfl,F,g,r⟩:=u;exact⟨p,vs,rfl,dr.of g,q _ Y C (Ku F g r)⟩
def Td(F:Bi X)(D:Gl X "zip")(y:notStar E=true)(c:notStar J=true)(V:PE X E (tI G T cl a))(I:PE X J (tI G T cl b)):PI X (.Tuple elts kk L) (.Call (.Name "zip" p) [E,J] [] pos) (tW G T cl true (.zip2 a b)):=(SD D F.zip (Yy y c V I) (ai y) (fg (by simp[c]))).weak λσ H Q s=>by obtain⟨Z,O,P,B,e,M,l,R,h,q⟩:=s;obtain⟨xs,S,m,A,K,N,rfl⟩:=Mf h;refine⟨Z,O,P,B,e,M,_,S,R,K,λv n U W _=>⟨Z,O,P,B,e,M,_,A,R.same U,N,λw d Y o _=> ?_⟩⟩;have j:=W.same Y;simp only[Rep]at j o;obtain⟨p,vs,rfl,f,g,r⟩:=j;obtain⟨i,k,rfl,u,C,o⟩:=o;exact⟨p,i,vs,k,rfl,dr.of g,dr.of C,q _ d (U.trans Y) (Mz f g r u C o)⟩
def WS(u:Bi X)(y:Gl X "reversed")(j:notStar o=true)(E:PE X o (tI G T cl a)):PI X tg (.Call (.Name "reversed" p) [o] [] pos) (tW G T cl false (.rev a)):=(D4 y u.reversed (Og j E) (ai j)).weak λσ H Q c=>by obtain⟨Z,J,L,B,e,M,F,R,h,q⟩:=c;obtain⟨xs,O,P,rfl⟩:=Pn h;refine⟨Z,J,L,B,e,M,_,O,R,P,λv U Y s _=> ?_⟩;simp only[Rep]at s;obtain⟨p,vs,rfl,C,g,r⟩:=s;exact⟨p,vs,rfl,dr.of g,q _ U Y (My C g r)⟩
section
variable {G:Gx} {Z:Zx} {B B0 B':oj} {H H0 H1:Hp} {σ:L2.St} {e:Ev} {M:gc}
def PH(h:¬i<e.vals.length):e.put i x=e:=by unfold Ev.put;rw[lf (by omega)]
theorem rF:∀{tg:gd} {xs:lC} {e:Ev},(e.kE tg xs).own=e.own
 |[],xs,e=>by cases xs<;>rfl
 |i::is,[],e=>rfl
 |i::is,x::xs,e=>by rw[Ev.kE,rF];rfl
theorem oM:∀{tg:gd} {vs:List V} {σ:L2.St},(iM σ tg vs).length=σ.length
 |[],vs,σ=>by cases vs<;>rfl
 |i::is,[],σ=>rfl
 |i::is,v::vs,σ=>by rw[iM,oM,nZ]
theorem rG{σ:L2.St}{i:Nat}:∀{vs:gd},(wipe σ vs)[i]?=if i∈vs then(σ[i]?).map λ_=>none else σ[i]?
 |[]=>by simp[wipe]
 |v::vs=>by unfold wipe;rw[v1];have j:=rG (σ:=σ) (i:=i) (vs:=vs);by_cases h:v=i;subst h;simp only[c6,aA];split;rename_i c;rw[gf]at c;rw[oE c];rfl;rename_i c;rw[gf]at c;rw[fF (by omega)];rfl;rw[ab h,j];have h':¬i=v:=λq=>h q.symm;simp only[aA,h',false_or]
theorem zK:∀{tg:gd} {vs:List V} {σ:L2.St},i∉tg->(iM σ tg vs)[i]?=σ[i]?
 |[],vs,σ,_=>by cases vs<;>rfl
 |j::is,[],σ,_=>rfl
 |j::is,v::vs,σ,h=>by rw[aA,not_or]at h;rw[iM,zK h.2,m1 (λq=>h.1 q.symm)]
def EE(h:∀i∈tg,i∈own):wipe (iM (wipe σ own) tg vs) own=wipe σ own:=by apply rd;intro i;rw[rG,rG];by_cases c:i∈own;rw[ae c,ae c];by_cases j:i<σ.length;rw[oE (by rw[oM,gf];exact j),oE j];rfl;rw[fF (by rw[oM,gf];omega),fF (by omega)];rw[ab c,ab c,zK (λq=>c (h i q)),rG,ab c]
def gT(K:Frag)(c:Bool)(tg:gd):TG:=λv σ H Q=>if c=true then ∃a xs,v=.ref a/\qM K H a xs/\xs.length=tg.length/\Q (iM σ tg xs) H else ∃i,tg=[i]/\Q (σ.set i (some v)) H
def MB(tg:gd):Vi:=λvs σ H Q=>vs.length=tg.length/\Q (iM σ tg vs) H
def Kv:OC X [] (MB []):=λpins s σ H vs us Q I r h=>OD pins s σ H vs us Q I r (by obtain⟨c,j⟩:=h;have:vs=[]:=List.length_eq_zero_iff.mp c;subst this;exact⟨rfl,j⟩)
def GH(o:X.N.Nodup)(u:X.N[i]?=some x)(y:Loc X.env.scope x)(E:(X.fn x=true/\X.fz x=false)\/X.env.scope.names.lookup x=some .local)(h:OC X c (MB tg)) (J:(assignEach (.Name x p::c) X.env).map (·.2)=assign (.Name x p) X.env::(assignEach c X.env).map (·.2)):OC X (.Name x p::c) (MB (i::tg)):=λpins s σ H vs us Q I r q=>
 Lu (HF o u y E) h J pins s σ H vs us Q I r (by
  obtain⟨j,L⟩:=q;cases vs with
  |nil=>simp at j
  |cons v vs=>exact⟨v,vs,rfl,by simpa using j,L⟩)
def Te(c:X.N.Nodup)(o:X.N[i]?=some x)(y:Loc X.env.scope x)(E:(X.fn x=true/\X.fz x=false)\/X.env.scope.names.lookup x=some .local):PG X (.Name x p) (gT X.K false [i]):=λpins s σ H v u Q I r h=>
 HF c o y E pins s σ H v u Q I r (by simp only[gT,ub]at h;obtain⟨j,e,q⟩:=h;cases e;exact q)
def WT(y:X.calm=true)(h:OC X c (MB tg))(E:(assignEach c X.env).length=tg.length)(j:(assignEach c X.env).findIdx? (·.1)=none):PG X (.Tuple c kk tp) (gT X.K true tg):=λpins s σ H v u Q I r q=>
 RS y h E j pins s σ H v u Q I r (by simp only[gT,c6]at q;obtain⟨a,xs,e,J,o,q⟩:=q;exact⟨a,xs,e,J,o,o,q⟩)
def Mo.lM(m:Mo G T cl gv k X)(s)(H)(scope)(c)(h):Mo G T cl gv k (X.lM s H scope c h):=⟨m.K,m.mg,m.calm,m.room,m.nd,m.SQ,m.ar,m.Mh,m.met,m.Yx,m.Eu,m.CD,m.Lk,m.Rf,m.CF,m.Wg,m.gi⟩
def Bi.lM(b:Bi X)(s)(H)(scope)(c)(h):Bi (X.lM s H scope c h):=by obtain⟨j,o,q,r,u,y,E,J,L⟩:=b;exact⟨j,o,q,r,u,y,E,J,L⟩
def Rel.inner(R:Rel G Z B0 H0 B σ e H M)(Q:e.own=none)(J:Sm G H H1)(F:Std H1 s)(D:H s=none)(L:∀i∈own,i∈tg)(E:tg.length=xs.length)(r:az G Z (s::B0) H1 xs vs):Rel G Z (s::B0) H (s::B0) (iM (wipe σ own) tg vs) (e.kE tg xs) H1 M:=by
 have I:=R.no Q;subst I;have kp:m8 B (s::B) H H1:=λb o h n S=>⟨J.kp b o h n,λq=>(aA.mp q).elim (λz=>by rw[z,D]at h;cases h) S⟩;have X:∀{tg:gd} {xs:lC} {vs:List V} {σ':L2.St} {e':Ev},tg.length=xs.length->az G Z (s::B) H1 xs vs->σ'.length=e'.vals.length->e'.own=none->
   (∀i x,i∉tg->e'.get i=some x->∃v,σ'[i]?=some (some v)/\Rep G Z (s::B) H1 x v)->
   (iM σ' tg vs).length=(e'.kE tg xs).vals.length/\∀i x,(e'.kE tg xs).get i=some x->∃v,(iM σ' tg vs)[i]?=some (some v)/\Rep G Z (s::B) H1 x v:=by
  intro tg
  induction tg with
  |nil=>
   intro xs vs σ' e' E r u O h
   cases xs with
   |cons=>simp at E
   |nil=>
    simp only[az]at r
    subst r
    exact⟨u,λi x q=>h i x (by simp) q⟩
  |cons j tg A=>
   intro xs vs σ' e' E r u O h
   cases xs with
   |nil=>simp at E
   |cons x xs=>
    simp only[az]at r
    obtain⟨v,K,rfl,N,W⟩:=r
    refine A (xs:=xs) (vs:=K) (σ':=σ'.set j (some v)) (e':=e'.put j x) (by simpa using E) W (by rw[nZ,CP];exact u) O λi y U q=> ?_
    by_cases C:j<e'.vals.length
    rw[CN C]at q
    by_cases c:i=j
    subst c
    rw[ae rfl]at q
    cases q
    exact⟨v,by rw[pY (by omega)],N⟩
    rw[ab c]at q
    obtain⟨w,Y,T⟩:=h i y (by simp[c,U]) q
    exact⟨w,by rw[m1 (λz=>c z.symm)];exact Y,T⟩
    rw[PH C]at q
    rw[lf (by omega)]
    by_cases c:i=j
    subst c
    exfalso
    unfold Ev.get at q
    rw[fF (by omega)]at q
    cases q
    exact h i y (by simp[c,U]) q
 obtain⟨a,d⟩:=X (tg:=tg) (xs:=xs) (vs:=vs) (σ':=wipe σ own) (e':=e) E r (by rw[gf];exact R.len) Q λi x U q=>by obtain⟨v,Y,T⟩:=R.val i x q;exact⟨v,by rw[rG,ab (λz=>U (L i z))];exact Y,T.keep kp⟩
 refine⟨a,λb P=> ?_,J.Wf,J.ta R.tab,R.i_.same J,λb P=>d7 _ (R.zH b P),d,λ_=>rfl,(λi f h=>by rw[rF,Q]at h;cases h),λi f h=> ?_⟩;rcases aA.mp P with rfl|P;exact F;exact J.xO (R.xO b P);rw[rF,Q]at h;cases h
end
section
variable {G:Gx} {T:pG} {cl:D8} {X:Cx}
theorem wI:∀{l:List α} {x:α} {o zs:List β},iL c f (l++[x])=some zs->iL c f l=some o->∃b,c x=some b/\((b=true/\∃y,f x=some y/\zs=o++[y])\/(b=false/\zs=o))
 |[],x,o,zs,h,j=>by
  simp only[iL,aD]at j;subst j;rw[n0,iL]at h;cases q:c x with
  |none=>rw[q]at h;simp at h
  |some b=>
   rw[q]at h;cases b with
   |true=>
    simp only at h;cases r:f x with
    |none=>rw[r]at h;simp at h
    |some y=>
     rw[r]at h;simp only[iL,g_,aD]at h;exact⟨true,rfl,.inl ⟨rfl,y,rfl,by rw[<-h];rfl⟩⟩
   |false=>
    simp only[iL,aD]at h;exact⟨false,rfl,.inr ⟨rfl,h.symm⟩⟩
 |a::l,x,o,zs,h,j=>by
  rw[uc,iL]at h;rw[iL]at j;cases q:c a with
  |none=>rw[q]at h;simp at h
  |some b=>
   rw[q]at h j;cases b with
   |true=>
    simp only at h j;cases r:f a with
    |none=>rw[r]at h;simp at h
    |some y=>
     rw[r]at h j;simp only[bR]at h j;obtain⟨s,u,rfl⟩:=h;obtain⟨B,E,rfl⟩:=j;obtain⟨b,H,J⟩:=wI u E;refine⟨b,H,J.imp (λ⟨e,y',e1,e2⟩=>⟨e,y',e1,by rw[e2];rfl⟩) λ⟨e,e2⟩=>⟨e,by rw[e2]⟩⟩
   |false=>
    simp only at h j;exact wI h j
theorem zL:∀{l r:List α} {zs:List β},iL c f (l++r)=some zs->∃j,iL c f l=some j
 |[],r,zs,h=>⟨[],rfl⟩
 |a::l,r,zs,h=>by
  rw[uc,iL]at h;rw[iL];cases o:c a with
  |none=>rw[o]at h;simp at h
  |some b=>
   rw[o]at h;cases b with
   |true=>
    simp only at h|-;cases q:f a with
    |none=>rw[q]at h;simp at h
    |some y=>
     rw[q]at h;simp only[bR]at h|-;obtain⟨s,u,rfl⟩:=h;obtain⟨j,B⟩:=zL u;exact⟨_,j,B,rfl⟩
   |false=>
    simp only at h|-;exact zL h
theorem rH:∀{l:List α} {j:List β},iL c f l=some j->j.length<=l.length
 |[],j,h=>by simp only[iL,aD]at h;subst h;simp
 |a::l,j,h=>by
  rw[iL]at h;cases o:c a with
  |none=>rw[o]at h;simp at h
  |some b=>
   rw[o]at h;cases b with
   |true=>
    simp only at h;cases q:f a with
    |none=>rw[q]at h;simp at h
    |some y=>
     rw[q]at h;simp only[bR]at h;obtain⟨s,r,rfl⟩:=h;have:=rH r;simp only[fJ];omega
   |false=>
    simp only at h;have:=rH h;simp only[fJ];omega
def Rh (zf:∀i∈tg,i∈own)(zg:∀i∈own,i∈tg)(hK:X.K=G.K)(R:Rel G Z B0 H0 B σ e H M)(ho:e.own=none)(hx:wF T cl e M it=some xs)(hl:xs.length<=b6)(hf:iL c f xs=some ys)(zh:∀x∈xs,x.length=tg.length) (ht:∀x b σ' E s (K:Bool->Hp->Prop),c x=some b->Rel G Z (s::B0) E (s::B0) σ' (e.kE tg x) E M->(∀u,Sm G E u->K b u)->tt σ' E K) (he:∀x y σ' E s (K:VK),f x=some y->Rel G Z (s::B0) E (s::B0) σ' (e.kE tg x) E M->(∀v u,Sm G E u->Rep G Z (s::B0) u y v->K v u)->te σ' E K) (q:∀v E,Sm G H E->Rep G Z B E (.lst ys) v->Wh H v->Q v E):SA (tW G T cl tp it) (gT X.K tp tg) tt te own σ H Q:=by
 have hB:=R.no ho;subst hB;refine⟨Z,B,H0,B,e,M,xs,R,hx,λJ D s1 Wk=> ?_⟩;intro s hD;have S:H s=none:=s1.free hD;have zi:s∉B:=R.fresh S;have O:∀{u:Hp},Sm G D u->m8 B (s::B) D u:=λ{u} U b o h n nb=>⟨U.kp b o h n,λz=>(aA.mp z).elim (λz=>by rw[z,hD]at h;cases h) nb⟩;have A:∀{u:Hp},Sm G D u->Std u s->∀b∈s::B,Std u b:=λ{u} U hd b hb=>by rcases aA.mp hb with rfl|hb;exact hd;exact U.xO ((R.same s1).xO b hb)
 refine⟨λi m u=>i+m=xs.length/\Sm G D u/\∃acc L,u s=some (.lst acc)/\az G Z (s::B) u L acc/\iL c f (xs.take i)=some L,⟨xs.length,by omega,(kn.new hD).sm,[],[],aC,by simp[az],by simp[iL]⟩,?_⟩;rintro i m u ⟨zw,U,acc,L,N,rz,hz⟩;by_cases hi:i<xs.length;right;obtain⟨x,hxi⟩:∃x,xs[i]?=some x:=⟨xs[i],oE hi⟩;refine⟨Wk.go i x _ u hxi (O U),λE=>(i+1)+(m-1)=xs.length/\Sm G D E/\∃acc L,E s=some (.lst acc)/\az G Z (s::B) E L acc/\iL c f (xs.take (i+1))=some L,λE h=>⟨m-1,by omega,h⟩,λv W hy=> ?_⟩;obtain⟨s3,hv⟩:=Wk.Lz i x (s::B) u v W hxi (O U) (A U (Std.lst N)) hy;have d:=U.trans s3;have za:W s=some (.lst acc):=s3.kp _ _ N (dk _);have g:=zh x (ky hxi);have zb:∀vs,az G Z (s::B) W x vs->(λσ2 zj=>wipe σ2 own=wipe σ own/\tt σ2 zj λb Y=>if b=true then te σ2 Y λy C=>∃acc,C s=some (.lst acc)/\acc.length<sizeLine/\((i+1)+(m-1)=xs.length/\Sm G D (upd C s (.lst (acc++[y])))/\∃V L,(upd C s (.lst (acc++[y]))) s=some (.lst V)/\az G Z (s::B) (upd C s (.lst (acc++[y]))) L V/\iL c f (xs.take (i+1))=some L)else((i+1)+(m-1)=xs.length/\Sm G D Y/\∃acc L,Y s=some (.lst acc)/\az G Z (s::B) Y L acc/\iL c f (xs.take (i+1))=some L)) (iM (wipe σ own) tg vs) W:=λvs rv=>by
  refine⟨EE zf,?_⟩;have I:=R.inner ho (s1.trans d) (Std.lst za) S zg g.symm rv;have R3:Rel G Z (s::B) W (s::B) (iM (wipe σ own) tg vs) (e.kE tg x) W M:=⟨I.len,I.xO,m9.refl _,I.tab,I.i_,I.zH,I.val,I.no,I.on,λi' zk h=>by rw[rF,ho]at h;cases h⟩;have k:xs.take (i+1)=xs.take i++[x]:=by rw[List.take_succ,hxi];rfl
  obtain⟨zx,F⟩:=zL (l:=xs.take (i+1)) (r:=xs.drop (i+1)) (by rw[List.take_append_drop];exact hf);rw[k]at F;obtain⟨b,zl,zm⟩:=wI F hz;have zc:L.length<=i:=by have:=rH hz;rw[oG]at this;omega
  refine ht x b _ W s _ zl R3 λC s4=> ?_;have zd:C s=some (.lst acc):=s4.kp _ _ za (dk _);rcases zm with⟨rfl,y,zo,rfl⟩|⟨rfl,rfl⟩;rw[ae rfl];have R4:Rel G Z (s::B) C (s::B) (iM (wipe σ own) tg vs) (e.kE tg x) C M:=by have:=R3.same s4;exact⟨this.len,this.xO,m9.refl _,this.tab,this.i_,this.zH,this.val,this.no,this.on,λi' zk h=>by rw[rF,ho]at h;cases h⟩
  refine he x y _ C s _ zo R4 λv5 H5 s5 r5=> ?_;have P:H5 s=some (.lst acc):=s5.kp _ _ zd (dk _);have p:Sm G D H5:=(d.trans s4).trans s5;have zv:acc.length<=i:=by rw[<-rz.length];exact zc
  refine⟨acc,P,by rw[oh];simp only[b6]at hl;omega,by omega,?_,acc++[v5],L++[y],aC,?_,by rw[k];exact F⟩;refine⟨λb o h n=> ?_,λb ps h=> ?_,λhT=> ?_⟩;rw[ao (aE h hD)];exact p.kp b o h n;rw[ao (aE h hD)];exact p.tb b ps h;have zp:=p.ta hT;have ne:∀b o,H5 b=some o->NT o->(∀xs,o≠.lst xs)->b≠s:=λb o h _ zq z=>by rw[z,P]at h;cases h;exact zq _ rfl
  intro t' zr;rcases zp t' zr with h|⟨c',t,w⟩;exact .inl (by rw[ao (λz=>by rw[z,P]at h;cases h)];exact h);exact .inr ⟨c',by rw[ao (λz=>by rw[z,P]at t;cases t)];exact t,by rw[ao (λz=>by rw[z,P]at w;cases w)];exact w⟩;have ze:m8 (s::B) (s::B) H5 (upd H5 s (.lst (acc++[v5]))):=λb o h n nb=>⟨by rw[ao (λz=>nb (by rw[z];exact kz))];exact h,nb⟩;have zt:az G Z (s::B) H5 L acc:=(rz.same s3).same (s4.trans s5);refine(zt.keep ze).append ?_;simp only[az];exact⟨v5,[],rfl,r5.keep ze,rfl⟩;rw[ab (by decide)];exact⟨by omega,d.trans s4,acc,_,zd,(rz.same s3).same s4,by rw[k];exact F⟩
 unfold gT;cases tp with
 |true=>
  rw[ae rfl]at hv|-;obtain⟨a,vs,rfl,ha,rv⟩:=hv;exact⟨a,vs,rfl,qM.of ha,by rw[<-rv.length];exact g,zb vs rv⟩
 |false=>
  rw[ab (by decide)]at hv|-;obtain⟨y,rfl,ry⟩:=hv;obtain⟨j,rfl⟩:∃j,tg=[j]:=by
   match tg,g with
   |[j],_=>exact⟨j,rfl⟩
  refine⟨j,rfl,?_⟩;have:=zb [v] (by simp only[az];exact⟨v,[],rfl,ry,rfl⟩);exact this
 left;have zu:i=xs.length:=by omega
 subst zu;rw[wE,hf]at hz;cases hz;refine⟨Wk.stop _ u (O U),q _ u (s1.trans U) ?_ ⟨s,rfl,S⟩⟩;simp only[Rep];exact⟨s,acc,rfl,zi,N,rz.keep λb o h n nb=>⟨h,λz=>nb (d7 _ z)⟩⟩
end
section
variable {G:Gx} {T:pG} {cl:D8} {gv:Nat->xu} {k:Nat} {X:Cx}
noncomputable def MC:IE->Nat
 |.enum _=>2
 |.zip2 _ _=>2
 |.AU _ _ _=>3
 |_=>1
theorem BJ:∀{xs:lC} {n:Nat} {x:lC},x∈kx n xs->x.length=2
 |[],n,x,h=>by simp[kx]at h
 |a::xs,n,x,h=>by rw[kx]at h;rcases aA.mp h with rfl|h;rfl;exact BJ h
def CQ(h:wF T cl e M it=some xs):∀x∈xs,x.length=MC it:=by
 have one:∀{l:lC},∀x∈l.map (λy=>[y]),x.length=1:=λx hx=>by obtain⟨y,_,rfl⟩:=iu.mp hx;rfl
 have Ow:∀{lo st:Int} {n:Nat},∀x∈(h_ lo n st),x.length=1:=λx hx=>by obtain⟨y,_,rfl⟩:=iu.mp hx;rfl
 cases it with
 |seq a=>
  simp only[k5,i4,i5,i6,i7,i8,i9,k7]at h;split at h;cases h;exact one;cases h;exact one;cases h
 |qi a=>
  simp only[k5,i4,i5,i6,i7,i8,i9,k7]at h;split at h;split at h;cases h;exact Ow;cases h;cases h
 |D_ a b=>
  simp only[k5,i4,i5,i6,i7,i8,i9,k7]at h;split at h;split at h;cases h;exact Ow;cases h;cases h
 |uk a b c=>
  simp only[k5,i4,i5,i6,i7,i8,i9,k7]at h;split at h;split at h;cases h;exact Ow;cases h;cases h
 |enum a=>
  simp only[k5,i4,i5,i6,i7,i8,i9,k7]at h;split at h;cases h;exact λx hx=>BJ hx;cases h
 |zip2 a b=>
  simp only[k5,i4,i5,i6,i7,i8,i9,k7]at h;split at h;cases h;intro x hx;obtain⟨i,hi⟩:=wa hx;rw[B7]at hi;split at hi;cases hi;rfl;cases hi;cases h
 |AU a b c=>
  simp only[k5,i4,i5,i6,i7,i8,i9,k7]at h;split at h;cases h;intro x hx;obtain⟨i,hi⟩:=wa hx;rw[B7]at hi;split at hi;cases hi;rfl;cases hi;cases h
 |rev a=>
  simp only[k5,i4,i5,i6,i7,i8,i9,k7]at h;split at h;cases h;exact one;cases h
 |_=>exact nomatch (show none=some _ from h)
theorem BK:∀{l:List α},iL (λ_=>some true) f l=wD f l
 |[]=>rfl
 |x::l=>by
  rw[iL,wD];simp only;cases f x with
  |none=>rfl
  |some y=>simp only[BK (l:=l)]
def PJ(h:au T cl e M (.lc tg it elt)=some (x,fr)):e.own=none/\∃xs c,wF T cl e M it=some xs/\xs.length<=b6/\wD (cZ T cl e M tg elt) xs=some c/\x=.lst c/\fr=true:=by rw[L4]at h;split at h;rename_i xs j o;split at h;rename_i q;simp only[bR,aG]at h;obtain⟨c,r,rfl,rfl⟩:=h;exact⟨j,xs,c,o,q,r,rfl,rfl⟩;cases h;cases h
def Kw{e:Ev}{M:gc}{tg:gd}{q c j:IE}{x:SV}{fr:Bool}(h:au T cl e M (.rm tg q c j)=some (x,fr)):e.own=none/\∃xs o,wF T cl e M q=some xs/\xs.length<=b6/\iL (Km T cl e M tg c) (cZ T cl e M tg j) xs=some o/\x=.lst o/\fr=true:=by rw[Ej]at h;split at h;rename_i xs r s;split at h;rename_i u;simp only[bR,aG]at h;obtain⟨o,y,rfl,rfl⟩:=h;exact⟨r,xs,o,s,u,y,rfl,rfl⟩;cases h;cases h
def MD:∀x y σ' c o (K:VK),cZ T cl e M tg elt x=some y->Rel G Z (o::B0) c (o::B0) σ' (e.kE tg x) c M->(∀v j,Sm G c j->Rep G Z (o::B0) j y v->K v j)->tI G T cl elt σ' c K:=λx y σ' c o K h R q=>by unfold cZ at h;simp only[bR]at h;obtain⟨⟨z,fr⟩,u,rfl⟩:=h;exact⟨Z,_,c,_,_,M,z,fr,R,u,λv j s r _=>q v j s r⟩
def Tf{e:Ev}{M:gc}{tg:gd}{c:IE}{Z:Zx}{r:oj}:∀x b σ' j o (K:Bool->Hp->Prop),Km T cl e M tg c x=some b->Rel G Z (o::r) j (o::r) σ' (e.kE tg x) j M->(∀s,Sm G j s->K b s)->tT G T cl c σ' j K:=λx b σ' j o K h R q=>by unfold Km at h;rw[FQ]at h;obtain⟨⟨z,fr⟩,u,y⟩:=h;exact⟨Z,_,j,_,_,M,z,fr,b,R,u,y,q⟩
section
variable {tp:Bool} {it cond elt:IE} {tg:gd} {ex tgt iter ec:Expr} {scope:Scope} {own:List (Str×Nat)} {pos:Pos}
def Jc(m:Mo G T cl gv k X)(o:∀i∈tg,i∈own.map (·.2))(u:∀i∈own.map (·.2),i∈tg)(J:tg.length=MC it)(h:tI G T cl (.lc tg it elt) σ H Q):SA (tW G T cl tp it) (gT X.K tp tg) V_ (tI G T cl elt) (own.map (·.2)) σ H Q:=by obtain⟨Z,F,D,B,e,M,x,fr,R,h,q⟩:=h;obtain⟨y,xs,V,E,L,O,rfl,rfl⟩:=PJ h;have P:=R.no y;subst P;refine Rh o u m.K R y E L (c:=λ_=>some true) (f:=cZ T cl e M tg elt) (by rw[BK];exact O) (λx U=>by rw[J];exact CQ E x U) (λx b σ' j I K Y S C=> ?_) MD λv j s r n=>q v j s r λ_=>n;cases Y;exact C j (Sm.refl j)
def Zz(m:Mo G T cl gv k X)(r:PI X tgt iter (tW G T cl tp it))(u:tK X.N X.env.scope scope own)(y:∀s H C c j,PG (X.lM s H scope (compEnvC scope c C X.env) j) tgt (gT X.K tp tg)) (he:∀s H C c j,PE (X.lM s H scope (compEnvC scope c C X.env) j) ex (tI G T cl elt))(o:∀i∈tg,i∈own.map (·.2))(q:∀i∈own.map (·.2),i∈tg)(B:tg.length=MC it)(E:∀x,foldedSetIterable iter X.env x=pure x):PE X (.ListComp ex [⟨tgt,iter,[],0⟩] scope pos) (tI G T cl (.lc tg it elt)):=(Ra m.calm m.nd r u y (λ_ _ _ _ _=>HV) he E).weak λσ H Q h=>Jc m o q B h
def BL(m:Mo G T cl gv k X)(c:∀i∈tg,i∈own.map (·.2))(j:∀i∈own.map (·.2),i∈tg)(y:tg.length=MC it)(h:tI G T cl (.rm tg it cond elt) σ H Q):SA (tW G T cl tp it) (gT X.K tp tg) (tT G T cl cond) (tI G T cl elt) (own.map (·.2)) σ H Q:=by obtain⟨Z,U,Y,B,e,M,x,fr,R,h,q⟩:=h;obtain⟨o,xs,C,u,E,J,rfl,rfl⟩:=Kw h;have L:=R.no o;subst L;exact Rh c j m.K R o u E J (λx O=>by rw[y];exact CQ u x O) Tf MD λv P s r n=>q v P s r λ_=>n
def Tg(m:Mo G T cl gv k X)(r:PI X tgt iter (tW G T cl tp it))(u:tK X.N X.env.scope scope own)(y:∀s H C c j,PG (X.lM s H scope (compEnvC scope c C X.env) j) tgt (gT X.K tp tg)) (B:∀s H C c j,PT (X.lM s H scope (compEnvC scope c C X.env) j) ec (tT G T cl cond)) (he:∀s H C c j,PE (X.lM s H scope (compEnvC scope c C X.env) j) ex (tI G T cl elt))(o:∀i∈tg,i∈own.map (·.2))(q:∀i∈own.map (·.2),i∈tg)(E:tg.length=MC it)(J:∀x,foldedSetIterable iter X.env x=pure x):PE X (.ListComp ex [⟨tgt,iter,[ec],0⟩] scope pos) (tI G T cl (.rm tg it cond elt)):=(Ra m.calm m.nd r u y (λs H C c j=>HW (B s H C c j)) he J).weak λσ H Q h=>BL m o q E h
end
end
section
def _root_.L2.PS.weak(h:PS X st t)(w:∀D σ H,t' D σ H->t D σ H):PS X st t':=λpins s σ H Dn I q=>h pins s σ H Dn I (w _ _ _ q)
def _root_.L2.gG.weak(h:gG X st t)(w:∀D σ H,t' D σ H->t D σ H):gG X st t':=λpins s σ H Dn I q=>h pins s σ H Dn I (w _ _ _ q)
def _root_.L2.PB.weak(h:PB X st t)(w:∀D σ H,t' D σ H->t D σ H):PB X st t':=λs σ H Dn I q=>h s σ H Dn I (w _ _ _ q)
def GI(G:Gx)(Z:Zx)(j:oj)(h:Hp)(Dn:Ends):Out->Prop
 |.nx e' M'=>∀σ' o c,Rel G Z j h o σ' e' c M'->Dn.nx σ' c
 |.rt v fr M'=>∀u c,m9 G Z h c->lD G Z c M'->Rep G Z j c v u->(fr=true->Wh h u)->Dn.rt u c
variable (G T cl) in
inductive EvS(ir:IS)(Dn:Ends)(σ:L2.St)(H:Hp):Prop
 |mk (Z:Zx) (B0:oj) (H0:Hp) (B:oj) (e:Ev) (M:gc) (o:Out) (R:Rel G Z B0 H0 B σ e H M) (h:d8 T cl ir e M=some o) (q:GI G Z B0 H0 Dn o):EvS ir Dn σ H
variable (G T cl) in
def tS(c:IS):TS:=EvS G T cl c
def iN{h:Stmt}{c:TyM}{t:TS}{j r:IS}(o:PS X h t)(q:gG X c (tS G T cl r))(w:∀Dn σ H,tS G T cl j Dn σ H->t {Dn with nx:=tS G T cl r Dn} σ H):gG X (h::c) (tS G T cl j):=(c9 o q).weak w
def Jd(c:PS X st t)(w:∀Dn σ H,tS G T cl h Dn σ H->t Dn σ H):gG X [st] (tS G T cl h):=(om c).weak w
def WU:gG X [] (tS G T cl .nil):=HD.weak λDn σ H c=>by obtain⟨Z,j,r,B,e,M,o,R,h,q⟩:=c;simp only[Iw,aD]at h;subst h;exact q σ B H R
def WW{x j pos pos'}{c:TyM}{r:IS}(h:gG X c (tS G T cl r)):gG X (.Expr (.Constant (.str x) j pos) pos'::c) (tS G T cl r):=(c9 Ls h).weak λDn σ H q=>q
def CS{i:Nat}{a:IE}{r:IS}{Dn:Ends}{K:TS}(h:tS G T cl (.set i a r) Dn σ H)(u:∀σ H,tS G T cl r Dn σ H->K Dn σ H):tI G T cl a σ H λv c=>K Dn (σ.set i (some v)) c:=by obtain⟨Z,j,s,B,e,M,o,R,h,q⟩:=h;rw[Iy]at h;split at h;rename_i x fr y;split at h;rename_i E;exact⟨Z,j,s,B,e,M,x,fr,R,y,λv c J L _=>u _ _ ⟨Z,j,s,B,_,M,o,(R.same J).put E L,h,q⟩⟩;cases h;cases h
def Ri{i:Nat}{x:Str}{a:IE}{r:IS}{j:Expr}{c:TyM}{p pos:Pos}(m:Mo G T cl gv k X)(o:X.N[i]?=some x)(s:Loc X.env.scope x)(u:(X.fn x=true/\X.fz x=false)\/X.env.scope.names.lookup x=some .local) (y:swapsWith j (some (.Name x p)) pos.line X.env=pure false)(B:PE X j (tI G T cl a))(E:gG X c (tS G T cl r)):gG X (.Assign [.Name x p] j pos::c) (tS G T cl (.set i a r)):=iN (yY m.nd o s B y u) E λDn σ H h=>CS (K:=tS G T cl r) h λ_ _ q=>q
def PK{i:Nat}{x:Str}{r:IS}{o:TyM}{p pos u:Pos}{Y:Bool}{E B:IE}{tg:gd}{J j c:Expr}{scope:Scope}{y:List (Str×Nat)}(m:Mo G T cl gv k X)(Z:X.N[i]?=some x)(F:X.env.scope.names.lookup x=some .local) (D:swapsWith (.ListComp J [⟨j,c,[],0⟩] scope pos) (some (.Name x p)) u.line X.env=pure true)(V:PI X j c (tW G T cl Y E))(R:tK X.N X.env.scope scope y)(I:∀s H C L M,PG (X.lM s H scope (compEnvC scope L C X.env) M) j (gT X.K Y tg)) (he:∀s H C L M,PE (X.lM s H scope (compEnvC scope L C X.env) M) J (tI G T cl B))(O:∀i∈tg,i∈y.map (·.2))(P:∀i∈y.map (·.2),i∈tg)(S:tg.length=MC E)(U:∀x,foldedSetIterable c X.env x=pure x)(A:gG X o (tS G T cl r)):gG X (.Assign [.Name x p] (.ListComp J [⟨j,c,[],0⟩] scope pos) u::o) (tS G T cl (.set i (.lc tg E B) r)):=iN (D2 m.calm m.nd Z F D V R I (λ_ _ _ _ _=>HV) he U) A λDn σ H h=>Jc (Q:=λv W=>tS G T cl r Dn (σ.set i (some v)) W) m O P S (CS (K:=tS G T cl r) h λ_ _ q=>q)
def Kx{i:Nat}{x:Str}{r:IS}{o:TyM}{p pos u:Pos}{F:Bool}{M y L:IE}{tg:gd}{O j c P:Expr}{scope:Scope}{B:List (Str×Nat)}(m:Mo G T cl gv k X)(D:X.N[i]?=some x)(V:X.env.scope.names.lookup x=some .local) (R:swapsWith (.ListComp O [⟨j,c,[P],0⟩] scope pos) (some (.Name x p)) u.line X.env=pure true)(I:PI X j c (tW G T cl F M))(S:tK X.N X.env.scope scope B)(A:∀s H C E J,PG (X.lM s H scope (compEnvC scope E C X.env) J) j (gT X.K F tg)) (W:∀s H C E J,PT (X.lM s H scope (compEnvC scope E C X.env) J) P (tT G T cl y)) (he:∀s H C E J,PE (X.lM s H scope (compEnvC scope E C X.env) J) O (tI G T cl L))(U:∀i∈tg,i∈B.map (·.2))(Y:∀i∈B.map (·.2),i∈tg)(a:tg.length=MC M)(Z:∀x,foldedSetIterable c X.env x=pure x)(b:gG X o (tS G T cl r)):gG X (.Assign [.Name x p] (.ListComp O [⟨j,c,[P],0⟩] scope pos) u::o) (tS G T cl (.set i (.rm tg M y L) r)):=iN (D2 m.calm m.nd D V R I S A (λs H C E J=>HW (W s H C E J)) he Z) b λDn σ H h=>BL (Q:=λv d=>tS G T cl r Dn (σ.set i (some v)) d) m U Y a (CS (K:=tS G T cl r) h λ_ _ q=>q)
def ME(j:(ints? xs).isSome=true)(r:az G Z B H xs vs)(o)(q):az G Z o q xs vs:=by
 obtain⟨l,c⟩:=FL.mp j;have s:=az.mF c r;subst s;have:∀{xs:lC} {l:List Int},ints? xs=some l->xs=l.map SV.int:=by
  intro xs;induction xs with
  |nil=>intro l h;simp only[ints?,aD]at h;subst h;rfl
  |cons x xs u=>
   intro l h;cases x with
   |int i=>
    simp only[ints?,bR]at h;obtain⟨E,y,rfl⟩:=h;rw[u y];rfl
   |_=>simp[ints?]at h
 rw[this c];exact az.ints l
def Rj{i:Nat}{x:Str}{a:IE}{r:IS}{Q:Expr}{s:TyM}{p pos:Pos}(m:Mo G T cl gv k X)(d:X.N[i]?=some x)(f:Loc X.env.scope x)(l:(X.fn x=true/\X.fz x=false)\/X.env.scope.names.lookup x=some .local) (t:swapsWith Q (some (.Name x p)) pos.line X.env=pure false)(w:PE X Q (tI G T cl a))(hr:gG X s (tS G T cl r)):gG X (.Assign [.Name x p] Q pos::s) (tS G T cl (.own i a r)):=iN (yY m.nd d f w t l) hr λDn σ H U=>by
  obtain⟨Z,B0,L,B,e,M,o,R,h,q⟩:=U;rw[Iz]at h;split at h
  ·rename_i xs h1;split at h
   ·rename_i I;simp only[aB,DL,bG]at I;obtain⟨hi,ho,u⟩:=I;have hB:=R.no ho;subst hB;refine⟨Z,B,L,B,e,M,_,true,R,h1,λv H1 S A hn=> ?_⟩;obtain⟨p,rfl,O⟩:=hn rfl;simp only[Rep]at A;obtain⟨p',vs,ep,Y,g,rl⟩:=A;cases ep;have E:=R.same S;have kp:m8 B (p::B) H H1:=λb P h' n Y=>⟨S.kp b P h' n,λz=>(aA.mp z).elim (λz=>by rw[z,O]at h';cases h') Y⟩;have C:L p=none:=by
     cases K:L p with
     |none=>rfl
     |some P=>
      by_cases W:p∈Z.ma
      ·exact absurd (R.zH p W) (R.fresh O)
      ·rcases P.BE with n|⟨ps,rfl⟩
       ·have:=R.ext.kp p P K n W;rw[O]at this;cases this
       ·obtain⟨_,this⟩:=R.ext.tb p ps K;rw[O]at this;cases this
    refine⟨Z,B,L,p::B,_,M,o,⟨?_,E.xO,E.ext,E.tab,E.i_,E.zH,λj y c=> ?_,λz=> ?_,λj ys c=> ?_,λj ys c=> ?_⟩,h,q⟩
    ·show(σ.set i _).length=(e.vals.set i none).length;rw[nZ,nZ];exact R.len
    ·have J:j≠i:=λz=>by
      subst z
      unfold Ev.get at c
      simp only[pY u,yl]at c
      cases c
     have F:e.get j=some y:=by unfold Ev.get at c|-;simp only[m1 (λz=>J z.symm)]at c;exact c
     obtain⟨v,D,V⟩:=R.val j y F
     exact⟨v,by rw[m1 (λz=>J z.symm)];exact D,V.keep kp⟩
    ·cases z
    ·cases c;unfold Ev.get;simp only[pY u,yl]
    ·cases c;exact⟨p,vs,rfl,by rw[pY (by rw[R.len];exact u)],Y,C,g,ME hi rl _ _⟩
   ·cases h
  ·cases h
def Th(h:tS G T cl (.pj i r) Dn σ H):tS G T cl r Dn σ H:=by
 obtain⟨Z,u,X,B,e,M,o,R,h,q⟩:=h;rw[IA]at h;split at h;rename_i j xs Y;split at h;rename_i E;subst E;obtain⟨a,vs,rfl,Q,C,S,F,D⟩:=R.ow _ xs Y;have U:m8 (a::u) u H H:=λb A h' n V=>⟨h',λz=>V (d7 _ z)⟩;have J:i<e.vals.length:=by have:=(ph.mp Q).1;rw[R.len]at this;exact this
 refine⟨Z,u,X,u,_,M,o,⟨?_,R.xO,R.ext,R.tab,R.i_,R.zH,λj y c=> ?_,λ_=>rfl,(λj I c=>by cases c),λj I c=>by cases c⟩,h,q⟩;show σ.length=(e.vals.set i _).length;rw[nZ];exact R.len;by_cases s:j=i;subst s;unfold Ev.get at c;simp only[pY J,yl]at c;cases c;refine⟨.ref a,Q,?_⟩;simp only[Rep];exact⟨a,vs,rfl,C,F,D.keep U⟩;have L:e.get j=some y:=by unfold Ev.get at c|-;simp only[m1 (λz=>s z.symm)]at c;exact c
 obtain⟨v,O,P⟩:=R.val j y L;exact⟨v,O,P.keep U⟩;cases h;cases h
def WX(c:gG X st (tS G T cl r)):gG X st (tS G T cl (.pj i r)):=c.weak λ_ _ _ h=>Th h
def Rel.wr(R:Rel G Z B0 H0 (a::B0) σ e H M)(D:e.own=some (i,xs))(P:σ[i]?=some (some (.ref a)))(Q:a∉B0)(U:H0 a=none)(E:∃vs,H a=some (.lst vs))(r:az G Z (a::B0) H X u):Rel G Z B0 H0 (a::B0) σ {e with own:=some (i,X)} (upd H a (.lst u)) M:=by
 obtain⟨K,E⟩:=E;have kp:m8 (a::B0) (a::B0) H (upd H a (.lst u)):=λb o h n C=>⟨by rw[ao (λz=>C (by rw[z];exact kz))];exact h,C⟩;have c:∀b ps,H b=some (.uW ps)->b≠a:=λb ps h z=>by rw[z,E]at h;cases h
 refine⟨R.len,λb O=> ?_,⟨λb o h n m=> ?_,λb ps h=> ?_,λV=> ?_⟩,?_,?_,R.zH,λj y J=> ?_,λz=> ?_,λj I J=> ?_,λj I J=> ?_⟩;unfold Std;rw[ao (λz=>Q (by rw[<-z];exact O))];exact R.xO b O;rw[ao (aE h U)];exact R.ext.kp b o h n m;rw[ao (aE h U)];exact R.ext.tb b ps h;have:=R.ext.ta V;intro t Y;rcases this t Y with h|⟨T,B,s⟩;exact .inl (by rw[ao (c _ _ h)];exact h);exact .inr ⟨T,by rw[ao (c _ _ B)];exact B,by rw[ao (λz=>by rw[z,E]at s;cases s)];exact s⟩;intro t Y;rcases R.tab t Y with h|⟨T,B,s⟩;exact .inl (by rw[ao (c _ _ h)];exact h);exact .inr ⟨T,by rw[ao (c _ _ B)];exact B,by rw[ao (λz=>by rw[z,E]at s;cases s)];exact s⟩;have F:∀b∈Z.ma,b≠a:=λb O z=>Q (by rw[<-z];exact R.zH b O);rcases R.i_ with⟨L,S,A,q⟩|q;have ma:Z.pm∈Z.ma/\∀j,Z.pl j∈Z.ma:=by simp only[Zx.ma,L];exact⟨by simp,λj=>by cases j<;>simp⟩
 exact .inl ⟨L,S,A,by rw[ao (F _ ma.1)];exact q.ob,λj=>by rw[ao (F _ (ma.2 j))];exact q.ls j,q.nv,q.np,q.ns⟩;exact .inr q;obtain⟨v,B,s⟩:=R.val j y J;exact⟨v,B,s.keep kp⟩;cases z;cases J;exact R.on _ xs D;cases J;exact⟨a,u,rfl,P,Q,U,aC,r.keep kp⟩
end
section
variable {G:Gx} {T:pG} {cl:D8} {gv:Nat->xu} {k:Nat} {X:Cx} {Z:Zx} {B B0:oj} {H H0 H1 H':Hp} {σ:L2.St} {e:Ev} {M M':gc}
def Zx.Rk(c:Z.on=true):Z.pm∈Z.ma/\∀j,Z.pl j∈Z.ma:=by simp only[Zx.ma,c];exact⟨by simp,λj=>by cases j<;>simp⟩
def Rel.MF(R:Rel G Z B0 H0 B σ e H M):∀b∈Z.ma,b∈B:=λb c=>by
 have:=R.zH b c;cases h:e.own with
 |none=>rw[R.no h];exact this
 |some p=>
  obtain⟨i,j⟩:=p;obtain⟨a,_,o,_⟩:=R.ow i j h;rw[o];exact d7 _ this
def Rel.after(R:Rel G Z B0 H0 B σ e H M)(k:m9 G Z H H')(y:lD G Z H' M'):Rel G Z B0 H0 B σ e H' M':=by have kp:m8 B B H H':=λb o h n E=>⟨k.kp b o h n λz=>E (R.MF b z),E⟩;refine⟨R.len,λb L=> ?_,R.ext.trans k,k.ta R.tab,y,R.zH,λi x h=>let ⟨v,r,s⟩:=R.val i x h;⟨v,r,s.keep kp⟩,R.no,R.on,λi xs h=> ?_⟩;obtain⟨o,h,O⟩:=R.xO b L;by_cases j:b∈Z.ma;rcases y with⟨u,m,_,q⟩|⟨c,_⟩;simp only[Zx.ma,u,c6,aA,lK,jP]at j;rcases j with rfl|rfl|rfl|rfl;exact Std.ins q.ob;exact Std.lst (q.ls _);exact Std.lst (q.ls _);exact Std.lst (q.ls _);simp[Zx.ma,c]at j;rcases o.BE with n|⟨ps,rfl⟩;exact⟨o,k.kp b o h n j,O⟩;obtain⟨_,q⟩:=k.tb b ps h;exact⟨_,q,λ_ z=>nomatch z⟩;obtain⟨a,vs,r,s,J,P,Q,U⟩:=R.ow i xs h;exact⟨a,vs,r,s,J,P,k.kp _ _ Q (dk _) λz=>J (R.zH a z),U.keep kp⟩
def MG(o):PIp X (Ew o) (rB o):=λpins s σ H x y v u Q I c h q=>Ml o pins s σ H x y v u Q I c h q
def WY{i:Nat}{x:Str}{o:Gk}{a:IE}{r:IS}{L:Expr}{c:TyM}{p pos:Pos}(m:Mo G T cl gv k X)(Y:X.N[i]?=some x)(C:Loc X.env.scope x)(F:(X.fn x=true/\X.fz x=false)\/X.env.scope.names.lookup x=some .local) (D:PE X L (tI G T cl a))(V:gG X c (tS G T cl r)):gG X (.AugAssign (.Name x p) (Ew o) L pos::c) (tS G T cl (.aug i o a r)):=iN (RV m.nd Y C D (MG o) F) V λDn σ H E=>by
  obtain⟨Z,B0,H0,B,e,M,I,R,h,q⟩:=E;rw[IB]at h;split at h;rename_i x y fr O S;split at h;rename_i z A;obtain⟨v,P,Q⟩:=R.val i _ O;simp only[Rep]at Q;subst Q;refine⟨_,P,Z,B0,H0,B,e,M,_,fr,R,S,λw H1 K U _=> ?_⟩;simp only[Rep]at U;subst U;have u:i<e.vals.length:=by have:=(ph.mp P).1;rw[R.len]at this;exact this
  have s:e.free i=true:=by
   unfold Ev.free;cases W:e.own with
   |none=>simpa using u
   |some p=>
    obtain⟨j,b⟩:=p;have J:i≠j:=λz=>by have:=R.on j b W;rw[<-z,O]at this;cases this
    simp[u,J]
  exact⟨x,y,z,rfl,rfl,A,Z,B0,H0,B,_,M,I,(R.same K).put s (by simp[Rep]),h,q⟩;cases h;cases h
def WZ{i:Nat}{x:Str}{a:IE}{r:IS}{y:Expr}{c:TyM}{p E J pos:Pos}(m:Mo G T cl gv k X)(I:X.N[i]?=some x)(S:DP X.env.scope x)(A:(x=="__debug__")=false)(L:(x=="__classdict__")=false)(o:notStar y=true)(s:(E.endLine==J.line)=true) (O:swapsWith (.Call (.Attribute (.Name x p) "append" E) [y] [] J) none pos.line X.env=pure false)(K:PE X y (tI G T cl a))(W:gG X c (tS G T cl r)):gG X (.Expr (.Call (.Attribute (.Name x p) "append" E) [y] [] J) pos::c) (tS G T cl (.app i a r)):=iN (u_ (LP FR PySem.F.slot_list_append PySem.F.type_list_append J4 (rf I S A L) (Og o K) (pJ rfl) (rE (by simp[o]) (by simp)) s (ai o) rfl) O) W λDn σ H P=>by
  obtain⟨Z,B0,H0,B,e,M,b,R,h,q⟩:=P;rw[IC]at h;split at h
  ·rename_i j xs x fr U d;split at h
   ·rename_i f;obtain⟨rfl,u⟩:=f;obtain⟨g,vs,rfl,Y,l,n,C,D⟩:=R.ow _ xs U;refine⟨_,Y,.inl ⟨rfl,_,dr.of C⟩,Z,B0,H0,_,e,M,x,fr,R,d,λv H1 Q t _=> ?_⟩;have V:=Q.kp _ _ C (dk _);refine⟨g,vs,v,rfl,rfl,V,?_,?_⟩
    ·rw[<-D.length,oh];simp only[b6]at u;omega
    ·refine⟨Z,B0,H0,_,_,M,b,(R.same Q).wr U Y l n ⟨_,V⟩ ((D.same Q).append ?_),h,q⟩;simp only[az];exact⟨v,[],rfl,t,rfl⟩
   ·cases h
  ·cases h
def W0{i:Nat}{x:Str}{a:IE}{r:IS}{y:Expr}{c:TyM}{p E J pos:Pos}(m:Mo G T cl gv k X)(A:X.N[i]?=some x)(K:DP X.env.scope x)(W:(x=="__debug__")=false)(L:(x=="__classdict__")=false)(o:notStar y=true)(s:(E.endLine==J.line)=true) (O:swapsWith (.Call (.Attribute (.Name x p) "extend" E) [y] [] J) none pos.line X.env=pure false)(d:PE X y (tI G T cl a))(f:gG X c (tS G T cl r)):gG X (.Expr (.Call (.Attribute (.Name x p) "extend" E) [y] [] J) pos::c) (tS G T cl (.ext i a r)):=iN (u_ (LP FR PySem.F.slot_list_extend PySem.F.type_list_extend J5 (rf A K W L) (Og o d) (pJ rfl) (rE (by simp[o]) (by simp)) s (ai o) rfl) O) f λDn σ H P=>by
  obtain⟨Z,B0,H0,B,e,M,g,R,h,q⟩:=P;rw[ID]at h;split at h
  ·rename_i j xs ys fr U l;split at h
   ·rename_i n;obtain⟨rfl,u⟩:=n;obtain⟨t,vs,rfl,Y,w,z,C,D⟩:=R.ow _ xs U;refine⟨_,Y,.inl ⟨rfl,_,dr.of C⟩,Z,B0,H0,_,e,M,_,fr,R,l,λv H1 Q V _=> ?_⟩;have I:=Q.kp _ _ C (dk _);simp only[Rep]at V;obtain⟨b,ws,rfl,nb,gb,S⟩:=V;refine⟨t,b,vs,ws,rfl,rfl,I,gb,?_,?_⟩
    ·rw[<-D.length,<-S.length,oh];simp only[b6]at u;omega
    ·exact⟨Z,B0,H0,_,_,M,g,(R.same Q).wr U Y w z ⟨_,I⟩ ((D.same Q).append S),h,q⟩
   ·cases h
  ·cases h
def Je{n:Nat}{i:Int}(c:0<=i)(h:i<n):OR n i=some i.toNat:=by unfold OR;rw[ae c,ae h]
def W2{i:Nat}{x:Str}{P a:IE}{r:IS}{s E:Expr}{c:TyM}{p u pos:Pos}(m:Mo G T cl gv k X)(hN:X.N[i]?=some x)(hv:DP X.env.scope x)(hd:(x=="__debug__")=false)(I:(x=="__classdict__")=false) (S:PG X (.Subscript (.Name x p) s u) (RT (yX i) (tI G T cl P) LN))(A:swapsWithSole [.Subscript (.Name x p) s u] E pos.line X.env=pure false)(K:swappedStores [.Subscript (.Name x p) s u] E X.env=pure none) (W:(assignEach [.Subscript (.Name x p) s u] X.env).map (·.2)=[assign (.Subscript (.Name x p) s u) X.env])(b:PE X E (tI G T cl a))(d:gG X c (tS G T cl r)):gG X (.Assign [.Subscript (.Name x p) s u] E pos::c) (tS G T cl (.put i P a r)):=iN (Lx b S A K W) d λDn σ H J=>by
  obtain⟨Z,B0,H0,B,e,M,f,R,h,q⟩:=J;rw[IF]at h;split at h
  ·rename_i j xs y g n l Q t z;split at h
   ·rename_i hc;obtain⟨rfl,L,O⟩:=hc;obtain⟨a',vs,rfl,U,h3,h4,h5,Y⟩:=R.ow _ xs Q;refine⟨Z,B0,H0,_,e,M,_,g,R,t,λv H1 C r1 _=>⟨_,U,Z,B0,H0,_,e,M,_,l,R.same C,z,λw H2 F D _=> ?_⟩⟩;simp only[Rep]at D;subst D;have o:=C.trans F;have V:=o.kp _ _ h5 (dk _);refine⟨a',vs,n,n.toNat,rfl,rfl,V,Je L (by rw[<-Y.length];exact O),?_⟩;exact⟨Z,B0,H0,_,_,M,f,(R.same o).wr Q U h3 h4 ⟨_,V⟩ (az.set (r1.same F) _ (Y.same o)),h,q⟩
   ·cases h
  ·cases h
def lD.putL(L:lD G Z H (some m)):lD G Z (upd H (Z.pl j) (.lst (l.map V.int))) (some (m.put j l))/\m9 G Z H (upd H (Z.pl j) (.lst (l.map V.int))):=by
 obtain⟨r,q⟩:=L.get rfl;have s:Z.pm≠Z.pl j:=λz=>by have:=q.ob;rw[z,q.ls]at this;cases this
 refine⟨.inl ⟨r,_,rfl,?_,λc=> ?_,q.nv,q.np,q.ns⟩,⟨λb o h n O=> ?_,λb ps h=> ?_,λP t Q=> ?_⟩⟩;rw[ao s];have:(m.put j l).f=m.f:=by cases j<;>rfl
 rw[this];exact q.ob;by_cases u:c=j;subst u;rw[aC];cases c<;>rfl;have y:Z.pl c≠Z.pl j:=by cases c<;>cases j<;>first|exact absurd rfl u|exact q.nv|exact q.nv.symm|exact q.np|exact q.np.symm|exact q.ns|exact q.ns.symm
 rw[ao y];have:(m.put j l).get c=m.get c:=by cases c<;>cases j<;>first|rfl|exact absurd rfl u
 rw[this];exact q.ls c;rw[ao (λz=>O (by rw[z];exact(Zx.Rk r).2 j))];exact h;rw[ao (λz=>by rw[z,q.ls]at h;cases h)];exact⟨ps,h⟩;rcases P t Q with h|⟨U,E,J⟩;exact .inl (by rw[ao (λz=>by rw[z,q.ls]at h;cases h)];exact h);exact .inr ⟨U,by rw[ao (λz=>by rw[z,q.ls]at E;cases E)];exact E,by rw[ao (λz=>by rw[z,q.ls]at J;cases J)];exact J⟩
def Ti{i:Nat}{j:ML}{U a:IE}{r:IS}{o s J:Expr}{c:TyM}{E pos:Pos}(m:Mo G T cl gv k X) (S:PG X (.Subscript o s E) (RT (tI G T cl (.Od (.v i) j)) (tI G T cl U) LN))(A:swapsWithSole [.Subscript o s E] J pos.line X.env=pure false)(K:swappedStores [.Subscript o s E] J X.env=pure none) (N:(assignEach [.Subscript o s E] X.env).map (·.2)=[assign (.Subscript o s E) X.env])(W:PE X J (tI G T cl a))(b:gG X c (tS G T cl r)):gG X (.Assign [.Subscript o s E] J pos::c) (tS G T cl (.Cy i j U a r)):=iN (Lx W S A K N) b λDn σ H L=>by
  obtain⟨Z,B0,H0,B,e,M,d,R,h,q⟩:=L;rw[Ek]at h;split at h
  ·rename_i O y f n g p t x;split at h
   ·rename_i Y;refine⟨Z,B0,H0,B,e,_,_,f,R,t,λv H1 P C _=>⟨Z,B0,H0,B,e,_,.ml j,false,R.same P,by simp only[qP,eI,yu,p,g_,Rs,c6],λw H2 F D _=>⟨Z,B0,H0,B,e,_,_,g,(R.same P).same F,x,λu H3 z I _=> ?_⟩⟩⟩;simp only[Rep]at C D I;subst C;subst I;obtain⟨rfl,za⟩:=D;have Q:=((R.same P).same F).same z;obtain⟨_,MR⟩:=Q.i_.get rfl;refine⟨Z.pl j,_,n,n.toNat,rfl,rfl,MR.ls j,Je Y.1 (by rw[aP];exact Y.2),?_⟩;have e3:((O.get j).map V.int).set n.toNat (V.int y)=((O.get j).set n.toNat y).map V.int:=by rw[List.map_set]
    rw[e3];obtain⟨p1,p2⟩:=Q.i_.putL (j:=j) (l:=(O.get j).set n.toNat y);exact⟨Z,B0,H0,B,e,_,d,Q.after p2 p1,h,q⟩
   ·cases h
  ·cases h
def MH(Z)(f y):oI "flags" (.int y) (tR Z f)=tR Z y:=by
 unfold tR;have c:¬(("vectors":Str)="flags"):=by decide+kernel
 have h:¬(("predicates":Str)="flags"):=by decide+kernel
 have j:¬(("scalars":Str)="flags"):=by decide+kernel
 simp only[oI,ab c,ab h,ab j,c6]
def Tj{i:Nat}{x:Str}{a:IE}{r:IS}{J:Expr}{c:TyM}{p P pos:Pos}(m:Mo G T cl gv k X)(F:PE X (.Name x p) (tI G T cl (.v i))) (D:swapsWith J (some (.Attribute (.Name x p) "flags" P)) pos.line X.env=pure false)(V:PE X J (tI G T cl a))(I:gG X c (tS G T cl r)):gG X (.Assign [.Attribute (.Name x p) "flags" P] J pos::c) (tS G T cl (.Kl i a r)):=iN (iK F V D) I λDn σ H L=>by
  obtain⟨Z,B0,H0,B,e,M,S,R,h,q⟩:=L;rw[El]at h;split at h
  ·rename_i mm y A K N;refine⟨Z,B0,H0,B,e,_,_,A,R,N,λv H1 Q U _=>⟨Z,B0,H0,B,e,_,.d5,false,R.same Q,by simp only[qP,eI,K,g_],λw H2 W Y _=> ?_⟩⟩;simp only[Rep]at U Y;subst U;obtain⟨rfl,E⟩:=Y;have C:=(R.same Q).same W;obtain⟨_,o⟩:=C.i_.get rfl;refine⟨Z.pm,G.CM,Z.dm,_,rfl,o.ob,m.Eu,m.Rf,by show 4<1000;decide,?_⟩;rw[MH];have O:∀j,Z.pl j≠Z.pm:=λj z=>by have:=o.ls j;rw[z,o.ob]at this;cases this
   have ob:=o.ob;refine⟨Z,B0,H0,B,e,_,S,C.after ⟨λb o' h' n d=> ?_,λb ps h'=> ?_,λf t g=> ?_⟩ (.inl ⟨E,_,rfl,aC,λj=>by rw[ao (O j)];exact o.ls j,o.nv,o.np,o.ns⟩),h,q⟩
   ·rw[ao (λz=>d (by rw[z];exact(Zx.Rk E).1))];exact h'
   ·rw[ao (λz=>by rw[z,ob]at h';cases h')];exact⟨ps,h'⟩
   ·rcases f t g with h'|⟨l,s,u⟩
    ·exact .inl (by rw[ao (λz=>by rw[z,ob]at h';cases h')];exact h')
    ·exact .inr ⟨l,by rw[ao (λz=>by rw[z,ob]at s;cases s)];exact s,by rw[ao (λz=>by rw[z,ob]at u;cases u)];exact u⟩
  ·cases h
end
def vx(R:Rel G Z B0 j B σ e H M)(o:vs.length=(G.ps f).length)(r:az G Z B H xs vs)(s:cl f xs M=some (x,fr,h))(q:∀v c,Rel G Z B0 j B σ e c h->Q v c):Gy G cl f vs H Q E0:=⟨o,Z,B,xs,M,x,fr,h,R.Kp,R.MF,r,R.i_,R.tab,s,λv c u _ y _=>q v c (R.after u y)⟩
def W3{f:F}{o as:IE}{r:IS}{y:Str}{Y:Pos}{E:Expr}{J:lj}{C D pos:Pos}{j:TyM}(m:Mo G T cl gv k X)(L:G.aI f=true)(c:(E::J).all notStar=true)(d:(E::J).length<30)(u:(C.endLine==D.line)=true) (V:swapsWith (.Call (.Attribute (.Name y Y) (G.nm f) C) (E::J) [] D) none pos.line X.env=pure false)(I:∀e M xs,ks T cl e M as=some xs->xs.length≠(G.ps f).length)(g:PE X (.Name y Y) (tI G T cl o))(i:PA X (E::J) (Kq G T cl as))(l:gG X j (tS G T cl r)):gG X (.Expr (.Call (.Attribute (.Name y Y) (G.nm f) C) (E::J) [] D) pos::j) (tS G T cl (.ex f o as r)):=by
 obtain⟨n,p⟩:=m.Mh f (.inr L);have O:=c;rw[fC,aB]at c;refine iN (u_ (HM (pl:=_) g m.Eu (m.met f L) n m.room p .nil m4 i (ai c.1) (fg c.2) (Ez O d u)) V) l λDn σ H ⟨Z,B0,H0,B,e,M,oo,R,h,q⟩=> ?_;rw[Gs]at h;split at h
 ·rename_i N xs W S;split at h
  ·rename_i t A a U;refine⟨Z,B0,H0,B,e,M,_,N,R,W,λv H1 w b _=> ?_⟩;simp only[Rep]at b;obtain⟨rfl,P⟩:=b;have K:=R.same w;rcases K.i_ with⟨_,mm,x,z⟩|⟨s,x⟩
   ·refine⟨Z.pm,Z.dm,_,rfl,z.ob,m.Yx f Z _ L,Z,B0,H0,B,e,M,xs,K,S,λvs H2 s2 r2=> ?_⟩;have Q:az G Z B H2 (.d5::xs) (.ref Z.pm::vs):=by simp only[az];exact⟨_,vs,rfl,by simp[Rep,P],r2⟩
    dsimp only;rw[kZ];exact vx (K.same s2) (by rw[<-Q.length];exact m.ar f _ M _ U (.inr (.inl L))) Q U λ_ H3 R3=>⟨Z,B0,H0,B,e,a,oo,R3,h,q⟩
   ·rw[P]at s;cases s
  ·cases h
 ·rename_i N xs W S;split at h
  ·rename_i t A a U;exact absurd (m.ar f _ M _ U (.inr (.inl L))) (I _ _ _ S)
  ·cases h
 ·cases h
def W4{f:F}{as:IE}{r:IS}{o:Expr}{s:lj}{p E pos:Pos}{c:TyM}(m:Mo G T cl gv k X)(u:G.glob f=true)(Q:Gl X (G.nm f))(j:(o::s).all notStar=true) (y:swapsWith (.Call (.Name (G.nm f) p) (o::s) [] E) none pos.line X.env=pure false)(U:PA X (o::s) (Kq G T cl as))(Y:gG X c (tS G T cl r)):gG X (.Expr (.Call (.Name (G.nm f) p) (o::s) [] E) pos::c) (tS G T cl (.ex f .cw as r)):=by
 obtain⟨C,D,V⟩:=m.SQ f u;obtain⟨I,S⟩:=m.Mh f (.inl u);rw[fC,aB]at j;refine iN (u_ (mE I m.room Q C D S .nil m4 U V (ai j.1) (fg j.2)) y) Y λDn σ H ⟨Z,B0,H0,B,e,M,oo,R,h,q⟩=> ?_;rw[Gs]at h;split at h
 ·rename_i A xs J L;simp[qP,eI,Gp,CA,vm,Gr,yu,CC]at J
 ·rename_i A xs J L;split at h
  ·rename_i b K N O;refine⟨Z,B0,H0,B,e,M,xs,R,L,λvs d W P=> ?_⟩;dsimp only;rw[kZ];exact vx (R.same W) (by rw[<-P.length];exact m.ar f _ M _ O (.inl u)) P O λ_ g a=>⟨Z,B0,H0,B,e,N,oo,a,h,q⟩
  ·cases h
 ·cases h
def W5{i:Nat}{x:Str}{as:IE}{r:IS}{L:Expr}{O:lj}{p F pos:Pos}{j:TyM}(m:Mo G T cl gv k X)(D:X.N[i]?=some x)(V:DP X.env.scope x)(I:(x==("__debug__":Str))=false)(s:(x==("__classdict__":Str))=false)(c:(L::O).all notStar=true) (U:swapsWith (.Call (.Name x p) (L::O) [] F) none pos.line X.env=pure false)(S:PA X (L::O) (Kq G T cl as))(l:gG X j (tS G T cl r)):gG X (.Expr (.Call (.Name x p) (L::O) [] F) pos::j) (tS G T cl (.Vm i as r)):=by
 rw[fC,aB]at c;refine iN (u_ ((EA m D V I s S (ai c.1) (fg c.2)).or (EB m D V I s S (ai c.1) (fg c.2))) U) l λDn σ H ⟨Z,B0,H0,B,e,M,oo,R,h,q⟩=> ?_;rw[IG]at h;split at h
 ·rename_i g xs n A;split at h
  ·rename_i x' t K u;obtain⟨v,y,P⟩:=R.val i g n;cases g with
   |fn f=>
    simp only[Rep]at P;obtain⟨rfl,E⟩:=P;refine .inl ⟨f,E,y,Z,B0,H0,B,e,M,xs,R,A,λvs w o Q=> ?_⟩;dsimp only;rw[kZ];exact vx (R.same o) (by rw[<-Q.length];exact m.ar f xs M _ u (.inl E)) Q u λ_ z Y=>⟨Z,B0,H0,B,e,K,oo,Y,h,q⟩
   |ko f cs=>
    simp only[Rep]at P;obtain⟨a,C,rfl,J,rc⟩:=P;obtain⟨E,W,ct,doc,c',b,_⟩:=id J;refine .inr ⟨f,a,_,E,y,b,Z,B0,H0,B,e,M,xs,R,A,λvs w o Q=>⟨o.kp _ _ b (zF _),C,(J.keep (m8.same o)).nil,?_⟩⟩;have d:=Q.append (rc.same o);exact vx (R.same o) (by rw[<-d.length];exact m.ar f (xs++cs) M _ u (.inr (.inr E))) d u λ_ z Y=>⟨Z,B0,H0,B,e,K,oo,Y,h,q⟩
   |_=>simp[zC]at u
  ·cases h
 ·cases h
theorem within(R:Rel G Z B0 c B σ e H M)(h:(match d8 T cl a e M with
   |some (.nx e' j)=>d8 T cl r e' j
   |q=>q)=some o)(q:GI G Z B0 c Dn o)(N:L2.St->Hp->Prop)(bk ct:L2.St->Hp->Prop)(y:∀σ' u,tS G T cl r Dn σ' u->N σ' u):tS G T cl a {nx:=N,rt:=Dn.rt,bk:=bk,ct:=ct} σ H:=by
 cases s:d8 T cl a e M with
 |none=>rw[s]at h;cases h
 |some E=>
  rw[s]at h
  cases E with
  |nx e' j=>exact⟨Z,B0,c,B,e,M,_,R,s,λσ' J u L=>y _ _ ⟨Z,B0,c,J,e',j,o,L,h,q⟩⟩
  |rt v fr j=>
   simp only at h
   cases h
   exact⟨Z,B0,c,B,e,M,_,R,s,q⟩
def ZA{c:IE}{a b r:IS}{y:Expr}{E J j:TyM}{pos:Pos}(Q:PT X y (tT G T cl c))(U:gG X E (tS G T cl a))(Y:gG X J (tS G T cl b))(C:gG X j (tS G T cl r)):gG X (.If y E J pos::j) (tS G T cl (.ite c a b r)):=iN (Q5 Q U Y) C λDn σ H o=>by obtain⟨Z,L,O,B,e,M,D,R,h,q⟩:=o;rw[II]at h;split at h;rename_i x fr P;split at h;rename_i s;exact⟨Z,L,O,B,e,M,x,fr,true,R,P,s,λF u=>by rw[ae rfl];exact within (R.same u) h q _ _ _ λ_ _ z=>z⟩;rename_i s;exact⟨Z,L,O,B,e,M,x,fr,false,R,P,s,λF u=>by rw[ab (by decide)];exact within (R.same u) h q _ _ _ λ_ _ z=>z⟩;cases h;cases h
def W6{a:IE}{u:Expr}{pos:Pos}{c:TyM}(j:c=[])(r:PE X u (tI G T cl a)):gG X (.Return (some u) pos::c) (tS G T cl (.ret a)):=by
 subst j;refine Jd (ud r) λDn σ H ⟨Z,B0,H0,B,e,M,oo,R,h,q⟩=> ?_;rw[yw]at h;split at h;rename_i x fr s;cases h;refine⟨Z,B0,H0,B,e,M,x,fr,R,s,λv P Q U Y=> ?_⟩;have y:=R.same Q;refine q v P y.ext y.i_ (U.keep λb o h n C=>⟨h,λz=>C ?_⟩) λF=> ?_;cases E:e.own with
 |none=>rw[R.no E];exact z
 |some p=>
  obtain⟨i,D⟩:=p;obtain⟨a,_,s,_⟩:=R.ow i D E;rw[s];exact d7 _ z
 obtain⟨a,rfl,r⟩:=Y F;refine⟨a,rfl,?_⟩;cases J:H0 a with
 |none=>rfl
 |some L=>
  by_cases O:a∈Z.ma;exact absurd (R.MF a O) (R.fresh r);rcases L.BE with n|⟨ps,rfl⟩;have:=R.ext.kp a L J n O;rw[r]at this;cases this;obtain⟨_,this⟩:=R.ext.tb a ps J;rw[r]at this;cases this
 cases h
def Tn(u:X.N[i]?=some x)(y:DP X.env.scope x)(E:(x==("__debug__":Str))=false)(c:(x==("__classdict__":Str))=false):gG X [.Return (some (.Name x p)) pos] (tS G T cl (.AV i)):=Jd (ud (rf u y E c)) λDn σ H r=>by obtain⟨Z,C,F,B,e,M,D,R,h,q⟩:=r;rw[En]at h;split at h;rename_i j xs J;split at h;rename_i s;subst s;cases h;obtain⟨a,vs,rfl,L,O,P,Q,U⟩:=R.ow _ xs J;refine⟨_,L,q _ H R.ext R.i_ ?_ λ_=>⟨a,rfl,P⟩⟩;simp only[Rep];exact⟨a,vs,rfl,O,Q,U.keep λb o h n Y=>⟨h,λz=>Y (d7 _ z)⟩⟩;cases h;cases h
section
open Classical in
noncomputable def qU(c B:oj)(H:Hp):Hp:=λb=>if b∈B/\b∉c then none else H b
def ou(h:¬(b∈B/\b∉B0)):qU B0 B H b=H b:=by unfold qU;rw[ab h]
def Jf(h:qU B0 B H b=some o):H b=some o:=by unfold qU at h;split at h;cases h;exact h
def Rel.ZC(R:Rel G Z B0 q B σ e H M):∀b∈B0,b∈B:=λb c=>by
 cases h:e.own with
 |none=>rw[R.no h];exact c
 |some p=>
  obtain⟨i,j⟩:=p;obtain⟨a,_,o,_⟩:=R.ow i j h;rw[o];exact d7 _ c
def Rel.cut(R:Rel G Z B0 u B σ e H M):Rel G Z B0 (qU B0 B H) B σ e H M:=⟨R.len,R.xO,⟨λb o h _ _=>Jf h,λb ps h=>⟨ps,Jf h⟩,λ_=>R.tab⟩,R.tab,R.i_,R.zH,R.val,R.no,R.on,λi xs h=>by obtain⟨a,vs,c,q,j,y,r,s⟩:=R.ow i xs h;refine⟨a,vs,c,q,j,?_,r,s⟩;unfold qU;rw[ae ⟨by rw[c];exact kz,j⟩]⟩
def Rel.GJ(R:Rel G Z B0 s B σ e H M)(h:s b=some o):¬(b∈B/\b∉B0):=λj=>by
 obtain⟨c,q⟩:=j;cases r:e.own with
 |none=>rw[R.no r]at c;exact q c
 |some p=>
  obtain⟨i,u⟩:=p;obtain⟨a,_,y,_,_,E,_⟩:=R.ow i u r;rw[y]at c;rcases aA.mp c with rfl|c;rw[E]at h;cases h;exact q c
def Rel.MI(R:Rel G Z B0 j B σ e H M)(c:qU B0 B H p=none)(q:p∉Z.ma):j p=none:=by
 cases h:j p with
 |none=>rfl
 |some o=>
  rw[ou (R.GJ h)]at c;rcases o.BE with n|⟨ps,rfl⟩;have:=R.ext.kp p o h n q;rw[c]at this;cases this;obtain⟨_,this⟩:=R.ext.tb p ps h;rw[c]at this;cases this
def Rel.W7(R:Rel G Z B0 q B σ e H M)(x:m9 G Z (qU B0 B H) j)(r:TabAt G j):m9 G Z q j:=⟨λb o h n m=>x.kp b o (by rw[ou (R.GJ h)];exact R.ext.kp b o h n m) n m,λb ps h=>by obtain⟨c,h'⟩:=R.ext.tb b ps h;exact x.tb b c (by rw[ou (R.GJ h)];exact h'),λ_=>r⟩
def Rel.back(R:Rel G Z B0 O B σ e H M)(c:Rel G Z B0 (qU B0 B H) y σ' e' E P):m8 B y H E/\Rel G Z B0 O y σ' e' E P:=by
 refine⟨λb o h n q=> ?_,c.len,c.xO,R.W7 c.ext c.tab,c.tab,c.i_,c.zH,c.val,c.no,c.on,λi xs h=> ?_⟩;have r:qU B0 B H b=some o:=by rw[ou λz=>q z.1];exact h
 refine⟨c.ext.kp b o r n λz=>q (R.MF b z),λj=> ?_⟩;cases J:e'.own with
 |none=>rw[c.no J]at j;exact q (R.ZC b j)
 |some p=>
  obtain⟨i,Q⟩:=p;obtain⟨a,_,s,_,_,u,_⟩:=c.ow i Q J;rw[s]at j;rcases aA.mp j with rfl|j;rw[u]at r;cases r;exact q (R.ZC b j)
 obtain⟨a,vs,s,U,L,u,X,Y⟩:=c.ow i xs h;exact⟨a,vs,s,U,L,R.MI u λz=>L (R.zH a z),X,Y⟩
def Rel.To(R:Rel G Z B0 q B σ e H M)(c:p∈Z.ma):qU B0 B H p≠none:=by rw[ou λz=>z.2 (R.zH p c)];intro j;obtain⟨o,h,_⟩:=R.xO p (R.zH p c);rw[j]at h;cases h
def GI.cut{Dn:Ends}{o:Out}(R:Rel G Z B0 r B σ e H M)(s:∀{h:Hp},m9 G Z (qU B0 B H) h->TabAt G h)(q:GI G Z B0 r Dn o):GI G Z B0 (qU B0 B H) Dn o:=by
 cases o with
 |nx e' y=>exact λσ' E h J=>q σ' E h (R.back J).2
 |rt v fr y=>
  refine λu h a b c d=>q u h (R.W7 a (s a)) b c λL=> ?_;obtain⟨p,rfl,j⟩:=d L;exact⟨p,rfl,R.MI j λz=>R.To z j⟩
def Rel.ZD(R:Rel G Z B0 P B σ e H M):∀{q:Hp},m9 G Z (qU B0 B H) q->TabAt G q:=λ{q} x=>x.ta λt y=>by
 have r:∀{b:Addr} {o:HO},H b=some o->(∀xs,o≠.lst xs)→¬(b∈B/\b∉B0):=λ{b o} h E ⟨c,hn⟩=>by
  cases s:e.own with
  |none=>rw[R.no s]at c;exact hn c
  |some p=>
   obtain⟨i,J⟩:=p;obtain⟨a,vs,j,_,_,_,L,_⟩:=R.ow i J s;rw[j]at c;rcases aA.mp c with rfl|c;rw[L]at h;cases h;exact E _ rfl;exact hn c
 rcases R.tab t y with h|⟨O,j,u⟩;exact .inl (by rw[ou (r h λ_ z=>nomatch z)];exact h);exact .inr ⟨O,by rw[ou (r j λ_ z=>nomatch z)];exact j,by rw[ou (r u λ_ z=>nomatch z)];exact u⟩
def W8{tp:Bool}{tg:gd}{it:IE}{body r:IS}{D Q:Expr}{sb C:TyM}{pos:Pos}(m:Mo G T cl gv k X)(hp:PassesOwn (model X.prog X.w) X.A X.env X.xe)(hi:PI X D Q (tW G T cl tp it))(hg:PG X D (gT X.K tp tg))(hn:tg.length=MC it) (hs:∀x,foldedSetIterable Q X.env x=pure x)(hb:gG X sb (tS G T cl body))(hr:gG X C (tS G T cl r)):gG X (.For D Q sb [] pos::C) (tS G T cl (.kr tg it body r)):=iN (RZ hp m.calm hi hg hb hs) hr λDn σ H za=>by
  obtain⟨Z,O,H0,B,e,M,oo,R,h,q⟩:=za;rw[Em]at h;split at h;rename_i xs hx;refine⟨Z,O,H0,B,e,M,xs,R,hx,λJ g s1 Wk=> ?_⟩;have l:=R.same s1;have zb:∃of,eC tg (d8 T cl body) xs e M=some of/\((∃e' P,of=.nx e' P/\d8 T cl r e' P=some oo)\/(∃v fr P,of=.rt v fr P/\oo=of)):=by
   cases p:eC tg (d8 T cl body) xs e M with
   |none=>rw[p]at h;cases h
   |some of=>
    rw[p]at h;cases of with
    |nx e' P=>exact⟨_,rfl,.inl ⟨e',P,rfl,h⟩⟩
    |rt v fr P=>cases h;exact⟨_,rfl,.inr ⟨v,fr,P,rfl,rfl⟩⟩
  obtain⟨of,p,F⟩:=zb;refine⟨λi n V S=>i+n=xs.length/\∃s L E,Rel G Z O (qU O B g) s V L S E/\eC tg (d8 T cl body) (xs.drop i) L E=some of,⟨xs.length,by omega,B,e,M,l.cut,by simpa using p⟩,?_⟩;rintro i n V S ⟨zf,s,L,E,R2,U⟩;obtain⟨kp,zc⟩:=l.back R2;by_cases N:i<xs.length;right;obtain⟨x,hxi⟩:∃x,xs[i]?=some x:=⟨xs[i],oE N⟩;refine⟨Wk.go i x s S hxi kp,λσ' Y=>(i+1)+(n-1)=xs.length/\∃s L E,Rel G Z O (qU O B g) s σ' L Y E/\eC tg (d8 T cl body) (xs.drop (i+1)) L E=some of,λσ' Y h=>⟨n-1,by omega,h⟩,λv H3 hy=> ?_⟩;obtain⟨s3,t⟩:=Wk.Lz i x s S v H3 hxi kp R2.Kp hy;have hd:xs.drop i=x::xs.drop (i+1):=by rw[List.drop_eq_getElem_cons N];have:=(ph.mp hxi).2;rw[this]
  rw[hd,eC]at U;have W:x.length=tg.length:=by rw[hn];exact CQ hx x (ky hxi)
  split at U;rename_i I;have f:∀vs,az G Z s H3 x vs->tS G T cl body {nx:=λσ' Y=>(i+1)+(n-1)=xs.length/\∃s L E,Rel G Z O (qU O B g) s σ' L Y E/\eC tg (d8 T cl body) (xs.drop (i+1)) L E=some of,rt:=Dn.rt,bk:=tS G T cl r Dn,ct:=λσ' Y=>(i+1)+(n-1)=xs.length/\∃s L E,Rel G Z O (qU O B g) s σ' L Y E/\eC tg (d8 T cl body) (xs.drop (i+1)) L E=some of} (iM V tg vs) H3:=λvs rv=>by
   have R3:=(R2.same s3).kE I rv;cases o:d8 T cl body (L.kE tg x) E with
   |none=>rw[o]at U;cases U
   |some ob=>
    rw[o]at U;cases ob with
    |nx e' P=>exact⟨Z,O,_,s,_,E,_,R3,o,λσ' B' Y R'=>⟨by omega,B',e',P,R',U⟩⟩
    |rt v fr P=>
     simp only[aD]at U;subst U;rcases F with⟨_,_,z,_⟩|⟨_,_,_,z,rfl⟩;cases z;exact⟨Z,O,_,s,_,E,_,R3,o,λu Y a b c d=>GI.cut (Dn:=Dn) l l.ZD q u Y a b c d⟩
  unfold gT;cases tp with
  |true=>
   rw[ae rfl]at t|-;obtain⟨a,vs,rfl,ha,rv⟩:=t;exact⟨a,vs,rfl,qM.of ha,by rw[<-rv.length];exact W,f vs rv⟩
  |false=>
   rw[ab (by decide)]at t|-;obtain⟨y,rfl,ry⟩:=t;obtain⟨j,rfl⟩:∃j,tg=[j]:=by
    match tg,W with
    |[j],_=>exact⟨j,rfl⟩
   refine⟨j,rfl,?_⟩;exact f [v] (by simp only[az];exact⟨v,[],rfl,ry,rfl⟩)
  cases U;left;have zd:i=xs.length:=by omega
  subst zd;rw[wT,eC,aD]at U;subst U;refine⟨Wk.stop s S kp,?_⟩;rcases F with⟨e',P,z,ze⟩|⟨_,_,_,z,_⟩;cases z;exact⟨Z,O,H0,s,_,_,oo,zc,ze,q⟩;cases z;cases h
def W9{o:Nat}{c:IE}{body r:IS}{i:Expr}{l P:TyM}{pos:Pos}(m:Mo G T cl gv k X)(t:PassesOwn (model X.prog X.w) X.A X.env X.xe)(hc:PT X i (tT G T cl c))(hb:gG X l (tS G T cl body))(hr:gG X P (tS G T cl r)):gG X (.While i l [] pos::P) (tS G T cl (.Vn o c body r)):=iN (Ly t hc hb) hr λDn σ H K=>by
  obtain⟨Z,U,Y,B,e,M,N,R,h,q⟩:=K;rw[IJ]at h;have W:∃L,qO (Cz T cl c) (d8 T cl body) o e M=some L/\((∃e' y,L=.nx e' y/\d8 T cl r e' y=some N)\/(∃v fr y,L=.rt v fr y/\N=L)):=by
   cases I:qO (Cz T cl c) (d8 T cl body) o e M with
   |none=>rw[I]at h;cases h
   |some L=>
    rw[I]at h;cases L with
    |nx e' y=>exact⟨_,rfl,.inl ⟨e',y,rfl,h⟩⟩
    |rt v fr y=>cases h;exact⟨_,rfl,.inr ⟨v,fr,y,rfl,rfl⟩⟩
  obtain⟨L,I,Q⟩:=W;refine⟨λn C p=>∃O E J,Rel G Z U Y O C E p J/\qO (Cz T cl c) (d8 T cl body) n E J=some L,⟨o,B,e,M,R,I⟩,?_⟩;rintro n C p ⟨O,E,J,F,s⟩;cases n with
  |zero=>simp[qO]at s
  |succ n=>
   rw[qO]at s;split at s;rename_i x fr hx;have D:au T cl E J c=some (x,fr):=hx;split at s;rename_i f;refine⟨Z,U,Y,O,E,J,x,fr,true,F,D,f,λH3 S=> ?_⟩;dsimp only;rw[ae rfl];refine⟨λσ' V=>∃O E J,Rel G Z U Y O σ' E V J/\qO (Cz T cl c) (d8 T cl body) n E J=some L,λσ' V h=>⟨n,by omega,h⟩,?_⟩;cases j:d8 T cl body E J with
   |none=>rw[j]at s;cases s
   |some ob=>
    rw[j]at s;cases ob with
    |nx e' y=>exact⟨Z,U,Y,O,E,J,_,F.same S,j,λσ' B' V R'=>⟨B',e',y,R',s⟩⟩
    |rt v fr y=>
     simp only[aD]at s;subst s;rcases Q with⟨_,_,z,_⟩|⟨_,_,_,z,rfl⟩;cases z;exact⟨Z,U,Y,O,E,J,_,F.same S,j,λu V a b c d=>q u V a b c d⟩
   rename_i f;refine⟨Z,U,Y,O,E,J,x,fr,false,F,D,f,λH3 S=> ?_⟩;dsimp only;rw[ab (by decide)];simp only[aD]at s;subst s;rcases Q with⟨e',y,z,g⟩|⟨_,_,_,z,_⟩;cases z;exact⟨Z,U,Y,O,_,_,N,F.same S,g,q⟩;cases z;cases s;cases s
end
def _root_.L2.J9.same(f:J9 X σ ns H c):kn H c:=by
 induction f with
 |nil=>exact λb o h=>h
 |cons r s j _ q=>exact λb o h=>q b o (by rw[ao (aE h j)];exact h)
def _root_.L2.J9.at(f:J9 X σ ns H s):∀p∈ns,∃c v o,X.env.cells.lookup p.2=some c/\σ[p.1]?=some (some v)/\H c=none/\s c=some (.pj o (vi c v)):=by
 induction f with
 |nil=>intro p h;cases h
 |@cons i x r H s c v o y B E j G=>
  intro p h;rcases aA.mp h with rfl|h;exact⟨c,v,o,y,B,E,j.same _ _ aC⟩;obtain⟨u,J,L,M,O,q,P⟩:=G p h;refine⟨u,J,L,M,O,?_,P⟩;have:u≠c:=λz=>by rw[z,aC]at q;cases q
  rwa [ao this]at q
def _root_.L2.J9.inj(f:J9 X σ ns H M):∀p∈ns,∀q∈ns,∀c,X.env.cells.lookup p.2=some c->X.env.cells.lookup q.2=some c->p.2=q.2:=by
 induction f with
 |nil=>intro p u;cases u
 |@cons i x r H M c v o G P Q B O=>
  have J:∀q∈r,∀s,X.env.cells.lookup q.2=some s->s≠c:=λq h s E z=>by obtain⟨U,_,_,j,_,L,_⟩:=B.at q h;rw[j]at E;cases E;rw[z,aC]at L;cases L
  intro p u q h s j y;rcases aA.mp u with rfl|u;rcases aA.mp h with rfl|h;rfl;have j:X.env.cells.lookup x=some s:=j;rw[G]at j;cases j;exact absurd rfl (J q h _ y);rcases aA.mp h with rfl|h;have y:X.env.cells.lookup x=some s:=y;rw[G]at y;cases y;exact absurd rfl (J p u _ j);exact O p u q h s j y
theorem eX:∀{names:List (Str×NameKind)} {acc:v8} {x:Str} {c:Addr},(x,c)∈aZ cells names acc->(x,c)∈acc\/((x,NameKind.free)∈names/\c=(cells.lookup x).getD 0)
 |[],acc,x,c,h=>.inl h
 |(n,s)::r,acc,x,c,h=>by
  rw[aZ]at h;split at h;rename_i u;have j:s=.free:=by cases s<;>first|rfl|simp at u
  subst j;rcases eX h with h|⟨o,q⟩;rcases aA.mp h with h|h;cases h;exact .inr ⟨by simp,rfl⟩;exact .inl h;exact .inr ⟨by simp[o],q⟩;rcases eX h with h|⟨o,q⟩;exact .inl h;exact .inr ⟨by simp[o],q⟩
theorem um:∀{names:List (Str×NameKind)} {acc:v8} {x:Str} {c:Addr},((x,c)∈acc\/((x,NameKind.free)∈names/\c=(cells.lookup x).getD 0))->(x,c)∈aZ cells names acc
 |[],acc,x,c,h=>by rcases h with h|⟨h,_⟩;exact h;cases h
 |(n,s)::r,acc,x,c,h=>by rw[aZ];split;refine um ?_;rcases h with h|⟨j,o⟩;exact .inl (by simp[h]);rcases aA.mp j with j|j;cases j;exact .inl (by rw[o];simp);exact .inr ⟨j,o⟩;rename_i q;refine um ?_;rcases h with h|⟨j,o⟩;exact .inl h;rcases aA.mp j with j|j;cases j;exact absurd rfl q;exact .inr ⟨j,o⟩
def rJ{l:v8}{x:Str}{c:Addr}(q:(x,c)∈l)(r:∀o,(x,o)∈l->o=c):l.lookup x=some c:=by
 induction l with
 |nil=>cases q
 |cons p l s=>
  obtain⟨y,d⟩:=p;rw[lJ];by_cases j:x=y;subst j;rw[beq_self_eq_true];rw[r d (by simp)];have:(x==y)=false:=by simp[j]
  rw[this];refine s ?_ λo h=>r o (by simp[h]);rcases aA.mp q with h|h;cases h;exact absurd rfl j;exact h
structure Ky(X:Cx)(G:Gx)(f:F)(caps:gd)(scope:Scope)(ns:List (Nat×Str)):Prop where
 fst:ns.map (·.1)=caps
 snd:ns.map (·.2)=G.cs f
 Vj:∀y∈scope.names,y.2=.free->y.1∈G.cs f
 has:∀x∈G.cs f,(x,NameKind.free)∈scope.names
theorem wJ:∀{c:gd} {cs:lC},Rel G Z B0 L B σ e H M->e.vl c=some cs->∃vs,az G Z B H cs vs/\∀(j i:Nat),c[j]?=some i->∃v,vs[j]?=some v/\σ[i]?=some (some v)
 |[],cs,R,h=>by simp only[Ev.vl,aD]at h;subst h;exact⟨[],by simp[az],λj i h=>by simp at h⟩
 |i::c,cs,R,h=>by
  rw[Ev.vl]at h;split at h;rename_i x xs q r;cases h;obtain⟨v,s,u⟩:=R.val i x q;obtain⟨vs,y,E⟩:=wJ R r;refine⟨v::vs,by simp only[az];exact⟨v,vs,rfl,u,y⟩,λj J o=> ?_⟩;cases j with
  |zero=>simp at o;subst o;exact⟨v,rfl,s⟩
  |succ j=>simpa using E j J (by simpa using o)
  cases h
def PL(C:Ky X G f s scope ns)(M:J9 X σ ns H H')(r:az G Z B H cs vs)(A:vs.length=s.length)(D:∀(j i:Nat),s[j]?=some i->∃v,vs[j]?=some v/\σ[i]?=some (some v)):lN H' (G.cs f) (aZ X.env.cells scope.names []) vs:=by
 have q:∀{x c},(x,c)∈aZ X.env.cells scope.names []->x∈G.cs f/\c=(X.env.cells.lookup x).getD 0:=λ{x c} h=>by rcases eX h with h|⟨E,u⟩;cases h;exact⟨C.Vj _ E rfl,u⟩
 have pl:∀{x},x∈G.cs f->∃i,(i,x)∈ns:=λ{x} h=>by rw[<-C.snd]at h;obtain⟨p,L,rfl⟩:=iu.mp h;exact⟨p.1,L⟩
 have J:∀{x c},(x,c)∈aZ X.env.cells scope.names []->X.env.cells.lookup x=some c:=λ{x c} h=>by obtain⟨E,u⟩:=q h;obtain⟨i,O⟩:=pl E;obtain⟨P,_,_,Q,_⟩:=M.at _ O;have Q:X.env.cells.lookup x=some P:=Q;rw[Q]at u|-;rw[u];rfl
 refine⟨λx y c E u=> ?_,λx c h=>rJ h λP h'=>by rw[(q h).2,(q h').2],λx c h=>(q h).1,?_,λi x U=> ?_⟩;obtain⟨i,O⟩:=pl (q E).1;obtain⟨j,V⟩:=pl (q u).1;exact M.inj _ O _ V c (J E) (J u);have E:=congrArg P4 C.snd;have u:=congrArg P4 C.fst;rw[aP]at E u;omega;have Y:∃p,ns[i]?=some p/\p.2=x:=by rw[<-C.snd,dQ,bR]at U;exact U
 obtain⟨p,L,rfl⟩:=Y;have R:s[i]?=some p.1:=by rw[<-C.fst,dQ,L];rfl
 obtain⟨v,E,u⟩:=D i p.1 R;obtain⟨c,K,o,T,F,_,I⟩:=M.at p (ky L);rw[u]at F;cases F;have S:(p.2,c)∈aZ X.env.cells scope.names []:=um (.inr ⟨C.has _ (ky U),by rw[T];rfl⟩);exact⟨c,v,o,rJ S λP h'=>by rw[(q h').2,T];rfl,E,I⟩
def Jg(C:Ky X G f j scope ns)(k:G.ko f=true)(l:(P,pos,G.cq f)∈G.tb)(w:∀t∈G.tb,t.1=P->t=(P,pos,G.cq f)) (R:Rel G Z B0 H0 B σ e H M)(A:e.vl j=some u)(Y:J9 X σ ns H L)(m:Made L H1 a fd P pos (G.cq f))(T:∀cd,fd cd=G.Gv f (aZ X.env.cells scope.names []) ct doc cd):Sm G H H1/\Rep G Z B H1 (.ko f u) (.ref a):=by
 obtain⟨vs,r,hv⟩:=wJ R A;have F:Sm G H L:=Y.same.sm;have D:∃ps,L P=some (.uW ps):=by rcases F.ta R.tab _ l with h|⟨_,h,_⟩<;>exact⟨_,h⟩
 obtain⟨ps,D⟩:=D;have O:∀{b o},L b=some o->NT o->b≠P:=λ{b o} h n z=>by rw[z,D]at h;cases h;exact n _ rfl
 have K:Sm G L H1:=⟨λb o h n=>m.keep b o h (O h n),λb V h=>by
  by_cases q:b=P;subst q;rcases m.tab with h|⟨_,h,_⟩<;>exact⟨_,h⟩;exact⟨V,m.keep b _ h q⟩,λhA t N=>by
  by_cases q:t.1=P;rw[w t N q];exact m.tab;rcases hA t N with h|⟨U,s,y⟩;exact .inl (m.keep _ _ h q);exact .inr ⟨U,m.keep _ _ s q,m.keep _ _ y (O y (zF _))⟩⟩
 have I:=F.trans K;refine⟨I,?_⟩;simp only[Rep];have Q:vs.length=j.length:=by
  have s:=congrArg P4 C.snd;have:∀{j:gd} {u:lC},e.vl j=some u->u.length=j.length:=by
   intro j;induction j with
   |nil=>intro u h;simp only[Ev.vl,aD]at h;subst h;rfl
   |cons i j ih=>
    intro u h;rw[Ev.vl]at h;split at h;rename_i x xs s y;cases h;simp[ih y];cases h
  rw[<-r.length];exact this A
 have E:=PL C Y r Q hv;obtain⟨U,W,d⟩:=m.fn;rw[T]at W;refine⟨a,vs,rfl,⟨k,_,ct,doc,U,W,d,⟨E.inj,E.uniq,E.only,E.len,λi x J=> ?_⟩,?_,?_,λx c g q=> ?_⟩,r.same I⟩;obtain⟨c,v,o,s,y,S⟩:=E.has i x J;exact⟨c,v,o,s,y,K.kp _ _ S (zG _ _)⟩;intro q;obtain⟨o,h,_⟩:=F.xO (R.Kp a q);rw[m.new]at h;cases h;intro q;obtain⟨o,h,J⟩:=I.xO (R.Kp U q);rw[d]at h;cases h;exact J _ rfl;have J:=E.only x c g;rw[<-C.snd]at J;obtain⟨p,hp,rfl⟩:=iu.mp J;obtain⟨c2,_,_,s,_,S,_⟩:=Y.at p hp;have:c=c2:=by rcases eX g with h|⟨_,h⟩;cases h;rw[h,s];rfl
 subst this;exact R.fresh S q
def Rm(R:Rel G Z B0 j B σ e H M)(q:GI G Z B0 j Dn (.rt x fr M))(E:Sm G H H1)(J:Rep G Z B H1 x v)(L:fr=true->Wh H v):Dn.rt v H1:=by
 have r:=R.same E;refine q v H1 r.ext r.i_ (J.keep λb o h n O=>⟨h,λz=>O (R.ZC b z)⟩) λP=> ?_;obtain⟨a,rfl,c⟩:=L P;refine⟨a,rfl,?_⟩;cases s:j a with
 |none=>rfl
 |some u=>
  by_cases y:a∈Z.ma;exact absurd (R.MF a y) (R.fresh c);rcases u.BE with n|⟨ps,rfl⟩;have:=R.ext.kp a u s n y;rw[c]at this;cases this;obtain⟨_,this⟩:=R.ext.tb a ps s;rw[c]at this;cases this
def Mo.pj(m:Mo G T cl gv k X)(z):Mo G T cl gv k (X.frozen z):=⟨m.K,m.mg,m.calm,m.room,m.nd,m.SQ,m.ar,m.Mh,m.met,m.Yx,m.Eu,m.CD,m.Lk,m.Rf,m.CF,m.Wg,m.gi⟩
structure GK(X:Cx)(z:Str->Bool)(ns:List (Nat×Str)):Prop where
 z:∀p∈ns,z p.2=true
 f:∀p∈ns,X.fn p.2=true
 i:∀p∈ns,X.N[p.1]?=some p.2
 k:∀p∈ns,X.env.scope.names.lookup p.2=some .cell
 nd:(ns.map (·.2)).Nodup
def BM(C:Ky X G f c scope ns)(R:Rel G Z B0 u B σ e H M)(o:e.vl c=some cs):∀p∈ns,∃v,σ[p.1]?=some (some v):=λp q=>by obtain⟨vs,_,r⟩:=wJ R o;obtain⟨j,s⟩:=wa q;obtain⟨v,_,h⟩:=r j p.1 (by rw[<-C.fst,dQ,s];rfl);exact⟨v,h⟩
def Tp{i:Nat}{f:F}{j:gd}{r:IS}{name:Str}{params:Arguments}{body:TyM}{scope:Scope}{pos:Pos}{c P:Addr}{s:TyM}{z:Str->Bool}{ns:List (Nat×Str)}(m:Mo G T cl gv k X)(K:∀x,X.fz x=false)(fz:GK X z ns)(C:Ky X G f j scope ns)(W:G.ko f=true) (D:qualnameIn X.env name name=G.cq f)(O:∀u ct doc cd,G.Gv f u ct doc cd=fnX name (G.cq f) params body scope u .none .none doc ((X.mg "__name__").getD .none) none cd ct)(V:(P,pos,G.cq f)∈G.tb)(b:∀t∈G.tb,t.1=P->t=(P,pos,G.cq f)) (Q:params.defaults=[])(U:params.kw_defaults=[])(d:annTrees params none X.env=[])(E:∀y∈scope.names,y.2=.free->∃c,X.env.cells.lookup y.1=some c)(J:X.env.code=.ref c)(g:CodeHd X.base c P)(l:BMain X.mg X.base)(n:X.N[i]?=some name)(p:Loc X.env.scope name) (v:(X.fn name=true/\z name=false)\/X.env.scope.names.lookup name=some .local)(w:gG (X.frozen z) s (tS G T cl r)):PB X (.FunctionDef name params body [] none [] scope none name pos::s) (tS G T cl (.rn i f j r)):=by have h1:=PB.cons (SF (X:=X.frozen z) (name:=name) (params:=params) (body:=body) (scope:=scope) (pos:=pos) (i:=i) Q U d E J g l m.nd n p v) (PB.of w);refine(PB.freeze h1 K fz.z fz.f fz.i fz.k fz.nd).weak λDn σ H ⟨Z,B0,H0,B,e,M,o,R,h,q⟩=> ?_;rw[Eo]at h;split at h;rename_i cs I;split at h;rename_i Y;refine⟨BM C R I,λS A=>⟨?_,λa ct doc H1 L=> ?_⟩⟩;show J_ S P pos (qualnameIn X.env name name);rw[D];exact(A.same.sm (G:=G)).ta R.tab _ V;have L:Made S H1 a (λcd=>fnX name (qualnameIn X.env name name) params body scope (aZ X.env.cells scope.names []) .none .none doc ((X.mg "__name__").getD .none) none cd ct) P pos (qualnameIn X.env name name):=L;rw[D]at L;obtain⟨s1,r1⟩:=Jg (ct:=ct) (doc:=doc) C W V b R I A L λcd=>(O _ _ _ _).symm;exact⟨Z,B0,H0,B,_,M,o,(R.same s1).put Y r1,h,q⟩;cases h;cases h
def MJ(m:Mo G T cl gv k X)(hX:∀x,X.fz x=false)(fz:GK X z ns)(C:Ky X G f L scope ns)(hG:G.ko f=true) (W:X.env.qual++"<lambda>"=G.cq f)(I:∀s ct doc cd,G.Gv f s ct doc cd=kla_fn "<lambda>" (G.cq f) params body scope s ((X.mg "__name__").getD .none) cd ct)(b:(P,j,G.cq f)∈G.tb)(hU:∀t∈G.tb,t.1=P->t=(P,j,G.cq f)) (O:defaultsOf params X.env=([],[]))(u:∀y∈scope.names,y.2=.free->∃c,X.env.cells.lookup y.1=some c)(E:X.env.code=.ref c)(hC:CodeHd X.base c P)(hB:BMain X.mg X.base) (J:G.glob g=true)(hg:Gl (X.frozen z) (G.nm g))(S:es.all notStar=true)(A:PA (X.frozen z) es (Kq G T cl as)):PB X [.Return (some (.Call (.Name (G.nm g) p) (.Lambda params body scope j::es) [] cp)) Q] (tS G T cl (.ret (.call g (.cons (.lam f L) as)))):=by
 obtain⟨h1,h2,h3⟩:=m.SQ g J;obtain⟨h4,h5⟩:=m.Mh g (.inl J);have hl:=SE (X:=X.frozen z) (params:=params) (body:=body) (scope:=scope) (pos:=j) O u E hC hB;have d:starEach (.Lambda params body scope j::es) (X.frozen z).env=(false,eval (.Lambda params body scope j) (X.frozen z).env)::starEach es (X.frozen z).env:=ai rfl;have h6:=ud (pos:=Q) (mE (X:=X.frozen z) (p:=p) (pos:=cp) (dvs:=[]) h4 (m.pj z).room hg h1 h2 h5 .nil m4 (bJ hl A d) h3 d (fg S));refine(PB.freeze (PB.of (om h6)) hX fz.z fz.f fz.i fz.k fz.nd).weak λDn σ H ⟨Z,B0,H0,B,e,M,o,R,h,q⟩=> ?_;rw[yw]at h;split at h;rename_i x fr r;cases h;rw[ro]at r;split at r;rename_i xs F;rw[mW,Iv]at F;split at F;rename_i y f1 K l N;cases F;simp only[bR,aG]at l;obtain⟨n,U,rfl,rfl⟩:=l;refine⟨BM C R U,λw hz=>⟨?_,λa ct H1 D=> ?_⟩⟩;show J_ w P j (X.env.qual++"<lambda>");rw[W];exact(hz.same.sm (G:=G)).ta R.tab _ b;have D:Made w H1 a (λcd=>kla_fn "<lambda>" (X.env.qual++"<lambda>") params body scope (aZ X.env.cells scope.names []) ((X.mg "__name__").getD .none) cd ct) P j (X.env.qual++"<lambda>"):=D;rw[W]at D;obtain⟨s1,r1⟩:=Jg (ct:=ct) (doc:=.none) C hG b hU R U hz D λcd=>(I _ _ _ _).symm;refine⟨Z,B0,H0,B,e,M,K,R.same s1,N,λvs H2 s2 r2=> ?_⟩;have V:cl g (.ko f n::K) M=some (x,fr,M):=by unfold dt at r;split at r;rename_i x' za M' V;split at r;rename_i hM;subst hM;cases r;exact V;cases r;cases r
 have Y:az G Z B H2 (.ko f n::K) (.ref a::vs):=by simp only[az];exact⟨_,vs,rfl,r1.same s2,r2⟩
 refine vt R (s1.trans s2) ?_ Y V λv H3 s3 r3 n3=>Rm R q s3 r3 n3;rw[<-Y.length];exact m.ar g _ M _ V (.inl J);cases F;cases r;cases h
def W_{x j pos pos'}{c:TyM}{r:IS}(h:PB X c (tS G T cl r)):PB X (.Expr (.Constant (.str x) j pos) pos'::c) (tS G T cl r):=(PB.cons Ls h).weak λDn σ H q=>q
def Xa{i:Nat}{x:Str}{a:IE}{r:IS}{j:Expr}{c:TyM}{p pos:Pos}(m:Mo G T cl gv k X)(o:X.N[i]?=some x)(s:Loc X.env.scope x)(u:(X.fn x=true/\X.fz x=false)\/X.env.scope.names.lookup x=some .local) (y:swapsWith j (some (.Name x p)) pos.line X.env=pure false)(B:PE X j (tI G T cl a))(E:PB X c (tS G T cl r)):PB X (.Assign [.Name x p] j pos::c) (tS G T cl (.set i a r)):=(PB.cons (yY m.nd o s B y u) E).weak λDn σ H h=>CS (K:=tS G T cl r) h λ_ _ q=>q
def MK(h:wF T cl e M (.AU a b c)=some rs):∃xs q j r o s,au T cl e M a=some (.lst xs,q)/\au T cl e M b=some (.lst j,r)/\au T cl e M c=some (.lst o,s)/\rs=Gc (λx (y:SV×SV)=>[x,y.1,y.2]) xs (j.zip o):=by rw[i9]at h;split at h;rename_i xs q j r o s u B E;cases h;exact⟨xs,q,j,r,o,s,u,B,E,rfl⟩;cases h
def Kz(Q:a∉B)(g:H1 a=some (.lst vs))(r:az G Z B H1 xs vs)(s:b∉B)(U:H1 b=some (.lst ws))(L:az G Z B H1 O ws)(E:c∉B)(X:H1 c=some (.lst us))(M:az G Z B H1 zs us):Walk G Z B true (SK K a b c) H1 (Gc (λx (y:SV×SV)=>[x,y.1,y.2]) xs (O.zip zs)):=by
 have A:∀{i:Nat} {x:lC},(Gc (λx (y:SV×SV)=>[x,y.1,y.2]) xs (O.zip zs))[i]?=some x->∃p q t,xs[i]?=some p/\O[i]?=some q/\zs[i]?=some t/\x=[p,q,t]:=λ{i x} j=>by
  rw[B7]at j;cases J:xs[i]? with
  |none=>simp[J]at j
  |some p=>
   cases o:(O.zip zs)[i]? with
   |none=>simp[J,o]at j
   |some N=>
    simp only[J,o,aD]at j;rw[List.getElem?_zip_eq_some]at o;exact⟨p,N.1,N.2,rfl,o.1,o.2,j.symm⟩
 refine⟨λW H h=>⟨vs,ws,us,dr.of (h.lst Q g r).1,dr.of (h.lst s U L).1,dr.of (h.lst E X M).1,?_⟩,λi x W H j h=> ?_,λi x W H v H' j h hd k=> ?_⟩;rw[pu,List.length_zip,<-r.length,<-L.length,<-M.length];omega;obtain⟨p,q,t,J,o,Y,rfl⟩:=A j;obtain⟨v,T,_⟩:=r.get J;obtain⟨w,C,_⟩:=L.get o;obtain⟨u,F,_⟩:=M.get Y;exact⟨vs,ws,us,v,w,u,dr.of (h.lst Q g r).1,dr.of (h.lst s U L).1,dr.of (h.lst E X M).1,T,C,F⟩;obtain⟨t,u1,u2,u3,rfl,P,rfl,l,m,n⟩:=k;obtain⟨p,q,t',J,o,Y,rfl⟩:=A j;obtain⟨g',z⟩:=h.lst Q g r;obtain⟨D,V⟩:=h.lst s U L;obtain⟨R,I⟩:=h.lst E X M;obtain⟨v,T,rv⟩:=z.get J;obtain⟨w,C,S⟩:=V.get o;obtain⟨u,F,ru⟩:=I.get Y;have d:=l vs (dr.of g');have e:=m ws (dr.of D);have f:=n us (dr.of R);rw[T]at d;rw[C]at e;rw[F]at f;cases d;cases e;cases f;refine⟨(kn.new P).sm,?_⟩;rw[ae rfl];refine⟨t,_,rfl,aC,?_⟩;simp only[az];exact⟨_,_,rfl,rv.same (kn.new P).sm,_,_,rfl,S.same (kn.new P).sm,_,_,rfl,ru.same (kn.new P).sm,rfl⟩
def Tq(A:Bi X)(K:Gl X "zip")(V:notStar ea=true)(j:notStar eb=true)(o:notStar ec=true)(N:PE X ea (tI G T cl a))(W:PE X eb (tI G T cl b))(d:PE X ec (tI G T cl c)):PI X (.Tuple elts kk za) (.Call (.Name "zip" p) [ea,eb,ec] [] pos) (tW G T cl true (.AU a b c)):=(O7 K A.zip (pa3 V j o N W d) (ai V) (fg (by simp[j,o]))).weak λσ H Q J=>by obtain⟨Z,L,O,B,e,M,rs,R,h,q⟩:=J;obtain⟨xs,f,ys,i,zs,k,l,m,n,rfl⟩:=MK h;refine⟨Z,L,O,B,e,M,_,f,R,l,λv H1 P t _=>⟨Z,L,O,B,e,M,_,i,R.same P,m,λw H2 U Y _=>⟨Z,L,O,B,e,M,_,k,(R.same P).same U,n,λu x C E _=> ?_⟩⟩⟩;have s:=t.same (U.trans C);have y:=Y.same C;simp only[Rep]at s y E;obtain⟨z,vs,rfl,nb,g,r⟩:=s;obtain⟨p2,ws,rfl,F,I,Y⟩:=y;obtain⟨p3,us,rfl,D,S,E⟩:=E;exact⟨z,p2,p3,vs,ws,us,rfl,dr.of g,dr.of I,dr.of S,q _ x ((P.trans U).trans C) (Kz nb g r F I Y D S E)⟩
section
variable {G:Gx} {T:pG} {defs:F->Df} {n:Nat} {Z:Zx} {B B' B0:oj} {H H0 H1 H':Hp} {σ σ':L2.St} {e e':Ev} {M M':gc}
def _root_.L2.PB.AK(h:PB X.AK st t):PB X st t:=λs σ H D I c=>
 eG (h s σ H D (I.xJ _) c) (λ_ _ ⟨z,q⟩=>⟨z,SP.oH (X:=X.frozen z) (E:=λ_ _=>False) q⟩) λ_ _ z=>Db z
def entry(O:N.length=(defs f).slots)(q:(defs f).np<=(defs f).slots)(P:xs.length=(defs f).np)(s:∀b∈B,Std H b)(u:∀b∈Z.ma,b∈B)(r:az G Z B H xs vs)(E:lD G Z H M)(J:TabAt G H):Rel G Z B H B (L2.start N vs) ⟨xs.map some++Da ((defs f).slots-(defs f).np) none,none⟩ H M where
 len:=by have o:=r.length;unfold L2.start;simp only[fi,aP,yP];omega
 xO:=s
 ext:=m9.refl H
 tab:=J
 i_:=E
 zH:=u
 val:=λi x h=>by
  unfold Ev.get at h;by_cases c:i<xs.length;rw[Bl (by simpa using c),dQ]at h;cases j:xs[i]? with
  |none=>rw[j]at h;cases h
  |some y=>
   rw[j]at h;cases h;obtain⟨v,o,L⟩:=r.get j;refine⟨v,?_,L⟩;unfold L2.start;rw[Bl (by simpa [<-r.length] using c),dQ,o];rfl
  rw[DK (by simpa using c),B6]at h;split at h<;>cases h
 no:=λ_=>rfl
 on:=λi xs h=>nomatch h
 ow:=λi xs h=>nomatch h
def CT(E:N.length=(defs f).slots)(s:(defs f).np<=(defs f).slots)(h:Gy G (cR T defs (n+1)) f vs H Q E0):tS G T (cR T defs n) (defs f).body {nx:=λ_ H'=>Q .cw H',rt:=Q} (L2.start N vs) H:=by obtain⟨C,Z,B,xs,M,x,fr,M',J,L,r,O,P,j,q⟩:=h;have j:Gn T (cR T defs n) (defs f) xs M=some (x,fr,M'):=j;unfold Gn at j;split at j;rename_i o;split at j;rename_i e' X y;cases j;refine⟨Z,B,H,B,_,M,_,entry E s o J L r O P,y,λσ' B' H' U=>q _ H' U.ext (by simp[Rep]) U.i_ λz=>by cases z⟩;rename_i F Y X y;cases j;exact⟨Z,B,H,B,_,M,_,entry E s o J L r O P,y,λu H' a b c d=>q u H' a c b d⟩;cases j;cases j
def Tr(j:N.length=(defs f).slots)(c:(defs f).np<=(defs f).slots)(u:(defs f).body=.ret a)(h:Gy G (cR T defs (n+1)) f vs H Q E0):tI G T (cR T defs n) a (L2.start N vs) H Q:=by obtain⟨Z,B0,H0,B,e,M,o,R,h,q⟩:=CT j c h;rw[u,yw]at h;split at h;rename_i x fr y;cases h;exact⟨Z,B0,H0,B,e,M,x,fr,R,y,λv H' s r E=>Rm R q s r E⟩;cases h
def Ts(L:Gh K x qual st (G.fa f) (G.fd f))(S:jg N (G.ps f) (a0 st))(O:N.length=(defs f).slots)(r:(defs f).np<=(defs f).slots) (o:∀(j) (A) (c) (s) (H) (E:XK),(G.fd f).code=j->gH n (A.deeper (PyProof.Rows.envOfC qual (a0 st) s.heap.objs.size (G.fa f) j))->PB (ug ui P w K mg base N qual (a0 st) (G.fa f) j A c s H E).AK (cP st) (tS G T (cR T defs n) (defs f).body)):nT P w K mg base ui (n+1) (G.fa f) (G.fd f) (G.ps f) (Gy G (cR T defs (n+1)) f):=by obtain⟨Y,C,F,doc,pm,D,j,ct,U,q,J,u⟩:=L.ex;rw[q]at J|-;exact SG J u S (λvs H Q E h=>h.1) λA c s H vs Q E X y=>⟨_,(o j A c s H E (by rw[q]) X).AK,CT O r y⟩
def Xb:nT P w K mg base ui 0 (G.fa f) (G.fd f) (G.ps f) (Gy G (cR T defs 0) f):=⟨λvs H Q E h=>h.1,λA c s H o us vs Q E u y J r j=>by obtain⟨_,_,_,_,_,_,_,_,_,_,_,_,_,q,_⟩:=j;simp[cR]at q⟩
def PM(C:G.ko f=true)(u:∀c ct doc cd,G.Gv f c ct doc cd=fnX name (G.cq f) params body scope c .none .none doc pm none cd ct)(S:m5 N (G.ps f|>.take ((G.ps f).length-(G.cs f).length)) (G.cs f) scope)(O:(G.ps f).take ((G.ps f).length-(G.cs f).length)++G.cs f=G.ps f) (U:N.length=(defs f).slots)(y:(defs f).np<=(defs f).slots) (X:∀c ct doc cd us,us.length=(G.ps f).length-(G.cs f).length->bindArgs (fnX name (G.cq f) params body scope c .none .none doc pm none cd ct) ⟨us,[]⟩=pure (((G.ps f).take ((G.ps f).length-(G.cs f).length)).zip us)) (o:∀(a:Addr) (cd:Value) (c:v8) (A:Around) (h:List Env) (s:Shared) (H:Hp) (j:List V),gH n (A.deeper (jS (G.cq f) scope s.heap.objs.size a cd c))->gG (tM ui P w K mg base N (G.cq f) scope a cd c A h s H E0).AK body (tS G T (cR T defs n) (defs f).body)):∀(A) (h) (s) (H) (us) (vs j) (a:Addr) (Q:VK),gH (n+1) A->uf P w K mg base A h s H->pI G [] H a f j->Vals vs us->Gy G (cR T defs (n+1)) f (vs++j) H Q E0->codeAny (model P w) A (.call (.ref a) ⟨us,[]⟩) (CR ui h P w H s Q E0) s:=by
 intro A h s H us vs j a Q J Y ⟨_,c,ct,doc,c',h1,h2,h3,_⟩ r hsp;have L:vs.length=((G.ps f).take ((G.ps f).length-(G.cs f).length)).length:=by have q:=hsp.1;have F:=h3.len;rw[fi]at q;rw[oG];omega
 rw[u]at h1;exact Kc (CX:=ui) (E:=E0) S J Y h3 h1 h2 L r (X _ _ _ _ _ (by rw[<-r.length,L,oG];omega)) ⟨_,(o a _ c A h s H j (J.deeper _)).AK,CT U y hsp⟩
def PN(F:G.ko f=true)(u:∀c ct doc cd,G.Gv f c ct doc cd=kla_fn name (G.cq f) params body scope c pm cd ct)(S:m5 N (G.ps f|>.take ((G.ps f).length-(G.cs f).length)) (G.cs f) scope) (U:N.length=(defs f).slots)(y:(defs f).np<=(defs f).slots)(J:(defs f).body=.ret X) (Y:∀c ct cd us,us.length=(G.ps f).length-(G.cs f).length->bindArgs (kla_fn name (G.cq f) params body scope c pm cd ct) ⟨us,[]⟩=pure (((G.ps f).take ((G.ps f).length-(G.cs f).length)).zip us)) (o:∀(a:Addr) (cd:Value) (c:v8) (A:Around) (h:List Env) (s:Shared) (H:Hp) (j:List V),gH n (A.deeper (jS (G.cq f) scope s.heap.objs.size a cd c))->PE (tM ui P w K mg base N (G.cq f) scope a cd c A h s H E0).AK body (tI G T (cR T defs n) X)):∀(A) (h) (s) (H) (us) (vs j) (a:Addr) (Q:VK),gH (n+1) A->uf P w K mg base A h s H->pI G [] H a f j->Vals vs us->Gy G (cR T defs (n+1)) f (vs++j) H Q E0->codeAny (model P w) A (.call (.ref a) ⟨us,[]⟩) (CR ui h P w H s Q E0) s:=by
 intro A h s H us vs j a Q L C ⟨_,c,ct,doc,c',h1,h2,h3,_⟩ r hsp;have O:vs.length=((G.ps f).take ((G.ps f).length-(G.cs f).length)).length:=by have q:=hsp.1;have D:=h3.len;rw[fi]at q;rw[oG];omega
 rw[u]at h1;exact Kb (CX:=ui) (E:=E0) S L C h3 h1 h2 O r (Y _ _ _ _ (by rw[<-r.length,O,oG];omega)) ⟨_,(o a _ c A h s H j (L.deeper _)).AK,Tr U y J hsp⟩
end
end Lw
namespace Lw
open Sg40
abbrev Vl:=SV
abbrev Ex:=IE
abbrev St:=IS
noncomputable def GL:St:=.ret (.bin .sub (.bin .shl (.int 1) (.v 0)) (.int 1))
noncomputable def MM:St:=.ret (.bin .and (.v 0) (.call .ones (.cons (.v 1) .nil)))
noncomputable def vy:St:=.ret (.tQ (.bin .shr (.v 0) (.bin .sub (.v 1) (.int 1))) (.bin .sub (.v 0) (.bin .shl (.int 1) (.v 1))) (.v 0))
noncomputable def GN:St:=.ret (.max2 (.int 0) (.min2 (.v 0) (.call .ones (.cons (.v 1) .nil))))
noncomputable def oN:St:=.set 2 (.call .ones (.cons (.bin .sub (.v 1) (.int 1)) .nil)) (.ret (.call .cut (.cons (.max2 (.bin .sub (.neg (.v 2)) (.int 1)) (.min2 (.v 0) (.v 2))) (.cons (.v 1) .nil))))
noncomputable def qk:St:=.set 1 (.int 0) (.Vn 300 (.v 0) (.aug 0 .and (.bin .sub (.v 0) (.int 1)) (.aug 1 .add (.int 1) .nil)) (.ret (.v 1)))
noncomputable def oO:St:=.set 1 (.int 0) (.kr [2,3] (.enum (.v 0)) (.ite (.v 3) (.aug 1 .or (.bin .shl (.int 1) (.v 2)) .nil) .nil .nil) (.ret (.v 1)))
noncomputable def wK:St:=.ret (.cmp .eq (.bin .and (.bin .shr (.v 0) (.v 1)) (.int 1)) (.int 1))
noncomputable def oP:St:=.set 2 (.call .ones (.cons (.v 1) .nil)) (.own 3 (.list .nil) (.kr [4] (.seq (.v 0)) (.kr [5] (.uk (.int 0) (.int 64) (.v 1)) (.app 3 (.bin .and (.bin .shr (.v 4) (.v 5)) (.v 2)) .nil) .nil) (.AV 3)))
noncomputable def ql:St:=.set 2 (.bin .fdiv (.int 64) (.v 1)) (.own 3 (.list .nil) (.kr [4] (.uk (.int 0) (.len (.v 0)) (.v 2)) (.set 5 (.int 0) (.kr [6] (.rev (.sl (.v 0) (.v 4) (.bin .add (.v 4) (.v 2)))) (.set 5 (.bin .or (.bin .shl (.v 5) (.v 1)) (.v 6)) .nil) (.app 3 (.v 5) .nil))) (.AV 3)))
noncomputable def rK:St:=.set 3 (.bin .fdiv (.len (.v 0)) (.int 4)) (.own 4 (.list .nil) (.kr [5] (.uk (.int 0) (.len (.v 0)) (.v 3)) (.ext 4 (.i0 2 (.cons (.sl (.v 0) (.v 5) (.bin .add (.v 5) (.v 3))) (.cons (.sl (.v 1) (.v 5) (.bin .add (.v 5) (.v 3))) .nil))) .nil) (.AV 4)))
noncomputable def kF:St:=.set 3 (.aI .aa (.v 2) (.cons (.aK (.v 1) .d) (.cons (.aK (.v 1) .k) .nil))) (.set 4 (.aI .aa (.v 2) (.cons (.aK (.v 1) .a) (.cons (.aK (.v 1) .k) .nil))) (.set 5 (.aI .aa (.v 2) (.cons (.aK (.v 1) .b) (.cons (.aK (.v 1) .k) .nil))) (.ret (.lc [6,7,8] (.AU (.v 3) (.v 4) (.v 5)) (.i0 0 (.cons (.v 6) (.cons (.v 7) (.cons (.v 8) .nil))))))))
noncomputable def jX:St:=.ret (.call .cut (.cons (.bin .shr (.bin .shl (.bin .or (.bin .shl (.v 1) (.v 3)) (.v 2)) (.bin .mod (.v 0) (.v 3))) (.v 3)) (.cons (.v 3) .nil)))
noncomputable def oQ:St:=.set 2 (.aK (.v 0) .k) (.ret (.call .ez (.cons (.lam .c1 [2]) (.cons (.v 0) (.cons (.v 1) .nil)))))
noncomputable def jm:St:=.ret (.call .cut (.cons (.bin .shr (.bin .or (.bin .shl (.v 2) (.v 3)) (.v 1)) (.bin .mod (.v 0) (.v 3))) (.cons (.v 3) .nil)))
noncomputable def m_:St:=.set 2 (.aK (.v 0) .k) (.ret (.call .ez (.cons (.lam .cA [2]) (.cons (.v 0) (.cons (.v 1) .nil)))))
noncomputable def ft:St:=.set 5 (.int 0) (.kr [6] (.qi (.int 8)) (.ite (.call .c7 (.cons (.aK (.v 3) .m) (.cons (.v 6) .nil))) (.set 7 (.tQ (.bin .and (.v 6) (.int 4)) (.v 0) (.bin .xor (.v 0) (.v 4))) (.set 8 (.tQ (.bin .and (.v 6) (.int 2)) (.v 1) (.bin .xor (.v 1) (.v 4))) (.set 9 (.tQ (.bin .and (.v 6) (.int 1)) (.v 2) (.bin .xor (.v 2) (.v 4))) (.aug 5 .or (.bin .and (.bin .and (.v 7) (.v 8)) (.v 9)) .nil)))) .nil .nil) (.ret (.v 5)))
noncomputable def nc:St:=.set 2 (.call .ones (.cons (.aK (.v 0) .k) .nil)) (.rn 3 .aU [0,2] (.ret (.call .ez (.cons (.v 3) (.cons (.v 0) (.cons (.v 1) .nil))))))
noncomputable def CU:St:=.set 2 (.aI .aY (.v 1) (.cons (.aK (.v 0) .m) .nil)) (.set 3 (.aI .aa (.v 1) (.cons (.aK (.v 0) .a) (.cons (.aK (.v 0) .k) .nil))) (.set 4 (.aI .aa (.v 1) (.cons (.aK (.v 0) .b) (.cons (.aK (.v 0) .k) .nil))) (.ret (.lc [5] (.qi (.aK (.v 0) .n)) (.tQ (.call .c7 (.cons (.v 2) (.cons (.v 5) .nil))) (.ix (.v 4) (.v 5)) (.ix (.v 3) (.v 5)))))))
noncomputable def lP:St:=.ret (.bin .mul (.list (.cons (.call .cut (.cons (.aI .aW (.v 1) (.cons (.aK (.v 0) .b) .nil)) (.cons (.aK (.v 0) .k) .nil))) .nil)) (.aK (.v 0) .n))
noncomputable def jn:St:=.ret (.bin .mul (.list (.cons (.call .cut (.cons (.aI .aY (.v 1) (.cons (.aK (.v 0) .b) .nil)) (.cons (.aK (.v 0) .n) .nil))) .nil)) (.aK (.v 0) .n))
noncomputable def uo:St:=.set 2 (.aI .aW (.v 1) (.cons (.aK (.v 0) .b) .nil)) (.ret (.lc [3] (.qi (.aK (.v 0) .n)) (.call .cut (.cons (.bin .add (.v 2) (.bin .mul (.v 3) (.aK (.v 0) .z))) (.cons (.aK (.v 0) .k) .nil)))))
noncomputable def jo:St:=.set 2 (.aI .aY (.v 1) (.cons (.aK (.v 0) .b) .nil)) (.ret (.lc [3] (.qi (.aK (.v 0) .n)) (.tQ (.call .c7 (.cons (.v 2) (.cons (.v 3) .nil))) (.call .ones (.cons (.aK (.v 0) .k) .nil)) (.int 0))))
noncomputable def qm:St:=.ret (.kq .tN (.v 0))
noncomputable def kG:St:=.ret (.bin .and (.v 0) (.v 1))
noncomputable def lQ:St:=.ret (.bin .or (.v 0) (.v 1))
noncomputable def gr:St:=.ret (.bin .xor (.v 0) (.v 1))
noncomputable def qo:St:=.ret (.inv (.bin .xor (.v 0) (.v 1)))
noncomputable def ia:St:=.ret (.bin .and (.inv (.v 0)) (.v 1))
noncomputable def uq:St:=.ret (.inv (.v 0))
noncomputable def rL:St:=.ret (.bin .add (.v 0) (.v 1))
noncomputable def jq:St:=.ret (.bin .shl (.v 0) (.bin .mod (.aK (.v 2) .m) (.int 256)))
noncomputable def iO:St:=.ret (.bin .shr (.v 0) (.bin .mod (.aK (.v 2) .m) (.int 256)))
noncomputable def rM:St:=.set 3 (.bin .fdiv (.aK (.v 2) .k) (.int 2)) (.ret (.bin .or (.bin .shl (.call .cut (.cons (.v 0) (.cons (.v 3) .nil))) (.v 3)) (.call .cut (.cons (.v 1) (.cons (.v 3) .nil)))))
noncomputable def rN:St:=.ret (.call .cut (.cons (.aI .aY (.v 2) (.cons (.v 0) .nil)) (.cons (.aK (.v 1) .k) .nil)))
noncomputable def jY:St:=.set 2 (.kq .aR (.aK (.v 0) .operation)) (.set 3 (.i0 2 (.cons (.call .ej (.cons (.aK (.v 0) .a) (.cons (.v 0) (.cons (.v 1) .nil)))) (.cons (.call .ej (.cons (.aK (.v 0) .b) (.cons (.v 0) (.cons (.v 1) .nil)))) (.cons (.v 0) .nil)))) (.ex .bH (.v 1) (.cons (.aK (.v 0) .d) (.cons (.call .cut (.cons (.v 3) (.cons (.aK (.v 0) .k) .nil))) .nil)) .nil))
noncomputable def ng:St:=.ret (.call .eY (.cons (.lc [2] (.seq (.v 0)) (.Lj (.v 2) (.v 1))) .nil))
noncomputable def rO:St:=.set 2 (.aI .aa (.v 1) (.cons (.aK (.v 0) .a) (.cons (.aK (.v 0) .k) .nil))) (.set 3 (.aI .aa (.v 1) (.cons (.aK (.v 0) .b) (.cons (.aK (.v 0) .k) .nil))) (.set 4 (.bin .mul (.bin .fdiv (.aK (.v 0) .d) (.int 2)) (.int 2)) (.ex .bH (.v 1) (.cons (.v 4) (.cons (.call .iv (.cons (.v 2) (.cons (.v 3) .nil))) .nil)) (.ex .bH (.v 1) (.cons (.bin .add (.v 4) (.int 1)) (.cons (.call .iv (.cons (.v 3) (.cons (.v 2) .nil))) .nil)) .nil))))
noncomputable def gX:St:=.ex .dz (.v 1) (.cons (.aK (.v 0) .d) (.cons (.call .ej (.cons (.aK (.v 0) .a) (.cons (.v 0) (.cons (.v 1) .nil)))) .nil)) .nil
noncomputable def gY:St:=.ex .bH (.v 1) (.cons (.aK (.v 0) .d) (.cons (.call .cut (.cons (.aI .aW (.v 1) (.cons (.aK (.v 0) .a) .nil)) (.cons (.aK (.v 0) .k) .nil))) .nil)) .nil
noncomputable def jZ:St:=.set 2 (.bin .or (.call .ej (.cons (.aK (.v 0) .a) (.cons (.v 0) (.cons (.v 1) .nil)))) (.call .ej (.cons (.aK (.v 0) .b) (.cons (.v 0) (.cons (.v 1) .nil))))) (.ex .fb (.v 1) (.cons (.cmp .eq (.v 2) (.int 0)) (.cons (.cmp .eq (.v 2) (.call .ones (.cons (.aK (.v 0) .k) .nil))) .nil)) .nil)
noncomputable def lR:St:=.set 2 (.call .ej (.cons (.aK (.v 0) .a) (.cons (.v 0) (.cons (.v 1) .nil)))) (.set 3 (.call .ej (.cons (.aK (.v 0) .b) (.cons (.v 0) (.cons (.v 1) .nil)))) (.ex .fb (.v 1) (.cons (.cmp .eq (.bin .and (.v 2) (.v 3)) (.int 0)) (.cons (.cmp .eq (.bin .and (.inv (.v 2)) (.v 3)) (.int 0)) .nil)) .nil))
def hI:St:=.set 2 (.call .ej (.cons (.aK (.v 0) .a) (.cons (.v 0) (.cons (.v 1) .nil)))) (.ex .dz (.v 1) (.cons (.aK (.v 0) .d) (.cons (.tQ (.v 2) (.bin .sub (.rk (.bin .and (.v 2) (.neg (.v 2)))) (.int 1)) (.aK (.v 0) .k)) .nil)) .nil)
noncomputable def ur:St:=.ex .dz (.v 1) (.cons (.aK (.v 0) .d) (.cons (.call .jk (.cons (.call .ej (.cons (.aK (.v 0) .a) (.cons (.v 0) (.cons (.v 1) .nil)))) .nil)) .nil)) .nil
noncomputable def ov:St:=.ret (.tQ (.inD (.v 0) .aR) (.fn .eO) (.kq .vk (.v 0)))
noncomputable def uu:St:=.set 2 (.aI .aY (.v 1) (.cons (.aK (.v 0) .g) .nil)) (.set 3 (.aI .aa (.v 1) (.cons (.aK (.v 0) .a) (.cons (.aK (.v 0) .k) .nil))) (.set 4 (.rm [5] (.qi (.aK (.v 0) .n)) (.call .c7 (.cons (.v 2) (.cons (.v 5) .nil))) (.ix (.v 3) (.v 5))) (.ex .ef (.v 1) (.cons (.aK (.v 0) .d) (.cons (.bin .add (.v 4) (.Oe (.aI .gq (.v 1) (.cons (.v 0) (.cons (.aK (.v 0) .k) .nil))) (.len (.v 4)))) .nil)) .nil)))
noncomputable def kH:St:=.ex .dz (.v 1) (.cons (.aK (.v 0) .d) (.cons (.ix (.aI .aa (.v 1) (.cons (.aK (.v 0) .a) (.cons (.aK (.v 0) .k) .nil))) (.bin .mod (.aK (.v 0) .m) (.aK (.v 0) .n))) .nil)) .nil
def kI:St:=.own 2 (.aI .aa (.v 1) (.cons (.aK (.v 0) .d) (.cons (.aK (.v 0) .k) .nil))) (.put 2 (.bin .mod (.aK (.v 0) .m) (.aK (.v 0) .n)) (.call .cut (.cons (.aI .aW (.v 1) (.cons (.aK (.v 0) .a) .nil)) (.cons (.aK (.v 0) .k) .nil))) (.pj 2 (.ex .ef (.v 1) (.cons (.aK (.v 0) .d) (.cons (.v 2) .nil)) .nil)))
noncomputable def rP:St:=.ret (.kq .tO (.v 0))
noncomputable def rQ:St:=.ret (.call .cut (.cons (.bin .add (.v 0) (.v 1)) (.cons (.v 2) .nil)))
noncomputable def kJ:St:=.ret (.call .cut (.cons (.bin .sub (.v 0) (.v 1)) (.cons (.v 2) .nil)))
noncomputable def kK:St:=.ret (.call .cut (.cons (.bin .mul (.v 0) (.v 1)) (.cons (.v 2) .nil)))
noncomputable def lS:St:=.ret (.bin .shr (.bin .mul (.v 0) (.v 1)) (.v 2))
noncomputable def gs:St:=.ret (.call .cut (.cons (.bin .shr (.bin .mul (.call .signed (.cons (.v 0) (.cons (.v 2) .nil))) (.call .signed (.cons (.v 1) (.cons (.v 2) .nil)))) (.v 2)) (.cons (.v 2) .nil)))
noncomputable def wL:St:=.ret (.bin .fdiv (.bin .add (.bin .add (.v 0) (.v 1)) (.int 1)) (.int 2))
noncomputable def CV:St:=.ret (.abs (.bin .sub (.v 0) (.v 1)))
noncomputable def zM:St:=.ret (.min2 (.v 0) (.v 1))
noncomputable def wM:St:=.ret (.max2 (.v 0) (.v 1))
noncomputable def lT:St:=.ret (.call .cut (.cons (.min2 (.call .signed (.cons (.v 0) (.cons (.v 2) .nil))) (.call .signed (.cons (.v 1) (.cons (.v 2) .nil)))) (.cons (.v 2) .nil)))
noncomputable def kL:St:=.ret (.call .cut (.cons (.max2 (.call .signed (.cons (.v 0) (.cons (.v 2) .nil))) (.call .signed (.cons (.v 1) (.cons (.v 2) .nil)))) (.cons (.v 2) .nil)))
noncomputable def j0:St:=.ret (.call .cz (.cons (.bin .add (.call .signed (.cons (.v 0) (.cons (.v 2) .nil))) (.call .signed (.cons (.v 1) (.cons (.v 2) .nil)))) (.cons (.v 2) .nil)))
noncomputable def uv:St:=.ret (.call .held (.cons (.bin .add (.v 0) (.v 1)) (.cons (.v 2) .nil)))
noncomputable def gu:St:=.ret (.call .cz (.cons (.bin .sub (.call .signed (.cons (.v 0) (.cons (.v 2) .nil))) (.call .signed (.cons (.v 1) (.cons (.v 2) .nil)))) (.cons (.v 2) .nil)))
noncomputable def lU:St:=.ret (.call .held (.cons (.bin .sub (.v 0) (.v 1)) (.cons (.v 2) .nil)))
noncomputable def kN:St:=.ret (.bin .and (.v 0) (.v 1))
noncomputable def lV:St:=.ret (.bin .or (.v 0) (.v 1))
noncomputable def gw:St:=.ret (.bin .xor (.v 0) (.v 1))
noncomputable def ib:St:=.ret (.bin .and (.call .cut (.cons (.inv (.v 0)) (.cons (.v 2) .nil))) (.v 1))
noncomputable def gy:St:=.ret (.tQ (.cmp .ge (.v 1) (.v 2)) (.int 0) (.call .cut (.cons (.bin .shl (.v 0) (.v 1)) (.cons (.v 2) .nil))))
noncomputable def fE:St:=.ret (.tQ (.cmp .ge (.v 1) (.v 2)) (.int 0) (.bin .shr (.v 0) (.v 1)))
noncomputable def ic:St:=.ret (.call .cut (.cons (.bin .shr (.call .signed (.cons (.v 0) (.cons (.v 2) .nil))) (.min2 (.v 1) (.bin .sub (.v 2) (.int 1)))) (.cons (.v 2) .nil)))
noncomputable def rR:St:=.set 3 (.bin .mod (.v 1) (.v 2)) (.ret (.call .cut (.cons (.bin .or (.bin .shl (.v 0) (.v 3)) (.bin .shr (.v 0) (.bin .sub (.v 2) (.v 3)))) (.cons (.v 2) .nil))))
noncomputable def qp:St:=.set 3 (.bin .mod (.v 1) (.v 2)) (.ret (.call .cut (.cons (.bin .or (.bin .shr (.v 0) (.v 3)) (.bin .shl (.v 0) (.bin .sub (.v 2) (.v 3)))) (.cons (.v 2) .nil))))
noncomputable def ie:St:=.ret (.abs (.call .signed (.cons (.v 0) (.cons (.v 2) .nil))))
noncomputable def zN:St:=.ret (.call .cut (.cons (.neg (.v 0)) (.cons (.v 2) .nil)))
noncomputable def fW:St:=.ite (.cmp .eq (.v 1) (.int 0)) (.ret (.int 0)) .nil (.ret (.tQ (.cmp .gt (.call .signed (.cons (.v 1) (.cons (.v 2) .nil))) (.int 0)) (.v 0) (.call .cut (.cons (.neg (.v 0)) (.cons (.v 2) .nil)))))
noncomputable def lW:St:=.ret (.call .jk (.cons (.v 0) .nil))
def oR:St:=.ret (.bin .sub (.v 2) (.rk (.v 0)))
noncomputable def j4:St:=.set 3 (.bin .shr (.bin .mul (.call .signed (.cons (.v 0) (.cons (.v 2) .nil))) (.call .signed (.cons (.v 1) (.cons (.v 2) .nil)))) (.bin .sub (.v 2) (.int 2))) (.ret (.call .cut (.cons (.bin .shr (.bin .add (.v 3) (.int 1)) (.int 1)) (.cons (.v 2) .nil))))
noncomputable def oS:St:=.ret (.kq .jI (.v 0))
noncomputable def nh:St:=.set 3 (.aI .aa (.v 2) (.cons (.aK (.v 1) .a) (.cons (.aK (.v 1) .k) .nil))) (.set 4 (.aI .aa (.v 2) (.cons (.aK (.v 1) .b) (.cons (.aK (.v 1) .k) .nil))) (.ret (.lc [5,6] (.zip2 (.v 3) (.v 4)) (.i0 0 (.cons (.v 5) (.cons (.v 6) (.cons (.aK (.v 1) .k) .nil)))))))
noncomputable def rS:St:=.ret (.lc [2] (.uk (.int 0) (.len (.v 0)) (.v 1)) (.sum (.sl (.v 0) (.v 2) (.bin .add (.v 2) (.v 1)))))
noncomputable def rT:St:=.ret (.lc [2,3] (.zip2 (.v 0) (.v 1)) (.abs (.bin .sub (.v 2) (.v 3))))
noncomputable def lX:St:=.ret (.call .dg (.cons (.call .mS (.cons (.aI .aa (.v 1) (.cons (.aK (.v 0) .a) (.cons (.int 8) .nil))) (.cons (.aI .aa (.v 1) (.cons (.aK (.v 0) .b) (.cons (.int 8) .nil))) .nil))) (.cons (.int 8) .nil)))
noncomputable def gz:St:=.set 4 (.sl (.v 1) (.v 3) (.bin .add (.v 3) (.int 4))) (.ret (.lc [5] (.qi (.int 8)) (.sum (.call .mS (.cons (.sl (.v 0) (.bin .add (.v 2) (.v 5)) (.bin .add (.bin .add (.v 2) (.v 5)) (.int 4))) (.cons (.v 4) .nil))))))
noncomputable def j5:St:=.set 2 (.bin .mul (.bin .mod (.bin .fdiv (.aK (.v 0) .m) (.int 4)) (.int 2)) (.int 4)) (.set 3 (.bin .mul (.bin .mod (.aK (.v 0) .m) (.int 4)) (.int 4)) (.rn 4 .bB [2,3] (.ret (.call .fL (.cons (.aI .aa (.v 1) (.cons (.aK (.v 0) .a) (.cons (.int 8) .nil))) (.cons (.aI .aa (.v 1) (.cons (.aK (.v 0) .b) (.cons (.int 8) .nil))) (.cons (.v 4) .nil)))))))
noncomputable def fX:St:=.set 2 (.Kj (.v 0)) (.ret (.list (.cons (.bin .or (.v 2) (.bin .shl (.index (.v 0) (.v 2)) (.int 16))) (.cons (.int 0) .nil))))
noncomputable def j6:St:=.rn 2 .bg [] (.ret (.call .fL (.cons (.aI .aa (.v 1) (.cons (.aK (.v 0) .a) (.cons (.int 16) .nil))) (.cons (.aI .aa (.v 1) (.cons (.aK (.v 0) .b) (.cons (.int 16) .nil))) (.cons (.v 2) .nil)))))
noncomputable def lY:St:=.set 2 (.aI .aa (.v 1) (.cons (.aK (.v 0) .a) (.cons (.int 8) .nil))) (.set 3 (.aI .aa (.v 1) (.cons (.aK (.v 0) .b) (.cons (.int 8) .nil))) (.ret (.lc [4,5] (.zip2 (.v 2) (.v 3)) (.bin .mul (.v 4) (.call .signed (.cons (.v 5) (.cons (.int 8) .nil)))))))
noncomputable def j7:St:=.set 2 (.aI .aa (.v 1) (.cons (.aK (.v 0) .a) (.cons (.int 16) .nil))) (.set 3 (.aI .aa (.v 1) (.cons (.aK (.v 0) .b) (.cons (.int 16) .nil))) (.ret (.lc [4,5] (.zip2 (.v 2) (.v 3)) (.bin .mul (.call .signed (.cons (.v 4) (.cons (.int 16) .nil))) (.call .signed (.cons (.v 5) (.cons (.int 16) .nil)))))))
noncomputable def uw:St:=.set 3 (.aI .aa (.v 2) (.cons (.aK (.v 1) .d) (.cons (.int 32) .nil))) (.ret (.lc [4,5] (.zip2 (.v 3) (.v 0)) (.bin .add (.call .signed (.cons (.v 4) (.cons (.int 32) .nil))) (.v 5))))
noncomputable def iP:St:=.ret (.lc [2] (.seq (.call .lz (.cons (.call .dg (.cons (.call .fk (.cons (.v 0) (.cons (.v 1) .nil))) (.cons (.int 4) .nil))) (.cons (.v 0) (.cons (.v 1) .nil))))) (.call .cut (.cons (.v 2) (.cons (.int 32) .nil))))
noncomputable def fu:St:=.ret (.lc [2] (.seq (.call .lz (.cons (.call .dg (.cons (.call .fk (.cons (.v 0) (.cons (.v 1) .nil))) (.cons (.int 4) .nil))) (.cons (.v 0) (.cons (.v 1) .nil))))) (.call .cz (.cons (.v 2) (.cons (.int 32) .nil))))
noncomputable def ni:St:=.ret (.lc [2] (.seq (.call .lz (.cons (.call .dg (.cons (.call .dW (.cons (.v 0) (.cons (.v 1) .nil))) (.cons (.int 2) .nil))) (.cons (.v 0) (.cons (.v 1) .nil))))) (.call .cut (.cons (.v 2) (.cons (.int 32) .nil))))
noncomputable def iQ:St:=.ret (.lc [2] (.seq (.call .lz (.cons (.call .dg (.cons (.call .dW (.cons (.v 0) (.cons (.v 1) .nil))) (.cons (.int 2) .nil))) (.cons (.v 0) (.cons (.v 1) .nil))))) (.call .cz (.cons (.v 2) (.cons (.int 32) .nil))))
noncomputable def nj:St:=.ret (.lc [2] (.seq (.call .dg (.cons (.call .dW (.cons (.v 0) (.cons (.v 1) .nil))) (.cons (.int 2) .nil)))) (.call .cut (.cons (.v 2) (.cons (.int 32) .nil))))
noncomputable def fw:St:=.ret (.lc [2] (.seq (.call .dg (.cons (.call .fk (.cons (.v 0) (.cons (.v 1) .nil))) (.cons (.int 2) .nil)))) (.call .cz (.cons (.v 2) (.cons (.int 16) .nil))))
noncomputable def gA:St:=.set 3 (.aI .aa (.v 2) (.cons (.aK (.v 1) .b) (.cons (.int 64) .nil))) (.ret (.lc [4,5] (.enum (.aI .aa (.v 2) (.cons (.aK (.v 1) .a) (.cons (.int 8) .nil)))) (.i0 0 (.cons (.v 5) (.cons (.ix (.v 3) (.bin .fdiv (.v 4) (.int 8))) .nil)))))
noncomputable def ig:St:=.ret (.call .cut (.cons (.bin .shr (.bin .or (.bin .shl (.v 1) (.int 64)) (.v 1)) (.bin .mod (.v 0) (.int 64))) (.cons (.int 8) .nil)))
noncomputable def wN:St:=.rn 2 .bV [] (.ret (.call .b1 (.cons (.v 2) (.cons (.v 0) (.cons (.v 1) .nil)))))
noncomputable def lZ:St:=.set 2 (.int 0) (.kr [3] (.qi (.int 8)) (.ite (.call .c7 (.cons (.v 1) (.cons (.v 3) .nil))) (.aug 2 .xor (.v 0) .nil) .nil (.aug 0 .shl (.int 1) (.ite (.cmp .gt (.v 0) (.int 255)) (.aug 0 .xor (.uj 2 283) .nil) .nil .nil))) (.ret (.v 2)))
noncomputable def l0:St:=.set 1 (.int 1) (.set 2 (.v 0) (.kr [3] (.D_ (.int 1) (.int 8)) (.set 2 (.call .dy (.cons (.v 2) (.cons (.v 2) .nil))) (.set 1 (.call .dy (.cons (.v 1) (.cons (.v 2) .nil))) .nil)) (.ret (.v 1))))
noncomputable def kP:St:=.set 2 (.aI .aa (.v 1) (.cons (.aK (.v 0) .a) (.cons (.int 8) .nil))) (.set 3 (.aI .aa (.v 1) (.cons (.aK (.v 0) .b) (.cons (.int 8) .nil))) (.ret (.lc [4,5] (.zip2 (.v 2) (.v 3)) (.call .dy (.cons (.v 4) (.cons (.v 5) .nil))))))
noncomputable def wO:St:=.ret (.call .eY (.cons (.lc [2] (.qi (.int 8)) (.bin .mod (.call .jk (.cons (.bin .and (.bin .shr (.v 1) (.bin .sub (.int 56) (.bin .mul (.int 8) (.v 2)))) (.v 0)) .nil)) (.int 2))) .nil))
noncomputable def l5:St:=.ret (.bin .xor (.call .sQ (.cons (.v 0) (.cons (.v 1) .nil))) (.call .cut (.cons (.aK (.v 2) .m) (.cons (.int 8) .nil))))
noncomputable def rV:St:=.ret (.call .b1 (.cons (.lam .ee [0]) (.cons (.v 0) (.cons (.v 1) .nil))))
noncomputable def fY:St:=.ret (.bin .xor (.call .sQ (.cons (.call .iY (.cons (.v 0) .nil)) (.cons (.v 1) .nil))) (.call .cut (.cons (.aK (.v 2) .m) (.cons (.int 8) .nil))))
noncomputable def iR:St:=.ret (.call .b1 (.cons (.lam .bh [0]) (.cons (.v 0) (.cons (.v 1) .nil))))
noncomputable def iS:St:=.set 2 (.int 0) (.kr [3] (.qi (.int 64)) (.ite (.call .c7 (.cons (.v 1) (.cons (.v 3) .nil))) (.aug 2 .xor (.bin .shl (.v 0) (.v 3)) .nil) .nil .nil) (.ret (.v 2)))
noncomputable def c5:St:=.set 4 (.call .eZ (.cons (.ix (.v 0) (.v 2)) (.cons (.ix (.v 1) (.v 3)) .nil))) (.ret (.list (.cons (.call .cut (.cons (.v 4) (.cons (.int 64) .nil))) (.cons (.bin .shr (.v 4) (.int 64)) .nil))))
noncomputable def ij:St:=.set 2 (.bin .mod (.aK (.v 0) .m) (.int 2)) (.set 3 (.bin .mod (.bin .fdiv (.aK (.v 0) .m) (.int 16)) (.int 2)) (.rn 4 .aF [2,3] (.ret (.call .fL (.cons (.aI .aa (.v 1) (.cons (.aK (.v 0) .a) (.cons (.int 64) .nil))) (.cons (.aI .aa (.v 1) (.cons (.aK (.v 0) .b) (.cons (.int 64) .nil))) (.cons (.v 4) .nil)))))))
noncomputable def oT:St:=.set 2 (.aI .aa (.v 1) (.cons (.aK (.v 0) .a) (.cons (.aK (.v 0) .k) .nil))) (.ret (.lc [4,5] (.enum (.v 2)) (.call .eY (.cons (.lc [3] (.seq (.D9 (.v 2) (.v 4))) (.cmp .eq (.v 3) (.v 5))) .nil))))
noncomputable def kQ:St:=.set 2 (.aI .aa (.v 1) (.cons (.aK (.v 0) .a) (.cons (.int 64) .nil))) (.set 3 (.aI .aa (.v 1) (.cons (.aK (.v 0) .b) (.cons (.int 64) .nil))) (.ret (.lc [4,5] (.zip2 (.v 2) (.v 3)) (.bin .mul (.call .cut (.cons (.v 4) (.cons (.int 52) .nil))) (.call .cut (.cons (.v 5) (.cons (.int 52) .nil)))))))
noncomputable def nk:St:=.set 2 (.aI .aa (.v 1) (.cons (.aK (.v 0) .d) (.cons (.int 64) .nil))) (.ret (.lc [3,4] (.zip2 (.v 2) (.call .fR (.cons (.v 0) (.cons (.v 1) .nil)))) (.call .cut (.cons (.bin .add (.v 3) (.call .cut (.cons (.v 4) (.cons (.int 52) .nil)))) (.cons (.int 64) .nil)))))
noncomputable def nq:St:=.set 2 (.aI .aa (.v 1) (.cons (.aK (.v 0) .d) (.cons (.int 64) .nil))) (.ret (.lc [3,4] (.zip2 (.v 2) (.call .fR (.cons (.v 0) (.cons (.v 1) .nil)))) (.call .cut (.cons (.bin .add (.v 3) (.bin .shr (.v 4) (.int 52))) (.cons (.int 64) .nil)))))
noncomputable def l9:St:=.ret (.kq .iZ (.v 0))
noncomputable def CW:St:=.ret (.bin .add (.v 0) (.v 2))
noncomputable def jr:St:=.ret (.bin .add (.v 0) (.v 1))
noncomputable def fZ:St:=.ret (.bin .sub (.v 0) (.v 1))
noncomputable def f6:St:=.ret (.bin .mul (.v 0) (.v 1))
noncomputable def f7:St:=.ret (.bin .and (.v 0) (.v 1))
noncomputable def gB:St:=.ret (.bin .or (.v 0) (.v 1))
noncomputable def dM:St:=.ret (.bin .xor (.v 0) (.v 1))
noncomputable def eK:St:=.ret (.bin .shl (.v 0) (.bin .mod (.v 1) (.int 64)))
noncomputable def eD:St:=.ret (.bin .shr (.v 0) (.bin .mod (.v 1) (.int 64)))
noncomputable def zO:St:=.ret (.v 2)
noncomputable def nr:St:=.set 2 (.kq .bF (.aK (.v 0) .operation)) (.set 3 (.aI .aW (.v 1) (.cons (.aK (.v 0) .a) .nil)) (.set 4 (.aI .aW (.v 1) (.cons (.aK (.v 0) .b) .nil)) (.ex .dz (.v 1) (.cons (.aK (.v 0) .d) (.cons (.i0 2 (.cons (.v 3) (.cons (.v 4) (.cons (.aK (.v 0) .z) .nil)))) .nil)) .nil)))
noncomputable def j8:St:=.set 2 (.aI .aW (.v 1) (.cons (.aK (.v 0) .a) .nil)) (.set 3 (.aI .aW (.v 1) (.cons (.aK (.v 0) .b) .nil)) (.ex .fb (.v 1) (.cons (.cmp .eq (.v 2) (.v 3)) (.cons (.cmp .lt (.v 2) (.v 3)) .nil)) .nil))
noncomputable def jb:St:=.ite (.cmp .eq (.v 0) (.int 140)) (.ret (.fn .eT)) .nil (.ret (.tQ (.inD (.v 0) .bF) (.fn .iB) .cw))
noncomputable def GQ:St:=.set 2 (.aI .aa (.v 1) (.cons (.aK (.v 0) .a) (.cons (.aK (.v 0) .k) .nil))) (.ret (.lc [3] (.seq (.aI .aa (.v 1) (.cons (.aK (.v 0) .b) (.cons (.aK (.v 0) .k) .nil)))) (.ix (.v 2) (.bin .mod (.v 3) (.aK (.v 0) .n)))))
noncomputable def oU:St:=.set 2 (.bin .add (.aI .aa (.v 1) (.cons (.aK (.v 0) .a) (.cons (.aK (.v 0) .k) .nil))) (.aI .aa (.v 1) (.cons (.aK (.v 0) .d) (.cons (.aK (.v 0) .k) .nil)))) (.ret (.lc [3] (.seq (.aI .aa (.v 1) (.cons (.aK (.v 0) .b) (.cons (.aK (.v 0) .k) .nil)))) (.ix (.v 2) (.bin .mod (.v 3) (.len (.v 2))))))
noncomputable def iT:St:=.ret (.lc [2] (.seq (.v 1)) (.tQ (.cmp .ge (.v 2) (.int 128)) (.int 0) (.ix (.v 0) (.bin .mod (.v 2) (.int 16)))))
noncomputable def qr:St:=.rn 2 .cc [] (.ret (.call .fL (.cons (.aI .aa (.v 1) (.cons (.aK (.v 0) .a) (.cons (.int 8) .nil))) (.cons (.aI .aa (.v 1) (.cons (.aK (.v 0) .b) (.cons (.int 8) .nil))) (.cons (.v 2) .nil)))))
noncomputable def rW:St:=.set 2 (.bin .add (.aI .aa (.v 1) (.cons (.aK (.v 0) .b) (.cons (.aK (.v 0) .k) .nil))) (.aI .aa (.v 1) (.cons (.aK (.v 0) .a) (.cons (.aK (.v 0) .k) .nil)))) (.set 3 (.bin .mod (.aK (.v 0) .m) (.aK (.v 0) .n)) (.ret (.sl (.v 2) (.v 3) (.bin .add (.v 3) (.aK (.v 0) .n)))))
noncomputable def f9:St:=.ret (.sl (.bin .add (.bin .add (.v 1) (.v 0)) (.bin .mul (.list (.cons (.int 0) .nil)) (.int 32))) (.v 2) (.bin .add (.v 2) (.int 16)))
noncomputable def j9:St:=.set 2 (.bin .mod (.aK (.v 0) .m) (.int 32)) (.rn 3 .bt [2] (.ret (.call .fL (.cons (.aI .aa (.v 1) (.cons (.aK (.v 0) .a) (.cons (.int 8) .nil))) (.cons (.aI .aa (.v 1) (.cons (.aK (.v 0) .b) (.cons (.int 8) .nil))) (.cons (.v 3) .nil))))))
noncomputable def ux:St:=.own 2 (.list .nil) (.kr [3,4] (.zip2 (.v 0) (.v 1)) (.ext 2 (.list (.cons (.v 3) (.cons (.v 4) .nil))) .nil) (.AV 2))
noncomputable def oV:St:=.set 2 (.bin .fdiv (.len (.v 0)) (.int 2)) (.ret (.call .pF (.cons (.D9 (.v 0) (.v 2)) (.cons (.D9 (.v 1) (.v 2)) .nil))))
noncomputable def oW:St:=.set 2 (.bin .fdiv (.len (.v 0)) (.int 2)) (.ret (.call .pF (.cons (.Oe (.v 0) (.v 2)) (.cons (.Oe (.v 1) (.v 2)) .nil))))
noncomputable def l_:St:=.ret (.call .fL (.cons (.aI .aa (.v 2) (.cons (.aK (.v 1) .a) (.cons (.aK (.v 1) .k) .nil))) (.cons (.aI .aa (.v 2) (.cons (.aK (.v 1) .b) (.cons (.aK (.v 1) .k) .nil))) (.cons (.v 0) .nil))))
noncomputable def js:St:=.ret (.call .fm (.cons (.fn .jE) (.cons (.v 0) (.cons (.v 1) .nil))))
noncomputable def jt:St:=.ret (.call .fm (.cons (.fn .jF) (.cons (.v 0) (.cons (.v 1) .nil))))
noncomputable def uy:St:=.set 2 (.bin .mul (.bin .mod (.v 1) (.int 4)) (.int 2)) (.ret (.sl (.v 0) (.v 2) (.bin .add (.v 2) (.int 2))))
noncomputable def kR:St:=.set 2 (.aI .aa (.v 1) (.cons (.aK (.v 0) .a) (.cons (.int 64) .nil))) (.set 3 (.aI .aa (.v 1) (.cons (.aK (.v 0) .b) (.cons (.int 64) .nil))) (.set 4 (.bin .add (.call .jU (.cons (.v 2) (.cons (.aK (.v 0) .m) .nil))) (.call .jU (.cons (.v 2) (.cons (.bin .shr (.aK (.v 0) .m) (.int 2)) .nil)))) (.ret (.bin .add (.bin .add (.v 4) (.call .jU (.cons (.v 3) (.cons (.bin .shr (.aK (.v 0) .m) (.int 4)) .nil)))) (.call .jU (.cons (.v 3) (.cons (.bin .shr (.aK (.v 0) .m) (.int 6)) .nil)))))))
noncomputable def nt:St:=.set 2 (.aI .aa (.v 1) (.cons (.aK (.v 0) .b) (.cons (.int 64) .nil))) (.set 3 (.bin .mul (.bin .mod (.aK (.v 0) .m) (.int 4)) (.int 2)) (.ret (.bin .add (.bin .add (.D9 (.v 2) (.v 3)) (.D9 (.aI .aa (.v 1) (.cons (.aK (.v 0) .a) (.cons (.int 64) .nil))) (.int 2))) (.Oe (.v 2) (.bin .add (.v 3) (.int 2))))))
noncomputable def md:St:=.ret (.bin .add (.call .jU (.cons (.aI .aa (.v 1) (.cons (.aK (.v 0) .a) (.cons (.int 64) .nil))) (.cons (.aK (.v 0) .m) .nil))) (.bin .mul (.list (.cons (.int 0) .nil)) (.int 6)))
noncomputable def eL:St:=.set 2 (.int 0) (.kr [3] (.uk (.int 0) (.aK (.v 1) .k) (.int 8)) (.set 2 (.bin .or (.bin .shl (.v 2) (.int 8)) (.bin .and (.bin .shr (.v 0) (.v 3)) (.int 255))) .nil) (.ret (.v 2)))
noncomputable def ju:St:=.rn 2 .a7 [0] (.ret (.lc [3] (.seq (.aI .aa (.v 1) (.cons (.aK (.v 0) .a) (.cons (.aK (.v 0) .k) .nil)))) (.i0 2 (.cons (.v 3) .nil))))
noncomputable def zP:St:=.set 2 (.aI .aY (.v 1) (.cons (.aK (.v 0) .g) .nil)) (.set 3 (.aI .aa (.v 1) (.cons (.aK (.v 0) .a) (.cons (.aK (.v 0) .k) .nil))) (.own 4 (.list .nil) (.set 5 (.int 0) (.kr [6] (.qi (.aK (.v 0) .n)) (.app 4 (.ix (.v 3) (.v 5)) (.ite (.call .c7 (.cons (.v 2) (.cons (.v 6) .nil))) (.aug 5 .add (.int 1) .nil) .nil .nil)) (.AV 4)))))
noncomputable def iU:St:=.set 3 (.bin .add (.v 0) (.v 1)) (.ret (.lc [4] (.uk (.int 0) (.len (.v 3)) (.int 2)) (.i0 2 (.cons (.ix (.v 3) (.v 4)) (.cons (.ix (.v 3) (.bin .add (.v 4) (.int 1))) .nil)))))
noncomputable def qs:St:=.rn 3 .cf [0] (.ret (.call .fm (.cons (.v 3) (.cons (.v 1) (.cons (.v 2) .nil)))))
noncomputable def ik:St:=.ret (.call .cut (.cons (.bin .add (.v 0) (.v 1)) (.cons (.aK (.v 2) .k) .nil)))
noncomputable def kS:St:=.ret (.call .hR (.cons (.lam .bW [0]) (.cons (.v 0) (.cons (.v 1) .nil))))
noncomputable def eM:St:=.ret (.call .cut (.cons (.bin .sub (.v 0) (.v 1)) (.cons (.aK (.v 2) .k) .nil)))
noncomputable def gZ:St:=.ret (.call .hR (.cons (.lam .a8 [0]) (.cons (.v 0) (.cons (.v 1) .nil))))
noncomputable def eN:St:=.ret (.call .cz (.cons (.bin .add (.call .signed (.cons (.v 0) (.cons (.v 2) .nil))) (.call .signed (.cons (.v 1) (.cons (.v 2) .nil)))) (.cons (.v 2) .nil)))
noncomputable def g0:St:=.set 2 (.aK (.v 0) .k) (.ret (.call .hR (.cons (.lam .a9 [2]) (.cons (.v 0) (.cons (.v 1) .nil)))))
noncomputable def yz:St:=.ret (.D9 (.aI .aa (.v 1) (.cons (.aK (.v 0) .a) (.cons (.aK (.v 0) .k) .nil))) (.bin .fdiv (.aK (.v 0) .n) (.int 2)))
noncomputable def nu:St:=.ret (.lc [2] (.seq (.call .widen (.cons (.v 0) (.cons (.v 1) .nil)))) (.call .cut (.cons (.call .signed (.cons (.v 2) (.cons (.aK (.v 0) .k) .nil))) (.cons (.bin .mul (.int 2) (.aK (.v 0) .k)) .nil))))
noncomputable def uz:St:=.ret (.bin .add (.lc [3] (.seq (.aI .aa (.v 2) (.cons (.aK (.v 1) .a) (.cons (.bin .mul (.int 2) (.aK (.v 1) .k)) .nil)))) (.i0 0 (.cons (.v 3) .nil))) (.bin .mul (.list (.cons (.int 0) .nil)) (.bin .fdiv (.aK (.v 1) .n) (.int 2))))
noncomputable def qt:St:=.ret (.call .cut (.cons (.v 0) (.cons (.aK (.v 1) .k) .nil)))
noncomputable def zQ:St:=.ret (.call .lA (.cons (.lam .hV [0]) (.cons (.v 0) (.cons (.v 1) .nil))))
noncomputable def iV:St:=.ret (.call .cz (.cons (.call .signed (.cons (.v 0) (.cons (.bin .mul (.int 2) (.aK (.v 1) .k)) .nil))) (.cons (.aK (.v 1) .k) .nil)))
noncomputable def mf:St:=.ret (.call .lA (.cons (.lam .cg [0]) (.cons (.v 0) (.cons (.v 1) .nil))))
noncomputable def j_:St:=.ret (.call .held (.cons (.v 0) (.cons (.aK (.v 1) .k) .nil)))
noncomputable def oX:St:=.ret (.call .lA (.cons (.lam .c3 [0]) (.cons (.v 0) (.cons (.v 1) .nil))))
noncomputable def fy:St:=.ret (.call .held (.cons (.call .signed (.cons (.v 0) (.cons (.bin .mul (.int 2) (.aK (.v 1) .k)) .nil))) (.cons (.aK (.v 1) .k) .nil)))
noncomputable def il:St:=.ret (.call .lA (.cons (.lam .bc [0]) (.cons (.v 0) (.cons (.v 1) .nil))))
noncomputable def oY:St:=.ret (.kq .oJ (.v 0))
noncomputable def CY:St:=.ret (.lc [2] (.seq (.v 1)) (.Lj (.v 2) (.v 0)))
noncomputable def gC:St:=.kr [2] (.uk (.int 0) (.bin .sub (.len (.v 1)) (.int 1)) (.int 2)) (.ite (.chain (.ix (.v 1) (.v 2)) (.v 0) (.ix (.v 1) (.bin .add (.v 2) (.int 1)))) (.ret (.bl true)) .nil .nil) (.ret (.bl false))
noncomputable def wQ:St:=.ret (.lc [2] (.seq (.v 1)) (.call .fT (.cons (.v 2) (.cons (.v 0) .nil))))
noncomputable def CZ:St:=.ret (.lc [2] (.qi (.int 16)) (.cmp .eq (.sl (.v 0) (.v 2) (.bin .add (.v 2) (.int 1))) (.sl (.v 1) (.v 2) (.bin .add (.v 2) (.int 1)))))
noncomputable def uA:St:=.ret (.lc [2] (.qi (.int 16)) (.cmp .eq (.D9 (.v 0) (.bin .sub (.int 16) (.v 2))) (.sl (.v 1) (.v 2) (.bin .add (.v 2) (.len (.v 0))))))
noncomputable def zR:St:=.set 4 (.Kk .jJ (.bin .mod (.aK (.v 0) .m) (.int 4))) (.set 5 (.call .eY (.cons (.i0 4 (.cons (.v 2) (.cons (.v 3) .nil))) .nil)) (.ex .bH (.v 1) (.cons (.aK (.v 0) .d) (.cons (.v 5) .nil)) (.ex .fb (.v 1) (.cons (.cmp .lt (.len (.v 3)) (.int 16)) (.cons (.cmp .ne (.v 5) (.int 0)) .nil)) .nil)))
noncomputable def ny:St:=.ret (.D9 (.aI .aa (.v 1) (.cons (.v 0) (.cons (.int 8) .nil))) (.int 16))
noncomputable def mG:St:=.ret (.tQ (.Lj (.int 0) (.v 0)) (.D9 (.v 0) (.index (.v 0) (.int 0))) (.v 0))
noncomputable def mh:St:=.set 2 (.call .kD (.cons (.call .e7 (.cons (.aK (.v 0) .a) (.cons (.v 1) .nil))) .nil)) (.set 3 (.call .kD (.cons (.call .e7 (.cons (.aK (.v 0) .b) (.cons (.v 1) .nil))) .nil)) (.ex .answer .cw (.cons (.v 0) (.cons (.v 1) (.cons (.v 2) (.cons (.v 3) .nil)))) .nil))
noncomputable def ka:St:=.set 2 (.D9 (.call .e7 (.cons (.aK (.v 0) .a) (.cons (.v 1) .nil))) (.min2 (.aI .aW (.v 1) (.cons (.int 0) .nil)) (.int 16))) (.set 3 (.D9 (.call .e7 (.cons (.aK (.v 0) .b) (.cons (.v 1) .nil))) (.min2 (.aI .aW (.v 1) (.cons (.int 1) .nil)) (.int 16))) (.ex .answer .cw (.cons (.v 0) (.cons (.v 1) (.cons (.v 2) (.cons (.v 3) .nil)))) .nil))
noncomputable def rX:St:=.ret (.kq .tP (.v 0))
noncomputable def sV:St:=.ite (.cmp .eq (.v 0) (.int 0)) (.ret (.cmp .eq (.v 1) (.v 2))) .nil (.ite (.cmp .eq (.v 0) (.int 1)) (.ret (.cmp .lt (.v 1) (.v 2))) .nil (.ret (.and (.cmp .eq (.v 0) (.int 2)) (.cmp .le (.v 1) (.v 2)))))
noncomputable def kT:St:=.set 3 (.call .c7 (.cons (.aK (.v 0) .m) (.cons (.int 2) .nil))) (.ret (.lc [4,5] (.zip2 (.v 1) (.v 2)) (.cmp .ne (.call .D6 (.cons (.bin .mod (.aK (.v 0) .m) (.int 4)) (.cons (.v 4) (.cons (.v 5) .nil)))) (.v 3))))
noncomputable def wR:St:=.set 2 (.aI .aa (.v 1) (.cons (.aK (.v 0) .a) (.cons (.aK (.v 0) .k) .nil))) (.set 3 (.aI .aa (.v 1) (.cons (.aK (.v 0) .b) (.cons (.aK (.v 0) .k) .nil))) (.ret (.call .fU (.cons (.v 0) (.cons (.v 2) (.cons (.v 3) .nil))))))
noncomputable def kU:St:=.set 2 (.lc [4] (.seq (.aI .aa (.v 1) (.cons (.aK (.v 0) .a) (.cons (.aK (.v 0) .k) .nil)))) (.call .signed (.cons (.v 4) (.cons (.aK (.v 0) .k) .nil)))) (.set 3 (.lc [5] (.seq (.aI .aa (.v 1) (.cons (.aK (.v 0) .b) (.cons (.aK (.v 0) .k) .nil)))) (.call .signed (.cons (.v 5) (.cons (.aK (.v 0) .k) .nil)))) (.ret (.call .fU (.cons (.v 0) (.cons (.v 2) (.cons (.v 3) .nil))))))
noncomputable def oZ:St:=.set 2 (.aI .aa (.v 1) (.cons (.aK (.v 0) .a) (.cons (.aK (.v 0) .k) .nil))) (.set 3 (.aI .aa (.v 1) (.cons (.aK (.v 0) .b) (.cons (.aK (.v 0) .k) .nil))) (.ret (.lc [4,5] (.zip2 (.v 2) (.v 3)) (.cmp .ne (.bin .and (.v 4) (.v 5)) (.int 0)))))
noncomputable def nz:St:=.ret (.lc [2] (.seq (.call .gg (.cons (.v 0) (.cons (.v 1) .nil)))) (.not (.v 2)))
noncomputable def nA:St:=.ret (.lc [2] (.seq (.aI .aa (.v 1) (.cons (.aK (.v 0) .a) (.cons (.aK (.v 0) .k) .nil)))) (.call .c7 (.cons (.v 2) (.cons (.bin .sub (.aK (.v 0) .k) (.int 1)) .nil))))
noncomputable def iq:St:=.ret (.call .c7 (.cons (.v 1) (.cons (.bin .mod (.v 0) (.int 64)) .nil)))
noncomputable def kW:St:=.ret (.call .b1 (.cons (.lam .bX []) (.cons (.v 0) (.cons (.v 1) .nil))))
noncomputable def nB:St:=.ret (.kq .sZ (.v 0))
noncomputable def zS:St:=.ret (.and (.aK (.v 0) .sound) (.or (.qh (.aK (.v 0) .operation) .lO) (.Lj (.aK (.v 0) .k) (.Gm .lO (.aK (.v 0) .operation)))))
noncomputable def cu:St:=.kr [2] (.seq (.v 1)) (.set 3 (.i0 2 (.cons (.v 0) .nil)) (.ite (.xM (.v 3)) (.ret (.v 3)) .nil .nil)) (.ret .cw)
noncomputable def kb:St:=.set 2 (.call .ly (.cons (.aK (.v 0) .operation) .nil)) (.ite (.xM (.v 2)) (.ret (.call .jT (.cons (.v 2) (.cons (.v 0) (.cons (.v 1) .nil))))) .nil (.set 3 (.call .e_ (.cons (.aK (.v 0) .operation) (.cons (.tup (.cons (.fn .kA) (.cons (.fn .jG) (.cons (.fn .gQ) .nil)))) .nil))) (.ret (.tQ (.LZ (.v 3)) .cw (.i0 3 (.cons (.v 0) (.cons (.v 1) .nil)))))))
noncomputable def k8:St:=.set 2 (.call .jV (.cons (.aK (.v 0) .operation) .nil)) (.ret (.tQ (.LZ (.v 2)) .cw (.i0 2 (.cons (.v 0) (.cons (.v 1) .nil)))))
noncomputable def jK:St:=.ite (.not (.call .fits (.cons (.v 0) .nil))) (.ret (.bl false)) .nil (.set 2 (.call .hY (.cons (.v 0) (.cons (.v 1) .nil))) (.ite (.xM (.v 2)) (.ex .iG (.v 1) (.cons (.v 0) (.cons (.v 2) .nil)) (.ret (.bl true))) .nil (.set 3 (.call .jH (.cons (.v 0) (.cons (.v 1) .nil))) (.ite (.xM (.v 3)) (.ex .bH (.v 1) (.cons (.aK (.v 0) .d) (.cons (.bin .and (.call .eY (.cons (.v 3) .nil)) (.aI .aY (.v 1) (.cons (.aK (.v 0) .g) .nil))) .nil)) (.ret (.bl true))) .nil (.set 4 (.call .e_ (.cons (.aK (.v 0) .operation) (.cons (.tup (.cons (.fn .mQ) (.cons (.fn .mN) (.cons (.fn .mV) (.cons (.fn .jC) .nil))))) .nil))) (.ite (.LZ (.v 4)) (.ret (.bl false)) .nil (.Vm 4 (.cons (.v 0) (.cons (.v 1) .nil)) (.ret (.bl true)))))))))
noncomputable def nD:St:=.ret (.call .lu (.cons (.sl (.Od (.v 0) .vec) (.bin .mul (.int 8) (.v 1)) (.bin .add (.bin .mul (.int 8) (.v 1)) (.int 8))) (.cons (.v 2) .nil)))
noncomputable def mi:St:=.kr [3,4] (.enum (.call .m6 (.cons (.v 2) (.cons (.bin .fdiv (.int 512) (.len (.v 2))) .nil)))) (.Cy 0 .vec (.bin .add (.bin .mul (.int 8) (.v 1)) (.v 3)) (.v 4) .nil) .nil
def nE:St:=.set 3 (.aI .aY (.v 0) (.cons (.aK (.v 1) .g) .nil)) (.own 4 (.aI .gq (.v 0) (.cons (.v 1) (.cons (.bin .fdiv (.int 512) (.len (.v 2))) .nil))) (.kr [5,6] (.enum (.v 2)) (.ite (.call .c7 (.cons (.v 3) (.cons (.v 5) .nil))) (.put 4 (.v 5) (.v 6) .nil) .nil .nil) (.pj 4 (.ex .ef (.v 0) (.cons (.aK (.v 1) .d) (.cons (.v 4) .nil)) .nil))))
noncomputable def kc:St:=.ret (.tQ (.aK (.v 1) .qg) (.bin .mul (.list (.cons (.int 0) .nil)) (.bin .fdiv (.int 512) (.v 2))) (.aI .aa (.v 0) (.cons (.aK (.v 1) .d) (.cons (.v 2) .nil))))
noncomputable def jv:St:=.ret (.ix (.Od (.v 0) .Cw) (.bin .mod (.v 1) (.int 8)))
noncomputable def hJ:St:=.ite (.cmp .ne (.bin .mod (.v 1) (.int 8)) (.int 0)) (.Cy 0 .Cw (.bin .mod (.v 1) (.int 8)) (.v 2) .nil) .nil .nil
noncomputable def mj:St:=.ret (.ix (.Od (.v 0) .D7) (.v 1))
noncomputable def nG:St:=.Cy 0 .D7 (.v 1) (.call .cut (.cons (.v 2) (.cons (.int 64) .nil))) .nil
noncomputable def o4:St:=.Kl 0 (.bin .or (.tQ (.v 1) (.uj 0 1) (.int 0)) (.tQ (.v 2) (.uj 1 2) (.int 0))) .nil
noncomputable def YF{c:Type}(l:List (List c))(f:F)(d:c):c:=(l.getD (f.ix/15) []).getD (f.ix % 15) d
noncomputable def defs(f:F):Df:=YF ([[⟨1,1,GL⟩,⟨2,2,MM⟩,⟨2,2,vy⟩,⟨2,2,GN⟩,⟨2,3,oN⟩,⟨1,2,qk⟩,⟨1,4,oO⟩,⟨2,2,wK⟩,⟨2,6,oP⟩,⟨2,7,ql⟩,⟨3,6,rK⟩,⟨3,9,kF⟩,⟨4,4,jX⟩,⟨2,3,oQ⟩,⟨4,4,jm⟩],[⟨2,3,m_⟩,⟨5,10,ft⟩,⟨2,4,nc⟩,⟨2,6,CU⟩,⟨2,2,lP⟩,⟨2,2,jn⟩,⟨2,4,uo⟩,⟨2,4,jo⟩,⟨1,1,qm⟩,⟨3,3,kG⟩,⟨3,3,lQ⟩,⟨3,3,gr⟩,⟨3,3,qo⟩,⟨3,3,ia⟩,⟨3,3,uq⟩],[⟨3,3,rL⟩,⟨3,3,jq⟩,⟨3,3,iO⟩,⟨3,4,rM⟩,⟨3,3,rN⟩,⟨2,4,jY⟩,⟨2,3,ng⟩,⟨2,5,rO⟩,⟨2,2,gX⟩,⟨2,2,gY⟩,⟨2,3,jZ⟩,⟨2,4,lR⟩,⟨2,3,hI⟩,⟨2,2,ur⟩,⟨1,1,ov⟩],[⟨2,6,uu⟩,⟨2,2,kH⟩,⟨2,3,kI⟩,⟨1,1,rP⟩,⟨3,3,rQ⟩,⟨3,3,kJ⟩,⟨3,3,kK⟩,⟨3,3,lS⟩,⟨3,3,gs⟩,⟨3,3,wL⟩,⟨3,3,CV⟩,⟨3,3,zM⟩,⟨3,3,wM⟩,⟨3,3,lT⟩,⟨3,3,kL⟩],[⟨3,3,j0⟩,⟨3,3,uv⟩,⟨3,3,gu⟩,⟨3,3,lU⟩,⟨3,3,kN⟩,⟨3,3,lV⟩,⟨3,3,gw⟩,⟨3,3,ib⟩,⟨3,3,gy⟩,⟨3,3,fE⟩,⟨3,3,ic⟩,⟨3,4,rR⟩,⟨3,4,qp⟩,⟨3,3,ie⟩,⟨3,3,zN⟩],[⟨3,3,fW⟩,⟨3,3,lW⟩,⟨3,3,oR⟩,⟨3,4,j4⟩,⟨1,1,oS⟩,⟨3,7,nh⟩,⟨2,3,rS⟩,⟨2,4,rT⟩,⟨2,2,lX⟩,⟨4,6,gz⟩,⟨2,5,j5⟩,⟨2,3,fX⟩,⟨2,3,j6⟩,⟨2,6,lY⟩,⟨2,6,j7⟩],[⟨3,6,uw⟩,⟨2,3,iP⟩,⟨2,3,fu⟩,⟨2,3,ni⟩,⟨2,3,iQ⟩,⟨2,3,nj⟩,⟨2,3,fw⟩,⟨3,6,gA⟩,⟨2,2,ig⟩,⟨2,3,wN⟩,⟨2,4,lZ⟩,⟨1,4,l0⟩,⟨2,6,kP⟩,⟨2,3,wO⟩,⟨3,3,l5⟩],[⟨2,2,rV⟩,⟨3,3,fY⟩,⟨2,2,iR⟩,⟨2,4,iS⟩,⟨4,5,c5⟩,⟨2,5,ij⟩,⟨2,6,oT⟩,⟨2,6,kQ⟩,⟨2,5,nk⟩,⟨2,5,nq⟩,⟨1,1,l9⟩,⟨3,3,CW⟩,⟨3,3,jr⟩,⟨3,3,fZ⟩,⟨3,3,f6⟩],[⟨3,3,f7⟩,⟨3,3,gB⟩,⟨3,3,dM⟩,⟨3,3,eK⟩,⟨3,3,eD⟩,⟨3,3,zO⟩,⟨2,5,nr⟩,⟨2,4,j8⟩,⟨1,1,jb⟩,⟨2,4,GQ⟩,⟨2,4,oU⟩,⟨2,3,iT⟩,⟨2,3,qr⟩,⟨2,4,rW⟩,⟨3,3,f9⟩],[⟨2,4,j9⟩,⟨2,5,ux⟩,⟨2,3,oV⟩,⟨2,3,oW⟩,⟨3,3,l_⟩,⟨2,2,js⟩,⟨2,2,jt⟩,⟨2,3,uy⟩,⟨2,5,kR⟩,⟨2,4,nt⟩,⟨2,2,md⟩,⟨2,4,eL⟩,⟨2,4,ju⟩,⟨2,7,zP⟩,⟨3,5,iU⟩],[⟨3,4,qs⟩,⟨3,3,ik⟩,⟨2,2,kS⟩,⟨3,3,eM⟩,⟨2,2,gZ⟩,⟨3,3,eN⟩,⟨2,3,g0⟩,⟨2,2,yz⟩,⟨2,3,nu⟩,⟨3,4,uz⟩,⟨2,2,qt⟩,⟨2,2,zQ⟩,⟨2,2,iV⟩,⟨2,2,mf⟩,⟨2,2,j_⟩],[⟨2,2,oX⟩,⟨2,2,fy⟩,⟨2,2,il⟩,⟨1,1,oY⟩,⟨2,3,CY⟩,⟨2,3,gC⟩,⟨2,3,wQ⟩,⟨2,3,CZ⟩,⟨2,3,uA⟩,⟨4,6,zR⟩,⟨2,2,ny⟩,⟨1,1,mG⟩,⟨2,4,mh⟩,⟨2,4,ka⟩,⟨1,1,rX⟩],[⟨3,3,sV⟩,⟨3,6,kT⟩,⟨2,4,wR⟩,⟨2,6,kU⟩,⟨2,6,oZ⟩,⟨2,3,nz⟩,⟨2,3,nA⟩,⟨2,2,iq⟩,⟨2,2,kW⟩,⟨1,1,nB⟩,⟨1,1,zS⟩,⟨2,4,cu⟩,⟨2,4,kb⟩,⟨2,3,k8⟩,⟨2,5,jK⟩],[⟨3,3,nD⟩,⟨3,5,mi⟩,⟨3,7,nE⟩,⟨3,3,kc⟩,⟨2,2,jv⟩,⟨3,3,hJ⟩,⟨2,2,mj⟩,⟨3,3,nG⟩,⟨3,3,o4⟩]]) f ⟨0,0,.nil⟩
noncomputable def du:D->Int->Option F
 |.tN,i=>if i=25 then some .hO else if i=26 then some .gm else if i=33 then some .gp else if i=34 then some .Bx else if i=35 then some .gJ else if i=36 then some .eg else if i=37 then some .pB else if i=86 then some .eh else none
 |.aR,i=>if i=90 then some .dD else if i=91 then some .d9 else if i=92 then some .bz else if i=93 then some .kB else if i=94 then some .bS else if i=95 then some .pC else if i=96 then some .jy else if i=97 then some .cC else if i=98 then some .b_ else if i=99 then some .mK else none
 |.vk,i=>if i=87 then some .mL else if i=100 then some .cX else if i=101 then some .cY else if i=102 then some .eP else if i=103 then some .gK else if i=104 then some .eQ else if i=105 then some .pD else none
 |.tO,i=>if i=48 then some .compress else if i=106 then some .fM else if i=107 then some .fN else none
 |.jI,i=>if i=1 then some .jz else if i=2 then some .dF else if i=3 then some .dH else if i=4 then some .gL else if i=5 then some .cD else if i=6 then some .sO else if i=7 then some .apart else if i=8 then some .wB else if i=9 then some .sP else if i=10 then some .gM else if i=11 then some .fO else if i=12 then some .eR else if i=13 then some .pE else if i=14 then some .cE else if i=15 then some .gN else if i=16 then some .dJ else if i=17 then some .d_ else if i=18 then some .bA else if i=19 then some .bU else if i=20 then some .cF else if i=21 then some .cb else if i=22 then some .de else if i=23 then some .mR else if i=24 then some .kC else if i=27 then some .df else if i=28 then some .negate else if i=29 then some .fP else if i=30 then some .gO else if i=31 then some .jA else if i=32 then some .eS else none
 |.iZ,i=>if i=63 then some .gP else if i=64 then some .dR else if i=65 then some .dU else if i=66 then some .dN else if i=67 then some .bZ else if i=68 then some .iw else if i=69 then some .dO else if i=70 then some .iy else if i=71 then some .b0 else if i=72 then some .qf else if i=74 then some .fQ else if i=75 then some .transform else if i=76 then some .cW else if i=77 then some .cx else if i=78 then some .jB else if i=79 then some .iz else if i=80 then some .iA else none
 |.bF,i=>if i=130 then some .By else if i=131 then some .cG else if i=132 then some .bj else if i=133 then some .bp else if i=134 then some .br else if i=135 then some .bE else if i=136 then some .aL else if i=137 then some .a6 else if i=138 then some .aV else if i=139 then some .wC else none
 |.oJ,i=>if i=40 then some .pick else if i=41 then some .jD else if i=42 then some .jl else if i=43 then some .mU else if i=44 then some .d4 else if i=45 then some .ek else if i=46 then some .en else if i=47 then some .fS else if i=49 then some .expand else if i=50 then some .dh else if i=51 then some .iC else if i=52 then some .gR else if i=53 then some .widen else if i=54 then some .iD else if i=55 then some .narrow else if i=56 then some .fo else if i=57 then some .hW else if i=58 then some .cy else if i=60 then some .eA else if i=61 then some .b7 else if i=62 then some .b8 else none
 |.tP,i=>if i=88 then some .gS else if i=89 then some .eU else none
 |.sZ,i=>if i=73 then some .eB else if i=81 then some .compare else if i=82 then some .fV else if i=83 then some .gg else if i=84 then some .iE else if i=85 then some .iF else none
 |_,_=>none
noncomputable def vz:D->Int->Bool
 |.tN,i=>decide (i∈[25,26,33,34,35,36,37,86])
 |.aR,i=>decide (i∈[90,91,92,93,94,95,96,97,98,99])
 |.vk,i=>decide (i∈[87,100,101,102,103,104,105])
 |.tO,i=>decide (i∈[48,106,107])
 |.jI,i=>decide (i∈[1,2,3,4,5,6,7,8,9,10,11,12,13,14,15,16,17,18,19,20,21,22,23,24,27,28,29,30,31,32])
 |.iZ,i=>decide (i∈[63,64,65,66,67,68,69,70,71,72,74,75,76,77,78,79,80])
 |.bF,i=>decide (i∈[130,131,132,133,134,135,136,137,138,139])
 |.oJ,i=>decide (i∈[40,41,42,43,44,45,46,47,49,50,51,52,53,54,55,56,57,58,60,61,62])
 |.tP,i=>decide (i∈[88,89])
 |.sZ,i=>decide (i∈[73,81,82,83,84,85])
 |.lO,i=>decide (i∈[36,53,54,55,56,57,58,62,78,87])
 |_,_=>false
noncomputable def Tt:D->Int->Option (List Int)
 |.lO,i=>if i=36 then some [32,64]else if i=53 then some [8,16,32]else if i=54 then some [8,16,32]else if i=55 then some [8,16,32]else if i=56 then some [8,16,32]else if i=57 then some [8,16,32]else if i=58 then some [8,16,32]else if i=62 then some [16]else if i=78 then some [32,64]else if i=87 then some [32,64]else none
 |_,_=>none
noncomputable def ZE:D->Nat->Option F
 |.jJ,i=>[F.among,F.between,F.alike,F.m7][i]?
 |_,_=>none
def T:pG:=⟨du,vz,Tt,ZE⟩
def Tu:defs .ones=⟨1,1,GL⟩:=rfl
def Xc:defs .cut=⟨2,2,MM⟩:=rfl
def EF:defs .signed=⟨2,2,vy⟩:=rfl
def Tv:defs .held=⟨2,2,GN⟩:=rfl
def AW:defs .cz=⟨2,3,oN⟩:=rfl
def C0:defs .jk=⟨1,2,qk⟩:=rfl
def AX:defs .eY=⟨1,4,oO⟩:=rfl
def KA:defs .c7=⟨2,2,wK⟩:=rfl
def AY:defs .lu=⟨2,6,oP⟩:=rfl
def C1:defs .m6=⟨2,7,ql⟩:=rfl
def EG:defs .fL=⟨3,6,rK⟩:=rfl
def wU:defs .ez=⟨3,9,kF⟩:=rfl
def vA:defs .c1=⟨4,4,jX⟩:=rfl
def AZ:defs .hO=⟨2,3,oQ⟩:=rfl
def uB:defs .cA=⟨4,4,jm⟩:=rfl
def zT:defs .gm=⟨2,3,m_⟩:=rfl
def o5:defs .aU=⟨5,10,ft⟩:=rfl
def zU:defs .gp=⟨2,4,nc⟩:=rfl
def PQ:defs .Bx=⟨2,6,CU⟩:=rfl
def xP:defs .gJ=⟨2,2,lP⟩:=rfl
def uC:defs .eg=⟨2,2,jn⟩:=rfl
def GR:defs .pB=⟨2,4,uo⟩:=rfl
def uD:defs .eh=⟨2,4,jo⟩:=rfl
def C2:defs .kA=⟨1,1,qm⟩:=rfl
def wV:defs .dD=⟨3,3,kG⟩:=rfl
def xQ:defs .d9=⟨3,3,lQ⟩:=rfl
def qu:defs .bz=⟨3,3,gr⟩:=rfl
def C3:defs .kB=⟨3,3,qo⟩:=rfl
def rY:defs .bS=⟨3,3,ia⟩:=rfl
def GS:defs .pC=⟨3,3,uq⟩:=rfl
def EH:defs .jy=⟨3,3,rL⟩:=rfl
def uE:defs .cC=⟨3,3,jq⟩:=rfl
def tj:defs .b_=⟨3,3,iO⟩:=rfl
def EI:defs .mK=⟨3,4,rM⟩:=rfl
def EJ:defs .ej=⟨3,3,rN⟩:=rfl
def vB:defs .eO=⟨2,4,jY⟩:=rfl
def zV:defs .iv=⟨2,3,ng⟩:=rfl
def EK:defs .mL=⟨2,5,rO⟩:=rfl
def qV:defs .cX=⟨2,2,gX⟩:=rfl
def qW:defs .cY=⟨2,2,gY⟩:=rfl
def vC:defs .eP=⟨2,3,jZ⟩:=rfl
def xR:defs .gK=⟨2,4,lR⟩:=rfl
def ox:defs .eQ=⟨2,3,hI⟩:=rfl
def GU:defs .pD=⟨2,2,ur⟩:=rfl
def xB:defs .mN=⟨1,1,ov⟩:=rfl
def GV:defs .compress=⟨2,6,uu⟩:=rfl
def wW:defs .fM=⟨2,2,kH⟩:=rfl
def wX:defs .fN=⟨2,3,kI⟩:=rfl
def EL:defs .mQ=⟨1,1,rP⟩:=rfl
def EM:defs .jz=⟨3,3,rQ⟩:=rfl
def wY:defs .dF=⟨3,3,kJ⟩:=rfl
def wZ:defs .dH=⟨3,3,kK⟩:=rfl
def xS:defs .gL=⟨3,3,lS⟩:=rfl
def qw:defs .cD=⟨3,3,gs⟩:=rfl
def KC:defs .sO=⟨3,3,wL⟩:=rfl
def PR:defs .apart=⟨3,3,CV⟩:=rfl
def MN:defs .wB=⟨3,3,zM⟩:=rfl
def KD:defs .sP=⟨3,3,wM⟩:=rfl
def xT:defs .gM=⟨3,3,lT⟩:=rfl
def w6:defs .fO=⟨3,3,kL⟩:=rfl
def vD:defs .eR=⟨3,3,j0⟩:=rfl
def GW:defs .pE=⟨3,3,uv⟩:=rfl
def qx:defs .cE=⟨3,3,gu⟩:=rfl
def xU:defs .gN=⟨3,3,lU⟩:=rfl
def w9:defs .dJ=⟨3,3,kN⟩:=rfl
def xV:defs .d_=⟨3,3,lV⟩:=rfl
def qy:defs .bA=⟨3,3,gw⟩:=rfl
def rZ:defs .bU=⟨3,3,ib⟩:=rfl
def nH:defs .cF=⟨3,3,gy⟩:=rfl
def mu:defs .cb=⟨3,3,fE⟩:=rfl
def r0:defs .de=⟨3,3,ic⟩:=rfl
def EN:defs .mR=⟨3,4,rR⟩:=rfl
def C4:defs .kC=⟨3,4,qp⟩:=rfl
def r6:defs .df=⟨3,3,ie⟩:=rfl
def MO:defs .negate=⟨3,3,zN⟩:=rfl
def kX:defs .fP=⟨3,3,fW⟩:=rfl
def xW:defs .gO=⟨3,3,lW⟩:=rfl
def A0:defs .jA=⟨3,3,oR⟩:=rfl
def vE:defs .eS=⟨3,4,j4⟩:=rfl
def A1:defs .ly=⟨1,1,oS⟩:=rfl
def zW:defs .jT=⟨3,7,nh⟩:=rfl
def EO:defs .dg=⟨2,3,rS⟩:=rfl
def ER:defs .mS=⟨2,4,rT⟩:=rfl
def xX:defs .gP=⟨2,2,lX⟩:=rfl
def qz:defs .bB=⟨4,6,gz⟩:=rfl
def vF:defs .dR=⟨2,5,j5⟩:=rfl
def pL:defs .bg=⟨2,3,fX⟩:=rfl
def vG:defs .dU=⟨2,3,j6⟩:=rfl
def xY:defs .fk=⟨2,6,lY⟩:=rfl
def vH:defs .dW=⟨2,6,j7⟩:=rfl
def GX:defs .lz=⟨3,6,uw⟩:=rfl
def tq:defs .dN=⟨2,3,iP⟩:=rfl
def o6:defs .bZ=⟨2,3,fu⟩:=rfl
def zX:defs .iw=⟨2,3,ni⟩:=rfl
def tr:defs .dO=⟨2,3,iQ⟩:=rfl
def zY:defs .iy=⟨2,3,nj⟩:=rfl
def o8:defs .b0=⟨2,3,fw⟩:=rfl
def nI:defs .b1=⟨3,6,gA⟩:=rfl
def r8:defs .bV=⟨2,2,ig⟩:=rfl
def KG:defs .qf=⟨2,3,wN⟩:=rfl
def xZ:defs .dy=⟨2,4,lZ⟩:=rfl
def x1:defs .iY=⟨1,4,l0⟩:=rfl
def w_:defs .fQ=⟨2,6,kP⟩:=rfl
def KH:defs .sQ=⟨2,3,wO⟩:=rfl
def x2:defs .ee=⟨3,3,l5⟩:=rfl
def ES:defs .transform=⟨2,2,rV⟩:=rfl
def pM:defs .bh=⟨3,3,fY⟩:=rfl
def ts:defs .cW=⟨2,2,iR⟩:=rfl
def tv:defs .eZ=⟨2,4,iS⟩:=rfl
def ku:defs .aF=⟨4,5,c5⟩:=rfl
def r9:defs .cx=⟨2,5,ij⟩:=rfl
def A2:defs .jB=⟨2,6,oT⟩:=rfl
def xa:defs .fR=⟨2,6,kQ⟩:=rfl
def zZ:defs .iz=⟨2,5,nk⟩:=rfl
def z0:defs .iA=⟨2,5,nq⟩:=rfl
def x3:defs .gQ=⟨1,1,l9⟩:=rfl
def PU:defs .By=⟨3,3,CW⟩:=rfl
def uF:defs .cG=⟨3,3,jr⟩:=rfl
def pN:defs .bj=⟨3,3,fZ⟩:=rfl
def pO:defs .bp=⟨3,3,f6⟩:=rfl
def pP:defs .br=⟨3,3,f7⟩:=rfl
def qA:defs .bE=⟨3,3,gB⟩:=rfl
def lE:defs .aL=⟨3,3,dM⟩:=rfl
def nU:defs .a6=⟨3,3,eK⟩:=rfl
def nJ:defs .aV=⟨3,3,eD⟩:=rfl
def MP:defs .wC=⟨3,3,zO⟩:=rfl
def z1:defs .iB=⟨2,5,nr⟩:=rfl
def vJ:defs .eT=⟨2,4,j8⟩:=rfl
def o9:defs .jC=⟨1,1,jb⟩:=rfl
def Tw:defs .pick=⟨2,4,GQ⟩:=rfl
def A3:defs .jD=⟨2,4,oU⟩:=rfl
def tD:defs .cc=⟨2,3,iT⟩:=rfl
def C5:defs .jl=⟨2,3,qr⟩:=rfl
def ET:defs .mU=⟨2,4,rW⟩:=rfl
def pQ:defs .bt=⟨3,3,f9⟩:=rfl
def vK:defs .d4=⟨2,4,j9⟩:=rfl
def GY:defs .pF=⟨2,5,ux⟩:=rfl
def A4:defs .jE=⟨2,3,oV⟩:=rfl
def A5:defs .jF=⟨2,3,oW⟩:=rfl
def x4:defs .fm=⟨3,3,l_⟩:=rfl
def uG:defs .ek=⟨2,2,js⟩:=rfl
def uH:defs .en=⟨2,2,jt⟩:=rfl
def GZ:defs .jU=⟨2,3,uy⟩:=rfl
def xb:defs .fS=⟨2,5,kR⟩:=rfl
def z4:defs .iC=⟨2,4,nt⟩:=rfl
def x5:defs .gR=⟨2,2,md⟩:=rfl
def nV:defs .a7=⟨2,4,eL⟩:=rfl
def uI:defs .dh=⟨2,4,ju⟩:=rfl
def MQ:defs .expand=⟨2,7,zP⟩:=rfl
def tE:defs .cf=⟨3,5,iU⟩:=rfl
def C6:defs .hR=⟨3,4,qs⟩:=rfl
def r_:defs .bW=⟨3,3,ik⟩:=rfl
def xc:defs .eA=⟨2,2,kS⟩:=rfl
def nW:defs .a8=⟨3,3,eM⟩:=rfl
def qX:defs .b7=⟨2,2,gZ⟩:=rfl
def nX:defs .a9=⟨3,3,eN⟩:=rfl
def qY:defs .b8=⟨2,3,g0⟩:=rfl
def Jh:defs .widen=⟨2,2,yz⟩:=rfl
def z5:defs .iD=⟨2,3,nu⟩:=rfl
def G0:defs .lA=⟨3,4,uz⟩:=rfl
def C7:defs .hV=⟨2,2,qt⟩:=rfl
def MS:defs .narrow=⟨2,2,zQ⟩:=rfl
def tF:defs .cg=⟨2,2,iV⟩:=rfl
def x6:defs .fo=⟨2,2,mf⟩:=rfl
def vL:defs .c3=⟨2,2,j_⟩:=rfl
def A6:defs .hW=⟨2,2,oX⟩:=rfl
def o_:defs .bc=⟨2,2,fy⟩:=rfl
def se:defs .cy=⟨2,2,il⟩:=rfl
def A7:defs .jG=⟨1,1,oY⟩:=rfl
def PV:defs .among=⟨2,3,CY⟩:=rfl
def nK:defs .fT=⟨2,3,gC⟩:=rfl
def KI:defs .between=⟨2,3,wQ⟩:=rfl
def PX:defs .alike=⟨2,3,CZ⟩:=rfl
def G1:defs .m7=⟨2,3,uA⟩:=rfl
def MT:defs .answer=⟨4,6,zR⟩:=rfl
def z6:defs .e7=⟨2,2,ny⟩:=rfl
def vM:defs .kD=⟨1,1,mG⟩:=rfl
def x8:defs .gS=⟨2,4,mh⟩:=rfl
def vN:defs .eU=⟨2,4,ka⟩:=rfl
def EU:defs .mV=⟨1,1,rX⟩:=rfl
def yA:defs .D6=⟨3,3,sV⟩:=rfl
def xf:defs .fU=⟨3,6,kT⟩:=rfl
def KJ:defs .compare=⟨2,4,wR⟩:=rfl
def xg:defs .fV=⟨2,6,kU⟩:=rfl
def A8:defs .gg=⟨2,6,oZ⟩:=rfl
def z8:defs .iE=⟨2,3,nz⟩:=rfl
def z9:defs .iF=⟨2,3,nA⟩:=rfl
def sh:defs .bX=⟨2,2,iq⟩:=rfl
def xh:defs .eB=⟨2,2,kW⟩:=rfl
def z_:defs .jV=⟨1,1,nB⟩:=rfl
def G2:defs .fits=⟨1,1,zS⟩:=rfl
def dB:defs .e_=⟨2,4,cu⟩:=rfl
def qB:defs .hY=⟨2,4,kb⟩:=rfl
def tU:defs .jH=⟨2,3,k8⟩:=rfl
def mX:defs .c8=⟨2,5,jK⟩:=rfl
def Aa:defs .aa=⟨3,3,nD⟩:=rfl
def x9:defs .ef=⟨3,5,mi⟩:=rfl
def Ab:defs .iG=⟨3,7,nE⟩:=rfl
def si:defs .gq=⟨3,3,kc⟩:=rfl
def uJ:defs .aY=⟨2,2,jv⟩:=rfl
def oy:defs .bH=⟨3,3,hJ⟩:=rfl
def x_:defs .aW=⟨2,2,mj⟩:=rfl
def Ac:defs .dz=⟨3,3,nG⟩:=rfl
def A9:defs .fb=⟨3,3,o4⟩:=rfl
abbrev C(n:Nat):=cR T defs n
def ah(n:Nat)(f:F)(as:List Vl)(M:gc):C (n+1) f as M=Gn T (C n) (defs f) as M:=rfl
def MU(b:Bool):truth (.bl b:Vl)=some b:=rfl
def BN(i:Int):truth (.int i:Vl)=some (i !=0):=rfl
def KL(c:Int)(n:Nat)(h:Int):(h_ c n h:List (List Vl))=(AC n).map λ(i:Nat)=>[.int (c+i*h)]:=rfl
def Ad(c:F->List Vl->gc->Option (Vl×Bool×gc))(f:F)(as:List Vl)(M:gc):pH c (.fn f) as M=dt c f as M:=rfl
def bL(c:F->List Vl->gc->Option (Vl×Bool×gc))(f:F)(h as:List Vl)(M:gc):pH c (.ko f h) as M=dt c f (as++h) M:=rfl
def MV(c:F->List Vl->gc->Option (Vl×Bool×gc))(f:F)(as:List Vl)(M:gc):zC c (.fn f) as M=c f as M:=rfl
def KN(c:F->List Vl->gc->Option (Vl×Bool×gc))(f:F)(h as:List Vl)(M:gc):zC c (.ko f h) as M=c f (as++h) M:=rfl
def nL(o:Gk)(i j:Int):zB o (.int i:Vl) (.int j)=(binI o i j).map λr=>(.int r,false):=by cases o<;>rfl
def MW(xs c:List Vl):zB .add (.lst xs:Vl) (.lst c)=if xs.length+c.length<=b6 then some (.lst (xs++c),true)else none:=rfl
def pR{x:Vl}{m:Nat}(h:m<=1000):zB .mul (.lst [x]:Vl) (.int (m:Int))=some (.lst ((AC m).map λ_=>x),true):=by
 have c:[x].length*(m:Int).toNat<=b6/\(m:Int).natAbs<2^62:=by simp only[b6,fJ,my];lia
 have e:∀m:Nat,(Da m [x]).flatten=(AC m).map λ_=>x:=λm=>by
  induction m with
  |zero=>rfl
  |succ m j=>rw[List.replicate_succ',List.flatten_append,j,mz,k0];rfl
 simp only[zB];rw[ae c,fH,e]
def nn0(n:Nat):((0:Int)<=(n:Int))=True:=eq_true (by lia)
def Xd(n:Nat):(0:Int)+(n:Int)*1=(n:Int):=by lia
theorem ints_map:∀(l:List Int),ints? (l.map SV.int:List Vl)=some l
 |[]=>rfl
 |x::l=>by simp only[bI,ints?,ints_map l];rfl
def kd(n:Nat)(f:Nat->Int):ints? ((AC n).map λj=>(SV.int (f j):Vl))=some ((AC n).map f):=by rw[<-ints_map ((AC n).map f),bY];rfl
def MX:(ints? ([]:List Vl))=some []:=rfl
local macro_rules
 | `(tactic|simp_all? [$ls,*])=> `(tactic|simp only[Gn,b6,bY,Ca,nn0,Xd,fH,qP,eI,Gp,CA,vm,Gr,ot,Ib,Ic,vo,Ie,Eb,Ig,Ih,zD,Bz,Ii,CB,L0,Ij,CC,yu,L1,Ik,Il,L3,ro,Ec,BA,Im,Io,Ed,Ee,Ef,Ip,Eg,BB,Eh,Iq,Ir,Ei,Iu,L4,Ej,Iv,rp,mW,k5,i4,i5,i6,i7,i8,i9,k7,Iw,Iy,Iz,IA,IB,IC,ID,IF,Ek,El,Gs,IG,II,Em,IJ,yw,En,Eo,Ev.get,Ev.put,Ev.kE,Ev.vl,Ev.free,nL,MW,Ea,MU,BN,MX,items?,Cz,KL,AL.get,Ord.get,fJ,my,aP,fI,and_self,and_true,true_and,bI,sJ,uc,n0,kZ,c6,k3,li,FN,Sc,ss,yl,g_,Rs,Option.isNone_none,dt,Ad,bL,MV,KN,Da,Nat.reduceAdd,Nat.reduceSub,Nat.reduceLT,Nat.reduceLeDiff,Nat.lt_add_left_iff_pos,Nat.reduceBNe,Nat.reduceEqDiff,decide_true,decide_false,Bool.and_true,Bool.true_and,Bool.and_self,ub,fC,List.all_nil,reduceIte,eq_self,reduceCtorEq,_J,Bool.not_false,$ls,*])
def tp(k):0<2^k:=Nat.two_pow_pos k
noncomputable def pk(k:Nat)(f:Nat->Nat):Nat->Nat
 |0=>0
 |n+1=>pk k f n+f n*2^(k*n)
def cH(g:α->Nat->α)(a:α)(n):(AC (n+1)).foldl g a=g ((AC n).foldl g a) n:=by rw[mz,List.foldl_append];rfl
theorem Ji(k)(f:Nat->Nat):∀n,(AC n).foldl (λx i=>x+f i % 2^k*2^(k*i)) 0=pk k (λi=>f i % 2^k) n
 |0=>rfl
 |n+1=>by rw[cH,Ji k f n];rfl
def uK(k)(f:Nat->Nat):Ch k f=pk k (λi=>f i % 2^k) (lanes k):=Ji k f _
theorem EV:∀{n:Nat},(∀i,i<n->f i=g i)->pk k f n=pk k g n
 |0,_=>rfl
 |n+1,h=>by simp only[pk,h n (by lia),EV (n:=n) λi c=>h i (by lia)]
def k9(h:∀i,i<lanes k->f i % 2^k=g i % 2^k):Ch k f=Ch k g:=by rw[uK,uK];exact EV h
theorem C8(k)(f)(a):∀b,pk k f (a+b)=pk k f a+2^(k*a)*pk k (λi=>f (a+i)) b
 |0=>by simp[pk]
 |b+1=>by rw[<-sH,pk,C8 k f a b,pk,oa,oa,eV];rw[sH];congr 2;rw[ac]
theorem BO:∀{n:Nat},(∀i,i<n->f i<2^k)->pk k f n<2^(k*n)
 |0,_=>by simp[pk]
 |n+1,h=>by
  have j:=BO (n:=n) λi o=>h i (by lia);have c:=h n (by lia);rw[pk,ZB,eV,cJ (2^(k*n))]
  calc pk k f n+f n*2^(k*n)<2^(k*n)+f n*2^(k*n):=by lia
   _=(f n+1)*2^(k*n):=by rw[jO];lia
   _<=2^k*2^(k*n):=p4 _ c
def G3(h:∀i,i<n->f i<2^k)(c:i<n):pk k f n/2^(k*i) % 2^k=f i:=by
 have e:n=i+(1+(n-i-1)):=by lia
 rw[e,C8,C8];have o:pk k f i<2^(k*i):=BO λj q=>h j (by lia);rw[ua _ _ (tp _),lL o,qc];simp only[pk,og,qc,XV,sL,n_];rw[Ll,aq (h i c)]
def gD(c:i<lanes k):lane k (Ch k f) i=f i % 2^k:=by rw[uK];exact G3 (f:=λi=>f i % 2^k) (λi _=>aw _ (tp k)) c
def ay(k v i):lane k v i<2^k:=aw _ (tp k)
def kY(o:k∣w)(h:0<k)(j t)(q:t<w/k):lane k v (j*(w/k)+t)=lane k (lane w v j) t:=by
 obtain⟨c,rfl⟩:=o;have r:k*c/k=c:=Nat.mul_div_cancel_left c h;rw[r]at q|-;unfold lane;have e:k*(j*c+t)=k*c*j+k*t:=by rw[oa,_M,cJ j c]
 rw[e,eV,<-yN];have:k*c=k*t+(k*(c-t)):=by rw[<-oa];congr 1;lia
 rw[this,eV,Nat.mod_mul_right_div_self];have s:k*(c-t)=k+k*(c-t-1):=by
  have:c-t=1+(c-t-1):=by lia
  rw[this,oa];simp
 rw[s,eV,Nat.mod_mul_right_mod]
theorem sj:∀{n a b:Nat},a<2^(k*n)->b<2^(k*n)->(∀i,i<n->lane k a i=lane k b i)->a=b
 |0,a,b,j,o,_=>by simp at j o;lia
 |n+1,a,b,j,o,h=>by
  have q:=h 0 (by lia);simp only[lane,XV,sL,u4]at q;have c:∀x,x<2^(k*(n+1))->x/2^k<2^(k*n):=λx r=>by rw[B8 (tp k),<-eV,<-ZB];exact r
  have s:=sj (n:=n) (c a j) (c b o) λi u=>by have:=h (i+1) (by lia);simp only[lane,ZB]at this;rw[fD (k*i) k,eV,<-yN,<-yN]at this;exact this
  rw[<-n8 a (2^k),<-n8 b (2^k),s,q]
def sk(n)(f):IR (n+1) f=if f n=true then IR n f+2^n else IR n f:=by unfold IR;rw[cH]
theorem mY(f):∀n,IR n f<2^n
 |0=>by simp[IR]
 |n+1=>by have:=mY f n;rw[sk,qb];split<;>lia
def cj(n i):bit n i=n.testBit i:=by unfold bit;rw[Wp];simp[BEq.beq]
theorem eE(f):∀n i,(IR n f).testBit i=(decide (i<n)&&f i)
 |0,i=>by simp[IR]
 |n+1,i=>by
  rw[sk];have j:=mY f n;split;rename_i h;rw[fD];rcases Nat.lt_trichotomy i n with c|c|c;rw[Nat.testBit_two_pow_add_gt c,eE f n i];have:decide (i<n+1)=decide (i<n):=by congr 1;apply propext;lia
  rw[this];subst c;rw[Nat.testBit_two_pow_add_eq,pZ j];simp[h];rw[pZ];have:decide (i<n+1)=false:=by simp;lia
  rw[this];rfl;have:2^(n+1)<=2^i:=fh (by lia) (by lia);rw[qb]at this;lia;rename_i h;rw[eE f n i];by_cases c:i=n;subst c;simp[h];have:(decide (i<n+1))=decide (i<n):=by congr 1;apply propext;lia
  rw[this]
def ba(k x:Nat):FS k (x)=x % 2^k:=by
 unfold FS;have:((2)^k)=((2^k:Nat):Int):=by simp
 rw[this,<-ca];rfl
def BP(k)(z):FS k z<2^k:=by
 unfold FS;have h:(0:Int)<2^k:=by have:=tp k;exact_mod_cast this
 have:=Int.emod_lt_of_pos z h;have c:=ii z (_X h);have e:((2)^k)=((2^k:Nat):Int):=by simp
 lia
def EW(k)(z):((FS k z):Int)=z % 2^k:=by
 unfold FS;have h:(0:Int)<2^k:=by have:=tp k;exact_mod_cast this
 exact B9 (ii z (_X h))
noncomputable abbrev NI(n:Nat):Vl:=.int (n:Int)
noncomputable abbrev BI(b:Bool):Vl:=.bl b
noncomputable abbrev LF(n:Nat)(f:Nat->Vl):Vl:=.lst ((AC n).map f)
def PY(a b:Nat):AS (a) (b)=((a&&&b:Nat):Int):=rfl
def KO(x):lB (lB x)=x:=by unfold lB;lia
def MY(a b:Nat):Vk (a) (b)=((a|||b:Nat):Int):=by
 unfold Vk;have c:lB (a)=P6 a:=by unfold lB;lia
 have h:lB (b)=P6 b:=by unfold lB;lia
 rw[c,h];show lB (lB _)=_;rw[KO]
def Ae(a b:Nat):(a^^^b)+(a&&&b)=a|||b:=by
 induction a using Re generalizing b with
 |ind a r=>
  by_cases s:a=0;subst s;simp;have h:=r (a/2) (by lia) (b/2);have u:=n8 (a^^^b) 2;have y:=n8 (a&&&b) 2;have B:=n8 (a|||b) 2;rw[Nat.xor_div_two]at u;rw[yp]at y;rw[_H]at B;have E:(a^^^b) % 2+(a&&&b) % 2=(a|||b) % 2:=by have c:=wd (a:=a) (b:=b) (n:=1);have j:=T0 (a:=a) (b:=b) (n:=1);have o:=Nat.xor_mod_two_pow (a:=a) (b:=b) (n:=1);simp only[u5]at c j o;rw[c,j,o];rcases tJ a with q|q<;>rcases tJ b with c|c<;>rw[q,c]<;>rfl
  lia
def PZ(a b:Nat):LY (a) (b)=((a^^^b:Nat):Int):=by unfold LY;rw[MY,PY,<-Ae];lia
def KP(x)(k):AS x ((2^k-1:Nat):Int)=x % 2^k:=by
 have e:((2)^k)=((2^k:Nat):Int):=by simp
 have c:=tp k;rw[e];cases x with
 |ofNat a=>
  show((a&&&(2^k-1):Nat):Int)=_;rw[DJ];simp
 |negSucc a=>
  show(((2^k-1:Nat):Int)-(((2^k-1)&&&a:Nat):Int))=_;rw[Nat.and_comm,DJ,Int.negSucc_emod _ (by lia)];have:=aw a c;lia
def gh(a b:Nat):binI .add (a) (b)=some ((a+b:Nat):Int):=by simp[binI]
def uL(a b):binI .add a b=some (a+b):=rfl
def pa(a b):binI .sub a b=some (a-b):=rfl
def so{a b:Nat}(h:b<=a):binI .sub (a) (b)=some ((a-b:Nat):Int):=by simp only[binI];congr 1;lia
def jc(a b:Nat):binI .and (a) (b)=some ((a&&&b:Nat):Int):=rfl
def uM(a b:Nat):binI .or (a) (b)=some ((a|||b:Nat):Int):=by simp[binI,MY]
def tV(a b:Nat):binI .xor (a) (b)=some ((a^^^b:Nat):Int):=by simp[binI,PZ]
def xi(h:a.natAbs<2^64\/b.natAbs<2^64):binI .mul a b=some (a*b):=by simp only[binI,ae h]
def qQ{a b:Nat}(h:a<2^64\/b<2^64):binI .mul (a) (b)=some ((a*b:Nat):Int):=by rw[xi (by simpa using h)];simp
def ke{a b:Nat}(j:b<=100000)(c:a<2^200):binI .shl (a) (b)=some ((a*2^b:Nat):Int):=by have h:(0)<=(b:Int)/\(b:Int)<=100000/\(a:Int).natAbs<2^200:=⟨by lia,by lia,by simpa using c⟩;simp only[binI,ae h];simp
def iJ(a b:Nat):binI .shr (a) (b)=some ((a/2^b:Nat):Int):=by
 have h:(0)<=(b):=by lia
 simp only[binI,ae h];simp
def C9(a)(b:Nat):binI .shr a (b)=some (a/2^b):=by
 have h:(0)<=(b):=by lia
 simp only[binI,ae h];simp
def gj{a b:Nat}(h:0<b):binI .mod (a) (b)=some ((a % b:Nat):Int):=by
 have h:(0)<(b:Int):=by lia
 simp only[binI,ae h];simp
def iW{a b:Nat}(h:0<b)(c:b<1073741824):binI .fdiv (a) (b)=some ((a/b:Nat):Int):=by
 have h:(0)<(b:Int)/\(b:Int)<1073741824:=by lia
 simp only[binI,ae h];simp
def sr(n)(k)(j:k<=1000)(M):C (n+1) .ones [NI k] M=some (NI (2^k-1),false,M):=by
 have c:binI .shl 1 (k)=some ((1*2^k:Nat):Int):=ke (a:=1) (by lia) (by decide);have h:binI .sub ((1*2^k:Nat):Int) 1=some ((2^k-1:Nat):Int):=by have o:1<=2^k:=Nat.one_le_two_pow;simp only[binI];congr 1;lia
 rw[ah];simp_all? [Tu,GL,c,h]
def lF(n)(x)(k)(c:k<=1000)(M):C (n+2) .cut [.int x,NI k] M=some (NI (FS k x),false,M):=by
 have e:binI .and x ((2^k-1:Nat):Int)=some ((FS k x):Int):=by simp only[binI,KP,EW]
 rw[ah];simp_all? [Xc,MM,sr n k c,e]
def g7(n)(x)(k)(c:k<=1000)(M):C (n+2) .cut [NI x,NI k] M=some (NI (x % 2^k),false,M):=by rw[lF n x k c M,ba]
def et(n x i:Nat)(M):C (n+1) .c7 [NI x,NI i] M=some (BI (bit x i),false,M):=by
 have e:binI .and ((x/2^i:Nat):Int) 1=some ((x/2^i % 2:Nat):Int):=by rw[show(1)=((1:Nat):Int) by rfl,jc,Nat.and_one_is_mod]
 have c:dj .eq ((x/2^i % 2:Nat):Int) 1=bit x i:=by simp only[dj,bit];rcases tJ (x/2^i)with h|h<;>simp[h]
 rw[ah];simp_all? [KA,wK,iJ,e,c]
def KQ(o:1<=k)(c:x<2^k):AT k x=if x/2^(k-1)≠0 then(x:Int)-2^k else x:=by unfold AT;rw[aq c];have j:=tp (k-1);by_cases h:x<2^(k-1);rw[ae h,ab (by simpa [lL h] using h)];rw[ab h,ae];have:1<=x/2^(k-1):=(Nat.le_div_iff_mul_le j).mpr (by lia);lia
def bu(n x k:Nat)(j:1<=k)(q:k<=1000)(r:x<2^k)(M):C (n+1) .signed [NI x,NI k] M=some (.int (AT k x),false,M):=by
 have o:binI .sub (k) 1=some ((k-1:Nat):Int):=so (b:=1) j;have s:binI .shl 1 (k)=some ((1*2^k:Nat):Int):=ke (a:=1) (by lia) (by decide);rw[KQ j r];by_cases h:x/2^(k-1)=0;have c:(((x/2^(k-1):Nat):Int) !=0)=false:=by rw[h];rfl
 rw[ab (by simpa using h)];rw[ah];simp_all? [EF,vy,o,iJ,c];have c:(((x/2^(k-1):Nat):Int) !=0)=true:=bne_iff_ne.mpr (by lia);rw[ae h];rw[ah];simp_all? [EF,vy,o,iJ,c,s,pa];simp
def pw(k):((2)^k)=((2^k:Nat):Int):=by simp
def C_(n)(z)(k)(c:k<=1000)(M):C (n+2) .held [.int z,NI k] M=some (NI (zn k z),false,M):=by
 rw[ah];simp_all? [Tv,GN,sr n k c];congr 3;have h:=tp k;unfold zn;rw[pw];repeat' split
 all_goals lia
def ZF(h:1<=k):2^k=2*2^(k-1):=by rw[<-_L];congr 1;lia
def gV(n)(z)(k)(c:1<=k)(h:k<=1000)(M):C (n+3) .cz [.int z,NI k] M=some (NI (P8 k z),false,M):=by
 have j:binI .sub (k) 1=some ((k-1:Nat):Int):=so (b:=1) c;rw[ah];simp_all? [AW,oN,j,sr (n+1) (k-1) (by lia),pa,lF n _ k h];congr 3;have o:=tp (k-1);unfold P8;rw[pw (k-1)];congr 1;repeat' split
 all_goals lia
noncomputable def Rn:Nat->Nat->Nat
 |0,_=>0
 |n+1,x=>x % 2+Rn n (x/2)
theorem EX:∀n:Nat,Rn n 0=0
 |0=>rfl
 |n+1=>by rw[Rn,Nat.zero_div,EX n]
theorem MZ:∀n m x,x<=n->x<=m->Rn n x=Rn m x
 |0,m,x,h,_=>by rw[Nat.le_zero.mp h,EX,EX]
 |n,0,x,_,h=>by rw[Nat.le_zero.mp h,EX,EX]
 |n+1,m+1,x,h,h'=>by rw[Rn,Rn,MZ n m (x/2) (by lia) (by lia)]
def pc(x:Nat):Nat:=Rn x x
def Dc:pc 0=0:=rfl
def Dd(x):pc x=x % 2+pc (x/2):=by
 cases x with
 |zero=>rfl
 |succ n=>exact congrArg ((n+1) % 2+·) (MZ n ((n+1)/2) ((n+1)/2) (by lia) (aH _))
def Tx(x)(q:x≠0):pc (x&&&(x-1))+1=pc x:=by
 induction x using Re with
 |ind x j=>
  rw[Dd (x&&&(x-1)),Dd x,yp];have m:=wd (a:=x) (b:=x-1) (n:=1);simp only[u5]at m;rw[m];rcases tJ x with h|h;have c:(x-1)/2=x/2-1:=by lia
  rw[h,c];have:=j (x/2) (by lia) (by lia);simp only[_Q,lw];lia;have c:(x-1)/2=x/2:=by lia
  have o:(x-1) % 2=0:=by lia
  rw[h,c,o,_V];simp;lia
def vO(p)(n):((AC (n+1)).filter p).length=((AC n).filter (λi=>p (i+1))).length+(if p 0=true then 1 else 0):=by
 rw[FV,yU];have:(_W p (P9 Nat.succ (AC n))).length=((AC n).filter (λi=>p (i+1))).length:=by rw[List.filter_map,aP];rfl
 split<;>simp[this]
def M0(x i):bit x (i+1)=bit (x/2) i:=by unfold bit;rw[_L,yN]
theorem yB:∀k x,x<2^k->On k x=pc x
 |0,x,h=>by simp at h;subst h;simp[On,Dc]
 |k+1,x,h=>by
  unfold On;rw[vO,Dd];have c:=yB k (x/2) (by rw[qb]at h;lia);unfold On at c;rw[show(λi=>bit x (i+1))=bit (x/2)from funext λi=>M0 x i,c];have:bit x 0=(x % 2==1):=by simp[bit]
  rw[this];rcases tJ x with h|h<;>simp[h]<;>lia
theorem Jj:∀k x,x<2^k->pc x<=k
 |0,x,h=>by simp at h;subst h;simp[Dc]
 |k+1,x,h=>by rw[Dd];have:=Jj k (x/2) (by rw[qb]at h;lia);lia
theorem BQ(j:F->List Vl->gc->Option (Vl×Bool×gc))(M):∀f x c,pc x<f->qO (Cz T j (.v 0)) (d8 T j (.aug 0 .and (.bin .sub (.v 0) (.int 1)) (.aug 1 .add (.int 1) .nil))) f ⟨[some (NI x),some (NI c)],none⟩ M=some (.nx ⟨[some (NI 0),some (NI (c+pc x))],none⟩ M)
 |0,_,_,h=>by lia
 |f+1,x,c,h=>by unfold qO;by_cases o:x=0;subst o;have e:(((0:Nat):Int) !=0)=false:=rfl;simp_all? [e,Dc,n_];have e:((x:Int) !=0)=true:=bne_iff_ne.mpr (by lia);have q:binI .sub (x) 1=some ((x-1:Nat):Int):=so (b:=1) (by lia);have r:binI .add (c) 1=some ((c+1:Nat):Int):=gh c 1;have:=Tx x o;simp_all? [e,q,r,jc,BQ j M f (x&&&(x-1)) (c+1) (by lia)];rw[show c+1+pc (x&&&(x-1))=c+pc x by lia]
def qC(n x)(c:x<2^256)(M):C (n+1) .jk [NI x] M=some (NI (pc x),false,M):=by have:=Jj 256 x c;have h:qO (Cz T (C n) (.v 0)) _ 300 ⟨[some (NI x),some (.int 0)],none⟩ M=_:=BQ (C n) M 300 x 0 (by lia);rw[ah];simp_all? [C0,qk,h];simp
def bf(h:((AC n).map f)[j]?=some x):j<n/\x=f j:=by rw[dQ,bR]at h;obtain⟨a,q,rfl⟩:=h;obtain⟨c,o⟩:=ph.mp q;rw[fI]at c;rw[List.getElem_range]at o;exact⟨c,by rw[o]⟩
theorem EY:∀l a,kx a l=(AC l.length).map λi=>[NI (a+i),l.getD i .cw]
 |[],_=>rfl
 |x::r,a=>by rw[kx,EY r (a+1),fJ,FV,bI,bY];congr 1;apply fG;intro i _;simp only[v2,List.getD_cons_succ];rw[show a+1+i=a+i.succ by lia]
def uN(n)(f):kx 0 ((AC n).map f)=(AC n).map λi=>[NI i,f i]:=by rw[EY,aP,fI];apply fG;intro i c;rw[dw]at c;rw[qc,tH,dQ,q_ c];rfl
def M1(h:x<2^n):x|||2^n=x+2^n:=by have:=im h 1;rw[og]at this;rw[pr,fD,this]
def jd(n N)(f)(g)(y:N<=1000)(h:∀i,i<N->truth (f i)=some (g i))(M):C (n+1) .eY [LF N f] M=some (NI (IR N g),false,M):=by
 obtain⟨e',r,a,b,rfl⟩:=fc (M:=M) (tg:=[2,3]) (body:=d8 T (C n) (.ite (.v 3) (.aug 1 .or (.bin .shl (.int 1) (.v 2)) .nil) .nil .nil)) (xs:=kx 0 ((AC N).map f)) (e:=⟨[some (LF N f),some (.int 0),none,none],none⟩)
  (λi e=>∃a b:Option Vl,e=⟨[some (LF N f),some (NI (IR i g)),a,b],none⟩) ⟨_,_,rfl⟩ λj x e o ⟨a,b,he⟩=>by
   subst he;rw[uN]at o;obtain⟨s,rfl⟩:=bf o;have c:=h j s;refine⟨rfl,?_⟩;have u:binI .shl 1 (j)=some ((1*2^j:Nat):Int):=ke (a:=1) (by lia) (by decide);refine⟨_,?_,some (NI j),some (f j),rfl⟩;rw[sk];cases q:g j with
   |true=>
    rw[q]at c;simp_all? [c,u,uM];rw[Nat.one_mul,M1 (mY g j)]
   |false=>
    rw[q]at c;simp_all? [c]
 rw[ah];simp_all? [AX,oO,r];rw[uN];simp
def Wd(k:Nat):Prop:=k=8\/k=16\/k=32\/k=64
def Wd.pos(h:Wd k):0<k:=by rcases h with rfl|rfl|rfl|rfl<;>decide
def Wd.le{k:Nat}(h:Wd k):k<=64:=by rcases h with rfl|rfl|rfl|rfl<;>decide
def Wd.Ow(h:Wd k):(((64:Int)-0+k-1)/k).toNat=64/k:=by rcases h with rfl|rfl|rfl|rfl<;>decide
def Wd.dvd(h:Wd k):k∣64:=by rcases h with rfl|rfl|rfl|rfl<;>decide
def Wd.Xe(h:Wd k):8*(64/k)=lanes k:=by rcases h with rfl|rfl|rfl|rfl<;>decide
def Wd.Vo(h:Wd k):8<=lanes k:=by rcases h with rfl|rfl|rfl|rfl<;>decide
def Wd.le64(h:Wd k):lanes k<=64:=by rcases h with rfl|rfl|rfl|rfl<;>decide
def Wd.inv(h:Wd k):512/lanes k=k:=by rcases h with rfl|rfl|rfl|rfl<;>decide
def nN(f:Nat->α)(n):(AC n).map f++[f n]=(AC (n+1)).map f:=by rw[mz,k0];rfl
abbrev WV(v:Nat):Vl:=LF 8 λj=>NI (lane 64 v j)
abbrev LV(k v:Nat):Vl:=LF (lanes k) λj=>NI (lane k v j)
def A_(n v k:Nat)(c:Wd k)(M):C (n+2) .lu [WV v,NI k] M=some (LV k v,true,M):=by
 have B:((0:Int).natAbs<=b6/\(64:Int).natAbs<=b6/\(0:Int)<k/\(k:Int)<=b6):=by have:=c.pos;have:=c.le;simp only[b6];lia
 have s:=c.pos;have E:=c.le64;have q:∀j l,j<8->∃o:Option Vl,eC [5] (d8 T (C (n+1)) (.app 3 (.bin .and (.bin .shr (.v 4) (.v 5)) (.v 2)) .nil)) ((AC (64/k)).map λ(i:Nat)=>[.int (0+i*k)])
   ⟨[some (WV v),some (NI k),some (NI (2^k-1)),none,some (NI (lane 64 v j)),l],some (3,(AC (j*(64/k))).map λt=>NI (lane k v t))⟩ M=some (.nx ⟨[some (WV v),some (NI k),some (NI (2^k-1)),none,some (NI (lane 64 v j)),o],some (3,(AC ((j+1)*(64/k))).map λt=>NI (lane k v t))⟩ M):=by
  intro j l L
  obtain⟨e',u,o,G⟩:=fc (M:=M) (tg:=[5]) (body:=d8 T (C (n+1)) (.app 3 (.bin .and (.bin .shr (.v 4) (.v 5)) (.v 2)) .nil)) (xs:=(AC (64/k)).map λ(i:Nat)=>[.int (0+i*k)])
   (e:=⟨[some (WV v),some (NI k),some (NI (2^k-1)),none,some (NI (lane 64 v j)),l],some (3,(AC (j*(64/k))).map λt=>NI (lane k v t))⟩)
   (λi e=>∃o:Option Vl,e=⟨[some (WV v),some (NI k),some (NI (2^k-1)),none,some (NI (lane 64 v j)),o],some (3,(AC (j*(64/k)+i)).map λt=>NI (lane k v t))⟩)
   ⟨l,rfl⟩ λi x e y ⟨o,he⟩=>by
    subst he;obtain⟨r,rfl⟩:=bf y;refine⟨rfl,?_⟩;have H:(0:Int)+(i:Int)*(k:Int)=((k*i:Nat):Int):=by rw[cJ];simp
    refine⟨_,?_,some (NI (k*i)),rfl⟩;have J:j*(64/k)+i<b6:=by have:j*(64/k)<=8*(64/k):=p4 _ (by lia);rw[c.Xe]at this;have:64/k<=64:=uY _ _;simp only[b6];lia
    simp_all? [H,iJ,jc,DJ,aP,fI,J,and_self];rw[<-sH,<-nN,kY c.dvd s j i r];rfl
  refine⟨o,?_⟩
  rw[u,G,aP,fI,jO]
 obtain⟨e',u,a,b,rfl⟩:=fc (M:=M) (tg:=[4]) (body:=d8 T (C (n+1)) (.kr [5] (.uk (.int 0) (.int 64) (.v 1)) (.app 3 (.bin .and (.bin .shr (.v 4) (.v 5)) (.v 2)) .nil) .nil)) (xs:=(AC 8).map λj=>[NI (lane 64 v j)])
  (e:=⟨[some (WV v),some (NI k),some (NI (2^k-1)),none,none,none],some (3,[])⟩)
  (λi e=>∃a b:Option Vl,e=⟨[some (WV v),some (NI k),some (NI (2^k-1)),none,a,b],some (3,(AC (i*(64/k))).map λt=>NI (lane k v t))⟩)
  ⟨_,_,by rw[_P];rfl⟩ λj x e y ⟨a,b,he⟩=>by subst he;obtain⟨r,rfl⟩:=bf y;obtain⟨o,h⟩:=q j b r;refine⟨rfl,_,?_,some (NI (lane 64 v j)),o,rfl⟩;simp_all? [B,c.Ow,h]
 rw[ah];simp_all? [AY,oP,sr n k (by have:=c.le;lia),u,mD];rw[c.Xe]
def qD(h:y<2^k):x*2^k|||y=y+2^k*x:=by have:=im h x;rw[cJ x,<-this,fD]
def jh(n a b)(f:Nat->Vl)(h:a+b<=n):(((AC n).map f).drop a).take b=(AC b).map λi=>f (a+i):=by apply rd;intro i;rw[sw];split;rename_i c;rw[TD,dQ,q_ (by lia),dQ,q_ c];rfl;rename_i c;rw[fF (by simp;lia)]
def Jk(k)(f)(n):pk k f (n+1)=f 0+2^k*pk k (λi=>f (i+1)) n:=by rw[fD n 1,C8];simp[pk,fD]
def vP(n)(f:Nat->α):((AC n).map f).reverse=(AC n).map λi=>f (n-1-i):=by apply rd;intro i;by_cases c:i<n;rw[nn (by simpa using c)];simp only[aP,fI,dQ];rw[q_ (by lia),q_ c];rfl;rw[fF (by simp;lia),fF (by simp;lia)]
def De(c:Wd k)(f)(h:∀i,i<lanes k->f i<2^k)(r:j<8):lane 64 (Ch k f) j=pk k (λi=>f (j*(64/k)+i)) (64/k):=by
 have e:64=k*(64/k):=by rcases c with rfl|rfl|rfl|rfl<;>decide
 have s:j*(64/k)+64/k<=lanes k:=by rw[<-c.Xe];have:(j+1)*(64/k)<=8*(64/k):=p4 _ (by lia);rw[jO]at this;exact this
 refine sj (k:=k) (n:=64/k) ?_ ?_ λt o=> ?_;rw[<-e];exact ay _ _ _;exact BO λi q=>h _ (by lia);rw[<-kY c.dvd c.pos j t o,gD (by lia),aq (h _ (by lia))];exact(G3 (f:=λi=>f (j*(64/k)+i)) (λi q=>h _ (by lia)) o).symm
def Dg(n k:Nat)(f:Nat->Nat)(q:Wd k)(E:∀i,i<lanes k->f i<2^k)(M):C (n+1) .m6 [LF (lanes k) λi=>NI (f i),NI k] M=some (WV (Ch k f),true,M):=by
 have s:=q.pos;have Q:=q.le64;have G:=q.le;have K:0<64/k:=Nat.div_pos G s;have U:64/k<=64:=uY _ _;have X:binI .fdiv 64 (k)=some ((64/k:Nat):Int):=iW (a:=64) s (by lia);have Y:((0:Int).natAbs<=b6/\((lanes k):Int).natAbs<=b6/\(0)<((64/k:Nat):Int)/\((64/k:Nat):Int)<=b6):=by simp only[b6];lia
 have Z:((((lanes k):Int)-0+((64/k:Nat):Int)-1)/((64/k:Nat):Int)).toNat=8:=by rcases q with rfl|rfl|rfl|rfl<;>decide
 have r:∀(j:Nat) (a b:Option Vl) (u:List Vl),j<8->∃o:Option Vl,eC [6] (d8 T (C n) (.set 5 (.bin .or (.bin .shl (.v 5) (.v 1)) (.v 6)) .nil)) (((AC (64/k)).map λi=>NI (f (j*(64/k)+i))).reverse.map λx=>[x])
   ⟨[some (LF (lanes k) λi=>NI (f i)),some (NI k),some (NI (64/k)),none,a,some (.int 0),b],some (3,u)⟩ M=some (.nx ⟨[some (LF (lanes k) λi=>NI (f i)),some (NI k),some (NI (64/k)),none,a,some (NI (lane 64 (Ch k f) j)),o],some (3,u)⟩ M):=by
  intro j a b u F
  have P:j*(64/k)+64/k<=lanes k:=by rw[<-q.Xe];have:(j+1)*(64/k)<=8*(64/k):=p4 _ (by lia);rw[jO]at this;exact this
  obtain⟨e',H,o,D⟩:=fc (M:=M) (tg:=[6]) (body:=d8 T (C n) (.set 5 (.bin .or (.bin .shl (.v 5) (.v 1)) (.v 6)) .nil)) (xs:=((AC (64/k)).map λi=>NI (f (j*(64/k)+i))).reverse.map λx=>[x])
   (e:=⟨[some (LF (lanes k) λi=>NI (f i)),some (NI k),some (NI (64/k)),none,a,some (.int 0),b],some (3,u)⟩)
   (λt e=>∃o:Option Vl,e=⟨[some (LF (lanes k) λi=>NI (f i)),some (NI k),some (NI (64/k)),none,a,some (NI (pk k (λi=>f (j*(64/k)+(64/k-t)+i)) t)),o],some (3,u)⟩)
   ⟨b,rfl⟩ λt x e B ⟨o,he⟩=>by
    subst he;rw[vP,bY]at B;obtain⟨y,rfl⟩:=bf B;refine⟨rfl,_,?_,some (NI (f (j*(64/k)+(64/k-1-t)))),rfl⟩;have V:pk k (λi=>f (j*(64/k)+(64/k-t)+i)) t<2^(k*t):=BO λi N=>E _ (by lia);have J:pk k (λi=>f (j*(64/k)+(64/k-t)+i)) t<2^200:=bw V (fh (by lia) (by have:k*t<=k*(64/k):=F1 _ (by lia);have:=Nat.mul_div_le 64 k;lia));have L:=E (j*(64/k)+(64/k-1-t)) (by lia);simp_all? [v2,ke (show k<=100000 by lia) J,uM,qD L,Jk];have R:∀i,j*(64/k)+(64/k-(t+1))+(i+1)=j*(64/k)+(64/k-t)+i:=λi=>by lia
    have I:j*(64/k)+(64/k-(t+1))+0=j*(64/k)+(64/k-1-t):=by lia
    simp only[R,I]
  refine⟨o,?_⟩
  rw[H,D,De q f E F]
  simp only[aP,re,fI,na,n_]
 obtain⟨e',H,a,b,c,rfl⟩:=fc (M:=M) (tg:=[4]) (body:=d8 T (C n) (.set 5 (.int 0) (.kr [6] (.rev (.sl (.v 0) (.v 4) (.bin .add (.v 4) (.v 2)))) (.set 5 (.bin .or (.bin .shl (.v 5) (.v 1)) (.v 6)) .nil) (.app 3 (.v 5) .nil)))) (xs:=(AC 8).map λ(i:Nat)=>[.int (0+i*((64/k:Nat):Int))])
  (e:=⟨[some (LF (lanes k) λi=>NI (f i)),some (NI k),some (NI (64/k)),none,none,none,none],some (3,[])⟩)
  (λi e=>∃a b c:Option Vl,e=⟨[some (LF (lanes k) λi=>NI (f i)),some (NI k),some (NI (64/k)),none,a,b,c],some (3,(AC i).map λt=>NI (lane 64 (Ch k f) t))⟩)
  ⟨_,_,_,rfl⟩ λj x e B ⟨a,b,c,he⟩=>by
   subst he;obtain⟨y,rfl⟩:=bf B;have S:(0:Int)+(j:Int)*((64/k:Nat):Int)=((j*(64/k):Nat):Int):=by simp
   obtain⟨o,h⟩:=r j (some (NI (j*(64/k)))) c ((AC j).map λt=>NI (lane 64 (Ch k f) t)) y;refine⟨rfl,_,?_,some (NI (j*(64/k))),some (NI (lane 64 (Ch k f) j)),o,rfl⟩;have P:j*(64/k)+64/k<=lanes k:=by rw[<-q.Xe];have:(j+1)*(64/k)<=8*(64/k):=p4 _ (by lia);rw[jO]at this;exact this
   have A:xN ((AC (lanes k)).map λi=>NI (f i)) ((j*(64/k):Nat):Int) ((j*(64/k)+64/k:Nat):Int)=some (.lst ((AC (64/k)).map λi=>NI (f (j*(64/k)+i))),true):=by unfold xN;rw[ae (by lia),fH,fH,FP,jh _ _ _ _ P]
   have O:j<b6:=by simp only[b6];lia
   simp_all? [S,gh,A,h,O,nN λt=>NI (lane 64 (Ch k f) t)]
 rw[ah];simp_all? [C1,ql,X,Y,Z,H,mD]
def tX(f:Nat->α)(a b):(AC a).map f++(AC b).map (λi=>f (a+i))=(AC (a+b)).map f:=by rw[yr,k0,bY];rfl
def EZ(n s t)(f g:Nat->Vl)(h:Nat->Nat->Vl)(A:Vl)(M)(y:0<s)(B:s<=100)(E:0<t)(G:t<=100)(fr) (H:∀q,q<4->pH (C n) A [LF s λi=>f (q*s+i),LF s λi=>g (q*s+i)] M=some (LF t (h q),fr)):C (n+1) .fL [LF (4*s) f,LF (4*s) g,A] M=some (LF (4*t) λi=>h (i/t) (i % t),true,M):=by
 have J:binI .fdiv ((4*s:Nat):Int) 4=some ((s):Int):=by rw[show(4)=((4:Nat):Int)from rfl,iW (by decide) (by decide)];congr 2;lia
 have L:((0:Int).natAbs<=b6/\((4*s:Nat):Int).natAbs<=b6/\(0:Int)<(s:Int)/\(s:Int)<=b6):=by simp only[b6];lia
 have O:((((4*s:Nat):Int)-0+(s:Int)-1)/(s:Int)).toNat=4:=by
  have:(((4*s:Nat):Int)-0+(s:Int)-1)=((s-1+s*4:Nat):Int):=by lia
  rw[this,<-ci,fH,ua _ _ y,lL (by lia)]
 obtain⟨e',P,a,rfl⟩:=fc (M:=M) (tg:=[5]) (body:=d8 T (C n) (.ext 4 (.i0 2 (.cons (.sl (.v 0) (.v 5) (.bin .add (.v 5) (.v 3))) (.cons (.sl (.v 1) (.v 5) (.bin .add (.v 5) (.v 3))) .nil))) .nil)) (xs:=(AC 4).map λ(i:Nat)=>[.int (0+i*(s:Int))])
  (e:=⟨[some (LF (4*s) f),some (LF (4*s) g),some A,some (NI s),none,none],some (4,[])⟩)
  (λi e=>∃a:Option Vl,e=⟨[some (LF (4*s) f),some (LF (4*s) g),some A,some (NI s),none,a],some (4,(AC (i*t)).map λi=>h (i/t) (i % t))⟩)
  ⟨_,by rw[_P];rfl⟩ λj x e Q ⟨a,he⟩=>by
   subst he;obtain⟨c,rfl⟩:=bf Q;have U:(0:Int)+(j:Int)*(s:Int)=((j*s:Nat):Int):=by simp
   refine⟨rfl,_,?_,some (NI (j*s)),rfl⟩;have X:j*s+s<=4*s:=by have:(j+1)*s<=4*s:=p4 _ (by lia);rw[jO]at this;exact this
   have Y:j*t+t<=4*t:=by have:(j+1)*t<=4*t:=p4 _ (by lia);rw[jO]at this;exact this
   have Z:∀f:Nat->Vl,xN ((AC (4*s)).map f) ((j*s:Nat):Int) ((j*s+s:Nat):Int)=some (.lst ((AC s).map λi=>f (j*s+i)),true):=λf=>by unfold xN;rw[ae (by lia),fH,fH,FP,jh _ _ _ _ X]
   have o:j*t+t<=b6:=by simp only[b6];lia
   have r:=H j c;simp_all? [U,gh,Z,o,r];rw[show(j+1)*t=j*t+t from jO j t,<-tX];have F:(AC t).map (h j)=(AC t).map λi=>h ((j*t+i)/t) ((j*t+i) % t):=by apply fG;intro i u;rw[dw]at u;rw[cJ j t,_C E,lL u,n_,_B,aq u]
   rw[F]
 rw[ah];simp_all? [EG,rK,J,L,O,P,mD]
noncomputable def ak(s:Sg40.Machine):AL:=⟨(AC 128).map λj=>(lane 64 (s.v (j/8)) (j % 8):Int),(AC 8).map λj=>(s.p j:Int),(AC 16).map λj=>(s.x j:Int),(ul s:Int)⟩
structure Xf(s:Sg40.Machine):Prop where
 v:∀j,s.v j<2^512
 p:∀j,s.p j<2^64
 x:∀j,s.x j<2^64
 p0:s.p 0=ALL
noncomputable def ag(i:Ins):Ord:=⟨true,(i.op:Nat),(i.k:Nat),(lanes i.k:Int),i.zero,(i.d:Nat),(i.a:Nat),(i.b:Nat),(i.g:Nat),i.z,(i.z.toNat:Int)⟩
structure d6(i:Ins):Prop where
 op:i.op<256
 k:Wd i.k
 d:i.d<16
 a:i.a<16
 b:i.b<16
 g:i.g<8
 lo: -2^31<=i.z
 hi:i.z<2^31
def Dh(s):(ak s).v=(AC 128).map λj=>(lane 64 (s.v (j/8)) (j % 8):Int):=rfl
def Af(s):(ak s).p=(AC 8).map λj=>(s.p j:Int):=rfl
def Ag(s):(ak s).x=(AC 16).map λj=>(s.x j:Int):=rfl
def aN(h:i<n)(f:Nat->α):((AC n).map f)[i]?=some (f i):=by rw[dQ,q_ h];rfl
def cI(n d:Nat)(s):C (n+1) .aY [.d5,NI d] (some (ak s))=some (NI (s.p (d % 8)),false,some (ak s)):=by
 have c:binI .mod (d) 8=some ((d % 8:Nat):Int):=gj (b:=8) (by decide);have h:(0)<=((d % 8:Nat):Int):=by omega
 have o:((AC 8).map λj=>SV.int (s.p j:Int))[d % 8]?=some (NI (s.p (d % 8))):=aN (by omega) _;rw[ah];simp_all? [uJ,jv,c,Af,bY,Ca,h,fH,o]
def cT(n d:Nat)(o:d<16)(s):C (n+1) .aW [.d5,NI d] (some (ak s))=some (NI (s.x d),false,some (ak s)):=by
 have h:(0)<=((d):Int):=by omega
 have c:((AC 16).map λj=>SV.int (s.x j:Int))[d]?=some (NI (s.x d)):=aN (by omega) _;rw[ah];simp_all? [x_,mj,Ag,bY,Ca,h,fH,c]
def set_range(n i:Nat)(f)(y:α):((AC n).map f).set i y=(AC n).map λj=>if j=i then y else f j:=by apply rd;intro j;by_cases c:j<n;rw[aN c,v1];simp only[aP,fI];split;rename_i h;subst h;simp[c];rename_i h;rw[aN c,ab (λe=>h e.symm)];rw[fF (by simp;omega),fF (by simp;omega)]
def KR(s)(d w)(h:d % 8≠0):ak (Tl s d w)=⟨(ak s).v,(ak s).p.set (d % 8) (w),(ak s).x,(ak s).f⟩:=by unfold Tl;rw[ab h,Af,set_range];unfold ak ul;simp only[put];congr 1;apply fG;intro j _;split<;>rfl
def gI(n d w)(s):C (n+1) .bH [.d5,NI d,NI w] (some (ak s))=some (.cw,false,some (ak (Tl s d w))):=by
 have j:binI .mod (d) 8=some ((d % 8:Nat):Int):=gj (b:=8) (by decide);by_cases h:d % 8=0;have c:dj .ne ((d % 8:Nat):Int) 0=false:=by simp only[h];rfl
 have o:Tl s d w=s:=by unfold Tl;rw[ae h]
 rw[ah];simp_all? [oy,hJ,j,c,o];have c:dj .ne ((d % 8:Nat):Int) 0=true:=by simp only[dj];rw[b9 (by omega)];rfl
 have q:(0)<=((d % 8:Nat):Int)/\((d % 8:Nat):Int)<((8:Nat):Int):=by omega
 rw[KR s d w h];rw[ah];simp_all? [oy,hJ,j,c,Af,q,AL.put,fH]
def KS(s)(d w):ak (setX s d w)=⟨(ak s).v,(ak s).p,(ak s).x.set d (w),(ak s).f⟩:=by unfold setX;rw[Ag,set_range];unfold ak ul;simp only[put];congr 1;apply fG;intro j _;split<;>rfl
def iH(n d)(z)(j:d<16)(s):C (n+3) .dz [.d5,NI d,.int z] (some (ak s))=some (.cw,false,some (ak (setX s d (FS 64 z)))):=by
 have c:(0)<=((d):Int)/\((d):Int)<((16:Nat):Int):=by omega
 have h:C (n+2) .cut [.int z,.int 64] (some (ak s))=some (NI (FS 64 z),false,some (ak s)):=lF n z 64 (by decide) _;rw[KS];rw[ah];simp_all? [Ac,nG,h,Ag,c,AL.put,fH]
def oz(n)(a b)(s):C (n+1) .fb [.d5,BI a,BI b] (some (ak s))=some (.cw,false,some (ak {s with z:=a,c:=b})):=by cases a<;>cases b<;>(rw[ah];simp_all? [A9,o4])<;>rfl
def aj(n d k)(u:d<16)(c:Wd k)(s):C (n+3) .aa [.d5,NI d,NI k] (some (ak s))=some (LV k (s.v d),true,some (ak s)):=by
 have h:binI .mul 8 (d)=some ((8*d:Nat):Int):=qQ (a:=8) (.inl (by decide));have o:binI .add ((8*d:Nat):Int) 8=some ((8*d+8:Nat):Int):=gh (8*d) 8;have q:xN ((AC 128).map λj=>NI (lane 64 (s.v (j/8)) (j % 8))) ((8*d:Nat):Int) ((8*d+8:Nat):Int)=some (WV (s.v d),true):=by unfold xN;rw[ae (by omega),fH,fH,FP,jh _ _ _ _ (by omega)];congr 3;apply fG;intro i r;rw[dw]at r;rw[show(8*d+i)/8=d by omega,show(8*d+i) % 8=i by omega]
 rw[ah];simp_all? [Aa,nD,h,o,Dh,bY,Ca,q,A_ n (s.v d) k c]
def KU(s)(d w):ak {s with v:=put s.v d w}=⟨(AC 128).map λj=>(((if j/8=d then lane 64 w (j % 8)else lane 64 (s.v (j/8)) (j % 8)):Nat):Int),(ak s).p,(ak s).x,(ak s).f⟩:=by unfold ak ul;simp only[put];congr 1;apply fG;intro j _;split<;>rfl
def Ro(c:Wd k):binI .fdiv 512 ((lanes k):Int)=some ((k):Int):=by have:=c.Vo;have:=c.le64;rw[show(512)=((512:Nat):Int)from rfl,iW (by omega) (by omega),c.inv]
def pb(n d k)(f)(H:d<16)(c:Wd k)(u:∀i,i<lanes k->f i<2^k)(s):C (n+2) .ef [.d5,NI d,LF (lanes k) λi=>NI (f i)] (some (ak s))=some (.cw,false,some (ak {s with v:=put s.v d (Ch k f)})):=by
 obtain⟨e',J,h,o,a,b,rfl⟩:=IW (M:=some (ak s)) (tg:=[3,4]) (body:=d8 T (C (n+1)) (.Cy 0 .vec (.bin .add (.bin .mul (.int 8) (.v 1)) (.v 3)) (.v 4) .nil)) (xs:=(AC 8).map λi=>[NI i,NI (lane 64 (Ch k f) i)])
  (e:=⟨[some .d5,some (NI d),some (LF (lanes k) λi=>NI (f i)),none,none],none⟩)
  (λi e M=>M=some ⟨(AC 128).map λj=>(((if j/8=d/\j % 8<i then lane 64 (Ch k f) (j % 8)else lane 64 (s.v (j/8)) (j % 8)):Nat):Int),(ak s).p,(ak s).x,(ak s).f⟩/\∃a b:Option Vl,e=⟨[some .d5,some (NI d),some (LF (lanes k) λi=>NI (f i)),a,b],none⟩)
  ⟨by simp[ak],_,_,rfl⟩ λj x e M y ⟨o,a,b,he⟩=>by
   subst he;subst o;obtain⟨B,rfl⟩:=bf y;refine⟨rfl,_,_,?_,rfl,some (NI j),some (NI (lane 64 (Ch k f) j)),rfl⟩;have E:binI .mul 8 (d)=some ((8*d:Nat):Int):=qQ (a:=8) (.inl (by decide));have h:(0)<=((8*d+j:Nat):Int)/\((8*d+j:Nat):Int)<((128:Nat):Int):=by omega
   simp_all? [E,gh,AL.put,h,fH];rw[set_range];congr 4;apply fG;intro t G;by_cases q:t=8*d+j;rw[ae q,ae (by omega)];rw[show t % 8=j by omega];rw[ab q];by_cases r:t/8=d/\t % 8<j;rw[ae r,ae (by omega)];rw[ab r,ab (by omega)]
 subst o;have L:512/lanes k=k:=c.inv;rw[KU];rw[ah];simp_all? [x9,mi,Ro c,Dg n k f c u,uN,h];apply congrArg (λl=>some (SV.cw,false,some (AL.mk l (ak s).p (ak s).x (ak s).f)));apply fG;intro t G;have:t % 8<8:=aw _ (by decide);simp[this]
def vQ(n k)(i)(o:d6 i)(c:Wd k)(s):C (n+4) .gq [.d5,.ord (ag i),NI k] (some (ak s))=some (LF (lanes k) λj=>NI (if i.zero=true then 0 else lane k (s.v i.d) j),true,some (ak s)):=by
 have q:binI .fdiv 512 (k)=some ((lanes k):Int):=iW (a:=512) c.pos (by have:=c.le;omega);have r:=c.le64;cases h:i.zero with
 |true=>
  rw[ah];simp_all? [si,kc,ag,h,q,pR (show lanes k<=1000 by omega),mD];rfl
 |false=>
  rw[ah];simp_all? [si,kc,ag,h,aj n i.d k o.d c]
def g8(c:d6 i):i.g % 8=i.g:=aq c.g
def Di(n k x)(i)(E:d6 i)(u:Wd k)(f:Nat->Nat)(s)(J:∀j,j<lanes k->bit (s.p i.g) j=true->f j=lane k x j):C (n+5) .iG [.d5,.ord (ag i),LF (lanes k) λj=>NI (f j)] (some (ak s))=some (.cw,false,some (ak (setV i s k x))):=by
 have O:=u.le64;obtain⟨e',q,a,b,rfl⟩:=fc (M:=some (ak s)) (tg:=[5,6]) (body:=d8 T (C (n+4)) (.ite (.call .c7 (.cons (.v 3) (.cons (.v 5) .nil))) (.put 4 (.v 5) (.v 6) .nil) .nil .nil)) (xs:=(AC (lanes k)).map λi=>[NI i,NI (f i)])
  (e:=⟨[some .d5,some (.ord (ag i)),some (LF (lanes k) λj=>NI (f j)),some (NI (s.p i.g)),none,none,none],some (4,(AC (lanes k)).map λj=>NI (if i.zero=true then 0 else lane k (s.v i.d) j))⟩)
  (λt e=>∃a b:Option Vl,e=⟨[some .d5,some (.ord (ag i)),some (LF (lanes k) λj=>NI (f j)),some (NI (s.p i.g)),none,a,b],some (4,(AC (lanes k)).map λj=>NI (if j<t/\bit (s.p i.g) j=true then f j else if i.zero=true then 0 else lane k (s.v i.d) j))⟩)
  ⟨none,none,by simp⟩ λt y e P ⟨a,b,he⟩=>by
   subst he;obtain⟨Q,rfl⟩:=bf P;refine⟨rfl,_,?_,some (NI t),some (NI (f t)),rfl⟩;have q:(0)<=((t):Int)/\((t):Int)<((lanes k):Int):=by omega
   cases B:bit (s.p i.g) t with
   |true=>
    simp_all? [et,B,q,fH];rw[set_range];congr 5;apply fG;intro j o;by_cases c:j=t;subst c;rw[ae rfl,ae ⟨by omega,B⟩];rw[ab c];by_cases h:j<t/\bit (s.p i.g) j=true;rw[ae h,ae ⟨by omega,h.2⟩];have G:¬(j<t+1/\bit (s.p i.g) j=true):=λr=>h ⟨by omega,r.2⟩;rw[ab h,ab G]
   |false=>
    simp_all? [et,B];congr 5;apply fG;intro j o;by_cases h:j<t/\bit (s.p i.g) j=true;rw[ae h,ae ⟨by omega,h.2⟩];have G:¬(j<t+1/\bit (s.p i.g) j=true):=λr=>by refine h ⟨?_,r.2⟩;by_cases c:j=t;subst c;rw[B]at r;exact absurd r.2 (by simp);omega
    rw[ab h,ab G]
 have H:∀j,j<lanes k->(if j<lanes k/\bit (s.p i.g) j=true then f j else if i.zero=true then 0 else lane k (s.v i.d) j)<2^k:=λj o=>by split;rename_i c;rw[J j o c.2];exact ay _ _ _;split;exact tp k;exact ay _ _ _
 have L:=vQ n k i E u s;have U:=pb (n+2) i.d k _ E.d u H s;have X:setV i s k x={s with v:=put s.v i.d (Ch k λj=>if j<lanes k/\bit (s.p i.g) j=true then f j else if i.zero=true then 0 else lane k (s.v i.d) j)}:=by unfold setV laid;congr 2;apply k9;intro j o;simp only[o,true_and];by_cases c:bit (s.p i.g) j=true;rw[ae c,ae c,J j o c];rw[ab c,ab c]
 rw[X];simp only[aP,fI]at q;simp only[ag]at q L;rw[ah];simp_all? [Ab,nE,ag,cI,g8 E,Ro u,L,kd,uN,q,U]
def fin{R S:Nat}{M:gc}{b:Bool}(h:R=S):some ((NI R:Vl),b,M)=some (NI S,b,M):=by rw[h]
def M3{z:Int}{S:Nat}{M:gc}{b:Bool}(h:z=(S)):some ((SV.int z:Vl),b,M)=some (NI S,b,M):=by rw[h]
def Wd.Oh(h:Wd k):2^k<=2^64:=fh (by decide) h.le
def Wd.one(h:Wd k):1<=k:=h.pos
def Wd.bb(h:Wd k):k<=1000:=by have:=h.le;lia
def Wd.klt(h:Wd k):k<2^k:=by rcases h with rfl|rfl|rfl|rfl<;>decide
def nP{k x y:Nat}(c:y<=2^k):FS k ((x)-y)=(x+2^k-y) % 2^k:=by
 have e:((x)-y) % 2^k=((x:Int)-y+2^k) % 2^k:=by simp
 unfold FS;rw[e,pw];have:(x)-y+((2^k:Nat):Int)=((x+2^k-y:Nat):Int):=by lia
 rw[this,<-ca,fH]
def uO{k x:Nat}(c:x<=2^k):FS k (-(x))=(2^k-x) % 2^k:=by have:=nP (k:=k) (x:=0) (y:=x) c;simpa using this
def qE(j:1<=k)(c:x<2^k):(AT k x=x/\x<2^(k-1))\/(AT k x=(x)-(2^k:Nat)/\2^(k-1)<=x):=by unfold AT;rw[aq c,pw];split;rename_i h;exact .inl ⟨rfl,h⟩;rename_i h;exact .inr ⟨rfl,by lia⟩
def Ah(c:1<=k)(j:x<2^k):(AT k x).natAbs<=2^(k-1):=by have:=ZF c;rcases qE c j with⟨h,o⟩|⟨h,o⟩<;>rw[h]<;>lia
def fA{k x:Nat}(j:1<=k)(c:x<2^k):FS k (AT k x)=x:=by rcases qE j c with⟨h,o⟩|⟨h,o⟩<;>rw[h];rw[ba,aq c];rw[nP (aH _),Nat.add_sub_cancel,aq c]
def jw(k)(z):FS k z % 2^k=FS k z:=aq (BP k z)
def nQ(k)(z):P8 k z<2^k:=BP _ _
def vR(k)(z):zn k z<2^k:=by have:=tp k;have e:=pw k;unfold zn;split;lia;split<;>lia
section
variable {n x y k d:Nat} {z:Int} {M:gc}
def p_1(c:Wd k):C (n+6) .jz [NI x,NI y,NI k] M=some (NI ((each 1 k x y d z).getD 0 % 2^k),false,M):=by rw[ah];simp_all? [EM,rQ,gh,g7 _ _ k c.bb];exact fin (gk _ _).symm
def p_2(c:Wd k)(h:y<2^k):C (n+6) .dF [NI x,NI y,NI k] M=some (NI ((each 2 k x y d z).getD 0 % 2^k),false,M):=by rw[ah];simp_all? [wY,kJ,pa,lF _ _ k c.bb,nP (hF h)];exact fin (gk _ _).symm
def p_3(c:Wd k)(h:x<2^k):C (n+6) .dH [NI x,NI y,NI k] M=some (NI ((each 3 k x y d z).getD 0 % 2^k),false,M):=by have:=c.Oh;rw[ah];simp_all? [wZ,kK,qQ (show x<2^64\/y<2^64 by lia),g7 _ _ k c.bb];exact fin (gk _ _).symm
def p_4(c:Wd k)(h:x<2^k)(j:y<2^k):C (n+6) .gL [NI x,NI y,NI k] M=some (NI ((each 4 k x y d z).getD 0 % 2^k),false,M):=by have:=c.Oh;rw[ah];simp_all? [xS,lS,qQ (show x<2^64\/y<2^64 by lia),iJ];refine fin (aq ?_).symm;rw[B8 (tp k)];exact Nat.mul_lt_mul'' h j
def M4(c:Wd k)(h:x<2^k):(AT k x).natAbs<2^64:=by have j:=Ah c.one h;have o:=ZF c.one;have q:=c.Oh;have:=tp (k-1);lia
def p_5(c:Wd k)(h:x<2^k)(j:y<2^k):C (n+6) .cD [NI x,NI y,NI k] M=some (NI ((each 5 k x y d z).getD 0 % 2^k),false,M):=by rw[ah];simp_all? [qw,gs,bu _ x k c.one c.bb h,bu _ y k c.one c.bb j,xi (.inl (M4 c h)),C9,lF _ _ k c.bb];exact fin (jw _ _).symm
def p_6(j:Wd k)(o:x<2^k)(q:y<2^k):C (n+6) .sO [NI x,NI y,NI k] M=some (NI ((each 6 k x y d z).getD 0 % 2^k),false,M):=by have c:binI .add ((x+y:Nat):Int) 1=some ((x+y+1:Nat):Int):=gh (x+y) 1;have h:binI .fdiv ((x+y+1:Nat):Int) 2=some (((x+y+1)/2:Nat):Int):=iW (b:=2) (by decide) (by decide);rw[ah];simp_all? [KC,wL,gh,c,h];refine fin (aq ?_).symm;lia
def p_7(c:x<2^k)(j:y<2^k):C (n+6) .apart [NI x,NI y,NI k] M=some (NI ((each 7 k x y d z).getD 0 % 2^k),false,M):=by
 rw[ah];simp_all? [PR,CV,pa];have h:(if x<y then y-x else x-y)<2^k:=by split<;>lia
 refine M3 ?_;show _=(((if x<y then y-x else x-y) % 2^k:Nat):Int);rw[aq h];split<;>split<;>lia
def p_8(c:x<2^k)(h:y<2^k):C (n+6) .wB [NI x,NI y,NI k] M=some (NI ((each 8 k x y d z).getD 0 % 2^k),false,M):=by rw[ah];simp_all? [MN,zM];refine M3 ?_;show _=((min x y % 2^k:Nat):Int);rw[aq (by lia)];split<;>lia
def p_9(c:x<2^k)(h:y<2^k):C (n+6) .sP [NI x,NI y,NI k] M=some (NI ((each 9 k x y d z).getD 0 % 2^k),false,M):=by rw[ah];simp_all? [KD,wM];refine M3 ?_;show _=((max x y % 2^k:Nat):Int);rw[aq (by lia)];split<;>lia
def ZG(c:Wd k)(h:x<2^k)(j:y<2^k):C (n+6) .gM [NI x,NI y,NI k] M=some (NI ((each 10 k x y d z).getD 0 % 2^k),false,M):=by rw[ah];simp_all? [xT,lT,bu _ x k c.one c.bb h,bu _ y k c.one c.bb j,lF _ _ k c.bb];refine fin ?_;show _=(if AT k x<=AT k y then x else y) % 2^k;split;rw[ab (by lia),fA c.one j,aq j];rw[ae (by lia),fA c.one h,aq h]
def ZH(c:Wd k)(j:x<2^k)(o:y<2^k):C (n+6) .fO [NI x,NI y,NI k] M=some (NI ((each 11 k x y d z).getD 0 % 2^k),false,M):=by
 rw[ah];simp_all? [w6,kL,bu _ x k c.one c.bb j,bu _ y k c.one c.bb o,lF _ _ k c.bb];refine fin ?_;show _=(if AT k x<=AT k y then y else x) % 2^k;have e:AT k x=AT k y->x=y:=λh=>by rw[<-fA c.one j,h,fA c.one o]
 split;rw[ae (by lia),fA c.one o,aq o];split;rename_i q r;have:=e (by lia);subst this;rw[fA c.one j,aq j];rw[fA c.one j,aq j]
def ZI(c:Wd k)(h:x<2^k)(j:y<2^k):C (n+6) .eR [NI x,NI y,NI k] M=some (NI ((each 12 k x y d z).getD 0 % 2^k),false,M):=by rw[ah];simp_all? [vD,j0,bu _ x k c.one c.bb h,bu _ y k c.one c.bb j,uL,gV _ _ k c.one c.bb];exact fin (aq (nQ _ _)).symm
def ZJ(c:Wd k):C (n+6) .pE [NI x,NI y,NI k] M=some (NI ((each 13 k x y d z).getD 0 % 2^k),false,M):=by rw[ah];simp_all? [GW,uv,uL,C_ _ _ k c.bb];exact fin (aq (vR _ _)).symm
def ZK(c:Wd k)(h:x<2^k)(j:y<2^k):C (n+6) .cE [NI x,NI y,NI k] M=some (NI ((each 14 k x y d z).getD 0 % 2^k),false,M):=by rw[ah];simp_all? [qx,gu,bu _ x k c.one c.bb h,bu _ y k c.one c.bb j,pa,gV _ _ k c.one c.bb];exact fin (aq (nQ _ _)).symm
def ZL(c:Wd k):C (n+6) .gN [NI x,NI y,NI k] M=some (NI ((each 15 k x y d z).getD 0 % 2^k),false,M):=by rw[ah];simp_all? [xU,lU,pa,C_ _ _ k c.bb];exact fin (aq (vR _ _)).symm
def ZM(h:x<2^k)(c:y<2^k):C (n+6) .dJ [NI x,NI y,NI k] M=some (NI ((each 16 k x y d z).getD 0 % 2^k),false,M):=by rw[ah];simp_all? [w9,kN,jc];exact fin (aq (yS x c)).symm
def ZN(c:x<2^k)(h:y<2^k):C (n+6) .d_ [NI x,NI y,NI k] M=some (NI ((each 17 k x y d z).getD 0 % 2^k),false,M):=by rw[ah];simp_all? [xV,lV,uM];exact fin (aq (Cc c h)).symm
def ZO(c:x<2^k)(h:y<2^k):C (n+6) .bA [NI x,NI y,NI k] M=some (NI ((each 18 k x y d z).getD 0 % 2^k),false,M):=by rw[ah];simp_all? [qy,gw,tV];exact fin (aq (rb c h)).symm
def uP{k x:Nat}(c:x<2^k):FS k (lB (x))=2^k-1-x:=by
 have e:lB (x)= -((x+1:Nat):Int):=by unfold lB;lia
 rw[e,uO (by lia),aq (by lia)];lia
def ZP(c:Wd k)(h:x<2^k)(j:y<2^k):C (n+6) .bU [NI x,NI y,NI k] M=some (NI ((each 19 k x y d z).getD 0 % 2^k),false,M):=by rw[ah];simp_all? [rZ,ib,lF _ _ k c.bb,uP h,jc];exact fin (aq (yS _ j)).symm
def Xg(a b:Nat):dj .ge (a) (b)=decide (b<=a):=by simp only[dj];congr 1;apply propext;lia
def ZQ(c:Wd k)(j:x<2^k)(o:y<2^k):C (n+6) .cF [NI x,NI y,NI k] M=some (NI ((each 20 k x y d z).getD 0 % 2^k),false,M):=by have q:=c.Oh;have r:=c.le;rw[ah];by_cases h:k<=y;simp_all? [nH,gy,Xg,h];refine fin (R:=0) ?_;show 0=(if y<k then x*2^y % 2^k else 0) % 2^k;rw[ab (by lia),lw];simp_all? [nH,gy,Xg,h,ke (show y<=100000 by lia) (show x<2^200 by lia),g7 _ _ k c.bb];refine fin ?_;show _=(if y<k then x*2^y % 2^k else 0) % 2^k;rw[ae (by lia),gk]
def ZR(j:Wd k)(c:x<2^k)(o:y<2^k):C (n+6) .cb [NI x,NI y,NI k] M=some (NI ((each 21 k x y d z).getD 0 % 2^k),false,M):=by rw[ah];by_cases h:k<=y;simp_all? [mu,fE,Xg,h];refine fin (R:=0) ?_;show 0=(if y<k then x/2^y else 0) % 2^k;rw[ab (by lia),lw];simp_all? [mu,fE,Xg,h,iJ];refine fin ?_;show _=(if y<k then x/2^y else 0) % 2^k;rw[ae (by lia),aq (we (uY _ _) c)]
def ZS(c:Wd k)(h:x<2^k):C (n+6) .de [NI x,NI y,NI k] M=some (NI ((each 22 k x y d z).getD 0 % 2^k),false,M):=by
 have j:binI .sub (k) 1=some ((k-1:Nat):Int):=so (b:=1) c.one;have o:(if((k-1:Nat):Int)<(y)then((k-1:Nat):Int)else(y))=((min y (k-1):Nat):Int):=by split<;>lia
 rw[ah];simp_all? [r0,ic,bu _ x k c.one c.bb h,j,o,C9,lF _ _ k c.bb];exact fin (jw _ _).symm
end
section
variable {n x y k d:Nat} {z:Int} {M:gc}
def Ai(c:x<2^k)(h:m<=k):x/2^(k-m)<2^m:=by rw[B8 (tp _),<-eV];rw[show m+(k-m)=k by omega];exact c
def ZT(c:Wd k)(j:x<2^k):C (n+6) .mR [NI x,NI y,NI k] M=some (NI ((each 23 k x y d z).getD 0 % 2^k),false,M):=by have o:=c.Oh;have q:=c.le;have h:y % k<k:=aw _ c.pos;rw[ah];simp_all? [EN,rR,gj c.pos,ke (show y % k<=100000 by omega) (show x<2^200 by omega),so (hF h),iJ,uM,g7 _ _ k c.bb,qD (Ai j (hF h))];refine fin ?_;show _=(x*2^(y % k)+x/2^(k-y % k)) % 2^k % 2^k;rw[gk,fD,cJ]
def ZU(c:Wd k)(h:x<2^k):C (n+6) .kC [NI x,NI y,NI k] M=some (NI ((each 24 k x y d z).getD 0 % 2^k),false,M):=by
 have s:=c.Oh;have u:=c.le;have j:y % k<k:=aw _ c.pos;have o:x/2^(y % k)<2^(k-y % k):=by have:=Ai (m:=k-y % k) h (by omega);rw[show k-(k-y % k)=y % k by omega]at this;exact this
 have q:x/2^(y % k)|||x*2^(k-y % k)=x/2^(y % k)+2^(k-y % k)*x:=by rw[pr];exact qD o
 rw[ah];simp_all? [C4,qp,gj c.pos,so (hF j),ke (show k-y % k<=100000 by omega) (show x<2^200 by omega),iJ,uM,g7 _ _ k c.bb,q];refine fin ?_;show _=(x*2^((k-y % k) % k)+x/2^(k-(k-y % k) % k)) % 2^k % 2^k;rw[gk];by_cases r:y % k=0;rw[r];simp only[ms,_T,sL,og,u4];rw[lL h,Ll,n_];rw[aq (show k-y % k<k by omega),show k-(k-y % k)=y % k by omega,fD,cJ]
def ZV(c:Wd k)(h:x<2^k):C (n+6) .df [NI x,NI y,NI k] M=some (NI ((each 27 k x y d z).getD 0 % 2^k),false,M):=by rw[ah];simp_all? [r6,ie,bu _ x k c.one c.bb h];refine M3 ?_;show _=(((AT k x).natAbs % 2^k % 2^k:Nat):Int);have j:=Ah c.one h;have o:=ZF c.one;have:=tp (k-1);rw[gk,aq (by omega)];split<;>omega
def ZW(c:Wd k)(h:x<2^k):C (n+6) .negate [NI x,NI y,NI k] M=some (NI ((each 28 k x y d z).getD 0 % 2^k),false,M):=by rw[ah];simp_all? [MO,zN,lF _ _ k c.bb,uO (hF h)];exact fin (gk _ _).symm
def ZX(c:Wd k)(r:x<2^k)(o:y<2^k):C (n+6) .fP [NI x,NI y,NI k] M=some (NI ((each 29 k x y d z).getD 0 % 2^k),false,M):=by
 have u:(each 29 k x y d z).getD 0 % 2^k=(if AT k y<0 then(2^k-x) % 2^k else if y=0 then 0 else x) % 2^k:=rfl;rw[ah,u];have B:=qE c.one o;have E:=tp (k-1);by_cases h:y=0;subst h;have j:dj .eq ((0):Int) 0=true:=rfl;simp_all? [kX,fW,j];refine fin (R:=0) ?_;rw[ab (by omega)];simp;have j:dj .eq (y) 0=false:=by simp only[dj];rw[b9 (by omega)]
 by_cases s:AT k y<0;have q:dj .gt (AT k y) 0=false:=by simp only[dj];rw[b9 (by omega)]
 simp_all? [kX,fW,j,bu _ y k c.one c.bb o,q,lF _ _ k c.bb,uO (hF r)];refine fin ?_;rw[ae s,gk];have q:dj .gt (AT k y) 0=true:=by simp only[dj];rw[je (by omega)]
 simp_all? [kX,fW,j,bu _ y k c.one c.bb o,q];refine fin ?_;rw[ab s,ab h,aq r]
def ZY(c:Wd k)(h:x<2^k):C (n+6) .gO [NI x,NI y,NI k] M=some (NI ((each 30 k x y d z).getD 0 % 2^k),false,M):=by have j:=c.Oh;have o:=Jj k x h;have q:=c.klt;rw[ah];simp_all? [xW,lW,qC _ x (show x<2^256 by omega)];refine fin ?_;show _=On k x % 2^k;rw[yB k x h,aq (by omega)]
def Ba(k x)(c:x<2^k):zerosAbove k x=if x=0 then k else k-1-x.log2:=by
 unfold zerosAbove;split;rename_i h;subst h;have:((AC k).find? λi=>bit 0 (k-1-i))=none:=by rw[yQ];intro i _;simp[bit]
 rw[this];rfl;rename_i h;have o:x.log2<k:=(cr h).mpr c;have:((AC k).find? λi=>bit x (k-1-i))=some (k-1-x.log2):=by rw[B4];refine⟨?_,by simp;omega,λj q=> ?_⟩;rw[show k-1-(k-1-x.log2)=x.log2 by omega,cj];exact Nat.testBit_log2 h;rw[cj,pZ];rfl;have:x<2^(x.log2+1):=Nat.lt_log2_self;exact bw this (fh (by decide) (by omega))
 rw[this];rfl
def E1(x:Nat):rk (x)=if x=0 then 0 else(x.log2:Int)+1:=by unfold rk;simp
def ZZ(j:Wd k)(c:x<2^k):C (n+6) .jA [NI x,NI y,NI k] M=some (NI ((each 31 k x y d z).getD 0 % 2^k),false,M):=by have o:=j.klt;rw[ah];simp_all? [A0,oR,E1,pa];refine M3 ?_;show _=((zerosAbove k x % 2^k:Nat):Int);rw[Ba k x c];by_cases h:x=0;rw[ae h,ae h,aq (by omega)];omega;have q:x.log2<k:=(cr h).mpr c;rw[ab h,ab h,aq (by omega)];omega
def Z1(c:Wd k)(h:x<2^k)(j:y<2^k):C (n+6) .eS [NI x,NI y,NI k] M=some (NI ((each 32 k x y d z).getD 0 % 2^k),false,M):=by
 have o:2<=k:=by rcases c with rfl|rfl|rfl|rfl<;>decide
 have q:binI .sub (k) 2=some ((k-2:Nat):Int):=so (b:=2) o;have r:∀a:Int,binI .shr a 1=some (a/2):=λa=>C9 a 1;rw[ah];simp_all? [vE,j4,bu _ x k c.one c.bb h,bu _ y k c.one c.bb j,xi (.inl (M4 c h)),q,C9,uL,r,lF _ _ k c.bb];exact fin (jw _ _).symm
end
def ji(n:Nat)(f g:Nat->Vl):Gc (λx y=>[x,y]) ((AC n).map f) ((AC n).map g)=(AC n).map λi=>[f i,g i]:=by rw[FY,FW,WF]
def P0(n:Nat)(f g h:Nat->Vl):Gc (λx (y:Vl×Vl)=>[x,y.1,y.2]) ((AC n).map f) (((AC n).map g).zip ((AC n).map h))=(AC n).map λi=>[f i,g i,h i]:=by rw[List.zip_eq_zipWith,FY (l₁:=AC n) (l₂:=(AC n).map h),FW,WF,FY,FW,WF]
def aM{c:Type}{F:List Vl->Option c}{n:Nat}{g:Nat->List Vl}{h:Nat->c}(j:∀i,i<n->F (g i)=some (h i)):wD F ((AC n).map g)=some ((AC n).map h):=Es (AC n) λi o=>j i (dw.mp o)
def Mk(c:F)(k X:Nat)(i:Ins)(s:Sg40.Machine):Prop:=∃(f:Nat->Nat) (fr:Bool),(∀n,C (n+12) c [.ord (ag i),.d5] (some (ak s))=some (LF (lanes k) λj=>NI (f j),fr,some (ak s)))/\∀j,j<lanes k->bit (s.p i.g) j=true->f j=lane k X j
def Mk.of{c:F}{k:Nat}{i:Ins}{s:Sg40.Machine}{f g:Nat->Nat}{fr:Bool}(h:∀n,C (n+12) c [.ord (ag i),.d5] (some (ak s))=some (LF (lanes k) λj=>NI (f j),fr,some (ak s)))(e:∀j,j<lanes k->f j=g j % 2^k):Mk c k (Ch k g) i s:=⟨f,fr,h,λj o _=>by rw[gD o,e j o]⟩
def Aj(n:Nat)(f:F)(r:Nat->Nat->Nat)(i:Ins)(c:d6 i)(s:Sg40.Machine)(h:∀x y,x<2^i.k->y<2^i.k->C (n+6) f [NI x,NI y,NI i.k] (some (ak s))=some (NI (r x y),false,some (ak s))):C (n+7) .jT [.fn f,.ord (ag i),.d5] (some (ak s))=some (LF (lanes i.k) λj=>NI (r (lane i.k (s.v i.a) j) (lane i.k (s.v i.b) j)),true,some (ak s)):=by
 have o:=c.k;have q:=o.le64;have u:lanes i.k<=b6:=by simp only[b6];lia
 rw[ah];simp_all? [zW,nh,ag,aj (n+3) _ i.k c.a o,aj (n+3) _ i.k c.b o,ji,u];rw[aM (h:=λj=>NI (r (lane i.k (s.v i.a) j) (lane i.k (s.v i.b) j)))];rfl;intro j B;simp_all? [cZ,h _ _ (ay i.k (s.v i.a) j) (ay i.k (s.v i.b) j)]
def Dj(n:Nat)(A:Vl)(r:Nat->Nat->Nat->Nat)(fr:Bool)(i:Ins)(c:d6 i)(s:Sg40.Machine)(h:∀d x y,d<2^i.k->x<2^i.k->y<2^i.k->pH (C (n+6)) A [NI d,NI x,NI y] (some (ak s))=some (NI (r d x y),fr)):C (n+7) .ez [A,.ord (ag i),.d5] (some (ak s))=some (LF (lanes i.k) λj=>NI (r (lane i.k (s.v i.d) j) (lane i.k (s.v i.a) j) (lane i.k (s.v i.b) j)),true,some (ak s)):=by
 have o:=c.k;have q:=o.le64;have u:lanes i.k<=b6:=by simp only[b6];lia
 rw[ah];simp_all? [wU,kF,ag,aj (n+3) _ i.k c.a o,aj (n+3) _ i.k c.b o,aj (n+3) _ i.k c.d o,P0,u];rw[aM (h:=λj=>NI (r (lane i.k (s.v i.d) j) (lane i.k (s.v i.a) j) (lane i.k (s.v i.b) j)))];rfl;intro j B;simp_all? [cZ,h _ _ _ (ay i.k (s.v i.d) j) (ay i.k (s.v i.a) j) (ay i.k (s.v i.b) j)]
def M5{k x:Nat}(c:Wd k)(h:x<2^k):x<2^200:=bw h (fh (by decide) (by have:=c.le;lia))
def Z2(i:Ins)(o:d6 i)(s:Sg40.Machine):Mk .hO i.k (Ch i.k λj=>(each 25 i.k (lane i.k (s.v i.a) j) (lane i.k (s.v i.b) j) (lane i.k (s.v i.d) j) i.z).getD 0) i s:=by
 have c:=o.k;have u:=c.le;refine Mk.of (f:=λj=>(lane i.k (s.v i.a) j*2^(lane i.k (s.v i.d) j % i.k)+lane i.k (s.v i.b) j/2^(i.k-lane i.k (s.v i.d) j % i.k)) % 2^i.k) (fr:=true) (λn=> ?_) (λj B=>(gk _ _).symm);rw[ah];simp only[AZ,oQ];have:=Dj (n+4) (.ko .c1 [NI i.k]) (λd x y=>(x*2^(d % i.k)+y/2^(i.k-d % i.k)) % 2^i.k) false i o s (λd x y E q r=>by
  have G:d % i.k<i.k:=aw _ c.pos;have h:y+2^i.k*x<2^200:=by
   have:2^i.k*x<2^i.k*2^i.k:=(Nat.mul_lt_mul_left (tp _)).mpr q;rw[<-eV]at this;have H:2^(i.k+i.k)<=2^128:=fh (by decide) (by lia);have h3:=c.Oh;have:(2:Nat)^200=2^72*2^128:=by rw[<-eV]
   lia
  rw[bL];simp only[dt];rw[ah];simp_all? [vA,jX,ke (show i.k<=100000 by lia) (M5 c q),uM,qD r,gj c.pos,ke (show d % i.k<=100000 by lia) h,iJ,g7 _ _ i.k c.bb];congr 3;rw[Nat.add_mul,_M,ua _ _ (tp _)];congr 1;rw[fD,cJ y];congr 1;rw[show 2^i.k=2^(d % i.k)*2^(i.k-d % i.k) by rw[<-eV];congr 1;lia,Nat.mul_div_mul_left _ _ (tp _)])
 simp only[ag]at this;simp_all? [ag,this]
def Z4(i:Ins)(h:d6 i)(s:Sg40.Machine):Mk .gm i.k (Ch i.k λj=>(each 26 i.k (lane i.k (s.v i.a) j) (lane i.k (s.v i.b) j) (lane i.k (s.v i.d) j) i.z).getD 0) i s:=by have c:=h.k;have r:=c.le;refine Mk.of (f:=λj=>(lane i.k (s.v i.a) j/2^(lane i.k (s.v i.d) j % i.k)+lane i.k (s.v i.b) j*2^(i.k-lane i.k (s.v i.d) j % i.k)) % 2^i.k) (fr:=true) (λn=> ?_) (λj u=>(gk _ _).symm);rw[ah];have:=Dj (n+4) (.ko .cA [NI i.k]) (λd x y=>(x/2^(d % i.k)+y*2^(i.k-d % i.k)) % 2^i.k) false i h s (λd x y B o q=>by have E:d % i.k<i.k:=aw _ c.pos;rw[bL];simp only[dt];rw[ah];simp_all? [uB,jm,ke (show i.k<=100000 by omega) (M5 c q),uM,qD o,gj c.pos,iJ,g7 _ _ i.k c.bb];congr 4;rw[show 2^i.k*y=2^(d % i.k)*(y*2^(i.k-d % i.k)) by rw[ac,<-eV,cJ,show d % i.k+(i.k-d % i.k)=i.k by omega],ua _ _ (tp _)]);simp only[ag]at this;simp_all? [zT,m_,ag,this]
def Dk{k d i:Nat}(c:i<k)(b:Bool):((if b=true then d else d^^^(2^k-1)).testBit i)=(d.testBit i==b):=by cases b;simp only[ub,k3,em,Nat.testBit_two_pow_sub_one,c];cases d.testBit i<;>rfl;simp only[c6];cases d.testBit i<;>rfl
noncomputable def sel(d x y i:Nat):Nat:=4*one (bit d i)+2*one (bit x i)+one (bit y i)
def one_le(b:Bool):one b<=1:=by cases b<;>decide
def Tz(d x y i:Nat):sel d x y i<8:=by unfold sel;have:=one_le (bit d i);have:=one_le (bit x i);have:=one_le (bit y i);omega
def P_{k d:Nat}(c:d<2^k)(b:Bool):(if b=true then d else d^^^(2^k-1))<2^k:=by have:=tp k;split;exact c;exact rb c (by omega)
noncomputable def flip(k d:Nat)(b:Bool):Nat:=if b=true then d else d^^^(2^k-1)
def M6(k d x y t i:Nat)(c:i<k)(j:t<8):(flip k d (t/4 % 2==1)&&&flip k x (t/2 % 2==1)&&&flip k y (t % 2==1)).testBit i=decide (sel d x y i=t):=by
 rw[jM,jM];unfold flip;rw[Dk c,Dk c,Dk c];unfold sel;rw[cj,cj,cj];have h:t=0\/t=1\/t=2\/t=3\/t=4\/t=5\/t=6\/t=7:=by omega
 rcases h with rfl|rfl|rfl|rfl|rfl|rfl|rfl|rfl<;>cases d.testBit i<;>cases x.testBit i<;>cases y.testBit i<;>rfl
def E2(n:Nat)(i:Ins)(d x y:Nat)(R:Wd i.k)(I:d<2^i.k)(S:x<2^i.k)(L:y<2^i.k)(M:gc):C (n+2) .aU [NI d,NI x,NI y,.ord (ag i),NI (2^i.k-1)] M=some (NI (IR i.k λj=>bit (i.z.toNat % 256) (sel d x y j)),false,M):=by
 obtain⟨e',G,w,s,u,a,b,c,e,rfl⟩:=fc (M:=M) (tg:=[6]) (body:=d8 T (C (n+1)) (.ite (.call .c7 (.cons (.aK (.v 3) .m) (.cons (.v 6) .nil))) (.set 7 (.tQ (.bin .and (.v 6) (.int 4)) (.v 0) (.bin .xor (.v 0) (.v 4))) (.set 8 (.tQ (.bin .and (.v 6) (.int 2)) (.v 1) (.bin .xor (.v 1) (.v 4))) (.set 9 (.tQ (.bin .and (.v 6) (.int 1)) (.v 2) (.bin .xor (.v 2) (.v 4))) (.aug 5 .or (.bin .and (.bin .and (.v 7) (.v 8)) (.v 9)) .nil)))) .nil .nil)) (xs:=(AC 8).map λ(i:Nat)=>[NI i])
  (e:=⟨[some (NI d),some (NI x),some (NI y),some (.ord (ag i)),some (NI (2^i.k-1)),some (.int 0),none,none,none,none],none⟩)
  (λt e=>∃w:Nat,w<2^i.k/\(∀j,j<i.k->w.testBit j=(decide (sel d x y j<t)&&bit i.z.toNat (sel d x y j)))/\∃a b c f:Option Vl,e=⟨[some (NI d),some (NI x),some (NI y),some (.ord (ag i)),some (NI (2^i.k-1)),some (NI w),a,b,c,f],none⟩)
  ⟨0,tp _,by intro j _;simp,_,_,_,_,rfl⟩ λt A e H ⟨w,s,u,a,b,c,f,he⟩=>by
   subst he;obtain⟨J,rfl⟩:=bf H;refine⟨rfl,?_⟩;have O:binI .and (t:Int) 4=some ((t&&&4:Nat):Int):=jc t 4;have P:binI .and (t:Int) 2=some ((t&&&2:Nat):Int):=jc t 2;have Q:binI .and (t:Int) 1=some ((t&&&1:Nat):Int):=jc t 1;have q:((((t&&&4:Nat):Int) !=0)=(t/4 % 2==1))/\((((t&&&2:Nat):Int) !=0)=(t/2 % 2==1))/\((((t&&&1:Nat):Int) !=0)=(t % 2==1)):=by
    have h:t=0\/t=1\/t=2\/t=3\/t=4\/t=5\/t=6\/t=7:=by omega
    rcases h with rfl|rfl|rfl|rfl|rfl|rfl|rfl|rfl<;>decide
   obtain⟨U,X,Y⟩:=q;cases B:bit i.z.toNat t with
   |false=>
    refine⟨_,?_,w,s,λj o=> ?_,some (NI t),b,c,f,rfl⟩;simp_all? [ag,et,B];rw[u j o];by_cases E:sel d x y j=t;rw[E,B,io,io];have:decide (sel d x y j<t)=decide (sel d x y j<t+1):=by congr 1;apply propext;omega
    rw[this]
   |true=>
    refine⟨_,?_,w|||(flip i.k d (t/4 % 2==1)&&&flip i.k x (t/2 % 2==1)&&&flip i.k y (t % 2==1)),?_,λj o=> ?_,some (NI t),some (NI (flip i.k d (t/4 % 2==1))),some (NI (flip i.k x (t/2 % 2==1))),some (NI (flip i.k y (t % 2==1))),rfl⟩;cases Z:(t/4 % 2==1)<;>cases F:(t/2 % 2==1)<;>cases G:(t % 2==1)<;>simp_all? [ag,et,B,O,P,Q,U,X,Y,Z,F,G,tV,jc,uM,flip];exact Cc s (yS _ (P_ L _));rw[_G,u j o,M6 i.k d x y t j o J];by_cases E:sel d x y j=t;rw[E,B];simp;have:decide (sel d x y j<t)=decide (sel d x y j<t+1):=by congr 1;apply propext;omega
    rw[this];simp[E]
 have r:w=IR i.k λj=>bit (i.z.toNat % 256) (sel d x y j):=by apply q7;intro j;rw[eE];by_cases o:j<i.k;rw[u j o];simp only[fI,o];rw[cj,cj,show(256:Nat)=2^8 from rfl,yL];simp[Tz];rw[pZ (bw s (fh (by decide) (by omega)))];simp[o]
 have D:(8:Int).natAbs<=b6:=by decide
 have V:(8:Int).toNat=8:=rfl;rw[ah];simp_all? [o5,ft,D,V,G];exact fin r
def Z5(i:Ins)(c:d6 i)(s:Sg40.Machine):Mk .gp i.k (Ch i.k λj=>(each 33 i.k (lane i.k (s.v i.a) j) (lane i.k (s.v i.b) j) (lane i.k (s.v i.d) j) i.z).getD 0) i s:=by have h:=c.k;refine Mk.of (f:=λj=>IR i.k λt=>bit (i.z.toNat % 256) (sel (lane i.k (s.v i.d) j) (lane i.k (s.v i.a) j) (lane i.k (s.v i.b) j) t)) (fr:=true) (λn=> ?_) (λj u=>(aq (mY _ _)).symm);rw[ah];have:=Dj (n+4) (.ko .aU [.ord (ag i),NI (2^i.k-1)]) (λd x y=>IR i.k λt=>bit (i.z.toNat % 256) (sel d x y t)) false i c s (λd x y o q r=>by rw[bL];simp only[dt,uc,n0,E2 _ i d x y h o q r,c6]);simp only[ag]at this;simp_all? [zU,nc,ag,sr _ i.k h.bb,this]
def aO{k:Nat}(c:Wd k):lanes k<=b6:=by have:=c.le64;simp only[b6];omega
def pS{k:Nat}(c:Wd k):(lanes k:Int).natAbs<=b6:=by have:=c.le64;simp only[b6];omega
def Z6(i:Ins)(o:d6 i)(s:Sg40.Machine):Mk .Bx i.k (Ch i.k λj=>if bit (s.p (i.z.toNat % 8)) j=true then lane i.k (s.v i.b) j else lane i.k (s.v i.a) j) i s:=by have c:=o.k;refine Mk.of (f:=λj=>if bit (s.p (i.z.toNat % 8)) j=true then lane i.k (s.v i.b) j else lane i.k (s.v i.a) j) (fr:=true) (λn=> ?_) (λj q=>(aq (by split<;>exact ay _ _ _)).symm);rw[ah];simp_all? [PQ,CU,ag,cI,aj (n+8) _ i.k o.a c,aj (n+8) _ i.k o.b c,pS c,aO c];rw[aM (h:=λj=>NI (if bit (s.p (i.z.toNat % 8)) j=true then lane i.k (s.v i.b) j else lane i.k (s.v i.a) j))];rfl;intro j q;cases h:bit (s.p (i.z.toNat % 8)) j<;>simp_all? [cZ,et,h,aN q]
def Z7(i:Ins)(c:d6 i)(s:Sg40.Machine):Mk .gJ i.k (Ch i.k λ_=>s.x i.b) i s:=by have h:=c.k;have o:=h.le64;refine Mk.of (f:=λj=>s.x i.b % 2^i.k) (fr:=true) (λn=> ?_) (λj q=>rfl);rw[ah];simp_all? [xP,lP,ag,cT _ i.b c.b,g7 _ _ i.k h.bb,pR (show lanes i.k<=1000 by omega)]
def Z8(i:Ins)(r:d6 i)(c:32<=i.k)(s:Sg40.Machine):Mk .eg i.k (Ch i.k λ_=>s.p (i.b % 8) % 2^lanes i.k) i s:=by
 have q:=r.k;have u:=q.le64;have o:lanes i.k<=i.k:=by rcases q with h|h|h|h<;>rw[h]at c⊢<;>revert c<;>decide
 refine Mk.of (f:=λj=>s.p (i.b % 8) % 2^lanes i.k) (fr:=true) (λn=> ?_) (λj y=>(aq (bw (aw _ (tp _)) (fh (by decide) o))).symm);rw[ah];simp_all? [uC,jn,ag,cI,g7 _ _ (lanes i.k) (show lanes i.k<=1000 by omega),pR (show lanes i.k<=1000 by omega)]
def E3{k:Nat}(q:k<=64)(x j:Nat)(z:Int):FS k ((x:Int)+j*z)=(x+j*wrap z) % 2^k:=by
 unfold FS wrap;have c:((2:Int)^k)∣2^64:=⟨2^(64-k),by rw[<-Int.pow_add];congr 1;omega⟩;have h:0<=z % 2^64:=ii _ (by decide);have e:((x:Int)+j*z) % 2^k=((x:Int)+j*(z % 2^64)) % 2^k:=by rw[_a,_Y,<-Int.emod_emod_of_dvd z c,<-_Y,<-_a]
 rw[e];have o:(x:Int)+j*(z % 2^64)=((x+j*(z % 2^64).toNat:Nat):Int):=by rw[Int.natCast_add,Int.natCast_mul,B9 h]
 rw[o,pw k,<-ca,fH]
def Z9(i:Ins)(o:d6 i)(s:Sg40.Machine)(y:Xf s):Mk .pB i.k (Ch i.k λj=>s.x i.b+j*wrap i.z) i s:=by have c:=o.k;have q:=c.le64;refine Mk.of (f:=λj=>(s.x i.b+j*wrap i.z) % 2^i.k) (fr:=true) (λn=> ?_) (λj r=>rfl);rw[ah];simp_all? [GR,uo,ag,cT _ i.b o.b,pS c,aO c];rw[aM (h:=λj=>NI ((s.x i.b+j*wrap i.z) % 2^i.k))];rfl;intro j r;have u:binI .mul (j:Int) i.z=some ((j:Int)*i.z):=xi (.inl (by omega));simp_all? [cZ,u,uL,lF _ _ i.k c.bb,E3 c.le]
def Z_(i:Ins)(o:d6 i)(s:Sg40.Machine):Mk .eh i.k (Ch i.k λj=>if bit (s.p (i.b % 8)) j=true then 2^i.k-1 else 0) i s:=by have c:=o.k;have r:=tp i.k;refine Mk.of (f:=λj=>if bit (s.p (i.b % 8)) j=true then 2^i.k-1 else 0) (fr:=true) (λn=> ?_) (λj q=>(aq (by split<;>omega)).symm);rw[ah];simp_all? [uD,jo,ag,cI,pS c,aO c];rw[aM (h:=λj=>NI (if bit (s.p (i.b % 8)) j=true then 2^i.k-1 else 0))];rfl;intro j q;cases h:bit (s.p (i.b % 8)) j<;>simp_all? [cZ,et,h,sr _ i.k c.bb];rfl
def qF(a b)(f g:Nat->Vl):(AC a).map f++(AC b).map g=(AC (a+b)).map λi=>if i<a then f i else g (i-a):=by rw[<-tX (λi=>if i<a then f i else g (i-a))];congr 1;apply fG;intro i c;rw[ae (dw.mp c)];apply fG;intro i c;rw[ab (by lia)];congr 1;lia
def kf(h:m<=n)(f:Nat->Vl):((AC n).map f).take m=(AC m).map f:=by have:=jh n 0 m f (by lia);simpa using this
def yC(n m)(f:Nat->Vl):((AC n).map f).drop m=(AC (n-m)).map λi=>f (m+i):=by apply rd;intro i;rw[TD];by_cases h:m+i<n;rw[aN h,aN (by lia)];rw[fF (by simp;lia),fF (by simp;lia)]
def su(n c j:Nat)(f:Nat->Vl):xN ((AC n).map f) (c) (j)=some (.lst ((AC (min j n-c)).map λi=>f (c+i)),true):=by unfold xN;rw[ae (by lia),fH,fH,yC];congr 3;apply rd;intro i;rw[sw];by_cases h:i<j-c;rw[ae h];by_cases o:i<n-c;rw[aN o,aN (by lia)];rw[fF (by simp;lia),fF (by simp;lia)];rw[ab h,fF (by simp;lia)]
def E4(h:∀i,i<n->f i=g i):LF n f=LF n g:=by show SV.lst _=SV.lst _;congr 1;exact fG λi c=>h i (dw.mp c)
def Ak(h:∀i,i<n->f i=g i):some (LF n f,b,M)=some (LF n g,b,M):=by rw[E4 h]
def b'(i)(o:d6 i)(s):Mk .pick i.k (Ch i.k λj=>lane i.k (s.v i.a) (lane i.k (s.v i.b) j % lanes i.k)) i s:=by have c:=o.k;have r:=c.Vo;refine Mk.of (f:=λj=>lane i.k (s.v i.a) (lane i.k (s.v i.b) j % lanes i.k)) (fr:=true) (λn=> ?_) (λj q=>(aq (ay _ _ _)).symm);rw[ah];simp_all? [Tw,GQ,ag,aj (n+8) _ i.k o.a c,aj (n+8) _ i.k o.b c,aO c];rw[aM (h:=λj=>NI (lane i.k (s.v i.a) (lane i.k (s.v i.b) j % lanes i.k)))];rfl;intro j q;simp_all? [cZ,gj (show 0<lanes i.k by lia),aN (aw _ (show 0<lanes i.k by lia))]
def j'(i)(o:d6 i)(s:Sg40.Machine):Mk .jD i.k (Ch i.k λj=>if lane i.k (s.v i.b) j % (2*lanes i.k)<lanes i.k then lane i.k (s.v i.a) (lane i.k (s.v i.b) j % (2*lanes i.k))else lane i.k (s.v i.d) (lane i.k (s.v i.b) j % (2*lanes i.k)-lanes i.k)) i s:=by
 have c:=o.k;have y:=c.Vo;have q:=c.le64;refine Mk.of (f:=λj=>if lane i.k (s.v i.b) j % (2*lanes i.k)<lanes i.k then lane i.k (s.v i.a) (lane i.k (s.v i.b) j % (2*lanes i.k))else lane i.k (s.v i.d) (lane i.k (s.v i.b) j % (2*lanes i.k)-lanes i.k)) (fr:=true) (λn=> ?_) (λj r=>(aq (by split<;>exact ay _ _ _)).symm);have u:lanes i.k+lanes i.k<=b6:=by simp only[b6];lia
 rw[ah];simp_all? [A3,oU,ag,aj (n+8) _ i.k o.a c,aj (n+8) _ i.k o.b c,aj (n+8) _ i.k o.d c,aO c,u,qF];rw[aM (h:=λj=>NI (if lane i.k (s.v i.b) j % (2*lanes i.k)<lanes i.k then lane i.k (s.v i.a) (lane i.k (s.v i.b) j % (2*lanes i.k))else lane i.k (s.v i.d) (lane i.k (s.v i.b) j % (2*lanes i.k)-lanes i.k)))];rfl;intro j r;have e:lanes i.k+lanes i.k=2*lanes i.k:=by lia
 rw[e];simp_all? [cZ,gj (show 0<2*lanes i.k by lia),aN (aw _ (show 0<2*lanes i.k by lia))];split<;>rfl
def gE(n d)(c:d<16)(s):C (n+3) .aa [.d5,NI d,.int 8] (some (ak s))=some (LV 8 (s.v d),true,some (ak s)):=aj n d 8 c (.inl rfl) s
def vS(n d)(c:d<16)(s):C (n+3) .aa [.d5,NI d,.int 16] (some (ak s))=some (LV 16 (s.v d),true,some (ak s)):=aj n d 16 c (.inr (.inl rfl)) s
def M7(n d)(c:d<16)(s):C (n+3) .aa [.d5,NI d,.int 32] (some (ak s))=some (LV 32 (s.v d),true,some (ak s)):=aj n d 32 c (.inr (.inr (.inl rfl))) s
def f_(n d)(c:d<16)(s):C (n+3) .aa [.d5,NI d,.int 64] (some (ak s))=some (LV 64 (s.v d),true,some (ak s)):=aj n d 64 c (.inr (.inr (.inr rfl))) s
def pT(n s t N r)(f g)(h:Nat->Nat->Vl)(A:Vl)(M)(u:0<s)(c:s<=100)(y:0<t)(j:t<=100)(fr)(B:4*s=N)(o:4*t=r) (E:∀q,q<4->pH (C n) A [LF s λi=>f (q*s+i),LF s λi=>g (q*s+i)] M=some (LF t (h q),fr)):C (n+1) .fL [LF N f,LF N g,A] M=some (LF r λi=>h (i/t) (i % t),true,M):=by subst B;subst o;exact EZ n s t f g h A M u c y j fr E
def l'(i)(c:d6 i)(s):Mk .jl 8 (Ch 8 λj=>if 128<=lane 8 (s.v i.b) j then 0 else lane 8 (s.v i.a) (j/16*16+lane 8 (s.v i.b) j % 16)) i s:=by refine Mk.of (f:=λj=>if 128<=lane 8 (s.v i.b) j then 0 else lane 8 (s.v i.a) (j/16*16+lane 8 (s.v i.b) j % 16)) (fr:=true) (λn=> ?_) (λj o=>(aq (by split<;>first|decide|exact ay _ _ _)).symm);have u:=pT (n+10) 16 16 (lanes 8) (lanes 8) (λj=>NI (lane 8 (s.v i.a) j)) (λj=>NI (lane 8 (s.v i.b) j)) (λq j=>NI (if 128<=lane 8 (s.v i.b) (q*16+j)then 0 else lane 8 (s.v i.a) (q*16+lane 8 (s.v i.b) (q*16+j) % 16))) (.ko .cc []) (some (ak s)) (by decide) (by decide) (by decide) (by decide) true rfl rfl (λq B=>by rw[bL];simp only[dt];rw[ah];simp_all? [tD,iT];rw[aM (h:=λj=>NI (if 128<=lane 8 (s.v i.b) (q*16+j)then 0 else lane 8 (s.v i.a) (q*16+lane 8 (s.v i.b) (q*16+j) % 16)))];simp_all? [];intro j o;have r:dj .ge (lane 8 (s.v i.b) (q*16+j):Int) 128=decide (128<=lane 8 (s.v i.b) (q*16+j)):=Xg _ 128;have y:∀x:Nat,binI .mod (x) 16=some ((x % 16:Nat):Int):=λx=>gj (b:=16) (by decide);by_cases h:128<=lane 8 (s.v i.b) (q*16+j);simp_all? [cZ,r,h];rfl;simp_all? [cZ,r,h,y,aN (aw _ (show 0<16 by decide))]);rw[ah];simp_all? [C5,qr,ag,gE _ _ c.a,gE _ _ c.b,u];refine Ak λj o=> ?_;rw[show j/16*16+j % 16=j by lia]
def n'(i)(h:d6 i)(s:Sg40.Machine):Mk .mU i.k (Ch i.k λj=>if j+i.z.toNat % lanes i.k<lanes i.k then lane i.k (s.v i.b) (j+i.z.toNat % lanes i.k)else lane i.k (s.v i.a) (j+i.z.toNat % lanes i.k-lanes i.k)) i s:=by
 have c:=h.k;have u:=c.Vo;have o:=c.le64;refine Mk.of (f:=λj=>if j+i.z.toNat % lanes i.k<lanes i.k then lane i.k (s.v i.b) (j+i.z.toNat % lanes i.k)else lane i.k (s.v i.a) (j+i.z.toNat % lanes i.k-lanes i.k)) (fr:=true) (λn=> ?_) (λj q=>(aq (by split<;>exact ay _ _ _)).symm);have r:lanes i.k+lanes i.k<=b6:=by simp only[b6];lia
 have y:i.z.toNat % lanes i.k<lanes i.k:=aw _ (by lia);rw[ah];simp_all? [ET,rW,ag,aj (n+8) _ i.k h.a c,aj (n+8) _ i.k h.b c,r,qF,gj (show 0<lanes i.k by lia),gh,su];rw[show min (i.z.toNat % lanes i.k+lanes i.k) (lanes i.k+lanes i.k)-i.z.toNat % lanes i.k=lanes i.k by lia];refine Ak λj q=> ?_;rw[fD j];split<;>rfl
def A'(i)(h:d6 i)(s):Mk .d4 8 (Ch 8 λj=>if j % 16+i.z.toNat % 32<16 then lane 8 (s.v i.b) (j/16*16+(j % 16+i.z.toNat % 32))else if j % 16+i.z.toNat % 32<32 then lane 8 (s.v i.a) (j/16*16+(j % 16+i.z.toNat % 32)-16)else 0) i s:=by refine Mk.of (f:=λj=>if j % 16+i.z.toNat % 32<16 then lane 8 (s.v i.b) (j/16*16+(j % 16+i.z.toNat % 32))else if j % 16+i.z.toNat % 32<32 then lane 8 (s.v i.a) (j/16*16+(j % 16+i.z.toNat % 32)-16)else 0) (fr:=true) (λn=> ?_) (λj r=>(aq (by(repeat' split)<;>first|decide|exact ay _ _ _)).symm);have G:i.z.toNat % 32<32:=aw _ (by decide);have u:binI .mod (i.z.toNat:Int) 32=some ((i.z.toNat % 32:Nat):Int):=gj (b:=32) (by decide);have y:binI .add ((i.z.toNat % 32:Nat):Int) 16=some ((i.z.toNat % 32+16:Nat):Int):=gh _ 16;have B:zB .mul (.lst [.int 0]:Vl) (.int 32)=some (LF 32 λ_=>.int 0,true):=pR (m:=32) (by decide);have E:=pT (n+10) 16 16 (lanes 8) (lanes 8) (λj=>NI (lane 8 (s.v i.a) j)) (λj=>NI (lane 8 (s.v i.b) j)) (λq j=>NI (if j+i.z.toNat % 32<16 then lane 8 (s.v i.b) (q*16+(j+i.z.toNat % 32))else if j+i.z.toNat % 32<32 then lane 8 (s.v i.a) (q*16+(j+i.z.toNat % 32)-16)else 0)) (.ko .bt [NI (i.z.toNat % 32)]) (some (ak s)) (by decide) (by decide) (by decide) (by decide) true rfl rfl (λq H=>by rw[bL];simp only[dt];rw[ah];simp_all? [pQ,f9,B,qF,y,su];rw[show min (i.z.toNat % 32+16) 64-i.z.toNat % 32=16 by lia];refine congrArg (λl=>some (l,true)) (E4 λj r=> ?_);by_cases c:j+i.z.toNat % 32<16;rw[ae c,ae (by lia),ae (by lia),fD j];by_cases o:j+i.z.toNat % 32<32;rw[ab c,ae o,ae (by lia),ab (by lia)];congr 3;lia;rw[ab c,ab o,ab (by lia)];rfl);rw[ah];simp_all? [vK,j9,ag,u,gE _ _ h.a,gE _ _ h.b,E]
def Al(n m)(f g)(r:m<=100)(M):C (n+1) .pF [LF m f,LF m g] M=some (LF (2*m) λi=>if i % 2=0 then f (i/2)else g (i/2),true,M):=by
 obtain⟨e',c,a,b,rfl⟩:=fc (M:=M) (tg:=[3,4]) (body:=d8 T (C n) (.ext 2 (.list (.cons (.v 3) (.cons (.v 4) .nil))) .nil)) (xs:=(AC m).map λi=>[f i,g i])
  (e:=⟨[some (LF m f),some (LF m g),none,none,none],some (2,[])⟩)
  (λt e=>∃a b:Option Vl,e=⟨[some (LF m f),some (LF m g),none,a,b],some (2,(AC (2*t)).map λi=>if i % 2=0 then f (i/2)else g (i/2))⟩)
  ⟨_,_,rfl⟩ λt x e h ⟨a,b,he⟩=>by
   subst he;obtain⟨j,rfl⟩:=bf h;refine⟨rfl,_,?_,some (f t),some (g t),rfl⟩;have o:2*t+2<=b6:=by simp only[b6];lia
   have q:AC (2*(t+1))=AC (2*t)++[2*t,2*t+1]:=by rw[show 2*(t+1)=2*t+1+1 by lia,mz,mz,wj];rfl
   simp_all? [o,q,k0];rw[ae (by lia),ab (by lia),show(2*t)/2=t by lia,show(2*t+1)/2=t by lia]
 rw[ah];simp_all? [GY,ux,mD,ji,c]
def xC(c:Wd k):4*group k=lanes k:=by rcases c with rfl|rfl|rfl|rfl<;>decide
def oA(c:Wd k):2<=group k/\group k<=16/\2*(group k/2)=group k:=by rcases c with rfl|rfl|rfl|rfl<;>decide
def Bb(n m)(f g)(j:m<=100)(c:2*(m/2)=m)(M):C (n+2) .jE [LF m f,LF m g] M=some (LF m λi=>if i % 2=0 then f (i/2)else g (i/2),true,M):=by have h:binI .fdiv ((m):Int) 2=some ((m/2:Nat):Int):=iW (b:=2) (by decide) (by decide);rw[ah];have:=Al n (m/2) f g (by lia) M;rw[c]at this;simp_all? [A4,oV,h,kf (show m/2<=m by lia),this]
def Bc(n m)(f g)(j:m<=100)(c:2*(m/2)=m)(M):C (n+2) .jF [LF m f,LF m g] M=some (LF m λi=>if i % 2=0 then f (m/2+i/2)else g (m/2+i/2),true,M):=by have h:binI .fdiv ((m):Int) 2=some ((m/2:Nat):Int):=iW (b:=2) (by decide) (by decide);rw[ah];have:=Al n (m/2) (λi=>f (m/2+i)) (λi=>g (m/2+i)) (by lia) M;rw[c]at this;simp_all? [A5,oW,h,yC,show m-m/2=m/2 by lia,this]
def qG(n)(A:Vl)(h:Nat->Nat->Vl)(fr)(i)(o:d6 i)(s) (r:∀q,q<4->pH (C (n+5)) A [LF (group i.k) λj=>NI (lane i.k (s.v i.a) (q*group i.k+j)),LF (group i.k) λj=>NI (lane i.k (s.v i.b) (q*group i.k+j))] (some (ak s))=some (LF (group i.k) (h q),fr)):C (n+7) .fm [A,.ord (ag i),.d5] (some (ak s))=some (LF (lanes i.k) λj=>h (j/group i.k) (j % group i.k),true,some (ak s)):=by have c:=o.k;obtain⟨B,u,E⟩:=oA c;have y:=pT (n+5) (group i.k) (group i.k) (lanes i.k) (lanes i.k) (λj=>NI (lane i.k (s.v i.a) j)) (λj=>NI (lane i.k (s.v i.b) j)) h A (some (ak s)) (by lia) (by lia) (by lia) (by lia) fr (xC c) (xC c) r;rw[ah];simp_all? [x4,l_,ag,aj (n+3) _ i.k o.a c,aj (n+3) _ i.k o.b c,y]
def C'(i)(c:d6 i)(s):Mk .ek i.k (Ch i.k λj=>if j % 2=0 then lane i.k (s.v i.a) (j/group i.k*group i.k+j % group i.k/2)else lane i.k (s.v i.b) (j/group i.k*group i.k+j % group i.k/2)) i s:=by have r:=c.k;obtain⟨B,u,h⟩:=oA r;refine Mk.of (f:=λj=>if j % 2=0 then lane i.k (s.v i.a) (j/group i.k*group i.k+j % group i.k/2)else lane i.k (s.v i.b) (j/group i.k*group i.k+j % group i.k/2)) (fr:=true) (λn=> ?_) (λj y=>(aq (by split<;>exact ay _ _ _)).symm);have o:=qG (n+4) (.fn .jE) (λq j=>if j % 2=0 then NI (lane i.k (s.v i.a) (q*group i.k+j/2))else NI (lane i.k (s.v i.b) (q*group i.k+j/2))) true i c s (λq E=>by rw[Ad];simp only[dt,Bb _ (group i.k) _ _ (show group i.k<=100 by lia) h,c6]);simp only[ag]at o;rw[ah];simp_all? [uG,js,ag,o];refine Ak λj y=> ?_;rw[show j % group i.k % 2=j % 2 from UF j ⟨group i.k/2,h.symm⟩];split<;>rfl
def D'(i)(c:d6 i)(s):Mk .en i.k (Ch i.k λj=>if j % 2=0 then lane i.k (s.v i.a) (j/group i.k*group i.k+group i.k/2+j % group i.k/2)else lane i.k (s.v i.b) (j/group i.k*group i.k+group i.k/2+j % group i.k/2)) i s:=by have r:=c.k;obtain⟨B,u,h⟩:=oA r;refine Mk.of (f:=λj=>if j % 2=0 then lane i.k (s.v i.a) (j/group i.k*group i.k+group i.k/2+j % group i.k/2)else lane i.k (s.v i.b) (j/group i.k*group i.k+group i.k/2+j % group i.k/2)) (fr:=true) (λn=> ?_) (λj y=>(aq (by split<;>exact ay _ _ _)).symm);have o:=qG (n+4) (.fn .jF) (λq j=>if j % 2=0 then NI (lane i.k (s.v i.a) (q*group i.k+(group i.k/2+j/2)))else NI (lane i.k (s.v i.b) (q*group i.k+(group i.k/2+j/2)))) true i c s (λq E=>by rw[Ad];simp only[dt,Bc _ (group i.k) _ _ (show group i.k<=100 by lia) h,c6]);simp only[ag]at o;rw[ah];simp_all? [uH,jt,ag,o];refine Ak λj y=> ?_;rw[show j % group i.k % 2=j % 2 from UF j ⟨group i.k/2,h.symm⟩,<-sH];split<;>rfl
def Am(n m)(v)(M):C (n+1) .jU [LV 64 v,NI m] M=some (LF 2 λj=>NI (lane 64 v (m % 4*2+j)),true,M):=by have q:m % 4<4:=aw _ (by decide);have c:binI .mod ((m):Int) 4=some ((m % 4:Nat):Int):=gj (b:=4) (by decide);have h:binI .mul ((m % 4:Nat):Int) 2=some ((m % 4*2:Nat):Int):=qQ (b:=2) (.inr (by decide));have o:binI .add ((m % 4*2:Nat):Int) 2=some ((m % 4*2+2:Nat):Int):=gh _ 2;rw[ah];simp_all? [GZ,uy,c,h,o,su];rw[show min (m % 4*2+2) (lanes 64)-m % 4*2=2 by have:lanes 64=8:=rfl;lia]
def k_(c:j<8):lane 64 (Ch 128 f) j=lane 64 (f (j/2) % 2^128) (j % 2):=by have:=kY (k:=64) (w:=128) (v:=Ch 128 f) (by decide) (by decide) (j/2) (j % 2) (by lia);rw[show j/2*(128/64)+j % 2=j by lia]at this;rw[this,gD (show j/2<lanes 128 by have:lanes 128=4:=rfl;lia)]
def nR(v q r)(c:r<2):lane 64 (lane 128 v q % 2^128) r=lane 64 v (q*2+r):=by rw[aq (ay _ _ _)];exact(kY (k:=64) (w:=128) (by decide) (by decide) q r c).symm
def E'(i)(c:d6 i)(s):Mk .fS 64 (Ch 128 λj=>lane 128 (if j<2 then s.v i.a else s.v i.b) (i.z.toNat/4^j % 4)) i s:=by
 have q:binI .shr (i.z.toNat:Int) 2=some ((i.z.toNat/4:Nat):Int):=iJ _ 2;have r:binI .shr (i.z.toNat:Int) 4=some ((i.z.toNat/16:Nat):Int):=iJ _ 4;have u:binI .shr (i.z.toNat:Int) 6=some ((i.z.toNat/64:Nat):Int):=iJ _ 6;refine⟨λj=>lane 64 (Ch 128 λj=>lane 128 (if j<2 then s.v i.a else s.v i.b) (i.z.toNat/4^j % 4)) j,true,λn=> ?_,λj o _=>rfl⟩;rw[ah];simp_all? [xb,kR,ag,f_ _ _ c.a,f_ _ _ c.b,q,r,u,Am,qF];refine Ak (n:=8) λj o=> ?_;rw[k_ o,nR _ _ _ (by lia)];have h:j=0\/j=1\/j=2\/j=3\/j=4\/j=5\/j=6\/j=7:=by lia
 rcases h with rfl|rfl|rfl|rfl|rfl|rfl|rfl|rfl<;>simp
def F'(i)(o:d6 i)(s):Mk .iC 64 (Ch 128 λj=>if j=i.z.toNat % 4 then lane 128 (s.v i.a) 0 else lane 128 (s.v i.b) j) i s:=by
 have J:i.z.toNat % 4<4:=aw _ (by decide);have r:binI .mod (i.z.toNat:Int) 4=some ((i.z.toNat % 4:Nat):Int):=gj (b:=4) (by decide);have u:binI .mul ((i.z.toNat % 4:Nat):Int) 2=some ((i.z.toNat % 4*2:Nat):Int):=qQ (b:=2) (.inr (by decide));have y:binI .add ((i.z.toNat % 4*2:Nat):Int) 2=some ((i.z.toNat % 4*2+2:Nat):Int):=gh _ 2;have L:lanes 64=8:=rfl;have B:(0:Int)<=2:=by decide
 have E:(2:Int).toNat=2:=rfl;have G:i.z.toNat % 4*2+2<=b6:=by simp only[b6];lia
 have c:i.z.toNat % 4*2+2+(lanes 64-(i.z.toNat % 4*2+2))<=b6:=by simp only[b6];lia
 refine⟨λj=>lane 64 (Ch 128 λj=>if j=i.z.toNat % 4 then lane 128 (s.v i.a) 0 else lane 128 (s.v i.b) j) j,true,λn=> ?_,λj q _=>rfl⟩;rw[ah];simp_all? [z4,nt,ag,f_ _ _ o.a,f_ _ _ o.b,r,u,y,kf (show i.z.toNat % 4*2<=lanes 64 by lia),B,E,kf (show 2<=lanes 64 by lia),yC,qF,G,c];rw[show i.z.toNat % 4*2+2+(lanes 64-(i.z.toNat % 4*2+2))=8 by lia];refine Ak (n:=8) λj q=> ?_;rw[k_ q];by_cases h:j/2=i.z.toNat % 4;rw[ae h,ae (by lia),ab (by lia),nR _ _ _ (by lia)];congr 3;lia;rw[ab h,nR _ _ _ (by lia),show j/2*2+j % 2=j by lia];by_cases H:j<i.z.toNat % 4*2;rw[ae (by lia),ae H];rw[ab (by lia)];congr 3;lia
def G'(i)(o:d6 i)(s):Mk .gR 64 (lane 128 (s.v i.a) (i.z.toNat % 4)) i s:=by
 have q:zB .mul (.lst [.int 0]:Vl) (.int 6)=some (LF 6 λ_=>.int 0,true):=pR (m:=6) (by decide);refine⟨λj=>lane 64 (lane 128 (s.v i.a) (i.z.toNat % 4)) j,true,λn=> ?_,λj r _=>rfl⟩;rw[ah];simp_all? [x5,md,ag,f_ _ _ o.a,Am,q,qF];refine Ak (n:=8) λj r=> ?_;by_cases h:j<2;rw[ae h];exact congrArg NI (kY (k:=64) (w:=128) (by decide) (by decide) (i.z.toNat % 4) j h);rw[ab h];have:lane 64 (lane 128 (s.v i.a) (i.z.toNat % 4)) j=0:=by have c:=ay 128 (s.v i.a) (i.z.toNat % 4);unfold lane at c|-;rw[lL (bw c (fh (by decide) (by lia)))]
 rw[this];rfl
def I'(i)(o:d6 i)(c:i.k<=32)(s):Mk .widen (2*i.k) (Ch (2*i.k) λj=>lane i.k (s.v i.a) j) i s:=by
 have q:=o.k;have r:lanes i.k/2=lanes (2*i.k):=by rcases q with h|h|h|h<;>rw[h]at c⊢<;>revert c<;>decide
 have u:binI .fdiv (lanes i.k:Int) 2=some (lanes (2*i.k):Int):=by rw[<-r];exact iW (b:=2) (by decide) (by decide)
 refine Mk.of (f:=λj=>lane i.k (s.v i.a) j) (fr:=true) (λn=> ?_) (λj y=>(aq (bw (ay _ _ _) (fh (by decide) (by lia)))).symm);rw[ah];simp_all? [Jh,yz,ag,aj (n+8) _ i.k o.a q,u,kf (show lanes (2*i.k)<=lanes i.k by lia)]
def Wd.dbl(c:Wd k)(j:k<=32):Wd (2*k):=by rcases c with h|h|h|h<;>subst h<;>first|(exact .inr (.inl rfl))|(exact .inr (.inr (.inl rfl)))|(exact .inr (.inr (.inr rfl)))|lia
def Jl(k)(c:Wd k):binI .mul 2 (k)=some ((2*k:Nat):Int):=qQ (a:=2) (.inl (by decide))
def J'(i)(q:d6 i)(c:i.k<=32)(s):Mk .iD (2*i.k) (Ch (2*i.k) λj=>FS (2*i.k) (AT i.k (lane i.k (s.v i.a) j))) i s:=by
 have o:=q.k;have r:=o.dbl c;have y:lanes i.k/2=lanes (2*i.k):=by rcases o with h|h|h|h<;>rw[h]at c⊢<;>revert c<;>decide
 have B:binI .fdiv (lanes i.k:Int) 2=some (lanes (2*i.k):Int):=by rw[<-y];exact iW (b:=2) (by decide) (by decide)
 refine Mk.of (f:=λj=>FS (2*i.k) (AT i.k (lane i.k (s.v i.a) j))) (fr:=true) (λn=> ?_) (λj E=>(jw _ _).symm);have u:C (n+11) .widen [.ord (ag i),.d5] (some (ak s))=some (LF (lanes (2*i.k)) λj=>NI (lane i.k (s.v i.a) j),true,some (ak s)):=by rw[ah];simp_all? [Jh,yz,ag,aj (n+7) _ i.k q.a o,B,kf (show lanes (2*i.k)<=lanes i.k by lia)]
 simp only[ag]at u;rw[ah];simp_all? [z5,nu,ag,u,aO r];rw[aM (h:=λj=>NI (FS (2*i.k) (AT i.k (lane i.k (s.v i.a) j))))];rfl;intro j E;simp_all? [cZ,bu _ _ i.k o.one o.bb (ay i.k (s.v i.a) j),Jl i.k o,lF _ _ (2*i.k) r.bb]
def qH(n)(A:Vl)(r:Nat->Nat)(fr)(i)(u:d6 i)(c:i.k<=32)(s)(h:∀x,x<2^(2*i.k)->pH (C (n+6)) A [NI x] (some (ak s))=some (NI (r x),fr)):C (n+7) .lA [A,.ord (ag i),.d5] (some (ak s))=some (LF (lanes i.k) λj=>NI (if j<lanes (2*i.k)then r (lane (2*i.k) (s.v i.a) j)else 0),true,some (ak s)):=by
 have o:=u.k;have y:=o.dbl c;have E:=o.le64;have G:lanes i.k/2=lanes (2*i.k):=by rcases o with h|h|h|h<;>rw[h]at c⊢<;>revert c<;>decide
 have q:lanes (2*i.k)+lanes (2*i.k)=lanes i.k:=by rcases o with h|h|h|h<;>rw[h]at c⊢<;>revert c<;>decide
 have H:binI .fdiv (lanes i.k:Int) 2=some (lanes (2*i.k):Int):=by rw[<-G];exact iW (b:=2) (by decide) (by decide)
 have B:wD (cZ T (C (n+6)) ⟨[some A,some (.ord (ag i)),some .d5,none],none⟩ (some (ak s)) [3] (.i0 0 (.cons (.v 3) .nil))) ((AC (lanes (2*i.k))).map λj=>[NI (lane (2*i.k) (s.v i.a) j)])=some ((AC (lanes (2*i.k))).map λj=>NI (r (lane (2*i.k) (s.v i.a) j))):=
  aM λj J=>by simp_all? [cZ,h _ (ay (2*i.k) (s.v i.a) j)]
 simp only[ag]at B;rw[ah];simp_all? [G0,uz,ag,Jl i.k o,aj (n+3) _ (2*i.k) u.a y,aO y,B,H,pR (show lanes (2*i.k)<=1000 by lia),qF,q,aO o];refine Ak λj J=> ?_;split<;>rfl
def sW{c:F}{i:Ins}(u:d6 i)(o:i.k<=32){s:Sg40.Machine}{r:Nat->Nat}(q:∀x,x<2^(2*i.k)->r x<2^i.k) (h:∀n,C (n+12) c [.ord (ag i),.d5] (some (ak s))=some (LF (lanes i.k) λj=>NI (if j<lanes (2*i.k)then r (lane (2*i.k) (s.v i.a) j)else 0),true,some (ak s))):Mk c i.k (Ch i.k λj=>if j<lanes (2*i.k)then r (lane (2*i.k) (s.v i.a) j)else 0) i s:=Mk.of h λj y=>(aq (by split;exact q _ (ay _ _ _);exact tp _)).symm
def K'(i)(h:d6 i)(c:i.k<=32)(s:Sg40.Machine):Mk .narrow i.k (Ch i.k λj=>if j<lanes (2*i.k)then lane (2*i.k) (s.v i.a) j % 2^i.k else 0) i s:=by refine sW h c (r:=λx=>x % 2^i.k) (λx _=>aw _ (tp _)) λn=> ?_;have o:=qH (n+4) (.ko .hV [.ord (ag i)]) (λx=>x % 2^i.k) false i h c s (λx q=>by rw[bL];simp only[dt];rw[ah];simp_all? [C7,qt,ag,g7 _ _ i.k h.k.bb]);simp only[ag]at o;rw[ah];simp_all? [MS,zQ,ag,o]
def L'(i)(h:d6 i)(c:i.k<=32)(s:Sg40.Machine):Mk .fo i.k (Ch i.k λj=>if j<lanes (2*i.k)then P8 i.k (AT (2*i.k) (lane (2*i.k) (s.v i.a) j))else 0) i s:=by have o:=h.k.dbl c;refine sW h c (r:=λx=>P8 i.k (AT (2*i.k) x)) (λx _=>nQ _ _) λn=> ?_;have q:=qH (n+4) (.ko .cg [.ord (ag i)]) (λx=>P8 i.k (AT (2*i.k) x)) false i h c s (λx u=>by rw[bL];simp only[dt];rw[ah];simp_all? [tF,iV,ag,Jl i.k h.k,bu _ x (2*i.k) o.one o.bb u,gV _ _ i.k h.k.one h.k.bb]);simp only[ag]at q;rw[ah];simp_all? [x6,mf,ag,q]
def N'(i)(h:d6 i)(c:i.k<=32)(s:Sg40.Machine):Mk .hW i.k (Ch i.k λj=>if j<lanes (2*i.k)then zn i.k (lane (2*i.k) (s.v i.a) j)else 0) i s:=by refine sW h c (r:=λx=>zn i.k x) (λx _=>vR _ _) λn=> ?_;have o:=qH (n+4) (.ko .c3 [.ord (ag i)]) (λx=>zn i.k x) false i h c s (λx q=>by rw[bL];simp only[dt];rw[ah];simp_all? [vL,j_,ag,C_ _ _ i.k h.k.bb]);simp only[ag]at o;rw[ah];simp_all? [A6,oX,ag,o]
def O'(i)(h:d6 i)(c:i.k<=32)(s:Sg40.Machine):Mk .cy i.k (Ch i.k λj=>if j<lanes (2*i.k)then zn i.k (AT (2*i.k) (lane (2*i.k) (s.v i.a) j))else 0) i s:=by have o:=h.k.dbl c;refine sW h c (r:=λx=>zn i.k (AT (2*i.k) x)) (λx _=>vR _ _) λn=> ?_;have q:=qH (n+4) (.ko .bc [.ord (ag i)]) (λx=>zn i.k (AT (2*i.k) x)) false i h c s (λx u=>by rw[bL];simp only[dt];rw[ah];simp_all? [o_,fy,ag,Jl i.k h.k,bu _ x (2*i.k) o.one o.bb u,C_ _ _ i.k h.k.bb]);simp only[ag]at q;rw[ah];simp_all? [se,il,ag,q]
def qI(n)(A:Vl)(r:Nat->Nat->Nat)(fr)(i)(E:d6 i)(s)(h:∀x y,x<2^i.k->y<2^i.k->pH (C (n+4)) A [NI x,NI y] (some (ak s))=some (NI (r x y),fr)):C (n+8) .hR [A,.ord (ag i),.d5] (some (ak s))=some (LF (lanes i.k) λj=>NI (r (lane i.k (if j % group i.k<group i.k/2 then s.v i.a else s.v i.b) (j/group i.k*group i.k+j % group i.k*2 % group i.k)) (lane i.k (if j % group i.k<group i.k/2 then s.v i.a else s.v i.b) (j/group i.k*group i.k+j % group i.k*2 % group i.k+1))),true,some (ak s)):=by
 have H:=E.k;obtain⟨U,J,X⟩:=oA H;have G:=qG (n+0) (.ko .cf [A]) (λq j=>NI (r (lane i.k (if j<group i.k/2 then s.v i.a else s.v i.b) (q*group i.k+j*2 % group i.k)) (lane i.k (if j<group i.k/2 then s.v i.a else s.v i.b) (q*group i.k+j*2 % group i.k+1)))) true i E s (λq Y=>by
  rw[bL];simp only[dt];rw[ah];have L:group i.k+group i.k<=b6:=by simp only[b6];lia
  have o:group i.k<=b6:=by simp only[b6];lia
  have M:(0:Int).natAbs<=b6/\((group i.k+group i.k:Nat):Int).natAbs<=b6/\(0:Int)<2/\(2:Int)<=b6:=by simp only[b6];lia
  have O:((((group i.k+group i.k:Nat):Int)-0+2-1)/2).toNat=group i.k:=by lia
  simp_all? [tE,iU,L,qF,M,O,o];rw[aM (h:=λj=>NI (r (lane i.k (if j<group i.k/2 then s.v i.a else s.v i.b) (q*group i.k+j*2 % group i.k)) (lane i.k (if j<group i.k/2 then s.v i.a else s.v i.b) (q*group i.k+j*2 % group i.k+1))))];simp_all? [];intro j Z;have P:(0)+(j:Int)*2=((2*j:Nat):Int):=by lia
  have Q:binI .add ((2*j:Nat):Int) 1=some ((2*j+1:Nat):Int):=gh _ 1;have u:(if 2*j<group i.k then NI (lane i.k (s.v i.a) (q*group i.k+2*j))else NI (lane i.k (s.v i.b) (q*group i.k+(2*j-group i.k))))=NI (lane i.k (if j<group i.k/2 then s.v i.a else s.v i.b) (q*group i.k+j*2 % group i.k)):=by by_cases c:j<group i.k/2;rw[ae (by lia),ae c,aq (show j*2<group i.k by lia),cJ j];rw[ab (by lia),ab c,show j*2 % group i.k=2*j-group i.k by rw[up (by lia),aq (by lia),cJ]]
  have B:(if 2*j+1<group i.k then NI (lane i.k (s.v i.a) (q*group i.k+(2*j+1)))else NI (lane i.k (s.v i.b) (q*group i.k+(2*j+1-group i.k))))=NI (lane i.k (if j<group i.k/2 then s.v i.a else s.v i.b) (q*group i.k+j*2 % group i.k+1)):=by by_cases c:j<group i.k/2;rw[ae (by lia),ae c,aq (show j*2<group i.k by lia),cJ j,<-sH];rw[ab (by lia),ab c,show j*2 % group i.k=2*j-group i.k by rw[up (by lia),aq (by lia),cJ]];congr 2;lia
  simp_all? [cZ,P,Q,aN (show 2*j<group i.k+group i.k by lia),aN (show 2*j+1<group i.k+group i.k by lia),u,B];rw[h _ _ (ay _ _ _) (ay _ _ _)];rfl)
 simp only[ag]at G;rw[ah];simp_all? [C6,qs,ag,G]
def P'(i)(c:d6 i)(s):Mk .eA i.k (Ch i.k λj=>lane i.k (if j % group i.k<group i.k/2 then s.v i.a else s.v i.b) (j/group i.k*group i.k+j % group i.k*2 % group i.k)+lane i.k (if j % group i.k<group i.k/2 then s.v i.a else s.v i.b) (j/group i.k*group i.k+j % group i.k*2 % group i.k+1)) i s:=by refine Mk.of (f:=λj=>(lane i.k (if j % group i.k<group i.k/2 then s.v i.a else s.v i.b) (j/group i.k*group i.k+j % group i.k*2 % group i.k)+lane i.k (if j % group i.k<group i.k/2 then s.v i.a else s.v i.b) (j/group i.k*group i.k+j % group i.k*2 % group i.k+1)) % 2^i.k) (fr:=true) (λn=> ?_) (λj o=>rfl);have h:=qI (n+3) (.ko .bW [.ord (ag i)]) (λx y=>(x+y) % 2^i.k) false i c s (λx y q r=>by rw[bL];simp only[dt];rw[ah];simp_all? [r_,ik,ag,gh,g7 _ _ i.k c.k.bb]);simp only[ag]at h;rw[ah];simp_all? [xc,kS,ag,h]
def Q'(i)(c:d6 i)(s):Mk .b7 i.k (Ch i.k λj=>lane i.k (if j % group i.k<group i.k/2 then s.v i.a else s.v i.b) (j/group i.k*group i.k+j % group i.k*2 % group i.k)+2^i.k-lane i.k (if j % group i.k<group i.k/2 then s.v i.a else s.v i.b) (j/group i.k*group i.k+j % group i.k*2 % group i.k+1)) i s:=by refine Mk.of (f:=λj=>(lane i.k (if j % group i.k<group i.k/2 then s.v i.a else s.v i.b) (j/group i.k*group i.k+j % group i.k*2 % group i.k)+2^i.k-lane i.k (if j % group i.k<group i.k/2 then s.v i.a else s.v i.b) (j/group i.k*group i.k+j % group i.k*2 % group i.k+1)) % 2^i.k) (fr:=true) (λn=> ?_) (λj q=>rfl);have h:=qI (n+3) (.ko .a8 [.ord (ag i)]) (λx y=>(x+2^i.k-y) % 2^i.k) false i c s (λx y r o=>by rw[bL];simp only[dt];rw[ah];simp_all? [nW,eM,ag,pa,lF _ _ i.k c.k.bb,nP (hF o)]);simp only[ag]at h;rw[ah];simp_all? [qX,gZ,ag,h]
def S'(i)(c:d6 i)(s):Mk .b8 i.k (Ch i.k λj=>P8 i.k (AT i.k (lane i.k (if j % group i.k<group i.k/2 then s.v i.a else s.v i.b) (j/group i.k*group i.k+j % group i.k*2 % group i.k))+AT i.k (lane i.k (if j % group i.k<group i.k/2 then s.v i.a else s.v i.b) (j/group i.k*group i.k+j % group i.k*2 % group i.k+1)))) i s:=by refine Mk.of (f:=λj=>P8 i.k (AT i.k (lane i.k (if j % group i.k<group i.k/2 then s.v i.a else s.v i.b) (j/group i.k*group i.k+j % group i.k*2 % group i.k))+AT i.k (lane i.k (if j % group i.k<group i.k/2 then s.v i.a else s.v i.b) (j/group i.k*group i.k+j % group i.k*2 % group i.k+1)))) (fr:=true) (λn=> ?_) (λj r=>(aq (nQ _ _)).symm);have h:=qI (n+3) (.ko .a9 [NI i.k]) (λx y=>P8 i.k (AT i.k x+AT i.k y)) false i c s (λx y o q=>by rw[bL];simp only[dt];rw[ah];simp_all? [nX,eN,bu _ x i.k c.k.one c.k.bb o,bu _ y i.k c.k.one c.k.bb q,uL,gV _ _ i.k c.k.one c.k.bb]);simp only[ag]at h;rw[ah];simp_all? [qY,g0,ag,h]
def M8(n x)(i)(c:Wd i.k)(L:x<2^i.k)(M):C (n+1) .a7 [NI x,.ord (ag i)] M=some (NI (pk 8 (λt=>lane 8 x (i.k/8-1-t)) (i.k/8)),false,M):=by
 have O:=c.le;have P:=c.pos;obtain⟨e',j,a,rfl⟩:=fc (M:=M) (tg:=[3]) (body:=d8 T (C n) (.set 2 (.bin .or (.bin .shl (.v 2) (.int 8)) (.bin .and (.bin .shr (.v 0) (.v 3)) (.int 255))) .nil)) (xs:=(AC (i.k/8)).map λ(t:Nat)=>[.int (0+t*8)])
  (e:=⟨[some (NI x),some (.ord (ag i)),some (.int 0),none],none⟩)
  (λt e=>∃a:Option Vl,e=⟨[some (NI x),some (.ord (ag i)),some (NI (pk 8 (λu=>lane 8 x (t-1-u)) t)),a],none⟩)
  ⟨_,rfl⟩ λt y e o ⟨a,he⟩=>by
   subst he;obtain⟨r,rfl⟩:=bf o;have s:(0)+(t)*8=((8*t:Nat):Int):=by lia
   refine⟨rfl,_,?_,some (NI (8*t)),rfl⟩;have B:pk 8 (λu=>lane 8 x (t-1-u)) t<2^200:=bw (BO λ_ _=>ay _ _ _) (fh (by decide) (by lia));have E:binI .shl (pk 8 (λu=>lane 8 x (t-1-u)) t:Int) 8=some ((pk 8 (λu=>lane 8 x (t-1-u)) t*2^8:Nat):Int):=ke (b:=8) (by decide) B;have G:binI .and ((x/2^(8*t):Nat):Int) 255=some ((lane 8 x t):Int):=by rw[show(255)=((2^8-1:Nat):Int)from rfl,jc,DJ];rfl
   simp_all? [s,E,iJ,G,uM,qD (ay 8 x t),Jk];rw[show t+1-1-0=t by lia];have q:∀u,t+1-1-(u+1)=t-1-u:=λu=>by lia
   simp only[q]
 have H:(0:Int).natAbs<=b6/\(i.k:Int).natAbs<=b6/\(0:Int)<8/\(8:Int)<=b6:=by simp only[b6];lia
 have J:((i.k:Int)-0+8-1)/8=((i.k/8:Nat):Int):=by rcases c with h|h|h|h<;>rw[h]<;>rfl
 simp only[ag]at j;rw[ah];simp_all? [nV,eL,ag,H,J,j]
def Wd.dv8(c:Wd k):8∣k:=by rcases c with rfl|rfl|rfl|rfl<;>decide
def Wd.l8(c:Wd k):lanes k*(k/8)=64/\8*(k/8)=k:=by rcases c with rfl|rfl|rfl|rfl<;>decide
def T'(i)(y:d6 i)(s):Mk .dh i.k (Ch 8 λj=>lane 8 (s.v i.a) (j/(i.k/8)*(i.k/8)+(i.k/8-1-j % (i.k/8)))) i s:=by
 have c:=y.k;obtain⟨q,r⟩:=c.l8;have E:0<i.k/8:=by have:=c.pos;lia
 refine⟨λj=>pk 8 (λt=>lane 8 (lane i.k (s.v i.a) j) (i.k/8-1-t)) (i.k/8),true,λn=> ?_,λj B _=> ?_⟩;have o:=λj=>M8 (n+10) (lane i.k (s.v i.a) j) i c (ay _ _ _) (some (ak s));simp only[ag]at o;rw[ah];simp_all? [uI,ju,ag,aj (n+8) _ i.k y.a c,aO c];rw[aM (h:=λj=>NI (pk 8 (λt=>lane 8 (lane i.k (s.v i.a) j) (i.k/8-1-t)) (i.k/8)))];rfl;intro j B;simp_all? [cZ,o];refine sj (k:=8) (n:=i.k/8) (BO λ_ _=>ay _ _ _) (by rw[r];exact ay _ _ _) λt o=> ?_;have u:j*(i.k/8)+t<64:=by have:(j+1)*(i.k/8)<=lanes i.k*(i.k/8):=p4 _ B;rw[q,jO]at this;lia
 rw[<-kY c.dv8 (by decide) j t o,gD (show j*(i.k/8)+t<lanes 8 from u),aq (ay _ _ _)];rw[show(j*(i.k/8)+t)/(i.k/8)=j by rw[cJ,_C E,lL o];rfl,show(j*(i.k/8)+t) % (i.k/8)=t by rw[cJ,_B,aq o]];rw[kY c.dv8 (by decide) j _ (by lia)];exact G3 (f:=λt=>lane 8 (lane i.k (s.v i.a) j) (i.k/8-1-t)) (λ_ _=>ay _ _ _) o
noncomputable def cnt(P:Nat->Bool)(j:Nat):Nat:=((AC j).filter P).length
def M9(P)(j):cnt P (j+1)=cnt P j+if P j=true then 1 else 0:=by unfold cnt;rw[mz,Tk,fi];congr 1;cases h:P j<;>simp[h]
def M_(P)(j):cnt P j<=j:=by unfold cnt;have:=List.length_filter_le P (AC j);simpa using this
def Dl(P)(h:j<n)(c:P j=true):(AC n).filter P=(AC j).filter P++j::((AC (n-j-1)).map (λi=>j+(1+i))).filter P:=by
 have e:n=j+(1+(n-j-1)):=by lia
 conv=>lhs;rw[e]
 rw[yr,Tk,yr];congr 1;simp only[k0,bY,Tk];have:_W P (P9 (λx=>j+x) (AC 1))=[j]:=by simp[c]
 rw[this];rfl
def An(P)(c:j<n)(h:P j=true):((AC n).filter P).findIdx? (λy=>y==j)=some (cnt P j):=by
 rw[Dl P c h,List.findIdx?_append];have o:((AC j).filter P).findIdx? (λy=>y==j)=none:=by rw[jp];intro x q;have:=(sE.mp q).1;rw[dw]at this;simp;lia
 rw[o,TW];simp[cnt]
def U'(i)(c:d6 i)(s):Mk .expand i.k (spread i.k (s.v i.a) (KM i s)) i s:=by
 have h:=c.k;have u:=h.le64;refine⟨λj=>lane i.k (s.v i.a) (cnt (bit (s.p i.g)) j),true,λn=> ?_,λj q o=> ?_⟩;obtain⟨e',r,a,rfl⟩:=fc (M:=some (ak s)) (tg:=[6]) (body:=d8 T (C (n+11)) (.app 4 (.ix (.v 3) (.v 5)) (.ite (.call .c7 (.cons (.v 2) (.cons (.v 6) .nil))) (.aug 5 .add (.int 1) .nil) .nil .nil))) (xs:=(AC (lanes i.k)).map λt=>[NI t])
  (e:=⟨[some (.ord (ag i)),some .d5,some (NI (s.p i.g)),some (LV i.k (s.v i.a)),none,some (.int 0),none],some (4,[])⟩)
  (λt e=>∃a:Option Vl,e=⟨[some (.ord (ag i)),some .d5,some (NI (s.p i.g)),some (LV i.k (s.v i.a)),none,some (NI (cnt (bit (s.p i.g)) t)),a],some (4,(AC t).map λj=>NI (lane i.k (s.v i.a) (cnt (bit (s.p i.g)) j)))⟩)
  ⟨_,rfl⟩ λt y e B ⟨a,he⟩=>by
   subst he;obtain⟨E,rfl⟩:=bf B;refine⟨rfl,_,?_,some (NI t),rfl⟩;have J:=M_ (bit (s.p i.g)) t;have G:t<b6:=by simp only[b6];lia
   have H:binI .add (cnt (bit (s.p i.g)) t:Int) 1=some ((cnt (bit (s.p i.g)) t+1:Nat):Int):=gh _ 1;rw[M9];cases o:bit (s.p i.g) t<;>simp_all? [aN (show cnt (bit (s.p i.g)) t<lanes i.k by lia),G,et,o,H,nN λj=>NI (lane i.k (s.v i.a) (cnt (bit (s.p i.g)) j)),n_]
 simp only[ag]at r;rw[ah];simp_all? [MQ,zP,ag,cI,g8 c,aj (n+8) _ i.k c.a h,mD,pS h,r];unfold spread;rw[gD q];unfold KM;rw[An _ q o];exact(aq (ay _ _ _)).symm
def Qa{y:Type}{c:List Vl->Option Bool}{F:List Vl->Option y}{g:Nat->List Vl}{P:Nat->Bool}{h:Nat->y}:∀{n:Nat},(∀i,i<n->c (g i)=some (P i))->(∀i,i<n->F (g i)=some (h i))->iL c F ((AC n).map g)=some (((AC n).filter P).map h):=by
 have u:∀l:gd,(∀i∈l,c (g i)=some (P i))->(∀i∈l,F (g i)=some (h i))->iL c F (l.map g)=some ((l.filter P).map h):=by
  intro l;induction l with
  |nil=>intros;rfl
  |cons x r E=>
   intro o s;have q:=E (λi j=>o i (by simp[j])) (λi j=>s i (by simp[j]));cases B:P x with
   |true=>simp only[bI,iL,o x (by simp),B,s x (by simp),q,yU];rfl
   |false=>simp only[bI,iL,o x (by simp),B,q,yU,ub,k3]
 intro n o s;exact u _ (λi j=>o i (dw.mp j)) λi j=>s i (dw.mp j)
def map_getD(l:gd)(f:Nat->Vl):l.map f=(AC l.length).map λj=>f (l.getD j 0):=by apply rd;intro j;by_cases c:j<l.length;rw[aN c,dQ,tH,oE c];rfl;rw[fF (by simp;lia),fF (by simp;lia)]
def E5(c:F)(i:Ins)(s h:Sg40.Machine):Prop:=∀n,∃v fr,C (n+14) c [.ord (ag i),.d5] (some (ak s))=some (v,fr,some (ak h))
def V'(i:Ins)(u:d6 i)(s:Sg40.Machine):E5 .compress i s {s with v:=put s.v i.d (Ch i.k λj=>if j<(KM i s).length then lane i.k (packed i.k (s.v i.a) (KM i s)) j else if i.zero=true then 0 else lane i.k (s.v i.d) j)}:=by
 have r:=u.k;have H:=r.le64;have J:(KM i s).length<=lanes i.k:=by have:=M_ (bit (s.p i.g)) (lanes i.k);exact this
 intro n;have G:iL (Km T (C (n+13)) ⟨[some (.ord (ag i)),some .d5,some (NI (s.p i.g)),some (LV i.k (s.v i.a)),none,none],none⟩ (some (ak s)) [5] (.call .c7 (.cons (.v 2) (.cons (.v 5) .nil)))) (cZ T (C (n+13)) ⟨[some (.ord (ag i)),some .d5,some (NI (s.p i.g)),some (LV i.k (s.v i.a)),none,none],none⟩ (some (ak s)) [5] (.ix (.v 3) (.v 5))) ((AC (lanes i.k)).map λt=>[NI t])=some ((AC (KM i s).length).map λj=>NI (lane i.k (s.v i.a) ((KM i s).getD j 0))):=by rw[Qa (P:=bit (s.p i.g)) (h:=λj=>NI (lane i.k (s.v i.a) j)) (λj q=>by simp_all? [Km,et,Uf]) (λj q=>by simp_all? [cZ,aN q])];rw[map_getD];rfl
 have Q:∀j,j<(KM i s).length->(KM i s).getD j 0<lanes i.k:=λj q=>by rw[tH,oE q];have:=List.getElem_mem q;unfold KM at this;have:=(sE.mp this).1;rw[dw]at this;exact this
 have B:∀j,j<lanes i.k->(if j<(KM i s).length then lane i.k (s.v i.a) ((KM i s).getD j 0)else if i.zero=true then 0 else lane i.k (s.v i.d) j)<2^i.k:=λj _=>by have:=tp i.k;(repeat' split)<;>first|exact ay _ _ _|exact this
 have L:=pb (n+11) i.d i.k _ u.d r B s;have M:(Ch i.k λj=>if j<(KM i s).length then lane i.k (packed i.k (s.v i.a) (KM i s)) j else if i.zero=true then 0 else lane i.k (s.v i.d) j)=Ch i.k λj=>(if j<(KM i s).length then lane i.k (s.v i.a) ((KM i s).getD j 0)else if i.zero=true then 0 else lane i.k (s.v i.d) j):=by apply k9;intro j q;by_cases o:j<(KM i s).length;rw[ae o,ae o];unfold packed;rw[gD q,tH,oE o,gk];rfl;rw[ab o,ab o]
 rw[M];have c:=vQ (n+9) i.k i u r s;have O:lanes i.k<=b6:=aO r;have y:((AC (KM i s).length).map λj=>NI (lane i.k (s.v i.a) ((KM i s).getD j 0)))++((AC (lanes i.k-(KM i s).length)).map λt=>NI (if i.zero=true then 0 else lane i.k (s.v i.d) ((KM i s).length+t)))=(AC (lanes i.k)).map λj=>NI (if j<(KM i s).length then lane i.k (s.v i.a) ((KM i s).getD j 0)else if i.zero=true then 0 else lane i.k (s.v i.d) j):=by rw[qF,show(KM i s).length+(lanes i.k-(KM i s).length)=lanes i.k by lia];apply fG;intro j q;by_cases o:j<(KM i s).length;rw[ae o,ae o];rw[ab o,ab o,show(KM i s).length+(j-(KM i s).length)=j by lia]
 have E:(KM i s).length+(lanes i.k-(KM i s).length)<=b6:=by simp only[b6]at O⊢;lia
 refine⟨.cw,false,?_⟩;simp only[ag]at G c;rw[ah];simp_all? [GV,uu,ag,cI,g8 u,aj (n+10) _ i.k u.a r,pS r,aO r,G,c,yC,E,y,L]
def Xh(i)(c:d6 i)(s):E5 .fM i s (setX s i.d (lane i.k (s.v i.a) (i.z.toNat % lanes i.k))):=by have h:=c.k;have o:=h.Vo;intro n;refine⟨.cw,false,?_⟩;have j:=iH (n+10) i.d (lane i.k (s.v i.a) (i.z.toNat % lanes i.k):Int) c.d s;rw[ba,aq (bw (ay _ _ _) h.Oh)]at j;rw[ah];simp_all? [wW,kH,ag,aj (n+10) _ i.k c.a h,gj (show 0<lanes i.k by lia),aN (aw _ (show 0<lanes i.k by lia)),j]
def Xi(i)(h:d6 i)(s):E5 .fN i s {s with v:=put s.v i.d (Ch i.k λj=>if j=i.z.toNat % lanes i.k then s.x i.a else lane i.k (s.v i.d) j)}:=by
 have o:=h.k;have E:=o.Vo;intro n;refine⟨.cw,false,?_⟩;have G:i.z.toNat % lanes i.k<lanes i.k:=aw _ (by lia);have q:∀j,j<lanes i.k->(if j=i.z.toNat % lanes i.k then s.x i.a % 2^i.k else lane i.k (s.v i.d) j)<2^i.k:=λj _=>by split;exact aw _ (tp _);exact ay _ _ _
 have r:=pb (n+11) i.d i.k _ h.d o q s;have u:(Ch i.k λj=>if j=i.z.toNat % lanes i.k then s.x i.a else lane i.k (s.v i.d) j)=Ch i.k λj=>(if j=i.z.toNat % lanes i.k then s.x i.a % 2^i.k else lane i.k (s.v i.d) j):=by apply k9;intro j y;split;rw[gk];rfl
 rw[u];have c:((AC (lanes i.k)).map λj=>NI (lane i.k (s.v i.d) j)).set (i.z.toNat % lanes i.k) (NI (s.x i.a % 2^i.k))=(AC (lanes i.k)).map λj=>NI (if j=i.z.toNat % lanes i.k then s.x i.a % 2^i.k else lane i.k (s.v i.d) j):=by rw[set_range];apply fG;intro j y;split<;>rfl
 have B:((i.z.toNat % lanes i.k:Nat):Int)<(lanes i.k:Int):=by lia
 rw[ah];simp_all? [wX,kI,ag,aj (n+10) _ i.k h.d o,gj (show 0<lanes i.k by lia),cT _ i.a h.a,g7 _ _ i.k o.bb,kd,B,c,r]
noncomputable abbrev LI(n:Nat)(f:Nat->Int):Vl:=.lst ((AC n).map λj=>.int (f j))
def TB{n a e:Nat}(f:Nat->Int)(h:a+e<=n):xN ((AC n).map λj=>(SV.int (f j):Vl)) (a) ((a+e:Nat):Int)=some (LI e λt=>f (a+t),true):=by rw[su,show min (a+e) n-a=e by lia]
def oB(n c e:Nat)(f)(he:0<e)(o:e<=100)(H:c<=100)(N)(r:c*e=N)(s:N<=1000)(M):C (n+1) .dg [LI N f,NI e] M=some (LI c λq=>((AC e).map λt=>f (q*e+t)).sum,true,M):=by
 have u:(0:Int).natAbs<=b6/\((N):Int).natAbs<=b6/\(0)<(e:Int)/\(e:Int)<=b6:=by simp only[b6];lia
 have y:((N:Int)-0+(e:Int)-1)/(e:Int)=(c:Int):=by
  have:(N:Int)-0+(e:Int)-1=((e-1+e*c:Nat):Int):=by rw[<-r,cJ c e];lia
  rw[this,<-ci,ua _ _ he,lL (by lia),qc]
 have B:c<=b6:=by simp only[b6];lia
 rw[ah];simp_all? [EO,rS,u,y,B];rw[aM (h:=λq=>SV.int ((AC e).map λt=>f (q*e+t)).sum)];rfl;intro q E;have G:(0:Int)+(q:Int)*(e:Int)=((q*e:Nat):Int):=by simp
 have j:q*e+e<=N:=by have:(q+1)*e<=c*e:=p4 _ E;rw[jO]at this;lia
 simp_all? [cZ,G,gh,TB f j,kd]
def xD(n m)(f g:Nat->Nat)(o:m<=1000)(M):C (n+1) .mS [LF m λj=>NI (f j),LF m λj=>NI (g j)] M=some (LF m λj=>NI (dist (f j) (g j)),true,M):=by
 have c:m<=b6:=by simp only[b6];lia
 rw[ah];simp_all? [ER,rT,ji,c];rw[aM (h:=λj=>NI (dist (f j) (g j)))];rfl;intro j q;simp_all? [cZ,pa];congr 2;unfold dist;split<;>split<;>lia
def E6(l:gd)(f):(l.map λt=>((f t):Int)).sum=(((l.map f).sum:Nat):Int):=by
 induction l with
 |nil=>rfl
 |cons x l c=>simp only[bI,SL];lia
def Jm(c:a<256)(h:b<256):dist a b<=255:=by unfold dist;split<;>lia
def Na(l:gd)(f)(c)(h:∀t,f t<=c):(l.map f).sum<=l.length*c:=by
 induction l with
 |nil=>simp
 |cons x l j=>simp only[bI,SL,fJ];have:=h x;lia
def W'(i:Ins)(c:d6 i)(s:Sg40.Machine):Mk .gP 64 (Ch 64 λj=>((AC 8).map λt=>dist (lane 8 (s.v i.a) (8*j+t)) (lane 8 (s.v i.b) (8*j+t))).sum) i s:=by refine Mk.of (f:=λj=>((AC 8).map λt=>dist (lane 8 (s.v i.a) (8*j+t)) (lane 8 (s.v i.b) (8*j+t))).sum) (fr:=true) (λn=> ?_) (λj h=>(aq ?_).symm);have o:=xD (n+10) (lanes 8) (λj=>lane 8 (s.v i.a) j) (λj=>lane 8 (s.v i.b) j) (by decide) (some (ak s));have r:C (n+11) .dg [LF (lanes 8) λj=>NI (dist (lane 8 (s.v i.a) j) (lane 8 (s.v i.b) j)),.int 8] (some (ak s))=some (LI 8 λq=>((AC 8).map λt=>(dist (lane 8 (s.v i.a) (q*8+t)) (lane 8 (s.v i.b) (q*8+t)):Int)).sum,true,some (ak s)):=oB (n+10) 8 8 (λj=>(dist (lane 8 (s.v i.a) j) (lane 8 (s.v i.b) j):Int)) (by decide) (by decide) (by decide) (lanes 8) rfl (by decide) (some (ak s));rw[ah];simp_all? [xX,lX,ag,gE _ _ c.a,gE _ _ c.b,o,r,E6];refine Ak (n:=8) λj h=> ?_;simp only[cJ j 8];have:=Na (AC 8) (λt=>dist (lane 8 (s.v i.a) (8*j+t)) (lane 8 (s.v i.b) (8*j+t))) 255 λt=>Jm (ay 8 _ _) (ay 8 _ _);rw[fI]at this;lia
def X'(i:Ins)(c:d6 i)(s:Sg40.Machine):Mk .dR 16 (Ch 16 λj=>((AC 4).map λt=>dist (lane 8 (s.v i.a) (j/8*16+i.z.toNat/4 % 2*4+j % 8+t)) (lane 8 (s.v i.b) (j/8*16+i.z.toNat % 4*4+t))).sum) i s:=by
 refine Mk.of (f:=λj=>((AC 4).map λt=>dist (lane 8 (s.v i.a) (j/8*16+i.z.toNat/4 % 2*4+j % 8+t)) (lane 8 (s.v i.b) (j/8*16+i.z.toNat % 4*4+t))).sum) (fr:=true) (λn=> ?_) (λj r=>(aq ?_).symm);have u:binI .fdiv (i.z.toNat:Int) 4=some ((i.z.toNat/4:Nat):Int):=iW (b:=4) (by decide) (by decide);have y:binI .mod ((i.z.toNat/4:Nat):Int) 2=some ((i.z.toNat/4 % 2:Nat):Int):=gj (b:=2) (by decide);have B:∀x:Nat,binI .mul (x) 4=some ((x*4:Nat):Int):=λx=>qQ (b:=4) (.inr (by decide));have E:binI .mod (i.z.toNat:Int) 4=some ((i.z.toNat % 4:Nat):Int):=gj (b:=4) (by decide);have o:∀x:Nat,binI .add (x) 4=some ((x+4:Nat):Int):=λx=>gh x 4;have G:(8:Int).natAbs<=b6:=by decide
 have H:(8:Int).toNat=8:=rfl;have J:=pT (n+10) 16 8 (lanes 8) (lanes 16) (λj=>NI (lane 8 (s.v i.a) j)) (λj=>NI (lane 8 (s.v i.b) j)) (λq j=>NI ((AC 4).map λt=>dist (lane 8 (s.v i.a) (q*16+i.z.toNat/4 % 2*4+j+t)) (lane 8 (s.v i.b) (q*16+i.z.toNat % 4*4+t))).sum) (.ko .bB [NI (i.z.toNat/4 % 2*4),NI (i.z.toNat % 4*4)]) (some (ak s)) (by decide) (by decide) (by decide) (by decide) true rfl rfl (λq L=>by rw[bL];simp only[dt];rw[ah];simp_all? [qz,gz,o,su,G,H];rw[show min (i.z.toNat % 4*4+4) 16-i.z.toNat % 4*4=4 by lia];rw[aM (h:=λj=>NI ((AC 4).map λt=>dist (lane 8 (s.v i.a) (q*16+i.z.toNat/4 % 2*4+j+t)) (lane 8 (s.v i.b) (q*16+i.z.toNat % 4*4+t))).sum)];simp_all? [];intro j r;have hd:=xD (n+8) 4 (λt=>lane 8 (s.v i.a) (q*16+(i.z.toNat/4 % 2*4+j+t))) (λt=>lane 8 (s.v i.b) (q*16+(i.z.toNat % 4*4+t))) (by decide) (some (ak s));simp_all? [cZ,gh,o,su,show min (i.z.toNat/4 % 2*4+j+4) 16-(i.z.toNat/4 % 2*4+j)=4 by lia,hd,kd,E6];simp only[sH]);rw[ah];simp_all? [vF,j5,ag,u,y,B,E,gE _ _ c.a,gE _ _ c.b,J];have:=Na (AC 4) (λt=>dist (lane 8 (s.v i.a) (j/8*16+i.z.toNat/4 % 2*4+j % 8+t)) (lane 8 (s.v i.b) (j/8*16+i.z.toNat % 4*4+t))) 255 λt=>Jm (ay 8 _ _) (ay 8 _ _);rw[fI]at this;lia
noncomputable def p8(s:Sg40.Machine)(i:Ins)(j:Nat):Int:=(lane 8 (s.v i.a) j:Int)*AT 8 (lane 8 (s.v i.b) j)
noncomputable def v9(s:Sg40.Machine)(i:Ins)(j:Nat):Int:=AT 16 (lane 16 (s.v i.a) j)*AT 16 (lane 16 (s.v i.b) j)
def w8:Wd 8:=.inl rfl
def Xj:Wd 16:=.inr (.inl rfl)
def Oi:Wd 32:=.inr (.inr (.inl rfl))
def Nb:Wd 64:=.inr (.inr (.inr rfl))
def s8(n x)(c:x<2^8)(M):C (n+1) .signed [NI x,.int 8] M=some (.int (AT 8 x),false,M):=bu n x 8 (by decide) (by decide) c M
def s16(n x)(c:x<2^16)(M):C (n+1) .signed [NI x,.int 16] M=some (.int (AT 16 x),false,M):=bu n x 16 (by decide) (by decide) c M
def s32(n x)(c:x<2^32)(M):C (n+1) .signed [NI x,.int 32] M=some (.int (AT 32 x),false,M):=bu n x 32 (by decide) (by decide) c M
def mn(n)(i)(c:d6 i)(s):C (n+4) .fk [.ord (ag i),.d5] (some (ak s))=some (LI (lanes 8) λj=>p8 s i j,true,some (ak s)):=by rw[ah];simp_all? [xY,lY,ag,gE _ _ c.a,gE _ _ c.b,ji,aO w8];rw[aM (h:=λj=>SV.int (p8 s i j))];rfl;intro j o;have:=ay 8 (s.v i.a) j;simp_all? [cZ,s8 _ _ (ay 8 (s.v i.b) j),xi (show(lane 8 (s.v i.a) j:Int).natAbs<2^64\/(AT 8 (lane 8 (s.v i.b) j)).natAbs<2^64 by lia)];rfl
def kg(n)(i)(c:d6 i)(s):C (n+4) .dW [.ord (ag i),.d5] (some (ak s))=some (LI (lanes 16) λj=>v9 s i j,true,some (ak s)):=by rw[ah];simp_all? [vH,j7,ag,vS _ _ c.a,vS _ _ c.b,ji,aO Xj];rw[aM (h:=λj=>SV.int (v9 s i j))];rfl;intro j o;simp_all? [cZ,s16 _ _ (ay 16 (s.v i.b) j),s16 _ _ (ay 16 (s.v i.a) j),xi (.inl (M4 Xj (ay 16 (s.v i.a) j)))];rfl
def qJ(n)(f)(i)(c:d6 i)(s):C (n+4) .lz [LI 16 f,.ord (ag i),.d5] (some (ak s))=some (LI (lanes 32) λj=>AT 32 (lane 32 (s.v i.d) j)+f j,true,some (ak s)):=by have o:Gc (λx y=>[x,y]) ((AC (lanes 32)).map λj=>NI (lane 32 (s.v i.d) j)) ((AC 16).map λj=>(SV.int (f j):Vl))=(AC (lanes 32)).map λj=>[NI (lane 32 (s.v i.d) j),.int (f j)]:=ji (lanes 32) _ _;rw[ah];simp_all? [GX,uw,ag,M7 _ _ c.d,o,aO Oi];rw[aM (h:=λj=>SV.int (AT 32 (lane 32 (s.v i.d) j)+f j))];rfl;intro j q;simp_all? [cZ,s32 _ _ (ay 32 (s.v i.d) j),uL]
def Y'(f:Nat->Int)(q):((AC 4).map λt=>f (q*4+t)).sum=f (4*q+0)+f (4*q+1)+f (4*q+2)+f (4*q+3):=by simp only[mz,xz,k0,bI,sJ,xL,SL,_N];lia
def sum2(f:Nat->Int)(q):((AC 2).map λt=>f (q*2+t)).sum=f (2*q+0)+f (2*q+1):=by simp only[mz,xz,k0,bI,sJ,xL,SL,_N];lia
def sb4(n:Nat)(i)(s):C (n+1) .dg [LI (lanes 8) λj=>p8 s i j,.int 4] (some (ak s))=some (LI 16 λq=>p8 s i (4*q+0)+p8 s i (4*q+1)+p8 s i (4*q+2)+p8 s i (4*q+3),true,some (ak s)):=by have:=oB n 16 4 (λj=>p8 s i j) (by decide) (by decide) (by decide) (lanes 8) rfl (by decide) (some (ak s));simp only[Y']at this;exact this
def sb2(n:Nat)(i)(s):C (n+1) .dg [LI (lanes 8) λj=>p8 s i j,.int 2] (some (ak s))=some (LI (lanes 16) λq=>p8 s i (2*q+0)+p8 s i (2*q+1),true,some (ak s)):=by have:=oB n 32 2 (λj=>p8 s i j) (by decide) (by decide) (by decide) (lanes 8) rfl (by decide) (some (ak s));simp only[sum2]at this;exact this
def Z'(n:Nat)(i)(s):C (n+1) .dg [LI (lanes 16) λj=>v9 s i j,.int 2] (some (ak s))=some (LI 16 λq=>v9 s i (2*q+0)+v9 s i (2*q+1),true,some (ak s)):=by have:=oB n 16 2 (λj=>v9 s i j) (by decide) (by decide) (by decide) (lanes 16) rfl (by decide) (some (ak s));simp only[sum2]at this;exact this
def Nc(n)(z)(M):C (n+2) .cut [.int z,.int 32] M=some (NI (FS 32 z),false,M):=lF n z 32 (by decide) M
def Nd(n)(z)(M):C (n+3) .cz [.int z,.int 32] M=some (NI (P8 32 z),false,M):=gV n z 32 (by decide) (by decide) M
def TC(n)(z)(M):C (n+3) .cz [.int z,.int 16] M=some (NI (P8 16 z),false,M):=gV n z 16 (by decide) (by decide) M
def aaa(i)(c:d6 i)(s):Mk .dN 32 (Ch 32 λj=>FS 32 (AT 32 (lane 32 (s.v i.d) j)+(p8 s i (4*j+0)+p8 s i (4*j+1)+p8 s i (4*j+2)+p8 s i (4*j+3)))) i s:=by refine Mk.of (f:=λj=>FS 32 (AT 32 (lane 32 (s.v i.d) j)+(p8 s i (4*j+0)+p8 s i (4*j+1)+p8 s i (4*j+2)+p8 s i (4*j+3)))) (fr:=true) (λn=> ?_) (λj u=>(jw _ _).symm);have o:=mn (n+7) i c s;have r:=qJ (n+7) (λq=>p8 s i (4*q+0)+p8 s i (4*q+1)+p8 s i (4*q+2)+p8 s i (4*q+3)) i c s;simp only[ag]at o r;rw[ah];simp_all? [tq,iP,ag,o,sb4,r,aO Oi];rw[aM (h:=λj=>NI (FS 32 (AT 32 (lane 32 (s.v i.d) j)+(p8 s i (4*j+0)+p8 s i (4*j+1)+p8 s i (4*j+2)+p8 s i (4*j+3)))))];rfl;intro j u;simp_all? [cZ,Nc]
def aab(i)(c:d6 i)(s):Mk .bZ 32 (Ch 32 λj=>P8 32 (AT 32 (lane 32 (s.v i.d) j)+(p8 s i (4*j+0)+p8 s i (4*j+1)+p8 s i (4*j+2)+p8 s i (4*j+3)))) i s:=by refine Mk.of (f:=λj=>P8 32 (AT 32 (lane 32 (s.v i.d) j)+(p8 s i (4*j+0)+p8 s i (4*j+1)+p8 s i (4*j+2)+p8 s i (4*j+3)))) (fr:=true) (λn=> ?_) (λj u=>(aq (nQ _ _)).symm);have o:=mn (n+7) i c s;have r:=qJ (n+7) (λq=>p8 s i (4*q+0)+p8 s i (4*q+1)+p8 s i (4*q+2)+p8 s i (4*q+3)) i c s;simp only[ag]at o r;rw[ah];simp_all? [o6,fu,ag,o,sb4,r,aO Oi];rw[aM (h:=λj=>NI (P8 32 (AT 32 (lane 32 (s.v i.d) j)+(p8 s i (4*j+0)+p8 s i (4*j+1)+p8 s i (4*j+2)+p8 s i (4*j+3)))))];rfl;intro j u;simp_all? [cZ,Nd]
def aac(i)(c:d6 i)(s):Mk .iw 32 (Ch 32 λj=>FS 32 (AT 32 (lane 32 (s.v i.d) j)+(v9 s i (2*j+0)+v9 s i (2*j+1)))) i s:=by refine Mk.of (f:=λj=>FS 32 (AT 32 (lane 32 (s.v i.d) j)+(v9 s i (2*j+0)+v9 s i (2*j+1)))) (fr:=true) (λn=> ?_) (λj u=>(jw _ _).symm);have o:=kg (n+7) i c s;have r:=qJ (n+7) (λq=>v9 s i (2*q+0)+v9 s i (2*q+1)) i c s;simp only[ag]at o r;rw[ah];simp_all? [zX,ni,ag,o,Z',r,aO Oi];rw[aM (h:=λj=>NI (FS 32 (AT 32 (lane 32 (s.v i.d) j)+(v9 s i (2*j+0)+v9 s i (2*j+1)))))];rfl;intro j u;simp_all? [cZ,Nc]
def aad(i)(c:d6 i)(s):Mk .dO 32 (Ch 32 λj=>P8 32 (AT 32 (lane 32 (s.v i.d) j)+(v9 s i (2*j+0)+v9 s i (2*j+1)))) i s:=by refine Mk.of (f:=λj=>P8 32 (AT 32 (lane 32 (s.v i.d) j)+(v9 s i (2*j+0)+v9 s i (2*j+1)))) (fr:=true) (λn=> ?_) (λj u=>(aq (nQ _ _)).symm);have o:=kg (n+7) i c s;have r:=qJ (n+7) (λq=>v9 s i (2*q+0)+v9 s i (2*q+1)) i c s;simp only[ag]at o r;rw[ah];simp_all? [tr,iQ,ag,o,Z',r,aO Oi];rw[aM (h:=λj=>NI (P8 32 (AT 32 (lane 32 (s.v i.d) j)+(v9 s i (2*j+0)+v9 s i (2*j+1)))))];rfl;intro j u;simp_all? [cZ,Nd]
def aae(i)(o:d6 i)(s):Mk .iy 32 (Ch 32 λj=>FS 32 (v9 s i (2*j+0)+v9 s i (2*j+1))) i s:=by refine Mk.of (f:=λj=>FS 32 (v9 s i (2*j+0)+v9 s i (2*j+1))) (fr:=true) (λn=> ?_) (λj q=>(jw _ _).symm);have c:=kg (n+7) i o s;simp only[ag]at c;rw[ah];simp_all? [zY,nj,ag,c,Z'];rw[aM (h:=λj=>NI (FS 32 (v9 s i (2*j+0)+v9 s i (2*j+1))))];rfl;intro j q;simp_all? [cZ,Nc]
def aaf(i)(o:d6 i)(s):Mk .b0 16 (Ch 16 λj=>P8 16 (p8 s i (2*j+0)+p8 s i (2*j+1))) i s:=by refine Mk.of (f:=λj=>P8 16 (p8 s i (2*j+0)+p8 s i (2*j+1))) (fr:=true) (λn=> ?_) (λj q=>(aq (nQ _ _)).symm);have c:=mn (n+7) i o s;simp only[ag]at c;rw[ah];simp_all? [o8,fw,ag,c,sb2,aO Xj];rw[aM (h:=λj=>NI (P8 16 (p8 s i (2*j+0)+p8 s i (2*j+1))))];rfl;intro j q;simp_all? [cZ,TC]
def Nf(n x)(M):C (n+2) .cut [NI x,.int 52] M=some (NI (x % 2^52),false,M):=g7 n x 52 (by decide) M
def G4(n x)(M):C (n+2) .cut [NI x,.int 64] M=some (NI (x % 2^64),false,M):=g7 n x 64 (by decide) M
def Ng(n x)(M):C (n+2) .cut [NI x,.int 8] M=some (NI (x % 2^8),false,M):=g7 n x 8 (by decide) M
def tY(n)(i)(c:d6 i)(s):C (n+4) .fR [.ord (ag i),.d5] (some (ak s))=some (LF (lanes 64) λj=>NI (lane 64 (s.v i.a) j % 2^52*(lane 64 (s.v i.b) j % 2^52)),true,some (ak s)):=by rw[ah];simp_all? [xa,kQ,ag,f_ _ _ c.a,f_ _ _ c.b,ji,aO Nb];rw[aM (h:=λj=>NI (lane 64 (s.v i.a) j % 2^52*(lane 64 (s.v i.b) j % 2^52)))];rfl;intro j o;simp_all? [cZ,Nf,qQ (show lane 64 (s.v i.a) j % 2^52<2^64\/lane 64 (s.v i.b) j % 2^52<2^64 by lia)]
def aag(i)(c:d6 i)(s):Mk .iz 64 (Ch 64 λj=>lane 64 (s.v i.d) j+lane 64 (s.v i.a) j % 2^52*(lane 64 (s.v i.b) j % 2^52) % 2^52) i s:=by refine Mk.of (f:=λj=>(lane 64 (s.v i.d) j+lane 64 (s.v i.a) j % 2^52*(lane 64 (s.v i.b) j % 2^52) % 2^52) % 2^64) (fr:=true) (λn=> ?_) (λj q=>rfl);have o:=tY (n+7) i c s;simp only[ag]at o;rw[ah];simp_all? [zZ,nk,ag,f_ _ _ c.d,o,ji,aO Nb];rw[aM (h:=λj=>NI ((lane 64 (s.v i.d) j+lane 64 (s.v i.a) j % 2^52*(lane 64 (s.v i.b) j % 2^52) % 2^52) % 2^64))];rfl;intro j q;simp_all? [cZ,Nf,gh,G4]
def aah(i)(o:d6 i)(s):Mk .iA 64 (Ch 64 λj=>lane 64 (s.v i.d) j+lane 64 (s.v i.a) j % 2^52*(lane 64 (s.v i.b) j % 2^52)/2^52) i s:=by refine Mk.of (f:=λj=>(lane 64 (s.v i.d) j+lane 64 (s.v i.a) j % 2^52*(lane 64 (s.v i.b) j % 2^52)/2^52) % 2^64) (fr:=true) (λn=> ?_) (λj r=>rfl);have q:=tY (n+7) i o s;have c:∀x:Nat,binI .shr (x) 52=some ((x/2^52:Nat):Int):=λx=>iJ x 52;simp only[ag]at q;rw[ah];simp_all? [z0,nq,ag,f_ _ _ o.d,q,ji,aO Nb];rw[aM (h:=λj=>NI ((lane 64 (s.v i.d) j+lane 64 (s.v i.a) j % 2^52*(lane 64 (s.v i.b) j % 2^52)/2^52) % 2^64))];rfl;intro j r;simp_all? [cZ,c,gh,G4]
def pd(n)(A:Vl)(r:Nat->Nat->Nat)(fr)(i)(c:d6 i)(s)(h:∀x w,x<256->w<2^64->pH (C (n+6)) A [NI x,NI w] (some (ak s))=some (NI (r x w),fr)):C (n+7) .b1 [A,.ord (ag i),.d5] (some (ak s))=some (LF (lanes 8) λj=>NI (r (lane 8 (s.v i.a) j) (lane 64 (s.v i.b) (j/8))),true,some (ak s)):=by have o:∀x:Nat,binI .fdiv (x) 8=some ((x/8:Nat):Int):=λx=>iW (b:=8) (by decide) (by decide);rw[ah];simp_all? [nI,gA,ag,f_ _ _ c.b,gE _ _ c.a,uN,aO w8];rw[aM (h:=λj=>NI (r (lane 8 (s.v i.a) j) (lane 64 (s.v i.b) (j/8))))];rfl;intro j q;have u:j<64:=q;simp_all? [cZ,o,aN (show j/8<lanes 64 by have:lanes 64=8:=rfl;lia),h _ _ (ay 8 (s.v i.a) j) (ay 64 (s.v i.b) (j/8))]
def Ao(n)(A:Vl)(r:Nat->Nat->Bool)(fr)(i)(c:d6 i)(s)(h:∀x w,x<256->w<2^64->pH (C (n+6)) A [NI x,NI w] (some (ak s))=some (BI (r x w),fr)):C (n+7) .b1 [A,.ord (ag i),.d5] (some (ak s))=some (LF (lanes 8) λj=>BI (r (lane 8 (s.v i.a) j) (lane 64 (s.v i.b) (j/8))),true,some (ak s)):=by have o:∀x:Nat,binI .fdiv (x) 8=some ((x/8:Nat):Int):=λx=>iW (b:=8) (by decide) (by decide);rw[ah];simp_all? [nI,gA,ag,f_ _ _ c.b,gE _ _ c.a,uN,aO w8];rw[aM (h:=λj=>BI (r (lane 8 (s.v i.a) j) (lane 64 (s.v i.b) (j/8))))];rfl;intro j q;have u:j<64:=q;simp_all? [cZ,o,aN (show j/8<lanes 64 by have:lanes 64=8:=rfl;lia),h _ _ (ay 8 (s.v i.a) j) (ay 64 (s.v i.b) (j/8))]
def KW(x w)(c:w<2^64):(w+2^64*w)/2^(x % 64) % 2^8=turned 64 w (64-x % 64) % 256:=by unfold turned;have j:x % 64<64:=aw _ (by decide);generalize x % 64=t at j;rw[UF _ (show 2^8∣2^64 by decide)];by_cases h:t=0;subst h;simp only[_T];rw[lL c];lia;rw[aq (show 64-t<64 by lia),show 64-(64-t)=t by lia];rw[show 2^64*w=2^t*(w*2^(64-t)) by rw[ac,<-eV,cJ,show t+(64-t)=64 by lia],ua _ _ (tp _),fD]
def aai(i)(o:d6 i)(s):Mk .qf 8 (Ch 8 λj=>turned 64 (lane 64 (s.v i.b) (j/8)) (64-lane 8 (s.v i.a) j % 64) % 256) i s:=by refine Mk.of (f:=λj=>turned 64 (lane 64 (s.v i.b) (j/8)) (64-lane 8 (s.v i.a) j % 64) % 256) (fr:=true) (λn=> ?_) (λj u=>(gk _ 256).symm);have c:=pd (n+4) (.ko .bV []) (λx w=>turned 64 w (64-x % 64) % 256) false i o s (λx w y h=>by have q:binI .shl (w) 64=some ((w*2^64:Nat):Int):=ke (b:=64) (by decide) (by lia);have r:binI .mod (x) 64=some ((x % 64:Nat):Int):=gj (b:=64) (by decide);rw[bL];simp only[dt];rw[ah];simp_all? [r8,ig,q,uM,qD h,r,iJ,Ng,KW x w h]);simp only[ag]at c;rw[ah];simp_all? [KG,wN,ag,c]
def E7(n)(f)[DecidablePred f]:(AC n).foldl (λx j=>if f j then x+2^j else x) 0=IR n λj=>decide (f j):=by unfold IR;congr 1;funext x j;by_cases h:f j<;>simp[h]
def aaj(i)(u:d6 i)(c:32<=i.k)(s):Mk .jB i.k (Ch i.k λt=>(AC t).foldl (λx j=>if lane i.k (s.v i.a) j=lane i.k (s.v i.a) t then x+2^j else x) 0) i s:=by
 have o:=u.k;have L:=o.le64;have M:lanes i.k<=i.k:=by rcases o with h|h|h|h<;>rw[h]at c⊢<;>revert c<;>decide
 refine Mk.of (f:=λt=>IR t λj=>decide (lane i.k (s.v i.a) j=lane i.k (s.v i.a) t)) (fr:=true) (λn=> ?_) (λt y=> ?_);rw[ah];simp_all? [A2,oT,ag,aj (n+8) _ i.k u.a o,uN,aO o];rw[aM (h:=λt=>NI (IR t λj=>decide (lane i.k (s.v i.a) j=lane i.k (s.v i.a) t)))];rfl;intro t y;have O:∀B E G H J q:Option Vl,q=some (NI (lane i.k (s.v i.a) t))->wD (cZ T (C (n+11)) ⟨[B,E,G,H,J,q],none⟩ (some (ak s)) [3] (.cmp .eq (.v 3) (.v 5))) ((AC t).map λj=>[NI (lane i.k (s.v i.a) j)])=some ((AC t).map λj=>BI (decide (lane i.k (s.v i.a) j=lane i.k (s.v i.a) t))):=λB E G H J q h=>aM λj Q=>by
  subst h;have e:dj .eq (lane i.k (s.v i.a) j:Int) (lane i.k (s.v i.a) t:Int)=decide (lane i.k (s.v i.a) j=lane i.k (s.v i.a) t):=by simp only[dj];congr 1;apply propext;lia
  simp_all? [cZ,e]
 have r:=jd (n+10) t (λj=>BI (decide (lane i.k (s.v i.a) j=lane i.k (s.v i.a) t))) (λj=>decide (lane i.k (s.v i.a) j=lane i.k (s.v i.a) t)) (by lia) (λ_ _=>rfl) (some (ak s));have P:t<=b6:=by simp only[b6];lia
 simp_all? [cZ,kf (hF y),P,O,r];rw[E7,aq];exact bw (mY _ _) (fh (by decide) (by lia))
def E8(n x y)(B:x<2^64)(M):C (n+2) .eZ [NI x,NI y] M=some (NI (P7 64 x y),false,M):=by
 obtain⟨e',c,a,rfl⟩:=fc (M:=M) (tg:=[3]) (body:=d8 T (C (n+1)) (.ite (.call .c7 (.cons (.v 1) (.cons (.v 3) .nil))) (.aug 2 .xor (.bin .shl (.v 0) (.v 3)) .nil) .nil .nil)) (xs:=(AC 64).map λt=>[NI t])
  (e:=⟨[some (NI x),some (NI y),some (.int 0),none],none⟩)
  (λt e=>∃a:Option Vl,e=⟨[some (NI x),some (NI y),some (NI (P7 t x y)),a],none⟩)
  ⟨_,rfl⟩ λt w e h ⟨a,he⟩=>by
   subst he;obtain⟨j,rfl⟩:=bf h;refine⟨rfl,_,?_,some (NI t),rfl⟩;have o:P7 (t+1) x y=if bit y t=true then P7 t x y^^^(x*2^t)else P7 t x y:=by unfold P7;rw[cH]
   have q:=ke (a:=x) (b:=t) (by lia) (by lia);rw[o];cases r:bit y t<;>simp_all? [et,r,q,tV]
 have s:(64:Int).natAbs<=b6:=by decide
 have u:(64:Int).toNat=64:=rfl;rw[ah];simp_all? [tv,iS,s,u,c]
theorem E9(x y)(k)(c:x<2^k):∀t,t<=k->P7 t x y<2^(k+k)
 |0,_=>by unfold P7;exact tp _
 |t+1,h=>by
  have o:P7 (t+1) x y=if bit y t=true then P7 t x y^^^(x*2^t)else P7 t x y:=by unfold P7;rw[cH]
  rw[o];have j:=E9 x y k c t (by lia);split;refine rb j ?_;have:x*2^t<2^k*2^t:=(Nat.mul_lt_mul_right (tp t)).mpr c;rw[<-eV]at this;exact bw this (fh (by decide) (by lia));exact j
def aak(i)(r:d6 i)(s):Mk .cx 64 (Ch 128 λq=>P7 64 (lane 64 (s.v i.a) (2*q+i.z.toNat % 2)) (lane 64 (s.v i.b) (2*q+i.z.toNat/16 % 2))) i s:=by refine⟨λj=>lane 64 (Ch 128 λq=>P7 64 (lane 64 (s.v i.a) (2*q+i.z.toNat % 2)) (lane 64 (s.v i.b) (2*q+i.z.toNat/16 % 2))) j,true,λn=> ?_,λj u _=>rfl⟩;have B:∀x:Nat,binI .mod (x) 2=some ((x % 2:Nat):Int):=λx=>gj (b:=2) (by decide);have E:∀x:Nat,binI .fdiv (x) 16=some ((x/16:Nat):Int):=λx=>iW (b:=16) (by decide) (by decide);have G:∀x:Nat,binI .shr (x) 64=some ((x/2^64:Nat):Int):=λx=>iJ x 64;have c:i.z.toNat % 2<2:=aw _ (by decide);have o:i.z.toNat/16 % 2<2:=aw _ (by decide);have H:=pT (n+10) 2 2 (lanes 64) (lanes 64) (λj=>NI (lane 64 (s.v i.a) j)) (λj=>NI (lane 64 (s.v i.b) j)) (λq j=>NI (if j=0 then P7 64 (lane 64 (s.v i.a) (q*2+i.z.toNat % 2)) (lane 64 (s.v i.b) (q*2+i.z.toNat/16 % 2)) % 2^64 else P7 64 (lane 64 (s.v i.a) (q*2+i.z.toNat % 2)) (lane 64 (s.v i.b) (q*2+i.z.toNat/16 % 2))/2^64)) (.ko .aF [NI (i.z.toNat % 2),NI (i.z.toNat/16 % 2)]) (some (ak s)) (by decide) (by decide) (by decide) (by decide) true rfl rfl (λq J=>by rw[bL];simp only[dt];rw[ah];simp_all? [ku,c5,aN c,aN o,E8 _ _ _ (ay 64 _ _),G4,G];rfl);rw[ah];simp_all? [r9,ij,ag,B,E,f_ _ _ r.a,f_ _ _ r.b,H];refine Ak λj u=> ?_;rw[k_ u,cJ 2];have y:=E9 (lane 64 (s.v i.a) (j/2*2+i.z.toNat % 2)) (lane 64 (s.v i.b) (j/2*2+i.z.toNat/16 % 2)) 64 (ay _ _ _) 64 (aH _);rw[aq y];unfold lane;by_cases h:j % 2=0;rw[ae h,h];simp;rw[ab h,show j % 2=1 by lia];simp only[og];rw[aq (a:=P7 _ _ _/_)];rw[B8 (by decide)];exact y
noncomputable def red(x:Nat):Nat:=(AC 7).foldl (λ(x i:Nat)=>if bit x (14-i)=true then x^^^(0x11B*2^(6-i))else x) x
def TF(a b):PP a b=red (P7 8 a b):=rfl
def Jn(a b i):bit (a^^^b) i=(bit a i !=bit b i):=by rw[cj,cj,cj,em]
def Nh(u v c j):(if bit (u^^^v) j=true then(u^^^v)^^^c else u^^^v)=(if bit u j=true then u^^^c else u)^^^(if bit v j=true then v^^^c else v):=by rw[Jn];cases bit u j<;>cases bit v j;rfl;show u^^^v^^^c=u^^^(v^^^c);rw[jf];show u^^^v^^^c=u^^^c^^^v;rw[jf,WP v c,<-jf];show u^^^v=(u^^^c)^^^(v^^^c);rw[jf,<-jf c,WP c v,jf v,_S,_R]
def KX(n)(u v):(AC n).foldl (λx i=>if bit x (14-i)=true then x^^^(0x11B*2^(6-i))else x) (u^^^v)=(AC n).foldl (λx i=>if bit x (14-i)=true then x^^^(0x11B*2^(6-i))else x) u^^^(AC n).foldl (λx i=>if bit x (14-i)=true then x^^^(0x11B*2^(6-i))else x) v:=by
 induction n with
 |zero=>rfl
 |succ n c=>rw[cH,cH,cH,c,Nh]
def Qb(u v):red (u^^^v)=red u^^^red v:=KX 7 u v
noncomputable def xt(x:Nat):Nat:=if 255<x*2 then x*2^^^283 else x*2
def FJ:Nat->Nat->Nat
 |0,x=>x
 |n+1,x=>xt (FJ n x)
def Qc:∀a,a<256->∀p,p<8->red (a*2^p)=FJ p a:=by decide+kernel
def Xk:∀a,a<256->xt a<256:=by decide+kernel
theorem G5(c:a<256):∀p,FJ p a<256
 |0=>c
 |p+1=>Xk _ (G5 c p)
def BR(a b:Nat):Nat->Nat
 |0=>0
 |n+1=>if bit b n=true then BR a b n^^^FJ n a else BR a b n
def G6(t x y):P7 (t+1) x y=if bit y t=true then P7 t x y^^^(x*2^t)else P7 t x y:=by unfold P7;rw[cH]
theorem xj(c:a<256)(b):∀n,n<=8->red (P7 n a b)=BR a b n
 |0,_=>by show red 0=0;decide
 |n+1,h=>by rw[G6,BR];split;rw[Qb,xj c b n (by lia),Qc a c n (by lia)];exact xj c b n (by lia)
def jx(c:a<256)(b):PP a b=BR a b 8:=xj c b 8 (aH _)
theorem G7(c:a<256)(b):∀n,BR a b n<256
 |0=>by show 0<256;decide
 |n+1=>by rw[BR];split;exact rb (n:=8) (G7 c b n) (G5 c n);exact G7 c b n
def xk(c:a<256)(b):PP a b<256:=by rw[jx c];exact G7 c b 8
def mq(n x y)(c:x<256)(M):C (n+2) .dy [NI x,NI y] M=some (NI (PP x y),false,M):=by
 obtain⟨e',j,a,rfl⟩:=fc (M:=M) (tg:=[3]) (body:=d8 T (C (n+1)) (.ite (.call .c7 (.cons (.v 1) (.cons (.v 3) .nil))) (.aug 2 .xor (.v 0) .nil) .nil (.aug 0 .shl (.int 1) (.ite (.cmp .gt (.v 0) (.int 255)) (.aug 0 .xor (.uj 2 283) .nil) .nil .nil)))) (xs:=(AC 8).map λt=>[NI t])
  (e:=⟨[some (NI x),some (NI y),some (.int 0),none],none⟩)
  (λt e=>∃a:Option Vl,e=⟨[some (NI (FJ t x)),some (NI y),some (NI (BR x y t)),a],none⟩)
  ⟨_,rfl⟩ λt w e o ⟨a,he⟩=>by
   subst he;obtain⟨q,rfl⟩:=bf o;refine⟨rfl,_,?_,some (NI t),rfl⟩;have h:=G5 c t;have r:binI .shl ((FJ t x):Int) 1=some ((FJ t x*2:Nat):Int):=ke (b:=1) (by decide) (by lia);have s:dj .gt ((FJ t x*2:Nat):Int) 255=decide (255<FJ t x*2):=by simp only[dj];congr 1;apply propext;lia
   have u:binI .xor ((FJ t x*2:Nat):Int) 283=some ((FJ t x*2^^^283:Nat):Int):=tV _ 283;rw[BR,FJ,xt];by_cases B:255<FJ t x*2<;>cases h:bit y t<;>simp_all? [et,h,tV,r,s,B,u]
 have E:(8:Int).natAbs<=b6:=by decide
 have G:(8:Int).toNat=8:=rfl;rw[ah];simp_all? [xZ,lZ,E,G,j,jx c]
def Ap(h:a<256)(x y):PP a (x^^^y)=PP a x^^^PP a y:=by
 rw[jx h,jx h,jx h];have:∀n,BR a (x^^^y) n=BR a x n^^^BR a y n:=λn=>by
  induction n with
  |zero=>simp[BR]
  |succ n j=>
   simp only[BR];rw[Jn,j];generalize BR a x n=u;generalize BR a y n=v;generalize FJ n a=c;cases bit x n<;>cases bit y n;rfl;show u^^^v^^^c=u^^^(v^^^c);rw[jf];show u^^^v^^^c=u^^^c^^^v;rw[jf,WP v c,<-jf];show u^^^v=(u^^^c)^^^(v^^^c);rw[jf,<-jf c,WP c v,jf v,_S,_R]
 exact this 8
noncomputable def ip:Nat->Nat->Nat->Nat
 |0,i,_=>i
 |n+1,i,p=>ip n (PP i (PP p p)) (PP p p)
noncomputable def G8:gd:=[0,1,141,246,203,82,123,209,232,79,41,192,176,225,229,199,116,180,170,75,153,43,96,95,88,63,253,204,255,64,238,178,58,110,90,241,85,77,168,201,193,10,152,21,48,68,162,194,44,69,146,108,243,57,102,66,242,53,32,111,119,187,89,25,29,254,55,103,45,49,245,105,167,100,171,19,84,37,233,9,237,92,5,202,76,36,135,191,24,62,34,240,81,236,97,23,22,94,175,211,73,166,54,67,244,71,145,223,51,147,33,59,121,183,151,133,16,181,186,60,182,112,208,6,161,250,129,130,131,126,127,128,150,115,190,86,155,158,149,217,247,2,185,164,222,106,50,109,216,138,132,114,42,20,159,136,249,220,137,154,251,124,46,195,143,184,101,72,38,200,18,74,206,231,210,98,12,224,31,239,17,117,120,113,165,142,118,61,189,188,134,87,11,40,47,163,218,212,228,15,169,39,83,4,27,252,172,230,122,7,174,99,197,219,226,234,148,139,196,213,157,248,144,107,177,13,214,235,198,14,207,173,8,78,215,227,93,80,30,179,91,35,56,52,104,70,3,140,221,156,125,160,205,26,65,28]
def Jo:∀a,a<256->ip 7 1 a=G8.getD a 0:=by decide+kernel
def KY:∀a,a<256->a≠0->∀p,p<8->PP (G8.getD a 0) (PP a (2^p))=2^p:=by decide+kernel
def vT:∀a,a<256->G8.getD a 0<256:=by decide+kernel
def E_:∀a,a<256->a≠0->PP a (G8.getD a 0)=1:=by decide+kernel
def G9:∀x,x<256->PP 0 x≠1:=by
 intro x _;rw[jx (by decide)];have:∀n,BR 0 x n=0:=λn=>by
  induction n with
  |zero=>rfl
  |succ n c=>
   have h:∀m,FJ m 0=0:=λm=>by
    induction m with
    |zero=>rfl
    |succ m c=>rw[FJ,c];rfl
   rw[BR,c,h];split<;>rfl
 rw[this];decide
def BS(c:a<256)(u:a≠0):∀n,n<=8->∀z,z<2^n->PP (G8.getD a 0) (PP a z)=z:=by
 intro n;induction n with
 |zero=>
  intro _ z q;have:z=0:=by simpa using q
  subst this;have e:∀b,b<256->PP b 0=0:=λb y=>by
   rw[jx y];have:∀n,BR b 0 n=0:=λn=>by
    induction n with
    |zero=>rfl
    |succ n r=>rw[BR,r];simp[bit]
   exact this 8
  rw[e a c,e _ (vT a c)]
 |succ n r=>
  intro E z q;by_cases h:z<2^n;exact r (by lia) z h;have e:z=(z-2^n)^^^2^n:=by
   have o:z-2^n<2^n:=by rw[qb]at q;lia
   have B:=Ae (z-2^n) (2^n);rw[M1 o]at B;have G:(z-2^n)&&&2^n=0:=by apply q7;intro j;rw[jM,sn,wf];by_cases s:n=j;subst s;rw[pZ o];rfl;simp[s]
   lia
  rw[e,Ap c,Ap (vT a c),KY a c u n (by lia),r (by lia) (z-2^n) (by rw[qb]at q;lia)]
def xE(a)(c:a<256):SC a=ip 7 1 a:=by
 rw[Jo a c];unfold SC;by_cases h:a=0;subst h;have:((AC 256).find? λx=>PP 0 x==1)=none:=by rw[yQ];intro x o;rw[dw]at o;simpa using G9 x o
 rw[this];rfl;have:((AC 256).find? λx=>PP a x==1)=some (G8.getD a 0):=by rw[B4];refine⟨by simpa using E_ a c h,by simpa using vT a c,λj y=> ?_⟩;have q:=vT a c;simp only[lI,beq_eq_false_iff_ne];intro r;have s:=BS c h 8 (aH _) j (by lia);have u:=BS c h 8 (aH _) (G8.getD a 0) q;rw[r]at s;rw[E_ a c h]at u;lia
 rw[this];rfl
def aal(i)(c:d6 i)(s):Mk .fQ 8 (Ch 8 λj=>PP (lane 8 (s.v i.a) j) (lane 8 (s.v i.b) j)) i s:=by refine Mk.of (f:=λj=>PP (lane 8 (s.v i.a) j) (lane 8 (s.v i.b) j)) (fr:=true) (λn=> ?_) (λj o=>(aq (xk (ay 8 _ _) _)).symm);rw[ah];simp_all? [w_,kP,ag,gE _ _ c.a,gE _ _ c.b,ji,aO w8];rw[aM (h:=λj=>NI (PP (lane 8 (s.v i.a) j) (lane 8 (s.v i.b) j)))];rfl;intro j o;simp_all? [cZ,mq _ _ _ (ay 8 (s.v i.a) j)]
noncomputable def Rp(a:Nat):Nat->Nat
 |0=>a
 |n+1=>PP (Rp a n) (Rp a n)
def Rq(a:Nat):Nat->Nat
 |0=>1
 |n+1=>PP (Rq a n) (Rp a (n+1))
theorem Ni(c:a<256):∀n,Rp a n<256
 |0=>c
 |n+1=>xk (Ni c n) _
theorem Nj(c:a<256):∀n,Rq a n<256
 |0=>by show 1<256;decide
 |n+1=>xk (Nj c n) _
theorem Nk(a):∀n m,ip n (Rq a m) (Rp a m)=Rq a (m+n)
 |0,m=>rfl
 |n+1,m=>by rw[ip];have:=Nk a n (m+1);rw[Rq,Rp]at this;rw[this,Nat.add_right_comm];rfl
def yg(n x)(c:x<256)(M):C (n+3) .iY [NI x] M=some (NI (SC x),false,M):=by
 obtain⟨e',h,a,rfl⟩:=fc (M:=M) (tg:=[3]) (body:=d8 T (C (n+2)) (.set 2 (.call .dy (.cons (.v 2) (.cons (.v 2) .nil))) (.set 1 (.call .dy (.cons (.v 1) (.cons (.v 2) .nil))) .nil))) (xs:=(AC 7).map λ(t:Nat)=>[.int (1+t*1)])
  (e:=⟨[some (NI x),some (.int 1),some (NI x),none],none⟩)
  (λt e=>∃a:Option Vl,e=⟨[some (NI x),some (NI (Rq x t)),some (NI (Rp x t)),a],none⟩)
  ⟨_,rfl⟩ λt w e j ⟨a,he⟩=>by subst he;obtain⟨o,rfl⟩:=bf j;refine⟨rfl,_,?_,some (.int (1+t*1)),rfl⟩;rw[Rq,Rp];simp_all? [mq _ _ _ (Ni c t),mq _ _ _ (Nj c t)]
 have q:(1:Int).natAbs<=b6/\(8:Int).natAbs<=b6:=by decide
 have r:((8:Int)-1).toNat=7:=rfl;have e:Rq x 7=SC x:=by rw[xE x c];exact(Nk x 7 0).symm
 rw[ah];simp_all? [x1,l0,q,r,h,e]
def Qd(w x j)(o:j<8)(c:x<256):pc (w/2^(56-8*j)&&&x)=On 8 ((w/256^(7-j) % 256)&&&x):=by
 have e:w/2^(56-8*j)&&&x=(w/256^(7-j) % 256)&&&x:=by rw[show(256)^(7-j)=2^(56-8*j) by rw[show(256)=2^8 from rfl,<-Nat.pow_mul];congr 1;lia];apply q7;intro b;rw[jM,jM,show(256)=2^8 from rfl,yL];by_cases h:b<8;simp[h];have:x.testBit b=false:=pZ (bw c (fh (n:=2) (by decide) (by lia:8<=b)));rw[this];simp
 rw[e,yB 8];exact we wv c
def BU(n x w)(o:x<256)(H:w<2^64)(M):C (n+2) .sQ [NI x,NI w] M=some (NI (IR 8 λj=>On 8 ((w/256^(7-j) % 256)&&&x) % 2==1),false,M):=by
 have q:(8:Int).natAbs<=b6:=by decide
 have r:(8:Int).toNat=8:=rfl;have c:=jd n 8 (λj=>NI (On 8 ((w/256^(7-j) % 256)&&&x) % 2)) (λj=>On 8 ((w/256^(7-j) % 256)&&&x) % 2==1) (by decide) (λj _=>by rw[BN];rcases tJ (On 8 ((w/256^(7-j) % 256)&&&x))with h|h<;>rw[h]<;>rfl) M;rw[ah];simp_all? [KH,wO,q,r];rw[aM (h:=λj=>NI (On 8 ((w/256^(7-j) % 256)&&&x) % 2))];simp_all? [c];intro j s;have u:binI .mul 8 (j)=some ((8*j:Nat):Int):=qQ (a:=8) (.inl (by decide));have B:binI .sub 56 ((8*j:Nat):Int)=some ((56-8*j:Nat):Int):=so (a:=56) (by lia);have E:∀y:Nat,binI .mod (y) 2=some ((y % 2:Nat):Int):=λy=>gj (b:=2) (by decide);have G:w/2^(56-8*j)&&&x<2^256:=we wv (by lia);simp_all? [cZ,u,B,iJ,jc,qC _ _ G,Qd w x j s o,E]
def xl(w x c):pp w x (c % 256)=(IR 8 λj=>On 8 ((w/256^(7-j) % 256)&&&x) % 2==1)^^^(c % 2^8):=by have e:pp w x (c % 256)=IR 8 λj=>(On 8 ((w/256^(7-j) % 256)&&&x) % 2==1) !=bit (c % 256) j:=rfl;rw[e];apply q7;intro j;rw[em,eE,eE,cj,show(256)=2^8 from rfl,yL];by_cases h:j<8;simp[h];simp[h]
def BV(w x c):pp w x (c % 256)<2^8:=by rw[xl];exact rb (mY _ _) (aw _ (by decide))
def aam(i)(h:d6 i)(s):Mk .transform 8 (Ch 8 λj=>pp (lane 64 (s.v i.b) (j/8)) (lane 8 (s.v i.a) j) (i.z.toNat % 256)) i s:=by refine Mk.of (f:=λj=>pp (lane 64 (s.v i.b) (j/8)) (lane 8 (s.v i.a) j) (i.z.toNat % 256)) (fr:=true) (λn=> ?_) (λj r=>(aq (BV _ _ _)).symm);have c:=pd (n+4) (.ko .ee [.ord (ag i)]) (λx w=>pp w x (i.z.toNat % 256)) false i h s (λx w o q=>by rw[bL];simp only[dt];rw[ah];simp_all? [x2,l5,ag,BU _ x w o q,Ng,tV,xl]);simp only[ag]at c;rw[ah];simp_all? [ES,rV,ag,c]
def aan(i)(o:d6 i)(s):Mk .cW 8 (Ch 8 λj=>pp (lane 64 (s.v i.b) (j/8)) (SC (lane 8 (s.v i.a) j)) (i.z.toNat % 256)) i s:=by
 refine Mk.of (f:=λj=>pp (lane 64 (s.v i.b) (j/8)) (SC (lane 8 (s.v i.a) j)) (i.z.toNat % 256)) (fr:=true) (λn=> ?_) (λj u=>(aq (BV _ _ _)).symm);have h:=pd (n+4) (.ko .bh [.ord (ag i)]) (λx w=>pp w (SC x) (i.z.toNat % 256)) false i o s (λx w c q=>by
  have r:SC x<256:=by rw[xE x c,Jo x c];exact vT x c
  rw[bL];simp only[dt];rw[ah];simp_all? [pM,fY,ag,yg _ x c,BU _ (SC x) w r q,Ng,tV,xl])
 simp only[ag]at h;rw[ah];simp_all? [ts,iR,ag,h]
theorem sy:∀(r:gd) (x:Nat),(r.map λ(t:Nat)=>(t:Int)).foldl (λa b=>if b<a then b else a) (x:Int)=((r.foldl min x:Nat):Int)
 |[],x=>rfl
 |y::r,x=>by
  simp only[bI,sD];have:(if(y)<(x:Int)then(y:Int)else(x))=((min x y:Nat):Int):=by split<;>lia
  rw[this,sy r (min x y)]
def KZ(x:Nat)(r:gd)(c:x<=65535):oK ((x::r).map λ(t:Nat)=>(t:Int))=some (((x::r).foldl min 65535:Nat):Int):=by simp only[bI,oK,sy,sD];rw[show min 65535 x=x by lia]
theorem tZ:∀(r:gd) (x:Nat),r.foldl min x∈x::r
 |[],x=>by simp
 |y::r,x=>by have:=tZ r (min x y);simp only[sD,aA]at this|-;rcases this with h|h;rw[h];rcases Nat.le_total x y with c|c;left;lia;right;left;lia;exact .inr (.inr h)
theorem uQ(y:Nat):∀l:gd,jW (y) (l.map λ(t:Nat)=>(t))=l.findIdx? (λt=>t==y)
 |[]=>rfl
 |x::l=>by
  simp only[bI,jW,TW,uQ y l];by_cases h:x=y;subst h;simp;have c:¬(x)=(y:Int):=by lia
  rw[ab c];have:(x==y)=false:=by simpa using h
  rw[this];rfl
def aao(i:Ins)(M:d6 i)(s):Mk .dU 64 (least (s.v i.a)) i s:=by
 refine⟨λj=>lane 64 (least (s.v i.a)) j,true,λn=> ?_,λj E _=>rfl⟩;let l:=λq=>(AC 8).map λj=>lane 16 (s.v i.a) (8*q+j);let x:=λq=>(l q).foldl min 65535;have c:∀q,l q=lane 16 (s.v i.a) (8*q)::((AC 7).map λj=>lane 16 (s.v i.a) (8*q+(j+1))):=λq=>by show(AC 8).map _=_;rw[FV,bI,bY];rfl
 have o:∀q,lane 16 (s.v i.a) (8*q)<=65535:=λq=>by have:=ay 16 (s.v i.a) (8*q);lia
 have r:∀q,x q∈l q:=λq=>by show(l q).foldl min 65535∈l q;rw[c q,sD,show min 65535 (lane 16 (s.v i.a) (8*q))=lane 16 (s.v i.a) (8*q) by have:=o q;lia];exact tZ _ _
 have u:∀q,x q<65536:=λq=>by have:=r q;simp only[l,iu]at this;obtain⟨j,_,E⟩:=this;rw[<-E];exact ay 16 _ _
 have B:∀q,∃t,(l q).findIdx? (λy=>y==x q)=some t/\t<8:=λq=>by
  cases h:(l q).findIdx? (λy=>y==x q)with
  |none=>
   rw[jp]at h;have:=h _ (r q);simp at this
  |some t=>
   refine⟨t,rfl,?_⟩;have:=(List.findIdx?_eq_some_iff_getElem.mp h).1;simpa [l] using this
 have G:∀q,oK ((AC 8).map λj=>(lane 16 (s.v i.a) (q*8+j):Int))=some ((x q):Int):=λq=>by have h:=KZ (lane 16 (s.v i.a) (8*q)) ((AC 7).map λj=>lane 16 (s.v i.a) (8*q+(j+1))) (o q);rw[<-c q]at h;rw[<-h,cJ q 8];rw[bY];rfl
 have H:∀q,jW ((x q):Int) ((AC 8).map λj=>(lane 16 (s.v i.a) (q*8+j):Int))=(l q).findIdx? (λy=>y==x q):=λq=>by rw[<-uQ,cJ q 8];rw[bY];rfl
 have O:=pT (n+10) 8 2 (lanes 16) (lanes 64) (λj=>NI (lane 16 (s.v i.a) j)) (λj=>NI (lane 16 (s.v i.b) j)) (λq j=>NI (if j=0 then x q+((l q).findIdx? (λy=>y==x q)).getD 0*65536 else 0)) (.ko .bg []) (some (ak s)) (by decide) (by decide) (by decide) (by decide) true rfl rfl (λq U=>by
  obtain⟨t,J,L⟩:=B q;have P:binI .shl (t:Int) 16=some ((t*2^16:Nat):Int):=ke (b:=16) (by decide) (by lia);have Q:x q|||t*2^16=x q+2^16*t:=by rw[pr];exact qD (u q)
  rw[bL];simp only[dt];rw[ah];simp_all? [pL,fX,kd,Uf,G q,H q,J,sB,P,uM,Q];rw[show(2^16*t)=t*65536 by lia];rfl)
 rw[ah];simp_all? [vG,j6,ag,vS _ _ M.a,vS _ _ M.b,O];refine Ak λj E=> ?_;unfold least;rw[k_ E];obtain⟨t,J,L⟩:=B (j/2);show NI (if j % 2=0 then x (j/2)+((l (j/2)).findIdx? (λy=>y==x (j/2))).getD 0*65536 else 0)=NI (lane 64 ((x (j/2)+((l (j/2)).findIdx? (λy=>y==x (j/2))).getD 0*65536) % 2^128) (j % 2));rw[J];simp only[UV];have:=u (j/2);generalize x (j/2)=y at this;rw[aq (show y+t*65536<2^128 by lia)];unfold lane;by_cases h:j % 2=0;rw[ae h,h];simp only[XV,sL,u4];rw[aq (by lia)];rw[ab h,show j % 2=1 by lia];simp only[og];rw[lL (by lia)]
def Rr(c:F)(N:Nat)(g:Nat->Bool)(i:Ins)(s:Sg40.Machine):Prop:=∃fr:Bool,∀n,C (n+12) c [.ord (ag i),.d5] (some (ak s))=some (LF N λj=>BI (g j),fr,some (ak s))
def Qe(n h:Nat)(x y:Int)(M:gc):C (n+1) .D6 [NI (h % 4),.int x,.int y] M=some (BI (match h % 4 with|0=>x==y|1=>decide (x<y)|2=>decide (x<=y)|_=>false),false,M):=by
 have r:h % 4=0\/h % 4=1\/h % 4=2\/h % 4=3:=by lia
 have s:dj .eq x y=(x==y):=by simp only[dj];rfl
 have u:dj .lt x y=decide (x<y):=rfl;have o:dj .le x y=decide (x<=y):=rfl;rw[ah];rcases r with h|h|h|h<;>rw[h];have c:dj .eq ((0:Nat):Int) 0=true:=rfl;simp_all? [yA,sV,c,s];have c:dj .eq ((1:Nat):Int) 0=false:=rfl;have j:dj .eq ((1:Nat):Int) 1=true:=rfl;simp_all? [yA,sV,c,j,u];have c:dj .eq ((2:Nat):Int) 0=false:=rfl;have j:dj .eq ((2:Nat):Int) 1=false:=rfl;have q:dj .eq ((2:Nat):Int) 2=true:=rfl;simp_all? [yA,sV,c,j,q,o];have c:dj .eq ((3:Nat):Int) 0=false:=rfl;have j:dj .eq ((3:Nat):Int) 1=false:=rfl;have q:dj .eq ((3:Nat):Int) 2=false:=rfl;simp_all? [yA,sV,c,j,q]
def Nl(m:Nat)(a b:Int):holds m a b=((match m % 4 with|0=>a==b|1=>decide (a<b)|2=>decide (a<=b)|_=>false) !=bit m 2):=by
 have c:∀x:Bool,(if m/4 % 2=1 then !x else x)=(x !=(m/4 % 2==1)):=λx=>by rcases tJ (m/4)with h|h<;>simp[h]
 exact c _
def Aq(n N:Nat)(f g:Nat->Int)(i:Ins)(r:N<=1000)(M:gc):C (n+2) .fU [.ord (ag i),LI N f,LI N g] M=some (LF N λj=>BI (holds i.z.toNat (f j) (g j)),true,M):=by
 have c:N<=b6:=by simp only[b6];lia
 have o:C (n+1) .c7 [NI i.z.toNat,.int 2] M=some (BI (bit i.z.toNat 2),false,M):=et n i.z.toNat 2 M;have q:binI .mod (i.z.toNat:Int) 4=some ((i.z.toNat % 4:Nat):Int):=gj (b:=4) (by decide);rw[ah];simp_all? [xf,kT,ag,o,ji,c];rw[aM (h:=λj=>BI (holds i.z.toNat (f j) (g j)))];rfl;intro j s;simp_all? [cZ,q,Qe,Nl]
def aap(i:Ins)(c:d6 i)(s:Sg40.Machine):Rr .compare (lanes i.k) (λj=>holds i.z.toNat (lane i.k (s.v i.a) j) (lane i.k (s.v i.b) j)) i s:=by have h:=c.k;have q:=h.le64;refine⟨true,λn=> ?_⟩;have o:=Aq (n+9) (lanes i.k) (λj=>(lane i.k (s.v i.a) j:Int)) (λj=>(lane i.k (s.v i.b) j:Int)) i (by lia) (some (ak s));simp only[ag]at o;rw[ah];simp_all? [KJ,wR,ag,aj (n+8) _ i.k c.a h,aj (n+8) _ i.k c.b h,o]
def aaq(i:Ins)(o:d6 i)(s:Sg40.Machine):Rr .fV (lanes i.k) (λj=>holds i.z.toNat (AT i.k (lane i.k (s.v i.a) j)) (AT i.k (lane i.k (s.v i.b) j))) i s:=by
 have h:=o.k;have y:=h.le64;refine⟨true,λn=> ?_⟩;have q:=Aq (n+9) (lanes i.k) (λj=>AT i.k (lane i.k (s.v i.a) j)) (λj=>AT i.k (lane i.k (s.v i.b) j)) i (by lia) (some (ak s));have r:∀a b c d:Option Vl,wD (cZ T (C (n+11)) ⟨[some (.ord (ag i)),some .d5,a,b,c,d],none⟩ (some (ak s)) [4] (.call .signed (.cons (.v 4) (.cons (.aK (.v 0) .k) .nil)))) ((AC (lanes i.k)).map λj=>[NI (lane i.k (s.v i.a) j)])=some ((AC (lanes i.k)).map λj=>.int (AT i.k (lane i.k (s.v i.a) j))):=λa b c d=>aM λj B=>by simp_all? [cZ,ag,bu _ _ i.k h.one h.bb (ay i.k (s.v i.a) j)]
 have u:∀a b c d:Option Vl,wD (cZ T (C (n+11)) ⟨[some (.ord (ag i)),some .d5,a,b,c,d],none⟩ (some (ak s)) [5] (.call .signed (.cons (.v 5) (.cons (.aK (.v 0) .k) .nil)))) ((AC (lanes i.k)).map λj=>[NI (lane i.k (s.v i.b) j)])=some ((AC (lanes i.k)).map λj=>.int (AT i.k (lane i.k (s.v i.b) j))):=λa b c d=>aM λj B=>by simp_all? [cZ,ag,bu _ _ i.k h.one h.bb (ay i.k (s.v i.b) j)]
 simp only[ag]at q r u;rw[ah];simp_all? [xg,kU,ag,aj (n+8) _ i.k o.a h,aj (n+8) _ i.k o.b h,aO h,r,u,q]
def Xl(a:Nat):dj .ne (a:Int) 0=(a !=0):=by simp only[dj];by_cases h:a=0;subst h;rfl;rw[b9 (by lia),bne_iff_ne.mpr h];rfl
def Jp(n:Nat)(i:Ins)(c:d6 i)(s:Sg40.Machine):C (n+4) .gg [.ord (ag i),.d5] (some (ak s))=some (LF (lanes i.k) λj=>BI ((lane i.k (s.v i.a) j&&&lane i.k (s.v i.b) j) !=0),true,some (ak s)):=by have o:=c.k;rw[ah];simp_all? [A8,oZ,ag,aj n _ i.k c.a o,aj n _ i.k c.b o,ji,aO o];rw[aM (h:=λj=>BI ((lane i.k (s.v i.a) j&&&lane i.k (s.v i.b) j) !=0))];rfl;intro j q;simp_all? [cZ,jc,Xl]
def aar(i:Ins)(c:d6 i)(s:Sg40.Machine):Rr .gg (lanes i.k) (λj=>(lane i.k (s.v i.a) j&&&lane i.k (s.v i.b) j) !=0) i s:=⟨true,λn=>Jp (n+8) i c s⟩
def aas(i:Ins)(c:d6 i)(s:Sg40.Machine):Rr .iE (lanes i.k) (λj=>(lane i.k (s.v i.a) j&&&lane i.k (s.v i.b) j)==0) i s:=by have q:=c.k;refine⟨true,λn=> ?_⟩;have o:=Jp (n+7) i c s;simp only[ag]at o;rw[ah];simp_all? [z8,nz,ag,o,aO q];rw[aM (h:=λj=>BI ((lane i.k (s.v i.a) j&&&lane i.k (s.v i.b) j)==0))];rfl;intro j r;simp_all? [cZ];congr 2;cases h:(lane i.k (s.v i.a) j&&&lane i.k (s.v i.b) j)==0<;>simp[bne,h]
def aat(i:Ins)(o:d6 i)(s:Sg40.Machine):Rr .iF (lanes i.k) (λj=>bit (lane i.k (s.v i.a) j) (i.k-1)) i s:=by have c:=o.k;have q:binI .sub (i.k:Int) 1=some ((i.k-1:Nat):Int):=so (b:=1) c.one;refine⟨true,λn=> ?_⟩;rw[ah];simp_all? [z9,nA,ag,aj (n+8) _ i.k o.a c,aO c];rw[aM (h:=λj=>BI (bit (lane i.k (s.v i.a) j) (i.k-1)))];rfl;intro j r;simp_all? [cZ,q,et]
def aau(i:Ins)(h:d6 i)(s:Sg40.Machine):Rr .eB 64 (λj=>bit (lane 64 (s.v i.b) (j/8)) (lane 8 (s.v i.a) j % 64)) i s:=by refine⟨true,λn=> ?_⟩;have c:=Ao (n+4) (.ko .bX []) (λx w=>bit w (x % 64)) false i h s (λx w q r=>by have o:binI .mod (x:Int) 64=some ((x % 64:Nat):Int):=gj (b:=64) (by decide);rw[bL];simp only[dt];rw[ah];simp_all? [sh,iq,o,et]);simp only[ag]at c;rw[ah];simp_all? [xh,kW,ag,c];rfl
def G_(a b:Nat):(a|||b)+(a&&&b)=a+b:=by
 induction a using Re generalizing b with
 |ind a q=>
  by_cases r:a=0;subst r;simp;have h:=q (a/2) (by lia) (b/2);have s:=n8 (a&&&b) 2;have u:=n8 (a|||b) 2;rw[yp]at s;rw[_H]at u;have y:(a|||b) % 2+(a&&&b) % 2=a % 2+b % 2:=by have c:=wd (a:=a) (b:=b) (n:=1);have j:=T0 (a:=a) (b:=b) (n:=1);simp only[u5]at c j;rw[c,j];rcases tJ a with o|o<;>rcases tJ b with c|c<;>rw[o,c]<;>rfl
  lia
def not_and(c:x<2^k)(q:y<2^k):(2^k-1-x)&&&y=y-(y&&&x):=by
 have o:2^k-1-x=2^k-(x+1):=by lia
 have r:((2^k-1-x)&&&y)|||(y&&&x)=y:=by apply q7;intro j;rw[_G,jM,jM,o,f8 c];by_cases s:j<k;simp only[s,decide_true];cases x.testBit j<;>cases y.testBit j<;>rfl;have:y.testBit j=false:=pZ (bw q (fh (by decide) (by lia)));rw[this];simp
 have u:((2^k-1-x)&&&y)&&&(y&&&x)=0:=by apply q7;intro j;rw[jM,jM,jM,o,f8 c,wf];cases x.testBit j<;>cases y.testBit j<;>simp
 have h:=G_ ((2^k-1-x)&&&y) (y&&&x);rw[r,u]at h;lia
def Nm(x:Nat):lB (x)=P6 x:=by unfold lB;lia
def BW(x y:Nat):binI .and (lB (x)) (y)=some ((y-(y&&&x):Nat):Int):=by rw[Nm];show some ((y:Int)-((y&&&x:Nat):Int))=_;have:y&&&x<=y:=ga;congr 1;lia
def kh(n d)(i)(c:Wd i.k)(s):C (n+3) .ej [NI d,.ord (ag i),.d5] (some (ak s))=some (NI (s.p (d % 8) % 2^i.k),false,some (ak s)):=by rw[ah];simp_all? [EJ,rN,ag,cI,g7 _ _ i.k c.bb]
def Pp(f:F)(c:Nat):Prop:=du .aR (c:Int)=some f/\∀(n x y:Nat) (i:Ins) (h j:Nat) (M:gc),d6 i->x=h % 2^i.k->y=j % 2^i.k->∃z:Int,C (n+5) f [NI x,NI y,.ord (ag i)] M=some (.int z,false,M)/\some (FS i.k z)=logic c i.k h j i.z
def Xm:Pp .dD 90:=⟨rfl,λn x y i j o M q c h=>by refine⟨((x&&&y:Nat):Int),?_,?_⟩;rw[ah];simp_all? [wV,kG,jc];subst c;subst h;rw[ba,aq (yS _ (aw _ (tp _)))];rfl⟩
def Xn:Pp .d9 91:=⟨rfl,λn x y i j o M q c h=>by refine⟨((x|||y:Nat):Int),?_,?_⟩;rw[ah];simp_all? [xQ,lQ,uM];subst c;subst h;rw[ba,aq (Cc (aw _ (tp _)) (aw _ (tp _)))];rfl⟩
def Xo:Pp .bz 92:=⟨rfl,λn x y i j o M q c h=>by refine⟨((x^^^y:Nat):Int),?_,?_⟩;rw[ah];simp_all? [qu,gr,tV];subst c;subst h;rw[ba,aq (rb (aw _ (tp _)) (aw _ (tp _)))];rfl⟩
def Xp:Pp .kB 93:=⟨rfl,λn x y i j o M q c h=>by refine⟨lB ((x^^^y:Nat):Int),?_,?_⟩;rw[ah];simp_all? [C3,qo,tV];subst c;subst h;rw[uP (rb (aw _ (tp _)) (aw _ (tp _)))];rfl⟩
def Xq:Pp .bS 94:=⟨rfl,λn x y i q r M s c h=>by
 refine⟨((y-(y&&&x):Nat):Int),?_,?_⟩;rw[ah];simp_all? [rY,ia,BW];have j:x<2^i.k:=by rw[c];exact aw _ (tp _)
 have o:y<2^i.k:=by rw[h];exact aw _ (tp _)
 rw[ba,aq (by lia),<-not_and j o,c,h];rfl⟩
def Xr:Pp .pC 95:=⟨rfl,λn x y i h j M o c q=>by refine⟨lB (x),?_,?_⟩;rw[ah];simp_all? [GS,uq];subst c;rw[uP (aw _ (tp _))];rfl⟩
def Xs:Pp .jy 96:=⟨rfl,λn x y i j o M q c h=>by refine⟨((x+y:Nat):Int),?_,?_⟩;rw[ah];simp_all? [EH,rL,gh];subst c;subst h;rw[ba];rfl⟩
def Xu:Pp .cC 97:=⟨rfl,λn x y i j s M o c u=>by
 have q:x<2^i.k:=by rw[c];exact aw _ (tp _)
 have B:i.z.toNat % 256<256:=aw _ (by decide);have r:binI .mod (i.z.toNat:Int) 256=some ((i.z.toNat % 256:Nat):Int):=gj (b:=256) (by decide);refine⟨((x*2^(i.z.toNat % 256):Nat):Int),?_,?_⟩;rw[ah];simp_all? [uE,jq,ag,r,ke (show i.z.toNat % 256<=100000 by lia) (M5 o.k q)];rw[ba];show _=some (if i.z.toNat % 256<i.k then j % 2^i.k*2^(i.z.toNat % 256) % 2^i.k else 0);rw[c];split;rfl;rename_i h;rw[Nat.mod_eq_zero_of_dvd];exact Nat.dvd_trans (Nat.pow_dvd_pow 2 (by lia)) (Nat.dvd_mul_left _ _)⟩
def Xv:Pp .b_ 98:=⟨rfl,λn x y i o r M s c u=>by
 have j:x<2^i.k:=by rw[c];exact aw _ (tp _)
 have q:binI .mod (i.z.toNat:Int) 256=some ((i.z.toNat % 256:Nat):Int):=gj (b:=256) (by decide);refine⟨((x/2^(i.z.toNat % 256):Nat):Int),?_,?_⟩;rw[ah];simp_all? [tj,iO,ag,q,iJ];rw[ba,aq (we (uY _ _) j)];show _=some (if i.z.toNat % 256<i.k then o % 2^i.k/2^(i.z.toNat % 256)else 0);split;rw[c];rename_i h;rw[lL (bw j (fh (by decide) (by lia)))]⟩
def Xw:Pp .mK 99:=⟨rfl,λn x y i j o M q r s=>by
 have c:=q.k;have L:=c.le;have u:2*(i.k/2)=i.k:=by rcases c with h|h|h|h<;>rw[h]
 have B:binI .fdiv (i.k:Int) 2=some ((i.k/2:Nat):Int):=iW (b:=2) (by decide) (by decide);have E:x % 2^(i.k/2)<2^200:=bw (aw _ (tp _)) (fh (by decide) (by lia));refine⟨((y % 2^(i.k/2)+2^(i.k/2)*(x % 2^(i.k/2)):Nat):Int),?_,?_⟩;rw[ah];simp_all? [EI,rM,ag,B,g7 _ _ (i.k/2) (show i.k/2<=1000 by lia),ke (show i.k/2<=100000 by lia) E,uM,qD (aw y (tp (i.k/2)))];have G:y % 2^(i.k/2)+2^(i.k/2)*(x % 2^(i.k/2))<2^i.k:=by have O:=aw y (tp (i.k/2));have H:=aw x (tp (i.k/2));have J:2^(i.k/2)*(x % 2^(i.k/2)+1)<=2^(i.k/2)*2^(i.k/2):=F1 _ H;rw[<-eV,show i.k/2+i.k/2=i.k by lia,ZB]at J;lia
 rw[ba,aq G];subst r;subst s;show _=some (j % 2^i.k % 2^(i.k/2)*2^(i.k/2)+o % 2^i.k % 2^(i.k/2));rw[fD,cJ]⟩
def Bd(h:Pp f op)(i)(j:d6 i)(J:i.op=op)(s):∃y,logic i.op i.k (s.p (i.a % 8)) (s.p (i.b % 8)) i.z=some y/\E5 .eO i s (Tl s i.d y):=by
 have o:=j.k;subst J;obtain⟨L,B⟩:=h;obtain⟨q,_,c⟩:=B 0 _ _ i (s.p (i.a % 8)) (s.p (i.b % 8)) none j rfl rfl;refine⟨FS i.k q,c.symm,λn=>⟨.cw,false,?_⟩⟩;obtain⟨z,E,r⟩:=B (n+8) _ _ i (s.p (i.a % 8)) (s.p (i.b % 8)) (some (ak s)) j rfl rfl;have u:FS i.k z=FS i.k q:=by have:=r.trans c.symm;exact jN this
 have G:=kh (n+10) i.a i o s;have H:=kh (n+10) i.b i o s;have M:=gI (n+12) i.d (FS i.k q) s;have O:T.kq .aR (i.op:Int)=some f:=L;simp only[ag]at G H E;rw[ah];simp_all? [vB,jY,ag,O,jL,G,H,E,lF _ _ i.k o.bb,u,M]
def Fb(n N:Nat)(f g:Nat->Nat)(s:N<=1000)(M:gc):C (n+2) .iv [LF N λj=>NI (f j),LF N λj=>NI (g j)] M=some (NI (IR N λj=>(AC N).any λq=>f j==g q),false,M):=by
 have u:N<=b6:=by simp only[b6];lia
 have c:=jd n N (λj=>BI ((AC N).any λq=>f j==g q)) (λj=>(AC N).any λq=>f j==g q) s (λ_ _=>rfl) M;rw[ah];simp_all? [zV,ng,u];rw[aM (h:=λj=>BI ((AC N).any λq=>f j==g q))];simp_all? [c];intro j y;have e:decide ((f j:Int)∈(AC N).map λq=>(g q:Int))=(AC N).any λq=>f j==g q:=by rw[nY,p5,am,iu];constructor;rintro⟨q,o,r⟩;exact⟨q,o,by simp;lia⟩;rintro⟨q,o,r⟩;refine⟨q,o,?_⟩;simp at r;lia
 simp_all? [cZ,kd,e]
def aav(i:Ins)(c:d6 i)(s:Sg40.Machine):E5 .mL i s (Tl (Tl s (i.d/2*2) (IR (lanes i.k) λj=>(AC (lanes i.k)).any λq=>lane i.k (s.v i.a) j==lane i.k (s.v i.b) q)) (i.d/2*2+1) (IR (lanes i.k) λj=>(AC (lanes i.k)).any λq=>lane i.k (s.v i.b) j==lane i.k (s.v i.a) q)):=by have h:=c.k;have o:=h.le64;intro n;refine⟨.cw,false,?_⟩;have r:binI .fdiv (i.d:Int) 2=some ((i.d/2:Nat):Int):=iW (b:=2) (by decide) (by decide);have u:binI .mul ((i.d/2:Nat):Int) 2=some ((i.d/2*2:Nat):Int):=qQ (b:=2) (.inr (by decide));have y:binI .add ((i.d/2*2:Nat):Int) 1=some ((i.d/2*2+1:Nat):Int):=gh _ 1;rw[ah];simp_all? [EK,rO,ag,aj (n+10) _ i.k c.a h,aj (n+10) _ i.k c.b h,r,u,y,Fb _ (lanes i.k) _ _ (show lanes i.k<=1000 by lia),gI]
def Xx(i:Ins)(c:d6 i)(s:Sg40.Machine):E5 .cX i s (setX s i.d (s.p (i.a % 8) % 2^i.k)):=by have h:=c.k;intro n;refine⟨.cw,false,?_⟩;have j:=kh (n+10) i.a i h s;have o:=iH (n+10) i.d ((s.p (i.a % 8) % 2^i.k:Nat):Int) c.d s;rw[ba,aq (bw (aw _ (tp _)) h.Oh)]at o;simp only[ag]at j;rw[ah];simp_all? [qV,gX,ag,j,o]
def Xy(i:Ins)(c:d6 i)(s:Sg40.Machine):E5 .cY i s (Tl s i.d (s.x i.a % 2^i.k)):=by have h:=c.k;intro n;refine⟨.cw,false,?_⟩;rw[ah];simp_all? [qW,gY,ag,cT _ i.a c.a,g7 _ _ i.k h.bb,gI]
def Xz(a:Nat):dj .eq (a:Int) 0=(a==0):=by simp only[dj];by_cases h:a=0;subst h;rfl;rw[b9 (by lia)];simp[h]
def XA(a b:Nat):dj .eq (a:Int) (b:Int)=(a==b):=by simp only[dj];by_cases h:a=b;subst h;simp;rw[b9 (by lia)];simp[h]
def XB(i:Ins)(q:d6 i)(s:Sg40.Machine):E5 .eP i s {s with z:=(s.p (i.a % 8)|||s.p (i.b % 8)) % 2^i.k==0,c:=(s.p (i.a % 8)|||s.p (i.b % 8)) % 2^i.k==2^i.k-1}:=by have h:=q.k;intro n;refine⟨.cw,false,?_⟩;have j:=kh (n+10) i.a i h s;have o:=kh (n+10) i.b i h s;simp only[ag]at j o;rw[ah,T0];simp_all? [vC,jZ,ag,j,o,uM,Xz,sr _ i.k h.bb,XA,oz]
def XC(i:Ins)(r:d6 i)(s:Sg40.Machine):E5 .gK i s {s with z:=(s.p (i.a % 8)&&&s.p (i.b % 8)) % 2^i.k==0,c:=((2^i.k-1-s.p (i.a % 8) % 2^i.k)&&&s.p (i.b % 8)) % 2^i.k==0}:=by
 have h:=r.k;intro n;refine⟨.cw,false,?_⟩;have j:=kh (n+10) i.a i h s;have o:=kh (n+10) i.b i h s;have q:=tp i.k;have e:((2^i.k-1-s.p (i.a % 8) % 2^i.k)&&&s.p (i.b % 8)) % 2^i.k=s.p (i.b % 8) % 2^i.k-(s.p (i.b % 8) % 2^i.k&&&s.p (i.a % 8) % 2^i.k):=by rw[wd,aq (show 2^i.k-1-s.p (i.a % 8) % 2^i.k<2^i.k by lia),not_and (aw _ q) (aw _ q)]
 simp only[ag]at j o;rw[ah,e,wd];simp_all? [xR,lR,ag,j,o,jc,Xz,BW,oz]
def Qg(x:Nat)(s:x≠0):∃t,x-(x&&&(x-1))=2^t/\x.testBit t=true/\∀j,j<t->x.testBit j=false:=by
 induction x using Re with
 |ind x c=>
  have m:=wd (a:=x) (b:=x-1) (n:=1);simp only[u5]at m;have e:=n8 (x&&&(x-1)) 2;rw[yp]at e;rcases tJ x with h|h;obtain⟨t,u,o,q⟩:=c (x/2) (by lia) (by lia);refine⟨t+1,?_,?_,?_⟩;rw[h,_Q]at m;rw[show(x-1)/2=x/2-1 by lia]at e;have:x/2&&&(x/2-1)<=x/2:=ga;rw[qb];lia;rw[wn];exact o;intro j r;cases j with
  |zero=>rw[wl];simp[h]
  |succ j=>rw[wn];exact q j (by lia)
  refine⟨0,?_,?_,λj r=>by lia⟩;rw[show(x-1)/2=x/2 by lia,_V]at e;rw[h,show(x-1) % 2=0 by lia]at m;simp at m;simp;lia;rw[wl];simp[h]
def XD(i:Ins)(u:d6 i)(s:Sg40.Machine):E5 .eQ i s (setX s i.d (((AC i.k).find? (bit (s.p (i.a % 8)))).getD i.k)):=by
 have J:=u.k;intro n;refine⟨.cw,false,?_⟩;have y:=kh (n+10) i.a i J s;have c:∀j,j<i.k->bit (s.p (i.a % 8)) j=(s.p (i.a % 8) % 2^i.k).testBit j:=λj o=>by rw[cj,yL];simp[o]
 have B:s.p (i.a % 8) % 2^i.k<2^i.k:=aw _ (tp _);generalize Q:s.p (i.a % 8) % 2^i.k=x at*;have L:=J.le;simp only[ag]at y;rw[ah];by_cases E:x=0;have G:((AC i.k).find? (bit (s.p (i.a % 8))))=none:=by rw[yQ];intro j o;rw[c j (dw.mp o),E];simp
 have e:((x:Int) !=0)=false:=by rw[E];rfl
 have q:=iH (n+10) i.d (i.k:Int) u.d s;rw[ba,aq (show i.k<2^64 by lia)]at q;rw[G];simp_all? [ox,hI,ag,y,e,q,yk];obtain⟨t,U,h,H⟩:=Qg x E;have r:t<i.k:=by apply Decidable.byContradiction;intro X;rw[pZ (bw B (fh (by decide) (by lia)))]at h;cases h
 have G:((AC i.k).find? (bit (s.p (i.a % 8))))=some t:=by rw[B4];refine⟨by rw[c t r,h],by simpa using r,λj o=> ?_⟩;rw[c j (by lia),H j o];rfl
 have e:((x:Int) !=0)=true:=bne_iff_ne.mpr (by lia);have M:binI .and (x:Int) (-(x:Int))=some ((2^t:Nat):Int):=by
  have: -(x:Int)=P6 (x-1):=by lia
  rw[this];show some ((x:Int)-((x&&&(x-1):Nat):Int))=_;have Y:x&&&(x-1)<=x:=ga;congr 1;lia
 have O:rk ((2^t:Nat):Int)=((t+1:Nat):Int):=by rw[E1,ab (by have:=tp t;lia),Nat.log2_two_pow];rfl
 have P:binI .sub ((t+1:Nat):Int) 1=some (t:Int):=so (b:=1) (by lia);have q:=iH (n+10) i.d (t:Int) u.d s;rw[ba,aq (show t<2^64 by lia)]at q;rw[G];simp_all? [ox,hI,ag,y,e,M,O,P,q,UV]
def XE(i:Ins)(h:d6 i)(s:Sg40.Machine):E5 .pD i s (setX s i.d (On i.k (s.p (i.a % 8)))):=by
 have o:=h.k;have q:=o.le;intro n;refine⟨.cw,false,?_⟩;have r:=kh (n+10) i.a i o s;have c:s.p (i.a % 8) % 2^i.k<2^i.k:=aw _ (tp _);have B:On i.k (s.p (i.a % 8))=pc (s.p (i.a % 8) % 2^i.k):=by rw[<-yB i.k _ c];unfold On;congr 1;apply List.filter_congr;intro j u;rw[dw]at u;rw[cj,cj,yL];simp[u]
 have hpl:=Jj i.k _ c;have y:=iH (n+10) i.d (pc (s.p (i.a % 8) % 2^i.k):Int) h.d s;rw[ba,aq (show pc (s.p (i.a % 8) % 2^i.k)<2^64 by lia)]at y;rw[B];simp only[ag]at r;rw[ah];simp_all? [GU,ur,ag,r,qC _ _ (bw c (fh (by decide) (show i.k<=256 by lia))),y]
abbrev TX(l v:Nat):Vl:=LF l λj=>NI (lane 8 v j)
def t7(n)(g)(c:n<=16):IR n g=IR 16 λj=>decide (j<n)&&g j:=by
 apply q7;intro j;rw[eE,eE];by_cases h:j<n;have:j<16:=by lia
 simp[this];simp[h]
def q_0(n a b c o)(u:o<=16)(M):∃N g,N<=16/\C (n+3) .among [TX c a,TX o b] M=some (LF N λj=>BI (g j),true,M)/\IR N g=among 0 a c b o:=by
 refine⟨o,λj=>(AC c).any λt=>lane 8 a t==lane 8 b j,u,?_,?_⟩;have r:o<=b6:=by simp only[b6];lia
 rw[ah];simp_all? [PV,CY,r];rw[aM (h:=λj=>BI ((AC c).any λt=>lane 8 a t==lane 8 b j))];rfl;intro j B;have e:decide (((lane 8 b j):Int)∈(AC c).map λq=>((lane 8 a q):Int))=(AC c).any λt=>lane 8 a t==lane 8 b j:=by rw[nY,p5,am,iu];constructor;rintro⟨q,s,y⟩;exact⟨q,s,by simp;lia⟩;rintro⟨q,s,y⟩;refine⟨q,s,?_⟩;simp at y;lia
 simp_all? [cZ,kd,e];rw[t7 o _ u];rfl
def TH(n a c y)(D:c<=16)(M):C (n+1) .fT [NI y,TX c a] M=some (BI ((AC (c/2)).any λt=>decide (lane 8 a (2*t)<=y/\y<=lane 8 a (2*t+1))),false,M):=by
 have J:binI .sub ((c):Int) 1=some ((c:Int)-1):=rfl;have L:(0:Int).natAbs<=b6/\((c:Int)-1).natAbs<=b6/\(0:Int)<2/\(2:Int)<=b6:=by simp only[b6];lia
 have O:(((c:Int)-1-0+2-1)/2).toNat=c/2:=by lia
 have B:∀(l:gd) (w:Option Vl),(∀t∈l,t<c/2)->
   ((l.any λt=>decide (lane 8 a (2*t)<=y/\y<=lane 8 a (2*t+1)))=true->eC [2] (d8 T (C n) (.ite (.chain (.ix (.v 1) (.v 2)) (.v 0) (.ix (.v 1) (.bin .add (.v 2) (.int 1)))) (.ret (.bl true)) .nil .nil)) (l.map λ(t:Nat)=>[.int (0+t*2)]) ⟨[some (NI y),some (TX c a),w],none⟩ M=some (.rt (.bl true) false M))/\
   ((l.any λt=>decide (lane 8 a (2*t)<=y/\y<=lane 8 a (2*t+1)))=false->∃P,eC [2] (d8 T (C n) (.ite (.chain (.ix (.v 1) (.v 2)) (.v 0) (.ix (.v 1) (.bin .add (.v 2) (.int 1)))) (.ret (.bl true)) .nil .nil)) (l.map λ(t:Nat)=>[.int (0+t*2)]) ⟨[some (NI y),some (TX c a),w],none⟩ M=some (.nx ⟨[some (NI y),some (TX c a),P],none⟩ M)):=by
  intro l
  induction l with
  |nil=>exact λw _=>⟨by simp,λ_=>⟨w,rfl⟩⟩
  |cons t l Y=>
   intro w q
   have Q:=q t (by simp)
   have E:(0:Int)+(t:Int)*2=((2*t:Nat):Int):=by lia
   have G:binI .add ((2*t:Nat):Int) 1=some ((2*t+1:Nat):Int):=gh _ 1
   obtain⟨r,s⟩:=Y (some (NI (2*t))) λu Z=>q u (by simp[Z])
   by_cases U:lane 8 a (2*t)<=y
   have j:(lane 8 a (2*t):Int)<=(y:Int):=by lia
   by_cases X:y<=lane 8 a (2*t+1)
   have o:(y:Int)<=(lane 8 a (2*t+1):Int):=by lia
   refine⟨λ_=> ?_,λh=>by simp[U,X]at h⟩
   simp_all? [eC,E,G,aN (show 2*t<c by lia),aN (show 2*t+1<c by lia),j,o]
   have o:¬(y:Int)<=(lane 8 a (2*t+1):Int):=by lia
   have H:((t::l).any λt=>decide (lane 8 a (2*t)<=y/\y<=lane 8 a (2*t+1)))=l.any λt=>decide (lane 8 a (2*t)<=y/\y<=lane 8 a (2*t+1)):=by simp[X]
   rw[H]
   simp_all? [eC,E,G,aN (show 2*t<c by lia),aN (show 2*t+1<c by lia),j,o]
   exact⟨r,s⟩
   have j:¬(lane 8 a (2*t):Int)<=(y:Int):=by lia
   have H:((t::l).any λt=>decide (lane 8 a (2*t)<=y/\y<=lane 8 a (2*t+1)))=l.any λt=>decide (lane 8 a (2*t)<=y/\y<=lane 8 a (2*t+1)):=by simp[U]
   rw[H]
   simp_all? [eC,E,G,aN (show 2*t<c by lia),aN (show 2*t+1<c by lia),j]
   exact⟨r,s⟩
 obtain⟨r,s⟩:=B (AC (c/2)) none λt Q=>dw.mp Q;rw[ah];cases h:(AC (c/2)).any λt=>decide (lane 8 a (2*t)<=y/\y<=lane 8 a (2*t+1))with
 |true=>simp_all? [nK,gC,J,L,O,r h]
 |false=>
  obtain⟨P,F⟩:=s h;simp_all? [nK,gC,J,L,O,F]
def q_1(n a b c o)(q:c<=16)(s:o<=16)(M):∃N g,N<=16/\C (n+3) .between [TX c a,TX o b] M=some (LF N λj=>BI (g j),true,M)/\IR N g=among 1 a c b o:=by
 refine⟨o,λj=>(AC (c/2)).any λt=>decide (lane 8 a (2*t)<=lane 8 b j/\lane 8 b j<=lane 8 a (2*t+1)),s,?_,?_⟩;have r:o<=b6:=by simp only[b6];lia
 rw[ah];simp_all? [KI,wQ,r];rw[aM (h:=λj=>BI ((AC (c/2)).any λt=>decide (lane 8 a (2*t)<=lane 8 b j/\lane 8 b j<=lane 8 a (2*t+1))))];rfl;intro j u;simp_all? [cZ,TH _ a c _ q];rw[t7 o _ s];rfl
def Nn(n m)(f:Nat->Vl):((AC n).map f).take m=(AC (min m n)).map f:=by by_cases h:m<=n;rw[kf h,show min m n=m by lia];rw[yM (by simp;lia),show min m n=n by lia]
def pU:(AC p).map f=(AC q).map g↔p=q/\∀t,t<p->f t=g t:=by constructor;intro h;have j:=congrArg P4 h;simp only[aP,fI]at j;refine⟨j,λt c=> ?_⟩;have:=congrArg (λl=>l[t]?) h;simp only[aN c,aN (show t<q by lia)]at this;exact jN this;rintro⟨rfl,h⟩;exact fG λt c=>h t (dw.mp c)
def q_2(n a b c o)(M):∃N g,N<=16/\C (n+3) .alike [TX c a,TX o b] M=some (LF N λj=>BI (g j),true,M)/\IR N g=among 2 a c b o:=by
 refine⟨16,λj=>if j<c/\j<o then lane 8 a j==lane 8 b j else decide (c<=j/\o<=j),by decide,?_,rfl⟩;have q:(16:Int).natAbs<=b6:=by decide
 have r:(16:Int).toNat=16:=rfl;rw[ah];simp_all? [PX,CZ,q,r];rw[aM (h:=λj=>BI (if j<c/\j<o then lane 8 a j==lane 8 b j else decide (c<=j/\o<=j)))];rfl;intro j E;have s:binI .add ((j):Int) 1=some ((j+1:Nat):Int):=gh _ 1;have e:decide ((AC (min (j+1) c-j)).map (λt=>(lane 8 a (j+t):Int))=(AC (min (j+1) o-j)).map λt=>(lane 8 b (j+t):Int))=(if j<c/\j<o then lane 8 a j==lane 8 b j else decide (c<=j/\o<=j)):=by
  rw[nY,p5,pU];by_cases u:j<c<;>by_cases y:j<o;rw[ae ⟨u,y⟩,beq_iff_eq];constructor;rintro⟨_,h⟩;have:=h 0 (by lia);simp only[n_]at this;lia;intro h;refine⟨by lia,λt B=> ?_⟩;have:t=0:=by lia
  subst this;simp only[n_];lia;rw[ab (by lia),p5];exact⟨λh=>by lia,λh=>by lia⟩;rw[ab (by lia),p5];exact⟨λh=>by lia,λh=>by lia⟩;rw[ab (by lia),p5];exact⟨λh=>by lia,λh=>⟨by lia,λt B=>by lia⟩⟩
 simp_all? [cZ,s,su,kd,e]
def q_3(n a b c o)(y:c<=16)(L:o<=16)(M:gc):∃N g,N<=16/\C (n+3) .m7 [TX c a,TX o b] M=some (LF N λj=>BI (g j),true,M)/\IR N g=among 3 a c b o:=by
 refine⟨16,λj=>(AC c).all λt=>decide (16<=t+j)||(decide (t+j<o)&&lane 8 a t==lane 8 b (t+j)),by decide,?_,rfl⟩;have B:(16:Int).natAbs<=b6:=by decide
 have E:(16:Int).toNat=16:=rfl;rw[ah];simp_all? [G1,uA,B,E];rw[aM (h:=λj=>BI ((AC c).all λt=>decide (16<=t+j)||(decide (t+j<o)&&lane 8 a t==lane 8 b (t+j))))];rfl;intro j O;have G:binI .sub 16 ((j):Int)=some ((16-j:Nat):Int):=so (a:=16) (by lia);have e:decide ((AC (min (16-j) c)).map (λt=>((lane 8 a t):Int))=(AC (min (j+c) o-j)).map λt=>(lane 8 b (j+t):Int))=((AC c).all λt=>decide (16<=t+j)||(decide (t+j<o)&&lane 8 a t==lane 8 b (t+j))):=by
  rw[nY,p5,pU,c_];constructor;rintro⟨q,r⟩ t s;rw[dw]at s;by_cases u:16<=t+j;simp[u];have:=r t (by lia);rw[fD j t]at this;have H:t+j<o:=by lia
  simp[H];right;lia;intro h;have h':∀t,t<c->t+j<16->t+j<o/\lane 8 a t=lane 8 b (t+j):=λt q r=>by
   have:=h t (dw.mpr q);have J:¬16<=t+j:=by lia
   simpa [J] using this
  refine⟨?_,λt s=> ?_⟩;by_cases P:c=0;lia;by_cases u:c<=16-j;have:=(h' (c-1) (by lia) (by lia)).1;lia;have:=(h' (15-j) (by lia) (by lia)).1;lia;have:=(h' t (by lia) (by lia)).2;rw[fD j t];lia
 simp_all? [cZ,G,Nn,gh,su,kd,e]
def XG(n h a b c o)(q:c<=16)(r:o<=16)(u:h<4)(M):∃f,T.Kk .jJ h=some f/\∃N g,N<=16/\C (n+3) f [TX c a,TX o b] M=some (LF N λj=>BI (g j),true,M)/\IR N g=among h a c b o:=by
 have s:h=0\/h=1\/h=2\/h=3:=by lia
 rcases s with rfl|rfl|rfl|rfl;exact⟨.among,rfl,q_0 n a b c o r M⟩;exact⟨.between,rfl,q_1 n a b c o q r M⟩;exact⟨.alike,rfl,q_2 n a b c o M⟩;exact⟨.m7,rfl,q_3 n a b c o q r M⟩
def Fc(n o h)(q:o<=16)(u:h<=16)(i)(a b)(s):C (n+6) .answer [.ord (ag i),.d5,TX o a,TX h b] (some (ak s))=some (.cw,false,some (ak {Tl s i.d (among (i.z.toNat % 4) a o b h)with z:=decide (h<16),c:=among (i.z.toNat % 4) a o b h !=0})):=by
 have y:binI .mod (i.z.toNat:Int) 4=some ((i.z.toNat % 4:Nat):Int):=gj (b:=4) (by decide);obtain⟨f,B,N,g,J,E,G⟩:=XG (n+2) (i.z.toNat % 4) a b o h q u (aw _ (by decide)) (some (ak s));have r:=jd (n+4) N (λj=>BI (g j)) g (by lia) (λ_ _=>rfl) (some (ak s));rw[G]at r;have H:dj .lt ((h):Int) 16=decide (h<16):=by simp only[dj];congr 1;apply propext;lia
 rw[ah];simp_all? [MT,zR,ag,y,B,E,r,gI,H,Xl,oz]
def ki(n d)(c:d<16)(s):C (n+4) .e7 [NI d,.d5] (some (ak s))=some (TX 16 (s.v d),true,some (ak s)):=by
 have h:(0:Int)<=16:=by decide
 have j:(16:Int).toNat=16:=rfl;rw[ah];simp_all? [z6,ny,gE _ _ c,h,j,kf (show 16<=lanes 8 by decide)]
def vU(n v)(M):∃fr,C (n+1) .kD [TX 16 v] M=some (TX (be v) v,fr,M)/\be v<=16:=by
 unfold be;cases h:(AC 16).find? λi=>lane 8 v i==0 with
 |none=>
  refine⟨false,?_,by simp⟩;have e:decide ((0)∈(AC 16).map λj=>((lane 8 v j):Int))=false:=by rw[v_,iu];rintro⟨q,s,y⟩;rw[yQ]at h;have:=h q s;simp at this;lia
  rw[ah];simp_all? [vM,mG,kd,e,yk]
 |some t=>
  have o:=B4.mp h;have c:t<16:=dw.mp o.2.1;refine⟨true,?_,by simp;lia⟩;have e:decide ((0)∈(AC 16).map λj=>((lane 8 v j):Int))=true:=by rw[p5,iu];refine⟨t,o.2.1,?_⟩;have:=o.1;simp at this;lia
  have r:jW 0 ((AC 16).map λj=>((lane 8 v j):Int))=some t:=by have:=uQ 0 ((AC 16).map λj=>lane 8 v j);rw[bY]at this;refine Eq.trans this ?_;rw[List.findIdx?_eq_some_iff_getElem];refine⟨by simpa using c,by simpa using o.1,λj u=> ?_⟩;have:=o.2.2 j u;simpa using this
  rw[ah];simp_all? [vM,mG,kd,e,Uf,r,sB,kf (hF c),UV]
def aaw(i)(h:d6 i)(s):E5 .gS i s {Tl s i.d (among (i.z.toNat % 4) (s.v i.a) (be (s.v i.a)) (s.v i.b) (be (s.v i.b)))with z:=decide (be (s.v i.b)<16),c:=among (i.z.toNat % 4) (s.v i.a) (be (s.v i.a)) (s.v i.b) (be (s.v i.b)) !=0}:=by intro n;refine⟨.cw,false,?_⟩;obtain⟨y,o,q⟩:=vU (n+12) (s.v i.a) (some (ak s));obtain⟨B,r,u⟩:=vU (n+12) (s.v i.b) (some (ak s));have j:=Fc (n+7) _ _ q u i (s.v i.a) (s.v i.b) s;simp only[ag]at j;rw[ah];simp_all? [x8,mh,ag,ki _ _ h.a,ki _ _ h.b,o,r,j]
def aax(i)(h:d6 i)(s):E5 .eU i s {Tl s i.d (among (i.z.toNat % 4) (s.v i.a) (min (s.x 0) 16) (s.v i.b) (min (s.x 1) 16))with z:=decide (min (s.x 1) 16<16),c:=among (i.z.toNat % 4) (s.v i.a) (min (s.x 0) 16) (s.v i.b) (min (s.x 1) 16) !=0}:=by
 intro n;refine⟨.cw,false,?_⟩;have o:C (n+13) .aW [.d5,.int 0] (some (ak s))=some (NI (s.x 0),false,some (ak s)):=cT (n+12) 0 (by decide) s;have q:C (n+13) .aW [.d5,.int 1] (some (ak s))=some (NI (s.x 1),false,some (ak s)):=cT (n+12) 1 (by decide) s;have r:∀x:Nat,(if(16)<(x:Int)then(16)else(x:Int))=((min x 16:Nat):Int):=λx=>by split<;>lia
 have j:=Fc (n+7) (min (s.x 0) 16) (min (s.x 1) 16) (by lia) (by lia) i (s.v i.a) (s.v i.b) s;simp only[ag]at j;rw[ah];simp_all? [vN,ka,ag,ki _ _ h.a,ki _ _ h.b,o,q,r,kf (show min (s.x 0) 16<=16 by lia),kf (show min (s.x 1) 16<=16 by lia),j]
def Ps(f:F)(c:Nat)(w:Nat->Nat->Int->Nat):Prop:=du .bF (c:Int)=some f/\∀(n x y:Nat) (z:Int) (M:gc),x<2^64->y<2^64->∃r:Int,C (n+5) f [NI x,NI y,.int z] M=some (.int r,false,M)/\FS 64 r=w x y z
def TJ:Ps .By 130 λx y z=>wrap ((x)+z):=⟨rfl,λn x y z M c h=>⟨(x)+z,by rw[ah];simp_all? [PU,CW,uL],rfl⟩⟩
def TK:Ps .cG 131 λx y z=>(x+y) % WORD:=⟨rfl,λn x y z M c h=>⟨((x+y:Nat):Int),by rw[ah];simp_all? [uF,jr,gh],by unfold WORD;rw[ba]⟩⟩
def TM:Ps .bj 132 λx y z=>(x+WORD-y) % WORD:=⟨rfl,λn x y z M h c=>⟨(x)-y,by rw[ah];simp_all? [pN,fZ,pa],by unfold WORD;rw[nP (hF c)]⟩⟩
def TN:Ps .bp 133 λx y z=>x*y % WORD:=⟨rfl,λn x y z M c h=>⟨((x*y:Nat):Int),by rw[ah];simp_all? [pO,f6,qQ (.inl c)],by unfold WORD;rw[ba]⟩⟩
def TQ:Ps .br 134 λx y z=>x&&&y:=⟨rfl,λn x y z M h c=>⟨((x&&&y:Nat):Int),by rw[ah];simp_all? [pP,f7,jc],by rw[ba,aq (yS _ c)]⟩⟩
def TR:Ps .bE 135 λx y z=>x|||y:=⟨rfl,λn x y z M c h=>⟨((x|||y:Nat):Int),by rw[ah];simp_all? [qA,gB,uM],by rw[ba,aq (Cc c h)]⟩⟩
def TU:Ps .aL 136 λx y z=>x^^^y:=⟨rfl,λn x y z M c h=>⟨((x^^^y:Nat):Int),by rw[ah];simp_all? [lE,dM,tV],by rw[ba,aq (rb c h)]⟩⟩
def Jq(y:Nat):binI .mod (y) 64=some ((y % 64:Nat):Int):=gj (b:=64) (by decide)
def TV:Ps .a6 137 λx y z=>x*2^(y % 64) % WORD:=⟨rfl,λn x y z M c h=>⟨((x*2^(y % 64):Nat):Int),by rw[ah];simp_all? [nU,eK,Jq,ke (show y % 64<=100000 by lia) (show x<2^200 by lia)],by unfold WORD;rw[ba]⟩⟩
def TY:Ps .aV 138 λx y z=>x/2^(y % 64):=⟨rfl,λn x y z M c h=>⟨((x/2^(y % 64):Nat):Int),by rw[ah];simp_all? [nJ,eD,Jq,iJ],by rw[ba,aq (we (uY _ _) c)]⟩⟩
def TZ:Ps .wC 139 λx y z=>wrap z:=⟨rfl,λn x y z M c h=>⟨z,by rw[ah];simp_all? [MP,zO],rfl⟩⟩
def Be(h:Ps f op w)(i)(c:d6 i)(q:i.op=op)(s)(j:Xf s):E5 .iB i s (setX s i.d (w (s.x i.a) (s.x i.b) i.z)):=by subst q;obtain⟨u,y⟩:=h;intro n;refine⟨.cw,false,?_⟩;obtain⟨r,B,E⟩:=y (n+8) (s.x i.a) (s.x i.b) i.z (some (ak s)) (j.x _) (j.x _);have o:=iH (n+10) i.d r c.d s;rw[E]at o;have G:T.kq .bF (i.op:Int)=some f:=u;rw[ah];simp_all? [z1,nr,ag,G,jL,cT _ i.a c.a,cT _ i.b c.b,B,o]
def XH(i)(h:d6 i)(s):E5 .eT i s {s with z:=s.x i.a==s.x i.b,c:=decide (s.x i.a<s.x i.b)}:=by
 intro n;refine⟨.cw,false,?_⟩;have j:∀a b:Nat,dj .lt (a) (b)=decide (a<b):=λa b=>by simp only[dj];congr 1;apply propext;lia
 rw[ah];simp_all? [vJ,j8,ag,cT _ i.a h.a,cT _ i.b h.b,XA,j,oz]
noncomputable abbrev fv(o:Option F):Vl:=o.elim .cw .fn
def pf(n op)(M):C (n+1) .ly [NI op] M=some (fv (du .jI op),false,M):=by rw[ah];simp_all? [A1,oS];rfl
def Dm(n op)(M):C (n+1) .kA [NI op] M=some (fv (du .tN op),false,M):=by rw[ah];simp_all? [C2,qm];rfl
def Bf(n op)(M):C (n+1) .jG [NI op] M=some (fv (du .oJ op),false,M):=by rw[ah];simp_all? [A7,oY];rfl
def yh(n op)(M):C (n+1) .gQ [NI op] M=some (fv (du .iZ op),false,M):=by rw[ah];simp_all? [x3,l9];rfl
def sC(n op)(M):C (n+1) .jV [NI op] M=some (fv (du .sZ op),false,M):=by rw[ah];simp_all? [z_,nB];rfl
def Fd(n op)(M):C (n+1) .mQ [NI op] M=some (fv (du .tO op),false,M):=by rw[ah];simp_all? [EL,rP];rfl
def Fe(n op)(M):C (n+1) .mV [NI op] M=some (fv (du .tP op),false,M):=by rw[ah];simp_all? [EU,rX];rfl
def Np(c:Nat):Option F:=if vz .aR c=true then some .eO else du .vk c
def Ff(n op)(M):C (n+1) .mN [NI op] M=some (fv (Np op),false,M):=by have c:T.s_ .aR ((op):Int)=vz .aR op:=rfl;rw[ah];unfold Np;cases h:vz .aR ((op):Int);simp_all? [xB,ov,c,h];rfl;simp_all? [xB,ov,c,h];rfl
def Dq(c:Nat):Option F:=if c=140 then some .eT else if vz .bF c=true then some .iB else none
def Bg(n op)(M):C (n+1) .jC [NI op] M=some (fv (Dq op),false,M):=by
 have j:T.s_ .bF ((op):Int)=vz .bF op:=rfl;have e:dj .eq ((op):Int) 140=decide (op=140):=by simp only[dj];congr 1;apply propext;lia
 rw[ah];unfold Dq;by_cases c:op=140;rw[ae c];simp_all? [o9,jb,e,c];rfl;rw[ab c];cases h:vz .bF ((op):Int);simp_all? [o9,jb,e,c,j,h];rfl;simp_all? [o9,jb,e,c,j,h];rfl
def ff3(n op)(a b c)(A B D)(M)(h:C (n+1) a [NI op] M=some (fv A,false,M))(j:C (n+1) b [NI op] M=some (fv B,false,M))(o:C (n+1) c [NI op] M=some (fv D,false,M)):C (n+2) .e_ [NI op,.tup [.fn a,.fn b,.fn c]] M=some (fv (A<|>B<|>D),false,M):=by
 rw[ah];cases A with
 |some f=>simp_all? [dB,cu,eC,h,fv,jL];rfl
 |none=>
  cases B with
  |some f=>simp_all? [dB,cu,eC,h,j,fv,jL,p7];rfl
  |none=>
   cases D with
   |some f=>simp_all? [dB,cu,eC,h,j,o,fv,jL,p7];rfl
   |none=>simp_all? [dB,cu,eC,h,j,o,fv,jL,p7];rfl
def ff4(n op)(a b c d)(A B D E)(M)(h:C (n+1) a [NI op] M=some (fv A,false,M))(j:C (n+1) b [NI op] M=some (fv B,false,M))(o:C (n+1) c [NI op] M=some (fv D,false,M))(q:C (n+1) d [NI op] M=some (fv E,false,M)):C (n+2) .e_ [NI op,.tup [.fn a,.fn b,.fn c,.fn d]] M=some (fv (A<|>B<|>D<|>E),false,M):=by
 rw[ah];cases A with
 |some f=>simp_all? [dB,cu,eC,h,fv,jL];rfl
 |none=>
  cases B with
  |some f=>simp_all? [dB,cu,eC,h,j,fv,jL,p7];rfl
  |none=>
   cases D with
   |some f=>simp_all? [dB,cu,eC,h,j,o,fv,jL,p7];rfl
   |none=>
    cases E with
    |some f=>simp_all? [dB,cu,eC,h,j,o,q,fv,jL,p7];rfl
    |none=>simp_all? [dB,cu,eC,h,j,o,q,fv,jL,p7];rfl
def t8(c:Nat):Option F:=du .tN c<|>du .oJ c<|>du .iZ c
def Fg(c:Nat):Option F:=du .tO c<|>Np c<|>du .tP c<|>Dq c
def Jr(n op)(M):C (n+2) .e_ [NI op,.tup [.fn .kA,.fn .jG,.fn .gQ]] M=some (fv (t8 op),false,M):=ff3 n op _ _ _ _ _ _ M (Dm n op M) (Bf n op M) (yh n op M)
def Js(n op)(M):C (n+2) .e_ [NI op,.tup [.fn .mQ,.fn .mN,.fn .mV,.fn .jC]] M=some (fv (Fg op),false,M):=ff4 n op _ _ _ _ _ _ _ _ M (Fd n op M) (Ff n op M) (Fe n op M) (Bg n op M)
def yD(f):fv (some f)=.fn f:=rfl
def yE:fv none=.cw:=rfl
def xn(n)(i)(s)(c:du .jI i.op=none)(h:t8 i.op=none):C (n+14) .hY [.ord (ag i),.d5] (some (ak s))=some (.cw,false,some (ak s)):=by rw[ah];simp_all? [qB,kb,ag,pf,c,yE,Jr,h]
def Qh(n)(i)(s)(o:du .jI i.op=none)(q:t8 i.op=some f)(h:Mk f k X i s):∃(g:Nat->Nat) (fr:Bool),C (n+14) .hY [.ord (ag i),.d5] (some (ak s))=some (LF (lanes k) λj=>NI (g j),fr,some (ak s))/\∀j,j<lanes k->bit (s.p i.g) j=true->g j=lane k X j:=by obtain⟨g,fr,r,u⟩:=h;refine⟨g,fr,?_,u⟩;have c:=r (n+1);simp only[ag]at c;rw[ah];simp_all? [qB,kb,ag,pf,o,yE,Jr,q,yD,c]
def K0(n)(i)(r:d6 i)(s)(u:du .jI i.op=some f)(h:∀n x y d z M,x<2^i.k->y<2^i.k->C (n+6) f [NI x,NI y,NI i.k] M=some (NI ((each i.op i.k x y d z).getD 0 % 2^i.k),false,M)):∃(g:Nat->Nat) (fr:Bool),C (n+14) .hY [.ord (ag i),.d5] (some (ak s))=some (LF (lanes i.k) λj=>NI (g j),fr,some (ak s))/\∀j,j<lanes i.k->bit (s.p i.g) j=true->g j=lane i.k (Ch i.k λj=>(each i.op i.k (lane i.k (s.v i.a) j) (lane i.k (s.v i.b) j) (lane i.k (s.v i.d) j) i.z).getD 0) j:=by
 have q:=Aj (n+6) f (λx y=>(each i.op i.k x y 0 0).getD 0 % 2^i.k) i r s λx y c o=>h (n+6) x y 0 0 _ c o;have B:∀x y d z,x<2^i.k->y<2^i.k->(each i.op i.k x y 0 0).getD 0 % 2^i.k=(each i.op i.k x y d z).getD 0 % 2^i.k:=λx y d z c o=>by have a:=h 0 x y 0 0 none c o;have b:=h 0 x y d z none c o;rw[a]at b;simp only[aD,aG]at b;lia
 refine⟨λj=>(each i.op i.k (lane i.k (s.v i.a) j) (lane i.k (s.v i.b) j) 0 0).getD 0 % 2^i.k,true,?_,λj E _=> ?_⟩;simp only[ag]at q;rw[ah];simp_all? [qB,kb,ag,pf,u,yD,q];rw[gD E];exact B _ _ _ _ (ay _ _ _) (ay _ _ _)
def Ar(n)(i)(o:d6 i)(M):C (n+1) .fits [.ord (ag i)] M=some (BI (Fk i),false,M):=by
 have q:=o.k;by_cases h:i.op∈[36,53,54,55,56,57,58,62,78,87];have c:T.s_ .lO (i.op:Int)=true:=by show decide ((i.op:Int)∈[36,53,54,55,56,57,58,62,78,87])=true;rw[p5];simp only[aA,lK]at h|-;lia
 have r:∃l,T.Gm .lO (i.op:Int)=some l/\decide ((i.k:Int)∈l)=Fk i:=by simp only[aA,lK,jP]at h;unfold Fk;rcases h with h|h|h|h|h|h|h|h|h|h<;>rw[h]<;>rcases q with k|k|k|k<;>rw[k]<;>exact⟨_,rfl,rfl⟩
 obtain⟨l,s,j⟩:=r;rw[ah];simp_all? [G2,zS,ag,c,s,ints_map,j];have c:T.s_ .lO (i.op:Int)=false:=by show decide ((i.op:Int)∈[36,53,54,55,56,57,58,62,78,87])=false;rw[v_];simp only[aA,lK,jP]at h|-;lia
 have j:Fk i=true:=by unfold Fk;simp only[aA,lK,jP]at h;split<;>first|rfl|lia
 rw[ah,j];simp_all? [G2,zS,ag,c]
def T1(n)(i)(c:d6 i)(s)(h:Fk i=false):C (n+16) .c8 [.ord (ag i),.d5] (some (ak s))=some (.bl false,false,some (ak s)):=by rw[ah];simp_all? [mX,jK,Ar _ i c,h]
def Nq(n k X)(i)(c:d6 i)(o:Wd k)(s)(q:Fk i=true)(h:∀n,∃(g:Nat->Nat) (fr:Bool),C (n+14) .hY [.ord (ag i),.d5] (some (ak s))=some (LF (lanes k) λj=>NI (g j),fr,some (ak s))/\∀j,j<lanes k->bit (s.p i.g) j=true->g j=lane k X j):C (n+16) .c8 [.ord (ag i),.d5] (some (ak s))=some (.bl true,false,some (ak (setV i s k X))):=by obtain⟨g,fr,r,u⟩:=h (n+1);have y:=Di (n+10) k X i c o g s u;rw[ah];simp_all? [mX,jK,Ar _ i c,q,r,y]
def pV(n)(i)(s)(c:du .sZ i.op=none):C (n+14) .jH [.ord (ag i),.d5] (some (ak s))=some (.cw,false,some (ak s)):=by rw[ah];simp_all? [tU,k8,ag,sC,c,yE]
def Qi(n N)(f)(g)(i)(r:d6 i)(s)(B:Fk i=true)(E:du .jI i.op=none)(G:t8 i.op=none)(H:du .sZ i.op=some f)(J:N<=1000)(h:Rr f N g i s):C (n+16) .c8 [.ord (ag i),.d5] (some (ak s))=some (.bl true,false,some (ak (Tl s i.d (IR N g&&&s.p i.g)))):=by
 obtain⟨fr,L⟩:=h;have c:=L (n+2);have u:C (n+15) .jH [.ord (ag i),.d5] (some (ak s))=some (LF N λj=>BI (g j),fr,some (ak s)):=by simp only[ag]at c;rw[ah];simp_all? [tU,k8,ag,sC,H,yD,c]
 have y:=xn (n+1) i s E G;have q:=jd (n+14) N (λj=>BI (g j)) g J (λ_ _=>rfl) (some (ak s));have o:=Ar (n+14) i r (some (ak s));simp only[ag]at u y o;rw[ah];simp_all? [mX,jK,ag,o,B,y,u,q,cI,g8 r,jc,gI]
def Qj(n)(f)(i)(u:d6 i)(s j)(y:Fk i=true)(B:du .jI i.op=none)(E:t8 i.op=none)(G:du .sZ i.op=none)(H:Fg i.op=some f)(h:E5 f i s j):C (n+16) .c8 [.ord (ag i),.d5] (some (ak s))=some (.bl true,false,some (ak j)):=by obtain⟨v,fr,o⟩:=h (n+1);have q:=pV (n+1) i s G;have r:=xn (n+1) i s B E;have c:=Ar (n+14) i u (some (ak s));simp only[ag]at q r c o;rw[ah];simp_all? [mX,jK,ag,c,y,r,q,Js,H,yD,o]
def Qk(n)(i)(o:d6 i)(s)(q:Fk i=true)(r:du .jI i.op=none)(u:t8 i.op=none)(y:du .sZ i.op=none)(B:Fg i.op=none):C (n+16) .c8 [.ord (ag i),.d5] (some (ak s))=some (.bl false,false,some (ak s)):=by have h:=pV (n+1) i s y;have j:=xn (n+1) i s r u;have c:=Ar (n+14) i o (some (ak s));simp only[ag]at h j c;rw[ah];simp_all? [mX,jK,ag,c,q,j,h,Js,B,yE]
def Due(i:Ins)(s:Sg40.Machine):Prop:=∀n,C (n+16) .c8 [.ord (ag i),.d5] (some (ak s))=match Fa i s with
 |some c=>some (.bl true,false,some (ak c))
 |none=>some (.bl false,false,some (ak s))
def vV(e:Fa i s=some c)(h:∀n,C (n+16) .c8 [.ord (ag i),.d5] (some (ak s))=some (.bl true,false,some (ak c))):Due i s:=λn=>by rw[e];exact h n
def Fh(e:Fa i s=none)(h:∀n,C (n+16) .c8 [.ord (ag i),.d5] (some (ak s))=some (.bl false,false,some (ak s))):Due i s:=λn=>by rw[e];exact h n
def lg(h:d6 i)(c:Fk i=false):Due i s:=Fh (by unfold Fa;rw[ae c]) λn=>T1 n i h s c
def aJ(c:d6 i)(j:Wd k)(o:Fk i=true)(e:Fa i s=some (setV i s k X))(q:du .jI i.op=none)(r:t8 i.op=some f)(h:Mk f k X i s):Due i s:=vV e λn=>Nq n k X i c j s o λn=>Qh n i s q r h
def a_(c:d6 i)(o:Fk i=true)(e:Fa i s=some (setV i s i.k (Ch i.k λj=>(each i.op i.k (lane i.k (s.v i.a) j) (lane i.k (s.v i.b) j) (lane i.k (s.v i.d) j) i.z).getD 0)))(q:du .jI i.op=some f) (h:∀n x y d z M,x<2^i.k->y<2^i.k->C (n+6) f [NI x,NI y,NI i.k] M=some (NI ((each i.op i.k x y d z).getD 0 % 2^i.k),false,M)):Due i s:=vV e λn=>Nq n i.k _ i c c.k s o λn=>K0 n i c s q h
def pW(c:d6 i)(j:Fk i=true)(e:Fa i s=some (Tl s i.d (IR N g&&&s.p i.g)))(o:du .jI i.op=none)(q:t8 i.op=none)(r:du .sZ i.op=some f)(u:N<=1000)(h:Rr f N g i s):Due i s:=vV e λn=>Qi n N f g i c s j o q r u h
def aS(j:d6 i)(o:Fk i=true)(e:Fa i s=some c)(q:du .jI i.op=none)(r:t8 i.op=none)(u:du .sZ i.op=none)(y:Fg i.op=some f)(h:E5 f i s c):Due i s:=vV e λn=>Qj n f i j s c o q r u y h
section
variable {k d a b g:Nat} {zero:Bool} {z:Int} {s:Sg40.Machine}
def Pd(k d a b g:Nat)(zero:Bool)(z:Int)(s:Sg40.Machine)(c:Nat):Prop:=d6 ⟨c,k,zero,d,a,b,g,z⟩->Xf s->Due ⟨c,k,zero,d,a,b,g,z⟩ s
def cU{P:Nat->Prop}{n:Nat}(h:∀m,m<n->P m)(q:P n):∀m,m<n+1->P m:=λm c=>(Nat.lt_succ_iff_lt_or_eq.mp c).elim (h m) λe=>e▸q
def T2:Pd k d a b g zero z s 36:=λc o=>by by_cases h:32<=k;have j:Fk ⟨36,k,zero,d,a,b,g,z⟩=true:=je h;exact aJ c c.k j (by unfold Fa;rw[ab (by rw[j];decide)];rfl) rfl rfl (Z8 _ c h s);exact lg c (b9 h)
def T3:Pd k d a b g zero z s 78:=λc o=>by by_cases h:32<=k;have j:Fk ⟨78,k,zero,d,a,b,g,z⟩=true:=je h;exact aJ c c.k j (by unfold Fa;rw[ab (by rw[j];decide)];rfl) rfl rfl (aaj _ c h s);exact lg c (b9 h)
def T4:Pd k d a b g zero z s 53:=λc o=>by by_cases h:k<=32;have j:Fk ⟨53,k,zero,d,a,b,g,z⟩=true:=je h;exact aJ c (c.k.dbl h) j (by unfold Fa;rw[ab (by rw[j];decide)];rfl) rfl rfl (I' _ c h s);exact lg c (b9 h)
def T5:Pd k d a b g zero z s 54:=λc o=>by by_cases h:k<=32;have j:Fk ⟨54,k,zero,d,a,b,g,z⟩=true:=je h;exact aJ c (c.k.dbl h) j (by unfold Fa;rw[ab (by rw[j];decide)];rfl) rfl rfl (J' _ c h s);exact lg c (b9 h)
def T6:Pd k d a b g zero z s 56:=λc o=>by by_cases h:k<=32;have j:Fk ⟨56,k,zero,d,a,b,g,z⟩=true:=je h;exact aJ c c.k j (by unfold Fa;rw[ab (by rw[j];decide)];rfl) rfl rfl (L' _ c h s);exact lg c (b9 h)
def T7:Pd k d a b g zero z s 57:=λc o=>by by_cases h:k<=32;have j:Fk ⟨57,k,zero,d,a,b,g,z⟩=true:=je h;exact aJ c c.k j (by unfold Fa;rw[ab (by rw[j];decide)];rfl) rfl rfl (N' _ c h s);exact lg c (b9 h)
def T8:Pd k d a b g zero z s 58:=λc o=>by by_cases h:k<=32;have j:Fk ⟨58,k,zero,d,a,b,g,z⟩=true:=je h;exact aJ c c.k j (by unfold Fa;rw[ab (by rw[j];decide)];rfl) rfl rfl (O' _ c h s);exact lg c (b9 h)
def T9:Pd k d a b g zero z s 55:=λc q=>by
 by_cases h:k<=32;have o:Fk ⟨55,k,zero,d,a,b,g,z⟩=true:=je h;refine aJ c c.k o (by unfold Fa;rw[ab (by rw[o];decide)];rfl) rfl rfl (X:=Ch k λj=>if j<lanes (2*k)then lane (2*k) (s.v a) j else 0) ?_;have:=K' _ c h s;have e:(Ch k λj=>if j<lanes (2*k)then lane (2*k) (s.v a) j % 2^k else 0)=Ch k λj=>if j<lanes (2*k)then lane (2*k) (s.v a) j else 0:=by apply k9;intro j _;split;rw[gk];rfl
 exact e▸this;exact lg c (b9 h)
def T_:Pd k d a b g zero z s 62:=λc o=>by
 by_cases h:k=16;have j:Fk ⟨62,k,zero,d,a,b,g,z⟩=true:=by show(k==16)=true;simp[h]
 exact aJ c c.k j (by unfold Fa;rw[ab (by rw[j];decide)];rfl) rfl rfl (S' _ c s);exact lg c (by show(k==16)=false;simp[h])
def Ua:Pd k d a b g zero z s 87:=λc o=>by by_cases h:32<=k;have j:Fk ⟨87,k,zero,d,a,b,g,z⟩=true:=je h;exact aS c j (by unfold Fa;rw[ab (by rw[j];decide)];rfl) rfl rfl rfl rfl (aav _ c s);exact lg c (b9 h)
def Ub:Pd k d a b g zero z s 90:=λc o=>by
 obtain⟨y,h,j⟩:=Bd Xm _ c rfl s;refine aS c rfl ?_ rfl rfl rfl rfl j;have:Fa ⟨90,k,zero,d,a,b,g,z⟩ s=(match logic 90 k (s.p (a % 8)) (s.p (b % 8)) z with
  |some y=>some (Tl s d y)
  |none=>none):=rfl
 rw[this];simp only at h;rw[h]
def Uc:Pd k d a b g zero z s 91:=λc o=>by
 obtain⟨y,h,j⟩:=Bd Xn _ c rfl s;refine aS c rfl ?_ rfl rfl rfl rfl j;have:Fa ⟨91,k,zero,d,a,b,g,z⟩ s=(match logic 91 k (s.p (a % 8)) (s.p (b % 8)) z with
  |some y=>some (Tl s d y)
  |none=>none):=rfl
 rw[this];simp only at h;rw[h]
def Ud:Pd k d a b g zero z s 92:=λc o=>by
 obtain⟨y,h,j⟩:=Bd Xo _ c rfl s;refine aS c rfl ?_ rfl rfl rfl rfl j;have:Fa ⟨92,k,zero,d,a,b,g,z⟩ s=(match logic 92 k (s.p (a % 8)) (s.p (b % 8)) z with
  |some y=>some (Tl s d y)
  |none=>none):=rfl
 rw[this];simp only at h;rw[h]
def Ue:Pd k d a b g zero z s 93:=λc o=>by
 obtain⟨y,h,j⟩:=Bd Xp _ c rfl s;refine aS c rfl ?_ rfl rfl rfl rfl j;have:Fa ⟨93,k,zero,d,a,b,g,z⟩ s=(match logic 93 k (s.p (a % 8)) (s.p (b % 8)) z with
  |some y=>some (Tl s d y)
  |none=>none):=rfl
 rw[this];simp only at h;rw[h]
def Ug:Pd k d a b g zero z s 94:=λc o=>by
 obtain⟨y,h,j⟩:=Bd Xq _ c rfl s;refine aS c rfl ?_ rfl rfl rfl rfl j;have:Fa ⟨94,k,zero,d,a,b,g,z⟩ s=(match logic 94 k (s.p (a % 8)) (s.p (b % 8)) z with
  |some y=>some (Tl s d y)
  |none=>none):=rfl
 rw[this];simp only at h;rw[h]
def Uh:Pd k d a b g zero z s 95:=λc o=>by
 obtain⟨y,h,j⟩:=Bd Xr _ c rfl s;refine aS c rfl ?_ rfl rfl rfl rfl j;have:Fa ⟨95,k,zero,d,a,b,g,z⟩ s=(match logic 95 k (s.p (a % 8)) (s.p (b % 8)) z with
  |some y=>some (Tl s d y)
  |none=>none):=rfl
 rw[this];simp only at h;rw[h]
def Ui:Pd k d a b g zero z s 96:=λc o=>by
 obtain⟨y,h,j⟩:=Bd Xs _ c rfl s;refine aS c rfl ?_ rfl rfl rfl rfl j;have:Fa ⟨96,k,zero,d,a,b,g,z⟩ s=(match logic 96 k (s.p (a % 8)) (s.p (b % 8)) z with
  |some y=>some (Tl s d y)
  |none=>none):=rfl
 rw[this];simp only at h;rw[h]
def Uj:Pd k d a b g zero z s 97:=λc o=>by
 obtain⟨y,h,j⟩:=Bd Xu _ c rfl s;refine aS c rfl ?_ rfl rfl rfl rfl j;have:Fa ⟨97,k,zero,d,a,b,g,z⟩ s=(match logic 97 k (s.p (a % 8)) (s.p (b % 8)) z with
  |some y=>some (Tl s d y)
  |none=>none):=rfl
 rw[this];simp only at h;rw[h]
def Uk:Pd k d a b g zero z s 98:=λc o=>by
 obtain⟨y,h,j⟩:=Bd Xv _ c rfl s;refine aS c rfl ?_ rfl rfl rfl rfl j;have:Fa ⟨98,k,zero,d,a,b,g,z⟩ s=(match logic 98 k (s.p (a % 8)) (s.p (b % 8)) z with
  |some y=>some (Tl s d y)
  |none=>none):=rfl
 rw[this];simp only at h;rw[h]
def Ul:Pd k d a b g zero z s 99:=λc o=>by
 obtain⟨y,h,j⟩:=Bd Xw _ c rfl s;refine aS c rfl ?_ rfl rfl rfl rfl j;have:Fa ⟨99,k,zero,d,a,b,g,z⟩ s=(match logic 99 k (s.p (a % 8)) (s.p (b % 8)) z with
  |some y=>some (Tl s d y)
  |none=>none):=rfl
 rw[this];simp only at h;rw[h]
end
section
variable {k d a b g:Nat} {zero:Bool} {z:Int} {s:Sg40.Machine}
def As(c:d6 i)(h:Fk i=true)(e:Fa i s=none)(j:du .jI i.op=none)(o:t8 i.op=none)(q:du .sZ i.op=none)(r:Fg i.op=none):Due i s:=Fh e λn=>Qk n i c s h j o q r
def Ql:∀q,q<256->Pd k d a b g zero z s q:=by
 iterate 115 refine cU ?_ (λc _=>As c rfl rfl rfl rfl rfl rfl)
 refine cU ?_ (λc h=>aS c rfl rfl rfl rfl rfl rfl (XH _ c s));refine cU ?_ (λc h=>aS c rfl rfl rfl rfl rfl rfl (Be TZ _ c rfl s h));refine cU ?_ (λc h=>aS c rfl rfl rfl rfl rfl rfl (Be TY _ c rfl s h));refine cU ?_ (λc h=>aS c rfl rfl rfl rfl rfl rfl (Be TV _ c rfl s h));refine cU ?_ (λc h=>aS c rfl rfl rfl rfl rfl rfl (Be TU _ c rfl s h));refine cU ?_ (λc h=>aS c rfl rfl rfl rfl rfl rfl (Be TR _ c rfl s h));refine cU ?_ (λc h=>aS c rfl rfl rfl rfl rfl rfl (Be TQ _ c rfl s h));refine cU ?_ (λc h=>aS c rfl rfl rfl rfl rfl rfl (Be TN _ c rfl s h));refine cU ?_ (λc h=>aS c rfl rfl rfl rfl rfl rfl (Be TM _ c rfl s h));refine cU ?_ (λc h=>aS c rfl rfl rfl rfl rfl rfl (Be TK _ c rfl s h));refine cU ?_ (λc h=>aS c rfl rfl rfl rfl rfl rfl (Be TJ _ c rfl s h));iterate 22 refine cU ?_ (λc _=>As c rfl rfl rfl rfl rfl rfl)
 refine cU ?_ (λc h=>aS c rfl rfl rfl rfl rfl rfl (Xi _ c s));refine cU ?_ (λc h=>aS c rfl rfl rfl rfl rfl rfl (Xh _ c s));refine cU ?_ (λc h=>aS c rfl rfl rfl rfl rfl rfl (XE _ c s));refine cU ?_ (λc h=>aS c rfl rfl rfl rfl rfl rfl (XD _ c s));refine cU ?_ (λc h=>aS c rfl rfl rfl rfl rfl rfl (XC _ c s));refine cU ?_ (λc h=>aS c rfl rfl rfl rfl rfl rfl (XB _ c s));refine cU ?_ (λc h=>aS c rfl rfl rfl rfl rfl rfl (Xy _ c s));refine cU ?_ (λc h=>aS c rfl rfl rfl rfl rfl rfl (Xx _ c s));refine cU ?_ Ul;refine cU ?_ Uk;refine cU ?_ Uj;refine cU ?_ Ui;refine cU ?_ Uh;refine cU ?_ Ug;refine cU ?_ Ue;refine cU ?_ Ud;refine cU ?_ Uc;refine cU ?_ Ub;refine cU ?_ (λc h=>aS c rfl rfl rfl rfl rfl rfl (aax _ c s));refine cU ?_ (λc h=>aS c rfl rfl rfl rfl rfl rfl (aaw _ c s));refine cU ?_ Ua;refine cU ?_ (λc h=>aJ c c.k rfl rfl rfl rfl (Z_ _ c s));refine cU ?_ (λc h=>pW (N:=(lanes k)) c rfl rfl rfl rfl rfl (by have:=c.k.le64;show lanes k<=1000;simp only at this;omega) (aat _ c s));refine cU ?_ (λc h=>pW (N:=(lanes k)) c rfl rfl rfl rfl rfl (by have:=c.k.le64;show lanes k<=1000;simp only at this;omega) (aas _ c s));refine cU ?_ (λc h=>pW (N:=(lanes k)) c rfl rfl rfl rfl rfl (by have:=c.k.le64;show lanes k<=1000;simp only at this;omega) (aar _ c s));refine cU ?_ (λc h=>pW (N:=(lanes k)) c rfl rfl rfl rfl rfl (by have:=c.k.le64;show lanes k<=1000;simp only at this;omega) (aaq _ c s));refine cU ?_ (λc h=>pW (N:=(lanes k)) c rfl rfl rfl rfl rfl (by have:=c.k.le64;show lanes k<=1000;simp only at this;omega) (aap _ c s));refine cU ?_ (λc h=>aJ c Nb rfl rfl rfl rfl (aah _ c s));refine cU ?_ (λc h=>aJ c Nb rfl rfl rfl rfl (aag _ c s));refine cU ?_ T3;refine cU ?_ (λc h=>aJ c Nb rfl rfl rfl rfl (aak _ c s));refine cU ?_ (λc h=>aJ c w8 rfl rfl rfl rfl (aan _ c s));refine cU ?_ (λc h=>aJ c w8 rfl rfl rfl rfl (aam _ c s));refine cU ?_ (λc h=>aJ c w8 rfl rfl rfl rfl (aal _ c s));refine cU ?_ (λc h=>pW (N:=64) c rfl rfl rfl rfl rfl (by have:=c.k.le64;omega) (aau _ c s));refine cU ?_ (λc h=>aJ c w8 rfl rfl rfl rfl (aai _ c s));refine cU ?_ (λc h=>aJ c Xj rfl rfl rfl rfl (aaf _ c s));refine cU ?_ (λc h=>aJ c Oi rfl rfl rfl rfl (aae _ c s));refine cU ?_ (λc h=>aJ c Oi rfl rfl rfl rfl (aad _ c s));refine cU ?_ (λc h=>aJ c Oi rfl rfl rfl rfl (aac _ c s));refine cU ?_ (λc h=>aJ c Oi rfl rfl rfl rfl (aab _ c s));refine cU ?_ (λc h=>aJ c Oi rfl rfl rfl rfl (aaa _ c s));refine cU ?_ (λc h=>aJ c Nb rfl rfl rfl rfl (aao _ c s));refine cU ?_ (λc h=>aJ c Xj rfl rfl rfl rfl (X' _ c s));refine cU ?_ (λc h=>aJ c Nb rfl rfl rfl rfl (W' _ c s));refine cU ?_ T_;refine cU ?_ (λc h=>aJ c c.k rfl rfl rfl rfl (Q' _ c s));refine cU ?_ (λc h=>aJ c c.k rfl rfl rfl rfl (P' _ c s));refine cU ?_ (λc _=>As c rfl rfl rfl rfl rfl rfl);refine cU ?_ T8;refine cU ?_ T7;refine cU ?_ T6;refine cU ?_ T9;refine cU ?_ T5;refine cU ?_ T4;refine cU ?_ (λc h=>aJ c Nb rfl rfl rfl rfl (G' _ c s));refine cU ?_ (λc h=>aJ c Nb rfl rfl rfl rfl (F' _ c s));refine cU ?_ (λc h=>aJ c c.k rfl rfl rfl rfl (T' _ c s));refine cU ?_ (λc h=>aJ c c.k rfl rfl rfl rfl (U' _ c s));refine cU ?_ (λc h=>aS c rfl rfl rfl rfl rfl rfl (V' _ c s));refine cU ?_ (λc h=>aJ c Nb rfl rfl rfl rfl (E' _ c s));refine cU ?_ (λc h=>aJ c c.k rfl rfl rfl rfl (D' _ c s));refine cU ?_ (λc h=>aJ c c.k rfl rfl rfl rfl (C' _ c s));refine cU ?_ (λc h=>aJ c w8 rfl (by simp[Fa,Fk,vector,shape,least]) rfl rfl (A' _ c s));refine cU ?_ (λc h=>aJ c c.k rfl rfl rfl rfl (n' _ c s));refine cU ?_ (λc h=>aJ c w8 rfl (by simp[Fa,Fk,vector,shape,least]) rfl rfl (l' _ c s));refine cU ?_ (λc h=>aJ c c.k rfl rfl rfl rfl (j' _ c s));refine cU ?_ (λc h=>aJ c c.k rfl rfl rfl rfl (b' _ c s));iterate 2 refine cU ?_ (λc _=>As c rfl rfl rfl rfl rfl rfl)
 refine cU ?_ (λc h=>aJ c c.k rfl rfl rfl rfl (Z9 _ c s h));refine cU ?_ T2;refine cU ?_ (λc h=>aJ c c.k rfl rfl rfl rfl (Z7 _ c s));refine cU ?_ (λc h=>aJ c c.k rfl rfl rfl rfl (Z6 _ c s));refine cU ?_ (λc h=>aJ c c.k rfl rfl rfl rfl (Z5 _ c s));refine cU ?_ (λc h=>a_ c rfl rfl rfl λn x y d z M j o=>Z1 c.k j o);refine cU ?_ (λc h=>a_ c rfl rfl rfl λn x y d z M j o=>ZZ c.k j);refine cU ?_ (λc h=>a_ c rfl rfl rfl λn x y d z M j o=>ZY c.k j);refine cU ?_ (λc h=>a_ c rfl rfl rfl λn x y d z M j o=>ZX c.k j o);refine cU ?_ (λc h=>a_ c rfl rfl rfl λn x y d z M j o=>ZW c.k j);refine cU ?_ (λc h=>a_ c rfl rfl rfl λn x y d z M j o=>ZV c.k j);refine cU ?_ (λc h=>aJ c c.k rfl rfl rfl rfl (Z4 _ c s));refine cU ?_ (λc h=>aJ c c.k rfl rfl rfl rfl (Z2 _ c s));refine cU ?_ (λc h=>a_ c rfl rfl rfl λn x y d z M j o=>ZU c.k j);refine cU ?_ (λc h=>a_ c rfl rfl rfl λn x y d z M j o=>ZT c.k j);refine cU ?_ (λc h=>a_ c rfl rfl rfl λn x y d z M j o=>ZS c.k j);refine cU ?_ (λc h=>a_ c rfl rfl rfl λn x y d z M j o=>ZR c.k j o);refine cU ?_ (λc h=>a_ c rfl rfl rfl λn x y d z M j o=>ZQ c.k j o);refine cU ?_ (λc h=>a_ c rfl rfl rfl λn x y d z M j o=>ZP c.k j o);refine cU ?_ (λc h=>a_ c rfl rfl rfl λn x y d z M j o=>ZO j o);refine cU ?_ (λc h=>a_ c rfl rfl rfl λn x y d z M j o=>ZN j o);refine cU ?_ (λc h=>a_ c rfl rfl rfl λn x y d z M j o=>ZM j o);refine cU ?_ (λc h=>a_ c rfl rfl rfl λn x y d z M j o=>ZL c.k);refine cU ?_ (λc h=>a_ c rfl rfl rfl λn x y d z M j o=>ZK c.k j o);refine cU ?_ (λc h=>a_ c rfl rfl rfl λn x y d z M j o=>ZJ c.k);refine cU ?_ (λc h=>a_ c rfl rfl rfl λn x y d z M j o=>ZI c.k j o);refine cU ?_ (λc h=>a_ c rfl rfl rfl λn x y d z M j o=>ZH c.k j o);refine cU ?_ (λc h=>a_ c rfl rfl rfl λn x y d z M j o=>ZG c.k j o);refine cU ?_ (λc h=>a_ c rfl rfl rfl λn x y d z M j o=>p_9 j o);refine cU ?_ (λc h=>a_ c rfl rfl rfl λn x y d z M j o=>p_8 j o);refine cU ?_ (λc h=>a_ c rfl rfl rfl λn x y d z M j o=>p_7 j o);refine cU ?_ (λc h=>a_ c rfl rfl rfl λn x y d z M j o=>p_6 c.k j o);refine cU ?_ (λc h=>a_ c rfl rfl rfl λn x y d z M j o=>p_5 c.k j o);refine cU ?_ (λc h=>a_ c rfl rfl rfl λn x y d z M j o=>p_4 c.k j o);refine cU ?_ (λc h=>a_ c rfl rfl rfl λn x y d z M j o=>p_3 c.k j);refine cU ?_ (λc h=>a_ c rfl rfl rfl λn x y d z M j o=>p_2 c.k o);refine cU ?_ (λc h=>a_ c rfl rfl rfl λn x y d z M j o=>p_1 c.k);refine cU ?_ (λc _=>As c rfl rfl rfl rfl rfl rfl);exact λm r=>absurd r (_A m)
end
def Fi(i)(s)(c:d6 i)(j:Xf s):Due i s:=by obtain⟨op,k,h,d,a,b,g,z⟩:=i;exact Ql op c.op c j
noncomputable def Au(w:Nat):Ord:=⟨decide (w/256 % 256<=7)&&decide (w/2^31 % 2=0),((w % 256:Nat):Int),((8*2^(w/256 % 4):Nat):Int),((512/(8*2^(w/256 % 4)):Nat):Int),decide (w/1024 % 2=1),((w/2^16 % 16:Nat):Int),((w/2^20 % 16:Nat):Int),((w/2^24 % 16:Nat):Int),((w/2^28 % 8:Nat):Int),
  AT 32 (w/2^32),((((AT 32 (w/2^32))).toNat:Nat):Int)⟩
def K1(w)(h:(Au w).sound=true):∃i,dL w=some i/\Au w=ag i/\d6 i:=by
 simp only[Au,aB,bG]at h;obtain⟨r,c⟩:=h;have s:bit w 31=false:=by unfold bit;rw[c];rfl
 refine⟨⟨w % 256,8*2^(w/256 % 4),bit w 10,w/2^16 % 16,w/2^20 % 16,w/2^24 % 16,w/2^28 % 8,AT 32 (w/2^32)⟩,?_,?_,?_⟩;unfold dL;rw[ab (by rw[s];simp;lia)];unfold Au ag;have u:(decide (w/256 % 256<=7)&&decide (w/2^31 % 2=0))=true:=by simp[r,c]
 have y:decide (w/1024 % 2=1)=bit w 10:=by unfold bit;rw[show(2)^10=1024 from rfl];by_cases q:w/1024 % 2=1<;>simp[q]
 rw[u,y];rfl;have j: -2^31<=AT 32 (w/2^32)/\AT 32 (w/2^32)<2^31:=by unfold AT;have o:=aw (w/2^32) (show 0<2^32 by decide);generalize w/2^32 % 2^32=q at o|-;rw[show(2)^32=4294967296 from rfl]at o;simp only[show(2)^31=2147483648 from rfl];split<;>lia
 refine⟨aw _ (by decide),?_,aw _ (by decide),aw _ (by decide),aw _ (by decide),aw _ (by decide),j.1,j.2⟩;have:w/256 % 4<4:=aw _ (by decide);generalize w/256 % 4=q at this;match q,this with
 |0,_=>exact .inl rfl
 |1,_=>exact .inr (.inl rfl)
 |2,_=>exact .inr (.inr (.inl rfl))
 |3,_=>exact .inr (.inr (.inr rfl))
def K2(w)(h:(Au w).sound=false):dL w=none:=by
 have h:(decide (w/256 % 256<=7)&&decide (w/2^31 % 2=0))=false:=h;unfold dL;rw[ae];by_cases c:w/256 % 256<=7;right;have j:¬w/2^31 % 2=0:=by simpa [c] using h
 unfold bit;have:w/2^31 % 2=1:=by lia
 rw[this];rfl;left;lia
def Ha(n)(o:Ord)(c:o.sound=false)(M):C (n+16) .c8 [.ord o,.d5] M=some (.bl false,false,M):=by
 have h:C (n+15) .fits [.ord o] M=some (.bl false,false,M):=by obtain⟨j,q,k,r,s,d,a,b,g,z,m⟩:=o;simp only at c;subst c;rw[ah];simp_all? [G2,zS]
 rw[ah];simp_all? [mX,jK,h]
noncomputable def kj(v p x:gd)(f:Nat):Sg40.Machine:={fresh with v:=λj=>(KF v).getD j 0,p:=λj=>if j=0 then ALL else p.getD j 0,x:=λj=>x.getD j 0,z:=bit f 0,c:=bit f 1}
theorem Nr:∀{l:gd},(∀y∈l,y<2^64)->No l<2^(64*l.length)
 |[],_=>by simp[No]
 |y::l,h=>by have o:=h y (by simp);have c:=Nr (l:=l) λz j=>h z (by simp[j]);show y+2^64*No l<2^(64*(l.length+1));rw[oa,og,eV];have:2^64*(No l+1)<=2^64*2^(64*l.length):=F1 _ c;rw[cJ (2^(64*l.length))];rw[oa,og]at this;lia
theorem Fj:∀{l:gd} (k),(∀y∈l,y<2^64)->lane 64 (No l) k=l.getD k 0
 |[],k,_=>by simp[No,lane]
 |y::l,0,h=>by have c:=h y (by simp);show(y+2^64*No l)/2^(64*0) % 2^64=y;rw[XV,sL,u4,Ll,aq c]
 |y::l,k+1,h=>by have c:=h y (by simp);have j:=Fj (l:=l) k λz o=>h z (by simp[o]);show(y+2^64*No l)/2^(64*(k+1)) % 2^64=l.getD k 0;rw[show 64*(k+1)=64+64*k by lia,eV,<-yN,ua _ _ (by decide),lL c,qc];exact j
def Jt(h:j<16):(KF v).getD j 0=No ((v.drop (8*j)).take 8):=by unfold KF;rw[tH,dQ,q_ h];rfl
def Nt(h:16<=j):(KF v).getD j 0=0:=by unfold KF;rw[tH,fF (by simpa using h)];rfl
def range_getD(h:v.length=n):(AC n).map (λj=>v.getD j 0)=v:=by apply rd;intro i;rw[dQ];by_cases c:i<n;rw[q_ c];simp only[g_,tH];rw[oE (by lia)];rfl;rw[fF (by simpa using c),fF (by lia)];rfl
section
variable {v p x:gd} {f:Nat}
def Qm(E:v.length=128)(o:∀y∈v,y<2^64)(q:∀y∈p,y<2^64)(r:∀y∈x,y<2^64):Xf (kj v p x f):=by
 have c:∀{l:gd} (j),(∀y∈l,y<2^64)->l.getD j 0<2^64:=λ{l} j h=>by
  rw[tH];cases e:l[j]? with
  |none=>show 0<2^64;decide
  |some y=>exact h y (ky e)
 refine⟨λj=> ?_,λj=> ?_,λj=>c j r,rfl⟩;show(KF v).getD j 0<2^512;by_cases s:j<16;rw[Jt s];have u:((v.drop (8*j)).take 8).length=8:=by rw[oG,al];lia
 have:=Nr (l:=(v.drop (8*j)).take 8) λy B=>o y (ol (nw B));rw[u,show 64*8=512 from rfl]at this;exact this;rw[Nt (by lia)];exact _c (by decide);show(if j=0 then ALL else p.getD j 0)<2^64;split;decide;exact c j q
def Um(h:v.length=128)(o:∀y∈v,y<2^64):(ak (kj v p x f)).v=v.map λ(n:Nat)=>(n:Int):=by
 show((AC 128).map λj=>(lane 64 ((KF v).getD (j/8) 0) (j % 8):Int))=_;have e:v.map (λ(n:Nat)=>(n:Int))=(AC 128).map λj=>(v.getD j 0:Int):=by have:=congrArg (P9 λ(n:Nat)=>(n:Int)) (range_getD h);rw[bY]at this;exact this.symm
 rw[e];refine fG λj c=> ?_;have c:j<128:=dw.mp c;rw[Jt (by lia),Fj _ λy q=>o y (ol (nw q))];congr 1;rw[tH,tH,B5 (by lia),TD,show 8*(j/8)+j % 8=j by lia]
def Uo(j:p.length=8):(ak (kj v p x f)).p=((ALL):Int)::(p.drop 1).map λ(n:Nat)=>(n):=by
 match p,j with
 |[a,b,c,d,e,g,h,i],_=>rfl
def Up(c:x.length=16):(ak (kj v p x f)).x=x.map λ(n:Nat)=>(n:Int):=by have:=congrArg (P9 λ(n:Nat)=>(n:Int)) (range_getD c);rw[bY]at this;exact this
def Uq:(ak (kj v p x f)).f=((f % 4:Nat):Int):=by
 show(ul (kj v p x f):Int)=_;congr 1;show one (bit f 0)+2*one (bit f 1)=_;unfold bit one;rw[sL,u4,u5];have a:f % 2<2:=aw _ (by decide);have b:f/2 % 2<2:=aw _ (by decide);have:f % 4=f % 2+2*(f/2 % 2):=by lia
 rw[this];rcases(show f % 2=0\/f % 2=1 by lia)with h|h<;>rcases(show f/2 % 2=0\/f/2 % 2=1 by lia)with h'|h'<;>rw[h,h']<;>rfl
end
theorem BX:∀l,P5 (l.map λ(n:Nat)=>(n))=l
 |[]=>rfl
 |a::l=>by show(a:Int).toNat::P5 (l.map λ(n:Nat)=>(n:Int))=a::l;rw[BX l];rfl
theorem Rt(g:Nat->Nat->Int):∀n:Nat,(AC n).flatMap (λj=>(AC 8).map (g j))=(AC (8*n)).map λj=>g (j/8) (j % 8)
 |0=>rfl
 |n+1=>by rw[mz (n:=n),List.flatMap_append,Rt g n,oa,og,yr,k0,bY];congr 1;rw[List.flatMap_singleton];refine fG λk c=> ?_;have c:k<8:=dw.mp c;show g n k=g ((8*n+k)/8) ((8*n+k) % 8);rw[show(8*n+k)/8=n by lia,show(8*n+k) % 8=k by lia]
def K3(s):P2 ((AC 16).map s.v)=(ak s).v:=by show((((AC 16).map s.v).flatMap λx=>(AC 8).map λk=>x/2^(64*k) % 2^64).map λ(n:Nat)=>(n:Int))=_;rw[List.flatMap_map,List.map_flatMap];have:=Rt (λj k=>(lane 64 (s.v j) k:Int)) 16;rw[Dh];refine Eq.trans ?_ this;refine congrArg (λq=>List.flatMap q (AC 16)) (funext λj=> ?_);simp only[bY];rfl
noncomputable def BY(m:AL):List Int:=[0]++((128:Int)::m.v++((8:Int)::m.p++((16:Int)::m.x++[1,m.f])))
theorem XI(w:Nat)(v p x:gd)(f:Nat):P3 (w) (v.map λ(n:Nat)=>(n)) (p.map λ(n:Nat)=>(n)) (x.map λ(n:Nat)=>(n:Int)) (f:Int)=match dL w with
  |none=>[3]
  |some i=>match Fa i (kj v p x f)with
   |none=>[3]
   |some s=>BY (ak s):=by
 have c:Sg40Neutral.fields [[0],[(w:Int)],v.map λ(n:Nat)=>(n:Int),p.map λ(n:Nat)=>(n:Int),x.map λ(n:Nat)=>(n:Int),[(f:Int)]]=(let a:=_b w (KF v) p x f
   if a.code=0 then [[0],P2 a.v,FB a.p,FB a.x,[(a.value:Int)]]else [[a.code]]):=by
  show(let a:=_b ((w:Int).toNat) (KF (P5 (v.map λ(n:Nat)=>(n:Int)))) (P5 (p.map λ(n:Nat)=>(n:Int))) (P5 (x.map λ(n:Nat)=>(n:Int))) ((f:Int).toNat)
   if a.code=0 then [[0],P2 a.v,FB a.p,FB a.x,[(a.value:Int)]]else [[a.code]])=_
  simp only[BX,fH]
 unfold P3 Sg40Neutral.f
 rw[c]
 unfold _b
 cases o:dL w with
 |none=>rfl
 |some i=>
  show _=match Fa i (kj v p x f)with
   |none=>[3]
   |some s=>BY (ak s)
  show(match(let a:=(match Fa i (kj v p x f)with
    |none=>says 3
    |some m=>⟨0,[],(AC 16).map m.v,(AC 8).map m.p,(AC 16).map m.x,ul m⟩:Ans)
   if a.code=0 then [[0],P2 a.v,FB a.p,FB a.x,[(a.value:Int)]]else [[a.code]])with
   |[]=>[]
   |a::l=>a++l.flatMap λ(r:List Int)=>(r.length:Int)::r)=_
  cases q:Fa i (kj v p x f)with
  |none=>rfl
  |some s=>
   show [0]++([P2 ((AC 16).map s.v),FB ((AC 8).map s.p),FB ((AC 16).map s.x),[(ul s:Int)]].flatMap λ(r:List Int)=>(r.length:Int)::r)=BY (ak s)
   rw[K3]
   have h:FB ((AC 8).map s.p)=(ak s).p:=by unfold FB;rw[bY];rfl
   have j:FB ((AC 16).map s.x)=(ak s).x:=by unfold FB;rw[bY];rfl
   rw[h,j]
   have u:(ak s).v.length=128:=by rw[Dh,aP,fI]
   have y:(ak s).p.length=8:=by rw[Af,aP,fI]
   have B:(ak s).x.length=16:=by rw[Ag,aP,fI]
   simp only[List.flatMap_cons,List.flatMap_nil,kZ]
   rfl
noncomputable def Ru(v p x:gd)(f:Nat):AL:=⟨v.map λ(n:Nat)=>(n:Int),((ALL:Nat):Int)::(p.drop 1).map λ(n:Nat)=>(n:Int),x.map λ(n:Nat)=>(n:Int),((f % 4:Nat):Int)⟩
def Dr(q:v.length=128)(G:p.length=8)(H:x.length=16)(r:∀y∈v,y<2^64)(J:∀y∈p,y<2^64)(L:∀y∈x,y<2^64)(n):∃b m,C (n+16) .c8 [.ord (Au w),.d5] (some (Ru v p x f))=some (.bl b,false,some m)/\m.v.length=128/\m.p.length=8/\m.x.length=16/\P3 (w) (v.map λ(n:Nat)=>(n)) (p.map λ(n:Nat)=>(n)) (x.map λ(n:Nat)=>(n)) (f:Int)=if b=true then BY m else [3]:=by
 have e:Ru v p x f=ak (kj v p x f):=by have M:=Um (p:=p) (x:=x) (f:=f) q r;have O:=Uo (v:=v) (x:=x) (f:=f) G;have P:=Up (v:=v) (p:=p) (f:=f) H;have Q:=Uq (v:=v) (p:=p) (x:=x) (f:=f);unfold Ru;rw[<-M,<-O,<-P,<-Q]
 have c:∀s:Sg40.Machine,(ak s).v.length=128/\(ak s).p.length=8/\(ak s).x.length=16:=λs=>⟨by rw[Dh,aP,fI],by rw[Af,aP,fI],by rw[Ag,aP,fI]⟩;obtain⟨u,B,E⟩:=c (kj v p x f);rw[e,XI];cases o:(Au w).sound with
 |false=>
  rw[K2 w o];exact⟨false,_,Ha n _ o _,u,B,E,rfl⟩
 |true=>
  obtain⟨i,U,X,Y⟩:=K1 w o;have h:=Fi i (kj v p x f) Y (Qm q r J L) n;rw[U,X];cases j:Fa i (kj v p x f)with
  |none=>
   rw[j]at h;exact⟨false,_,h,u,B,E,by simp only[j];rfl⟩
  |some s=>
   rw[j]at h;obtain⟨Z,T,F⟩:=c s;exact⟨true,_,h,Z,T,F,by simp only[j];rfl⟩
def xo(w:Nat)(s:Option Nat):Ev:=⟨[none,some (NI w),s.map λn=>NI n],none⟩
def Hb(w)(s):(xo w s).get 1=some (NI w):=rfl
def Hc(w s):(xo w (some s)).get 2=some (NI s):=rfl
def mask(a k):a&&&(2^k-1)=a % 2^k:=DJ a k
def xp(c:F->List Vl->gc->Option (Vl×Bool×gc))(w a k m:Nat)(s)(h:m=2^k-1):au T c (xo w s) none (.bin .and (.bin .shr (.v 1) (.int (a))) (.int (m)))=some (NI (w/2^a % 2^k),false):=by simp only[ot,qP,eI,Hb,g_,nL,iJ,jc];rw[h,mask]
def XJ(c:F->List Vl->gc->Option (Vl×Bool×gc))(w k m:Nat)(s)(h:m=2^k-1):au T c (xo w s) none (.bin .and (.v 1) (.int (m)))=some (NI (w % 2^k),false):=by simp only[ot,qP,eI,Hb,g_,nL,jc];rw[h,mask]
def e_k(c:F->List Vl->gc->Option (Vl×Bool×gc))(w s):au T c (xo w (some s)) none (.bin .shl (.int 8) (.bin .and (.v 2) (.int 3)))=some (NI (8*2^(s % 4)),false):=by
 have e:binI .and ((s):Int) 3=some ((s % 4:Nat):Int):=by have:=jc s 3;rw[show s&&&3=s % 4 from mask s 2]at this;exact this
 have j:s % 4<4:=aw _ (by decide);have h:binI .shl 8 ((s % 4:Nat):Int)=some ((8*2^(s % 4):Nat):Int):=ke (a:=8) (by lia) (by decide);simp only[ot,qP,eI,Hc,g_,nL,e,h]
def Ur(o:F->List Vl->gc->Option (Vl×Bool×gc))(w s):au T o (xo w (some s)) none (.cmp .ne (.bin .and (.v 2) (.int 4)) (.int 0))=some (.bl (decide (s/4 % 2=1)),false):=by
 have e:binI .and ((s):Int) 4=some (((s&&&4:Nat)):Int):=jc s 4;have q:s&&&4=4*(s/4 % 2):=by
  apply q7;intro i;rw[jM];have:(4)=2^2:=rfl;rw[this,sn,Nat.testBit_two_pow_mul];by_cases c:i=2;subst c;simp[Wp];by_cases r:2<=i;have j:¬2=i:=λz=>c z.symm;have:(s/2^2 % 2).testBit (i-2)=false:=by
   apply pZ;have a:s/2^2 % 2<2:=aw _ (by decide);have b:2<=2^(i-2):=by have:2^1<=2^(i-2):=fh (by decide) (by lia);simpa using this
   lia
  simp[j,this];have j:¬2=i:=λz=>c z.symm;simp[r,j]
 simp only[vo,ot,qP,eI,Hc,g_,nL,e,q,dj];have a:s/4 % 2<2:=aw _ (by decide);rcases(show s/4 % 2=0\/s/4 % 2=1 by lia)with h|h<;>rw[h]<;>rfl
def Qn(c:F->List Vl->gc->Option (Vl×Bool×gc))(w s):au T c (xo w (some s)) none (.and (.cmp .le (.v 2) (.int 7)) (.cmp .eq (.bin .and (.bin .shr (.v 1) (.int 31)) (.int 1)) (.int 0)))=some (.bl (decide (s<=7)&&decide (w/2^31 % 2=0)),false):=by
 have j:au T c (xo w (some s)) none (.bin .and (.bin .shr (.v 1) (.int 31)) (.int 1))=some (NI (w/2^31 % 2^1),false):=xp c w 31 1 1 (some s) rfl;have o:au T c (xo w (some s)) none (.cmp .le (.v 2) (.int 7))=some (.bl (decide (s<=7)),false):=by simp only[vo,qP,eI,Hc,g_,Ea,dj];have:((s:Int)<=7)=(s<=7):=propext ⟨λh=>by lia,λh=>by lia⟩;simp only[this]
 have q:au T c (xo w (some s)) none (.cmp .eq (.bin .and (.bin .shr (.v 1) (.int 31)) (.int 1)) (.int 0))=some (.bl (decide (w/2^31 % 2=0)),false):=by rw[vo,j];simp only[eI,Ea,dj,g_];have:(((w/2^31 % 2^1:Nat):Int)=0)=(w/2^31 % 2=0):=propext ⟨λh=>by simpa using Int.ofNat.inj h,λh=>by rw[show(2)^1=2 from rfl,h];rfl⟩;simp only[this]
 rw[CB,o,q];cases decide (s<=7)<;>rfl
end Lw
namespace Lw
open PySem PySem.W L2
structure Sx where
 nm:F->Str
 glob:F->Bool
 aI:F->Bool
 gn:Nat->Str
 gv:Nat->xu
 dn:D->Str
 Et:D->Bool
 XM:D->Bool
 isT:D->Bool
structure CK where
 S:Sx
 N:jR
 sc:Scope
 fn:Str->Bool
 fz:Str->Bool
def Av(scope c:Scope):Scope:={scope with names:=scope.names.map λ(n,k)=>if(k==.free&&c.kind==.function&&c.names.lookup n==some .cell)then(n,.cell)else(n,k)}
def CK.lM(c:CK)(scope:Scope):CK:={c with sc:=Av scope c.sc,fn:=λx=>scope.names.lookup x==some .cell}
def CK.Bh(c:CK)(i:Nat)(x:Str):Bool:=decide (c.N[i]?=some x)&&(decide (c.sc.names.lookup x=some .local)||(decide (c.sc.names.lookup x=some .cell)||decide (c.sc.names.lookup x=some .free)))&& !(x==("__debug__":Str))&& !(x==("__classdict__":Str))
noncomputable def CK.Fl(c:CK)(i:Nat)(x:Str):Bool:=decide (c.N[i]?=some x)&&(decide (c.sc.names.lookup x=some .local)||decide (c.sc.names.lookup x=some .cell))&&((c.fn x&& !c.fz x)||decide (c.sc.names.lookup x=some .local))
noncomputable def CK.gl(c:CK)(x:Str):Bool:=decide (c.sc.names.lookup x=some .globalImplicit)
inductive In
 |e(t:Bool)(x:Expr)
 |a(xs:lj)
 |i(tg it:Expr)
noncomputable def Qo:IE->Bool
 |.enum _=>true
 |.zip2 _ _=>true
 |.AU _ _ _=>true
 |_=>false
noncomputable def plainT:Expr->Bool
 |.UnaryOp .Not _ _=>false
 |.BoolOp _ _ _=>false
 |.IfExp _ _ _ _=>false
 |.Compare _ _ _ _=>false
 |_=>true
noncomputable def Hd:Expr->Bool
 |.Call (.Name _ _) [] [] _=>false
 |_=>true
def He(c:CK):gd->lj->Bool
 |[],[]=>true
 |i::is,.Name x _::es=>c.Fl i x&&He c is es
 |_,_=>false
def Vp(c:CK)(h:Bool)(tg:gd):Expr->Bool
 |.Name x _=> !h&&(match tg with
  |[i]=>c.Fl i x
  |_=>false)
 |.Tuple es _ _=>h&&He c tg es
 |_=>false
noncomputable def Qp:Expr->jR
 |.Name x _=>[x]
 |.Tuple es _ _=>es.filterMap λe=>match e with
  |.Name x _=>some x
  |_=>none
 |_=>[]
def Nu(N:jR)(h scope:Scope)(c:List (Str×Nat)):Bool:=decide (scope.kind=.function)&&scope.names.all (λy=>decide (scope.names.lookup y.1=some y.2))&&c.all (λp=>decide (N[p.2]?=some p.1))&&
  scope.names.all (λy=> !decide (y.2=.free)||(decide (h.names.lookup y.1=some .cell)||decide (h.names.lookup y.1=some .free)))&&
  scope.names.all (λy=> !(decide (y.2=.local)||decide (y.2=.cell))||(decide (y.1∈c.map (·.1))||decide (y.1∉N)))
def Qq(c:CK)(j:Bool)(tg:gd)(n:Nat)(h:Expr)(scope:Scope):Bool:=Nu c.N c.sc scope ((Qp h).zip tg)&&Vp (c.lM scope) j tg h&&decide ((Qp h).length=tg.length)&&decide (tg.length=n)
def a1(h:(a&&b)=true):a=true:=(Bool.and_eq_true_iff.mp h).1
def a2(h:(a&&b)=true):b=true:=(Bool.and_eq_true_iff.mp h).2
@[irreducible] noncomputable def dE(j:In)(k:Bool->Expr->Bool):Bool:=match j with
 |.e t x=>k t x
 |_=>false
@[elab_as_elim] def cm(j:In){k:Bool->Expr->Bool}{P:In->Prop}(h:dE j k=true)(q:∀t x,k t x=true->P (.e t x)):P j:=by
 unfold dE at h;cases j with
 |e t x=>exact q t x h
 |_=>cases h
@[irreducible] noncomputable def dA(j:In)(k:lj->Bool):Bool:=match j with
 |.a x=>k x
 |_=>false
@[elab_as_elim] def Rv(j:In){k:lj->Bool}{P:In->Prop}(h:dA j k=true)(q:∀x,k x=true->P (.a x)):P j:=by
 unfold dA at h;cases j with
 |a x=>exact q x h
 |_=>cases h
@[irreducible] noncomputable def dI(j:In)(k:Expr->Expr->Bool):Bool:=match j with
 |.i t x=>k t x
 |_=>false
@[elab_as_elim] def xF(j:In){k:Expr->Expr->Bool}{P:In->Prop}(h:dI j k=true)(q:∀t x,k t x=true->P (.i t x)):P j:=by
 unfold dI at h;cases j with
 |i t x=>exact q t x h
 |_=>cases h
def ff{P:Prop}(h:false=true):P:=nomatch h
structure Ke where
 nm:Str->Pos->Bool:=λ_ _=>false
 kk:Const->Nat->Pos->Bool:=λ_ _ _=>false
 bin:Expr->Operator->Expr->Pos->Bool:=λ_ _ _ _=>false
 un:UnaryOp->Expr->Pos->Bool:=λ_ _ _=>false
 cmp:Expr->List CmpOp->lj->Pos->Bool:=λ_ _ _ _=>false
 bo:BoolOp->lj->Pos->Bool:=λ_ _ _=>false
 tQ:Expr->Expr->Expr->Pos->Bool:=λ_ _ _ _=>false
 at_:Expr->Str->Pos->Bool:=λ_ _ _=>false
 sub:Expr->Expr->Pos->Bool:=λ_ _ _=>false
 sl:Option Expr->Option Expr->Option Expr->Pos->Bool:=λ_ _ _ _=>false
 call:Expr->lj->List Keyword->Pos->Bool:=λ_ _ _ _=>false
 lst:lj->Pos->Bool:=λ_ _=>false
 tup:lj->Nat->Pos->Bool:=λ_ _ _=>false
 lc:Expr->List Comprehension->Scope->Pos->Bool:=λ_ _ _ _=>false
 lam:Arguments->Expr->Scope->Pos->Bool:=λ_ _ _ _=>false
@[irreducible] noncomputable def dX(x:Expr)(K:Ke):Bool:=match x with
 |.Name n p=>K.nm n p
 |.Constant n i p=>K.kk n i p
 |.BinOp a o b p=>K.bin a o b p
 |.UnaryOp o a p=>K.un o a p
 |.Compare a o b p=>K.cmp a o b p
 |.BoolOp o b p=>K.bo o b p
 |.IfExp a b c p=>K.tQ a b c p
 |.Attribute a n p=>K.at_ a n p
 |.Subscript a b p=>K.sub a b p
 |.Slice a b c p=>K.sl a b c p
 |.Call a b c p=>K.call a b c p
 |.List a p=>K.lst a p
 |.Tuple a i p=>K.tup a i p
 |.ListComp a b c p=>K.lc a b c p
 |.Lambda a b c p=>K.lam a b c p
 |_=>false
def mw(x){K:Ke}{P:Expr->Prop}(h:dX x K=true)(y:∀n p,K.nm n p=true->P (.Name n p))(B:∀n i p,K.kk n i p=true->P (.Constant n i p))(E:∀a o b p,K.bin a o b p=true->P (.BinOp a o b p))(G:∀o a p,K.un o a p=true->P (.UnaryOp o a p))(H:∀a o b p,K.cmp a o b p=true->P (.Compare a o b p))(J:∀o b p,K.bo o b p=true->P (.BoolOp o b p))(L:∀a b c p,K.tQ a b c p=true->P (.IfExp a b c p))(M:∀a n p,K.at_ a n p=true->P (.Attribute a n p))(O:∀a b p,K.sub a b p=true->P (.Subscript a b p))(Q:∀a b c p,K.sl a b c p=true->P (.Slice a b c p))(j:∀a b c p,K.call a b c p=true->P (.Call a b c p))(q:∀a p,K.lst a p=true->P (.List a p))(r:∀a i p,K.tup a i p=true->P (.Tuple a i p))(s:∀a b c p,K.lc a b c p=true->P (.ListComp a b c p))(u:∀a b c p,K.lam a b c p=true->P (.Lambda a b c p)):P x:=by
 unfold dX at h;cases x with
 |Name n p=>exact y n p h
 |Constant n i p=>exact B n i p h
 |BinOp a o b p=>exact E a o b p h
 |UnaryOp o a p=>exact G o a p h
 |Compare a o b p=>exact H a o b p h
 |BoolOp o b p=>exact J o b p h
 |IfExp a b c p=>exact L a b c p h
 |Attribute a n p=>exact M a n p h
 |Subscript a b p=>exact O a b p h
 |Slice a b c p=>exact Q a b c p h
 |Call a b c p=>exact j a b c p h
 |List a p=>exact q a p h
 |Tuple a i p=>exact r a i p h
 |ListComp a b c p=>exact s a b c p h
 |Lambda a b c p=>exact u a b c p h
 |_=>exact ff h
@[irreducible] def Nv(x:Expr)(k:Str->Bool):Bool:=dX x {nm:=λn _=>k n}
@[elab_as_elim] def qK(x){k:Str->Bool}{P:Expr->Prop}(h:Nv x k=true)(q:∀n p,k n=true->P (.Name n p)):P x:=by unfold Nv at h;apply mw x h<;>first|exact q|(intros;exact ff (by assumption))
@[irreducible] def Yz(x:Expr)(k:Str->Pos->Bool):Bool:=dX x {nm:=λn p=>k n p}
@[elab_as_elim] def Nw(x){k:Str->Pos->Bool}{P:Expr->Prop}(h:Yz x k=true)(q:∀n p,k n p=true->P (.Name n p)):P x:=by unfold Yz at h;apply mw x h<;>first|exact q|(intros;exact ff (by assumption))
@[irreducible] def dK(x:Expr)(k:Const->Bool):Bool:=dX x {kk:=λn _ _=>k n}
@[elab_as_elim] def Ny(x){k:Const->Bool}{P:Expr->Prop}(h:dK x k=true)(q:∀n i p,k n=true->P (.Constant n i p)):P x:=by unfold dK at h;apply mw x h<;>first|exact q|(intros;exact ff (by assumption))
@[irreducible] def Us(x:Expr)(k:Expr->Operator->Expr->Bool):Bool:=dX x {bin:=λa o b _=>k a o b}
@[elab_as_elim] def Qr(x){k:Expr->Operator->Expr->Bool}{P:Expr->Prop}(h:Us x k=true)(q:∀a o b p,k a o b=true->P (.BinOp a o b p)):P x:=by unfold Us at h;apply mw x h<;>first|exact q|(intros;exact ff (by assumption))
@[irreducible] def dUn(x:Expr)(k:UnaryOp->Expr->Bool):Bool:=dX x {un:=λo a _=>k o a}
@[elab_as_elim] def Ut(x){k:UnaryOp->Expr->Bool}{P:Expr->Prop}(h:dUn x k=true)(q:∀o a p,k o a=true->P (.UnaryOp o a p)):P x:=by unfold dUn at h;apply mw x h<;>first|exact q|(intros;exact ff (by assumption))
@[irreducible] def Qs(x:Expr)(k:Expr->List CmpOp->lj->Bool):Bool:=dX x {cmp:=λa o b _=>k a o b}
@[elab_as_elim] def Ju(x){k:Expr->List CmpOp->lj->Bool}{P:Expr->Prop}(h:Qs x k=true)(q:∀a o b p,k a o b=true->P (.Compare a o b p)):P x:=by unfold Qs at h;apply mw x h<;>first|exact q|(intros;exact ff (by assumption))
@[irreducible] def dBo(x:Expr)(k:BoolOp->lj->Bool):Bool:=dX x {bo:=λo b _=>k o b}
@[elab_as_elim] def Uu(x){k:BoolOp->lj->Bool}{P:Expr->Prop}(h:dBo x k=true)(q:∀o b p,k o b=true->P (.BoolOp o b p)):P x:=by unfold dBo at h;apply mw x h<;>first|exact q|(intros;exact ff (by assumption))
@[irreducible] def Uv(x:Expr)(k:Expr->Expr->Expr->Bool):Bool:=dX x {tQ:=λa b c _=>k a b c}
@[elab_as_elim] def Qt(x){k:Expr->Expr->Expr->Bool}{P:Expr->Prop}(h:Uv x k=true)(q:∀a b c p,k a b c=true->P (.IfExp a b c p)):P x:=by unfold Uv at h;apply mw x h<;>first|exact q|(intros;exact ff (by assumption))
@[irreducible] def Uw(x:Expr)(k:Expr->Str->Pos->Bool):Bool:=dX x {at_:=λa n p=>k a n p}
@[elab_as_elim] def Aw(x){k:Expr->Str->Pos->Bool}{P:Expr->Prop}(h:Uw x k=true)(q:∀a n p,k a n p=true->P (.Attribute a n p)):P x:=by unfold Uw at h;apply mw x h<;>first|exact q|(intros;exact ff (by assumption))
@[irreducible] def Bj(x:Expr)(k:Expr->Expr->Bool):Bool:=dX x {sub:=λa b _=>k a b}
@[elab_as_elim] def oC(x){k:Expr->Expr->Bool}{P:Expr->Prop}(h:Bj x k=true)(q:∀a b p,k a b=true->P (.Subscript a b p)):P x:=by unfold Bj at h;apply mw x h<;>first|exact q|(intros;exact ff (by assumption))
@[irreducible] def XN(x:Expr)(k:Option Expr->Option Expr->Option Expr->Bool):Bool:=dX x {sl:=λa b c _=>k a b c}
@[elab_as_elim] def Hf(x){k:Option Expr->Option Expr->Option Expr->Bool}{P:Expr->Prop}(h:XN x k=true)(q:∀a b c p,k a b c=true->P (.Slice a b c p)):P x:=by unfold XN at h;apply mw x h<;>first|exact q|(intros;exact ff (by assumption))
@[irreducible] def Hg(x:Expr)(k:Expr->lj->List Keyword->Pos->Bool):Bool:=dX x {call:=λa b c p=>k a b c p}
@[elab_as_elim] def K4(x){k:Expr->lj->List Keyword->Pos->Bool}{P:Expr->Prop}(h:Hg x k=true)(q:∀a b c p,k a b c p=true->P (.Call a b c p)):P x:=by unfold Hg at h;apply mw x h<;>first|exact q|(intros;exact ff (by assumption))
@[irreducible] def Ux(x:Expr)(k:lj->Bool):Bool:=dX x {lst:=λa _=>k a}
@[elab_as_elim] def Qu(x){k:lj->Bool}{P:Expr->Prop}(h:Ux x k=true)(q:∀a p,k a=true->P (.List a p)):P x:=by unfold Ux at h;apply mw x h<;>first|exact q|(intros;exact ff (by assumption))
@[irreducible] def K5(x:Expr)(k:lj->Bool):Bool:=dX x {tup:=λa _ _=>k a}
@[elab_as_elim] def yF(x){k:lj->Bool}{P:Expr->Prop}(h:K5 x k=true)(q:∀a i p,k a=true->P (.Tuple a i p)):P x:=by unfold K5 at h;apply mw x h<;>first|exact q|(intros;exact ff (by assumption))
@[irreducible] def Uy(x:Expr)(k:Expr->List Comprehension->Scope->Bool):Bool:=dX x {lc:=λa b c _=>k a b c}
@[elab_as_elim] def Qv(x){k:Expr->List Comprehension->Scope->Bool}{P:Expr->Prop}(h:Uy x k=true)(q:∀a b c p,k a b c=true->P (.ListComp a b c p)):P x:=by unfold Uy at h;apply mw x h<;>first|exact q|(intros;exact ff (by assumption))
@[irreducible] def Uz(x:Expr)(k:Arguments->Expr->Scope->Bool):Bool:=dX x {lam:=λa b c _=>k a b c}
@[elab_as_elim] def Qw(x){k:Arguments->Expr->Scope->Bool}{P:Expr->Prop}(h:Uz x k=true)(q:∀a b c p,k a b c=true->P (.Lambda a b c p)):P x:=by unfold Uz at h;apply mw x h<;>first|exact q|(intros;exact ff (by assumption))
@[irreducible] noncomputable def d0{c:Type}(l:List c)(k:Bool):Bool:=match l with
 |[]=>k
 |_=>false
@[elab_as_elim] def oD{c:Type}(l){k:Bool}{P:List c->Prop}(h:d0 l k=true)(q:k=true->P []):P l:=by
 unfold d0 at h;cases l with
 |nil=>exact q h
 |_=>cases h
@[irreducible] noncomputable def dc{c:Type}(l:List c)(k:c->List c->Bool):Bool:=match l with
 |a::r=>k a r
 |_=>false
@[elab_as_elim] def qR{c:Type}(l){k:c->List c->Bool}{P:List c->Prop}(h:dc l k=true)(q:∀a r,k a r=true->P (a::r)):P l:=by
 unfold dc at h;cases l with
 |cons a r=>exact q a r h
 |_=>cases h
@[irreducible] def d1{c:Type}(l:List c)(k:c->Bool):Bool:=dc l λa r=>d0 r (k a)
@[elab_as_elim] def qS{c:Type}(l){k:c->Bool}{P:List c->Prop}(h:d1 l k=true)(q:∀a,k a=true->P [a]):P l:=by unfold d1 at h;exact qR l h λa r h=>oD r h λh=>q a h
@[irreducible] def d2{c:Type}(l:List c)(k:c->c->Bool):Bool:=dc l λa r=>d1 r (k a)
@[elab_as_elim] def Fm{c:Type}(l){k:c->c->Bool}{P:List c->Prop}(h:d2 l k=true)(q:∀a b,k a b=true->P [a,b]):P l:=by unfold d2 at h;exact qR l h λa r h=>qS r h λb h=>q a b h
@[irreducible] def d3{c:Type}(l:List c)(k:c->c->c->Bool):Bool:=dc l λa r=>d2 r (k a)
@[elab_as_elim] def XO{j:Type}(l){k:j->j->j->Bool}{P:List j->Prop}(h:d3 l k=true)(q:∀a b c,k a b c=true->P [a,b,c]):P l:=by unfold d3 at h;exact qR l h λa r h=>Fm r h λb c h=>q a b c h
@[irreducible] noncomputable def Qx{c:Type}(o:Option c)(k:c->Bool):Bool:=match o with
 |some a=>k a
 |_=>false
@[elab_as_elim] def uR{c:Type}(o){k:c->Bool}{P:Option c->Prop}(h:Qx o k=true)(q:∀a,k a=true->P (some a)):P o:=by
 unfold Qx at h;cases o with
 |some a=>exact q a h
 |_=>cases h
@[irreducible] noncomputable def Qy{c:Type}(o:Option c)(k:Bool):Bool:=match o with
 |none=>k
 |_=>false
@[elab_as_elim] def uS{c:Type}(o){k:Bool}{P:Option c->Prop}(h:Qy o k=true)(q:k=true->P none):P o:=by
 unfold Qy at h;cases o with
 |none=>exact q h
 |_=>cases h
@[irreducible] noncomputable def dq{c:Type}[DecidableEq c](a b:c)(k:Bool):Bool:=decide (a=b)&&k
@[elab_as_elim] def kl{c:Type}[DecidableEq c](a:c){b:c}{k:Bool}{P:c->Prop}(h:dq a b k=true)(q:k=true->P b):P a:=by unfold dq at h;cases oF (a1 h);exact q (a2 h)
@[irreducible] def t9(x:Expr)(k:Expr->lj->Pos->Bool):Bool:=Hg x λa b c p=>d0 c (k a b p)
@[elab_as_elim] def lG(x){k:Expr->lj->Pos->Bool}{P:Expr->Prop}(h:t9 x k=true)(q:∀a b p,k a b p=true->P (.Call a b [] p)):P x:=by unfold t9 at h;exact K4 x h λa b c p h=>oD c h λh=>q a b p h
@[irreducible] def UA(s:Str)(x:Expr)(k:Expr->lj->Bool):Bool:=t9 x λf b p=>Uw f λa n c=>dq n s ((c.endLine==p.line)&&k a b)
@[elab_as_elim] def Ax(x){s:Str}{k:Expr->lj->Bool}{P:Expr->Prop}(h:UA s x k=true)(q:∀a b c p,(c.endLine==p.line)=true->k a b=true->P (.Call (.Attribute a s c) b [] p)):P x:=by unfold UA at h;refine lG x h λf b p h=>Aw f h λa n c h=> ?_;exact kl n h λh=>q a b c p (a1 h) (a2 h)
@[irreducible] def dG(c:CK)(s:Str)(x:Expr)(k:Bool):Bool:=Nv x λn=>dq n s (c.gl s&&k)
@[elab_as_elim] def pX(x){c:CK}{s:Str}{k:Bool}{P:Expr->Prop}(h:dG c s x k=true)(q:∀p,c.gl s=true->k=true->P (.Name s p)):P x:=by unfold dG at h;refine qK x h λn p h=>kl n h λh=> ?_;exact q p (a1 h) (a2 h)
@[irreducible] def Qz(c:CK)(s:Str)(x:Expr)(k:Expr->Bool):Bool:=t9 x λf b _=>dG c s f (d1 b λa=>notStar a&&k a)
@[elab_as_elim] def uT(x){c:CK}{s:Str}{k:Expr->Bool}{P:Expr->Prop}(h:Qz c s x k=true)(q:∀a p j,c.gl s=true->notStar a=true->k a=true->P (.Call (.Name s p) [a] [] j)):P x:=by unfold Qz at h;refine lG x h λf b j h=>pX f h λp g h=> ?_;exact qS b h λa h=>q a p j g (a1 h) (a2 h)
@[irreducible] def Vq(c:CK)(s:Str)(x:Expr)(k:Expr->Expr->Bool):Bool:=t9 x λf b _=>dG c s f (d2 b λa h=>(notStar a&&notStar h)&&k a h)
@[elab_as_elim] def Ds(x){c:CK}{s:Str}{k:Expr->Expr->Bool}{P:Expr->Prop}(h:Vq c s x k=true)(q:∀a j p o,c.gl s=true->notStar a=true->notStar j=true->k a j=true->P (.Call (.Name s p) [a,j] [] o)):P x:=by unfold Vq at h;refine lG x h λf b o h=>pX f h λp g h=> ?_;exact Fm b h λa j h=>q a j p o g (a1 (a1 h)) (a2 (a1 h)) (a2 h)
@[irreducible] def YA(c:CK)(s:Str)(x:Expr)(k:Expr->Expr->Expr->Bool):Bool:=t9 x λf b _=>dG c s f (d3 b λa j h=>(notStar a&&(notStar j&&notStar h))&&k a j h)
@[elab_as_elim] def Nz(x){c:CK}{s:Str}{k:Expr->Expr->Expr->Bool}{P:Expr->Prop}(h:YA c s x k=true)(q:∀a o j p r,c.gl s=true->notStar a=true->notStar o=true->notStar j=true->k a o j=true->P (.Call (.Name s p) [a,o,j] [] r)):P x:=by unfold YA at h;refine lG x h λf b r h=>pX f h λp g h=> ?_;exact XO b h λa o j h=>q a o j p r g (a1 (a1 h)) (a1 (a2 (a1 h))) (a2 (a2 (a1 h))) (a2 h)
@[irreducible] def YB(x:Expr)(k:Expr->Expr->Expr->lj->Scope->Bool):Bool:=Uy x λa b s=>d1 b λg=>dq g.is_async 0 (k a g.target g.iter g.ifs s)
@[elab_as_elim] def Dt(x){k:Expr->Expr->Expr->lj->Scope->Bool}{P:Expr->Prop}(h:YB x k=true)(q:∀a tg c j s p,k a tg c j s=true->P (.ListComp a [⟨tg,c,j,0⟩] s p)):P x:=by unfold YB at h;refine Qv x h λa b s p h=>qS b h λg h=> ?_;obtain⟨tg,c,j,z⟩:=g;exact kl z h λh=>q a tg c j s p h
@[irreducible] def XQ(x:Expr)(k:Bool):Bool:=dK x λn=>dq n .none k
@[elab_as_elim] def Hh(x){k:Bool}{P:Expr->Prop}(h:XQ x k=true)(q:∀i p,k=true->P (.Constant .none i p)):P x:=by unfold XQ at h;exact Ny x h λn i p h=>kl n h λh=>q i p h
@[irreducible] def Rw(c:CmpOp)(x:Expr)(k:Expr->Expr->Bool):Bool:=Qs x λa o b=>d1 o λo=>dq o c (d1 b λb=>k a b)
@[elab_as_elim] def xq(x){c:CmpOp}{k:Expr->Expr->Bool}{P:Expr->Prop}(h:Rw c x k=true)(q:∀a b p,k a b=true->P (.Compare a [c] [b] p)):P x:=by unfold Rw at h;refine Ju x h λa o b p h=>qS o h λo h=> ?_;refine kl o h λh=>qS b h λb h=> ?_;exact q a b p h
@[irreducible] def XR(c:UnaryOp)(x:Expr)(k:Expr->Bool):Bool:=dUn x λo a=>dq o c (k a)
@[elab_as_elim] def Hi(x){c:UnaryOp}{k:Expr->Bool}{P:Expr->Prop}(h:XR c x k=true)(q:∀a p,k a=true->P (.UnaryOp c a p)):P x:=by unfold XR at h;exact Ut x h λo a p h=>kl o h λh=>q a p h
@[irreducible] def YC(c:BoolOp)(x:Expr)(k:Expr->Expr->Bool):Bool:=dBo x λo b=>dq o c (d2 b k)
@[elab_as_elim] def NA(x){c:BoolOp}{k:Expr->Expr->Bool}{P:Expr->Prop}(h:YC c x k=true)(q:∀a b p,k a b=true->P (.BoolOp c [a,b] p)):P x:=by unfold YC at h;refine Uu x h λo b p h=>kl o h λh=> ?_;exact Fm b h λa b h=>q a b p h
def ck:IE->CK->In->Bool
 |.v i,c,j=>dE j λt x=>Nv x λn=>c.Bh i n
 |.int n,c,j=>dE j λt x=>dK x λm=>dq m (.int n) true
 |.bl n,c,j=>dE j λt x=>dK x λm=>dq m (.bool n) true
 |.cw,c,j=>dE j λt x=>XQ x true
 |.uj n v,c,j=>dE j λt x=>dG c (c.S.gn n) x (decide (c.S.gv n=some v))
 |.fn g,c,j=>dE j λt x=>dG c (c.S.nm g) x (c.S.glob g)
 |.bin o a b,c,j=>dE j λt x=>Us x λh X s=>dq X (Ew o) (ck a c (.e false h)&&ck b c (.e false s))
 |.neg a,c,j=>dE j λt x=>XR .USub x λh=>ck a c (.e false h)
 |.inv a,c,j=>dE j λt x=>XR .Invert x λh=>ck a c (.e false h)
 |.cmp o a b,c,j=>dE j λt x=>Rw (BF o) x λh s=>ck a c (.e false h)&&ck b c (.e false s)
 |.LZ a,c,j=>dE j λt x=>Rw .Is x λh s=>XQ s (ck a c (.e false h))
 |.xM a,c,j=>dE j λt x=>Rw .IsNot x λh s=>XQ s (ck a c (.e false h))
 |.Lj a b,c,j=>dE j λt x=>Rw .In x λh s=>rD s&&(ck a c (.e false h)&&ck b c (.e false s))
 |.inD a d,c,j=>dE j λt x=>Rw .In x λh s=>dG c (c.S.dn d) s (c.S.XM d&&ck a c (.e false h))
 |.qh a d,c,j=>dE j λt x=>Rw .NotIn x λh s=>dG c (c.S.dn d) s (c.S.XM d&&ck a c (.e false h))
 |.chain a b d,c,j=>dE j λt x=>Qs x λh o bs=>d2 o λY Z=>dq Y .LtE (dq Z .LtE (d2 bs λs G=>ck a c (.e false h)&&(ck b c (.e false s)&&ck d c (.e false G))))
 |.not a,c,j=>dE j λt x=>XR .Not x λh=>ck a c (.e t h)
 |.and a b,c,j=>dE j λt x=>YC .And x λh s=>ck a c (.e t h)&&ck b c (.e t s)
 |.or a b,c,j=>dE j λt x=>YC .Or x λh s=>ck a c (.e t h)&&ck b c (.e t s)
 |.tQ q a b,c,j=>dE j λt x=>dq t false (Uv x λO h s=>ck q c (.e true O)&&(ck a c (.e false h)&&ck b c (.e false s)))
 |.aK a g,c,j=>dE j λt x=>Uw x λh n _=>dq n (Rc g) (isName h&&ck a c (.e false h))
 |.Od a g,c,j=>dE j λt x=>Uw x λh n _=>dq n (Of g) (isName h&&ck a c (.e false h))
 |.ix a b,c,j=>dE j λt x=>Bj x λh s=>ja s&&(ck a c (.e false h)&&ck b c (.e false s))
 |.Oe a b,c,j=>dE j λt x=>Bj x λh u=>XN u λJ L M=>Qx J λs=>Qy L (Qy M (ck a c (.e false h)&&ck b c (.e false s)))
 |.D9 a b,c,j=>dE j λt x=>Bj x λh u=>XN u λJ L M=>Qx L λs=>Qy J (Qy M (ck a c (.e false h)&&ck b c (.e false s)))
 |.sl a b d,c,j=>dE j λt x=>Bj x λh u=>XN u λJ L M=>Qx J λs=>Qx L λG=>Qy M (ck a c (.e false h)&&(ck b c (.e false s)&&ck d c (.e false G)))
 |.call g as,c,j=>dE j λt x=>t9 x λP xs _=>dG c (c.S.nm g) P (dc xs λh u=>c.S.glob g&&((h::u).all notStar&&ck as c (.a (h::u))))
 |.aI g o as,c,j=>dE j λt x=>UA (c.S.nm g) x λU xs=>dc xs λh u=>c.S.aI g&&(isName U&&((h::u).all notStar&&(decide ((h::u).length<30)&&(ck o c (.e false U)&&ck as c (.a (h::u))))))
 |.i0 i as,c,j=>dE j λt x=>t9 x λP xs _=>Nv P λn=>dc xs λh u=>c.Bh i n&&((h::u).all notStar&&ck as c (.a (h::u)))
 |.len a,c,j=>dE j λt x=>Qz c "len" x λh=>ck a c (.e false h)
 |.abs a,c,j=>dE j λt x=>Qz c "abs" x λh=>ck a c (.e false h)
 |.Kj a,c,j=>dE j λt x=>Qz c "min" x λh=>ck a c (.e false h)
 |.sum a,c,j=>dE j λt x=>Qz c "sum" x λh=>ck a c (.e false h)
 |.min2 a b,c,j=>dE j λt x=>Vq c "min" x λh s=>ck a c (.e false h)&&ck b c (.e false s)
 |.max2 a b,c,j=>dE j λt x=>Vq c "max" x λh s=>ck a c (.e false h)&&ck b c (.e false s)
 |.rk a,c,j=>dE j λt x=>UA "bit_length" x λh xs=>d0 xs (Hd h&&ck a c (.e false h))
 |.index a b,c,j=>dE j λt x=>UA "index" x λh xs=>d1 xs λs=>isName h&&(notStar s&&(ck a c (.e false h)&&ck b c (.e false s)))
 |.kq d a,c,j=>dE j λt x=>UA "get" x λy xs=>d1 xs λh=>dG c (c.S.dn d) y (c.S.XM d&&(c.S.Et d&&(notStar h&&ck a c (.e false h))))
 |.Gm d a,c,j=>dE j λt x=>Bj x λy h=>dG c (c.S.dn d) y (c.S.XM d&&(ja h&&ck a c (.e false h)))
 |.Kk d a,c,j=>dE j λt x=>Bj x λy h=>dG c (c.S.dn d) y (c.S.isT d&&(ja h&&ck a c (.e false h)))
 |.list u,c,j=>dE j λt x=>Ux x λxs=>ck u c (.a xs)
 |.tup u,c,j=>dE j λt x=>K5 x λxs=>ck u c (.a xs)
 |.lc tg it elt,c,j=>dE j λt x=>YB x λQ E B H scope=>d0 H (Qq c (Qo it) tg (MC it) E scope&&(rD B&&(ck it c (.i E B)&&ck elt (c.lM scope) (.e false Q))))
 |.rm tg it q elt,c,j=>dE j λt x=>YB x λQ E B H scope=>d1 H λO=>Qq c (Qo it) tg (MC it) E scope&&(rD B&&(ck it c (.i E B)&&(ck q (c.lM scope) (.e true O)&&ck elt (c.lM scope) (.e false Q))))
 |.lam g caps,c,j=>false
 |.nil,c,j=>dA j λxs=>d0 xs true
 |.cons a r,c,j=>dA j λxs=>dc xs λh T=>notStar h&&(ck a c (.e false h)&&ck r c (.a T))
 |.seq a,c,j=>dI j λt x=>ck a c (.e false x)
 |.qi a,c,j=>dI j λt x=>Qz c "range" x λh=>ck a c (.e false h)
 |.D_ a b,c,j=>dI j λt x=>Vq c "range" x λh s=>ck a c (.e false h)&&ck b c (.e false s)
 |.uk a b d,c,j=>dI j λt x=>YA c "range" x λh s G=>ck a c (.e false h)&&(ck b c (.e false s)&&ck d c (.e false G))
 |.enum a,c,j=>dI j λt x=>K5 t λ_=>Qz c "enumerate" x λh=>ck a c (.e false h)
 |.zip2 a b,c,j=>dI j λt x=>K5 t λ_=>Vq c "zip" x λh s=>ck a c (.e false h)&&ck b c (.e false s)
 |.AU a b d,c,j=>dI j λt x=>K5 t λ_=>YA c "zip" x λh s G=>ck a c (.e false h)&&(ck b c (.e false s)&&ck d c (.e false G))
 |.rev a,c,j=>dI j λt x=>Qz c "reversed" x λh=>ck a c (.e false h)
section
variable {G:Gx} {T:pG} {cl:D8} {k:Nat} {X:Cx} {c:CK}
structure qZ(c:CK)(G:Gx)(T:pG)(cl:D8)(k:Nat)(X:Cx):Prop where
 N:X.N=c.N
 sc:X.env.scope=c.sc
 fn:X.fn=c.fn
 fz:X.fz=c.fz
 xe:X.xe=λ_ _=>False
 mo:Mo G T cl c.S.gv k X
 bi:Bi X
 di:∀d,c.S.XM d=true->zJ G T X d
 tu:∀d,c.S.isT d=true->PD G T X d
 nm:G.nm=c.S.nm
 glob:G.glob=c.S.glob
 aI:G.aI=c.S.aI
 gn:G.gn=c.S.gn
 dn:G.dn=c.S.dn
 Et:G.Et=c.S.Et
def qZ.lM(f:qZ c G T cl k X)(s)(H)(scope)(C)(o)(j):qZ (c.lM scope) G T cl k (X.lM s H scope (compEnvC scope o C X.env) j) where
 N:=f.N
 sc:=by show relabel scope X.env=Av scope c.sc;unfold relabel Av Env.kindOf;rw[f.sc]
 fn:=rfl
 fz:=f.fz
 xe:=rfl
 mo:=f.mo.lM s H scope _ j
 bi:=f.bi.lM s H scope _ j
 di:=λd h=>⟨(f.di d h).nm,(f.di d h).db,(f.di d h).hd,(f.di d h).vs⟩
 tu:=λd h=>⟨(f.tu d h).nm,(f.tu d h).db,(f.tu d h).vs⟩
 nm:=f.nm
 glob:=f.glob
 aI:=f.aI
 gn:=f.gn
 dn:=f.dn
 Et:=f.Et
def qZ.Bh(f:qZ c G T cl k X)(h:c.Bh i x=true):X.N[i]?=some x/\DP X.env.scope x/\(x=="__debug__")=false/\(x=="__classdict__")=false:=by unfold CK.Bh at h;simp only[aB,p9,bG,lI]at h;obtain⟨⟨⟨j,o⟩,q⟩,r⟩:=h;refine⟨by rw[f.N];exact j,?_,q,r⟩;unfold DP;rw[f.sc];exact o
def qZ.Fl(f:qZ c G T cl k X)(h:c.Fl i x=true):X.N[i]?=some x/\L2.Loc X.env.scope x/\((X.fn x=true/\X.fz x=false)\/X.env.scope.names.lookup x=some .local):=by unfold CK.Fl at h;simp only[aB,p9,bG,lI]at h;obtain⟨⟨j,o⟩,q⟩:=h;refine⟨by rw[f.N];exact j,?_,?_⟩;unfold L2.Loc;rw[f.sc];exact o;rw[f.sc,f.fn,f.fz];exact q
def qZ.gl(f:qZ c G T cl k X)(h:c.gl x=true):Gl X x:=by unfold CK.gl at h;simp only[bG]at h;unfold Gl Env.kindOf;rw[f.sc];exact h
theorem Jv(f:qZ c G T cl k X):∀{tg:gd} {j:lj},He c tg j=true->OC X j (MB tg)/\(assignEach j X.env).length=tg.length/\_I (λx=>x.1) (assignEach j X.env)=none
 |[],[],_=>⟨Kv,rfl,rfl⟩
 |[],e::j,h=>by simp[He]at h
 |i::is,[],h=>by simp[He]at h
 |i::is,e::j,h=>by
  cases e with
  |Name x p=>
   rw[He,aB]at h;obtain⟨o,q⟩:=h;obtain⟨r,s,u⟩:=f.Fl o;obtain⟨y,B,E⟩:=Jv f q;refine⟨GH f.mo.nd r s u y rfl,?_,?_⟩;show(assignEach j X.env).length+1=is.length+1;rw[B];show _I (λx:Bool×(Value->Sem Unit)=>x.1) ((false,assign (.Name x p) X.env)::assignEach j X.env)=none;rw[TW];simp only[ub,k3,E,Option.map_none]
  |_=>simp[He]at h
def NB{q:Bool}(f:qZ c G T cl k X)(h:Vp c q tg j=true):PG X j (gT X.K q tg):=by
 cases j with
 |Name x p=>
  unfold Vp at h;simp only[aB]at h;obtain⟨r,o⟩:=h;split at o;rename_i i;obtain⟨s,u,y⟩:=f.Fl o;cases q with
  |true=>cases r
  |false=>exact Te f.mo.nd s u y
  cases o
 |Tuple J L p=>
  rw[Vp,aB]at h;obtain⟨r,o⟩:=h;obtain⟨B,E,H⟩:=Jv f o;cases r;exact WT f.mo.calm B E H
 |_=>simp[Vp]at h
def NC(h:Nu N sc scope own=true):tK N sc scope own:=by unfold Nu at h;simp only[aB,bG,c_,p9,lI,v_]at h;obtain⟨⟨⟨⟨o,r⟩,s⟩,u⟩,B⟩:=h;refine⟨o,r,s,λy j E=>(u y j).resolve_left λz=>z E,λy j H=>(B y j).resolve_left λz=> ?_⟩;rcases H with q|q<;>simp[q]at z
def lH(h:rD iter=true):∀x,foldedSetIterable iter env x=pure x:=by intro x;cases iter<;>first|rfl|cases h
def Fo(h:Hd j=true):attributeBase j x env w=w:=by unfold attributeBase;split;simp[Hd]at h;rfl
def Fp(h:plainT x=true):∀j,PySem.isTrue x env j=(do let v<-j;standAt x.pos;holding [v] (truthy v)):=by
 intro j;cases x with
 |UnaryOp o e p=>cases o<;>first|rfl|cases h
 |BoolOp=>cases h
 |IfExp=>cases h
 |Compare=>cases h
 |_=>rfl
variable (G T cl) in
def Rx(X:Cx)(h:IE):In->Prop
 |.e false x=>PE X x (tI G T cl h)
 |.e true x=>PT X x (tT G T cl h)
 |.a xs=>PA X xs (Kq G T cl h)
 |.i tg it=>PI X tg it (tW G T cl (Qo h) h)
def iX(j:plainT x=true)(h:PE X x (tI G T cl o)):Rx G T cl X o (.e t x):=by
 cases t with
 |false=>exact h
 |true=>exact WC h (Fp j)
def Hj(h:PE X x (tI G T cl j))(h':PT X x (tT G T cl j)):Rx G T cl X j (.e t x):=by
 cases t with
 |false=>exact h
 |true=>exact h'
def yG{y:Bool}(f:qZ c G T cl k X)(h:Qq c y tg n j scope=true):∃o:List (Str×Nat),tK X.N X.env.scope scope o/\(∀s H C r u,PG (X.lM s H scope (compEnvC scope r C X.env) u) j (gT X.K y tg))/\(∀i∈tg,i∈o.map (·.2))/\(∀i∈o.map (·.2),i∈tg)/\tg.length=n:=by unfold Qq at h;simp only[aB,bG]at h;obtain⟨⟨⟨E,J⟩,M⟩,L⟩:=h;have B:((Qp j).zip tg).map (·.2)=tg:=wP (by omega);refine⟨(Qp j).zip tg,?_,λs H C r u=>NB (f.lM s H scope C r u) J,λi q=>by rw[B];exact q,λi q=>by rw[B]at q;exact q,L⟩;rw[f.N,f.sc];exact NC E
def aay(h:PE X x (tI G T cl o)->PE X r (tI G T cl j))(h':PT X x (tT G T cl o)->PT X r (tT G T cl j))(q:Rx G T cl X o (.e t x)):Rx G T cl X j (.e t r):=by
 cases t with
 |false=>exact h q
 |true=>exact h' q
def Ry(h:PE X x (tI G T cl j)->PE X y (tI G T cl o)->PE X u (tI G T cl s))(h':PT X x (tT G T cl j)->PT X y (tT G T cl o)->PT X u (tT G T cl s))(q:Rx G T cl X j (.e t x))(r:Rx G T cl X o (.e t y)):Rx G T cl X s (.e t u):=by
 cases t with
 |false=>exact h q r
 |true=>exact h' q r
def cS(ir):∀{c:CK} {X:Cx} {j:In},qZ c G T cl k X->ck ir c j=true->Rx G T cl X ir j:=by
 induction ir with
 |v i=>intro c X j f h;refine cm j h λt x h=>qK x h λn p h=> ?_;obtain⟨h1,L,E,U⟩:=f.Bh h;exact iX rfl (Zq h1 L E U)
 |int n=>intro c X j f h;refine cm j h λt x h=>Ny x h λm i p h=> ?_;exact kl m h λh=>iX rfl Wi
 |bl n=>intro c X j f h;refine cm j h λt x h=>Ny x h λm i p h=> ?_;exact kl m h λh=>iX rfl Zr
 |cw=>intro c X j f h;refine cm j h λt x h=>Hh x h λi p h=> ?_;exact iX rfl Wj
 |uj n v=>intro c X j f h;refine cm j h λt x h=>pX x h λp E L=> ?_;rw[<-f.gn]at E⊢;exact iX rfl (SR f.mo (oF L) (f.gl E))
 |fn g=>intro c X j f h;refine cm j h λt x h=>pX x h λp E L=> ?_;rw[<-f.nm]at E⊢;exact iX rfl (Zs f.mo (f.glob▸L) (f.gl E))
 |bin o a b u B=>intro c X j f h;refine cm j h λt x h=>Qr x h λJ op M p h=> ?_;exact kl op h λh=>iX rfl (Wl (u f (a1 h)) (B f (a2 h)))
 |neg a u=>intro c X j f h;refine cm j h λt x h=>Hi x h λJ p h=> ?_;exact iX rfl (Wo (u f h))
 |inv a u=>intro c X j f h;refine cm j h λt x h=>Hi x h λJ p h=> ?_;exact iX rfl (Wq (u f h))
 |cmp o a b u B=>intro c X j f h;refine cm j h λt x h=>xq x h λJ M p h=> ?_;exact Hj (Wr f.mo (u f (a1 h)) (B f (a2 h))) (Ws f.mo (u f (a1 h)) (B f (a2 h)))
 |LZ a u=>intro c X j f h;refine cm j h λt x h=>xq x h λJ M p h=> ?_;exact Hh M h λi O h=>Hj (Wt (u f h)) (Wu (u f h))
 |xM a u=>intro c X j f h;refine cm j h λt x h=>xq x h λJ M p h=> ?_;exact Hh M h λi O h=>Hj (SW (u f h)) (SX (u f h))
 |Lj a b u B=>intro c X j f h;refine cm j h λt x h=>xq x h λJ M p h=> ?_;exact Hj (Wv f.mo (a1 h) (u f (a1 (a2 h))) (B f (a2 (a2 h)))) (Ww f.mo (a1 h) (u f (a1 (a2 h))) (B f (a2 (a2 h))))
 |inD a d u=>intro c X j f h;refine cm j h λt x h=>xq x h λJ M p h=> ?_;refine pX M h ?_;intro O E h;rw[<-f.dn]at E⊢;exact Hj (WM (f.di d (a1 h)) (f.gl E) (u f (a2 h))) (WN (f.di d (a1 h)) (f.gl E) (u f (a2 h)))
 |qh a d u=>intro c X j f h;refine cm j h λt x h=>xq x h λJ M p h=> ?_;refine pX M h ?_;intro O E h;rw[<-f.dn]at E⊢;exact Hj (Mu (f.di d (a1 h)) (f.gl E) (u f (a2 h))) (Mv (f.di d (a1 h)) (f.gl E) (u f (a2 h)))
 |chain a b d u B P=>intro c X j f h;refine cm j h λt x h=>Ju x h λJ o bs p h=> ?_;refine Fm o h λo1 o2 h=>kl o1 h λh=> ?_;refine kl o2 h λh=>Fm bs h λM ed h=> ?_;exact Hj (Pr f.mo (u f (a1 h)) (B f (a1 (a2 h))) (P f (a2 (a2 h)))) (Pu f.mo (u f (a1 h)) (B f (a1 (a2 h))) (P f (a2 (a2 h))))
 |not a u=>intro c X j f h;refine cm j h λt x h=>Hi x h λJ p h=> ?_;exact aay (λq=>Wx q) (λq=>Wy q) (u f h)
 |and a b u B=>intro c X j f h;refine cm j h λt x h=>NA x h λJ M p h=> ?_;exact Ry (λq r=>Wz q r) (λq r=>WA q r) (u f (a1 h)) (B f (a2 h))
 |or a b u B=>intro c X j f h;refine cm j h λt x h=>NA x h λJ M p h=> ?_;exact Ry (λq r=>Zu q r) (λq r=>Zv q r) (u f (a1 h)) (B f (a2 h))
 |tQ q a b V u B=>intro c X j f h;refine cm j h λt x h=>kl t h λh=> ?_;exact Qt x h λeq J M p h=>(WB (V f (a1 h)) (u f (a1 (a2 h))) (B f (a2 (a2 h))):PE _ _ _)
 |aK a g u=>intro c X j f h;refine cm j h λt x h=>Aw x h λJ n p h=> ?_;exact kl n h λh=>iX rfl (WD f.mo (a1 h) (u f (a2 h)))
 |Od a g u=>intro c X j f h;refine cm j h λt x h=>Aw x h λJ n p h=> ?_;exact kl n h λh=>iX rfl (Rg f.mo (a1 h) (u f (a2 h)))
 |ix a b u B=>intro c X j f h;refine cm j h λt x h=>oC x h λJ M p h=> ?_;exact iX rfl (Zw (a1 h) (u f (a1 (a2 h))) (B f (a2 (a2 h))))
 |Oe a b u B=>intro c X j f h;refine cm j h λt x h=>oC x h λJ Z p h=> ?_;refine Hf Z h λS A K O h=>uR S h λM h=> ?_;refine uS A h λh=>uS K h λh=> ?_;exact iX rfl (WE (u f (a1 h)) (B f (a2 h)))
 |D9 a b u B=>intro c X j f h;refine cm j h λt x h=>oC x h λJ Z p h=> ?_;refine Hf Z h λS A K O h=>uR A h λM h=> ?_;refine uS S h λh=>uS K h λh=> ?_;exact iX rfl (WG (u f (a1 h)) (B f (a2 h)))
 |sl a b d u B P=>intro c X j f h;refine cm j h λt x h=>oC x h λJ Z p h=> ?_;refine Hf Z h λS A K O h=>uR S h λM h=> ?_;refine uR A h λed h=>uS K h λh=> ?_;exact iX rfl (Zy (u f (a1 h)) (B f (a1 (a2 h))) (P f (a2 (a2 h))))
 |call g as Q=>intro c X j f h;refine cm j h λt x h=>lG x h λfe xs p h=> ?_;refine pX fe h λO E h=>qR xs h λJ Z h=> ?_;rw[<-f.nm]at E⊢;exact iX rfl (s_call f.mo (f.glob▸a1 h) (f.gl E) (a1 (a2 h)) (Q f (a2 (a2 h))))
 |aI g o as za Q=>intro c X j f h;refine cm j h λt x h=>Ax x h λeo xs ap p h6 h=> ?_;refine qR xs h ?_;intro J Z h;rw[<-f.nm];exact iX rfl (S4 f.mo (f.aI▸a1 h) (a1 (a2 h)) (a1 (a2 (a2 h))) (oF (a1 (a2 (a2 (a2 h))))) h6 (za f (a1 (a2 (a2 (a2 (a2 h)))))) (Q f (a2 (a2 (a2 (a2 (a2 h)))))))
 |i0 i as Q=>intro c X j f h;refine cm j h λt x h=>lG x h λfe xs p h=> ?_;refine qK fe h λn O h=>qR xs h λJ Z h=> ?_;obtain⟨N,W,e,l⟩:=f.Bh (a1 h);exact iX rfl (Px f.mo N W e l (a1 (a2 h)) (Q f (a2 (a2 h))))
 |len a u=>intro c X j f h;refine cm j h λt x h=>uT x h λJ p O L E h=> ?_;exact iX rfl (WI f.bi (f.gl L) E (u f h))
 |abs a u=>intro c X j f h;refine cm j h λt x h=>uT x h λJ p O L E h=> ?_;exact iX rfl (WJ f.bi (f.gl L) E (u f h))
 |Kj a u=>intro c X j f h;refine cm j h λt x h=>uT x h λJ p O L E h=> ?_;exact iX rfl (S3 f.mo f.bi (f.gl L) E (u f h))
 |sum a u=>intro c X j f h;refine cm j h λt x h=>uT x h λJ p O L E h=> ?_;exact iX rfl (WK f.mo f.bi (f.gl L) E (u f h))
 |min2 a b u B=>intro c X j f h;refine cm j h λt x h=>Ds x h λJ M p O L E U h=> ?_;exact iX rfl (S1 f.mo f.bi (f.gl L) E U (u f (a1 h)) (B f (a2 h)))
 |max2 a b u B=>intro c X j f h;refine cm j h λt x h=>Ds x h λJ M p O L E U h=> ?_;exact iX rfl (S2 f.mo f.bi (f.gl L) E U (u f (a1 h)) (B f (a2 h)))
 |rk a u=>intro c X j f h;refine cm j h λt x h=>Ax x h λJ xs ap p E h=> ?_;exact oD xs h λh=>iX rfl (S7 (Fo (a1 h)) E (u f (a2 h)))
 |index a b u B=>intro c X j f h;refine cm j h λt x h=>Ax x h λJ xs ap p U h=> ?_;exact qS xs h λM h=>iX rfl (Pz (a1 h) (a1 (a2 h)) U (u f (a1 (a2 (a2 h)))) (B f (a2 (a2 (a2 h)))))
 |kq d a u=>intro c X j f h;refine cm j h λt x h=>Ax x h λy xs ap p h7 h=> ?_;refine qS xs h λJ h=>pX y h λO I h=> ?_;rw[<-f.dn]at I⊢;exact iX rfl (S8 (f.di d (a1 h)) (f.Et▸a1 (a2 h)) (f.gl I) (a1 (a2 (a2 h))) h7 (u f (a2 (a2 (a2 h)))))
 |Gm d a u=>intro c X j f h;refine cm j h λt x h=>oC x h λy J p h=> ?_;refine pX y h ?_;intro O E h;rw[<-f.dn]at E⊢;exact iX rfl (WO f.mo (f.di d (a1 h)) (f.gl E) (a1 (a2 h)) (u f (a2 (a2 h))))
 |Kk d a u=>intro c X j f h;refine cm j h λt x h=>oC x h λy J p h=> ?_;refine pX y h ?_;intro O E h;rw[<-f.dn]at E⊢;exact iX rfl (WQ (f.tu d (a1 h)) (f.gl E) (a1 (a2 h)) (u f (a2 (a2 h))))
 |list Z F=>intro c X j f h;refine cm j h λt x h=>Qu x h λxs p h=> ?_;exact iX rfl (S0 (F f h))
 |tup Z F=>intro c X j f h;refine cm j h λt x h=>yF x h λxs i p h=> ?_;exact iX rfl (WH (F f h))
 |lc tg it zb D Y=>intro c X j f h;refine cm j h λt x h=>Dt x h λex zc w R scope p h=> ?_;refine oD R h ?_;intro h;obtain⟨zd,N,W,e,l,q5⟩:=yG f (a1 h);exact iX rfl (Zz f.mo (D f (a1 (a2 (a2 h)))) N W (λs H C z fp=>Y (f.lM s H _ C z fp) (a2 (a2 (a2 h)))) e l q5 (lH (a1 (a2 h))))
 |rm tg it q zb D V Y=>intro c X j f h;refine cm j h λt x h=>Dt x h λex zc w R scope p h=> ?_;refine qS R h ?_;intro eq h;obtain⟨zd,N,W,e,l,q5⟩:=yG f (a1 h);exact iX rfl (Tg f.mo (D f (a1 (a2 (a2 h)))) N W (λs H C z fp=>V (f.lM s H _ C z fp) (a1 (a2 (a2 (a2 h))))) (λs H C z fp=>Y (f.lM s H _ C z fp) (a2 (a2 (a2 (a2 h))))) e l q5 (lH (a1 (a2 h))))
 |lam g zf=>intro c X j f h;cases(show false=true from h)
 |nil=>intro c X j f h;refine Rv j h λxs h=>oD xs h λh=> ?_;exact(Wm:PA _ _ _)
 |cons a r u ze=>intro c X j f h;refine Rv j h λxs h=>qR xs h λJ er h=> ?_;exact(SU (a1 h) (u f (a1 (a2 h))) (ze f (a2 (a2 h))):PA _ _ _)
 |seq a u=>intro c X j f h;exact xF j h λt x h=>(WR f.mo (u f h):PI _ _ _ _)
 |qi a u=>intro c X j f h;refine xF j h λt x h=>uT x h λJ p O L E h=> ?_;exact(S9 f.bi (f.gl L) E (u f h):PI _ _ _ _)
 |D_ a b u B=>intro c X j f h;refine xF j h λt x h=>Ds x h λJ M p O L E U h=> ?_;exact(S_ f.bi (f.gl L) E U (u f (a1 h)) (B f (a2 h)):PI _ _ _ _)
 |uk a b d u B P=>intro c X j f h;refine xF j h λt x h=>Nz x h λJ M ed p O L E U I h=> ?_;exact(Tb f.bi (f.gl L) E U I (u f (a1 h)) (B f (a1 (a2 h))) (P f (a2 (a2 h))):PI _ _ _ _)
 |enum a u=>intro c X j f h;refine xF j h λt x h=>yF t h λZ n p0 h=> ?_;exact uT x h λJ p O L E h=>(Tc f.bi (f.gl L) E (u f h):PI _ _ _ _)
 |zip2 a b u B=>intro c X j f h;refine xF j h λt x h=>yF t h λZ n p0 h=> ?_;exact Ds x h λJ M p O L E U h=>(Td f.bi (f.gl L) E U (u f (a1 h)) (B f (a2 h)):PI _ _ _ _)
 |AU a b d u B P=>intro c X j f h;refine xF j h λt x h=>yF t h λZ n p0 h=> ?_;exact Nz x h λJ M ed p O L E U I h=>(Tq f.bi (f.gl L) E U I (u f (a1 h)) (B f (a1 (a2 h))) (P f (a2 (a2 h))):PI _ _ _ _)
 |rev a u=>intro c X j f h;refine xF j h λt x h=>uT x h λJ p O L E h=> ?_;exact(WS f.bi (f.gl L) E (u f h):PI _ _ _ _)
end
section
noncomputable def bQ:TyM->TyM
 |.Expr (.Constant (.str _) _ _) _::r=>bQ r
 |l=>l
noncomputable def lh:Expr->Bool
 |.ListComp _ _ _ _=>false
 |.SetComp _ _ _ _=>false
 |.DictComp _ _ _ _ _=>false
 |_=>true
noncomputable def UB(c:CK)(x:Str)(p:Pos):Expr->Bool
 |.ListComp _ _ scope pos=>(if c.sc.kind.isAnnotationScope then ScopeKind.function else c.sc.kind)==.function&&c.sc.names.lookup x==some .local&&p.line==pos.line&& !(scope.names.any λ(n,k)=>n==x&&(k==.local||k==.cell))
 |_=>false
noncomputable def ND:Expr->Bool
 |.ListComp _ _ _ _=>true
 |_=>false
noncomputable def QA:IE->Nat
 |.cons _ r=>QA r+1
 |_=>0
structure Kt where
 asg:lj->Expr->Pos->Bool:=λ_ _ _=>false
 aug:Expr->Operator->Expr->Pos->Bool:=λ_ _ _ _=>false
 ex:Expr->Pos->Bool:=λ_ _=>false
 if_:Expr->TyM->TyM->Pos->Bool:=λ_ _ _ _=>false
 kr:Expr->Expr->TyM->TyM->Pos->Bool:=λ_ _ _ _ _=>false
 wh:Expr->TyM->TyM->Pos->Bool:=λ_ _ _ _=>false
 rt:Option Expr->Pos->Bool:=λ_ _=>false
 fn:Str->Arguments->TyM->lj->Option Expr->List TypeParam->Scope->Option Scope->Str->Pos->Bool:=λ_ _ _ _ _ _ _ _ _ _=>false
@[irreducible] noncomputable def dY(x:Stmt)(K:Kt):Bool:=match x with
 |.Assign a b p=>K.asg a b p
 |.AugAssign a o b p=>K.aug a o b p
 |.Expr a p=>K.ex a p
 |.If a b c p=>K.if_ a b c p
 |.For a b c d p=>K.kr a b c d p
 |.While a b c p=>K.wh a b c p
 |.Return a p=>K.rt a p
 |.FunctionDef a b c d e f g u i p=>K.fn a b c d e f g u i p
 |_=>false
def xG(x){K:Kt}{P:Stmt->Prop}(h:dY x K=true)(j:∀a b p,K.asg a b p=true->P (.Assign a b p))(q:∀a o b p,K.aug a o b p=true->P (.AugAssign a o b p))(r:∀a p,K.ex a p=true->P (.Expr a p))(s:∀a b c p,K.if_ a b c p=true->P (.If a b c p))(y:∀a b c d p,K.kr a b c d p=true->P (.For a b c d p))(B:∀a b c p,K.wh a b c p=true->P (.While a b c p))(E:∀a p,K.rt a p=true->P (.Return a p))(G:∀a b c d e f g u i p,K.fn a b c d e f g u i p=true->P (.FunctionDef a b c d e f g u i p)):P x:=by
 unfold dY at h;cases x with
 |Assign a b p=>exact j a b p h
 |AugAssign a o b p=>exact q a o b p h
 |Expr a p=>exact r a p h
 |If a b c p=>exact s a b c p h
 |For a b c d p=>exact y a b c d p h
 |While a b c p=>exact B a b c p h
 |Return a p=>exact E a p h
 |FunctionDef a b c d e f g u i p=>exact G a b c d e f g u i p h
 |_=>exact ff h
@[irreducible] def UC(x:Stmt)(k:lj->Expr->Bool):Bool:=dY x {asg:=λa b _=>k a b}
@[elab_as_elim] def QB(x){k:lj->Expr->Bool}{P:Stmt->Prop}(h:UC x k=true)(q:∀a b p,k a b=true->P (.Assign a b p)):P x:=by unfold UC at h;apply xG x h<;>first|exact q|(intros;exact ff (by assumption))
@[irreducible] def UD(x:Stmt)(k:Expr->Operator->Expr->Bool):Bool:=dY x {aug:=λa o b _=>k a o b}
@[elab_as_elim] def QC(x){k:Expr->Operator->Expr->Bool}{P:Stmt->Prop}(h:UD x k=true)(q:∀a o b p,k a o b=true->P (.AugAssign a o b p)):P x:=by unfold UD at h;apply xG x h<;>first|exact q|(intros;exact ff (by assumption))
@[irreducible] def YD(x:Stmt)(k:Expr->Bool):Bool:=dY x {ex:=λa _=>k a}
@[elab_as_elim] def NF(x){k:Expr->Bool}{P:Stmt->Prop}(h:YD x k=true)(q:∀a p,k a=true->P (.Expr a p)):P x:=by unfold YD at h;apply xG x h<;>first|exact q|(intros;exact ff (by assumption))
@[irreducible] def dIf(x:Stmt)(k:Expr->TyM->TyM->Bool):Bool:=dY x {if_:=λa b c _=>k a b c}
@[elab_as_elim] def UE(x){k:Expr->TyM->TyM->Bool}{P:Stmt->Prop}(h:dIf x k=true)(q:∀a b c p,k a b c=true->P (.If a b c p)):P x:=by unfold dIf at h;apply xG x h<;>first|exact q|(intros;exact ff (by assumption))
@[irreducible] def UG(x:Stmt)(k:Expr->Expr->TyM->TyM->Bool):Bool:=dY x {kr:=λa b c d _=>k a b c d}
@[elab_as_elim] def QD(x){k:Expr->Expr->TyM->TyM->Bool}{P:Stmt->Prop}(h:UG x k=true)(q:∀a b c d p,k a b c d=true->P (.For a b c d p)):P x:=by unfold UG at h;apply xG x h<;>first|exact q|(intros;exact ff (by assumption))
@[irreducible] def dWh(x:Stmt)(k:Expr->TyM->TyM->Bool):Bool:=dY x {wh:=λa b c _=>k a b c}
@[elab_as_elim] def UH(x){k:Expr->TyM->TyM->Bool}{P:Stmt->Prop}(h:dWh x k=true)(q:∀a b c p,k a b c=true->P (.While a b c p)):P x:=by unfold dWh at h;apply xG x h<;>first|exact q|(intros;exact ff (by assumption))
@[irreducible] def XS(x:Stmt)(k:Option Expr->Bool):Bool:=dY x {rt:=λa _=>k a}
@[elab_as_elim] def Hk(x){k:Option Expr->Bool}{P:Stmt->Prop}(h:XS x k=true)(q:∀a p,k a=true->P (.Return a p)):P x:=by unfold XS at h;apply xG x h<;>first|exact q|(intros;exact ff (by assumption))
@[irreducible] def UI(x:Stmt)(k:Str->Arguments->TyM->lj->Option Expr->List TypeParam->Scope->Option Scope->Str->Bool):Bool:=dY x {fn:=λa b c d e f g u i _=>k a b c d e f g u i}
@[elab_as_elim] def QE(x){k:Str->Arguments->TyM->lj->Option Expr->List TypeParam->Scope->Option Scope->Str->Bool}{P:Stmt->Prop}(h:UI x k=true)(q:∀a b c d e f g u i p,k a b c d e f g u i=true->P (.FunctionDef a b c d e f g u i p)):P x:=by unfold UI at h;apply xG x h<;>first|exact q|(intros;exact ff (by assumption))
structure Ki where
 cw:Unit->Bool:=λ_=>false
 lc:gd->IE->IE->Bool:=λ_ _ _=>false
 rm:gd->IE->IE->IE->Bool:=λ_ _ _ _=>false
 call:F->IE->Bool:=λ_ _=>false
 cons:IE->IE->Bool:=λ_ _=>false
 lam:F->gd->Bool:=λ_ _=>false
@[irreducible] noncomputable def dZ(x:IE)(K:Ki):Bool:=match x with
 |.cw=>K.cw ()
 |.lc tg it elt=>K.lc tg it elt
 |.rm tg it c elt=>K.rm tg it c elt
 |.call g as=>K.call g as
 |.cons g as=>K.cons g as
 |.lam g as=>K.lam g as
 |_=>false
def Fq(x){K:Ki}{P:IE->Prop}(h:dZ x K=true)(q:K.cw ()=true->P (.cw))(r:∀tg o j,K.lc tg o j=true->P (.lc tg o j))(s:∀tg o c j,K.rm tg o c j=true->P (.rm tg o c j))(u:∀g as,K.call g as=true->P (.call g as))(y:∀g as,K.cons g as=true->P (.cons g as))(B:∀g as,K.lam g as=true->P (.lam g as)):P x:=by
 unfold dZ at h;cases x with
 |cw=>exact q h
 |lc tg o j=>exact r tg o j h
 |rm tg o c j=>exact s tg o c j h
 |call g as=>exact u g as h
 |cons g as=>exact y g as h
 |lam g as=>exact B g as h
 |_=>exact ff h
@[irreducible] def Hl(x:IE)(k:Bool):Bool:=dZ x {cw:=λ_=>k}
@[elab_as_elim] def K6(x){k:Bool}{P:IE->Prop}(h:Hl x k=true)(q:k=true->P (.cw)):P x:=by unfold Hl at h;apply Fq x h<;>first|exact q|(intros;exact ff (by assumption))
@[irreducible] def NG(x:IE)(k:F->IE->Bool):Bool:=dZ x {call:=λg as=>k g as}
@[elab_as_elim] def NH(x){k:F->IE->Bool}{P:IE->Prop}(h:NG x k=true)(q:∀g as,k g as=true->P (.call g as)):P x:=by unfold NG at h;apply Fq x h<;>first|exact q|(intros;exact ff (by assumption))
@[irreducible] def NJ(x:IE)(k:IE->IE->Bool):Bool:=dZ x {cons:=λg as=>k g as}
@[elab_as_elim] def NK(x){k:IE->IE->Bool}{P:IE->Prop}(h:NJ x k=true)(q:∀g as,k g as=true->P (.cons g as)):P x:=by unfold NJ at h;apply Fq x h<;>first|exact q|(intros;exact ff (by assumption))
@[irreducible] def UJ(x:IE)(k:F->gd->Bool):Bool:=dZ x {lam:=λg as=>k g as}
@[elab_as_elim] def QF(x){k:F->gd->Bool}{P:IE->Prop}(h:UJ x k=true)(q:∀g as,k g as=true->P (.lam g as)):P x:=by unfold UJ at h;apply Fq x h<;>first|exact q|(intros;exact ff (by assumption))
@[irreducible] def Vr(s:Stmt)(k:Expr->Expr->Bool):Bool:=UC s λa b=>d1 a λa=>k a b
@[elab_as_elim] def Du(s){k:Expr->Expr->Bool}{P:Stmt->Prop}(h:Vr s k=true)(q:∀a b p,k a b=true->P (.Assign [a] b p)):P s:=by unfold Vr at h;refine QB s h λa b p h=>qS a h λa h=> ?_;exact q a b p h
@[irreducible] def XT(s:Stmt)(k:Str->Pos->Expr->Bool):Bool:=Vr s λa b=>Yz a λn p=>k n p b
@[elab_as_elim] def Hm(s){k:Str->Pos->Expr->Bool}{P:Stmt->Prop}(h:XT s k=true)(q:∀n p b c,k n p b=true->P (.Assign [.Name n p] b c)):P s:=by unfold XT at h;refine Du s h λa b c h=>Nw a h λn p h=> ?_;exact q n p b c h
@[irreducible] def XU(m:Str)(s:Stmt)(k:Str->Pos->lj->Bool):Bool:=YD s λx=>UA m x λy xs=>Yz y λn p=>k n p xs
@[elab_as_elim] def Hn(s){m:Str}{k:Str->Pos->lj->Bool}{P:Stmt->Prop}(h:XU m s k=true)(q:∀n p xs c j o,(c.endLine==j.line)=true->k n p xs=true->P (.Expr (.Call (.Attribute (.Name n p) m c) xs [] j) o)):P s:=by unfold XU at h;refine NF s h λx o h=>Ax x h λy xs c j e h=> ?_;exact Nw y h λn p h=>q n p xs c j o e h
@[irreducible] def YE(s:Stmt)(k:Expr->Expr->lj->Bool):Bool:=YD s λx=>t9 x λy xs _=>dc xs λa r=>k y a r
@[elab_as_elim] def NL(s){k:Expr->Expr->lj->Bool}{P:Stmt->Prop}(h:YE s k=true)(q:∀y a r c j,k y a r=true->P (.Expr (.Call y (a::r) [] c) j)):P s:=by unfold YE at h;refine NF s h λx j h=>lG x h λy xs c h=> ?_;exact qR xs h λa r h=>q y a r c j h
@[irreducible] def Jw(x:IE):Bool:=dZ x {lc:=λ_ _ _=>true,rm:=λ_ _ _ _=>true}
@[elab_as_elim] def NM(x){P:IE->Prop}(h:Jw x=true)(q:∀tg o j,P (.lc tg o j))(s:∀tg o c j,P (.rm tg o c j)):P x:=by unfold Jw at h;refine Fq x h (λr=>ff r) (λtg o j _=>q tg o j) (λtg o c j _=>s tg o c j) (λ_ _ r=>ff r) (λ_ _ r=>ff r) (λ_ _ r=>ff r)
def Fs{a b:Bool}{P:Prop}(h:(a||b)=true)(q:a=true->P)(r:b=true->P):P:=(Bool.or_eq_true_iff.mp h).elim q r
def Rz(h:dE (.e t x) k=true):k t x=true:=by unfold dE at h;exact h
def Ay(ps:F->jR):IS->CK->TyM->Bool
 |.nil,c,st=>d0 (bQ st) true
 |.set i a r,c,st=>dc (bQ st) λs h=>XT s λn p j=>(lh j||(ND j&&Jw a))&&(c.Fl i n&&(ck a c (.e false j)&&Ay ps r c h))
 |.own i a r,c,st=>dc (bQ st) λs h=>XT s λn p j=>(lh j||(ND j&& !UB c n p j))&&(c.Fl i n&&(ck a c (.e false j)&&Ay ps r c h))
 |.pj i r,c,st=>Ay ps r c st
 |.aug i o a r,c,st=>dc (bQ st) λs h=>UD s λtg M j=>Nv tg λn=>dq M (Ew o) (c.Fl i n&&(ck a c (.e false j)&&Ay ps r c h))
 |.app i a r,c,st=>dc (bQ st) λs h=>XU "append" s λn _ xs=>d1 xs λj=>c.Bh i n&&(notStar j&&(ck a c (.e false j)&&Ay ps r c h))
 |.ext i a r,c,st=>dc (bQ st) λs h=>XU "extend" s λn _ xs=>d1 xs λj=>c.Bh i n&&(notStar j&&(ck a c (.e false j)&&Ay ps r c h))
 |.put i ix a r,c,st=>dc (bQ st) λs h=>Vr s λtg j=>Bj tg λy G=>Nv y λn=>lh j&&(ja G&&(c.Bh i n&&(ck ix c (.e false G)&&(ck a c (.e false j)&&Ay ps r c h))))
 |.Cy i l ix a r,c,st=>dc (bQ st) λs h=>Vr s λtg j=>Bj tg λz G=>Uw z λy m _=>dq m (Of l) (Nv y λn=>lh j&&(ja G&&(c.Bh i n&&(ck ix c (.e false G)&&(ck a c (.e false j)&&Ay ps r c h)))))
 |.Kl i a r,c,st=>dc (bQ st) λs h=>Vr s λtg j=>Uw tg λy m _=>dq m "flags" (Nv y λn=>lh j&&(c.Bh i n&&(ck a c (.e false j)&&Ay ps r c h)))
 |.ex g o as r,c,st=>dc (bQ st) λs h=>(XU (c.S.nm g) s λn p xs=>dc xs λj u=>c.S.aI g&&((j::u).all notStar&&(decide ((j::u).length<30)&&(decide (QA as≠(ps g).length)&&(ck o c (.e false (.Name n p))&&(ck as c (.a (j::u))&&Ay ps r c h))))))||(Hl o true&&YE s λy j u=>dG c (c.S.nm g) y (c.S.glob g&&((j::u).all notStar&&(ck as c (.a (j::u))&&Ay ps r c h))))
 |.Vm i as r,c,st=>dc (bQ st) λs h=>YE s λy j u=>Nv y λn=>c.Bh i n&&((j::u).all notStar&&(ck as c (.a (j::u))&&Ay ps r c h))
 |.ite q a b r,c,st=>dc (bQ st) λs h=>dIf s λL O H=>ck q c (.e true L)&&(Ay ps a c O&&(Ay ps b c H&&Ay ps r c h))
 |.kr tg it body r,c,st=>dc (bQ st) λs h=>UG s λJ B H E=>d0 E (rD B&&(Vp c (Qo it) tg J&&(decide (tg.length=MC it)&&(ck it c (.i J B)&&(Ay ps body c H&&Ay ps r c h)))))
 |.Vn n q body r,c,st=>dc (bQ st) λs h=>dWh s λL H E=>d0 E (ck q c (.e true L)&&(Ay ps body c H&&Ay ps r c h))
 |.ret a,c,st=>dc (bQ st) λs h=>d0 h (XS s λo=>Qx o λj=>ck a c (.e false j))
 |.AV i,c,st=>dc (bQ st) λs h=>d0 h (XS s λo=>Qx o λj=>Nv j λn=>c.Bh i n)
 |.rn i g caps r,c,st=>false
variable {G:Gx} {T:pG} {cl:D8} {k:Nat} {X:Cx} {c:CK}
def Az:∀{j:TyM},gG X (bQ j) (tS G T cl o)->gG X j (tS G T cl o):=by
 intro j;induction j with
 |nil=>exact id
 |cons s r q=>
  intro h;unfold bQ at h;split at h;rename_i e;cases e;exact WW (q h);exact h
def fB(h:lh j=true):swapsWith j t l env=pure false:=by cases j<;>first|rfl|cases h
def QG:∀{as:IE} {xs:lC},ks T cl e M as=some xs->xs.length=QA as:=by
 intro as;induction as with
 |cons a r _ j=>
  intro xs h;rw[mW]at h;split at h;rename_i q o;cases h;simp[QA,j o];cases h
 |nil=>intro xs h;rw[rp]at h;cases h;rfl
 |_=>intro xs h;exact nomatch (show none=some _ from h)
def nS{j:IS}{o:TyM}{k:Stmt->TyM->Bool}(h:dc (bQ o) k=true)(q:∀s r,k s r=true->gG X (s::r) (tS G T cl j)):gG X o (tS G T cl j):=Az (@qR _ _ _ (λl=>gG X l (tS G T cl j)) h q)
def QH(f:qZ c G T cl k X):swapsWith (.ListComp ex h scope pos) (some (.Name x p)) l X.env=pure (UB c x p (.ListComp ex h scope pos)):=by show pure (X.env.blockKind==.function&&X.env.kindOf x==some .local&&p.line==pos.line&& !(scope.names.any λ(n,k)=>n==x&&(k==.local||k==.cell)))=_;unfold UB Env.blockKind Env.kindOf;rw[f.sc]
def NN(f:qZ c G T cl k X)(h:ND j=true):swapsWith j (some (.Name x p)) l X.env=pure (UB c x p j):=by
 cases j with
 |ListComp o q scope r=>exact QH f
 |_=>cases h
def XW(h:UB c x p j=true):c.sc.names.lookup x=some .local:=by
 cases j with
 |ListComp o q scope r=>exact beq_iff_eq.mp (a2 (a1 (a1 h)))
 |_=>cases h
end
section
variable {G:Gx} {T:pG} {cl:D8} {k:Nat} {X:Cx} {c:CK}
def Jx(h:ja i=true):∀v,assign (.Subscript o i p) env v=(do
   let j<-holding [v] (eval o env)
   let q<-holding [v,j] (eval i env)
   standAt p
   holding [v,j,q] (setItem j q v)
   release [v,j,q] []):=by
 intro v
 cases i<;>first|rfl|cases h
def Jy(h:lh j=true):swapsWithSole [t] j l env=pure false:=by unfold swapsWithSole;exact fB h
def qZ.pass(f:qZ c G T cl k X):PassesOwn (model X.prog X.w) X.A X.env X.xe:=by rw[f.xe];exact PassesOwn.never
def qZ.gbq(f:qZ c G T cl k X)(h:c.S.glob g=true):G.glob g=true:=by rw[f.glob];exact h
def qZ.mtq(f:qZ c G T cl k X)(h:c.S.aI g=true):G.aI g=true:=by rw[f.aI];exact h
def UK(f:qZ c G T cl k X){i:Nat}{x:Str}{p pos:Pos}{a:IE}{r:IS}{y:Expr}{u:TyM}(J:(lh y||(ND y&&Jw a))=true)(W:c.Fl i x=true)(j:ck a c (.e false y)=true)(P:gG X u (tS G T cl r)):gG X (.Assign [.Name x p] y pos::u) (tS G T cl (.set i a r)):=by
 obtain⟨Q,A,K⟩:=f.Fl W;refine Fs J (λb=> ?_) (λJ=> ?_);exact Ri f.mo Q A K (fB b) (cS a f j) P;have o:=NN f (x:=x) (p:=p) (l:=pos.line) (a1 J);cases U:UB c x p y with
 |false=>rw[U]at o;exact Ri f.mo Q A K o (cS a f j) P
 |true=>
  rw[U]at o;have N:X.env.scope.names.lookup x=some .local:=by rw[f.sc];exact XW U
  clear U;revert j;refine NM a (a2 J) ?_ ?_;intro tg Y B j;have j:=Rz j;clear J;revert o;refine Dt y j λd Z L E scope g h=>oD E h λh o=> ?_;obtain⟨F,D,V,R,I,S⟩:=yG f (a1 h);exact PK f.mo Q N o (cS Y f (a1 (a2 (a2 h)))) D V (λs H C M O=>cS B (f.lM s H _ C M O) (a2 (a2 (a2 h)))) R I S (lH (a1 (a2 h))) P;intro tg Y q B j;have j:=Rz j;clear J;revert o;refine Dt y j λd Z L E scope g h=>qS E h λm h o=> ?_;obtain⟨F,D,V,R,I,S⟩:=yG f (a1 h);exact Kx f.mo Q N o (cS Y f (a1 (a2 (a2 h)))) D V (λs H C M O=>cS q (f.lM s H _ C M O) (a1 (a2 (a2 (a2 h))))) (λs H C M O=>cS B (f.lM s H _ C M O) (a2 (a2 (a2 (a2 h))))) R I S (lH (a1 (a2 h))) P
def UL(f:qZ c G T cl k X){i:Nat}{x:Str}{p pos:Pos}{a:IE}{r:IS}{j:Expr}{h:TyM}(o:(lh j||(ND j&& !UB c x p j))=true)(H:c.Fl i x=true)(q:ck a c (.e false j)=true)(s:gG X h (tS G T cl r)):gG X (.Assign [.Name x p] j pos::h) (tS G T cl (.own i a r)):=by obtain⟨u,y,B⟩:=f.Fl H;refine Fs o (λJ=> ?_) (λo=> ?_);exact Rj f.mo u y B (fB J) (cS a f q) s;have E:=NN f (x:=x) (p:=p) (l:=pos.line) (a1 o);rw[(lI _).mp (a2 o)]at E;exact Rj f.mo u y B E (cS a f q) s
def Ho(C:G.ps=ps)(ir):∀{c:CK} {X:Cx} {B:TyM},qZ c G T cl k X->Ay ps ir c B=true->gG X B (tS G T cl ir):=by
 induction ir with
 |nil=>
  intro c X B f h;refine Az ?_;exact @oD _ _ _ (λl=>gG X l (tS G T cl .nil)) h λ_=>WU
 |set i a r j=>
  intro c X B f h;refine nS h λs u h=>Hm s h λn p P Q h=> ?_;exact UK f (a1 h) (a1 (a2 h)) (a1 (a2 (a2 h))) (j f (a2 (a2 (a2 h))))
 |own i a r j=>
  intro c X B f h;refine nS h λs u h=>Hm s h λn p P Q h=> ?_;exact UL f (a1 h) (a1 (a2 h)) (a1 (a2 (a2 h))) (j f (a2 (a2 (a2 h))))
 |pj i r j=>
  intro c X B f h;exact WX (j f h)
 |aug i o a r j=>
  intro c X B f h;refine nS h λs u h=>QC s h λtg d P Q h=> ?_;refine qK tg h λn p h=>kl d h λh=> ?_;obtain⟨H,J,L⟩:=f.Fl (a1 h);exact WY f.mo H J L (cS a f (a1 (a2 h))) (j f (a2 (a2 h)))
 |app i a r j=>
  intro c X B f h;refine nS h λs u h=>Hn s h λn p xs I Z Q F h=> ?_;refine qS xs h ?_;intro P h;obtain⟨H,J,L,O⟩:=f.Bh (a1 h);exact WZ f.mo H J L O (a1 (a2 h)) F (fB rfl) (cS a f (a1 (a2 (a2 h)))) (j f (a2 (a2 (a2 h))))
 |ext i a r j=>
  intro c X B f h;refine nS h λs u h=>Hn s h λn p xs I Z Q F h=> ?_;refine qS xs h ?_;intro P h;obtain⟨H,J,L,O⟩:=f.Bh (a1 h);exact W0 f.mo H J L O (a1 (a2 h)) F (fB rfl) (cS a f (a1 (a2 (a2 h)))) (j f (a2 (a2 (a2 h))))
 |put i D a r j=>
  intro c X B f h;refine nS h λs u h=>Du s h λtg P p h=> ?_;refine oC tg h λy t Q h=>qK y h λn Y h=> ?_;obtain⟨H,J,L,O⟩:=f.Bh (a1 (a2 (a2 h)));exact W2 f.mo H J L O (Lv (rf H J L O) (cS D f (a1 (a2 (a2 (a2 h))))) set_list (Jx (a1 (a2 h)))) (Jy (a1 h)) rfl rfl (cS a f (a1 (a2 (a2 (a2 (a2 h)))))) (j f (a2 (a2 (a2 (a2 (a2 h))))))
 |Cy i l D a r j=>
  intro c X B f h;refine nS h λs u h=>Du s h λtg P p h=> ?_;refine oC tg h λz t Q h=>Aw z h λy m p1 h=> ?_;refine kl m h λh=>qK y h λn Y h=> ?_;obtain⟨H,J,L,O⟩:=f.Bh (a1 (a2 (a2 h)));exact Ti f.mo (Lv (Rg f.mo rfl (Zq H J L O)) (cS D f (a1 (a2 (a2 (a2 h))))) set_list (Jx (a1 (a2 h)))) (Jy (a1 h)) rfl rfl (cS a f (a1 (a2 (a2 (a2 (a2 h)))))) (j f (a2 (a2 (a2 (a2 (a2 h))))))
 |Kl i a r j=>
  intro c X B f h;refine nS h λs u h=>Du s h λtg P p h=> ?_;refine Aw tg h λy m Q h=>kl m h λh=> ?_;refine qK y h ?_;intro n Y h;obtain⟨H,J,L,O⟩:=f.Bh (a1 (a2 h));exact Tj f.mo (Zq H J L O) (fB (a1 h)) (cS a f (a1 (a2 (a2 h)))) (j f (a2 (a2 (a2 h))))
 |ex g o as r j=>
  intro c X B f h;refine nS h λs u h=>Fs h (λh=> ?_) (λh=> ?_);refine Hn s h λn p xs I Z Q v h=>qR xs h λP S h=> ?_;rw[<-f.nm];exact W3 f.mo (f.mtq (a1 h)) (a1 (a2 h)) (oF (a1 (a2 (a2 h)))) v (fB rfl) (λe M xs w=>by rw[QG w,C];exact oF (a1 (a2 (a2 (a2 h))))) (cS o f (a1 (a2 (a2 (a2 (a2 h)))))) (cS as f (a1 (a2 (a2 (a2 (a2 (a2 h))))))) (j f (a2 (a2 (a2 (a2 (a2 (a2 h)))))));refine K6 o (a1 h) λ_=>NL s (a2 h) λy P S Z Q h=> ?_;refine pX y h ?_;intro p A h;rw[<-f.nm]at A|-;exact W4 f.mo (f.gbq (a1 h)) (f.gl A) (a1 (a2 h)) (fB rfl) (cS as f (a1 (a2 (a2 h)))) (j f (a2 (a2 (a2 h))))
 |Vm i as r j=>
  intro c X B f h;refine nS h λs u h=>NL s h λy P S Z Q h=> ?_;refine qK y h ?_;intro n p h;obtain⟨H,J,L,O⟩:=f.Bh (a1 h);exact W5 f.mo H J L O (a1 (a2 h)) (fB rfl) (cS as f (a1 (a2 (a2 h)))) (j f (a2 (a2 (a2 h))))
 |ite q a b r V R j=>
  intro c X B f h;refine nS h λs u h=>UE s h λx sa K p h=> ?_;exact ZA (cS q f (a1 h)) (V f (a1 (a2 h))) (R f (a1 (a2 (a2 h)))) (j f (a2 (a2 (a2 h))))
 |kr tg it body r E j=>
  intro c X B f h;refine nS h λs u h=>QD s h λza N K U p h=> ?_;exact oD U h λh=>W8 f.mo f.pass (cS it f (a1 (a2 (a2 (a2 h))))) (NB f (a1 (a2 h))) (oF (a1 (a2 (a2 h)))) (lH (a1 h)) (E f (a1 (a2 (a2 (a2 (a2 h)))))) (j f (a2 (a2 (a2 (a2 (a2 h))))))
 |Vn n q body r E j=>
  intro c X B f h;refine nS h λs u h=>UH s h λx K U p h=> ?_;exact oD U h λh=>W9 f.mo f.pass (cS q f (a1 h)) (E f (a1 (a2 h))) (j f (a2 (a2 h)))
 |ret a=>
  intro c X B f h;refine nS h λs u h=>oD u h λh=> ?_;refine Hk s h λo p h=>uR o h λP h=> ?_;exact W6 rfl (cS a f h)
 |AV i=>
  intro c X B f h;refine nS h λs u h=>oD u h λh=> ?_;refine Hk s h λo p h=>uR o h λP h=> ?_;refine qK P h ?_;intro n Q h;obtain⟨H,J,L,O⟩:=f.Bh h;exact Tn H J L O
 |rn i g W r j=>
  intro c X B f h;cases(show false=true from h)
end
inductive Node
 |d(name:Str)(params:Arguments)(body:TyM)(scope:Scope)(pos:Pos)
 |l(params:Arguments)(body:Expr)(scope:Scope)(pos:Pos)
noncomputable def Node.sc:Node->Scope
 |.d _ _ _ s _=>s
 |.l _ _ s _=>s
noncomputable def Node.pos:Node->Pos
 |.d _ _ _ _ p=>p
 |.l _ _ _ p=>p
def dC:TyM->Option Node
 |.FunctionDef name params body [] none [] scope none name' pos::_=>some (.d name params body scope pos)
 |.Return (some (.Call _ (.Lambda params body scope pos::_) [] _)) _::_=>some (.l params body scope pos)
 |_::r=>dC r
 |[]=>none
section
def QI(h:F->jR)(c:CK)(f:F)(j:gd)(scope:Scope):Bool:=decide (j.length=(h f).length)&&decide ((h f).Nodup)&&(j.zip (h f)).all (λp=>c.fn p.2&&decide (c.N[p.1]?=some p.2)&&decide (c.sc.names.lookup p.2=some .cell))&&
  scope.names.all (λy=> !decide (y.2=.free)||decide (y.1∈h f))&&(h f).all (λx=>decide ((x,NameKind.free)∈scope.names))
noncomputable def XX(c:F->jR)(f:F):Str->Bool:=λx=>decide (x∈c f)
@[irreducible] def dFn(s:Stmt)(k:Str->Scope->Bool):Bool:=UI s λa _ _ d e f g h i=>d0 d (Qy e (d0 f (Qy h (dq i a (k a g)))))
@[elab_as_elim] def UM(s){k:Str->Scope->Bool}{P:Stmt->Prop}(h:dFn s k=true)(q:∀a b c g p,k a g=true->P (.FunctionDef a b c [] none [] g none a p)):P s:=by unfold dFn at h;refine QE s h λa b c d e f g j i p h=>oD d h λh=> ?_;refine uS e h λh=>oD f h λh=> ?_;refine uS j h λh=>kl i h λh=> ?_;exact q a b c g p h
@[irreducible] def ckR(h:F->jR)(a:IE)(c:CK)(y:TyM):Bool:=NG a λg r=>NJ r λl as=>UJ l λf j=>dc (bQ y) λs q=>d0 q (XS s λo=>Qx o λe=>t9 e λB xs _=>dG c (c.S.nm g) B (dc xs λl u=>Uz l λ_ _ scope=>c.S.glob g&&(QI h c f j scope&&(u.all notStar&&ck as {c with fz:=XX h f} (.a u)))))
def ckB(ps h:F->jR):IS->CK->TyM->Bool
 |.set i a r,c,st=>dc (bQ st) λs j=>XT s λn _ o=>lh o&&(c.Fl i n&&(ck a c (.e false o)&&ckB ps h r c j))
 |.rn i f caps r,c,st=>dc (bQ st) λs j=>dFn s λname scope=>QI h c f caps scope&&(decide (c.N[i]?=some name)&&((decide (c.sc.names.lookup name=some .local)||decide (c.sc.names.lookup name=some .cell))&&(((c.fn name&& !XX h f name)||decide (c.sc.names.lookup name=some .local))&&Ay ps r {c with fz:=XX h f} j)))
 |.ret a,c,st=>ckR h a c st
 |_,_,_=>false
noncomputable def Ft:IS->Option F
 |.set _ _ r=>Ft r
 |.rn _ f _ _=>some f
 |.ret (.call _ (.cons (.lam f _) _))=>some f
 |_=>none
variable {G:Gx} {T:pG} {cl:D8} {k:Nat} {X:Cx} {c:CK}
structure NO(G:Gx)(X:Cx)(f:F)(nd:Node)(c0 P:Addr):Prop where
 ko:G.ko f=true
 d:∀name params body scope pos,nd=.d name params body scope pos->qualnameIn X.env name name=G.cq f/\(∀clos ct doc cd,G.Gv f clos ct doc cd=fnX name (G.cq f) params body scope clos .none .none doc ((X.mg "__name__").getD .none) none cd ct)/\params.defaults=[]/\params.kw_defaults=[]/\annTrees params none X.env=[]
 l:∀params body scope pos,nd=.l params body scope pos->X.env.qual++"<lambda>"=G.cq f/\(∀clos ct doc cd,G.Gv f clos ct doc cd=kla_fn "<lambda>" (G.cq f) params body scope clos ((X.mg "__name__").getD .none) cd ct)/\defaultsOf params X.env=([],[])
 tb:(P,nd.pos,G.cq f)∈G.tb
 tu:∀t∈G.tb,t.1=P->t=(P,nd.pos,G.cq f)
 Vj:∀y∈nd.sc.names,y.2=.free->∃a,X.env.cells.lookup y.1=some a
 code:X.env.code=.ref c0
 hd:CodeHd X.base c0 P
 bm:BMain X.mg X.base
def qZ.pj(f:qZ c G T cl k X)(z):qZ {c with fz:=z} G T cl k (X.frozen z):=⟨f.N,f.sc,f.fn,rfl,f.xe,f.mo.pj z,⟨f.bi.len,f.bi.abs,f.bi.min,f.bi.max,f.bi.sum,f.bi.range,f.bi.enumerate,f.bi.zip,f.bi.reversed⟩,λd h=>⟨(f.di d h).nm,(f.di d h).db,(f.di d h).hd,(f.di d h).vs⟩,λd h=>⟨(f.tu d h).nm,(f.tu d h).db,(f.tu d h).vs⟩,f.nm,f.glob,f.aI,f.gn,f.dn,f.Et⟩
def K7:∀{j:TyM},PB X (bQ j) (tS G T cl o)->PB X j (tS G T cl o):=by
 intro j;induction j with
 |nil=>exact id
 |cons s r q=>
  intro h;unfold bQ at h;split at h;rename_i e;cases e;exact W_ (q h);exact h
def Hq:∀{h:TyM},dC (bQ h)=dC h:=by
 intro h;induction h with
 |nil=>rfl
 |cons s r j=>
  unfold bQ;split;rename_i e;cases e;rw[j];rfl;rfl
def Jz(o:qZ c G T cl k X)(q:G.cs=DH)(h:QI DH c f j scope=true):GK X (XX DH f) (j.zip (DH f))/\Ky X G f j scope (j.zip (DH f)):=by unfold QI at h;simp only[aB,bG,c_,p9,lI,v_]at h;obtain⟨⟨⟨⟨P,E⟩,s⟩,H⟩,J⟩:=h;have L:(j.zip (DH f)).map (·.1)=j:=List.map_fst_zip (by omega);have u:(j.zip (DH f)).map (·.2)=DH f:=wP (by omega);refine⟨⟨λp r=> ?_,λp r=>by rw[o.fn];exact(s p r).1.1,λp r=>by rw[o.N];exact(s p r).1.2,λp r=>by rw[o.sc];exact(s p r).2,by rw[u];exact E⟩,⟨L,by rw[u,q],λy M O=>by rw[q];exact(H y M).resolve_left λz=>z O,λx B=>by rw[q]at B;exact J x B⟩⟩;unfold XX;simp only[bG];exact(uX r).2
def NP{o:IS}{B:TyM}{k:Stmt->TyM->Bool}(y:∀f j,Ft o=some f->dC B=some j->∃u P,NO G X f j u P)(h:dc (bQ B) k=true)(q:∀s r,(∀f j,Ft o=some f->dC (s::r)=some j->∃u P,NO G X f j u P)->k s r=true->PB X (s::r) (tS G T cl o)):PB X B (tS G T cl o):=by refine K7 ?_;rw[<-Hq]at y;revert y;exact @qR _ _ _ (λl=>(∀f j,Ft o=some f->dC l=some j->∃u P,NO G X f j u P)->PB X l (tS G T cl o)) h λs r h y=>q s r y h
def UN{ps B:F->jR}(O:G.ps=ps)(H:G.cs=B)(L):∀{c:CK} {X:Cx} {y:TyM},qZ c G T cl k X->(∀x,c.fz x=false)->(∀f M,Ft L=some f->dC y=some M->∃Q P,NO G X f M Q P)->ckB ps B L c y=true->PB X y (tS G T cl L):=by
 induction L with
 |set i a r U=>
  intro c X y f E j h;refine NP j h ?_;intro s u j h;revert j;refine Hm s h ?_;intro n p v S h j;obtain⟨A,K,W⟩:=f.Fl (a1 (a2 h));exact Xa f.mo A K W (fB (a1 h)) (cS a f (a1 (a2 (a2 h)))) (U f E (λg M h h'=>j g M h h') (a2 (a2 (a2 h))))
 |rn i g J r=>
  intro c X y f E j h;refine NP j h ?_;intro s u j h;revert j;refine UM s h ?_;intro name params body scope pos h j;obtain⟨Q,P,o⟩:=j g _ rfl rfl;obtain⟨Y,Z,C,b,m⟩:=o.d _ _ _ _ _ rfl;obtain⟨D,V⟩:=Jz f H (a1 h);refine Tp f.mo (λx=>by rw[f.fz];exact E x) D V o.ko Y Z o.tb o.tu C b m o.Vj o.code o.hd o.bm (by rw[f.N];exact oF (a1 (a2 h))) ?_ ?_ (Ho O r (f.pj _) (a2 (a2 (a2 (a2 h)))));unfold L2.Loc;rw[f.sc];exact Fs (a1 (a2 (a2 h))) (λz=>.inl (oF z)) (λz=>.inr (oF z));rw[f.sc,f.fn];exact Fs (a1 (a2 (a2 (a2 h)))) (λz=>.inl ⟨a1 z,(lI _).mp (a2 z)⟩) (λz=>.inr (oF z))
 |ret a=>
  intro c X y f E j h;have h:ckR B a c y=true:=h;unfold ckR at h;revert j;refine NH a h λg r h=>NK r h λl as h=> ?_;refine QF l h λq J h j=>NP j h λs u j h=> ?_;revert j;refine oD u h λh=>Hk s h λo p h=> ?_;refine uR o h λe h=>lG e h λt xs w h=> ?_;refine pX t h λS R h=>qR xs h λl es h=> ?_;refine Qw l h ?_;intro params body scope I h j;obtain⟨Q,P,o⟩:=j q _ rfl rfl;obtain⟨Y,Z,C⟩:=o.l _ _ _ _ rfl;obtain⟨D,V⟩:=Jz f H (a1 (a2 h));rw[<-f.nm]at R|-;exact MJ f.mo (λx=>by rw[f.fz];exact E x) D V o.ko Y Z o.tb o.tu C o.Vj o.code o.hd o.bm (f.gbq (a1 h)) (qZ.gl (X:=X.frozen _) (f.pj _) R) (a1 (a2 (a2 h))) (cS as (f.pj _) (a2 (a2 (a2 h))))
 |_=>intro c X y f E j h;cases(show false=true from h)
end
end Lw
namespace Lw
def DI(f:F):PySem.Str:=YF ([["ones","cut","signed","held","held_signed","count_ones","gather_bits","has_bit","split_words","join_lanes","by_groups","three_by_three","","funnel_left",""],["funnel_right","","look_up_bits","blend","repeat_scalar","repeat_predicate","count_up","spread_predicate","fill_maker","bits_and_masks","bits_or_masks","bits_exclusive_masks","bits_alike","bits_not_and_masks","bits_not"],["add_masks","shift_left_masks","shift_right_masks","lay_above","lowest_of","pair_predicates","somewhere_in","intersect","predicate_to_scalar","scalar_to_predicate","flags_of_either","flags_of_both","place_of_lowest","how_many","mask_step"],["compress","lane_to_scalar","scalar_to_lane","move_step","add_pairs","subtract_pairs","multiply_pairs","upper_product","upper_product_signed","average","apart","lesser","greater","lesser_signed","greater_signed"],["add_held_signed","add_held","subtract_held_signed","subtract_held","bits_and_pairs","bits_or_pairs","bits_exclusive_pairs","bits_not_and_pairs","shift_left_pairs","shift_right_pairs","shift_right_signed","turn_left","turn_right","distance_from_zero","negate"],["negate_by_sign","how_many_ones","zeros_above","rounded_product","pair_action","paired_lanes","summed_by","distances","sum_distances","","slide_distances","","least_and_place","byte_products","signed_products"],["add_to_d","add_byte_products","add_byte_products_held","add_products","add_products_held","sum_products","sum_byte_products_held","bytes_with_words","","cut_out","field_product","field_inverse","field_products","by_rows",""],["transform","","transform_inverse","carryless_product","","carryless_products","same_before","products_of_52","add_lower_52","add_upper_52","product_maker","add_z","add_scalar_steps","subtract_scalar_steps","multiply_scalar_steps"],["bits_and_scalar_steps","bits_or_scalar_steps","bits_exclusive_scalar_steps","shift_left_scalar_steps","shift_right_scalar_steps","just_z","pair_scalars","compare_scalars","scalar_step","pick","pick_of_two","","pick_bytes","move_down",""],["move_bytes_down","by_turns","turns_lower","turns_upper","by_own_groups","interleave_lower","interleave_upper","group_of","shuffle_groups","insert_group","extract_group","","turn_bytes_round","expand",""],["neighbours","","add_neighbours","","subtract_neighbours","","add_neighbours_held","widen","widen_signed","narrowed","","narrow","","narrow_signed",""],["narrow_held","","narrow_signed_held","shape_maker","among","lies_between_two","between","alike","standing","answer","lowest_bytes","up_to_zero","texts_by_zero","texts_by_length","text_step"],["stand","stand_as_asked","compare","compare_signed","share_a_one","share_no_one","highest_bits","","bits_at_places","truths_maker","fits","first_found","made_lanes","made_truths","perform"],["read_lanes","write_lanes","put_vector","kept_lanes","read_predicate","put_predicate","read_scalar","put_scalar","put_flags"]]:List (List PySem.Str)) f ""
def nF(f:F):List PySem.Str:=YF ([[["k"],["number","k"],["number","k"],["number","k"],["number","k","greatest"],["number","count"],["truths","number","place","truth"],["number","place"],["words","k","mask","lanes","word","low"],["lanes","k","each","words","first","word","lane"],["xs","ys","action","size","lanes","first"],["action","order","machine","ds","xs","ys","d","x","y"],["d","x","y","k"],["order","machine","k"],["d","x","y","k"]],[["order","machine","k"],["d","x","y","order","every","lane","index","from_d","from_x","from_y"],["order","machine","every","looked_up"],["order","machine","chosen","xs","ys","i"],["order","machine"],["order","machine"],["order","machine","first","i"],["order","machine","chosen","i"],["operation"],["x","y","order"],["x","y","order"],["x","y","order"],["x","y","order"],["x","y","order"],["x","y","order"]],[["x","y","order"],["x","y","order"],["x","y","order"],["x","y","order","half"],["number","order","machine"],["order","machine","action","made"],["xs","ys","x"],["order","machine","xs","ys","even"],["order","machine"],["order","machine"],["order","machine","either"],["order","machine","x","y"],["order","machine","x"],["order","machine"],["operation"]],[["order","machine","chosen","xs","taken","i"],["order","machine"],["order","machine","lanes"],["operation"],["x","y","k"],["x","y","k"],["x","y","k"],["x","y","k"],["x","y","k"],["x","y","k"],["x","y","k"],["x","y","k"],["x","y","k"],["x","y","k"],["x","y","k"]],[["x","y","k"],["x","y","k"],["x","y","k"],["x","y","k"],["x","y","k"],["x","y","k"],["x","y","k"],["x","y","k"],["x","y","k"],["x","y","k"],["x","y","k"],["x","y","k","by"],["x","y","k","by"],["x","y","k"],["x","y","k"]],[["x","y","k"],["x","y","k"],["x","y","k"],["x","y","k","doubled"],["operation"],["action","order","machine","xs","ys","x","y"],["numbers","each","first"],["xs","ys","x","y"],["order","machine"],["xs","ys","from_x","from_y","fixed","i"],["order","machine","from_x","from_y","slid"],["xs","ys","least"],["order","machine","found"],["order","machine","xs","ys","x","y"],["order","machine","xs","ys","x","y"]],[["sums","order","machine","ds","d","number"],["order","machine","x"],["order","machine","x"],["order","machine","x"],["order","machine","x"],["order","machine","x"],["order","machine","x"],["action","order","machine","ys","place","x"],["x","word"],["order","machine","eight_from"],["x","y","product","place"],["x","inverse","power","place"],["order","machine","xs","ys","x","y"],["x","word","i"],["x","word","order"]],[["order","machine"],["x","word","order"],["order","machine"],["x","y","product","place"],["xs","ys","from_x","from_y","product"],["order","machine","from_x","from_y","multiplied"],["order","machine","xs","before","place","x"],["order","machine","xs","ys","x","y"],["order","machine","ds","d","product"],["order","machine","ds","d","product"],["operation"],["x","y","z"],["x","y","z"],["x","y","z"],["x","y","z"]],[["x","y","z"],["x","y","z"],["x","y","z"],["x","y","z"],["x","y","z"],["x","y","z"],["order","machine","action","x","y"],["order","machine","x","y"],["operation"],["order","machine","xs","y"],["order","machine","both","y"],["xs","ys","y"],["order","machine","picked"],["order","machine","both","by"],["xs","ys","by"]],[["order","machine","by","moved"],["xs","ys","lanes","x","y"],["xs","ys","half"],["xs","ys","half"],["action","order","machine"],["order","machine"],["order","machine"],["words","number","first"],["order","machine","xs","ys","lower"],["order","machine","words","first"],["order","machine"],["lane","order","other","low"],["order","machine","turned","x"],["order","machine","chosen","xs","lanes","used","place"],["xs","ys","action","both","i"]],[["action","order","machine","joined"],["lower","upper","order"],["order","machine"],["lower","upper","order"],["order","machine"],["lower","upper","k"],["order","machine","k"],["order","machine"],["order","machine","x"],["action","order","machine","x"],["x","order"],["order","machine"],["x","order"],["order","machine"],["x","order"]],[["order","machine"],["x","order"],["order","machine"],["operation"],["xs","ys","y"],["y","xs","i"],["xs","ys","y"],["xs","ys","i"],["xs","ys","i"],["order","machine","xs","ys","question","word"],["number","machine"],["row"],["order","machine","xs","ys"],["order","machine","xs","ys"],["operation"]],[["how","x","y"],["order","xs","ys","turned","x","y"],["order","machine","xs","ys"],["order","machine","xs","ys","x","y"],["order","machine","xs","ys","x","y"],["order","machine","shared"],["order","machine","x"],["x","word"],["order","machine"],["operation"],["order"],["operation","finders","find","action"],["order","machine","action","make"],["order","machine","make"],["order","machine","lanes","truths","step"]],[["self","number","k"],["self","number","lanes","place","word"],["self","order","lanes","chosen","merged","place","lane"],["self","order","k"],["self","number"],["self","number","word"],["self","number"],["self","number","value"],["self","zero","carry"]]]:List (List (List PySem.Str))) f []
inductive Pl|top(i:Nat)|NQ(i j:Nat)|vW(f:F)
def QJ(f:F):Pl:=YF ([[.top 2,.top 3,.top 4,.top 5,.top 6,.top 7,.top 8,.top 9,.top 10,.top 11,.top 12,.top 20,.vW .hO,.top 21,.vW .gm],[.top 22,.vW .gp,.top 23,.top 24,.top 25,.top 26,.top 27,.top 28,.top 30,.top 32,.top 34,.top 36,.top 38,.top 39,.top 41],[.top 42,.top 44,.top 46,.top 48,.top 50,.top 51,.top 52,.top 53,.top 54,.top 55,.top 56,.top 57,.top 58,.top 59,.top 61],[.top 63,.top 64,.top 65,.top 67,.top 69,.top 71,.top 73,.top 75,.top 76,.top 77,.top 78,.top 79,.top 80,.top 81,.top 82],[.top 83,.top 84,.top 85,.top 86,.top 87,.top 89,.top 91,.top 93,.top 95,.top 97,.top 99,.top 100,.top 101,.top 102,.top 103],[.top 104,.top 105,.top 106,.top 107,.top 109,.top 110,.top 113,.top 114,.top 115,.vW .dR,.top 116,.vW .dU,.top 117,.top 118,.top 119],[.top 120,.top 121,.top 122,.top 123,.top 124,.top 125,.top 126,.top 127,.vW .qf,.top 128,.top 129,.top 130,.top 131,.top 132,.vW .transform],[.top 133,.vW .cW,.top 134,.top 135,.vW .cx,.top 136,.top 137,.top 138,.top 139,.top 140,.top 142,.top 144,.top 145,.top 147,.top 149],[.top 151,.top 153,.top 155,.top 157,.top 159,.top 161,.top 163,.top 164,.top 165,.top 167,.top 168,.vW .jl,.top 169,.top 170,.vW .d4],[.top 171,.top 172,.top 173,.top 174,.top 175,.top 176,.top 177,.top 178,.top 179,.top 180,.top 181,.vW .dh,.top 182,.top 183,.vW .hR],[.top 184,.vW .eA,.top 185,.vW .b7,.top 186,.vW .b8,.top 187,.top 188,.top 189,.top 190,.vW .narrow,.top 191,.vW .fo,.top 192,.vW .hW],[.top 193,.vW .cy,.top 194,.top 196,.top 198,.top 199,.top 200,.top 201,.top 202,.top 204,.top 205,.top 206,.top 207,.top 208,.top 210],[.top 212,.top 213,.top 214,.top 215,.top 216,.top 217,.top 218,.vW .eB,.top 219,.top 221,.top 224,.top 225,.top 226,.top 227,.top 228],[.NQ 16 1,.NQ 16 2,.NQ 16 3,.NQ 16 4,.NQ 16 5,.NQ 16 6,.NQ 16 7,.NQ 16 8,.NQ 16 9]]:List (List Pl)) f (.top 0)
def mZ(f:F):Nat:=match QJ f with
 |.top _=>0
 |.NQ _ _=>1
 |.vW _=>2
def yH(f:F):List PySem.Str:=(nF f).take (defs f).np
noncomputable def DH(f:F):List PySem.Str:=(List.lookup f.ix ([(12,["k"]),(14,["k"]),(16,["order","every"]),(84,["from_x","from_y"]),(104,["order"]),(106,["order"]),(109,["from_x","from_y"]),(134,["by"]),(146,["order"]),(149,["action"]),(151,["order"]),(153,["order"]),(155,["k"]),(160,["order"]),(162,["order"]),(164,["order"]),(166,["order"])]:List (Nat×List PySem.Str))).getD []
noncomputable def Oj:Nat->PySem.Str
 |0=>"ZERO"
 |1=>"CARRY"
 |2=>"FIELD"
 |_=>""
noncomputable def XY:Nat->xu
 |0=>some 1
 |1=>some 2
 |2=>some 283
 |_=>none
noncomputable def Vs:D->PySem.Str
 |.tN=>"FILLS"
 |.aR=>"PREDICATE_PAIRS"
 |.vk=>"MASKS"
 |.tO=>"MOVES"
 |.jI=>"PAIRS"
 |.iZ=>"PRODUCTS"
 |.bF=>"SCALAR_PAIRS"
 |.oJ=>"SHAPES"
 |.tP=>"TEXTS"
 |.sZ=>"TOLD"
 |.lO=>"WIDTHS"
 |.jJ=>"QUESTIONS"
noncomputable def K8:D->Bool
 |.tN=>true
 |.aR=>true
 |.vk=>true
 |.tO=>true
 |.jI=>true
 |.iZ=>true
 |.bF=>true
 |.oJ=>true
 |.tP=>true
 |.sZ=>true
 |.lO=>false
 |_=>false
noncomputable def Dv:D->Bool
 |.jJ=>true
 |_=>false
noncomputable def yi:List F:=[.ones,.cut,.signed,.held,.cz,.jk,.eY,.c7,.lu,.m6,.fL,.ez,.c1,.hO,.cA,.gm,.aU,.gp,.Bx,.gJ,.eg,.pB,.eh,.kA,.dD,.d9,.bz,.kB,.bS,.pC,.jy,.cC,.b_,.mK,.ej,.eO,.iv,.mL,.cX,.cY,.eP,.gK,.eQ,.pD,.mN,.compress,.fM,.fN,.mQ,.jz,.dF,.dH,.gL,.cD,.sO,.apart,.wB,.sP,.gM,.fO,.eR,.pE,.cE,.gN,.dJ,.d_,.bA,.bU,.cF,.cb,.de,.mR,.kC,.df,.negate,.fP,.gO,.jA,.eS,.ly,.jT,.dg,.mS,.gP,.bB,.dR,.bg,.dU,.fk,.dW,.lz,.dN,.bZ,.iw,.dO,.iy,.b0,.b1,.bV,.qf,.dy,.iY,.fQ,.sQ,.ee,.transform,.bh,.cW,.eZ,.aF,.cx,.jB,.fR,.iz,.iA,.gQ,.By,.cG,.bj,.bp,.br,.bE,.aL,.a6,.aV,.wC,.iB,.eT,.jC,.pick,.jD,.cc,.jl,.mU,.bt,.d4,.pF,.jE,.jF,.fm,.ek,.en,.jU,.fS,.iC,.gR,.a7,.dh,.expand,.cf,.hR,.bW,.eA,.a8,.b7,.a9,.b8,.widen,.iD,.lA,.hV,.narrow,.cg,.fo,.c3,.hW,.bc,.cy,.jG,.among,.fT,.between,.alike,.m7,.answer,.e7,.kD,.gS,.eU,.mV,.D6,.fU,.compare,.fV,.gg,.iE,.iF,.bX,.eB,.jV,.fits,.e_,.hY,.jH,.c8,.aa,.ef,.iG,.gq,.aY,.bH,.aW,.dz,.fb]
def Vt:Sx:=⟨DI,λf=>mZ f==0,λf=>mZ f==1,Oj,XY,Vs,K8,λd=> !Dv d,Dv⟩
end Lw
namespace Lw
open PySem PySem.W L2
noncomputable def PG0:Program:=PySem.Challenge.pw_lanewise_s01_do
def Fu(i:Nat):Stmt:=PG0.main.body.getD i (.Pass ⟨0,0,0,0⟩)
def tG(i j:Nat):Stmt:=match Fu i with
 |.ClassDef _ _ _ body _ _ _ _ _ _ _=>body.getD j (.Pass ⟨0,0,0,0⟩)
 |_=>.Pass ⟨0,0,0,0⟩
def stP:Pl->Stmt
 |.top i=>Fu i
 |.NQ i j=>tG i j
 |.vW _=>.Pass ⟨0,0,0,0⟩
def qT(f:F):Stmt:=match QJ f with
 |.vW g=>stP (QJ g)
 |p=>stP p
def NR(f:F):CK:=⟨Vt,nF f,a0 (qT f),λ_=>true,λ_=>false⟩
def JA(f:F)(c:Scope):CK:=⟨Vt,nF f,c,λx=>c.names.lookup x==some .cell,λx=>c.names.lookup x==some .free⟩
def aaz(f:F):Bool:=(Ft (defs f).body).isSome
def okF(f:F):Bool:=if mZ f=2 then(match dC (cP (qT f))with
  |some (.d _ _ b sc _)=>Ay yH (defs f).body (JA f sc) b
  |some (.l _ e sc _)=>(match(defs f).body with
   |.ret ir=>ck ir (JA f sc) (.e false e)
   |_=>false)
  |none=>false)
 else if aaz f then ckB yH DH (defs f).body (NR f) (cP (qT f))else Ay yH (defs f).body (NR f) (cP (qT f))
def NS:yi.all okF=true:=by decide+kernel
end Lw
namespace Lw
def dnF:F->PySem.Str
 |.dD=>"bits_and"
 |.d9=>"bits_or"
 |.bz=>"bits_exclusive"
 |.bS=>"bits_not_and"
 |.jy=>"add"
 |.cC=>"shift_left"
 |.b_=>"shift_right"
 |.jz=>"add"
 |.dF=>"subtract"
 |.dH=>"multiply"
 |.dJ=>"bits_and"
 |.d_=>"bits_or"
 |.bA=>"bits_exclusive"
 |.bU=>"bits_not_and"
 |.cF=>"shift_left"
 |.cb=>"shift_right"
 |.cG=>"add"
 |.bj=>"subtract"
 |.bp=>"multiply"
 |.br=>"bits_and"
 |.bE=>"bits_or"
 |.aL=>"bits_exclusive"
 |.a6=>"shift_left"
 |.aV=>"shift_right"
 |f=>DI f
def yj:F->PySem.Str
 |.c1=>"funnel_left.<locals>.<lambda>"
 |.cA=>"funnel_right.<locals>.<lambda>"
 |.aU=>"look_up_bits.<locals>.looked_up"
 |.dD=>"bits_and"
 |.d9=>"bits_or"
 |.bz=>"bits_exclusive"
 |.bS=>"bits_not_and"
 |.jy=>"add"
 |.cC=>"shift_left"
 |.b_=>"shift_right"
 |.jz=>"add"
 |.dF=>"subtract"
 |.dH=>"multiply"
 |.dJ=>"bits_and"
 |.d_=>"bits_or"
 |.bA=>"bits_exclusive"
 |.bU=>"bits_not_and"
 |.cF=>"shift_left"
 |.cb=>"shift_right"
 |.bB=>"slide_distances.<locals>.slid"
 |.bg=>"least_and_place.<locals>.found"
 |.bV=>"cut_out.<locals>.eight_from"
 |.ee=>"transform.<locals>.<lambda>"
 |.bh=>"transform_inverse.<locals>.<lambda>"
 |.aF=>"carryless_products.<locals>.multiplied"
 |.cG=>"add"
 |.bj=>"subtract"
 |.bp=>"multiply"
 |.br=>"bits_and"
 |.bE=>"bits_or"
 |.aL=>"bits_exclusive"
 |.a6=>"shift_left"
 |.aV=>"shift_right"
 |.cc=>"pick_bytes.<locals>.picked"
 |.bt=>"move_bytes_down.<locals>.moved"
 |.a7=>"turn_bytes_round.<locals>.turned"
 |.cf=>"neighbours.<locals>.joined"
 |.bW=>"add_neighbours.<locals>.<lambda>"
 |.a8=>"subtract_neighbours.<locals>.<lambda>"
 |.a9=>"add_neighbours_held.<locals>.<lambda>"
 |.hV=>"narrow.<locals>.<lambda>"
 |.cg=>"narrow_signed.<locals>.<lambda>"
 |.c3=>"narrow_held.<locals>.<lambda>"
 |.bc=>"narrow_signed_held.<locals>.<lambda>"
 |.bX=>"bits_at_places.<locals>.<lambda>"
 |.aa=>"Machine.read_lanes"
 |.ef=>"Machine.write_lanes"
 |.iG=>"Machine.put_vector"
 |.gq=>"Machine.kept_lanes"
 |.aY=>"Machine.read_predicate"
 |.bH=>"Machine.put_predicate"
 |.aW=>"Machine.read_scalar"
 |.dz=>"Machine.put_scalar"
 |.fb=>"Machine.put_flags"
 |f=>DI f
def Dw(f:F):f∈yi:=ky (i:=f.ix) (by obtain⟨i,j⟩:=f;cases i<;>cases j<;>rfl)
def km{p:F->Bool}(h:yi.all p=true)(f:F):p f=true:=c_.mp h f (Dw f)
end Lw
namespace Lw
open PySem PySem.W L2
def UO(N ps:jR)(c:Scope):Bool:=decide (c.kind=.function)&& !c.isCoroutine&& !c.isGenerator&&decide N.Nodup&&decide (N.take ps.length=ps)&&ps.all (λx=>decide (c.names.lookup x=some .local)||decide (c.names.lookup x=some .cell))&&c.names.all (λy=> !decide (y.2=.free))
def sX{N ps:jR}{c:Scope}(h:UO N ps c=true):jg N ps c:=by unfold UO at h;simp only[aB,bG,c_,p9,lI,v_]at h;obtain⟨⟨⟨⟨⟨⟨j,o⟩,q⟩,r⟩,s⟩,u⟩,y⟩:=h;exact⟨j,o,q,r,s,u,y⟩
def UP(N ps h:jR)(c:Scope):Bool:=decide (c.kind=.function)&& !c.isCoroutine&& !c.isGenerator&&decide N.Nodup&&decide (N.take (ps++h).length=ps++h)&&ps.all (λx=>decide (c.names.lookup x=some .local)||decide (c.names.lookup x=some .cell))&&h.all (λx=>decide (c.names.lookup x=some .free))&&
  c.names.all (λy=>decide (c.names.lookup y.1=some y.2))&&c.names.all (λy=> !decide (y.2=.free)||decide (y.1∈h))
def QK{N ps c:jR}{j:Scope}(h:UP N ps c j=true):m5 N ps c j:=by unfold UP at h;simp only[aB,bG,c_,p9,lI,v_]at h;obtain⟨⟨⟨⟨⟨⟨⟨⟨o,q⟩,r⟩,s⟩,u⟩,B⟩,E⟩,G⟩,H⟩:=h;exact⟨o,q,r,s,u,B,E,G,λy J L=>(H y J).resolve_left λz=>z L⟩
def Ol(f:F):jR:=(yH f).take ((yH f).length-(DH f).length)
def okN(f:F):Bool:=decide ((nF f).length=(defs f).slots)&&decide ((defs f).np<=(defs f).slots)&&decide ((yH f).length=(defs f).np)&&decide (nF f).Nodup&&
 (if mZ f=2 then(match dC (cP (qT f))with
  |some c=>UP (nF f) (Ol f) (DH f) c.sc&&decide (Ol f++DH f=yH f)
  |none=>false)else UO (nF f) (yH f) (a0 (qT f)))&& !(DI f=="__debug__")&&
 (match Ft (defs f).body with
  |some g=>decide (mZ g=2)&&(match QJ g,QJ f with
   |.vW f',.top _=>decide (f'.ix=f.ix)
   |_,_=>false)
  |none=>true)
def JB:yi.all okN=true:=by decide+kernel
def BZ{f g:F}(h:f.ix=g.ix):f=g:=by
 have a:yi[f.ix]?=some f:=by obtain⟨i,j⟩:=f;cases i<;>cases j<;>rfl
 have b:yi[g.ix]?=some g:=by obtain⟨i,j⟩:=g;cases i<;>cases j<;>rfl
 rw[h,b]at a;cases a;rfl
structure Top(P:Program)(w:World)(base:Heap)(G:Gx):Prop where
 nm:G.nm=DI
 ps:G.ps=yH
 glob:G.glob=λf=>mZ f==0
 aI:G.aI=λf=>mZ f==1
 ko:G.ko=λf=>mZ f==2
 gn:G.gn=Oj
 dn:G.dn=Vs
 Et:G.Et=K8
 cs:G.cs=DH
 cq:G.cq=yj
 fn:∀f,mZ f≠2->Gh G.K (dnF f) (yj f) (qT f) (G.fa f) (G.fd f)
 bd:∀f,mZ f≠2->Binds G.K (G.fd f) (yH f) []
 YG:∀f,mZ f=0->G.mg (DI f)=some (.ref (G.fa f))/\keepIn G.K (.ref (G.fa f))=true
 met:∀f,mZ f=1->Meth G.K G.CM (DI f) (G.fa f)
 Eu:DF G.K G.CM
 CD:DF G.K G.CO
 Lk:∀j,gW G.K G.CM (Of j)
 Rf:gW G.K G.CM "flags"
 CF:∀a,gW G.K G.CO (Rc a)
 gi:∀n c,XY n=some c->(∃t,G.mg (Oj n)=some (.int c t))/\(Oj n=="__debug__")=false
 bi:∀x∈(["len","abs","min","max","sum","range","enumerate","zip","reversed"]:jR),G.mg x=none
 di:∀d,Dv d=false->∀X:Cx,X.K=G.K->X.mg=G.mg->X.prog=P->X.w=w->zJ G T X d
 tu:∀d,Dv d=true->∀X:Cx,X.K=G.K->X.mg=G.mg->PD G T X d
 bm:BMain G.mg base
 made:∀f g nd,QJ f=.vW g->dC (cP (qT f))=some nd->∃c0 Pt,(G.fd g).code=.ref c0/\CodeHd base c0 Pt/\(Pt,nd.pos,yj f)∈G.tb/\∀t∈G.tb,t.1=Pt->t=(Pt,nd.pos,yj f)
 Gv:∀f name params body scope pos,mZ f=2->dC (cP (qT f))=some (.d name params body scope pos)->∀clos ct doc cd,G.Gv f clos ct doc cd=fnX name (yj f) params body scope clos .none .none doc ((G.mg "__name__").getD .none) none cd ct
 cfl:∀f params body scope pos,mZ f=2->dC (cP (qT f))=some (.l params body scope pos)->∀clos ct doc cd,G.Gv f clos ct doc cd=kla_fn "<lambda>" (yj f) params body scope clos ((G.mg "__name__").getD .none) cd ct
structure Calls(P:Program)(w:World)(base:Heap)(G:Gx)(n:Nat):Prop where
 Mh:∀f,mZ f≠2->nT P w G.K G.mg base ui n (G.fa f) (G.fd f) (yH f) (Gy G (cR T defs n) f)
 Wg:∀f,mZ f=2->∀(A:Around) (outer:List Env) (s:Shared) (H:Hp) (us:TyJ) (vs cvs:List V) (a:Addr) (Q:VK),gH n A->uf P w G.K G.mg base A outer s H->pI G [] H a f cvs->Vals vs us->Gy G (cR T defs n) f (vs++cvs) H Q E0->
  codeAny (model P w) A (.call (.ref a) ⟨us,[]⟩) (CR ui outer P w H s Q E0) s
section
variable {P:Program} {w:World} {base:Heap} {G:Gx} {n:Nat}
def Dx(f):(nF f).length=(defs f).slots/\(defs f).np<=(defs f).slots/\(yH f).length=(defs f).np/\(nF f).Nodup/\(DI f=="__debug__")=false:=by have h:=km JB f;unfold okN at h;simp only[aB,bG,lI]at h;exact⟨h.1.1.1.1.1.1,h.1.1.1.1.1.2,h.1.1.1.1.2,h.1.1.1.2,h.1.2⟩
def XZ{f:F}{xs:lC}{M:gc}{r:SV×Bool×gc}(h:cR T defs n f xs M=some r):xs.length=(yH f).length:=by
 cases n with
 |zero=>simp[cR]at h
 |succ n=>
  have h:Gn T (cR T defs n) (defs f) xs M=some r:=h;unfold Gn at h;split at h;rename_i c;rw[c,(Dx f).2.2.1];cases h
def UQ:∀f Z i,mZ f=1->(tR Z i).lookup (DI f)=none:=by
 intro f Z i h;have j:∀x:Str,(x=="vectors")=false->(x=="predicates")=false->(x=="scalars")=false->(x=="flags")=false->(tR Z i).lookup x=none:=λx a b c d=>by unfold tR;simp only[lJ,a,b,c,d,List.lookup_nil]
 have o:(yi.all λf=> !(mZ f==1)||(!(DI f=="vectors")&& !(DI f=="predicates")&& !(DI f=="scalars")&& !(DI f=="flags")))=true:=by decide+kernel
 have:=km o f;simp only[h,p9,aB,lI,beq_self_eq_true,Bool.true_eq_false,false_or]at this;obtain⟨⟨⟨a,b⟩,c⟩,d⟩:=this;exact j _ a b c d
def X0(t:Top P w base G)(y:Calls P w base G n){X:Cx}(u:X.K=G.K)(s:X.mg=G.mg)(B:X.prog=P)(E:X.w=w)(H:X.base=base)(J:X.calm=true)(L:gH n X.A)(O:X.N.Nodup):Mo G T (cR T defs n) XY n X:=by
 subst B E H;refine⟨u,s,J,L,O,λf o=> ?_,λf xs M r h _=>by rw[t.ps];exact XZ h,λf o=> ?_,λf o=> ?_,λf Z i o=> ?_,by rw[u];exact t.Eu,by rw[u];exact t.CD,λj=>by rw[u];exact t.Lk j,by rw[u];exact t.Rf,λa=>by rw[u];exact t.CF a,λf o=> ?_,λm c h=> ?_⟩;rw[t.glob]at o;have o:mZ f=0:=by simpa using o
 rw[s,u,t.nm];exact⟨(t.YG f o).1,(t.YG f o).2,(Dx f).2.2.2.2⟩;rw[t.glob,t.aI]at o;have o:mZ f≠2:=by
  rcases o with q|q;have:mZ f=0:=by simpa using q
  omega;have:mZ f=1:=by simpa using q
  omega
 rw[s,u,t.ps];exact⟨y.Mh f o,t.bd f o⟩;rw[t.aI]at o;rw[u,t.nm];exact t.met f (by simpa using o);rw[t.aI]at o;rw[t.nm];exact UQ f Z i (by simpa using o);rw[t.ko]at o;rw[u,s];exact y.Wg f (by simpa using o);rw[s,t.gn];exact t.gi m c h
def AA(t:Top P w base G)(H:Calls P w base G n){X:Cx}{c:CK}(h:c.S=Vt)(q:X.K=G.K)(j:X.mg=G.mg)(B:X.prog=P)(E:X.w=w)(J:X.base=base)(L:X.calm=true)(M:gH n X.A)(O:X.N.Nodup)(Q:X.N=c.N)(r:X.env.scope=c.sc)(s:X.fn=c.fn)(u:X.fz=c.fz)(y:X.xe=λ_ _=>False):qZ c G T (cR T defs n) n X:=by have m:=X0 t H q j B E J L M O;refine⟨Q,r,s,u,y,by rw[h];exact m,?_,λd o=> ?_,λd o=> ?_,by rw[h];exact t.nm,by rw[h];exact t.glob,by rw[h];exact t.aI,by rw[h];exact t.gn,by rw[h];exact t.dn,by rw[h];exact t.Et⟩;constructor<;>(rw[j];exact t.bi _ (by simp));rw[h]at o;exact t.di d (by simpa [Vt] using o) X q j B E;rw[h]at o;exact t.tu d o X q j
end
noncomputable def uU(p:Arguments):Bool:=p.posonlyargs.isEmpty&&p.vararg.isNone&&p.kwonlyargs.isEmpty&&p.kw_defaults.isEmpty&&p.kwarg.isNone&&p.defaults.isEmpty&&p.args.all (λa=>a.annotation.isNone)
theorem JC{env:Env}:∀{as:List Arg},as.all (λa=>a.annotation.isNone)=true->annotationsOf as env=[]
 |[],_=>rfl
 |⟨x,none,p⟩::r,h=>by rw[fC,aB]at h;show annotationsOf r env=[];exact JC h.2
 |⟨x,some a,p⟩::r,h=>by simp at h
def B1{p:Arguments}{env:Env}(h:uU p=true):p.defaults=[]/\p.kw_defaults=[]/\annTrees p none env=[]/\defaultsOf p env=([],[]):=by obtain⟨o,a,q,r,c,j,d⟩:=p;unfold uU at h;simp only[aB,wS,DL]at h;obtain⟨⟨⟨⟨⟨⟨rfl,rfl⟩,rfl⟩,rfl⟩,rfl⟩,rfl⟩,h⟩:=h;refine⟨rfl,rfl,?_,rfl⟩;unfold annTrees;simp only[kZ,Option.toList,JC h];rfl
noncomputable def Node.ps:Node->Arguments
 |.d _ p _ _ _=>p
 |.l p _ _ _=>p
def okM(g:F):Bool:=match QJ g with
 |.vW f=>(match dC (cP (qT g))with
  |some c=>uU c.ps&&c.sc.names.all (λy=> !decide (y.2=.free)||decide ((a0 (qT f)).names.lookup y.1=some .cell))&&(match c with
   |.d name _ _ _ _=>decide (yj g=yj f++".<locals>."++name)&& !((a0 (qT f)).names.lookup name==some .globalExplicit)
   |.l _ _ _ _=>decide (yj g=yj f++".<locals>."++"<lambda>"))
  |none=>false)
 |_=>true
def X1:yi.all okM=true:=by decide+kernel
section
variable {P:Program} {w:World} {base:Heap} {G:Gx} {n:Nat}
def QL(t:Top P w base G){f g:F}{M:Node}{q:Value}{A:Around}{c:List Env}{s:Shared}{H:Hp}{E:XK}(O:(G.fd f).code=q)(C:Ft (defs f).body=some g)(u:dC (cP (qT f))=some M):∃Q U,NO G (ug ui P w G.K G.mg base (nF f) (yj f) (a0 (qT f)) (G.fa f) q A c s H E).AK g M Q U:=by
 have h:=km JB f;unfold okN at h;rw[C]at h;simp only[aB,bG]at h;obtain⟨_,X,J⟩:=h;split at J;rename_i j i r Y;simp only[bG]at J;have:j=f:=BZ J;subst this;have Z:qT g=qT j:=by simp only[qT,r,Y]
 rw[<-Z]at u;obtain⟨Q,U,D,V,R,I⟩:=t.made g j M r u;have L:=km X1 g;unfold okM at L;rw[r]at L;simp only[u,aB]at L;obtain⟨⟨T,S⟩,B⟩:=L;refine⟨Q,U,by rw[t.ko];simp[X],λname params body scope pos e=> ?_,λparams body scope pos e=> ?_,by rw[t.cq];exact R,by rw[t.cq];exact I,λy N W=> ?_,by rw[<-D,O];rfl,V,t.bm⟩;subst e;obtain⟨a,b,d,_⟩:=B1 (env:=(ug ui P w G.K G.mg base (nF j) (yj j) (a0 (qT j)) (G.fa j) q A c s H E).AK.env) T;simp only[aB,bG,lI]at B;refine⟨?_,λo ct doc cd=>by rw[t.cq];exact t.Gv g _ _ _ _ _ X u o ct doc cd,a,b,d⟩;rw[t.cq,B.1];show(if(a0 (qT j)).names.lookup name==some .globalExplicit then name else yj j++".<locals>."++name)=_;rw[B.2];rfl;subst e;obtain⟨_,_,_,k⟩:=B1 (env:=(ug ui P w G.K G.mg base (nF j) (yj j) (a0 (qT j)) (G.fa j) q A c s H E).AK.env) T;simp only[bG]at B;refine⟨?_,λo ct doc cd=>by rw[t.cq];exact t.cfl g _ _ _ _ X u o ct doc cd,k⟩;rw[t.cq,B];rfl;have:=c_.mp S y N;simp only[W,decide_true,_J,Bool.false_or,bG]at this;exact y4 this;cases J
structure NU(G:Gx):Prop where
 d:∀f name params body scope pos,mZ f=2->dC (cP (qT f))=some (.d name params body scope pos)->∀(clos:v8) (pm ct doc cd:Value) (us:TyJ),us.length=(yH f).length-(DH f).length->bindArgs (fnX name (yj f) params body scope clos .none .none doc pm none cd ct) ⟨us,[]⟩=pure ((Ol f).zip us)
 l:∀f params body scope pos,mZ f=2->dC (cP (qT f))=some (.l params body scope pos)->∀(clos:v8) (pm ct cd:Value) (us:TyJ),us.length=(yH f).length-(DH f).length->bindArgs (kla_fn "<lambda>" (yj f) params body scope clos pm cd ct) ⟨us,[]⟩=pure ((Ol f).zip us)
def Hr(t:Top P w base G)(b:NU G)(U:Calls P w base G n):Calls P w base G (n+1):=by
 refine⟨λf q=> ?_,λf q=> ?_⟩;obtain⟨L,M,V,O,_⟩:=Dx f;have Q:jg (nF f) (yH f) (a0 (qT f)):=by have h:=km JB f;unfold okN at h;simp only[aB,ab q]at h;exact sX h.1.1.2
 have:=Ts (P:=P) (w:=w) (mg:=G.mg) (base:=base) (T:=T) (defs:=defs) (n:=n) (N:=nF f) (t.fn f q) (by rw[t.ps];exact Q) L M λX A c s H E Y J=>by have o:qZ (NR f) G T (cR T defs n) n (ug ui P w G.K G.mg base (nF f) (yj f) (a0 (qT f)) (G.fa f) X A c s H E).AK:=AA t U rfl rfl rfl rfl rfl rfl rfl J O rfl rfl rfl rfl rfl;have h:=km NS f;unfold okF at h;rw[ab q]at h;split at h;exact UN t.ps t.cs _ o (λ_=>rfl) (λg D R r=>QL t Y R r) h;exact PB.of (Ho t.ps _ o h)
 rw[t.ps]at this;exact this;obtain⟨L,M,V,O,_⟩:=Dx f;have u:=km JB f;unfold okN at u;simp only[aB,ae q]at u;have u:=u.1.1.2;have h:=km NS f;unfold okF at h;rw[ae q]at h;cases r:dC (cP (qT f))with
 |none=>rw[r]at h;cases h
 |some D=>
  rw[r]at h u;simp only[aB,bG]at u;have Q:=QK u.1;have y:G.ko f=true:=by rw[t.ko];simp[q]
  cases D with
  |d name params body scope pos=>
   have B:=t.Gv f _ _ _ _ _ q r;refine PM (name:=name) (params:=params) (body:=body) (scope:=scope) (pm:=(G.mg "__name__").getD .none) (N:=nF f) y (by rw[t.cq];exact B) (by rw[t.ps,t.cs];exact Q) (by rw[t.ps,t.cs];exact u.2) L M (by rw[t.ps,t.cs,t.cq];exact λj ct doc cd us Z=>b.d f _ _ _ _ _ q r j _ ct doc cd us Z) λa cd j A c s H C J=> ?_;have o:qZ (JA f scope) G T (cR T defs n) n (tM ui P w G.K G.mg base (nF f) (G.cq f) scope a cd j A c s H E0).AK:=AA t U rfl rfl rfl rfl rfl rfl rfl J O rfl rfl rfl rfl rfl;exact Ho t.ps _ o h
  |l params body scope pos=>
   have B:=t.cfl f _ _ _ _ q r;simp only at h;split at h;rename_i I F;refine PN (name:="<lambda>") (params:=params) (body:=body) (scope:=scope) (pm:=(G.mg "__name__").getD .none) (N:=nF f) y (by rw[t.cq];exact B) (by rw[t.ps,t.cs];exact Q) L M F (by rw[t.ps,t.cs,t.cq];exact λj ct cd us Z=>b.l f _ _ _ _ q r j _ ct cd us Z) λa cd j A c s H C J=> ?_;have o:qZ (JA f scope) G T (cR T defs n) n (tM ui P w G.K G.mg base (nF f) (G.cq f) scope a cd j A c s H E0).AK:=AA t U rfl rfl rfl rfl rfl rfl rfl J O rfl rfl rfl rfl rfl;exact cS I o h;cases h
def Hs(t:Top P w base G):Calls P w base G 0:=by refine⟨λf o=> ?_,λf o A c s H us vs q a Q u y B r h=>by obtain⟨_,_,_,_,_,_,_,_,_,_,_,_,_,j,_⟩:=h;simp[cR]at j⟩;have:=Xb (G:=G) (T:=T) (defs:=defs) (P:=P) (w:=w) (K:=G.K) (mg:=G.mg) (base:=base) (f:=f);rw[t.ps]at this;exact this
theorem calls(t:Top P w base G)(b:NU G):∀n,Calls P w base G n
 |0=>Hs t
 |n+1=>Hr t b (calls t b n)
end
theorem Fv:∀{ns:jR} {us:TyJ},us.length=ns.length->∀x∈ns,((ns.zip us).lookup x).isNone=false
 |[],us,_,x,h=>by cases h
 |n::ns,[],c,x,h=>by simp at c
 |n::ns,u::us,c,x,h=>by
  rw[B_,lJ];by_cases j:x=n;subst j;simp;have:(x==n)=false:=by simp[j]
  rw[this];exact Fv (by simpa using c) x ((aA.mp h).resolve_left j)
theorem Fw{c j:Type}{f g:c->Option j}:∀{l:List c},(∀x∈l,f x=g x)->l.filterMap f=l.filterMap g
 |[],_=>rfl
 |a::l,h=>by rw[wc,wc,h a (by simp),Fw λx o=>h x (by simp[o])]
theorem AB:∀{ns:jR} {us:TyJ},ns.Nodup->us.length=ns.length->ns.filterMap (λn=>((ns.zip us).lookup n).map (n,·))=ns.zip us
 |[],us,_,_=>by simp
 |n::ns,[],_,c=>by simp at c
 |n::ns,u::us,nd,c=>by
  obtain⟨h,j⟩:=sF.mp nd;have o:=AB j (us:=us) (by simpa using c);rw[B_,wc];simp only[lJ,beq_self_eq_true,g_];congr 1;refine Eq.trans (Fw λx q=> ?_) o;have:(x==n)=false:=by have:x≠n:=λz=>h (z▸q);simp[this]
  simp only[this]
def uV{fd:FuncData}{c:List Arg}{names:jR}{us:TyJ}(j:fd.params=⟨[],c,none,[],[],none,[]⟩)(o:c.map (·.arg)=names)(q:fd.defaults=.none)(r:names.Nodup)(h:us.length=names.length):bindArgs fd ⟨us,[]⟩=pure (names.zip us):=by
 have s:(seqItems? Value.none:Sem _)=pure none:=rfl;have u:(names.take names.length).filter (λn=>((names.zip us).lookup n).isNone)=[]:=by rw[wE,List.filter_eq_nil_iff];intro x y;rw[Fv h x y];decide
 unfold bindArgs;rw[j,q,s];simp only[sJ,n0,o];show(if us.length>names.length&&true then _ else _:Sem _)=_;rw[ab (by simp[h])];have B:((none:Option (Array Value)).getD #[]).toList=[]:=rfl;rw[B];simp only[List.drop_nil,my,ms,u,List.zip_nil_right];show(pure ((names++[]).filterMap (λn=>((names.zip us).lookup n).map (n,·))):Sem _)=_;rw[kZ,AB r h]
def okA(f:F):Bool:=if mZ f=2 then(match dC (cP (qT f))with
  |some c=>uU c.ps&&decide (c.ps.args.map (·.arg)=Ol f)&&decide (Ol f).Nodup&&decide ((Ol f).length=(yH f).length-(DH f).length)
  |none=>true)
 else uU (oq (qT f))&&decide ((oq (qT f)).args.map (·.arg)=yH f)&&decide (yH f).Nodup
def RA:yi.all okA=true:=by decide+kernel
def B2{p:Arguments}(h:uU p=true):p=⟨[],p.args,none,[],[],none,[]⟩:=by obtain⟨o,a,q,r,c,j,d⟩:=p;unfold uU at h;simp only[aB,wS,DL]at h;obtain⟨⟨⟨⟨⟨⟨rfl,rfl⟩,rfl⟩,rfl⟩,rfl⟩,rfl⟩,h⟩:=h;rfl
def JD{f:F}{c:Node}(j:mZ f=2)(o:dC (cP (qT f))=some c):c.ps=⟨[],c.ps.args,none,[],[],none,[]⟩/\c.ps.args.map (·.arg)=Ol f/\(Ol f).Nodup/\(Ol f).length=(yH f).length-(DH f).length:=by have h:=km RA f;unfold okA at h;rw[ae j,o]at h;simp only[aB,bG]at h;exact⟨B2 h.1.1.1,h.1.1.2,h.1.2,h.2⟩
def bindC(G):NU G:=by refine⟨λf name params body scope pos h j c pm ct doc cd us o=> ?_,λf params body scope pos h j c pm ct cd us o=> ?_⟩;obtain⟨q,r,s,u⟩:=JD h j;exact uV (fd:=fnX name (yj f) params body scope c .none .none doc pm none cd ct) q r rfl s (by rw[u];exact o);obtain⟨q,r,s,u⟩:=JD h j;exact uV (fd:=kla_fn "<lambda>" (yj f) params body scope c pm cd ct) q r rfl s (by rw[u];exact o)
def X2{K:Frag}{f:F}{x qual:Str}{j:Addr}{fd:FuncData}(o:mZ f≠2)(q:Gh K x qual (qT f) j fd):Binds K fd (yH f) []:=by have h:=km RA f;unfold okA at h;rw[ab o]at h;simp only[aB,bG]at h;exact q.binds λr doc pm s c ct us u=>uV (fd:=fnOf x qual (oq (qT f)) (cP (qT f)) (a0 (qT f)) .none r doc pm s c ct) (B2 h.1.1) h.1.2 rfl h.2 u
section
variable {G:Gx} {cl:D8} {k:Nat} {X:Cx} {H:Hp} {σ:L2.St}
noncomputable def Z0:Zx:=⟨false,0,0,λ_=>0⟩
noncomputable def Fx(ns:List (xu)):Ev:=⟨ns.map λo=>o.map SV.int,none⟩
def X3{ns:List (xu)}(j:TabAt G H)(q:σ.length=ns.length)(r:∀(i:Nat) n,ns[i]?=some (some n)->σ[i]?=some (some (.int n))):Rel G Z0 [] H [] σ (Fx ns) H none where
 len:=by rw[q];simp[Fx]
 xO:=λb c=>by cases c
 ext:=m9.refl H
 tab:=j
 i_:=.inr ⟨rfl,rfl⟩
 zH:=λb c=>by simp[Zx.ma,Z0]at c
 val:=λi x h=>by
  unfold Ev.get Fx at h;simp only[dQ]at h;cases e:ns[i]? with
  |none=>rw[e]at h;cases h
  |some o=>
   rw[e]at h;cases o with
   |none=>cases h
   |some n=>
    cases h;exact⟨.int n,r i n e,by simp[Rep]⟩
 no:=λ_=>rfl
 on:=λi xs h=>nomatch h
 ow:=λi xs h=>nomatch h
def Dy{ns:List (xu)}{h:IE}{n:Int}{Q:VK}(j:TabAt G H)(o:σ.length=ns.length)(u:∀(i:Nat) n,ns[i]?=some (some n)->σ[i]?=some (some (.int n)))(he:au T cl (Fx ns) none h=some (.int n,false))(q:∀c,Sm G H c->Q (.int n) c):tI G T cl h σ H Q:=⟨Z0,[],H,[],_,none,_,_,X3 j o u,he,λv c s r _=>by simp only[Rep]at r;subst r;exact q c s⟩
def X4{ns:List (xu)}{h:IE}{b:Bool}{Q:VK}(j:TabAt G H)(o:σ.length=ns.length)(u:∀(i:Nat) n,ns[i]?=some (some n)->σ[i]?=some (some (.int n)))(he:au T cl (Fx ns) none h=some (.bl b,false))(q:∀c,Sm G H c->Q (.bl b) c):tI G T cl h σ H Q:=⟨Z0,[],H,[],_,none,_,_,X3 j o u,he,λv c s r _=>by simp only[Rep]at r;subst r;exact q c s⟩
def aaA{f:Str}{ns:List (xu)}{j:IE}{v:V}{C h p:Addr}{fs:List (Str×V)}{Dn:Ends}(o:σ[0]?=some (some (.ref p)))(r:DF X.K C)(u:gW X.K C f)(y:fs.length<1000)(B:H p=some (.ins C h fs)) (E:∀Q:VK,(∀c,Sm G H c->Q v c)->tI G T cl j σ H Q)(q:∀c,Sm G H c->Dn.nx σ (upd c p (.ins C h (oI f v fs)))):OQ X.K (yX 0) (tI G T cl j) f Dn σ H:=E _ λc s=>⟨_,o,p,C,h,fs,rfl,s.kp _ _ B (rA _ _ _),r,u,y,q c s⟩
end
end Lw
namespace Lw
def yI(f:F):Nat:=YF ([[28,35,42,49,56,63,70,77,84,91,98,222,0,229,0],[236,0,243,248,255,262,267,272,280,287,294,301,308,315,322],[329,336,343,350,358,365,370,377,384,391,398,405,412,419,427],[432,439,446,454,461,468,475,482,489,496,503,510,517,524,531],[538,545,552,559,566,573,580,587,594,601,608,615,622,629,636],[643,650,657,664,673,678,683,688,695,0,702,0,709,714,719],[724,729,734,739,744,749,754,759,0,766,773,780,785,790,0],[797,0,804,811,0,818,823,828,833,838,846,853,860,867,874],[881,888,895,902,909,916,924,931,938,943,948,0,955,962,0],[969,976,983,990,997,1004,1011,1018,1025,1032,1039,0,1044,1051,0],[1058,0,1065,0,1072,0,1079,1086,1091,1096,0,1103,0,1110,0],[1117,0,1124,1133,1138,1145,1150,1155,1160,1168,1175,1182,1189,1196,1204],[1211,1216,1223,1228,1233,1238,1243,0,1250,1258,1276,1283,1290,1297,1304],[119,126,133,140,147,154,161,168,175]]:List (gd)) f 0
noncomputable def Vu:D->Nat
 |.tN=>273
 |.aR=>351
 |.vk=>420
 |.tO=>447
 |.jI=>665
 |.iZ=>839
 |.bF=>917
 |.oJ=>1125
 |.tP=>1197
 |.sZ=>1251
 |.lO=>1259
 |.jJ=>1161
noncomputable def Om:F->Nat
 |.c1=>224
 |.cA=>231
 |.aU=>238
 |.bB=>697
 |.bg=>704
 |.bV=>761
 |.ee=>792
 |.bh=>799
 |.aF=>813
 |.cc=>950
 |.bt=>964
 |.a7=>1041
 |.cf=>1053
 |.bW=>1060
 |.a8=>1067
 |.a9=>1074
 |.hV=>1098
 |.cg=>1105
 |.c3=>1112
 |.bc=>1119
 |.bX=>1245
 |_=>0
noncomputable abbrev Fy:Nat:=192
noncomputable abbrev JE:Nat:=213
noncomputable abbrev Fz:Nat:=112
noncomputable abbrev FA:Nat:=210
noncomputable abbrev Dz:Nat:=1311
noncomputable abbrev K9:Nat:=1318
noncomputable abbrev RB:Nat:=1325
noncomputable def NV:gd:=[3,4,27,28,34,35,41,42,48,49,55,56,62,63,69,70,76,77,83,84,90,91,97,98,111,112,118,119,125,126,132,133,139,140,146,147,153,154,160,161,167,168,174,175,191,192,209,210,212,213,221,222,228,229,235,236,242,243,247,248,254,255,261,262,266,267,271,272,273,279,280,286,287,293,294,300,301,307,308,314,315,321,322,328,329,335,336,342,343,349,350,351,357,358,364,365,369,370,376,377,383,384,390,391,397,398,404,405,411,412,418,419,420,426,427,431,432,438,439,445,446,447,453,454,460,461,467,468,474,475,481,482,488,489,495,496,502,503,509,510,516,517,523,524,530,531,537,538,544,545,551,552,558,559,565,566,572,573,579,580,586,587,593,594,600,601,607,608,614,615,621,622,628,629,635,636,642,643,649,650,656,657,663,664,665,672,673,677,678,682,683,687,688,694,695,701,702,708,709,713,714,718,719,723,724,728,729,733,734,738,739,743,744,748,749,753,754,758,759,765,766,772,773,779,780,784,785,789,790,796,797,803,804,810,811,817,818,822,823,827,828,832,833,837,838,839,845,846,852,853,859,860,866,867,873,874,880,881,887,888,894,895,901,902,908,909,915,916,917,923,924,930,931,937,938,942,943,947,948,954,955,961,962,968,969,975,976,982,983,989,990,996,997,1003,1004,1010,1011,1017,1018,1024,1025,1031,1032,1038,1039,1043,1044,1050,1051,1057,1058,1064,1065,1071,1072,1078,1079,1085,1086,1090,1091,1095,1096,1102,1103,1109,1110,1116,1117,1123,1124,1125,1132,1133,1137,1138,1144,1145,1149,1150,1154,1155,1159,1160,1161,1167,1168,1174,1175,1181,1182,1188,1189,1195,1196,1197,1203,1204,1210,1211,1215,1216,1222,1223,1227,1228,1232,1233,1237,1238,1242,1243,1249,1250,1251,1257,1258,1259,1260,1261,1262,1263,1264,1265,1266,1267,1268,1269,1275,1276,1282,1283,1289,1290,1296,1297,1303,1304,1310,1311,1317,1318,1324,1325]
noncomputable def JF:gd:=[224,231,238,697,704,761,792,799,813,950,964,1041,1053,1060,1067,1074,1098,1105,1112,1119,1245]
noncomputable def QM:List D:=[.tN,.aR,.vk,.tO,.jI,.iZ,.bF,.oJ,.tP,.sZ,.lO,.jJ]
noncomputable def Ht:D->List (Int×F)
 |.tN=>[(25,.hO),(26,.gm),(33,.gp),(34,.Bx),(35,.gJ),(36,.eg),(37,.pB),(86,.eh)]
 |.aR=>[(90,.dD),(91,.d9),(92,.bz),(93,.kB),(94,.bS),(95,.pC),(96,.jy),(97,.cC),(98,.b_),(99,.mK)]
 |.vk=>[(87,.mL),(100,.cX),(101,.cY),(102,.eP),(103,.gK),(104,.eQ),(105,.pD)]
 |.tO=>[(48,.compress),(106,.fM),(107,.fN)]
 |.jI=>[(1,.jz),(2,.dF),(3,.dH),(4,.gL),(5,.cD),(6,.sO),(7,.apart),(8,.wB),(9,.sP),(10,.gM),(11,.fO),(12,.eR),(13,.pE),(14,.cE),(15,.gN),(16,.dJ),(17,.d_),(18,.bA),(19,.bU),(20,.cF),(21,.cb),(22,.de),(23,.mR),(24,.kC),(27,.df),(28,.negate),(29,.fP),(30,.gO),(31,.jA),(32,.eS)]
 |.iZ=>[(63,.gP),(64,.dR),(65,.dU),(66,.dN),(67,.bZ),(68,.iw),(69,.dO),(70,.iy),(71,.b0),(72,.qf),(74,.fQ),(75,.transform),(76,.cW),(77,.cx),(78,.jB),(79,.iz),(80,.iA)]
 |.bF=>[(130,.By),(131,.cG),(132,.bj),(133,.bp),(134,.br),(135,.bE),(136,.aL),(137,.a6),(138,.aV),(139,.wC)]
 |.oJ=>[(40,.pick),(41,.jD),(42,.jl),(43,.mU),(44,.d4),(45,.ek),(46,.en),(47,.fS),(49,.expand),(50,.dh),(51,.iC),(52,.gR),(53,.widen),(54,.iD),(55,.narrow),(56,.fo),(57,.hW),(58,.cy),(60,.eA),(61,.b7),(62,.b8)]
 |.tP=>[(88,.gS),(89,.eU)]
 |.sZ=>[(73,.eB),(81,.compare),(82,.fV),(83,.gg),(84,.iE),(85,.iF)]
 |_=>[]
noncomputable def K_:List (Int×List Int):=[(36,[32,64]),(53,[8,16,32]),(54,[8,16,32]),(55,[8,16,32]),(56,[8,16,32]),(57,[8,16,32]),(58,[8,16,32]),(62,[16]),(78,[32,64]),(87,[32,64])]
noncomputable def QN:List F:=[F.among,F.between,F.alike,F.m7]
end Lw
namespace Lw
open PySem PySem.W L2
noncomputable def gone(o:Obj):Bool:=match o.data with
 |.freed=>true
 |_=>false
def NW{o:Obj}(h:gone o=false):o.data≠.freed:=λe=>by unfold gone at h;rw[e]at h;cases h
def pick:List Obj->gd->Nat->Frag
 |[],_,_=>[]
 |_::_,[],_=>[]
 |o::os,a::as,i=>match v4 a i,gone o with
  |true,false=>(a,o)::pick os as (i+1)
  |true,true=>pick os as (i+1)
  |false,_=>pick os (a::as) (i+1)
theorem FC:∀{j:List Obj} {as:gd} {i a:Nat} {o:Obj},(a,o)∈pick j as i->i<=a/\j[a-i]?=some o/\o.data≠.freed
 |[],as,i,a,o,h=>by simp[pick]at h
 |q::j,[],i,a,o,h=>by simp[pick]at h
 |q::j,u::as,i,a,o,h=>by
  have c:∀{r:gd},(a,o)∈pick j r (i+1)->i<=a/\(q::j)[a-i]?=some o/\o.data≠.freed:=λh'=>by obtain⟨E,y,B⟩:=FC h';refine⟨by omega,?_,B⟩;obtain⟨d,rfl⟩:∃d,a=i+1+d:=⟨a-(i+1),by omega⟩;rw[show i+1+d-(i+1)=d by omega]at y;rw[show i+1+d-i=d+1 by omega,FN];exact y
  rw[pick]at h;cases e:v4 u i with
  |false=>rw[e]at h;exact c h
  |true=>
   rw[e]at h;have e':u=i:=Nat.eq_of_beq_eq_true e;subst e';cases s:gone q with
   |true=>rw[s]at h;exact c h
   |false=>
    rw[s]at h;rcases aA.mp h with h|h;cases h;exact⟨aH _,by rw[na];rfl,NW s⟩;exact c h
def mem_lookup{K:Frag}{a:Nat}{o:Obj}(h:K.lookup a=some o):(a,o)∈K:=by
 induction K with
 |nil=>cases h
 |cons p K c=>
  obtain⟨b,q⟩:=p;rw[lJ]at h;cases e:a==b with
  |true=>
   rw[e]at h;have:a=b:=by simpa using e
   subst this;cases h;exact kz
  |false=>
   rw[e]at h;exact d7 _ (c h)
def JG(h)(as):(pick h.objs.toList as 0).In h:=λa o e=>by obtain⟨_,c,j⟩:=FC (mem_lookup e);rw[ms,Array.getElem?_toList]at c;unfold Heap.get?;rw[c];obtain⟨r,s,q,u⟩:=o;cases q<;>first|rfl|exact absurd rfl j
noncomputable def QO(K:Frag)(name qual:Str)(a:Nat):Bool:=(match K.lookup a with
  |some ⟨_,_,.func fd,_⟩=>decide (fd.name=name)&&decide (fd.qualname=qual)&&decide (fd.globals=mainGlobals)&&fd.closure.isEmpty&&decide (fd.defaults=.none)&&decide (fd.code=.ref (a-1))&&decide (fd.builtins=builtinsNs)
  |_=>false)&&codeIn K (.ref (a-1)) qual
noncomputable def YH(K:Frag)(a:Nat):Option (Arguments×FuncBody×Scope):=match K.lookup a with
 |some ⟨_,_,.func fd,_⟩=>some (fd.params,fd.body,fd.scope)
 |_=>none
inductive XF|d5|ord|cnt|Oo|dd
def YI:XF->Nat
 |.d5=>Fz|.ord=>FA|.cnt=>Dz|.Oo=>K9|.dd=>RB
def nmX:XF->Str
 |.d5=>"__init__"|.ord=>"__init__"|.cnt=>"counted"|.Oo=>"told_parts"|.dd=>"do"
def qlX:XF->Str
 |.d5=>"Machine.__init__"|.ord=>"Order.__init__"|.cnt=>"counted"|.Oo=>"told_parts"|.dd=>"do"
def NX:List XF:=[.d5,.ord,.cnt,.Oo,.dd]
def FE:List F:=yi.filter λf=> !(mZ f==2)
def NY(K:Frag):Bool:=FE.all (λf=>QO K (dnF f) (yj f) (yI f))&&NX.all λx=>QO K (nmX x) (qlX x) (YI x)
def QP(K:Frag):Bool:=FE.all (λf=>mZ f==1||decide (nsIn K mainGlobals (DI f)=some (some (.ref (yI f)))))&&
 [0,1,2].all (λn=>match nsIn K mainGlobals (Oj n)with|some (some (.int c _))=>decide (XY n=some c)|_=>false)&&
 (["len","abs","min","max","sum","range","enumerate","zip","reversed","list"]:jR).all (λx=>decide (nsIn K mainGlobals x=some none))&&
 QM.all (λd=>decide (nsIn K mainGlobals (Vs d)=some (some (.ref (Vu d)))))&&
 decide (nsIn K mainGlobals "Machine"=some (some (.ref Fy)))&&decide (nsIn K mainGlobals "Order"=some (some (.ref JE)))&&
 decide (nsIn K mainGlobals "counted"=some (some (.ref Dz)))&&decide (nsIn K mainGlobals "told_parts"=some (some (.ref K9)))&&decide (nsIn K mainGlobals "do"=some (some (.ref RB)))&&
 decide (nsIn K mainGlobals "__builtins__"=some (some (.ref 4)))
noncomputable def QQ(K:Frag)(C:Nat)(c:Nat):Bool:=plainGet K C Str.empty&&hasDictIn K C&&plainOver K C&&decide (findIn K (.ref C) "__setattr__"=some (some (.builtin "object.__setattr__")))&&makesIn K C&&keepIn K (.ref C)&&
 decide (findIn K (.ref C) "__init__"=some (some (.ref c)))
def QR(K:Frag):Bool:=QQ K Fy Fz&&QQ K JE FA&&
 FE.all (λf=> !(mZ f==1)||decide (findIn K (.ref Fy) (DI f)=some (some (.ref (yI f)))))&&
 (["vectors","predicates","scalars","flags"]:jR).all (λx=>decide (findIn K (.ref Fy) x=some none))&&
 (["sound","operation","k","n","zeroing","d","a","b","g","z","m"]:jR).all (λx=>decide (findIn K (.ref JE) x=some none))&&
 FE.all (λf=>isFn K (.ref (yI f)))&&isFn K (.ref Fz)&&isFn K (.ref FA)
noncomputable def La(e:DictEntry):Option (Int×Value):=match e.key with
 |.int i _=>if e.hash=hashInt i then some (i,e.val)else none
 |_=>none
def NZ(K:Frag)(a:Nat):Option (List (Int×Value)):=match K.lookup a with
 |some ⟨cl,dd,.dict es _,sl⟩=>if cl=.type "dict"&&dd.isNone&&sl.isEmpty then es.toList.mapM La else none
 |_=>none
noncomputable def tupI(K:Frag)(a:Nat):Option (List Int):=match K.lookup a with
 |some ⟨.type "tuple",_,.seq its _,_⟩=>its.toList.mapM λv=>match v with
  |.int i _=>some i
  |_=>none
 |_=>none
def UR(K:Frag):Bool:=QM.all λd=>match Dv d with
 |true=>(match K.lookup (Vu d)with
  |some ⟨cl,_,.seq its _,_⟩=>decide (cl=.type "tuple")&&decide (its.toList=QN.map λf=>.ref (yI f))
  |_=>false)
 |false=>(match NZ K (Vu d)with
  |some l=>(match K8 d with
   |true=>decide (l=(Ht d).map λx=>(x.1,.ref (yI x.2)))
   |false=>decide (l.map (·.1)=K_.map (·.1))&&(l.zip K_).all λx=>match x.1.2 with
    |.ref a=>decide (tupI K a=some x.2.2)
    |_=>false)
  |none=>false)
def FK:XF->Stmt
 |.d5=>tG 16 0|.ord=>tG 18 0|.cnt=>Fu 230|.Oo=>Fu 231|.dd=>Fu 232
noncomputable def Hu(K:Frag)(a:Nat):FuncData:=match K.lookup a with
 |some ⟨_,_,.func fd,_⟩=>fd
 |_=>default
def YJ(c:Stmt):Option (Arguments×FuncBody×Scope):=some (oq c,.stmts (cP c),a0 c)
def N0{K:Frag}{x qual:Str}{a:Nat}{r:Stmt}(h:QO K x qual a=true)(t:YH K a=YJ r):Gh K x qual r a (Hu K a)/\(Hu K a).code=.ref (a-1):=by
 unfold QO at h;rw[aB]at h;obtain⟨h,O⟩:=h;unfold YH YJ at t;unfold Hu;split at h
 ·rename_i P Q fd U c;first|rw[c]at t⊢|rw[c]at t
  simp only[aD,aG]at t;obtain⟨s,u,y⟩:=t;simp only[aB,bG]at h;obtain⟨⟨⟨⟨⟨⟨B,E⟩,G⟩,H⟩,J⟩,j⟩,L⟩:=h;have o:keepIn K (.ref a)=true:=by unfold keepIn;simp only[c]
  refine⟨⟨⟨P,Q,fd.kwdefaults,fd.doc,fd.pyModule,fd.annotations,fd.code,fd.closureTuple,U,?_,c,by rw[j];exact O⟩,o⟩,j⟩;obtain⟨D,V,R,I,S,A,M,N,W,X,Y,Z,T,C,F⟩:=fd;simp only at B E G H J j L s u y;have q:M=[]:=by
   cases M with
   |nil=>rfl
   |cons _ _=>cases H
  subst B E G q J L s u y;rfl
 ·cases h
def US(K:Frag):List (Option (Arguments×FuncBody×Scope)):=FE.map (λf=>YH K (yI f))++NX.map λx=>YH K (YI x)
def Oq:List (Option (Arguments×FuncBody×Scope)):=FE.map (λf=>YJ (qT f))++NX.map λx=>YJ (FK x)
def UT(K c:Frag):Bool:=JF.all λa=>(K.lookup a).isNone&&(match c.lookup a with
 |some ⟨cl,none,.fields vs,sl⟩=>decide (cl=.none)&&vs.isEmpty&&sl.isEmpty
 |_=>false)
noncomputable def N1(K:Frag)(c P:Nat):Bool:=match K.lookup c with
 |some ⟨cl,_,.fields vs,_⟩=>decide (cl=.type "code")&&decide (vs[11]?=some (.ref P))&&decide (vs.getD 11 .none=.ref P)&&(match vs.getD 18 .none,vs.getD 7 .none,vs.getD 9 .none,vs.getD 10 .none with
  |Value.str _ _,Value.int _ _,Value.bool _,Value.int _ _=>true
  |_,_,_,_=>false)&&decide (c≠P)
 |_=>false
def Lb:List F:=yi.filter λf=>mZ f==2
def UU(K:Frag):Bool:=Lb.all λf=>match QJ f with
 |.vW g=>N1 K (yI g-1) (Om f)&&decide (Om f∈JF)
 |_=>false
noncomputable def QS(K:Frag):Bool:=match K.lookup 4 with
 |some ⟨cl,d,.plain,_⟩=>decide (cl=.type "module")&&decide (d=some builtinsNs)
 |_=>false
def Lc(K c:Frag):Bool:=NY K&&QP K&&QR K&&UR K&&UT K c&&UU K&&QS K
def Laid(h:Heap):Prop:=∃K c:Frag,K.In h/\c.In h/\Lc K c=true/\US K=Oq
def Ld(s:Shared):Bool×List (Option (Arguments×FuncBody×Scope)):=(Lc (pick s.heap.objs.toList NV 0) (pick s.heap.objs.toList JF 0),US (pick s.heap.objs.toList NV 0))
def QT{s:Shared}(e:Ld s=(true,Oq)):Laid s.heap:=by unfold Ld at e;obtain⟨c,h⟩:=Prod.mk.inj e;exact⟨_,_,JG _ _,JG _ _,c,h⟩
def Laid.keeps{h h':Heap}(l:Laid h)(k:∀b o,h.get? b=some o->h'.get? b=some o):Laid h':=let ⟨K,KT,a,b,c,d⟩:=l
 ⟨K,KT,a.keeps k,b.keeps k,c,d⟩
def tbL:List (Addr×Pos×Str):=Lb.filterMap λf=>(dC (cP (qT f))).map λc=>(Om f,c.pos,yj f)
def N2(mg:qL)(f:F)(c:v8)(ct doc cd:Value):FuncData:=match dC (cP (qT f))with
 |some (.d name params body scope _)=>fnX name (yj f) params body scope c .none .none doc ((mg "__name__").getD .none) none cd ct
 |some (.l params body scope _)=>kla_fn "<lambda>" (yj f) params body scope c ((mg "__name__").getD .none) cd ct
 |none=>default
def gx(K:Frag)(mg:qL):Gx where
 K:=K
 mg:=mg
 CM:=Fy
 CO:=JE
 nm:=DI
 fa:=yI
 fd:=λf=>Hu K (yI f)
 ps:=yH
 glob:=λf=>mZ f==0
 aI:=λf=>mZ f==1
 ko:=λf=>mZ f==2
 gn:=Oj
 dn:=Vs
 da:=Vu
 Et:=K8
 tb:=tbL
 cs:=DH
 cq:=yj
 Gv:=N2 mg
def JH{f:F}(h:mZ f≠2):f∈FE:=sE.mpr ⟨Dw f,by simp[h]⟩
def DA{f:F}(h:mZ f=2):f∈Lb:=sE.mpr ⟨Dw f,by simp[h]⟩
def vX{p:F->Bool}(h:FE.all p=true){f:F}(c:mZ f≠2):p f=true:=c_.mp h f (JH c)
def AD(d):d∈QM:=by cases d<;>simp[QM]
def FF(x:XF):x∈NX:=by cases x<;>simp[NX]
section
variable {K KT:Frag} {mg:qL} {base:Heap}
structure AE(K KT:Frag):Prop where
 f:NY K=true
 g:QP K=true
 m:QR K=true
 d:UR K=true
 t:UT K KT=true
 n:UU K=true
 b:QS K=true
 tx:US K=Oq
def UW(h:Lc K KT=true)(t:US K=Oq):AE K KT:=by unfold Lc at h;simp only[aB]at h;obtain⟨⟨⟨⟨⟨⟨c,j⟩,o⟩,q⟩,r⟩,s⟩,u⟩:=h;exact⟨c,j,o,q,r,s,u,t⟩
def JI{j:Type}{a b c d:List j}(h:a++b=c++d)(o:a.length=c.length):a=c/\b=d:=List.append_inj h o
def AE.fn(c:AE K KT){f:F}(j:mZ f≠2):Gh K (dnF f) (yj f) (qT f) (yI f) (Hu K (yI f))/\(Hu K (yI f)).code=.ref (yI f-1):=by have h:=c.f;unfold NY at h;rw[aB]at h;have o:=c.tx;unfold US Oq at o;have q:=(JI o (by simp)).1;exact N0 (vX h.1 j) (List.map_inj_left.mp q f (JH j))
def AE.fx(c:AE K KT)(x:XF):Gh K (nmX x) (qlX x) (FK x) (YI x) (Hu K (YI x)):=by have h:=c.f;unfold NY at h;rw[aB]at h;have j:=c.tx;unfold US Oq at j;have o:=(JI j (by simp)).2;exact(N0 (c_.mp h.2 x (FF x)) (List.map_inj_left.mp o x (FF x))).1
structure GlK(K:Frag):Prop where
 f:∀f,mZ f=0->nsIn K mainGlobals (DI f)=some (some (.ref (yI f)))
 i:∀n c,XY n=some c->∃t,nsIn K mainGlobals (Oj n)=some (some (.int c t))
 b:∀x∈(["len","abs","min","max","sum","range","enumerate","zip","reversed","list"]:jR),nsIn K mainGlobals x=some none
 d:∀d,nsIn K mainGlobals (Vs d)=some (some (.ref (Vu d)))
 d5:nsIn K mainGlobals "Machine"=some (some (.ref Fy))
 ord:nsIn K mainGlobals "Order"=some (some (.ref JE))
 cnt:nsIn K mainGlobals "counted"=some (some (.ref Dz))
 Oo:nsIn K mainGlobals "told_parts"=some (some (.ref K9))
 dd:nsIn K mainGlobals "do"=some (some (.ref RB))
 bm:nsIn K mainGlobals "__builtins__"=some (some (.ref 4))
def AE.gl(c:AE K KT):GlK K:=by
 have h:=c.g;unfold QP at h;simp only[aB,bG]at h;obtain⟨⟨⟨⟨⟨⟨⟨⟨⟨s,u⟩,y⟩,B⟩,E⟩,G⟩,H⟩,J⟩,L⟩,j⟩:=h;refine⟨λf q=> ?_,λn M r=> ?_,λx O=> ?_,λd=> ?_,E,G,H,J,L,j⟩;have:=vX s (f:=f) (by rw[q];decide);simpa [q] using this;have o:n∈[0,1,2]:=by
  match n,r with
  |0,_=>simp
  |1,_=>simp
  |2,_=>simp
 have:=c_.mp u n o;split at this;rename_i P t e;rw[r]at this;have Q:M=P:=by simpa using this
 subst Q;exact⟨t,e⟩;cases this;have:=c_.mp y x O;simpa using this;have:=c_.mp B d (AD d);simpa using this
structure MtK(K:Frag):Prop where
 cM:DF K Fy
 cO:DF K JE
 kM:L2.Mk K Fy Fz
 kO:L2.Mk K JE FA
 me:∀f,mZ f=1->Meth K Fy (DI f) (yI f)
 nM:∀j,gW K Fy (Of j)
 nF:gW K Fy "flags"
 nO:∀a,gW K JE (Rc a)
def N3{C f:Nat}(h:QQ K C f=true)(c:isFn K (.ref f)=true):DF K C/\L2.Mk K C f:=by unfold QQ at h;simp only[aB,bG]at h;obtain⟨⟨⟨⟨⟨⟨j,o⟩,q⟩,r⟩,s⟩,u⟩,y⟩:=h;exact⟨⟨j,o,q,r⟩,⟨s,y,c,u⟩⟩
def AE.mt(c:AE K KT):MtK K:=by
 have h:=c.m;unfold QR at h;simp only[aB]at h;obtain⟨⟨⟨⟨⟨⟨⟨y,B⟩,E⟩,q⟩,G⟩,H⟩,J⟩,L⟩:=h;have r:=N3 y J;have s:=N3 B L;refine⟨r.1,s.1,r.2,s.2,λf u=> ?_,λj=> ?_,?_,λa=> ?_⟩;have o:mZ f≠2:=by rw[u];decide
 have:=vX E o;refine⟨by simpa [u] using this,vX H o,(c.fn o).1.kp⟩;have:=c_.mp q (Of j) (by cases j<;>simp[Of]);rw[bG]at this;exact this;have:=c_.mp q "flags" (by simp);rw[bG]at this;exact this;have:=c_.mp G (Rc a) (by cases a<;>simp[Rc]);rw[bG]at this;exact this
end
section
variable {K KT:Frag} {mg:qL} {base:Heap} {P:Program} {w:World}
noncomputable def Hv{c:Type}:List (Int×c)->Int->Option c
 |[],_=>none
 |(k,v)::r,i=>if i=k then some v else Hv r i
def DB(d)(c:Dv d=false)(i):du d i=Hv (Ht d) i:=by cases d<;>first|rfl|cases c
def N4(d)(i){l:List Int}(h:Tt d i=some l):d=.lO/\Hv K_ i=some l:=by cases d<;>first|exact⟨rfl,h⟩|cases h
def JJ(d)(c:Dv d=false)(i):vz d i=decide (i∈if K8 d=true then(Ht d).map (·.1)else K_.map (·.1)):=by cases d<;>first|rfl|cases c
def vY{l:List (Int×Value)}(i):valueAt (l.map λx=>((Pv x.1:Key),x.2)) (.inl i)=Hv l i:=by
 induction l with
 |nil=>rfl
 |cons x l c=>
  obtain⟨k,v⟩:=x;unfold valueAt at c|-;rw[bI,List.find?_cons];unfold Hv;by_cases h:i=k;subst h;simp;have:¬(Pv k:Key)=Pv i:=λz=>h (_F z).symm;rw[ab h,b9 this];exact c
def FG{c:Type}{l:List (Int×c)}{i:Int}:(Hv l i).isSome=decide (i∈l.map (·.1)):=by
 induction l with
 |nil=>rfl
 |cons x l j=>
  obtain⟨k,v⟩:=x;unfold Hv;by_cases h:i=k;subst h;simp;rw[ab h,j];simp[h]
def JK{c h:Type}{g:c->h}{l:List (Int×c)}{i:Int}:Hv (l.map λx=>(x.1,g x.2)) i=(Hv l i).map g:=by
 induction l with
 |nil=>rfl
 |cons x l j=>
  obtain⟨k,v⟩:=x;simp only[bI,Hv];split;rfl;exact j
def QU{e:DictEntry}{i:Int}{v:Value}(h:La e=some (i,v)):(∃t,e.key=.int i t)/\e.hash=hashInt i/\e.val=v:=by unfold La at h;split at h;rename_i o t c;split at h;rename_i j;cases h;exact⟨⟨t,c⟩,j,rfl⟩;cases h;cases h
theorem AF:∀{c:List DictEntry} {l:List (Int×Value)},c.mapM La=some l->Pairs (hH P w) c (l.map λx=>((Pv x.1:Key),x.2))/\∀e∈c,∃k,(hH P w).is k e.key=true/\e.hash=(hH P w).hash k
 |[],l,h=>by simp at h;subst h;exact⟨.nil,λe he=>by cases he⟩
 |e::c,l,h=>by
  rw[_E]at h;cases he:La e with
  |none=>rw[he]at h;cases h
  |some x=>
   rw[he]at h;cases j:c.mapM La with
   |none=>rw[j]at h;cases h
   |some r=>
    rw[j]at h;cases h;obtain⟨i,v⟩:=x;obtain⟨⟨t,q⟩,s,u⟩:=QU he;obtain⟨a,b⟩:=AF j;have o:(hH P w).is (.inl i) e.key=true:=by rw[q];exact xw P w i t
    refine⟨.cons o u a,λe' h'=> ?_⟩;rcases aA.mp h' with z|z;subst z;exact⟨.inl i,o,s⟩;exact b e' z
def JL{a:Nat}{l:List (Int×Value)}(h:NZ K a=some l)(q:(l.map (·.1)).Nodup)(j)(r:K.In j):j.DictOf (hH P w) a (l.map λx=>((Pv x.1:Key),x.2)):=by
 unfold NZ at h;split at h;rename_i M O s u Q y;split at h;rename_i o;simp only[aB,bG,DL,t0]at o;obtain⟨⟨B,E⟩,G⟩:=o;obtain⟨H,J⟩:=AF (P:=P) (w:=w) h;refine⟨_,s,u,r _ _ y,⟨B,E,G⟩,rfl,λe he=>J e (Array.mem_toList_iff.mpr he),H,?_⟩;rw[bY];have:((λc:Key×Value=>c.1)∘λx:Int×Value=>((Pv x.1:Key),x.2))=λx=>Pv x.1:=rfl;have L:l.map ((λc:Key×Value=>c.1)∘λx:Int×Value=>((Pv x.1:Key),x.2))=(l.map (·.1)).map (Pv:Int->Key):=by rw[bY];rfl
 rw[L];exact List.Pairwise.map _ (λa b h z=>h (_F z)) q;cases h;cases h
theorem DC:∀{vs:TyJ} {l:List Int},(vs.mapM λv=>match v with
  |Value.int i _=>some i
  |_=>none)=some l->Vals (l.map V.int) vs
 |[],l,h=>by simp at h;subst h;exact .nil
 |v::vs,l,h=>by
  rw[_E]at h;cases v with
  |int i t=>
   cases c:(vs.mapM λv=>match v with
    |Value.int i _=>some i
    |_=>none)with
   |none=>simp only[c]at h;cases h
   |some r=>
    simp only[c]at h;cases h;exact .cons ⟨t,rfl⟩ (DC c)
  |_=>cases h
end
theorem B3:∀(l:List F),Vals (l.map λf=>V.ref (yI f)) (l.map λf=>Value.ref (yI f))
 |[]=>.nil
 |f::l=>.cons rfl (B3 l)
def UX(d):((Ht d).map (·.1)).Nodup:=by cases d<;>decide
def UY:(K_.map (·.1)).Nodup:=by decide
def RC(d):(Vs d=="__debug__")=false:=by cases d<;>decide+kernel
def X5(d):(Vu d==sysModules)=false:=by cases d<;>decide+kernel
def N5(d):∀x∈Ht d,mZ x.2=0:=by cases d<;>decide+kernel
def N6:∀f∈QN,mZ f=0:=by decide+kernel
section
variable {K KT:Frag} {mg:qL} {base:Heap} {P:Program} {w:World}
def JM{c:Type}{l:List (Int×c)}{i:Int}{v:c}(h:Hv l i=some v):(i,v)∈l:=by
 induction l with
 |nil=>cases h
 |cons x l j=>
  obtain⟨k,u⟩:=x;unfold Hv at h;split at h;rename_i e;cases h;rw[e];exact kz;exact d7 _ (j h)
theorem N7:∀{l:List (Int×Value)} {m:List (Int×List Int)} {p:Value->List Int->Prop},l.map (·.1)=m.map (·.1)->(∀x∈l.zip m,p x.1.2 x.2.2)->∀{i:Int} {q:List Int},Hv m i=some q->∃v,Hv l i=some v/\p v q
 |[],[],p,_,_,i,q,h=>by cases h
 |[],y::m,p,e,_,i,q,h=>by simp at e
 |x::l,[],p,e,_,i,q,h=>by simp at e
 |x::l,y::m,p,e,c,i,q,h=>by obtain⟨k,v⟩:=x;obtain⟨B,u⟩:=y;simp only[bI,List.cons.injEq]at e;obtain⟨o,r⟩:=e;subst o;unfold Hv at h|-;by_cases j:i=k;rw[ae j]at h|-;cases h;exact⟨v,rfl,c ((k,v),(k,q)) (by simp)⟩;rw[ab j]at h|-;exact N7 r (λx s=>c x (by rw[B_];exact d7 _ s)) h
def AE.di(c:AE K KT)(U:K.In base)(G:base.Ns mainGlobals mg)(d)(r:Dv d=false)(X)(H:X.K=K)(Y:X.mg=mg)(V:X.prog=P)(R:X.w=w):zJ (gx K mg) T X d:=by
 have j:=c_.mp c.d d (AD d);rw[r]at j;simp only at j;refine⟨by rw[Y];exact mg_of U G (c.gl.d d),RC d,X5 d,?_⟩;split at j;rename_i l M;have O:∀i:Int,T.s_ d i=vz d i:=λ_=>rfl;have J:∀i:Int,T.kq d i=du d i:=λ_=>rfl;have E:∀i:Int,T.Gm d i=Tt d i:=λ_=>rfl;split at j;rename_i s;rw[bG]at j;have u:l.map (·.1)=(Ht d).map (·.1):=by rw[j,bY];rfl
 refine⟨l.map λx=>((Pv x.1:Key),x.2),λh y=>JL M (by rw[u];exact UX d) h (by rw[<-H];exact y),λi=> ?_,λi f h=> ?_,λi o h=> ?_,λi q h=> ?_⟩;rw[O,JJ d r,ae s,vY,FG,u];rw[J,DB d r]at h;refine⟨?_,?_⟩;rw[vY,j,JK (g:=λf=>Value.ref (yI f)),h];rfl;show(mZ f==0)=true;rw[N5 d _ (JM h)];rfl;rw[J,DB d r]at h;rw[vY,j,JK (g:=λf=>Value.ref (yI f)),h];rfl;rw[E]at h;obtain⟨e,_⟩:=N4 d i h;subst e;cases s;rename_i s;simp only[aB,bG,c_]at j;obtain⟨u,Z⟩:=j;refine⟨l.map λx=>((Pv x.1:Key),x.2),λh y=>JL M (by rw[u];exact UY) h (by rw[<-H];exact y),λi=> ?_,λi f h=> ?_,λi o h=> ?_,λi q h=> ?_⟩;rw[O,JJ d r,ab (by rw[s];decide),vY,FG,u];rw[J,DB d r]at h;have:Ht d=[]:=by cases d<;>first|rfl|cases s
 rw[this]at h;cases h;rw[show(gx K mg).Et d=K8 d from rfl,s]at o;cases o;rw[E]at h;obtain⟨_,h⟩:=N4 d i h;obtain⟨v,C,a,rfl,B⟩:=N7 (p:=λv q=>∃a,v=.ref a/\tupI K a=some q) u (λx E=>by have:=Z x E;split at this;rename_i a e;exact⟨a,e,by simpa using this⟩;cases this) h;refine⟨a,by rw[vY];exact C,?_⟩;rw[H];unfold tupI at B;split at B;rename_i I L n S y;refine .inr ⟨_,L,n,y,rfl,rfl,?_,DC B⟩;have Q:=(DC B).length;have F:q.length<=3:=by
  have D:=JM h;have:∀x∈K_,x.2.length<=3:=by decide
  exact this _ D
 rw[aP]at Q;rw[<-wb,<-Q];exact eF F (by decide);cases B;cases j
def AE.tu(c:AE K KT)(u:K.In base)(o:base.Ns mainGlobals mg)(d:D)(r:Dv d=true)(X)(y:X.K=K)(B:X.mg=mg):PD (gx K mg) T X d:=by
 have j:=c_.mp c.d d (AD d);rw[r]at j;simp only at j;refine⟨by rw[B];exact mg_of u o (c.gl.d d),RC d,?_⟩;split at j;rename_i J L q n M E;simp only[aB,bG]at j;obtain⟨G,s⟩:=j;refine⟨QN,λf H=>by show(mZ f==0)=true;rw[N6 f H];rfl,?_,λi f h=> ?_⟩;rw[y];refine .inr ⟨_,q,n,E,G,rfl,?_,?_⟩;rw[<-wb,s,aP];decide;rw[s];exact B3 QN;have:d=.jJ:=by cases d<;>first|rfl|cases r
 subst this;exact h;cases j
end
def X6:(yi.all λf=>match QJ f with
  |.vW g=>mZ f==2&&mZ g==0
  |_=> !(mZ f==2))=true:=by decide+kernel
def UZ:(Lb.all λf=>Lb.all λg=> !(Om f==Om g)||f.ix==g.ix)=true:=by decide+kernel
def N8:(Oj 0==("__debug__":Str))=false/\(Oj 1==("__debug__":Str))=false/\(Oj 2==("__debug__":Str))=false:=by decide+kernel
section
variable {K KT:Frag} {mg:qL} {base:Heap} {P:Program} {w:World}
def JN{c j:Nat}(h:N1 K c j=true)(q:K.In base):CodeHd base c j:=by unfold N1 at h;split at h;rename_i L M vs O r;simp only[aB,bG]at h;obtain⟨⟨⟨⟨s,u⟩,y⟩,o⟩,B⟩:=h;split at o;rename_i Q U X Y Z T C E G H J;exact⟨_,vs,_,_,_,_,_,_,_,q _ _ r,s,rfl,u,y,E,G,H,J,B⟩;cases o;cases h
def AE.top(c:AE K KT)(r:K.In base)(j:base.Ns mainGlobals mg):Top P w base (gx K mg) where
 nm:=rfl
 ps:=rfl
 glob:=rfl
 aI:=rfl
 ko:=rfl
 gn:=rfl
 dn:=rfl
 Et:=rfl
 cs:=rfl
 cq:=rfl
 fn:=λf q=>(c.fn q).1
 bd:=λf q=>X2 q (c.fn q).1
 YG:=λf q=>⟨mg_of r j (c.gl.f f q),(c.fn (by rw[q];decide)).1.kp⟩
 met:=λf q=>c.mt.me f q
 Eu:=c.mt.cM
 CD:=c.mt.cO
 Lk:=c.mt.nM
 Rf:=c.mt.nF
 CF:=c.mt.nO
 gi:=λn U s=>by
  obtain⟨t,e⟩:=c.gl.i n U s;refine⟨⟨t,mg_of r j e⟩,?_⟩;match n,s with
  |0,_=>exact N8.1
  |1,_=>exact N8.2.1
  |2,_=>exact N8.2.2
 bi:=λx L=>mg_none_of r j (c.gl.b x (by simp only[aA,lK,jP]at L|-;rcases L with h|h|h|h|h|h|h|h|h<;>simp[h]))
 di:=λd y X B E Y Z=>c.di r j d y X B E Y Z
 tu:=λd y X B E=>c.tu r j d y X B E
 bm:=by have h:=c.b;unfold QS at h;split at h;rename_i I S A G;simp only[aB,bG]at h;exact⟨4,_,mg_of r j c.gl.bm,by decide,r _ _ G,h.1,h.2,rfl⟩;cases h
 made:=λf g N M u=>by have hpl:=km X6 f;rw[M]at hpl;simp only[aB,beq_iff_eq]at hpl;obtain⟨H,T⟩:=hpl;have s:=c_.mp c.n f (DA H);rw[M]at s;simp only[aB,bG]at s;refine⟨yI g-1,Om f,(c.fn (by rw[T];decide)).2,JN s.1 r,yR.mpr ⟨f,DA H,by rw[u];rfl⟩,λt C e=> ?_⟩;obtain⟨J,F,D⟩:=yR.mp C;obtain⟨V,O,R⟩:=bR.mp D;subst R;have Q:=c_.mp (c_.mp UZ J F) f (DA H);have e':Om J=Om f:=e;rw[e']at Q;have:J=f:=BZ (by simpa using Q);subst this;rw[u]at O;cases O;rfl
 Gv:=λf name params body scope pos G u o ct doc cd=>by show N2 mg f o ct doc cd=_;unfold N2;rw[u];rfl
 cfl:=λf params body scope pos G u o ct doc cd=>by show N2 mg f o ct doc cd=_;unfold N2;rw[u];rfl
end
noncomputable def QV:jR:=["self","instruction","second"]
def U0:jg QV ["self","instruction"] (a0 (FK .ord)):=sX (by decide+kernel)
def cOr:CK:=⟨Vt,QV,a0 (FK .ord),λ_=>true,λ_=>false⟩
structure yJ(G:Gx)(p:Addr)(H H':Hp):Prop where
 kp:∀b o,H b=some o->NT o->b≠p->H' b=some o
 tb:∀b ps,H b=some (.uW ps)->∃ps',H' b=some (.uW ps')
 ta:TabAt G H->TabAt G H'
section
variable {G:Gx} {p:Addr} {H H1 H2:Hp}
def yJ.refl:yJ G p H H:=⟨λ_ _ h _ _=>h,λ_ ps h=>⟨ps,h⟩,id⟩
def yJ.trans(a:yJ G p H H1)(b:yJ G p H1 H2):yJ G p H H2:=⟨λc o h n e=>b.kp c o (a.kp c o h n e) n e,λc ps h=>let ⟨ps',h'⟩:=a.tb c ps h;b.tb c ps' h',λt=>b.ta (a.ta t)⟩
def yJ.of(a:Sm G H H1):yJ G p H H1:=⟨λc o h n _=>a.kp c o h n,a.tb,a.ta⟩
def yJ.upd{C j:Addr}{fs r:List (Str×V)}(h:H p=some (.ins C j fs)):yJ G p H (L2.upd H p (.ins C j r)) where
 kp:=λc o s n e=>by rw[ao e];exact s
 tb:=λc ps s=>by
  have e:c≠p:=λz=>by subst z;rw[h]at s;cases s
  exact⟨ps,by rw[ao e];exact s⟩
 ta:=λt y E=>by
  have u:∀{b:Addr} {o:HO},H b=some o->(∀C j fs,o≠.ins C j fs)->L2.upd H p (.ins C j r) b=some o:=λ{b o} B J=>by
   have e:b≠p:=λz=>by subst z;rw[h]at B;cases B;exact J _ _ _ rfl
   rw[ao e];exact B
  rcases t y E with z|⟨L,M,O⟩;exact .inl (u z λ_ _ _ q=>(nomatch q));exact .inr ⟨L,u M (λ_ _ _ q=>(nomatch q)),u O (λ_ _ _ q=>(nomatch q))⟩
end
theorem AG{f:Str}{v:V}:∀{fs:List (Str×V)},(fs.all λx=> !(decide (x.1=f)))=true->oI f v fs=fs++[(f,v)]
 |[],_=>rfl
 |(g,u)::fs,h=>by
  rw[fC,aB]at h;have c:¬g=f:=by simpa using h.1
  show(if g=f then _ else(g,u)::oI f v fs)=_;rw[ab c,AG h.2];rfl
section
variable {G:Gx} {cl:D8} {X:Cx} {H:Hp} {σ:L2.St}
def jj{f:Str}{r:TE}{v:V}{C j p:Addr}{fs:List (Str×V)}{Dn:Ends}(B:σ[0]?=some (some (.ref p)))(E:DF X.K C)(J:gW X.K C f)(o)(u:fs.map (·.1)=o)(h:(decide (o.length<1000)&&o.all λx=> !(decide (x=f)))=true)(y:H p=some (.ins C j fs)) (L:∀Q:VK,(∀c,Sm G H c->Q v c)->r σ H Q)(q:∀c,yJ G p H c->c p=some (.ins C j (fs++[(f,v)]))->Dn.nx σ c):OQ X.K (yX 0) r f Dn σ H:=L _ λc s=>⟨_,B,p,C,j,fs,rfl,s.kp _ _ y (rA _ _ _),E,J,by
  rw[aB,bG,<-u,aP]at h;exact h.1,by
  rw[aB,<-u,_O]at h;rw[AG h.2];exact q _ ((yJ.of s).trans (yJ.upd (s.kp _ _ y (rA _ _ _)))) aC⟩
end
section
variable {P:Program} {w:World} {K:Frag} {mg:qL} {base:Heap} {n:Nat}
def X7(G:Gx):Sp:=λvs H Q _=>∃(p j:Addr) (c:Nat),vs=[.ref p,.int (c:Int)]/\c<2^64/\H p=some (.ins JE j [])/\TabAt G H/\
 ∀h:Hp,yJ G p H h->h p=some (.ins JE j (IX (Au c)))->Q .cw h
def U1(t:Top P w base (gx K mg))(IH:Calls P w base (gx K mg) (n+1)){fd:FuncData}(Fn:Gh K "__init__" "Order.__init__" (FK .ord) FA fd):nT P w K mg base ui (n+2) FA fd ["self","instruction"] (X7 (gx K mg)):=by
 refine Fn.ok U0 (λvs H Q E h=> ?_) (λza A y s H vs Q E hr h=> ?_);obtain⟨p,dx,c,rfl,_⟩:=h;rfl;obtain⟨p,dx,c,rfl,hw,hp,B,k⟩:=h;have o:qZ cOr (gx K mg) T (cR T defs (n+1)) (n+1) (ug ui P w K mg base QV "Order.__init__" (a0 (FK .ord)) FA za A y s H E).AK:=AA t IH rfl rfl rfl rfl rfl rfl rfl hr U0.nd rfl rfl rfl rfl rfl;refine⟨_,c9 (yY (i:=2) U0.nd rfl (Or.inl rfl) (cS (.bin .and (.bin .shr (.v 1) (.int 8)) (.int 255)) (j:=.e false _) o (by decide+kernel)))
  (c9 (iK (pv 0) (cS (.and (.cmp .le (.v 2) (.int 7)) (.cmp .eq (.bin .and (.bin .shr (.v 1) (.int 31)) (.int 1)) (.int 0))) (j:=.e false _) o (by decide+kernel)) rfl)
  (c9 (iK (pv 0) (cS (.bin .and (.v 1) (.int 255)) (j:=.e false _) o (by decide+kernel)) rfl)
  (c9 (iK (pv 0) (cS (.bin .shl (.int 8) (.bin .and (.v 2) (.int 3))) (j:=.e false _) o (by decide+kernel)) rfl)
  (c9 (iK (pv 0) (xx HG wt (rg (pv 0) rfl)) rfl)
  (c9 (iK (pv 0) (cS (.cmp .ne (.bin .and (.v 2) (.int 4)) (.int 0)) (j:=.e false _) o (by decide+kernel)) rfl)
  (c9 (iK (pv 0) (cS (.bin .and (.bin .shr (.v 1) (.int 16)) (.int 15)) (j:=.e false _) o (by decide+kernel)) rfl)
  (c9 (iK (pv 0) (cS (.bin .and (.bin .shr (.v 1) (.int 20)) (.int 15)) (j:=.e false _) o (by decide+kernel)) rfl)
  (c9 (iK (pv 0) (cS (.bin .and (.bin .shr (.v 1) (.int 24)) (.int 15)) (j:=.e false _) o (by decide+kernel)) rfl)
  (c9 (iK (pv 0) (cS (.bin .and (.bin .shr (.v 1) (.int 28)) (.int 7)) (j:=.e false _) o (by decide+kernel)) rfl)
  (c9 (iK (pv 0) (cS (.call .signed (.cons (.bin .shr (.v 1) (.int 32)) (.cons (.int 32) .nil))) (j:=.e false _) o (by decide+kernel)) rfl)
  (om (iK (pv 0) (lr (Bo rfl) (by rfl) (t.bi "max" (by simp)) PyProof.Rows.boot_max (bJ (rg (pv 0) rfl) (bJ wt fj))) rfl)))))))))))),?_⟩
 have zb:∀(i:Nat) (m:Int),([none,some (c:Int),none]:List (xu))[i]?=some (some m)->(L2.start QV [V.ref p,V.int (c:Int)])[i]?=some (some (V.int m)):=λi m h=>by
  match i,h with
  |0,h=>cases h
  |1,h=>cases h;rfl
  |2,h=>cases h
  |i+3,h=>simp at h
 refine Dy (ns:=[none,some (c:Int),none]) B rfl zb (xp _ c 8 8 255 none rfl) λH0 s0=> ?_;have J:=s0.ta B;have zc:=s0.kp _ _ hp (rA _ _ _);have L:∀(i:Nat) (m:Int),([none,some (c:Int),some ((c/2^8 % 2^8:Nat):Int)]:List (xu))[i]?=some (some m)->((L2.start QV [V.ref p,V.int (c:Int)]).set 2 (some (V.int ((c/2^8 % 2^8:Nat):Int))))[i]?=some (some (V.int m)):=λi m h=>by
  match i,h with
  |0,h=>cases h
  |1,h=>cases h;rfl
  |2,h=>cases h;rfl
  |i+3,h=>simp at h
 have r:∀{H:Hp} {M:IE} {v:Int},TabAt (gx K mg) H->au T (cR T defs (n+1)) (xo c (some (c/2^8 % 2^8))) none M=some (.int v,false)->∀Q:VK,(∀u,Sm (gx K mg) H u->Q (.int v) u)->tI (gx K mg) T (cR T defs (n+1)) M ((L2.start QV [V.ref p,V.int (c:Int)]).set 2 (some (V.int ((c/2^8 % 2^8:Nat):Int)))) H Q:=λB he Q q=>Dy (ns:=[none,some (c:Int),some ((c/2^8 % 2^8:Nat):Int)]) B rfl L he q;have O:∀{H:Hp} {M:IE} {v:Bool},TabAt (gx K mg) H->au T (cR T defs (n+1)) (xo c (some (c/2^8 % 2^8))) none M=some (.bl v,false)->∀Q:VK,(∀u,Sm (gx K mg) H u->Q (.bl v) u)->tI (gx K mg) T (cR T defs (n+1)) M ((L2.start QV [V.ref p,V.int (c:Int)]).set 2 (some (V.int ((c/2^8 % 2^8:Nat):Int)))) H Q:=λB he Q q=>X4 (ns:=[none,some (c:Int),some ((c/2^8 % 2^8:Nat):Int)]) B rfl L he q;have hz:au T (cR T defs (n+1)) (xo c (some (c/2^8 % 2^8))) none (.call .signed (.cons (.bin .shr (.v 1) (.int 32)) (.cons (.int 32) .nil)))=some (.int (AT 32 (c/2^32)),false):=by have e1:cR T defs (n+1) .signed [.int ((c/2^32:Nat):Int),.int 32] none=some (.int (AT 32 (c/2^32)),false,none):=bu n (c/2^32) 32 (by decide) (by decide) (by omega) none;have e2:binI .shr (c:Int) 32=some ((c/2^32:Nat):Int):=iJ c 32;simp only[ro,mW,rp,ot,qP,eI,Hb,g_,nL,e2,dt,e1,c6]
 have zd:LA 512 ((8*2^((c/2^8 % 2^8) % 4):Nat):Int):=by have h1:c/2^8 % 2^8 % 4<4:=aw _ (by decide);have h2:2^(c/2^8 % 2^8 % 4)<=2^3:=fh (by decide) (by omega);have h3:0<2^(c/2^8 % 2^8 % 4):=_c (by decide);unfold LA;omega
 refine jj (G:=gx K mg) (fs:=[]) rfl t.CD (t.CF .sound) [] rfl (by decide+kernel) zc (O J (Qn _ c _)) λH1 s1 h1=> ?_;have U:=s1.ta J;refine jj (G:=gx K mg) rfl t.CD (t.CF .operation) ["sound"] rfl (by decide+kernel) h1 (r U (XJ _ c 8 255 _ rfl)) λH2 s2 h2=> ?_;have X:=s2.ta U;refine jj (G:=gx K mg) rfl t.CD (t.CF .k) ["sound","operation"] rfl (by decide+kernel) h2 (r X (e_k _ c _)) λH3 s3 h3=> ?_;have ze:=s3.ta X;have zf:∀Q:VK,(∀u,Sm (gx K mg) H3 u->Q (V.int (512/((8*2^((c/2^8 % 2^8) % 4):Nat):Int))) u)->OF (rI LA λi j=>V.int (i/j)) (tC (V.int 512)) (Sg K (yX 0) "k") ((L2.start QV [V.ref p,V.int (c:Int)]).set 2 (some (V.int ((c/2^8 % 2^8:Nat):Int)))) H3 Q:=λQ q=>⟨_,rfl,p,JE,dx,_,_,rfl,h3,t.CD,t.CF .k,rfl,512,_,rfl,rfl,zd,q _ (Sm.refl _)⟩;refine jj (G:=gx K mg) rfl t.CD (t.CF .n) ["sound","operation","k"] rfl (by decide+kernel) h3 zf λH4 s4 h4=> ?_;have Y:=s4.ta ze;refine jj (G:=gx K mg) rfl t.CD (t.CF .qg) ["sound","operation","k","n"] rfl (by decide+kernel) h4 (O Y (Ur _ c _)) λH5 s5 h5=> ?_;have Z:=s5.ta Y;refine jj (G:=gx K mg) rfl t.CD (t.CF .d) ["sound","operation","k","n","zeroing"] rfl (by decide+kernel) h5 (r Z (xp _ c 16 4 15 _ rfl)) λH6 s6 h6=> ?_;have C:=s6.ta Z;refine jj (G:=gx K mg) rfl t.CD (t.CF .a) ["sound","operation","k","n","zeroing","d"] rfl (by decide+kernel) h6 (r C (xp _ c 20 4 15 _ rfl)) λH7 s7 h7=> ?_;have F:=s7.ta C;refine jj (G:=gx K mg) rfl t.CD (t.CF .b) ["sound","operation","k","n","zeroing","d","a"] rfl (by decide+kernel) h7 (r F (xp _ c 24 4 15 _ rfl)) λH8 s8 h8=> ?_;have D:=s8.ta F;refine jj (G:=gx K mg) rfl t.CD (t.CF .g) ["sound","operation","k","n","zeroing","d","a","b"] rfl (by decide+kernel) h8 (r D (xp _ c 28 3 7 _ rfl)) λH9 s9 h9=> ?_;have R:=s9.ta D;refine jj (G:=gx K mg) rfl t.CD (t.CF .z) ["sound","operation","k","n","zeroing","d","a","b","g"] rfl (by decide+kernel) h9 (r R hz) λI S N=> ?_;have W:=S.ta R;have zg:∀Q:VK,(∀u,Sm (gx K mg) I u->Q (V.int (if(0:Int)>AT 32 (c/2^32)then 0 else AT 32 (c/2^32))) u)->V2 (λxs H Q=>∃i j,xs=[.int i,.int j]/\Q (.int (if j>i then j else i)) H) (qN (Sg K (yX 0) "z") (qN (tC (V.int 0)) DX)) ((L2.start QV [V.ref p,V.int (c:Int)]).set 2 (some (V.int ((c/2^8 % 2^8:Nat):Int)))) I Q:=λQ q=>⟨_,rfl,p,JE,dx,_,_,rfl,N,t.CD,t.CF .z,rfl,_,_,rfl,q _ (Sm.refl _)⟩;refine jj (G:=gx K mg) rfl t.CD (t.CF .m) ["sound","operation","k","n","zeroing","d","a","b","g","z"] rfl (by decide+kernel) N zg λf x zh=> ?_;have zi:=x.ta W;have e:∀{l:List (Str×V)},l=IX (Au c)->f p=some (.ins JE dx l)->Q .cw f:=λ{l} el hl=>k _ ((yJ.of s0).trans (s1.trans (s2.trans (s3.trans (s4.trans (s5.trans (s6.trans (s7.trans (s8.trans (s9.trans (S.trans x))))))))))) (by rw[hl,el]);refine e ?_ zh;have a2:c/2^8 % 2^8 % 4=c/256 % 4:=by omega
 have a3:c/2^8 % 2^8/4 % 2=c/1024 % 2:=by omega
 have a4:(512:Int)/((8*2^(c/256 % 4):Nat):Int)=((512/(8*2^(c/256 % 4)):Nat):Int):=by rw[ci];rfl
 have a5:(if(0:Int)>AT 32 (c/2^32)then 0 else AT 32 (c/2^32))=((AT 32 (c/2^32)).toNat:Int):=by split<;>omega
 rw[a2,a3,a4,a5];rfl
end
noncomputable def RD:jR:=["self","vectors","predicates","scalars","flags"]
def X8:jg RD ["self","vectors","predicates","scalars","flags"] (a0 (FK .d5)):=sX (by decide+kernel)
def cMc:CK:=⟨Vt,RD,a0 (FK .d5),λ_=>true,λ_=>false⟩
section
variable {G:Gx} {X:Cx} {H H':Hp} {σ:L2.St} {p:Addr} {K:Frag}
def Sm.sq(s:Sm G H H'){a:Addr}{xs:List V}(h:dr K H a xs):dr K H' a xs:=by rcases h with(h|⟨o,h⟩)|h;exact .inl (.inl (s.kp _ _ h (dk _)));exact .inl (.inr ⟨o,s.kp _ _ h (zG _ _)⟩);exact .inr h
def yJ.sq(s:yJ G p H H'){C j:Addr}{fs:List (Str×V)}(c:H p=some (.ins C j fs)){a:Addr}{xs:List V}(h:dr K H a xs):dr K H' a xs:=by rcases h with(h|⟨o,h⟩)|h;exact .inl (.inl (s.kp _ _ h (dk _) λe=>by subst e;rw[c]at h;cases h));exact .inl (.inr ⟨o,s.kp _ _ h (zG _ _) λe=>by subst e;rw[c]at h;cases h⟩);exact .inr h
def yJ.free(s:yJ G p H H'){C r:Addr}{fs:List (Str×V)}(c:H' p=some (.ins C r fs)){l:Addr}(h:H' l=none):H l=none:=by
 cases q:H l with
 |none=>rfl
 |some o=>
  have u:l≠p:=λe=>by subst e;rw[c]at h;cases h
  by_cases j:NT o;rw[s.kp l o q j u]at h;cases h;have:∃ps,o=.uW ps:=Classical.byContradiction λz=>j λps e=>z ⟨ps,e⟩;obtain⟨ps,rfl⟩:=this;obtain⟨y,h'⟩:=s.tb l ps q;rw[h']at h;cases h
def DD{f:Str}{E:TE}{xs:List V}{C o:Addr}{fs:List (Str×V)}{Dn:Ends}(M:σ[0]?=some (some (.ref p)))(O:DF X.K C)(P:gW X.K C f)(r:jR)(J:fs.map (·.1)=r)(j:(decide (r.length<1000)&&r.all λx=> !(decide (x=f)))=true)(L:H p=some (.ins C o fs)) (U:∀Q:VK,(∀l H',Sm G H H'->H l=none->H' l=some (.lst xs)->Q (.ref l) H')->E σ H Q)(q:∀l H',yJ G p H H'->H l=none->H' l=some (.lst xs)->H' p=some (.ins C o (fs++[(f,.ref l)]))->Dn.nx σ H'):OQ X.K (yX 0) E f Dn σ H:=U _ λl H' s u y=>by
  have c:=s.kp _ _ L (rA _ _ _);rw[aB,bG]at j;refine⟨_,M,p,C,o,fs,rfl,c,O,P,by rw[<-J,aP]at j;exact j.1,?_⟩;have h:(fs.all λx=> !(decide (x.1=f)))=true:=by have:=j.2;rw[<-J,_O]at this;exact this
  rw[AG h];have B:l≠p:=λe=>by subst e;rw[L]at u;cases u
  exact q l _ ((yJ.of s).trans (yJ.upd c)) u (by rw[ao B];exact y) aC
end
section
variable {P:Program} {w:World} {K:Frag} {mg:qL} {base:Heap} {n:Nat}
noncomputable def vI(l:gd):List V:=l.map λ(n:Nat)=>V.int (n:Int)
def X9(G:Gx):Sp:=λvs H Q _=>∃(p h o ap r:Addr) (v q x:gd) (f:Nat),vs=[.ref p,.ref o,.ref ap,.ref r,.int (f:Int)]/\v.length<=128/\q.length<=8/\x.length<=16/\H p=some (.ins Fy h [])/\dr G.K H o (vI v)/\dr G.K H ap (vI q)/\dr G.K H r (vI x)/\TabAt G H/\
 ∀(Z:Zx) (c:Hp),Z.on=true->Z.pm=p->Z.dm=h->(∀j,H (Z.pl j)=none)->yJ G p H c->Gw G Z c (Ru v q x f)->Q .cw c
def U2(t:Top P w base (gx K mg))(y:mg "list"=none)(IH:Calls P w base (gx K mg) (n+1)){fd:FuncData}(Fn:Gh K "__init__" "Machine.__init__" (FK .d5) Fz fd):nT P w K mg base ui (n+2) Fz fd ["self","vectors","predicates","scalars","flags"] (X9 (gx K mg)):=by
 refine Fn.ok X8 (λvs H Q E h=> ?_) (λza A J s H vs Q E hr h=> ?_);obtain⟨p,dx,L,M,O,v,q,x,f,rfl,_⟩:=h;rfl;obtain⟨p,dx,L,M,O,v,q,x,f,rfl,lv,lq,lx,W,hv,hq,hx,hT,k⟩:=h;have F:qZ cMc (gx K mg) T (cR T defs (n+1)) (n+1) (ug ui P w K mg base RD "Machine.__init__" (a0 (FK .d5)) Fz za A J s H E).AK:=AA t IH rfl rfl rfl rfl rfl rfl rfl hr X8.nd rfl rfl rfl rfl rfl;refine⟨_,c9 (iK (pv 0) (Bu vg (by rfl) y PyProof.Rows.boot_list (bJ (pv 1) fj)) rfl)
  (c9 (iK (pv 0) (xx uh (wx (bJ (cS (.call .ones (.cons (.int 64) .nil)) (j:=.e false _) F (by decide+kernel)) fj)) (vd yt (pv 2) (vc wt) Co)) rfl)
  (c9 (iK (pv 0) (Bu vg (by rfl) y PyProof.Rows.boot_list (bJ (pv 3) fj)) rfl)
  (om (iK (pv 0) (cS (.bin .and (.v 4) (.bin .or (.uj 0 1) (.uj 1 2))) (j:=.e false _) F (by decide+kernel)) rfl)))),?_⟩
 have hs:∀(i:Nat) (m:Int),([none,none,none,none,some (f:Int)]:List (xu))[i]?=some (some m)->(L2.start RD [V.ref p,V.ref L,V.ref M,V.ref O,V.int (f:Int)])[i]?=some (some (V.int m)):=λi m h=>by
  match i,h with
  |0,h=>cases h
  |1,h=>cases h
  |2,h=>cases h
  |3,h=>cases h
  |4,h=>cases h;rfl
  |i+5,h=>simp at h
 have zb:∀Q:VK,(∀l r,Sm (gx K mg) H r->H l=none->r l=some (.lst (vI v))->Q (.ref l) r)->V2 (λxs c Q=>∃p U,xs=[V.ref p]/\(dr K c p U\/qM K c p U)/\∀l,c l=none->Q (.ref l) (upd c l (.lst U))) (qN (yX 1) DX) (L2.start RD [V.ref p,V.ref L,V.ref M,V.ref O,V.int (f:Int)]) H Q:=λQ q=>⟨_,rfl,L,_,rfl,.inl hv,λl y=>q l _ ((Sm.refl H).lay y) y aC⟩;refine DD (G:=gx K mg) (fs:=[]) rfl t.Eu (t.Lk .vec) [] rfl (by decide+kernel) W zb λa b Z n1 a1 D=> ?_;have R:=Z.ta hT;have zc:=Z.sq W hq;have zd:=Z.sq W hx;have e1:au T (cR T defs (n+1)) (Fx [none,none,none,none,some (f:Int)]) none (.call .ones (.cons (.int 64) .nil))=some (.int ((2^64-1:Nat):Int),false):=by have e:cR T defs (n+1) .ones [.int 64] none=some (.int ((2^64-1:Nat):Int),false,none):=sr n 64 (by decide) none;simp only[ro,mW,rp,eI,dt,e,c6]
 have ze:∀Q:VK,(∀l r,Sm (gx K mg) b r->b l=none->r l=some (.lst (V.int ((2^64-1:Nat):Int)::(vI q).drop 1))->Q (.ref l) r)->OF Sr (VX (qN (tI (gx K mg) T (cR T defs (n+1)) (.call .ones (.cons (.int 64) .nil))) DX)) (tSl (V3 K) (yX 2) (Q9 (tC (V.int 1))) HP) (L2.start RD [V.ref p,V.ref L,V.ref M,V.ref O,V.int (f:Int)]) b Q:=λQ qq=>by
  refine Dy (ns:=[none,none,none,none,some (f:Int)]) R rfl hs e1 λC B=>⟨by decide,λI zf=> ?_⟩;have X:Sm (gx K mg) b (upd C I (.lst [V.int ((2^64-1:Nat):Int)])):=B.lay zf;refine⟨_,rfl,1,rfl,M,vI q,rfl,X.sq zc,λd u=> ?_⟩;have zg:I≠d:=λe=>by subst e;rw[aC]at u;cases u
  refine⟨I,d,[V.int ((2^64-1:Nat):Int)],_,rfl,rfl,by rw[ao zg,aC],aC,?_,λb3 S=> ?_⟩;rw[GG (vI q) (by decide)];simp only[fJ,my,al,vI,aP];exact eF (by omega:_<=9) (by decide);refine qq b3 _ ((X.lay u).lay S) ((X.lay u).free S) ?_;rw[aC,GG (vI q) (by decide)];rfl
 refine DD (G:=gx K mg) rfl t.Eu (t.Lk .Cw) ["vectors"] rfl (by decide+kernel) D ze λz C B N a2 h2=> ?_;have zh:=B.ta R;have zi:=B.sq D zd;have zj:∀Q:VK,(∀l r,Sm (gx K mg) C r->C l=none->r l=some (.lst (vI x))->Q (.ref l) r)->V2 (λxs c Q=>∃p U,xs=[V.ref p]/\(dr K c p U\/qM K c p U)/\∀l,c l=none->Q (.ref l) (upd c l (.lst U))) (qN (yX 3) DX) (L2.start RD [V.ref p,V.ref L,V.ref M,V.ref O,V.int (f:Int)]) C Q:=λQ q=>⟨_,rfl,O,_,rfl,.inl zi,λl y=>q l _ ((Sm.refl C).lay y) y aC⟩;refine DD (G:=gx K mg) rfl t.Eu (t.Lk .D7) ["vectors","predicates"] rfl (by decide+kernel) h2 zj λl3 H3 s3 Y a3 h3=> ?_;have zk:=s3.ta zh;have e4:au T (cR T defs (n+1)) (Fx [none,none,none,none,some (f:Int)]) none (.bin .and (.v 4) (.bin .or (.uj 0 1) (.uj 1 2)))=some (.int ((f % 4:Nat):Int),false):=by have e:binI .and (f:Int) 3=some ((f&&&3:Nat):Int):=jc f 3;rw[show f&&&3=f % 4 from mask f 2]at e;have g:(Fx [none,none,none,none,some (f:Int)]).get 4=some (SV.int (f:Int)):=rfl;have o:binI .or 1 2=some 3:=rfl;simp only[ot,qP,vm,g,g_,nL,o,e]
 have zl:∀Q:VK,(∀r,Sm (gx K mg) H3 r->Q (.int ((f % 4:Nat):Int)) r)->tI (gx K mg) T (cR T defs (n+1)) (.bin .and (.v 4) (.bin .or (.uj 0 1) (.uj 1 2))) (L2.start RD [V.ref p,V.ref L,V.ref M,V.ref O,V.int (f:Int)]) H3 Q:=λQ q=>Dy (ns:=[none,none,none,none,some (f:Int)]) zk rfl hs e4 q;refine jj (G:=gx K mg) rfl t.Eu t.Rf ["vectors","predicates","scalars"] rfl (by decide+kernel) h3 zl λH4 s4 h4=> ?_;have p1:a≠p:=λe=>by subst e;rw[W]at n1;cases n1
 have p2:z≠p:=λe=>by subst e;rw[D]at N;cases N
 have p3:l3≠p:=λe=>by subst e;rw[h2]at Y;cases Y
 have I:=s4.kp _ _ (s3.kp _ _ (B.kp _ _ a1 (dk _) p1) (dk _) p1) (dk _) p1;have d:=s4.kp _ _ (s3.kp _ _ a2 (dk _) p2) (dk _) p2;have b3:=s4.kp _ _ a3 (dk _) p3;have zm:=B.kp _ _ a1 (dk _) p1;refine k ⟨true,p,dx,λj=>match j with|.vec=>a|.Cw=>z|.D7=>l3⟩ H4 rfl rfl rfl (λj=> ?_) (Z.trans (B.trans (s3.trans s4))) ⟨h4,λj=> ?_,λe=> ?_,λe=> ?_,λe=> ?_⟩;cases j with
 |vec=>exact n1
 |Cw=>exact Z.free D N
 |D7=>exact Z.free D (B.free h2 Y)
 cases j with
 |vec=>exact I.trans (by simp only[Ru,AL.get,vI,bY];rfl)
 |Cw=>exact d.trans (by simp only[Ru,AL.get,vI,bI,bY,List.map_drop];rfl)
 |D7=>exact b3.trans (by simp only[Ru,AL.get,vI,bY];rfl)
 have e':a=z:=e;rw[<-e',a1]at N;cases N;have e':z=l3:=e;rw[<-e',a2]at Y;cases Y;have e':a=l3:=e;rw[<-e',zm]at Y;cases Y
end
def aaB:jg ["numbers"] ["numbers"] (a0 (FK .cnt)):=sX (by decide+kernel)
def aaC:jg ["machine"] ["machine"] (a0 (FK .Oo)):=sX (by decide+kernel)
noncomputable def nDo:jR:=["instruction","vectors","predicates","scalars","flags","machine"]
def X_:jg nDo ["instruction","vectors","predicates","scalars","flags"] (a0 (FK .dd)):=sX (by decide+kernel)
section
variable {P:Program} {w:World} {K:Frag} {mg:qL} {base:Heap} {n:Nat}
def RE(G:Gx):Sp:=λvs H Q _=>∃(a:Addr) (xs:List V),vs=[.ref a]/\H a=some (.lst xs)/\xs.length<=1000/\∀(l:Addr) (c:Hp),Sm G H c->H l=none->c l=some (.lst (V.int (xs.length:Int)::xs))->Q (.ref l) c
def N9(t:Top P w base (gx K mg)){fd:FuncData}(y:Gh K "counted" "counted" (FK .cnt) Dz fd):nT P w K mg base ui 1 Dz fd ["numbers"] (RE (gx K mg)):=by
 refine y.ok aaB (λvs H Q E h=> ?_) (λB A o s H vs Q E J h=> ?_);obtain⟨a,xs,rfl,_⟩:=h;rfl;obtain⟨a,xs,rfl,q,L,k⟩:=h;refine⟨_,om (ud (xx uh (wx (bJ (lr vf (by rfl) (t.bi "len" (by simp)) PySem.boot_len (bJ (pv 0) fj)) fj)) (pv 0))),?_⟩;refine⟨_,rfl,a,xs,rfl,.inl (dr.of q),by show 1<=sizeLine;decide,λb j=>⟨_,rfl,?_⟩⟩;have r:a≠b:=λe=>by subst e;rw[q]at j;cases j
 refine⟨b,a,_,xs,rfl,rfl,aC,by rw[ao r];exact q,?_,λc u=> ?_⟩;have:(1000)+1<=sizeLine:=by decide
 simp only[fJ,my];omega;refine k c _ (((Sm.refl H).lay j).lay u) (((Sm.refl (G:=gx K mg) H).lay j).free u) aC
noncomputable def cn(xs:List V):List V:=V.int (xs.length:Int)::xs
def Yb(G:Gx):Sp:=λvs H Q _=>∃(Z:Zx) (m:AL),vs=[.ref Z.pm]/\Gw G Z H m/\m.v.length<=128/\m.p.length<=8/\m.x.length<=16/\
 ∀(l:Addr) (c:Hp),Sm G H c->H l=none->c l=some (.lst (cn (m.v.map V.int)++cn (m.p.map V.int)++cn (m.x.map V.int)))->Q (.ref l) c
def AH{Z:Zx}{f:Int}(j):(tR Z f).lookup (Of j)=some (.ref (Z.pl j)):=by cases j<;>rfl
def Gw.same{G:Gx}{Z:Zx}{H c:Hp}{m:AL}(q:Gw G Z H m)(s:Sm G H c):Gw G Z c m:=⟨s.kp _ _ q.ob (rA _ _ _),λj=>s.kp _ _ (q.ls j) (dk _),q.nv,q.np,q.ns⟩
def U3(t:Top P w base (gx K mg))(u:mg "counted"=some (.ref Dz)){c:FuncData}(q:Gh K "counted" "counted" (FK .cnt) Dz c)(y:Binds K c ["numbers"] []){fd:FuncData}(C:Gh K "told_parts" "told_parts" (FK .Oo) K9 fd):nT P w K mg base ui 2 K9 fd ["machine"] (Yb (gx K mg)):=by
 have B:nT P w K mg base ui 1 Dz c ["numbers"] (RE (gx K mg)):=N9 t q;refine C.ok aaC (λvs H Q E h=> ?_) (λF A J s H vs Q E L h=> ?_);obtain⟨Z,m,rfl,_⟩:=h;rfl;obtain⟨Z,m,rfl,R,D,I,S,k⟩:=h;refine⟨_,om (ud (xx uh (xx uh
  (mE B L rfl u q.kp y .nil m4 (bJ (rg (pv 0) rfl) fj))
  (mE B L rfl u q.kp y .nil m4 (bJ (rg (pv 0) rfl) fj)))
  (mE B L rfl u q.kp y .nil m4 (bJ (rg (pv 0) rfl) fj)))),?_⟩
 refine⟨_,rfl,Z.pm,Fy,Z.dm,_,_,rfl,R.ob,t.Eu,t.Lk .vec,AH .vec,_,_,rfl,R.ls .vec,by simp only[aP];exact eF D (by decide),λN p M v W=> ?_⟩;have O:=R.same M;refine⟨_,rfl,Z.pm,Fy,Z.dm,_,_,rfl,O.ob,t.Eu,t.Lk .Cw,AH .Cw,_,_,rfl,O.ls .Cw,by simp only[aP];exact eF I (by decide),λa b r x d=> ?_⟩;have e:=O.same r;refine⟨N,a,_,_,rfl,rfl,r.kp _ _ W (dk _),d,?_,λf U=> ?_⟩;have:(138)<=sizeLine:=by decide
 simp only[fJ,aP,AL.get];omega;have X:=(Sm.refl (G:=gx K mg) b).lay (o:=.lst (V.int ((P9 V.int (m.get .vec)).length:Int)::P9 V.int (m.get .vec)++V.int ((P9 V.int (m.get .Cw)).length:Int)::P9 V.int (m.get .Cw))) U;have T:=e.same X;refine⟨_,rfl,Z.pm,Fy,Z.dm,_,_,rfl,T.ob,t.Eu,t.Lk .D7,AH .D7,_,_,rfl,T.ls .D7,by simp only[aP];exact eF S (by decide),λg z Y n4 i=> ?_⟩;refine⟨f,g,_,_,rfl,rfl,Y.kp _ _ aC (dk _),i,?_,λl j=> ?_⟩;have:(155)<=sizeLine:=by decide
 simp only[fJ,fi,aP,AL.get];omega;refine k l _ ((((M.trans r).trans X).trans Y).lay j) ((((M.trans r).trans X).trans Y).free j) (aC.trans ?_);rfl
end
section
variable {G:Gx} {H H0 H1:Hp} {p:Addr}
def Sm.plus(s:Sm G H H0)(c:yJ G p H0 H1)(j:H p=none):Sm G H H1:=⟨λb o h n=>c.kp b o (s.kp b o h n) n (λe=>by subst e;rw[j]at h;cases h),λb ps h=>let ⟨ps',h'⟩:=s.tb b ps h;c.tb b ps' h',λt=>c.ta (s.ta t)⟩
def Sm.ext{Z:Zx}(s:Sm G H H0)(c:m9 G Z H0 H1)(j:∀b∈Z.ma,H b=none):Sm G H H1:=⟨λb o h n=>c.kp b o (s.kp b o h n) n (λe=>by have:=j b e;rw[this]at h;cases h),λb ps h=>let ⟨ps',h'⟩:=s.tb b ps h;c.tb b ps' h',λt=>c.ta (s.ta t)⟩
end
section
variable {P:Program} {w:World} {K:Frag} {mg:qL} {base:Heap} {n:Nat}
noncomputable def iI(l:gd):List Int:=l.map λ(n:Nat)=>(n:Int)
def aaD(G:Gx):Sp:=λvs H Q _=>∃(j ap o:Addr) (c:Nat) (v q x:gd) (f:Nat),vs=[.int (c:Int),.ref j,.ref ap,.ref o,.int (f:Int)]/\c<2^64/\v.length=128/\q.length=8/\x.length=16/\(∀y∈v,y<2^64)/\(∀y∈q,y<2^64)/\(∀y∈x,y<2^64)/\
 dr G.K H j (vI v)/\dr G.K H ap (vI q)/\dr G.K H o (vI x)/\TabAt G H/\
 ∀(l:Addr) (h:Hp),Sm G H h->H l=none->h l=some (.lst ((P3 (c:Int) (iI v) (iI q) (iI x) (f:Int)).map V.int))->Q (.ref l) h
def Yc{KT:Frag}(c:AE K KT)(C:K.In base)(j:base.Ns mainGlobals mg):nT P w K mg base ui 17 RB (Hu K RB) ["instruction","vectors","predicates","scalars","flags"] (aaD (gx K mg)):=by
 have t:Top P w base (gx K mg):=c.top C j;have cl:=λn=>calls t (bindC (gx K mg)) n;have FM:=c.fx .d5;have FO:=c.fx .ord;have g:=c.fx .cnt;have FT:=c.fx .Oo;have FD:=c.fx .dd;have GM:=U2 (n:=0) t (mg_none_of C j (c.gl.b "list" (by simp))) (cl 1) FM;have GO:=U1 (n:=0) t (cl 1) FO;have GC:=N9 t g;have bM:Binds K (Hu K Fz) ["self","vectors","predicates","scalars","flags"] []:=FM.binds λ_ _ _ _ _ _ us u=>match us,u with|[_,_,_,_,_],_=>rfl
 have bO:Binds K (Hu K FA) ["self","instruction"] []:=FO.binds λ_ _ _ _ _ _ us u=>match us,u with|[_,_],_=>rfl
 have bC:Binds K (Hu K Dz) ["numbers"] []:=g.binds λ_ _ _ _ _ _ us u=>match us,u with|[_],_=>rfl
 have bT:Binds K (Hu K K9) ["machine"] []:=FT.binds λ_ _ _ _ _ _ us u=>match us,u with|[_],_=>rfl
 have mC:=mg_of C j c.gl.cnt;have mT:=mg_of C j c.gl.Oo;have mM:=mg_of C j c.gl.d5;have mO:=mg_of C j c.gl.ord;have GT:=U3 t mC g bC FT;have GP:nT P w K mg base ui 16 (yI .c8) (Hu K (yI .c8)) (yH .c8) (Gy (gx K mg) (cR T defs 16) .c8):=(cl 16).Mh .c8 (by decide);have bP:Binds K (Hu K (yI .c8)) (yH .c8) []:=t.bd .c8 (by decide);have mP:=t.YG .c8 rfl;refine FD.ok X_ (λvs H Q E h=> ?_) (λzl A za s H vs Q E z h=> ?_);obtain⟨av,ap,ax,J,v,q,x,f,rfl,_⟩:=h;rfl;obtain⟨av,ap,ax,J,v,q,x,f,rfl,hw,lv,lq,lx,bv,bq,bx,hv,hq,hx,hT,k⟩:=h;have D:gH 3 _:=z.mono (by decide);have zb:gH 2 _:=z.mono (by decide);have zc:gH 1 _:=z.mono (by decide);refine⟨_,c9 (yY (i:=5) X_.nd rfl (Or.inl rfl) (HN c.mt.kM GM D rfl mM bM .nil m4 (bJ (pv 1) (bJ (pv 2) (bJ (pv 3) (bJ (pv 4) fj))))))
  (c9 (Q5 (Lp (DW (mE GP z rfl mP.1 mP.2 bP .nil m4 (bJ (HN c.mt.kO GO D rfl mO bO .nil m4 (bJ (pv 0) fj)) (bJ (pv 5) fj))) (λ_=>rfl))) (om (ud (wx (bJ wt fj)))) HD)
  (om (ud (xx uh (xx uh (wx (bJ wt fj)) (mE GT zb rfl mT FT.kp bT .nil m4 (bJ (pv 5) fj))) (mE GC zc rfl mC g.kp bC .nil m4 (bJ (wx (bJ (rg (pv 5) rfl) fj)) fj)))))),?_⟩
 obtain⟨b,m,L,mv,mp,mx,y⟩:=Dr (w:=J) (f:=f) lv lq lx bv bq bx 0;refine⟨_,rfl,_,rfl,_,rfl,_,rfl,λxm dm nx zd ze=> ?_⟩;have B:Sm (gx K mg) H (upd (upd H dm (.own xm)) xm (.ins Fy dm [])):=((Sm.refl H).lay zd).lay (by rw[ao (jQ ze)];exact nx);refine⟨xm,dm,av,ap,ax,v,q,x,f,rfl,qa lv,qa lq,qa lx,aC,B.sq hv,B.sq hq,B.sq hx,B.ta hT,λZ F M zf zm O sp R=>⟨rfl,?_⟩⟩;subst zf;have s1:Sm (gx K mg) H F:=B.plus sp nx;have U:Z.ma=[Z.pm,Z.pl .vec,Z.pl .Cw,Z.pl .D7]:=by unfold Zx.ma;rw[ae M]
 have fr:∀b∈Z.ma,H b=none:=λb r=>by rw[U]at r;simp only[aA,lK,jP]at r;rcases r with rfl|rfl|rfl|rfl;exact nx;exact B.free (O _);exact B.free (O _);exact B.free (O _)
 have I:∀b∈Z.ma,F b≠none:=λb r=>by rw[U]at r;simp only[aA,lK,jP]at r;rcases r with rfl|rfl|rfl|rfl;rw[R.ob];simp;rw[R.ls];simp;rw[R.ls];simp;rw[R.ls];simp
 refine⟨_,rfl,λX dp n1 n2 n3=> ?_⟩;have S:Sm (gx K mg) F (upd (upd F dp (.own X)) X (.ins JE dp [])):=((Sm.refl F).lay n2).lay (by rw[ao (jQ n3)];exact n1);refine⟨X,dp,J,rfl,hw,aC,S.ta (s1.ta hT),λH2 zg h2=>⟨rfl,_,rfl,?_⟩⟩;have Y:Sm (gx K mg) F H2:=S.plus zg n1;have N:=R.same Y;have hB:∀b∈Z.ma,Std H2 b:=λb r=>by rw[U]at r;simp only[aA,lK,jP]at r;rcases r with rfl|rfl|rfl|rfl;exact Std.ins N.ob;exact Std.lst (N.ls _);exact Std.lst (N.ls _);exact Std.lst (N.ls _)
 have zh:X∉Z.ma:=λh=>I X h n1;have W:az (gx K mg) Z Z.ma H2 [.ord (Au J),.d5] [.ref X,.ref Z.pm]:=by simp only[az,Rep];exact⟨_,_,rfl,⟨X,dp,rfl,zh,h2⟩,_,_,rfl,⟨rfl,M⟩,rfl⟩
 refine⟨rfl,Z,Z.ma,[.ord (Au J),.d5],some (Ru v q x f),.bl b,false,some m,hB,λ_ h=>h,W,.inl ⟨M,_,rfl,N⟩,Y.ta (s1.ta hT),L,λv' H3 ext a mr _=> ?_⟩;simp only[Rep]at a;subst a;have s3:Sm (gx K mg) H H3:=(s1.trans Y).ext ext fr;have R3:=(mr.get rfl).2;refine⟨b,rfl,?_⟩;cases b with
 |false=>
  refine⟨by show 1<=sizeLine;decide,λl u=>k l _ (s3.lay u) (s3.free u) (aC.trans ?_)⟩;have e:P3 (J) (iI v) (iI q) (iI x) (f)=[3]:=y;rw[e];rfl
 |true=>
  have e:P3 (J) (iI v) (iI q) (iI x) (f)=BY m:=y;rw[e]at k;have zo:(200)<=sizeLine:=by decide
  refine⟨by show 1<=sizeLine;decide,λa1 zi=> ?_⟩;have t1:=(Sm.refl (G:=gx K mg) H3).lay (o:=.lst [V.int 0]) zi;have R4:=R3.same t1;refine⟨_,rfl,Z,m,rfl,R4,by omega,by omega,by omega,λl2 H4 s4 n4 e4=> ?_⟩;refine⟨a1,l2,_,_,rfl,rfl,s4.kp _ _ aC (dk _),e4,?_,λl3 zj=> ?_⟩;simp only[cn,fJ,fi,aP,my];omega;have t2:=(Sm.refl (G:=gx K mg) H4).lay (o:=.lst ([V.int 0]++(cn (m.v.map V.int)++cn (m.p.map V.int)++cn (m.x.map V.int)))) zj;have R5:=(R4.same s4).same t2;refine⟨_,rfl,Z.pm,Fy,Z.dm,_,_,rfl,R5.ob,t.Eu,t.Rf,rfl,by show 1<=sizeLine;decide,λa5 zk=> ?_⟩;refine⟨a5,[V.int m.f],rfl,aC,by show 1<=1000;decide,λl6 H6 s6 n6 e6=> ?_⟩;have t3:=(Sm.refl (G:=gx K mg) _).lay (o:=.lst [V.int m.f]) zk;refine⟨l3,l6,_,_,rfl,rfl,s6.kp _ _ (t3.kp _ _ aC (dk _)) (dk _),e6,?_,λl7 d=> ?_⟩;simp only[cn,fJ,fi,aP,my];omega;have sA:=((((s3.trans t1).trans s4).trans t2).trans t3).trans s6;refine k l7 _ (sA.lay d) (sA.free d) (aC.trans ?_);congr 2;simp only[cn,BY,aP,mv,mp,mx,k0,bI,sJ,uc,n0,wj,fJ,my];rfl
end
end Lw
namespace Lw
open PySem L2 PySem.Spec PyProof.Rows
def U4:(JF.all λa=>Lb.any λf=>Om f==a)=true:=by decide+kernel
structure Arg where
 a:Addr
 vs:TyJ
 xs:List V
noncomputable def Arg.ob(y:Arg):Obj:={cls:=.type "list",data:=.seq y.vs.toArray}
def RF(K:PySem.W.Frag)(l:List Arg):Hp:=λb=>if b∈JF then some (.uW #[])else if(K.lookup b).isSome=true then none else(l.find? λy=>decide (y.a=b)).map λy=>.pj y.ob (.lst y.xs)
section
variable {P:Program} {w:World} {K KT:PySem.W.Frag} {mg mb:qL} {h:Heap} {l:List Arg}
def AE.tab(c:AE K KT){a:Addr}(r:a∈JF):K.lookup a=none/\∃o,KT.lookup a=some o/\o={cls:=.none,data:=.fields #[]}:=by have q:=c_.mp c.t a r;rw[aB,DL]at q;refine⟨q.1,?_⟩;have j:=q.2;split at j;rename_i E vs G s;simp only[aB,bG,t0]at j;obtain⟨⟨u,y⟩,B⟩:=j;subst u y B;exact⟨_,s,rfl⟩;cases j
def FH{b:Addr}{y:Arg}(e:(l.find? λy=>decide (y.a=b))=some y):y∈l/\y.a=b:=⟨List.mem_of_find?_eq_some e,by simpa using List.find?_some e⟩
def JO{b:Addr}{u:HO}(e:RF K l b=some u):(b∈JF/\u=.uW #[])\/(b∉JF/\K.lookup b=none/\∃y∈l,y.a=b/\u=.pj y.ob (.lst y.xs)):=by
 unfold RF at e;split at e;rename_i c;cases e;exact .inl ⟨c,rfl⟩;rename_i c;split at e;cases e;rename_i j;obtain⟨y,r,rfl⟩:=bR.mp e;obtain⟨s,B⟩:=FH r;refine .inr ⟨c,?_,y,s,B,rfl⟩;cases q:K.lookup b with
 |none=>rfl
 |some o=>rw[q]at j;exact absurd rfl j
def Hw(c:AE K KT)(G:K.In h)(j:KT.In h)(H:∀y∈l,h.get? y.a=some y.ob/\Vals y.xs y.vs/\y.xs.length<=sizeLine){y:Arg}(s:y∈l)(J:∀z∈l,z.a=y.a->z=y):dr K (RF K l) y.a y.xs:=by
 obtain⟨u,B,L⟩:=H y s;have q:y.a∉JF:=λM=>by obtain⟨_,o,O,rfl⟩:=c.tab M;have:=j _ _ O;rw[u]at this;unfold Arg.ob at this;cases this
 cases r:K.lookup y.a with
 |some o=>
  have e:=G _ _ r;rw[u]at e;cases e;exact .inr ⟨_,y.vs.toArray,_,r,rfl,rfl,rfl,by rw[c4,<-B.length];exact L,by simpa using B⟩
 |none=>
  refine .inl (.inr ⟨y.ob,?_⟩);unfold RF;rw[ab q,r,ab (by simp)];cases E:(l.find? λz=>decide (z.a=y.a))with
  |none=>
   have:=yQ.mp E y s;simp at this
  |some z=>
   obtain⟨Q,U⟩:=FH E;rw[J z Q U];rfl
def U5(c:AE K KT)(J:K.In h)(j:KT.In h)(s:∀y∈l,h.get? y.a=some y.ob/\Vals y.xs y.vs/\y.xs.length<=sizeLine):xI P w (RF K l) h:=λb u e=>by rcases JO e with⟨q,rfl⟩|⟨q,L,y,B,rfl,rfl⟩;obtain⟨_,o,E,rfl⟩:=c.tab q;exact j _ _ E;obtain⟨r,G,H⟩:=s y B;exact⟨r,H,y.vs,_,G,r⟩
def QW(c:AE K KT):TabAt (gx K mg) (RF K l):=λt o=>by obtain⟨f,q,r⟩:=yR.mp o;obtain⟨s,u,rfl⟩:=bR.mp r;refine .inl ?_;have j:=c_.mp c.n f q;split at j;rw[aB,bG]at j;unfold RF;rw[ae j.2];cases j
def Hx(c:AE K KT)(r:K.In h){b:Addr}(s:b∈JF):isCodeTable h b:=by
 obtain⟨f,u,y⟩:=am.mp (c_.mp U4 b s);have e:Om f=b:=by simpa using y
 have j:=c_.mp c.n f u;split at j;rename_i g H;rw[aB]at j;obtain⟨o,vs,_,_,_,_,_,_,_,B,E,G,q,_⟩:=JN j.1 r;rw[e]at q;exact⟨_,o,vs,B,E,G,q⟩;cases j
end
def U6(l):(iI l).map V.int=vI l:=by unfold iI vI;rw[bY];rfl
def QX{P:Program}{w:World}{K KT:PySem.W.Frag}{mg mb:qL}{j:Shared}(c:AE K KT)(D:K.In j.heap)(L:KT.In j.heap)(N:j.heap.Ns mainGlobals mg)(Q:j.heap.Ns builtinsNs mb)(zd:∀x:Str,x≠"__name__"→mb x=bootBuiltins x)(g:j.heap.NoLimit)(hg:j.gens= #[]) {E G J:Addr}{U X Y:TyJ}{Z f:Nat}{i k:Tok}{v q x:gd}(hw:Z<2^64)(lv:v.length=128)(lq:q.length=8)(lx:x.length=16)(bv:∀y∈v,y<2^64)(bq:∀y∈q,y<2^64)(bx:∀y∈x,y<2^64) (hv:j.heap.get? E=some {cls:=.type "list",data:=.seq U.toArray})(rv:Vals (vI v) U)(hq:j.heap.get? G=some {cls:=.type "list",data:=.seq X.toArray})(rq:Vals (vI q) X)(hx:j.heap.get? J=some {cls:=.type "list",data:=.seq Y.toArray})(rx:Vals (vI x) Y):codeAny (model P w) callerA (.call (.ref RB) ⟨[.int (Z) i,.ref E,.ref G,.ref J,.int (f) k],[]⟩) (λr s'=>(∃l za n,r=.ok (.ret (.ref l))/\s'.heap.get? l=some {cls:=.type "list",data:=.seq za n}/\Vals ((P3 (Z) (iI v) (iI q) (iI x) (f)).map V.int) za.toList)/\OldK j.heap s'.heap/\s'.os=j.os/\AllBare s'.gens) j:=by
 have s:∀l:gd,(vI l).length=l.length:=λl=>by unfold vI;rw[aP]
 have B:∀y∈[(⟨E,U,vI v⟩:Arg),⟨G,X,vI q⟩,⟨J,Y,vI x⟩],j.heap.get? y.a=some y.ob/\Vals y.xs y.vs/\y.xs.length<=sizeLine:=λy T=>by
  have zh:(200)<=sizeLine:=by decide
  simp only[aA,lK,jP]at T;rcases T with rfl|rfl|rfl
  ·exact⟨hv,rv,by show(vI v).length<=_;rw[s];omega⟩
  ·exact⟨hq,rq,by show(vI q).length<=_;rw[s];omega⟩
  ·exact⟨hx,rx,by show(vI x).length<=_;rw[s];omega⟩
 have e1:U.length=128:=by rw[<-rv.length,s];exact lv
 have e2:X.length=8:=by rw[<-rq.length,s];exact lq
 have e3:Y.length=16:=by rw[<-rx.length,s];exact lx
 have ze:∀{a:Addr} {u p:TyJ},j.heap.get? a=some {cls:=.type "list",data:=.seq u.toArray}->j.heap.get? a=some {cls:=.type "list",data:=.seq p.toArray}->u.length=p.length:=λ{a u p} h h'=>by
  rw[h]at h';have R:Data.seq u.toArray 0=Data.seq p.toArray 0:=by cases h';rfl
  have h3:u.toArray=p.toArray:=by injection R
  rw[<-c4,h3,c4]
 have M:∀y∈[(⟨E,U,vI v⟩:Arg),⟨G,X,vI q⟩,⟨J,Y,vI x⟩],∀z∈[(⟨E,U,vI v⟩:Arg),⟨G,X,vI q⟩,⟨J,Y,vI x⟩],z.a=y.a->z=y:=λy T z hz e=>by have e':=ze (B z hz).1 (by rw[e];exact(B y T).1);simp only[aA,lK,jP]at T hz;rcases T with rfl|rfl|rfl<;>rcases hz with rfl|rfl|rfl<;>first|rfl|(exfalso;simp only at e';omega)
 generalize A:RF K [⟨E,U,vI v⟩,⟨G,X,vI q⟩,⟨J,Y,vI x⟩]=H;have I:xI P w H j.heap:=A▸U5 c D L B;have hT:TabAt (gx K mg) H:=A▸QW c;have sv:dr K H E (vI v):=A▸Hw c D L B (y:=⟨E,U,vI v⟩) (by simp) (M _ (by simp));have sq:dr K H G (vI q):=A▸Hw c D L B (y:=⟨G,X,vI q⟩) (by simp) (M _ (by simp));have sx:dr K H J (vI x):=A▸Hw c D L B (y:=⟨J,Y,vI x⟩) (by simp) (M _ (by simp));have S:∀{b:Addr} {u:HO},H b=some u->(b∈JF/\u=.uW #[])\/(b∉JF/\K.lookup b=none/\∃y∈[(⟨E,U,vI v⟩:Arg),⟨G,X,vI q⟩,⟨J,Y,vI x⟩],y.a=b/\u=.pj y.ob (.lst y.xs)):=λe=>JO (by rw[A];exact e);have zf:∀{b:Addr} {o:Obj} {es:Array DictEntry} {ep:Nat},j.heap.get? b=some o->o.data=.dict es ep->H b=none:=λ{b o es ep} e d=>by
  cases q:H b with
  |none=>rfl
  |some u=>
   rcases S q with⟨Q,rfl⟩|⟨_,_,y,T,rfl,rfl⟩
   ·obtain⟨_,o',h4,rfl⟩:=c.tab Q;rw[L _ _ h4]at e;cases e;cases d
   ·rw[(B y T).1]at e;cases e;unfold Arg.ob at d;cases d
 have C:∀{b:Addr} {m:qL},j.heap.Ns b m->(DN j.heap H).Ns b m:=λ{b m} ⟨o,es,ep,e,d,r⟩=>⟨o,es,ep,DO e (zf e d),d,r⟩;have t:K.In (DN j.heap H):=λb o e=>DO (D b o e) (by
  cases q:H b with
  |none=>rfl
  |some u=>
   rcases S q with⟨Q,rfl⟩|⟨_,hk,_⟩
   ·rw[(c.tab Q).1]at e;cases e
   ·rw[hk]at e;cases e)
 have hM:Mod K mg (DN j.heap H):=⟨t,C N,⟨mb,C Q,zd⟩,let ⟨mc,h1,R⟩:=g;⟨mc,C h1,R⟩⟩;have e0:uf P w K mg (DN j.heap H) callerA [] j H:=⟨rfl,hM,λb o e=>Ox e,qa (JR _ _),trivial,λb Q=>absurd (show b∈([]:oj)from Q) (by simp),I,.of_eq hg⟩;have bD:Binds K (Hu K RB) ["instruction","vectors","predicates","scalars","flags"] []:=(c.fx .dd).binds λ_ _ _ _ _ _ us hl=>match us,hl with|[_,_,_,_,_],_=>rfl
 refine u0 ((Yc c t (C N)).run callerA [] j H ⟨[.int (Z) i,.ref E,.ref G,.ref J,.int (f) k],[]⟩ [.int (Z) i,.ref E,.ref G,.ref J,.int (f) k] [.int (Z),.ref E,.ref G,.ref J,.int (f)]
  (λr H'=>∃l,r=.ref l/\H' l=some (.lst ((P3 (Z) (iI v) (iI q) (iI x) (f)).map V.int))) E0 ⟨rfl,by decide,by decide⟩ e0 (by have:=bD j [.int (Z) i,.ref E,.ref G,.ref J,.int (f) k] D rfl;simpa using this) (.cons ⟨i,rfl⟩ (.cons rfl (.cons rfl (.cons rfl (.cons ⟨k,rfl⟩ .nil)))))
  ⟨E,G,J,Z,v,q,x,f,rfl,hw,lv,lq,lx,bv,bq,bx,sv,sq,sx,hT,λl H' _ _ e=>⟨l,rfl,e⟩⟩) λr s' h=> ?_
 cases r with
 |error e=>exact Db h
 |ok fl=>
  cases fl with
  |next=>exact Db h
  |brk=>exact Db h
  |cont=>exact Db h
  |ret u=>
   obtain⟨vv,H',os,zb,un,O,r',l,rfl,hl⟩:=h;obtain rfl:u=Value.ref l:=r';obtain⟨z,za,n,rr,e⟩:=O l _ hl;refine⟨⟨l,za.toArray,n,rfl,e,by simpa using rr⟩,⟨λb o e=> ?_,λb o e=>un.there b o e (by simp)⟩,os,zb⟩;cases q:H b with
   |none=>exact .inl (un.keep b o e q (by intro z;exact absurd (show b∈([]:oj)from z) (by simp)) (by simp))
   |some u=>
    rcases S q with⟨Q,rfl⟩|⟨_,_,y,T,rfl,rfl⟩
    ·obtain⟨F,hm⟩:=un.u7 b _ q;have h1:=I b _ q;have R:=O b _ hm;have zc:j.heap.get? b=some {cls:=.none,data:=.fields #[]}:=h1;have zg:s'.heap.get? b=some {cls:=.none,data:=.fields (#[]++F)}:=R;rw[e]at zc;cases zc;exact .inr (.inl ⟨Hx c D Q,rfl,#[],F,rfl,zg⟩)
    ·have R:=un.sY _ _ _ q;obtain⟨g1,_⟩:=I _ _ q;obtain⟨g2,_⟩:=O _ _ R;rw[e]at g1;cases g1;exact .inl g2
end Lw
namespace Lw
noncomputable def ls0:List PySem.Str:=["_wall","ones","cut","signed","held","held_signed","count_ones","gather_bits","has_bit","split_words","join_lanes","by_groups","ZERO","CARRY","Machine","Order","three_by_three","funnel_left","funnel_right","look_up_bits"]
noncomputable def ls1:List PySem.Str:=["blend","repeat_scalar","repeat_predicate","count_up","spread_predicate","FILLS","fill_maker","bits_and","bits_and_masks","bits_or","bits_or_masks","bits_exclusive","bits_exclusive_masks","bits_alike","bits_not_and","bits_not_and_masks","bits_not","add","add_masks","shift_left"]
noncomputable def ls2:List PySem.Str:=["shift_left_masks","shift_right","shift_right_masks","lay_above","PREDICATE_PAIRS","lowest_of","pair_predicates","somewhere_in","intersect","predicate_to_scalar","scalar_to_predicate","flags_of_either","flags_of_both","place_of_lowest","how_many","MASKS","mask_step","compress","lane_to_scalar","scalar_to_lane"]
noncomputable def ls3:List PySem.Str:=["MOVES","move_step","add_pairs","subtract","subtract_pairs","multiply","multiply_pairs","upper_product","upper_product_signed","average","apart","lesser","greater","lesser_signed","greater_signed","add_held_signed","add_held","subtract_held_signed","subtract_held","bits_and_pairs"]
noncomputable def ls4:List PySem.Str:=["bits_or_pairs","bits_exclusive_pairs","bits_not_and_pairs","shift_left_pairs","shift_right_pairs","shift_right_signed","turn_left","turn_right","distance_from_zero","negate","negate_by_sign","how_many_ones","zeros_above","rounded_product","PAIRS","pair_action","paired_lanes","FIELD","summed_by","distances"]
noncomputable def ls5:List PySem.Str:=["sum_distances","slide_distances","least_and_place","byte_products","signed_products","add_to_d","add_byte_products","add_byte_products_held","add_products","add_products_held","sum_products","sum_byte_products_held","bytes_with_words","cut_out","field_product","field_inverse","field_products","by_rows","transform","transform_inverse"]
noncomputable def ls6:List PySem.Str:=["carryless_product","carryless_products","same_before","products_of_52","add_lower_52","add_upper_52","PRODUCTS","product_maker","add_z","add_scalar_steps","subtract_scalar_steps","multiply_scalar_steps","bits_and_scalar_steps","bits_or_scalar_steps","bits_exclusive_scalar_steps","shift_left_scalar_steps","shift_right_scalar_steps","just_z","SCALAR_PAIRS","pair_scalars"]
noncomputable def ls7:List PySem.Str:=["compare_scalars","scalar_step","pick","pick_of_two","pick_bytes","move_down","move_bytes_down","by_turns","turns_lower","turns_upper","by_own_groups","interleave_lower","interleave_upper","group_of","shuffle_groups","insert_group","extract_group","turn_bytes_round","expand","neighbours"]
noncomputable def ls8:List PySem.Str:=["add_neighbours","subtract_neighbours","add_neighbours_held","widen","widen_signed","narrowed","narrow","narrow_signed","narrow_held","narrow_signed_held","SHAPES","shape_maker","among","lies_between_two","between","alike","standing","QUESTIONS","answer","lowest_bytes"]
noncomputable def ls9:List PySem.Str:=["up_to_zero","texts_by_zero","texts_by_length","TEXTS","text_step","stand","stand_as_asked","compare","compare_signed","share_a_one","share_no_one","highest_bits","bits_at_places","TOLD","truths_maker","WIDTHS","fits","first_found","made_lanes","made_truths"]
noncomputable def aaE:List PySem.Str:=["perform","counted","told_parts"]
def g9:List PySem.Str:=ls0++ls1++ls2++ls3++ls4++ls5++ls6++ls7++ls8++ls9++aaE
end Lw
namespace Lw
open PySem
noncomputable def sT:jR->Nat->TyJ
 |[],_=>[]
 |x::l,t=>.str x t::sT l (t+1)
def bk(a t:Nat)(h:Stmt)(j o:Str)(q r:Nat)(s:Option (jR×jR))(pm:Str)(u:Nat):List Obj:=let F:Value:=.str "/claim/cut.py" (t+2)
 let cd (n:Nat) (x y z:Value) (t':Nat):Obj:={cls:=.type "code",data:=.fields #[.str j t,.str o (t+1),F,.int q 0,.int r 0,.int 0 0,.int 0 0,.int 3 0,.ref a,.bool true,.int 181 0,.ref (a+1),.none,x,y,z,.int t' 0,.int q 0,.str "/claim/cut.py" (t'+1)]}
 let tm:Obj:={cls:=.none,data:=.func {name:=j,qualname:=o,params:=L2.oq h,body:=.stmts (L2.cP h),scope:=L2.a0 h,globals:=0,closure:=[],defaults:=.none,kwdefaults:=.none}}
 let fn (c:Nat):Obj:={cls:=.type "function",data:=.func {name:=j,qualname:=o,params:=L2.oq h,body:=.stmts (L2.cP h),scope:=L2.a0 h,globals:=3,closure:=[],defaults:=.none,kwdefaults:=.none,pyModule:=.str pm u,code:=.ref c}}
 let tu (l:TyJ):Obj:={cls:=.type "tuple",data:=.seq l.toArray}
 let tb:Obj:={cls:=.none,data:=.fields #[]}
 match s with
 |some (vn,cv)=>[tu [],tb,tu (sT vn (t+3)),tu (sT cv (t+3+vn.length)),tm,cd 0 (.ref (a+2)) (.ref (a+3)) (.ref (a+4)) (t+3+vn.length+cv.length),fn (a+5)]
 |none=>[tu [],tb,tm,cd 0 .none .none (.ref (a+2)) (t+3),fn (a+3)]
noncomputable def dS(P:Params)(l:FI):List DictEntry:=l.map λx=>⟨PyData.keyHash P x.1,.str x.1 x.2.1,x.2.2⟩
noncomputable def Le(l:List (Nat×Nat×Value)):List DictEntry:=l.map λx=>⟨((x.1:Nat):Int),.int ((x.1:Nat):Int) x.2.1,x.2.2⟩
noncomputable def tbA:List (Nat×Nat):=[(1,20),(5,27),(7,34),(9,41),(11,48),(13,55),(16,62),(22,69),(28,76),(30,83),(37,90),(46,97),(55,104),(103,202),(119,221),(124,228),(127,235),(130,242),(143,247),(148,254),(150,261),(152,266),(155,271),(159,279),(162,286),(165,293),(168,300),(171,307),(173,314),(176,321),(178,328),(181,335),(184,342),(187,349),(191,357),(193,364),(197,369),(199,376),(205,383),(207,390),(209,397),(212,404),(216,411),(219,418),(222,426),(225,431),(230,438),(232,445),(237,453),(240,460),(243,467),(246,474),(249,481),(251,488),(253,495),(255,502),(257,509),(259,516),(261,523),(263,530),(265,537),(267,544),(269,551),(271,558),(273,565),(276,572),(279,579),(282,586),(285,593),(288,600),(291,607),(293,614),(296,621),(299,628),(301,635),(303,642),(307,649),(309,656),(311,663),(315,672),(317,677),(323,682),(325,687),(327,694),(329,701),(337,708),(343,713),(347,718),(351,723),(354,728),(356,733),(358,738),(360,743),(362,748),(364,753),(366,758),(369,765),(374,772),(383,779),(390,784),(394,789),(396,796),(398,803),(400,810),(406,817),(414,822),(417,827),(421,832),(424,837),(428,845),(431,852),(433,859),(436,866),(439,873),(442,880),(445,887),(448,894),(451,901),(454,908),(457,915),(460,923),(465,930),(469,937),(474,942),(477,947),(480,954),(485,961),(489,968),(495,975),(500,982),(503,989),(506,996),(508,1003),(510,1010),(512,1017),(515,1024),(520,1031),(524,1038),(526,1043),(534,1050),(544,1057),(550,1064),(552,1071),(554,1078),(557,1085),(559,1090),(561,1095),(563,1102),(565,1109),(567,1116),(569,1123),(572,1132),(575,1137),(577,1144),(582,1149),(584,1154),(586,1159),(589,1167),(594,1174),(596,1181),(598,1188),(602,1195),(607,1203),(610,1210),(616,1215),(619,1222),(623,1227),(627,1232),(631,1237),(633,1242),(635,1249),(638,1257),(642,1275),(644,1282),(650,1289),(656,1296),(659,1303),(676,1310),(678,1317),(680,1324)]
def tbO(n:Nat):Obj:={cls:=.none,data:=.fields ((tbA.take n).flatMap λx=>[.int ((x.1:Nat):Int) 0,.int 0 0,.ref x.2]).toArray}
noncomputable def t_:Str:="lanewise.pairs"
noncomputable def vZ:Str:="lanewise.shapes"
noncomputable def Bk:Str:="lanewise.masks"
noncomputable def Lf:Str:="lanewise.scalar_steps"
noncomputable def zm4:Str:="lanewise.machine"
noncomputable def N_:Str:="lanewise.bits"
noncomputable def v7:Str:="lanewise.products"
noncomputable def Oa:Str:="lanewise.texts"
noncomputable def Ot:Str:="lanewise.fills"
noncomputable def Yd:Str:="lanewise.perform"
noncomputable def DE:Str:="lanewise.told"
noncomputable def QY:Str:="lanewise.moves"
noncomputable def U7:Str:="lanewise.lanes"
noncomputable def aaF:Str:="__main__"
noncomputable def aba:Str:="lanewise.order"
def bC(a t i:Nat)(c:Str)(h j:Nat)(o q:jR)(pm:Str)(r:Nat):Nat×List Obj:=(a,bk a t (Fu i) c c h j (some (o,q)) pm r)
def bN(a t i:Nat)(c:Str)(h j:Nat)(pm:Str)(o:Nat):Nat×List Obj:=(a,bk a t (Fu i) c c h j none pm o)
def bK(a t i:Nat)(c:Str)(h j:Nat)(o:jR)(pm:Str)(q:Nat):Nat×List Obj:=bC a t i c h j o [] pm q
def ob0(P:Params):AJ:=[(11,[{cls:=.type "tuple",data:=.seq ([]:TyJ).toArray 0}]),
 (12,[tbO 180]),
 (13,[{cls:=.type "code",data:=.fields ([.str "<module>" 182,.str "<module>" 183,.str "/claim/cut.py" 184,.int 1 0,.int 0 0,.int 0 0,.int 0 0,.int 0 0,.ref 11,(.bool false),.int 181 0,.ref 12,.none,.none,.none,.none,.int 185 0,.int 1 0,.str "/claim/cut.py" 186]:TyJ).toArray}]),
 (14,[{cls:=.type "frame",slots:=([some (.ref 13),some (.ref 3),some (.ref 3),none,some (.str "__main__" 164),none,some (.ref 0)]:List (Lg)).toArray}]),
 bK 15 187 0 "_wall" 1 1 ["k"] aaF 164,
 bK 22 196 2 "ones" 5 1 ["k"] N_ 194,
 bK 29 203 3 "cut" 7 2 ["number","k"] N_ 194,
 bK 36 211 4 "signed" 9 2 ["number","k"] N_ 194,
 bK 43 219 5 "held" 11 2 ["number","k"] N_ 194,
 bK 50 227 6 "held_signed" 13 2 ["number","k","greatest"] N_ 194,
 bK 57 236 7 "count_ones" 16 1 ["number","count"] N_ 194,
 bK 64 244 8 "gather_bits" 22 1 ["truths","number","place","truth"] N_ 194]
def ob1(P:Params):AJ:=[bK 71 254 9 "has_bit" 28 2 ["number","place"] N_ 194,
 bK 78 262 10 "split_words" 30 2 ["words","k","mask","lanes","word","low"] N_ 194,
 bK 85 274 11 "join_lanes" 37 2 ["lanes","k","each","words","first","word","lane"] N_ 194,
 bK 92 287 12 "by_groups" 46 3 ["xs","ys","action","size","lanes","first"] N_ 194,
 (99,[{cls:=.type "tuple",data:=.seq ([]:TyJ).toArray 0}]),
 (100,[{cls:=.type "builtin_function_or_method",data:=.fields ([(.builtin "type.__prepare__"),(.type "type")]:TyJ).toArray}]),
 (101,[{cls:=.type "dict",data:=.dict (dS P [("__module__",312,.str "lanewise.machine" 299),("__qualname__",314,.str "Machine" 313),("__firstlineno__",316,.int 55 315),("__init__",327,.ref 112),("read_lanes",336,.ref 119),("write_lanes",347,.ref 126),("put_vector",360,.ref 133),("kept_lanes",369,.ref 140),("read_predicate",377,.ref 147),("put_predicate",386,.ref 154),("read_scalar",394,.ref 161),("put_scalar",403,.ref 168),("put_flags",412,.ref 175),("has_zero",419,.ref 182),("has_carry",426,.ref 189),("__static_attributes__",431,.ref 190)]).toArray 16}]),
 (102,[{cls:=.type "tuple",data:=.seq ([]:TyJ).toArray 0}]),
 (103,[{cls:=.none,data:=.fields ([.int 57 0,.int 4 0,.ref 111,.int 63 0,.int 4 0,.ref 118,.int 66 0,.int 4 0,.ref 125,.int 70 0,.int 4 0,.ref 132,.int 78 0,.int 4 0,.ref 139,.int 81 0,.int 4 0,.ref 146,.int 84 0,.int 4 0,.ref 153,.int 88 0,.int 4 0,.ref 160,.int 91 0,.int 4 0,.ref 167,.int 94 0,.int 4 0,.ref 174,.int 97 0,.int 4 0,.ref 181,.int 100 0,.int 4 0,.ref 188]:TyJ).toArray}]),
 (104,[{cls:=.type "code",data:=.fields ([.str "Machine" 307,.str "Machine" 308,.str "/claim/cut.py" 309,.int 55 0,.int 0 0,.int 0 0,.int 0 0,.int 0 0,.ref 102,(.bool false),.int 181 0,.ref 103,.none,.none,.none,.none,.int 310 0,.int 55 0,.str "/claim/cut.py" 311]:TyJ).toArray}]),
 (105,[{cls:=.type "frame",slots:=([some (.ref 104),some (.ref 3),some (.ref 101),none,some (.str "lanewise.machine" 299),none,some (.ref 0)]:List (Lg)).toArray}]),
 (106,bk 106 317 (tG 16 0) "__init__" "Machine.__init__" 57 5 (some (["self","vectors","predicates","scalars","flags"],[])) "lanewise.machine" 299)]
def ob2(P:Params):AJ:=[(113,bk 113 328 (tG 16 1) "read_lanes" "Machine.read_lanes" 63 3 (some (["self","number","k"],[])) "lanewise.machine" 299),
 (120,bk 120 337 (tG 16 2) "write_lanes" "Machine.write_lanes" 66 3 (some (["self","number","lanes","place","word"],[])) "lanewise.machine" 299),
 (127,bk 127 348 (tG 16 3) "put_vector" "Machine.put_vector" 70 3 (some (["self","order","lanes","chosen","merged","place","lane"],[])) "lanewise.machine" 299),
 (134,bk 134 361 (tG 16 4) "kept_lanes" "Machine.kept_lanes" 78 3 (some (["self","order","k"],[])) "lanewise.machine" 299),
 (141,bk 141 370 (tG 16 5) "read_predicate" "Machine.read_predicate" 81 2 (some (["self","number"],[])) "lanewise.machine" 299),
 (148,bk 148 378 (tG 16 6) "put_predicate" "Machine.put_predicate" 84 3 (some (["self","number","word"],[])) "lanewise.machine" 299),
 (155,bk 155 387 (tG 16 7) "read_scalar" "Machine.read_scalar" 88 2 (some (["self","number"],[])) "lanewise.machine" 299),
 (162,bk 162 395 (tG 16 8) "put_scalar" "Machine.put_scalar" 91 3 (some (["self","number","value"],[])) "lanewise.machine" 299),
 (169,bk 169 404 (tG 16 9) "put_flags" "Machine.put_flags" 94 3 (some (["self","zero","carry"],[])) "lanewise.machine" 299),
 (176,bk 176 413 (tG 16 10) "has_zero" "Machine.has_zero" 97 1 (some (["self"],[])) "lanewise.machine" 299),
 (183,bk 183 420 (tG 16 11) "has_carry" "Machine.has_carry" 100 1 (some (["self"],[])) "lanewise.machine" 299),
 (190,[{cls:=.type "tuple",data:=.seq ([.str "flags" 427,.str "predicates" 428,.str "scalars" 429,.str "vectors" 430]:TyJ).toArray 0}])]
def ob3(P:Params):AJ:=[(191,[{cls:=.type "dict",data:=.dict (dS P [("__module__",312,.str "lanewise.machine" 299),("__firstlineno__",316,.int 55 315),("__init__",327,.ref 112),("read_lanes",336,.ref 119),("write_lanes",347,.ref 126),("put_vector",360,.ref 133),("kept_lanes",369,.ref 140),("read_predicate",377,.ref 147),("put_predicate",386,.ref 154),("read_scalar",394,.ref 161),("put_scalar",403,.ref 168),("put_flags",412,.ref 175),("has_zero",419,.ref 182),("has_carry",426,.ref 189),("__static_attributes__",431,.ref 190),("__dict__",433,.ref 193),("__weakref__",435,.ref 194),("__doc__",436,.none)]).toArray 4}]),
 (192,[{cls:=.type "type",data:=.cls {name:="Machine",bases:=[.type "object"],mro:=[.ref 192,.type "object"],ns:=191,qualname:="Machine"},slots:=([none,none,some (.str "Machine" 305),some (.str "Machine" 313),some (.builtin "object.__new__"),some (.bool true)]:List (Lg)).toArray}]),
 (193,[{cls:=.type "getset_descriptor",data:=.fields ([.str "__dict__" 432,.ref 192,(.builtin "function.__dict__"),(.builtin "function.__dict__#set")]:TyJ).toArray}]),
 (194,[{cls:=.type "getset_descriptor",data:=.fields ([.str "__weakref__" 434,.ref 192,(.builtin "ExceptionGroup.__weakref__"),.none]:TyJ).toArray}]),
 (195,[{cls:=.type "super",data:=.fields ([.ref 192,.ref 192,.ref 192]:TyJ).toArray}]),
 (196,[{cls:=.type "builtin_function_or_method",data:=.fields ([(.builtin "object.__init_subclass__"),.ref 192]:TyJ).toArray}]),
 (197,[{cls:=.type "tuple",data:=.seq ([]:TyJ).toArray 0}]),
 (198,[{cls:=.type "builtin_function_or_method",data:=.fields ([(.builtin "type.__prepare__"),(.type "type")]:TyJ).toArray}]),
 (199,[{cls:=.type "dict",data:=.dict (dS P [("__module__",448,.str "lanewise.order" 439),("__qualname__",450,.str "Order" 449),("__firstlineno__",452,.int 103 451),("__init__",461,.ref 210),("__static_attributes__",473,.ref 211)]).toArray 5}]),
 (200,[{cls:=.type "tuple",data:=.seq ([]:TyJ).toArray 0}]),
 (201,[{cls:=.none,data:=.fields ([.int 105 0,.int 4 0,.ref 209]:TyJ).toArray}]),
 (202,[{cls:=.type "code",data:=.fields ([.str "Order" 443,.str "Order" 444,.str "/claim/cut.py" 445,.int 103 0,.int 0 0,.int 0 0,.int 0 0,.int 0 0,.ref 200,(.bool false),.int 181 0,.ref 201,.none,.none,.none,.none,.int 446 0,.int 103 0,.str "/claim/cut.py" 447]:TyJ).toArray}])]
def ob4(P:Params):AJ:=[(203,[{cls:=.type "frame",slots:=([some (.ref 202),some (.ref 3),some (.ref 199),none,some (.str "lanewise.order" 439),none,some (.ref 0)]:List (Lg)).toArray}]),
 (204,bk 204 453 (tG 18 0) "__init__" "Order.__init__" 105 2 (some (["self","instruction","second"],[])) "lanewise.order" 439),
 (211,[{cls:=.type "tuple",data:=.seq ([.str "a" 462,.str "b" 463,.str "d" 464,.str "g" 465,.str "k" 466,.str "m" 467,.str "n" 468,.str "operation" 469,.str "sound" 470,.str "z" 471,.str "zeroing" 472]:TyJ).toArray 0}]),
 (212,[{cls:=.type "dict",data:=.dict (dS P [("__module__",448,.str "lanewise.order" 439),("__firstlineno__",452,.int 103 451),("__init__",461,.ref 210),("__static_attributes__",473,.ref 211),("__dict__",475,.ref 214),("__weakref__",477,.ref 215),("__doc__",478,.none)]).toArray 4}]),
 (213,[{cls:=.type "type",data:=.cls {name:="Order",bases:=[.type "object"],mro:=[.ref 213,.type "object"],ns:=212,qualname:="Order"},slots:=([none,none,some (.str "Order" 441),some (.str "Order" 449),some (.builtin "object.__new__"),some (.bool true)]:List (Lg)).toArray}]),
 (214,[{cls:=.type "getset_descriptor",data:=.fields ([.str "__dict__" 474,.ref 213,(.builtin "function.__dict__"),(.builtin "function.__dict__#set")]:TyJ).toArray}]),
 (215,[{cls:=.type "getset_descriptor",data:=.fields ([.str "__weakref__" 476,.ref 213,(.builtin "ExceptionGroup.__weakref__"),.none]:TyJ).toArray}]),
 (216,[{cls:=.type "super",data:=.fields ([.ref 213,.ref 213,.ref 213]:TyJ).toArray}]),
 (217,[{cls:=.type "builtin_function_or_method",data:=.fields ([(.builtin "object.__init_subclass__"),.ref 213]:TyJ).toArray}]),
 bN 218 483 20 "three_by_three" 119 3 Ot 481,
 bC 223 489 21 "funnel_left" 124 2 ["order","machine"] ["k"] Ot 481,
 bC 230 498 22 "funnel_right" 127 2 ["order","machine"] ["k"] Ot 481]
def ob5(P:Params):AJ:=[bC 237 507 23 "look_up_bits" 130 2 ["order","machine","looked_up"] ["order","every"] Ot 481,
 bN 244 518 24 "blend" 143 2 Ot 481,
 bK 249 524 25 "repeat_scalar" 148 2 ["order","machine"] Ot 481,
 bK 256 532 26 "repeat_predicate" 150 2 ["order","machine"] Ot 481,
 bN 263 540 27 "count_up" 152 2 Ot 481,
 bN 268 546 28 "spread_predicate" 155 2 Ot 481,
 (273,[{cls:=.type "dict",data:=.dict (Le [(25,552,.ref 229),(26,553,.ref 236),(33,554,.ref 243),(34,555,.ref 248),(35,556,.ref 255),(36,557,.ref 262),(37,558,.ref 267),(86,559,.ref 272)]).toArray 8}]),
 bK 274 569 30 "fill_maker" 159 1 ["operation"] Ot 481,
 bK 281 578 32 "bits_and" 162 3 ["x","y","order"] Bk 576,
 bK 288 588 34 "bits_or" 165 3 ["x","y","order"] Bk 576,
 bK 295 598 36 "bits_exclusive" 168 3 ["x","y","order"] Bk 576,
 bK 302 608 38 "bits_alike" 171 3 ["x","y","order"] Bk 576]
def ob6(P:Params):AJ:=[bK 309 617 39 "bits_not_and" 173 3 ["x","y","order"] Bk 576,
 bK 316 627 41 "bits_not" 176 3 ["x","y","order"] Bk 576,
 bK 323 636 42 "add" 178 3 ["x","y","order"] Bk 576,
 bK 330 646 44 "shift_left" 181 3 ["x","y","order"] Bk 576,
 bK 337 656 46 "shift_right" 184 3 ["x","y","order"] Bk 576,
 bK 344 666 48 "lay_above" 187 3 ["x","y","order","half"] Bk 576,
 (351,[{cls:=.type "dict",data:=.dict (Le [(90,676,.ref 287),(91,677,.ref 294),(92,678,.ref 301),(93,679,.ref 308),(94,680,.ref 315),(95,681,.ref 322),(96,682,.ref 329),(97,683,.ref 336),(98,684,.ref 343),(99,685,.ref 350)]).toArray 10}]),
 bK 352 697 50 "lowest_of" 191 3 ["number","order","machine"] Bk 576,
 bK 359 706 51 "pair_predicates" 193 2 ["order","machine","action","made"] Bk 576,
 bN 366 716 52 "somewhere_in" 197 2 Bk 576,
 bK 371 722 53 "intersect" 199 2 ["order","machine","xs","ys","even"] Bk 576,
 bK 378 733 54 "predicate_to_scalar" 205 2 ["order","machine"] Bk 576]
def ob7(P:Params):AJ:=[bK 385 741 55 "scalar_to_predicate" 207 2 ["order","machine"] Bk 576,
 bK 392 749 56 "flags_of_either" 209 2 ["order","machine","either"] Bk 576,
 bK 399 758 57 "flags_of_both" 212 2 ["order","machine","x","y"] Bk 576,
 bK 406 768 58 "place_of_lowest" 216 2 ["order","machine","x"] Bk 576,
 bK 413 777 59 "how_many" 219 2 ["order","machine"] Bk 576,
 (420,[{cls:=.type "dict",data:=.dict (Le [(87,785,.ref 377),(100,786,.ref 384),(101,787,.ref 391),(102,788,.ref 398),(103,789,.ref 405),(104,790,.ref 412),(105,791,.ref 419)]).toArray 7}]),
 bK 421 800 61 "mask_step" 222 1 ["operation"] Bk 576,
 bN 428 809 63 "compress" 225 2 QY 807,
 bK 433 815 64 "lane_to_scalar" 230 2 ["order","machine"] QY 807,
 bK 440 823 65 "scalar_to_lane" 232 2 ["order","machine","lanes"] QY 807,
 (447,[{cls:=.type "dict",data:=.dict (Le [(48,832,.ref 432),(106,833,.ref 439),(107,834,.ref 446)]).toArray 3}]),
 bK 448 839 67 "move_step" 237 1 ["operation"] QY 807]
def ob8(P:Params):AJ:=[bK 455 848 69 "add" 240 3 ["x","y","k"] t_ 846,
 bK 462 858 71 "subtract" 243 3 ["x","y","k"] t_ 846,
 bK 469 868 73 "multiply" 246 3 ["x","y","k"] t_ 846,
 bK 476 878 75 "upper_product" 249 3 ["x","y","k"] t_ 846,
 bK 483 887 76 "upper_product_signed" 251 3 ["x","y","k"] t_ 846,
 bK 490 896 77 "average" 253 3 ["x","y","k"] t_ 846,
 bK 497 905 78 "apart" 255 3 ["x","y","k"] t_ 846,
 bK 504 914 79 "lesser" 257 3 ["x","y","k"] t_ 846,
 bK 511 923 80 "greater" 259 3 ["x","y","k"] t_ 846,
 bK 518 932 81 "lesser_signed" 261 3 ["x","y","k"] t_ 846,
 bK 525 941 82 "greater_signed" 263 3 ["x","y","k"] t_ 846,
 bK 532 950 83 "add_held_signed" 265 3 ["x","y","k"] t_ 846]
def ob9(P:Params):AJ:=[bK 539 959 84 "add_held" 267 3 ["x","y","k"] t_ 846,
 bK 546 968 85 "subtract_held_signed" 269 3 ["x","y","k"] t_ 846,
 bK 553 977 86 "subtract_held" 271 3 ["x","y","k"] t_ 846,
 bK 560 986 87 "bits_and" 273 3 ["x","y","k"] t_ 846,
 bK 567 996 89 "bits_or" 276 3 ["x","y","k"] t_ 846,
 bK 574 1006 91 "bits_exclusive" 279 3 ["x","y","k"] t_ 846,
 bK 581 1016 93 "bits_not_and" 282 3 ["x","y","k"] t_ 846,
 bK 588 1026 95 "shift_left" 285 3 ["x","y","k"] t_ 846,
 bK 595 1036 97 "shift_right" 288 3 ["x","y","k"] t_ 846,
 bK 602 1046 99 "shift_right_signed" 291 3 ["x","y","k"] t_ 846,
 bK 609 1055 100 "turn_left" 293 3 ["x","y","k","by"] t_ 846,
 bK 616 1065 101 "turn_right" 296 3 ["x","y","k","by"] t_ 846]
def aaG(P:Params):AJ:=[bK 623 1075 102 "distance_from_zero" 299 3 ["x","y","k"] t_ 846,
 bK 630 1084 103 "negate" 301 3 ["x","y","k"] t_ 846,
 bK 637 1093 104 "negate_by_sign" 303 3 ["x","y","k"] t_ 846,
 bK 644 1102 105 "how_many_ones" 307 3 ["x","y","k"] t_ 846,
 bK 651 1111 106 "zeros_above" 309 3 ["x","y","k"] t_ 846,
 bK 658 1120 107 "rounded_product" 311 3 ["x","y","k","doubled"] t_ 846,
 (665,[{cls:=.type "dict",data:=.dict (Le [(1,1130,.ref 461),(2,1132,.ref 468),(3,1134,.ref 475),(4,1136,.ref 482),(5,1138,.ref 489),(6,1140,.ref 496),(7,1142,.ref 503),(8,1144,.ref 510),(9,1146,.ref 517),(10,1148,.ref 524),(11,1150,.ref 531),(12,1152,.ref 538),(13,1154,.ref 545),(14,1156,.ref 552),(15,1158,.ref 559),(16,1160,.ref 566),(17,1162,.ref 573),(18,1164,.ref 580),(19,1165,.ref 587),(20,1166,.ref 594),(21,1167,.ref 601),(22,1168,.ref 608),(23,1169,.ref 615),(24,1170,.ref 622),(27,1171,.ref 629),(28,1172,.ref 636),(29,1173,.ref 643),(30,1174,.ref 650),(31,1175,.ref 657),(32,1176,.ref 664)]).toArray 30}]),
 (666,[{cls:=.type "dict",data:=.dict (Le [(18,1164,.ref 580),(19,1165,.ref 587),(20,1166,.ref 594),(21,1167,.ref 601),(22,1168,.ref 608),(23,1169,.ref 615),(24,1170,.ref 622),(27,1171,.ref 629),(28,1172,.ref 636),(29,1173,.ref 643),(30,1174,.ref 650),(31,1175,.ref 657),(32,1176,.ref 664)]).toArray 13}]),
 bK 667 1191 109 "pair_action" 315 1 ["operation"] t_ 846,
 bN 674 1198 110 "paired_lanes" 317 3 t_ 846,
 bN 679 1208 113 "summed_by" 323 2 v7 1204,
 bN 684 1214 114 "distances" 325 2 v7 1204]
def aaH(P:Params):AJ:=[bK 689 1220 115 "sum_distances" 327 2 ["order","machine"] v7 1204,
 bC 696 1228 116 "slide_distances" 329 2 ["order","machine","slid"] ["from_x","from_y"] v7 1204,
 bK 703 1239 117 "least_and_place" 337 2 ["order","machine","found"] v7 1204,
 bN 710 1248 118 "byte_products" 343 2 v7 1204,
 bN 715 1254 119 "signed_products" 347 2 v7 1204,
 bN 720 1260 120 "add_to_d" 351 3 v7 1204,
 bN 725 1266 121 "add_byte_products" 354 2 v7 1204,
 bN 730 1272 122 "add_byte_products_held" 356 2 v7 1204,
 bN 735 1278 123 "add_products" 358 2 v7 1204,
 bN 740 1284 124 "add_products_held" 360 2 v7 1204,
 bN 745 1290 125 "sum_products" 362 2 v7 1204,
 bN 750 1296 126 "sum_byte_products_held" 364 2 v7 1204]
def aaI(P:Params):AJ:=[bN 755 1302 127 "bytes_with_words" 366 3 v7 1204,
 bK 760 1308 128 "cut_out" 369 2 ["order","machine","eight_from"] v7 1204,
 bK 767 1317 129 "field_product" 374 2 ["x","y","product","place"] v7 1204,
 bK 774 1327 130 "field_inverse" 383 1 ["x","inverse","power","place"] v7 1204,
 bN 781 1337 131 "field_products" 390 2 v7 1204,
 bN 786 1343 132 "by_rows" 394 2 v7 1204,
 bC 791 1349 133 "transform" 396 2 ["order","machine"] ["order"] v7 1204,
 bC 798 1358 134 "transform_inverse" 398 2 ["order","machine"] ["order"] v7 1204,
 bK 805 1367 135 "carryless_product" 400 2 ["x","y","product","place"] v7 1204,
 bC 812 1377 136 "carryless_products" 406 2 ["order","machine","multiplied"] ["from_x","from_y"] v7 1204,
 bN 819 1388 137 "same_before" 414 2 v7 1204,
 bN 824 1394 138 "products_of_52" 417 2 v7 1204]
def aaJ(P:Params):AJ:=[bN 829 1400 139 "add_lower_52" 421 2 v7 1204,
 bN 834 1406 140 "add_upper_52" 424 2 v7 1204,
 (839,[{cls:=.type "dict",data:=.dict (Le [(63,1412,.ref 695),(64,1414,.ref 702),(65,1416,.ref 709),(66,1418,.ref 729),(67,1420,.ref 734),(68,1422,.ref 739),(69,1424,.ref 744),(70,1426,.ref 749),(71,1428,.ref 754),(72,1430,.ref 766),(74,1432,.ref 785),(75,1434,.ref 797),(76,1436,.ref 804),(77,1438,.ref 818),(78,1440,.ref 823),(79,1442,.ref 833),(80,1444,.ref 838)]).toArray 17}]),
 bK 840 1447 142 "product_maker" 428 1 ["operation"] v7 1204,
 bK 847 1456 144 "add_z" 431 3 ["x","y","z"] Lf 1454,
 bK 854 1465 145 "add" 433 3 ["x","y","z"] Lf 1454,
 bK 861 1475 147 "subtract" 436 3 ["x","y","z"] Lf 1454,
 bK 868 1485 149 "multiply" 439 3 ["x","y","z"] Lf 1454,
 bK 875 1495 151 "bits_and" 442 3 ["x","y","z"] Lf 1454,
 bK 882 1505 153 "bits_or" 445 3 ["x","y","z"] Lf 1454,
 bK 889 1515 155 "bits_exclusive" 448 3 ["x","y","z"] Lf 1454,
 bK 896 1525 157 "shift_left" 451 3 ["x","y","z"] Lf 1454]
def aaK(P:Params):AJ:=[bK 903 1535 159 "shift_right" 454 3 ["x","y","z"] Lf 1454,
 bK 910 1545 161 "just_z" 457 3 ["x","y","z"] Lf 1454,
 (917,[{cls:=.type "dict",data:=.dict (Le [(130,1554,.ref 853),(131,1555,.ref 860),(132,1556,.ref 867),(133,1557,.ref 874),(134,1558,.ref 881),(135,1559,.ref 888),(136,1560,.ref 895),(137,1561,.ref 902),(138,1562,.ref 909),(139,1563,.ref 916)]).toArray 10}]),
 bK 918 1575 163 "pair_scalars" 460 2 ["order","machine","action","x","y"] Lf 1454,
 bK 925 1586 164 "compare_scalars" 465 2 ["order","machine","x","y"] Lf 1454,
 bK 932 1596 165 "scalar_step" 469 1 ["operation"] Lf 1454,
 bN 939 1605 167 "pick" 474 2 vZ 1603,
 bN 944 1611 168 "pick_of_two" 477 2 vZ 1603,
 bK 949 1617 169 "pick_bytes" 480 2 ["order","machine","picked"] vZ 1603,
 bK 956 1626 170 "move_down" 485 2 ["order","machine","both","by"] vZ 1603,
 bC 963 1636 171 "move_bytes_down" 489 2 ["order","machine","moved"] ["by"] vZ 1603,
 bK 970 1646 172 "by_turns" 495 2 ["xs","ys","lanes","x","y"] vZ 1603]
def aaL(P:Params):AJ:=[bK 977 1657 173 "turns_lower" 500 2 ["xs","ys","half"] vZ 1603,
 bK 984 1666 174 "turns_upper" 503 2 ["xs","ys","half"] vZ 1603,
 bK 991 1675 175 "by_own_groups" 506 3 ["action","order","machine"] vZ 1603,
 bK 998 1684 176 "interleave_lower" 508 2 ["order","machine"] vZ 1603,
 bK 1005 1692 177 "interleave_upper" 510 2 ["order","machine"] vZ 1603,
 bK 1012 1700 178 "group_of" 512 2 ["words","number","first"] vZ 1603,
 bK 1019 1709 179 "shuffle_groups" 515 2 ["order","machine","xs","ys","lower"] vZ 1603,
 bK 1026 1720 180 "insert_group" 520 2 ["order","machine","words","first"] vZ 1603,
 bK 1033 1730 181 "extract_group" 524 2 ["order","machine"] vZ 1603,
 bN 1040 1738 182 "turn_bytes_round" 526 2 vZ 1603,
 bK 1045 1744 183 "expand" 534 2 ["order","machine","chosen","xs","lanes","used","place"] vZ 1603,
 bC 1052 1757 184 "neighbours" 544 3 ["action","order","machine","joined"] ["action"] vZ 1603]
def aaM(P:Params):AJ:=[bC 1059 1768 185 "add_neighbours" 550 2 ["order","machine"] ["order"] vZ 1603,
 bC 1066 1777 186 "subtract_neighbours" 552 2 ["order","machine"] ["order"] vZ 1603,
 bC 1073 1786 187 "add_neighbours_held" 554 2 ["order","machine"] ["k"] vZ 1603,
 bK 1080 1795 188 "widen" 557 2 ["order","machine"] vZ 1603,
 bN 1087 1803 189 "widen_signed" 559 2 vZ 1603,
 bN 1092 1809 190 "narrowed" 561 3 vZ 1603,
 bC 1097 1815 191 "narrow" 563 2 ["order","machine"] ["order"] vZ 1603,
 bC 1104 1824 192 "narrow_signed" 565 2 ["order","machine"] ["order"] vZ 1603,
 bC 1111 1833 193 "narrow_held" 567 2 ["order","machine"] ["order"] vZ 1603,
 bC 1118 1842 194 "narrow_signed_held" 569 2 ["order","machine"] ["order"] vZ 1603,
 (1125,[{cls:=.type "dict",data:=.dict (Le [(40,1851,.ref 943),(41,1853,.ref 948),(42,1855,.ref 955),(43,1857,.ref 962),(44,1859,.ref 969),(45,1861,.ref 1004),(46,1863,.ref 1011),(47,1865,.ref 1025),(49,1867,.ref 1051),(50,1869,.ref 1044),(51,1871,.ref 1032),(52,1873,.ref 1039),(53,1875,.ref 1086),(54,1877,.ref 1091),(55,1879,.ref 1103),(56,1881,.ref 1110),(57,1883,.ref 1117),(58,1885,.ref 1124),(60,1886,.ref 1065),(61,1887,.ref 1072),(62,1888,.ref 1079)]).toArray 21}]),
 (1126,[{cls:=.type "dict",data:=.dict (Le [(58,1885,.ref 1124),(60,1886,.ref 1065),(61,1887,.ref 1072),(62,1888,.ref 1079)]).toArray 4}])]
def aaN(P:Params):AJ:=[bK 1127 1894 196 "shape_maker" 572 1 ["operation"] vZ 1603,
 bN 1134 1903 198 "among" 575 2 Oa 1901,
 bK 1139 1909 199 "lies_between_two" 577 2 ["y","xs","i"] Oa 1901,
 bN 1146 1918 200 "between" 582 2 Oa 1901,
 bN 1151 1924 201 "alike" 584 2 Oa 1901,
 bN 1156 1930 202 "standing" 586 2 Oa 1901,
 (1161,[{cls:=.type "tuple",data:=.seq ([.ref 1138,.ref 1150,.ref 1155,.ref 1160]:TyJ).toArray 0}]),
 bK 1162 1937 204 "answer" 589 4 ["order","machine","xs","ys","question","word"] Oa 1901,
 bK 1169 1949 205 "lowest_bytes" 594 2 ["number","machine"] Oa 1901,
 bK 1176 1957 206 "up_to_zero" 596 1 ["row"] Oa 1901,
 bK 1183 1964 207 "texts_by_zero" 598 2 ["order","machine","xs","ys"] Oa 1901,
 bK 1190 1974 208 "texts_by_length" 602 2 ["order","machine","xs","ys"] Oa 1901]
def aaO(P:Params):AJ:=[(1197,[{cls:=.type "dict",data:=.dict (Le [(88,1984,.ref 1189),(89,1985,.ref 1196)]).toArray 2}]),
 bK 1198 1989 210 "text_step" 607 1 ["operation"] Oa 1901,
 bK 1205 1998 212 "stand" 610 3 ["how","x","y"] DE 1996,
 bN 1212 2007 213 "stand_as_asked" 616 3 DE 1996,
 bK 1217 2013 214 "compare" 619 2 ["order","machine","xs","ys"] DE 1996,
 bN 1224 2023 215 "compare_signed" 623 2 DE 1996,
 bN 1229 2029 216 "share_a_one" 627 2 DE 1996,
 bN 1234 2035 217 "share_no_one" 631 2 DE 1996,
 bN 1239 2041 218 "highest_bits" 633 2 DE 1996,
 bK 1244 2047 219 "bits_at_places" 635 2 ["order","machine"] DE 1996,
 (1251,[{cls:=.type "dict",data:=.dict (Le [(73,2055,.ref 1250),(81,2056,.ref 1223),(82,2057,.ref 1228),(83,2058,.ref 1233),(84,2059,.ref 1238),(85,2060,.ref 1243)]).toArray 6}]),
 bK 1252 2068 221 "truths_maker" 638 1 ["operation"] DE 1996]
def aaP(P:Params):AJ:=[(1259,[{cls:=.type "dict",data:=.dict (Le [(36,2077,.ref 1260),(53,2080,.ref 1261),(54,2084,.ref 1262),(55,2088,.ref 1263),(56,2092,.ref 1264),(57,2096,.ref 1265),(58,2100,.ref 1266),(62,2104,.ref 1267),(78,2106,.ref 1268),(87,2109,.ref 1269)]).toArray 10}]),
 (1260,[{cls:=.type "tuple",data:=.seq ([.int 32 2078,.int 64 2079]:TyJ).toArray 0}]),
 (1261,[{cls:=.type "tuple",data:=.seq ([.int 8 2081,.int 16 2082,.int 32 2083]:TyJ).toArray 0}]),
 (1262,[{cls:=.type "tuple",data:=.seq ([.int 8 2085,.int 16 2086,.int 32 2087]:TyJ).toArray 0}]),
 (1263,[{cls:=.type "tuple",data:=.seq ([.int 8 2089,.int 16 2090,.int 32 2091]:TyJ).toArray 0}]),
 (1264,[{cls:=.type "tuple",data:=.seq ([.int 8 2093,.int 16 2094,.int 32 2095]:TyJ).toArray 0}]),
 (1265,[{cls:=.type "tuple",data:=.seq ([.int 8 2097,.int 16 2098,.int 32 2099]:TyJ).toArray 0}]),
 (1266,[{cls:=.type "tuple",data:=.seq ([.int 8 2101,.int 16 2102,.int 32 2103]:TyJ).toArray 0}]),
 (1267,[{cls:=.type "tuple",data:=.seq ([.int 16 2105]:TyJ).toArray 0}]),
 (1268,[{cls:=.type "tuple",data:=.seq ([.int 32 2107,.int 64 2108]:TyJ).toArray 0}]),
 (1269,[{cls:=.type "tuple",data:=.seq ([.int 32 2110,.int 64 2111]:TyJ).toArray 0}]),
 bK 1270 2123 224 "fits" 642 1 ["order"] Yd 2075]
def aaQ(P:Params):AJ:=[bK 1277 2130 225 "first_found" 644 2 ["operation","finders","find","action"] Yd 2075,
 bK 1284 2140 226 "made_lanes" 650 2 ["order","machine","action","make"] Yd 2075,
 bK 1291 2150 227 "made_truths" 656 2 ["order","machine","make"] Yd 2075,
 bK 1298 2159 228 "perform" 659 2 ["order","machine","lanes","truths","step"] Yd 2075,
 bK 1305 2172 230 "counted" 676 1 ["numbers"] U7 2170,
 bK 1312 2179 231 "told_parts" 678 1 ["machine"] U7 2170,
 bK 1319 2186 232 "do" 680 5 ["instruction","vectors","predicates","scalars","flags","machine"] U7 2170]
noncomputable def YK(l:List Obj)(i:Nat):Obj:=match l,i with
 |[],_=>default
 |o::_,0=>o
 |_::l,i+1=>YK l i
def AM:AJ->Nat->Obj
 |[],_=>default
 |[x],i=>YK x.2 (i-x.1)
 |x::y::l,i=>match Go i y.1 with
  |true=>YK x.2 (i-x.1)
  |false=>AM (y::l) i
def obF(P:Params)(i:Nat):Obj:=(match Go i 689 with|true=>(match Go i 309 with|true=>(match Go i 191 with|true=>(match Go i 113 with|true=>(match Go i 71 with|true=>AM (ob0 P) i|false=>AM (ob1 P) i)|false=>AM (ob2 P) i)|false=>(match Go i 237 with|true=>(match Go i 203 with|true=>AM (ob3 P) i|false=>AM (ob4 P) i)|false=>AM (ob5 P) i))|false=>(match Go i 539 with|true=>(match Go i 455 with|true=>(match Go i 385 with|true=>AM (ob6 P) i|false=>AM (ob7 P) i)|false=>AM (ob8 P) i)|false=>(match Go i 623 with|true=>AM (ob9 P) i|false=>AM (aaG P) i)))|false=>(match Go i 1059 with|true=>(match Go i 903 with|true=>(match Go i 829 with|true=>(match Go i 755 with|true=>AM (aaH P) i|false=>AM (aaI P) i)|false=>AM (aaJ P) i)|false=>(match Go i 977 with|true=>AM (aaK P) i|false=>AM (aaL P) i))|false=>(match Go i 1259 with|true=>(match Go i 1197 with|true=>(match Go i 1127 with|true=>AM (aaM P) i|false=>AM (aaN P) i)|false=>AM (aaO P) i)|false=>(match Go i 1277 with|true=>AM (aaP P) i|false=>AM (aaQ P) i))))
noncomputable def vr(k:Nat):List (Nat×Value)->Value->Value
 |[],v=>v
 |(j,u)::l,v=>match Go k j with
  |true=>v
  |false=>vr k l u
def mn0(k:Nat):FI:=[("__name__",165,vr k [(1,.str "lanewise.bits" 194),(13,.str "lanewise.machine" 299),(17,.str "lanewise.order" 439),(19,.str "lanewise.fills" 481),(31,.str "lanewise.masks" 576),(62,.str "lanewise.moves" 807),(68,.str "lanewise.pairs" 846),(111,.str "lanewise.products" 1204),(143,.str "lanewise.scalar_steps" 1454),(166,.str "lanewise.shapes" 1603),(197,.str "lanewise.texts" 1901),(211,.str "lanewise.told" 1996),(222,.str "lanewise.perform" 2075),(229,.str "lanewise.lanes" 2170)] (.str "__main__" 164)),("__doc__",166,.none),("__package__",167,.none),("__loader__",168,(.builtin "__main__.__loader__#opaque")),("__spec__",169,.none),("__annotations__",170,.ref 6),("__builtins__",171,.ref 4),("__file__",173,.str "/claim/cut.py" 172),("__cached__",174,.none),("_wall",193,.ref 21),("ones",202,.ref 28),("cut",210,.ref 35),("signed",218,.ref 42),("held",226,.ref 49),("held_signed",235,.ref 56),("count_ones",243,.ref 63)]
noncomputable def mn1(k:Nat):FI:=[("gather_bits",253,.ref 70),("has_bit",261,.ref 77),("split_words",273,.ref 84),("join_lanes",286,.ref 91),("by_groups",298,.ref 98),("ZERO",302,.int 1 301),("CARRY",304,.int 2 303),("Machine",438,.ref 192),("Order",480,.ref 213),("three_by_three",488,.ref 222),("funnel_left",497,.ref 229),("funnel_right",506,.ref 236),("look_up_bits",517,.ref 243),("blend",523,.ref 248),("repeat_scalar",531,.ref 255),("repeat_predicate",539,.ref 262)]
def mn2(k:Nat):FI:=[("count_up",545,.ref 267),("spread_predicate",551,.ref 272),("FILLS",568,.ref 273),("fill_maker",575,.ref 280),("bits_and",586,vr k [(87,.ref 566),(151,.ref 881)] (.ref 287)),("bits_and_masks",587,.ref 287),("bits_or",596,vr k [(89,.ref 573),(153,.ref 888)] (.ref 294)),("bits_or_masks",597,.ref 294),("bits_exclusive",606,vr k [(91,.ref 580),(155,.ref 895)] (.ref 301)),("bits_exclusive_masks",607,.ref 301),("bits_alike",616,.ref 308),("bits_not_and",625,vr k [(93,.ref 587)] (.ref 315)),("bits_not_and_masks",626,.ref 315),("bits_not",635,.ref 322),("add",644,vr k [(69,.ref 461),(145,.ref 860)] (.ref 329)),("add_masks",645,.ref 329)]
def mn3(k:Nat):FI:=[("shift_left",654,vr k [(95,.ref 594),(157,.ref 902)] (.ref 336)),("shift_left_masks",655,.ref 336),("shift_right",664,vr k [(97,.ref 601),(159,.ref 909)] (.ref 343)),("shift_right_masks",665,.ref 343),("lay_above",675,.ref 350),("PREDICATE_PAIRS",696,.ref 351),("lowest_of",705,.ref 358),("pair_predicates",715,.ref 365),("somewhere_in",721,.ref 370),("intersect",732,.ref 377),("predicate_to_scalar",740,.ref 384),("scalar_to_predicate",748,.ref 391),("flags_of_either",757,.ref 398),("flags_of_both",767,.ref 405),("place_of_lowest",776,.ref 412),("how_many",784,.ref 419)]
def mn4(k:Nat):FI:=[("MASKS",799,.ref 420),("mask_step",806,.ref 427),("compress",814,.ref 432),("lane_to_scalar",822,.ref 439),("scalar_to_lane",831,.ref 446),("MOVES",838,.ref 447),("move_step",845,.ref 454),("add_pairs",857,.ref 461),("subtract",866,vr k [(147,.ref 867)] (.ref 468)),("subtract_pairs",867,.ref 468),("multiply",876,vr k [(149,.ref 874)] (.ref 475)),("multiply_pairs",877,.ref 475),("upper_product",886,.ref 482),("upper_product_signed",895,.ref 489),("average",904,.ref 496),("apart",913,.ref 503)]
noncomputable def mn5(k:Nat):FI:=[("lesser",922,.ref 510),("greater",931,.ref 517),("lesser_signed",940,.ref 524),("greater_signed",949,.ref 531),("add_held_signed",958,.ref 538),("add_held",967,.ref 545),("subtract_held_signed",976,.ref 552),("subtract_held",985,.ref 559),("bits_and_pairs",995,.ref 566),("bits_or_pairs",1005,.ref 573),("bits_exclusive_pairs",1015,.ref 580),("bits_not_and_pairs",1025,.ref 587),("shift_left_pairs",1035,.ref 594),("shift_right_pairs",1045,.ref 601),("shift_right_signed",1054,.ref 608),("turn_left",1064,.ref 615)]
noncomputable def mn6(k:Nat):FI:=[("turn_right",1074,.ref 622),("distance_from_zero",1083,.ref 629),("negate",1092,.ref 636),("negate_by_sign",1101,.ref 643),("how_many_ones",1110,.ref 650),("zeros_above",1119,.ref 657),("rounded_product",1129,.ref 664),("PAIRS",1190,.ref 665),("pair_action",1197,.ref 673),("paired_lanes",1203,.ref 678),("FIELD",1207,.int 283 1206),("summed_by",1213,.ref 683),("distances",1219,.ref 688),("sum_distances",1227,.ref 695),("slide_distances",1238,.ref 702),("least_and_place",1247,.ref 709)]
noncomputable def mn7(k:Nat):FI:=[("byte_products",1253,.ref 714),("signed_products",1259,.ref 719),("add_to_d",1265,.ref 724),("add_byte_products",1271,.ref 729),("add_byte_products_held",1277,.ref 734),("add_products",1283,.ref 739),("add_products_held",1289,.ref 744),("sum_products",1295,.ref 749),("sum_byte_products_held",1301,.ref 754),("bytes_with_words",1307,.ref 759),("cut_out",1316,.ref 766),("field_product",1326,.ref 773),("field_inverse",1336,.ref 780),("field_products",1342,.ref 785),("by_rows",1348,.ref 790),("transform",1357,.ref 797)]
noncomputable def mn8(k:Nat):FI:=[("transform_inverse",1366,.ref 804),("carryless_product",1376,.ref 811),("carryless_products",1387,.ref 818),("same_before",1393,.ref 823),("products_of_52",1399,.ref 828),("add_lower_52",1405,.ref 833),("add_upper_52",1411,.ref 838),("PRODUCTS",1446,.ref 839),("product_maker",1453,.ref 846),("add_z",1464,.ref 853),("add_scalar_steps",1474,.ref 860),("subtract_scalar_steps",1484,.ref 867),("multiply_scalar_steps",1494,.ref 874),("bits_and_scalar_steps",1504,.ref 881),("bits_or_scalar_steps",1514,.ref 888),("bits_exclusive_scalar_steps",1524,.ref 895)]
noncomputable def mn9(k:Nat):FI:=[("shift_left_scalar_steps",1534,.ref 902),("shift_right_scalar_steps",1544,.ref 909),("just_z",1553,.ref 916),("SCALAR_PAIRS",1574,.ref 917),("pair_scalars",1585,.ref 924),("compare_scalars",1595,.ref 931),("scalar_step",1602,.ref 938),("pick",1610,.ref 943),("pick_of_two",1616,.ref 948),("pick_bytes",1625,.ref 955),("move_down",1635,.ref 962),("move_bytes_down",1645,.ref 969),("by_turns",1656,.ref 976),("turns_lower",1665,.ref 983),("turns_upper",1674,.ref 990),("by_own_groups",1683,.ref 997)]
noncomputable def aaR(k:Nat):FI:=[("interleave_lower",1691,.ref 1004),("interleave_upper",1699,.ref 1011),("group_of",1708,.ref 1018),("shuffle_groups",1719,.ref 1025),("insert_group",1729,.ref 1032),("extract_group",1737,.ref 1039),("turn_bytes_round",1743,.ref 1044),("expand",1756,.ref 1051),("neighbours",1767,.ref 1058),("add_neighbours",1776,.ref 1065),("subtract_neighbours",1785,.ref 1072),("add_neighbours_held",1794,.ref 1079),("widen",1802,.ref 1086),("widen_signed",1808,.ref 1091),("narrowed",1814,.ref 1096),("narrow",1823,.ref 1103)]
noncomputable def aaS(k:Nat):FI:=[("narrow_signed",1832,.ref 1110),("narrow_held",1841,.ref 1117),("narrow_signed_held",1850,.ref 1124),("SHAPES",1893,.ref 1125),("shape_maker",1900,.ref 1133),("among",1908,.ref 1138),("lies_between_two",1917,.ref 1145),("between",1923,.ref 1150),("alike",1929,.ref 1155),("standing",1935,.ref 1160),("QUESTIONS",1936,.ref 1161),("answer",1948,.ref 1168),("lowest_bytes",1956,.ref 1175),("up_to_zero",1963,.ref 1182),("texts_by_zero",1973,.ref 1189),("texts_by_length",1983,.ref 1196)]
noncomputable def aaT(k:Nat):FI:=[("TEXTS",1988,.ref 1197),("text_step",1995,.ref 1204),("stand",2006,.ref 1211),("stand_as_asked",2012,.ref 1216),("compare",2022,.ref 1223),("compare_signed",2028,.ref 1228),("share_a_one",2034,.ref 1233),("share_no_one",2040,.ref 1238),("highest_bits",2046,.ref 1243),("bits_at_places",2054,.ref 1250),("TOLD",2067,.ref 1251),("truths_maker",2074,.ref 1258),("WIDTHS",2122,.ref 1259),("fits",2129,.ref 1276),("first_found",2139,.ref 1283),("made_lanes",2149,.ref 1290)]
noncomputable def aaU(k:Nat):FI:=[("made_truths",2158,.ref 1297),("perform",2169,.ref 1304),("counted",2178,.ref 1311),("told_parts",2185,.ref 1318),("do",2197,.ref 1325)]
def mnA(k:Nat):FI:=mn0 k++mn1 k++mn2 k++mn3 k++mn4 k++mn5 k++mn6 k++mn7 k++mn8 k++mn9 k++aaR k++aaS k++aaT k++aaU k
def mnO(P:Params)(k n e:Nat):Obj:={cls:=.type "dict",data:=.dict (dS P ((mnA k).take n)).toArray e}
open PySem.W in
noncomputable def YL(f:Nat->Obj)(n:Nat):Nat->Nat->Nat->BT
 |0,_,_=>.nil
 |s+1,a,b=>match Go b n with
  |true=>.node (f b) (YL f n s (2*a) (a+b)) (YL f n s (2*a) (2*a+b))
  |false=>.nil
end Lw
namespace Lw
open PySem PySem.W PyProof.Rows
noncomputable abbrev PG:=PySem.Challenge.pw_lanewise_s01_do
def btO(P:Params)(i:Nat):Obj:=YK [boot_o_0 P,boot_o_1 P,boot_o_2 P,boot_o_3 P,boot_o_4 P,boot_o_5 P,boot_o_6 P,boot_o_7 P,boot_o_8 P,boot_o_9 P,boot_o_10 P] i
def obA(P:Params)(k n e m i:Nat):Obj:=match v4 i 3,v4 i 12,Go i 11 with
 |true,_,_=>mnO P k n e
 |_,true,_=>tbO m
 |_,_,true=>btO P i
 |_,_,_=>obF P i
def mH(k ns e m n tk:Nat)(w:World)(c:OsState):SharedT:=⟨YL (obA w.params k ns e m) n 12 1 0,n,{},⟨[]⟩,{},tk,c⟩
def Ou:Env:={scope:=PG.main.scope,locals:=mainNs,globals:=mainNs,cells:=[],code:=.ref 13,frame:=some 14}
noncomputable abbrev B0:List Frame:=[topFrame ⟨0,0,0,0⟩]
def mI(i m:Nat):TyM:=(PG.main.body.drop i).take m
def Gq(h:Nat)(S:World->OsState->SharedT)(i m:Nat)(p:Pos)(Z:World->OsState->SharedT)(r:Pos)(w:World):Prop:=∀c b,segRunT treeTable PG w 11 (some (.ref 6)) 1 h (S w c) (piecesOf (mI i m) Ou (.body b Ou) p B0)=some (.next,Z w c,.body b Ou,r)
def Gz(c:Nat)(S:World->OsState->SharedT)(i m:Nat)(p:Pos)(Z:World->OsState->SharedT)(r:Pos):Prop:=∀w,Gq c S i m p Z r w
def Ov{c:Nat}{S:World->OsState->SharedT}{i m:Nat}{p:Pos}{Z:World->OsState->SharedT}{r:Pos}(h:∀w:World,Gq c S i m p Z r (w.withFollow "special-get-raises" false))(h':∀w:World,Gq c S i m p Z r (w.withFollow "special-get-raises" true)):Gz c S i m p Z r:=λw=>byRow2 "special-get-raises" (P:=Gq c S i m p Z r) h h' w
def gq0:Gz 393 (mH 0 9 9 0 15 187) 0 14 ⟨0,0,0,0⟩ (mH 13 21 21 12 99 301) ⟨52,0,52,8⟩:=λw c b=>by kernel_rfl
def gq1:Gz 19 (mH 13 21 21 12 99 301) 14 2 ⟨52,0,52,8⟩ (mH 15 23 23 12 99 305) ⟨54,0,54,5⟩:=λw c b=>by kernel_rfl
def gq2:Gz 592 (mH 15 23 23 12 99 305) 16 1 ⟨54,0,54,5⟩ (mH 16 24 24 13 197 439) ⟨55,0,101,16⟩:=λw c b=>by kernel_rfl
def gq3:Gz 399 (mH 16 24 24 13 197 439) 17 8 ⟨55,0,101,16⟩ (mH 24 30 30 19 249 524) ⟨143,0,147,75⟩:=λw c b=>by kernel_rfl
def gq4:Gz 396 (mH 24 30 30 19 249 524) 25 13 ⟨143,0,147,75⟩ (mH 37 42 42 27 302 608) ⟨170,0,170,20⟩:=Ov (λw c b=>by kernel_rfl) (λw c b=>by kernel_rfl)
def gq5:Gz 259 (mH 37 42 42 27 302 608) 38 11 ⟨170,0,170,20⟩ (mH 48 53 53 34 351 676) ⟨187,0,189,46⟩:=λw c b=>by kernel_rfl
def gq6:Gz 396 (mH 48 53 53 34 351 676) 49 9 ⟨187,0,189,46⟩ (mH 57 62 62 42 406 768) ⟨212,0,215,46⟩:=Ov (λw c b=>by kernel_rfl) (λw c b=>by kernel_rfl)
def gq7:Gz 385 (mH 57 62 62 42 406 768) 58 11 ⟨212,0,215,46⟩ (mH 68 71 71 49 455 848) ⟨239,0,239,8⟩:=Ov (λw c b=>by kernel_rfl) (λw c b=>by kernel_rfl)
def gq8:Gz 372 (mH 68 71 71 49 455 848) 69 14 ⟨239,0,239,8⟩ (mH 82 84 84 60 532 950) ⟨263,0,264,50⟩:=λw c b=>by kernel_rfl
def gq9:Gz 371 (mH 82 84 84 60 532 950) 83 16 ⟨263,0,264,50⟩ (mH 98 94 94 70 602 1046) ⟨290,0,290,17⟩:=λw c b=>by kernel_rfl
def aaV:Gz 283 (mH 98 94 94 70 602 1046) 99 9 ⟨290,0,290,17⟩ (mH 107 103 103 79 665 1130) ⟨311,0,313,35⟩:=λw c b=>by kernel_rfl
def aaW:Gz 516 (mH 107 103 103 79 665 1130) 108 1 ⟨311,0,313,35⟩ (mH 108 104 104 79 667 1191) ⟨314,0,314,5⟩:=Ov (λw c b=>by kernel_rfl) (λw c b=>by kernel_rfl)
def aaX:Gz 376 (mH 108 104 104 79 667 1191) 109 15 ⟨314,0,314,5⟩ (mH 123 118 118 92 740 1284) ⟨358,0,359,104⟩:=λw c b=>by kernel_rfl
def aaY:Gz 379 (mH 123 118 118 92 740 1284) 124 13 ⟨358,0,359,104⟩ (mH 136 131 131 105 819 1388) ⟨406,0,413,98⟩:=λw c b=>by kernel_rfl
def aaZ:Gz 392 (mH 136 131 131 105 819 1388) 137 7 ⟨406,0,413,98⟩ (mH 143 137 137 110 847 1456) ⟨430,0,430,8⟩:=Ov (λw c b=>by kernel_rfl) (λw c b=>by kernel_rfl)
def aa0:Gz 391 (mH 143 137 137 110 847 1456) 144 18 ⟨430,0,430,8⟩ (mH 161 147 147 120 917 1554) ⟨457,0,458,12⟩:=λw c b=>by kernel_rfl
def aa1:Gz 401 (mH 161 147 147 120 917 1554) 162 10 ⟨457,0,458,12⟩ (mH 171 156 156 128 970 1646) ⟨489,0,494,91⟩:=Ov (λw c b=>by kernel_rfl) (λw c b=>by kernel_rfl)
def aa2:Gz 374 (mH 171 156 156 128 970 1646) 172 12 ⟨489,0,494,91⟩ (mH 183 168 168 140 1052 1757) ⟨534,0,543,16⟩:=λw c b=>by kernel_rfl
def aa3:Gz 333 (mH 183 168 168 140 1052 1757) 184 11 ⟨534,0,543,16⟩ (mH 194 179 179 151 1125 1851) ⟨569,0,570,84⟩:=λw c b=>by kernel_rfl
def aa4:Gz 400 (mH 194 179 179 151 1125 1851) 195 4 ⟨569,0,570,84⟩ (mH 198 182 182 153 1139 1909) ⟨575,0,576,32⟩:=Ov (λw c b=>by kernel_rfl) (λw c b=>by kernel_rfl)
def aa5:Gz 392 (mH 198 182 182 153 1139 1909) 199 14 ⟨575,0,576,32⟩ (mH 212 195 195 164 1212 2007) ⟨610,0,615,30⟩:=Ov (λw c b=>by kernel_rfl) (λw c b=>by kernel_rfl)
def aa6:Gz 325 (mH 212 195 195 164 1212 2007) 213 10 ⟨610,0,615,30⟩ (mH 222 204 204 172 1259 2077) ⟨640,0,640,8⟩:=Ov (λw c b=>by kernel_rfl) (λw c b=>by kernel_rfl)
def aa7:Gz 400 (mH 222 204 204 172 1259 2077) 223 9 ⟨640,0,640,8⟩ (mH 231 212 212 179 1319 2186) ⟨678,0,679,92⟩:=Ov (λw c b=>by kernel_rfl) (λw c b=>by kernel_rfl)
def aa8:Gz 35 (mH 231 212 212 179 1319 2186) 232 1 ⟨678,0,679,92⟩ (mH 232 213 213 180 1326 2198) ⟨680,0,684,63⟩:=λw c b=>by kernel_rfl
def qv:Program:={PG with main:={PG.main with body:=[Fu 232]}}
def QZ(P:Params):Heap:=absHeap (YL (obA P 232 213 213 180) 1326 12 1 0) 1326 {}
abbrev st0(w:World)(c:OsState):Shared:=⟨boot_heap w.params,#[],boot_drawn,boot_toks,c⟩
abbrev cB:Code:=.body (behindTheImports PG) Ou
abbrev Ye(w:World)(c:OsState):Shared:=(mH 0 9 9 0 15 187 w c).abs
abbrev s1(w:World)(c:OsState):Shared:=⟨QZ w.params,⟨[]⟩,{},2198,c⟩
def Yg(w:World)(c:OsState):topGo treeTable PG w 11 (some (.ref 6)) 12 (st0 w c) (topStub PG)=some (Ye w c,⟨denote treeTable cB,cB,⟨0,0,0,0⟩,B0⟩):=by kernel_rfl
def Q0(w:World)(c:OsState):segRun treeTable PG w 11 (some (.ref 6)) 1 1 (Ye w c) (blockOf (behindTheImports PG) Ou cB ⟨0,0,0,0⟩ B0)=some (.next,Ye w c,cB,⟨0,0,0,0⟩):=by kernel_rfl
def Yh(w:World)(c:OsState):topRun treeTable PG w 11 (some (.ref 6)) 2 (s1 w c) (restOf [] Ou cB ⟨680,0,684,63⟩ B0)=some (s1 w c):=by kernel_rfl
def U8(w:World):((boot_heap w.params).isNs mainGlobals&&(⟨[]⟩:Array GenState).size==0,(boot_heap w.params).objs.size,(boot_heap w.params).nsMap mainGlobals "__annotations__")=(true,11,some (.ref 6)):=by kernel_rfl
def U9:restOf (behindTheImports PG) Ou cB ⟨0,0,0,0⟩ B0=restOf (mI 0 14++(mI 14 2++(mI 16 1++(mI 17 8++(mI 25 13++(mI 38 11++(mI 49 9++(mI 58 11++(mI 69 14++(mI 83 16++(mI 99 9++(mI 108 1++(mI 109 15++(mI 124 13++(mI 137 7++(mI 144 18++(mI 162 10++(mI 172 12++(mI 184 11++(mI 195 4++(mI 199 14++(mI 213 10++(mI 223 9++(mI 232 1++[])))))))))))))))))))))))) Ou cB ⟨0,0,0,0⟩ B0:=by kernel_rfl
def Yi(w:World)(c:OsState):topRun treeTable PG w 11 (some (.ref 6)) (393+(19+(592+(399+(396+(259+(396+(385+(372+(371+(283+(516+(376+(379+(392+(391+(401+(374+(333+(400+(392+(325+(400+(35+2)))))))))))))))))))))))) (Ye w c) (restOf (mI 0 14++(mI 14 2++(mI 16 1++(mI 17 8++(mI 25 13++(mI 38 11++(mI 49 9++(mI 58 11++(mI 69 14++(mI 83 16++(mI 99 9++(mI 108 1++(mI 109 15++(mI 124 13++(mI 137 7++(mI 144 18++(mI 162 10++(mI 172 12++(mI 184 11++(mI 195 4++(mI 199 14++(mI 213 10++(mI 223 9++(mI 232 1++[])))))))))))))))))))))))) Ou cB ⟨0,0,0,0⟩ B0)=some (s1 w c):=cK (cN (gq0 w c _)) (cK (cN (gq1 w c _)) (cK (cN (gq2 w c _)) (cK (cN (gq3 w c _)) (cK (cN (gq4 w c _)) (cK (cN (gq5 w c _)) (cK (cN (gq6 w c _)) (cK (cN (gq7 w c _)) (cK (cN (gq8 w c _)) (cK (cN (gq9 w c _)) (cK (cN (aaV w c _)) (cK (cN (aaW w c _)) (cK (cN (aaX w c _)) (cK (cN (aaY w c _)) (cK (cN (aaZ w c _)) (cK (cN (aa0 w c _)) (cK (cN (aa1 w c _)) (cK (cN (aa2 w c _)) (cK (cN (aa3 w c _)) (cK (cN (aa4 w c _)) (cK (cN (aa5 w c _)) (cK (cN (aa6 w c _)) (cK (cN (aa7 w c _)) (cK (cN (aa8 w c _)) (Yh w c))))))))))))))))))))))))
noncomputable def nM:Nat:=12+(1+(393+(19+(592+(399+(396+(259+(396+(385+(372+(371+(283+(516+(376+(379+(392+(391+(401+(374+(333+(400+(392+(325+(400+(35+2)))))))))))))))))))))))))
def Yj(w:World)(c:OsState):topRun treeTable PG w 11 (some (.ref 6)) nM (st0 w c) (topStub PG)=some ⟨QZ w.params,⟨[]⟩,{},2198,c⟩:=by
 have h:topRun treeTable PG w 11 (some (.ref 6)) (393+(19+(592+(399+(396+(259+(396+(385+(372+(371+(283+(516+(376+(379+(392+(391+(401+(374+(333+(400+(392+(325+(400+(35+2)))))))))))))))))))))))) (Ye w c) (restOf (behindTheImports PG) Ou cB ⟨0,0,0,0⟩ B0)=some (s1 w c):=by rw[U9];exact Yi w c
 exact go_top (Yg w c) (piece_block (Q0 w c) h)
def aa9:Nat.ble nM 17300=true:=by decide+kernel
def U_(w:World):(fencedOpening treeTable PG w 17300).map (λs=>(s.heap,s.gens,s.drawn,s.toks))=some (boot_heap w.params,⟨[]⟩,boot_drawn,boot_toks):=boot_open (by kernel_rfl) (by decide) (λs=>by kernel_rfl) w
def l_a(w:World):staticsOk (importedModules PG.main.body) (boot_heap w.params) (QZ w.params)=true:=by kernel_rfl
def l_c(w:World)(c:OsState):gensDone (s1 w c)=true:=by kernel_rfl
def l_d(w:World):laidKept (boot_heap w.params) (QZ w.params)=true:=by kernel_rfl
def l_g(w:World)(c:OsState):tabsOk qv (s1 w c)=true:=by kernel_rfl
def l_e(w:World)(c:OsState):seen ((recsOf qv).map (·.name)) (ownsOf qv) [] {s1 w c with gens:= #[]}=expectedOf qv:=by kernel_rfl
def l_f(w:World)(c:OsState):(s1 w c).heap.bltView=bltViewBooted:=by kernel_rfl
def l_h(w:World)(c:OsState):(s1 w c).heap.accountedOkI (importedModules PG.main.body)=true:=by kernel_rfl
def l_i(w:World)(c:OsState):((s1 w c).heap.isNs mainGlobals&&(s1 w c).heap.isNs builtinsNs&&tablesOk qv (s1 w c).heap&&recOk [] (s1 w c)&&((s1 w c).gens.size==0))=true:=by kernel_rfl
def l_j(w:World)(c:OsState):pinSeenD qv (drecsOf qv) (s1 w c)=pinGoodD (drecsOf qv):=by kernel_rfl
def l_m(w:World)(c:OsState):wideSeen qv (s1 w c)=wideGood qv:=by kernel_rfl
def l_k(w:World)(c:OsState):plainSeenE qv (looseW qv g9) (s1 w c)=plainGoodE qv (looseW qv g9):=by kernel_rfl
def l_l(w:World)(c:OsState):plainSeenD qv g9 (s1 w c)=plainGoodD qv g9:=by kernel_rfl
def l_n(w:World)(c:OsState):clsSeenW qv g9 (s1 w c)=clsGoodW qv g9:=by kernel_rfl
def l_b(w:World):namesBound PG (QZ w.params)=true:=by kernel_rfl
def l_o(w:World)(c:OsState):(s1 w c).heap.keysOk (looseW qv g9) ((recsOf qv).map (·.name)) ((litsOf qv).map (·.1)) ((clssOf qv (looseW qv g9)).map (·.name))=true:=by kernel_rfl
def l_p(w:World)(c:OsState):US (pick (s1 w c).heap.objs.toList NV 0)=Oq:=by kernel_rfl
def Va(w:World)(c:OsState):NY (pick (s1 w c).heap.objs.toList NV 0)=true:=by kernel_rfl
def Vb(w:World)(c:OsState):QP (pick (s1 w c).heap.objs.toList NV 0)=true:=by kernel_rfl
def Vc(w:World)(c:OsState):QR (pick (s1 w c).heap.objs.toList NV 0)=true:=by kernel_rfl
def Vd(w:World)(c:OsState):UR (pick (s1 w c).heap.objs.toList NV 0)=true:=by kernel_rfl
def Ve(w:World)(c:OsState):UU (pick (s1 w c).heap.objs.toList NV 0)=true:=by kernel_rfl
def Vf(w:World)(c:OsState):QS (pick (s1 w c).heap.objs.toList NV 0)=true:=by kernel_rfl
def Vg(w:World)(c:OsState):UT (pick (s1 w c).heap.objs.toList NV 0) (pick (s1 w c).heap.objs.toList JF 0)=true:=by kernel_rfl
def Yk(w:World)(c:OsState):Ld (s1 w c)=(true,Oq):=by
 have h:Lc (pick (s1 w c).heap.objs.toList NV 0) (pick (s1 w c).heap.objs.toList JF 0)=true:=by unfold Lc;rw[Va w c,Vb w c,Vc w c,Vd w c,Vg w c,Ve w c,Vf w c];rfl
 unfold Ld;rw[h,l_p w c]
def left:LeftO PG qv g9 (λs=>recOk [] s) Ld (λ_=>(true,Oq)) 17300:=LeftO.of_pieces (H₀:=boot_heap) (H₁:=QZ) (gs₀:=⟨[]⟩) (gs₁:=⟨[]⟩) (d₀:=boot_drawn) (d₁:={}) (k₀:=boot_toks) (k₁:=2198) (m₀:=11) (ann:=some (.ref 6)) (M:=nM) U_ U8 Yj aa9 λw=>by
  funext os;have c:=l_i w os;simp only[aB]at c;obtain⟨⟨⟨⟨h,j⟩,o⟩,q⟩,r⟩:=c;have u:(staticsOk (importedModules PG.main.body) (boot_heap w.params) (QZ w.params)&&namesBound PG (QZ w.params)&&gensDone (s1 w os)&&laidKept (boot_heap w.params) (QZ w.params))=true:=by rw[l_a w,l_b w,l_c w os,l_d w];rfl
  have y:((s1 w os).heap.keysOk (looseW qv g9) ((recsOf qv).map (·.name)) ((litsOf qv).map (·.1)) ((clssOf qv (looseW qv g9)).map (·.name))&&(s1 w os).heap.accountedOkI (importedModules PG.main.body)&&(s1 w os).heap.isNs mainGlobals&&(s1 w os).heap.isNs builtinsNs&&tablesOk qv (s1 w os).heap&&recOk [] (s1 w os)&&(s1 w os).gens.size==0)=true:=by rw[l_o w os,l_h w os,h,j,o,q];exact r
  have B:openSeen qv g9 (importedModules PG.main.body) (λs=>recOk [] s) true (s1 w os)=openGood qv g9:=by unfold openSeen openGood;rw[l_e w os,l_f w os,l_g w os,l_j w os,l_k w os,l_l w os,l_m w os,l_n w os];exact congrArg (λb=>(expectedOf qv,bltViewBooted,b,true,pinGoodD (drecsOf qv),plainGoodE qv (looseW qv g9),plainGoodD qv g9,wideGood qv,clsGoodW qv g9)) y
  exact Prod.ext u (Prod.ext B (Yk w os))
noncomputable abbrev RW:=PySem.Challenge.rw_lanewise_s01_do
def sa:sreFenced PG.main=true:=by decide+kernel
def sb:((moduleNames PG.main.body).isEmpty||lookedIntoSs (moduleNames PG.main.body) PG.main.body)=true:=by decide+kernel
def sc:namesResolve PG=true:=by decide+kernel
def sd:PG.boundNames.all (λn=> !worldNames.contains n)=true:=by decide+kernel
def sf:noRoadLSs {strict:= !(importedModules PG.main.body).all cThrough.contains,foot:=none,bare:=(["vars","dir","locals"]:jR).filter (readsOut PG PG.main.body)} PG.main.body=true:=by decide+kernel
def sg:(namesMeet PG PG.main.body λ_ n=>attrL n)=true:=by decide+kernel
def sd1:looksOpen PG=true:=by unfold looksOpen;rw[sa,sb,sc,sd,sf,sg];rfl
def sd2:(PG.boundNames.contains PySem.Challenge.nm_lanewise_s01_do&& !startupNames.contains PySem.Challenge.nm_lanewise_s01_do&&specDef PG PySem.Challenge.nm_lanewise_s01_do PySem.Challenge.fa_lanewise_s01_do.length&&PySem.Challenge.fa_lanewise_s01_do.all Codec.fits&&PySem.Challenge.fr_lanewise_s01_do.ok)=true:=by decide+kernel
def sd3:opensWell PG=true:=by decide+kernel
end Lw
namespace Lw
open PySem PySem.W PyProof.Rows PySem.W.Codec
def Q1:RW.wellSaid=true:=by have j:=sd1;have h:=sd2;simp only[aB]at h;obtain⟨⟨⟨⟨a,b⟩,c⟩,d⟩,e⟩:=h;show(looksOpen PG&&PG.boundNames.contains PySem.Challenge.nm_lanewise_s01_do&& !startupNames.contains PySem.Challenge.nm_lanewise_s01_do&&specDef PG PySem.Challenge.nm_lanewise_s01_do PySem.Challenge.fa_lanewise_s01_do.length&&PySem.Challenge.fa_lanewise_s01_do.all Codec.fits&&PySem.Challenge.fr_lanewise_s01_do.ok)=true;rw[j,a,b,c,d,e];rfl
def hOk:(chainsOk qv&&opensWell RW.prog)=true:=by
 have:chainsOk qv=true:=by decide+kernel
 rw[this];exact sd3
def Yl0:TablesWhole.noTwice PG.main.scope=true:=by decide+kernel
def Yl:RW.prog.bare:=⟨rfl,rfl,rfl,rfl,rfl,by
 show PG.tablesWhole=true;unfold Program.tablesWhole TablesWhole.wProgram TablesWhole.wModule;rw[Yl0];decide+kernel⟩
def Ym:∃c,RW.pre c=true/\WData.layableAll c=true:=OpenSpec.nonEmpty_of Q1 (leastAll RW.args) (by decide+kernel) (by decide+kernel)
theorem AI{c:Str->Option Addr}{h:Heap}:∀{l:List Int} {us:TyJ},L2.Vals (l.map L2.V.int) us->ReadsAllW [] c h us (l.map WData.int) []
 |[],_,.nil=>.nil
 |i::l,_,.cons r t=>by obtain⟨k,rfl⟩:=r;exact .cons (as:=[]) (bs:=[]) (.int i k) (AI t)
theorem yK{P:Params}{h:Heap}:∀{l:List Int} {us:TyJ},WellAll P h us (l.map WData.int)->L2.Vals (l.map L2.V.int) us
 |[],_,w=>by cases w;exact .nil
 |i::l,_,w=>by
  cases w with
  |cons a b=>
   cases a;exact .cons ⟨_,rfl⟩ (yK b)
def Hy{l:List Int}(h:∀z∈l,0<=z/\z<=18446744073709551615):∃v:gd,l=iI v/\v.length=l.length/\∀y∈v,y<2^64:=by
 refine⟨l.map lm,?_,by rw[aP],λy j=> ?_⟩
 ·unfold iI;rw[bY];have:∀z∈l,((λ(n:Nat)=>(n:Int))∘lm) z=z:=λz c=>by have:=(h z c).1;show((z.toNat:Nat):Int)=z;omega
  exact(fG this).trans (List.map_id _)|>.symm
 ·obtain⟨z,c,rfl⟩:=iu.mp j;have:=h z c;omega
def in_list{n:Nat}{l:List Int}(h:(Codec.list n n (.int (KB 0) (KB 18446744073709551615))).within l=true):l.length=n/\∀z∈l,0<=z/\z<=18446744073709551615:=by
 have h':(inLen n n l&&l.all (inInt (KB 0) (KB 18446744073709551615)))=true:=h;rw[aB]at h';refine⟨?_,λz c=> ?_⟩
 ·have:(decide (n<=l.length)&&decide (l.length<=n))=true:=h'.1;simp only[aB,bG]at this;omega
 ·have:=inInt_iff.mp (c_.mp h'.2 z c);exact this
end Lw
namespace Lw
open PySem PySem.W PyProof.Rows PySem.W.Codec
def walk{d:DefRec}{X:List (Str×Expr)}(A:d.name="do"){XP:(qL)->Heap->Prop}:WalkOS qv g9 XP (λ_ h=>Laid h) RW d X λf vs=>PySem.call f vs:=by
 intro w s0 N mg mb G Y a o pm cd doc dV kV ho W e hD u k y B as E V m Z p;obtain⟨K,KT,R,C,H,F⟩:=Y;have c:=UW H F;rw[A]at u;have t:=u.symm.trans (mg_of R G.T.g c.gl.dd);obtain rfl:a=RB:=by cases t;rfl
 obtain⟨⟨i,vs,ps,xs,J,un⟩,L,I,rfl⟩:=(OpenSpec.pre_iff Q1 y).mp E;have j:((Codec.int (KB 0) (KB 18446744073709551615)).within i&&((Codec.list 128 128 (.int (KB 0) (KB 18446744073709551615))).within vs&&((Codec.list 8 8 (.int (KB 0) (KB 18446744073709551615))).within ps&&((Codec.list 16 16 (.int (KB 0) (KB 18446744073709551615))).within xs&&((Codec.int (KB 0) (KB 4294967295)).within J&&true)))))=true:=L;simp only[aB]at j;obtain⟨z,n2,n3,n4,n5,_⟩:=j;obtain⟨l2,b2⟩:=in_list n2;obtain⟨l3,b3⟩:=in_list n3;obtain⟨l4,b4⟩:=in_list n4;have S:0<=i/\i<=18446744073709551615:=inInt_iff.mp z;have b5:0<=J/\J<=4294967295:=inInt_iff.mp n5;obtain⟨s,rfl⟩:∃s:Nat,i=(s:Int):=⟨lm i,(B9 S.1).symm⟩;obtain⟨f,rfl⟩:∃f:Nat,J=(f:Int):=⟨lm J,(B9 b5.1).symm⟩;have hw:s<2^64:=by have h:((s:Nat):Int)<=18446744073709551615:=S.2;omega
 obtain⟨v,rfl,lv,bv⟩:=Hy b2;obtain⟨q,rfl,lq,bq⟩:=Hy b3;obtain⟨x,rfl,lx,bx⟩:=Hy b4;have M:WellAll w.params N.heap B [.int (s:Int),.list ((iI v).map WData.int),.list ((iI q).map WData.int),.list ((iI x).map WData.int),.int (f:Int)]:=Z;cases M with
 |cons w1 r1=>
 cases r1 with
 |cons w2 O=>
 cases O with
 |cons w3 Q=>
 cases Q with
 |cons w4 U=>
 cases U with
 |cons w5 r5=>
 cases r5;cases w1 with
 |int _ tw=>
 cases w5 with
 |int _ tf=>
 cases w2 with
 |list h2 a2=>
 cases w3 with
 |list h3 a3=>
 cases w4 with
 |list h4 a4=>
 have O:=yK a2;have Q:=yK a3;have U:=yK a4;rw[U6]at O Q U;refine enter_call (u0 (QX (P:=RW.prog) (w:=w) c R C G.T.g G.T.b G.T.builtins G.T.nolimit k hw (by omega) (by omega) (by omega) bv bq bx h2 O h3 Q h4 U) λr s' hq=> ?_);obtain⟨⟨l,za,n,rfl,hl,rr⟩,hK,D,hb⟩:=hq;refine⟨.inl ⟨.ref l,.list ((P3 (s:Int) (iI v) (iI q) (iI x) (f:Int)).map WData.int),_,rfl,λ_=>rfl,.list hl rfl rfl (AI rr),(OpenSpec.post_iff Q1 L _ _).mpr rfl,λh=>by cases h⟩,hK,D,hb⟩
def holds:RW.Holds:=holds_os (r:=RW) (q:=qv) (loose:=g9) (Xt:=λs=>recOk [] s) (XP:=λ_ _=>True) (Yf:=Ld) (Ya:=λ_=>(true,Oq)) (YP:=λ_ h=>Laid h) (N:=17300) left (λw s e=>QT e) (λw h h' l k=>l.keeps k) (λ_ _=>trivial) (λ_ _ _ _ _=>trivial) (by rfl) (by rfl) (by rfl) (λs e=>recFacts_of e) os_shapes Q1 hOk Yl Ym (walk rfl)
end Lw
theorem PySem.Challenge.cw_lanewise_s01_do_holds : PySem.Challenge.rw_lanewise_s01_do.Holds :=
 Lw.holds
