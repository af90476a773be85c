import PyProof.Rows.All
import KE.OsGo
import KE.BitLaws
import KE.KDictList
import KE.KLam
import KE.KNest
import KE.KSortKeyAny
import KE.KSortTupG
import KE.KTryMore
import KE.OsHead
import Open.SpecLaws
import OpenK.AllK
import OpenK.KOwn
import PyProof.Claim2Refuses
import PyProof.EqAt
import PyProof.EqKinds
import PyProof.ExcBaseAll.Exception
import PyProof.TupleCall
import Wide.All
import Wide.FinOn
import PySem.Challenge.RW_versestock_s01_next_row
set_option Elab.async false
set_option linter.all false
set_option maxRecDepth 100000
set_option maxHeartbeats 0
set_option hygiene false
abbrev aD:=@if_neg
abbrev aI:=@if_pos
abbrev bK:=@decide_eq_true
abbrev bW:=@decide_eq_false
abbrev dw:=@decide_eq_true_eq
abbrev ed:=@congrArg
abbrev il:=@if_true
abbrev iE:=@if_false
abbrev lR:=@of_decide_eq_true
abbrev mS:=@beq_iff_eq
abbrev mU:=@trivial
abbrev pw:=@and_true
abbrev yY:=@or_false
abbrev R6:=@decide_eq_false_iff_not
abbrev SA:=@ne_true_of_eq_false
abbrev J:=@rfl
open PySem renaming Addr->ab,Value->ae,Shared->aq,wpAny_bind->au,wpAny->az,Heap->aE,model->aM,sizeLine->aQ,World->aU,wpAny_pure->aW,Program->aY,Stmt->a9,Expr->bc,FuncData->bq,Around->bP,mainGlobals->b_,starEach->cO,Scope->dR,cellsFrom->fj,compEnvC->fk,IsPair->fo,cLine->fq,boot_len->f6,wpAny_field->f7,compareOp->f9,rawInt->f_,wpAny_mono->gG,backTo->g_,sysModules->iS,DictEntry->i_,NameKind->jN,mem_of_lookup->kh,pyNext->kr,wpAny_holding->k9,PyData->lg,wpAny_seqItems->lT,wpAny_truthy_bool->mN,codeAny->mT,wpAny_newObj_type->nU,attributeBase->n_,wpAny_letGo->oh,argBest->oo,atKey->ot,wpAny_tryCatch->pj,pushCells->pq,wpAny_call_entry->qC,binaryOp->qL,ZipApart->qM,getItem->qN,CmpOp->qO,wpAny_setField_rec->sU,codeAny_builtin->s_,behindInMarks->tj,plainId_quiet->tm,typeIs_str->tp,swapsWith->tu,holding->tw,notedBy->tz,valueAt->tD,Model->tF,bindL->tG,bindC->tH,wpAny_callSpecial?_slot->vq,foldedSetIterable->vz,wpAny_passesOwn->vF,ExceptHandler->vH,bootBuiltins->vK,sliceBounds->vM,Arguments->vN,compPost->vO,Keyword->vS,assign->vT,pyIter->vU,wpAny_Call_Name_kw->yC,wpAny_updateSeq->yL,sizeLine_eq->yR,richCompare->yS,builtinsNs->yT,wpAny_Name->yU,call_meets->yV,seqItems?->yW,bindArgs->yX,isTrue->yZ,Result->y4,wpAny_pyIter_zip->BI,wpAny_execs_nil->BK,pushCells_keeps->BL,wpAny_setField->BN,subscripted->BS,keywordEach->BU,assignEach->BV,inplaceOp->BW,backToKw->BX,setField->BY,newList->BZ,wpAny_typeNameOfWhole_keyiter->Ir,wpAny_typeNameOf_keyiter->IG,wpAny_nextOf_list_item->IP,wpAny_loadName_local->IZ,wpAny_dictEntries->Je,wpAny_pyIter_enum->Jf,letOwnedTupleGo->Jn,comprehension->Ju,wpAny_attempt->Jv,codeAny_mono->Jz,wpAny_mkInt->JA,reduceHash->JC,wpAny_rule->JE,eqIsQuiet->JH,seqIndex?->JI,getMethod->JJ,noteFrame->JK,updateSeq->JL,Operator->JM,wpAny_nextOf_list_end->R3,eqIsQuiet_byValue->Sl,wpAny_assign_Name->Sm,wpAny_isInstance->Sv,wpAny_execs_cons->Sw,frameOf->Sx,Within->SE,wpAny_dictEpoch->SF,recursionLimit->SM,dictSetDefault->SN,wpAny_newTuple->SO,wpAny_standAt->SV,wpAny_newList->SW,wpAny_of_eq->S6,storedH_new->S7,wpAny_call->S8,defaultsOf->S9,wpAny_updateSeq_pair->adk
open List renaming length_map->aC,mem_of_getElem?->bt,map_cons->bO,getElem?_eq_getElem->bX,mem_cons_of_mem->cp,mem_cons_self->cq,map_append->cH,getElem?_map->cJ,map_map->cP,length_append->dh,size_toArray->dN,length_cons->dP,take_add_one->fH,take_length->fZ,getElem_of_mem->gY,append_assoc->gZ,getD_eq_getElem?_getD->iB,map_congr_left->iD,mem_append_right->iQ,foldl_cons->i7,count_cons->i8,length_range->jI,length_take->jJ,nodup_nil->kj,flatMap_append->kW,flatMap_cons->kZ,nodup_append->k0,any_cons->k8,mem_append_left->lP,length_drop->lQ,replicate->lS,mem_cons->lU,zip_cons_cons->mM,length_filter_le->nO,cons_append->nW,mem_flatMap->nX,lookup_cons->nY,nil_append->pf,getElem?_set_self->qx,foldl_append->qz,filter_cons->qA,append_nil->qD,sum_cons->qE,lookup->qG,map->qK,take_of_length_le->sO,getElem?_eq_none->sQ,mem_singleton->sS,forIn_cons->sY,find?_cons->vC,range_succ->vD,all_cons->vG,map_nil->vI,getElem?_set_ne->yA,filterMap_cons->yB,any_eq_true->yD,not_mem_nil->yE,mem_filter->yH,length_zip->yI,mem_map->yP,take_append_drop->Bp,mem_of_mem_take->Bq,filter_sublist->Bs,map_dropLast->Bx,all_eq_true->BA,map_snd_zip->BB,getElem_mem->BC,length_nil->BE,nodup_cons->BF,of_mem_zip->BG,forIn_nil->BJ,drop_eq_getElem_cons->IA,drop_of_length_le->IH,length_replicate->II,length_dropLast->IQ,length_flatMap->IV,filter_append->I0,getElem?_drop->I_,any_eq_false->Ja,drop_drop->Jk,map_id->Jw,range'->Jx,eq_nil_of_length_eq_zero->Rr,isEmpty_eq_false_iff->Rv,getElem?_append_left->Rw,getElem?_zip_eq_some->Rx,getElem?_cons_zero->RC,range_succ_eq_map->RF,contains_iff_mem->RH,length_singleton->RI,pairwise_append->RN,mem_of_mem_drop->RP,count_cons_self->RQ,dropLast_subset->RR,getLast?_concat->RS,getElem?_append->RT,take_succ_cons->RY,toList_toArray->RZ,takeWhile_cons->R0,pairwise_map->R7,reverse_cons->R8,mem_range->So,drop_zero->Sr,foldl_nil->Ss,map_drop->SD,all_map->SG,any_nil->SI
open PySem.W renaming Frag->aF,findIn->cN,nsIn->dC,mg_none_of->jr,mg_of->jK,fnOf->km,plainGet->mO,hasDictIn->nT,kia_one->n8,plainOver->o8,keepIn->ph,emptyDict->qy,instObj->sW,codeIn->sZ,exmOne->yK,isFn->BM,lookIn->Jg,wellAll_cons_inv->Jj,cellsFrom_some->RB,plainGet_of->RL,callWith_K->RV,methodObj->R1,takerIn->R_,makesIn->Sa,kitOne->Sg
open Or renaming inl->aR,inr->gq
open Nat renaming le_refl->ba,le_trans->bf,zero_le->b7,lt_of_lt_of_le->dG,ne_of_lt->dY,lt_of_le_of_lt->eR,lt_irrefl->g8,ne_of_gt->g9,le_of_eq->mP,testBit_succ->nZ,le_of_lt->oa,lt_succ_of_lt->o_,lt_succ_self->qB,pow_le_pow_right->vu,le_of_not_lt->vA,le_add_right->vB,pow_succ->vJ,le_succ->vL,testBit_zero->yF,min_eq_left->yJ,pow_lt_pow_right->Br,add_sub_cancel->Bt,mod_eq_of_lt->BD,le_max_left->BH,add_mul->BR,add_lt_add_left->IX,le_of_succ_le->Jb,min_eq_right->Jd,testBit_and->Ji,mul_comm->Jr,sub_zero->Js,eq_of_testBit_eq->RU,add_le_add_right->RW,mul_le_mul_left->R4,lt_trichotomy->R9,zero_testBit->Se,le_max_right->Sf,min_le_right->Sh,testBit_xor->Sk,min_le_left->Sn,add_le_add->Su,lt_trans->SJ
open Kgz1 renaming parts->bG,Measure->bT,isCapital->k7,isVowel->lV,sounds->mQ,isPair->mR,liquid->qH,mute->qI,Kind->tq,fits->JB,padded->SQ,Bytes->SY
open PySem.Heap renaming lt_size->bR,get?_push_of_some->cG,get?_push_size->dM,size_push->iR,SameBut->kq,get?_update_other->Bo,get?_update_self->IJ,size_update->Jc,get?_none_of_le->RO
open Sum renaming inl->bY,inr->vQ
open Bool renaming eq_iff_iff->dH,and_eq_true->dO,false_ne_true->eQ,false_eq_true->ki,or_eq_true->n9,or_false->yN,true_and->yO,not_eq_true'->Bw,and_true->Jp,beq_eq_decide_eq->RJ,false_and->Sq,or_assoc->Sy
open PySem.Builtin renaming bitAnd->dQ,bitOr->pk,bitNot->Sj
open PySem.PassesOwn renaming never->dX
open PyProof.Rows renaming seqObj->gu,IntsAre->om,envOfC->oq,callWith_type1->vp,AllBare->vR,boot_any->IB,get?_update_seq->Jo,Subscript_->JD,boot_isinstance->Rp,boot_list->Ru,boot_min->Ry,boot_max->Rz,recsOf->RD,subscriptTail->SU
open PySem.PyData renaming eqv->i9,canLayAll0->o9,depthAll->pd,canLay0->vE,eqvAll->yM
open Ne renaming symm->ja
open False renaming elim->js
open Int renaming toNat->jt,toNat_natCast->vy,mul_left_comm->By,mul_add->BQ,mul_assoc->Jq,add_mul->SR
open PySem.SeqAt renaming shaped->jL,EqAt->pz
open PySem.Obj renaming mapSeq->jM,mapFields->qF,data_mapFields->Bu,isFreed_of_fields->RM
open Classical renaming byContradiction->kT,propDecidable->o6,choose_spec->sP,choose->sV
open PySem.F renaming plain_max_loop->kU,plainAttrs_list->nN,excBase_Exception->o5,slot_list_append->sM,type_list_append->sN,entry_max_loop->yz,slot_dict_keyiterator_next->Iw,slot_str_count->ID,type_str_count->IE,slot_enumerate_next->IT,slot_str_split->Jh,slot_zip_next->Jm,slot_dict_get->RE,args_str_split_2->Sb,entry_str_split->Si
open PySem.Str renaming ofString->k_,empty->qJ,join->JG
open PySem.Builtin.SmallTypes renaming ownedTupleIsFree->lO,nextOf->o4,ownedTupleHandOut->adj
open True renaming intro->lW
open PySem.Heap.SameBut renaming update->nQ
open Array renaming length_toList->nR,getElem?_toList->o7,getElem?_eq_getElem->sJ,toList->BO,getElem?_eq_none->IF,forIn_toList->IY
open ForInStep renaming yield->n6
open PySem.Txt renaming split->oj,endswith->Jt,join->JF,replace->SX
open PySem.Value renaming bool->pl,float->SK,type->SS
open PySem.Builtin.Str renaming strSliceIndices->qw,strKind->sR,partsBetween->Iy,occurrences->Iz,subAt->IU,strSub->RG
open Option renaming map_some->sX,bind_eq_some_iff->RA,some->Z
open PyProof.Rows.G renaming tupKeyC->tE
open PySem.Around renaming under_plainId->vt,in1_units->Bz,under->Sz
open PySem.Calls renaming spliced_cons->vx,callWith_builtin->Bn,spliced_nil->Bv,evalArgs_plain->IM
open Iff renaming rfl->vP
open PySem.StrLaws renaming sliceText->yy,occBody->yG
open PySem.W.Codec renaming inInt->yQ,inList->BP
open PySem.Builtin.Tuple renaming tupleHashOf->Bm,tupleExact->Iv
open PySem.Builtin.Builtins renaming bindParams->Ip
open PySem.Builtin.Slice renaming slicePlaces->Iq,sliceAdjust->Rq
open List.Pairwise renaming imp_of_mem->Iu
open BitVec renaming toNat_ofNat->IW
open Prod.mk renaming injEq->Jl
open PUnit renaming unit->Jy
open PySem.Builtin.List renaming listTooLong->Rt
open Option.some renaming injEq->RK
open List.cons renaming injEq->R5
open PyKgz2 renaming next_row->Sd
open PySem.Code renaming isFrame->SH
local macro_rules|`([abe,$a,$b,$c,$d,$e,$f,$g,$h,$i])=>`(λ{d a}I' nx=>by
 obtain⟨m',hm,w'⟩:=$a;have U:∀b∈t,∀o,$b :=λ b K o e=>let z:=$c;$d
 have hl:$e :=by rw[←hw8,zY]
 refine$f;·rw[←hw8]at e;exact($g).1
 ·obtain⟨o,e,_⟩:=$h;exact($i).2)
local macro_rules|`([abo,$a,$b])=>`(do
 let o←load $a
 match o.data with
  |$b N _=>
   pure N.toList
  |_=>
   unsupported "internal:collect")
local macro_rules|`([acr,$a,$b,$c])=>`(do
 let _←Ju [Cy,Q,$a,$b,W] $b X.env (firstIterPos [⟨tg,iter,$a,0⟩] W) (BZ []) false [ul,iter] (Z (vT (.Name y $c) X.env)))
local macro_rules|`([acN,$a])=>`(show az _ _ (do
 ret (←mkInt $a)) _ _ s from au (JA (aW [ff,_,_,h])))
local macro_rules|`([adI,$a,$b])=>`(λ z=>[ff,_,J,λ j d' U u=>by
 by_cases y:$a-i≤j;·exact$b j d' y u
 ·have:j=$a-1-i:=(by omega);subst this;rw[c]at u;rw[6,u,z]])
local macro_rules|`([Yt,$a,$b])=>`(forIn $a $b λ x r=>do
 let h←pyHash x;
 pure Jy;
 pure (n6 (r.push h)))
local macro_rules|`([abT])=>`(rest _ λ d B q1 q2=>⟨_,_,_,_,_,J,q1,q2⟩)|`([abS])=>`({s with heap:=h',gens:=g',drawn:=d',toks:=t'})|`([abR,$a])=>`(λ o1 o2 b o e g=>by rw[ar g,ar (aX e $a),ar g];exact e)|`([abQ])=>`(Builtin.Dict_items.ownsTuple "dict_keyiterator")|`([abP])=>`(λ z s10⟨yv,H10,I10,r10,acc,hD10,hz10,nx⟩=>?_)|`([abO,$a])=>`(au (Sv (T:="StopIteration") (b:=true) $a isSubtype_stop ?_))|`([abN,$a])=>`(DR (l:=[(a,t)]) (ys:=oj a b) (k:=s.toks) I ($a).symm c h)|`([abM])=>`([Cr,a]∧∃N,KT H Y N∧h.DictOfH (qX P w) a N)|`([abL,$a,$b])=>`(⟨v,rest,e,l.mono $a (λ o=>$b $a a o),$b $a r rest i⟩)|`([abK])=>`((((jO m.feet t).take (c.1-1)).foldl (·+·) 0+c.2-1))|`([abJ])=>`((((jO r Y).take (c.1-1-(f+1))).foldl (·+·) 0+c.2-1))|`([abI,$a])=>`(aK (pO nd J (i:=1) (aR J) $a Qb) (aN (pO nd J (i:=2) (aR J) bu CU)))|`([abH,$a])=>`(∃m:[bu],be xs m∧$a s.heap a m.toArray∧xs.length≤aQ)|`([abG])=>`(hRR D s3.heap.objs.size s6 m V I7 qq hn (I3.oE (ba _) nC))|`([abF])=>`(λ _ _ _ _ _ _ W X=>match W,X with|[_,_,_,_,_,_],_=>J)|`([abE,$a,$b])=>`(∀(i:Nat)(k:Tr)(v:V),Y[i]?=Z (k,v)→∃q,($a)[i]?=[b8,q]∧eZ $b k q)|`([abD])=>`(⟨I.K,I.fx,I.len,I.tg,I.u_,I.Ap,I.en,I.Ul,I.my,I.nv⟩)|`([abC,$a])=>`((∃N,ax $a H p N∧n=N.length)∨∃N,bM $a H p N∧n=N.length)|`([abz])=>`(KL w h r _ ⟨c,T⟩ (λ _=>mU) λ z=>by unfold eU;rw[z];rfl)|`([aby,$a,$b,$c])=>`(∀(o1 o2:HO)(b:ab)(o:HO),$a b=Z o→b≠p→ag (ag (ag $a p o1) $b ($c [])) p o2 b=Z o)|`([abx,$a,$b])=>`(⟨"str",_,F.plainAttrs_str,$a,$b,tp _ _ _,(λ _ e=>nomatch e),Bn J (IM (vx ?_))⟩)|`([abw])=>`(@dite _ (∃e,fX C d7 H a e) (o6 _) (λ h=>nV ((sV h).1&&&T)) λ _=>.bh)|`([abv,$a])=>`(callWith_kw (bj $a λ us s1⟨vs,H1,I1,r,q⟩=>?_) hbl [fy,hbl])|`([abu])=>`(match H p with|Z (.ins _ _ fs)=>(fs.lookup ("size":Str)).getD .bh|_=>.bh)|`([abt,$a,$b,$c])=>`([Uj,$a,[],w,[⟨kindOf (joined w $b),true⟩]]++($c λ w=>⟨kindOf w,false⟩))|`([abs])=>`(((P.push i).update a (qF (·.setIfInBounds 1 (Value.ref P.objs.size)))))|`([abr,$a,$b,$c,$d])=>`(call_meetsIn RE p.typeIs PySem.F.entry_dict_get (PySem.F.args_dict_get_3 _ _ _) ($a ($b X.prog X.w) a $c c r) $d)|`([abq])=>`(λ v H2=>∃m,M m∧W m [[b8,F.co],[b8,e.kn],Z (nV T),Z (nV l),Z (nV r),Z v] H2)|`([abp,$a])=>`([Z [lC,W],Z [lC,l],[b8,va],[b8,M],Z (nV (gA l)),[b8,D],$a,none,none,none,none])|`([abn])=>`(λ a A outer s H U Q E u h=>?_)|`([abm,$a])=>`(∀j,j∈c.cs→Vs.cF $a j<c.cs.count j+b j→j=k)|`([abl])=>`(∀n x,S[n]?=Z x→[A5,F.ks,ay n]=kf (d_ 0 x)∧(mG S most)[n]?=Z (Vs.b0 F.ks (ay n)))|`([abk,$a,$b,$c,$d])=>`(⟨λ i H=>$a,λ i H x m=>m=H∧∀N,$b K H a N→N[$c]?=Z x,$d⟩)|`([abj,$a])=>`(∀(kV p z:ae)(A:[sB])(j ct:ae)(W:[bu]),W.length=V.length→yX $a ⟨W,[]⟩=pure (V.zip W))|`([abi])=>`(λ c O=>f c (by have j:c=z∨c=TO∨c=n∨c=m:=[aB,O];rcases j with q|q|q|q<;>simp[q]))|`([abh,$a,$b,$c])=>`(wpAny_comprehension_free (use:=Y) rfl hs (Dy $a) ok.kind (λ y hy e=>by rw[ok.uniq y hy,e]) (bj $b λ xv s1 hx=>bj hx $c))|`([abg])=>`(⟨m',hm,i+1,a,(I'.wo (pins:=[])).weak hl (λ j v e=>?_),T.keep _ _ _ S λ b K o e=>(U b K o e).1,λ b K=>?_,w'⟩)|`([abf])=>`((D.zip B).filter λ x=>! iy d x.2)|`([abd,$a])=>`(.fields #[.int $a t,.int O u,.int 1 v])|`([abc,$a])=>`(∀(i:Nat)(e:KE),g[i]?=Z e→∃k,($a)[i]?=Z k∧k.kn=e.kn∧k.cl=e.cl∧Vs.eG 12 e.g k.g)
local macro_rules|`([acy,$a])=>`(λ x y H Q=>∃d e,[cj,Dp K H x d,Dp K H y e,jL d=true,jL e=true,Q (.bl $a) H])|`([acx])=>`(∀{σ':St}{a:Hp}{d:aq},Inv [DO] [] σ' a d→([zI,t,a])→[Pi,[DO],[],a])|`([acw,$a])=>`([Pg,T,λ U c=>∃a b N G,U=[(.ref a),.ref b]∧ax K c a N∧ax K c b G∧R ($a K a b) c])|`([acv])=>`(λ y hy e=>by rw[154,ok.free y hy e,I.ok.has _ (.inl k),I.ok.has _ (.inr k)])|`([acu,$a])=>`(∀p∈$a,[cj,[gX,p.1]=Z p.2,H p.1=none,[FM,p.1],p.1∉X.fs,∀v,p.2.data≠.cell v])|`([act])=>`(ud B [OU] (vd B m sc d3) [] E0 (cv 0) (dc (cv 4) (dc (h9 (rz K) (tC (.ref ma)) (cv 5)) (dc (tC (.bl false)) gw))))|`([acs])=>`(Jv [Yl,v.typeIs,Iw,F.entry_dict_keyiterator_next,?_,F.args_dict_keyiterator_next_1 _])|`([acq,$a,$b,$c,$d,$e])=>`(kL x _ _ $a $b ⟨$c,by rw[19,n+1≤$d],by rw[19,r≤$e],⟨by rw[19,$d≤1001],by rw[19,$e≤1100]⟩,?_⟩)|`([acp,$a])=>`($a s3 (ag M D (.aj [])) s3.heap.objs.size [Ye] t)|`([aco,$a])=>`([LQ,∃(o:Obj)(T:Array i_)(B:Nat),[cj,[gX,d]=Z o,o.ExactDict,[Ku,T,B],T.size=Y.length,∀(i:Nat)(en:i_),T[i]?=Z en→$a]])|`([acn,$a])=>`(by rw[96];obtain⟨d,e,a,R,g,se,q⟩:=h;obtain⟨c,b⟩:=Dp.reads I d x v a L;obtain⟨S,f⟩:=Dp.reads I e y u R A;exact$a b f g se o [jp,.bl _,H,I,q])|`([acm])=>`(λ{σ' a d}I' hn b K=>⟨hn b K,(I'.ok.q_ b K).1,I'.ok.ra b K,.inl K,λ x c e=>(I'.ok.q_ b K).2 x c e,λ p hp=>[gh,show p∈[Fu,ab×Obj]++[]from hp,[al]]⟩)|`([acl,$a])=>`(λ b V q=>⟨#[],by rw[ar $a,q];simp⟩)|`([ack,$a])=>`(⟨B.se.mono $a,B.kb.mono $a,B.lt,B.st⟩)|`([acj,$a])=>`(gG $a (λ x s'' he=>?_) λ _ _ hF=>hF.elim)|`([aci])=>`([oD,"getset_descriptor.__get__"])|`([ach])=>`(λ ll' las' H' r1 r2 r3 r4 r5 r6=>?_)|`([acg])=>`(λ p q=>¬(p.b=q.b∧p.l=q.l∧p.r=q.r))|`([acf])=>`(show[QB,a,m.toArray]from p)|`([ace])=>`(⟨λ b=>?_,λ j y a=>?_,λ j U=>?_⟩)|`([acd])=>`([ar,r.length]::r.map (λ x:Nat=>[ar,x]))|`([acb,$a])=>`(Calls.Name_function_global I.ok.kind j $a a)|`([aca,$a,$b,$c])=>`(∀{U:[aw]}{a:List $a},Paired ($b H) U a→eI H (dJ (a.map $c)) U)|`([ab_,$a])=>`($a (.ListComp Q [⟨b,iter,X,0⟩] l W) 0 f t env)|`([ab9])=>`(F d (λ z=>by rw[z,j]at q;cases q) (p d _ q))|`([ab8])=>`(bj (V B s w H _ I h) λ d Y⟨e,r,n⟩=>?_)|`([ab7])=>`(λ b o e zz=>by rw[zz,A.free]at e;cases e)|`([ab6,$a,$b])=>`(IP (g.extBut $a D.i1z) (O.extBut $a D.l1z) a $b)|`([ab5])=>`(bj (ha B s w H _ I h) λ c Y⟨d,r,n⟩=>?_)|`([ab4,$a,$b])=>`(∀{N:[aw]}{W:[bu]}(n:Nat),be N W→be $a $b)|`([ab3])=>`([(1,lead s,(eA s).dropLast),(2,lead s,eA s)])|`([ab2])=>`(∀o i,BS b false o i=operate [o,i] (qN o i))|`([ab1,$a])=>`($a p O.st (ay:=ay) (row:=t) λ m hm=>O.lt m (C m hm))|`([ab0,$a])=>`(∃L∈$a,Vs.pE F.m L ((x.map ay).map (Vs.shapeAt F.ks)))|`([abZ,$a,$b])=>`(I.laid (t':=s.toks) (o:=$a $b) (λ b i q=>cG _ q) (ba _) ?_)|`([abY,$a])=>`(codeAny_compStart_list $a (T.self X.A 0 _ _ _ st4 $a))|`([abX,$a,$b])=>`([cI,P.Nodup,P[i]?=Z x,U[i]?=Z v,$a,$b f (P.zip U) m x=Z v])|`([abW,$a])=>`(∀g∈$a,∀n∈g.nums,S[n]?=Z g.sh∧u[n]?=Z g.sz)|`([abV])=>`(J3 o (λ l=>jQ m l (o.map gK)) (sp,p,w) fm (H fm))|`([abU,$a])=>`(∀{N:[aw]}{W:[bu]},be N W→N.all oJ=true→$a)
local macro_rules|`([ade,$a,$b,$c,$d])=>`(λ x U H Q=>∃l N y,[cj,x=[lf],U=$a,H l=Z (.aj N),$b,Q $c (ag H l (.aj $d))])|`([add,$a])=>`([OF,"len",∃x n,N=[x]∧Lz $a x H n∧Q (.int n) H])|`([adc])=>`(((l.map ay).count j)=[fz,l.filter,λ i=>ay i==j])|`([adb,$a,$b])=>`(ah.aT (o:=.tup [nV (sv l),(V.ref r)]) [zA,[j0,$a,r,$b]] ha)|`([ada])=>`(["hits","runs","spoiling","hit","left","bit"])|`([ac_])=>`(Pj M (f:=sp.1) (r:=sp.2.2.1) [oM,h.l])|`([ac9,$a,$b,$c])=>`(mT [Ct] X.A (.compLoop [Cy,$a,$b,l,f] 0 (.ref it) (.ref D) ce) $c s4)|`([ac8])=>`(λ A i s Q E L h=>let⟨[eD,R],_⟩:=L;Jf R h)|`([ac7])=>`(aV ⟨_,J,_,J,_,J,[Ak,4,J],λ a ha=>k a ha⟩)|`([ac6,$a,$b,$c])=>`(∃F:[dE],$a=$b∧ah H g∧g lw=Z (.aj ([xY].map gQ))∧vc g d [Yh,$c])|`([ac5,$a,$b])=>`(q∈$a m k e sp↔∃c r,c::r∈[Kk,cS,sp]∧[jb,fits k c,$b])|`([ac4,$a,$b,$c])=>`(∀(i:Nat)(v:ae),($a)[i]?=Z v→∃b p,($b)[i]?=Z b∧($c)[i]?=Z p∧v=[j5,b])|`([ac3,$a])=>`(I3.zA (ch:=t) I6.os I6.base I6.aH I6.bare [UJ,($a).1])|`([ac2,$a])=>`(∀{s:[io,ae]}{m:(Str→[iH,ae])},(∀v,(x,v)∉s)→$a f s m x=m x)|`([ac1,$a,$b])=>`([OF,$a,∃i j,N=[.int i,.int j]∧Q (.int (if$b then j else i)) H])|`([ac0])=>`([ap,F b (λ z=>by rw[z,j]at e;cases e) (p b _ e),e])|`([acZ,$a])=>`([Kw,j,d]∧ia (Zh (aP F D) d) l [tX,t]∧yn F ay t L $a)|`([acY])=>`(fk l (fj [ge] l.names [Os]) s.heap.objs.size X.env)|`([acX])=>`(0+[OS]+((jO r Y).take (c.1-1-(f+1))).foldl (·+·) 0+c.2)|`([acW,$a])=>`((∃N,ax $a H p N∧k=! N.isEmpty)∨((∃N,bM $a H p N∧k=! N.isEmpty)∨[LO,p,.dK Y,k=! Y.isEmpty]))|`([acV,$a,$b,$c,$d])=>`([Yz,⟨λ b o e n K f=>?_,λ b o e n K f=>?_,I.base.free,λ b o e f=>?_,I.base.dZ,I.base.jV,I.base.jW⟩,⟨$a,$b,λ j y v' e1 e2 e3=>?_⟩,$c,[qp],L $d G,[aB,I.len]])|`([acU,$a])=>`(λ U H Q=>∃(a:ab)(f:[bv]),U=[gt,a]∧ax K H a [Pq]∧$a)|`([acT])=>`(N-(N&&&Vs.bS g.bl)+[Yp,N,Vs.bS,g.bl,g.place+g.count-1])|`([acS,$a,$b])=>`([md,I.Ms (t':=s.toks) (ch:=$a) (λ c o d q=>[Yi,hk,d [bn,W]]) $b])|`([acP,$a])=>`(∀(l:ab)(m:Hp),ia [Eh,b] l $a→bJ F 0 H b m b→Q [lf] m)|`([acO,$a])=>`(∃(j:Nat)(k:Vs.Kd),j<i∧ks[j]?=Z k∧k.place≤$a∧$a<[rh])|`([acM,$a])=>`([Yl,hT,IT,F.entry_enumerate_next,$a,F.args_enumerate_next_1 _])|`([acL,$a,$b])=>`(λ j=>by simp only[$a:term,Sk,$b:term];cases N.testBit j<;>cases((bS x).testBit j)<;>rfl)|`([acK,$a])=>`([DR,W.once,λ a ha b K=>by simp at K;subst K;rw[54];exact$a ha])|`([acJ,$a])=>`([Ak,2,by show(! dD $a)=true;rw[aH];rfl])|`([acI,$a])=>`(λ x y H Q=>∃p N i v,[cj,x=[iv],y=.int i,$a K H p N,kB N i=Z v,Q v H])|`([acH,$a,$b])=>`(free $a (by rw[$b:term];intro z;injection z with z;rw[8,z,[bj]]) (by rw[$b:term];nofun))|`([acG])=>`(⟨j,F.bl,Vs.iF u,by rw[19,F.place≤_],by rw[19,_<F.place+_]⟩)|`([acF,$a,$b,$c])=>`(eH s.heap $a o→∃e:[ii,Nat],$b∧([rc,min U.length o.length].all e&&U.length==o.length)=[aK,$c=$a])|`([acE])=>`(λ p q=>(u p=u q→[fz,D,p]≤u q→cg sz (D p)≤E q→eF bC (D p) (r q)))|`([acD,$a])=>`(λ U H Q=>∃(a:ab)(S:[kw]),U=[gt,a]∧ax K H a (S.map V.bl)∧Q (.bl ($a id)) H)|`([acC,$a])=>`([abk,∃N x,$a K H a N∧N[i]?=Z x,$a,i,λ i H=>∃N,$a K H a N∧[Id,i]])|`([acB])=>`([[ca],"known","barred","left","room",[Cb],"size",[mj],"target","kind","found"])|`([acA])=>`(λ S N=>by obtain⟨O,f,k,i,A⟩:=N;rw[E]at i;rw[6,i,⟨_,f,k,a,A⟩])|`([acz,$a,$b])=>`([LO,$a,.dT Y,[OT]∧∀p∈Y,∃L e,[C5]∧e∈a∧p=($b,(V.ref e.kn))∧oU F L e])
local macro_rules|`([adW,$a,$b,$c])=>`(∀(B:[bF])(s:aq)(w:St)(H:Hp)(x:V)(v:ae)(Q:$a),([iw])→(bw x v→(r x H Q→[iZ,$b v,$c,s])))|`([adV,$a])=>`(dA GS hr1 J DS.mg DS.fn.kp DS.b .nil hP (ak [QC,ni] [ug,fy,$a]))|`([adU,$a,$b,$c,$d])=>`(∀base:aE,[cI,K.In base,base.Ns b_ mg,base.Ns yT $a,base.NoLimit,([EI,$b,$c,base.get? b=Z o])→$d])|`([adT,$a])=>`(∀(i:Nat)(v:ae)(h:aE)(G:Nat),P i v→($a→az [pr] A.in1 [XF] (MQ s h) [Ay] [pN,h]))|`([adS,$a])=>`(∀(B:[bF])(s:aq)(w:St)(H:Hp)(D:Ends),(([iw])→(t D w H→[iZ,$a L X.env,SP X B D,s])))|`([adR,$a])=>`(∀(s:aq)(w:St)(H:Hp)(D:Ends),(Inv X [] w H s→(t D w H→[iZ,$a L X.env,SP X [] D,s])))|`([adQ])=>`(λ b K=>by have hlt:=sz b K;rw[55,⟨[wJ,?_,f2 b K],by rw[12,h3,iR,o_ hlt]⟩,ar [cm,hD,dY hlt],(f2 b K).1])|`([adP])=>`((eE s=true→lead (cut s)=lead s∧eA (cut s)=(eA s).dropLast)∧(eE s=false→cut s=s))|`([adO,$a,$b])=>`(∀(j:ae)(A:bP)(outer:[wK])(s:aq)(H:Hp)(U:(List V))(Q:VK)(E:XK),cy k (A.deeper [DL,$a,aZ L,j])→$b)|`([adN,$a])=>`([TM,$a,∀d b,[Mj,d,b],∀x b,($a).j1 i H x b→g x w b [NJ,F,N]])|`([adM,$a,$b])=>`(∀(B:[bF])(s:aq)(w:St)(H:Hp)(x y:V)(v u:ae)(Q:VK),[cI,[iw],bw x v,bw y u,$a x y H Q,[QD,$b]])|`([adL])=>`(λ x N H Q=>∃a b,[cj,x=.str a,N=[.str b],[aX,b.length==0],a.length+2≤aQ,DQ (oj a b) H Q])|`([adK,$a])=>`(⟨λ i H=>∃(N G:(List V))(x y:V),[IO,ax K H a N,b,G,N[i]?=Z x,G[i]?=Z y,[aX,dD y]],λ i H v m=>$a,(λ i H=>∃N G:[aw],ax K H a N∧ax K H b G∧(N.length≤i∨G.length≤i))⟩)|`([adJ,$a,$b])=>`(λ U H Q _=>∃(a r:ab)(T:(List Nat))(I:[cQ])(D:[Do]),[lk,U=[[bi],.ref r],H a=Z (.aj (aJ T)),T.length≤aQ,$a,∀h∈T,Ee I D h,[NW,H],$b])|`([adH])=>`({s3 with heap:=pq (s3.heap.push [WW]) l.names})|`([adG])=>`(∀(B:[bF])(s:aq)(w:St)(H:Hp)(x:V)(N:(List V))(v:ae)(W:[bu])(Q:VK),[cI,[iw],bw x v,be N W,r x N H Q,[QD,call [oD,c] (v::W)]])|`([adF,$a,$b])=>`(∀(X:Cx),[cI,X.prog=P,X.w=w,X.K=K,X.calm=true,∀(i:Nat)(B:[bF])(s:aq)(a:St)(H:Hp)(E:[aT]),[cI,Inv X B a H s,[Pi,X,B,H],q i s.heap,$a i H,$b]])|`([adE,$a])=>`(λ U H Q _=>∃(b:[bp])(se kb a:ab)(ay:[cQ])(n:Nat)(t:(List Nat)),[lk,U=[.ref se,[bi]],bA F H b,[Vd,b],ax K H a (aJ t),[Ky,1000],[yj,t],$a])|`([adD,$a,$b])=>`(∀(Q:[aT]),((∀(I:ab)(g:aE)(G:Nat)(fp wr:(List ab))(St:[wz,aE]),[cI,[YF],St 0 g,∀b∈fp,b<g.objs.size,[uf,[Gg]],(∀b∈wr,[zX]=none)→Q (.ref $a) [pN,g]])→az [pr] A.in1 (vU $b) Q E s))|`([adC,$a])=>`(∀P:Array Int,P.toList=$a→Q P [As,lj t])|`([adB])=>`(PySem.W.specialIn K [QW] "__get__")|`([adA])=>`([Ys,e,q.1,λ w=>q.2 (nF.mpr (.inr w))])|`([adz])=>`([J9,v<0,max (v+[cY]) 0,min,v,[cY]])|`([ady])=>`(λ z=>by subst z;rw[aw]at Y;cases Y)|`([adx,$a])=>`($a (i:=i) [Av,nd].2 (by rw[72]) (by rw[103]) C)|`([adw,$a,$b,$c])=>`([jp,.bh,_,I.Du (its':=m++$a) $b e [al] (r.append $c) ?_,q])|`([adu])=>`([Cd,[rD,p1],.Constant (.int 1) jj p2,p3])|`([adt])=>`(λ i h S L k=>L.at λ o e=>(k q [al] o e))|`([ads])=>`(∀g∈m.feet,g.length≤4∧(∀y∈g,y≠[]∧y.length≤4))|`([adr,$a])=>`(∀(l:List ae),(∀v∈l,∃q,v=[j5,q])→be (l.map $a) l)|`([adq,$a,$b])=>`(∀(b:Bool)(m:Hp)(D:[bp]),$a→(b=true↔$b)→Q (.bl b) m)|`([adp,$a,$b])=>`(bB [Mi,IL.ma,GL,M,G.TL.mg,IL.b,pv 3,$a,ak $b aB])|`([ado])=>`(HO.tup [(V.int 0),(V.int 0),(V.str ""),V.bl [Py]])|`([adn])=>`(λ b u e z=>by have q:=(F b z).1;rw[34,q])|`([adm,$a,$b])=>`(Ju [Cy,$a,$b,l,f] l X.env pos' (BZ []) false [ul,iter] Y)|`([adl,$a,$b])=>`([rf,t,λ N a=>$a∧∀p,a p=none→Q [iv] (ag a p $b)])|`([adi])=>`(λ j=>match j with|0=>[aK,a=b]|j+1=>e j)|`([adh,$a])=>`(rv.get (i:=i) (x:=(V.ref ($a)[i])) [jh,cJ,bX g])|`([adg])=>`(aI [db,[j5,T]!=Value.none,true,[al]])|`([adf])=>`(λ x A=>by obtain⟨i,_,rfl⟩:=[bE,A];rfl)
local macro_rules|`([aez,$a,$b])=>`(λ B s w H Q I h=>wpAny_Dict_empty [Xb,I.laid (a:=s.heap.objs.size) (o:=$a []) (t':=s.toks) (λ _ _ q=>cG _ q) (ba _) ($b s.heap I.wM),h])|`([aey,$a])=>`($a∈codes∧($a).1=o p∧(dec bC sz cM (o p) ($a).2.1 ([zP],0)).1=l p∧t p=256-mW sz n (l p)-($a).2.2)|`([aex,$a])=>`([rG,q.1,λ w=>(nF.mp w).elim (aX [zO].1 $a) q.2])|`([aew])=>`([qP,sb,λ z=>K [ap,z,cq],k1 b o K e])|`([aev,$a])=>`(⟨0,m0,D,j,[bi],J,n,u,ek,hg,[rq,a,J,J,$a]⟩)|`([aeu])=>`([mu,"is_end",[V6],uO,CS,fE,fdE,[x_]])|`([aet,$a,$b,$c])=>`((∀d,$a d→[Xo,d])∧∀x d,($b).j1 i H x d→g x [zL] d $c)|`([aes])=>`((V.int ([NT,45]+[NT,117]))=[xX,l.length])|`([aer])=>`(λ L=>[wx,F.ks.length,λ i=>kJ L [BT]])|`([aeq,$a])=>`([cI,c≠z,c≠n,c≠$a,[gX,c]=Z o,[pi,c]=Z o])|`([aep,$a])=>`(⟨[acJ,y],[u,u2],[zg,ru,ru2],[hJ,_,$a,_,J]⟩)|`([aeo])=>`([Ub,z.cps.toList.drop [K4],[ZQ]-[K4]])|`([aen,$a])=>`(∀b∈t,iY X $a [ni,M,D] b∧b<s3.heap.objs.size)|`([aem,$a,$b])=>`([pT,[eq],I.TS.cl,MT.me,GT,hr,MT.b,$a,ak [vW,$b] aB])|`([ael,$a,$b,$c,$d])=>`(EP X $a $b Q [pQ] {s with toks:=$c,heap:=[NA,[ry],.seq ($d).toArray]})|`([aek,$a])=>`(∀(A:bP)(E:[aT])(I:[Dc,aq]),$a→[C8,lO (.ref z),I])|`([aej,$a])=>`(λ v=>match v with|.int z=>$a [pL,[cY],z]|_=>(.bl false))|`([aei,$a,$b])=>`(λ{h}kb b o e=>kb b o (λ z=>([d9,z].elim (nS b o e) λ z=>by rw[34,$a b z])) [qP,Y,nS b o e,$b])|`([aeh,$a,$b])=>`([Pg,tl,λ x b=>∃a,x=[bi]∧(∃N,$a K b a N)∧R ($b K a) b])|`([aeg])=>`([nV sp.1,nV sp.2.1,.str [On],.bl [Ab]])|`([aef])=>`([aN,[JP]]==0&&[yx]==1&&([MR]-[JP])==a.size)|`([aee,$a])=>`([Oo,"code",4,dj (pv 0),@eg.mk AR (aZ qa) _ [("code",4)] J [bB] [bB] [bB] [bB],[wf,4],iv,$a])|`([aed,$a])=>`(∀{U:[bu]}{B:List lg}{c:(List ab)},ReadsAll h U B c→$a)|`([aec,$a,$b,$c,$d])=>`(∃g:[dE],$a=[$b,Z (nV t),Z (nV l),Z (nV r),x,g]∧M=$c∧(∀j d,G.length-$d≤j→cs[j]?=Z d→[aX,j6 d t l r]))|`([aeb,$a])=>`(W.frame _ _ _ $a λ b hb o e=>[qP,Y,λ z=>t (z▸hb),e])|`([aea,$a])=>`(σ=[[Cq],[b8,me],[b8,wa],Z [t9],[b8,ka],$a,v6,v7])|`([ad_,$a,$b])=>`(∀b o,[cI,b≠X.env.locals,$a,b∉ch,[LZ],H b=none→$b])|`([ad9,$a,$b])=>`(∀D C d m a,[cI,$a,Q (.ref D) a,d.heap.Ns C m,iY X $b a C,vO [Ct] X.A X.xe Y Qf (.ref D) C (.ok .next) d])|`([ad8])=>`([EI,X.eV.heap.get?,X.m9 b,b∈[vX]→b∈X.fs])|`([ad7,$a])=>`(∀c∈$a,c.cs.length≤l→[pF,c.cs]≤r→(Vs.eF (Vs.cF F.ks) c.cs b))|`([ad6,$a,$b,$c,$d])=>`(∃x:[dE],$a=[$b,Z (nV t),Z (nV l),Z (nV r),x,none]∧m=$c∧(∀j d,D.length-$d≤j→ds[j]?=Z d→[aX,i5 d t l r]))|`([ad5,$a])=>`(⟨Y.heap.objs.size,[Y.heap.objs.size],_,_,d,J,r.kept (t':=Y.toks) λ b o e=>cG _ e,$a a _,[NN],λ b K=>?_,q⟩)|`([ad4,$a])=>`(show m.toArray.any $a=m.any $a by simp)|`([ad3,$a])=>`(dA S u J N.mg N.fn.kp N.b .nil X [ug,[QC,ni],$a])|`([ad2,$a,$b,$c])=>`(∃l b N i,[jS,x=[lf],$a=$b,H l=Z (.aj N),H b=Z (.aj i),N.length+i.length≤aQ,$c])|`([ad1,$a,$b,$c])=>`(Ag (s:={$a with heap:=$b}) (fs:=[vX]) (fr:=none) R $c λ r z M k2 x2 sz2=>?_)|`([ad0,$a])=>`([xQ,4,[IN,MB.me,GB,hr,MB.b,pv 4,[ug,fQ j4 (b8 (x:="MARKS") (v:=.ref ma) J hma J) $a (λ _ _=>J),md]]])|`([adZ,$a])=>`(∀(i j:Nat)(p q:[Ea]),(i<j→($a)[i]?=Z p→($a)[j]?=Z q→[aX,fg p q]))|`([adY,$a])=>`(∀k,0<b k→∃c∈$a,c.cs.length≤l∧[pF,c.cs]≤r∧[abm,F.ks])|`([adX,$a,$b])=>`(j0 (mj nN PySem.F.slot_list_extend PySem.F.type_list_extend L6 $a (ak $b aB)))
local macro_rules|`([Yu])=>`(lI.zip [.ref F.sc,.ref F.ka,.ref F.r,.ref F.d1,.ref F.d2])|`([Ys,$a,$b,$c])=>`(λ b o e=>by have q:=bV.mp $a;exact[rG,$b,$c])|`([Yr])=>`((hH (p.1.map (c.getD t 0*·)) (c.map (-(p.1.getD t 0)*·))))|`([Yq,$a])=>`(($a (by rw[118])).ag (by rw[118]))|`([Yp,$a,$b,$c,$d])=>`(if$a&&&$b $c≠0 then($a&&&$b $c)/2 else 2^$d)|`([Yo])=>`(s.map (λ x=>(x,i))++l)|`([Yn])=>`((toString "max"++toString ".loop":String)="max.loop")|`([Ym,$a])=>`(λ x N H Q=>∃a b,x=.str a∧N=[.str b]∧$a)|`([Yl,$a,$b,$c,$d,$e])=>`(vq (name:=k_ "__next__") $a $b (qC $b $a $c $d $e))|`([Yk,$a,$b])=>`(λ U H Q _=>∃(p X sh:ab)(k:Vs.Kd)(T:Nat),U=[.ref p,nV T]∧u6 C H p X sh k∧Q ($a $b) H)|`([Yj,$a,$b,$c])=>`(($a→$b)∧(¬$a→∀m,ah H m→bD H m→E (.ref $c) none m))|`([Yi,$a,$b])=>`($a c o (λ W=>$b) (λ W=>$b) (λ W=>$b) (λ W=>$b) q)|`([Yh,$a])=>`((pre++[EV,[Ur,I].take $a,Vs.ip m N I p G]).foldl ig [])|`([Yg,$a,$b,$c,$d,$e,$f])=>`(∀(A:bP)(outer:List Env)(s:aq)(H:Hp)(U:[aw])(Q:VK)(E:XK),cy k (A.deeper $a)→sp U H $b $c→∃t,$d $e $f t∧[aah])|`([Yf])=>`(["enumerate","zip","dict_itemiterator","dict_reverseitemiterator","odict_iterator","itertools.zip_longest","itertools.pairwise"])|`([Ye])=>`(fj (s3.heap.objs.size+1) l.names (ef X.env.cells l.names []))|`([aeX,$a,$b,$c,$d])=>`([cj,c=[[b8,se],[ui],[Cq],[Ac],$a,v5],bA (F.plus d) m t,$b,$c,PY m d (($d).foldl kK [])])|`([aeW,$a,$b])=>`($a=Z a→($b)[j]?=Z b→i<j→a.place+a.count≤b.place)|`([aeV,$a])=>`(lu [wW,iI,$a,pv 2] (oB [wW,iI,$a,pv 3]))|`([aeU])=>`([pT,pv 1,G.TK.cl,Mw.me,Gw,hr1,Mw.b,pv 2,[LW]])|`([aeT,$a])=>`(∀g,(ah H g→g lw=Z (.aj ([xY].map gQ))→vc g d [Yh,j+1]→$a))|`([aeS,$a])=>`(cX (C9 J) (by rfl) G.B.min Ry [uj,$a,[vW,10]])|`([aeR,$a])=>`(⟨_,J,[pM],tx l,_,J,J,J,[ap,d9,[aaC]],$a⟩)|`([aeQ,$a,$b])=>`(ff (ak (b8 J $a $b) [uj,4,[E4,G6,F,I.mg,I.fn.kp,I.b,5]]))|`([aeP,$a])=>`(∀v∈$a,∀Q:[Dc,aq],Q true s→[fQ,JH n v])|`([aeO,$a])=>`([M8,[vZ,C6,1,pL],rg (zN iI iI bu [xz,1] $a)])|`([aeN,$a])=>`(∀a m,[u8,a,ah H m,bD H m,[Ae,m a=Z [Fi,$a],m]])|`([aeM,$a])=>`(k.mono (u _ (cE v h (by rw[101]))) (u _ (cE $a h (by rw[101]))) z)|`([aeL,$a,$b,$c])=>`(∀(i:Nat)(a:ab)(d:du),($a)[i]?=Z a→($b)[i]?=Z d→[Ae,$c d T l r=true,H])|`([aeK,$a,$b,$c])=>`([PJ,Mv J B.reversed (ak [eq] aB),$a,[Bd,(lu [wW,e_,cj lz [vW,$a] (pv 1),$b] $c).pt,pv $a]])|`([aeJ,$a,$b,$c])=>`(∀S,[cI,$a,$b,S.IsListIter n m (k1+1),S.IsListIter $c K (k2+1),([YV])→S.objs.size=[ge]→[Ut,$c,[Ug,S]]])|`([aeI,$a,$b,$c,$d])=>`(jC (K:=K) (oQ $a) id $b $c [nj,$d] (λ x H3 Q1 Q2 hx _ q1 q2=>?_) ?_)|`([aeH,$a])=>`([pT,pv 0,G.cZ.cl,MO.me,GO,hrO,MO.b,$a,aB])|`([aeG,$a])=>`([zf,m,N,[jl,aH,.inr ⟨ha,F,ay,rk,$a⟩]])|`([aeF])=>`(call [oD,"sorted"] [(.ref d)] [[PR]])|`([aeE])=>`(kF g (dv [Eo]) s.heap S→(([Ib,S,Z (f_ L)])→s.heap.objs.size≤S.objs.size→Q () [ln,S]))|`([aeD,$a])=>`(dc (h9 (rz K) (cv 1) (tC (nV 0))) (dc (cv 9) (dc $a gw)))|`([aeC])=>`([gM,"targets",[VL],uP,CS,fT,fdT,[vn]])|`([aeB])=>`([Ij,fU.zip ([PQ,L,N,l].set 2 (.ref t))])|`([aeA,$a,$b])=>`(W.frame _ _ _ $a λ b K o e=>[qP,Y,λ z=>$b (z▸K),e])
local macro_rules|`([Zc])=>`(a.toList.drop [JP])|`([Zb])=>`(settled L.2.1 fm.2.1 fm.2.2)|`([Za])=>`(⟨xs,xs[i],q,[bn,s]⟩)|`([Y_,$a])=>`(yV Jh (tp _ _ _) Si (Sb _ _) $a ?_)|`([Y8])=>`(s.heap.IsSliceOf Y e k .none)|`([Y7])=>`(b8 (v:=.ref F.CC) J G.TC.mg J)|`([Y6,$a,$b,$c,$d,$e])=>`(⟨$a,J,λ j=>$b D j $c λ l hl=>kR [-$d] $e l _ aw⟩)|`([Y5])=>`(λ A outer s H vs Q E hr h=>?_)|`([Y4])=>`(bM K H b [X6,p])|`([Y3])=>`(λ b o g e=>eb b o g e)|`([Y2,$a,$b,$c])=>`(List.mem_filterMap.mpr ⟨$a,$b,$c⟩)|`([Y1])=>`(oo (λ i j=>fg (f i) (f j)) n)|`([Y0,$a])=>`(match$a:term with|Z (.aj xs)=>xs.length|_=>0)|`([YZ,$a])=>`($a KX G ?a ?pg ?hd ?po ?sa ?n0 ?n1 ?n2)|`([YY])=>`(F.ks.getD j ⟨[],(0,[]),0,0,0⟩)|`([YX])=>`(λ j A outer s H U Q E u h G X=>?_)|`([YW])=>`(λ z=>by subst z;rw[aw]at F;cases F)|`([YV])=>`(fo S s.heap.objs.size x y)|`([YU])=>`(λ i v=>∃en,es[i]?=Z en∧v=en.key)|`([YT,$a])=>`(⟨p (λ⟨W,F,C,k,c,m,T⟩=>$a) H1 Y O,O⟩)|`([YS,$a])=>`(λ x y H Q=>∃i j,x=.int i∧y=.int j∧$a)|`([YR,$a])=>`(λ b o _ _ V e _=>⟨o.slots,k b o $a e⟩)|`([YQ])=>`(if qI a&&qH b then 2 else 3)|`([YO,$a])=>`(∀N,$a K H a N→N[i]?=Z x)|`([YN])=>`([Ui].push [aaq])|`([YM])=>`(λ v=>match v with|.ref q=>V.ref q|_=>V.bh)|`([YL])=>`("Completions.answer")|`([YK])=>`(PyData.tuple [.int [ar,c.1],.int [ar,c.2]])|`([YJ,$a])=>`(List.any_eq_true.mpr ⟨p,R,bK $a⟩)|`([YI])=>`((gu "list" (es.toList.map (·.key)).toArray 0))|`([YH])=>`(∀i w H,i≤xs.length→P i w H→ax K H a xs)|`([YG])=>`([Cr,a]∧∃U,KV Y U∧h.DictOf (m7 P w) a U)|`([YF])=>`(Walks prog w A.in1 I fp wr n P St)|`([YE,$a])=>`(∀w H,P $a w H→D.nx w H)|`([YD])=>`("Completions.known_of")|`([Yz,$a,$b,$c,$d,$e,$f])=>`(⟨I.ok,I.os,I.bare,$a,$b,$c,I.free,I.jY,$d,$e,$f⟩)|`([Yy,$a,$b])=>`(C _ _ _ _ (U _ _ (D _ _ $a $b)) $b)|`([Yx,$a])=>`(Ip "max" ["key","default"] 0 ⟨[],$a⟩)|`([Yw])=>`([Uj,p,[sp],w,gR m [EW,w] true [sp]])|`([Yv])=>`("Completions.answer_with")
local macro_rules|`([ZR])=>`(fk l [Ye] s3.heap.objs.size X.env)|`([ZQ])=>`(HT.bz z.length z.length O)|`([ZP,$a,$b])=>`([aK,$a≠[]]&&([aK,($b).getLast?=Z []]||[aK,($b).getLast?=Z [109]]))|`([ZO])=>`(vO [Ct] X.A X.xe Y Qf (.ref D) s3.heap.objs.size)|`([ZN,$a,$b,$c])=>`(λ U H Q _=>∃(b:[bp])(a:ab)(L:Vs.a8),[cj,U=[$a,(.ref a)],bA F H b,fi $b a L,[C5],$c])|`([ZM])=>`(∀b∈ch,(b∈X.ex∨[OJ,b])∧[FM,b]∧(∀x c,[Aq,x]=Z c→c≠b)∧(∀p∈X.pn++pins,p.1≠b))|`([ZL,$a])=>`(λ i h L b g=>by rw[45,b=$a,[aB,g]];obtain⟨o,e,c,d⟩:=L;rw[1,o,e,λ v z=>by rw[80,d]])|`([ZK])=>`(λ x y H Q=>∃(c:Nat)(z:Str),x=.str [ro]∧y=.str z∧Q (.bl [aK,c∈z.cps.toList]) H)|`([ZJ,$a,$b,$c])=>`(((g_ $a [pc,$b]).all (λ x=>! x.1)&&((BX $a (BU [] X.env)).all (λ x=>x.1.isSome))&&[aK,($c).length+[Fu,vS].length+(if[Fu,vS].isEmpty then 0 else 1)<30])=true)|`([ZI,$a])=>`(λ x M=>∃a C W fs,[cj,x=(.ref a),M a=Z (.ins C W fs),j2 K C,oF K C f,fs.length<1000∧D.nx w (ag M a (.ins C W (fP f $a fs)))])|`([ZH])=>`([iH,ae→Sem Unit])|`([ZG])=>`([⟨.either,true⟩])|`([ZF,$a])=>`(O H1 s1 p1 λ⟨m,z⟩=>$a)|`([ZE])=>`(Cn mg "LINE_ROOM" 256)|`([ZD])=>`(n _ e [al] [al])|`([ZC])=>`(bf I.ok.lr I.ok.above)|`([ZB])=>`(I.base.free b o e n A)|`([ZA,$a])=>`((RD q).find? (λ e=>e.name==$a))|`([Zz])=>`([.int (i:Nat),x])|`([Zy])=>`(fj h.objs.size names t)|`([Zx])=>`(E.set i {e1 with g:=Q})|`([Zw])=>`(λ c v V q=>k c v ?_ q)|`([Zv])=>`(b∈X.env.locals::X.fs)|`([Zu,$a])=>`(j_ mg base "AfterRefused" $a)|`([Zt,$a])=>`(∃v,C=.done (.ret v)∧Q v $a)|`([Zs])=>`((arr.map (·.2)).toList)|`([Zr])=>`(targets m (sp,p,w) (gK s))|`([Zq])=>`(dG (bR e) (I.ok.t6 x c T g))|`([Zp])=>`(∀f,ir (fs.lookup f) (s f))|`([Zo,$a])=>`(λ b o _ _ V e _=>k b o $a e)|`([Zn])=>`(List.mem_singleton.mpr J)|`([Zm,$a,$b,$c,$d,$e])=>`(⟨W,L,K,G,D,$a,$b,$c,C.mono (dF $d),h.mono $d,$e $d⟩)|`([Zl,$a])=>`(∃c∈after m $a a,acc m c b)|`([Zk,$a])=>`(λ b o V e=>⟨o,k b o $a e⟩)|`([Zj])=>`(∀i∈is,n.testBit i=true)|`([Zi,$a,$b])=>`(List.mem_iff_getElem?.mpr ⟨$a,$b⟩)|`([Zg,$a,$b])=>`(⟨λ b o e k K=>$a,λ b o e K=>$b⟩)|`([Zf,$a,$b,$c,$d])=>`(⟨if$a then .long else between $b,$c !=$d⟩)|`([Ze,$a])=>`(hdP _ _ $a (by intro q z;cases z))|`([Zd])=>`(arr.toList.map λ x=>ur x.2)
local macro_rules|`([aaw,$a])=>`(∀(i j:Int)(t u:Tok)(s:aq)(Q:[aT])(E:[aT]),$a)|`([aav,$a,$b,$c])=>`(∀(s:aq)(H:Hp)(C:ab)(cl:[pp])(t:(List ab)),$a [L3,l,cl] $b $c)|`([aau])=>`(λ n:Nat=>(bY [cY]:Key))|`([aat])=>`([yx]*2^(([U2]-1).toNat))|`([aas])=>`(Vs.eF (Vs.cF ks) (k::c) b)|`([aar])=>`(r.update S (jM [ML,c]))|`([aaq])=>`(sW C s.heap.objs.size)|`([aap])=>`(∀n∈row,[p0,ay n])|`([aam,$a,$b])=>`(λ r=>r.imp $a λ⟨o,e⟩=>$b)|`([aal,$a])=>`($a≠[]∧∀c∈$a,c≠32)|`([aak,$a])=>`(.builtin "max.loop" [yg,$a])|`([aaj,$a])=>`([eY,"bits_of",rN,fb,$a,[[mj]]])|`([aai,$a])=>`([gh,[db,false,true,$a],eQ])|`([aah])=>`(t {nx:=λ _ m=>Q .bh m,rt:=Q} (start N U) H)|`([aag,$a,$b])=>`(λ x k=>by rw[92,su $a $b [] x k])|`([aaf])=>`(λ z=>e (g.trans z))|`([aae,$a])=>`(⟨J,J,[DR,[],[al]],$a⟩)|`([aad,$a,$b])=>`([L6,H,s.heap.objs.size,.tup $a,$b])|`([aac])=>`(⟨D,_,J,(ax.of W),_,J,?_⟩)|`([aab])=>`(1≤w.length∧w.length≤4)|`([aaa])=>`([Al,[ry],.seq m.toArray n])|`([Z_])=>`([db,fP f v ((k,x)::r),[pH,k,f,(k,v)::r,(k,x)::fP f v r],J])|`([Z9])=>`(c.2≤(jO m.feet t).getD (c.1-1) 0)|`([Z8,$a])=>`(⟨_,J,_,.inl [tJ,_,ax.of $a],?_⟩)|`([Z7,$a])=>`(∀{c:(List ab)}{B:List du},([O3,H])→$a)|`([Z6])=>`([Oz,Sound.cons c.1,c.2]++l)|`([Z5,$a,$b,$c,$d,$e])=>`([QJ,c=104∨(c=117∧p=113),[],$a c,[$b],[Mm,$c c,$d,[$e]]])|`([Z4,$a,$b])=>`(Walks.list (A:=X.A.in1) $a _ a $b m.toArray)|`([Z3])=>`([um,begins b,cut,s,s]::left (b::r))|`([Z2,$a,$b])=>`([Mm,fm.2.2=[],$a,($b).map λ sp=>[Mo,sp]])|`([Z1,$a,$b])=>`(zr $a $b A.in1 s #[] I O [e9,Bz] (λ P K=>D P [aB,K]))|`([Z0,$a])=>`([jb,isRow n F.most q,nI F ay q∧Vs.h8 $a 0 q])|`([ZZ,$a])=>`(kla_obj [Mx] [B1] t B l [Os] $a i C)|`([ZY,$a])=>`(λ Y k=>⟨.str _,H,I.tok k,[eJ,Y],$a⟩)|`([ZX,$a,$b,$c])=>`(⟨$a,$b,λ v q=>by rw[90,$c:term]⟩)|`([ZW,$a,$b])=>`(∀D c H,([UU,D.rt,.aj [.int (-$a)]])→rH K v $b D c H)|`([ZV,$a,$b,$c])=>`(nt.cons (by rfl) $a [bj] (λ e=>[oH,fz (ak $b aB)]) $c)|`([ZU])=>`(C.heap.push [Al,"slice",[vh,#[E,G,.none]]])|`([ZT])=>`(["most","measure","after","stock","told",[Cb],"row"])|`([ZS,$a])=>`(if L.2.2=0∨L.2.2=sh.1 then[rg,sh.2,$a m L]else[])
local macro_rules|`([UR])=>`((g.push (gu "list" (es.toList.map (·.key)).toArray 0)))|`([UL])=>`(dS I q [al])|`([UJ,$a])=>`(λ b K=>⟨($a).2.2.2.1,($a).2.1,($a).2.2.2.2.1,($a).2.2.2.2.2⟩)|`([abb])=>`(.tup [nV c.1,nV c.2])|`([aba,$a])=>`(typeOf [oD,$a]=pure (.type "method_descriptor"))|`([aa_])=>`([j0,ag u G [FG,z],T2,[PL,G]])|`([aa9,$a,$b])=>`([E4,G1,$a,D1.mg,D1.fn.kp,D1.b,$b])|`([aa8,$a,$b])=>`(∃a,mg $a=[lA]∧∀H,bM K H a $b)|`([aa7,$a,$b])=>`(∀c o,[cI,c≠z,c≠TO,c≠n,$a,$b])|`([aa6])=>`(ag H e.cl (.aj ([FF]++[sG])))|`([aa5,$a])=>`(cX Ey (by rfl) G.B.isinstance Rp $a)|`([aa4])=>`(ag (ag H p (.ins d W (eM.zip ([]++[gt,x]++[gt,n])))) j (.dK []))|`([aa3])=>`(ag H1 D (.aj (aJ [Me])))|`([aa2])=>`(∃s∈S,[K8,I s,x])|`([aa1,$a,$b])=>`([zZ,($a).zip $b,kO x.1 x.2])|`([aa0,$a,$b])=>`([IN,MF.me,GF,hr,MF.b,$a,$b])|`([aaZ,$a])=>`(dU T J J $a [dL,[Kg,aw]])|`([aaY])=>`([yx]*2^[MY,k.place])|`([aaX])=>`([Cl].map λ t=>(i,t))|`([aaS])=>`((cN K [gv] [AC])=Z (Z [dU]))|`([aaR])=>`(v.map [PP,[lv,rest]])|`([aaP])=>`([EQ,kJ L [BT],[lf]])|`([aaO,$a])=>`(λ i x A=>[hJ,x,$a,J,Vs.eG.refl _ _])|`([aaN,$a])=>`(iH [KJ,cX,zV J,B.any,IB,$a])|`([aaM,$a])=>`(∃N,H a=[zl]∧eI H $a N)|`([aaL,$a,$b])=>`(∀(cs:[m_])(l:(List (Sound×Nat))),$a [Z6]=$b)|`([aaK,$a])=>`(∀y∈l.names,y.2=.free→$a)|`([aaJ,$a,$b,$c])=>`([mu,"covers","Lack.covers",uE,$a,$b,$c,"other"])|`([aaI])=>`([Z [Cf],[lA],[b8,kt]])|`([aaH,$a,$b])=>`(dc (h9 (jx [B_,i+j]) (cv $a) (tC (.int 1))) $b)|`([aaG,$a,$b,$c])=>`(pO (i:=$a) nd J (gq J) (nj hu $b $c (λ _ _=>J)) Ek)|`([aaF,$a])=>`(lF S z l TO U $a→[Xe,z,I,false])|`([aaE])=>`(.inl ⟨[bj],[bj]⟩)|`([aaD,$a,$b,$c])=>`(($a [Q7,0,$b]).take ([Q7,N.length,$c]-[Q7,0,$b]))|`([aaC])=>`([ze,bf,l.length+2,1002])|`([aaB])=>`([Qb]++((iO ks i).take t).map (qr aO i))|`([aaA,$a,$b])=>`(Q (.int $a s.toks) [As,1]→[wY,X.A,$b])|`([aaz])=>`(tR n (r p)++lS (12-l-bZ n (r p)) [ar,-1])|`([aay,$a])=>`(∀(s:aq)(H:Hp)(C:ab)(N:[pp])(t:(List ab)),$a)|`([aax,$a,$b,$c,$d])=>`(∃cs,[Pc,$a,cs]∧[Pp,$b]∧[pF,cs]≤$c∧¬(Vs.eF (Vs.cF F.ks) cs $d))
local macro_rules|`([VC])=>`("Scanner.cut_can_come")|`([VB,$a])=>`($a m ks most g.c0 g.steps c)|`([VA,$a,$b])=>`($a X (.Compare a [o] [b] pos) $b)|`([Vz])=>`(.type "object")|`([Vy,$a])=>`(j_ mg base "StockRefused" $a)|`([Vx,$a])=>`($a a b 0 a.length (a.length+1))|`([Vw])=>`((es.toList.map (·.key)))|`([Vu])=>`("Search.first_that_fits")|`([Vt])=>`("Completions.steps_from")|`([Vr,$a])=>`(rx P w K mg base $a outer s H)|`([Vq])=>`("first_that_fits")|`([Vp,$a])=>`(List.length_eq_zero_iff.mp $a)|`([Vo])=>`(ag H2 l (.aj (cb S++[nV (2^i)])))|`([Vm])=>`(a.update S (jM [Qi]))|`([Vl])=>`("Completions.can_complete")|`([Vk])=>`("Scanner.spots_behind_word")|`([Vj,$a,$b,$c])=>`(TopK K mg F.bN F.CK F.CC F.CL F.bo $a $b $c)|`([Vi])=>`(λ o A outer s H U Q E u h=>?_)|`([Vh,$a])=>`(e.g.ls.filter λ x=>! iy (eh $a) (eh x))|`([Vg])=>`(Vs.cM F.m F.ks e.g.c0 e.g.steps)|`([Vf])=>`(∀c∈m.cuts,1≤c.1∧1≤c.2)|`([Ve])=>`(l.length+l.count 120+l.count 122)|`([Vd,$a])=>`(mC F d (Zh (aP F $a) H) se kb ay n)|`([Vc])=>`(λ l x=>l.flatMap (f x.kind x.ends))|`([Vb])=>`(λ cdv A outer s H U Q E hr h=>?_)|`([U_,$a])=>`(match$a:term with|c::d::_=>mR c d|_=>false)|`([U9,$a])=>`(zI ha K I h λ v u P x y M p L A q=>$a)|`([U8,$a,$b,$c])=>`(xX (C:=F.CL) (names:=dI) (d:=(B,$a,$b)) $c nx ny)|`([U7,$a,$b,$c])=>`([lB,w,$a,{$b with heap:=$c}])|`([U5])=>`(∀p m,h.IsTuple p m→S.IsTuple p m)|`([U4])=>`(X.eV.heap.get? b=Z o→∃O,g.get? b=Z O)|`([U3])=>`("Completions.search")|`([U2])=>`([ar,k.place]+[ar,k.count])|`([U1])=>`(fR.zip (oR g.a p (jF most (ik most (F.take i)) g)))|`([UZ,$a,$b,$c])=>`(∀(i:Nat)(b:ab)(p:Int×Int),($a)[i]?=Z b→($b)[i]?=Z p→$c)|`([UX])=>`(ag m F.d2 [EQ,j7 (F.en L) (iA F L),.ref kn])|`([UV,$a,$b])=>`(if[ar,$a]<[ar,$b]then[ar,$a]else[ar,$b])|`([UU,$a,$b])=>`(∀l,H l=none→$a (.ref l) (ag H l $b))|`([UT,$a,$b])=>`(bD H m→m $a=Z $b→Q (.ref $a) m)|`([US])=>`(λ _ _ _ _ _ _ W X=>match W,X with|[_,_,_,_,_],_=>J)
local macro_rules|`([WA])=>`("is_used_up")|`([Wz])=>`(o.drop (o.length-1))|`([Wy])=>`([A5,n.ks,i])|`([Ww])=>`(mH S u d H0 H a i)|`([Wu])=>`("Search.__init__")|`([Ws])=>`("Scanner.spot_at")|`([Wr])=>`("Scanner.ways_on")|`([Wq])=>`("Kind.needs_with")|`([Wp])=>`("Kind.is_used_up")|`([Wo,$a])=>`($a=false→m.cuts≠[])|`([Wl,$a])=>`(au (m:=Iv _) (nU $a l))|`([Wk])=>`(jG ks aO ks.length)|`([Wi])=>`(dG (bR e) I.ok.above)|`([Wh])=>`("Measure.__init__")|`([We])=>`("Scanner.__init__")|`([Wd,$a])=>`($a=Y.heap.objs.size)|`([Wb])=>`("first_stand")|`([Wa,$a,$b])=>`(∀q,$a→[aX,before q $b])|`([V_])=>`(.Pass ⟨0,0,0,0⟩)|`([V9])=>`(rG ID IE Ad (pv 0) fy)|`([V8,$a])=>`(List.pairwise_cons.mp $a)|`([V7,$a])=>`(List.mem_filterMap.mp $a)|`([V6])=>`("Scanner.is_end")|`([V4])=>`(⟨B,0,1000,b,0,r⟩)|`([V3])=>`("Known.answer_where")|`([V0])=>`("find_targets")|`([VZ])=>`("cut_can_come")|`([VW])=>`("can_complete")|`([VV])=>`("answer_where")|`([VT,$a])=>`(List.count_pos_iff.mpr $a)|`([VR])=>`(I.mod.glob.keeps I.bk)|`([VQ])=>`(Cn mg "MOST_PLACES" 4)|`([VO])=>`(c.set i {e with g:=Q})|`([VN])=>`(⟨B,wd,sz,b,n+1,r⟩)|`([VL])=>`("Scanner.targets")|`([VJ,$a,$b])=>`(ir.some_of (v:=v) (o:=$a) $b)|`([VH,$a,$b,$c,$d,$e,$f,$g,$h])=>`(∀cs,($a→cs.length≤$b→$c $d cs≤$e→$f $g cs $h))|`([VG,$a,$b,$c])=>`(jf.k (k:=bY $a) $b (eR $c [bj]))|`([VE])=>`("Scanner.find_targets")|`([VD])=>`("Completions.__init__")
local macro_rules|`([Xk])=>`(g9 [ap,k,IX [bj] _])|`([Xj,$a])=>`([Fg,[fz,wordOf,$a]+1])|`([Xi,$a])=>`(sk _ _ $a λ N=>.inl (by intro z;cases z))|`([Xg])=>`(∀b u,[XZ])|`([Xe,$a,$b,$c])=>`(kq $a s.heap S→$b $c [ln,S])|`([Xd,$a])=>`(PE X (.Call [rD,p] (e::es) [] pos) $a)|`([Xb,$a,$b])=>`([jp,[pQ],_,$a,$b _ [CF,ba _]])|`([W_,$a,$b,$c,$d,$e,$f,$g])=>`([sK,pW,$a,$b $c,λ j d=>ah $d d∧$e,$f,λ j d _⟨s',_⟩=>$g])|`([W9,$a,$b,$c])=>`(⟨_,J,$a,_,_,_,J,J,bM.of $b,[wH,$c,J],?_⟩)|`([W8,$a])=>`(St→[dF,Hp,[xP,$a]])|`([W7,$a])=>`([ln,s.heap.push $a])|`([W6,$a,$b])=>`(∀m,least≤m→m<$a→¬tV w most Sc $b)|`([W5,$a,$b])=>`((g_ $a [pc,$b]).any (·.1))|`([W4])=>`([Fh,[nr,44].map gD])|`([W3])=>`(λ p=>[aK,A p=g])|`([W2,$a])=>`(∃(l:(List Nat)),U=[[lC,l]]∧[qe,1000]∧$a)|`([W1,$a,$b])=>`([dL,dU T J J $a [dL,$b]])|`([W0])=>`([aaK,∃c,[Aq,y.1]=Z c])|`([WZ])=>`(λ kv=>[aK,kv.1=k])|`([WX,$a,$b,$c])=>`(.ins d W (eM.zip ($a++[gt,$b]++[gt,$c])))|`([WW])=>`([Al,"dict",.dict #[]])|`([WU])=>`(c.map Value.ref)|`([WT])=>`(c.drop (eT (b+1) n))|`([WR])=>`(c.take (eT (b+1) n))|`([WQ])=>`(⟨i,g,d,G,C⟩)|`([WP])=>`(⟨xs,q,ba _⟩)|`([WO,$a,$b])=>`(qQ bC sz cM l (X,$a) $b)|`([WN])=>`(c≠65∧c≠97)|`([WM])=>`("Lack.__init__")|`([WL])=>`("Kind.__init__")|`([WK,$a])=>`(acc m (f,0,[],L) $a)|`([WJ])=>`(words (lineOf S r))|`([WI])=>`(tE s.heap lE x.1)|`([WH])=>`("Known.add_lack")|`([WG])=>`(A6 m S most F ay)|`([WF])=>`("Known.__init__")|`([WE,$a])=>`(eB m.cuts (sp.1+1)≤$a)|`([WD,$a,$b])=>`({g with heap:=$a,toks:=$b})|`([WC])=>`("steps_from")|`([WB])=>`("needs_with")
local macro_rules|`([X9,$a,$b,$c])=>`($a (l₁:=$b) (l₂:=$c) (ba 3))|`([X8])=>`(hr.mono [bj])|`([X7])=>`([db,h.get? a,Z _,x])|`([X6,$a])=>`([(V.int ($a).1),(V.int ($a).2)])|`([X5])=>`([.bl (F.en L),.ref t])|`([X4])=>`(([ar,I]+1,[ar,p]))|`([X0,$a])=>`([EI,$a,[Gg],pZ o=true])|`([XZ])=>`([pW]=Z u→[Ed]=Z u)|`([XY])=>`([zZ,[abf],V.ref x.1])|`([XX,$a,$b,$c])=>`(∃W:Nat→[wz,Hp],((∃m,W 0 m (ag $a D (.aj [])))∧∀i m H,W i m H→(($b).stop i H∧Q H)∨(($b).go i H∧$c)))|`([XW,$a])=>`([rg,R.take $a,λ L=>[Cl]])|`([XV,$a,$b])=>`([gM,"answer_with",[Yv],rT,F.bo,$a,$b,[PH]])|`([XU,$a,$b])=>`([mu,"known_of",[YD],rP,F.bo,$a,$b,[x_]])|`([XT,$a,$b])=>`([Z [tY],Z [rs],Z (wV p),[b8,F],$a,$b])|`([XR])=>`(ag (ag H6 p (.ins l W part)) kb (.dK []))|`([XQ,$a])=>`(∀(I:[Dc,aq]),$a→[C8,lO (.ref z),I])|`([XO,$a,$b])=>`([gM,"answer",[YL],rQ,F.bo,$a,$b,[K3]])|`([XN])=>`([NA,"dict",.dict #[]])|`([XM,$a,$b,$c])=>`(∀(B:[bF])(s:aq)(w:St)(H:Hp)(Q:$a),(([iw])→(t w H Q→[iZ,$b,$c,s])))|`([XL,$a,$b,$c])=>`(¬$a→uo E H (.ref $b) none $c)|`([XJ])=>`([YE,xs.length])|`([XI,$a])=>`(H0 K $a Ls PtK PtC b)|`([XH,$a])=>`(($a _ _ P).trans P.symm)|`([XG])=>`([As,knd.draws k])|`([XF])=>`(call [dU] [v])|`([XE,$a,$b])=>`(PE X (.Constant $a j W) (tC $b))|`([XC,$a])=>`(field (.ref $a) 2>>=_)|`([XB,$a])=>`(Y.map (λ kv=>[pH,kv.1,k,(kv.1,$a),kv]))|`([XA,$a,$b])=>`(λ l hl=>[ap,I.rh hl $a,$b])|`([Xy])=>`([(.type "Exception"),(.type "BaseException"),[Vz]])|`([Xv,$a])=>`(($a==NameKind.free&&sc.kind==.function)&&[DP,n]==(Z .cell))|`([Xu,$a])=>`(l.flatMap ($a m x.kind x.ends))|`([Xt])=>`(∀k∈ks,[rh]≤64)|`([Xs,$a,$b,$c])=>`(g $a w $b λ h M=>F [L0,$c] h M)|`([Xr])=>`([ST,p.1].getD (d-1) 0)|`([Xq,$a,$b])=>`(by subst z;rw[$a:term]at m;exact$b)|`([Xp,$a])=>`(λ U z=>by rw[80,$a:term])|`([Xo,$a])=>`(∃S,S<m∧W (i+1) S $a)|`([Xn,$a,$b,$c])=>`(⟨$a,s _ _ $b J,[B0,$c,s _ _ z J]⟩)|`([Xm])=>`(.tup [(V.ref pa),wV r,nV I])
local macro_rules|`([Ri,$a,$b,$c])=>`(bj $a λ u P⟨y,M,p,S,$b⟩=>$c)|`([Rh])=>`(min x.nums.length most)|`([Rg])=>`((ks.flatMap (·.nums)))|`([Rf])=>`("Search.stands_behind")|`([Re])=>`("Scanner.spots_behind")|`([Rc,$a,$b])=>`(List.mem_filter.mpr ⟨$a,$b⟩)|`([Rb])=>`("stands_behind")|`([Ra,$a])=>`(bU K mg "Completions" $a lI)|`([Q_,$a])=>`(Option.map_eq_some_iff.mp $a)|`([Q9])=>`("Search.first_row_behind")|`([Q8,$a])=>`(bA (F.plus x) $a a)|`([Q7,$a,$b])=>`(HT.bz N.length $a $b)|`([Q6])=>`("spots_behind_word")|`([Q5])=>`(gu "list" #[] 0)|`([Q4])=>`("first_row_behind")|`([Q3,$a])=>`(λ x A=>let⟨o,q⟩:=S.xt x A;$a)|`([Q0])=>`(∃O,g.get? b=Z O)|`([QY,$a])=>`({cls:=.none,data:=.fields $a})|`([QX])=>`(min xs.length ys.length)|`([QW])=>`([oD,"object.__class__"])|`([QU,$a,$b])=>`(Z {cls:=$a,dict:=none,data:=$b,slots:=#[]})|`([QT,$a])=>`(λ vs H Q E=>∃X,$a (F.with X) vs H Q E)|`([QS,$a,$b])=>`(λ x dy nx ny nd'=>⟨x,dy,$a,$b,aw,J,?_⟩)|`([QR,$a])=>`(p.map λ q=>(q.1,q.2.1++$a (λ c=>(c,i)),q.2.2))|`([QQ])=>`(Builtin.«zip.__next__» ⟨[.ref z],[]⟩)|`([QP,$a,$b,$c,$d])=>`((∀b o,$a→$b→$c b=Z o)→$d)|`([QO,$a,$b])=>`(A.under (.builtin "type.__call__" ⟨.ref C::$a,$b⟩))|`([QN,$a])=>`(⟨$a-(i+1),[ac],J,s,E⟩)|`([QM,$a])=>`(Option.bind_eq_some_iff.mp $a)|`([QL])=>`(.tup [(V.int (r.length:Nat)),(V.int 0),V.str "",V.bl true])|`([QK,$a])=>`(ag H s.heap.objs.size $a)|`([QJ,$a,$b,$c,$d,$e])=>`(if$a then$b else if$c then$d else$e)|`([QI,$a,$b])=>`(⟨$a,I.os,I.bare,I.base,I.loc,I.cell,I.free,I.jY,$b,I.aH,I.len⟩)|`([QH,$a])=>`([aX,$a==("__debug__":Str)])|`([QG,$a,$b,$c])=>`($a $b (λ U H Q E h=>?_) $c)|`([Yd])=>`(t.length<F.most)|`([Yc,$a,$b])=>`(ag [N8,$a,x,C] x (.ins C W $b))|`([Yb])=>`(pq [XN] l.names)|`([Ya])=>`([uh,(V.int [Mb])=(V.int 0)])|`([X_,$a,$b])=>`((tu $a $b pos.line X.env)=pure false)
local macro_rules|`([TJ])=>`(K.In s.heap)|`([TH,$a])=>`(fX C names H a $a)|`([TD])=>`("common_bits")|`([Tz])=>`(aJ r.dropLast)|`([Ty])=>`(e.g.ls.map eh)|`([Tx])=>`("read_number")|`([Tw])=>`("clusters_of")|`([Tv])=>`("check_after")|`([Tu,$a])=>`(oP base mg $a c Pt)|`([Tt,$a,$b])=>`(λ b xs e=>$a _ _ $b)|`([Ts])=>`(O.toList.map T)|`([Tq])=>`(Binds K v V [])|`([Tp])=>`(S.getD i false)|`([To])=>`("read_measure")|`([Tn])=>`("vowel_weight")|`([Tm,$a])=>`(vW (m:=m) (f:=$a m))|`([Tl,$a])=>`($a=s.heap.objs.size)|`([Tk])=>`(λ _ _ _=>False)|`([Tj])=>`("joined_weight")|`([Ti,$a])=>`(∀w,$a=Z w→w≤3)|`([Th])=>`("stands_of")|`([Tg])=>`(fo s.heap TO a b)|`([Tf])=>`(Vs.eB m.cuts (I+1))|`([Te,$a,$b,$c])=>`(List.all_eq_true.mp $a $b $c)|`([Td,$a])=>`(gc m x.kind x.ends $a)|`([Tc])=>`("Search.kinds_in")|`([Tb])=>`("Kind.taken_with")|`([Ta])=>`("taken_with")|`([S_,$a,$b])=>`(∀z∈$a,$b≤z∧z≤255)|`([SZ,$a])=>`(if$a then 45 else 117)|`([ST,$a])=>`(ow bC sz cM l $a)|`([SL])=>`("Search.stands_of")|`([SB,$a])=>`(bU K mg "Measure" $a mB)|`([Rs,$a])=>`(λ o q=>k $a [al] o q)|`([Ro,$a])=>`(Vs.iV F.ks F.most $a l r)|`([Rn])=>`(lF s.heap z l TO U V)|`([Rm])=>`(("__classdict__":Str))|`([Rl])=>`(vu [bj] [ac])|`([Rk])=>`("Scanner.first_stand")|`([Rj])=>`("Completion.__init__")
local macro_rules|`([UB,$a,$b,$c])=>`(Vs.jT (r:=$a) $b λ x A=>$c)|`([UA,$a,$b,$c,$d])=>`(eJ dX J $a (oD J (gM [wf,$b] (gM [wf,$c] oC))) $d)|`([Uz])=>`([ar,2]*[vo,b])|`([Uy,$a,$b])=>`([J9,$a<0,($a+[cY]).toNat,min,$b,n])|`([Ux])=>`([NA,"range",[abd,d]])|`([Uw])=>`([aX,[W5,pos,es]])|`([Uv,$a,$b])=>`(mj nN sM sN pT $a [jC,$b])|`([Uu,$a,$b])=>`([gM,"search",[U3],oO,F.bo,$a,$b,[NO]])|`([Ut,$a,$b])=>`(([aa7,c≠$a,[gX,c]=Z o→[pi,c]=Z o])→$b)|`([Us])=>`(i<xs.length)|`([Ur,$a])=>`(Vs.cS m.feet $a r)|`([Uq,$a])=>`({s with toks:=$a})|`([Up,$a,$b])=>`(nk hu [eq] (pv $a) $b J)|`([Uo])=>`(dB (aJ o) (Z (-1)) none)|`([Uk])=>`(2^(x.place+t i))|`([Uj,$a,$b,$c,$d])=>`(match$a:term with|none=>$b|Z $c=>$d)|`([Ui])=>`(s.heap.push qy)|`([Uh,$a,$b])=>`(λ _ _ _ H _ I h=>$a $b)|`([Ug,$a])=>`(Q [pQ] [ln,$a])|`([Uf])=>`([QK,.tup [x,y]])|`([Ue,$a,$b])=>`(⟨$a,_,J,bM.of $b,J,_,_,J,_,_,J,J,?_⟩)|`([Ud,$a])=>`(∃a m,[MX,a,$a a m])|`([Ub,$a,$b])=>`((($a).take $b).toArray)|`([Ua])=>`([[ca],"needs"])|`([T_])=>`([QN,xs.length])|`([T9])=>`(dB (cb S) (Z ([lx]+1)) none)|`([T8,$a])=>`((jF most p g)::[wo,p+[wD],$a])|`([T7,$a])=>`(([]:[io,V])=$a [])|`([T6,$a])=>`([rg,sh.2.take $a,jo m L])|`([T5])=>`((∃o,S.get? e=Z o∧o.cls=.type "StopIteration")→E (.ref e) [ln,S])|`([T4,$a])=>`([rg,C.take $a,Vs.hO m N en])|`([T3])=>`(λ e R=>[wJ,?_,S.kn e R])|`([TZ])=>`(l.map (λ n:Nat=>PyData.int [cY]))|`([TY])=>`(max (HT.bz z.length 0 c) (HT.bz z.length z.length O))|`([TW])=>`(G.map λ c=>[aK,c∉O])|`([TV])=>`(y.map λ i=>[aK,n≤i])|`([TU])=>`((g.map λ j=>[aN,[Kq,j]]).map V.int)|`([TQ,$a])=>`((b.map λ g=>[fz,$a,λ p=>[aK,A p=g]]).sum)|`([TN,$a])=>`([gX,b]=Z o→$a=Z o)|`([TM,$a,$b,$c])=>`(∃W:Nat→Nat→[xP,St],(∃m,W 0 m w H)∧∀i m w H,W i m w H→(($a).stop i H∧D.nx w H)∨(($a).go i H∧∃N:[xP,St],$b∧$c))
local macro_rules|`([O4,$a])=>`(s.heap.objs.size≤$a)|`([O3,$a])=>`(d8 C names $a c B)|`([O2])=>`(Binds X.K fd ps ds)|`([O1])=>`((S.map gp).getD k [])|`([O0,$a])=>`(⟨r,g,.func $a,w⟩)|`([OZ,$a,$b,$c])=>`($a _ _ _ $b λ b _ o e=>$c)|`([OY])=>`(s₁.heap.get? b)|`([OX,$a])=>`(∀g∈m.feet,∀w∈g,$a)|`([OW,$a])=>`(List.mem_range.mp $a)|`([OV,$a])=>`(ag H1 D (.aj [Fh,$a]))|`([OU])=>`("spots_behind")|`([OT])=>`((Y.map (·.1)).Nodup)|`([OS])=>`((g.getD i []).length)|`([OR,$a,$b,$c,$d])=>`(d6 $a (i:=i) (a:=$b) (by rw[bX $c,$d:term]))|`([OQ,$a])=>`([$a,.ref ma,.ref aa,.ref sa])|`([OP])=>`("commonest_bit")|`([OO])=>`(Vs.ip m N I p G)|`([ON,$a,$b])=>`(λ _ _ _ _ _=>$a $b)|`([OM])=>`(wordOf [Qo])|`([OJ,$a])=>`(X.eV.heap.objs.size≤$a)|`([OH,$a,$b])=>`(($a).l_ $b (λ _ q=>q) λ _ _ q=>q)|`([OG])=>`([XI,s₁.heap])|`([OF,$a,$b])=>`(gP X [oD,$a] (λ N H Q=>$b))|`([OE,$a])=>`(∀U H Q E,sp U H Q E→U.length=$a)|`([OD])=>`(λ l w=>gR m [EW,w] false l)|`([OC,$a])=>`(⟨_,$a,λ v q=>nomatch q⟩)|`([OB,$a])=>`(∀p,H p=none→Q (.ref p) (ag H p $a))|`([Oz,$a,$b])=>`(cs.map (λ c=>($a,$b)))|`([Oy,$a,$b,$c,$d,$e,$f])=>`(λ S eb=>⟨J,I.turned (t':=s.toks) $a $b $c $d $e $f⟩)|`([Ox])=>`(λ _ _ _ _ _=>iv)|`([Ow,$a])=>`((($a).1,($a).2.1.map (λ w=>joined w fm.2.1),fm.1))|`([Ot])=>`(X.env::X.outer)|`([Os])=>`(ef X.env.cells l.names [])|`([Op,$a,$b])=>`(cX $a (by rfl) B.len f6 (ak $b aB))|`([Oo,$a,$b,$c,$d,$e,$f,$g])=>`(jz (own:=[($a,$b)]) J nd $c $d (λ _ _ _ _ _=>$e) (λ _ _ _ _ _=>$f) (λ _ _ _ _ _=>$g))|`([UG,$a])=>`([j0,d,T,[nV i,$a]])|`([UF])=>`([[bi],[rs]])|`([UE])=>`([NG,"a","A"])|`([UD,$a])=>`(⟨$a,by rw[d9]⟩)|`([UC,$a])=>`((g.endLine==$a)=true)
local macro_rules|`([PV])=>`([[ca],"lack"])|`([PU])=>`((l.count 45)+(l.count 117))|`([PR])=>`((k_ "key",[dU]))|`([PQ,$a,$b,$c])=>`([(V.ref $a),(V.ref $b),(V.ref $c)])|`([PP,$a])=>`(λ h=>[aK,h&&&$a=0])|`([PN,$a,$b])=>`([eY,[OP],oN,$a,$b,["hits"]])|`([PM])=>`([[ca],"other"])|`([PL,$a])=>`([.int (i:Nat),.ref $a])|`([PK,$a])=>`([ap,d9,[oM,$a]])|`([PJ,$a,$b,$c])=>`(eJ dX J $a [wf,$b] (aN $c))|`([PH])=>`([[ca],"kind","target","barred","left","room"])|`([PF])=>`(r.map Gr.kv)|`([PD])=>`(m8 L.heap H)|`([PB])=>`("weight_of")|`([Py])=>`(m.cuts==[])|`([Pw])=>`([ar,g.size])|`([Pv,$a,$b,$c])=>`(Vs.jU.mpr ⟨$a,$b,$c⟩)|`([Pu,$a,$b])=>`(h.IsListIter $a $b i)|`([Ps,$a,$b])=>`(∀h∈$a,h&&&$b≠0)|`([Pr,$a])=>`(h.objs.size≤$a)|`([Pq])=>`(f.map V.int)|`([Pp,$a])=>`(cs.length≤$a)|`([Po])=>`("has_one_bit")|`([Pn])=>`(X.base.get? b)|`([Pm])=>`("split_up_to")|`([Pl,$a,$b])=>`(∀{l:List m},$a→$b)|`([Pk,$a])=>`(qM z l TO n $a m K)|`([Pj,$a,$b])=>`(I.base.there b o $a $b)|`([Pi,$a,$b,$c])=>`(∀b∈t,iY $a $b $c b)|`([Pg,$a,$b])=>`(λ w H R=>$a w H $b)|`([Pf,$a,$b])=>`(gG $a $b λ _ _ S=>S)|`([Pe])=>`(F.place+F.count)|`([Pd,$a])=>`(⟨tm kU _,$a⟩)|`([Pc,$a,$b])=>`(Vs.oz F.m F.ks $a $b)|`([Pb])=>`([oD,"max"])|`([Pa,$a])=>`(Z {$a with slots:=Y})|`([O_])=>`(bC j+1-C.count j)|`([O9,$a,$b])=>`(Walk w most Sc iq $a $b)|`([O6,$a,$b,$c,$d,$e,$f])=>`(bj $a λ W Y⟨U,$b,$c,$d,$e⟩=>$f)|`([O5])=>`(c.cs.count j)
local macro_rules|`([L6,$a,$b,$c,$d])=>`(cU X.prog X.w (ag $a $b $c) $d $b $c)|`([L3,$a,$b])=>`(X.cV s H $a (fk $a $b C X.env) t)|`([L1])=>`(λ vs H Q E h=>?_)|`([L0,$a])=>`({D with nx:=$a,ct:=$a,bk:=D.nx})|`([QF,$a,$b])=>`(ah (Zh (aP F $a) H) [Eh,$b])|`([QE])=>`([aX,tj o b])|`([QD,$a])=>`([iZ,$a,[Kl],s])|`([QC,$a])=>`(fQ $a (pv 2) bu (λ _ _=>J))|`([QB,$a,$b])=>`(s.heap.IsTuple $a $b)|`([QA,$a])=>`([Kg,[cX,$a,aw]])|`([Qz,$a,$b,$c,$d,$e])=>`(show cU X.prog X.w $a $b $c $d from$e)|`([Qx])=>`((X.fn x=true)∨([J5,x]=[wn]))|`([Qw])=>`([cX,aX q hn,q])|`([Qu,$a,$b,$c])=>`([IN,MS.me,GS,$a,MS.b,pv $b,$c])|`([Qt])=>`(V→Option Int→Option Int→[Ix])|`([Qs])=>`(λ z=>nomatch z)|`([Qr])=>`(λ k=>[vg])|`([Qp])=>`(r++[jz]::t)|`([Qo])=>`(S.getD k [])|`([Qm])=>`([wE]-(c i+1))|`([Ql,$a,$b])=>`(eW.k (k:=bY $a) $b)|`([Qk,$a])=>`([aN,[lv,$a]])|`([Qj,$a,$b])=>`(Inv $a pins $b H s)|`([Qi])=>`(λ _=>#[v,v])|`([Qh])=>`(g.push [Q5])|`([Qg])=>`([DI,n,m,k1])|`([Qc,$a])=>`([ov,G.eu.nd,$a])|`([Qb])=>`(jG ks aO i)|`([Qa,$a])=>`([rg,$a,λ w=>w.1.map λ s=>(s,w.2)])|`([P9])=>`([aN,t&&&[wF]])|`([P8,$a])=>`(by show$a;decide)|`([P7])=>`(A.units+32<fq)|`([P5])=>`(([ar,c.1],[ar,c.2]))|`([P4,$a])=>`([qU,$a,s.toks+1])|`([P3,$a])=>`([Q8,ag H x $a])|`([P2,$a,$b,$c])=>`(∀c∈$a,[aX,$b $c T l r])|`([P1,$a])=>`([tX,$a].any F.en)|`([P0])=>`([pi,b]=Z o)|`([PZ])=>`(dQ [ar,m] ([ar,m]-1))|`([PX])=>`([]++[gt,x])
local macro_rules|`([Nf,$a,$b,$c,$d])=>`(⟨$a,$b,$c,$d,J,J,_,J,?_⟩)|`([Nd])=>`(S.length≤64)|`([Nb,$a])=>`(∀L∈$a,L∈F.U)|`([Na])=>`(as.map V.ref)|`([M_,$a,$b])=>`(∀x∈$a,x.length≤$b)|`([M9,$a,$b])=>`(s.heap.FunFrames $a $b)|`([M8,$a,$b])=>`(PW.pt (pN $a (pM $b)))|`([M7,$a])=>`(bU K mg "Lack" $a dI)|`([M6,$a,$b])=>`(eg X.N X.env.scope $a $b)|`([M5])=>`(⟨kn,N,j8 F L⟩)|`([M4,$a])=>`(bU K mg "Known" $a fU)|`([M3,$a])=>`(∀x∈F.X,$a x=H x)|`([MY,$a])=>`([ar,$a].toNat)|`([MX,$a,$b])=>`([lB,$a,m,d]∧$b)|`([MV,$a,$b])=>`(m.cuts.contains ($a+1,$b+1))|`([MU,$a])=>`(I.nv _ _ _ _ $a z S.kt)|`([MR])=>`(bz a.size a.size O)|`([ML,$a])=>`(λ _=>#[v,.int k $a])|`([MJ,$a])=>`(Vs.jc F.m F.ks F.most $a)|`([MH])=>`(["bits","hits","runs"])|`([MG,$a])=>`(fo s.heap l (.ref n) (.ref $a))|`([MD,$a])=>`(bU K mg "Completion" $a d7)|`([Mz])=>`(∀U,o.data≠.fields U)|`([My,$a])=>`(⟨$a,[ac]⟩)|`([Mx])=>`("<lambda>")|`([Mv,$a])=>`(beq_eq_false_iff_ne.mpr $a)|`([Ms,$a])=>`(j_ mg base "MeasureRefused" $a)|`([Mr])=>`(.type "list")|`([Mo,$a])=>`(($a,fm.2.2.getLast?,fm.1))|`([Mn])=>`(∀x,vz iter X.env x=pure x)|`([Mm,$a,$b,$c])=>`(if$a then[$b]else$c)|`([Ml])=>`(⟨_,_,J,J,_,J,?_⟩)|`([Mj,$a,$b])=>`(N $a $b→∃S,S<m∧W (i+1) S $a $b)|`([Mi,$a,$b,$c,$d,$e,$f,$g,$h])=>`(lB $a $b $c J $d $e .nil bH (ak $f (ak $g $h)))|`([Mf,$a])=>`(∀b N,H b=Z (.tup N)→$a b=Z (.tup N))|`([Me])=>`(o.dropLast.map λ w=>max w 1)|`([Md])=>`(λ i e h=>⟨e,h,J,J,(Vs.eG.refl _ _)⟩)|`([Mb])=>`([LD,t,Vs.bS k.bl])|`([L9,$a])=>`(⟨_,J,J,_,J,$a⟩)|`([L7,$a,$b])=>`([Qz,H,s.heap,a,$a,I.aH a _ $b])
local macro_rules|`([NY,$a,$b])=>`([B0,$a,z.mono $b])|`([NX,$a,$b,$c])=>`(aK [xQ,$a,$b] (aN $c))|`([NW,$a])=>`(df $a Pt i4 iJ)|`([NV,$a,$b])=>`(j3 K H $a (.type $b))|`([NU])=>`([CN,W,z,co])|`([NT,$a])=>`([aN,l.count $a])|`([NS,$a,$b])=>`(gd (Z ($a,$b,i)) [Yo])|`([NR])=>`(eX F.aO [CY])|`([NQ])=>`(["word","place"])|`([NP,$a])=>`(L.2.1.map λ w=>$a)|`([NO])=>`(["self","known","barred","left","room"])|`([NN])=>`([ff,_,[pu],J])|`([NM,$a])=>`([Al,"tuple",.seq $a])|`([NL])=>`([[ca],"after"])|`([NK,$a])=>`([j4,$a,[qU,h',t']])|`([NJ,$a,$b])=>`(λ f M=>$a [L0,$b] f M)|`([NI])=>`([pc,[e]]=[[wC,e]])|`([NH,$a,$b])=>`(ff (ak $a (ak $b aB)))|`([NG,$a,$b])=>`(.tup [(V.str $a),(V.str $b)])|`([NF,$a])=>`($a=(Z .cell)∨$a=(Z .free))|`([NE,$a])=>`(∀x c,[Aq,x]=Z c→$a)|`([ND])=>`([pc,e::es]=[wC,e]::[pc,es])|`([NA,$a,$b])=>`(s.heap.push [Al,$a,$b])|`([Nz,$a,$b,$c,$d])=>`(@eg.mk $a (aZ $b) _ [($c,$d)] J [bB] [bB] [bB] [bB])|`([Ny])=>`(mE S most)|`([Nw,$a])=>`(splitOn $a [])|`([Nv])=>`("reversed")|`([Nt])=>`(λ x c=>?_)|`([Nr])=>`(rD J J J J)|`([Nq])=>`(Vs.b0 ks k)|`([Np])=>`("__name__")|`([No])=>`((ks[i]).nums)|`([Nn])=>`(N-(N&&&bS x))|`([Nm])=>`("spoilers")|`([Nl])=>`(λ t ht=>?_)|`([Nk,$a])=>`(PI X tg iter $a)|`([Nj,$a])=>`(∀w∈$a,w≤3)|`([Ni,$a,$b])=>`(λ D w H=>$a w H $b)|`([Nh])=>`(Y.map (·.1))|`([Ng])=>`(bs.map V.ref)
local macro_rules|`([Kq,$a])=>`(Vs.b0 F.ks $a)|`([Kp])=>`(Vs.Sep (Vs.dr ks))|`([Ko])=>`(I.my _ _ z S.sc)|`([Kn,$a])=>`(λ x A=>$a x (cp _ A))|`([Km,$a])=>`(($a :Str).cps.toList)|`([Kl])=>`(EP X B w Q)|`([Kk,$a,$b])=>`($a m.feet ($b).1 ($b).2.2.1)|`([Kj,$a,$b,$c,$d,$e])=>`(Turn P w K $a $b $c $d (λ i h=>$e))|`([Ki])=>`(F.cells.lookup y)|`([Kg,$a])=>`(dU T J J $a ?_)|`([Kf])=>`(["text","feet_count"])|`([Ke,$a])=>`(∃h∈T,h.testBit $a=true)|`([Kc])=>`(.type "tuple")|`([Kb,$a])=>`(List.mem_iff_getElem?.mp $a)|`([Ka,$a])=>`(Array.getElem?_eq_some_iff.mp $a)|`([J_,$a])=>`(∀m,ah H m→bD H m→$a)|`([J9,$a,$b,$c,$d,$e])=>`(if$a then$b else$c $d $e)|`([J8])=>`(["after","most","stock_count"])|`([J7,$a,$b,$c])=>`([.ref $a,.ref $b,.ref $c])|`([J6])=>`(["most","measure","after","stock"])|`([J5,$a])=>`(X.env.scope.names.lookup $a)|`([J4,$a,$b,$c])=>`(.cons $a (.cons $b $c))|`([J3,$a])=>`(az _ A.in1 ($a>>=_) _ _ _)|`([J2,$a,$b])=>`(cI $a (aN $b) cQ)|`([J1])=>`(λ _ _ _ _ _ _ W X=>match W,X with|[_,_,_,_],_=>J)|`([J0,$a])=>`(List.getElem?_eq_some_iff.mp $a)|`([On])=>`(eC sp.2.2.1)|`([Om,$a,$b,$c])=>`([Lw,e_,$a,$b,bB $c])|`([Ol])=>`((bD.refl H).ag J)|`([Oi])=>`((ph K [dU])=true)|`([Og,$a])=>`(∀x∈$a,[aX,dD x])|`([Oe,$a,$b])=>`([cX,B $a _ $b,$b])|`([Ob])=>`(Y.any [WZ])|`([Oa,$a])=>`([aX,[aK,$a]])|`([N_,$a,$b])=>`(fQ j4 (pv 1) (b8 J $a $b) (λ _ _=>J))|`([N8,$a,$b,$c])=>`(ag (ag $a W (.own $b)) $b (.ins $c W []))|`([N7])=>`(List [Ea])|`([N5,$a])=>`(B.map (λ c=>(c,$a)))|`([N1,$a])=>`([nr,$a].length)|`([NZ,$a,$b,$c,$d])=>`(aK (bE (i:=$a) nd J $b $c) $d)
local macro_rules|`([Ln,$a,$b,$c])=>`([wB,$a,[zt,$b],$c])|`([Lh,$a,$b])=>`([um,$a,Z,$b,none])|`([Lg,$a,$b])=>`(λ z=>[gh,$a,$b])|`([Lb,$a])=>`(ha $a B s w H _ I h)|`([La,$a,$b])=>`(fU.zip [J7,L,$a,$b])|`([K8,$a,$b])=>`((($a).testBit $b)=true)|`([K6])=>`([[ca],"measure"])|`([K5])=>`([[Cb],"most"])|`([K4])=>`(HT.bz z.length 0 c)|`([K3])=>`(["self","known",[wG],"left","room"])|`([K2,$a,$b,$c,$d])=>`([B7,$a,$b,$c,[hJ,_,_,J,$d]])|`([K1])=>`(["stock","most"])|`([K0,$a])=>`($a s.heap.objs.size)|`([KZ,$a])=>`(λ z=>$a [bn,z])|`([KY])=>`(["digits","most"])|`([KW])=>`(List [kw])|`([KU])=>`([zZ,(dW l).drop 1,V.str (tx x)])|`([KS,$a])=>`(λ _ _ _ _ _=>[wf,$a])|`([KR,$a,$b])=>`((V.str $a)=(V.str $b))|`([KQ,$a,$b])=>`([ut,_,ax.of $a,by rw[$b:term]])|`([KP])=>`([[ca],"row","least"])|`([KO])=>`([[ca],"steps","is_complete"])|`([KN])=>`([[ca],"feet","cuts"])|`([KM])=>`([[ca],"measure",[Cb],"most"])|`([KL])=>`([[ca],"spot","weight",[Az]])|`([KJ,$a,$b,$c,$d,$e])=>`($a $b (by rfl) $c $d (ak $e aB))|`([KI,$a,$b])=>`(⟨.int $a,H,[rw],[eD,$b],q⟩)|`([KH])=>`([[ca],"foot","place","rest","met"])|`([KG])=>`([[ca],"numbers","shape","size","place","count"])|`([KF,$a,$b,$c,$d])=>`(wipe $a U=[zL]∧B $a M λ b L=>[or,b,$b $a L λ y R=>∃t,R D=Z (.aj t)∧t.length<aQ∧$c,$d])|`([KB])=>`(PE X e te)|`([Kz])=>`(x.length+1)|`([Ky,$a])=>`(t.length≤$a)|`([Kx,$a])=>`(Vs.joined w $a)|`([Kw,$a,$b])=>`(bJ F 12 H $a $b D)|`([Kv])=>`(λ a ha=>?_)|`([Ku,$a,$b])=>`(o.data=.dict $a $b)|`([Kt,$a])=>`(∀s∈$a,ij m s)|`([Ks])=>`(λ b K=>?_)|`([Kr])=>`((t++[x]).length)
local macro_rules|`([Gf])=>`(S.kinds.mono z)|`([F_,$a,$b])=>`(isRow $a most $b=true)|`([FU])=>`(N.place+N.count)|`([FS])=>`(Nat×Vs.a8)|`([FQ,$a,$b])=>`(if$a then 1 else$b)|`([FM,$a])=>`($a≠X.env.locals)|`([FH,$a])=>`(VP.gX KX G $a)|`([FG,$a])=>`(.tup [.ref p,nV $a])|`([FF])=>`(G.map V.ref)|`([FE])=>`(["vowel","cluster"])|`([FD,$a])=>`(λ b o e=>cG _ $a)|`([FB,$a])=>`(List.mem_filter.mp $a)|`([FA,$a])=>`(λ _ _ _ _ _ _ _ q=>$a q)|`([Fz])=>`(∀c∈m.cuts,c.2≤4)|`([Fx,$a,$b])=>`([.ref $a,.ref $b])|`([Fu,$a])=>`(([]:List $a))|`([Ft])=>`(["shapes","sizes","most"])|`([Fs])=>`(["weight","weight_behind"])|`([Fj])=>`(λ j A outer s H U Q E u h=>?_)|`([LZ])=>`([zX]=Z o)|`([LW])=>`([uj,3,pv 4])|`([LU,$a])=>`((dC K b_ $a)=Z (Z [gv]))|`([LT])=>`(eK Pt H m)|`([LS,$a])=>`(Q (.str $a) H)|`([LQ,$a])=>`((Y.length≤aQ)∧$a)|`([LP])=>`(aD [al])|`([LO,$a,$b,$c])=>`(∃Y,H $a=Z $b∧$c)|`([LN,$a])=>`((dC K b_ x)=Z $a)|`([LM,$a])=>`(H p=[gj,C,$a])|`([LL,$a,$b])=>`([KR,$a,($b :Str)])|`([LG])=>`([[ca],"foot","place"])|`([LE])=>`([[ca],"stands","row"])|`([LD,$a,$b])=>`(dQ [ar,$a] [ar,$b])|`([LA])=>`([[ca],"foot","rest"])|`([Ly])=>`(ag R D (.aj (t++[y])))|`([Lw,$a,$b,$c,$d])=>`([J2,[wW,$a,$b,$c],$d])|`([Lv])=>`([Oz,c,i])|`([Lu])=>`([io,Nat])|`([Lq])=>`(.inr [de])|`([Lp,$a])=>`(sZ K j $a=true)
local macro_rules|`([DL,$a,$b,$c])=>`(oq $a $b s.heap.objs.size f $c)|`([DJ])=>`(["text","sign","most"])|`([DI,$a,$b,$c])=>`(s.heap.IsListIter $a $b $c)|`([DG,$a,$b,$c])=>`(Option.bind_eq_some_iff.mpr ⟨$a,$b,$c⟩)|`([DE,$a,$b,$c,$d,$e,$f,$g])=>`(dA $a $b J $c $d $e .nil bH (ak $f $g))|`([JZ,$a,$b,$c,$d,$e,$f])=>`([Oo,$a,$b,dj $c,[Nz,$d,$e,$a,$b],[wf,$b],iv,$f])|`([JY])=>`(.aj [FF])|`([JX])=>`([qv]=Z x)|`([JW,$a,$b,$c])=>`([J2,$a,nr (by rfl) $b o5 J $c])|`([JV])=>`(List [FS])|`([JU])=>`((mO K C qJ)=true)|`([JT,$a])=>`([ym,λ k=>$a])|`([JS])=>`(["self",[x_],"taken","left","room"])|`([JR])=>`([pW]=Z o)|`([JQ,$a,$b])=>`(⟨[Ak,$a,J],$b⟩)|`([JP])=>`(bz a.size 0 c)|`([JO,$a])=>`([gh,$a,[al]])|`([JN,$a,$b,$c,$d,$e])=>`([we,$a,$b,[xQ,$c,$d],$e])|`([IR])=>`([[ca],"scanner","kinds"])|`([IO,$a,$b,$c,$d,$e,$f])=>`([cj,$a,ax K H $b $c,$d,$e,$f])|`([IN,$a,$b,$c,$d,$e,$f])=>`([pT,pv 0,T.cl,$a,$b,$c,$d,$e,$f])|`([Ix])=>`([dF,Hp,VK])|`([Io,$a,$b])=>`(∀c∈$a,c∈$b)|`([Im])=>`(List Spot)|`([Il])=>`(PE X b tb)|`([Ik,$a])=>`(aO.getD $a 0)|`([Ij,$a])=>`(.ins C dx $a)|`([Ii])=>`(z _ _ S.ka)|`([Ih])=>`("kinds_of")|`([Ig])=>`(c.map V.ref)|`([Ie])=>`(Y.length<aQ)|`([Id,$a])=>`(N.length≤$a)|`([Ic,$a])=>`(X.A.units+$a<fq)|`([Ib,$a,$b])=>`(ExcAt $a g a C $b)|`([Ia])=>`(Vs.start F.m)|`([H_])=>`(aO.map V.ref)|`([HZ,$a,$b])=>`(di X.prog X.w $a $b)|`([Gq])=>`((fG l).dropLast)|`([Go])=>`(S.runs.same z)|`([Gg])=>`(g.get? b)
local macro_rules|`([E6])=>`(o8 K C=true)|`([E5,$a,$b,$c,$d])=>`([we,$a,$b,$c,aN (bB $d)])|`([E4,$a,$b,$c,$d,$e,$f])=>`(dA $a $b J $c $d $e .nil bH [jC,$f])|`([EZ,$a])=>`(.aj [gt,$a])|`([EW,$a])=>`(Vs.kindOf $a)|`([EV,$a,$b])=>`(($a).filterMap $b)|`([EQ,$a,$b])=>`(.dT (cD Y $a $b))|`([EL])=>`(.inr [lz])|`([EK])=>`([zZ,dW l,V.str (tx x)])|`([EJ])=>`(([ro]:Str))|`([EI,$a,$b,$c])=>`([qV,$a,$b=none,$c])|`([EH])=>`(.str [ro])|`([ED])=>`([CF,ba _])|`([Ez])=>`([on,Unit])|`([Ey,$a])=>`(.bl [aK,$a])|`([Ev])=>`((cN K (.ref C) "__setattr__")=Z (Z [oD,"object.__setattr__"]))|`([Eu])=>`(X.stack=[Ot]∧(X.env.frame=Z X.env.locals))|`([Et,$a])=>`(az _ _ $a _ _ _)|`([Es,$a,$b])=>`(n_ $a $b X.env [ul,$a]=[ul,$a])|`([Er])=>`([[ca],"spots","marks","ends"])|`([Ep])=>`(2^k.place)|`([Eo])=>`(h_::outer)|`([El])=>`("next_row")|`([Ek])=>`(l.filter gm)|`([Ei,$a])=>`(⟨b7 _,$a⟩)|`([Eh,$a])=>`(Zh (aP F $a) m)|`([Eg,$a])=>`((S.kn e $a).1.ex)|`([Ed])=>`(h'.get? b)|`([Ec,$a,$b])=>`($a $b F.m F.sc F.d3)|`([Ea])=>`(Int×Int)|`([D_,$a])=>`($a X.env.scope x)|`([D9])=>`(List Vs.Shape)|`([DZ,$a,$b,$c])=>`(λ b o e=>$a b o $b $c)|`([DY,$a])=>`(dB (aJ $a) none (Z (-1)))|`([DX,$a,$b,$c,$d])=>`(match$a:term with|Z $b=>$c|none=>$d)|`([DW])=>`(["codes","signs"])|`([DV,$a,$b])=>`(∃u,mg $a=Z u∧bw $b u)|`([DR,$a,$b])=>`(⟨$a,[al],$b⟩)|`([DP,$a])=>`(sc.names.lookup $a)|`([DO])=>`(X.cV s3 L l ce t)
local macro_rules|`([Dv,$a])=>`(V.int [aN,$a])|`([Du])=>`([L9,?_])|`([Dr])=>`([Ak,2,J])|`([Do])=>`(Nat→Prop)|`([Dl])=>`(nT K C=true)|`([Dk,$a,$b,$c])=>`((($a).testBit $b)=true↔$c)|`([De,$a,$b])=>`([rf,$a,λ x a=>$b])|`([Dd,$a])=>`([ov,G.cZ.nd,$a])|`([Dc,$a])=>`([dF,Bool,$a])|`([Da])=>`(k _ _ [de] e)|`([C_,$a])=>`([ut,J,_,ax.of $a])|`([C9])=>`([er,V,[dF,Hp,VK]])|`([C8,$a,$b])=>`([Ad,$a,$b,E,s])|`([C6])=>`(eU m e sp)|`([C5])=>`(L∈F.U)|`([C2,$a,$b])=>`(s.TypeIs $a $b)|`([CZ,$a])=>`($a≤l.length)|`([CY])=>`(t.map ay)|`([CW,$a])=>`(DecidableEq $a)|`([CU,$a])=>`(G.cZ.na $a _ J)|`([CO])=>`(aD [bj])|`([CN,$a,$b,$c])=>`(⟨$a,$b _ _ $c⟩)|`([CJ,$a])=>`(Paired.length $a)|`([CI,$a,$b,$c,$d])=>`($a X (.BoolOp $b $c pos) $d)|`([CH])=>`(gn shs szs most ks)|`([CG,$a])=>`(bU K mg "Search" $a gk)|`([CF,$a])=>`(I.aH.fresh $a)|`([CD,$a,$b,$c,$d,$e])=>`(jC (K:=K) (λ _=>true) $a $b $c $d $e ?_)|`([CB])=>`(List.filter_eq_self.mpr [al])|`([Cy,$a,$b,$c,$d])=>`(.ListComp $a [⟨tg,iter,$b,0⟩] $c $d)|`([Cu])=>`(Hp→Prop)|`([Ct])=>`(aM X.prog X.w)|`([Fi,$a])=>`(.aj (cx [nr,$a]))|`([Fh,$a])=>`(($a).map V.bl)|`([Fg,$a])=>`(r.map λ k=>$a)|`([Fd])=>`(List [KW])|`([Fc,$a,$b,$c,$d,$e])=>`($a $b (by rfl) $c $d [jC,$e])|`([Fa])=>`([[ca],"stands","kind"])|`([E9])=>`([[ca],"needs",[Cb],"size"])|`([E7])=>`([[ca],[wG],[Cb],"size"])
local macro_rules|`([Av,$a])=>`(List.nodup_cons.mp $a)|`([Au,$a,$b])=>`([ar,$a]≤[ar,$b])|`([At,$a,$b,$c,$d,$e])=>`(bj $a λ v Y⟨x,$b,$c,$d,n⟩=>$e)|`([As,$a])=>`([Uq,s.toks+$a])|`([Aq,$a])=>`(X.env.cells.lookup $a)|`([Am])=>`([iH,ae])|`([Al,$a,$b])=>`({cls:=.type $a,data:=$b})|`([Ak,$a,$b])=>`(⟨[P8,$a≤aQ],$b⟩)|`([Cr,$a])=>`([aX,$a==iS])|`([Cq])=>`(Z [iv])|`([Cp])=>`([dL,?_])|`([Co])=>`(Array [Am])|`([Cm,$a,$b])=>`([qV,H,b≠$a,$b=Z o])|`([Cl])=>`(F.tg L [BT])|`([Ck,$a,$b])=>`(∀b,b≠$a→$b)|`([Ch,$a])=>`(bZ n λ k=>$a)|`([Cg])=>`(.ref e.kn)|`([Cf])=>`(.ref F.co)|`([Ce])=>`(.function)|`([Cd,$a,$b,$c])=>`(.Subscript $a $b $c)|`([Cc,$a])=>`(ie B m sc d3 $a)|`([Cb])=>`("words")|`([Ca,$a])=>`(ed List.length $a)|`([B_,$a])=>`(λ i j=>.int $a)|`([B9,$a])=>`(bU K mg "Kind" $a fR)|`([B7,$a,$b,$c,$d])=>`(iw $a (j:=$b) J J $c J $d)|`([B6,$a,$b,$c,$d])=>`($a=if$b then$c else$d)|`([B4,$a,$b,$c])=>`(au (f7 $a J (x:=$b) J $c))|`([B3])=>`(λ _ _=>J)|`([B2,$a])=>`(List.length_pos_iff.mpr $a)|`([B1])=>`(X.env.qual++"<lambda>")|`([B0,$a,$b])=>`([zk,$a,λ _ _ z=>$b])|`([BT])=>`([A5,F.ks,i])|`([Bk,$a,$b,$c])=>`(List.mem_map.mpr ⟨$a,$b,$c⟩)|`([Bj,$a,$b,$c,$d])=>`(∀(s:aq)(H:Hp)(C:ab)(N:List (Str×ab))(t:List ab),$a (X.cV s H $b (fk $b N C X.env) t) $c $d)|`([DD,$a])=>`(d0 (pv 0) (pv $a) J)|`([DB,$a,$b])=>`(aK $a [oH,$b])|`([Dz,$a,$b,$c])=>`([E5,$a,$b,$c,pv $a])|`([Dy,$a,$b])=>`(bM.of ($a _ _ $b))|`([Dw])=>`(V→[C9])
local macro_rules|`([zY,$a])=>`([lD,[lD,$a]])|`([zX])=>`([gX,b])|`([zW,$a,$b])=>`([aK,$a]=[aK,$b])|`([zV])=>`([[ca],[wG],"left","room"])|`([zQ])=>`(List Kd)|`([zP])=>`(λ _=>0)|`([zO])=>`(bV.mp e)|`([zN,$a])=>`(ik most $a)|`([zM,$a])=>`(df $a Pt W q)|`([zL])=>`(wipe w U)|`([zK])=>`("cluster")|`([zJ])=>`("enumerate")|`([zI,$a,$b])=>`(∀b∈$a,$b b=none)|`([zH,$a])=>`([er,$a,Prop])|`([zC,$a])=>`(bU K mg "Scanner" $a eM)|`([zB,$a])=>`(List.mem_flatMap.mp $a)|`([zA,$a])=>`(ah.refl $a)|`([zt,$a])=>`(List.mem_range.mpr $a)|`([zr])=>`(λ _ _ _ _ _ _ W X=>match W,X with|[_,_,_],_=>J)|`([Bi,$a,$b,$c])=>`(Vs.IsT (Vs.dr $a) $b $c)|`([Bh,$a,$b,$c])=>`([PJ,dj $a,$b,$c])|`([Bf,$a,$b,$c])=>`(Zh (aP (F.plus $a) $b) $c)|`([Be])=>`(Nat→[AW])|`([Bd,$a,$b])=>`([J2,$a,bB $b])|`([A9,$a,$b])=>`(.tup [nV $a,nV (gA l),V.ref $b])|`([A5,$a,$b])=>`(Vs.shapeAt $a $b)|`([A4,$a,$b])=>`(cE $a $b (by intro q;cases q))|`([A3])=>`([[ca],[wG]])|`([AW])=>`([xP,St])|`([AV,$a,$b])=>`([db,($a :Str),⟨$b⟩,[bB]])|`([AU])=>`(W.drop i)|`([AT])=>`(prev W i)|`([AQ])=>`(S.xd x A)|`([AO])=>`(PE X a ta)|`([AE,$a])=>`(r.length≤$a)|`([AD,$a])=>`(Vs.cF F.ks $a)|`([AC])=>`("__init__")|`([Az])=>`("weights")|`([Ay])=>`(λ _ _=>False)|`([Aw,$a])=>`(l.names.lookup $a)
local macro_rules|`([wH,$a,$b])=>`(at_of (j:=$a) J $b)|`([wG])=>`("taken")|`([wF])=>`(Vs.bS k.bl)|`([wE])=>`(x.place+x.count)|`([wD])=>`(min g.nums.length most)|`([wC,$a])=>`((false,eval $a X.env))|`([wB,$a,$b,$c])=>`(List.mem_flatMap.mpr ⟨$a,$b,$c⟩)|`([wA])=>`(λ _ _ _ _ _ _ W X=>match W,X with|[_],_=>J)|`([zn,$a])=>`((h.get? a)=Z $a)|`([zm])=>`(["kinds"])|`([zl])=>`(Z (.tup N))|`([zk,$a,$b])=>`(Paired.dE $a $b)|`([zj,$a])=>`(a_ [dL,$a])|`([zh,$a,$b,$c])=>`(⟨_,J,$a,J,$b,$c⟩)|`([zg,$a,$b])=>`([J4,$a,$b,.nil])|`([zf,$a,$b,$c])=>`(.inr ⟨$a,$b,$c⟩)|`([ze,$a,$b,$c])=>`($a [vY,$b≤$c] [bj])|`([y_])=>`(List a9)|`([y9,$a])=>`(s1.trans $a)|`([y8])=>`(jn K mg F)|`([yx])=>`([ar,1])|`([yw,$a])=>`(cj gj $a bu)|`([ym,$a])=>`(Vs.bZ n $a)|`([yj,$a])=>`(∀i∈$a,i<n)|`([yi,$a])=>`(names.zip $a)|`([yg,$a])=>`(⟨$a,[]⟩)|`([yf])=>`(λ k C=>?_)|`([x_])=>`("stand")|`([xY])=>`([Ur,I])|`([xX,$a])=>`(V.int [ar,$a])|`([xQ,$a,$b])=>`(bE (i:=$a) nd J (aR J) $b)|`([Aj])=>`([vW,1])|`([Ag,$a])=>`(bY [vo,$a])|`([Ae,$a,$b])=>`($a→Q [bi] $b)|`([Ad,$a,$b,$c,$d])=>`(az [pr] A $a $b $c $d)|`([Ac])=>`(Z (.ref d))|`([Ab])=>`(sp.2.2.2)|`([Aa,$a])=>`([or,$a,_,_])|`([z_,$a,$b])=>`([rg,[rc,$a],$b])|`([zZ,$a,$b])=>`(($a).map λ x=>$b)
local macro_rules|`([vX])=>`(dv [Ot])|`([vW,$a])=>`(bF (pv $a) J)|`([vo,$a])=>`([aN,2^$a])|`([vn])=>`([[ca],[x_],"shape"])|`([vl,$a,$b])=>`((aX $a $b).symm)|`([vk,$a,$b,$c,$d])=>`(⟨$a,$b _ _ $c,$d⟩)|`([vh,$a])=>`(.fields $a)|`([vg])=>`(cs.count k)|`([u9,$a,$b])=>`(s.heap.IsList $a $b)|`([u8,$a,$b,$c,$d])=>`(H $a=none→$b→$c→$d)|`([ut,$a,$b,$c])=>`(.inl ⟨$a,$b,$c⟩)|`([um,$a,$b,$c,$d])=>`(if$a then$b $c else$d)|`([ul,$a])=>`(eval $a X.env)|`([wz,$a])=>`([dF,Nat,$a])|`([wx,$a,$b])=>`([rc,$a].map $b)|`([ww,$a])=>`((dC K b_ $a)=(Z none))|`([wv,$a])=>`([dj,$a].symm)|`([wu,$a,$b])=>`(hr.mono [vY,$a≤$b])|`([ws])=>`(List Gr)|`([wq])=>`(["text"])|`([wo,$a,$b])=>`(fY most $a $b)|`([wn])=>`(Z .local)|`([wl])=>`(h.Ns b_ mg)|`([wk])=>`(["sounds"])|`([wh])=>`(Nat×Nat)|`([wg])=>`(A.handled=none)|`([wf,$a])=>`(b9 (i:=$a) nd J (aR J))|`([we,$a,$b,$c,$d])=>`([NZ,$a,aR J,$b,aK $c $d])|`([xP,$a])=>`([dF,$a,Hp])|`([xO])=>`([QH,x])|`([xL])=>`(["codes"])|`([xz,$a])=>`([Op,gv,pv $a])|`([wY,$a,$b])=>`(az [Ct] $a $b Q E s)|`([wW,$a,$b,$c])=>`(cm $a $b $c (ck _))|`([wT,$a])=>`(I.tuple $a)|`([wS])=>`(["word"])|`([wP])=>`(λ z=>?_)|`([wO,$a])=>`($a<ks.length)|`([wK])=>`(List Env)|`([wJ,$a,$b])=>`(⟨$a,($b).2⟩)
local macro_rules|`([pT,$a,$b,$c,$d,$e,$f,$g,$h])=>`(de $a $b $c $d $e $f .nil bH (ak $g $h))|`([pQ])=>`([K0,.ref])|`([sG])=>`([[bi]])|`([sB])=>`([iH,ab])|`([sw])=>`([iH,Int])|`([su,$a,$b])=>`([f8,u,_,$a,$b])|`([rJ,$a])=>`([tJ,_,$a])|`([rG,$a,$b])=>`(bV.mpr ⟨$a,$b⟩)|`([rF])=>`([[ca],"row"])|`([rE,$a])=>`(Y.trans $a)|`([rD,$a])=>`(.Name x $a)|`([ry])=>`("list")|`([rw])=>`(I.tok _)|`([rs])=>`(.ref sa)|`([rq,$a,$b,$c,$d])=>`(.inr ⟨$a,$b,$c,$d⟩)|`([rp,$a])=>`(⟨$a,?_⟩)|`([ro])=>`(⟨#[c]⟩)|`([rh])=>`(k.place+k.count)|`([rg,$a,$b])=>`(($a).flatMap $b)|`([rf,$a,$b])=>`(λ w H Q=>$a w H $b)|`([rc,$a])=>`(List.range $a)|`([qV,$a,$b,$c])=>`([pO,$a b,$b→$c])|`([qU,$a,$b])=>`({s with heap:=$a,toks:=$b})|`([uk])=>`(List (κ×V))|`([uj,$a,$b])=>`([ug,pv $a,$b])|`([ui])=>`(Z [lf])|`([uh,$a])=>`(![aK,$a])|`([ug,$a,$b])=>`(ak $a (ak $b aB))|`([uf,$a])=>`([pO,[gX,b],$a=Z o])|`([t9])=>`(nV most)|`([tY])=>`(.ref sc)|`([tX,$a])=>`(eO F ay $a)|`([tW])=>`(I.ok.hd V)|`([tO])=>`(bK [ac])|`([tN])=>`(["hits","runs"])|`([tJ,$a,$b])=>`(⟨$a,$b,J⟩)|`([sK,$a,$b,$c,$d,$e,$f])=>`($a (K:=K) (a:=$b) (xs:=$c) $d $e $f ?_ ?_)|`([v0])=>`([iH,Nat])|`([vZ,$a,$b,$c])=>`([wW,$a,pv $b,$c])|`([vY,$a])=>`(show$a by omega)
local macro_rules|`([lD,$a])=>`(.inr (.inr $a))|`([on,$a])=>`([dF,$a,aq])|`([ol])=>`(List m)|`([nM,$a])=>`(K.lookup $a)|`([nG])=>`(List Syl)|`([nF])=>`(F.with X)|`([nr,$a])=>`(bG $a l [])|`([nk,$a])=>`(Y.heap.objs.size+$a)|`([oM,$a])=>`(bf $a [bj])|`([oH,$a])=>`(aN (bB $a))|`([oE,$a])=>`([cE,H,$a])|`([oD,$a])=>`(.builtin $a)|`([oC,$a])=>`(V.str (tx $a))|`([oB,$a,$b])=>`(cE $a $b (by intro z;cases z))|`([ov,$a,$b])=>`(lk $a (i:=$b) J _)|`([or,$a,$b,$c])=>`([pH,$a,true,$b,$c])|`([pp])=>`([io,ab])|`([pi,$a])=>`(S.get? $a)|`([pc,$a])=>`(cO $a X.env)|`([o0,$a])=>`(.cons $a .nil)|`([oW])=>`(λ _ _ _ _ _ _ W X=>match W,X with|[_,_],_=>J)|`([pO,$a,$b])=>`(∀b o,$a=Z o→$b)|`([pN,$a])=>`([qU,$a,G])|`([pM])=>`([eD,J])|`([pL,$a,$b])=>`([aK,$a≤$b])|`([pH,$a,$b,$c,$d])=>`(if$a=$b then$c else$d)|`([pF,$a])=>`(Vs.cg (Vs.b0 F.ks) $a)|`([pD,$a])=>`([eD,ax.of $a])|`([pv,$a,$b])=>`(⟨$a,$b,?_⟩)|`([pu])=>`(dM _ J)|`([pr])=>`(aM prog w)|`([qP,$a,$b,$c])=>`([f8,($a).2,b,$b,$c])|`([qv])=>`(ks[i]?)|`([qu])=>`(λ x A=>?_)|`([qp])=>`(λ p R=>?_)|`([qe,$a])=>`(l.length≤$a)|`([p_])=>`(X.calm=true)|`([p0,$a])=>`($a<F.ks.length)|`([pW])=>`(h.get? b)|`([pU,$a])=>`($a<s.heap.objs.size)
local macro_rules|`([jb,$a,$b])=>`($a=true∧$b)|`([iZ,$a,$b,$c])=>`(az (aM X.prog X.w) X.A $a $b X.xe $c)|`([j0,$a,$b,$c])=>`(ag $a $b (.tup $c))|`([jU,$a])=>`([ov,T.nd,$a])|`([jT])=>`(List (Key×V))|`([jS,$a,$b,$c,$d,$e,$f])=>`([cj,$a,$b,$c,$d,$e∧$f])|`([jC,$a])=>`(ak (pv $a) aB)|`([jB,$a])=>`(T.na $a _ J)|`([jz])=>`(.vowel g)|`([jp,$a,$b,$c,$d])=>`(⟨$a,$b,$c,J,$d⟩)|`([jl,$a,$b])=>`(.inr ⟨$a,$b⟩)|`([lm,$a])=>`($a≤1000)|`([lk,$a,$b,$c,$d,$e,$f,$g])=>`([jS,$a,$b,$c,$d,$e,$f∧$g])|`([li,$a,$b,$c])=>`(eP K mg $a $b $c)|`([lf])=>`(.ref l)|`([lc])=>`(Array ae)|`([kw])=>`(List Bool)|`([j5,$a])=>`(Value.ref $a)|`([j4,$a,$b])=>`(Inv X pins σ $a $b)|`([lC,$a])=>`(.str (tx $a))|`([lB,$a,$b,$c])=>`(Inv X B $a $b $c)|`([lA])=>`(Z (.ref a))|`([lz])=>`(.inl h)|`([ly])=>`(List bc)|`([lx])=>`([ar,i])|`([lv,$a])=>`(Vs.cT I $a)|`([lu])=>`(bW [ac])|`([ln,$a])=>`({s with heap:=$a})|`([nj,$a])=>`([ap,aC,$a])|`([ni,$a,$b])=>`(ag $a $b (.aj []))|`([nh,$a,$b])=>`(ax.of ($a _ _ $b))|`([m_])=>`(List [wh])|`([m6])=>`([[ca],[x_]])|`([mu,$a,$b,$c,$d,$e,$f,$g])=>`(bI K $a $b $a $c $d $e $f [[ca],$g])|`([mt,$a])=>`(I.list $a)|`([mn])=>`(.cons c)|`([mj])=>`("number")|`([mh])=>`(List Vs.a8)|`([md,$a])=>`(⟨J,$a⟩)|`([lG])=>`(List Vs.Spot)
local macro_rules|`([dF,$a,$b])=>`($a→$b→Prop)|`([d0,$a])=>`([J0,$a].1)|`([dU])=>`(.ref f)|`([dS])=>`(List Sound)|`([dL,$a])=>`(⟨_,J,$a⟩)|`([em])=>`(cY [bB] _)|`([d9,$a])=>`(List.mem_cons.mp $a)|`([d6,$a])=>`(List.mem_append.mp $a)|`([er,$a,$b])=>`(List $a→$b)|`([eq])=>`([vW,0])|`([e9,$a])=>`(by rw[27,$a:term])|`([eY,$a,$b,$c,$d,$e])=>`(Def K mg $a $b $c $d $e)|`([eJ,$a])=>`(⟨$a,J⟩)|`([eD,$a])=>`(⟨_,$a⟩)|`([fy,$a])=>`(by rw[$a:term];rfl)|`([ff,$a,$b,$c])=>`(⟨$a,$b,J,$c⟩)|`([e_,$a,$b])=>`(inClass (top $a) $b)|`([f8,$a,$b,$c,$d])=>`(($a $b $c).trans $d)|`([fQ,$a])=>`([C8,$a,Q])|`([fz,$a,$b])=>`(($a $b).length)|`([gj,$a,$b])=>`(Z (.ins $a W $b))|`([gh,$a,$b])=>`(absurd $a $b)|`([ge])=>`(s.heap.objs.size+1)|`([gM,$a,$b,$c,$d,$e,$f,$g])=>`(bI K $a $b $a $c $d $e $f $g)|`([gL])=>`(dt P w)|`([gv])=>`(.ref C)|`([gt,$a])=>`([V.ref $a])|`([ib,$a])=>`(cN K [gv] $a=(Z none))|`([hJ,$a,$b,$c,$d])=>`(⟨$a,$b,J,$c,$d⟩)|`([gX,$a])=>`(s.heap.get? $a)|`([im,$a])=>`(Z (V.ref $a))|`([ii,$a])=>`($a→Bool)|`([iW,$a,$b,$c,$d])=>`([eY,$a,$b,f,$c,$d])|`([iI,$a,$b])=>`([Bk,$a,$b,J])|`([iH,$a])=>`(Option $a)|`([iF])=>`(List (Tr×V))|`([iw])=>`([lB,w,H,s])|`([iv])=>`(.ref p)|`([io,$a])=>`(List (Str×$a))|`([jh,$a,$b])=>`(by rw[$a:term,$b:term];rfl)
local macro_rules|`([ak])=>`(List Nat)|`([al])=>`(by simp)|`([ap,$a,$b])=>`(by rw[$a:term];exact$b)|`([ar,$a])=>`(($a :Int))|`([aw])=>`(List V)|`([aB,$a])=>`(by simpa using$a)|`([aK,$a])=>`(decide $a)|`([aV])=>`(List ab)|`([aT])=>`([on,ae])|`([aN,$a])=>`([ar,($a :Nat)])|`([a_])=>`(Str→[iH,ae])|`([aX,$a])=>`($a=false)|`([bd])=>`(List Str)|`([bi])=>`(.ref a)|`([bj])=>`(by decide)|`([bn,$a])=>`(by simp[$a:term])|`([bu])=>`(List ae)|`([bp])=>`(List KE)|`([bv])=>`(List Int)|`([bB])=>`(by decide+kernel)|`([bF])=>`(List (ab×Obj))|`([bE,$a])=>`(List.mem_map.mp $a)|`([bH])=>`([j4,H,s])|`([bV])=>`(⟨J,J,J,[bB],J,[bB],[bB]⟩)|`([b8,$a])=>`(Z (.ref $a))|`([b9,$a,$b])=>`(($a).length=$b)|`([ca])=>`("self")|`([cj,$a,$b,$c,$d,$e])=>`($a∧$b∧$c∧$d∧$e)|`([cm,$a,$b])=>`(by rw[23,$a:term,$b:term])|`([ck,$a,$b])=>`(($a).length≤$b)|`([cI,$a,$b,$c,$d,$e])=>`($a→$b→$c→$d→$e)|`([cE,$a,$b])=>`(ah.aT (ah.refl $a) $b)|`([cX,$a,$b])=>`([ap,ar $a,$b])|`([cQ])=>`(Nat→Nat)|`([cY])=>`([ar,n])|`([de])=>`(.inl J)|`([db,$a,$b,$c])=>`(show$a=$b from$c)|`([dj,$a])=>`(Option.some.inj $a)|`([dE])=>`([iH,V])|`([dA])=>`(List Vs.Kd)
local macro_rules|`([ac])=>`(by omega)
local macro_rules|`(tactic|rw[230,$a:term,$b:term,$c:term,$d:term,$e:term,$f:term,$g:term])=>`(tactic|(
 have q:=$a;by_cases s:[Us];·refine .inr ⟨$b,P (i+1),$c,$d⟩;obtain⟨e,y⟩:=y;subst e;exact$e
 ·rw[45,i=xs.length,[ac]];exact .inl ⟨$f,$g⟩))
local macro_rules|`(tactic|rw[234,$a:term,$b:term,$c:term,$d:term])=>`(tactic|(
 have td:=$a;refine mn td λ r s6⟨hr,I6⟩=>?_
 subst hr;have I7:$b :=$c;have nC:V s3.heap.objs.size=none:=by have z:V ce.locals=none:=I6.free;rw[cL]at z;exact z
 obtain⟨m,hn,_⟩:=I6.loc;have hn:s6.heap.Ns ce.locals m:=hn;rw[cL]at hn;exact$d))
local macro_rules|`(tactic|rw[235])=>`(tactic|(
 simp only[vM,HT.bz,Option.getD_none,show[ar,1]>0 by decide,il];by_cases h:i<0;·simp only[h,il]<;>omega
 ·simp only[h,iE]<;>omega))
local macro_rules|`(tactic|rw[249,$a:term,$b:term,$c:term,$d:term])=>`(tactic|(
 rcases m6 c with⟨j,u,rfl,rfl⟩|⟨y,u,rfl,rfl⟩;·rw[$a:term]at h;exact$b
 ·rw[$c:term]at h;exact$d))
local macro_rules|`(tactic|rw[256,$a:term,$b:term])=>`(tactic|(
 by_cases r:j≤W.length;·rw[yJ r]
 ·rw[Jd [ac],sO $a,sO $b]))
local macro_rules|`(tactic|rw[264,$a:term,$b:term,$c:term])=>`(tactic|(
 rw[125];obtain⟨i,j,rfl,q⟩:=h;obtain⟨u,m,rfl,⟨t,rfl⟩,⟨Y,rfl⟩⟩:=vals2 r;refine$a [tW] λ S G k=>⟨_,H,$b,?_,q⟩
 by_cases U:$c;·rw[aI U,aI U];rw[0,_,J]
 ·rw[aD U,aD U];rw[0,_,J]))
local macro_rules|`(tactic|rw[268,$a:term,$b:term])=>`(tactic|(
 rw[List.mem_filterMap];rw[5]
 ·rintro⟨w,T,e⟩;cases w with
   |nil=>simp[$a:term]at e
   |cons c r=>
    simp only[$a:term]at e;split at e;·rename_i h;rw[6,e,$b:term]
    ·cases e))
local macro_rules|`(tactic|rw[270,$a:term,$b:term])=>`(tactic|(
 intro B s a H x y v u Q I L A h;obtain⟨p,N,rfl,D,b,fs,q⟩:=h;cases A;rcases D with D|D;·rw[231,I.list,$a:term,d.isList,wB L b r fs w [aB,T]]
 ·rw[231,I.tuple,$b:term,d,wB L b r fs w [aB,T]]))
local macro_rules|`(tactic|rw[271,$a:term,$b:term,$c:term,$d:term,$e:term,$f:term])=>`(tactic|(
 obtain⟨b,hb,hky⟩:=hys $a kk vv $b;have e:(Y.map (·.1))[$a]?=Z kk:=[jh,cJ,$b];have e2:($c)[$a]?=$d :=by rw[←e,hk2];rfl
 rw[cJ,$e:term]at e2;have e3:$f :=[dj,e2];subst e3))
local macro_rules|`(tactic|rw[272,$a:term])=>`(tactic|(
 refine⟨λ _=>?_,λ h=>by rw[43,q]⟩;have G:s=r.reverse++[jz]::$a :=by rw[u,e];simp
 rw[4,H,J0 G λ Q cs=>by simp[ft,gJ]]))
local macro_rules|`(tactic|rw[277,$a:term])=>`(tactic|(
 intro A;rcases ib.mp A with rfl|rfl|rfl|rfl|⟨e,R,rfl|rfl⟩|A;·rw[218,S.k1]
 ·rw[218,S.k2]
 ·obtain⟨_,q⟩:=S.k3;rw[h]at q;cases q
 ·rw[218,S.tab]
 ·obtain⟨_,_,_,_,_,q,_⟩:=[Eg,R];rw[h]at q;cases q
 ·obtain⟨_,_,_,_,_,_,q,_⟩:=[Eg,R];rw[90,h]
 ·rw[56,$a:term,A];rw[h]at q;cases o<;>cases q))
local macro_rules|`(tactic|rw[278])=>`(tactic|(
 split;·exact h
 ·rename_i n;rw[13,k0,[DR,h,λ a ha b K e=>?_]];simp at K;subst K;subst e;exact n ha))
local macro_rules|`(tactic|rw[280,$a:term,$b:term])=>`(tactic|(
 by_cases hf:b∈fs;·obtain⟨s,e2⟩:=k.slot b _ e1 hf;rw[0,$a:term,e2]
 ·rw[0,$b:term,k.keep b _ e1 (.inl (j b o q)) hf]))
local macro_rules|`(tactic|rw[289])=>`(tactic|(
 by_cases g:a=45;·subst g;rw[17]
 ·by_cases r:a=117;·subst r;rw[17]
  ·simp[g,r];omega))
local macro_rules|`(tactic|rw[301,$a:term,$b:term])=>`(tactic|(
 refine Dd lk $a S n λ A outer s H U Q E u i=>?_
 obtain⟨t,h,q⟩:=$b;rw[1,t,h.jZ,q]))
local macro_rules|`(tactic|rw[302,$a:term,$b:term,$c:term,$d:term,$e:term,$f:term,$g:term,$h:term])=>`(tactic|(
 have nqD:q≠$a :=[vl,$b,hq];have sq:jk $c $d :=λ b xs e=>by rw[12,ar $e,ar (aX e hq),e]
 rw[18,W++[$f],$g:term,[jh,dh,$h],?_]))
local macro_rules|`(tactic|rw[304])=>`(tactic|(
 rename_i h;rw[5];·exact .inl
 ·rintro(z|z);·exact z
  rw[11,z,h]))
local macro_rules|`(tactic|rw[306,$a:term,$b:term,$c:term])=>`(tactic|(
 rw[$a h];rw[30,p.1,j];·rw[lC (p:=$b) e,lC e,sX,$a $c]
 ·rw[lD (p:=$b) e,lD e,T]))
local macro_rules|`(tactic|rw[308,$a:term])=>`(tactic|(
 rw[30,j,i];·subst e;rw[hJ];rw[A]at a;rw[6,a,s]
 rw[11,gL e,$a j y a]))
local macro_rules|`(tactic|rw[328,$a:term,$b:term,$c:term])=>`(tactic|(
 refine⟨W,λ A outer s H args us U Q E a M hb r i=>?_⟩;have hl:=W _ _ _ _ i;have KX:[TJ]:=M.mod.tZ.keeps (λ b o e=>(M.bs b o e).1);have R:s.heap.NoLimit:=M.mod.nolimit.keeps (λ b o e=>(M.bs b o e).1);have Y:(∀y∈c.zip us,[Aw,y.1]=[wn]∨([Aw,y.1]=(Z .cell)∧((fj [ge] l.names []).lookup y.1).isSome=true)):=(λ⟨n,v⟩hy=>by rcases S.par n (BG hy).1 with q|q;rw[2,.inl q,[jl,q,RB _ _ _ (.inl q)]]);rw[3,codeAny_call_function a.depth (KX _ _ lk) rfl S.co S.gen rfl (PySem.W.codeRec_of KX F) (hb _ _ _ _ ?_),wpAny_newFunctionEnv_cells S.kind Y λ env he s1 x=>?_];subst he;refine⟨R.keeps x.toInCall.keep,codeAny_func ?_⟩;obtain⟨t,ht,hq⟩:=$a;have I:Inv $b [] (start N U) H s1:=LQ S a.hd M hl r x;refine gG $c (λ fl d G=>?_) λ e d G=>G
 have C:(∀{g:St}{m:Hp}{v:V}{u:ae},(Inv $b [] g m d→bw v u→Q v m→(CE outer P w H s Q u d))):=(λ{g m v u}J O q=>⟨v,m,J.os,J.bare,J.base,J.aH,O,q⟩);cases fl with|ret u=>obtain⟨v,g,m,J,O,q⟩:=G;exact C J O q|next=>obtain⟨g,m,J,q⟩:=G;exact C (v:=V.bh) (u:=Value.none) J rfl q|brk=>obtain⟨_,_,_,q⟩:=G;exact js q|cont=>obtain⟨_,_,_,q⟩:=G;exact js q))
local macro_rules|`(tactic|rw[329,$a:term,$b:term,$c:term,$d:term,$e:term])=>`(tactic|(
 obtain⟨it,t,tn,J,M,e,I2,T,st2,f2,q⟩:=h2;subst e;refine nU (Md ?_) (by rw[84,0]);generalize hD:$a=D;have hDn:M D=none:=I2.aH.fresh (mP hD);obtain⟨W,⟨m0,w0⟩,turn⟩:=q D hDn;generalize hs3:({$b with heap:=$c [Al,[ry],.seq [Fu,ae].toArray]}:aq)=s3;have I3:$d :=by rw[←hs3];refine(I2.laid (t':=$e) [FD,e] (mP hD) ⟨b7 _,[],0,.nil,?_⟩);rw[23,hD,dM _ rfl]
 have h3:s3.heap=$c [Al,[ry],.seq [Fu,ae].toArray]:=by rw[←hs3]
 have sz:∀b∈t,b<$a :=(λ b K=>by obtain⟨o,e,_⟩:=T.obj _ _ st2 b K;exact bR e)))
local macro_rules|`(tactic|rw[331,$a:term,$b:term,$c:term,$d:term,$e:term])=>`(tactic|(
 rw[112,$a:term,[Fj]];·obtain⟨p,W,d,rfl,_⟩:=h;rfl
 obtain⟨p,W,d,rfl,R,q⟩:=h;rw[24,_,aK [DD,1] (aK $b (aN $c))];have M:[T7,$d]:=[al];rw[M]at R;refine[W1,R,$e];rw[12,iW,iW,q]))
local macro_rules|`(tactic|rw[332,$a:term,$b:term,$c:term])=>`(tactic|(
 rw[137,xs.length];have q:=X i w H O p;by_cases s:[Us];·refine[rq,$a,P (i+1),λ d b E=>[T_],λ x b y=>?_];obtain⟨e,y⟩:=y;rw[89,$b:term]
 ·have e:i=xs.length:=(by omega);rw[145,$c:term,c]))
local macro_rules|`(tactic|rw[334,$a:term,$b:term,$c:term,$d:term,$e:term])=>`(tactic|(
 refine mn ti λ r s6⟨u,hr,h6⟩=>?_
 subst hr;refine(mn h6 λ _ s7⟨x,H7,I7,r7,y7,S,n7⟩=>?_);have I7':=I7.pinned ($a I7 n7) (T.obj _ _ S);rw[3,mn (pg _ s7 _ H7 x u _ I7' r7 (step x H7 y7)) λ _ s8⟨R,H8,I8,hw8,q8⟩=>?_,mn (pt _ s8 R H8 _ I8 q8) λ b s9⟨H9,I9,q9⟩=>?_];have fin:(∀{d:aq}{a:Hp},Inv [DO] ([]++ub t s7.heap) R a d→Nx a→∃m,m<n∧∃i a,$b∧tn i d.heap∧[zI,t,a]∧W i m a):=$c;cases b with|false=>simp only[ki,iE]at q9⊢;exact fin I9 q9|true=>simp only[il]at q9⊢;rw[79,$d:term,Mf (X:=[DO]) $e hD10 hz10 r10 λ s11 I11=>fin I11 nx]))
local macro_rules|`(tactic|rw[337,$a:term,$b:term,$c:term])=>`(tactic|(
 intro B s w H U W Q I r h;obtain⟨a,d,rfl,G,q⟩:=h;obtain⟨m,O,c,_⟩:=[mt,G];rw[be.pU r];have K:=O.Dv;refine$a (Dw c.isList λ j e2 L l=>?_);subst e2;rw[3,$b:term,⟨.bl _,H,(I.kept λ b o i=>C b o (λ f=>?_) (cG _ i)),?_,q⟩]
 ·rcases[d9,f]with e1|f;·rw[8,e1▸bR i,g8 _]
  ·cases f
 ·show pl _=pl _;rw[←$c:term,K,dN,aC]))
local macro_rules|`(tactic|rw[338,$a:term,$b:term,$c:term])=>`(tactic|(
 have S2:bA (F.plus a) j C:=N.st;have a2:j a=Z (.aj (aJ t)):=[f8,N.xs,a,cq,a1];have z2:ah (Zh (aP F g) H) (Zh (aP F C) j):=([rE,N.z].trans ym);have R:[abc,C]:=λ i e h=>by obtain⟨e1,q1,q2,q3,q4⟩:=$a;obtain⟨e2,p1,p2,p3,p4⟩:=$b;rw[9,e2,p1,p2.trans q2,p3.trans q3,q4.trans p4]
 have x2:[M3,j]:=λ x d=>((N.xs x (cp _ d)).trans $c)))
local macro_rules|`(tactic|rw[339,$a:term])=>`(tactic|(
 rw[30,p.1,k]
 ·have f:q.1=k:=g.symm.trans e;have b:$a (q::d) k=Z q.2:=by simp[$a:term,vC,f]
  rw[12,lC e,b,a]
 ·have f:¬q.1=k:=[aaf];have b:$a (q::d) k=$a d k:=by simp[$a:term,vC,f]
  rw[12,lD e,b,T]))
local macro_rules|`(tactic|rw[341,$a:term,$b:term,$c:term])=>`(tactic|(
 have ex:(V.int ($a+[lx]))=nV ($b+i):=by show(V.int _)=(V.int _);congr 1
 show iX $c (V.int ($a+[lx])) _ _ _;rw[ex]))
local macro_rules|`(tactic|rw[351,$a:term,$b:term,$c:term])=>`(tactic|(
 by_cases h:g=$a;·have K:(g==$a)=true:=beq_iff_eq.mpr h;simp only[qG,K,aI $b]
 ·have K:[aX,g==$a]:=[Mv,h];simp only[qG,K,aD $c]))
local macro_rules|`(tactic|rw[362,$a:term])=>`(tactic|(
 show$a=[aN,[Uy,v,v.toNat]];by_cases y:v<0;·rw[85,aI y]
 ·rw[85,aD y]))
local macro_rules|`(tactic|rw[363,$a:term,$b:term,$c:term])=>`(tactic|(
 have M:$a :=[cm,$b,z];have f:[ck,cD Y k v,aQ]:=by rw[10,wG Y k v]
 refine$c))
local macro_rules|`(tactic|rw[366,$a:term,$b:term])=>`(tactic|(
 have st3:tn 0 s3.heap:=[OZ,T.keep,st2,[ap,h3,cG _ e]];have I4:=Me I3 ok hN $a;have pg:=[acp,hg];have pt:=ht s3 [ni,M,D] s3.heap.objs.size [Ye] t;have pe:=[acp,he];show mT _ _ $b [ZO] [adH];have nfp:∀b∈t,[ni,M,D] b=none:=λ b K=>($a b K).1.1
 generalize hce:[ZR]=ce at I4 pg pt pe⊢;have cL:ce.locals=s3.heap.objs.size:=by subst hce;rfl))
local macro_rules|`(tactic|rw[367,$a:term,$b:term,$c:term,$d:term])=>`(tactic|(
 rw[194];subst t T y;obtain⟨N,x,D,A⟩:=l;obtain⟨m,O,p,M⟩:=$a;obtain⟨u,n,ru⟩:=O.get A;obtain⟨U,C,f2,G,R,W⟩:=F q [al];refine$b L $c (x:=u) [aB,n] λ S Q sb=>?_
 rw[260,I.turned (t':=s.toks) (λ b o g e=>[qP,sb,g,e]) U C G R W,Q,λ ys j=>[ap,$d j D,A],Q,λ b g=>(F b g).1]))
local macro_rules|`(tactic|rw[371,$a:term,$b:term])=>`(tactic|(
 have U:C≠a:=by rcases ha with z|z;rw[11,z,$a:term];·exact λ e=>$b y a z e.symm
 refine⟨m,hn.sameBut sb U,λ h3 Y=>?_⟩;rw[21,_,c,I2.turned (t':=s2.toks) (λ b o K e=>[qP,Y,K,e]) f0 $a f3 $b f5,q]))
local macro_rules|`(tactic|rw[372,$a:term,$b:term,$c:term,$d:term])=>`(tactic|(
 have e0:(oj (tx l) ($a :Str)).map V.str=(cx [nr,$b]):=by rw[[AV,$a,$c],AV l $b [bj],cP];rfl
 refine$d;rw[e0]))
local macro_rules|`(tactic|rw[209])=>`(tactic|(
 rcases h.place with z|⟨_,z|⟨k,P⟩⟩;·omega
 ·rw[80,i]))
local macro_rules|`(tactic|rw[212,$a:term,$b:term,$c:term])=>`(tactic|(
 have S:names[$a]?=Z f:=by rw[60]
 have g:$b :=(λ z=>W.1 $c)))
local macro_rules|`(tactic|rw[225,$a:term,$b:term,$c:term])=>`(tactic|(
 rw[66,I.fn.ok,$a:term,[abn]];·obtain⟨p,X,sh,k,t,rfl,_⟩:=h;rfl
 obtain⟨p,X,sh,k,t,rfl,⟨W,R⟩,q⟩:=h;rw[48,$b:term,$c:term]))
local macro_rules|`(tactic|rw[229,$a:term,$b:term,$c:term])=>`(tactic|(
 ·rw[12,aI $a,aI $a,$b:term]
 ·rw[12,aD $a,aD $a,$c:term]))
local macro_rules|`(tactic|rw[2,$a:term,$b:term])=>`(tactic|(
 ·exact$a
 ·exact$b))
local macro_rules|`(tactic|rw[282])=>`(tactic|(intro X hP hw hK hc i B s σ H E I f L hg;subst hP hw hK;obtain⟨⟨C,R⟩,hZ,M,N,h1,h2⟩:=L))|`(tactic|rw[281])=>`(tactic|(intro X hP hw hK hc i B s σ H E I hf L hg;subst hP hw hK;obtain⟨M,t,⟨x0,y0,C⟩,g,r⟩:=L))|`(tactic|rw[279])=>`(tactic|(rw[e]at f;cases f;rw[d]at L;injection L with d1 _;have:m=g:=[aB,ed BO d1];rw[64,r.inj A]))|`(tactic|rw[276])=>`(tactic|(intro A E I h;unfold lO;rw[7,f7 M J (x:=f_ T) J ?_];show az _ _ (loadIfAlive [MY,T]>>=_) _ _ s;rw[7,Nr ?_]))|`(tactic|rw[275,$a:term,$b:term,$c:term])=>`(tactic|(subst t T y;obtain⟨N,D,A⟩:=l;obtain⟨m,O,p,M⟩:=$a;obtain⟨U,C,f2,G,R,W⟩:=F q [al];have hl:=O.length;exact$b [tW] L $c (by rw[17]) [Oy,[Y3],U,C,G,R,W]))|`(tactic|rw[274,$a:term,$b:term])=>`(tactic|(have q:=((R.mono (b7 n)).trans m);have l:=m.st;obtain⟨dx2,nu2,sh2,L⟩:=Y l;obtain⟨da,ha⟩:=o.at_;have ha:=bp _ _ ha;rw[3,$a:term,$b:term]))|`(tactic|rw[273])=>`(tactic|(obtain⟨N,e⟩:=O.allInts.items;have hn:numsOf (intItems N).toList=ns:=[cm,e,O.numsOf];rw[nums_intItems]at hn))|`(tactic|rw[269])=>`(tactic|(rw[70,(o==CmpOp.In)=false,by cases o<;>first|rfl|rw[8,J,h],(o==CmpOp.NotIn)=false,by cases o<;>first|rfl|rw[8,J,r]];cases b<;>simp[tj,e1,e2]))|`(tactic|rw[267,$a:term,$b:term,$c:term])=>`(tactic|(obtain⟨d,g,k1⟩:=S.k1;rw[152];refine$a;obtain⟨k,_⟩:=S.kn e R;obtain⟨W,L,K,G,D,v,w,_⟩:=id k.ex;exact k.mono (($b).trans v.symm) (($c).trans w.symm) z))|`(tactic|rw[266,$a:term])=>`(tactic|(obtain⟨p,G,rfl,R,q⟩:=l;obtain⟨_,m,A,o,g,f,n,j⟩:=(show cU P w H h p (.tup G)from E p _ R);rw[9,p,m.toArray,s,⟨o,g,f,n,j⟩,[aB,z_ E $a G m q A]]))|`(tactic|rw[265,$a:term,$b:term,$c:term,$d:term,$e:term])=>`(tactic|(intro B s w H Q I D;refine$a (bj $b λ W Y⟨N,a,c,r,z,q⟩=>[rp,[cm,r.length,$c]]);have F:a Y.heap.objs.size=none:=c.aH.fresh (ba _);rw[26,.ref Y.heap.objs.size,ag $d Y.heap.objs.size $e,c.laid (t':=Y.toks) (λ b u e=>cG _ e) (ba _) ?_,J,q _ F]))|`(tactic|rw[263,$a:term,$b:term,$c:term,$d:term,$e:term])=>`(tactic|(rw[122,[At,$a,d,r,f,?_]];obtain⟨a,e,⟨N,D⟩,q⟩:=n;subst e;cases f;obtain⟨m,O,p,M⟩:=$b D;rw[3,$c $d ?_,$e:term];rw[45,[Wd,b],[aB,K]];exact r.oE (ba _) (r.aH.fresh (ba _))))|`(tactic|rw[262,$a:term,$b:term,$c:term])=>`(tactic|(rw[185,hx];refine$a;have e:([aK,(V.int [LD,n,$b])=(V.int 0)]=$c):=Ei _;show[or,[aK,(V.int [LD,n,$b])=(V.int 0)],_,_];rw[e];cases z:$c:term with|true=>exact aV [dL,q1 z]|false=>exact a_ (q2 z)))|`(tactic|rw[261,$a:term,$b:term])=>`(tactic|(obtain⟨d,g,t,k1⟩:=$a;rw[h]at g;cases g;rw[102,[UB,F.U.map $b,t,by rw[186,A];obtain⟨L,e,b,_,rfl,_⟩:=k1 p R;exact[Bk,L,b,J]],aC,aC];exact(eR (bf this I.Ul) [bj])))|`(tactic|rw[260,$a:term,$b:term,$c:term,$d:term,$e:term])=>`(tactic|(have r:[lB,f,H,[ln,S]]:=$a;obtain⟨o,e,c,d⟩:=id $b;rw[1,u,J,wk (s:=[ln,S]) e c d [bj] ⟨x,H,r,ru,[md,$c],$d,$e⟩]))|`(tactic|rw[259,$a:term])=>`(tactic|(refine'$a;(case a=>k_is);(case pg=>k_is);(case hd=>k_is);(case po=>k_is);(case sa=>k_is);(case n0=>k_is);(case n1=>k_is)))|`(tactic|rw[258,$a:term,$b:term])=>`(tactic|(obtain⟨p,q,rfl,F,O⟩:=l;exact CF (t:=$a) F [ac] (λ I D=>$b) (S _ J)))|`(tactic|rw[257])=>`(tactic|(obtain⟨kv3,P⟩:=S.k3;obtain⟨kv1,h1,k1n,k1⟩:=S.k1))|`(tactic|rw[255,$a:term])=>`(tactic|(intro b B s w H Q I h;refine$a (bj (ha B s w H Q I h) λ c Y e=>?_)))|`(tactic|rw[254])=>`(tactic|(obtain⟨en,he,rfl⟩:=hv;obtain⟨k,v,C,rk⟩:=O j en he))|`(tactic|rw[253])=>`(tactic|(intro cs l;induction cs with|nil=>rfl|cons c cs T=>exact T))|`(tactic|rw[252])=>`(tactic|(refine'⟨VP.Q0 KX G ?e ?l⟩;(case e=>k_is);(case l=>k_is)))|`(tactic|rw[251])=>`(tactic|(obtain⟨x,rfl⟩:=h a [al];obtain⟨y,rfl⟩:=h b [al]))|`(tactic|rw[250,$a:term])=>`(tactic|(obtain⟨p,e,rfl,F,O⟩:=l;exact CH F (zt $a e.toList m O [ac]) h))|`(tactic|rw[248])=>`(tactic|(unfold cD;rw[aD];intro z;obtain⟨p,R,e⟩:=List.any_eq_true.mp z))|`(tactic|rw[247])=>`(tactic|(intro N e;cases e;intro x hx;simp at hx;rcases hx with rfl|rfl<;>rfl))|`(tactic|rw[246,$a:term])=>`(tactic|(obtain⟨W,x,n,A,en,g,⟨y,r,P⟩,⟨G,w,b⟩,⟨Y,H,R⟩,k⟩:=h.ex;exact$a))|`(tactic|rw[245,$a:term,$b:term])=>`(tactic|(obtain⟨m,⟨o,T,B,E,r⟩,_⟩:=id I.loc;obtain⟨Y,a⟩:=u.any E I.free $a;exact$b))|`(tactic|rw[244])=>`(tactic|(rw[List.count_eq_countP,List.countP_map,List.countP_eq_length_filter];rfl))|`(tactic|rw[243])=>`(tactic|(have d1:c_ a+1≤c_ (.cons a r):=BH _ _;have d2:c_ r≤c_ (.cons a r):=Sf _ _))|`(tactic|rw[242,$a:term,$b:term])=>`(tactic|(refine$a;rintro n s5⟨i,V,I5,st5,n5,w5⟩;rcases$b:term with⟨stop,qq⟩|⟨go,Nx,hNx,step⟩))|`(tactic|rw[241,$a:term])=>`(tactic|(refine Iu ?_ $a;intro p q o t z;obtain⟨v,g,i,C⟩:=U p o;obtain⟨V,j,N,F⟩:=U q t))|`(tactic|rw[240])=>`(tactic|(rw[yA (ja U)]at e2;obtain⟨u',r',q⟩:=hl j y v' e1 e2 e3;rw[24,u',r']))|`(tactic|rw[239])=>`(tactic|(intro X n T p V i B s a H E I F L j;subst n T p;obtain⟨U,q,f2,y,N,O⟩:=F m [al]))|`(tactic|rw[238,$a:term,$b:term,$c:term])=>`(tactic|(have K:=A.length;obtain⟨o,E,V,n,a⟩:=$a;exact call_list_seq p $b E V a (λ S c kp e=>$c) (by simp only[dN]<;>omega)))|`(tactic|rw[237,$a:term])=>`(tactic|(obtain⟨g,r,P,w⟩:=h;obtain⟨a,b,c,d⟩:=$a;simp only[gH]at g r P w⊢;subst g r P;rcases w with z|⟨z,_⟩))|`(tactic|rw[236,$a:term])=>`(tactic|(obtain⟨L,x,n,X,r,t⟩:=$a p R;obtain⟨y,k,y1,y2,y3⟩:=G x X;exact⟨L,y,n,k,by rw[r,y1],y2.trans t.1,y3.trans t.2⟩))|`(tactic|rw[233,$a:term])=>`(tactic|(intro o l B s b H x y v u Q I L A h G;obtain⟨p,N,i,z,rfl,rfl,D,R,q⟩:=h;cases L;obtain⟨t,rfl⟩:=A;obtain⟨m,r,f,M⟩:=$a D;obtain⟨j,g,a,P,e,k⟩:=LW R;obtain⟨w,n,V⟩:=r.get a;have c:=r.length;have hn:=zO;have C:EP X B b Q w s:=⟨z,H,I,V,q⟩))|`(tactic|rw[232,$a:term])=>`(tactic|cases f with|next=>rw[214,$a:term]|brk=>rw[214,$a:term]|cont=>rw[214,$a:term]|ret u=>obtain⟨v,a,m,I,r,q⟩:=h;exact⟨v,a,m,$a,r,q⟩)|`(tactic|rw[231,$a:term,$b:term,$c:term,$d:term])=>`(tactic|(obtain⟨m,r,d,M⟩:=$a D;refine$b (jy x) $c (λ w T=>$d) ⟨.bl _,H,I,J,?_⟩;rw[[ad4,jy x],wA r fs];exact q))
local macro_rules|`(tactic|rw[330,$a:term,$b:term,$c:term,$d:term,$e:term])=>`(tactic|(show az _ _ [XC,z] _ _ _;refine[B4,M,.bool false,?_];show[Et,$a>>=_];rw[3,[B4,M,[lf],?_],$b:term];show[Et,(lO (.ref z))>>=_];rw[7,$c:term];rw[136];rw[7,?_];rw[←IY];simp only[sY,BJ];rw[7,$d:term];show[Et,$e>>=_]))|`(tactic|rw[327])=>`(tactic|(rw[List.mem_reverse]at f;obtain⟨p,S,rfl⟩:=[bE,f]))|`(tactic|rw[326])=>`(tactic|(rw[dO,n9];rw[0,h.2.1.imp (λ q=>[bn,q]) id,h.2.2]))|`(tactic|rw[325,$a:term,$b:term])=>`(tactic|(obtain⟨v,w⟩:=a;obtain⟨V,d⟩:=b;rw[156,$a:term];have g:v=V:=[ac];rw[g,$b:term]))|`(tactic|rw[324])=>`(tactic|have esh:[BT]=(F.ks[i]).sh:=by unfold Vs.shapeAt;rw[ek])|`(tactic|rw[323])=>`(tactic|(have e:[Ki]=Z c:=e;rcases mem e with⟨g,_⟩|⟨g,_⟩))|`(tactic|rw[322,$a:term])=>`(tactic|(rw[18,m.toList,r,$a:term,?_];have e:=r.length;simp only[nR]at e;omega))|`(tactic|rw[321,$a:term,$b:term])=>`(tactic|(obtain⟨b',hb',hat⟩:=$a;rw[cJ,hb']at hb;have:b'=b:=[dj,hb];rw[64,$b:term]))|`(tactic|rw[320,$a:term])=>`(tactic|(obtain⟨j,U,ej⟩:=gY c;exact$a j d [e9,aC] (by rw[bX U,ej])))|`(tactic|rw[319])=>`(tactic|(obtain⟨_,_,_,_,o,_,_,e,ex,_⟩:=I.aH p _ C;rw[1,o,e,ex]))|`(tactic|rw[318])=>`(tactic|(rw[57,MS.fn.ok,Aj];·obtain⟨gs,i,e,B,b,r,rfl,_⟩:=h;rfl))|`(tactic|rw[317,$a:term,$b:term,$c:term,$d:term,$e:term,$f:term,$g:term,$h:term,$i:term])=>`(tactic|match i,$a:term with|0,F=>rw[6,$a:term,$b:term]|1,F=>rw[6,$a:term,$c:term]|2,F=>rw[6,$a:term,$d:term]|3,F=>rw[6,$a:term,$e:term]|4,F=>rw[6,$a:term,$f:term]|$g+$h,F=>simp[$i:term]at F)|`(tactic|rw[316])=>`(tactic|(intro h;obtain⟨b,K,h⟩:=[QM,h];obtain⟨S,v,h⟩:=[QM,h]))|`(tactic|rw[315,$a:term,$b:term])=>`(tactic|(rw[13,k0,[DR,$a,λ p hp q hq e=>?_]];simp at hq;subst hq;subst e;exact$b hp))|`(tactic|rw[314])=>`(tactic|(rw[15,⟨o,e,ex.1⟩,λ a e2=>?_];cases e2;rw[1,o,e,ex.2.1]))|`(tactic|rw[313,$a:term])=>`(tactic|(rw[List.eq_replicate_iff];rw[15,$a:term,[qu]];obtain⟨d,_,rfl⟩:=[bE,A]))|`(tactic|rw[312,$a:term,$b:term])=>`(tactic|(by_cases U:j=i;·subst U;rw[O]at e1;cases e1;rw[$a:term]at e2;cases e2;rw[1,u,r,$b:term]))|`(tactic|rw[311])=>`(tactic|(refine' VP.Q3 ?l ?v ?n;(case l=>k_is);(case v=>rfl);(case n=>rfl)))|`(tactic|rw[310])=>`(tactic|(have h:t∈[rg,g.zipIdx,_]:=h;obtain⟨⟨w,i⟩,O,D⟩:=[zB,h]))|`(tactic|rw[309,$a:term])=>`(tactic|(obtain⟨v,w,i⟩:=a;obtain⟨V,d,N⟩:=b;rw[156,$a:term];obtain⟨g,r,P⟩:=h))|`(tactic|rw[307,$a:term,$b:term])=>`(tactic|(have V:c≠32:=h c [al];show[J9,c=32,_,splitOn,$a,w++[c]]=_;rw[aD V,$b:term];simp))|`(tactic|rw[305,$a:term,$b:term])=>`(tactic|(rcases h with h|⟨g,b⟩;rw[2,[ff,m,r,[lz]],[ff,m,r,[jl,g,($a).mpr $b]]]))|`(tactic|rw[303])=>`(tactic|(obtain⟨z,L,l,o⟩:=j;obtain⟨S,e,G⟩:=k z L o;rw[37,S,e,z,L,l,G]))|`(tactic|rw[300,$a:term])=>`(tactic|obtain⟨p,G,rfl,R,k⟩:=(show∃p G,c=[iv]∧H p=Z (.tup G)∧eI H $a G from g))|`(tactic|rw[299])=>`(tactic|(refine'⟨⟨?pg,?hd,?po,?sa⟩,?ha,?hn,?pP,?hm,?nA⟩;(case pg=>k_is);(case hd=>k_is);(case po=>k_is);(case sa=>k_is);(case ha=>k_is);(case hn=>k_is);(case pP=>k_is);(case hm=>k_is);(case nA=>rfl)))|`(tactic|rw[298])=>`(tactic|(intro X r T t V i B s σ H E I F L j;subst r T t;obtain⟨⟨C,R⟩,G,n⟩:=L))|`(tactic|rw[297,$a:term,$b:term,$c:term])=>`(tactic|(subst f;obtain⟨d,r,g,M⟩:=$a;have K:=r.length;exact$b $c (by rw[85,dN]) ⟨H,[rw],[ap,Ly r,q]⟩))|`(tactic|rw[296,$a:term,$b:term,$c:term,$d:term,$e:term])=>`(tactic|(rw[45,$a=[Ow,$b],[aB,F]];have i:tU m [Ow,L] [Ow,q]:=[tJ,h.iU,by simp only;rw[h.wt]];rw[20,_,[wB,$c,$d,?_],$e a]))|`(tactic|rw[295,$a:term])=>`(tactic|(rw[58,$a [At,ha B s w H _ I h,d,r,e,?_]];obtain⟨c,rfl,n⟩:=n;cases e;refine mN ?_))|`(tactic|rw[294,$a:term,$b:term,$c:term])=>`(tactic|(rintro⟨⟨j,y,a,g,r⟩,P,w⟩;have:=$a j y a;have e:=(S.uniq a A $b [ac] P w);subst e;rw[A]at a;cases a;rw[0,g,$c:term]))|`(tactic|rw[293])=>`(tactic|(intro X g T l V i B s a H E I F L j;subst g T l;obtain⟨U,m,A,p,u,M⟩:=F f [al]))|`(tactic|rw[292,$a:term,$b:term])=>`(tactic|(rw[3,yC (rf I j N ?_ d),RV (h₀:=X.base) I.ok.mod.tZ $a [O6,[Lb,pos],a,c,r,q,[rp,c.e9]] R L];exact$b))|`(tactic|rw[291])=>`(tactic|rw[51,[zO],bV.mpr [wJ,s _ _ this.1 λ q=>this.2 (ib.mpr [lD,.inr (.inl q)]),this]])|`(tactic|rw[290])=>`(tactic|(rw[20,p.typeIs,λ b q=>?_,c];cases q;obtain⟨i,_,_,g,r,_⟩:=p;rw[1,i,g,r.2.1]))|`(tactic|rw[288])=>`(tactic|(obtain⟨k,C,A⟩:=[zB,h];obtain⟨s,G,e⟩:=[bE,A];rw[9,k,s,[OW,C],[OW,G],e.symm]))|`(tactic|rw[287,$a:term,$b:term,$c:term,$d:term])=>`(tactic|(refine k H' _ _ $a (qx $b) (.inr [hJ,_,iQ _ cq,$c,$d]);rw[153,hc];rw[40,[FB,q].1];·rw[161,.inr (ba _)]))|`(tactic|rw[286,$a:term,$b:term,$c:term])=>`(tactic|(rw[15,k.len,λ i d h=>?_];obtain⟨p,X,sh,g,⟨W,r⟩,P,w⟩:=k.at_ i d h;exact⟨p,X,sh,g,$a,$b,w.mono $c⟩))|`(tactic|rw[285,$a:term])=>`(tactic|(rw[96];obtain⟨rfl,q⟩:=h;cases A;refine$a (dS I q ?_);cases x<;>first|(cases L;rfl)|(rw[41];rfl)))|`(tactic|rw[284,$a:term])=>`(tactic|(refine iD [yf];obtain⟨x,A,_,_⟩:=v k C;have:=(R.tr k x A).2;unfold mG at this;rw[$a I,cJ,A]at this))|`(tactic|rw[283,$a:term,$b:term,$c:term,$d:term,$e:term])=>`(tactic|(obtain⟨da,ha⟩:=j.at_;have ha:=bp _ _ ha;refine⟨.ref x,F.CC,_,$a,J,$b ha,$c,k $a b B ((y.mono (b7 l)).trans c) ⟨$d,$e⟩⟩))
local macro_rules|`(tactic|rw[192])=>`(tactic|rcases g with⟨t,e⟩|⟨c,e,H⟩<;>rw[e]at d<;>cases d)|`(tactic|rw[191])=>`(tactic|rcases this with rfl|rfl|rfl|rfl|rfl|rfl|rfl|rfl|rfl|rfl|rfl|rfl|rfl|rfl|rfl|rfl<;>decide+kernel)|`(tactic|rw[382,$a:term])=>`(tactic|have nS:[pO,[zX],b≠S]:=λ b o e=>[cm,$a,dY (bR (D b o e))])|`(tactic|rw[381,$a:term,$b:term,$c:term])=>`(tactic|(show[J3,tryCatch (tw [v,$a] (yS .Gt $a $b>>=_)) _];refine au (pj (k9 (au $c)));rw[3,au (k9 (mN ?_)),au (oh (aW ?_))]))|`(tactic|rw[380])=>`(tactic|(generalize hs4:([adH]:aq)=s4 at I4⊢;have st4:tn 0 s4.heap:=[OZ,T.keep,st3,[cm,hs4,BL _ _ _ _ (cG _ e)]]))|`(tactic|rw[379,$a:term,$b:term])=>`(tactic|have z:ah (Zh (aP F d) H) $a :=λ b o q=>by rw[51,bV.mp q,bV.mpr [wJ,$b,this]])|`(tactic|rw[378,$a:term])=>`(tactic|(simp only[$a:term,ki,iE];show(az _ _ [Aa,[j5,d]==Value.none] _ _ s);rw[aD (show¬(([j5,d]==Value.none)=true)from eQ)]))|`(tactic|rw[377,$a:term])=>`(tactic|cases q:($a)[j]? with|none=>rw[q]at k;cases k|some t=>rw[q]at k;rw[97,t,k])|`(tactic|rw[376,$a:term,$b:term])=>`(tactic|(have e':c=z∨c=f∨c=TO∨c=n∨c=e:=[aB,$a];rcases e' with q|q|q|q|q;rw[11,q,$b:term]))|`(tactic|rw[375,$a:term])=>`(tactic|(rw[aI [YJ,B],aI A,cP];rw[87,(λ x:Tr×V=>x.1)∘λ kv:Tr×V=>[pH,kv.1,$a x,(kv.1,v),kv],λ x=>x.1,by funext y;simp only[Function.comp];split<;>rfl,h]))|`(tactic|rw[374,$a:term])=>`(tactic|cases q:($a)[i]? with|none=>rw[q]at hi;cases hi|some x=>rw[q]at hi;rw[97,x,hi])|`(tactic|rw[373])=>`(tactic|(rw[cJ]at h;cases e:l[i]? with|none=>rw[43,e]|some n=>rw[e]at h;rw[97,n,h]))|`(tactic|rw[370,$a:term,$b:term,$c:term,$d:term,$e:term])=>`(tactic|(rw[143,$a:term,W.done _ _ _ $b $c];have Y:=nQ $d S (jM λ _=>(#[]:[lc]));show[J3,JL S (λ _=>#[])];rw[3,au ?_,yL $e J (au (oh (aW ?_)))]))|`(tactic|rw[369,$a:term,$b:term,$c:term,$d:term])=>`(tactic|(refine⟨_,J,_,$a,J,$b,by rw[84,1],λ a hna=>?_⟩;have e1:(ag H5 a (.aj [[Dv,$a]])) l=Z $c :=[cX,aX L hna,L];refine$d))|`(tactic|rw[368,$a:term,$b:term,$c:term])=>`(tactic|(have U:$a∈aP F a:=ib.mpr $b;have z:ah (Zh (aP F a) H) (Zh (aP F a) (ag H $a $c)):=λ b o q=>by rw[149,q,λ w=>q.2 [ap,w,U]]))|`(tactic|rw[365])=>`(tactic|(obtain⟨_,_,_,_,i,_,_,e,_,b,_⟩:=x;rw[36,e,[Xp,b]]))|`(tactic|rw[364,$a:term,$b:term])=>`(tactic|(rw[39,q,[OC,$a],q,[OC,$b]];rw[39,q,[ZX,o1,e1,d1],q,[ZX,o2,e2,d2]]))|`(tactic|rw[361,$a:term])=>`(tactic|have O:Y.length=($a).length:=by rw[102,[Ca,hk2],aC,aC];rw[65])|`(tactic|rw[360,$a:term])=>`(tactic|(have:=h.at_ x [bn,A];rw[0,[cX,$a x A,k _ _ this.1],this.2]))|`(tactic|rw[359])=>`(tactic|(have Y:[C2,.ref z,"zip"]:=[rJ,M];unfold o4;rw[7,[Yl,Y,Jm,F.entry_zip_next,?_,F.args_zip_next_1 _]]))|`(tactic|rw[358])=>`(tactic|(obtain⟨m,rv,p,_⟩:=[mt,R];obtain⟨F,S,p2,_⟩:=[mt,U]))|`(tactic|rw[357,$a:term,$b:term,$c:term])=>`(tactic|(by_cases s:i<x.cps.size;·refine$a;obtain⟨e,c,V,n⟩:=$b;subst e;subst n;exact$c))|`(tactic|rw[356,$a:term])=>`(tactic|(obtain⟨as,hr⟩:=Dp.readsAll I ds _ its ha rv;rw[29,$a ho hc hd hr]))|`(tactic|rw[355])=>`(tactic|(obtain⟨its,rv,p,_⟩:=[mt,V];obtain⟨U,rv2,p2,_⟩:=[mt,Y]))|`(tactic|rw[354,$a:term])=>`(tactic|(obtain⟨sl,e1⟩:=I.base.slot b o e n K f;rw[0,sl,[qP,G,$a,e1]]))|`(tactic|rw[353,$a:term,$b:term,$c:term,$d:term,$e:term])=>`(tactic|(rw[38,aV $a,[Au,$b,$c]];rw[qe];cases L:[pL,$b,$c]with|false=>exact a_ (S $d)|true=>exact$e))|`(tactic|rw[352,$a:term])=>`(tactic|(rw[96];obtain⟨i,j,rfl,rfl,q⟩:=h;rw[41];rw[128,A,e i j t Y s _ _ $a]))|`(tactic|rw[350,$a:term,$b:term,$c:term,$d:term])=>`(tactic|(rw[aC]at v O;obtain⟨a,ha,rfl⟩:=lG O;obtain⟨d,c,o,N⟩:=$a;rw[38,$b:term,(V.int $c)=$d];rw[mu,j5]))|`(tactic|rw[349])=>`(tactic|(have hn:=DX e;rw[h]at hn;have A:x∉t:=(λ z=>hn [iI,x,z]);rw[wH v e,cH,h]))|`(tactic|rw[348,$a:term,$b:term,$c:term,$d:term])=>`(tactic|(rw[41];cases y with|bh=>rw[6,A,$a [UL]]|int j=>rw[98,$b:term,$c:term]|str j=>rw[98,$d:term,[al]]|_=>rw[127,G]))|`(tactic|rw[347,$a:term])=>`(tactic|(rcases h with(h|⟨o,h⟩)|h;rw[40,.inl $a];rw[73,[jl,o,$a],h]))|`(tactic|rw[346,$a:term])=>`(tactic|(have e:(h.get? a)=Z $a :=x;show h'.get? a=Z $a;exact k a _ [de] e))|`(tactic|rw[345,$a:term])=>`(tactic|(obtain⟨o,d,rfl⟩:=[bE,b];obtain⟨i,O,D⟩:=gY d;obtain⟨e,he,M⟩:=[OR,$a,o,O,D]))|`(tactic|rw[344,$a:term,$b:term,$c:term,$d:term])=>`(tactic|(cases L;cases y with|bh=>rw[6,A,$a [UL]]|bl j=>rw[6,A,$b (dS I q $c)]|str j=>rw[98,$d:term,[al]]|_=>rw[127,G]))|`(tactic|rw[343,$a:term,$b:term,$c:term,$d:term,$e:term,$f:term])=>`(tactic|(rw[227,$a:term,l,[Na]++$b,cE e $c (by rw[101])];refine hD _ $d (ah.aT $e hl0) [pv,as++$f,[ap,cH,aw]]))|`(tactic|rw[342,$a:term,$b:term,$c:term])=>`(tactic|(subst f;obtain⟨m,c,d,M⟩:=$a;have K:=c.length;exact$b $c (by rw[85,dN]) [KI,N.length,by simp only[dN];rw[K]]))|`(tactic|rw[340,$a:term,$b:term,$c:term,$d:term,$e:term,$f:term])=>`(tactic|(rw[exec_Assign_Name_used _ _ _ _ S];rw[7,SV (au ?_)];show$a;have h:$b :=h;rw[7,bj $c $d];show az _ _ (vT (.Name y $e) X.env (.ref L)) _ _ _;refine(Sm (CJ (v:=(V.ref L)) I' $f l (.inl T) J (λ s2 I2⟨a,sb,ha⟩=>?_) (.inr T)))))|`(tactic|rw[336,$a:term,$b:term,$c:term,$d:term,$e:term,$f:term,$g:term])=>`(tactic|(have u:[Yn]:=[bj];refine$a;show$b;rw[3,au (S6 [db,[Yx,$c],pure [$d,none],J] ?_),au (aW ?_)];rw[3,au (iter _ $e),au $f];rw[u];refine aW [rp,$g]))|`(tactic|rw[335,$a:term])=>`(tactic|(have C:=wY e;obtain⟨p,R,B⟩:=[bE,C];have A:x∈t:=by rw[h]at C;obtain⟨y,a,n⟩:=[bE,C];rw[23,$a n,a]))|`(tactic|rw[333,$a:term])=>`(tactic|(rw[13,eval_ListComp,$a:term];obtain⟨U,n,A,c,p,M⟩:=f;exact[jp,.ref D,a,S.turned (t':=d.toks) (λ b o K e=>[qP,y,K,e]) U n c p M,q]))
local macro_rules|`(tactic|rw[161,$a:term])=>`(tactic|(simp at q;subst q;exact$a))|`(tactic|rw[160])=>`(tactic|(unfold lexLt at X⊢;simp only at X⊢))|`(tactic|rw[159,$a:term])=>`(tactic|obtain⟨dsc,vals,hsc⟩:=I.at_ _ $a)|`(tactic|rw[158])=>`(tactic|(rw[187];obtain⟨M,P⟩:=S.k3))|`(tactic|rw[157,$a:term,$b:term])=>`(tactic|obtain⟨t,e⟩:=(show∃t,u=$a $b t from r))|`(tactic|rw[156,$a:term])=>`(tactic|simp only[$a:term,Tr.cons.injEq,Tr.num.injEq,pw]at h)|`(tactic|rw[155,$a:term,$b:term])=>`(tactic|(rw[182,⟨$a KX G ?x0,$b KX G ?x1,$b KX G ?x2,$b KX G ?x3⟩];(case x3=>k_is)))|`(tactic|rw[228,$a:term,$b:term,$c:term,$d:term])=>`(tactic|(rw[74,d0 (pv 0) $a J,aK (d0 (pv 0) $b J) $c];have e0:[T7,$d]:=[al];rw[e0]at R))|`(tactic|rw[227,$a:term,$b:term,$c:term,$d:term])=>`(tactic|have tk:jk $a (ag $a $b (.aj $c)):=λ b xs e=>[cX,$d,e])|`(tactic|rw[226,$a:term])=>`(tactic|(rw[150,$a:term];(case n3=>k_is);(case n4=>k_is)))|`(tactic|rw[224,$a:term])=>`(tactic|(refine$a;rcases V with z|z;rw[11,z,t b u e];·exact t c _ z))|`(tactic|rw[223,$a:term])=>`(tactic|(rw[24,λ i m H=>m=$a-i∧i≤$a∧P i H,⟨$a,[al],b7 _,I⟩];rintro i m H⟨rfl,O,p⟩))|`(tactic|rw[222,$a:term,$b:term])=>`(tactic|(obtain⟨c,g,r,P⟩:=t;refine⟨c,[cX,$a,g],r,?_⟩;rcases P with z|⟨s,a,b⟩;rw[73,z,⟨s,a,[cX,$b,b]⟩]))|`(tactic|rw[221,$a:term])=>`(tactic|(have:=$a;rw[cH,bO]at this⊢;rw[65]))|`(tactic|rw[220])=>`(tactic|intro B s w H x U v W Q I L O h)|`(tactic|rw[219])=>`(tactic|(refine'[FH,?x];(case x=>k_is)))|`(tactic|rw[218,$a:term])=>`(tactic|(obtain⟨_,q,_⟩:=$a;rw[h]at q;cases q))|`(tactic|rw[217,$a:term,$b:term,$c:term])=>`(tactic|(obtain⟨t,q⟩:=(show∃t,u=$a $b t from L);rw[6,q,n8 $c I.e9 lW e [Qs] h]))|`(tactic|rw[216])=>`(tactic|have S:a.length=b.length:=by rw[60])|`(tactic|rw[215])=>`(tactic|(rw[15,by rw[17],λ e=>?_];simp at e))|`(tactic|rw[214,$a:term])=>`(tactic|(obtain⟨a,m,I,q⟩:=h;exact⟨a,m,$a,q⟩))|`(tactic|rw[213,$a:term])=>`(tactic|obtain⟨dx,fe,cu,la,en',g1,_⟩:=(S.mono $a).ex)|`(tactic|rw[211,$a:term,$b:term,$c:term])=>`(tactic|(rcases[d9,hb]with rfl|hb;·rw[91,$a:term];rw[0,$b:term,($c).2]))|`(tactic|rw[210])=>`(tactic|(wp_walk using wpAny_loadPart' M,BI M;rw[1,_,J,h]))|`(tactic|rw[208,$a:term,$b:term])=>`(tactic|(obtain⟨j,U,C⟩:=gY $a;rcases E j $b (by rw[bX U,C])with⟨_,rfl⟩|⟨I,D⟩))|`(tactic|rw[207,$a:term,$b:term,$c:term])=>`(tactic|have W:(ag $a D (.aj [Fh,$b $c])) D=Z (.aj [Fh,$b $c]):=aw)|`(tactic|rw[206,$a:term,$b:term,$c:term,$d:term])=>`(tactic|(rcases k with⟨t,rfl⟩|⟨c,rfl,rfl⟩;rw[2,gh ($a i t $b $c) [al],gh ($d c $b $c) [al]]))|`(tactic|rw[205,$a:term,$b:term])=>`(tactic|(have hjl:=[J0,ht].1;have et:$a (j+1)=$a j++[t]:=[jh,fH,ht];rw[15,J,$b:term]))|`(tactic|rw[204,$a:term])=>`(tactic|match i,F with|0,F=>rw[6,F,c]|1,F=>rw[6,F,E]|2,F=>rw[6,F,D]|k+3,F=>simp[$a:term]at F)|`(tactic|rw[203,$a:term,$b:term,$c:term,$d:term,$e:term,$f:term,$g:term,$h:term])=>`(tactic|(rw[70,[aK,($a).1&&&T=$b]=true,bK $c,[aK,$d≤$e]=true,bK $f];have e3:([aK,$g]=true):=$h;rw[e1,e2,e3]at this;cases this))|`(tactic|rw[202,$a:term,$b:term])=>`(tactic|(have Y:ah H $a :=[cE,H,$b];have O:bD H $a :=[Ol]))|`(tactic|rw[201])=>`(tactic|(refine'(VP.Ia ?a ?l ?m ?d ?n ?l2 ?e ?i);(case a=>k_is);(case l=>k_is);(case m=>rfl);(case d=>rfl);(case n=>rfl);(case l2=>k_is);(case e=>rfl);(case i=>k_is)))|`(tactic|rw[200,$a:term,$b:term,$c:term,$d:term])=>`(tactic|cases b with|num j=>rcases m with⟨Y,rfl⟩|⟨f,rfl,rfl⟩;rw[2,gh $a [al],gh $b [al]]|txt y=>obtain⟨Y,rfl⟩:=m;exact$c|nil=>obtain⟨q,G,rfl,w,h⟩:=m;exact$d|cons _ _=>obtain⟨q,G,rfl,w,h⟩:=m;exact$d)|`(tactic|rw[199])=>`(tactic|(subst z;rw[aw]at hd3;cases hd3))|`(tactic|rw[198,$a:term])=>`(tactic|(obtain⟨O,k⟩:=k;rw[$a:term]at k;cases k))|`(tactic|rw[197,$a:term,$b:term])=>`(tactic|(have f:k=$a :=e;subst f;exact$b ⟨H,I,q⟩))|`(tactic|rw[196])=>`(tactic|(obtain⟨q,u,d,w,A⟩:=r;exact z e l n d w A))|`(tactic|rw[195])=>`(tactic|(unfold Vs.eE;rw[h];split;·rename_i e;cases e))|`(tactic|rw[194])=>`(tactic|intro X t T y V i B s f H E I F L l)|`(tactic|rw[193])=>`(tactic|rcases r with⟨Y,d⟩|⟨s,d,o⟩<;>rw[e]at d<;>cases d)
local macro_rules|`(tactic|rw[147,$a:term])=>`(tactic|obtain⟨x,_,rfl⟩:=[bE,$a])|`(tactic|rw[146,$a:term])=>`(tactic|obtain⟨i,hi,ei⟩:=gY $a)|`(tactic|rw[145,$a:term,$b:term])=>`(tactic|(subst e;rw[46,⟨$a,$b w H p⟩]))|`(tactic|rw[144])=>`(tactic|first|rw[46,J]|exact .inr J|assumption)|`(tactic|rw[143,$a:term,$b:term])=>`(tactic|(refine s_ yz ?_;rw[vt kU _];show[J3,yW (.ref S)];refine au (lT $a J ?_);show[J3,tryCatch (kr (.ref I)) _];refine au (pj $b)))|`(tactic|rw[142,$a:term,$b:term])=>`(tactic|(rcases$a:term with A|A;·exact$b))|`(tactic|rw[141,$a:term])=>`(tactic|(rw[←C]at M⊢;exact$a))|`(tactic|rw[140])=>`(tactic|(obtain⟨l,rfl,_⟩:=h;rfl))|`(tactic|rw[139,$a:term,$b:term])=>`(tactic|(rcases$a:term with h|h;·exact$b))|`(tactic|rw[138,$a:term])=>`(tactic|(rw[$a:term]at this;cases this))|`(tactic|rw[137,$a:term])=>`(tactic|(rw[24,λ i m w H=>m=$a-i∧i≤$a∧P i w H,⟨$a,[al],b7 _,I⟩];rintro i m w H⟨rfl,O,p⟩))|`(tactic|rw[190,$a:term,$b:term])=>`(tactic|rw[38,⟨_,J,_,$a,J,$b,_,_,J,J,_,J,?_⟩,[Au,1,$a]])|`(tactic|rw[189])=>`(tactic|by_cases g:c=104∨(c=117∧p=113))|`(tactic|rw[188])=>`(tactic|first|rw[7,Ir v.typeIs (aW ?_)]|rw[7,IG v.typeIs (aW ?_)])|`(tactic|rw[187])=>`(tactic|obtain⟨W,co⟩:=S.co)|`(tactic|rw[186,$a:term])=>`(tactic|obtain⟨p,R,rfl⟩:=[bE,$a])|`(tactic|rw[185,$a:term])=>`(tactic|obtain⟨n,hn,rfl⟩:=[bE,$a])|`(tactic|rw[184])=>`(tactic|(rcases a with a|⟨d,b,X⟩;·rw[8,a,[al]]))|`(tactic|rw[183,$a:term,$b:term])=>`(tactic|(rw[[tO]];rw[69,aV [Ml],[uh,[ar,$a]≤[aN,$b]]]))|`(tactic|rw[182,$a:term])=>`(tactic|(refine'$a;(case x0=>k_is);(case x1=>k_is);(case x2=>k_is)))|`(tactic|rw[181])=>`(tactic|rcases xO R with rfl|R)|`(tactic|rw[180])=>`(tactic|obtain⟨p,_,d,_⟩:=r)|`(tactic|rw[179,$a:term])=>`(tactic|obtain⟨k,n,d⟩:=[QM,$a])|`(tactic|rw[178])=>`(tactic|rcases[d9,h]with e|h)|`(tactic|rw[177,$a:term])=>`(tactic|obtain⟨i,O,rfl⟩:=[bE,$a])|`(tactic|rw[176])=>`(tactic|rcases[d9,A]with rfl|A)|`(tactic|rw[175])=>`(tactic|obtain⟨un,hn,rn⟩:=C.AB)|`(tactic|rw[174])=>`(tactic|obtain⟨_,_,g,f,e⟩:=qp C)|`(tactic|rw[173,$a:term])=>`(tactic|obtain⟨z,m,n,r,a,e⟩:=I.uf $a)|`(tactic|rw[172,$a:term,$b:term])=>`(tactic|(have:=$a;rw[e]at this;rw[6,this,$b:term]))|`(tactic|rw[171,$a:term,$b:term,$c:term])=>`(tactic|(rw[113,[d6,$a],$b $c q];·simp at q;omega))|`(tactic|rw[170,$a:term,$b:term,$c:term])=>`(tactic|cases$a:term with|true=>exact$b|false=>exact$c)|`(tactic|rw[169])=>`(tactic|obtain⟨_,_,_,_,o,_,_,e,_⟩:=x)|`(tactic|rw[168,$a:term])=>`(tactic|rcases m6 $a with⟨i,t,rfl,rfl⟩|⟨x,t,rfl,rfl⟩)|`(tactic|rw[167,$a:term,$b:term,$c:term,$d:term])=>`(tactic|cases x with|bh=>rw[6,L,$a:term]|bl b=>rw[6,L,$b:term]|int b=>rw[41];exact$c|str b=>rw[41];exact$d|_=>rw[8,[db,false,true,d],eQ])|`(tactic|rw[166,$a:term,$b:term,$c:term,$d:term,$e:term])=>`(tactic|cases y with|bh=>rw[6,A,$a [UL]]|bl j=>rw[6,A,$b [UL]]|int j=>rw[98,$c:term,[al]]|str j=>rw[98,$d:term,$e:term]|_=>rw[8,[db,false,true,G],eQ])|`(tactic|rw[165,$a:term])=>`(tactic|obtain⟨N,C,rfl⟩:=Vs.pH $a)|`(tactic|rw[164])=>`(tactic|injection e with e1 e2)|`(tactic|rw[163,$a:term])=>`(tactic|(rw[$a V]at S;simp only[nY,A]at S))|`(tactic|rw[162])=>`(tactic|obtain⟨u,rfl,L⟩:=vals1 r)
local macro_rules|`(tactic|rw[106,$a:term,$b:term])=>`(tactic|(subst ex;obtain rfl:$a=[j5,a]:=$b))|`(tactic|rw[105])=>`(tactic|rw[26,⟨pg,b,o,sa⟩,λ i f F=>?_,jK X G a,[bB],[bB]])|`(tactic|rw[104,$a:term])=>`(tactic|(rw[123,VP.qu $a ?a ?l ?c ?k ?i ?mk ?kc];(case i=>k_is);(case mk=>k_is);(case kc=>k_is)))|`(tactic|rw[103])=>`(tactic|simpa using r)|`(tactic|rw[102,$a:term,$b:term,$c:term])=>`(tactic|(have:=$a;rw[$b:term,$c:term]at this))|`(tactic|rw[101])=>`(tactic|(intro w;cases w))|`(tactic|rw[100,$a:term])=>`(tactic|(have:=$a;simpa using this))|`(tactic|rw[99,$a:term])=>`(tactic|exact(show False from$a).elim)|`(tactic|rw[98,$a:term,$b:term])=>`(tactic|rw[128,A,$a (dS I q $b)])|`(tactic|rw[122,$a:term])=>`(tactic|(intro B s w H R I h;refine$a))|`(tactic|rw[121,$a:term,$b:term])=>`(tactic|rw[66,M.fn.ok,$a:term,$b:term])|`(tactic|rw[120,$a:term,$b:term,$c:term,$d:term,$e:term,$f:term])=>`(tactic|rw[18,$a:term,J,[pD,$b],[sK,iZ,$a,$c,$d,$e,$f]])|`(tactic|rw[119,$a:term,$b:term,$c:term])=>`(tactic|(rw[38,$a:term,[xX,$b]=(V.int [aN,$c])];rw[j5]))|`(tactic|rw[118])=>`(tactic|(intro _ z;cases z))|`(tactic|rw[117,$a:term])=>`(tactic|(rw[cP,cP];refine iD $a))|`(tactic|rw[116,$a:term,$b:term,$c:term])=>`(tactic|(rcases$a:term with rfl|rfl;rw[2,$b:term,$c:term]))|`(tactic|rw[115])=>`(tactic|(unfold cx;rw[aC]))|`(tactic|rw[114])=>`(tactic|(simp only[cW];split<;>simp))|`(tactic|rw[113,$a:term,$b:term])=>`(tactic|(rcases$a:term with q|q;·exact$b))|`(tactic|rw[136])=>`(tactic|simp only[ki,iE])|`(tactic|rw[135,$a:term,$b:term])=>`(tactic|have Y:ah H $a :=[oE,$b])|`(tactic|rw[134,$a:term])=>`(tactic|(rintro(h|h);rw[73,$a:term,h]))|`(tactic|rw[133])=>`(tactic|rintro⟨g,r,P⟩)|`(tactic|rw[132,$a:term,$b:term])=>`(tactic|rw[0,J,aV (B:=Q2 $a) $b])|`(tactic|rw[131,$a:term,$b:term,$c:term])=>`(tactic|(rcases$a:term with z|z;rw[2,$b:term,$c:term]))|`(tactic|rw[130])=>`(tactic|rcases[d9,h]with rfl|h)|`(tactic|rw[129])=>`(tactic|intro B s w H U W Q I r h)|`(tactic|rw[128,$a:term,$b:term])=>`(tactic|(obtain⟨Y,rfl⟩:=$a;exact$b))|`(tactic|rw[127,$a:term])=>`(tactic|rw[8,[db,false,true,$a],eQ])|`(tactic|rw[126,$a:term,$b:term,$c:term])=>`(tactic|(have:=$a;simp only[$b:term,$c:term];omega))|`(tactic|rw[125])=>`(tactic|intro B s w H N W Q I r h)|`(tactic|rw[124,$a:term,$b:term])=>`(tactic|exact n8 $a I.e9 $b e [Qs] h)|`(tactic|rw[123,$a:term])=>`(tactic|(refine'$a;(case a=>k_is);(case l=>k_is);(case c=>k_is);(case k=>k_is)))|`(tactic|rw[154,$a:term,$b:term,$c:term])=>`(tactic|(rcases$a:term with k|k;rw[2,$b:term,$c:term]))|`(tactic|rw[153,$a:term])=>`(tactic|rcases[d6,$a]with q|q)|`(tactic|rw[152])=>`(tactic|obtain⟨T,r,k2⟩:=S.k2)|`(tactic|rw[151,$a:term,$b:term,$c:term])=>`(tactic|(by_cases K:b=$a;·subst K;rw[76,$b:term,$c:term]))|`(tactic|rw[150,$a:term])=>`(tactic|(rw[259,$a:term];(case n2=>k_is)))|`(tactic|rw[149,$a:term,$b:term])=>`(tactic|(have q:=bV.mp $a;exact bV.mpr [wJ,[cX,$b,q.1],q]))|`(tactic|rw[148,$a:term])=>`(tactic|obtain⟨x,A,rfl⟩:=[bE,$a])
local macro_rules|`(tactic|rw[68])=>`(tactic|intro B s w H Q I h)|`(tactic|rw[67,$a:term])=>`(tactic|rw[8,$a:term,g8 _])|`(tactic|rw[66,$a:term,$b:term,$c:term])=>`(tactic|refine[QG,$a,$b,$c])|`(tactic|rw[65])=>`(tactic|exact this)|`(tactic|rw[64,$a:term])=>`(tactic|(subst this;exact$a))|`(tactic|rw[74,$a:term,$b:term])=>`(tactic|rw[24,_,aK $a $b])|`(tactic|rw[73,$a:term,$b:term])=>`(tactic|rw[2,.inl $a,.inr $b])|`(tactic|rw[72])=>`(tactic|simpa using g)|`(tactic|rw[71,$a:term,$b:term])=>`(tactic|(have e:$a :=$b;rw[e]))|`(tactic|rw[70,$a:term,$b:term,$c:term,$d:term])=>`(tactic|(have e1:$a :=$b;have e2:$c :=$d))|`(tactic|rw[69,$a:term,$b:term])=>`(tactic|(refine$a;show[pH,$b,true,_,_]))|`(tactic|rw[78])=>`(tactic|have hu:=jB hr)|`(tactic|rw[77])=>`(tactic|simp at this)|`(tactic|rw[76,$a:term,$b:term])=>`(tactic|(rw[$a:term]at e;rw[6,e,$b:term]))|`(tactic|rw[75,$a:term,$b:term])=>`(tactic|(rw[$a:term]at e;exact$b))|`(tactic|rw[83,$a:term])=>`(tactic|rw[57,M.fn.ok,$a:term])|`(tactic|rw[82,$a:term,$b:term])=>`(tactic|(rw[$a:term]at k;exact$b))|`(tactic|rw[81])=>`(tactic|obtain⟨t,rfl⟩:=r)|`(tactic|rw[80,$a:term])=>`(tactic|(rw[$a:term]at z;cases z))|`(tactic|rw[79,$a:term,$b:term])=>`(tactic|(refine$a;exact$b))|`(tactic|rw[88,$a:term,$b:term])=>`(tactic|(rw[35,$a:term,$b:term];cases this))|`(tactic|rw[87,$a:term,$b:term,$c:term,$d:term])=>`(tactic|(have:$a=$b :=$c;rw[4,this,$d:term]))|`(tactic|rw[86,$a:term])=>`(tactic|(rw[$a:term]at d;cases d))|`(tactic|rw[85,$a:term])=>`(tactic|(simp only[$a:term];omega))|`(tactic|rw[84,$a:term])=>`(tactic|(show$a≤aQ;decide))|`(tactic|rw[97,$a:term,$b:term])=>`(tactic|rw[1,$a:term,J,[wv,$b]])|`(tactic|rw[96])=>`(tactic|intro B s w H x y v u Q I L A h)|`(tactic|rw[95])=>`(tactic|(rw[14];subst h))|`(tactic|rw[94])=>`(tactic|simpa using O)|`(tactic|rw[93])=>`(tactic|intro B s w H D I h)|`(tactic|rw[92,$a:term])=>`(tactic|(have:=$a;rw[77];omega))|`(tactic|rw[91,$a:term])=>`(tactic|(have:=$a;subst this))|`(tactic|rw[90,$a:term])=>`(tactic|(rw[$a:term]at q;cases q))|`(tactic|rw[89,$a:term])=>`(tactic|(subst e;exact$a))|`(tactic|rw[112,$a:term,$b:term])=>`(tactic|rw[66,I.fn.ok,$a:term,$b:term])|`(tactic|rw[111,$a:term,$b:term])=>`(tactic|(have g:=$a;have r:=$b))|`(tactic|rw[110,$a:term,$b:term])=>`(tactic|(rw[7,$a:term];rw[7,$b:term]))|`(tactic|rw[109,$a:term])=>`(tactic|have hr1:cy 1 _:=[wu,1,$a])|`(tactic|rw[108,$a:term,$b:term])=>`(tactic|cases[db,u,[j5,$a],$b])|`(tactic|rw[107,$a:term,$b:term,$c:term,$d:term])=>`(tactic|have s2:ah $a (ag $a $b $c):=[cE,$a,$d])
local macro_rules|`(tactic|rw[24,$a:term,$b:term])=>`(tactic|rw[20,$a:term,$b:term,?_])|`(tactic|rw[25,$a:term,$b:term,$c:term])=>`(tactic|(show$a;rw[4,$b:term,$c:term]))|`(tactic|rw[29,$a:term])=>`(tactic|rw[0,_,$a:term])|`(tactic|rw[28,$a:term])=>`(tactic|(rw[123,VP.eD $a ?a ?l ?c ?k ?i];(case i=>k_is)))|`(tactic|rw[27,$a:term])=>`(tactic|(rw[$a:term];omega))|`(tactic|rw[26,$a:term,$b:term,$c:term,$d:term,$e:term])=>`(tactic|refine⟨$a,$b,$c,$d,$e⟩)|`(tactic|rw[33,$a:term])=>`(tactic|refine aV $a)|`(tactic|rw[32,$a:term])=>`(tactic|(rw[$a:term];rw[5]))|`(tactic|rw[31,$a:term])=>`(tactic|rw[123,VP.eY KX G $a ?a ?l ?c ?k])|`(tactic|rw[30,$a:term,$b:term])=>`(tactic|by_cases e:$a=$b)|`(tactic|rw[34,$a:term])=>`(tactic|(rw[$a:term]at e;cases e))|`(tactic|rw[36,$a:term,$b:term])=>`(tactic|rw[1,_,$a:term,$b:term])|`(tactic|rw[35,$a:term,$b:term])=>`(tactic|(have:=$a;rw[$b:term]at this))|`(tactic|rw[38,$a:term,$b:term])=>`(tactic|rw[69,$a:term,[aK,$b]])|`(tactic|rw[37,$a:term,$b:term,$c:term,$d:term,$e:term,$f:term])=>`(tactic|exact⟨$a,$b,$c,$d,$e,$f⟩)|`(tactic|rw[39,$a:term,$b:term,$c:term,$d:term])=>`(tactic|(rw[11,$a:term,$b:term];rw[11,$c:term,$d:term]))|`(tactic|rw[40,$a:term])=>`(tactic|·rw[46,$a:term])|`(tactic|rw[45,$a:term,$b:term])=>`(tactic|(have e:$a :=$b;subst e))|`(tactic|rw[44,$a:term,$b:term])=>`(tactic|by_cases z:$a=$b)|`(tactic|rw[43,$a:term])=>`(tactic|(rw[$a:term]at h;cases h))|`(tactic|rw[42,$a:term,$b:term])=>`(tactic|(refine$a;rw[$b:term]))|`(tactic|rw[41])=>`(tactic|obtain⟨t,rfl⟩:=L)|`(tactic|rw[48,$a:term,$b:term])=>`(tactic|rw[3,[pv,_,$a],$b:term])|`(tactic|rw[47,$a:term])=>`(tactic|have:$a :=[ac])|`(tactic|rw[46,$a:term])=>`(tactic|exact .inl $a)|`(tactic|rw[51,$a:term,$b:term])=>`(tactic|(have:=$a;exact$b))|`(tactic|rw[50,$a:term,$b:term])=>`(tactic|(rw[35,$a:term,$b:term];exact this))|`(tactic|rw[49,$a:term,$b:term,$c:term,$d:term])=>`(tactic|refine⟨_,J,$a,$b,$c,$d⟩)|`(tactic|rw[56,$a:term,$b:term])=>`(tactic|obtain⟨o,q⟩:=S.xt $a $b)|`(tactic|rw[55,$a:term,$b:term,$c:term])=>`(tactic|(refine$a;rw[4,$b:term,$c:term]))|`(tactic|rw[54])=>`(tactic|rintro rfl)|`(tactic|rw[53,$a:term,$b:term,$c:term,$d:term,$e:term,$f:term,$g:term])=>`(tactic|refine⟨$a,$b,$c,$d,$e,$f,$g⟩)|`(tactic|rw[52,$a:term,$b:term])=>`(tactic|(have:$a :=$b;rw[this]))|`(tactic|rw[57,$a:term,$b:term])=>`(tactic|refine$a $b (λ vs H Q E h=>?_) (λ cdv A outer s H vs Q E hr h=>?_))|`(tactic|rw[63])=>`(tactic|exact .nil)|`(tactic|rw[62,$a:term,$b:term])=>`(tactic|(rw[$a:term]at q;exact$b))|`(tactic|rw[61,$a:term,$b:term])=>`(tactic|(cases$a:term;cases$b:term))|`(tactic|rw[60])=>`(tactic|simpa using h)|`(tactic|rw[59,$a:term,$b:term])=>`(tactic|(have:$a :=$b;subst this))|`(tactic|rw[58,$a:term])=>`(tactic|(rw[68];refine$a))
local macro_rules|`(tactic|rw[0,$a:term,$b:term])=>`(tactic|exact⟨$a,$b⟩)|`(tactic|rw[1,$a:term,$b:term,$c:term])=>`(tactic|exact⟨$a,$b,$c⟩)|`(tactic|rw[3,$a:term,$b:term])=>`(tactic|(refine$a;refine$b))|`(tactic|rw[4,$a:term,$b:term])=>`(tactic|(rw[$a:term];exact$b))|`(tactic|rw[5])=>`(tactic|constructor)|`(tactic|rw[6,$a:term,$b:term])=>`(tactic|(cases$a:term;exact$b))|`(tactic|rw[7,$a:term])=>`(tactic|refine au $a)|`(tactic|rw[8,$a:term,$b:term])=>`(tactic|exact absurd $a $b)|`(tactic|rw[9,$a:term,$b:term,$c:term,$d:term,$e:term])=>`(tactic|exact⟨$a,$b,$c,$d,$e⟩)|`(tactic|rw[10,$a:term])=>`(tactic|(have:=$a;omega))|`(tactic|rw[11,$a:term,$b:term])=>`(tactic|·rw[4,$a:term,$b:term])|`(tactic|rw[12,$a:term,$b:term,$c:term])=>`(tactic|(rw[$a:term,$b:term];exact$c))|`(tactic|rw[13,$a:term,$b:term])=>`(tactic|(rw[$a:term];refine$b))|`(tactic|rw[14])=>`(tactic|simp at h)|`(tactic|rw[15,$a:term,$b:term])=>`(tactic|refine⟨$a,$b⟩)|`(tactic|rw[16,$a:term])=>`(tactic|(rw[$a:term];simp))|`(tactic|rw[17])=>`(tactic|(simp;omega))|`(tactic|rw[18,$a:term,$b:term,$c:term,$d:term])=>`(tactic|refine⟨$a,$b,$c,$d⟩)|`(tactic|rw[19,$a:term])=>`(tactic|(show$a;omega))|`(tactic|rw[20,$a:term,$b:term,$c:term])=>`(tactic|refine⟨$a,$b,$c⟩)|`(tactic|rw[22,$a:term])=>`(tactic|rw[24,_,$a:term])|`(tactic|rw[21,$a:term,$b:term,$c:term,$d:term])=>`(tactic|exact⟨$a,$b,$c,$d⟩)|`(tactic|rw[23,$a:term,$b:term])=>`(tactic|(rw[←$a:term];exact$b))
section
namespace Vs
open Kgz1(Syl Kind Measure fits takes place cutsOk scans)
abbrev Spot:=Nat×Nat×[kw]×Bool
def cS(s:[Fd])(f:Nat)(B:[kw]):[KW]:=[um,B=[],(s[f]?).getD,[],[B]]
def lX(f p:Nat)(B:[kw])(L:Bool):Spot:=[pH,B,[],(f+1,0,[],L),(f,p,B,L)]
def tI(k:Kind)(f p:Nat)(L:Bool):[er,Bool,[iH,Spot]]|[]=>none|c::r=>[or,fits k c,Z (lX f (p+1) r L),none]
def gc(m:Measure)(k:Kind)(e:Bool)(sp:Spot):[Im]:=[EV,[Kk,cS,sp],tI k sp.1 sp.2.1 ([Ab]||(e&&[MV,sp.1,sp.2.1]))]
theorem S_(m:Measure)(k:Kind)(e:Bool)(f p:Nat)(b:Bool)(r:[kw])(L:Bool):gc m k e (f,p,b::r,L)=[or,fits k b,[lX f (p+1) r (L||(e&&[MV,f,p]))],[]]:=by
 have g:cS m.feet f (b::r)=[b::r]:=by unfold cS;rw[[LP]]
 show[EV,cS m.feet f (b::r),_]=_;rw[g];by_cases hf:fits k b=true;·rw[aI hf];simp only[yB,List.filterMap_nil,tI,aI hf]
 ·rw[aD hf];simp only[yB,List.filterMap_nil,tI,aD hf]
def gH(m:Measure):Spot:=(m.feet.length,0,[],true)
def acc(m:Measure):[dF,Spot,List Syl]|sp,[]=>sp=gH m|sp,x::s=>∃a∈[Td,sp],acc m a s
def after(m:Measure)(l:[Im])(s:[nG]):[Im]:=s.foldl (λ l x=>[Xu,gc]) l
def lh(s:[nG])(k:Nat):Bool:=[DX,s[k]?,x,x.ends,false]
theorem JN(x:Syl)(s:[nG])(k:Nat):lh (x::s) (k+1)=lh s k:=[bn,lh]
def pA(S:[m_])(f p:Nat):[er,Bool,[ii,List Syl]]|_::r,x::s=>(x.ends&&S.contains (f+1,p+1))||pA S f (p+1) r s|_,_=>false
theorem JO(S:[m_])(f:Nat):∀(r:[kw])(p:Nat)(s:[nG]),r.length≤s.length→(pA S f p r s=true↔∃c∈S,c.1=f+1∧p+1≤c.2∧c.2≤p+r.length∧lh s (c.2-1-p)=true)
 |[],p,s,_=>by
  simp only[pA];rw[5];·intro h;cases h
  ·rintro⟨c,_,_,g,a,_⟩;simp at a;omega
 |b::r,p,[],h=>by rw[14]
 |b::r,p,x::s,h=>by
  have T:=JO S f r (p+1) s (by rw[60]);simp only[pA,n9,dO,RH,T];rw[5]
  ·rintro(⟨g,a⟩|⟨c,V,g,a,P,w⟩)
   ·refine⟨_,a,J,ba _,?_,?_⟩;·simp
    ·simp[lh,g]
   ·refine⟨c,V,g,[ac],by rw[17],?_⟩;have e:c.2-1-p=(c.2-1-(p+1))+1:=[ac];rw[12,e,JN,w]
  ·rintro⟨c,V,g,a,P,w⟩;rw[30,c.2,p+1]
   ·left;rw[15,?_,?_];·rw[47,c.2-1-p=0];rw[this]at w;simpa[lh]using w
    ·have:c=(f+1,p+1):=by obtain⟨u,A⟩:=c;simp at g e;subst g;subst e;rfl
     rw[23,this,V]
   ·right;refine⟨c,V,g,[ac],by simp at P;omega,?_⟩;have e:c.2-1-p=(c.2-1-(p+1))+1:=[ac];rw[e,JN]at w;exact w
theorem B0(m:Measure)(f:Nat):∀(r:[kw])(p:Nat)(L:Bool)(s:[nG]),r≠[]→(acc m (f,p,r,L) s↔[AE,s.length]∧[jb,(r.zip s).all λ x=>fits x.2.kind x.1,acc m (f+1,0,[],L||pA m.cuts f p r s) (s.drop r.length)])
 |[],_,_,_,h=>[gh,J,h]
 |b::r,p,L,[],_=>by
  rw[5];·intro h;have h:(f,p,b::r,L)=gH m:=h;simp[gH]at h
  ·rintro⟨h,_⟩;rw[14]
 |b::r,p,L,x::s,_=>by
  rw[71,acc m (f,p,b::r,L) (x::s)↔[jb,fits x.kind b,acc m (lX f (p+1) r (L||(x.ends&&[MV,f,p]))) s],by
   show(∃d∈[Td,(f,p,b::r,L)],acc m d s)↔_;rw[S_];by_cases hf:fits x.kind b=true
   ·rw[32,aI hf];·rintro⟨sp,h,a⟩;rw[sS]at h;subst h;rw[0,hf,a]
    ·rintro⟨_,a⟩;rw[36,[Zn],a]
   ·rw[32,aD hf];·rintro⟨sp,h,a⟩;cases h
    ·rintro⟨h,_⟩;rw[8,h,hf]]
  by_cases u:r=[];·subst u;simp[lX,pA]
  ·have T:=B0 m f r (p+1) (L||(x.ends&&[MV,f,p])) s u;simp only[lX,aD u,T,pA,dP,mM,vG,dO,List.drop_succ_cons,Sy];rw[5];·rintro⟨g,c,P,w⟩;rw[1,[ac],⟨g,P⟩,w]
   ·rintro⟨c,⟨g,P⟩,w⟩;rw[21,g,[ac],P,w]
def hits(S:[m_]):Nat→[er,[KW],[er,Syl,[ii,List Nat]]]|f,g::r,s,w::t=>pA S f 0 (g.getD w []) s||hits S (f+1) r (s.drop (g.getD w []).length) t|_,_,_,_=>false
theorem tJ{m:Type}{l:[ol]}{d:m}{x:m×Nat}(h:x∈l.zipIdx):l.getD x.2 d=x.1∧x.1∈l:=by obtain⟨a,i⟩:=x;have g:=List.mem_zipIdx_iff_getElem?.mp h;simp at g;rw[15,by simp[List.getD,g],bt g]
theorem Ta{m:Type}{l:[ol]}{a:m}(h:a∈l):∃i,(a,i)∈l.zipIdx:=by obtain⟨i,O⟩:=[Kb,h];rw[0,i,List.mem_zipIdx_iff_getElem?.mpr (by rw[94])]
theorem JP(m:Measure)(o:[OX,w≠[]]):∀(r:[Fd])(f:Nat)(L:Bool)(s:[nG]),m.feet.drop f=r→f≤m.feet.length→([WK,s]↔∃t∈takes r s,(L||hits m.cuts f r s t)=true)
 |[],f,L,s,k,F=>by
  have X:f=m.feet.length:=by rw[92,[Ca,k]]
  cases s with
   |nil=>simp only[takes,acc,gH,hits,aI];subst X;simp
   |cons x s=>
    have e:¬[WK,x::s]:=by rintro⟨sp,h,_⟩;have hn:m.feet[f]?=none:=sQ [ac];simp[gc,cS,hn]at h
    simp[takes,e]
 |g::r,f,L,s,k,F=>by
  have X:f<m.feet.length:=by rw[92,[Ca,k]]
  have n:m.feet[f]?=Z g:=by have c:(m.feet.drop f)[0]?=Z g:=[fy,k];simpa using c
  have u:m.feet.drop (f+1)=r:=by have c:(m.feet.drop f).drop 1=r:=[fy,k];rw[Jk]at c;exact c
  have E:g∈m.feet:=bt n;have T:=λ G l=>JP m o r (f+1) G l u [ac]
  cases s with
   |nil=>
    rw[70,¬[WK,[]],by intro h;have h:(f,0,[],L)=gH m:=h;simp[gH]at h;omega,takes (g::r) []=[],by
     simp only[takes,BE];rw[List.flatMap_eq_nil_iff];intro w C;have:=(tJ (d:=[]) C).2;have q:=o g E w.1 this;have:¬[ck,w.1,0]:=by cases D:w.1 with|nil=>rw[8,D,q]|cons a b=>simp
     simp[this]]
    simp[e1,e2]
   |cons x s=>
    have A:[WK,x::s]↔∃w∈g,acc m (f,0,w,L) (x::s):=by
     show(∃v∈[Td,(f,0,[],L)],acc m v s)↔∃w∈g,∃v∈[Td,(f,0,w,L)],acc m v s;rw[5];·rintro⟨sp,h,a⟩;simp only[gc,cS,aI,n,Option.getD_some]at h;obtain⟨w,H,D⟩:=[V7,h];rw[26,w,H,sp,?_,a];simp only[gc,cS,aD (o g E w H)];exact List.mem_filterMap.mpr [DR,w,D]
     ·rintro⟨w,H,sp,h,a⟩;rw[20,sp,?_,a];simp only[gc,cS,aD (o g E w H)]at h;obtain⟨y,C,D⟩:=[V7,h];simp at C;subst C;simp only[gc,cS,aI,n,Option.getD_some];exact[Y2,y,H,D]
    rw[32,A]
    ·rintro⟨w,H,h⟩;obtain⟨c,j,P⟩:=(B0 m f w 0 L (x::s) (o g E w H)).mp h;obtain⟨t,p,W⟩:=(T _ _).mp P;obtain⟨i,O⟩:=Ta H;rw[24,i::t,?_];·show _∈[rg,g.zipIdx,_];rw[55,[wB,_,O,?_],aI ⟨c,j⟩,[iI,t,p]]
     ·simp only[hits,(tJ (d:=[]) O).1];rw[23,Sy,W]
    ·rintro⟨t,p,W⟩;have p:t∈[rg,g.zipIdx,_]:=p;obtain⟨⟨w,i⟩,O,D⟩:=[zB,p];have H:=(tJ (d:=[]) O).2;have B:=(tJ (d:=[]) O).1;split at D;·rename_i V;obtain⟨Y,z,rfl⟩:=[bE,D];refine⟨w,H,(B0 m f w 0 L (x::s) (o g E w H)).mpr ⟨V.1,V.2,(T _ _).mpr [pv,Y,z]⟩⟩;simp only[hits]at W;have B:g.getD i []=w:=B;rw[B,←Sy]at W;exact W
     ·simp at D
theorem foldl_add(l:[ak]):∀a:Nat,l.foldl (·+·) a=a+l.foldl (·+·) 0:=by induction l with|nil=>intro a;simp|cons x l T=>intro a;simp only[i7];rw[T (a+x),T (0+x)];omega
def jO(r:[Fd])(t:[ak]):[ak]:=[zZ,r.zip t,(x.1.getD x.2 []).length]
theorem JQ(s:[nG])(n k:Nat):lh (s.drop n) k=lh s (n+k):=[bn,lh]
theorem Tb{g:[KW]}{r:[Fd]}{s:[nG]}{t:[ak]}(h:t∈takes (g::r) s):∃i Y,t=i::Y∧[ck,g.getD i [],s.length]∧Y∈takes r (s.drop [OS]):=by
 rw[310];have c:g.getD i []=w:=(tJ (d:=[]) O).1;split at D;·rename_i V;obtain⟨Y,o,rfl⟩:=[bE,D];rw[26,i,Y,J,?_,?_];rw[39,c,V.1,c,o]
 ·simp at D
theorem JR(S:[m_]):∀(r:[Fd])(f:Nat)(s:[nG])(t:[ak]),t∈takes r s→(hits S f r s t=true↔∃c∈S,f+1≤c.1∧1≤c.2∧c.2≤(jO r t).getD (c.1-1-f) 0∧lh s (((jO r t).take (c.1-1-f)).foldl (·+·) 0+c.2-1)=true)
 |[],f,s,t,h=>by
  simp only[hits,jO,List.zip_nil_left,vI];rw[5];·intro h;cases h
  ·rintro⟨c,_,_,a,b,_⟩;simp at b;omega
 |g::r,f,s,t,h=>by
  obtain⟨i,Y,rfl,X,o⟩:=Tb h;have T:=JR S r (f+1) (s.drop [OS]) Y o;have O:=JO S f (g.getD i []) 0 s X;have G:jO (g::r) (i::Y)=[OS]::jO r Y:=J;simp only[hits,n9,O,T,G];rw[5]
  ·rintro(⟨c,V,a,b,P,w⟩|⟨c,V,a,b,P,w⟩)
   ·refine⟨c,V,[ac],[ac],?_,?_⟩;·rw[47,c.1-1-f=0];rw[this];simpa using P
    ·rw[47,c.1-1-f=0];rw[this];simpa using w
   ·have e:c.1-1-f=(c.1-1-(f+1))+1:=[ac];refine⟨c,V,[ac],b,?_,?_⟩;·rw[e];simpa using P
    ·rw[e,RY,i7,foldl_add];rw[JQ]at w;rw[87,[acX]-1,[OS]+[abJ],[ac],w]
  ·rintro⟨c,V,a,b,P,w⟩;by_cases M:c.1=f+1;·left;rw[47,c.1-1-f=0];rw[this]at P w;rw[37,c,V,M,[ac],[aB,P],[aB,w]]
   ·right;have e:c.1-1-f=(c.1-1-(f+1))+1:=[ac];rw[e]at P w;refine⟨c,V,[ac],b,[aB,P],?_⟩;rw[RY,i7,foldl_add]at w;rw[JQ];rw[47,[acX]-1=[OS]+[abJ]];rw[this]at w;exact w
theorem JS(m:Measure)(V:[Vf])(s:[nG])(t:[ak])(F:t∈takes m.feet s):cutsOk m s t=([Py]||hits m.cuts 0 m.feet s t):=by
 unfold cutsOk;congr 1;rw[dH,JR m.cuts m.feet 0 s t F,yD];have a:∀c:[wh],([DX,place m t c,k,[DX,s[k]?,x,x.ends,false],false]=true↔[Z9]∧lh s [abK]=true):=by
  intro c;have R:place m t c=[Lh,[Z9],[abK]]:=J;rw[R];by_cases h:[Z9];·rw[aI h];show(lh s _=true↔_);rw[0,λ q=>⟨h,q⟩,λ q=>q.2]
  ·rw[32,aD h];·intro q;cases q
   ·intro q;rw[8,q.1,h]
 rw[5];·rintro⟨c,N,h⟩;obtain⟨g,r⟩:=(a c).mp h;rw[37,c,N,by rw[10,(V c N).1],(V c N).2,g,r]
 ·rintro⟨c,N,_,_,g,r⟩;rw[1,c,N,(a c).mpr ⟨g,r⟩]
theorem Tc(m:Measure)(T:[OX,w≠[]])(V:[Vf])(s:[nG]):[aX,(scans m s).isEmpty]↔acc m (0,0,[],[Py]) s:=by
 rw[JP m T m.feet 0 [Py] s J (b7 _)];unfold scans;rw[Rv,Ne,List.filter_eq_nil_iff];rw[5];·intro h;apply kT;intro hn;exact h λ t F q=>hn ⟨t,F,[cm,JS m V s t F,q]⟩
 ·rintro⟨t,F,h⟩q;exact q t F [ap,JS m V s t F,h]
end Vs
end
section
namespace Vs
open Kgz1(Syl Kind Measure fits Sound between upTo nextVowel syls counts mute liquid cut left begins spoken)
abbrev pB:=Bool×[m_]×Nat
def gd:Option pB→[er,Sound×Nat,[nG]]|none,[]=>[]|Z _,[]=>[ZG]|p,([mn],w)::r=>gd (p.map λ q=>(q.1,q.2.1++[(c,w)],q.2.2)) r|none,([jz],w)::r=>gd (Z (g,[],w)) r|Z q,([jz],w)::r=>[Zf,q.1,q.2.1,w,q.2.2]::gd (Z (g,[],w)) r
theorem Td:∀(l:(List (Sound×Nat)))(g:Bool)(cs:[m_])(w:Nat),syls (([jz],w)::[Z6])=gd (Z (g,cs,w)) l:=by
 have v:[aaL,nextVowel,nextVowel l]:=by rw[253]
 have y:[aaL,syls,syls l]:=by rw[253]
 have t:[aaL,upTo,cs++upTo l]:=by intro cs l;induction cs with|nil=>rfl|cons c cs T=>show(c.1,c.2)::upTo [Z6]=c::(cs++upTo l);rw[T]
 intro l;induction l with|nil=>intro g cs w;simp only[syls,v,y];rfl|cons x l T=>intro g cs w;obtain⟨s,i⟩:=x;cases s with|cons c=>have e:[Oz,Sound.cons c.1,c.2]++(Sound.cons c,i)::l=(cs++[(c,i)]).map (λ c=>((Sound.cons c.1),c.2))++l:=[al];rw[e,T];rfl|vowel Q=>have h:=T Q [] i;simp only[syls,v,y,t];simp only[nextVowel,upTo,qD];show _::syls ((Sound.vowel Q,i)::l)=_::gd (Z (Q,[],i)) l;rw[[db,syls ((Sound.vowel Q,i)::l),gd (Z (Q,[],i)) l,h]]
theorem JT:∀l:(List (Sound×Nat)),syls l=gd none l|[]=>J|([mn],w)::r=>by show syls r=gd none r;exact JT r|([jz],w)::r=>by have h:=Td r g [] w;exact h
def cW:[er,[wh],Nat]|[]=>0|[c]=>[FQ,counts c.1=1,3]|[a,b]=>if a.2=b.2∧[jb,mute a.1,liquid b.1=true]then 2 else 3|_=>3
def kindOf(w:Nat):Kind:=[QJ,w≤1,.short,w=2,.either,.long]
def joined(w v:Nat):Nat:=[QJ,w=0,v,v=0,w,3]
theorem B1(c:Nat):counts c=1∨counts c=2:=by
 unfold counts;split;·right;rfl
 ·left;rfl
theorem JU:∀l:[m_],kindOf (cW l)=between l
 |[]=>J
 |[c]=>by obtain⟨c,w⟩:=c;rcases B1 c with h|h<;>simp[cW,between,h,kindOf]
 |[a,b]=>by obtain⟨a,v⟩:=a;obtain⟨b,w⟩:=b;simp only[cW,between];split<;>rfl
 |a::b::c::r=>by
  have h:¬[zZ,a::b::c::r,counts x.1].foldl (·+·) 0≤1:=by have g:=B1 a.1;have d:=B1 b.1;simp only[bO,i7];rw[27,foldl_add]
  show Kind.long=_;simp only[between];rw[aD h]
theorem Te(i:Nat):∀(cs B:[m_]),(∀c∈cs,c.2≠i)→(∀d∈B,d.2=i)→cW (cs++B)=joined (cW cs) (cW B)
 |[],B,_,_=>by simp[cW,joined]
 |cs,[],_,_=>by
  rw[qD];show cW cs=joined (cW cs) 0;unfold joined;split;·rename_i h;rw[h]
  ·rfl
 |[c],[d],g,a=>by
  have hn:¬c.2=d.2:=[ap,a d [al],g c [al]];rw[71,cW ([c]++[d])=3,by simp[cW,hn]];have v:cW [c]≠0:=by rw[114]
  have w:cW [d]≠0:=by rw[114]
  unfold joined;rw[aD v,aD w]
 |[c],d::L::B,g,a=>by
  rw[71,cW ([c]++d::L::B)=3,J];have v:cW [c]≠0:=by rw[114]
  have w:cW (d::L::B)≠0:=by cases B with|nil=>rw[114]|cons x r=>simp[cW]
  unfold joined;rw[aD v,aD w]
 |c::s::cs,d::B,g,a=>by
  rw[71,cW ((c::s::cs)++d::B)=3,by cases cs<;>rfl];have v:cW (c::s::cs)≠0:=by cases cs with|nil=>rw[114]|cons x r=>simp[cW]
  have w:cW (d::B)≠0:=by match B with|[]=>rw[114]|[x]=>rw[114]|x::y::r=>simp[cW]
  unfold joined;rw[aD v,aD w]
def wt(g:Bool)(cs:[ak]):Nat:=if g then 3 else cW [Oz,c,0]
theorem B2(i:Nat)(cs:[ak]):cW [Lv]=cW [Oz,c,0]:=by match cs with|[]=>rfl|[a]=>rfl|[a,b]=>simp[cW]|a::b::c::r=>rfl
def ft(g:Bool)(cs:[ak]):[er,Sound,[ak]]|[]=>[wt g cs]|[mn]::r=>ft g (cs++[c]) r|.vowel Q::r=>wt g cs::ft Q [] r
def gJ:[er,Sound,[ak]]|[mn]::r=>c::gJ r|_=>[]
def eA:[er,Sound,[ak]]|[]=>[]|.cons _::r=>eA r|[jz]::r=>ft g [] r
def lead(s:[dS]):Nat:=cW ((gJ s).map (λ c=>(c,0)))
theorem B3(g:Bool)(cs:[ak])(s:[dS]):ft g cs s≠[]:=by induction s generalizing g cs with|nil=>simp[ft]|cons x s T=>cases x with|cons c=>exact T g _|vowel Q=>simp[ft]
def settled(p:[v0])(K:Nat)(o:[ak]):[nG]:=[pH,o,[],[],[abt,p,K,o.dropLast.map]]
def ou(p:[v0])(K:Nat)(o:[ak]):[v0]:=[Uj,o.getLast?,p.map λ w=>joined w K,w,Z w]
def jP(q:pB):Nat:=if q.1 then 3 else cW q.2.1
theorem B4(i:Nat)(l:(List (Sound×Nat))):∀(s:[dS])(g:Bool)(cs:[ak]),∃q:pB,[NS,g,[Lv]]=((ft g cs s).dropLast.map λ w=>(⟨kindOf w,false⟩:Syl))++gd (Z q) l∧((ft g cs s).getLast?=Z (jP q))∧q.2.2=i∧∀c∈q.2.1,c.2=i
 |[],g,cs=>by
  rw[26,(g,[Lv],i),J,?_,J,?_];·show Z (wt g cs)=Z _;unfold wt jP;cases g with|true=>rfl|false=>simp[B2 i cs]
  ·intro c V;obtain⟨d,_,rfl⟩:=[bE,V];rfl
 |[mn]::s,g,cs=>by obtain⟨q,a,r,P⟩:=B4 i l s g (cs++[c]);rw[18,q,?_,r,P];show[NS,g,[Lv]++[(c,i)]]=_;have e:[Lv]++[(c,i)]=(cs++[c]).map (λ c=>(c,i)):=[al];rw[e,a];rfl
 |.vowel Q::s,g,cs=>by
  obtain⟨q,a,r,P⟩:=B4 i l s Q [];rw[18,q,?_,?_,P]
  ·have a:[NS,Q,[]]=_:=a;show([Zf,g,[Lv],i,i]:Syl)::[NS,Q,[]]=_;rw[a];have b:(ft g cs (.vowel Q::s)).dropLast=wt g cs::(ft Q [] s).dropLast:=by show(wt g cs::ft Q [] s).dropLast=_;rw[List.dropLast_cons_of_ne_nil (B3 _ _ _)]
   rw[b,bO,nW];congr 1;rw[52,[B6,kindOf (wt g cs),g,Kind.long,between [Lv]],by cases g with|true=>rfl|false=>show kindOf (cW [Oz,c,0])=between [Lv];rw[←B2 i cs,JU]];simp
  ·rw[25,(wt g cs::ft Q [] s).getLast?=_,List.getLast?_cons_of_ne_nil (B3 _ _ _),r]
def y6(i:Nat):Option pB→Prop|none=>True|Z q=>q.2.2<i∧∀c∈q.2.1,c.2<i
theorem JV{i:Nat}{q:pB}(h:y6 i (Z q))(B:[ak]):jP (q.1,q.2.1++[N5,i],q.2.2)=joined (jP q) (cW [N5,0]):=by obtain⟨g,cs,w⟩:=q;unfold jP;cases g with|true=>simp[joined]|false=>rw[136];rw[Te i cs _ (λ c V=>dY (h.2 c V)) (λ d a=>by obtain⟨_,_,rfl⟩:=[bE,a];rfl),B2]
theorem JW(i:Nat)(l:(List (Sound×Nat))):∀(s:[dS])(p:[iH,pB])(B:[ak]),y6 i p→∃E:[iH,pB],gd [QR,B.map] [Yo]=settled (p.map jP) (cW ((B++gJ s).map (λ c=>(c,0)))) (eA s)++gd E l∧E.map jP=ou (p.map jP) (cW ((B++gJ s).map (λ c=>(c,0)))) (eA s)∧y6 (i+1) E
 |[],p,B,h=>by
  rw[18,[QR,B.map],J,?_,?_];·cases p with|none=>rfl|some q=>simp only[ou,eA,sX,List.getLast?_nil,gJ,qD];rw[JV h]
  ·cases p with
    |none=>trivial
    |some q=>
     rw[15,o_ h.1,λ c V=>?_];rcases[d6,V]with V|V;·exact o_ (h.2 c V)
     ·obtain⟨_,_,rfl⟩:=[bE,V];exact qB i
 |[mn]::s,p,B,h=>by
  obtain⟨E,a,r,P⟩:=JW i l s p (B++[c]) h;rw[18,E,?_,?_,P]
  ·have e:gd [QR,B.map] ([zZ,Sound.cons c::s,(x,i)]++l)=gd [QR,(B++[c]).map] [Yo]:=by cases p with|none=>rfl|some q=>show gd (Z (q.1,(q.2.1++[N5,i])++[(c,i)],q.2.2)) _=_;simp[gZ]
   rw[e,a];simp only[gJ,eA,gZ,List.singleton_append]
  ·rw[r];simp only[gJ,eA,gZ,List.singleton_append]
 |[jz]::s,p,B,h=>by
  obtain⟨q,a,r,P,b⟩:=B4 i l s g [];have a:[NS,g,[]]=_:=a;rw[18,Z q,?_,?_,?_]
  ·have T:eA ([jz]::s)=ft g [] s:=J;have G:settled (p.map jP) (cW ((B++gJ ([jz]::s)).map (λ c=>(c,0)))) (eA ([jz]::s))=[abt,p.map jP,cW [N5,0],(ft g [] s).dropLast.map]:=by unfold settled;rw[T,aD (B3 _ _ _)];simp only[gJ,qD]
   rw[G];cases p with|none=>show[NS,g,[]]=_;rw[a];rfl|some p=>show([Zf,p.1,p.2.1++[N5,i],i,p.2.2]:Syl)::[NS,g,[]]=_;rw[a];rw[70,(i !=p.2.2)=true,by have:=h.1;rw[17],(if p.1 then Kind.long else between (p.2.1++[N5,i]))=kindOf (joined (jP p) (cW [N5,0])),by rw[←JV h B];unfold jP;cases R:p.1 with|true=>simp[kindOf]|false=>simp[JU]];rw[e1,e2];rfl
  ·show Z (jP q)=_;unfold ou;rw[[db,eA ([jz]::s),ft g [] s,J],r]
  ·rw[0,[ac],λ c V=>[ap,b c V,qB i]]
def mV:Option Nat→[er,[dS],[nG]]|none,[]=>[]|Z _,[]=>[ZG]|p,s::r=>settled p (lead s) (eA s)++mV (ou p (lead s) (eA s)) r
theorem JX:∀(o:List [dS])(i:Nat)(p:[iH,pB]),y6 i p→gd p [Qa,o.zipIdx i]=mV (p.map jP) o
 |[],i,p,_=>by cases p<;>rfl
 |s::o,i,p,h=>by
  obtain⟨E,g,r,P⟩:=JW i [Qa,o.zipIdx (i+1)] s p [] h;have e:[QR,([]:[ak]).map]=p:=by cases p with|none=>rfl|some q=>simp
  rw[e]at g;show gd p (s.map (λ x=>(x,i))++[Qa,o.zipIdx (i+1)])=_;rw[g,JX o (i+1) E P,r];simp only[pf];cases p<;>rfl
theorem Tf(o:List [dS]):syls [Qa,o.zipIdx]=mV none o:=[ap,JT,JX o 0 none mU]
end Vs
end
section
namespace Vs
open Kgz1(Syl Kind Measure fits Sound between syls cut left begins)
abbrev a8:=Spot×[v0]×Nat
abbrev Form:=Nat×Nat×[ak]
abbrev Shape:=Nat×List Form
def eE(s:[dS]):Bool:=match s.reverse with|.vowel _::_=>true|.cons 109::.vowel _::_=>true|_=>false
def ku(s:[dS]):Nat:=[FQ,begins s,2]
def gK(s:[dS]):Shape:=(ku s,if eE s then[ab3]else[(0,lead s,eA s)])
def lY(m:Measure)(L:a8)(fm:Form):List a8:=[Z2,[Ow,L],after m [L.1] [Zb]]
def targets(m:Measure)(L:a8)(sh:Shape):List a8:=[ZS,lY]
def B5(m:Measure)(L:a8):Prop:=L.2.2≠1∧L.2.1≠none∧gH m∈gc m .either true L.1
def jQ(m:Measure):[dF,a8,List Shape]|L,[]=>B5 m L|L,sh::r=>∃l∈targets m L sh,jQ m l r
def vV(m:Measure):Spot:=(0,0,[],[Py])
def start(m:Measure):a8:=(vV m,none,0)
theorem B6(g:Bool)(t:[dS]):∀(r:[dS])(m:Bool)(cs:[ak]),ft m cs [Qp]=ft m cs r++ft g [] t|[],m,cs=>J|[mn]::r,m,cs=>B6 g t r m (cs++[c])|.vowel Q::r,m,cs=>by show wt m cs::ft Q [] [Qp]=wt m cs::ft Q [] r++_;rw[B6 g t r Q []];rfl
theorem JY(g:Bool)(t:[dS]):∀(r:[dS]),eA [Qp]=eA r++ft g [] t|[]=>J|[mn]::r=>JY g t r|.vowel Q::r=>B6 g t r Q []
theorem JZ(g:Bool)(t:[dS]):∀(r:[dS]),gJ [Qp]=gJ r|[]=>J|[mn]::r=>by show c::gJ [Qp]=c::gJ r;rw[JZ g t r]|.vowel Q::r=>J
theorem J0{s r t:[dS]}{g:Bool}(G:s=[Qp])(F:∀Q cs,ft Q cs t=[wt Q (cs++gJ t)]):lead r=lead s∧eA r=(eA s).dropLast:=by
 subst G;rw[15,?_,?_];·unfold lead;rw[JZ]
 ·rw[JY,F];simp
theorem J1(s:[dS]):[adP]:=by
 have u:s=s.reverse.reverse:=[al];have n:∀(l:[dS]),(s.reverse=l→(∀g r,l≠[jz]::r)→(∀g r,l≠.cons 109::[jz]::r)→[aX,eE s]∧cut s=s):=by
  intro l e f i;rw[5];·unfold eE;rw[e];split;rw[2,[gh,J,f _ _],[gh,J,i _ _]];·rfl
  ·unfold cut;rw[e];split;rw[2,[gh,J,f _ _],[gh,J,i _ _]];·rfl
 have C:[aX,eE s]∧cut s=s→[adP]:=by rintro⟨a,b⟩;rw[0,λ h=>(by rw[43,a]),λ _=>b]
 match e:s.reverse with
  |[]=>exact C [ZD]
  |[jz]::r=>
   have H:cut s=r.reverse:=by unfold cut;rw[e]
   have q:eE s=true:=by unfold eE;rw[e]
   rw[272,[]]
  |[[mn]]=>exact C [ZD]
  |[mn]::.cons d::r=>exact C [ZD]
  |[mn]::[jz]::r=>
   by_cases V:c=109
   ·subst V;have H:cut s=r.reverse:=by unfold cut;rw[e];rfl
    have q:eE s=true:=by unfold eE;rw[e];rfl
    rw[272,[.cons 109]]
   ·exact C (n _ e [al] (by intro Q A h;injection h with f _;injection f with f;exact V f))
theorem J2(m:Measure):∀(a b:[nG])(sp:Spot),acc m sp (a++b)↔[Zl,[sp]]:=by
 have Q:∀(a b:[nG])(l:[Im]),(∃sp∈l,acc m sp (a++b))↔[Zl,l]:=by
  intro a b;induction a with
   |nil=>intro l;exact vP
   |cons x a T=>
    intro l;have h:=T [Xu,gc];show(∃sp∈l,∃c∈[Td,sp],acc m c (a++b))↔[Zl,[Xu,gc]];rw[←h];rw[5];·rintro⟨sp,g,c,r,P⟩;rw[1,c,[wB,sp,g,r],P]
    ·rintro⟨c,g,r⟩;obtain⟨sp,P,w⟩:=[zB,g];rw[9,sp,P,c,w,r]
 intro a b sp;rw[←Q a b [sp]];simp
def jR(w:Nat):[zH,[dS]]|[]=>w≠1|s::_=>w=0∨w=ku s
theorem Tg(p:[v0])(K:Nat):settled p K []=[]:=J
theorem J3{m:Measure}(r:List [dS])(P:a8→Prop)(L:a8)(fm:Form)(T:∀sp p,(p=none→L.2.1=none∧sp=L.1)→(P (sp,p,fm.1)↔jR fm.1 r∧acc m sp (mV p (left r)))):(∃l∈lY m L fm,P l)↔jR fm.1 r∧acc m L.1 ([Zb]++mV (ou L.2.1 fm.2.1 fm.2.2) (left r)):=by
 obtain⟨w,K,o⟩:=fm;by_cases hw:o=[]
 ·subst hw;have e:lY m L (w,K,[])=[(L.1,[NP,joined w K],w)]:=J;rw[e,Tg,pf];have hn:[NP,joined w K]=none→L.2.1=none:=λ q=>by cases D:L.2.1 with|none=>rfl|some x=>rw[90,D]
  have h:=T L.1 [NP,joined w K] (λ q=>[eJ,hn q]);rw[5];·rintro⟨l,g,a⟩;rw[sS]at g;subst g;exact h.mp a
  ·intro q;rw[36,[Zn],h.mpr q]
 ·obtain⟨x,A⟩:∃x,o.getLast?=Z x:=[eD,List.getLast?_eq_some_getLast hw];have e:lY m L (w,K,o)=(after m [L.1] (settled L.2.1 K o)).map λ sp=>(sp,Z x,w):=by unfold lY;rw[aD hw];show qK (λ sp=>(sp,o.getLast?,w)) _=_;rw[A]
  have i:ou L.2.1 K o=Z x:=by unfold ou;rw[A]
  rw[e,J2,i];rw[5];·rintro⟨l,g,a⟩;obtain⟨sp,b,rfl⟩:=[bE,g];obtain⟨c,d⟩:=(T sp (Z x) (λ q=>by cases q)).mp a;rw[21,c,sp,b,d]
  ·rintro⟨c,sp,b,d⟩;rw[36,[iI,sp,b],(T sp (Z x) (λ q=>by cases q)).mpr ⟨c,d⟩]
theorem Th(s:[dS]):ku s=1∨ku s=2:=by unfold ku;split<;>simp
theorem J4(m:Measure)(F:m.feet≠[]):∀(o:List [dS])(L:a8),(L.2.1=none→L.1=vV m)→(jQ m L (o.map gK)↔jR L.2.2 o∧acc m L.1 (mV L.2.1 (left o)))
 |[],(sp,p,w),G=>by
  cases p with
   |none=>
    have e:sp=vV m:=G J;rw[5];·rintro⟨_,h,_⟩;rw[8,J,h]
    ·rintro⟨_,h⟩;have h:sp=gH m:=h;rw[e]at h;have:=ed Prod.fst h;have:0=m.feet.length:=this;rw[8,[Vp,this.symm],F]
   |some x=>
    rw[5];·rintro⟨g,_,P⟩;rw[21,g,_,P,J]
    ·rintro⟨g,i,a,P⟩;have P:i=gH m:=P;rw[P]at a;rw[1,g,[al],a]
 |s::o,(sp,p,w),G=>by
  have T:=J4 m F o;have H:∀(fm:Form)(i:Spot)(E:[v0]),(E=none→p=none∧i=sp)→(jQ m (i,E,fm.1) (o.map gK)↔jR fm.1 o∧acc m i (mV E (left o))):=λ fm i E h=>T (i,E,fm.1) λ q=>by obtain⟨g,a⟩:=h q;rw[25,i=_,a,G g]
  show(∃l∈[Zr],jQ m l (o.map gK))↔_;by_cases hw:w=0∨w=ku s
  ·have t:[Zr]=[rg,(gK s).2,lY m (sp,p,w)]:=aI hw;rw[t];have v:(∃l∈[rg,(gK s).2,lY m (sp,p,w)],jQ m l (o.map gK))↔∃fm∈(gK s).2,jR fm.1 o∧acc m sp (settled p fm.2.1 fm.2.2++mV (ou p fm.2.1 fm.2.2) (left o)):=by
    rw[5];·rintro⟨l,g,a⟩;obtain⟨fm,P,c⟩:=[zB,g];rw[1,fm,P,[abV].mp ⟨l,c,a⟩]
    ·rintro⟨fm,P,h⟩;obtain⟨l,c,a⟩:=[abV].mpr h;rw[1,l,[wB,fm,P,c],a]
   rw[v];have j:jR w (s::o):=hw;have n:∀(d:[dS]),left (s::o)=d::left o→(acc m sp (mV p (left (s::o)))↔acc m sp (settled p (lead d) (eA d)++mV (ou p (lead d) (eA d)) (left o))):=λ d h=>by rw[h];cases p<;>exact vP
   cases R:eE s with
    |false=>
     have e:(gK s).2=[(0,lead s,eA s)]:=by simp[gK,R]
     have X:left (s::o)=s::left o:=by cases o with|nil=>rfl|cons b r=>show[Z3]=_;rw[(J1 s).2 R];simp
     rw[e];have z:jR 0 o:=by cases o<;>simp[jR]
     rw[5];·rintro⟨fm,g,_,a⟩;rw[sS]at g;subst g;rw[0,j,(n s X).mpr a]
     ·rintro⟨_,h⟩;rw[21,_,[Zn],z,(n s X).mp h]
    |true=>
     have e:(gK s).2=[ab3]:=by simp[gK,R]
     obtain⟨u,A⟩:=(J1 s).1 R;rw[e];by_cases K:jR 1 o
     ·obtain⟨b,r,rfl,y⟩:∃b r,o=b::r∧begins b=true:=by
       cases o with
        |nil=>rw[8,J,K]
        |cons b r=>
         rw[18,b,r,J,?_];rcases K with h|h;·cases h
         ·unfold ku at h;split at h;·rename_i q;exact q
          ·cases h
      have D:¬jR 2 (b::r):=by
       have:ku b=1:=by simp[ku,y]
       simp[jR,this]
      have X:left (s::b::r)=cut s::left (b::r):=by show[Z3]=_;rw[y];rfl
      have k:=n (cut s) X;rw[u,A]at k;rw[5]
      ·rintro⟨fm,g,I,a⟩;rcases[d9,g]with rfl|g;·rw[0,j,k.mpr a]
       ·rw[sS]at g;subst g;rw[8,I,D]
      ·rintro⟨_,h⟩;rw[21,_,cq,K,k.mp h]
     ·have f:jR 2 o:=by cases o with|nil=>simp[jR]|cons b r=>rcases Th b with h|h;rw[2,[gh,gq h.symm,K],gq h.symm]
      have X:left (s::o)=s::left o:=by
       cases o with
        |nil=>rfl
        |cons b r=>
         have:[aX,begins b]:=by cases q:begins b with|false=>rfl|true=>rw[8,gq (by simp[ku,q]),K]
         show[Z3]=_;rw[this];rfl
      rw[5]
      ·rintro⟨fm,g,I,a⟩;rcases[d9,g]with rfl|g;·rw[8,I,K]
       ·rw[sS]at g;subst g;rw[0,j,(n s X).mpr a]
      ·rintro⟨_,h⟩;rw[21,_,cp _ cq,f,(n s X).mp h]
  ·have t:[Zr]=[]:=aD hw;rw[32,t];·rintro⟨_,h,_⟩;cases h
   ·rintro⟨h,_⟩;rw[8,h,hw]
theorem Ti(m:Measure)(F:m.feet≠[])(T:[OX,w≠[]])(V:[Vf])(o:List [dS]):jQ m (start m) (o.map gK)↔[aX,(Kgz1.scans m (syls [Qa,(left o).zipIdx])).isEmpty]:=by rw[J4 m F o (start m) (λ _=>J),Tc m T V,Tf];constructor;rw[2,λ h=>h.2,λ h=>⟨by cases o<;>simp[jR,start],h⟩]
end Vs
end
section
namespace Vs
open Kgz1(Syl Kind Measure Sound syls cut left begins takes scans Bytes splitOn words syllables spoken)
open Kgz2(wordOf lineOf scansRow)
theorem J5:∀(a w r:Bytes),(∀c∈a,c≠32)→[B6,splitOn (a++32::r) w,w++a=[],[Nw,r],(w++a)::[Nw,r]]|[],w,r,_=>by show[J9,(32:Nat)=32,[pH,w,[],[Nw,r],w::[Nw,r]],splitOn,r,w++[32]]=_;rw[aI J,qD]|c::a,w,r,h=>by rw[307,a++32::r,J5 a (w++[c]) r λ d b=>h d (cp _ b)]
theorem J6:∀(a w:Bytes),(∀c∈a,c≠32)→[B6,splitOn a w,w++a=[],[],[w++a]]|[],w,_=>[bn,splitOn]|c::a,w,h=>by rw[307,a,J6 a (w++[c]) λ d b=>h d (cp _ b)]
def pC:[er,Bytes,Bytes]|[]=>[]|[a]=>a|a::b::r=>a++32::pC (b::r)
theorem J7:(∀(l:List Bytes),(∀a∈l,[aal,a])→words (pC l)=l)|[],_=>J|[a],h=>by obtain⟨g,d⟩:=h a [al];show[Nw,a]=[a];rw[J6 a [] d];simp[g]|a::b::r,h=>by obtain⟨g,d⟩:=h a [al];show[Nw,a++32::pC (b::r)]=_;rw[J5 a [] _ d];simp only[pf,aD g];have T:=J7 (b::r) [Kn,h];have T:[Nw,pC (b::r)]=b::r:=T;rw[T]
theorem B7(S:List Bytes):∀r:[ak],lineOf S r=pC [Fg,[OM]]|[]=>J|[k]=>J|k::l::r=>by have T:=B7 S (l::r);show[OM]++32::lineOf S (l::r)=_;rw[T];rfl
theorem length_join:(∀(l:List Bytes),l≠[]→[fz,pC,l]+1=(l.map λ a=>a.length+1).sum)|[a],_=>[bn,pC]|a::b::r,_=>by have T:=length_join (b::r) [al];show(a++32::pC (b::r)).length+1=_;rw[bO,qE,←T];rw[17]
theorem J8(m:Measure):∀(r:[Fd])(s:[nG])(t:[ak]),(∀g∈r,∀w∈g,[aab])→t∈takes r s→[AE,s.length]∧s.length≤4*r.length
 |[],s,t,_,h=>by
  unfold takes at h;split at h;·rename_i e;subst e;simp
  ·rw[14]
 |g::r,s,t,b,h=>by
  rw[310];have H:=(tJ (d:=[]) O).2;split at D;·rename_i V;obtain⟨Y,o,rfl⟩:=[bE,D];have T:=J8 m r _ Y (λ Q j=>b Q (cp _ j)) o;have X:=b g [al] w H;have a:=V.1;simp only[lQ,dP]at T⊢;simp only at a;omega
  ·simp at D
structure B8(m:Measure):Prop where
 feet:1≤m.feet.length∧m.feet.length≤16
 iT:[OX,[aab]]
 cuts:[Vf]
theorem Tj{m:Measure}(E:B8 m){s:[nG]}(h:[aX,(scans m s).isEmpty]):[aX,Kgz1.bad s]:=by unfold scans at h;rw[Rv]at h;obtain⟨t,F⟩:=List.exists_mem_of_ne_nil _ h;have F:=[FB,F].1;have X:=J8 m m.feet s t E.iT F;have g:=E.feet;unfold Kgz1.bad;rw[Bool.or_eq_false_iff];rw[15,?_,[lu]];rw[Rv];intro e;have I:s.length=0:=[fy,e];omega
def tK(b:Bytes):Shape:=gK (mQ 0 b)
theorem Tn{m:Measure}(E:B8 m)(S:List Bytes)(r:[ak])(u:r≠[])(G:∀k∈r,[aal,[OM]]):(scansRow m S r=true↔([Xj,[Qo]].sum≤256∧jQ m (start m) [Fg,tK [OM]])):=by
 have l:m.feet≠[]:=by intro e;rw[35,E.feet.1,e];rw[77]
 have N:[OX,w≠[]]:=λ g j w T e=>by rw[35,(E.iT g j w T).1,e];rw[77]
 have T:[WJ]=[Fg,[OM]]:=by rw[13,B7,J7 _ [Kv]];obtain⟨k,C,rfl⟩:=[bE,ha];exact G k C
 have X:(lineOf S r).length+1=[Xj,[Qo]].sum:=by rw[B7,length_join _ [aB,u],cP];rfl
 have A:=Ti m l N E.cuts ([WJ].map (mQ 0));have e1:syls [Qa,(left ([WJ].map (mQ 0))).zipIdx]=syllables (lineOf S r):=J;rw[e1]at A;have e2:([WJ].map (mQ 0)).map gK=[Fg,tK [OM]]:=by rw[T,cP,cP];rfl
 rw[e2]at A;unfold scansRow;simp only[dO,dw,Bw];rw[32,A];·rintro⟨⟨b,d⟩,P⟩;rw[0,[ac],P]
 ·rintro⟨b,P⟩;rw[0,⟨[ac],Tj E P⟩,P]
end Vs
end
section
namespace Vs
open Kgz2(before goOn rows isRow first Row)
theorem B9:∀r:Row,[aX,before r r]|[]=>J|a::l=>by simp[before,B9 l]
theorem J9:∀{a b c:Row},before a b=true→before b c=true→before a c=true
 |[],[],_,h,_=>by cases h
 |[],_::_,[],_,h=>by cases h
 |[],_::_,_::_,_,_=>J
 |_::_,[],_,h,_=>by cases h
 |_::_,_::_,[],_,h=>by cases h
 |a::l,b::m,c::n,g,r=>by
  simp only[before,n9,dO,dw,mS]at g r⊢;rcases g with g|⟨g,d⟩;·rcases r with r|⟨r,_⟩;rw[2,.inl [ac],.inl [ac]]
  ·rcases r with r|⟨r,O⟩;rw[2,.inl [ac],[jl,[ac],J9 d O]]
theorem To(r x:Row)(h:x≠[]):before r (r++x)=true:=by
 induction r with
  |nil=>cases x with|nil=>rw[8,J,h]|cons a l=>rfl
  |cons a l T=>simp[before,T]
theorem Tp(r x y:Row):before (r++x) (r++y)=before x y:=by induction r with|nil=>rfl|cons a l T=>simp[before,T]
theorem y8(w:Nat):∀(n:Nat)(r q:Row),q∈goOn w n r↔∃x,[jS,q=r++x,x≠[],x.length≤n,∀k∈x,k<w,x.Nodup,∀k∈x,k∉r]
 |0,r,q=>by
  rw[5];·intro h;simp[goOn]at h
  ·rintro⟨x,_,h,X,_⟩;rw[8,[Vp,[ac]],h]
 |n+1,r,q=>by
  have T:=y8 w n;simp only[goOn,nX,yH,So,lU,Bw,List.contains_eq_mem,R6];rw[5]
  ·rintro⟨k,⟨C,u⟩,rfl|h⟩;·exact⟨[k],J,[al],[al],[aB,C],[al],[aB,u]⟩
   ·obtain⟨x,rfl,g,a,P,b,m⟩:=(T _ _).mp h;rw[53,k::x,[al],[al],by rw[17],?_,?_,?_];·intro j U;rcases[d9,U]with rfl|U;rw[2,C,P j U]
    rw[11,BF,⟨λ N=>m k N [al],b⟩];·intro j U;rcases[d9,U]with rfl|U;rw[2,u,λ N=>m j U (lP _ N)]
  ·rintro⟨x,rfl,g,a,P,b,m⟩;cases x with
    |nil=>rw[8,J,g]
    |cons k x=>
     rw[24,k,⟨P k [al],m k [al]⟩];by_cases A:x=[];·subst A;rw[46,J]
     ·right;refine(T _ _).mpr ⟨x,[al],A,by simp at a;omega,λ j U=>P j (cp _ U),[Av,b].2,λ j U N=>?_⟩;rcases[d6,N]with N|N;·exact m j (cp _ U) N
      ·rw[sS]at N;subst N;exact[Av,b].1 U
theorem y9{w most:Nat}{r:Row}:r∈rows w most↔[F_,w,r]:=by
 unfold rows isRow;rw[y8];simp only[dO,dw,BA];rw[5]
 ·rintro⟨x,A,g,b,P,c,_⟩;rw[45,r=x,A];have:1≤r.length:=by cases r with|nil=>rw[8,J,g]|cons a l=>simp
  rw[0,⟨⟨this,b⟩,P⟩,c]
 ·rintro⟨⟨⟨g,b⟩,P⟩,c⟩;exact⟨r,J,by intro e;subst e;simp at g,b,P,c,[al]⟩
theorem J_{m d:Type}{R:[dF,d,d]}{f:m→List d}:[Pl,l.Pairwise (λ a b=>∀x∈f a,∀y∈f b,R x y),(∀a∈l,(f a).Pairwise R)→(l.flatMap f).Pairwise R]|[],_,_=>[al]|a::l,g,r=>by rw[kZ,RN];obtain⟨P,w⟩:=[V8,g];rw[20,r a [al],J_ w λ b K=>r b (cp _ K),λ x A y c=>?_];obtain⟨b,K,c⟩:=[zB,c];exact P b K x A y c
theorem Ka(w:Nat):∀(n:Nat)(r:Row),(goOn w n r).Pairwise λ a b=>before a b=true
 |0,r=>[bn,goOn]
 |n+1,r=>by
  have cV:∀k q,q∈(r++[k])::goOn w n (r++[k])→∃x,q=r++k::x:=λ k q D=>by
   rcases[d9,D]with rfl|D;·rw[0,[],J]
   ·obtain⟨x,rfl,_⟩:=(y8 w n _ _).mp D;rw[0,x,[al]]
  refine J_ ?_ λ k _=>?_
  ·have G:([rc,w].filter λ k=>!(r.contains k)).Pairwise (·<·):=List.Pairwise.filter _ List.pairwise_lt_range;refine G.imp λ{a b}d x A y c=>?_
   obtain⟨W,rfl⟩:=cV a x A;obtain⟨i,rfl⟩:=cV b y c;rw[Tp];simp[before,d]
  ·rw[List.pairwise_cons];rw[15,λ q D=>?_,Ka w n _];obtain⟨x,rfl,A,_⟩:=(y8 w n _ _).mp D;exact To _ _ A
theorem Kb{m:Type}{R:[dF,m,m]}{p:[ii,m]}:[Pl,l.Pairwise R,∀{a:m},l.find? p=Z a→a∈l∧[jb,p a,∀b∈l,p b=true→b=a∨R a b]]
 |[],_,a,h=>by rw[14]
 |x::l,c,a,h=>by
  obtain⟨g,r⟩:=[V8,c];rw[vC]at h;split at h;·rename_i A;cases h;rw[20,[al],A,λ b K _=>?_];rcases[d9,K]with rfl|K;rw[2,[de],.inr (g b K)]
  ·rename_i A;obtain⟨n,X,f⟩:=Kb r h;rw[20,cp _ n,X,λ b K V=>?_];rcases[d9,K]with rfl|K;·rw[A]at V;cases V
   ·exact f b K V
def tL(m:bT)(S:List SY)(most:Nat)(t r:Row):Prop:=[F_,S.length,r]∧(t=[]∨before t r=true)∧Kgz2.scansRow m S r=true
theorem Tq{m:bT}{S:List SY}{most:Nat}{t:Row}(h:∀r,¬tL m S most t r):first m S most t=none:=by unfold first;rw[List.find?_eq_none];intro r u R;rw[dO,n9]at R;exact h r ⟨y9.mp u,R.1.imp (λ q=>[aB,q]) id,R.2⟩
theorem Ts{m:bT}{S:List SY}{most:Nat}{t r:Row}(h:tL m S most t r)(X:[Wa,tL m S most t q,r]):first m S most t=Z r:=by
 cases e:first m S most t with
  |none=>unfold first at e;rw[List.find?_eq_none]at e;refine[gh,?_,e r (y9.mpr h.1)];rw[326]
  |some q=>
   obtain⟨g,a,P⟩:=Kb (Ka _ _ _) e;rw[dO,n9]at a;have D:tL m S most t q:=⟨y9.mp g,a.1.imp (λ q=>[aB,q]) id,a.2⟩;rcases P r (y9.mpr h.1) (by rw[326])with z|z;·rw[z]
   ·rw[88,X q D,z]
end Vs
end
section
namespace Vs
def dot:[er,Int,[er,Int,Int]]|a::l,b::m=>a*b+dot l m|_,_=>0
theorem Tt:∀l:[bv],dot l []=0|[]=>J|_::_=>J
theorem y_:∀{a b:[bv]}{c d:[bv]},a.length=b.length→dot (a++c) (b++d)=dot a b+dot c d|[],[],c,d,_=>[bn,dot]|x::a,y::b,c,d,h=>by rw[216];simp only[nW,dot,y_ S];omega|[],_::_,_,_,h=>by rw[14]|_::_,[],_,_,h=>by rw[14]
theorem tN(z:Int):∀a b:[bv],dot (a.map (z*·)) b=z*dot a b|[],b=>[bn,dot]|x::a,[]=>[bn,dot]|x::a,y::b=>by simp only[bO,dot,tN z a b,BQ,Jq]
theorem ze(z:Int):∀a b:[bv],dot a (b.map (z*·))=z*dot a b|[],b=>[bn,dot]|x::a,[]=>[bn,dot]|x::a,y::b=>by simp only[bO,dot,ze z a b,BQ];rw[By]
def hH:[er,Int,[er,Int,[bv]]]|a::l,b::m=>(a+b)::hH l m|_,_=>[]
theorem qP:∀{a b:[bv]},a.length=b.length→[b9,hH a b,a.length]|[],[],_=>J|x::a,y::b,h=>by simp only[hH,dP];rw[qP (by rw[60])]|[],_::_,h=>by rw[14]|_::_,[],h=>by rw[14]
theorem B_:∀{a b:[bv]}(c:[bv]),a.length=b.length→dot (hH a b) c=dot a c+dot b c|[],[],c,_=>by simp[hH,dot]|x::a,y::b,[],h=>[bn,Tt]|x::a,y::b,z::c,h=>by rw[216];simp only[hH,dot,B_ c S,SR];omega|[],_::_,_,h=>by rw[14]|_::_,[],_,h=>by rw[14]
theorem Kc:∀(t:Nat){c u:[bv]},c.length=u.length→t<c.length→dot c u=c.getD t 0*u.getD t 0+dot (c.eraseIdx t) (u.eraseIdx t)|_,[],_,_,h=>by rw[14]|_,_::_,[],h,_=>by rw[14]|0,a::c,b::u,_,_=>[bn,dot]|t+1,a::c,b::u,h,F=>by have:=Kc t (c:=c) (u:=u) (by rw[60]) [aB,F];simp only[dot,List.eraseIdx_cons_succ,List.getD_cons_succ,this];omega
theorem Ke:∀{c u:[bv]},dot c u≠0→c.length=u.length→∃t,t<c.length∧c.getD t 0≠0
 |[],u,h,_=>by cases u<;>simp[dot]at h
 |a::c,[],h,_=>by simp[dot]at h
 |a::c,b::u,h,X=>by
  by_cases ha:a=0
  ·subst ha;have S:dot c u≠0:=by simpa[dot]using h
   obtain⟨t,F,e⟩:=Ke S [aB,X];rw[1,t+1,[aB,F],[aB,e]]
  ·rw[1,0,[al],[aB,ha]]
theorem Ca(z:Int):∀(t:Nat)(a:[bv]),(a.map (z*·)).getD t 0=z*a.getD t 0|_,[]=>[al]|0,x::a=>[al]|t+1,x::a=>[aB,Ca z t a]
theorem Kf:∀(t:Nat){a b:[bv]},a.length=b.length→(hH a b).getD t 0=a.getD t 0+b.getD t 0|_,[],[],_=>[bn,hH]|0,x::a,y::b,_=>[bn,hH]|t+1,x::a,y::b,h=>by simpa[hH]using Kf t (a:=a) (b:=b) (by rw[60])|_,[],_::_,h=>by rw[14]|_,_::_,[],h=>by rw[14]
theorem Kg:∀(D:Nat)(L:List ([bv]×[bv])),((∀p∈L,[b9,p.1,D]∧[b9,p.2,D])→(∀p∈L,dot p.1 p.2≠0)→L.Pairwise (λ q p=>dot q.1 p.2=0)→L.length≤D)
 |_,[],_,_,_=>[al]
 |0,(c,u)::L,X,hn,_=>by rw[111,X (c,u) [al],hn (c,u) [al]];rw[59,c=[],Rr g.1];rw[8,by cases u<;>rfl,r]
 |D+1,(c,u)::L,X,hn,R=>by
  rw[111,X (c,u) [al],hn (c,u) [al]];obtain⟨t,F,V⟩:=Ke r (g.1.trans g.2.symm);have b:=[V8,R];let f:[bv]×[bv]→[bv]×[bv]:=λ p=>([Yr].eraseIdx t,p.2.eraseIdx t)
  have A:∀p∈L,∀v∈L,dot (f p).1 (f v).2=c.getD t 0*dot p.1 v.2:=by
   intro p y v h;have i:dot c v.2=0:=b.1 v h;have lp:=(X p [bn,y]).1;have l:=(X v [bn,h]).2;have d:[b9,(p.1.map (c.getD t 0*·)),(c.map (-(p.1.getD t 0)*·)).length]:=by simp[lp,g.1]
   have M:[Yr].getD t 0=0:=by rw[Kf t d,Ca,Ca,Int.neg_mul,Int.mul_comm];omega
   have e1:dot [Yr] v.2=c.getD t 0*dot p.1 v.2:=by rw[B_ _ d,tN,tN,i];omega
   have e2:=Kc t (c:=hH (p.1.map (c.getD t 0*·)) (c.map (-(p.1.getD t 0)*·))) (u:=v.2) (by rw[qP d];simp[lp,l]) (by rw[qP d];simp[lp];rw[92,g.1]);rw[M,e1]at e2;rw[19,dot ((hH (p.1.map (c.getD t 0*·)) (c.map (-(p.1.getD t 0)*·))).eraseIdx t) (v.2.eraseIdx t)=_]
  have T:=Kg D (L.map f) (by
   intro q a;obtain⟨p,y,rfl⟩:=List.mem_map.mp a;have lp:=X p (by simp[y]);have d:(p.1.map (c.getD t 0*·)).length=(c.map (-(p.1.getD t 0)*·)).length:=by simp[lp.1,g.1]
   have tl:t<D+1:=by have:=g.1;simp at this;omega
   constructor;·show(List.eraseIdx _ t).length=D;rw[List.length_eraseIdx_of_lt (by rw[qP d];simp[lp.1];omega),qP d];simp[lp.1]
   ·show(List.eraseIdx _ t).length=D;rw[List.length_eraseIdx_of_lt (by rw[lp.2];omega)];simp[lp.2]) (by intro q a;obtain⟨p,y,rfl⟩:=[bE,a];rw[4,A p y p y,Int.mul_ne_zero V (hn p [bn,y])]) (by rw[13,R7,Iu ?_ b.2];intro p v y h e;rw[A p y v h,e,Int.mul_zero])
  simp only[aC]at T;rw[85,dP]
def Kh(f:[cQ]):[cQ]|0=>0|n+1=>Kh f n+f (n+1)
def eT:Nat→[cQ]|0=>λ _=>1|b+1=>Kh (eT b)
theorem Cb(b n:Nat):eT (b+1) (n+1)=eT (b+1) n+eT b (n+1):=J
theorem Cc(n:Nat):eT 0 n=1:=J
theorem Ki(b:Nat):eT (b+1) 0=0:=J
def mon:Nat→[er,Int,[bv]]|0,_=>[1]|_+1,[]=>[]|b+1,y::G=>mon (b+1) G++(mon b (y::G)).map (y*·)
theorem Cd(b:Nat)(y:Int)(G:[bv]):mon (b+1) (y::G)=mon (b+1) G++(mon b (y::G)).map (y*·):=by rw[mon]
theorem Kj(G:[bv]):mon 0 G=[1]:=by rw[mon]
theorem tO:∀(b:Nat)(G:[bv]),[b9,mon b G,eT b G.length]|0,_=>by simp[mon,Cc]|b+1,[]=>by simp[mon,Ki]|b+1,y::G=>by simp[mon,Cb,tO (b+1) G,tO b (y::G)]
theorem zf:∀(n b:Nat)(l c:[bv]),l.length=n→c.length=eT b n→∃s:[bv],(s.length=eT (b+1) n∧∀G:[bv],G.length=n→dot s (mon (b+1) G)=dot l G*dot c (mon b G))
 |0,b,l,c,X,V=>by rw[20,[],[bn,Ki],λ G a=>?_];have e1:l=[]:=Rr X;subst e1;have e2:G=[]:=Rr a;subst e2;simp[mon,dot]
 |n+1,0,I::ls,c,X,V=>by obtain⟨u,g,e1⟩:=zf n 0 ls c [aB,X] (by simpa[Cc]using V);rw[20,u++c.map (I*·),by rw[dh,g,aC,V,Cb],λ G a=>?_];match G,a with|y::G,a=>have k:G.length=n:=[aB,a];rw[Cd,y_ (by rw[g,tO,k]),e1 G k,tN,ze,Kj,Kj];show dot ls G*dot c [1]+I*(y*dot c [1])=(I*y+dot ls G)*dot c [1];rw[SR,Jq,Int.add_comm]
 |n+1,b+1,I::ls,c,X,V=>by
  have x:c.length=eT (b+1) n+eT b (n+1):=V;obtain⟨u,g,e1⟩:=zf n (b+1) ls [WR] [aB,X] [e9,jJ];obtain⟨h,r,e2⟩:=zf (n+1) b (0::ls) [WT] [aB,X] [e9,lQ];have j:h.length=(c.map (I*·)).length:=by rw[r,aC,V]
  rw[20,u++hH h (c.map (I*·)),by rw[dh,g,qP j,r,Cb (b+1) n],λ G a=>?_];match G,a with
   |y::G,a=>
    have k:G.length=n:=[aB,a];have d:=e1 G k;have e:=e2 (y::G) a;have sp:dot c (mon (b+1) (y::G))=dot [WR] (mon (b+1) G)+y*dot [WT] (mon b (y::G)):=by have:dot ([WR]++[WT]) (mon (b+1) G++(mon b (y::G)).map (y*·))=_:=y_ (by rw[jJ,tO,k];omega);rw[Bp,ze]at this;rw[4,Cd,this]
    rw[Cd (b+1)];show _=(I*y+dot ls G)*dot c (mon (b+1) (y::G));rw[y_ (by rw[g,tO,k]),d,ze,B_ _ j,tN,e];have z:dot (0::ls) (y::G)=dot ls G:=[bn,dot];rw[z,sp];generalize dot [WR] (mon (b+1) G)=A;generalize dot [WT] (mon b (y::G))=B;generalize dot ls G=L;simp only[BQ,SR];have f:y*(L*B)=L*(y*B):=By _ _ _;have S:y*(I*A)=I*y*A:=by rw[Jq,By]
    have i:y*(I*(y*B))=I*y*(y*B):=by rw[Jq,By]
    rw[f,S,i];omega
def cb(x:Int):Nat→[bv]|0=>[]|n+1=>1::(cb x n).map (x*·)
theorem ov(x:Int):∀n,[b9,cb x n,n]|0=>J|n+1=>by simp[cb,ov x n]
def hI:[er,Int,Int→Int]|[],_=>0|a::r,x=>a+x*hI r x
theorem Kk(x:Int):∀G:[bv],dot (cb x G.length) G=hI G x|[]=>J|y::G=>by show 1*y+dot ((cb x G.length).map (x*·)) G=y+x*hI G x;rw[tN,Kk x G,Int.one_mul]
def lZ(l:[bv]):Int:=l.foldr (·*·) 1
theorem zg(n:Nat):∀B:[bv],∃c:[bv],(c.length=eT B.length n∧∀G:[bv],G.length=n→dot c (mon B.length G)=lZ (B.map λ x=>hI G x))|[]=>⟨[1],[bn,Cc],λ G _=>by simp[mon,dot,lZ]⟩|x::B=>by obtain⟨c,g,e1⟩:=zg n B;obtain⟨s,r,e2⟩:=zf n B.length (cb x n) c (ov x n) g;rw[20,s,by rw[103],λ G a=>?_];show dot s (mon (B.length+1) G)=hI G x*lZ (B.map λ x=>hI G x);rw[e2 G a,e1 G a,←a,Kk]
def ju:[er,Int,[bv]]|[]=>[1]|z::A=>hH (0::ju A) ((ju A).map (-z*·)++[0])
theorem Ce:∀A:[bv],[b9,ju A,A.length+1]|[]=>J|z::A=>by rw[ju,qP [al]];simp[Ce A]
theorem Kl(x:Int):∀{a b:[bv]},a.length=b.length→hI (hH a b) x=hI a x+hI b x|[],[],_=>by simp[hH,hI]|u::a,v::b,h=>by rw[216];simp only[hH,hI,Kl x S,BQ];omega|[],_::_,h=>by rw[14]|_::_,[],h=>by rw[14]
theorem Km(z x:Int):∀a:[bv],hI (a.map (z*·)++[0]) x=z*hI a x|[]=>[bn,hI]|u::a=>by simp only[bO,nW,hI,Km z x a,BQ];rw[By]
theorem Cf(x:Int):∀A:[bv],hI (ju A) x=lZ (A.map λ z=>x-z)|[]=>by simp[ju,hI,lZ]|z::A=>by rw[ju,Kl x [al],Km];show 0+x*hI (ju A) x+_=(x-z)*lZ (A.map λ z=>x-z);rw[Cf x A,Int.sub_mul,Int.neg_mul];omega
theorem zh:∀{l:[bv]},lZ l=0↔0∈l
 |[]=>[bn,lZ]
 |a::l=>by
  show a*lZ l=0↔_;rw[Int.mul_eq_zero,zh,lU];rw[5];·rw[134,h.symm]
  ·rw[134,h.symm]
theorem Kn(A B:[bv]):lZ (B.map λ x=>hI (ju A) x)=0↔∃x,x∈B∧x∈A:=by
 rw[zh,yP];rw[5];·rintro⟨x,a,e⟩;rw[Cf,zh,yP]at e;obtain⟨z,M,e⟩:=e;rw[59,x=z,[ac]];rw[1,x,a,M]
 ·rintro⟨x,a,O⟩;rw[1,x,a,by rw[Cf,zh,yP];rw[1,x,O,[ac]]]
theorem Tu(a b:Nat)(L:List ([bv]×[bv]))(X:∀p∈L,[b9,p.1,a]∧[b9,p.2,b])(hn:∀p∈L,∀x,x∈p.2→x∈p.1→False)(R:L.Pairwise λ q p=>∃x,x∈q.2∧x∈p.1):L.length≤eT b (a+1):=by
 let g:[bv]×[bv]→[bv]×[bv]:=λ p=>(sV (zg (a+1) p.2),mon b (ju p.1))
 have j:∀p∈L,∀v∈L,dot (g p).1 (g v).2=lZ [zZ,p.2,hI (ju v.1) x]:=by
  intro p y v d;have:=(sP (zg (a+1) p.2)).2 (ju v.1) (by rw[Ce,(X v d).1]);show dot _ (mon b (ju v.1))=_;have e:=(X p y).2;generalize D:ju v.1=q at*;have f:mon b q=mon p.2.length q:=by rw[e]
  rw[4,f,this]
 rw[100,Kg (eT b (a+1)) (L.map g) (by
  intro q D;obtain⟨p,y,rfl⟩:=[bE,D];have e:=(sP (zg (a+1) p.2)).1;have e2:eT p.2.length (a+1)=eT b (a+1):=by rw[(X p y).2]
  rw[0,e.trans e2,by show[b9,mon b (ju p.1),_];rw[tO,Ce,(X p y).1]]) (by intro q D;obtain⟨p,y,rfl⟩:=[bE,D];rw[j p y p y];intro z;obtain⟨x,c,r⟩:=(Kn _ _).mp z;exact hn p y x c r) (by rw[R7];refine Iu ?_ R;intro q p D S h;rw[4,j q D p S,(Kn _ _).mpr h])]
end Vs
end
section
namespace Vs
abbrev bx:=[cQ]
def bZ:Nat→bx→Nat|0,_=>0|n+1,t=>bZ n t+t n
def mW(sz:bx)(n:Nat)(t:bx):Nat:=[Ch,t k*sz k]
def cg(sz:bx):[er,Nat,Nat]|[]=>0|k::r=>cg sz r+sz k
def eF(bC:bx)(cs:[ak])(t:bx):Prop:=∃k,k∈cs∧bC k<[vg]+t k
def dn(t:bx)(k v:Nat):bx:=λ j=>[pH,j,k,v,t j]
theorem hJ(t:bx)(k v:Nat):dn t k v k=v:=[bn,dn]
theorem gL{t:bx}{k v j:Nat}(h:j≠k):dn t k v j=t j:=by simp[dn,h]
theorem Ko(t:bx)(k u v:Nat):dn (dn t k u) k v=dn t k v:=by funext j;unfold dn;split<;>rfl
theorem pD{n:Nat}{s t:bx}(h:∀k,k<n→s k=t k):bZ n s=bZ n t:=by induction n with|zero=>rfl|succ n T=>simp only[bZ];rw[T λ k C=>h k [ac],h n [ac]]
theorem Kp{n:Nat}{t:bx}{k v:Nat}(C:k<n):bZ n (dn t k v)+t k=bZ n t+v:=by
 induction n with
  |zero=>omega
  |succ n T=>
   simp only[bZ];rw[30,k,n];·subst e;rw[hJ,pD (s:=dn t k v) (t:=t) λ j U=>gL [ac]];omega
   ·rw[gL (ja e)];rw[10,T [ac]]
theorem Cg(n:Nat)(s t:bx):[Ch,s k+t k]=bZ n s+bZ n t:=by induction n with|zero=>rfl|succ n T=>simp only[bZ,T];omega
theorem Kq{b:Type}[[CW,b]]:∀{l m:List b},l.Nodup→(∀x∈l,x∈m)→[qe,m.length]
 |[],m,_,_=>[al]
 |a::l,m,hn,G=>by
  have L:=[Av,hn];have ha:a∈m:=G a [al];rw[35,Kq (l:=l) (m:=m.erase a) L.2 λ x A=>by
   have c:x≠a:=λ e=>L.1 (e▸A)
   exact(List.mem_erase_of_ne c).mpr (G x [bn,A]),List.length_erase_of_mem ha]
  have:0<m.length:=List.length_pos_of_mem ha;simp only[dP];omega
theorem Kr{m d:Type}{f:m→d}:[Pl,l.Nodup,(∀a∈l,∀b∈l,f a=f b→a=b)→(l.map f).Nodup]|[],_,_=>[al]|a::l,hn,O=>by have L:=[Av,hn];rw[bO,BF];rw[15,λ h=>?_,Kr L.2 λ x A y c=>O x [bn,A] y [bn,c]];obtain⟨b,K,e⟩:=[bE,h];exact L.1 (O b [bn,K] a [al] e▸K)
section
variable(bC sz:bx)(cM:[zH,Nat])
theorem Ks{P:[zH,Nat]}:∀(n:Nat)(cs:[ak]),P cs→cg sz cs≤n→∃c,P c∧∀d,P d→cg sz c≤cg sz d
 |0,cs,h,hn=>⟨cs,h,λ d _=>[ac]⟩
 |n+1,cs,h,hn=>by
  by_cases q:∃d,P d∧cg sz d<cg sz cs;·obtain⟨d,a,s⟩:=q;exact Ks n d a [ac]
  ·rw[1,cs,h,λ d a=>vA (λ z=>q ⟨d,a,z⟩)]
def tP(l:Nat)(X:bx)(cs:[ak]):Prop:=cM cs∧[Pp,l]∧¬eF bC cs X
open Classical in noncomputable def ow(l:Nat)(X:bx):[ak]:=if h:∃c,tP bC cM l X c∧∀d,tP bC cM l X d→cg sz c≤cg sz d then sV h else[]
theorem Tv{l:Nat}{X:bx}{cs:[ak]}(h:tP bC cM l X cs):tP bC cM l X [ST,X]∧cg sz [ST,X]≤cg sz cs:=by have ex:=Ks (sz:=sz) (P:=tP bC cM l X) _ cs h (ba _);unfold ow;rw[4,dif_pos ex,⟨(sP ex).1,(sP ex).2 cs h⟩]
noncomputable def qQ(l:Nat)(p:bx×Nat)(d:Nat):bx×Nat:=[pH,d,0,(dn p.1 p.2 (p.1 p.2+1),p.2),((dn p.1 [Xr] (bC [Xr]+1-[ST,p.1].count [Xr])),[Xr])]
noncomputable def dec(l:Nat)(B:[ak])(p:bx×Nat):bx×Nat:=B.foldl (qQ bC sz cM l) p
theorem Kt(l:Nat):∀(z:Nat)(X:bx)(k:Nat),dec bC sz cM l (lS z 0) (X,k)=(dn X k (X k+z),k)
 |0,X,k=>by
  show(X,k)=_;congr 1;funext j;unfold dn;split;·rename_i h;rw[h];rfl
  ·rfl
 |z+1,X,k=>by
  show dec bC sz cM l (lS z 0) [WO,k,0]=_;have e:[WO,k,0]=(dn X k (X k+1),k):=by unfold qQ;rw[aI J]
  rw[e,Kt l z,Ko,hJ];rw[47,X k+1+z=X k+(z+1)];rw[this]
structure Ci(n:Nat)(b:bx)(l r:Nat):Prop where
 trans:[VH,cM cs,l,cg,sz,r,eF,bC,b]
 weak:∀k,0<b k→∃cs,[cj,cM cs,[Pp,l],cg sz cs≤r,∀j,cs.count j≤bC j,∀j,j∈cs→bC j<cs.count j+b j→j=k]
 out:∀k,n≤k→b k=0
variable{bC sz cM}
theorem Ku{n:Nat}{b:bx}{l r:Nat}(L:Ci bC sz cM n b l r):∀(m:Nat)(X:bx)(q:Nat),(∀k,X k=0∨X k=b k)→[Ch,b k-X k]≤m→∃B:[ak],(dec bC sz cM l B (X,q)).1=b∧(∀d∈B,d<l+1)∧B.length≤[Ch,b k-X k]
 |m,X,q,g,N=>by
  by_cases K:X=b;·rw[21,[],K,[al],[al]]
  ·have a:∃k,X k=0∧0<b k:=by
    refine kT (λ z=>K (funext λ k=>?_));rcases g k with e|e
    ·by_cases M:0<b k;·rw[8,⟨k,e,M⟩,z]
     ·omega
    ·exact e
   obtain⟨k,I,x⟩:=a;obtain⟨cs,u,A,T,h,F⟩:=L.weak k x;have p:tP bC cM l X cs:=⟨u,A,λ⟨j,U,s⟩=>by
    rcases g j with e|e;·rw[e]at s;rw[10,h j]
    ·rw[e]at s;rw[91,F j U s];omega⟩
   obtain⟨⟨E,D,S⟩,w⟩:=Tv bC sz cM p;obtain⟨j,U,s⟩:=L.trans _ E D (bf w T);generalize P:[ST,X]=C at E D S w U s;have H:X j=0:=by rcases g j with e|e;rw[2,e,[gh,⟨j,U,[ap,e,s]⟩,S]]
   have y:C.count j≤bC j:=by refine vA (λ z=>S ⟨j,U,[ac]⟩)
   obtain⟨i,O,o⟩:=List.mem_iff_getElem.mp U;have Q:j<n:=by refine Nat.lt_of_not_le [wP];rw[10,L.out j z]
   have R:∀k,dn X j (b j) k=0∨dn X j (b j) k=b k:=λ k=>by
    rw[30,k,j];·subst e;right;exact hJ _ _ _
    rw[11,gL e,g k]
   have G:[Ch,b k-dn X j (b j) k]+b j=[Ch,b k-X k]:=by
    have e:=Kp (n:=n) (t:=λ k=>b k-X k) (k:=j) (v:=0) Q;have e2:bZ n (dn (λ k=>b k-X k) j 0)=[Ch,b k-dn X j (b j) k]:=pD λ k _=>by
     rw[44,k,j];·subst z;rw[hJ,hJ];omega
     ·rw[gL z,gL z]
    rw[e2]at e;simp only[H]at e;omega
   have W:0<b j:=[ac];match m with
    |0=>omega
    |m+1=>
     obtain⟨B,d1,d2,d3⟩:=Ku L m (dn X j (b j)) j R [ac];have V:C.getD (i+1-1) 0=j:=by rw[Bt,iB,bX O];exact o
     rw[18,(i+1)::(lS (b j-[O_]) 0++B),?_,?_,?_]
     ·have e1:[WO,q,i+1]=(dn X j [O_],j):=by unfold qQ;rw[aD [ac],P,V]
      show(List.foldl _ [WO,q,i+1] _).1=b;rw[e1,qz];have e2:=Kt bC sz cM l (b j-[O_]) (dn X j [O_]) j;unfold dec at e2 d1;rw[e2,Ko,hJ];have f:[O_]+(b j-[O_])=b j:=[ac];rw[4,f,d1]
     ·intro d c;rcases[d9,c]with rfl|c;·omega
      ·rcases[d6,c]with c|c;·rw[10,(List.mem_replicate.mp c).2]
       ·exact d2 d c
     ·simp only[dP,dh,II];have Y:0<C.count j:=[VT,U];omega
end
def ox(b:Nat):Nat→List [ak]|0=>[[]]|c+1=>[z_,b,λ d=>(ox b c).map (d::·)]
theorem Kv(b:Nat):∀c,[b9,ox b c,b^c]
 |0=>J
 |c+1=>by
  rw[ox,IV];have:[wx,b,(λ d=>((ox b c).map (d::·)).length)]=lS b (b^c):=by rw[313,[al]];rw[aC,Kv b c]
  rw[this,List.sum_replicate_nat,vJ,Jr]
theorem Kw{b:Nat}:∀{B:[ak]},(∀d∈B,d<b)→B∈ox b B.length|[],_=>[bn,ox]|d::B,h=>by show d::B∈[z_,b,λ d=>(ox b B.length).map (d::·)];exact[Ln,d,h d [al],[iI,B,Kw λ e R=>h e [bn,R]]]
def codes:List (Nat×[ak]×Nat):=[z_,13,λ l=>[z_,13-l,λ c=>[rg,ox (l+1) c,λ B=>[zZ,[rc,24*(12-l-c)+1],(l,B,x)]]]]
def Cj:Nat:=[wx,13,λ l=>[wx,13-l,λ c=>(l+1)^c*(24*(12-l-c)+1)].sum].sum
theorem Tw:Cj=10653299:=[bB]
theorem codes_length:codes.length=Cj:=by
 rw[codes,Cj,IV];refine ed List.sum (iD λ l _=>?_);rw[13,IV,ed List.sum (iD λ c _=>?_)];rw[IV];have:(ox (l+1) c).map (λ B=>[fz,[rc,24*(12-l-c)+1].map,λ x=>(l,B,x)])=lS ((l+1)^c) (24*(12-l-c)+1):=by rw[313,by rw[aC,Kv]];simp
 rw[this,List.sum_replicate_nat]
theorem Tx{m:Type}{bC sz:bx}{cM:[zH,Nat]}{n most:Nat}(l:m→bx)(o t:m→Nat)(L:[ol])(N:most≤12)(hn:L.Nodup)(inj:∀p∈L,∀q∈L,(l p=l q→o p=o q→t p=t q→p=q))(h:∀p∈L,Ci bC sz cM n (l p) (o p) (t p)∧(∃e x,bZ n (l p)+e+o p=most∧t p+mW sz n (l p)+x=256∧x≤24*e)):L.length≤10653299:=by
 have ex:∀p∈L,∃c:Nat×[ak]×Nat,[aey,c]:=λ p R=>by
  obtain⟨d,e,x,e1,e2,a⟩:=h p R;obtain⟨B,d1,d2,d3⟩:=Ku d _ [zP] 0 (λ _=>[de]) (ba _);have G:[Ch,l p k-0]=bZ n (l p):=pD λ k _=>[ac]
  rw[G]at d3;rw[3,[hJ,(o p,B,x),?_,d1,by simp only;omega],[Ln,o p,[ac],[Ln,B.length,[ac],[wB,B,Kw d2,[iI,x,[zt,?_]]]]]];omega
 classical
  let g:m→Nat×[ak]×Nat:=λ p=>if R:p∈L then sV (ex p R)else(0,[],0)
  have j:∀p,∀R:p∈L,[aey,g p]:=λ p R=>by have e:g p=sV (ex p R):=dif_pos R;rw[4,e,sP (ex p R)]
  have nd:(L.map g).Nodup:=Kr hn λ p R q D e=>by
   obtain⟨_,v,w,i⟩:=j p R;obtain⟨_,b,f,s⟩:=j q D;have r:o p=o q:=by rw[←v,←b,e]
   have eb:l p=l q:=by rw[←w,←f,e,r]
   exact inj p R q D eb r (by rw[i,s,e,eb])
  have:=Kq nd λ c V=>by rw[186,V];exact(j p R).1
  rw[aC,codes_length,Tw]at this;rw[65]
def slots(n:Nat)(f:Nat→[bv]):[bv]:=[z_,n,f]
def tQ(bC:bx)(n:Nat)(cs:[ak]):[bv]:=slots n λ k=>[wx,[vg],λ s=>[aN,k*100+(bC k-1-s)]]
def tR(n:Nat)(b:bx):[bv]:=slots n λ k=>[wx,b k,λ s=>[aN,k*100+s]]
theorem Ck(f:Nat→[bv]):∀n,[b9,slots n f,[Ch,[fz,f,k]]]|0=>J|n+1=>by have T:=Ck f n;unfold slots at T⊢;rw[vD,kW,dh,T];simp[bZ]
theorem Cm{n:Nat}:∀{cs:[ak]},(∀k∈cs,k<n)→[Ch,[vg]]=cs.length
 |[],_=>by rw[pD (t:=[zP]) λ k _=>[al]];induction n with|zero=>rfl|succ n T=>simpa[bZ]using T [al]
 |c::cs,h=>by
  have T:=Cm (n:=n) (cs:=cs) λ k C=>h k [bn,C]
  have e:=Kp (n:=n) (t:=[Qr]) (k:=c) (v:=cs.count c+1) (h c [al]);have e2:bZ n (dn [Qr] c (cs.count c+1))=[Ch,(c::cs).count k]:=pD λ k _=>by
   rw[44,k,c];·subst z;rw[16,hJ]
   ·rw[gL z,i8];simp[ja z]
  rw[e2]at e;rw[85,dP]
theorem Kx{bC:bx}{n:Nat}{cs:[ak]}{x:Int}(h:x∈tQ bC n cs):∃k s:Nat,k<n∧s<[vg]∧x=[aN,k*100+(bC k-1-s)]:=by rw[288]
theorem Tz{n:Nat}{b:bx}{x:Int}(h:x∈tR n b):∃k s:Nat,k<n∧s<b k∧x=[aN,k*100+s]:=by rw[288]
theorem Ky{bC:bx}{n:Nat}{cs:[ak]}{b:bx}(g:∀k∈cs,k<n)(r:∀k,[vg]≤bC k)(P:∀k,b k≤bC k)(w:∀k,bC k≤64):(∃x,x∈tR n b∧x∈tQ bC n cs)↔eF bC cs b:=by
 rw[5];·rintro⟨x,K,ha⟩;obtain⟨k,s,C,G,e⟩:=Kx ha;obtain⟨c,d,Q,h,f⟩:=Tz K;have u:=r k;have A:=P c;have T:=w k;have t:=w c;rw[59,k=c,[ac]];rw[1,k,List.count_pos_iff.mp [ac],[ac]]
 ·rintro⟨k,C,a⟩;have u:=r k;have A:=P k;have T:=w k;have V:0<[vg]:=[VT,C];rw[20,[aN,k*100+(bC k-[vg])],[Ln,k,g k C,[iI,bC k-[vg],[zt,[ac]]]],[Ln,k,g k C,[Bk,[vg]-1,[zt,[ac]],by congr 2;omega]]]
theorem Kz{m c:Type}[[CW,c]](A:m→c)(b:List c):∀L:[ol],(∀p∈L,A p∈b)→L.length≤[TQ,L.filter]
 |[],_=>[al]
 |a::L,h=>by
  have T:=Kz A b L λ p R=>h p [bn,R]
  have d:∀b:List c,A a∈b→[TQ,L.filter]+1≤[TQ,(a::L).filter]:=by
   intro b;have o:∀b:List c,[TQ,L.filter]≤[TQ,(a::L).filter]:=by intro b;induction b with|nil=>simp|cons g b T=>simp only[bO,qE];rw[42,Su ?_ T,qA];split<;>simp
   induction b with
    |nil=>intro h;rw[14]
    |cons g b T=>
     intro N;simp only[bO,qE];rw[30,A a,g]
     ·have:=o b;have q:[b9,(a::L).filter [W3],[fz,L.filter,[W3]]+1]:=by rw[qA,aI [aB,e]];simp
      omega
     ·have:=T (by rcases[d9,N]with z|z;rw[8,z,e];exact z);have q:[b9,(a::L).filter [W3],[fz,L.filter,[W3]]]:=by rw[qA,aD [aB,e]]
      omega
  have:=d b (h a [al]);rw[85,dP]
structure KA(bC sz:bx)(n:Nat)(cs:[ak])(b:bx)(l r:Nat):Prop where
 oy:∀k∈cs,k<n
 fx:∀k,[vg]≤bC k
 words:[Pp,l]
 size:cg sz cs≤r
 room:r≤256
 bar:bZ n b+l≤12
 KC:∀k,b k≤bC k
 free:¬eF bC cs b
def groups:List (Nat×[wh]):=[z_,13,λ l=>[z_,l+1,λ w=>[wx,257,λ s=>(l,w,s)]]]
def KD:Nat:=[wx,13,λ l=>[wx,l+1,λ w=>257*eT (12-l) (w+1)].sum].sum
theorem TH:KD=2105087:=[bB]
theorem TJ(f:Nat×[wh]→Nat)(h:∀l w s,l<13→w<l+1→f (l,w,s)≤eT (12-l) (w+1)):(groups.map f).sum≤KD:=by
 have t:∀{m:Type}(N:[ol])(g:m→List (Nat×[wh]))(q:m→Nat),(∀x∈N,((g x).map f).sum≤q x)→((N.flatMap g).map f).sum≤(N.map q).sum:=by intro m N g q D;induction N with|nil=>simp|cons x N T=>rw[kZ,cH,List.sum_append_nat,bO,qE];exact Su (D x [al]) (T λ y a=>D y [bn,a])
 rw[42,t _ _ _ λ l X=>t _ _ _ λ w b=>?_,cP];have:∀N:[ak],(N.map (f∘λ s=>(l,w,s))).sum≤N.length*eT (12-l) (w+1):=by intro N;induction N with|nil=>simp|cons x N T=>rw[bO,qE,dP,Nat.succ_mul];have:=h l w x [OW,X] [OW,b];simp only[Function.comp]at*;omega
 have:=this [rc,257];rwa[jI]at this
theorem TM{m:Type}{bC sz:bx}{n:Nat}(D:m→[ak])(r:m→bx)(u E:m→Nat)(L:[ol])(B:∀k,bC k≤64)(h:∀p∈L,KA bC sz n (D p) (r p) (u p) (E p))(R:L.Pairwise [acE]):L.length≤2105087:=by
 refine bf (Kz (λ p=>(u p,[fz,D,p],cg sz (D p))) groups L λ p y=>?_) (bf (TJ _ λ l w s X T=>?_) (mP TH));·have q:=h p y;have:=q.words;have:=q.size;have:=q.room;rw[51,q.bar,[Ln,u p,[ac],[Ln,_,[ac],[iI,_,[zt,[ac]]]]]]
 ·let M:=L.filter λ p=>[aK,(u p,[fz,D,p],cg sz (D p))=(l,w,s)]
  show M.length≤_;have U:∀p∈M,p∈L∧u p=l∧[b9,D p,w]∧cg sz (D p)=s:=λ p G=>by obtain⟨a,b⟩:=[FB,G];have:=lR b;simp only[Jl]at this;rw[21,a,this.1,this.2.1,this.2.2]
  have G:M.Pairwise λ p q=>eF bC (D p) (r q):=by have:M.Pairwise [acE]:=R.sublist Bs;rw[241,this];have:=(h q V).words;rw[51,(h q V).size,z (g.trans j.symm) [ac] [ac]]
  have c:∀p∈M,∀x,x∈[aaz]→x∈tQ bC n (D p)→False:=λ p S x A O=>by obtain⟨v,g,i,C⟩:=U p S;rw[142,[d6,A],(h p v).free ((Ky (h p v).oy (h p v).fx (h p v).KC B).mp ⟨x,A,O⟩)];·have:=(List.mem_replicate.mp A).2;obtain⟨k,d,_,_,e⟩:=Kx O;omega
  have:=Tu w (12-l) ((M.map λ p=>(tQ bC n (D p),[aaz])).reverse) (λ z f=>by
   rw[327];obtain⟨v,g,i,C⟩:=U p S;rw[5];·show[b9,tQ bC n (D p),w];unfold tQ;rw[Ck,←i];simp only[aC,jI];exact Cm (h p v).oy
   ·show[b9,[aaz],12-l];unfold tR;rw[dh,Ck,II];simp only[aC,jI];have:=(h p v).bar;have e:[Ch,r p k]=bZ n (r p):=J;omega) (λ z f=>by rw[327];exact c p S) (by rw[List.pairwise_reverse,R7];rw[241,G];obtain⟨x,A,O⟩:=(Ky (h p v).oy (h p v).fx (h q V).KC B).mpr z;rw[1,x,lP _ A,O])
  rwa[List.length_reverse,aC]at this
end Vs
end
section
namespace Vs
open Kgz1(Syl Kind Measure fits Sound)
def eB(S:[m_])(f:Nat):Nat:=S.foldr (λ c a=>[pH,c.1,f,max c.2 a,a]) 0
theorem zj{cuts:[m_]}{f p:Nat}(h:(f,p)∈cuts):p≤eB cuts f:=by induction cuts with|nil=>rw[14]|cons c r T=>simp only[eB,List.foldr_cons];rw[130];rw[11,aI J,BH _ _];·have:=T h;unfold eB at this;split<;>omega
theorem KG{S:[m_]}{n:Nat}(h:∀c∈S,c.2≤n)(f:Nat):eB S f≤n:=by
 induction S with
  |nil=>simp[eB]
  |cons c r T=>
   have g:=h c [al];have a:=T λ d b=>h d [bn,b]
   simp only[eB,List.foldr_cons]at a⊢;split<;>omega
def lexLt(a b:[wh]):Prop:=a.1<b.1∨(a.1=b.1∧a.2<b.2)
instance(a b:[wh]):Decidable (lexLt a b):=inferInstanceAs(Decidable (_∨_))
def mX(m:Measure)(f p:Nat):Bool:=m.cuts.any λ c=>[aK,lexLt (f+1,p) c]
theorem KH{m:Measure}{f p:Nat}:(mX m f p=true↔∃c∈m.cuts,lexLt (f+1,p) c):=by unfold mX;rw[16,yD]
def jv(m:Measure)(f p:Nat)(B:[kw])(L:Bool):Spot:=[QJ,B=[],(f+1,0,[],L),L=true∨eB m.cuts (f+1)≤p,(f,4,B,L),(f,p,B,L)]
def ip(m:Measure)(k:Kind)(f p:Nat)(L:Bool):[er,Bool,[iH,Spot]]|[]=>none|c::r=>[Lh,[jb,fits k c,L=true∨mX m f (p+1)=true],jv m f (p+1) r L]
def eU(m:Measure)(e:Bool)(sp:Spot):Bool:=[Ab]||(e&&[MV,sp.1,sp.2.1])
def hO(m:Measure)(k:Kind)(e:Bool)(sp:Spot):[Im]:=[EV,[Kk,cS,sp],ip m k sp.1 sp.2.1 [C6]]
theorem Co{m:Measure}{k:Kind}{e:Bool}{sp q:Spot}:[ac5,hO,([C6]=true∨mX m sp.1 (sp.2.1+1)=true)∧q=jv m sp.1 (sp.2.1+1) r [C6]]:=by unfold hO;rw[268,ip,⟨c,r,T,h.1,h.2,J⟩];·rintro⟨c,r,T,g,a,rfl⟩;rw[1,c::r,T,by simp only[ip];rw[aI ⟨g,a⟩]]
theorem Cp{m:Measure}{k:Kind}{e:Bool}{sp q:Spot}:[ac5,gc,q=lX sp.1 (sp.2.1+1) r [C6]]:=by unfold gc;rw[268,tI,⟨c,r,T,h,J⟩];·rintro⟨c,r,T,g,rfl⟩;rw[1,c::r,T,by simp only[tI];rw[aI g];rfl]
def qR(m:Measure)(sp:Spot):Prop:=[Ab]=true∨∃c∈m.cuts,lexLt (sp.1+1,sp.2.1) c
theorem KI{m:Measure}{k:Kind}{e:Bool}{sp q:Spot}(h:q∈gc m k e sp)(a:qR m q):qR m sp:=by
 obtain⟨c,r,T,F,rfl⟩:=Cp.mp h;by_cases hm:[C6]=true;·unfold eU at hm;rcases Bool.or_eq_true_iff.mp hm with g|g;rw[40,g];·rw[51,(Bool.and_eq_true_iff.mp g).2,[zf,_,List.contains_iff_mem.mp this,[jl,J,[al]]]]
 ·unfold lX at a;have U:[aX,[C6]]:=[aB,hm];rw[U]at a;split at a;·rw[184];·refine .inr [pv,d,b];rw[160];omega
  ·rw[184];·refine .inr [pv,d,b];rw[160];omega
theorem KJ{m:Measure}:∀(s:[nG])(sp:Spot),acc m sp s→qR m sp|[],sp,h=>[ap,[db,sp,gH m,h],[de]]|x::s,sp,⟨q,D,a⟩=>KI D (KJ s q a)
structure hV(m:Measure)(sp q:Spot):Prop where
 foot:q.1=sp.1
 rest:q.2.2.1=sp.2.2.1
 met:q.2.2.2=[Ab]
 place:q.2.1=sp.2.1∨(sp.2.2.1≠[]∧([Ab]=true∨([WE,sp.2.1]∧[WE,q.2.1])))
theorem hV.refl(m:Measure)(sp:Spot):hV m sp sp:=[ff,J,J,[de]]
theorem hV.eU{m:Measure}{sp q:Spot}(h:hV m sp q)(e:Bool):eU m e q=[C6]:=by
 unfold Vs.eU;rw[h.met,h.foot];rcases h.place with z|⟨_,z|⟨k,P⟩⟩;·rw[z]
 ·rw[16,z]
 ·have E:[aX,[MV,sp.1,sp.2.1]]:=by rw[←Bool.not_eq_true,RH];intro c;rw[10,zj c]
  have D:[aX,[MV,sp.1,q.2.1]]:=by rw[←Bool.not_eq_true,RH];intro c;rw[10,zj c]
  rw[E,D]
theorem KL{m:Measure}(w:[Fz]){sp q:Spot}(h:hV m sp q)(r:[kw])(b:Bool)(u:∃c,c::r∈[Kk,cS,sp])(K:b=true→True)(l:[Ab]=true→b=true):hV m (lX sp.1 (sp.2.1+1) r b) (jv m q.1 (q.2.1+1) r b):=by
 unfold lX jv;rw[30,r,[]];·rw[aI e,aI e,h.foot];exact hV.refl _ _
 ·rw[aD e,aD e,h.foot];have y:=KG w (sp.1+1);by_cases t:b=true;rw[11,aI (.inl t),[ff,J,J,[jl,e,.inl t]]]
  ·have i:[aX,[Ab]]:=by cases z:[Ab]with|false=>rfl|true=>rw[8,l z,t]
   by_cases X:[WE,q.2.1+1];·rw[13,aI (.inr X),[ff,J,J,[jl,e,[jl,?_,y]]]];show[WE,sp.2.1+1];rw[209];·omega
   ·rw[13,aD (by rintro(z|z);exact t z;exact X z),[ff,J,J,.inl ?_]];show q.2.1+1=sp.2.1+1;rw[209];·omega
theorem TN{m:Measure}{sp q:Spot}(h:hV m sp q){e:Bool}{r:[kw]}(a:qR m (lX sp.1 (sp.2.1+1) r [C6]))(N:[C6]≠true):mX m q.1 (q.2.1+1)=true:=by
 have U:[aX,[C6]]:=[aB,N];rw[U]at a;rw[KH,h.foot];unfold lX at a;split at a;·rw[184];·rw[24,d,b];rw[160];omega
 ·rw[184]
  ·rw[24,d,b];have c:=zj (cuts:=m.cuts) (f:=d.1) (p:=d.2) b;rw[160];have i:[aX,[Ab]]:=by unfold eU at U;exact(Bool.or_eq_false_iff.mp U).1
   rw[209];·rcases X with X|⟨O,E⟩;rw[40,X];·rw[←O]at c;omega
theorem KN{m:Measure}(w:[Fz]){k:Kind}{e:Bool}{sp q b:Spot}(h:hV m sp q)(G:b∈gc m k e sp)(a:qR m b):∃W∈hO m k e q,hV m b W:=by
 obtain⟨c,r,T,F,rfl⟩:=Cp.mp G;rw[24,jv m q.1 (q.2.1+1) r (eU m e q),Co.mpr ⟨c,r,by rw[12,h.foot,h.rest,T],F,?_,J⟩];·rw[h.eU];by_cases hm:[C6]=true;rw[73,hm,TN h a hm]
 rw[11,h.eU,[abz]]
theorem KO{m:Measure}(w:[Fz]){k:Kind}{e:Bool}{sp q W:Spot}(h:hV m sp q)(G:W∈hO m k e q):∃a∈gc m k e sp,hV m a W:=by obtain⟨c,r,T,F,_,rfl⟩:=Co.mp G;rw[h.foot,h.rest]at T;rw[22,Cp.mpr ⟨c,r,T,F,J⟩];rw[4,h.eU,[abz]]
def l0(m:Measure)(l:[Im])(s:[nG]):[Im]:=s.foldl (λ l x=>[Xu,hO]) l
theorem vW{m:Measure}{f:(Kind→Bool→Spot→[Im])}{x:Syl}{s:[nG]}{sp q:Spot}:q∈(x::s).foldl [Vc] [sp]↔∃c∈f x.kind x.ends sp,q∈s.foldl [Vc] [c]:=by
 have Q:∀(s:[nG])(l:[Im]),q∈s.foldl [Vc] l↔∃a∈l,q∈s.foldl [Vc] [a]:=by
  intro s;induction s with
   |nil=>intro l;simp
   |cons y s T=>
    intro l;rw[i7,T];rw[5];·rintro⟨a,ha,D⟩;obtain⟨b,K,d⟩:=[zB,ha];rw[24,b,K];rw[i7,T];rw[1,a,[aB,d],D]
    ·rintro⟨b,K,D⟩;rw[i7,T]at D;obtain⟨a,ha,D⟩:=D;rw[1,a,[wB,b,K,[aB,ha]],D]
 rw[i7,Q];simp
theorem KP{m:Measure}(w:[Fz]):∀(s:[nG]){sp q d:Spot},(hV m sp q→d∈after m [sp] s→qR m d→∃W∈l0 m [q] s,hV m d W)
 |[],sp,q,d,h,G,_=>by rw[59,d=sp,by simpa[after]using G];rw[1,q,[bn,l0],h]
 |x::s,sp,q,d,h,G,a=>by
  obtain⟨b,K,G⟩:=[Tm,gc].mp G;have v:∀(s:[nG])(b:Spot),d∈after m [b] s→qR m b:=by
   intro s;induction s with
    |nil=>
     intro b K;have e:d=b:=by simpa[after]using K
     rw[23,e,a]
    |cons y s T=>intro b K;obtain⟨c,V,K⟩:=[Tm,gc].mp K;exact KI V (T c K)
  obtain⟨n,i,g⟩:=KN w h K (v s b G);obtain⟨W,o,S⟩:=KP w s g G a;rw[1,W,[Tm,hO].mpr ⟨n,i,o⟩,S]
theorem KQ{m:Measure}(w:[Fz]):∀(s:[nG]){sp q W:Spot},hV m sp q→W∈l0 m [q] s→∃a∈after m [sp] s,hV m a W|[],sp,q,W,h,G=>by rw[59,W=q,by simpa[l0]using G];rw[1,sp,[bn,after],h]|x::s,sp,q,W,h,G=>by obtain⟨b,K,G⟩:=[Tm,hO].mp G;obtain⟨e,i,g⟩:=KO w h K;obtain⟨a,d,S⟩:=KQ w s g G;rw[1,a,[Tm,gc].mpr ⟨e,i,d⟩,S]
def h7(o:[ak]):[ak]:=[Me]++[Wz]
def l5(sh:Shape):Shape:=(sh.1,sh.2.map λ f=>(f.1,f.2.1,h7 f.2.2))
def tT(m:Measure)(L:a8)(fm:Form):List a8:=[Z2,[Ow,L],l0 m [L.1] [Zb]]
def qS(m:Measure)(L:a8)(sh:Shape):List a8:=[ZS,tT]
def qT(m:Measure)(L:a8):Prop:=L.2.2≠1∧L.2.1≠none∧gH m∈hO m .either true L.1
def pE(m:Measure):[dF,a8,List Shape]|L,[]=>qT m L|L,sh::r=>∃l∈qS m L sh,pE m l r
theorem qU{m:Type}:∀{o:[ol]},o≠[]→∃i w,o=i++[w]:=λ{o}h=>⟨o.dropLast,o.getLast h,(List.dropLast_concat_getLast h).symm⟩
theorem Cq(i:[ak])(w:Nat):h7 (i++[w])=(i.map λ w=>max w 1)++[w]:=by unfold h7;simp
theorem KR(p:[v0])(K:Nat)(o:[ak]):settled p K (h7 o)=settled p K o:=by
 by_cases h:o=[];·subst h;rfl
 ·obtain⟨i,w,rfl⟩:=qU h;rw[Cq];unfold settled;rw[[LP],[LP]];simp only[List.dropLast_concat,cP];congr 1;apply iD;intro v _;simp only[Function.comp];congr 1;unfold kindOf;by_cases y:v≤1;·rw[(aI [ac]),aI y]
  ·rw[47,max v 1=v];rw[this]
theorem KS(o:[ak]):(h7 o).getLast?=o.getLast?:=by
 by_cases h:o=[];·subst h;rfl
 ·obtain⟨i,w,rfl⟩:=qU h;rw[16,Cq]
theorem zk{o:[ak]}:h7 o=[]↔o=[]:=by
 rw[5];·intro h;refine kT [wP];obtain⟨i,w,rfl⟩:=qU z;rw[Cq]at h;rw[14]
 ·rw[54];rfl
structure tU(m:Measure)(L q:a8):Prop where
 iU:hV m L.1 q.1
 wt:q.2.1=L.2.1
 wants:q.2.2=L.2.2
theorem TQ{m:Measure}{q:Spot}(h:hV m (gH m) q):q=gH m:=by
 rw[237,q];·rw[z]
 ·rw[8,J,z]
theorem TU{m:Measure}{sp:Spot}(h:hV m sp (gH m)):sp=gH m:=by
 rw[237,sp];·rw[←z]
 ·rw[8,J,z]
theorem TV{m:Measure}(w:[Fz]){L q:a8}(h:tU m L q):B5 m L↔qT m q:=by
 unfold B5 qT;rw[h.wt,h.wants];rw[5];·rintro⟨a,b,c⟩;obtain⟨W,o,G⟩:=KN w h.iU c [de];rw[TQ G]at o;rw[1,a,b,o]
 ·rintro⟨a,b,c⟩;obtain⟨d,e,G⟩:=KO w h.iU c;rw[TU G]at e;rw[1,a,b,e]
theorem KU{m:Measure}:∀(r:List Shape)(L:a8),jQ m L r→∃s,acc m L.1 s
 |[],L,h=>⟨[ZG],gH m,h.2.2,J⟩
 |sh::r,L,⟨l,G,h⟩=>by
  obtain⟨s,a⟩:=KU r l h;unfold targets at G;split at G
  ·obtain⟨fm,_,F⟩:=[zB,G];unfold lY at F;split at F;·have:l=[Ow,L]:=[aB,F];rw[this]at a;rw[0,s,a]
   ·obtain⟨sp,i,rfl⟩:=[bE,F];rw[29,(J2 m _ s L.1).mpr ⟨sp,i,a⟩]
  ·simp at G
theorem vX{m:Measure}(b:[Fz]):∀(r:List Shape){L q:a8},tU m L q→(jQ m L r↔pE m q (r.map l5))
 |[],L,q,h=>TV b h
 |sh::r,L,q,h=>by
  show(∃l∈targets m L sh,jQ m l r)↔∃W∈qS m q (l5 sh),pE m W (r.map l5);unfold targets qS;have T:(l5 sh).1=sh.1:=J;rw[T,h.wants];by_cases V:L.2.2=0∨L.2.2=sh.1
  ·rw[aI V,aI V];have mem:∀x,x∈(l5 sh).2↔∃f∈sh.2,x=(f.1,f.2.1,h7 f.2.2):=λ x=>by
    show x∈sh.2.map _↔_;rw[32,yP];·rintro⟨f,F,rfl⟩;rw[1,f,F,J]
    ·rintro⟨f,F,rfl⟩;rw[1,f,F,J]
   rw[5]
   ·rintro⟨l,G,a⟩;obtain⟨fm,U,F⟩:=[zB,G];unfold lY at F;by_cases hn:fm.2.2=[];·rw[aI hn]at F;rw[296,l,L,_,(mem _).mpr [tJ,fm,U],(vX b r i).mp];unfold tT;rw[aI (zk.mpr hn)];simp
    ·rw[aD hn]at F;obtain⟨sp,j,rfl⟩:=[bE,F];obtain⟨s,d⟩:=KU r _ a;obtain⟨W,o,i⟩:=KP b _ h.iU j (KJ s _ d);have n:tU m [Mo,sp] [Mo,W]:=[tJ,i,J];rw[20,[Mo,W],[wB,_,(mem _).mpr [tJ,fm,U],?_],(vX b r n).mp a];unfold tT;rw[aD (λ z=>hn (zk.mp z))];simp only;rw[KR,KS,h.wt];exact[iI,W,o]
   ·rintro⟨W,G,a⟩;obtain⟨t,p,F⟩:=[zB,G];obtain⟨fm,U,rfl⟩:=(mem _).mp p;unfold tT at F;by_cases hn:fm.2.2=[];·rw[aI (zk.mpr hn)]at F;rw[296,W,q,fm,U,(vX b r i).mpr];unfold lY;rw[aI hn];simp
    ·rw[aD (λ z=>hn (zk.mp z))]at F;simp only at F;rw[KR,KS,h.wt]at F;rw[148,F];obtain⟨g,k,i⟩:=KQ b _ h.iU A;have n:tU m [Mo,g] [Mo,x]:=[tJ,i,J];refine⟨[Mo,g],[wB,fm,U,?_],(vX b r n).mpr a⟩;unfold lY;rw[4,aD hn,[iI,g,k]]
  ·rw[aD V,aD V];simp
theorem TY{m:Measure}(w:[Fz])(r:List Shape):jQ m (start m) r↔pE m (start m) (r.map l5):=vX w r [tJ,hV.refl _ _,J]
end Vs
end
section
namespace Vs
open Kgz2(Row before isRow)
def h8:Row→[wz,Row]|[],n,q=>∃m r,q=m::r∧n≤m|a::l,n,q=>∃m r,q=m::r∧(a<m∨(a=m∧h8 l n r))
theorem vY:∀(t q:Row),h8 t 0 q↔before t q=true
 |[],[]=>by simp[h8,before]
 |[],b::m=>by simp[h8,before]
 |a::l,[]=>by simp[h8,before]
 |a::l,b::m=>by
  simp only[h8,before,n9,dO,dw,mS];rw[5];·rintro⟨S,r,e,h⟩;cases e;rcases h with h|⟨g,c⟩;rw[2,[lz],[jl,g,(vY l m).mp c]]
  ·rintro(h|⟨g,c⟩);rw[2,[ff,b,m,[lz]],[ff,b,m,[jl,g,(vY l m).mpr c]]]
theorem pF{c n:Nat}(hn:c≤n):∀(t q:Row),h8 t c q↔(∃m r,c≤m∧m<n∧q=t++m::r)∨q=t++[n]∨h8 (t++[n]) 0 q
 |[],q=>by
  simp only[h8,pf];rw[5]
  ·rintro⟨m,r,rfl,h⟩;by_cases g:m<n;rw[40,⟨m,r,h,g,J⟩]
   ·by_cases b:m=n;·subst b;cases r with|nil=>exact[Lq]|cons x r=>exact[lD,[ff,m,x::r,.inr [jp,J,x,r,b7 _]]]
    ·exact[lD,[ff,m,r,.inl [ac]]]
  ·rintro(⟨m,r,g,b,rfl⟩|rfl|⟨m,r,rfl,h⟩);rw[2,[ff,m,r,g],[ff,n,[],hn]];·rw[18,m,r,J,?_];rcases h with h|⟨h,_⟩<;>omega
 |a::l,q=>by
  simp only[nW,h8];rw[5]
  ·rintro⟨m,r,rfl,h|⟨rfl,h⟩⟩;·exact[lD,[ff,m,r,[lz]]]
   ·rcases(pF hn l r).mp h with⟨S,A,g,b,rfl⟩|rfl|h;rw[40,⟨S,A,g,b,J⟩];rw[2,[Lq],[lD,[ff,a,r,[jl,J,h]]]]
  ·rintro(⟨S,A,g,b,rfl⟩|rfl|⟨m,r,rfl,h⟩);rw[2,[ff,a,_,[jl,J,(pF hn l _).mpr (.inl ⟨S,A,g,b,J⟩)]],[ff,a,_,[jl,J,(pF hn l _).mpr [Lq]]]];·rw[305,pF hn l r,[lD,b]]
theorem vZ(x n:Nat):∀(t q:Row),h8 (t++[x]) n q↔(∃m r,n≤m∧q=t++x::m::r)∨h8 t (x+1) q
 |[],q=>by
  simp only[pf,h8];rw[5];·rintro⟨m,r,rfl,h|⟨rfl,S,A,rfl,h⟩⟩;rw[2,[rq,m,r,J,h],.inl ⟨S,A,h,J⟩]
  ·rintro(⟨m,r,h,rfl⟩|⟨m,r,rfl,h⟩);rw[2,[ff,x,m::r,.inr [jp,J,m,r,h]],[ff,m,r,[lz]]]
 |a::l,q=>by
  simp only[nW,h8];rw[5]
  ·rintro⟨m,r,rfl,h|⟨rfl,h⟩⟩;·exact[rq,m,r,J,[lz]]
   ·rcases(vZ x n l r).mp h with⟨S,A,g,rfl⟩|h;rw[2,.inl ⟨S,A,g,J⟩,[rq,a,r,J,[jl,J,h]]]
  ·rintro(⟨S,A,g,rfl⟩|⟨m,r,rfl,h⟩);·rw[21,a,_,J,[jl,J,(vZ x n l _).mpr (.inl ⟨S,A,g,J⟩)]]
   ·rw[305,vZ x n l r,.inr b]
def mY(w:Nat):Nat→Row→[cQ]|d,[],n=>(w-n)*(w+1)^d|d,a::l,n=>(w-(a+1))*(w+1)^d+mY w (d-1) l n
def steps(w most:Nat)(t:Row)(n:Nat):Nat:=2*mY w most t n+t.length
theorem KW(w b n:Nat)(hn:b≤n)(T:n<w):∀(d:Nat)(t:Row),t.length<d→mY w d (t++[n]) 0+1≤mY w d t b
 |d,[],h=>by
  obtain⟨e,rfl⟩:∃e,d=e+1:=⟨d-1,by rw[14];omega⟩;simp only[pf,mY,Bt,Js];rw[70,(w-b)*(w+1)^(e+1)=(w-(n+1))*(w+1)^(e+1)+(n+1-b)*(w+1)^(e+1),by rw[←BR];congr 1;omega,(w+1)^(e+1)≤(n+1-b)*(w+1)^(e+1),Nat.le_mul_of_pos_left _ [ac]];have B:(w+1)^(e+1)=w*(w+1)^e+(w+1)^e:=by rw[vJ,Jr,BR,Nat.one_mul]
  have G:0<(w+1)^e:=Nat.pow_pos [ac];omega
 |d,a::l,h=>by rw[126,KW w b n hn T (d-1) l (by rw[14];omega),nW,mY]
theorem KY(w x n:Nat):∀(d:Nat)(t:Row),mY w d t (x+1)≤mY w d (t++[x]) n|d,[]=>by simp only[pf,mY];omega|d,a::l=>by rw[126,KY w x n (d-1) l,nW,mY]
theorem TZ{w most b n:Nat}{t:Row}(hn:b≤n)(T:n<w)(h:t.length<most):steps w most (t++[n]) 0<steps w most t b:=by have:=KW w b n hn T most t h;unfold steps;rw[dh,RI];omega
theorem T3{w most x n:Nat}{t:Row}:steps w most t (x+1)<steps w most (t++[x]) n:=by have:=KY w x n most t;unfold steps;rw[dh,RI];omega
structure Walk(w most:Nat)(c iq:Row→Prop)(t:Row)(j:Nat):Prop where
 nums:∀k∈t,k<w
 once:t.Nodup
 short:[Ky,most]
 want:∀q,iq q↔([F_,w,q]∧c q∧h8 t j q)
theorem jS{w most:Nat}{r:Row}:[F_,w,r]↔(1≤r.length∧[AE,most]∧(∀k∈r,k<w)∧r.Nodup):=by
 unfold isRow;simp only[dO,dw,BA];rw[5];·rintro⟨⟨⟨a,b⟩,c⟩,d⟩;rw[21,a,b,c,d]
 ·rintro⟨a,b,c,d⟩;rw[0,⟨⟨a,b⟩,c⟩,d]
section
variable{w most:Nat}{Sc iq:Row→Prop}{row:Row}{least:Nat}
def tV(w most:Nat)(Sc:Row→Prop)(row:Row):Prop:=∃x,[F_,w,row++x]∧Sc (row++x)
theorem Walk.T4{n:Nat}(W:[O9,row,least])(hn:least≤n)(u:row.length<most)(T:n<w)(e:n∉row)(d:[W6,n,row++[m]])(F:¬Sc (row++[n])):[O9,row++[n],0]:=by
 rw[18,[yf],?_,by rw[17],λ q=>?_];·rw[139,[d6,C],W.nums k h];·rw[14];omega
 rw[11,k0,[acK,e]]
 ·rw[32,W.want]
  ·rintro⟨g,c,P⟩;rw[24,g,c];rcases(pF hn row q).mp P with⟨m,r,a,b,rfl⟩|rfl|h;·rw[8,⟨r,[ap,gZ,g],[ap,gZ,c]⟩,d m a b]
   rw[2,[gh,c,F],h]
  ·rintro⟨g,c,P⟩;rw[1,g,c,(pF hn row q).mpr [lD,P]]
theorem Walk.found{n:Nat}(W:[O9,row,least])(hn:least≤n)(u:row.length<most)(T:n<w)(f:n∉row)(d:[W6,n,row++[m]])(l:Sc (row++[n])):iq (row++[n])∧[Wa,iq q,row++[n]]:=by
 have i:[F_,w,row++[n]]:=by
  rw[13,jS,⟨[al],by rw[17],[yf],?_⟩];·rw[139,[d6,C],W.nums k h];·rw[14];omega
  rw[11,k0,[acK,f]]
 refine⟨(W.want _).mpr ⟨i,l,(pF hn row _).mpr [Lq]⟩,λ q D=>?_⟩;obtain⟨g,c,P⟩:=(W.want q).mp D;rcases(pF hn row q).mp P with⟨m,r,a,b,rfl⟩|rfl|h;rw[2,[gh,⟨r,[ap,gZ,g],[ap,gZ,c]⟩,d m a b],B9 _];·have S:=(vY _ _).mp h;cases e:before q (row++[n])with|false=>rfl|true=>rw[88,J9 e S,B9]
theorem Walk.popped{x:Nat}(W:[O9,row++[x],least])(c:[b9,row++[x],most]∨[W6,w,row++[x]++[m]]):[O9,row,x+1]:=by
 rw[18,λ k C=>W.nums k [bn,C],(List.nodup_append.mp W.once).1,by rw[92,W.short],λ q=>?_];rw[32,W.want]
 ·rintro⟨g,b,P⟩;rw[24,g,b];rcases(vZ x least row q).mp P with⟨m,r,a,rfl⟩|h
  ·have d:=jS.mp g;rcases c with z|z;·have:=d.2.1;simp at this z;omega
   ·rw[8,⟨r,by rw[72],[aB,b]⟩,z m a (d.2.2.1 m [al])]
  ·exact h
 ·rintro⟨g,b,P⟩;rw[1,g,b,(vZ x least row q).mpr (.inr P)]
theorem Walk.over(W:[O9,[],least])(c:[W6,w,[m]]):∀q,¬iq q:=λ q D=>by obtain⟨g,a,m,r,rfl,h⟩:=(W.want q).mp D;exact c m h ((jS.mp g).2.2.1 m [al]) ⟨r,g,a⟩
end
end Vs
end
section
namespace Vs
structure Bl where
 place:Nat
 count:Nat
abbrev pG:=List Bl
structure Sep(ks:pG):Prop where
 pos:∀k∈ks,1≤k.count
 sep:∀(i j:Nat)(a b:Bl),[aeW,[qv],ks]
theorem Sep.uniq{ks:pG}(S:Sep ks){i j b:Nat}{x y:Bl}(A:[JX])(a:ks[j]?=Z y)(g:x.place≤b)(r:b<[wE])(P:y.place≤b)(w:b<y.place+y.count):i=j:=by
 rcases R9 i j with h|h|h;·rw[10,S.sep i j x y A a h]
 ·exact h
 ·rw[10,S.sep j i y x a A h]
structure IsT(ks:pG)(T:Nat)(t:bx):Prop where
 bit:∀b,(T.testBit b=true↔∃i x,[JX]∧x.place≤b∧b<x.place+t i)
 le:∀i x,[qv]=Z x→t i≤x.count
 out:∀i,ks.length≤i→t i=0
structure l6(ks:pG)(N:Nat)(c:bx):Prop where
 bit:∀b,(N.testBit b=true↔∃i x,[JX]∧0<c i∧b+c i=[wE])
 le:∀i x,[qv]=Z x→c i≤x.count
 out:∀i,ks.length≤i→c i=0
theorem IsT.zero(ks:pG):IsT ks 0 [zP]:=⟨λ b=>by
 rw[32,Se];·intro h;cases h
 ·rintro⟨i,x,_,g,r⟩;omega,λ _ _ _=>b7 _,[B3]⟩
theorem l6.zero(ks:pG):l6 ks 0 [zP]:=⟨λ b=>by
 rw[32,Se];·intro h;cases h
 ·rintro⟨i,x,_,g,_⟩;omega,λ _ _ _=>b7 _,[B3]⟩
theorem tW(i b:Nat):[Dk,2^i,b,b=i]:=by rw[16,Nat.testBit_two_pow];exact eq_comm
theorem Cr{p q:Nat}(h:p≤q)(b:Nat):[Dk,2^q-2^p,b,p≤b∧b<q]:=by
 have e:2^q-2^p=(2^(q-p)-1)*2^p:=by rw[Nat.sub_mul,Nat.one_mul,←Nat.pow_add];congr 2;omega
 rw[e,Jr,Nat.testBit_two_pow_mul,Nat.testBit_two_pow_sub_one];rw[17]
def bS(x:Bl):Nat:=2*2^([wE]-1)-2^x.place
theorem KZ{x:Bl}(h:1≤x.count):bS x=2^[wE]-2^x.place:=by unfold bS;rw[47,[wE]=([wE]-1)+1];rw[this,vJ,Bt,Jr]
theorem Ct{x:Bl}(h:1≤x.count)(b:Nat):[Dk,bS x,b,x.place≤b∧b<[wE]]:=[ap,KZ h,Cr [ac] b]
theorem tX{a b:Nat}(h:∀i,(a.testBit i=true↔b.testBit i=true)):a=b:=RU λ i=>by have:=h i;cases e:a.testBit i<;>cases f:b.testBit i<;>simp_all
theorem jb(a b i:Nat):[Dk,a&&&b,i,[jb,a.testBit i,b.testBit i=true]]:=by rw[16,Ji]
theorem zl(a b i:Nat):[Dk,a|||b,i,a.testBit i=true∨b.testBit i=true]:=by rw[16,Nat.testBit_or]
theorem zm{a:Nat}:a=0↔∀i,¬a.testBit i=true:=by
 rw[5];·rintro rfl i;simp
 ·intro h;exact tX λ i=>⟨[Lg,z,h i],λ z=>by simp at z⟩
theorem K0{a b:Nat}(h:a&&&b=0):a+b=a|||b:=by
 have T:a+b<2^(a+b+1):=SJ (Nat.lt_two_pow_self) (Br [bj] [ac]);have e:BitVec.ofNat (a+b+1) a&&&BitVec.ofNat (a+b+1) b=0#(a+b+1):=by apply BitVec.eq_of_toNat_eq;rw[BitVec.toNat_and,IW,IW,BD [ac],BD [ac],h];simp
 have:=ed BitVec.toNat (BitVec.add_eq_or_of_and_eq_zero _ _ e);rw[BitVec.toNat_add,BitVec.toNat_or,IW,IW,BD (a:=a) [ac],BD (a:=b) [ac],BD T]at this;rw[65]
section
variable{ks:pG}(S:Sep ks)
include S
theorem K1{T:Nat}{t:bx}(Y:IsT ks T t){i:Nat}{x:Bl}(A:[JX]):T&&&bS x=[Uk]-2^x.place:=by
 have R:=S.pos x (bt A);refine tX λ b=>?_
 rw[jb,Ct R,Y.bit,Cr [ac]];rw[5];·rw[294,Y.le,g,r]
 ·rintro⟨g,r⟩;have:=Y.le i x A;rw[1,⟨i,x,A,g,r⟩,g,[ac]]
theorem T5{T:Nat}{t:bx}(Y:IsT ks T t){i:Nat}{x:Bl}(A:[JX]):(T&&&bS x)+2^x.place=[Uk]:=by rw[K1 S Y A];have:2^x.place≤[Uk]:=[Rl];omega
theorem K2{T:Nat}{t:bx}(Y:IsT ks T t){i:Nat}{x:Bl}(A:[JX])(s:t i<x.count):IsT ks (T|||((T&&&bS x)+2^x.place)) (dn t i (t i+1)):=by
 rw[13,T5 S Y A,[ace]]
 ·rw[zl,Y.bit,tW];rw[5]
  ·rintro(⟨j,y,a,g,r⟩|rfl)
   ·rw[30,j,i];·subst e;rw[9,j,y,a,g,[e9,hJ]]
    ·rw[9,j,y,a,g,[ap,gL e,r]]
   ·rw[9,i,x,A,[ac],[e9,hJ]]
  ·rintro⟨j,y,a,g,r⟩;rw[30,j,i];·subst e;rw[hJ]at r;rw[A]at a;cases a;rw[44,b,x.place+t j];rw[2,.inr z,.inl ⟨j,x,A,g,[ac]⟩]
   ·rw[gL e]at r;rw[46,⟨j,y,a,g,r⟩]
 ·rw[308,Y.le]
 ·have:j≠i:=by rw[54];rw[sQ U]at A;cases A
  rw[4,gL this,Y.out j U]
theorem T6{T:Nat}{t:bx}(Y:IsT ks T t){i:Nat}{x:Bl}(A:[JX]):T&&&bS x=bS x↔t i=x.count:=by
 have R:=S.pos x (bt A);rw[K1 S Y A,KZ R];have X:=Y.le i x A;rw[5];·intro h;refine kT [wP];have l:[Uk]<2^[wE]:=(Br [bj] [ac]);have e:2^x.place≤[Uk]:=[Rl];omega
 ·intro h;rw[h]
theorem T7{N:Nat}{c:bx}(v:l6 ks N c){i:Nat}{x:Bl}(A:[JX]):[B6,N&&&bS x,c i=0,0,2^([wE]-c i)]:=by
 have R:=S.pos x (bt A);have X:=v.le i x A;have n:∀b,[Dk,N&&&bS x,b,0<c i∧b=[wE]-c i]:=λ b=>by
  rw[jb,Ct R,v.bit];rw[5];·rw[294,v.le,[ac],[ac]]
  ·rintro⟨g,rfl⟩;rw[1,⟨i,x,A,g,[ac]⟩,[ac],[ac]]
 by_cases h0:c i=0;rw[39,aI h0,zm.mpr λ b K=>by rw[10,(n b).mp K],aD h0,tX λ b=>by
  rw[n,tW];rw[5];exact λ h=>h.2
  exact λ h=>⟨[ac],h⟩]
theorem T8{N:Nat}{c:bx}(v:l6 ks N c){i:Nat}{x:Bl}(A:[JX])(s:c i<x.count):l6 ks ([Nn]+[Yp,N,bS,x,[wE]-1]) (dn c i (c i+1)):=by
 have R:=S.pos x (bt A);have f:[Yp,N,bS,x,[wE]-1]=2^[Qm]:=by
  rw[T7 S v A];by_cases h0:c i=0;·rw[aI h0,[LP],h0]
  ·rw[aD h0,aI (g9 (Nat.pow_pos [bj]))];rw[47,[wE]-c i=[Qm]+1];rw[this,vJ,Nat.mul_div_cancel _ [bj]]
 rw[f];have sub:∀b,[Dk,[Nn],b,[jb,N.testBit b,¬(x.place≤b∧b<[wE])]]:=λ b=>by
  have e:[Nn]=N^^^(N&&&bS x):=by
   have g:(N&&&bS x)+(N^^^(N&&&bS x))=N:=by have q:=RU (x:=(N&&&bS x)|||(N^^^(N&&&bS x))) (y:=N) [acL,Nat.testBit_or,Ji];have d:(N&&&bS x)&&&(N^^^(N&&&bS x))=0:=RU [acL,Ji,Se];rw[K0 d,q]
   omega
  rw[e,Sk,Ji];have K:=Ct R b;cases g:N.testBit b<;>cases r:((bS x).testBit b)<;>simp[r]at K⊢<;>omega
 have t:¬[K8,[Nn],[Qm]]:=λ h=>by rw[10,(sub _).mp h]
 have k:[Nn]+2^[Qm]=[Nn]|||2^[Qm]:=by
  have d:[Nn]&&&2^[Qm]=0:=zm.mpr λ b K=>by rw[jb,tW]at K;obtain⟨g,rfl⟩:=K;exact t g
  exact K0 d
 rw[13,k,[ace]]
 ·rw[zl,sub,v.bit,tW];rw[5]
  ·rintro(⟨⟨j,y,a,g,r⟩,P⟩|rfl)
   ·rw[30,j,i];·subst e;rw[A]at a;cases a;rw[10,v.le j x A]
    ·rw[9,j,y,a,[ap,gL e,g],[ap,gL e,r]]
   ·rw[9,i,x,A,[e9,hJ],[e9,hJ]]
  ·rintro⟨j,y,a,g,r⟩;rw[30,j,i];·subst e;rw[hJ]at g r;rw[A]at a;rw[6,a,.inr [ac]]
   ·rw[gL e]at g r;refine .inl ⟨⟨j,y,a,g,r⟩,λ⟨P,w⟩=>?_⟩;rw[51,v.le j y a,e (S.uniq a A [ac] [ac] P w)]
 ·rw[308,v.le]
 ·have:j≠i:=by rw[54];rw[sQ U]at A;cases A
  rw[4,gL this,v.out j U]
theorem T9{T N:Nat}{t c:bx}(Y:IsT ks T t)(v:l6 ks N c):N&&&T=0↔∀i x,[qv]=Z x→0<c i→c i+t i≤x.count:=by
 rw[32,zm]
 ·intro h i x A V;refine vA λ z=>h ([wE]-c i) ?_
  have:=v.le i x A;rw[jb,v.bit,Y.bit];rw[37,⟨i,x,A,V,[ac]⟩,i,x,A,[ac],[ac]]
 ·intro h b K;rw[jb,v.bit,Y.bit]at K;obtain⟨⟨i,x,A,g,r⟩,j,y,a,P,w⟩:=K;have m:=v.le i x A;have d:=Y.le j y a;have e:=S.uniq A a [ac] [ac] P [ac];subst e;rw[A]at a;cases a;rw[10,h i x A g]
theorem Cu{A B:Nat}{a b:bx}(O:IsT ks A a)(f:IsT ks B b):A&&&B=A↔∀i,a i≤b i:=by
 rw[5];·intro h i;cases c:[qv]with|none=>rw[4,O.out i (List.getElem?_eq_none_iff.mp c),b7 _]|some x=>refine vA [wP];have m:=O.le i x c;have g:A.testBit (x.place+b i)=true:=(O.bit _).mpr ⟨i,x,c,[ac],[ac]⟩;rw[←h,jb,f.bit]at g;obtain⟨_,j,y,d,P,w⟩:=g;have K:=f.le j y d;have Q:=f.le i x c;have e:=S.uniq d c P [ac] [ac] [ac];subst e;rw[86,c];omega
 ·intro h;refine tX λ q=>?_
  rw[jb,O.bit,f.bit];rw[5];·exact λ z=>z.1
  ·rintro⟨i,x,c,g,r⟩;rw[37,⟨i,x,c,g,r⟩,i,x,c,g,by rw[10,h i]]
end
end Vs
end
section
namespace Vs
open Kgz1(Measure)
structure Kd where
 nums:[ak]
 sh:Shape
 size:Nat
 place:Nat
 count:Nat
def Kd.bl(k:Kd):Bl:=⟨k.place,k.count⟩
def dr(ks:[zQ]):pG:=ks.map Kd.bl
def cF(ks:[zQ]):bx:=λ i=>[DX,[qv],k,k.count,0]
def b0(ks:[zQ]):bx:=λ i=>[DX,[qv],k,k.size,0]
structure zo(ks:[zQ])(most:Nat):Prop where
 sep:Sep (dr ks)
 most:most≤12
 bC:∀k∈ks,k.count≤64
 size:∀k∈ks,k.size≤24
theorem pH{ks:[zQ]}{i:Nat}{x:Bl}(h:(dr ks)[i]?=Z x):∃k,[qv]=Z k∧x=k.bl:=by unfold dr at h;rw[cJ]at h;cases e:[qv]with|none=>rw[43,e]|some k=>rw[43,e];rw[1,k,J,J]
theorem iF{ks:[zQ]}{i:Nat}{k:Kd}(h:[qv]=Z k):(dr ks)[i]?=Z k.bl:=by unfold dr;rw[cJ,h];rfl
theorem qV{ks:[zQ]}{i:Nat}{k:Kd}(h:[qv]=Z k):cF ks i=k.count:=by unfold cF;rw[h]
theorem T_{ks:[zQ]}{i:Nat}{k:Kd}(h:[qv]=Z k):b0 ks i=k.size:=by unfold b0;rw[h]
theorem Ua{ks:[zQ]}{most:Nat}(K:zo ks most)(i:Nat):cF ks i≤64:=by unfold cF;cases e:[qv]with|none=>exact b7 _|some k=>exact K.bC k (bt e)
theorem Ub{ks:[zQ]}{T:Nat}{t:bx}(h:IsT (dr ks) T t)(i:Nat):t i≤cF ks i:=by cases e:[qv]with|none=>rw[4,h.out i (by unfold dr;rw[4,aC,List.getElem?_eq_none_iff.mp e]),b7 _]|some k=>rw[4,qV e,h.le i _ (iF e)]
theorem K3{ks:[zQ]}(S:Sep (dr ks)){T N:Nat}{t:bx}{cs:[ak]}(Y:IsT (dr ks) T t)(v:l6 (dr ks) N [Qr])(O:∀k∈cs,[wO,k]):N&&&T=0↔¬eF (cF ks) cs t:=by
 rw[32,T9 S Y v];·rintro h⟨k,C,s⟩;have Q:=O k C;have e:=bX Q;have:=h k _ (iF e) [VT,C];rw[qV e]at s;rw[8,this,by rw[19,¬_≤(ks[k]).count]]
 ·intro h i x A V;obtain⟨k,C,rfl⟩:=pH A;rw[55,vA (λ z=>h [pv,i,List.count_pos_iff.mp V]),qV C,z]
structure GC where
 cs:[ak]
 jw:Nat
 b:bx
 l:Nat
 r:Nat
structure GL where
 taken:Nat
 words:Nat
 size:Nat
 b:bx
 l:Nat
 r:Nat
structure GK where
 c0:Bool
 steps:List (Nat×a8)
 cs:List GC
 ls:List GL
section
variable(m:Measure)(ks:[zQ])
def shapeAt(i:Nat):Shape:=[DX,[qv],k,k.sh,(0,[])]
def oz(L:a8)(cs:[ak]):Prop:=(∀k∈cs,[wO,k])∧pE m L (cs.map (shapeAt ks))
def cM(c0:Bool)(s:List (Nat×a8)):[zH,Nat]|[]=>c0=true|k::r=>∃t,(k,t)∈s∧[wO,k]∧oz m ks t r
def iV(ks:[zQ])(most:Nat)(t:bx)(l r:Nat):Prop:=(∃e x,bZ ks.length t+e+l=most∧r+mW (b0 ks) ks.length t+x=256∧x≤24*e)
structure Cv(most:Nat)(c0:Bool)(s:List (Nat×a8))(g:GC):Prop where
 comp:cM m ks c0 s g.cs
 jw:l6 (dr ks) g.jw λ k=>g.cs.count k
 at_:KA (cF ks) (b0 ks) ks.length g.cs g.b g.l g.r
structure v_(most:Nat)(c0:Bool)(s:List (Nat×a8))(g:GL):Prop where
 taken:IsT (dr ks) g.taken g.b
 pI:[VH,cM m ks c0 s cs,g.words,cg,b0 ks,g.size,eF,cF ks,g.b]
 words:g.l≤g.words
 size:g.r≤g.size
 zp:[lm,g.words]∧[lm,g.size]
 at_:Ci (cF ks) (b0 ks) (cM m ks c0 s) ks.length g.b g.l g.r
 Uc:iV ks most g.b g.l g.r
structure jc(most:Nat)(g:GK):Prop where
 comps:∀c∈g.cs,[VB,Cv]
 qW:∀c∈g.ls,[VB,v_]
 Cw:g.cs.Pairwise λ p q=>(p.l=q.l→p.cs.length≤q.l→cg (b0 ks) p.cs≤q.r→eF (cF ks) p.cs q.b)
 apart:g.ls.Pairwise [acg]
 done:g.c0=true→∃c,c∈g.cs∧c.cs=[]
end
variable{m:Measure}{ks:[zQ]}{most:Nat}
theorem jc.Cy{g:GK}(K:zo ks most)(G:jc m ks most g):g.cs.length≤2105087:=TM (λ c:GC=>c.cs) (λ c=>c.b) (λ c=>c.l) (λ c=>c.r) g.cs (Ua K) (λ c V=>(G.comps c V).at_) G.Cw
theorem jc.K4{g:GK}(K:zo ks most)(G:jc m ks most g):g.ls.length≤10653299:=by
 have nd:∀l:List GL,l.Pairwise [acg]→l.Nodup∧∀p∈l,∀q∈l,(p.b=q.b→p.l=q.l→p.r=q.r→p=q):=by
  intro l;induction l with
   |nil=>intro _;rw[0,kj,λ p R=>by simp at R]
   |cons a l T=>
    intro h;have S:=[V8,h];obtain⟨b,d⟩:=T S.2;rw[15,List.nodup_cons.mpr ⟨λ z=>S.1 a z [tJ,J,J],b⟩,λ p R q D e1 e2 B=>?_];rcases[d9,R]with e|i<;>rcases[d9,D]with j|o;·rw[e,j]
    ·rw[e]at e1 e2 B;rw[8,⟨e1,e2,B⟩,S.1 q o]
    ·rw[j]at e1 e2 B;rw[8,⟨e1.symm,e2.symm,B.symm⟩,S.1 p i]
    ·exact d p i q o e1 e2 B
 obtain⟨E,f⟩:=nd g.ls G.apart;exact Tx (bC:=cF ks) (sz:=b0 ks) (cM:=cM m ks g.c0 g.steps) (n:=ks.length) (λ c:GL=>c.b) (λ c=>c.l) (λ c=>c.r) g.ls K.most E f λ c V=>⟨(G.qW c V).at_,(G.qW c V).Uc⟩
structure eG(l:Nat)(g Q:GK):Prop where
 c0:Q.c0=g.c0
 steps:Q.steps=g.steps
 cs:∃a,Q.cs=g.cs++a∧∀c∈a,c.l≤l
 ls:∀c∈Q.ls,c∈g.ls∨c.l≤l
theorem eG.refl(l:Nat)(g:GK):eG l g g:=[aae,λ c h=>[lz]]
theorem eG.trans{l:Nat}{d T e:GK}(a:eG l d T)(b:eG l T e):eG l d e:=by
 obtain⟨E,e1,g⟩:=a.cs;obtain⟨D,e2,r⟩:=b.cs;rw[18,b.c0.trans a.c0,b.steps.trans a.steps,⟨E++D,by rw[e2,e1,gZ],λ c V=>?_⟩,λ c V=>?_];·rcases[d6,V]with h|h;rw[2,g c h,r c h]
 ·rcases b.ls c V with h|h;rw[2,a.ls c h,.inr h]
theorem eG.mono{l l':Nat}{g Q:GK}(h:l≤l')(a:eG l g Q):eG l' g Q:=by obtain⟨E,e1,b⟩:=a.cs;rw[21,a.c0,a.steps,⟨E,e1,λ c V=>bf (b c V) h⟩,λ c V=>(a.ls c V).imp id λ z=>bf z h]
theorem jc.Ud{g0 g:GK}{c:GC}{l:Nat}(G:jc m ks most g)(j:eG l g0 g)(X:l<c.l)(V:[VB,Cv])(v:∀p∈g0.cs,p.cs.length≤c.l→cg (b0 ks) p.cs≤c.r→eF (cF ks) p.cs c.b):jc m ks most {g with cs:=g.cs++[c]}:=by
 rw[26,[qp],G.qW,?_,G.apart,λ h=>?_];·rw[139,[d6,R],G.comps p h];·rw[95];exact V
 ·rw[13,RN,[DR,G.Cw,λ p R q D e1 e2 B=>?_]];simp at D;subst D;obtain⟨b,e,hn⟩:=j.cs;rw[e]at R;rcases[d6,R]with h|h;·exact v p h e2 B
  ·rw[10,hn p h]
 ·obtain⟨s,a,r⟩:=G.done h;rw[1,s,lP _ a,r]
end Vs
end
section
namespace Vs
theorem Ue(a b:Nat):(2*a)&&&(2*b+1)=2*(a&&&b):=by rw[42,tX λ i=>?_,jb];cases i with|zero=>simp[yF]|succ i=>rw[nZ,nZ,nZ];rw[70,2*a/2=a,[ac],(2*b+1)/2=b,[ac]];have B:2*(a&&&b)/2=a&&&b:=[ac];rw[e1,e2,B,jb]
theorem Ug(a:Nat):(2*a+1)&&&(2*a)=2*a:=by rw[42,tX λ i=>?_,jb];cases i with|zero=>simp[yF]|succ i=>rw[nZ,nZ];rw[70,2*a/2=a,[ac],(2*a+1)/2=a,[ac]];rw[e1,e2];simp
theorem K5:∀n:Nat,n≠0→∃i,[jb,n.testBit i,(∀j,j<i→[aX,n.testBit j])∧n=(n&&&(n-1))+2^i∧∀j,[Dk,n&&&(n-1),j,[jb,n.testBit j,j≠i]]]:=by
 intro n;induction n using Nat.strongRecOn with
  |_ n T=>
   intro hn;rcases Nat.mod_two_eq_zero_or_one n with h|h
   ·obtain⟨a,rfl⟩:∃a,n=2*a:=[My,n/2];have ha:a≠0:=[ac];obtain⟨i,g,r,P,w⟩:=T a [ac] ha;have e:2*a-1=2*(a-1)+1:=[ac];rw[e,Ue];rw[26,i+1,?_,?_,?_,?_];·rw[nZ];rw[87,2*a/2,a,[ac],g]
    ·intro j U;cases j with|zero=>simp[yF]|succ j=>rw[nZ];rw[87,2*a/2,a,[ac],r j [ac]]
    ·rw[27,vJ]
    ·intro j;cases j with
      |zero=>simp[yF]
      |succ j=>
       rw[nZ,nZ];have e1:2*a/2=a:=[ac];have B:2*(a&&&(a-1))/2=a&&&(a-1):=[ac];rw[e1,B,w];rw[5];·rintro⟨x,y⟩;rw[0,x,[ac]]
       ·rintro⟨x,y⟩;rw[0,x,[ac]]
   ·obtain⟨a,rfl⟩:∃a,n=2*a+1:=[My,n/2];have e:2*a+1-1=2*a:=[ac];rw[e,Ug];rw[26,0,[bn,yF],λ j U=>[ac],[al],λ j=>?_];cases j with|zero=>simp[yF]|succ j=>rw[nZ,nZ];rw[70,2*a/2=a,[ac],(2*a+1)/2=a,[ac]];rw[e1,e2];simp
theorem Uh{n:Nat}(hn:n≠0)(h:n&&&(n-1)=0):∃i,n=2^i∧n.testBit i=true:=by obtain⟨i,g,_,P,_⟩:=K5 n hn;rw[h]at P;rw[1,i,[ac],g]
theorem jT{m:Type}[[CW,m]]:∀{l r:[ol]},l.Nodup→(∀x∈l,x∈r)→[qe,r.length]
 |[],_,_,_=>b7 _
 |a::l,r,hn,G=>by
  have h:=[Av,hn];have:[qe,[fz,r.erase,a]]:=jT h.2 λ x A=>(List.mem_erase_of_ne (λ z=>h.1 [cm,z,A])).mpr (G x (cp _ A))
  have e:=List.length_erase_of_mem (G a cq);have:0<r.length:=List.length_pos_of_mem (G a cq);rw[85,dP]
def Cz(I:[cQ])(T:[ak])(B:Nat):Prop:=∃S:[ak],(∀s∈S,[Ke,s])∧(∀x,(B.testBit x=true↔[aa2]))∧[Ps,T,B]∧∀s∈S,∃h∈T,∀x,h.testBit x=true→B.testBit x=true→[K8,I s,x]
def cT(I:[cQ])(S:[ak]):Nat:=S.foldl (λ a s=>a|||I s) 0
theorem K6(I:[cQ]):∀(S:[ak])(a x:Nat),[Dk,S.foldl (λ a s=>a|||I s) a,x,a.testBit x=true∨[aa2]]|[],a,x=>[al]|s::S,a,x=>by rw[i7,K6 I S,zl];simp[or_assoc]
theorem tY(I:[cQ])(S:[ak])(x:Nat):[Dk,cT I S,x,[aa2]]:=by unfold cT;rw[16,K6]
theorem jU{a b:Nat}:a&&&b≠0↔∃x,[jb,a.testBit x,b.testBit x=true]:=by
 rw[Ne,zm];rw[5];·intro h;apply kT;intro z;exact h λ i O=>z ⟨i,(jb a b i).mp O⟩
 ·rintro⟨x,h⟩z;exact z x ((jb a b x).mpr h)
theorem Ui{I:[cQ]}{T S1 S2:[ak]}{B:Nat}(n:∀h∈T,∀s,h.testBit s=true→[K8,I s,s])(g:∀s∈S1,2^s∈T)(r:∀s∈S2,∃h∈T,h&&&cT I S1=0∧∀x d,(h.testBit x=true→d∈S2→((I d).testBit x)=true→[K8,I s,x]))(O:∀s∈S2,[Ke,s])(P:∀h∈T,h&&&cT I S1=0→h&&&cT I S2≠0)(c:∀x,(B.testBit x=true↔[K8,cT I S1,x]∨[K8,cT I S2,x])):Cz I T B:=by
 rw[26,S1++S2,λ s G=>?_,λ x=>?_,λ h W=>?_,λ s G=>?_];·rw[154,[d6,G],⟨_,g s k,(tW s s).mpr J⟩,O s k]
 ·rw[c,tY,tY];rw[5];·rintro(⟨s,a,b⟩|⟨s,a,b⟩);rw[2,⟨s,lP _ a,b⟩,⟨s,iQ _ a,b⟩]
  ·rintro⟨s,a,b⟩;rw[154,[d6,a],[ut,s,k,b],[zf,s,k,b]]
 ·rw[44,h&&&cT I S1,0];·obtain⟨x,a,b⟩:=jU.mp (P h W z);exact jU.mpr ⟨x,a,(c x).mpr (.inr b)⟩
  ·obtain⟨x,a,b⟩:=jU.mp z;exact jU.mpr ⟨x,a,(c x).mpr (.inl b)⟩
 ·rcases[d6,G]with k|k;·rw[20,_,g s k,λ x A _=>?_];have:x=s:=(tW s x).mp A;rw[64,n _ (g x k) x A]
  ·obtain⟨h,W,M,e1⟩:=r s k;rw[20,h,W,λ x A K=>?_];rcases(c x).mp K with q|q;·rw[8,M,jU.mpr ⟨x,A,q⟩]
   ·obtain⟨d,a,b⟩:=(tY I S2 x).mp q;exact e1 x d A a b
end Vs
end
section
namespace L2
open PySem PySem.Spec PyProof.Rows
inductive Tr where|num(i:Int)|txt(x:Str)|nil|cons(a r:Tr)deriving DecidableEq
def l7(b:Bool):Int:=[FQ,b,0]
theorem CB{a b:Bool}(h:l7 a=l7 b):a=b:=by cases a<;>cases b<;>simp[l7]at h<;>rfl
def mZ(h:aE)(f:[zH,ae]):[dF,Tr,ae]|.num i,v=>(∃t,v=.int i t)∨∃b,v=.bool b∧i=l7 b|.txt x,v=>∃t,v=.str x t|_,v=>∃p m,v=[iv]∧h.IsTuple p m∧f m.toList
def eH(h:aE):[dF,Tr,[bu]]|.nil,U=>U=[]|.cons a r,U=>∃v B,U=v::B∧mZ h (eH h a) a v∧eH h r B|.num _,_=>False|.txt _,_=>False
def c_:Tr→Nat|.cons a r=>max (c_ a+1) (c_ r)|_=>0
theorem CD{h:aE}{p:ab}{N G:[lc]}(a:h.IsTuple p N)(b:h.IsTuple p G):N=G:=by obtain⟨o,g,_,n,r⟩:=a;obtain⟨O,P,_,q,w⟩:=b;rw[g]at P;cases P;rw[r]at w;cases w;rfl
theorem mZ.inj{h:aE}{f:[dF,Tr,[bu]]}{a b:Tr}{v:ae}(T:∀U,f a U→f b U→a=b)(g:mZ h (f a) a v)(r:mZ h (f b) b v)(F:∀i U,¬f (.num i) U)(k:∀x U,¬f (.txt x) U):a=b:=by
 have z:∀{p m q u},[cI,v=[j5,p],h.IsTuple p m,f a m.toList,v=.ref q,h.IsTuple q u→f b u.toList→a=b]:=by intro p m q u e1 l n e2 w A;rw[e1]at e2;cases e2;have:=CD l w;rw[64,T _ n A]
 cases a with
  |num i=>
   cases b with
    |num j=>rcases g with⟨t,e⟩|⟨c,e,H⟩<;>rcases r with⟨Y,d⟩|⟨s,d,o⟩<;>rw[e]at d<;>cases d<;>first|rfl|(rw[H,o])
    |txt y=>obtain⟨Y,d⟩:=r;rw[192]
    |nil=>rw[180];rw[192]
    |cons x y=>rw[180];rw[192]
  |txt x=>obtain⟨t,e⟩:=g;cases b with|num j=>rw[193]|txt y=>obtain⟨Y,d⟩:=r;rw[86,e];rfl|nil=>rw[180];rw[86,e]|cons _ _=>rw[180];rw[86,e]
  |nil=>obtain⟨p,m,e,l,n⟩:=g;cases b with|num j=>rw[193]|txt y=>obtain⟨Y,d⟩:=r;rw[86,e]|nil=>rfl|cons _ _=>rw[196]
  |cons _ _=>obtain⟨p,m,e,l,n⟩:=g;cases b with|num j=>rw[193]|txt y=>obtain⟨Y,d⟩:=r;rw[86,e]|nil=>rw[196]|cons _ _=>rw[196]
theorem eH.inj{h:aE}:∀(t u:Tr)(U:[bu]),eH h t U→eH h u U→t=u|.nil,.nil,_,_,_=>J|.nil,.cons _ _,_,g,c=>by obtain⟨_,_,e,_⟩:=c;rw[34,[db,_,[],g]]|.nil,.num _,_,_,c=>c.elim|.nil,.txt _,_,_,c=>c.elim|.cons _ _,.nil,_,g,c=>by obtain⟨_,_,e,_⟩:=g;rw[34,[db,_,[],c]]|.cons _ _,.num _,_,_,c=>c.elim|.cons _ _,.txt _,_,_,c=>c.elim|.cons a r,.cons b q,U,g,c=>by obtain⟨v,B,e,m,n⟩:=g;obtain⟨M,j,d,K,i⟩:=c;rw[86,e];rw[mZ.inj (f:=eH h) (λ o=>eH.inj a b o) m K (λ _ _ z=>z) (λ _ _ z=>z),eH.inj r q B n i]|.num _,_,_,g,_=>g.elim|.txt _,_,_,g,_=>g.elim
theorem mZ.mono{h S:aE}{f g:[zH,ae]}{a:Tr}{v:ae}(C:[U5])(F:∀U,f U→g U)(x:mZ h f a v):mZ S g a v:=by cases a with|num i=>exact x|txt y=>exact x|nil=>obtain⟨p,m,e,t,q⟩:=x;rw[9,p,m,e,C _ _ t,F _ q]|cons _ _=>obtain⟨p,m,e,t,q⟩:=x;rw[9,p,m,e,C _ _ t,F _ q]
theorem eH.mono{h S:aE}(C:[U5]):∀(t:Tr)(U:[bu]),eH h t U→eH S t U|.nil,_,x=>x|.cons a r,_,⟨v,rest,e,l,i⟩=>[abL,C,eH.mono]|.num _,_,x=>x|.txt _,_,x=>x
def K7(w:aU)(g:Int):Tr→Int|.num i=>hashInt i|.txt x=>hashStr w x|_=>g
def oA(w:aU):Tr→[bv]|.cons a r=>K7 w (JC (Bm (oA w a))) a::oA w r|_=>[]
def zq(n:Nat):Tr→Nat|.num _=>1|.txt _=>1|_=>n+1
def lj:Tr→Nat|.cons a r=>zq (lj a) a+lj r|_=>0
section
variable{prog:aY}{w:aU}{E:[aT]}
theorem Uj{b:Bool}{A:bP}{s:aq}{Q:[on,Int]}(h:Q (hashInt (l7 b)) [As,1]):[fQ,pyHash (.bool b)]:=by refine PySem.W.pyHash_slot (T:="bool") J F.slot_bool_hash entry_int_hash (args_int_hash _) (beq_builtin_none _) [de] ?_;cases b;rw[2,[acN,0],[acN,1]]
theorem CF{t:Tr}{A:bP}{s:aq}{p:ab}{m:[lc]}{Q:[on,Int]}(c:[QB,p,m])(d:A.units<fq)(z:∀(Q:[on,Array Int]),(([adC,oA w t])→az [pr] A.in1 [Yt,m.toList,#[]] Q E s))(h:Q (JC (Bm (oA w t))) [As,lj t+1]):[fQ,pyHash [iv]]:=by
 obtain⟨o,b,V,n,a⟩:=c;refine PySem.W.pyHash_slot (T:="tuple") ⟨o,b,V⟩ F.slot_tuple_hash F.entry_tuple_hash (F.args_tuple_hash_1 _) (beq_builtin_none _) (.inr d) ?_;show az _ _ (Builtin.Tuple.tupleItemsOf [iv]>>=_) _ _ s;rw[110,wpAny_tupleItemsOf b a ?_,?_];rw[←IY];refine z _ λ P K=>?_
 rw[25,[Et,retInt (Bm P.toList)],K,au (JA (aW [ff,_,_,h]))]
theorem zr:∀(t:Tr)(U:[bu])(A:bP)(s:aq)(b:Array Int)(Q:[on,Array Int]),(eH s.heap t U→A.units+c_ t<fq→([adC,b.toList++oA w t])→[fQ,[Yt,U,b]])
 |.nil,U,A,s,b,Q,x,o,h=>[ap,[db,U,[],x],aW (h b [bn,oA])]
 |.num _,_,_,_,_,_,x,_,_=>x.elim
 |.txt _,_,_,_,_,_,x,_,_=>x.elim
 |.cons a r,U,A,s,b,Q,x,o,h=>by
  obtain⟨v,B,rfl,l,i⟩:=x;have f:c_ a+1≤c_ (.cons a r):=BH _ _;have j:c_ r≤c_ (.cons a r):=Sf _ _;rw[sY];have S:∀g:Int,(g=K7 w (JC (Bm (oA w a))) a→az [pr] A (do
   pure Jy;
   pure (n6 (b.push g))) (λ u m=>[Ad,match u with|ForInStep.done b=>pure b|n6 b=>[Yt,B,b],Q,E,m]) E [As,zq (lj a) a]):=λ g n=>by rw[3,au (aW (aW ?_)),zr r B A [As,zq (lj a) a] (b.push g) Q i [ac] λ P K=>?_];have e:s.toks+zq (lj a) a+lj r=s.toks+lj (.cons a r):=[e9,lj];have:=h P (by rw[K,n];simp[oA]);rw[←e]at this;exact this
  rw[7,au ?_];cases a with|num k=>rcases l with⟨t,rfl⟩|⟨c,rfl,rfl⟩;rw[2,wpAny_pyHash_int (S _ J),Uj (S _ J)]|txt y=>obtain⟨t,rfl⟩:=l;exact wpAny_pyHash_str (S _ J)|nil=>rw[258,.nil,[Z1,.nil,q.toList]]|cons c d=>rw[258,.cons c d,[Z1,.cons c d,q.toList]]
end
section
variable{A:bP}{s:aq}
open SeqAt
theorem gh{k:Bool}{p:Prop}[Decidable p]{v u:ae}(h:pz A s v u k)(e:k=[aK,p]):pz A s v u [aK,p]:=e▸h
theorem K8(a b:Tr)(v u:ae)(d:A.units+(c_ a+1)<fq)(k:mZ s.heap (eH s.heap a) a v)(m:mZ s.heap (eH s.heap b) b u)(T:∀(A:bP)(U o:[bu]),A.units+c_ a<fq→eH s.heap a U→[acF,b,∀j(g:j<U.length)(r:j<o.length),pz A s U[j] o[j] (e j),a]):pz A s v u [aK,a=b]:=by
 have dZ:∀{p q:ab}{N G:[lc]},[cI,[QB,p,N],eH s.heap a N.toList,[QB,q,G],eH s.heap b G.toList,pz A s [iv] (.ref q) [aK,a=b]]:=by
  intro p q N G l n w h;by_cases C:p=q;·subst C;have:=CD l w;rw[64,gh (EqAt.same _) [bn,eH.inj _ _ _ n h]]
  ·obtain⟨e,g,r⟩:=T A.in1 N.toList G.toList [e9,Bz] n h;refine gh (EqAt.of_refs C (RcAt.tuples (e:=e) l w [ac] λ j z B=>?_)) ?_;·rw[100,g j [aB,z] [aB,B]]
   ·rw[103]
 cases a with
  |num i=>cases b with|num j=>rcases k with⟨t,rfl⟩|⟨c,rfl,rfl⟩<;>rcases m with⟨Y,rfl⟩|⟨f,rfl,rfl⟩;rw[2,gh (EqAt.int_int i t j Y) (by rw[16,RJ]),gh (EqAt.int_bool i t f) (by rw[RJ];simp[l7])];rw[2,gh (EqAt.bool_int c j Y) (by rw[RJ];simp[l7]),gh (EqAt.bool_bool c f) (by cases c<;>cases f<;>decide)]|txt y=>obtain⟨Y,rfl⟩:=m;rw[206,EqAt.int_str,y,Y,EqAt.bool_str]|nil=>obtain⟨q,G,rfl,w,h⟩:=m;rw[206,EqAt.int_tuple,w,[ac],EqAt.bool_tuple]|cons _ _=>obtain⟨q,G,rfl,w,h⟩:=m;rw[206,EqAt.int_tuple,w,[ac],EqAt.bool_tuple]
  |txt x=>obtain⟨t,rfl⟩:=k;rw[200,EqAt.str_int x t j Y,EqAt.str_bool x t f,gh (EqAt.str_str x t y Y) (by by_cases e:x=y<;>simp[e]),gh (EqAt.str_tuple x t w [ac]) [al]]
  |nil=>obtain⟨p,N,rfl,l,n⟩:=k;rw[200,EqAt.tuple_int j Y l [ac],EqAt.tuple_bool f l [ac],gh (EqAt.tuple_str y Y l [ac]) [al],dZ l n w h]
  |cons _ _=>obtain⟨p,N,rfl,l,n⟩:=k;rw[200,EqAt.tuple_int j Y l [ac],EqAt.tuple_bool f l [ac],gh (EqAt.tuple_str y Y l [ac]) [al],dZ l n w h]
theorem CG:∀(t u:Tr)(A:bP)(U o:[bu]),A.units+c_ t<fq→eH s.heap t U→[acF,u,∀j(c:j<U.length)(d:j<o.length),pz A s U[j] o[j] (e j),t]
 |.nil,.nil,A,U,o,_,c,d=>by rw[[db,U,[],c],[db,o,[],d]];rw[1,λ _=>true,λ j h=>[JO,h],[al]]
 |.nil,.cons _ _,A,U,o,_,c,d=>by rw[[db,U,[],c]];obtain⟨_,_,rfl,_⟩:=d;rw[1,λ _=>true,λ j h=>[JO,h],[al]]
 |.nil,.num _,_,_,_,_,_,d=>d.elim
 |.nil,.txt _,_,_,_,_,_,d=>d.elim
 |.cons _ _,.nil,A,U,o,_,c,d=>by rw[[db,o,[],d]];obtain⟨_,_,rfl,_⟩:=c;rw[1,λ _=>true,λ j _ h=>[JO,h],[al]]
 |.cons _ _,.num _,_,_,_,_,_,d=>d.elim
 |.cons _ _,.txt _,_,_,_,_,_,d=>d.elim
 |.num _,_,_,_,_,_,c,_=>c.elim
 |.txt _,_,_,_,_,_,c,_=>c.elim
 |.cons a r,.cons b q,A,U,o,i,c,d=>by
  rw[243];obtain⟨v,U,rfl,l,n⟩:=c;obtain⟨u,o,rfl,K,k⟩:=d;have x:pz A s v u [aK,a=b]:=K8 a b v u [ac] l K λ D N G y R w=>CG a b D N G y R w
  obtain⟨e,e1,e2⟩:=CG r q A U o [ac] n k;rw[24,[adi],λ j B C=>?_];·cases j with|zero=>exact x|succ j=>exact e1 j [aB,B] [aB,C]
  ·have m:min (v::U).length (u::o).length=(min U.length o.length)+1:=by rw[85,dP]
   rw[m,RF,vG,SG];have g:(U.length+1==o.length+1)=(U.length==o.length):=by by_cases z:U.length=o.length<;>simp[z]
   simp only[dP,g];have f:([adi]∘Nat.succ)=e:=J;rw[f,Bool.and_assoc,e2];by_cases p:a=b<;>by_cases P:r=q<;>simp[p,P]
end
section
variable{prog:aY}{w:aU}{A:bP}{E:[aT]}{s:aq}
theorem CH{p:ab}{m:[lc]}{n:Nat}{Q:[Dc,aq]}(e:[QB,p,m])(g:[aeP,m.toList])(h:Q true s):[fQ,JH (n+1) [iv]]:=by
 obtain⟨o,c,V,k,a⟩:=e;have Y:[C2,[iv],"tuple"]:=⟨o,c,V⟩;unfold JH;rw[7,wpAny_specialOf Y F.slot_tuple_eq.lookup ?_];show az _ _ (isInstance [iv] [Kc]>>=_) _ _ s;rw[7,Sv Y isSubtype_tuple_tuple ?_];simp only[Bool.not_true,ki,iE];rw[3,au (lT c a ?_),au ?_];show az _ _ (forIn m _ _) _ _ s;rw[←IY];refine wpAny_forIn_list _ (λ B r d=>r.1=none∧d=s∧∀v∈B,v∈m.toList) _ ?_ ?_ _ _ ⟨J,J,λ v y=>y⟩;·rintro v B r d⟨b,rfl,I⟩;rw[7,g v (I v cq) _ ?_];simp only[Bool.not_true,ki,iE];exact aW ⟨J,J,λ u i=>I u (cp _ i)⟩
 ·rintro⟨f,S⟩d⟨b,rfl,_⟩;simp only at b;subst b;exact aW h
theorem zt:∀(t:Tr)(U:[bu])(n:Nat),eH s.heap t U→c_ t≤n→[aeP,U]
 |.nil,U,n,x,_,v,b,Q,h=>by rw[[db,U,[],x]]at b;simp at b
 |.num _,_,_,x,_,_,_,_,_=>x.elim
 |.txt _,_,_,x,_,_,_,_,_=>x.elim
 |.cons a r,U,n,x,hn,v,b,Q,h=>by
  rw[243];obtain⟨u,B,rfl,l,i⟩:=x;rcases[d9,b]with rfl|b;·obtain⟨m,rfl⟩:∃m,n=m+1:=[My,n-1];cases a with|num k=>rcases l with⟨t,rfl⟩|⟨c,rfl,rfl⟩;rw[39,Sl _ J,aW h,Sl _ J,aW h]|txt y=>obtain⟨t,rfl⟩:=l;rw[4,Sl _ J,aW h]|nil=>rw[250,.nil]|cons c d=>rw[250,.cons c d]
  ·exact zt r B n i [ac] v b Q h
end
def zu(h:aE)(t:Tr)(a:ab):Prop:=c_ t≤7∧∃m,h.IsTuple a m∧eH h t m.toList
theorem zu.mono{h S:aE}{t:Tr}{a:ab}(x:zu h t a)(C:[U5]):zu S t a:=by obtain⟨d,m,F,O⟩:=x;rw[21,d,m,C _ _ F,eH.mono C _ _ O]
theorem Uk{h S:aE}{d:ab}{o:Obj}{T:Array i_}{B:Nat}(E:h.get? d=Z o)(a:[Ku,T,B])(G:kq d h S):[U5]:=by
 rintro p m⟨O,i,V,n,b⟩;have l:p≠d:=by rw[54];rw[E]at i;cases i;rw[a]at b;cases b
 rw[9,O,[f8,G.2,p,l,i],V,n,b]
def qX(prog:aY)(w:aU):HeapKind prog w Tr where
 is:=zu
 hash:=λ t=>JC (Bm (oA w t))
 draws:=λ t=>lj t+1
 room:=λ A=>A.units+16<fq
 inj:=λ{h a x y}c f=>by obtain⟨_,m,q,j⟩:=c;obtain⟨_,u,p,l⟩:=f;have:=CD q p;rw[64,eH.inj _ _ _ j l]
 keeps:=λ x g e G=>x.mono (Uk g e G)
 pyHash:=λ{A E s k a Q}i C h=>by obtain⟨d,m,F,O⟩:=C;exact CF (t:=k) F [ac] (λ I D=>[Z1,k,m.toList]) h
 eqBool:=λ{A E s x y a b Q}i c f h=>by obtain⟨d1,m,q,j⟩:=c;obtain⟨d2,u,p,l⟩:=f;rw[51,K8 (A:=A) (s:=s) x y [bi] (.ref b) [ac] (by cases x with|num _=>exact j.elim|txt _=>exact j.elim|nil=>rw[9,a,m,J,q,j]|cons _ _=>rw[9,a,m,J,q,j]) (by cases y with|num _=>exact l.elim|txt _=>exact l.elim|nil=>rw[9,b,u,J,p,l]|cons _ _=>rw[9,b,u,J,p,l]) λ z U o v R r=>CG x y z U o v R r,this prog w E Q h]
 quiet:=λ{A E s k a Q}C h=>by obtain⟨d,m,F,O⟩:=C;exact CH (n:=7) F (zt k m.toList 7 O d) h
end L2
end
section
namespace L2
open PySem PySem.Spec PyProof.Rows
abbrev Key:=Sum Int Str
def qY:Key→[ii,ae]|.inl k,v=>Value.isInt k v|.inr x,v=>Value.isStrOf x v
def Um(w:aU):Key→Int|.inl k=>hashInt k|.inr x=>hashStr w x
theorem m6:∀{k:Key}{v:ae},qY k v=true→(∃i t,k=bY i∧v=Value.int i t)∨(∃x t,k=vQ x∧v=Value.str x t)|.inl i,v,h=>by obtain⟨t,e⟩:=Value.isInt_shape (k:=i) (v:=v) h;rw[46,[ff,i,t,e]]|.inr x,v,h=>by obtain⟨t,e⟩:=Value.isStrOf_shape (x:=x) (v:=v) h;exact[rq,x,t,J,e]
theorem Uo(i:Int)(t:Tok):qY (.inl i) (.int i t)=true:=by simp[qY,Value.isInt]
theorem Up(x:Str)(t:Tok):qY (.inr x) (.str x t)=true:=by simp[qY,Value.isStrOf]
theorem Uq(a b:Int):([aK,(bY a:Key)=bY b]=(a==b)):=by
 rw[30,a,b];·subst e;simp
 ·have h:¬(bY a:Key)=bY b:=λ q=>e (Sum.inl.inj q)
  rw[4,bW h,[Mv,e].symm]
theorem Ur(a b:Str):[zW,(vQ a:Key)=vQ b,a=b]:=by
 rw[30,a,b];·subst e;simp
 ·have h:¬(vQ a:Key)=vQ b:=λ q=>e (Sum.inr.inj q)
  rw[bW h,bW e]
theorem Us(a:Int)(b:Str):[Oa,(bY a:Key)=vQ b]:=bW (λ q=>nomatch q)
theorem Ut(a:Str)(b:Int):[Oa,(vQ a:Key)=bY b]:=bW (λ q=>nomatch q)
def m7(prog:aY)(w:aU):PySem.KeyKind prog w Key where
 is:=qY
 hash:=Um w
 inj:=λ v a b ha K=>by
  rw[168,ha]
  ·rcases m6 K with⟨j,u,rfl,e⟩|⟨y,u,rfl,e⟩;·injection e with e1 _;rw[e1]
   ·exact nomatch e
  ·rcases m6 K with⟨j,u,rfl,e⟩|⟨y,u,rfl,e⟩;·exact nomatch e
   ·injection e with e1 _;rw[e1]
 byValue:=λ k v h=>by rcases m6 h with⟨i,t,rfl,rfl⟩|⟨x,t,rfl,rfl⟩<;>rfl
 pyHash:=λ c h=>by rw[168,c];rw[2,wpAny_pyHash_int h,wpAny_pyHash_str h]
 eqBool:=λ o c h=>by
  rw[168,o];·rw[249,Uq,wpAny_eqBool_int h,Us,SeqAt.EqAt.int_str i t y u _ _ _ _ h]
  ·rw[249,Ut,SeqAt.EqAt.str_int x t j u _ _ _ _ h,Ur,wpAny_eqBool_str h]
 «strs»:=λ k x t v h=>by
  rcases m6 h with⟨i,u,rfl,e⟩|⟨y,u,rfl,e⟩;·exact nomatch e
  ·injection e with e1 _;subst e1;cases v<;>rfl
theorem Uu(prog:aY)(w:aU)(i:Int)(t:Tok):(m7 prog w).is (.inl i) (.int i t)=true:=Uo i t
theorem Uv(prog:aY)(w:aU)(x:Str)(t:Tok):(m7 prog w).is (.inr x) (.str x t)=true:=Up x t
end L2
namespace L2
open PySem PySem.Spec PyProof.Rows
inductive V where|bh|bl(b:Bool)|int(i:Int)|str(x:Str)|jd(b:Array UInt8)|qZ(b:UInt64)|ref(a:Addr)|ty(n:String)deriving DecidableEq
def bw:[dF,V,ae]|.bh,u=>u=Value.none|.bl b,u=>u=pl b|.int i,u=>∃t,u=Value.int i t|.str x,u=>∃t,u=Value.str x t|.jd b,u=>∃t,u=Value.bytes b t|.qZ b,u=>∃t,u=SK b t|.ref a,u=>u=[j5,a]|.ty n,u=>u=SS n
abbrev be:[dF,[aw],[bu]]:=Paired bw
theorem be.length{N:[aw]}{W:[bu]}(r:be N W):N.length=W.length:=[CJ,r]
theorem be.get:∀{N:[aw]}{W:[bu]}{i:Nat}{x:V},be N W→N[i]?=Z x→∃u,W[i]?=Z u∧bw x u|_,_,_,_,.nil,e=>by simp at e|_,_,0,_,.cons r _,e=>by simp at e;subst e;rw[36,J,r]|_,_,i+1,x,.cons _ t,e=>by obtain⟨u,g,a⟩:=be.get (i:=i) (x:=x) t [aB,e];rw[1,u,by rw[72],a]
theorem be.append:∀{N G:[aw]}{W o:[bu]},be N W→be G o→be (N++G) (W++o)|_,_,_,_,.nil,s=>s|_,_,_,_,.cons r t,s=>(.cons r (be.append t s))
theorem be.take:[ab4,N.take n,W.take n]|_,_,0,_=>.nil|_,_,_+1,.nil=>.nil|_,_,n+1,.cons r t=>(.cons r (be.take n t))
theorem be.drop:[ab4,N.drop n,W.drop n]|_,_,0,r=>r|_,_,_+1,.nil=>.nil|_,_,n+1,.cons _ t=>be.drop n t
def ir:[dF,[iH,V],[iH,ae]]|Z v,Z u=>bw v u|none,none=>True|_,_=>False
def KV{c:Type}:[dF,List (c×V),List (c×ae)]:=Paired λ(p:c×V)(q:c×ae)=>p.1=q.1∧bw p.2 q.2
def kV:Key→V|.inl i=>.int i|.inr x=>.str x
inductive HO where|aj(xs:[aw])|tup(xs:[aw])|dK(kvs:[jT])|dT(kvs:[iF])|set(S:[ii,Int])(n:Nat)|ins(C dx:Addr)(fs:[io,V])|own(x:Addr)|xd(fs:[io,V])|met(f x:Addr)|zw(lo hi:Int)|iG(o:Obj)(u:HO)|je(ps:Array Value)|ext(φ:Heap→Prop)
abbrev Hp:=ab→[iH,HO]
def ag(H:Hp)(a:ab)(o:HO):Hp:=λ b=>[um,b=a,Z,o,H b]
theorem aw{H:Hp}{a:ab}{o:HO}:ag H a o a=Z o:=by unfold ag;rw[aI J]
theorem ar{H:Hp}{a b:ab}{o:HO}(h:b≠a):ag H a o b=H b:=by unfold ag;rw[aD h]
theorem iW{H:Hp}{a:ab}{o u:HO}:ag (ag H a o) a u=ag H a u:=by funext b;unfold ag;split<;>rfl
theorem cE{H:Hp}{a b:ab}{o u:HO}(h:H a=Z o)(S:H b=Z u)(d:o≠u):a≠b:=by intro e;subst e;rw[h]at S;exact d [dj,S]
theorem aX{H:Hp}{a b:ab}{o:HO}(h:H a=Z o)(S:H b=none):a≠b:=by intro e;subst e;rw[h]at S;cases S
def K9:[ii,V]|.str _=>true|_=>false
def dD:[ii,V]|.bl _=>true|_=>false
def l8:[ii,[aw]]|[_,b]=>! dD b|[_,a,b]=>! dD a&&! dD b|[a,b,c,d]=>! dD a&&! dD b&&! dD c&&(dD d==K9 c)|_=>true
def K_(N:[aw]):Prop:=[Id,aQ]∧l8 N=true
def l9(H:Hp)(f:[zH,V]):[dF,Tr,V]|.num i,v=>v=.int i∨∃b,v=.bl b∧i=l7 b|.txt x,v=>v=.str x|_,v=>∃p N,v=[iv]∧H p=[zl]∧f N
def eI(H:Hp):[dF,Tr,[aw]]|.nil,U=>U=[]|.cons a r,U=>∃v B,U=v::B∧l9 H (eI H a) a v∧eI H r B|.num _,_=>False|.txt _,_=>False
def eZ(H:Hp)(t:Tr)(a:ab):Prop:=c_ t≤7∧[aaM,t]
theorem l9.mono{H m:Hp}{f g:[zH,V]}{a:Tr}{v:V}(c:[Mf,m])(F:∀U,f U→g U)(x:l9 H f a v):l9 m g a v:=by cases a with|num i=>exact x|txt y=>exact x|nil=>obtain⟨p,N,e,t,q⟩:=x;rw[9,p,N,e,c _ _ t,F _ q]|cons _ _=>obtain⟨p,N,e,t,q⟩:=x;rw[9,p,N,e,c _ _ t,F _ q]
theorem eI.mono{H m:Hp}(F:[Mf,m]):∀(t:Tr)(U:[aw]),eI H t U→eI m t U|.nil,_,x=>x|.cons a r,_,⟨v,rest,e,l,i⟩=>[abL,F,eI.mono]|.num _,_,x=>x|.txt _,_,x=>x
theorem eZ.mono{H m:Hp}{t:Tr}{a:ab}(x:eZ H t a)(F:[Mf,m]):eZ m t a:=by obtain⟨d,N,e,i⟩:=x;rw[21,d,N,F _ _ e,eI.mono F _ _ i]
section
variable(P:aY)(w:aU)
def cU(H:Hp)(h:aE)(a:ab):HO→Prop|.aj N=>[Id,aQ]∧∃(m:[bu])(n:Nat),be N m∧[zn,[aaa]]|.tup N=>K_ N∧∃m:[bu],be N m∧IsTup h a m.toArray|.dK Y=>[LQ,[YG]]|.dT Y=>[LQ,[Cr,a]∧∃N:List (Tr×ab×ae),(Paired (λ(p:Tr×V)(q:Tr×ab×ae)=>p.1=q.1∧eZ H p.1 q.2.1∧bw p.2 q.2.2) Y N)∧∃o T B,[cj,[zn,o],o.ExactDict,[Ku,T,B],T.toList=N.map (entryOfKey (qX P w)),(N.map (·.1)).Nodup]]|.set S n=>h.SetOf (intKind P w) a S n|.ins C W fs=>[cj,H W=Z (.own a),[lm,fs.length],W≠a,[zn,sW C W],∃s,h.Ns1 W s∧[Zp]∧SE s (fs.map (·.1))]|.own _=>∃o,[zn,o]|.xd fs=>∃s,h.Ns1 a s∧[Zp]|.zw c O=>∃t u v,[zn,[Al,"range",[abd,c]]]|.iG o u=>[zn,o]∧cU H h a u|.je b=>[zn,[QY,b]]|.met f x=>[zn,R1 [dU] (.ref x)]|.ext j=>j h∧(∃o,[zn,o])∧∀g r:aE,j g→(∀o,g.get? a=Z o→r.get? a=Z o)→j r
def di(H:Hp)(h:aE):Prop:=∀a o,H a=Z o→cU P w H h a o
end
section
variable{P:aY}{w:aU}{H H':Hp}{h h':aE}{a:ab}{o:HO}
theorem cU.lt(x:cU P w H h a o):a<h.objs.size:=by cases o with|aj N=>obtain⟨_,_,_,_,e⟩:=x;exact bR e|tup N=>obtain⟨_,_,_,p⟩:=x;exact p.lt|dK Y=>rw[169];exact bR e|dT Y=>rw[169];exact bR e|set S n=>obtain⟨o,_,_,_,e,_⟩:=x;exact bR e|ins C W fs=>obtain⟨_,_,_,e,_⟩:=x;exact bR e|own y=>obtain⟨_,e⟩:=x;exact bR e|xd fs=>obtain⟨_,⟨_,_,_,e,_⟩,_⟩:=x;exact bR e|zw c O=>obtain⟨_,_,_,e⟩:=x;exact bR e|iG i u=>obtain⟨e,_⟩:=x;exact bR e|je V=>exact bR [X7]|met f y=>exact bR [X7]|ext j=>obtain⟨_,⟨_,e⟩,_⟩:=x;exact bR e
theorem Paired.dE{m d:Type}{F G:[dF,m,d]}:∀{s:[ol]}{Y:List d},Paired F s Y→(∀a b,F a b→G a b)→(Paired G s Y)|_,_,.nil,_=>.nil|_,_,.cons r t,f=>(.cons (f _ _ r) [zk,t,f])
theorem cU.l_(x:cU P w H h a o)(k:∀b u,(b=a∨H b=Z (.own a))→[XZ])(E:∀b,H b=Z (.own a)→H' b=Z (.own a))(F:[Mf,H']):cU P w H' h' a o:=by induction o with|aj N=>obtain⟨z,m,n,r,e⟩:=x;rw[9,z,m,n,r,[Da]]|tup N=>obtain⟨z,m,r,j,e,c⟩:=x;rw[37,z,m,r,j,[Da],c]|dK Y=>obtain⟨z,y,U,r,j,i,B,e,c⟩:=x;exact⟨z,y,U,r,j,i,B,[Da],c⟩|dT Y=>obtain⟨z,y,N,r,j,i,B,e,c⟩:=x;exact⟨z,y,N,[zk,r,λ p q z=>⟨z.1,z.2.1.mono F,z.2.2⟩],j,i,B,[Da],c⟩|set S n=>obtain⟨j,i,B,t,e,c⟩:=x;rw[37,j,i,B,t,[Da],c]|ins C W fs=>obtain⟨d,z,A,e,s,⟨l,i,B,e2,c⟩,r⟩:=x;exact⟨E _ d,z,A,[Da],s,⟨l,i,B,k _ _ (.inr d) e2,c⟩,r⟩|own y=>obtain⟨j,e⟩:=x;rw[0,j,[Da]]|xd fs=>obtain⟨s,⟨l,i,B,e,c⟩,r⟩:=x;rw[1,s,⟨l,i,B,[Da],c⟩,r]|zw g O=>obtain⟨t,u,v,e⟩:=x;rw[21,t,u,v,[Da]]|iG j u T=>obtain⟨e,q⟩:=x;rw[0,[Da],T q]|je V=>rw[346,[QY,V]]|met f y=>rw[346,R1 [dU] (.ref y)]|ext D=>obtain⟨p,⟨o,e⟩,L⟩:=x;rw[1,L _ _ p λ o q=>k _ _ [de] q,⟨o,[Da]⟩,L]
theorem di.lt(x:di P w H h)(e:H a=Z o):a<h.objs.size:=(x a o e).lt
theorem di.fresh(x:di P w H h)(e:[Pr,a]):H a=none:=by cases q:H a with|none=>rfl|some u=>rw[67,dG (x.lt q) e]
theorem di.kept(x:di P w H h)(k:[Xg]):di P w H h':=λ a o e=>[OH,x a o e,λ b u _ q=>k b u q]
theorem di.laid(x:di P w H h)(k:[Xg])(R:[Pr,a])(d:cU P w (ag H a o) h' a o):di P w (ag H a o) h':=λ b u e=>by have hn:=x.fresh R;rw[151,a,aw,d];·rw[75,ar K,(x b u e).l_ (λ c v _ q=>k c v q) (λ c q=>[Qw]) λ c N q=>[Qw]]
end
def Rd(H:Hp)(a:ab)(u:HO):Prop:=H a=Z u∨∃o,H a=Z (.iG o u)
theorem Rd.ok{P:aY}{w:aU}{H:Hp}{h:aE}{a:ab}{u:HO}(r:Rd H a u)(x:di P w H h):cU P w H h a u:=by
 rcases r with r|⟨o,r⟩;·exact x a u r
 ·obtain⟨_,q⟩:=x a _ r;exact q
def wb:Option HO→Prop|Z (.aj _)=>True|Z (.dK _)=>True|Z (.dT _)=>True|Z (.set _ _)=>True|Z (.ins _ _ _)=>True|Z (.ext _)=>True|_=>False
section
variable{P:aY}{w:aU}{H:Hp}{h h':aE}{x e:ab}{o':HO}
theorem di.write(E:di P w H h)(m:wb (H x))(R:e=x∨H e=Z (.own x))(k:∀b u,b≠e→[XZ])(g:∃u,h'.get? e=Z u)(d:cU P w (ag H x o') h' x o'):di P w (ag H x o') h':=λ b u q=>by
 have n:∀c y,H c=Z (.own y)→c≠x:=λ c y r z=>[Xq,r,m]
 have p:∀c N,H c=[zl]→c≠x:=λ c N r z=>[Xq,r,m]
 by_cases K:b=x;·subst K;rw[aw]at q;rw[6,q,d]
 ·rw[ar K]at q;by_cases f:b=e
  ·have W:H b=Z (.own x):=by
    rcases R with z|z;·rw[8,f.trans z,K]
    rw[11,f,z]
   rw[q]at W;cases W;obtain⟨v,a⟩:=g;rw[0,v,[ap,f,a]]
  ·refine(E b u q).l_ (λ c v V r=>k c v ?_ r) (λ c r=>[cX,n c b r,r]) λ c N r=>[cX,p c N r,r]
   rcases V with rfl|V;·exact f
   ·rw[54];rcases R with z|z;·exact n c b V z
    ·rw[V]at z;rw[6,z,K J]
end
structure Un(fs ex:[aV])(H m:Hp)(h S:aE):Prop where
 keep:[EI,h.get?,H b,b∉fs→b∉ex→[P0]]
 slot:[EI,h.get?,H b,b∈fs→b∉ex→∃Y,[pi,b]=[Pa,o]]
 free:[EI,h.get?,H b,b∉ex→m b=none]
 there:[qV,h.get?,b∉ex,∃O,[pi,b]=Z O]
 dZ:[Mf,m]
 jV:∀b o u,H b=Z (.iG o u)→m b=Z (.iG o u)
 jW:∀b V,H b=Z (.je V)→∃r,m b=Z (.je (V++r))
section
variable{fs fs' ex ex':[aV]}{H H1 H2:Hp}{h h1 h2 h':aE}{a x e:ab}{o:HO}
theorem Un.any(u:Un fs ex H H1 h h1){b:ab}{i:Obj}(q:[pW]=Z i)(n:H b=none)(A:b∉ex):∃Y,h1.get? b=[Pa,i]:=by by_cases K:b∈fs;rw[2,u.slot b i q n K A,⟨i.slots,u.keep b i q n K A⟩]
theorem Un.kept(k:[Xg]):Un fs ex H H h h':=⟨λ b i q _ _ _=>k b i q,λ b i q _ _ _=>⟨i.slots,k b i q⟩,λ _ _ _ n _=>n,λ b i q _=>⟨i,k b i q⟩,λ _ _ q=>q,λ _ _ _ q=>q,λ _ V q=>⟨#[],by rw[16,q]⟩⟩
theorem Un.refl:Un fs ex H H h h:=Un.kept λ _ _ q=>q
theorem Un.laid(k:[Xg])(R:[Pr,a])(hn:H a=none):Un fs ex H (ag H a o) h h' where
 keep:=λ b u q _ _ _=>k b u q
 slot:=λ b u q _ _ _=>⟨u.slots,k b u q⟩
 free:=λ b u q n _=>[cX,dY (dG (bR q) R),n]
 there:=λ b u q _=>⟨u,k b u q⟩
 dZ:=λ b N q=>[Qw]
 jV:=λ b u N q=>[Qw]
 jW:=[acl,aX q hn]
theorem Un.write(m:wb (H x))(R:e=x∨H e=Z (.own x))(k:∀b u,b≠e→[XZ])(d:∃u,h'.get? e=Z u):Un fs ex H (ag H x o) h h':=by
 have A:∀b,H b=none→b≠x:=λ b n z=>[Xq,n,m]
 have K:∀b,H b=none→b≠e:=λ b n z=>by
  subst z;rcases R with r|r;·exact A b n r
  ·rw[n]at r;cases r
 have a:∀b u,H b=Z u→¬wb (Z u)→b≠x:=λ b u q f z=>[Xq,q,f m]
 rw[53,λ b u q n _ _=>k b u (K b n) q,λ b u q n _ _=>⟨u.slots,k b u (K b n) q⟩,λ b u q n _=>[cX,A b n,n],λ b u q _=>?_,λ b N q=>[cX,a b _ q λ z=>z,q],λ b u N q=>[cX,a b _ q λ z=>z,q],[acl,a b _ q λ z=>z]];by_cases c:b=e;·subst c;exact d
 ·rw[0,u,k b u c q]
end
def zx(h:aE)(H:Hp):[aV]:=([rc,h.objs.size].filter λ a=>(H a).isSome)
def m8(h:aE)(H:Hp):aE:=PySem.W.hideAll h (zx h H)
theorem Uw(h:aE)(H:Hp):(m8 h H).objs.size=h.objs.size:=PySem.W.hideAll_size _ _
theorem Ux{h:aE}{H:Hp}{b:ab}{o:Obj}(e:[JR])(n:H b=none):(m8 h H).get? b=Z o:=PySem.W.hideAll_get _ e λ N=>by have q:(H b).isSome=true:=[FB,N].2;rw[n]at q;simp at q
theorem Uy{h:aE}{H:Hp}{b:ab}{o:Obj}(e:(m8 h H).get? b=Z o):[JR]∧H b=none:=by have f:[JR]:=PySem.W.of_hideAll (zx h H) e;rw[15,f,?_];cases q:H b with|none=>rfl|some x=>have N:b∈zx h H:=[Rc,[zt,bR f],[bn,q]];have z:(m8 h H).get? b=none:=PySem.W.hideAll_none (zx h H) N;rw[34,z]
def zy(g h:aE)(L:ab):[bF]:=[EV,[rc,h.objs.size],λ a=>if a=L∨(g.get? a).isSome=true then none else(h.get? a).map λ o=>(a,o)]
theorem Uz{g h:aE}{L a:ab}{o:Obj}(b:a≠L)(r:g.get? a=none)(P:[zn,o]):(a,o)∈zy g h L:=[Y2,a,[zt,bR P],by simp[b,r,P]]
theorem UA{g h:aE}{L:ab}{p:(ab×Obj)}(R:p∈zy g h L):p.1≠L∧g.get? p.1=none∧h.get? p.1=Z p.2:=by
 obtain⟨b,_,e⟩:=[V7,R];split at e;·cases e
 ·rename_i hn;cases q:[pW]with|none=>rw[q]at e;simp at e|some u=>rw[q]at e;simp only[sX,RK]at e;subst e;rw[20,λ z=>hn (.inl z),?_,q];show[Gg]=none;cases r:[Gg]with|none=>rfl|some v=>exact(hn (.inr [bn,r])).elim
theorem UB{g h:aE}{L:ab}:News g L h (zy g h L):=λ p R=>let⟨a,b,c⟩:=UA R;⟨c,a,b⟩
end L2
namespace L2
open PySem PySem.Spec PyProof.Rows
structure Mod(K:aF)(mg:[a_])(base:aE):Prop where
 tZ:K.In base
 glob:base.Ns b_ mg
 blt:∃N,base.Ns yT N∧∀x:Str,x≠[Np]→N x=vK x
 nolimit:base.NoLimit
structure Cx where
 prog:aY
 w:aU
 K:aF
 mg:[a_]
 base:aE
 A:bP
 N:[bd]
 eV:aq
 m9:Hp
 env:Env
 outer:[wK]
 stack:[wK]
 ex:[aV]
 fn:[ii,Str]
 calm:Bool
 pn:[bF]
 xe:[aT]
def dv(l:[wK]):[aV]:=l.filterMap (·.frame)
abbrev Cx.fs(X:Cx):[aV]:=dv X.outer
def q0(sc:dR)(x:Str):Prop:=[DP,x]=[wn]∨[NF,[DP,x]]
def Loc(sc:dR)(x:Str):Prop:=[DP,x]=[wn]∨[DP,x]=(Z .cell)
def Look(env:Env)(h:aE)(m:[a_])(x:Str)(u:ae):Prop:=(env.kindOf x=[wn]∧m x=Z u)∨([NF,env.kindOf x]∧∃c,env.cells.lookup x=Z c∧h.IsCell c (Z u))
structure Cx.Ok(X:Cx):Prop where
 mod:Mod X.K X.mg X.base
 kind:X.env.scope.kind=[Ce]
 glob:X.env.globals=b_
 blt:X.env.builtins=yT
 above:[OJ,X.env.locals]
 inj:∀x y c,[Aq,x]=Z c→[Aq,y]=Z c→x=y
 has:∀x,([NF,X.env.kindOf x])→∃c,[Aq,x]=Z c
 t6:∀x c,X.fn x=true→[Aq,x]=Z c→[OJ,c]
 hd:X.calm=true→X.A.handled=none
 frames:X.A.frames=Z X.stack
 wc:X.stack=X.outer∨[Eu]
 q_:∀b∈X.ex,[FM,b]∧[NE,c≠b]
 bs:[pO,[Pn],X.eV.heap.get? b=Z o∧X.m9 b=none]
 lr:X.base.objs.size≤X.eV.heap.objs.size
 t7:[pO,[Pn],b∉X.ex]
 ra:∀b∈X.ex,b∉X.fs
 jX:X.eV.heap.FunFrames X.base X.outer
 pJ:[zI,X.fs,X.m9]
structure Inv(X:Cx)(B:[bF])(w:List [dE])(H:Hp)(s:aq):Prop where
 ok:X.Ok
 os:s.os=X.eV.os
 bare:vR s.gens
 base:Un X.fs X.ex X.m9 H X.eV.heap s.heap
 loc:∃m,s.heap.Ns X.env.locals m∧∀(i:Nat)(x:Str)(v:V),(X.N[i]?=Z x→w[i]?=Z (Z v)→q0 X.env.scope x→∃u,bw v u∧Look X.env s.heap m x u)
 cell:[NE,∃v,s.heap.IsCell c v]
 free:H X.env.locals=none
 jY:[NE,H c=none]
 pin:[acu,X.pn++B]
 aH:[HZ,H,s.heap]
 len:w.length=X.N.length
section
variable{X:Cx}{pins:[bF]}{σ:List [dE]}{H H':Hp}{s:aq}{h':aE}
theorem Cx.Ok.UC(E:X.Ok){b:ab}{o:Obj}(e:[Pn]=Z o):b∉X.fs:=λ K=>by rw[88,(E.jX.mem K).1,e]
theorem Inv.bs(I:[bH]):[pO,[Pn],[LZ]∧H b=none]:=λ b o e=>⟨I.base.keep b o (I.ok.bs b o e).1 (I.ok.bs b o e).2 (I.ok.UC e) (I.ok.t7 b o e),I.base.free b o (I.ok.bs b o e).1 (I.ok.bs b o e).2 (I.ok.t7 b o e)⟩
theorem Inv.bk(I:[bH]):[pO,[Pn],[LZ]]:=λ b o e=>(I.bs b o e).1
theorem Inv.mod(I:[bH]):Mod X.K X.mg X.base:=I.ok.mod
theorem Inv.e9(I:[bH]):X.K.In s.heap:=I.ok.mod.tZ.keeps I.bk
theorem Inv.nolimit(I:[bH]):s.heap.NoLimit:=I.ok.mod.nolimit.keeps I.bk
theorem Inv.fr(I:[bH]):∃m,Fr X.base X.env.locals s.heap m:=let⟨m,hn,_⟩:=I.loc;⟨m,hn,I.bk,[ZC]⟩
theorem Inv.lt(I:[bH]):[pU,X.env.locals]:=let⟨_,hn,_⟩:=I.loc;hn.lt
theorem Inv.sz(I:[bH]):[OJ,s.heap.objs.size]:=bf I.ok.above (oa I.lt)
theorem Inv.UD(I:[bH]){a:ab}(h:[O4,a]):a∉X.fs:=λ K=>by obtain⟨_,o,E,_⟩:=I.ok.jX.mem K;rw[67,dG (bR E) (bf I.sz h)]
theorem Inv.rb(I:[bH]):[NE,[FM,c]]:=λ x c e z=>by obtain⟨v,o,E,a⟩:=I.cell x c e;obtain⟨m,⟨O,T,B,i,b,_⟩,_⟩:=I.loc;rw[z,i]at E;cases E;rw[b]at a;cases a
theorem Inv.jX(I:[bH]):[M9,X.base,X.outer]:=by
 have n:∀(l:[wK]),(∀b∈dv l,b∈X.fs)→X.eV.heap.FunFrames X.base l→[M9,X.base,l]:=by
  intro l;induction l with
   |nil=>intro _ _;trivial
   |cons env r T=>
    intro G a;obtain⟨C,⟨L,o,F,hn,E,c⟩,u⟩:=a;have d:L∈X.fs:=G L (by unfold dv;rw[12,yB,F,cq]);obtain⟨Y,e⟩:=I.base.slot L o E (I.ok.pJ L d) d λ z=>I.ok.ra L z d
    rw[1,C,⟨L,_,F,hn,e,c⟩,T (λ b K=>G b (by unfold dv;rw[12,yB,F,cp _ K])) u]
 exact n X.outer (λ _ K=>K) I.ok.jX
theorem Inv.stack(I:[bH]):[M9,X.base,X.stack]:=by rcases I.ok.wc with e|⟨e,F⟩;rw[11,e,I.jX];·rw[e];obtain⟨m,hn,_⟩:=I.loc;rw[79,.cons (by rw[I.ok.kind];decide) F hn ?_ I.jX,RO [ZC]]
theorem Inv.we(I:[bH]):∀b∈dv X.stack,[Zv]:=λ b K=>by
 rcases I.ok.wc with e|⟨e,F⟩;·rw[e]at K;exact cp _ K
 ·rw[e]at K;unfold dv at K;rw[yB,F]at K;exact K
theorem Inv.wg(I:[bH]):[zI,dv X.stack,H]:=λ b K=>by rcases[d9,I.we b K]with e|K;rw[11,e,I.free];·obtain⟨_,o,E,_⟩:=I.ok.jX.mem K;exact I.base.free b o E (I.ok.pJ b K) λ z=>I.ok.ra b z K
theorem Inv.step{g':Array GenState}{t':Nat}{d':Drawn}{ch:[aV]}(I:[bH])(C:[ZM])(keep:[ad_,b∉X.fs,[Ed]=Z o])(slot:[ad_,b∈X.fs,∃Y,[Ed]=[Pa,o]])(free:∀b o,(b∉ch→([LZ])→H b=none→H' b=none))(there:∀b o,b∉ch→[zX]=Z o→∃O,[Ed]=Z O)(dZ:[Mf,H'])(jV:∀b o u,H b=Z (.iG o u)→H' b=Z (.iG o u))(jW:∀b g,H b=Z (.je g)→∃P,H' b=Z (.je (g++P)))(h:∀m,s.heap.Ns X.env.locals m→h'.Ns X.env.locals m)(aH:[HZ,H',h'])(j:vR g'):[j4,H',[abS]]:=by
 have Q:[pO,X.eV.heap.get? b,[FM,b]]:=λ b o e=>dY [Wi]
 have M:[qV,X.eV.heap.get?,b∉X.ex,b∉ch]:=λ b o e A K=>by rw[131,(C b K).1,A z,[gh,dG (bR e) z,g8 _]]
 have G:[NE,∀v,s.heap.IsCell c v→h'.IsCell c v]:=λ x c e v⟨o,E,f⟩=>by
  have L:c∉ch:=λ z=>(C c z).2.2.1 x c e J
  by_cases V:c∈X.fs;·obtain⟨Y,q⟩:=slot c o (I.rb x c e) V L E (I.jY x c e);rw[36,q,f]
  ·rw[1,o,keep c o (I.rb x c e) V L E (I.jY x c e),f]
 refine⟨I.ok,I.os,j,⟨λ b o e n K A=>?_,λ b o e n K A=>?_,λ b o e n A=>?_,λ b o e A=>?_,λ b N e=>dZ b N (I.base.dZ b N e),λ b o N e=>jV b o N (I.base.jV b o N e),λ b g e=>?_⟩,?_,λ x c e=>?_,?_,λ x c e=>?_,[qp],aH,I.len⟩;·exact keep b o (Q b o e) K (M b o e A) (I.base.keep b o e n K A) [ZB]
 ·obtain⟨Y,e1⟩:=I.base.slot b o e n K A;obtain⟨y,e2⟩:=slot b _ (Q b o e) K (M b o e A) e1 [ZB];rw[0,y,e2]
 ·obtain⟨O,e1⟩:=[Pj,e,A];exact free b O (M b o e A) e1 [ZB]
 ·obtain⟨O,e1⟩:=[Pj,e,A];exact there b O (M b o e A) e1
 ·obtain⟨F,e1⟩:=I.base.jW b g e;obtain⟨t,e2⟩:=jW b _ e1;rw[0,F++t,by rw[e2,Array.append_assoc]]
 ·obtain⟨m,hn,a⟩:=I.loc;rw[20,m,h m hn,λ i x v e1 e2 B=>?_];obtain⟨u,r,l⟩:=a i x v e1 e2 B;rw[24,u,r];rcases l with l|⟨k,c,e,z⟩;rw[2,.inl l,[rq,k,c,e,G x c e _ z]]
 ·obtain⟨v,z⟩:=I.cell x c e;rw[0,v,G x c e v z]
 ·obtain⟨m,⟨o,_,_,E,_⟩,_⟩:=I.loc;exact free _ o (λ z=>(C _ z).2.1 J) E I.free
 ·obtain⟨v,o,E,f⟩:=I.cell x c e;exact free c o (λ z=>(C c z).2.2.1 x c e J) E (I.jY x c e)
 ·obtain⟨e,n,w,D,d⟩:=I.pin p R;have L:p.1∉ch:=λ z=>(C p.1 z).2.2.2 p R J
  rw[9,keep p.1 p.2 w D L e n,free p.1 p.2 L e n,w,D,d]
theorem Inv.un{t':Nat}(I:[bH])(u:Un X.fs [] H H' s.heap h')(aH:[HZ,H',h']):[NK,H']:=by rw[245,[al],I.step (g':=s.gens) (d':=s.drawn) (ch:=[]) (λ _ z=>nomatch z) (λ b o _ K _ e n=>u.keep b o e n K [al]) (λ b o _ K _ e n=>u.slot b o e n K [al]) (λ b o _ e n=>u.free b o e n [al]) (λ b o _ e=>u.there b o e [al]) u.dZ u.jV u.jW [acA] aH I.bare]
theorem Inv.call{g':Array GenState}{t':Nat}{d':Drawn}{ch:[aV]}(I:[bH])(u:Un (dv X.stack) ch H H' s.heap h')(aH:[HZ,H',h'])(j:vR g')(h:[ZM]):[j4,H',[abS]]:=by rw[245,λ z=>(h _ z).2.1 J,I.step (ch:=ch) h (λ b o a K V e n=>u.keep b o e n (λ z=>[d9,I.we b z].elim a K) V) (λ b o _ _ V e n=>u.any e n V) (λ b o V e n=>u.free b o e n V) (λ b o V e=>u.there b o e V) u.dZ u.jV u.jW [acA] aH j]
theorem Inv.turned{t':Nat}{f:ab}(I:[bH])(k:∀b o,b≠f→[TN,[Ed]])(hn:H f=none)(h:[FM,f])(g:f∈X.ex∨[OJ,f])(a:[NE,c≠f])(P:(∀p∈X.pn++pins,p.1≠f)):[NK,H]:=by
 have t:∀b u,H b=Z u→b≠f:=λ b u e z=>by rw[z,hn]at e;cases e
 refine I.step (g':=s.gens) (d':=s.drawn) (ch:=[f]) [Ks] [Zo,[KZ,V]] [YR,[KZ,V]] (λ _ _ _ _ n=>n) [Zk,[KZ,V]] (λ _ _ e=>e) (λ _ _ _ e=>e) (λ b d e=>⟨#[],by rw[16,e]⟩) (λ m N=>?_) (λ b u e=>?_) I.bare;·rw[45,b=f,[aB,K]];exact⟨g,h,a,P⟩
 ·obtain⟨o,T,B,E,r⟩:=N;rw[9,o,T,B,k _ o (ja h) E,r]
 ·rw[224,[OH,I.aH b u e,[Zw]]]
theorem Inv.tok(I:[bH])(t:Nat):[j4,H,[Uq,t]]:=I.un (h':=s.heap) (t':=t) Un.refl I.aH
theorem Inv.kept{t':Nat}(I:[bH])(k:∀b u,[zX]=Z u→[Ed]=Z u):[NK,H]:=I.un (Un.kept k) (I.aH.kept k)
theorem Inv.laid{a:ab}{o:HO}{t':Nat}(I:[bH])(k:∀b u,[zX]=Z u→[Ed]=Z u)(R:[O4,a])(c:[L6,H,a,o,h']):[NK,ag H a o]:=I.un (Un.laid k R [CF,R]) (I.aH.laid k R c)
theorem Inv.write{x e:ab}{o:HO}{t':Nat}(I:[bH])(m:wb (H x))(R:e=x∨H e=Z (.own x))(k:∀b u,b≠e→[zX]=Z u→[Ed]=Z u)(h:∃u,h'.get? e=Z u)(a:[L6,H,x,o,h']):[NK,ag H x o]:=I.un (Un.write m R k h) (I.aH.write m R k h a)
theorem Inv.weak{b:List [dE]}(I:[bH])(a:b.length=σ.length)(w:∀(i:Nat)v,b[i]?=Z (Z v)→σ[i]?=Z (Z v)):[Qj,X,b]:=[Yz,I.base,let⟨m,hn,C⟩:=I.loc;⟨m,hn,λ i x v e1 e2 B=>C i x v e1 (w i v e2) B⟩,I.cell,I.pin,I.aH,a.trans I.len]
theorem Inv.La{a:[bF]}(I:[bH])(h:[acu,a]):Inv X a σ H s:=[QI,I.ok,λ p R=>[d6,R].elim (λ z=>I.pin p (lP _ z)) (h p)]
theorem CI{N:[bd]}(v:N.Nodup){i j:Nat}{x:Str}(a:N[i]?=Z x)(b:N[j]?=Z x):i=j:=by obtain⟨g,e1⟩:=[J0,a];obtain⟨r,e2⟩:=[J0,b];exact(List.getElem_inj v).mp (e1.trans e2.symm)
theorem CJ{M:tF}{A:bP}{E:[aT]}{i:Nat}{x:Str}{v:V}{u:ae}{Q:[Ez]}(I:[bH])(hN:X.N.Nodup)(O:X.N[i]?=Z x)(f:[D_,Loc])(r:bw v u)(h:∀l,Inv X pins (σ.set i (Z v)) H l→(∃a,kq a s.heap l.heap∧(a=X.env.locals∨[Aq,x]=Z a))→Q () l)(hf:[Qx]:=by rw[144]):az M A (storeName X.env x u) Q E s:=by
 obtain⟨m,hn,hl⟩:=id I.loc;have W:[aX,X.env.scope.kind==.class||(X.env.scope.kind==.module&&X.env.locals !=X.env.globals)]:=[fy,I.ok.kind];have N:i<σ.length:=[ap,I.len,[d0,O]];have rb:=I.rb;have L:∀{a:ab}{h':aE},(∃o,[gX,a]=Z o∧H a=none)→kq a s.heap h'→[HZ,H,h']:=λ{a h'}ha G b ob e=>by
  obtain⟨_,_,F⟩:=ha;refine[OH,I.aH b ob e,λ c w g q=>[f8,G.2,c,?_,q]];rw[54];rcases g with rfl|g;·rw[34,F]
  ·rw[F]at g;cases g
 rcases f with C|C
 ·refine wpAny_storeName_local C hn (λ h' hn' G=>?_) W;obtain⟨oL,_,_,hoL,_⟩:=id hn;refine h _ [acV,_,hn',λ y c e=>?_,⟨oL,hoL,I.free⟩] ⟨_,G,[de]⟩;·exact[qP,G,dY [Wi],I.base.keep b o e n K f]
  ·rw[354,dY [Wi]]
  ·obtain⟨o',e1⟩:=[Pj,e,f];rw[0,o',[qP,G,dY [Wi],e1]]
  ·rw[312,qx N,.inl ⟨C,[al]⟩]
   ·rw[240];rcases q with⟨k,e⟩|⟨k,c,e,z⟩
    ·refine .inl [rp,k];have:y≠x:=λ e=>U (CI hN e1 (e▸O))
     simp[this,e]
    ·exact[rq,k,c,e,z.sameBut G (rb y c e)]
  ·obtain⟨w,z⟩:=I.cell y c e;rw[0,w,z.sameBut G (rb y c e)]
  ·obtain⟨e,n,D,nf,d⟩:=I.pin p R;rw[9,(G.2 p.1 D).trans e,n,D,nf,d]
 ·have T:(X.fn x=true):=by
   rcases hf with z|z;·exact z
   ·rw[z]at C;cases C
  obtain⟨c,g⟩:=I.ok.has x (.inl C);obtain⟨w,z⟩:=I.cell x c g;refine wpAny_storeName_cell I.ok.kind C g z (λ h' B G=>?_);obtain⟨oc,P,Y⟩:=id z;refine h [ln,h'] [acV,m,hn.sameBut G (ja (rb x c g)),λ y t e=>?_,⟨oc,P,I.jY x c g⟩] ⟨c,G,.inr g⟩;·exact[qP,G,dY [Zq],I.base.keep b o e n K f]
  ·rw[354,dY [Zq]]
  ·obtain⟨o',e1⟩:=[Pj,e,f];rw[0,o',[qP,G,dY [Zq],e1]]
  ·rw[312,qx N,[rq,.inl C,c,g,B]];·rw[240];rcases q with q|⟨k,t,e,z'⟩;rw[40,q];·refine[rq,k,t,e,z'.sameBut G ?_];rw[54];exact U (CI hN e1 (I.ok.inj _ _ _ e g▸O))
  ·by_cases S:t=c;·subst S;rw[29,B]
   ·obtain⟨w2,z2⟩:=I.cell y t e;rw[0,w2,z2.sameBut G S]
  ·obtain⟨e,n,D,nf,d⟩:=I.pin p R;rw[26,(G.2 p.1 ?_).trans e,n,D,nf,d];intro q;rw[q,P]at e;have q':oc=p.2:=[dj,e];exact d w [cm,q',Y]
theorem CN{M:tF}{A:bP}{E:[aT]}{i:Nat}{x:Str}{v:V}{u:ae}{Q:[Ez]}(I:[bH])(b:X.N.Nodup)(O:X.N[i]?=Z x)(a:[D_,Loc])(r:bw v u)(h:∀d,Inv X pins (σ.set i (Z v)) H d→Q () d)(F:[Qx]:=by rw[144]):az M A (storeName X.env x u) Q E s:=CJ I b O a r (λ d S _=>h d S) F
theorem Inv.zA{d:aq}{ch:[aV]}(I:[bH])(E:d.os=s.os)(u:Un (dv X.stack) ch H H' s.heap d.heap)(aH:[HZ,H',d.heap])(j:vR d.gens)(h:[ZM]):[j4,H',d]:=by obtain⟨h',Q,L,Y,O⟩:=d;have e:O=s.os:=E;rw[89,I.call (g':=Q) (t':=Y) (d':=L) u aH j h]
end
abbrev XK:=ae→[xP,[sB]]
abbrev St:=List [dE]
abbrev VK:=[xP,V]
abbrev TE:=St→[Ix]
abbrev TT:=[W8,Bool]
abbrev TA:=[W8,[aw]]
structure Ends where
 nx:[AW]
 rt:VK
 bk:[AW]:=λ _ _=>False
 ct:[AW]:=λ _ _=>False
abbrev TS:=Ends→[AW]
def EP(X:Cx)(B:[bF])(w:St)(Q:VK)(u:ae)(d:aq):Prop:=∃v m,[MX,w,bw v u∧Q v m]
def TP(X:Cx)(B:[bF])(w:St)(Q:[Dc,Hp])(b:Bool)(d:aq):Prop:=∃m,[MX,w,Q b m]
def AP(X:Cx)(B:[bF])(w:St)(Q:[xP,[aw]])(W:[bu])(d:aq):Prop:=∃U m,[MX,w,be U W∧Q U m]
def SP(X:Cx)(B:[bF])(D:Ends)(f:Flow)(d:aq):Prop:=match f with|.next=>[Ud,D.nx]|.brk=>[Ud,D.bk]|.cont=>[Ud,D.ct]|.ret u=>∃v a m,[MX,a,bw v u∧D.rt v m]
def PE(X:Cx)(e:bc)(t:TE):Prop:=[XM,VK,[ul,e],[Kl]]
def PT(X:Cx)(e:bc)(t:TT):Prop:=[XM,[Dc,Hp],yZ e X.env [ul,e],TP X B w Q]
def PW(X:Cx)(e:bc)(t:TT):Prop:=∀(a:Sem ae)(B:[bF])(s:aq)(w:St)(H:Hp)(Q:[Dc,Hp]),(([iw])→(t w H Q→[iZ,yZ e X.env a,TP X B w Q,s]))
theorem PW.pt{X:Cx}{e:bc}{t:TT}(h:PW X e t):PT X e t:=h _
def PA(X:Cx)(T:[ly])(t:TA):Prop:=∀(W:Pos)(B:[bF])(s:aq)(w:St)(H:Hp)(Q:[xP,[aw]]),(([iw])→(t w H Q→[iZ,spliced (g_ W [pc,T]),AP X B w Q,s]))
def PS(X:Cx)(L:a9)(t:TS):Prop:=[adS,exec]
def gi(X:Cx)(L:[y_])(t:TS):Prop:=[adS,execs]
theorem bj{m:Type}{t:Sem m}{Q I:[on,m]}{M:tF}{A:bP}{E:[aT]}{s:aq}(h:az M A t Q E s)(p:∀a s,Q a s→I a s):az M A t I E s:=gG h p λ _ _ x=>x
end L2
namespace L2
open PySem PySem.Spec PyProof.Rows
section
variable{X:Cx}
def cv(i:Nat):TE:=λ w H Q=>∃v,w[i]?=Z (Z v)∧Q v H
def tC(v:V):TE:=λ _ H Q=>Q v H
theorem UE{i:Nat}{x:Str}{W:Pos}(d:X.N[i]?=Z x)(y:[D_,q0])(b:[xO]:=by decide)(g:[aX,x==[Rm]]:=by decide):PE X [rD,W] (cv i):=by
 rw[68];obtain⟨v,e,h⟩:=h;obtain⟨m,hn,a⟩:=I.loc;obtain⟨u,r,l⟩:=a i x v d e y;have f:EP X B w Q u s:=⟨v,H,I,r,h⟩;rcases l with⟨C,N⟩|⟨C,c,V,n⟩;·exact yU (IZ I.ok.kind C hn N f) b
 ·rcases C with C|C;rw[2,yU (wpAny_loadName_cell I.ok.kind C V n f) b,yU (wpAny_loadName_free I.ok.kind C V n f g) b]
theorem bu{i j W}:[XE,.int i,.int i]:=[Uh,wpAny_Constant_int,⟨.int i,H,[rw],[pM],h⟩]
theorem md{b j W}:[XE,.bool b,.bl b]:=[Uh,Constant_bool,[jp,.bl b,H,I,h]]
theorem pL{j W}:[XE,.none,.bh]:=[Uh,Constant_none,[jp,.bh,H,I,h]]
theorem fy{x j W}:[XE,.str x,.str x]:=[Uh,Calls.Constant_str,⟨.str x,H,[rw],[pM],h⟩]
def Gl(X:Cx)(x:Str):Prop:=X.env.kindOf x=Z .globalImplicit
theorem rf{E:[aT]}{B:[bF]}{s:aq}{w:St}{H:Hp}{x:Str}{u:ae}{W:Pos}{Q:[aT]}(I:[iw])(j:Gl X x)(N:X.mg x=Z u)(h:Q u s)(a:[xO]:=by decide):[wY,X.A,[ul,[rD,W]]]:=[acb,Calls.loadGlobal_global [ap,I.ok.glob,[VR]] N h]
theorem m_{E:[aT]}{B:[bF]}{s:aq}{w:St}{H:Hp}{x:Str}{u:ae}{W:Pos}{Q:[aT]}(I:[iw])(j:Gl X x)(N:X.mg x=none)(y:vK x=Z u)(h:Q u s)(hn:x≠[Np]:=by decide)(a:[xO]:=by decide):[wY,X.A,[ul,[rD,W]]]:=by obtain⟨b,g,r⟩:=I.mod.blt;exact[acb,Calls.loadGlobal_builtin [ap,I.ok.glob,[VR]] N [ap,I.ok.blt,g.keeps I.bk] [f8,r,x,hn,y] h]
theorem b8{x:Str}{v:V}{u:ae}{W:Pos}(j:Gl X x)(N:X.mg x=Z u)(r:bw v u)(a:[xO]:=by decide):PE X [rD,W] (tC v):=λ _ _ _ H _ I h=>rf I j N ⟨v,H,I,r,h⟩ a
variable{a b:bc}{ta tb:TE}{pos:Pos}
def PC(X:Cx)(o:qO)(a b:bc)(t:TE):Prop:=[XM,VK,[ul,a],λ v L=>[iZ,[ul,b],λ u j=>[iZ,f9 o v u,[Kl],j],L]]
theorem Lb(b:bc){o:qO}(h:o≠.In)(r:o≠.NotIn):[QE]:=by rw[269]
def tB(t:TE):TT:=[De,t,∃c,x=.bl c∧Q c a]
theorem UG{o:qO}{t:TE}(h:PC X o a b t)(g:[QE]:=by first|exact Lb _ [bj] [bj]|rfl):[VA,PE,t]:=λ B s w H Q I T=>wpAny_Compare1 (h B s w H Q I T) g
theorem CO{o:qO}{t:TE}(h:PC X o a b t)(g:[QE]:=by first|exact Lb _ [bj] [bj]|rfl):[VA,PT,tB t]:=by intro B s w H Q I T;refine wpAny_isTrue_Compare1 (bj (h B s w H _ I T) λ v Y g=>bj g λ u P r=>bj r λ c C⟨x,e,i,f,n⟩=>?_) g;obtain⟨d,rfl,q⟩:=n;rw[6,f,mN ⟨e,i,q⟩]
theorem iH{e:bc}{t:TE}(h:PE X e t)(R:∀c,yZ e X.env c=(do
 let v←c;
 standAt e.pos;
 tw [v] (truthy v)):=by intro _;rfl):PT X e (tB t):=by intro B s w H Q I T;refine isTrue_plain [At,h B s w H _ I T,a,r,b,?_] (R _);obtain⟨d,rfl,q⟩:=n;rw[6,b,mN ⟨a,r,q⟩]
variable{tA tB':TT}{rest:[ly]}
def Lc(t u:TT):TT:=[rf,t,λ c a=>[or,c,u w a Q,Q false a]]
def UH(t u:TT):TT:=[rf,t,λ c a=>[or,c,Q true a,u w a Q]]
def UI(t:TT):TT:=[rf,t,λ c a=>Q (! c) a]
theorem oB(ha:PT X a tA):[CI,PW,.And,[a],tA]:=by rw[255,isTrue_and];rw[170,c,isTrue_and_nil e,e]
theorem pM(ha:PT X a tA):[CI,PW,.Or,[a],tA]:=by rw[255,isTrue_or];cases c with|false=>exact isTrue_or_nil e|true=>exact e
theorem lu(ha:PT X a tA)(K:[CI,PW,.And,b::rest,tB']):[CI,PW,.And,a::b::rest,Lc tA tB']:=by intro e B s w H Q I h;refine isTrue_and [ab5];cases c with|true=>exact K e B Y w d Q r n|false=>rw[1,d,r,n]
theorem pN(ha:PT X a tA)(K:[CI,PW,.Or,b::rest,tB']):[CI,PW,.Or,a::b::rest,UH tA tB']:=by intro e B s w H Q I h;refine isTrue_or [ab5];cases c with|true=>rw[1,d,r,n]|false=>exact K e B Y w d Q r n
theorem rg(ha:PT X a tA):PT X (.UnaryOp .Not a pos) (UI tA):=by rw[68];exact isTrue_not (ha B s w H (λ c b=>Q (! c) b) I h)
def Ld(ta tb:TE):TE:=[De,ta,∃c,x=.bl c∧[or,c,tb w a Q,Q (.bl false) a]]
def Le(ta tb:TE):TE:=[De,ta,∃c,x=.bl c∧[or,c,Q (.bl true) a,tb w a Q]]
theorem zB{o}{t:TE}(h:PE X a t):[CI,PE,o,[a],t]:=λ B s w H Q I T=>BoolOp_one (h B s w H Q I T)
theorem zC(ha:[AO])(K:[CI,PE,.And,b::rest,tb]):[CI,PE,.And,a::b::rest,Ld ta tb]:=by rw[295,BoolOp_and];cases c with|true=>exact K B Y w d Q r n|false=>rw[9,.bl false,d,r,J,n]
theorem UJ(ha:[AO])(K:[CI,PE,.Or,b::rest,tb]):[CI,PE,.Or,a::b::rest,Le ta tb]:=by rw[295,BoolOp_or];cases c with|false=>exact K B Y w d Q r n|true=>rw[9,.bl true,d,r,J,n]
def Lf(t:TT)(ta tb:TE):TE:=[rf,t,λ c a=>[or,c,ta w a Q,tb w a Q]]
theorem wh{c:bc}(V:PT X c tA)(ha:[AO])(K:[Il]):PE X (.IfExp c a b pos) (Lf tA ta tb):=by rw[58,wpAny_IfExp [ab8]];rw[170,d,ha B Y w e Q r n,K B Y w e Q r n]
end
end L2
namespace L2
open PySem PySem.Spec PyProof.Rows
def ax(K:aF)(H:Hp)(a:ab)(N:[aw]):Prop:=Rd H a (.aj N)∨∃(o:Obj)(m:[lc])(n:Nat),[jS,[nM,a]=Z o,o.cls=[Mr],o.dict=none,o.data=.seq m n,m.size≤aQ,be N m.toList]
def bM(K:aF)(H:Hp)(a:ab)(N:[aw]):Prop:=Rd H a (.tup N)∨∃(o:Obj)(m:[lc])(n:Nat),[cj,[nM,a]=Z o,o.cls=[Kc],o.data=.seq m n,m.size≤aQ,be N m.toList]
def UK:ae→[dE]|.none=>Z .bh|.bool b=>Z (.bl b)|.int i _=>Z (.int i)|.str x _=>Z (.str x)|.bytes b _=>Z (.jd b)|.float b _=>Z (.qZ b)|.ref a=>[lA]|.type n=>Z (.ty n)|_=>none
theorem bw.abs{x:V}{u:ae}(r:bw x u):UK u=Z x:=by cases x with|bh=>cases r;rfl|bl _=>cases r;rfl|int _=>rw[81];rfl|str _=>rw[81];rfl|jd _=>rw[81];rfl|qZ _=>rw[81];rfl|ref _=>cases r;rfl|ty _=>cases r;rfl
theorem bw.inj{x y:V}{u:ae}(r:bw x u)(q:bw y u):x=y:=[dj,r.abs.symm.trans q.abs]
theorem be.inj:∀{N G:[aw]}{W:[bu]},be N W→be G W→N=G|_,_,_,.nil,.nil=>J|_,_,_,.cons r t,.cons A Y=>by rw[r.inj A,be.inj t Y]
section
variable{X:Cx}{pins:[bF]}{σ:St}{H:Hp}{s:aq}{a:ab}{xs ys:[aw]}
theorem ax.of{K:aF}(h:H a=Z (.aj xs)):ax K H a xs:=.inl [lz]
theorem bM.of{K:aF}(h:H a=Z (.tup xs)):bM K H a xs:=.inl [lz]
theorem Inv.list(I:[bH])(h:ax X.K H a xs):[abH,PlainL]:=by
 rcases h with h|⟨o,m,n,C,V,b,G,M,r⟩;·obtain⟨z,m,n,r,e⟩:=h.ok I.aH;rw[21,m,r,⟨_,n,e,J,J,J⟩,z]
 ·rw[322,⟨o,n,I.e9 a o C,V,b,[aB,G]⟩]
theorem Inv.tuple(I:[bH])(h:bM X.K H a xs):[abH,IsTup]:=by
 rcases h with h|⟨o,m,n,C,V,G,M,r⟩;·obtain⟨z,m,r,p⟩:=h.ok I.aH;rw[21,m,r,p,z.1]
 ·rw[322,⟨o,I.e9 a o C,V,n,[aB,G]⟩]
theorem Inv.l8(I:[bH])(h:H a=Z (.tup xs)):l8 xs=true:=[L7,.tup xs,h].1.2
theorem Inv.rh(I:[bH])(h:ax X.K H a xs)(S:ax X.K H a ys):xs=ys:=by obtain⟨m,r,⟨o,n,e,_,_,d⟩,_⟩:=[mt,h];obtain⟨g,A,⟨O,q,f,_,_,L⟩,_⟩:=[mt,S];rw[279]
theorem Inv.UL(I:[bH])(h:bM X.K H a xs)(S:bM X.K H a ys):xs=ys:=by obtain⟨m,r,⟨o,e,_,n,d⟩,_⟩:=[wT,h];obtain⟨g,A,⟨O,f,_,q,L⟩,_⟩:=[wT,S];rw[279]
end
abbrev Cx.iu(X:Cx)(E:[aT]):Cx:={X with xe:=E}
abbrev Cx.jZ(X:Cx):Cx:=X.iu [Ay]
theorem Cx.Ok.iu{X:Cx}(a:X.Ok)(E:[aT]):(X.iu E).Ok:=⟨a.mod,a.kind,a.glob,a.blt,a.above,a.inj,a.has,a.t6,a.hd,a.frames,a.wc,a.q_,a.bs,a.lr,a.t7,a.ra,a.jX,a.pJ⟩
theorem Cx.Ok.lx{X:Cx}{E:[aT]}(a:(X.iu E).Ok):X.Ok:=⟨a.mod,a.kind,a.glob,a.blt,a.above,a.inj,a.has,a.t6,a.hd,a.frames,a.wc,a.q_,a.bs,a.lr,a.t7,a.ra,a.jX,a.pJ⟩
section
variable{X:Cx}{pins:[bF]}{σ:St}{H:Hp}{s:aq}{E:[aT]}
theorem Inv.iu(I:[bH])(E:[aT]):[Qj,X.iu E,σ]:=[QI,I.ok.iu E,I.pin]
theorem Inv.lx(I:[Qj,X.iu E,σ]):[bH]:=[QI,I.ok.lx,I.pin]
theorem SP.lx{D:Ends}{f:Flow}{d:aq}(h:SP (X.iu E) pins D f d):SP X pins D f d:=by rw[232,I.lx]
theorem gi.jZ{L:[y_]}{t:TS}(h:gi X.jZ L t):gi X L t:=λ pins s σ H D I T=>(gG (h pins s σ H D (I.iu _) T) (λ _ _ q=>q.lx) λ _ _ z=>js z)
end
section
variable{X:Cx}{st:a9}{rest:[y_]}{t u:TS}{e:bc}{te:TE}{pos:Pos}
def CP:TS:=λ D w H=>D.nx w H
def wj(t u:TS):TS:=λ D w H=>t {D with nx:=u D} w H
theorem cQ:gi X [] CP:=λ _ _ w H _ I h=>BK ⟨w,H,I,h⟩
theorem aK(g:PS X st t)(r:gi X rest u):gi X (st::rest) (wj t u):=by rw[93];refine Sw (bj (g B s w H {D with nx:=u D} I h) λ f Y q=>?_);cases f with|next=>obtain⟨a,m,S,q⟩:=q;exact r B Y a m D S q|ret v=>exact q|brk=>exact q|cont=>exact q
theorem aN(g:PS X st t):gi X [st] t:=by rw[93];refine Sw (bj (g B s w H D I h) λ f Y q=>?_);cases f with|next=>exact BK q|ret v=>exact q|brk=>exact q|cont=>exact q
theorem Inv.quiet{B:[bF]}{w:St}{H:Hp}{s:aq}(I:[iw]):[aX,interactive X.env]:=by simp[interactive,I.ok.kind]
def CQ(te:TE):TS:=[Ni,te,λ _ a=>D.nx w a]
theorem j0(R:[KB])(G:[X_,e,none]:=by rfl):PS X (.Expr e pos) (CQ te):=by rw[93];exact wpAny_Expr_any [At,R B s w H _ I h,a,r,b,⟨w,a,r,n⟩] I.quiet G
def rj(te:TE):TS:=[Ni,te,D.rt]
theorem bB(R:[KB]):PS X (.Return (Z e) pos) (rj te):=by rw[93];exact wpAny_Return_some [At,R B s w H _ I h,a,r,b,⟨x,w,a,r,b,n⟩]
def UN:TS:=λ D _ H=>D.rt .bh H
theorem Lg:PS X (.Return none pos) UN:=λ _ _ w H _ I h=>wpAny_Return_none ⟨.bh,w,H,I,J,h⟩
def zD(c:TT)(t u:TS):TS:=[Ni,c,λ b a=>[or,b,t D w a,u D w a]]
theorem cI{c:bc}{a b:[y_]}{f:TT}(V:PT X c f)(ha:gi X a t)(K:gi X b u):PS X (.If c a b pos) (zD f t u):=by rw[93];refine wpAny_If [ab8];rw[170,d,ha B Y w e D r n,K B Y w e D r n]
def UO:TS:=[Tk]
theorem Lh{R:[y_]}:gi X R UO:=λ _ _ _ _ _ _ h=>h.elim
end
abbrev TG:=V→St→[dF,Hp,[AW]]
abbrev rl:=[er,V,St→[dF,Hp,[AW]]]
def PG(X:Cx)(b:bc)(t:TG):Prop:=∀(B:[bF])(s:aq)(w:St)(H:Hp)(v:V)(u:ae)(Q:[AW]),([iw])→(bw v u→(t v w H Q→[iZ,vT b X.env u,λ _ d=>[Ud,Q],s]))
def zE(X:Cx)(n:[ly])(t:rl):Prop:=∀(B:[bF])(s:aq)(w:St)(H:Hp)(U:[aw])(W:[bu])(Q:[AW]),([iw])→(be U W→(t U w H Q→[iZ,(assignInOrder ((BV n X.env).map (·.2)) W),λ _ d=>[Ud,Q],s]))
abbrev zF:=V→V→[Ix]
def zG(X:Cx)(o:JM)(t:zF):Prop:=[adM,t,BW o v u]
section
variable{X:Cx}{pos:Pos}
def iX(i:Nat):TG:=λ v w H Q=>Q (w.set i (Z v)) H
theorem b9{i:Nat}{x:Str}(a:X.N.Nodup)(O:X.N[i]?=Z x)(A:[D_,Loc])(F:[Qx]:=by rw[144]):PG X [rD,pos] (iX i):=by intro B s w H v u Q I r h;exact Sm (CN I a O A r (λ d S=>⟨_,H,S,h⟩) F)
def Li:rl:=λ U w H Q=>U=[]∧Q w H
def CT(t:TG)(u:rl):rl:=λ U w H Q=>∃v r,U=v::r∧t v w H λ a m=>u r a m Q
theorem oC:zE X [] Li:=by rw[129];obtain⟨e,h⟩:=h;subst e;rw[6,r,assignInOrder_nil ⟨w,H,I,h⟩]
theorem gM{e:bc}{T:[ly]}{t:TG}{u:rl}(g:PG X e t)(a:zE X T u)(G:(BV (e::T) X.env).map (·.2)=vT e X.env::(BV T X.env).map (·.2):=by rfl):zE X (e::T) (CT t u):=by rw[129];obtain⟨v,d,e1,h⟩:=h;subst e1;cases r with|cons r l=>rw[13,G,assignInOrder_cons (bj (g B s w H _ _ _ I r h) λ _ Y⟨j,b,c,n⟩=>?_)];exact a B Y j b _ _ Q c l n
def Lj(K:aF)(n:Nat)(t:rl):TG:=λ v w H Q=>∃a N,v=[bi]∧bM K H a N∧N.length=n∧t N w H Q
theorem oD{f:[ly]}{k:Nat}{t:rl}{n:Nat}(V:[p_])(h:zE X f t)(hn:[b9,BV f X.env,n]:=by rfl)(p:(BV f X.env).findIdx? (·.1)=none:=by rfl):PG X (.Tuple f k pos) (Lj X.K n t):=by
 intro B s w H v u Q I r T;obtain⟨a,N,e1,D,c,T⟩:=T;subst e1;cases r;obtain⟨m,O,F,M⟩:=[wT,D];refine assign_Tuple_tuple [tW] F (by simp[hn,←c,O.length]) p λ S A=>?_
 have d:[lB,w,H,[ln,S]]:=I.kept (t':=s.toks) [DZ,A,dY (bR e),e];exact h B _ w H N _ Q d (by rw[94]) T
def t8(k:TE)(g:TG):TS:=[Ni,k,λ x a=>g x w a D.nx]
theorem bE{i:Nat}{x:Str}{e:bc}{k:TE}{U:Pos}(c:X.N.Nodup)(O:X.N[i]?=Z x)(A:[D_,Loc])(R:PE X e k)(G:[X_,e,Z [rD,U]]:=by rfl)(F:[Qx]:=by rw[144]):PS X (.Assign [[rD,U]] e pos) (t8 k (iX i)):=by intro B s w H D I h;rw[79,wpAny_Assign_Name (bj (R B s w H _ I h) λ v Y⟨y,a,r,b,n⟩=>?_) G,CN r c O A b (λ P p=>⟨_,a,p,n⟩) F]
def UP(i:Nat)(k:TE)(t:zF):TS:=λ D w H=>∃x,w[i]?=Z (Z x)∧k w H λ y a=>t x y a λ z M=>D.nx (w.set i (Z z)) M
theorem pO{i:Nat}{x:Str}{e:bc}{G:TE}{q:JM}{T:zF}{U:Pos}(o:X.N.Nodup)(O:X.N[i]?=Z x)(A:[D_,Loc])(R:PE X e G)(E:zG X q T)(F:[Qx]:=by rw[144]):PS X (.AugAssign [rD,U] q e pos) (UP i G T):=by
 intro B s a H D I h;obtain⟨v,e1,h⟩:=h;obtain⟨m,hn,b⟩:=I.loc;have W:[D_,q0]:=by rcases A with k|k;rw[46,k];exact .inr (.inl k)
 obtain⟨u,r,l⟩:=b i x v O e1 W;refine wpAny_AugAssign_Name ?_;have L:[iZ,[ul,e],λ w K=>[iZ,BW q u w,λ r P=>[iZ,storeName X.env x r,λ _=>SP X B D .next,P],K],s]:=by rw[3,bj (R B s a H _ I h) λ w Y⟨y,d,j,g,n⟩=>?_,bj (E B Y a d v y u w _ j r g n) λ z s2⟨zv,M,p,S,f⟩=>?_];exact CN p o O A S (λ s3 t=>⟨_,M,t,f⟩) F
 rcases l with⟨C,N⟩|⟨C,c,V,Q⟩;·exact IZ I.ok.kind C hn N L
 ·rcases C with C|C;·exact wpAny_loadName_cell I.ok.kind C V Q L
  ·rcases A with k|k;·have:[J5,x]=(Z .free):=C;rw[138,k]
   ·have:[J5,x]=(Z .free):=C;rw[138,k]
def UQ(f:Int→Int→Int):zF:=[YS,Q (.int (f i j)) H]
theorem CU:zG X .Add (UQ λ i j=>i+j):=by intro B s w H x y v u Q I a S h;obtain⟨i,j,e1,e2,q⟩:=h;subst e1;subst e2;obtain⟨t,rfl⟩:=a;rw[128,S,iadd_int [KI,_,J]]
end
section
variable{X:Cx}{pos:Pos}
def Lk(c:TT)(F:TS):TS:=λ D w H=>∃W:[Be],(∃m,W m w H)∧∀m w H,W m w H→c w H λ b d=>[or,b,∃N:[AW],(∀e a,N e a→∃S,S<m∧W S e a)∧F [L0,N] w d,D.nx w d]
theorem t9{c:bc}{q:[y_]}{A:TT}{F:TS}(R:PassesOwn [Ct] X.A X.env X.xe)(V:PT X c A)(K:gi X q F):PS X (.While c q [] pos) (Lk A F):=by
 rw[93];obtain⟨W,⟨x,u⟩,T⟩:=h;refine wpAny_While (codeAny_whileLoop (λ n d=>∃i m,[MX,i,W n i m]) ?_ x ⟨w,H,I,u⟩);rintro n Y⟨y,a,r,t⟩;refine vF R (bj (V B Y y a _ r (T n y a t)) λ b P⟨M,p,g⟩=>?_);cases b with
  |true=>obtain⟨N,k,g⟩:=g;rw[13,aI J,vF R (bj (K B P y M _ p g) λ f C j=>?_)];cases f with|next=>rw[303]|cont=>rw[303]|brk=>exact j|ret v=>exact j
  |false=>rw[4,aD eQ,BK ⟨y,M,p,g⟩]
end
structure It where
 go:[wz,Hp]
 j1:Nat→Hp→[xP,V]
 stop:[wz,Hp]
def iY(X:Cx)(B:[bF])(H:Hp)(b:ab):Prop:=[jS,H b=none,[FM,b],b∉X.fs,b∈X.ex∨[OJ,b],[NE,c≠b],∀p∈X.pn++B,p.1≠b]
theorem Inv.oE{X:Cx}{B:[bF]}{w:St}{H m:Hp}{s:aq}{b:ab}(I:[iw])(K:[O4,b])(hn:m b=none):iY X B m b:=by
 refine⟨hn,g9 (dG I.lt K),I.UD K,.inr (bf I.sz K),λ x c e z=>?_,λ p R z=>?_⟩;·obtain⟨v,q⟩:=I.cell x c e;rw[67,dG q.lt [ap,z,K]]
 ·rw[67,dG (bR (I.pin p R).1) [ap,z,K]]
structure Turn(P:aY)(w:aU)(K:aF)(tg:bc)(d:It)(t:[aV])(f:ab)(q:[wz,aE]):Prop where
 mem:f∈t
 obj:∀i h,q i h→∀b∈t,∃o,[JR]∧∀v,o.data≠.cell v
 keep:∀i h S,q i h→(∀b∈t,∀o,[pW]=Z o→[P0])→q i S
 item:[adF,d.go,az (aM P w) X.A (kr [dU]) (λ r Y=>∃u,r=Z u∧az (aM P w) X.A (Jn tg [dU] u) (λ _ c=>∃x m,[cj,[lB,a,m,c],bw x u,d.j1 i H x m,q (i+1) c.heap,[zI,t,m]]) E Y) E s]
 done:[adF,d.stop,az (aM P w) X.A (kr [dU]) (λ r Y=>r=none∧[lB,a,H,Y]) E s]
 self:∀(A:bP)(i:Nat)(s:aq)(Q:[aT])(E:[aT]),q i s.heap→Q [dU] s→az (aM P w) A (vU [dU]) Q E s
abbrev TI:=[W8,It]
def CV(X:Cx)(B:[bF])(w:St)(tg:bc)(R:[xP,It])(c:ae)(P:aq):Prop:=∃(f:ab)(t:[aV])(q:[wz,aE])(a:It)(m:Hp),[jS,c=[dU],[lB,w,m,P],Turn X.prog X.w X.K tg a t f q,q 0 P.heap,[Pi,X,B,m],R a m]
def PI(X:Cx)(tg iter:bc)(c:TI):Prop:=∀(B:[bF])(s:aq)(w:St)(H:Hp)(R:[xP,It]),(([iw])→(c w H R→[iZ,[ul,iter],λ v Y=>[iZ,vU v,CV X B w tg R,Y],s]))
theorem wk{M:tF}{A:bP}{E:[aT]}{s:aq}{tg:bc}{f:ab}{u:ae}{o:Obj}{n:String}{U:[lc]}{Q:[Ez]}(b:[gX,f]=Z o)(V:o.cls=.type n)(a:o.data=[vh,U])(hn:[aX,[Yf].contains n])(p:Q () s):az M A (Jn tg [dU] u) Q E s:=by unfold Jn;cases tg<;>first|exact aW p|(cases u<;>first|exact aW p|(rw[7,wpAny_load b ?_];rw[V,a];rw[25,az M A [Aa,[Yf].contains n&&U[0]?==Z (f_ _)] Q E s,aD (by intro h;rw[hn,Sq]at h;cases h),aW p]))
def mf(K:aF)(a:ab):It:=[acC,ax]
def wm(K:aF)(a:ab):It:=[acC,bM]
def t_(c:Int)(n:Nat):It:=⟨λ i _=>i<n,λ i H x m=>m=H∧x=.int (c+i),λ i _=>n≤i⟩
theorem UR{P:aY}{w:aU}{K:aF}{tg:bc}(a q:ab):[Kj,tg,mf K a,[q],q,[Pu,q,a]]where
 mem:=[al]
 obj:=[ZL,q]
 keep:=[adt]
 item:=by rw[367,[mt,D],wpAny_pyNext_list_item,p.isList,I.rh]
 done:=by rw[194];rw[275,[mt,D],wpAny_pyNext_list_end,p.isList]
 self:=λ _ _ _ _ _ L h=>wpAny_pyIter_listiter L h
theorem US{P:aY}{w:aU}{K:aF}{tg:bc}(a q:ab):[Kj,tg,wm K a,[q],q,h.IsTupleIter q a i]where
 mem:=[al]
 obj:=[ZL,q]
 keep:=[adt]
 item:=by rw[367,[wT,D],wpAny_pyNext_tuple_item,[acf],I.UL]
 done:=by rw[194];rw[275,[wT,D],wpAny_pyNext_tuple_end,[acf]]
 self:=λ _ _ _ _ _ L h=>wpAny_pyIter_tupleiter L h
theorem UT{P:aY}{w:aU}{K:aF}{tg:bc}(f:ab)(d:Int)(n:Nat):[Kj,tg,t_ d n,[f],f,IsRangeIter h f (d+(i:Nat)*1) ([cY]-(i:Nat)) 1]where
 mem:=[al]
 obj:=λ i h L b c=>by rw[45,b=f,[aB,c]];rw[36,L,λ v z=>by have D:Data.fields _=Data.cell v:=z;cases D]
 keep:=λ i h S L k=>(k f [al] _ L)
 item:=by
  rw[293];have W:=Walks.range (prog:=X.prog) (w:=X.w) [tW] f d 1 n;refine W.item i s _ _ j L λ v S G y q Q=>?_
  obtain⟨t,rfl⟩:=y;have r:[lB,a,H,[pN,S]]:=I.turned (λ b o c e=>Q b o [aB,c] e) U m p u M;rw[42,[dL,wk (s:=[pN,S]) (n:="range_iterator") q J J [bj] ⟨.int (d+i),H,r,[rp,t],[eJ,J],q,λ b c=>(F b c).1⟩],Int.mul_one]
 done:=by rw[293];exact wpAny_pyNext_range_end [tW] L (by have:n≤i:=j;omega) [Oy,λ b o c e=>eb b o c e,U,m,p,u,M]
 self:=λ _ _ _ _ _ L h=>wpAny_pyIter_rangeiter L h
end L2
namespace L2
open PySem PySem.Spec PyProof.Rows
section
variable{X:Cx}{tg:bc}
def Ll(K:aF)(tl:TE):TI:=[aeh,ax,mf]
def Lm(K:aF)(tl:TE):TI:=[aeh,bM,wm]
theorem dj{l:bc}{tl:TE}(c:PE X l tl):PI X tg l (Ll X.K tl):=by rw[263,c B s w H _ I h,r.list,wpAny_pyIter_list,p.isList,[ad5,UR]]
theorem CW{l:bc}{tl:TE}(c:PE X l tl):PI X tg l (Lm X.K tl):=by rw[263,c B s w H _ I h,r.tuple,wpAny_pyIter_tuple,show Y.heap.IsTuple a m.toArray from p,[ad5,US]]
theorem UU{B:[bF]}{w:St}{H:Hp}{s:aq}{R:[xP,It]}{E:[aT]}{d O:Int}{t u v:Tok}{G:Nat}(I:[iw])(g:-(2^62)≤d)(r:d<2^62)(P:-(2^62)≤O)(a:O<2^62)(q:R (t_ d (O-d).toNat) H):az [Ct] X.A (vU [pQ]) (CV X B w tg R) E [pN,[Ux]]:=by
 refine wpAny_pyIter_range (IsRange.new ..) (small_one g r P a) ?_;have c:[lB,w,H,[pN,[Ux]]]:=I.kept [FD,e];refine⟨[Ux].objs.size,[[Ux].objs.size],_,_,H,J,c.kept (t':=G) λ b o e=>cG _ e,UT _ d (O-d).toNat,?_,λ b K=>?_,q⟩
 ·have e1:d+[aN,0]*1=d:=[al];have e2:[aN,(O-d).toNat]-[aN,0]=Builtin.Range.rangeSize d O 1:=by rw[rangeSize_one];split<;>omega
  show IsRangeIter _ _ (d+[aN,0]*1) ([aN,(O-d).toNat]-[aN,0]) 1;rw[12,e1,e2,[pu]]
 ·rw[45,b=[Ux].objs.size,[aB,K]];exact c.oE (ba _) (c.aH.fresh (ba _))
def UW(T:TA):TI:=[Pg,T,λ U a=>∃i j:Int,U=[.int i,.int j]∧(-(2^62)≤i∧i<2^62∧-(2^62)≤j∧j<2^62)∧R (t_ i (j-i).toNat) a]
theorem Ln{a b:bc}{T:TA}{p m:Pos}(f:Gl X "range")(N:X.mg "range"=none)(ha:PA X [a,b] T)(G:[pc,[a,b]]=[[wC,a],[wC,b]]:=by rfl)(x:[pc,[b]]=[[wC,b]]:=by rfl):PI X tg (.Call (.Name "range" p) [a,b] [] m) (UW T):=by rw[122,Call_ (m_ I f N boot_range (vp [O6,[Lb,m],c,k,g,n,?_] (by rw[G,x]) [fy,x]))];obtain⟨i,j,e,⟨n,d,o,u⟩,q⟩:=n;subst e;cases g with|cons r v=>cases v with|cons A v=>cases v;rw[81];obtain⟨l,rfl⟩:=A;exact call_range_2 (UU k n d o u q)
def Lo(f:TI)(g:TG)(F:TS):TS:=[Ni,f,λ e b=>∃W:Nat→[Be],(∃m,W 0 m w b)∧∀i m w H,W i m w H→(e.stop i H∧D.nx w H)∨(e.go i H∧∃N:[AW],(∀c a,[Mj,c,a])∧∀x a,e.j1 i H x a→g x w a λ d M=>F [L0,N] d M)]
def ub(t:[aV])(h:aE):[bF]:=t.filterMap λ b=>[pW].map λ o=>(b,o)
theorem zH{t:[aV]}{h:aE}{b:ab}{o:Obj}(K:b∈t)(e:[JR]):(b,o)∈ub t h:=[Y2,b,K,[fy,e]]
theorem UX{t:[aV]}{h:aE}{p:(ab×Obj)}(R:p∈ub t h):p.1∈t∧h.get? p.1=Z p.2:=by obtain⟨b,K,e⟩:=[V7,R];cases q:[pW]with|none=>rw[34,q]|some o=>rw[q]at e;have f:(b,o)=p:=[dj,e];subst f;rw[0,K,q]
theorem Inv.pinned{B:[bF]}{w:St}{H:Hp}{s:aq}{t:[aV]}(I:[iw])(F:[Pi,X,B,H])(E:∀b∈t,∃o,[LZ]∧∀v,o.data≠.cell v):Inv X (B++ub t s.heap) w H s:=I.La λ p R=>[d6,R].elim (λ z=>I.pin p (iQ _ z)) λ z=>by obtain⟨K,e⟩:=UX z;obtain⟨U,n,A,_⟩:=F p.1 K;obtain⟨o,f,d⟩:=E p.1 K;rw[e]at f;rw[6,f,⟨e,U,n,A,d⟩]
theorem Inv.wo{pins d:[bF]}{w:St}{H:Hp}{s:aq}(I:Inv X (pins++d) w H s):[Qj,X,w]:=I.La λ p R=>I.pin p (iQ _ (lP _ R))
theorem eJ{iter:bc}{l:[y_]}{wi:TI}{g:TG}{tb:TS}{j:Pos}(R:PassesOwn [Ct] X.A X.env X.xe)(hc:[p_])(hi:[Nk,wi])(hg:PG X tg g)(K:gi X l tb)(hs:[Mn]:=by intro _;rfl):PS X (.For tg iter l [] j) (Lo wi g tb):=by
 intro B s σ H D I h;refine wpAny_For (bj (hi B s σ H _ I h) λ v s1 h1=>bj h1 λ itv s2 h2=>?_) hs;obtain⟨it,t,tn,J,H2,e,I2,T,y,f2,W,⟨m0,w0⟩,q⟩:=h2;subst e;have z:∀{a:Hp},([zI,t,a])→[Pi,X,B,a]:=λ hn b K=>[wJ,hn b K,f2 b K]
 refine codeAny_forLoop_any (λ n s'=>∃i k a,[lB,k,a,s']∧tn i s'.heap∧[zI,t,a]∧W i n k a) ?_ m0 ⟨0,σ,H2,I2,y,λ b K=>(f2 b K).1,w0⟩;rintro n s3⟨i,A,L,I3,Q,S,w3⟩;rcases q i n A L w3 with⟨P,qn⟩|⟨go,N,hN,E⟩;·refine vF R (bj (T.done X rfl rfl rfl hc i B s3 A L X.xe I3 (z S) Q P) λ r s4⟨c,I4⟩=>?_);subst c;exact BK ⟨A,L,I4,qn⟩
 ·refine vF R (bj (T.item X rfl rfl rfl hc i B s3 A L X.xe I3 (z S) Q go) λ r s4⟨u,c,h4⟩=>?_);subst c;refine vF R (bj h4 λ _ s5⟨x,H5,I5,r5,y5,G,V⟩=>?_);have Y:=I5.pinned (z V) (T.obj _ _ G);rw[3,vF R (bj (hg _ s5 A H5 x u _ Y r5 (E x H5 y5)) λ _ s6⟨σ6,H6,I6,q6⟩=>?_),vF R (bj (K _ s6 σ6 H6 _ I6 q6) λ f F C=>?_)];have U:∀{w:St}{O:Hp},Inv X (B++ub t s5.heap) w O F→N w O→∃m,m<n∧∃i k a,[lB,k,a,F]∧tn i F.heap∧[zI,t,a]∧W i m k a:=λ{w O}p M=>by obtain⟨m',hm,w7⟩:=hN w O M;refine⟨m',hm,i+1,w,O,p.wo,T.keep _ _ _ G λ b K o e=>(p.pin (b,o) (iQ _ (iQ _ (zH K e)))).1,[Ks],w7⟩;obtain⟨o,e,d⟩:=T.obj _ _ G b K;exact(p.pin (b,o) (iQ _ (iQ _ (zH K e)))).2.1
  cases f with|next=>obtain⟨w,O,p,M⟩:=C;exact U p M|cont=>obtain⟨w,O,p,M⟩:=C;exact U p M|brk=>obtain⟨w,O,p,C⟩:=C;rw[21,w,O,p.wo,C]|ret v=>obtain⟨x7,w,O,p,r7,C⟩:=C;rw[37,x7,w,O,p.wo,r7,C]
end
theorem iZ{K:aF}{a:ab}{xs:[aw]}{g:TG}{F:TS}{D:Ends}{w:St}{H:Hp}(P:[Be])(I:P 0 w H)(X:[YH])(G:∀i x w H,xs[i]?=Z x→P i w H→g x w H [NJ,F,P (i+1)])(c:[XJ]):[adN,mf K a]:=by rw[332,[Za],G i x w _ (y xs q) p,[WP]]
theorem CY{K:aF}{a:ab}{xs:[aw]}{g:TG}{tb:TS}{D:Ends}{σ:St}{H:Hp}(P:[Be])(I:P 0 σ H)(X:∀i σ H,i≤xs.length→P i σ H→bM K H a xs)(G:∀i x σ H,xs[i]?=Z x→P i σ H→g x σ H [NJ,tb,P (i+1)])(c:∀σ H,P xs.length σ H→D.nx σ H):∃W:Nat→[Be],(∃m,W 0 m σ H)∧∀i m σ H,W i m σ H→((wm K a).stop i H∧D.nx σ H)∨((wm K a).go i H∧∃N:[AW],(∀d b,[Mj,d,b])∧∀x b,(wm K a).j1 i H x b→g x σ b [NJ,tb,N]):=by rw[24,λ i m σ H=>m=xs.length-i∧i≤xs.length∧P i σ H,⟨xs.length,[al],b7 _,I⟩];rintro i m σ H⟨rfl,O,p⟩;rw[230,X i σ H O p,[Za],λ d b E=>[T_],λ x b y=>?_,G i x σ _ (y xs q) p,[WP],c σ H p]
theorem Lp{d:Int}{n:Nat}{g:TG}{F:TS}{D:Ends}{w:St}{H:Hp}(P:[Be])(I:P 0 w H)(G:∀i w H,i<n→P i w H→g (.int (d+i)) w H [NJ,F,P (i+1)])(b:[YE,n]):[TM,t_ d n,∀c a,[Mj,c,a],∀x a,(t_ d n).j1 i H x a→g x w a [NJ,F,N]]:=by
 rw[137,n];by_cases s:i<n;·refine[rq,s,P (i+1),λ c a E=>[QN,n],λ x a y=>?_];obtain⟨e,y⟩:=y;subst e y;exact G i w _ s p
 ·have e:i=n:=[ac];rw[145,ba _,b]
theorem CZ{c:TT}{F:TS}{D:Ends}{w:St}{H:Hp}(P:[AW])(g:St→Hp→Nat)(I:P w H)(G:∀w H,P w H→c w H λ b d=>[or,b,F [L0,λ e a=>P e a∧g e a<g w H] w d,D.nx w d])(o:∀w H Q f,(∀b d,Q b d→f b d)→c w H Q→c w H f):Lk c F D w H:=by rw[24,λ m w H=>m=g w H∧P w H,[dL,I]];rintro m w H⟨rfl,p⟩;refine o w H _ _ (λ b d q=>?_) (G w H p);cases b with|true=>rw[36,λ e a⟨E,l⟩=>[ff,_,l,E],q]|false=>exact q
end L2
namespace L2
open PySem PySem.Spec PyProof.Rows
abbrev R2:=V→V→[Ix]
def dz(X:Cx)(f:ae→ae→Sem ae)(r:R2):Prop:=[adM,r,f v u]
def C0(X:Cx)(f:ae→Sem ae)(r:V→[Ix]):Prop:=[adW,VK,f,[Kl]]
def gP(X:Cx)(f:ae)(r:[C9]):Prop:=∀(B:[bF])(s:aq)(w:St)(H:Hp)(N:[aw])(W:[bu])(Q:VK),([iw])→(be N W→(r N H Q→[iZ,call f W,[Kl],s]))
def UY(X:Cx)(r:V→[dF,Hp,[Dc,Hp]]):Prop:=[adW,[Dc,Hp],truthy,TP X B w Q]
def h9(r:R2)(T F:TE):TE:=[De,T,F w a λ y M=>r x y M Q]
def C1(r:V→[Ix])(T:TE):TE:=[De,T,r x a Q]
def rI(C:[dF,Int,Int])(g:Int→Int→V):R2:=[YS,C i j∧Q (g i j) H]
def jx(g:Int→Int→V):R2:=[YS,Q (g i j) H]
def rU(g:Int→V):V→[Ix]:=λ x H Q=>∃i,x=.int i∧Q (g i) H
section
variable{X:Cx}{a b c:bc}{ta tb tc:TE}{pos:Pos}
theorem zI(ha:[AO])(K:[Il]){B:[bF]}{s:aq}{w:St}{H:Hp}{R:V→[xP,V]}(I:[iw])(h:ta w H λ x c=>tb w c λ y M=>R x y M){Q:[aT]}{f:ae→ae→Sem ae}(F:∀v u P x y M,[cI,[lB,w,M,P],bw x v,bw y u,R x y M,[iZ,f v u,Q,P]]):[iZ,[ul,a],λ v L=>[iZ,[ul,b],λ u j=>[iZ,f v u,Q,j],L],s]:=by rw[3,[At,ha B s w H _ I h,c,r,e,?_],[Ri,K B Y w c _ r n,d,?_]];exact F v u P x y M p e S d
theorem cj{o:JM}{r:R2}(E:dz X (qL o) r)(ha:[AO])(K:[Il]):PE X (.BinOp a o b pos) (h9 r ta tb):=by rw[68];exact wpAny_BinOp [U9,E B P w M x y v u Q p L A q]
theorem ro{o:UnaryOp}{r:V→[Ix]}(E:C0 X (unaryOp o) r)(ha:[AO]):PE X (.UnaryOp o a pos) (C1 r ta):=by rw[68];exact UnaryOp_ [At,ha B s w H _ I h,b,d,c,E B Y w b x v Q d c n]
theorem UZ{o:JM}{r:R2}(E:dz X (BW o) r){B:[bF]}{s:aq}{w:St}{H:Hp}{x y:V}{v u:ae}{Q:VK}(I:[iw])(L:bw x v)(A:bw y u)(q:r x y H Q):[QD,BW o v u]:=E B s w H x y v u Q I L A q
theorem C2{f:ae→ae→Sem ae}{C:[dF,Int,Int]}{g:Int→Int→Int}(e:[aaw,C i j→[aaA,g i j,f (.int i t) (.int j u)]]):dz X f (rI C [B_,g i j]):=by rw[96];obtain⟨i,j,rfl,rfl,V,q⟩:=h;rw[41];rw[128,A,e i j t Y s _ _ V [KI,g i j,J]]
theorem wq{f:ae→ae→Sem ae}{g:Int→Int→Int}(e:[aaw,[aaA,g i j,f (.int i t) (.int j u)]]):(dz X f (jx [B_,g i j])):=by rw[352,[KI,g i j,J]]
theorem zJ{f:ae→ae→Sem ae}{g:Int→[ii,Int]}(e:[aaw,Q (.bool (g i j)) s→[wY,X.A,f (.int i t) (.int j u)]]):dz X f (jx λ i j=>.bl (g i j)):=by rw[352,[jp,.bl (g i j),H,I,q]]
def U0(i j:Int):Prop:=0≤j∧j≤1000000∧i.natAbs<2^64
def C3(i j:Int):Prop:=(-(2^64)<i∧i<2^64)∨(-(2^64)<j∧j<2^64)
theorem C3.ok{i j:Int}(h:C3 i j):IntMulOk i j:=by rcases h with⟨g,r⟩|⟨g,r⟩;rw[2,.of_left (intBits_le_64 g r),.of_right (intBits_le_64 g r)]
theorem U1(k:Nat):[ar,0]≤2^k:=[ap,two_pow_cast,Int.natCast_nonneg _]
theorem gj:(dz X (qL .Add) (jx [B_,i+j])):=wq [FA,add_int]
theorem ly:(dz X (qL .Sub) (jx [B_,i-j])):=wq [FA,sub_int]
theorem zK:dz X (qL .Mult) (rI C3 [B_,i*j]):=C2 λ _ _ _ _ _ _ _ V q=>mul_int q V.ok
theorem Lq:dz X (qL .LShift) (rI U0 [B_,i*2^j.toNat]):=C2 λ _ _ _ _ _ _ _ V q=>lshift_int_small V.1 V.2.1 V.2.2 q
theorem U2:dz X (qL .RShift) (rI (λ _ j=>0≤j) [B_,i/2^j.toNat]):=C2 λ i j _ _ _ _ _ V q=>rshift_int V [ap,Int.fdiv_eq_ediv_of_nonneg i (U1 _),q]
theorem lz:(dz X (qL .BitAnd) (jx [B_,dQ i j])):=wq [FA,and_int]
theorem U3:(dz X (qL .BitOr) (jx [B_,pk i j])):=wq [FA,or_int]
theorem U4:(dz X (BW .BitOr) (jx [B_,pk i j])):=wq [FA,ior_int]
theorem U5{f:ae→Sem ae}{g:Int→Int}(e:∀(i:Int)(t:Tok)(s:aq)(Q:[aT])(E:[aT]),[aaA,g i,f (.int i t)]):C0 X f (rU λ i=>.int (g i)):=by intro B s w H x v Q I L h;obtain⟨i,rfl,q⟩:=h;rw[41];exact e i t s _ _ [KI,g i,J]
theorem rp:C0 X (unaryOp .USub) (rU λ i=>.int (-i)):=U5 λ _ _ _ _ _ q=>neg_int q
end
def C4:V→[ii,V]|.bh,.bh=>true|.bh,.int _=>true|.int _,.bh=>true|.bh,.bl _=>true|.bl _,.bh=>true|.bh,.str _=>true|.str _,.bh=>true|.int _,.int _=>true|.bl _,.bl _=>true|.str _,.str _=>true|.jd _,.jd _=>true|.int _,.str _=>true|.str _,.int _=>true|.bl _,.str _=>true|.str _,.bl _=>true|_,_=>false
def Lr:R2:=λ x y H Q=>[jb,C4 x y,Q [Ey,x=y] H]
def U6:R2:=λ x y H Q=>[jb,C4 x y,Q (.bl [uh,x=y]) H]
theorem mh{i j:Int}:([aK,(V.int i)=(V.int j)]=(i==j)):=by rw[16,dH]
theorem Lu{i j:Bool}:([aK,V.bl i=V.bl j]=(i==j)):=by rw[16,dH]
theorem Lv{i j:Str}:([aK,[KR,i,j]]=(i==j)):=by rw[16,dH]
theorem Lw{i j:Array UInt8}:([aK,V.jd i=V.jd j]=(i.toList==j.toList)):=by rw[dH];rw[61,i,j];simp
section
variable{X:Cx}{a b c:bc}{ta tb tc:TE}{pos:Pos}
theorem dS{B:[bF]}{w:St}{H:Hp}{s:aq}{Q:VK}{k d:Bool}(I:[iw])(q:Q (.bl k) H)(e:k=d):EP X B w Q (.bool d) s:=by subst e;rw[9,.bl k,H,I,J,q]
theorem e_:dz X (f9 .Eq) Lr:=by
 rw[96];obtain⟨G,q⟩:=h;cases x with
  |bh=>cases L;rw[166,PySem.EqNone.eq_none_none,PySem.EqNone.eq_none_bool,PySem.EqNone.eq_none_int,PySem.EqNone.eq_none_str,[al]]
  |bl i=>rw[344,PySem.EqNone.eq_bool_none,eq_bool,Lu,PySem.EqMixed.eq_bool_str]
  |int i=>rw[348,PySem.EqNone.eq_int_none,eq_int,mh,PySem.EqMixed.eq_int_str]
  |str i=>rw[41];rw[166,PySem.EqNone.eq_str_none,PySem.EqMixed.eq_str_bool,PySem.EqMixed.eq_str_int,eq_str,Lv]
  |jd i=>rw[41];cases y with|jd j=>rw[98,PySem.W.eq_bytes,Lw]|_=>rw[127,G]
  |_=>cases y<;>exact[aai,G]
theorem rq:dz X (f9 .NotEq) U6:=by
 rw[96];obtain⟨G,q⟩:=h;cases x with
  |bh=>cases L;rw[166,PySem.EqNone.ne_none_none,PySem.EqNone.ne_none_bool,PySem.EqNone.ne_none_int,PySem.EqNone.ne_none_str,[al]]
  |bl i=>rw[344,PySem.EqNone.ne_bool_none,ne_bool,ed not Lu,PySem.EqMixed.ne_bool_str]
  |int i=>rw[348,PySem.EqNone.ne_int_none,ne_int,ed not mh,PySem.EqMixed.ne_int_str]
  |str i=>rw[41];rw[166,PySem.EqNone.ne_str_none,PySem.EqMixed.ne_str_bool,PySem.EqMixed.ne_str_int,ne_str,ed not Lv]
  |jd i=>rw[41];cases y with|jd j=>rw[98,PySem.W.ne_bytes,ed not Lw]|_=>rw[127,G]
  |_=>cases y<;>exact[aai,G]
theorem C5:dz X (f9 .Lt) (jx λ i j=>[Ey,i<j]):=zJ [FA,lt_int]
theorem iI:dz X (f9 .LtE) (jx λ i j=>.bl [pL,i,j]):=zJ [FA,le_int]
theorem zL:dz X (f9 .Gt) (jx λ i j=>[Ey,j<i]):=zJ [FA,gt_int]
theorem zM:dz X (f9 .GtE) (jx λ i j=>.bl [pL,j,i]):=zJ [FA,ge_int]
theorem C6:dz X (f9 .Is) (λ x y H Q=>y=.bh∧Q [Ey,x=.bh] H):=by rw[285,is_none_gen]
theorem U7:dz X (f9 .IsNot) (λ x y H Q=>y=.bh∧Q (.bl [uh,x=.bh]) H):=by rw[285,isnot_none_gen]
theorem ck(b:bc){o:qO}(h:o≠.In:=by decide)(r:o≠.NotIn:=by decide):[QE]:=by rw[269]
theorem lA{o:qO}{r:R2}(E:dz X (f9 o) r)(ha:[AO])(K:[Il])(N:[QE]):[VA,PE,h9 r ta tb]:=by rw[68];exact wpAny_Compare1 [U9,E B P w M x y v u Q p L A q] N
def uc(t:TE):TT:=[rf,t,λ x m=>∃k,x=.bl k∧Q k m]
theorem cm{o:qO}{r:R2}(E:dz X (f9 o) r)(ha:[AO])(K:[Il])(N:[QE]):[VA,PT,uc (h9 r ta tb)]:=by rw[68];refine wpAny_isTrue_Compare1 [At,ha B s w H _ I h,d,i,g,[Ri,K B Y w d _ i n,f,bj (E B P w M x y v u _ p g S f) λ c C⟨z,L,l,m,k,e,j⟩=>?_]] N;subst e;rw[6,m,mN ⟨L,l,j⟩]
def Lx(r A:R2)(ta tb tc:TE):TE:=[De,ta,tb w a λ y M=>r x y M λ z L=>∃k,z=.bl k∧[or,k,tc w L λ m R=>A y m R Q,Q (.bl false) L]]
theorem U8{o W:qO}{r A:R2}(E:dz X (f9 o) r)(U:dz X (f9 W) A)(ha:[AO])(K:[Il])(V:PE X c tc)(N:[aX,lastMarks [o,W] [b,c]]:=by with_unfolding_all rfl):PE X (.Compare a [o,W] [b,c] pos) (Lx r A ta tb tc):=by rw[58,Compare_chain [At,ha B s w H _ I h,f,j,i,chain_link [Ri,K B Y w f _ j n,g,bj (E B P w M x y v u _ p i S g) λ d C⟨z,L,q,D,k,e,l⟩=>?_]] N];subst e;cases D;refine mN ?_;cases k with|false=>exact ite_ff [jp,.bl false,L,q,l]|true=>exact ite_tt (chain_last (bj (V B C w L _ q l) λ t m⟨T,R,O,G,F⟩=>U B m w R y T u t Q O S G F))
theorem zN{t U:qO}{r A:R2}(E:dz X (f9 t) r)(T:dz X (f9 U) A)(ha:[AO])(K:[Il])(V:PE X c tc)(N:[aX,lastMarks [t,U] [b,c]]:=by with_unfolding_all rfl):PT X (.Compare a [t,U] [b,c] pos) (uc (Lx r A ta tb tc)):=by rw[58,isTrue_chain [At,ha B s w H _ I h,f,l,j,test_link [Ri,K B Y w f _ l n,i,bj (E B P w M x y v u _ p j S i) λ d C⟨z,L,D,G,k,e,o⟩=>?_]] N];subst e;cases G;refine mN ?_;cases k with|false=>obtain⟨k',g,W⟩:=o;rw[6,g,ite_ff ⟨L,D,W⟩]|true=>refine ite_tt (test_last (bj (V B C w L _ D o) λ F q⟨z',R,I4,r4,O⟩=>bj (T B q w R y z' u F _ I4 S r4 O) λ d' s5⟨z2,m,I5,r5,k2,e2,q5⟩=>?_));subst e2;rw[6,r5,mN ⟨m,I5,q5⟩]
def C7(K:aF)(x:V)(H:Hp)(k:Bool):Prop:=match x with|.bh=>[aX,k]|.bl b=>k=b|.int i=>k=(i !=0)|.str y=>y.length≤aQ∧k=([ar,y.length]!=0)|.jd y=>y.size≤aQ∧k=([ar,y.size]!=0)|.ref p=>[acW,K]|_=>False
theorem U9{c:Type}{Y:List (c×V)}{U:List (c×ae)}(r:KV Y U):(! U.isEmpty)=! Y.isEmpty:=by cases r<;>rfl
theorem Ly{N:[aw]}{m:[bu]}(r:be N m):(! m.toArray.isEmpty)=! N.isEmpty:=by cases r<;>simp
theorem zO:(aQ:Nat)<2^63:=by rw[yR];decide
theorem U_:UY X (λ x H Q=>∃k,C7 X.K x H k∧Q k H):=by
 intro B s w H x v Q I L h;obtain⟨k,e,q⟩:=h;have a:=zO;have G:aQ=16777216:=yR;cases x with
  |bh=>cases L;rw[197,false,truthy_none]
  |bl b=>cases L;rw[197,b,mN]
  |int i=>rw[41];rw[197,i !=0,PySem.P.truthy_int]
  |str y=>rw[41];obtain⟨c,f⟩:y.length≤aQ∧k=([ar,y.length]!=0):=e;subst f;exact PySem.P.truthy_str [ac] ⟨H,[rw],q⟩
  |jd y=>rw[41];obtain⟨c,f⟩:y.size≤aQ∧k=([ar,y.size]!=0):=e;subst f;exact PySem.W.truthy_bytes [ac] ⟨H,[rw],q⟩
  |ref p=>
   cases L;have f:[acW,X.K]:=e;rcases f with⟨N,A,f⟩|⟨N,A,f⟩|⟨Y,A,f⟩;·rw[297,[mt,A],wpAny_truthy_list,g.isList]
   ·rw[297,[wT,A],truthy_tuple,g]
   ·subst f;obtain⟨M,j,U,r,m⟩:[LQ,[Cr,p]∧∃U,KV Y U∧s.heap.DictOf (m7 X.prog X.w) p U]:=I.aH p _ A;have K:Y.length=U.length:=[CJ,r];exact wpAny_truthy_dict j m [ac] ⟨H,[rw],[ap,U9 r,q]⟩
  |_=>rw[99,e]
theorem C8(ha:[AO])(R:∀d,yZ a X.env d=(do
 let v←d;
 standAt a.pos;
 tw [v] (truthy v))):PT X a [rf,ta,λ x m=>∃k,C7 X.K x m k∧Q k m]:=by rw[68];exact isTrue_plain [At,ha B s w H _ I h,b,r,c,U_ B Y w b x v Q r c n] (R _)
def Va(b:bc):Prop:=[ab2]
theorem zP(ha:[AO])(K:[Il])(G:Va b):PE X [Cd,a,b,pos] (h9 (λ x y H Q=>∃z i c,[lk,x=.str z,y=.int i,0≤i,i<2^63,i<z.length,z.cps[i.toNat]?=Z c,Q [EH] H]) ta tb):=by rw[58,JD [U9,?_]];obtain⟨z,i,c,rfl,rfl,d,f,g,V,q⟩:=q;rw[41];obtain⟨Y,rfl⟩:=A;have e:JI i z.length=Z i.toNat:=PySem.StrLaws.seqIndex_nonneg d g;exact tail_any (tp P z t) slot_str_getitem.lookup (getItem_str (c:=c) (by rw[70,[Oa,i< -[ar,2^63]],[lu],[Oa,i≥2^63],[lu]];rw[e1,e2]<;>rfl) [ap,e,V] ⟨[EH],M,p.tok _,[pM],q⟩) (G _ _)
theorem vals1{x:V}{W:[bu]}(r:be [x] W):∃u,W=[u]∧bw x u:=by cases r with|cons a S=>cases S;rw[36,J,a]
theorem vals2{x y:V}{W:[bu]}(r:be [x,y] W):∃u m,W=[u,m]∧bw x u∧bw y m:=by cases r with|cons a S=>cases S with|cons d j=>rw[6,j,[hJ,_,_,a,d]]
theorem Vb(V:[p_]):[ac1,"max",j>i]:=by rw[264,max_two_ints,I.kept k,j>i]
theorem C9(V:[p_]):[ac1,"min",j<i]:=by rw[264,min_two_ints,I.kept k,j<i]
theorem Vc:gP X (.type "str") (λ N H Q=>∃i,N=[.int i]∧i.natAbs.log2<1920∧[LS,toString i]):=by rw[125];obtain⟨i,rfl,M,q⟩:=h;obtain⟨u,rfl,t,rfl⟩:=vals1 r;exact PySem.P.str_of_int M ⟨.str _,H,[rw],[pM],q⟩
theorem Vd:[OF,"ord",∃x,N=[.str x]∧x.length=1∧Q (.int (x.cps.getD 0 0:Nat)) H]:=by rw[125];obtain⟨x,rfl,M,q⟩:=h;obtain⟨u,rfl,t,rfl⟩:=vals1 r;exact ord_of_one M [KI,_,J]
def Lz(K:aF)(x:V)(H:Hp)(n:Nat):Prop:=match x with|.str y=>y.length≤aQ∧n=y.length|.jd y=>y.size≤aQ∧n=y.size|.ref p=>[abC,K]|_=>False
theorem gv:[add,X.K]:=by
 rw[125];obtain⟨x,n,rfl,e,q⟩:=h;rw[162];have a:=zO;have G:aQ=16777216:=yR;cases x with
  |str y=>rw[41];obtain⟨b,f⟩:y.length≤aQ∧n=y.length:=e;subst f;exact len_str [ac] [KI,_,J]
  |jd y=>rw[41];obtain⟨b,f⟩:y.size≤aQ∧n=y.size:=e;subst f;exact PySem.W.len_bytes [ac] [KI,_,J]
  |ref p=>
   cases L;have f:[abC,X.K]:=e;rcases f with⟨N,A,f⟩|⟨N,A,f⟩;·rw[342,[mt,A],Calls.call_len_list,d.isList]
   ·rw[342,[wT,A],len_tuple,d]
  |_=>rw[99,e]
end
end L2
namespace L2
open PySem PySem.Spec PyProof.Rows
structure rr(h:aE)(x W C:ab)(s:[a_]):Prop where
 obj:h.get? x=Z (sW C W)
 ns:h.Ns1 W s
 ne:W≠x
theorem Ve{h:aE}{W:ab}{s:[a_]}(n:h.Ns1 W s):∃g,h.get? W=Z g∧∀L,Jg L g=Z (s L):=by
 obtain⟨o,T,B,E,b,C,_,N⟩:=n;rw[20,o,E,λ L=>?_];have e:=N L;unfold nsFind findBy at e;rw[←Array.find?_toList]at e;unfold Jg;rw[b];dsimp only;split;·rename_i y q;rw[75,q,ed Z e]
 ·rename_i q;rw[q]at e;have a:[aX,T.toList.any (·.refKey)]:=by rw[Ja];intro y c;obtain⟨z,t,I⟩:=C y (Array.mem_toList_iff.mp c);simp[DictEntry.refKey,I]
  have V:¬T.toList.any (·.refKey)=true:=[ap,a,eQ];rw[4,aD V,ed Z e]
theorem rr.look{h:aE}{x W C:ab}{s:[a_]}(I:rr h x W C s):∃g,PySem.W.InstAt h x (sW C W) C (Z g)∧∀L,Jg L g=Z (s L):=let⟨g,E,X⟩:=Ve I.ns;⟨g,[ff,I.obj,J,E],X⟩
section
variable{prog:aY}{w:aU}{A:bP}{E:[aT]}{s:aq}{K:aF}{x dx C f:ab}{mA:[a_]}{name:Str}{v:ae}
theorem get_map{r:Bool}{Q:[aT]}(X:[TJ])(I:rr s.heap x dx C mA)(j:mO K C name=true)(W:[Dl])(ha:[ib,name])(y:mA name=Z v)(c:PySem.W.handedIn v=true)(h:Q v [As,1]):[fQ,getAttr (.ref x) name r]:=by obtain⟨g,b,a⟩:=I.look;exact PySem.W.get_value X b (RL j).1 (PySem.W.findObj_own W ha J (by rw[a,y])) c h
theorem Vf{d:Sem Bool}{Q:[on,ae×[bu]]}(X:[TJ])(I:rr s.heap x dx C mA)(j:mO K C name=true)(F:(cN K [gv] name)=Z (Z [dU]))(b:BM K [dU]=true)(y:mA name=none)(h:Q ([dU],[.ref x]) s):[fQ,JJ (.ref x) name d]:=by obtain⟨g,c,a⟩:=I.look;exact PySem.W.method_fn X c (RL j).1 (RL j).2 F (beq_iff_eq.mp b) (by show(Jg name g).map (·.isSome)=Z false;rw[a,y];rfl) h
theorem Vg{f:[bd]}{Q:[Ez]}(X:[TJ])(I:rr s.heap x dx C mA)(G:[Ev])(R:[E6])(F:R_ K C name=(Z none))(W:[Dl])(T:SE mA f)(e:f.length≤aQ)(h:∀S,rr S x dx C (λ y=>[um,y=name,Z,v,mA y])→kq dx s.heap S→Q () [qU,S,s.toks+2]):[fQ,setAttr (.ref x) name v]:=by obtain⟨g,i,d⟩:=I.look;refine PySem.W.set_plain X i G (PySem.W.osa_open (s:=[As,1]) (r:=none) X i R F λ b=>?_);obtain⟨k,V,j⟩:=PySem.W.any_some W;have c:[gX,x]=Z ⟨[gv],Z dx,.plain,#[]⟩:=I.obj;rw[7,aW (au (au (wpAny_loadPart c (au (PySem.W.Looks.here (s:=[As,1]) (PySem.W.looks_clsIn X V) ?_)))))];rw[j];rw[3,aW (a:=Z dx) (au (aW (au ?_))),wpAny_nsSet1 (s:=[As,1]) I.ns λ S l m=>?_];obtain⟨t,p,q,D,n,o⟩:=(l.count (PySem.Within.cons name v T));rw[7,wpAny_lookBehind D [ap,n,pastItsLine_dict (bf o [e9,dP])] ?_];exact aW (h _ ⟨[f8,m.2,_,ja I.ne,I.obj],l,I.ne⟩ m)
theorem Vh{R:[on,y4]}{U:[bu]}{b:[io,ae]}(X:[TJ])(N:Sa K C=true)(O:[aaS])(F:PySem.W.typeIn K [dU]=Z (.type "function"))(h:mT [pr] [QO,U,b] (.call [dU] ⟨.ref [ge]::U,b⟩) (PySem.W.InitBack [ge] R) [ln,[YN]]):mT [pr] A (.call [gv] ⟨U,b⟩) R s:=by obtain⟨W,g,d,t,a⟩:=s;exact PySem.W.make_core (PySem.W.makes_of X N) (PySem.W.looks_findIn X O) (λ self=>PySem.W.bind_fn X self F) [de] h
end
def fP(f:Str)(v:V):[er,Str×V,[io,V]]|[]=>[(f,v)]|(g,x)::r=>[pH,g,f,(g,v)::r,(g,x)::fP f v r]
theorem LA(f g:Str)(v:V):∀fs:[io,V],(fP f v fs).lookup g=[um,g=f,Z,v,fs.lookup g]
 |[]=>by show qG g [(f,v)]=_;rw[351,f,h,h]
 |(k,x)::r=>by
  have T:=LA f g v r;rw[[Z_]];by_cases C:k=f;·rw[aI C];rw[351,k,h.trans C,λ e:g=f=>h (e.trans C.symm)]
  ·rw[aD C];by_cases h:g=k;·have K:(g==k)=true:=beq_iff_eq.mpr h;simp only[qG,K,aD (λ e:g=f=>C (h.symm.trans e))]
   ·have K:[aX,g==k]:=[Mv,h];simp only[qG,K];exact T
theorem C_(f:Str)(v:V):∀fs:[io,V],f∈(fP f v fs).map (·.1)∧∀g,g∈fs.map (·.1)→g∈(fP f v fs).map (·.1)
 |[]=>⟨[bn,fP],λ g h=>by rw[14]⟩
 |(k,x)::r=>by
  obtain⟨n,a⟩:=C_ f v r;rw[[Z_]];by_cases C:k=f;·rw[aI C];subst C;rw[0,[al],λ g h=>by rw[60]]
  ·rw[aD C];rw[15,?_,λ g h=>?_];rw[11,bO,cp _ n];·rw[bO]at h⊢;rcases[d9,h]with e|e;rw[2,List.mem_cons.mpr (.inl e),cp _ (a g e)]
theorem LD(f:Str)(v:V):∀fs:[io,V],[ck,fP f v fs,fs.length+1]
 |[]=>[bn,fP]
 |(k,x)::r=>by
  have T:=LD f v r;rw[[Z_]];by_cases C:k=f;·rw[aI C,dP,dP];omega
  ·rw[aD C,dP,dP];omega
theorem ir.some_of{v:V}{o:[Am]}(r:ir (Z v) o):∃u,o=Z u∧bw v u:=by cases o with|none=>rw[99,r]|some u=>rw[1,u,J,r]
theorem ir.none_of{o:[Am]}(r:ir none o):o=none:=by cases o with|none=>rfl|some u=>rw[99,r]
theorem Vi{v:V}{u:ae}(r:bw v u):PySem.W.handedIn u=true:=by cases v with|bh=>cases[db,u,Value.none,r];rfl|bl b=>cases[db,u,pl b,r];rfl|int i=>rw[157,Value.int,i];cases e;rfl|str x=>rw[157,Value.str,x];cases e;rfl|jd b=>rw[157,Value.bytes,b];cases e;rfl|qZ b=>rw[157,SK,b];cases e;rfl|ref a=>rw[108,a,r];rfl|ty n=>cases[db,u,SS n,r];rfl
section
variable{P:aY}{w:aU}{H H':Hp}{h h':aE}{a C dx:ab}{fs fs':[io,V]}
theorem zQ(aH:di P w H h)(e:H a=Z [Ij,fs]):∃s,[cj,rr h a dx C s,[Zp],SE s (fs.map (·.1)),[lm,fs.length],H dx=Z (.own a)]:=by obtain⟨d,z,b,i,s,n,r,q⟩:=(show cU P w H h a [Ij,fs]from aH a _ e);rw[37,s,⟨i,n,b⟩,r,q,z,d]
end
structure j2(K:aF)(C:ab):Prop where
 pg:[JU]
 hd:[Dl]
 po:[E6]
 sa:[Ev]
theorem j2.get{K:aF}{C:ab}(c:j2 K C)(f:Str):mO K C f=true:=c.pg
def oF(K:aF)(C:ab)(f:Str):Prop:=[ib,f]
theorem oF.Vj{K:aF}{C:ab}{f:Str}(n:oF K C f):R_ K C f=(Z none):=by unfold R_;rw[[db,cN K [gv] f,Z none,n]];rfl
structure zR(K:aF)(C:ab)(m:Str)(f:ab):Prop where
 at_:(cN K [gv] m)=Z (Z [dU])
 fn:BM K [dU]=true
 kp:[Oi]
section
variable{X:Cx}{pins:[bF]}{σ:St}{H:Hp}{s:aq}{a C dx:ab}{fs:[io,V]}{f:Str}{v:V}{A:bP}{E:[aT]}
theorem Vk{b:Bool}{Q:[aT]}(I:[bH])(e:H a=Z [Ij,fs])(c:j2 X.K C)(n:oF X.K C f)(l:fs.lookup f=Z v)(h:∀u d,([j4,H,d])→bw v u→Q u d):[wY,A,getAttr [bi] f b]:=by obtain⟨i,O,r,_,_,_⟩:=zQ I.aH e;obtain⟨u,g,j⟩:=[VJ,i f,[cm,l,r f]];exact get_map I.e9 O (c.get f) c.hd n g (Vi j) (h u _ [rw] j)
theorem LG{m:Str}{g:ab}{d:Sem Bool}{Q:[on,ae×[bu]]}(I:[bH])(e:H a=Z [Ij,fs])(c:j2 X.K C)(k:zR X.K C m g)(l:fs.lookup m=none)(h:Q (.ref g,[sG]) s):[wY,A,JJ [bi] m d]:=by obtain⟨b,O,r,_,_,_⟩:=zQ I.aH e;have hn:b m=none:=ir.none_of [cm,l,r m];exact Vf I.e9 O (c.get m) k.at_ k.fn hn h
theorem Vl{y:V}{u:ae}{Q:[Ez]}(I:[bH])(e:H a=Z [Ij,fs])(c:j2 X.K C)(n:oF X.K C f)(d:fs.length<1000)(p:bw y u)(h:∀j,([j4,ag H a [Ij,fP f y fs],j])→Q () j):[wY,A,setAttr [bi] f u]:=by
 obtain⟨v,O,r,w,_,m⟩:=zQ I.aH e;have M:[ck,(fs.map (·.1)),aQ]:=by rw[aC,yR];omega
 refine Vg I.e9 O c.sa c.po n.Vj c.hd w M λ S B t=>h _ ?_
 have i:∃o,[pi,dx]=Z o:=let⟨o,_,_,k,_⟩:=B.ns;⟨o,k⟩
 rw[3,I.write (x:=a) (e:=dx) [ap,e,lW] (.inr m) (λ b q K z=>[qP,t,K,z]) i ?_,⟨[cX,O.ne,m],?_,O.ne,B.obj,_,B.ns,λ g=>?_,λ g l=>?_⟩];·rw[10,LD f y fs]
 ·show ir ((fP f y fs).lookup g) [um,g=f,Z,u,v g];rw[LA];by_cases q:g=f;rw[229,q,p,r g]
 ·by_cases q:g=f;rw[11,q,(C_ f y fs).1];·refine(C_ f y fs).2 g (w g (λ z=>l ?_));rw[25,[um,g=f,Z,u,v g]=none,aD q,z]
theorem Inv.made(I:[bH]):[j4,ag [QK,.own [ge]] [ge] (.ins C s.heap.objs.size []),[ln,[YN]]]:=by rw[70,[K0,[Ui].get?]=Z qy,dM s.heap J,[YN].get? [ge]=Z [aaq],by have:=dM [Ui] (o:=[aaq]) J;rwa[iR]at this];have B:[Ui].Ns s.heap.objs.size (λ _=>none):=⟨qy,#[],_,e1,J,(λ e R=>[JO,R]),λ _=>J⟩;have r:=I.laid (a:=s.heap.objs.size) (o:=.own [ge]) (h':=[Ui]) (t':=s.toks) (λ b u q=>cG _ q) (ba _) [eD,e1];refine r.laid (a:=[ge]) (o:=.ins C s.heap.objs.size []) (t':=s.toks) (λ b u q=>cG _ q) (mP (iR _ _)) ?_;have d:s.heap.objs.size≠[ge]:=dY (qB _);refine⟨by rw[ar d,aw],b7 _,d,e2,λ _=>none,(Heap.Ns1.of_empty B).at λ o q=>cG _ q,λ _=>lW,λ y c=>[gh,J,c]⟩
theorem Vm{prog:aY}{w:aU}{env:Env}{e:bc}{f:Str}{W:Pos}{s:aq}{Q:[aT]}(K:n_ e f env (eval e env)=eval e env)(h:[C8,eval e env,λ o L=>[Ad,getAttr o f true,Q,E,L]]):[fQ,eval (.Attribute e f W) env]:=Attribute_any_ h (by rw[arm_eval_Attribute,K])
end
def nc(K:aF)(T:TE)(f:Str):TE:=[rf,T,λ x b=>∃a C W fs v,[jS,x=[bi],b a=[gj,C,fs],j2 K C,oF K C f,fs.lookup f=Z v,Q v b]]
def Vn(K:aF)(T t:TE)(f:Str):TS:=[Ni,t,λ y b=>T w b [ZI,y]]
section
variable{X:Cx}{o e value:bc}{f:Str}{pos pos' tpos:Pos}{ta tv:TE}
theorem bF(R:PE X e ta)(K:[Es,e,f]):PE X (.Attribute e f pos) (nc X.K ta f):=by rw[58,Vm K (bj (R B s w H _ I h) λ u Y⟨x,b,r,L,a,C,W,fs,v,ex,ea,c,n,l,q⟩=>?_)];rw[106,u,L];exact Vk r ea c n l λ g P p d=>⟨v,b,p,d,q⟩
theorem d0(ha:PE X o ta)(e:PE X value tv)(G:[X_,value,Z (.Attribute o f pos')]):PS X (.Assign [.Attribute o f pos'] value pos) (Vn X.K ta tv f):=by rw[93];refine plainObj_wpAny_Assign_Attribute (bj (e B s w H _ I h) λ u Y⟨y,b,r,A,q⟩=>bj (ha B Y w b _ r q) λ v P⟨x,M,p,L,a,C,W,fs,ex,ea,c,n,l,d⟩=>?_) G;rw[106,v,L];exact Vl p ea c n l A λ g i=>⟨w,_,i,d⟩
end
section
variable{X:Cx}{pins:[bF]}{σ:St}{H:Hp}{s:aq}{A:bP}{E:[aT]}{Q:[aT]}{c:ae}{b:Bool}
inductive j3(K:aF)(H:Hp):[dF,V,ae]where|bh:[NV,.bh,"NoneType"]|bl(x:Bool):[NV,.bl x,"bool"]|int(i:Int):[NV,.int i,"int"]|str(x:Str):[NV,.str x,"str"]|qZ(x:UInt64):[NV,.qZ x,"float"]|aj{a:Addr}{xs:[aw]}(e:H a=some (.aj xs)):j3 K H [bi] [Mr]|iG{a:Addr}{o:Obj}{xs:[aw]}(e:H a=some (.iG o (.aj xs))):j3 K H [bi] [Mr]|tup{a:Addr}{xs:[aw]}(e:H a=some (.tup xs)):j3 K H [bi] [Kc]|dK{a:Addr}{kvs:[jT]}(e:H a=some (.dK kvs)):[NV,[bi],"dict"]|dT{a:Addr}{kvs:[iF]}(e:H a=some (.dT kvs)):[NV,[bi],"dict"]|ins{a C dx:Addr}{fs:[io,V]}(e:H a=some [Ij,fs])(cl:j2 K C)(ha:PySem.W.findIn K [gv] "__class__"=some (some [QW]))(hn:[adB]=some (some [aci]))(pP:PySem.W.takesIn K [QW]=some true)(hm:PySem.W.mroIn K C [Vz]=some true):j3 K H [bi] [gv]
theorem Vo{x:V}{u t:ae}(I:[bH])(L:bw x u)(m:j3 X.K H x t)(e:Sg X.K t c=Z b)(h:∀G,Q (.bool b) [Uq,G]):[wY,A,call [oD,"isinstance"] [u,c]]:=by cases m with|bh=>rw[6,[db,u,Value.none,L],n8 PySem.W.kitx_none I.e9 lW e [Qs] h]|bl y=>rw[6,[db,u,pl y,L],n8 PySem.W.kitx_bool I.e9 lW e [Qs] h]|int i=>rw[217,Value.int,i,PySem.W.kitx_int]|str y=>rw[217,Value.str,y,PySem.W.kitx_str]|qZ y=>rw[217,SK,y,PySem.W.kitx_float]|@aj a N ea=>rw[108,a,L];obtain⟨_,_,n,_,g⟩:=[L7,.aj N,ea];rw[124,PySem.W.kitx_list,[rJ,g]]|@iG a j N ea=>rw[108,a,L];obtain⟨_,_,_,n,_,g⟩:=[L7,.iG j (.aj N),ea];rw[124,PySem.W.kitx_list,[rJ,g]]|@tup a N ea=>rw[108,a,L];obtain⟨_,_,_,p⟩:=[L7,.tup N,ea];obtain⟨o,g,r,_⟩:=p;rw[124,PySem.W.kitx_tuple,⟨o,g,r⟩]|@dK a Y ea=>rw[108,a,L];obtain⟨_,_,U,_,p⟩:=[L7,.dK Y,ea];obtain⟨o,T,B,g,r,_⟩:=p;rw[124,PySem.W.kitx_dict,⟨o,g,r.1⟩]|@dT a Y ea=>rw[108,a,L];obtain⟨_,_,N,_,o,T,B,g,r,_⟩:=[L7,.dT Y,ea];rw[124,PySem.W.kitx_dict,⟨o,g,r.1⟩]|@ins a C W fs ea f ha hn pP d=>rw[108,a,L];obtain⟨v,O,_⟩:=zQ I.aH ea;obtain⟨k,l,_⟩:=O.look;rw[124,PySem.W.kitx_own (f.get _) f.hd ha hn pP d,l]
end
end L2
namespace L2
open PySem PySem.Spec PyProof.Rows
structure cy(k:Nat)(A:bP):Prop where
 hd:[wg]
 dp:A.depth+3*k+5<SM
 un:A.units+16*k+200<fq
theorem cy.mono{j k:Nat}{A:bP}(r:cy k A)(h:j≤k):cy j A:=⟨r.hd,by rw[10,r.dp],by rw[10,r.un]⟩
theorem cy.deeper{k:Nat}{A:bP}(r:cy (k+1) A)(env:Env):cy k (A.deeper env):=⟨r.hd,by have:=r.dp;rw[19,A.depth+1+3*k+5<_],by have:=r.un;rw[19,A.units+3+16*k+200<_]⟩
theorem Vp{A:bP}{C:ab}{W:[bu]}{w:[io,ae]}:[QO,W,w].depth=A.depth+1:=by first|rfl|simp[Sz,Code.weight,Code.isCreation,Code.isGuard,Code.isCaller,Code.frames,SH,guardIds]
theorem Vq{A:bP}{C:ab}{W:[bu]}{w:[io,ae]}:[QO,W,w].units=A.units+1:=by first|rfl|simp[Sz,Code.cUnits,Code.frames,SH]
theorem cy.make{k:Nat}{A:bP}(r:cy (k+1) A)(C:ab)(W:[bu])(w:[io,ae]):cy k [QO,W,w]:=⟨r.hd,by have:=r.dp;rw[27,Vp],by have:=r.un;rw[27,Vq]⟩
theorem cy.depth{k:Nat}{A:bP}(r:cy k A):A.depth<SM:=by rw[10,r.dp]
theorem cy.units{k:Nat}{A:bP}(r:cy k A):A.units+64<fq:=by rw[10,r.un]
theorem cy.Vr{k:Nat}{A:bP}(r:cy k A):A.units<fq:=by rw[10,r.un]
def gw:TA:=λ _ H Q=>Q [] H
def dc(T:TE)(tr:TA):TA:=[De,T,tr w a λ N M=>Q (x::N) M]
section
variable{X:Cx}{e:bc}{es:[ly]}{te:TE}{t:TA}{pos:Pos}
theorem aB:PA X [] gw:=λ _ _ _ _ H Q I h=>Bv ⟨[],H,I,.nil,h⟩
theorem ak(ha:[KB])(b:PA X es t)(G:[ND]:=by rfl):PA X (e::es) (dc te t):=by intro pos B s w H Q I h;rw[G];show az _ _ (spliced ([wC,e]::g_ pos [pc,es])) _ _ s;rw[79,vx (bj (ha B s w H _ I h) λ u Y⟨x,a,r,d,n⟩=>?_),bj (b pos B Y w a _ r n) λ W P⟨N,M,p,S,c⟩=>⟨x::N,M,p,(.cons d S),c⟩]
def ng(t:TA):TE:=[adl,K_ N,.tup N]
def LH(t:TA):TE:=[adl,[Id,aQ],.aj N]
theorem ff{R}(h:PA X es t):PE X (.Tuple es R pos) (ng t):=by rw[265,wpAny_Tuple_spliced,h pos B s w H _ I D,z.1,a,.tup N];rw[21,z,W,r,[hJ,_,[pu],_,J]]
theorem fz(h:PA X es t):PE X (.List es pos) (LH t):=by rw[265,wpAny_List_spliced,h pos B s w H _ I D,z,a,.aj N];rw[9,z,W,0,r,[pu]]
end
abbrev Sp:=[er,V,Hp→[dF,VK,XK]]
abbrev kA:=[cI,List Env,Hp,aq,XK,[aT]]
structure rx(P:aY)(w:aU)(K:aF)(mg:[a_])(base:aE)(A:bP)(outer:[wK])(s:aq)(H:Hp):Prop where
 frames:A.frames=Z outer
 mod:Mod K mg base
 bs:[pO,base.get? b,[LZ]∧H b=none]
 lr:base.objs.size≤s.heap.objs.size
 jX:[M9,base,outer]
 pJ:[zI,dv outer,H]
 aH:di P w H s.heap
 bare:vR s.gens
def CE(outer:[wK])(P:aY)(w:aU)(H:Hp)(s:aq)(Q:VK)(u:ae)(d:aq):Prop:=∃v m,[jS,d.os=s.os,vR d.gens,Un (dv outer) [] H m s.heap d.heap,di P w m d.heap,bw v u,Q v m]
def CR(T:kA)(outer:[wK])(P:aY)(w:aU)(H:Hp)(s:aq)(Q:VK)(E:XK)(r:y4)(d:aq):Prop:=match r with|.ok (.ret u)=>(CE outer P w H s Q u d)|.ok _=>False|.error e=>T outer H s E e d
structure aA(P:aY)(w:aU)(K:aF)(mg:[a_])(base:aE)(T:kA)(k:Nat)(f:ab)(v:bq)(a:[bd])(sp:Sp):Prop where
 len:[OE,a.length]
 run:∀(A:bP)(outer:[wK])(s:aq)(H:Hp)(args:Args)(W:[bu])(U:[aw])(Q:VK)(E:XK),[cI,cy k A,[Vr,A],BindsTo s v args (a.zip W),be U W,sp U H Q E→mT (aM P w) A (.call [dU] args) (CR T outer P w H s Q E) s]
theorem aA.mono{P:aY}{w:aU}{K:aF}{mg:[a_]}{base:aE}{T:kA}{j k:Nat}{f:ab}{v:bq}{V:[bd]}{sp:Sp}(F:aA P w K mg base T j f v V sp)(h:j≤k):aA P w K mg base T k f v V sp:=⟨F.len,λ A outer s H args W U Q E u=>F.run A outer s H args W U Q E (u.mono h)⟩
theorem aA.imp{P:aY}{w:aU}{K:aF}{mg:[a_]}{base:aE}{T:kA}{k:Nat}{f:ab}{v:bq}{V:[bd]}{sp m:Sp}(F:aA P w K mg base T k f v V sp)(h:∀U H Q E,m U H Q E→sp U H Q E):aA P w K mg base T k f v V m:=⟨λ U H Q E q=>F.len U H Q E (h _ _ _ _ q),λ A outer s H args W U Q E u R a y G=>F.run A outer s H args W U Q E u R a y (h _ _ _ _ G)⟩
theorem rx.make{P:aY}{w:aU}{K:aF}{mg:[a_]}{base:aE}{A:bP}{outer:[wK]}{s:aq}{H:Hp}(e:[Vr,A])(C:ab)(W:[bu])(a:[io,ae]):[Vr,[QO,W,a]]:=⟨by first|exact e.frames|(simpa[Sz,Code.envs,SH,pushEnvs]using e.frames),e.mod,e.bs,e.lr,e.jX,e.pJ,e.aH,e.bare⟩
section
variable{X:Cx}{pins:[bF]}{σ:St}{H:Hp}{s s':aq}
theorem Inv.h_(I:[bH]):rx X.prog X.w X.K X.mg X.base X.A X.stack s H:=⟨I.ok.frames,I.ok.mod,I.bs,bf I.ok.lr I.sz,I.stack,I.wg,I.aH,I.bare⟩
theorem Inv.after{Q:VK}{u:ae}(I:[bH])(h:CE X.stack X.prog X.w H s Q u s'):EP X pins σ Q u s':=by obtain⟨v,m,c,f,e,aH,r,q⟩:=h;obtain⟨W,g,d,t,o⟩:=s';obtain rfl:o=s.os:=c;rw[9,v,m,I.call (h':=W) (g':=g) (d':=d) (t':=t) (ch:=[]) e aH f (λ b z=>[JO,z]),r,q]
end
def LI(sp:Sp)(s:[aw])(E:XK)(t:TA):TE:=[rf,t,λ U a=>sp (U++s) a Q E]
def ud(C:ab)(m:Str)(sp:Sp)(s:[aw])(E:XK)(T:TE)(t:TA):TE:=[rf,T,λ x b=>∃a W fs,x=[bi]∧b a=[gj,C,fs]∧fs.lookup m=none∧t w b λ U M=>sp (x::(U++s)) M Q E]
def LJ(C:ab)(sp:Sp)(s:[aw])(E:XK)(t:TA):TE:=[rf,t,λ U a=>∀x W,(a x=none→a W=none→W≠x→sp (.ref x::(U++s)) [N8,a,x,C] (λ v M=>v=.bh∧Q (.ref x) M) E)]
def Binds(K:aF)(v:bq)(V:[bd])(B:[bu]):Prop:=∀(s:aq)(W:[bu]),K.In s.heap→(W++B).length=V.length→BindsTo s v [yg,W] (V.zip (W++B))
theorem Binds.all{K:aF}{v:bq}{V:[bd]}(h:∀W:[bu],W.length=V.length→yX v [yg,W]=pure (V.zip W)):[Tq]:=λ s W _ X=>by rw[qD]at X⊢;exact .of_eq (h W X)
def oG(T:kA)(X:Cx)(E:XK):Prop:=∀(B:[bF])(w:St)(H:Hp)(s:aq)(e:ae)(d:aq),([iw])→T X.stack H s E e d→X.xe e d
section
variable{X:Cx}{CX:kA}{k:Nat}{f C:ab}{fd:bq}{ps:[bd]}{sp:Sp}{dvs:[aw]}{ds:[bu]}{E:XK}{x m:Str}{p pos apos:Pos}{e o:bc}{es:[ly]}{ta:TE}{t:TA}
theorem Dc{B:[bF]}{w:St}{H:Hp}{s:aq}{Q:VK}{us:[bu]}{vs:[aw]}(F:aA X.prog X.w X.K X.mg X.base CX k f fd ps sp)(c:cy k X.A)(K:[O2])(b:be dvs ds)(A:oG CX X E)(I:[iw])(r:be vs us)(h:sp (vs++dvs) H Q E):[QD,call [dU] us]:=by have S:be (vs++dvs) (us++ds):=r.append b;have a:[b9,us++ds,ps.length]:=[cm,S.length,F.len _ _ _ _ h];refine S8 (Jz (F.run X.A X.stack s H [yg,us] (us++ds) (vs++dvs) Q E c I.h_ (K s us I.e9 a) S h) λ r d D=>?_);cases r with|error e=>exact A B w H s e d I D|ok g=>cases g with|ret u=>exact I.after D|next=>exact js D|brk=>exact js D|cont=>exact js D
theorem dA(F:aA X.prog X.w X.K X.mg X.base CX k f fd ps sp)(u:cy k X.A)(j:Gl X x)(N:X.mg x=Z [dU])(C:ph X.K [dU]=true)(K:[O2])(b:be dvs ds)(A:oG CX X E)(ha:PA X (e::es) t)(d:[xO]:=by decide)(R:[ND]:=by rfl)(L:[Uw]:=by rfl):[Xd,LI sp dvs E t]:=by rw[68];rw[292,C,Dc F u K b A c r q]
theorem de{z:Sem Bool}(R:PE X o ta)(c:j2 X.K C)(N:zR X.K C m f)(F:aA X.prog X.w X.K X.mg X.base CX k f fd ps sp)(i:cy k X.A)(K:[O2])(d:be dvs ds)(A:oG CX X E)(ha:PA X (e::es) t)(y:[ND]:=by rfl)(D:[Uw]:=by rfl)(n:[ul,.Call (.Attribute o m apos) (e::es) [] pos]=(do
 let G←eval o X.env
 standAt apos.atName
 let(f,first)←tw [G] (JJ G m z)
 callWith pos f first (g_ pos [pc,e::es]) (BX pos (BU [] X.env))):=by rfl):(PE X (.Call (.Attribute o m apos) (e::es) [] pos) (ud C m sp dvs E ta t)):=by intro B s w H Q I h;refine PySem.W.methodCall_KW (pl:=z) (bj (R B s w H _ I h) λ u Y⟨x,b,p,L,a,g,fs,ex,ea,l,q⟩=>?_) n;rw[106,u,L];rw[3,LG p ea c N l ?_,RV (first:=[sG]) (h₀:=X.base) I.ok.mod.tZ N.kp (bj (ha pos B Y w b _ p q) λ W P⟨U,M,v,r,j⟩=>[rp,v.e9]) y D];exact Dc (us:=[bi]::W) (vs:=[bi]::U) F i K d A v (.cons J r) j
theorem Vt{i:Sem Bool}(R:PE X o ta)(c:j2 X.K C)(N:zR X.K C m f)(F:aA X.prog X.w X.K X.mg X.base CX k f fd ps sp)(e:cy k X.A)(K:[O2])(d:be dvs ds)(A:oG CX X E)(g:[ul,.Call (.Attribute o m apos) [] [] pos]=(do
 let v←eval o X.env
 standAt apos.atName
 let(f,first)←tw [v] (JJ v m i)
 callWith pos f first (g_ pos [pc,[]]) (BX pos (BU [] X.env))):=by rfl):(PE X (.Call (.Attribute o m apos) [] [] pos) (ud C m sp dvs E ta gw)):=by rw[58,PySem.W.methodCall_KW (pl:=i) (bj (R B s w H _ I h) λ u Y⟨x,b,r,L,a,W,fs,ex,ea,l,q⟩=>?_) g];rw[106,u,L];refine LG r ea c N l ?_;exact PySem.W.callWith_K0 (first:=[sG]) r.e9 N.kp (Dc (us:=[sG]) (vs:=[sG]) F e K d A r [o0,J] q)
structure Mk(K:aF)(C f:ab):Prop where
 makes:Sa K C=true
 init:[aaS]
 fn:BM K [dU]=true
 kp:ph K [gv]=true
theorem Vu{B:[bF]}{w:St}{H:Hp}{s:aq}{Q:VK}{W:[bu]}{U:[aw]}(M:Mk X.K C f)(F:aA X.prog X.w X.K X.mg X.base CX k f fd ps sp)(i:cy (k+1) X.A)(K:[O2])(c:be dvs ds)(A:oG CX X E)(I:[iw])(r:be U W)(h:∀x d,[u8,x,H d=none,d≠x,sp (.ref x::(U++dvs)) (ag (ag H d (.own x)) x (.ins C d [])) (λ v b=>v=.bh∧Q (.ref x) b) E]):[QD,call [gv] W]:=by
 have D:=h [ge] s.heap.objs.size [CF,vL _] [ED] (dY (qB _));have p:=Inv.made (C:=C) I;have S:be ((V.ref [ge])::(U++dvs)) ([j5,[ge]]::(W++ds)):=(.cons J (r.append c));have a:[b9,[j5,[ge]]::W++ds,ps.length]:=by have e:=S.length;rw[75,F.len _ _ _ _ D,e.symm]
 refine S8 (Vh (f:=f) I.e9 M.makes M.init (beq_iff_eq.mp M.fn) (Jz (F.run _ X.stack _ _ [yg,[j5,[ge]]::W] ([j5,[ge]]::(W++ds)) _ _ E (i.make C W []) (p.h_.make C W []) (K _ ([j5,[ge]]::W) p.e9 a) S D) λ r g o=>?_));cases r with|error e=>exact A B w _ _ e g p o|ok q=>cases q with|ret u=>obtain⟨v,m,l,O,n,j⟩:=p.after o;subst n;rw[0,O,[jp,V.ref [ge],m,l,j]]|next=>exact js o|brk=>exact js o|cont=>exact js o
theorem lB(M:Mk X.K C f)(F:aA X.prog X.w X.K X.mg X.base CX k f fd ps sp)(u:cy (k+1) X.A)(j:Gl X x)(N:X.mg x=Z [gv])(K:[O2])(b:be dvs ds)(A:oG CX X E)(ha:PA X (e::es) t)(d:[xO]:=by decide)(R:[ND]:=by rfl)(L:[Uw]:=by rfl):[Xd,LJ C sp dvs E t]:=by rw[68];rw[292,M.kp,Vu M F u K b A c r q]
end
section
variable{X:Cx}{CX:kA}{k:Nat}{f C:ab}{fd:bq}{ps ks:[bd]}{sp:Sp}{E:XK}{x m:Str}{p pos apos kpos:Pos}{e o:bc}{es:[ly]}{kws:List vS}{te ta:TE}{t tk:TA}{nm:[iH,Str]}
variable{g:[er,ae,[er,ae,[bu]]]}{gV:[er,V,[er,V,[aw]]]}
end
structure bQ(N P:[bd])(sc:dR):Prop where
 kind:sc.kind=[Ce]
 co:[aX,sc.isCoroutine]
 gen:[aX,sc.isGenerator]
 nd:N.Nodup
 pre:N.take P.length=P
 par:∀x∈P,[DP,x]=[wn]∨[DP,x]=(Z .cell)
 Vv:∀y∈sc.names,y.2≠.free
theorem LL{f:Str→[iH,jN]}{x:Str}:[ac2,tG]
 |[],_,_=>J
 |(n,v)::r,m,h=>by
  unfold tG;rw[LL λ w T=>h w (cp _ T)];split
  ·have:x≠n:=by rw[54];exact h v cq
   simp[this]
  ·rfl
theorem LM{f:Str→[iH,jN]}{x:Str}:[ac2,tH]
 |[],_,_=>J
 |(n,v)::r,m,h=>by
  unfold tH;rw[LM λ w T=>h w (cp _ T)];split;·rfl
  ·have:x≠n:=by rw[54];exact h v cq
   simp[this]
theorem LN{f:Str→[iH,jN]}{x:Str}{v:ae}:∀{P:[bd]}{U:[bu]}{i:Nat}{m:[a_]},[abX,f x=[wn],tG]|[],_,_,_,_,h,_,_=>by rw[14]|_::_,[],_,_,_,_,h,_=>by rw[14]|p::P,w::U,0,m,nd,g,r,C=>by simp at g r;subst g;subst r;show tG f ((p,w)::P.zip U) m p=_;unfold tG;rw[LL λ v y=>[Av,nd].1 (BG y).1,aI C];simp|p::P,w::U,i+1,m,nd,g,r,C=>by show tG f ((p,w)::P.zip U) m x=_;unfold tG;exact[adx,LN]
theorem LO{f:Str→[iH,jN]}{x:Str}{v:ae}:∀{P:[bd]}{U:[bu]}{i:Nat}{m:[a_]},[abX,f x≠[wn],tH]|[],_,_,_,_,h,_,_=>by rw[14]|_::_,[],_,_,_,_,h,_=>by rw[14]|p::P,w::U,0,m,nd,g,r,C=>by simp at g r;subst g;subst r;show tH f ((p,w)::P.zip U) m p=_;unfold tH;rw[LM λ v y=>[Av,nd].1 (BG y).1,aD C];simp|p::P,w::U,i+1,m,nd,g,r,C=>by show tH f ((p,w)::P.zip U) m x=_;unfold tH;exact[adx,LO]
def start(N:[bd])(U:[aw]):St:=U.map Z++lS (N.length-U.length) none
def gy(T:kA)(P:aY)(w:aU)(K:aF)(mg:[a_])(base:aE)(N:[bd])(b:Str)(l:dR)(f:ab)(j:ae)(A:bP)(outer:[wK])(s:aq)(H:Hp)(E:XK):Cx where
 prog:=P
 w:=w
 K:=K
 mg:=mg
 base:=base
 A:=A.deeper [DL,b,l,j]
 N:=N
 eV:=s
 m9:=H
 env:=[DL,b,l,j]
 outer:=outer
 stack:=[DL,b,l,j]::outer
 ex:=[]
 calm:=true
 fn:=λ _=>true
 pn:=[]
 xe:=λ e d=>az (aM P w) (A.deeper [DL,b,l,j]) (leaving [DL,b,l,j] e) (λ _ V=>T outer H s E e V) (λ a V=>T outer H s E a V) d
theorem LP{sc:dR}{n:Nat}{x:Str}(h:[DP,x]=(Z .cell)):∃c,(fj n sc.names []).lookup x=Z c:=by have q:=RB sc.names n [] [lz];exact Option.isSome_iff_exists.mp q
theorem LQ{T:kA}{P:aY}{w:aU}{K:aF}{mg:[a_]}{base:aE}{N t:[bd]}{F:Str}{o:dR}{f:ab}{G:ae}{A:bP}{outer:[wK]}{s Y:aq}{H:Hp}{E:XK}{W:[bu]}{U:[aw]}(S:bQ N t o)(l:[wg])(M:[Vr,A])(X:U.length=t.length)(r:be U W)(x:InCallC s s.heap.objs.size (tG [DL,F,o,G].kindOf (t.zip W) λ _=>none) (fj [ge] o.names []) (tH [DL,F,o,G].kindOf (t.zip W) λ _=>none) Y):Inv (gy T P w K mg base N F o f G A outer s H E) [] (start N U) H Y:=by
 have L:[Ky,N.length]:=by rw[35,[Ca,S.pre],jJ];omega
 obtain⟨g,tk,rfl,C⟩:=x.done;have I:∀b:ab,b∉(gy T P w K mg base N F o f G A outer s H E).ex:=λ b z=>[JO,show b∈([]:[aV])from z]
 refine⟨⟨M.mod,S.kind,J,J,ba _,λ y z c g d=>?_,λ y m=>?_,λ y c _ h=>?_,λ _=>l,Around.frames_deeper M.frames,.inr [eJ,J],λ b z=>[gh,z,I b],M.bs,M.lr,λ b _ _=>I b,λ b z=>[gh,z,I b],M.jX,M.pJ⟩,J,M.bare,Un.kept C,⟨_,x.toInCall.ns,λ i y v g d j=>?_⟩,λ y c h=>[eD,x.cell y c h],M.aH.fresh (ba _),λ y c h=>?_,λ p R=>[JO,show p∈[Fu,ab×Obj]from R],M.aH.kept C,?_⟩;·exact name_of_addr x.apart (kh g) (kh d)
 ·have m:[NF,o.names.lookup y]:=m;rcases m with m|m;rw[2,LP m,[gh,J,S.Vv _ (kh m)]]
 ·exact oa (x.above y c (kh h))
 ·have O:i<U.length:=by
   unfold start at d;by_cases O:i<U.length;·exact O
   ·rw[List.getElem?_append_right (by rw[94])]at d;rw[List.getElem?_replicate]at d;split at d<;>cases d
  have ha:U[i]?=Z v:=by unfold start at d;rw[Rw (by rw[94]),cJ]at d;cases e:U[i]? with|none=>rw[86,e]|some a=>rw[86,e];rfl
  obtain⟨u,B,D⟩:=r.get ha;have R:t[i]?=Z y:=by rw[←S.pre,List.getElem?_take_of_lt [ac]];exact g
  have Q:t.Nodup:=[cm,S.pre,S.nd.sublist (List.take_sublist _ _)];rw[24,u,D];rcases S.par y (bt R)with k|k;rw[40,⟨k,LN Q R B k⟩];·obtain⟨c,e⟩:=LP (n:=[ge]) k;refine[rq,.inl k,c,e,?_];have q:=x.cell y c e;rw[62,LO Q R B (by show o.names.lookup y≠_;rw[k];decide),q]
 ·exact M.aH.fresh (oa (x.above y c (kh h)))
 ·unfold start;show _=N.length;rw[dh,aC,II];omega
theorem Dd{T:kA}{P:aY}{w:aU}{K:aF}{mg:[a_]}{base:aE}{k:Nat}{f:ab}{L h:Str}{D:vN}{B:[y_]}{l:dR}{dV kV p pm j ct oc:ae}{an od:[sB]}{z:[Co]}{N c:[bd]}{sp:Sp}(lk:[nM,f]=Z ⟨oc,od,.func (km L h D B l dV kV p pm an j ct),z⟩)(F:[Lp,h])(S:bQ N c l)(W:[OE,c.length])(X:[Yg,[DL,h,l,j],Q,E,gi,gy T P w K mg base N h l f j A outer s H E,B]):aA P w K mg base T (k+1) f (km L h D B l dV kV p pm an j ct) c sp:=by rw[328,X A outer s H U Q E (a.deeper _) i,gy T P w K mg base N h l f j A outer s H E,ht [] s1 (start N U) H _ I hq]
end L2
namespace L2
open PySem PySem.Spec PyProof.Rows
section
variable{X:Cx}{x:Str}{p pos:Pos}{e:bc}{es:[ly]}{t:TA}{id T:String}{r:[C9]}
def LR(r:[C9])(t:TA):TE:=[rf,t,λ U a=>r U a Q]
theorem cX(V:gP X [oD,id] r)(j:Gl X x)(N:X.mg x=none)(y:vK x=Z [oD,id])(ha:PA X (e::es) t)(hn:x≠[Np]:=by decide)(d:[xO]:=by decide)(R:[ND]:=by rfl)(L:[Uw]:=by rfl):[Xd,LR r t]:=by rw[58,yC (m_ I j N y ?_ hn d)];exact PyProof.Rows.callWith_builtin1 [O6,[Lb,pos],a,c,b,n,V B Y w a U W Q c b n] R L
theorem ry(V:gP X (.type T) r)(j:Gl X x)(N:X.mg x=none)(y:vK x=Z (.type T))(ha:PA X (e::es) t)(hn:x≠[Np]:=by decide)(d:[xO]:=by decide)(R:[ND]:=by rfl)(L:[Uw]:=by rfl):[Xd,LR r t]:=by rw[58,yC (m_ I j N y ?_ hn d)];exact vp [O6,[Lb,pos],a,c,b,n,V B Y w a U W Q c b n] R L
end
end L2
namespace HT
open PySem PyProof.Rows
theorem Vw(A:bP)(s:aq)(a:Int)(t:Tok)(c:Int)(u:Tok):∃e,pz A s (.int a t) (.int c u) e∧(e=true↔a=c):=⟨(a==c),SeqAt.EqAt.int_int a t c u,[al]⟩
section
open PySem.SeqAt
open PySem.AutoSeq1(wpAny_loadPart')
open PySem.MeetsSeq PySem.MeetsSeq2 PySem.MeetsSeq3
end
section
variable{prog:aY}{w:aU}{A:bP}{E:[aT]}{s:aq}
def bz(n d:Nat):Option Int→Nat|none=>d|Z v=>[Uy,v,v.toNat]
theorem wu(n d:Nat):bz n d none=d:=J
theorem wx(n d k:Nat):bz n d (Z [ar,k])=min k n:=by show[Uy,[ar,k],[MY,k]]=min k n;rw[aD [ac],vy]
theorem De(n d:Nat)(a:d≤n)(o:[sw]):bz n d o≤n:=by
 cases o with
  |none=>exact a
  |some v=>
   show[Uy,v,v.toNat]≤n;by_cases y:v<0;·rw[27,aI y]
   rw[11,aD y,Sh _ _]
theorem LS(v:Int)(n d:Nat):[adz]=[aN,bz n d (Z v)]:=by rw[362,[adz]]
theorem Vx(c O:[sw])(n:Nat):Rq c O 1 [cY]=([aN,bz n 0 c],[aN,bz n n O]):=by
 have g:¬([yx]<0):=[ac];unfold Rq;simp only[g,iE];refine Prod.ext ?_ ?_;·cases c with|none=>rfl|some v=>exact LS v n 0
 ·cases O with|none=>rfl|some v=>exact LS v n n
theorem Vy(i j:Nat):Iq [lx] [ar,j] 1=j-i:=by unfold Iq;have g:[yx]>0:=[ac];simp only[g,il,Int.ediv_one];split<;>omega
theorem LU{v:ae}{o:[sw]}{Q:[on,[sw]]}(p:IsPart v o)(h:Q o s):[fQ,Builtin.Slice.slicePartIndex v]:=by cases p with|none=>exact slicePart_none h|int i t=>exact slicePart_int h
theorem Vz{Y:ab}{e k:ae}{c O:[sw]}{n:Nat}{Q:[on,Int×Int×Nat]}(G:[Y8])(d:IsPart e c)(y:IsPart k O)(h:Q ([aN,bz n 0 c],1,bz n n O-bz n 0 c) s):[fQ,Builtin.Slice.sliceApplied (.ref Y) (pure [cY])]:=by obtain⟨a,f,g,b⟩:=id G;unfold Builtin.Slice.sliceApplied Builtin.Slice.sliceFields;rw[110,au (f7 f b (x:=e) J (au (f7 f b (x:=k) J (au (f7 f b (x:=.none) J (aW ?_)))))),slicePart_none ?_];show(az _ _ [Aa,[yx]==0] _ _ s);rw[[CO]];rw[7,LU d (au (LU y (au (aW ?_))))];show az _ _ (match Rq c O 1 [cY]with|(c,O)=>pure (c,[yx],Iq c O 1)) _ _ s;rw[Vx c O n];rw[25,az _ _ (pure ([aN,bz n 0 c],[yx],Iq [aN,bz n 0 c] [aN,bz n n O] 1)) _ _ s,Vy,aW h]
theorem VA(N:[lc])(i k:Nat):[EV,[rc,k],λ(m:Nat)=>N[([lx]+[ar,m]*1).toNat]?].toArray=[Ub,N.toList.drop i,k]:=by
 have e:(λ(m:Nat)=>N[([lx]+[ar,m]*1).toNat]?)=λ m=>N[i+m]?:=by funext m;rw[47,([lx]+[ar,m]*1).toNat=i+m];rw[this]
 rw[e];rw[35,pick_run N i k,List.filterMap_map];have e2:((λ x=>N[x]?)∘λ x=>i+x)=λ m=>N[i+m]?:=J;rw[e2]at this;rw[this]
theorem VB{t Y:ab}{a:[lc]}{e k:ae}{c O:[sw]}{Q:[aT]}(F:IsTup s.heap t a)(G:[Y8])(d:IsPart e c)(y:IsPart k O)(T:¬([JP]=0∧[MR]=a.size))(h:[Ug,[NA,"tuple",.seq [Ub,[Zc],[MR]-[JP]]]])(b:a.size≤aQ):[fQ,qN (.ref t) (.ref Y)]:=by
 have l:sizeOk (.seq [Ub,[Zc],[MR]-[JP]]):=by show([Zc].take ([MR]-[JP])).toArray.size≤aQ;rw[dN,jJ,lQ,nR];omega
 have U:[MR]≤a.size:=De _ _ (ba _) O;obtain⟨f,j,g,i⟩:=id G;have o:[C2,.ref Y,"slice"]:=⟨f,j,g⟩;unfold qN;try with_reducible refine k9 ?_
 first|rw[7,aW ?_]|skip
 rw[3,au (wpAny_sequenceKey F.typeIs [bj] ?_),au (vq (name:=k_ "__getitem__") F.typeIs PyProof.Rows.slot_tuple_getitem (qC PyProof.Rows.slot_tuple_getitem F.typeIs entry_tuple_getitem ?_ (args_tuple_getitem _ _)))];show az _ _ (Builtin.Tuple.tupleItemsOf (.ref t)>>=_) _ _ s;rw[3,au (tupleItemsOf_ F ?_),au (wpAny_typeOf o ?_)];rw[aI [bj]];rw[7,Vz G d y ?_];have W:¬([aef]=true):=by intro q;rw[dO,dO]at q;have n:[aN,[JP]]=0:=eq_of_beq q.1.1;have X:[MR]-[JP]=a.size:=eq_of_beq q.2;exact T [My,[ac]]
 show(az _ _ [Aa,[aef]] _ _ s);rw[aD W,VA];first|exact[Wl,aW [dL,aW h]]|exact[Wl,au (aW (aW [dL,aW h]))]|exact au [Wl,aW (aW [dL,aW h])]|exact au [Wl,aW [dL,aW h]]
end
end HT
namespace L2
open PySem PySem.Spec PyProof.Rows
abbrev TO:=[W8,[sw]]
def PO(X:Cx)(e:[iH,bc])(t:TO):Prop:=[XM,[xP,[sw]],evalPart e X.env,λ u d=>∃o m,[MX,w,IsPart u o∧Q o m]]
def Df:TO:=λ _ H Q=>Q none H
def Dg(t:TE):TO:=[De,t,∃i,x=.int i∧Q (Z i) a]
theorem intsAre_of{ns:[bv]}:∀{W:[bu]},be (ns.map V.int) W→om W ns:=by induction ns with|nil=>intro W r;rw[vI]at r;rw[6,r,.nil]|cons n ns T=>intro W r;rw[bO]at r;cases r with|cons a S=>obtain⟨t,e⟩:=a;rw[89,.cons n t (T S)]
section
variable{X:Cx}{e:bc}{te:TE}{lo hi:[iH,bc]}{tl th:TO}{pos p2:Pos}
theorem pQ:PO X none Df:=by rw[68];rw[4,evalPart_none,aW ⟨none,H,I,.none,h⟩]
theorem nh(h:[KB]):PO X (Z e) (Dg te):=by intro B s w H Q I T;rw[13,evalPart_some,bj (h B s w H _ I T) λ u Y⟨x,a,r,b,n⟩=>?_];obtain⟨i,rfl,q⟩:=n;obtain⟨t,rfl⟩:=b;exact⟨Z i,a,r,.int i t,q⟩
def zS(X:Cx)(r:[Qt]):Prop:=∀(B:[bF])(s:aq)(w:St)(H:Hp)(x:V)(v e k:ae)(lo hi:[sw])(Y:ab)(Q:VK),[cI,[iw],bw x v,[Y8],IsPart e lo,IsPart k hi→r x lo hi H Q→∃T c,typeLookup (.type T) "__getitem__"=pure (Z [oD,c])∧[C2,v,T]∧[QD,qN v (.ref Y)]]
def Dh(r:[Qt])(te:TE)(tl th:TO):TE:=[De,te,tl w a λ l M=>th w M λ u L=>r x l u L Q]
theorem oH{r:[Qt]}(d:zS X r)(R:[KB])(a:PO X lo tl)(o:PO X hi th):PE X [Cd,e,.Slice lo hi none p2,pos] (Dh r te tl th):=by
 rw[68];rw[3,JD [At,R B s w H _ I h,c,i,g,?_],wpAny_Slice (bj (a B Y w c _ i n) λ E P⟨l,M,t,z,f⟩=>bj (o B P w M _ t f) λ G C⟨u,L,A,N,y⟩=>?_)];rw[evalPart_none];refine aW ?_;have D:[U7,L,C,[ZU]]:=A.kept (t':=C.toks) λ b p q=>cG _ q
 obtain⟨T,K,m,F,j⟩:=d B {C with heap:=[ZU]} w L x v E G l u C.heap.objs.size Q D g (Heap.IsSliceOf.new ..) z N y;show[iZ,SU e (.Slice lo hi none p2) v (.ref C.heap.objs.size),[Kl],{C with heap:=[ZU]}];exact tail_any (ops:=[.ref C.heap.objs.size,v]) F m j (by with_unfolding_all rfl)
def dB(N:[aw])(lo hi:[sw]):[aw]:=[aaD,N.drop,lo,hi]
theorem Dk(N:[aw])(lo hi:[sw]):[ck,dB N lo hi,N.length]:=by unfold dB;rw[jJ,lQ];omega
def LV(K:aF):[Qt]:=λ x lo hi H Q=>∃a N,[cj,x=[bi],bM K H a N,¬([Q7,0,lo]=0∧[Q7,N.length,hi]=N.length),l8 (dB N lo hi)=true,[OB,.tup (dB N lo hi)]]
theorem VC:zS X (LV X.K):=by intro B s w H x v e k lo hi c Q I L G d y h;obtain⟨a,N,rfl,A,T,aH,q⟩:=h;cases L;obtain⟨m,r,F,M⟩:=[wT,A];have K:m.toArray.size=N.length:=[ap,dN,r.length.symm];rw[3,⟨"tuple",_,PyProof.Rows.slot_tuple_getitem.lookup,F.typeIs,?_⟩,HT.VB F G d y [ap,K,T] ?_ [ap,K,M]];rw[K];refine[Xb,[abZ,.tup,dB N lo hi],q];exact⟨⟨bf (Dk N lo hi) M,aH⟩,_,[aaD,r.drop,lo,hi],IsTup.new _ _⟩
end
end L2
namespace L2
open PySem PySem.Spec PyProof.Rows
def pR(n:Nat)(i:Int):[v0]:=if 0≤i then[Lh,i<n,i.toNat]else[Lh,-[cY]≤i,(i+n).toNat]
def kB{m:Type}(N:[ol])(i:Int):[iH,m]:=(pR N.length i).bind λ j=>N[j]?
theorem VD{n:Nat}{i:Int}{j:Nat}(h:pR n i=Z j):JI i n=Z j∧j<n∧-[cY]≤i∧i<n:=by
 unfold pR at h;by_cases h0:0≤i
 ·rw[aI h0]at h;by_cases g:i<n;·rw[aI g]at h;have e:i.toNat=j:=[dj,h];rw[21,by rw[seqIndex_of h0 g,e],[ac],[ac],g]
  ·rw[43,aD g]
 ·rw[aD h0]at h;by_cases g:-[cY]≤i;·rw[aI g]at h;have e:(i+n).toNat=j:=[dj,h];rw[21,by rw[seqIndex_neg [ac] g,e],[ac],g,[ac]]
  ·rw[43,aD g]
theorem LW{m:Type}{N:[ol]}{i:Int}{v:m}(h:kB N i=Z v):∃j,[cj,JI i N.length=Z j,N[j]?=Z v,j<N.length,-[ar,N.length]≤i,i<N.length]:=by unfold kB at h;cases e:pR N.length i with|none=>rw[43,e]|some j=>rw[e]at h;obtain⟨g,r,P,w⟩:=VD e;rw[37,j,g,h,r,P,w]
theorem VE{m:Type}{N:[ol]}{j:Nat}{v:m}(h:N[j]?=Z v):kB N [ar,j]=Z v:=by
 have U:j<N.length:=[d0,h];have e:pR N.length [ar,j]=Z j:=by unfold pR;rw[(aI [ac]),(aI [ac])];simp
 unfold kB;rw[4,e,h]
theorem Dl{m:Type}(N:[ol])(v:m):kB (N++[v]) (-1)=Z v:=by
 have X:[b9,N++[v],N.length+1]:=[al];have e:pR (N++[v]).length (-1)=Z N.length:=by unfold pR;rw[X,[CO],(aI [ac])];congr 1;omega
 unfold kB;rw[e];show(N++[v])[N.length]?=Z v;simp
def VF(b:bc):Prop:=[ab2]
def zT(X:Cx)(r:R2):Prop:=∀(a e:bc)(B:[bF])(s:aq)(w:St)(H:Hp)(x y:V)(v u:ae)(Q:VK),[cI,[iw],bw x v,bw y u,r x y H Q,BS e false v u=operate [v,u] (qN v u)→[iZ,SU a e v u,[Kl],s]]
def pS(X:Cx)(c:String)(r:[Dw]):Prop:=[adG]
section
variable{X:Cx}{a b:bc}{ta tb:TE}{pos:Pos}
theorem fQ{r:R2}(c:zT X r)(ha:[AO])(K:[Il])(G:VF b):PE X [Cd,a,b,pos] (h9 r ta tb):=by rw[68];exact JD [U9,c a b B P w M x y v u Q p L A q (G _ _)]
def LY(K:aF):R2:=[acI,ax]
def rz(K:aF):R2:=[acI,bM]
theorem ni:zT X (LY X.K):=by
 rw[233,I.list];by_cases h0:0≤i
 ·have U:i.toNat=j:=by rw[seqIndex_of h0 k]at g;exact[dj,g]
  exact item_listR f.isList h0 [ac] (by rw[U];simpa using n) C G
 ·have U:(i+[ar,m.toArray.size]).toNat=j:=by rw[seqIndex_neg [ac] e]at g;rw[dN,←c];exact[dj,g]
  exact subscriptTail_builtinR (x:=w) f.isList.typeIs slot_list_getitem.lookup (wpAny_getItem_list_neg (Q:=λ r d=>r=w∧EP X B b Q r d) f.isList [ac] (by rw[dN]<;>omega) [ac] (by rw[U];simpa using n) [md,C]) G
theorem j4:zT X (rz X.K):=by rw[233,I.tuple];exact subscriptTail_builtinR (x:=w) f.typeIs slot_tuple_getitem.lookup (getItem_tuple (j:=j) (Q:=λ r d=>r=w∧EP X B b Q r d) f [ac] [ac] (by rw[dN,←c];exact g) [aB,n] [md,C]) G
theorem VG(c O:[sw])(n:Nat):(vM c O none n).1=[aN,HT.bz n 0 c]∧(vM c O none n).2.1=[aN,HT.bz n n O]∧(vM c O none n).2.2=1:=by
 refine[tJ,?_,?_];·cases c with|none=>simp[vM,HT.bz]|some i=>rw[235]
 ·cases O with|none=>simp[vM,HT.bz]|some i=>rw[235]
theorem VH(m:[bu])(c O:[sw]):slicePick m.toArray c O none=[Ub,m.drop (HT.bz m.length 0 c),HT.bz m.length m.length O-HT.bz m.length 0 c]:=by obtain⟨g,r,P⟩:=VG c O m.toArray.size;unfold slicePick;rw[g,r,P];simp only[sliceRange_one,pick_run,dN]<;>rfl
def VI(K:aF):[Qt]:=λ x c O H Q=>∃a N,x=[bi]∧ax K H a N∧[OB,.aj (dB N c O)]
theorem wz:zS X (VI X.K):=by intro B s w H x v f k c O e Q I L G d y h;obtain⟨a,N,rfl,A,q⟩:=h;cases L;obtain⟨m,r,F,M⟩:=[mt,A];have K:=r.length;rw[3,⟨[ry],_,slot_list_getitem.lookup,F.isList.typeIs,?_⟩,wpAny_getItem_list_slice F.isList G d y .none [al] ?_ (by rw[dN]<;>omega)];rw[VH,←K];refine[Xb,[abZ,.aj,dB N c O],q];exact⟨bf (Dk N c O) M,_,0,[aaD,r.drop,c,O],[pu]⟩
def oJ:[ii,V]|.bh=>true|.bl _=>true|.int _=>true|.str _=>true|_=>false
def kD:V→[ii,V]|.bh,.bh=>true|.bl a,.bl b=>a==b|.bl a,.int b=>[FQ,a,0]==b|.int a,.bl b=>a==[FQ,b,0]|.int a,.int b=>a==b|.str a,.str b=>a==b|_,_=>false
theorem VJ{A:bP}{s:aq}{y x:V}{u v:ae}(c:bw y u)(L:bw x v)(f:oJ y=true)(d:oJ x=true):pz A s u v (kD y x):=by cases y with|bh=>cases c;rw[167,SeqAt.EqAt.same _,SeqAt.EqAt.none_bool b,SeqAt.EqAt.none_int b t,SeqAt.EqAt.none_str b t]|bl a=>cases c;rw[167,SeqAt.EqAt.bool_none a,SeqAt.EqAt.bool_bool a b,SeqAt.EqAt.bool_int a b t,SeqAt.EqAt.bool_str a b t]|int a=>obtain⟨Y,rfl⟩:=c;rw[167,SeqAt.EqAt.int_none a Y,SeqAt.EqAt.int_bool a Y b,SeqAt.EqAt.int_int a Y b t,SeqAt.EqAt.int_str a Y b t]|str a=>obtain⟨Y,rfl⟩:=c;rw[167,SeqAt.EqAt.str_none a Y,SeqAt.EqAt.str_bool a Y b,SeqAt.EqAt.str_int a Y b t,SeqAt.EqAt.str_str a Y b t]|_=>rw[127,f]
def jy(x:V)(u:ae):Bool:=match u with|.none=>kD .bh x|.bool b=>kD (.bl b) x|.int i _=>kD (.int i) x|.str z _=>kD (.str z) x|_=>false
theorem LZ{x y:V}{u:ae}(r:bw y u)(f:oJ y=true):jy x u=kD y x:=by cases y with|bh=>cases r;rfl|bl b=>cases r;rfl|int i=>rw[81];rfl|str z=>rw[81];rfl|_=>rw[127,f]
theorem wA{x:V}:[abU,W.any (jy x)=N.any λ y=>kD y x]|_,_,.nil,_=>J|y::N,u::W,.cons r t,f=>by rw[vG,dO]at f;rw[k8,k8,LZ r f.1,wA t f.2]
theorem wB{A:bP}{s:aq}{x:V}{v:ae}(L:bw x v)(a:oJ x=true):[abU,∀u∈W,pz A s u v (jy x u)]|_,_,.nil,_=>λ u o=>by cases o|y::N,u::W,.cons r t,f=>λ g o=>by rw[vG,dO]at f;rcases[d9,o]with rfl|o;rw[11,LZ r f.1,VJ r L f.1 a];·exact wB L a t f.2 g o
def i2(x:V)(N:[aw]):Bool:=N.any λ y=>kD y x
def Dq(K:aF)(g:Bool):R2:=λ x y H Q=>∃p N,[cj,y=[iv],ax K H p N∨bM K H p N,oJ x=true,N.all oJ=true,Q (.bl [J9,g,! i2 x N,i2,x,N]) H]
theorem Dr:dz X (f9 .In) (Dq X.K false):=by rw[270,SeqAt.in_listAt,SeqAt.in_tupleAt]
theorem L0:dz X (f9 .NotIn) (Dq X.K true):=by rw[270,SeqAt.notIn_listAt,SeqAt.notIn_tupleAt]
theorem VL:gP X [Mr] (λ N H Q=>∃p G,N=[[iv]]∧(ax X.K H p G∨bM X.K H p G)∧[UU,Q,.aj G]):=by
 rw[125];obtain⟨p,G,rfl,D,q⟩:=h;rw[162];cases L;have C:∀(m:[bu]),be G m→G.length≤aQ→∀(S:aE)(c:Nat),(∀b O,[zX]=Z O→[pi,b]=Z O)→[pi,s.heap.objs.size]=[QU,[Mr],.seq m.toArray c]→EP X B w Q [pQ] [ln,S]:=λ m A M S c kp e=>[Xb,I.laid (t':=s.toks) kp (ba _) [Qz,_,S,_,.aj G,⟨M,m,c,A,e⟩],q]
 rcases D with D|D;·obtain⟨m,A,d,M⟩:=[mt,D];rw[238,d.isList,[de],C m A M S c kp e]
 ·obtain⟨m,A,d,M⟩:=[wT,D];rw[238,d,.inr J,C m A M S c kp e]
theorem L1:gP X [Kc] (λ N H Q=>∃p G,N=[[iv]]∧((ax X.K H p G∧[jb,l8 G,[UU,Q,.tup G]])∨(bM X.K H p G∧Q [iv] H))):=by
 rw[125];obtain⟨p,G,rfl,h⟩:=h;rw[162];cases L;rcases h with⟨D,aH,q⟩|⟨D,q⟩;·obtain⟨m,A,d,M⟩:=[mt,D];have K:=A.length;refine call_tuple_list d.isList (λ S kp=>?_) (by simp only[dN]<;>omega);have a:[lB,w,H,[ln,S]]:=I.kept (t':=s.toks) kp;have c:[lB,w,[j0,H,S.objs.size,G],[ln,S.push [NM,m.toArray]]]:=a.laid (t':=s.toks) [FD,e] (ba _) [Qz,_,_,_,.tup G,⟨⟨M,aH⟩,m,A,IsTup.new _ _⟩];rw[9,.ref S.objs.size,_,c,J,q _ (a.aH.fresh (ba _))]
 ·obtain⟨m,A,d,M⟩:=[wT,D];exact call_tuple_same d [jp,[iv],H,I,q]
def Ds(K:aF)(T:String)(x:V)(H:Hp):Prop:=match x with|.str _=>T="str"|.int _=>T="int"|.ref p=>(T=[ry]∧∃N,ax K H p N)∨(T="tuple"∧∃o,[nM,p]=Z o∧o.cls=[Kc]∧o.dict=none)∨(T="dict"∧((∃Y,H p=Z (.dK Y))∨∃Y,H p=Z (.dT Y)))∨(T="set"∧∃S n,H p=Z (.set S n))|_=>False
theorem L3{B:[bF]}{w:St}{H:Hp}{s:aq}{T:String}{x:V}{v:ae}(I:[iw])(r:bw x v)(k:Ds X.K T x H):[C2,v,T]∧∀a,v=[bi]→∃f,[gX,a]=Z f∧f.dict=none:=by
 cases x with
  |str z=>rw[81];cases[db,T,"str",k];rw[0,tp s z t,λ _ e=>nomatch e]
  |int i=>rw[81];cases[db,T,"int",k];rw[0,typeIs_int s i t,λ _ e=>nomatch e]
  |ref p=>
   cases r;rcases k with⟨rfl,N,D⟩|⟨rfl,o,C,b,d⟩|⟨rfl,C⟩|⟨rfl,S,n,C⟩;·obtain⟨m,_,g,_⟩:=[mt,D];rw[15,g.isList.typeIs,λ a e=>?_];cases e;obtain⟨o,n,e,c,d,_⟩:=g;rw[1,o,e,d]
   ·rw[15,⟨o,I.e9 p o C,b⟩,λ a e=>?_];cases e;rw[1,o,I.e9 _ o C,d]
   ·have z:∃o,[gX,p]=Z o∧o.ExactDict:=by
     rcases C with⟨Y,C⟩|⟨Y,C⟩;·rw[319]
     ·rw[319]
    obtain⟨o,e,ex⟩:=z;rw[314]
   ·obtain⟨o,_,_,_,e,ex,_⟩:=I.aH p _ C;rw[314]
  |_=>exact js k
def VM(K:aF)(T:String)(r:[Dw])(o:TE):TE:=[De,o,Ds K T x a∧r x [] a Q]
def Dt(K:aF)(T:String)(r:[Dw])(o:TE)(t:TA):TE:=[De,o,Ds K T x a∧t w a λ N M=>r x N M Q]
variable{o e:bc}{es:[ly]}{to:TE}{t:TA}{name:Str}{apos cpos:Pos}{T id:String}{r:[Dw]}
theorem VN(e:PlainAttrs T)(slot:Slot T name id)(m:[aba,id])(N:pS X id r)(E:PE X o to)(j:[Es,o,name]:=by rfl)(f:(apos.endLine==cpos.line)=true:=by rfl):(PE X (.Call (.Attribute o name apos) [] [] cpos) (VM X.K T r to)):=by rw[58,wpAny_Call_method0_late j f (bj (E B s w H _ I h) λ v Y⟨x,b,d,c,k,n⟩=>?_)];obtain⟨g,a⟩:=L3 d c k;exact⟨T,id,e,slot,m,g,a,Bn J (PySem.evalArgs_none (N B Y w b x [] v [] Q d c .nil n))⟩
theorem mj(i:PlainAttrs T)(slot:Slot T name id)(m:[aba,id])(N:pS X id r)(E:PE X o to)(ha:PA X (e::es) t)(j:[Es,o,name]:=by rfl)(u:[ZJ,cpos,e::es,e::es]:=by rfl)(l:(apos.endLine==cpos.line)=true:=by rfl)(G:[ND]:=by rfl)(q:[aX,[W5,cpos,es]]:=by rfl):(PE X (.Call (.Attribute o name apos) (e::es) [] cpos) (Dt X.K T r to t)):=by rw[58,wpAny_Call_method_late j u l J (bj (E B s w H _ I h) λ v Y⟨x,b,f,d,k,n⟩=>?_)];obtain⟨g,a⟩:=L3 f d k;refine⟨T,id,i,slot,m,g,a,?_⟩;have O:=ha cpos B Y w b _ f n;rw[G]at O⊢;refine Bn (by show(false||(g_ cpos (cO es X.env)).any (·.1))=false;rw[q]<;>rfl) (IM ?_);exact bj O λ W P⟨U,M,p,S,c⟩=>N B P w M x U v W Q p d S c
end
end L2
namespace L2
open PySem PySem.Spec PyProof.Rows
def zU(X:Cx)(c:String)(r:[Dw]):Prop:=[adG]
theorem be.one:∀{x:V}{W:[bu]},be [x] W→∃u,W=[u]∧bw x u|_,_,.cons r .nil=>[dL,r]
theorem be.zero:∀{W:[bu]},be [] W→W=[]|_,.nil=>J
theorem be.dropLast{N:[aw]}{W:[bu]}(h:be N W):be N.dropLast W.dropLast:=by induction h with|nil=>rw[63]|cons r t T=>cases t with|nil=>rw[63]|cons q Y=>exact(.cons r T)
theorem be.eraseIdx:∀{N:[aw]}{W:[bu]}(i:Nat),be N W→be (N.eraseIdx i) (W.eraseIdx i)|_,_,_,.nil=>.nil|_,_,0,.cons _ t=>t|_,_,i+1,.cons r t=>(.cons r (be.eraseIdx i t))
theorem be.reverse{N:[aw]}{W:[bu]}(h:be N W):be N.reverse W.reverse:=by induction h with|nil=>rw[63]|cons r t T=>rw[12,R8,R8,be.append T [o0,r]]
theorem VO{m:Type}(l:[ol]):l.eraseIdx (l.length-1)=l.dropLast:=by
 induction l with
  |nil=>rfl
  |cons a r T=>
   cases r with
    |nil=>rfl
    |cons b r=>
     have e:(a::b::r).length-1=((b::r).length-1)+1:=by have g:[b9,a::b::r,r.length+2]:=J;have c:[b9,b::r,r.length+1]:=J;omega
     rw[e,List.eraseIdx_cons_succ,T];all_goals rfl
section
variable{X:Cx}{pins:[bF]}{σ:St}{H:Hp}{s:aq}{l b:ab}{xs ys zs:[aw]}
theorem Inv.Du{m its':[bu]}{n:Nat}{f:Array ae→[lc]}{Y:Nat}(I:[bH])(a:H l=Z (.aj xs))(e:[gX,l]=Z [aaa])(F:f m.toArray=its'.toArray)(y:be ys its')(M:ys.length≤aQ):[j4,ag H l (.aj ys),[qU,s.heap.update l (jM f),Y]]:=by have q:=PySem.IsL.update e f;rw[F]at q;refine I.write (x:=l) (e:=l) [ap,a,mU] [de] (λ P u K o=>((Bo s.heap (jM f) (ja K)).trans o)) [eD,q] ?_;rw[9,M,its',_,y,q]
theorem Inv.VQ{m:[bu]}{t':Nat}(I:[bH])(y:be ys m)(M:ys.length≤aQ):[j4,[QK,.aj ys],[qU,[NA,[ry],.seq m.toArray],t']]:=I.laid (λ _ _ q=>cG _ q) (ba _) ⟨M,m,0,y,[pu]⟩
theorem Inv.fresh(I:[bH]):[K0,H]=none:=[ED]
theorem Inv.uf(I:[bH])(a:H l=Z (.aj xs)):xs.length≤aQ∧∃(m:[bu])(n:Nat),be xs m∧xs.length=m.length∧[gX,l]=Z [aaa]:=by obtain⟨z,m,n,r,e⟩:=I.aH l _ a;rw[37,z,m,n,r,r.length,e]
theorem VR{n:Nat}(h:n≤aQ):[aX,Rt n]:=by unfold Rt;exact[lu]
end
section
variable{X:Cx}
def L4:[Dw]:=[ade,[y],N.length<aQ,.bh,N++[y]]
theorem pT:zU X "list.append" L4:=by rw[220];obtain⟨l,N,y,rfl,rfl,b,M,q⟩:=h;cases L;obtain⟨u,rfl,C⟩:=O.one;rw[173,b];rw[3,yV F.slot_list_append [rJ,e] F.entry_list_append (F.args_list_append_2 _ _) (PySem.list_append l m.toArray n u [e9,dN]) [rp,e],[adw,[u],b,[o0,C]]];rw[dh,RI];omega
def L5:[Dw]:=λ x U H Q=>[ad2,U,[.ref b],Q .bh (ag H l (.aj (N++i)))]
theorem L6:zU X "list.extend" L5:=by
 rw[220];obtain⟨l,b,N,i,rfl,rfl,g,d,M,q⟩:=h;cases L;obtain⟨u,rfl,C⟩:=O.one;cases C;rw[173,g];obtain⟨P,f,D,S,E,e2⟩:=I.uf d;have c:m.toArray.size+f.toArray.size≤aQ:=by rw[dN,dN];omega
 have k:¬(! m.toArray.isEmpty&&Rt (m.toArray.size+f.toArray.size))=true:=by rw[12,VR c,Bool.and_false,eQ]
 rw[3,yV F.slot_list_extend [rJ,e] F.entry_list_extend (F.args_list_extend_2 _ _) (AutoSeq1.list_extend_list_list_0 l m.toArray n b f.toArray D k [e9,dN] [ac]) [pv,e,e2],[adw,f,g,S]];rw[dh];omega
def VS:[Dw]:=[ade,[],N[N.length-1]?=Z y,y,N.dropLast]
theorem VT:zU X "list.pop" VS:=by
 rw[220];obtain⟨l,N,y,rfl,rfl,c,b,q⟩:=h;cases L;have Y:=O.zero;subst Y;rw[173,c];obtain⟨u,o,C⟩:=r.get b;have f:m.toArray[m.toArray.size-1]?=Z u:=by show m.toArray[m.length-1]?=Z u;rw[←o7,←a];exact o
 rw[3,yV F.slot_list_pop [rJ,e] F.entry_list_pop (F.args_list_pop_1 _) (MeetsSeq.list_pop_last l m.toArray n u f [e9,dN]) [rp,e],⟨y,_,I.Du (its':=m.dropLast) c e ?_ r.dropLast ?_,C,q⟩];·show m.toArray.eraseIdxIfInBounds (m.toArray.size-1)=m.dropLast.toArray;rw[dN,List.eraseIdxIfInBounds_toArray,VO]
 ·rw[27,IQ]
def VU:R2:=λ x y H Q=>[ad2,y,.ref b,[OB,.aj (N++i)]]
theorem wC:dz X (qL .Add) VU:=by rw[96];obtain⟨l,b,N,i,rfl,rfl,d,c,M,q⟩:=h;cases L;cases A;rw[173,d];obtain⟨P,F,D,S,E,e2⟩:=I.uf c;refine PySem.P.add_list e e2 ?_ (by rw[dN,dN];omega);have ea:m.toArray++F.toArray=(m++F).toArray:=[al];rw[4,ea,[jp,.ref _,_,I.VQ (t':=s.toks) (r.append S) [e9,dh],q _ I.fresh]]
end
section
variable{prog:aY}{w:aU}{A:bP}{E:[aT]}{s:aq}
end
section
variable{X:Cx}
end
end L2
namespace L2
open PySem PySem.Spec PyProof.Rows
theorem be.ints:∀{f:[bv]}{W:[bu]},be [Pq] W→om W f|[],W,h=>by rw[vI]at h;rw[6,h,IntsAre.nil]|n::f,W,h=>by rw[bO]at h;cases h with|cons r t=>obtain⟨k,rfl⟩:=r;exact IntsAre.cons n k (be.ints t)
theorem be.Dv:∀{S:[kw]}{W:[bu]},be (S.map V.bl) W→W=S.map pl|[],W,h=>by rw[43,vI];rfl|b::S,W,h=>by rw[bO]at h;cases h with|cons r t=>cases r;rw[be.Dv t,bO]
theorem be.pU{a:ab}{W:[bu]}(r:be [gt,a] W):W=[[j5,a]]:=by cases r with|cons r t=>rw[61,t,r];rfl
section
variable{prog:aY}{w:aU}{A:bP}{E:[aT]}{s:aq}{l:ab}{its:[bu]}{ns:[bv]}{Q:[aT]}
theorem VV(W:[wg])(X:[u9,l,its.toArray])(O:om its ns)(h:∀S G Y,([uf,[pi,b]])→Q (.int ns.sum Y) [pN,S]):[fQ,call [oD,"sum"] [[lf]]]:=by
 rw[273];rw[e]at X;refine PySem.sum_intListG W X λ S G Y C=>?_
 have:=h S G Y C;rw[preSum_eq,sO [al],hn];rw[65]
theorem VW(W:[wg])(X:[u9,l,its.toArray])(O:om its ns)(c:0<ns.length)(h:∀S G M Y,(([uf,[pi,b]])→M∈ns→(∀a,a∈ns→a≤M)→Q (.int M Y) [pN,S])):[fQ,call [Pb] [[lf]]]:=by
 rw[273];subst hn;rw[e]at X;have d:0<N.size:=[aB,c];refine PySem.max_intList W X d λ v S G y C=>?_
 obtain⟨t,rfl⟩:=intItems_at y;obtain⟨g,r⟩:=argBest_gt (numAt N) (N.size-1);refine h S G _ t C ?_ [Kv];rw[11,numAt_eq,PySem.getD_mem (by rw[aC,nR];omega)];·obtain⟨j,U,rfl⟩:=mem_getD ha;rw[aC,nR]at U;rw[23,numAt_eq,r j [ac]]
end
section
variable{X:Cx}
def VX(K:aF):[C9]:=[acU,Q (.int f.sum) H]
def VY(K:aF):[C9]:=[acU,0<f.length∧∀m,m∈f→(∀y,y∈f→y≤m)→Q (.int m) H]
theorem VZ(V:[p_]):gP X [oD,"sum"] (VX X.K):=by rw[129];obtain⟨a,f,rfl,G,q⟩:=h;obtain⟨m,O,b,_⟩:=[mt,G];rw[4,be.pU r,VV [tW] b.isList O.ints λ S c Y C=>⟨.int _,H,I.kept C,[pM],q⟩]
theorem V0(V:[p_]):gP X [Pb] (VY X.K):=by rw[129];obtain⟨a,f,rfl,G,l,q⟩:=h;obtain⟨d,O,c,_⟩:=[mt,G];rw[4,be.pU r,VW [tW] c.isList O.ints l λ S e m Y C g b=>⟨.int _,H,I.kept C,[pM],q m g b⟩]
end
section
variable{X:Cx}
end
section
variable{X:Cx}
end
theorem Dw{prog:aY}{w:aU}{A:bP}{E:[aT]}{s:aq}{l:ab}{m:[lc]}{Q:[aT]}(X:[u9,l,m])(h:∀j:aq,(j=[ln,[NA,"list_iterator",[vh,#[.ref l,.int 0 0]]]]→(j.heap.IsListIter s.heap.objs.size l 0∧j.heap.IsList l m)→l≠s.heap.objs.size→Q [pQ] j)):[fQ,vU [lf]]:=by
 have a:[pU,l]:=by obtain⟨_,e,_⟩:=X;exact bR e
 exact wpAny_pyIter_list X (h _ J ⟨[NN],X.push _⟩ (dY a))
theorem L7{prog:aY}{w:aU}{A:bP}{S:[kw]}{m:[bu]}(e:m=S.map pl):TruthOf prog w A (λ i v=>m.toArray[i]?=Z v) (λ i=>[Tp]):=λ i v s Q E y D=>by
 have a:m[i]?=Z v:=[aB,y];rw[e,cJ]at a;obtain⟨b,K,rfl⟩:=[Q_,a];have j:[Tp]=b:=by rw[iB,K]<;>rfl
 have o:Q [Tp] s:=D;rw[j]at o;exact mN o
theorem any_range:∀S:[kw],[rc,S.length].any (λ i=>[Tp])=S.any id|[]=>J|b::S=>by rw[dP,RF,k8,List.any_map,k8,←any_range S];all_goals rfl
theorem all_range:∀S:[kw],[rc,S.length].all (λ i=>[Tp])=S.all id|[]=>J|b::S=>by rw[dP,RF,vG,SG,vG,←all_range S];all_goals rfl
section
variable{X:Cx}
def V1(K:aF):[C9]:=[acD,S.any]
def V2(K:aF):[C9]:=[acD,S.all]
theorem zV(V:[p_]):gP X [oD,"any"] (V1 X.K):=by rw[337,call_any_walk,⟨_,_,_,_,_,_,_,J,[Z4,[tW],l],L,L7 K,λ S e C=>?_⟩,any_range]
theorem V3(V:[p_]):gP X [oD,"all"] (V2 X.K):=by rw[337,call_all_walk,⟨_,_,_,_,_,_,_,J,[Z4,[tW],l],L,L7 K,λ S e C=>?_⟩,all_range]
end
mutual inductive Dp(K:aF)(H:Hp):[dF,V,lg]|bh:Dp K H .bh .none|bl(b:Bool):Dp K H (.bl b) (.bool b)|int(i:Int):Dp K H (.int i) (.int i)|str(x:Str):Dp K H (.str x) (.str x)|aj{a:Addr}{xs:[aw]}{ds:List PyData}:ax K H a xs→ml K H xs ds→Dp K H [bi] (.list ds)|tup{a:Addr}{xs:[aw]}{ds:List PyData}:bM K H a xs→ml K H xs ds→Dp K H [bi] (.tuple ds)inductive ml(K:aF)(H:Hp):[dF,[aw],List lg]|nil:ml K H [] []|cons{v:V}{vs:[aw]}{d:PyData}{ds:List PyData}:Dp K H v d→ml K H vs ds→ml K H (v::vs) (d::ds)end
section
variable{X:Cx}{pins:[bF]}{σ:St}{H:Hp}{s:aq}
mutual theorem Dp.reads(I:[bH]):∀(d:lg)(v:V)(u:ae),Dp X.K H v d→bw v u→∃as,Reads s.heap u d as
 |.none,_,_,h,r=>by rw[61,h,r];rw[29,Reads.none]
 |.bool b,_,_,h,r=>by rw[61,h,r];rw[29,Reads.bool b]
 |.int i,_,_,h,r=>by cases h;rw[81];rw[29,Reads.int i t]
 |.str x,_,_,h,r=>by cases h;rw[81];rw[29,Reads.str x t]
 |.list ds,_,_,h,r=>by cases h with|aj hs ha=>cases r;obtain⟨its,rv,⟨o,n,ho,hc,_,hd⟩,_⟩:=[mt,hs];rw[356,Reads.list]
 |.tuple ds,_,_,h,r=>by cases h with|tup hs ha=>cases r;obtain⟨its,rv,⟨o,ho,hc,n,hd⟩,_⟩:=[wT,hs];rw[356,Reads.tuple]
 |.dict _,_,_,h,_=>by cases h theorem Dp.readsAll(I:[bH]):∀(ds:List lg)(vs:[aw])(us:[bu]),ml X.K H vs ds→be vs us→∃as,ReadsAll s.heap us ds as|[],_,_,h,r=>by rw[61,h,r];rw[29,ReadsAll.nil]|d::ds,_,_,h,r=>by cases h with|cons h1 h2=>cases r with|cons r1 r2=>obtain⟨as,q1⟩:=Dp.reads I d _ _ h1 r1;obtain⟨bs,q2⟩:=Dp.readsAll I ds _ _ h2 r2;rw[29,ReadsAll.cons q1 q2]end
end
section
variable{X:Cx}
def Dx(K:aF):R2:=[acy,i9 d e]
def L8(K:aF):R2:=[acy,! i9 d e]
theorem L9(o:[Ic,64]):dz X (f9 .Eq) (Dx X.K):=[acn,SeqAt.compareEq_shaped]
theorem V4(o:[Ic,64]):dz X (f9 .NotEq) (L8 X.K):=[acn,SeqAt.compareNe_shaped]
end
end L2
namespace L2
open PySem PySem.Spec PyProof.Rows
abbrev L_(h:aE)(c:ab)(v:[Am]):Prop:=h.IsCell c v
def V5(l sc:dR):dR:={l with names:=l.names.map λ(n,k)=>if(k==.free&&sc.kind==[Ce]&&[DP,n]==(Z .cell))then(n,.cell)else(n,k)}
def ef(s:[pp]):[er,Str×jN,[er,Str×ab,[pp]]]|[],acc=>acc|(n,k)::r,acc=>if k==.free then ef s r ((n,(s.lookup n).getD 0)::acc)else ef s r acc
theorem Mb(env:Env)(f:Str×jN→[er,Str×ab,Sem (ForInStep [pp])])(F:∀n k c,[B6,f (n,k) c,k==.free,do
 let a←cellOf env n;
 pure (.yield ((n,a)::c)),pure (.yield c)]):∀(names:[io,jN])(t:[pp]),(∀y∈names,y.2=.free→∃c,env.cells.lookup y.1=Z c)→forIn names t f=pure (ef env.cells names t)
 |[],t,_=>[fy,BJ]
 |(n,k)::r,t,h=>by
  rw[sY,F];have T:=λ t=>Mb env f F r t λ y b=>h y (cp _ b)
  unfold ef;by_cases C:(k==NameKind.free)=true
  ·rw[aI C,aI C];obtain⟨c,V⟩:=h (n,k) cq [aB,C];have e:cellOf env n=pure c:=by unfold cellOf;rw[V]
   rw[e];have e2:(env.cells.lookup n).getD 0=c:=[fy,V];rw[4,e2,T _]
  ·rw[12,aD C,aD C,T _]
theorem Dy{l:dR}{env:Env}(h:[aaK,∃c,env.cells.lookup y.1=Z c]):closureFor l env=pure (ef env.cells l.names []):=by simp only[closureFor];rw[Mb env _ (λ n k c=>J) l.names [] h];rfl
theorem mem_lookup{m:Type}:∀{l:[io,m]}{n:Str}{c:m},(n,c)∈l→∃s,l.lookup n=Z s
 |(k,v)::r,n,c,h=>by
  rw[nY];cases K:n==k with
   |true=>rw[29,J]
   |false=>
    rw[178];·cases e;simp at K
    ·exact mem_lookup h
theorem zW{s:[pp]}:∀{names:[io,jN]}{t:[pp]}{n:Str}{c:ab},(n,c)∈ef s names t→(n,c)∈t∨((n,.free)∈names∧c=(s.lookup n).getD 0)
 |[],_,_,_,h=>[lz]
 |(m,k)::r,t,n,c,h=>by
  unfold ef at h;split at h
  ·rename_i C;have C:k=.free:=[aB,C];rcases zW h with h|⟨g,a⟩
   ·rw[178];·rw[6,e,.inr [eJ,C▸cq]]
    rw[40,h]
   ·exact[jl,cp _ g,a]
  ·rcases zW h with h|⟨g,a⟩;rw[2,[lz],[jl,cp _ g,a]]
theorem Dz{s:[pp]}:∀{names:[io,jN]}{t:[pp]}{p:Str×ab},p∈t→p∈ef s names t|[],_,_,h=>h|(m,k)::r,t,p,h=>by unfold ef;split;rw[2,Dz (cp _ h),Dz h]
theorem DB{cells:[pp]}:∀{names:[io,jN]}{acc:[pp]}{n:Str},(n,.free)∈names→(n,(cells.lookup n).getD 0)∈ef cells names acc
 |(m,k)::r,acc,n,h=>by
  unfold ef;rw[178];·rw[6,e,Dz cq]
  ·split;rw[2,DB h,DB h]
theorem wD:∀{names:[io,jN]}{h:aE}{t:[pp]}{x:Str}{c:ab},(x,c)∈[Zy]→(x,c)∈t∨((x,.cell)∈names∧[Pr,c]∧L_ (pq h names) c none)
 |[],_,_,_,_,h=>[lz]
 |(n,k)::r,h,t,x,c,N=>by
  unfold fj at N;unfold pq;split at N
  ·rename_i C;rw[aI C];have C:k=.cell:=[aB,C];rw[←iR h [Al,"cell",.cell none]]at N;rcases wD N with N|⟨g,a,P⟩
   ·rcases[d9,N]with e|N;·rw[6,e,.inr ⟨C▸cq,ba _,_,BL r _ _ _ [pu],J⟩]
    rw[40,N]
   ·rw[iR]at a;exact[zf,cp _ g,Jb a,P]
  ·rename_i C;rw[aD C];rcases wD N with N|⟨g,a,P⟩;rw[73,N,⟨cp _ g,a,P⟩]
theorem zX:∀{names:[io,jN]}{n:Nat}{t:[pp]}{p:Str×ab},p∈t→p∈fj n names t|[],_,_,_,h=>h|(m,k)::r,n,t,p,h=>by unfold fj;split;rw[2,zX (cp _ h),zX h]
theorem DD:∀{names:[io,jN]}{n:Nat}{acc:[pp]}{x:Str},(x,.cell)∈names→∃c,(x,c)∈fj n names acc
 |(m,k)::r,n,acc,x,h=>by
  unfold fj;rw[178];·cases e;rw[0,n,zX cq]
  ·split;rw[2,DD h,DD h]
theorem DE:∀{names:[io,jN]}{h:aE}{t:[pp]}{x y:Str}{c:ab},[cI,∀p∈t,p.2<h.objs.size,∀x y c,(x,c)∈t→(y,c)∈t→x=y,(x,c)∈[Zy],(y,c)∈[Zy],x=y]
 |[],_,_,_,_,_,_,O,g,d=>O _ _ _ g d
 |(n,k)::r,h,t,x,y,c,X,O,g,d=>by
  unfold fj at g d;split at g
  ·rename_i C;rw[aI C]at d;rw[←iR h [Al,"cell",.cell none]]at g d;refine DE (h:=h.push _) [qp] (λ x y c a b=>?_) g d;·rw[iR];rcases[d9,R]with rfl|R;rw[2,qB _,o_ (X p R)]
   ·rcases[d9,a]with e|a<;>rcases[d9,b]with f|b;·rw[61,e,f];rfl
    ·cases e;rw[67,X _ b]
    ·cases f;rw[67,X _ a]
    ·exact O _ _ _ a b
  ·rename_i C;rw[aD C]at d;exact DE X O g d
theorem Md{M:tF}{A:bP}{E:[aT]}{s:aq}{l:dR}{g:ab}{e:[pp]}{N:Str}{f:[sB]}{a:ae}{d:Env}{b:ab}{Q:[on,Env]}(h:Q (newEnv l s.heap.objs.size g (fj [ge] l.names e) N f a (Z d) b) [ln,[Yb]]):az M A (newFunctionEnv l g e [] N f a (Z d) b) Q E s:=by simp only[newFunctionEnv,Option.isSome_some,il];rw[110,wpAny_alloc ?_,wpAny_layCells _ (λ n k c=>J) l.names e _ _ ?_];rw[[db,([ln,[XN]]:aq).heap.objs.size,[ge],iR ..]];rw[4,BJ,au (aW (aW h))]
theorem DG{sc:dR}:∀{names:[io,jN]}{x:Str}{k:jN},(names.map λ(n,k)=>if[Xv,k]then(n,NameKind.cell)else(n,k)).lookup x=Z k→∃d,names.lookup x=Z d∧(k=d∨(d=.free∧k=.cell))
 |[],_,_,h=>by rw[14]
 |(n,a)::r,x,k,h=>by
  have T:=@DG sc r x k;have S:qG x ([or,[Xv,a],(n,NameKind.cell),(n,a)]::(r.map _))=Z k:=h;cases A:x==n with
   |true=>
    simp only[nY,A];by_cases V:[Xv,a]=true;·rw[163,aI];cases S;simp only[dO,mS]at V;rw[1,a,J,.inr [eJ,V.1.1]]
    ·rw[163,aD];cases S;rw[36,J,[de]]
   |false=>
    simp only[nY,A];by_cases V:[Xv,a]=true;·rw[163,aI];exact T S
    ·rw[163,aD];exact T S
structure eg(N:[bd])(sc l:dR)(own:[Lu]):Prop where
 kind:l.kind=[Ce]
 uniq:∀y∈l.names,[Aw,y.1]=Z y.2
 ix:∀p∈own,N[p.2]?=Z p.1
 free:[aaK,[NF,[DP,y.1]]]
 own:∀y∈l.names,y.2=.local∨y.2=.cell→y.1∈own.map (·.1)∨y.1∉N
def wipe(w:St):[er,Nat,St]|[]=>w|v::U=>[zL].set v none
theorem zY(w:St):∀U:[ak],[b9,[zL],w.length]|[]=>J|v::U=>by unfold wipe;rw[List.length_set,zY w U]
theorem zZ{w:St}{i:Nat}{x:V}:∀{U:[ak]},[zL][i]?=Z (Z x)→w[i]?=Z (Z x)∧i∉U
 |[],h=>⟨h,[al]⟩
 |v::U,h=>by
  unfold wipe at h;by_cases O:v=i
  ·subst O;by_cases y:v<[zL].length;·rw[43,qx y]
   ·rw[43,sQ [aB,y]]
  ·rw[yA O]at h;obtain⟨g,r⟩:=zZ h;rw[0,g,by simp only[lU,not_or];rw[0,λ e=>O e.symm,r]]
abbrev Cx.cV(X:Cx)(s:aq)(H:Hp)(l:dR)(h:Env)(t:[aV]):Cx:={X with eV:=s,m9:=H,env:=h,outer:=X.stack,ex:=t,fn:=λ x=>[Aw,x]==(Z .cell),pn:=[],xe:=[Ay]}
section
variable{X:Cx}{pins:[bF]}{σ:St}{H:Hp}{s:aq}
theorem Me{l:dR}{O:[Lu]}{t:[aV]}(I:[bH])(E:[M6,l,O])(hN:X.N.Nodup)(S:∀b∈t,iY X pins H b∧[pU,b]):Inv (X.cV s H l [acY] t) [] (wipe σ (O.map (·.2))) H [ln,[Yb]]:=by
 have M:[W0]:=λ y h e=>by rw[154,E.free y h e,I.ok.has _ (.inl k),I.ok.has _ (.inr k)]
 generalize T:[acY]=F;have kp:[uf,[Yb].get? b]:=λ b o e=>BL _ _ _ _ (cG _ e)
 have A:[Tl,F.locals]:=by rw[←T];rfl
 have Y:F.cells=fj [ge] l.names [Os]:=by rw[←T];rfl
 have L:F.scope=V5 l X.env.scope:=by rw[←T];rfl
 rw[←iR s.heap [WW]]at Y;have U:∀{y c},(y,c)∈[Os]→[Aq,y]=Z c∧[pU,c]:=λ{y c}N=>by
  rcases zW N with N|⟨g,rfl⟩;·cases N
  ·obtain⟨c,hc⟩:=M _ g J;rw[hc];obtain⟨w,z⟩:=I.cell _ _ hc;rw[0,J,z.lt]
 have mem:∀{y c},[Ki]=Z c→([Aq,y]=Z c∧[pU,c])∨([ge]≤c∧L_ [Yb] c none):=λ{y c}e=>by rw[Y]at e;rcases wD (kh e)with N|⟨_,d,h3⟩;rw[40,U N];·rw[iR]at d;exact[jl,d,h3]
 have P:∀{y},[Aw,y]=(Z .free)→∃c,[Ki]=Z c∧[Aq,y]=Z c:=λ{y}f=>by
  have h:(y,NameKind.free)∈l.names:=kh f;obtain⟨u,j⟩:=mem_lookup (zX (names:=l.names) (n:=[XN].objs.size) (DB (cells:=X.env.cells) (acc:=[]) h));rw[←Y]at j;rw[24,u,j];rw[Y]at j;rcases wD (kh j)with N|⟨g,_,_⟩;·exact(U N).1
  ·rw[88,E.uniq _ g,f]
 have okB:(X.cV s H l F t).Ok:=by
  refine⟨I.ok.mod,by rw[25,F.scope.kind=_,L,E.kind],by show F.globals=_;rw[23,T,I.ok.glob],by show F.builtins=_;rw[23,T,I.ok.blt],by rw[25,[O4,F.locals],A,ba _],λ y z c e1 e2=>?_,λ y h=>?_,λ y c z e=>?_,I.ok.hd,I.ok.frames,[de],λ b K=>⟨?_,λ y c e z=>?_⟩,I.bs,bf I.ok.lr I.sz,λ b o e K=>?_,λ b K z=>?_,I.stack,I.wg⟩;·have e1:[Ki]=Z c:=e1;have e2:F.cells.lookup z=Z c:=e2;rw[Y]at e1 e2;rw[55,DE [qp] (λ y z c a b=>I.ok.inj y z c (U a).1 (U b).1) (kh e1) (kh e2),iR,o_ (U (y:=p.1) (c:=p.2) R).2]
  ·show∃c,[Ki]=Z c;have D:∀k,F.kindOf y=Z k→(k=.cell∨k=.free)→∃c,[Ki]=Z c:=λ k C Q=>by
    unfold Env.kindOf at C;rw[L]at C;obtain⟨x,e,r⟩:=DG C;have:x=.cell∨x=.free:=by rcases r with rfl|⟨rfl,_⟩;rw[2,Q,.inr J]
    rcases this with rfl|rfl;·obtain⟨c,N⟩:=DD (n:=[XN].objs.size) (acc:=[Os]) (kh e);obtain⟨u,j⟩:=mem_lookup N;rw[0,u,[ap,Y,j]]
    ·obtain⟨c,g,_⟩:=P e;rw[0,c,g]
   rcases h with h|h;rw[2,D _ h [de],D _ h (.inr J)]
  ·have z:([Aw,y]==Z NameKind.cell)=true:=z;have z:[Aw,y]=(Z .cell):=[aB,z];have e:[Ki]=Z c:=e;rw[Y]at e;rcases wD (kh e)with N|⟨_,d,_⟩
   ·rcases zW N with N|⟨g,_⟩;·cases N
    ·have q:=E.uniq _ g;rw[90,z]
   ·rw[iR]at d;exact Jb d
  ·rw[25,b≠F.locals,A,dY (S b K).2]
  ·rw[323];·exact(S b K).1.2.2.2.2.1 y c g z
   ·have d:[ge]≤b:=[cm,z,g];rw[67,dG (S b K).2 (Jb d)]
  ·rw[131,(S b K).1.2.2.2.1,I.ok.t7 b o e z,[gh,dG (bR e) (bf I.ok.lr z),g8 _]]
  ·rw[131,[d9,I.we b z],(S b K).1.2.1 z,(S b K).1.2.2.1 z]
 refine⟨okB,J,I.bare,Un.kept kp,⟨λ _=>none,?_,λ i y av e1 e2 B=>?_⟩,λ y c e=>?_,?_,λ y c e=>?_,[qp],I.aH.kept kp,[ap,zY,I.len]⟩;·rw[25,Heap.Ns _ F.locals _,A,Heap.Ns.keeps (Heap.Ns.new ..) λ b o e=>BL _ _ _ _ e]
 ·obtain⟨e2,v⟩:=zZ e2;have G:[Aw,y]=(Z .free)∧[NF,F.kindOf y]:=by
   have D:∀k,F.scope.names.lookup y=Z k→k=.local∨k=.cell∨k=.free→[Aw,y]=(Z .free)∧[NF,F.kindOf y]:=λ k C Q=>by
    have V:=C;rw[L]at C;obtain⟨x,e,r⟩:=DG C;have no:¬(x=.local∨x=.cell):=λ hh=>by
     rcases E.own _ (kh e) hh with j|j;·obtain⟨p,R,hpy⟩:=[bE,j];have B:=E.ix p R;have:p.1=y:=hpy;rw[this]at B;exact v [Bk,p,R,CI hN B e1]
     ·exact j (bt e1)
    rcases r with rfl|⟨rfl,rfl⟩
    ·rcases Q with rfl|rfl|rfl;·rw[8,[de],no]
     rw[2,[gh,.inr J,no],⟨e,.inr V⟩]
    ·rw[0,e,.inl V]
   have B:q0 F.scope y:=B;rcases B with B|B|B;·exact D _ B [de]
   rw[2,D _ B [Lq],D _ B [lD,J]]
  obtain⟨m,hn,f⟩:=I.loc;have W:q0 X.env.scope y:=(E.free _ (kh G.1) J).elim (λ k=>.inr (.inl k)) (λ k=>[lD,k]);obtain⟨w,r,q⟩:=f i y av e1 e2 W;rw[20,w,r,[jl,G.2,?_]];obtain⟨c,g,d⟩:=P G.1;rcases q with⟨k,_⟩|⟨_,u,j,z⟩;·have k:([J5,y]=[wn]):=k;rcases E.free _ (kh G.1) J with x|x<;>rw[[db,[J5,y],_,x]]at k<;>cases k
  ·rw[d]at j;cases j;rw[1,c,g,z.keeps kp]
 ·have e:[Ki]=Z c:=e;rcases mem e with⟨g,_⟩|⟨_,z⟩;·obtain⟨w,z⟩:=I.cell y c g;rw[0,w,z.keeps kp]
  ·rw[29,z]
 ·rw[25,H F.locals=none,A,[ED]]
 ·rw[323];rw[2,I.jY y c g,[CF,Jb g]]
 ·rw[8,show p∈[Fu,ab×Obj]++[]from R,[al]]
theorem Mf{E:[aT]}{D:ab}{N:[aw]}{y:V}{v:ae}{Q:[aT]}(I:[bH])(c:H D=Z (.aj N))(M:N.length<aQ)(r:bw y v)(h:∀d,([j4,ag H D (.aj (N++[y])),d])→Q .none d):[wY,X.A,call [oD,"list.append"] [.ref D,v]]:=by obtain⟨t,m,n,z,e⟩:=I.aH D _ c;have a:=z.length;rw[3,append_at (hsz:=[e9,dN]) e λ S g i=>?_,h [ln,S] (I.write (t':=s.toks) (by rw[c];trivial) [de] (λ b u K q=>[qP,g,K,q]) [eD,i] ⟨[ap,dh,M],m++[v],n+1,z.append [o0,r],?_⟩)];rw[i];simp
def pV(X:Cx)(a:[ly])(t:TT):Prop:=∀(pins:[bF])(s:aq)(σ:St)(H:Hp)(Q:[Dc,Hp]),(([bH])→(t σ H Q→[iZ,forIn a true λ c r=>[or,r,do
 let ok←yZ c X.env [ul,c];
 pure (n6 ok),pure (n6 r)],TP X pins σ Q,s]))
def Mg:TT:=λ _ H Q=>Q true H
theorem iv:pV X [] Mg:=[Uh,wpAny_tests_nil,⟨H,I,h⟩]
theorem wF{c:bc}{t:TT}(h:PT X c t):pV X [c] t:=λ pins s σ H Q I T=>wpAny_tests_one (h pins s σ H Q I T)
end
theorem mn{m:Type}{t:Sem m}{Q I:[on,m]}{M:tF}{A:bP}{E:[aT]}{s:aq}(h:az M A t Q [Ay] s)(p:∀a s,Q a s→I a s):az M A t I E s:=(gG h p λ _ _ z=>js z)
theorem Mi{prog:aY}{w:aU}{A:bP}{R:[on,y4]}{s:aq}{Q b iter:bc}{X:[ly]}{l:dR}{W:Pos}{f t:ae}{env:Env}(I:[wz,aq])(T:∀n s,(I n s→az [pr] A (kr f) (λ r L=>[Uj,r,R (.ok .next) L,v,[Ad,Jn b f v,λ _ k=>[Ad,vT b env v,λ _ j=>[Ad,forIn X true λ c r=>[or,r,do
 let E←yZ c env (eval c env);
 pure (n6 E),pure (n6 r)],λ E F=>[or,E,[Ad,eval Q env,λ x i=>[Ad,call [oD,"list.append"] [t,x],λ _ Y=>∃m,m<n∧I m Y,tz [pr] A env (λ e d=>R (.error e) d),i],tz [pr] A env (λ e d=>R (.error e) d),F],∃m,m<n∧I m F],tz [pr] A env (λ e d=>R (.error e) d),j],tz [pr] A env (λ e d=>R (.error e) d),k],tz [pr] A env (λ e d=>R (.error e) d),L]]) (tz [pr] A env (λ e d=>R (.error e) d)) s))(n:Nat)(h:I n s):mT [pr] A [ab_,.compLoop] R s:=by
 refine codeAny_loop J I (λ n s g=>?_) n h;show az _ A ([ab_,compTurn].onRaise (λ x=>do
  JK x env;
  theTreesLotGoes x)) _ _ s
 rw[42,wpAny_noted ?_,compTurn_list];rw[7,SV (au [Pf,T n s g,λ r L P=>?_])];cases r with|none=>exact aW P|some v=>rw[3,au [Pf,P,λ _ k p=>?_],au [Pf,p,λ _ j H=>au [Pf,H,λ E F B=>?_]]];cases E with|false=>exact aW [md,B]|true=>exact au (au [Pf,B,λ x i o=>au [Pf,o,λ _ Y a=>aW (aW [md,a])]])
section
variable{X:Cx}
def oK(f:TI)(g:TG)(B:TT)(k:TE)(U:[ak]):TE:=[rf,f,λ e c=>∀D,c D=none→∃W:Nat→[wz,Hp],(∃m,W 0 m [ni,c,D])∧∀i m H,W i m H→(e.stop i H∧Q (.ref D) H)∨(e.go i H∧∃l:[Cu],(∀a,l a→[Xo,a])∧∀x a,e.j1 i H x a→g x [zL] a λ d M=>[KF,d,k,l [Ly],l L])]
theorem Mj{B:[bF]}{s:aq}{w:St}{H:Hp}{Q:VK}{F tg iter:bc}{E:[ly]}{l:dR}{N:[Lu]}{f pos':Pos}{wi:TI}{g:TG}{tt:TT}{te:TE}{Y:[ZH]}{Qf:[aT]}(hc:[p_])(hN:X.N.Nodup)(I:[iw])(hi:[Nk,wi])(ok:[M6,l,N])(hg:[aav,PG,tg,g])(ht:[aav,pV,E,tt])(he:[aav,PE,F,te])(hs:[Mn])(h:oK wi g tt te (N.map (·.2)) w H Q)(hRR:[ad9,[lB,w,a,d],B]):[iZ,[adm,F,E],Qf,s]:=by
 have G:[W0]:=[acv];refine[abh,G,hi B s w H _ I h,λ itv s2 h2=>?_];rw[329,s2.heap.objs.size,s2,s2.heap.push,[lB,w,[ni,M,D],s3],s2.toks];have A:[aen,B]:=[adQ];rw[366,A,.compStart [Cy,F,E,l,f] 0 (.ref it) (.ref D) [ZR]];generalize hH3:[ni,M,D]=L at I3 I4 pg pt pe w0 nfp A;rw[380];have O:[acx]:=[acm];have P:[ac9,F,E,[ZO]]:=by
  rw[242,Mi (λ n d=>∃i a,Inv (X.cV s3 L l ce t) [] (wipe w (N.map (·.2))) a d∧tn i d.heap∧(∀b∈t,a b=none)∧W i n a) ?_ m0 ⟨0,L,I4,st4,nfp,w0⟩,turn i n V w5];·rw[234,T.done [DO] rfl rfl rfl hc i [] s5 _ V [Ay] I5 (O I5 n5) st5 stop,[lB,w,V,s6],[ac3,A b K],[abG]]
  ·have ti:=T.item [DO] rfl rfl rfl hc i [] s5 _ V [Ay] I5 (O I5 n5) st5 go;rw[334,O,Inv [DO] [] (wipe w (N.map (·.2))) a d,[abe,hNx a nx,s7.heap.get? b=Z o→d.heap.get? b=Z o∧a b=none,I'.pin (b,o) (iQ _ (iQ _ (zH K e))),⟨z.1,z.2.1⟩,[b9,(wipe w (N.map (·.2))),R.length],[abg],zZ e,T.obj _ _ S b K,U b K o e],mn (pe _ s9 R H9 _ I9 q9) [abP],I10]
 exact[abY,P]
theorem jz{u tg iter:bc}{r:[ly]}{l:dR}{own:[Lu]}{W:Pos}{z:TI}{g:TG}{i:TT}{k:TE}(V:[p_])(v:X.N.Nodup)(O:[Nk,z])(E:[M6,l,own])(j:[Bj,PG,l,tg,g])(F:[Bj,pV,l,r,i])(R:[Bj,PE,l,u,k])(G:[Mn]:=by intro _;rfl):PE X [Cy,u,r,l,W] (oK z g i k (own.map (·.2))):=by rw[68];rw[333,Mj V v I O E j F R G h λ D C d m a S q hn f=>⟨m,hn,λ L y=>?_⟩]
theorem ug{i:Nat}{y:Str}{P:Pos}{Q tg iter:bc}{F:[ly]}{n:dR}{own:[Lu]}{W R:Pos}{M:TI}{g:TG}{A:TT}{u:TE}(d:[p_])(p:X.N.Nodup)(l:X.N[i]?=Z y)(T:([J5,y]=[wn]))(S:tu [Cy,Q,F,n,W] (Z (.Name y P)) R.line X.env=pure true)(O:[Nk,M])(ok:[M6,n,own])(hg:[Bj,PG,n,tg,g])(ht:[Bj,pV,n,F,A])(he:[Bj,PE,n,Q,u])(G:[Mn]:=by intro _;rfl):PS X (.Assign [.Name y P] [Cy,Q,F,n,W] R) (t8 (oK M g A u (own.map (·.2))) (iX i)):=by rw[93];rw[340,az _ X.A [acr,F,n,P] _ _ s,oK M g A u (own.map (·.2)) w H (λ x j=>iX i x w j D.nx),Mj (Qf:=λ _ k=>SP X B D .next k) d p I O ok hg ht he G h λ L C k m c I' q hn f=>?_,λ _ k hq=>aW (aW hq),P,p];obtain⟨f0,r,f2,f3,E,f5⟩:=f;rw[371,r,E]
theorem rD{Q:bc}{a:List Comprehension}{c:dR}{W u:Pos}{y:Str}{l:Nat}{env:Env}(C:env.scope.kind=[Ce])(b:env.scope.names.lookup y=[wn])(X:(u.line==W.line)=true)(ha:[aX,c.names.any λ(n,k)=>n==y&&(k==.local||k==.cell)]):tu (.ListComp Q a c W) (Z (.Name y u)) l env=pure true:=by
 have d:env.kindOf y=[wn]:=b;have K:env.blockKind=[Ce]:=by unfold Env.blockKind;rw[C];rfl
 unfold tu;simp only[K,d,ha,Expr.pos,X];rfl
end
theorem pW{K:aF}{a:ab}{xs:[aw]}{g:TG}{B:TT}{k:TE}{U:[ak]}{w:St}{d:Hp}{D:ab}{Q:[Cu]}(P:[wz,Hp])(I:P 0 [ni,d,D])(X:∀i H,i≤xs.length→P i H→ax K H a xs)(G:∀i x H,xs[i]?=Z x→P i H→g x [zL] H λ h M=>[KF,h,k,P (i+1) [Ly],P (i+1) L])(f:∀H,P xs.length H→Q H):[XX,d,mf K a,∃l:[Cu],(∀c,l c→[Xo,c])∧∀x c,(mf K a).j1 i H x c→g x [zL] c λ h M=>[KF,h,k,l [Ly],l L]]:=by rw[223,xs.length];rw[230,X i H O p,[Za],λ c E=>[T_],λ x c y=>?_,G i x _ (y xs q) p,[WP],f H p]
end L2
namespace L2
open PySem PySem.Spec PyProof.Rows
section
variable{prog:aY}{w:aU}{A:bP}{R:[on,y4]}{s:aq}{elt t0 i0 t1 i1:bc}{ifs0 ifs1:[ly]}{scope:dR}{pos:Pos}{it acc:ae}{env:Env}
end
section
variable{X:Cx}
end
end L2
namespace L2
open PySem PySem.Spec PyProof.Rows
section
variable{κ:Type}[[CW,κ]]
def cn(Y:[uk])(k:κ):[dE]:=(Y.find? [WZ]).map (·.2)
def cD(Y:[uk])(k:κ)(v:V):[uk]:=[or,[Ob],[XB,v],Y++[(k,v)]]
theorem lC{p:κ×V}{r:[uk]}{k:κ}(e:p.1=k):cn (p::r) k=Z p.2:=by simp[cn,vC,e]
theorem lD{p:κ×V}{r:[uk]}{k:κ}(e:¬p.1=k):cn (p::r) k=cn r k:=by simp[cn,vC,e]
theorem rE(k:κ):∀Y:[uk],[Ob]=(cn Y k).isSome
 |[]=>J
 |p::r=>by
  rw[k8];rw[30,p.1,k];·simp only[lC e,bK e,Bool.true_or,Option.isSome_some]
  ·rw[lD e,bW e,Bool.false_or];exact rE k r
theorem Ml(k j:κ)(y:V):∀Y:[uk],cn [XB,y] j=[zZ,cn Y j,[pH,j,k,y,x]]
 |[]=>J
 |p::r=>by
  have T:=Ml k j y r;rw[bO];by_cases h:p.1=k;·rw[306,aI,(p.1,y),e.symm.trans h]
  ·rw[306,aD,p,λ z=>h (e.trans z)]
theorem Mm(k j:κ)(y:V):∀Y:[uk],cn Y k=none→cn (Y++[(k,y)]) j=[um,j=k,Z,y,cn Y j]
 |[],_=>by rw[30,k,j];rw[39,aI e.symm,lC (p:=(k,y)) e,aD (λ z=>e z.symm),lD (p:=(k,y)) e]
 |p::r,hn=>by
  rw[nW];have C:¬p.1=k:=λ z=>by rw[lC z]at hn;cases hn
  rw[lD C]at hn;have T:=Mm k j y r hn;rw[30,p.1,j];·rw[lC e,lC e,aD (λ z=>C (e.trans z))]
  ·rw[lD e,lD e,T]
theorem rF(Y:[uk])(k j:κ)(y:V):cn (cD Y k y) j=[um,j=k,Z,y,cn Y j]:=by
 unfold cD;by_cases a:[Ob]=true
 ·rw[aI a,Ml];rw[rE]at a;rw[30,j,k];·obtain⟨x,A⟩:=Option.isSome_iff_exists.mp a;rw[aI e,e,A,sX,aI J]
  ·rw[aD e];cases cn Y j with|none=>rfl|some x=>rw[sX,aD e]
 ·rw[13,aD a,Mm k j y Y ?_];rw[rE]at a;cases q:cn Y k with|none=>rfl|some x=>rw[q]at a;exact(a J).elim
theorem wG(Y:[uk])(k:κ)(v:V):[ck,cD Y k v,Y.length+1]:=by
 unfold cD;split;·rw[27,aC]
 ·rw[dh,dP,BE];omega
theorem wH{Y:[uk]}{k:κ}(v:V)(h:cn Y k=none):cD Y k v=Y++[(k,v)]:=by unfold cD;rw[12,rE,h,[CO]]
theorem ir.DH{o:[dE]}{u:[Am]}(r:ir o u):o.isSome=u.isSome:=by
 cases o with
  |none=>cases u with|none=>rfl|some _=>rw[99,r]
  |some _=>cases u with|none=>rw[99,r]|some _=>rfl
theorem ir.getD{o:[dE]}{u:[Am]}{d:V}{L:ae}(r:ir o u)(rd:bw d L):bw (o.getD d) (u.getD L):=by
 cases o with
  |none=>cases u with|none=>exact rd|some _=>rw[99,r]
  |some _=>cases u with|none=>rw[99,r]|some _=>exact r
theorem KV.val{Y:[uk]}{U:List (κ×ae)}(r:KV Y U)(k:κ):ir (cn Y k) (tD U k):=by unfold KV at r;induction r with|nil=>exact lW|@cons p q c d h t T=>obtain⟨g,a⟩:=h;rw[339,tD]
theorem KV.any{Y:[uk]}{U:List (κ×ae)}(r:KV Y U)(k:κ):[Ob]=U.any [WZ]:=by unfold KV at r;induction r with|nil=>rfl|cons h t T=>rw[k8,k8,T,h.1]
theorem KV.DI{Y:[uk]}{U:List (κ×ae)}(r:KV Y U)(k:κ){y:V}{u:ae}(A:bw y u):KV [XB,y] (U.map λ kv=>[pH,kv.1,k,(kv.1,u),kv]):=by
 unfold KV at r⊢;induction r with
  |nil=>rw[63]
  |@cons p q b c h t T=>
   rw[bO,bO];refine(.cons ?_ T);obtain⟨g,a⟩:=h;rw[30,p.1,k];·rw[aI e,aI (g.symm.trans e)];rw[0,g,A]
   ·rw[aD e,aD [aaf]];rw[0,g,a]
theorem KV.put{Y:[uk]}{U:List (κ×ae)}(r:KV Y U)(k:κ){y:V}{u:ae}(A:bw y u):KV (cD Y k y) (stored U k u):=by unfold cD stored;rw[r.any k];rw[30,U.any [WZ],true];rw[229,e,r.DI k A,Paired.snoc r [md,A]]
theorem KV.length{Y:[uk]}{U:List (κ×ae)}(r:KV Y U):Y.length=U.length:=[CJ,r]
end
theorem wJ{P:aY}{w:aU}{k:Key}{u:ae}(r:bw (kV k) u):(m7 P w).is k u=true:=by cases k with|inl i=>obtain⟨t,e⟩:=(show∃t,u=Value.int i t from r);rw[89,Uu P w i t]|inr x=>obtain⟨t,e⟩:=(show∃t,u=Value.str x t from r);rw[89,Uv P w x t]
abbrev KT(H:Hp):[dF,[iF],List (Tr×ab×ae)]:=Paired λ p q=>p.1=q.1∧eZ H p.1 q.2.1∧bw p.2 q.2.2
theorem KT.val{H:Hp}{Y:[iF]}{N:List (Tr×ab×ae)}(r:KT H Y N)(k:Tr):ir (cn Y k) ((ot N k).map (·.2)):=by induction r with|nil=>exact lW|@cons p q c d h t T=>obtain⟨g,_,a⟩:=h;rw[339,ot]
theorem KT.DI{H:Hp}{Y:[iF]}{N:List (Tr×ab×ae)}(r:KT H Y N)(k:Tr){y:V}{u:ae}(A:bw y u):KT H [XB,y] (N.map (putAt k u)):=by
 induction r with
  |nil=>rw[63]
  |@cons p q b c h t T=>
   rw[bO,bO];refine(.cons ?_ T);obtain⟨g,a,P⟩:=h;unfold putAt;rw[30,p.1,k];·rw[aI e,aI (g.symm.trans e)];rw[1,g,a,A]
   ·rw[aD e,aD [aaf]];rw[1,g,a,P]
theorem KT.put{H:Hp}{Y:[iF]}{N:List (Tr×ab×ae)}(r:KT H Y N)(k:Tr){b:ab}{y:V}{u:ae}(K:eZ H k b)(A:bw y u):KT H (cD Y k y) (storedH N k b u):=by
 have e:[Ob]=(ot N k).isSome:=by rw[rE,(r.val k).DH,Option.isSome_map]
 unfold cD storedH;rw[e];by_cases q:(ot N k).isSome=true;rw[229,q,r.DI k A,Paired.snoc r ⟨J,K,A⟩]
theorem KT.keeps{H m:Hp}{Y:[iF]}{N:List (Tr×ab×ae)}(r:KT H Y N)(F:∀b G,H b=Z (.tup G)→m b=Z (.tup G)):KT m Y N:=[B0,r,⟨z.1,z.2.1.mono F,z.2.2⟩]
section
variable{P:aY}{w:aU}{H:Hp}{h:aE}{a:ab}
theorem Mn{u:HO}(E:di P w H h)(e:Rd H a u):cU P w H h a u:=e.ok E
theorem oM{Y:[jT]}(E:di P w H h)(e:Rd H a (.dK Y)):[LQ,[YG]]:=(show cU P w H h a (.dK Y)from Mn E e)
theorem V6{Y:[jT]}(E:di P w H h)(e:H a=Z (.dK Y)):[LQ,[YG]]:=oM E (.inl e)
theorem z_(E:di P w H h):∀(t:Tr)(N:[aw])(W:[bu]),eI H t N→be N W→eH h t W|.nil,N,W,x,r=>by rw[[db,N,[],x]]at r;rw[6,r,J]|.num _,_,_,x,_=>x.elim|.txt _,_,_,x,_=>x.elim|.cons a t,N,W,⟨v,rest,e,l,i⟩,r=>by subst e;cases r with|@cons _ u _ W s S=>rw[26,u,W,J,?_,z_ E t rest W i S];cases a with|num k=>rcases l with rfl|⟨b,rfl,eb⟩;rw[73,s,⟨b,s,eb⟩]|txt y=>rw[[db,v,.str y,l]]at s;exact s|nil=>rw[266,.nil]|cons c d=>rw[266,.cons c d]
theorem uh{k:Tr}(E:di P w H h)(e:eZ H k a):(qX P w).is h k a:=by obtain⟨d,G,R,q⟩:=e;obtain⟨_,m,A,o,g,r,n,b⟩:=(show cU P w H h a (.tup G)from E a _ R);rw[21,d,m.toArray,⟨o,g,r,n,b⟩,[aB,z_ E k G m q A]]
theorem wK{A:bP}(o:[P7]):(qX P w).room A.in1:=by show A.in1.units+16<fq;rw[27,Bz]
theorem ui{Y:[iF]}(E:di P w H h)(e:Rd H a (.dT Y)):[LQ,[abM]]:=by
 obtain⟨z,y,N,r,o,i,B,g,b,c,d,j⟩:=(show cU P w H h a (.dT Y)from Mn E e);refine⟨z,y,N,r,o,i,B,g,b,c,d,[qu],j⟩;have n:∀{l:[iF]}{m:List (Tr×ab×ae)},KT H l m→∀x∈m,(qX P w).is h x.1 x.2.1:=by
  intro l m q;induction q with
   |nil=>intro x A;exact nomatch A
   |@cons p q f k D t T=>
    intro x A;rcases[d9,A]with e|A;·rw[89,uh E [cm,D.1,D.2.1]]
    ·exact T x A
 exact n r x A
theorem Mo{Y:[iF]}(E:di P w H h)(e:H a=Z (.dT Y)):[LQ,[abM]]:=ui E (.inl e)
end
def eW(H:Hp)(a:ab)(y:V)(r:[dE]):Prop:=(∃Y k,Rd H a (.dK Y)∧y=kV k∧r=cn Y k)∨∃Y k b,Rd H a (.dT Y)∧y=.ref b∧eZ H k b∧r=cn Y k
def jf(H:Hp)(a:ab)(y v:V)(m:Hp):Prop:=(∃Y k,H a=Z (.dK Y)∧y=kV k∧[Ie]∧m=ag H a (.dK (cD Y k v)))∨∃Y k b,[cj,H a=Z (.dT Y),y=.ref b,eZ H k b,[Ie],m=ag H a [EQ,k,v]]
theorem eW.k{H:Hp}{a:ab}{Y:[jT]}{k:Key}(e:H a=Z (.dK Y)):eW H a (kV k) (cn Y k):=.inl [jp,Y,k,.inl e,J]
theorem eW.t{H:Hp}{a b:ab}{Y:[iF]}{k:Tr}(e:H a=Z (.dT Y))(eb:eZ H k b):eW H a (.ref b) (cn Y k):=.inr ⟨Y,k,b,.inl e,J,eb,J⟩
theorem jf.k{H:Hp}{a:ab}{Y:[jT]}{k:Key}{v:V}(e:H a=Z (.dK Y))(X:[Ie]):jf H a (kV k) v (ag H a (.dK (cD Y k v))):=.inl ⟨Y,k,e,J,X,J⟩
theorem jf.t{H:Hp}{a b:ab}{Y:[iF]}{k:Tr}{v:V}(e:H a=Z (.dT Y))(eb:eZ H k b)(X:[Ie]):jf H a (.ref b) v (ag H a [EQ,k,v]):=.inr ⟨Y,k,b,e,J,eb,X,J⟩
section
variable{X:Cx}{pins:[bF]}{σ:St}{H:Hp}{s:aq}{a:ab}{y v:V}{u r:ae}{o:[dE]}{A:bP}{E:[aT]}
theorem Inv.wM(I:[bH]):[pU,iS]:=by have h:[pU,b_]:=[VR].lt;exact SJ [bj] h
theorem V7{Q:[aT]}(f:[P7])(I:[bH])(g:eW H a y (Z v))(i:bw y u)(h:∀m d,([j4,H,d])→bw v m→Q m d):[wY,A,qN [bi] u]:=by
 rcases g with⟨Y,k,e,q,l⟩|⟨Y,k,b,e,q,eb,l⟩;·subst q;obtain⟨z,c,U,n,j⟩:=oM I.aH e;obtain⟨m,T,V⟩:=[VJ,tD U k,[ap,l,n.val k]];exact wpAny_getItem_of (wJ i) j.mapOf T (h m _ [rw] V)
 ·subst q;cases[db,u,[j5,b],i];obtain⟨z,c,N,n,j⟩:=ui I.aH e;obtain⟨m,T,V⟩:=[VJ,(ot N k).map (·.2),[ap,l,n.val k]];obtain⟨p,R,r⟩:=[Q_,T];rw[55,wpAny_getItem_heap (wK f) (uh I.aH eb) j R ?_,r,h m _ [rw] V]
theorem V8{Q:[aT]}(f:[P7])(I:[bH])(g:eW H a y o)(i:bw y u)(h:∀d,([j4,H,d])→Q (.bool (! o.isSome)) d):[wY,A,f9 .NotIn u [bi]]:=by
 rcases g with⟨Y,k,e,n,l⟩|⟨Y,k,b,e,n,eb,l⟩;·subst n;obtain⟨z,c,U,j,p⟩:=oM I.aH e;refine wpAny_notIn_of (wJ i) c p.mapOf ?_;rw[←(j.val k).DH,←l];exact h _ [rw]
 ·subst n;rw[108,b,i];obtain⟨z,c,N,j,p⟩:=ui I.aH e;refine wpAny_notIn_heap (wK f) (uh I.aH eb) c p ?_;have q:=(j.val k).DH;rw[Option.isSome_map]at q;rw[←q,←l];exact h _ [rw]
theorem DJ{S:aE}{Y:Nat}{i:HO}(I:[bH])(m:wb (H a))(G:kq a s.heap S)(R:∃q,[pi,a]=Z q)(c:[L6,H,a,i,S]):[j4,ag H a i,[qU,S,Y]]:=I.write (x:=a) (e:=a) m [de] (λ b q K z=>[qP,G,K,z]) R c
theorem V9{P:aY}{w:aU}{m:Hp}{S:aE}{Y:[jT]}{U:List (Key×ae)}(z:(Y.length≤aQ))(b:[Cr,a])(c:KV Y U)(p:S.DictOf (m7 P w) a U):cU P w m S a (.dK Y):=⟨z,b,U,c,p⟩
theorem V_{m:Hp}{Q:[Ez]}(o:[P7])(I:[bH])(g:jf H a y v m)(p:bw y u)(O:bw v r)(h:∀j,([j4,m,j])→Q () j):[wY,A,setItem [bi] u r]:=by
 rcases g with⟨Y,k,e,K,l,W⟩|⟨Y,k,b,e,K,eb,l,W⟩
 ·subst K W;obtain⟨z,i,U,F,C⟩:=V6 I.aH e;rw[363,U.length≤aQ,F.length,wpAny_setItem_pairs (hsz:=M) (wJ p) C λ S V G=>h _ ?_];have R:∃q,[pi,a]=Z q:=let⟨q,_,_,D,_⟩:=V;⟨q,D⟩
  exact DJ I [ap,e,lW] G R (V9 f i (F.put k O) V)
 ·subst K W;cases[db,u,[j5,b],p];obtain⟨z,i,N,F,C⟩:=Mo I.aH e;rw[363,[Id,aQ],[CJ,F],wpAny_setItem_heap (hsz:=M) (wK o) (uh I.aH eb) C λ S V G=>h _ ?_];obtain⟨q,T,B,D,d,P,w,_,t⟩:=V;rw[55,DJ I [ap,e,lW] G ⟨q,D⟩ ⟨f,i,_,(F.put k eb O).keeps λ c n L=>?_,q,T,B,D,d,P,w,t⟩,ar (cE L e [Qs]),L]
end
section
variable{X:Cx}{pins:[bF]}{σ:St}{H:Hp}{s:aq}{a:ab}{kvs:[jT]}{k:Key}{u:ae}{A:bP}{E:[aT]}
theorem Wa{Q:[aT]}(I:[bH])(e:Rd H a (.dK kvs))(h:∀t d,([j4,H,d])→Q (.int kvs.length t) d):[wY,A,call [oD,"len"] [sG]]:=by obtain⟨z,b,U,c,p⟩:=oM I.aH e;refine call_len_dict b p (by rw[←c.length];rw[yR]at z;omega) ?_;rw[23,c.length,h _ _ [rw]]
end
def Mp(i:bc):Prop:=∀v b,BS i false v b=operate [v,b] (qN v b)
theorem DL{prog:aY}{w:aU}{A:bP}{E:[aT]}{s:aq}{env:Env}{a e:bc}{W:Pos}{T id:String}{Q:[aT]}(X:typeLookup (.type T) "__getitem__"=pure (Z [oD,id]))(G:Mp e)(h:[C8,eval a env,λ o L=>[Ad,eval e env,λ i j=>j.TypeIs o T∧[Ad,qN o i,Q,E,j],E,L]]):[fQ,eval [Cd,a,e,W] env]:=by refine JD (gG h (λ o L P=>gG P (λ i j H=>?_) λ _ _ x=>x) λ _ _ x=>x);obtain⟨Y,H⟩:=H;unfold SU;rw[7,?_];rw[getitemInPython_of_ne Y.not_modules];rw[7,wpAny_specialOf Y X ?_];have C:[Ad,BS e false o i,λ r F=>[Ad,letTemporaryGo a o r>>=λ _=>pure r,Q,E,F],E,j]:=[ap,G o i,wpAny_operating (gG H (λ r F B=>au (wpAny_letTemporaryGo (aW B))) λ _ _ x=>x)];first|exact aW (au C)|exact au (aW (au C))|exact au C
theorem Wb{X:Cx}{B:[bF]}{w:St}{H:Hp}{s:aq}{a:ab}{y:V}{o:[dE]}(I:[iw])(g:eW H a y o):[C2,[bi],"dict"]:=by
 rcases g with⟨Y,k,e,_,_⟩|⟨Y,k,b,e,_,_,_⟩;·obtain⟨_,_,U,_,p⟩:=oM I.aH e;exact p.typeIs
 ·obtain⟨_,_,N,_,p⟩:=ui I.aH e;exact p.typeIs
def wN(e k:TE):TE:=[rf,e,λ x b=>k w b λ y M=>∃a v,x=[bi]∧eW M a y (Z v)∧Q v M]
def Wc(k e:TE):TE:=[rf,k,λ y b=>e w b λ x M=>∃a o,x=[bi]∧eW M a y o∧Q (.bl (! o.isSome)) M]
def DN(e k t:TE):TS:=[Ni,t,λ v b=>e w b λ x M=>k w M λ y L=>∃a R,x=[bi]∧jf L a y v R∧D.nx w R]
section
variable{X:Cx}{o i e value:bc}{pos pos' tpos:Pos}{td ty tv:TE}
theorem nj(d:[Ic,32])(E:PE X o td)(O:PE X i ty)(G:Mp i):PE X [Cd,o,i,pos] (wN td ty):=by rw[58,DL PySem.F.slot_dict_getitem.lookup G (bj (E B s w H _ I h) λ u Y⟨x,b,r,L,n⟩=>bj (O B Y w b _ r n) λ f P⟨y,M,p,A,a,v,ex,g,c⟩=>?_)];rw[106,u,L];rw[0,Wb p g,V7 d p g A λ m C e V=>⟨v,M,e,V,c⟩]
theorem Aa(d:[Ic,32])(O:PE X i ty)(E:PE X o td):PC X .NotIn i o (Wc ty td):=by rw[58,bj (O B s w H _ I h) λ f Y⟨y,b,r,A,n⟩=>bj (E B Y w b _ r n) λ u P⟨x,M,p,L,a,v,ex,g,c⟩=>?_];rw[106,u,L];exact V8 d p g A λ C e=>[jp,.bl (! v.isSome),M,e,c]
theorem nk(j:[Ic,32])(E:PE X o td)(O:PE X i ty)(e:PE X value tv)(G:[X_,value,Z [Cd,o,i,pos']]):PS X (.Assign [[Cd,o,i,pos']] value pos) (DN td ty tv):=by rw[93];refine wpAny_Assign_Subscript (bj (e B s w H _ I h) λ r Y⟨v,b,d,k,n⟩=>bj (E B Y w b _ d n) λ u P⟨x,M,p,f,c⟩=>bj (O B P w M _ p c) λ z C⟨y,L,q,A,a,R,ex,g,l⟩=>?_) G;rw[106,u,f];exact V_ j q g A k λ m t=>⟨w,R,t,l⟩
end
theorem Wd{P:aY}{w:aU}{H:Hp}(h:aE)(K:iS<h.objs.size):cU P w H (h.push [WW]) h.objs.size (.dK []):=⟨b7 _,[Mv,ja (dY K)],[],.nil,Heap.DictOf.new h⟩
theorem We{P:aY}{w:aU}{H:Hp}(h:aE)(K:iS<h.objs.size):cU P w H (h.push [WW]) h.objs.size (.dT []):=⟨b7 _,[Mv,ja (dY K)],[],.nil,_,#[],0,[pu],[tJ,J,J],J,J,kj⟩
def Wf:TE:=λ _ H Q=>[OB,.dK []]
def Wg:TE:=λ _ H Q=>[OB,.dT []]
section
variable{X:Cx}{pos:Pos}
theorem wO:PE X (.Dict [] [] pos) Wf:=[aez,.dK,Wd]
theorem uj:PE X (.Dict [] [] pos) Wg:=[aez,.dT,We]
end
structure M1(X:Cx)(o:bc)(m:Str)(g:Pos)(e:bc)(s:Pos):Prop where
 base:[Es,o,m]
 fx:[ZJ,s,[e],([e]:[ly])]
 line:[UC,s.line]
 trees:g_ s [pc,[e]]=[[wC,e]]
structure M2(X:Cx)(o:bc)(m:Str)(g:Pos)(e f:bc)(s:Pos):Prop where
 base:[Es,o,m]
 fx:[ZJ,s,[e,f],([e,f]:[ly])]
 line:[UC,s.line]
 trees:g_ s [pc,[e,f]]=[[wC,e],[wC,f]]
def Mq(H:Hp)(a:ab):Prop:=(∃Y,Rd H a (.dK Y))∨∃Y,Rd H a (.dT Y)
theorem Wh{X:Cx}{B:[bF]}{w:St}{H:Hp}{s:aq}{a:ab}(I:[iw])(d:Mq H a):[C2,[bi],"dict"]∧(∀b,[j5,a]=.ref b→∃i,[zX]=Z i∧i.dict=none)∧[Cr,a]:=by
 rcases d with⟨Y,e⟩|⟨Y,e⟩;·obtain⟨_,c,U,_,p⟩:=oM I.aH e;rw[290]
 ·obtain⟨_,c,N,_,p⟩:=ui I.aH e;rw[290]
section
variable{X:Cx}{pins:[bF]}{σ:St}{H:Hp}{s:aq}{a:ab}{y d:V}{u r:ae}{o:[dE]}{A:bP}{E:[aT]}
theorem Wi{Q:[aT]}(i:[P7])(I:[bH])(g:eW H a y o)(j:bw y u)(rd:bw d r)(h:∀m f,([j4,H,f])→bw (o.getD d) m→Q m f):[wY,A,call [oD,"dict.get"] [[bi],u,r]]:=by
 rcases g with⟨Y,k,e,q,l⟩|⟨Y,k,b,e,q,eb,l⟩;·subst q;obtain⟨z,c,U,n,p⟩:=oM I.aH e;rw[55,[abr,meets_dict_get_default,m7,wJ j,⟨_,p.mapOf,h _ _ [rw] ?_⟩],l,(n.val k).getD rd]
 ·subst q;cases[db,u,[j5,b],j];obtain⟨z,c,N,n,p⟩:=ui I.aH e;rw[55,[abr,meetsH_dict_get_default,qX,b,⟨wK i,k,N,uh I.aH eb,p,h _ _ [rw] ?_⟩],l,(n.val k).getD rd]
end
def Wj(e k tx:TE):TE:=[rf,e,λ x b=>∃a,x=[bi]∧Mq b a∧k w b λ y M=>tx w M λ z L=>∃o,eW L a y o∧Q (o.getD z) L]
section
variable{X:Cx}{o e f:bc}{apos cpos:Pos}{td ty tx:TE}
theorem Mr(j:[Ic,32])(E:PE X o td)(R:PE X e ty)(F:PE X f tx)(m:M2 X o "get" apos e f cpos):(PE X (.Call (.Attribute o "get" apos) [e,f] [] cpos) (Wj td ty tx)):=by rw[58,wpAny_Call_method m.base m.fx m.line PySem.F.plainAttrs_dict RE PySem.F.type_dict_get (bj (E B s w H _ I h) λ u Y⟨x,b,r,i,a,ex,d,n⟩=>?_)];rw[106,u,i];obtain⟨q,k,_⟩:=Wh r d;rw[24,q,k];rw[m.trees];refine Bn J (IM (vx (bj (R B Y w b _ r n) λ N P⟨y,M,p,A,c⟩=>vx (bj (F B P w M _ p c) λ O C⟨z,L,v,S,K,g,l⟩=>Bv ?_))));exact Wi j v g A S λ D t G V=>⟨_,L,G,V,l⟩
end
section
variable{X:Cx}{pins:[bF]}{σ:St}{H:Hp}{s:aq}{a:ab}{kvs:[jT]}{A:bP}{E:[aT]}
end
section
variable{X:Cx}{pins:[bF]}{σ:St}{H:Hp}{s:aq}{a:ab}{y:V}{u:ae}{A:bP}{E:[aT]}
end
end L2
namespace L2
open PySem PySem.Spec PyProof.Rows
section
variable{prog:aY}{w:aU}{A:bP}{E:[aT]}
end
section
variable{X:Cx}
end
end L2
namespace L2
open PySem PySem.Spec PyProof.Rows
theorem Wk:vK [Nv]=Z (.type [Nv]):=[bB]
section
variable{X:Cx}{pins:[bF]}{σ:St}{H:Hp}{s:aq}{h':aE}
theorem Inv.Ms{t':Nat}{ch:[aV]}(I:[bH])(k:∀b o,b∉ch→[TN,[Ed]])(F:∀b∈ch,iY X pins H b):[NK,H]:=by
 have t:∀b u,H b=Z u→b∉ch:=[adn];refine I.step (g':=s.gens) (d':=s.drawn) (ch:=ch) [UJ,F b K] [Zo,V] [YR,V] (λ _ _ _ _ n=>n) [Zk,V] (λ _ _ e=>e) (λ _ _ _ e=>e) (λ b a e=>⟨#[],by rw[16,e]⟩) (λ m N=>?_) (λ b u e=>?_) I.bare;·obtain⟨o,T,B,E,r⟩:=N;rw[9,o,T,B,k _ o (λ z=>(F _ z).2.1 J) E,r]
 ·rw[224,[OH,I.aH b u e,[Zw]]]
theorem Inv.Ab{t':Nat}{ch:[aV]}{T:ab}{i:HO}(I:[bH])(k:∀b o,b∉ch→[TN,[Ed]])(F:∀b∈ch,iY X pins H b)(Y:[O4,T])(g:[L6,H,T,i,h']):[NK,ag H T i]:=by
 have hn:H T=none:=[CF,Y];have t:∀b u,H b=Z u→b∉ch:=[adn];refine I.step (g':=s.gens) (d':=s.drawn) (ch:=ch) [UJ,F b K] [Zo,V] [YR,V] (λ b o _ e n=>?_) [Zk,V] (λ b N e=>?_) (λ b o u e=>?_) (λ b d e=>[rp,#[]]) (λ m a=>?_) (λ b u e=>?_) I.bare;rw[11,ar (dY (dG (bR e) Y)),n];rw[39,ar (aX e hn),e,ar (aX e hn),e];·rw[ar (aX e hn),e];simp
 ·obtain⟨o,f,B,E,r⟩:=a;rw[9,o,f,B,k _ o (λ z=>(F _ z).2.1 J) E,r]
 ·rw[151,T,aw,g];·rw[ar K]at e;rw[224,(I.aH b u e).l_ [Zw] (λ c q=>[Qw]) λ c N q=>[Qw]]
end
section
variable{X:Cx}
theorem DO{tg:bc}{B:[bF]}{w:St}{H:Hp}{s:aq}{R:[xP,It]}{a:It}{c:[wz,aE]}{tk:Nat}(I:[iw])(o:Obj)(T:Turn X.prog X.w X.K tg a [s.heap.objs.size] s.heap.objs.size c)(L:c 0 (s.heap.push o))(q:R a H):CV X B w tg R [pQ] [qU,s.heap.push o,tk]:=by refine⟨s.heap.objs.size,[s.heap.objs.size],c,a,H,J,I.kept λ b i e=>cG _ e,T,L,[Ks],q⟩;rw[45,[Tl,b],[aB,K]];exact I.oE (ba _) [ED]
end
def Mt(i j c:Int)(n:Nat):Prop:=c≠0∧c.natAbs<1073741824∧[jb,Builtin.Range.small i j c,Builtin.Range.rangeSize i j c=n]
theorem Mt.neg{i j:Int}(ha:-(2^62)≤i)(k:i<2^62)(K:-(2^62)≤j)(W:j<2^62):Mt i j (-1) (i-j).toNat:=⟨[bj],[bj],PySem.W.small_down ha k K W,PySem.W.rangeSize_downNat i j⟩
section
variable{X:Cx}{tg:bc}
end
def wQ(K:aF)(a:ab)(n:Nat):It:=[abk,i<n∧∃(N:[aw])(x:V),ax K H a N∧N[n-1-i]?=Z x,ax,n-1-i,λ i _=>n≤i]
theorem Wl{P:aY}{w:aU}{K:aF}{tg:bc}(a t:ab)(n:Nat):[Kj,tg,wQ K a n,[t],t,i≤n∧h.IsRevIter t a ([cY]-1-(i:Nat))]where
 mem:=[al]
 obj:=λ i h L b j=>by rw[45,b=t,[aB,j]];obtain⟨_,o,e,c,d⟩:=L;rw[1,o,e,λ v z=>by rw[80,d]]
 keep:=λ i h S L k=>⟨L.1,L.2.at λ o e=>(k t [al] o e)⟩
 item:=by
  intro X y T C V i B s f H E I F L q;subst y T C;obtain⟨O,xs,x,D,g⟩:=q;obtain⟨m,rv,p,hz⟩:=[mt,D];obtain⟨u,hu,ru⟩:=rv.get g;obtain⟨U,G,f2,M,R,Y⟩:=F t [al];obtain⟨_,W⟩:=L;have e1:[cY]-1-[aN,i]=[aN,n-1-i]:=[ac];rw[e1]at W;refine wpAny_pyNext_rev_item W p.isList (x:=u) [aB,hu] λ S N sb=>?_
  have e2:[aN,n-1-i]-1=[cY]-1-[aN,i+1]:=[ac];rw[e2]at N;rw[260,I.turned (t':=s.toks) (λ b o j e=>[qP,sb,j,e]) U G M R Y,N,λ ys l=>[ap,I.rh l D,g],⟨O,N⟩,λ b j=>(F b j).1]
 done:=by intro X y T C V i B s f H E I F L q;subst y T C;obtain⟨U,G,f2,M,R,Y⟩:=F t [al];obtain⟨O,W⟩:=L;have hge:n≤i:=q;have e1:[cY]-1-[aN,i]=-1:=[ac];rw[e1]at W;exact wpAny_pyNext_rev_end [tW] W [Oy,λ b o j e=>eb b o j e,U,G,M,R,Y]
 self:=λ A i s Q E L h=>wpAny_pyIter_revIter L.2 h
def Wm(K:aF)(T:TA):TI:=[Pg,T,λ U b=>∃(a:ab)(N:[aw]),U=[sG]∧ax K b a N∧R (wQ K a N.length) b]
section
variable{X:Cx}{tg:bc}
theorem Mv{e:bc}{T:TA}{p k:Pos}(j:Gl X [Nv])(d:X.mg [Nv]=none)(ha:PA X [e] T)(G:[NI]:=by rfl):PI X tg (.Call (.Name [Nv] p) [e] [] k) (Wm X.K T):=by
 rw[122,Call_ (m_ I j d Wk (vp [O6,[Lb,k],c,g,f,n,?_] G J))];obtain⟨a,N,e,D,q⟩:=n;subst e;cases f with
  |cons r t=>
   cases t;cases r;obtain⟨m,O,E,M⟩:=g.list D;have b:=O.length;have e1:[aN,m.toArray.size]-1=[ar,N.length]-1-[aN,0]:=by rw[85,dN]
   rw[3,call_reversed_list E.isList (wpAny_pyIter_revIter (l:=a) (i:=[aN,m.toArray.size]-1) [NN] ?_),DO (tk:=Y.toks) g _ (Wl a _ N.length) [rp,b7 _] q];rw[←e1];exact[NN]
end
def pX(x:Str):It:=⟨λ i _=>i<x.cps.size,λ i H v m=>m=H∧∃c,x.cps[i]?=Z c∧v=[EH],λ i _=>x.cps.size≤i⟩
theorem Mx{P:aY}{w:aU}{K:aF}{tg:bc}(m:ab)(x:Str)(t:Tok)(M:String)(R:M="str_ascii_iterator"∨M="str_iterator"):[Kj,tg,pX x,[m],m,h.IsStrIter m M x t i]where
 mem:=[al]
 obj:=[ZL,m]
 keep:=λ i h S L k=>let⟨o,l,r⟩:=L;⟨o,(k m [al] o l),r⟩
 item:=by
  rw[239];have W:Walks X.prog X.w X.A m [m] [m] x.cps.size (SignAt x) (λ i h=>h.IsStrIter m M x t i):=by rcases R with e|e;rw[39,e,Walks.strAscii [tW] m x t,e,Walks.strWide [tW] m x t]
  have D:[aX,[Yf].contains M]:=by
   rcases R with e|e;·rw[e];decide
   ·rw[e];decide
  refine W.item i s _ _ j L λ v S G hv C kk=>?_
  obtain⟨c,u,Y,rfl⟩:=hv;have I1:[lB,a,H,[pN,S]]:=I.turned (λ b o g e=>kk b o (by rw[72]) e) U q y N O;obtain⟨oi,e,cc,dd⟩:=id C;rw[36,J,wk (s:=[pN,S]) e cc dd D ⟨[EH],H,I1,[eJ,u],⟨J,c,Y,J⟩,C,λ b g=>(F b g).1⟩]
 done:=by
  rw[239];have f:x.cps[i]?=none:=IF j;rcases R with e|e;·rw[e]at L;exact wpAny_pyNext_ascii_end [tW] L f [Oy,[Y3],U,q,y,N,O]
  ·rw[e]at L;exact wpAny_pyNext_wide_end [tW] L f [Oy,[Y3],U,q,y,N,O]
 self:=λ A i s Q E L h=>by
  rcases R with e|e;·rw[e]at L;exact wpAny_pyIter_striter_ascii L h
  ·rw[e]at L;exact wpAny_pyIter_striter_wide L h
def Wn(k:TE):TI:=[Pg,k,λ v a=>∃x,v=.str x∧R (pX x) a]
theorem My{X:Cx}{tg e:bc}{k:TE}(b:PE X e k):PI X tg e (Wn k):=by rw[122,bj (b B s w H _ I h) λ v Y⟨y,a,r,c,x,ex,q⟩=>?_];subst ex;obtain⟨t,rfl⟩:=c;cases ha:x.cps.all (·<128);rw[2,wpAny_pyIter_wide ha (DO (tk:=Y.toks) r _ (Mx _ x t "str_iterator" (.inr J)) [NN] q),wpAny_pyIter_ascii ha (DO (tk:=Y.toks) r _ (Mx _ x t "str_ascii_iterator" [de]) [NN] q)]
section
variable{prog:aY}{w:aU}{A:bP}{E:[aT]}{s:aq}
theorem Wo{d:ab}{o:Obj}{T:Array i_}{B:Nat}{Q:[aT]}(a:[Cr,d])(b:[gX,d]=Z o)(V:o.ExactDict)(t:[Ku,T,B])(p:[Ug,[NA,"dict_keyiterator",[vh,#[.ref d,.int 0 0,.int T.size 0,.int B 0]]]]):[fQ,vU (.ref d)]:=by have Y:[C2,.ref d,"dict"]:=⟨o,b,V.1⟩;refine wpAny_pyIter_slot Y F.slot_dict_iter (qC F.slot_dict_iter Y F.entry_dict_iter ?_ (F.args_dict_iter_1 _));unfold Builtin.«dict.__iter__»;rw[7,?_];unfold Builtin.Dict.dictSlotNone;rw[7,wpAny_notOrdered_dict Y ?_];show az _ _ (pure [j5,d]) _ _ s;refine aW ?_;show az _ _ (Builtin.Dict.showsAll d>>=_) _ _ s;unfold Builtin.Dict.showsAll;rw[aD [ap,a,eQ]];rw[3,au (aW ?_),au (Je b t ?_)];rw[3,au (SF b t ?_),au (nU (aW ⟨_,J,"dict_keyiterator",_,[rJ,[pu]],F.slot_dict_keyiterator_next.lookup,?_⟩))];simpa[f_]using p
theorem Wp{f d:ab}{i n B:Nat}{g:Obj}{T:Array i_}{en:i_}{Q:[on,[iH,ae]]}(v:s.heap.IsKeyIter f d i n B)(j:[gX,d]=Z g)(k:g.data=.dict T B)(e:T.size=n)(a:T[i]?=Z en)(p:∀S,S.IsKeyIter f d (i+1) n B→[Xe,f,Q,Z en.key]):[fQ,kr [dU]]:=by obtain⟨o,c,V,b⟩:=id v;unfold kr;rw[110,[acs],aW ?_];rw[110,?_,?_];rw[188];rw[7,wpAny_fieldsOf c b ?_];have l:[aX,[abQ]]:=[bj];rw[378,l];rw[110,aW ?_,Je j k ?_];rw[aD (by rw[16,e])];rw[110,aW ?_,SF j k ?_];rw[[LP]];refine aW ?_;obtain⟨m,z⟩:=[Ka,a];simp only[show¬([lx]<0)from[ac],iE,vy,sJ m];rw[7,?_];rw[188];rw[7,wpAny_isOneOf_keyiter v.typeIs ?_];show az _ _ (BY [dU] 1 (f_ ([lx]+1))>>=_) _ _ s;rw[7,BN c b [al] ?_];have h:(s.heap.update f (qF (·.setIfInBounds 1 (f_ ((i:Int)+1))))).IsKeyIter f d (i+1) n B:=⟨_,IJ _ c (RM (Bu b _)),((Obj.cls_mapFields ..).trans V),by rw[Bu b];simp[f_]⟩;rw[110,k9 ?_,(wpAny_isOneOf_keyiter (s:={s with heap:=s.heap.update f (qF (·.setIfInBounds 1 (f_ ((i:Int)+1))))}) h.typeIs ?_)];rw[25,[Et,pure T[i].key],z,aW (aW [dL,aW (p _ h (nQ ..))])]
theorem Wq{f d:ab}{i n B:Nat}{j:Obj}{g:Array i_}{Q:[on,[iH,ae]]}(W:[wg])(v:s.heap.IsKeyIter f d i n B)(k:[gX,d]=Z j)(l:j.data=.dict g B)(h:g.size=n)(R:n≤i)(p:∀S,Heap.ExtBut f s.heap S→Q none [ln,S]):[fQ,kr [dU]]:=by obtain⟨o,e,V,c⟩:=id v;unfold kr;rw[3,au [acs],au (aW ?_)];rw[3,au ?_,au ?_];rw[188];rw[7,wpAny_fieldsOf e c ?_];have q:[aX,[abQ]]:=[bj];rw[378,q];rw[3,au (aW ?_),au (Je k l ?_)];rw[aD (by rw[16,h])];rw[3,au (aW ?_),au (SF k l ?_)];rw[[LP]];refine aW ?_;have r:g.size≤i:=[ap,h,R];simp only[show¬([lx]<0)from[ac],iE,vy,IF r];rw[7,?_];rw[188];show az _ _ (BY [dU] 0 .none>>=_) _ _ s;rw[7,BN e c [al] ?_];show[Et,newExc (.type "StopIteration") []>>=_];rw[7,?_];simp only[newExc,newTuple];rw[7,nU ?_ (by size_fits)];rw[3,au (m:=firstArgMember _ _) (S6 (a:=Value.none) (by first|rfl|(simp only[firstArgMember];rfl)) ?_),nU ?_ (by size_fits)];simp only[raiseNew];rw[7,wpAny_handled ?_];rw[[db,A.in1.handled,none,W]];rw[3,au (aW (wpAny_throw ?_)),[abO,[rJ,[pu]]]];exact aW (p _ (((nQ ..).extBut.push _).push _))
end
theorem Ac{c:Type}{Y:List (c×V)}{U:List (c×ae)}(h:KV Y U):∀{i:Nat}{k:c}{v:V},Y[i]?=Z (k,v)→∃u,U[i]?=Z (k,u)∧bw v u:=by unfold KV at h;induction h with|nil=>intro i k v e;simp at e|@cons a b s d r t T=>intro i k v e;cases i with|zero=>simp only[RC,RK]at e;subst e;rw[20,b.2,?_,r.2];simp only[RC];exact ed Z (Prod.ext r.1.symm J)|succ j=>simp only[List.getElem?_cons_succ]at e⊢;exact T e
theorem d6{m d:Type}{G:[dF,m,d]}{s:[ol]}{Y:List d}(h:(Paired G s Y)):∀{i:Nat}{a:m},s[i]?=Z a→∃b,Y[i]?=Z b∧G a b:=by induction h with|nil=>intro i a e;simp at e|@cons a b s Y r t T=>intro i V e;cases i with|zero=>simp only[RC,RK]at e;subst e;rw[1,b,J,r]|succ j=>simp only[List.getElem?_cons_succ]at e⊢;exact T e
theorem Wr{k:Key}{u:ae}(h:qY k u=true):bw (kV k) u:=by rw[168,h];rw[2,[eJ,t],[eJ,t]]
section
variable{X:Cx}{pins:[bF]}{σ:St}{H:Hp}{s:aq}{d:ab}{o:Obj}
end
section
variable{P:aY}{w:aU}{K:aF}{tg:bc}{d:ab}{o:Obj}{es:Array i_}{ep:Nat}
end
section
variable{X:Cx}{tg e:bc}{td:TE}{apos cpos:Pos}
end
def wR(K:aF)(a:ab):It:=⟨λ i H=>∃(N:[aw])(x:V),ax K H a N∧N[i]?=Z x∧[aX,dD x],λ i H v m=>∃T x,v=.ref T∧H T=none∧m=[j0,H,T,[Zz]]∧[YO,ax],λ i H=>∃N:[aw],ax K H a N∧[Id,i]⟩
theorem Ws{P:aY}{w:aU}{K:aF}{N:[ly]}{kk:Nat}{U:Pos}(a e l:ab):[Kj,.Tuple N kk U,wR K a,[e,l],e,(∃C,IsEnum h e l [aN,i] C)∧[Pu,l,a]∧e≠l]where
 mem:=[al]
 obj:=λ i h L b d=>by obtain⟨⟨C,R⟩,⟨o,g,V,hd⟩,_⟩:=L;have f:b=e∨b=l:=[aB,d];rcases f with z|z;rw[39,z,[OC,R],z,[ZX,o,g,hd]]
 keep:=λ i h S L k=>let⟨⟨C,R⟩,hi,n⟩:=L;⟨⟨C,(k e [al] _ R)⟩,hi.at [Rs,l],n⟩
 item:=by
  rw[298];obtain⟨xs,x,D,c,aH⟩:=j;obtain⟨m,O,p,hz⟩:=[mt,D];obtain⟨u,hu,ru⟩:=O.get c;have W:[pU,e]:=bR R;have hil:[pU,l]:=by obtain⟨_,q,_⟩:=G;exact bR q
  rw[3,wpAny_pyNext_enum_item R G p.isList (x:=u) [aB,hu] n λ S g Y hT hsz hk=>?_,[dL,wpAny_letOwnedTupleGo_enum (s:=[P4,S]) g λ M he' y=>?_]];have hT2:[K0,M.get?]=Z [NM,#[.int i s.toks,u]]:=[f8,y.2,_,g9 W,hT];have new:[aad,[Zz],M]:=⟨[acJ,x],[.int i s.toks,u],[zg,[pM],ru],[hJ,_,hT2,_,J]⟩;have I1:[lB,σ,[QK,.tup [Zz]],[P4,M]]:=I.Ab (ch:=[e,l]) (λ b ob d q=>[qP,y,[KZ,d],hk b ob [KZ,d] [KZ,d] q]) F (ba _) new;refine⟨[pQ],_,I1,J,⟨_,x,J,[ED],J,λ ys hy=>[ap,I.rh hy D,c]⟩,⟨[rp,u],Y.at λ o q=>[f8,y.2,l,ja n,q],n⟩,λ b d=>?_⟩;·have e1:[aN,i+1]=[lx]+1:=[ac];rw[4,e1,he']
  ·have hb':[pU,b]:=by have f:b=e∨b=l:=[aB,d];rcases f with z|z;rw[39,z,W,z,hil]
   rw[4,ar (dY hb'),(F b d).1]
 done:=by rw[298];obtain⟨xs,D,c⟩:=j;obtain⟨m,O,p,hz⟩:=[mt,D];obtain⟨f0,f1,f2,f3,f4,f5⟩:=F l [al];have hl:=O.length;exact wpAny_pyNext_enum_end [tW] R G p.isList (by rw[17]) [Oy,λ b o d q=>eb b o d q,f0,f1,f3,f4,f5]
 self:=[ac8]
def Wt(K:aF)(T:TA):TI:=[Pg,T,λ U b=>∃a N,U=[sG]∧ax K b a N∧R (wR K a) b]
theorem Mz{X:Cx}{e:bc}{T:TA}{p o y:Pos}{A:[ly]}{Q:Nat}(j:Gl X [zJ])(d:X.mg [zJ]=none)(ha:PA X [e] T)(G:[NI]:=by rfl):PI X (.Tuple A Q y) (.Call (.Name [zJ] p) [e] [] o) (Wt X.K T):=by
 rw[122,Call_ (m_ I j d boot_enumerate (vp [O6,[Lb,o],c,k,i,n,?_] G J))];obtain⟨a,N,ex,D,q⟩:=n;subst ex;cases i with
  |cons r x=>
   rw[61,x,r];obtain⟨m,O,E,M⟩:=k.list D;refine call_enumerate_list E.isList λ S f v u C=>Jf f ?_
   have t:[U7,c,Y,S]:=k.kept (t':=Y.toks) C;refine⟨[nk,1],[[nk,1],Y.heap.objs.size],_,_,c,J,t,Ws a [nk,1] Y.heap.objs.size,⟨⟨.none,f⟩,v,Nat.succ_ne_self _⟩,[Ks],q⟩;have g:b=[nk,1]∨[Wd,b]:=[aB,K];have L:Y.heap.objs.size≤b:=by rcases g with z|z;rw[39,z,vB _ _,z,ba _]
   exact k.oE L (k.aH.fresh L)
theorem MD:vK "zip"=Z (.type "zip"):=[bB]
def wU(K:aF)(a b:ab):It:=[adK,∃T x y,[cj,v=.ref T,H T=none,m=[j0,H,T,[x,y]],[YO,ax],∀G,ax K H b G→G[i]?=Z y]]
theorem Wu{P:aY}{w:aU}{K:aF}{T:[ly]}{kk:Nat}{V:Pos}{a b z f TO n e:ab}(D:qM z f TO n e a b):[Kj,.Tuple T kk V,wU K a b,[z,f,TO,n,e],z,[cj,IsZip h z f TO .none,fo h f (.ref n) (.ref e),∃x y,fo h TO x y,[Pu,n,a],[Pu,e,b]]]where
 mem:=[al]
 obj:=λ i h L c hc=>by obtain⟨M,t,⟨x,y,C⟩,⟨o1,e1,_,d1⟩,⟨o2,e2,_,d2⟩⟩:=L;rw[376,hc,[OC,M]];rw[364,t,C]
 keep:=λ i h h' L k=>by obtain⟨M,t,⟨x,y,C⟩,g,r⟩:=L;rw[9,k z [al] _ M,k f [al] _ t,⟨x,y,(k TO [al] _ C)⟩,g.at [Rs,n],r.at [Rs,e]]
 item:=by
  rw[281];obtain⟨xs,ys,x,y,R,U,hx,hy,aH⟩:=hg;rw[358];obtain⟨u,hu,ru⟩:=rv.get hx;obtain⟨u2,hu2,ru2⟩:=S.get hy;have Y:[pU,z]:=bR M;refine wpAny_pyNext_zip_item D M t C g r p.isList p2.isList (x:=u) (y:=u2) [aB,hu] [aB,hu2] λ h' z' TO' h1' h2' hT hsz hk=>?_
  refine[dL,wpAny_letOwnedTupleGo_zip (s:=[ln,h']) z' λ G z'' j=>?_];have hT2:[K0,G.get?]=Z [NM,#[u,u2]]:=[f8,j.2,_,g9 Y,hT];have new:[aad,[x,y],G]:=[aep,hT2];have I1:[lB,σ,[Uf],[ln,G]]:=I.Ab (t':=s.toks) (ch:=[z,f,TO,n,e]) (λ c o d q=>[f8,j.2,c,λ W=>d [bn,W],[Yi,hk,d [bn,W]]]) hf (ba _) new;refine⟨[pQ],_,I1,J,⟨_,x,y,J,[ED],J,[XA,R,hx],[XA,U,hy]⟩,⟨z'',?_,[pv,u,u2],?_,?_⟩,λ c N=>?_⟩;rw[2,[f8,j.2,_,D.TIz,hk _ _ D.TIz D.TITO D.TIi1 D.TIi2 t],[f8,j.2,_,D.TOz,TO']];rw[2,h1'.at λ o q=>[f8,j.2,_,D.i1z,q],h2'.at λ o q=>[f8,j.2,_,D.i2z,q]]
  ·have hlt:[pU,c]:=by
    rw[376,N,Y];rw[39,q,bR t,q,bR C];·rw[q];obtain⟨_,e1,_⟩:=g;exact bR e1
    ·rw[q];obtain⟨_,e2,_⟩:=r;exact bR e2
   rw[4,ar (dY hlt),(hf c N).1]
 done:=by
  rw[281];obtain⟨xs,ys,R,U,O⟩:=hg;rw[358];have l1:=rv.length;have l2:=S.length;have he:m.toArray[i]?=none∨F.toArray[i]?=none:=by rcases O with q|q;rw[73,by rw[17],by rw[17]]
  exact wpAny_pyNext_zip_end (I.ok.hd hc) D M t C g r p.isList p2.isList he λ h' hk=>[acS,[z,f,TO,n,e],hf]
 self:=λ A i s Q E L h=>BI L.1 h
def Wv(K:aF)(T:TA):TI:=[acw,wU]
theorem Ww{X:Cx}{e e2:bc}{T:TA}{p W P:Pos}{V:[ly]}{Q:Nat}(j:Gl X "zip")(N:X.mg "zip"=none)(ha:PA X [e,e2] T)(G:[pc,[e,e2]]=[wC,e]::[pc,[e2]]:=by rfl)(L:[aX,[W5,W,[e2]]]:=by rfl):PI X (.Tuple V Q P) (.Call (.Name "zip" p) [e,e2] [] W) (Wv X.K T):=by
 rw[122,Call_ (m_ I j N MD (vp (bj [Lb,W] λ us Y⟨vs,f,l,k,n⟩=>?_) G L))];obtain⟨a,b,xs,ys,ex,K,U,q⟩:=n;subst ex;cases k with
  |cons r D=>
   cases D with
    |cons A D=>
     cases D;rw[61,r,A];obtain⟨m,rv,O,_⟩:=l.list K;obtain⟨F,rv2,t,_⟩:=l.list U;have u:a<Y.heap.objs.size:=O.lt;have lb:b<Y.heap.objs.size:=t.lt;refine call_zip_2 O.isList t.isList λ S M v x g d hsz C=>BI M ?_
     have o:[U7,f,Y,S]:=l.kept (t':=Y.toks) C;refine⟨[nk,4],[[nk,4],[nk,2],[nk,3],Y.heap.objs.size,[nk,1]],_,_,f,J,o,Wu (PySem.W.ktu_apart Y.heap.objs.size a b u lb),⟨M,v,⟨_,_,x⟩,g,d⟩,λ c E=>?_,q⟩;have i:c=[nk,4]∨c=[nk,2]∨c=[nk,3]∨[Wd,c]∨c=[nk,1]:=[aB,E];have y:Y.heap.objs.size≤c:=by rcases i with z|z|z|z|z;rw[11,z,vB _ _];rw[39,z,vB _ _,z,vB _ _];rw[39,z,ba _,z,vB _ _]
     exact l.oE y (l.aH.fresh y)
end L2
section
namespace Wx
open PySem PyProof.Rows
end Wx
end
section
namespace TL
open PySem PySem.Builtin PySem.Builtin.Str PySem.StrLaws
abbrev tl(x:Str):[ak]:=x.cps.toList
end TL
end
namespace L2
open PySem PySem.Spec PyProof.Rows
theorem MG:∀l:[io,Tok],be ((l.map (·.1)).map V.str) (strValues l)|[]=>.nil|p::r=>(.cons [eJ,p.2] (MG r))
theorem DP:∀{G:[bd]}{W:[bu]},be (G.map V.str) W→StrsAre W G|[],_,.nil=>.nil|y::G,_,.cons r t=>by obtain⟨k,rfl⟩:=r;exact .cons y k (DP t)
def DQ(G:[bd]):[Ix]:=λ H Q=>[OB,.aj (G.map V.str)]
section
variable{X:Cx}{pins:[bF]}{σ:St}{H:Hp}{s:aq}{Q:VK}
theorem DR{l:[io,Tok]}{ys:[bd]}{k:Nat}(I:[bH])(e:l.map (·.1)=ys)(M:ys.length≤aQ)(h:DQ ys H Q):[ael,pins,σ,k,strValues l]:=by have R:=[ED];refine[jp,[pQ],[QK,.aj (ys.map V.str)],I.laid (λ b u q=>cG _ q) (ba _) ⟨[nj,M],strValues l,_,?_,[pu]⟩,h _ R];rw[23,e,MG l]
end
section
variable{X:Cx}
theorem Wy:pS X "str.split" [adL]:=by
 intro B s w H x N v W Q I L r h;obtain⟨a,b,rfl,rfl,K,M,h⟩:=h;rw[41];cases r with
  |cons e r=>
   cases r;obtain⟨u,rfl⟩:=e;have c:[ck,oj a b,aQ]:=bf (PyProof.Rows.split_le a b) M;have hn:[ck,Iy a [Vx,Iz] b.length,aQ]:=by have e1:=[Vx,StrLaws.occ_length_le];rw[27,length_partsBetween]
   cases g:([aK,a.length<b.length]||[aK,sR a<sR b])
   ·cases d:[Vx,Iz].isEmpty;·refine[Y_,meets_str_split_sep a b t u g K d [ac] hn];rw[25,[ael,B,w,_,strsFrom s.toks (Iy a [Vx,Iz] b.length)],strsFrom_eq,DR (ys:=oj a b) I [f8,numbered_texts,_,_,((aD (SA g)).trans (aD (SA d))).symm] c h]
    ·rw[79,[Y_,meets_str_split_not_found a b t u g K d],[abN,(aD (SA g)).trans (aI d)]]
   ·rw[79,[Y_,meets_str_split_cannot_occur a b t u g],[abN,aI g]]
theorem Wz:pS X "str.join" (λ x N H Q=>∃a p,∃G:List Str,x=.str a∧N=[.ref p]∧(ax X.K H p (G.map V.str)∨bM X.K H p (G.map V.str))∧(G.map (·.length)).sum+G.length*a.length≤16777216∧Q (.str (JF a G)) H):=by
 intro B s w H x N v W Q I L e h;obtain⟨a,p,G,rfl,rfl,R,M,h⟩:=h;rw[41];cases e with
  |cons d e=>
   rw[61,e,d];rcases R with R|R;·obtain⟨m,r,⟨o,n,E,b,_,c⟩,_⟩:=[mt,R];exact PyProof.Rows.join_list (items:=m.toArray) ⟨o,E,b,n,c⟩ [ap,RZ,DP r] M [ZY,h]
   ·obtain⟨m,r,F,_⟩:=[wT,R];exact PyProof.Rows.join_tuple (items:=m.toArray) F [ap,RZ,DP r] M [ZY,h]
theorem MH{d:String}{g:Str→Str→V}(e:∀(a b:Str)(t u:Tok)(s:aq)(Q:[aT]),((∀(v:ae)(k:Nat),bw (g a b) v→Q v [Uq,k])→[iZ,call [oD,d] [.str a t,.str b u],Q,s])):pS X d [Ym,Q (g a b) H]:=by intro B s w H x N v W Q I L f h;obtain⟨a,b,rfl,rfl,h⟩:=h;rw[41];cases f with|cons c f=>cases f;obtain⟨u,rfl⟩:=c;exact e a b t u s _ λ v k r=>⟨g a b,H,I.tok k,r,h⟩
theorem WA:pS X "str.endswith" [Ym,Q (.bl (Jt a b)) H]:=MH (g:=λ a b=>.bl (Jt a b)) λ _ _ _ _ s _ h=>PySem.SC.endswith (h _ s.toks J)
theorem Ad:pS X "str.count" [Ym,Q (.int (Txt.count a b)) H]:=MH (g:=λ a b=>.int (Txt.count a b)) λ _ _ _ _ s _ h=>PySem.SC.count (h _ (s.toks+1) [pM])
end
section
variable{X:Cx}{o e:bc}{to te:TE}
def DU(r:[Dw])(to te:TE):TE:=[rf,to,λ x b=>(∃a,x=.str a)∧te w b λ y M=>r x [y] M Q]
theorem rG{i:String}{L:Str}{g W:Pos}{r:[Dw]}(slot:Slot "str" L i)(k:[aba,i])(m:pS X i r)(E:PE X o to)(R:[KB])(G:[NI]:=by rfl)(j:[Es,o,L]:=by rfl)(l:[UC,W.line]:=by rfl):(PE X (.Call (.Attribute o L g) [e] [] W) (DU r to te)):=by rw[58,PySem.Call_method1 j G l [At,E B s w H _ I h,b,f,d,?_]];obtain⟨⟨a,rfl⟩,n⟩:=n;obtain⟨t,rfl⟩:=_root_.id d;refine[abx,slot,k];exact[Ri,R B Y w b _ f n,c,Bv (m B P w M _ [y] _ [u] Q p d [o0,S] c)]
theorem Ae{g W:Pos}(E:PE X o to)(R:[KB])(G:[NI]:=by rfl)(j:[Es,o,"split"]:=by rfl)(f:[UC,W.line]:=by rfl):(PE X (.Call (.Attribute o "split" g) [e] [] W) (DU [adL] to te)):=rG Jh F.type_str_split Wy E R G j f
theorem WB{g W:Pos}(E:PE X o to)(R:[KB])(G:[NI]:=by rfl)(j:[Es,o,"join"]:=by rfl)(f:[UC,W.line]:=by rfl):(PE X (.Call (.Attribute o "join" g) [e] [] W) (DU (λ x N H Q=>∃a p,∃b:List Str,x=.str a∧N=[.ref p]∧(ax X.K H p (b.map V.str)∨bM X.K H p (b.map V.str))∧(b.map (·.length)).sum+b.length*a.length≤16777216∧Q (.str (JF a b)) H) to te)):=rG F.slot_str_join F.type_str_join Wz E R G j f
end
end L2
namespace L2
open PySem PySem.Spec PyProof.Rows
section
variable{X:Cx}
theorem wW:dz X (f9 .In) [ZK]:=by rw[96];obtain⟨c,z,rfl,rfl,q⟩:=h;obtain⟨t,rfl⟩:=L;rw[98,PyProof.Rows.in_str,(PySem.StrLaws.found_one z c).symm]
end
theorem IsPart.raw{v:ae}{o:[sw]}(p:IsPart v o):∃l:[iH,Int×Tok],v=partValue l∧l.map (·.1)=o:=by cases p with|none=>rw[1,none,J,J]|int i t=>rw[1,Z (i,t),J,J]
def wX(n d:Nat):Option Int→Int|none=>[ar,d]|Z i=>max 0 (min (if i<0 then i+[cY]else i) [cY])
theorem MJ(n d:Nat)(o:[sw]):wX n d o=[aN,HT.bz n d o]:=by cases o with|none=>rfl|some v=>rw[362,max [ar,0] (min (if v<0 then v+[cY]else v) [cY])]
theorem WC(a b:[sw])(n:Nat):qw a b 1 n=sliceRange (wX n 0 a) (wX n n b) 1:=by have g:([yx]>0)=True:=[al];cases a<;>cases b<;>first|rfl|(simp only[qw,wX,g,il];rfl)|simp[qw,wX]
theorem WD(a b:[sw])(n:Nat):qw a b 1 n=[wx,HT.bz n n b-HT.bz n 0 a,λ k=>HT.bz n 0 a+k]:=by
 rw[WC,MJ,MJ];generalize HT.bz n 0 a=p;generalize HT.bz n n b=q;simp only[sliceRange,[db,[yx]>0,True,[al]],il];by_cases s:[ar,p]<q
 ·have B:(([ar,q]-p+1-1)/1).toNat=q-p:=by first|omega|(simp;done)|(rw[17])
  simp only[s,il,B];refine iD λ k _=>?_
  omega
 ·rw[47,q-p=0];simp[s,this]
def mq(z:Str)(c O:[sw]):Str:=⟨[aeo]⟩
theorem ML(z:Str)(c O:[sw]):yy z c O=mq z c O:=by
 have g:[K4]≤z.length:=HT.De _ _ (b7 _) _;have r:[ZQ]≤z.length:=HT.De _ _ (ba _) _;have R:[K4]≤[TY]:=BH _ _;have D:[TY]≤z.length:=Nat.max_le.mpr ⟨g,r⟩;have a:[TY]-[K4]=[ZQ]-[K4]:=[ac];have e:qw c O 1 z.length=qw (Z [aN,[K4]]) (Z [aN,[TY]]) 1 z.length:=by rw[PySem.StrLaws.strSliceIndices_plain R D,a,WD]
 have e2:yy z c O=yy z (Z [aN,[K4]]) (Z [aN,[TY]]):=by unfold yy;rw[e]
 rw[e2,PySem.StrLaws.sliceText_nat z R D,a];rfl
theorem WE(z:Str)(c O:[sw]):[ck,mq z c O,z.length]:=by show[aeo].size≤z.cps.size;rw[dN,jJ,lQ,nR];omega
def MM:[Qt]:=λ x c O H Q=>∃z,x=.str z∧z.length≤aQ∧[LS,mq z c O]
theorem DV{X:Cx}:zS X MM:=by
 intro B s w H x v f k b O Y Q I L G d y h;obtain⟨z,rfl,M,q⟩:=h;obtain⟨t,rfl⟩:=L;obtain⟨e,j,g,i⟩:=G;obtain⟨l,rfl,rfl⟩:=IsPart.raw d;obtain⟨u,rfl,rfl⟩:=IsPart.raw y;rw[3,⟨"str",_,F.slot_str_getitem.lookup,tp _ _ _,?_⟩,wpAny_getItem_str_slice (l:=l) (u:=u) (st:=none) ⟨e,j,g,i⟩ J ?_];have a:[ck,(yy z (l.map (·.1)) (u.map (·.1))),aQ]:=[ap,ML,bf (WE z _ _) M];rw[←ML]at q;unfold yy at q a;show Made.post (if((1:Int)==1&&(qw (l.map (·.1)) (u.map (·.1)) 1 z.length).length==z.length)=true then Made.val (.str z t)else Made.str ⟨((qw (l.map (·.1)) (u.map (·.1)) 1 z.length).filterMap (z.cps[·]?)).toArray⟩) [Kl] s;by_cases c:((1:Int)==1&&(qw (l.map (·.1)) (u.map (·.1)) 1 z.length).length==z.length)=true;·rw[aI c]at q⊢;rw[9,.str z,H,I,[eJ,t],q]
 ·rw[aD c]at q a⊢;rw[37,a,.str _,H,[rw],[pM],q]
end L2
namespace MP
open PySem PySem.W PySem.Calls PyProof.Rows
theorem WG{P:Params}{h:aE}:∀(f:[bv])(U:[bu]),WellAll P h U (f.map WData.int)→om U f:=by intro f;induction f with|nil=>intro U w;rw[vI]at w;rw[6,w,.nil]|cons n f T=>intro U w;rw[bO]at w;cases w with|cons a b=>rw[6,a,.cons _ _ (T _ b)]
section
variable{prog:aY}{w:aU}{A:bP}{E:[aT]}{s:aq}{K:Frag}
end
end MP
namespace L2
open PySem PySem.Spec PyProof.Rows
end L2
namespace L2
open PySem PySem.Spec PyProof.Rows
end L2
namespace L2
open PySem PySem.Spec PyProof.Rows
def inClass(s:a9)(j:Nat):a9:=match s with|.ClassDef _ _ _ body _ _ _ _ _ _ _=>body.getD j [V_]|_=>[V_]
def mr(s:a9):vN:=(match s with|.FunctionDef _ a _ _ _ _ _ _ _ _=>a|_=>{posonlyargs:=[],args:=[],vararg:=none,kwonlyargs:=[],kw_defaults:=[],kwarg:=none,defaults:=[]})
def jA(s:a9):[y_]:=(match s with|.FunctionDef _ _ b _ _ _ _ _ _ _=>b|_=>[])
def aZ(s:a9):dR:=(match s with|.FunctionDef _ _ _ _ _ _ sc _ _ _=>sc|_=>{kind:=[Ce],names:=[],isGenerator:=false,isCoroutine:=false})
abbrev aG:kA:=λ _ _ _ _ _ _=>False
abbrev E0:XK:=[Tk]
theorem bH{X:Cx}:oG aG X E0:=λ _ _ _ _ _ _ _ h=>h.elim
structure kE(K:aF)(x N:Str)(L:a9)(f:ab)(v:bq):Prop where
 ex:∃(r:ae)(g:[sB])(kV p z:ae)(A:[sB])(j ct:ae)(w:[Co]),v=km x N (mr L) (jA L) (aZ L) .none kV p z A j ct∧[nM,f]=Z [O0,v]∧[Lp,N]
 kp:[Oi]
section
variable{P:aY}{w:aU}{K:aF}{mg:[a_]}{base:aE}
theorem kE.ok{x b:Str}{L:a9}{f:ab}{v:bq}{N a:[bd]}{k:Nat}{sp:Sp}(F:kE K x b L f v)(S:bQ N a (aZ L))(n:[OE,a.length])(y:[adO,b,sp U H Q E→∃t,gi (gy aG P w K mg base N b (aZ L) f j A outer s H E).jZ (jA L) t∧[aah]]):aA P w K mg base aG (k+1) f v a sp:=by obtain⟨r,g,kV,p,z,c,j,ct,d,rfl,lk,e⟩:=F.ex;rw[301,e,y j A outer s H U Q E u i]
theorem kE.binds{x N:Str}{L:a9}{f:ab}{v:bq}{V:[bd]}(F:kE K x N L f v)(h:[abj,km x N (mr L) (jA L) (aZ L) .none kV p z A j ct]):[Tq]:=by obtain⟨r,g,kV,p,z,A,j,ct,w,rfl,lk,c⟩:=F.ex;exact .all (h kV p z A j ct)
theorem DW{x N:Str}{st:a9}{f:ab}{r:ae}{g A:[sB]}{w:[Co]}{kV p z j ct:ae}(l:[nM,f]=Z [O0,km x N (mr st) (jA st) (aZ st) .none kV p z A j ct])(c:[Lp,N])(k:[Oi]):kE K x N st f (km x N (mr st) (jA st) (aZ st) .none kV p z A j ct):=⟨⟨r,g,kV,p,z,A,j,ct,w,J,l,c⟩,k⟩
end
theorem jB{A:bP}{k:Nat}(u:cy k A):[P7]:=eR (Nat.add_le_add_left ([bj]:32≤64) _) u.units
section
variable{X:Cx}
theorem pv(i:Nat){x:Str}{W:Pos}(v:X.N[i]?=Z x:=by rfl)(y:[D_,q0]:=by first|exact aR J|exact gq (aR J)|exact gq (gq J))(a:[xO]:=by decide)(c:[aX,x==[Rm]]:=by decide):PE X [rD,W] (cv i):=UE v y a c
theorem WH:[OF,"len",∃a Y,N=[gt,a]∧H a=Z (.dK Y)∧Q (.int Y.length) H]:=by intro B s w H N W Q I r h;obtain⟨a,Y,rfl,ha,q⟩:=h;obtain⟨u,rfl,C⟩:=vals1 r;rw[6,C,Wa I (.inl ha) λ t d S=>⟨.int Y.length,H,S,[eJ,t],q⟩]
end
theorem a_{A B:Prop}(h:B):[or,false,A,B]:=[ap,aD eQ,h]
theorem aV{A B:Prop}(h:A):[or,true,A,B]:=[ap,aI J,h]
def ah(H m:Hp):Prop:=[pO,H b,m b=Z o]
theorem ah.refl(H:Hp):ah H H:=λ _ _ h=>h
theorem ah.trans{H d M:Hp}(a:ah H d)(b:ah d M):ah H M:=λ c o h=>b c o (a c o h)
theorem ah.free{H m:Hp}(e:ah H m){l:ab}(h:m l=Option.none):H l=Option.none:=by cases q:H l with|none=>rfl|some o=>rw[43,e l o q]
theorem ah.seq{K:aF}{H m:Hp}{a:ab}{N:[aw]}(e:ah H m)(h:ax K H a N):ax K m a N:=by rw[347,e _ _ h]
section
variable{κ:Type}[[CW,κ]]
theorem DX{Y:[uk]}{k:κ}(h:cn Y k=none):¬k∈[Nh]:=by intro m;obtain⟨p,R,e⟩:=[bE,m];have q:[Ob]=true:=[YJ,e];rw[rE,h]at q;rw[8,q,[al]]
theorem wY{Y:[uk]}{k:κ}{v:V}(h:cn Y k=Z v):k∈[Nh]:=by
 have q:[Ob]=true:=by rw[rE,h];all_goals rfl
 obtain⟨p,R,e⟩:=List.any_eq_true.mp q;exact[Bk,p,R,lR e]
theorem uk:∀{l:List κ}{k:κ},l.Nodup→¬k∈l→(l++[k]).Nodup|[],k,_,_=>[al]|a::r,k,h,C=>by obtain⟨g,b⟩:=[Av,h];show(a::(r++[k])).Nodup;refine List.nodup_cons.mpr ⟨λ m=>?_,uk b λ m=>C (List.mem_cons.mpr (gq m))⟩;rw[153,m];rw[2,g q,C (List.mem_cons.mpr (aR (List.mem_singleton.mp q).symm))]
theorem WI{Y:[uk]}{k:κ}(v:V)(hn:[OT])(h:cn Y k=none):((cD Y k v).map (·.1)).Nodup:=by rw[12,wH v h,cH,uk hn (DX h)]
end
theorem at_of{N:[aw]}{z:Int}{j:Nat}{v:V}(e:z=[ar,j])(h:N[j]?=Z v):kB N z=Z v:=[ap,e,VE h]
theorem ah.made{H a:Hp}{x W C:ab}(nx:H x=Option.none)(nd:H W=Option.none)(k:[qV,[N8,H,x,C],b≠x,a b=Z o]):ah H a:=[DZ,k,by rw[12,ar (aX e nx),ar (aX e nd),e],aX e nx]
end L2
end
section
namespace L2
open PySem PySem.W PySem.Spec PyProof.Rows
section
variable{prog:aY}{w:aU}{A:bP}{E:[aT]}{s:aq}{I S f:ab}{fp wr:[aV]}{n:Nat}{P:[wz,ae]}{St:[wz,aE]}{R:[on,y4]}{Q:[aT]}
def i3(ex:[aV])(h S:aE):Prop:=∀b o,b∉ex→[pW]=Z o→[P0]
def MQ(s:aq)(h:aE)(x:ae)(d:aq):Prop:=∃(k:Int)(t:Tok)(S:aE)(n:Nat),x=.int k t∧d=[qU,S,n]∧[pO,[pW],[P0]]
theorem cmp_gt{k kb:Int}{t F:Tok}{Q:[aT]}{s:aq}(h:Q (.bool [aK,k>kb]) s):[fQ,yS .Gt (.int k t) (.int kb F)]:=by rw[51,CmpOf.ints_gt (prog:=prog) (w:=w) (A:=A) (P:=λ i v=>∃t,v=Value.int [pH,i,0,kb,k] t) (λ i=>[pH,i,0,kb,k]) (λ i v h=>h) 1 0 (.int k t) (.int kb F) s Q E [eJ,t] [eJ,F],this h]
theorem WJ(hh:[wg])(W:[YF])(D:S∉fp)(m:aE)(T:[adT,i3 (S::wr) m h])(hR:∀(i:Nat)(v:ae)(d:aE)(u:Nat),(i<n→P i v→i3 (S::wr) m d→R (.ok (.ret v)) [qU,d,u])):∀(r j:Nat)(h:aE)(G:Nat)(B:ae)(kb:Int)(F:Tok)(c:Nat),[cI,n-j=r,j≤n,St j h,h.get? S=Z (gu [ry] #[B,.int kb F] c),(∃i,i<n∧P i B)→i3 (S::wr) m h→mT [pr] A [aak,[J7,I,f,S]] R [pN,h]]:=by
 have N:[Yn]:=[bj];have U:S∉wr:=(λ z=>D (W.sub S z));have V:∀{h d:aE},i3 (S::wr) m h→[QP,b∉wr,[JR],d.get?,i3 (S::wr) m d]:=λ{h d}k1 k2 b o K e=>k2 b o (λ z=>K (cp _ z)) (k1 b o K e)
 have X:∀{h d:aE},i3 (S::wr) m h→kq S h d→i3 (S::wr) m d:=λ{h d}k1 sb b o K e=>[aew]
 intro r;induction r with
  |zero=>intro j h G B kb F c hr hj L t g C;rw[45,j=n,[ac]];rw[370,t,L,λ d u Q=>?_,d,Q S _ U t];obtain⟨i,hi,hpi⟩:=g;exact hR i B _ _ hi hpi (X (V C Q) Y)
  |succ r ih=>
   intro j h G B kb F c hr hj L t g C;have l:j<n:=[ac];rw[143,t,W.item j _ _ _ l L λ v d u hP H Q=>?_];have hS1:=Q S _ U t;have k1:=V C Q;show[J3,tryCatch (tw [v] [XF]) _];refine au (pj (k9 [acj,T j v d u hP k1]));obtain⟨k,p,a,tk2,rfl,rfl,E⟩:=he;have O:=E S _ hS1;have k2:i3 (S::wr) m a:=λ b o K e=>E b o (k1 b o K e)
   have M:St (j+1) a:=[OZ,W.frame,H,E b o e];rw[381,.int k p,.int kb F,cmp_gt ?_];by_cases y:k>kb;·have Y:=nQ a S (jM [ML,p]);obtain⟨q,hc2⟩:∃q,(a.update S (jM [ML,p])).get? S=Z (gu [ry] #[v,.int k p] q):=[eD,Jo O [ML,p]];simp only[y,decide_true,il];rw[3,au ?_,yL O J (au (oh ?_))];rw[N];refine aW [Pd,ih (j+1) _ _ v k p q [ac] l [aeA,M,D] hc2 ⟨j,l,hP⟩ (X k2 Y)]
   ·simp only[y,decide_false,ki,iE];rw[7,oh ?_];rw[4,N,aW [Pd,ih (j+1) _ _ B kb F c [ac] l M O g k2]]
theorem WK{it:ae}(hh:[wg])(l:0<n)(iter:[adD,I,it])(T:[adT,[uf,[pW]]])(hQ:∀(i:Nat)(v:ae)(a:aE)(p:Nat),(i<n→P i v→([uf,a.get? b])→Q v [qU,a,p])):[fQ,call [Pb] [it] [[PR]]]:=by rw[336,kmk_tree PySem.F.kind_max PySem.F.plain_max PySem.F.entry_max (kmk_max_key _ _) ?_,az _ A.in1 ([Yx,[[PR]]]>>=_) _ _ s,[[PR]],Z [dU],λ I g G fp wr St W V y D O=>?_,SW ?_ (b7 _),tm kU _];generalize K:g.objs.size=S;have t:S∉fp:=[Lg,y S z,[cm,K,g8 _]];have F:S∉wr:=(λ z=>t (W.sub S z));have gS:[Qh].get? S=Z [Q5]:=[cm,K,[pu]];have j:[uf,[Qh].get? b]:=[FD,D b o e];rw[382,K];have X:St 0 [Qh]:=[OZ,W.frame,V,cG _ e];rw[143,gS,W.item 0 _ _ _ l X λ v a p hP B m=>?_];have q:[uf,a.get? b]:=[DZ,m,λ z=>by rw[34,O b z],j b o e];show[J3,tryCatch (tw [v] [XF]) _];refine au (pj (k9 [acj,T 0 v a p hP q]));obtain⟨k,c,r,tk2,rfl,rfl,L⟩:=he;have C:=L S _ (m S _ F gS);have Y:=nQ r S (jM [ML,c]);obtain⟨d,N⟩:∃d,[aar].get? S=Z (gu [ry] #[v,.int k c] d):=[eD,Jo C [ML,c]];show[J3,JL S [ML,c]];rw[3,au ?_,yL C J ?_];rw[u];have U:St 1 r:=[OZ,W.frame,B,L b o e];have H:∀{h:aE},i3 (S::wr) [aar] h→[uf,[pW]]:=[aei,O,L b o (q b o e)];exact aW [Pd,WJ (s:=s) hh W t [aar] (λ i M h G R kb=>T i M h G R (H kb)) (λ i M a p hi R kb=>hQ i M a p hi R (H kb)) _ 1 _ _ v k c d J l [aeb,U] N ⟨0,l,hP⟩ (λ _ _ _ e=>e)]
end
end L2
end
section
namespace L2
open PySem PySem.W PySem.Spec PyProof.Rows
section
variable{prog:aY}{w:aU}{d:ab}{o:Obj}{es:Array i_}{ep:Nat}
theorem WL{A:bP}(W:[wg])(I:ab)(l:d≠I)(X:[Ku,es,ep]):Walks prog w A I [I,d] [I] es.size [YU] (λ i h=>h.IsKeyIter I d i es.size ep∧h.get? d=Z o)where
 sub:=λ b K=>by simp at K;simp[K]
 frame:=λ _ _ _ L C=>⟨L.1.at λ o e=>C I [al] o e,C d [al] o L.2⟩
 item:=λ i s Q E O L p=>by have a:es[i]?=Z es[i]:=sJ O;rw[79,Wp L.1 L.2 X J a λ S c y=>?_,p _ S s.toks [rJ,a] ⟨c,[f8,y.2,d,l,L.2]⟩ λ b o K e=>[qP,y,[KZ,K],e]]
 done:=λ s Q E L p=>Wq W L.1 L.2 X J (ba _) λ S eb=>p S s.toks λ b o K e=>eb b o [KZ,K] e
 self:=λ _ _ _ _ L p=>wpAny_pyIter_keyiter L.1 p
theorem DY(c:[Cr,d])(a:o.ExactDict)(X:[Ku,es,ep]):KdlSrc prog w "dict" d d es.size [YU] (λ h=>h.get? d=Z o)where
 type:=λ _ N=>⟨o,N,a.1⟩
 there:=λ _ N=>⟨bR N,bR N⟩
 keep:=λ _ _ N C=>C d [de] o N
 notList:=[bj]
 notTuple:=[bj]
 hint:=λ _ _ _ _ N D=>kdl_hint_dict ⟨o,N,a.1⟩ D
 iter:=λ A s W N=>⟨_,_,(λ _ _ D=>Wo c N a X D),WL W _ (dY (bR N)) X,⟨[NN],cG _ N⟩⟩
end
theorem MR{prog:aY}{w:aU}{c:Type}[[CW,c]]{d:KeyKind prog w c}:∀{T:List i_}{U:List (c×ae)},Pairs d T U→∀{i:Nat}{en:i_},T[i]?=Z en→∃k u,U[i]?=Z (k,u)∧d.is k en.key=true|_,_,.nil,i,en,h=>by rw[14]|_,_,.cons g _ t,0,en,h=>by rw[95];rw[21,_,_,J,g]|_,_,.cons _ _ t,i+1,en,h=>by obtain⟨k,u,a,b⟩:=MR t (i:=i) (by rw[60]);rw[21,k,u,[aB,a],b]
section
variable{X:Cx}{pins:[bF]}{σ:St}{H:Hp}{s:aq}{d:ab}
theorem Inv.WM{Y:[jT]}(I:[bH])(h:Rd H d (.dK Y)):[Cr,d]∧[aco,∃k v,Y[i]?=Z (k,v)∧bw (kV k) en.key]:=by
 obtain⟨z,a,U,kv,o,T,B,E,A,j,r⟩:=oM I.aH h;have N:s.heap.DictAt (m7 X.prog X.w) d U B:=⟨o,T,E,A,j,r⟩;have m:=r.2.1.length;have e:Y.length=U.length:=[CJ,kv];rw[nR]at m;refine⟨a,z,o,T,B,E,A,j,[ac],λ i en O=>?_⟩;have b:i<Y.length:=by rw[10,[Ka,O].1]
 obtain⟨⟨k,v⟩,g⟩:∃p,Y[i]?=Z p:=⟨Y[i],bX b⟩;obtain⟨u,c,C⟩:=Ac kv g;refine⟨k,v,g,?_⟩;have q:T.toList[i]?=Z en:=[ap,o7,O];obtain⟨f,l,K,D⟩:=MR r.2.1 q;rw[c]at K;rw[6,K,Wr D]
theorem Inv.DZ{Y:[iF]}(I:[bH])(h:Rd H d (.dT Y)):[Cr,d]∧[aco,∃k v q,Y[i]?=Z (k,v)∧en.key=.ref q∧eZ H k q]:=by
 obtain⟨z,c,N,r,o,T,B,g,a,P,w,m⟩:=[Qz,H,s.heap,d,.dT Y,h.ok I.aH];have f:T.size=N.length:=size_of_entries w;have j:Y.length=N.length:=[CJ,r];refine⟨c,z,o,T,B,g,a,P,[ac],λ i en O=>?_⟩;have e:i<Y.length:=by rw[10,[Ka,O].1]
 obtain⟨⟨k,v⟩,l⟩:∃p,Y[i]?=Z p:=⟨Y[i],bX e⟩;obtain⟨b,K,e1,e2,_⟩:=d6 r l;have q:=entry_at w i;rw[K,O]at q;rw[6,q,⟨k,v,b.2.1,l,J,e2⟩]
theorem MU(b:[p_]):gP X [Mr] (λ N H Q=>∃(d:ab)(Y:[iF]),N=[(.ref d)]∧Rd H d (.dT Y)∧∀(l:ab)(G:[aw]),[u8,l,G.length=Y.length,[abE,G,H],Q [lf] (ag H l (.aj G))]):=by
 intro pins s σ H N us Q I r h;obtain⟨d,Y,rfl,f,q⟩:=h;rw[162];cases L;obtain⟨m,z,o,es,ep,E,A,x,n,F⟩:=I.DZ f;refine kdl_call (DY m A x) (I.ok.hd b) E [ac] λ S g P c' kp e M=>?_
 let G:[aw]:=P.toList.map [YM];have c:G.length=Y.length:=by simp only[G,aC,nR];rw[M.1,n]
 have w:be G P.toList:=by
  have K:[adr,[YM]]:=by intro l;induction l with|nil=>intro _;rw[63]|cons a l T=>intro c;obtain⟨q,rfl⟩:=c a [al];exact(.cons J (T λ v y=>c v [bn,y]))
  refine K _ λ v y=>?_
  obtain⟨j,U⟩:=[Kb,y];rw[o7]at U;obtain⟨en,R,rfl⟩:=M.2 j v U;obtain⟨k,v',q,_,C,_⟩:=F j en R;rw[0,q,C]
 rw[26,[pQ],_,I.laid (t':=g) kp (ba _) [Qz,_,S,_,.aj G,⟨[ac],P.toList,c',w,[aB,e]⟩],J,q _ G [ED] c λ i k v t=>?_];have O:i<es.size:=by rw[10,[d0,t]]
 have W:i<P.size:=[ap,M.1,O];obtain⟨en,R,y⟩:=M.2 i P[i] (sJ W);obtain⟨k',v',q',D,p,B⟩:=F i en R;rw[t]at D;cases D;rw[20,q',?_,B];simp only[G,cJ,o7,sJ W,sX,y,p]
end
end L2
end
section
namespace L2
open PySem PySem.W PySem.Spec PyProof.Rows
section
variable{prog:aY}{w:aU}{A:bP}{E:[aT]}{s:aq}{d f:ab}{o:Obj}{es:Array i_}{ep:Nat}
theorem WN{Q:[on,[bu]]}(W:[wg])(m:[Cr,d])(f:o.ExactDict)(X:[Ku,es,ep])(k:[gX,d]=Z o)(hn:es.size≤aQ)(h:∀S G,([uf,[pi,b]])→s.heap.objs.size<S.objs.size→Q [Vw] [pN,S]):[fQ,collect (.ref d)]:=by
 unfold collect;rw[7,wpAny_runValue (s_ entry_proto_collect' ?_)];show az _ _ (do
  again (.builtin "list.__iadd__" [yg,[←BZ [],(.ref d)]])) _ _ s
 rw[7,SW (aW ⟨Code.quiet_builtin _ [bB],s_ entry_list_iadd' ?_⟩)];rw[vt [bB] _];show az _ _ (Builtin.List.listExtendWith [pQ] (.ref d) [pQ]) _ _ [W7,[Q5]];have l:=bR k;refine kdl_extend (R:=λ r j=>match r with|Except.ok (Flow.ret v)=>[Ad,match v with|Value.ref a=>[abo,a,Data.seq]|_=>unsupported "internal:collect",Q,E,j]|Except.ok a=>False|Except.error e=>E e j) (s:=[W7,[Q5]]) (DY m f X) W (cG _ k) s.heap.objs.size (g9 l) (g9 l) [pQ] 0 [pu] (λ S G t n kp p q=>?_) hn;show[Ad,[abo,s.heap.objs.size,.seq],Q,E,[pN,S]];rw[7,wpAny_load p ?_];show az _ _ (pure t.toList) Q E _;have e:t.toList=es.toList.map (·.key):=by
  apply List.ext_getElem?;intro i;rw[cJ,o7,o7];by_cases O:i<es.size;·have u:i<t.size:=[ap,q.1,O];obtain⟨en,g,c⟩:=q.2 i t[i] (sJ u);rw[sJ u,g,c];rfl
  ·rw[IF [e9,q.1],IF [ac]];rfl
 rw[13,e,aW (h S G [DZ,kp,dY (bR e),cG _ e] (bR p))]
theorem WO{Q:[aT]}{N:aE}{L:ab}{m:[a_]}{kz:[bv]}(F:Fr N L s.heap m)(hh:[wg])(lo:[Cr,d])(hx:o.ExactDict)(X:[Ku,es,ep])(ho:[gX,d]=Z o)(hn:es.size≤aQ)(K:kz.length=es.size)(T:∀(i:Nat)(en:i_)(k:Int),es[i]?=Z en→kz[i]?=Z k→∀(h:aE)(G:Nat),[QP,b≠L,[LZ],h.get?,az [pr] A.in1.in1 (call [dU] [en.key]) (λ x s'=>∃t S n,x=.int k t∧s'=[qU,S,n]∧[pO,[pW],[P0]]) [Ay] [pN,h]])(hQ:∀D S G(C:[lc])c,[QP,b≠L,[LZ],S.get?,[cI,S.Ns L m,s.heap.objs.size≤D,[pi,D]=Z (gu [ry] C c),C.toList.Perm [Vw],Q (.ref D) [pN,S]]]):[fQ,[aeF]]:=by
 refine call_function_entry_kw kind_sorted plain_sorted entry_sorted (ksk_s1 _ _) ?_;unfold Builtin.«sorted»;rw[3,au (m:=checkCount "sorted" 1 1 _) (aW ?_),au (WN (A:=A.in1) hh lo hx X ho hn λ g Y k1 M=>?_)];have P:[b9,[Vw],es.size]:=by rw[aC,nR]
 rw[7,SW ?_ [ap,P,bf hn [e9,yR]]];have hL:[pU,L]:=F.ns.lt;have I:[UR].get? g.objs.size=Z [YI]:=[pu];have k2:[uf,[UR].get? b]:=[FD,k1 b o e];let O:=(zy N s.heap L);have N0:News N L s.heap O:=UB;have F2:Fr N L [UR] m:=F.kept k2;have N2:News N L [UR] O:=N0.grown k2;have r:[O4,g.objs.size]:=oa M;have u:∀{h:aE}{m':[a_]},Fr N L h m'→News N L h O→∀b o,b≠L→[TN,[pW]]:=λ{h m'}U V b o hb e=>by cases q:N.get? b with|some o'=>rw[172,F.keep b o' q,U.keep b o q]|none=>exact(V (b,o) (Uz hb q e)).1
 show az _ _ _ _ _ [qU,g.push [YI],Y];rw[7,k9 (wpAny_call_entry_kw slot_list_sort [rJ,I] entry_list_sort ?B (ksk_l1 _ _))];case B=>
  have H:=ksk_t1 f g.objs.size;show az [pr] A.in1.in1 (Builtin.«list.sort» ⟨[.ref g.objs.size],[[PR]]⟩) _ _ _;rw[13,H,ksk_sortAny (kz:=kz) (s:=[qU,g.push [YI],Y]) (news:=O) F2 N2 I (g9 (dG hL r)) (RO (bf F.above (bf (oa hL) r))) (λ p R=>dY (dG (bR (N0 p R).1) r)) [ap,P,K] [ap,P,hn] (λ i v k y hk h G own U V=>?_) λ S G C c F' N' k'=>[Cp]];·rw[cJ,o7]at y;cases a:es[i]? with|none=>rw[a]at y;cases y|some en=>rw[a]at y;cases y;refine(gG (T i en k a hk h G (u U λ p R=>V p (lP _ R))) (λ x s' W=>?_) λ _ _ z=>z);obtain⟨t,h2,tk2,rfl,rfl,k3⟩:=W;exact⟨h2,tk2,t,J,J,U.kept k3,V.grown k3⟩
  ·obtain⟨ps,l,j,_⟩:=k';refine aW [dL,hQ g.objs.size S G C c (u F' λ p R=>N' p (cp _ R)) F'.ns r (N' _ cq).1 ?_];rw[j];rw[50,l.map Prod.snd,BB (by rw[12,P,K,ba _])]
end
end L2
end
section
namespace L2
open PySem PySem.W PySem.Spec PyProof.Rows
def w6(c:ab)(q:Str):HO:=.ext λ h=>h.CodeRec (.ref c) q
structure w8(X:Cx)(c P:ab):Prop where
 code:X.env.code=.ref c
 hd:CodeHd X.base c P
 bm:X.base.BuiltinsAt X.mg P
 pg:b_≠P
def df(H:Hp)(P:ab)(W:Pos)(q:Str):Prop:=∃V:[lc],H P=Z (.je V)∧TriplesOk V.toList∧(codeAmong W V.toList=none∨∃s,codeAmong W V.toList=[b8,s]∧H s=Z (w6 s q))
structure D7(P:ab)(H m:Hp):Prop where
 old:[Cm,P,m b]
 tup:∀b N,m b=[zl]→H b=[zl]
section
variable{X:Cx}{pins:[bF]}{σ:St}{H:Hp}{s:aq}{c P:ab}
theorem MV{a b v:ae}:(∀(l:List ae),TriplesOk l→(∃i t,a=.int i t)→(∃i t,b=.int i t)→TriplesOk (l++[a,b,v]))|[],_,⟨i,t,ha⟩,⟨j,u,K⟩=>by subst ha K;exact lW|.int _ _::.int _ _::_::rest,h,ha,K=>MV rest h ha K
theorem MX{A:bP}{E:[aT]}{t:vN}{B:bc}{l:dR}{W:Pos}{Q:[aT]}(I:[bH])(L:w8 X c P)(T:df H P W [B1])(hdef:S9 t X.env=([],[]))(x:[W0])(h:∀(f:ab)(pm C:ae)(i:ab)(m:Hp)(s':aq),[cI,[j4,m,s'],D7 P H m,df m P W [B1],m f=none,s'.heap.CodeRec (.ref i) [B1]→s'.heap.get? f=Z [ZZ,pm]→f≠X.env.locals→Q [dU] s']):[wY,A,[ul,.Lambda t B l W]]:=by
 obtain⟨ps,j,ht,hk⟩:=T;have hPh:[gX,P]=Z (tabObj ps):=I.aH P _ j;have hcl:=Dy x;have hg:s.heap.Ns b_ X.mg:=[VR];have hB:s.heap.BuiltinsAt X.mg P:=let⟨bm,o,h1,h2,h3,h4,h5,r⟩:=L.bm;⟨bm,o,h1,h2,h3,h4,I.bk _ _ h5,r⟩
 have hC:CodeHd s.heap c P:=L.hd.keeps I.bk;refine kla_eval hdef ?_;rcases hk with O|⟨i,U,hc'⟩
 ·refine kla_makeFunction hcl I.ok.glob hg L.code hC hPh ht O L.pg hB λ i C S tk hx R g D G=>?_
  have Y:H i=none:=[CF,R];have hcP:i≠P:=ja (aX j Y);generalize w:ps++#[f_ W.line,f_ W.col,.ref i]=ps' at G;let M:Obj:=[ZZ,(X.mg [Np]).getD .none];have keep:∀b o,b≠P→[TN,(S.push M).get? b]:=λ b o K e=>cG _ (hx b o K e)
  let m:Hp:=ag (ag H i (w6 i [B1])) P (.je ps');have N:m P=Z (.je ps'):=aw;have eqc:m i=Z (w6 i [B1]):=by show ag _ _ _ _=_;rw[ar hcP,aw]
  have F:[Ck,P,b≠i→m b=H b]:=λ b h1 h2=>by show ag _ _ _ _=_;rw[ar h1,ar h2]
  have p:[pO,H b,b≠i]:=λ b o e=>aX e Y
  have nP:∀b,H b=none→b≠P:=λ b e z=>by rw[z,j]at e;cases e
  have un:Un X.fs [] H m s.heap (S.push M):={
   keep:=λ b o e n _ _=>keep b o (nP b n) e
   slot:=λ b o e n _ _=>⟨o.slots,keep b o (nP b n) e⟩
   free:=λ b o e n _=>[ap,F b (nP b n) (dY (dG (bR e) R)),n]
   there:=λ b o e _=>by
    by_cases K:b=P;·subst K;rw[29,cG _ G]
    ·rw[0,o,keep b o K e]
   dZ:=λ b xs e=>[ac0]
   jV:=λ b o u e=>[ac0]
   jW:=λ b qs e=>by
    by_cases K:b=P;·subst K;rw[34,j];rw[29,by rw[N,←w]]
    ·rw[0,#[],by rw[F b K (p b _ e),e];simp]}
  have aH:[HZ,m,S.push M]:=λ b u e=>by
   rw[151,P,N,cG _ G]
   ·by_cases V:b=i;·subst V;rw[eqc]at e;cases e;rw[20,D.push _,let⟨c2,o2,_,_,e1,e2,_⟩:=D;⟨o2,by rw[6,e1,cG _ e2]⟩,λ h1 h2 r k=>?_];obtain⟨c2,o2,vs2,t2,e1,e2,r⟩:=r;rw[6,e1,⟨_,o2,vs2,t2,J,k o2 e2,r⟩]
    ·rw[F b K V]at e;refine(I.aH b u e).l_ (λ d v hd q=>keep d v ?_ q) (λ d q=>?_) λ d xs q=>?_
     ·rcases hd with rfl|hd;·exact K
      ·rw[54];rw[j]at hd;cases hd
     rw[39,[ab9],q,[ab9],q]
  have I':[j4,m,[qU,S.push M,tk]]:=I.un un aH;have hfn:m S.objs.size=none:=by
   have n1:S.objs.size≠P:=λ z=>by have:=bR G;rw[←z]at this;rw[67,this]
   have n2:S.objs.size≠i:=g9 g;rw[4,F _ n1 n2,[CF,bf R (oa g)]]
  rw[79,h S.objs.size _ C i m _ I' ⟨λ b o e K=>[ap,F b K (p b o e),e],λ b xs e=>by
   by_cases K:b=P;·subst K;rw[34,N]
   ·by_cases V:b=i;·subst V;rw[34,eqc]
    ·rw[75,F b K V,e]⟩ ⟨ps',N,by rw[←w];simpa using MV (a:=f_ W.line) (b:=f_ W.col) (v:=.ref i) _ ht [rJ,_] [rJ,_],[zf,i,by rw[←w];simpa using codeAmong_snoc _ ht O,eqc]⟩ hfn (D.push _) [pu] ?_,g9 (SJ (dG I.lt R) g)]
 ·refine kla_makeFunctionHit hcl I.ok.glob hg L.code hC hPh ht U hB λ C S tk hx R=>?_
  let M:Obj:=[ZZ,(X.mg [Np]).getD .none];have keep:[uf,(S.push M).get? b]:=[FD,hx b o e];have I':[j4,H,[qU,S.push M,tk]]:=I.kept keep;have D:s.heap.CodeRec (.ref i) [B1]:=(I.aH i _ hc').1;exact h S.objs.size _ C i H _ I' ⟨λ b o e _=>e,λ b xs e=>e⟩ ⟨ps,j,ht,[zf,i,U,hc']⟩ [CF,R] (D.keeps keep) [pu] (g9 (dG I.lt R))
end
section
variable{prog:aY}{w:aU}{A:bP}{E:[aT]}{s:aq}{f c':ab}{qual x:Str}{params:vN}{body:bc}{scope:dR}{clos:[pp]}{pm ctv v:ae}{Q:[aT]}
abbrev Af(scope:dR)(L:ab)(clos:[pp])(qual:Str)(f c':ab):Env:=newEnv scope L b_ clos (qual++".<locals>.") (Z f) (.ref c') none yT
theorem MY(F:[gX,f]=Z (kla_obj [Mx] qual params body scope clos pm c' ctv))(i:s.heap.CodeRec (.ref c') qual)(t:A.depth<SM)(m:s.heap.NoLimit)(k:yX (kla_fn [Mx] qual params body scope clos pm (.ref c') ctv) [yg,[v]]=pure [(x,v)])(a:scope.names.lookup x=[wn])(n:∀y∈scope.names,y.2≠.cell)(C:scope.kind=[Ce])(h:[aX,scope.isCoroutine])(l:[aX,scope.isGenerator])(j:∀(g:aE)(L:ab),g.Ns L (λ y=>[(x,v)].lookup y)→(([uf,[Gg]])→az [pr] (A.deeper (Af scope L clos qual f c')) (eval body (Af scope L clos qual f c')) Q [Ay] [P4,g])):[fQ,[XF]]:=by refine S8 (kla_callFunE t F J h l J i ?_);rw[13,k,aW (wpAny_newFunctionEnv n (λ y c=>by simp at c;subst c;exact a) (λ P R p=>[rp,m.fresh _ p]) C)];have u:[uf,P.get? b]:=[DZ,p.extBut,dY (bR e),cG _ e];exact kla_codeExpr (gG (j P s.heap.objs.size R u) (λ r d q=>q) λ _ _ z=>z.elim)
end
theorem WQ{X:Cx}{B:[bF]}{w:St}{H:Hp}{s:aq}{A:bP}{Q:[aT]}{E:[aT]}{l:dR}{L d F f i:ab}{q:[pp]}{N xd x:Str}{Y:[jT]}{k:Key}{v:V}{u:ae}{O t W:Pos}(I:[iw])(C:l.kind=[Ce])(a:[Aw,xd]=(Z .free))(r:q.lookup xd=Z F)(P:s.heap.IsCell F [Ac])(e:[Aw,x]=[wn])(R:s.heap.Ns L (λ z=>[(x,u)].lookup z))(g:Rd H d (.dK Y))(y:cn Y k=Z v)(h:bw (kV k) u)(D:∀m,bw v m→Q m [As,1])(d1:[QH,xd]:=by decide)(d2:[aX,xd==[Rm]]:=by decide)(d3:[xO]:=by decide):[wY,A,eval [Cd,.Name xd O,[rD,t],W] (Af l L q N f i)]:=by obtain⟨z,c,U,j,p⟩:=oM I.aH g;obtain⟨m,T,n⟩:=[VJ,tD U k,[cm,y,j.val k]];have b:[(x,u)].lookup x=Z u:=[al];rw[79,DL PySem.F.slot_dict_getitem.lookup [B3] (yU (wpAny_loadName_free C a r P ?_ d2) d1),yU (IZ C e R b ⟨p.typeIs,wpAny_getItem_of (wJ h) p.mapOf T (D m n)⟩) d3]
theorem WR{prog:aY}{w:aU}{s:aq}{A:bP}{Q:[aT]}{E:[aT]}{l:dR}{L t f g:ab}{q:[pp]}{N x:Str}{its:[bu]}{a b:ae}{O h W:Pos}{i:Nat}(C:l.kind=[Ce])(d:[Aw,x]=[wn])(R:s.heap.Ns L (λ z=>[(x,.ref t)].lookup z))(F:[QB,t,#[a,b]])(D:∀G,Q b [Uq,G])(d3:[xO]:=by decide):[fQ,eval [Cd,[rD,O],.Constant (.int 1) i h,W] (Af l L q N f g)]:=by have X:[(x,[j5,t])].lookup x=Z [j5,t]:=[al];obtain⟨o,e,V,n,c⟩:=F;rw[3,DL (T:="tuple") (id:="tuple.__getitem__") PySem.F.slot_tuple_getitem.lookup [B3] (yU (IZ C d R X ?_) d3),wpAny_Constant_int [rp,⟨o,e,V⟩]];exact getItem_tuple (j:=1) (s:=[As,1]) ⟨o,e,V,n,c⟩ [bj] [bj] [P8,JI 1 2=Z 1] J (D _)
end L2
end
section
namespace L2
open PySem PySem.W PySem.Spec PyProof.Rows
theorem um{c:Type}[[CW,c]]:∀{kvs:List (c×V)}{k:c},k∈kvs.map (·.1)→∃v,cn kvs k=Z v∧(k,v)∈kvs
 |[],k,h=>by rw[14]
 |(d,M)::r,k,h=>by
  rw[30,d,k];·subst e;rw[1,M,lC J,[al]]
  ·have S:k∈r.map (·.1):=by rw[bO]at h;rw[131,[d9,h],[gh,z.symm,e],z]
   obtain⟨v,g,a⟩:=um S;rw[1,v,[ap,lD (p:=(d,M)) e,g],cp _ a]
def MZ(w:St)(i:Nat)(P:ab)(S:Pos)(q:Str)(Q:VK)(x:V)(a:Hp):Prop:=∃d Y,[lk,x=(.ref d),w[i]?=Z [Ac],a d=Z (.dK Y),Y≠[],∀p∈Y,∃z,p.2=(V.int z),d≠P,df a P S q∧∀(m:Hp)(k:Key)(v:V),(D7 P a m→df m P S q→(k,v)∈Y→Q (kV k) m)]
def WS(e:TE)(i:Nat)(P:ab)(S:Pos)(q:Str):TE:=[rf,e,MZ w i P S q Q]
section
variable{X:Cx}
theorem WT{e:bc}{td:TE}{i kk:Nat}{c P cel:ab}{D:vN}{xd x:Str}{p p1 p2 p3 S kp A:Pos}{l:dR}(hr:cy kk X.A)(V:[p_])(ha:PE X e td)(L:w8 X c P)(hg:Gl X "max")(hm:X.mg "max"=none)(hi:X.N[i]?=Z xd)(T:X.env.kindOf xd=(Z .cell))(R:l.names=[(x,.local),(xd,.free)])(hxx:¬(xd=x))(hk:l.kind=[Ce])(hco:[aX,l.isCoroutine])(hgen:[aX,l.isGenerator])(hdef:S9 D X.env=([],[]))(U:∀(N:Str)(clos:[pp])(pm cdv ctv v:ae),yX (kla_fn [Mx] N D [Cd,.Name xd p1,[rD,p2],p3] l clos pm cdv ctv) [yg,[v]]=pure [(x,v)])(hs:[NI]:=by rfl)(d1:[QH,xd]:=by decide)(d2:[aX,xd==[Rm]]:=by decide)(d3:[xO]:=by decide)(hbl:g_ A [pc,[e]]=[wC,e]::g_ A [pc,[]]:=by rfl):PE X (.Call (.Name "max" p) [e] [⟨Z "key",.Lambda D [Cd,.Name xd p1,[rD,p2],p3] l S,kp⟩] A) (WS td i P S [B1]):=by
 intro B s σ H Q I h;rw[3,yC (m_ I hg hm boot_max ?_),[abv,ak ha aB hs A B s σ H (λ vs H1=>match vs with|[x]=>MZ σ i P S [B1] Q x H1|_=>False) I h]];match vs,r,q with
  |[y],r,q=>
   obtain⟨d,Y,rfl,hσ,hd,hne,hint,hdP,hT,q⟩:=q;obtain⟨u,rfl,ru⟩:=vals1 r;cases ru;rw[3,kws_cons ?_,MX I1 L hT hdef (λ y a e=>?_) λ f pm ctv c' M g I2 hgr hT2 hfn hrec hf hfl=>?_]
   ·rw[R]at a;simp only[lU,yE,yY]at a;rcases a with rfl|rfl;·cases e
    ·exact(I.ok.has _ (.inl T))
   refine kws_nil ?_;show az _ _ (call [Pb] [(.ref d)] [[PR]]) _ _ g;have F:M d=Z (.dK Y):=hgr.old d _ hd hdP;obtain⟨lo,z,o,es,ep,ho,hx,hdt,hsz,O⟩:=I2.WM (.inl F);obtain⟨oI,St,hit,W,st0⟩:=(DY (prog:=X.prog) (w:=X.w) lo hx hdt).iter X.A.in1 g [tW] ho;have hes:0<es.size:=[ap,hsz,[B2,hne]];obtain⟨m,hns,hlk⟩:=I2.loc;obtain⟨u',ru',hl'⟩:=hlk i xd (.ref d) hi hσ (.inr (.inl T));cases ru';obtain⟨cel,hcel,hisc⟩:∃cel,[Aq,xd]=Z cel∧g.heap.IsCell cel [Ac]:=by
    rcases hl' with⟨z1,_⟩|⟨_,c2,z2,z3⟩;·rw[T]at z1;cases z1
    ·rw[1,c2,z2,z3]
   have hclo:[Os].lookup xd=Z cel:=by rw[R];simp[ef,hcel]
   have hlk2:[Aw,xd]=(Z .free):=by
    have e1:[aX,xd==x]:=by cases e2:xd==x with|false=>rfl|true=>rw[8,eq_of_beq e2,hxx]
    rw[R,nY,e1];show qG xd [(xd,NameKind.free)]=_;rw[nY,beq_self_eq_true]
   refine WK (P:=[YU]) (n:=es.size) [tW] hes (λ Q' hq=>hit _ _ (hq _ _ g.toks _ _ St W st0 (λ b hb=>?_) [FD,e] λ b hb=>?_)) (λ j v h G hv E=>?_) λ j v h' tk' hj hv E=>?_
   ·rw[iR];simp only[lU,yE,yY]at hb;rw[116,hb,qB _,o_ (bR ho)]
   rw[11,List.mem_singleton.mp hb,RO (ba _)]
   ·rw[254];obtain⟨v',hv1,hv2⟩:=um (kvs:=Y) (k:=k) [iI,_,bt C];obtain⟨zi,hzi⟩:=hint _ hv2;simp only at hzi;subst hzi;have I3:[lB,σ,M,[WD,h,G]]:=I2.kept E;refine MY (s:=[WD,h,G]) (x:=x) (E _ _ hf) (hrec.keeps E) ?_ I3.nolimit (U _ _ _ _ _ _) (by rw[16,R]) (λ y a=>by rw[R]at a;simp at a;rcases a with rfl|rfl<;>simp) hk hco hgen λ h1 L' hns' K=>?_
    ·have:=hr.dp;rw[19,X.A.depth<_]
    have I4:[lB,σ,M,[WD,h1,G+1]]:=I3.kept (t':=G+1) K;refine WQ (s:=[WD,h1,G+1]) I4 hk hlk2 hclo (hisc.keeps λ b o e=>K b o (E b o e)) (by rw[16,R]) hns' (.inl F) hv1 rk (λ w' rw'=>?_) d1 d2 d3;obtain⟨t,rfl⟩:=rw';exact⟨zi,t,h1,_,J,J,K⟩
   ·rw[254];rw[9,kV k,M,I2.kept E,rk,q M k v hgr hT2 (bt C)]
  |[],_,q=>exact q.elim
  |_::_::_,_,q=>exact q.elim
theorem WU{h:aE}{a:ab}{m S:[a_]}(x:h.Ns a m)(y:h.Ns a S):m=S:=by obtain⟨o,T,B,g,r,_,P⟩:=x;obtain⟨O,f,k,d,b,_,c⟩:=y;rw[86,g];rw[r]at b;cases b;funext n;rw[←P,←c]
def D8:Tr→Int|.cons _ [o0,.num z]=>z|_=>0
def M0(P:ab)(S:Pos)(q:Str)(Q:VK)(x:V)(c:Hp):Prop:=∃d Y,[jS,x=(.ref d),c d=Z (.dT Y),∀p∈Y,∃a z,p.1=Tr.cons a [o0,.num z],∀q u b,c q≠Z (.tup [u,.bl b]),df c P S q,∀(m:Hp)(l:ab)(G:[aw]),[cI,D7 P c m,c l=none,df m P S q,m l=Z (.aj G),(∃e:[aw],G.Perm e∧e.length=Y.length∧[abE,e,m])→Q [lf] m]]
def WV(e:TE)(P:ab)(S:Pos)(q:Str):TE:=[rf,e,M0 P S q Q]
theorem WW{e:bc}{td:TE}{kk jj:Nat}{c P:ab}{G:vN}{x:Str}{p p1 p2 p3 S kp pos:Pos}{g:dR}(hr:cy kk X.A)(hcalm:[p_])(ha:PE X e td)(L:w8 X c P)(hg:Gl X "sorted")(hm:X.mg "sorted"=none)(hsn:g.names=[(x,.local)])(hk:g.kind=[Ce])(hco:[aX,g.isCoroutine])(hgen:[aX,g.isGenerator])(hdef:S9 G X.env=([],[]))(hbind:∀(qual:Str)(clos:[pp])(pm cdv ctv v:ae),yX (kla_fn [Mx] qual G [adu] g clos pm cdv ctv) [yg,[v]]=pure [(x,v)])(hs:[NI]:=by rfl)(d3:[xO]:=by decide)(hbl:g_ pos [pc,[e]]=[wC,e]::g_ pos [pc,[]]:=by rfl):PE X (.Call (.Name "sorted" p) [e] [⟨Z "key",.Lambda G [adu] g S,kp⟩] pos) (WV td P S [B1]):=by
 intro pins s σ H Q I h;rw[3,yC (m_ I hg hm boot_sorted ?_),[abv,ak ha aB hs pos pins s σ H (λ vs H1=>match vs with|[x]=>M0 P S [B1] Q x H1|_=>False) I h]];match vs,r,q with
  |[],_,q=>exact q.elim
  |_::_::_,_,q=>exact q.elim
  |[y],r,q=>
   obtain⟨d,Y,rfl,hd,hkey,hnb,hT,q⟩:=q;obtain⟨u,rfl,ru⟩:=vals1 r;cases ru;refine kws_cons ?_;have hdP:d≠P:=by rintro rfl;obtain⟨ps,e,_⟩:=hT;rw[34,hd]
   refine MX I1 L hT hdef (λ y hy e=>?_) λ f pm ctv c' M s2 A U hT2 hfn hrec hf hfl=>?_
   ·rw[hsn]at hy;simp only[lU,yE,yY]at hy;subst hy;cases e
   refine kws_nil ?_;show az _ _ [aeF] _ _ s2;have hd2:M d=Z (.dT Y):=U.old d _ hd hdP;obtain⟨lo,z,o,es,ep,ho,hx,hdt,hsz,ent⟩:=A.DZ (.inl hd2);obtain⟨lo1,z1,o1,es1,ep1,ho1,hx1,hdt1,hsz1,ent1⟩:=I1.DZ (.inl hd);obtain⟨m,F⟩:=A.fr;have pair:∀(j:Nat)(en:i_),es[j]?=Z en→∃k v q a z t,[cj,Y[j]?=Z (k,v),en.key=.ref q,eZ M k q,D8 k=z,s2.heap.IsTuple q #[a,.int z t]]:=λ j en he=>by
    obtain⟨k,v,q,C,hq,hky⟩:=ent j en he;obtain⟨a,z,hk⟩:=hkey _ (bt C);simp only at hk;subst hk;obtain⟨_,N,hxs,u1,r1,rfl,_,u2,r2,rfl,hu2,hr2⟩:=id hky;rw[45,r2=[],hr2];obtain⟨_,its,rv,ht⟩:=[Qz,M,s2.heap,q,.tup [u1,u2],A.aH q _ hxs];cases rv with
     |@cons _ w1 _ _ rv1 rv=>
      cases rv with
       |@cons _ w2 _ _ rv2 rv=>
        cases rv;rcases hu2 with rfl|⟨b,rfl,_⟩;·obtain⟨t,rfl⟩:=rv2;obtain⟨w,o1,o2,n,o3⟩:=ht;exact⟨_,v,q,w1,z,t,C,hq,hky,J,w,o1,o2,n,o3⟩
        ·exfalso;exact hnb q _ _ (U.tup q _ hxs)
   have hkz:[b9,Y.map λ p=>D8 p.1,es.size]:=by rw[aC,hsz]
   refine WO (kz:=Y.map λ p=>D8 p.1) F (I.ok.hd hcalm) lo hx hdt ho [ac] hkz (λ j en kz he hkzj h tk E=>?_) λ D h' tk O c E hns' hD hlD W=>?_
   ·obtain⟨k,v,q,a,z,t,C,hq,hky,hz,ht⟩:=pair j en he;rw[cJ,C]at hkzj;have ez:z=kz:=[cm,hz,[dj,hkzj]];subst ez;rw[hq];have nL:[pO,M b,[FM,b]]:=[ab7];have keptB:[pO,[Pn],[JR]]:=[DZ,E,λ zz=>by rw[35,bR e,zz];rw[67,dG this [ZC]],A.bk b o e];have hcrec:h.CodeRec (.ref c') [B1]:=by obtain⟨c2,o2,vs2,t2,e1,e2,e3,e4⟩:=hrec;refine⟨c2,o2,vs2,t2,e1,E _ _ (λ zz=>?_) e2,e3,e4⟩;obtain⟨mm,⟨oL,eL,epL,hoL,hdL,_⟩,_⟩:=A.loc;rw[zz,hoL]at e2;cases e2;rw[hdL]at e3;cases e3
    refine MY (s:={s2 with heap:=h,toks:=tk}) (x:=x) (E _ _ hfl hf) hcrec ?_ (I.mod.nolimit.keeps keptB) (hbind _ _ _ _ _ _) (by rw[16,hsn]) (λ y hy=>by rw[hsn]at hy;simp at hy;subst hy;simp) hk hco hgen λ h1 L' hnsL hk3=>?_
    ·have:=hr.dp;rw[19,X.A.depth<_]
    refine WR (s:={s2 with heap:=h1,toks:=tk+1}) (its:=[]) (a:=a) hk (by rw[16,hsn]) hnsL ?_ (λ tk'=>⟨t,h1,tk',J,J,hk3⟩) d3;obtain⟨w,o1,o2,n,o3⟩:=ht;rw[9,w,hk3 _ _ (E q w (by obtain⟨_,N,hxs,_⟩:=hky;exact nL q _ hxs) o1),o2,n,o3]
   ·let T:ae→V:=[YM];have refs:∀v∈es.toList.map (·.key),∃q,v=[j5,q]:=λ v hv=>by obtain⟨en,hen,rfl⟩:=[bE,hv];obtain⟨j,hj⟩:=[Kb,hen];rw[o7]at hj;obtain⟨k,v,q,_,E,_⟩:=ent j en hj;rw[0,q,E]
    have all:[adr,T]:=by intro l;induction l with|nil=>intro _;rw[63]|cons a l ih=>intro hl;obtain⟨q,rfl⟩:=hl a [al];exact(.cons J (ih λ v hv=>hl v [bn,hv]))
    have rel:be [Ts] O.toList:=all _ λ v hv=>refs v (W.mem_iff.mp hv)
    have hlen:[b9,[Ts],Y.length]:=by rw[aC,W.length_eq,aC,nR,hsz]
    have fresh:∀b w,s2.heap.get? b=Z w→b≠D:=λ b w e=>dY (dG (bR e) hD)
    have hDn:M D=none:=A.aH.fresh hD;have B:∀b R,M b=Z R→b≠D:=λ b R e=>aX e hDn
    have nL:∀b R,M b=Z R→[FM,b]:=[ab7];have aH:[HZ,ag M D (.aj [Ts]),h']:=λ b u e=>by
     rw[151,D,aw,⟨[ap,hlen,z],O.toList,c,rel,[aB,hlD]⟩]
     ·rw[ar K]at e;refine(A.aH b u e).l_ (λ d' v hd' qq=>E d' v ?_ qq) (λ d' qq=>[Oe,d',qq]) λ d' N qq=>[Oe,d',qq]
      rcases hd' with rfl|hd';rw[2,nL _ _ e,nL _ _ hd']
    have I3:[j4,ag M D (.aj [Ts]),{s2 with heap:=h',toks:=tk}]:=by
     refine A.step (g':=s2.gens) (d':=s2.drawn) (t':=tk) (ch:=[]) (λ _ zz=>nomatch zz) (λ b w h1 _ _ e _=>E b w h1 e) (λ b w h1 _ _ e _=>⟨w.slots,E b w h1 e⟩) (λ b w _ e n=>[cX,fresh b w e,n]) (λ b w _ e=>?_) (λ b N e=>[Oe,b,e]) (λ b R u e=>[Oe,b,e]) (λ b ps e=>⟨#[],by rw[ar (B b _ e),e];simp⟩) (λ m2 hm2=>?_) aH A.bare
     ·by_cases K:b=X.env.locals;·subst K;obtain⟨oL,_,_,hoL,_⟩:=hns';rw[0,oL,hoL]
      ·rw[0,w,E b w K e]
     rw[11,WU hm2 F.ns,hns']
    have tupUp:∀b N,M b=[zl]→ag M D (.aj [Ts]) b=[zl]:=λ b N e=>[Oe,b,e]
    rw[26,.ref D,_,I3,J,q _ D _ ⟨λ b R e K=>?_,λ b N e=>?_⟩ ?_ ?_ aw ⟨[Vw].map T,W.map T,by rw[aC,aC,nR,hsz],λ i k v C=>?_⟩];·have:=U.old b R e K;rw[4,ar (B b R this),this]
    ·by_cases K:b=D;·subst K;rw[34,aw]
     ·rw[75,ar K,U.tup b N e]
    ·cases e:H1 D with
      |none=>rfl
      |some R=>
       have hDP:D≠P:=by rw[54];obtain⟨ps,e',_⟩:=hT2;rw[hDn]at e';cases e'
       rw[88,U.old D R e hDP,hDn]
    ·obtain⟨ps,e1,e2,e3⟩:=hT2;refine⟨ps,[Oe,_,e1],e2,?_⟩;rcases e3 with e3|⟨c2,e3,e4⟩;rw[73,e3,⟨c2,e3,[Oe,_,e4]⟩]
    ·have hi:i<es.size:=by rw[10,[d0,C]]
     obtain⟨k',v',q',hk1,hk2',hk3⟩:=ent i _ (sJ hi);rw[C]at hk1;cases hk1;rw[20,q',?_,hk3.mono tupUp];rw[cJ,cJ,o7,sJ hi];simp only[sX,hk2',T]
end
end L2
end
section
namespace L2
open PySem PySem.W PySem.Spec PyProof.Rows
def ExcAt(h g:aE)(a C:ab)(x:[Am]):Prop:=∃s U,[cj,[zn,s],s.cls=[gv],s.data=[vh,U],g.get? a=none,[Uj,x,U[1]?=Z .none,y,∃T I n,[jS,U[1]?=[b8,T],g.get? T=none,T≠a,h.get? T=Z I,I.data=[vh,n],n[3]?=Z y]]]
def pY(g h:aE):Prop:=[pO,[Gg],b<h.objs.size]
theorem pY.mono{g h S:aE}(x:pY g h)(k:[Pr,S.objs.size]):pY g S:=λ b o e=>dG (x b o e) k
theorem pY.none{g h:aE}(x:pY g h){b:ab}(k:[Pr,b]):[Gg]=none:=by cases q:[Gg]with|none=>rfl|some o=>rw[67,dG (x b o q) k]
structure kF(g:aE)(fs:[aV])(h S:aE):Prop where
 keep:[qV,h.get?,[Q0]∨[Mz],b∉fs→[P0]]
 slot:[qV,h.get?,b∈fs,∃Y,[pi,b]=[Pa,o]]
theorem kF.refl(g:aE)(fs:[aV])(h:aE):kF g fs h h:=⟨λ _ _ e _ _=>e,λ _ o e _=>⟨o.slots,e⟩⟩
theorem kF.trans{g:aE}{fs:[aV]}{h d r:aE}(a:kF g fs h d)(b:kF g fs d r):kF g fs h r where
 keep:=λ c o e k V=>b.keep c o (a.keep c o e k V) k V
 slot:=λ c o e V=>by obtain⟨Y,e1⟩:=a.slot c o e V;obtain⟨s,e2⟩:=b.slot c _ e1 V;rw[0,s,e2]
section
variable{M:tF}{A:bP}{E:[aT]}{s:aq}
theorem WX{base:aE}{env h_:Env}{outer:[wK]}{L:ab}{Q:[aT]}(H:A.frames=Z [Eo])(X:[M9,base,[Eo]])(l:h_.frame=Z L)(F:env.frame=Z L)(h:∀S,Heap.SlotsOnly ((h_::outer).filterMap (·.frame)) s.heap S→Q (.ref L) [ln,S]):az M A (Sx env) Q E s:=by
 unfold Sx;rw[7,wpAny_frameEnvs H ?_];have w:([Eo].dropWhile λ x=>x.frame !=env.frame)=[Eo]:=by simp[List.dropWhile,l,F]
 rw[w];unfold frameObject;rw[7,au (wpAny_readyFrames_fun X λ P f=>aW ?_)];rw[4,l,aW (h P f)]
theorem M3{base:aE}{env h_:Env}{outer:[wK]}{L a C:ab}{n:Obj}{U:[lc]}{g:aE}{y:ae}{G:Bool}{Q:[Ez]}(H:A.frames=Z [Eo])(X:[M9,base,[Eo]])(q:h_.frame=Z L)(F:env.frame=Z L)(hn:pY g s.heap)(R:[gX,a]=Z n)(V:n.cls=[gv])(c:n.data=[vh,U])(ha:g.get? a=none)(j:1<U.size)(h:∀S,[aeE]):az M A (do
 let b←Sx env;
 let f←entryPlaceOf L G;
 let t←EntryCells.newEntry y b .none (f_ L) .none f;
 BY [bi] 1 t) Q E s:=by
 have B:a∉[EV,[Eo],(·.frame)]:=λ N=>by obtain⟨_,o,d,v⟩:=X.mem N;rw[R]at d;injection d with d;subst d;exact v U c
 rw[3,au (WX H X q F λ P m=>?_),au (wpAny_entryPlaceOf λ f l=>?_)];unfold EntryCells.newEntry newFields;rw[7,nU ?_ (l.sizeOk5 _ _ _ _ _)];have u:P.get? a=Z n:=[f8,m.2.1,a,B,R];generalize r:({cls:=.type "traceback",dict:=none,data:=[vh,([y,.ref L,.none,f_ L,.none]++(if f.isEmpty then lS 6 Value.none else f)).toArray]}:Obj)=i;have w:=cG (h:=P) i u;refine BN w c j ?_;have D:P.objs.size≠a:=g9 (bR u);have x:=Bu c (·.setIfInBounds 1 (Value.ref P.objs.size));have I:=IJ (qF (·.setIfInBounds 1 (Value.ref P.objs.size))) w (RM x);have T:[abs].get? P.objs.size=Z i:=((Bo (P.push i) (qF (·.setIfInBounds 1 (Value.ref P.objs.size))) (ja D)).trans (dM P (by rw[←r];rfl)));have p:[Tl,P.objs.size]:=m.1;have keep:∀b o,b≠a→P.get? b=Z o→[abs].get? b=Z o:=λ b o K e=>[ap,Bo _ _ (ja K),cG _ e]
 refine h _ [Zg,?_,?_] ⟨_,_,I,[f8,Obj.cls_mapFields,_,_,V],x,ha,P.objs.size,i,_,[bn,j],hn.none (mP p.symm),D,T,by rw[←r],by first|simp|(simp;done)⟩ ?_
 ·have W:b≠a:=λ z=>by
   subst z;rcases k with k|k;·rw[198,ha]
   ·rw[76,R,k U c]
  exact keep b o W ((m.2.1 b K).trans e)
 ·obtain⟨Y,e1⟩:=m.2.2 b o e;rw[0,Y,keep b _ (λ z=>B (z▸K)) e1]
 ·rw[12,Jc,iR,bf (mP p.symm) (vL _)]
theorem D9{base:aE}{env h_:Env}{outer:[wK]}{L a C:ab}{g:aE}{x:[Am]}{Q:[Ez]}(H:A.frames=Z [Eo])(X:[M9,base,[Eo]])(w:h_.frame=Z L)(F:env.frame=Z L)(hn:pY g s.heap)(d:[Ib,s.heap,x])(h:∀S,[aeE]):az M A (JK [bi] env) Q E s:=by
 obtain⟨m,U,R,V,f,ha,u⟩:=id d;cases x with
  |none=>unfold JK;simp only[F];rw[7,f7 R f u ?_];rw[4,[CO],M3 H X w F hn R V f ha [Ka,u].1 h]
  |some y=>
   obtain⟨T,I,n,c,t,B,Y,p,P⟩:=u;by_cases i:y=f_ L;·subst i;exact wpAny_noteFrame_inFlight F R f c Y p P (h s.heap (kF.refl _ _ _) d (ba _))
   ·unfold JK;simp only[F];rw[7,f7 R f c ?_];rw[[adg]];rw[7,f7 Y p P ?_];rw[aD (by intro z;exact i (eq_of_beq z))];rw[7,BN Y p [Ka,P].1 ?_];have r:[Ck,T,(s.heap.update T (qF (·.setIfInBounds 3 Value.none))).get? b=[zX]]:=λ b K=>Bo _ _ (ja K)
    have D:[pO,[zX],([Mz])→b≠T]:=λ b o K v q=>by rw[q,Y]at K;injection K with K;subst K;exact v n p
    refine M3 (s:=[ln,s.heap.update T (qF (·.setIfInBounds 3 Value.none))]) H (X.of_keeps λ b o K v=>[tJ,o,[f8,r,b,D b o K v,K]]) w F (hn.mono (mP (Jc ..).symm)) [f8,r,a,ja B,R] V f ha [Ka,c].1 λ S j W sz=>h S [Zg,j.keep b o ((r b ?_).trans e) k K,j.slot b o ((r b ?_).trans e) K] W (bf (mP (Jc ..).symm) sz)
    ·rw[54];rcases k with k|k;·rw[198,t]
     ·rw[76,Y,k n p]
    ·rintro rfl;obtain⟨_,O,l,v⟩:=X.mem K;rw[Y]at l;rw[6,l,v n p]
theorem Ag{a C:ab}{g:aE}{y:ae}{fr:[sB]}{fs:[aV]}{Q:[Ez]}(d:[Ib,s.heap,Z y])(H:∀b∈fs,∀o,[zX]=Z o→[Mz])(h:∀S z,[cI,fr=none→z=Value.none,kF g fs s.heap S,[Ib,S,Z z],s.heap.objs.size≤S.objs.size,Q () [ln,S]]):az M A (setFlight [bi] fr) Q E s:=by
 obtain⟨l,U,R,V,i,ha,T,I,n,c,t,p,Y,m,P⟩:=d;unfold setFlight;rw[7,f7 R i c ?_];rw[13,[adg],BN Y m [Ka,P].1 ?_];have r:[Ck,T,∀z,(s.heap.update T (qF (·.setIfInBounds 3 z))).get? b=[zX]]:=λ b K z=>Bo _ _ (ja K)
 have j:=[Ka,P].1;refine h _ (fr.elim Value.none λ f=>f_ f) (λ z=>[fy,z]) [Zg,(r b ?_ _).trans e,⟨o.slots,((r b ?_ _).trans e)⟩] ⟨l,U,((r a (ja p) _).trans R),V,i,ha,T,_,_,c,t,p,IJ _ Y (RM (Bu m _)),Bu m _,[bn,j]⟩ [ap,Jc,ba _]
 ·rw[54];rcases k with k|k;·rw[198,t]
  ·rw[76,Y,k n m]
 ·rw[54];exact H _ K _ Y n m
end
def pZ:[ii,HO]|.aj _=>true|.tup N=>N.all λ x=>! dD x|.dK _=>true|.dT _=>true|.set _ _=>true|_=>false
theorem M4{P:aY}{w:aU}{H:Hp}{h:aE}{a:ab}{o:HO}(x:cU P w H h a o)(R:pZ o=true):∃i,[zn,i]∧∀U,i.data≠[vh,U]:=by cases o with|aj N=>obtain⟨_,_,_,_,e⟩:=x;rw[36,e,λ U z=>by cases z]|tup N=>obtain⟨_,_,_,i,e,_,n,b⟩:=x;rw[36,e,[Xp,b]]|dK Y=>rw[365]|dT Y=>rw[365]|set S n=>obtain⟨i,T,k,t,e,b⟩:=x;rw[36,e,λ U z=>by first|(rw[80,b.2.1])|(rw[80,b.1])|(obtain⟨_,b,_⟩:=b;rw[80,b])]|_=>cases R
theorem M5{P:aY}{w:aU}{H:Hp}{h:aE}{a:ab}{o:HO}(x:cU P w H h a o):∃i,[zn,i]:=by cases o with|aj N=>obtain⟨_,_,_,_,e⟩:=x;rw[29,e]|tup N=>obtain⟨_,_,_,i,e,_⟩:=x;rw[29,e]|dK Y=>rw[169];rw[29,e]|dT Y=>rw[169];rw[29,e]|set S n=>obtain⟨o,_,_,_,e,_⟩:=x;rw[29,e]|ins C W fs=>obtain⟨_,_,_,e,_⟩:=x;rw[29,e]|own y=>obtain⟨_,e⟩:=x;rw[29,e]|xd fs=>obtain⟨_,⟨_,_,_,e,_⟩,_⟩:=x;rw[29,e]|zw c O=>obtain⟨_,_,_,e⟩:=x;rw[29,e]|iG i u=>obtain⟨e,_⟩:=x;rw[29,e]|je V=>rw[29,[X7]]|met f y=>rw[29,[X7]]|ext j=>obtain⟨_,⟨_,e⟩,_⟩:=x;rw[29,e]
def bD(H m:Hp):Prop:=[EI,m,H b,pZ o=true]
theorem bD.refl(H:Hp):bD H H:=λ b o e n=>by rw[34,n]
theorem bD.trans{H d M:Hp}(a:bD H d)(b:bD d M)(k:ah d M):bD H M:=λ c o e n=>by cases q:d c with|none=>exact b c o e q|some u=>rw[172,k c u q,a c o q n]
theorem bD.ag{H m:Hp}{a:ab}{o:HO}(x:bD H m)(E:pZ o=true):bD H (ag m a o):=λ b u e n=>by rw[151,a,aw,E];·rw[75,ar K,x b u e n]
def dt(P:aY)(w:aU):kA:=λ outer H s E e d=>∃(a C:ab)(m:Hp),[lk,e=[bi],d.os=s.os,vR d.gens,Un (dv outer) [] H m s.heap d.heap,di P w m d.heap,ExcAt d.heap s.heap a C (Z .none),bD H m∧E [gv] none m]
theorem ExcAt.mono{h g Q:aE}{a C:ab}{x:[Am]}(e:[Ib,h,x])(k:[pO,Q.get? b,[Q0]]):ExcAt h Q a C x:=by
 have F:∀b,[Gg]=none→Q.get? b=none:=λ b K=>by cases q:Q.get? b with|none=>rfl|some o=>obtain⟨O,z⟩:=k b o q;rw[80,K]
 obtain⟨s,U,c,d,P,w,m⟩:=e;rw[53,s,U,c,d,P,F a w,?_];cases x with|none=>exact m|some y=>obtain⟨T,I,n,H,R,r⟩:=m;rw[37,T,I,n,H,F T R,r]
def XS(X:Cx)(E:XK)(e:ae)(d:aq):Prop:=∃(a C:ab)(m:Hp)(B:[bF])(w:St)(x:[Am])(g:aE),[lk,e=[bi],[lB,w,m,d],[Ib,d.heap,x],pY g d.heap,[qV,X.eV.heap.get?,b∉X.ex,[Q0]],[X0,m],E [gv] none m]
section
variable{X:Cx}{pins:[bF]}{σ:St}{H H':Hp}{s s':aq}{h' g:aE}
theorem M6{P:aY}{w:aU}{h:aE}{fs:[aV]}(E:di P w H' h)(k:kF g fs h h')(B:[zI,fs,H'])(d:[X0,H']):di P w H' h':=λ b o e=>by
 have M:∀c u v,H' c=Z u→h.get? c=Z v→h'.get? c=Z v:=λ c u v V q=>by refine k.keep c v q ?_ (λ z=>by rw[B c z]at V;cases V);cases z:g.get? c with|some O=>rw[46,[eJ,O]]|none=>right;obtain⟨i,a,r⟩:=M4 (E c u V) (d c u V z);rw[q]at a;rw[6,a,r]
 refine[OH,E b o e,λ c v V q=>?_];rcases V with rfl|V;rw[2,M _ _ _ e q,M _ _ _ V q]
theorem M7{f ex:[aV]}{H0:Hp}{I h:aE}(u:Un f ex H0 H' I h){fs:[aV]}(k:kF g fs h h')(j:[pO,I.get? b,[Q0]])(sub:[EI,I.get?,H0 b,b∈fs→b∈f])(t:[zI,fs,H'])(A:∀b∈fs,b∉ex):Un f ex H0 H' I h' where
 keep:=λ b o q n K R=>k.keep b o (u.keep b o q n K R) (.inl (j b o q)) (λ z=>K (sub b o q n z))
 slot:=λ b o q n K R=>by obtain⟨Y,e1⟩:=u.slot b o q n K R;rw[280,s,Y]
 free:=u.free
 there:=λ b o q R=>by obtain⟨O,e1⟩:=u.there b o q R;rw[280,_,O]
 dZ:=u.dZ
 jV:=u.jV
 jW:=u.jW
theorem M8{P:aY}{w:aU}{K:aF}{mg:[a_]}{base:aE}{N:[bd]}{m:Str}{l:dR}{f:ab}{u:ae}{A:bP}{outer:[wK]}{s:aq}{H:Hp}{E:XK}{e:ae}{s':aq}(x:XS (gy [gL] P w K mg base N m l f u A outer s H E) (λ c d H'=>E c d H'∧bD H H') e s'):(gy [gL] P w K mg base N m l f u A outer s H E).xe e s':=by
 obtain⟨a,C,H',pins,σ,y,g,rfl,I,i,T,S,L,hE,U⟩:=x;generalize G:gy [gL] P w K mg base N m l f u A outer s H E=X at I S⊢;have e1:[Eu]:=by subst G;rw[0,J,J]
 have Y:X.xe=λ e s'=>az (aM P w) X.A (leaving X.env e) (λ _ V=>dt P w X.outer X.m9 X.eV E e V) (λ k V=>dt P w X.outer X.m9 X.eV E k V) s':=by subst G;rfl
 have F:X.prog=P∧X.w=w∧X.ex=[]∧X.m9=H:=by subst G;rw[21,J,J,J,J]
 rw[Y];have t:X.A.frames=Z [Ot]:=by rw[I.ok.frames,e1.1]
 have p:=I.stack;rw[e1.1]at p;have free:[zI,[vX],H']:=[cm,e1.1,I.wg];unfold leaving;rw[3,au (D9 t p e1.2 e1.2 T i λ h k1 R sz1=>?_),[ad1,s',h,λ b j o eo=>?_]];·obtain⟨_,o1,B,v⟩:=p.mem j;obtain⟨sl,q⟩:=k1.slot b o1 B j;rw[[db,[pW],Z o,eo]]at q;rw[6,q,v]
 have D:=M J;subst D;have k3:=k1.trans k2;have Q:=I.base;rw[F.2.2.1]at Q;have sub:[ad8]:=λ b o q n j=>by
  have W:[Zv]:=I.we b [ap,e1.1,j];rcases[d9,W]with z|z;·exfalso;have h:=bR q;have r:=I.ok.above;rw[z]at h;rw[67,dG h r]
  ·exact z
 have S:∀b o,[U4]:=λ b o q=>S b o q (by rw[16,F.2.2.1])
 refine⟨a,C,H',J,I.os,I.bare,M7 Q k3 S sub free [al],?_,x2.mono S,[ap,F.2.2.2,U],hE⟩;·rw[←F.1,←F.2.1];exact M6 I.aH k3 free L
theorem XS.callee{E:XK}{e:ae}(I:[bH])(c:dt X.prog X.w X.stack H s E e s'):XS X E e s':=by obtain⟨a,C,H',rfl,f,g,d,aH,A,m,w⟩:=c;have S:[j4,H',s']:=I.zA (ch:=[]) f d aH g (λ b z=>[JO,z]);refine⟨a,C,H',pins,σ,_,s.heap,J,S,A,(λ b o q=>let⟨O,z⟩:=d.there b o q [al];bR z),λ b o q K=>[Pj,q,K],λ b o eb K=>?_,w⟩;·cases q:H b with|none=>exact m b o eb q|some u=>exfalso;obtain⟨i,z⟩:=M5 (I.aH b u q);rw[80,K]
def WY(E:XK)(C:ab):TS:=λ _ _ H=>E [gv] none H
theorem nr{x:Str}{C:ab}{B n M:String}{k:[bu]}{m d W:Pos}{E:XK}(j:Gl X x)(O:OwnCls x C k n X.mg X.base)(w:ExcBaseFacts B n M k)(V:[p_])(G:∀e s',XS X E e s'→X.xe e s')(a:[xO]:=by decide):PS X (.Raise (Z (.Call [rD,m] [] [] d)) none W) (WY E C):=by intro pins s σ H D I h;obtain⟨tl,N,l,q,S,r,y,sub,A,u,p,g,k1,k2,k3,f,L,P,v,Q,T⟩:=O.obj;rw[3,wpAny_Raise_call_subT (C:=C) (nm:=l) (q:=q) (N:=N) (bs:=S) (bm:=tl) (hdct:=r) (sn:=y) (sub:=sub) (ab:=A) (col:=u) (dd:=p) (k0:=g) (k1:=k1) (k2:=k2) (k3:=k3) (k5:=f) w (mN:=L) (T.hasType w.hasBase) [tW] J Q (rf I j O.bound [md,?_] a),evalArgs_empty ⟨J,b7 _,I.bk _ _ P,v.keeps I.bk,T.keeps I.bk,λ h' e c=>G _ _ ?_⟩];obtain⟨t,F,_,_⟩:=c.there;refine⟨e,C,H,pins,σ,none,s.heap,J,I.kept (t':=s.toks) c.keeps,⟨_,_,F,J,J,c.new,J⟩,λ b o q=>bR (c.keeps b o q),λ b o q K=>[Pj,q,K],λ b o eb K=>?_,h⟩;obtain⟨i,z⟩:=M5 (I.aH b o eb);rw[K]at z;cases z
end
section
variable{P:aY}{w:aU}{K:aF}{mg:[a_]}{base:aE}
abbrev uo(E:XK)(H:Hp):XK:=λ c d m=>E c d m∧bD H m
theorem kE.p0{x h:Str}{L:a9}{f:ab}{v:bq}{N g:[bd]}{k:Nat}{sp:Sp}(F:kE K x h L f v)(S:bQ N g (aZ L))(y:[OE,g.length])(C:[adO,h,sp U H Q E→(∀e d,XS (gy [gL] P w K mg base N h (aZ L) f j A outer s H E) (uo E H) e d→(gy [gL] P w K mg base N h (aZ L) f j A outer s H E).xe e d)→(oG [gL] (gy [gL] P w K mg base N h (aZ L) f j A outer s H E) (uo E H)→∃t,gi (gy [gL] P w K mg base N h (aZ L) f j A outer s H E) (jA L) t∧[aah])]):aA P w K mg base [gL] (k+1) f v g sp:=by obtain⟨r,i,kV,p,z,n,j,ct,o,rfl,lk,q⟩:=F.ex;rw[79,Dd lk q S y λ A outer s H U Q E u l=>?_,C j A outer s H U Q E u l (λ e d x=>M8 x) λ B a b Y e d I c=>M8 (XS.callee I c)]
end
end L2
end
section
namespace L2
open PySem PySem.W PySem.Spec PyProof.Rows
section
variable{X:Cx}{pins:[bF]}{σ:St}{H:Hp}{s:aq}
theorem ExcAt.but{h S g:aE}{a C b:ab}{x:[Am]}(e:[Ib,h,x])(j:kq b h S)(K:∃o,[JR]∧[Mz]):[Ib,S,x]:=by
 obtain⟨i,l,v⟩:=K;obtain⟨s,U,d,r,P,w,m⟩:=e;have M:∀c o U,h.get? c=Z o→o.data=[vh,U]→[pi,c]=Z o:=λ c o U q f=>[f8,j.2,c,λ z=>by rw[z,l]at q;rw[6,q,v U f],q]
 rw[53,s,U,M a s U d P,r,P,w,?_];cases x with|none=>exact m|some y=>obtain⟨T,I,n,H,R,k,u,p,t⟩:=m;exact⟨T,I,n,H,R,k,M T I n u p,p,t⟩
theorem WZ{EX:XK}{h:aq}{L:Hp}{l:dR}{G:Env}{t:[aV]}{use:[ZH]}{Qf:[aT]}{acc:ae}{e:ae}{f:aq}(e1:[Eu])(hX:∀e f,XS X EX e f→X.xe e f)(I3:[j4,L,h])(i:[Pi,X,pins,L])(cL:G.locals=h.heap.objs.size)(cf:G.frame=X.env.frame)(x:XS (X.cV h L l G t) EX e f):tz [Ct] X.A G (λ e s''=>vO [Ct] X.A X.xe use Qf acc h.heap.objs.size (.error e) s'') e f:=by
 obtain⟨a,C,m,pins',σ',y,g,rfl,E,hx,M,S,A,hE⟩:=x;have hfr:X.A.frames=Z [Ot]:=by rw[I3.ok.frames,e1.1]
 have p:f.heap.FunFrames X.base [Ot]:=by have:=E.jX;rw[23,e1.1,this]
 have free:[zI,[vX],m]:=λ b K=>E.wg b (by rw[25,b∈dv X.stack,e1.1,K])
 have fr3:∀b∈[vX],b<h.heap.objs.size:=λ b K=>by have h3:=I3.stack;rw[e1.1]at h3;obtain⟨_,o,ho,_⟩:=h3.mem K;exact bR ho
 obtain⟨mb,⟨P,esC,epC,hoC,W,rC⟩,_⟩:=E.loc;have hoC':f.heap.get? h.heap.objs.size=Z P:=[cm,cL,hoC];have nfC:∀U,P.data≠[vh,U]:=[Xp,W];have nC:h.heap.objs.size∉[vX]:=[Lg,fr3 _ z,g8 _];unfold tz;refine D9 hfr p e1.2 (cf.trans e1.2) M hx λ d k1 x1 sz1=>?_
 have hC1:d.get? h.heap.objs.size=Z P:=k1.keep _ _ hoC' (.inr nfC) nC;rw[20,mb,⟨P,esC,epC,hC1,W,rC⟩,λ r j D _=>?_];have x2:=x1.but j ⟨P,hC1,nfC⟩;have x2':=x2;obtain⟨oe,U,q1,q2,q3,q4,T,oT,ts,q5,q6,q7,q8,q9,q10⟩:=x2';unfold PySem.passOn;rw[7,f7 (s:={f with heap:=r}) q1 q3 q5 ?_];rw[aD (show¬(([j5,T]==Value.none)=true)from[al])];have frD:∀b∈[vX],∀o,r.get? b=Z o→[Mz]:=λ b K o eo=>by obtain⟨_,o1,ho1,hnf⟩:=p.mem K;obtain⟨Y,q⟩:=k1.slot b o1 ho1 K;have q':r.get? b=[Pa,o1]:=[qP,j,λ z=>nC (z▸K),q];rw[eo]at q';rw[6,q',hnf]
 have I:[iZ,(do
  setFlight [bi] D.frame;
  throw [bi]:Sem ae),[Ay],{f with heap:=r}]:=by
  rw[3,au (Ag (s:={f with heap:=r}) (fs:=[vX]) x2 frD λ w z _ k4 x4 sz4=>wpAny_throw ?_),hX _ _ ?_];have Q:[qV,f.heap.get?,b≠h.heap.objs.size,([Q0]∨[Mz])→b∉[vX]→w.get? b=Z o]:=λ b o q K k F=>k4.keep b o [qP,j,K,k1.keep b o q k F] k F
  have slots:[qV,f.heap.get?,b∈[vX],∃Y,w.get? b=[Pa,o]]:=λ b o q F=>by obtain⟨Y,e2⟩:=k1.slot b o q F;obtain⟨H,B⟩:=k4.slot b _ [qP,j,λ z=>nC (z▸F),e2] F;rw[0,H,B]
  have in3:[pO,h.heap.get? b,b≠h.heap.objs.size]:=λ b o q=>dY (bR q)
  have N:Un (dv X.stack) t L m h.heap f.heap:=E.base;rw[e1.1]at N;have un:Un [vX] t L m h.heap w:={
   keep:=λ b o q n K R=>Q b o (N.keep b o q n K R) (in3 b o q) (.inl (S b o q R)) K
   slot:=λ b o q n K R=>by obtain⟨Y,e2⟩:=N.slot b o q n K R;obtain⟨H,B⟩:=slots b _ e2 K;rw[0,H,B]
   free:=N.free
   there:=λ b o q R=>by
    obtain⟨O,e2⟩:=N.there b o q R;by_cases F:b∈[vX];·obtain⟨H,B⟩:=slots b _ e2 F;rw[29,B]
    ·rw[0,O,Q b _ e2 (in3 b o q) (.inl (S b o q R)) F]
   dZ:=N.dZ
   jV:=N.jV
   jW:=N.jW}
  have aH:[HZ,m,w]:=λ b o eb=>by
   have go:∀c u v,m c=Z u→f.heap.get? c=Z v→w.get? c=Z v:=λ c u v V q=>by
    refine Q c v q [wP] ?_ (λ z=>by rw[free c z]at V;cases V);·rw[35,E.free,[db,(X.cV h L l G t).env.locals,h.heap.objs.size,cL]];rw[z,this]at V;cases V
    ·cases z:g.get? c with|some O=>rw[46,[eJ,O]]|none=>right;obtain⟨ob,d,r⟩:=M4 (E.aH c u V) (A c u V z);rw[q]at d;rw[6,d,r]
   refine[OH,E.aH b o eb,λ c v V q=>?_];rcases V with rfl|V;rw[2,go _ _ _ eb q,go _ _ _ V q]
  rw[←e1.1]at un;have I7:[j4,m,{f with heap:=w}]:=I3.zA (ch:=t) E.os un aH E.bare [UJ,i b K];refine⟨a,C,m,pins,σ,Z z,g,J,I7,x4,M.mono (bf sz1 ?_),λ b o q K=>?_,A,hE⟩;·have:r.objs.size=d.objs.size:=j.1;exact bf (mP this.symm) sz4
  ·obtain⟨O,e2⟩:=I3.base.there b o q K;refine S b O e2 [wP];rw[154,(i b z).2.2.2.1,K k,[gh,dG (bR q) k,g8 _]]
 first|exact I|exact au (aW I)
theorem M9{EX:XK}(e1:[Eu])(hX:∀e d,XS X EX e d→X.xe e d){pins:[bF]}{s:aq}{σ:St}{H:Hp}{Q:VK}{B tg iter:bc}{A:[ly]}{l:dR}{G:[Lu]}{f pos':Pos}{wi:TI}{g:TG}{tt:TT}{te:TE}{Y:[ZH]}{Qf:[aT]}(hc:[p_])(hN:X.N.Nodup)(I:[bH])(hi:[Nk,wi])(ok:[M6,l,G])(hg:[Bj,PG,l,tg,g])(ht:[Bj,pV,l,A,tt])(he:[aay,PE ([L3,l,N].iu λ e d=>XS [L3,l,N] EX e d) B te])(hs:[Mn])(h:oK wi g tt te (G.map (·.2)) σ H Q)(hRR:[ad9,[j4,a,d],pins]):[iZ,[adm,B,A],Qf,s]:=by
 have E:[W0]:=[acv];refine[abh,E,hi pins s σ H _ I h,λ itv P h2=>?_];rw[329,P.heap.objs.size,P,P.heap.push,[j4,[ni,M,D],s3],P.toks];have w:[aen,pins]:=[adQ];rw[366,w,.compStart [Cy,B,A,l,f] 0 (.ref it) (.ref D) [ZR]];generalize hH3:[ni,M,D]=L at I3 I4 pg pt pe w0 nfp w;rw[380];have F:[acx]:=[acm];have O:[ac9,B,A,[ZO]]:=by
  rw[242,Mi (λ n d=>∃i a,Inv (X.cV s3 L l ce t) [] (wipe σ (G.map (·.2))) a d∧tn i d.heap∧(∀b∈t,a b=none)∧W i n a) ?_ m0 ⟨0,L,I4,st4,nfp,w0⟩,turn i n V w5];·rw[234,T.done [DO] rfl rfl rfl hc i [] s5 _ V [Ay] I5 (F I5 n5) st5 stop,[j4,V,s6],[ac3,w b K],[abG]]
  ·have ti:=T.item [DO] rfl rfl rfl hc i [] s5 _ V [Ay] I5 (F I5 n5) st5 go;rw[334,F,Inv [DO] [] (wipe σ (G.map (·.2))) a d,[abe,hNx a nx,s7.heap.get? b=Z o→d.heap.get? b=Z o∧a b=none,I'.pin (b,o) (iQ _ (iQ _ (zH K e))),⟨z.1,z.2.1⟩,[b9,(wipe σ (G.map (·.2))),R.length],[abg],zZ e,T.obj _ _ S b K,U b K o e],gG (pe _ s9 R H9 _ (I9.iu _) q9) [abP] λ e d hx=>WZ e1 hX I3 (λ b K=>(w b K).1) cL (by subst hce;rfl) hx,I10.lx]
 exact[abY,O]
theorem M_{L:XK}(e1:[Eu])(i:∀e d,XS X L e d→X.xe e d){u tg iter:bc}{r:[ly]}{l:dR}{own:[Lu]}{W:Pos}{w:TI}{g:TG}{B:TT}{k:TE}(V:[p_])(v:X.N.Nodup)(O:[Nk,w])(E:[M6,l,own])(j:[Bj,PG,l,tg,g])(F:[Bj,pV,l,r,B])(R:[aay,PE ([L3,l,N].iu λ e d=>XS [L3,l,N] L e d) u k])(G:[Mn]:=by intro _;rfl):PE X [Cy,u,r,l,W] (oK w g B k (own.map (·.2))):=by intro pins s σ H Q I h;rw[333,M9 e1 i V v I O E j F R G h λ D C d m a S q hn f=>⟨m,hn,λ z y=>?_⟩]
theorem W0{P:XK}(e1:[Eu])(hX:∀e k,XS X P e k→X.xe e k){i:Nat}{y:Str}{M:Pos}{Q tg iter:bc}{E:[ly]}{p:dR}{own:[Lu]}{W R:Pos}{F:TI}{g:TG}{B:TT}{w:TE}(d:[p_])(r:X.N.Nodup)(l:X.N[i]?=Z y)(T:([J5,y]=[wn]))(S:tu [Cy,Q,E,p,W] (Z (.Name y M)) R.line X.env=pure true)(O:[Nk,F])(ok:[M6,p,own])(hg:[Bj,PG,p,tg,g])(ht:[Bj,pV,p,E,B])(he:[aay,PE ([L3,p,N].iu λ e k=>XS [L3,p,N] P e k) Q w])(G:[Mn]:=by intro _;rfl):PS X (.Assign [.Name y M] [Cy,Q,E,p,W] R) (t8 (oK F g B w (own.map (·.2))) (iX i)):=by intro pins s σ H D I h;rw[340,az _ X.A [acr,E,p,M] _ _ s,oK F g B w (own.map (·.2)) σ H (λ x j=>iX i x σ j D.nx),M9 e1 hX (Qf:=λ _ k=>SP X pins D .next k) d r I O ok hg ht he G h λ L C k m c I' q hn f=>?_,λ _ k n=>aW (aW n),M,r];obtain⟨f0,u,f2,f3,A,f5⟩:=f;rw[371,u,A]
end
end L2
end
section
namespace L2
open PySem PySem.W PySem.Spec PyProof.Rows
abbrev Cx.p_(X:Cx)(e:ae):Cx:={X with A:=X.A.mark (Z e),calm:=false,xe:=[Ay]}
section
variable{X:Cx}{pins:[bF]}{σ:St}{H:Hp}{s:aq}{h' g:aE}
theorem Inv.p_(I:[bH])(e:ae):[Qj,X.p_ e,σ]:=[QI,⟨I.ok.mod,I.ok.kind,I.ok.glob,I.ok.blt,I.ok.above,I.ok.inj,I.ok.has,I.ok.t6,λ h=>[aai,h],I.ok.frames,I.ok.wc,I.ok.q_,I.ok.bs,I.ok.lr,I.ok.t7,I.ok.ra,I.ok.jX,I.ok.pJ⟩,I.pin]
theorem Inv.uncaught{e:ae}(V:X.Ok)(I:[Qj,X.p_ e,σ]):[bH]:=[QI,V,I.pin]
theorem SP.uncaught{e:ae}{D:Ends}{f:Flow}{d:aq}(V:X.Ok)(h:SP (X.p_ e) pins D f d):SP X pins D f d:=by rw[232,I.uncaught V]
theorem Inv.Na(I:[bH])(w:X.pn=[])(t:X.ex=[])(e1:[Eu])(k:kF g [vX] s.heap h')(S:∀b o,[U4])(L:[X0,H]):Inv X [] σ H [ln,h']:=by
 have free:[zI,[vX],H]:=[cm,e1.1,I.wg];have N:X.env.locals∈[vX]:=by unfold dv;rw[12,yB,e1.2,cq]
 have sub:[ad8]:=λ b o q n K=>by
  have W:[Zv]:=I.we b [ap,e1.1,K];rcases[d9,W]with z|z;·exfalso;have a:=bR q;rw[z]at a;rw[67,dG a I.ok.above]
  ·exact z
 have F:=I.base;rw[t]at F;have M:∀c v,(s.heap.IsCell c v→c∉[vX]∨True→(∃x,[Aq,x]=Z c)→h'.IsCell c v):=λ c v V _⟨x,A⟩=>by
  obtain⟨o,E,f⟩:=V;have D:[Mz]:=[Xp,f];by_cases K:c∈[vX];·obtain⟨Y,q⟩:=k.slot c o E K;rw[36,q,f]
  ·rw[1,o,k.keep c o E (.inr D) K,f]
 refine[Yz,[ap,t,M7 F k S sub free [al]],?_,λ x c e=>?_,[qp],M6 I.aH k free L,I.len];·obtain⟨m,⟨o,T,h,E,f,r⟩,d⟩:=I.loc;obtain⟨Y,q⟩:=k.slot _ o E N;rw[20,m,⟨_,T,h,q,f,r⟩,λ i x v e2 B G=>?_];obtain⟨u,C,lk⟩:=d i x v e2 B G;rw[24,u,C];rcases lk with z|⟨j,c,P,l⟩;rw[2,.inl z,[rq,j,c,P,M c _ l (.inr mU) ⟨x,P⟩]]
 ·obtain⟨v,y⟩:=I.cell x c e;rw[0,v,M c v y (.inr mU) ⟨x,e⟩]
 ·rw[w]at R;simp at R
def rH(K:Frag):[er,ab×TS,ab→TS]|[],_=>[Tk]|(w,t)::r,C=>λ D σ H=>∃b,exmOne K [gv] (.ref w)=Z b∧[or,b,t D σ H,rH K r C D σ H]
inductive nt(X:Cx):[dF,List vH,List (ab×TS)]|nil:nt X [] []|cons{x:Str}{np pos:Pos}{b₀:Stmt}{suite:List Stmt}{C:Addr}{t:TS}{hs:List ExceptHandler}{ts:List (Addr×TS)}(hg:Gl X x)(hm:X.mg x=some [gv])(hd:[xO])(hs':∀e,gi (X.p_ e) (b₀::suite) t)(r:nt X hs ts):nt X (.ExceptHandler (some [rD,np]) none (b₀::suite) pos::hs) ((C,t)::ts)
theorem Nb{a C:ab}{D:Ends}(B:X.pn=[])(y:X.ex=[])(e1:[Eu])(S:∀b o,[U4])(L:[X0,H])(A:[Ib,s.heap,Z .none])(I:Inv X [] σ H s):∀{G:List vH}{n:List (ab×TS)},(nt X G n→(rH X.K n C D σ H→[iZ,handleBy [bi] X.env G,SP X [] D,s]))
 |_,_,.nil,h=>h.elim
 |_,_,.cons (x:=x) (np:=P) (b₀:=V) (suite:=T) (C:=R) (t:=t) (hs:=G) (ts:=n) k N i W r,h=>by
  obtain⟨b,K,q⟩:=h;rw[3,wpAny_handleBy_cons (codeAny_handlers_test ?_) (by intro q;cases q),rf (X:=X.p_ [bi]) (I.p_ [bi]) k N ?_ i];have Y:Looks [Ct] s.heap (typeOf [bi]) [gv]:=by obtain⟨u,U,c,d,_⟩:=A;rw[23,d,(Looks.ld (M:=[Ct]) c).andThen .now]
  refine(exm_one I.e9 Y K) _ _ _ s (λ _ _ e=>e) ?_;cases b with
   |false=>rw[62,aD eQ,Nb B y e1 S L A I r q]
   |true=>
    rw[aI J]at q;refine codeAny_handlers_suite ?_;have l:=I.stack;rw[e1.1]at l;refine Ag (fs:=[vX]) A (λ b K o w=>?_) λ d z _ k2 m _=>?_
    ·obtain⟨_,Q,E,v⟩:=l.mem K;rw[w]at E;rw[6,E,v]
    have p:=I.Na B y e1 k2 S L;exact(gG (W [bi] [] _ σ H D (p.p_ _) q) (λ f j F=>F.uncaught I.ok) λ _ _ z=>z.elim)
theorem W1{B:[y_]}{N:vH}{G:List vH}{n:List (ab×TS)}{W:Pos}{j:TS}{D:Ends}(P:X.pn=[])(t:X.ex=[])(e1:[Eu])(K:gi (X.iu λ e h=>XS X (λ c _ m=>∃C,c=[gv]∧∀i:St,rH X.K n C D i m) e h) B j)(E:nt X (N::G) n)(I:Inv X [] σ H s)(q:j D σ H):[iZ,exec (.Try B (N::G) [] [] W) X.env,SP X [] D,s]:=by
 refine wpAny_Try_except (gG (K [] s σ H D (I.iu _) q) (λ f Y F=>?_) λ e Y x=>?_);·have F:=F.lx;cases f with|next=>exact BK F|brk=>exact F|cont=>exact F|ret u=>exact F
 ·obtain⟨a,C,m,U,i,y,g,rfl,k,A,w,S,L,C',e2,w9⟩:=x;cases e2;have l:X.A.frames=Z [Ot]:=by rw[k.ok.frames,e1.1]
  have p:=k.stack;rw[e1.1]at p;rw[3,D9 l p e1.2 e1.2 w A λ d k1 R sz1=>?_,[ad1,Y,d,λ b K o eo=>?_]];·obtain⟨_,o1,Q,v⟩:=p.mem K;obtain⟨sl,q⟩:=k1.slot b o1 Q K;rw[[db,d.get? b,Z o,eo]]at q;rw[6,q,v]
  have T:=M J;subst T;have V:∀b o,[U4]:=λ b o q=>S b o q (by rw[16,t])
  have I7:=k.Na P t e1 (k1.trans k2) V L;exact Nb (s:={Y with heap:=r}) P t e1 V L x2 I7 E (w9 i)
end
end L2
end
section
namespace L2
open PySem PySem.Spec PyProof.Rows
section
variable{X:Cx}
def Nc(K:aF):R2:=λ x y H Q=>∃(p:ab)(N:[aw])(B:List lg)(d:lg),[jS,y=[iv],ax K H p N,ml K H N B,Dp K H x d,∀e∈B,[jb,jL e,e.depth≤16],[jb,jL d,Q (.bl (B.any λ e=>i9 e d)) H]]
theorem readsAll_mem{h:aE}:[aed,∀v∈U,∃d c,d∈B∧Reads h v d c]
 |_,_,_,.nil,v,y=>by cases y
 |_,_,_,.cons r t,v,y=>by
  rcases[d9,y]with rfl|y;·rw[21,_,_,cq,r]
  ·obtain⟨d,c,g,a⟩:=readsAll_mem t v y;rw[21,d,c,cp _ g,a]
noncomputable def uq(h:aE)(d:lg)(v:ae):Bool:=@decide (∃e c,Reads h v e c∧i9 e d=true) (o6 _)
theorem Nd{h:aE}{d e:lg}{v:ae}{c:[aV]}(r:Reads h v e c):uq h d v=i9 e d:=by unfold uq;cases q:i9 e d with|true=>exact@bK _ (o6 _) ⟨e,c,r,q⟩|false=>refine@bW _ (o6 _) ?_;rintro⟨f,a,A,W⟩;rw[91,(r.unique f a A).1];rw[q]at W;cases W
theorem Nf{h:aE}{d:lg}:[aed,U.any (uq h d)=B.any λ e=>i9 e d]|_,_,_,.nil=>J|_,_,_,.cons r t=>by rw[k8,k8,Nd r,Nf t]
theorem Ng(o:[Ic,64]):dz X (f9 .In) (Nc X.K):=by
 intro B s b H x y v u Q I L A h;obtain⟨p,N,j,d,rfl,D,n,c,C,t,q⟩:=h;cases A;obtain⟨m,r,l,M⟩:=[mt,D];obtain⟨i,f⟩:=Dp.reads I d x v c L;obtain⟨S,k⟩:=Dp.readsAll I j N m n r;refine SeqAt.in_listAt (uq s.heap d) l.isList (λ w T=>?_) [jp,.bl _,H,I,?_];·obtain⟨e,cs,R,z⟩:=readsAll_mem k w [aB,T];rw[13,Nd z,SeqAt.eqAt_reads e d X.A.in1 s w v cs i z f (SeqAt.canLay_of_shaped (C e R).1) (SeqAt.canLay_of_shaped t) ?_];have g:X.A.in1.units=X.A.units+1:=J;have a:=(C e R).2;have P:min e.depth d.depth≤e.depth:=Sn _ _;omega
 ·rw[12,[ad4,uq s.heap d],Nf k,q]
end
end L2
end
section
namespace L2
open PySem PySem.Spec PyProof.Rows
def w_(H:Hp):Prop:=∀(q:ab)(N:[aw]),H q=[zl]→l8 N=true
theorem D_{X:Cx}{e:bc}{t:TE}(h:PE X e t):PE X e (λ w H Q=>w_ H→t w H Q):=λ B s w H Q I T=>h B s w H Q I (T λ q N e=>I.l8 e)
theorem w_.W2{H:Hp}(t:w_ H)(q:ab)(u:V)(b:Bool):H q≠Z (.tup [u,.bl b]):=λ e=>by have:=t q _ e;cases this
theorem W3:∀{N:[aw]},(∀x∈N,∃a,x=(V.ref a))→l8 N=true:=λ{N}h=>by match N,h with|[],_=>rfl|[_],_=>rfl|[_,b],h=>obtain⟨a,rfl⟩:=h b [al];rfl|[_,a,b],h=>rw[251];rfl|[a,b,c,d],h=>rw[251];obtain⟨z,rfl⟩:=h c [al];obtain⟨u,rfl⟩:=h d [al];rfl|_::_::_::_::_::_,_=>rfl
end L2
end
section
namespace HT
open PySem PyProof.Rows
def jg:[er,Int,[ii,List Int]]|[],_=>false|_::_,[]=>true|x::N,y::G=>[pH,x,y,jg N G,[aK,y<x]]
theorem Ea(x y:Int)(N G:[bv]):[B6,jg (x::N) (y::G),x=y,jg N G,[aK,y<x]]:=J
theorem Nh:[aX,jg [] []]:=J
theorem W4(y:Int)(G:[bv]):[aX,jg [] (y::G)]:=J
theorem W5(x:Int)(N:[bv]):jg (x::N) []=true:=J
theorem W6(A:bP)(s:aq)(a:Int)(t:Tok)(c:Int)(u:Tok)(prog:aY)(w:aU)(E:[aT])(Q:[aT])(h:Q (.bool [aK,c<a]) s):[fQ,yS .Gt (.int a t) (.int c u)]:=L2.cmp_gt h
section
open PySem.SeqAt
open PySem.AutoSeq1(wpAny_loadPart')
open PySem.MeetsSeq PySem.MeetsSeq2 PySem.MeetsSeq3
theorem W7(l b:ab)(r D:[lc])(n n2:Nat)(dd N:[sB])(sl Q:[Co])(v z:[bv])(O:om r.toList v)(k:om D.toList z):Meets (Builtin.«tuple.__gt__» [yg,[Fx,l,b]]) (λ _ R s=>[gX,l]=Z {cls:=[Kc],dict:=dd,data:=.seq r n,slots:=sl}∧[zX]=Z {cls:=[Kc],dict:=N,data:=.seq D n2,slots:=Q}∧R (.ok (.ret (.bool (jg v z)))) s):=.of_wp λ prog w A R s h=>by
 obtain⟨i,g,d,G,C⟩:=s;obtain⟨hl,K,h⟩:=h;have f2:=AutoSeq1.sub_tuple_tuple;have z1:r.size=v.length:=by rw[←O.length];simp
 have z2:D.size=z.length:=by rw[←k.length];simp
 wp_walk using wpAny_loadPart' hl,wpAny_loadPart' K,wpAny_forIn_list _ (λ B b j=>b.1=none∧j=[WQ]∧∃(U o:[bu])(E F:[bv]),[cj,B=U.zip o,om U E,om o F,E.length+D.size=F.length+r.size,R (.ok (.ret (.bool (jg E F)))) [WQ]]) _;case turn=>rintro⟨y,x⟩B b j⟨W,rfl,U,o,E,F,M,L,I,p,P⟩;cases L with|nil=>rw[List.zip_nil_left]at M;cases M|cons a t V=>cases I with|nil=>rw[List.zip_nil_right]at M;cases M|cons c u X=>rw[mM]at M;injection M with Y H;injection Y with hy f;subst hy f;rw[Ea]at P;simp only[dP]at p;obtain⟨e,he,T⟩:=Vw A.in1 [WQ] a t c u;rw[7,he prog w _ _ ?_];cases e with|true=>rw[aI (T.mp J)]at P;wp_walk;exact⟨J,J,_,_,_,_,H,V,X,[ac],P⟩|false=>rw[aD (λ q=>[gh,T.mpr q,eQ])]at P;have S:=W6 A.in1 [WQ] a t c u prog w;wp_walk using S;rw[36,J,[aB,P]]
 case fin=>
  rintro⟨b1,b2⟩j⟨W,rfl,U,o,E,F,M,L,I,p,P⟩;simp only at W;subst W;have m:jg E F=[aK,D.size<r.size]:=by
   cases L with
    |nil=>cases I with|nil=>simp only[BE]at p;rw[4,Nh,[lu].symm]|cons c u hw=>simp only[BE,dP]at p;rw[4,W4,[lu].symm]
    |cons a t m=>cases I with|nil=>simp only[BE,dP]at p;rw[4,W5,[tO].symm]|cons c u hw=>rw[mM]at M;cases M
  rw[m]at P;wp_walk;rw[36,J,by simpa[Builtin.Tuple.tupleCompareSizes]using P]
 case h=>exact⟨J,J,r.toList,D.toList,v,z,J,O,k,[ac],h⟩
end
section
variable{prog:aY}{w:aU}{A:bP}{E:[aT]}{s:aq}
theorem Ni{l b:ab}{m i:[lc]}{f j:[bv]}{Q:[aT]}(X:IsTup s.heap l m)(K:IsTup s.heap b i)(O:om m.toList f)(U:om i.toList j)(o:A.units<fq)(h:Q (.bool (jg f j)) s):[fQ,f9 .Gt [lf] (.ref b)]:=by obtain⟨⟨cls,p,data,Y⟩,c,V,n,a⟩:=id X;obtain⟨⟨k,d,g,z⟩,e,N,D,F⟩:=id K;simp only at V a N F;subst V a N F;exact richCompare_meets_room (op:=.Gt) [rJ,c] [rJ,e] PySem.F.slot_tuple_gt PySem.F.entry_tuple_gt (PySem.F.args_tuple_gt_2 _ _) (W7 l b m i n D p d Y z f j O U) ⟨c,e,show pl (jg f j)≠Value.notImplemented∧Q (.bool (jg f j)) s from⟨(λ x=>nomatch x),h⟩⟩ o
end
end HT
end
section
namespace L2
open PySem PySem.W PySem.Spec PyProof.Rows
section
variable{prog:aY}{w:aU}{A:bP}{E:[aT]}{s:aq}{I S:ab}{fp wr:[aV]}{n:Nat}{P:[wz,ae]}{St:[wz,aE]}{R:[on,y4]}{Q:[aT]}
theorem W8(hh:[wg])(W:[YF])(t:S∉fp)(g:aE)(y:Nat→[ii,Nat])(V:∀(i j:Nat)(F H:ae)(h:aE)(G:Nat)(Q:[aT])(E:[aT]),[cI,P i F,P j H,i3 (S::wr) g h,Q (.bool (y i j)) [pN,h],az [pr] A.in1 (yS .Gt F H) Q E [pN,h]])(hR:∀(v:ae)(a:aE)(p:Nat),P (oo y (n-1)) v→i3 (S::wr) g a→R (.ok (.ret v)) [qU,a,p]):∀(r j:Nat)(h:aE)(G:Nat)(q:ae)(c:Nat),[cI,n-(j+1)=r,j+1≤n,St (j+1) h,h.get? S=Z (gu [ry] #[q,q] c),P (oo y j) q→i3 (S::wr) g h→mT [pr] A [aak,[.ref I,.none,.ref S]] R [pN,h]]:=by
 have x:[Yn]:=[bj];have D:S∉wr:=(λ z=>t (W.sub S z));have M:∀{h a:aE},i3 (S::wr) g h→[QP,b∉wr,[JR],a.get?,i3 (S::wr) g a]:=λ{h a}k1 k2 b o K e=>k2 b o (λ z=>K (cp _ z)) (k1 b o K e)
 have O:∀{h a:aE},i3 (S::wr) g h→kq S h a→i3 (S::wr) g a:=λ{h a}k1 sb b o K e=>[aew]
 intro r;induction r with|zero=>intro j h G q c u hj L l d C;have e:j+1=n:=[ac];rw[370,l,e▸L,λ a p m=>?_,a,m S _ D l];exact hR q _ _ [cm,e,d] (O (M C m) Y)|succ r T=>intro j h G q c u hj L l d C;have f:j+1<n:=[ac];rw[143,l,W.item (j+1) _ _ _ f L λ v a p X B m=>?_];have U:=m S _ D l;have k1:=M C m;rw[381,v,q,V (j+1) (oo y j) v q _ _ _ _ X d k1 ?_];cases K:y (j+1) (oo y j)with|true=>have Y:=nQ a S (jM [Qi]);obtain⟨k,N⟩:∃k,[Vm].get? S=Z (gu [ry] #[v,v] k):=[eD,Jo U [Qi]];simp only[il];rw[3,au ?_,yL U J (au (oh ?_))];rw[x];refine aW [Pd,T (j+1) _ _ v k [ac] f [aeA,B,t] N (by simp only[oo,K,il];exact X) (O k1 Y)]|false=>rw[136];rw[7,oh ?_];rw[4,x,aW [Pd,T (j+1) _ _ q c [ac] f B U (by simp only[oo,K,ki,iE];exact d) k1]]
theorem W9{f:ae}(hh:[wg])(l:0<n)(x:Nat→[ii,Nat])(iter:[adD,I,f])(T:∀(i j:Nat)(K L:ae)(h:aE)(G:Nat)(Q:[aT])(E:[aT]),[cI,P i K,P j L,[uf,[pW]],Q (.bool (x i j)) [pN,h],az [pr] A.in1 (yS .Gt K L) Q E [pN,h]])(hQ:∀(v:ae)(a:aE)(m:Nat),P (oo x (n-1)) v→([uf,a.get? b])→Q v [qU,a,m]):[fQ,call [Pb] [f]]:=by rw[336,call_function_tree F.kind_max F.plain_max F.entry_max (F.args_max1 _) ?_,az _ A.in1 ([Yx,[]]>>=_) _ _ s,[],none,λ I g G fp wr St W V y D R=>?_,nU ?_,tm kU _];show mT _ A [aak,[.ref I,.none,.ref g.objs.size]] _ _;generalize O:g.objs.size=S;have t:S∉fp:=[Lg,y S z,[cm,O,g8 _]];have M:S∉wr:=(λ z=>t (W.sub S z));have gS:[Qh].get? S=Z [Q5]:=[cm,O,[pu]];have d:[uf,[Qh].get? b]:=[FD,D b o e];rw[382,O];have U:St 0 [Qh]:=[OZ,W.frame,V,cG _ e];rw[143,gS,W.item 0 _ _ _ l U λ v a m hP B k=>?_];have p:[uf,a.get? b]:=[DZ,k,λ z=>by rw[34,R b z],d b o e];have C:=k S _ M gS;have Y:=nQ a S (jM [Qi]);obtain⟨c,N⟩:∃c,[Vm].get? S=Z (gu [ry] #[v,v] c):=[eD,Jo C [Qi]];show[J3,JL S [Qi]];rw[3,au ?_,yL C J ?_];rw[u];have H:∀{h:aE},i3 (S::wr) [Vm] h→[uf,[pW]]:=[aei,R,p b o e];exact aW [Pd,W8 (s:=s) hh W t [Vm] x (λ i j K L h G Q E hi hj kb q=>T i j K L h G Q E hi hj (H kb) q) (λ v' r X hp kb=>hQ v' r X hp (H kb)) _ 0 _ _ v c J l [aeb,B] N hP (λ _ _ _ e=>e)]
end
end L2
namespace L2
open PySem PySem.W PySem.Spec PyProof.Rows
def fg(a b:[Ea]):Bool:=([aK,b.1<a.1]||([aK,a.1=b.1]&&[aK,b.2<a.2]))
theorem Nj(a b:[Ea]):HT.jg [a.1,a.2] [b.1,b.2]=fg a b:=by
 rw[HT.Ea,HT.Ea,HT.Nh];unfold fg;by_cases g:a.1=b.1
 ·rw[aI g];by_cases r:a.2=b.2;·rw[aI r];simp[g,r]
  ·rw[aD r];simp[g]
 ·rw[aD g];simp[g]
theorem rJ{a b:[Ea]}:(fg a b=true↔b.1<a.1∨(a.1=b.1∧b.2<a.2)):=by unfold fg;simp
theorem W_(f:Nat→[Ea]):∀(n k:Nat),k≤n→[aX,fg (f k) (f [Y1])]:=by
 intro n;induction n with
  |zero=>intro k C;rw[59,k=0,[ac]];show[aX,fg (f 0) (f 0)];cases e:fg (f 0) (f 0)with|false=>rfl|true=>rw[10,rJ.mp e]
  |succ n T=>
   intro k C;show[aX,fg (f k) (f [J9,fg (f (n+1)) (f [Y1]),n+1,oo,λ i j=>fg (f i) (f j),n])];generalize K:[Y1]=b at*;cases e:fg (f (n+1)) (f b)with
    |true=>
     simp only[il];cases q:fg (f k) (f (n+1))with
      |false=>rfl
      |true=>
       exfalso;rw[111,rJ.mp e,rJ.mp q];by_cases B:k≤n;·have P:=T k B;have:fg (f k) (f b)=true:=rJ.mpr [ac];rw[138,P]
       ·rw[59,k=n+1,[ac]];omega
    |false=>
     rw[136];by_cases B:k≤n;·exact T k B
     ·have:k=n+1:=[ac];rw[64,e]
section
variable{X:Cx}
def Xa(K:aF):R2:=λ x y H Q=>∃a b f j,[cj,x=[bi],y=.ref b,bM K H a [Pq],bM K H b (j.map V.int),Q (.bl (HT.jg f j)) H]
theorem Xb(o:X.A.units<fq):dz X (f9 .Gt) (Xa X.K):=by rw[96];obtain⟨a,b,f,j,rfl,rfl,ha,K,q⟩:=h;rw[61,L,A];obtain⟨m,c,O,_⟩:=[wT,ha];obtain⟨F,S,t,_⟩:=[wT,K];exact HT.Ni O t (intsAre_of c) (intsAre_of S) o [jp,.bl (HT.jg f j),H,I,q]
def Xc(K:aF):[C9]:=λ N H Q=>∃(a:ab)(d:[aV])(c:[N7]),[jS,N=[sG],ax K H a (d.map V.ref),d.length=c.length,[UZ,d,c,[Y4]],c≠[],[UZ,d,c,(∀q∈c,[aX,fg q p])→Q (.ref b) H]]
theorem Xd(c:[p_])(hu:[Ic,64]):gP X [Pb] (Xc X.K):=by
 intro B s σ H vs us Q I r h;obtain⟨a,l,f,rfl,hs,w,R,D,q⟩:=h;obtain⟨m,rv,d,_⟩:=[mt,hs];rw[be.pU r];have F:m.length=f.length:=by rw[←rv.length,aC,w]
 have hpos:0<f.length:=[B2,D];have L:[ac4,m.toArray,l,f]:=λ i v y=>by have y:m[i]?=Z v:=[aB,y];have O:=[d0,y];have g:i<l.length:=[ac];have h2:i<f.length:=[ac];obtain⟨u,S,N⟩:=[adh,l];rw[y]at S;cases S;rw[6,N,⟨_,_,bX g,bX h2,J⟩]
 refine W9 (P:=λ i v=>m.toArray[i]?=Z v) (n:=m.toArray.size) (I.ok.hd c) [e9,dN] (λ i j=>fg (f.getD i (0,0)) (f.getD j (0,0))) (λ Q' k=>Dw d.isList λ s₂ e2 st T=>?_) (λ i j vi vj h G Q' E' O U C qq=>?_) (λ v h' G y C=>?_)
 ·subst e2;refine k _ _ s.toks [s.heap.objs.size,a] [s.heap.objs.size] _ [Z4,I.ok.hd c,T] st [Ks] [FD,e] [Ks]
  ·have t:[pU,a]:=by obtain⟨_,_,e,_⟩:=d;exact bR e
   rw[iR];simp only[lU,yE,yY]at K;rw[116,K,qB _,o_ t]
  ·simp only[lU,yE,yY]at K;subst K;cases e:[gX,s.heap.objs.size]with|none=>rfl|some o=>rw[67,bR e]
 ·obtain⟨b,p,K,M,rfl⟩:=L i vi O;obtain⟨b',E,W,Y,rfl⟩:=L j vj U;have I':[lB,σ,H,[pN,h]]:=I.kept C;obtain⟨its1,r1,p1,_⟩:=I'.tuple (R i b p K M);obtain⟨its2,r2,p2,_⟩:=I'.tuple (R j b' E W Y);rw[70,f.getD i (0,0)=p,[jh,iB,M],f.getD j (0,0)=E,[jh,iB,Y]];rw[e1,e2,←Nj]at qq;have g:X.A.in1.units=X.A.units+1:=J;exact HT.Ni (s:=[pN,h]) p1 p2 (intsAre_of (ns:=[p.1,p.2]) r1) (intsAre_of (ns:=[E.1,E.2]) r2) [ac] qq
 ·obtain⟨b,p,K,M,rfl⟩:=L _ v y;rw[26,.ref b,H,I.kept C,J,q _ b p K M λ z hz=>?_];obtain⟨j,U,ej⟩:=gY hz;have:=W_ (λ i=>f.getD i (0,0)) (m.toArray.size-1) j [e9,dN];rw[iB,bX U,ej]at this;rw[iB,M]at this;rw[65]
end
end L2
end
section
namespace L2
open PySem PySem.W PySem.Spec PyProof.Rows PyProof.Rows.G
def lE:[ii,Nat]:=λ _=>false
theorem Nk{h:aE}{b:ab}{m:[bu]}{p:[Ea]}(F:IsTup h b m.toArray)(r:be [X6,p] m):tE h lE (.ref b)=Z [bY p.1,bY p.2]∧∃t,TupOf h lE (.ref b) (.int p.1 t):=by
 obtain⟨o,e,c,n,d⟩:=F;obtain⟨i,f,rfl,⟨l,rfl⟩,S⟩:∃i f,m=i::f∧bw (V.int p.1) i∧be [(V.int p.2)] f:=by cases r with|cons a b=>rw[9,_,_,J,a,b]
 obtain⟨s,g,rfl,⟨w,rfl⟩,j⟩:∃i S,f=i::S∧bw (V.int p.2) i∧be [] S:=by cases S with|cons a b=>rw[9,_,_,J,a,b]
 cases j;rw[5]
 ·unfold tE;have e1:isTupObj h (.ref b)=true:=by simp[isTupObj,e,c]
  rw[aI e1];simp only[tupKey,e,d];rfl
 ·exact⟨l,b,o,_,n,J,e,c,d,J,λ _=>[rJ,_],λ z=>by cases z⟩
theorem Xe(p q:[Ea])(h:[aX,lexLt itemOrd [bY q.1,bY q.2] [bY p.1,bY p.2]]):[aX,fg p q]:=by cases e:fg p q with|false=>rfl|true=>exfalso;have e:=rJ.mp e;have r:[aX,[aK,q.1<p.1]||([uh,p.1<q.1]&&([aK,q.2<p.2]||([uh,p.2<q.2]&&false)))]:=h;simp only[Bool.or_eq_false_iff,Bool.and_false,yN,R6,Bool.and_eq_false_iff,Bool.not_eq_false',dw]at r;omega
def ur:ae→ab|.ref a=>a|_=>0
def Ah:Option (List (Int⊕[ak]))→[Ea]|Z [bY a,bY b]=>(a,b)|_=>(0,0)
section
variable{X:Cx}
def Xf(K:aF):[C9]:=λ N H Q=>∃(a:ab)(d:[aV])(c:[N7]),[IO,N=[sG],a,d.map V.ref,d.length=c.length,[UZ,d,c,[Y4]],∀(l:ab)(S:[aV])(e:[N7]),[u8,l,S.length=e.length,S.length=d.length,([UZ,S,e,[Y4]])→(∀p,p∈e↔p∈c)→([adZ,e])→Q [lf] (ag H l (.aj (S.map V.ref)))]]
theorem Nl{h:aE}:∀{its:[bu]},(∀v∈its,∃f,TupOf h lE v f)→∃fs,TupsOf h lE its fs|[],_=>⟨[],.nil⟩|v::its,y=>by obtain⟨f,F⟩:=y v cq;obtain⟨fs,H⟩:=Nl (its:=its) [Kn,y];rw[0,f::fs,.cons F H]
theorem Xg:gP X [oD,"sorted"] (Xf X.K):=by
 intro pins s σ H vs us Q I r h;obtain⟨a,k,ps,rfl,hs,hlen,hp,q⟩:=h;obtain⟨m,rv,hl,hz⟩:=[mt,hs];rw[be.pU r];have z:m.length=k.length:=by rw[←rv.length,aC]
 have D:[ac4,m,k,ps]:=λ i v d=>by have O:=[d0,d];have g:i<k.length:=[ac];have c:i<ps.length:=[ac];obtain⟨u,N,hu2⟩:=[adh,k];rw[d]at N;cases N;rw[6,hu2,⟨_,_,bX g,bX c,J⟩]
 have F:∀v∈m,∃b p,[cj,v=[j5,b],p∈ps,bM X.K H b [X6,p],tE s.heap lE v=Z [bY p.1,bY p.2],∃f,TupOf s.heap lE v f]:=λ v d=>by obtain⟨i,O⟩:=[Kb,d];obtain⟨b,p,K,B,rfl⟩:=D i v O;obtain⟨S,r1,p1,_⟩:=[wT,hp i b p K B];obtain⟨k1,t,k2⟩:=Nk p1 r1;exact⟨b,p,J,bt B,hp i b p K B,k1,_,k2⟩
 obtain⟨fs,hfs⟩:=Nl (h:=s.heap) (its:=m) λ v d=>let⟨_,_,_,_,_,_,f,hf⟩:=F v d;⟨f,hf⟩
 refine sorted_tups (vs:=m) hl.isList hfs (λ v d=>?_) (by rw[z,←aC (f:=V.ref)];exact hz) λ st' W P _=>?_
 ·obtain⟨b,p,_,_,_,C,_⟩:=F v d;rw[29,C]
 ·generalize harr:arrOf st'=arr at*;have L:arr.toList.Perm (m.zip m):=by have e:=Array.perm_iff_toList_perm.mp W;rw[75,pairsOf_toList,e]
  have G:arr.toList.length=k.length:=by rw[L.length_eq,yI,z];exact Nat.min_self _
  have w:∀x∈arr.toList,x.1=x.2∧x.2∈m:=λ x A=>by
   have A:=L.mem_iff.mp A;obtain⟨i,O⟩:=[Kb,A];rw[Rx]at O;have e:x.1=x.2:=by rw[35,O.1,O.2];exact[wv,this]
   rw[0,e,bt O.2]
  obtain⟨ep,he'⟩:=PyProof.Rows.sortedAll_at s.heap m (arr.map (·.2));have Y:[Zs]=arr.toList.map (·.2):=[al];have T:be ([Zd].map V.ref) [Zs]:=by
   rw[Y];have:∀l:List Keyed,(∀x∈l,∃b,x.2=[j5,b])→be ((l.map λ x=>ur x.2).map V.ref) (l.map (·.2)):=by intro l;induction l with|nil=>intro _;rw[63]|cons x l ih=>intro A;obtain⟨b,K⟩:=A x cq;refine(.cons ?_ (ih λ y hy=>A y (cp _ hy)));show bw (V.ref (ur x.2)) x.2;rw[K];rfl
   exact this _ λ x A=>let⟨b,_,e,_⟩:=F _ (w x A).2;⟨b,e⟩
  have R:∀(i:Nat)(x:Keyed),arr.toList[i]?=Z x→KK (tupKindC s.heap lE) arr i=[WI].getD []:=λ i x A=>by have:arr[i]?=Z x:=[cm,o7,A];unfold KK;rw[this]
  rw[26,.ref _,ag H [ge] (.aj ([Zd].map V.ref)),I.laid (t':=s.toks) (λ _ _=>PyProof.Rows.sortedAll_old) (vL _) ⟨?_,[Zs],ep,T,he'⟩,J,q _ [Zd] (arr.toList.map λ x=>Ah [WI]) [CF,vL _] [al] [nj,G] (λ i b p K n=>?_) (λ p=>?_) λ i j p E hij O U=>?_];·rw[aC,aC,G,←aC (f:=V.ref)];exact hz
  ·rw[cJ]at K n;cases ex:arr.toList[i]? with|none=>rw[ex]at K;cases K|some x=>rw[ex]at K n;obtain⟨g,c⟩:=w x (bt ex);obtain⟨b',E,e,_,M,C,_⟩:=F _ c;have K:ur x.2=b:=[dj,K];have n:Ah [WI]=p:=[dj,n];rw[g,C]at n;rw[e]at K;have K:b'=b:=K;have n:(E.1,E.2)=p:=n;subst K;subst n;exact M
  ·rw[5];·intro hm;rw[148,hm];obtain⟨g,c⟩:=w x A;obtain⟨b',E,e,hpm,M,C,_⟩:=F _ c;rw[12,g,C,hpm]
   ·intro hm;obtain⟨i,O⟩:=[Kb,hm];have hia:i<m.length:=by rw[10,[d0,O]]
    have d:=bX hia;obtain⟨b,E,K,B,e⟩:=D i _ d;rw[O]at B;rw[91,[dj,B]];refine[Bk,(m[i],m[i]),L.mem_iff.mpr ?_,?_];·exact[Zi,i,[ap,Rx,⟨d,d⟩]]
    ·obtain⟨S,r1,p1,_⟩:=[wT,hp i b p K O];have:=(Nk p1 r1).1;simp only;rw[e,this];rfl
  ·rw[cJ]at O U;cases ex:arr.toList[i]? with
    |none=>rw[ex]at O;cases O
    |some x=>
     cases o:arr.toList[j]? with
      |none=>rw[o]at U;cases U
      |some y=>
       rw[ex]at O;rw[o]at U;obtain⟨g,c⟩:=w x (bt ex);obtain⟨h3,h4⟩:=w y (bt o);obtain⟨_,px,_,_,_,kx,_⟩:=F _ c;obtain⟨_,py,_,_,_,ky,_⟩:=F _ h4;rw[←g]at kx;rw[←h3]at ky;have O:Ah [WI]=p:=[dj,O];have U:Ah (tE s.heap lE y.1)=E:=[dj,U];rw[kx]at O;rw[ky]at U;have O:(px.1,px.2)=p:=O;have U:(py.1,py.2)=E:=U;subst O;subst U;have hjl:j<(pairsOf m).size:=by rw[pairsOf_size,z,←G];exact[d0,o]
       have:=P i j (oa hij) hjl;rw[R i x ex,R j y o,kx,ky]at this;exact Xe px py this
end
end L2
end
section
namespace L2
open PySem PySem.Spec PyProof.Rows
theorem Nm(l:Nat→Int):∀i,[b9,firstMet l i,i]↔[wx,i,l].Nodup
 |0=>[bn,firstMet_zero]
 |i+1=>by
  have T:=Nm l i;have L:=firstMet_length_le l i;have ha:=firstMet_any l i (l i);rw[firstMet_succ,vD,cH,k0];unfold step_dedup;cases q:(firstMet l i).any (·==l i)with
   |true=>
    rw[ha,yD]at q;obtain⟨x,A,ex⟩:=q;have ex:=eq_of_beq ex;subst ex;rw[5];·intro h;exfalso;simp only[il]at h;omega
    ·rintro⟨_,_,h⟩;rw[8,J,h (l i) A (l i) [al]]
   |false=>
    rw[ha,Ja]at q;rw[5]
    ·intro h;refine[DR,T.mp ?_,λ a c b K e=>?_];·rw[14];omega
     ·simp at K;subst K;rw[89,q _ c [al]]
    ·rintro⟨h,_,_⟩;have:=T.mpr h;rw[17]
section
variable{X:Cx}
def Xh(K:aF):[C9]:=λ N H Q=>∃(a:ab)(f:[bv]),N=[sG]∧ax K H a [Pq]∧[lm,f.length]∧∀(p:ab)(S:[ii,Int])(n:Nat),H p=none→(n=f.length↔f.Nodup)→Q [iv] (ag H p (.set S n))
theorem Xi(V:[p_]):gP X (.type "set") (Xh X.K):=by
 rw[129];obtain⟨a,k,rfl,G,hn,q⟩:=h;obtain⟨m,j,d,_⟩:=[mt,G];rw[be.pU r];have O:=j.ints;have K:m.length=k.length:=O.length;have l:m.toArray.size=k.length:=by rw[dN,K]
 refine PySem.call_set_list (items:=m.toArray) (ns:=k) [tW] d.isList (by rw[94]) (by rw[l];unfold scanBound;omega) λ S f n C=>?_
 rw[l]at n;rw[42,[jp,.ref _,_,I.laid (t':=f) (o:=.set _ _) [DZ,C,bR e,e] (ba _) n,q _ _ _ [ED] ?_],Nm];have e:[wx,k.length,λ i=>k.getD i 0]=k:=by
  refine List.ext_getElem [al] λ i g c=>?_
  simp at g;simp[iB,bX c]
 rw[e]
theorem Xj:[OF,"len",∃(a:ab)(S:[ii,Int])(n:Nat),N=[sG]∧H a=Z (.set S n)∧Q (.int n) H]:=by intro B s w H N W Q I r h;obtain⟨a,S,n,rfl,ha,q⟩:=h;rw[be.pU r];obtain⟨o,T,c,t,E,d,b,_,_,K,F,hn⟩:=[L7,.set S n,ha];rw[55,PySem.call_len_set E d b F (by unfold scanBound at K;omega) ?_,hn,⟨.int n,H,[rw].tok _,[pM],q⟩]
end
end L2
end
section
namespace L2
open PySem PySem.Spec PyProof.Rows
section
variable{prog:aY}{w:aU}{K:Type}[[CW,K]]{knd:HeapKind prog w K}{A:bP}{E:[aT]}{s:aq}
theorem Xk{d a:ab}{N:List (K×ab×ae)}{k:K}{v:ae}{Q:[aT]}(i:knd.room A)(I:knd.is s.heap k a)(g:s.heap.DictOfH knd d N)(n:∀p,ot N k=Z p→Q p.2 [XG])(l:ot N k=none→∀S,S.DictOfH knd d (storedH N k a v)→kq d s.heap S→Q v [qU,S,s.toks+knd.draws k])(hsz:[Id,aQ]):[fQ,SN d [bi] v]:=by
 obtain⟨o,T,B,h,V,c,R,m,hn⟩:=g;unfold SN;try with_reducible refine k9 ?_
 rw[3,au (knd.pyHash i I ?_),au (wpAny_dictFind_heap (s:=[XG]) i I h c R m hn ?_ ?_)]
 ·intro W;have t:k∉N.map (·.1):=not_mem_keys_of_get W;have O:=atKey_none_of_get W;rw[7,JE (au (wpAny_updateDictKeys (hz:=by have e:=size_of_entries R;omega) (s:=[XG]) h c (aW (l O _ ⟨_,_,B+1,IJ _ h (Obj.isFreed_of_dict (Obj.data_mapDictKeys c _)),V.mapDictKeys _,Obj.data_mapDictKeys c _,?_,?_,?_⟩ (nQ ..)))))];·rw[S7 O];simp[R,entryOfKey]
  ·rw[S7 O];intro x b;rcases[d6,b]with b|b;·exact knd.keeps (m x b) h c (nQ ..)
   ·simp only[sS]at b;subst b;exact knd.keeps I h c (nQ ..)
  ·rw[S7 O,cH,k0];refine[DR,hn,λ x b y f=>?_];simp only[bO,vI,sS]at f;subst f;exact λ e=>t (e▸b)
 ·intro j p U;rw[7,Je (s:=[XG]) h c ?_];rw[12,entry_at R j,U,au (JE (aW (n p (atKey_of_get hn U))))]
end
section
variable{X:Cx}
def Xl:[Dw]:=λ x U H Q=>∃(d q:ab)(y:V)(k:Tr)(Y:[iF]),[lk,x=(.ref d),U=[.ref q,y],H d=Z (.dT Y),eZ H k q,[Ie],∀v,cn Y k=Z v→Q v H,cn Y k=none→Q y (ag H d [EQ,k,y])]
theorem Xm(o:[Ic,32]):zU X "dict.setdefault" Xl:=by
 intro B s σ H x vs v us Q I L rv h;obtain⟨d,q,y,k,Y,rfl,rfl,a,C,hl,n,b⟩:=h;cases L;obtain⟨u1,t,rfl,V,K⟩:=vals2 rv;cases V;obtain⟨z,f,N,j,i⟩:=Mo I.aH a;have M:[Id,aQ]:=[cm,[CJ,j],z];have A:[C2,.ref d,"dict"]:=i.typeIs;refine qC F.slot_dict_setdefault A F.entry_dict_setdefault ?_ (F.args_dict_setdefault_3 _ _ _);unfold Builtin.«dict.setdefault»;rw[7,?_];unfold Builtin.Dict.keyAndDefault;rw[7,wpAny_notOrdered_dict A ?_];show az _ _ (pure (d,[j5,q],Z t)) _ _ s;refine aW ?_;show az _ _ [or,d==iS,_,SN d (.ref q) t>>=_] _ _ s;rw[aD [ap,f,eQ]];rw[7,Xk (hsz:=M) (wK o) (uh I.aH C) i [qp] λ W S O G=>?_];·have u:=j.val k;rw[R]at u;cases e:cn Y k with|none=>rw[e]at u;rw[8,u,by intro z;cases z]|some v=>rw[e]at u;exact aW ⟨_,J,v,H,[rw],u,n v e⟩
 ·have u:=j.val k;rw[W]at u;have en:cn Y k=none:=by cases e:cn Y k with|none=>rfl|some v=>rw[e]at u;rw[8,u,by intro z;cases z]
  have E:[ck,cD Y k y,aQ]:=by rw[10,wG Y k y]
  obtain⟨U,T,g,D,r,P,w,_,h5⟩:=O;have l:[L6,H,d,[EQ,k,y],S]:=by rw[55,⟨E,f,_,(j.put k C K).keeps λ c ys m=>?_,U,T,g,D,r,P,w,h5⟩,ar (cE m a [Qs]),m]
  exact aW ⟨_,J,y,_,DJ I [ap,a,lW] G ⟨U,D⟩ l,K,b en⟩
end
end L2
end
section
namespace PySem
abbrev lF(h:aE)(z l TO:ab)(U:ae)(V:Bool):Prop:=h.get? z=[QU,.type "zip",[vh,#[U,.bool V,.bool false,.ref l,.ref TO]]]
section
variable{prog:aY}{w:aU}{A:bP}{E:[aT]}{s:aq}
theorem Nn{z a:ab}{c:ae}{U:[lc]}{Q:[Ez]}(M:[gX,z]=[QU,c,[vh,U]])(C:1<U.size)(k:∀S,[pi,z]=[QU,c,[vh,(U.setIfInBounds 0 (f_ a)).setIfInBounds 1 (.bool false)]]→[Xe,z,Q,()]):[fQ,adj (.ref z) [bi]]:=by unfold adj;exact au (sU M [ac] λ P X L=>sU X [aB,C] λ H b j=>k H b (L.trans j))
theorem Np{z i l:ab}{k:Nat}{N U:[lc]}{Q:[on,[iH,ae]]}(W:N[k]?=none→[wg])(M:[gX,z]=[QU,.type "zip",[vh,U]])(I:0<U.size)(n:i≠z)(O:[DI,i,l,k])(X:[u9,l,N])(m:∀x S,N[k]?=Z x→S.IsListIter i l (k+1)→[Xe,i,Q,Z x])(j:N[k]?=none→∀S e,(∀c o,c≠z→c≠i→([gX,c]=Z o→[pi,c]=Z o))→[T5]):[fQ,(o4 (.ref i)>>=λ v=>pure (Z v)).onRaise λ _=>BY (.ref z) 0 .none]:=by
 refine wpAny_onRaise (au ?_);cases d:N[k]? with
  |some x=>exact IP O X d λ S a b=>aW (m x S d a b)
  |none=>
   refine R3 (W d) O X d λ S e b⟨o,f,V⟩=>?_
   have D:=b _ _ n.symm M;refine sU D I λ r _ h=>j d r e (λ c o u g q=>h.extBut _ _ u (b _ _ g q)) ⟨o,h.extBut _ _ ?_ f,V⟩
   intro q;subst q;rw[D]at f;cases f;simp at V
theorem Nq{f0:ae}{b1:Bool}{z l TO n d l1 l2:ab}{k1 k2:Nat}{xs ys:[lc]}{a b:ae}{Q:[aT]}(hh:xs[k1]?=none∨ys[k2]?=none→[wg])(D:qM z l TO n d l1 l2)(hz:lF s.heap z l TO f0 b1)(h:∀(Q':[Dc,aq]),Q' true s→[C8,lO (.ref z),Q'])(hTI:[MG,d])(hTO:[Tg])(h1:[DI,n,l1,k1])(h2:[DI,d,l2,k2])(hl1:[u9,l1,xs])(hl2:[u9,l2,ys])(hQ:∀x y S,[cI,xs[k1]?=Z x,ys[k2]?=Z y,IsZip S z l TO [K0,f_],fo S TO x y,[cI,S.IsListIter n l1 (k1+1),S.IsListIter d l2 (k2+1),[YV],S.objs.size=[ge],[Ut,d,[Ug,S]]]])(hE:xs[k1]?=none∨ys[k2]?=none→∀S e,[Ut,d,[T5]]):[C8,[QQ],λ fin s'=>∃v,fin=.done (.ret v)∧Q v s']:=by
 show az _ _ [XC,z] _ _ _;refine[B4,hz,.bool false,[B4,hz,[lf],au (lT hTI J ?_)]];rw[7,h _ ?_];simp only[il];rw[7,JE [B4,hz,.ref TO,au (sU hz [al] λ h₁ X L=>au ?_)]];simp only[List.zipIdx_cons,List.zipIdx_nil,sY,BJ];rw[7,au (Np (λ q=>hh (.inl q)) X [al] D.i1z (h1.extBut L.extBut D.i1z) (hl1.extBut L.extBut D.l1z) (λ x H ex R j=>?_) λ q S e k he=>hE (.inl q) S e (λ c o u _ T _ p=>k c o u T (L.extBut _ _ u p)) he)];have I:∀c o,(c≠z→c≠n→[gX,c]=Z o→H.get? c=Z o):=λ c o u T p=>j.extBut _ _ T (L.extBut _ _ u p)
 have K:fo H TO a b:=I _ _ D.TOz D.TOi1 hTO;rw[7,lT K J (au (adk K λ B V F=>au (oh (aW ?_))))];have t:[aa7,[gX,c]=Z o,B.get? c=Z o]:=λ c o u f T p=>F.extBut _ _ f (I c o u T p)
 have M:=F.extBut _ _ D.TOz.symm (j.extBut _ _ D.i1z.symm X);rw[7,au (Np (λ q=>hh (.inr q)) M [al] D.i2z (h2.at λ o p=>t _ o D.i2z D.TOi2.symm D.i12.symm p) (hl2.at λ o p=>t _ o D.l2z D.l2TO D.l2i1 p) (λ y h₄ ey W i=>?_) λ q S e k he=>hE (.inr q) S e (λ c o u f T c4 p=>k c o u c4 (t c o u f T p)) he)];have N:=i.extBut _ _ D.TOi2 V;rw[7,lT N J (au (adk N λ m P Y=>au (oh (aW (aW ?_)))))];have P:fo m TO x y:=P;have O:[Tl,m.objs.size]:=by rw[Y.1,i.1,F.1,j.1,L.1]
 have U:=Y.extBut _ _ D.TOz.symm (i.extBut _ _ D.i2z.symm M);rw[7,lT P J (au (SO (au (Nn (cG _ U) [al] λ G z₆ C=>aW [Cp]))))];have up:∀c o,c≠z→m.get? c=Z o→G.get? c=Z o:=λ c o u p=>C.extBut _ _ u (cG _ p)
 have nz:m.objs.size≠z:=g9 (bR U);rw[111,C.extBut _ _ nz [pu],C.1];rw[iR]at r;show Q (.ref m.objs.size) _;rw[O]at g r⊢;refine hQ x y G ex ey (O▸z₆) (up _ _ D.TOz P) ?_ ?_ g r λ c o u f T c4 p=>up c o u (Y.extBut _ _ f (i.extBut _ _ c4 (t c o u f T p)))
 rw[2,R.at λ o p=>up _ o D.i1z (Y.extBut _ _ D.TOi1.symm (i.extBut _ _ D.i12 (F.extBut _ _ D.TOi1.symm p))),W.at λ o p=>up _ o D.i2z (Y.extBut _ _ D.TOi2.symm p)]
theorem Xn{U:ae}{V:Bool}{z l TO n h m K:ab}{k1 k2:Nat}{N G:[lc]}{x y a b:ae}{Q:[aT]}(D:[Pk,h])(M:[Rn])(u:[XQ,I true s])(k:[MG,h])(t:[Tg])(g:[Qg])(r:[DI,h,K,k2])(O:[u9,m,N])(j:[u9,K,G])(d:N[k1]?=Z x)(f:G[k2]?=Z y)(i:[aeJ,IsZip S z l TO [K0,f_],fo S TO x y,h]):[C8,[QQ],λ C e=>[Zt,e]]:=have F:¬(N[k1]?=none∨G[k2]?=none):=(by rw[d,f];simp);Nq (λ q=>[gh,q,F]) D M u k t g r O j (λ W B S p q=>by rw[d]at p;rw[f]at q;cases p;rw[6,q,i S]) λ q=>[gh,q,F]
theorem Xo{U:ae}{V:Bool}{z l TO n d m K:ab}{k1 k2:Nat}{N G:[lc]}{a b:ae}{Q:[on,Fin]}(W:[wg])(D:[Pk,d])(M:[Rn])(k:[XQ,I true s])(h:[MG,d])(j:[Tg])(g:[Qg])(r:[DI,d,K,k2])(O:[u9,m,N])(f:[u9,K,G])(L:N[k1]?=none∨G[k2]?=none)(i:∀S e,[Ut,d,[T5]]):[fQ,[QQ]]:=gG (Nq (Q:=[Ay]) (λ _=>W) D M k h j g r O f (λ x y _ p q=>by rw[p,q]at L;simp at L) λ _=>i) (λ _ _⟨_,_,q⟩=>q.elim) λ _ _ q=>q
theorem Xp{e f:ab}{i:Nat}{H:ae}{Q:[aT]}{G:[dF,aE,ae]}(R:IsEnum s.heap e f i H)(a:∀(I:[aT]),(∀P x,G P x→I x [ln,P])→[C8,o4 [dU],I])(X:∀P x,G P x→P.get? e=[gX,e])(h:∀P x S,[cI,G P x,IsEnumOut S e f ([lx]+1) x P.objs.size,[pi,P.objs.size]=Z [NM,#[.int i s.toks,x]],S.objs.size=P.objs.size+1,[QP,b≠e,P.get? b=Z o,S.get?,Q (.ref P.objs.size) [P4,S]]]):[C8,Builtin.«enumerate.__next__» [yg,[.ref e]],λ C d=>[Zt,d]]:=by show az _ _ [XC,e] _ _ _;refine[B4,R,[dU],au (a _ λ P x K=>?_)];have u:IsEnum P e f i H:=((X P x K).trans R);rw[3,[B4,u,f_ i,[B4,u,.none,?_]],au (JA (au (sU u [al] λ l L j=>au (sU L [al] λ B M F=>au (SO ?_)))))];have z:B.objs.size=P.objs.size:=(j.trans F).1;have r:∀b o,b≠e→P.get? b=Z o→B.get? b=Z o:=(j.trans F).extBut;have D:IsEnum _ e f ([lx]+1) H:=cG [NM,#[.int i s.toks,x]] M;have m:e<P.objs.size:=bR u;rw[7,?_];unfold lO;refine[B4,D,.none,aW ?_];simp only[il];rw[7,JE [B4,D,H,au (sU D [al] λ n N Y=>au (Nn N [al] λ y O t=>au (oh (aW [Cp]))))]];have k:=[rE,t];show Q (.ref B.objs.size) _;have g:=k.extBut _ _ [ap,z,g9 m] (dM B J);have q:=k.1;rw[iR]at q;rw[z]at g q⊢;exact h P x y K (z▸O) g q λ b o c p=>k.extBut b o c (cG _ (r b o c p))
end
end PySem
end
section
namespace PySem
section
variable{prog:aY}{w:aU}{A:bP}{E:[aT]}{s:aq}
theorem Nr{M:tF}{a:ab}{Q:[on,[iH,Obj]]}(h:Q [gX,a] s):az M A (loadIfAlive a) Q E s:=λ b p _=>by rw[25,Sem.wp M b (Sem.loadIfAlive a pure) _ _ p s,Sem.wp_loadIfAlive,h]
theorem Xq{U:ae}{V:Bool}{z l TO n f m K:ab}{k1 k2:Nat}{N G:[lc]}{x y:ae}{Q:[aT]}(D:[Pk,f])(M:[Rn])(k:[MG,f])(L:[XQ,∀S i,[aaF,i]])(g:[Qg])(r:[DI,f,K,k2])(O:[u9,m,N])(j:[u9,K,G])(a:N[k1]?=Z x)(b:G[k2]?=Z y)(p:∀S i,[cI,lF S z l TO U i,S.IsListIter n m (k1+1),S.IsListIter f K (k2+1),[YV],S.objs.size=[ge]→(∀c o,[aeq,f])→[Ug,S]]):[C8,[QQ],λ C d=>[Zt,d]]:=by
 rw[330,field (.ref z) 3,au (lT k J ?_),L _ λ P i R q=>?_,au (k9 ?_),o4 (.ref n)];rw[7,[ab6,q.extBut,λ H T t=>aW ?_]];rw[3,aW ?_,au (au (k9 ?_))];show[Et,o4 [dU]>>=_];rw[3,au (IP ((r.extBut q.extBut D.i2z).extBut t.extBut D.i12.symm) ((j.extBut q.extBut D.l2z).extBut t.extBut D.l2i1) b λ B W F=>aW ?_),aW (aW ?_)];show[Et,newTuple [x,y]>>=_];rw[7,SO (aW [Cp])];have h:[Tl,B.objs.size]:=by rw[F.1,t.1,q.1]
 have X:lF B z l TO U i:=F.extBut _ _ D.i2z.symm (t.extBut _ _ D.i1z.symm R);have Y:B.IsListIter n m (k1+1):=T.extBut F.extBut D.i12;show Q (.ref B.objs.size) _;rw[h];refine p _ i (cG _ X) (Y.at λ o e=>cG _ e) (W.at λ o e=>cG _ e) ?_ (by rw[iR,h]) λ c o u c3 c4 e=>cG _ (F.extBut _ _ c4 (t.extBut _ _ c3 (q.extBut _ _ u e)))
 rw[←h];exact[pu]
theorem Xr{U:ae}{V:Bool}{z l TO n d m K:ab}{k1 k2:Nat}{N G:[lc]}{Q:[on,Fin]}(W:[wg])(D:[Pk,d])(M:[Rn])(j:[MG,d])(y:[XQ,∀S f,[aaF,f]])(g:[Qg])(r:[DI,d,K,k2])(O:[u9,m,N])(i:[u9,K,G])(L:N[k1]?=none∨G[k2]?=none)(p:∀S e,(∀c o,[aeq,d])→[T5]):[fQ,[QQ]]:=by
 rw[330,field (.ref z) 3,au (lT j J ?_),y _ λ P f C k=>?_,au (k9 ?_),o4 (.ref n)];cases a:N[k1]? with
  |none=>rw[7,R3 W (g.extBut k.extBut D.i1z) (O.extBut k.extBut D.l1z) a λ H e q R=>?_];exact p H e (λ c o u T t x=>q _ _ T (k.extBut _ _ u x)) R
  |some x=>
   have b:G[k2]?=none:=by rcases L with h|h;rw[a]at h;rw[6,h,h]
   rw[7,[ab6,k.extBut,λ H F q=>aW ?_]];rw[3,aW ?_,au (au (k9 ?_))];show[Et,o4 (.ref d)>>=_];rw[7,R3 W ((r.extBut k.extBut D.i2z).extBut q.extBut D.i12.symm) ((i.extBut k.extBut D.l2z).extBut q.extBut D.l2i1) b λ B e v R=>?_];exact p B e (λ c o u T t x=>v _ _ t (q.extBut _ _ T (k.extBut _ _ u x))) R
def xa(h:aE)(z l TO:ab):Prop:=∃U V,lF h z l TO U V∧(U=.none∨∃T:Nat,U=f_ T)
theorem Nt{U:ae}{V:Bool}{z l TO:ab}(M:[Rn])(F:U=.none∨∃T:Nat,U=f_ T):[aek,I true s]∨[aek,∀S P,[aaF,P]]:=by
 rcases F with rfl|⟨T,rfl⟩;·left;intro A E I h;unfold lO;exact[B4,M,.none,aW h]
 ·cases q:[gX,T]with|none=>left;rw[276];rw[12,vy,q,aW h]|some o=>right;rw[276];rw[vy,q];show az _ _ (field (.ref z) 1>>=_) _ _ s;rw[7,f7 M J (x:=.bool V) J ?_];cases V with|true=>exact aW (h s.heap true M (Heap.SameBut.refl _ _))|false=>show az _ _ (BY (.ref z) 1 (.bool true)>>=_) _ _ s;exact au (sU M [al] λ S t g=>aW (h S true t g))
end
end PySem
end
section
namespace PySem
open Sem(wp)
open AutoSeq1(wpAny_loadPart')
def xb(z:ab):Obj:=[Al,[zJ],[vh,#[.none,.bool false,.ref z,f_ 0,.none,.none]]]
theorem Xs(z l TO:ab):Meets (Builtin.«enumerate.__new__» [yg,[.type [zJ],.ref z]]) (λ _ R s=>IsZip s.heap z l TO .none∧R (.ok (.ret [pQ])) [W7,xb z]):=.of_wp λ prog w A R s h=>by
 obtain⟨a,g,d,G,b⟩:=s;obtain⟨M,h⟩:=h;have o:=sub_enumerate;wp_walk using wpAny_loadPart' M;refine wpAny_stack_any λ L=>aW ?_
 split
 ·rename_i c _ _ _ _ _;cases(c==SS [zJ]);·rw[210]
  ·rw[210]
 ·rw[210]
section
variable{prog:aY}{w:aU}{A:bP}{E:[aT]}{s:aq}
theorem Xt{z l TO:ab}{Q:[aT]}(M:IsZip s.heap z l TO .none)(h:Q [pQ] [W7,xb z]):[fQ,call (.type [zJ]) [.ref z]]:=by refine callType_new F.called_enumerate [bj] (F.typeCall_enumerate_1 _) (F.newCall_enumerate_1 _) (λ obj=>F.args_object_init_2 obj _) F.entry_enumerate_new (Xs z l TO) [rp,M];rw[0,[rJ,[pu]],h]
theorem Xu{z l TO n i m K:ab}{k1 k2:Nat}{N G:[lc]}{x y:ae}{Q:[aT]}(D:[Pk,i])(R:xa s.heap z l TO)(t:[MG,i])(B:∃a b,[Tg])(g:[Qg])(r:[DI,i,K,k2])(O:[u9,m,N])(q:[u9,K,G])(d:N[k1]?=Z x)(h:G[k2]?=Z y)(p:[aeJ,xa S z l TO,∃a b,fo S TO a b,i]):[fQ,o4 (.ref z)]:=by obtain⟨U,V,M,f⟩:=R;obtain⟨a,b,B⟩:=B;rw[359];rcases Nt (prog:=prog) (w:=w) M f with I|X;rw[2,Xn D M (I _ _) t B g r O q d h λ S v j k C L P W=>aW (p S ⟨_,_,v,.inr [pM]⟩ ⟨_,_,j⟩ k C L P W),Xq D M t (X _ _) g r O q d h λ S b' v k C L P W=>aW (p S ⟨_,_,v,f⟩ ⟨a,b,W _ _ D.TOz D.TOi1 D.TOi2 B⟩ k C L P λ c o u _ T H e=>W c o u T H e)]
theorem Xv{z l TO n f m K:ab}{k1 k2:Nat}{N G:[lc]}{Q:[aT]}(W:[wg])(D:[Pk,f])(B:xa s.heap z l TO)(i:[MG,f])(j:∃a b,[Tg])(g:[Qg])(r:[DI,f,K,k2])(O:[u9,m,N])(h:[u9,K,G])(L:N[k1]?=none∨G[k2]?=none)(p:∀S e,[Ut,f,[T5]]):[fQ,o4 (.ref z)]:=by obtain⟨U,V,M,d⟩:=B;obtain⟨a,b,j⟩:=j;rw[359];have q:A.in1.handled=none:=W;rcases Nt (prog:=prog) (w:=w) M d with H|v;rw[2,Xo q D M (H _ _) i j g r O h L p,Xr q D M i (v _ _) g r O h L λ S e k R=>p S e (λ c o u _ T t x=>k c o u T t x) R]
end
end PySem
end
section
namespace L2
open PySem PySem.Spec PyProof.Rows
def xc(K:aF)(a b:ab):It:=[adK,∃k O x y,[lk,v=.ref O,H k=none,H O=none,k≠O,m=[j0,[j0,H,k,[x,y]],O,[PL,k]],[YO,ax],∀G,ax K H b G→G[i]?=Z y]]
structure Xw(e z l TO n c a b:ab):Prop where
 D:qM z l TO n c a b
 ez:e≠z
 Xx:e≠l
 Nu:e≠TO
 e1:e≠n
 e2:e≠c
 ea:e≠a
 eb:e≠b
theorem Xy{P:aY}{w:aU}{K:aF}{elts:[ly]}{kk:Nat}{tpos:Pos}{a b e z r TO n m:ab}(D:Xw e z r TO n m a b):[Kj,.Tuple elts kk tpos,xc K a b,[e,z,r,TO,n,m],e,[jS,∃C,IsEnum h e z [aN,i] C,xa h z r TO,fo h r (.ref n) (.ref m),∃x y,fo h TO x y,[Pu,n,a],[Pu,m,b]]]where
 mem:=[al]
 obj:=λ i h L c hc=>by obtain⟨⟨C,R⟩,⟨f0,b1,hz,_⟩,M,⟨x,y,N⟩,⟨o1,e1,_,d1⟩,⟨o2,e2,_,d2⟩⟩:=L;have j:c=e∨c=z∨c=r∨c=TO∨c=n∨c=m:=[aB,hc];rcases j with q|q|q|q|q|q;rw[39,q,[OC,R],q,[OC,hz]];rw[364,M,N]
 keep:=λ i h h' L k=>by obtain⟨⟨C,R⟩,⟨f0,b1,hz,f⟩,M,⟨x,y,N⟩,h1,h2⟩:=L;rw[37,⟨C,(k e [al] _ R)⟩,⟨f0,b1,(k z [al] _ hz),f⟩,k r [al] _ M,⟨x,y,(k TO [al] _ N)⟩,h1.at [Rs,n],h2.at [Rs,m]]
 item:=by
  rw[282];obtain⟨xs,ys,x,y,V,Y,hx,hy,aH⟩:=hg;rw[355];obtain⟨u,hu,ru⟩:=rv.get hx;obtain⟨u2,hu2,ru2⟩:=rv2.get hy;have hT:[C2,.ref e,[zJ]]:=[rJ,R];unfold kr;rw[7,Jv [acM,Xp (G:=λ t v=>[lk,v=[pQ],xa t z r TO,∃a b,fo t TO a b,t.IsListIter n a (i+1),t.IsListIter m b (i+1),fo t s.heap.objs.size u u2,t.objs.size=[ge]∧[aa7,c≠m,[gX,c]=Z o→t.get? c=Z o]]) R (λ Q' hq=>Xu D.D hZ M N h1 h2 p.isList p2.isList (x:=u) (y:=u2) [aB,hu] [aB,hu2] λ h' a1 a2 a3 a4 a5 a6 a7=>hq h' _ ⟨J,a1,a2,a3,a4,a5,a6,a7⟩) (λ t v g=>[ap,R,g.2.2.2.2.2.2.2 e _ D.ez D.Nu D.e1 D.e2 R]) (λ t v h' g he' ht hsz hk=>?_)]];obtain⟨rfl,g1,⟨ga,gb,g2⟩,g3,g4,g5,g6,g7⟩:=g;refine aW [dL,wpAny_letOwnedTupleGo_enum (s:=[P4,h']) he' λ S he'' sb=>?_];have hel:[pU,e]:=bR R;obtain⟨f0,b1,gz,gf⟩:=g1;have hzl:[pU,z]:=by obtain⟨_,_,q,_⟩:=hZ;exact bR q
  have hTIl:[pU,r]:=bR M;have hTOl:[pU,TO]:=by obtain⟨_,_,q⟩:=N;exact bR q
  have hi1l:[pU,n]:=by obtain⟨_,q,_⟩:=h1;exact bR q
  have hi2l:[pU,m]:=by obtain⟨_,q,_⟩:=h2;exact bR q
  have up:∀c o,c≠e→t.get? c=Z o→[pi,c]=Z o:=λ c o ce q=>[f8,sb.2,c,ce,hk c o ce q]
  have T1:[pi,s.heap.objs.size]=Z [NM,#[u,u2]]:=up _ _ (g9 hel) g5;have T2:[pi,[ge]]=Z [NM,#[.int i s.toks,.ref s.heap.objs.size]]:=by have q:=[f8,sb.2,t.objs.size,[ap,g6,g9 (o_ hel)],ht];rw[62,g6,q]
  have hn1:[K0,H]=none:=[ED];have hn2:H [ge]=none:=[CF,vL _];have new1:[aad,[x,y],t]:=[aep,g5];have I1:[lB,σ,[Uf],[qU,t,s.toks]]:=I.Ab (ch:=[z,TO,n,m]) (λ c o d q=>[Yi,g7,d [bn,W]]) [abi] (ba _) new1;have new2:[L6,[Uf],[ge],.tup [.int (i:Nat),[pQ]],S]:=⟨[Dr],[.int i s.toks,[pQ]],[zg,[pM],J],[hJ,_,T2,_,J]⟩;have fpe:iY X B [Uf] e:=by obtain⟨f0,f1,f2,f3,f4,f5⟩:=f e [al];rw[37,[cX,dY hel,f0],f1,f2,f3,f4,f5]
  have I2:[lB,σ,[j0,[Uf],[ge],[.int (i:Nat),[pQ]]],[P4,S]]:=I1.Ab (ch:=[e]) (λ c o d q=>up c o (λ W=>d [bn,W]) q) (λ c O=>by
   have j:c=e:=by rw[94]
   rw[4,j,fpe]) (by rw[25,t.objs.size≤_,g6,ba _]) new2
  rw[53,.ref [ge],_,I2,[fy,g6],⟨_,_,x,y,J,hn1,hn2,dY (qB _),J,[XA,V,hx],[XA,Y,hy]⟩,⟨[rp,[pQ]],⟨f0,b1,up _ _ D.ez.symm gz,gf⟩,?_,⟨ga,gb,up _ _ D.Nu.symm g2⟩,g3.at λ o q=>up _ o D.e1.symm q,g4.at λ o q=>up _ o D.e2.symm q⟩,λ c O=>?_];·have e1:[aN,i+1]=[lx]+1:=[ac];rw[4,e1,he'']
  ·exact up _ _ D.Xx.symm (g7 _ _ D.D.TIz D.D.TITO D.D.TIi1 D.D.TIi2 M)
  ·have hlt:[pU,c]:=by
    have j:c=e∨c=z∨c=r∨c=TO∨c=n∨c=m:=by rw[94]
    rcases j with q|q|q|q|q|q<;>(rw[q];assumption)
   rw[12,ar (dY (o_ hlt)),ar (dY hlt),(f c O).1]
 done:=by
  rw[282];obtain⟨xs,ys,V,Y,hend⟩:=hg;rw[355];have l1:=rv.length;have l2:=rv2.length;have hen:its.toArray[i]?=none∨U.toArray[i]?=none:=by rcases hend with q|q;rw[73,by rw[17],by rw[17]]
  have hT:[C2,.ref e,[zJ]]:=[rJ,R];have hh:X.A.handled=none:=I.ok.hd hc;have hh':X.A.in1.handled=none:=hh;unfold kr;rw[7,Jv [acM,?_]];show[Et,[XC,e]];rw[3,[B4,R,.ref z,?_],au (Xv hh' D.D hZ M N h1 h2 p.isList p2.isList hen λ h' x hk hx'=>?_)];obtain⟨o,ho,hcl⟩:=hx';refine[abO,⟨o,ho,hcl⟩];exact aW [acS,[z,TO,n,m],[abi]]
 self:=[ac8]
def Xz(K:aF)(T:TA):TI:=[acw,xc]
theorem XA{X:Cx}{e1 e2:bc}{T:TA}{p t W P y:Pos}{D:[ly]}{kk:Nat}(hg:Gl X [zJ])(hm:X.mg [zJ]=none)(V:Gl X "zip")(K:X.mg "zip"=none)(ha:PA X [e1,e2] T)(Q:[pc,[Expr.Call (.Name "zip" t) [e1,e2] [] P]]=[[wC,.Call (.Name "zip" t) [e1,e2] [] P]]:=by rfl)(G:[pc,[e1,e2]]=[wC,e1]::[pc,[e2]]:=by rfl)(L:[aX,[W5,P,[e2]]]:=by rfl):PI X (.Tuple D kk y) (.Call (.Name [zJ] p) [(.Call (.Name "zip" t) [e1,e2] [] P)] [] W) (Xz X.K T):=by
 rw[122,Call_ (m_ I hg hm boot_enumerate (vp ?_ Q J))];rw[Q];rw[3,vx ?_,Call_ (m_ I V K MD (vp (bj [Lb,P] λ us Y⟨vs,f,j,r1,q1⟩=>?_) G L))];obtain⟨a,b,xs,ys,ex,x,U,q⟩:=q1;subst ex;cases r1 with
  |cons r v=>
   cases v with
    |cons r' v=>
     cases v;cases r;cases r';obtain⟨its,rv,O,_⟩:=j.list x;obtain⟨F,rv2,t,_⟩:=j.list U;have A:a<Y.heap.objs.size:=O.lt;have u:b<Y.heap.objs.size:=t.lt;rw[3,call_zip_2 O.isList t.isList λ S M l m g d k C=>Bv ?_,Xt (s:={Y with heap:=S}) M (Jf (s:={Y with heap:=S.push (xb [nk,4])}) (e:=S.objs.size) (it:=[nk,4]) (i:=0) (old:=.none) [pu] ?_)];have N:∀c o,[pi,c]=Z o→(S.push (xb [nk,4])).get? c=Z o:=λ c o q=>cG _ q
     have I2:[U7,f,Y,S.push (xb [nk,4])]:=j.kept (t':=Y.toks) λ c o q=>N c o (C c o q)
     have AP:=PySem.W.ktu_apart Y.heap.objs.size a b A u;refine⟨S.objs.size,[S.objs.size,[nk,4],[nk,2],[nk,3],Y.heap.objs.size,[nk,1]],_,_,f,J,I2,Xy ⟨AP,[Xk],[Xk],[Xk],g9 [ap,k,Nat.lt_add_of_pos_right [bj]],[Xk],g9 (dG A [ap,k,vB _ _]),g9 (dG u [ap,k,vB _ _])⟩,⟨⟨.none,[pu]⟩,⟨.none,false,N _ _ M,[de]⟩,N _ _ l,⟨_,_,N _ _ m⟩,g.at λ o q=>N _ o q,d.at λ o q=>N _ o q⟩,λ c E=>?_,q⟩;have e':c=S.objs.size∨c=[nk,4]∨c=[nk,2]∨c=[nk,3]∨[Wd,c]∨c=[nk,1]:=[aB,E];have n:Y.heap.objs.size≤c:=by rcases e' with z|z|z|z|z|z<;>(rw[z];try rw[k]);all_goals omega
     exact j.oE n (j.aH.fresh n)
theorem XB{K:aF}{a b:ab}{xs ys:[aw]}{g:TG}{F:TS}{D:Ends}{w:St}{H:Hp}(P:[Be])(I:P 0 w H)(X:∀i w H,P i w H→ax K H a xs∧ax K H b ys)(o:xs.length=ys.length)(d:∀y∈ys,[aX,dD y])(G:∀i x y u z w H,xs[i]?=Z x→ys[i]?=Z y→[u8,u,H z=none,u≠z,P i w H→g (.ref z) w [j0,[j0,H,u,[x,y]],z,[PL,u]] λ t M=>F [L0,P (i+1)] t M])(f:[XJ]):[TM,xc K a b,∀l c,[Mj,l,c],∀x c,(xc K a b).j1 i H x c→g x w c λ t M=>F [L0,N] t M]:=by
 rw[137,xs.length];obtain⟨n,j⟩:=X i w H p;by_cases s:[Us];·have r:i<ys.length:=[ac];refine[rq,⟨xs,ys,xs[i],ys[i],n,j,bX s,bX r,d _ (BC r)⟩,P (i+1),λ l c E=>[T_],λ v c k=>?_];obtain⟨u,z,x,y,rfl,C,B,q,rfl,A,h⟩:=k;exact G i x y u z w H (A xs n) (h ys j) C B q p
 ·have e:i=xs.length:=[ac];rw[145,⟨xs,ys,n,j,.inl (ba _)⟩,f]
end L2
end
section
namespace L2
open PySem PySem.Spec PyProof.Rows
def Eb(X:Cx)(L:a9)(t:TS):Prop:=[adR,exec]
def Ai(X:Cx)(L:[y_])(t:TS):Prop:=[adR,execs]
theorem gi.uu{X:Cx}{L:[y_]}{t:TS}(h:gi X L t):Ai X L t:=λ s w H D I q=>h [] s w H D I q
theorem XC{X:Cx}{L:a9}{B:[y_]}{t u:TS}(g:Eb X L t)(r:Ai X B u):Ai X (L::B) (wj t u):=by intro s w H D I h;refine Sw (bj (g s w H {D with nx:=u D} I h) λ f Y q=>?_);cases f with|next=>obtain⟨a,m,S,q⟩:=q;exact r Y a m D S q|brk=>exact q|cont=>exact q|ret v=>exact q
abbrev XD(K:aF)(n:List (ab×TS))(D:Ends):XK:=λ c _ m=>∃C,c=[gv]∧∀a:St,rH K n C D a m
theorem XE{X:Cx}{B:[y_]}{N:vH}{G:List vH}{ts:List (ab×TS)}{W:Pos}(q:TS)(b:X.pn=[])(a:X.ex=[])(e1:[Eu])(E:nt X (N::G) ts)(K:∀D w H,q D w H→∃t,gi (X.iu λ e d=>XS X (XD X.K ts D) e d) B t∧t D w H):Eb X (.Try B (N::G) [] [] W) q:=λ s w H D I h=>let⟨_,g,r⟩:=K D w H h;W1 b a e1 g E I r
section
theorem XF{T:kA}{P:aY}{w:aU}{K:aF}{mg:[a_]}{base:aE}{k:Nat}{f:ab}{L h:Str}{D:vN}{B:[y_]}{l:dR}{dV kV p pm j ct oc:ae}{an od:[sB]}{z:[Co]}{N c:[bd]}{sp:Sp}(lk:[nM,f]=Z ⟨oc,od,.func (km L h D B l dV kV p pm an j ct),z⟩)(F:[Lp,h])(S:bQ N c l)(W:[OE,c.length])(X:[Yg,[DL,h,l,j],Q,E,Ai,gy T P w K mg base N h l f j A outer s H E,B]):aA P w K mg base T (k+1) f (km L h D B l dV kV p pm an j ct) c sp:=by rw[328,X A outer s H U Q E (a.deeper _) i,gy T P w K mg base N h l f j A outer s H E,ht s1 (start N U) H _ I hq]
end
end L2
end
section
namespace VP
open PySem L2
def top(i:Nat):a9:=PySem.Challenge.pw_versestock_s01_next_row.main.body.getD i [V_]
abbrev qa:a9:=top 1
abbrev xf:a9:=[e_,10,0]
abbrev rK:a9:=top 11
abbrev uw:a9:=top 12
abbrev ux:a9:=top 13
abbrev xg:a9:=top 14
abbrev xh:a9:=top 15
abbrev xj:a9:=top 16
abbrev xk:a9:=[e_,18,0]
abbrev xl:a9:=[e_,18,1]
abbrev uy:a9:=[e_,18,2]
abbrev xm:a9:=[e_,18,3]
abbrev rL:a9:=top 19
abbrev xn:a9:=top 20
abbrev xp:a9:=top 21
abbrev qb:a9:=top 23
abbrev xq:a9:=top 24
abbrev uz:a9:=top 25
abbrev oN:a9:=top 26
abbrev rN:a9:=top 27
abbrev uC:a9:=top 28
abbrev uD:a9:=[e_,31,0]
abbrev xr:a9:=[e_,32,0]
abbrev uE:a9:=[e_,32,1]
abbrev xu:a9:=[e_,33,0]
abbrev uF:a9:=[e_,33,1]
abbrev xw:a9:=[e_,33,2]
abbrev rO:a9:=[e_,33,3]
abbrev xy:a9:=[e_,34,0]
abbrev xA:a9:=[e_,34,1]
abbrev rP:a9:=[e_,34,2]
abbrev uG:a9:=[e_,34,3]
abbrev rQ:a9:=[e_,34,4]
abbrev oO:a9:=[e_,34,5]
abbrev rT:a9:=[e_,34,6]
abbrev uH:a9:=top 53
abbrev xB:a9:=top 54
abbrev xC:a9:=top 55
abbrev xD:a9:=top 56
abbrev uI:a9:=top 57
abbrev xE:a9:=top 58
abbrev uJ:a9:=top 59
abbrev xF:a9:=top 60
abbrev uK:a9:=top 61
abbrev uL:a9:=top 62
abbrev xG:a9:=top 63
abbrev xH:a9:=[e_,71,0]
abbrev uN:a9:=[e_,71,1]
abbrev uO:a9:=[e_,71,2]
abbrev uP:a9:=[e_,71,3]
abbrev uQ:a9:=[e_,71,4]
abbrev xI:a9:=[e_,71,5]
abbrev uT:a9:=[e_,71,6]
abbrev xJ:a9:=[e_,71,7]
abbrev xK:a9:=[e_,71,8]
abbrev xM:a9:=[e_,71,9]
abbrev uU:a9:=top 75
abbrev rV:a9:=top 76
abbrev uV:a9:=[e_,77,0]
abbrev uW:a9:=[e_,77,1]
abbrev xN:a9:=[e_,77,2]
abbrev uX:a9:=[e_,77,3]
abbrev uY:a9:=[e_,77,4]
abbrev rW:a9:=[e_,77,5]
abbrev uZ:a9:=[e_,77,6]
abbrev u5:a9:=[e_,77,7]
abbrev rX:a9:=top 82
theorem XG:bQ [KN] [KN] (aZ xf):=[bV]
theorem Nv:bQ ["text","sign","most","parts"] [DJ] (aZ uw):=[bV]
theorem XH:bQ [wq] [wq] (aZ xg):=[bV]
theorem Nw:bQ ["text","feet_count","parts"] [Kf] (aZ xh):=[bV]
theorem Ny:bQ ["digits","most",[mj]] [KY] (aZ xj):=[bV]
theorem XI:bQ [KG] [KG] (aZ xk):=[bV]
theorem XJ:bQ [A3] [A3] (aZ xl):=[bV]
theorem XM:bQ [A3] [A3] (aZ uy):=[bV]
theorem Nz:bQ [[ca],"needs","own"] [Ua] (aZ xm):=[bV]
theorem NA:bQ ["shapes","sizes","most","alike",[mj],"traits","kinds","place","shape","size","numbers","count"] [Ft] (aZ rL):=[bV]
theorem ND:bQ ["kinds",[wG],"kind"] [zm] (aZ xn):=[bV]
theorem NF:bQ ["kinds","runs","kind","bit"] [zm] (aZ xp):=[bV]
theorem NG:bQ [ada] [tN] (aZ qb):=[bV]
theorem XN:bQ [[mj]] [[mj]] (aZ xq):=[bV]
theorem NH:bQ ["hits","counts","hit","bit"] ["hits"] (aZ oN):=[bV]
theorem NI:bQ [[mj],"bits","rest"] [[mj]] (aZ rN):=[bV]
theorem XO:bQ [E9] [E9] (aZ uD):=[bV]
theorem XQ:bQ [E7] [E7] (aZ xr):=[bV]
theorem XR:bQ [PM] [PM] (aZ uE):=[bV]
theorem XT:bQ [KO] [KO] (aZ xu):=[bV]
theorem NJ:bQ [[ca],[wG],"left","room","lack","completion"] [zV] (aZ xw):=[bV]
theorem XU:bQ [IR] [IR] (aZ xy):=[bV]
theorem XW:bQ [JS] [JS] (aZ xA):=[bV]
theorem NK:bQ [[ca],[x_],"key"] [m6] (aZ rP):=[bV]
theorem NL:bQ [[ca],"known",[wG],"left","room","found"] [K3] (aZ rQ):=[bV]
theorem Aj:bQ [acB] [NO] (aZ oO):=[bV]
theorem NM:bQ [[ca],"kind","target","barred","left","room","found"] [PH] (aZ rT):=[bV]
theorem NN:bQ ["codes","word"] [xL] (aZ xB):=[bV]
theorem NO:bQ ["word","sounds","place"] [wS] (aZ xC):=[bV]
theorem NP:bQ ["word","place","letter"] [NQ] (aZ xD):=[bV]
theorem XX:bQ [wk] [wk] (aZ xE):=[bV]
theorem NQ:bQ [[zK],"count"] [[zK]] (aZ uJ):=[bV]
theorem XY:bQ [Fs] [Fs] (aZ xF):=[bV]
theorem XZ:bQ [FE] [FE] (aZ xG):=[bV]
theorem NR:bQ [[ca],"measure","foot","place"] [K6] (aZ xH):=[bV]
theorem X0:bQ [[ca]] [[ca]] (aZ uN):=[bV]
theorem X4:bQ [m6] [m6] (aZ uO):=[bV]
theorem NS:bQ [[ca],[x_],"shape","key"] [vn] (aZ uP):=[bV]
theorem NT:bQ [[ca],"spot","weight",[Az],"spots","inner"] [KL] (aZ xI):=[bV]
theorem NU:bQ [[ca],"spots","marks","ends","found","foot","place","rest","met","met_now","way"] [Er] (aZ uT):=[bV]
theorem X5:bQ [LG] [LG] (aZ xJ):=[bV]
theorem X6:bQ [KH] [KH] (aZ xK):=[bV]
theorem X7:bQ [LA] [LA] (aZ xM):=[bV]
theorem NV:bQ [[ca],"after","row","least",[mj]] [NL] (aZ uW):=[bV]
theorem NW:bQ [[ca],"row","least","stands",[mj]] [KP] (aZ xN):=[bV]
theorem NX:bQ [[ca],"row","stands","kind"] [rF] (aZ uZ):=[bV]
theorem NY:bQ [[ca],"stands","kind","behind",[x_],"target"] [Fa] (aZ u5):=[bV]
theorem NZ:bQ [ZT] [J6] (aZ rX):=[bV]
theorem mu(a b:Nat):[LD,a,b]=[aN,a&&&b]:=by unfold dQ;rw[[tO],[tO]];simp
theorem N1(a:Nat):Sj [ar,a]=-[ar,a]-1:=by unfold Sj;omega
theorem Ak(a b:Nat):pk [ar,a] [ar,b]=[aN,a|||b]:=by unfold pk;rw[N1,N1];unfold dQ;rw[[lu],[lu]];simp only[Sj];rw[70,(-(-[ar,a]-1)-1).toNat=a,[ac],(-(-[ar,b]-1)-1).toNat=b,[ac]];rw[e1,e2];omega
section
variable{P:aY}{w:aU}{K:aF}{mg:[a_]}{base:aE}
def N3:Sp:=λ U H Q _=>∃n:Nat,U=[.int n]∧1≤n∧Q [Ey,n&&&(n-1)=0] H
theorem X8{f:ab}{v:bq}(F:kE K [Po] [Po] xq f v):aA P w K mg base aG 1 f v [[mj]] N3:=by
 rw[66,F.ok,XN,[Fj]];·obtain⟨n,rfl,_⟩:=h;rfl
 obtain⟨n,rfl,g,q⟩:=h;rw[22,[oH,lA e_ (cj lz (pv 0) (cj ly (pv 0) bu)) bu (ck _)]];refine⟨_,J,_,J,_,_,J,J,_,_,J,J,J,?_⟩;have e:dQ [cY] ([cY]-1)=[aN,n&&&(n-1)]:=by rw[←mu];congr 1;omega
 show Q [Ey,(V.int (dQ [cY] ([cY]-1)))=(V.int 0)] H;rw[e];have e2:[zW,[Dv,n&&&(n-1)]=(V.int 0),n&&&(n-1)=0]:=by rw[mh,dH];simp
 rw[4,e2,q]
end
end VP
end
section
namespace VP
open PySem L2
theorem jC{K:aF}{a:ab}{N:[aw]}{g:TG}{B:TT}{n:TE}{U:[ak]}{w:St}{h:Hp}{D:ab}{Q:[Cu]}(p:[ii,V])(f:V→V)(q:ax K h a N)(r:h D=none)(k:[Id,aQ])(G:∀(x:V)(H:Hp)(z:VK)(F:[Cu]),[cI,x∈N,ah h H,p x=true→z (f x) H,p x=false→F H,g x [zL] H λ l M=>wipe l U=[zL]∧B l M λ b L=>[or,b,n l L z,F L]])(j:Q (ag h D (.aj ((N.filter p).map f)))):[XX,h,mf K a,∃s:[Cu],[aet,s,mf K a,λ l M=>[KF,l,n,s [Ly],s L]]]:=by
 have sm:∀o,ah h (ag h D o):=λ o b u e=>[cX,aX e r,e]
 refine pW (K:=K) (a:=a) (xs:=N) (λ i H=>H=ag h D (.aj (((N.take i).filter p).map f))) [al] (λ i H _ e=>?_) (λ i x H A e=>?_) (λ H e=>?_);·rw[89,(sm _).seq q]
 ·subst e;have O:=[d0,A];have v:N.take (i+1)=N.take i++[x]:=[jh,fH,A];refine G x _ _ _ (bt A) (sm _) (λ C=>⟨_,aw,?_,?_⟩) λ C=>?_
  ·rw[aC];have c:=nO p (N.take i);rw[jJ]at c;omega
  ·rw[iW,v,I0,cH];simp[C]
  ·rw[v,I0,cH];simp[C]
 ·subst e;rw[4,fZ,j]
abbrev nV(n:Nat):V:=.int [cY]
abbrev aJ(l:[ak]):[aw]:=l.map nV
section
variable{P:aY}{w:aU}{K:aF}{mg:[a_]}{base:aE}
def cb(is:[ak]):[aw]:=is.map λ i=>nV (2^i)
def N4:Sp:=λ U H Q _=>∃n:Nat,U=[nV n]∧n<2^64∧∀(l:ab)(is:[ak]),[u8,l,[Zj],n≠0→is≠[],is.length≤64→Q [lf] (ag H l (.aj (cb is)))]
theorem Ec{n i k:Nat}(h:n<2^k)(K:n.testBit i=true):i<k:=by apply kT;intro z;rw[88,Nat.testBit_lt_two_pow (dG h (vu [bj] (vA z))),K]
theorem bits_le{n:Nat}{is:[ak]}(h:n<2^64)(nd:is.Nodup)(K:[Zj]):is.length≤64:=by rw[50,[UB,[rc,64],nd,[zt,Ec h (K x A)]],jI]
theorem X9{f:ab}{o:bq}(F:kE K "bits_of" "bits_of" rN f o):aA P w K mg base aG 1 f o [[mj]] N4:=by
 have nd:=NI.nd;rw[66,F.ok,NI,λ x A outer s H U Q E u h=>?_];·obtain⟨n,rfl,_⟩:=h;rfl
 obtain⟨n,rfl,hn,k⟩:=h;rw[22,[Dz,1,fz aB,t9 dX [vZ,rq,0,bu] [we,2,cj lz (pv 0) (cj ly (pv 0) bu),j0 (mj nN sM sN pT (pv 1) (ak (cj ly (pv 0) (pv 2)) aB)),aN [xQ,0,pv 2]]]];rw[3,⟨by rw[19,0≤aQ],λ l X=>?_⟩,CZ (λ c a=>∃(m:Nat)(is:[ak])(r:[dE]),[jS,c=[Z (nV m),[ui],r],a=ag H l (.aj (cb is)),is.Nodup,[Zj],∀j,(m.testBit j=true↔[jb,n.testBit j,j∉is]),n≠0→m=0→is≠[]]) (λ c _=>match c with|[Z (.int m),_,_]=>m.toNat|_=>0) ⟨n,[],none,J,J,kj,[al],[al],λ g b=>[gh,b,g]⟩ ?_ ?_]
 ·rintro c a⟨m,is,r,rfl,rfl,C,z,N,y⟩;rw[49,J,_,J,?_];by_cases M:m=0
  ·have e:[aX,[uh,[xX,m]=(V.int 0)]]:=by rw[M];decide
   rw[13,e,[zj,k l is X z (λ h=>y h M) (bits_le hn C z)]]
  ·have e:[uh,[xX,m]=(V.int 0)]=true:=by rw[mh];rw[17]
   rw[13,e,aV ?_];obtain⟨i,g,b,d,p⟩:=Vs.K5 m M;have ea:[PZ]=[aN,m&&&(m-1)]:=by rw[←mu];congr 1;omega
   have O:=(N i).mp g;have L:is.length≤64:=bits_le hn C z;refine⟨_,J,_,J,_,_,J,J,_,_,J,J,_,J,[C_,aw],_,J,_,J,_,_,J,J,l,_,_,J,J,aw,?_,_,J,?_⟩;·unfold cb;rw[4,aC,eR L [bj]]
   ·have G:0<2^i:=Nat.two_pow_pos i;rw[15,⟨m&&&(m-1),is++[i],Z (nV (m&&&(m-1))),?_,?_,?_,?_,?_,?_⟩,?_];·show[Z (V.int [PZ]),[im,l],Z (V.int [PZ])]=_;rw[ea]
    ·rw[iW];show ag H l (.aj (cb is++[(V.int ([ar,m]-[PZ]))]))=_;rw[52,[ar,m]-[PZ]=[vo,i],[e9,ea]];unfold cb;rw[cH];rfl
    ·exact uk C O.2
    ·intro j t;rw[113,[d6,t],z j q];·rw[161,O.1]
    ·intro j;rw[p,N];simp[and_assoc]
    ·intro _ _;simp
    ·show[PZ].toNat<[MY,m];rw[27,ea]
 ·rintro c a Q I D⟨v,g,b,B,e,q⟩;rw[37,v,g,b,B,e,D _ _ q]
theorem N5{x b:Str}{L:a9}{f:ab}{v:bq}{N a:[bd]}{k:Nat}{sp:Sp}{o:ae}(F:kE K x b L f v)(B:v.code=o)(S:bQ N a (aZ L))(n:[OE,a.length])(y:[Yg,PyProof.Rows.envOfC b (aZ L) s.heap.objs.size f o,Q,E,gi,(gy aG P w K mg base N b (aZ L) f o A outer s H E).jZ,jA L]):aA P w K mg base aG (k+1) f v a sp:=by obtain⟨r,g,kV,p,z,c,j,ct,d,rfl,lk,l⟩:=F.ex;rw[45,j=o,B];rw[301,l,y A outer s H U Q E u i]
structure oP(base:aE)(mg:[a_])(v:bq)(c Pt:ab):Prop where
 code:v.code=.ref c
 hd:PySem.W.CodeHd base c Pt
 bm:base.BuiltinsAt mg Pt
 pg:b_≠Pt
def i4:Pos:=⟨127,27,127,50⟩
def iJ:Str:=(([OP]:Str)++".<locals>.")++[Mx]
def eK(Pt:ab)(H m:Hp):Prop:=[Cm,Pt,m b]
theorem eK.refl(Pt:ab)(H:Hp):eK Pt H H:=λ _ _ h _=>h
theorem eK.trans{Pt:ab}{H d M:Hp}(a:eK Pt H d)(b:eK Pt d M):eK Pt H M:=λ c o h n=>b c o (a c o h n) n
theorem jh{H m:Hp}{Pt:ab}{W:Pos}{q:Str}(t:[zM,H])(s:ah H m):[zM,m]:=by obtain⟨V,g,r,P⟩:=t;refine⟨V,s _ _ g,r,?_⟩;rcases P with h|⟨c,a,b⟩;rw[2,[lz],[zf,c,a,s _ _ b]]
def N6(K:aF)(Pt:ab):Sp:=λ U H Q _=>∃(a:ab)(T:[ak]),[jS,U=[sG],ax K H a (aJ T),T≠[],∀h∈T,h≠0∧h<2^64,[NW,H],∀(i:Nat)(m:Hp),(([Ke,i])→eK Pt H m→([NW,m])→Q (nV (2^i)) m)]
structure Def(K:aF)(mg:[a_])(x:Str)(L:a9)(f:ab)(v:bq)(V:[bd]):Prop where
 fn:kE K x x L f v
 mg:mg x=Z [dU]
 b:[Tq]
structure el(mg:[a_]):Prop where
 max:mg "max"=none
 min:mg "min"=none
 len:mg "len"=none
 any:mg "any"=none
 all:mg "all"=none
 list:mg [ry]=none
 tuple:mg "tuple"=none
 set:mg "set"=none
 sorted:mg "sorted"=none
 sum:mg "sum"=none
 range:mg "range"=none
 enumerate:mg [zJ]=none
 zip:mg "zip"=none
 reversed:mg [Nv]=none
 isinstance:mg "isinstance"=none
 ord:mg "ord"=none
 str:mg "str"=none
theorem ah.aT{H m:Hp}{d:ab}{o:HO}(s:ah H m)(h:H d=none):ah H (ag m d o):=λ b u e=>[cX,aX e h,s b u e]
theorem xO{c:Type}[[CW,c]]{Y:List (c×V)}{k:c}{v:V}{p:c×V}(h:p∈cD Y k v):p=(k,v)∨p∈Y:=by
 unfold cD at h;split at h
 ·obtain⟨q,D,e⟩:=[bE,h];split at e;·rename_i z;subst e;rw[4,z,[de]]
  ·rw[89,.inr D]
 ·rw[139,[d6,h],.inr h];·rw[14];rw[46,h]
theorem xP{c:Type}[[CW,c]]{Y:List (c×V)}{k:c}(v:V)(hn:[OT]):((cD Y k v).map (·.1)).Nodup:=by
 cases e:cn Y k with
  |none=>exact WI v hn e
  |some u=>
   unfold cD;have C:=wY e;rw[aI];·rw[cP];rw[87,(λ x:c×V=>x.1)∘λ kv:c×V=>[pH,kv.1,k,(kv.1,v),kv],λ x=>x.1,by funext x;simp only[Function.comp];split<;>rfl,hn]
   ·obtain⟨p,R,e⟩:=[bE,C];exact[YJ,e]
theorem X_{c:Type}[[CW,c]](Y:List (c×V))(k:c)(v:V):cD Y k v≠[]:=by intro z;rw[102,rF Y k k v,z,aI J];cases this
def rY(T:[ak])(Y:[jT]):Prop:=[OT]∧∀p∈Y,∃(i:Nat)(z:Int),p.1=[Ag,i]∧p.2=.int z∧[Ke,i]
theorem rY.len{T:[ak]}{Y:[jT]}(h:rY T Y)(W:∀h∈T,h≠0∧h<2^64):(Y.length≤64):=by have:=[UB,[wx,64,λ i=>([Ag,i]:Key)],h.1,by rw[186,A];obtain⟨i,z,e1,e2,g,j,K⟩:=h.2 p R;exact[Bk,i,[zt,Ec (W g j).2 K],e1.symm]];rw[aC,aC,jI]at this;rw[65]
theorem rY.put{T:[ak]}{Y:[jT]}(h:rY T Y){i:Nat}{z:Int}(K:[Ke,i]):rY T (cD Y [Ag,i] (.int z)):=by refine⟨xP _ h.1,[qp]⟩;rw[181];rw[2,[hJ,i,z,J,K],h.2 p R]
theorem Ed{l:[ak]}{i:Nat}{y:V}(h:(aJ l)[i]?=Z y):∃n,l[i]?=Z n∧y=nV n:=by rw[373]
theorem Al{l:[ak]}{i:Nat}{y:V}(h:(cb l)[i]?=Z y):∃n,l[i]?=Z n∧y=nV (2^n):=by unfold cb at h;rw[373]
theorem Ya{f fb c Pt:ab}{fd U:bq}(D:[PN,f,fd])(Db:[aaj,U])(B:el mg)(O:[Tu,fd]):aA P w K mg base aG 3 f fd ["hits"] (N6 K Pt):=by
 have nd:=NH.nd;have G:aA P w K mg base aG 1 fb U [[mj]] N4:=X9 Db.fn;refine N5 D.fn O.code NH [L1] [Y5];·obtain⟨a,T,rfl,_⟩:=h;rfl
 obtain⟨a,T,rfl,hS,hne,hh,hT,k⟩:=h;rw[78];have LX:w8 (gy aG P w K mg base ["hits","counts","hit","bit"] [OP] (aZ oN) f (.ref c) A outer s H E).jZ c Pt:=⟨J,O.hd,O.bm,O.pg⟩;rw[22,[NZ,1,gq J,wO,aK [Bh,pv 0,2,[Bh,[E4,G,[X8],Db.mg,Db.fn.kp,Db.b,2],3,nk hu (pv 1) (pv 3) [yw,Mr hu (pv 1) (pv 3) bu [ff,J,J,J]] J]] [oH,WT (i:=1) (cel:=0) hr J (pv 1) LX J B.max J J J [bB] J J J J (λ _ _ _ _ _ _=>J)]]];intro d r;have nPt:d≠Pt:=λ z=>by obtain⟨ps,h1,_⟩:=hT;subst z;rw[h1]at r;cases r
 rw[49,a,J,[eD,[oE,r].seq hS],[sK,iZ,a,aJ T,λ i m M=>∃(Y:[jT])(v2 C:[dE]),[cj,m=[[lA],[Ac],v2,C],ah H M,M d=Z (.dK Y),rY T Y,0<i→Y≠[]],⟨[],none,none,J,[oE,r],aw,⟨kj,[al]⟩,[al]⟩,λ i m M _⟨_,_,_,_,x,_⟩=>x.seq hS]]
 ·rintro i y m M hi⟨Y,v2,C,rfl,x,F,q,hn⟩;obtain⟨n,hn1,rfl⟩:=Ed hi;have I:=bt hn1;rw[49,n,J,(hh n I).2,λ l is hl hb hnz hle=>?_];have X:d≠l:=aX F hl;rw[120,l,aw,cb is,λ j m L=>∃(Y:[jT])(C:[dE]),[jS,m=[[lA],[Ac],Z (nV n),C],ah H L,L d=Z (.dK Y),L l=Z (.aj (cb is)),rY T Y,0<j→Y≠[]],⟨Y,C,J,(ah.aT x (x.free hl)),[cX,X,F],aw,q,[al]⟩,λ j m L _⟨_,_,_,_,_,e,_⟩=>(ax.of e)]
  ·rintro j y m L hj⟨Y,C,rfl,s3,N,S,q,hn⟩;obtain⟨b,hb1,rfl⟩:=Al hj;have W:[Ke,b]:=⟨n,I,hb b (bt hb1)⟩;have hz:∃z:Int,(cn Y [Ag,b]).getD (.int 0)=.int z:=by cases e:cn Y [Ag,b]with|none=>rw[0,0,J]|some u=>obtain⟨v,e1,e2⟩:=um (wY e);rw[e]at e1;cases e1;obtain⟨_,z,_,e3,_⟩:=q.2 _ e2;rw[0,z,e3]
   obtain⟨z,hz⟩:=hz;refine⟨_,J,d,J,.inl [eD,.inl N],_,J,_,[Ql,[vo,b],N],?_⟩;rw[13,hz,⟨z,1,J,J,_,J,_,J,d,_,J,[VG,[vo,b],N,q.len hh],?_⟩];exact⟨_,_,J,(ah.aT s3 r),aw,[cX,X.symm,S],q.put W,λ _=>X_ _ _ _⟩
  ·rintro m L⟨Y,C,rfl,s3,N,S,q,hn⟩;refine⟨Y,_,C,J,s3,N,q,λ _=>hn ?_⟩;unfold cb;rw[4,aC,[B2,hnz (hh n I).1]]
 ·rintro m M⟨Y,v2,C,rfl,x,F,q,hn⟩;have R:0<[fz,aJ,T]:=[nj,[B2,hne]];refine⟨_,J,d,Y,J,J,F,hn R,λ p hp=>?_,nPt,jh hT x,λ H' key v g t hm=>?_⟩;·obtain⟨_,z,_,e,_⟩:=q.2 p hp;rw[0,z,e]
  ·obtain⟨i,z,e1,e2,hb⟩:=q.2 _ hm;have e1:key=[Ag,i]:=e1;subst e1;exact k i H' hb (λ b o e nb=>g.old b o (x b o e) nb) t
end
end VP
end
section
namespace VP
open PySem L2
theorem N7{K:aF}{H:Hp}:∀l:[ak],ml K H (aJ l) [TZ]|[]=>.nil|n::l=>(.cons (.int _) (N7 l))
theorem shaped_ints(l:[ak]):jL (.list [TZ])=true:=by
 have h:[jb,o9 [TZ],pd [TZ]=0]:=by induction l with|nil=>rw[0,J,J]|cons n l T=>rw[bO,o9,pd,T.1,T.2];rw[0,J,J]
 unfold jL;rw[vE,PyData.depth,h.1,h.2];rfl
theorem ne_nil{K:aF}{H:Hp}{a b:ab}{l:[ak]}{Q:VK}(g:ax K H a (aJ l))(r:ax K H b [])(q:Q (.bl (! l.isEmpty)) H):L8 K [bi] (.ref b) H Q:=by rw[53,_,.list [],.aj g (N7 l),.aj r .nil,shaped_ints l,shaped_ints [],?_];cases l with|nil=>exact q|cons n l=>exact q
def kG(H:Hp)(r:ab)(I:[cQ])(D:[Do]):Prop:=[LO,r,.dK Y,∀i,D i→cn Y [Ag,i]=Z (nV (I i))]
theorem kG.keep{Pt:ab}{H m:Hp}{r:ab}{I:[cQ]}{D:[Do]}{W:Pos}{q:Str}(R:kG H r I D)(t:[zM,H])(k:[LT]):kG m r I D:=by obtain⟨Y,g,a⟩:=R;obtain⟨V,l,_⟩:=t;rw[1,Y,k r _ g [oB,g,l],a]
theorem kG.same{H m:Hp}{r:ab}{I:[cQ]}{D:[Do]}(R:kG H r I D)(k:ah H m):kG m r I D:=by obtain⟨Y,g,a⟩:=R;rw[1,Y,k r _ g,a]
def Ee(I:[cQ])(D:[Do])(h:Nat):Prop:=h≠0∧h<2^64∧∀i,h.testBit i=true→D i∧[K8,I i,i]
def Ef:[bd]:=["hits","runs","bits","bit","run","hit"]
theorem N8:bQ Ef [tN] (aZ uz):=[bV]
def N9(K:aF)(Pt:ab):Sp:=[adJ,kG H r I D,∀(l:ab)(S:[ak])(m:Hp),[u8,l,m l=Z (.aj (cb S)),S.length≤64,[cI,∀s∈S,[Ke,s],[Ps,T,[lv,S]],[LT],[NW,m],Q [lf] m]]]
theorem xQ(I:[cQ])(S:[ak])(b:Nat):[lv,S++[b]]=[lv,S]|||I b:=by unfold Vs.cT;rw[qz];rfl
theorem Eg{a b c:Nat}:a&&&(b|||c)=0↔a&&&b=0∧a&&&c=0:=by
 rw[32,Nat.and_or_distrib_left];·intro h;rw[0,Nat.eq_zero_of_le_zero (h▸Nat.left_le_or),Nat.eq_zero_of_le_zero (h▸Nat.right_le_or)]
 ·rintro⟨g,r⟩;rw[g,r];rfl
def oQ(r:Nat):[ii,V]|.int z=>[aK,dQ z [ar,r]=0]|_=>false
theorem filter_free(r:Nat)(l:[ak]):((aJ l).filter (oQ r)).map id=aJ (l.filter [PP,r]):=by
 induction l with
  |nil=>rfl
  |cons n l T=>
   have e:oQ r (nV n)=[aK,n&&&r=0]:=by show([aK,dQ [cY] [ar,r]=0]=_);rw[mu,dH];simp
   show((nV n::aJ l).filter (oQ r)).map id=_;rw[qA,qA,e];split;·rw[bO,T];rfl
   ·exact T
theorem eK.free{Pt:ab}{H m:Hp}{p:ab}{W:Pos}{q:Str}(k:[LT])(t:[zM,m])(h:m p=none):H p=none:=by
 obtain⟨V,l,_⟩:=t;cases e:H p with
  |none=>rfl
  |some o=>
   rw[44,p,Pt];·subst z;rw[43,l]
   ·rw[43,k p o e z]
theorem eK.ag{Pt:ab}{H m:Hp}{p:ab}{o:HO}(k:[LT])(h:H p=none):eK Pt H (ag m p o):=λ b u e n=>[cX,aX e h,k b u e n]
theorem eK.same{Pt:ab}{H m:Hp}(s:ah H m):[LT]:=λ b o e _=>s b o e
theorem Eh{H:Hp}{Pt p:ab}{W:Pos}{q:Str}{o:HO}(t:[zM,H])(h:H p=none):[zM,ag H p o]:=jh t [oE,h]
theorem Yb{H:Hp}{Pt p:ab}{W:Pos}{q:Str}{N G:[aw]}(t:[zM,H])(h:H p=Z (.aj N)):[zM,ag H p (.aj G)]:=by rw[222,[oB,g,h],[oB,b,h]]
theorem Ei(z:Int):[zW,(V.int z)=(V.int 0),z=0]:=by rw[mh,dH];simp
section
variable{P:aY}{w:aU}{K:aF}{mg:[a_]}{base:aE}
theorem Yc{f fc fb c Pt:ab}{fd N fdb:bq}(D0:[iW,[TD],uz,fd,[tN]])(D:[PN,fc,N])(Db:[aaj,fdb])(B:el mg)(LB:[Tu,N]):aA P w K mg base aG 4 f fd [tN] (N9 K Pt):=by
 have nd:Ef.Nodup:=N8.nd;have G:aA P w K mg base aG 3 fc N ["hits"] (N6 K Pt):=Ya D Db B LB;rw[57,D0.fn.ok,N8];·obtain⟨a,r,T,I,Dm,rfl,_⟩:=h;rfl
 obtain⟨a,r,T,I,Dm,rfl,hS,hlen,hR,W,hT,k⟩:=h;rw[78];rw[48,[Dz,2,fz aB,t9 dX [vZ,V4 hr.units,0,fz aB] [we,3,[E4,G,hr,D.mg,D.fn.kp,D.b,0],j0 [Uv,pv 2,3],[NZ,4,gq J,nj hu (pv 1) (pv 3) (λ _ _=>J),aN (ug (i:=0) (own:=[("hit",5)]) J nd J J [Nr] (dj (pv 0)) [Nz,Ef,uz,"hit",5] [KS,5] [ON,wF,[wW,e_,cj lz (pv 5) (pv 4),bu]] [ON,pv,5])]]],[Ei,λ l hl=>?_]];have nla:l≠a:=[vl,hS,hl];refine CZ (λ σ m=>∃(M:ab)(j S:[ak])(v3 v4 v5:[dE]),[cj,σ=[[b8,M],[b8,r],[ui],v3,v4,v5],[LT],[NW,m],m l=Z (.aj (cb S)),[lk,m M=Z (.aj (aJ j)),∀h∈j,h∈T∧h&&&[lv,S]=0,∀h∈T,h∈j∨h&&&[lv,S]≠0,S.Nodup,∀s∈S,[Ke,s],j.length≤aQ,M≠l]]) (λ σ m=>match σ with|[lA]::_=>[Y0,m a]|_=>0) ⟨a,T,[],none,none,none,J,(eK.refl Pt H).ag hl,Eh hT hl,aw,[cX,nla.symm,hS],λ h W=>⟨W,[bn,Vs.cT]⟩,λ h W=>.inl W,kj,[al],hlen,nla.symm⟩ ?_ ?_
 ·rintro σ m⟨M,j,S,v3,v4,v5,rfl,kp,tb,hl',C,b,h2,hnd,h3,hle,nal⟩;have h64:[Nd]:=by rw[50,Vs.jT (r:=[rc,64]) hnd λ x hx=>by obtain⟨h,L,hb⟩:=h3 x hx;exact[zt,Ec (W h L).2.1 hb],jI]
  rw[18,_,J,b7 _,λ p hp=>?_];have fp:=kp.free tb hp;have nlp:l≠p:=aX hl' hp;have nap:M≠p:=aX C hp;have O:ag m p (.aj []) l=Z (.aj (cb S)):=[cX,nlp,hl'];have F:ag m p (.aj []) M=Z (.aj (aJ j)):=[cX,nap,C];have kp1:eK Pt H [ni,m,p]:=kp.ag fp;have Y:[NW,[ni,m,p]]:=Eh tb hp;refine ne_nil (ax.of F) (ax.of aw) [Cp];by_cases o:j=[]
  ·subst o;refine[zj,k l S _ hl O h64 h3 (λ h L=>?_) kp1 Y];rcases h2 h L with z|z;·cases z
   ·exact z
  ·have ee:(! j.isEmpty)=true:=by cases j with|nil=>rw[8,J,o]|cons _ _=>rfl
   rw[13,ee,aV ⟨_,J,M,j,J,(ax.of F),o,λ h L=>⟨(W h (b h L).1).1,(W h (b h L).1).2.1⟩,Y,λ i H2 hi kp2 tb2=>?_⟩];obtain⟨g,hg,hb⟩:=hi;obtain⟨Di,ri⟩:=(W g (b g hg).1).2.2 i hb;obtain⟨ps1,tt1,_⟩:=id Y;have t:=kp2 l _ O [oB,O,tt1];have ha2:=kp2 M _ F [oB,F,tt1];have R:=kp1.trans kp2;obtain⟨kvs,hr2,hval⟩:=hR.keep hT R;have nrl:r≠l:=[oB,hr2,t];have hget:eW [Vo] r (nV (2^i)) (Z (nV (I i))):=by rw[50,eW.k (H:=[Vo]) (k:=[Ag,i]) [cX,nrl,hr2],hval i Di]
   have hSq:ax K [Vo] M (aJ j):=(ax.of [cX,nal,ha2]);refine⟨_,J,[C_,t],_,J,l,_,_,J,J,t,?_,_,J,_,J,r,_,J,hget,_,J,M,J,[eD,hSq],λ Dn u=>[aeI,I i,hSq,u,hle]⟩;·unfold cb;rw[4,aC,eR h64 [bj]]
   ·rw[262,⟨J,_,J,_,J,_,_,J,J,J,_,J,?_⟩,I i,oQ (I i) (nV n)]
   ·rw[filter_free];have X:l≠Dn:=aX aw u;have hDn2:H2 Dn=none:=by rw[ar X.symm]at u;exact u
    have gb:¬(g&&&I i=0):=[Pv,i,hb,ri];refine[rp,⟨Dn,j.filter [PP,I i],S++[i],_,_,_,J,?_,?_,?_,aw,?_,?_,?_,?_,?_,X.symm⟩];rw[2,(R.ag hl).ag (R.free tb2 hDn2),Eh (Yb tb2 t) u];·rw[ar X,aw];unfold cb;rw[cH];rfl
    ·intro h hm;have U:=[FB,hm];rw[55,[rp,(b h U.1).1],xQ,Eg.mpr ⟨(b h U.1).2,lR U.2⟩]
    ·intro h hm;rw[xQ];rcases h2 h hm with z|z;·by_cases y:h&&&I i=0;rw[73,[Rc,z,bK y],λ q=>y (Eg.mp q).2]
     ·exact .inr λ q=>z (Eg.mp q).1
    ·refine uk hnd [wP];obtain⟨h',L,hb'⟩:=h3 i z;rw[8,(b g hg).2,[Pv,i,hb,(Vs.tY I S i).mpr ⟨i,z,ri⟩]]
    ·intro s' hs';rcases[d6,hs']with z|z;·exact h3 s' z
     ·simp at z;subst z;rw[1,g,(b g hg).1,hb]
    ·exact bf (nO _ _) hle
    ·show[Y0,(ag [Vo] Dn (.aj (aJ (j.filter [PP,I i])))) Dn]<[Y0,m M];rw[aw,C];show[fz,aJ,_]<[fz,aJ,_];rw[aC,aC];refine Nat.lt_of_le_of_ne (nO _ _) [wP];rw[51,(List.length_filter_eq_length_iff.mp z) g hg,gb (lR this)]
 ·rintro σ m Q Q' hq⟨v,b,h2,h3⟩;rw[18,v,b,h2,λ p hp=>?_];obtain⟨d,e,a1,a2,a3,a4,kk,ek,q⟩:=h3 p hp;exact⟨d,e,a1,a2,a3,a4,kk,ek,hq _ _ q⟩
end
end VP
end
section
namespace VP
open PySem L2
theorem N_{K:aF}{a:ab}{xs:[aw]}{g:TG}{F:TS}{D:Ends}{w:St}{H:Hp}(P:[Be])(I:P 0 w H)(X:[YH])(G:∀i x T w H,(xs[i]?=Z x→H T=none→P i w H→[Xs,.ref T,[j0,H,T,[nV i,x]],P (i+1)]))(d:[XJ])(c:[Og,xs]):[TM,wR K a,∀f b,[Mj,f,b],∀x b,(wR K a).j1 i H x b→[Xs,x,b,N]]:=by
 rw[137,xs.length];have q:=X i w H O p;by_cases s:[Us];·refine[rq,⟨xs,xs[i],q,[bn,s],c _ (BC s)⟩,P (i+1),λ f b E=>[T_],λ v b y=>?_];obtain⟨T,x,e,Y,e2,y⟩:=y;subst e;subst e2;exact G i x T w _ (y xs q) Y p
 ·have e:i=xs.length:=[ac];rw[145,[WP],d]
theorem Oa(N:[aw])(k:Nat):(dB N (Z [ar,k]) none)=N.drop k:=by
 unfold dB;rw[HT.wx,HT.wu,sO [e9,lQ]];rcases Nat.le_total k N.length with h|h;·rw[yJ h]
 ·rw[Jd h,IH (ba _),IH h]
theorem Yd(S:[ak])(k:Nat):(cb S).drop k=cb (S.drop k):=by unfold cb;rw[SD]
theorem Ye(a b:[ak]):cb a++cb b=cb (a++b):=by unfold cb;rw[cH]
theorem ov(a:[ak]):[b9,cb a,a.length]:=by unfold cb;rw[aC]
theorem Yf(S:[ak]):[Og,cb S]:=[adf]
theorem Yg(c:[aV]):[Og,[Ig]]:=[adf]
def Ej:[bd]:=["bits","hits","runs","kept","index","bit","others","other","hit"]
theorem Ob:bQ Ej [MH] (aZ uC):=[bV]
def Oc:Sp:=λ U H Q _=>∃(l a r:ab)(S T:[ak])(I:[cQ])(D:[Do]),[cj,U=[[lf],[bi],.ref r],H l=Z (.aj (cb S)),[Nd],H a=Z (.aj (aJ T)),[cj,T.length≤aQ,kG H r I D,∀s∈S,D s,[Ps,T,[lv,S]],∀(N:ab)(ks:[ak])(m:Hp),[u8,N,m N=Z (.aj (cb ks)),∀s∈ks,s∈S,([Ps,T,[lv,ks]])→(∀s∈ks,∃h∈T,∀d∈ks,d≠s→h&&&I d=0)→ah H m→Q (.ref N) m]]]
theorem Yh{I:[cQ]}{S:[ak]}{h:Nat}:h&&&[lv,S]=0↔∀s∈S,h&&&I s=0:=by
 rw[5];·intro z s G;apply kT;intro y;obtain⟨x,a,b⟩:=Vs.jU.mp y;rw[8,z,[Pv,x,a,(Vs.tY I S x).mpr ⟨s,G,b⟩]]
 ·intro z;apply kT;intro y;obtain⟨x,a,b⟩:=Vs.jU.mp y;obtain⟨s,G,c⟩:=(Vs.tY I S x).mp b;rw[8,z s G,[Pv,x,a,c]]
def Od(r:Nat):V→V|.int z=>[Ey,dQ z [ar,r]=0]|_=>.bh
theorem Yi(r:Nat)(l:[ak]):((aJ l).filter λ _=>true).map (Od r)=[Fh,l.map [PP,r]]:=by
 rw[[CB],cP,cP];refine iD λ n _=>?_
 show V.bl [aK,dQ [cY] [ar,r]=0]=V.bl [aK,n&&&r=0];congr 1;rw[mu,dH];simp
section
variable{P:aY}{w:aU}{K:aF}{mg:[a_]}{base:aE}
theorem Ek{X:Cx}:zG X .BitOr (jx [B_,pk i j]):=λ B s w H x y v u Q I a S h=>UZ U4 I a S h
theorem El{H:Hp}{r:ab}{I:[cQ]}{D:[Do]}(R:kG H r I D){i:Nat}(O:D i):eW H r (nV (2^i)) (Z (nV (I i))):=by obtain⟨Y,g,a⟩:=R;rw[50,[Ql,[vo,i],g],a i O]
theorem Yj{f:ab}{fd:bq}(D0:[iW,"needed",uC,fd,[MH]])(B:el mg):aA P w K mg base aG 1 f fd [MH] Oc:=by
 have nd:Ej.Nodup:=Ob.nd;rw[57,D0.fn.ok,Ob];·obtain⟨l,a,r,S,v,I,Dm,rfl,_⟩:=h;rfl
 obtain⟨l,a,r,S,v,I,Dm,rfl,hL,U,hA,hlen,hR,hD,hcov,k⟩:=h;rw[78];rw[48,[Dz,3,fz aB,[UA,Mz J B.enumerate [jC,0],4,5,[NZ,6,gq J,bu,aK [Bh,cj wC (pv 3) (oH wz (pv 0) (nh [yw,pv 4]) pQ),7,[aaG,6,pv 2,pv 7]] (aN [J2,[aaN,[JZ,"hit",8,pv 1,Ej,uC,lA e_ (cj lz (pv 8) (pv 6)) bu (ck _)]],j0 [Uv,pv 3,5]])]]],[Ei,λ O X=>?_]];have s0:ah H [ni,H,O]:=[oE,X];refine⟨_,J,l,_,J,[nh,s0,hL],N_ (K:=K) (a:=l) (xs:=cb S) (λ i c m=>∃(ks:[ak])(v4 v5 v6 F v8:[dE]),[lk,c=[[ui],[lA],[b8,r],[b8,O],v4,v5,v6,F,v8],ah H m,m O=Z (.aj (cb ks)),∀s∈ks,s∈S,ks.length≤i,[Ps,v,[lv,ks++S.drop i]],∀s∈ks,∃h∈v,∀g∈ks++S.drop i,g≠s→h&&&I g=0]) ⟨[],none,none,none,none,none,J,s0,aw,[al],ba _,[aB,hcov],[al]⟩ (λ i c m _⟨_,_,_,_,_,_,_,g,_⟩=>[nh,g,hL]) ?_ ?_ (Yf S)⟩
 ·rintro i y T c d hi hT⟨ks,v4,v5,v6,F,v8,rfl,s1,N,C,L,c1,c2⟩;obtain⟨b,hb,rfl⟩:=Al hi;have hib:i<S.length:=[d0,hb];have edrop:S.drop i=b::S.drop (i+1):=by rw[IA hib];congr 1;exact[J0,hb].2
  have nlT:O≠T:=aX N hT;have s2:ah H [UG,nV (2^b)]:=(ah.aT s1 (s1.free hT));have D:ag d T (.tup [nV i,nV (2^b)]) O=Z (.aj (cb ks)):=[cX,nlT,N];rw[3,[Ue,T,aw],⟨_,J,_,J,_,J,⟨_,_,J,J,_,J,l,_,J,[nh,s2,hL],λ p R=>⟨O,p,cb ks,[T9],J,J,?_,aw,?_,λ u hp2=>?_⟩⟩⟩];rw[11,ar (aX D R),D];·have e1:=ov ks;have e2:=Dk (cb S) (Z ([lx]+1)) none;rw[ov]at e2;rw[4,e1,bf (Su (bf L (oa (dG hib U))) (bf e2 U)) [bj]]
  ·have eL:cb ks++[T9]=cb (ks++S.drop (i+1)):=by rw[47,([lx]+1)=[aN,i+1]];rw[this,Oa,Yd,Ye]
   have eL':(λ i j=>(V.int (i+j))) [lx] 1=(V.int ([lx]+1)):=J;generalize Y:ks++S.drop (i+1)=rest at*;have hDr:∀s∈rest,Dm s:=λ s G=>by rw[←Y]at G;rw[131,[d6,G],hD s (C s z),hD s (RP z)]
   have hp1:d p=none:=by rw[50,R,ar (λ z=>by subst z;rw[aw]at R;cases R)]
   have s3:=ah.aT (o:=.aj [T9]) s2 (s2.free R);have s4:=ah.aT (o:=.aj (cb rest)) s3 (s3.free hp2);have np2:O≠u:=aX [cX,aX D R,D] hp2;have hk4:ag (ag [UG,nV (2^b)] p (.aj [T9])) u (.aj (cb rest)) O=Z (.aj (cb ks)):=by rw[12,ar np2,ar (aX D R),D]
   show∃a,(V.ref u)=(V.ref a)∧_;rw[[db,cb ks++(dB (cb S) (Z ((λ i j=>i+j) [lx] 1)) none),cb rest,eL]];generalize hH4:ag (ag [UG,nV (2^b)] p (.aj [T9])) u (.aj (cb rest))=H4 at*;have hp4:H4 u=Z (.aj (cb rest)):=[cm,hH4,aw];rw[120,u,hp4,cb rest,λ j c m=>∃F:[dE],c=[[ui],[lA],[b8,r],[b8,O],Z (nV i),Z (nV (2^b)),Z (nV [lv,rest.take j]),F,v8]∧m=H4,[tJ,F,J],λ j c m _⟨_,_,e⟩=>[ap,e,ax.of hp4]]
   ·rintro j y c m hj⟨F,rfl,rfl⟩;obtain⟨t,ht,rfl⟩:=Al hj;rw[3,⟨_,J,_,J,_,J,r,_,J,El (hR.same s4) (hDr t (bt ht)),_,_,J,J,?_⟩,[tJ,Z (nV (2^t)),?_]];have e:pk [Qk,rest.take j] [aN,I t]=[Qk,rest.take (j+1)]:=by rw[Ak,fH,ht];show _=[Qk,rest.take j++[t]];rw[xQ]
    show[_,_,_,_,_,_,Z (V.int (pk [Qk,rest.take j] [aN,I t])),_,_]=_;rw[e]
   ·rintro c m⟨F,rfl,rfl⟩;rw[ov,fZ];have hA4:=s4 _ _ hA;rw[49,a,J,[pD,hA4],λ Dn M=>[CD,Od [lv,rest],ax.of hA4,M,[nj,hlen],λ x H5 Q1 Q2 hx _ q1 q2=>?_]];·rw[185,hx];refine[md,aV (B:=Q2 H5) ?_];refine⟨_,J,_,J,_,_,J,J,J,?_⟩;have:=q1 J;rw[25,Q1 [Ey,(V.int (dQ [cY] [Qk,rest]))=(V.int 0)] _,Ei,this]
    ·rw[Yi];have s5:=ah.aT (o:=.aj [Fh,[aaR]]) s4 (s4.free M);have nD:O≠Dn:=aX hk4 M;have hk5:ag m Dn (.aj [Fh,[aaR]]) O=Z (.aj (cb ks)):=[cX,nD,hk4];rw[53,Dn,_,J,ax.of aw,_,J,?_];have edr:ks++S.drop i=ks++b::S.drop (i+1):=by rw[edrop]
     cases ha:[aaR].any id with
      |true=>
       obtain⟨z,hz,ez⟩:=List.any_eq_true.mp ha;obtain⟨h,hh,e⟩:=[bE,hz];have e:([aK,h&&&[lv,rest]=0]=true):=[ap,e,ez];have hz:=Yh.mp (lR e);rw[33,⟨_,J,[C_,hk5],_,J,O,_,_,J,J,hk5,?_,?_⟩];·rw[4,ov,eR (bf L (bf (oa hib) U)) [bj]]
       ·refine⟨ks++[b],_,_,_,_,_,J,(ah.aT s5 X),?_,?_,?_,?_,?_⟩;·rw[aw];unfold cb;rw[cH];rfl
        ·intro s G;rcases[d6,G]with y|y;·exact C s y
         ·simp at y;subst y;exact bt hb
        ·rw[dh];rw[17]
        ·rw[gZ];show[Ps,v,[lv,ks++b::S.drop (i+1)]];rw[23,edr,c1]
        ·rw[gZ];show∀s∈ks++[b],∃h∈v,∀g∈ks++b::S.drop (i+1),g≠s→h&&&I g=0;intro s G;rcases[d6,G]with y|y;·rw[23,edr,c2 s y]
         ·simp at y;subst y;rw[20,h,hh,λ g W ne=>hz g ?_];rw[←Y];rcases[d6,W]with x|x;·exact lP _ x
          ·rcases[d9,x]with x|x;rw[2,[gh,x,ne],iQ _ x]
      |false=>
       refine a_ ⟨ks,_,_,_,_,_,J,s5,hk5,C,[ac],?_,?_⟩;·intro h hh z;rw[Y]at z;rw[51,(List.any_eq_false.mp ha) [aK,h&&&[lv,rest]=0] [iI,h,hh],this (bK z)]
       ·intro s G;obtain⟨h,hh,q⟩:=c2 s G;rw[20,h,hh,λ g W=>q g ?_];rw[edr];rcases[d6,W]with x|x;rw[2,lP _ x,iQ _ (cp _ x)]
 ·rintro c d⟨ks,v4,v5,v6,F,v8,rfl,s1,N,C,L,c1,c2⟩;have e:ks++S.drop [fz,cb,S]=ks:=by rw[ov,List.drop_length,qD]
  rw[e]at c1 c2;rw[36,J,k O ks d X N C c1 c2 s1]
end
end VP
end
section
namespace VP
open PySem L2
def xR(Pt:ab):Sp:=[adJ,kG H r I D,∀(B:Nat)(m:Hp),(Vs.Cz I T B→eK Pt H m→([NW,m])→Q (nV B) m)]
section
variable{P:aY}{w:aU}{K:aF}{mg:[a_]}{base:aE}
theorem Yk{f f1 f2 f3 fc fb c Pt:ab}{fd fd1 fd2 fd3 R fdb:bq}(D0:[iW,[Nm],qb,fd,[tN]])(D1:[eY,[Po],xq,f1,fd1,[[mj]]])(D2:[eY,[TD],uz,f2,fd2,[tN]])(D3:[eY,"needed",uC,f3,fd3,[MH]])(D:[PN,fc,R])(Db:[aaj,fdb])(B:el mg)(LB:[Tu,R]):aA P w K mg base aG 5 f fd [tN] (xR Pt):=by
 have nd:=NG.nd;have G1:aA P w K mg base aG 1 f1 fd1 [[mj]] N3:=X8 D1.fn;have G2:aA P w K mg base aG 4 f2 fd2 [tN] (N9 K Pt):=Yc D2 D Db B LB;have G3:aA P w K mg base aG 1 f3 fd3 [MH] Oc:=Yj D3 B;rw[57,D0.fn.ok,NG];·obtain⟨a,r,T,I,Dm,rfl,_⟩:=h;rfl
 obtain⟨a,r,T,I,Dm,rfl,hA,p,hR,W,hT,k⟩:=h;rw[78];rw[22,[NZ,2,gq J,bu,aK [Bh,pv 0,3,[J2,iH [aa9,[X8],3],[aaG,2,pv 1,pv 3]]] (aK (ug (i:=4) (own:=[("hit",3)]) J nd J J [Nr] (dj (pv 0)) [Nz,[ada],qb,"hit",3] [KS,3] [ON,wF,[wW,e_,cj lz (pv 3) (pv 2),bu]] [ON,pv,3]) [DB,[Bh,[DE,G3,[X8],D3.mg,D3.fn.kp,D3.b,[DE,G2,hr,D2.mg,D2.fn.kp,D2.b,pv 4,[jC,1]],[uj,4,pv 1]],5,[aaG,2,pv 1,pv 5]],pv 2])]];rw[49,a,J,[pD,hA],[sK,iZ,a,aJ T,λ i d m=>∃(u:[ak])(v:[dE]),d=[[lA],[b8,r],Z (nV [lv,u]),v,none,none]∧m=H∧∀s∈u,2^s∈T,[hJ,[],none,J,[al]],λ i d m _⟨_,_,_,e,_⟩=>[ap,e,ax.of hA]]]
 ·rintro i y d m hi⟨u,v,rfl,rfl,h1⟩;obtain⟨n,hn,rfl⟩:=Ed hi;have N:=bt hn;have aH:=W n N;refine⟨_,J,n,J,Nat.pos_of_ne_zero aH.1,_,J,?_⟩;rw[44,n&&&(n-1),0]
  ·rw[bK z];obtain⟨b,eb,o⟩:=Vs.Uh aH.1 z;have g:=El hR (aH.2.2 b o).1;rw[←eb]at g;rw[33,⟨_,J,_,J,_,J,r,_,J,g,_,_,J,J,u++[b],Z (nV n),?_,J,?_⟩];·show[_,_,Z (V.int (pk [Qk,u] [aN,I b])),_,_,_]=_;rw[Ak,xQ]
   ·intro s G;rw[113,[d6,G],h1 s q];·simp at q;subst q;rw[23,eb,N]
  rw[11,bW z,a_ [hJ,u,_,J,h1]]
 ·rintro d m⟨u,v,rfl,rfl,h1⟩;rw[49,a,J,[pD,hA],λ F L=>[aeI,[lv,u],ax.of hA,L,p]];·rw[262,⟨J,_,J,_,J,_,_,J,J,J,_,J,?_⟩,[lv,u],oQ [lv,u] (nV n)]
  ·rw[filter_free];generalize X:(T.filter [PP,[lv,u]])=left;have M:∀h∈left,h∈T∧h&&&[lv,u]=0:=λ h N=>by rw[←X]at N;have:=[FB,N];rw[0,this.1,lR this.2]
   have C:left.length≤aQ:=[cm,X,bf (nO _ _) p];have s1:ah m (ag m F (.aj (aJ left))):=[cE,m,L];refine⟨_,J,_,J,F,r,left,I,Dm,J,aw,C,hR.same s1,λ h N=>W h (M h N).1,jh hT s1,λ l bs H2 hl hl2 h64 b1 b2 kp tb=>?_⟩;have hT1:=jh hT s1;obtain⟨ps,tt,_⟩:=id hT1;have hD2:H2 F=Z (.aj (aJ left)):=kp F _ aw [oB,aw,tt];have U:eK Pt m H2:=((eK.same s1).trans kp);refine⟨_,J,_,J,l,F,r,bs,left,I,Dm,J,hl2,h64,hD2,C,hR.keep hT U,λ s G=>?_,b2,λ l' ks H3 hl' S k1 k2 k3 s3=>?_⟩;·obtain⟨h,N,o⟩:=b1 s G;exact((W h (M h N).1).2.2 s o).1
   ·have Y:eK Pt m H3:=U.trans (eK.same s3);rw[120,l',S,cb ks,λ j d m=>∃v5:[dE],d=[[lA],[b8,r],Z (nV ([lv,u]|||[lv,ks.take j])),v,[b8,F],v5]∧m=H3,[tJ,none,?_],λ j d m _⟨_,_,e⟩=>[ap,e,ax.of S]];·show _=[[im,a],[im,r],Z (nV ([lv,u]|||0)),v,[im,F],none];rw[Nat.or_zero];rfl
    ·rintro j y d H4 hj⟨v5,rfl,rfl⟩;obtain⟨t,ht,rfl⟩:=Al hj;have htb:=k1 t (bt ht);obtain⟨h,N,o⟩:=b1 t htb;refine⟨_,J,_,J,_,J,r,_,J,El (hR.keep hT Y) ((W h (M h N).1).2.2 t o).1,_,_,J,J,Z (nV (2^t)),?_,J⟩;show[_,_,Z (V.int (pk [aN,[lv,u]|||[lv,ks.take j]] [aN,I t])),_,_,_]=_;have e:ks.take (j+1)=ks.take j++[t]:=[jh,fH,ht];rw[Ak,e,xQ,Nat.or_assoc]
    ·rintro d H4⟨v5,rfl,rfl⟩;rw[ov,fZ];refine[dL,k _ _ (Vs.Ui (S1:=u) (S2:=ks) (λ h N s G=>((W h N).2.2 s G).2) h1 (λ s G=>?_) (λ s G=>?_) (λ h N z=>?_) (λ x=>Vs.zl _ _ x)) Y (jh tb s3)]
     ·obtain⟨h,N,q⟩:=k3 s G;rw[18,h,(M h N).1,(M h N).2,λ x s' hx hs' O=>?_];rw[30,s',s];·rw[23,e,O]
      ·rw[8,q s' hs' e,[Pv,x,hx,O]]
     ·obtain⟨h,N,q⟩:=b1 s (k1 s G);rw[1,h,(M h N).1,q]
     ·exact k2 h [cm,X,[Rc,N,bK z]]
end
end VP
end
section
namespace VP
open PySem L2
theorem cY{names:[bd]}{f:Str}(h:f∉names):∀a:[aw],[yi,a].lookup f=none:=by induction names with|nil=>intro a;rfl|cons n names T=>intro a;cases a with|nil=>rfl|cons v a=>have g:f≠n:=(λ z=>h [ap,z,cq]);rw[mM,nY];have:[aX,f==n]:=[Mv,g];rw[4,this,T (λ z=>h (cp _ z)) a]
theorem lk{names:[bd]}(nd:names.Nodup){i:Nat}{f:Str}(h:names[i]?=Z f)(a:[aw]):[yi,a].lookup f=a[i]?:=by induction names generalizing i a with|nil=>rw[14]|cons n names T=>have W:=[Av,nd];cases a with|nil=>simp|cons v a=>rw[mM,nY];cases i with|zero=>rw[95];simp|succ i=>rw[212,i,f≠n,[cm,z,bt S]];rw[52,[aX,f==n],[Mv,g]];simpa using T W.2 S a
theorem Yl{names:[bd]}(nd:names.Nodup){f:Str}{v:V}{a:[aw]}(h:names[a.length]?=Z f):fP f v [yi,a]=[yi,a++[v]]:=by induction names generalizing a with|nil=>rw[14]|cons n names T=>have W:=[Av,nd];cases a with|nil=>rw[95];simp[fP]|cons u a=>rw[212,a.length,¬n=f,[ap,z,bt S]];rw[mM,nW,mM];unfold fP;rw[aD g,T W.2 S]
theorem Ym{names:[bd]}(nd:names.Nodup){f:Str}{v:V}{a:[aw]}{i:Nat}(h:names[i]?=Z f)(O:i<a.length):fP f v [yi,a]=[yi,a.set i v]:=by induction names generalizing a i with|nil=>rw[14]|cons n names T=>have W:=[Av,nd];cases a with|nil=>simp at O|cons u a=>rw[mM];cases i with|zero=>rw[95];unfold fP;rw[aI J];rfl|succ i=>rw[212,i,¬n=f,[ap,z,bt S]];unfold fP;rw[aD g,T W.2 S (by rw[94])];rfl
theorem Oe(names:[bd])(a:[aw])(h:names.length≤100):[fz,names.zip,a]<1000:=[e9,yI]
structure bU(K:aF)(mg:[a_])(x:Str)(C:ab)(names:[bd]):Prop where
 cl:j2 K C
 na:∀(i:Nat)(f:Str),names[i]?=Z f→oF K C f
 mg:mg x=Z [gv]
 nd:names.Nodup
 fx:names.length≤100
structure bI(K:aF)(x q:Str)(m:Str)(L:a9)(C f:ab)(v:bq)(V:[bd]):Prop where
 fn:kE K x q L f v
 me:zR K C m f
 b:[Tq]
structure iM(K:aF)(q:Str)(L:a9)(C f:ab)(v:bq)(V:[bd]):Prop where
 fn:kE K [AC] q L f v
 ma:Mk K C f
 b:[Tq]
def fR:[bd]:=["numbers","shape","size","lowest","highest","bits"]
def oR(X sh:ab)(k:Vs.Kd):[aw]:=[.ref X,.ref sh,nV k.size,nV [Ep],nV (2^([rh]-1)),nV [wF]]
section
variable{P:aY}{w:aU}{K:aF}{mg:[a_]}{base:aE}
theorem dU{x f:Str}{C p W:ab}{names:[bd]}{vals:[aw]}{y:V}{i:Nat}{D:Ends}{w:St}{b:Hp}(T:bU K mg x C names)(O:w[i]?=Z [Cq])(F:names[vals.length]?=Z f)(R:b p=[gj,C,[yi,vals]])(q:D.nx w (ag b p (.ins C W [yi,vals++[y]]))):cv i w b [ZI,y]:=⟨_,O,p,C,W,_,J,R,T.cl,T.na _ _ F,Oe _ _ T.fx,[ap,Yl T.nd F,q]⟩
theorem Yn{x f:Str}{C p W:ab}{names:[bd]}{vals:[aw]}{y:V}{i j:Nat}{D:Ends}{w:St}{b:Hp}(T:bU K mg x C names)(O:w[i]?=Z [Cq])(F:names[j]?=Z f)(U:j<vals.length)(R:b p=[gj,C,[yi,vals]])(q:D.nx w (ag b p (.ins C W [yi,vals.set j y]))):cv i w b [ZI,y]:=⟨_,O,p,C,W,_,J,R,T.cl,T.na _ _ F,Oe _ _ T.fx,[ap,Ym T.nd F U,q]⟩
theorem iw{x f:Str}{C p W:ab}{names:[bd]}{a:[aw]}{v:V}{i j:Nat}{w:St}{H:Hp}{Q:VK}(T:bU K mg x C names)(O:w[i]?=Z [Cq])(F:names[j]?=Z f)(R:[LM,[yi,a]])(y:a[j]?=Z v)(q:Q v H):nc K (cv i) f w H Q:=⟨_,O,p,C,W,_,v,J,R,T.cl,T.na _ _ F,[ap,lk T.nd F,y],q⟩
def Of(C:ab):Sp:=λ U H Q _=>∃(p W X sh:ab)(k:Vs.Kd),[cj,U=[[iv],.ref X,.ref sh,nV k.size,nV k.place,nV k.count],[LM,[]],1≤k.count,[rh]≤64,Q .bh (ag H p (.ins C W (fR.zip (oR X sh k))))]
theorem Og(n:Nat):[yx]*2^([cY].toNat)=[vo,n]:=[al]
theorem Yo{f C:ab}{v:bq}(I:iM K [WL] xk C f v [KG])(T:[B9,C]):aA P w K mg base aG 1 f v [KG] (Of C):=by
 rw[112,XI,[abn]];·obtain⟨p,W,X,sh,k,rfl,_⟩:=h;rfl
 obtain⟨p,W,X,sh,k,rfl,R,g,r,q⟩:=h;rw[24,_,aK [DD,1] (aK [DD,2] (aK [DD,3] (aK (d0 (pv 0) (cj Lq bu (pv 4)) J) (aK (d0 (pv 0) (cj Lq bu (cj ly (cj gj (pv 4) (pv 5)) bu)) J) (aN (d0 (pv 0) (cj ly (cj zK bu [eq]) [eq]) J))))))];have M:[T7,fR.zip]:=[al];rw[M]at R;rw[3,[W1,R,dU T J J aw [dL,dU T J J aw ⟨_,J,_,_,J,J,⟨[ac],[ac],[bj]⟩,dU T J J aw ⟨_,J,_,J,_,_,J,J,_,_,J,J,_,_,J,J,⟨by rw[19,[ar,0]≤[U2]-1],by rw[19,[U2]-1≤1000000],[bj]⟩,[Kg,aw]⟩⟩]],⟨_,J,p,C,W,_,_,J,aw,T.cl,[jB,4],[jU,4],_,_,J,J,[aaE],[K2,T,3,aw,[Kg,aw]]⟩];have b:[aaY]=[aN,[Ep]]:=Og _;have c:[aat]=[vo,[rh]-1]:=by rw[87,[U2]-1,[aN,[rh]-1],[ac],Og _]
 have d:[ar,2]*[vo,[rh]-1]-[aN,[Ep]]=[aN,[wF]]:=by unfold Vs.bS;show _=[aN,2*2^([rh]-1)-[Ep]];have:[Ep]≤2^([rh]-1):=[Rl];omega
 rw[iW,iW,iW,iW,iW];show Q .bh (ag H p (.ins C W (fR.zip [.ref X,.ref sh,nV k.size,.int [aaY],.int [aat],.int ([ar,2]*[aat]-[aaY])])));rw[b,c,d];exact q
def u6(C:ab)(H:Hp)(p:ab)(X sh:ab)(k:Vs.Kd):Prop:=∃W,[LM,fR.zip (oR X sh k)]
def Oh(C:ab):Sp:=[Yk,.bl,[aK,T&&&[wF]=[wF]]]
theorem j5(a b:Nat):[zW,[xX,a]=[xX,b],a=b]:=by rw[mh,dH];rw[17]
theorem Yp{f C:ab}{v:bq}(I:[mu,[WA],[Wp],xl,C,f,v,[wG]])(T:[B9,C]):aA P w K mg base aG 1 f v [A3] (Oh C):=by rw[225,XJ,[oH,lA e_ (cj lz (pv 1) [eq]) [eq] (ck _)],[dL,[K2,T,5,R,[B7,T,5,R,[md,?_]]]]];show Q [Ey,(V.int [Mb])=[xX,[wF]]] H;rw[mu,j5];exact q
def Em(C:ab):Sp:=[Yk,nV,T|||((T&&&[wF])+[Ep])]
theorem Oi{f C:ab}{v:bq}(I:[mu,[Ta],[Tb],uy,C,f,v,[wG]])(T:[B9,C]):aA P w K mg base aG 1 f v [A3] (Em C):=by rw[225,XM,[oH,cj U3 (pv 1) (cj gj (cj lz (pv 1) [eq]) [eq])],[jp,_,J,_,[K2,T,5,R,[B7,T,3,R,⟨_,_,J,J,_,_,J,J,?_⟩]]]];show Q (.int (pk [ar,t] ([Mb]+[aN,[Ep]]))) H;rw[mu,←Int.natCast_add,Ak];exact q
def Oj(C:ab):Sp:=[Yk,nV,T-(T&&&[wF])+(if T&&&[wF]≠0 then(T&&&[wF])/2 else 2^([rh]-1))]
theorem Yq{f C:ab}{v:bq}(I:[mu,[WB],[Wq],xm,C,f,v,"needs"])(T:[B9,C]):aA P w K mg base aG 1 f v [Ua] (Oj C):=by
 rw[225,Nz,[DB,bE (i:=2) Nz.nd J (aR J) (cj lz (pv 1) [eq]),cj gj (cj ly (pv 1) (pv 2)) (wh [vZ,rq,2,bu] (cj U2 (pv 2) bu) [eq])],[dL,[B7,T,5,R,⟨_,_,J,J,_,J,_,J,_,_,J,J,_,J,J,_,J,?_⟩]]];have L:t&&&[wF]≤t:=Nat.and_le_left;have eb:[Mb]=[P9]:=mu _ _;rw[44,t&&&[wF],0]
 ·have e:[aX,[Ya]]:=by rw[eb,z];decide
  show[Aa,[Ya]];rw[e];refine a_ [K2,T,4,R,?_];show Q (.int ([ar,t]-[Mb]+[vo,[rh]-1])) H;rw[eb];rw[aD [bn,z]]at q;rw[87,[ar,t]-[P9]+[vo,[rh]-1],[aN,t-(t&&&[wF])+2^([rh]-1)],[ac],q]
 ·have e:[Ya]=true:=by rw[eb,mh];rw[17]
  show[Aa,[Ya]];rw[e];rw[33,⟨_,J,_,_,J,J,[P8,[ar,0]≤1],_,_,J,J,?_⟩];show Q (.int ([ar,t]-[Mb]+[Mb]/2^[MY,1])) H;rw[eb];rw[aI z]at q;rw[87,[ar,t]-[P9]+[P9]/2^[MY,1],[aN,t-(t&&&[wF])+(t&&&[wF])/2],by rw[19,([ar,t]-[P9]+[P9]/2)=_],q]
end
end VP
end
section
namespace VP
open PySem L2
def qc(H:Hp)(v:V)(fm:Vs.Form):Prop:=∃a y,v=[bi]∧H a=Z (.tup [nV fm.1,nV fm.2.1,.ref y])∧H y=Z (.tup (aJ fm.2.2))
def ji(H:Hp)(a:ab)(sh:Vs.Shape):Prop:=∃I fs,H a=Z (.tup [nV sh.1,.ref I])∧(H I=Z (.tup fs)∧(Paired (qc H) fs sh.2))
def jk(H m:Hp):Prop:=[Mf,m]
theorem qc.mono{H m:Hp}(t:jk H m){v:V}{fm:Vs.Form}(h:qc H v fm):qc m v fm:=by obtain⟨a,y,e,g,r⟩:=h;rw[9,a,y,e,t _ _ g,t _ _ r]
theorem ji.mono{H m:Hp}(t:jk H m){a:ab}{sh:Vs.Shape}(h:ji H a sh):ji m a sh:=by obtain⟨I,fs,g,r,P⟩:=h;rw[9,I,fs,t _ _ g,t _ _ r,[NY,P,t]]
theorem dF{H m:Hp}(s:ah H m):jk H m:=λ b N e=>s b _ e
structure jD(C:ab)(H:Hp)(ks:[dA])(aO:[aV]):Prop where
 len:aO.length=ks.length
 at_:∀(i:Nat)(k:Vs.Kd),[qv]=Z k→∃p X sh,aO[i]?=Z p∧u6 C H p X sh k∧H X=Z (.aj (aJ k.nums))∧ji H sh k.sh
theorem jD.mono{C:ab}{H m:Hp}{ks:[dA]}{aO:[aV]}(k:jD C H ks aO)(s:ah H m):jD C m ks aO:=by rw[286,[CN,W,s,r],s _ _ P,dF s]
def qd(ks:[dA])(T j:Nat):Nat:=[DX,ks[j]?,k,T|||((T&&&[wF])+[Ep]),T]
def xS(ks:[dA])(A:[ak]):Nat:=A.foldl (qd ks) 0
def eX(aO:[aV])(A:[ak]):[aw]:=A.map λ j=>(V.ref [Ik,j])
theorem Ol{ks:[dA]}(S:[Kp]):∀(A:[ak])(T:Nat)(t:Vs.bx),(Vs.IsT (Vs.dr ks) T t→(∀j∈A,[wO,j])→(∀j,t j+A.count j≤Vs.cF ks j)→[Bi,ks,A.foldl (qd ks) T,λ j=>t j+A.count j])
 |[],T,t,Y,_,_=>[aB,Y]
 |j::A,T,t,Y,X,V=>by
  have U:=X j cq;have e:=bX U;have p:=V j;rw[RQ,Vs.qV e]at p;rw[111,Vs.K2 S Y (Vs.iF e) [vY,t j<(ks[j]).count],Ol S A _ _ g (λ i O=>X i (cp _ O)) λ i=>by
   rw[35,V i,i8];unfold Vs.dn;rw[44,i,j];·subst z;rw[77];rw[27,aI J]
   ·have D:¬(j=i):=λ q=>z q.symm
    simp[D]at this;rw[27,aD z]]
  have e2:qd ks T j=T|||((T&&&Vs.bS (ks[j]).bl)+2^(ks[j]).place):=by unfold qd;rw[e]
  rw[i7,e2];have f:(λ i=>Vs.dn t j (t j+1) i+A.count i)=λ i=>t i+(j::A).count i:=by
   funext i;unfold Vs.dn;rw[i8];rw[44,i,j];·subst z;rw[17]
   ·have D:¬(j=i):=λ q=>z q.symm
    simp[z,D]
  rw[f]at r;exact r
section
variable{P:aY}{w:aU}{K:aF}{mg:[a_]}{base:aE}
def En(K:aF)(C:ab):Sp:=λ U H Q _=>∃(a:ab)(ks:[dA])(aO:[aV])(A:[ak]),[IO,U=[sG],a,eX aO A,jD C H ks aO,∀j∈A,[wO,j],Q (nV (xS ks A)) H]
theorem Om{aO:[aV]}{A:[ak]}{i:Nat}{y:V}(h:(eX aO A)[i]?=Z y):∃j,A[i]?=Z j∧y=(V.ref [Ik,j]):=by unfold eX at h;rw[cJ]at h;cases e:A[i]? with|none=>rw[43,e]|some j=>rw[e]at h;rw[97,j,h]
theorem Yr{f g C:ab}{v x:bq}(I:[iW,"taken_by",xn,v,[zm]])(M:[mu,[Ta],[Tb],uy,C,g,x,[wG]])(T:[B9,C]):aA P w K mg base aG 2 f v [zm] (En K C):=by
 have nd:=ND.nd;have G:aA P w K mg base aG 1 g x [A3] (Em C):=Oi M T;rw[112,ND,λ k A outer s H U Q E u h=>?_];·obtain⟨a,ks,aO,l,rfl,_⟩:=h;rfl
 obtain⟨a,ks,aO,l,rfl,n,t,d,q⟩:=h;rw[48,[Dz,1,bu,[Bh,pv 0,2,[xQ,1,[pT,pv 2,T.cl,M.me,G,u,M.b,pv 1,aB]]]],[zh,a,[eD,n],[sK,iZ,a,eX aO l,λ i b m=>∃o:[dE],b=[[lA],Z (nV ((l.take i).foldl (qd ks) 0)),o]∧m=H,[tJ,none,J],λ i b m _⟨_,_,e⟩=>[ap,e,n]]]];·rintro i y b m O⟨o,rfl,rfl⟩;obtain⟨j,Y,rfl⟩:=Om O;have r:=d j (bt Y);obtain⟨p,X,sh,R,⟨W,c⟩,_,_⟩:=t.at_ j _ (bX r);have B:[Ik,j]=p:=[jh,iB,R];rw[13,B,⟨_,J,p,W,_,J,c,[em],_,J,p,X,sh,_,_,J,⟨W,c⟩,[Cq],?_,J⟩];have e2:l.take (i+1)=l.take i++[j]:=[jh,fH,Y];rw[e2,qz];show _=[[im,a],Z (nV (qd ks ((l.take i).foldl (qd ks) 0) j)),_];unfold qd;rw[bX r];rfl
 ·rintro b m⟨o,rfl,rfl⟩;have:[b9,eX aO l,l.length]:=by unfold eX;rw[aC]
  rw[this,fZ];rw[36,J,q]
def rZ(k:Vs.Kd)(b:Nat):Bool:=[pL,k.place,b]&&[aK,b<[rh]]
def runOf(ks:[dA])(b:Nat):Nat:=[DX,ks.find? (λ k=>rZ k b),k,2*2^b-[Ep],0]
def xT(ks:[dA])(b:Nat):Prop:=∃(i:Nat)(k:Vs.Kd),[qv]=Z k∧k.place≤b∧b<[rh]
theorem Oo{ks:[dA]}(S:[Kp]){i b:Nat}{k:Vs.Kd}(C:[qv]=Z k)(g:k.place≤b)(r:b<[rh]):runOf ks b=2*2^b-[Ep]:=by
 unfold runOf;cases e:ks.find? (λ k=>rZ k b)with
  |none=>have:=List.find?_eq_none.mp e k (bt C);simp[rZ,g,r]at this
  |some d=>
   have K:=List.find?_some e;obtain⟨G,w,m⟩:=gY (List.mem_of_find?_eq_some e);have Q:ks[G]?=Z d:=by rw[bX w,m]
   simp[rZ]at K;rw[91,S.uniq (Vs.iF Q) (Vs.iF C) K.1 K.2 g r];rw[C]at Q;cases Q;rfl
theorem Am{ks:[dA]}(S:[Kp]){i b:Nat}{k:Vs.Kd}(C:[qv]=Z k)(g:k.place≤b)(r:b<[rh])(x:Nat):[Dk,runOf ks b,x,k.place≤x∧x≤b]:=by rw[Oo S C g r,show 2*2^b=2^(b+1)by rw[27,vJ],Vs.Cr [ac]];omega
def Oq(K:aF)(C:ab):Sp:=λ U H Q _=>∃(a:ab)(ks:[dA])(aO:[aV]),[jS,U=[sG],ax K H a [H_],jD C H ks aO,[Kp],[Xt],∀(r:ab)(m:Hp),[u8,r,kG m r (runOf ks) (xT ks),ah H m,([qV,m,b≠r,H b=Z o])→Q (.ref r) m]]
def r8(ks:[dA])(Y:[jT])(S:[Do]):Prop:=[OT]∧(∀p∈Y,∃b:Nat,p.1=[Ag,b]∧b<64)∧∀b,S b→cn Y [Ag,b]=Z (nV (runOf ks b))
theorem r8.len{ks:[dA]}{Y:[jT]}{S:[Do]}(h:r8 ks Y S):(Y.length≤64):=by have:=[UB,[wx,64,λ i=>([Ag,i]:Key)],h.1,by rw[186,A];obtain⟨b,e1,K⟩:=h.2.1 p R;exact[Bk,b,[zt,K],e1.symm]];rw[aC,aC,jI]at this;rw[65]
theorem Ys{a b:Nat}(h:(2:Nat)^a=2^b):a=b:=by
 rcases R9 a b with z|z|z;·rw[10,Br (a:=2) [bj] z]
 ·exact z
 ·rw[10,Br (a:=2) [bj] z]
theorem r8.put{ks:[dA]}{Y:[jT]}{S H:[Do]}(h:r8 ks Y S){c:Nat}(a:c<64)(d:∀b,H b→S b∨b=c):r8 ks (cD Y [Ag,c] (nV (runOf ks c))) H:=by
 rw[20,xP _ h.1,[qp],[Ks]];·rw[181];rw[2,⟨c,J,a⟩,h.2.1 p R]
 ·rw[rF];rw[44,b,c];·subst z;rw[aI J]
  rw[11,aD (λ q=>z (Ys (by rw[10,Sum.inl.inj q]))),h.2.2 b ((d b K).resolve_right z)]
theorem Yt{f C:ab}{fd:bq}(D0:[iW,"runs_of",xp,fd,[zm]])(T:[B9,C]):aA P w K mg base aG 1 f fd [zm] (Oq K C):=by
 have nd:=NF.nd;rw[57,D0.fn.ok,NF];·obtain⟨a,ks,aO,rfl,_⟩:=h;rfl
 obtain⟨a,ks,aO,rfl,hL,t,hS,M,k⟩:=h;rw[78];rw[22,[Dz,1,wO,eJ dX J (dj (pv 0)) [wf,2] [NX,3,[vW,2],t9 dX [vZ,iI,3,[vW,2]] (aK (nk hu (pv 1) (pv 3) (cj ly (cj zK bu (pv 3)) [vW,2]) J) (aN [xQ,3,cj zK bu (pv 3)]))]]];intro r S;have sm:∀o,ah H (ag H r o):=λ o=>[oE,S]
 rw[49,a,J,[eD,(sm _).seq hL],[sK,iZ,a,[H_],λ i c m=>∃(Y:[jT])(I B:[dE]),c=[[lA],[b8,r],I,B]∧m=ag H r (.dK Y)∧r8 ks Y λ b=>[acO,b],⟨[],none,none,J,J,kj,[al],λ b⟨j,_,hj,_⟩=>[gh,hj,Nat.not_lt_zero _]⟩,λ i c m _⟨_,_,_,_,e,_⟩=>[ap,e,(sm _).seq hL]]]
 ·rintro i y c m O⟨Y,I,B,rfl,rfl,G⟩;have L:i<aO.length:=by rw[50,[d0,O],aC]
  have U:[wO,i]:=[cm,t.len,L];have u:=bX U;obtain⟨p,nu,sh,hp,⟨dx,g⟩,_,_⟩:=t.at_ i _ u;obtain rfl:y=(V.ref p):=by rw[cJ,hp]at O;exact[wv,O]
  generalize ks[i]=N at*;have R:N∈ks:=bt u;have hct:1≤N.count:=hS.pos N.bl [iI,N,R];have h6:=M N R;have W:p≠r:=aX g S;have F:∀o,ag H r o p=Z [Ij,fR.zip (oR nu sh N)]:=λ o=>[cX,W,g]
  rw[3,[B7,T,3,F _,?_],CZ (λ c m=>∃(Y:[jT])(b:Nat),[cj,c=[[lA],[b8,r],[Cq],Z (nV (2^b))],m=ag H r (.dK Y),N.place≤b,b≤[FU],r8 ks Y λ x=>[acO,x]∨(N.place≤x∧x<b)]) (λ c _=>match c with|[_,_,_,Z (.int z)]=>2^65-z.toNat|_=>0) ⟨Y,N.place,J,J,ba _,[ac],G.1,G.2.1,λ x d=>G.2.2 x (d.resolve_right [ac])⟩ ?_ ?_]
  ·rintro c m⟨Y,b,rfl,rfl,b1,b2,G⟩;rw[38,[dL,[B7,T,4,F _,[Ml]]],[vo,b]≤[vo,[FU]-1]];by_cases z:b<[FU]
   ·have hle:2^b≤2^([FU]-1):=[Rl];have hb63:2^b≤2^63:=[Rl];have hpos:0<2^b:=Nat.two_pow_pos b;have hpl:2^N.place≤2^b:=vu [bj] b1;rw[13,[tO],aV ⟨_,J,_,_,J,J,[aaE],[B7,T,3,F _,⟨_,_,J,J,_,J,_,J,r,_,J,[VG,[vo,b],aw,G.len],_,J,_,_,J,J,[aaE],?_⟩]⟩];have ev:[Uz]-[vo,N.place]=[aN,runOf ks b]:=[e9,Oo hS u b1 z];have en:[Uz]=[vo,b+1]:=[e9,vJ];rw[15,⟨cD Y [Ag,b] (nV (runOf ks b)),b+1,?_,?_,[ac],[ac],G.put [ac] λ x d=>?_⟩,?_];·show[[im,a],[im,r],[im,p],Z (V.int [Uz])]=_;rw[en]
    ·rw[iW];show ag H r (.dK (cD Y [Ag,b] (V.int ([Uz]-[vo,N.place]))))=_;rw[ev]
    ·rcases d with q|q;rw[40,.inl q];·by_cases y:x=b;rw[2,.inr y,.inl [jl,q.1,[ac]]]
    ·rw[19,2^65-[Uz].toNat<2^65-[vo,b].toNat]
   ·rw[45,b=[FU],[ac]];have hlt:2^([FU]-1)<2^[FU]:=(Br [bj] [ac]);rw[13,[lu],a_ ⟨Y,_,_,J,J,G.1,G.2.1,λ x d=>G.2.2 x ?_⟩];obtain⟨j,l,hj,D,n,X⟩:=d;by_cases y:j<i;rw[40,⟨j,l,y,D,n,X⟩];·have:j=i:=[ac];subst this;rw[u]at D;rw[6,D,[jl,n,X]]
  ·rintro c m Q Q' hq⟨v,h1,x,h2,a,C',dx',fs,v',e1,e2,e3,e4,e5,i',j',e6,e7,l,e8,q⟩;exact⟨v,h1,x,h2,a,C',dx',fs,v',e1,e2,e3,e4,e5,i',j',e6,e7,l,e8,hq _ _ q⟩
 ·rintro c m⟨Y,I,B,rfl,rfl,G⟩;refine[dL,k r _ S ⟨Y,aw,λ b hb=>G.2.2 b ?_⟩ (sm _) λ b o e nb=>by rw[75,ar nb,e]];obtain⟨i,N,g,n,X⟩:=hb;have:=[d0,g];refine⟨i,N,?_,g,n,X⟩;rw[12,aC,t.len,this]
end
end VP
end
section
namespace VP
open PySem L2
def d7:[bd]:=["needs",[Cb],"size"]
def dI:[bd]:=[[wG],[Cb],"size"]
def fU:[bd]:=["steps","completions","lacks"]
abbrev du:=Nat×[wh]
def r9(d:du):[aw]:=[nV d.1,nV d.2.1,nV d.2.2]
def fX(C:ab)(names:[bd])(H:Hp)(a:ab)(d:du):Prop:=∃W,H a=[gj,C,[yi,r9 d]]
theorem fX.mono{C:ab}{names:[bd]}{H m:Hp}{a:ab}{d:du}(h:[TH,d])(s:ah H m):fX C names m a d:=let⟨W,e⟩:=h;[CN,W,s,e]
def d8(C:ab)(names:[bd])(H:Hp)(c:[aV])(B:List du):Prop:=(Paired (fX C names H) c B)
theorem d8.mono{C:ab}{names:[bd]}{H m:Hp}{c:[aV]}{B:List du}(h:[O3,H])(s:ah H m):[O3,m]:=[NY,h,s]
theorem d6{m e:Type}{R:[dF,m,e]}:∀{d:[ol]}{S:List e},Paired R d S→∀{i:Nat}{a:m},d[i]?=Z a→∃b,S[i]?=Z b∧R a b|_,_,.nil,i,a,h=>by rw[14]|_,_,.cons r t,0,a,h=>by rw[95];rw[1,_,J,r]|_,_,.cons r t,i+1,a,h=>by obtain⟨b,g,c⟩:=d6 t (i:=i) (a:=a) (by rw[60]);rw[1,b,by rw[72],c]
theorem Eo{m e:Type}{R:[dF,m,e]}:∀{d:[ol]}{S:List e},Paired R d S→∀{i:Nat}{b:e},S[i]?=Z b→∃a,d[i]?=Z a∧R a b|_,_,.nil,i,a,h=>by rw[14]|_,_,.cons r t,0,a,h=>by rw[95];rw[1,_,J,r]|_,_,.cons r t,i+1,a,h=>by obtain⟨b,g,c⟩:=Eo t (i:=i) (b:=a) (by rw[60]);rw[1,b,by rw[72],c]
section
variable{P:aY}{w:aU}{K:aF}{mg:[a_]}{base:aE}
def r_(C:ab)(names:[bd]):Sp:=λ U H Q _=>∃(p W:ab)(d:du),U=[iv]::r9 d∧[LM,[]]∧Q .bh (ag H p (.ins C W [yi,r9 d]))
theorem Ot{f C:ab}{v:bq}(I:iM K [Rj] uD C f v [E9])(T:[MD,C]):aA P w K mg base aG 1 f v [E9] (r_ C d7):=by rw[331,XO,[DD,2],[DD,3],d7.zip,[aaZ,aw]]
theorem Ep{f C:ab}{v:bq}(I:iM K [WM] xr C f v [E7])(T:[M7,C]):aA P w K mg base aG 1 f v [E7] (r_ C dI):=by rw[331,XQ,[DD,2],[DD,3],dI.zip,[aaZ,aw]]
def iy(d e:du):Bool:=[aK,d.1&&&e.1=d.1]&&([pL,e.2.1,d.2.1]&&[pL,e.2.2,d.2.2])
def Ou(C:ab):Sp:=λ U H Q _=>∃(p o:ab)(d e:du),U=[Fx,p,o]∧fX C dI H p d∧fX C dI H o e∧Q (.bl (iy d e)) H
theorem Yu{f C:ab}{v:bq}(I:[aaJ,C,f,v])(T:[M7,C]):aA P w K mg base aG 1 f v [PM] (Ou C):=by
 rw[112,XR,λ b A outer s H U Q E u h=>?_];·obtain⟨p,o,d,e,rfl,_⟩:=h;rfl
 obtain⟨p,o,d,e,rfl,⟨W,R⟩,⟨g,a⟩,q⟩:=h;rw[48,[oH,zC (lA e_ (cj lz [eq] [Aj]) [eq] (ck _)) (zC (lA zM [eq] [Aj] (ck _)) (zB (lA zM [eq] [Aj] (ck _))))],⟨_,J,p,C,W,_,_,J,R,T.cl,[jB,0],[jU,0],[K2,T,0,a,[B7,T,0,R,[ff,J,_,?_]]]⟩];unfold iy at q;show[Aa,[aK,(V.int [LD,d.1,e.1])=[xX,d.1]]];rw[mu,j5];cases k:[aK,d.1&&&e.1=d.1]with
  |false=>rw[62,k,a_ q]
  |true=>
   rw[k]at q;rw[38,aV ⟨_,J,p,C,W,_,_,J,R,T.cl,[jB,1],[jU,1],[B7,T,1,a,[Ml]]⟩,[Au,e.2.1,d.2.1]];have e2:[zW,[Au,e.2.1,d.2.1],e.2.1≤d.2.1]:=by rw[16,dH]
   rw[e2];cases c:[pL,e.2.1,d.2.1]with
    |false=>rw[62,c,a_ q]
    |true=>
     rw[c]at q;rw[33,⟨_,J,p,C,W,_,_,J,R,T.cl,[jB,2],[jU,2],[K2,T,2,a,?_]⟩];show Q [Ey,[Au,e.2.2,d.2.2]] H;have B:[zW,[Au,e.2.2,d.2.2],e.2.2≤d.2.2]:=by rw[16,dH]
     rw[4,B,q]
def Ov(C CC:ab):Sp:=λ U H Q _=>∃(p W L:ab)(b:Bool),U=[[iv],.ref L,.bl b]∧[LM,[]]∧∀(N K:ab)(G:[aV])(m:Hp),[u8,N,H K=none,N≠K,[cI,N≠p,K≠p,m p=[gj,C,[La,N,K]],m N=Z [JY],[cI,m K=Z (.aj []),d8 CC d7 m G [Mm,b,(0,0,0),[]],∀a∈G,H a=none∧a≠N∧a≠p,[Cm,p,m b],Q .bh m]]]
theorem Yv{f m C CC:ab}{v l:bq}(I:iM K [WF] xu C f v [KO])(T:[M4,C])(n:iM K [Rj] uD CC m l [E9])(TC:[MD,CC]):aA P w K mg base aG 3 f v [KO] (Ov C CC):=by
 have G:aA P w K mg base aG 1 m l [E9] (r_ CC d7):=Ot n TC;rw[112,XT,[Vb]];·obtain⟨p,dx,st,b,rfl,_⟩:=h;rfl
 obtain⟨p,dx,st,b,rfl,R,k⟩:=h;rw[228,pv 1,wh (iH (pv 2)) (fz (ak [Mi,n.ma,G,hr,TC.mg,n.b,bu,bu,ak bu aB] aB)) (fz aB),aN (d0 (pv 0) (fz aB) J),fU.zip];refine[dL,dU T J J R [jp,_,J,b,?_]];cases b with
  |false=>
   refine a_ [Ei,λ N Y=>?_];have g:N≠p:=[ady];have y:H N=none:=by rw[ar g]at Y;exact Y
   refine dU T J J [cX,g.symm,aw] [Ei,λ d q=>?_];have D:d≠p:=λ z=>by subst z;rw[90,aw]
   have S:d≠N:=λ z=>by subst z;rw[ar D,aw]at q;cases q
   have B:H d=none:=by rw[ar D,ar S,ar D]at q;exact q
   rw[3,[QA,D.symm],k N d [] _ y B S.symm g D aw ?_ ?_ .nil [al] λ b o e c=>?_];·rw[ar g,ar S.symm,ar g,aw];rfl
   ·rw[ar D,aw]
   ·rw[ar c,ar (aX e B),ar c,ar (aX e y),ar c];exact e
  |true=>
   rw[33,λ x i nx O nd=>⟨x,i,(0,0,0),J,aw,J,by rw[84,1],λ N Y=>?_⟩];have u:x≠p:=λ z=>by subst z;rw[aw]at nx;cases nx
   have M:i≠p:=λ z=>by subst z;rw[aw]at O;cases O
   have g:N≠x:=[ady];have W:N≠i:=λ z=>by subst z;rw[ar g,ar g,aw]at Y;cases Y
   have r:N≠p:=λ z=>by subst z;rw[ar g,ar g,ar W,aw]at Y;cases Y
   have L:H x=none:=by rw[ar u]at nx;exact nx
   have X:H i=none:=by rw[ar M]at O;exact O
   have y:H N=none:=by rw[ar g,ar g,ar W,ar r]at Y;exact Y
   refine dU T J J (by rw[ar r.symm,ar u.symm,ar u.symm,ar M.symm];exact aw) [Ei,λ d q=>?_];have F:d≠p:=λ z=>by subst z;rw[90,aw]
   have j:d≠N:=λ z=>by subst z;rw[ar F,aw]at q;cases q
   have t:d≠x:=λ z=>by subst z;rw[ar F,ar j,aw]at q;cases q
   have m4:d≠i:=λ z=>by subst z;rw[ar F,ar j,ar t,ar t,aw]at q;cases q
   have B:H d=none:=by rw[ar F,ar j,ar t,ar t,ar m4,ar F]at q;exact q
   rw[3,[QA,F.symm],k N d [x] _ y B j.symm r F aw ?_ ?_ [o0,[rp,i]] ?_ λ b o e c=>?_];·rw[ar r,ar j.symm,ar r,aw];rfl
   ·rw[ar F,aw]
   ·rw[ar u,ar t.symm,ar u,ar g.symm,aw]
   ·intro a ha;simp at ha;subst ha;rw[1,L,g.symm,u]
   ·rw[ar c,ar (aX e B),ar c,ar (aX e y),ar (aX e L),ar (aX e L),ar (aX e X),ar c];exact e
end
end VP
end
section
namespace VP
open PySem L2
theorem Ow{K:aF}{a:ab}{xs:[aw]}{g:TG}{F:TS}{D:Ends}{w:St}{H:Hp}(P:[Be])(I:P 0 w H)(X:[YH])(G:∀i x w H,(i<xs.length→xs[xs.length-1-i]?=Z x→P i w H→g x w H [NJ,F,P (i+1)]))(c:[XJ]):[adN,wQ K a xs.length]:=by rw[332,⟨s,xs,xs[xs.length-1-i]'(by omega),q,bX [ac]⟩,G i x w _ s (y xs q) p,ba _]
theorem fX.inj{C:ab}{names:[bd]}{H:Hp}{a:ab}{d e:du}(hn:names.length=3)(g:[TH,d])(r:[TH,e]):d=e:=by obtain⟨x,g⟩:=g;obtain⟨y,r⟩:=r;rw[g]at r;have P:=[dj,r];injection P with _ _ w;have m:=ed (qK (·.2)) w;rw[BB [ap,hn,ba 3],BB [ap,hn,ba 3]]at m;obtain⟨d1,d2,d3⟩:=d;obtain⟨e1,e2,B⟩:=e;simp only[r9,nV,R5,V.int.injEq,pw]at m;obtain⟨v,b,i⟩:=m;have v:d1=e1:=[ac];have b:d2=e2:=[ac];have i:d3=B:=[ac];rw[v,b,i]
noncomputable def xU(C:ab)(names:[bd])(H:Hp)(q:[ii,du]):[ii,V]|.ref a=>@decide (∃e,[TH,e]∧q e=true) (o6 _)|_=>false
theorem Er{C:ab}{names:[bd]}{H:Hp}{q:[ii,du]}(hn:names.length=3){a:ab}{d:du}(h:[TH,d]):xU C names H q [bi]=q d:=by unfold xU;cases e:q d with|true=>exact@bK _ (o6 _) ⟨d,h,e⟩|false=>refine@bW _ (o6 _) ?_;rintro⟨L,S,f⟩;rw[h.inj hn S,f]at e;cases e
theorem Es{C:ab}{names:[bd]}{H:Hp}(hn:names.length=3)(q:[ii,du]):[Z7,([Ig].filter (xU C names H q))=[zZ,(c.zip B).filter λ x=>q x.2,V.ref x.1]]|_,_,.nil=>J|_,_,.cons (a:=a) (b:=d) r t=>by have T:=Es hn q t;rw[bO,qA,mM,qA,Er hn r];cases e:q d with|true=>simp only[il,bO];rw[T]|false=>rw[136];exact T
theorem d8.Et{C:ab}{names:[bd]}{H:Hp}(q:[ii,du]):[Z7,d8 C names H (((c.zip B).filter λ x=>q x.2).map (·.1)) (B.filter q)]|_,_,.nil=>.nil|_,_,.cons (a:=a) (b:=d) r t=>by have T:=d8.Et q t;rw[mM,qA,qA];cases e:q d with|true=>simp only[il,bO];exact(.cons r T)|false=>rw[136];exact T
theorem Eu{C:ab}{names:[bd]}{H:Hp}:∀{c S:[aV]}{B T:List du},([O3,H])→d8 C names H S T→d8 C names H (c++S) (B++T)|_,_,_,_,.nil,s=>s|_,_,_,_,.cons r t,s=>(.cons r (Eu t s))
theorem qe(a b:Nat):[zW,[Au,a,b],a≤b]:=by rw[16,dH]
section
variable{P:aY}{w:aU}{K:aF}{mg:[a_]}{base:aE}
def Ew:[bd]:=[[ca],"lack","other"]
theorem Ox:bQ Ew [PV] (aZ uF):=[bV]
def Ex(C CL:ab):Sp:=λ U H Q _=>∃(p W L N K A:ab)(D:[aV])(B:List du)(d:du),[lk,U=[Fx,p,A],[LM,[La,N,K]],H K=Z (.aj (D.map V.ref)),d8 CL dI H D B,fX CL dI H A d,D.length+1≤aQ,∀(r:ab)(k:[aV])(m:Hp),[u8,r,m r=Z (.aj (k.map V.ref)),d8 CL dI m k ((B.filter λ e=>! iy d e)++[d]),(∀a∈k,a∈D∨a=A)→m p=[gj,C,[La,N,r]]→([Cm,p,m b])→Q .bh m]]
theorem Oy{f g C CL:ab}{fd fdg:bq}(I:[mu,"add_lack",[WH],uF,C,f,fd,"lack"])(T:[M4,C])(M:[aaJ,CL,g,fdg])(TL:[M7,CL]):aA P w K mg base aG 2 f fd [PV] (Ex C CL):=by
 have nd:Ew.Nodup:=Ox.nd;have G:aA P w K mg base aG 1 g fdg [PM] (Ou CL):=Yu M TL;rw[57,I.fn.ok,Ox];·obtain⟨p,dx,L,N,l,m,D,B,d,rfl,_⟩:=h;rfl
 obtain⟨p,dx,L,N,l,m,D,B,d,rfl,R,n,W,S,c,k⟩:=h;rw[22,aN (d0 (pv 0) (cj wC [Oo,"other",2,dj [eq],[Nz,Ew,uF,"other",2],[wf,2],wF (rg (iH [pT,pv 1,TL.cl,M.me,G,hr,M.b,pv 2,aB])),pv 2] (fz [jC,1])) J)];obtain⟨dl,hla'⟩:=id S;have n3:dI.length=3:=J;refine⟨_,J,p,C,dx,_,_,J,R,T.cl,[jB,2],[jU,2],l,J,[pD,n],λ u r=>jC (K:=K) (xU CL dI H λ e=>! iy d e) id (ax.of n) r [e9,aC] (λ x H3 Q1 Q2 hx s3 q1 q2=>?_) ?_⟩;·obtain⟨o,ho,rfl⟩:=[bE,hx];rw[146,ho];obtain⟨e,he,v⟩:=[OR,W,o,hi,ei];have hp3:=Er (q:=λ e=>! iy d e) n3 v;refine⟨J,_,J,m,dl,_,J,s3 _ _ hla',[em],_,J,m,o,d,e,J,S.mono s3,v.mono s3,_,J,?_⟩;rw[hp3]at q1 q2;cases z:iy d e with|true=>rw[z]at q1 q2;exact a_ (q2 J)|false=>rw[z]at q1 q2;exact aV [dL,q1 J]
 ·rw[Es n3 _ W,Jw];have X:[ck,[abf],D.length]:=bf (nO _ _) [e9,yI];have nDp:p≠u:=aX R r;rw[18,_,J,by rw[84,1],λ O F=>⟨u,O,_,_,J,J,[cX,[YW],aw],aw,?_,λ t y=>?_⟩];rw[11,aC,bf (RW X 1) c]
  ·have m1:O≠u:=[YW];have h1:H O=none:=by rw[ar m1]at F;exact F
   have m2:t≠O:=λ z=>by subst z;rw[aw]at y;cases y
   have m3:t≠u:=λ z=>by subst z;rw[ar m2,aw]at y;cases y
   have h2:H t=none:=by rw[ar m2,ar m3]at y;exact y
   have m4:p≠O:=aX R h1;have m5:p≠t:=aX R h2;refine Yn T (j:=2) (vals:=[J7,L,N,l]) J J [P8,2<3] (by rw[ar m5,ar m4,ar nDp];exact R) ?_;have sm:[Cm,p,ag (ag (ag (ag H u (.aj [XY])) O [EZ,m]) t (.aj ([XY]++[gt,m]))) p [aeB] b]:=λ b o e nb=>by rw[ar nb,ar (aX e h2),ar (aX e h1),ar (aX e r)];exact e
   have hmv:∀{a:ab}{e:du},fX CL dI H a e→fX CL dI (ag (ag (ag (ag H u (.aj [XY])) O [EZ,m]) t (.aj ([XY]++[gt,m]))) p [aeB]) a e:=by rintro a e⟨dy,q⟩;rw[15,dy,sm a _ q ?_];intro z;subst z;rw[R]at q;have h3:=[dj,q];injection h3 with _ _ h4;have h5:=ed (qK (·.1)) h4;rw[[X9,List.map_fst_zip,fU,[PQ,L,N,l]],[X9,List.map_fst_zip,dI,r9 e]]at h5;rw[8,h5,[bB]]
   refine k t (((D.zip B).filter λ x=>! iy d x.2).map (·.1)++[m]) _ h2 ?_ ?_ ?_ aw sm;·rw[ar m5.symm,aw,cH,cP];rfl
   ·exact Eu [B0,W.Et λ e=>! iy d e,hmv z] [o0,hmv S]
   ·intro a ha;rcases[d6,ha]with z|z;·obtain⟨x,hx,rfl⟩:=[bE,z];rw[46,(BG [FB,hx].1).1]
    ·simp at z;exact .inr z
def i5(d:du)(T l r:Nat):Bool:=[aK,d.1&&&T=d.1]&&([pL,l,d.2.1]&&[pL,r,d.2.2])
def j6(d:du)(T l r:Nat):Bool:=[aK,d.1&&&T=0]&&([pL,d.2.1,l]&&[pL,d.2.2,r])
def u7(C CC CL:ab):Sp:=λ U H Q _=>∃(p W L N K:ab)(G D:[aV])(cs B:List du)(T l r:Nat),[cj,U=[[iv],nV T,nV l,nV r],[LM,[La,N,K]],H N=Z [JY],H K=Z (.aj (D.map V.ref)),[cj,d8 CC d7 H G cs,d8 CL dI H D B,[aeL,D,B,i5],(∀d∈B,[aX,i5 d T l r])→[aeL,G,cs,j6],(∀d∈B,[aX,i5 d T l r])→(∀d∈cs,[aX,j6 d T l r])→Q .bh H]]
theorem lG{c:[aV]}{i:Nat}{y:V}(h:[Ig][i]?=Z y):∃a,c[i]?=Z a∧y=[bi]:=by rw[cJ]at h;cases e:c[i]? with|none=>rw[43,e]|some a=>rw[e]at h;rw[97,a,h]
theorem er{m d:Type}{R:[dF,m,d]}{c:[ol]}{S:List d}(h:(Paired R c S)):c.length=S.length:=[CJ,h]
theorem Yw{f C CC CL:ab}{fd:bq}(I:[gM,[VV],[V3],xw,C,f,fd,[zV]])(T:[M4,C])(TC:[MD,CC])(TL:[M7,CL])(B:el mg):aA P w K mg base aG 1 f fd [zV] (u7 C CC CL):=by
 have nd:=NJ.nd;rw[57,I.fn.ok,NJ];·obtain⟨p,dx,st,cl,ll,G,D,cs,ds,t,l,r,rfl,_⟩:=h;rfl
 obtain⟨p,dx,st,cl,ll,G,D,cs,ds,t,l,r,rfl,hp,Y,q,F,hls,k1,k2,k3⟩:=h;rw[48,aK [aeK,4,[vW,4],lu [vZ,iI,2,[vW,4]] (oB [vZ,iI,3,[vW,4]])] [DB,[aeK,5,bu,[aeV,[vW,5]]],pL],⟨_,J,p,C,dx,_,_,J,hp,T.cl,[jB,2],[jU,2],ll,_,J,(ax.of q),[sK,Ow,ll,D.map V.ref,λ i b m=>[ad6,b,[Cq],H,i],[ff,none,J,λ j d U c=>?_],λ i b m _⟨_,_,e,_⟩=>[ap,e,ax.of q]]⟩];·have:=[d0,c];rw[er hls]at U;omega
 ·rintro i y b m v O⟨x,rfl,rfl,W⟩;rw[350,d6 hls ha,⟨_,J,a,CL,o,_,_,J,N,TL.cl,TL.na 0 _ J,[ov,TL.nd,0],_,J,_,_,J,J,[B7,TL,0,N,[ff,J,_,?_]]⟩,[LD,d.1,t],[xX,d.1]];have S:i5 d t l r=false→[ad6,[[im,p],Z (nV t),Z (nV l),Z (nV r),[im,a],none],[im,p],m,i+1]:=[adI,D.length,W];cases n:[aK,d.1&&&t=d.1]with|false=>exact a_ (a_ (S (by unfold i5;rw[n];rfl)))|true=>rw[38,aV [dL,[B7,TL,1,N,[Ml]]],[Au,l,d.2.1]];rw[qe];cases k:[pL,l,d.2.1]with|false=>exact a_ (a_ (S (by unfold i5;rw[n,k];rfl)))|true=>rw[353,[dL,[B7,TL,2,N,[Ml]]],r,d.2.2,by unfold i5;rw[n,k,L];rfl,aV [dL,k1 _ a d ha c (by unfold i5;rw[n,k,L];rfl)]]
 ·rintro b m⟨x,rfl,rfl,W⟩;have R:∀d∈ds,[aX,i5 d t l r]:=λ d c=>by rw[320,W]
  refine⟨_,J,p,C,dx,_,_,J,hp,T.cl,[jB,1],[jU,1],cl,_,J,(ax.of Y),[sK,Ow,cl,[FF],λ i b M=>[aec,b,[Cq],m,i],[ff,none,J,λ j d U c=>?_],λ i b M _⟨_,_,e,_⟩=>[ap,e,ax.of Y]]⟩;·have:=[d0,c];rw[er F]at U;omega
  ·rintro i y b M v O⟨g,rfl,rfl,X⟩;rw[350,d6 F ha,⟨_,J,a,CC,o,_,_,J,N,TC.cl,TC.na 0 _ J,[ov,TC.nd,0],_,J,_,_,J,J,J,_,J,?_⟩,[LD,d.1,t],[Dv,0]];have S:j6 d t l r=false→[aec,[[im,p],Z (nV t),Z (nV l),Z (nV r),x,[im,a]],[im,p],M,i+1]:=[adI,G.length,X];cases n:[aK,d.1&&&t=0]with|false=>exact a_ (a_ (S (by unfold j6;rw[n];rfl)))|true=>rw[38,aV ⟨_,J,a,CC,o,_,_,J,N,TC.cl,TC.na 1 _ J,[ov,TC.nd,1],_,J,_,_,J,J,_,J,?_⟩,[Au,d.2.1,l]];rw[qe];cases k:[pL,d.2.1,l]with|false=>exact a_ (a_ (S (by unfold j6;rw[n,k];rfl)))|true=>rw[353,⟨_,J,a,CC,o,_,_,J,N,TC.cl,TC.na 2 _ J,[ov,TC.nd,2],_,J,_,_,J,J,_,J,?_⟩,d.2.2,r,by unfold j6;rw[n,k,L];rfl,aV [dL,k2 R _ a d ha c (by unfold j6;rw[n,k,L];rfl)]]
  ·rintro b M⟨g,rfl,rfl,X⟩;refine k3 R λ d c=>?_
   rw[320,X]
end
end VP
end
section
namespace VP
open PySem L2
section
variable{P:aY}{w:aU}{K:aF}{mg:[a_]}{base:aE}
theorem u9{X:Cx}(b:aF)(i:Nat){x f:Str}{p W:Pos}(t:X.K=b:=by rfl)(v:X.N[i]?=Z x:=by rfl)(y:[D_,q0]:=by first|exact aR J|exact gq (aR J)|exact gq (gq J))(a:[xO]:=by decide)(c:[aX,x==[Rm]]:=by decide)(K:[Es,[rD,p],f]:=by rfl):PE X (.Attribute [rD,p] f W) (nc b (cv i) f):=by subst t;exact bF (pv i v y a c) K
def An:[bd]:=[[ca],[wG],"left","room","fitting","one"]
theorem Oz:bQ An [zV] (aZ rO):=[bV]
def mv(l r:Nat)(d:du):Bool:=[pL,d.2.1,l]&&[pL,d.2.2,r]
def OA(C CC:ab):Sp:=λ U H Q _=>∃(p W L N K:ab)(G:[aV])(cs:List du)(T l r:Nat),[jS,U=[[iv],nV T,nV l,nV r],[LM,[La,N,K]],H N=Z [JY],d8 CC d7 H G cs,G.length≤aQ,∀(a:ab)(m:Hp),[u8,a,m a=Z (.aj (aJ ((cs.filter (mv l r)).map λ d=>d.1&&&T))),ah H m,Q [bi] m]]
noncomputable def Ao(C:ab)(H:Hp)(T:Nat):V→V|.ref a=>[abw]|_=>.bh
theorem OB{C:ab}{H:Hp}{T:Nat}{a:ab}{d:du}(h:fX C d7 H a d):Ao C H T [bi]=nV (d.1&&&T):=by unfold Ao;have A:∃e,fX C d7 H a e:=⟨d,h⟩;show[abw]=_;rw[dif_pos A];rw[fX.inj J (sP A) h]
theorem OC{C:ab}{H:Hp}{T:Nat}:∀{c:[aV]}{B:List du},d8 C d7 H c B→[Ig].map (Ao C H T)=aJ (B.map λ d=>d.1&&&T)|_,_,.nil=>J|_,_,.cons (a:=a) (b:=d) r t=>by rw[bO,bO,OB r,OC t];rfl
theorem Yx{f C CC:ab}{v:bq}(I:[gM,"hits","Known.hits",rO,C,f,v,[zV]])(T:[M4,C])(TC:[MD,CC]):aA P w K mg base aG 1 f v [zV] (OA C CC):=by
 have nd:An.Nodup:=Oz.nd;rw[57,I.fn.ok,Oz];·obtain⟨p,W,st,cl,ll,G,cs,t,l,r,rfl,_⟩:=h;rfl
 obtain⟨p,W,st,cl,ll,G,cs,t,l,r,rfl,hp,m,F,j,k⟩:=h;rw[74,ug (i:=4) (own:=[("one",5)]) J nd J J [Nr] (dj [eq]) (@eg.mk An (aZ rO) _ [("one",5)] J [bB] [bB] [bB] [bB]) [KS,5] [ON,wF,PW.pt [aeV,u9 K 5]] [ON,pv,5],[oH,[Oo,"one",5,dj (pv 4),@eg.mk An (aZ rO) _ [("one",5)] J [bB] [bB] [bB] [bB],[wf,5],iv,cj lz (u9 K 5) (pv 1)]]];have n3:d7.length=3:=J;refine⟨_,J,p,C,W,_,_,J,hp,T.cl,[jB,1],[jU,1],cl,J,[pD,m],λ Dn z=>jC (K:=K) (xU CC d7 H (mv l r)) id (ax.of m) z [nj,j] (λ x L Q1 Q2 b g n X=>?_) ?_⟩;·rw[345,F];have R:=Er (q:=mv l r) n3 M;obtain⟨u,N⟩:=M.mono g;rw[R]at n X;rw[38,⟨J,_,J,o,CC,u,_,_,J,N,TC.cl,TC.na 1 _ J,[ov,TC.nd,1],_,J,_,_,J,J,_,J,?_⟩,[Au,e.2.1,l]];rw[qe];unfold mv at n X;cases z1:[pL,e.2.1,l]with|false=>rw[z1]at n X;exact a_ (a_ (X J))|true=>rw[z1]at n X;rw[38,aV ⟨_,J,o,CC,u,_,_,J,N,TC.cl,TC.na 2 _ J,[ov,TC.nd,2],_,J,_,_,J,J,_,J,?_⟩,[Au,e.2.2,r]];rw[qe];cases z2:[pL,e.2.2,r]with|false=>rw[z2]at n X;exact a_ (X J)|true=>rw[z2]at n X;exact aV [dL,n J]
 ·rw[Es n3 _ F,Jw];generalize S:((G.zip cs).filter λ x=>mv l r x.2).map (·.1)=kept;have ek:[zZ,(G.zip cs).filter λ x=>mv l r x.2,V.ref x.1]=kept.map V.ref:=by rw[←S,cP];rfl
  rw[ek];have c:=F.Et (mv l r);rw[S]at c;rw[135,ag H Dn (.aj (kept.map V.ref)),z];have y:kept.length≤aQ:=by rw[←S,aC];exact bf (nO _ _) (bf [e9,yI] j)
  rw[49,Dn,J,[pD,aw],λ Dm U=>[CD,Ao CC H t,ax.of aw,U,[nj,y],λ x L Q1 Q2 b g n X=>?_]];·rw[345,c];obtain⟨u,N⟩:=(M.mono Y).mono g;have n:=n J;rw[OB M]at n;refine[md,aV (B:=Q2 L) ?_];refine⟨_,J,o,CC,u,_,_,J,N,TC.cl,TC.na 0 _ J,[ov,TC.nd,0],_,J,_,_,J,J,?_⟩;rw[25,Q1 (.int [LD,e.1,t]) L,mu,n]
  ·rw[12,[CB],OC c,k Dm _ (Y.free U) aw (ah.aT Y (Y.free U))]
end
end VP
end
section
namespace VP
open PySem L2
def eC(r:[kw]):Str:=⟨(r.map λ b=>[SZ,b]).toArray⟩
def wV:Option Nat→V|none=>.int (-1)|Z w=>nV w
def mw(H:Hp)(a:ab)(sp:Vs.Spot):Prop:=H a=Z (.tup [aeg])
def fi(H:Hp)(a:ab)(L:Vs.a8):Prop:=∃sa,H a=Z (.tup [[rs],wV L.2.1,nV L.2.2])∧mw H sa L.1
theorem fi.mono{H m:Hp}{a:ab}{L:Vs.a8}(h:fi H a L)(t:jk H m):fi m a L:=let⟨sa,g,r⟩:=h;[vk,sa,t,g,t _ _ r]
def qf(H:Hp)(v:V)(p:[FS]):Prop:=∃a sa,v=[bi]∧H a=Z (.tup [nV p.1,[rs]])∧fi H sa p.2
def oS(H:Hp)(a:ab)(V:[JV]):Prop:=∃U,(H a=Z (.tup U)∧(Paired (qf H) U V))
theorem oS.mono{H m:Hp}{a:ab}{V:[JV]}(h:oS H a V)(t:jk H m):oS m a V:=by obtain⟨U,g,r⟩:=h;refine[vk,U,t,g,[zk,r,λ v p⟨b,sa,e,P,w⟩=>⟨b,sa,e,t _ _ P,w.mono t⟩]]
def ia(H:Hp)(a:ab)(R:[mh]):Prop:=∃c,(H a=Z (.aj [Ig])∧(Paired (fi H) c R))
theorem ia.mono{H m:Hp}{a:ab}{R:[mh]}(h:ia H a R)(s:ah H m):ia m a R:=by obtain⟨c,g,r⟩:=h;rw[1,c,s _ _ g,[NY,r,dF s]]
def wZ:Option Nat→Int|none=>-1|Z w=>[ar,w]
def iz(sp:Vs.Spot):Tr:=[J4,.num sp.1,.num sp.2.1,[zg,.txt [On],.num (l7 [Ab])]]
def fD(L:Vs.a8):Tr:=[J4,iz L.1,.num (wZ L.2.1),[o0,.num L.2.2]]
def lH(p:[FS]):Tr:=[zg,.num p.1,fD p.2]
def dJ:[er,Tr,Tr]|[]=>.nil|t::r=>(.cons t (dJ r))
def j7(b:Bool)(V:[JV]):Tr:=[zg,.num (l7 b),dJ (V.map lH)]
structure aS where
 m:bT
 ks:[dA]
 aO:[aV]
 most:Nat
 tg:Vs.a8→Vs.Shape→[mh]
 en:[ii,Vs.a8]
 U:[mh]
 co:ab
 sc:ab
 ka:ab
 r:ab
 d1:ab
 d2:ab
 d3:ab
 Pt:ab
 X:[aV]
 bN:ab
 CK:ab
 CC:ab
 CL:ab
 bo:ab
 sd:[Cu]
 kt:[xP,Hp]
def iA(F:aS)(L:Vs.a8):[JV]:=[z_,F.ks.length,λ i=>[aaX]]
structure KE where
 kn:ab
 cl:ab
 g:Vs.GK
def aP(F:aS)(a:[bp]):[aV]:=F.d1::F.d2::F.d3::F.Pt::(a.flatMap (λ e=>[e.kn,e.cl])++F.X)
def Zh(M:[aV])(H:Hp):Hp:=λ b=>if b∈M then none else H b
theorem bV{M:[aV]}{H:Hp}{b:ab}{o:HO}:Zh M H b=Z o↔H b=Z o∧b∉M:=by
 unfold Zh;by_cases h:b∈M;·rw[aI h];simp[h]
 ·rw[aD h];simp[h]
theorem jl{M:[aV]}{H m:Hp}(s:ah H m):ah (Zh M H) (Zh M m):=λ b o e=>by rw[51,[zO],bV.mpr [wJ,s _ _ this.1,this]]
theorem bp{M:[aV]}{H:Hp}:ah (Zh M H) H:=λ b o e=>[zO].1
def jm(F:aS)(c:Vs.GC):du:=(c.jw,c.cs.length,[pF,c.cs])
def eh(c:Vs.GL):du:=(c.taken,c.words,c.size)
def lI:[bd]:=["scanner","kinds","runs","known","known_by_steps"]
structure xV(F:aS)(H a:Hp)(e:KE):Prop where
 ex:∃W L K G D,[jS,H e.kn=[gj,F.CK,[La,e.cl,K]],H e.cl=Z [JY],a K=Z (.aj (D.map V.ref)),oS a L e.g.steps,d8 F.CC d7 a G (e.g.cs.map (jm F)),d8 F.CL dI a D [Ty]]
theorem xV.mono{F:aS}{H m a b:Hp}{e:KE}(k:xV F H a e)(g:m e.kn=H e.kn)(r:m e.cl=H e.cl)(s:ah a b):xV F m b e:=by obtain⟨W,L,K,G,D,v,w,i,C,h,f⟩:=k.ex;exact[Zm,g.trans v,r.trans w,s _ _ i,s,f.mono]
structure cw(F:aS):Prop where
 K:Vs.zo F.ks F.most
 fx:∀k∈F.ks,[rh]≤64
 len:F.ks.length≤64
 tg:∀L i x,L∈F.U→i<F.ks.length→(x∈[Cl]↔x∈Vs.qS F.m L [BT])
 u_:∀L i x,(L∈F.U→i<F.ks.length→x∈[Cl]→x∈F.U)
 Ap:∀L i,L∈F.U→[ck,[Cl],10000]
 en:∀L,L∈F.U→(F.en L=true↔Vs.qT F.m L)
 Ul:F.U.length≤100000
 my:∀a b,ah a b→F.sd a→F.sd b
 nv:∀H m a b,(m F.d3=H F.d3→ah a b→F.kt H a→F.kt m b)
def oU(F:aS)(L:Vs.a8)(e:KE):Prop:=e.g.c0=F.en L∧e.g.steps=iA F L
def oV:[aw]⊕[iF]→HO|.inl N=>.aj N|.inr Y=>.dT Y
structure bA(F:aS)(H:Hp)(a:[bp]):Prop where
 co:∃W,Zh (aP F a) H F.co=[gj,F.bo,[Yu]]
 ka:Zh (aP F a) H F.ka=Z (.aj (F.aO.map V.ref))
 kinds:jD F.bN (Zh (aP F a) H) F.ks F.aO
 runs:kG (Zh (aP F a) H) F.r (runOf F.ks) (xT F.ks)
 sc:F.sd (Zh (aP F a) H)
 tab:df H F.Pt i4 iJ
 kt:F.kt H (Zh (aP F a) H)
 k3:∃Y,H F.d3=Z (.dT Y)
 k1:[acz,F.d1,fD L]
 k2:[acz,F.d2,j7 (F.en L) (iA F L)]
 lJ:F.d1≠F.d2∧F.d1≠F.d3∧F.d2≠F.d3
 knd:∀(i j:Nat)(e f:KE),(a[i]?=Z e→a[j]?=Z f→i≠j→e.kn≠f.kn∧e.cl≠f.cl)
 kn:∀e∈a,xV F H (Zh (aP F a) H) e∧[MJ,e.g]
 of:∀e∈a,∃L,[C5]∧oU F L e
 xt:∀x∈F.X,∃o,H x=Z (oV o)
 xd:∀x∈F.X,[cj,x≠F.d1,x≠F.d2,x≠F.d3,x≠F.Pt,∀e∈a,x≠e.kn∧x≠e.cl]
theorem ib{F:aS}{a:[bp]}{b:ab}:b∈aP F a↔b=F.d1∨b=F.d2∨b=F.d3∨b=F.Pt∨(∃e∈a,b=e.kn∨b=e.cl)∨b∈F.X:=by unfold aP;simp only[lU,List.mem_append,nX,yE,yY]
theorem OD{F:aS}{a:[bp]}{e:KE}(h:e∈a):e.kn∈aP F a:=ib.mpr [zY,[ut,e,h,[de]]]
theorem OE{F:aS}{a:[bp]}{e:KE}(h:e∈a):e.cl∈aP F a:=ib.mpr [zY,[ut,e,h,.inr J]]
theorem OF{F:aS}{a:[bp]}{x:ab}(h:x∈F.X):x∈aP F a:=ib.mpr [zY,.inr h]
theorem bA.grow{F:aS}(I:cw F){H m:Hp}{a:[bp]}(S:bA F H a)(s:ah H m):bA F m a:=by have z:=jl (M:=aP F a) s;rw[187];obtain⟨b,P⟩:=S.k3;rw[267,⟨[NU],[Ii],[Gf],[Go],[Ko],jh S.tab s,[MU,[XH,s]],[CN,b,s,P],[vk,d,s,g,k1],[vk,T,s,r,k2],S.lJ,S.knd,[T3],S.of,[Q3,[CN,o,s,q]],S.xd⟩,s _ _ v,s _ _ w]
theorem bA.keep{F:aS}(I:cw F){H m:Hp}{a:[bp]}(S:bA F H a)(s:eK F.Pt H m)(t:df m F.Pt i4 iJ):bA F m a:=by
 obtain⟨V,c,_⟩:=id S.tab;have z:[QF,a,a]:=λ b o e=>by rw[291]
 have p:∀b Y,H b=Z (.dT Y)→m b=Z (.dT Y):=λ b Y e=>s _ _ e [A4,e,c]
 rw[158];rw[267,⟨[NU],[Ii],[Gf],[Go],[Ko],t,[MU,[XH,p]],[CN,M,p,P],[vk,d,p,g,k1],[vk,T,p,r,k2],S.lJ,S.knd,[T3],S.of,[Q3,⟨o,s _ _ q [AQ].2.2.2.1⟩],S.xd⟩,s _ _ v [A4,v,c],s _ _ w [A4,w,c]]
theorem OG{F:aS}{b:[bp]}{i:Nat}{e f:KE}(O:b[i]?=Z e)(g:f.kn=e.kn)(r:f.cl=e.cl):aP F (b.set i f)=aP F b:=by
 have X:=[J0,O];have:∀(b:[bp])(i:Nat),b[i]?=Z e→[rg,b.set i f,λ e=>[e.kn,e.cl]]=b.flatMap λ e=>[e.kn,e.cl]:=by intro b;induction b with|nil=>intro i h;rw[14]|cons a b T=>intro i h;cases i with|zero=>rw[95];simp[g,r]|succ i=>simp only[List.set_cons_succ,kZ];rw[T i (by rw[60])]
 unfold aP;rw[this b i O]
theorem bA.OH{F:aS}(FO:cw F){H m:Hp}{c:[bp]}(S:bA F H c){i:Nat}{e:KE}(O:c[i]?=Z e)(Q:Vs.GK)(hE:Q.c0=e.g.c0)(hS:Q.steps=e.g.steps)(z:[QF,c,c])(f:[qV,H,b∈aP F c,b≠e.kn→b≠e.cl→m b=Z o])(hk:xV F m [Eh,c] {e with g:=Q})(hg:[MJ,Q]):bA F m [VO]:=by
 have N:aP F [VO]=aP F c:=OG O J J;have M:=bt O;obtain⟨ke,_⟩:=S.kn e M;obtain⟨dxe,ste,lle,case,lase,e1,e2,_⟩:=id ke.ex;obtain⟨ps,l,htr,htc⟩:=id S.tab;have s:∀b Y,H b=Z (.dT Y)→b∈aP F c→m b=Z (.dT Y):=λ b Y q K=>f b _ q K [A4,q,e1] [A4,q,e2]
 have hil:=[d0,O];have G:∀e2∈c,∃B∈[VO],B.kn=e2.kn∧B.g.c0=e2.g.c0∧B.g.steps=e2.g.steps:=λ e2 he2=>by
  obtain⟨j,U,C⟩:=gY he2;by_cases q:j=i;·subst q;rw[59,e2=e,by rw[bX U,C]at O;exact[dj,O]];rw[9,_,[Zi,j,qx U],J,hE,hS]
  ·rw[9,e2,[Zi,j,by rw[yA (λ w=>q w.symm),bX U,C]],J,J,J]
 have E:∀(j:Nat)(B:KE),[VO][j]?=Z B→(j=i∧B={e with g:=Q})∨(j≠i∧c[j]?=Z B):=λ j B h=>by
  by_cases q:j=i;·subst q;rw[qx hil]at h;rw[46,[md,[wv,h]]]
  ·rw[yA (λ w=>q w.symm)]at h;exact[jl,q,h]
 obtain⟨dx,co⟩:=S.co;rw[257];obtain⟨kv2,h2,k2n,k2⟩:=S.k2;have T:df m F.Pt i4 iJ:=by rw[18,ps,f _ _ l (ib.mpr [lD,[Lq]]) [A4,l,e1] [A4,l,e2],htr,?_];rcases htc with q|⟨c',a,b⟩;rw[40,q];·refine .inr [pv,c',a];by_cases q:c'∈aP F c;rw[2,f _ _ b q [A4,b,e1] [A4,b,e2],(bV.mp (z _ _ [rG,b,q])).1]
 refine⟨⟨dx,[ap,N,z _ _ co]⟩,[ap,N,[Ii]],[ap,N,[Gf]],[ap,N,[Go]],[ap,N,FO.my _ _ z S.sc],T,[ap,N,FO.nv _ _ _ _ ((s _ _ P (ib.mpr [lD,[de]])).trans P.symm) z S.kt],⟨kv3,s _ _ P (ib.mpr [lD,[de]])⟩,⟨kv1,s _ _ h1 (ib.mpr [de]),k1n,[qp]⟩,⟨kv2,s _ _ h2 (ib.mpr [Lq]),k2n,[qp]⟩,S.lJ,λ a b x y ha K V=>?_,[qu],[qu],[qu],[qu]⟩;·rw[236,k1]
 ·rw[236,k2]
 ·rcases E a x ha with⟨rfl,rfl⟩|⟨I,D⟩<;>rcases E b y K with⟨rfl,rfl⟩|⟨nb,W⟩;rw[2,[gh,J,V],S.knd _ _ e y O W V];rw[2,S.knd _ _ x e D O V,S.knd _ _ _ _ D W V]
 ·rw[208,A,x];rw[11,N,⟨hk,hg⟩];·obtain⟨kx,gx⟩:=S.kn x (bt D);obtain⟨_,_,_,_,_,u,v,_⟩:=id kx.ex;have nn:=S.knd _ _ _ _ D O I;rw[4,N,⟨kx.mono ((f _ _ u (OD (bt D)) nn.1 [A4,u,e2]).trans u.symm) ((f _ _ v (OE (bt D)) [A4,v,e1] nn.2).trans v.symm) z,gx⟩]
 ·rw[208,A,x];·obtain⟨L,n,X,r⟩:=S.of e M;rw[21,L,n,hE.trans X,hS.trans r]
  ·exact S.of x (bt D)
 ·rw[56,x,A];have d:=[AQ].2.2.2.2 e M;rw[0,o,f x _ q (OF A) d.1 d.2]
 ·obtain⟨d1,d2,d3,d4,d5⟩:=[AQ];refine⟨d1,d2,d3,d4,λ y k=>?_⟩;rw[208,k,y];rw[2,d5 e M,d5 y (bt D)]
end VP
end
section
namespace VP
open PySem L2
theorem Ey{X:Cx}:[OF,"isinstance",∃(x:V)(C:ab)(t:ae)(b:Bool),N=[x,[gv]]∧j3 X.K H x t∧Sg X.K t [gv]=Z b∧Q (.bl b) H]:=by rw[129];obtain⟨x,C,t,b,rfl,k,e,q⟩:=h;obtain⟨u,m,rfl,a,S⟩:=vals2 r;rw[6,[db,m,[j5,C],S],Vo I a k e λ G=>[jp,.bl b,H,[rw],q]]
structure InstB(K:aF)(C CC:ab)(b:Bool):Prop where
 cl:j2 K C
 ha:(cN K [gv] "__class__")=Z (Z [QW])
 hn:[adB]=Z (Z [aci])
 pP:PySem.W.takesIn K [QW]=Z true
 hm:PySem.W.mroIn K C [Vz]=Z true
 nA:Sg K [gv] (.ref CC)=Z b
theorem InstB.ty{K:aF}{C CC:ab}{b:Bool}(h:InstB K C CC b){H:Hp}{a W:ab}{fs:[io,V]}(e:H a=[gj,C,fs]):j3 K H [bi] [gv]:=.ins e h.cl h.ha h.hn h.pP h.hm
structure bJ(F:aS)(l:Nat)(H:Hp)(a:[bp])(m:Hp)(D:[bp]):Prop where
 st:bA F m D
 z:[QF,a,D]
 ext:∀(i:Nat)(e:KE),a[i]?=Z e→∃f,D[i]?=Z f∧f.kn=e.kn∧f.cl=e.cl∧Vs.eG l e.g f.g
 xs:[M3,m]
theorem bJ.trans{F:aS}{l:Nat}{H d M:Hp}{c E B:[bp]}(a:bJ F l H c d E)(b:bJ F l d E M B):bJ F l H c M B:=by rw[18,b.st,a.z.trans b.z,λ i e h=>?_,λ x A=>[f8,b.xs,x,A,a.xs x A]];obtain⟨e1,g,k1,u,j⟩:=a.ext i e h;obtain⟨e2,r,k2,f,T⟩:=b.ext i e1 g;rw[9,e2,r,k2.trans k1,f.trans u,j.trans T]
theorem bJ.mono{F:aS}{l l':Nat}{H c:Hp}{b E:[bp]}(a:bJ F l H b c E)(h:l≤l'):bJ F l' H b c E:=by rw[18,a.st,a.z,λ i e q=>?_,a.xs];obtain⟨e1,g,k1,u,d⟩:=a.ext i e q;rw[9,e1,g,k1,u,d.mono h]
theorem bJ.refl{F:aS}(l:Nat){H:Hp}{a:[bp]}(S:bA F H a):bJ F l H a H a:=⟨S,[zA,_],[Md],[B3]⟩
theorem bJ.grow{F:aS}(I:cw F)(l:Nat){H m:Hp}{a:[bp]}(S:bA F H a)(s:ah H m):bJ F l H a m a:=⟨S.grow I s,jl s,[Md],[Q3,(s _ _ q).trans q.symm]⟩
theorem bJ.keep{F:aS}(I:cw F)(l:Nat){H m:Hp}{a:[bp]}(S:bA F H a)(s:eK F.Pt H m)(t:df m F.Pt i4 iJ):bJ F l H a m a:=by rw[18,S.keep I s t,λ b o e=>?_,[Md],[Q3,(s _ _ q [AQ].2.2.2.1).trans q.symm]];rw[291]
theorem Ez{F:aS}{L t:Vs.a8}{k:Nat}:(k,t)∈iA F L↔[p0,k]∧t∈F.tg L [A5,F.ks,k]:=by
 unfold iA;rw[32,nX];·rintro⟨i,O,h⟩;obtain⟨x,A,e⟩:=[bE,h];cases e;rw[0,[OW,O],A]
 ·rintro⟨g,r⟩;rw[1,k,[zt,g],[iI,t,r]]
theorem Aq{F:aS}(I:cw F){L:Vs.a8}{e:KE}(V:[C5])(h:oU F L e)(cs:[ak]):[Pc,L,cs]↔Vs.cM F.m F.ks e.g.c0 e.g.steps cs:=by
 rw[h.1,h.2];cases cs with
  |nil=>show(∀k∈([]:[ak]),[p0,k])∧Vs.qT F.m L↔F.en L=true;rw[16,I.en L V]
  |cons k r=>
   show(∀j∈k::r,[p0,j])∧(∃l∈Vs.qS F.m L [A5,F.ks,k],Vs.pE F.m l (r.map (Vs.shapeAt F.ks)))↔∃t,(k,t)∈iA F L∧[p0,k]∧[Pc,t,r];rw[5];·rintro⟨g,t,a,P⟩;have C:=g k cq;rw[9,t,Ez.mpr ⟨C,(I.tg L k t V C).mpr a⟩,C,λ j U=>g j (cp _ U),P]
   ·rintro⟨t,g,C,a,P⟩;refine⟨λ j U=>?_,t,(I.tg L k t V C).mp (Ez.mp g).2,P⟩;rcases[d9,U]with rfl|U;rw[2,C,a j U]
def xW(F:aS):Sp:=[ZN,[Cf],Zh (aP F b) H,∀(i:Nat)(e:KE)(m:Hp)(D:[bp]),(D[i]?=Z e→oU F L e→bJ F 0 H b m D→Q [Cg] m)]
structure EA(F:aS)(b:Hp)(a:ab)(cM:[zH,Nat])(t:Vs.bx)(l r:Nat)(cs:[ak])(N:Nat):Prop where
 at_:fX F.CC d7 b a (N,cs.length,[pF,cs])
 comp:cM cs
 oy:∀k∈cs,[p0,k]
 jw:Vs.l6 (Vs.dr F.ks) N [Qr]
 fx:∀k,[vg]≤[AD,k]
 words:[Pp,l]
 size:[pF,cs]≤r
 free:¬(Vs.eF (Vs.cF F.ks) cs t)
structure EB(F:aS)(b:Hp)(a:ab)(cM:[zH,Nat])(t:Vs.bx)(l r:Nat)(d:du):Prop where
 at_:fX F.CL dI b a d
 words:l≤d.2.1
 size:r≤d.2.2
 fx:d.2.1≤1001∧d.2.2≤1100
 pI:[VH,cM cs,d.2.1,Vs.cg,Vs.b0 F.ks,d.2.2,Vs.eF,Vs.cF F.ks,t]
def Ar(F:aS)(l:Nat):Sp:=λ U H Q _=>∃(b:[bp])(i:Nat)(e:KE)(T:Nat)(t:Vs.bx)(r:Nat),[lk,U=[[Cf],[Cg],nV T,nV l,nV r],bA F H b,b[i]?=Z e,[Bi,F.ks,T,t],[Ro,t],∀(a:ab)(cs:[ak])(N:Nat)(m:Hp)(D:[bp]),bJ F l H b m D→[Ae,EA F [Eh,D] a [Vg] t l r cs N,m],∀(a:ab)(d:du)(m:Hp)(D:[bp]),[cI,bJ F l H b m D,EB F [Eh,D] a [Vg] t l r d,[lm,d.2.1],[lm,d.2.2],Q [bi] m]]
def OI(F:aS)(l:Nat):Sp:=λ U H Q _=>∃(e:[bp])(k:Nat)(p T:ab)(L:Vs.a8)(B:Nat)(b:Vs.bx)(r:Nat),[cj,U=[[Cf],[iv],.ref T,nV B,nV l,nV r],bA F H e,F.aO[k]?=Z p,fi (Zh (aP F e) H) T L,[lk,[C5],[Bi,F.ks,B,b],b k<[AD,k],1≤l,[Ro,b],∀(a:ab)(cs:[ak])(N:Nat)(m:Hp)(D:[bp]),bJ F (l-1) H e m D→[Ae,EA F [Eh,D] a (λ cs=>∃c,cs=k::c∧[Pc,L,c]) b l r cs N,m],∀(a:ab)(d:du)(m:Hp)(D:[bp]),bJ F (l-1) H e m D→[Ae,EB F [Eh,D] a (λ cs=>∃c,cs=k::c∧[Pc,L,c]) b l r d,m]]]
def EC(F:aS)(l:Nat):Sp:=λ U H Q _=>∃(a:[bp])(i:Nat)(e:KE)(B:Nat)(b:Vs.bx)(r:Nat),[cj,U=[[Cf],[Cg],nV B,nV l,nV r],bA F H a,a[i]?=Z e,[Bi,F.ks,B,b],[cj,[Ro,b],[ad7,e.g.cs],[adY,e.g.cs],∀p∈e.g.ls,¬(p.b=b∧p.l=l∧p.r=r),∀(m:Hp)(D:[bp])(f:KE),(bJ F l H a m D→D[i]?=Z f→(e.g.cs.length<f.g.cs.length∨∃c∈f.g.ls,c.b=b∧l≤c.words∧r≤c.size)→Q .bh m)]]
end VP
end
section
namespace VP
open PySem L2
theorem OJ(n k:Nat)(t:Vs.bx)(f:[cQ])(C:k<n):[ym,λ j=>Vs.dn t k (t k+1) j*f j]=[ym,λ j=>t j*f j]+f k:=by
 have s:∀m,m≤k→Vs.bZ m (λ j=>Vs.dn t k (t k+1) j*f j)=Vs.bZ m (λ j=>t j*f j):=by intro m;induction m with|zero=>intro _;rfl|succ m T=>intro h;show Vs.bZ m _+Vs.dn t k (t k+1) m*f m=Vs.bZ m _+t m*f m;rw[T [ac],Vs.gL [vY,m≠k]]
 induction n with
  |zero=>omega
  |succ n T=>
   show[ym,_]+Vs.dn t k (t k+1) n*f n=[ym,_]+t n*f n+_;by_cases h:k=n;·subst h;rw[s k (ba _),Vs.hJ,BR];omega
   ·rw[T [ac],Vs.gL (λ z=>h z.symm)];omega
theorem Yy(n k:Nat)(t:Vs.bx)(C:k<n):[ym,Vs.dn t k (t k+1)]=[ym,t]+1:=by rw[100,OJ n k t (λ _=>1) C]
theorem Yz{ks:[dA]}{most k l r:Nat}{b:Vs.bx}(C:[wO,k])(h:Vs.iV ks most b (l+1) r)(G:[Nq]≤r):Vs.iV ks most (Vs.dn b k (b k+1)) l (r-[Nq]):=by
 obtain⟨e,x,g,a,P⟩:=h;rw[26,e,x,?_,?_,P];·rw[27,Yy _ _ _ C]
 ·unfold Vs.mW at*;rw[27,OJ _ _ _ _ C]
theorem iV.room{ks:[dA]}{most l r:Nat}{b:Vs.bx}(h:Vs.iV ks most b l r):r≤256∧l≤most:=by obtain⟨e,x,g,a,P⟩:=h;omega
theorem bA.free{F:aS}{H:Hp}{a:[bp]}(S:bA F H a){x:ab}(h:H x=none):x∉aP F a:=by rw[277,x]
theorem xX{F:aS}{H:Hp}{a:[bp]}(S:bA F H a){x W C:ab}{names:[bd]}{d:du}(A:H x=none)(b:H W=none):ah H [Yc,H,[yi,r9 d]]∧fX C names (Zh (aP F a) [Yc,H,[yi,r9 d]]) x d:=by rw[20,ah.aT (ah.aT [oE,b] A) A,W,[rG,aw,S.free A]]
structure jn(K:aF)(mg:[a_])(F:aS):Prop where
 eu:[B9,F.bN]
 TK:[M4,F.CK]
 TC:[MD,F.CC]
 TL:[M7,F.CL]
 cZ:[Ra,F.bo]
 used:∃f v,[mu,[WA],[Wp],xl,F.bN,f,v,[wG]]
 YA:∃f v,[mu,[Ta],[Tb],uy,F.bN,f,v,[wG]]
 YB:∃f v,[mu,[WB],[Wq],xm,F.bN,f,v,"needs"]
 iC:∃f v,iM K [Rj] uD F.CC f v [E9]
 iL:∃f v,iM K [WM] xr F.CL f v [E7]
 iK:∃f v,iM K [WF] xu F.CK f v [KO]
 OK:∃f v,[aaJ,F.CL,f,v]
 OL:∃f v,[mu,"add_lack",[WH],uF,F.CK,f,v,"lack"]
 YC:∃f v,[gM,[VV],[V3],xw,F.CK,f,v,[zV]]
 w9:∃f v,[gM,"hits","Known.hits",rO,F.CK,f,v,[zV]]
 cB:[DV,"BOUNDLESS",nV 1000]
 nB:InstB K F.CC F.CC true
 nE:InstB K F.CL F.CC false
 B:el mg
theorem YD{ks:[dA]}{k:Nat}{b:Vs.bx}{c:[ak]}(h:Vs.eF (Vs.cF ks) c (Vs.dn b k (b k+1))):[aas]:=by
 obtain⟨j,U,q⟩:=h;rw[42,[pv,j,cp _ U],i8];rw[44,j,k];·subst z;rw[Vs.hJ]at q;rw[17]
 ·rw[Vs.gL z]at q;omega
theorem YE{ks:[dA]}{k:Nat}{b:Vs.bx}{c:[ak]}(K:b k<Vs.cF ks k)(h:¬Vs.eF (Vs.cF ks) c (Vs.dn b k (b k+1))):¬[aas]∧c.count k<Vs.cF ks k:=by
 have C:c.count k+1+b k≤Vs.cF ks k:=by
  by_cases z:k∈c;·apply kT;intro y;exact h ⟨k,z,[e9,Vs.hJ]⟩
  ·rw[27,List.count_eq_zero_of_not_mem z]
 rw[15,?_,[ac]];rintro⟨j,U,q⟩;rw[i8]at q;rw[44,j,k];·subst z;simp at q;omega
 ·have D:¬(k=j):=λ w=>z w.symm
  simp[D]at q;rcases[d9,U]with y|y;rw[2,z y,h ⟨j,y,[ap,Vs.gL z,q]⟩]
section
variable{P:aY}{w:aU}{K:aF}{mg:[a_]}{base:aE}
theorem YF{F:aS}(I:cw F)(G:[y8]){n:Nat}{fA fW fO:ab}{fdA fdW fdO:bq}(MW:[XV,fW,fdW])(MA:[XO,fA,fdA])(MO:[XU,fO,fdO])(GO:aA P w K mg base aG 15 fO fdO [m6] (xW F))(GA:aA P w K mg base aG (3*n+20) fA fdA [K3] (Ar F n)):aA P w K mg base aG (3*n+21) fW fdW [PH] (OI F (n+1)):=by
 have nd:=NM.nd;obtain⟨fT,fdT,MT⟩:=G.YA;obtain⟨fN,fdN,MN⟩:=G.YB;obtain⟨fC,fdC,IC⟩:=G.iC;obtain⟨fL,fdL,IL⟩:=G.iL;obtain⟨uB,hB,rB⟩:=G.cB;have GT:aA P w K mg base aG 1 fT fdT [A3] (Em F.bN):=Oi MT G.eu;have GN:aA P w K mg base aG 1 fN fdN [Ua] (Oj F.bN):=Yq MN G.eu;have GC:aA P w K mg base aG 1 fC fdC [E9] (r_ F.CC d7):=Ot IC G.TC;have GL:aA P w K mg base aG 1 fL fdL [E7] (r_ F.CL dI):=Ep IL G.TL;rw[57,MW.fn.ok,NM];·obtain⟨gs,k,p,ta,st,B,b,r,rfl,_⟩:=h;rfl
 obtain⟨gs,k,p,ta,st,B,b,r,rfl,S,hkp,hst,hU,hT,hbk,_,T,kC,kL⟩:=h;have M:cy 2 _:=[wu,2,3*n+20];rw[109,3*n+20];have hrO:cy 15 _:=[wu,15,3*n+20];rw[74,[Lw,zL,[Aj],pv 5,[adp,b8 J hB rB,cj ly [Aj] bu]],[we,6,[pT,pv 0,G.cZ.cl,MA.me,GA,hr,MA.b,[aeH,pv 2],ak [pT,pv 1,G.eu.cl,MT.me,GT,hr1,MT.b,pv 3,aB] [ug,cj ly (pv 4) bu,cj ly (pv 5) [Aj]]],[Bd,iH [aa5,[uj,6,[Y7]]],[Mi,IC.ma,GC,M,G.TC.mg,IC.b,[pT,pv 1,G.eu.cl,MN.me,GN,hr1,MN.b,[vW,6],aB],[yw,[vW,6]],ak (cj gj [vW,6] [Aj]) aB]],aN [adp,[yw,[vW,6]],cj gj [vW,6] [Aj]]]];have y:[p0,k]:=[cm,S.kinds.len,[d0,hkp]];have t:=bX y;generalize F.ks[k]=g at t;have X:[Kq,k]=g.size:=Vs.T_ t;have ecap:[AD,k]=g.count:=Vs.qV t;have hsz:g.size≤24:=I.K.size g (bt t);have Y:∀{H':Hp}{D:[bp]},bA F H' D→∃W nu sh,H' p=[gj,F.bN,fR.zip (oR nu sh g)]:=λ S'=>by obtain⟨p',nu,sh,h1,⟨W,h2⟩,_⟩:=S'.kinds.at_ k g t;rw[hkp]at h1;rw[6,h1,⟨W,nu,sh,bp _ _ h2⟩]
 have coAt:∀{H':Hp}{D:[bp]},bA F H' D→∃W,H' F.co=[gj,F.bo,[Yu]]:=λ S'=>by obtain⟨W,h2⟩:=S'.co;rw[0,W,bp _ _ h2]
 obtain⟨W,nu,sh,hp⟩:=Y S;rw[38,⟨_,J,p,F.bN,W,_,_,J,hp,G.eu.cl,G.eu.na 2 _ J,[Qc,2],_,J,_,_,J,J,_,J,?_⟩,[ar,r]<[Pw]];by_cases hbig:r<g.size
 ·rw[13,[tO],aV ⟨_,J,_,J,p,F.bN,W,_,_,J,hp,G.eu.cl,G.eu.na 2 _ J,[Qc,2],_,_,J,J,[QS,(B,1000,g.size-1),?_]⟩];·show[(V.ref x),nV B,nV 1000,(V.int ([Pw]-1))]=[(V.ref x),nV B,nV 1000,nV (g.size-1)];rw[[vY,([Pw]-1)=[aN,g.size-1]]]
  ·obtain⟨s1,t1⟩:=[U8,1000,g.size-1,S];have hro:=iV.room T;have hm:=I.K.most;refine[acq,gs,bJ.grow I _ S s1,t1,1000,g.size-1];rintro cs⟨c,rfl,_⟩_ f;exfalso;have:[pF,k::c]=[pF,c]+[Kq,k]:=J;rw[this,X]at f;have f:[pF,c]+g.size≤g.size-1:=f;omega
 ·rw[[lu]];obtain⟨dco,hco⟩:=coAt S;refine a_ ⟨_,J,F.co,dco,_,J,hco,[em],_,J,F.co,dco,_,J,hco,[em],_,J,gs,ta,st,J,S,hst,hU,λ i e H1 gs1 he hof R=>?_⟩;have S1:=R.st;obtain⟨U,nu1,sh1,O⟩:=Y S1;have hT':=Vs.K2 I.K.sep hT (Vs.iF t) [vY,b k<g.count];rw[3,⟨_,J,p,U,_,J,O,[em],_,J,p,nu1,sh1,g,B,J,⟨U,O⟩,_,J,_,_,J,J,_,J,_,J,p,F.bN,U,_,_,J,O,G.eu.cl,G.eu.na 2 _ J,[Qc,2],_,_,J,J,?_⟩,⟨gs1,i,e,_,_,r-g.size,?_,S1,he,hT',?_,λ a cs N H2 u m o=>?_,λ a d H2 u m o hd1 hd2=>?_⟩];·show[(V.ref F.co),(V.ref e.kn),nV _,(V.int ([aN,n+1]-1)),(V.int ([ar,r]-[Pw]))]=[(V.ref F.co),(V.ref e.kn),nV _,nV n,nV (r-g.size)];rw[[vY,([aN,n+1]-1)=[aN,n]],[vY,([ar,r]-[Pw])=[aN,r-g.size]]];rfl
  ·rw[50,Yz y T [e9,X],X]
  ·rw[274,⟨_,J,[bi],F.CC,_,true,J,G.nB.ty ha,G.nB.nA,_,J,aV ?_⟩,⟨_,J,p,dx2,_,J,L,[em],_,J,a,F.CC,da,_,_,J,ha,G.TC.cl,G.TC.na 0 _ J,[ov,G.TC.nd,0],p,nu2,sh2,g,N,J,⟨dx2,L⟩,_,J,a,F.CC,da,_,_,J,ha,G.TC.cl,G.TC.na 1 _ J,[ov,G.TC.nd,1],_,_,J,J,_,J,a,F.CC,da,_,_,J,ha,G.TC.cl,G.TC.na 2 _ J,[ov,G.TC.nd,2],[K2,G.eu,2,L,[QS,([acT],(k::cs).length,[pF,k::cs]),?_]]⟩];·show[(V.ref x),nV _,(V.int ([ar,cs.length]+1)),(V.int ([ar,[pF,cs]]+[Pw]))]=[(V.ref x),nV _,nV (cs.length+1),nV ([pF,cs]+[Kq,k])];rw[X];rfl
   ·obtain⟨s3,t3⟩:=xX (C:=F.CC) (names:=d7) (d:=([acT],(k::cs).length,[pF,k::cs])) l nx ny;obtain⟨f1,f2⟩:=YE hbk o.free;have cin:∀j∈k::cs,[p0,j]:=λ j hj=>by rcases[d9,hj]with rfl|hj;rw[2,y,o.oy j hj]
    have hN:=Vs.T8 I.K.sep o.jw (Vs.iF t) [vY,[vg]<g.count];have eN:(λ j=>((k::cs).count j))=Vs.dn (λ j=>cs.count j) k ([vg]+1):=by
     funext j;rw[i8];rw[44,j,k];·subst z;rw[16,Vs.hJ]
     ·rw[Vs.gL z];have z':¬(k=j):=λ w=>z w.symm
      simp[z']
    refine kC x (k::cs) _ _ u (q.trans (bJ.grow I _ l s3)) ⟨t3,⟨cs,J,(Aq I hU hof cs).mpr o.comp⟩,cin,?_,λ j=>?_,?_,?_,f1⟩;rw[11,eN,hN]
    ·rw[congrFun eN j];rw[44,j,k];·subst z;rw[27,Vs.hJ]
     rw[11,Vs.gL z,o.fx j]
    ·have:=o.words;rw[19,cs.length+1≤n+1]
    ·have:=o.size;show[pF,cs]+[Kq,k]≤r;rw[27,X]
  ·rw[274,⟨_,J,[bi],F.CC,_,false,J,G.nE.ty ha,G.nE.nA,_,J,a_ ?_⟩,⟨_,J,_,J,a,F.CL,da,_,_,J,ha,G.TL.cl,G.TL.na 1 _ J,[ov,G.TL.nd,1],_,_,J,J,_,J,a,F.CL,da,_,_,J,ha,G.TL.cl,G.TL.na 2 _ J,[ov,G.TL.nd,2],[K2,G.eu,2,L,[QS,(B,d.2.1+1,d.2.2+g.size),J]]⟩];obtain⟨s3,t3⟩:=[U8,d.2.1+1,d.2.2+g.size,l];have w1:=o.words;have w2:=o.size;refine[acq,u,q.trans (bJ.grow I _ l s3),t3,d.2.1+1,d.2.2+g.size];rintro cs⟨c,rfl,hc⟩hl f;have hl:c.length+1≤d.2.1+1:=hl;have f:[pF,c]+[Kq,k]≤d.2.2+g.size:=f;rw[X]at f;exact YD (o.pI c ((Aq I hU hof c).mp hc) [ac] [ac])
end
end VP
end
section
namespace VP
open PySem L2
theorem OM{m:bT}{ks:[dA]}{most:Nat}{g0 g:Vs.GK}{c:Vs.GL}(G:Vs.jc m ks most g)(F:∀p∈g.ls,p∈g0.ls∨p.l<c.l)(V:[VB,Vs.v_])(ls:List Vs.GL)(a:ls.Sublist g.ls)(b:∀p∈g0.ls,¬(p.b=c.b∧p.l=c.l∧p.r=c.r)):Vs.jc m ks most {g with ls:=ls++[c]}:=by
 rw[26,G.comps,[qp],G.Cw,?_,G.done];·rw[139,[d6,R],G.qW p (a.subset h)];·rw[95];exact V
 ·rw[13,RN,[DR,G.apart.sublist a,λ p R q D e=>?_]];simp at D;subst D;rcases F p (a.subset R)with h|h;·exact b p h e
  ·omega
theorem ON{C:ab}{names:[bd]}{M:[aV]}{H:Hp}:[Z7,(∀a∈c,a∉M)→[O3,Zh M H]]|_,_,.nil,_=>.nil|_,_,.cons (a:=a) r t,h=>(.cons (let⟨W,e⟩:=r;⟨W,[rG,e,h a cq]⟩) (ON t λ b K=>h b (cp _ K)))
theorem YG{C:ab}{names:[bd]}{M:[aV]}{H:Hp}{c:[aV]}{B:List du}(h:[O3,Zh M H]):∀a∈c,a∉M:=λ a ha=>by obtain⟨i,O,m⟩:=gY ha;obtain⟨d,_,W,e⟩:=[OR,h,a,O,m];exact[zO].2
theorem OO{F:aS}(I:cw F){H m:Hp}{d:[bp]}(S:bA F H d){i:Nat}{e:KE}(O:d[i]?=Z e){c:Vs.GL}{la W L K r:ab}{D n:[aV]}(B:H e.kn=[gj,F.CK,[La,e.cl,K]])(Q:d8 F.CL dI (Zh (aP F d) H) D [Ty])(P:fX F.CL dI (Zh (aP F d) H) la (eh c))(f:H r=none)(h:m r=Z (.aj (n.map V.ref)))(k:d8 F.CL dI m n (([Ty].filter λ x=>! iy (eh c) x)++[eh c]))(r4:∀a∈n,a∈D∨a=la)(r5:m e.kn=[gj,F.CK,[La,e.cl,r]])(U:[Cm,e.kn,m b])(hG:[MJ,{e.g with ls:=[Vh,c]++[c]}]):bA F m (d.set i {e with g:={e.g with ls:=[Vh,c]++[c]}})∧[QF,d,d]∧[M3,m]:=by
 have l:=bt O;rw[379,[Eh,d],U _ _ this.1 λ w=>this.2 [ap,w,OD l]];obtain⟨dx0,p,u,y,N,v,j,a3,C,a5,a6⟩:=[Eg,l];have R:=[dj,v.symm.trans B];injection R with _ e13 T;have t:=ed (qK (·.2)) T;rw[[X9,BB,fU,[PQ,p,e.cl,u]],[X9,BB,fU,[PQ,L,e.cl,K]]]at t;simp only[R5,V.ref.injEq,pw,true_and]at t;obtain⟨X,e17⟩:=t;subst X;rw[20,S.OH I O _ J J z (λ b o q _ E _=>U b o q E) ⟨W,p,r,y,n,r5,U _ _ j [A4,j,v],[rG,h,S.free f],C.mono (dF z),a5.mono z,?_⟩ hG,z,[Q3,(U _ _ q ([AQ].2.2.2.2 e l).1).trans q.symm]];have G:=ON (M:=aP F d) k λ a ha=>by rw[113,r4 a ha,YG Q a q];·subst q;obtain⟨_,w⟩:=P;exact(bV.mp w).2
 rw[List.filter_map]at G;rw[25,d8 F.CL dI _ n (([Vh,c]++[c]).map eh),cH,G]
theorem YH{F:aS}(I:cw F){H:Hp}{d:[bp]}(S:bA F H d){i:Nat}{e:KE}(O:d[i]?=Z e){c:Vs.GC}{a:ab}{G:[aV]}(Y:H e.cl=Z [JY])(l:(d8 F.CC d7 (Zh (aP F d) H) G (e.g.cs.map (jm F))))(ha:fX F.CC d7 (Zh (aP F d) H) a (jm F c))(K:G.length<aQ)(X:[MJ,{e.g with cs:=e.g.cs++[c]}]):bA F [aa6] (d.set i {e with g:={e.g with cs:=e.g.cs++[c]}})∧ah (Zh (aP F d) H) (Zh (aP F d) [aa6])∧∀x∈F.X,ag H e.cl (.aj ([FF]++[sG])) x=H x:=by
 have M:=bt O;rw[379,Zh (aP F d) [aa6],[cX,λ w=>this.2 [ap,w,OE M],this.1]];obtain⟨p,m,n,r,u,v,f,h,C,j,k⟩:=[Eg,M];rw[20,S.OH I O _ J J z (λ b o q _ _ D=>[cX,D,q]) ⟨p,m,n,G++[a],u,?_,?_,z _ _ h,C.mono (dF z),?_,k.mono z⟩ X,z,λ x A=>ar ([AQ].2.2.2.2 e M).2];·rw[25,ag H e.cl _ e.kn=_,ar [A4,v,f],v]
 ·show ag H e.cl _ e.cl=_;rw[aw,cH];rfl
 ·rw[25,d8 F.CC d7 _ (G++[a]) ((e.g.cs++[c]).map (jm F)),cH,Eu (l.mono z) [o0,ha.mono z]]
theorem ED{F:aS}{l:Nat}{H d M:Hp}{c E:[bp]}{i:Nat}{e1:KE}{Q:Vs.GK}(a:bJ F l H c d E)(O:E[i]?=Z e1)(n:bA F M [Zx])(z:ah (Zh (aP F E) d) (Zh (aP F E) M))(A:∀x∈F.X,M x=d x)(m:Vs.eG l e1.g Q):bJ F l H c M [Zx]:=by
 have N:aP F [Zx]=aP F E:=OG O J J;have o:=[d0,O];rw[18,n,[ap,N,a.z.trans z],λ j e h=>?_,λ x q=>[f8,A,x,q,a.xs x q]];obtain⟨k,b,r,P,f⟩:=a.ext j e h;by_cases q:j=i;·subst q;rw[O]at b;rw[6,b,⟨_,qx o,r,P,f.trans m⟩]
 ·rw[9,k,[ap,yA (λ w=>q w.symm),b],r,P,f]
theorem YI{ks:[dA]}{k:Nat}{b:Vs.bx}{c:[ak]}(h:Vs.cF ks k≤b k):[aas]:=⟨k,cq,[e9,RQ]⟩
theorem OP{F:aS}(I:cw F){m:Vs.GK}(A:[MJ,m]){B:Nat}{b:Vs.bx}{l r w s:Nat}(Y:[Bi,F.ks,B,b])(o:[Ro,b])(p:[adY,m.cs])(T:l≤w)(G:r≤s)(h:[lm,w]∧[lm,s])(pI:[VH,Vs.cM F.m F.ks m.c0 m.steps cs,w,Vs.cg,Vs.b0 F.ks,s,Vs.eF,Vs.cF F.ks,b]):Vs.v_ F.m F.ks F.most m.c0 m.steps ⟨B,w,s,b,l,r⟩:=by
 rw[53,Y,pI,T,G,h,⟨λ cs g a P=>pI cs g (bf a T) (bf P G),[yf],[yf]⟩,o];·obtain⟨c,V,n,X,f⟩:=p k C;have:=A.comps c V;rw[37,c.cs,this.comp,n,X,this.at_.fx,f]
 ·exact Y.out k (by unfold Vs.dr;rw[4,aC,C])
theorem OQ{F:aS}{m:Vs.GK}(A:[MJ,m]){b:Vs.bx}{l r:Nat}(T:[ad7,m.cs]):[aX,m.c0]:=by cases e:m.c0 with|false=>rfl|true=>obtain⟨c,V,H⟩:=A.done e;rw[35,T c V [ap,H,b7 _] [ap,H,b7 _],H];obtain⟨k,C,_⟩:=this;cases C
section
variable{P:aY}{w:aU}{K:aF}{mg:[a_]}{base:aE}
theorem YJ{F:aS}(I:cw F)(G:[y8]){fS:ab}{z:bq}(MS:[Uu,fS,z]):aA P w K mg base aG 19 fS z [NO] (EC F 0):=by
 have nd:=Aj.nd;obtain⟨fL,N,l⟩:=G.iL;obtain⟨fa,X,t⟩:=G.OL;obtain⟨fc,fdc,Mc⟩:=G.OK;obtain⟨uB,hB,rB⟩:=G.cB;have GL:aA P w K mg base aG 1 fL N [E7] (r_ F.CL dI):=Ep l G.TL;have Ga:aA P w K mg base aG 2 fa X [PV] (Ex F.CK F.CL):=Oy t G.TK Mc G.TL;rw[318];obtain⟨gs,i,e,B,b,r,rfl,S,O,hT,o,T,D,a,k⟩:=h;have f:cy 2 _:=[wu,2,18];rw[74,cI [vZ,e_,3,bu] (aK (j0 [pT,pv 1,G.TK.cl,t.me,Ga,f,t.b,[Mi,l.ma,GL,f,G.TL.mg,l.b,pv 2,bu,ak (b8 J hB rB) aB],aB]) (aN Lg)) cQ,Lh];have M:=bt O;obtain⟨dx,st,ll,cas,las,a1,a2,a3,a4,a5,a6⟩:=[Eg,M];have j:=(S.kn e M).2;have L:=OQ j T;have hro:=iV.room o;rw[49,J,_,J,aV ⟨_,J,e.kn,dx,_,J,a1,[em],_,J,[QS,(B,0,1000),J]⟩];obtain⟨Y,t1⟩:=[U8,0,1000,S];have y:=S.grow I Y;obtain⟨m,u,U,cas1,W,V,b2,b3,b4,b5,R⟩:=(y.kn e M).1.ex;refine⟨e.kn,m,u,e.cl,U,x,W,[Ty],(B,0,1000),J,V,bp _ _ b3,R.mono bp,t1.mono bp,?_,[ach]⟩;·have g:=er R;rw[aC]at g;rw[4,g,bf (RW (j.K4 I.K) 1) [bj]]
 ·have v:Vs.v_ F.m F.ks F.most e.g.c0 e.g.steps [V4]:=OP I j hT o D (ba _) [ac] [My,[ac]] λ cs g h2 h3=>by cases cs with|nil=>rw[L]at g;cases g|cons k c=>simp at h2
  have hG:=OM (g0:=e.g) (c:=[V4]) j (λ p hp=>.inl hp) v [Vh,[V4]] Bs a;obtain⟨S2,z2,x2⟩:=OO I y O (c:=[V4]) (la:=x) V R t1 r1 r2 r3 r4 r5 r6 hG;have n:=[d0,O];rw[287,ED (bJ.grow I 0 S Y) O S2 z2 x2 [aae,λ c hc=>?_],n,b7 _,by rw[19,[lm,r]]]
end
end VP
end
section
namespace VP
open PySem L2
section
variable{P:aY}{w:aU}{K:aF}{mg:[a_]}{base:aE}
theorem OR(a b:Nat):[UV,b,a]=[aN,min a b]:=by
 by_cases h:b<a;·rw[(aI [ac]),Jd [ac]]
 ·rw[aD [ac],yJ [ac]]
def vb(F:aS)(b:Vs.bx)(w s:Nat)(p:[FS]):Prop:=∀c,(([Pc,p.2,c])→(p.1::c).length≤w→[pF,p.1::c]≤s→(Vs.eF (Vs.cF F.ks) (p.1::c) b))
theorem vb.mono{F:aS}{b:Vs.bx}{w s m d:Nat}{p:[FS]}(h:vb F b w s p)(g:m≤w)(r:d≤s):vb F b m d p:=λ c V n X=>h c V (bf n g) (bf X r)
theorem YK{F:aS}(I:cw F)(G:[y8]){n:Nat}{fS fW:ab}{fdS fdW:bq}(MS:[Uu,fS,fdS])(MW:[XV,fW,fdW])(GW:aA P w K mg base aG (3*n+21) fW fdW [PH] (OI F (n+1))):aA P w K mg base aG (3*n+22) fS fdS [NO] (EC F (n+1)):=by
 have nd:=Aj.nd;obtain⟨fL,fdL,IL⟩:=G.iL;obtain⟨fa,fda,Ma⟩:=G.OL;obtain⟨fc,fdc,Mc⟩:=G.OK;obtain⟨fu,fdu,Mu⟩:=G.used;obtain⟨uB,hB,rB⟩:=G.cB;have GL:aA P w K mg base aG 1 fL fdL [E7] (r_ F.CL dI):=Ep IL G.TL;have Ga:aA P w K mg base aG 2 fa fda [PV] (Ex F.CK F.CL):=Oy Ma G.TK Mc G.TL;have Gu:aA P w K mg base aG 1 fu fdu [A3] (Oh F.bN):=Yp Mu G.eu;rw[318];obtain⟨gs,i,e,B,b,r,rfl,S,hi,hT,O,hits,weak,new,k⟩:=h;have hr2:cy 2 _:=[wu,2,3*n+21];rw[109,3*n+21];rw[74,cI [vZ,e_,3,bu] Lh cQ,[JN,5,b8 J hB rB,6,b8 J hB rB,aK [UA,CW [Aj],7,8,[NX,9,fQ ni [eq] (pv 7) (λ _ _=>J),cI (rg (iH [pT,pv 9,G.eu.cl,Mu.me,Gu,hr1,Mu.b,pv 2,aB])) [we,10,[pT,pv 0,G.cZ.cl,MW.me,GW,hr,MW.b,pv 9,ak (pv 8) (ak (pv 2) [LW])],cI (iH [aa5,[uj,10,[Y7]]]) (aK (j0 [Uv,[Aj],10]) (aN Lg)) cQ,[NX,5,[aeS,5],[xQ,6,[aeS,6]]]] cQ]] (aN (j0 [pT,pv 1,G.TK.cl,Ma.me,Ga,hr2,Ma.b,[Mi,IL.ma,GL,hr2,G.TL.mg,IL.b,pv 2,pv 5,[jC,6]],aB]))]];have hem:=bt hi;obtain⟨dx,st,ll,cas,las,a1,a2,a3,⟨vs,hvs,T⟩,a5,a6⟩:=[Eg,hem];have G0:=(S.kn e hem).2;have hend:=OQ G0 hits;have hro:=iV.room O;have hm12:=I.K.most;obtain⟨Y,hU0,hof⟩:=S.of e hem;have kx:K=(gy aG P w K mg base [acB] [U3] (aZ oO) fS cdv A outer s H E).jZ.K:=J;refine[Du];have e0:[Oa,[Dv,n+1]=(V.int 0)]:=by rw[mh];rw[17]
 show[Aa,[aK,[Dv,n+1]=(V.int 0)]];rw[13,e0,a_ ⟨_,J,e.kn,F.CK,dx,_,_,J,a1,G.TK.cl,G.TK.na 0 _ J,[ov,G.TK.nd,0],st,J,[eD,[Dy,bp,hvs]],[sK,CY,st,vs,λ j σ H'=>∃(gs':[bp])(wd sz:Nat)(v7 v8 v9 v10:[dE]),[lk,σ=[Z [Cf],Z [Cg],Z (nV B),Z (nV (n+1)),Z (nV r),Z (nV wd),Z (nV sz),v7,v8,v9,v10],bJ F n H gs H' gs',n+1≤wd,[lm,wd],r≤sz,[lm,sz],∀W p,W<j→e.g.steps[W]?=Z p→vb F b wd sz p],⟨gs,1000,1000,none,none,none,none,J,bJ.refl n S,[ac],[ac],[ac],[ac],λ W p h=>[gh,h,Nat.not_lt_zero _]⟩,λ j σ H' _⟨gs',_,_,_,_,_,_,_,D,_⟩=>[Dy,bp,D.z _ _ hvs]]⟩]
 ·rintro j y σ H1 hj⟨gs1,wd,sz,v7,v8,v9,v10,rfl,D,w1,w2,w3,w4,hst⟩;obtain⟨⟨f,tt⟩,hp,pa,sa,rfl,hpa,hsa⟩:=d6 T hj;have m:=D.st;have hpa1:=D.z _ _ hpa;have hsa1:=hsa.mono (dF D.z);have hmem:(f,tt)∈iA F Y:=[cm,hof.2,bt hp];obtain⟨hkl,htg⟩:=Ez.mp hmem;have hUt:=I.u_ Y f tt hU0 hkl htg;have ek:=bX hkl;generalize F.ks[f]=kd at ek;obtain⟨p,nu,sh,hkp,⟨dk,hk⟩,_,_⟩:=m.kinds.at_ f kd ek;have hk:=bp _ _ hk;obtain⟨dco,L⟩:=m.co;have L:=bp _ _ L;have ecap:[AD,f]=kd.count:=Vs.qV ek;rw[3,[Ue,pa,bp _ _ hpa1],⟨_,J,F.co,F.bo,dco,_,_,J,L,G.cZ.cl,[CU,1],[Dd,1],_,J,F.ka,_,_,_,J,J,[nh,bp,m.ka],at_of (j:=f) (v:=(V.ref p)) J [jh,cJ,hkp],_,J,p,dk,_,J,hk,[em],_,J,p,nu,sh,kd,B,J,⟨dk,hk⟩,_,J,?_⟩];have used:=Vs.T6 I.K.sep hT (Vs.iF ek);have step:∀{wd' sz':Nat},(wd'≤wd→sz'≤sz→vb F b wd' sz' (f,tt)→∀W q,W<j+1→e.g.steps[W]?=Z q→vb F b wd' sz' q):=λ g h2 hq W q hj' hq'=>by
   by_cases z:W<j;·exact(hst W q z hq').mono g h2
   ·have:W=j:=[ac];subst this;rw[hp]at hq';rw[6,hq',hq]
  by_cases hus:B&&&Vs.bS kd.bl=Vs.bS kd.bl;·rw[13,bK hus,a_ ⟨gs1,wd,sz,_,_,_,_,J,D,w1,w2,w3,w4,step (ba _) (ba _) λ c _ _ _=>YI ?_⟩];have:b f=kd.count:=used.mp hus;show[AD,f]≤b f;omega
  ·rw[bW hus];have hbk:b f<[AD,f]:=by have g:=hT.le f _ (Vs.iF ek);have h2:b f≠kd.count:=(λ z=>hus (used.mpr z));have g:b f≤kd.count:=g;omega
   rw[33,⟨_,J,F.co,dco,_,J,L,[em],_,J,_,J,_,J,_,J,_,J,gs1,f,p,sa,tt,B,b,r,J,m,hkp,hsa1,hUt,hT,hbk,[ac],O,λ a cs N H2 gs2 o u=>?_,λ a d H2 gs2 o u=>?_⟩]
   ·have U:=D.trans o;have S2:=o.st;obtain⟨e2,he2,ekn,ecl,R⟩:=U.ext i e hi;have hem2:=bt he2;obtain⟨dx2,st2,ll2,cas2,las2,b1,b2,b3,b4,b5,b6⟩:=(S2.kn e2 hem2).1.ex;have G2:=(S2.kn e2 hem2).2;obtain⟨da,ha⟩:=u.at_;have M:=bp _ _ ha;rw[ekn]at b1;obtain⟨c,ec,hcs⟩:=u.comp;have hcomp:Vs.cM F.m F.ks e2.g.c0 e2.g.steps cs:=by rw[ec];rw[55,⟨tt,?_,hkl,hcs⟩,R.steps,bt hp]
    have hbar:Vs.bZ F.ks.length b+(n+1)≤12:=by obtain⟨ee,xx,q1,_⟩:=O;omega
    have hgc:Vs.Cv F.m F.ks F.most e2.g.c0 e2.g.steps ⟨cs,N,b,n+1,r⟩:=⟨hcomp,u.jw,⟨u.oy,u.fx,u.words,u.size,hro.1,hbar,λ j=>Vs.Ub hT j,u.free⟩⟩;have hG:=G2.Ud (g0:=e.g) (c:=⟨cs,N,b,n+1,r⟩) (l:=n) R (qB n) hgc λ q hq g h2=>hits q hq g h2
    have hlen:cas2.length<aQ:=by have g:=er b5;rw[aC]at g;rw[4,g,eR (G2.Cy I.K) [bj]]
    rw[3,⟨_,J,[bi],F.CC,_,true,J,G.nB.ty M,G.nB.nA,_,J,aV ?_⟩,⟨_,J,e.kn,F.CK,dx2,_,_,J,b1,G.TK.cl,G.TK.na 1 _ J,[ov,G.TK.nd,1],[C_,b2],_,J,e2.cl,_,_,J,J,b2,[nj,hlen],?_⟩];obtain⟨S3,z3,x3⟩:=YH I S2 he2 (c:=⟨cs,N,b,n+1,r⟩) (a:=a) b2 b5 ⟨da,ha⟩ hlen hG;have hil:=[d0,he2];refine k _ _ _ (ED (U.mono (vL n)) he2 S3 z3 x3 ⟨J,J,⟨[_],J,λ q hq=>?_⟩,λ q hq=>.inl hq⟩) (qx hil) (.inl ?_);·simp at hq;subst hq;exact ba _
    ·obtain⟨nw,hnw,_⟩:=R.cs;show e.g.cs.length<(e2.g.cs++[_]).length;rw[hnw,dh,dh];rw[17]
   ·have U:=D.trans o;obtain⟨da,ha⟩:=u.at_;have M:=bp _ _ ha;rw[3,⟨_,J,[bi],F.CC,_,false,J,G.nE.ty M,G.nE.nA,_,J,a_ ?_⟩,⟨_,J,_,J,a,F.CL,da,_,_,J,M,G.TL.cl,G.TL.na 1 _ J,[ov,G.TL.nd,1],_,_,J,_,J,_,J,a,F.CL,da,_,_,J,M,G.TL.cl,G.TL.na 2 _ J,[ov,G.TL.nd,2],_,_,J,?_⟩];have r1:=u.words;have r2:=u.size;refine⟨gs2,min wd d.2.1,min sz d.2.2,Z (nV f),Z [rs],[Cq],[lA],?_,U,[ac],[ac],[ac],[ac],step (Sn _ _) (Sn _ _) λ c hc q1 q2=>?_⟩;·show[[im,F.co],[im,e.kn],Z (nV B),Z (nV (n+1)),Z (nV r),Z (V.int [UV,d.2.1,wd]),Z (V.int [UV,d.2.2,sz]),Z (nV f),[im,sa],[im,p],[im,a]]=_;rw[OR,OR]
    ·exact u.pI _ ⟨c,J,hc⟩ (bf q1 (Sh _ _)) (bf q2 (Sh _ _))
 ·rintro σ H1⟨gs1,wd,sz,v7,v8,v9,v10,rfl,D,w1,w2,w3,w4,hst⟩;have m:=D.st;obtain⟨e1,he1,ekn,ecl,R⟩:=D.ext i e hi;have X:=bt he1;obtain⟨dx1,st1,ll1,cas1,las1,b1,_⟩:=(m.kn e1 X).1.ex;rw[ekn]at b1;refine⟨_,J,e.kn,dx1,_,J,b1,[em],_,J,_,J,_,J,[QS,(B,wd,sz),J]⟩;obtain⟨s2,t2⟩:=[U8,wd,sz,m];have S2:=m.grow I s2;obtain⟨dx2,st2,ll2,cas2,las2,c1,c2,c3,c4,c5,c6⟩:=(S2.kn e1 X).1.ex;have G1:=(S2.kn e1 X).2;refine⟨e1.kn,dx2,st2,e1.cl,ll2,x,las2,e1.g.ls.map eh,(B,wd,sz),[fy,ekn],c1,bp _ _ c3,c6.mono bp,t2.mono bp,?_,[ach]⟩;·have g:=er c6;rw[aC]at g;rw[4,g,bf (RW (G1.K4 I.K) 1) [bj]]
  ·have hgl:Vs.v_ F.m F.ks F.most e.g.c0 e.g.steps [VN]:=OP I G0 hT O weak w1 w3 ⟨w2,w4⟩ λ cs g h2 h3=>by cases cs with|nil=>rw[hend]at g;cases g|cons f c=>obtain⟨t,q1,q2,q3⟩:=g;obtain⟨j,hj,ej⟩:=gY q1;have hjv:j<vs.length:=[ap,er T,hj];exact hst j (f,t) hjv (by rw[bX hj,ej]) c q3 h2 h3
   rw[←R.c0,←R.steps]at hgl;have hG:=OM (g0:=e.g) (c:=[VN]) G1 (λ p hp=>(R.ls p hp).imp id (λ z=>Nat.lt_succ_of_le z)) hgl (e1.g.ls.filter λ x=>! iy (eh [VN]) (eh x)) Bs new;obtain⟨S3,z3,x3⟩:=OO I S2 he1 (c:=[VN]) (la:=x) c1 c6 t2 r1 r2 r3 r4 r5 r6 hG;have hil:=[d0,he1];rw[287,ED ((D.mono (vL n)).trans (bJ.grow I (n+1) m s2)) he1 S3 z3 x3 [aae,λ c hc=>?_],hil,w1,w3]
end
end VP
end
section
namespace VP
open PySem L2
def mx(l:[ak]):Nat:=l.foldr max 0
theorem OS{x:Nat}:∀{l:[ak]},x<mx l↔∃y∈l,x<y|[]=>[bn,mx]|a::l=>by have T:=OS (x:=x) (l:=l);show x<max a (mx l)↔_;have N:x<max a (mx l)↔x<a∨x<mx l:=[ac];rw[N,T];simp
def mz(ks:[dA])(S:[ak])(k:Nat):Nat:=[DX,ks[k]?,N,mx ((S.filter (rZ N)).map λ s=>s+1-N.place),0]
theorem xY{ks:[dA]}{S:[ak]}{k x:Nat}{N:Vs.Kd}(h:ks[k]?=Z N):x<mz ks S k↔∃s∈S,N.place≤s∧s<[FU]∧N.place+x≤s:=by
 unfold mz;rw[h];show x<mx _↔_;rw[32,OS];·rintro⟨y,a,A⟩;obtain⟨s,G,rfl⟩:=[bE,a];have G:=[FB,G];have K:=G.2;simp[rZ]at K;rw[9,s,G.1,K.1,K.2,[ac]]
 ·rintro⟨s,G,g,r,P⟩;rw[1,s+1-N.place,[iI,s,[Rc,G,by simp[rZ,g,r]]],[ac]]
theorem YL{ks:[dA]}(Sp:[Kp]){T:Nat}{t:Vs.bx}(Y:[Bi,ks,T,t]){cs:List Vs.GC}(v:∀c∈cs,Vs.l6 (Vs.dr ks) c.jw (λ k=>c.cs.count k)∧∀k∈c.cs,[wO,k]){B:Nat}(h:Vs.Cz (runOf ks) (cs.map λ c=>c.jw&&&T) B):∃b:Vs.bx,[Bi,ks,B,b]∧(∀k,b k≤t k)∧(∀c∈cs,Vs.eF (Vs.cF ks) c.cs b)∧∀k,0<b k→∃c∈cs,[abm,ks]:=by
 obtain⟨S,a,r,P,h4⟩:=h;have o:∀s∈S,∃i N,[qv]=Z N∧N.place≤s∧s<N.place+t i∧t i≤N.count:=λ s G=>by obtain⟨g,e,K⟩:=a s G;obtain⟨c,V,rfl⟩:=[bE,e];have M:=((Vs.jb _ _ _).mp K).2;obtain⟨i,x,A,n,X⟩:=(Y.bit s).mp M;rw[165,A];rw[37,i,N,C,n,X,Y.le i _ A]
 have H:[Bi,ks,B,mz ks S]:=by
  rw[20,λ x=>?_,λ i y d=>?_,λ i O=>?_]
  ·rw[32,r x];·rintro⟨s,G,A⟩;obtain⟨i,N,C,n,X,q3⟩:=o s G;have:=(Am Sp C n [ac] x).mp A;have l:x-N.place<mz ks S i:=(xY C).mpr ⟨s,G,n,[ac],[ac]⟩;rw[9,i,N.bl,Vs.iF C,this.1,by rw[19,x<N.place+_]]
   ·rintro⟨i,y,d,n,X⟩;rw[165,d];have n:N.place≤x:=n;have X:x<N.place+mz ks S i:=X;obtain⟨s,G,f,m,p⟩:=(xY (S:=S) (x:=x-N.place) C).mp [ac];rw[1,s,G,(Am Sp C f m x).mpr [My,n]]
  ·rw[165,d];apply kT;intro z;have z:¬mz ks S i≤N.count:=z;obtain⟨s,_,f,m,p⟩:=(xY (S:=S) (x:=N.count) C).mp [ac];omega
  ·unfold mz;rw[sQ (by unfold Vs.dr at O;rw[aC]at O;exact O)]
 have L:∀k,mz ks S k≤t k:=λ k=>by cases C:ks[k]? with|none=>unfold mz;rw[4,C,b7 _]|some N=>apply kT;intro z;obtain⟨s,G,f,m,p⟩:=(xY (S:=S) (x:=t k) C).mp [ac];obtain⟨i,W,Q,n,X,q3⟩:=o s G;rw[91,Sp.uniq (Vs.iF Q) (Vs.iF C) n [vY,s<W.place+W.count] f m];rw[C]at Q;cases Q;omega
 rw[26,mz ks S,H,L,λ c V=>?_,[yf]];·obtain⟨E,D⟩:=v c V;obtain⟨x,x1,x2⟩:=Vs.jU.mp (P _ [iI,c,V]);apply kT;intro z;rw[8,(Vs.K3 Sp H E D).mpr z,[Pv,x,((Vs.jb _ _ _).mp x1).1,x2]]
 ·cases I:ks[k]? with|none=>unfold mz at C;rw[I]at C;rw[67,C]|some N=>obtain⟨s,G,f,m,p⟩:=(xY (x:=0) I).mp C;obtain⟨g,e,q⟩:=h4 s G;obtain⟨c,V,rfl⟩:=[bE,e];rw[20,c,V,λ j U l=>?_];obtain⟨E,D⟩:=v c V;have w:=D j U;have u:=bX w;generalize ks[j]=F at u;rw[Vs.qV u]at l;have R:0<[O5]:=[VT,U];have hcl:[O5]≤F.count:=E.le j _ (Vs.iF u);have nb:c.jw.testBit ([Pe]-[O5])=true:=(E.bit _).mpr ⟨j,F.bl,Vs.iF u,R,by rw[19,_+_=[Pe]]⟩;have bb:B.testBit ([Pe]-[O5])=true:=(H.bit _).mpr [acG];have hlj:=L j;have tb:T.testBit ([Pe]-[O5])=true:=(Y.bit _).mpr [acG];rw[51,(Am Sp I f m _).mp (q _ ((Vs.jb _ _ _).mpr ⟨nb,tb⟩) bb),Sp.uniq (Vs.iF u) (Vs.iF I) [vY,F.place≤[Pe]-[O5]] [vY,_<[Pe]] this.1 (by rw[19,_<[FU]])]
theorem YM{ks:[dA]}(fx:[Xt]){T:Nat}{t:Vs.bx}(Y:[Bi,ks,T,t]):T<2^64:=by
 refine Nat.lt_pow_two_of_testBit T λ i O=>?_
 cases e:T.testBit i with|false=>rfl|true=>obtain⟨j,x,A,n,X⟩:=(Y.bit i).mp e;rw[165,A];have g:=fx N (bt C);have r:t j≤N.count:=Y.le j _ A;have X:i<N.place+t j:=X;omega
theorem YN{ks:[dA]}(Sp:[Kp])(fx:[Xt]){T N:Nat}{t:Vs.bx}(Y:[Bi,ks,T,t])(h:N&&&T≠0):Ee (runOf ks) (xT ks) (N&&&T):=by rw[20,h,eR Nat.and_le_right (YM fx Y),λ i O=>?_];obtain⟨j,x,A,n,X⟩:=(Y.bit i).mp ((Vs.jb _ _ _).mp O).2;obtain⟨a,C,rfl⟩:=Vs.pH A;have r:t j≤a.count:=Y.le j _ A;have n:a.place≤i:=n;have X:i<a.place+t j:=X;rw[0,⟨j,a,C,n,[ac]⟩,(Am Sp C n [ac] i).mpr ⟨n,ba _⟩]
theorem YO{ks:[dA]}{most l r:Nat}{b t:Vs.bx}(M:∀k∈ks,k.size≤24)(h:Vs.iV ks most t l r)(K:∀k,b k≤t k):Vs.iV ks most b l r:=by
 obtain⟨e,x,g,a,P⟩:=h;have d:∀n,[ym,b]+[JT,t k-b k]=[ym,t]:=λ n=>[cm,Vs.Cg,Vs.pD λ k _=>by rw[10,K k]]
 have d2:∀n,[JT,b k*[Nq]]+[JT,(t k-b k)*[Nq]]=[JT,t k*[Nq]]:=λ n=>by
  rw[←Vs.Cg];refine Vs.pD λ k _=>?_
  rw[←BR];congr 1;rw[10,K k]
 have d3:∀n,[JT,(t k-b k)*[Nq]]≤24*[JT,t k-b k]:=λ n=>by
  induction n with
   |zero=>exact ba _
   |succ n T=>
    show[ym,_]+(t n-b n)*Vs.b0 ks n≤24*([ym,_]+(t n-b n));have G:Vs.b0 ks n≤24:=by unfold Vs.b0;cases q:ks[n]? with|none=>exact b7 _|some k=>exact M k (bt q)
    have:(t n-b n)*Vs.b0 ks n≤(t n-b n)*24:=R4 _ G;omega
 rw[26,e+Vs.bZ ks.length (λ k=>t k-b k),x+Vs.bZ ks.length (λ k=>(t k-b k)*[Nq]),?_,?_,?_];·rw[10,d ks.length]
 ·unfold Vs.mW at*;rw[10,d2 ks.length]
 ·rw[10,d3 ks.length]
theorem YQ{bC:Vs.bx}{cs:[ak]}{b t:Vs.bx}(h:Vs.eF bC cs b)(K:∀k,b k≤t k):Vs.eF bC cs t:=by obtain⟨k,g,r⟩:=h;rw[1,k,g,by rw[10,K k]]
end VP
end
section
namespace VP
open PySem L2
section
variable{P:aY}{w:aU}{K:aF}{mg:[a_]}{base:aE}
theorem YR{F:aS}(I:cw F){H:Hp}{f:[bp]}(S:bA F H f){i:Nat}{e:KE}(O:f[i]?=Z e){T:Nat}{t:Vs.bx}(Y:[Bi,F.ks,T,t])(l r:Nat){Q:VK}{E:XK}(n:∀a cs N,[Ae,EA F (Zh (aP F f) H) a [Vg] t l r cs N,H])(k:∀a d,EB F (Zh (aP F f) H) a [Vg] t l r d→d.2.1≤1000→[Ae,[lm,d.2.2],H])(m:([P2,e.g.ls,i5,eh c])→([P2,e.g.cs,j6,jm F c])→Q .bh H):u7 F.CK F.CC F.CL [[Cg],nV T,nV l,nV r] H Q E:=by
 have M:=bt O;obtain⟨W,L,K,G,D,v,w,a3,a4,s,u⟩:=[Eg,M];have A:=(S.kn e M).2;refine⟨e.kn,W,L,e.cl,K,G,D,e.g.cs.map (jm F),[Ty],T,l,r,J,v,w,bp _ _ a3,s.mono bp,u.mono bp,λ j a d U h X=>?_,λ _ j a d U h V=>?_,λ g b=>m (λ c V=>g _ [iI,c,V]) λ c V=>b _ [iI,c,V]⟩;·obtain⟨d',q,y⟩:=d6 u U;rw[90,h];rw[cJ]at h;cases V:e.g.ls[j]? with|none=>rw[43,V]|some c=>rw[V]at h;have h:=[wv,h];subst h;have z:=A.qW c (bt V);unfold i5 at X;simp only[dO,dw]at X;obtain⟨o,p,B⟩:=X;have R:=(Vs.Cu I.K.sep z.taken Y).mp o;exact k a _ ⟨y,p,B,⟨by show c.words≤1001;rw[10,z.zp.1],by show c.size≤1100;rw[10,z.zp.2]⟩,λ cs g b P=>YQ (z.pI cs g b P) R⟩ z.zp.1 z.zp.2
 ·obtain⟨d',q,y⟩:=d6 s U;rw[90,h];rw[cJ]at h;cases x:e.g.cs[j]? with|none=>rw[43,x]|some c=>rw[x]at h;have h:=[wv,h];subst h;have C:=A.comps c (bt x);unfold j6 at V;simp only[dO,dw]at V;obtain⟨o,p,B⟩:=V;exact n a c.cs c.jw ⟨y,C.comp,C.at_.oy,C.jw,C.at_.fx,p,B,(Vs.K3 I.K.sep Y C.jw C.at_.oy).mp o⟩
theorem OT{C CC CL:ab}{U:[aw]}{H:Hp}{Q I:VK}{E T:XK}(h:u7 C CC CL U H Q E)(m:∀v H,Q v H→I v H):u7 C CC CL U H I T:=by obtain⟨p,W,L,N,K,G,D,cs,B,t,l,r,g,b,P,w,c,j,k1,k2,k3⟩:=h;exact⟨p,W,L,N,K,G,D,cs,B,t,l,r,g,b,P,w,c,j,λ i a d n X f=>m _ _ (k1 i a d n X f),λ z i a d n X f=>m _ _ (k2 z i a d n X f),λ k e=>m _ _ (k3 k e)⟩
theorem OU{F:aS}(I:cw F)(G:[y8]){l rm:Nat}{fA fS fp:ab}{fdA fdS fdp:bq}(MA:[XO,fA,fdA])(MS:[Uu,fS,fdS])(Dp:[eY,[Nm],qb,fp,fdp,[tN]])(Gp:aA P w K mg base aG 5 fp fdp [tN] (xR F.Pt))(hrm:5≤rm)(GS:aA P w K mg base aG rm fS fdS [NO] (EC F l)):aA P w K mg base aG (rm+1) fA fdA [K3] (Ar F l):=by
 have nd:=NL.nd;obtain⟨fw,fdw,Mw⟩:=G.YC;obtain⟨fh,fdh,Mh⟩:=G.w9;have Gw:aA P w K mg base aG 1 fw fdw [zV] (u7 F.CK F.CC F.CL):=Yw Mw G.TK G.TC G.TL G.B;have Gh:aA P w K mg base aG 1 fh fdh [zV] (OA F.CK F.CC):=Yx Mh G.TK G.TC;rw[57,MA.fn.ok,NL];·obtain⟨gs,i,e,T,t,r,rfl,_⟩:=h;rfl
 obtain⟨gs,i,e,T,t,r,rfl,S,hi,hT,hbud,kC,kL⟩:=h;rw[109,rm];have hr5:cy 5 _:=hr.mono hrm;rw[22,[Dz,5,[aeU],t9 dX [vZ,C6,5,pL] (aK (j0 [pT,pv 0,G.cZ.cl,MS.me,GS,hr,MS.b,pv 1,ak [DE,Gp,hr5,Dp.mg,Dp.fn.kp,Dp.b,[pT,pv 1,G.TK.cl,Mh.me,Gh,hr1,Mh.b,pv 2,[LW]],ak [eq] aB] [LW]]) (aN [xQ,5,[aeU]]))]];have knAt:∀{f:Hp}{D:[bp]}{j:KE},(bA F f D→D[i]?=Z j→j.kn=e.kn→∃dx st ll,f e.kn=Z (.ins F.CK dx (fU.zip [J7,st,j.cl,ll]))):=λ S' h' ek=>by obtain⟨dx,st,ll,_,_,a1,_⟩:=(S'.kn _ (bt h')).1.ex;rw[ek]at a1;rw[21,dx,st,ll,a1]
 let W:[Be]:=λ m σ f=>∃(D:[bp])(j:KE)(fv:V),[jS,σ=[Z [Cf],Z [Cg],Z (nV T),Z (nV l),Z (nV r),Z fv],bJ F l H gs f D,D[i]?=Z j,j.kn=e.kn,Vs.eG l e.g j.g,(fv=.bh∧m=2105088-j.g.cs.length∧[P2,j.g.ls,i5,eh c]∧[P2,j.g.cs,j6,jm F c])∨(∃a,fv=[bi]∧m=0∧Q [bi] f)]
 have ask:∀(f:Hp)(D:[bp])(j:KE)(v5:[dE])(M:[Do]),[cI,bJ F l H gs f D,D[i]?=Z j,j.kn=e.kn,Vs.eG l e.g j.g,(M 0)→(([P2,j.g.ls,i5,eh c])→([P2,j.g.cs,j6,jm F c])→M (2105088-j.g.cs.length))→u7 F.CK F.CC F.CL [[Cg],nV T,nV l,nV r] f [abq] E0]:=λ f D j v5 M n u ek hg m0 m1=>by rw[50,YR (E:=E0) I n.st u hT l r (Q:=[abq]) (λ a cs N res=>[aev,kC a cs N f D n (by rw[←hg.c0,←hg.steps];exact res)]) (λ a d res g h2=>[aev,kL a d f D n (by rw[←hg.c0,←hg.steps];exact res) g h2]) (λ g h2=>⟨_,m1 g h2,D,j,.bh,J,n,u,ek,hg,.inl ⟨J,J,g,h2⟩⟩),ek]
 obtain⟨dx,st,ll,a1⟩:=knAt S hi J;refine⟨_,J,e.kn,dx,_,J,a1,[em],_,J,_,J,_,J,?_⟩;dsimp only[gw];refine OT (ask H gs e none (λ _=>True) (bJ.refl l S) hi J (Vs.eG.refl _ _) mU λ _ _=>mU) λ v H1 hv=>?_
 obtain⟨m,_,hW⟩:=hv;rw[24,W,⟨m,hW⟩];clear hW;rintro m σ H1⟨gs1,e1,fv,rfl,n,he1,R,hg1,hcase⟩;rw[49,J,_,J,?_];rcases hcase with⟨rfl,hm,hl,hc⟩|⟨a,rfl,hm,q⟩
 ·rw[13,[db,[aK,V.bh=V.bh],true,bK J],aV [pv,λ σ' f=>∃m',m'<m∧W m' σ' f,λ _ _ h=>h]];have S1:=n.st;have L:=bt he1;have G1:=(S1.kn e1 L).2;obtain⟨dx1,st1,ll1,cas1,las1,b1,b2,b3,b4,b5,b6⟩:=(S1.kn e1 L).1.ex;rw[R]at b1;obtain⟨dco,hco⟩:=S1.co;have hco:=bp _ _ hco;have hcl:=G1.Cy I.K;have hlen:cas1.length=e1.g.cs.length:=by rw[50,er b5,aC]
  refine⟨_,J,F.co,dco,_,J,hco,[em],_,J,_,J,e.kn,dx1,_,J,b1,[em],_,J,_,J,_,J,e.kn,dx1,st1,e1.cl,ll1,cas1,e1.g.cs.map (jm F),T,l,r,J,b1,b2,b5.mono bp,[ap,hlen,[oM,hcl]],λ ha H2 hfree Y s2=>?_⟩;generalize y:(e1.g.cs.filter λ c=>mv l r (jm F c))=O;have ehits:((e1.g.cs.map (jm F)).filter (mv l r)).map (λ d=>d.1&&&T)=O.map λ c=>c.jw&&&T:=by rw[List.filter_map,cP,←y];rfl
  rw[ehits]at Y;have U:∀c∈O,c∈e1.g.cs∧c.cs.length≤l∧[pF,c.cs]≤r:=λ c x=>by rw[←y]at x;have q:=[FB,x];have q2:=q.2;unfold mv at q2;simp only[dO,dw]at q2;rw[1,q.1,q2.1,q2.2]
  have S2:=S1.grow I s2;obtain⟨dco2,C⟩:=S2.co;have C:=bp _ _ C;have hflen:O.length≤e1.g.cs.length:=[cm,y,nO _ _];refine⟨_,J,F.co,F.bo,dco2,_,_,J,C,G.cZ.cl,[CU,2],[Dd,2],ha,F.r,O.map (λ c=>c.jw&&&T),runOf F.ks,xT F.ks,J,Y,[nj,bf hflen [oM,hcl]],S2.runs.same bp,λ h hh=>?_,S2.tab,λ B H3 hsp keep tab=>?_⟩;·obtain⟨c,x,rfl⟩:=[bE,hh];refine YN I.K.sep I.fx hT [wP];obtain⟨f1,f2,f3⟩:=U c x;have:=hc c f1;unfold j6 at this;rw[203,jm F c,0,z,(jm F c).2.1,l,f2,(jm F c).2.2≤r,bK f3]
  ·have S3:=S2.keep I keep tab;have adv3:bJ F l H gs H3 gs1:=((n.trans (bJ.grow I l S1 s2)).trans (bJ.keep I l S2 keep tab));obtain⟨b,hB,hle,hhit,hweak⟩:=YL I.K.sep hT (λ c x=>⟨(G1.comps c (U c x).1).jw,(G1.comps c (U c x).1).at_.oy⟩) hsp;refine⟨_,J,_,J,gs1,i,e1,B,b,r,[fy,R],S3,he1,hB,YO I.K.size hbud hle,λ c x g h2=>hhit c ?_,λ k hk=>?_,λ p hp=>?_,λ H4 gs4 e4 o X hnew=>?_⟩;·rw[23,y,[Rc,x,by unfold mv;simp only[dO,dw];rw[0,g,h2]]]
   ·obtain⟨c,x,q⟩:=hweak k hk;obtain⟨f1,f2,f3⟩:=U c x;rw[9,c,f1,f2,f3,q]
   ·rintro⟨p1,p2,p3⟩;have gl:=G1.qW p hp;have:=hl p hp;unfold i5 at this;rw[203,eh p,(eh p).1,(Vs.Cu I.K.sep gl.taken hT).mpr λ k=>[ap,p1,hle k],l,(eh p).2.1,[cm,p2,gl.words],r≤(eh p).2.2,bK [cm,p3,gl.size]]
   ·obtain⟨e4',he4',ek4,ec4,hg4⟩:=o.ext i e1 he1;rw[X]at he4';cases he4';have advF:=adv3.trans o;obtain⟨dx4,st4,ll4,a4⟩:=knAt o.st X (ek4.trans R);have G4:=(o.st.kn e4 (bt X)).2;have hcl4:=G4.Cy I.K;refine⟨_,J,e.kn,dx4,_,J,a4,[em],_,J,_,J,_,J,?_⟩;dsimp only[gw];refine OT (ask H4 gs4 e4 none (λ m'=>m'<m) advF X (ek4.trans R) (hg1.trans hg4) [ac] λ g h2=>?_) λ v H5 hv=>hv
    rcases hnew with z|⟨c,x,c1,c2,c3⟩;·omega
    ·exfalso;have gl:=G4.qW c x;have:=g c x;unfold i5 at this;rw[203,eh c,(eh c).1,(Vs.Cu I.K.sep gl.taken hT).mpr λ k=>[ap,c1,hle k],l,(eh c).2.1,c2,r≤(eh c).2.2,bK c3]
 ·have hne:[Oa,(V.ref a)=V.bh]:=bW (by intro z;cases z);rw[4,hne,[zj,q]]
end
end VP
end
section
namespace VP
open PySem L2
section
variable{P:aY}{w:aU}{K:aF}{mg:[a_]}{base:aE}
theorem OV{F:aS}(I:cw F)(G:[y8]){r o e g t:ab}{d z a f C:bq}(m:[XO,r,d])(b:[Uu,o,z])(x:[XV,e,a])(c:[XU,g,f])(h:aA P w K mg base aG 15 g f [m6] (xW F))(Dp:[eY,[Nm],qb,t,C,[tN]])(D:aA P w K mg base aG 5 t C [tN] (xR F.Pt)):∀l,aA P w K mg base aG (3*l+20) r d [K3] (Ar F l)|0=>OU I G (rm:=19) m b Dp D [ac] (YJ I G b)|n+1=>OU I G (rm:=3*n+22) m b Dp D [ac] (YK I G b x (YF I G x m c h (OV I G m b x c h Dp D n)))
def EE(F:aS):Sp:=λ U H Q _=>∃(c:[bp])(a:ab)(L:Vs.a8)(T:Nat)(t:Vs.bx)(l r:Nat),[lk,U=[[Cf],[bi],nV T,nV l,nV r],bA F H c,fi (Zh (aP F c) H) a L,[C5],[Bi,F.ks,T,t],[Ro,t],[adq,bJ F l H c m D,[aax,L,l,r,t]]]
theorem YS{F:aS}(I:cw F)(G:[y8]){f fA fS fW fO fp:ab}{fd D g o X Y:bq}(M:[gM,[VW],[Vl],xA,F.bo,f,fd,[JS]])(W:[XO,fA,D])(MS:[Uu,fS,g])(MW:[XV,fW,o])(MO:[XU,fO,X])(GO:aA P w K mg base aG 15 fO X [m6] (xW F))(Dp:[eY,[Nm],qb,fp,Y,[tN]])(Gp:aA P w K mg base aG 5 fp Y [tN] (xR F.Pt)):aA P w K mg base aG 60 f fd [JS] (EE F):=by
 have GA:aA P w K mg base aG 59 fA D [K3] (λ U H Q E=>∃l,l≤12∧Ar F l U H Q E):=by have h:=OV I G W MS MW MO GO Dp Gp;rw[0,λ U H Q E⟨l,hl,q⟩=>(h l).len U H Q E q,λ A outer s H args us U Q E u R hb hv⟨l,hl,q⟩=>(h l).run A outer s H args us U Q E (u.mono [ac]) R hb hv q]
 rw[121,XW,λ cdv A outer s H U Q E u h=>?_];·obtain⟨gs,a,st,T,t,l,r,rfl,_⟩:=h;rfl
 obtain⟨gs,a,st,T,t,l,r,rfl,S,p,V,hT,C,k⟩:=h;have hrO:cy 15 _:=u.mono [vY,15≤59];rw[22,[oH,[aa5,[ug,[pT,pv 0,G.cZ.cl,W.me,GA,u,W.b,[aeH,pv 1],ak (pv 2) [LW]],[Y7]]]]];obtain⟨O,m⟩:=S.co;have m:=bp _ _ m;have hro:=iV.room C;have hm:=I.K.most;rw[3,⟨_,J,F.co,O,_,J,m,[em],_,J,F.co,O,_,J,m,[em],_,J,gs,a,st,J,S,p,V,λ i e H1 n R L y=>?_⟩,⟨_,J,_,J,_,J,l,[ac],n,i,e,T,t,r,J,y.st,R,hT,C,λ x cs N b B c j=>?_,λ x d b B c j _ _=>?_⟩];·rw[283,true,G.nB.ty,G.nB.nA,λ _=>⟨cs,(Aq I V L cs).mpr j.comp,j.words,j.size,j.free⟩,λ _=>J]
 ·rw[283,false,G.nE.ty,G.nE.nA,[Lg,z,[bj]],λ⟨cs,q1,q2,q3,q4⟩=>[gh,j.pI cs ((Aq I V L cs).mp q1) (bf q2 j.words) (bf q3 j.size),q4]]
end
end VP
end
section
namespace VP
open PySem L2
theorem bA.YT{F:aS}{H:Hp}{a:[bp]}(S:bA F H a){b:ab}{N:[aw]}(h:H b=[zl]):b∉aP F a:=by rw[277,b]
theorem bA.dZ{F:aS}{H:Hp}{a:[bp]}(S:bA F H a):jk H (Zh (aP F a) H):=λ b N e=>[rG,e,S.YT e]
theorem bJ.dZ{F:aS}{l:Nat}{H m:Hp}{c D:[bp]}(S:bA F H c)(a:bJ F l H c m D):jk H m:=λ b N e=>bp _ _ (a.z _ _ (S.dZ b N e))
abbrev aS.plus(F:aS)(x:ab):aS:={F with X:=x::F.X}
theorem cw.plus{F:aS}(I:cw F)(x:ab):cw (F.plus x):=[abD]
theorem nF{F:aS}{a:[bp]}{x b:ab}:b∈aP (F.plus x) a↔b=x∨b∈aP F a:=by
 rw[ib,ib];show _∨_∨_∨_∨_∨b∈x::F.X↔_;rw[32,lU]
 ·rintro(h|h|h|h|h|h|h);·exact[EL]
  rw[2,[lD,[lz]],[lD,[EL]]];rw[2,[zY,[lz]],[zY,[EL]]];rw[2,[lz],[zY,[lD,h]]]
 ·rintro(h|h|h|h|h|h|h);·exact[zY,[EL]]
  rw[2,[lz],[EL]];rw[2,[lD,[lz]],[lD,[EL]]];rw[2,[zY,[lz]],[zY,[lD,h]]]
theorem bA.OW{F:aS}(I:cw F){H:Hp}{a:[bp]}(S:bA F H a){x:ab}(A:H x=none)(N:[aw]⊕[iF]):[P3,oV N]:=by
 have z:ah (Zh (aP F a) H) [Bf,x,a,ag H x (oV N)]:=λ b o e=>by have q:=[zO];have n:b≠x:=aX q.1 A;exact[rG,[cX,n,q.1],λ w=>(nF.mp w).elim n q.2]
 have s:ah H (ag H x (oV N)):=[oE,A];rw[158];obtain⟨l,g,k1⟩:=S.k1;rw[152];refine⟨[NU],[Ii],[Gf],[Go],[Ko],jh S.tab s,[MU,[XH,s]],[CN,M,s,P],[vk,l,s,g,k1],[vk,T,s,r,k2],S.lJ,S.knd,[T3],S.of,λ y c=>?_,λ y c=>?_⟩;·obtain⟨k,_⟩:=S.kn e R;obtain⟨W,L,K,G,D,v,f,i,C,h,j⟩:=k.ex;exact[Zm,s _ _ v,s _ _ f,z _ _ i,z,j.mono]
 ·rcases[d9,c]with rfl|c;·rw[0,N,aw]
  ·rw[56,y,c];rw[0,o,s _ _ q]
 ·rcases[d9,c]with rfl|c
  ·rw[26,[vl,g,A],[vl,r,A],[vl,P,A],?_,λ e R=>?_];·obtain⟨_,q,_⟩:=S.tab;exact[vl,q,A]
   ·obtain⟨_,_,_,_,_,d,X,_⟩:=[Eg,R];rw[0,[vl,d,A],[vl,X,A]]
  ·exact S.xd y c
theorem bA.plus{F:aS}(I:cw F){H:Hp}{a:[bp]}(S:bA F H a){x:ab}(A:H x=none)(N:[aw]):[P3,.aj N]:=S.OW I A (.inl N)
theorem bA.YU{F:aS}(I:cw F){H:Hp}{a:[bp]}(S:bA F H a){x:ab}(A:H x=none)(N:[iF]):[P3,.dT N]:=S.OW I A (.inr N)
theorem bA.minus{F:aS}(I:cw F){H:Hp}{a:[bp]}{x:ab}(S:[Q8,H]):bA F H a:=by have z:ah [Bf,x,a,H] (Zh (aP F a) H):=[adA];rw[187];refine⟨[NU],[Ii],[Gf],[Go],[Ko],S.tab,[MU,J],S.k3,S.k1,S.k2,S.lJ,S.knd,[T3],S.of,λ y c=>S.xt y (cp _ c),λ y c=>S.xd y (cp _ c)⟩;obtain⟨W,L,K,G,D,v,d,i,C,h,f⟩:=[Eg,R];exact[Zm,v,d,z _ _ i,z,f.mono]
theorem YV{H:Hp}{Pt p:ab}{W:Pos}{q:Str}{N G:[aw]⊕[iF]}(t:[zM,H])(h:H p=Z (oV N)):[zM,ag H p (oV G)]:=by rw[222,cE g h (by intro z;cases N<;>cases z),cE b h (by intro z;cases N<;>cases z)]
theorem bA.OX{F:aS}(I:cw F){H:Hp}{a:[bp]}{x:ab}(S:[Q8,H])(N:[aw]⊕[iF]):[P3,oV N]:=by
 have A:x∈aP (F.plus x) a:=nF.mpr [de];obtain⟨E,D,k,s,p⟩:=S.xd x cq;have z:ah [Bf,x,a,H] [Bf,x,a,ag H x (oV N)]:=[Ys,e,[cX,λ w=>q.2 [ap,w,A],q.1],q.2];obtain⟨G,t⟩:=S.xt x cq;rw[158];obtain⟨n,g,k1⟩:=S.k1;rw[152];have u:[Ck,x,ag H x (oV N) b=H b]:=λ b h=>ar h
 refine⟨[NU],[Ii],[Gf],[Go],[Ko],YV S.tab t,[MU,u _ k.symm],⟨M,[su,k.symm,P]⟩,⟨n,[su,E.symm,g],k1⟩,⟨T,[su,D.symm,r],k2⟩,S.lJ,S.knd,[T3],S.of,λ y c=>?_,S.xd⟩;·obtain⟨W,L,K,d,j,v,f,i,C,l,m⟩:=[Eg,R];exact⟨W,L,K,d,j,[su,(p e R).1.symm,v],[su,(p e R).2.symm,f],z _ _ i,C.mono (dF z),l.mono z,m.mono z⟩
 ·by_cases w:y=x;·subst w;rw[0,N,aw]
  ·rw[56,y,c];rw[0,o,[cX,w,q]]
theorem bA.As{F:aS}(I:cw F){H:Hp}{a:[bp]}{x:ab}(S:[Q8,H])(N:[aw]):[P3,.aj N]:=S.OX I (.inl N)
theorem bA.YW{F:aS}(I:cw F){H:Hp}{a:[bp]}{x:ab}(S:[Q8,H])(N:[iF]):[P3,.dT N]:=S.OX I (.inr N)
theorem bJ.minus{F:aS}(I:cw F){l:Nat}{H m:Hp}{c D:[bp]}{x:ab}(a:bJ (F.plus x) l H c m D):bJ F l H c m D:=by
 rw[18,a.st.minus I,λ b o e=>?_,a.ext,λ y d=>a.xs y (cp _ d)];have q:=[zO];by_cases w:b=x
 ·subst w;obtain⟨E,g,S,j,i⟩:=a.st.xd b cq;refine[rG,[f8,a.xs,b,cq,q.1],λ h=>?_];rcases ib.mp h with h|h|h|h|⟨f,k,h|h⟩|h;·exact E h
  rw[2,g h,S h];rw[2,j h,(i f k).1 h];rw[2,(i f k).2 h,q.2 (OF h)]
 ·rw[51,bV.mp (a.z b o [rG,q.1,λ h=>(nF.mp h).elim w q.2]),[rG,this.1,λ h=>this.2 (nF.mpr (.inr h))]]
end VP
end
section
namespace VP
open PySem L2
def eM:[bd]:=["feet","cuts","last_cuts","end","known_targets"]
structure sg(K:aF)(mg:[a_])(F:aS)(B:ab):Prop where
 TS:[zC,B]
 at_:∀a,F.sd a→∃W b,a F.sc=[gj,B,eM.zip b]
def xZ(F:aS):Sp:=λ U H Q _=>∃(b:[bp])(a sa:ab)(L:Vs.a8)(i:Nat),[lk,U=[.ref F.sc,[bi],[rs]],bA F H b,fi H a L,[C5],[p0,i],ji H sa [BT],[acP,[Cl]]]
def x8(F:aS):Sp:=[ZN,.ref F.sc,H,∀m,ah H m→Q (.bl (F.en L)) m]
def EF(F:aS):Sp:=[ZN,[Cf],H,∀(t:ab)(m:Hp),oS m t (iA F L)→bJ F 0 H b m b→Q (.ref t) m]
def EG:[bd]:=[[ca],[x_],"steps",[mj],"kind","target"]
theorem OY:bQ EG [m6] (aZ uG):=[bV]
def x9(F:aS)(L:Vs.a8)(i:Nat):[JV]:=[z_,i,λ i=>[aaX]]
theorem OZ(F:aS)(L:Vs.a8)(i:Nat):x9 F L (i+1)=x9 F L i++[aaX]:=by unfold x9;rw[vD,kW];simp
theorem YX{F:aS}(I:cw F){L:Vs.a8}(V:[C5])(i:Nat):[ck,x9 F L i,10000*i]:=by induction i with|zero=>exact ba _|succ i T=>rw[OZ,dh,aC];rw[10,I.Ap L i V]
theorem nG{m d:Type}{R:[dF,m,d]}:∀{c S:[ol]}{cs B:List d},Paired R c cs→Paired R S B→(Paired R (c++S) (cs++B))|_,_,_,_,.nil,s=>s|_,_,_,_,.cons r t,s=>(.cons r (nG t s))
theorem qf.mono{H m:Hp}(t:jk H m){v:V}{p:[FS]}(h:qf H v p):qf m v p:=let⟨a,sa,e,g,r⟩:=h;⟨a,sa,e,t _ _ g,r.mono t⟩
section
variable{P:aY}{w:aU}{K:aF}{mg:[a_]}{base:aE}
theorem YY{F:aS}(g:cw F)(G:[y8]){CS f fT:ab}{fd fdT:bq}(I:sg K mg F CS)(M:[mu,[WC],[Vt],uG,F.bo,f,fd,[x_]])(MT:[aeC])(GT:aA P w K mg base aG 9 fT fdT [vn] (λ U H Q E=>∃x,xZ (F.plus x) U H Q E)):aA P w K mg base aG 10 f fd [m6] (EF F):=by
 have nd:EG.Nodup:=OY.nd;rw[121,OY,[Vb]];·obtain⟨gs,a,st,rfl,_⟩:=h;rfl
 obtain⟨gs,a,st,rfl,S,hst,hU,k⟩:=h;rw[48,[E5,2,fz aB,eJ dX J (Mz J G.B.enumerate (ak [eq] aB)) (oD J (gM (b9 (i:=3) nd J (gq J)) (gM [wf,4] oC))) (aN [adX,pv 2,[JZ,"target",5,[aem,pv 1,4],EG,uG,ff (ak (pv 3) [jC,5])]]),[Fc,ry,L1,G.B.tuple,PyProof.Rows.boot_tuple,2]],[Ei,λ l hl=>?_]];have S0:=S.plus g hl [];obtain⟨dco,hco⟩:=S0.co;have u:=S.kinds.len;refine⟨_,J,F.co,F.bo,dco,_,_,J,bp _ _ hco,G.cZ.cl,[CU,1],[Dd,1],F.ka,_,J,[nh,bp,S0.ka],N_ (K:=K) (a:=F.ka) (xs:=F.aO.map V.ref) (λ i σ m=>∃(U:[aw])(v3 v4 v5:[dE]),[jS,σ=[Z [Cf],[lA],[ui],v3,v4,v5],bA (F.plus l) m gs,[QF,gs,gs],[M3,m],m l=Z (.aj U),Paired (qf m) U (x9 F st i)]) ⟨[],none,none,none,J,S0,jl [oE,hl],[Nt],aw,.nil⟩ (λ i σ m _⟨_,_,_,_,_,S',_⟩=>[nh,bp,S'.ka]) ?_ ?_ (Yg F.aO)⟩;·rw[56,x,c];rw[ar (aX q hl)]
 ·rintro i y T σ d hi hT⟨U,v3,v4,v5,rfl,S1,z1,x1,O,N⟩;obtain⟨p,hpi,rfl⟩:=lG hi;have hil:[p0,i]:=[cm,u,[d0,hpi]];have ek:=bX hil;have n:ah d [UG,[iv]]:=[cE,d,hT];generalize hH2:[UG,[iv]]=H2 at n⊢;have hT2:H2 T=Z (.tup [nV i,[iv]]):=[cm,hH2,aw];have S2:=S1.grow (g.plus l) n;obtain⟨p',nu,sh,v,⟨dk,hk⟩,_,hsh⟩:=S2.kinds.at_ i _ ek;have v:F.aO[i]?=Z p':=v;rw[hpi]at v;cases v;have hk:=bp _ _ hk;obtain⟨dco2,R⟩:=S2.co;have R:=bp _ _ R;obtain⟨dsc,vals,hsc⟩:=I.at_ _ S2.sc;have hsc:=bp _ _ hsc;have hst2:fi H2 a st:=hst.mono [Tt,n,bp _ _ (z1 _ _ (S.dZ b xs e))];rw[324];have hsh2:ji H2 sh [BT]:=[ap,esh,hsh.mono (dF bp)];rw[3,[Ue,T,hT2],⟨_,J,[ut,J,_,[nh,n,O]],_,J,F.co,F.bo,dco2,_,_,J,R,G.cZ.cl,[CU,0],[Dd,0],F.sc,dsc,_,J,hsc,[em],_,J,_,J,p,F.bN,dk,_,_,J,hk,G.eu.cl,G.eu.na 1 _ J,[Qc,1],l,gs,a,sh,st,i,J,S2,hst2,hU,hil,hsh2,λ lt H3 X B=>?_⟩];obtain⟨as,r,has⟩:=X;have S3:=B.st;have r:=bp _ _ r;have hl3:H3 l=Z (.aj U):=[f8,B.xs,l,cq,n _ _ O];have htl:=g.Ap st i hU;refine⟨lt,J,[pD,r],λ D hD=>[sK,pW,lt,[Na],λ j m=>ah H3 m∧∃W,m D=Z (.aj W)∧(W.length=j∧(Paired (qf m) W (((F.tg st [BT]).take j).map λ t=>(i,t)))),[jp,[cE,H3,hD],[],aw,by simp;rw[63]],λ j m _⟨s',_⟩=>[nh,s',r]]⟩
  ·rintro j x m c⟨s',W,C,L,Y⟩;obtain⟨sa,hsa,rfl⟩:=lG c;obtain⟨t,ht,hsat⟩:=d6 has hsa;rw[3,[md,?_],[zh,_,[Dr],λ q hq=>⟨W,?_,?_,?_,?_⟩]];rw[11,ar (aX C hq),C];·have:=[d0,ht];rw[4,L,dG this [oM,htl]]
   ·exact(ah.aT (ah.aT s' (s'.free hq)) hD)
   ·rw[302,D,C,m,ag [j0,m,q,[nV i,[rs]]] D (.aj (W++[gt,q])),cE e C (by rw[101]),.ref q,aw,L];rw[fH,ht,cH];refine nG [zk,Y,λ _ _ w=>w.mono sq] [o0,[hJ,q,sa,?_,(hsat.mono (dF (bp.trans s'))).mono sq]];rw[ar nqD,aw]
  ·rintro H5⟨s5,W,hD5,L,Y⟩;rw[aC,er has]at L;rw[aC,er has,fZ]at Y;have S5:=S3.grow (g.plus l) s5;have hl5:=s5 _ _ hl3;have nlD:l≠D:=aX hl3 hD;have hlv:U.length≤10000*i:=[ap,er N,YX g hU i];have h64:=g.len;refine⟨l,D,U,W,J,J,hl5,hD5,?_,?_⟩;·have hul':W.length=(F.tg st [BT]).length:=L;rw[4,hul',[ze,bf,U.length+_,10000*64]]
   ·have zc:ah (Zh (aP F gs) H) (Zh (aP F gs) H5):=(((z1.trans (jl n)).trans (B.minus g).z).trans (jl s5));rw[227,H5,l,U++W,cE e hl5 (by rw[101])];have tk3:jk d H5:=[Tt,s5,bp _ _ (B.z _ _ (S2.dZ b xs (n _ _ e)))];refine⟨U++W,_,_,_,J,S5.As g _,λ b o e=>?_,[Nt],aw,?_⟩;·rw[149,zc b o e,aX [zO].1 hl]
    ·rw[56,x,c];rw[ar (aX q hl)];have h1:=x1 x c;rw[q]at h1;rw[4,q,s5 _ _ [f8,B.xs,x,cp _ c,n _ _ h1]]
    rw[11,OZ,nG [zk,N,λ _ _ w=>(w.mono tk3).mono tk] [zk,Y,λ _ _ w=>w.mono tk]]
 ·rintro σ d⟨U,v3,v4,v5,rfl,S1,z1,x1,O,N⟩;rw[aC,u]at N;refine⟨_,J,l,U,J,[ut,ax.of O,W3 [Nt],[Nl]]⟩;·rw[146,c];obtain⟨p,_,q,sa,e,_⟩:=[OR,N,x,hi,ei];rw[0,q,e]
  have n:ah d [j0,d,t,U]:=[cE,d,ht];refine k t _ ⟨U,aw,[zk,N,λ _ _ q=>q.mono (dF n)]⟩ ⟨(S1.grow (g.plus l) n).minus g,z1.trans (jl n),[Md],[Nt]⟩;rw[56,x,c];rw[35,x1 x c,q];rw[n _ _ this,q]
end
end VP
end
section
namespace VP
open PySem L2
theorem O0:∀{a b:[kw]},a.map (λ b=>[SZ,b])=b.map (λ b=>[SZ,b])→a=b|[],[],_=>J|[],_::_,h=>by rw[14]|_::_,[],h=>by rw[14]|x::a,y::b,h=>by simp only[bO,R5]at h;rw[O0 h.2];congr 1;have g:=h.1;cases x<;>cases y<;>simp at g<;>rfl
theorem EH{a b:[kw]}(h:eC a=eC b):a=b:=by unfold eC at h;injection h with h;have h:=ed BO h;simp only[RZ]at h;exact O0 h
theorem YZ{a b:[v0]}(h:wZ a=wZ b):a=b:=by
 cases a with
  |none=>cases b with|none=>rfl|some n=>rw[8,h,by rw[19,¬[ar,-1]=[cY]]]
  |some m=>cases b with|none=>rw[8,h,by rw[19,¬[ar,m]=-1]]|some n=>have h:[ar,m]=[cY]:=h;congr 1;omega
theorem O1{a b:Vs.Spot}(h:iz a=iz b):a=b:=by obtain⟨v,c,i,C⟩:=a;obtain⟨V,d,N,u⟩:=b;simp only[iz,Tr.cons.injEq,Tr.num.injEq,Tr.txt.injEq,pw]at h;obtain⟨g,r,P,w⟩:=h;have g:v=V:=[ac];have r:c=d:=[ac];rw[g,r,EH P,CB w]
theorem Au{a b:Vs.a8}(h:fD a=fD b):a=b:=by rw[309,fD];have P:i=N:=[ac];rw[O1 g,YZ r,P]
theorem Y0{a b:[FS]}(h:lH a=lH b):a=b:=by rw[325,lH,Au h.2]
theorem O2:∀{a b:[JV]},dJ (a.map lH)=dJ (b.map lH)→a=b|[],[],_=>J|[],_::_,h=>by simp[dJ]at h|_::_,[],h=>by simp[dJ]at h|x::a,y::b,h=>by simp only[bO,dJ,Tr.cons.injEq]at h;rw[Y0 h.1,O2 h.2]
theorem Y1{b P:Bool}{p E:[JV]}(h:j7 b p=j7 P E):b=P∧p=E:=by rw[156,j7];rw[0,CB h.1,O2 h.2]
theorem EI{H:Hp}{a:ab}{L:Vs.a8}(h:fi H a L):[aaM,fD L]:=by obtain⟨sa,g,r⟩:=h;refine⟨_,g,[rs],_,J,⟨sa,_,J,r,_,_,J,[de],_,_,J,[de],_,_,J,J,_,_,J,.inr [dL,J],J⟩,_,_,J,.inl ?_,_,_,J,[de],J⟩;cases L.2.1<;>rfl
theorem EJ(L:Vs.a8):c_ (fD L)=2:=by simp[fD,iz,c_]
theorem Av{H:Hp}{a:ab}{L:Vs.a8}(h:fi H a L):eZ H (fD L) a:=⟨[e9,EJ],EI h⟩
theorem Y2{H:Hp}{v:V}{p:[FS]}(h:qf H v p):l9 H (eI H (lH p)) (lH p) v:=by obtain⟨a,sa,e,g,r⟩:=h;obtain⟨N,P,w⟩:=EI r;exact⟨a,_,e,g,_,_,J,[de],_,_,J,[hJ,sa,N,P,w],J⟩
theorem O3{H:Hp}:[aca,[FS],qf,lH]|_,_,.nil=>J|_,_,.cons r t=>[hJ,_,_,Y2 r,O3 t]
theorem O4:∀V:[JV],c_ (dJ (V.map lH))≤4
 |[]=>by simp[dJ,c_]
 |p::V=>by
  have T:=O4 V;have:c_ (lH p)=3:=by simp[lH,c_,EJ]
  simp only[bO,dJ,c_,this];omega
theorem EK{H:Hp}{a t:ab}{b:Bool}{V:[JV]}(h:H a=Z (.tup [.bl b,.ref t]))(G:oS H t V):eZ H (j7 b V) a:=by
 obtain⟨U,g,r⟩:=G;refine⟨?_,_,h,_,_,J,.inr [tJ,b,J],_,_,J,?_,J⟩;·rw[126,O4 V,j7,c_]
 ·have:=O3 r;cases V with|nil=>rw[9,t,U,J,g,this]|cons p V=>rw[9,t,U,J,g,this]
theorem EL{H:Hp}{Pt p:ab}{W:Pos}{q:Str}{k d:[iF]}(t:[zM,H])(h:H p=Z (.dT k)):[zM,ag H p (.dT d)]:=by rw[222,[oB,g,h],[oB,b,h]]
theorem Y3{F:aS}(I:cw F){H:Hp}{a:[bp]}(S:bA F H a){Y:[iF]}(h:H F.d1=Z (.dT Y)){L:Vs.a8}{e:KE}(j:[C5])(c:e∈a)(Q:oU F L e):bJ F 0 H a (ag H F.d1 [EQ,fD L,[Cg]]) a:=by
 rw[368,F.d1,[de],[EQ,fD L,[Cg]]];obtain⟨E,D,l⟩:=S.lJ;rw[158];obtain⟨m,g,t,k1⟩:=S.k1;rw[152];rw[h]at g;cases g;have u:[Ck,F.d1,ag H F.d1 [EQ,fD L,[Cg]] b=H b]:=λ b f=>ar f
 rw[18,⟨[NU],[Ii],[Gf],[Go],[Ko],EL S.tab h,[MU,u _ D.symm],⟨M,[su,D.symm,P]⟩,⟨_,aw,xP _ t,[qp]⟩,⟨T,[su,E.symm,r],k2⟩,S.lJ,S.knd,λ x A=>[wJ,?_,S.kn x A],S.of,[qu],S.xd⟩,z,[aaO,A],λ x A=>u _ [AQ].1];·rw[181];rw[2,⟨L,e,j,c,J,Q⟩,k1 p R]
 ·obtain⟨k,_⟩:=S.kn x A;obtain⟨_,_,_,_,_,v,d,_⟩:=id k.ex;exact[aeM,d]
 ·rw[56,x,A];rw[0,o,[su,[AQ].1,q]]
theorem Y4{F:aS}(I:cw F){H:Hp}{a:[bp]}(S:bA F H a){Y:[iF]}(h:H F.d1=Z (.dT Y)):[Ie]:=by rw[261,S.k1,fD]
theorem Y5{F:aS}(I:cw F){H:Hp}{a:[bp]}(S:bA F H a){Y:[iF]}(h:H F.d2=Z (.dT Y)):[Ie]:=by rw[261,S.k2,λ L=>j7 (F.en L) (iA F L)]
def j8(F:aS)(L:Vs.a8):Vs.GK:=⟨F.en L,iA F L,[Mm,F.en L,⟨[],0,[zP],0,0⟩,[]],[]⟩
theorem Y6{F:aS}(I:cw F)(L:Vs.a8):[MJ,j8 F L]:=by
 have d:∀n,[ym,[zP]]=0:=λ n=>by induction n with|zero=>rfl|succ n T=>rw[19,[ym,_]+0=0]
 unfold j8;cases e:F.en L with
  |false=>rw[9,[al],[al],[al],[al],[al]]
  |true=>
   rw[26,λ c V=>?_,[al],[al],[al],λ _=>[rJ,cq]];simp at V;subst V;rw[20,J,Vs.l6.zero _,⟨[al],[al],ba _,ba _,b7 _,?_,λ k=>b7 _,?_⟩];·show Vs.bZ F.ks.length [zP]+0≤12;rw[27,d]
   ·rintro⟨k,C,_⟩;cases C
end VP
end
section
namespace VP
open PySem L2
theorem O5{F:aS}{a:[bp]}{e:KE}{b:ab}:b∈aP F (a++[e])↔b∈aP F a∨b=e.kn∨b=e.cl:=by
 rw[ib,ib];rw[5]
 ·rintro(h|h|h|h|⟨x,A,h⟩|h);rw[2,.inl [lz],.inl [EL]];rw[2,.inl [lD,[lz]],.inl [lD,[EL]]];·rw[153,A];rw[40,[zY,[ut,x,q,h]]];·rw[161,.inr h]
  rw[40,[zY,.inr h]]
 ·rintro((h|h|h|h|⟨x,A,h⟩|h)|h);rw[40,h];rw[2,[EL],[lD,[lz]]];rw[2,[lD,[EL]],[zY,[ut,x,lP _ A,h]]];rw[2,[zY,.inr h],[zY,[ut,e,iQ _ cq,h]]]
theorem Y7{F:aS}(I:cw F){H m:Hp}{d:[bp]}(S:bA F H d){Y:[iF]}(c:H F.d2=Z (.dT Y)){L:Vs.a8}(hU:[C5]){t kn N K dx:ab}{G:[aV]}(s:ah H m)(hst:oS H t (iA F L))(E:H kn=none)(D:H N=none)(n3:H K=none)(m1:N≠K)(m2:N≠kn)(m3:K≠kn)(a1:m kn=Z (.ins F.CK dx (fU.zip [J7,t,N,K])))(a2:m N=Z [JY])(a3:m K=Z (.aj []))(a4:(d8 F.CC d7 m G [Mm,F.en L,(0,0,0),[]]))(a5:∀a∈G,H a=none∧a≠N∧a≠kn):bJ F 0 H d [UX] (d++[[M5]]):=by
 have hM:F.d2∈aP F d:=ib.mpr [Lq];obtain⟨d1,d2,d3⟩:=S.lJ;have h2':=s _ _ c;have u:[Ck,F.d2,ag m F.d2 [EQ,j7 (F.en L) (iA F L),.ref kn] b=m b]:=λ b nb=>ar nb
 have k2n:kn≠F.d2:=[vl,c,E];have c2n:N≠F.d2:=[vl,c,D];have l2n:K≠F.d2:=[vl,c,n3];have z:ah (Zh (aP F d) H) (Zh (aP F (d++[[M5]])) [UX]):=λ b o q=>by
  have q:=bV.mp q;refine[rG,[su,λ w=>q.2 [ap,w,hM],s _ _ q.1],λ w=>?_];rcases O5.mp w with w|w|w;·exact q.2 w
  rw[2,aX q.1 E w,aX q.1 D w]
 have T:[EI,m,H b,b≠kn→b≠N→Zh (aP F (d++[[M5]])) [UX] b=Z o]:=λ b o e hn w1 w2=>by
  refine[rG,(u _ [vl,c,hn]).trans e,λ w=>?_];rcases O5.mp w with w|w|w;·exact S.free hn w
  rw[2,w1 w,w2 w]
 obtain⟨dxo,co⟩:=S.co;rw[257];obtain⟨kv2,U,W,k2⟩:=S.k2;rw[c]at U;cases U;have O:oU F L [M5]:=[eJ,J];have M:∀(j:Nat)(x:KE),(d++[[M5]])[j]?=Z x→d[j]?=Z x∨(j=d.length∧x=[M5]):=λ j x A=>by
  by_cases w:j<d.length;·rw[Rw w]at A;rw[46,A]
  ·rw[List.getElem?_append_right [ac]]at A;have:j-d.length=0:=by rw[92,[d0,A]]
   rw[this]at A;simp at A;exact[jl,[ac],A.symm]
 have Q:∀x∈d,x.kn≠kn∧x.cl≠N:=λ x A=>by obtain⟨_,_,_,_,_,n,X,_⟩:=(S.kn x A).1.ex;rw[0,aX n E,aX X D]
 rw[18,⟨[CN,dxo,z,co],[Ii],[Gf],[Go],[Ko],EL (jh S.tab s) h2',[MU,[su,d3.symm,[XH,s]]],⟨kv3,[su,d3.symm,s _ _ P]⟩,⟨kv1,[su,d1,s _ _ h1],k1n,[qp]⟩,⟨_,aw,xP _ W,[qp]⟩,S.lJ,λ i j x y A f nij=>?_,[qu],[qu],[qu],[qu]⟩,z,[aaO,?_],[qu]];·obtain⟨B,x,n,X,v,C⟩:=k1 p R;rw[37,B,x,n,lP _ X,v,C]
 ·rw[181];·rw[37,L,_,hU,iQ _ cq,J,O]
  ·obtain⟨B,x,n,X,v,C⟩:=k2 p R;rw[37,B,x,n,lP _ X,v,C]
 ·rcases M i x A with A|⟨ei,rfl⟩<;>rcases M j y f with f|⟨ej,rfl⟩;rw[2,S.knd i j x y A f nij,Q x (bt A)];·have:=Q y (bt f);rw[0,this.1.symm,this.2.symm]
  ·omega
 ·rw[153,A];·obtain⟨k,g⟩:=S.kn x q;obtain⟨_,_,_,_,_,b1,b2,_⟩:=id k.ex;rw[0,k.mono [su,cE b1 c (by rw[101]),(s _ _ b1).trans b1.symm] [su,cE b2 c (by rw[101]),(s _ _ b2).trans b2.symm] z,g]
  ·simp at q;subst q;rw[15,⟨dx,t,K,G,[],[su,k2n,a1],[su,c2n,a2],T K _ a3 n3 m3 m1.symm,(hst.mono S.dZ).mono (dF z),?_,.nil⟩,Y6 I L];have e:[B6,(j8 F L).cs.map (jm F),F.en L,[(0,0,0)],[]]:=by unfold j8;cases F.en L<;>rfl
   show(d8 F.CC d7 _ G ((j8 F L).cs.map (jm F)));rw[e];have gen:∀(l:[aV])(ds:List du),(d8 F.CC d7 m l ds)→(∀a∈l,H a=none∧a≠N∧a≠kn)→(d8 F.CC d7 (Zh (aP F (d++[[M5]])) [UX]) l ds):=by intro l ds hh;induction hh with|nil=>intro _;rw[63]|cons r _ ih=>intro ha;have q:=ha _ cq;obtain⟨dy,w⟩:=r;exact(.cons ⟨dy,T _ _ w q.1 q.2.2 q.2.1⟩ (ih λ a h=>ha a (cp _ h)))
   exact gen G _ a4 a5
 ·rw[113,[d6,A],S.of x q];·simp at q;subst q;rw[1,L,hU,O]
 ·rw[56,x,A];rw[0,o,[su,[AQ].2.1,s _ _ q]]
 ·obtain⟨n,X,v,C,q5⟩:=[AQ];rw[56,x,A];rw[26,n,X,v,C,λ y f=>?_];rcases[d6,f]with w|w;·exact q5 y w
  ·simp at w;subst w;rw[0,aX q E,aX q D]
 ·have:=[d0,A];rw[4,Rw this,A]
 ·rw[56,x,A];rw[u _ [AQ].2.1,s _ _ q,q]
section
variable{P:aY}{w:aU}{K:aF}{mg:[a_]}{base:aE}
theorem Aw{Y:[iF]}{k:Tr}{v:V}(h:cn Y k=Z v):(k,v)∈Y:=by obtain⟨u,g,r⟩:=um (wY h);rw[h]at g;rw[6,g,r]
theorem Y8{F:aS}(l:cw F)(G:[y8]){CS f fT fE fS:ab}{fd fdT fdE fdS:bq}(I:sg K mg F CS)(M:[XU,f,fd])(ME:[aeu])(GE:aA P w K mg base aG 9 fE fdE [m6] (x8 F))(MS:[mu,[WC],[Vt],uG,F.bo,fS,fdS,[x_]])(GS:aA P w K mg base aG 10 fS fdS [m6] (EF F)):aA P w K mg base aG 15 f fd [m6] (xW F):=by
 have nd:=NK.nd;obtain⟨fK,fdK,IK⟩:=G.iK;obtain⟨fC,fdC,IC⟩:=G.iC;have GK:aA P w K mg base aG 3 fK fdK [KO] (Ov F.CK F.CC):=Yv IK G.TK IC G.TC;rw[83,NK];·obtain⟨d,a,L,rfl,_⟩:=h;rfl
 obtain⟨d,a,L,rfl,S,p,hU,k⟩:=h;have p:=p.mono (dF bp);rw[78];have hr9:cy 9 _:=[wu,9,14];have hr10:cy 10 _:=[wu,10,14];have hr4:cy 4 _:=[wu,4,14];rw[74,cI (CO (Aa hu (pv 1) [eq])) [we,2,[NH,[pT,[eq],I.TS.cl,ME.me,GE,hr9,ME.b,pv 1,aB],[pT,pv 0,G.cZ.cl,MS.me,GS,hr10,MS.b,pv 1,aB]],[J2,CO (Aa hu (pv 2) [eq]),[Up,2,lB IK.ma GK hr4 J G.TK.mg IK.b .nil bH [ug,[QC,j4],[QC,j4]]]],aN [Up,1,nj hu [eq] (pv 2) (λ _ _=>J)]] cQ,[oH,nj hu [eq] (pv 1) (λ _ _=>J)]];have C:∀{H':Hp}{gs':[bp]},bA F H' gs'→∃W,H' F.co=[gj,F.bo,[Yu]]:=λ S'=>by obtain⟨W,r⟩:=S'.co;rw[0,W,bp _ _ r]
 have fin:∀(H1:Hp)(o:[bp])(i:Nat)(e:KE)(v2:[dE]),[cI,bJ F 0 H d H1 o,o[i]?=Z e,oU F L e,∃Y,H1 F.d1=Z (.dT Y)∧cn Y (fD L)=Z [Cg],wN (nc K (cv 0) "known") (cv 1) [Z [Cf],[lA],v2] H1 Q]:=λ H1 o i e v2 m he u⟨Y,c,hv⟩=>by obtain⟨O,n⟩:=C m.st;have g:=eW.t c (Av (p.mono (m.dZ S)));rw[hv]at g;exact⟨_,J,F.co,F.bo,O,_,_,J,n,G.cZ.cl,[CU,3],[Dd,3],_,J,F.d1,_,J,g,k i e H1 o he u m⟩
 have X:∀(H4:Hp)(z:[bp])(i:Nat)(e:KE)(kt t:ab)(D:Ends),[cI,bJ F 0 H d H4 z,z[i]?=Z e,oU F L e,∃Y,H4 F.d2=Z (.dT Y)∧cn Y (j7 (F.en L) (iA F L))=Z [Cg],H4 kt=Z (.tup [X5])→oS H4 t (iA F L)→(∀H5,wN (nc K (cv 0) "known") (cv 1) [aaI] H5 Q→D.nx [aaI] H5)→DN (nc K (cv 0) "known") (cv 1) (wN (nc K (cv 0) "known_by_steps") (cv 2)) D [aaI] H4]:=λ H4 z i e kt t D m he u⟨Y,r,hv⟩hkt R hD=>by obtain⟨O,n⟩:=C m.st;have g:=eW.t r (EK hkt R);rw[hv]at g;obtain⟨kv1,c,_⟩:=id m.st.k1;have y:=Y3 l m.st c hU (bt he) u;refine⟨_,J,F.co,F.bo,O,_,_,J,n,G.cZ.cl,[CU,4],[Dd,4],_,J,F.d2,_,J,g,_,J,F.co,F.bo,O,_,_,J,n,G.cZ.cl,[CU,3],[Dd,3],_,J,F.d1,_,J,jf.t c (Av (p.mono (m.dZ S))) (Y4 l m.st c),hD _ (fin _ z i e _ (m.trans y) he u ⟨_,aw,by rw[rF,aI J]⟩)⟩
 obtain⟨O,n⟩:=C S;obtain⟨kv1,c,k1n,k1⟩:=id S.k1;refine⟨_,J,_,J,F.co,F.bo,O,_,_,J,n,G.cZ.cl,[CU,3],[Dd,3],F.d1,_,J,eW.t c (Av p),_,J,?_⟩;cases ev:cn kv1 (fD L)with
  |some v=>obtain⟨st',e,q1,q2,q3,q4⟩:=k1 _ (Aw ev);injection q3 with q5 q6;rw[91,Au q5];subst q6;rw[146,q2];exact a_ (fin H d i e none (bJ.refl 0 S) (by rw[bX hi,ei]) q4 ⟨kv1,c,ev⟩)
  |none=>
   rw[159,S.sc];have hsc:=bp _ _ hsc;rw[33,⟨_,J,F.co,F.bo,O,_,_,J,n,G.cZ.cl,[CU,0],[Dd,0],F.sc,dsc,_,J,hsc,[em],_,J,d,a,L,J,S,p,hU,λ H1 s1=>?_⟩];have S1:=S.grow l s1;obtain⟨dco1,hco1⟩:=C S1;refine⟨_,J,F.co,dco1,_,J,hco1,[em],_,J,d,a,L,J,S1,p.mono (dF s1),hU,λ t H2 R adv2=>[JQ,2,λ kt hkt=>?_]⟩;have S2:=adv2.st;have s3:ah H2 [j0,H2,kt,[X5]]:=[cE,H2,hkt];generalize hH3:[j0,H2,kt,[X5]]=H3 at s3⊢;have N:H3 kt=Z (.tup [X5]):=[cm,hH3,aw];have S3:=S2.grow l s3;have adv3:bJ F 0 H d H3 d:=(((bJ.grow l 0 S s1).trans adv2).trans (bJ.grow l 0 S2 s3));have T:oS H3 t (iA F L):=R.mono (dF s3);obtain⟨dco3,hco3⟩:=C S3;obtain⟨kv2,r,k2n,k2⟩:=id S3.k2;refine⟨_,J,_,J,F.co,F.bo,dco3,_,_,J,hco3,G.cZ.cl,[CU,4],[Dd,4],F.d2,_,J,eW.t r (EK N T),_,J,?_⟩;cases ev2:cn kv2 (j7 (F.en L) (iA F L))with
    |some v=>obtain⟨st',e,q1,q2,q3,q4⟩:=k2 _ (Aw ev2);injection q3 with q5 q6;obtain⟨q7,q8⟩:=Y1 q5;subst q6;rw[146,q2];exact a_ (X H3 d i e kt t _ adv3 (by rw[bX hi,ei]) ⟨(q4.1.trans q7.symm),(q4.2.trans q8.symm)⟩ ⟨kv2,r,ev2⟩ N T λ H5 q=>q)
    |none=>
     rw[33,⟨_,J,kt,_,_,_,J,J,bM.of N,[wH,1,J],_,J,kt,_,_,_,J,J,bM.of N,[wH,0,J],λ x W nx ndx nex=>⟨x,W,t,F.en L,J,aw,λ cl ll cas H4 c1 c2 c3 c4 c5 c6 c7 c8 c9 U c11=>[md,?_]⟩⟩];have s4:ah H3 H4:=ah.made nx ndx c11;have low:∀b,ag (ag H3 W (.own x)) x (.ins F.CK W []) b=none→b≠x→H3 b=none:=λ b e nb=>by
      rw[ar nb]at e;by_cases w:b=W;·subst w;rw[34,aw]
      ·rw[75,ar w,e]
     have h24:=s4 _ _ r;have B:=Y7 l S3 r hU s4 T nx (low cl c1 c4) (low ll c2 c5) c3 c4 c5 c6 c7 c8 c9 λ b hb=>⟨low b (U b hb).1 (U b hb).2.2,(U b hb).2.1,(U b hb).2.2⟩
     obtain⟨dco4,hco4⟩:=C (S3.grow l s4);refine⟨_,J,F.co,F.bo,dco4,_,_,J,hco4,G.cZ.cl,[CU,4],[Dd,4],_,J,F.d2,_,J,jf.t h24 (EK (s4 _ _ N) (T.mono (dF s4))) (Y5 l S3 r),?_⟩;have y:=adv3.trans B;refine X _ (d++[⟨x,cl,j8 F L⟩]) d.length ⟨x,cl,j8 F L⟩ kt t _ y [al] [eJ,J] ⟨_,aw,by rw[rF,aI J]⟩ (B.dZ S3 _ _ N) (T.mono (B.dZ S3)) λ H5 q=>q
end
end VP
end
section
namespace VP
open PySem L2
def gQ(w:[kw]):V:=.str (eC w)
def EN(c:Hp)(a:ab)(s:[Fd]):Prop:=∃y,(c a=Z (.aj (y.map V.ref))∧(Paired (λ b iT=>c b=Z (.aj (iT.map gQ))) y s))
def EO(d:Hp)(a:ab)(S:[m_]):Prop:=∃G,(d a=Z [JY]∧(Paired (λ b(c:[wh])=>d b=Z [abb]) G S))
def Y9(b:Hp)(a:ab)(S:[m_]):Prop:=∃Y,b a=Z (.dK Y)∧∀f:Nat,(cn Y (bY [ar,f])).getD (nV 0)=nV (Vs.eB S f)
structure ie(B:ab)(m:bT)(sc d3:ab)(a:Hp):Prop where
 ex:∃W x n A en,[cj,a sc=[gj,B,eM.zip [.ref x,.ref n,.ref A,.ref en,.ref d3]],EN a x m.feet,EO a n m.cuts,Y9 a A m.cuts,mw a en (Vs.gH m)]
theorem ie.mono{B:ab}{m:bT}{sc d3:ab}{a c:Hp}(h:[Cc,a])(s:ah a c):[Cc,c]:=by rw[246,⟨W,x,n,A,en,s _ _ g,[vk,y,s,r,[B0,P,s _ _ z]],[vk,G,s,w,[B0,b,s _ _ z]],[vk,Y,s,H,R],s _ _ k⟩]
theorem x_:eC []=("":Str):=[bB]
theorem O6{r:[kw]}:[zW,[LL,eC r,""],r=[]]:=by
 rw[dH,dw,dw];rw[5];·intro h;injection h with h;rw[←x_]at h;exact EH h
 ·intro h;rw[h,x_]
section
variable{P:aY}{w:aU}{K:aF}{mg:[a_]}{base:aE}
def O7(K:aF)(B:ab)(m:bT)(sc d3:ab):Sp:=λ U H Q _=>∃(f:Nat)(r:[kw]),U=[[tY],nV f,gQ r]∧[Cc,H]∧∀(l:ab)(a:Hp),ah H a→a l=Z (.aj ([Ur,f].map gQ))→Q [lf] a
theorem Y_{f n sc d3:ab}{m:bT}{d:bq}(M:[gM,"ways_on",[Wr],xM,n,f,d,[LA]])(T:[zC,n])(B:el mg):aA P w K mg base aG 1 f d [LA] (O7 K n m sc d3):=by
 rw[121,X7,[Vi]];·obtain⟨f,r,rfl,_⟩:=h;rfl
 obtain⟨I,r,rfl,S,k⟩:=h;obtain⟨W,y,x,t,en,g,⟨z,b,c⟩,_⟩:=S.ex;rw[48,[DB,[Lw,rq,pv 2,fy,bB (fz [jC,2])],wh [vZ,C5,1,[Op,gv,[eq]]] (fQ ni [eq] (pv 1) (λ _ _=>J)) (fz aB)],[Du]];have D:=O6 (r:=r);show[Aa,[uh,[LL,eC r,""]]];rw[D];by_cases e:r=[]
 ·rw[13,bK e,a_ ?_];have C:[xY]=(m.feet[I]?).getD []:=by unfold Vs.cS;rw[aI e]
  rw[C]at k;have q:=er c;refine⟨_,J,_,J,sc,n,W,_,_,J,g,T.cl,[jB,0],[jU,0],_,z.length,J,?_,_,_,J,J,_,J,?_⟩;rw[40,⟨_,(ax.of b),by rw[aC]⟩]
  ·show[Aa,[aK,[ar,I]<[ar,z.length]]];by_cases p:I<z.length;·rw[[tO]];obtain⟨a,ha⟩:∃a,z[I]?=Z a:=[eD,bX p];obtain⟨iT,F,G⟩:=d6 c ha;rw[82,F,aV ⟨_,J,sc,n,W,_,_,J,g,T.cl,[jB,0],[jU,0],_,J,y,_,_,_,J,J,(ax.of b),at_of (j:=I) (v:=(V.ref a)) J [jh,cJ,ha],k a H [zA,H] G⟩]
   ·rw[[lu]];rw[82,sQ [ac],a_ [Ei,λ l X=>k l _ [oE,X] aw]]
 ·rw[bW e];have C:[xY]=[r]:=by unfold Vs.cS;rw[aD e]
  rw[82,C,aV ⟨_,J,by rw[84,1],λ l X=>k l _ [oE,X] aw⟩]
def yc(sp:Vs.Spot):[aw]:=[aeg]
def ER(B:ab)(m:bT)(sc d3:ab):Sp:=λ U H Q _=>∃(f p:Nat)(r:[kw])(L:Bool),U=[[tY],nV f,nV p,gQ r,.bl L]∧[Cc,H]∧∀(a:ab),[Ae,H a=none,[j0,H,a,yc (Vs.jv m f p r L)]]
theorem Za{f B sc d3:ab}{m:bT}{v:bq}(M:[gM,"spot_at",[Ws],xK,B,f,v,[KH]])(T:[zC,B])(y:[DV,"MOST_PLACES",nV 4]):aA P w K mg base aG 1 f v [KH] (ER B m sc d3):=by
 obtain⟨D,d,C⟩:=y;rw[121,X6,λ l A outer s H U Q E c h=>?_];·obtain⟨f,p,r,L,rfl,_⟩:=h;rfl
 obtain⟨I,p,r,L,rfl,S,k⟩:=h;obtain⟨W,x,t,n,en,b,_,_,⟨Y,z,R⟩,_⟩:=S.ex;have o:=jB c;rw[74,[Om,pv 3,fy,ff (ak [yw,pv 1] (ak bu [ug,fy,pv 4]))],aK [Bd,[M8,iH (pv 4),[vZ,zM,2,Mr o [eq] [yw,pv 1] bu [ff,J,J,J]]],ff (ak (pv 1) (ak (b8 J d C) [LW]))] [oH,ff (ak (pv 1) (ak (pv 2) [LW]))]];rw[38,[Du],[LL,eC r,""]];rw[O6];by_cases j:r=[]
 ·rw[bK j];have e:Vs.jv m I p r L=(I+1,0,[],L):=by unfold Vs.jv;rw[aI j]
  rw[e]at k;rw[33,⟨_,J,_,_,J,J,_,J,[Ak,4,J],[Kv]⟩];have:=k a ha;unfold yc at this;rw[x_]at this;exact this
 ·rw[13,bW j,a_ ?_];have wM:(L=true∨[Tf]≤p)→Vs.jv m I p r L=(I,4,r,L):=λ q=>by unfold Vs.jv;rw[aD j,aI q]
  have F:¬(L=true∨[Tf]≤p)→Vs.jv m I p r L=(I,p,r,L):=λ q=>by unfold Vs.jv;rw[aD j,aD q]
  refine[jp,_,J,L,?_];cases L with
   |true=>rw[82,wM [de],aV [ac7]]
   |false=>
    have g:=[Ql,[aN,I+1],z];have e1:kV (bY [aN,I+1])=(V.int ([ar,I]+1)):=by show(V.int _)=(V.int _);congr 1
    rw[e1]at g;refine a_ ⟨_,J,_,J,sc,B,W,_,_,J,b,T.cl,[jB,2],[jU,2],n,J,.inl [eD,.inl z],_,J,_,_,J,J,_,g,?_⟩;have e2:(cn Y (bY [aN,I+1])).getD (V.int 0)=nV [Tf]:=R (I+1);rw[e2];rw[38,[Ml],[aN,[Tf]]≤[ar,p]];rw[qe];by_cases q:[Tf]≤p;·rw[bK q];rw[82,wM (.inr q),[ac7]]
    ·rw[bW q];rw[82,F [bn,q],a_ ⟨_,J,_,J,_,J,_,J,[Ak,4,J],λ a ha=>k a ha⟩]
def O8(B:ab)(m:bT)(sc d3:ab):Sp:=λ U H Q _=>∃(f p:Nat),U=[[tY],nV f,nV p]∧[Cc,H]∧m.cuts≠[]∧∀a,ah H a→Q (.bl (Vs.mX m f p)) a
theorem O9(a b:[wh]):(fg ([ar,a.1],[ar,a.2]) ([ar,b.1],[ar,b.2])=true↔Vs.lexLt b a):=by rw[rJ];unfold Vs.lexLt;omega
theorem Zb{f l sc d3:ab}{m:bT}{v:bq}(M:[gM,[VZ],[VC],xJ,l,f,v,[LG]])(T:[zC,l])(B:el mg):aA P w K mg base aG 1 f v [LG] (O8 l m sc d3):=by
 rw[121,X5,λ n A outer s H U Q E u h=>?_];·obtain⟨f,p,rfl,_⟩:=h;rfl
 obtain⟨I,p,rfl,S,y,k⟩:=h;obtain⟨W,fe,N,C,en,a,_,⟨G,j,L⟩,_⟩:=S.ex;rw[48,[oH,lA (Xb u.Vr) [KJ,cX,Xd J u.units,B.max,Rz,[eq]] (ff (ak [yw,pv 1] [jC,2])) (ck _)],⟨_,J,sc,l,W,_,_,J,a,T.cl,[jB,1],[jU,1],N,G,m.cuts.map λ c=>[P5],J,(ax.of j),[nj,er L],λ i b q d D=>?_,[aB,y],λ i b q d D Y=>?_⟩];·obtain⟨c,V,R⟩:=d6 L d;rw[cJ,V]at D;have:=[wv,D];rw[64,bM.of R]
 ·obtain⟨c,V,R⟩:=d6 L d;rw[cJ,V]at D;have:=[wv,D];subst this;refine⟨_,J,_,_,J,J,_,J,[Dr],λ t F=>⟨b,t,[[ar,c.1],[ar,c.2]],[[ar,I]+1,[ar,p]],J,J,bM.of [cX,aX R F,R],bM.of aw,?_⟩⟩;have e:HT.jg [[ar,c.1],[ar,c.2]] [[ar,I]+1,[ar,p]]=Vs.mX m I p:=by
   have:=Nj [P5] [X4];rw[this,dH,Vs.KH];have g:=O9 c (I+1,p);have o:([aN,I+1],[ar,p])=[X4]:=J;rw[5];·intro h;rw[1,c,bt V,g.mp h]
   ·rintro⟨x,O,X⟩;have r:=Y _ [iI,x,O];cases q:fg [P5] [X4]with
     |true=>rfl
     |false=>
      exfalso;have n1:¬Vs.lexLt (I+1,p) c:=λ z=>by have:fg [P5] [X4]=true:=g.mpr z;rw[138,q]
      have n2:¬Vs.lexLt c x:=λ z=>by rw[88,(O9 x c).mpr z,r]
      unfold Vs.lexLt at*;simp only at*;omega
  rw[4,e,k _ [oE,F]]
end
end VP
end
section
namespace VP
open PySem L2
section
variable{P:aY}{w:aU}{K:aF}{mg:[a_]}{base:aE}
def ES(K:aF)(bo bN:ab):Sp:=λ U H Q _=>∃(p W sc ka:ab)(ks:[dA])(aO:[aV]),[lk,U=[J7,p,sc,ka],H p=[gj,bo,[]],H ka=Z (.aj [H_]),jD bN H ks aO,[Kp],[Xt],∀(r d1 d2:ab)(m:Hp),[u8,r,H d1=none,H d2=none,[cI,r≠d1,r≠d2,d1≠d2,m p=[gj,bo,lI.zip [[tY],.ref ka,.ref r,.ref d1,.ref d2]],[cI,kG m r (runOf ks) (xT ks),m d1=Z (.dT []),m d2=Z (.dT []),[Cm,p,m b],([qV,m,b≠p,b≠r→b≠d1→b≠d2→H b=Z o])→Q .bh m]]]]
theorem Zc{f bo bN fr:ab}{fd U:bq}(I:iM K [VD] xy bo f fd [IR])(T:[Ra,bo])(TK:[B9,bN])(D:[eY,"runs_of",xp,fr,U,[zm]]):aA P w K mg base aG 2 f fd [IR] (ES K bo bN):=by
 have G:aA P w K mg base aG 1 fr U [zm] (Oq K bN):=Yt D TK;rw[57,I.fn.ok,XU];·obtain⟨p,W,sc,ka,ks,aO,rfl,_⟩:=h;rfl
 obtain⟨p,W,sc,ka,ks,aO,rfl,R,y,hK,hS,hf,k⟩:=h;rw[228,pv 1,pv 2,aK (d0 (pv 0) [E4,G,hr,D.mg,D.fn.kp,D.b,2] J) (aK (d0 (pv 0) uj J) (aN (d0 (pv 0) uj J))),lI.zip];have t:ka≠p:=[oB,y,R];have up:∀{o:HO}{b:ab},b≠p→ag H p o b=H b:=λ j=>ar j
 rw[42,[W1,R,dU T J J aw [Cp]],iW];generalize hv:lI.zip ([]++[gt,sc]++[gt,ka])=X;have L:[Cm,p,ag H p (.ins bo W X) b]:=λ b o e j=>[cX,j,e]
 have hK2:jD bN (ag H p (.ins bo W X)) ks aO:=by
  rw[15,hK.len,λ i d hd=>?_];obtain⟨q,nu,sh,h1,⟨dy,h2⟩,a,c⟩:=hK.at_ i d hd;have nq:q≠p:=by intro z;subst z;rw[h2]at R;have a:=[dj,R];injection a with _ _ c;simp[fR,oR]at c
  exact⟨q,nu,sh,h1,⟨dy,L _ _ h2 nq⟩,L _ _ a [oB,a,R],c.mono λ b xs e=>L _ _ e [oB,e,R]⟩
 refine⟨ka,ks,aO,J,(ax.of (L _ _ y t)),hK2,hS,hf,λ r H2 l hR g v=>?_⟩;subst hv;have C:r≠p:=λ z=>by subst z;rw[aw]at l;cases l
 have S:H r=none:=by rw[ar C]at l;exact l
 refine[Kg,g _ _ aw];intro d1 m;have n:d1≠p:=λ z=>by subst z;rw[aw]at m;cases m
 have M:H2 d1=none:=by rw[ar n]at m;exact m
 refine[QA,n.symm];intro d2 F;have u:d2≠p:=[YW];have O:d2≠d1:=λ z=>by subst z;rw[ar u,aw]at F;cases F
 have N:H2 d2=none:=by rw[ar u,ar O,ar u]at F;exact F
 refine[QA,u.symm];obtain⟨Y,x,B⟩:=id hR;have r1:r≠d1:=aX x M;have r2:r≠d2:=aX x N;have f1:H d1=none:=by rw[50,g.free M,ar n]
 have f2:H d2=none:=by rw[50,g.free N,ar u]
 refine k r d1 d2 _ S f1 f2 r1 r2 O.symm aw ⟨Y,?_,B⟩ ?_ ?_ (λ b o e j=>?_) λ b o e j br b1 b2=>?_
 ·rw[ar C,ar r2,ar C,ar r1,ar C];exact x
 ·rw[ar n,ar O.symm,ar n,aw]
 ·rw[ar u,aw]
 ·rw[ar j,ar (aX e f2),ar j,ar (aX e f1),ar j];exact g _ _ (L _ _ e j)
 ·rw[ar j,ar b2,ar j,ar b1,ar j]at e;rw[50,v b o e br,ar j]
end
end VP
end
section
namespace VP
open PySem L2
def Cn(mg:[a_])(x:Str)(n:Nat):Prop:=[DV,x,nV n]
section
variable{P:aY}{w:aU}{K:aF}{mg:[a_]}{base:aE}
def ET:Sp:=λ U H Q _=>∃a b:Nat,U=[nV a,nV b]∧Q (nV (Vs.joined a b)) H
theorem Zd{f:ab}{v:bq}(D:[iW,[Tj],xF,v,[Fs]])(i:Cn mg "NO_CONSONANT" 0)(T:Cn mg "HEAVY" 3):aA P w K mg base aG 1 f v [Fs] ET:=by
 obtain⟨e,I,G⟩:=i;obtain⟨t,c,d⟩:=T;rw[66,D.fn.ok,XY,[Fj]];·obtain⟨a,b,rfl,_⟩:=h;rfl
 obtain⟨a,b,rfl,q⟩:=h;rw[74,[Om,pv 0,b8 J I G,pv 1],[DB,[Om,pv 1,b8 J I G,pv 0],b8 J c d]];unfold Vs.joined at q;rw[119,[Du],a,0];by_cases g:a=0;·rw[bK g];rw[62,aI g,aV [dL,q]]
 ·rw[bW g];rw[aD g]at q;rw[119,a_ [Du],b,0];by_cases r:b=0;·rw[bK r];rw[62,aI r,aV [dL,q]]
  ·rw[bW r];rw[62,aD r,a_ q]
def gk:[bd]:=["scanner","completions","most","kind_by_number"]
def EU:[bd]:=[[ca],"row",[mj]]
theorem O_:bQ EU [rF] (aZ rW):=[bV]
def yd(H:Hp)(a:ab)(aO:[aV])(ay:[cQ])(n:Nat):Prop:=[LO,a,.dK Y,∀i,i<n→cn Y (bY [aN,i])=[b8,[Ik,ay i]]]
def refOf(aO:[aV])(ay:[cQ]):V→V|.int z=>.ref [Ik,ay z.toNat]|_=>.bh
def Ax(K:aF)(d:ab):Sp:=λ U H Q _=>∃(se W sc co:ab)(most:Nat)(kb a:ab)(t:[ak])(aO:[aV])(ay:[cQ])(n:Nat),[lk,U=[.ref se,[bi]],H se=[gj,d,gk.zip [[tY],.ref co,[t9],.ref kb]],ax K H a (aJ t),[Ky,aQ],yd H kb aO ay n,[yj,t],[UU,Q,.aj (eX aO [CY])]]
theorem Ze{f d:ab}{v:bq}(M:[mu,"kinds_in",[Tc],rW,d,f,v,"row"])(T:[CG,d]):aA P w K mg base aG 1 f v [rF] (Ax K d):=by
 have nd:EU.Nodup:=O_.nd;rw[121,O_,[Fj]];·obtain⟨se,W,sc,co,most,kb,a,t,aO,ay,n,rfl,_⟩:=h;rfl
 obtain⟨se,W,sc,co,most,kb,a,t,aO,ay,n,rfl,q,y,l,⟨Y,z,V⟩,m,k⟩:=h;have o:=jB u;rw[48,[oH,[JZ,[mj],2,pv 1,EU,rW,nj o (u9 K 0) (pv 2) (λ _ _=>J)]],[zh,a,[eD,y],λ D r=>[CD,refOf aO ay,y,r,[nj,l],λ x L p F b C c X=>?_]]];·rw[177,b];have g:=[Ql,[aN,i],C _ _ z];rw[V i (m i O)]at g;rw[15,J,aV (B:=F L) ?_];exact⟨_,J,se,d,W,_,_,J,C _ _ q,T.cl,[jB,3],[jU,3],_,J,kb,_,J,g,c J⟩
 ·rw[[CB]];have e:(aJ t).map (refOf aO ay)=eX aO [CY]:=by unfold eX;rw[cP,cP];rfl
  rw[4,e,k D r]
end
end VP
end
section
namespace VP
open PySem L2
theorem oW{H:Hp}{f:[zH,V]}{i:Int}{v:V}(h:l9 H f (.num i) v)(K:[aX,dD v]):v=.int i:=by
 rcases h with h|⟨b,h,_⟩;·exact h
 ·subst h;cases K
theorem Zf{H:Hp}{f:[zH,V]}{b:Bool}{v:V}(h:l9 H f (.num (l7 b)) v)(K:dD v=true):v=.bl b:=by
 rcases h with h|⟨P,h,e⟩;·subst h;cases K
 ·rw[h,CB e]
theorem Pa{H:Hp}{sp:Vs.Spot}{N:[aw]}(h:eI H (iz sp) N)(E:l8 N=true):N=yc sp:=by obtain⟨e,a,rfl,g,s,S,rfl,r,c,d,rfl,P,x,j,rfl,w,rfl⟩:=h;have P:c=.str [On]:=P;subst P;have E:(! dD e&&! dD s&&! dD (V.str [On])&&(dD x==K9 (V.str [On])))=true:=E;simp only[dO,Bw,mS]at E;obtain⟨⟨⟨v,b⟩,_⟩,C⟩:=E;have C:dD x=true:=C;rw[oW g v,oW r b,Zf w C];rfl
theorem Zg{H:Hp}(t:w_ H){sp:Vs.Spot}{q:ab}(h:eZ H (iz sp) q):mw H q sp:=by obtain⟨_,N,e,k⟩:=h;have:=Pa k (t q N e);rw[64,e]
theorem Zi{H:Hp}(t:w_ H){L:Vs.a8}{q:ab}(h:eZ H (fD L) q):fi H q L:=by obtain⟨_,N,e,c,a,rfl,g,s,S,rfl,r,b,d,rfl,P,rfl⟩:=h;rw[300,iz L.1];have E:(! dD s&&! dD b)=true:=t q _ e;simp only[dO,Bw]at E;have e1:=Pa k (t p G R);subst e1;have e2:=oW r E.1;have B:=oW P E.2;subst e2;subst B;rw[42,⟨p,?_,R⟩,e];congr 4;cases L.2.1<;>rfl
theorem Zj{H:Hp}{a:ab}{sp:Vs.Spot}(h:mw H a sp):eZ H (iz sp) a:=by rw[18,by simp[iz,c_],_,h,?_];exact⟨_,_,J,[de],_,_,J,[de],_,_,J,J,_,_,J,.inr [dL,J],J⟩
def ig(t:[lG])(x:Vs.Spot):[lG]:=if x∈t then t else t++[x]
def gR(m:bT)(k:tq)(e:Bool)(r:[lG]):[lG]:=(r.flatMap (Vs.hO m k e)).foldl ig []
theorem Zk{x y:Vs.Spot}{t:[lG]}:y∈ig t x↔y∈t∨y=x:=by
 unfold ig;split;·rw[304]
 ·simp
theorem Pb{y:Vs.Spot}:∀(N t:[lG]),y∈N.foldl ig t↔y∈t∨y∈N|[],t=>[al]|x::N,t=>by rw[i7,Pb N,Zk];simp[or_assoc]
theorem Ay{m:bT}{k:tq}{e:Bool}{r:[lG]}{y:Vs.Spot}:y∈gR m k e r↔∃s∈r,y∈Vs.hO m k e s:=by unfold gR;rw[Pb];simp[nX]
theorem Pc:∀(N t:[lG]),[ck,N.foldl ig t,t.length+N.length]
 |[],t=>[al]
 |x::N,t=>by
  have:=Pc N (ig t x);have r:[ck,ig t x,t.length+1]:=by
   unfold ig;split;·omega
   ·simp
  rw[i7,dP];omega
def vc(H:Hp)(d:ab)(t:[lG]):Prop:=[LO,d,.dT Y,[Nh]=t.map iz]
theorem Zl{Y:[iF]}{t:[lG]}(h:[Nh]=t.map iz)(x:Vs.Spot)(v:V):(cD Y (iz x) v).map (·.1)=(ig t x).map iz:=by cases e:cn Y (iz x)with|none=>rw[349];unfold ig;rw[aD A,cH];rfl|some u=>rw[335,O1];unfold cD ig;rw[375,iz]
end VP
end
section
namespace VP
open PySem L2
def lK:tq→Str|.short=>"u"|.long=>"-"|.either=>"-u"
def si(c:Bool):Nat:=[SZ,c]
theorem Zm(k:tq)(c:Bool):([aK,si c∈(lK k).cps.toList]=JB k c):=by cases k<;>cases c<;>decide+kernel
def qg(H:Hp)(a:ab)(r:[lG]):Prop:=∃c,(H a=Z (.aj [Ig])∧(Paired (mw H) c r))
theorem Az{m e:Type}{R:[dF,m,e]}:∀{d:[ol]}{S:List e},d.length=S.length→(∀(i:Nat)(a:m)(b:e),d[i]?=Z a→S[i]?=Z b→R a b)→(Paired R d S)|[],[],_,_=>.nil|a::d,b::S,X,h=>(.cons (h 0 a b J J) (Az [aB,X] λ i x y A c=>h (i+1) x y [aB,A] [aB,c]))|[],_::_,X,_=>by simp at X|_::_,[],X,_=>by simp at X
def AA:V→ab|.ref a=>a|_=>0
theorem EV{K:aF}{H:Hp}:∀{G:[aV]}{S:[m_]},Paired (λ b(c:[wh])=>H b=Z [abb]) G S→ml K H [FF] (S.map λ c=>[YK])|_,_,.nil=>.nil|_,_,.cons r t=>(.cons (.tup (bM.of r) [zg,.int _,.int _]) (EV t))
theorem Pd(a b:Int):[jb,jL (.tuple [.int a,.int b]),(PyData.tuple [.int a,.int b]).depth≤16]:=by
 have e:(PyData.tuple [.int a,.int b]).depth=1:=by simp[PyData.depth,pd]
 rw[5];·unfold jL;rw[e];simp[vE,o9]
 ·rw[e];decide
theorem Zn(S:[m_])(f p:Nat):((S.map λ c=>[YK]).any λ e=>i9 e (.tuple [.int ([ar,f]+1),.int ([ar,p]+1)]))=S.contains (f+1,p+1):=by
 induction S with
  |nil=>rfl
  |cons c S T=>
   rw[bO,k8,T,List.contains_cons];congr 1;rw[dH];simp only[i9,yM,Jp,dO,mS];rw[5];·rintro⟨g,r⟩;have g:c.1=f+1:=[ac];have r:c.2=p+1:=[ac];exact Prod.ext g.symm r.symm
   ·intro h;subst h;rw[0,J,J]
theorem EW(r:[kw]):[b9,eC r,r.length]:=by show(r.map _).toArray.size=_;rw[dN,aC]
theorem Zo(c:Bool)(r:[kw]):mq (eC (c::r)) (Z 1) none=eC r:=by
 have g:HT.bz (r.length+1) 0 (Z 1)=1:=by rw[35,HT.wx (r.length+1) 0 1,[db,[aN,1],1,J]];rw[this];omega
 unfold mq;simp only[EW,dP,HT.wu,g,Bt];unfold eC;simp only[bO,List.drop_succ_cons,Sr];rw[sO [nj,ba _]]
section
variable{P:aY}{w:aU}{K:aF}{mg:[a_]}{base:aE}
def vd(B:ab)(m:bT)(sc d3:ab):Sp:=λ U H Q _=>∃(l:ab)(r:[lG])(k:tq)(e:Bool),[lk,U=[[tY],[lf],.str (lK k),.bl e],[Cc,H],qg H l r,[AE,100000],∀s∈r,[Wo,s.2.2.2],∀s∈r,([ck,[Kk,Vs.cS,s],4]∧(∀y∈[Kk,Vs.cS,s],y≠[]∧y.length≤1000)),∀(a:ab)(b:Hp),[u8,a,ah H b,qg b a (gR m k e r),Q [bi] b]]
theorem Zp{f fW fC fS o sc d3:ab}{m:bT}{fd fdW fdC fdS:bq}(M:[gM,[OU],[Re],uT,o,f,fd,[Er]])(T:[zC,o])(B:el mg)(MW:[gM,"ways_on",[Wr],xM,o,fW,fdW,[LA]])(MC:[gM,[VZ],[VC],xJ,o,fC,fdC,[LG]])(MS:[gM,"spot_at",[Ws],xK,o,fS,fdS,[KH]])(c4:[VQ]):aA P w K mg base aG 2 f fd [Er] (vd o m sc d3):=by
 have nd:=NU.nd;have GW:aA P w K mg base aG 1 fW fdW [LA] (O7 K o m sc d3):=Y_ MW T B;have GC:aA P w K mg base aG 1 fC fdC [LG] (O8 o m sc d3):=Zb MC T B;have GS:aA P w K mg base aG 1 fS fdS [KH] (ER o m sc d3):=Za MS T c4;rw[83,NU];·obtain⟨l,C,k,e,rfl,_⟩:=h;rfl
 obtain⟨l,C,N,en,rfl,S,⟨as,hl,has⟩,hlen,hcut,hways,k⟩:=h;rw[78];rw[22,[E5,4,uj,eJ dX J (dj (pv 1)) (oD J (gM [wf,5] (gM [wf,6] (gM [wf,7] (gM [wf,8] oC))))) [NX,9,UJ (pv 8) (zB (zC (pv 3) (zB (lA (Ng hr.units) [NH,[yw,pv 5],[yw,pv 6]] [eq] J)))),[Bh,[IN,MW.me,GW,hr,MW.b,pv 5,[jC,7]],10,[J2,PW.pt (lu (cm wW (zP (pv 10) bu [B3]) (pv 2) J) (oB [M8,iH (pv 9),iH [IN,MC.me,GC,hr,MC.b,pv 5,ak [yw,pv 6] aB]])),nk hu (pv 4) [Qu,hr,5,ak [yw,pv 6] [ug,oH DV (pv 10) (nh bu) pQ,pv 9]] md J]]],D_ [Fc,ry,MU J,B.list,Ru,4]]];intro d hd;have s0:ah H (ag H d (.dT [])):=[oE,hd];rw[49,l,J,[pD,s0 _ _ hl],[sK,iZ,l,[Na],λ i σ g=>∃v5 v6 v7 v8 v9 F:[dE],σ=[Z [tY],[ui],Z (.str (lK N)),Z (.bl en),[Ac],v5,v6,v7,v8,v9,F]∧ah H g∧vc g d ([T4,i].foldl ig [])∧[ck,[T4,i],4*i],⟨none,none,none,none,none,none,J,s0,[tJ,[],aw],[al]⟩,λ i σ g _⟨_,_,_,_,_,_,_,s',_⟩=>[nh,s',hl]]]
 ·rintro i y σ n hi⟨v5,v6,v7,v8,v9,F,rfl,s1,hfd,hle⟩;obtain⟨a,ha,rfl⟩:=lG hi;obtain⟨⟨I,p,r,L⟩,u,hat⟩:=d6 has ha;have hmem:=bt u;obtain⟨hw4,hwne⟩:=hways _ hmem;have hw4:[ck,[xY],4]:=hw4;have hcm:=hcut _ hmem;generalize R:Vs.eU m en (I,p,r,L)=G;have epb:Vs.hO m N en (I,p,r,L)=[EV,[xY],[OO]]:=by unfold Vs.hO;rw[R]
  have etake:[T4,i+1]=[T4,i]++[EV,[xY],[OO]]:=by rw[fH,u,kW,←epb];simp
  generalize hbase:[T4,i]=pre at*;have hil:i<100000:=by rw[10,[d0,u]]
  have mnow:∀(Q:VK),(∀H2,ah n H2→Q (.bl G) H2)→Le (cv 8) (Ld (cv 3) (h9 (Nc K) (ng [aaH,5,[aaH,6,gw]]) (nc K (cv 0) "cuts"))) [Z [tY],[ui],Z (.str (lK N)),Z (.bl en),[Ac],Z (nV I),Z (nV p),Z (gQ r),Z (.bl L),v9,F] n Q:=λ Q hQ=>by
   have hQ0:=hQ n [zA,n];unfold Vs.eU at R;rw[26,_,J,L,J,?_];cases L with
    |true=>rw[←R]at hQ0;exact aV hQ0
    |false=>
     refine a_ [jp,_,J,en,?_];cases en with
      |false=>rw[←R]at hQ0;exact a_ hQ0
      |true=>
       rw[33,⟨_,J,_,_,J,J,_,J,_,_,J,J,[Dr],[Nl]⟩];rw[107,n,t,.tup [(V.int ([ar,I]+1)),(V.int ([ar,p]+1))],ht];obtain⟨dx,fe,cu,la,en',h1,_,⟨cas,h4,h5⟩,_⟩:=((S.mono s1).mono s2).ex;refine⟨_,J,sc,o,dx,_,_,J,h1,T.cl,[jB,1],[jU,1],cu,_,_,.tuple [.int ([ar,I]+1),.int ([ar,p]+1)],J,(ax.of h4),EV h5,.tup (bM.of aw) [zg,.int _,.int _],λ e he=>?_,(Pd _ _).1,?_⟩;·obtain⟨c,_,rfl⟩:=[bE,he];exact Pd _ _
       ·rw[Zn];have:=hQ _ s2;rw[←R]at this;rw[65]
  rw[3,⟨a,_,J,[Dy,s1,hat],J,_,_,J,_,_,J,_,_,J,_,_,J,J,?_⟩,mnow _ λ H2 s2=>?_];have sH2:=[y9,s2];obtain⟨dx,fe,cu,la,en',h1,_⟩:=(S.mono sH2).ex;refine⟨_,J,sc,dx,_,J,h1,[em],_,J,_,J,I,r,J,S.mono sH2,λ lw H3 s3 hlw=>?_⟩;have sH3:=sH2.trans s3;obtain⟨kvs0,hk0,hk0'⟩:=hfd;refine⟨lw,J,[pD,hlw],[sK,iZ,lw,[xY].map gQ,λ j σ g=>[ac6,σ,[Z [tY],[ui],Z (.str (lK N)),Z (.bl en),[Ac],Z (nV I),Z (nV p),Z (gQ r),Z (.bl L),Z (.bl G),F],j],⟨F,J,sH3,hlw,[vk,kvs0,s3,s2 _ _ hk0,[aB,hk0']]⟩,λ j σ g _⟨_,_,_,e,_⟩=>(ax.of e)]⟩
  ·rintro j y σ H4 hj⟨F,rfl,s4,W,X⟩;obtain⟨wy,hwy,rfl⟩:∃wy,[xY][j]?=Z wy∧y=gQ wy:=by rw[cJ]at hj;cases q:[xY][j]? with|none=>rw[q]at hj;cases hj|some x=>rw[q]at hj;rw[97,x,hj]
   have hwm:=bt hwy;have etk:([xY].take (j+1))=([xY].take j)++[wy]:=[jh,fH,hwy];cases wy with
    |nil=>rw[8,J,(hwne _ hwm).1]
    |cons c r'=>
     have skip:Vs.ip m N I p G (c::r')=none→vc H4 d [Yh,j+1]:=λ e=>by rw[etk,List.filterMap_append];simpa[e]using X
     have hll:0<[fz,eC,c::r']:=by rw[16,EW]
     rw[42,⟨_,J,_,0,si c,J,J,[bj],[bj],by rw[19,[ar,0]<[ar,[fz,eC,c::r']]],J,_,J,si c,lK N,J,J,_,J,?_⟩,Zm];have put:∀(H5:Hp)(D:Ends),[cI,ah H4 H5,JB N c=true,G=true∨Vs.mX m I (p+1)=true,[aeT,D.nx [Z [tY],[ui],Z (.str (lK N)),Z (.bl en),[Ac],Z (nV I),Z (nV p),Z (gQ r),Z (.bl L),Z (.bl G),Z (gQ (c::r'))] g],DN (cv 4) (ud o "spot_at" (ER o m sc d3) [] E0 (cv 0) (dc (cv 5) [aaH,6,dc (Dh MM (cv 10) (Dg (tC (.int 1))) Df) (dc (cv 9) gw)])) (tC (.bl true)) D [Z [tY],[ui],Z (.str (lK N)),Z (.bl en),[Ac],Z (nV I),Z (nV p),Z (gQ r),Z (.bl L),Z (.bl G),Z (gQ (c::r'))] H5]:=λ H5 D s5 hf hc hD=>by
      have sH5:=s4.trans s5;obtain⟨dx5,_,_,_,_,h15,_⟩:=(S.mono sH5).ex;refine⟨_,J,_,J,sc,dx5,_,J,h15,[em],_,J,_,J,_,_,J,J,_,J,1,J,eC (c::r'),J,?_,_,J,I,p+1,r',G,?_,S.mono sH5,λ b hb=>?_⟩;·rw[4,EW,bf (hwne _ hwm).2 [bj]]
      ·rw[Zo];rfl
      ·obtain⟨Y,v,U⟩:=X;have hkv5:=s5 _ _ v;have hlw5:=s5 _ _ W;generalize hspot:Vs.jv m I (p+1) r' G=iU;have hat:mw [j0,H5,b,yc iU] b iU:=aw;have ndb:d≠b:=aX hkv5 hb;have hkl:[Ie]:=by have e1:=[Ca,U];rw[aC,aC]at e1;have e2:=Pc (pre++[EV,[xY].take j,[OO]]) [];rw[dh]at e2;have e3:=List.length_filterMap_le [OO] ([xY].take j);rw[jJ]at e3;have e4:[b9,([]:[lG]),0]:=J;exact[ze,eR,Y.length,400004]
       have hgo:Vs.ip m N I p G (c::r')=Z iU:=by show[Lh,[jb,JB N c,G=true∨Vs.mX m I (p+1)=true],Vs.jv m I (p+1) r' G]=Z iU;rw[aI ⟨hf,hc⟩,hspot]
       have sb:ah H [j0,H5,b,yc iU]:=(ah.aT sH5 (sH5.free hb));rw[26,d,_,J,jf.t (k:=iz iU) [cX,ndb,hkv5] (Zj hat) hkl,hD _ (ah.aT sb hd) ?_ [pv,_,aw]];·rw[12,ar [oB,hlw5,hkv5],ar (aX hlw5 hb),hlw5]
       ·rw[Zl U,etk,List.filterMap_append];have:List.filterMap [OO] [c::r']=[iU]:=[bn,hgo];rw[this,←gZ];simp only[qz,i7,Ss]
     have nxt:[aeT,[ac6,[[im,sc],[im,l],Z (V.str (lK N)),Z (V.bl en),[im,d],Z (nV I),Z (nV p),Z (gQ r),Z (V.bl L),Z (V.bl G),Z (gQ (c::r'))],[[im,sc],[im,l],Z (V.str (lK N)),Z (V.bl en),[im,d],Z (nV I),Z (nV p),Z (gQ r),Z (V.bl L),Z (V.bl G),F],j+1]]:=λ g q1 q2 q3=>⟨_,J,q1,q2,q3⟩
     cases hf:JB N c with
      |false=>exact a_ (a_ (nxt H4 s4 W (skip (by simp[Vs.ip,hf]))))
      |true=>
       rw[33,[jp,_,J,G,?_]];cases G with
        |true=>exact aV (aV (put H4 _ [zA,H4] hf [de] nxt))
        |false=>
         have hmet:[aX,L]:=by unfold Vs.eU at R;cases L with|false=>rfl|true=>simp at R
         obtain⟨dx4,_,_,_,_,h14,_⟩:=(S.mono s4).ex;refine a_ ⟨_,J,sc,dx4,_,J,h14,[em],_,J,_,J,_,_,J,J,I,p+1,J,S.mono s4,hcm hmet,λ H5 s5=>[Cp]⟩;cases q:Vs.mX m I (p+1)with|true=>exact aV (put H5 _ s5 hf (.inr q) nxt)|false=>obtain⟨Y,v,U⟩:=skip (by simp[Vs.ip,hf,q]);exact a_ (nxt H5 (s4.trans s5) (s5 _ _ W) [vk,Y,s5,v,U])
  ·rintro σ H4⟨F,rfl,s4,W,X⟩;rw[aC,fZ]at X;refine⟨_,_,_,_,_,F,J,s4,?_,?_⟩;rw[11,etake,X];·rw[etake,dh];rw[10,List.length_filterMap_le [OO] [xY]]
 ·rintro σ n⟨v5,v6,v7,v8,v9,F,rfl,s1,⟨Y,hk1,hk2⟩,hle⟩;intro tok;rw[aC,er has,fZ]at hk2;refine⟨_,J,d,Y,J,.inl hk1,λ q ys hq hyl hys=>?_⟩;rw[107,n,q,.aj ys,hq];rw[361,gR m N en C];have one:∀(i:Nat)(sp:Vs.Spot),(gR m N en C)[i]?=Z sp→∃b,ys[i]?=[b8,b]∧mw n b sp:=λ i sp u=>by have hi:i<Y.length:=[ap,O,[d0,u]];obtain⟨⟨kk,vv⟩,v⟩:∃p,Y[i]?=Z p:=[eD,bX hi];rw[271,i,v,(gR m N en C).map iz,Z kk,u,iz sp=kk];rw[1,b,hb,Zg tok hky]
  have eys:ys=(ys.map AA).map V.ref:=by
   rw[13,cP,(Jw ys).symm.trans (iD λ x hx=>?_)];rw[146,hx];have hi2:i<(gR m N en C).length:=by rw[←O,←hyl];exact hi
   obtain⟨b,hb,_⟩:=one i _ (bX hi2);rw[bX hi,ei]at hb;have:=[dj,hb];subst this;rfl
  refine k q _ (s1.free hq) [y9,s2] ⟨ys.map AA,[cm,eys,aw],Az (by rw[aC,hyl,O]) λ i b sp hb u=>?_⟩;rw[321,one i sp u,dF s2 _ _ hat]
end
end VP
end
section
namespace VP
open PySem L2
def kH(sp:Vs.Spot):lg:=.tuple [.int [ar,sp.1],.int [ar,sp.2.1],.str [On],.bool [Ab]]
theorem Pe{K:aF}{H:Hp}{a:ab}{sp:Vs.Spot}(h:mw H a sp):Dp K H [bi] (kH sp):=.tup (bM.of h) [J4,.int _,.int _,[zg,.str _,.bl _]]
theorem Pf{K:aF}{H:Hp}:∀{c:[aV]}{a:[lG]},Paired (mw H) c a→ml K H [Ig] (a.map kH)|_,_,.nil=>.nil|_,_,.cons r t=>(.cons (Pe r) (Pf t))
theorem Zq(a b:Vs.Spot):i9 (kH a) (kH b)=[aK,a=b]:=by
 obtain⟨v,c,i,C⟩:=a;obtain⟨V,d,N,u⟩:=b;rw[dH];simp only[kH,i9,yM,Jp,dO,mS,dw,Jl];rw[5];·rintro⟨g,r,P,w⟩;rw[21,[ac],[ac],EH P,w]
 ·rintro⟨g,r,P,w⟩;rw[21,[ac],[ac],by rw[P],w]
theorem Pg(sp:Vs.Spot):[jb,jL (kH sp),(kH sp).depth≤16]:=by
 have e:(kH sp).depth=1:=by simp[kH,PyData.depth,pd]
 have h:PyData.strOk [On]=true:=by unfold PyData.strOk eC;simp
 rw[5];·unfold jL;rw[e];simp[kH,vE,o9,h]
 ·rw[e];decide
def Ph(m:bT)(s:Vs.Spot):Prop:=[Wo,s.2.2.2]∧([ck,[Kk,Vs.cS,s],4]∧(∀y∈[Kk,Vs.cS,s],y≠[]∧y.length≤1000))
def sj(m:bT)(L:Vs.a8):Bool:=[uh,L.2.2=1]&&[uh,L.2.1=none]&&[aK,Vs.gH m∈gR m .either true [L.1]]
theorem Zr{m:bT}{L:Vs.a8}:(sj m L=true↔Vs.qT m L):=by
 unfold sj Vs.qT;simp only[dO,Bw,R6,dw,Ay];rw[5];·rintro⟨⟨g,r⟩,s,G,P⟩;simp at G;subst G;rw[1,g,r,P]
 ·rw[133];rw[21,⟨g,r⟩,L.1,[al],P]
structure ye(mg:[a_]):Prop where
 iU:Cn mg "SPOT" 0
 weight:Cn mg "WEIGHT" 1
 wants:Cn mg "WANTS" 2
 vowel:Cn mg "WITH_VOWEL" 1
 places:[VQ]
 AB:[DV,"NO_SYLLABLE",.int (-1)]
 either:[DV,"EITHER_MARK",.str (lK .either)]
theorem Zs(r:[lG])(x:Vs.Spot):((r.map kH).any λ e=>i9 e (kH x))=[aK,x∈r]:=by
 induction r with
  |nil=>rfl
  |cons a r T=>
   rw[bO,k8,T,Zq,dH,n9,dw,dw,dw,lU];rw[5];·rw[134,h.symm]
   ·rw[134,h.symm]
section
variable{P:aY}{w:aU}{K:aF}{mg:[a_]}{base:aE}
def EY(B:ab)(m:bT)(sc d3:ab):Sp:=λ U H Q _=>∃(a:ab)(L:Vs.a8),[cj,U=[[tY],[bi]],[Cc,H],fi H a L,Ph m L.1,∀b,ah H b→Q (.bl (sj m L)) b]
theorem Zt{f I B sc d3:ab}{m:bT}{v G:bq}(M:[mu,"is_end",[V6],uO,B,f,v,[x_]])(T:[zC,B])(C:ye mg)(F:[gM,[OU],[Re],uT,B,I,G,[Er]])(GB:aA P w K mg base aG 2 I G [Er] (vd B m sc d3)):aA P w K mg base aG 3 f v [m6] (EY B m sc d3):=by
 obtain⟨u0,h0,r0⟩:=C.iU;obtain⟨u1,g,r1⟩:=C.weight;obtain⟨u2,r,r2⟩:=C.wants;obtain⟨uv,hv,rv⟩:=C.vowel;rw[175];obtain⟨ue,R,re⟩:=C.either;rw[66,M.fn.ok,X4,λ cdv A outer s H U Q E u h=>?_];·obtain⟨a,L,rfl,_⟩:=h;rfl
 obtain⟨a,L,rfl,S,⟨sa,t,y⟩,q,k⟩:=h;rw[74,[Bd,[M8,[wW,e_,[N_,r,r2],b8 J hv rv],[wW,e_,[N_,g,r1],b8 J hn rn]],md],[oH,lA (Ng u.units) [eq] [IN,F.me,GB,u,F.b,fz (ak [N_,h0,r0] aB),[ug,b8 J R re,md]] J]];rw[119,⟨_,J,a,_,_,_,J,J,bM.of t,[wH,2,J],J,_,J,?_⟩,L.2.2,1];unfold sj at k;by_cases n:L.2.2=1;·rw[bK n];rw[82,bK n,aV (aV (k H [zA,H]))]
 ·rw[bW n];rw[bW n]at k;refine a_ [W9,a,t,1];have e1:wV L.2.1=(V.int (wZ L.2.1)):=by cases L.2.1<;>rfl
  have e2:[zW,(V.int (wZ L.2.1))=(V.int (-1)),L.2.1=none]:=by cases L.2.1 with|none=>rfl|some x=>rw[mh,dH];simp[wZ]
  rw[13,e1,[ff,J,_,?_]];rw[e2];by_cases p:L.2.1=none;·rw[bK p];rw[82,bK p,aV (k H [zA,H])]
  ·rw[bW p];rw[bW p]at k;refine a_ ?_;obtain⟨W,fe,cu,la,en,z,_,_,_,g5⟩:=S.ex;refine⟨_,J,sc,B,W,_,_,J,z,T.cl,[jB,3],[jU,3],_,J,sc,W,_,J,z,[em],_,J,a,_,_,_,J,J,bM.of t,[wH,0,J],by rw[84,1],λ l X=>?_⟩;rw[135,ag H l [EZ,sa],X];refine⟨l,[L.1],.either,true,J,S.mono Y,⟨[sa],aw,[o0,Y _ _ y]⟩,[P8,1≤100000],[Nt],[Nt],λ b d hb o O=>?_⟩;·simp at c;subst c;exact q.1
   ·simp at c;subst c;exact q.2
   ·obtain⟨bs,N,D⟩:=O;refine⟨b,_,_,kH (Vs.gH m),J,(ax.of N),Pf D,Pe (o _ _ (Y _ _ g5)),λ e R=>?_,(Pg _).1,?_⟩;·rw[147,R];exact Pg x
    rw[11,Zs,k d [rE,o]]
end
end VP
end
section
namespace VP
open PySem L2
structure gU(m:bT):Prop where
 feet:m.feet.length≤16
 iT:[ads]
 cuts:[Fz]
structure ij(m:bT)(sp:Vs.Spot):Prop where
 f:sp.1≤m.feet.length
 r:sp.2.2.1≠[]→sp.1<m.feet.length
 p:sp.2.1≤4
 l:[ck,sp.2.2.1,3]
 c:[Wo,[Ab]]
theorem Pj{m:bT}(M:gU m){f:Nat}{r:[kw]}(X:[AE,4]):([ck,[Ur,f],4]∧(∀y∈[Ur,f],y≠[]∧y.length≤4)):=by
 unfold Vs.cS;by_cases h:r=[];·rw[aI h];cases e:m.feet[f]? with|none=>simp|some g=>exact M.iT g (bt e)
 ·rw[aD h];rw[15,[al],λ y a=>?_];simp at a;subst a;rw[0,h,X]
theorem yf{m:bT}(M:gU m){sp:Vs.Spot}(h:ij m sp):Ph m sp:=by have:=[ac_];rw[1,h.c,this.1,λ y a=>⟨(this.2 y a).1,[oM,(this.2 y a).2]⟩]
theorem Zu{m:bT}(M:gU m){k:tq}{e:Bool}{sp q:Vs.Spot}(h:ij m sp)(D:q∈Vs.hO m k e sp):ij m q:=by
 obtain⟨c,r,T,_,_,rfl⟩:=Vs.Co.mp D;have X:=([ac_].2 _ T).2;have s:sp.1<m.feet.length:=by
  rw[44,sp.2.2.1,[]];·unfold Vs.cS at T;rw[aI z]at T;cases e:m.feet[sp.1]? with|none=>rw[e]at T;cases T|some g=>exact[d0,e]
  ·exact h.r z
 have u:[AE,3]:=[aB,X];have N:[Wo,Vs.eU m e sp]:=λ z=>by unfold Vs.eU at z;exact h.c (by cases q:[Ab]with|false=>rfl|true=>rw[q]at z;simp at z)
 have R:=h.p;have w:=Vs.KG (n:=4) (λ c V=>M.cuts c V) (sp.1+1);unfold Vs.jv;split;·rw[9,s,[Lg,J,z],b7 _,b7 _,N]
 ·split;·rw[9,h.f,λ _=>s,ba _,u,N]
  ·rename_i q;rw[26,h.f,λ _=>s,?_,u,N];have q:=(not_or.mp q).2;rw[19,sp.2.1+1≤4]
theorem yg{m:bT}(M:gU m){k:tq}{e:Bool}{r:[lG]}(h:[Kt,r]):∀q∈gR m k e r,ij m q:=λ q D=>by obtain⟨s,G,D⟩:=Ay.mp D;exact Zu M (h s G) D
def ve:Nat→[KW]|0=>[[]]|n+1=>[]::[rg,ve n,λ r=>[true::r,false::r]]
theorem Pk:∀{n:Nat}{r:[kw]},r.length≤n→r∈ve n|0,[],_=>[bn,ve]|n+1,[],_=>[bn,ve]|n+1,b::r,h=>by have:=Pk (n:=n) (r:=r) (by rw[60]);simp only[ve,lU,nX];refine .inr [pv,r,this];cases b<;>simp
def yh:[lG]:=[z_,17,λ f=>[z_,5,λ p=>[rg,ve 3,λ r=>[(f,p,r,true),(f,p,r,false)]]]]
theorem Pl:yh.length=2550:=[bB]
theorem Pm{m:bT}(M:gU m){sp:Vs.Spot}(h:ij m sp):sp∈yh:=by obtain⟨f,p,r,b⟩:=sp;have g:f≤m.feet.length:=h.f;have a:p≤4:=h.p;have P:=M.feet;simp only[yh,nX,So];rw[53,f,[ac],p,[ac],r,Pk h.l,?_];cases b<;>simp
theorem Zv{x:Vs.Spot}{t:[lG]}(h:t.Nodup):(ig t x).Nodup:=by unfold ig;rw[278]
theorem Pn:∀{xs t:[lG]},t.Nodup→(xs.foldl ig t).Nodup|[],_,h=>h|x::xs,t,h=>[ap,i7,Pn (xs:=xs) (Zv h)]
theorem EZ{m:bT}(M:gU m){k:tq}{e:Bool}{r:[lG]}(h:[Kt,r]):[ck,gR m k e r,2550]:=[cm,Pl,Vs.jT (Pn kj) λ x A=>Pm M (yg M h x A)]
def qh(m:bT)(sp:Vs.Spot)(p:[v0])(o:[ak]):[lG]:=o.dropLast.foldl [OD] [Yw]
theorem E4{m:bT}(M:gU m):∀(o:[ak]){l:[lG]},([Kt,l])→∀q∈o.foldl [OD] l,ij m q|[],_,h=>h|_::o,_,h=>E4 M o (yg M h)
theorem E5{m:bT}(M:gU m):∀(o:[ak]){l:[lG]},([Kt,l])→l.length≤2550→[ck,o.foldl [OD] l,2550]|[],_,_,h=>h|_::o,_,h,_=>E5 M o (yg M h) (EZ M h)
theorem E6{m:bT}(M:gU m){sp:Vs.Spot}(h:ij m sp)(p:[v0]):[Kt,[Yw]]∧[ck,[Yw],2550]:=by
 have g:[Kt,[sp]]:=λ s G=>by simp at G;subst G;exact h
 cases p with|none=>rw[0,g,[al]]|some w=>rw[0,yg M g,EZ M g]
theorem Po{m:bT}(M:gU m){sp:Vs.Spot}(h:ij m sp)(p:[v0])(o:[ak]):(∀q∈qh m sp p o,ij m q)∧[ck,qh m sp p o,2550]:=⟨E4 M _ (E6 M h p).1,E5 M _ (E6 M h p).1 (E6 M h p).2⟩
theorem E7{m:bT}{q:Vs.Spot}:∀(o:[ak]){l l':[lG]},(∀x,x∈l↔x∈l')→(q∈o.foldl [OD] l↔q∈Vs.l0 m l' (o.map λ w=>⟨[EW,w],false⟩))
 |[],_,_,h=>h q
 |w::o,l,l',h=>by
  refine E7 o (l:=gR m [EW,w] false l) (l':=l'.flatMap (Vs.hO m [EW,w] false)) λ x=>?_
  rw[Ay,nX];rw[5];·rintro⟨s,G,A⟩;rw[1,s,(h s).mp G,A]
  ·rintro⟨s,G,A⟩;rw[1,s,(h s).mpr G,A]
theorem Zw{m:bT}(l:[lG])(a b:List Kgz1.Syl):Vs.l0 m l (a++b)=Vs.l0 m (Vs.l0 m l a) b:=by unfold Vs.l0;rw[qz]
theorem Pp{m:bT}{sp q:Vs.Spot}{p:[v0]}{K:Nat}{o:[ak]}(h:o≠[]):q∈qh m sp (p.map λ w=>[Kx,K]) o↔q∈Vs.l0 m [sp] (Vs.settled p K o):=by unfold qh Vs.settled;rw[aD h];cases p with|none=>exact E7 _ λ x=>vP|some w=>rw[13,Zw,E7 _ λ x=>?_];show x∈gR m [EW,[Kx,K]] true [sp]↔x∈[rg,[sp],Vs.hO m [EW,[Kx,K]] true];rw[Ay,nX]
structure qi(m:bT)(L:Vs.a8):Prop where
 sp:ij m L.1
 w:[Ti,L.2.1]
 n:L.2.2≤2
structure qj(sh:Vs.Shape):Prop where
 fx:[ck,sh.2,2]
 fm:∀fm∈sh.2,fm.1≤2∧fm.2.1≤3∧[Nj,fm.2.2]
def jo(m:bT)(L:Vs.a8)(fm:Vs.Form):[mh]:=[Z2,(L.1,[NP,[Kx,fm.2.1]],fm.1),qh m L.1 [NP,[Kx,fm.2.1]] fm.2.2]
def kI(m:bT)(L:Vs.a8)(sh:Vs.Shape):[mh]:=[ZS,jo]
theorem Pq{m:bT}{L x:Vs.a8}{fm:Vs.Form}:x∈jo m L fm↔x∈Vs.tT m L fm:=by
 unfold jo Vs.tT;split;·exact vP
 ·rename_i h;rw[yP,yP];rw[5];·rintro⟨s,G,rfl⟩;rw[1,s,(Pp h).mp G,J]
  ·rintro⟨s,G,rfl⟩;rw[1,s,(Pp h).mpr G,J]
theorem Zx{m:bT}{L x:Vs.a8}{sh:Vs.Shape}:x∈kI m L sh↔x∈Vs.qS m L sh:=by
 unfold kI Vs.qS;split
 ·rw[nX,nX];rw[5];·rintro⟨f,F,A⟩;rw[1,f,F,Pq.mp A]
  ·rintro⟨f,F,A⟩;rw[1,f,F,Pq.mpr A]
 ·exact vP
theorem Zy{a b:Nat}(ha:a≤3)(K:b≤3):Vs.joined a b≤3:=by
 unfold Vs.joined;split;·exact K
 ·split;rw[2,ha,ba _]
theorem Pr{p:[v0]}{b:Nat}(ha:[Ti,p])(K:b≤3):[Ti,p.map λ w=>[Kx,b]]:=by intro w h;cases p with|none=>cases h|some x=>have:=[dj,h];rw[64,Zy (ha x J) K]
theorem AD{m:bT}(M:gU m){L:Vs.a8}(h:qi m L){fm:Vs.Form}(F:fm.1≤2∧fm.2.1≤3∧[Nj,fm.2.2]):(∀x∈jo m L fm,qi m x)∧[ck,jo m L fm,2550]:=by
 unfold jo;split;·rw[15,[qu],[al]];simp at A;subst A;rw[1,h.sp,Pr h.w F.2.1,F.1]
 ·have:=Po M h.sp [NP,[Kx,fm.2.1]] fm.2.2;rw[15,[qu],[nj,this.2]];obtain⟨s,G,rfl⟩:=[bE,A];rw[1,this.1 s G,λ w T=>F.2.2 w (List.mem_of_getLast? T),F.1]
theorem yi{m d:Type}{f:m→List d}{n:Nat}:[Pl,∀x∈l,[ck,f x,n],[ck,l.flatMap f,n*l.length]]|[],_=>[al]|a::l,h=>by have:=yi (f:=f) (n:=n) (l:=l) [Kn,h];have g:=h a cq;rw[kZ,dh,dP,Nat.mul_succ];omega
theorem Pu{m:bT}(M:gU m){L:Vs.a8}(h:qi m L){sh:Vs.Shape}(G:qj sh):(∀x∈kI m L sh,qi m x)∧[ck,kI m L sh,10000]:=by
 unfold kI;split
 ·rw[5];·intro x A;obtain⟨f,F,A⟩:=[zB,A];exact(AD M h (G.fm f F)).1 x A
  ·have:=yi (f:=jo m L) (n:=2550) (l:=sh.2) λ f F=>(AD M h (G.fm f F)).2
   have r:=G.fx;have:2550*sh.2.length≤2550*2:=R4 _ r;omega
 ·rw[0,λ x A=>by(cases A),[al]]
def E8:[mh]:=yh.flatMap λ sp=>[rg,[none,Z 0,Z 1,Z 2,Z 3],λ w=>[(sp,w,0),(sp,w,1),(sp,w,2)]]
theorem Zz:E8.length≤100000:=by rw[35,yi (f:=λ sp:Vs.Spot=>[rg,[none,Z 0,Z 1,Z 2,Z 3],λ w:[v0]=>[(sp,w,0),(sp,w,1),(sp,w,2)]]) (n:=15) (l:=yh) λ x _=>[al],Pl];exact[oM,this]
open Classical in noncomputable def UM(m:bT):[mh]:=E8.filter λ st=>[aK,qi m st]
theorem ZA(m:bT):[ck,UM m,100000]:=bf (nO _ _) Zz
theorem yj{m:bT}(M:gU m){L:Vs.a8}:L∈UM m↔qi m L:=by
 unfold UM;rw[32,yH];·rintro⟨_,h⟩;exact@lR _ (o6 _) h
 ·intro h;rw[15,?_,@bK _ (o6 _) h];obtain⟨sp,w,n⟩:=L;unfold E8;refine[wB,sp,Pm M h.sp,[wB,w,?_,?_]];·have T:=h.w;cases w with|none=>simp|some k=>have:=T k J;rw[47,k=0∨k=1∨k=2∨k=3];rcases this with rfl|rfl|rfl|rfl<;>simp
  ·have hn:n≤2:=h.n;rw[47,n=0∨n=1∨n=2];rcases this with rfl|rfl|rfl<;>simp
end VP
end
section
namespace VP
open PySem L2
theorem E9(n d:Nat):HT.bz n d (Z (-1))=n-1:=by show[Uy,[ar,-1],[MY,-1]]=n-1;rw[27,aI [bj]]
theorem AE(N:[aw]):dB N none (Z (-1))=N.dropLast:=by unfold dB;rw[HT.wu,E9,Sr,Js,List.dropLast_eq_take]
theorem Pw(l:[ak]):l8 (aJ l)=true:=by match l with|[]=>rfl|[_]=>rfl|[_,_]=>rfl|[_,_,_]=>rfl|[_,_,_,_]=>rfl|_::_::_::_::_::_=>rfl
def Px:[aw]:=[.str "u",.str "u",.str "-u",.str "-"]
theorem Py{w:Nat}(h:w≤3):Px[w]?=Z (.str (lK [EW,w])):=by rw[47,w=0∨w=1∨w=2∨w=3];rcases this with rfl|rfl|rfl|rfl<;>rfl
structure Pz(K:aF)(mg:[a_]):Prop where
 ex:[aa8,"MARKS",Px]
theorem PB(p:[v0]):[uh,wV p=(V.int (-1))]=p.isSome:=by cases p with|none=>rfl|some w=>show[uh,[xX,w]=(V.int (-1))]=true;rw[mh];simp
section
variable{P:aY}{w:aU}{K:aF}{mg:[a_]}{base:aE}
def AF(B:ab)(m:bT)(sc d3:ab):Sp:=λ U H Q _=>∃(sa y:ab)(sp:Vs.Spot)(p:[v0])(o:[ak]),[cj,U=[[tY],[rs],wV p,.ref y],[Cc,H],mw H sa sp,ij m sp,[cj,[Ti,p],H y=Z (.tup (aJ o)),o≠[],[Nj,o],∀(a:ab)(b:Hp),ah H b→[Ae,qg b a (qh m sp p o),b]]]
theorem ZC{f fB B sc d3:ab}{m:bT}{fd fdB:bq}(N:gU m)(M:[gM,[Q6],[Vk],xI,B,f,fd,[KL]])(T:[zC,B])(C:ye mg)(Mk:Pz K mg)(MB:[gM,[OU],[Re],uT,B,fB,fdB,[Er]])(GB:aA P w K mg base aG 2 fB fdB [Er] (vd B m sc d3)):aA P w K mg base aG 3 f fd [KL] (AF B m sc d3):=by
 have nd:=NT.nd;rw[175];obtain⟨ma,hma,hmk⟩:=Mk.ex;rw[83,NT];·obtain⟨sa,F,sp,p,r,rfl,_⟩:=h;rfl
 obtain⟨sa,F,sp,p,r,rfl,S,hsp,hin,hp,hwa,hws,hw3,k⟩:=h;rw[22,[we,4,fz [jC,1],[Lw,rq,pv 2,b8 J hn rn,[ad0,pv 2]],[DB,[PJ,CW (oH VC (pv 3) pQ (nh (ro rp bu))),5,[ad0,pv 5]],pv 4]]];have L:∀(l:ab)(o:Hp)(I:[lG])(D:Ends),[cI,ah H o,qg o l I,[Kt,I],I.length≤2550,(∀(b:ab)(d:Hp)u,ah H d→qg d b (r.dropLast.foldl [OD] I)→D.nx [XT,[b8,b],u] d)→Lo (Lm K (Dh (LV K) (cv 3) Df (Dg (C1 (rU λ i=>.int (-i)) (tC (.int 1)))))) (iX 5) (t8 [act] (iX 4)) D [XT,[ui],none] o]:=by
  intro l o I D Y hl0 U X hD;have hne:aJ r≠[]:=[aB,hws];refine⟨_,J,_,J,_,J,F,_,J,[Dy,Y,hwa],?_,?_,[Nl]⟩
  ·rintro⟨_,h2⟩;rw[E9]at h2;have:[fz,aJ,r]≠0:=by rw[12,Ne,List.length_eq_zero_iff,hne]
   omega
  ·show l8 [DY,r]=true;rw[AE,←Bx];exact Pw _
  have ec:[DY,r]=[Tz]:=by rw[AE,←Bx]
  show∃a,(V.ref t)=(V.ref a)∧_;rw[107,o,t,.tup [DY,r],ht];have O:(ag o t (.tup [DY,r])) t=Z (.tup [Tz]):=[ap,ec,aw];generalize hH2:[j0,o,t,[DY,r]]=H2 at s2 O;have sH2:=[rE,s2];have hl2:qg H2 l I:=let⟨as,q1,q2⟩:=hl0;[vk,as,s2,q1,[B0,q2,s2 _ _ z]]
  rw[18,t,J,[eD,bM.of O],?_];have hgo:=CY (K:=K) (a:=t) (xs:=[Tz]) (g:=iX 5) (tb:=t8 [act] (iX 4)) (D:=D) (H:=H2) (σ:=[XT,[ui],none]) (λ i σ d=>∃(b:ab)(u:[dE]),σ=[XT,[b8,b],u]∧ah H d∧d t=Z (.tup [Tz])∧qg d b ((r.dropLast.take i).foldl [OD] I)) ⟨l,none,J,sH2,O,[aB,hl2]⟩ (λ i σ d _⟨_,_,_,_,e,_⟩=>bM.of e) ?_ ?_;·exact hgo
  ·rintro i y σ H3 hi⟨b,u,rfl,s3,ht3,n⟩;obtain⟨x,hx,rfl⟩:∃x,r.dropLast[i]?=Z x∧y=nV x:=by rw[cJ]at hi;rw[374,r.dropLast]
   have hx3:=hw3 x (RR _ (bt hx));rw[213,s3];have W:=E4 N (r.dropLast.take i) U;refine⟨_,J,sc,dx,_,J,g1,[em],_,J,_,J,ma,_,_,_,J,J,hmk _,[wH,x,Py hx3],b,_,[EW,x],false,J,S.mono s3,n,[oM,E5 N _ U X],λ s G=>(yf N (W s G)).1,λ s G=>(yf N (W s G)).2,λ c H4 hc s4 R=>⟨c,_,J,s3.trans s4,s4 _ _ ht3,?_⟩⟩;rw[fH,hx,qz];exact R
  ·rintro σ H3⟨b,u,rfl,s3,ht3,n⟩;rw[aC,fZ]at n;exact hD b H3 u s3 n
 rw[18,_,J,by rw[84,1],λ l hl=>?_];rw[135,ag H l [EZ,sa],hl];have hl1:qg (ag H l [EZ,sa]) l [sp]:=⟨[sa],aw,[o0,Y _ _ hsp]⟩;have h1:[Kt,[sp]]:=λ s G=>by simp at G;subst G;exact hin
 refine[Cp];cases p with|none=>rw[21,J,_,J,a_ (L l _ [sp] _ Y hl1 h1 [al] λ b d u sH n=>[dL,k b d sH n])]|some x=>have e:C4 (wV (Z x)) (V.int (-1))=true:=J;rw[69,[ff,e,_,?_],[uh,wV (Z x)=(V.int (-1))]];rw[PB];rw[213,Y];rw[33,⟨_,J,sc,dx,_,J,g1,[em],_,J,_,J,ma,_,_,_,J,J,hmk _,[wH,x,Py (hp x J)],l,_,[EW,x],true,J,S.mono Y,hl1,[al],λ s G=>(yf N (h1 s G)).1,λ s G=>(yf N (h1 s G)).2,λ c H4 hc s4 R=>?_⟩];exact L c _ _ _ [rE,s4] R (yg N h1) (EZ N h1) λ b d u sH n=>[dL,k b d sH n]
end
end VP
end
section
namespace VP
open PySem L2
def E_:[bd]:=[[ca],[x_],"shape","begins","forms","found","wants","lead",[Az],"weight","spots","spot"]
theorem PD:bQ E_ [vn] (aZ uQ):=[bV]
def lL(l:[ak]):List lg:=[TZ]
theorem ZD(K:aF){X:Cx}(h:X.K=K:=by rfl):zT X (rz K):=by subst h;exact j4
theorem PF{K:aF}{H:Hp}:∀(l:[ak]),ml K H (aJ l) (lL l)|[]=>.nil|n::l=>(.cons (.int _) (PF l))
theorem PH:∀l:[ak],pd (lL l)=0|[]=>by simp[lL,pd]|n::l=>by have:=PH l;simp only[lL,bO,pd,PyData.depth]at*;rw[this];rfl
theorem PJ:∀l:[ak],o9 (lL l)=true|[]=>by simp[lL,o9]|n::l=>by have:=PJ l;simp only[lL,bO,o9,vE,yO]at*;rw[65]
theorem ZE(l:[ak]):jL (.tuple (lL l))=true:=by unfold jL;simp only[PyData.depth,vE,PH,PJ];decide
theorem ZF(l:[ak]):i9 (.tuple (lL l)) (.tuple [])=[aK,l=[]]:=by cases l with|nil=>simp[lL,i9,yM]|cons a l=>simp[lL,i9,yM]
theorem ZG(p:[v0]):[aX,dD (wV p)]:=by cases p<;>rfl
theorem ZH(a b:Nat):(! i2 (nV a) [nV 0,nV b])=[uh,a=0∨a=b]:=by show(!(([ar,0]==[ar,a])||(([ar,b]==[ar,a])||false)))=_;congr 1;rw[dH];simp only[yN,n9,mS,dw];omega
section
variable{P:aY}{w:aU}{K:aF}{mg:[a_]}{base:aE}
def Fb(B:ab)(m:bT)(sc d3:ab):Sp:=λ U H Q _=>∃(a sa:ab)(L:Vs.a8)(sh:Vs.Shape),[lk,U=[[tY],[bi],[rs]],[Cc,H],fi H a L,qi m L,ji H sa sh,qj sh,∀(l:ab)(b:Hp),[u8,l,ah H b,ia b l (kI m L sh),Q [lf] b]]
theorem ZI{f fW fJ CS sc d3:ab}{m:bT}{fd fdW fdJ:bq}(MI:gU m)(M:[gM,[V0],[VE],uQ,CS,f,fd,[vn]])(T:[zC,CS])(C:ye mg)(cA:Cn mg "ANYHOW" 0)(MW:[gM,[Q6],[Vk],xI,CS,fW,fdW,[KL]])(GW:aA P w K mg base aG 3 fW fdW [KL] (AF CS m sc d3))(Dj:[eY,[Tj],xF,fJ,fdJ,[Fs]])(Gj:aA P w K mg base aG 1 fJ fdJ [Fs] ET):aA P w K mg base aG 4 f fd [vn] (Fb CS m sc d3):=by
 have nd:E_.Nodup:=PD.nd;obtain⟨u0,h0,r0⟩:=C.iU;obtain⟨u1,h1,r1⟩:=C.weight;obtain⟨u2,h2,r2⟩:=C.wants;rw[175];obtain⟨ua,hA,rA⟩:=cA;rw[83,PD];·obtain⟨a,sa,L,sh,rfl,_⟩:=h;rfl
 obtain⟨a,sa,L,sh,rfl,S,⟨pa,p,hsp⟩,u,⟨fa,fs,hsh,hfa,hfs⟩,R,k⟩:=h;rw[22,[JN,3,[QC,j4],4,[QC,j4],aK [Bd,cm L0 [N_,h2,r2] (ff (ak (b8 J hA rA) [jC,3])) J,fz aB] [Dz,5,fz aB,eJ dX J (CW (pv 4)) (oD J (gM (b9 (i:=6) nd J (gq J)) (gM [wf,7] (gM (b9 (i:=8) nd J (gq J)) oC)))) [we,9,[N_,h1,r1],[Lw,rq,pv 9,b8 J hn rn,[xQ,9,[DE,Gj,[X8],Dj.mg,Dj.fn.kp,Dj.b,pv 9,[jC,7]]]],aN (cI [vZ,L9 hr.units,8,ff aB] (aN (j0 (mj nN sM sN pT (pv 5) (ak (ff (ak [N_,h0,r0] [uj,9,pv 6])) aB)))) [NX,10,[IN,MW.me,GW,hr,MW.b,[N_,h0,r0],[uj,9,pv 8]],[adX,pv 5,[JZ,"spot",11,pv 10,E_,uQ,ff (ak (pv 11) [ug,fQ (ZD K) (pv 8) (ro rp bu) (λ _ _=>J),pv 6])]]])]]]];refine[W9,sa,hsh,0];refine[W9,sa,hsh,1];refine⟨_,J,a,_,_,_,J,J,bM.of p,[wH,2,J],_,J,[Dr],[Nl]⟩;have s1:ah H [j0,H,t,[nV 0,nV sh.1]]:=[oE,ht];rw[69,[Nf,t,[nV 0,nV sh.1],J,.inr (bM.of aw)],! i2 (nV L.2.2) [nV 0,nV sh.1]];rw[ZH];unfold kI at k;by_cases g:L.2.2=0∨L.2.2=sh.1
 ·rw[bK g];rw[aI g]at k;refine a_ [Ei,λ l hl=>?_];generalize hH1:[j0,H,t,[nV 0,nV sh.1]]=H1 at s1 hl⊢;have s2:ah H [ni,H1,l]:=[y9,[cE,H1,hl]];have hl0:H l=none:=s1.free hl;rw[49,fa,J,[eD,[Dy,s2,hfa]],[sK,CY,fa,fs,λ i σ d=>∃v6 v7 v8 v9 B:[dE],σ=[Z [tY],[lA],Z [rs],Z (nV sh.1),[b8,fa],[ui],v6,v7,v8,v9,B,none]∧ah H d∧ia d l [T6,i],⟨none,none,none,none,none,J,s2,[],aw,.nil⟩,λ i σ d _⟨_,_,_,_,_,_,s',_⟩=>[Dy,s',hfa]]]
  ·rintro i y σ H3 hi⟨v6,v7,v8,v9,B,rfl,s3,as,hl3,has⟩;obtain⟨⟨I,ld,o⟩,hfm,ya,wa,rfl,hya,hwa⟩:=d6 hfs hi;have Y:=R.fm _ (bt hfm);have U:[T6,i+1]=[T6,i]++jo m L (I,ld,o):=by rw[fH,hfm,kW];simp
   have haslen:as.length≤2550*2:=by
    rw[er has];have h1:=yi (f:=jo m L) (n:=2550) (l:=(sh.2.take i)) λ f hf=>(AD MI u (R.fm f (Bq hf))).2
    have h2:=R.fx;have h3:[ck,sh.2.take i,2]:=[e9,jJ];rw[10,R4 2550 h3]
   have hfin:=AD MI u Y;rw[3,⟨ya,_,J,[Dy,s3,hya],J,_,_,J,_,_,J,_,_,J,J,?_⟩,[W9,a,s3 _ _ p,1]];generalize v:[NP,[Kx,ld]]=r;have X:[B6,jo m L (I,ld,o),o=[],[(L.1,r,I)],(qh m L.1 r o).map λ sp=>(sp,o.getLast?,I)]:=by unfold jo;rw[←v]
   have hp3:[Ti,r]:=[cm,v,Pr u.w Y.2.1];have hwn:=Y.1;have rest:∀(D:Ends),(∀d B,ah H d→ia d l [T6,i+1]→D.nx [Z [tY],[lA],Z [rs],Z (nV sh.1),[b8,fa],[ui],Z (nV I),Z (nV ld),[b8,wa],Z (wV r),B,none] d)→zD (uc (h9 (Dx K) (cv 8) (ng gw))) (CQ (Dt K [ry] L4 (cv 5) (dc (ng [aeD,cv 6]) gw))) (wj (t8 (ud CS [Q6] (AF CS m sc d3) [] E0 (cv 0) [aeD,cv 8]) (iX 10)) (CQ (Dt K [ry] L5 (cv 5) (dc (oK (Ll K (cv 10)) (iX 11) Mg (ng (dc (cv 11) (dc (h9 (rz K) (cv 8) (C1 (rU λ i=>(V.int (-i))) (tC (V.int 1)))) (dc (cv 6) gw)))) [11]) gw)))) D [Z [tY],[lA],Z [rs],Z (nV sh.1),[b8,fa],[ui],Z (nV I),Z (nV ld),[b8,wa],Z (wV r),B,none] H3:=by
    intro D hD;have hwa3:=s3 _ _ hwa;rw[18,_,J,[eJ,b7 _],λ t4 ht4=>?_];have s4:ah H3 [j0,H3,t4,[]]:=[cE,H3,ht4];have O:=s3.trans s4;rw[42,⟨.tuple (lL o),.tuple [],.tup [Dy,s4,hwa3] (PF o),.tup (bM.of aw) .nil,ZE o,[bB],?_⟩,ZF];generalize hH4:[j0,H3,t4,[]]=H4 at s4 O⊢;refine[Cp];have hl4:=s4 _ _ hl3;have has4:(Paired (fi H4) as [T6,i]):=[NY,has,dF s4];by_cases g:o=[]
    ·rw[bK g];rw[aI g]at X;rw[33,⟨_,J,[C_,hl4],_,J,a,_,_,_,J,J,[Dy,O,p],[wH,0,J],_,J,_,J,[Ak,3,?_],λ q hq=>?_⟩];·show(! dD (wV r)&&! dD (nV I))=true;rw[ZG];rfl
     ·have s5:ah H4 (ag H4 q [Xm]):=[cE,H4,hq];have G:=s5 _ _ hl4;have hpa:(ag H4 q [Xm]) q=Z [Xm]:=aw;generalize hH5:ag H4 q [Xm]=H5 at s5 G hpa⊢;refine⟨l,_,_,J,J,G,(eR (show[ck,[Na],2550*2]by rw[4,aC,haslen]) [bj]),?_⟩;rw[343,H5,[gt,q],G,B,O.trans s5,[q]];rw[12,U,X,nG [B0,has4,(z.mono (dF s5)).mono tk] [o0,[vk,pa,tk,hpa,tk _ _ (s5 _ _ (O _ _ hsp))]]]
    ·rw[bW g];rw[aD g]at X;rw[213,O];refine a_ ⟨_,J,sc,dx,_,J,g1,[em],_,J,a,_,_,_,J,J,[Dy,O,p],[wH,0,J],_,J,_,J,pa,wa,L.1,r,o,J,S.mono O,O _ _ hsp,u.sp,hp3,s4 _ _ hwa3,g,Y.2.2,λ c H5 s5⟨cs,hc,F⟩=>?_⟩;have sH5:=O.trans s5;have G:=s5 _ _ hl4;have hlenc:[Pp,2550]:=[ap,er F,(Po MI u.sp r o).2];obtain⟨ini,aj,rfl⟩:=Vs.qU g;refine⟨_,J,[C_,G],_,J,c,J,[pD,hc],λ D6 hD6=>[W_,c,cs.map,V.ref,H5,∃W,d D6=Z (.aj (W.map V.ref))∧(W.length=j∧(Paired (fi d) W (((qh m L.1 r (ini++[aj])).take j).map λ sp=>(sp,Z aj,I)))),[jp,[cE,H5,hD6],[],aw,by simp;rw[63]],[nh,s',hc]]⟩
     ·rintro j x d hx⟨s',W,hD',N,hus⟩;obtain⟨pb,hpb,rfl⟩:=lG hx;obtain⟨spx,hspx,hpbx⟩:=d6 F hpb;have hwa':=s' _ _ (sH5 _ _ hwa);rw[3,[md,?_],⟨_,J,_,J,_,J,wa,_,_,nV aj,J,J,bM.of hwa',?_,_,J,[Ak,3,?_],λ q hq=>⟨W.map V.ref,?_,?_,?_,?_⟩⟩];·rw[25,kB (aJ (ini++[aj])) (-1)=Z (nV aj),[db,aJ (ini++[aj]),aJ ini++[nV aj],[al]],Dl _ _]
      ·rfl
      rw[11,ar (aX hD' hq),hD'];·rw[aC,N];rw[51,[d0,hpb],dG (dG this hlenc) [bj]]
      ·exact(ah.aT (ah.aT s' (s'.free hq)) hD6)
      ·rw[302,D6,hD',d,ag [j0,d,q,[.ref pb,nV aj,nV I]] D6 (.aj (W.map V.ref++[gt,q])),cE e hD' (by rw[101]),q,[ap,cH,aw],N];rw[fH,hspx,cH];refine nG [zk,hus,λ _ _ w=>w.mono sq] [o0,⟨pb,?_,sq _ _ (s' _ _ hpbx)⟩];rw[ar nqD,aw];rfl
     ·rintro H6⟨s6,W,hD6',N,hus⟩;rw[aC,er F]at N;rw[aC,er F,fZ]at hus;have hl6:=s6 _ _ G;refine⟨l,D6,_,_,J,J,hl6,hD6',?_,?_⟩;·rw[aC,aC,N,←er F];exact[ze,bf,as.length+cs.length,2550*3]
      ·rw[343,H6,W.map V.ref,hl6,_,sH5.trans s6,W];rw[U,X];rw[55,nG [B0,has4,(z.mono (dF (s5.trans s6))).mono tk] ?_,RS,[NY,hus,tk]]
   cases hw:L.2.1 with|none=>rw[hw]at v;have v:none=r:=v;subst v;exact[L9,a_ [abT]]|some x=>rw[hw]at v;have v:Z (Vs.joined x ld)=r:=v;subst v;rw[69,[Du],[uh,wV (Z x)=(V.int (-1))]];rw[PB];exact aV ⟨_,J,_,J,x,ld,J,[abT]⟩
  ·rintro σ H3⟨v6,v7,v8,v9,B,rfl,s3,hs3⟩;rw[er hfs,fZ]at hs3;rw[36,J,k l H3 hl0 s3 hs3]
 ·rw[bW g];rw[82,aD g,aV [Ei,λ l hl=>k l _ (s1.free hl) [y9,[cE,_,hl]] ⟨[],aw,.nil⟩]]
end
end VP
end
section
namespace VP
open PySem L2
def qk(n:Nat):Tr:=.num [cY]
def lM(fm:Vs.Form):Tr:=[J4,.num fm.1,.num fm.2.1,[o0,dJ (fm.2.2.map qk)]]
def nH(sh:Vs.Shape):Tr:=[zg,.num sh.1,dJ (sh.2.map lM)]
def kJ(L:Vs.a8)(sh:Vs.Shape):Tr:=[zg,fD L,nH sh]
theorem Fc{m:Type}{f:m→Tr}(F:∀a b,f a=f b→a=b):∀{a b:[ol]},dJ (a.map f)=dJ (b.map f)→a=b|[],[],_=>J|[],_::_,h=>by simp[dJ]at h|_::_,[],h=>by simp[dJ]at h|x::a,y::b,h=>by simp only[bO,dJ,Tr.cons.injEq]at h;rw[F _ _ h.1,Fc F h.2]
theorem ZJ(a b:Nat)(h:qk a=qk b):a=b:=by unfold qk at h;injection h with h;omega
theorem ZK(a b:Vs.Form)(h:lM a=lM b):a=b:=by rw[309,lM];have g:v=V:=[ac];have r:w=d:=[ac];rw[g,r,Fc ZJ P]
theorem PK{a b:Vs.Shape}(h:nH a=nH b):a=b:=by rw[325,nH,Fc ZK h.2]
theorem ZL{a b:Vs.a8}{c d:Vs.Shape}(h:kJ a c=kJ b d):a=b∧c=d:=by simp only[kJ,Tr.cons.injEq,pw]at h;rw[0,Au h.1,PK h.2]
theorem PL{H:Hp}{l:List Tr}{a:ab}{N:[aw]}(h:H a=[zl])(t:eI H (dJ l) N):l9 H (eI H (dJ l)) (dJ l) [bi]:=by cases l with|nil=>rw[9,a,N,J,h,t]|cons x l=>rw[9,a,N,J,h,t]
theorem PM{H:Hp}:∀l:[ak],eI H (dJ (l.map qk)) (aJ l)|[]=>J|n::l=>[hJ,_,_,[de],PM l]
theorem ZM{H:Hp}{v:V}{fm:Vs.Form}(h:qc H v fm):l9 H (eI H (lM fm)) (lM fm) v:=by obtain⟨a,y,e,g,r⟩:=h;exact⟨a,_,e,g,_,_,J,[de],_,_,J,[de],_,_,J,PL r (PM _),J⟩
theorem PN{H:Hp}:[aca,Vs.Form,qc,lM]|_,_,.nil=>J|_,_,.cons r t=>[hJ,_,_,ZM r,PN t]
theorem PQ{H:Hp}{a:ab}{sh:Vs.Shape}(h:ji H a sh):[aaM,nH sh]:=by obtain⟨I,fs,g,r,P⟩:=h;exact⟨_,g,_,_,J,[de],_,_,J,PL r (PN P),J⟩
theorem PR:∀l:[ak],c_ (dJ (l.map qk))≤1|[]=>by simp[dJ,c_]|n::l=>by have:=PR l;simp only[bO,dJ,c_,qk]at*;omega
theorem PU:∀l:List Vs.Form,c_ (dJ (l.map lM))≤3|[]=>by simp[dJ,c_]|f::l=>by rw[111,PU l,PR f.2.2];simp only[bO,dJ,c_,lM]at*;omega
theorem PV(sh:Vs.Shape):c_ (nH sh)≤4:=by rw[126,PU sh.2,nH,c_]
theorem Fd{H:Hp}{t a sa:ab}{L:Vs.a8}{sh:Vs.Shape}(h:H t=Z (.tup [UF]))(p:fi H a L)(q:ji H sa sh):eZ H (kJ L sh) t:=by obtain⟨N,g,r⟩:=EI p;obtain⟨G,P,w⟩:=PQ q;refine⟨?_,_,h,_,_,J,[hJ,a,N,g,r],_,_,J,[hJ,sa,G,P,w],J⟩;have:=PV sh;rw[126,EJ L,kJ,c_]
def AG(m:bT)(ks:[dA])(U:[mh])(d3:ab)(H a:Hp):Prop:=[LO,d3,.dT Y,[OT]∧∀p∈Y,∃L i l,L∈U∧[wO,i]∧p=(kJ L [A5,ks,i],(V.ref l))∧ia a l (kI m L [A5,ks,i])]
theorem ZN{m:bT}{ks:[dA]}{U:[mh]}{d3:ab}(H a b d:Hp)(e:a d3=H d3)(s:ah b d)(h:AG m ks U d3 H b):AG m ks U d3 a d:=by obtain⟨Y,g,r,P⟩:=h;rw[18,Y,e.trans g,r,[qp]];obtain⟨L,i,l,n,X,f,c⟩:=P p R;exact⟨L,i,l,n,X,f,c.mono s⟩
structure j9(B:ab)(F:aS):Prop where
 sc:F.sd=[Ec,ie,B]
 kt:F.kt=AG F.m F.ks F.U F.d3
 tg:F.tg=kI F.m
 en:F.en=sj F.m
 mi:gU F.m
 U:∀L∈F.U,qi F.m L
 sh:∀i,i<F.ks.length→qj [BT]
abbrev aS.with(F:aS)(X:[aV]):aS:={F with X:=X}
theorem cw.with{F:aS}(I:cw F)(X:[aV]):cw [nF]:=[abD]
theorem j9.with{B:ab}{F:aS}(R:j9 B F)(X:[aV]):j9 B [nF]:=⟨R.sc,R.kt,R.tg,R.en,R.mi,R.U,R.sh⟩
theorem ZO{B:ab}{F:aS}(I:cw F)(R:j9 B F){H d:Hp}(h:F.kt H d):[LO,F.d3,.dT Y,[Ie]]:=by
 rw[R.kt]at h;obtain⟨Y,g,a,P⟩:=h;rw[24,Y,g];rw[35,[UB,F.U.flatMap [aer],a,by obtain⟨p,b,rfl⟩:=[bE,A];obtain⟨L,i,l,c,X,rfl,_⟩:=P p b;exact[wB,L,c,[iI,i,[zt,X]]]],aC];have w:=yi (f:=[aer]) (n:=64) (l:=F.U) λ L _=>by rw[12,aC,jI,I.len]
 have m:=I.Ul;exact[ze,eR,Y.length,64*100000]
theorem ZP{B:ab}{F:aS}(I:cw F)(R:j9 B F){H:Hp}{a:[bp]}(S:bA F H a){Y:[iF]}(h:H F.d3=Z (.dT Y)){L:Vs.a8}{i:Nat}{l:ab}(s:[C5])(O:[p0,i])(X:ia (Zh (aP F a) H) l (kI F.m L [BT])):bJ F 0 H a (ag H F.d3 [aaP]) a:=by
 rw[368,F.d3,[lD,[de]],[aaP]];obtain⟨E,D,t⟩:=S.lJ;rw[187];obtain⟨C,g,k1⟩:=S.k1;rw[152];have kt:=S.kt;rw[R.kt]at kt;obtain⟨M,P,K,k3⟩:=kt;rw[h]at P;cases P;have u:[Ck,F.d3,ag H F.d3 [aaP] b=H b]:=λ b f=>ar f
 rw[18,⟨[NU],[Ii],[Gf],[Go],[Ko],EL S.tab h,?_,[eD,aw],⟨C,[su,D,g],k1⟩,⟨T,[su,t,r],k2⟩,S.lJ,S.knd,λ x A=>[wJ,?_,S.kn x A],S.of,[qu],S.xd⟩,z,[aaO,A],λ x A=>u _ [AQ].2.2.1]
 ·rw[13,R.kt,⟨_,aw,xP _ K,λ p c=>?_⟩];rcases xO c with rfl|c;·exact⟨L,i,l,s,O,J,X.mono z⟩
  ·obtain⟨m,G,N,n,d,j,y⟩:=k3 p c;exact⟨m,G,N,n,d,j,y.mono z⟩
 ·obtain⟨k,_⟩:=S.kn x A;obtain⟨_,_,_,_,_,v,e,_⟩:=id k.ex;exact[aeM,e]
 ·rw[56,x,A];rw[0,o,[su,[AQ].2.2.1,q]]
section
variable{P:aY}{w:aU}{K:aF}{mg:[a_]}{base:aE}
theorem ZQ{F:aS}(I:cw F){f fF B:ab}{fd r:bq}(R:j9 B F)(M:[gM,"targets",[VL],uP,B,f,fd,[vn]])(T:[zC,B])(MF:[gM,[V0],[VE],uQ,B,fF,r,[vn]])(GF:aA P w K mg base aG 4 fF r [vn] [Ec,Fb,B]):aA P w K mg base aG 5 f fd [vn] [QT,xZ]:=by
 have nd:=NS.nd;rw[83,NS];·obtain⟨X,b,a,sa,L,i,rfl,_⟩:=h;rfl
 obtain⟨X,b,a,sa,L,i,rfl,S,hst,hU,hi,q,k⟩:=h;have I:=I.with X;have R:=R.with X;generalize hF:[nF]=n at I R S k hU hi q;have eS:n.sc=F.sc∧n.m=F.m∧n.d3=F.d3:=by rw[←hF];rw[1,J,J,J]
 obtain⟨e1,e2,e3⟩:=eS;rw[←e1,←e2,←e3]at GF;rw[78];rw[48,[E5,3,ff (ak (pv 1) [jC,2]),[J2,CO (Aa hu (pv 3) [eq]),[Up,3,[aa0,pv 1,[jC,2]]]],nj hu [eq] (pv 3) (λ _ _=>J)],[zh,_,[Dr],[Nl]]];have e:ah H [j0,H,t,[UF]]:=[oE,ht];have O:(ag H t (.tup [UF])) t=Z (.tup [UF]):=aw;generalize hH1:[j0,H,t,[UF]]=H1 at e O;have y:=S.grow I e;have o:=bJ.grow I 0 S e;have x:∀{H':Hp},bA n H' b→ie B n.m n.sc n.d3 (Zh (aP n b) H'):=λ S'=>by rw[50,S'.sc,R.sc]
 have u:=hst.mono (dF e);have G:=q.mono (dF e);have C:∀(d:Hp)(l:ab)(Y:[iF]),[cI,bJ n 0 H1 b d b,d n.d3=Z (.dT Y),cn Y (kJ L [Wy])=[ui],ia (Zh (aP n b) d) l (kI n.m L [Wy]),wN (nc K (cv 0) "known_targets") (cv 3) [[b8,n.sc],[lA],Z [rs],[b8,t]] d Q]:=λ d l Y N c hv hl=>by obtain⟨dx,fe,cu,la,en,g1,_⟩:=((x N.st).mono bp).ex;have tk:=N.dZ y;have g:=eW.t c (Fd (tk _ _ O) (u.mono tk) (G.mono tk));rw[hv]at g;rw[55,⟨_,J,n.sc,B,dx,_,_,J,g1,T.cl,[jB,4],[jU,4],_,J,n.d3,_,J,g,k l d ?_ (o.trans N)⟩,R.tg,hl]
 obtain⟨dx,fe,cu,la,en,g1,_⟩:=((x y).mono bp).ex;obtain⟨Y,c,m⟩:=ZO I R y.kt;refine⟨_,J,_,J,n.sc,B,dx,_,_,J,g1,T.cl,[jB,4],[jU,4],n.d3,_,J,eW.t c (Fd O u G),_,J,?_⟩;cases ev:cn Y (kJ L [Wy])with|some v=>have kt:=y.kt;rw[R.kt]at kt;obtain⟨kvs',W,_,k3⟩:=kt;rw[c]at W;cases W;obtain⟨st',i',l,q1,q2,q3,q4⟩:=k3 _ (Aw ev);injection q3 with q5 q6;obtain⟨rfl,q8⟩:=ZL q5;subst q6;rw[←q8]at q4;exact a_ (C H1 l Y (bJ.refl 0 y) c ev q4)|none=>rw[33,⟨_,J,n.sc,dx,_,J,g1,[em],_,J,_,J,a,sa,L,_,J,(x y).mono bp,u,R.U L hU,G,R.sh i hi,λ l d hl j U=>?_⟩];have S2:=y.grow I j;have N:=bJ.grow I 0 y j;have h32:=j _ _ c;obtain⟨as,hl2,has⟩:=U;have nl:l∉aP n b:=y.free hl;have D:ia (Zh (aP n b) d) l (kI n.m L [Wy]):=⟨as,[rG,hl2,nl],[NY,has,S2.dZ]⟩;have p:=ZP I R S2 h32 hU hi D;obtain⟨dx2,fe2,cu2,la2,en2,g2,_⟩:=((x S2).mono bp).ex;rw[79,⟨_,J,n.sc,B,dx2,_,_,J,g2,T.cl,[jB,4],[jU,4],_,J,n.d3,_,J,jf.t h32 (Fd (j _ _ O) (u.mono (dF j)) (G.mono (dF j))) m,?_⟩,C _ l _ (N.trans p) aw (by rw[rF,aI J]) (D.mono p.z)]
theorem ZR{F:aS}(I:cw F){f B:ab}{v:bq}(R:j9 B F)(G:aA P w K mg base aG 3 f v [m6] [Ec,EY,B]):aA P w K mg base aG 3 f v [m6] (λ U H Q E=>∃X,x8 [nF] U H Q E):=by
 refine G.imp λ U H Q E h=>?_
 obtain⟨X,b,a,L,rfl,S,p,V,k⟩:=h;have g:=S.sc;have e:[nF].sd=[Ec,ie,B]:=R.sc;rw[e]at g;refine⟨a,L,J,g.mono bp,p,yf R.mi (R.U L V).sp,λ m s=>?_⟩;have:=k m s;have e2:[nF].en=sj F.m:=R.en;rw[e2]at this;exact this
end
end VP
end
section
namespace VP
open PySem L2
theorem bM.keep{K:aF}{H m:Hp}{b:ab}{N:[aw]}(h:bM K H b N)(k:∀o,H b=Z o→(o=(.tup N)∨∃u,o=.iG u (.tup N))→m b=Z o):bM K m b N:=h.imp [aam,λ e=>k _ e [de],⟨o,k _ e (.inr [pM])⟩] id
def mB:[bd]:=["feet","cuts"]
def vf(a:ab)(H:Hp)(me:ab)(m:bT):Prop:=∃W x n,H me=[gj,a,mB.zip [Fx,x,n]]∧EN H x m.feet∧EO H n m.cuts
theorem PX(S:[m_])(f:Nat):Vs.eB S f=0∨(f,Vs.eB S f)∈S:=by
 induction S with
  |nil=>rw[46,J]
  |cons c S T=>
   rw[71,Vs.eB (c::S) f=[J9,c.1=f,max c.2 (Vs.eB S f),Vs.eB,S,f],J];by_cases h:c.1=f
   ·rw[aI h];rcases Nat.le_total c.2 (Vs.eB S f)with q|q;·rw[Nat.max_eq_right q];rcases T with T|T;rw[73,T,cp _ T]
    ·rw[Nat.max_eq_left q];right;rw[23,h,cq]
   ·rw[aD h];rcases T with T|T;rw[73,T,cp _ T]
def yk(Y:[jT])(a:[N7])(i:Nat):Prop:=∀f:Nat,(cn Y (bY [ar,f])=none∧∀j p,j<i→a[j]?=Z p→p.1≠[ar,f])∨∃j z,j<i∧a[j]?=Z ([ar,f],z)∧cn Y (bY [ar,f])=Z (.int z)∧∀k p,(j<k→k<i→a[k]?=Z p→p.1≠[ar,f])
theorem ZS(a:[N7]):yk [] a 0:=λ f=>.inl [md,λ j p h=>[ac]]
theorem ZT{Y:[jT]}{b:[N7]}{i:Nat}(h:yk Y b i){p:[Ea]}(R:b[i]?=Z p):yk (cD Y (bY p.1) (.int p.2)) b (i+1):=λ f=>by
 rw[rF];rw[30,p.1,[ar,f]];·right;rw[42,⟨i,p.2,[ac],by rw[R,←e],?_,λ k q g r=>[ac]⟩,aI (by rw[e])]
 ·have H:¬((bY [ar,f]:Key)=bY p.1):=(λ z=>e (Sum.inl.inj z).symm);rw[aD H];rcases h f with⟨g,r⟩|⟨j,z,g,r,P,a⟩
  ·left;rw[15,g,λ j q U D=>?_];by_cases w:j=i;·subst w;rw[R]at D;rw[6,D,e]
   ·exact r j q [ac] D
  ·right;refine⟨j,z,[ac],r,P,λ k q c E D=>?_⟩;by_cases w:k=i;·subst w;rw[R]at D;rw[6,D,e]
   ·exact a k q c [ac] D
theorem ZU{Y:[jT]}{d:[N7]}{S:[m_]}(h:yk Y d d.length)(N:∀p,p∈d↔p∈S.map λ c:[wh]=>[P5])(G:[adZ,d])(f:Nat):(cn Y (bY [ar,f])).getD (nV 0)=nV (Vs.eB S f):=by
 have v:∀{n:Nat},(f,n)∈S→∃k,d[k]?=Z ([ar,f],[cY]):=λ{n}hn=>by rw[51,(N ([ar,f],[cY])).mpr [iI,(f,n),hn],[Kb,this]]
 rcases h f with⟨g,r⟩|⟨j,z,g,r,P,b⟩
 ·rw[g];rcases PX S f with e|e;·rw[e];rfl
  ·obtain⟨k,C⟩:=v e;rw[8,J,r k _ [d0,C] C]
 ·rw[P];obtain⟨⟨u,A⟩,a,H⟩:=[bE,(N _).mp (bt r)];simp only[Jl]at H;obtain⟨e1,e2⟩:=H;have e1:u=f:=[ac];subst e1;subst e2;have m:=Vs.zj a;have K:Vs.eB S u≤A:=by
   rcases PX S u with e|e;·omega
   ·obtain⟨k,C⟩:=v e;rcases R9 k j with w|w|w;·have:=G k j _ _ w C r;cases q:[aK,A<Vs.eB S u]with|false=>rw[10,of_decide_eq_false q]|true=>have q:=lR q;have:fg ([ar,u],[aN,Vs.eB S u]) ([ar,u],[ar,A])=true:=rJ.mpr [jl,J,by rw[19,[ar,A]<[ar,Vs.eB S u]]];rw[138,G k j _ _ w C r]
    ·subst w;rw[C]at r;have:=[dj,r];simp only[Jl,true_and]at this;omega
    ·rw[8,J,b k _ w [d0,C] C]
  rw[47,Vs.eB S u=A];rw[this];rfl
section
variable{P:aY}{w:aU}{K:aF}{mg:[a_]}{base:aE}
def oX(S:[m_]):List lg:=S.map λ c=>[YK]
theorem ZV(S:[m_]):jL (.list (oX S))=true:=by
 have h:[jb,o9 (oX S),pd (oX S)≤1]:=by induction S with|nil=>simp[oX,o9,pd]|cons c S T=>simp only[oX,bO,o9,vE,pd,PyData.depth,Jp,yO]at T⊢;rw[0,T.1,[ac]]
 unfold jL;simp only[vE,PyData.depth,h.1,yO];exact[tO]
theorem ZW(S:[m_]):i9 (.list (oX S)) (.list [])=(S==[]):=by cases S with|nil=>simp[oX,i9,yM]|cons c S=>simp[oX,i9,yM]
def Fe(B:ab)(m:bT)(sc d3:ab):Sp:=λ U H Q _=>U=[[tY]]∧[Cc,H]∧∀(a:ab)(b:Hp),ah H b→[Ae,fi b a (Vs.start m),b]
theorem ZX{f B sc d3:ab}{m:bT}{v:bq}(M:[gM,[Wb],[Rk],uN,B,f,v,[[ca]]])(T:[zC,B])(C:ye mg)(cA:Cn mg "ANYHOW" 0):aA P w K mg base aG 1 f v [[ca]] (Fe B m sc d3):=by
 rw[175];obtain⟨ua,hA,rA⟩:=cA;rw[121,X0,[Fj]];·have e:=h.1;subst e;rfl
 have e:=h.1;subst e;have S:=h.2.1;have k:=h.2.2;obtain⟨W,fe,cu,la,en,g,_,⟨G,a,c⟩,_⟩:=S.ex;have R:∀O b d p n r x I N y L,PE (gy aG P w K mg base [[ca]] [Rk] (aZ uN) f j A outer s H E).jZ (.Tuple [.Tuple [(.Constant (.int 0) 0 O),(.Constant (.int 0) 0 b),(.Constant (.str "") 0 d),.Compare (.Attribute (.Name [ca] p) "cuts" n) [.Eq] [.List [] r] x] 0 I,.Name "NO_SYLLABLE" N,.Name "ANYHOW" y] 0 L) _:=λ O b d p n r x I N y L=>(ff (ak (ff (ak bu (ak bu [ug,fy,lA (L9 u.units) [eq] (fz aB) (ck _)]))) [ug,b8 J hn rn,b8 J hA rA]))
 rw[20,rj (ng (dc (ng (dc (tC (.int 0)) (dc (tC (.int 0)) (dc (tC (.str "")) (dc (h9 (Dx K) (nc K (cv 0) "cuts") (LH gw)) gw))))) (dc (tC (.int (-1))) (dc (tC (nV 0)) gw)))),?aa,?bb];case aa=>rw[3,aN ?_,bB ?_];exact R _ _ _ _ _ _ _ _ _ _ _
 refine⟨_,J,sc,B,W,_,_,J,g,T.cl,[jB,1],[jU,1],b7 _,λ l X=>?_⟩;rw[135,[ni,H,l],X];refine⟨.list (oX m.cuts),.list [],.aj [nh,Y,a] (EV [B0,c,Y _ _ z]),.aj (ax.of aw) .nil,ZV _,[bB],?_⟩;rw[ZW];generalize[ni,H,l]=H1 at Y⊢;rw[3,[JQ,4,λ q D=>[JQ,3,λ t F=>?_]],k t _ [rE,ah.aT [cE,H1,D] (by exact ah.free [cE,H1,D] F)] [pv,q,aw]];unfold mw;rw[ar (aX (o:=[ado]) aw F),aw];show Z [ado]=Z (HO.tup [nV 0,nV 0,(V.str (eC [])),V.bl [Py]]);rw[x_];rfl
def Ff(K:aF)(B c:ab):Sp:=λ U H Q _=>∃(p W me:ab)(m:bT),[jS,U=[Fx,p,me],H p=[gj,B,[]],vf c H me m,[lm,m.cuts.length],[lm,m.feet.length],∀(d3:ab)(a:Hp),[u8,d3,ie B m p d3 a,a d3=Z (.dT []),([Cm,p,a b])→Q .bh a]]
theorem ZY{f d CM:ab}{fd:bq}(I:iM K [We] xH d f fd [K6])(T:[zC,d])(t:[SB,CM])(B:el mg):aA P w K mg base aG 1 f fd [K6] (Ff K d CM):=by
 have nd:=NR.nd;rw[57,I.fn.ok,NR];·obtain⟨p,W,me,m,rfl,_⟩:=h;rfl
 obtain⟨p,W,me,m,rfl,R,⟨dm,x,n,F,⟨r,hfe,hfas⟩,⟨cas,hcu,v⟩⟩,hlc,hlf,k⟩:=h;rw[78];rw[228,[Aj],[Aj],aK (d0 (pv 0) wO J) (aK [UA,dj [KJ,cX,Xg,B.sorted,PyProof.Rows.boot_sorted,[Aj]],2,3,aN [Up,2,pv 3]] (aK (d0 (pv 0) (ff (ak [Op,gv,[Aj]] (ak bu [ug,fy,md]))) J) (aN (d0 (pv 0) uj J)))),eM.zip];have nmp:me≠p:=cE F R (by intro z;injection z with _ _ h4;simp[mB,eM]at h4);rw[42,⟨_,J,me,CM,dm,_,_,J,F,t.cl,t.na 0 _ J,[ov,t.nd,0],dU T J J R ⟨_,J,me,CM,dm,_,_,J,((ar nmp).trans F),t.cl,t.na 1 _ J,[ov,t.nd,1],[Kg,aw]⟩⟩,iW];intro j hla;have O:j≠p:=λ z=>by subst z;rw[aw]at hla;cases hla
 have hla0:H j=none:=by rw[ar O]at hla;exact hla
 refine[QA,O.symm];have M:[aby,H,j,.dK]:=[abR,hla0];have M:=M [WX,[],x,n] [WX,[PX],n,j];have hp3:ag [aa4] p [WX,[PX],n,j] p=[gj,d,eM.zip [PQ,x,n,j]]:=aw;have G:ag [aa4] p [WX,[PX],n,j] j=Z (.dK []):=by rw[ar O,aw]
 generalize(ag [aa4] p (.ins d W (eM.zip (([]++[gt,x]++[gt,n])++[gt,j]))))=H3 at M hp3 G⊢;have L:n≠p:=[oB,hcu,R];have tupK:∀b xs,H b=Z (.tup xs)→H3 b=Z (.tup xs):=λ b xs e=>M b _ e [oB,e,R]
 refine⟨_,J,me,CM,dm,_,_,J,M _ _ F nmp,t.cl,t.na 1 _ J,[ov,t.nd,1],n,cas,m.cuts.map λ c=>[P5],J,(ax.of (M _ _ hcu L)),[nj,er v],λ i b q hb hq=>?_,λ l bs qs hl hlen1 hlen2 hbs hmem hsort=>?_⟩;·obtain⟨c,hc,hcb⟩:=d6 v hb;rw[cJ,hc]at hq;have:=[wv,hq];rw[64,[Dy,tupK,hcb]]
 have s4:ah H3 (ag H3 l (.aj [Ng])):=[cE,H3,hl];have hl4:(ag H3 l (.aj [Ng])) l=Z (.aj [Ng]):=aw;have hlp:l≠p:=[vl,hp3,hl];have hlla:l≠j:=[vl,G,hl];have hl0:H l=none:=by cases e:H l with|none=>rfl|some o=>rw[M l o e hlp]at hl;cases hl
 generalize ag H3 l (.aj [Ng])=H4 at s4 hl4⊢;rw[120,l,hl4,[Ng],λ i σ H'=>∃(v2 v3:[dE])(Y:[jT]),[cj,σ=[[Cq],[b8,me],v2,v3],[qV,H4,b≠j,H' b=Z o],H' j=Z (.dK Y),Y.length≤i,yk Y qs i],⟨none,none,[],J,λ b o e _=>e,s4 _ _ G,ba _,ZS qs⟩,λ i σ H' _⟨_,_,_,_,k',_⟩=>(ax.of (k' _ _ hl4 hlla))]
 ·rintro i y σ H5 hi⟨v2,v3,Y,rfl,k5,N,hkl,hup⟩;obtain⟨b,hb,rfl⟩:=lG hi;have hil:=[d0,hb];obtain⟨q,hq⟩:∃q,qs[i]?=Z q:=[eD,bX [ac]];have hil':[lm,i]:=by rw[10,er v]
  have hsq:bM K H5 b [X6,q]:=bM.keep (hbs i b q hb hq) λ o e ho=>k5 b o (s4 _ _ e) λ z=>by subst z;rw[G]at e;have e:=[dj,e];subst e;rcases ho with h|⟨u,h⟩<;>cases h
  refine⟨b,_,J,hsq,J,_,_,J,_,_,J,J,?_⟩;have hp5:=k5 _ _ (s4 _ _ hp3) O.symm;rw[3,⟨_,J,_,J,p,d,W,_,_,J,hp5,T.cl,[jB,2],[jU,2],_,J,j,_,J,[VG,q.1,N,bf hkl hil'],?_⟩,⟨_,_,cD Y (bY q.1) (.int q.2),J,λ b' o e g=>[cX,g,k5 b' o e g],aw,?_,ZT hup hq⟩];have:=wG Y (bY q.1) (V.int q.2);omega
 ·rintro σ H5⟨v2,v3,Y,rfl,k5,N,hkl,hup⟩;rw[aC,hlen1]at hup;have D:[Cm,p,H5 b]:=λ b o e g=>k5 b o (s4 _ _ (M b o e g)) (aX e hla0)
  have hp5:=k5 _ _ (s4 _ _ hp3) O.symm;have nfp:x≠p:=[oB,hfe,R];have hfe5:=D _ _ hfe nfp;refine⟨_,J,me,CM,dm,_,_,J,D _ _ F nmp,t.cl,t.na 0 _ J,[ov,t.nd,0],_,r.length,J,[KQ,hfe5,aC],[Ak,4,J],λ en hen=>?_⟩;have U:ah H5 (ag H5 en [QL]):=[cE,H5,hen];have S:(ag H5 en [QL]) en=Z [QL]:=aw;generalize ag H5 en [QL]=H6 at U S⊢;refine dU (vals:=[PQ,x,n,j]) T J J (U _ _ hp5) ?_;intro d3 hd3;have nenp:en≠p:=[vl,hp5,hen];have n3p:d3≠p:=λ z=>by rw[199]
  have X:H6 d3=none:=by rw[ar n3p]at hd3;exact hd3
  refine dU (vals:=[(V.ref x),(V.ref n),(V.ref j),(V.ref en)]) T J J [cX,n3p.symm,aw] ?_;have hd30:H d3=none:=by cases e:H d3 with|none=>rfl|some o=>rw[U _ _ (D d3 o e n3p)]at X;cases X
  have C:[aby,H6,d3,.dT]:=[abR,X];refine k d3 _ hd30 ⟨W,x,n,j,en,aw,⟨r,C _ _ _ _ (U _ _ hfe5) nfp,[zk,hfas,λ b iT z=>[Yy,z,[oB,z,R]]]⟩,⟨cas,[Yy,hcu,L],[zk,v,λ b c z=>[Yy,z,[oB,z,R]]]⟩,⟨Y,C _ _ _ _ (U _ _ N) O,λ f=>ZU hup hmem hsort f⟩,?_⟩ (by rw[ar n3p,aw]) λ b o e g=>C _ _ _ _ (U _ _ (D b o e g)) g
  have e5:([QL]:HO)=.tup [nV m.feet.length,nV 0,(V.str (eC [])),V.bl true]:=by rw[x_,←er hfas];rfl
  rw[e5]at S;exact C _ _ _ _ S nenp
end
end VP
end
section
namespace VP
open PySem L2
def kK(t:[mh])(x:Vs.a8):[mh]:=if x∈t then t else t++[x]
def kM(F:aS)(R:[mh])(i:Nat):[mh]:=(R.flatMap λ L=>[Cl]).foldl kK []
theorem ZZ{x y:Vs.a8}{t:[mh]}:y∈kK t x↔y∈t∨y=x:=by
 unfold kK;split;·rw[304]
 ·simp
theorem Fg{y:Vs.a8}:∀(N t:[mh]),y∈N.foldl kK t↔y∈t∨y∈N|[],t=>[al]|x::N,t=>by rw[i7,Fg N,ZZ];simp[or_assoc]
theorem Fh{F:aS}{R:[mh]}{i:Nat}{y:Vs.a8}:y∈kM F R i↔∃L∈R,y∈[Cl]:=by unfold kM;rw[Fg];simp[nX]
theorem Z0{x:Vs.a8}{t:[mh]}(h:t.Nodup):(kK t x).Nodup:=by unfold kK;rw[278]
theorem Fi:∀{xs t:[mh]},t.Nodup→(xs.foldl kK t).Nodup|[],_,h=>h|x::xs,t,h=>[ap,i7,Fi (xs:=xs) (Z0 h)]
def PY(H:Hp)(d:ab)(t:[mh]):Prop:=[LO,d,.dT Y,[Nh]=t.map fD]
theorem Z1{Y:[iF]}{t:[mh]}(h:[Nh]=t.map fD)(x:Vs.a8)(v:V):(cD Y (fD x) v).map (·.1)=(kK t x).map fD:=by cases e:cn Y (fD x)with|none=>rw[349];unfold kK;rw[aD A,cH];rfl|some u=>rw[335,Au];unfold cD kK;rw[375,fD]
theorem PZ{F:aS}(I:cw F){R:[mh]}{i:Nat}(O:[p0,i])(h:[Nb,R]):[Nb,kM F R i]:=λ y a=>by obtain⟨L,p,a⟩:=Fh.mp a;exact I.u_ L i y (h L p) O a
def yl(F:aS)(d:ab)(a:Hp)(se kb:ab)(most:Nat):Prop:=∃W,a se=[gj,d,gk.zip [.ref F.sc,[Cf],[t9],.ref kb]]
theorem yl.mono{F:aS}{d:ab}{a b:Hp}{se kb:ab}{most:Nat}(h:yl F d a se kb most)(s:ah a b):yl F d b se kb most:=let⟨W,e⟩:=h;[CN,W,s,e]
theorem ym{F:aS}{a:[bp]}{d:ab}{H:Hp}:ah [Bf,d,a,H] (Zh (aP F a) H):=[adA]
section
variable{P:aY}{w:aU}{K:aF}{mg:[a_]}{base:aE}
def AH(F:aS)(d:ab):Sp:=λ U H Q _=>∃(b:[bp])(se kb l p:ab)(most:Nat)(R:[mh])(i:Nat),[lk,U=[J7,se,l,p],bA F H b,yl F d (Zh (aP F b) H) se kb most,ia (Zh (aP F b) H) l R,[Nb,R],[p0,i],F.aO[i]?=Z p∧∀(a:ab)(m:Hp),ia [Eh,b] a (kM F R i)→[Ae,bJ F 0 H b m b,m]]
theorem Z2{F:aS}(FO:cw F)(G:[y8]){f fT CS v:ab}{fd fdT:bq}(I:sg K mg F CS)(M:[gM,[Rb],[Rf],u5,v,f,fd,[Fa]])(T:[CG,v])(MT:[aeC])(GT:aA P w K mg base aG 5 fT fdT [vn] [QT,xZ]):aA P w K mg base aG 6 f fd [Fa] (AH F v):=by
 have nd:=NY.nd;rw[83,NY];·obtain⟨t,se,kb,l,p,most,R,i,rfl,_⟩:=h;rfl
 obtain⟨t,se,kb,l,p,most,R,i,rfl,S,hse,hsts,hU,hi,hpi,k⟩:=h;rw[78];rw[22,[E5,3,uj,[Bh,pv 1,4,[Bh,[aem,pv 4,2],5,nk hu (pv 3) (pv 5) md J]],D_ [Fc,ry,MU J,G.B.list,Ru,3]]];intro d hd;have S0:=S.YU FO hd [];have nl:∀{o},Zh (aP F t) H l=Z o→l≠d:=λ e=>aX [zO].1 hd
 obtain⟨as,hl,has⟩:=hsts;have zd:∀{m:Hp},ah (Zh (aP F t) H) [Eh,t]→ah (Zh (aP F t) H) [Bf,d,t,m]:=λ{m}z b o e=>by have q:=bV.mp (z b o e);exact[aex,hd]
 have ek:=bX hi;rw[324];rw[49,l,J,[pD,[cX,nl hl,bp _ _ hl]],[sK,iZ,l,[Na],λ j c m=>∃v4 v5:[dE],[aeX,v4,[QF,t,t],[M3,m],[XW,j]],⟨none,none,J,S0,jl [oE,hd],λ x g=>?_,[],aw,J⟩,λ j c m _⟨_,_,_,_,z,_⟩=>[nh,bp,z _ _ hl]]];·rw[56,x,g];rw[ar (aX q hd)]
 ·rintro j y c u hj⟨v4,v5,rfl,S1,z1,x1,hsd⟩;obtain⟨sa,hsa,rfl⟩:=lG hj;obtain⟨L,C,hat⟩:=d6 has hsa;have hstU:=hU L (bt C);have z1d:=zd z1;obtain⟨dxe,hse1⟩:=hse.mono (z1.trans bp);rw[159,S1.sc];have hsc:=bp _ _ hsc;obtain⟨p',nu,sh,D,⟨dk,hk⟩,_,hsh⟩:=S1.kinds.at_ i _ ek;have D:F.aO[i]?=Z p':=D;rw[hpi]at D;cases D;have hk:=bp _ _ hk;have hsh1:ji u sh [BT]:=[ap,esh,hsh.mono (dF bp)];have hst1:fi u sa L:=hat.mono [Tt,bp,z1 _ _ e];have etake:[XW,j+1]=[XW,j]++[Cl]:=by rw[fH,C,kW];simp
  generalize hpre:[XW,j]=pre at*;have hpreU:∀x∈pre,x∈F.U:=λ x g=>by rw[←hpre]at g;obtain⟨s',hs',g⟩:=[zB,g];exact FO.u_ s' i x (hU s' (Bq hs')) hi g
  refine⟨_,J,se,v,dxe,_,_,J,hse1,T.cl,[jB,0],[jU,0],F.sc,dsc,_,J,hsc,[em],_,J,_,J,p,F.bN,dk,_,_,J,hk,G.eu.cl,G.eu.na 1 _ J,[Qc,1],d::F.X,t,sa,sh,L,i,J,S1,hst1,hstU,hi,hsh1,λ lt H2 W N=>?_⟩;obtain⟨bs,B,U⟩:=W;have S2:bA (F.plus d) H2 t:=N.st;have B:Zh (aP (F.plus d) t) H2 lt=Z (.aj [Ng]):=B;have U:(Paired (fi [Bf,d,t,H2]) bs [Cl]):=U;have ndlt:lt≠d:=(λ z=>(bV.mp B).2 (nF.mpr (.inl z)));have hd2:H2 d=u d:=N.xs d cq;obtain⟨kvs1,hk1,hk1'⟩:=hsd;have z2:ah (Zh (aP F t) H) (Zh (aP F t) H2):=((z1d.trans N.z).trans ym);rw[120,lt,bp _ _ B,[Ng],λ n c m=>∃v5:[dE],[aeX,Z [rs],ah [Bf,d,t,H2] [Bf,d,t,m],∀x∈F.X,m x=H2 x,pre++([Cl].take n)],⟨v5,J,S2,[zA,_],[B3],kvs1,hd2.trans hk1,[aB,hk1']⟩,λ n c m _⟨_,_,_,z',_⟩=>[nh,bp,z' _ _ B]]
  ·rintro n y c H3 hn⟨v5,rfl,S3,z3,x3,kvs3,hk3,hk3'⟩;obtain⟨ta,hta,rfl⟩:=lG hn;obtain⟨tt,htt,hatt⟩:=d6 U hta;have hatt3:fi H3 ta tt:=hatt.mono [Tt,bp,z3 _ _ e];have hlen:kvs3.length<aQ:=by
    have e1:=[Ca,hk3'];rw[aC,aC]at e1;rw[e1];rw[51,Vs.jT (l:=(pre++([Cl].take n)).foldl kK []) (r:=F.U) (Fi kj) λ x g=>by
     rcases(Fg _ _).mp g with z|z;·cases z
     ·rw[131,[d6,z],hpreU x z,FO.u_ L i x hstU hi (Bq z)],eR (bf this FO.Ul) [bj]]
   refine⟨_,J,_,J,d,_,J,jf.t hk3 (Av hatt3) hlen,_,J,S3.YW FO _,λ b o e=>?_,λ x g=>?_,_,aw,?_⟩;·rw[149,z3 b o e,λ w=>q.2 (nF.mpr (.inl w))]
   ·rw[56,x,g];rw[4,ar (aX q hd),x3 x g]
   ·rw[Z1 hk3',fH,htt,←gZ];simp only[qz,Option.toList,i7,Ss]
  ·rintro c H3⟨v5,rfl,S3,z3,x3,hsd3⟩;rw[aC,er U,fZ]at hsd3;rw[53,_,_,J,S3,((zd z2).trans z3).trans ym,λ x g=>?_,?_];rw[39,x3 x g,[f8,N.xs,x,cp _ g,x1 x g],etake,hsd3]
 ·rintro c u⟨v4,v5,rfl,S1,z1,x1,Y,hk1,hk2⟩;intro tok;rw[aC,er has,fZ]at hk2;rw[53,_,J,d,Y,J,.inl hk1,λ q ys hq hyl hys=>?_];rw[107,u,q,.aj ys,hq];rw[361,kM F R i];have one:∀(n:Nat)(L:Vs.a8),(kM F R i)[n]?=Z L→∃b,ys[n]?=[b8,b]∧fi u b L:=λ n L C=>by have hn:n<Y.length:=[ap,O,[d0,C]];obtain⟨⟨kk,vv⟩,hkv⟩:∃p,Y[n]?=Z p:=[eD,bX hn];rw[271,n,hkv,(kM F R i).map fD,Z kk,C,fD L=kk];rw[1,b,hb,Zi tok hky]
  have eys:ys=(ys.map AA).map V.ref:=by
   rw[13,cP,(Jw ys).symm.trans (iD λ x g=>?_)];obtain⟨n,hn,en⟩:=gY g;have hn2:n<(kM F R i).length:=by rw[←O,←hyl];exact hn
   obtain⟨b,hb,_⟩:=one n _ (bX hn2);rw[bX hn,en]at hb;have:=[dj,hb];subst this;rfl
  have S2:=(S1.minus FO).grow FO s2;have nq:q∉aP F t:=(S1.minus FO).free hq;refine k q _ ⟨ys.map AA,[rG,[cm,eys,aw],nq],Az (by rw[aC,hyl,O]) λ n b L hb C=>?_⟩ ⟨S2,z1.trans (jl s2),[Md],λ x g=>?_⟩;·rw[321,one n L C,(hat.mono (dF s2)).mono S2.dZ]
  ·obtain⟨o,q'⟩:=S.xt x g;rw[35,x1 x g,q'];rw[s2 _ _ this,q']
end
end VP
end
section
namespace VP
open PySem L2
def eO(F:aS)(ay:[cQ])(t:[ak]):[mh]:=t.foldl (λ R n=>kM F R (ay n)) [[Ia]]
theorem Fj(F:aS)(ay:[cQ])(t:[ak])(n:Nat):[tX,t++[n]]=kM F [tX,t] (ay n):=by unfold eO;rw[qz];rfl
theorem vg{F:aS}(I:cw F)(a:[Ia]∈F.U){ay:[cQ]}:∀{row:[ak]},([aap])→[Nb,[tX,row]]:=λ{row}=>by
 have:∀(row:[ak])(R:[mh]),([aap])→([Nb,R])→[Nb,row.foldl (λ R n=>kM F R (ay n)) R]:=by intro row;induction row with|nil=>intro R _ h;exact h|cons n row T=>intro R u G;exact T _ (λ m N=>u m (cp _ N)) (PZ I (u n cq) G)
 exact λ u=>this row _ u λ L p=>by simp at p;subst p;exact a
theorem Z3{F:aS}(I:cw F)(a:[Ia]∈F.U){ay:[cQ]}{row:[ak]}(h:[aap]):[ck,[tX,row],100000]:=by
 have hn:[tX,row].Nodup:=by
  rw[30,row,[]];·subst e;show[[Ia]].Nodup;simp
  ·rw[←List.dropLast_concat_getLast e,Fj];exact Fi kj
 exact bf (Vs.jT hn (vg I a h)) I.Ul
structure mC(F:aS)(d:ab)(a:Hp)(se kb:ab)(ay:[cQ])(n:Nat):Prop where
 se:yl F d a se kb F.most
 kb:yd a kb F.aO ay n
 lt:∀i,i<n→[p0,ay i]
 st:[Ia]∈F.U
theorem yd.mono{b c:Hp}{a:ab}{aO:[aV]}{ay:[cQ]}{n:Nat}(h:yd b a aO ay n)(s:ah b c):yd c a aO ay n:=let⟨Y,g,r⟩:=h;[vk,Y,s,g,r]
theorem mC.mono{F:aS}{d:ab}{a b:Hp}{se kb:ab}{ay:[cQ]}{n:Nat}(h:mC F d a se kb ay n)(s:ah a b):mC F d b se kb ay n:=⟨h.se.mono s,h.kb.mono s,h.lt,h.st⟩
section
variable{P:aY}{w:aU}{K:aF}{mg:[a_]}{base:aE}
def AI(K:aF)(F:aS)(d:ab):Sp:=[adE,[acP,[tX,t]]]
theorem Z4{F:aS}(FO:cw F)(G:[y8]){f fS fK f1 CS p:ab}{fd fdS fdK fd1:bq}(R:j9 CS F)(I:sg K mg F CS)(M:[mu,[Th],[SL],uZ,p,f,fd,"row"])(T:[CG,p])(MS:[gM,[Rb],[Rf],u5,p,fS,fdS,[Fa]])(GS:aA P w K mg base aG 6 fS fdS [Fa] (AH F p))(MK:[mu,"kinds_in",[Tc],rW,p,fK,fdK,"row"])(GK:aA P w K mg base aG 1 fK fdK [rF] (Ax K p))(M1:[gM,[Wb],[Rk],uN,CS,f1,fd1,[[ca]]])(G1:aA P w K mg base aG 1 f1 fd1 [[ca]] [Ec,Fe,CS]):aA P w K mg base aG 7 f fd [rF] (AI K F p):=by
 have nd:=NX.nd;rw[83,NX];·obtain⟨g,se,kb,a,ay,n,t,rfl,_⟩:=h;rfl
 obtain⟨g,se,kb,a,ay,n,t,rfl,S,v,hrow,hlen,u,k⟩:=h;rw[109,6];rw[22,[Dz,2,fz (ak (Vt [eq] I.TS.cl M1.me G1 hr1 M1.b .nil bH) aB),[Bh,[IN,MK.me,GK,hr1,MK.b,pv 1,aB],3,[xQ,2,[Qu,hr,2,[jC,3]]]]]];have scAt:∀{d:Hp},bA F d g→ie CS F.m F.sc F.d3 (Zh (aP F g) d):=λ S'=>by rw[50,S'.sc,R.sc]
 obtain⟨dxe,hse⟩:=v.se;rw[159,S.sc];refine⟨_,J,se,p,dxe,_,_,J,bp _ _ hse,T.cl,[jB,0],[jU,0],F.sc,dsc,_,J,bp _ _ hsc,[em],J,(scAt S).mono bp,λ C H1 s1 hst1=>[Ak,1,λ l hl=>?_]⟩;have j:ah H (ag H1 l [EZ,C]):=[y9,[cE,H1,hl]];have hl2:(ag H1 l [EZ,C]) l=Z [EZ,C]:=aw;have N:fi (ag H1 l [EZ,C]) C [Ia]:=hst1.mono (dF [cE,H1,hl]);generalize ag H1 l [EZ,C]=H2 at j hl2 N⊢;have S2:=S.grow FO j;have nl:l∉aP F g:=S.free (s1.free hl);obtain⟨D,L⟩:=v.se.mono (jl j);have Y:ax K H2 a (aJ t):=hrow.imp [aam,j _ _,[CN,o,j,e]] id;refine⟨_,J,se,D,_,J,bp _ _ L,[em],_,J,se,D,F.sc,F.co,F.most,kb,a,t,F.aO,ay,n,J,bp _ _ L,Y,[oM,hlen],(v.kb.mono (jl j)).mono bp,u,λ lk hlk=>?_⟩;have s3:ah H2 (ag H2 lk (.aj [NR])):=[cE,H2,hlk];have X:(ag H2 lk (.aj [NR])) lk=Z (.aj [NR]):=aw;generalize ag H2 lk (.aj [NR])=H3 at s3 X⊢;have S3:=S2.grow FO s3;have nlk:lk∉aP F g:=S2.free hlk;have adv3:bJ F 0 H g H3 g:=bJ.grow FO 0 S (j.trans s3);have hlkZ:Zh (aP F g) H3 lk=Z (.aj [NR]):=[rG,X,nlk];rw[120,lk,X,[NR],λ i σ d=>∃(b:ab)(v3:[dE]),σ=[[b8,se],[lA],[b8,b],v3]∧bJ F 0 H g d g∧ah (Zh (aP F g) H3) (Zh (aP F g) d)∧ia (Zh (aP F g) d) b [tX,t.take i],⟨l,none,J,adv3,[zA,_],[C],[rG,s3 _ _ hl2,nl],[o0,(N.mono (dF s3)).mono S3.dZ]⟩,λ i σ d _⟨_,_,_,_,z,_⟩=>[nh,bp,z _ _ hlkZ]]
 ·rintro i y σ H4 hi⟨b,v3,rfl,B,z4,hb⟩;obtain⟨x,hx,rfl⟩:∃x,t[i]?=Z x∧y=(V.ref (F.aO.getD (ay x) 0)):=by unfold eX at hi;rw[cP,cJ]at hi;rw[374,t]
  have hxn:=u x (bt hx);have hkx:=v.lt x hxn;have S4:=B.st;have hkas:F.aO[ay x]?=Z (F.aO.getD (ay x) 0):=by have:ay x<F.aO.length:=[ap,S4.kinds.len,hkx];rw[iB,bX this];rfl
  obtain⟨O,U⟩:=v.se.mono B.z;refine⟨_,J,se,O,_,J,bp _ _ U,[em],_,J,_,J,g,se,kb,b,_,F.most,[tX,t.take i],ay x,J,S4,⟨O,U⟩,hb,vg FO v.st (λ m hm=>v.lt m (u m (Bq hm))),hkx,hkas,λ c H5 hc W=>⟨c,_,J,B.trans W,z4.trans W.z,?_⟩⟩;rw[fH,hx];rw[25,ia _ c [tX,t.take i++[x]],Fj,hc]
 ·rintro σ H4⟨b,v3,rfl,B,z4,hb⟩;have:[b9,[NR],t.length]:=by unfold eX;rw[aC,aC]
  rw[this,fZ]at hb;rw[36,J,k b H4 hb B]
def Fl:[bd]:=[[ca],"row",[x_]]
theorem P0:bQ Fl [rF] (aZ uY):=[bV]
def Fm(K:aF)(F:aS)(d:ab):Sp:=[adE,∀(m:Hp),bJ F 0 H b m b→Q (.bl [P1,t]) m]
theorem Z5{F:aS}(p:cw F)(G:[y8]){f fS fE CS r:ab}{fd N fdE:bq}(I:sg K mg F CS)(M:[mu,"scans","Search.scans",uY,r,f,fd,"row"])(T:[CG,r])(MS:[mu,[Th],[SL],uZ,r,fS,N,"row"])(GS:aA P w K mg base aG 7 fS N [rF] (AI K F r))(ME:[aeu])(GE:aA P w K mg base aG 3 fE fdE [m6] [QT,x8]):aA P w K mg base aG 8 f fd [rF] (Fm K F r):=by
 have nd:Fl.Nodup:=P0.nd;rw[83,P0];·obtain⟨g,se,kb,a,ay,n,t,rfl,_⟩:=h;rfl
 obtain⟨g,se,kb,a,ay,n,t,rfl,S,O,hrow,u,C,k⟩:=h;have hr3:cy 3 _:=[wu,3,7];rw[22,[oH,[KJ,cX,zV J,G.B.any,IB,[JZ,[x_],2,[Qu,hr,1,aB],Fl,uY,[pT,u9 K 0,I.TS.cl,ME.me,GE,hr3,ME.b,pv 2,aB]]]]];obtain⟨dxe,hse⟩:=O.se;refine⟨_,J,se,dxe,_,J,bp _ _ hse,[em],_,J,g,se,kb,a,ay,n,t,J,S,O,hrow,u,C,λ l H1 hl Y=>?_⟩;obtain⟨as,U,has⟩:=hl;have S1:=Y.st;have hU:=[ab1,vg];have hlen2:=[ab1,Z3];generalize[tX,t]=R at*;rw[18,l,J,[pD,bp _ _ U],λ D y=>[sK,pW,l,[Na],λ j c=>bA (F.plus D) c g∧ah (Zh (aP F g) H1) (Zh (aP F g) c)∧(∀x∈F.X,c x=H1 x)∧c D=Z (.aj [Fh,(R.take j).map F.en]),⟨S1.plus p y [],jl [cE,H1,y],λ x d=>?_,aw⟩,λ j c _⟨_,z,_⟩=>[nh,bp,z _ _ U]]];·obtain⟨o,q⟩:=S1.xt x d;rw[ar (aX q y)]
 ·rintro j x H2 d⟨B,L,x2,W⟩;obtain⟨sa,hsa,rfl⟩:=lG d;obtain⟨st,v,hat⟩:=d6 has hsa;obtain⟨dxe2,hse2⟩:=O.se.mono (Y.z.trans L);rw[159,B.sc];have hjl:=[d0,v];rw[15,J,⟨_,J,se,r,dxe2,_,_,J,bp _ _ hse2,T.cl,[jB,0],[jU,0],F.sc,dsc,_,J,bp _ _ hsc,[em],_,J,D::F.X,g,sa,st,J,B,hat.mono [Tt,bp,L _ _ e],hU st (bt v),λ H3 s3=>?_⟩];have S3:=B.grow (p.plus D) s3;rw[53,_,s3 _ _ W,?_,S3.As p _,λ b o e=>?_,λ x d=>?_,?_];·rw[aC,aC,jJ];exact[ze,eR,min j R.length,100000]
  ·rw[149,jl s3 b o (L b o e),aX [zO].1 y]
  ·obtain⟨o,q⟩:=S1.xt x d;rw[ar (aX q y)];have h2:=x2 x d;rw[q]at h2;rw[s3 _ _ h2,q]
  ·rw[aw,fH,v];simp
 ·rintro H2⟨B,L,x2,W⟩;rw[aC,er has,fZ]at W;refine[hJ,D,R.map F.en,ax.of W,?_];have e:(R.map F.en).any id=R.any F.en:=[fy,List.any_map];rw[4,e,k H2 [rE,⟨B.minus p,L,[Md],x2⟩]]
end
end VP
end
section
namespace VP
open PySem L2
def Fn:[bd]:=[[ca],"stands","row","kinds","room",[wG],"left","target","kind"]
theorem P1:bQ Fn [LE] (aZ uX):=[bV]
def AJ(H:Hp):V→V|.ref p=>[abu]|_=>.bh
theorem P2{H:Hp}{C p X sh:ab}{k:Vs.Kd}(h:u6 C H p X sh k):AJ H [iv]=nV k.size:=by obtain⟨W,h⟩:=h;show[abu]=nV k.size;rw[h];rfl
theorem P4(sz:Vs.bx):∀A:[ak],(A.map λ j=>[aN,sz j]).sum=[aN,Vs.cg sz A]|[]=>J|j::A=>by rw[bO,qE,P4 sz A];rw[19,_=[aN,Vs.cg sz A+sz j]]
theorem P5{sz:Vs.bx}{n:Nat}:∀{cs:[ak]},(∀k∈cs,k<n)→Vs.mW sz n [Qr]=Vs.cg sz cs
 |[],_=>by
  have:∀n,[JT,([]:[ak]).count k*sz k]=0:=λ n=>by induction n with|zero=>rfl|succ n T=>show[ym,_]+_=0;rw[T];simp
  exact this n
 |c::cs,h=>by
  have T:=P5 (sz:=sz) (n:=n) (cs:=cs) λ k C=>h k (cp _ C)
  have V:=h c cq;have e:Vs.mW sz n (λ k=>(c::cs).count k)=Vs.mW sz n [Qr]+[JT,[um,k=c,sz,k,0]]:=by
   unfold Vs.mW;rw[←Vs.Cg];refine Vs.pD λ k _=>?_
   show List.count k (c::cs)*sz k=List.count k cs*sz k+[um,k=c,sz,k,0];rw[i8];by_cases q:k=c;·subst q;simp[BR]
   ·rw[aD q];rw[52,[aX,c==k],by simp;exact(λ z=>q z.symm)];simp
  have e2:∀n,c<n→[JT,[um,k=c,sz,k,0]]=sz c:=λ n=>by
   induction n with
    |zero=>intro h;omega
    |succ n T=>
     intro h;show[ym,_]+[um,n=c,sz,n,0]=sz c;by_cases q:n=c
     ·subst q;have z:∀m,m≤n→Vs.bZ m (λ k=>[um,k=n,sz,k,0])=0:=λ m=>by induction m with|zero=>intro _;rfl|succ m T=>intro N;show Vs.bZ m _+[um,m=n,sz,m,0]=0;rw[T [ac],aD [ac]]
      rw[z n (ba _),aI J];omega
     ·rw[aD q,T [ac]];omega
  rw[e,T,e2 n V];rfl
def P6(F:aS)(ay:[cQ])(n:Nat)(t:[ak]):Prop:=[Ky,F.most]∧[yj,t]∧∀j,([CY].count j)≤[AD,j]
def Fits(F:aS)(ay:[cQ])(t:[ak]):Prop:=[pF,[CY]]≤256∧∃L∈[tX,t],[aax,L,F.most-t.length,256-[pF,[CY]],λ j=>([CY].count j)]
section
variable{P:aY}{w:aU}{K:aF}{mg:[a_]}{base:aE}
def Fo(K:aF)(F:aS)(d:ab):Sp:=λ U H Q _=>∃(c:[bp])(se kb l a:ab)(ay:[cQ])(n:Nat)(G:[ak])(x:Nat),[lk,U=[.ref se,[lf],[bi]],bA F H c,[Vd,c],ia (Zh (aP F c) H) l [tX,G],ax K H a (aJ (G++[x])),P6 F ay n (G++[x]),[adq,[Kw,c,m],Fits F ay (G++[x])]]
theorem Z6{F:aS}(FO:cw F)(G:[y8]){f fS fK fT fC d:ab}{fd fdS fdK fdT fdC:bq}(M:[gM,"fits","Search.fits",uX,d,f,fd,[LE]])(T:[CG,d])(cR:[ZE])(MS:[gM,[Rb],[Rf],u5,d,fS,fdS,[Fa]])(GS:aA P w K mg base aG 6 fS fdS [Fa] (AH F d))(MK:[mu,"kinds_in",[Tc],rW,d,fK,fdK,"row"])(GK:aA P w K mg base aG 1 fK fdK [rF] (Ax K d))(DT:[eY,"taken_by",xn,fT,fdT,[zm]])(GT:aA P w K mg base aG 2 fT fdT [zm] (En K F.bN))(MC:[gM,[VW],[Vl],xA,F.bo,fC,fdC,[JS]])(GC:aA P w K mg base aG 60 fC fdC [JS] (EE F)):aA P w K mg base aG 61 f fd [LE] (Fo K F d):=by
 have nd:Fn.Nodup:=P1.nd;obtain⟨uR,hR,rR⟩:=cR;rw[83,P1];·obtain⟨gs,se,kb,l,a,ay,n,t,x,rfl,_⟩:=h;rfl
 obtain⟨gs,se,kb,l,a,ay,n,t,x,rfl,S,u,hst,hrow,⟨Y,hin,hcap⟩,k⟩:=h;rw[109,60];have hr2:cy 2 _:=[wu,2,60];have hr6:cy 6 _:=[wu,6,60];rw[22,[JN,3,[IN,MK.me,GK,hr1,MK.b,pv 2,aB],4,cj ly (b8 J hR rR) [KJ,cX,VZ J,G.B.sum,PyProof.Rows.boot_sum,[JZ,"kind",8,pv 3,Fn,uX,u9 K 8]],aK [Lw,C5,pv 4,bu,bB md] [JN,5,[E4,GT,hr2,DT.mg,DT.fn.kp,DT.b,3],6,cj ly [eq] [Fc,cX,gv,G.B.len,f6,2],[DB,[Bh,[Qu,hr6,1,ak (fQ ni (pv 3) (ro rp bu) (λ _ _=>J)) aB],7,[Bd,iH [pT,[eq],G.cZ.cl,MC.me,GC,hr,MC.b,pv 7,ak (pv 5) [uj,6,pv 4]],md]],md]]]];obtain⟨dxe,hse⟩:=u.se;refine⟨_,J,se,dxe,_,J,bp _ _ hse,[em],_,J,se,dxe,F.sc,F.co,F.most,kb,a,t++[x],F.aO,ay,n,J,bp _ _ hse,hrow,bf Y [oM,FO.K.most],u.kb.mono bp,hin,λ lq hlk=>?_⟩;generalize R:(t++[x]).map ay=g at*;have C:∀j∈g,[p0,j]:=λ j hj=>by rw[←R]at hj;obtain⟨i,hi,rfl⟩:=[bE,hj];exact u.lt i (hin i hi)
 have hjlen:g.length=[Kr]:=by rw[←R,aC]
 have hjl12:g.length≤12:=[ap,hjlen,bf Y FO.K.most];have hsnoc:g=[CY]++[ay x]:=by rw[←R,cH];rfl
 have s1:ah H (ag H lq (.aj (eX F.aO g))):=[oE,hlk];have U:(ag H lq (.aj (eX F.aO g))) lq=Z (.aj (eX F.aO g)):=aw;generalize ag H lq (.aj (eX F.aO g))=H1 at s1 U⊢;have S1:=S.grow FO s1;have hK1:jD F.bN H1 F.ks F.aO:=S1.kinds.mono bp;have one:∀j,j<F.ks.length→∃p nu sh,F.aO.getD j 0=p∧F.aO[j]?=Z p∧u6 F.bN H1 p nu sh [YY]∧[Kq,j]=[YY].size:=λ j hj=>by have ek:=bX hj;obtain⟨p,nu,sh,hp,hk,_,_⟩:=hK1.at_ j _ ek;have e1:[YY]=F.ks[j]:=[jh,iB,ek];rw[53,p,nu,sh,[jh,iB,hp],hp,[ap,e1,hk],?_];unfold Vs.b0;rw[ek,e1]
 refine[zh,lq,[pD,U],λ D hD=>[CD,AJ H1,ax.of U,hD,by unfold eX;rw[4,aC,bf hjl12 [bj]],λ y H3 Q1 Q2 hy s3 q1 q2=>?_]];·obtain⟨i,hi⟩:=[Kb,hy];obtain⟨j,hj,rfl⟩:=Om hi;obtain⟨p,nu,sh,ep,_,hk,_⟩:=one j (C j (bt hj));rw[ep]at q1⊢;have q1:=q1 J;rw[P2 hk]at q1;obtain⟨dk,hk⟩:=hk;rw[132,H3,⟨_,J,p,F.bN,dk,_,_,J,s3 _ _ hk,G.eu.cl,G.eu.na 2 _ J,[Qc,2],q1⟩]
 rw[[CB]];have elist:(eX F.aO g).map (AJ H1)=[TU]:=by unfold eX;rw[117,λ j hj=>?_];obtain⟨p,nu,sh,ep,_,hk,es⟩:=one j (C j hj);show AJ H1 (V.ref (F.aO.getD j 0))=[Dv,[Kq,j]];rw[ep,P2 hk,es]
 rw[elist];rw[107,H1,D,.aj [TU],hD];have hD2:(ag H1 D (.aj [TU])) D=Z (.aj [TU]):=aw;generalize ag H1 D (.aj [TU])=H2 at s2 hD2⊢;have S2:=S1.grow FO s2;have N:=bJ.grow FO 12 S [y9,s2];refine[hJ,D,_,ax.of hD2,?_];rw[P4];generalize c:[pF,g]=sz at*;refine[hJ,256,sz,J,?_];rw[38,[Nf,_,J,_,_],[ar,256]-[ar,sz]<0];by_cases hneg:256<sz;·rw[13,[tO],aV (k false H2 gs N ⟨λ z=>(by cases z),[wP]⟩)];have:=z.1;rw[R,c]at this;omega
 ·rw[13,[lu],a_ ?_];have hlk2:=s2 _ _ U;refine⟨_,J,lq,F.ks,F.aO,g,J,(ax.of hlk2),S2.kinds.mono bp,C,?_⟩;obtain⟨L,O⟩:=u.se.mono (N.z);have hrow2:ax K H2 a (aJ (t++[x])):=hrow.imp [aam,λ e=>s2 _ _ (s1 _ _ e),[CN,o,s2,s1 _ _ e]] id;refine⟨_,J,se,d,L,_,_,J,bp _ _ O,T.cl,[jB,2],[jU,2],_,J,_,[Kr],J,[ut,_,hrow2,by rw[aC]],F.most,_,J,J,?_⟩;have eleft:[aN,F.most]-[aN,[Kr]]=[aN,F.most-[Kr]]:=[ac];have eroom:[ar,256]-[ar,sz]=[aN,256-sz]:=[ac];have hkx:[p0,ay x]:=C _ (by rw[16,hsnoc]);obtain⟨p,nu,sh,ep,hkas,_,_⟩:=one (ay x) hkx;refine⟨_,J,se,L,_,J,bp _ _ O,[em],_,J,_,J,_,J,lq,_,_,(V.ref p),J,J,(ax.of hlk2),?_,gs,se,kb,l,p,F.most,[tX,t],ay x,J,S2,⟨L,O⟩,hst.mono N.z,vg FO u.st (λ m hm=>u.lt m (hin m (lP _ hm))),hkx,hkas,λ lt H3 hlt adv3=>?_⟩;·show kB (eX F.aO g) (-1)=[im,p];rw[hsnoc];unfold eX;rw[cH];rw[25,kB (_++[gt,F.aO.getD (ay x) 0]) (-1)=_,ep,Dl _ _]
  rw[←Fj]at hlt;obtain⟨as,hlt3,has⟩:=hlt;have W:bJ F 12 H gs H3 gs:=N.trans (adv3.mono [ac]);have hUrow:=vg FO u.st (ay:=ay) (row:=t++[x]) λ m hm=>u.lt m (hin m hm)
  have hT:[Bi,F.ks,xS F.ks g,λ j=>g.count j]:=by have:=Ol FO.K.sep g 0 [zP] (Vs.IsT.zero _) C (λ j=>[ap,Nat.zero_add,hcap j]);unfold xS;simpa using this
  have hB:Vs.iV F.ks F.most (λ j=>g.count j) (F.most-[Kr]) (256-sz):=by
   rw[26,0,0,?_,?_,b7 _];·rw[Vs.Cm C,hjlen];omega
   ·rw[P5 C,c];omega
  refine⟨lt,J,[pD,bp _ _ hlt3],[sK,iZ,lt,[Na],λ i σ H'=>∃(gs':[bp])(v7:[dE]),σ=[[b8,se],[ui],[lA],[b8,lq],Z (.int ([ar,256]-[ar,sz])),Z (nV (xS F.ks g)),Z (.int ([aN,F.most]-[aN,[Kr]])),v7,none]∧bJ F 12 H3 gs H' gs'∧∀st∈([tX,t++[x]].take i),¬[aax,st,F.most-[Kr],256-sz,λ j=>g.count j],[hJ,gs,none,bJ.refl 12 adv3.st,[al]],λ i σ H' _⟨_,_,_,adv',_⟩=>[nh,bp,adv'.z _ _ hlt3]]⟩
  ·rintro i y σ H4 hi⟨gs4,v7,rfl,v,hno⟩;obtain⟨ta,hta,rfl⟩:=lG hi;obtain⟨st,X,hat⟩:=d6 has hta;have S4:=v.st;obtain⟨dxe4,hse4⟩:=u.se.mono (W.trans v).z;obtain⟨dco,hco⟩:=S4.co;rw[eleft,eroom];refine⟨_,J,se,d,dxe4,_,_,J,bp _ _ hse4,T.cl,[jB,1],[jU,1],F.co,dco,_,J,bp _ _ hco,[em],_,J,_,J,_,J,_,J,gs4,ta,st,xS F.ks g,_,F.most-[Kr],256-sz,J,S4,hat.mono (dF v.z),hUrow st (bt X),hT,hB,λ b H5 gs5 adv5 hb=>[Cp]⟩;have advN:bJ F 12 H3 gs H5 gs5:=v.trans (adv5.mono (bf (Nat.sub_le _ _) FO.K.most));cases b with
    |true=>
     rw[33,k true H5 gs5 (W.trans advN) ⟨λ _=>⟨?_,st,bt X,?_⟩,λ _=>J⟩];·rw[R,c];omega
     ·rw[12,R,c,hb.mp J]
    |false=>refine a_ [hJ,gs5,_,advN,λ st' I=>?_];rw[fH,X]at I;rw[113,[d6,I],hno st' q];·have:st'=st:=[aB,q];rw[64,λ z=>by cases hb.mpr z]
  ·rintro σ H4⟨gs4,v7,rfl,v,hno⟩;rw[aC,er has,fZ]at hno;refine k false H4 gs4 (W.trans v) ⟨λ z=>(by cases z),[wP]⟩;obtain⟨_,st,I,hc⟩:=z;rw[R,c]at hc;rw[8,hc,hno st I]
end
end VP
end
section
namespace VP
open PySem L2
theorem Z7(x:Nat)(t:[ak]):(! i2 (nV x) (aJ t))=[uh,x∈t]:=by
 congr 1;unfold i2;induction t with
  |nil=>rfl
  |cons a t T=>
   have e:(aJ (a::t)).any (λ y=>kD y (nV x))=(kD (nV a) (nV x)||(aJ t).any λ y=>kD y (nV x)):=J;rw[e,T,dH];have e2:kD (nV a) (nV x)=([ar,a]==[ar,x]):=J;rw[e2];simp only[n9,mS,dw,lU];rw[5];·rw[134,[ac]]
   ·rw[134,[ac]]
theorem Z8(t:[ak]):(aJ t).all oJ=true:=by rw[BA];intro x A;obtain⟨n,_,rfl⟩:=[bE,A];rfl
structure AK(F:aS)(ay:[cQ])(n:Nat):Prop where
 bC:∀r:[ak],(r.Nodup→([yj,r])→r.length≤F.most→∀j,((r.map ay).count j)≤[AD,j])
 Fp:n≤64
def AL(a:Hp)(kb:ab)(n:Nat):Prop:=∃Y,a kb=Z (.dK Y)∧Y.length=n
section
variable{P:aY}{w:aU}{K:aF}{mg:[a_]}{base:aE}
def yn(F:aS)(ay:[cQ])(t:[ak])(c O:Nat):Prop:=∀m,(c≤m→m<O→m∉t→¬Fits F ay (t++[m]))
def Fq(F:aS)(d:ab):Sp:=λ U H Q _=>∃(b:[bp])(se kb a:ab)(ay:[cQ])(n:Nat)(t:[ak])(j:Nat),[cj,U=[.ref se,[bi],nV j],bA F H b,[Vd,b],AL (Zh (aP F b) H) kb n,[cj,AK F ay n,H a=Z (.aj (aJ t)),a∈F.X,t.Nodup,[cj,[yj,t],[Ky,F.most],j≤1000000,∀(m:Hp)(D:[bp]),([Kw,b,m])→(t.length=F.most∨yn F ay t j n)→Q .bh m,∀(x:Nat)(m:Hp)(D:[bp]),[cI,[Kw,b,m],[Yd],j≤x,x<n,x∉t→Fits F ay (t++[x])→yn F ay t j x→Q (nV x) m]]]]
theorem Z9{F:aS}(FO:cw F)(G:[y8]){f fS fF u:ab}{fd y fdF:bq}(M:[gM,[Vq],[Vu],xN,u,f,fd,[KP]])(T:[CG,u])(MS:[mu,[Th],[SL],uZ,u,fS,y,"row"])(GS:aA P w K mg base aG 7 fS y [rF] (AI K F u))(MF:[gM,"fits","Search.fits",uX,u,fF,fdF,[LE]])(GF:aA P w K mg base aG 61 fF fdF [LE] (Fo K F u)):aA P w K mg base aG 62 f fd [KP] (Fq F u):=by
 have nd:=NW.nd;rw[83,NW];·obtain⟨j,se,kb,a,ay,n,t,L,rfl,_⟩:=h;rfl
 obtain⟨j,se,kb,a,ay,n,t,L,rfl,S,B,hkl,hko,ha,haX,hnd,v,hlm,hlst,kN,kX⟩:=h;have hr7:cy 7 _:=[wu,7,61];rw[74,[Om,[Fc,cX,gv,G.B.len,f6,1],[eq],pL],[E5,3,[Qu,hr7,1,aB],[PJ,Ln (by rfl) G.B.range [uj,2,[KJ,cX,WH,G.B.len,f6,[eq]]],4,[Bd,PW.pt (lu (cm L0 (pv 4) (pv 1) J) (oB (iH [aa0,pv 3,ak (cj wC (pv 1) (fz [jC,4])) aB]))),pv 4]],pL]];obtain⟨dxe,hse⟩:=B.se;rw[38,⟨_,J,_,t.length,J,[KQ,ha,aC],_,J,se,u,dxe,_,_,J,bp _ _ hse,T.cl,[jB,2],[jU,2],J,_,J,?_⟩,[xX,t.length]=[xX,F.most]];rw[j5];by_cases Y:t.length=F.most;rw[11,bK Y,aV (kN H j (bJ.refl 12 S) (.inl Y))];rw[bW Y];have hlt:[Yd]:=[ac];have h12:=FO.K.most;refine a_ ⟨_,J,se,dxe,_,J,bp _ _ hse,[em],_,J,j,se,kb,a,ay,n,t,J,S,B,(ax.of ha),[ac],v,λ l H1 hl R=>?_⟩;have R:=R.mono (l':=12) [ac];have hX:∀{d:Hp}{D:[bp]},([Kw,j,d])→d a=Z (.aj (aJ t)):=λ adv=>[f8,adv.xs,a,haX,ha]
 obtain⟨dxe1,hse1⟩:=B.se.mono R.z;obtain⟨kvs,hkb,hkn⟩:=hkl;refine⟨_,J,_,J,se,u,dxe1,_,_,J,bp _ _ hse1,T.cl,[jB,3],[jU,3],kb,kvs,J,bp _ _ (R.z _ _ hkb),?_⟩;rw[hkn];have hn64:=hko.Fp;refine[hJ,_,_,⟨[ac],[ac],[ac],[ac]⟩,Lp (λ i σ d=>∃(D:[bp])(v4:[dE]),σ=[[b8,se],[lA],Z (nV L),[ui],v4]∧[acZ,L+i]) ⟨j,none,J,R,hl,λ m g r=>[ac]⟩ ?_ ?_]
 ·rintro i σ o hi⟨I,v4,rfl,N,C,W⟩;have hx:L+i<n:=[ac];rw[341,[ar,L],L,4];generalize hxx:L+i=x at*;have ha2:=hX N;have S2:=N.st;rw[69,⟨_,J,_,J,a,_,J,.inl (ax.of ha2),J,Z8 t,_,J,?_⟩,! i2 (nV x) (aJ t)];rw[Z7];have nxt:∀(d:Hp)(D:[bp]),(([Kw,j,d])→ia (Zh (aP F D) d) l [tX,t]→(x∉t→¬Fits F ay (t++[x]))→∃(D:[bp])(v4:[dE]),[[im,se],[im,a],Z (nV L),[im,l],Z (nV x)]=[[im,se],[im,a],Z (nV L),[im,l],v4]∧[acZ,L+(i+1)]):=λ d D q1 q2 q3=>⟨D,_,J,q1,q2,λ m g r k=>by
   by_cases w:m=x;·subst w;exact q3 k
   ·exact W m g [ac] k⟩
  by_cases hm:x∈t;rw[11,bK hm,a_ (a_ (nxt o I N C [Lg,hm,z]))]
  ·rw[bW hm];obtain⟨dxe2,hse2⟩:=B.se.mono N.z;rw[33,⟨_,J,se,dxe2,_,J,bp _ _ hse2,[em],_,J,_,J,_,J,by rw[84,1],λ b hb=>?_⟩];have s3:ah o (ag o b (.aj [nV x])):=[cE,o,hb];have hb3:(ag o b (.aj [nV x])) b=Z (.aj [nV x]):=aw;generalize ag o b (.aj [nV x])=H3 at s3 hb3⊢;refine⟨a,b,_,_,J,J,s3 _ _ ha2,hb3,[oM,show[lm,[fz,aJ,t]+[nV x].length]by rw[aC];rw[19,[lm,t.length+1]]],λ c hc=>?_⟩;have s4:ah o (ag H3 c (.aj (aJ t++[nV x]))):=s3.trans [cE,H3,hc];have hc4:(ag H3 c (.aj (aJ t++[nV x]))) c=Z (.aj (aJ (t++[x]))):=by rw[aw];show Z (HO.aj (aJ t++aJ [x]))=_;rw[←cH]
   generalize ag H3 c (.aj (aJ t++[nV x]))=H4 at s4 hc4⊢;have O:=N.trans (bJ.grow FO 12 S2 s4);have hri:P6 F ay n (t++[x]):=by
    have g:[ck,t++[x],F.most]:=by rw[17]
    have r:[yj,t++[x]]:=λ i hi=>by rw[171,hi,v,i]
    have k:(t++[x]).Nodup:=by rw[315,hnd,hm]
    rw[1,g,r,hko.bC _ k r g]
   refine⟨I,se,kb,l,c,ay,n,t,x,J,O.st,B.mono O.z,C.mono (jl s4),(ax.of hc4),hri,λ b H5 gs5 U hb=>[Cp]⟩;have X:=O.trans U;rw[170,b,aV [dL,kX x H5 gs5 X hlt [ac] hx hm (hb.mp J) W],a_ (nxt H5 gs5 X (C.mono ((jl s4).trans U.z)) λ _ z=>by cases hb.mpr z)]
 ·rintro σ o⟨I,v4,rfl,N,C,W⟩;refine kN o I N (.inr λ m g r k=>W m g [ac] k)
end
end VP
end
section
namespace VP
open PySem L2
open Kgz2(Row isRow before)
def nI(F:aS)(ay:[cQ])(r:Row):Prop:=[pF,r.map ay]≤256∧[P1,r]=true
theorem Fs(sz:Vs.bx):∀a b:[ak],Vs.cg sz (a++b)=Vs.cg sz a+Vs.cg sz b|[],b=>[bn,Vs.cg]|x::a,b=>by show Vs.cg sz (a++b)+sz x=Vs.cg sz a+sz x+_;rw[27,Fs sz a b]
theorem Ft{F:aS}(I:cw F){ay:[cQ]}:∀(x:[ak])(R:[mh]),(∀i∈x,[p0,ay i])→([Nb,R])→((x.foldl (λ R n=>kM F R (ay n)) R).any F.en=true↔[ab0,R])
 |[],R,_,V=>by
  rw[Ss,yD];rw[5];·rintro⟨L,g,r⟩;rw[1,L,g,(I.en L (V L g)).mp r]
  ·rintro⟨L,g,r⟩;rw[1,L,g,(I.en L (V L g)).mpr r]
 |n::x,R,C,V=>by
  have hn:=C n cq;rw[i7,Ft I x (kM F R (ay n)) (λ i O=>C i (cp _ O)) (PZ I hn V)];rw[5];·rintro⟨L,g,r⟩;obtain⟨z,P,w⟩:=Fh.mp g;rw[9,z,P,L,(I.tg z _ L (V z P) hn).mp w,r]
  ·rintro⟨z,P,L,w,r⟩;rw[1,L,Fh.mpr ⟨z,P,(I.tg z _ L (V z P) hn).mpr w⟩,r]
def AM(F:aS)(ay:[cQ])(n:Nat):Prop:=∀j,[AD,j]≤([wx,n,ay].count j)
theorem pick{ay:[cQ]}{n j:Nat}{r:[ak]}(h:((r.map ay).count j)<([wx,n,ay].count j))(y:r.Nodup):∃i,i<n∧ay i=j∧i∉r:=by
 by_cases q:∃i,i<n∧ay i=j∧i∉r;·exact q
 ·exfalso;have g:[ck,[rc,n].filter λ i=>ay i==j,[fz,r.filter,λ i=>ay i==j]]:=by
   refine Vs.jT (List.Nodup.sublist Bs List.nodup_range) λ i O=>?_
   rw[yH,So]at O;rw[yH];refine[wJ,?_,O];by_cases w:i∈r;rw[2,w,[gh,⟨i,O.1,[aB,O.2],w⟩,q]]
  have e:∀l:[ak],[adc]:=λ l=>by rw[244]
  rw[e,e]at h;omega
theorem real{F:aS}{ay:[cQ]}{n:Nat}(N:AM F ay n):∀(cs r:[ak]),(r.Nodup→([yj,r])→(∀k,k∈cs→[vg]+(r.map ay).count k≤[AD,k])→∃x:[ak],x.map ay=cs∧(r++x).Nodup∧[yj,r++x])
 |[],r,g,a,_=>⟨[],J,by rw[72],[aB,a]⟩
 |c::cs,r,g,a,P=>by
  have V:=P c cq;rw[RQ]at V;obtain⟨i,O,m,h⟩:=pick (ay:=ay) (n:=n) (j:=c) (r:=r) (by rw[10,N c]) g;have nd:(r++[i]).Nodup:=by rw[13,k0,[DR,g,λ p R q D e=>?_]];simp at D;subst D;subst e;exact h R
  have s:∀j∈r++[i],j<n:=λ j U=>by rw[171,U,a,j]
  obtain⟨x,e1,e2,B⟩:=real N cs (r++[i]) nd s λ k C=>by
   have:=P k (cp _ C);rw[cH,List.count_append];rw[i8]at this;show[vg]+(List.count k (r.map ay)+List.count k [ay i])≤_;rw[m];have e:[B6,List.count k [c],c==k,1,0]:=by rw[16,i8]
   rw[27,e]
  rw[18,i::x,by rw[bO,e1,m],?_,?_];·rw[gZ]at e2;exact e2
  ·rw[gZ]at B;exact B
theorem Z_{F:aS}(I:cw F){ay:[cQ]}{n:Nat}(a:[Ia]∈F.U)(s:∀i,i<n→[p0,ay i])(U:AK F ay n)(N:AM F ay n){t:Row}(l:t≠[])(y:t.Nodup)(c:[yj,t])(K:[Ky,F.most]):Fits F ay t↔Vs.tV n F.most (nI F ay) t:=by
 have d:∀{x:[ak]},([yj,x])→∀i∈x,[p0,ay i]:=λ h i O=>s i (h i O)
 have V:=vg I a (ay:=ay) (row:=t) (d c);have f:∀x:[ak],([yj,x])→([P1,t++x]=true↔[ab0,[tX,t]]):=λ x A=>by have:=Ft I (ay:=ay) x [tX,t] (d A) V;rw[←this];unfold eO;rw[qz]
 rw[5]
 ·rintro⟨g,L,r,cs,⟨P,w⟩,m,H,R⟩;obtain⟨x,e1,e2,B⟩:=real N cs t y c λ k C=>by cases q:[pL,[vg]+[CY].count k,[AD,k]]with|true=>exact lR q|false=>have q:=of_decide_eq_false q;rw[8,⟨k,C,by rw[19,[AD,k]<[vg]+[CY].count k]⟩,R]
  have o:x.length=cs.length:=by rw[←e1,aC]
  rw[18,x,Vs.jS.mpr ⟨?_,?_,B,e2⟩,?_,(f x λ i O=>B i (iQ _ O)).mpr [pv,L,r]];·rw[dh];rw[10,[B2,l]]
  ·rw[27,dh]
  ·rw[cH,Fs,e1];omega
  rw[11,e1,w]
 ·rintro⟨x,j,b,z⟩;obtain⟨_,T,e,S⟩:=Vs.jS.mp j;rw[cH,Fs]at b;have A:[yj,x]:=λ i O=>e i (iQ _ O)
  obtain⟨L,r,w⟩:=(f x A).mp z;rw[dh]at T;refine⟨[ac],L,r,x.map ay,⟨[yf],w⟩,[e9,aC],[ac],λ⟨k,C,W⟩=>?_⟩;·rw[177,C];exact s i (A i O)
  ·rw[102,U.bC (t++x) S e [ap,dh,T] k,cH,List.count_append];have W:[AD,k]<(x.map ay).count k+[CY].count k:=W;omega
theorem aaa(r:[ak]):(aJ r).dropLast=[Tz]:=by rw[←Bx]
section
variable{P:aY}{w:aU}{K:aF}{mg:[a_]}{base:aE}
theorem aA.Fu{b:Type}{k:Nat}{f:ab}{v:bq}{V:[bd]}{sp:b→Sp}(h:∀i,aA P w K mg base aG k f v V (sp i)):aA P w K mg base aG k f v V (λ U H Q E=>∃i,sp i U H Q E):=⟨λ U H Q E⟨i,q⟩=>(h i).len U H Q E q,λ A outer s H args W U Q E u R a y⟨i,q⟩=>(h i).run A outer s H args W U Q E u R a y q⟩
def AN(K:aF)(F:aS)(d:ab):Sp:=λ U H Q _=>∃(a:[bp])(se kb P:ab)(ay:[cQ])(n:Nat)(c:Row),[cj,U=[Fx,se,P],bA F H a,[Vd,a],AL (Zh (aP F a) H) kb n,[lk,AK F ay n,AM F ay n,ax K H P (aJ c),c.Nodup,[yj,c],c.length≤F.most,(∀(l:ab)(m:Hp)(D:[bp]),([Kw,a,m])→[u8,l,m l=Z (.aj []),∀q,¬[Z0,c],Q [lf] m])∧∀(l:ab)(r:Row)(m:Hp)(D:[bp]),([Kw,a,m])→[u8,l,m l=Z (.aj (aJ r)),[jb,isRow n F.most r,nI F ay r∧Vs.h8 c 0 r],([Wa,[Z0,c],r])→Q [lf] m]]]
theorem aab{F:aS}(FO:cw F)(G:[y8]){f fF fS l:ab}{fd fdF fdS:bq}(M:[mu,[Q4],[Q9],uW,l,f,fd,"after"])(T:[CG,l])(MF:[gM,[Vq],[Vu],xN,l,fF,fdF,[KP]])(GF:aA P w K mg base aG 62 fF fdF [KP] (λ vs H Q E=>∃X,Fq [nF] l vs H Q E))(MS:[mu,"scans","Search.scans",uY,l,fS,fdS,"row"])(GS:aA P w K mg base aG 8 fS fdS [rF] (λ vs H Q E=>∃X,Fm K [nF] l vs H Q E)):aA P w K mg base aG 63 f fd [NL] (AN K F l):=by
 have nd:=NV.nd;rw[83,NV];·obtain⟨g,se,kb,af,ay,n,u,rfl,_⟩:=h;rfl
 obtain⟨g,se,kb,af,ay,n,u,rfl,S,B,hkl,hko,hmany,haf,hnd,hin,hlm,kN,kX⟩:=h;have hr8:cy 8 _:=[wu,8,62];rw[48,[we,2,[Fc,ry,VL,G.B.list,Ru,1],[xQ,3,bu],aN (t9 dX (iH md) [NX,4,[aa0,pv 2,[jC,3]],cI [vZ,U7,4,pL] (aK (j0 [Uv,pv 2,4]) (aK [Bd,iH [Qu,hr8,2,aB],pv 2] (aN [xQ,3,bu]))) (aN (cI (C8 (pv 2) (λ _=>J)) (aN [xQ,3,[yw,VN nN PySem.F.slot_list_pop PySem.F.type_list_pop VT (pv 2)]]) [oH,pv 2]))])],⟨_,J,af,_,J,.inl haf,[Kv]⟩];have S0:=S.plus FO ha (aJ u);have z0:ah (Zh (aP F g) H) (Zh (aP F g) (ag H a (.aj (aJ u)))):=jl [oE,ha];have a0:(ag H a (.aj (aJ u))) a=Z (.aj (aJ u)):=aw;have x0:[M3,ag H a (.aj (aJ u))]:=λ x d=>by rw[56,x,d];rw[ar (aX q ha)]
 generalize ag H a (.aj (aJ u))=H0 at S0 z0 a0 x0;have FOa:=FO.plus a;have zpl:∀{c:Hp}{D:[bp]},bA (F.plus a) c D→ah (Zh (aP F g) H) (Zh (aP F D) c)→ah (Zh (aP F g) H) [Bf,a,D,c]:=λ{c D}S' z b o e=>by have q:=bV.mp (z b o e);exact[aex,ha]
 let iq:Row→Prop:=λ q=>[Z0,u]
 let W:[Be]:=λ m σ c=>∃(D:[bp])(t:Row)(I:Nat)(v4:[dE]),[cj,σ=[[b8,se],[b8,af],[lA],Z (nV I),v4],m=Vs.steps n F.most t I,I≤64,bA (F.plus a) c D,[cj,ah (Zh (aP F g) H) (Zh (aP F D) c),[abc,D],[M3,c],c a=Z (.aj (aJ t)),Vs.Walk n F.most (nI F ay) iq t I]]
 rw[24,W,⟨_,g,u,0,none,J,J,b7 _,S0,z0,[Md],x0,a0,hin,hnd,hlm,λ q=>vP⟩];rintro m σ H1⟨gs1,t,I,v4,rfl,rfl,hl64,S1,z1,ext1,x1,a1,O⟩;refine[dL,aV [pv,λ σ' c=>∃m',m'<Vs.steps n F.most t I∧W m' σ' c,λ σ' c h=>h]];have Y:=zpl S1 z1;obtain⟨dxe,hse⟩:=B.se.mono [rE,bp];have sr1:mC (F.plus a) l [Bf,a,gs1,H1] se kb ay n:=[ack,Y];have kl1:AL [Bf,a,gs1,H1] kb n:=let⟨kvs,q1,q2⟩:=hkl;[vk,kvs,Y,q1,q2]
 have hn64:=hko.Fp;have U:∀{hi:Nat},(([Yd])→hi≤n→yn F ay t I hi→∀m,I≤m→m<hi→¬Vs.tV n F.most (nI F ay) (t++[m])):=λ{hi}r hhn v m h1 h2 hc=>by
  by_cases w:m∈t;·obtain⟨x,d,_⟩:=hc;rw[102,(Vs.jS.mp d).2.2.2,gZ,k0];exact this.2.2 m w m [al] J
  ·refine v m h1 h2 w ((Z_ FO B.st B.lt hko hmany [al] ?_ ?_ ?_).mpr hc);·rw[315,O.once,w]
   ·intro i hi;rw[171,hi,O.nums,i]
   ·rw[17]
 refine⟨_,J,se,dxe,_,J,hse,[em],_,J,_,J,a::F.X,gs1,se,kb,a,ay,n,t,I,J,S1,sr1,kl1,⟨hko.bC,hko.Fp⟩,a1,cq,O.once,O.nums,O.short,[ac],λ j C N v=>?_,λ x j C N r hle hxn hxr hfit v=>?_⟩
 ·rw[338,ext1 i e h,N.ext i e1 q1,x1 x d];rw[3,[L9,a_ ?_],[Z8,a2]];by_cases hre:t=[]
  ·subst hre;refine[zj,kN a j C ⟨S2.minus FO,z2,R,x2⟩ ha a2 (O.over λ m h1 h2=>?_)];rcases v with q|q;·intro hc;obtain⟨x,d,_⟩:=hc;have:=(Vs.jS.mp d).2.1;have q:0=F.most:=q;rw[77];omega
   ·by_cases h0:0<F.most;·exact U (hi:=n) h0 (ba _) q m h1 h2
    ·intro hc;obtain⟨x,d,_⟩:=hc;rw[92,(Vs.jS.mp d).2.1]
  ·obtain⟨r0,y,rfl⟩:=Vs.qU hre;have hlen:[b9,aJ (r0++[y]),r0.length+1]:=[al];have hget:(aJ (r0++[y]))[[fz,aJ,r0++[y]]-1]?=Z (nV y):=by rw[hlen,cJ];simp
   have hdrop:(aJ (r0++[y])).dropLast=aJ r0:=by rw[16,aaa]
   have hne:(!(aJ (r0++[y])).isEmpty)=true:=[al];rw[hne];have hyn:=O.nums y [al];rw[33,⟨_,J,[C_,a2],a,_,nV y,J,J,a2,hget,_,_,J,J,?_⟩];rw[13,hdrop,⟨_,Vs.T3 (x:=y) (n:=I),C,r0,y+1,Z .bh,J,J,[ac],S2.As FO _,?_,R,?_,aw,O.popped ?_⟩];·intro b o e;rw[149,z2 b o e,aX [zO].1 ha]
   ·intro x d;rw[56,x,d];rw[4,ar (aX q ha),x2 x d]
   ·rcases v with q|q;rw[40,q];·by_cases hf:[b9,r0++[y],F.most];rw[40,hf];·rw[51,O.short,.inr (U (hi:=n) [ac] (ba _) q)]
 ·rw[338,ext1 i e h,N.ext i e1 q1,x1 x d];have h12:=FO.K.most;have r:[Yd]:=r;rw[49,J,_,J,aV ⟨_,J,[C_,a2],_,J,a,_,_,J,J,a2,(eR (show[ck,aJ t,12]by rw[27,aC]) [bj]),?_⟩];have e3:aJ t++[nV x]=aJ (t++[x]):=by show aJ t++aJ [x]=_;rw[←cH]
  rw[e3];have S3:=S2.As FO (aJ (t++[x]));have a3:(ag j a (.aj (aJ (t++[x])))) a=Z (.aj (aJ (t++[x]))):=aw;have z3:ah (Zh (aP F g) H) (Zh (aP F C) (ag j a (.aj (aJ (t++[x]))))):=[Ys,z2 b o e,[cX,aX [zO].1 ha,q.1],q.2];have x3:∀y∈F.X,(ag j a (.aj (aJ (t++[x])))) y=H y:=λ y hy=>by rw[56,y,hy];rw[4,ar (aX q ha),x2 y hy]
  generalize ag j a (.aj (aJ (t++[x])))=H3 at S3 a3 z3 x3;have z3p:=zpl S3 z3;obtain⟨dxe3,hse3⟩:=B.se.mono (z3p.trans bp);have sr3:mC (F.plus a) l [Bf,a,C,H3] se kb ay n:=[ack,z3p];have hin3:[yj,t++[x]]:=λ i hi=>by rw[171,hi,O.nums,i]
  refine⟨_,J,se,dxe3,_,J,hse3,[em],_,J,a::F.X,C,se,kb,a,ay,n,t++[x],J,S3,sr3,(ax.of a3),by rw[17],hin3,λ H4 L=>[Cp]⟩;have S4:bA (F.plus a) H4 C:=L.st;have a4:H4 a=Z (.aj (aJ (t++[x]))):=[f8,L.xs,a,cq,a3];have z4:ah (Zh (aP F g) H) (Zh (aP F C) H4):=((z3p.trans L.z).trans ym);have x4:∀y∈F.X,H4 y=H y:=λ y hy=>[f8,L.xs,y,cp _ hy,x3 y hy]
  have hno':=U (hi:=x) r (oa hxn) v;have hfit:Fits F ay (t++[x]):=hfit;show[Aa,[P1,t++[x]]];cases hb:[P1,t++[x]]with|true=>have hf:=O.found hle r hxn hxr hno' ⟨hfit.1,hb⟩;exact aV [dL,kX a (t++[x]) H4 C ⟨S4.minus FO,z4,R,x4⟩ ha a4 hf.1 hf.2]|false=>exact a_ ⟨_,Vs.TZ hle hxn r,C,t++[x],0,Z (nV x),J,J,b7 _,S4,z4,R,x4,a4,O.T4 hle r hxn hxr hno' λ z=>by rw[z.2]at hb;cases hb⟩
end
end VP
end
section
namespace VP
open PySem L2
def j_(mg:[a_])(base:aE)(x:Str)(C:ab):Prop:=PyProof.Rows.OwnCls x C [Xy] "Exception.__new__" mg base
def Fv:[bd]:=["after","most","stock_count",[mj]]
theorem P7:bQ Fv [J8] (aZ uU):=[bV]
theorem aac(l:[ak]):(l.map (λ n:Nat=>[cY])).Nodup↔l.Nodup:=by
 induction l with
  |nil=>simp
  |cons a l T=>
   rw[bO,BF,BF,T];refine and_congr_left λ _=>not_congr ?_
   rw[5];·intro h;obtain⟨b,K,e⟩:=[bE,h];have:b=a:=[ac];rw[23,this,K]
   ·intro h;exact[iI,a,h]
theorem P8(l:[ak]):aJ l=(l.map (λ n:Nat=>[cY])).map V.int:=[fy,cP]
section
variable{P:aY}{w:aU}{K:aF}{mg:[a_]}{base:aE}
def ql(c:[ak])(most n:Nat):Prop:=c.length≤most∧c.Nodup∧[yj,c]
def Fw(K:aF)(j:ab):Sp:=λ U H Q E=>∃(a:ab)(c:[ak])(most n:Nat),[IO,U=[[bi],[t9],nV n],a,aJ c,c.length≤aQ,[lm,most],[Yj,ql c most n,[J_,Q .bh m],j]]
theorem aad{f I:ab}{k:bq}(D:[iW,[Tv],uU,k,[J8]])(B:el mg)(F:[Zu,I]):aA P w K mg base [gL] 1 f k [J8] (Fw K I):=by
 have nd:Fv.Nodup:=P7.nd;refine D.fn.p0 P7 [L1] (λ cdv A outer s H vs Q E hr h G hP=>?_);·obtain⟨a,y,most,n,rfl,_⟩:=h;rfl
 obtain⟨a,y,most,n,rfl,ha,t,hm,kY,kN⟩:=h;rw[74,[JW,[M8,[wW,zL,[xz,0],pv 1],[wW,rq,[Op,Xj,[Fc,ry,Xi J,B.set,PyProof.Rows.boot_set,0]],[xz,0]]],F,G],aN [JW,[aaN,[JZ,[mj],3,pv 0,Fv,uU,lA zM (pv 3) (pv 2) (ck _)]],F,G]];refine⟨_,J,_,y.length,J,[ut,_,ha,by rw[aC]],_,J,_,_,J,J,_,J,?_⟩;have U:∀c,ah H c→bD H c→[XL,ql y most n,I,c]:=λ c Y o g=>⟨kN g c Y o,o⟩
 show[Aa,[aK,[ar,most]<[ar,y.length]]];by_cases g:most<y.length;rw[11,[tO],aV (aV (U H [zA,H] (bD.refl H) λ z=>by rw[10,z.1]))];rw[[lu]];refine a_ ⟨_,J,a,y.map (λ n:Nat=>[cY]),J,[cm,P8,ha],[e9,aC],λ p S m hp X=>?_⟩;rw[135,ag H p (.set S m),hp];have o:bD H (ag H p (.set S m)):=[Ol];have R:(ag H p (.set S m)) p=Z (.set S m):=aw;generalize ag H p (.set S m)=H1 at Y o R⊢;rw[aC,aac]at X;have L:ax K H1 a (aJ y):=Y.seq ha;rw[69,⟨p,S,m,J,R,_,J,_,y.length,J,[ut,_,L,by rw[aC]],J,_,J,?_⟩,[uh,[xX,m]=[xX,y.length]]];rw[j5];by_cases r:m=y.length
 ·rw[bK r];have T:=X.mp r;refine a_ [zh,a,[eD,L],λ D C=>[CD,[aej,.bl],L,C,[nj,t],λ x H3 Q1 Q2 d s3 q1 q2=>?_]];·rw[177,d];rw[132,H3,⟨_,J,_,J,_,_,J,J,q1 J⟩]
  ·rw[[CB]];rw[71,(aJ y).map [aej,V.bl]=[Fh,[TV]],by rw[117,λ i _=>?_];show V.bl [aK,[Au,n,i]]=V.bl [pL,n,i];rw[qe]];have l:ah H1 [OV,[TV]]:=[cE,H1,C];have u:bD H [OV,[TV]]:=o.ag J;rw[207,H1,y.map,λ i=>[pL,n,i]];generalize[OV,[TV]]=M at l u W⊢;refine[aac];cases q:[TV].any id with|true=>rw[33,U M [rE,l] u [wP]];rw[yD]at q;obtain⟨b,j,N⟩:=q;rw[177,j];have:=z.2.2 i O;have N:n≤i:=lR N;omega|false=>refine a_ (kY ⟨[ac],T,λ i O=>?_⟩ M [rE,l] u);rw[Ja]at q;have:=q [pL,n,i] [iI,i,O];rw[77];rw[65]
 rw[11,bW r,aV (U H1 Y o (λ z=>r (X.mpr z.2.1)))]
end
end VP
end
section
namespace VP
open PySem L2
def tx(l:[ak]):Str:=⟨l.toArray⟩
theorem AO{a b:[ak]}(h:tx a=tx b):a=b:=by unfold tx at h;injection h with h;have h:=ed BO h;rw[60]
theorem d9(l:[ak]):[b9,tx l,l.length]:=by show l.toArray.size=_;rw[dN]
theorem AQ(l:[ak]):(tx l).cps.toList=l:=[bn,tx]
theorem vh(a b:[ak]):tx a++tx b=tx (a++b):=by show(⟨a.toArray++b.toArray⟩:Str)=⟨(a++b).toArray⟩;simp
theorem join_ones:∀l:[ak],JF ⟨#[]⟩ (l.map λ c=>[EJ])=tx l:=λ l=>by unfold JF;rw[StrLaws.glued_eq_join];induction l with|nil=>rfl|cons c l T=>cases l with|nil=>rfl|cons d l=>show[EJ]++(⟨#[]⟩:Str)++JG ⟨#[]⟩ ((d::l).map λ c=>[EJ])=tx (c::d::l);rw[T];show tx [c]++tx []++tx (d::l)=_;rw[vh,vh];rfl
theorem aae{x:Str}{g:TG}{F:TS}{D:Ends}{w:St}{H:Hp}(P:[Be])(I:P 0 w H)(G:∀i c w H,x.cps[i]?=Z c→P i w H→[Xs,[EH],H,P (i+1)])(b:[YE,x.cps.size]):[TM,pX x,∀f a,[Mj,f,a],∀y a,(pX x).j1 i H y a→[Xs,y,a,N]]:=by rw[137,x.cps.size];rw[357,[rq,s,P (i+1),λ f a E=>[QN,x.cps.size],λ y a d=>?_],d,G i c w a V p];·have e:i=x.cps.size:=[ac];rw[145,ba _,b]
section
variable{P:aY}{w:aU}{K:aF}{mg:[a_]}{base:aE}
def AR:[bd]:=["codes","signs","known","sign","code"]
theorem P9:bQ AR [DW] (aZ qa):=[bV]
def P_(Y:[jT]):V→V|.int z=>.bl (!(cn Y (bY z)).isSome)|_=>.bl true
def oneOf:V→V|.int z=>.str ⟨#[z.toNat]⟩|_=>.bh
def AS(K:aF):Sp:=λ U H Q _=>∃(a:ab)(k y:[ak]),[jS,U=[[bi],[lC,y]],ax K H a (aJ k),k.length≤aQ,[lm,y.length],([Io,k,y])→[J_,Q [lC,k] m],(¬[Io,k,y])→[J_,Q .bh m]]
theorem Qa{f:ab}{fd:bq}(D0:[iW,"text_of",qa,fd,[DW]])(B:el mg):aA P w K mg base aG 1 f fd [DW] (AS K):=by
 have nd:AR.Nodup:=P9.nd;rw[57,D0.fn.ok,P9];·obtain⟨a,G,O,rfl,_⟩:=h;rfl
 obtain⟨a,G,O,rfl,ha,v,hsl,kY,kN⟩:=h;have u:=jB hr;rw[22,[NZ,2,gq J,wO,aK [PJ,My (pv 1),3,nk u (pv 2) [Fc,cX,Vd,B.ord,PyProof.Rows.boot_ord,3] (pv 3) J] (aK [Bd,[aaN,[aee,UG (Aa u (pv 4) (pv 2))]],pL] [oH,WB fy [aee,nj u (pv 2) (pv 4) (λ _ _=>J)]])]];intro d hd;have s0:ah H (ag H d (.dK [])):=[oE,hd];rw[26,_,J,tx O,J,aae (λ i j m=>∃(v3:[dE])(Y:[jT]),j=[[lA],Z [lC,O],[Ac],v3,none]∧m=ag H d (.dK Y)∧(Y.length≤i)∧∀c:Nat,cn Y (bY [ar,c])=[Lh,c∈O.take i,[EH]]) ⟨none,[],J,J,ba _,λ c=>by simp;rfl⟩ ?_ ?_]
 ·rintro i c j m o⟨v3,Y,rfl,rfl,N,I⟩;have o:O[i]?=Z c:=by have:(tx O).cps[i]?=O[i]?:=[bn,tx];rw[23,this,o]
  have hi:=[d0,o];rw[3,⟨_,J,_,J,_,J,[ro],J,J,d,_,J,[VG,[ar,c],aw,[vY,Y.length≤1000]],?_⟩,⟨_,cD Y (bY [ar,c]) [EH],J,iW,?_,λ y=>?_⟩];·rw[10,wG Y (bY [ar,c]) (V.str [ro])]
  ·rw[rF,I y,fH,o];rw[30,y,c];·subst e;rw[aI J,aI [al]]
   ·have n1:¬((bY [ar,y]:Key)=bY [ar,c]):=(λ z=>e (by rw[10,Sum.inl.inj z]));rw[aD n1];have:(y∈O.take i++(Z c).toList)↔y∈O.take i:=[bn,e];simp only[this]
 ·rintro j m⟨v3,Y,rfl,rfl,N,I⟩;have F:(tx O).cps.size=O.length:=[bn,tx];rw[F]at N;rw[F,fZ]at I;have p:ah H (ag H d (.dK Y)):=[oE,hd];have p1:bD H (ag H d (.dK Y)):=[Ol];have U:(ag H d (.dK Y)) d=Z (.dK Y):=aw;generalize ag H d (.dK Y)=H1 at p p1 U;have R:ax K H1 a (aJ G):=p.seq ha;rw[49,a,J,[eD,R],λ D hD=>[CD,P_ Y,R,hD,[nj,v],λ x L Q1 Q2 n C r q2=>?_]];·obtain⟨c,o,rfl⟩:=[bE,n];rw[132,L,⟨_,J,_,J,d,_,J,[Ql,[ar,c],C _ _ U],r J⟩]
  rw[[CB]];rw[71,(aJ G).map (P_ Y)=[Fh,[TW]],by
   rw[117,λ c _=>?_];show V.bl (!(cn Y (bY [ar,c])).isSome)=V.bl [aK,c∉O];rw[I c];by_cases h:c∈O;·rw[aI h];simp[h]
   ·rw[aD h];simp[h]]
  have t:ah H1 [OV,[TW]]:=[cE,H1,hD];have p2:bD H [OV,[TW]]:=p1.ag J;rw[207,H1,G.map,λ c=>[aK,c∉O]];generalize[OV,[TW]]=M at t p2 W⊢;refine[aac];cases q:[TW].any id with
   |true=>rw[33,kN [wP] M (p.trans t) p2];rw[yD]at q;obtain⟨b,hb,hb2⟩:=q;obtain⟨c,o,rfl⟩:=[bE,hb];exact(lR hb2) (z c o)
   |false=>
    have S:[Io,G,O]:=λ c o=>by rw[Ja]at q;rw[100,q [aK,c∉O] [iI,c,o]]
    have X:ax K M a (aJ G):=t.seq R;have hd2:=t _ _ U;refine a_ ⟨[pM],_,J,a,J,[eD,X],λ D' T=>[CD,oneOf,X,T,[nj,v],λ x L Q1 Q2 n C r q2=>?_]⟩;·obtain⟨c,o,rfl⟩:=[bE,n];have g:=[Ql,[ar,c],C _ _ hd2];rw[I c,aI (S c o)]at g;rw[132,L,⟨_,J,_,J,d,_,J,g,r J⟩]
    rw[[CB]];have e2:(aJ G).map oneOf=(G.map λ c=>[EJ]).map V.str:=[jh,cP,cP];rw[13,e2,⟨⟨#[]⟩,D',_,J,J,.inl (ax.of aw),?_,?_⟩]
    ·have h1:∀l:[ak],((l.map λ c=>(⟨#[c]⟩:Str)).map (·.length)).sum=l.length:=λ l=>by induction l with|nil=>rfl|cons c l ih=>rw[bO,bO,qE,ih,dP];rw[19,1+_=_]
     rw[h1];have:[b9,(⟨#[]⟩:Str),0]:=J;rw[12,this,Nat.mul_zero,v]
    rw[11,join_ones,kY S _ ((p.trans t).trans [cE,M,T]) (p2.ag J)]
end
end VP
end
section
namespace VP
open PySem L2
theorem Qb{X:Cx}:zG X .Add (λ x y H Q=>∃a b:Str,x=.str a∧y=.str b∧a.length+b.length≤aQ∧[LS,a++b]):=by intro B s w H x y v u Q I c S h;obtain⟨a,b,rfl,rfl,M,q⟩:=h;obtain⟨t,rfl⟩:=c;rw[128,S,PySem.SB.iadd [ZY,q] M]
def Cs(mg:[a_])(x y:Str):Prop:=[DV,x,.str y]
def lN(p c:Nat):[ak]:=[Z5,k7,65,lV,97,c]
def d_:Nat→[er,Nat,[ak]]|_,[]=>[]|p,[c]=>lN p c|p,c::d::r=>if mR c d then 65::d_ d r else lN p c++d_ c (d::r)
def prev(W:[ak])(i:Nat):Nat:=[J9,i=0,0,W.getD,i-1,0]
theorem Fx(c d:Nat):[zW,[KR,[ro],⟨#[d]⟩],c=d]:=by rw[16,dH]
theorem aaf:("h":Str)=⟨#[104]⟩:=[bB]
theorem aag:("u":Str)=⟨#[117]⟩:=[bB]
theorem aah:("q":Str)=⟨#[113]⟩:=[bB]
theorem str_A:("A":Str)=tx [65]:=[bB]
theorem Qc:("a":Str)=tx [97]:=[bB]
theorem AU:("":Str)=tx []:=[bB]
theorem aai(c:Nat):([aK,c∈[Km,"AEIOUY"]]=k7 c):=by rw[52,[Km,"AEIOUY"]=[65,69,73,79,85,89],[bB]];unfold k7;rw[dH];simp
theorem aaj(c:Nat):([aK,c∈[Km,"aeiouy"]]=lV c):=by rw[52,[Km,"aeiouy"]=[97,101,105,111,117,121],[bB]];unfold lV;rw[dH];simp
theorem aak(W:[ak])(i j:Nat)(Y:i≤j):mq (tx W) (Z [lx]) (Z [ar,j])=tx ([AU].take (j-i)):=by
 unfold mq;rw[d9,HT.wx,HT.wx,AQ];unfold tx;congr 2;by_cases h:i≤W.length;·rw[yJ h];rw[256,[al],by rw[17]]
 ·rw[IH [vY,W.length≤min i W.length],IH [vY,W.length≤i]];simp
theorem aal(W:[ak])(j:Nat):mq (tx W) none (Z [ar,j])=tx (W.take j):=by unfold mq;rw[d9,HT.wu,HT.wx,AQ,Sr,Js];unfold tx;congr 2;rw[256,ba _,[ac]]
theorem aam(l:[ak]):Jt (tx l) ⟨#[113]⟩=[aK,l.getLast?=Z 113]:=by
 unfold Jt IU;rw[d9];have g:[b9,(⟨#[113]⟩:Str),1]:=J;rw[g];by_cases h:l=[];·subst h;decide
 ·obtain⟨i,x,rfl⟩:=Vs.qU h;rw[RS];have e:(tx (i++[x])).cps.extract ((i++[x]).length-1) ((i++[x]).length-1+1)=#[x]:=by unfold tx;simp
  rw[e,dH];simp
section
variable{P:aY}{w:aU}{K:aF}{mg:[a_]}{base:aE}
structure Fy(mg:[a_]):Prop where
 long:Cs mg "LONG" "A"
 short:Cs mg "SHORT" "a"
 aan:Cs mg "LONG_VOWELS" "AEIOUY"
 aao:Cs mg "SHORT_VOWELS" "aeiouy"
def Qd:Sp:=λ U H Q _=>∃(W:[ak])(i c:Nat),U=[[lC,W],nV i]∧W[i]?=Z c∧[lm,W.length]∧[LS,tx (lN [AT] c)]
theorem aap{f:ab}{v:bq}(D:[iW,"sound_at",xD,v,[NQ]])(C:Fy mg):aA P w K mg base aG 1 f v [NQ] Qd:=by
 have nd:=NP.nd;obtain⟨L,g,l⟩:=C.long;obtain⟨N,r,S⟩:=C.short;obtain⟨u3,b,G⟩:=C.aan;obtain⟨u4,j,I⟩:=C.aao;rw[66,D.fn.ok,NP,[Vi]];·obtain⟨W,i,c,rfl,_⟩:=h;rfl
 obtain⟨W,i,c,rfl,a,t,k⟩:=h;rw[22,[we,2,zP (pv 0) (pv 1) [B3],[Bd,[M8,[vZ,e_,2,fy],PW.pt (lu [vZ,e_,2,fy] (oB (iH (rG PySem.F.slot_str_endswith PySem.F.type_str_endswith WA (oH DV (pv 0) pQ (nh (pv 1))) fy))))],fy],aK [Bd,cm wW (pv 2) (b8 J b G) J,b8 J g l] (aK [Bd,cm wW (pv 2) (b8 J j I) J,b8 J r S] [oH,pv 2])]];have O:=[d0,a];have M:(tx W).cps[[aN,i].toNat]?=Z c:=by rw[vy];simp[tx];exact a
 refine⟨_,J,_,J,tx W,i,c,J,J,[ac],[ac],[e9,d9],M,?_⟩;have F:∀(p:Nat),lN p c=[Z5,k7,65,lV,97,c]:=λ p=>J
 have Y:¬(c=104∨(c=117∧[AT]=113))→wj (zD (uc (h9 [ZK] (cv 2) (tC (.str "AEIOUY")))) (rj (tC (.str "A"))) CP) (wj (zD (uc (h9 [ZK] (cv 2) (tC (.str "aeiouy")))) (rj (tC (.str "a"))) CP) (rj (cv 2))) {nx:=λ x m=>Q V.bh m,rt:=Q} [Z [lC,W],Z (nV i),Z [EH]] H:=λ hn=>by have k2:=k;rw[F,aD hn]at k2;rw[42,[Nf,_,J,c,_],aai];cases n:k7 c with|true=>rw[n]at k2;have k2:[LS,tx [65]]:=k2;rw[←str_A]at k2;exact aV k2|false=>rw[n]at k2;rw[42,a_ [Nf,_,J,c,_],aaj];cases X:lV c with|true=>rw[X]at k2;have k2:[LS,tx [97]]:=k2;rw[←Qc]at k2;exact aV k2|false=>rw[X]at k2;exact[zj,k2]
 have T:(c=104∨(c=117∧[AT]=113))→[LS,("":Str)]:=λ d=>by have k2:=k;rw[F,aI d,←AU]at k2;exact k2
 rw[38,[Du],[LL,[ro],"h"]];rw[aaf,Fx];by_cases B:c=104;rw[11,bK B,aV (aV (T (.inl B)))];rw[bW B];rw[38,a_ [Du],[LL,[ro],"u"]];rw[aag,Fx];by_cases q:c=117
 ·rw[13,bK q,aV ⟨_,J,_,J,i,J,tx W,J,[PK,t],[pM],_,_,J,J,_,J,?_⟩];rw[aal,aah,aam];have e:[zW,(W.take i).getLast?=Z 113,[AT]=113]:=by
   rw[dH,dw,dw];unfold prev;by_cases h0:i=0;·subst h0;simp
   ·rw[aD h0,List.getLast?_eq_getElem?,jJ,yJ (oa O),List.getElem?_take,(aI [ac]),iB,bX [vY,i-1<W.length]];simp
  rw[e];by_cases R:[AT]=113;rw[39,bK R,aV (T [jl,q,R]),bW R,a_ (Y λ z=>z.elim B (λ z=>R z.2))]
 rw[11,bW q,a_ (a_ (Y λ z=>z.elim B (λ z=>q z.1)))]
end
end VP
end
section
namespace VP
open PySem L2
def yo:[aw]:=[.str "ae",.str "au",.str "oe",.str "eu"]
theorem aaq:("ae":Str)=tx [97,101]:=[bB]
theorem aar:("au":Str)=tx [97,117]:=[bB]
theorem aas:("oe":Str)=tx [111,101]:=[bB]
theorem aat:("eu":Str)=tx [101,117]:=[bB]
theorem Fz(a b:[ak]):kD [lC,a] [lC,b]=[aK,a=b]:=by show(tx a==tx b)=[aK,a=b];rw[dH,mS,dw];rw[0,AO,λ h=>by rw[h]]
theorem aau(l:[ak]):i2 [lC,l.take 2] yo=[U_,l]:=by rw[71,i2 [lC,l.take 2] yo=([aK,[97,101]=l.take 2]||([aK,[97,117]=l.take 2]||([aK,[111,101]=l.take 2]||([aK,[101,117]=l.take 2]||false)))),by unfold i2 yo;rw[aaq,aar,aas,aat];simp only[k8,SI,Fz]];match l with|[]=>rfl|[c]=>simp|c::d::r=>simp only[RY,List.take_zero];unfold mR;rw[dH];rw[17]
structure Qe(K:aF)(mg:[a_]):Prop where
 ex:[aa8,"LONG_PAIRS",yo]
theorem FA(p c:Nat):[ck,lN p c,1]:=by
 unfold lN;split;·simp
 ·split;·simp
  ·split<;>simp
theorem aav(W:[ak])(i c:Nat)(V:W[i]?=Z c)(R:[aX,[U_,[AU]]]):d_ [AT] [AU]=lN [AT] c++d_ (prev W (i+1)) (W.drop (i+1)):=by
 have e1:prev W (i+1)=c:=by unfold prev;rw[aD [ac],iB,Bt,V];rfl
 have O:=[d0,V];have e2:[AU]=c::W.drop (i+1):=by rw[IA O];congr 1;have:=[J0,V].2;rw[65]
 rw[e1,e2];rw[e2]at R;cases e:W.drop (i+1)with|nil=>rw[d_,d_,qD]|cons d r=>rw[e]at R;have R:[aX,mR c d]:=R;rw[d_,R];rfl
theorem aaw(W:[ak])(i:Nat)(R:[U_,[AU]]=true):i+2≤W.length∧d_ [AT] [AU]=65::d_ (prev W (i+2)) (W.drop (i+2)):=by
 match e:[AU]with
  |[]=>rw[e]at R;cases R
  |[c]=>rw[e]at R;cases R
  |c::d::r=>
   rw[e]at R;have R:mR c d=true:=R;have X:[b9,[AU],r.length+2]:=[fy,e];rw[lQ]at X;have e2:W.drop (i+2)=r:=by have:[AU].drop 2=r:=[fy,e];rw[Jk]at this;exact this
   have B:prev W (i+2)=d:=by unfold prev;rw[aD [ac],iB];have:[AU][1]?=Z d:=[fy,e];rw[I_]at this;rw[[db,i+2-1,i+1,[ac]],this];rfl
   rw[15,[ac],?_];rw[d_,R,e2,B];rfl
section
variable{P:aY}{w:aU}{K:aF}{mg:[a_]}{base:aE}
def FC:Sp:=λ U H Q _=>∃(W:[ak]),U=[[lC,W]]∧[lm,W.length]∧[LS,tx (d_ 0 W)]
theorem aax{f z:ab}{l F:bq}(D:[iW,"sounds_of",xC,l,[wS]])(B:el mg)(C:Fy mg)(L:Qe K mg)(G:[eY,"sound_at",xD,z,F,[NQ]]):aA P w K mg base aG 2 f l [wS] FC:=by
 have nd:=NO.nd;have GS:aA P w K mg base aG 1 z F [NQ] Qd:=aap G C;obtain⟨u1,g,n⟩:=C.long;obtain⟨y,M,N⟩:=L.ex;rw[66,D.fn.ok,NO,[Vi]];·obtain⟨W,rfl,_⟩:=h;rfl
 obtain⟨W,rfl,r,k⟩:=h;rw[22,[JN,1,fy,2,bu,[DB,t9 dX [vZ,C5,2,[xz,0]] (aN (cI (cm Dr (oH DV (pv 0) (nh (pv 2)) (nh [yw,pv 2])) (b8 (x:="LONG_PAIRS") (v:=.ref y) J M J) J) [abI,b8 J g n] [abI,[DE,GS,u,G.mg,G.fn.kp,G.b,pv 0,[jC,2]]])),pv 1]]];let X:[Be]:=λ m b a=>∃(t:[ak])(i:Nat),[jS,b=[Z [lC,W],Z [lC,t],Z (nV i)],a=H,m=W.length-i,i≤W.length,[Ky,i],t++d_ [AT] [AU]=d_ 0 W]
 rw[24,X,⟨_,[],0,by rw[←AU];rfl,J,J,b7 _,ba _,J⟩];rintro m b a⟨t,i,rfl,rfl,rfl,hi,hal,I⟩;rw[38,⟨_,J,_,J,_,W.length,J,[UD,[PK,r]],_,_,J,J,_,J,?_⟩,[lx]<[ar,W.length]];by_cases p:i<W.length
 ·rw[[tO]];rw[3,aV [pv,λ q a=>∃S,S<W.length-i∧X S q a,λ q a h=>h],⟨_,J,_,J,i,J,_,J,_,_,J,J,_,J,tx W,J,[PK,r],y,_,J,.inr (N _),J,[bB],_,J,?_⟩];have Y:mq (tx W) (Z [lx]) (Z ([lx]+2))=tx ([AU].take 2):=by rw[50,aak W i (i+2) [ac],[db,i+2-i,2,[ac]]]
  show[Aa,i2 (V.str (mq (tx W) (Z [lx]) (Z ([lx]+2)))) yo];rw[Y,aau];obtain⟨c,j⟩:∃c,W[i]?=Z c:=[eD,bX p];cases R:[U_,[AU]]with
   |true=>
    obtain⟨g1,T⟩:=aaw W i R;rw[33,⟨_,J,_,_,J,J,?_,_,J,_,_,J,J,W.length-(i+2),[ac],t++[65],i+2,?_,J,J,g1,by rw[17],?_⟩];·rw[str_A,d9,d9];exact[oM,show t.length+[65].length≤2000 by rw[17]]
    ·show[Z [oC,W],Z (V.str (tx t++("A":Str))),Z (V.int ([lx]+2))]=_;rw[str_A,vh];rfl
    ·rw[←I,T];simp
   |false=>
    have T:=aav W i c j R;have O:=FA [AT] c;refine a_ ⟨_,J,_,J,_,J,W,i,c,J,j,r,_,_,J,J,?_,_,J,_,_,J,J,W.length-(i+1),[ac],t++lN [AT] c,i+1,?_,J,J,[ac],by rw[17],?_⟩;·rw[12,d9,d9,[ze,bf,t.length+(lN [AT] c).length,2000]]
    ·show[Z [oC,W],Z (V.str (tx t++tx (lN [AT] c))),Z (V.int ([lx]+1))]=_;rw[vh];rfl
    ·rw[←I,T];simp
 ·rw[[lu]];rw[45,i=W.length,[ac]];rw[List.drop_length]at I;have:d_ (prev W W.length) []=[]:=by unfold d_;rfl
  rw[this,qD]at I;rw[4,I,[zj,k]]
end
end VP
end
section
namespace VP
open PySem L2
def gW(c:Nat)(l:[ak]):Nat→[er,Nat,[ak]]|_,[]=>[]|k,d::r=>[pH,d,c,k::gW c l (k+1) r,gW c l (k+1) r]
theorem sub_one(l:[ak])(c i:Nat):IU (tx l) [ro] i=[aK,l[i]?=Z c]:=by
 unfold IU;have g:[b9,[EJ],1]:=J;rw[g];have e:((tx l).cps.extract i (i+1)).toList=((l.drop i).take 1):=by unfold tx;simp
 have e2:((tx l).cps.extract i (i+1)==[EJ].cps)=[aK,((l.drop i).take 1)=[c]]:=by
  rw[dH,mS,dw,←e];rw[5];·intro h;rw[h]
  ·intro h;exact Array.ext' (by rw[h])
 rw[e2,dH,dw,dw];have I:(l.drop i)[0]?=l[i]?:=[fy,I_];cases q:l.drop i with|nil=>rw[q]at I;rw[52,l[i]?=none,I.symm];simp|cons d r=>rw[q]at I;have I:Z d=l[i]?:=I;rw[←I];simp
theorem FD(l:[ak])(c m:Nat):∀(r:[ak])(k:Nat)(g:Array Nat)(free:Nat),[cI,l.drop k=r,free≤k,g.size≤k,m=l.length+1,k≤l.length→(forIn (Jx k (r.length+1)) (g,free) (yG (tx l) [ro] l.length m)).run.fst.toList=g.toList++gW c l k r]
 |[],k,g,free,u,F,G,i,C=>by
  have q:[qe,k]:=by rw[35,[Ca,u],lQ];rw[77];omega
  have e:Jx k (([]:[ak]).length+1)=[k]:=J;rw[e,sY];have hn:¬(((g.size<m∧free≤k)∧[CZ,k+[EJ].length])∧IU (tx l) [ro] k=true):=by rintro⟨⟨_,h⟩,_⟩;have h:[CZ,k+1]:=h;omega
  unfold yG;simp only[];rw[aD hn];simp[gW]
 |d::r,k,g,free,u,F,G,i,C=>by
  have b:=[Ca,u];rw[lQ,dP]at b;have a:l[k]?=Z d:=by have:(l.drop k)[0]?=Z d:=[fy,u];rw[I_]at this;exact this
  have f:l.drop (k+1)=r:=by have:(l.drop k).drop 1=r:=[fy,u];rw[Jk]at this;exact this
  have e:Jx k ((d::r).length+1)=k::Jx (k+1) (r.length+1):=J;by_cases V:d=c
  ·subst V;have K:yG (tx l) ⟨#[d]⟩ l.length m k (g,free)=pure (n6 (g.push k,k+1)):=by unfold yG;rw[aI ⟨⟨⟨by rw[19,g.size<m],F⟩,by rw[19,[CZ,k+1]]⟩,by rw[sub_one,a];simp⟩];rfl
   have T:=FD l d m r (k+1) (g.push k) (k+1) f (ba _) (by rw[17]) i [ac];rw[e,sY,K];refine Eq.trans T ?_;simp[gW]
  ·have K:yG (tx l) [ro] l.length m k (g,free)=pure (n6 (g,free)):=by unfold yG;rw[aD (by rintro⟨_,h⟩;rw[sub_one,a]at h;rw[14];exact V h)]
   have T:=FD l c m r (k+1) g free f [ac] [ac] i [ac];rw[e,sY,K];refine Eq.trans T ?_;simp[gW,V]
theorem FE(l:[ak])(c:Nat):Iz (tx l) [ro] 0 [fz,tx,l] ([fz,tx,l]+1)=gW c l 0 l:=by rw[StrLaws.occ_eq,d9,Js];rw[100,FD l c (l.length+1) l 0 #[] 0 J (ba _) (ba _) J (b7 _)]
theorem Qg(l:[ak])(i j:Nat):RG (tx l) i j=tx ((l.take j).drop i):=by unfold RG tx;congr 1;rw[←Array.toList_inj];simp[List.extract_eq_take_drop,List.drop_take]
theorem FF(l:[ak])(c:Nat):∀(r:[ak])(k L:Nat),(l.drop k=r→L≤k→k≤l.length→[zZ,((L::(gW c l k r).map (·+1)).zip (gW c l k r++[l.length])),RG (tx l) x.1 x.2]=(bG c r ((l.take k).drop L)).map tx)
 |[],k,L,u,G,C=>by
  have q:k=l.length:=by rw[35,[Ca,u],lQ];rw[77];omega
  subst q;simp[gW,bG,Qg]
 |d::r,k,L,u,G,C=>by
  have K:=[Ca,u];rw[lQ,dP]at K;have a:l[k]?=Z d:=by have:(l.drop k)[0]?=Z d:=[fy,u];rw[I_]at this;exact this
  have b:l.drop (k+1)=r:=by have:(l.drop k).drop 1=r:=[fy,u];rw[Jk]at this;exact this
  by_cases V:d=c
  ·subst V;have T:=FF l d r (k+1) (k+1) b (ba _) [ac];have M:(l.take (k+1)).drop (k+1)=[]:=by rw[List.drop_eq_nil_iff];rw[17]
   rw[M]at T;simp only[gW,bG,il,bO,nW,mM];rw[Qg,←T]
  ·have T:=FF l c r (k+1) L b [ac] [ac];have M:(l.take (k+1)).drop L=(l.take k).drop L++[d]:=by rw[fH,a,List.drop_append_of_le_length (by rw[17])];rfl
   rw[M]at T;simp only[gW,bG,aD V];exact T
theorem Qh(l:[ak])(c:Nat):Iy (tx l) (gW c l 0 l) 1=[nr,c].map tx:=by have:=FF l c l 0 0 J (ba _) (b7 _);unfold Iy;rw[d9];simpa using this
theorem aay(c:Nat)(h:c<256):sR [ro]=1:=by unfold sR;rw[aI [bn,h]]
theorem aaz(x:Str):1≤sR x:=by
 unfold sR;split;·omega
 ·split<;>omega
theorem Qi(c:Nat):∀(r w:[ak])(l:[ak])(k:Nat),gW c l k r=[]→bG c r w=[w++r]
 |[],w,_,_,_=>[bn,bG]
 |d::r,w,l,k,h=>by
  unfold gW at h;by_cases V:d=c;·rw[43,aI V]
  ·rw[aD V]at h;have:=Qi c r (w++[d]) l (k+1) h;simp only[bG,aD V];rw[16,this]
theorem AV(l:[ak])(c:Nat)(V:c<256):oj (tx l) [ro]=[nr,c].map tx:=by
 unfold oj;rw[FE];have C:[Oa,sR (tx l)<sR [ro]]:=by rw[aay c V];rw[51,aaz (tx l),[lu]]
 rw[C,yN];have g:[b9,[EJ],1]:=J;rw[g];by_cases h0:[fz,tx,l]<1;·rw[bK h0,aI J];rw[d9]at h0;rw[59,l=[],[Vp,[ac]]];simp[bG]
 ·rw[bW h0,[CO]];by_cases he:(gW c l 0 l).isEmpty=true;·rw[aI he];have:=Qi c l [] l 0 (List.isEmpty_iff.mp he);rw[16,this]
  ·rw[aD he,Qh]
theorem FG(c:Nat)(l:[ak]):∀(r:[ak])(k:Nat),[b9,gW c l k r,r.count c]
 |[],_=>J
 |d::r,k=>by
  unfold gW;rw[i8];by_cases h:d=c;·subst h;simp[FG d l r (k+1)]
  ·have:[aX,d==c]:=by rw[60]
   rw[aD h,this,FG c l r (k+1)];simp
theorem AW(l:[ak])(c:Nat):Txt.count (tx l) [ro]=[NT,c]:=by unfold Txt.count;rw[FE,FG]
def nJ(c d:Nat)(x:Nat):Nat:=[pH,x,c,d,x]
theorem vk(c:Nat):∀(r w:[ak]),bG c r w≠[]
 |[],w=>[bn,bG]
 |d::r,w=>by
  unfold bG;split;·simp
  ·exact vk c r _
theorem FH(c d:Nat):∀(r w:[ak]),JG (tx [d]) ((bG c r w).map tx)=tx (w++r.map (nJ c d))
 |[],w=>by simp[bG,JG]
 |x::r,w=>by
  unfold bG;by_cases h:x=c
  ·rw[aI h,bO];have T:=FH c d r [];obtain⟨y,G,e⟩:∃y G,(bG c r []).map tx=y::G:=by cases q:bG c r []with|nil=>rw[8,q,vk c r []]|cons a b=>rw[36,_,J]
   rw[e]at T⊢;show tx w++tx [d]++JG (tx [d]) (y::G)=_;rw[T,vh,vh];simp[nJ,h]
  ·rw[aD h,FH c d r (w++[x])];simp[nJ,h]
theorem Qj(c d:Nat)(l:[ak]):∀(r:[ak])(k:Nat),gW c l k r=[]→r.map (nJ c d)=r
 |[],_,_=>J
 |x::r,k,h=>by
  unfold gW at h;by_cases V:x=c;·rw[43,aI V]
  ·rw[aD V]at h;rw[bO,Qj c d l r (k+1) h];simp[nJ,V]
theorem replace_one(l:[ak])(c d:Nat):SX (tx l) [ro] ⟨#[d]⟩=tx (l.map (nJ c d)):=by
 unfold SX;rw[FE];have g:[aX,[EJ].length==0&&(⟨#[d]⟩:Str).length==0]:=J;rw[g,yN];by_cases he:(gW c l 0 l).isEmpty=true;·rw[aI he,Qj c d l l 0 (List.isEmpty_iff.mp he)]
 ·rw[aD he];have r:[b9,[EJ],1]:=J;rw[r,Qh,StrLaws.glued_eq_join];rw[50,FH c d l [],pf]
end VP
end
section
namespace VP
open PySem L2
theorem aaA{x:Str}{g:TG}{B:TT}{k:TE}{U:[ak]}{w:St}{d:Hp}{D:ab}{Q:[Cu]}(P:[wz,Hp])(I:P 0 [ni,d,D])(G:∀i c H,x.cps[i]?=Z c→P i H→g [EH] [zL] H λ j M=>[KF,j,k,P (i+1) [Ly],P (i+1) L])(f:∀H,P x.cps.size H→Q H):[XX,d,pX x,∃l:[Cu],(∀a,l a→[Xo,a])∧∀y a,(pX x).j1 i H y a→g y [zL] a λ j M=>[KF,j,k,l [Ly],l L]]:=by rw[223,x.cps.size];rw[357,[rq,s,P (i+1),λ a E=>[QN,x.cps.size],λ y a h=>?_],h,G i c a V p];·rw[45,i=x.cps.size,[ac]];rw[46,⟨ba _,f H p⟩]
theorem inb(K:aF){X:Cx}(h:X.K=K:=by rfl):dz X (f9 .In) (Dq K false):=by subst h;exact Dr
section
variable{X:Cx}{o:bc}{to:TE}
theorem aaC{R l y z:Str}{u v:Tok}{O j A W:Pos}(E:PE X o to)(m:Gl X R)(p:X.mg R=Z (.str y u))(T:Gl X l)(q:X.mg l=Z (.str z v))(i:u≠0)(f:v≠0)(K:u≠v)(L:[aX,y==z])(G:[pc,[Expr.Name R O,Expr.Name l j]]=[[wC,.Name R O],[wC,.Name l j]]:=by rfl)(C:[Es,o,"replace"]:=by rfl)(D:(A.endLine==W.line)=true:=by rfl)(d1:[QH,R]:=by decide)(d2:[QH,l]:=by decide):(PE X (.Call (.Attribute o "replace" A) [.Name R O,.Name l j] [] W) (λ b H Q=>to b H λ x c=>∃a,x=.str a∧a.length+(a.length+1)*z.length≤16777216∧Q (.str (SX a y z)) c)):=by intro B s b H Q I h;refine PySem.Call_method2 C G D (bj (E B s b H _ I h) λ w Y⟨x,c,r,d,n⟩=>?_);obtain⟨a,rfl,M,n⟩:=n;obtain⟨t,rfl⟩:=d;rw[3,[abx,F.slot_str_replace,F.type_str_replace],rf r m p (vx (rf r T q (Bv ?_) d2)) d1];exact PySem.SC.replace i f K L M λ g k=>⟨.str _,c,r.tok k,[eJ,g],n⟩
end
section
variable{P:aY}{w:aU}{K:aF}{mg:[a_]}{base:aE}
structure oY(mg:[a_]):Prop where
 ex:∃u v:Tok,[cj,mg "LONG"=Z (.str "A" u),mg "SHORT"=Z (.str "a" v),u≠0,v≠0,u≠v]
theorem oY.long{mg:[a_]}(C:oY mg):Cs mg "LONG" "A":=let⟨u,_,h,_⟩:=C.ex;⟨_,h,u,J⟩
theorem oY.short{mg:[a_]}(C:oY mg):Cs mg "SHORT" "a":=let⟨_,v,_,h,_⟩:=C.ex;⟨_,h,v,J⟩
def gm(c:Nat):Bool:=([aK,c=97]||[aK,c=65])
def FI:[bd]:=["sounds","sound"]
theorem Qk:bQ FI [wk] (aZ uI):=[bV]
def mD(l:[ak]):[aw]:=l.map λ c=>[oC,[c]]
def FJ:Sp:=λ U H Q _=>[W2,∀a m,ah H m→bD H m→[Ae,m a=Z (.aj (mD [Ek])),m]]
theorem aaD(c:Nat):i2 [lC,[c]] [.str "a",.str "A"]=gm c:=by unfold i2 gm;rw[Qc,str_A];simp only[k8,SI,Fz,yN];congr 1<;>(rw[dH];rw[17])
theorem aaE{f:ab}{v:bq}(I:[iW,"vowels_of",uI,v,[wk]])(C:oY mg):aA P w K mg base aG 1 f v [wk] FJ:=by
 have nd:FI.Nodup:=Qk.nd;obtain⟨R,g,d⟩:=C.long;obtain⟨N,r,S⟩:=C.short;rw[112,Qk,[Fj]];·rw[140]
 obtain⟨l,rfl,n,k⟩:=h;rw[48,[oH,[Oo,"sound",1,My (pv 0),[Nz,FI,uI,"sound",1],[wf,1],wF (cm (inb K) (pv 1) [NH,b8 J r S,b8 J g d] J),pv 1]],[jp,_,J,tx l,λ D p=>aaA (λ i m=>ah H m∧bD H m∧m D=Z (.aj (mD ((l.take i).filter gm)))) ⟨[oE,p],[Ol],aw⟩ ?_ ?_]]
 ·rintro i c m a⟨Y,e,z⟩;have a:l[i]?=Z c:=by have:(tx l).cps[i]?=l[i]?:=[bn,tx];rw[23,this,a]
  have O:=[d0,a];refine[md,⟨_,J,[Dr],λ t F=>?_⟩];have b:ah m (ag m t [UE]):=[cE,m,F];have o:bD H (ag m t [UE]):=e.ag J;have B:(ag m t [UE]) t=Z [UE]:=aw;generalize ag m t [UE]=M at b o B⊢;rw[69,[Nf,t,_,J,.inr (bM.of B)],i2 [oC,[c]] [.str "a",.str "A"]];rw[aaD];have W:=b _ _ z;have y:((l.take (i+1)).filter gm)=((l.take i).filter gm)++[Mm,gm c,c,[]]:=by rw[fH,a,I0];cases q:gm c<;>simp[q]
  rw[y];cases q:gm c with
   |true=>
    rw[33,⟨_,J,_,W,?_,(ah.aT [rE,b] p),o.ag J,?_⟩];·unfold mD;rw[aC];rw[35,nO gm (l.take i),jJ];exact[ze,eR,_,1000]
    ·rw[aw];unfold mD;rw[cH];rfl
   |false=>refine a_ [pv,[rE,b],o];simpa using W
 ·rintro m⟨Y,e,z⟩;have x:(tx l).cps.size=l.length:=[bn,tx];rw[x,fZ]at z;exact k D m Y e z
def dW(l:[ak]):List [ak]:=bG 97 (l.map (nJ 65 97)) []
def FK:Sp:=λ U H Q _=>[W2,∀a,[Ae,H a=none,ag H a (.aj [EK])]]
theorem aaF{f:ab}{b:bq}(I:[iW,[Tw],xE,b,[wk]])(C:oY mg):aA P w K mg base aG 1 f b [wk] FK:=by
 obtain⟨u,v,F,d,o,y,e⟩:=C.ex;rw[112,XX,λ j A outer s H U Q E a h=>?_];·rw[140]
 obtain⟨l,rfl,c,k⟩:=h;rw[48,[oH,Ae (aaC (pv 0) J F J d o y e [bB]) (b8 (v:=.str "a") J d (show bw (.str "a") (.str "a" v)from[eJ,v]))],⟨_,J,tx l,J,?_,[pM],_,_,J,J,J,?_,[qp]⟩];·rw[d9];rw[52,[b9,("a":Str),1],[bB]];omega
 ·rw[[AV,"A",#[65]],[AV,"a",#[97]],replace_one,d9,aC];exact[aaC]
 ·rw[[AV,"A",#[65]],[AV,"a",#[97]],replace_one,AV _ 97 [bj],cP];exact k p R
end
end VP
end
section
namespace VP
open PySem L2
def jE(l:[ak]):Nat:=[QJ,[Ve]=0,0,[Ve]=1,1,match l with|[a,b]=>[YQ]|_=>3]
def kO(v:Nat)(l:[ak]):Nat:=[pH,v,65,3,jE l]
theorem aaG(c:Nat):([aK,c∈[Km,"bcdfgpt"]]=qI c):=by rw[52,[Km,"bcdfgpt"]=[98,99,100,102,103,112,116],[bB]];unfold qI;rw[dH];simp
theorem aaH(c:Nat):([aK,c∈[Km,"lr"]]=qH c):=by rw[52,[Km,"lr"]=[108,114],[bB]];unfold qH;rw[dH];simp
section
variable{P:aY}{w:aU}{K:aF}{mg:[a_]}{base:aE}
structure AX(mg:[a_]):Prop where
 no:Cn mg "NO_CONSONANT" 0
 one:Cn mg "ONE_CONSONANT" 1
 loose:Cn mg "LOOSE_PAIR" 2
 FL:Cn mg "HEAVY" 3
def AY:Sp:=λ U H Q _=>∃l:[ak],U=[[lC,l]]∧[qe,1000]∧Q (nV (jE l)) H
theorem Ql{f:ab}{v:bq}(D:[iW,[PB],uJ,v,[[zK]]])(B:el mg)(C:AX mg):aA P w K mg base aG 1 f v [[zK]] AY:=by
 have nd:=NQ.nd;obtain⟨F,I,G⟩:=C.no;obtain⟨R,g,j⟩:=C.one;obtain⟨N,r,S⟩:=C.loose;obtain⟨L,c,x⟩:=C.FL;rw[66,D.fn.ok,NQ,[Vi]];·rw[140]
 obtain⟨l,rfl,p,k⟩:=h;rw[24,_,[we,1,cj gj (cj gj [xz,0] [V9]) [V9],[Om,pv 1,bu,b8 J I G],aK [Om,pv 1,bu,b8 J g j] (aK [Bd,PW.pt (lu [wW,e_,[xz,0],bu] (lu (cm wW (zP (pv 0) bu [B3]) fy J) (oB (cm wW (zP (pv 0) bu [B3]) fy J)))),b8 J r S] [oH,b8 J c x])]];have t:[ck,tx l,aQ]∧l.length=[fz,tx,l]:=[UD,[PK,p]];refine⟨_,J,_,l.length,J,t,_,J,[pM],_,_,J,J,_,_,J,J,_,J,[pM],_,_,J,J,_,_,J,J,?_⟩;rw[[AV,"x",#[120]],[AV,"z",#[122]],AW,AW];have en:[aN,l.length]+[NT,120]+[NT,122]=[aN,[Ve]]:=[ac];show iX 1 (V.int ([aN,l.length]+[NT,120]+[NT,122])) _ _ _;rw[en];have q:=k;unfold jE at q;generalize hn:[Ve]=n at*;rw[119,[Du],n,0];rw[44,n,0];·rw[bK z];rw[62,aI z,aV q]
 rw[bW z];rw[aD z]at q;rw[119,a_ [Du],n,1];by_cases d:n=1;·rw[bK d];rw[62,aI d,aV q]
 rw[bW d];rw[aD d]at q;rw[119,a_ ⟨_,J,_,l.length,J,t,J,_,J,?_⟩,l.length,2];by_cases X:l.length=2
 ·rw[bK X];obtain⟨a,b,rfl⟩:∃a b,l=[a,b]:=by match l,X with|[a,b],_=>rw[1,a,b,J]
  have q:Q (nV [YQ]) H:=q;rw[42,aV ⟨_,J,tx [a,b],0,a,J,J,[bj],[bj],by rw[d9];show[ar,0]<2;decide,J,a,_,J,J,_,J,?_⟩,aaG];cases m:qI a with
   |true=>rw[42,aV ⟨_,J,tx [a,b],1,b,J,J,[bj],[bj],by rw[d9];show[yx]<2;decide,J,b,_,J,J,_,J,?_⟩,aaH];rw[m]at q;cases y:qH b with|true=>rw[62,y,aV q]|false=>rw[62,y,a_ q]
   |false=>rw[62,m,a_ (a_ q)]
 ·rw[bW X];have e:(match l with|[a,b]=>[YQ]|_=>3)=3:=by match l,X with|[],_=>rfl|[_],_=>rfl|[_,_],h=>rw[8,J,h]|_::_::_::_,_=>rfl
  rw[62,e,a_ (a_ q)]
def FN:Sp:=λ U H Q _=>∃(v:Nat)(l:[ak]),U=[[lC,[v]],[lC,l]]∧[qe,1000]∧Q (nV (kO v l)) H
theorem aaI{f m:ab}{b i:bq}(D:[iW,[Tn],xG,b,[FE]])(B:el mg)(C:AX mg)(n:oY mg)(F:[eY,[PB],uJ,m,i,[[zK]]]):aA P w K mg base aG 2 f b [FE] FN:=by
 have W:aA P w K mg base aG 1 m i [[zK]] AY:=Ql F B C;obtain⟨t,a,e⟩:=C.FL;obtain⟨R,g,c⟩:=n.long;rw[66,D.fn.ok,XZ,[Fj]];·obtain⟨v,l,rfl,_⟩:=h;rfl
 obtain⟨v,l,rfl,d,k⟩:=h;rw[22,[oH,wh [vZ,e_,0,b8 J g c] (b8 J a e) [E4,W,u,F.mg,F.fn.kp,F.b,1]]];rw[38,[Du],[LL,⟨#[v]⟩,"A"]];rw[[AV,"A",#[65]],Fx];unfold kO at k;by_cases q:v=65;·rw[bK q];rw[82,aI q,aV k]
 ·rw[bW q];rw[82,aD q,a_ [zh,l,d,k]]
theorem aaJ(l:[ak]):pZ (.tup (aJ l))=true:=List.all_eq_true.mpr λ x A=>by obtain⟨n,_,rfl⟩:=[bE,A];rfl
def FP:[bd]:=[[Az],"inner","weight"]
theorem Qm:bQ FP [[Az]] (aZ uL):=[bV]
def Qn:V→V|.int z=>.int [FQ,[yx]>z,z]|_=>.bh
def AZ(K:aF):Sp:=λ U H Q _=>∃(a:ab)(o:[ak]),U=[sG]∧ax K H a (aJ o)∧[lm,o.length]∧∀t m,ah H m→[UT,t,.tup (aJ (Vs.h7 o))]
theorem aaK(N:[aw]):(dB N (Z (-1)) none)=N.drop (N.length-1):=by unfold dB;rw[12,HT.wu,E9,sO [ap,lQ,ba _]]
theorem aaL{f:ab}{v:bq}(D0:[iW,"settled",uL,v,[[Az]]])(B:el mg)(C:AX mg):aA P w K mg base aG 1 f v [[Az]] (AZ K):=by
 have nd:FP.Nodup:=Qm.nd;obtain⟨u1,g,r1⟩:=C.one;refine[QG,D0.fn.ok,Qm,[Vb]];·obtain⟨a,o,rfl,_⟩:=h;rfl
 obtain⟨a,o,rfl,ha,r,k⟩:=h;rw[48,[DB,ug (i:=1) (own:=[("weight",2)]) J nd J J [Nr] (dj (oH wz (pv 0) pQ (nh (ro rp bu)))) [Nz,FP,uL,"weight",2] [KS,2] [Ox] (λ _ _ _ _ _=>cX (Vb J) (by rfl) B.max Rz [uj,2,b8 J g r1]),[KJ,ry,L1,B.tuple,PyProof.Rows.boot_tuple,cj wC (pv 1) (oH wz (pv 0) (nh (ro rp bu)) pQ)]],⟨_,J,_,J,_,J,a,_,J,ha,[qp]⟩];have e0:[DY,o]=aJ o.dropLast:=by rw[AE,←Bx]
 show∃b,(V.ref p)=(V.ref b)∧_;rw[202,ag H p (.aj [DY,o]),R];have I:(ag H p (.aj [DY,o])) p=Z (.aj (aJ o.dropLast)):=[ap,e0,aw];refine⟨p,J,[pD,I],?_⟩;have F:[ck,aJ o.dropLast,1000]:=by rw[aC,IQ];omega
 generalize hH1:ag H p (.aj [DY,o])=H1 at Y O I;intro D y;refine[CD,Qn,ax.of I,y,[oM,F],λ x L Q1 Q2 d q l q2=>?_];·rw[185,d];rw[132,L,⟨_,J,_,_,J,l J⟩]
 rw[[CB]];have e1:(aJ o.dropLast).map Qn=aJ [Me]:=by show _=qK nV [Me];rw[117,λ n _=>?_];show(V.int [FQ,[yx]>[cY],[cY]])=[Dv,max n 1];congr 1;split<;>omega
 rw[e1];have m:ah H1 [aa3]:=[cE,H1,y];have u:bD H [aa3]:=O.ag J;have W:(ag H1 D (.aj (aJ [Me]))) D=Z (.aj (aJ [Me])):=aw;generalize[aa3]=M at m u W⊢;have S:ax K M a (aJ o):=[rE,m].seq ha;refine⟨_,J,_,J,_,J,_,J,a,_,J,S,λ b e=>?_⟩;have e2:[Uo]=aJ [Wz]:=by rw[aaK,aC,←SD]
 have q:ah M (ag M b (.aj [Uo])):=[cE,M,e];have G:bD H (ag M b (.aj [Uo])):=u.ag J;have T:(ag M b (.aj [Uo])) b=Z (.aj (aJ [Wz])):=[ap,e2,aw];generalize ag M b (.aj [Uo])=L at q G T⊢;refine⟨D,b,_,_,J,J,q _ _ W,T,?_,λ c j=>?_⟩;·rw[aC,aC,aC,IQ,lQ];exact[ze,bf,_,2000]
 have e3:aJ [Me]++aJ [Wz]=aJ (Vs.h7 o):=by unfold Vs.h7;rw[←cH]
 rw[e3];have z:ah L (ag L c (.aj (aJ (Vs.h7 o)))):=[cE,L,j];have N:bD H (ag L c (.aj (aJ (Vs.h7 o)))):=G.ag J;have X:(ag L c (.aj (aJ (Vs.h7 o)))) c=Z (.aj (aJ (Vs.h7 o))):=aw;generalize ag L c (.aj (aJ (Vs.h7 o)))=H4 at z N X⊢;refine[ff,c,_,[ut,ax.of X,Pw _,λ t ht=>k t _ (([rE,m].trans q).trans (z.trans [cE,H4,ht])) (N.ag (aaJ _)) aw]]
end
end VP
end
section
namespace VP
open PySem L2
theorem aaM(e:aF){X:Cx}{x y:Str}{b t p:Pos}{k:Nat}(i j:Nat)(V:[p_])(v:X.N.Nodup)(O:X.N[i]?=Z x)(U:X.N[j]?=Z y)(A:[D_,Loc])(a:Loc X.env.scope y)(d:[Qx])(f:X.fn y=true∨([J5,y]=[wn]))(c:X.K=e:=by rfl):PG X (.Tuple [[rD,b],.Name y t] k p) (Lj e 2 (CT (iX i) (CT (iX j) Li))):=by subst c;exact oD V (gM (b9 v O A d) (gM (b9 v U a f) oC))
theorem aaN{K:aF}{a b:ab}{xs ys:[aw]}{g:TG}{B:TT}{u:TE}{U:[ak]}{w:St}{h:Hp}{D:ab}{Q:[Cu]}(P:[wz,Hp])(I:P 0 [ni,h,D])(X:∀i H,P i H→ax K H a xs∧ax K H b ys)(f:∀y∈ys,[aX,dD y])(G:∀i x y T H,[cI,xs[i]?=Z x,ys[i]?=Z y,H T=none,P i H,g (.ref T) [zL] [j0,H,T,[x,y]] λ q M=>[KF,q,u,P (i+1) [Ly],P (i+1) L]])(j:∀H,P [QX] H→Q H):[XX,h,wU K a b,∃v:[Cu],[aet,v,wU K a b,λ q M=>[KF,q,u,v [Ly],v L]]]:=by
 rw[223,[QX]];obtain⟨n,o⟩:=X i H p;by_cases s:i<[QX];·have c:[Us]:=[ac];have r:i<ys.length:=[ac];refine[rq,⟨xs,ys,xs[i],ys[i],n,o,bX c,bX r,f _ (BC r)⟩,P (i+1),λ d E=>[QN,[QX]],λ z d l=>?_];obtain⟨T,x,y,rfl,Y,rfl,A,k⟩:=l;exact G i x y T H (A xs n) (k ys o) Y p
 ·rw[45,i=[QX],[ac]];rw[46,⟨⟨xs,ys,n,o,[ac]⟩,j H p⟩]
theorem su(c:Nat):∀(r w x:[ak]),x∈bG c r w→x.length≤w.length+r.length
 |[],w,x,h=>by simp[bG]at h;subst h;simp
 |d::r,w,x,h=>by
  unfold bG at h;split at h
  ·rw[130];·simp
   ·have:=su c r [] x h;simp at this⊢;omega
  ·have:=su c r (w++[d]) x h;simp at this⊢;omega
def fG(l:[ak]):[ak]:=[aa1,[Ek],(dW l).drop 1]
def gA(l:[ak]):Nat:=jE ((dW l).headD [])
def sv(l:[ak]):Nat:=[FQ,[Ek]≠[]∧(dW l).headD []=[],2]
def qm(l:[ak]):Bool:=[ZP,[Ek],dW l]
def kf(l:[ak]):Vs.Shape:=(sv l,if qm l then[(1,gA l,Vs.h7 [Gq]),(2,gA l,Vs.h7 (fG l))]else[(0,gA l,Vs.h7 (fG l))])
theorem Qo(l:[ak]):dW l≠[]:=vk 97 _ []
theorem Qp{l x:[ak]}(h:x∈dW l):[CZ,x.length]:=by rw[100,su 97 _ [] x h]
theorem FQ:∀(p:Nat)(W:[ak]),[ck,d_ p W,W.length]
 |_,[]=>[bn,d_]
 |p,[c]=>[ap,d_,FA p c]
 |p,c::d::r=>by
  rw[d_];split;·have:=FQ d r;rw[17]
  ·have g:=FA p c;have a:=FQ c (d::r);simp at a⊢;omega
theorem aaO(x:[ak]):[zW,[LL,tx x,""],x=[]]:=by
 rw[AU,dH,dw,dw];rw[5];·intro h;injection h with h;exact AO h
 ·intro h;rw[h]
theorem aaP(x:[ak]):i2 [lC,x] [.str "",.str "m"]=([aK,x=[]]||[aK,x=[109]]):=by
 unfold i2;rw[AU,[db,("m":Str),tx [109],[bB]]];simp only[k8,SI,Fz,yN];have g:∀a:[ak],[zW,a=x,x=a]:=λ a=>by rw[dH,dw,dw];rw[0,Eq.symm,Eq.symm]
 rw[g,g]
section
variable{P:aY}{w:aU}{K:aF}{mg:[a_]}{base:aE}
structure Qq(mg:[a_]):Prop where
 any:Cn mg "ANYHOW" 0
 aaQ:Cn mg "WITH_VOWEL" 1
 out:Cn mg "WITHOUT_VOWEL" 2
def FR:[bd]:=["word","sounds","vowels","clusters","lead",[Az],"begins","passed_over","whole","vowel",[zK]]
theorem Qr:bQ FR [wS] (aZ uK):=[bV]
def FT:Sp:=λ U H Q _=>∃(W:[ak]),U=[[lC,W]]∧W.length≤900∧∀a m,ah H m→bD H m→[Ae,ji m a (kf (d_ 0 W)),m]
theorem aaR{f fSs fV fC fW fVw fSt:ab}{fd fdSs fdV fdC fdW fdVw fdSt:bq}(D0:[iW,"shape_of",uK,fd,[wS]])(B:el mg)(Bg:Qq mg)(D1:[eY,"sounds_of",xC,fSs,fdSs,[wS]])(G1:aA P w K mg base aG 2 fSs fdSs [wS] FC)(D2:[eY,"vowels_of",uI,fV,fdV,[wk]])(G2:aA P w K mg base aG 1 fV fdV [wk] FJ)(D3:[eY,[Tw],xE,fC,fdC,[wk]])(G3:aA P w K mg base aG 1 fC fdC [wk] FK)(D4:[eY,[PB],uJ,fW,fdW,[[zK]]])(G4:aA P w K mg base aG 1 fW fdW [[zK]] AY)(D5:[eY,[Tn],xG,fVw,fdVw,[FE]])(G5:aA P w K mg base aG 2 fVw fdVw [FE] FN)(I:[eY,"settled",uL,fSt,fdSt,[[Az]]])(G6:aA P w K mg base aG 1 fSt fdSt [[Az]] (AZ K)):aA P w K mg base aG 3 f fd [wS] FT:=by
 have nd:FR.Nodup:=Qr.nd;obtain⟨u0,h0,r0⟩:=Bg.any;obtain⟨u1,g,r1⟩:=Bg.aaQ;obtain⟨u2,h2,r2⟩:=Bg.out;rw[57,D0.fn.ok,Qr];·obtain⟨W,rfl,_⟩:=h;rfl
 obtain⟨W,rfl,hlen,k⟩:=h;have F:cy 1 _:=[wu,1,2];rw[22,[JN,1,[aa9,hr,0],2,[E4,G2,F,D2.mg,D2.fn.kp,D2.b,1],[JN,3,[E4,G3,F,D3.mg,D3.fn.kp,D3.b,1],4,dA G4 F J D4.mg D4.fn.kp D4.b .nil bH (ak (fQ ni (pv 3) bu (λ _ _=>J)) aB),aK (ug (i:=5) (own:=[("vowel",9),([zK],10)]) J nd J J [Nr] (Ww (by rfl) B.zip [uj,2,oH wz (pv 3) (nh bu) pQ]) (@eg.mk FR (aZ uK) _ [("vowel",9),([zK],10)] J [bB] [bB] [bB] [bB]) (λ _ _ _ _ _=>aaM K 9 10 J nd J J (aR J) (aR J) (gq J) (gq J)) [Ox] (λ _ _ _ _ _=>[DE,G5,hr,D5.mg,D5.fn.kp,D5.b,pv 9,[jC,10]])) [E5,6,wh (PW.pt (lu (C8 (pv 2) (λ _=>J)) (oB [wW,e_,fQ ni (pv 3) bu (λ _ _=>J),fy]))) (b8 J g r1) (b8 J h2 r2),cI (PW.pt (lu (C8 (pv 2) (λ _=>J)) (oB (cm Dr (fQ ni (pv 3) (ro rp bu) (λ _ _=>J)) [NH,fy,fy] J)))) [E5,7,ff (ak (b8 J g r1) [uj,4,dA G6 F J I.mg I.fn.kp I.b .nil bH (ak (oH wz (pv 5) pQ (nh (ro rp bu))) aB)]),[xQ,8,[aeQ,h2,r2]],[NH,pv 6,ff (ak (pv 7) [jC,8])]] cQ,[NH,pv 6,ff (ak [aeQ,h0,r0] aB)]]]]];generalize hl0:d_ 0 W=l at k;have hll:[qe,900]:=by rw[35,FQ 0 W,hl0];omega
 refine[zh,W,[ac],?_];rw[hl0];rw[3,[zh,l,[ac],λ va H1 s1 p1 hva=>?_],[zh,l,[ac],λ M hca=>?_]];rw[107,H1,M,.aj [EK],hca];have p2:bD H (ag H1 M (.aj [EK])):=p1.ag J;have R:(ag H1 M (.aj [EK])) M=Z (.aj [EK]):=aw;generalize ag H1 M (.aj [EK])=H2 at s2 p2 R⊢;have hva2:=s2 _ _ hva;obtain⟨C,cr,ecl⟩:∃C cr,dW l=C::cr:=by cases e:dW l with|nil=>rw[8,e,Qo l]|cons a b=>rw[1,a,b,J]
 have hc0:C.length≤900:=bf (Qp [ap,ecl,cq]) hll;have uu:[EK][0]?=Z [oC,C]:=[fy,ecl];have elead:gA l=jE C:=by unfold gA;rw[ecl];rfl
 refine⟨_,J,M,_,_,[oC,C],J,J,(ax.of R),[wH,0,uu],C,J,[ac],?_⟩;rw[←elead];refine⟨_,J,_,J,1,J,M,_,J,(ax.of R),λ pb hpb=>?_⟩;have e1:(dB [EK] (Z 1) none)=[KU]:=by have:=Oa [EK] 1;rw[←SD]at this;rw[65]
 rw[e1];have s3:ah H2 (ag H2 pb (.aj [KU])):=[cE,H2,hpb];have p3:bD H (ag H2 pb (.aj [KU])):=p2.ag J;have S:(ag H2 pb (.aj [KU])) pb=Z (.aj [KU]):=aw;generalize ag H2 pb (.aj [KU])=H3 at s3 p3 S⊢;have U:=s3 _ _ hva2;have hca3:=s3 _ _ R;have hwlen:[ck,fG l,900]:=by unfold fG;rw[aC,yI];rw[10,nO gm l]
 refine⟨va,pb,_,_,J,(ax.of U),(ax.of S),λ D hD=>aaN (K:=K) (xs:=mD [Ek]) (ys:=[KU]) (λ j m=>ah H3 m∧bD H m∧m D=Z (.aj (aJ ((fG l).take j)))) ⟨[cE,H3,hD],p3.ag J,aw⟩ (λ j m⟨s',_⟩=>⟨[nh,s',U],[nh,s',S]⟩) (λ y hy=>?_) ?_ ?_⟩;·rw[147,hy];rfl
 ·rintro j x y T m hx hy hT⟨s',p',hD'⟩;obtain⟨v,hv,rfl⟩:∃v,[Ek][j]?=Z v∧x=[oC,[v]]:=by unfold mD at hx;rw[cJ]at hx;cases q:[Ek][j]? with|none=>rw[q]at hx;cases hx|some v=>rw[q]at hx;rw[97,v,hx]
  obtain⟨c,hc,rfl⟩:∃c,((dW l).drop 1)[j]?=Z c∧y=[oC,c]:=by rw[cJ]at hy;cases q:((dW l).drop 1)[j]? with|none=>rw[q]at hy;cases hy|some v=>rw[q]at hy;rw[97,v,hy]
  have hcl:c.length≤900:=bf (Qp (RP (bt hc))) hll;have hw:(fG l)[j]?=Z (kO v c):=by unfold fG;have hz:([Ek].zip ((dW l).drop 1))[j]?=Z (v,c):=[ap,Rx,⟨hv,hc⟩];rw[cJ,hz];rfl
  have sT:ah m (ag m T [NG,tx [v],tx c]):=[cE,m,hT];have hD2:=sT _ _ hD';refine⟨T,_,J,bM.of aw,J,_,_,J,_,_,J,J,J,?_⟩;refine⟨_,J,_,J,v,c,J,[ac],_,hD2,?_,?_,?_,?_⟩;·rw[12,aC,jJ,[ze,eR,_,900]]
  rw[2,ah.aT (s'.trans sT) hD,(p'.ag J).ag J];·rw[aw,fH,hw];show Z (HO.aj (aJ ((fG l).take j)++aJ [kO v c]))=_;rw[←cH];rfl
 ·rintro d⟨s5,p5,N⟩;have emin:min [fz,mD,[Ek]] [KU].length=[fz,fG,l]:=by unfold mD fG;rw[aC,aC,aC,yI]
  rw[emin,fZ]at N;have hva5:=s5 _ _ U;have hca5:=s5 _ _ hca3;have sH5:ah H d:=(([y9,s2].trans s3).trans s5);generalize hvw:[Ek]=vw at*;have emp:∀{xs:[ak]},(!(mD xs).isEmpty)=[aK,xs≠[]]:=λ{xs}=>by cases xs<;>rfl
  have hbeg:∀(Q':VK),Q' (nV (sv l)) d→Lf (Lc (λ σ H Q=>cv 2 σ H λ x m=>∃k,C7 K x m k∧Q k m) (uc (h9 Lr (h9 (LY K) (cv 3) (tC (.int 0))) (tC (.str ""))))) (tC (nV 1)) (tC (nV 2)) [abp,none] d Q':=λ Q' u=>by
   rw[69,[Z8,hva5],!(mD vw).isEmpty];rw[emp];unfold sv at u;rw[hvw,ecl]at u;by_cases g:vw=[];·rw[bW (by rw[72])];rw[aD (λ z=>z.1 g)]at u;exact a_ (a_ u)
   ·rw[bK g];rw[38,aV ⟨_,J,M,_,_,[oC,C],J,J,(ax.of hca5),[wH,0,uu],J,_,J,?_⟩,[LL,tx C,""]];rw[aaO];have hh:(C::cr).headD []=C:=J;rw[hh]at u;by_cases h2:C=[];·rw[bK h2];rw[aI ⟨g,h2⟩]at u;exact aV u
    ·rw[bW h2];rw[aD (λ z=>h2 z.2)]at u;exact a_ u
  refine hbeg _ ?_;have eel:qm l=[ZP,vw,dW l]:=by unfold qm;rw[hvw]
  have one:∀(p:Hp),(ah d p→bD H p→qm l=false→rj (ng (dc (cv 6) (dc (ng (dc (ng (dc (tC (nV 0)) (dc (cv 4) (dc (LI (AZ K) [] E0 (dc (cv 5) gw)) gw)))) gw)) gw))) {nx:=λ x m=>Q V.bh m,rt:=Q} [abp,Z (nV (sv l))] p):=λ p s6 p6 he=>by refine⟨_,J,_,J,_,J,D,fG l,J,[nh,s6,N],[ac],λ t H7 s7 p7 ht=>?_⟩;have p7':bD H H7:=p6.trans p7 s7;refine[JQ,3,λ q hq=>[JQ,1,λ r hr'=>[JQ,2,[Kv]]]];have sq:ah H7 (ag H7 q [A9,0,t]):=[cE,H7,hq];have sr:=ah.aT (o:=.tup [gt,q]) [zA,ag H7 q [A9,0,t]] hr';have sa:=[adb,ag H7 q [A9,0,t],[gt,q]];refine k a _ (((sH5.trans s6).trans s7).trans ((sq.trans sr).trans sa)) (((p7'.ag J).ag J).ag J) ?_;unfold kf;rw[4,he,⟨r,[.ref q],aw,sa _ _ aw,[o0,[hJ,q,t,sa _ _ (sr _ _ aw),sa _ _ (sr _ _ (sq _ _ ht))]]⟩]
  rw[69,[Z8,hva5],!(mD vw).isEmpty];rw[emp];by_cases g:vw=[];rw[11,bW (by rw[72]),a_ (a_ (one d [zA,d] p5 (by rw[eel];simp[g])))];rw[bK g];obtain⟨ci,cz,ecz⟩:=Vs.qU (Qo l);have elast:((dW l).getLast?=Z cz):=by rw[ecz,RS]
  rw[33,⟨_,J,_,J,M,_,_,[oC,cz],J,J,(ax.of hca5),?_,[Dr],[Nl]⟩];·show kB [EK] (-1)=Z [oC,cz];rw[12,ecz,cH,Dl _ _]
  have s6:ah d (ag d t [NG,"","m"]):=[cE,d,ht];have p6:bD H (ag d t [NG,"","m"]):=p5.ag J;have ht6:(ag d t [NG,"","m"]) t=Z [NG,"","m"]:=aw;generalize ag d t [NG,"","m"]=p at s6 p6 ht6⊢;rw[69,[Nf,t,_,J,.inr (bM.of ht6)],i2 [oC,cz] [.str "",.str "m"]];rw[aaP];have eel2:qm l=([aK,cz=[]]||[aK,cz=[109]]):=by rw[eel,elast,bK g];simp
  rw[←eel2];cases he:qm l with
   |false=>exact a_ (one p s6 p6 he)
   |true=>
    rw[33,⟨_,J,_,J,_,J,_,J,D,_,J,[nh,s6,N],λ b hb=>?_⟩];have e2:[DY,fG l]=aJ [Gq]:=by rw[AE,←Bx]
    rw[e2];have s7:ah p (ag p b (.aj (aJ [Gq]))):=[cE,p,hb];have p7:bD H (ag p b (.aj (aJ [Gq]))):=p6.ag J;have hb7:(ag p b (.aj (aJ [Gq]))) b=Z (.aj (aJ [Gq])):=aw;generalize ag p b (.aj (aJ [Gq]))=H7 at s7 p7 hb7⊢;refine⟨b,[Gq],J,(ax.of hb7),[e9,IQ],λ t1 H8 s8 p8 ht1=>[JQ,3,λ n hq1=>?_]⟩;have p8':bD H H8:=p7.trans p8 s8;have s9:ah H8 (ag H8 n [A9,1,t1]):=[cE,H8,hq1];have p9:bD H (ag H8 n [A9,1,t1]):=p8'.ag J;have hq19:(ag H8 n [A9,1,t1]) n=Z [A9,1,t1]:=aw;generalize ag H8 n [A9,1,t1]=H9 at s9 p9 hq19⊢;have sD9:ah d H9:=((s6.trans s7).trans (s8.trans s9));refine⟨_,J,_,J,D,fG l,J,[nh,sD9,N],[ac],λ t2 L s10 p10 ht2=>[JQ,3,λ X hq2=>?_]⟩;have p10':bD H L:=p9.trans p10 s10;have O:ah L (ag L X [A9,2,t2]):=[cE,L,hq2];have p11:bD H (ag L X [A9,2,t2]):=p10'.ag J;have Y:(ag L X [A9,2,t2]) X=Z [A9,2,t2]:=aw;generalize ag L X [A9,2,t2]=G at O p11 Y⊢;refine⟨_,J,_,J,_,J,[Dr],λ r hr'=>[JQ,2,[Kv]]⟩;have sr:ah G [j0,G,r,[(V.ref n),(V.ref X)]]:=[cE,G,hr'];have sa:=[adb,G,[(V.ref n),(V.ref X)]];have sf:=sr.trans sa;refine k a _ ((sH5.trans sD9).trans ((s10.trans O).trans sf)) ((p11.ag J).ag J) ?_;unfold kf;rw[4,he,⟨r,[Fx,n,X],aw,sa _ _ aw,[zg,[hJ,n,t1,sf _ _ (O _ _ (s10 _ _ hq19)),sf _ _ (O _ _ (s10 _ _ (s9 _ _ ht1)))],[hJ,X,t2,sf _ _ Y,sf _ _ (O _ _ ht2)]]⟩]
end
end VP
end
section
namespace VP
open PySem L2
theorem vl{X:Cx}{E:XK}:oG (dt X.prog X.w) (X.iu λ e d=>XS X E e d) E:=λ B w H s e d I c=>XS.callee (X:=X) I.lx c
def yp:[ak]:=[97,98,99,100,101,102,103,104,105,106,107,108,109,110,111,112,113,114,115,116,117,118,119,120,121,122,65,69,73,79,85,89]
theorem aaS:("abcdefghijklmnopqrstuvwxyzAEIOUY":Str)=tx yp:=[bB]
theorem FU(c:Nat):c∈yp↔Kgz1.isLetter c=true:=by unfold yp Kgz1.isLetter k7;rw[17]
def vm(l:[ak]):Prop:=[Io,l,yp]∧[CZ,1]∧[qe,23]
section
variable{P:aY}{w:aU}{K:aF}{mg:[a_]}{base:aE}
structure FV(mg:[a_]):Prop where
 aaT:Cs mg "LETTERS" "abcdefghijklmnopqrstuvwxyzAEIOUY"
 aaU:Cn mg "MOST_LETTERS" 23
 aaV:Cn mg "MOST_STOCK" 64
 aaW:Cn mg "MOST_IN_ROW" 12
def FW(K:aF)(B:ab):Sp:=λ U H Q E=>∃(a:ab)(k:[ak]),[IO,U=[sG],a,aJ k,k.length≤aQ,vm k→[J_,Q [lC,k] m],¬vm k→[J_,E (.ref B) none m]]
theorem aaX{f m c:ab}{v t:bq}(D:[iW,"read_word",xB,v,[xL]])(B:el mg)(C:FV mg)(l:[Vy,c])(q:[eY,"text_of",qa,m,t,[DW]]):aA P w K mg base [gL] 2 f v [xL] (FW K c):=by
 have nd:=NN.nd;have n:aA P w K mg base aG 1 m t [DW] (AS K):=Qa q B;obtain⟨R,g,d⟩:=C.aaT;obtain⟨N,r,S⟩:=C.aaU;rw[aaS]at d;rw[66,D.fn.p0,NN,[YX]];·obtain⟨a,k,rfl,_⟩:=h;rfl
 obtain⟨a,k,rfl,ha,e,o,p⟩:=h;rw[48,[Dz,1,[DE,n,u,q.mg,q.fn.kp,q.b,pv 0,ak (b8 J g d) aB],[JW,[aeO,b8 J r S],l,G]],⟨_,J,a,k,yp,J,ha,e,[bj],λ I b Y O=>?_,λ I b Y O=>?_⟩]
 ·refine[L9,a_ ?_];rw[190,k.length,[UD,[ap,d9,e]]];by_cases g:1≤k.length;·rw[183,k.length,23];by_cases r:k.length≤23;rw[39,[tO],[zj,o ⟨I,g,r⟩ b Y O],[lu],aV ⟨p (λ z=>r z.2.2) b Y O,O⟩]
  rw[11,[lu],[zj,aV ⟨p (λ z=>g z.2.1) b Y O,O⟩]]
 ·exact[L9,aV (aV ⟨p (λ z=>I z.1) b Y O,O⟩)]
def FY:[bd]:=["stock","most","codes"]
theorem Qs:bQ FY [K1] (aZ uH):=[bV]
def mE(S:List [ak])(most:Nat):Prop:=[cj,1≤S.length,[Nd],1≤most,most≤12,∀w∈S,vm w]
def cx(S:List [ak]):[aw]:=S.map λ w=>[oC,w]
def FZ(K:aF)(B:ab):Sp:=λ U H Q E=>∃(a:ab)(c:[aV])(S:List [ak])(most:Nat),[jS,U=[[bi],[t9]],ax K H a [Ig],Paired (λ b k=>∀m,ah H m→ax K m b (aJ k)) c S,∀w∈S,w.length≤aQ,S.length≤aQ,[Yj,mE S most,∀l m,ah H m→[UT,l,.aj (cx S)],B]]
theorem aaY{f F k:ab}{v y:bq}(D0:[iW,"read_stock",uH,v,[K1]])(B:el mg)(C:FV mg)(X1:[Vy,k])(U:[eY,"read_word",xB,F,y,[xL]])(GW:aA P w K mg base [gL] 2 F y [xL] (FW K k)):aA P w K mg base [gL] 3 f v [K1] (FZ K k):=by
 have nd:FY.Nodup:=Qs.nd;obtain⟨u1,g,r1⟩:=C.aaV;obtain⟨u2,h2,r2⟩:=C.aaW;refine D0.fn.p0 Qs [L1] (λ cdv A outer s H vs Q E hr h o hP=>?_);·obtain⟨a,l,S,most,rfl,_⟩:=h;rfl
 obtain⟨a,l,S,most,rfl,ha,I,T,hsl,kY,kN⟩:=h;rw[74,[JW,[M8,rg (zN iI iI bu [xz,0] (b8 J g r1)),rg (zN iI iI bu (pv 1) (b8 J h2 r2))],X1,o],[oH,M_ [eJ,J] o (own:=[("codes",2)]) J nd (dj (pv 0)) [Nz,FY,uH,"codes",2] [KS,2] [Ox] (λ _ _ _ _ _=>dA GW hr J U.mg U.fn.kp U.b .nil vl [jC,2])]];have X:l.length=S.length:=er I;have R:[J_,[XL,[Ny],k,m]]:=λ m Y O g=>⟨kN g m Y O,O⟩
 have G:[XL,[Ny],k,H]:=R H [zA,H] (bD.refl H);rw[190,S.length,[ut,_,ha,by rw[aC,X]]];by_cases a1:1≤S.length
 ·rw[183,S.length,64];by_cases a2:[Nd]
  ·rw[[tO]];rw[38,a_ [Nf,_,J,_,_],[Au,1,most]];by_cases n:1≤most
   ·rw[183,most,12];by_cases u:most≤12
    ·rw[13,[tO],a_ [zh,a,[eD,ha],λ D r=>[sK,pW,a,l.map V.ref,λ j m=>ah H m∧bD H m∧m D=Z (.aj (cx (S.take j)))∧∀w∈S.take j,vm w,⟨[oE,r],[Ol],aw,[al]⟩,λ j m _⟨s',_⟩=>s'.seq ha]]]
     ·rintro j x d hx⟨Y,O,N,aH⟩;obtain⟨b,hb,rfl⟩:=lG hx;obtain⟨p,c,W⟩:=d6 I hb;have hjl:=[d0,c];have L:S.take (j+1)=S.take j++[p]:=[jh,fH,c];rw[3,[md,⟨_,J,b,p,J,W d Y,T p (bt c),λ hy M e t=>?_,λ hn M e t=>R M [rE,e] (O.trans t e) (λ z=>hn (z.2.2.2.2 p (bt c)))⟩],⟨_,e _ _ N,?_,(ah.aT [rE,e] r),(O.trans t e).ag J,?_,?_⟩];·unfold cx;rw[12,aC,jJ,[ze,eR,_,64]]
      ·rw[aw,L];unfold cx;rw[cH];rfl
      ·rw[L];intro w hw;rw[113,[d6,hw],aH w q];·rw[161,hy]
     ·rintro d⟨Y,O,N,aH⟩;rw[aC,X,fZ]at N aH;exact kY ⟨a1,a2,n,u,aH⟩ D d Y O N
    rw[11,[lu],aV (G (λ z=>u z.2.2.2.1))]
   rw[11,[lu],[zj,aV (G (λ z=>n z.2.2.1))]]
  rw[11,[lu],aV (aV (G (λ z=>a2 z.2.1)))]
 rw[11,[lu],[zj,aV (aV (G (λ z=>a1 z.1)))]]
end
end VP
end
section
namespace VP
open PySem L2
section
variable{P:aY}{w:aU}{K:aF}{mg:[a_]}{base:aE}
def A0(b:ab):Sp:=λ U H Q E=>∃(l:[ak])(c most:Nat),[cj,U=[[lC,l],[EH],[t9]],c<256,[qe,1000],[N1,c]≤most→[aeN,c],¬[ck,[nr,c],most]→[J_,E (.ref b) none m]]
theorem aaZ{f e:ab}{v:bq}(D:[iW,[Pm],uw,v,[DJ]])(B:el mg)(k:[Ms,e]):aA P w K mg base [gL] 1 f v [DJ] (A0 e):=by
 have nd:=Nv.nd;refine[QG,D.fn.p0,Nv,[YX]];·obtain⟨l,c,most,rfl,_⟩:=h;rfl
 obtain⟨l,c,most,rfl,b,d,o,p⟩:=h;rw[22,[Dz,3,Ae (pv 0) (pv 1),[JW,[wW,zL,[xz,3],pv 2],k,G]]];refine⟨_,J,[pM],_,J,tx l,[ro],J,J,J,[ap,d9,[aaC]],[Kv]⟩;have M:(oj (tx l) [ro]).map V.str=(cx [nr,c]):=[jh,AV l c b,cP];rw[M];rw[135,ag H a [Fi,c],ha];have O:bD H (ag H a [Fi,c]):=[Ol];have g:(ag H a [Fi,c]) a=Z [Fi,c]:=aw;generalize ag H a [Fi,c]=H1 at Y O g⊢;have m:[b9,cx [nr,c],[N1,c]]:=by rw[115]
 rw[69,⟨_,J,_,[N1,c],J,[KQ,g,m],_,J,_,_,J,J,_,J,?_⟩,[aK,[ar,most]<[ar,[N1,c]]]];by_cases h:[ck,[nr,c],most];rw[39,[lu],[zj,o h a H1 ha Y O g],[tO],aV ⟨p h H1 Y O,O⟩]
def gD(l:[ak]):Bool:=[aK,[CZ,1]]&&([aK,[qe,4]]&&[aK,[PU]=l.length])
def F0:Sp:=λ U H Q _=>[W2,Q (.bl (gD l)) H]
theorem aa0{f:ab}{v:bq}(D:[iW,"is_way",xg,v,[wq]])(B:el mg)(t:[VQ]):aA P w K mg base aG 1 f v [wq] F0:=by
 obtain⟨m,a,c⟩:=t;rw[66,D.fn.ok,XH,[Fj]];·rw[140]
 obtain⟨l,rfl,b,k⟩:=h;rw[22,[oH,zC (U8 iI iI bu [xz,0] (b8 J a c)) (zB (lA e_ (cj gj [V9] [V9]) [xz,0] (ck _)))]];have q:[ck,tx l,aQ]∧l.length=[fz,tx,l]:=[UD,[PK,b]];unfold gD at k;rw[190,l.length,q];by_cases g:[CZ,1]
 ·rw[[tO]];rw[bK g,yO]at k;rw[38,aV [Ml],[ar,l.length]≤[aN,4]];by_cases r:[qe,4]
  ·rw[[tO]];rw[bK r,yO]at k;rw[33,⟨_,J,[pM],_,_,J,J,_,J,[pM],_,_,J,J,_,_,J,J,_,J,_,l.length,J,q,J,?_⟩];rw[[AV,"-",#[45]],[AV,"u",#[117]],AW,AW];have e:[zW,[aes],[PU]=l.length]:=by rw[mh,dH,mS,dw];omega
   rw[25,Q (V.bl [aK,[aes]]) H,e,k]
  ·rw[[lu]];rw[bW r,Sq]at k;exact a_ k
 ·rw[[lu]];rw[bW g,Sq]at k;exact[zj,a_ k]
def F1:[bd]:=["text","ways","way"]
theorem Qt:bQ F1 [wq] (aZ ux):=[bV]
def sy(l:[ak]):Prop:=[ck,[nr,44],4]∧∀x∈[nr,44],gD x=true
def F3:V→V|.str z=>.bl (gD z.cps.toList)|_=>.bh
def F4(b:ab):Sp:=λ U H Q E=>[W2,[Yj,sy l,[aeN,44],b]]
theorem aa1{f o F m:ab}{v p C:bq}(D0:[iW,"read_foot",ux,v,[wq]])(B:el mg)(c4:Cn mg "MOST_WAYS" 4)(X1:[Ms,m])(R:[eY,[Pm],uw,o,p,[DJ]])(GS:aA P w K mg base [gL] 1 o p [DJ] (A0 m))(S:[eY,"is_way",xg,F,C,[wq]])(GW:aA P w K mg base aG 1 F C [wq] F0):aA P w K mg base [gL] 2 f v [wq] (F4 m):=by
 have nd:F1.Nodup:=Qt.nd;obtain⟨u4,h4,r4⟩:=c4;refine D0.fn.p0 Qt [L1] (λ cdv A outer s H vs Q E u h hX hP=>?_);·rw[140]
 obtain⟨l,rfl,k,kY,G⟩:=h;rw[22,[Dz,1,dA GS u J R.mg R.fn.kp R.b .nil hP (ak (pv 0) [ug,fy,b8 J h4 r4]),[JW,rg (iH [KJ,cX,V3 J,B.all,PyProof.Rows.boot_all,[JZ,"way",2,pv 1,F1,ux,[E4,GW,u,S.mg,S.fn.kp,S.b,2]]]),X1,hX]]];have U:[KR,(",":Str),⟨#[44]⟩]:=by rw[[AV,",",#[44]]]
 refine⟨_,J,l,44,4,[fy,U],[bj],k,λ N a g I Y O ha=>?_,λ N g Y O=>⟨G (λ z=>N z.1) g Y O,O⟩⟩;have X:[ck,cx [nr,44],1000]:=by unfold cx;rw[27,aC]
 rw[49,a,J,[pD,ha],λ D r=>[CD,F3,ax.of ha,r,[oM,X],λ x H3 Q1 Q2 c s3 n q2=>?_]]
 ·obtain⟨y,hy,rfl⟩:=[bE,c];have T:[lm,y.length]:=by rw[92,su 44 l [] y hy]
  have n:=n J;have e:F3 [oC,y]=.bl (gD y):=by show V.bl (gD (tx y).cps.toList)=_;rw[AQ]
  rw[e]at n;rw[132,H3,[zh,y,T,n]]
 rw[[CB]];rw[71,(cx [nr,44]).map F3=[W4],by unfold cx;rw[117,λ y _=>?_];show V.bl (gD (tx y).cps.toList)=_;rw[AQ];rfl];have j:ah g (ag g D (.aj [W4])):=[cE,g,r];have t:bD H (ag g D (.aj [W4])):=O.ag J;rw[207,g,[nr,44].map,gD];generalize ag g D (.aj [W4])=M at j t W⊢;refine[aac];cases q:([nr,44].map gD).all id with|true=>refine[zj,kY ⟨N,[Nt]⟩ a M I [rE,j] t (j _ _ ha)];rw[62,BA,q (gD x) [iI,x,c]]|false=>rw[33,⟨G [wP] M [rE,j] t,t⟩];rw[List.all_eq_false]at q;obtain⟨b,d,L⟩:=q;obtain⟨x,c,rfl⟩:=[bE,d];exact L (z.2 x c)
end
end VP
end
section
namespace VP
open PySem L2
theorem PS.jZ{X:Cx}{L:a9}{t:TS}(h:PS X.jZ L t):PS X L t:=λ B s w H D I T=>(gG (h B s w H D (I.iu _) T) (λ f d q=>SP.lx q) λ _ _ z=>z.elim)
def yq(n:Nat):Str:=(toString [aN,n]:String)
def sA(l:[ak])(most n:Nat):Prop:=1≤n∧n≤most∧yq n=tx l
section
variable{P:aY}{w:aU}{K:aF}{mg:[a_]}{base:aE}
def F5(a:ab):Sp:=λ U H Q E=>∃(l:[ak])(most:Nat),U=[[lC,l],[t9]]∧[lm,most]∧(∀n,sA l most n→Q (nV n) H)∧((¬∃n,sA l most n)→E [bi] none H)
theorem aa2{f d:ab}{v:bq}(D:[iW,[Tx],xj,v,[KY]])(B:el mg)(k:[Ms,d]):aA P w K mg base [gL] 1 f v [KY] (F5 d):=by
 have nd:=Ny.nd;rw[66,D.fn.p0,Ny,[YX]];·obtain⟨l,most,rfl,_⟩:=h;rfl
 obtain⟨l,most,rfl,N,o,p⟩:=h;rw[48,aK (PS.jZ [PJ,Ln (by rfl) B.range [ug,bu,[yw,pv 1]],2,[Om,[Fc,ry,Vc,B.str,PyProof.Rows.boot_str,2],pv 0,pv 2]]) (aN (nr (by rfl) k o5 J G)),⟨_,J,_,_,J,J,_,_,J,⟨[bj],[bj],[ac],[ac]⟩,Lp (λ i a m=>∃e:[dE],a=[Z [lC,l],Z [t9],e]∧m=H∧∀n,1≤n→n<1+i→yq n≠tx l) [ff,none,J,λ n g r=>[ac]] ?_ ?_⟩]
 ·rintro i a m O⟨e,rfl,rfl,W⟩;have O:i<most:=[ac];rw[341,[yx],1,2];generalize b:1+i=x at*;refine⟨_,J,[ar,x],J,?_,_,J,J,_,J,?_⟩;·rw[25,[ar,x].natAbs.log2<1920,Int.natAbs_natCast,eR (Nat.log2_le_self x) [ac]]
  show[Aa,[aK,[KR,yq x,tx l]]];by_cases h:yq x=tx l;rw[11,bK (by rw[h]),aV [dL,o x ⟨[ac],[ac],h⟩]]
  ·rw[13,bW (λ z=>h (by injection z)),a_ [ff,_,J,λ n g r=>?_]];by_cases w:n=x;·subst w;exact h
   ·exact W n g [ac]
 ·rintro a m⟨e,rfl,rfl,W⟩;rw[15,p ?_,bD.refl _];rintro⟨n,g,r,c⟩;exact W n g [ac] c
def IsCut(l:[ak])(R x y:Nat):Prop:=∃a b,[nr,46]=[a,b]∧sA a R x∧sA b 4 y
def F6(a:ab):Sp:=λ U H Q E=>∃(l:[ak])(R:Nat),[cj,U=[[lC,l],nV R],[qe,1000],[lm,R],∀x y,IsCut l R x y→∀t m,ah H m→[UT,t,.tup [nV x,nV y]],(¬∃x y,IsCut l R x y)→[J_,E [bi] none m]]
theorem aa3{f I g:ab}{v G:bq}(D:[iW,"read_cut",xh,v,[Kf]])(B:el mg)(c4:[VQ])(X1:[Ms,g])(N:[eY,[Tx],xj,I,G,[KY]])(S:aA P w K mg base [gL] 1 I G [KY] (F5 g)):aA P w K mg base [gL] 2 f v [Kf] (F6 g):=by
 have nd:=Nw.nd;obtain⟨u4,b,r4⟩:=c4;refine[QG,D.fn.p0,Nw,λ cdv A outer s H U Q E u h hX X=>?_];·obtain⟨l,R,rfl,_⟩:=h;rfl
 obtain⟨l,R,rfl,d,M,kY,p⟩:=h;rw[22,[E5,2,Ae (pv 0) fy,[JW,[wW,rq,[xz,2],bu],X1,hX],[NH,[ad3,pv 1],[ad3,b8 J b r4]]]];rw[372,".",46,#[46],[aeR,[Kv]]];rw[202,ag H a [Fi,46],ha];have o:(ag H a [Fi,46]) a=Z [Fi,46]:=aw;generalize ag H a [Fi,46]=H1 at Y O o⊢;have z:[b9,cx [nr,46],[N1,46]]:=by rw[115]
 rw[69,⟨_,J,_,[N1,46],J,[KQ,o,z],J,_,J,?_⟩,[uh,[xX,[N1,46]]=[Dv,2]]];rw[j5];by_cases r:[b9,[nr,46],2]
 ·rw[bK r];obtain⟨x,y,e⟩:∃x y,[nr,46]=[x,y]:=by match q:[nr,46],r with|[x,y],_=>rw[1,x,y,J]
  rw[e]at o;refine a_ ⟨_,J,a,_,_,[oC,x],J,J,(ax.of o),[wH,0,J],_,J,x,R,J,M,λ n hn=>?_,λ hn=>[YT,?_]⟩
  ·refine⟨_,J,a,_,_,[oC,y],J,J,(ax.of o),[wH,1,J],y,4,J,[bj],λ n' L=>?_,λ L=>[YT,?_]⟩;·rw[0,[Dr],λ t ht=>kY n n' ⟨x,y,e,hn,L⟩ t _ [rE,[cE,H1,ht]] (O.ag J) aw]
   ·rw[e]at c;rw[6,c,L ⟨F,T⟩]
  ·rw[e]at c;rw[6,c,hn ⟨W,m⟩]
 ·rw[13,bW r,aV [YT,r [fy,c]]]
def F7(b:ab):Sp:=λ U H Q _=>∃(p W x n:ab),U=[J7,p,x,n]∧H p=[gj,b,[]]∧Q .bh (ag H p (.ins b W (mB.zip [Fx,x,n])))
theorem aa4{f b:ab}{v:bq}(I:iM K [Wh] xf b f v [KN])(T:[SB,b]):aA P w K mg base aG 1 f v [KN] (F7 b):=by
 rw[112,XG,[Fj]];·obtain⟨p,W,x,n,rfl,_⟩:=h;rfl
 obtain⟨p,W,x,n,rfl,R,q⟩:=h;rw[24,_,aK [DD,1] (aN [DD,2])];have M:[T7,mB.zip]:=[al];rw[M]at R;rw[55,[W1,R,[Kg,aw]],iW,q]
end
end VP
end
section
namespace VP
open PySem L2
theorem Qu(K:aF){X:Cx}(h:X.K=K:=by rfl):[add,K]:=by subst h;exact gv
def qo:[ak]:=[45,117,124,44,59,46,48,49,50,51,52,53,54,55,56,57]
theorem aa5:("-u|,;.0123456789":Str)=tx qo:=[bB]
def sC(x:[ak]):[kw]:=x.map λ c=>c==45
def kP(x:[ak]):[KW]:=(bG 44 x []).map sC
def mF(f:[ak])(s:[Fd]):Prop:=[ck,bG 124 f [],16]∧(∀x∈bG 124 f [],sy x)∧s=(bG 124 f []).map kP
def sE(c:[ak])(n:Nat)(S:[m_]):Prop:=([ck,bG 44 c [],8]∧(Paired (λ x(p:[wh])=>IsCut x n p.1 p.2) (bG 44 c []) S))
def kg(l:[ak])(m:bT):Prop:=[Io,l,qo]∧[CZ,1]∧[qe,255]∧((∃f,[nr,59]=[f]∧mF f m.feet∧m.cuts=[])∨∃f c,[nr,59]=[f,c]∧mF f m.feet∧sE c m.feet.length m.cuts)
theorem aa6{x:[ak]}(h:gD x=true):tx x=eC (sC x):=by
 unfold gD at h;simp only[dO,dw]at h;have V:∀(l:[ak]),[CZ,[PU]]∧([PU]=l.length→l.map (λ c=>[SZ,c==45])=l):=by
  intro l;induction l with
   |nil=>simp
   |cons a l T=>
    rw[i8,i8,dP];by_cases g:a=45;·subst g;rw[215];rw[bO,T.2 [ac]];rfl
    ·have E:[aX,a==45]:=by rw[72]
     by_cases r:a=117;·subst r;rw[215];rw[bO,T.2 [ac]];rfl
     ·have D:[aX,a==117]:=by rw[103]
      rw[E,D];rw[215];omega
 unfold eC sC tx;rw[cP];have:=(V x).2 h.2.2;congr 2;exact this.symm
theorem aa7{x:[ak]}(h:sy x):cx (bG 44 x [])=(kP x).map gQ:=by unfold cx kP;rw[13,cP,iD λ y a=>?_];show[KR,tx y,eC (sC y)];rw[aa6 (h.2 y a)]
section
variable{P:aY}{w:aU}{K:aF}{mg:[a_]}{base:aE}
structure Qv(mg:[a_]):Prop where
 signs:Cs mg "MEASURE_SIGNS" "-u|,;.0123456789"
 bytes:Cn mg "MOST_BYTES" 255
 feet:Cn mg "MOST_FEET" 16
 cuts:Cn mg "MOST_CUTS" 8
def A1:[bd]:=["codes","text","parts","feet","cuts","foot","cut"]
theorem Qw:bQ A1 [xL] (aZ rK):=[bV]
def yr(H m:Hp):Prop:=∀q N,m q=[zl]→H q=none→[Og,N]
theorem aa8{H m:Hp}(p:bD H m):yr H m:=λ q N e n x A=>by rw[100,[Te,p q _ e n,x,A]]
theorem yr.ag{H m:Hp}{a:ab}{o:HO}(p:yr H m)(E:∀N,o≠(.tup N)):yr H (ag m a o):=λ q N e n=>by
 rw[44,q,a];·subst z;rw[aw]at e;rw[8,[dj,e],E N]
 ·rw[75,ar z,p q N e n]
def F8(K:aF)(c d:ab):Sp:=λ U H Q E=>∃(a:ab)(l:[ak]),[IO,U=[sG],a,aJ l,[qe,aQ],∀m,kg l m→∀me b,(ah H b→yr H b→vf d b me m→Q (.ref me) b),(¬∃m,kg l m)→∀b,ah H b→bD H b→E (.ref c) none b]
theorem aa9{f fT fS fF fC fI CM v:ab}{fd fdT fdS fdF fdC fdI:bq}(D0:[iW,[To],rK,fd,[xL]])(B:el mg)(C:Qv mg)(X1:[Ms,CM])(DT:[eY,"text_of",qa,fT,fdT,[DW]])(GT:aA P w K mg base aG 1 fT fdT [DW] (AS K))(DS:[eY,[Pm],uw,fS,fdS,[DJ]])(GS:aA P w K mg base [gL] 1 fS fdS [DJ] (A0 CM))(DF:[eY,"read_foot",ux,fF,fdF,[wq]])(GF:aA P w K mg base [gL] 2 fF fdF [wq] (F4 CM))(DC:[eY,"read_cut",xh,fC,fdC,[Kf]])(GC:aA P w K mg base [gL] 2 fC fdC [Kf] (F6 CM))(I:iM K [Wh] xf v fI fdI [KN])(T:[SB,v]):aA P w K mg base [gL] 3 f fd [xL] (F8 K CM v):=by
 have nd:A1.Nodup:=Qw.nd;have GI:aA P w K mg base aG 1 fI fdI [KN] (F7 v):=aa4 I T;obtain⟨u1,h1,r1⟩:=C.signs;obtain⟨u2,h2,r2⟩:=C.bytes;obtain⟨u3,h3,r3⟩:=C.feet;obtain⟨u4,h4,r4⟩:=C.cuts;rw[aa5]at r1;refine D0.fn.p0 Qw [L1] (λ cdv A outer s H vs Q E hr h hX hP=>?_);·obtain⟨a,l,rfl,_⟩:=h;rfl
 obtain⟨a,l,rfl,ha,hlen,kY,kN⟩:=h;rw[109,2];rw[22,[we,1,[DE,GT,hr1,DT.mg,DT.fn.kp,DT.b,pv 0,ak (b8 J h1 r1) aB],[JW,[aeO,b8 J h2 r2],X1,hX],[we,2,Ae (pv 1) fy,[JW,[wW,zL,[xz,2],bu],X1,hX],[NZ,3,gq J,M_ (own:=[("foot",5)]) [eJ,J] hX J nd (dj [adV,b8 J h3 r3]) (@eg.mk A1 (aZ rK) _ [("foot",5)] J [bB] [bB] [bB] [bB]) [KS,5] [Ox] (λ _ _ _ _ _=>dA GF hr J DF.mg DF.fn.kp DF.b .nil vl [jC,5]),[E5,4,fz aB,[Lw,e_,[xz,2],bu,W0 (i:=4) (own:=[("cut",6)]) [eJ,J] hX J nd J J [Nr] (dj [adV,b8 J h4 r4]) (@eg.mk A1 (aZ rK) _ [("cut",6)] J [bB] [bB] [bB] [bB]) [KS,6] [Ox] (λ _ _ _ _ _=>dA GC hr J DC.mg DC.fn.kp DC.b .nil vl [uj,6,[Op,Qu K,pv 3]])],lB I.ma GI hr J T.mg I.b .nil bH [LW]]]]]];have O:∀d,ah H d→bD H d→[XL,∃m,kg l m,CM,d]:=λ d s1 p1 h1=>⟨kN h1 d s1 p1,p1⟩
 refine⟨_,J,a,l,qo,J,ha,hlen,[bj],λ M H1 s1 p1=>?_,λ M H1 s1 p1=>[L9,aV (aV [ZF,M z.1])]⟩;refine[L9,a_ ?_];rw[190,l.length,[UD,[ap,d9,hlen]]];by_cases a1:¬[CZ,1];rw[11,[lu],[zj,aV [ZF,a1 z.2.1]]];have a1:=Decidable.not_not.mp a1;rw[183,l.length,255];by_cases a2:¬[qe,255];rw[11,[lu],aV [ZF,a2 z.2.2.1]];have a2:=Decidable.not_not.mp a2;rw[[tO]];rw[372,";",59,#[59],a_ [aeR,λ pa hpa=>?_]];have hpl:[M_,[nr,59],255]:=[aag,59,l];generalize N:[nr,59]=r at*;rw[107,H1,pa,.aj (cx r),hpa];have p2:bD H (ag H1 pa (.aj (cx r))):=p1.ag J;have hpa2:(ag H1 pa (.aj (cx r))) pa=Z (.aj (cx r)):=aw;generalize ag H1 pa (.aj (cx r))=H2 at s2 p2 hpa2⊢;have sH2:=[y9,s2];have hwl:[b9,cx r,r.length]:=by rw[115]
 rw[38,⟨_,J,_,r.length,J,[KQ,hpa2,hwl],_,_,J,J,_,J,?_⟩,[aN,2]<[ar,r.length]];by_cases a3:¬[AE,2];·rw[13,[tO],aV (O H2 sH2 p2 λ⟨m,z⟩=>?_)];rcases z.2.2.2 with⟨U,e,_⟩|⟨U,F,e,_⟩<;>(rw[N]at e;rw[e]at a3;exact a3 [al])
 have a3:=Decidable.not_not.mp a3;rw[[lu]];obtain⟨U,ps',R⟩:∃U ps',r=U::ps':=by cases q:r with|nil=>rw[q]at N;rw[8,N,vk 59 l []]|cons x y=>rw[1,x,y,J]
 have hf0:U.length≤255:=hpl U [ap,R,cq];have uu:(cx r)[0]?=Z [oC,U]:=[fy,R];have noFeet:(∀feet,¬mF U feet)→¬∃m,kg l m:=λ hno⟨m,z⟩=>by
  rcases z.2.2.2 with⟨f1,e,g,_⟩|⟨f1,c1,e,g,_⟩;·rw[N,R]at e;rw[164];subst e1;exact hno _ g
  ·rw[N,R]at e;rw[164];subst e1;exact hno _ g
 have epipe:[KR,("|":Str),⟨#[124]⟩]:=by rw[[AV,"|",#[124]]]
 have ecomma:[KR,(",":Str),⟨#[44]⟩]:=by rw[[AV,",",#[44]]]
 refine a_ ⟨_,J,pa,_,_,[oC,U],J,J,(ax.of hpa2),[wH,0,uu],U,124,16,[fy,epipe],[bj],[ac],λ hm b H3 _ s3 p3 hb=>?_,λ hm H3 s3 p3=>O H3 (sH2.trans s3) (p2.trans p3 s3) (noFeet λ feet z=>hm z.1)⟩;have sH3:=sH2.trans s3;have p3':bD H H3:=p2.trans p3 s3;have hpa3:=s3 _ _ hpa2;have hfl:[M_,bG 124 U [],255]:=[aag,124,U];generalize hfs:bG 124 U []=fs at*;have ewd:cx fs=fs.map λ x=>[oC,x]:=J;refine⟨b,J,[pD,hb],λ D hD=>[W_,b,cx,fs,H3,bD H d∧(∃L,d D=Z (.aj (L.map V.ref))∧(L.length=j∧(Paired (λ q(iT:[KW])=>q≠D∧d q=Z (.aj (iT.map gQ))) L ((fs.take j).map kP))))∧∀x∈fs.take j,sy x,⟨[cE,H3,hD],p3'.ag J,[ff,[],aw,by simp;rw[63]],[al]⟩,[nh,s',hb]]⟩
 ·rintro j x H4 k⟨s4,p4,⟨L,hD4,W,hfas⟩,aH⟩;obtain⟨t,ht,rfl⟩:∃t,fs[j]?=Z t∧x=[oC,t]:=by rw[ewd,cJ]at k;rw[377,fs]
  have htm:=bt ht;have htl:=hfl t htm;rw[205,fs.take,⟨_,J,t,J,[ac],λ hy q H5 hqn s5 p5 hq=>?_,λ hn H5 s5 p5=>O H5 ((sH3.trans s4).trans s5) (p4.trans p5 s5) (noFeet λ feet z=>hn (z.2.1 t [ap,hfs,htm]))⟩];have hD5:=s5 _ _ hD4;have nqD:q≠D:=[vl,hD4,hqn];rw[aa7 hy]at hq;have sD:∀c o,H5 c=Z o→c≠D→ag H5 D (.aj (L.map V.ref++[gt,q])) c=Z o:=λ c o e n=>[cX,n,e]
  rw[53,_,hD5,?_,?_,(p4.trans p5 s5).ag J,⟨L++[q],[jh,aw,cH],[jh,dh,W],?_⟩,?_];·rw[12,aC,W,[ze,eR,j,16]]
  ·exact(ah.aT (s4.trans s5) hD)
  ·rw[12,et,cH,nG [zk,hfas,λ c iT z=>⟨z.1,sD _ _ (s5 _ _ z.2) z.1⟩] [o0,⟨nqD,sD _ _ hq nqD⟩]]
  ·rw[et];intro z hz;rcases[d6,hz]with w|w;·exact aH z w
   ·simp at w;subst w;exact hy
 ·rintro H4⟨s4,p4,⟨L,hD4,W,hfas⟩,aH⟩;have hwf:[b9,cx fs,fs.length]:=by rw[115]
  rw[hwf,fZ]at hfas aH;rw[hwf]at W;have hfeet:mF U (fs.map kP):=⟨[ap,hfs,hm],[ap,hfs,aH],by rw[hfs]⟩;have Y:[b9,fs.map kP,fs.length]:=by rw[aC]
  have hpa4:=s4 _ _ hpa3;have feetAt:∀{d:Hp},ah H4 d→EN d D (fs.map kP):=λ s'=>[vk,L,s',hD4,[zk,hfas,λ c iT z=>s' _ _ z.2]]
  refine[Ei,λ ce hce=>?_];have s5:ah H4 [ni,H4,ce]:=[cE,H4,hce];have p5:bD H [ni,H4,ce]:=p4.ag J;have hce5:(ag H4 ce (.aj [])) ce=Z (.aj []):=aw;generalize[ni,H4,ce]=H5 at s5 p5 hce5;have hpa5:=s5 _ _ hpa4;have sH5:ah H H5:=((sH3.trans s4).trans s5);have fin:∀(cu:ab)(u:Hp)(S:[m_])(v5 v6:[dE]),[cI,ah H5 u,bD H u,EO u cu S,kg l ⟨fs.map kP,S⟩,rj (LJ v (F7 v) [] E0 (dc (cv 3) (dc (cv 4) gw))) {nx:=λ x d=>Q V.bh d,rt:=Q} [[lA],Z [lC,l],[b8,pa],[b8,D],[b8,cu],v5,v6] u]:=λ cu u S v5 v6 s6 p6 hcu hme=>by rw[26,_,J,_,J,λ x dx nx ndx nex=>⟨x,dx,D,cu,J,aw,J,?_⟩];have sx:ah u (ag (ag (ag u dx (.own x)) x (.ins v dx [])) x (.ins v dx (mB.zip [Fx,D,cu]))):=(ah.aT (ah.aT [cE,u,ndx] nx) nx);obtain⟨G,h1,h2⟩:=hcu;exact kY _ hme x _ ((sH5.trans s6).trans sx) [Yq,((aa8 p6).ag (by rw[118])).ag] ⟨dx,D,cu,aw,feetAt ((s5.trans s6).trans sx),G,sx _ _ h1,[B0,h2,sx _ _ z]⟩
  rw[119,⟨_,J,_,r.length,J,[KQ,hpa5,hwl],J,_,J,?_⟩,r.length,2];by_cases q2:r.length=2
  ·rw[bK q2];obtain⟨F,ec⟩:∃F,ps'=[F]:=by rw[R]at q2;match ps',q2 with|[F],_=>rw[0,F,J]
   rw[ec]at R;have hc0:F.length≤255:=hpl F (by rw[16,R]);have at1:(cx r)[1]?=Z [oC,F]:=[fy,R];have noCuts:(∀S,¬sE F fs.length S)→¬∃m,kg l m:=λ hno⟨m,z⟩=>by
    rcases z.2.2.2 with⟨f1,e,g,_⟩|⟨f1,c1,e,g,g2⟩;·rw[N,R]at e;cases e
    ·rw[N,R]at e;injection e with e1 e2;injection e2 with e3 e4;subst e1;subst e3;rw[35,g.2.2,hfs];rw[this,Y]at g2;exact hno _ g2
   rw[33,⟨_,J,pa,_,_,[oC,F],J,J,(ax.of hpa5),[wH,1,at1],F,44,8,[fy,ecomma],[bj],[ac],λ hm2 b2 u _ s6 p6 hb2=>?_,λ hm2 u s6 p6=>O u (sH5.trans s6) (p5.trans p6 s6) (noCuts λ S z=>hm2 z.1)⟩];have sH6:=sH5.trans s6;have p6':bD H u:=p5.trans p6 s6;have hcl:[M_,bG 44 F [],255]:=[aag,44,F];generalize hcs:bG 44 F []=cs at*;have hD6:=s6 _ _ (s5 _ _ hD4);rw[18,b2,J,[pD,hb2],λ D2 hD2=>[W_,b2,cx,cs,u,bD H d∧∃(G:[aV])(S:[m_]),d D2=Z [JY]∧G.length=j∧((Paired (λ q(c:[wh])=>d q=Z [abb]) G S)∧(Paired (λ x(p:[wh])=>IsCut x fs.length p.1 p.2) (cs.take j) S)),⟨[cE,u,hD2],p6'.ag J,[],[],aw,J,.nil,by simp;rw[63]⟩,[nh,s',hb2]]]
   ·rintro j x H7 k⟨s7,p7,G,S,hD7,hcal,hcas,X⟩;obtain⟨t,ht,rfl⟩:∃t,cs[j]?=Z t∧x=[oC,t]:=by unfold cx at k;rw[cJ]at k;rw[377,cs]
    have htm:=bt ht;have htl:=hcl t htm;rw[205,cs.take,⟨_,J,_,J,_,fs.length,J,[ut,_,[nh,s7,hD6],by rw[aC,W]],t,fs.length,J,[ac],[ac],λ x y hxy q H8 s8 p8 hq=>?_,λ hn H8 s8 p8=>O H8 ((sH6.trans s7).trans s8) (p7.trans p8 s8) (noCuts λ cuts' z=>?_)⟩]
    ·have hD8:=s8 _ _ hD7;have sD:∀c xs,H8 c=Z (.tup xs)→ag H8 D2 (.aj ([FF]++[gt,q])) c=Z (.tup xs):=λ c xs e=>[cX,[oB,e,hD8],e]
     refine⟨_,hD8,?_,(ah.aT (s7.trans s8) hD2),(p7.trans p8 s8).ag J,G++[q],S++[(x,y)],[jh,aw,cH],[jh,dh,hcal],?_,?_⟩;·rw[12,aC,hcal,[ze,eR,j,8]]
     ·exact nG [zk,hcas,λ c p z=>sD _ _ (s8 _ _ z)] [o0,sD _ _ hq]
     rw[11,et,nG X [o0,hxy]]
    ·have h2:=z.2;rw[hcs]at h2;obtain⟨p,_,hp⟩:=d6 h2 ht;exact hn ⟨p.1,p.2,hp⟩
   ·rintro H7⟨s7,p7,G,S,hD7,hcal,hcas,X⟩;have hwc:[b9,cx cs,cs.length]:=by rw[115]
    rw[hwc,fZ]at X;refine fin D2 H7 S _ _ (s6.trans s7) p7 ⟨G,hD7,hcas⟩ ⟨M,a1,a2,.inr ⟨U,F,[ap,N,R],hfeet,?_⟩⟩;rw[25,sE F [fz,fs.map,kP] S,Y,⟨[ap,hcs,hm2],[ap,hcs,X]⟩]
  ·rw[bW q2];have ep1:ps'=[]:=by rw[R]at q2 a3;match ps',q2,a3 with|[],_,_=>rfl|[_],h,_=>rw[8,J,h]|_::_::_,_,h=>rw[14]
   rw[ep1]at R;exact a_ (fin ce H5 [] _ _ [zA,H5] p5 ⟨[],hce5,.nil⟩ ⟨M,a1,a2,.inl ⟨U,[ap,N,R],hfeet,J⟩⟩)
end
end VP
end
section
namespace VP
open PySem L2
section
variable{P:aY}{w:aU}{K:aF}{mg:[a_]}{base:aE}
def A2:[bd]:=[[Cb],"most","sizes","word","size"]
theorem Qx:bQ A2 [K5] (aZ rV):=[bV]
def Qy:V→V|.str z=>.int ([ar,z.length]+1)|_=>.bh
open Classical in noncomputable def mG(stock:List [ak])(most:Nat):[ak]:=[um,∀x∈stock,[Kz]*most≤256,stock.map,[zP],stock.map λ x=>[Kz]]
def F9(K:aF):Sp:=λ U H Q _=>∃(a:ab)(S:List [ak])(most:Nat),[jS,U=[[bi],[t9]],ax K H a (cx S),S≠[],[Nd],[M_,S,23],most≤12∧∀b m,ah H m→[UT,b,.aj (aJ (mG S most))]]
theorem aa_{f:ab}{v:bq}(D0:[iW,"sizes_of",rV,v,[K5]])(B:el mg)(cR:[ZE]):aA P w K mg base aG 1 f v [K5] (F9 K):=by
 have nd:A2.Nodup:=Qx.nd;obtain⟨u1,g,r1⟩:=cR;refine[QG,D0.fn.ok,Qx,[Vb]];·obtain⟨a,S,most,rfl,_⟩:=h;rfl
 obtain⟨a,S,most,rfl,ha,o,j,t,hm,k⟩:=h;rw[74,ug (i:=2) (own:=[("word",3)]) J nd J J [Nr] (dj (pv 0)) (@eg.mk A2 (aZ rV) _ [("word",3)] J [bB] [bB] [bB] [bB]) [KS,3] [Ox] (λ _ _ _ _ _=>[yw,[Op,Qu K,pv 3]]),[DB,[Lw,iI,cj zK [Fc,cX,V0 J,B.max,Rz,2] (pv 1),b8 J g r1,bB [Oo,"size",4,dj (pv 2),@eg.mk A2 (aZ rV) _ [("size",4)] J [bB] [bB] [bB] [bB],[wf,4],iv,bu]],pv 2]];have R:[ck,cx S,64]:=by unfold cx;rw[4,aC,j]
 refine[zh,a,[eD,ha],λ D l=>[CD,Qy,ha,l,[oM,R],λ x L Q1 F b s3 d q2=>?_]];·obtain⟨y,c,rfl⟩:=[bE,b];have T:=t y c;rw[0,J,aV (B:=F L) ⟨_,J,_,[fz,tx,y],J,[eJ,[PK,T]],_,_,J,J,d J⟩]
 rw[[CB]];have e:(cx S).map Qy=aJ (S.map λ x=>[Kz]):=by unfold cx;show _=qK nV (S.map λ x=>[Kz]);rw[117,λ y _=>?_];show(V.int ([ar,[fz,tx,y]]+1))=[Dv,y.length+1];rw[d9];congr 1
 rw[e];generalize G:(S.map λ x=>[Kz])=ss at*;have u:ss.length=S.length:=by rw[←G,aC]
 rw[202,ag H D (.aj (aJ ss)),l];have p:(ag H D (.aj (aJ ss))) D=Z (.aj (aJ ss)):=aw;generalize ag H D (.aj (aJ ss))=H1 at Y O p⊢;refine⟨_,J,D,ss.map (λ n:Nat=>[cY]),J,[cm,P8,ax.of p],?_,λ m M C=>?_⟩;·rw[12,aC,u,[B2,o]]
 rw[185,M];have X:n≤24:=by rw[←G]at hn;obtain⟨y,c,rfl⟩:=[bE,hn];rw[10,t y c]
 have I:∀y∈ss,y≤n:=λ y c=>by rw[10,C [ar,y] [iI,y,c]]
 rw[38,⟨_,J,_,_,J,J,.inl [My,[ac]],_,_,J,J,_,J,?_⟩,[cY]*[ar,most]≤[aN,256]];have en:([cY]*[ar,most]≤[aN,256])↔n*most≤256:=by rw[←Int.natCast_mul];omega
 have N:(∀x∈S,[Kz]*most≤256)↔n*most≤256:=by
  rw[5];·intro h;rw[←G]at hn;obtain⟨y,c,rfl⟩:=[bE,hn];exact h y c
  ·intro h x b;have r:=I [Kz] [cm,G,[iI,x,b]];exact bf (Nat.mul_le_mul_right _ r) h
 unfold mG at k;by_cases q:n*most≤256
 ·rw[bK (en.mpr q)];rw[aI (N.mpr q)]at k;rw[33,[zh,D,[pD,p],λ D2 W=>[CD,λ _=>.int 0,ax.of p,W,by rw[12,aC,u,[oM,j]],λ x L Q1 F b s3 d q2=>[md,aV (B:=F L) (d J)]]]];rw[[CB]];have e2:(aJ ss).map (λ _=>(V.int 0))=aJ (S.map [zP]):=by show _=qK nV (S.map [zP]);rw[cP,cP,←G,cP];rfl
  rw[4,e2,k D2 _ [rE,[cE,H1,W]] (O.ag J) aw]
 ·rw[bW (λ z=>q (en.mp z))];rw[aD (λ z=>q (N.mp z)),G]at k;exact[zj,k D H1 Y O p]
end
end VP
end
section
namespace VP
open PySem L2
def NB(H:Hp):Prop:=∀q N,H q=[zl]→[Og,N]
theorem NB.ag{H:Hp}(h:NB H){a:ab}{o:HO}(E:∀N,o=(.tup N)→[Og,N]):NB (ag H a o):=λ q N e=>by
 rw[44,q,a];·subst z;rw[76,aw,E N J]
 ·rw[75,ar z,h q N e]
theorem NB.plain{H m:Hp}(h:NB H)(s:ah H m)(p:bD H m):NB m:=λ q N e x A=>by cases w:H q with|none=>have:=p q _ e w;rw[100,[Te,this,x,A]]|some o=>rw[172,s q o w,h q N w x A]
structure Gr where
 sh:Vs.Shape
 sz:Nat
 a:ab
 nums:[ak]
def i6(sh:Vs.Shape)(sz:Nat):Tr:=[zg,nH sh,.num sz]
def Gr.key(g:Gr):Tr:=i6 g.sh g.sz
def Gr.kv(g:Gr):Tr×V:=(g.key,(V.ref g.a))
theorem aba{a b:Vs.Shape}{c d:Nat}(h:i6 a c=i6 b d):a=b∧c=d:=by rw[156,i6];rw[0,PK h.1,[ac]]
theorem Qz{H:Hp}{t a:ab}{sh:Vs.Shape}{sz:Nat}(h:H t=Z (.tup [[bi],nV sz]))(G:ji H a sh):eZ H (i6 sh sz) t:=by obtain⟨N,g,r⟩:=PQ G;refine⟨?_,_,h,_,_,J,[hJ,a,N,g,r],_,_,J,[de],J⟩;rw[126,PV sh,i6,c_]
theorem QA{H:Hp}:∀{l:[ak]}{N:[aw]},eI H (dJ (l.map qk)) N→([Og,N])→N=aJ l|[],N,h,_=>h|n::l,N,h,K=>by obtain⟨v,r,rfl,g,a⟩:=h;rw[oW g (K v cq),QA a [Kn,K]];rfl
theorem QB{H:Hp}{l:List Tr}{v:V}(h:l9 H (eI H (dJ l)) (dJ l) v):∃p N,v=[iv]∧H p=[zl]∧eI H (dJ l) N:=by cases l with|nil=>exact h|cons x l=>exact h
theorem abb{H:Hp}(c:NB H){fm:Vs.Form}{v:V}(h:l9 H (eI H (lM fm)) (lM fm) v):qc H v fm:=by obtain⟨p,N,rfl,R,f,a,rfl,g,s,S,rfl,r,d,e,rfl,P,rfl⟩:=h;have b:=c p _ R;obtain⟨y,G,rfl,T,w⟩:=QB P;have e1:=oW g (b f [al]);have e2:=oW r (b s [al]);have B:=QA w (c y _ T);subst e1;subst e2;subst B;rw[9,p,y,J,R,T]
theorem QC{H:Hp}(b:NB H):∀{fs:List Vs.Form}{N:[aw]},eI H (dJ (fs.map lM)) N→(Paired (qc H) N fs)|[],N,h=>by have h:N=[]:=h;subst h;rw[63]|f::fs,N,h=>by obtain⟨v,r,rfl,g,a⟩:=h;exact(.cons (abb b g) (QC b a))
theorem abc{H:Hp}(c:NB H){sh:Vs.Shape}{p:ab}{N:[aw]}(R:H p=[zl])(h:eI H (nH sh) N):ji H p sh:=by obtain⟨d,a,rfl,g,s,S,rfl,r,rfl⟩:=h;have b:=c p _ R;obtain⟨I,G,rfl,F,w⟩:=QB r;have e1:=oW g (b d [al]);subst e1;rw[9,I,G,R,F,QC c w]
theorem abd{H:Hp}(b:NB H){sh:Vs.Shape}{sz:Nat}{q:ab}(h:eZ H (i6 sh sz) q):∃p,H q=Z [FG,sz]∧ji H p sh:=by obtain⟨_,N,e,c,a,rfl,g,s,S,rfl,r,rfl⟩:=h;rw[300,nH sh];have e2:=oW r (b q _ e s [al]);subst e2;rw[1,p,e,abc b R k]
theorem abe{m d:Type}{R:[dF,m,d]}{G i:[ol]}(h:G.Perm i):∀{b:List d},Paired R i b→∃B,(B.Perm b∧(Paired R G B)):=by
 induction h with
  |nil=>intro b p;cases p;rw[1,[],.refl _,.nil]
  |cons x _ T=>intro b p;cases p with|cons r t=>obtain⟨c,g,a⟩:=T t;rw[1,_::c,g.cons _,.cons r a]
  |swap x y l=>intro b p;cases p with|cons r t=>cases t with|cons S t=>rw[36,.swap _ _ _,[J4,S,r,t]]
  |trans _ _ j f=>intro b p;obtain⟨c,g,a⟩:=f p;obtain⟨e,P,w⟩:=j a;rw[1,e,P.trans g,w]
structure gn(S:[D9])(u:[ak])(most:Nat)(ks:[dA]):Prop where
 sep:[Kp]
 cnt:∀k∈ks,k.count=min k.nums.length most
 fin:∀k∈ks,[rh]≤S.length
 tr:∀k∈ks,∀n∈k.nums,S[n]?=Z k.sh∧u[n]?=Z k.size
 part:[Rg].Perm [rc,S.length]
 ne:∀k∈ks,k.nums≠[]
def jF(most p:Nat)(g:Gr):Vs.Kd:=⟨g.nums,g.sh,g.sz,p,[wD]⟩
def fY(most:Nat):Nat→[er,Gr,[dA]]|_,[]=>[]|p,g::a=>[T8,a]
def ik(most:Nat):[er,Gr,Nat]|[]=>0|g::a=>[wD]+[zN,a]
theorem QD(most:Nat):∀(a:[ws])(p:Nat)(g:Gr),[wo,p,a++[g]]=[wo,p,a]++[(jF most (p+[zN,a]) g)]|[],p,g=>J|x::a,p,g=>by show jF most p x::[wo,p+[Rh],a++[g]]=jF most p x::([wo,p+[Rh],a]++_);rw[QD most a];congr 4;rw[19,_=p+([Rh]+[zN,a])]
theorem F_(most:Nat):∀(a:[ws])(g:Gr),[zN,a++[g]]=[zN,a]+[wD]|[],g=>[bn,ik]|x::a,g=>by show[Rh]+[zN,a++[g]]=[Rh]+[zN,a]+_;rw[27,F_ most a]
theorem A3(most:Nat):∀a:[ws],[zN,a]≤(a.flatMap (·.nums)).length|[]=>[bn,ik]|g::a=>by have:=A3 most a;rw[kZ,dh];rw[19,[wD]+[zN,a]≤_]
theorem qp{most:Nat}{k:Vs.Kd}:∀{b:[ws]}{p:Nat},k∈[wo,p,b]→p≤k.place∧[rh]≤p+[zN,b]∧∃g∈b,k=(jF most k.place g)
 |[],p,h=>by simp[fY]at h
 |g::b,p,h=>by
  have h:k∈[T8,b]:=h;rw[130];·rw[9,ba _,by rw[19,p+[wD]≤p+([wD]+_)],g,cq,J]
  ·obtain⟨a,r,Q,P,w⟩:=qp h;rw[9,[ac],by rw[19,_≤p+([wD]+_)],Q,cp _ P,w]
theorem QE(most:Nat):∀(a:[ws])(p:Nat),[rg,[wo,p,a],(·.nums)]=a.flatMap (·.nums)|[],p=>J|g::a,p=>by show List.flatMap _ [T8,a]=_;rw[kZ,kZ,QE most a];rfl
theorem QF(most:Nat):∀(d:[ws])(p:Nat)(i j:Nat)(a b:Vs.Kd),[aeW,[wo,p,d][i]?,[wo,p,d]]
 |[],p,i,j,a,b,h,_,_=>by simp[fY]at h
 |g::d,p,i,j,a,b,c,r,Y=>by
  have c:[T8,d][i]?=Z a:=c;have r:[T8,d][j]?=Z b:=r;cases j with
   |zero=>omega
   |succ j=>
    have r:[wo,p+[wD],d][j]?=Z b:=by rw[103]
    cases i with|zero=>have c:(jF most p g)=a:=[aB,c];subst c;exact(qp (bt r)).1|succ i=>have c:[wo,p+[wD],d][i]?=Z a:=[aB,c];exact QF most d _ i j a b c r [ac]
theorem QG(most:Nat):∀(a:[ws])(p:Nat),[b9,[wo,p,a],a.length]|[],p=>J|g::a,p=>by show[wo,p+[wD],a].length+1=a.length+1;rw[QG most a]
theorem abf{S:[D9]}{u:[ak]}{most:Nat}{d:[ws]}(N:1≤most)(l:∀g∈d,g.nums≠[])(m:[abW,d])(R:(d.flatMap (·.nums)).Perm [rc,S.length]):gn S u most [wo,0,d]:=by
 have X:=R.length_eq;rw[jI]at X;have F:=A3 most d;refine⟨⟨[Ks],λ i j a b ha K Y=>?_⟩,[yf],[yf],λ k C n hn=>?_,[ap,QE,R],[yf]⟩;·obtain⟨k,C,rfl⟩:=[bE,K];rw[174];have:=[B2,l g f];have e2:k.count=[wD]:=[fy,e];show 1≤k.count;rw[27,e2]
 ·obtain⟨k,c,rfl⟩:=Vs.pH ha;obtain⟨h,r,rfl⟩:=Vs.pH K;exact QF most d 0 i j k h c r Y
 ·rw[174];rw[e];rfl
 ·rw[10,(qp C).2.1]
 ·rw[174];rw[e]at hn⊢;exact m g f n hn
 ·rw[174];rw[4,e,l g f]
theorem abg{b:[ws]}(l:∀g∈b,g.nums≠[]):b.length≤(b.flatMap (·.nums)).length:=by induction b with|nil=>simp|cons g b T=>have a:=T [Kn,l];have r:=[B2,l g cq];rw[kZ,dh,dP];omega
structure mH(S:[D9])(u:[ak])(d:ab)(H0 H:Hp)(b:[ws])(i:Nat):Prop where
 d:H d=Z (.dT (b.map Gr.kv))
 nd:(b.map Gr.key).Nodup
 at_:∀g∈b,H g.a=Z (.aj (aJ g.nums))∧H0 g.a=none
 ne:∀g∈b,g.nums≠[]
 tr:[abW,b]
 ad:(b.map (·.a)).Nodup
 part:(b.flatMap (·.nums)).Perm [rc,i]
theorem mH.len{S:[D9]}{u:[ak]}{d:ab}{H0 H:Hp}{a:[ws]}{i:Nat}(h:[Ww]):a.length≤i:=by rw[102,abg h.ne,h.part.length_eq,jI];rw[65]
theorem mH.QH{S:[D9]}{u:[ak]}{d:ab}{H0 H:Hp}{a:[ws]}{i:Nat}(h:[Ww]){g:Gr}(j:g∈a):g.nums.length≤i:=by obtain⟨s,t,rfl⟩:=List.append_of_mem j;have:=h.part.length_eq;rw[jI,kW,kZ,dh,dh]at this;omega
theorem abh{a:[ws]}{k:Tr}{v:V}(h:cn (a.map Gr.kv) k=Z v):∃g∈a,g.key=k∧v=.ref g.a:=by have:=Aw h;obtain⟨g,j,e⟩:=[bE,this];rw[164];rw[21,g,j,e1,e2.symm]
theorem Ac{d:[ws]}(nd:(d.map Gr.key).Nodup){g:Gr}(j:g∈d):cn (d.map Gr.kv) g.key=[b8,g.a]:=by
 obtain⟨v,c,r⟩:=um (kvs:=d.map Gr.kv) (k:=g.key) [iI,g.kv,[iI,g,j]];obtain⟨Q,p,e⟩:=[bE,r];rw[164];rw[c,←e2];congr 2;have A:(∀(l:List Gr),(l.map Gr.key).Nodup→g∈l→Q∈l→Q=g):=by
  intro l;induction l with
   |nil=>intro _ h;rw[14]
   |cons x l T=>
    intro n a b;rw[bO,BF]at n;rcases[d9,a]with f|w
    ·rcases[d9,b]with V|i;·rw[f,V]
     ·rw[8,[Bk,Q,i,by rw[e1,f]],n.1]
    ·rcases[d9,b]with V|i;rw[2,[gh,[Bk,g,w,by rw[←e1,V]],n.1],T n.2 w i]
 rw[A d nd j p]
theorem mH.more{S:[D9]}{u:[ak]}{d:ab}{H0 H m:Hp}{a:[ws]}{i:Nat}(h:[Ww]){g:Gr}(j:g∈a)(G:S[i]?=Z g.sh)(M:u[i]?=Z g.sz)(k:[pO,H b,m b=Z o]):∃D,mH S u d H0 (ag m g.a (.aj (aJ g.nums++[nV i]))) D (i+1):=by
 obtain⟨s,t,rfl⟩:=List.append_of_mem j;have f:=h.ad;rw[cH,bO,k0]at f;have E:∀x∈s,x.a≠g.a:=λ x A=>f.2.2 _ [iI,x,A] _ cq
 have c:∀x∈t,x.a≠g.a:=λ x A e=>[Av,f.2.1].1 [Bk,x,A,e]
 have K:=(h.at_ g [al]).1;refine⟨s++⟨g.sh,g.sz,g.a,g.nums++[i]⟩::t,?_,?_,[qu],[qu],λ x A n hn=>?_,?_,?_⟩;·rw[ar [oB,k _ _ h.d,k _ _ K]];rw[221,k _ _ h.d]
 ·rw[221,h.nd]
 ·rcases[d6,A]with A|A;·rw[360,E]
  ·rw[176];·rw[15,?_,(h.at_ g [al]).2];rw[aw];show Z (HO.aj (aJ g.nums++aJ [i]))=_;rw[←cH]
   ·rw[360,c]
 ·rw[142,[d6,A],h.ne x [bn,A]]
  ·rw[176];·simp
   ·exact h.ne x [bn,A]
 ·rw[142,[d6,A],h.tr x [bn,A] n hn]
  ·rw[176]
   ·rcases[d6,hn]with hn|hn;·exact h.tr g [al] n hn
    ·simp at hn;subst hn;rw[0,G,M]
   ·exact h.tr x [bn,A] n hn
 ·rw[221,h.ad]
 ·have:=h.part;rw[kW,kZ]at this⊢;rw[13,vD,List.Perm.trans ?_ (this.append_right [i])];show(s.flatMap (·.nums)++((g.nums++[i])++t.flatMap (·.nums))).Perm _;rw[gZ,gZ,gZ];exact List.Perm.append_left _ (List.Perm.append_left _ List.perm_append_comm)
theorem mH.fresh{S:[D9]}{u:[ak]}{d:ab}{H0 H H':Hp}{a:[ws]}{i:Nat}(h:[Ww]){sh:Vs.Shape}{sz:Nat}{n:ab}(G:S[i]?=Z sh)(M:u[i]?=Z sz)(W:cn (a.map Gr.kv) (i6 sh sz)=none)(hn:H n=none)(l:H0 n=none)(k:[Cm,d,H' b])(c:H' d=Z (.dT (cD (a.map Gr.kv) (i6 sh sz) (.ref n))))(q:n≠d):∃D,mH S u d H0 (ag H' n (.aj ([]++[nV i]))) D (i+1):=by
 have f:∀g∈a,g.key≠i6 sh sz:=λ g j e=>by rw[102,Ac h.nd j,e,W];cases this
 have e1:cD (a.map Gr.kv) (i6 sh sz) (.ref n)=a.map Gr.kv++[(i6 sh sz,(V.ref n))]:=by rw[248];obtain⟨g,j,rfl⟩:=[bE,R];exact f g j (lR e)
 have E:∀g∈a,g.a≠n:=λ g j=>aX (h.at_ g j).1 hn
 refine⟨a++[⟨sh,sz,n,[i]⟩],?_,?_,[qu],[qu],λ x A m N=>?_,?_,?_⟩;·rw[ar q.symm,c,e1,cH];rfl
 ·rw[13,cH,uk h.nd [wP]];obtain⟨g,j,e⟩:=[bE,z];exact f g j e
 ·rcases[d6,A]with A|A;·have:=h.at_ x A;rw[55,[wJ,?_,this],ar (E x A),k _ _ this.1 [oB,this.1,h.d]]
  ·simp at A;subst A;rw[0,aw,l]
 ·rw[142,[d6,A],h.ne x A];·simp at A;subst A;simp
 ·rw[142,[d6,A],h.tr x A m N];·simp at A;subst A;simp at N;subst N;rw[0,G,M]
 ·rw[13,cH,uk h.ad [wP]];obtain⟨g,j,e⟩:=[bE,z];exact E g j e
 ·rw[12,kW,vD,h.part.append_right _]
end VP
end
section
namespace VP
open PySem L2
def Gb:Pos:=⟨83,41,83,65⟩
def Gc:Str:=(([Ih]:Str)++".<locals>.")++[Mx]
theorem QI{m d:Type}{R:[dF,m,d]}:∀{c:[ol]}{S:List d},c.length=S.length→(∀(i:Nat)(b:d),S[i]?=Z b→∃a,c[i]?=Z a∧R a b)→(Paired R c S)|[],[],_,_=>.nil|[],_::_,h,_=>by rw[14]|_::_,[],h,_=>by rw[14]|a::c,b::S,h,k=>by obtain⟨V,g,r⟩:=k 0 b J;rw[45,a=V,[aB,g]];exact(.cons r (QI (by rw[60]) λ i b K=>by obtain⟨x,P,w⟩:=k (i+1) b [aB,K];rw[1,x,[aB,P],w]))
section
variable{P:aY}{w:aU}{K:aF}{mg:[a_]}{base:aE}
def Gd(K:aF)(C Pt:ab):Sp:=λ U H Q _=>∃(sa f:ab)(G:[aV])(S:[D9])(u:[ak])(most:Nat),[IO,U=[[rs],[dU],[t9]],sa,[FF],Paired (ji H) G S,ax K H f (aJ u),[jS,u.length=S.length,[Nd],1≤most,NB H,df H Pt Gb Gc,∀(l:ab)(aO:[aV])(ks:[dA])(m:Hp),[cI,gn S u most ks,jD C m ks aO,m l=Z (.aj [H_]),[LT],Q [lf] m]]]
theorem abi{f fI c C Pt:ab}{fd fdI:bq}(D0:[iW,[Ih],rL,fd,[Ft]])(B:el mg)(LB:[Tu,fd])(I:iM K [WL] xk C fI fdI [KG])(T:[B9,C]):aA P w K mg base aG 3 f fd [Ft] (Gd K C Pt):=by
 have nd:=NA.nd;have GI:aA P w K mg base aG 1 fI fdI [KG] (Of C):=Yo I T;refine N5 D0.fn LB.code NA [L1] [Y5];·obtain⟨sa,za,sas,shs,szs,most,rfl,_⟩:=h;rfl
 obtain⟨sa,za,sas,shs,szs,most,rfl,hsa,hsh,hza,hlen,h64,h1,hnb,hT,k⟩:=h;rw[78];have LX:w8 (gy aG P w K mg base ["shapes","sizes","most","alike",[mj],"traits","kinds","place","shape","size","numbers","count"] [Ih] (aZ rL) f (.ref c) A outer s H E).jZ c Pt:=⟨J,LB.hd,LB.bm,LB.pg⟩;rw[22,[we,3,uj,[UA,XA J B.enumerate J B.zip [uj,0,pv 1],4,5,aN (j0 [Uv,mj PySem.F.plainAttrs_dict PySem.F.slot_dict_setdefault PySem.F.type_dict_setdefault (Xm hu) (pv 3) [uj,5,fz aB],4])],[JN,6,fz aB,7,bu,[DB,[UA,dj (D_ (WW hr J (pv 3) LX J B.sorted J J J J J (λ _ _ _ _ _ _=>J))),8,9,[JN,10,nj hu (pv 3) (ff (ak (pv 8) [jC,9])) (λ _ _=>J),11,cX (C9 J) (by rfl) B.min Ry [ug,[xz,10],pv 2],aK (j0 (mj nN sM sN pT (pv 6) (ak [Mi,I.ma,GI,hr,T.mg,I.b,pv 10,pv 8,ak (pv 9) [uj,7,pv 11]] aB))) (aN (pO (i:=7) nd J (aR J) (pv 11) CU))]],pv 6]]]];intro d hd;have hsl:sas.length=shs.length:=[CJ,hsh];have s0:ah H (ag H d (.dT [])):=[oE,hd];refine⟨_,J,_,J,sa,za,_,_,J,s0.seq hsa,s0.seq hza,XB (K:=K) (a:=sa) (b:=za) (xs:=sas.map V.ref) (ys:=aJ szs) (λ i σ m=>∃(r:[ws])(v4 v5:[dE]),σ=[Z [rs],[b8,za],Z [t9],[Ac],v4,v5,none,none,none,none,none,none]∧ah H m∧NB m∧mH shs szs d H m r i) ⟨[],none,none,J,s0,hnb.ag (by rw[118]),aw,kj,[al],[al],[al],kj,.refl _⟩ (λ i σ m⟨_,_,_,_,s',_⟩=>⟨s'.seq hsa,s'.seq hza⟩) (by rw[aC,aC,hsl,hlen]) (λ y hy=>by obtain⟨n,_,rfl⟩:=[bE,hy];rfl) ?_ ?_⟩
 ·rintro i x y G T2 σ u hx hy hT1 hT2 hne⟨r,v4,v5,rfl,s1,nb1,X⟩;rw[cJ]at hx;obtain⟨p,hp,rfl⟩:=[Q_,hx];rw[cJ]at hy;obtain⟨z,hz,rfl⟩:=[Q_,hy];obtain⟨sh,hshi,hps⟩:=d6 hsh hp;have hil:i<shs.length:=[d0,hshi];have s2:ah u [aa_]:=(ah.aT [cE,u,hT1] hT2);have nb2:NB [aa_]:=(nb1.ag (by rw[247])).ag (by rw[247]);have t1:(ag (ag u G [FG,z]) T2 (.tup [PL,G])) G=Z [FG,z]:=by rw[ar hne,aw]
  have t2:(ag (ag u G [FG,z]) T2 (.tup [PL,G])) T2=Z (.tup [PL,G]):=aw;generalize[aa_]=H2 at s2 nb2 t1 t2;refine[Ue,T2,t2];have hd2:=s2 _ _ X.d;rw[53,_,J,[lD,.inl [md,.inr [eD,hd2]]],_,J,b7 _,λ n hn=>?_];have s3:ah H2 [ni,H2,n]:=[cE,H2,hn];have nb3:NB [ni,H2,n]:=nb2.ag (by rw[118]);have n3:(ag H2 n (.aj [])) n=Z (.aj []):=aw;have hnd:n≠d:=[vl,hd2,hn];have U:ah u [ni,H2,n]:=s2.trans s3;have hn1:u n=none:=s2.free hn;have hn0:H n=none:=s1.free hn1;generalize[ni,H2,n]=L at s3 nb3 n3 U;have hgl:r.length<aQ:=(eR (bf X.len [vY,i≤64]) [bj]);have sH3:ah H L:=[y9,U];refine⟨d,G,.ref n,i6 sh z,[PF],J,J,U _ _ X.d,Qz (s3 _ _ t1) (hps.mono (dF sH3)),[nj,hgl],λ v hv=>?_,λ hno=>?_⟩;·obtain⟨g,D,hk,rfl⟩:=abh hv;obtain⟨e1,e2⟩:=aba hk;have O:=U _ _ (X.at_ g D).1;have hgn:=X.QH D;refine⟨[C_,O],_,J,g.a,_,_,J,J,O,(eR (show[ck,aJ g.nums,64]by rw[27,aC]) [bj]),?_⟩;obtain⟨gs',hG'⟩:=X.more D [ap,e1,hshi] [ap,e2,hz] U;exact⟨gs',_,_,J,(ah.aT sH3 (X.at_ g D).2),nb3.ag (by rw[118]),hG'⟩
  ·have hu4:ag L d (.dT (cD [PF] (i6 sh z) (.ref n))) n=Z (.aj []):=[cX,hnd,n3];refine⟨[C_,hu4],_,J,n,_,_,J,J,hu4,[P8,0<aQ],?_⟩;obtain⟨gs',hG'⟩:=X.fresh (H':=ag L d (.dT (cD [PF] (i6 sh z) (.ref n)))) hshi hz hno hn1 hn0 (λ b o e nb=>[cX,nb,U _ _ e]) aw hnd;exact⟨gs',_,_,J,(ah.aT (ah.aT sH3 hd) hn0),[Yq,nb3.ag],hG'⟩
 ·rintro σ u⟨r,v4,v5,rfl,s1,nb1,X⟩;rw[aC,hsl]at X;rw[15,b7 _,λ kl hkl=>?_];rw[107,u,kl,.aj [],hkl];have nb2:NB [ni,u,kl]:=nb1.ag (by rw[118]);have kl2:(ag u kl (.aj [])) kl=Z (.aj []):=aw;generalize[ni,u,kl]=H2 at s2 nb2 kl2;have hd2:=s2 _ _ X.d;have sH2:ah H H2:=[y9,s2];have hT2:=jh hT sH2;obtain⟨tb,htb,_⟩:=id hT2;refine λ tok=>⟨_,J,d,_,J,hd2,λ p hp=>?_,tok.W2,hT2,λ L l ys gr hl hT3 hl3 hys=>?_⟩
  ·obtain⟨g,_,rfl⟩:=[bE,hp];rw[36,_,J]
  obtain⟨zs,hperm,hzl,hzk⟩:=hys;have nb3:NB L:=λ q N e=>nb2 q N (gr.tup q N e)
  have hpair:(Paired (λ v(g:Gr)=>∃q,v=(V.ref q)∧eZ L g.key q) zs r):=by
   refine QI (by rw[hzl,aC]) λ i g D=>?_
   obtain⟨q,h1,h2⟩:=hzk i g.key (.ref g.a) [jh,cJ,D];rw[9,_,h1,q,J,h2]
  obtain⟨F,hp2,hpr⟩:=abe hperm hpair;have hdP:[qV,H2,∀q,o≠.je q,L b=Z o]:=λ b o e n=>gr.old b o e λ z=>n tb (by rw[z,htb]at e;exact[wv,e])
  have hd3:L d=Z (.dT [PF]):=[Ze,hd2];have kl3:L kl=Z (.aj []):=[Ze,kl2];have hlk:l≠kl:=[vl,kl2,hl];have M:∀g,g∈F→g∈r:=λ g D=>hp2.mem_iff.mp D
  have hg3:∀g∈F,L g.a=Z (.aj (aJ g.nums))∧g.a≠kl:=λ g D=>by have h1:=(X.at_ g (M g D)).1;rw[0,[Ze,s2 _ _ h1],aX h1 hkl]
  have hyl:ys.length=F.length:=[CJ,hpr];have keep3:∀{m:Hp},([qV,L,b≠kl,m b=Z o])→[LT]:=λ kk b o e nb=>kk b o (gr.old b o (sH2 _ _ e) nb) (aX (s1 _ _ e) hkl)
  have Y:(F.flatMap (·.nums)).Perm [rc,shs.length]:=((hp2.flatMap_right _).trans X.part);have htl:=A3 most F;rw[Y.length_eq,jI]at htl;rw[120,l,hl3,ys,λ i σ m=>∃(aO:[aV])(v8 v9 v10 v11:[dE]),σ=[Z [rs],[b8,za],Z [t9],[Ac],v4,v5,[b8,kl],Z (nV [zN,F.take i]),v8,v9,v10,v11]∧[qV,L,b≠kl,m b=Z o]∧m kl=Z (.aj [H_])∧jD C m [wo,0,F.take i] aO,⟨[],none,none,none,none,J,λ b o e _=>e,kl3,J,λ i k h=>by simp[fY]at h⟩,λ i σ m _⟨_,_,_,_,_,_,kk,_⟩=>(ax.of (kk _ _ hl3 hlk))]
  ·rintro i y σ H4 hi⟨aO,v8,v9,v10,v11,rfl,kk,S,hK⟩;obtain⟨g,D,q,rfl,hky⟩:=d6 hpr hi;have hgi:=bt D;obtain⟨p,hq,hps⟩:=abd nb3 (show eZ L (i6 g.sh g.sz) q from hky);have nkl:∀b N,L b=[zl]→b≠kl:=λ b N e=>[oB,e,kl3]
   have tk:jk L H4:=λ b N e=>kk _ _ e (nkl b N e)
   have hps4:=hps.mono tk;have hd4:H4 d=Z (.dT [PF]):=kk _ _ hd3 [oB,hd3,kl3];have O:=hg3 g hgi;have hga4:=kk _ _ O.1 O.2;have hnl:=X.QH (M g hgi);have et:F.take (i+1)=F.take i++[g]:=[jh,fH,D];rw[3,[Ue,q,tk _ _ hq],⟨_,J,_,J,_,J,[Dr],[Nl]⟩];have s5:ah H4 (ag H4 t [FG,g.sz]):=[cE,H4,ht];have t5:(ag H4 t [FG,g.sz]) t=Z [FG,g.sz]:=aw;generalize ag H4 t [FG,g.sz]=H5 at s5 t5;have gg:=eW.t (s5 _ _ hd4) (Qz t5 (hps4.mono (dF s5)));have hv:cn [PF] (i6 g.sh g.sz)=[b8,g.a]:=Ac X.nd (M g hgi);rw[hv]at gg;refine[hJ,d,_,gg,?_];have hga5:=s5 _ _ hga4;refine⟨_,J,_,g.nums.length,J,[KQ,hga5,aC],_,J,_,_,J,?_⟩;have ec:[UV,most,g.nums.length]=[aN,[wD]]:=by split<;>omega
   rw[ec];have hkl5:=s5 _ _ S;refine⟨_,J,[C_,hkl5],_,J,_,J,_,J,_,J,_,J,λ x W hx hdx hne=>⟨x,W,g.a,p,(jF most [zN,F.take i] g),J,aw,?_,?_,J,?_⟩⟩;·have:=[B2,X.ne g (M g hgi)];rw[19,1≤[wD]]
   ·have h1:=A3 most (F.take (i+1));have h2:[zN,F.take (i+1)]≤64:=by
     have h3:[ck,((F.take (i+1)).flatMap (·.nums)),(F.flatMap (·.nums)).length]:=by have:F=F.take (i+1)++F.drop (i+1):=(Bp _ _).symm;rw[this,kW,dh,←this];omega
     rw[Y.length_eq,jI]at h3;omega
    rw[et,F_]at h2;show[zN,F.take i]+[wD]≤64;exact h2
   ·have s6:ah H5 [Yc,H5,[U1]]:=(ah.aT (ah.aT [cE,H5,hdx] hx) hx);have x6:(ag [N8,H5,x,C] x (.ins C W [U1])) x=[gj,C,[U1]]:=aw;generalize[Yc,H5,[U1]]=H6 at s6 x6;have R:=s5.trans s6;have hkl6:=R _ _ S;have hkal:aO.length=[fz,F.take,i]:=by rw[hK.len,QG]
    refine⟨kl,_,_,J,J,hkl6,(eR (show[ck,[H_],64]by rw[aC,hkal,jJ];have:=X.len;rw[10,hp2.length_eq]) [bj]),?_⟩;have sk:[qV,H6,∀N,o≠.aj N∨b≠kl,ag H6 kl (.aj ([H_]++[gt,x])) b=Z o]:=λ b o e n=>by
     rw[44,b,kl];·subst z;rw[76,hkl6,((n _).elim (λ w=>w J) (λ w=>w J)).elim]
     rw[11,ar z,e]
    refine⟨_,J,_,J,_,_,J,J,aO++[x],[Cq],Z (nV g.sz),[b8,g.a],Z (nV [wD]),?_,λ b o e nb=>[cX,nb,R _ _ (kk b o e nb)],[jh,aw,cH],?_⟩;·rw[et,F_];rfl
    ·rw[et,QD];rw[15,by rw[dh,dh,hK.len];rfl,λ j kd hj=>?_];rw[RT]at hj;by_cases hjl:j<[wo,0,F.take i].length
     ·rw[aI hjl]at hj;obtain⟨p1,nu,sh,b1,⟨dx1,b2⟩,b3,b4⟩:=hK.at_ j kd hj;rw[53,p1,nu,sh,?_,⟨dx1,[Xi,R _ _ b2]⟩,sk _ _ (R _ _ b3) λ N=>.inr ?_,b4.mono λ b N e=>[Xi,R _ _ e]];·rw[12,RT,aI [ap,hK.len,hjl],b1]
      ·rw[54];rw[b3]at S;have e:=[dj,S];injection e with e;obtain⟨_,_,g',hg',e'⟩:=qp (bt hj);have hne':kd.nums≠[]:=[ap,e',X.ne g' (M g' (Bq hg'))];cases hkn:kd.nums with|nil=>exact hne' hkn|cons n0 ns=>rw[hkn]at e;cases aO with|nil=>cases e|cons a0 as=>cases e
     ·rw[aD hjl]at hj;have hj0:j-[wo,0,F.take i].length=0:=by rw[92,[d0,hj]]
      rw[hj0]at hj;simp at hj;subst hj;rw[53,x,g.a,p,?_,⟨W,[Xi,x6]⟩,sk _ _ (R _ _ hga4) λ N=>.inr O.2,?_];·rw[RT,aD [ap,hK.len,hjl],hK.len,hj0];rfl
      ·exact(hps4.mono (dF R)).mono λ b N e=>[Xi,e]
  ·rintro σ H4⟨aO,v8,v9,v10,v11,rfl,kk,S,hK⟩;rw[hyl,fZ]at hK;refine[dL,k kl aO _ H4 (abf h1 (λ g D=>X.ne g (M g D)) (λ g D=>X.tr g (M g D)) Y) hK S (keep3 kk)]
end
end VP
end
section
namespace VP
open PySem L2
def iN(ks:[dA])(n:Nat):Nat:=(ks.findIdx? λ k=>[aK,n∈k.nums]).getD 0
section
variable{shs:[D9]}{szs:[ak]}{most:Nat}{ks:[dA]}
theorem QJ{m d:Type}{f:m→List d}:[Pl,(l.flatMap f).Nodup,∀{i j:Nat}{a b:m}{x:d},[cI,l[i]?=Z a,l[j]?=Z b,x∈f a,x∈f b,i=j]]
 |[],_,i,j,a,b,x,h,_,_,_=>by rw[14]
 |c::l,nd,i,j,a,b,x,g,r,P,w=>by
  rw[kZ,k0]at nd;cases i with
   |zero=>
    cases j with
     |zero=>rfl
     |succ j=>
      have g:c=a:=by rw[72]
      have r:l[j]?=Z b:=by rw[103]
      subst g;rw[8,J,nd.2.2 x P x [wB,b,bt r,w]]
   |succ i=>
    have g:l[i]?=Z a:=by rw[72]
    cases j with
     |zero=>
      have r:c=b:=by rw[103]
      subst r;rw[8,J,nd.2.2 x w x [wB,a,bt g,P]]
     |succ j=>
      have r:l[j]?=Z b:=by rw[103]
      rw[QJ nd.2.1 g r P w]
theorem QK{m d:Type}{f:m→List d}:[Pl,(l.flatMap f).Nodup,∀a∈l,(f a).Nodup]|[],_,a,h=>by rw[14]|c::l,nd,a,h=>by rw[kZ,k0]at nd;rw[130];rw[2,nd.1,QK nd.2.1 a h]
theorem gn.nd(h:[CH]):[Rg].Nodup:=h.part.nodup_iff.mpr List.nodup_range
theorem gn.ay(h:[CH]){n:Nat}(hn:n<shs.length):∃k,ks[iN ks n]?=Z k∧n∈k.nums:=by have:n∈ks.flatMap (·.nums):=h.part.mem_iff.mpr [zt,hn];obtain⟨k,C,a⟩:=[zB,this];unfold iN;cases e:ks.findIdx? λ k=>[aK,n∈k.nums]with|none=>have:=List.findIdx?_eq_none_iff.mp e k C;rw[77];rw[8,a,this]|some j=>obtain⟨U,g,_⟩:=List.findIdx?_eq_some_iff_getElem.mp e;rw[1,ks[j],bX U,by rw[72]]
theorem gn.QL(h:[CH]){n j:Nat}{k:Vs.Kd}(C:ks[j]?=Z k)(hn:n∈k.nums):iN ks n=j:=by have s:n<shs.length:=[OW,h.part.mem_iff.mp [wB,k,bt C,hn]];obtain⟨d,g,r⟩:=h.ay s;exact QJ h.nd g C r hn
theorem gn.lt(h:[CH]){n:Nat}(hn:n<shs.length):[wO,iN ks n]:=by obtain⟨k,g,_⟩:=h.ay hn;exact[d0,g]
theorem QM(ay:[cQ])(j:Nat)(l:[ak]):[adc]:=by rw[244]
theorem gn.bC(h:[CH])(r:[ak])(y:r.Nodup)(b:∀i∈r,i<shs.length)(X:[AE,most])(j:Nat):((r.map (iN ks)).count j)≤Vs.cF ks j:=by
 rw[QM];cases e:ks[j]? with
  |none=>rw[87,r.filter λ i=>iN ks i==j,[],by rw[List.filter_eq_nil_iff];intro i O z;have:=h.lt (b i O);have z:iN ks i=j:=[aB,z];rw[z]at this;rw[34,bX this],b7 _]
  |some k=>
   have V:Vs.cF ks j=min k.nums.length most:=by unfold Vs.cF;rw[4,e,h.cnt k (bt e)]
   rw[V];have g:[ck,r.filter λ i=>iN ks i==j,k.nums.length]:=by
    refine Vs.jT (List.Nodup.sublist Bs y) λ i O=>?_
    rw[yH]at O;have z:iN ks i=j:=[aB,O.2];obtain⟨d,a,P⟩:=h.ay (b i O.1);rw[z,e]at a;rw[6,a,P]
   have a:=nO (λ i=>iN ks i==j) r;omega
theorem gn.many(h:[CH])(j:Nat):Vs.cF ks j≤([wx,shs.length,iN ks].count j):=by
 rw[QM];unfold Vs.cF;cases e:ks[j]? with
  |none=>exact b7 _
  |some k=>
   have V:=h.cnt k (bt e);show k.count≤_;have g:k.nums.length≤[fz,[rc,shs.length].filter,λ i=>iN ks i==j]:=by rw[42,Vs.jT (QK h.nd k (bt e)) λ n hn=>?_,yH];rw[15,h.part.mem_iff.mp [wB,k,bt e,hn],?_];simp[h.QL e hn]
   omega
theorem gn.abj(h:[CH]){n:Nat}(hn:n<shs.length):shs[n]?=Z [A5,ks,iN ks n]∧szs[n]?=Z (Vs.b0 ks (iN ks n)):=by obtain⟨k,g,r⟩:=h.ay hn;have:=h.tr k (bt g) n r;unfold Vs.shapeAt Vs.b0;rw[4,g,this]
theorem gn.abk(h:[CH]):ks.length≤shs.length:=by
 have:∀l:[dA],(∀k∈l,k.nums≠[])→[qe,(l.flatMap (·.nums)).length]:=by intro l;induction l with|nil=>simp|cons k l T=>intro a;rw[111,T [Kn,a],[B2,a k cq]];rw[kZ,dh,dP];omega
 have g:=this ks h.ne;rw[h.part.length_eq,jI]at g;exact g
theorem gn.QN(h:[CH]){i:Nat}(O:[wO,i]):[A5,ks,i]∈shs:=by have e:=bX O;have N:=bt e;rw[52,[A5,ks,i]=(ks[i]).sh,by unfold Vs.shapeAt;rw[e]];cases hn:[No]with|nil=>rw[8,hn,h.ne _ N]|cons n f=>exact bt (h.tr _ N n [ap,hn,cq]).1
noncomputable def Ge(m:bT)(ks:[dA])(aO:[aV])(most:Nat)(co sc ka r d1 d2 d3 Pt bN CK CC CL bo B:ab):aS:={m:=m,ks:=ks,aO:=aO,most:=most,tg:=kI m,en:=sj m,U:=UM m,co:=co,sc:=sc,ka:=ka,r:=r,d1:=d1,d2:=d2,d3:=d3,Pt:=Pt,X:=[],bN:=bN,CK:=CK,CC:=CC,CL:=CL,bo:=bo,sd:=ie B m sc d3,kt:=AG m ks (UM m) d3}
theorem abl{m:bT}(M:gU m)(h:[CH])(G:∀sh∈shs,qj sh)(b:∀z∈szs,z≤24)(B:shs.length≤64)(N:most≤12){aO:[aV]}{co sc ka r d1 d2 d3 Pt bN CK CC CL bo CS:ab}:cw (Ge m ks aO most co sc ka r d1 d2 d3 Pt bN CK CC CL bo CS):=by
 have g:∀i,qj [A5,ks,i]:=λ i=>by
  by_cases O:[wO,i];·exact G _ (h.QN O)
  ·rw[87,[A5,ks,i],(0,[]),by unfold Vs.shapeAt;rw[sQ [ac]],⟨[al],[al]⟩]
 refine⟨⟨h.sep,N,[yf],[yf]⟩,[yf],?_,λ L i x _ _=>Zx,λ L i x V O A=>?_,λ L i V=>?_,λ L _=>Zr,ZA m,λ c d s z=>z.mono s,λ H a c d e s z=>ZN H a c d e s z⟩;·rw[10,h.fin k C]
 ·cases hn:k.nums with|nil=>rw[8,hn,h.ne _ C]|cons n f=>exact b _ (bt (h.tr _ C n [ap,hn,cq]).2)
 ·rw[10,h.fin k C]
 ·exact bf h.abk B
 rw[2,(yj M).mpr ((Pu M ((yj M).mp V) (g i)).1 x A),(Pu M ((yj M).mp V) (g i)).2]
theorem abm{m:bT}(M:gU m)(h:[CH])(G:∀sh∈shs,qj sh){aO:[aV]}{co sc ka r d1 d2 d3 Pt bN CK CC CL bo CS:ab}:j9 CS (Ge m ks aO most co sc ka r d1 d2 d3 Pt bN CK CC CL bo CS):=⟨J,J,J,J,M,λ L p=>(yj M).mp p,λ i O=>G _ (h.QN O)⟩
end
theorem QO(x:[ak]):jE x≤3:=by
 unfold jE;repeat' split
 all_goals omega
theorem abn(v:Nat)(x:[ak]):kO v x≤3:=by
 unfold kO;split;·omega
 ·exact QO x
theorem Gf{l:[ak]}(h:[Nj,l]):[Nj,Vs.h7 l]:=by
 intro w T;unfold Vs.h7 at T;rw[153,T];·rw[148,q];rw[10,h x (RR _ A)]
 ·exact h w (RP q)
theorem abo(l:[ak]):qj (kf l):=by
 have T:[Nj,fG l]:=λ w T=>by unfold fG at T;rw[147,T];exact abn _ _
 have a:[Nj,[Gq]]:=λ w h=>T w (RR _ h)
 unfold kf;rw[5];·split<;>simp
 ·intro fm U;have X:gA l≤3:=QO _;rw[30,qm l,true];·rw[aI e]at U;simp at U;rw[116,U,⟨by show _≤2;simp,X,Gf a⟩,⟨by show _≤2;simp,X,Gf T⟩]
  ·rw[aD e]at U;simp at U;subst U;rw[1,by show _≤2;simp,X,Gf T]
theorem abp{S:List [ak]}{most:Nat}(h:[M_,S,23]):∀z∈mG S most,z≤24:=by
 intro z M;unfold mG at M;split at M;·rw[147,M];omega
 ·rw[148,M];rw[10,h x A]
theorem abq(S:List [ak])(most:Nat):[b9,mG S most,S.length]:=by unfold mG;split<;>simp
theorem abr{m:bT}(M:gU m):Vs.start m∈UM m:=by
 refine(yj M).mpr [pv,?_,?_];·show ij m (Vs.vV m);unfold Vs.vV;rw[9,b7 _,[Lg,J,z],b7 _,b7 _,λ z=>[aB,z]]
 ·intro w h;cases h
 ·exact b7 _
end VP
end
section
namespace VP
open PySem L2
def soft:[ii,HO]|.dT _=>true|.je _=>true|.ins _ _ []=>true|_=>false
def kQ(H m:Hp):Prop:=[qV,H,[aX,soft o],m b=Z o]
theorem kQ.of{H m:Hp}(s:ah H m):kQ H m:=λ b o e _=>s b o e
theorem QP{M:[aV]}{H:Hp}(h:∀q∈M,∀o,H q=Z o→soft o=true):kQ H (Zh M H):=λ b o e n=>[rG,e,λ K=>by rw[h b K o e]at n;cases n]
theorem abt{K:aF}{H m:Hp}{a:ab}{N:[aw]}(h:ax K H a N)(s:kQ H m):ax K m a N:=by rw[347,s _ _ h J]
theorem QQ{C:ab}{H m:Hp}{ks:[dA]}{aO:[aV]}(k:jD C H ks aO)(s:kQ H m):jD C m ks aO:=by rw[286,⟨W,s _ _ r J⟩,s _ _ P J,λ b N e=>s _ _ e J]
theorem QR{B:ab}{m:bT}{sc d3:ab}{a c:Hp}(h:[Cc,a])(s:kQ a c):[Cc,c]:=by rw[246,⟨W,x,n,A,en,s _ _ g J,[Xn,y,r,P],[Xn,G,w,b],⟨Y,s _ _ H J,R⟩,s _ _ k J⟩]
theorem A4{b:ab}{H a:Hp}{me:ab}{m:bT}(h:vf b H me m)(s:kQ H a):vf b a me m:=by obtain⟨W,x,n,g,⟨y,r,P⟩,⟨G,w,c⟩⟩:=h;rw[37,W,x,n,s _ _ g J,[Xn,y,r,P],[Xn,G,w,c]]
def qr(aO:[aV])(j n:Nat):(Key×V):=(bY [cY],(V.ref [Ik,j]))
def iO(ks:[dA])(j:Nat):[ak]:=[DX,ks[j]?,k,k.nums,[]]
def jG(ks:[dA])(aO:[aV])(i:Nat):[jT]:=[z_,i,λ j=>(iO ks j).map (qr aO j)]
theorem QS(ks:[dA])(aO:[aV])(i:Nat):jG ks aO (i+1)=[Qb]++(iO ks i).map (qr aO i):=by unfold jG;rw[vD,kW];simp
theorem A5(ks:[dA]):∀i,i≤ks.length→[z_,i,iO ks]=[rg,ks.take i,(·.nums)]|0,_=>[al]|i+1,h=>by have O:[wO,i]:=[ac];rw[vD,kW,A5 ks i [ac],fH,bX O,kW];congr 1;simp[iO,bX O]
theorem Gg(ks:[dA])(aO:[aV])(i:Nat):[Qb].map (·.1)=[z_,i,iO ks].map [aau]:=by unfold jG;rw[List.map_flatMap,List.map_flatMap];congr 1;funext j;rw[cP];rfl
theorem abu(ks:[dA])(aO:[aV]):[b9,[Wk],[Rg].length]:=by have g:=[Ca,Gg ks aO ks.length];rw[aC,aC,A5 ks _ (ba _),fZ]at g;exact g
theorem abv(ks:[dA])(aO:[aV]){i:Nat}(O:[wO,i]):[Qb].length+(iO ks i).length≤[Rg].length:=by have g:=[Ca,Gg ks aO (i+1)];rw[aC,aC,A5 ks (i+1) O,QS,dh,aC]at g;have r:=ed (λ l:List Vs.Kd=>(l.flatMap (·.nums)).length) (Bp (i+1) ks);simp only[kW,dh]at r;omega
theorem abw{l:[ak]}{n:Nat}(h:(bY [cY]:Key)∈l.map [aau]):n∈l:=by obtain⟨x,A,e⟩:=[bE,h];have:[ar,x]=[cY]:=Sum.inl.inj e;have:x=n:=[ac];rw[23,this,A]
theorem wH{Y:[jT]}{k:Key}{v:V}(h:k∉[Nh]):cD Y k v=Y++[(k,v)]:=by rw[248];exact h [Bk,p,R,lR e]
theorem abx{ks:[dA]}{aO:[aV]}(nd:[Rg].Nodup){i t n:Nat}(O:[wO,i])(F:(iO ks i)[t]?=Z n):cD [aaB] (bY [cY]) (.ref [Ik,i])=[Qb]++((iO ks i).take (t+1)).map (qr aO i):=by
 rw[wH,fH,F,cH,gZ];·rfl
 ·rw[cH,Gg,cP];have:((λ x:(Key×V)=>x.1)∘qr aO i)=[aau]:=J;rw[this,←cH];intro z;have z:=abw z;rw[A5 ks i [ac]]at z;have e:=Bp i ks;rw[←e,kW]at nd;have d:ks.drop i=ks[i]::ks.drop (i+1):=IA O;rw[d,kZ]at nd;have en:iO ks i=[No]:=by unfold iO;rw[bX O]
  rw[en]at F z;have o:=[J0,F];obtain⟨a,h⟩:=o;have e2:[No]=(ks[i]).nums.take t++n::(ks[i]).nums.drop (t+1):=by
   conv=>lhs;rw[←Bp t [No]]
   rw[IA a,h]
  rw[e2]at nd;rw[gZ,←gZ,k0]at nd;exact nd.2.2 n z n [al] J
theorem aby{S:[D9]}{u:[ak]}{most:Nat}{ks:[dA]}(h:gn S u most ks)(aO:[aV]){n:Nat}(hn:n<S.length):cn [Wk] (bY [cY])=[b8,[Ik,iN ks n]]:=by
 obtain⟨k,g,r⟩:=h.ay hn;have N:qr aO (iN ks n) n∈[Wk]:=[Ln,iN ks n,h.lt hn,[iI,n,by unfold iO;rw[4,g,r]]];obtain⟨v,e1,e2⟩:=um (kvs:=[Wk]) (k:=bY [cY]) [iI,_,N];rw[e1];obtain⟨j,U,m⟩:=[zB,e2];obtain⟨q,L,e⟩:=[bE,m];injection e with B G;have c:q=n:=by rw[10,Sum.inl.inj B]
 subst c;unfold iO at L;cases l:ks[j]? with|none=>rw[l]at L;simp at L|some d=>rw[l]at L;rw[91,h.QL l L];rw[←G]
def Gi:[bd]:=[[ca],"measure",[Cb],"most","kinds","kind",[mj],"word"]
theorem QT:bQ Gi [KM] (aZ uV):=[bV]
section
variable{P:aY}{w:aU}{K:aF}{mg:[a_]}{base:aE}
theorem QU{H m:Hp}{Pt x:ab}{W:Pos}{q:Str}(t:[zM,H])(k:[Cm,x,m b])(A:Pt≠x)(hn:∀c,H x≠Z (w6 c q)):[zM,m]:=by obtain⟨V,g,r,P⟩:=t;refine⟨V,k _ _ g A,r,?_⟩;rcases P with h|⟨s,a,b⟩;rw[2,[lz],[zf,s,a,k _ _ b λ z=>hn s [cm,z,b]]]
structure Ready(d B bN CK CC CL bo s:ab)(m:bT)(S:List [ak])(most:Nat)(a:Hp)(se:ab)(F:aS)(kb:ab)(ay:[cQ]):Prop where
 fm:F.m=m
 qt:F.most=most
 cls:[jS,F.bN=bN,F.CK=CK,F.CC=CC,F.CL=CL,F.bo=bo,F.Pt=s]
 ok:cw F
 sc:j9 B F
 st:bA F a []
 sr:mC F d (Zh (aP F []) a) se kb ay S.length
 kl:AL (Zh (aP F []) a) kb S.length
 ko:AK F ay S.length
 many:AM F ay S.length
 tr:[abl]
def Gk(K:aF)(d B b bN CK CC CL bo c s:ab):Sp:=λ U H Q _=>∃(p W me y:ab)(m:bT)(S:List [ak])(most:Nat),[cj,U=[[iv],.ref me,.ref y,[t9]],H p=[gj,d,[]],vf b H me m,gU m,[IO,[lm,m.cuts.length],y,cx S,S≠[],[Nd],[lk,[M_,S,23],1≤most,most≤12,NB H,df H c Gb Gc,df H s i4 iJ,c≠s∧∀(F:aS)(kb:ab)(ay:[cQ])(a:Hp),Ready d B bN CK CC CL bo s m S most a p F kb ay→kQ H a→Q .bh a]]]
theorem abz{f fSh fSz fKo fS fCo l CS CM bN CK CC CL bo PtK B:ab}{fd fdSh fdSz fdKo fdS fdCo:bq}(I:iM K [Wu] uV l f fd [KM])(T:[CG,l])(eu:[B9,bN])(D1:[eY,"shape_of",uK,fSh,fdSh,[wS]])(G1:aA P w K mg base aG 3 fSh fdSh [wS] FT)(D2:[eY,"sizes_of",rV,fSz,fdSz,[K5]])(G2:aA P w K mg base aG 1 fSz fdSz [K5] (F9 K))(D3:[eY,[Ih],rL,fKo,fdKo,[Ft]])(G3:aA P w K mg base aG 3 fKo fdKo [Ft] (Gd K bN PtK))(IS:iM K [We] xH CS fS fdS [K6])(TS:[zC,CS])(GS:aA P w K mg base aG 1 fS fdS [K6] (Ff K CS CM))(IC:iM K [VD] xy bo fCo fdCo [IR])(TC:[Ra,bo])(GC:aA P w K mg base aG 2 fCo fdCo [IR] (ES K bo bN)):aA P w K mg base aG 4 f fd [KM] (Gk K l CS CM bN CK CC CL bo PtK B):=by
 have nd:Gi.Nodup:=QT.nd;rw[57,I.fn.ok,QT];·obtain⟨p,W,me,wa,m,S,most,rfl,_⟩:=h;rfl
 obtain⟨p,W,me,wa,m,S,most,rfl,hp,hme,hM,hcl,hwa,hne,h64,hwl,hm1,hm12,hnb,hTK,hTC,hPt,k⟩:=h;rw[78];rw[109,3];have hr2:cy 2 _:=[wu,2,3];rw[22,[we,4,[DE,G3,hr,D3.mg,D3.fn.kp,D3.b,[JZ,"word",7,pv 2,Gi,uV,[aa9,hr,7]],[ug,[DE,G2,hr1,D2.mg,D2.fn.kp,D2.b,pv 2,[jC,3]],pv 3]],d0 (pv 0) (lB IS.ma GS hr2 J TS.mg IS.b .nil bH [jC,1]) J,aK (d0 (pv 0) (lB IC.ma GC hr J TC.mg IC.b .nil bH [ug,[eq],pv 4]) J) (aK [DD,3] (aK (d0 (pv 0) wO J) (aN [Bh,pv 4,5,[Bh,[vW,5],6,[Up,6,pv 5]]])))]];have hwdl:[b9,cx S,S.length]:=by rw[115]
 rw[49,wa,J,[eD,hwa],λ D hD=>[W_,wa,cx,S,H,bD H d∧∃G:[aV],d D=Z [JY]∧(G.length=j∧(Paired (ji d) G [zZ,S.take j,kf (d_ 0 x)])),⟨[oE,hD],[Ol],[],aw,J,by simp;rw[63]⟩,s'.seq hwa]]
 ·rintro j x H1 g⟨s1,p1,G,hD1,hsl,hsas⟩;obtain⟨t,ht,rfl⟩:∃t,S[j]?=Z t∧x=[oC,t]:=by unfold cx at g;rw[cJ]at g;cases q:S[j]? with|none=>rw[q]at g;cases g|some t=>rw[q]at g;rw[97,t,g]
  rw[205,S.take,[zh,t,by rw[10,hwl t (bt ht)],λ a H2 s2 p2 hsh=>?_]];have hD2:=s2 _ _ hD1;rw[227,H2,D,[FF]++[gt,a],[oB,e,hD2]];refine⟨_,hD2,?_,(ah.aT [y9,s2] hD),(p1.trans p2 s2).ag J,G++[a],[jh,aw,cH],[jh,dh,hsl],?_⟩;·rw[12,aC,hsl,[ze,eR,j,64]]
  ·rw[12,et,cH,nG [B0,hsas,(z.mono (dF s2)).mono tk] [o0,hsh.mono tk]]
 rintro H1⟨s1,p1,G,hD1,hsl,hsas⟩;rw[hwdl,fZ]at hsas;rw[hwdl]at hsl;refine⟨_,J,_,J,wa,S,most,J,s1.seq hwa,hne,h64,hwl,hm12,λ zb H2 s2 p2 hzb=>?_⟩;have sH2:=[y9,s2];have nb2:NB H2:=hnb.plain sH2 (p1.trans p2 s2);refine⟨_,J,D,zb,G,S.map λ x=>kf (d_ 0 x),mG S most,most,J,[nh,s2,hD1],[NY,hsas,dF s2],(ax.of hzb),by rw[abq,aC],[nj,h64],hm1,nb2,jh hTK sH2,λ ka aO ks H3 N hKA hka kp=>?_⟩;have hps:[qV,H,[aX,soft o],b≠PtK]:=λ b o e n z=>by subst z;obtain⟨ps,t1,_⟩:=hTK;rw[34,t1];cases n
 have hpK:p≠PtK:=λ z=>by subst z;obtain⟨ps,t1,_⟩:=hTK;rw[t1]at hp;cases hp
 have p3:H3 p=[gj,l,[]]:=kp _ _ (sH2 _ _ hp) hpK;have sol3:kQ H H3:=λ b o e n=>kp _ _ (sH2 _ _ e) (hps b o e n)
 have tK2:=jh hTK sH2;have tC3:df H3 B i4 iJ:=QU (jh hTC sH2) kp hPt.symm λ c z=>by obtain⟨ps,t1,_⟩:=tK2;rw[80,t1]
 have hme3:=A4 hme sol3;refine[dL,λ x dxs g hdxs hnex=>⟨x,dxs,me,m,J,aw,A4 hme3 (.of (ah.aT [cE,H3,hdxs] g)),hcl,[oM,hM.feet],λ d3 R hd3 hsc hd34 kk=>[md,?_]⟩];have s34:ah H3 R:=[DZ,kk,by rw[12,ar (aX e g),ar (aX e hdxs),e],aX e g];have nd3x:d3≠x:=λ z=>by rw[199]
 have hd33:H3 d3=none:=by
  rw[ar nd3x]at hd3;rw[44,d3,dxs];·rw[199]
  ·rw[ar z]at hd3;exact hd3
 have p4:R p=[gj,l,[]]:=s34 _ _ p3;have e0:[T7,gk.zip]:=[al];have p4':=p4;rw[e0]at p4';have npx:p≠x:=aX p3 g;have npd3:p≠d3:=aX p3 hd33;refine[Kg,p4'];have sol4:kQ R (Zh [p] R):=QP λ q hq o e=>by simp at hq;subst hq;rw[34,p4];rfl
 have kz4:jD bN (Zh [p] R) ks aO:=QQ (hKA.mono s34) sol4;have cz4:ie CS m x d3 (Zh [p] R):=QR hsc sol4;have az4:Zh [p] R ka=Z (.aj [H_]):=sol4 _ _ (s34 _ _ hka) J;have dz4:Zh [p] R d3=Z (.dT []):=[rG,hd34,[aB,npd3.symm]];have pK:∀c,R p≠Z (w6 c iJ):=λ c z=>by rw[80,p4]
 have nPC:B≠p:=λ z=>by obtain⟨ps,t1,_⟩:=tC3;rw[z,p3]at t1;cases t1
 have tC4:df (Zh [p] R) B i4 iJ:=QU (x:=p) (jh tC3 s34) (λ b o e nb=>[rG,e,[aB,nb]]) nPC pK;have l4:kQ H (Zh [p] R):=λ b o e n=>sol4 _ _ (s34 _ _ (sol3 b o e n)) n
 have z5:ah (Zh [p] R) (Zh [p] (ag R p (.ins l W (gk.zip [PX])))):=λ b o e=>by have e:=[zO];exact bV.mpr [wJ,[cX,[aB,e.2],e.1],e]
 have p5:(ag R p (.ins l W (gk.zip [PX]))) p=[gj,l,gk.zip [gt,x]]:=aw;generalize(ag R p (.ins l W (gk.zip [PX])))=H5 at z5 p5;refine⟨_,J,p,l,W,_,_,J,p5,T.cl,[jB,0],[jU,0],_,J,λ y dy hy hdy hney=>?_⟩;have O:ah H5 (ag (ag H5 dy (.own y)) y (.ins bo dy [])):=(ah.aT [cE,H5,hdy] hy);have kH5:jD bN H5 ks aO:=(kz4.mono z5).mono bp;refine⟨y,dy,x,ka,ks,aO,J,aw,O _ _ (bp _ _ (z5 _ _ az4)),kH5.mono O,N.sep,λ kd hkd=>?_,λ r d1 d2 H6 hr6 hd1 hd2 n1 n2 n3 hy6 hR6 hd16 hd26 k6 _=>[md,?_]⟩;·rw[35,N.fin kd hkd,aC];omega
 have s56:ah H5 H6:=[DZ,k6,O _ _ e,aX e hy];have p6:H6 p=[gj,l,gk.zip [gt,x]]:=s56 _ _ p5;have npy:p≠y:=aX p5 hy;have npr:p≠r:=aX (O _ _ p5) hr6;have np1:p≠d1:=aX (O _ _ p5) hd1;have np2:p≠d2:=aX (O _ _ p5) hd2;have d35:H5 d3=Z (.dT []):=bp _ _ (z5 _ _ dz4);have n31:d3≠d1:=aX (O _ _ d35) hd1;have n32:d3≠d2:=aX (O _ _ d35) hd2;have z46:ah (Zh [p] R) (Zh [p] H6):=z5.trans (jl s56);refine[aaZ,p6];intro kb hkb;rw[iW]at hkb⊢;have nkp:kb≠p:=λ z=>by subst z;rw[aw]at hkb;cases hkb
 have hkb6:H6 kb=none:=by rw[ar nkp]at hkb;exact hkb
 refine[QA,nkp.symm];generalize hfull:gk.zip ([gt,x]++[gt,y]++[[t9]]++[gt,kb])=full;generalize gk.zip ([gt,x]++[gt,y]++[[t9]])=part;have p10:(ag [XR] p (.ins l W full)) p=[gj,l,full]:=aw;have kb10:(ag [XR] p (.ins l W full)) kb=Z (.dK []):=by rw[ar nkp,aw]
 have k10:[Ck,p,b≠kb→(ag [XR] p (.ins l W full)) b=H6 b]:=λ b h1 h2=>by rw[ar h1,ar h2,ar h1]
 generalize(ag [XR] p (.ins l W full))=H10 at p10 kb10 k10;subst hfull;have zz:∀{d:Hp},([Ck,kb,d b=H10 b])→ah (Zh [p] H6) d:=λ{d}hh b o e=>by have e:=[zO];have h1:b≠p:=[aB,e.2];have h2:b≠kb:=aX e.1 hkb6;rw[12,hh b h2,k10 b h1 h2,e.1]
 have hkal:=hKA.len;rw[49,ka,J,[pD,zz [B3] _ _ (z46 _ _ az4)],[sK,iZ,ka,[H_],λ i σ d=>∃v5 v6 v7:[dE],[aea,v5]∧d kb=Z (.dK [Qb])∧[Ck,kb,d b=H10 b],⟨none,none,none,J,kb10,[B3]⟩,λ i σ d _⟨_,_,_,_,_,hh⟩=>(ax.of (zz hh _ _ (z46 _ _ az4)))]]
 ·rintro i v σ L hi⟨v5,v6,v7,rfl,X,U⟩;have hil:[wO,i]:=by rw[35,[d0,hi],aC];omega
  have ek:=bX hil;obtain⟨q,nu,sh,hq,⟨dq,hk6⟩,hnu6,_⟩:=(kz4.mono z46).at_ i _ ek;have hk:=zz U _ _ hk6;have hnu:=zz U _ _ hnu6;obtain rfl:v=(V.ref q):=by rw[cJ,hq]at hi;exact[wv,hi]
  have hnum:iO ks i=[No]:=by unfold iO;rw[ek]
  have hqd:[Ik,i]=q:=[jh,iB,hq];refine⟨_,J,q,bN,dq,_,_,J,hk,eu.cl,eu.na 0 _ J,[ov,eu.nd,0],nu,J,[pD,hnu],[sK,iZ,nu,aJ [No],λ t σ d=>∃v6 v7:[dE],[aea,[b8,q]]∧d kb=Z (.dK [aaB])∧[Ck,kb,d b=H10 b],[hJ,v6,v7,[aB,X],U],λ t σ d _⟨_,_,_,_,hh⟩=>(ax.of (zz hh _ _ hnu6))]⟩
  ·rintro t y' σ H12 ht⟨v6,v7,rfl,Y,hh12⟩;obtain⟨n,hn,rfl⟩:=Ed ht;have u:[aaB].length<aQ:=by have h1:=abv ks aO hil;rw[N.part.length_eq,jI,aC]at h1;rw[dh,aC,jJ];exact[ze,eR,_,64]
   rw[3,⟨_,J,_,J,p,l,W,_,_,J,[f8,hh12,p,nkp.symm,p10],T.cl,[jB,3],[jU,3],_,J,kb,_,J,jf.k (k:=bY [cY]) Y u,?_⟩,[hJ,Z (nV n),v7,?_,λ b nb=>[cX,nb,hh12 b nb]]];rw[aw,←hqd,abx N.nd hil [ap,hnum,hn]]
  ·rintro σ H12⟨v6,v7,rfl,Y,hh12⟩;refine⟨_,v6,v7,J,?_,hh12⟩;have e:[b9,aJ [No],(iO ks i).length]:=by rw[aC,hnum]
   rw[e,fZ,←QS]at Y;exact Y
 ·rintro σ L⟨v5,v6,v7,rfl,X,U⟩;rw[aC,hkal]at X;have z6:=zz U;have z4:=z46.trans z6;have h6:[Ck,p,b≠kb→L b=H6 b]:=λ b h1 h2=>[f8,U,b,h2,k10 b h1 h2]
  have yb:∀{b:ab}{o:HO},H6 b=Z o→b≠p→L b=Z o:=λ{b o}e nb=>((h6 b nb (aX e hkb6)).trans e)
  have d1':L d1=Z (.dT []):=yb hd16 np1.symm;have d2':L d2=Z (.dT []):=yb hd26 np2.symm;have d3':L d3=Z (.dT []):=z4 _ _ dz4;have tC':df L B i4 iJ:=jh tC4 z4;obtain⟨kvr,hRk,hRv⟩:=hR6;have u:[b9,S.map λ x=>kf (d_ 0 x),S.length]:=aC ..;have hsIn:∀sh∈S.map λ x=>kf (d_ 0 x),qj sh:=λ sh hsh=>by rw[147,hsh];exact abo _
  have FO:=abl hM N hsIn (abp hwl) [ap,u,h64] hm12 (aO:=aO) (co:=y) (sc:=x) (ka:=ka) (r:=r) (d1:=d1) (d2:=d2) (d3:=d3) (Pt:=B) (bN:=bN) (CK:=CK) (CC:=CC) (CL:=CL) (bo:=bo) (CS:=CS);have SC:=abm hM N hsIn (aO:=aO) (co:=y) (sc:=x) (ka:=ka) (r:=r) (d1:=d1) (d2:=d2) (d3:=d3) (Pt:=B) (bN:=bN) (CK:=CK) (CC:=CC) (CL:=CL) (bo:=bo) (CS:=CS);generalize C:Ge m ks aO most y x ka r d1 d2 d3 B bN CK CC CL bo CS=F at FO SC;have fm:aP F []=[d1,d2,d3,B]:=by rw[←C];rfl
  obtain⟨ptb,hPC,_⟩:=id tC';have M:kQ L (Zh (aP F []) L):=QP λ q hq o e=>by
   rw[fm]at hq;simp at hq;rcases hq with rfl|rfl|rfl|rfl;·rw[34,d1'];rfl
   ·rw[34,d2'];rfl
   ·rw[34,d3'];rfl
   ·rw[34,hPC];rfl
  have p11:L p=[gj,l,gk.zip [(V.ref x),(V.ref y),[t9],(V.ref kb)]]:=[f8,U,p,nkp.symm,p10];have st:bA F L []:=by
   refine⟨[rp,dy],?_,?_,?_,?_,?_,?_,?_,⟨[],?_,kj,[al]⟩,⟨[],?_,kj,[al]⟩,?_,[al],[al],[al],?_,?_⟩;·rw[141,M _ _ (yb hy6 npy.symm) J]
   ·rw[141,M _ _ (z4 _ _ az4) J]
   ·rw[141,QQ (kz4.mono z4) M]
   ·rw[←C]at M⊢;rw[1,kvr,M _ _ (yb hRk npr.symm) J,hRv]
   ·rw[141,QR (cz4.mono z4) M]
   ·rw[23,C,tC']
   ·rw[23,C,⟨[],d3',kj,[al]⟩]
   ·rw[←C];rw[0,[],d3']
   ·rw[23,C,d1']
   ·rw[23,C,d2']
   ·rw[←C];rw[1,n3,n31.symm,n32.symm]
   ·rw[←C];intro x g;cases g
   ·rw[←C];intro x g;cases g
  have aj:kQ H L:=λ b o e n=>z4 _ _ (l4 b o e n)
  refine k F kb (iN ks) L ⟨by rw[←C];rfl,by rw[←C];rfl,[cm,C,⟨J,J,J,J,J,J⟩],FO,SC,st,⟨[rp,W],⟨_,M _ _ X J,λ i hi=>?_⟩,λ i hi=>?_,?_⟩,[pv,_,M _ _ X J],⟨?_,h64⟩,?_,λ n x hn=>?_⟩ aj;·rw[141,M _ _ p11 J]
  ·rw[23,C,aby N aO [ap,u,hi]]
  ·rw[23,C,N.lt [ap,u,hi]]
  ·rw[23,C,abr hM]
  ·rw[abu,N.part.length_eq,jI,u]
  ·rw[23,C,λ r h1 h2 h3 j=>N.bC r h1 (λ i hi=>[ap,u,h2 i hi]) h3 j]
  ·rw[←C];intro j;rw[50,N.many j,u]
  ·have hlt:n<S.length:=[d0,hn];rw[102,N.abj (n:=n) [ap,u,hlt],cJ,hn];rw[←C];rw[0,[wv,this.1],this.2]
end
end VP
end
section
namespace VP
open PySem L2
open Kgz2(Row isRow before)
def abA:a9→List vH|.Try _ G _ _ _=>G|_=>[]
abbrev QV:a9:=(jA rX).getD 0 [V_]
structure A6(m:bT)(S:List [ak])(most:Nat)(F:aS)(ay:[cQ]):Prop where
 fm:F.m=m
 qt:F.most=most
 ok:cw F
 lt:∀i,i<S.length→[p0,ay i]
 st:[Ia]∈F.U
 tr:[abl]
def iq(F:aS)(ay:[cQ])(n most:Nat)(c q:Row):Prop:=[F_,n,q]∧nI F ay q∧Vs.h8 c 0 q
def abB(F:aS)(ay:[cQ])(n most:Nat)(c:Row)(i:[bv]):Prop:=(i=[0]∧∀q,¬iq F ay n most c q)∨∃r:Row,i=[acd]∧iq F ay n most c r∧[Wa,iq F ay n most c q,r]
def A7(r c:[ak])(S:List [ak])(most:Nat)(i:[bv]):Prop:=((¬∃m,kg r m)∧i=[-22])∨∃m,kg r m∧((¬[Ny]∧i=[-23])∨([Ny]∧((¬ql c most S.length∧i=[-24])∨(ql c most S.length∧∃F ay,[WG]∧abB F ay S.length most c i))))
section
variable{P:aY}{w:aU}{K:aF}{mg:[a_]}{base:aE}
structure Gm(K:aF)(a B j:ab):Prop where
 mm:yK K [bi] [bi]=Z true
 sm:yK K (.ref B) [bi]=Z false
 ss:yK K (.ref B) (.ref B)=Z true
 am:yK K (.ref j) [bi]=Z false
 as_:yK K (.ref j) (.ref B)=Z false
 aa:yK K (.ref j) (.ref j)=Z true
structure Gn(mg:[a_]):Prop where
 m:[DV,"NO_MEASURE",.int (-22)]
 s:[DV,"NO_STOCK",.int (-23)]
 a:[DV,"NO_AFTER",.int (-24)]
theorem Gq{l:[ak]}{m:bT}(h:kg l m):gU m∧m.cuts.length≤8:=by
 obtain⟨_,_,_,h⟩:=h;have F:∀f,mF f m.feet→m.feet.length≤16∧[ads]:=by
  rintro f⟨d,r,P⟩;rw[P];rw[15,[nj,d],λ g k=>?_];rw[148,k];obtain⟨v,w⟩:=r x A;rw[15,by unfold kP;rw[4,aC,v],λ y j=>?_];obtain⟨z,M,rfl⟩:=[bE,j];have T:=w z M;unfold gD at T;simp only[dO,dw]at T;have X:[b9,sC z,z.length]:=by unfold sC;rw[aC]
  rw[15,λ e=>?_,[e9,X]];rw[e]at X;simp at X;omega
 rcases h with⟨f,_,d,r⟩|⟨f,c,_,d,r⟩
 ·obtain⟨a,b⟩:=F f d;rw[15,[pv,a,b],?_];·rw[16,r]
  ·rw[16,r]
 ·obtain⟨a,b⟩:=F f d;have X:=er r.2;rw[15,⟨a,b,[qp]⟩,[cm,X,r.1]];obtain⟨i,O,e⟩:=gY R;obtain⟨x,_,A⟩:=Eo r.2 (i:=i) (b:=p) (by rw[bX O,e]);obtain⟨_,_,_,_,n⟩:=A;exact n.2.1
def A8(K:aF)(a s:ab):Sp:=λ U H Q _=>∃(ma aa sa:ab)(G:[aV])(most:Nat)(r c:[ak])(S:List [ak]),[IO,U=[OQ,[t9]],ma,aJ r,ax K H aa (aJ c),ax K H sa [FF],[cj,Paired (λ b k=>ax K H b (aJ k)) G S,[AE,1000],c.length≤300,S.length≤100,[jS,[M_,S,100],NB H,df H a Gb Gc,df H s i4 iJ,a≠s,∀(l:ab)(i:[bv])(m:Hp),A7 r c S most i→m l=Z (.aj (i.map V.int))→Q [lf] m]]]
theorem abD{f fM fS fA fI fF CM CS CA u g CSc bN CK CC CL bo PtK y:ab}{fd fdM fdS fdA fdI O:bq}(D0:[iW,[El],rX,fd,[J6]])(B:el mg)(NC:Gn mg)(EM:Gm K CM CS CA)(X1:[Ms,CM])(X2:[Vy,CS])(X3:[Zu,CA])(DM:[eY,[To],rK,fM,fdM,[xL]])(GM:aA P w K mg base [gL] 3 fM fdM [xL] (F8 K CM u))(DS:[eY,"read_stock",uH,fS,fdS,[K1]])(GS:aA P w K mg base [gL] 3 fS fdS [K1] (FZ K CS))(DA:[eY,[Tv],uU,fA,fdA,[J8]])(GA:aA P w K mg base [gL] 1 fA fdA [J8] (Fw K CA))(I:iM K [Wu] uV g fI fdI [KM])(T:[CG,g])(GI:aA P w K mg base aG 4 fI fdI [KM] (Gk K g CSc u bN CK CC CL bo PtK y))(MF:[mu,[Q4],[Q9],uW,g,fF,O,"after"])(GF:∀F:aS,(cw F→j9 CSc F→F.bN=bN∧[cj,F.CK=CK,F.CC=CC,F.CL=CL,F.bo=bo,F.Pt=y]→aA P w K mg base aG 63 fF O [NL] (AN K F g))):aA P w K mg base aG 64 f fd [J6] (A8 K PtK y):=by
 have nd:=NZ.nd;obtain⟨uM,hM,rM⟩:=NC.m;obtain⟨uS,hS,rS⟩:=NC.s;obtain⟨uA,hA,rA⟩:=NC.a;have GF':aA P w K mg base aG 63 fF O [NL] (λ vs H Q E=>∃F:{F:aS//cw F∧[lk,j9 CSc F,F.bN=bN,F.CK=CK,F.CC=CC,F.CL=CL,F.bo=bo,F.Pt=y]},AN K F.1 g vs H Q E):=aA.Fu λ F=>GF F.1 F.2.1 F.2.2.1 F.2.2.2
 obtain⟨oc,od,kV,doc,pm,an,cdv,ct,osl,rfl,lk0,hcd⟩:=D0.fn.ex;refine XF lk0 hcd NZ [L1] [Y5];·obtain⟨ma,aa,sa,sas,most,G,n,S,rfl,_⟩:=h;rfl
 obtain⟨ma,aa,sa,sas,most,G,n,S,rfl,hma,haa,hsa,hsas,l1,l2,l3,l4,hnb,hTK,hTC,hPt,k⟩:=h;rw[109,63];have hr3:cy 3 _:=[wu,3,63];have hr5:cy 5 _:=[wu,5,63];generalize hX:gy aG P w K mg base [ZT] [El] (aZ rX) f cdv A outer s H E=X;have hand:∃v,nt X (abA QV) v∧[ZW,22,CM]∧[ZW,23,CS]∧[ZW,24,CA]:=by
  subst hX;rw[26,_,[ZV,X1.bound,b8 J hM rM,[ZV,X2.bound,b8 J hS rS,[ZV,X3.bound,b8 J hA rA,.nil]]],λ D c H h=>?_,λ D c H h=>?_,λ D c H h=>?_];·rw[22,EM.mm];rw[4,aI J,[Ak,1,h]]
  ·rw[22,EM.sm];rw[[CO]];rw[22,EM.ss];rw[4,aI J,[Ak,1,h]]
  ·rw[22,EM.am];rw[[CO]];rw[22,EM.as_];rw[[CO]];rw[22,EM.aa];rw[4,aI J,[Ak,1,h]]
 obtain⟨v,ho,tM,tS,tA⟩:=hand;let q:TS:=λ D c H'=>c=start [ZT] [OQ,[t9]]∧H'=H∧(∀(zs:[bv]),A7 G n S most zs→∀l M,M l=Z (.aj (zs.map V.int))→D.rt [lf] M)∧(∀m,(kg G m→mE S most→ql n most S.length→∀me wa M,[cI,ah H M,NB M,vf u M me m,M wa=Z (.aj (cx S)),D.nx [Z [t9],[b8,ma],[b8,aa],Z [rs],[b8,me],[b8,wa],none] M]))
 have w9:Eb X QV q:=by
  subst hX;refine XE (ts:=v) q J J [eJ,J] ho λ D c H' hq=>?_
  obtain⟨rfl,rfl,kR,kY⟩:=hq;rw[48,[we,4,dA GM hr3 J DM.mg DM.fn.kp DM.b .nil vl [jC,1],[xQ,5,dA GS hr3 J DS.mg DS.fn.kp DS.b .nil vl [uj,3,pv 0]],aN (j0 (dA GA hr1 J DA.mg DA.fn.kp DA.b .nil vl (ak (pv 2) [uj,0,[xz,5]])))],⟨_,J,ma,G,J,hma,[oM,l1],λ m N me H1 s1 nb1 Y=>?_,λ t H1 s1 p1=>[Y6,CM,tM,H1,22,.inl [eJ,t]]⟩];have hnb1:NB H1:=λ q xs e x hx=>by cases z:H' q with|none=>exact nb1 q xs e z x hx|some o=>rw[172,s1 _ _ z,hnb q xs z x hx]
  refine⟨_,J,_,J,sa,sas,S,most,J,s1.seq hsa,[zk,hsas,λ _ _ z M d=>[y9,d].seq z],λ x hx=>[oM,l4 x hx],[oM,l3],λ aH wa M d p2 U=>?_,λ t M d p2=>[Y6,CS,tS,M,23,[zf,m,N,.inl [eJ,t]]]⟩;have hnb2:NB M:=hnb1.plain d p2;have hm12:=aH.2.2.2.1;rw[3,⟨_,J,_,J,_,J,_,S.length,J,[ut,_,ax.of U,by rw[115]],aa,n,most,S.length,J,[y9,d].seq haa,[oM,l2],[ac],λ ha H3 C p3=>?_,λ t H3 C p3=>[Y6,CA,tA,H3,24,[zf,m,N,[jl,aH,.inl [eJ,t]]]]⟩,kY m N aH ha me wa H3 ([y9,d].trans C) (hnb2.plain C p3) ?_ (C _ _ U)];exact A4 Y (.of (d.trans C))
 subst hX;rw[48,XC w9 (gi.uu (gi.jZ [NX,6,[pT,[Mi,I.ma,GI,hr5,T.mg,I.b,pv 4,pv 5,[jC,0]],T.cl,MF.me,GF',hr,MF.b,pv 2,aB],bB (cj wC (fz (ak [xz,6] aB)) (pv 6))])),⟨J,J,λ zs hz l M e=>k l zs M hz e,λ m N aH ha me wa M d nb2 Y U=>?_⟩];obtain⟨hMI,hcl⟩:=Gq N;refine⟨_,J,_,J,_,J,λ p W hp hdx hne=>?_⟩;have C:ah M [N8,M,p,g]:=(ah.aT [cE,M,hdx] hp);have nb3:NB [N8,M,p,g]:=[Yq,nb2.ag];have p3:(ag (ag M W (.own p)) p (.ins g W [])) p=[gj,g,[]]:=aw;generalize[N8,M,p,g]=H3 at C nb3 p3;have sH3:=d.trans C;refine⟨p,W,me,wa,m,S,most,J,p3,A4 Y (.of C),hMI,[oM,hcl],[nh,C,U],λ z=>by rw[35,aH.1,z];rw[77],aH.2.1,λ x hx=>(aH.2.2.2.2 x hx).2.2,aH.2.2.1,aH.2.2.2.1,nb3,jh hTK sH3,jh hTC sH3,hPt,λ F kb ay H4 R sol=>[md,?_]⟩;obtain⟨dxe,hse⟩:=R.sr.se.mono bp;have rk:[WG]:=⟨R.fm,R.qt,R.ok,R.sr.lt,R.sr.st,R.tr⟩;have haa4:ax K H4 aa (aJ n):=abt (sH3.seq haa) sol;have qt:=R.qt;refine⟨p,dxe,_,J,hse,[em],_,J,⟨F,R.ok,R.sc,R.cls⟩,[],p,kb,aa,ay,S.length,n,J,R.st,R.sr,R.kl,R.ko,R.many,haa4,ha.2.1,ha.2.2,by rw[25,n.length≤F.most,qt,ha.1],λ l H5 gs' adv hl L t=>?_,λ l r H5 gs' adv hl L hw hbf=>?_⟩;·rw[369,0,.inl [rJ,ax.of L],.aj [],⟨_,J,a,l,_,_,J,J,aw,e1,by rw[84,1+0],λ b hnb=>k b [0] _ ?_ aw⟩];refine[aeG,.inl [md,λ q hq=>t q ?_]];rw[25,[jb,isRow S.length F.most q,_],qt,hq]
 ·have hrl:[AE,12]:=by have h1:=(Vs.jS.mp hw.1).2.1;have h2:F.most≤12:=R.ok.K.most;have h1:[AE,F.most]:=h1;omega
  rw[369,r.length,[KQ,L,aC],.aj (aJ r),⟨_,J,a,l,_,_,J,J,aw,e1,[oM,show([[Dv,r.length]]).length+[fz,aJ,r]≤13 by rw[aC];rw[17]],λ b hnb=>k b [acd] _ ?_ ?_⟩]
  ·refine[aeG,[rq,r,J,?_,λ q hq=>hbf q ?_]];·have hw:[jb,isRow S.length F.most r,_]:=hw;rw[qt]at hw;exact hw
   ·rw[25,[jb,isRow S.length F.most q,_],qt,hq]
  ·rw[aw,bO,cP];rfl
end
end VP
end
section
namespace VP
open PySem L2
def HB(x q:Str)(L:a9)(V:[bd]):Prop:=[abj,km x q (mr L) (jA L) (aZ L) .none kV p z A j ct]
def eP(K:aF)(mg:[a_])(x:Str)(L:a9)(V:[bd]):Prop:=∃f v,[iW,x,L,v,V]
def oZ(K:aF)(q:Str)(L:a9)(C:ab)(V:[bd]):Prop:=∃f v,iM K q L C f v V
def ew(K:aF)(m q:Str)(L:a9)(C:ab)(V:[bd]):Prop:=∃f v,[gM,m,q,L,C,f,v,V]
section
variable{K:aF}{mg:[a_]}{h:aE}
theorem A9{x:Str}{L:a9}{V:[bd]}{f:ab}{r:ae}{g A:[sB]}{w:[Co]}{kV p z j ct:ae}(X:K.In h)(G:[wl])(b:HB x x L V)(a:[LN,Z [dU]])(l:[nM,f]=Z [O0,km x x (mr L) (jA L) (aZ L) .none kV p z A j ct])(c:[Lp,x])(k:[Oi]):[iW,x,L,km x x (mr L) (jA L) (aZ L) .none kV p z A j ct,V]:=by have F:=DW (st:=L) l c k;rw[1,F,jK X G a,F.binds b]
theorem qu{q:Str}{L:a9}{V:[bd]}{C f:ab}{r:ae}{g A:[sB]}{w:[Co]}{kV p z j ct:ae}(b:HB [AC] q L V)(a:[aaS])(l:[nM,f]=Z [O0,km [AC] q (mr L) (jA L) (aZ L) .none kV p z A j ct])(c:[Lp,q])(k:[Oi])(i:BM K [dU]=true)(m:Sa K C=true)(d:ph K [gv]=true):oZ K q L C V:=by have F:=DW (st:=L) l c k;rw[9,f,_,F,⟨m,a,i,d⟩,F.binds b]
theorem eD{m q:Str}{L:a9}{V:[bd]}{C f:ab}{r:ae}{g A:[sB]}{w:[Co]}{kV p z j ct:ae}(b:HB m q L V)(a:(cN K [gv] m)=Z (Z [dU]))(l:[nM,f]=Z [O0,km m q (mr L) (jA L) (aZ L) .none kV p z A j ct])(c:[Lp,q])(k:[Oi])(i:BM K [dU]=true):ew K m q L C V:=by have F:=DW (st:=L) l c k;rw[9,f,_,F,⟨a,i,k⟩,F.binds b]
end
theorem abE:HB "text_of" "text_of" qa [DW]:=[oW]
theorem abF:HB [To] [To] rK [xL]:=[wA]
theorem abG:HB [Pm] [Pm] uw [DJ]:=[zr]
theorem abH:HB "read_foot" "read_foot" ux [wq]:=[wA]
theorem abI:HB "is_way" "is_way" xg [wq]:=[wA]
theorem abJ:HB "read_cut" "read_cut" xh [Kf]:=[oW]
theorem abK:HB [Tx] [Tx] xj [KY]:=[oW]
theorem abL:HB "taken_by" "taken_by" xn [zm]:=[wA]
theorem abM:HB "runs_of" "runs_of" xp [zm]:=[wA]
theorem abN:HB [Nm] [Nm] qb [tN]:=[oW]
theorem abO:HB [Po] [Po] xq [[mj]]:=[wA]
theorem abP:HB [TD] [TD] uz [tN]:=[oW]
theorem abQ:HB "bits_of" "bits_of" rN [[mj]]:=[wA]
theorem abR:HB "needed" "needed" uC [MH]:=[zr]
theorem abS:HB "read_stock" "read_stock" uH [K1]:=[oW]
theorem abT:HB "read_word" "read_word" xB [xL]:=[wA]
theorem abU:HB "sounds_of" "sounds_of" xC [wS]:=[wA]
theorem abV:HB "sound_at" "sound_at" xD [NQ]:=[oW]
theorem abW:HB "vowels_of" "vowels_of" uI [wk]:=[wA]
theorem abX:HB [Tw] [Tw] xE [wk]:=[wA]
theorem abY:HB [PB] [PB] uJ [[zK]]:=[wA]
theorem abZ:HB [Tj] [Tj] xF [Fs]:=[oW]
theorem ab0:HB "shape_of" "shape_of" uK [wS]:=[wA]
theorem ab1:HB "settled" "settled" uL [[Az]]:=[wA]
theorem ab2:HB [Tn] [Tn] xG [FE]:=[oW]
theorem ab3:HB [Tv] [Tv] uU [J8]:=[zr]
theorem ab4:HB "sizes_of" "sizes_of" rV [K5]:=[oW]
theorem ab5:HB [Ih] [Ih] rL [Ft]:=[zr]
theorem ab6:HB [OP] [OP] oN ["hits"]:=[wA]
theorem ab7:HB [El] [El] rX [J6]:=[J1]
theorem ab8:HB [AC] [Wh] xf [KN]:=[zr]
theorem ab9:HB [AC] [WL] xk [KG]:=[abF]
theorem ab_:HB [AC] [Rj] uD [E9]:=[J1]
theorem aca:HB [AC] [WM] xr [E7]:=[J1]
theorem acb:HB [AC] [WF] xu [KO]:=[zr]
theorem acd:HB [AC] [VD] xy [IR]:=[zr]
theorem ace:HB [AC] [We] xH [K6]:=[oW]
theorem acf:HB [AC] [Wu] uV [KM]:=[J1]
theorem acg:HB [WA] [Wp] xl [A3]:=[oW]
theorem ach:HB [Ta] [Tb] uy [A3]:=[oW]
theorem aci:HB [WB] [Wq] xm [Ua]:=[oW]
theorem acj:HB "covers" "Lack.covers" uE [PM]:=[oW]
theorem ack:HB "add_lack" [WH] uF [PV]:=[oW]
theorem acm:HB [VV] [V3] xw [zV]:=[J1]
theorem acn:HB "hits" "Known.hits" rO [zV]:=[J1]
theorem aco:HB [VW] [Vl] xA [JS]:=[US]
theorem acp:HB "known_of" [YD] rP [m6]:=[oW]
theorem acq:HB [WC] [Vt] uG [m6]:=[oW]
theorem acr:HB "answer" [YL] rQ [K3]:=[US]
theorem acs:HB "search" [U3] oO [NO]:=[US]
theorem acu:HB "answer_with" [Yv] rT [PH]:=[abF]
theorem acv:HB [Wb] [Rk] uN [[ca]]:=[wA]
theorem acw:HB "is_end" [V6] uO [m6]:=[oW]
theorem acx:HB "targets" [VL] uP [vn]:=[zr]
theorem acy:HB [V0] [VE] uQ [vn]:=[zr]
theorem acz:HB [Q6] [Vk] xI [KL]:=[J1]
theorem acA:HB [OU] [Re] uT [Er]:=[J1]
theorem acB:HB "ways_on" [Wr] xM [LA]:=[zr]
theorem acC:HB "spot_at" [Ws] xK [KH]:=[US]
theorem acD:HB [VZ] [VC] xJ [LG]:=[zr]
theorem acE:HB [Q4] [Q9] uW [NL]:=[oW]
theorem acF:HB [Vq] [Vu] xN [KP]:=[zr]
theorem acG:HB "fits" "Search.fits" uX [LE]:=[zr]
theorem acH:HB "scans" "Search.scans" uY [rF]:=[oW]
theorem acI:HB "kinds_in" [Tc] rW [rF]:=[oW]
theorem acJ:HB [Th] [SL] uZ [rF]:=[oW]
theorem acK:HB [Rb] [Rf] u5 [Fa]:=[zr]
structure TopK(K:aF)(mg:[a_])(bN CK CC CL bo a d b:ab):Prop where
 B:el mg
 A_:[SB,b]
 sF:[B9,bN]
 Gs:[MD,CC]
 Gv:[M7,CL]
 Gx:[M4,CK]
 yt:[Ra,bo]
 mI:[zC,a]
 mJ:[CG,d]
 Gy:[li,"text_of",qa,[DW]]
 Gz:[li,[To],rK,[xL]]
 GD:[li,[Pm],uw,[DJ]]
 GG:[li,"read_foot",ux,[wq]]
 GH:[li,"is_way",xg,[wq]]
 GP:[li,"read_cut",xh,[Kf]]
 GQ:[li,[Tx],xj,[KY]]
 GR:[li,"taken_by",xn,[zm]]
 GU:[li,"runs_of",xp,[zm]]
 GV:[li,[Nm],qb,[tN]]
 GX:[li,[Po],xq,[[mj]]]
 GY:[li,[TD],uz,[tN]]
 GZ:[li,"bits_of",rN,[[mj]]]
 G7:[li,"needed",uC,[MH]]
 G8:[li,"read_stock",uH,[K1]]
 G9:[li,"read_word",xB,[xL]]
 G_:[li,"sounds_of",xC,[wS]]
 Ha:[li,"sound_at",xD,[NQ]]
 Hb:[li,"vowels_of",uI,[wk]]
 Hc:[li,[Tw],xE,[wk]]
 Hd:[li,[PB],uJ,[[zK]]]
 He:[li,[Tj],xF,[Fs]]
 Hf:[li,"shape_of",uK,[wS]]
 Hg:[li,"settled",uL,[[Az]]]
 Hh:[li,[Tn],xG,[FE]]
 Hi:[li,[Tv],uU,[J8]]
 Hj:[li,"sizes_of",rV,[K5]]
 Hk:oZ K [Wh] xf b [KN]
 Hl:oZ K [WL] xk bN [KG]
 Hm:oZ K [Rj] uD CC [E9]
 Hn:oZ K [WM] xr CL [E7]
 Ho:oZ K [WF] xu CK [KO]
 Hq:oZ K [VD] xy bo [IR]
 Hr:oZ K [We] xH a [K6]
 Hs:oZ K [Wu] uV d [KM]
 Ht:ew K [WA] [Wp] xl bN [A3]
 Ba:ew K [Ta] [Tb] uy bN [A3]
 Hu:ew K [WB] [Wq] xm bN [Ua]
 Hv:ew K "covers" "Lack.covers" uE CL [PM]
 Hw:ew K "add_lack" [WH] uF CK [PV]
 Hx:ew K [VV] [V3] xw CK [zV]
 Hy:ew K "hits" "Known.hits" rO CK [zV]
 Hz:ew K [VW] [Vl] xA bo [JS]
 HA:ew K "known_of" [YD] rP bo [m6]
 HC:ew K [WC] [Vt] uG bo [m6]
 HD:ew K "answer" [YL] rQ bo [K3]
 HE:ew K "search" [U3] oO bo [NO]
 HF:ew K "answer_with" [Yv] rT bo [PH]
 HG:ew K [Wb] [Rk] uN a [[ca]]
 HH:ew K "is_end" [V6] uO a [m6]
 HI:ew K "targets" [VL] uP a [vn]
 HJ:ew K [V0] [VE] uQ a [vn]
 HK:ew K [Q6] [Vk] xI a [KL]
 HL:ew K [OU] [Re] uT a [Er]
 HM:ew K "ways_on" [Wr] xM a [LA]
 HN:ew K "spot_at" [Ws] xK a [KH]
 HP:ew K [VZ] [VC] xJ a [LG]
 Bb:ew K [Q4] [Q9] uW d [NL]
 HQ:ew K [Vq] [Vu] xN d [KP]
 HR:ew K "fits" "Search.fits" uX d [LE]
 HS:ew K "scans" "Search.scans" uY d [rF]
 HU:ew K "kinds_in" [Tc] rW d [rF]
 HV:ew K [Th] [SL] uZ d [rF]
 HW:ew K [Rb] [Rf] u5 d [Fa]
 wd:Fy mg
 lp:Qe K mg
 vw:oY mg
 wt:AX mg
 bg:Qq mg
 rd:FV mg
 ms:Qv mg
 sc:ye mg
 si:Pz K mg
 iT:Cn mg "MOST_WAYS" 4
 room:[ZE]
 bound:Cn mg "BOUNDLESS" 1000
 nB:InstB K CC CC true
 nE:InstB K CL CC false
section
variable{P:aY}{w:aU}{K:aF}{mg:[a_]}{base:aE}
theorem QW{F:aS}{B d b:ab}(T:[Vj,B,d,b]):[y8]:=⟨T.sF,T.Gx,T.Gs,T.Gv,T.yt,T.Ht,T.Ba,T.Hu,T.Hm,T.Hn,T.Ho,T.Hv,T.Hw,T.Hx,T.Hy,T.bound,T.nB,T.nE,T.B⟩
theorem acL{F:aS}{B d b:ab}(T:[Vj,B,d,b])(R:j9 B F):sg K mg F B:=⟨T.mI,λ a h=>by rw[R.sc]at h;obtain⟨W,x,n,A,en,g,_⟩:=h.ex;rw[1,W,_,g]⟩
theorem acM{F:aS}{CS CSe CMe fCb cC:ab}{fdCb:bq}(FO:cw F)(R:j9 CS F)(T:[Vj,CS,CSe,CMe])(DCb:[PN,fCb,fdCb])(LB:oP base mg fdCb cC F.Pt):∃f fd,[mu,[Q4],[Q9],uW,CSe,f,fd,"after"]∧aA P w K mg base aG 63 f fd [NL] (AN K F CSe):=by
 obtain⟨W,u,C⟩:=T.Hz;obtain⟨f_known_of,fd_known_of,d⟩:=T.HA;obtain⟨f_steps_from,fd_steps_from,c⟩:=T.HC;obtain⟨f_answer,fd_answer,M_answer⟩:=T.HD;obtain⟨f_search,fd_search,M_search⟩:=T.HE;obtain⟨f_answer_with,fd_answer_with,M_answer_with⟩:=T.HF;obtain⟨f_first_stand,fd_first_stand,N⟩:=T.HG;obtain⟨e,g,M⟩:=T.HH;obtain⟨s,j,k⟩:=T.HI;obtain⟨f_find_targets,v,O⟩:=T.HJ;obtain⟨h,n,S⟩:=T.HK;obtain⟨f_spots_behind,z,l⟩:=T.HL;obtain⟨f_ways_on,fd_ways_on,M_ways_on⟩:=T.HM;obtain⟨f_spot_at,fd_spot_at,M_spot_at⟩:=T.HN;obtain⟨f_cut_can_come,fd_cut_can_come,M_cut_can_come⟩:=T.HP;obtain⟨A,B,V⟩:=T.Bb;obtain⟨o,m,b⟩:=T.HQ;obtain⟨f_fits,fd_fits,M_fits⟩:=T.HR;obtain⟨f_scans,fd_scans,M_scans⟩:=T.HS;obtain⟨f_kinds_in,fd_kinds_in,q⟩:=T.HU;obtain⟨f_stands_of,fd_stands_of,r⟩:=T.HV;obtain⟨L,p,a⟩:=T.HW;obtain⟨f_taken_by,fd_taken_by,y⟩:=T.GR;obtain⟨f_spoilers,fd_spoilers,D⟩:=T.GV;obtain⟨f_has_one_bit,fd_has_one_bit,D_has_one_bit⟩:=T.GX;obtain⟨f_common_bits,fd_common_bits,D_common_bits⟩:=T.GY;obtain⟨f_needed,fd_needed,D_needed⟩:=T.G7;obtain⟨f_bits_of,fd_bits_of,D_bits_of⟩:=T.GZ;obtain⟨U,t,i⟩:=T.He;obtain⟨f_tkw,fd_tkw,M_tkw⟩:=T.Ba;have GB:aA P w K mg base aG 2 f_spots_behind z [Er] [Ec,vd,CS]:=Zp l T.mI T.B M_ways_on M_cut_can_come M_spot_at T.sc.places;have GE0:aA P w K mg base aG 3 e g [m6] [Ec,EY,CS]:=Zt M T.mI T.sc l GB;have GW:aA P w K mg base aG 3 h n [KL] [Ec,AF,CS]:=ZC R.mi S T.mI T.sc T.si l GB;have GJ:aA P w K mg base aG 1 U t [Fs] ET:=Zd i T.wt.no T.wt.FL;have GFi:aA P w K mg base aG 4 f_find_targets v [vn] [Ec,Fb,CS]:=ZI R.mi O T.mI T.sc T.bg.any S GW i GJ;have GT:aA P w K mg base aG 5 s j [vn] [QT,xZ]:=ZQ FO R k T.mI O GFi;have GE:aA P w K mg base aG 3 e g [m6] [QT,x8]:=ZR FO R GE0;have G1:aA P w K mg base aG 1 f_first_stand fd_first_stand [[ca]] [Ec,Fe,CS]:=ZX N T.mI T.sc T.bg.any;have GK:aA P w K mg base aG 1 f_kinds_in fd_kinds_in [rF] (Ax K CSe):=Ze q T.mJ;have GTb:aA P w K mg base aG 2 f_taken_by fd_taken_by [zm] (En K F.bN):=Yr y M_tkw T.sF;have Gp:aA P w K mg base aG 5 f_spoilers fd_spoilers [tN] (xR F.Pt):=Yk D D_has_one_bit D_common_bits D_needed DCb D_bits_of T.B LB;have all:∀X:[aV],aA P w K mg base aG 62 o m [KP] (Fq [nF] CSe)∧aA P w K mg base aG 8 f_scans fd_scans [rF] (Fm K [nF] CSe):=λ X=>by have FX:=FO.with X;have RX:=R.with X;have TX:TopK K mg [nF].bN [nF].CK [nF].CC [nF].CL [nF].bo CS CSe CMe:=T;have G:jn K mg [nF]:=QW TX;have I:sg K mg [nF] CS:=acL TX RX;have gT:aA P w K mg base aG 5 s j [vn] (λ vs H Q E=>∃Y,xZ ([nF].with Y) vs H Q E):=GT;have gE:aA P w K mg base aG 3 e g [m6] (λ vs H Q E=>∃Y,x8 ([nF].with Y) vs H Q E):=GE;have gSt:aA P w K mg base aG 10 f_steps_from fd_steps_from [m6] (EF [nF]):=YY FX G I c k ((GT.mono [ac]).imp λ vs H Q E⟨x,hx⟩=>⟨x::X,hx⟩);have gO:aA P w K mg base aG 15 f_known_of fd_known_of [m6] (xW [nF]):=Y8 (fT:=s) (fdT:=j) FX G I d M ((GE.mono [ac]).imp λ vs H Q E hx=>⟨X,hx⟩) c gSt;have gC:aA P w K mg base aG 60 W u [JS] (EE [nF]):=YS FX G C M_answer M_search M_answer_with d gO D Gp;have gB:aA P w K mg base aG 6 L p [Fa] (AH [nF] CSe):=Z2 FX G I a T.mJ k gT;have gS:aA P w K mg base aG 7 f_stands_of fd_stands_of [rF] (AI K [nF] CSe):=Z4 FX G RX I r T.mJ a gB q GK N G1;have gF:aA P w K mg base aG 61 f_fits fd_fits [LE] (Fo K [nF] CSe):=Z6 FX G M_fits T.mJ T.room a gB q GK y GTb C gC;rw[0,Z9 FX G b T.mJ r gS M_fits gF,Z5 FX G I M_scans T.mJ r gS M gE]
 rw[21,A,B,V,aab FO (QW T) V T.mJ b (aA.Fu λ X=>(all X).1) M_scans (aA.Fu λ X=>(all X).2)]
theorem acN{bN CK CC CL bo CS CSe CMe CM CSt CA f fKo cK PtK fCb cC PtC:ab}{fd fdKo fdCb:bq}(T:TopK K mg bN CK CC CL bo CS CSe CMe)(D0:[iW,[El],rX,fd,[J6]])(NC:Gn mg)(EM:Gm K CM CSt CA)(X1:[Ms,CM])(X2:[Vy,CSt])(X3:[Zu,CA])(DKo:[eY,[Ih],rL,fKo,fdKo,[Ft]])(LK:oP base mg fdKo cK PtK)(DCb:[PN,fCb,fdCb])(LC:oP base mg fdCb cC PtC):aA P w K mg base aG 64 f fd [J6] (A8 K PtK PtC):=by
 obtain⟨f_text_of,fd_text_of,D⟩:=T.Gy;obtain⟨k,i,a⟩:=T.Gz;obtain⟨x,o,E⟩:=T.GD;obtain⟨f_read_foot,I,Q⟩:=T.GG;obtain⟨f_is_way,fd_is_way,U⟩:=T.GH;obtain⟨f_read_cut,fd_read_cut,V⟩:=T.GP;obtain⟨y,q,W⟩:=T.GQ;obtain⟨f_runs_of,fd_runs_of,D_runs_of⟩:=T.GU;obtain⟨L,B,Y⟩:=T.G8;obtain⟨f_read_word,M,b⟩:=T.G9;obtain⟨f_sounds_of,O,g⟩:=T.G_;obtain⟨f_sound_at,fd_sound_at,D_sound_at⟩:=T.Ha;obtain⟨f_vowels_of,N,p⟩:=T.Hb;obtain⟨S,s,r⟩:=T.Hc;obtain⟨f_weight_of,X,H⟩:=T.Hd;obtain⟨f_shape_of,fd_shape_of,d⟩:=T.Hf;obtain⟨f_settled,fd_settled,z⟩:=T.Hg;obtain⟨t,j,A⟩:=T.Hh;obtain⟨C,u,c⟩:=T.Hi;obtain⟨f_sizes_of,fd_sizes_of,h⟩:=T.Hj;obtain⟨f_Measure,fd_Measure,I_Measure⟩:=T.Hk;obtain⟨f_Kind,fd_Kind,I_Kind⟩:=T.Hl;obtain⟨G,v,l⟩:=T.Hq;obtain⟨f_Scanner,fd_Scanner,m⟩:=T.Hr;obtain⟨f_Search,fd_Search,n⟩:=T.Hs;obtain⟨f_frb,fd_frb,M_frb⟩:=T.Bb;have gT:aA P w K mg base aG 1 f_text_of fd_text_of [DW] (AS K):=Qa D T.B;have gSu:aA P w K mg base [gL] 1 x o [DJ] (A0 CM):=aaZ E T.B X1;have gWy:aA P w K mg base aG 1 f_is_way fd_is_way [wq] F0:=aa0 U T.B T.sc.places;have gFo:aA P w K mg base [gL] 2 f_read_foot I [wq] (F4 CM):=aa1 Q T.B T.iT X1 E gSu U gWy;have gNu:aA P w K mg base [gL] 1 y q [KY] (F5 CM):=aa2 W T.B X1;have gCu:aA P w K mg base [gL] 2 f_read_cut fd_read_cut [Kf] (F6 CM):=aa3 V T.B T.sc.places X1 W gNu;have gMe:aA P w K mg base [gL] 3 k i [xL] (F8 K CM CMe):=aa9 a T.B T.ms X1 D gT E gSu Q gFo V gCu I_Measure T.A_;have gRw:aA P w K mg base [gL] 2 f_read_word M [xL] (FW K CSt):=aaX b T.B T.rd X2 D;have gRs:aA P w K mg base [gL] 3 L B [K1] (FZ K CSt):=aaY Y T.B T.rd X2 b gRw;have gCh:aA P w K mg base [gL] 1 C u [J8] (Fw K CA):=aad c T.B X3;have gSn:aA P w K mg base aG 2 f_sounds_of O [wS] FC:=aax g T.B T.wd T.lp D_sound_at;have gVo:aA P w K mg base aG 1 f_vowels_of N [wk] FJ:=aaE p T.vw;have gCl:aA P w K mg base aG 1 S s [wk] FK:=aaF r T.vw;have gWt:aA P w K mg base aG 1 f_weight_of X [[zK]] AY:=Ql H T.B T.wt;have gVw:aA P w K mg base aG 2 t j [FE] FN:=aaI A T.B T.wt T.vw H;have gSe:aA P w K mg base aG 1 f_settled fd_settled [[Az]] (AZ K):=aaL z T.B T.wt;have gSh:aA P w K mg base aG 3 f_shape_of fd_shape_of [wS] FT:=aaR d T.B T.bg g gSn p gVo r gCl H gWt A gVw z gSe;have gSz:aA P w K mg base aG 1 f_sizes_of fd_sizes_of [K5] (F9 K):=aa_ h T.B T.room;have gKo:aA P w K mg base aG 3 fKo fdKo [Ft] (Gd K bN PtK):=abi DKo T.B LK I_Kind T.sF;have gSc:aA P w K mg base aG 1 f_Scanner fd_Scanner [K6] (Ff K CS CMe):=ZY m T.mI T.A_ T.B;have gCo:aA P w K mg base aG 2 G v [IR] (ES K bo bN):=Zc l T.yt T.sF D_runs_of;have gI:aA P w K mg base aG 4 f_Search fd_Search [KM] (Gk K CSe CS CMe bN CK CC CL bo PtK PtC):=abz n T.mJ T.sF d gSh h gSz DKo gKo m T.mI gSc l T.yt gCo;refine abD D0 T.B NC EM X1 X2 X3 a gMe Y gRs c gCh n T.mJ gI M_frb λ F FO R e=>?_
 obtain⟨e1,e2,e3,e4,e5,e6⟩:=e;have TF:[Vj,CS,CSe,CMe]:=by rw[e1,e2,e3,e4,e5];exact T
 have LF:oP base mg fdCb cC F.Pt:=[ap,e6,LC];obtain⟨f',fd',M',G'⟩:=acM (P:=P) (w:=w) FO R TF DCb LF;have q1:=M'.me.at_;have q2:=M_frb.me.at_;rw[q1]at q2;cases q2;have q3:fd'=fd_frb:=by obtain⟨oc,od,kV,doc,pm,an,cdv,ct,osl,_,lk,_⟩:=M'.fn.ex;obtain⟨oc',od',kV',doc',pm',an',cdv',ct',osl',_,lk',_⟩:=M_frb.fn.ex;rw[lk]at lk';cases lk';rfl
 rw[23,q3,G']
end
end VP
end
section
namespace VP
open PySem L2
structure yu(K:aF)(v:bq)(c Pt:ab):Prop where
 code:v.code=.ref c
 ex:∃o U,[nM,c]=Z o∧o.data=[vh,U]∧U[11]?=[b8,Pt]
 out:[nM,Pt]=none
structure Bc(K:aF)(x:Str)(C:ab):Prop where
 ns:[LN,Z [gv]]
 ok:PySem.W.excIn K C [Xy] "Exception.__new__"=true
def HX(K:aF)(mg:[a_])(I:ab):Prop:=∃(bN CK CC CL bo B d b a h j S m c u i s:ab)(v C e:bq),[cj,TopK K mg bN CK CC CL bo B d b,[eY,[El],rX,I,v,[J6]],Gn mg,Gm K a h j,[lk,Bc K "MeasureRefused" a,Bc K "StockRefused" h,Bc K "AfterRefused" j,[eY,[Ih],rL,S,C,[Ft]],yu K C m c,[PN,u,e],yu K e i s∧c≠s]]
def nK:ae→V|.int i _=>.int i|.ref a=>[bi]|_=>.bh
theorem nM:∀{U:[bu]}{f:[bv]},PyProof.Rows.IntsAre U f→U.map nK=[Pq]∧be (U.map nK) U|_,_,.nil=>[md,.nil]|_,_,.cons n t h=>by obtain⟨g,r⟩:=nM h;rw[0,by rw[bO,bO,g];rfl,.cons [eJ,t] r]
def HY(h:aE)(a:ab)(f:[bv]):Prop:=∃U:[bu],[zn,[Al,[ry],.seq U.toArray]]∧PyProof.Rows.IntsAre U f
theorem HZ{P:Params}{h:aE}{v:ae}{f:[bv]}(w:PySem.W.Well P h v (.list (f.map PySem.W.WData.int))):∃a,v=[bi]∧HY h a f:=by cases w with|list E I=>rw[9,_,J,_,E,MP.WG f _ I]
theorem QX{P:Params}{h:aE}:∀{U:[bu]}{L:List [bv]},PySem.W.WellAll P h U (L.map λ w=>PySem.W.WData.list (w.map PySem.W.WData.int))→∃c:[aV],(U=[WU]∧(Paired (HY h) c L))|U,[],w=>by cases w;rw[1,[],J,.nil]|U,x::L,w=>by cases w with|cons l I=>obtain⟨a,rfl,ha⟩:=HZ l;obtain⟨c,rfl,u⟩:=QX I;rw[1,a::c,J,.cons ha u]
theorem Bd:∀c:[aV],[WU].map nK=[Ig]∧be ([WU].map nK) [WU]|[]=>[md,.nil]|a::c=>by obtain⟨g,r⟩:=Bd c;rw[0,by rw[bO,bO,bO,g];rfl,.cons J r]
abbrev jH(U:[bu]):Obj:=[Al,[ry],.seq U.toArray]
open Classical in noncomputable def H0(K:aF)(h:aE)(Ls:[aV])(PtK PtC:ab):Hp:=λ b=>if[nM,b]≠none then none else[um,b=PtK∨b=PtC,Z,.je #[],if e:b∈Ls∧∃vs,[pW]=Z (jH vs)then Z (.iG (jH (sV e.2)) (.aj ((sV e.2).map nK)))else none]
section
variable{K:aF}{h:aE}{Ls:[aV]}{PtK PtC:ab}
theorem yw{U v:[bu]}(e:jH U=jH v):U=v:=by injection e with _ _ e1;injection e1 with e2;exact ed BO e2
theorem acO{b:ab}{U:[bu]}(t:[nM,b]=none)(a:b∈Ls)(E:[pW]=Z (jH U))(g:b≠PtK)(r:b≠PtC):[XI,h]=Z (.iG (jH U) (.aj (U.map nK))):=by have e:b∈Ls∧∃U,[pW]=Z (jH U):=⟨a,U,E⟩;unfold H0;rw[aD (by rw[16,t]),aD (λ z=>z.elim g r),dif_pos e];have q:=yw [dj,E.symm.trans (sP e.2)];rw[←q]
theorem vn{b:ab}{o:HO}(e:[XI,h]=Z o):[nM,b]=none∧(((b=PtK∨b=PtC)∧o=.je #[])∨(b∈Ls∧∃U,[pW]=Z (jH U)∧o=.iG (jH U) (.aj (U.map nK)))):=by
 unfold H0 at e;by_cases t:[nM,b]≠none;·rw[34,aI t]
 ·rw[aD t]at e;rw[15,kT (λ z=>t z),?_];by_cases X:b=PtK∨b=PtC;·rw[aI X]at e;rw[46,⟨X,[wv,e]⟩]
  ·rw[aD X]at e;by_cases a:b∈Ls∧∃U,[pW]=Z (jH U);·rw[75,dif_pos a,[rq,a.1,_,sP a.2,[wv,e]]]
   ·rw[34,dif_neg a]
theorem QY{b:ab}(t:[nM,b]=none)(a:b=PtK∨b=PtC):[XI,h]=Z (.je #[]):=by unfold H0;rw[aD (by rw[16,t]),aI a]
theorem acP{P:aY}{w:aU}{K:aF}{mg N:[a_]}{I:ab}{k:bq}{L:aq}{us:[bu]}{vs:[aw]}{H:Hp}{sp:Sp}{l:[bd]}{Q:VK}(KX:K.In L.heap)(R:L.heap.Ns b_ mg)(f:L.heap.Ns yT N)(G:∀x:Str,x≠[Np]→N x=vK x)(C:L.heap.NoLimit)(p:L.gens=#[])(aH:di P w H L.heap)(t:[pO,H b,[nM,b]=none])(Y:∀b o u,H b=Z u→L.heap.get? b=Z o→∀T B,o.data≠.dict T B)(j:cy 64 callerA)(F:[adU,N,L.heap.get?,H b,aA P w K mg base aG 64 I k l sp])(y:BindsTo L k [yg,us] (l.zip us))(O:be vs us)(s:sp vs H Q [Tk]):mT (aM P w) callerA (.call (.ref I) [yg,us]) (λ r i=>∃u v a,[lk,r=.ok (.ret u),i.os=L.os,PyProof.Rows.AllBare i.gens,Un [] [] H a L.heap i.heap,di P w a i.heap,bw v u,Q v a]) L:=by
 have S:∀{b:ab}{o:Obj},L.heap.get? b=Z o→H b=none→[PD].get? b=Z o:=λ e n=>Ux e n
 have E:∀{b:ab}{o:Obj}{T:Array i_}{B:Nat},L.heap.get? b=Z o→o.data=.dict T B→H b=none:=λ{b o T B}e d=>by cases q:H b with|none=>rfl|some u=>rw[8,d,Y b o u q e T B]
 have z:∀{b:ab}{m:[a_]},L.heap.Ns b m→[PD].Ns b m:=λ{b m}⟨o,T,B,e,d,r⟩=>⟨o,T,B,S e (E e d),d,r⟩
 have U:K.In [PD]:=λ b o e=>S (KX b o e) (by cases q:H b with|none=>rfl|some u=>rw[34,t b u q])
 have X:[PD].NoLimit:=let⟨mc,g,c⟩:=C;⟨mc,z g,c⟩
 have hM:Mod K mg [PD]:=⟨U,z R,⟨N,z f,G⟩,X⟩;have M:rx P w K mg [PD] callerA [] L H:=⟨J,hM,λ b o e=>Uy e,mP (Uw _ _),mU,λ b f=>[JO,show b∈([]:[aV])from f],aH,.of_eq p⟩;refine Jz ((F _ U (z R) (z f) X λ b o e n=>S e n).run callerA [] L H [yg,us] us vs _ _ j M y O s) λ r i h=>?_
 cases r with|error e=>exact js h|ok fl=>cases fl with|next=>exact js h|brk=>exact js h|cont=>exact js h|ret u=>obtain⟨v,a,os,D,un,W,A,q⟩:=h;exact⟨u,v,a,J,os,D,un,W,A,q⟩
end
end VP
end
section
namespace VP
open PySem L2
theorem tab_of{K:aF}{q:aY}{M:[bd]}{S:ExcName→[Am]}{mg N:[a_]}{h:aE}{x:Str}{L:a9}{f c Pt:ab}{v:bq}{V:[bd]}(T:PyProof.Rows.Top q M S mg N h)(W:K.In h)(D:[iW,x,L,v,V])(G:yu K v c Pt)(F:∃d,[ZA,x]=Z d):h.IsCode c Pt #[]∧h.TableAt c Pt #[]:=by obtain⟨d,F⟩:=F;have hn:d.name=x:=beq_iff_eq.mp (List.find?_some (p:=λ e:PySem.DefRec=>e.name==x) F);obtain⟨a,o,O,s,P,g,r,b,w,m,H⟩:=T.tab d (List.mem_of_find?_eq_some F);rw[hn,D.mg]at g;cases g;obtain⟨l,i,kV,k,z,A,j,ct,t,_,I,_⟩:=D.fn.ex;have R:=W _ _ I;rw[r]at R;cases R;have b:Data.func v=Data.func O:=b;injection b with b;subst b;rw[G.code]at w;cases w;obtain⟨Q,U,k1,k2,k3⟩:=G.ex;have C:=W _ _ k1;obtain⟨⟨u,E,e1,e2,B,n⟩,y⟩:=id H;rw[C]at e1;cases e1;rw[k2]at B;cases B;rw[k3]at n;cases n;rw[0,m,H]
theorem Be{K:aF}{h:aE}{L:[aV]}{c s a:ab}{U:[bu]}{N:[aw]}(W:K.In h)(b:a∈L)(E:[zn,jH U])(A:U.map nK=N)(O:be (U.map nK) U)(X:U.length≤aQ)(g:a≠c)(r:a≠s):ax K (H0 K h L c s) a N:=by subst A;cases C:[nM,a]with|none=>rw[46,[jl,jH U,acO C b E g r]]|some o=>have e:=W a o C;rw[76,E,.inr ⟨_,U.toArray,_,C,J,J,J,[ap,dN,X],by rw[94]⟩]
theorem H_{f:[bv]}(h:∀z∈f,0≤z):aJ (f.map jt)=[Pq]:=by show qK nV (qK jt f)=_;rw[13,cP,iD λ z M=>?_];show[Dv,z.toNat]=(V.int z);rw[Int.toNat_of_nonneg (h z M)]
theorem readsAll_ints{R:PySem.W.WRecords}{N:Str→[sB]}{h:aE}:∀{i:[bv]}{m:[bu]},be (i.map V.int) m→PySem.W.ReadsAllW R N h m (i.map PySem.W.WData.int) []|[],_,.nil=>.nil|z::i,_,.cons r t=>by rw[128,r,.cons (.int z Y) (readsAll_ints t)]
def QZ:Prop:=∀(most:Int)(j P:[bv])(L:List [bv])(i:[bv]),[cI,0≤most,[S_,j,0],[S_,P,0],∀l∈L,[qe,100]∧[S_,l,1],A7 (j.map jt) (P.map jt) (L.map λ l=>l.map jt) most.toNat i→i=Sd most j P L]
open PySem.W in theorem acQ{q:aY}{loose:[bd]}{XP:[dF,[a_],aE]}{YP:[dF,aU,aE]}{d:PySem.DefRec}{K:Params→aF}(hdf:d.params.defaults=[])(hdn:d.name=[El])(hY:∀(w:aU)(h:aE),YP w h→(K w.params).In h)(hk:∃dk,[ZA,([Ih]:Str)]=Z dk)(hc:∃dk,[ZA,([OP]:Str)]=Z dk)(Fk:∀(w:aU)(mg:[a_])(fa:ab)(h:aE),((K w.params).In h→h.Ns b_ mg→mg [El]=[b8,fa]→HX (K w.params) mg fa))(hpure:QZ):WalkOS q loose XP YP PySem.Challenge.rw_versestock_s01_next_row d [] (λ f vs=>PySem.call f vs):=by
 intro w s₀ s₁ mg mb G Y fa o pm cd doc dV kV ho hd hcd hD hmg hg args vals as hpre hlay hrd hwl hlo;have KX:=hY w _ Y;obtain⟨bN,CK,CC,CL,bo,CS,CSe,CMe,CM,CSt,CA,fKo,cK,PtK,fCb,cC,PtC,fd,fdKo,fdCb,TK,D0,NC,EM,E1,E2,E3,DK,tbK,DC,tbC,hne⟩:=Fk w mg fa _ KX G.T.g [cm,hdn,hmg];generalize K w.params=K at*;cases hde:Codec.decAll PySem.Challenge.rw_versestock_s01_next_row.args args with
  |none=>unfold OpenSpec.pre at hpre;rw[hde]at hpre;cases hpre
  |some a=>
   obtain⟨hargs,hwi⟩:=Codec.encAll_of_decAll _ _ _ hde;obtain⟨most,ms,af,st,u0⟩:=a;have hwi:(yQ 0 4294967295 most&&(BP 0 1000 (yQ 0 255) ms&&(BP 0 300 (yQ 0 255) af&&(BP 0 100 (BP 0 100 (yQ 1 255)) st&&true))))=true:=hwi;have hargs:args=[.int most,.list (ms.map WData.int),.list (af.map WData.int),.list (st.map λ l=>WData.list (l.map WData.int))]:=hargs;simp only[dO,Jp]at hwi;obtain⟨w1,w2,w3,w4⟩:=hwi;have wI:∀{lo hi z:Int},yQ lo hi z=true→lo≤z∧z≤hi:=λ h=>Codec.inInt_iff.mp h
   have wL:∀{α:Type}{k:Nat}{p:[ii,α]}{l:List α},BP 0 k p l=true→[qe,k]∧∀x∈l,p x=true:=λ{α k p l}h=>by have h:(Codec.inLen 0 k l&&l.all p)=true:=h;rw[dO]at h;rw[0,(Codec.inNat_iff.mp h.1).2,List.all_eq_true.mp h.2]
   have b1:=wI w1;have b2:=wL w2;have b3:=wL w3;have b4:=wL w4;rw[hargs]at hwl;obtain⟨v1,r1,rfl,q1,hwl⟩:=Jj hwl;obtain⟨v2,r2,rfl,q2,hwl⟩:=Jj hwl;obtain⟨v3,r3,rfl,q3,hwl⟩:=Jj hwl;obtain⟨v4,r4,rfl,q4,hwl⟩:=Jj hwl;cases hwl;obtain⟨t,rfl⟩:∃t,v1=.int most t:=by cases q1;rw[29,J]
   obtain⟨ma,rfl,mvs,mo,mi⟩:=HZ q2;obtain⟨aa,rfl,avs,ao,ai⟩:=HZ q3;obtain⟨sa,sas,rfl,so,hsas⟩:∃sa sas,v4=[rs]∧(s₁.heap.get? sa=Z (jH (sas.map Value.ref))∧(Paired (HY s₁.heap) sas st)):=by cases q4 with|list ho hall=>obtain⟨sas,rfl,h⟩:=QX hall;rw[9,_,sas,J,ho,h]
   obtain⟨icK,taK⟩:=tab_of G.T KX DK tbK hk;obtain⟨icC,taC⟩:=tab_of G.T KX DC tbC hc;have nl:∀{b:ab}{vs:[bu]},[OY]=Z (jH vs)→b≠PtK∧b≠PtC:=λ{b vs}e=>by
    rw[5];·rintro rfl;rw[88,taK.2,e]
    ·rintro rfl;rw[88,taC.2,e]
   generalize hLs:ma::aa::sa::sas=Ls;have mL:ma∈Ls:=by rw[←hLs];simp
   have aL:aa∈Ls:=by rw[←hLs];simp
   have sL:sa∈Ls:=by rw[←hLs];simp
   have ssL:∀b∈sas,b∈Ls:=λ b hb=>by rw[←hLs];simp[hb]
   have small:∀{n k:Nat},n≤k→k≤1000→n≤aQ:=λ h1 h2=>[oM,bf h1 h2]
   have hml:[lm,mvs.length]:=[ap,mi.length,b2.1];have hal:avs.length≤300:=[ap,ai.length,b3.1];have hsl:sas.length=st.length:=[CJ,hsas];have lenL:∀b∈Ls,∀vs,[OY]=Z (jH vs)→vs.length≤aQ∧be (vs.map nK) vs:=λ b hb vs e=>by rw[←hLs]at hb;rw[211,yw [dj,mo.symm.trans e],small hml [bj],nM mi];·rw[211,yw [dj,ao.symm.trans e],small hal [bj],nM ai];·rw[211,yw [dj,so.symm.trans e],by rw[12,aC,hsl,small b4.1 [bj]],Bd sas];·obtain⟨i,hi,ei⟩:=gY hb;obtain⟨x,hx,xvs,xo,xi⟩:=[OR,hsas,b,hi,ei];have:=yw [dj,xo.symm.trans e];subst this;rw[55,[wJ,?_,nM xi],xi.length,small (wL (b4.2 x (bt hx))).1 [bj]]
   have aH:di PySem.Challenge.rw_versestock_s01_next_row.prog w (H0 K s₁.heap Ls PtK PtC) s₁.heap:=λ b u e=>by
    obtain⟨_,⟨hb,rfl⟩|⟨hb,vs,hvs,rfl⟩⟩:=vn e;·rw[116,hb,taK.2,taC.2]
    ·obtain⟨l1,l2⟩:=lenL b hb vs hvs;rw[37,hvs,[nj,l1],vs,_,l2,hvs]
   have free:∀{b:ab}{o:Obj},([OY]=Z o→o.cls≠[Mr]→o.cls≠.none→[OG]=none):=λ{b o}e n1 n2=>by
    cases z:[OG]with
     |none=>rfl
     |some u=>
      exfalso;obtain⟨_,⟨hb,_⟩|⟨_,vs,hvs,_⟩⟩:=vn z
      ·rcases hb with rfl|rfl;·rw[76,taK.2,n2 J]
       ·rw[76,taC.2,n2 J]
      ·rw[76,hvs,n1 J]
   have hND:∀b o u,[OG]=Z u→[OY]=Z o→∀es ep,o.data≠.dict es ep:=λ b o u e eo es ep hdd=>by
    obtain⟨_,⟨hb,_⟩|⟨_,vs,hvs,_⟩⟩:=vn e
    ·rcases hb with rfl|rfl;·rw[taK.2]at eo;rw[61,eo,hdd]
     ·rw[taC.2]at eo;rw[61,eo,hdd]
    ·rw[hvs]at eo;rw[61,eo,hdd]
   have gN:∀{b:ab}{ps:[lc]},[OY]=Z [QY,ps]→b_≠b:=λ{b ps}e z=>by obtain⟨og,es,ep,e1,e2,_⟩:=G.T.g;rw[z,e]at e1;rw[61,e1,e2]
   have lam:∀{base:aE}{fd:bq}{c Pt:ab},[cI,[EI,s₁.heap.get?,[OG],base.get? b=Z o],yu K fd c Pt,s₁.heap.IsCode c Pt #[],s₁.heap.TableAt c Pt #[],[Tu,fd]]:=λ{base fd c Pt}hbs tk ic ta=>by
    rw[18,tk.code,?_,?_,gN ta.2];·obtain⟨o1,vs,file,tf,flags,tg,inF,text,tt,e1,e2,r⟩:=CodeHd.of ic ta;exact⟨o1,vs,file,tf,flags,tg,inF,text,tt,hbs c o1 e1 [acH,e1,e2],e2,r⟩
    ·obtain⟨bm,ob,e1,e2,e3,e4,e5,e6⟩:=G.T.bmain;refine⟨bm,ob,e1,e2,?_,?_,hbs bm ob e3 [acH,e3,e4],e4,e5,e6⟩;·rw[54];obtain⟨og,es,ep,g1,g2,_⟩:=G.T.g;rw[e3]at g1;cases g1;rw[e6]at g2;cases g2
     ·rintro rfl;rw[ta.2]at e3;rw[61,e3,e4]
   have TR:=topRead_of G.T;have hF:[adU,mb,s₁.heap.get?,[OG],aA PySem.Challenge.rw_versestock_s01_next_row.prog w K mg base aG 64 fa fd [J6] (A8 K PtK PtC)]:=λ base k1 k2 k3 k4 k5=>by have TB:TopRead q (looseW q loose) mg mb base:=⟨k2,k3,k4,TR.builtins,TR.free⟩;exact acN TK D0 NC EM (own_of_in k1 TB E1.ns E1.ok) (own_of_in k1 TB E2.ns E2.ok) (own_of_in k1 TB E3.ns E3.ok) DK (lam k5 tbK icK taK) DC (lam k5 tbC icC taC)
   have nn:∀{ns:[bv]},(∀z∈ns,yQ 0 255 z=true)→[S_,ns,0]:=λ h z hz=>wI (h z hz)
   have hst:∀l∈st,[qe,100]∧[S_,l,1]:=λ l hl=>⟨(wL (b4.2 l hl)).1,λ z hz=>wI ((wL (b4.2 l hl)).2 z hz)⟩
   let Q:VK:=λ v H'=>∃(l:ab)(zs:[bv]),v=[lf]∧A7 (ms.map jt) (af.map jt) (st.map λ l=>l.map jt) most.toNat zs∧H' l=Z (.aj (zs.map V.int))
   have hsp:A8 K PtK PtC [OQ,nV most.toNat] (H0 K s₁.heap Ls PtK PtC) Q [Tk]:=by
    refine⟨ma,aa,sa,sas,most.toNat,ms.map jt,af.map jt,st.map λ l=>l.map jt,J,?_,?_,?_,?_,[nj,b2.1],[nj,b3.1],[nj,b4.1],λ x hx=>?_,?_,⟨#[],QY tbK.out [de],mU,[de]⟩,⟨#[],QY tbC.out (.inr J),mU,[de]⟩,hne,λ l zs H' ha hl=>[hJ,l,zs,ha,hl]⟩;rw[39,H_ λ z hz=>(nn b2.2 z hz).1,Be KX mL mo (nM mi).1 (nM mi).2 (lenL _ mL _ mo).1 (nl mo).1 (nl mo).2,H_ λ z hz=>(nn b3.2 z hz).1,Be KX aL ao (nM ai).1 (nM ai).2 (lenL _ aL _ ao).1 (nl ao).1 (nl ao).2];·exact(Be KX sL so (Bd sas).1 (Bd sas).2 (lenL _ sL _ so).1 (nl so).1 (nl so).2)
    ·refine Az [nj,hsl] λ i b x hb hx=>?_
     rw[cJ]at hx;obtain⟨y,hy,rfl⟩:=[Q_,hx];obtain⟨y',hy',xvs,xo,xi⟩:=d6 hsas hb;rw[hy]at hy';cases hy';have bL:=ssL b (bt hb);rw[4,H_ λ z hz=>Int.le_trans [bj] ((hst y (bt hy)).2 z hz).1,Be KX bL xo (nM xi).1 (nM xi).2 (lenL _ bL _ xo).1 (nl xo).1 (nl xo).2]
    ·obtain⟨y,hy,rfl⟩:=[bE,hx];rw[4,aC,(hst y hy).1]
    ·intro b xs e;obtain⟨_,⟨_,z⟩|⟨_,vs,_,z⟩⟩:=vn e;·cases z
     ·cases z
   refine enter_call (Jz (acP (us:=[OQ,.int most t]) (vs:=[OQ,nV most.toNat]) (Q:=Q) KX G.T.g G.T.b G.T.builtins G.T.nolimit hg aH (λ b u e=>(vn e).1) hND ⟨J,[bj],[bj]⟩ hF (D0.b s₁ [OQ,.int most t] KX J) [J4,⟨t,by rw[Int.toNat_of_nonneg b1.1]⟩,J,[zg,J,J]] hsp) λ r s' hq=>?_);obtain⟨u,v,H',rfl,os,bare,un,hok',rv,l,zs,rfl,hans,hl⟩:=hq;cases rv;obtain⟨_,its,n,vr,hobj⟩:=(show cU _ _ H' s'.heap l (.aj (zs.map V.int))from hok' l _ hl);have hz:=hpure most ms af st zs b1.1 (nn b2.2) (nn b3.2) hst hans;rw[18,.inl ⟨[lf],.list (zs.map WData.int),[l],J,λ _=>J,.list hobj J J [aB,readsAll_ints vr],os_post hde ?_,λ z=>by cases z⟩,⟨λ b ob e=>?_,λ b ob e=>un.there b ob e [al]⟩,os,bare];·rw[25,same (.list (zs.map WData.int)) (.list ((Sd most ms af st).map WData.int))=true,hz,same_self _]
   ·cases z:[OG]with
     |none=>rw[46,un.keep b ob e z [al] [al]]
     |some u=>
      obtain⟨_,⟨hb,rfl⟩|⟨hb,vs,hvs,rfl⟩⟩:=vn z
      ·obtain⟨more,z2⟩:=un.jW b _ z;have e2:s'.heap.get? b=Z [QY,#[]++more]:=hok' b _ z2;have ic:isCodeTable s₁.heap b∧[OY]=Z [QY,#[]]:=by rw[116,hb,[wJ,taK.isCodeTable,taK],[wJ,taC.isCodeTable,taC]]
       rw[76,ic.2,.inr (.inl ⟨ic.1,J,#[],more,J,e2⟩)]
      ·have z2:=un.jV b _ _ z;obtain⟨e2,_⟩:=(show cU _ _ H' s'.heap b (.iG _ _)from hok' b _ z2);rw[76,hvs,.inl e2]
end VP
end
section
namespace VP
open PySem L2
def acR:[ii,ae]|.str _ _=>true|_=>false
section
variable{K:aF}{mg:[a_]}{h:aE}
theorem eY{x:Str}{L:a9}{V:[bd]}{f:ab}{r:ae}{g A:[sB]}{w:[Co]}{kV p z j ct:ae}(X:K.In h)(G:[wl])(b:HB x x L V)(a:[LN,Z [dU]])(l:[nM,f]=Z [O0,km x x (mr L) (jA L) (aZ L) .none kV p z A j ct])(c:[Lp,x])(k:[Oi]):[li,x,L,V]:=⟨f,_,A9 X G b a l c k⟩
theorem gX{x:Str}{n:Nat}{t:Tok}(X:K.In h)(G:[wl])(a:[LN,Z (.int [cY] t)]):Cn mg x n:=⟨_,(jK X G a),t,J⟩
theorem Bf{x:Str}{n:Int}{t:Tok}(X:K.In h)(G:[wl])(a:[LN,Z (.int n t)]):[DV,x,.int n]:=⟨_,(jK X G a),t,J⟩
theorem sG{x y:Str}{t:Tok}(X:K.In h)(G:[wl])(a:[LN,Z (.str y t)]):Cs mg x y:=⟨_,(jK X G a),t,J⟩
theorem Q0{x:Str}{a:ab}{g r t c:Str}{b w o y:Tok}{p:[sB]}{n:Nat}{Y:[Co]}(X:K.In h)(G:[wl])(e:[LN,[lA]])(l:[nM,a]=Z ⟨[Kc],p,.seq #[.str g b,.str r w,.str t o,.str c y] n,Y⟩):[aa8,x,[.str g,.str r,.str t,.str c]]:=⟨a,jK X G e,λ _=>.inr ⟨_,_,_,l,J,J,by rw[84,4],[J4,[eJ,b],[eJ,w],[zg,[eJ,o],[eJ,y]]]⟩⟩
theorem acS{u v:Tok}(X:K.In h)(G:[wl])(a:(dC K b_ "LONG")=Z (Z (.str "A" u)))(b:(dC K b_ "SHORT")=Z (Z (.str "a" v)))(g:u≠0)(r:v≠0)(P:u≠v):oY mg:=⟨u,v,(jK X G a),jK X G b,g,r,P⟩
theorem Q3{x:Str}{L:a9}{c Pt:ab}{kV p z ct:ae}{A:[sB]}{r:ae}{g:[sB]}{U:[lc]}{Y:[Co]}(l:[nM,c]=Z ⟨r,g,[vh,U],Y⟩)(v:U[11]?=[b8,Pt])(n:[nM,Pt]=none):yu K (km x x (mr L) (jA L) (aZ L) .none kV p z A (.ref c) ct) c Pt:=⟨J,[jp,_,U,l,v],n⟩
theorem Ia{x:Str}{C N:ab}{p:[sB]}{k:ClassData}{n k1 k2 k3 m:[Am]}{Q:ae}{u:[sB]}{T:List i_}{B:Nat}{o:[Co]}(h:[LN,Z [gv]])(l:[nM,C]=Z ⟨.type "type",p,.cls k,#[n,k1,k2,k3,Z [oD,"Exception.__new__"],m]⟩)(f:k.mro=[[gv],(.type "Exception"),(.type "BaseException"),[Vz]])(d:[aX,k.hasDel])(v:k.ns=N)(j:[nM,N]=Z ⟨Q,u,.dict T.toArray B,o⟩)(s:(T.all λ e=>acR e.key)=true)(i:dC K N [AC]=(Z none)):Bc K x C:=by
 rw[15,h,?_];subst v;have g:PySem.W.nsOkIn K k.ns=true:=by
  unfold PySem.W.nsOkIn;rw[j];simp only[List.all_toArray];refine List.all_eq_true.mpr λ e R=>?_
  have q:=[Te,s,e,R];cases c:e.key with|str a b=>rfl|_=>rw[90,c]
 have r:PySem.W.tailIn K [Xy] [Xy]=true:=by unfold PySem.W.tailIn;simp
 unfold PySem.W.excIn;rw[l];simp only[f,d,g,r,i];simp
theorem acT{I f:ab}(X:K.In h)(G:[wl])(g:mg [El]=[b8,I])(a:(dC K b_ [El])=Z (Z [dU]))(T:HX K mg f):HX K mg I:=by have:=(jK X G a).symm.trans g;rw[6,this,T]
theorem acU(X:K.In h)(G:[wl])(d:[ww,"max"])(k:[ww,"min"])(P:[ww,"len"])(r:[ww,"any"])(N:[ww,"all"])(T:[ww,[ry]])(g:[ww,"tuple"])(z:[ww,"set"])(b:[ww,"sorted"])(m:[ww,"sum"])(c:[ww,"range"])(e:[ww,[zJ]])(f:[ww,"zip"])(a:[ww,[Nv]])(i:[ww,"isinstance"])(j:[ww,"ord"])(l:[ww,"str"]):el mg:=⟨jr X G d,jr X G k,jr X G P,jr X G r,jr X G N,jr X G T,jr X G g,jr X G z,jr X G b,jr X G m,jr X G c,jr X G e,jr X G f,jr X G a,jr X G i,jr X G j,jr X G l⟩
theorem acV{C:ab}(X:K.In h)(G:[wl])(a:[LU,"Measure"])(pg:[JU])(b:[Dl])(o:[E6])(sa:[Ev])(c:[ib,"feet"])(E:[ib,"cuts"]):[SB,C]:=by rw[105];match i,F with|0,F=>rw[6,F,c]|1,F=>rw[6,F,E]|k+2,F=>simp[mB]at F
theorem acW{C:ab}(X:K.In h)(G:[wl])(a:[LU,"Kind"])(pg:[JU])(b:[Dl])(o:[E6])(sa:[Ev])(c:[ib,"numbers"])(E:[ib,"shape"])(D:[ib,"size"])(S:[ib,"lowest"])(d:[ib,"highest"])(w:[ib,"bits"]):[B9,C]:=by rw[105];match i,F with|0,F=>rw[6,F,c]|1,F=>rw[6,F,E]|2,F=>rw[6,F,D]|3,F=>rw[6,F,S]|4,F=>rw[6,F,d]|5,F=>rw[6,F,w]|k+6,F=>simp[fR]at F
theorem acX{C:ab}(X:K.In h)(G:[wl])(a:[LU,"Completion"])(pg:[JU])(b:[Dl])(o:[E6])(sa:[Ev])(c:[ib,"needs"])(E:[ib,[Cb]])(D:[ib,"size"]):[MD,C]:=by rw[105];rw[204,d7]
theorem acY{C:ab}(X:K.In h)(G:[wl])(a:[LU,"Lack"])(pg:[JU])(b:[Dl])(o:[E6])(sa:[Ev])(c:[ib,[wG]])(E:[ib,[Cb]])(D:[ib,"size"]):[M7,C]:=by rw[105];rw[204,dI]
theorem acZ{C:ab}(X:K.In h)(G:[wl])(a:[LU,"Known"])(pg:[JU])(b:[Dl])(o:[E6])(sa:[Ev])(c:[ib,"steps"])(E:[ib,"completions"])(D:[ib,"lacks"]):[M4,C]:=by rw[105];rw[204,fU]
theorem ac0{C:ab}(X:K.In h)(G:[wl])(a:[LU,"Completions"])(pg:[JU])(b:[Dl])(o:[E6])(sa:[Ev])(c:[ib,"scanner"])(E:[ib,"kinds"])(D:[ib,"runs"])(S:[ib,"known"])(d:[ib,"known_by_steps"]):[Ra,C]:=by rw[105];rw[317,F,c,E,D,S,d,k,5,lI]
theorem ac1{C:ab}(X:K.In h)(G:[wl])(a:[LU,"Scanner"])(pg:[JU])(b:[Dl])(o:[E6])(sa:[Ev])(c:[ib,"feet"])(E:[ib,"cuts"])(D:[ib,"last_cuts"])(S:[ib,"end"])(d:[ib,"known_targets"]):[zC,C]:=by rw[105];rw[317,F,c,E,D,S,d,k,5,eM]
theorem ac2{C:ab}(X:K.In h)(G:[wl])(a:[LU,"Search"])(pg:[JU])(b:[Dl])(o:[E6])(sa:[Ev])(c:[ib,"scanner"])(E:[ib,"completions"])(D:[ib,"most"])(S:[ib,"kind_by_number"]):[CG,C]:=by rw[105];match i,F with|0,F=>rw[6,F,c]|1,F=>rw[6,F,E]|2,F=>rw[6,F,D]|3,F=>rw[6,F,S]|k+4,F=>simp[gk]at F
end
end VP
end
section
namespace VP
open Kgz1(Sound)
def jq:Sound→Nat|.vowel true=>65|.vowel false=>97|.cons c=>c
theorem ac3{c:Nat}(h:k7 c=true):[aX,lV c]:=by unfold k7 at h;unfold lV;rw[14];rcases h with rfl|rfl|rfl|rfl|rfl|rfl<;>rfl
theorem ac4{c d:Nat}(h:mR c d=true):c≠104∧c≠117:=by unfold mR at h;rw[14];omega
theorem Q4(p c:Nat):lN p c=[Z5,lV,Sound.vowel false,k7,.vowel true,[mn]].map jq:=by
 unfold lN;rw[189];·rw[aI g,aI g];rfl
 ·rw[aD g,aD g];by_cases r:k7 c=true;·rw[aI r,ac3 r,[CO],aI r];rfl
  ·rw[aD r];by_cases P:lV c=true;·rw[aI P,aI P];rfl
   ·rw[aD P,aD P,aD r];rfl
theorem Ib:∀(p:Nat)(W:[ak]),d_ p W=(mQ p W).map jq
 |_,[]=>[jh,d_,mQ]
 |p,[c]=>by rw[d_,mQ,Q4]
 |p,c::d::r=>by
  have n:=Ib c (d::r);have b:=Ib d r;rw[d_,mQ];by_cases R:mR c d=true;·have:=ac4 R;rw[aI R,aD [ac],aI R,b];rfl
  ·rw[aD R,aD R,Q4,n];rw[189];·rw[aI g,aI g];rfl
   ·rw[aD g,aD g];by_cases P:lV c=true;·rw[aI P,aI P];rfl
    ·rw[aD P,aD P];by_cases a:k7 c=true;·rw[aI a,aI a];rfl
     ·rw[aD a,aD a];rfl
def mK:[zH,Sound]|[]=>True|[mn]::r=>[WN]∧mK r|.vowel _::r=>mK r
theorem Q5{c:Nat}(P:¬lV c=true)(r:¬k7 c=true):[WN]:=⟨λ e=>r [fy,e],λ e=>P [fy,e]⟩
theorem Ic:∀(p:Nat)(W:[ak]),mK (mQ p W)
 |_,[]=>by rw[mQ];trivial
 |p,[c]=>by
  rw[mQ];rw[189];·rw[aI g];trivial
  ·rw[aD g];by_cases P:lV c=true;·rw[aI P];trivial
   ·rw[aD P];by_cases a:k7 c=true;·rw[aI a];trivial
    rw[11,aD a,⟨Q5 P a,mU⟩]
 |p,c::d::r=>by have n:=Ic c (d::r);have b:=Ic d r;rw[mQ];rw[189];rw[11,aI g,n];·rw[aD g];by_cases R:mR c d=true;rw[11,aI R,b];·rw[aD R];by_cases P:lV c=true;rw[11,aI P,n];·rw[aD P];by_cases a:k7 c=true;rw[39,aI a,n,aD a,⟨Q5 P a,n⟩]
def kS(s:[dS]):[ak]:=((s.map jq).filter gm)
def iP(w:[ak])(s:[dS]):List [ak]:=bG 97 ((s.map jq).map (nJ 65 97)) w
theorem Ie{c:Nat}{r:[dS]}(h:[WN]):kS ([mn]::r)=kS r:=by unfold kS;rw[bO,List.filter_cons_of_neg];show¬gm c=true;unfold gm;simp[h.1,h.2]
theorem Ig(g:Bool)(r:[dS]):kS ([jz]::r)=jq [jz]::kS r:=by unfold kS;rw[bO,List.filter_cons_of_pos];cases g<;>rfl
theorem Ih(w:[ak]):iP w []=[w]:=J
theorem yx{c:Nat}{r:[dS]}{w:[ak]}(h:[WN]):iP w ([mn]::r)=iP (w++[c]) r:=by
 unfold iP;rw[bO,bO];have e:nJ 65 97 (jq [mn])=c:=by show[pH,c,65,97,c]=c;rw[aD h.1]
 rw[e,bG,aD h.2]
theorem Bh(g:Bool)(r:[dS])(w:[ak]):iP w ([jz]::r)=w::iP [] r:=by
 unfold iP;rw[bO,bO];have e:nJ 65 97 (jq [jz])=97:=by cases g<;>rfl
 rw[e,bG,aI J]
theorem Q6:∀l:[ak],jE l=Vs.cW (l.map (λ c=>(c,0)))
 |[]=>J
 |[a]=>by
  show[B6,jE [a],Kgz1.counts a=1,1,3];unfold jE Kgz1.counts;rw[i8,i8];by_cases g:a=120;·subst g;rfl
  ·by_cases d:a=122;·subst d;rfl
   ·simp[g,d]
 |[a,b]=>by
  show[B6,jE [a,b],0=0∧[jb,qI a,qH b=true],2,3];rw[71,[B6,jE [a,b],qI a&&qH b,2,3],by unfold jE;rw[[LP],aD (by rw[17])]];by_cases g:qI a=true
  ·by_cases d:qH b=true;·simp[g,d]
   ·simp[g,d]
  ·simp[g]
 |a::b::c::r=>by show _=3;unfold jE;rw[[LP],aD (by rw[17])]
theorem Q7(g:Bool)(cs:[ak]):kO (jq [jz]) cs=Vs.wt g cs:=by unfold kO Vs.wt;cases g with|true=>rfl|false=>rw[[CO],[CO],Q6]
theorem Ii:∀(s:[dS])(g:Bool)(cs:[ak]),mK s→Vs.ft g cs s=[aa1,(jq [jz])::kS s,iP cs s]|[],g,cs,_=>by rw[Ih];show[Vs.wt g cs]=[kO (jq [jz]) cs];rw[Q7]|[mn]::r,g,cs,h=>by rw[Ie h.1,yx h.1,←Ii r g (cs++[c]) h.2];rfl|.vowel Q::r,g,cs,h=>by rw[Ig,Bh,mM,bO,←Ii r Q [] h];show Vs.wt g cs::_=kO (jq [jz]) cs::_;rw[Q7]
theorem Q8:∀(s:[dS])(w:[ak]),mK s→Vs.eA s=[aa1,kS s,(iP w s).drop 1]|[],w,_=>J|[mn]::r,w,h=>by rw[Ie h.1,yx h.1,←Q8 r (w++[c]) h.2];rfl|[jz]::r,w,h=>by rw[12,Ig,Bh,Ii r g [] h]
theorem Ij:∀(s:[dS])(w:[ak]),mK s→(iP w s).headD []=w++Vs.gJ s|[],w,_=>by rw[Ih];simp[Vs.gJ]|[mn]::r,w,h=>by rw[yx h.1,Ij r _ h.2];simp[Vs.gJ]|[jz]::r,w,h=>by rw[Bh];simp[Vs.gJ]
theorem Ik:∀(s:[dS])(w:[ak]),mK s→∃x,((iP w s).getLast?=Z x)∧((kS s=[]∧∃y:[ak],s=y.map Sound.cons)∨∃a g,s=a++Sound.vowel g::x.map Sound.cons)
 |[],w,_=>⟨w,J,.inl [tJ,J,[]]⟩
 |[mn]::r,w,h=>by obtain⟨x,b,d⟩:=Ik r (w++[c]) h.2;rw[Ie h.1,yx h.1];rw[24,x,b];rcases d with⟨P,y,i⟩|⟨a,g,P⟩;rw[2,[ut,P,c::y,[fy,i]],[zf,[mn]::a,g,[fy,P]]]
 |[jz]::r,w,h=>by
  obtain⟨x,b,d⟩:=Ik r [] h;rw[Bh];have l:iP [] r≠[]:=vk 97 _ [];rw[24,x,?_];·cases e:iP [] r with|nil=>rw[8,e,l]|cons y G=>rw[List.getLast?_cons_cons,←e];exact b
  ·rcases d with⟨P,y,i⟩|⟨a,Q,P⟩
   ·have ex:x=y:=by
     have:∀(y w:[ak]),mK (y.map Sound.cons)→iP w (y.map Sound.cons)=[w++y]:=by intro y;induction y with|nil=>intro w _;rw[vI,Ih];simp|cons c y T=>intro w f;rw[bO,yx f.1,T _ f.2];simp
     rw[i,this y [] (i▸h)]at b;simpa using b.symm
    exact[zf,[],g,[jh,i,ex]]
   ·exact[zf,[jz]::a,Q,[fy,P]]
theorem Q9{s:[dS]}{c d:Nat}{t:[dS]}(h:s.reverse=[mn]::.cons d::t):[aX,Vs.eE s]:=by
 rw[195];·rename_i e;cases e
 ·rfl
theorem ac5{s:[dS]}{c:Nat}{t:[dS]}(V:c≠109)(h:s.reverse=[mn]::t):[aX,Vs.eE s]:=by
 rw[195];·rename_i e;cases e;rw[8,J,V]
 ·rfl
theorem ac6{s:[dS]}{c:Nat}(h:s.reverse=[[mn]]):[aX,Vs.eE s]:=by
 rw[195];·rename_i e;cases e
 ·rfl
theorem ac7(s:[dS])(h:mK s):[ZP,kS s,iP [] s]=Vs.eE s:=by
 obtain⟨x,b,f⟩:=Ik s [] h;rw[b];rcases f with⟨P,y,w⟩|⟨a,g,P⟩
 ·rw[P];have u:s.reverse=y.reverse.map Sound.cons:=by rw[w,List.map_reverse]
  rw[52,[aX,Vs.eE s],by cases e:y.reverse with|nil=>rw[e]at u;unfold Vs.eE;rw[u];rfl|cons c r=>cases r with|nil=>rw[e]at u;exact ac6 u|cons d r=>rw[e]at u;exact Q9 u];simp
 ·have j:kS s≠[]:=by rw[P];unfold kS;intro z;rw[cH,I0]at z;have:=List.append_eq_nil_iff.mp z;have m:=this.2;rw[bO,List.filter_cons_of_pos (by cases g<;>rfl)]at m;cases m
  rw[bK j,yO];have u:s.reverse=x.reverse.map Sound.cons++Sound.vowel g::a.reverse:=by rw[P,List.reverse_append,R8,List.map_reverse,gZ];rfl
  have A:x=x.reverse.reverse:=(List.reverse_reverse x).symm;generalize x.reverse=y at u A;cases y with
   |nil=>rw[45,x=[],A];rw[52,Vs.eE s=true,by unfold Vs.eE;rw[u];rfl];simp
   |cons c r=>
    cases r with
     |nil=>
      rw[45,x=[c],A];by_cases V:c=109;·subst V;rw[52,Vs.eE s=true,by unfold Vs.eE;rw[u];rfl];simp
      ·rw[ac5 V u];simp[V]
     |cons d r=>
      rw[Q9 u];have X:2≤x.length:=by rw[A,List.length_reverse];simp
      have H:∀y:[ak],y.length≤1→¬(Z x=Z y):=λ y i z=>by have:=[dj,z];rw[←this]at i;omega
      rw[bW (H [] [al]),bW (H [109] [al])];rfl
theorem ac8(s:[dS])(h:mK s):[FQ,kS s≠[]∧(iP [] s).headD []=[],2]=Vs.ku s:=by
 rw[Ij s [] h];unfold Vs.ku;match s with
  |[]=>rfl
  |[mn]::r=>simp[Vs.gJ,Kgz1.begins]
  |[jz]::r=>
   rw[aI,aI];·rfl
   ·rw[15,?_,J];rw[16,Ig]
theorem ac9(s:[dS])(h:mK s):kf (s.map jq)=Vs.l5 (Vs.gK s):=by
 rw[70,sv (s.map jq)=Vs.ku s,ac8 s h,qm (s.map jq)=Vs.eE s,ac7 s h];have B:gA (s.map jq)=Vs.lead s:=by show jE ((iP [] s).headD [])=_;rw[Ij s [] h,Q6];rfl
 have G:fG (s.map jq)=Vs.eA s:=(Q8 s [] h).symm;unfold kf Vs.l5 Vs.gK;rw[e1,e2,B,G];cases Vs.eE s<;>rfl
theorem ac_(W:[ak]):kf (d_ 0 W)=Vs.l5 (Vs.tK W):=[ap,Ib,ac9 _ (Ic 0 W)]
end VP
end
section
namespace VP
open PySem L2
open Kgz1(parts way foot digits cutOf measure measured)
theorem vo{m i:Type}{f:m→[iH,i]}{P:m→Prop}{g:m→i}(F:∀x y,f x=Z y↔P x∧y=g x):∀{l:[ol]}{r:List i},l.mapM f=Z r↔(∀x∈l,P x)∧r=l.map g
 |[],r=>by
  rw[32,List.mapM_nil];·intro h;rw[59,[Fu,i]=r,[dj,h]];simp
  ·rintro⟨_,rfl⟩;rfl
 |a::l,r=>by
  rw[32,List.mapM_cons];·rw[316];obtain⟨c,d⟩:=(F a b).mp K;obtain⟨e,w⟩:=(vo F).mp v;have:b::S=r:=[dj,h];subst this;refine⟨[qu],by rw[bO,d,w]⟩;rw[176];rw[2,c,e x A]
  ·rintro⟨c,rfl⟩;refine[DG,g a,(F a _).mpr [eJ,c a cq],[DG,l.map g,(vo F).mpr [eJ,[Kn,c]],J]]
theorem Q_(l:[ak]):[PU]=l.length↔l.all (λ c=>c==45||c==117)=true:=by
 have L:∀l:[ak],[CZ,[PU]]:=by intro l;induction l with|nil=>simp|cons a l T=>rw[i8,i8,dP];rw[289]
 induction l with|nil=>simp|cons a l T=>have:=L l;rw[i8,i8,dP,vG,dO];refine Iff.trans ?_ (and_congr vP T);rw[289]
theorem Ra(x:[ak])(y:[kw]):way x=Z y↔[jb,gD x,y=sC x]:=by
 unfold way gD;rw[dO,dO,dw,dw,dw,Q_];split;·rename_i h;rw[0,λ e=>⟨⟨h.1,h.2.1,h.2.2⟩,[wv,e]⟩,λ e=>[fy,e.2]]
 ·rename_i h;rw[0,λ e=>(nomatch e),λ e=>[gh,⟨e.1.1,e.1.2.1,e.1.2.2⟩,h]]
theorem Rb(x:[ak])(y:[KW]):foot x=Z y↔sy x∧y=kP x:=by
 unfold foot sy;rw[32,RA]
 ·rintro⟨l,g,r⟩;obtain⟨P,w⟩:=(vo Ra).mp g;split at r;·rename_i X;rw[59,l=y,[dj,r]];rw[w,aC]at X;rw[0,⟨X,P⟩,w]
  ·cases r
 ·rintro⟨⟨g,r⟩,P⟩;rw[24,kP x,(vo Ra).mpr [eJ,r]];rw[aI (by unfold kP;rw[4,aC,g]),P]
theorem Bi(f:[ak])(s:[Fd]):(((parts 124 f []).mapM foot).bind λ l=>[Lh,[qe,16],l])=Z s↔mF f s:=by
 unfold mF;rw[32,RA]
 ·rintro⟨l,g,r⟩;obtain⟨P,w⟩:=(vo Rb).mp g;split at r;·rename_i X;rw[59,l=s,[dj,r]];rw[w,aC]at X;rw[1,X,P,w]
  ·cases r
 ·rw[133];rw[22,(vo Rb).mpr [eJ,r]];rw[aI [nj,g],P]
def dg(n:Nat):[ak]:=[Mm,n<10,48+n,[49,38+n]]
theorem Il{n:Nat}(g:1≤n)(r:n≤16):yq n=tx (dg n):=by rw[47,n=1∨n=2∨n=3∨n=4∨n=5∨n=6∨n=7∨n=8∨n=9∨n=10∨n=11∨n=12∨n=13∨n=14∨n=15∨n=16];rw[191]
theorem ada{n:Nat}(g:1≤n)(r:n≤16):digits (dg n)=Z n:=by rw[47,n=1∨n=2∨n=3∨n=4∨n=5∨n=6∨n=7∨n=8∨n=9∨n=10∨n=11∨n=12∨n=13∨n=14∨n=15∨n=16];rw[191]
theorem digits_of{l:[ak]}{n:Nat}(h:digits l=Z n)(hn:n≤16):1≤n∧l=dg n:=by
 unfold digits at h;split at h
 ·rename_i c;obtain⟨u,A,T,t⟩:=c;match l,u,A,T,t,h with
   |[a],_,_,T,t,h=>
    simp at T t h;have e:dg n=[48+n]:=by unfold dg;rw[(aI [ac])]
    rw[4,e,⟨[ac],by congr 1;omega⟩]
   |[a,b],_,_,T,t,h=>simp at T t h;rw[71,dg n=[49,38+n],by unfold dg;rw[aD [ac]]];rw[15,[ac],?_];have g:a=49:=[ac];have r:b=38+n:=[ac];rw[g,r]
   |_::_::_::_,_,A,_,_,_=>simp at A
   |[],u,_,_,_,_=>simp at u
 ·cases h
theorem Bj{l:[ak]}{most n:Nat}(N:most≤16):sA l most n↔digits l=Z n∧n≤most:=by
 unfold sA;rw[5];·rw[133];rw[Il g [ac]]at P;rw[91,AO P];rw[0,ada g [ac],r]
 ·rintro⟨g,r⟩;obtain⟨P,rfl⟩:=digits_of g [ac];rw[1,P,r,Il P [ac]]
theorem Rc{n:Nat}(hn:n≤16)(x:[ak])(p:[wh]):cutOf n x=Z p↔IsCut x n p.1 p.2:=by
 unfold cutOf IsCut;rw[5]
 ·intro h;split at h
  ·rename_i a b R;split at h
   ·rename_i u v o y;split at h;·rename_i c;rw[59,(u,v)=p,[dj,h]];rw[9,a,b,R,(Bj hn).mpr ⟨o,c.1⟩,(Bj [ac]).mpr [wJ,y,c]]
    ·cases h
   ·cases h
  ·cases h
 ·rintro⟨a,b,R,g,r⟩;obtain⟨P,w⟩:=(Bj hn).mp g;obtain⟨m,H⟩:=(Bj [ac]).mp r;rw[R];simp only[P,m];rw[aI ⟨w,H⟩]
theorem Bk{m d:Type}{f:m→[iH,d]}{R:[dF,m,d]}(F:∀x y,f x=Z y↔R x y):∀{l:[ol]}{r:List d},l.mapM f=Z r↔(Paired R l r)
 |[],r=>by
  rw[32,List.mapM_nil];·intro h;have:[Fu,d]=r:=[dj,h];rw[64,.nil]
  ·intro h;cases h;rfl
 |a::l,r=>by
  rw[32,List.mapM_cons];·rw[316];have:b::S=r:=[dj,h];rw[64,.cons ((F a b).mp K) ((Bk F).mp v)]
  ·intro h;cases h with|cons g c=>exact[DG,_,(F a _).mpr g,[DG,_,(Bk F).mpr c,J]]
theorem Rf{n:Nat}(hn:n≤16)(c:[ak])(S:[m_]):(((parts 44 c []).mapM (cutOf n)).bind λ k=>[Lh,k.length≤8,k])=Z S↔sE c n S:=by
 unfold sE;rw[32,RA]
 ·rintro⟨k,g,r⟩;have P:=(Bk (Rc hn)).mp g;split at r;·rename_i X;rw[59,k=S,[dj,r]];rw[0,[ap,er P,X],P]
  ·cases r
 ·rintro⟨g,r⟩;rw[42,[pv,S,(Bk (Rc hn)).mpr r],aI [cm,er r,g]]
theorem qv(c:Nat):∀(l w:[ak])(x:Nat),x∈l∨x∈w→x=c∨∃p∈parts c l w,x∈p
 |[],w,x,h=>by
  rcases h with h|h;·rw[14]
  ·exact[zf,w,by rw[16,parts],h]
 |d::r,w,x,h=>by
  rw[parts];split
  ·rename_i a;rcases h with h|h;·rw[130];rw[40,a];·rcases qv c r [] x [lz]with q|⟨p,R,A⟩;rw[73,q,⟨p,cp _ R,A⟩]
   ·exact[zf,w,cq,h]
  ·refine qv c r (w++[d]) x ?_;rcases h with h|h;·rw[130];rw[2,.inr [al],[lz]]
   ·exact .inr [bn,h]
theorem adb{x:[ak]}(h:gD x=true):[Io,x,qo]:=by intro c V;unfold gD at h;simp only[dO,dw]at h;have:=[Te,(Q_ x).mp h.2.2,c,V];rw[77];rcases this with rfl|rfl<;>decide
theorem Rg{f:[ak]}{s:[Fd]}(h:mF f s):[Io,f,qo]:=by
 intro c V;rcases qv 124 f [] c (.inl V)with rfl|⟨p,R,A⟩;·decide
 ·rcases qv 44 p [] c (.inl A)with rfl|⟨q,D,a⟩;·decide
  ·exact adb ((h.2.1 p R).2 q D) c a
theorem ade{n:Nat}(g:1≤n)(r:n≤16):[Io,dg n,qo]:=by rw[47,n=1∨n=2∨n=3∨n=4∨n=5∨n=6∨n=7∨n=8∨n=9∨n=10∨n=11∨n=12∨n=13∨n=14∨n=15∨n=16];rw[191]
theorem Rh{l:[ak]}{most n:Nat}(N:most≤16)(h:sA l most n):[Io,l,qo]:=by obtain⟨g,r,P⟩:=h;rw[Il g [ac]]at P;rw[23,AO P,ade g [ac]]
theorem adf{c:[ak]}{n:Nat}{S:[m_]}(hn:n≤16)(h:sE c n S):∀x∈c,x∈qo:=by
 intro x A;rcases qv 44 c [] x (.inl A)with rfl|⟨p,R,d⟩;·decide
 ·obtain⟨i,O,m⟩:=gY R;obtain⟨b,_,v,w,g,r,P⟩:=[OR,h.2,p,O,m];rcases qv 46 p [] x (.inl d)with rfl|⟨q,D,M⟩;·decide
  ·rw[g]at D;simp at D;rw[116,D,Rh hn r x M,Rh [ac] P x M]
theorem Ri(l:[ak])(m:bT):kg l m↔measured l.length l=Z m:=by
 unfold measured;rw[5]
 ·rintro⟨_,g,a,P⟩;rw[aD [ac]];unfold Kgz1.measure;rcases P with⟨f,e,F,V⟩|⟨f,c,e,F,V⟩
  ·rw[e];have q:=(Bi f m.feet).mpr F;rw[179,q];refine[DG,k,n,?_];split at d;·rename_i X;have:k=m.feet:=[dj,d];rw[aI X,this,←V]
   ·cases d
  ·rw[e];have q:=(Bi f m.feet).mpr F;rw[179,q];refine[DG,k,n,?_];split at d
   ·rename_i X;have t:k=m.feet:=[dj,d];subst t;rw[aI X];have r:=(Rf X c m.cuts).mpr V;obtain⟨k2,i,S⟩:=[QM,r];refine[DG,k2,i,?_];split at S;·rename_i E;have:k2=m.cuts:=[dj,S];rw[aI E,this]
    ·cases S
   ·cases d
 ·intro h;split at h;·cases h
  ·rename_i K;unfold Kgz1.measure at h;split at h
   ·rename_i f e;rw[179,h];split at d
    ·rename_i X;have j:=[dj,d];have F:mF f k:=(Bi f k).mp [DG,k,n,aI X];rw[18,λ c V=>?_,[ac],[ac],.inl ⟨f,e,[cm,j,F],by rw[←j]⟩];rcases qv 59 l [] c (.inl V)with rfl|⟨p,R,A⟩;·decide
     ·rw[e]at R;simp at R;subst R;exact Rg F c A
    ·cases d
   ·rename_i f c e;rw[179,h];split at d
    ·rename_i X;obtain⟨k2,i,S⟩:=[QM,d];split at S
     ·rename_i E;have j:=[dj,S];have F:mF f k:=(Bi f k).mp [DG,k,n,aI X];have V:sE c k.length k2:=(Rf X c k2).mp [DG,k2,i,aI E];rw[18,[qu],[ac],[ac],.inr ⟨f,c,e,[cm,j,F],[cm,j,V]⟩];rcases qv 59 l [] x (.inl A)with rfl|⟨p,R,b⟩;·decide
      ·rw[e]at R;simp at R;rw[116,R,Rg F x b,adf X V x b]
     ·cases S
    ·cases d
   ·cases h
end VP
end
section
namespace VP
open PySem L2
open Kgz2(Row isRow before okWord wordOf okStock scansRow)
def gp(x:[ak]):[ak]:=x++lS (24-x.length) 0
def sI(x:[ak]):Prop:=∀c∈x,c≠0
theorem Rj{x:[ak]}(h:sI x):wordOf (gp x)=x:=by
 unfold wordOf gp;induction x with
  |nil=>rw[pf];cases 24-([]:[ak]).length with|zero=>rfl|succ n=>rw[List.replicate_succ,R0];rfl
  |cons c x T=>
   have V:(c !=0)=true:=[aB,h c cq];have Q:∀(x:[ak])(k:Nat),sI x→List.takeWhile (λ c=>c !=0) (x++lS k 0)=x:=by
    intro x;induction x with
     |nil=>intro k _;cases k with|zero=>rfl|succ n=>rw[pf,List.replicate_succ,R0];rfl
     |cons d x b=>intro k A;have a:(d !=0)=true:=[aB,A d cq];rw[nW,R0,a,aI J,b k λ c V=>A c (cp _ V)]
   exact Q _ _ h
theorem Rk{x:[ak]}(h:sI x):(okWord (gp x)=true↔vm x):=by
 unfold okWord vm;have e:(gp x).takeWhile (λ c=>c !=0)=x:=Rj h;simp only[e,dO,dw,mS];rw[5];·rintro⟨⟨⟨⟨_,g⟩,r⟩,P⟩,_⟩;rw[1,λ c V=>(FU c).mpr [Te,P,c,V],g,r]
 ·rw[133];rw[15,⟨⟨⟨?_,r⟩,P⟩,List.all_eq_true.mpr λ c V=>(FU c).mp (g c V)⟩,?_];·unfold gp;rw[dh,II];omega
  ·unfold gp;rw[16,List.drop_left]
theorem Rl{S:List [ak]}{most:Nat}(h:∀x∈S,sI x):(okStock (S.map gp) S.length most=true↔[Ny]):=by
 unfold okStock mE;simp only[dO,dw,SG,BA];rw[5];·rintro⟨⟨⟨⟨g,r⟩,P⟩,a⟩,m⟩;rw[9,g,r,P,a,λ w T=>(Rk (h w T)).mp (m w T)]
 ·rintro⟨g,r,P,a,m⟩;rw[0,⟨⟨⟨g,r⟩,P⟩,a⟩,λ w T=>(Rk (h w T)).mpr (m w T)]
theorem Rm{c:Row}{most n:Nat}:ql c most n↔¬(most<c.length∨(c.length≠0∧[aX,isRow n most c])):=by
 unfold ql;rw[5]
 ·rintro⟨g,r,P⟩(h|⟨h,w⟩);·omega
  ·have:[F_,n,c]:=Vs.jS.mpr ⟨[ac],g,P,r⟩;rw[this]at w;cases w
 ·intro h;have g:c.length≤most:=vA (λ z=>h (.inl z));by_cases h0:c.length=0;·rw[59,c=[],[Vp,h0]];rw[1,g,kj,[al]]
  ·cases u:isRow n most c with|false=>rw[8,[jl,h0,u],h]|true=>have:=Vs.jS.mp u;rw[1,g,this.2.2.2,this.2.2.1]
theorem Rn(sz:Vs.bx):∀l:[ak],Vs.cg sz l=(l.map sz).sum|[]=>J|a::l=>by show Vs.cg sz l+sz a=_;rw[Rn sz l,bO,qE];omega
theorem adg{l:[ak]}{m:bT}(h:kg l m):Vs.B8 m:=by
 obtain⟨U,_⟩:=Gq h;obtain⟨_,_,_,h⟩:=h;have F:∀f,mF f m.feet→1≤m.feet.length:=λ f F=>by rw[12,F.2.2,aC,[B2,vk 124 f []]]
 have T:[OX,[aab]]:=λ g k w T=>by obtain⟨d,r⟩:=(U.iT g k).2 w T;rw[0,[B2,d],r]
 rcases h with⟨f,_,d,r⟩|⟨f,c,_,d,r⟩;·rw[1,⟨F f d,U.feet⟩,T,by rw[16,r]]
 ·rw[20,⟨F f d,U.feet⟩,T,[qp]];obtain⟨i,O,e⟩:=gY R;obtain⟨x,_,a,b,_,P,j⟩:=Eo r.2 (i:=i) (b:=p) (by rw[bX O,e]);rw[0,P.1,j.1]
theorem Im:∀(l:[ak])(f:[cQ])(k:Nat),(∀x∈l,f x≤k)→(l.map f).sum≤l.length*k|[],f,k,_=>[al]|a::l,f,k,h=>by rw[111,Im l f k [Kn,h],h a cq];rw[bO,qE,dP,Nat.succ_mul];omega
theorem Ro{l:[ak]}{m:bT}{S:List [ak]}{most:Nat}{F:aS}{ay:[cQ]}(N:kg l m)(aH:[Ny])(M:∀x∈S,sI x)(R:[WG]){r:Row}(u:[F_,S.length,r]):nI F ay r↔scansRow m (S.map gp) r=true:=by
 obtain⟨d,f,o,q⟩:=Vs.jS.mp u;have y:=(Gq N).1;have v:∀k∈r,∃x,S[k]?=Z x∧x∈S∧wordOf [O1]=x:=λ k C=>by have Q:=o k C;rw[18,S[k],bX Q,BC Q,?_];rw[iB,cJ,bX Q];exact Rj (M _ (BC Q))
 have B:∀x∈S,[aal,x]:=λ x A=>by obtain⟨g,a,_⟩:=aH.2.2.2.2 x A;refine⟨λ e=>by rw[e]at a;simp at a,λ c V e=>?_⟩;rw[88,(FU c).mp (g c V),e]
 have j:r≠[]:=λ e=>by rw[e]at d;simp at d
 rw[Vs.Tn (adg N) (S.map gp) r j λ k C=>by obtain⟨x,_,A,e⟩:=v k C;rw[4,e,B x A]];have U:=R.fm;have s:∀i∈r,[p0,ay i]:=λ i O=>R.lt i (o i O)
 have g:([P1,r]=true↔Vs.jQ m (Vs.start m) [Fg,Vs.tK (wordOf [O1])]):=by
  unfold eO;rw[Ft R.ok r [[Ia]] s (λ L p=>by simp at p;subst p;exact R.st),Vs.TY y.cuts,←U];rw[71,(r.map ay).map (Vs.shapeAt F.ks)=[Fg,Vs.tK (wordOf [O1])].map Vs.l5,by rw[117,[yf]];obtain⟨x,A,_,e⟩:=v k C;show[A5,F.ks,ay k]=Vs.l5 (Vs.tK (wordOf [O1]));rw[e,(R.tr k x A).1,ac_]];rw[5];·rintro⟨L,p,h⟩;simp at p;subst p;exact h
  ·intro h;rw[36,[al],h]
 have a:[pF,r.map ay]≤256↔[Xj,[O1]].sum≤256:=by
  rw[Rn,cP];have t:[Xj,[O1]]=[Fg,[Qo].length+1]:=by refine iD [yf];obtain⟨x,A,_,e⟩:=v k C;rw[e,iB,A];rfl
  rw[t];by_cases I:∀x∈S,[Kz]*most≤256
  ·have n:r.map ((Vs.b0 F.ks)∘ay)=r.map [zP]:=by rw[284,aI];exact[wv,this]
   rw[n];have z:(r.map [zP]).sum≤r.length*0:=Im r _ 0 λ _ _=>ba _
   have w:0<most:=aH.2.2.1;have K:[Fg,[Qo].length+1].sum≤r.length*(256/most):=Im r _ _ λ k C=>by obtain⟨x,A,D,_⟩:=v k C;rw[12,iB,A,(Nat.le_div_iff_mul_le w).mpr (I x D)]
   have V:r.length*(256/most)≤most*(256/most):=Nat.mul_le_mul_right _ f;have b:most*(256/most)≤256:=Nat.mul_div_le 256 most;rw[0,λ _=>[ac],λ _=>[ac]]
  ·have n:r.map ((Vs.b0 F.ks)∘ay)=[Fg,[Qo].length+1]:=by rw[284,aD];rw[12,iB,A,[wv,this]]
   rw[n]
 unfold nI;rw[g,a]
theorem Io{l:[ak]}{m:bT}{S:List [ak]}{most:Nat}{F:aS}{ay:[cQ]}(N:kg l m)(aH:[Ny])(M:∀x∈S,sI x)(R:[WG]){c q:Row}:iq F ay S.length most c q↔Vs.tL m (S.map gp) most c q:=by
 unfold iq Vs.tL;rw[32,aC];·rw[133];rw[1,g,.inr ((Vs.vY c q).mp P),(Ro N aH M R g).mp r]
 ·rw[133];refine⟨g,(Ro N aH M R g).mpr P,(Vs.vY c q).mpr ?_⟩;rcases r with rfl|r;·have:=(Vs.jS.mp g).1;cases q with|nil=>rw[77]|cons a q=>rfl
  ·exact r
theorem adh(r:[ak])(h:[AE,12]):((SQ 12 r).take r.length)=r:=by
 unfold SQ;apply List.ext_getElem?;intro i;rw[List.getElem?_take,cJ];by_cases O:i<r.length;·rw[aI O,List.getElem?_range [ac],bX O];show Z (r.getD i 0)=_;rw[iB,bX O];rfl
 ·rw[aD O,sQ [ac]]
theorem adi:QZ:=by
 intro most j P L i I v t p s;rw[71,Sd most j P L=(let a:=Kgz2.answer (.next j.length (j.map jt) (L.map Kgz2Neutral.word) L.length most.toNat (P.map jt) P.length);a.value::Kgz2Neutral.ints (a.out.take a.value.toNat)),J];generalize U:j.map jt=k at*;have h:j.length=k.length:=by rw[←U,aC]
 generalize O:P.map jt=after at*;have K:P.length=after.length:=by rw[←O,aC]
 generalize f:(L.map λ l=>l.map jt)=S at*;have Q:L.length=S.length:=by rw[←f,aC]
 have T:L.map Kgz2Neutral.word=S.map gp:=by
  rw[←f,cP];refine iD λ x _=>?_
  show Kgz2Neutral.natsOf x++lS (24-x.length) 0=gp (x.map jt);unfold gp;rw[aC];rfl
 have M:∀x∈S,sI x:=λ x A c V=>by rw[←f]at A;obtain⟨y,d,rfl⟩:=[bE,A];obtain⟨z,M,rfl⟩:=[bE,V];rw[10,((p y d).2 z M).1]
 rw[h,K,Q,T];generalize most.toNat=o at*;simp only[Kgz2.answer];rcases s with⟨W,rfl⟩|⟨m,N,s⟩;·rw[52,Kgz1.measured k.length k=none,by cases q:Kgz1.measured k.length k with|none=>rfl|some m=>rw[8,⟨m,(Ri k m).mpr q⟩,W]];rfl
 ·rw[(Ri k m).mp N];simp only;rcases s with⟨W,rfl⟩|⟨aH,s⟩
  ·have:[aX,okStock (S.map gp) S.length o]:=by cases q:okStock (S.map gp) S.length o with|false=>rfl|true=>rw[8,(Rl M).mp q,W]
   rw[aI this];rfl
  ·rw[aD (by rw[(Rl M).mpr aH];decide)];rcases s with⟨W,rfl⟩|⟨ha,F,ay,R,s⟩;·have:o<after.length∨(after.length≠0∧[aX,isRow S.length o after]):=kT (λ z=>W (Rm.mpr z));rw[aI this];rfl
   ·rw[aD (Rm.mp ha)];rcases s with⟨rfl,W⟩|⟨r,rfl,u,n⟩;·rw[52,Kgz2.first m (S.map gp) o after=none,Vs.Tq λ q D=>W q ((Io N aH M R).mpr D)];rfl
    ·rw[52,Kgz2.first m (S.map gp) o after=Z r,Vs.Ts ((Io N aH M R).mp u) λ q D=>n q ((Io N aH M R).mpr D)];have X:[AE,12]:=by have g:=(Vs.jS.mp u.1).2.1;have b:=aH.2.2.2.1;omega
     show _=[aN,r.length]::Kgz2Neutral.ints ((SQ 12 r).take [aN,r.length].toNat);rw[vy,adh r X];rfl
end VP
end
section
open PySem PySem.W PyProof.Rows
theorem PySem.Challenge.cw_versestock_s01_next_row_holds : PySem.Challenge.rw_versestock_s01_next_row.Holds := by
 w_on;k_headS;(case hw=>rw[1,[.int 1,.list [],.list [],.list []],[bB],[bB]]);k_fillS;refine VP.acQ (K:=_) rfl rfl (λ w h Y=>PySem.W.kIn_of Y) [eD,rfl] [eD,rfl] ?F VP.adi;case F=>
  intro w mg fa h KX G hmg;refine' VP.acT KX G hmg ?a0 ?T0;case a0=>k_is
  case T0=>
   refine'⟨_,_,_,_,_,_,_,_,_,_,_,_,_,_,_,_,_,_,_,_,?TK,?D0,?NC,?EM,?E1,?E2,?E3,?DK,?tbK,?DC,?tbC,?hne⟩;case TK=>
    refine' VP.TopK.mk ?B ?A_ ?sF ?Gs ?Gv ?Gx ?yt ?mI ?mJ ?Gy ?Gz ?GD ?GG ?GH ?GP ?GQ ?GR ?GU ?GV ?GX ?GY ?GZ ?G7 ?G8 ?G9 ?G_ ?Ha ?Hb ?Hc ?Hd ?He ?Hf ?Hg ?Hh ?Hi ?Hj ?Hk ?Hl ?Hm ?Hn ?Ho ?Hq ?Hr ?Hs ?Ht ?Ba ?Hu ?Hv ?Hw ?Hx ?Hy ?Hz ?HA ?HC ?HD ?HE ?HF ?HG ?HH ?HI ?HJ ?HK ?HL ?HM ?HN ?HP ?Bb ?HQ ?HR ?HS ?HU ?HV ?HW ?wd ?lp ?vw ?wt ?bg ?rd ?ms ?sc ?si ?iT ?room ?bound ?nB ?nE;case B=>refine' VP.acU KX G ?z0 ?z1 ?z2 ?z3 ?z4 ?z5 ?z6 ?z7 ?z8 ?z9 ?z10 ?z11 ?z12 ?z13 ?z14 ?z15 ?z16;(case z0=>k_is);(case z1=>k_is);(case z2=>k_is);(case z3=>k_is);(case z4=>k_is);(case z5=>k_is);(case z6=>k_is);(case z7=>k_is);(case z8=>k_is);(case z9=>k_is);(case z10=>k_is);(case z11=>k_is);(case z12=>k_is);(case z13=>k_is);(case z14=>k_is);(case z15=>k_is);(case z16=>k_is)
    case A_=>rw[259,VP.acV KX G ?a ?pg ?hd ?po ?sa ?n0 ?n1]
    case sF=>rw[226,VP.acW KX G ?a ?pg ?hd ?po ?sa ?n0 ?n1 ?n2 ?n3 ?n4 ?n5];(case n5=>k_is)
    case Gs=>rw[150,[YZ,VP.acX]]
    case Gv=>rw[150,[YZ,VP.acY]]
    case Gx=>rw[150,[YZ,VP.acZ]]
    case yt=>rw[226,VP.ac0 KX G ?a ?pg ?hd ?po ?sa ?n0 ?n1 ?n2 ?n3 ?n4]
    case mI=>rw[226,VP.ac1 KX G ?a ?pg ?hd ?po ?sa ?n0 ?n1 ?n2 ?n3 ?n4]
    case mJ=>rw[150,VP.ac2 KX G ?a ?pg ?hd ?po ?sa ?n0 ?n1 ?n2 ?n3];(case n3=>k_is)
    case Gy=>rw[31,VP.abE]
    case Gz=>rw[31,VP.abF]
    case GD=>rw[31,VP.abG]
    case GG=>rw[31,VP.abH]
    case GH=>rw[31,VP.abI]
    case GP=>rw[31,VP.abJ]
    case GQ=>rw[31,VP.abK]
    case GR=>rw[31,VP.abL]
    case GU=>rw[31,VP.abM]
    case GV=>rw[31,VP.abN]
    case GX=>rw[31,VP.abO]
    case GY=>rw[31,VP.abP]
    case GZ=>rw[31,VP.abQ]
    case G7=>rw[31,VP.abR]
    case G8=>rw[31,VP.abS]
    case G9=>rw[31,VP.abT]
    case G_=>rw[31,VP.abU]
    case Ha=>rw[31,VP.abV]
    case Hb=>rw[31,VP.abW]
    case Hc=>rw[31,VP.abX]
    case Hd=>rw[31,VP.abY]
    case He=>rw[31,VP.abZ]
    case Hf=>rw[31,VP.ab0]
    case Hg=>rw[31,VP.ab1]
    case Hh=>rw[31,VP.ab2]
    case Hi=>rw[31,VP.ab3]
    case Hj=>rw[31,VP.ab4]
    case Hk=>rw[104,VP.ab8]
    case Hl=>rw[104,VP.ab9]
    case Hm=>rw[104,VP.ab_]
    case Hn=>rw[104,VP.aca]
    case Ho=>rw[104,VP.acb]
    case Hq=>rw[104,VP.acd]
    case Hr=>rw[104,VP.ace]
    case Hs=>rw[104,VP.acf]
    case Ht=>rw[28,VP.acg]
    case Ba=>rw[28,VP.ach]
    case Hu=>rw[28,VP.aci]
    case Hv=>rw[28,VP.acj]
    case Hw=>rw[28,VP.ack]
    case Hx=>rw[28,VP.acm]
    case Hy=>rw[28,VP.acn]
    case Hz=>rw[28,VP.aco]
    case HA=>rw[28,VP.acp]
    case HC=>rw[28,VP.acq]
    case HD=>rw[28,VP.acr]
    case HE=>rw[28,VP.acs]
    case HF=>rw[28,VP.acu]
    case HG=>rw[28,VP.acv]
    case HH=>rw[28,VP.acw]
    case HI=>rw[28,VP.acx]
    case HJ=>rw[28,VP.acy]
    case HK=>rw[28,VP.acz]
    case HL=>rw[28,VP.acA]
    case HM=>rw[28,VP.acB]
    case HN=>rw[28,VP.acC]
    case HP=>rw[28,VP.acD]
    case Bb=>rw[28,VP.acE]
    case HQ=>rw[28,VP.acF]
    case HR=>rw[28,VP.acG]
    case HS=>rw[28,VP.acH]
    case HU=>rw[28,VP.acI]
    case HV=>rw[28,VP.acJ]
    case HW=>rw[28,VP.acK]
    case wd=>rw[155,VP.sG,VP.sG]
    case lp=>rw[252]
    case vw=>refine' VP.acS KX G ?a ?b ?h1 ?h2 ?h3;(case a=>k_is);(case b=>k_is);(case h1=>decide);(case h2=>decide);(case h3=>decide)
    case wt=>rw[155,VP.gX,VP.gX]
    case bg=>rw[182,⟨[FH,?x0],[FH,?x1],[FH,?x2]⟩]
    case rd=>rw[155,VP.sG,VP.gX]
    case ms=>rw[155,VP.sG,VP.gX]
    case sc=>rw[182,⟨[FH,?x0],[FH,?x1],[FH,?x2],[FH,?x3],[FH,?x4],VP.Bf KX G ?x5,VP.sG KX G ?x6⟩];(case x3=>k_is);(case x4=>k_is);(case x5=>k_is);(case x6=>k_is)
    case si=>rw[252]
    case iT=>rw[219]
    case room=>rw[219]
    case bound=>rw[219]
    case nB=>rw[299]
    case nE=>rw[299]
   case D0=>rw[123,VP.A9 KX G VP.ab7 ?a ?l ?c ?k]
   case NC=>rw[182,⟨VP.Bf KX G ?x0,VP.Bf KX G ?x1,VP.Bf KX G ?x2⟩]
   case E1=>rw[201]
   case E2=>rw[201]
   case E3=>rw[201]
   case EM=>rw[37,rfl,rfl,rfl,rfl,rfl,rfl]
   case DK=>rw[123,VP.A9 KX G VP.ab5 ?a ?l ?c ?k]
   case tbK=>rw[311]
   case DC=>rw[123,VP.A9 KX G VP.ab6 ?a ?l ?c ?k]
   case tbC=>rw[311]
   case hne=>decide
end
