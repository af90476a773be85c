import PyProof.Rows.All
import KE.OsGo
import KE.BitLaws
import KE.KDictList
import KE.KLam
import KE.KNest
import KE.KSortKeyAny
import KE.KSortTupG
import KE.KTryMore
import KE.OsHead
import Open.SpecLaws
import OpenK.AllK
import OpenK.KOwn
import PyProof.Claim2Refuses
import PyProof.EqAt
import PyProof.EqKinds
import PyProof.ExcBaseAll.Exception
import PyProof.TupleCall
import Wide.All
import Wide.FinOn
import PySem.Challenge.RW_versestock_s01_next_row
set_option Elab.async false
set_option linter.all false
set_option maxRecDepth 100000
set_option maxHeartbeats 0
set_option hygiene false
abbrev aD:=@if_neg
abbrev aI:=@if_pos
abbrev bK:=@decide_eq_true
abbrev bW:=@decide_eq_false
abbrev dw:=@decide_eq_true_eq
abbrev ed:=@congrArg
abbrev il:=@if_true
abbrev iE:=@if_false
abbrev lR:=@of_decide_eq_true
abbrev mS:=@beq_iff_eq
abbrev mU:=@trivial
abbrev pw:=@and_true
abbrev yY:=@or_false
abbrev R6:=@decide_eq_false_iff_not
abbrev SA:=@ne_true_of_eq_false
abbrev J:=@rfl
open PySem renaming Addr->ab,Value->ae,Shared->aq,wpAny_bind->au,wpAny->az,Heap->aE,model->aM,sizeLine->aQ,World->aU,wpAny_pure->aW,Program->aY,Stmt->a9,Expr->bc,FuncData->bq,Around->bP,mainGlobals->b_,starEach->cO,Scope->dR,cellsFrom->fj,compEnvC->fk,IsPair->fo,cLine->fq,boot_len->f6,wpAny_field->f7,compareOp->f9,rawInt->f_,wpAny_mono->gG,backTo->g_,sysModules->iS,DictEntry->i_,NameKind->jN,mem_of_lookup->kh,pyNext->kr,wpAny_holding->k9,PyData->lg,wpAny_seqItems->lT,wpAny_truthy_bool->mN,codeAny->mT,wpAny_newObj_type->nU,attributeBase->n_,wpAny_letGo->oh,argBest->oo,atKey->ot,wpAny_tryCatch->pj,pushCells->pq,wpAny_call_entry->qC,binaryOp->qL,ZipApart->qM,getItem->qN,CmpOp->qO,wpAny_setField_rec->sU,codeAny_builtin->s_,behindInMarks->tj,plainId_quiet->tm,typeIs_str->tp,swapsWith->tu,holding->tw,notedBy->tz,valueAt->tD,Model->tF,bindL->tG,bindC->tH,wpAny_callSpecial?_slot->vq,foldedSetIterable->vz,wpAny_passesOwn->vF,ExceptHandler->vH,bootBuiltins->vK,sliceBounds->vM,Arguments->vN,compPost->vO,Keyword->vS,assign->vT,pyIter->vU,wpAny_Call_Name_kw->yC,wpAny_updateSeq->yL,sizeLine_eq->yR,richCompare->yS,builtinsNs->yT,wpAny_Name->yU,call_meets->yV,seqItems?->yW,bindArgs->yX,isTrue->yZ,Result->y4,wpAny_pyIter_zip->BI,wpAny_execs_nil->BK,pushCells_keeps->BL,wpAny_setField->BN,subscripted->BS,keywordEach->BU,assignEach->BV,inplaceOp->BW,backToKw->BX,setField->BY,newList->BZ,wpAny_typeNameOfWhole_keyiter->Ir,wpAny_typeNameOf_keyiter->IG,wpAny_nextOf_list_item->IP,wpAny_loadName_local->IZ,wpAny_dictEntries->Je,wpAny_pyIter_enum->Jf,letOwnedTupleGo->Jn,comprehension->Ju,wpAny_attempt->Jv,codeAny_mono->Jz,wpAny_mkInt->JA,reduceHash->JC,wpAny_rule->JE,eqIsQuiet->JH,seqIndex?->JI,getMethod->JJ,noteFrame->JK,updateSeq->JL,Operator->JM,wpAny_nextOf_list_end->R3,eqIsQuiet_byValue->Sl,wpAny_assign_Name->Sm,wpAny_isInstance->Sv,wpAny_execs_cons->Sw,frameOf->Sx,Within->SE,wpAny_dictEpoch->SF,recursionLimit->SM,dictSetDefault->SN,wpAny_newTuple->SO,wpAny_standAt->SV,wpAny_newList->SW,wpAny_of_eq->S6,storedH_new->S7,wpAny_call->S8,defaultsOf->S9,wpAny_updateSeq_pair->adk
open List renaming length_map->aC,mem_of_getElem?->bt,map_cons->bO,getElem?_eq_getElem->bX,mem_cons_of_mem->cp,mem_cons_self->cq,map_append->cH,getElem?_map->cJ,map_map->cP,length_append->dh,size_toArray->dN,length_cons->dP,take_add_one->fH,take_length->fZ,getElem_of_mem->gY,append_assoc->gZ,getD_eq_getElem?_getD->iB,map_congr_left->iD,mem_append_right->iQ,foldl_cons->i7,count_cons->i8,length_range->jI,length_take->jJ,nodup_nil->kj,flatMap_append->kW,flatMap_cons->kZ,nodup_append->k0,any_cons->k8,mem_append_left->lP,length_drop->lQ,replicate->lS,mem_cons->lU,zip_cons_cons->mM,length_filter_le->nO,cons_append->nW,mem_flatMap->nX,lookup_cons->nY,nil_append->pf,getElem?_set_self->qx,foldl_append->qz,filter_cons->qA,append_nil->qD,sum_cons->qE,lookup->qG,map->qK,take_of_length_le->sO,getElem?_eq_none->sQ,mem_singleton->sS,forIn_cons->sY,find?_cons->vC,range_succ->vD,all_cons->vG,map_nil->vI,getElem?_set_ne->yA,filterMap_cons->yB,any_eq_true->yD,not_mem_nil->yE,mem_filter->yH,length_zip->yI,mem_map->yP,take_append_drop->Bp,mem_of_mem_take->Bq,filter_sublist->Bs,map_dropLast->Bx,all_eq_true->BA,map_snd_zip->BB,getElem_mem->BC,length_nil->BE,nodup_cons->BF,of_mem_zip->BG,forIn_nil->BJ,drop_eq_getElem_cons->IA,drop_of_length_le->IH,length_replicate->II,length_dropLast->IQ,length_flatMap->IV,filter_append->I0,getElem?_drop->I_,any_eq_false->Ja,drop_drop->Jk,map_id->Jw,range'->Jx,eq_nil_of_length_eq_zero->Rr,isEmpty_eq_false_iff->Rv,getElem?_append_left->Rw,getElem?_zip_eq_some->Rx,getElem?_cons_zero->RC,range_succ_eq_map->RF,contains_iff_mem->RH,length_singleton->RI,pairwise_append->RN,mem_of_mem_drop->RP,count_cons_self->RQ,dropLast_subset->RR,getLast?_concat->RS,getElem?_append->RT,take_succ_cons->RY,toList_toArray->RZ,takeWhile_cons->R0,pairwise_map->R7,reverse_cons->R8,mem_range->So,drop_zero->Sr,foldl_nil->Ss,map_drop->SD,all_map->SG,any_nil->SI
open PySem.W renaming Frag->aF,findIn->cN,nsIn->dC,mg_none_of->jr,mg_of->jK,fnOf->km,plainGet->mO,hasDictIn->nT,kia_one->n8,plainOver->o8,keepIn->ph,emptyDict->qy,instObj->sW,codeIn->sZ,exmOne->yK,isFn->BM,lookIn->Jg,wellAll_cons_inv->Jj,cellsFrom_some->RB,plainGet_of->RL,callWith_K->RV,methodObj->R1,takerIn->R_,makesIn->Sa,kitOne->Sg
open Or renaming inl->aR,inr->gq
open Nat renaming le_refl->ba,le_trans->bf,zero_le->b7,lt_of_lt_of_le->dG,ne_of_lt->dY,lt_of_le_of_lt->eR,lt_irrefl->g8,ne_of_gt->g9,le_of_eq->mP,testBit_succ->nZ,le_of_lt->oa,lt_succ_of_lt->o_,lt_succ_self->qB,pow_le_pow_right->vu,le_of_not_lt->vA,le_add_right->vB,pow_succ->vJ,le_succ->vL,testBit_zero->yF,min_eq_left->yJ,pow_lt_pow_right->Br,add_sub_cancel->Bt,mod_eq_of_lt->BD,le_max_left->BH,add_mul->BR,add_lt_add_left->IX,le_of_succ_le->Jb,min_eq_right->Jd,testBit_and->Ji,mul_comm->Jr,sub_zero->Js,eq_of_testBit_eq->RU,add_le_add_right->RW,mul_le_mul_left->R4,lt_trichotomy->R9,zero_testBit->Se,le_max_right->Sf,min_le_right->Sh,testBit_xor->Sk,min_le_left->Sn,add_le_add->Su,lt_trans->SJ
open Kgz1 renaming parts->bG,Measure->bT,isCapital->k7,isVowel->lV,sounds->mQ,isPair->mR,liquid->qH,mute->qI,Kind->tq,fits->JB,padded->SQ,Bytes->SY
open PySem.Heap renaming lt_size->bR,get?_push_of_some->cG,get?_push_size->dM,size_push->iR,SameBut->kq,get?_update_other->Bo,get?_update_self->IJ,size_update->Jc,get?_none_of_le->RO
open Sum renaming inl->bY,inr->vQ
open Bool renaming eq_iff_iff->dH,and_eq_true->dO,false_ne_true->eQ,false_eq_true->ki,or_eq_true->n9,or_false->yN,true_and->yO,not_eq_true'->Bw,and_true->Jp,beq_eq_decide_eq->RJ,false_and->Sq,or_assoc->Sy
open PySem.Builtin renaming bitAnd->dQ,bitOr->pk,bitNot->Sj
open PySem.PassesOwn renaming never->dX
open PyProof.Rows renaming seqObj->gu,IntsAre->om,envOfC->oq,callWith_type1->vp,AllBare->vR,boot_any->IB,get?_update_seq->Jo,Subscript_->JD,boot_isinstance->Rp,boot_list->Ru,boot_min->Ry,boot_max->Rz,recsOf->RD,subscriptTail->SU
open PySem.PyData renaming eqv->i9,canLayAll0->o9,depthAll->pd,canLay0->vE,eqvAll->yM
open Ne renaming symm->ja
open False renaming elim->js
open Int renaming toNat->jt,toNat_natCast->vy,mul_left_comm->By,mul_add->BQ,mul_assoc->Jq,add_mul->SR
open PySem.SeqAt renaming shaped->jL,EqAt->pz
open PySem.Obj renaming mapSeq->jM,mapFields->qF,data_mapFields->Bu,isFreed_of_fields->RM
open Classical renaming byContradiction->kT,propDecidable->o6,choose_spec->sP,choose->sV
open PySem.F renaming plain_max_loop->kU,plainAttrs_list->nN,excBase_Exception->o5,slot_list_append->sM,type_list_append->sN,entry_max_loop->yz,slot_dict_keyiterator_next->Iw,slot_str_count->ID,type_str_count->IE,slot_enumerate_next->IT,slot_str_split->Jh,slot_zip_next->Jm,slot_dict_get->RE,args_str_split_2->Sb,entry_str_split->Si
open PySem.Str renaming ofString->k_,empty->qJ,join->JG
open PySem.Builtin.SmallTypes renaming ownedTupleIsFree->lO,nextOf->o4,ownedTupleHandOut->adj
open True renaming intro->lW
open PySem.Heap.SameBut renaming update->nQ
open Array renaming length_toList->nR,getElem?_toList->o7,getElem?_eq_getElem->sJ,toList->BO,getElem?_eq_none->IF,forIn_toList->IY
open ForInStep renaming yield->n6
open PySem.Txt renaming split->oj,endswith->Jt,join->JF,replace->SX
open PySem.Value renaming bool->pl,float->SK,type->SS
open PySem.Builtin.Str renaming strSliceIndices->qw,strKind->sR,partsBetween->Iy,occurrences->Iz,subAt->IU,strSub->RG
open Option renaming map_some->sX,bind_eq_some_iff->RA,some->Z
open PyProof.Rows.G renaming tupKeyC->tE
open PySem.Around renaming under_plainId->vt,in1_units->Bz,under->Sz
open PySem.Calls renaming spliced_cons->vx,callWith_builtin->Bn,spliced_nil->Bv,evalArgs_plain->IM
open Iff renaming rfl->vP
open PySem.StrLaws renaming sliceText->yy,occBody->yG
open PySem.W.Codec renaming inInt->yQ,inList->BP
open PySem.Builtin.Tuple renaming tupleHashOf->Bm,tupleExact->Iv
open PySem.Builtin.Builtins renaming bindParams->Ip
open PySem.Builtin.Slice renaming slicePlaces->Iq,sliceAdjust->Rq
open List.Pairwise renaming imp_of_mem->Iu
open BitVec renaming toNat_ofNat->IW
open Prod.mk renaming injEq->Jl
open PUnit renaming unit->Jy
open PySem.Builtin.List renaming listTooLong->Rt
open Option.some renaming injEq->RK
open List.cons renaming injEq->R5
open PyKgz2 renaming next_row->Sd
open PySem.Code renaming isFrame->SH
local macro_rules|`([Tm])=>`(λ x r=>do
 let h←pyHash x;
 pure Jy;
 pure (n6 (r.push h)))
local macro_rules|`([QL,$a])=>`(match$a:term with|c::d::_=>mR c d|_=>false)|`([QK])=>`(l.length+l.count 120+l.count 122)|`([QJ,$a])=>`(zI ha K I h λ v u P x y M p L A q=>$a)|`([QI])=>`(Walks prog w A.in1 I fp wr n P St)|`([QH])=>`(λ cdv A outer s H U Q E hr h=>?_)|`([QG,$a])=>`(sk _ _ $a λ N=>.inl (by intro z;cases z))|`([QF])=>`(∀p m,h.IsTuple p m→S.IsTuple p m)|`([QE,$a,$b,$c])=>`(∀(i:Nat)(b:ab)(p:Int×Int),($a)[i]?=Z b→($b)[i]?=Z p→$c)|`([QD])=>`(fR.zip (oR g.a p (jF most (ik most (F.take i)) g)))|`([QC])=>`(ag m F.d2 [Dc,j7 (F.en L) (iA F L),.ref kn])|`([QB,$a,$b])=>`(if[ap,$a]<[ap,$b]then[ap,$a]else[ap,$b])|`([QA])=>`("Completions.search")|`([Qz])=>`(λ _ _ _ _ _ _ W X=>match W,X with|[_,_,_,_,_],_=>J)|`([Qx])=>`((toString "max"++toString ".loop":String)="max.loop")|`([Qw])=>`((g.push (gu "list" (es.toList.map (·.key)).toArray 0)))|`([Qu,$a,$b,$c])=>`((∃m,W 0 m (ag $a D (.aj [])))∧∀i m H,W i m H→(($b).stop i H∧Q H)∨(($b).go i H∧$c))|`([Qt,$a,$b,$c])=>`(($a→$b)∧(¬$a→∀m,ah H m→bD H m→$c))|`([TU,$a,$b,$c,$d])=>`(∀(A:bP)(outer:[wF])(s:aq)(H:Hp)(U:(List V))(Q:VK)(E:XK),cy k $a→sp U H Q E→∃t,$b $c $d t∧[Tj])|`([TQ])=>`(λ x y H Q=>∃(c:Nat)(z:Str),x=[Ep]∧y=.str z∧Q [FH,c∈z.cps.toList] H)|`([TN,$a])=>`(λ U H Q _=>∃(p X sh:ab)(k:Vs.Kd)(T:Nat),U=[[cX],nV T]∧u6 C H p X sh k∧Q $a H)|`([TM])=>`(∀b∈ch,((b∈X.ex∨[NZ,b])∧[E9,b]∧[Lg,c≠b]∧∀p∈X.pn++pins,p.1≠b))|`([TJ])=>`(λ x M=>∃a C W fs,[bn,x=[bi],M a=[ff,C,fs],j2 K C,oF K C f,fs.length<1000∧D.nx w (ag M a (.ins C W (fP f y fs)))])|`([TH])=>`([dA,fP f v ((k,x)::r),[wu,k,f,(k,v)::r,(k,x)::fP f v r],J])|`([TD])=>`(λ v=>match v with|.ref q=>(V.ref q)|_=>V.bh)|`([Tz,$a])=>`(λ x N H Q=>∃a b,x=.str a∧N=[.str b]∧Q $a H)|`([Ty,$a])=>`(if L.2.2=0∨L.2.2=sh.1 then[oC,sh.2,$a]else[])|`([Tx])=>`(["most","measure","after","stock","told","words","row"])|`([Tw])=>`({C with heap:=C.heap.push [Ic,"slice",[wl,#[E,G,.none]]]})|`([Tv,$a,$b])=>`(λ I D=>zr $a $b A.in1 s #[] I O [gL,Bz] λ P K=>D P [aB,K])|`([Tu,$a,$b,$c])=>`(λ U H Q _=>∃(b:[bv])(a:ab)(L:Vs.a8),[bn,U=[$a,(.ref a)],bA F H b,fi $b a L,[wo],$c])|`([Tt,$a])=>`(λ i h L b g=>by rw[55,b=$a,[aB,g]];obtain⟨o,e,c,d⟩:=L;rw[1,o,e,λ v z=>by rw[63,d]])|`([Ts,$a,$b,$c])=>`(((g_ $a [oE,$b]).all (λ x=>! x.1)&&(BX $a (BU [] X.env)).all (λ x=>x.1.isSome)&&[aN,($c).length+[CD,vS].length+(if[CD,vS].isEmpty then 0 else 1)<30])=true)|`([Tq])=>`((gu "list" (es.toList.map (·.key)).toArray 0))|`([Tp])=>`(∀i w H,i≤xs.length→P i w H→ax K H a xs)|`([To])=>`([Ct,a]∧∃U,KV Y U∧h.DictOf (m7 P w) a U)|`([Tn])=>`(lI.zip [.ref F.sc,.ref F.ka,.ref F.r,.ref F.d1,.ref F.d2])|`([Tl])=>`((hH (p.1.map (c.getD t 0*·)) (c.map (-(p.1.getD t 0)*·))))|`([Tk,$a])=>`(∀(i:Nat)(e:KE),g[i]?=Z e→∃k,(($a)[i]?=Z k∧k.kn=e.kn∧k.cl=e.cl∧Vs.eG 12 e.g k.g))|`([Tj])=>`(t {nx:=λ _ m=>Q .bh m,rt:=Q} (start N U) H)|`([Ti])=>`(["enumerate","zip","dict_itemiterator","dict_reverseitemiterator","odict_iterator","itertools.zip_longest","itertools.pairwise"])
local macro_rules|`([SZ])=>`({s3 with heap:=pq (s3.heap.push [Rf]) l.names})|`([ST,$a,$b,$c])=>`(∀(B:[bH])(s:aq)(w:St)(H:Hp)(Q:$a),([iW])→t w H Q→[f8,$b,$c,s])|`([SL,$a,$b,$c,$d])=>`(∀j d,$a-$b≤j→($c)[j]?=Z d→[aw,$d d t l r])|`([SB,$a])=>`(e.g.ls.filter (λ x=>! iy (eh $a) (eh x)))|`([Rs])=>`(.tup [(V.ref pa),wV r,nV I])|`([Ro])=>`(g9 [ar,k,IX [bd] _])|`([Rn,$a])=>`(Ip "max" ["key","default"] 0 $a)|`([Rm,$a])=>`($a==NameKind.free&&sc.kind==[B7])|`([Rl,$a,$b,$c])=>`(⟨_,J,$a,_,_,_,J,J,bM.of $b,[zh,$c,J],?_⟩)|`([Rk])=>`(∀b u,[jU]=Z u→[B9]=Z u)|`([Rj,$a])=>`(PE X (.Call [tW,p] (e::es) [] pos) $a)|`([Ri,$a,$b])=>`(∀m,least≤m→m<$a→¬tV w most Sc $b)|`([Rh])=>`(fk l (fj (s3.heap.objs.size+1) l.names (ef X.env.cells l.names [])) s3.heap.objs.size X.env)|`([Rg])=>`(vO [B0] X.A X.xe Y Qf (.ref D) s3.heap.objs.size)|`([Rf])=>`([Ic,"dict",.dict #[]])|`([Re])=>`(λ b o g e=>eb b o g e)|`([Rc,$a])=>`(gR m (Vs.kindOf $a) true [sp])|`([Rb,$a])=>`(j_ mg base "StockRefused" $a)|`([Ra])=>`(.Compare a [o] [b] pos)|`([Q_])=>`(λ b o e=>(M.bs b o e).1)|`([Q9])=>`("Scanner.find_targets")|`([Q8])=>`("Completions.__init__")|`([Q7])=>`("Scanner.cut_can_come")|`([Q6,$a])=>`($a a b 0 a.length (a.length+1))|`([Q5])=>`((es.toList.map (·.key)))|`([Q4,$a])=>`(rx P w K mg base $a outer s H)|`([Q3])=>`("Search.first_that_fits")|`([Q0])=>`("Completions.steps_from")|`([QY,$a])=>`(List.length_eq_zero_iff.mp $a)|`([QX])=>`(fo S s.heap.objs.size x y)|`([QW,$a,$b,$c])=>`(TopK K mg F.bN F.CK F.CC F.CL F.bo $a $b $c)|`([QU])=>`(ag H2 l (.aj (cb S++[nV (2^i)])))|`([QT])=>`("Completions.can_complete")|`([QS])=>`("Scanner.spots_behind_word")|`([QR,$a,$b,$c])=>`(xX (C:=F.CL) (names:=dI) (d:=(B,$a,$b)) $c nx ny)|`([QQ,$a])=>`(List.any_eq_true.mpr ⟨p,R,bK $a⟩)|`([QP])=>`(wB L b r fs w [aB,T])|`([QO])=>`(λ o A outer s H U Q E u h=>?_)|`([QN])=>`(Vs.cM F.m F.ks e.g.c0 e.g.steps)|`([QM])=>`(∀c∈m.cuts,1≤c.1∧1≤c.2)
local macro_rules|`([PN,$a])=>`(Vs.iV F.ks F.most $a l r)|`([PM,$a,$b])=>`(PyData.tuple [.int $a,.int $b])|`([PL])=>`(lF s.heap z l TO U V)|`([PK,$a,$b,$c])=>`(bj $a λ u P⟨y,M,p,S,$b⟩=>$c)|`([PJ])=>`(("__classdict__":Str))|`([PH])=>`(.type "BaseException")|`([PF,$a,$b])=>`(List.mem_filter.mpr ⟨$a,$b⟩)|`([PD])=>`(sW C s.heap.objs.size)|`([PB])=>`(vu [bd] [ac])|`([Py])=>`("Scanner.first_stand")|`([Pw])=>`("Completion.__init__")|`([Pv,$a])=>`(∀N,$a K H a N→N[i]?=Z x)|`([Pu])=>`(min x.nums.length most)|`([Ps])=>`((ks.flatMap (·.nums)))|`([Pr])=>`("Search.stands_behind")|`([Pq])=>`("Scanner.spots_behind")|`([Pp,$a])=>`(bU K mg "Completions" $a lI)|`([Po,$a])=>`(Option.map_eq_some_iff.mp $a)|`([Pn,$a,$b])=>`(s.foldl (λ l x=>l.flatMap $a) $b)|`([Pm])=>`("Search.first_row_behind")|`([Pl])=>`("stands_behind")|`([Pk,$a])=>`(λ x A=>let⟨o,q⟩:=S.xt x A;$a)|`([Pj])=>`("spots_behind_word")|`([Pi])=>`("first_row_behind")|`([Pg,$a,$b])=>`(λ x dy nx ny nd'=>⟨x,dy,$a,$b,aw,J,?_⟩)|`([Pf])=>`(min xs.length ys.length)|`([Pe,$a,$b])=>`(if$a≠0 then$a/2 else$b)|`([Pd])=>`(Builtin.«zip.__next__» ⟨[.ref z],[]⟩)|`([Pc,$a,$b])=>`(⟨$a,I.os,I.bare,I.base,I.loc,I.cell,I.free,I.jY,$b,I.aH,I.len⟩)|`([Pb,$a,$b])=>`(n8 $a I.e9 $b e (λ z=>nomatch z) h)|`([Pa,$a])=>`(λ b K=>⟨($a).2.2.2.1,($a).2.1,($a).2.2.2.2.1,($a).2.2.2.2.2⟩)|`([Th,$a,$b])=>`([eq,"answer","Completions.answer",rQ,F.bo,$a,$b,[LN]])|`([Tg,$a,$b,$c])=>`(ah H m→bD H m→m $a=Z $b→Q $c m)|`([Tf])=>`(ag (ag H6 p (.ins l W part)) kb (.dK []))|`([Te,$a])=>`([oC,R.take $a,λ L=>[A9]])|`([Td])=>`([zB,bf,l.length+2,1002])|`([Tc])=>`([Aq,(D.zip B).filter (λ x=>! iy d x.2),V.ref x.1])|`([Tb,$a,$b])=>`(tu $a $b pos.line X.env=pure false)|`([Ta,$a,$b])=>`([Z [wn],Z [pU],Z (wV p),[bV,F],$a,$b])|`([S_,$a])=>`(∀(I:[Be,aq]),$a→[C2,lO (.ref z),I])
local macro_rules|`([NX,$a,$b])=>`(∀l,H l=none→$a (.ref l) (ag H l $b))|`([NW,$a])=>`(∀U H Q E,sp U H Q E→U.length=$a)|`([NV])=>`(λ l w=>gR m (Vs.kindOf w) false l)|`([NU])=>`(bz a.size a.size O-bz a.size 0 c)|`([NT,$a])=>`(∀p,H p=none→Q (.ref p) (ag H p $a))|`([NS,$a,$b,$c,$d,$e])=>`(vq (name:=k_ "__next__") $a $b (qC $b $a $c $d $e))|`([NR,$a])=>`(.fields #[.int $a t,.int O u,.int 1 v])|`([NQ,$a,$b,$c])=>`(oq $a $b s.heap.objs.size f $c)|`([NP])=>`(λ _ _ _ _ _=>iv)|`([NO])=>`(X.env::X.outer)|`([Qs,$a])=>`([rh,X.base.get? b,$a])|`([Qr,$a])=>`(∃W:Nat→[yi,Hp],$a)|`([Qp,$a,$b])=>`([lc,[nG],_,$a,$b _ [Ek]])|`([Qo])=>`([aw,(g_ pos [oE,es]).any (·.1)])|`([Qm,$a,$b])=>`(mj nN sM sN pT $a [gv,$b])|`([Ql])=>`((∃o,S.get? e=Z o∧o.cls=.type "StopIteration")→E (.ref e) [gX,S])|`([Qk])=>`([pD,u,G,[cX],nV z])|`([Qj,$a])=>`((b.map λ g=>[fy,$a,[P3]]).sum)|`([Qi,$a,$b])=>`([eq,"search",[QA],oO,F.bo,$a,$b,[Nm]])|`([Qh])=>`([E7,cb S,[lG]+1])|`([Qg,$a,$b,$c])=>`(⟨$a,$b,λ v q=>by rw[71,$c:term]⟩)|`([Qc,$a])=>`([oC,sh.2.take $a,jo m L])|`([Qb,$a])=>`([oC,C.take $a,Vs.hO m N en])|`([Qa,$a])=>`(jF most p g::(fY most (p+[ze]) $a))|`([P9])=>`(g.map λ j=>[aV,[Fi,j]])|`([P8])=>`(λ e R=>[ut,?_,S.kn e R])|`([P7])=>`(l.map (λ n:Nat=>PyData.int [cQ]))|`([P5,$a])=>`(λ vs H Q E=>∃X,$a [oM] vs H Q E)|`([P4,$a])=>`(∀y∈l.names,y.2=.free→∃c,$a=Z c)|`([P3])=>`(λ p=>[aN,A p=g])|`([P2,$a,$b])=>`(A.under (.builtin "type.__call__" ⟨[iH]::$a,$b⟩))|`([P1,$a])=>`((pre++([wz].take $a).filterMap [Mr]).foldl ig [])|`([P0])=>`(.tup [V.int (r.length:Nat),(V.int 0),(V.str ""),V.bl true])|`([PZ])=>`(.type "Exception")|`([PX,$a])=>`(if$a then 45 else 117)|`([PV])=>`("Search.kinds_in")|`([PU])=>`("Scanner.targets")|`([PR])=>`("Kind.taken_with")|`([PQ])=>`("Search.stands_of")|`([PP,$a])=>`(bU K mg "Measure" $a mB)
local macro_rules|`([OU,$a,$b,$c])=>`(oD J (gM [pL,$a] (gM [pL,$b] $c)))|`([OT])=>`([[ck],"lack"])|`([OS])=>`(tz [vY] A env (λ e d=>R (.error e) d))|`([OR,$a,$b])=>`([gh,[NY],oN,$a,$b,["hits"]])|`([OQ])=>`([[ck],"other"])|`([OP,$a])=>`(Z {cls:=.none,data:=[wl,$a]})|`([OO])=>`(X.fn x=true∨[Kp,x]=[wE])|`([ON,$a,$b])=>`([EL,$a<0,($a+[cQ]).toNat,min,$b,n])|`([OM,$a])=>`(p.map λ q=>(q.1,q.2.1++$a,q.2.2))|`([OJ,$a])=>`([ar,d9,[pH,$a]])|`([OH])=>`([yx,y.map λ i=>[aN,n≤i]])|`([OG,$a])=>`($a s3 (ag M D (.aj [])) s3.heap.objs.size (fj (s3.heap.objs.size+1) l.names (ef X.env.cells l.names [])) t)|`([OF,$a,$b,$c])=>`(∃W:Nat→Nat→[wT,St],(∃m,W 0 m w H)∧∀i m w H,W i m w H→(($a).stop i H∧D.nx w H)∨(($a).go i H∧∃N:[wT,St],$b∧$c))|`([OE,$a])=>`(qM z l TO n $a m K)|`([OD,$a,$b,$c])=>`(Vs.jT (r:=$a) $b λ x A=>$c)|`([OC,$a])=>`(Vs.IsT (Vs.dr $a) T t)|`([OB])=>`(F.place+F.count)|`([Oz,$a])=>`(Z {$a with slots:=Y})|`([Oy,$a,$b])=>`(Walk w most Sc iq $a $b)|`([Ox])=>`(bC j+1-C.count j)|`([Ow,$a])=>`(s.heap.objs.size≤$a)|`([Ot])=>`(Binds X.K fd ps ds)|`([Os])=>`((S.map gp).getD k [])|`([Op,$a])=>`(⟨r,g,.func $a,w⟩)|`([Oo,$a])=>`(∀g∈m.feet,∀w∈g,$a)|`([On])=>`("answer_with")|`([Om,$a])=>`(∀w H,P $a w H→D.nx w H)|`([Ol])=>`(s₁.heap.get? b)|`([Oi])=>`(l.count 45+l.count 117)|`([Og])=>`("Completions.known_of")|`([Oe,$a])=>`([$a,.ref ma,.ref aa,.ref sa])|`([Ob])=>`("Completions.answer_with")|`([Oa])=>`(λ w=>w.1.map λ s=>(s,w.2))|`([N_])=>`([jb,"object.__class__"])|`([N8,$a,$b])=>`(($a).l_ $b (λ _ q=>q) λ _ _ q=>q)|`([N7])=>`([ap,k.place]+[ap,k.count])|`([N5])=>`(H0 K s₁.heap Ls PtK PtC b)|`([N1])=>`(X.eV.heap.get? b)|`([NZ,$a])=>`(X.eV.heap.objs.size≤$a)|`([NY])=>`("commonest_bit")
local macro_rules|`([MV,$a,$b])=>`(m.cuts.contains ($a+1,$b+1))|`([MU,$a,$b,$c,$d])=>`(d6 $a (i:=i) (a:=$b) (by rw[bX $c,$d:term]))|`([MR])=>`("spots_behind")|`([ML])=>`((Y.map (·.1)).Nodup)|`([MJ,$a])=>`(Vs.jc F.m F.ks F.most $a)|`([MH,$a])=>`(I.nv _ _ _ _ $a z S.kt)|`([MG])=>`((g.getD i []).length)|`([MD,$a])=>`(fo s.heap l (.ref n) (.ref $a))|`([Mz,$a])=>`(bU K mg "Completion" $a d7)|`([My])=>`(["bits","hits","runs"])|`([Mx,$a,$b,$c,$d])=>`(Z {cls:=$a,dict:=$b,data:=$c,slots:=$d})|`([Mv])=>`(bz a.size 0 c)|`([Ms])=>`(∀U,o.data≠.fields U)|`([Mr])=>`(Vs.ip m N I p G)|`([Mo])=>`(wordOf (S.getD k []))|`([Mn,$a])=>`(j_ mg base "MeasureRefused" $a)|`([Mm])=>`(∀x,vz iter X.env x=pure x)|`([Ml])=>`(.type "list")|`([Mj,$a])=>`(∀b N,H b=Z (.tup N)→$a b=Z (.tup N))|`([Mi,$a])=>`(∀m,ah H m→bD H m→$a)|`([Mf])=>`(λ i e h=>⟨e,h,J,J,Vs.eG.refl _ _⟩)|`([Me,$a,$b,$c,$d,$e])=>`(if$a then$b else if$c then$d else$e)|`([Md,$a,$b])=>`([Bh,X.prog,X.w,H,s.heap,a,$a,I.aH a _ $b])|`([Mb,$a])=>`(az _ A.in1 ($a>>=_) _ _ _)|`([L9])=>`(λ vs H Q E h=>?_)|`([L7,$a])=>`(List.getElem?_eq_some_iff.mp $a)|`([O_,$a,$b,$c])=>`(∀b o,$a→$b=Z o→$c=Z o)|`([O9])=>`(V→(Option Int→(Option Int→[Ka])))|`([O6,$a])=>`(aW ⟨tm kU _,$a⟩)|`([O5,$a,$b,$c])=>`([pD,$a,t,V.str $b,V.str $c])|`([O4,$a])=>`([(V.int ($a).1),(V.int ($a).2)])|`([O3,$a,$b,$c])=>`([C6,MS.me,GS,$a,MS.b,$b,$c])|`([O2,$a,$b])=>`(aK (d0 (pv 0) $a J) (aN [uh,$b]))|`([O1,$a])=>`(bA (F.plus x) (ag H x $a) a)|`([O0,$a])=>`([u9,$a].any F.en)|`([OZ,$a,$b])=>`(A.deeper [NQ,$a,$b,j])|`([OY,$a])=>`(fj [jC] l.names $a)|`([OX])=>`([CG,Sound.cons c.1,c.2])|`([OW])=>`([aV,t&&&[zL]])|`([OV])=>`(dQ [ap,m] ([ap,m]-1))
local macro_rules|`([NK])=>`(List (Sound×Nat))|`([NJ,$a])=>`(j3 K H [bi] $a)|`([NI,$a,$b])=>`(gd (Z ($a,$b,i)) (s.map (λ x=>(x,i))++l))|`([NH,$a,$b])=>`(s.heap.IsTuple $a $b)|`([NG])=>`([oE,[e]]=[[zA,e]])|`([NF,$a])=>`(∀x∈$a,[aw,dD x])|`([NE])=>`([C5,"dict",.dict #[]])|`([ND])=>`([oE,e::es]=[zA,e]::[oE,es])|`([NA,$a,$b])=>`(∀c o,[b9,c≠z,c≠TO,c≠n,c≠$a,[iF,c]=Z o→$b=Z o])|`([Nz])=>`(⟨W,z _ _ co⟩)|`([Ny,$a])=>`(λ S eb=>[lu,$a])|`([Nw])=>`(eX F.aO [DW])|`([Nv])=>`(["word","place"])|`([Nt,$a,$b])=>`(L.2.1.map λ w=>$a w $b)|`([Nr,$a,$b])=>`(isRow $a F.most $b=true)|`([Nq])=>`([qV,44].map gD)|`([Np,$a,$b,$c])=>`([(V.ref $a),(V.ref $b),(V.ref $c)])|`([No,$a,$b,$c,$d])=>`(aK (bE (i:=$a) nd J $b $c) $d)|`([Nn])=>`((k_ "key",[dS]))|`([Nm])=>`(["self","known","barred","left","room"])|`([Nl,$a])=>`([Ic,"tuple",.seq $a])|`([Nk,$a])=>`([mu,$a,[pp,h',t']])|`([Nj])=>`(List [lB])|`([Ni])=>`([[ck],"after"])|`([Nh])=>`(G.map λ c=>[aN,c∉O])|`([Ng,$a,$b,$c])=>`(eJ dX J $a [pL,$b] (aN $c))|`([Nf])=>`(Y.map (·.1))|`([Nd])=>`(bs.map V.ref)|`([Nb,$a])=>`({Y with heap:=$a})|`([Na,$a,$b])=>`(⟨p $a $b Y O,O⟩)|`([M_])=>`(S.length≤64)|`([M9])=>`(.type "object")|`([M8])=>`([jb,"max"])|`([M7,$a,$b])=>`(∀x∈$a,x.length≤$b)|`([M6,$a,$b])=>`(s.heap.FunFrames $a $b)|`([M5,$a,$b])=>`(eg X.N X.env.scope $a $b)|`([M4,$a])=>`(bU K mg "Lack" $a dI)|`([M3,$a])=>`(bU K mg "Known" $a fU)|`([MY])=>`(⟨kn,N,j8 F L⟩)|`([MX,$a])=>`(mC F d $a se kb ay n)
local macro_rules|`([K6])=>`([[ck],"numbers","shape","size","place","count"])|`([K5,$a,$b,$c,$d])=>`(wipe $a U=[z_]∧B $a M λ b L=>[qe,b,$b $a L λ y R=>∃t,R D=Z (.aj t)∧t.length<aQ∧$c,$d])|`([K4])=>`(λ a ha=>?_)|`([K3,$a,$b])=>`(λ w H R=>$a w H $b)|`([K2])=>`(as.map V.ref)|`([K1,$a,$b])=>`(Vs.oz F.m F.ks $a $b)|`([K0,$a])=>`(ow bC sz cM l $a)|`([KZ,$a])=>`(.seq ($a).toArray)|`([KY,$a])=>`(∀s∈$a,ij m s)|`([KW,$a])=>`(d8 C names $a c B)|`([KU,$a,$b,$c])=>`($a _ _ _ $b λ b _ o e=>$c)|`([KS,$a,$b])=>`(PW.pt (pN $a (pM $b)))|`([KR])=>`((t++[x]).length)|`([KQ,$a])=>`(λ x A=>$a x (cp _ A))|`([KP,$a,$b,$c,$d])=>`(match$a:term with|none=>$b|Z $c=>$d)|`([KO])=>`(Vs.Sep (Vs.dr ks))|`([KN])=>`(I.my _ _ z S.sc)|`([KM,$a])=>`(($a :Str).cps.toList)|`([KL,$a])=>`(∀x∈F.X,$a x=H x)|`([KJ,$a])=>`(List.mem_range.mp $a)|`([KI,$a,$b,$c,$d,$e])=>`(Turn P w K $a $b $c $d (λ i h=>$e))|`([KH])=>`(Nat×Vs.a8)|`([KG])=>`(["text","feet_count"])|`([KF,$a])=>`(∃h∈T,h.testBit $a=true)|`([KB,$a])=>`(beq_eq_false_iff_ne.mpr $a)|`([Kz,$a])=>`(List.mem_iff_getElem?.mp $a)|`([Ky,$a])=>`(⟨_,$a,λ v q=>nomatch q⟩)|`([Kx])=>`(.type "tuple")|`([Kw,$a,$b])=>`(N $a $b→∃S,S<m∧W (i+1) S $a $b)|`([Kv,$a,$b])=>`([wu,kv.1,$a,(kv.1,$b),kv])|`([Ku,$a,$b,$c,$d,$e,$f,$g,$h])=>`(lB $a $b $c J $d $e .nil bH (ak $f (ak $g $h)))|`([Kt,$a])=>`(Array.getElem?_eq_some_iff.mp $a)|`([Ks])=>`(["after","most","stock_count"])|`([Kr,$a,$b,$c])=>`([.ref $a,.ref $b,.ref $c])|`([Kq])=>`(["most","measure","after","stock"])|`([Kp,$a])=>`(X.env.scope.names.lookup $a)|`([Ko])=>`(λ _ _ _ _ _ _ W X=>match W,X with|[_,_,_,_],_=>J)|`([NN])=>`(ph K [dS]=true)|`([NM,$a,$b])=>`(∀b o,$a→([iF,b]=Z o→$b=Z o))|`([NL,$a,$b])=>`(fQ j4 (pv 1) (b8 J $a $b) (λ _ _=>J))
local macro_rules|`([Il])=>`(["shapes","sizes","most"])|`([Ik])=>`(["weight","weight_behind"])|`([Ij])=>`(o.dropLast.map λ w=>max w 1)|`([Ii,$a])=>`(ag H s.heap.objs.size $a)|`([Ih,$a])=>`((($a).1,($a).2.1.map (λ w=>joined w fm.2.1),fm.1))|`([Ig,$a,$b,$c,$d])=>`(cU X.prog X.w (ag $a $b $c) $d $b $c)|`([Ie,$a,$b])=>`(X.cV s H $a (fk $a $b C X.env) t)|`([Id])=>`(ef X.env.cells l.names [])|`([Ic,$a,$b])=>`({cls:=.type $a,data:=$b})|`([L6])=>`([[ck],"foot","place"])|`([L3])=>`([[ck],"stands","row"])|`([L1,$a,$b,$c,$d])=>`($a $b s.heap S→$c $d [gX,S])|`([L0])=>`([[ck],"foot","rest"])|`([LZ])=>`(ag R D (.aj (t++[y])))|`([LW,$a,$b])=>`([um,$a,Z,$b,none])|`([LU,$a,$b])=>`(fU.zip [Kr,L,$a,$b])|`([LT])=>`([[ck],"measure"])|`([LS])=>`(["words","most"])|`([LQ,$a,$b,$c,$d])=>`([CH,$a,$b,$c,[d9,_,_,J,$d]])|`([LP,$a])=>`(n.testBit $a=true)|`([LO,$a])=>`(([]:[gj,V])=$a [])|`([LN])=>`(["self","known",[xL],"left","room"])|`([LM])=>`(["stock","most"])|`([LL,$a])=>`($a s.heap.objs.size)|`([LG,$a,$b])=>`(λ f M=>$a [Ey,$b] f M)|`([LE,$a])=>`(λ z=>$a [bB,z])|`([LD])=>`([em,_,dM _ J,J])|`([LA,$a])=>`(λ h=>[aN,h&&&$a=0])|`([Ly])=>`(["digits","most"])|`([Lw])=>`([Aq,(dW l).drop 1,V.str (tx x)])|`([Lv,$a])=>`(λ _ _ _ _ _=>[pL,$a])|`([Lu,$a,$b])=>`([wB,_,ax.of $a,by rw[$b:term]])|`([Lq])=>`([]++[eD,x]++[eD,n])|`([Lp])=>`([[ck],"row","least"])|`([Ln])=>`([[ck],"steps","is_complete"])|`([Lh])=>`([[ck],"feet","cuts"])|`([Lg,$a])=>`(∀x c,[zJ,x]=Z c→$a)|`([Lb])=>`([[ck],"measure","words","most"])|`([La])=>`([[ck],"spot","weight",[B3]])|`([K8])=>`([[ck],"foot","place","rest","met"])
local macro_rules|`([Kl,$a])=>`(V.int [aV,$a])|`([Kk,$a,$b])=>`(Vs.eF (Vs.cF F.ks) $a $b)|`([Kj,$a])=>`(Vs.bZ n (λ k=>$a))|`([Ki,$a])=>`([aV,l.count $a])|`([Kg,$a])=>`([Ic,"list",$a])|`([Kf])=>`(HT.bz z.length z.length O)|`([Ke])=>`([[ck],"scanner",[pW]])|`([Kc,$a,$b])=>`(⟨.int $a,H,[tO],[gt,$b],q⟩)|`([Kb])=>`([[ck],"stand",[xL],"left","room"])|`([Ka])=>`([d0,Hp,VK])|`([J_])=>`([[ck],"kind","target","barred","left","room"])|`([J9])=>`(z _ _ S.ka)|`([J8])=>`("kinds_of")|`([J7,$a])=>`({$a with g:=Q})|`([J6,$a,$b])=>`(o.data=.dict $a $b)|`([J5])=>`(c.map V.ref)|`([J4])=>`(Y.length<aQ)|`([J3,$a])=>`(X.A.units+$a<fq)|`([J2,$a,$b])=>`(di X.prog X.w $a $b)|`([J1])=>`(λ _=>#[v,v])|`([J0])=>`(Vs.start F.m)|`([JZ])=>`(c.cs.count j)|`([JY])=>`(aO.map V.ref)|`([JX])=>`((fG l).dropLast)|`([JW])=>`(S.runs.same z)|`([JV,$a,$b])=>`(isRow $a most $b=true)|`([JU])=>`(S.kinds.mono z)|`([JT])=>`(N.place+N.count)|`([JS,$a,$b])=>`($a m.feet ($b).1 ($b).2.2.1)|`([JR])=>`(F.cells.lookup y)|`([JQ,$a])=>`(λ _=>#[v,.int k $a])|`([JP,$a,$b])=>`(if$a then 1 else$b)|`([JO])=>`(∃O,g.get? b=Z O)|`([JN,$a,$b])=>`(([ap,$a],[ap,$b]))|`([IR])=>`(["vowel","cluster"])|`([IO,$a])=>`(λ _ _ _ _ _ _ _ q=>$a q)|`([IN])=>`("<lambda>")|`([Ix])=>`(∀c∈m.cuts,c.2≤4)|`([Io,$a])=>`(($a,fm.2.2.getLast?,fm.1))|`([Im,$a,$b,$c,$d,$e])=>`(I.turned (t':=s.toks) $a U $b $c $d $e)
local macro_rules|`([FQ,$a,$b])=>`(dU T J J $a [de,$b])|`([FM])=>`([pF,Unit])|`([FH,$a])=>`(.bl [aN,$a])|`([FG])=>`(λ kv=>[aN,kv.1=k])|`([FF])=>`(X.stack=[NO]∧(X.env.frame=Z X.env.locals))|`([FE,$a,$b])=>`(n_ $a $b X.env [rG,$a]=[rG,$a])|`([FD])=>`([[ck],"spots","marks","ends"])|`([FB,$a])=>`(.ins C dx $a)|`([FA])=>`("next_row")|`([Fz,$a,$b])=>`(ExcAt $a g a C $b)|`([Fx])=>`(l.filter gm)|`([Fu,$a])=>`(⟨b7 _,$a⟩)|`([Ft,$a,$b])=>`($a $b F.m F.sc F.d3)|`([Fs])=>`(λ b K=>?_)|`([Fj,$a])=>`($a X.env.scope x)|`([Fi,$a])=>`(Vs.b0 F.ks $a)|`([Fh,$a,$b])=>`(nr (by rfl) $a o5 J $b)|`([Fg])=>`(List Vs.Shape)|`([Fd,$a])=>`([ap,$a].toNat)|`([Fc])=>`(gu "list" #[] 0)|`([Fa,$a,$b,$c])=>`(λ b o e=>$a b o $b $c)|`([E9,$a])=>`($a≠X.env.locals)|`([E7,$a,$b])=>`(dB $a (Z $b) none)|`([E6,$a,$b,$c,$d])=>`(match$a:term with|Z $b=>$c|none=>$d)|`([E5])=>`(["codes","signs"])|`([E4,$a])=>`(List.mem_filter.mp $a)|`([EZ,$a])=>`(λ b o e=>cG _ $a)|`([EW,$a,$b])=>`(∃u,mg $a=Z u∧bw $b u)|`([EV])=>`(["text","sign","most"])|`([EQ,$a])=>`(I.aH.fresh $a)|`([EL,$a,$b,$c,$d,$e])=>`(if$a then$b else$c $d $e)|`([EK,$a])=>`(Option.bind_eq_some_iff.mp $a)|`([EJ])=>`(dQ [ap,t] [ap,Vs.bS k.bl])|`([EI])=>`(λ j A outer s H U Q E u h=>?_)|`([EH,$a,$b,$c])=>`(Option.bind_eq_some_iff.mpr ⟨$a,$b,$c⟩)|`([ED,$a,$b,$c,$d,$e,$f,$g])=>`(dA $a $b J $c $d $e .nil bH (ak $f $g))|`([Ez,$a])=>`(cN K (.ref C) $a)|`([Ey,$a])=>`({D with nx:=$a,ct:=$a,bk:=D.nx})|`([Kn])=>`([Am,pv 3,4])|`([Km])=>`(mO K C qJ=true)
local macro_rules|`([Eh,$a])=>`([e9,$a,[al]])|`([Eg,$a,$b,$c,$d,$e])=>`([At,$a,$b,[ui,$c,$d],$e])|`([Ed,$a])=>`([wB,J,_,ax.of $a])|`([Ec,$a,$b,$c,$d,$e,$f])=>`([bn,$a,ax K H $b $c,$d,$e,$f])|`([Ea,$a,$b,$c,$d])=>`([At,$a,$b,$c,[rE,$d]])|`([D_])=>`([fQ,V,[d0,Hp,VK]])|`([D9])=>`(h_::outer)|`([DZ])=>`(bD.refl H)|`([DY])=>`(eU m e sp)|`([DX,$a])=>`($a≤l.length)|`([DW])=>`(t.map ay)|`([DV,$a])=>`(DecidableEq $a)|`([DR,$a])=>`(G.cZ.na $a _ J)|`([DP])=>`(aD [bd])|`([DO,$a])=>`(Paired.length $a)|`([DL,$a,$b])=>`([jB,$a,m,d]∧$b)|`([DJ,$a,$b])=>`(HT.bz N.length $a $b)|`([DI,$a])=>`(ag H1 D (.aj $a))|`([DG,$a,$b,$c,$d])=>`($a X (.BoolOp $b $c pos) $d)|`([DE,$a])=>`(VP.gX KX G $a)|`([DD])=>`(gn shs szs most ks)|`([DB,$a,$b,$c])=>`(if$a then[$b]else$c)|`([Dz,$a])=>`(bU K mg "Search" $a gk)|`([Dy,$a,$b])=>`(⟨$a,_,J,$b,_,J,?_⟩)|`([Dw,$a,$b,$c,$d])=>`(.Call (.Attribute o $a $b) $c [] $d)|`([Dv,$a,$b,$c,$d,$e])=>`(jC (K:=K) (λ _=>true) $a $b $c $d $e ?_)|`([Du])=>`(List.filter_eq_self.mpr [al])|`([Dr])=>`(Hp→Prop)|`([Do,$a,$b,$c])=>`(List.mem_map.mpr ⟨$a,$b,$c⟩)|`([Ib])=>`(o8 K C=true)|`([Ia])=>`([[ck],"stands","kind"])|`([H_])=>`([[ck],"needs","words","size"])|`([HZ])=>`([[ck],[xL],"words","size"])|`([Gq])=>`([Ez,"__setattr__"]=Z (Z [jb,"object.__setattr__"]))|`([Go,$a,$b,$c])=>`(ag (ag $a W (.own $b)) $b (.ins $c W []))|`([Gg])=>`(.inr [m_])|`([Gf])=>`(List [KH])|`([F_])=>`([Aq,dW l,V.str (tx x)])|`([FU,$a])=>`(B.map (λ c=>(c,$a)))|`([FS])=>`(([v0]:Str))
local macro_rules|`([B2,$a])=>`(ed List.length $a)|`([B1])=>`([j4,ae])|`([B0])=>`(aM X.prog X.w)|`([Dl,$a])=>`(A.units+$a<fq)|`([Dk,$a])=>`(cs.length≤$a)|`([De,$a,$b,$c,$d])=>`(cX $a (by rfl) $b $c $d)|`([Dd,$a])=>`(∀k∈ks,$a)|`([Dc,$a,$b])=>`(.dT (cD Y $a $b))|`([Da])=>`(Nat→Prop)|`([C_])=>`(Array [B1])|`([C9,$a,$b])=>`([uj,H,b≠$a,$b=Z o])|`([C8,$a,$b])=>`([aN,$a]=[aN,$b])|`([C6,$a,$b,$c,$d,$e,$f])=>`([pM,pv 0,T.cl,$a,$b,$c,$d,$e,$f])|`([C5,$a,$b])=>`([BT,[Ic,$a,$b]])|`([C2,$a,$b])=>`([Bk,$a,$b,E,s])|`([CZ,$a,$b])=>`(∀b,b≠$a→$b)|`([CY,$a])=>`(bZ n λ k=>$a)|`([CW,$a])=>`(N.length≤$a)|`([CU,$a])=>`((S.kn e $a).1.ex)|`([CO,$a])=>`(ie B m sc d3 $a)|`([CN,$a])=>`(dB $a none (Z (-1)))|`([CJ,$a,$b])=>`(gP X $a (λ N H Q=>$b))|`([CI,$a])=>`(bU K mg "Kind" $a fR)|`([CH,$a,$b,$c,$d])=>`(iw $a (j:=$b) J J $c J $d)|`([CG,$a,$b])=>`(cs.map (λ c=>($a,$b)))|`([CF,$a,$b,$c,$d])=>`($a=if$b then$c else$d)|`([CD,$a])=>`(([]:List $a))|`([CB,$a])=>`(List.length_pos_iff.mpr $a)|`([Cy])=>`(λ _ _=>J)|`([Cu,$a,$b,$c,$d])=>`(∀(s:aq)(H:Hp)(C:ab)(N:List (Str×ab))(t:List ab),$a (X.cV s H $b (fk $b N C X.env) t) $c $d)|`([Ev])=>`(V→[D_])|`([Eu])=>`(List [Nj])|`([Et])=>`(nT K C=true)|`([Es,$a,$b,$c])=>`([Ea,$a,$b,$c,pv $a])|`([Er,$a])=>`(h&&&[oW,$a])|`([Ep])=>`(.str [v0])|`([Eo,$a,$b])=>`([sw,$a,λ x a=>$b])|`([El,$a])=>`([lz,G.cZ.nd,$a])|`([Ek])=>`([EQ,ba _])|`([Ei])=>`(k _ _ [db] e)
local macro_rules|`([A5,$a])=>`([aN,V.int $a=(V.int 0)])|`([A4,$a,$b])=>`([dA,($a :Str),⟨$b⟩,[bE]])|`([A3])=>`([[ck],[xL],"left","room"])|`([AW])=>`(.ref e.kn)|`([AV,$a])=>`(df $a Pt W q)|`([AU,$a])=>`(Y.length≤$a)|`([AT])=>`("cluster")|`([AQ])=>`("enumerate")|`([AO])=>`(λ _ _=>False)|`([AE])=>`(X.cV s3 L l ce t)|`([AD,$a,$b,$c])=>`(au (f7 $a J (x:=$b) J $c))|`([AC,$a])=>`([fQ,$a,Prop])|`([Az,$a])=>`(List.nodup_cons.mp $a)|`([Ay,$a])=>`(bU K mg "Scanner" $a eM)|`([Aw])=>`(X.env.qual++"<lambda>")|`([Av,$a,$b,$c,$d])=>`(.ListComp $a [⟨tg,iter,$b,0⟩] $c $d)|`([Au])=>`(λ _ _ _ _ _ _ W X=>match W,X with|[_,_,_],_=>J)|`([At,$a,$b,$c,$d])=>`([No,$a,aR J,$b,aK $c $d])|`([Ct,$a])=>`([aw,$a==iS])|`([Cr,$a,$b])=>`([Ae,pv $a,$b])|`([Cq,$a,$b,$c])=>`([Ng,dj $a,$b,$c])|`([Cp])=>`(Nat→[Ce])|`([Co,$a,$b,$c,$d,$e,$f])=>`(dA $a $b J $c $d $e .nil bH [gv,$f])|`([Cm,$a,$b])=>`(.tup [nV $a,nV (gA l),V.ref $b])|`([Cl,$a])=>`(r.map λ k=>$a)|`([Ck,$a,$b,$c,$d])=>`(⟨$a,$b,(($c).mpr $d)⟩)|`([Ch,$a,$b])=>`(cE $a $b (by intro q;cases q))|`([Cg])=>`([[ck],[xL]])|`([Cf,$a])=>`([ii,.int (i:Nat),$a])|`([Ce])=>`([wT,St])|`([Cd])=>`(W.drop i)|`([Cc])=>`(prev W i)|`([Cb])=>`(S.xd x A)|`([Ca])=>`(PE X a ta)|`([B_,$a])=>`(r.length≤$a)|`([B9])=>`(h'.get? b)|`([B7])=>`(.function)|`([B6])=>`(g.get? b)|`([B4,$a,$b,$c])=>`(.Subscript $a $b $c)|`([B3])=>`("weights")
local macro_rules|`([zg,$a])=>`(List.mem_flatMap.mp $a)|`([zf,$a])=>`(V.int [ap,$a])|`([ze])=>`(min g.nums.length most)|`([y_])=>`([yj,F.ks,i])|`([y9])=>`(λ _ _ _ _ _ _ W X=>match W,X with|[_],_=>J)|`([As,$a,$b,$c,$d])=>`([De,$a,$b,$c,ak $d aB])|`([Aq,$a,$b])=>`(($a).map λ x=>$b)|`([Am,$a,$b])=>`(ak $a [gv,$b])|`([Al,$a])=>`(a_ [de,$a])|`([Ak,$a,$b])=>`(Paired.dE $a $b)|`([Aj])=>`(HT.bz z.length 0 c)|`([Ag,$a,$b,$c])=>`([uj,$a,$b=none,$c])|`([Ae,$a,$b])=>`(ak $a (ak $b aB))|`([Ad,$a,$b,$c,$d])=>`(@eg.mk $a (aZ $b) _ [($c,$d)] J [bE] [bE] [bE] [bE])|`([Ac,$a])=>`(s1.trans $a)|`([Ab])=>`(jn K mg F)|`([Aa,$a])=>`(Vs.cF F.ks $a)|`([z_])=>`(wipe w U)|`([zZ,$a])=>`(cj gj $a bu)|`([zY])=>`("__init__")|`([zX])=>`(EP X B w Q)|`([zW,$a])=>`(names.zip $a)|`([zV,$a])=>`(dU T J J $a ?_)|`([zQ,$a,$b,$c,$d])=>`(.inr ⟨$a,$b,$c,$d⟩)|`([zP,$a])=>`(l.names.lookup $a)|`([zO,$a,$b])=>`(⟨$a,[al],$b⟩)|`([zN,$a])=>`(sc.names.lookup $a)|`([zM,$a,$b,$c])=>`(s.heap.IsListIter $a $b $c)|`([zL])=>`(Vs.bS k.bl)|`([zK,$a,$b,$c,$d,$e])=>`(bj $a λ v Y⟨x,$b,$c,$d,n⟩=>$e)|`([zJ,$a])=>`(X.env.cells.lookup $a)|`([BT,$a])=>`(s.heap.push $a)|`([Bk,$a,$b,$c,$d])=>`(az [vY] A $a $b $c $d)|`([Bj,$a,$b])=>`([lA,$a,bB $b])|`([Bi])=>`([rF,2,J])|`([Bh,$a,$b,$c,$d,$e,$f,$g])=>`(show cU $a $b $c $d $e $f from$g)|`([Bf,$a,$b])=>`([oC,[ul,$a],$b])|`([Be,$a])=>`([d0,Bool,$a])|`([Bd,$a])=>`([nM,[nM,$a]])|`([A9])=>`(F.tg L [y_])
local macro_rules|`([wJ,$a,$b])=>`(az [B0] $a $b Q E s)|`([wH])=>`(List Gr)|`([wG,$a,$b,$c,$d])=>`(⟨$a,$b _ _ $c,$d⟩)|`([wF])=>`(List Env)|`([wE])=>`(Z .local)|`([wD,$a,$b])=>`(s.heap.IsList $a $b)|`([wC,$a,$b])=>`(∀b∈$a,$b b=none)|`([wB,$a,$b,$c])=>`(.inl ⟨$a,$b,$c⟩)|`([wA])=>`(λ W=>d [bB,W])|`([wz])=>`(Vs.cS m.feet I r)|`([y8,$a,$b])=>`(aK $a [rE,$b])|`([yx,$a])=>`(($a).map V.bl)|`([yw,$a])=>`([As,gv,B.len,f6,pv $a])|`([ym,$a])=>`(show$a by omega)|`([yj,$a,$b])=>`(Vs.shapeAt $a $b)|`([yi,$a])=>`([d0,Nat,$a])|`([yg,$a])=>`([u8,$a]=(Z none))|`([yf,$a,$b])=>`(hr.mono [ym,$a≤$b])|`([x_])=>`(["text"])|`([xY])=>`(Int×Int)|`([xX])=>`(h.Ns b_ mg)|`([xQ])=>`(["sounds"])|`([xP])=>`(Nat×Nat)|`([xO])=>`(A.handled=none)|`([xL])=>`("taken")|`([xz,$a,$b])=>`([ap,$a]≤[ap,$b])|`([wY,$a])=>`(⟨_,J,J,_,J,$a⟩)|`([zI,$a,$b])=>`($a→Q [bi] $b)|`([zH,$a,$b,$c])=>`(⟨_,J,$a,J,$b,$c⟩)|`([zC,$a,$b])=>`(.cons $a (.cons $b .nil))|`([zB,$a,$b,$c])=>`($a [ym,$b≤$c] [bd])|`([zA,$a])=>`((false,[rG,$a]))|`([zt])=>`(["word"])|`([zr])=>`(λ z=>?_)|`([zn,$a])=>`(Zh (aP F $a) m)|`([zm,$a])=>`($a<ks.length)|`([zl])=>`(.ref F.co)|`([zk,$a])=>`(∀i∈$a,i<n)|`([zj])=>`(λ k C=>?_)|`([zh,$a,$b])=>`(at_of (j:=$a) J $b)
local macro_rules|`([rF,$a,$b])=>`(⟨by show$a≤aQ;decide,$b⟩)|`([vX])=>`([j4,Int])|`([vW])=>`(Z [io])|`([vo])=>`(dv [NO])|`([vn,$a,$b,$c])=>`(.inr ⟨$a,$b,$c⟩)|`([vl])=>`([[ck],"row"])|`([vk,$a])=>`([rh,[iF,b],$a=Z o])|`([vh])=>`(Z .cell)|`([vg])=>`(nV most)|`([u9,$a])=>`(eO F ay $a)|`([u8,$a])=>`(dC K b_ $a)|`([ut,$a,$b])=>`(⟨$a,($b).2⟩)|`([um,$a,$b,$c,$d])=>`(if$a then$b $c else$d)|`([ul,$a])=>`(List.range $a)|`([uk,$a])=>`([aw,$a==("__debug__":Str)])|`([uj,$a,$b,$c])=>`([rh,$a b,$b→$c])|`([ui,$a,$b])=>`(bE (i:=$a) nd J (aR J) $b)|`([wx])=>`(List (κ×V))|`([ww,$a])=>`(cx [qV,$a])|`([wv,$a,$b])=>`([ul,$a].map $b)|`([wu,$a,$b,$c,$d])=>`(if$a=$b then$c else$d)|`([ws])=>`([[ck],"stand","shape"])|`([wq])=>`(bV.mp e)|`([wo])=>`(L∈F.U)|`([wn])=>`(.ref sc)|`([wl,$a])=>`(.fields $a)|`([wk])=>`(G.map V.ref)|`([wh])=>`(bK [ac])|`([wg,$a,$b,$c,$d])=>`(H $a=none→$b→$c→$d)|`([wf])=>`(["hits","runs"])|`([we,$a,$b])=>`(⟨$a,$b,J⟩)|`([v0])=>`(⟨#[c]⟩)|`([vZ,$a])=>`({s with toks:=s.toks+$a})|`([vY])=>`(aM prog w)|`([wW,$a])=>`(bY [t9,$a])|`([wT,$a])=>`([d0,$a,Hp])|`([wS])=>`([j4,Nat])|`([wP,$a])=>`(∀b∈t,$a)|`([wO,$a])=>`([qe,$a,_,_])|`([wK,$a])=>`(![aN,$a])
local macro_rules|`([pO])=>`(k.place+k.count)|`([pN,$a,$b,$c])=>`(List.mem_flatMap.mpr ⟨$a,$b,$c⟩)|`([pM,$a,$b,$c,$d,$e,$f,$g,$h])=>`(de $a $b $c $d $e $f .nil bH (ak $g $h))|`([pL,$a])=>`(b9 (i:=$a) nd J (aR J))|`([rh,$a,$b])=>`(∀b o,$a=Z o→$b)|`([rg])=>`([gt,J])|`([rf,$a,$b,$c,$d,$e,$f,$g])=>`(bI K $a $b $a $c $d $e $f [[ck],$g])|`([rc])=>`([ap,1])|`([qV,$a])=>`(bG $a l [])|`([qU])=>`(cs.count k)|`([qP,$a])=>`($a<F.ks.length)|`([qv,$a])=>`(⟨$a,?_⟩)|`([qu,$a])=>`(.cons $a .nil)|`([qp])=>`(λ _ _ _ _ _ _ W X=>match W,X with|[_,_],_=>J)|`([qe,$a,$b,$c])=>`([wu,$a,true,$b,$c])|`([rE,$a])=>`(aN (bB $a))|`([rD])=>`([[bi]])|`([ry])=>`(h.get? a)|`([rw])=>`([iF,b])|`([rs,$a,$b])=>`(bV.mpr ⟨$a,$b⟩)|`([rq])=>`("codes")|`([rp])=>`(λ x A=>?_)|`([ro])=>`(λ p R=>?_)|`([uh,$a])=>`(d0 (pv 0) $a J)|`([ug])=>`([j4,ab])|`([uf,$a,$b])=>`([eY,u,_,$a,$b])|`([t9,$a])=>`([aV,2^$a])|`([tY,$a,$b])=>`((($a).testBit $b)=true)|`([tX,$a])=>`(Y.trans $a)|`([tW,$a])=>`(.Name x $a)|`([tO])=>`(I.tok _)|`([tN,$a])=>`(⟨$a,[]⟩)|`([tJ])=>`(I.ok.hd V)|`([sK])=>`(X.calm=true)|`([sG])=>`(x.place+x.count)|`([sB,$a])=>`($a<s.heap.objs.size)|`([sw,$a,$b])=>`(λ w H Q=>$a w H $b)|`([su,$a,$b])=>`([Ak,$a,λ _ _ z=>$b])|`([rJ,$a])=>`(List.mem_range.mpr $a)|`([rG,$a])=>`(eval $a X.env)
local macro_rules|`([lA,$a,$b])=>`(cI $a (aN $b) cQ)|`([lz,$a,$b])=>`(lk $a (i:=$b) J _)|`([nF,$a,$b])=>`(ag $a $b (.aj []))|`([nr,$a])=>`([dF,$a].symm)|`([nk])=>`(List [xP])|`([nj,$a])=>`([gt,ax.of $a])|`([ni,$a])=>`(Vs.cg (Vs.b0 F.ks) $a)|`([nh,$a,$b,$c])=>`(eP K mg $a $b $c)|`([m_])=>`(.inl h)|`([m6,$a,$b,$c,$d,$e,$f])=>`($a (K:=K) (a:=$b) (xs:=$c) $d $e $f ?_ ?_)|`([mu,$a,$b])=>`(Inv X pins σ $a $b)|`([ov,$a])=>`([ar,aC,$a])|`([or])=>`([gj,ab])|`([on])=>`(List bc)|`([ol])=>`(bW [ac])|`([nM,$a])=>`(.inr (.inr $a))|`([nG])=>`([LL,.ref])|`([pi,$a])=>`(V.str (tx $a))|`([pc,$a,$b])=>`(ax.of ($a _ _ $b))|`([o0])=>`(.cons c)|`([oW,$a])=>`(Vs.cT I $a)|`([oM])=>`(F.with X)|`([oH])=>`(List Vs.a8)|`([oE,$a])=>`(cO $a X.env)|`([oD])=>`(List Vs.Spot)|`([oC,$a,$b])=>`(($a).flatMap $b)|`([oB,$a,$b])=>`(cE $a $b (by intro z;cases z))|`([pH,$a])=>`(bf $a [bd])|`([pF,$a])=>`([d0,$a,aq])|`([pD,$a,$b,$c,$d])=>`(ag $a $b [ii,$c,$d])|`([pv,$a])=>`(K.lookup $a)|`([pu])=>`(List Syl)|`([pr,$a])=>`(Y.heap.objs.size+$a)|`([pp,$a,$b])=>`({s with heap:=$a,toks:=$b})|`([p_,$a])=>`([we,_,$a])|`([p0,$a])=>`([pp,$a,G])|`([pW])=>`("kinds")|`([pU])=>`(.ref sa)|`([pT,$a,$b])=>`(ff (ak $a $b))|`([pQ,$a])=>`(l.length≤$a)
local macro_rules|`([iv,$a])=>`(S.get? $a)|`([io])=>`(.ref l)|`([jl,$a,$b])=>`(by rw[$a:term,$b:term];rfl)|`([jh,$a])=>`(bF (pv $a) J)|`([jb,$a])=>`(.builtin $a)|`([iZ])=>`([[ck],"stand"])|`([iW])=>`([jB,w,H,s])|`([iI])=>`(.vowel g)|`([iH])=>`(.ref C)|`([iF,$a])=>`(s.heap.get? $a)|`([jB,$a,$b,$c])=>`(Inv X B $a $b $c)|`([jz,$a,$b])=>`([Do,$a,$b,J])|`([jp])=>`(dt P w)|`([j0,$a])=>`([Ez,$a]=(Z none))|`([jU])=>`(h.get? b)|`([jT,$a,$b])=>`(.inr ⟨$a,$b⟩)|`([jS,$a])=>`(Value.ref $a)|`([jC])=>`(s.heap.objs.size+1)|`([kw,$a,$b,$c,$d,$e,$f,$g])=>`([bn,$a,$b,$c,$d,$e∧$f∧$g])|`([j5,$a])=>`(Z (V.ref $a))|`([j4,$a])=>`(Option $a)|`([ln,$a,$b,$c,$d])=>`([gh,$a,$b,f,$c,$d])|`([lm])=>`(Z (.ref a))|`([lk])=>`(List (Tr×V))|`([li])=>`(List m)|`([lf])=>`("number")|`([lc,$a,$b,$c,$d])=>`(⟨$a,$b,$c,J,$d⟩)|`([ly,$a,$b])=>`([aN,$a≤$b])|`([lx])=>`(.ref d)|`([lv])=>`(sp.2.2)|`([lu,$a])=>`(⟨J,$a⟩)|`([mt,$a])=>`([cm,H,$a])|`([mn,$a,$b,$c])=>`([eY,($a).2,b,$b,$c])|`([mj,$a])=>`([lz,T.nd,$a])|`([mh])=>`(List (Key×V))|`([md])=>`(ks[i]?)|`([lG])=>`([ap,i])|`([lD,$a])=>`(T.na $a _ J)|`([lC])=>`(Array ae)|`([lB])=>`(List Bool)
local macro_rules|`([cX])=>`(.ref p)|`([db])=>`(.inl J)|`([cY,$a,$b])=>`(($a).length≤$b)|`([de,$a])=>`(⟨_,J,$a⟩)|`([dj])=>`(Nat→Nat)|`([dA,$a,$b,$c])=>`(show$a=$b from$c)|`([dE,$a])=>`(List.mem_cons.mp $a)|`([dU,$a,$b,$c])=>`(cm $a $b $c (ck _))|`([dS])=>`(.ref f)|`([dL])=>`([j4,V])|`([dF,$a])=>`(Option.some.inj $a)|`([d0,$a,$b])=>`($a→$b→Prop)|`([eq,$a,$b,$c,$d,$e,$f,$g])=>`(bI K $a $b $a $c $d $e $f $g)|`([em,$a,$b,$c])=>`(⟨$a,$b,J,$c⟩)|`([d9,$a,$b,$c,$d])=>`(⟨$a,$b,J,$c,$d⟩)|`([d6])=>`(List Vs.Kd)|`([eJ,$a])=>`([L7,$a].1)|`([eD,$a])=>`([V.ref $a])|`([er])=>`([jh,0])|`([eY,$a,$b,$c,$d])=>`(($a $b $c).trans $d)|`([ff,$a,$b])=>`(Z (.ins $a W $b))|`([e_])=>`(List Sound)|`([e9,$a,$b])=>`(absurd $a $b)|`([fQ,$a,$b])=>`(List $a→$b)|`([fz])=>`(cY [bE] _)|`([fy,$a,$b])=>`(($a $b).length)|`([gh,$a,$b,$c,$d,$e])=>`(Def K mg $a $b $c $d $e)|`([ge,$a])=>`(⟨$a,J⟩)|`([f8,$a,$b,$c])=>`(az (aM X.prog X.w) X.A $a $b X.xe $c)|`([gL,$a])=>`(by rw[31,$a:term])|`([gv,$a])=>`(ak (pv $a) aB)|`([gt,$a])=>`(⟨_,$a⟩)|`([gj,$a])=>`(List (Str×$a))|`([hJ,$a])=>`(by rw[$a:term];rfl)|`([gX,$a])=>`({s with heap:=$a})|`([gM,$a])=>`(List.mem_append.mp $a)|`([im,$a])=>`([C2,$a,Q])|`([ii,$a,$b])=>`(.tup [$a,$b])|`([ib,$a,$b])=>`(inClass (top $a) $b)|`([iw,$a])=>`(.str (tx $a))
local macro_rules|`([ac])=>`(by omega)|`([ak])=>`(List Nat)|`([al])=>`(by simp)|`([ap,$a])=>`(($a :Int))|`([ar,$a,$b])=>`(by rw[$a:term];exact$b)|`([aw,$a])=>`($a=false)|`([aB,$a])=>`(by simpa using$a)|`([aK])=>`(List V)|`([aN,$a])=>`(decide $a)|`([aT])=>`(List ab)|`([aX])=>`([pF,ae])|`([aV,$a])=>`([ap,($a :Nat)])|`([bd])=>`(by decide)|`([a_])=>`(Str→[j4,ae])|`([bi])=>`(.ref a)|`([bj])=>`(List Str)|`([bn,$a,$b,$c,$d,$e])=>`($a∧$b∧$c∧$d∧$e)|`([bp,$a])=>`(List.mem_map.mp $a)|`([bu])=>`(List ae)|`([bB,$a])=>`(by simp[$a:term])|`([bv])=>`(List KE)|`([bE])=>`(by decide+kernel)|`([bF])=>`(List Int)|`([bH])=>`(List (ab×Obj))|`([bV,$a])=>`(Z (.ref $a))|`([b8,$a,$b])=>`([ar,ar $a,$b])|`([ca])=>`([mu,H,s])|`([b9,$a,$b,$c,$d,$e])=>`($a→$b→$c→$d→$e)|`([cj])=>`(⟨J,J,J,[bE],J,[bE],[bE]⟩)|`([ck])=>`("self")|`([cm,$a,$b])=>`(ah.aT (ah.refl $a) $b)|`([cE,$a,$b])=>`(by rw[25,$a:term,$b:term])|`([cI,$a,$b])=>`(($a).length=$b)|`([cQ])=>`([ap,n])
local macro_rules|`(tactic|rw[169,$a:term])=>`(tactic|(
 rw[100,$a:term,λ a A outer s H U Q E u h=>?_];·obtain⟨p,X,sh,k,t,rfl,_⟩:=h;rfl
 obtain⟨p,X,sh,k,t,rfl,⟨W,R⟩,q⟩:=h))
local macro_rules|`(tactic|rw[154,$a:term,$b:term,$c:term,$d:term,$e:term,$f:term])=>`(tactic|(
 have f:$a :=$b;have b:$c (q::d) k=$d :=by simp[$c:term,vC,f]
 rw[12,$e e,b,$f:term]))
local macro_rules|`(tactic|rw[156,$a:term,$b:term,$c:term,$d:term,$e:term,$f:term])=>`(tactic|(
 by_cases s:i<xs.length;·refine[zQ,$a,P (i+1),$b,$c];obtain⟨e,y⟩:=y;subst e;exact$d
 ·have e:i=xs.length:=(by omega);rw[121,$e:term,$f:term]))
local macro_rules|`(tactic|rw[2,$a:term,$b:term])=>`(tactic|(
 ·exact$a
 ·exact$b))
local macro_rules|`(tactic|rw[139,$a:term])=>`(tactic|obtain⟨m,O,p,M⟩:=$a D)|`(tactic|rw[138,$a:term])=>`(tactic|obtain⟨i,hi,ei⟩:=gY $a)|`(tactic|rw[137,$a:term,$b:term])=>`(tactic|obtain⟨t,e⟩:=(show∃t,u=$a $b t from r))|`(tactic|rw[136])=>`(tactic|rcases[dE,h]with rfl|h)|`(tactic|rw[135,$a:term,$b:term])=>`(tactic|(rcases[gM,$a]with h|h;·exact$b))|`(tactic|rw[134,$a:term])=>`(tactic|(obtain⟨_,q,_⟩:=$a;rw[71,h]))|`(tactic|rw[133,$a:term])=>`(tactic|(obtain⟨a,m,I,q⟩:=h;rw[23,a,m,$a:term,q]))|`(tactic|rw[132,$a:term,$b:term])=>`(tactic|(refine s_ yz ?_;rw[vt kU _];show[Mb,yW (.ref S)];refine au (lT $a J ?_);show[Mb,tryCatch (kr (.ref I)) _];refine au (pj $b)))|`(tactic|rw[131])=>`(tactic|obtain⟨T,r,k2⟩:=S.k2)|`(tactic|rw[130,$a:term])=>`(tactic|simp only[$a:term,Tr.cons.injEq,Tr.num.injEq,pw]at h)|`(tactic|rw[129,$a:term,$b:term])=>`(tactic|exact n8 $a I.e9 $b e (λ z=>nomatch z) h)|`(tactic|rw[128,$a:term])=>`(tactic|(rw[29,λ i m w H=>m=$a-i∧i≤$a∧P i w H,⟨$a,[al],b7 _,I⟩];rintro i m w H⟨rfl,O,p⟩))|`(tactic|rw[127,$a:term])=>`(tactic|(refine'$a;(case a=>k_is);(case l=>k_is);(case c=>k_is);(case k=>k_is)))|`(tactic|rw[144,$a:term,$b:term,$c:term])=>`(tactic|(rcases$a:term with z|z;rw[11,z,$b:term];·exact$c))|`(tactic|rw[143,$a:term])=>`(tactic|obtain⟨n,hn,rfl⟩:=[bp,$a])|`(tactic|rw[142,$a:term])=>`(tactic|obtain⟨dsc,vals,hsc⟩:=I.at_ _ $a)|`(tactic|rw[141])=>`(tactic|first|rw[21,J]|exact .inr J|assumption)|`(tactic|rw[140])=>`(tactic|(obtain⟨l,rfl,_⟩:=h;rfl))|`(tactic|rw[161,$a:term,$b:term,$c:term,$d:term])=>`(tactic|have tk:jk $a (ag $a $b (.aj $c)):=λ b xs e=>[b8,$d,e])|`(tactic|rw[160,$a:term,$b:term])=>`(tactic|(show[Mb,tryCatch $a _];refine au (pj (k9 $b))))|`(tactic|rw[159,$a:term,$b:term])=>`(tactic|(rw[[wh]];rw[79,aV [Dy,_,J],[wK,[ap,$a]≤[aV,$b]]]))|`(tactic|rw[158,$a:term])=>`(tactic|(refine'$a;(case x0=>k_is);(case x1=>k_is);(case x2=>k_is)))|`(tactic|rw[157,$a:term,$b:term,$c:term,$d:term])=>`(tactic|cases x with|bh=>rw[6,L,$a:term]|bl b=>rw[6,L,$b:term]|int b=>rw[42];exact$c|str b=>rw[42];exact$d|_=>rw[78,d])|`(tactic|rw[155,$a:term])=>`(tactic|(obtain⟨da,ha⟩:=$a;have ha:=bp _ _ ha))|`(tactic|rw[153])=>`(tactic|obtain⟨U,C,f2,G,R,W⟩:=F q [al])|`(tactic|rw[152])=>`(tactic|rcases h.place with z|⟨_,z|⟨k,P⟩⟩)|`(tactic|rw[151,$a:term])=>`(tactic|rcases m6 $a with⟨i,t,rfl,rfl⟩|⟨x,t,rfl,rfl⟩)|`(tactic|rw[150])=>`(tactic|(rcases a with a|⟨d,b,X⟩;·rw[8,a,[al]]))|`(tactic|rw[149])=>`(tactic|(obtain⟨_,_,_,q⟩:=G;exact js q))|`(tactic|rw[148])=>`(tactic|(unfold lexLt at X⊢;simp only at X⊢))|`(tactic|rw[147])=>`(tactic|(intro X t T y V i B s f H E I F L l;subst t T y))|`(tactic|rw[146,$a:term,$b:term,$c:term,$d:term])=>`(tactic|(obtain⟨m,r,d,M⟩:=$a D;refine$b (jy x) $c (λ w T=>$d) ⟨.bl _,H,I,J,?_⟩;rw[show m.toArray.any (jy x)=m.any (jy x)by simp,wA r fs];exact q))|`(tactic|rw[145,$a:term,$b:term])=>`(tactic|(rw[158,⟨$a KX G ?x0,$b KX G ?x1,$b KX G ?x2,$b KX G ?x3⟩];(case x3=>k_is)))|`(tactic|rw[168,$a:term,$b:term])=>`(tactic|(obtain⟨c,g,r,P⟩:=t;refine⟨c,[b8,$a,g],r,?_⟩;rcases P with z|⟨s,a,b⟩;rw[48,z,⟨s,a,[b8,$b,b]⟩]))|`(tactic|rw[167,$a:term,$b:term])=>`(tactic|(obtain⟨j,U,C⟩:=gY $a;rcases E j $b (by rw[bX U,C])with⟨_,rfl⟩|⟨I,D⟩))|`(tactic|rw[166,$a:term])=>`(tactic|match i,F with|0,F=>rw[6,F,c]|1,F=>rw[6,F,E]|2,F=>rw[6,F,D]|k+3,F=>simp[$a:term]at F)|`(tactic|rw[165])=>`(tactic|(refine' VP.Ia ?a ?l ?m ?d ?n ?l2 ?e ?i;(case a=>k_is);(case l=>k_is);(case m=>rfl);(case d=>rfl);(case n=>rfl);(case l2=>k_is)))|`(tactic|rw[164,$a:term,$b:term,$c:term,$d:term])=>`(tactic|cases b with|num j=>rcases m with⟨Y,rfl⟩|⟨f,rfl,rfl⟩;rw[2,gh $a [al],gh $b [al]]|txt y=>obtain⟨Y,rfl⟩:=m;exact$c|nil=>obtain⟨q,G,rfl,w,h⟩:=m;exact$d|cons _ _=>obtain⟨q,G,rfl,w,h⟩:=m;exact$d)|`(tactic|rw[163])=>`(tactic|rcases this with rfl|rfl|rfl|rfl|rfl|rfl|rfl|rfl|rfl|rfl|rfl|rfl|rfl|rfl|rfl|rfl<;>decide+kernel)|`(tactic|rw[162,$a:term])=>`(tactic|(rw[29,λ i m H=>m=$a-i∧i≤$a∧P i H,⟨$a,[al],b7 _,I⟩];rintro i m H⟨rfl,O,p⟩))
local macro_rules|`(tactic|rw[87])=>`(tactic|(intro w;cases w))|`(tactic|rw[86])=>`(tactic|(intro _ z;cases z))|`(tactic|rw[85])=>`(tactic|obtain⟨t,rfl⟩:=r)|`(tactic|rw[84,$a:term])=>`(tactic|(have:=$a;rw[82];omega))|`(tactic|rw[83,$a:term])=>`(tactic|(have:=$a;subst this))|`(tactic|rw[100,$a:term,$b:term])=>`(tactic|rw[53,I.fn.ok,$a:term,$b:term])|`(tactic|rw[99,$a:term])=>`(tactic|rw[103,$a:term,[al]])|`(tactic|rw[98,$a:term,$b:term])=>`(tactic|(rw[38,$a:term,$b:term];cases this))|`(tactic|rw[97,$a:term,$b:term,$c:term])=>`(tactic|(have:$a :=$b;rw[4,this,$c:term]))|`(tactic|rw[96,$a:term,$b:term,$c:term])=>`(tactic|(have:=$a;rw[$b:term,$c:term]at this))|`(tactic|rw[95,$a:term])=>`(tactic|(rw[$a:term]at d;cases d))|`(tactic|rw[94])=>`(tactic|intro B s w H D I h)|`(tactic|rw[93])=>`(tactic|intro B s w H x y v u Q I L A h)|`(tactic|rw[92,$a:term,$b:term])=>`(tactic|(rcases$a:term with q|q;·exact$b))|`(tactic|rw[102])=>`(tactic|(rw[16];subst h))|`(tactic|rw[101,$a:term,$b:term,$c:term])=>`(tactic|(show az _ _ $a _ _ $b;refine$c))|`(tactic|rw[113])=>`(tactic|(simp at q;subst q))|`(tactic|rw[112,$a:term])=>`(tactic|have hr1:cy 1 _:=[yf,1,$a])|`(tactic|rw[111,$a:term])=>`(tactic|rw[5,$a v.typeIs (aW ?_)])|`(tactic|rw[110,$a:term,$b:term])=>`(tactic|cases[dA,u,[jS,$a],$b])|`(tactic|rw[109])=>`(tactic|intro B s w H U W Q I r h)|`(tactic|rw[108,$a:term,$b:term])=>`(tactic|(subst ex;obtain rfl:$a=[jS,a]:=$b))|`(tactic|rw[107])=>`(tactic|rw[28,⟨pg,b,o,sa⟩,λ i f F=>?_,jK X G a,[bE],[bE]])|`(tactic|rw[106,$a:term])=>`(tactic|(rw[127,VP.qu $a ?a ?l ?c ?k ?i ?mk ?kc];(case i=>k_is);(case mk=>k_is);(case kc=>k_is)))|`(tactic|rw[105,$a:term])=>`(tactic|(have:=$a;simpa using this))|`(tactic|rw[104,$a:term])=>`(tactic|exact(show False from$a).elim)|`(tactic|rw[103,$a:term,$b:term])=>`(tactic|rw[119,A,$a (dS I q $b)])|`(tactic|rw[126,$a:term])=>`(tactic|(refine'$a;(case a=>k_is);(case pg=>k_is);(case hd=>k_is);(case po=>k_is);(case sa=>k_is);(case n0=>k_is);(case n1=>k_is);(case n2=>k_is)))|`(tactic|rw[125,$a:term,$b:term,$c:term])=>`(tactic|(rw[33,$a:term,[zf,$b]=(V.int [aV,$c])];rw[j5]))|`(tactic|rw[124,$a:term,$b:term])=>`(tactic|(have q:=bV.mp $a;exact bV.mpr [ut,[b8,$b,q.1],q]))|`(tactic|rw[123])=>`(tactic|rcases[gM,A]with A|A)|`(tactic|rw[122,$a:term,$b:term,$c:term])=>`(tactic|(rcases$a:term with rfl|rfl;rw[2,$b:term,$c:term]))|`(tactic|rw[121,$a:term,$b:term])=>`(tactic|(subst e;rw[21,⟨$a,$b⟩]))|`(tactic|rw[120,$a:term])=>`(tactic|(intro B s w H R I h;refine$a))|`(tactic|rw[119,$a:term,$b:term])=>`(tactic|(obtain⟨Y,rfl⟩:=$a;exact$b))|`(tactic|rw[118,$a:term])=>`(tactic|(rw[cP,cP];refine iD $a))|`(tactic|rw[117])=>`(tactic|obtain⟨W,co⟩:=S.co)|`(tactic|rw[116])=>`(tactic|(simp only[cW];split<;>simp))|`(tactic|rw[115])=>`(tactic|intro B s w H N W Q I r h)|`(tactic|rw[114,$a:term])=>`(tactic|(rw[$a:term]at this;rw[58]))
local macro_rules|`(tactic|rw[47,$a:term,$b:term,$c:term,$d:term,$e:term,$f:term,$g:term])=>`(tactic|refine⟨$a,$b,$c,$d,$e,$f,$g⟩)|`(tactic|rw[49,$a:term,$b:term])=>`(tactic|show az _ $a $b _ _ s)|`(tactic|rw[48,$a:term,$b:term])=>`(tactic|rw[2,.inl $a,.inr $b])|`(tactic|rw[55,$a:term,$b:term])=>`(tactic|(have e:$a :=$b;subst e))|`(tactic|rw[54,$a:term,$b:term])=>`(tactic|rw[29,_,aK $a $b])|`(tactic|rw[53,$a:term,$b:term,$c:term])=>`(tactic|refine($a $b (λ U H Q E h=>?_) $c))|`(tactic|rw[52])=>`(tactic|rintro rfl)|`(tactic|rw[51])=>`(tactic|simpa using h)|`(tactic|rw[50,$a:term])=>`(tactic|have:$a :=[ac])|`(tactic|rw[59,$a:term,$b:term])=>`(tactic|(cases$a:term;cases$b:term))|`(tactic|rw[58])=>`(tactic|exact this)|`(tactic|rw[57,$a:term,$b:term,$c:term])=>`(tactic|(refine$a;rw[4,$b:term,$c:term]))|`(tactic|rw[56,$a:term,$b:term])=>`(tactic|(rw[38,$a:term,$b:term];exact this))|`(tactic|rw[63,$a:term])=>`(tactic|(rw[$a:term]at z;cases z))|`(tactic|rw[62,$a:term,$b:term])=>`(tactic|(have:$a :=$b;rw[this]))|`(tactic|rw[61,$a:term,$b:term,$c:term,$d:term])=>`(tactic|refine⟨_,J,$a,$b,$c,$d⟩)|`(tactic|rw[60,$a:term,$b:term])=>`(tactic|refine$a $b (λ vs H Q E h=>?_) (λ cdv A outer s H vs Q E hr h=>?_))|`(tactic|rw[69,$a:term,$b:term])=>`(tactic|(refine$a;exact$b))|`(tactic|rw[68,$a:term])=>`(tactic|rw[8,$a:term,g8 _])|`(tactic|rw[67,$a:term,$b:term])=>`(tactic|(rw[$a:term]at e;rw[6,e,$b:term]))|`(tactic|rw[66,$a:term,$b:term,$c:term,$d:term])=>`(tactic|(have e1:$a :=$b;have e2:$c :=$d))|`(tactic|rw[65,$a:term])=>`(tactic|(subst this;exact$a))|`(tactic|rw[64,$a:term])=>`(tactic|(rw[76];refine$a))|`(tactic|rw[72,$a:term,$b:term])=>`(tactic|(rw[$a:term]at q;exact$b))|`(tactic|rw[71,$a:term])=>`(tactic|(rw[$a:term]at q;cases q))|`(tactic|rw[70,$a:term,$b:term])=>`(tactic|(have:$a :=$b;subst this))|`(tactic|rw[76])=>`(tactic|intro B s w H Q I h)|`(tactic|rw[75])=>`(tactic|simpa using g)|`(tactic|rw[74,$a:term])=>`(tactic|(simp only[$a:term];omega))|`(tactic|rw[73,$a:term,$b:term])=>`(tactic|(have e:$a :=$b;rw[e]))|`(tactic|rw[78,$a:term])=>`(tactic|rw[8,[dA,false,true,$a],eQ])|`(tactic|rw[77,$a:term,$b:term])=>`(tactic|obtain⟨o,q⟩:=S.xt $a $b)|`(tactic|rw[82])=>`(tactic|simp at this)|`(tactic|rw[81,$a:term])=>`(tactic|rw[6,A,$a (dS I q [al])])|`(tactic|rw[80,$a:term])=>`(tactic|(show$a≤aQ;decide))|`(tactic|rw[79,$a:term,$b:term])=>`(tactic|rw[43,$a:term,[wu,$b,true,_,_]])|`(tactic|rw[91,$a:term])=>`(tactic|show(az _ _ ($a>>=_) _ _ _))|`(tactic|rw[90,$a:term])=>`(tactic|rw[60,M.fn.ok,$a:term])|`(tactic|rw[89])=>`(tactic|have hu:=jB hr)|`(tactic|rw[88])=>`(tactic|simpa using O)
local macro_rules|`(tactic|rw[7])=>`(tactic|constructor)|`(tactic|rw[8,$a:term,$b:term])=>`(tactic|exact absurd $a $b)|`(tactic|rw[9,$a:term,$b:term,$c:term,$d:term,$e:term])=>`(tactic|exact⟨$a,$b,$c,$d,$e⟩)|`(tactic|rw[10,$a:term])=>`(tactic|(have:=$a;omega))|`(tactic|rw[11,$a:term,$b:term])=>`(tactic|·rw[4,$a:term,$b:term])|`(tactic|rw[12,$a:term,$b:term,$c:term])=>`(tactic|(rw[$a:term,$b:term];exact$c))|`(tactic|rw[14,$a:term,$b:term])=>`(tactic|(show$a;rw[$b:term]))|`(tactic|rw[13,$a:term,$b:term])=>`(tactic|(rw[$a:term];refine$b))|`(tactic|rw[15,$a:term,$b:term])=>`(tactic|refine⟨$a,$b⟩)|`(tactic|rw[16])=>`(tactic|simp at h)|`(tactic|rw[17,$a:term,$b:term,$c:term,$d:term])=>`(tactic|refine⟨$a,$b,$c,$d⟩)|`(tactic|rw[18])=>`(tactic|(simp;omega))|`(tactic|rw[19,$a:term])=>`(tactic|(rw[$a:term];simp))|`(tactic|rw[20,$a:term])=>`(tactic|(show$a;omega))|`(tactic|rw[22,$a:term,$b:term])=>`(tactic|rw[1,$a:term,J,$b:term])|`(tactic|rw[21,$a:term])=>`(tactic|exact .inl $a)|`(tactic|rw[24,$a:term,$b:term,$c:term])=>`(tactic|refine⟨$a,$b,$c⟩)|`(tactic|rw[23,$a:term,$b:term,$c:term,$d:term])=>`(tactic|exact⟨$a,$b,$c,$d⟩)|`(tactic|rw[27,$a:term])=>`(tactic|rw[29,_,$a:term])|`(tactic|rw[26,$a:term])=>`(tactic|rw[0,_,$a:term])|`(tactic|rw[25,$a:term,$b:term])=>`(tactic|(rw[←$a:term];exact$b))|`(tactic|rw[29,$a:term,$b:term])=>`(tactic|rw[24,$a:term,$b:term,?_])|`(tactic|rw[28,$a:term,$b:term,$c:term,$d:term,$e:term])=>`(tactic|refine⟨$a,$b,$c,$d,$e⟩)|`(tactic|rw[30,$a:term,$b:term])=>`(tactic|by_cases e:$a=$b)|`(tactic|rw[34,$a:term])=>`(tactic|(rw[$a:term];rw[7]))|`(tactic|rw[33,$a:term,$b:term])=>`(tactic|rw[79,$a:term,[aN,$b]])|`(tactic|rw[32,$a:term])=>`(tactic|(rw[127,VP.eD $a ?a ?l ?c ?k ?i];(case i=>k_is)))|`(tactic|rw[31,$a:term])=>`(tactic|(rw[$a:term];omega))|`(tactic|rw[35,$a:term])=>`(tactic|(rw[$a:term]at e;cases e))|`(tactic|rw[36,$a:term])=>`(tactic|rw[127,VP.eY KX G $a ?a ?l ?c ?k])|`(tactic|rw[37,$a:term,$b:term,$c:term,$d:term,$e:term,$f:term])=>`(tactic|exact⟨$a,$b,$c,$d,$e,$f⟩)|`(tactic|rw[39,$a:term,$b:term,$c:term])=>`(tactic|(show$a;rw[4,$b:term,$c:term]))|`(tactic|rw[38,$a:term,$b:term])=>`(tactic|(have:=$a;rw[$b:term]at this))|`(tactic|rw[41,$a:term,$b:term])=>`(tactic|(refine$a;rw[$b:term]))|`(tactic|rw[40,$a:term,$b:term,$c:term,$d:term])=>`(tactic|(rw[11,$a:term,$b:term];rw[11,$c:term,$d:term]))|`(tactic|rw[43,$a:term,$b:term])=>`(tactic|(refine$a;show$b))|`(tactic|rw[42])=>`(tactic|obtain⟨t,rfl⟩:=L)|`(tactic|rw[46,$a:term,$b:term])=>`(tactic|rw[3,⟨_,$a,?_⟩,$b:term])|`(tactic|rw[45,$a:term,$b:term])=>`(tactic|(have:=$a;exact$b))|`(tactic|rw[44,$a:term])=>`(tactic|(rw[$a:term]at h;cases h))
local macro_rules|`(tactic|rw[0,$a:term,$b:term])=>`(tactic|exact⟨$a,$b⟩)|`(tactic|rw[1,$a:term,$b:term,$c:term])=>`(tactic|exact⟨$a,$b,$c⟩)|`(tactic|rw[3,$a:term,$b:term])=>`(tactic|(refine$a;refine$b))|`(tactic|rw[4,$a:term,$b:term])=>`(tactic|(rw[$a:term];exact$b))|`(tactic|rw[5,$a:term])=>`(tactic|refine au $a)|`(tactic|rw[6,$a:term,$b:term])=>`(tactic|(cases$a:term;exact$b))
section
namespace Vs
open Kgz1(Syl Kind Measure fits takes place cutsOk scans)
abbrev Spot:=Nat×Nat×[lB]×Bool
def cS(s:[Eu])(f:Nat)(B:[lB]):[Nj]:=[um,B=[],(s[f]?).getD,[],[B]]
def lX(f p:Nat)(B:[lB])(L:Bool):Spot:=[wu,B,[],(f+1,0,[],L),(f,p,B,L)]
def tI(k:Kind)(f p:Nat)(L:Bool):[fQ,Bool,[j4,Spot]]|[]=>none|c::r=>[qe,fits k c,Z (lX f (p+1) r L),none]
def gc(m:Measure)(k:Kind)(e:Bool)(sp:Spot):List Spot:=[JS,cS,sp].filterMap (tI k sp.1 sp.2.1 ([lv].2||(e&&[MV,sp.1,sp.2.1])))
theorem S_(m:Measure)(k:Kind)(e:Bool)(f p:Nat)(b:Bool)(r:[lB])(L:Bool):gc m k e (f,p,b::r,L)=[qe,fits k b,[lX f (p+1) r (L||(e&&[MV,f,p]))],[]]:=by
 have g:cS m.feet f (b::r)=[b::r]:=by unfold cS;rw[aD [al]]
 rw[14,(cS m.feet f (b::r)).filterMap _=_,g];by_cases hf:fits k b=true;·rw[aI hf];simp only[yB,List.filterMap_nil,tI,aI hf]
 ·rw[aD hf];simp only[yB,List.filterMap_nil,tI,aD hf]
def gH(m:Measure):Spot:=(m.feet.length,0,[],true)
def acc(m:Measure):[d0,Spot,List Syl]|sp,[]=>sp=gH m|sp,x::s=>∃a∈gc m x.kind x.ends sp,acc m a s
def after(m:Measure)(l:List Spot)(s:[pu]):List Spot:=[Pn,gc m x.kind x.ends,l]
def lh(s:[pu])(k:Nat):Bool:=[E6,s[k]?,x,x.ends,false]
theorem JN(x:Syl)(s:[pu])(k:Nat):lh (x::s) (k+1)=lh s k:=[bB,lh]
def pA(S:[nk])(f p:Nat):[fQ,Bool,[fQ,Syl,Bool]]|_::r,x::s=>(x.ends&&S.contains (f+1,p+1))||pA S f (p+1) r s|_,_=>false
theorem JO(S:[nk])(f:Nat):∀(r:[lB])(p:Nat)(s:[pu]),r.length≤s.length→(pA S f p r s=true↔∃c∈S,(c.1=f+1∧p+1≤c.2∧c.2≤p+r.length∧lh s (c.2-1-p)=true))
 |[],p,s,_=>by
  simp only[pA];rw[7];·intro h;cases h
  ·rintro⟨c,_,_,g,a,_⟩;simp at a;omega
 |b::r,p,[],h=>by rw[16]
 |b::r,p,x::s,h=>by
  have T:=JO S f r (p+1) s (by rw[51]);simp only[pA,n9,dO,RH,T];rw[7]
  ·rintro(⟨g,a⟩|⟨c,V,g,a,P,w⟩)
   ·refine⟨_,a,J,ba _,?_,?_⟩;·simp
    ·simp[lh,g]
   ·refine⟨c,V,g,[ac],by rw[18],?_⟩;have e:c.2-1-p=(c.2-1-(p+1))+1:=[ac];rw[12,e,JN,w]
  ·rintro⟨c,V,g,a,P,w⟩;rw[30,c.2,p+1]
   ·left;rw[15,?_,?_];·rw[50,c.2-1-p=0];rw[this]at w;simpa[lh]using w
    ·have:c=(f+1,p+1):=by obtain⟨u,A⟩:=c;simp at g e;subst g;subst e;rfl
     rw[25,this,V]
   ·right;refine⟨c,V,g,[ac],by simp at P;omega,?_⟩;have e:c.2-1-p=(c.2-1-(p+1))+1:=[ac];rw[e,JN]at w;exact w
theorem B0(m:Measure)(f:Nat):∀(r:[lB])(p:Nat)(L:Bool)(s:[pu]),r≠[]→(acc m (f,p,r,L) s↔[B_,s.length]∧((r.zip s).all λ x=>fits x.2.kind x.1)=true∧acc m (f+1,0,[],L||pA m.cuts f p r s) (s.drop r.length))
 |[],_,_,_,h=>[e9,J,h]
 |b::r,p,L,[],_=>by
  rw[7];·intro h;have h:(f,p,b::r,L)=gH m:=h;simp[gH]at h
  ·rintro⟨h,_⟩;rw[16]
 |b::r,p,L,x::s,_=>by
  rw[73,acc m (f,p,b::r,L) (x::s)↔fits x.kind b=true∧acc m (lX f (p+1) r (L||(x.ends&&[MV,f,p]))) s,by
   rw[14,(∃d∈gc m x.kind x.ends (f,p,b::r,L),acc m d s)↔_,S_];by_cases hf:fits x.kind b=true
   ·rw[34,aI hf];·rintro⟨sp,h,a⟩;rw[sS]at h;subst h;rw[0,hf,a]
    ·rintro⟨_,a⟩;rw[1,_,List.mem_singleton.mpr J,a]
   ·rw[34,aD hf];·rintro⟨sp,h,a⟩;cases h
    ·rintro⟨h,_⟩;rw[8,h,hf]]
  by_cases u:r=[];·subst u;simp[lX,pA]
  ·have T:=B0 m f r (p+1) (L||(x.ends&&[MV,f,p])) s u;simp only[lX,aD u,T,pA,dP,mM,vG,dO,List.drop_succ_cons,Sy];rw[7];·rintro⟨g,c,P,w⟩;rw[1,[ac],⟨g,P⟩,w]
   ·rintro⟨c,⟨g,P⟩,w⟩;rw[23,g,[ac],P,w]
def hits(S:[nk]):[b9,Nat,[Eu],List Syl,List Nat,Bool]|f,g::r,s,w::t=>pA S f 0 (g.getD w []) s||hits S (f+1) r (s.drop (g.getD w []).length) t|_,_,_,_=>false
theorem tJ{m:Type}{l:[li]}{d:m}{x:m×Nat}(h:x∈l.zipIdx):l.getD x.2 d=x.1∧x.1∈l:=by obtain⟨a,i⟩:=x;have g:=List.mem_zipIdx_iff_getElem?.mp h;simp at g;rw[15,by simp[List.getD,g],bt g]
theorem Ta{m:Type}{l:[li]}{a:m}(h:a∈l):∃i,(a,i)∈l.zipIdx:=by obtain⟨i,O⟩:=[Kz,h];rw[0,i,List.mem_zipIdx_iff_getElem?.mpr (by rw[88])]
theorem JP(m:Measure)(o:[Oo,w≠[]]):∀(r:[Eu])(f:Nat)(L:Bool)(s:[pu]),m.feet.drop f=r→f≤m.feet.length→(acc m (f,0,[],L) s↔∃t∈takes r s,(L||hits m.cuts f r s t)=true)
 |[],f,L,s,k,F=>by
  have X:f=m.feet.length:=by rw[84,[B2,k]]
  cases s with
   |nil=>simp only[takes,acc,gH,hits,aI];subst X;simp
   |cons x s=>
    have e:¬acc m (f,0,[],L) (x::s):=by rintro⟨sp,h,_⟩;have hn:m.feet[f]?=none:=sQ [ac];simp[gc,cS,hn]at h
    simp[takes,e]
 |g::r,f,L,s,k,F=>by
  have X:f<m.feet.length:=by rw[84,[B2,k]]
  have n:m.feet[f]?=Z g:=by have c:(m.feet.drop f)[0]?=Z g:=[hJ,k];simpa using c
  have u:m.feet.drop (f+1)=r:=by have c:(m.feet.drop f).drop 1=r:=[hJ,k];rw[Jk]at c;exact c
  have E:g∈m.feet:=bt n;have T:=λ G l=>JP m o r (f+1) G l u [ac]
  cases s with
   |nil=>
    rw[66,¬acc m (f,0,[],L) [],by intro h;have h:(f,0,[],L)=gH m:=h;simp[gH]at h;omega,takes (g::r) []=[],by
     simp only[takes,BE];rw[List.flatMap_eq_nil_iff];intro w C;have:=(tJ (d:=[]) C).2;have q:=o g E w.1 this;have:¬[cY,w.1,0]:=by cases D:w.1 with|nil=>rw[8,D,q]|cons a b=>simp
     simp[this]]
    simp[e1,e2]
   |cons x s=>
    have A:acc m (f,0,[],L) (x::s)↔∃w∈g,acc m (f,0,w,L) (x::s):=by
     show(∃v∈gc m x.kind x.ends (f,0,[],L),acc m v s)↔∃w∈g,∃v∈gc m x.kind x.ends (f,0,w,L),acc m v s;rw[7];·rintro⟨sp,h,a⟩;simp only[gc,cS,aI,n,Option.getD_some]at h;obtain⟨w,H,D⟩:=List.mem_filterMap.mp h;rw[28,w,H,sp,?_,a];simp only[gc,cS,aD (o g E w H)];exact List.mem_filterMap.mpr [zO,w,D]
     ·rintro⟨w,H,sp,h,a⟩;rw[24,sp,?_,a];simp only[gc,cS,aD (o g E w H)]at h;obtain⟨y,C,D⟩:=List.mem_filterMap.mp h;simp at C;subst C;simp only[gc,cS,aI,n,Option.getD_some];exact List.mem_filterMap.mpr ⟨y,H,D⟩
    rw[34,A]
    ·rintro⟨w,H,h⟩;obtain⟨c,j,P⟩:=(B0 m f w 0 L (x::s) (o g E w H)).mp h;obtain⟨t,p,W⟩:=(T _ _).mp P;obtain⟨i,O⟩:=Ta H;rw[29,i::t,?_];·show _∈[oC,g.zipIdx,_];rw[57,[pN,_,O,?_],aI ⟨c,j⟩,[jz,t,p]]
     ·simp only[hits,(tJ (d:=[]) O).1];rw[25,Sy,W]
    ·rintro⟨t,p,W⟩;have p:t∈[oC,g.zipIdx,_]:=p;obtain⟨⟨w,i⟩,O,D⟩:=[zg,p];have H:=(tJ (d:=[]) O).2;have B:=(tJ (d:=[]) O).1;split at D;·rename_i V;obtain⟨Y,z,rfl⟩:=[bp,D];refine[Ck,w,H,B0 m f w 0 L (x::s) (o g E w H),[Ck,V.1,V.2,T _ _,⟨Y,z,?_⟩]];simp only[hits]at W;have B:g.getD i []=w:=B;rw[B,←Sy]at W;exact W
     ·simp at D
theorem foldl_add(l:[ak]):∀a:Nat,l.foldl (·+·) a=a+l.foldl (·+·) 0:=by induction l with|nil=>intro a;simp|cons x l T=>intro a;simp only[i7];rw[T (a+x),T (0+x)];omega
def jO(r:[Eu])(t:[ak]):[ak]:=[Aq,r.zip t,(x.1.getD x.2 []).length]
theorem JQ(s:[pu])(n k:Nat):lh (s.drop n) k=lh s (n+k):=[bB,lh]
theorem Tb{g:[Nj]}{r:[Eu]}{s:[pu]}{t:[ak]}(h:t∈takes (g::r) s):∃i Y,t=i::Y∧[cY,g.getD i [],s.length]∧Y∈takes r (s.drop [MG]):=by
 have h:t∈[oC,g.zipIdx,_]:=h;obtain⟨⟨w,i⟩,O,D⟩:=[zg,h];have c:g.getD i []=w:=(tJ (d:=[]) O).1;split at D;·rename_i V;obtain⟨Y,o,rfl⟩:=[bp,D];rw[28,i,Y,J,?_,?_];rw[40,c,V.1,c,o]
 ·simp at D
theorem JR(S:[nk]):∀(r:[Eu])(f:Nat)(s:[pu])(t:[ak]),t∈takes r s→(hits S f r s t=true↔∃c∈S,f+1≤c.1∧1≤c.2∧c.2≤(jO r t).getD (c.1-1-f) 0∧lh s (((jO r t).take (c.1-1-f)).foldl (·+·) 0+c.2-1)=true)
 |[],f,s,t,h=>by
  simp only[hits,jO,List.zip_nil_left,vI];rw[7];·intro h;cases h
  ·rintro⟨c,_,_,a,b,_⟩;simp at b;omega
 |g::r,f,s,t,h=>by
  obtain⟨i,Y,rfl,X,o⟩:=Tb h;have T:=JR S r (f+1) (s.drop [MG]) Y o;have O:=JO S f (g.getD i []) 0 s X;have G:jO (g::r) (i::Y)=[MG]::jO r Y:=J;simp only[hits,n9,O,T,G];rw[7]
  ·rintro(⟨c,V,a,b,P,w⟩|⟨c,V,a,b,P,w⟩)
   ·refine⟨c,V,[ac],[ac],?_,?_⟩;·rw[50,c.1-1-f=0];rw[this];simpa using P
    ·rw[50,c.1-1-f=0];rw[this];simpa using w
   ·have e:c.1-1-f=(c.1-1-(f+1))+1:=[ac];refine⟨c,V,[ac],b,?_,?_⟩;·rw[e];simpa using P
    ·rw[e,RY,i7,foldl_add];rw[JQ]at w;rw[97,0+[MG]+((jO r Y).take (c.1-1-(f+1))).foldl (·+·) 0+c.2-1=[MG]+(((jO r Y).take (c.1-1-(f+1))).foldl (·+·) 0+c.2-1),[ac],w]
  ·rintro⟨c,V,a,b,P,w⟩;by_cases M:c.1=f+1;·left;rw[50,c.1-1-f=0];rw[this]at P w;rw[37,c,V,M,[ac],[aB,P],[aB,w]]
   ·right;have e:c.1-1-f=(c.1-1-(f+1))+1:=[ac];rw[e]at P w;refine⟨c,V,[ac],b,[aB,P],?_⟩;rw[RY,i7,foldl_add]at w;rw[JQ];rw[50,0+[MG]+((jO r Y).take (c.1-1-(f+1))).foldl (·+·) 0+c.2-1=[MG]+(((jO r Y).take (c.1-1-(f+1))).foldl (·+·) 0+c.2-1)];rw[this]at w;exact w
theorem JS(m:Measure)(V:[QM])(s:[pu])(t:[ak])(F:t∈takes m.feet s):cutsOk m s t=((m.cuts==[])||hits m.cuts 0 m.feet s t):=by
 unfold cutsOk;congr 1;rw[dH,JR m.cuts m.feet 0 s t F,yD];have a:∀c:[xP],[E6,place m t c,k,[E6,s[k]?,x,x.ends,false],false]=true↔c.2≤(jO m.feet t).getD (c.1-1) 0∧lh s (((jO m.feet t).take (c.1-1)).foldl (·+·) 0+c.2-1)=true:=by
  intro c;have R:place m t c=[LW,c.2≤(jO m.feet t).getD (c.1-1) 0,(((jO m.feet t).take (c.1-1)).foldl (·+·) 0+c.2-1)]:=J;rw[R];by_cases h:c.2≤(jO m.feet t).getD (c.1-1) 0;·rw[aI h];show lh s _=true↔_;rw[0,λ q=>⟨h,q⟩,λ q=>q.2]
  ·rw[34,aD h];·intro q;cases q
   ·intro q;rw[8,q.1,h]
 rw[7];·rintro⟨c,N,h⟩;obtain⟨g,r⟩:=(a c).mp h;rw[37,c,N,by rw[10,(V c N).1],(V c N).2,g,r]
 ·rintro⟨c,N,_,_,g,r⟩;rw[1,c,N,(a c).mpr ⟨g,r⟩]
theorem Tc(m:Measure)(T:[Oo,w≠[]])(V:[QM])(s:[pu]):[aw,(scans m s).isEmpty]↔acc m (0,0,[],m.cuts==[]) s:=by
 rw[JP m T m.feet 0 (m.cuts==[]) s J (b7 _)];unfold scans;rw[Rv,Ne,List.filter_eq_nil_iff];rw[7];·intro h;apply kT;intro hn;exact h λ t F q=>hn ⟨t,F,[cE,JS m V s t F,q]⟩
 ·rintro⟨t,F,h⟩q;exact q t F [ar,JS m V s t F,h]
end Vs
end
section
namespace Vs
open Kgz1(Syl Kind Measure fits Sound between upTo nextVowel syls counts mute liquid cut left begins spoken)
abbrev pB:=Bool×[nk]×Nat
def gd:Option pB→[fQ,Sound×Nat,[pu]]|none,[]=>[]|Z _,[]=>[⟨.either,true⟩]|p,([o0],w)::r=>gd [OM,[(c,w)]] r|none,([iI],w)::r=>gd (Z (g,[],w)) r|Z q,([iI],w)::r=>⟨if q.1 then .long else between q.2.1,w !=q.2.2⟩::gd (Z (g,[],w)) r
theorem Td:∀(l:[NK])(g:Bool)(cs:[nk])(w:Nat),syls (([iI],w)::([OX]++l))=gd (Z (g,cs,w)) l:=by
 have v:∀(cs:[nk])(l:[NK]),nextVowel ([OX]++l)=nextVowel l:=by intro cs l;induction cs with|nil=>rfl|cons c cs T=>exact T
 have y:∀(cs:[nk])(l:[NK]),syls ([OX]++l)=syls l:=by intro cs l;induction cs with|nil=>rfl|cons c cs T=>exact T
 have t:∀(cs:[nk])(l:[NK]),upTo ([OX]++l)=cs++upTo l:=by intro cs l;induction cs with|nil=>rfl|cons c cs T=>rw[14,(c.1,c.2)::upTo ([OX]++l)=c::(cs++upTo l),T]
 intro l;induction l with|nil=>intro g cs w;simp only[syls,v,y];rfl|cons x l T=>intro g cs w;obtain⟨s,i⟩:=x;cases s with|cons c=>have e:[OX]++(Sound.cons c,i)::l=(cs++[(c,i)]).map (λ c=>((Sound.cons c.1),c.2))++l:=[al];rw[e,T];rfl|vowel Q=>have h:=T Q [] i;simp only[syls,v,y,t];simp only[nextVowel,upTo,qD];rw[14,_::syls ((Sound.vowel Q,i)::l)=_::gd (Z (Q,[],i)) l,[dA,syls ((Sound.vowel Q,i)::l),gd (Z (Q,[],i)) l,h]]
theorem JT:∀l:[NK],syls l=gd none l|[]=>J|([o0],w)::r=>by show syls r=gd none r;exact JT r|([iI],w)::r=>by have h:=Td r g [] w;exact h
def cW:[fQ,[xP],Nat]|[]=>0|[c]=>[JP,counts c.1=1,3]|[a,b]=>if a.2=b.2∧mute a.1=true∧liquid b.1=true then 2 else 3|_=>3
def kindOf(w:Nat):Kind:=[Me,w≤1,.short,w=2,.either,.long]
def joined(w v:Nat):Nat:=[Me,w=0,v,v=0,w,3]
theorem B1(c:Nat):counts c=1∨counts c=2:=by
 unfold counts;split;·right;rfl
 ·left;rfl
theorem JU:∀l:[nk],kindOf (cW l)=between l
 |[]=>J
 |[c]=>by obtain⟨c,w⟩:=c;rcases B1 c with h|h<;>simp[cW,between,h,kindOf]
 |[a,b]=>by obtain⟨a,v⟩:=a;obtain⟨b,w⟩:=b;simp only[cW,between];split<;>rfl
 |a::b::c::r=>by
  have h:¬[Aq,a::b::c::r,counts x.1].foldl (·+·) 0≤1:=by have g:=B1 a.1;have d:=B1 b.1;simp only[bO,i7];rw[31,foldl_add]
  show Kind.long=_;simp only[between];rw[aD h]
theorem Te(i:Nat):∀(cs B:[nk]),(∀c∈cs,c.2≠i)→(∀d∈B,d.2=i)→cW (cs++B)=joined (cW cs) (cW B)
 |[],B,_,_=>by simp[cW,joined]
 |cs,[],_,_=>by
  rw[qD];show cW cs=joined (cW cs) 0;unfold joined;split;·rename_i h;rw[h]
  ·rfl
 |[c],[d],g,a=>by
  have hn:¬c.2=d.2:=[ar,a d [al],g c [al]];rw[73,cW ([c]++[d])=3,by simp[cW,hn]];have v:cW [c]≠0:=by rw[116]
  have w:cW [d]≠0:=by rw[116]
  unfold joined;rw[aD v,aD w]
 |[c],d::L::B,g,a=>by
  rw[73,cW ([c]++d::L::B)=3,J];have v:cW [c]≠0:=by rw[116]
  have w:cW (d::L::B)≠0:=by cases B with|nil=>rw[116]|cons x r=>simp[cW]
  unfold joined;rw[aD v,aD w]
 |c::s::cs,d::B,g,a=>by
  rw[73,cW ((c::s::cs)++d::B)=3,by cases cs<;>rfl];have v:cW (c::s::cs)≠0:=by cases cs with|nil=>rw[116]|cons x r=>simp[cW]
  have w:cW (d::B)≠0:=by match B with|[]=>rw[116]|[x]=>rw[116]|x::y::r=>simp[cW]
  unfold joined;rw[aD v,aD w]
def wt(g:Bool)(cs:[ak]):Nat:=if g then 3 else cW [CG,c,0]
theorem B2(i:Nat)(cs:[ak]):cW [CG,c,i]=cW [CG,c,0]:=by match cs with|[]=>rfl|[a]=>rfl|[a,b]=>simp[cW]|a::b::c::r=>rfl
def ft(g:Bool)(cs:[ak]):[fQ,Sound,[ak]]|[]=>[wt g cs]|[o0]::r=>ft g (cs++[c]) r|.vowel Q::r=>wt g cs::ft Q [] r
def gJ:[fQ,Sound,[ak]]|[o0]::r=>c::gJ r|_=>[]
def eA:[fQ,Sound,[ak]]|[]=>[]|.cons _::r=>eA r|[iI]::r=>ft g [] r
def lead(s:[e_]):Nat:=cW ((gJ s).map (λ c=>(c,0)))
theorem B3(g:Bool)(cs:[ak])(s:[e_]):ft g cs s≠[]:=by induction s generalizing g cs with|nil=>simp[ft]|cons x s T=>cases x with|cons c=>exact T g _|vowel Q=>simp[ft]
def settled(p:[wS])(K:Nat)(o:[ak]):[pu]:=[wu,o,[],[],[KP,p,[],w,[⟨kindOf (joined w K),true⟩]]++(o.dropLast.map λ w=>⟨kindOf w,false⟩)]
def ou(p:[wS])(K:Nat)(o:[ak]):[wS]:=[KP,o.getLast?,p.map λ w=>joined w K,w,Z w]
def jP(q:pB):Nat:=if q.1 then 3 else cW q.2.1
theorem B4(i:Nat)(l:[NK]):∀(s:[e_])(g:Bool)(cs:[ak]),∃q:pB,([NI,g,[CG,c,i]]=((ft g cs s).dropLast.map λ w=>(⟨kindOf w,false⟩:Syl))++gd (Z q) l∧((ft g cs s).getLast?=Z (jP q))∧q.2.2=i∧∀c∈q.2.1,c.2=i)
 |[],g,cs=>by
  rw[28,(g,[CG,c,i],i),J,?_,J,?_];·show Z (wt g cs)=Z _;unfold wt jP;cases g with|true=>rfl|false=>simp[B2 i cs]
  ·intro c V;obtain⟨d,_,rfl⟩:=[bp,V];rfl
 |[o0]::s,g,cs=>by obtain⟨q,a,r,P⟩:=B4 i l s g (cs++[c]);rw[17,q,?_,r,P];show[NI,g,[CG,c,i]++[(c,i)]]=_;have e:[CG,c,i]++[(c,i)]=(cs++[c]).map (λ c=>(c,i)):=[al];rw[e,a];rfl
 |.vowel Q::s,g,cs=>by
  obtain⟨q,a,r,P⟩:=B4 i l s Q [];rw[17,q,?_,?_,P]
  ·have a:[NI,Q,[]]=_:=a;rw[14,(⟨if g then .long else between [CG,c,i],i !=i⟩:Syl)::[NI,Q,[]]=_,a];have b:(ft g cs (.vowel Q::s)).dropLast=wt g cs::(ft Q [] s).dropLast:=by rw[14,(wt g cs::ft Q [] s).dropLast=_,List.dropLast_cons_of_ne_nil (B3 _ _ _)]
   rw[b,bO,nW];congr 1;rw[62,[CF,kindOf (wt g cs),g,Kind.long,between [CG,c,i]],by cases g with|true=>rfl|false=>show kindOf (cW [CG,c,0])=between [CG,c,i];rw[←B2 i cs,JU]];simp
  ·rw[39,(wt g cs::ft Q [] s).getLast?=_,List.getLast?_cons_of_ne_nil (B3 _ _ _),r]
def y6(i:Nat):Option pB→Prop|none=>True|Z q=>q.2.2<i∧∀c∈q.2.1,c.2<i
theorem JV{i:Nat}{q:pB}(h:y6 i (Z q))(B:[ak]):jP (q.1,q.2.1++[FU,i],q.2.2)=joined (jP q) (cW [FU,0]):=by obtain⟨g,cs,w⟩:=q;unfold jP;cases g with|true=>simp[joined]|false=>simp only[ki,iE];rw[Te i cs _ (λ c V=>dY (h.2 c V)) (λ d a=>by obtain⟨_,_,rfl⟩:=[bp,a];rfl),B2]
theorem JW(i:Nat)(l:[NK]):∀(s:[e_])(p:[j4,pB])(B:[ak]),y6 i p→∃E:[j4,pB],gd [OM,[FU,i]] (s.map (λ x=>(x,i))++l)=settled (p.map jP) (cW ((B++gJ s).map (λ c=>(c,0)))) (eA s)++gd E l∧E.map jP=ou (p.map jP) (cW ((B++gJ s).map (λ c=>(c,0)))) (eA s)∧y6 (i+1) E
 |[],p,B,h=>by
  rw[17,[OM,[FU,i]],J,?_,?_];·cases p with|none=>rfl|some q=>simp only[ou,eA,sX,List.getLast?_nil,gJ,qD];rw[JV h]
  ·cases p with
    |none=>trivial
    |some q=>
     rw[15,o_ h.1,λ c V=>?_];rcases[gM,V]with V|V;·exact o_ (h.2 c V)
     ·obtain⟨_,_,rfl⟩:=[bp,V];exact qB i
 |[o0]::s,p,B,h=>by
  obtain⟨E,a,r,P⟩:=JW i l s p (B++[c]) h;rw[17,E,?_,?_,P]
  ·have e:gd [OM,[FU,i]] ([Aq,Sound.cons c::s,(x,i)]++l)=gd [OM,(B++[c]).map (λ c=>(c,i))] (s.map (λ x=>(x,i))++l):=by cases p with|none=>rfl|some q=>show gd (Z (q.1,(q.2.1++[FU,i])++[(c,i)],q.2.2)) _=_;simp[gZ]
   rw[e,a];simp only[gJ,eA,gZ,List.singleton_append]
  ·rw[r];simp only[gJ,eA,gZ,List.singleton_append]
 |[iI]::s,p,B,h=>by
  obtain⟨q,a,r,P,b⟩:=B4 i l s g [];have a:[NI,g,[]]=_:=a;rw[17,Z q,?_,?_,?_]
  ·have T:eA ([iI]::s)=ft g [] s:=J;have G:settled (p.map jP) (cW ((B++gJ ([iI]::s)).map (λ c=>(c,0)))) (eA ([iI]::s))=[KP,p.map jP,[],w,[⟨kindOf (joined w (cW [FU,0])),true⟩]]++((ft g [] s).dropLast.map λ w=>⟨kindOf w,false⟩):=by unfold settled;rw[T,aD (B3 _ _ _)];simp only[gJ,qD]
   rw[G];cases p with|none=>rw[14,[NI,g,[]]=_,a];rfl|some p=>rw[14,(⟨if p.1 then .long else between (p.2.1++[FU,i]),i !=p.2.2⟩:Syl)::[NI,g,[]]=_,a];rw[66,(i !=p.2.2)=true,by have:=h.1;rw[18],(if p.1 then Kind.long else between (p.2.1++[FU,i]))=kindOf (joined (jP p) (cW [FU,0])),by rw[←JV h B];unfold jP;cases R:p.1 with|true=>simp[kindOf]|false=>simp[JU]];rw[e1,e2];rfl
  ·show Z (jP q)=_;unfold ou;rw[[dA,eA ([iI]::s),ft g [] s,J],r]
  ·rw[0,[ac],λ c V=>[ar,b c V,qB i]]
def mV:Option Nat→[fQ,[e_],[pu]]|none,[]=>[]|Z _,[]=>[⟨.either,true⟩]|p,s::r=>settled p (lead s) (eA s)++mV (ou p (lead s) (eA s)) r
theorem JX:∀(o:List [e_])(i:Nat)(p:[j4,pB]),y6 i p→gd p [oC,o.zipIdx i,[Oa]]=mV (p.map jP) o
 |[],i,p,_=>by cases p<;>rfl
 |s::o,i,p,h=>by
  obtain⟨E,g,r,P⟩:=JW i [oC,o.zipIdx (i+1),[Oa]] s p [] h;have e:[OM,([]:[ak]).map (λ c=>(c,i))]=p:=by cases p with|none=>rfl|some q=>simp
  rw[e]at g;show gd p (s.map (λ x=>(x,i))++[oC,o.zipIdx (i+1),[Oa]])=_;rw[g,JX o (i+1) E P,r];simp only[pf];cases p<;>rfl
theorem Tf(o:List [e_]):syls [oC,o.zipIdx,[Oa]]=mV none o:=[ar,JT,JX o 0 none mU]
end Vs
end
section
namespace Vs
open Kgz1(Syl Kind Measure fits Sound between syls cut left begins)
abbrev a8:=Spot×[wS]×Nat
abbrev Form:=Nat×Nat×[ak]
abbrev Shape:=Nat×List Form
def eE(s:[e_]):Bool:=match s.reverse with|.vowel _::_=>true|.cons 109::.vowel _::_=>true|_=>false
def ku(s:[e_]):Nat:=[JP,begins s,2]
def gK(s:[e_]):Shape:=(ku s,if eE s then[(1,lead s,(eA s).dropLast),(2,lead s,eA s)]else[(0,lead s,eA s)])
def lY(m:Measure)(L:a8)(fm:Form):List a8:=[DB,fm.2.2=[],[Ih,L],(after m [L.1] (settled L.2.1 fm.2.1 fm.2.2)).map λ sp=>[Io,sp]]
def targets(m:Measure)(L:a8)(sh:Shape):List a8:=[Ty,lY m L]
def B5(m:Measure)(L:a8):Prop:=L.2.2≠1∧L.2.1≠none∧gH m∈gc m .either true L.1
def jQ(m:Measure):[d0,a8,List Shape]|L,[]=>B5 m L|L,sh::r=>∃l∈targets m L sh,jQ m l r
def vV(m:Measure):Spot:=(0,0,[],m.cuts==[])
def start(m:Measure):a8:=(vV m,none,0)
theorem B6(g:Bool)(t:[e_]):∀(r:[e_])(m:Bool)(cs:[ak]),ft m cs (r++[iI]::t)=ft m cs r++ft g [] t|[],m,cs=>J|[o0]::r,m,cs=>B6 g t r m (cs++[c])|.vowel Q::r,m,cs=>by rw[14,wt m cs::ft Q [] (r++[iI]::t)=wt m cs::ft Q [] r++_,B6 g t r Q []];rfl
theorem JY(g:Bool)(t:[e_]):∀(r:[e_]),eA (r++[iI]::t)=eA r++ft g [] t|[]=>J|[o0]::r=>JY g t r|.vowel Q::r=>B6 g t r Q []
theorem JZ(g:Bool)(t:[e_]):∀(r:[e_]),gJ (r++[iI]::t)=gJ r|[]=>J|[o0]::r=>by rw[14,c::gJ (r++[iI]::t)=c::gJ r,JZ g t r]|.vowel Q::r=>J
theorem J0{s r t:[e_]}{g:Bool}(G:s=r++[iI]::t)(F:∀Q cs,ft Q cs t=[wt Q (cs++gJ t)]):lead r=lead s∧eA r=(eA s).dropLast:=by
 subst G;rw[15,?_,?_];·unfold lead;rw[JZ]
 ·rw[JY,F];simp
theorem J1(s:[e_]):(eE s=true→lead (cut s)=lead s∧eA (cut s)=(eA s).dropLast)∧(eE s=false→cut s=s):=by
 have u:s=s.reverse.reverse:=[al];have n:∀(l:[e_]),(s.reverse=l→(∀g r,l≠[iI]::r)→(∀g r,l≠.cons 109::[iI]::r)→[aw,eE s]∧cut s=s):=by
  intro l e f i;rw[7];·unfold eE;rw[e];split;rw[2,[e9,J,f _ _],[e9,J,i _ _]];·rfl
  ·unfold cut;rw[e];split;rw[2,[e9,J,f _ _],[e9,J,i _ _]];·rfl
 have C:[aw,eE s]∧cut s=s→(eE s=true→lead (cut s)=lead s∧eA (cut s)=(eA s).dropLast)∧(eE s=false→cut s=s):=by rintro⟨a,b⟩;rw[0,λ h=>(by rw[44,a]),λ _=>b]
 match e:s.reverse with
  |[]=>exact C (n _ e [al] [al])
  |[iI]::r=>
   have H:cut s=r.reverse:=by unfold cut;rw[e]
   have q:eE s=true:=by unfold eE;rw[e]
   refine⟨λ _=>?_,λ h=>by rw[44,q]⟩;have G:s=r.reverse++[iI]::[]:=by rw[u,e];simp
   rw[4,H,J0 G λ Q cs=>by simp[ft,gJ]]
  |[[o0]]=>exact C (n _ e [al] [al])
  |[o0]::.cons d::r=>exact C (n _ e [al] [al])
  |[o0]::[iI]::r=>
   by_cases V:c=109
   ·subst V;have H:cut s=r.reverse:=by unfold cut;rw[e];rfl
    have q:eE s=true:=by unfold eE;rw[e];rfl
    refine⟨λ _=>?_,λ h=>by rw[44,q]⟩;have G:s=r.reverse++[iI]::[.cons 109]:=by rw[u,e];simp
    rw[4,H,J0 G λ Q cs=>by simp[ft,gJ]]
   ·exact C (n _ e [al] (by intro Q A h;injection h with f _;injection f with f;exact V f))
theorem J2(m:Measure):∀(a b:[pu])(sp:Spot),acc m sp (a++b)↔∃c∈after m [sp] a,acc m c b:=by
 have Q:∀(a b:[pu])(l:List Spot),(∃sp∈l,acc m sp (a++b))↔∃c∈after m l a,acc m c b:=by
  intro a b;induction a with
   |nil=>intro l;exact vP
   |cons x a T=>
    intro l;have h:=T (l.flatMap (gc m x.kind x.ends));show(∃sp∈l,∃c∈gc m x.kind x.ends sp,acc m c (a++b))↔∃c∈after m (l.flatMap (gc m x.kind x.ends)) a,acc m c b;rw[←h];rw[7];·rintro⟨sp,g,c,r,P⟩;rw[1,c,[pN,sp,g,r],P]
    ·rintro⟨c,g,r⟩;obtain⟨sp,P,w⟩:=[zg,g];rw[9,sp,P,c,w,r]
 intro a b sp;rw[←Q a b [sp]];simp
def jR(w:Nat):[AC,[e_]]|[]=>w≠1|s::_=>w=0∨w=ku s
theorem Tg(p:[wS])(K:Nat):settled p K []=[]:=J
theorem J3{m:Measure}(r:List [e_])(P:a8→Prop)(L:a8)(fm:Form)(T:∀sp p,(p=none→L.2.1=none∧sp=L.1)→(P (sp,p,fm.1)↔jR fm.1 r∧acc m sp (mV p (left r)))):(∃l∈lY m L fm,P l)↔jR fm.1 r∧acc m L.1 (settled L.2.1 fm.2.1 fm.2.2++mV (ou L.2.1 fm.2.1 fm.2.2) (left r)):=by
 obtain⟨w,K,o⟩:=fm;by_cases hw:o=[]
 ·subst hw;have e:lY m L (w,K,[])=[(L.1,[Nt,joined,K],w)]:=J;rw[e,Tg,pf];have hn:[Nt,joined,K]=none→L.2.1=none:=λ q=>by cases D:L.2.1 with|none=>rfl|some x=>rw[71,D]
  have h:=T L.1 [Nt,joined,K] (λ q=>[ge,hn q]);rw[7];·rintro⟨l,g,a⟩;rw[sS]at g;subst g;exact h.mp a
  ·intro q;rw[1,_,List.mem_singleton.mpr J,h.mpr q]
 ·obtain⟨x,A⟩:∃x,o.getLast?=Z x:=[gt,List.getLast?_eq_some_getLast hw];have e:lY m L (w,K,o)=(after m [L.1] (settled L.2.1 K o)).map λ sp=>(sp,Z x,w):=by unfold lY;rw[aD hw];rw[14,qK (λ sp=>(sp,o.getLast?,w)) _=_,A]
  have i:ou L.2.1 K o=Z x:=by unfold ou;rw[A]
  rw[e,J2,i];rw[7];·rintro⟨l,g,a⟩;obtain⟨sp,b,rfl⟩:=[bp,g];obtain⟨c,d⟩:=(T sp (Z x) (λ q=>by cases q)).mp a;rw[23,c,sp,b,d]
  ·rintro⟨c,sp,b,d⟩;rw[1,_,[jz,sp,b],(T sp (Z x) (λ q=>by cases q)).mpr ⟨c,d⟩]
theorem Th(s:[e_]):ku s=1∨ku s=2:=by unfold ku;split<;>simp
theorem J4(m:Measure)(F:m.feet≠[]):∀(o:List [e_])(L:a8),(L.2.1=none→L.1=vV m)→(jQ m L (o.map gK)↔jR L.2.2 o∧acc m L.1 (mV L.2.1 (left o)))
 |[],(sp,p,w),G=>by
  cases p with
   |none=>
    have e:sp=vV m:=G J;rw[7];·rintro⟨_,h,_⟩;rw[8,J,h]
    ·rintro⟨_,h⟩;have h:sp=gH m:=h;rw[e]at h;have:=ed Prod.fst h;have:0=m.feet.length:=this;rw[8,[QY,this.symm],F]
   |some x=>
    rw[7];·rintro⟨g,_,P⟩;rw[23,g,_,P,J]
    ·rintro⟨g,i,a,P⟩;have P:i=gH m:=P;rw[P]at a;rw[1,g,[al],a]
 |s::o,(sp,p,w),G=>by
  have T:=J4 m F o;have H:∀(fm:Form)(i:Spot)(E:[wS]),(E=none→p=none∧i=sp)→(jQ m (i,E,fm.1) (o.map gK)↔jR fm.1 o∧acc m i (mV E (left o))):=λ fm i E h=>T (i,E,fm.1) λ q=>by obtain⟨g,a⟩:=h q;rw[39,i=_,a,G g]
  show(∃l∈targets m (sp,p,w) (gK s),jQ m l (o.map gK))↔_;by_cases hw:w=0∨w=ku s
  ·have t:targets m (sp,p,w) (gK s)=[oC,(gK s).2,lY m (sp,p,w)]:=aI hw;rw[t];have v:(∃l∈[oC,(gK s).2,lY m (sp,p,w)],jQ m l (o.map gK))↔∃fm∈(gK s).2,jR fm.1 o∧acc m sp (settled p fm.2.1 fm.2.2++mV (ou p fm.2.1 fm.2.2) (left o)):=by
    rw[7];·rintro⟨l,g,a⟩;obtain⟨fm,P,c⟩:=[zg,g];rw[1,fm,P,(J3 o (λ l=>jQ m l (o.map gK)) (sp,p,w) fm (H fm)).mp ⟨l,c,a⟩]
    ·rintro⟨fm,P,h⟩;obtain⟨l,c,a⟩:=((J3 o (λ l=>jQ m l (o.map gK)) (sp,p,w) fm (H fm)).mpr h);rw[1,l,[pN,fm,P,c],a]
   rw[v];have j:jR w (s::o):=hw;have n:∀(d:[e_]),left (s::o)=d::left o→(acc m sp (mV p (left (s::o)))↔acc m sp (settled p (lead d) (eA d)++mV (ou p (lead d) (eA d)) (left o))):=λ d h=>by rw[h];cases p<;>exact vP
   cases R:eE s with
    |false=>
     have e:(gK s).2=[(0,lead s,eA s)]:=by simp[gK,R]
     have X:left (s::o)=s::left o:=by cases o with|nil=>rfl|cons b r=>show[um,begins b,cut,s,s]::left (b::r)=_;rw[19,(J1 s).2 R]
     rw[e];have z:jR 0 o:=by cases o<;>simp[jR]
     rw[7];·rintro⟨fm,g,_,a⟩;rw[sS]at g;subst g;rw[0,j,(n s X).mpr a]
     ·rintro⟨_,h⟩;rw[23,_,List.mem_singleton.mpr J,z,(n s X).mp h]
    |true=>
     have e:(gK s).2=[(1,lead s,(eA s).dropLast),(2,lead s,eA s)]:=by simp[gK,R]
     obtain⟨u,A⟩:=(J1 s).1 R;rw[e];by_cases K:jR 1 o
     ·obtain⟨b,r,rfl,y⟩:∃b r,o=b::r∧begins b=true:=by
       cases o with
        |nil=>rw[8,J,K]
        |cons b r=>
         rw[17,b,r,J,?_];rcases K with h|h;·cases h
         ·unfold ku at h;split at h;·rename_i q;exact q
          ·cases h
      have D:¬jR 2 (b::r):=by
       have:ku b=1:=by simp[ku,y]
       simp[jR,this]
      have X:left (s::b::r)=cut s::left (b::r):=by rw[14,[um,begins b,cut,s,s]::left (b::r)=_,y];rfl
      have k:=n (cut s) X;rw[u,A]at k;rw[7]
      ·rintro⟨fm,g,I,a⟩;rcases[dE,g]with rfl|g;·rw[0,j,k.mpr a]
       ·rw[sS]at g;subst g;rw[8,I,D]
      ·rintro⟨_,h⟩;rw[23,_,cq,K,k.mp h]
     ·have f:jR 2 o:=by cases o with|nil=>simp[jR]|cons b r=>rcases Th b with h|h;rw[2,[e9,gq h.symm,K],gq h.symm]
      have X:left (s::o)=s::left o:=by
       cases o with
        |nil=>rfl
        |cons b r=>
         have:[aw,begins b]:=by cases q:begins b with|false=>rfl|true=>rw[8,gq (by simp[ku,q]),K]
         rw[14,[um,begins b,cut,s,s]::left (b::r)=_,this];rfl
      rw[7]
      ·rintro⟨fm,g,I,a⟩;rcases[dE,g]with rfl|g;·rw[8,I,K]
       ·rw[sS]at g;subst g;rw[0,j,(n s X).mpr a]
      ·rintro⟨_,h⟩;rw[23,_,cp _ cq,f,(n s X).mp h]
  ·have t:targets m (sp,p,w) (gK s)=[]:=aD hw;rw[34,t];·rintro⟨_,h,_⟩;cases h
   ·rintro⟨h,_⟩;rw[8,h,hw]
theorem Ti(m:Measure)(F:m.feet≠[])(T:[Oo,w≠[]])(V:[QM])(o:List [e_]):jQ m (start m) (o.map gK)↔[aw,(Kgz1.scans m (syls [oC,(left o).zipIdx,[Oa]])).isEmpty]:=by rw[J4 m F o (start m) (λ _=>J),Tc m T V,Tf];constructor;rw[2,λ h=>h.2,λ h=>⟨by cases o<;>simp[jR,start],h⟩]
end Vs
end
section
namespace Vs
open Kgz1(Syl Kind Measure Sound syls cut left begins takes scans Bytes splitOn words syllables spoken)
open Kgz2(wordOf lineOf scansRow)
theorem J5:∀(a w r:Bytes),(∀c∈a,c≠32)→[CF,splitOn (a++32::r) w,w++a=[],splitOn r [],(w++a)::splitOn r []]|[],w,r,_=>by show[EL,(32:Nat)=32,[wu,w,[],splitOn r [],w::splitOn r []],splitOn,r,w++[32]]=_;rw[aI J,qD]|c::a,w,r,h=>by have V:c≠32:=h c [al];show[EL,c=32,_,splitOn,a++32::r,w++[c]]=_;rw[aD V,J5 a (w++[c]) r λ d b=>h d (cp _ b)];simp
theorem J6:∀(a w:Bytes),(∀c∈a,c≠32)→[CF,splitOn a w,w++a=[],[],[w++a]]|[],w,_=>[bB,splitOn]|c::a,w,h=>by have V:c≠32:=h c [al];show[EL,c=32,_,splitOn,a,w++[c]]=_;rw[aD V,J6 a (w++[c]) λ d b=>h d (cp _ b)];simp
def pC:[fQ,Bytes,Bytes]|[]=>[]|[a]=>a|a::b::r=>a++32::pC (b::r)
theorem J7:∀(l:List Bytes),(∀a∈l,a≠[]∧∀c∈a,c≠32)→words (pC l)=l|[],_=>J|[a],h=>by obtain⟨g,d⟩:=h a [al];rw[14,splitOn a []=[a],J6 a [] d];simp[g]|a::b::r,h=>by obtain⟨g,d⟩:=h a [al];rw[14,splitOn (a++32::pC (b::r)) []=_,J5 a [] _ d];simp only[pf,aD g];have T:=J7 (b::r) [KQ,h];have T:splitOn (pC (b::r)) []=b::r:=T;rw[T]
theorem B7(S:List Bytes):∀r:[ak],lineOf S r=pC [Cl,[Mo]]|[]=>J|[k]=>J|k::l::r=>by have T:=B7 S (l::r);rw[14,[Mo]++32::lineOf S (l::r)=_,T];rfl
theorem length_join:∀(l:List Bytes),l≠[]→[fy,pC,l]+1=(l.map λ a=>a.length+1).sum|[a],_=>[bB,pC]|a::b::r,_=>by have T:=length_join (b::r) [al];show(a++32::pC (b::r)).length+1=_;rw[bO,qE,←T];rw[18]
theorem J8(m:Measure):∀(r:[Eu])(s:[pu])(t:[ak]),(∀g∈r,∀w∈g,1≤w.length∧w.length≤4)→t∈takes r s→[B_,s.length]∧s.length≤4*r.length
 |[],s,t,_,h=>by
  unfold takes at h;split at h;·rename_i e;subst e;simp
  ·rw[16]
 |g::r,s,t,b,h=>by
  have h:t∈[oC,g.zipIdx,_]:=h;obtain⟨⟨w,i⟩,O,D⟩:=[zg,h];have H:=(tJ (d:=[]) O).2;split at D;·rename_i V;obtain⟨Y,o,rfl⟩:=[bp,D];have T:=J8 m r _ Y (λ Q j=>b Q (cp _ j)) o;have X:=b g [al] w H;have a:=V.1;simp only[lQ,dP]at T⊢;simp only at a;omega
  ·simp at D
structure B8(m:Measure):Prop where
 feet:1≤m.feet.length∧m.feet.length≤16
 iT:[Oo,1≤w.length∧w.length≤4]
 cuts:[QM]
theorem Tj{m:Measure}(E:B8 m){s:[pu]}(h:[aw,(scans m s).isEmpty]):[aw,Kgz1.bad s]:=by unfold scans at h;rw[Rv]at h;obtain⟨t,F⟩:=List.exists_mem_of_ne_nil _ h;have F:=[E4,F].1;have X:=J8 m m.feet s t E.iT F;have g:=E.feet;unfold Kgz1.bad;rw[Bool.or_eq_false_iff];rw[15,?_,[ol]];rw[Rv];intro e;have I:s.length=0:=[hJ,e];omega
def tK(b:Bytes):Shape:=gK (mQ 0 b)
theorem Tn{m:Measure}(E:B8 m)(S:List Bytes)(r:[ak])(u:r≠[])(G:∀k∈r,[Mo]≠[]∧∀c∈[Mo],c≠32):scansRow m S r=true↔([Cl,[fy,wordOf,S.getD k []]+1].sum≤256∧jQ m (start m) [Cl,tK [Mo]]):=by
 have l:m.feet≠[]:=by intro e;rw[38,E.feet.1,e];rw[82]
 have N:[Oo,w≠[]]:=λ g j w T e=>by rw[38,(E.iT g j w T).1,e];rw[82]
 have T:words (lineOf S r)=[Cl,[Mo]]:=by rw[13,B7,J7 _ [K4]];obtain⟨k,C,rfl⟩:=[bp,ha];exact G k C
 have X:(lineOf S r).length+1=[Cl,[fy,wordOf,S.getD k []]+1].sum:=by rw[B7,length_join _ [aB,u],cP];rfl
 have A:=Ti m l N E.cuts ((words (lineOf S r)).map (mQ 0));have e1:syls [oC,(left ((words (lineOf S r)).map (mQ 0))).zipIdx,[Oa]]=syllables (lineOf S r):=J;rw[e1]at A;have e2:((words (lineOf S r)).map (mQ 0)).map gK=[Cl,tK [Mo]]:=by rw[T,cP,cP];rfl
 rw[e2]at A;unfold scansRow;simp only[dO,dw,Bw];rw[34,A];·rintro⟨⟨b,d⟩,P⟩;rw[0,[ac],P]
 ·rintro⟨b,P⟩;rw[0,⟨[ac],Tj E P⟩,P]
end Vs
end
section
namespace Vs
open Kgz2(before goOn rows isRow first Row)
theorem B9:∀r:Row,[aw,before r r]|[]=>J|a::l=>by simp[before,B9 l]
theorem J9:∀{a b c:Row},before a b=true→before b c=true→before a c=true
 |[],[],_,h,_=>by cases h
 |[],_::_,[],_,h=>by cases h
 |[],_::_,_::_,_,_=>J
 |_::_,[],_,h,_=>by cases h
 |_::_,_::_,[],_,h=>by cases h
 |a::l,b::m,c::n,g,r=>by
  simp only[before,n9,dO,dw,mS]at g r⊢;rcases g with g|⟨g,d⟩;·rcases r with r|⟨r,_⟩;rw[2,.inl [ac],.inl [ac]]
  ·rcases r with r|⟨r,O⟩;rw[2,.inl [ac],[jT,[ac],J9 d O]]
theorem To(r x:Row)(h:x≠[]):before r (r++x)=true:=by
 induction r with
  |nil=>cases x with|nil=>rw[8,J,h]|cons a l=>rfl
  |cons a l T=>simp[before,T]
theorem Tp(r x y:Row):before (r++x) (r++y)=before x y:=by induction r with|nil=>rfl|cons a l T=>simp[before,T]
theorem y8(w:Nat):∀(n:Nat)(r q:Row),q∈goOn w n r↔∃x,[bn,q=r++x,x≠[],x.length≤n,∀k∈x,k<w,x.Nodup∧∀k∈x,k∉r]
 |0,r,q=>by
  rw[7];·intro h;simp[goOn]at h
  ·rintro⟨x,_,h,X,_⟩;rw[8,[QY,[ac]],h]
 |n+1,r,q=>by
  have T:=y8 w n;simp only[goOn,nX,yH,So,lU,Bw,List.contains_eq_mem,R6];rw[7]
  ·rintro⟨k,⟨C,u⟩,rfl|h⟩;·exact⟨[k],J,[al],[al],[aB,C],[al],[aB,u]⟩
   ·obtain⟨x,rfl,g,a,P,b,m⟩:=(T _ _).mp h;rw[47,k::x,[al],[al],by rw[18],?_,?_,?_];·intro j U;rcases[dE,U]with rfl|U;rw[2,C,P j U]
    rw[11,BF,⟨λ N=>m k N [al],b⟩];·intro j U;rcases[dE,U]with rfl|U;rw[2,u,λ N=>m j U (lP _ N)]
  ·rintro⟨x,rfl,g,a,P,b,m⟩;cases x with
    |nil=>rw[8,J,g]
    |cons k x=>
     rw[29,k,⟨P k [al],m k [al]⟩];by_cases A:x=[];·subst A;rw[21,J]
     ·right;refine((T _ _).mpr ⟨x,[al],A,by simp at a;omega,λ j U=>P j (cp _ U),[Az,b].2,λ j U N=>?_⟩);rcases[gM,N]with N|N;·exact m j (cp _ U) N
      ·rw[sS]at N;subst N;exact[Az,b].1 U
theorem y9{w most:Nat}{r:Row}:r∈rows w most↔[JV,w,r]:=by
 unfold rows isRow;rw[y8];simp only[dO,dw,BA];rw[7]
 ·rintro⟨x,A,g,b,P,c,_⟩;rw[55,r=x,A];have:1≤r.length:=by cases r with|nil=>rw[8,J,g]|cons a l=>simp
  rw[0,⟨⟨this,b⟩,P⟩,c]
 ·rintro⟨⟨⟨g,b⟩,P⟩,c⟩;exact⟨r,J,by intro e;subst e;simp at g,b,P,c,[al]⟩
theorem J_{m d:Type}{R:[d0,d,d]}{f:m→List d}:∀{l:[li]},l.Pairwise (λ a b=>∀x∈f a,∀y∈f b,R x y)→(∀a∈l,(f a).Pairwise R)→(l.flatMap f).Pairwise R|[],_,_=>[al]|a::l,g,r=>by rw[kZ,RN];obtain⟨P,w⟩:=List.pairwise_cons.mp g;rw[24,r a [al],J_ w λ b K=>r b (cp _ K),λ x A y c=>?_];obtain⟨b,K,c⟩:=[zg,c];exact P b K x A y c
theorem Ka(w:Nat):∀(n:Nat)(r:Row),(goOn w n r).Pairwise λ a b=>before a b=true
 |0,r=>[bB,goOn]
 |n+1,r=>by
  have cV:∀k q,q∈(r++[k])::goOn w n (r++[k])→∃x,q=r++k::x:=λ k q D=>by
   rcases[dE,D]with rfl|D;·rw[0,[],J]
   ·obtain⟨x,rfl,_⟩:=(y8 w n _ _).mp D;rw[0,x,[al]]
  refine J_ ?_ λ k _=>?_
  ·have G:([ul,w].filter λ k=>!(r.contains k)).Pairwise (·<·):=List.Pairwise.filter _ List.pairwise_lt_range;refine G.imp λ{a b}d x A y c=>?_
   obtain⟨W,rfl⟩:=cV a x A;obtain⟨i,rfl⟩:=cV b y c;rw[Tp];simp[before,d]
  ·rw[List.pairwise_cons];rw[15,λ q D=>?_,Ka w n _];obtain⟨x,rfl,A,_⟩:=(y8 w n _ _).mp D;exact To _ _ A
theorem Kb{m:Type}{R:[d0,m,m]}{p:m→Bool}:∀{l:[li]},l.Pairwise R→∀{a:m},l.find? p=Z a→a∈l∧p a=true∧∀b∈l,p b=true→b=a∨R a b
 |[],_,a,h=>by rw[16]
 |x::l,c,a,h=>by
  obtain⟨g,r⟩:=List.pairwise_cons.mp c;rw[vC]at h;split at h;·rename_i A;cases h;rw[24,[al],A,λ b K _=>?_];rcases[dE,K]with rfl|K;rw[2,[db],.inr (g b K)]
  ·rename_i A;obtain⟨n,X,f⟩:=Kb r h;rw[24,cp _ n,X,λ b K V=>?_];rcases[dE,K]with rfl|K;·rw[A]at V;cases V
   ·exact f b K V
def tL(m:bT)(S:List SY)(most:Nat)(t r:Row):Prop:=[JV,S.length,r]∧(t=[]∨before t r=true)∧Kgz2.scansRow m S r=true
theorem Tq{m:bT}{S:List SY}{most:Nat}{t:Row}(h:∀r,¬tL m S most t r):first m S most t=none:=by unfold first;rw[List.find?_eq_none];intro r u R;rw[dO,n9]at R;exact h r ⟨y9.mp u,R.1.imp (λ q=>[aB,q]) id,R.2⟩
theorem Ts{m:bT}{S:List SY}{most:Nat}{t r:Row}(h:tL m S most t r)(X:∀q,tL m S most t q→[aw,before q r]):first m S most t=Z r:=by
 cases e:first m S most t with
  |none=>unfold first at e;rw[List.find?_eq_none]at e;refine[e9,?_,e r (y9.mpr h.1)];rw[dO,n9];rw[0,h.2.1.imp (λ q=>[bB,q]) id,h.2.2]
  |some q=>
   obtain⟨g,a,P⟩:=Kb (Ka _ _ _) e;rw[dO,n9]at a;have D:tL m S most t q:=⟨y9.mp g,a.1.imp (λ q=>[aB,q]) id,a.2⟩;rcases P r (y9.mpr h.1) (by rw[dO,n9];rw[0,h.2.1.imp (λ q=>[bB,q]) id,h.2.2])with z|z;·rw[z]
   ·rw[98,X q D,z]
end Vs
end
section
namespace Vs
def dot:[fQ,Int,[fQ,Int,Int]]|a::l,b::m=>a*b+dot l m|_,_=>0
theorem Tt:∀l:[bF],dot l []=0|[]=>J|_::_=>J
theorem y_:∀{a b:[bF]}{c d:[bF]},a.length=b.length→dot (a++c) (b++d)=dot a b+dot c d
 |[],[],c,d,_=>[bB,dot]
 |x::a,y::b,c,d,h=>by
  have S:a.length=b.length:=by rw[51]
  simp only[nW,dot,y_ S];omega
 |[],_::_,_,_,h=>by rw[16]
 |_::_,[],_,_,h=>by rw[16]
theorem tN(z:Int):∀a b:[bF],dot (a.map (z*·)) b=z*dot a b|[],b=>[bB,dot]|x::a,[]=>[bB,dot]|x::a,y::b=>by simp only[bO,dot,tN z a b,BQ,Jq]
theorem ze(z:Int):∀a b:[bF],dot a (b.map (z*·))=z*dot a b|[],b=>[bB,dot]|x::a,[]=>[bB,dot]|x::a,y::b=>by simp only[bO,dot,ze z a b,BQ];rw[By]
def hH:[fQ,Int,[fQ,Int,[bF]]]|a::l,b::m=>(a+b)::hH l m|_,_=>[]
theorem qP:∀{a b:[bF]},a.length=b.length→[cI,hH a b,a.length]|[],[],_=>J|x::a,y::b,h=>by simp only[hH,dP];rw[qP (by rw[51])]|[],_::_,h=>by rw[16]|_::_,[],h=>by rw[16]
theorem B_:∀{a b:[bF]}(c:[bF]),a.length=b.length→dot (hH a b) c=dot a c+dot b c
 |[],[],c,_=>by simp[hH,dot]
 |x::a,y::b,[],h=>[bB,Tt]
 |x::a,y::b,z::c,h=>by
  have S:a.length=b.length:=by rw[51]
  simp only[hH,dot,B_ c S,SR];omega
 |[],_::_,_,h=>by rw[16]
 |_::_,[],_,h=>by rw[16]
theorem Kc:∀(t:Nat){c u:[bF]},c.length=u.length→t<c.length→dot c u=c.getD t 0*u.getD t 0+dot (c.eraseIdx t) (u.eraseIdx t)|_,[],_,_,h=>by rw[16]|_,_::_,[],h,_=>by rw[16]|0,a::c,b::u,_,_=>[bB,dot]|t+1,a::c,b::u,h,F=>by have:=Kc t (c:=c) (u:=u) (by rw[51]) [aB,F];simp only[dot,List.eraseIdx_cons_succ,List.getD_cons_succ,this];omega
theorem Ke:∀{c u:[bF]},dot c u≠0→c.length=u.length→∃t,t<c.length∧c.getD t 0≠0
 |[],u,h,_=>by cases u<;>simp[dot]at h
 |a::c,[],h,_=>by simp[dot]at h
 |a::c,b::u,h,X=>by
  by_cases ha:a=0
  ·subst ha;have S:dot c u≠0:=by simpa[dot]using h
   obtain⟨t,F,e⟩:=Ke S [aB,X];rw[1,t+1,[aB,F],[aB,e]]
  ·rw[1,0,[al],[aB,ha]]
theorem Ca(z:Int):∀(t:Nat)(a:[bF]),(a.map (z*·)).getD t 0=z*a.getD t 0|_,[]=>[al]|0,x::a=>[al]|t+1,x::a=>[aB,Ca z t a]
theorem Kf:∀(t:Nat){a b:[bF]},a.length=b.length→(hH a b).getD t 0=a.getD t 0+b.getD t 0|_,[],[],_=>[bB,hH]|0,x::a,y::b,_=>[bB,hH]|t+1,x::a,y::b,h=>by simpa[hH]using Kf t (a:=a) (b:=b) (by rw[51])|_,[],_::_,h=>by rw[16]|_,_::_,[],h=>by rw[16]
theorem Kg:∀(D:Nat)(L:List ([bF]×[bF])),((∀p∈L,[cI,p.1,D]∧[cI,p.2,D])→(∀p∈L,dot p.1 p.2≠0)→L.Pairwise (λ q p=>dot q.1 p.2=0)→L.length≤D)
 |_,[],_,_,_=>[al]
 |0,(c,u)::L,X,hn,_=>by have g:=X (c,u) [al];have r:=hn (c,u) [al];rw[70,c=[],Rr g.1];rw[8,by cases u<;>rfl,r]
 |D+1,(c,u)::L,X,hn,R=>by
  have g:=X (c,u) [al];have r:=hn (c,u) [al];obtain⟨t,F,V⟩:=Ke r (g.1.trans g.2.symm);have b:=List.pairwise_cons.mp R;let f:[bF]×[bF]→[bF]×[bF]:=λ p=>([Tl].eraseIdx t,p.2.eraseIdx t)
  have A:∀p∈L,∀v∈L,dot (f p).1 (f v).2=c.getD t 0*dot p.1 v.2:=by
   intro p y v h;have i:dot c v.2=0:=b.1 v h;have lp:=(X p [bB,y]).1;have l:=(X v [bB,h]).2;have d:[cI,(p.1.map (c.getD t 0*·)),(c.map (-(p.1.getD t 0)*·)).length]:=by simp[lp,g.1]
   have M:[Tl].getD t 0=0:=by rw[Kf t d,Ca,Ca,Int.neg_mul,Int.mul_comm];omega
   have e1:dot [Tl] v.2=c.getD t 0*dot p.1 v.2:=by rw[B_ _ d,tN,tN,i];omega
   have e2:=Kc t (c:=hH (p.1.map (c.getD t 0*·)) (c.map (-(p.1.getD t 0)*·))) (u:=v.2) (by rw[qP d];simp[lp,l]) (by rw[qP d];simp[lp];rw[84,g.1]);rw[M,e1]at e2;rw[20,dot ((hH (p.1.map (c.getD t 0*·)) (c.map (-(p.1.getD t 0)*·))).eraseIdx t) (v.2.eraseIdx t)=_]
  have T:=Kg D (L.map f) (by
   intro q a;obtain⟨p,y,rfl⟩:=List.mem_map.mp a;have lp:=X p (by simp[y]);have d:(p.1.map (c.getD t 0*·)).length=(c.map (-(p.1.getD t 0)*·)).length:=by simp[lp.1,g.1]
   have tl:t<D+1:=by have:=g.1;simp at this;omega
   constructor;·show(List.eraseIdx _ t).length=D;rw[List.length_eraseIdx_of_lt (by rw[qP d];simp[lp.1];omega),qP d];simp[lp.1]
   ·show(List.eraseIdx _ t).length=D;rw[List.length_eraseIdx_of_lt (by rw[lp.2];omega)];simp[lp.2]) (by intro q a;obtain⟨p,y,rfl⟩:=[bp,a];rw[4,A p y p y,Int.mul_ne_zero V (hn p [bB,y])]) (by rw[13,R7,Iu ?_ b.2];intro p v y h e;rw[A p y v h,e,Int.mul_zero])
  simp only[aC]at T;rw[74,dP]
def Kh(f:[dj]):[dj]|0=>0|n+1=>Kh f n+f (n+1)
def eT:Nat→[dj]|0=>λ _=>1|b+1=>Kh (eT b)
theorem Cb(b n:Nat):eT (b+1) (n+1)=eT (b+1) n+eT b (n+1):=J
theorem Cc(n:Nat):eT 0 n=1:=J
theorem Ki(b:Nat):eT (b+1) 0=0:=J
def mon:Nat→[fQ,Int,[bF]]|0,_=>[1]|_+1,[]=>[]|b+1,y::G=>mon (b+1) G++(mon b (y::G)).map (y*·)
theorem Cd(b:Nat)(y:Int)(G:[bF]):mon (b+1) (y::G)=mon (b+1) G++(mon b (y::G)).map (y*·):=by rw[mon]
theorem Kj(G:[bF]):mon 0 G=[1]:=by rw[mon]
theorem tO:∀(b:Nat)(G:[bF]),[cI,mon b G,eT b G.length]|0,_=>by simp[mon,Cc]|b+1,[]=>by simp[mon,Ki]|b+1,y::G=>by simp[mon,Cb,tO (b+1) G,tO b (y::G)]
theorem zf:∀(n b:Nat)(l c:[bF]),l.length=n→c.length=eT b n→∃s:[bF],s.length=eT (b+1) n∧∀G:[bF],G.length=n→dot s (mon (b+1) G)=dot l G*dot c (mon b G)
 |0,b,l,c,X,V=>by rw[24,[],[bB,Ki],λ G a=>?_];have e1:l=[]:=Rr X;subst e1;have e2:G=[]:=Rr a;subst e2;simp[mon,dot]
 |n+1,0,I::ls,c,X,V=>by obtain⟨u,g,e1⟩:=zf n 0 ls c [aB,X] (by simpa[Cc]using V);rw[24,u++c.map (I*·),by rw[dh,g,aC,V,Cb],λ G a=>?_];match G,a with|y::G,a=>have k:G.length=n:=[aB,a];rw[Cd,y_ (by rw[g,tO,k]),e1 G k,tN,ze,Kj,Kj];show dot ls G*dot c [1]+I*(y*dot c [1])=(I*y+dot ls G)*dot c [1];rw[SR,Jq,Int.add_comm]
 |n+1,b+1,I::ls,c,X,V=>by
  have x:c.length=eT (b+1) n+eT b (n+1):=V;obtain⟨u,g,e1⟩:=zf n (b+1) ls (c.take (eT (b+1) n)) [aB,X] [gL,jJ];obtain⟨h,r,e2⟩:=zf (n+1) b (0::ls) (c.drop (eT (b+1) n)) [aB,X] [gL,lQ];have j:h.length=(c.map (I*·)).length:=by rw[r,aC,V]
  rw[24,u++hH h (c.map (I*·)),by rw[dh,g,qP j,r,Cb (b+1) n],λ G a=>?_];match G,a with
   |y::G,a=>
    have k:G.length=n:=[aB,a];have d:=e1 G k;have e:=e2 (y::G) a;have sp:dot c (mon (b+1) (y::G))=dot (c.take (eT (b+1) n)) (mon (b+1) G)+y*dot (c.drop (eT (b+1) n)) (mon b (y::G)):=by have:dot (c.take (eT (b+1) n)++c.drop (eT (b+1) n)) (mon (b+1) G++(mon b (y::G)).map (y*·))=_:=y_ (by rw[jJ,tO,k];omega);rw[Bp,ze]at this;rw[4,Cd,this]
    rw[Cd (b+1)];show _=(I*y+dot ls G)*dot c (mon (b+1) (y::G));rw[y_ (by rw[g,tO,k]),d,ze,B_ _ j,tN,e];have z:dot (0::ls) (y::G)=dot ls G:=[bB,dot];rw[z,sp];generalize dot (c.take (eT (b+1) n)) (mon (b+1) G)=A;generalize dot (c.drop (eT (b+1) n)) (mon b (y::G))=B;generalize dot ls G=L;simp only[BQ,SR];have f:y*(L*B)=L*(y*B):=By _ _ _;have S:y*(I*A)=I*y*A:=by rw[Jq,By]
    have i:y*(I*(y*B))=I*y*(y*B):=by rw[Jq,By]
    rw[f,S,i];omega
def cb(x:Int):Nat→[bF]|0=>[]|n+1=>1::(cb x n).map (x*·)
theorem ov(x:Int):∀n,[cI,cb x n,n]|0=>J|n+1=>by simp[cb,ov x n]
def hI:[fQ,Int,Int→Int]|[],_=>0|a::r,x=>a+x*hI r x
theorem Kk(x:Int):∀G:[bF],dot (cb x G.length) G=hI G x|[]=>J|y::G=>by show 1*y+dot ((cb x G.length).map (x*·)) G=y+x*hI G x;rw[tN,Kk x G,Int.one_mul]
def lZ(l:[bF]):Int:=l.foldr (·*·) 1
theorem zg(n:Nat):∀B:[bF],∃c:[bF],c.length=eT B.length n∧∀G:[bF],G.length=n→dot c (mon B.length G)=lZ (B.map λ x=>hI G x)|[]=>⟨[1],[bB,Cc],λ G _=>by simp[mon,dot,lZ]⟩|x::B=>by obtain⟨c,g,e1⟩:=zg n B;obtain⟨s,r,e2⟩:=zf n B.length (cb x n) c (ov x n) g;rw[43,⟨s,[aB,r],λ G a=>?_⟩,dot s (mon (B.length+1) G)=hI G x*lZ (B.map λ x=>hI G x)];rw[e2 G a,e1 G a,←a,Kk]
def ju:[fQ,Int,[bF]]|[]=>[1]|z::A=>hH (0::ju A) ((ju A).map (-z*·)++[0])
theorem Ce:∀A:[bF],[cI,ju A,A.length+1]|[]=>J|z::A=>by rw[ju,qP [al]];simp[Ce A]
theorem Kl(x:Int):∀{a b:[bF]},a.length=b.length→hI (hH a b) x=hI a x+hI b x
 |[],[],_=>by simp[hH,hI]
 |u::a,v::b,h=>by
  have S:a.length=b.length:=by rw[51]
  simp only[hH,hI,Kl x S,BQ];omega
 |[],_::_,h=>by rw[16]
 |_::_,[],h=>by rw[16]
theorem Km(z x:Int):∀a:[bF],hI (a.map (z*·)++[0]) x=z*hI a x|[]=>[bB,hI]|u::a=>by simp only[bO,nW,hI,Km z x a,BQ];rw[By]
theorem Cf(x:Int):∀A:[bF],hI (ju A) x=lZ (A.map λ z=>x-z)|[]=>by simp[ju,hI,lZ]|z::A=>by rw[ju,Kl x [al],Km];show 0+x*hI (ju A) x+_=(x-z)*lZ (A.map λ z=>x-z);rw[Cf x A,Int.sub_mul,Int.neg_mul];omega
theorem zh:∀{l:[bF]},lZ l=0↔0∈l
 |[]=>[bB,lZ]
 |a::l=>by
  show a*lZ l=0↔_;rw[Int.mul_eq_zero,zh,lU];rw[7];·rintro(h|h);rw[48,h.symm,h]
  ·rintro(h|h);rw[48,h.symm,h]
theorem Kn(A B:[bF]):lZ (B.map λ x=>hI (ju A) x)=0↔∃x,x∈B∧x∈A:=by
 rw[zh,yP];rw[7];·rintro⟨x,a,e⟩;rw[Cf,zh,yP]at e;obtain⟨z,M,e⟩:=e;rw[70,x=z,[ac]];rw[1,x,a,M]
 ·rintro⟨x,a,O⟩;rw[1,x,a,by rw[Cf,zh,yP];rw[1,x,O,[ac]]]
theorem Tu(a b:Nat)(L:List ([bF]×[bF]))(X:∀p∈L,[cI,p.1,a]∧[cI,p.2,b])(hn:∀p∈L,∀x,x∈p.2→x∈p.1→False)(R:L.Pairwise λ q p=>∃x,x∈q.2∧x∈p.1):L.length≤eT b (a+1):=by
 let g:[bF]×[bF]→[bF]×[bF]:=λ p=>(sV (zg (a+1) p.2),mon b (ju p.1))
 have j:∀p∈L,∀v∈L,dot (g p).1 (g v).2=lZ [Aq,p.2,hI (ju v.1) x]:=by
  intro p y v d;have:=(sP (zg (a+1) p.2)).2 (ju v.1) (by rw[Ce,(X v d).1]);show dot _ (mon b (ju v.1))=_;have e:=(X p y).2;generalize D:ju v.1=q at*;have f:mon b q=mon p.2.length q:=by rw[e]
  rw[4,f,this]
 rw[105,Kg (eT b (a+1)) (L.map g) (by
  intro q D;obtain⟨p,y,rfl⟩:=[bp,D];have e:=(sP (zg (a+1) p.2)).1;have e2:eT p.2.length (a+1)=eT b (a+1):=by rw[(X p y).2]
  rw[0,e.trans e2,by show[cI,mon b (ju p.1),_];rw[tO,Ce,(X p y).1]]) (by intro q D;obtain⟨p,y,rfl⟩:=[bp,D];rw[j p y p y];intro z;obtain⟨x,c,r⟩:=(Kn _ _).mp z;exact hn p y x c r) (by rw[R7];refine Iu ?_ R;intro q p D S h;rw[4,j q D p S,(Kn _ _).mpr h])]
end Vs
end
section
namespace Vs
abbrev bx:=[dj]
def bZ:Nat→bx→Nat|0,_=>0|n+1,t=>bZ n t+t n
def mW(sz:bx)(n:Nat)(t:bx):Nat:=[CY,t k*sz k]
def cg(sz:bx):[fQ,Nat,Nat]|[]=>0|k::r=>cg sz r+sz k
def eF(bC:bx)(cs:[ak])(t:bx):Prop:=∃k,k∈cs∧bC k<[qU]+t k
def dn(t:bx)(k v:Nat):bx:=λ j=>[wu,j,k,v,t j]
theorem hJ(t:bx)(k v:Nat):dn t k v k=v:=[bB,dn]
theorem gL{t:bx}{k v j:Nat}(h:j≠k):dn t k v j=t j:=by simp[dn,h]
theorem Ko(t:bx)(k u v:Nat):dn (dn t k u) k v=dn t k v:=by funext j;unfold dn;split<;>rfl
theorem pD{n:Nat}{s t:bx}(h:∀k,k<n→s k=t k):bZ n s=bZ n t:=by induction n with|zero=>rfl|succ n T=>simp only[bZ];rw[T λ k C=>h k [ac],h n [ac]]
theorem Kp{n:Nat}{t:bx}{k v:Nat}(C:k<n):bZ n (dn t k v)+t k=bZ n t+v:=by
 induction n with
  |zero=>omega
  |succ n T=>
   simp only[bZ];rw[30,k,n];·subst e;rw[hJ,pD (s:=dn t k v) (t:=t) λ j U=>gL [ac]];omega
   ·rw[gL (ja e)];rw[10,T [ac]]
theorem Cg(n:Nat)(s t:bx):[CY,s k+t k]=bZ n s+bZ n t:=by induction n with|zero=>rfl|succ n T=>simp only[bZ,T];omega
theorem Kq{b:Type}[[DV,b]]:∀{l m:List b},l.Nodup→(∀x∈l,x∈m)→[pQ,m.length]
 |[],m,_,_=>[al]
 |a::l,m,hn,G=>by
  have L:=[Az,hn];have ha:a∈m:=G a [al];rw[38,Kq (l:=l) (m:=m.erase a) L.2 λ x A=>by
   have c:x≠a:=λ e=>L.1 (e▸A)
   exact((List.mem_erase_of_ne c).mpr (G x [bB,A])),List.length_erase_of_mem ha]
  have:0<m.length:=List.length_pos_of_mem ha;simp only[dP];omega
theorem Kr{m d:Type}{f:m→d}:∀{l:[li]},l.Nodup→(∀a∈l,∀b∈l,f a=f b→a=b)→(l.map f).Nodup|[],_,_=>[al]|a::l,hn,O=>by have L:=[Az,hn];rw[bO,BF];rw[15,λ h=>?_,Kr L.2 λ x A y c=>O x [bB,A] y [bB,c]];obtain⟨b,K,e⟩:=[bp,h];exact L.1 (O b [bB,K] a [al] e▸K)
section
variable(bC sz:bx)(cM:[AC,Nat])
theorem Ks{P:[AC,Nat]}:∀(n:Nat)(cs:[ak]),P cs→cg sz cs≤n→∃c,P c∧∀d,P d→cg sz c≤cg sz d
 |0,cs,h,hn=>⟨cs,h,λ d _=>[ac]⟩
 |n+1,cs,h,hn=>by
  by_cases q:∃d,P d∧cg sz d<cg sz cs;·obtain⟨d,a,s⟩:=q;exact Ks n d a [ac]
  ·rw[1,cs,h,λ d a=>vA (λ z=>q ⟨d,a,z⟩)]
def tP(l:Nat)(X:bx)(cs:[ak]):Prop:=cM cs∧[Dk,l]∧¬eF bC cs X
open Classical in noncomputable def ow(l:Nat)(X:bx):[ak]:=if h:∃c,tP bC cM l X c∧∀d,tP bC cM l X d→cg sz c≤cg sz d then sV h else[]
theorem Tv{l:Nat}{X:bx}{cs:[ak]}(h:tP bC cM l X cs):tP bC cM l X [K0,X]∧cg sz [K0,X]≤cg sz cs:=by have ex:=Ks (sz:=sz) (P:=tP bC cM l X) _ cs h (ba _);unfold ow;rw[4,dif_pos ex,⟨(sP ex).1,(sP ex).2 cs h⟩]
noncomputable def qQ(l:Nat)(p:bx×Nat)(d:Nat):bx×Nat:=[wu,d,0,(dn p.1 p.2 (p.1 p.2+1),p.2),((dn p.1 ([K0,p.1].getD (d-1) 0) (bC ([K0,p.1].getD (d-1) 0)+1-[K0,p.1].count ([K0,p.1].getD (d-1) 0))),[K0,p.1].getD (d-1) 0)]
noncomputable def dec(l:Nat)(B:[ak])(p:bx×Nat):bx×Nat:=B.foldl (qQ bC sz cM l) p
theorem Kt(l:Nat):∀(z:Nat)(X:bx)(k:Nat),dec bC sz cM l (lS z 0) (X,k)=(dn X k (X k+z),k)
 |0,X,k=>by
  show(X,k)=_;congr 1;funext j;unfold dn;split;·rename_i h;rw[h];rfl
  ·rfl
 |z+1,X,k=>by
  show dec bC sz cM l (lS z 0) (qQ bC sz cM l (X,k) 0)=_;have e:qQ bC sz cM l (X,k) 0=(dn X k (X k+1),k):=by unfold qQ;rw[aI J]
  rw[e,Kt l z,Ko,hJ];rw[50,X k+1+z=X k+(z+1)];rw[this]
structure Ci(n:Nat)(b:bx)(l r:Nat):Prop where
 trans:∀cs,(cM cs→([Dk,l])→cg sz cs≤r→eF bC cs b)
 weak:∀k,0<b k→∃cs,[bn,cM cs,[Dk,l],cg sz cs≤r,∀j,cs.count j≤bC j,∀j,j∈cs→bC j<cs.count j+b j→j=k]
 out:∀k,n≤k→b k=0
variable{bC sz cM}
theorem Ku{n:Nat}{b:bx}{l r:Nat}(L:Ci bC sz cM n b l r):∀(m:Nat)(X:bx)(q:Nat),(∀k,X k=0∨X k=b k)→[CY,b k-X k]≤m→∃B:[ak],(dec bC sz cM l B (X,q)).1=b∧(∀d∈B,d<l+1)∧B.length≤[CY,b k-X k]
 |m,X,q,g,N=>by
  by_cases K:X=b;·rw[23,[],K,[al],[al]]
  ·have a:∃k,X k=0∧0<b k:=by
    refine kT (λ z=>K (funext λ k=>?_));rcases g k with e|e
    ·by_cases M:0<b k;·rw[8,⟨k,e,M⟩,z]
     ·omega
    ·exact e
   obtain⟨k,I,x⟩:=a;obtain⟨cs,u,A,T,h,F⟩:=L.weak k x;have p:tP bC cM l X cs:=⟨u,A,λ⟨j,U,s⟩=>by
    rcases g j with e|e;·rw[e]at s;rw[10,h j]
    ·rw[e]at s;rw[83,F j U s];omega⟩
   obtain⟨⟨E,D,S⟩,w⟩:=Tv bC sz cM p;obtain⟨j,U,s⟩:=L.trans _ E D (bf w T);generalize P:[K0,X]=C at E D S w U s;have H:X j=0:=by rcases g j with e|e;rw[2,e,[e9,⟨j,U,[ar,e,s]⟩,S]]
   have y:C.count j≤bC j:=by refine vA (λ z=>S ⟨j,U,[ac]⟩)
   obtain⟨i,O,o⟩:=List.mem_iff_getElem.mp U;have Q:j<n:=by refine Nat.lt_of_not_le [zr];rw[10,L.out j z]
   have R:∀k,dn X j (b j) k=0∨dn X j (b j) k=b k:=λ k=>by
    rw[30,k,j];·subst e;right;exact hJ _ _ _
    rw[11,gL e,g k]
   have G:[CY,b k-dn X j (b j) k]+b j=[CY,b k-X k]:=by
    have e:=Kp (n:=n) (t:=λ k=>b k-X k) (k:=j) (v:=0) Q;have e2:bZ n (dn (λ k=>b k-X k) j 0)=[CY,b k-dn X j (b j) k]:=pD λ k _=>by
     by_cases z:k=j;·subst z;rw[hJ,hJ];omega
     ·rw[gL z,gL z]
    rw[e2]at e;simp only[H]at e;omega
   have W:0<b j:=[ac];match m with
    |0=>omega
    |m+1=>
     obtain⟨B,d1,d2,d3⟩:=Ku L m (dn X j (b j)) j R [ac];have V:C.getD (i+1-1) 0=j:=by rw[Bt,iB,bX O];exact o
     rw[17,(i+1)::(lS (b j-[Ox]) 0++B),?_,?_,?_]
     ·have e1:qQ bC sz cM l (X,q) (i+1)=(dn X j [Ox],j):=by unfold qQ;rw[aD [ac],P,V]
      show(List.foldl _ (qQ bC sz cM l (X,q) (i+1)) _).1=b;rw[e1,qz];have e2:=Kt bC sz cM l (b j-[Ox]) (dn X j [Ox]) j;unfold dec at e2 d1;rw[e2,Ko,hJ];have f:[Ox]+(b j-[Ox])=b j:=[ac];rw[4,f,d1]
     ·intro d c;rcases[dE,c]with rfl|c;·omega
      ·rcases[gM,c]with c|c;·rw[10,(List.mem_replicate.mp c).2]
       ·exact d2 d c
     ·simp only[dP,dh,II];have Y:0<C.count j:=List.count_pos_iff.mpr U;omega
end
def ox(b:Nat):Nat→List [ak]|0=>[[]]|c+1=>[Bf,b,λ d=>(ox b c).map (d::·)]
theorem Kv(b:Nat):∀c,[cI,ox b c,b^c]
 |0=>J
 |c+1=>by
  rw[ox,IV];have:[wv,b,(λ d=>((ox b c).map (d::·)).length)]=lS b (b^c):=by rw[List.eq_replicate_iff];rw[15,[al],[rp]];obtain⟨d,_,rfl⟩:=[bp,A];rw[aC,Kv b c]
  rw[this,List.sum_replicate_nat,vJ,Jr]
theorem Kw{b:Nat}:∀{B:[ak]},(∀d∈B,d<b)→B∈ox b B.length|[],_=>[bB,ox]|d::B,h=>by show d::B∈[Bf,b,λ d=>(ox b B.length).map (d::·)];exact[pN,d,[rJ,h d [al]],[jz,B,Kw λ e R=>h e [bB,R]]]
def codes:List (Nat×[ak]×Nat):=[Bf,13,λ l=>[Bf,13-l,λ c=>[oC,ox (l+1) c,λ B=>[wv,24*(12-l-c)+1,λ x=>(l,B,x)]]]]
def Cj:Nat:=[wv,13,λ l=>[wv,13-l,λ c=>(l+1)^c*(24*(12-l-c)+1)].sum].sum
theorem Tw:Cj=10653299:=[bE]
theorem codes_length:codes.length=Cj:=by
 rw[codes,Cj,IV];refine ed List.sum (iD λ l _=>?_);rw[13,IV,ed List.sum (iD λ c _=>?_)];rw[IV];have:(ox (l+1) c).map (λ B=>[fy,[ul,24*(12-l-c)+1].map,λ x=>(l,B,x)])=lS ((l+1)^c) (24*(12-l-c)+1):=by rw[List.eq_replicate_iff];rw[15,by rw[aC,Kv],[rp]];obtain⟨d,_,rfl⟩:=[bp,A];simp
 rw[this,List.sum_replicate_nat]
theorem Tx{m:Type}{bC sz:bx}{cM:[AC,Nat]}{n most:Nat}(l:m→bx)(o t:m→Nat)(L:[li])(N:most≤12)(hn:L.Nodup)(inj:∀p∈L,∀q∈L,(l p=l q→o p=o q→t p=t q→p=q))(h:∀p∈L,Ci bC sz cM n (l p) (o p) (t p)∧∃e x,bZ n (l p)+e+o p=most∧t p+mW sz n (l p)+x=256∧x≤24*e):L.length≤10653299:=by
 have ex:∀p∈L,∃c:Nat×[ak]×Nat,(c∈codes∧c.1=o p∧(dec bC sz cM (o p) c.2.1 (λ _=>0,0)).1=l p∧t p=256-mW sz n (l p)-c.2.2):=λ p R=>by
  obtain⟨d,e,x,e1,e2,a⟩:=h p R;obtain⟨B,d1,d2,d3⟩:=Ku d _ (λ _=>0) 0 (λ _=>[db]) (ba _);have G:[CY,l p k-0]=bZ n (l p):=pD λ k _=>[ac]
  rw[G]at d3;rw[3,[d9,(o p,B,x),?_,d1,by simp only;omega],[pN,o p,[rJ,[ac]],[pN,B.length,[rJ,[ac]],[pN,B,Kw d2,[jz,x,[rJ,?_]]]]]];omega
 classical
  let g:m→Nat×[ak]×Nat:=λ p=>if R:p∈L then sV (ex p R)else(0,[],0)
  have j:∀p,∀R:p∈L,(g p∈codes∧(g p).1=o p∧(dec bC sz cM (o p) (g p).2.1 (λ _=>0,0)).1=l p∧t p=256-mW sz n (l p)-(g p).2.2):=λ p R=>by have e:g p=sV (ex p R):=dif_pos R;rw[4,e,sP (ex p R)]
  have nd:(L.map g).Nodup:=Kr hn λ p R q D e=>by
   obtain⟨_,v,w,i⟩:=j p R;obtain⟨_,b,f,s⟩:=j q D;have r:o p=o q:=by rw[←v,←b,e]
   have eb:l p=l q:=by rw[←w,←f,e,r]
   exact inj p R q D eb r (by rw[i,s,e,eb])
  have:=Kq nd λ c V=>by obtain⟨p,R,rfl⟩:=[bp,V];exact(j p R).1
  rw[aC,codes_length,Tw]at this;rw[58]
def slots(n:Nat)(f:Nat→[bF]):[bF]:=[Bf,n,f]
def tQ(bC:bx)(n:Nat)(cs:[ak]):[bF]:=slots n λ k=>[wv,[qU],λ s=>[aV,k*100+(bC k-1-s)]]
def tR(n:Nat)(b:bx):[bF]:=slots n λ k=>[wv,b k,λ s=>[aV,k*100+s]]
theorem Ck(f:Nat→[bF]):∀n,[cI,slots n f,[CY,[fy,f,k]]]|0=>J|n+1=>by have T:=Ck f n;unfold slots at T⊢;rw[vD,kW,dh,T];simp[bZ]
theorem Cm{n:Nat}:∀{cs:[ak]},(∀k∈cs,k<n)→[CY,[qU]]=cs.length
 |[],_=>by rw[pD (t:=λ _=>0) λ k _=>[al]];induction n with|zero=>rfl|succ n T=>simpa[bZ]using T [al]
 |c::cs,h=>by
  have T:=Cm (n:=n) (cs:=cs) λ k C=>h k [bB,C]
  have e:=Kp (n:=n) (t:=λ k=>[qU]) (k:=c) (v:=cs.count c+1) (h c [al]);have e2:bZ n (dn (λ k=>[qU]) c (cs.count c+1))=[CY,(c::cs).count k]:=pD λ k _=>by
   by_cases z:k=c;·subst z;rw[19,hJ]
   ·rw[gL z,i8];simp[ja z]
  rw[e2]at e;rw[74,dP]
theorem Kx{bC:bx}{n:Nat}{cs:[ak]}{x:Int}(h:x∈tQ bC n cs):∃k s:Nat,k<n∧s<[qU]∧x=[aV,k*100+(bC k-1-s)]:=by obtain⟨k,C,A⟩:=[zg,h];obtain⟨s,G,e⟩:=[bp,A];rw[9,k,s,[KJ,C],[KJ,G],e.symm]
theorem Tz{n:Nat}{b:bx}{x:Int}(h:x∈tR n b):∃k s:Nat,k<n∧s<b k∧x=[aV,k*100+s]:=by obtain⟨k,C,A⟩:=[zg,h];obtain⟨s,G,e⟩:=[bp,A];rw[9,k,s,[KJ,C],[KJ,G],e.symm]
theorem Ky{bC:bx}{n:Nat}{cs:[ak]}{b:bx}(g:∀k∈cs,k<n)(r:∀k,[qU]≤bC k)(P:∀k,b k≤bC k)(w:∀k,bC k≤64):(∃x,x∈tR n b∧x∈tQ bC n cs)↔eF bC cs b:=by
 rw[7];·rintro⟨x,K,ha⟩;obtain⟨k,s,C,G,e⟩:=Kx ha;obtain⟨c,d,Q,h,f⟩:=Tz K;have u:=r k;have A:=P c;have T:=w k;have t:=w c;rw[70,k=c,[ac]];rw[1,k,List.count_pos_iff.mp [ac],[ac]]
 ·rintro⟨k,C,a⟩;have u:=r k;have A:=P k;have T:=w k;have V:0<[qU]:=List.count_pos_iff.mpr C;rw[24,[aV,k*100+(bC k-[qU])],[pN,k,[rJ,g k C],[jz,bC k-[qU],[rJ,[ac]]]],[pN,k,[rJ,g k C],[Do,[qU]-1,[rJ,[ac]],by congr 2;omega]]]
theorem Kz{m c:Type}[[DV,c]](A:m→c)(b:List c):∀L:[li],(∀p∈L,A p∈b)→L.length≤[Qj,L.filter]
 |[],_=>[al]
 |a::L,h=>by
  have T:=Kz A b L λ p R=>h p [bB,R]
  have d:∀b:List c,A a∈b→[Qj,L.filter]+1≤[Qj,(a::L).filter]:=by
   intro b;have o:∀b:List c,[Qj,L.filter]≤[Qj,(a::L).filter]:=by intro b;induction b with|nil=>simp|cons g b T=>simp only[bO,qE];rw[41,Su ?_ T,qA];split<;>simp
   induction b with
    |nil=>intro h;rw[16]
    |cons g b T=>
     intro N;simp only[bO,qE];rw[30,A a,g]
     ·have:=o b;have q:[cI,(a::L).filter [P3],[fy,L.filter,[P3]]+1]:=by rw[qA,aI [aB,e]];simp
      omega
     ·have:=T (by rcases[dE,N]with z|z;rw[8,z,e];exact z);have q:[cI,(a::L).filter [P3],[fy,L.filter,[P3]]]:=by rw[qA,aD [aB,e]]
      omega
  have:=d b (h a [al]);rw[74,dP]
structure KA(bC sz:bx)(n:Nat)(cs:[ak])(b:bx)(l r:Nat):Prop where
 oy:∀k∈cs,k<n
 fx:∀k,[qU]≤bC k
 words:[Dk,l]
 size:cg sz cs≤r
 room:r≤256
 bar:bZ n b+l≤12
 KC:∀k,b k≤bC k
 free:¬eF bC cs b
def groups:List (Nat×[xP]):=[Bf,13,λ l=>[Bf,l+1,λ w=>[wv,257,λ s=>(l,w,s)]]]
def KD:Nat:=[wv,13,λ l=>[wv,l+1,λ w=>257*eT (12-l) (w+1)].sum].sum
theorem TH:KD=2105087:=[bE]
theorem TJ(f:Nat×[xP]→Nat)(h:∀l w s,l<13→w<l+1→f (l,w,s)≤eT (12-l) (w+1)):(groups.map f).sum≤KD:=by
 have t:∀{m:Type}(N:[li])(g:m→List (Nat×[xP]))(q:m→Nat),(∀x∈N,((g x).map f).sum≤q x)→((N.flatMap g).map f).sum≤(N.map q).sum:=by intro m N g q D;induction N with|nil=>simp|cons x N T=>rw[kZ,cH,List.sum_append_nat,bO,qE];exact Su (D x [al]) (T λ y a=>D y [bB,a])
 rw[41,t _ _ _ λ l X=>t _ _ _ λ w b=>?_,cP];have:∀N:[ak],(N.map (f∘λ s=>(l,w,s))).sum≤N.length*eT (12-l) (w+1):=by intro N;induction N with|nil=>simp|cons x N T=>rw[bO,qE,dP,Nat.succ_mul];have:=h l w x [KJ,X] [KJ,b];simp only[Function.comp]at*;omega
 have:=this [ul,257];rwa[jI]at this
theorem TM{m:Type}{bC sz:bx}{n:Nat}(D:m→[ak])(r:m→bx)(u E:m→Nat)(L:[li])(B:∀k,bC k≤64)(h:∀p∈L,KA bC sz n (D p) (r p) (u p) (E p))(R:L.Pairwise λ p q=>(u p=u q→[fy,D,p]≤u q→cg sz (D p)≤E q→eF bC (D p) (r q))):L.length≤2105087:=by
 refine bf (Kz (λ p=>(u p,[fy,D,p],cg sz (D p))) groups L λ p y=>?_) (bf (TJ _ λ l w s X T=>?_) (mP TH));·have q:=h p y;have:=q.words;have:=q.size;have:=q.room;rw[45,q.bar,[pN,u p,[rJ,[ac]],[pN,_,[rJ,[ac]],[jz,_,[rJ,[ac]]]]]]
 ·let M:=L.filter λ p=>[aN,(u p,[fy,D,p],cg sz (D p))=(l,w,s)]
  show M.length≤_;have U:∀p∈M,(p∈L∧u p=l∧[cI,D p,w]∧cg sz (D p)=s):=λ p G=>by obtain⟨a,b⟩:=[E4,G];have:=lR b;simp only[Jl]at this;rw[23,a,this.1,this.2.1,this.2.2]
  have G:M.Pairwise λ p q=>eF bC (D p) (r q):=by have:M.Pairwise λ p q=>(u p=u q→[fy,D,p]≤u q→cg sz (D p)≤E q→eF bC (D p) (r q)):=R.sublist Bs;refine Iu ?_ this;intro p q o t z;obtain⟨v,g,i,C⟩:=U p o;obtain⟨V,j,N,F⟩:=U q t;have:=(h q V).words;rw[45,(h q V).size,z (g.trans j.symm) [ac] [ac]]
  have c:∀p∈M,∀x,x∈tR n (r p)++lS (12-l-bZ n (r p)) [ap,-1]→x∈tQ bC n (D p)→False:=λ p S x A O=>by
   obtain⟨v,g,i,C⟩:=U p S;rw[123];·exact(h p v).free ((Ky (h p v).oy (h p v).fx (h p v).KC B).mp ⟨x,A,O⟩)
   ·have:=(List.mem_replicate.mp A).2;obtain⟨k,d,_,_,e⟩:=Kx O;omega
  have:=Tu w (12-l) ((M.map λ p=>(tQ bC n (D p),tR n (r p)++lS (12-l-bZ n (r p)) [ap,-1])).reverse) (λ z f=>by
   rw[List.mem_reverse]at f;obtain⟨p,S,rfl⟩:=[bp,f];obtain⟨v,g,i,C⟩:=U p S;rw[7];·show[cI,tQ bC n (D p),w];unfold tQ;rw[Ck,←i];simp only[aC,jI];exact Cm (h p v).oy
   ·show[cI,tR n (r p)++lS (12-l-bZ n (r p)) [ap,-1],12-l];unfold tR;rw[dh,Ck,II];simp only[aC,jI];have:=(h p v).bar;have e:[CY,r p k]=bZ n (r p):=J;omega) (λ z f=>by rw[List.mem_reverse]at f;obtain⟨p,S,rfl⟩:=[bp,f];exact c p S) (by rw[List.pairwise_reverse,R7];refine Iu ?_ G;intro p q o t z;obtain⟨v,g,i,C⟩:=U p o;obtain⟨V,j,N,F⟩:=U q t;obtain⟨x,A,O⟩:=((Ky (h p v).oy (h p v).fx (h q V).KC B).mpr z);rw[1,x,lP _ A,O])
  rwa[List.length_reverse,aC]at this
end Vs
end
section
namespace Vs
open Kgz1(Syl Kind Measure fits Sound)
def eB(S:[nk])(f:Nat):Nat:=S.foldr (λ c a=>[wu,c.1,f,max c.2 a,a]) 0
theorem zj{cuts:[nk]}{f p:Nat}(h:(f,p)∈cuts):p≤eB cuts f:=by induction cuts with|nil=>rw[16]|cons c r T=>simp only[eB,List.foldr_cons];rw[136];rw[11,aI J,BH _ _];·have:=T h;unfold eB at this;split<;>omega
theorem KG{S:[nk]}{n:Nat}(h:∀c∈S,c.2≤n)(f:Nat):eB S f≤n:=by
 induction S with
  |nil=>simp[eB]
  |cons c r T=>
   have g:=h c [al];have a:=T λ d b=>h d [bB,b]
   simp only[eB,List.foldr_cons]at a⊢;split<;>omega
def lexLt(a b:[xP]):Prop:=a.1<b.1∨(a.1=b.1∧a.2<b.2)
instance(a b:[xP]):Decidable (lexLt a b):=inferInstanceAs(Decidable (_∨_))
def mX(m:Measure)(f p:Nat):Bool:=m.cuts.any λ c=>[aN,lexLt (f+1,p) c]
theorem KH{m:Measure}{f p:Nat}:mX m f p=true↔∃c∈m.cuts,lexLt (f+1,p) c:=by unfold mX;rw[19,yD]
def jv(m:Measure)(f p:Nat)(B:[lB])(L:Bool):Spot:=[Me,B=[],(f+1,0,[],L),L=true∨eB m.cuts (f+1)≤p,(f,4,B,L),(f,p,B,L)]
def ip(m:Measure)(k:Kind)(f p:Nat)(L:Bool):[fQ,Bool,[j4,Spot]]|[]=>none|c::r=>[LW,fits k c=true∧(L=true∨mX m f (p+1)=true),jv m f (p+1) r L]
def eU(m:Measure)(e:Bool)(sp:Spot):Bool:=[lv].2||(e&&[MV,sp.1,sp.2.1])
def hO(m:Measure)(k:Kind)(e:Bool)(sp:Spot):List Spot:=[JS,cS,sp].filterMap (ip m k sp.1 sp.2.1 [DY])
theorem Co{m:Measure}{k:Kind}{e:Bool}{sp q:Spot}:q∈hO m k e sp↔∃c r,(c::r∈[JS,cS,sp]∧fits k c=true∧([DY]=true∨mX m sp.1 (sp.2.1+1)=true)∧q=jv m sp.1 (sp.2.1+1) r [DY]):=by
 unfold hO;rw[34,List.mem_filterMap]
 ·rintro⟨w,T,e⟩;cases w with
   |nil=>simp[ip]at e
   |cons c r=>
    simp only[ip]at e;split at e;·rename_i h;rw[6,e,⟨c,r,T,h.1,h.2,J⟩]
    ·cases e
 ·rintro⟨c,r,T,g,a,rfl⟩;rw[1,c::r,T,by simp only[ip];rw[aI ⟨g,a⟩]]
theorem Cp{m:Measure}{k:Kind}{e:Bool}{sp q:Spot}:q∈gc m k e sp↔∃c r,c::r∈[JS,cS,sp]∧fits k c=true∧q=lX sp.1 (sp.2.1+1) r [DY]:=by
 unfold gc;rw[34,List.mem_filterMap]
 ·rintro⟨w,T,e⟩;cases w with
   |nil=>simp[tI]at e
   |cons c r=>
    simp only[tI]at e;split at e;·rename_i h;rw[6,e,⟨c,r,T,h,J⟩]
    ·cases e
 ·rintro⟨c,r,T,g,rfl⟩;rw[1,c::r,T,by simp only[tI];rw[aI g];rfl]
def qR(m:Measure)(sp:Spot):Prop:=[lv].2=true∨∃c∈m.cuts,lexLt (sp.1+1,sp.2.1) c
theorem KI{m:Measure}{k:Kind}{e:Bool}{sp q:Spot}(h:q∈gc m k e sp)(a:qR m q):qR m sp:=by
 obtain⟨c,r,T,F,rfl⟩:=Cp.mp h;by_cases hm:[DY]=true
 ·unfold eU at hm;rcases Bool.or_eq_true_iff.mp hm with g|g;·rw[21,g]
  ·rw[45,(Bool.and_eq_true_iff.mp g).2,[vn,_,List.contains_iff_mem.mp this,[jT,J,[al]]]]
 ·unfold lX at a;have U:[aw,[DY]]:=[aB,hm];rw[U]at a;split at a;·rw[150];·refine[vn,d,b,?_];rw[148];omega
  ·rw[150];·refine[vn,d,b,?_];rw[148];omega
theorem KJ{m:Measure}:∀(s:[pu])(sp:Spot),acc m sp s→qR m sp|[],sp,h=>[ar,[dA,sp,gH m,h],[db]]|x::s,sp,⟨q,D,a⟩=>KI D (KJ s q a)
structure hV(m:Measure)(sp q:Spot):Prop where
 foot:q.1=sp.1
 rest:q.2.2.1=[lv].1
 met:q.2.2.2=[lv].2
 place:q.2.1=sp.2.1∨([lv].1≠[]∧([lv].2=true∨(eB m.cuts (sp.1+1)≤sp.2.1∧eB m.cuts (sp.1+1)≤q.2.1)))
theorem hV.refl(m:Measure)(sp:Spot):hV m sp sp:=[em,J,J,[db]]
theorem hV.eU{m:Measure}{sp q:Spot}(h:hV m sp q)(e:Bool):eU m e q=[DY]:=by
 unfold Vs.eU;rw[h.met,h.foot];rw[152];·rw[z]
 ·rw[19,z]
 ·have E:[aw,[MV,sp.1,sp.2.1]]:=by rw[←Bool.not_eq_true,RH];intro c;rw[10,zj c]
  have D:[aw,[MV,sp.1,q.2.1]]:=by rw[←Bool.not_eq_true,RH];intro c;rw[10,zj c]
  rw[E,D]
theorem KL{m:Measure}(w:[Ix]){sp q:Spot}(h:hV m sp q)(r:[lB])(b:Bool)(u:∃c,c::r∈[JS,cS,sp])(K:b=true→True)(l:[lv].2=true→b=true):hV m (lX sp.1 (sp.2.1+1) r b) (jv m q.1 (q.2.1+1) r b):=by
 unfold lX jv;rw[30,r,[]];·rw[aI e,aI e,h.foot];exact hV.refl _ _
 ·rw[aD e,aD e,h.foot];have y:=KG w (sp.1+1);by_cases t:b=true;rw[11,aI (.inl t),[em,J,J,[jT,e,.inl t]]]
  ·have i:[aw,[lv].2]:=by cases z:[lv].2 with|false=>rfl|true=>rw[8,l z,t]
   by_cases X:eB m.cuts (sp.1+1)≤q.2.1+1
   ·rw[13,aI (.inr X),[em,J,J,[jT,e,[jT,?_,y]]]];show eB m.cuts (sp.1+1)≤sp.2.1+1;rw[152];·omega
    ·rw[63,i]
    ·omega
   ·rw[13,aD (by rintro(z|z);exact t z;exact X z),[em,J,J,.inl ?_]];show q.2.1+1=sp.2.1+1;rw[152];·omega
    ·rw[63,i]
    ·omega
theorem TN{m:Measure}{sp q:Spot}(h:hV m sp q){e:Bool}{r:[lB]}(a:qR m (lX sp.1 (sp.2.1+1) r [DY]))(N:[DY]≠true):mX m q.1 (q.2.1+1)=true:=by
 have U:[aw,[DY]]:=[aB,N];rw[U]at a;rw[KH,h.foot];unfold lX at a;split at a;·rw[150];·rw[29,d,b];rw[148];omega
 ·rw[150]
  ·rw[29,d,b];have c:=zj (cuts:=m.cuts) (f:=d.1) (p:=d.2) b;rw[148];have i:[aw,[lv].2]:=by unfold eU at U;exact(Bool.or_eq_false_iff.mp U).1
   rw[152];·omega
   ·rw[63,i]
   ·rcases X with X|⟨O,E⟩;·rw[21,X]
    ·rw[←O]at c;omega
theorem KN{m:Measure}(w:[Ix]){k:Kind}{e:Bool}{sp q b:Spot}(h:hV m sp q)(G:b∈gc m k e sp)(a:qR m b):∃W∈hO m k e q,hV m b W:=by
 obtain⟨c,r,T,F,rfl⟩:=Cp.mp G;rw[29,jv m q.1 (q.2.1+1) r (eU m e q),Co.mpr ⟨c,r,by rw[12,h.foot,h.rest,T],F,?_,J⟩];·rw[h.eU];by_cases hm:[DY]=true;rw[48,hm,TN h a hm]
 rw[11,h.eU,KL w h r _ ⟨c,T⟩ (λ _=>mU) λ z=>by unfold eU;rw[z];rfl]
theorem KO{m:Measure}(w:[Ix]){k:Kind}{e:Bool}{sp q W:Spot}(h:hV m sp q)(G:W∈hO m k e q):∃a∈gc m k e sp,hV m a W:=by obtain⟨c,r,T,F,_,rfl⟩:=Co.mp G;rw[h.foot,h.rest]at T;rw[27,Cp.mpr ⟨c,r,T,F,J⟩];rw[4,h.eU,KL w h r _ ⟨c,T⟩ (λ _=>mU) λ z=>by unfold eU;rw[z];rfl]
def l0(m:Measure)(l:List Spot)(s:[pu]):List Spot:=[Pn,hO m x.kind x.ends,l]
theorem vW{m:Measure}{f:(Kind→Bool→Spot→List Spot)}{x:Syl}{s:[pu]}{sp q:Spot}:q∈(x::s).foldl (λ l x=>l.flatMap (f x.kind x.ends)) [sp]↔∃c∈f x.kind x.ends sp,q∈[Pn,f x.kind x.ends,[c]]:=by
 have Q:∀(s:[pu])(l:List Spot),q∈[Pn,f x.kind x.ends,l]↔∃a∈l,q∈[Pn,f x.kind x.ends,[a]]:=by
  intro s;induction s with
   |nil=>intro l;simp
   |cons y s T=>
    intro l;rw[i7,T];rw[7];·rintro⟨a,ha,D⟩;obtain⟨b,K,d⟩:=[zg,ha];rw[29,b,K];rw[i7,T];rw[1,a,[aB,d],D]
    ·rintro⟨b,K,D⟩;rw[i7,T]at D;obtain⟨a,ha,D⟩:=D;rw[1,a,[pN,b,K,[aB,ha]],D]
 rw[i7,Q];simp
theorem KP{m:Measure}(w:[Ix]):∀(s:[pu]){sp q d:Spot},(hV m sp q→d∈after m [sp] s→qR m d→∃W∈l0 m [q] s,hV m d W)
 |[],sp,q,d,h,G,_=>by rw[70,d=sp,by simpa[after]using G];rw[1,q,[bB,l0],h]
 |x::s,sp,q,d,h,G,a=>by
  obtain⟨b,K,G⟩:=(vW (m:=m) (f:=gc m)).mp G;have v:∀(s:[pu])(b:Spot),d∈after m [b] s→qR m b:=by
   intro s;induction s with
    |nil=>
     intro b K;have e:d=b:=by simpa[after]using K
     rw[25,e,a]
    |cons y s T=>intro b K;obtain⟨c,V,K⟩:=(vW (m:=m) (f:=gc m)).mp K;exact KI V (T c K)
  obtain⟨n,i,g⟩:=KN w h K (v s b G);obtain⟨W,o,S⟩:=KP w s g G a;rw[1,W,(vW (m:=m) (f:=hO m)).mpr ⟨n,i,o⟩,S]
theorem KQ{m:Measure}(w:[Ix]):∀(s:[pu]){sp q W:Spot},hV m sp q→W∈l0 m [q] s→∃a∈after m [sp] s,hV m a W|[],sp,q,W,h,G=>by rw[70,W=q,by simpa[l0]using G];rw[1,sp,[bB,after],h]|x::s,sp,q,W,h,G=>by obtain⟨b,K,G⟩:=(vW (m:=m) (f:=hO m)).mp G;obtain⟨e,i,g⟩:=KO w h K;obtain⟨a,d,S⟩:=KQ w s g G;rw[1,a,(vW (m:=m) (f:=gc m)).mpr ⟨e,i,d⟩,S]
def h7(o:[ak]):[ak]:=[Ij]++o.drop (o.length-1)
def l5(sh:Shape):Shape:=(sh.1,sh.2.map λ f=>(f.1,f.2.1,h7 f.2.2))
def tT(m:Measure)(L:a8)(fm:Form):List a8:=[DB,fm.2.2=[],[Ih,L],(l0 m [L.1] (settled L.2.1 fm.2.1 fm.2.2)).map λ sp=>[Io,sp]]
def qS(m:Measure)(L:a8)(sh:Shape):List a8:=[Ty,tT m L]
def qT(m:Measure)(L:a8):Prop:=L.2.2≠1∧L.2.1≠none∧gH m∈hO m .either true L.1
def pE(m:Measure):[d0,a8,List Shape]|L,[]=>qT m L|L,sh::r=>∃l∈qS m L sh,pE m l r
theorem qU{m:Type}:∀{o:[li]},o≠[]→∃i w,o=i++[w]:=λ{o}h=>⟨o.dropLast,o.getLast h,(List.dropLast_concat_getLast h).symm⟩
theorem Cq(i:[ak])(w:Nat):h7 (i++[w])=(i.map λ w=>max w 1)++[w]:=by unfold h7;simp
theorem KR(p:[wS])(K:Nat)(o:[ak]):settled p K (h7 o)=settled p K o:=by
 by_cases h:o=[];·subst h;rfl
 ·obtain⟨i,w,rfl⟩:=qU h;rw[Cq];unfold settled;rw[aD [al],aD [al]];simp only[List.dropLast_concat,cP];congr 1;apply iD;intro v _;simp only[Function.comp];congr 1;unfold kindOf;by_cases y:v≤1;·rw[aI [ac],aI y]
  ·rw[50,max v 1=v];rw[this]
theorem KS(o:[ak]):(h7 o).getLast?=o.getLast?:=by
 by_cases h:o=[];·subst h;rfl
 ·obtain⟨i,w,rfl⟩:=qU h;rw[19,Cq]
theorem zk{o:[ak]}:h7 o=[]↔o=[]:=by
 rw[7];·intro h;refine kT [zr];obtain⟨i,w,rfl⟩:=qU z;rw[Cq]at h;rw[16]
 ·rw[52];rfl
structure tU(m:Measure)(L q:a8):Prop where
 iU:hV m L.1 q.1
 wt:q.2.1=L.2.1
 wants:q.2.2=L.2.2
theorem TQ{m:Measure}{q:Spot}(h:hV m (gH m) q):q=gH m:=by
 obtain⟨g,r,P,w⟩:=h;obtain⟨a,b,c,d⟩:=q;simp only[gH]at g r P w⊢;subst g r P;rcases w with z|⟨z,_⟩;·rw[z]
 ·rw[8,J,z]
theorem TU{m:Measure}{sp:Spot}(h:hV m sp (gH m)):sp=gH m:=by
 obtain⟨g,r,P,w⟩:=h;obtain⟨a,b,c,d⟩:=sp;simp only[gH]at g r P w⊢;subst g r P;rcases w with z|⟨z,_⟩;·rw[←z]
 ·rw[8,J,z]
theorem TV{m:Measure}(w:[Ix]){L q:a8}(h:tU m L q):B5 m L↔qT m q:=by
 unfold B5 qT;rw[h.wt,h.wants];rw[7];·rintro⟨a,b,c⟩;obtain⟨W,o,G⟩:=KN w h.iU c [db];rw[TQ G]at o;rw[1,a,b,o]
 ·rintro⟨a,b,c⟩;obtain⟨d,e,G⟩:=KO w h.iU c;rw[TU G]at e;rw[1,a,b,e]
theorem KU{m:Measure}:∀(r:List Shape)(L:a8),jQ m L r→∃s,acc m L.1 s
 |[],L,h=>⟨[⟨.either,true⟩],gH m,h.2.2,J⟩
 |sh::r,L,⟨l,G,h⟩=>by
  obtain⟨s,a⟩:=KU r l h;unfold targets at G;split at G
  ·obtain⟨fm,_,F⟩:=[zg,G];unfold lY at F;split at F;·have:l=[Ih,L]:=[aB,F];rw[this]at a;rw[0,s,a]
   ·obtain⟨sp,i,rfl⟩:=[bp,F];rw[26,(J2 m _ s L.1).mpr ⟨sp,i,a⟩]
  ·simp at G
theorem vX{m:Measure}(b:[Ix]):∀(r:List Shape){L q:a8},tU m L q→(jQ m L r↔pE m q (r.map l5))
 |[],L,q,h=>TV b h
 |sh::r,L,q,h=>by
  show(∃l∈targets m L sh,jQ m l r)↔∃W∈qS m q (l5 sh),pE m W (r.map l5);unfold targets qS;have T:(l5 sh).1=sh.1:=J;rw[T,h.wants];by_cases V:L.2.2=0∨L.2.2=sh.1
  ·rw[aI V,aI V];have mem:∀x,x∈(l5 sh).2↔∃f∈sh.2,x=(f.1,f.2.1,h7 f.2.2):=λ x=>by
    show x∈sh.2.map _↔_;rw[34,yP];·rintro⟨f,F,rfl⟩;rw[1,f,F,J]
    ·rintro⟨f,F,rfl⟩;rw[1,f,F,J]
   rw[7]
   ·rintro⟨l,G,a⟩;obtain⟨fm,U,F⟩:=[zg,G];unfold lY at F;by_cases hn:fm.2.2=[];·rw[aI hn]at F;rw[55,l=[Ih,L],[aB,F]];have i:tU m [Ih,L] [Ih,q]:=[we,h.iU,by simp only;rw[h.wt]];rw[24,_,[pN,_,(mem _).mpr [we,fm,U],?_],(vX b r i).mp a];unfold tT;rw[aI (zk.mpr hn)];simp
    ·rw[aD hn]at F;obtain⟨sp,j,rfl⟩:=[bp,F];obtain⟨s,d⟩:=KU r _ a;obtain⟨W,o,i⟩:=KP b _ h.iU j (KJ s _ d);have n:tU m [Io,sp] [Io,W]:=[we,i,J];rw[24,[Io,W],[pN,_,(mem _).mpr [we,fm,U],?_],(vX b r n).mp a];unfold tT;rw[aD (λ z=>hn (zk.mp z))];simp only;rw[KR,KS,h.wt];exact[jz,W,o]
   ·rintro⟨W,G,a⟩;obtain⟨t,p,F⟩:=[zg,G];obtain⟨fm,U,rfl⟩:=(mem _).mp p;unfold tT at F;by_cases hn:fm.2.2=[];·rw[aI (zk.mpr hn)]at F;rw[55,W=[Ih,q],[aB,F]];have i:tU m [Ih,L] [Ih,q]:=[we,h.iU,by simp only;rw[h.wt]];refine[Ck,_,[pN,fm,U,?_],vX b r i,a];unfold lY;rw[aI hn];simp
    ·rw[aD (λ z=>hn (zk.mp z))]at F;simp only at F;rw[KR,KS,h.wt]at F;obtain⟨x,A,rfl⟩:=[bp,F];obtain⟨g,k,i⟩:=KQ b _ h.iU A;have n:tU m [Io,g] [Io,x]:=[we,i,J];refine[Ck,[Io,g],[pN,fm,U,?_],vX b r n,a];unfold lY;rw[4,aD hn,[jz,g,k]]
  ·rw[aD V,aD V];simp
theorem TY{m:Measure}(w:[Ix])(r:List Shape):jQ m (start m) r↔pE m (start m) (r.map l5):=vX w r [we,hV.refl _ _,J]
end Vs
end
section
namespace Vs
open Kgz2(Row before isRow)
def h8:Row→[yi,Row]|[],n,q=>∃m r,q=m::r∧n≤m|a::l,n,q=>∃m r,q=m::r∧(a<m∨(a=m∧h8 l n r))
theorem vY:∀(t q:Row),h8 t 0 q↔before t q=true
 |[],[]=>by simp[h8,before]
 |[],b::m=>by simp[h8,before]
 |a::l,[]=>by simp[h8,before]
 |a::l,b::m=>by
  simp only[h8,before,n9,dO,dw,mS];rw[7];·rintro⟨S,r,e,h⟩;cases e;rcases h with h|⟨g,c⟩;rw[2,[m_],[jT,g,(vY l m).mp c]]
  ·rintro(h|⟨g,c⟩);rw[2,[em,b,m,[m_]],[em,b,m,[jT,g,(vY l m).mpr c]]]
theorem pF{c n:Nat}(hn:c≤n):∀(t q:Row),h8 t c q↔(∃m r,c≤m∧m<n∧q=t++m::r)∨q=t++[n]∨h8 (t++[n]) 0 q
 |[],q=>by
  simp only[h8,pf];rw[7]
  ·rintro⟨m,r,rfl,h⟩;by_cases g:m<n;·rw[21,⟨m,r,h,g,J⟩]
   ·by_cases b:m=n;·subst b;cases r with|nil=>exact .inr [db]|cons x r=>exact[nM,[em,m,x::r,.inr [lc,J,x,r,b7 _]]]
    ·exact[nM,[em,m,r,.inl [ac]]]
  ·rintro(⟨m,r,g,b,rfl⟩|rfl|⟨m,r,rfl,h⟩);rw[2,[em,m,r,g],[em,n,[],hn]];·rw[17,m,r,J,?_];rcases h with h|⟨h,_⟩<;>omega
 |a::l,q=>by
  simp only[nW,h8];rw[7]
  ·rintro⟨m,r,rfl,h|⟨rfl,h⟩⟩;·exact[nM,[em,m,r,[m_]]]
   ·rcases(pF hn l r).mp h with⟨S,A,g,b,rfl⟩|rfl|h;·rw[21,⟨S,A,g,b,J⟩]
    rw[2,.inr [db],[nM,[em,a,r,[jT,J,h]]]]
  ·rintro(⟨S,A,g,b,rfl⟩|rfl|⟨m,r,rfl,h⟩);rw[2,[em,a,_,[jT,J,(pF hn l _).mpr (.inl ⟨S,A,g,b,J⟩)]],[em,a,_,[jT,J,(pF hn l _).mpr (.inr [db])]]];·rcases h with h|⟨g,b⟩;rw[2,[em,m,r,[m_]],[em,m,r,[jT,g,(pF hn l r).mpr [nM,b]]]]
theorem vZ(x n:Nat):∀(t q:Row),h8 (t++[x]) n q↔(∃m r,n≤m∧q=t++x::m::r)∨h8 t (x+1) q
 |[],q=>by
  simp only[pf,h8];rw[7];·rintro⟨m,r,rfl,h|⟨rfl,S,A,rfl,h⟩⟩;rw[2,.inr [em,m,r,h],.inl ⟨S,A,h,J⟩]
  ·rintro(⟨m,r,h,rfl⟩|⟨m,r,rfl,h⟩);rw[2,[em,x,m::r,.inr [lc,J,m,r,h]],[em,m,r,[m_]]]
 |a::l,q=>by
  simp only[nW,h8];rw[7]
  ·rintro⟨m,r,rfl,h|⟨rfl,h⟩⟩;·exact .inr [em,m,r,[m_]]
   ·rcases(vZ x n l r).mp h with⟨S,A,g,rfl⟩|h;rw[48,⟨S,A,g,J⟩,[em,a,r,[jT,J,h]]]
  ·rintro(⟨S,A,g,rfl⟩|⟨m,r,rfl,h⟩);·rw[23,a,_,J,[jT,J,(vZ x n l _).mpr (.inl ⟨S,A,g,J⟩)]]
   ·rcases h with h|⟨g,b⟩;rw[2,[em,m,r,[m_]],[em,m,r,[jT,g,(vZ x n l r).mpr (.inr b)]]]
def mY(w:Nat):Nat→Row→[dj]|d,[],n=>(w-n)*(w+1)^d|d,a::l,n=>(w-(a+1))*(w+1)^d+mY w (d-1) l n
def steps(w most:Nat)(t:Row)(n:Nat):Nat:=2*mY w most t n+t.length
theorem KW(w b n:Nat)(hn:b≤n)(T:n<w):∀(d:Nat)(t:Row),t.length<d→mY w d (t++[n]) 0+1≤mY w d t b
 |d,[],h=>by
  obtain⟨e,rfl⟩:∃e,d=e+1:=⟨d-1,by rw[16];omega⟩;simp only[pf,mY,Bt,Js];rw[66,(w-b)*(w+1)^(e+1)=(w-(n+1))*(w+1)^(e+1)+(n+1-b)*(w+1)^(e+1),by rw[←BR];congr 1;omega,(w+1)^(e+1)≤(n+1-b)*(w+1)^(e+1),Nat.le_mul_of_pos_left _ [ac]];have B:(w+1)^(e+1)=w*(w+1)^e+(w+1)^e:=by rw[vJ,Jr,BR,Nat.one_mul]
  have G:0<(w+1)^e:=Nat.pow_pos [ac];omega
 |d,a::l,h=>by have:=KW w b n hn T (d-1) l (by rw[16];omega);simp only[nW,mY];omega
theorem KY(w x n:Nat):∀(d:Nat)(t:Row),mY w d t (x+1)≤mY w d (t++[x]) n|d,[]=>by simp only[pf,mY];omega|d,a::l=>by have:=KY w x n (d-1) l;simp only[nW,mY];omega
theorem TZ{w most b n:Nat}{t:Row}(hn:b≤n)(T:n<w)(h:t.length<most):steps w most (t++[n]) 0<steps w most t b:=by have:=KW w b n hn T most t h;unfold steps;rw[dh,RI];omega
theorem T3{w most x n:Nat}{t:Row}:steps w most t (x+1)<steps w most (t++[x]) n:=by have:=KY w x n most t;unfold steps;rw[dh,RI];omega
structure Walk(w most:Nat)(c iq:Row→Prop)(t:Row)(j:Nat):Prop where
 nums:∀k∈t,k<w
 once:t.Nodup
 short:t.length≤most
 want:∀q,iq q↔([JV,w,q]∧c q∧h8 t j q)
theorem jS{w most:Nat}{r:Row}:[JV,w,r]↔(1≤r.length∧[B_,most]∧(∀k∈r,k<w)∧r.Nodup):=by
 unfold isRow;simp only[dO,dw,BA];rw[7];·rintro⟨⟨⟨a,b⟩,c⟩,d⟩;rw[23,a,b,c,d]
 ·rintro⟨a,b,c,d⟩;rw[0,⟨⟨a,b⟩,c⟩,d]
section
variable{w most:Nat}{Sc iq:Row→Prop}{row:Row}{least:Nat}
def tV(w most:Nat)(Sc:Row→Prop)(row:Row):Prop:=∃x,[JV,w,row++x]∧Sc (row++x)
theorem Walk.T4{n:Nat}(W:[Oy,row,least])(hn:least≤n)(u:row.length<most)(T:n<w)(e:n∉row)(d:[Ri,n,row++[m]])(F:¬Sc (row++[n])):[Oy,row++[n],0]:=by
 rw[17,[zj],?_,by rw[18],λ q=>?_];·rw[135,C,W.nums k h];·rw[16];omega
 rw[11,k0,[zO,W.once,λ a ha b K=>by simp at K;subst K;rw[52];exact e ha]]
 ·rw[34,W.want]
  ·rintro⟨g,c,P⟩;rw[29,g,c];rcases(pF hn row q).mp P with⟨m,r,a,b,rfl⟩|rfl|h;·rw[8,⟨r,[ar,gZ,g],[ar,gZ,c]⟩,d m a b]
   rw[2,[e9,c,F],h]
  ·rintro⟨g,c,P⟩;rw[1,g,c,(pF hn row q).mpr [nM,P]]
theorem Walk.found{n:Nat}(W:[Oy,row,least])(hn:least≤n)(u:row.length<most)(T:n<w)(f:n∉row)(d:[Ri,n,row++[m]])(l:Sc (row++[n])):iq (row++[n])∧∀q,iq q→[aw,before q (row++[n])]:=by
 have i:[JV,w,row++[n]]:=by
  rw[13,jS,⟨[al],by rw[18],[zj],?_⟩];·rw[135,C,W.nums k h];·rw[16];omega
  rw[11,k0,[zO,W.once,λ a ha b K=>by simp at K;subst K;rw[52];exact f ha]]
 refine⟨((W.want _).mpr [Ck,i,l,pF hn row _,.inr [db]]),λ q D=>?_⟩;obtain⟨g,c,P⟩:=(W.want q).mp D;rcases(pF hn row q).mp P with⟨m,r,a,b,rfl⟩|rfl|h;rw[2,[e9,⟨r,[ar,gZ,g],[ar,gZ,c]⟩,d m a b],B9 _];·have S:=(vY _ _).mp h;cases e:before q (row++[n])with|false=>rfl|true=>rw[98,J9 e S,B9]
theorem Walk.popped{x:Nat}(W:[Oy,row++[x],least])(c:[cI,row++[x],most]∨[Ri,w,row++[x]++[m]]):[Oy,row,x+1]:=by
 rw[17,λ k C=>W.nums k [bB,C],(List.nodup_append.mp W.once).1,by rw[84,W.short],λ q=>?_];rw[34,W.want]
 ·rintro⟨g,b,P⟩;rw[29,g,b];rcases(vZ x least row q).mp P with⟨m,r,a,rfl⟩|h
  ·have d:=jS.mp g;rcases c with z|z;·have:=d.2.1;simp at this z;omega
   ·rw[8,⟨r,by rw[75],[aB,b]⟩,z m a (d.2.2.1 m [al])]
  ·exact h
 ·rintro⟨g,b,P⟩;rw[1,g,b,(vZ x least row q).mpr (.inr P)]
theorem Walk.over(W:[Oy,[],least])(c:[Ri,w,[m]]):∀q,¬iq q:=λ q D=>by obtain⟨g,a,m,r,rfl,h⟩:=(W.want q).mp D;exact c m h ((jS.mp g).2.2.1 m [al]) ⟨r,g,a⟩
end
end Vs
end
section
namespace Vs
structure Bl where
 place:Nat
 count:Nat
abbrev pG:=List Bl
structure Sep(ks:pG):Prop where
 pos:[Dd,1≤k.count]
 sep:∀(i j:Nat)(a b:Bl),([md]=Z a→ks[j]?=Z b→i<j→a.place+a.count≤b.place)
theorem Sep.uniq{ks:pG}(S:Sep ks){i j b:Nat}{x y:Bl}(A:[md]=Z x)(a:ks[j]?=Z y)(g:x.place≤b)(r:b<[sG])(P:y.place≤b)(w:b<y.place+y.count):i=j:=by
 rcases R9 i j with h|h|h;·rw[10,S.sep i j x y A a h]
 ·exact h
 ·rw[10,S.sep j i y x a A h]
structure IsT(ks:pG)(T:Nat)(t:bx):Prop where
 bit:∀b,T.testBit b=true↔∃i x,[md]=Z x∧x.place≤b∧b<x.place+t i
 le:∀i x,[md]=Z x→t i≤x.count
 out:∀i,ks.length≤i→t i=0
structure l6(ks:pG)(N:Nat)(c:bx):Prop where
 bit:∀b,N.testBit b=true↔∃i x,[md]=Z x∧0<c i∧b+c i=[sG]
 le:∀i x,[md]=Z x→c i≤x.count
 out:∀i,ks.length≤i→c i=0
theorem IsT.zero(ks:pG):IsT ks 0 λ _=>0:=⟨λ b=>by
 rw[34,Se];·intro h;cases h
 ·rintro⟨i,x,_,g,r⟩;omega,λ _ _ _=>b7 _,[Cy]⟩
theorem l6.zero(ks:pG):l6 ks 0 λ _=>0:=⟨λ b=>by
 rw[34,Se];·intro h;cases h
 ·rintro⟨i,x,_,g,_⟩;omega,λ _ _ _=>b7 _,[Cy]⟩
theorem tW(i b:Nat):[tY,2^i,b]↔b=i:=by rw[19,Nat.testBit_two_pow];exact eq_comm
theorem Cr{p q:Nat}(h:p≤q)(b:Nat):[tY,2^q-2^p,b]↔p≤b∧b<q:=by
 have e:2^q-2^p=(2^(q-p)-1)*2^p:=by rw[Nat.sub_mul,Nat.one_mul,←Nat.pow_add];congr 2;omega
 rw[e,Jr,Nat.testBit_two_pow_mul,Nat.testBit_two_pow_sub_one];rw[18]
def bS(x:Bl):Nat:=2*2^([sG]-1)-2^x.place
theorem KZ{x:Bl}(h:1≤x.count):bS x=2^[sG]-2^x.place:=by unfold bS;rw[50,[sG]=([sG]-1)+1];rw[this,vJ,Bt,Jr]
theorem Ct{x:Bl}(h:1≤x.count)(b:Nat):[tY,bS x,b]↔x.place≤b∧b<[sG]:=[ar,KZ h,Cr [ac] b]
theorem tX{a b:Nat}(h:∀i,a.testBit i=true↔b.testBit i=true):a=b:=RU λ i=>by have:=h i;cases e:a.testBit i<;>cases f:b.testBit i<;>simp_all
theorem jb(a b i:Nat):[tY,a&&&b,i]↔a.testBit i=true∧b.testBit i=true:=by rw[19,Ji]
theorem zl(a b i:Nat):[tY,a|||b,i]↔a.testBit i=true∨b.testBit i=true:=by rw[19,Nat.testBit_or]
theorem zm{a:Nat}:a=0↔∀i,¬a.testBit i=true:=by
 rw[7];·rintro rfl i;simp
 ·intro h;exact tX λ i=>⟨(λ z=>[e9,z,h i]),λ z=>by simp at z⟩
theorem K0{a b:Nat}(h:a&&&b=0):a+b=a|||b:=by
 have T:a+b<2^(a+b+1):=SJ (Nat.lt_two_pow_self) (Br [bd] [ac]);have e:BitVec.ofNat (a+b+1) a&&&BitVec.ofNat (a+b+1) b=0#(a+b+1):=by apply BitVec.eq_of_toNat_eq;rw[BitVec.toNat_and,IW,IW,BD [ac],BD [ac],h];simp
 have:=ed BitVec.toNat (BitVec.add_eq_or_of_and_eq_zero _ _ e);rw[BitVec.toNat_add,BitVec.toNat_or,IW,IW,BD (a:=a) [ac],BD (a:=b) [ac],BD T]at this;rw[58]
section
variable{ks:pG}(S:Sep ks)
include S
theorem K1{T:Nat}{t:bx}(Y:IsT ks T t){i:Nat}{x:Bl}(A:[md]=Z x):T&&&bS x=2^(x.place+t i)-2^x.place:=by
 have R:=S.pos x (bt A);refine tX λ b=>?_
 rw[jb,Ct R,Y.bit,Cr [ac]];rw[7];·rintro⟨⟨j,y,a,g,r⟩,P,w⟩;have:=Y.le j y a;have e:=S.uniq a A g [ac] P w;subst e;rw[A]at a;cases a;rw[0,g,r]
 ·rintro⟨g,r⟩;have:=Y.le i x A;rw[1,⟨i,x,A,g,r⟩,g,[ac]]
theorem T5{T:Nat}{t:bx}(Y:IsT ks T t){i:Nat}{x:Bl}(A:[md]=Z x):(T&&&bS x)+2^x.place=2^(x.place+t i):=by rw[K1 S Y A];have:2^x.place≤2^(x.place+t i):=[PB];omega
theorem K2{T:Nat}{t:bx}(Y:IsT ks T t){i:Nat}{x:Bl}(A:[md]=Z x)(s:t i<x.count):IsT ks (T|||((T&&&bS x)+2^x.place)) (dn t i (t i+1)):=by
 rw[13,T5 S Y A,⟨λ b=>?_,λ j y a=>?_,λ j U=>?_⟩]
 ·rw[zl,Y.bit,tW];rw[7]
  ·rintro(⟨j,y,a,g,r⟩|rfl)
   ·rw[30,j,i];·subst e;rw[9,j,y,a,g,[gL,hJ]]
    ·rw[9,j,y,a,g,[ar,gL e,r]]
   ·rw[9,i,x,A,[ac],[gL,hJ]]
  ·rintro⟨j,y,a,g,r⟩;rw[30,j,i];·subst e;rw[hJ]at r;rw[A]at a;cases a;by_cases z:b=x.place+t j;rw[2,.inr z,.inl ⟨j,x,A,g,[ac]⟩]
   ·rw[gL e]at r;rw[21,⟨j,y,a,g,r⟩]
 ·rw[30,j,i];·subst e;rw[hJ];rw[A]at a;rw[6,a,s]
  rw[11,gL e,Y.le j y a]
 ·have:j≠i:=by rw[52];rw[sQ U]at A;cases A
  rw[4,gL this,Y.out j U]
theorem T6{T:Nat}{t:bx}(Y:IsT ks T t){i:Nat}{x:Bl}(A:[md]=Z x):T&&&bS x=bS x↔t i=x.count:=by
 have R:=S.pos x (bt A);rw[K1 S Y A,KZ R];have X:=Y.le i x A;rw[7];·intro h;refine kT [zr];have l:2^(x.place+t i)<2^[sG]:=Br [bd] [ac];have e:2^x.place≤2^(x.place+t i):=[PB];omega
 ·intro h;rw[h]
theorem T7{N:Nat}{c:bx}(v:l6 ks N c){i:Nat}{x:Bl}(A:[md]=Z x):[CF,N&&&bS x,c i=0,0,2^([sG]-c i)]:=by
 have R:=S.pos x (bt A);have X:=v.le i x A;have n:∀b,[tY,N&&&bS x,b]↔0<c i∧b=[sG]-c i:=λ b=>by
  rw[jb,Ct R,v.bit];rw[7];·rintro⟨⟨j,y,a,g,r⟩,P,w⟩;have:=v.le j y a;have e:=S.uniq a A [ac] [ac] P w;subst e;rw[A]at a;cases a;rw[0,g,[ac]]
  ·rintro⟨g,rfl⟩;rw[1,⟨i,x,A,g,[ac]⟩,[ac],[ac]]
 by_cases h0:c i=0;rw[40,aI h0,zm.mpr λ b K=>by rw[10,(n b).mp K],aD h0,tX λ b=>by
  rw[n,tW];rw[7];exact λ h=>h.2
  exact λ h=>⟨[ac],h⟩]
theorem T8{N:Nat}{c:bx}(v:l6 ks N c){i:Nat}{x:Bl}(A:[md]=Z x)(s:c i<x.count):l6 ks (N-(N&&&bS x)+[Pe,N&&&bS x,2^([sG]-1)]) (dn c i (c i+1)):=by
 have R:=S.pos x (bt A);have f:[Pe,N&&&bS x,2^([sG]-1)]=2^([sG]-(c i+1)):=by
  rw[T7 S v A];by_cases h0:c i=0;·rw[aI h0,aD [al],h0]
  ·rw[aD h0,aI (g9 (Nat.pow_pos [bd]))];rw[50,[sG]-c i=[sG]-(c i+1)+1];rw[this,vJ,Nat.mul_div_cancel _ [bd]]
 rw[f];have sub:∀b,[tY,N-(N&&&bS x),b]↔N.testBit b=true∧¬(x.place≤b∧b<[sG]):=λ b=>by
  have e:N-(N&&&bS x)=N^^^(N&&&bS x):=by
   have g:(N&&&bS x)+(N^^^(N&&&bS x))=N:=by
    have q:=RU (x:=(N&&&bS x)|||(N^^^(N&&&bS x))) (y:=N) λ j=>by simp only[Nat.testBit_or,Sk,Ji];cases N.testBit j<;>cases((bS x).testBit j)<;>rfl
    have d:(N&&&bS x)&&&(N^^^(N&&&bS x))=0:=RU λ j=>by simp only[Ji,Sk,Se];cases N.testBit j<;>cases((bS x).testBit j)<;>rfl
    rw[K0 d,q]
   omega
  rw[e,Sk,Ji];have K:=Ct R b;cases g:N.testBit b<;>cases r:((bS x).testBit b)<;>simp[r]at K⊢<;>omega
 have t:¬[tY,N-(N&&&bS x),[sG]-(c i+1)]:=λ h=>by rw[10,(sub _).mp h]
 have k:N-(N&&&bS x)+2^([sG]-(c i+1))=(N-(N&&&bS x))|||2^([sG]-(c i+1)):=by
  have d:(N-(N&&&bS x))&&&2^([sG]-(c i+1))=0:=zm.mpr λ b K=>by rw[jb,tW]at K;obtain⟨g,rfl⟩:=K;exact t g
  exact K0 d
 rw[13,k,⟨λ b=>?_,λ j y a=>?_,λ j U=>?_⟩]
 ·rw[zl,sub,v.bit,tW];rw[7]
  ·rintro(⟨⟨j,y,a,g,r⟩,P⟩|rfl)
   ·rw[30,j,i];·subst e;rw[A]at a;cases a;rw[10,v.le j x A]
    ·rw[9,j,y,a,[ar,gL e,g],[ar,gL e,r]]
   ·rw[9,i,x,A,[gL,hJ],[gL,hJ]]
  ·rintro⟨j,y,a,g,r⟩;rw[30,j,i];·subst e;rw[hJ]at g r;rw[A]at a;rw[6,a,.inr [ac]]
   ·rw[gL e]at g r;refine .inl ⟨⟨j,y,a,g,r⟩,λ⟨P,w⟩=>?_⟩;rw[45,v.le j y a,e (S.uniq a A [ac] [ac] P w)]
 ·rw[30,j,i];·subst e;rw[hJ];rw[A]at a;rw[6,a,s]
  rw[11,gL e,v.le j y a]
 ·have:j≠i:=by rw[52];rw[sQ U]at A;cases A
  rw[4,gL this,v.out j U]
theorem T9{T N:Nat}{t c:bx}(Y:IsT ks T t)(v:l6 ks N c):N&&&T=0↔∀i x,[md]=Z x→0<c i→c i+t i≤x.count:=by
 rw[34,zm]
 ·intro h i x A V;refine vA λ z=>h ([sG]-c i) ?_
  have:=v.le i x A;rw[jb,v.bit,Y.bit];rw[37,⟨i,x,A,V,[ac]⟩,i,x,A,[ac],[ac]]
 ·intro h b K;rw[jb,v.bit,Y.bit]at K;obtain⟨⟨i,x,A,g,r⟩,j,y,a,P,w⟩:=K;have m:=v.le i x A;have d:=Y.le j y a;have e:=S.uniq A a [ac] [ac] P [ac];subst e;rw[A]at a;cases a;rw[10,h i x A g]
theorem Cu{A B:Nat}{a b:bx}(O:IsT ks A a)(f:IsT ks B b):A&&&B=A↔∀i,a i≤b i:=by
 rw[7];·intro h i;cases c:[md]with|none=>rw[4,O.out i (List.getElem?_eq_none_iff.mp c),b7 _]|some x=>refine vA [zr];have m:=O.le i x c;have g:A.testBit (x.place+b i)=true:=((O.bit _).mpr ⟨i,x,c,[ac],[ac]⟩);rw[←h,jb,f.bit]at g;obtain⟨_,j,y,d,P,w⟩:=g;have K:=f.le j y d;have Q:=f.le i x c;have e:=S.uniq d c P [ac] [ac] [ac];subst e;rw[95,c];omega
 ·intro h;refine tX λ q=>?_
  rw[jb,O.bit,f.bit];rw[7];·exact λ z=>z.1
  ·rintro⟨i,x,c,g,r⟩;rw[37,⟨i,x,c,g,r⟩,i,x,c,g,by rw[10,h i]]
end
end Vs
end
section
namespace Vs
open Kgz1(Measure)
structure Kd where
 nums:[ak]
 sh:Shape
 size:Nat
 place:Nat
 count:Nat
def Kd.bl(k:Kd):Bl:=⟨k.place,k.count⟩
def dr(ks:List Kd):pG:=ks.map Kd.bl
def cF(ks:List Kd):bx:=λ i=>[E6,[md],k,k.count,0]
def b0(ks:List Kd):bx:=λ i=>[E6,[md],k,k.size,0]
structure zo(ks:List Kd)(most:Nat):Prop where
 sep:Sep (dr ks)
 most:most≤12
 bC:[Dd,k.count≤64]
 size:[Dd,k.size≤24]
theorem pH{ks:List Kd}{i:Nat}{x:Bl}(h:(dr ks)[i]?=Z x):∃k,[md]=Z k∧x=k.bl:=by unfold dr at h;rw[cJ]at h;cases e:[md]with|none=>rw[44,e]|some k=>rw[44,e];rw[22,k,J]
theorem iF{ks:List Kd}{i:Nat}{k:Kd}(h:[md]=Z k):(dr ks)[i]?=Z k.bl:=by unfold dr;rw[cJ,h];rfl
theorem qV{ks:List Kd}{i:Nat}{k:Kd}(h:[md]=Z k):cF ks i=k.count:=by unfold cF;rw[h]
theorem T_{ks:List Kd}{i:Nat}{k:Kd}(h:[md]=Z k):b0 ks i=k.size:=by unfold b0;rw[h]
theorem Ua{ks:List Kd}{most:Nat}(K:zo ks most)(i:Nat):cF ks i≤64:=by unfold cF;cases e:[md]with|none=>exact b7 _|some k=>exact K.bC k (bt e)
theorem Ub{ks:List Kd}{T:Nat}{t:bx}(h:IsT (dr ks) T t)(i:Nat):t i≤cF ks i:=by cases e:[md]with|none=>rw[4,h.out i (by unfold dr;rw[4,aC,List.getElem?_eq_none_iff.mp e]),b7 _]|some k=>rw[4,qV e,h.le i _ (iF e)]
theorem K3{ks:List Kd}(S:Sep (dr ks)){T N:Nat}{t:bx}{cs:[ak]}(Y:IsT (dr ks) T t)(v:l6 (dr ks) N λ k=>[qU])(O:∀k∈cs,[zm,k]):N&&&T=0↔¬eF (cF ks) cs t:=by
 rw[34,T9 S Y v];·rintro h⟨k,C,s⟩;have Q:=O k C;have e:=bX Q;have:=h k _ (iF e) (List.count_pos_iff.mpr C);rw[qV e]at s;rw[8,this,by rw[20,¬_≤(ks[k]).count]]
 ·intro h i x A V;obtain⟨k,C,rfl⟩:=pH A;rw[57,vA (λ z=>h ⟨i,List.count_pos_iff.mp V,?_⟩),qV C,z]
structure GC where
 cs:[ak]
 jw:Nat
 b:bx
 l:Nat
 r:Nat
structure GL where
 taken:Nat
 words:Nat
 size:Nat
 b:bx
 l:Nat
 r:Nat
structure GK where
 c0:Bool
 steps:List (Nat×a8)
 cs:List GC
 ls:List GL
section
variable(m:Measure)(ks:List Kd)
def shapeAt(i:Nat):Shape:=[E6,[md],k,k.sh,(0,[])]
def oz(L:a8)(cs:[ak]):Prop:=(∀k∈cs,[zm,k])∧pE m L (cs.map (shapeAt ks))
def cM(c0:Bool)(s:List (Nat×a8)):[AC,Nat]|[]=>c0=true|k::r=>∃t,(k,t)∈s∧[zm,k]∧oz m ks t r
def iV(ks:List Kd)(most:Nat)(t:bx)(l r:Nat):Prop:=∃e x,bZ ks.length t+e+l=most∧r+mW (b0 ks) ks.length t+x=256∧x≤24*e
structure Cv(most:Nat)(c0:Bool)(s:List (Nat×a8))(g:GC):Prop where
 comp:cM m ks c0 s g.cs
 jw:l6 (dr ks) g.jw λ k=>g.cs.count k
 at_:KA (cF ks) (b0 ks) ks.length g.cs g.b g.l g.r
structure v_(most:Nat)(c0:Bool)(s:List (Nat×a8))(g:GL):Prop where
 taken:IsT (dr ks) g.taken g.b
 pI:∀cs,(cM m ks c0 s cs→([Dk,g.words])→cg (b0 ks) cs≤g.size→eF (cF ks) cs g.b)
 words:g.l≤g.words
 size:g.r≤g.size
 zp:g.words≤1000∧g.size≤1000
 at_:Ci (cF ks) (b0 ks) (cM m ks c0 s) ks.length g.b g.l g.r
 Uc:iV ks most g.b g.l g.r
structure jc(most:Nat)(g:GK):Prop where
 comps:∀c∈g.cs,Cv m ks most g.c0 g.steps c
 qW:∀c∈g.ls,v_ m ks most g.c0 g.steps c
 Cw:g.cs.Pairwise λ p q=>(p.l=q.l→p.cs.length≤q.l→cg (b0 ks) p.cs≤q.r→eF (cF ks) p.cs q.b)
 apart:g.ls.Pairwise λ p q=>¬(p.b=q.b∧p.l=q.l∧p.r=q.r)
 done:g.c0=true→∃c,c∈g.cs∧c.cs=[]
end
variable{m:Measure}{ks:List Kd}{most:Nat}
theorem jc.Cy{g:GK}(K:zo ks most)(G:jc m ks most g):g.cs.length≤2105087:=TM (λ c:GC=>c.cs) (λ c=>c.b) (λ c=>c.l) (λ c=>c.r) g.cs (Ua K) (λ c V=>(G.comps c V).at_) G.Cw
theorem jc.K4{g:GK}(K:zo ks most)(G:jc m ks most g):g.ls.length≤10653299:=by
 have nd:∀l:List GL,l.Pairwise (λ p q=>¬(p.b=q.b∧p.l=q.l∧p.r=q.r))→l.Nodup∧∀p∈l,∀q∈l,(p.b=q.b→p.l=q.l→p.r=q.r→p=q):=by
  intro l;induction l with
   |nil=>intro _;rw[0,kj,λ p R=>by simp at R]
   |cons a l T=>
    intro h;have S:=List.pairwise_cons.mp h;obtain⟨b,d⟩:=T S.2;rw[15,List.nodup_cons.mpr ⟨λ z=>S.1 a z [we,J,J],b⟩,λ p R q D e1 e2 B=>?_];rcases[dE,R]with e|i<;>rcases[dE,D]with j|o;·rw[e,j]
    ·rw[e]at e1 e2 B;rw[8,⟨e1,e2,B⟩,S.1 q o]
    ·rw[j]at e1 e2 B;rw[8,⟨e1.symm,e2.symm,B.symm⟩,S.1 p i]
    ·exact d p i q o e1 e2 B
 obtain⟨E,f⟩:=nd g.ls G.apart;exact Tx (bC:=cF ks) (sz:=b0 ks) (cM:=cM m ks g.c0 g.steps) (n:=ks.length) (λ c:GL=>c.b) (λ c=>c.l) (λ c=>c.r) g.ls K.most E f λ c V=>⟨(G.qW c V).at_,(G.qW c V).Uc⟩
structure eG(l:Nat)(g Q:GK):Prop where
 c0:Q.c0=g.c0
 steps:Q.steps=g.steps
 cs:∃a,Q.cs=g.cs++a∧∀c∈a,c.l≤l
 ls:∀c∈Q.ls,c∈g.ls∨c.l≤l
theorem eG.refl(l:Nat)(g:GK):eG l g g:=⟨J,J,[zO,[],[al]],λ c h=>[m_]⟩
theorem eG.trans{l:Nat}{d T e:GK}(a:eG l d T)(b:eG l T e):eG l d e:=by
 obtain⟨E,e1,g⟩:=a.cs;obtain⟨D,e2,r⟩:=b.cs;rw[17,b.c0.trans a.c0,b.steps.trans a.steps,⟨E++D,by rw[e2,e1,gZ],λ c V=>?_⟩,λ c V=>?_];·rcases[gM,V]with h|h;rw[2,g c h,r c h]
 ·rcases b.ls c V with h|h;rw[2,a.ls c h,.inr h]
theorem eG.mono{l l':Nat}{g Q:GK}(h:l≤l')(a:eG l g Q):eG l' g Q:=by obtain⟨E,e1,b⟩:=a.cs;rw[23,a.c0,a.steps,⟨E,e1,λ c V=>bf (b c V) h⟩,λ c V=>(a.ls c V).imp id λ z=>bf z h]
theorem jc.Ud{g0 g:GK}{c:GC}{l:Nat}(G:jc m ks most g)(j:eG l g0 g)(X:l<c.l)(V:Cv m ks most g.c0 g.steps c)(v:∀p∈g0.cs,p.cs.length≤c.l→cg (b0 ks) p.cs≤c.r→eF (cF ks) p.cs c.b):jc m ks most {g with cs:=g.cs++[c]}:=by
 rw[28,[ro],G.qW,?_,G.apart,λ h=>?_];·rw[135,R,G.comps p h];·rw[102];exact V
 ·rw[13,RN,[zO,G.Cw,λ p R q D e1 e2 B=>?_]];simp at D;subst D;obtain⟨b,e,hn⟩:=j.cs;rw[e]at R;rw[135,R,v p h e2 B];·rw[10,hn p h]
 ·obtain⟨s,a,r⟩:=G.done h;rw[1,s,lP _ a,r]
end Vs
end
section
namespace Vs
theorem Ue(a b:Nat):(2*a)&&&(2*b+1)=2*(a&&&b):=by rw[41,tX λ i=>?_,jb];cases i with|zero=>simp[yF]|succ i=>rw[nZ,nZ,nZ];rw[66,2*a/2=a,[ac],(2*b+1)/2=b,[ac]];have B:2*(a&&&b)/2=a&&&b:=[ac];rw[e1,e2,B,jb]
theorem Ug(a:Nat):(2*a+1)&&&(2*a)=2*a:=by rw[41,tX λ i=>?_,jb];cases i with|zero=>simp[yF]|succ i=>rw[nZ,nZ];rw[66,2*a/2=a,[ac],(2*a+1)/2=a,[ac]];rw[e1,e2];simp
theorem K5:∀n:Nat,n≠0→∃i,([LP,i]∧(∀j,j<i→[aw,n.testBit j])∧n=(n&&&(n-1))+2^i∧∀j,[tY,n&&&(n-1),j]↔[LP,j]∧j≠i):=by
 intro n;induction n using Nat.strongRecOn with
  |_ n T=>
   intro hn;rcases Nat.mod_two_eq_zero_or_one n with h|h
   ·obtain⟨a,rfl⟩:∃a,n=2*a:=⟨n/2,[ac]⟩;have ha:a≠0:=[ac];obtain⟨i,g,r,P,w⟩:=T a [ac] ha;have e:2*a-1=2*(a-1)+1:=[ac];rw[e,Ue];rw[28,i+1,?_,?_,?_,?_];·rw[nZ];rw[97,2*a/2=a,[ac],g]
    ·intro j U;cases j with|zero=>simp[yF]|succ j=>rw[nZ];rw[97,2*a/2=a,[ac],r j [ac]]
    ·rw[31,vJ]
    ·intro j;cases j with
      |zero=>simp[yF]
      |succ j=>
       rw[nZ,nZ];have e1:2*a/2=a:=[ac];have B:2*(a&&&(a-1))/2=a&&&(a-1):=[ac];rw[e1,B,w];rw[7];·rintro⟨x,y⟩;rw[0,x,[ac]]
       ·rintro⟨x,y⟩;rw[0,x,[ac]]
   ·obtain⟨a,rfl⟩:∃a,n=2*a+1:=⟨n/2,[ac]⟩;have e:2*a+1-1=2*a:=[ac];rw[e,Ug];rw[28,0,[bB,yF],λ j U=>[ac],[al],λ j=>?_];cases j with|zero=>simp[yF]|succ j=>rw[nZ,nZ];rw[66,2*a/2=a,[ac],(2*a+1)/2=a,[ac]];rw[e1,e2];simp
theorem Uh{n:Nat}(hn:n≠0)(h:n&&&(n-1)=0):∃i,n=2^i∧[LP,i]:=by obtain⟨i,g,_,P,_⟩:=K5 n hn;rw[h]at P;rw[1,i,[ac],g]
theorem jT{m:Type}[[DV,m]]:∀{l r:[li]},l.Nodup→(∀x∈l,x∈r)→[pQ,r.length]
 |[],_,_,_=>b7 _
 |a::l,r,hn,G=>by
  have h:=[Az,hn];have:[pQ,[fy,r.erase,a]]:=jT h.2 λ x A=>((List.mem_erase_of_ne (λ z=>h.1 [cE,z,A])).mpr (G x (cp _ A)))
  have e:=List.length_erase_of_mem (G a cq);have:0<r.length:=List.length_pos_of_mem (G a cq);rw[74,dP]
def Cz(I:[dj])(T:[ak])(B:Nat):Prop:=∃S:[ak],((∀s∈S,[KF,s])∧(∀x,B.testBit x=true↔∃s∈S,[tY,I s,x])∧(∀h∈T,h&&&B≠0)∧∀s∈S,∃h∈T,∀x,h.testBit x=true→B.testBit x=true→[tY,I s,x])
def cT(I:[dj])(S:[ak]):Nat:=S.foldl (λ a s=>a|||I s) 0
theorem K6(I:[dj]):∀(S:[ak])(a x:Nat),[tY,S.foldl (λ a s=>a|||I s) a,x]↔a.testBit x=true∨∃s∈S,[tY,I s,x]|[],a,x=>[al]|s::S,a,x=>by rw[i7,K6 I S,zl];simp[or_assoc]
theorem tY(I:[dj])(S:[ak])(x:Nat):[tY,cT I S,x]↔∃s∈S,[tY,I s,x]:=by unfold cT;rw[19,K6]
theorem jU{a b:Nat}:a&&&b≠0↔∃x,a.testBit x=true∧b.testBit x=true:=by
 rw[Ne,zm];rw[7];·intro h;apply kT;intro z;exact h λ i O=>z ⟨i,(jb a b i).mp O⟩
 ·rintro⟨x,h⟩z;exact z x ((jb a b x).mpr h)
theorem Ui{I:[dj]}{T S1 S2:[ak]}{B:Nat}(n:∀h∈T,∀s,h.testBit s=true→[tY,I s,s])(g:∀s∈S1,2^s∈T)(r:∀s∈S2,∃h∈T,h&&&cT I S1=0∧∀x d,(h.testBit x=true→d∈S2→((I d).testBit x)=true→[tY,I s,x]))(O:∀s∈S2,[KF,s])(P:∀h∈T,h&&&cT I S1=0→h&&&cT I S2≠0)(c:∀x,B.testBit x=true↔[tY,cT I S1,x]∨[tY,cT I S2,x]):Cz I T B:=by
 rw[28,S1++S2,λ s G=>?_,λ x=>?_,λ h W=>?_,λ s G=>?_];·rcases[gM,G]with k|k;rw[2,[Ck,_,g s k,tW s s,J],O s k]
 ·rw[c,tY,tY];rw[7];·rintro(⟨s,a,b⟩|⟨s,a,b⟩);rw[2,⟨s,lP _ a,b⟩,⟨s,iQ _ a,b⟩]
  ·rintro⟨s,a,b⟩;rcases[gM,a]with k|k;rw[2,[wB,s,k,b],[vn,s,k,b]]
 ·by_cases z:h&&&cT I S1=0;·obtain⟨x,a,b⟩:=jU.mp (P h W z);exact jU.mpr [Ck,x,a,c x,.inr b]
  ·obtain⟨x,a,b⟩:=jU.mp z;exact jU.mpr [Ck,x,a,c x,.inl b]
 ·rcases[gM,G]with k|k;·rw[24,_,g s k,λ x A _=>?_];have:x=s:=(tW s x).mp A;rw[65,n _ (g x k) x A]
  ·obtain⟨h,W,M,e1⟩:=r s k;rw[24,h,W,λ x A K=>?_];rcases(c x).mp K with q|q;·rw[8,M,jU.mpr ⟨x,A,q⟩]
   ·obtain⟨d,a,b⟩:=(tY I S2 x).mp q;exact e1 x d A a b
end Vs
end
section
namespace L2
open PySem PySem.Spec PyProof.Rows
inductive Tr where|num(i:Int)|txt(x:Str)|nil|cons(a r:Tr)deriving DecidableEq
def l7(b:Bool):Int:=[JP,b,0]
theorem CB{a b:Bool}(h:l7 a=l7 b):a=b:=by cases a<;>cases b<;>simp[l7]at h<;>rfl
def mZ(h:aE)(f:[AC,ae]):[d0,Tr,ae]|.num i,v=>(∃t,v=.int i t)∨∃b,v=.bool b∧i=l7 b|.txt x,v=>∃t,v=.str x t|_,v=>∃p m,v=[cX]∧h.IsTuple p m∧f m.toList
def eH(h:aE):[d0,Tr,[bu]]|.nil,U=>U=[]|.cons a r,U=>∃v B,U=v::B∧mZ h (eH h a) a v∧eH h r B|.num _,_=>False|.txt _,_=>False
def c_:Tr→Nat|.cons a r=>max (c_ a+1) (c_ r)|_=>0
theorem CD{h:aE}{p:ab}{N G:[lC]}(a:h.IsTuple p N)(b:h.IsTuple p G):N=G:=by obtain⟨o,g,_,n,r⟩:=a;obtain⟨O,P,_,q,w⟩:=b;rw[g]at P;cases P;rw[r]at w;cases w;rfl
theorem mZ.inj{h:aE}{f:[d0,Tr,[bu]]}{a b:Tr}{v:ae}(T:∀U,f a U→f b U→a=b)(g:mZ h (f a) a v)(r:mZ h (f b) b v)(F:∀i U,¬f (.num i) U)(k:∀x U,¬f (.txt x) U):a=b:=by
 have z:∀{p m q u},[b9,v=[jS,p],h.IsTuple p m,f a m.toList,v=.ref q,h.IsTuple q u→f b u.toList→a=b]:=by intro p m q u e1 l n e2 w A;rw[e1]at e2;cases e2;have:=CD l w;rw[65,T _ n A]
 cases a with
  |num i=>
   cases b with
    |num j=>rcases g with⟨t,e⟩|⟨c,e,H⟩<;>rcases r with⟨Y,d⟩|⟨s,d,o⟩<;>rw[e]at d<;>cases d<;>first|rfl|(rw[H,o])
    |txt y=>obtain⟨Y,d⟩:=r;rcases g with⟨t,e⟩|⟨c,e,H⟩<;>rw[e]at d<;>cases d
    |nil=>obtain⟨p,_,d,_⟩:=r;rcases g with⟨t,e⟩|⟨c,e,H⟩<;>rw[e]at d<;>cases d
    |cons x y=>obtain⟨p,_,d,_⟩:=r;rcases g with⟨t,e⟩|⟨c,e,H⟩<;>rw[e]at d<;>cases d
  |txt x=>obtain⟨t,e⟩:=g;cases b with|num j=>rcases r with⟨Y,d⟩|⟨s,d,o⟩<;>rw[e]at d<;>cases d|txt y=>obtain⟨Y,d⟩:=r;rw[95,e];rfl|nil=>obtain⟨p,_,d,_⟩:=r;rw[95,e]|cons _ _=>obtain⟨p,_,d,_⟩:=r;rw[95,e]
  |nil=>obtain⟨p,m,e,l,n⟩:=g;cases b with|num j=>rcases r with⟨Y,d⟩|⟨s,d,o⟩<;>rw[e]at d<;>cases d|txt y=>obtain⟨Y,d⟩:=r;rw[95,e]|nil=>rfl|cons _ _=>obtain⟨q,u,d,w,A⟩:=r;exact z e l n d w A
  |cons _ _=>obtain⟨p,m,e,l,n⟩:=g;cases b with|num j=>rcases r with⟨Y,d⟩|⟨s,d,o⟩<;>rw[e]at d<;>cases d|txt y=>obtain⟨Y,d⟩:=r;rw[95,e]|nil=>obtain⟨q,u,d,w,A⟩:=r;exact z e l n d w A|cons _ _=>obtain⟨q,u,d,w,A⟩:=r;exact z e l n d w A
theorem eH.inj{h:aE}:∀(t u:Tr)(U:[bu]),eH h t U→eH h u U→t=u|.nil,.nil,_,_,_=>J|.nil,.cons _ _,_,g,c=>by obtain⟨_,_,e,_⟩:=c;rw[35,[dA,_,[],g]]|.nil,.num _,_,_,c=>c.elim|.nil,.txt _,_,_,c=>c.elim|.cons _ _,.nil,_,g,c=>by obtain⟨_,_,e,_⟩:=g;rw[35,[dA,_,[],c]]|.cons _ _,.num _,_,_,c=>c.elim|.cons _ _,.txt _,_,_,c=>c.elim|.cons a r,.cons b q,U,g,c=>by obtain⟨v,B,e,m,n⟩:=g;obtain⟨M,j,d,K,i⟩:=c;rw[95,e];rw[mZ.inj (f:=eH h) (λ o=>eH.inj a b o) m K (λ _ _ z=>z) (λ _ _ z=>z),eH.inj r q B n i]|.num _,_,_,g,_=>g.elim|.txt _,_,_,g,_=>g.elim
theorem mZ.mono{h S:aE}{f g:[AC,ae]}{a:Tr}{v:ae}(C:[QF])(F:∀U,f U→g U)(x:mZ h f a v):mZ S g a v:=by cases a with|num i=>exact x|txt y=>exact x|nil=>obtain⟨p,m,e,t,q⟩:=x;rw[9,p,m,e,C _ _ t,F _ q]|cons _ _=>obtain⟨p,m,e,t,q⟩:=x;rw[9,p,m,e,C _ _ t,F _ q]
theorem eH.mono{h S:aE}(C:[QF]):∀(t:Tr)(U:[bu]),eH h t U→eH S t U|.nil,_,x=>x|.cons a r,_,⟨v,rest,e,l,i⟩=>⟨v,rest,e,l.mono C (λ o=>eH.mono C a o),eH.mono C r rest i⟩|.num _,_,x=>x|.txt _,_,x=>x
def K7(w:aU)(g:Int):Tr→Int|.num i=>hashInt i|.txt x=>hashStr w x|_=>g
def oA(w:aU):Tr→[bF]|.cons a r=>K7 w (JC (Bm (oA w a))) a::oA w r|_=>[]
def zq(n:Nat):Tr→Nat|.num _=>1|.txt _=>1|_=>n+1
def lj:Tr→Nat|.cons a r=>zq (lj a) a+lj r|_=>0
section
variable{prog:aY}{w:aU}{E:[aX]}
theorem Uj{b:Bool}{A:bP}{s:aq}{Q:[pF,Int]}(h:Q (hashInt (l7 b)) [vZ,1]):[im,pyHash (.bool b)]:=by
 refine PySem.W.pyHash_slot (T:="bool") J F.slot_bool_hash entry_int_hash (args_int_hash _) (beq_builtin_none _) [db] ?_;cases b;rw[2,show az _ _ (do
  ret (←mkInt 0)) _ _ s from au (JA (aW [em,_,_,h])),show az _ _ (do
  ret (←mkInt 1)) _ _ s from au (JA (aW [em,_,_,h]))]
theorem CF{t:Tr}{A:bP}{s:aq}{p:ab}{m:[lC]}{Q:[pF,Int]}(c:[NH,p,m])(d:A.units<fq)(z:∀(Q:[pF,Array Int]),((∀P:Array Int,P.toList=oA w t→Q P [vZ,lj t])→az [vY] A.in1 (forIn m.toList #[] [Tm]) Q E s))(h:Q (JC (Bm (oA w t))) [vZ,lj t+1]):[im,pyHash [cX]]:=by obtain⟨o,b,V,n,a⟩:=c;rw[43,PySem.W.pyHash_slot (T:="tuple") ⟨o,b,V⟩ F.slot_tuple_hash F.entry_tuple_hash (F.args_tuple_hash_1 _) (beq_builtin_none _) (.inr d) ?_,az _ _ (Builtin.Tuple.tupleItemsOf [cX]>>=_) _ _ s];rw[5,wpAny_tupleItemsOf b a ?_];rw[5,?_];rw[←IY];rw[43,z _ λ P K=>?_,az _ _ (retInt (Bm P.toList)) _ _ _];rw[4,K,au (JA (aW [em,_,_,h]))]
theorem zr:∀(t:Tr)(U:[bu])(A:bP)(s:aq)(b:Array Int)(Q:[pF,Array Int]),(eH s.heap t U→([Dl,c_ t])→(∀P:Array Int,P.toList=b.toList++oA w t→Q P [vZ,lj t])→[im,forIn U b [Tm]])
 |.nil,U,A,s,b,Q,x,o,h=>[ar,[dA,U,[],x],aW (h b [bB,oA])]
 |.num _,_,_,_,_,_,x,_,_=>x.elim
 |.txt _,_,_,_,_,_,x,_,_=>x.elim
 |.cons a r,U,A,s,b,Q,x,o,h=>by
  obtain⟨v,B,rfl,l,i⟩:=x;have f:c_ a+1≤c_ (.cons a r):=BH _ _;have j:c_ r≤c_ (.cons a r):=Sf _ _;rw[sY];have S:∀g:Int,(g=K7 w (JC (Bm (oA w a))) a→az [vY] A (do
   pure Jy;
   pure (n6 (b.push g))) (λ u m=>[Bk,match u with|ForInStep.done b=>pure b|n6 b=>forIn B b [Tm],Q,E,m]) E [vZ,zq (lj a) a]):=λ g n=>by rw[3,au (aW (aW ?_)),zr r B A [vZ,zq (lj a) a] (b.push g) Q i [ac] λ P K=>?_];have e:s.toks+zq (lj a) a+lj r=s.toks+lj (.cons a r):=[gL,lj];have:=h P (by rw[K,n];simp[oA]);rw[←e]at this;rw[58]
  rw[5,au ?_];cases a with|num k=>rcases l with⟨t,rfl⟩|⟨c,rfl,rfl⟩;rw[2,wpAny_pyHash_int (S _ J),Uj (S _ J)]|txt y=>obtain⟨t,rfl⟩:=l;exact wpAny_pyHash_str (S _ J)|nil=>obtain⟨p,q,rfl,F,O⟩:=l;exact CF (t:=.nil) F [ac] [Tv,.nil,q.toList] (S _ J)|cons c d=>obtain⟨p,q,rfl,F,O⟩:=l;exact CF (t:=(.cons c d)) F [ac] [Tv,.cons c d,q.toList] (S _ J)
end
section
variable{A:bP}{s:aq}
open SeqAt
theorem gh{k:Bool}{p:Prop}[Decidable p]{v u:ae}(h:pz A s v u k)(e:(k=[aN,p])):pz A s v u [aN,p]:=e▸h
theorem K8(a b:Tr)(v u:ae)(d:[Dl,c_ a+1])(k:mZ s.heap (eH s.heap a) a v)(m:mZ s.heap (eH s.heap b) b u)(T:∀(A:bP)(U o:[bu]),(([Dl,c_ a])→eH s.heap a U→eH s.heap b o→∃e:Nat→Bool,(∀j(g:j<U.length)(r:j<o.length),pz A s U[j] o[j] (e j))∧(([ul,min U.length o.length].all e&&U.length==o.length)=[aN,a=b]))):pz A s v u [aN,a=b]:=by
 have dZ:∀{p q:ab}{N G:[lC]},[b9,[NH,p,N],eH s.heap a N.toList,[NH,q,G],eH s.heap b G.toList,pz A s [cX] (.ref q) [aN,a=b]]:=by
  intro p q N G l n w h;by_cases C:p=q;·subst C;have:=CD l w;rw[65,gh (EqAt.same _) [bB,eH.inj _ _ _ n h]]
  ·obtain⟨e,g,r⟩:=T A.in1 N.toList G.toList [gL,Bz] n h;refine gh (EqAt.of_refs C (RcAt.tuples (e:=e) l w [ac] λ j z B=>?_)) ?_;·rw[105,g j [aB,z] [aB,B]]
   ·simpa using r
 cases a with
  |num i=>cases b with|num j=>rcases k with⟨t,rfl⟩|⟨c,rfl,rfl⟩<;>rcases m with⟨Y,rfl⟩|⟨f,rfl,rfl⟩;rw[2,gh (EqAt.int_int i t j Y) (by rw[19,RJ]),gh (EqAt.int_bool i t f) (by rw[RJ];simp[l7])];rw[2,gh (EqAt.bool_int c j Y) (by rw[RJ];simp[l7]),gh (EqAt.bool_bool c f) (by cases c<;>cases f<;>decide)]|txt y=>obtain⟨Y,rfl⟩:=m;rcases k with⟨t,rfl⟩|⟨c,rfl,rfl⟩;rw[2,gh (EqAt.int_str i t y Y) [al],gh (EqAt.bool_str c y Y) [al]]|nil=>obtain⟨q,G,rfl,w,h⟩:=m;rcases k with⟨t,rfl⟩|⟨c,rfl,rfl⟩;rw[2,gh (EqAt.int_tuple i t w [ac]) [al],gh (EqAt.bool_tuple c w [ac]) [al]]|cons _ _=>obtain⟨q,G,rfl,w,h⟩:=m;rcases k with⟨t,rfl⟩|⟨c,rfl,rfl⟩;rw[2,gh (EqAt.int_tuple i t w [ac]) [al],gh (EqAt.bool_tuple c w [ac]) [al]]
  |txt x=>obtain⟨t,rfl⟩:=k;rw[164,EqAt.str_int x t j Y,EqAt.str_bool x t f,gh (EqAt.str_str x t y Y) (by by_cases e:x=y<;>simp[e]),gh (EqAt.str_tuple x t w [ac]) [al]]
  |nil=>obtain⟨p,N,rfl,l,n⟩:=k;rw[164,EqAt.tuple_int j Y l [ac],EqAt.tuple_bool f l [ac],gh (EqAt.tuple_str y Y l [ac]) [al],dZ l n w h]
  |cons _ _=>obtain⟨p,N,rfl,l,n⟩:=k;rw[164,EqAt.tuple_int j Y l [ac],EqAt.tuple_bool f l [ac],gh (EqAt.tuple_str y Y l [ac]) [al],dZ l n w h]
theorem CG:∀(t u:Tr)(A:bP)(U o:[bu]),(([Dl,c_ t])→eH s.heap t U→eH s.heap u o→∃e:Nat→Bool,(∀j(c:j<U.length)(d:j<o.length),pz A s U[j] o[j] (e j))∧(([ul,min U.length o.length].all e&&U.length==o.length)=[aN,t=u]))
 |.nil,.nil,A,U,o,_,c,d=>by rw[[dA,U,[],c],[dA,o,[],d]];rw[1,λ _=>true,λ j h=>[Eh,h],[al]]
 |.nil,.cons _ _,A,U,o,_,c,d=>by rw[[dA,U,[],c]];obtain⟨_,_,rfl,_⟩:=d;rw[1,λ _=>true,λ j h=>[Eh,h],[al]]
 |.nil,.num _,_,_,_,_,_,d=>d.elim
 |.nil,.txt _,_,_,_,_,_,d=>d.elim
 |.cons _ _,.nil,A,U,o,_,c,d=>by rw[[dA,o,[],d]];obtain⟨_,_,rfl,_⟩:=c;rw[1,λ _=>true,λ j _ h=>[Eh,h],[al]]
 |.cons _ _,.num _,_,_,_,_,_,d=>d.elim
 |.cons _ _,.txt _,_,_,_,_,_,d=>d.elim
 |.num _,_,_,_,_,_,c,_=>c.elim
 |.txt _,_,_,_,_,_,c,_=>c.elim
 |.cons a r,.cons b q,A,U,o,i,c,d=>by
  have d1:c_ a+1≤c_ (.cons a r):=BH _ _;have d2:c_ r≤c_ (.cons a r):=Sf _ _;obtain⟨v,U,rfl,l,n⟩:=c;obtain⟨u,o,rfl,K,k⟩:=d;have x:pz A s v u [aN,a=b]:=K8 a b v u [ac] l K λ D N G y R w=>CG a b D N G y R w
  obtain⟨e,e1,e2⟩:=CG r q A U o [ac] n k;rw[29,λ j=>match j with|0=>[aN,a=b]|j+1=>e j,λ j B C=>?_];·cases j with|zero=>exact x|succ j=>exact e1 j [aB,B] [aB,C]
  ·have m:min (v::U).length (u::o).length=min U.length o.length+1:=by rw[74,dP]
   rw[m,RF,vG,SG];have g:(U.length+1==o.length+1)=(U.length==o.length):=by by_cases z:U.length=o.length<;>simp[z]
   simp only[dP,g];have f:((λ j=>match j with|0=>[aN,a=b]|j+1=>e j)∘Nat.succ)=e:=J;rw[f,Bool.and_assoc,e2];by_cases p:a=b<;>by_cases P:r=q<;>simp[p,P]
end
section
variable{prog:aY}{w:aU}{A:bP}{E:[aX]}{s:aq}
theorem CH{p:ab}{m:[lC]}{n:Nat}{Q:[Be,aq]}(e:[NH,p,m])(g:∀v∈m.toList,∀Q:[Be,aq],Q true s→[im,JH n v])(h:Q true s):[im,JH (n+1) [cX]]:=by
 obtain⟨o,c,V,k,a⟩:=e;have Y:(s.TypeIs [cX] "tuple"):=⟨o,c,V⟩;unfold JH;rw[5,wpAny_specialOf Y F.slot_tuple_eq.lookup ?_];rw[49,_,isInstance [cX] [Kx]>>=_];rw[5,Sv Y isSubtype_tuple_tuple ?_];simp only[Bool.not_true,ki,iE];rw[3,au (lT c a ?_),au ?_];rw[49,_,forIn m _ _];rw[←IY];refine wpAny_forIn_list _ (λ B r d=>r.1=none∧d=s∧∀v∈B,v∈m.toList) _ ?_ ?_ _ _ ⟨J,J,λ v y=>y⟩;·rintro v B r d⟨b,rfl,I⟩;rw[5,g v (I v cq) _ ?_];simp only[Bool.not_true,ki,iE];exact aW ⟨J,J,λ u i=>I u (cp _ i)⟩
 ·rintro⟨f,S⟩d⟨b,rfl,_⟩;simp only at b;subst b;exact aW h
theorem zt:∀(t:Tr)(U:[bu])(n:Nat),eH s.heap t U→c_ t≤n→∀v∈U,∀Q:[Be,aq],Q true s→[im,JH n v]
 |.nil,U,n,x,_,v,b,Q,h=>by rw[[dA,U,[],x]]at b;simp at b
 |.num _,_,_,x,_,_,_,_,_=>x.elim
 |.txt _,_,_,x,_,_,_,_,_=>x.elim
 |.cons a r,U,n,x,hn,v,b,Q,h=>by
  have d1:c_ a+1≤c_ (.cons a r):=BH _ _;have d2:c_ r≤c_ (.cons a r):=Sf _ _;obtain⟨u,B,rfl,l,i⟩:=x;rcases[dE,b]with rfl|b;·obtain⟨m,rfl⟩:∃m,n=m+1:=⟨n-1,[ac]⟩;cases a with|num k=>rcases l with⟨t,rfl⟩|⟨c,rfl,rfl⟩;rw[40,Sl _ J,aW h,Sl _ J,aW h]|txt y=>obtain⟨t,rfl⟩:=l;rw[4,Sl _ J,aW h]|nil=>obtain⟨p,e,rfl,F,O⟩:=l;exact CH F (zt .nil e.toList m O [ac]) h|cons c d=>obtain⟨p,e,rfl,F,O⟩:=l;exact CH F (zt (.cons c d) e.toList m O [ac]) h
  ·exact zt r B n i [ac] v b Q h
end
def zu(h:aE)(t:Tr)(a:ab):Prop:=c_ t≤7∧∃m,h.IsTuple a m∧eH h t m.toList
theorem zu.mono{h S:aE}{t:Tr}{a:ab}(x:zu h t a)(C:[QF]):zu S t a:=by obtain⟨d,m,F,O⟩:=x;rw[23,d,m,C _ _ F,eH.mono C _ _ O]
theorem Uk{h S:aE}{d:ab}{o:Obj}{T:Array i_}{B:Nat}(E:h.get? d=Z o)(a:[J6,T,B])(G:kq d h S):[QF]:=by
 rintro p m⟨O,i,V,n,b⟩;have l:p≠d:=by rw[52];rw[E]at i;cases i;rw[a]at b;cases b
 rw[9,O,[eY,G.2,p,l,i],V,n,b]
def qX(prog:aY)(w:aU):HeapKind prog w Tr where
 is:=zu
 hash:=λ t=>JC (Bm (oA w t))
 draws:=λ t=>lj t+1
 room:=λ A=>[Dl,16]
 inj:=λ{h a x y}c f=>by obtain⟨_,m,q,j⟩:=c;obtain⟨_,u,p,l⟩:=f;have:=CD q p;rw[65,eH.inj _ _ _ j l]
 keeps:=λ x g e G=>x.mono (Uk g e G)
 pyHash:=λ{A E s k a Q}i C h=>by obtain⟨d,m,F,O⟩:=C;exact CF (t:=k) F [ac] [Tv,k,m.toList] h
 eqBool:=λ{A E s x y a b Q}i c f h=>by obtain⟨d1,m,q,j⟩:=c;obtain⟨d2,u,p,l⟩:=f;rw[45,K8 (A:=A) (s:=s) x y [bi] (.ref b) [ac] (by cases x with|num _=>exact j.elim|txt _=>exact j.elim|nil=>rw[9,a,m,J,q,j]|cons _ _=>rw[9,a,m,J,q,j]) (by cases y with|num _=>exact l.elim|txt _=>exact l.elim|nil=>rw[9,b,u,J,p,l]|cons _ _=>rw[9,b,u,J,p,l]) λ z U o v R r=>CG x y z U o v R r,this prog w E Q h]
 quiet:=λ{A E s k a Q}C h=>by obtain⟨d,m,F,O⟩:=C;exact CH (n:=7) F (zt k m.toList 7 O d) h
end L2
end
section
namespace L2
open PySem PySem.Spec PyProof.Rows
abbrev Key:=Sum Int Str
def qY:Key→ae→Bool|.inl k,v=>Value.isInt k v|.inr x,v=>Value.isStrOf x v
def Um(w:aU):Key→Int|.inl k=>hashInt k|.inr x=>hashStr w x
theorem m6:∀{k:Key}{v:ae},qY k v=true→(∃i t,k=bY i∧v=Value.int i t)∨(∃x t,k=vQ x∧v=Value.str x t)|.inl i,v,h=>by obtain⟨t,e⟩:=Value.isInt_shape (k:=i) (v:=v) h;rw[21,[em,i,t,e]]|.inr x,v,h=>by obtain⟨t,e⟩:=Value.isStrOf_shape (x:=x) (v:=v) h;exact .inr [em,x,t,e]
theorem Uo(i:Int)(t:Tok):qY (.inl i) (.int i t)=true:=by simp[qY,Value.isInt]
theorem Up(x:Str)(t:Tok):qY (.inr x) (.str x t)=true:=by simp[qY,Value.isStrOf]
theorem Uq(a b:Int):[aN,(bY a:Key)=bY b]=(a==b):=by
 rw[30,a,b];·subst e;simp
 ·have h:¬(bY a:Key)=bY b:=λ q=>e (Sum.inl.inj q)
  rw[4,bW h,[KB,e].symm]
theorem Ur(a b:Str):[C8,(vQ a:Key)=vQ b,a=b]:=by
 rw[30,a,b];·subst e;simp
 ·have h:¬(vQ a:Key)=vQ b:=λ q=>e (Sum.inr.inj q)
  rw[bW h,bW e]
theorem Us(a:Int)(b:Str):[aw,[aN,(bY a:Key)=vQ b]]:=bW (λ q=>nomatch q)
theorem Ut(a:Str)(b:Int):[aw,[aN,(vQ a:Key)=bY b]]:=bW (λ q=>nomatch q)
def m7(prog:aY)(w:aU):PySem.KeyKind prog w Key where
 is:=qY
 hash:=Um w
 inj:=λ v a b ha K=>by
  rw[151,ha]
  ·rcases m6 K with⟨j,u,rfl,e⟩|⟨y,u,rfl,e⟩;·injection e with e1 _;rw[e1]
   ·exact nomatch e
  ·rcases m6 K with⟨j,u,rfl,e⟩|⟨y,u,rfl,e⟩;·exact nomatch e
   ·injection e with e1 _;rw[e1]
 byValue:=λ k v h=>by rcases m6 h with⟨i,t,rfl,rfl⟩|⟨x,t,rfl,rfl⟩<;>rfl
 pyHash:=λ c h=>by rw[151,c];rw[2,wpAny_pyHash_int h,wpAny_pyHash_str h]
 eqBool:=λ o c h=>by
  rw[151,o]
  ·rcases m6 c with⟨j,u,rfl,rfl⟩|⟨y,u,rfl,rfl⟩;·rw[Uq]at h;exact wpAny_eqBool_int h
   ·rw[Us]at h;exact SeqAt.EqAt.int_str i t y u _ _ _ _ h
  ·rcases m6 c with⟨j,u,rfl,rfl⟩|⟨y,u,rfl,rfl⟩;·rw[Ut]at h;exact SeqAt.EqAt.str_int x t j u _ _ _ _ h
   ·rw[Ur]at h;exact wpAny_eqBool_str h
 «strs»:=λ k x t v h=>by
  rcases m6 h with⟨i,u,rfl,e⟩|⟨y,u,rfl,e⟩;·exact nomatch e
  ·injection e with e1 _;subst e1;cases v<;>rfl
theorem Uu(prog:aY)(w:aU)(i:Int)(t:Tok):(m7 prog w).is (.inl i) (.int i t)=true:=Uo i t
theorem Uv(prog:aY)(w:aU)(x:Str)(t:Tok):(m7 prog w).is (.inr x) (.str x t)=true:=Up x t
end L2
namespace L2
open PySem PySem.Spec PyProof.Rows
inductive V where|bh|bl(b:Bool)|int(i:Int)|str(x:Str)|jd(b:Array UInt8)|qZ(b:UInt64)|ref(a:Addr)|ty(n:String)deriving DecidableEq
def bw:[d0,V,ae]|.bh,u=>u=Value.none|.bl b,u=>u=pl b|.int i,u=>∃t,u=Value.int i t|.str x,u=>∃t,u=Value.str x t|.jd b,u=>∃t,u=Value.bytes b t|.qZ b,u=>∃t,u=SK b t|.ref a,u=>u=[jS,a]|.ty n,u=>u=SS n
abbrev be:[d0,[aK],[bu]]:=Paired bw
theorem be.length{N:[aK]}{W:[bu]}(r:be N W):N.length=W.length:=[DO,r]
theorem be.get:∀{N:[aK]}{W:[bu]}{i:Nat}{x:V},be N W→N[i]?=Z x→∃u,W[i]?=Z u∧bw x u|_,_,_,_,.nil,e=>by simp at e|_,_,0,_,.cons r _,e=>by simp at e;subst e;rw[22,_,r]|_,_,i+1,x,.cons _ t,e=>by obtain⟨u,g,a⟩:=be.get (i:=i) (x:=x) t [aB,e];rw[1,u,by rw[75],a]
theorem be.append:∀{N G:[aK]}{W o:[bu]},be N W→be G o→be (N++G) (W++o)|_,_,_,_,.nil,s=>s|_,_,_,_,.cons r t,s=>(.cons r (be.append t s))
theorem be.take:∀{N:[aK]}{W:[bu]}(n:Nat),be N W→be (N.take n) (W.take n)|_,_,0,_=>.nil|_,_,_+1,.nil=>.nil|_,_,n+1,.cons r t=>(.cons r (be.take n t))
theorem be.drop:∀{N:[aK]}{W:[bu]}(n:Nat),be N W→be (N.drop n) (W.drop n)|_,_,0,r=>r|_,_,_+1,.nil=>.nil|_,_,n+1,.cons _ t=>be.drop n t
def ir:[d0,[j4,V],[j4,ae]]|Z v,Z u=>bw v u|none,none=>True|_,_=>False
def KV{c:Type}:[d0,List (c×V),List (c×ae)]:=Paired λ(p:c×V)(q:c×ae)=>p.1=q.1∧bw p.2 q.2
def kV:Key→V|.inl i=>.int i|.inr x=>.str x
inductive HO where|aj(xs:[aK])|tup(xs:[aK])|dK(kvs:[mh])|dT(kvs:[lk])|set(S:Int→Bool)(n:Nat)|ins(C dx:Addr)(fs:[gj,V])|own(x:Addr)|xd(fs:[gj,V])|met(f x:Addr)|zw(lo hi:Int)|iG(o:Obj)(u:HO)|je(ps:Array Value)|ext(φ:Heap→Prop)
abbrev Hp:=ab→[j4,HO]
def ag(H:Hp)(a:ab)(o:HO):Hp:=λ b=>[um,b=a,Z,o,H b]
theorem aw{H:Hp}{a:ab}{o:HO}:ag H a o a=Z o:=by unfold ag;rw[aI J]
theorem ar{H:Hp}{a b:ab}{o:HO}(h:b≠a):ag H a o b=H b:=by unfold ag;rw[aD h]
theorem iW{H:Hp}{a:ab}{o u:HO}:ag (ag H a o) a u=ag H a u:=by funext b;unfold ag;split<;>rfl
theorem cE{H:Hp}{a b:ab}{o u:HO}(h:H a=Z o)(S:H b=Z u)(d:o≠u):a≠b:=by intro e;subst e;rw[h]at S;exact d [dF,S]
theorem aX{H:Hp}{a b:ab}{o:HO}(h:H a=Z o)(S:H b=none):a≠b:=by intro e;subst e;rw[h]at S;cases S
def K9:V→Bool|.str _=>true|_=>false
def dD:V→Bool|.bl _=>true|_=>false
def l8:[fQ,V,Bool]|[_,b]=>! dD b|[_,a,b]=>! dD a&&! dD b|[a,b,c,d]=>! dD a&&! dD b&&! dD c&&(dD d==K9 c)|_=>true
def K_(N:[aK]):Prop:=[CW,aQ]∧l8 N=true
def l9(H:Hp)(f:[AC,V]):[d0,Tr,V]|.num i,v=>v=.int i∨∃b,v=.bl b∧i=l7 b|.txt x,v=>v=.str x|_,v=>∃p N,v=[cX]∧H p=Z (.tup N)∧f N
def eI(H:Hp):[d0,Tr,[aK]]|.nil,U=>U=[]|.cons a r,U=>∃v B,U=v::B∧l9 H (eI H a) a v∧eI H r B|.num _,_=>False|.txt _,_=>False
def eZ(H:Hp)(t:Tr)(a:ab):Prop:=c_ t≤7∧∃N,H a=Z (.tup N)∧eI H t N
theorem l9.mono{H m:Hp}{f g:[AC,V]}{a:Tr}{v:V}(c:[Mj,m])(F:∀U,f U→g U)(x:l9 H f a v):l9 m g a v:=by cases a with|num i=>exact x|txt y=>exact x|nil=>obtain⟨p,N,e,t,q⟩:=x;rw[9,p,N,e,c _ _ t,F _ q]|cons _ _=>obtain⟨p,N,e,t,q⟩:=x;rw[9,p,N,e,c _ _ t,F _ q]
theorem eI.mono{H m:Hp}(F:[Mj,m]):∀(t:Tr)(U:[aK]),eI H t U→eI m t U|.nil,_,x=>x|.cons a r,_,⟨v,rest,e,l,i⟩=>⟨v,rest,e,l.mono F (λ o=>eI.mono F a o),eI.mono F r rest i⟩|.num _,_,x=>x|.txt _,_,x=>x
theorem eZ.mono{H m:Hp}{t:Tr}{a:ab}(x:eZ H t a)(F:[Mj,m]):eZ m t a:=by obtain⟨d,N,e,i⟩:=x;rw[23,d,N,F _ _ e,eI.mono F _ _ i]
section
variable(P:aY)(w:aU)
def cU(H:Hp)(h:aE)(a:ab):HO→Prop|.aj N=>[CW,aQ]∧∃(m:[bu])(n:Nat),be N m∧[ry]=Z [Kg,.seq m.toArray n]|.tup N=>K_ N∧∃m:[bu],be N m∧IsTup h a m.toArray|.dK Y=>[AU,aQ]∧[To]|.dT Y=>[AU,aQ]∧[Ct,a]∧∃N:List (Tr×ab×ae),(Paired (λ(p:Tr×V)(q:Tr×ab×ae)=>p.1=q.1∧eZ H p.1 q.2.1∧bw p.2 q.2.2) Y N)∧∃o T B,[bn,[ry]=Z o,o.ExactDict,[J6,T,B],T.toList=N.map (entryOfKey (qX P w)),(N.map (·.1)).Nodup]|.set S n=>h.SetOf (intKind P w) a S n|.ins C W fs=>[bn,H W=Z (.own a),fs.length≤1000,W≠a,[ry]=Z (sW C W),∃s,h.Ns1 W s∧(∀f,ir (fs.lookup f) (s f))∧SE s (fs.map (·.1))]|.own _=>∃o,[ry]=Z o|.xd fs=>∃s,h.Ns1 a s∧∀f,ir (fs.lookup f) (s f)|.zw c O=>∃t u v,[ry]=Z [Ic,"range",[NR,c]]|.iG o u=>[ry]=Z o∧cU H h a u|.je b=>[ry]=[OP,b]|.met f x=>[ry]=Z (R1 [dS] (.ref x))|.ext j=>j h∧(∃o,[ry]=Z o)∧∀g r:aE,j g→(∀o,g.get? a=Z o→r.get? a=Z o)→j r
def di(H:Hp)(h:aE):Prop:=∀a o,H a=Z o→cU P w H h a o
end
section
variable{P:aY}{w:aU}{H H':Hp}{h h':aE}{a:ab}{o:HO}
theorem cU.lt(x:cU P w H h a o):a<h.objs.size:=by cases o with|aj N=>obtain⟨_,_,_,_,e⟩:=x;exact bR e|tup N=>obtain⟨_,_,_,p⟩:=x;exact p.lt|dK Y=>obtain⟨_,_,_,_,o,_,_,e,_⟩:=x;exact bR e|dT Y=>obtain⟨_,_,_,_,o,_,_,e,_⟩:=x;exact bR e|set S n=>obtain⟨o,_,_,_,e,_⟩:=x;exact bR e|ins C W fs=>obtain⟨_,_,_,e,_⟩:=x;exact bR e|own y=>obtain⟨_,e⟩:=x;exact bR e|xd fs=>obtain⟨_,⟨_,_,_,e,_⟩,_⟩:=x;exact bR e|zw c O=>obtain⟨_,_,_,e⟩:=x;exact bR e|iG i u=>obtain⟨e,_⟩:=x;exact bR e|je V=>exact bR [dA,[ry],Z _,x]|met f y=>exact bR [dA,[ry],Z _,x]|ext j=>obtain⟨_,⟨_,e⟩,_⟩:=x;exact bR e
theorem Paired.dE{m d:Type}{F G:[d0,m,d]}:∀{s:[li]}{Y:List d},Paired F s Y→(∀a b,F a b→G a b)→(Paired G s Y)|_,_,.nil,_=>.nil|_,_,.cons r t,f=>(.cons (f _ _ r) [Ak,t,f])
theorem cU.l_(x:cU P w H h a o)(k:∀b u,(b=a∨H b=Z (.own a))→[jU]=Z u→[B9]=Z u)(E:∀b,H b=Z (.own a)→H' b=Z (.own a))(F:[Mj,H']):cU P w H' h' a o:=by induction o with|aj N=>obtain⟨z,m,n,r,e⟩:=x;rw[9,z,m,n,r,[Ei]]|tup N=>obtain⟨z,m,r,j,e,c⟩:=x;rw[37,z,m,r,j,[Ei],c]|dK Y=>obtain⟨z,y,U,r,j,i,B,e,c⟩:=x;exact⟨z,y,U,r,j,i,B,[Ei],c⟩|dT Y=>obtain⟨z,y,N,r,j,i,B,e,c⟩:=x;exact⟨z,y,N,[Ak,r,λ p q z=>⟨z.1,z.2.1.mono F,z.2.2⟩],j,i,B,[Ei],c⟩|set S n=>obtain⟨j,i,B,t,e,c⟩:=x;rw[37,j,i,B,t,[Ei],c]|ins C W fs=>obtain⟨d,z,A,e,s,⟨l,i,B,e2,c⟩,r⟩:=x;exact⟨E _ d,z,A,[Ei],s,⟨l,i,B,k _ _ (.inr d) e2,c⟩,r⟩|own y=>obtain⟨j,e⟩:=x;rw[0,j,[Ei]]|xd fs=>obtain⟨s,⟨l,i,B,e,c⟩,r⟩:=x;rw[1,s,⟨l,i,B,[Ei],c⟩,r]|zw g O=>obtain⟨t,u,v,e⟩:=x;rw[23,t,u,v,[Ei]]|iG j u T=>obtain⟨e,q⟩:=x;rw[0,[Ei],T q]|je V=>have e:[ry]=[OP,V]:=x;show h'.get? a=[OP,V];exact k a _ [db] e|met f y=>have e:[ry]=Z (R1 [dS] (.ref y)):=x;show h'.get? a=Z (R1 [dS] (.ref y));exact k a _ [db] e|ext D=>obtain⟨p,⟨o,e⟩,L⟩:=x;rw[1,L _ _ p λ o q=>k _ _ [db] q,⟨o,[Ei]⟩,L]
theorem di.lt(x:di P w H h)(e:H a=Z o):a<h.objs.size:=(x a o e).lt
theorem di.fresh(x:di P w H h)(e:h.objs.size≤a):H a=none:=by cases q:H a with|none=>rfl|some u=>rw[68,dG (x.lt q) e]
theorem di.kept(x:di P w H h)(k:[Rk]):di P w H h':=λ a o e=>[N8,x a o e,λ b u _ q=>k b u q]
theorem di.laid(x:di P w H h)(k:[Rk])(R:h.objs.size≤a)(d:cU P w (ag H a o) h' a o):di P w (ag H a o) h':=λ b u e=>by
 have hn:=x.fresh R;by_cases K:b=a;·subst K;rw[67,aw,d]
 ·rw[ar K]at e;exact((x b u e).l_ (λ c v _ q=>k c v q) (λ c q=>[b8,aX q hn,q]) λ c N q=>[b8,aX q hn,q])
end
def Rd(H:Hp)(a:ab)(u:HO):Prop:=H a=Z u∨∃o,H a=Z (.iG o u)
theorem Rd.ok{P:aY}{w:aU}{H:Hp}{h:aE}{a:ab}{u:HO}(r:Rd H a u)(x:di P w H h):cU P w H h a u:=by
 rcases r with r|⟨o,r⟩;·exact x a u r
 ·obtain⟨_,q⟩:=x a _ r;exact q
def wb:Option HO→Prop|Z (.aj _)=>True|Z (.dK _)=>True|Z (.dT _)=>True|Z (.set _ _)=>True|Z (.ins _ _ _)=>True|Z (.ext _)=>True|_=>False
section
variable{P:aY}{w:aU}{H:Hp}{h h':aE}{x e:ab}{o':HO}
theorem di.write(E:di P w H h)(m:wb (H x))(R:e=x∨H e=Z (.own x))(k:∀b u,b≠e→[jU]=Z u→[B9]=Z u)(g:∃u,h'.get? e=Z u)(d:cU P w (ag H x o') h' x o'):di P w (ag H x o') h':=λ b u q=>by
 have n:∀c y,H c=Z (.own y)→c≠x:=λ c y r z=>by subst z;rw[r]at m;exact m
 have p:∀c N,H c=Z (.tup N)→c≠x:=λ c N r z=>by subst z;rw[r]at m;exact m
 by_cases K:b=x;·subst K;rw[aw]at q;rw[6,q,d]
 ·rw[ar K]at q;by_cases f:b=e
  ·have W:H b=Z (.own x):=by
    rcases R with z|z;·rw[8,f.trans z,K]
    rw[11,f,z]
   rw[q]at W;cases W;obtain⟨v,a⟩:=g;rw[0,v,[ar,f,a]]
  ·refine(E b u q).l_ (λ c v V r=>k c v ?_ r) (λ c r=>[b8,n c b r,r]) λ c N r=>[b8,p c N r,r]
   rcases V with rfl|V;·exact f
   ·rw[52];rcases R with z|z;·exact n c b V z
    ·rw[V]at z;rw[6,z,K J]
end
structure Un(fs ex:[aT])(H m:Hp)(h S:aE):Prop where
 keep:[Ag,h.get?,H b,b∉fs→b∉ex→[iv,b]=Z o]
 slot:[Ag,h.get?,H b,b∈fs→b∉ex→∃Y,[iv,b]=[Oz,o]]
 free:[Ag,h.get?,H b,b∉ex→m b=none]
 there:[uj,h.get?,b∉ex,∃O,[iv,b]=Z O]
 dZ:[Mj,m]
 jV:∀b o u,H b=Z (.iG o u)→m b=Z (.iG o u)
 jW:∀b V,H b=Z (.je V)→∃r,m b=Z (.je (V++r))
section
variable{fs fs' ex ex':[aT]}{H H1 H2:Hp}{h h1 h2 h':aE}{a x e:ab}{o:HO}
theorem Un.any(u:Un fs ex H H1 h h1){b:ab}{i:Obj}(q:[jU]=Z i)(n:H b=none)(A:b∉ex):∃Y,h1.get? b=[Oz,i]:=by by_cases K:b∈fs;rw[2,u.slot b i q n K A,⟨i.slots,u.keep b i q n K A⟩]
theorem Un.kept(k:[Rk]):Un fs ex H H h h':=⟨λ b i q _ _ _=>k b i q,λ b i q _ _ _=>⟨i.slots,k b i q⟩,λ _ _ _ n _=>n,λ b i q _=>⟨i,k b i q⟩,λ _ _ q=>q,λ _ _ _ q=>q,λ _ V q=>⟨#[],by rw[19,q]⟩⟩
theorem Un.refl:Un fs ex H H h h:=Un.kept λ _ _ q=>q
theorem Un.laid(k:[Rk])(R:h.objs.size≤a)(hn:H a=none):Un fs ex H (ag H a o) h h' where
 keep:=λ b u q _ _ _=>k b u q
 slot:=λ b u q _ _ _=>⟨u.slots,k b u q⟩
 free:=λ b u q n _=>[b8,dY (dG (bR q) R),n]
 there:=λ b u q _=>⟨u,k b u q⟩
 dZ:=λ b N q=>[b8,aX q hn,q]
 jV:=λ b u N q=>[b8,aX q hn,q]
 jW:=λ b V q=>⟨#[],by rw[ar (aX q hn),q];simp⟩
theorem Un.write(m:wb (H x))(R:e=x∨H e=Z (.own x))(k:∀b u,b≠e→[jU]=Z u→[B9]=Z u)(d:∃u,h'.get? e=Z u):Un fs ex H (ag H x o) h h':=by
 have A:∀b,H b=none→b≠x:=λ b n z=>by subst z;rw[n]at m;exact m
 have K:∀b,H b=none→b≠e:=λ b n z=>by
  subst z;rcases R with r|r;·exact A b n r
  ·rw[n]at r;cases r
 have a:∀b u,H b=Z u→¬wb (Z u)→b≠x:=λ b u q f z=>by subst z;rw[q]at m;exact f m
 rw[47,λ b u q n _ _=>k b u (K b n) q,λ b u q n _ _=>⟨u.slots,k b u (K b n) q⟩,λ b u q n _=>[b8,A b n,n],λ b u q _=>?_,λ b N q=>[b8,a b _ q λ z=>z,q],λ b u N q=>[b8,a b _ q λ z=>z,q],λ b V q=>⟨#[],by rw[ar (a b _ q λ z=>z),q];simp⟩];by_cases c:b=e;·subst c;exact d
 ·rw[0,u,k b u c q]
end
def zx(h:aE)(H:Hp):[aT]:=([ul,h.objs.size].filter λ a=>(H a).isSome)
def m8(h:aE)(H:Hp):aE:=PySem.W.hideAll h (zx h H)
theorem Uw(h:aE)(H:Hp):(m8 h H).objs.size=h.objs.size:=PySem.W.hideAll_size _ _
theorem Ux{h:aE}{H:Hp}{b:ab}{o:Obj}(e:[jU]=Z o)(n:H b=none):(m8 h H).get? b=Z o:=PySem.W.hideAll_get _ e λ N=>by have q:(H b).isSome=true:=[E4,N].2;rw[n]at q;simp at q
theorem Uy{h:aE}{H:Hp}{b:ab}{o:Obj}(e:(m8 h H).get? b=Z o):[jU]=Z o∧H b=none:=by have f:[jU]=Z o:=PySem.W.of_hideAll (zx h H) e;rw[15,f,?_];cases q:H b with|none=>rfl|some x=>have N:b∈zx h H:=[PF,[rJ,bR f],[bB,q]];have z:(m8 h H).get? b=none:=PySem.W.hideAll_none (zx h H) N;rw[35,z]
def zy(g h:aE)(L:ab):[bH]:=[ul,h.objs.size].filterMap λ a=>if a=L∨(g.get? a).isSome=true then none else[ry].map λ o=>(a,o)
theorem Uz{g h:aE}{L a:ab}{o:Obj}(b:a≠L)(r:g.get? a=none)(P:[ry]=Z o):(a,o)∈zy g h L:=List.mem_filterMap.mpr ⟨a,[rJ,bR P],by simp[b,r,P]⟩
theorem UA{g h:aE}{L:ab}{p:(ab×Obj)}(R:p∈zy g h L):p.1≠L∧g.get? p.1=none∧h.get? p.1=Z p.2:=by
 obtain⟨b,_,e⟩:=List.mem_filterMap.mp R;split at e;·cases e
 ·rename_i hn;cases q:[jU]with|none=>rw[q]at e;simp at e|some u=>rw[q]at e;simp only[sX,RK]at e;subst e;rw[43,⟨(λ z=>hn (.inl z)),?_,q⟩,[B6]=none];cases r:[B6]with|none=>rfl|some v=>exact(hn (.inr [bB,r])).elim
theorem UB{g h:aE}{L:ab}:News g L h (zy g h L):=λ p R=>let⟨a,b,c⟩:=UA R;⟨c,a,b⟩
end L2
namespace L2
open PySem PySem.Spec PyProof.Rows
structure Mod(K:aF)(mg:[a_])(base:aE):Prop where
 tZ:K.In base
 glob:base.Ns b_ mg
 blt:∃N,base.Ns yT N∧∀x:Str,x≠"__name__"→N x=vK x
 nolimit:base.NoLimit
structure Cx where
 prog:aY
 w:aU
 K:aF
 mg:[a_]
 base:aE
 A:bP
 N:[bj]
 eV:aq
 m9:Hp
 env:Env
 outer:[wF]
 stack:[wF]
 ex:[aT]
 fn:Str→Bool
 calm:Bool
 pn:[bH]
 xe:[aX]
def dv(l:[wF]):[aT]:=l.filterMap (·.frame)
abbrev Cx.fs(X:Cx):[aT]:=dv X.outer
def q0(sc:dR)(x:Str):Prop:=[zN,x]=[wE]∨[zN,x]=[vh]∨[zN,x]=Z .free
def Loc(sc:dR)(x:Str):Prop:=[zN,x]=[wE]∨[zN,x]=[vh]
def Look(env:Env)(h:aE)(m:[a_])(x:Str)(u:ae):Prop:=(env.kindOf x=[wE]∧m x=Z u)∨((env.kindOf x=[vh]∨env.kindOf x=Z .free)∧∃c,env.cells.lookup x=Z c∧h.IsCell c (Z u))
structure Cx.Ok(X:Cx):Prop where
 mod:Mod X.K X.mg X.base
 kind:X.env.scope.kind=[B7]
 glob:X.env.globals=b_
 blt:X.env.builtins=yT
 above:[NZ,X.env.locals]
 inj:∀x y c,[zJ,x]=Z c→[zJ,y]=Z c→x=y
 has:∀x,(X.env.kindOf x=[vh]∨X.env.kindOf x=Z .free)→∃c,[zJ,x]=Z c
 t6:∀x c,X.fn x=true→[zJ,x]=Z c→[NZ,c]
 hd:X.calm=true→X.A.handled=none
 frames:X.A.frames=Z X.stack
 wc:X.stack=X.outer∨[FF]
 q_:∀b∈X.ex,[E9,b]∧[Lg,c≠b]
 bs:[Qs,[N1]=Z o∧X.m9 b=none]
 lr:X.base.objs.size≤X.eV.heap.objs.size
 t7:[Qs,b∉X.ex]
 ra:∀b∈X.ex,b∉X.fs
 jX:X.eV.heap.FunFrames X.base X.outer
 pJ:[wC,X.fs,X.m9]
structure Inv(X:Cx)(B:[bH])(w:List [dL])(H:Hp)(s:aq):Prop where
 ok:X.Ok
 os:s.os=X.eV.os
 bare:vR s.gens
 base:Un X.fs X.ex X.m9 H X.eV.heap s.heap
 loc:∃m,s.heap.Ns X.env.locals m∧∀(i:Nat)(x:Str)(v:V),(X.N[i]?=Z x→w[i]?=Z (Z v)→q0 X.env.scope x→∃u,bw v u∧Look X.env s.heap m x u)
 cell:[Lg,∃v,s.heap.IsCell c v]
 free:H X.env.locals=none
 jY:[Lg,H c=none]
 pin:∀p∈X.pn++B,[bn,[iF,p.1]=Z p.2,H p.1=none,[E9,p.1],p.1∉X.fs,∀v,p.2.data≠.cell v]
 aH:[J2,H,s.heap]
 len:w.length=X.N.length
section
variable{X:Cx}{pins:[bH]}{σ:List [dL]}{H H':Hp}{s:aq}{h':aE}
theorem Cx.Ok.UC(E:X.Ok){b:ab}{o:Obj}(e:X.base.get? b=Z o):b∉X.fs:=λ K=>by rw[98,(E.jX.mem K).1,e]
theorem Inv.bs(I:[ca]):[Qs,[rw]=Z o∧H b=none]:=λ b o e=>⟨I.base.keep b o (I.ok.bs b o e).1 (I.ok.bs b o e).2 (I.ok.UC e) (I.ok.t7 b o e),I.base.free b o (I.ok.bs b o e).1 (I.ok.bs b o e).2 (I.ok.t7 b o e)⟩
theorem Inv.bk(I:[ca]):[Qs,[rw]=Z o]:=λ b o e=>(I.bs b o e).1
theorem Inv.mod(I:[ca]):Mod X.K X.mg X.base:=I.ok.mod
theorem Inv.e9(I:[ca]):X.K.In s.heap:=I.ok.mod.tZ.keeps I.bk
theorem Inv.nolimit(I:[ca]):s.heap.NoLimit:=I.ok.mod.nolimit.keeps I.bk
theorem Inv.fr(I:[ca]):∃m,Fr X.base X.env.locals s.heap m:=let⟨m,hn,_⟩:=I.loc;⟨m,hn,I.bk,bf I.ok.lr I.ok.above⟩
theorem Inv.lt(I:[ca]):[sB,X.env.locals]:=let⟨_,hn,_⟩:=I.loc;hn.lt
theorem Inv.sz(I:[ca]):[NZ,s.heap.objs.size]:=bf I.ok.above (oa I.lt)
theorem Inv.UD(I:[ca]){a:ab}(h:[Ow,a]):a∉X.fs:=λ K=>by obtain⟨_,o,E,_⟩:=I.ok.jX.mem K;rw[68,dG (bR E) (bf I.sz h)]
theorem Inv.rb(I:[ca]):[Lg,[E9,c]]:=λ x c e z=>by obtain⟨v,o,E,a⟩:=I.cell x c e;obtain⟨m,⟨O,T,B,i,b,_⟩,_⟩:=I.loc;rw[z,i]at E;cases E;rw[b]at a;cases a
theorem Inv.jX(I:[ca]):[M6,X.base,X.outer]:=by
 have n:∀(l:[wF]),(∀b∈dv l,b∈X.fs)→X.eV.heap.FunFrames X.base l→[M6,X.base,l]:=by
  intro l;induction l with
   |nil=>intro _ _;trivial
   |cons env r T=>
    intro G a;obtain⟨C,⟨L,o,F,hn,E,c⟩,u⟩:=a;have d:L∈X.fs:=G L (by unfold dv;rw[12,yB,F,cq]);obtain⟨Y,e⟩:=I.base.slot L o E (I.ok.pJ L d) d λ z=>I.ok.ra L z d
    rw[1,C,⟨L,_,F,hn,e,c⟩,T (λ b K=>G b (by unfold dv;rw[12,yB,F,cp _ K])) u]
 exact n X.outer (λ _ K=>K) I.ok.jX
theorem Inv.stack(I:[ca]):[M6,X.base,X.stack]:=by rcases I.ok.wc with e|⟨e,F⟩;rw[11,e,I.jX];·rw[e];obtain⟨m,hn,_⟩:=I.loc;rw[69,.cons (by rw[I.ok.kind];decide) F hn ?_ I.jX,RO (bf I.ok.lr I.ok.above)]
theorem Inv.we(I:[ca]):∀b∈dv X.stack,b∈X.env.locals::X.fs:=λ b K=>by
 rcases I.ok.wc with e|⟨e,F⟩;·rw[e]at K;exact cp _ K
 ·rw[e]at K;unfold dv at K;rw[yB,F]at K;exact K
theorem Inv.wg(I:[ca]):[wC,dv X.stack,H]:=λ b K=>by rcases[dE,I.we b K]with e|K;rw[11,e,I.free];·obtain⟨_,o,E,_⟩:=I.ok.jX.mem K;exact I.base.free b o E (I.ok.pJ b K) λ z=>I.ok.ra b z K
theorem Inv.step{g':Array GenState}{t':Nat}{d':Drawn}{ch:[aT]}(I:[ca])(C:[TM])(keep:∀b o,[b9,b≠X.env.locals,b∉X.fs,b∉ch,[rw]=Z o,H b=none→[B9]=Z o])(slot:∀b o,[b9,b≠X.env.locals,b∈X.fs,b∉ch,[rw]=Z o,H b=none→∃Y,[B9]=[Oz,o]])(free:∀b o,(b∉ch→[rw]=Z o→H b=none→H' b=none))(there:∀b o,b∉ch→[rw]=Z o→∃O,[B9]=Z O)(dZ:[Mj,H'])(jV:∀b o u,H b=Z (.iG o u)→H' b=Z (.iG o u))(jW:∀b g,H b=Z (.je g)→∃P,H' b=Z (.je (g++P)))(h:∀m,s.heap.Ns X.env.locals m→h'.Ns X.env.locals m)(aH:[J2,H',h'])(j:vR g'):[mu,H',{s with heap:=h',gens:=g',drawn:=d',toks:=t'}]:=by
 have Q:[rh,[N1],[E9,b]]:=λ b o e=>dY (dG (bR e) I.ok.above)
 have M:[uj,X.eV.heap.get?,b∉X.ex,b∉ch]:=λ b o e A K=>by rcases(C b K).1 with z|z;rw[2,A z,[e9,dG (bR e) z,g8 _]]
 have G:[Lg,∀v,s.heap.IsCell c v→h'.IsCell c v]:=λ x c e v⟨o,E,f⟩=>by
  have L:c∉ch:=λ z=>(C c z).2.2.1 x c e J
  by_cases V:c∈X.fs;·obtain⟨Y,q⟩:=slot c o (I.rb x c e) V L E (I.jY x c e);rw[1,_,q,f]
  ·rw[1,o,keep c o (I.rb x c e) V L E (I.jY x c e),f]
 refine⟨I.ok,I.os,j,⟨λ b o e n K A=>?_,λ b o e n K A=>?_,λ b o e n A=>?_,λ b o e A=>?_,λ b N e=>dZ b N (I.base.dZ b N e),λ b o N e=>jV b o N (I.base.jV b o N e),λ b g e=>?_⟩,?_,λ x c e=>?_,?_,λ x c e=>?_,[ro],aH,I.len⟩;·exact keep b o (Q b o e) K (M b o e A) (I.base.keep b o e n K A) (I.base.free b o e n A)
 ·obtain⟨Y,e1⟩:=I.base.slot b o e n K A;obtain⟨y,e2⟩:=slot b _ (Q b o e) K (M b o e A) e1 (I.base.free b o e n A);rw[0,y,e2]
 ·obtain⟨O,e1⟩:=I.base.there b o e A;exact free b O (M b o e A) e1 (I.base.free b o e n A)
 ·obtain⟨O,e1⟩:=I.base.there b o e A;exact there b O (M b o e A) e1
 ·obtain⟨F,e1⟩:=I.base.jW b g e;obtain⟨t,e2⟩:=jW b _ e1;rw[0,F++t,by rw[e2,Array.append_assoc]]
 ·obtain⟨m,hn,a⟩:=I.loc;rw[24,m,h m hn,λ i x v e1 e2 B=>?_];obtain⟨u,r,l⟩:=a i x v e1 e2 B;rw[29,u,r];rcases l with l|⟨k,c,e,z⟩;rw[2,.inl l,[zQ,k,c,e,G x c e _ z]]
 ·obtain⟨v,z⟩:=I.cell x c e;rw[0,v,G x c e v z]
 ·obtain⟨m,⟨o,_,_,E,_⟩,_⟩:=I.loc;exact free _ o (λ z=>(C _ z).2.1 J) E I.free
 ·obtain⟨v,o,E,f⟩:=I.cell x c e;exact free c o (λ z=>(C c z).2.2.1 x c e J) E (I.jY x c e)
 ·obtain⟨e,n,w,D,d⟩:=I.pin p R;have L:p.1∉ch:=λ z=>(C p.1 z).2.2.2 p R J
  rw[9,keep p.1 p.2 w D L e n,free p.1 p.2 L e n,w,D,d]
theorem Inv.un{t':Nat}(I:[ca])(u:Un X.fs [] H H' s.heap h')(aH:[J2,H',h']):[Nk,H']:=by obtain⟨m,⟨o,T,B,E,r⟩,_⟩:=id I.loc;obtain⟨Y,a⟩:=u.any E I.free [al];exact I.step (g':=s.gens) (d':=s.drawn) (ch:=[]) (λ _ z=>nomatch z) (λ b o _ K _ e n=>u.keep b o e n K [al]) (λ b o _ K _ e n=>u.slot b o e n K [al]) (λ b o _ e n=>u.free b o e n [al]) (λ b o _ e=>u.there b o e [al]) u.dZ u.jV u.jW (λ S N=>by obtain⟨O,f,k,i,A⟩:=N;rw[E]at i;rw[6,i,⟨_,f,k,a,A⟩]) aH I.bare
theorem Inv.call{g':Array GenState}{t':Nat}{d':Drawn}{ch:[aT]}(I:[ca])(u:Un (dv X.stack) ch H H' s.heap h')(aH:[J2,H',h'])(j:vR g')(h:[TM]):[mu,H',{s with heap:=h',gens:=g',drawn:=d',toks:=t'}]:=by obtain⟨m,⟨o,T,B,E,r⟩,_⟩:=id I.loc;obtain⟨Y,a⟩:=u.any E I.free (λ z=>(h _ z).2.1 J);exact I.step (ch:=ch) h (λ b o a K V e n=>u.keep b o e n (λ z=>[dE,I.we b z].elim a K) V) (λ b o _ _ V e n=>u.any e n V) (λ b o V e n=>u.free b o e n V) (λ b o V e=>u.there b o e V) u.dZ u.jV u.jW (λ S N=>by obtain⟨O,f,k,i,A⟩:=N;rw[E]at i;rw[6,i,⟨_,f,k,a,A⟩]) aH j
theorem Inv.turned{t':Nat}{f:ab}(I:[ca])(k:[NM,b≠f,[B9]])(hn:H f=none)(h:[E9,f])(g:f∈X.ex∨[NZ,f])(a:[Lg,c≠f])(P:∀p∈X.pn++pins,p.1≠f):[Nk,H]:=by
 have t:∀b u,H b=Z u→b≠f:=λ b u e z=>by rw[z,hn]at e;cases e
 refine I.step (g':=s.gens) (d':=s.drawn) (ch:=[f]) [Fs] (λ b o _ _ V e _=>k b o [LE,V] e) (λ b o _ _ V e _=>⟨o.slots,k b o [LE,V] e⟩) (λ _ _ _ _ n=>n) (λ b o V e=>⟨o,k b o [LE,V] e⟩) (λ _ _ e=>e) (λ _ _ _ e=>e) (λ b d e=>⟨#[],by rw[19,e]⟩) (λ m N=>?_) (λ b u e=>?_) I.bare;·rw[55,b=f,[aB,K]];exact⟨g,h,a,P⟩
 ·obtain⟨o,T,B,E,r⟩:=N;rw[9,o,T,B,k _ o (ja h) E,r]
 ·refine[N8,I.aH b u e,λ c v V q=>k c v ?_ q];rw[144,V,t b u e,t c _ z]
theorem Inv.tok(I:[ca])(t:Nat):[mu,H,{s with toks:=t}]:=I.un (h':=s.heap) (t':=t) Un.refl I.aH
theorem Inv.kept{t':Nat}(I:[ca])(k:∀b u,[rw]=Z u→[B9]=Z u):[Nk,H]:=I.un (Un.kept k) (I.aH.kept k)
theorem Inv.laid{a:ab}{o:HO}{t':Nat}(I:[ca])(k:∀b u,[rw]=Z u→[B9]=Z u)(R:[Ow,a])(c:[Ig,H,a,o,h']):[Nk,ag H a o]:=I.un (Un.laid k R [EQ,R]) (I.aH.laid k R c)
theorem Inv.write{x e:ab}{o:HO}{t':Nat}(I:[ca])(m:wb (H x))(R:e=x∨H e=Z (.own x))(k:∀b u,b≠e→[rw]=Z u→[B9]=Z u)(h:∃u,h'.get? e=Z u)(a:[Ig,H,x,o,h']):[Nk,ag H x o]:=I.un (Un.write m R k h) (I.aH.write m R k h a)
theorem Inv.weak{b:List [dL]}(I:[ca])(a:b.length=σ.length)(w:∀(i:Nat)v,b[i]?=Z (Z v)→σ[i]?=Z (Z v)):Inv X pins b H s:=⟨I.ok,I.os,I.bare,I.base,let⟨m,hn,C⟩:=I.loc;⟨m,hn,λ i x v e1 e2 B=>C i x v e1 (w i v e2) B⟩,I.cell,I.free,I.jY,I.pin,I.aH,a.trans I.len⟩
theorem Inv.La{a:[bH]}(I:[ca])(h:∀p∈a,[bn,[iF,p.1]=Z p.2,H p.1=none,[E9,p.1],p.1∉X.fs,∀v,p.2.data≠.cell v]):Inv X a σ H s:=[Pc,I.ok,λ p R=>[gM,R].elim (λ z=>I.pin p (lP _ z)) (h p)]
theorem CI{N:[bj]}(v:N.Nodup){i j:Nat}{x:Str}(a:N[i]?=Z x)(b:N[j]?=Z x):i=j:=by obtain⟨g,e1⟩:=[L7,a];obtain⟨r,e2⟩:=[L7,b];exact(List.getElem_inj v).mp (e1.trans e2.symm)
theorem CJ{M:tF}{A:bP}{E:[aX]}{i:Nat}{x:Str}{v:V}{u:ae}{Q:[FM]}(I:[ca])(hN:X.N.Nodup)(O:X.N[i]?=Z x)(f:[Fj,Loc])(r:bw v u)(h:∀l,Inv X pins (σ.set i (Z v)) H l→(∃a,kq a s.heap l.heap∧(a=X.env.locals∨[zJ,x]=Z a))→Q () l)(hf:[OO]:=by rw[141]):az M A (storeName X.env x u) Q E s:=by
 obtain⟨m,hn,hl⟩:=id I.loc;have W:[aw,X.env.scope.kind==.class||(X.env.scope.kind==.module&&X.env.locals !=X.env.globals)]:=[hJ,I.ok.kind];have N:i<σ.length:=[ar,I.len,[eJ,O]];have rb:=I.rb;have L:∀{a:ab}{h':aE},(∃o,[iF,a]=Z o∧H a=none)→kq a s.heap h'→[J2,H,h']:=λ{a h'}ha G b ob e=>by
  obtain⟨_,_,F⟩:=ha;refine[N8,I.aH b ob e,λ c w g q=>[eY,G.2,c,?_,q]];rw[52];rcases g with rfl|g;·rw[35,F]
  ·rw[F]at g;cases g
 rcases f with C|C
 ·refine wpAny_storeName_local C hn (λ h' hn' G=>?_) W;obtain⟨oL,_,_,hoL,_⟩:=id hn;refine h _ ⟨I.ok,I.os,I.bare,⟨λ b o e n K f=>?_,λ b o e n K f=>?_,I.base.free,λ b o e f=>?_,I.base.dZ,I.base.jV,I.base.jW⟩,⟨_,hn',λ j y v' e1 e2 e3=>?_⟩,λ y c e=>?_,I.free,I.jY,[ro],L ⟨oL,hoL,I.free⟩ G,[aB,I.len]⟩ ⟨_,G,[db]⟩;·exact[mn,G,dY (dG (bR e) I.ok.above),I.base.keep b o e n K f]
  ·obtain⟨sl,e1⟩:=I.base.slot b o e n K f;rw[0,sl,[mn,G,dY (dG (bR e) I.ok.above),e1]]
  ·obtain⟨o',e1⟩:=I.base.there b o e f;rw[0,o',[mn,G,dY (dG (bR e) I.ok.above),e1]]
  ·by_cases U:j=i;·subst U;rw[O]at e1;cases e1;rw[qx N]at e2;cases e2;rw[1,u,r,.inl ⟨C,[al]⟩]
   ·rw[yA (ja U)]at e2;obtain⟨u',r',q⟩:=hl j y v' e1 e2 e3;rw[29,u',r'];rcases q with⟨k,e⟩|⟨k,c,e,z⟩
    ·refine .inl [qv,k];have:y≠x:=λ e=>U (CI hN e1 (e▸O))
     simp[this,e]
    ·exact[zQ,k,c,e,z.sameBut G (rb y c e)]
  ·obtain⟨w,z⟩:=I.cell y c e;rw[0,w,z.sameBut G (rb y c e)]
  ·obtain⟨e,n,D,nf,d⟩:=I.pin p R;rw[9,[eY,G.2,p.1,D,e],n,D,nf,d]
 ·have T:X.fn x=true:=by
   rcases hf with z|z;·exact z
   ·rw[z]at C;cases C
  obtain⟨c,g⟩:=I.ok.has x (.inl C);obtain⟨w,z⟩:=I.cell x c g;refine wpAny_storeName_cell I.ok.kind C g z (λ h' B G=>?_);obtain⟨oc,P,Y⟩:=id z;refine h [gX,h'] ⟨I.ok,I.os,I.bare,⟨λ b o e n K f=>?_,λ b o e n K f=>?_,I.base.free,λ b o e f=>?_,I.base.dZ,I.base.jV,I.base.jW⟩,⟨m,hn.sameBut G (ja (rb x c g)),λ j y v' e1 e2 e3=>?_⟩,λ y t e=>?_,I.free,I.jY,[ro],L ⟨oc,P,I.jY x c g⟩ G,[aB,I.len]⟩ ⟨c,G,.inr g⟩;·exact[mn,G,dY (dG (bR e) (I.ok.t6 x c T g)),I.base.keep b o e n K f]
  ·obtain⟨sl,e1⟩:=I.base.slot b o e n K f;rw[0,sl,[mn,G,dY (dG (bR e) (I.ok.t6 x c T g)),e1]]
  ·obtain⟨o',e1⟩:=I.base.there b o e f;rw[0,o',[mn,G,dY (dG (bR e) (I.ok.t6 x c T g)),e1]]
  ·by_cases U:j=i;·subst U;rw[O]at e1;cases e1;rw[qx N]at e2;cases e2;rw[1,u,r,[zQ,.inl C,c,g,B]]
   ·rw[yA (ja U)]at e2;obtain⟨u',r',q⟩:=hl j y v' e1 e2 e3;rw[29,u',r'];rcases q with q|⟨k,t,e,z'⟩;·rw[21,q]
    ·refine[zQ,k,t,e,z'.sameBut G ?_];rw[52];exact U (CI hN e1 (I.ok.inj _ _ _ e g▸O))
  ·by_cases S:t=c;·subst S;rw[26,B]
   ·obtain⟨w2,z2⟩:=I.cell y t e;rw[0,w2,z2.sameBut G S]
  ·obtain⟨e,n,D,nf,d⟩:=I.pin p R;rw[28,[eY,G.2,p.1,?_,e],n,D,nf,d];intro q;rw[q,P]at e;have q':oc=p.2:=[dF,e];exact d w [cE,q',Y]
theorem CN{M:tF}{A:bP}{E:[aX]}{i:Nat}{x:Str}{v:V}{u:ae}{Q:[FM]}(I:[ca])(b:X.N.Nodup)(O:X.N[i]?=Z x)(a:[Fj,Loc])(r:bw v u)(h:∀d,Inv X pins (σ.set i (Z v)) H d→Q () d)(F:[OO]:=by rw[141]):az M A (storeName X.env x u) Q E s:=CJ I b O a r (λ d S _=>h d S) F
theorem Inv.zA{d:aq}{ch:[aT]}(I:[ca])(E:d.os=s.os)(u:Un (dv X.stack) ch H H' s.heap d.heap)(aH:[J2,H',d.heap])(j:vR d.gens)(h:[TM]):[mu,H',d]:=by obtain⟨h',Q,L,Y,O⟩:=d;have e:O=s.os:=E;subst e;exact I.call (g':=Q) (t':=Y) (d':=L) u aH j h
end
abbrev XK:=ae→[wT,[ug]]
abbrev St:=List [dL]
abbrev VK:=[wT,V]
abbrev TE:=St→[Ka]
abbrev TT:=St→[d0,Hp,[Be,Hp]]
abbrev TA:=St→[d0,Hp,[wT,[aK]]]
structure Ends where
 nx:[Ce]
 rt:VK
 bk:[Ce]:=λ _ _=>False
 ct:[Ce]:=λ _ _=>False
abbrev TS:=Ends→[Ce]
def EP(X:Cx)(B:[bH])(w:St)(Q:VK)(u:ae)(d:aq):Prop:=∃v m,[DL,w,bw v u∧Q v m]
def TP(X:Cx)(B:[bH])(w:St)(Q:[Be,Hp])(b:Bool)(d:aq):Prop:=∃m,[DL,w,Q b m]
def AP(X:Cx)(B:[bH])(w:St)(Q:[wT,[aK]])(W:[bu])(d:aq):Prop:=∃U m,[DL,w,be U W∧Q U m]
def SP(X:Cx)(B:[bH])(D:Ends)(f:Flow)(d:aq):Prop:=match f with|.next=>∃a m,[DL,a,D.nx a m]|.brk=>∃a m,[DL,a,D.bk a m]|.cont=>∃a m,[DL,a,D.ct a m]|.ret u=>∃v a m,[DL,a,bw v u∧D.rt v m]
def PE(X:Cx)(e:bc)(t:TE):Prop:=[ST,VK,[rG,e],[zX]]
def PT(X:Cx)(e:bc)(t:TT):Prop:=[ST,[Be,Hp],yZ e X.env [rG,e],TP X B w Q]
def PW(X:Cx)(e:bc)(t:TT):Prop:=∀(a:Sem ae)(B:[bH])(s:aq)(w:St)(H:Hp)(Q:[Be,Hp]),(([iW])→(t w H Q→[f8,yZ e X.env a,TP X B w Q,s]))
theorem PW.pt{X:Cx}{e:bc}{t:TT}(h:PW X e t):PT X e t:=h _
def PA(X:Cx)(T:[on])(t:TA):Prop:=∀(W:Pos)(B:[bH])(s:aq)(w:St)(H:Hp)(Q:[wT,[aK]]),(([iW])→(t w H Q→[f8,spliced (g_ W [oE,T]),AP X B w Q,s]))
def PS(X:Cx)(L:a9)(t:TS):Prop:=∀(B:[bH])(s:aq)(w:St)(H:Hp)(D:Ends),(([iW])→(t D w H→[f8,exec L X.env,SP X B D,s]))
def gi(X:Cx)(L:List a9)(t:TS):Prop:=∀(B:[bH])(s:aq)(w:St)(H:Hp)(D:Ends),(([iW])→(t D w H→[f8,execs L X.env,SP X B D,s]))
theorem bj{m:Type}{t:Sem m}{Q I:[pF,m]}{M:tF}{A:bP}{E:[aX]}{s:aq}(h:az M A t Q E s)(p:∀a s,Q a s→I a s):az M A t I E s:=gG h p λ _ _ x=>x
end L2
namespace L2
open PySem PySem.Spec PyProof.Rows
section
variable{X:Cx}
def cv(i:Nat):TE:=λ w H Q=>∃v,w[i]?=Z (Z v)∧Q v H
def tC(v:V):TE:=λ _ H Q=>Q v H
theorem UE{i:Nat}{x:Str}{W:Pos}(d:X.N[i]?=Z x)(y:[Fj,q0])(b:[uk,x]:=by decide)(g:[aw,x==[PJ]]:=by decide):PE X [tW,W] (cv i):=by
 rw[76];obtain⟨v,e,h⟩:=h;obtain⟨m,hn,a⟩:=I.loc;obtain⟨u,r,l⟩:=a i x v d e y;have f:EP X B w Q u s:=⟨v,H,I,r,h⟩;rcases l with⟨C,N⟩|⟨C,c,V,n⟩;·exact yU (IZ I.ok.kind C hn N f) b
 ·rcases C with C|C;rw[2,yU (wpAny_loadName_cell I.ok.kind C V n f) b,yU (wpAny_loadName_free I.ok.kind C V n f g) b]
theorem bu{i j W}:PE X (.Constant (.int i) j W) (tC (.int i)):=λ _ _ _ H _ I h=>wpAny_Constant_int ⟨.int i,H,[tO],[rg],h⟩
theorem md{b j W}:PE X (.Constant (.bool b) j W) (tC (.bl b)):=λ _ _ _ H _ I h=>Constant_bool [lc,.bl b,H,I,h]
theorem pL{j W}:PE X (.Constant .none j W) (tC .bh):=λ _ _ _ H _ I h=>Constant_none [lc,.bh,H,I,h]
theorem fy{x j W}:PE X (.Constant (.str x) j W) (tC (.str x)):=λ _ _ _ H _ I h=>Calls.Constant_str ⟨.str x,H,[tO],[rg],h⟩
def Gl(X:Cx)(x:Str):Prop:=X.env.kindOf x=Z .globalImplicit
theorem rf{E:[aX]}{B:[bH]}{s:aq}{w:St}{H:Hp}{x:Str}{u:ae}{W:Pos}{Q:[aX]}(I:[iW])(j:Gl X x)(N:X.mg x=Z u)(h:Q u s)(a:[uk,x]:=by decide):[wJ,X.A,[rG,[tW,W]]]:=Calls.Name_function_global I.ok.kind j (Calls.loadGlobal_global [ar,I.ok.glob,I.mod.glob.keeps I.bk] N h) a
theorem m_{E:[aX]}{B:[bH]}{s:aq}{w:St}{H:Hp}{x:Str}{u:ae}{W:Pos}{Q:[aX]}(I:[iW])(j:Gl X x)(N:X.mg x=none)(y:vK x=Z u)(h:Q u s)(hn:x≠"__name__":=by decide)(a:[uk,x]:=by decide):[wJ,X.A,[rG,[tW,W]]]:=by obtain⟨b,g,r⟩:=I.mod.blt;exact Calls.Name_function_global I.ok.kind j (Calls.loadGlobal_builtin [ar,I.ok.glob,I.mod.glob.keeps I.bk] N [ar,I.ok.blt,g.keeps I.bk] [eY,r,x,hn,y] h) a
theorem b8{x:Str}{v:V}{u:ae}{W:Pos}(j:Gl X x)(N:X.mg x=Z u)(r:bw v u)(a:[uk,x]:=by decide):PE X [tW,W] (tC v):=λ _ _ _ H _ I h=>rf I j N ⟨v,H,I,r,h⟩ a
variable{a b:bc}{ta tb:TE}{pos:Pos}
def PC(X:Cx)(o:qO)(a b:bc)(t:TE):Prop:=[ST,VK,[rG,a],λ v L=>[f8,[rG,b],λ u j=>[f8,f9 o v u,[zX],j],L]]
theorem Lb(b:bc){o:qO}(h:o≠.In)(r:o≠.NotIn):[aw,tj o b]:=by rw[66,[aw,o==CmpOp.In],by cases o<;>first|rfl|rw[8,J,h],[aw,o==CmpOp.NotIn],by cases o<;>first|rfl|rw[8,J,r]];cases b<;>simp[tj,e1,e2]
def tB(t:TE):TT:=[Eo,t,∃c,x=.bl c∧Q c a]
theorem UG{o:qO}{t:TE}(h:PC X o a b t)(g:[aw,tj o b]:=by first|exact Lb _ [bd] [bd]|rfl):PE X [Ra] t:=λ B s w H Q I T=>wpAny_Compare1 (h B s w H Q I T) g
theorem CO{o:qO}{t:TE}(h:PC X o a b t)(g:[aw,tj o b]:=by first|exact Lb _ [bd] [bd]|rfl):PT X [Ra] (tB t):=by intro B s w H Q I T;refine wpAny_isTrue_Compare1 (bj (h B s w H _ I T) λ v Y g=>bj g λ u P r=>bj r λ c C⟨x,e,i,f,n⟩=>?_) g;obtain⟨d,rfl,q⟩:=n;rw[6,f,mN ⟨e,i,q⟩]
theorem iH{e:bc}{t:TE}(h:PE X e t)(R:∀c,yZ e X.env c=(do
 let v←c;
 standAt e.pos;
 tw [v] (truthy v)):=by intro _;rfl):PT X e (tB t):=by intro B s w H Q I T;refine isTrue_plain [zK,h B s w H _ I T,a,r,b,?_] (R _);obtain⟨d,rfl,q⟩:=n;rw[6,b,mN ⟨a,r,q⟩]
variable{tA tB':TT}{rest:[on]}
def Lc(t u:TT):TT:=[sw,t,λ c a=>[qe,c,u w a Q,Q false a]]
def UH(t u:TT):TT:=[sw,t,λ c a=>[qe,c,Q true a,u w a Q]]
def UI(t:TT):TT:=[sw,t,λ c a=>Q (! c) a]
theorem oB(ha:PT X a tA):[DG,PW,.And,[a],tA]:=by intro b B s w H Q I h;refine isTrue_and (bj (ha B s w H Q I h) λ c Y e=>?_);cases c with|true=>exact isTrue_and_nil e|false=>exact e
theorem pM(ha:PT X a tA):[DG,PW,.Or,[a],tA]:=by intro b B s w H Q I h;refine isTrue_or (bj (ha B s w H Q I h) λ c Y e=>?_);cases c with|false=>exact isTrue_or_nil e|true=>exact e
theorem lu(ha:PT X a tA)(K:[DG,PW,.And,b::rest,tB']):[DG,PW,.And,a::b::rest,Lc tA tB']:=by intro e B s w H Q I h;refine isTrue_and (bj (ha B s w H _ I h) λ c Y⟨d,r,n⟩=>?_);cases c with|true=>exact K e B Y w d Q r n|false=>rw[1,d,r,n]
theorem pN(ha:PT X a tA)(K:[DG,PW,.Or,b::rest,tB']):[DG,PW,.Or,a::b::rest,UH tA tB']:=by intro e B s w H Q I h;refine isTrue_or (bj (ha B s w H _ I h) λ c Y⟨d,r,n⟩=>?_);cases c with|true=>rw[1,d,r,n]|false=>exact K e B Y w d Q r n
theorem rg(ha:PT X a tA):PT X (.UnaryOp .Not a pos) (UI tA):=by rw[76];exact isTrue_not (ha B s w H (λ c b=>Q (! c) b) I h)
def Ld(ta tb:TE):TE:=[Eo,ta,∃c,x=.bl c∧[qe,c,tb w a Q,Q (.bl false) a]]
def Le(ta tb:TE):TE:=[Eo,ta,∃c,x=.bl c∧[qe,c,Q (.bl true) a,tb w a Q]]
theorem zB{o}{t:TE}(h:PE X a t):[DG,PE,o,[a],t]:=λ B s w H Q I T=>BoolOp_one (h B s w H Q I T)
theorem zC(ha:[Ca])(K:[DG,PE,.And,b::rest,tb]):[DG,PE,.And,a::b::rest,Ld ta tb]:=by rw[64,BoolOp_and [zK,ha B s w H _ I h,d,r,e,?_]];obtain⟨c,rfl,n⟩:=n;cases e;refine mN ?_;cases c with|true=>exact K B Y w d Q r n|false=>rw[9,.bl false,d,r,J,n]
theorem UJ(ha:[Ca])(K:[DG,PE,.Or,b::rest,tb]):[DG,PE,.Or,a::b::rest,Le ta tb]:=by rw[64,BoolOp_or [zK,ha B s w H _ I h,d,r,e,?_]];obtain⟨c,rfl,n⟩:=n;cases e;refine mN ?_;cases c with|false=>exact K B Y w d Q r n|true=>rw[9,.bl true,d,r,J,n]
def Lf(t:TT)(ta tb:TE):TE:=[sw,t,λ c a=>[qe,c,ta w a Q,tb w a Q]]
theorem wh{c:bc}(V:PT X c tA)(ha:[Ca])(K:PE X b tb):PE X (.IfExp c a b pos) (Lf tA ta tb):=by rw[64,wpAny_IfExp (bj (V B s w H _ I h) λ d Y⟨e,r,n⟩=>?_)];cases d with|true=>exact ha B Y w e Q r n|false=>exact K B Y w e Q r n
end
end L2
namespace L2
open PySem PySem.Spec PyProof.Rows
def ax(K:aF)(H:Hp)(a:ab)(N:[aK]):Prop:=Rd H a (.aj N)∨∃(o:Obj)(m:[lC])(n:Nat),[bn,[pv,a]=Z o,o.cls=[Ml],o.dict=none,o.data=.seq m n,m.size≤aQ∧be N m.toList]
def bM(K:aF)(H:Hp)(a:ab)(N:[aK]):Prop:=Rd H a (.tup N)∨∃(o:Obj)(m:[lC])(n:Nat),[bn,[pv,a]=Z o,o.cls=[Kx],o.data=.seq m n,m.size≤aQ,be N m.toList]
def UK:ae→[dL]|.none=>Z .bh|.bool b=>Z (.bl b)|.int i _=>Z (.int i)|.str x _=>Z (.str x)|.bytes b _=>Z (.jd b)|.float b _=>Z (.qZ b)|.ref a=>[lm]|.type n=>Z (.ty n)|_=>none
theorem bw.abs{x:V}{u:ae}(r:bw x u):UK u=Z x:=by cases x with|bh=>cases r;rfl|bl _=>cases r;rfl|int _=>rw[85];rfl|str _=>rw[85];rfl|jd _=>rw[85];rfl|qZ _=>rw[85];rfl|ref _=>cases r;rfl|ty _=>cases r;rfl
theorem bw.inj{x y:V}{u:ae}(r:bw x u)(q:bw y u):x=y:=[dF,r.abs.symm.trans q.abs]
theorem be.inj:∀{N G:[aK]}{W:[bu]},be N W→be G W→N=G|_,_,_,.nil,.nil=>J|_,_,_,.cons r t,.cons A Y=>by rw[r.inj A,be.inj t Y]
section
variable{X:Cx}{pins:[bH]}{σ:St}{H:Hp}{s:aq}{a:ab}{xs ys:[aK]}
theorem ax.of{K:aF}(h:H a=Z (.aj xs)):ax K H a xs:=.inl [m_]
theorem bM.of{K:aF}(h:H a=Z (.tup xs)):bM K H a xs:=.inl [m_]
theorem Inv.list(I:[ca])(h:ax X.K H a xs):∃m:[bu],be xs m∧PlainL s.heap a m.toArray∧xs.length≤aQ:=by
 rcases h with h|⟨o,m,n,C,V,b,G,M,r⟩;·obtain⟨z,m,n,r,e⟩:=h.ok I.aH;rw[23,m,r,⟨_,n,e,J,J,J⟩,z]
 ·rw[17,m.toList,r,⟨o,n,I.e9 a o C,V,b,[aB,G]⟩,?_];have e:=r.length;simp only[nR]at e;omega
theorem Inv.tuple(I:[ca])(h:bM X.K H a xs):∃m:[bu],be xs m∧IsTup s.heap a m.toArray∧xs.length≤aQ:=by
 rcases h with h|⟨o,m,n,C,V,G,M,r⟩;·obtain⟨z,m,r,p⟩:=h.ok I.aH;rw[23,m,r,p,z.1]
 ·rw[17,m.toList,r,⟨o,I.e9 a o C,V,n,[aB,G]⟩,?_];have e:=r.length;simp only[nR]at e;omega
theorem Inv.l8(I:[ca])(h:H a=Z (.tup xs)):l8 xs=true:=[Md,.tup xs,h].1.2
theorem Inv.rh(I:[ca])(h:ax X.K H a xs)(S:ax X.K H a ys):xs=ys:=by obtain⟨m,r,⟨o,n,e,_,_,d⟩,_⟩:=I.list h;obtain⟨g,A,⟨O,q,f,_,_,L⟩,_⟩:=I.list S;rw[e]at f;cases f;rw[d]at L;injection L with d1 _;have:m=g:=[aB,ed BO d1];rw[65,r.inj A]
theorem Inv.UL(I:[ca])(h:bM X.K H a xs)(S:bM X.K H a ys):xs=ys:=by obtain⟨m,r,⟨o,e,_,n,d⟩,_⟩:=I.tuple h;obtain⟨g,A,⟨O,f,_,q,L⟩,_⟩:=I.tuple S;rw[e]at f;cases f;rw[d]at L;injection L with d1 _;have:m=g:=[aB,ed BO d1];rw[65,r.inj A]
end
abbrev Cx.iu(X:Cx)(E:[aX]):Cx:={X with xe:=E}
abbrev Cx.jZ(X:Cx):Cx:=X.iu [AO]
theorem Cx.Ok.iu{X:Cx}(a:X.Ok)(E:[aX]):(X.iu E).Ok:=⟨a.mod,a.kind,a.glob,a.blt,a.above,a.inj,a.has,a.t6,a.hd,a.frames,a.wc,a.q_,a.bs,a.lr,a.t7,a.ra,a.jX,a.pJ⟩
theorem Cx.Ok.lx{X:Cx}{E:[aX]}(a:(X.iu E).Ok):X.Ok:=⟨a.mod,a.kind,a.glob,a.blt,a.above,a.inj,a.has,a.t6,a.hd,a.frames,a.wc,a.q_,a.bs,a.lr,a.t7,a.ra,a.jX,a.pJ⟩
section
variable{X:Cx}{pins:[bH]}{σ:St}{H:Hp}{s:aq}{E:[aX]}
theorem Inv.iu(I:[ca])(E:[aX]):Inv (X.iu E) pins σ H s:=[Pc,I.ok.iu E,I.pin]
theorem Inv.lx(I:Inv (X.iu E) pins σ H s):[ca]:=[Pc,I.ok.lx,I.pin]
theorem SP.lx{D:Ends}{f:Flow}{d:aq}(h:SP (X.iu E) pins D f d):SP X pins D f d:=by cases f with|next=>rw[133,I.lx]|brk=>rw[133,I.lx]|cont=>rw[133,I.lx]|ret u=>obtain⟨v,a,m,I,r,q⟩:=h;rw[37,v,a,m,I.lx,r,q]
theorem gi.jZ{L:List a9}{t:TS}(h:gi X.jZ L t):gi X L t:=λ pins s σ H D I T=>gG (h pins s σ H D (I.iu _) T) (λ _ _ q=>q.lx) λ _ _ z=>js z
end
section
variable{X:Cx}{st:a9}{rest:List a9}{t u:TS}{e:bc}{te:TE}{pos:Pos}
def CP:TS:=λ D w H=>D.nx w H
def wj(t u:TS):TS:=λ D w H=>t {D with nx:=u D} w H
theorem cQ:gi X [] CP:=λ _ _ w H _ I h=>BK ⟨w,H,I,h⟩
theorem aK(g:PS X st t)(r:gi X rest u):gi X (st::rest) (wj t u):=by rw[94];refine Sw (bj (g B s w H {D with nx:=u D} I h) λ f Y q=>?_);cases f with|next=>obtain⟨a,m,S,q⟩:=q;exact r B Y a m D S q|ret v=>exact q|brk=>exact q|cont=>exact q
theorem aN(g:PS X st t):gi X [st] t:=by rw[94];refine Sw (bj (g B s w H D I h) λ f Y q=>?_);cases f with|next=>exact BK q|ret v=>exact q|brk=>exact q|cont=>exact q
theorem Inv.quiet{B:[bH]}{w:St}{H:Hp}{s:aq}(I:[iW]):[aw,interactive X.env]:=by simp[interactive,I.ok.kind]
def CQ(te:TE):TS:=λ D w H=>te w H λ _ a=>D.nx w a
theorem j0(R:PE X e te)(G:[Tb,e,none]:=by rfl):PS X (.Expr e pos) (CQ te):=by rw[94];exact wpAny_Expr_any [zK,R B s w H _ I h,a,r,b,⟨w,a,r,n⟩] I.quiet G
def rj(te:TE):TS:=λ D w H=>te w H D.rt
theorem bB(R:PE X e te):PS X (.Return (Z e) pos) (rj te):=by rw[94];exact wpAny_Return_some [zK,R B s w H _ I h,a,r,b,⟨x,w,a,r,b,n⟩]
def UN:TS:=λ D _ H=>D.rt .bh H
theorem Lg:PS X (.Return none pos) UN:=λ _ _ w H _ I h=>wpAny_Return_none ⟨.bh,w,H,I,J,h⟩
def zD(c:TT)(t u:TS):TS:=λ D w H=>c w H λ b a=>[qe,b,t D w a,u D w a]
theorem cI{c:bc}{a b:List a9}{f:TT}(V:PT X c f)(ha:gi X a t)(K:gi X b u):PS X (.If c a b pos) (zD f t u):=by rw[94];refine wpAny_If (bj (V B s w H _ I h) λ d Y⟨e,r,n⟩=>?_);cases d with|true=>exact ha B Y w e D r n|false=>exact K B Y w e D r n
def UO:TS:=λ _ _ _=>False
theorem Lh{R:List a9}:gi X R UO:=λ _ _ _ _ _ _ h=>h.elim
end
abbrev TG:=V→St→[d0,Hp,[Ce]]
abbrev rl:=[fQ,V,St→[d0,Hp,[Ce]]]
def PG(X:Cx)(b:bc)(t:TG):Prop:=∀(B:[bH])(s:aq)(w:St)(H:Hp)(v:V)(u:ae)(Q:[Ce]),([iW])→(bw v u→(t v w H Q→[f8,vT b X.env u,λ _ d=>∃a m,[DL,a,Q a m],s]))
def zE(X:Cx)(n:[on])(t:rl):Prop:=∀(B:[bH])(s:aq)(w:St)(H:Hp)(U:[aK])(W:[bu])(Q:[Ce]),([iW])→(be U W→(t U w H Q→[f8,(assignInOrder ((BV n X.env).map (·.2)) W),λ _ d=>∃a m,[DL,a,Q a m],s]))
abbrev zF:=V→V→[Ka]
def zG(X:Cx)(o:JM)(t:zF):Prop:=∀(B:[bH])(s:aq)(w:St)(H:Hp)(x y:V)(v u:ae)(Q:VK),[b9,[iW],bw x v,bw y u,t x y H Q,[f8,BW o v u,[zX],s]]
section
variable{X:Cx}{pos:Pos}
def iX(i:Nat):TG:=λ v w H Q=>Q (w.set i (Z v)) H
theorem b9{i:Nat}{x:Str}(a:X.N.Nodup)(O:X.N[i]?=Z x)(A:[Fj,Loc])(F:[OO]:=by rw[141]):PG X [tW,pos] (iX i):=by intro B s w H v u Q I r h;exact Sm (CN I a O A r (λ d S=>⟨_,H,S,h⟩) F)
def Li:rl:=λ U w H Q=>U=[]∧Q w H
def CT(t:TG)(u:rl):rl:=λ U w H Q=>∃v r,U=v::r∧t v w H λ a m=>u r a m Q
theorem oC:zE X [] Li:=by rw[109];obtain⟨e,h⟩:=h;subst e;rw[6,r,assignInOrder_nil ⟨w,H,I,h⟩]
theorem gM{e:bc}{T:[on]}{t:TG}{u:rl}(g:PG X e t)(a:zE X T u)(G:(BV (e::T) X.env).map (·.2)=vT e X.env::(BV T X.env).map (·.2):=by rfl):zE X (e::T) (CT t u):=by rw[109];obtain⟨v,d,e1,h⟩:=h;subst e1;cases r with|cons r l=>rw[13,G,assignInOrder_cons (bj (g B s w H _ _ _ I r h) λ _ Y⟨j,b,c,n⟩=>?_)];exact a B Y j b _ _ Q c l n
def Lj(K:aF)(n:Nat)(t:rl):TG:=λ v w H Q=>∃a N,(v=[bi]∧bM K H a N∧N.length=n∧t N w H Q)
theorem oD{f:[on]}{k:Nat}{t:rl}{n:Nat}(V:[sK])(h:zE X f t)(hn:[cI,BV f X.env,n]:=by rfl)(p:(BV f X.env).findIdx? (·.1)=none:=by rfl):PG X (.Tuple f k pos) (Lj X.K n t):=by
 intro B s w H v u Q I r T;obtain⟨a,N,e1,D,c,T⟩:=T;subst e1;cases r;obtain⟨m,O,F,M⟩:=I.tuple D;refine assign_Tuple_tuple [tJ] F (by simp[hn,←c,O.length]) p λ S A=>?_
 have d:[jB,w,H,[gX,S]]:=I.kept (t':=s.toks) [Fa,A,dY (bR e),e];exact h B _ w H N _ Q d (by rw[88]) T
def t8(k:TE)(g:TG):TS:=λ D w H=>k w H λ x a=>g x w a D.nx
theorem bE{i:Nat}{x:Str}{e:bc}{k:TE}{U:Pos}(c:X.N.Nodup)(O:X.N[i]?=Z x)(A:[Fj,Loc])(R:PE X e k)(G:[Tb,e,Z [tW,U]]:=by rfl)(F:[OO]:=by rw[141]):PS X (.Assign [[tW,U]] e pos) (t8 k (iX i)):=by rw[94];rw[69,wpAny_Assign_Name (bj (R B s w H _ I h) λ v Y⟨y,a,r,b,n⟩=>?_) G,CN r c O A b (λ P p=>⟨_,a,p,n⟩) F]
def UP(i:Nat)(k:TE)(t:zF):TS:=λ D w H=>∃x,w[i]?=Z (Z x)∧k w H λ y a=>t x y a λ z M=>D.nx (w.set i (Z z)) M
theorem pO{i:Nat}{x:Str}{e:bc}{G:TE}{q:JM}{T:zF}{U:Pos}(o:X.N.Nodup)(O:X.N[i]?=Z x)(A:[Fj,Loc])(R:PE X e G)(E:zG X q T)(F:[OO]:=by rw[141]):PS X (.AugAssign [tW,U] q e pos) (UP i G T):=by
 intro B s a H D I h;obtain⟨v,e1,h⟩:=h;obtain⟨m,hn,b⟩:=I.loc;have W:[Fj,q0]:=by rcases A with k|k;rw[21,k];exact .inr (.inl k)
 obtain⟨u,r,l⟩:=b i x v O e1 W;refine wpAny_AugAssign_Name ?_;have L:[f8,[rG,e],λ w K=>[f8,BW q u w,λ r P=>[f8,storeName X.env x r,λ _=>SP X B D .next,P],K],s]:=by rw[3,bj (R B s a H _ I h) λ w Y⟨y,d,j,g,n⟩=>?_,bj (E B Y a d v y u w _ j r g n) λ z s2⟨zv,M,p,S,f⟩=>?_];exact CN p o O A S (λ s3 t=>⟨_,M,t,f⟩) F
 rcases l with⟨C,N⟩|⟨C,c,V,Q⟩;·exact IZ I.ok.kind C hn N L
 ·rcases C with C|C;·exact wpAny_loadName_cell I.ok.kind C V Q L
  ·rcases A with k|k;·have:[Kp,x]=Z .free:=C;rw[k]at this;cases this
   ·have:[Kp,x]=Z .free:=C;rw[k]at this;cases this
def UQ(f:Int→Int→Int):zF:=λ x y H Q=>∃i j,x=.int i∧y=.int j∧Q (.int (f i j)) H
theorem CU:zG X .Add (UQ λ i j=>i+j):=by intro B s w H x y v u Q I a S h;obtain⟨i,j,e1,e2,q⟩:=h;subst e1;subst e2;obtain⟨t,rfl⟩:=a;rw[119,S,iadd_int [Kc,_,J]]
end
section
variable{X:Cx}{pos:Pos}
def Lk(c:TT)(F:TS):TS:=λ D w H=>∃W:[Cp],(∃m,W m w H)∧∀m w H,W m w H→c w H λ b d=>[qe,b,∃N:[Ce],(∀e a,N e a→∃S,S<m∧W S e a)∧F [Ey,N] w d,D.nx w d]
theorem t9{c:bc}{q:List a9}{A:TT}{F:TS}(R:PassesOwn [B0] X.A X.env X.xe)(V:PT X c A)(K:gi X q F):PS X (.While c q [] pos) (Lk A F):=by
 rw[94];obtain⟨W,⟨x,u⟩,T⟩:=h;refine wpAny_While (codeAny_whileLoop (λ n d=>∃i m,[DL,i,W n i m]) ?_ x ⟨w,H,I,u⟩);rintro n Y⟨y,a,r,t⟩;refine vF R (bj (V B Y y a _ r (T n y a t)) λ b P⟨M,p,g⟩=>?_);cases b with
  |true=>obtain⟨N,k,g⟩:=g;rw[13,aI J,vF R (bj (K B P y M _ p g) λ f C j=>?_)];cases f with|next=>obtain⟨z,L,l,o⟩:=j;obtain⟨S,e,G⟩:=k z L o;rw[37,S,e,z,L,l,G]|cont=>obtain⟨z,L,l,o⟩:=j;obtain⟨S,e,G⟩:=k z L o;rw[37,S,e,z,L,l,G]|brk=>exact j|ret v=>exact j
  |false=>rw[4,aD eQ,BK ⟨y,M,p,g⟩]
end
structure It where
 go:[yi,Hp]
 j1:Nat→Hp→[wT,V]
 stop:[yi,Hp]
def iY(X:Cx)(B:[bH])(H:Hp)(b:ab):Prop:=[bn,H b=none,[E9,b],b∉X.fs,b∈X.ex∨[NZ,b],[Lg,c≠b]∧∀p∈X.pn++B,p.1≠b]
theorem Inv.oE{X:Cx}{B:[bH]}{w:St}{H m:Hp}{s:aq}{b:ab}(I:[iW])(K:[Ow,b])(hn:m b=none):iY X B m b:=by
 refine⟨hn,g9 (dG I.lt K),I.UD K,.inr (bf I.sz K),λ x c e z=>?_,λ p R z=>?_⟩;·obtain⟨v,q⟩:=I.cell x c e;rw[68,dG q.lt [ar,z,K]]
 ·rw[68,dG (bR (I.pin p R).1) [ar,z,K]]
structure Turn(P:aY)(w:aU)(K:aF)(tg:bc)(d:It)(t:[aT])(f:ab)(q:[yi,aE]):Prop where
 mem:f∈t
 obj:∀i h,q i h→[wP,∃o,[jU]=Z o∧∀v,o.data≠.cell v]
 keep:∀i h S,q i h→([wP,∀o,[jU]=Z o→[iv,b]=Z o])→q i S
 item:∀(X:Cx),[b9,X.prog=P,X.w=w,X.K=K,X.calm=true,∀(i:Nat)(B:[bH])(s:aq)(a:St)(H:Hp)(E:[aX]),[b9,[jB,a,H,s],[wP,iY X B H b],q i s.heap,d.go i H,az (aM P w) X.A (kr [dS]) (λ r Y=>∃u,r=Z u∧az (aM P w) X.A (Jn tg [dS] u) (λ _ c=>∃x m,[bn,[jB,a,m,c],bw x u,d.j1 i H x m,q (i+1) c.heap,[wC,t,m]]) E Y) E s]]
 done:∀(X:Cx),[b9,X.prog=P,X.w=w,X.K=K,X.calm=true,∀(i:Nat)(B:[bH])(s:aq)(a:St)(H:Hp)(E:[aX]),[b9,[jB,a,H,s],[wP,iY X B H b],q i s.heap,d.stop i H,az (aM P w) X.A (kr [dS]) (λ r Y=>r=none∧[jB,a,H,Y]) E s]]
 self:∀(A:bP)(i:Nat)(s:aq)(Q:[aX])(E:[aX]),q i s.heap→Q [dS] s→az (aM P w) A (vU [dS]) Q E s
abbrev TI:=St→[d0,Hp,[wT,It]]
def CV(X:Cx)(B:[bH])(w:St)(tg:bc)(R:[wT,It])(c:ae)(P:aq):Prop:=∃(f:ab)(t:[aT])(q:[yi,aE])(a:It)(m:Hp),[bn,c=[dS],[jB,w,m,P],Turn X.prog X.w X.K tg a t f q,q 0 P.heap,[wP,iY X B m b]∧R a m]
def PI(X:Cx)(tg iter:bc)(c:TI):Prop:=∀(B:[bH])(s:aq)(w:St)(H:Hp)(R:[wT,It]),(([iW])→(c w H R→[f8,[rG,iter],λ v Y=>[f8,vU v,CV X B w tg R,Y],s]))
theorem wk{M:tF}{A:bP}{E:[aX]}{s:aq}{tg:bc}{f:ab}{u:ae}{o:Obj}{n:String}{U:[lC]}{Q:[FM]}(b:[iF,f]=Z o)(V:o.cls=.type n)(a:o.data=[wl,U])(hn:[aw,[Ti].contains n])(p:Q () s):az M A (Jn tg [dS] u) Q E s:=by unfold Jn;cases tg<;>first|exact aW p|(cases u<;>first|exact aW p|(rw[5,wpAny_load b ?_];rw[V,a];rw[39,az M A [wO,[Ti].contains n&&U[0]?==Z (f_ _)] Q E s,aD (by intro h;rw[hn,Sq]at h;cases h),aW p]))
def mf(K:aF)(a:ab):It:=⟨λ i H=>∃N x,ax K H a N∧N[i]?=Z x,λ i H x m=>m=H∧[Pv,ax],λ i H=>∃N,ax K H a N∧[CW,i]⟩
def wm(K:aF)(a:ab):It:=⟨λ i H=>∃N x,bM K H a N∧N[i]?=Z x,λ i H x m=>m=H∧[Pv,bM],λ i H=>∃N,bM K H a N∧[CW,i]⟩
def t_(c:Int)(n:Nat):It:=⟨λ i _=>i<n,λ i H x m=>m=H∧x=.int (c+i),λ i _=>n≤i⟩
theorem UR{P:aY}{w:aU}{K:aF}{tg:bc}(a q:ab):[KI,tg,mf K a,[q],q,h.IsListIter q a i]where
 mem:=[al]
 obj:=[Tt,q]
 keep:=λ i h S L k=>L.at λ o e=>(k q [al] o e)
 item:=by
  rw[147];obtain⟨N,x,D,A⟩:=l;rw[139,I.list];obtain⟨u,n,ru⟩:=O.get A;rw[153];refine wpAny_pyNext_list_item L p.isList (x:=u) [aB,n] λ S Q sb=>?_
  have r:[jB,f,H,[gX,S]]:=[Im,λ b o g e=>[mn,sb,g,e],C,G,R,W];obtain⟨o,e,c,d⟩:=id Q;rw[22,u,wk (s:=[gX,S]) e c d [bd] ⟨x,H,r,ru,[lu,λ ys j=>[ar,I.rh j D,A]],Q,λ b g=>(F b g).1⟩]
 done:=by rw[147];obtain⟨N,D,A⟩:=l;rw[139,I.list];rw[153];have hl:=O.length;exact wpAny_pyNext_list_end [tJ] L p.isList (by rw[18]) [Ny,[Im,[Re],C,G,R,W]]
 self:=λ _ _ _ _ _ L h=>wpAny_pyIter_listiter L h
theorem US{P:aY}{w:aU}{K:aF}{tg:bc}(a q:ab):[KI,tg,wm K a,[q],q,h.IsTupleIter q a i]where
 mem:=[al]
 obj:=[Tt,q]
 keep:=λ i h S L k=>L.at λ o e=>(k q [al] o e)
 item:=by
  rw[147];obtain⟨N,x,D,A⟩:=l;rw[139,I.tuple];obtain⟨u,n,ru⟩:=O.get A;rw[153];refine wpAny_pyNext_tuple_item L (show[NH,a,m.toArray]from p) (x:=u) [aB,n] λ S Q sb=>?_
  have r:[jB,f,H,[gX,S]]:=[Im,λ b o g e=>[mn,sb,g,e],C,G,R,W];obtain⟨o,e,c,d⟩:=id Q;rw[22,u,wk (s:=[gX,S]) e c d [bd] ⟨x,H,r,ru,[lu,λ ys j=>[ar,I.UL j D,A]],Q,λ b g=>(F b g).1⟩]
 done:=by rw[147];obtain⟨N,D,A⟩:=l;rw[139,I.tuple];rw[153];have hl:=O.length;exact wpAny_pyNext_tuple_end [tJ] L (show[NH,a,m.toArray]from p) (by rw[18]) [Ny,[Im,[Re],C,G,R,W]]
 self:=λ _ _ _ _ _ L h=>wpAny_pyIter_tupleiter L h
theorem UT{P:aY}{w:aU}{K:aF}{tg:bc}(f:ab)(d:Int)(n:Nat):[KI,tg,t_ d n,[f],f,IsRangeIter h f (d+(i:Nat)*1) ([cQ]-(i:Nat)) 1]where
 mem:=[al]
 obj:=λ i h L b c=>by rw[55,b=f,[aB,c]];rw[1,_,L,λ v z=>by have D:Data.fields _=Data.cell v:=z;cases D]
 keep:=λ i h S L k=>(k f [al] _ L)
 item:=by
  intro X g T l V i B s a H E I F L j;subst g T l;obtain⟨U,m,A,p,u,M⟩:=F f [al];have W:=Walks.range (prog:=X.prog) (w:=X.w) [tJ] f d 1 n;refine W.item i s _ _ j L λ v S G y q Q=>?_
  obtain⟨t,rfl⟩:=y;have r:[jB,a,H,[p0,S]]:=I.turned (λ b o c e=>Q b o [aB,c] e) U m p u M;rw[41,[de,wk (s:=[p0,S]) (n:="range_iterator") q J J [bd] ⟨.int (d+i),H,r,[qv,t],[ge,J],q,λ b c=>(F b c).1⟩],Int.mul_one]
 done:=by intro X g T l V i B s a H E I F L j;subst g T l;obtain⟨U,m,A,p,u,M⟩:=F f [al];exact wpAny_pyNext_range_end [tJ] L (by have:n≤i:=j;omega) [Ny,[Im,λ b o c e=>eb b o c e,m,p,u,M]]
 self:=λ _ _ _ _ _ L h=>wpAny_pyIter_rangeiter L h
end L2
namespace L2
open PySem PySem.Spec PyProof.Rows
section
variable{X:Cx}{tg:bc}
def Ll(K:aF)(tl:TE):TI:=[K3,tl,λ x b=>∃a,x=[bi]∧(∃N,ax K b a N)∧R (mf K a) b]
def Lm(K:aF)(tl:TE):TI:=[K3,tl,λ x b=>∃a,x=[bi]∧(∃N,bM K b a N)∧R (wm K a) b]
theorem dj{l:bc}{tl:TE}(c:PE X l tl):PI X tg l (Ll X.K tl):=by rw[120,[zK,c B s w H _ I h,d,r,f,?_]];obtain⟨a,e,⟨N,D⟩,q⟩:=n;subst e;cases f;rw[139,r.list];rw[3,wpAny_pyIter_list p.isList ?_,⟨Y.heap.objs.size,[Y.heap.objs.size],_,_,d,J,r.kept (t':=Y.toks) λ b o e=>cG _ e,UR a _,[LD],λ b K=>?_,q⟩];rw[55,b=Y.heap.objs.size,[aB,K]];exact r.oE (ba _) (r.aH.fresh (ba _))
theorem CW{l:bc}{tl:TE}(c:PE X l tl):PI X tg l (Lm X.K tl):=by rw[120,[zK,c B s w H _ I h,d,r,f,?_]];obtain⟨a,e,⟨N,D⟩,q⟩:=n;subst e;cases f;rw[139,r.tuple];rw[3,wpAny_pyIter_tuple (show Y.heap.IsTuple a m.toArray from p) ?_,⟨Y.heap.objs.size,[Y.heap.objs.size],_,_,d,J,r.kept (t':=Y.toks) λ b o e=>cG _ e,US a _,[LD],λ b K=>?_,q⟩];rw[55,b=Y.heap.objs.size,[aB,K]];exact r.oE (ba _) (r.aH.fresh (ba _))
theorem UU{B:[bH]}{w:St}{H:Hp}{s:aq}{R:[wT,It]}{E:[aX]}{d O:Int}{t u v:Tok}{G:Nat}(I:[iW])(g:-(2^62)≤d)(r:d<2^62)(P:-(2^62)≤O)(a:O<2^62)(q:R (t_ d (O-d).toNat) H):az [B0] X.A (vU [nG]) (CV X B w tg R) E [p0,[C5,"range",[NR,d]]]:=by
 refine wpAny_pyIter_range (IsRange.new ..) (small_one g r P a) ?_;have c:[jB,w,H,[p0,[C5,"range",[NR,d]]]]:=I.kept [EZ,e];refine⟨[C5,"range",[NR,d]].objs.size,[[C5,"range",[NR,d]].objs.size],_,_,H,J,c.kept (t':=G) λ b o e=>cG _ e,UT _ d (O-d).toNat,?_,λ b K=>?_,q⟩
 ·have e1:d+[aV,0]*1=d:=[al];have e2:[aV,(O-d).toNat]-[aV,0]=Builtin.Range.rangeSize d O 1:=by rw[rangeSize_one];split<;>omega
  show IsRangeIter _ _ (d+[aV,0]*1) ([aV,(O-d).toNat]-[aV,0]) 1;rw[12,e1,e2,dM _ J]
 ·rw[55,b=[C5,"range",[NR,d]].objs.size,[aB,K]];exact c.oE (ba _) (c.aH.fresh (ba _))
def UW(T:TA):TI:=[K3,T,λ U a=>∃i j:Int,U=[.int i,.int j]∧(-(2^62)≤i∧i<2^62∧-(2^62)≤j∧j<2^62)∧R (t_ i (j-i).toNat) a]
theorem Ln{a b:bc}{T:TA}{p m:Pos}(f:Gl X "range")(N:X.mg "range"=none)(ha:PA X [a,b] T)(G:[oE,[a,b]]=[[zA,a],[zA,b]]:=by rfl)(x:[oE,[b]]=[[zA,b]]:=by rfl):PI X tg (.Call (.Name "range" p) [a,b] [] m) (UW T):=by rw[120,Call_ (m_ I f N boot_range (vp (bj (ha m B s w H _ I h) λ W Y⟨U,c,k,g,n⟩=>?_) (by rw[G,x]) [hJ,x]))];obtain⟨i,j,e,⟨n,d,o,u⟩,q⟩:=n;subst e;cases g with|cons r v=>cases v with|cons A v=>cases v;rw[85];obtain⟨l,rfl⟩:=A;exact call_range_2 (UU k n d o u q)
def Lo(f:TI)(g:TG)(F:TS):TS:=λ D w H=>f w H λ e b=>∃W:Nat→[Cp],(∃m,W 0 m w b)∧∀i m w H,W i m w H→(e.stop i H∧D.nx w H)∨(e.go i H∧∃N:[Ce],(∀c a,[Kw,c,a])∧∀x a,e.j1 i H x a→g x w a λ d M=>F [Ey,N] d M)
def ub(t:[aT])(h:aE):[bH]:=t.filterMap λ b=>[jU].map λ o=>(b,o)
theorem zH{t:[aT]}{h:aE}{b:ab}{o:Obj}(K:b∈t)(e:[jU]=Z o):(b,o)∈ub t h:=List.mem_filterMap.mpr ⟨b,K,[hJ,e]⟩
theorem UX{t:[aT]}{h:aE}{p:(ab×Obj)}(R:p∈ub t h):p.1∈t∧h.get? p.1=Z p.2:=by obtain⟨b,K,e⟩:=List.mem_filterMap.mp R;cases q:[jU]with|none=>rw[35,q]|some o=>rw[q]at e;have f:(b,o)=p:=[dF,e];subst f;rw[0,K,q]
theorem Inv.pinned{B:[bH]}{w:St}{H:Hp}{s:aq}{t:[aT]}(I:[iW])(F:[wP,iY X B H b])(E:[wP,∃o,[rw]=Z o∧∀v,o.data≠.cell v]):Inv X (B++ub t s.heap) w H s:=I.La λ p R=>[gM,R].elim (λ z=>I.pin p (iQ _ z)) λ z=>by obtain⟨K,e⟩:=UX z;obtain⟨U,n,A,_⟩:=F p.1 K;obtain⟨o,f,d⟩:=E p.1 K;rw[e]at f;rw[6,f,⟨e,U,n,A,d⟩]
theorem Inv.wo{pins d:[bH]}{w:St}{H:Hp}{s:aq}(I:Inv X (pins++d) w H s):Inv X pins w H s:=I.La λ p R=>I.pin p (iQ _ (lP _ R))
theorem eJ{iter:bc}{l:List a9}{wi:TI}{g:TG}{tb:TS}{j:Pos}(R:PassesOwn [B0] X.A X.env X.xe)(hc:[sK])(hi:PI X tg iter wi)(hg:PG X tg g)(K:gi X l tb)(hs:[Mm]:=by intro _;rfl):PS X (.For tg iter l [] j) (Lo wi g tb):=by
 intro B s σ H D I h;refine wpAny_For (bj (hi B s σ H _ I h) λ v s1 h1=>bj h1 λ itv s2 h2=>?_) hs;obtain⟨it,t,tn,J,H2,e,I2,T,y,f2,W,⟨m0,w0⟩,q⟩:=h2;subst e;have z:∀{a:Hp},([wC,t,a])→[wP,iY X B a b]:=λ hn b K=>[ut,hn b K,f2 b K]
 refine codeAny_forLoop_any (λ n s'=>∃i k a,([jB,k,a,s']∧tn i s'.heap∧[wC,t,a]∧W i n k a)) ?_ m0 ⟨0,σ,H2,I2,y,λ b K=>(f2 b K).1,w0⟩;rintro n s3⟨i,A,L,I3,Q,S,w3⟩;rcases q i n A L w3 with⟨P,qn⟩|⟨go,N,hN,E⟩;·refine vF R (bj (T.done X rfl rfl rfl hc i B s3 A L X.xe I3 (z S) Q P) λ r s4⟨c,I4⟩=>?_);subst c;exact BK ⟨A,L,I4,qn⟩
 ·refine vF R (bj (T.item X rfl rfl rfl hc i B s3 A L X.xe I3 (z S) Q go) λ r s4⟨u,c,h4⟩=>?_);subst c;refine vF R (bj h4 λ _ s5⟨x,H5,I5,r5,y5,G,V⟩=>?_);have Y:=I5.pinned (z V) (T.obj _ _ G);rw[3,vF R (bj (hg _ s5 A H5 x u _ Y r5 (E x H5 y5)) λ _ s6⟨σ6,H6,I6,q6⟩=>?_),vF R (bj (K _ s6 σ6 H6 _ I6 q6) λ f F C=>?_)];have U:∀{w:St}{O:Hp},Inv X (B++ub t s5.heap) w O F→N w O→∃m,m<n∧∃i k a,([jB,k,a,F]∧tn i F.heap∧[wC,t,a]∧W i m k a):=λ{w O}p M=>by obtain⟨m',hm,w7⟩:=hN w O M;refine⟨m',hm,i+1,w,O,p.wo,T.keep _ _ _ G λ b K o e=>(p.pin (b,o) (iQ _ (iQ _ (zH K e)))).1,[Fs],w7⟩;obtain⟨o,e,d⟩:=T.obj _ _ G b K;exact(p.pin (b,o) (iQ _ (iQ _ (zH K e)))).2.1
  cases f with|next=>obtain⟨w,O,p,M⟩:=C;exact U p M|cont=>obtain⟨w,O,p,M⟩:=C;exact U p M|brk=>obtain⟨w,O,p,C⟩:=C;rw[23,w,O,p.wo,C]|ret v=>obtain⟨x7,w,O,p,r7,C⟩:=C;rw[37,x7,w,O,p.wo,r7,C]
end
theorem iZ{K:aF}{a:ab}{xs:[aK]}{g:TG}{F:TS}{D:Ends}{w:St}{H:Hp}(P:[Cp])(I:P 0 w H)(X:[Tp])(G:∀i x w H,xs[i]?=Z x→P i w H→g x w H [LG,F,P (i+1)])(c:[Om,xs.length]):[OF,mf K a,∀d b,[Kw,d,b],∀x b,(mf K a).j1 i H x b→g x w b [LG,F,N]]:=by rw[128,xs.length];have q:=X i w H O p;rw[156,⟨xs,xs[i],q,[bB,s]⟩,λ d b E=>[d9,xs.length-(i+1),[ac],s,E],λ x b y=>?_,G i x w _ (y xs q) p,⟨xs,q,ba _⟩,c w H p]
theorem CY{K:aF}{a:ab}{xs:[aK]}{g:TG}{tb:TS}{D:Ends}{σ:St}{H:Hp}(P:[Cp])(I:P 0 σ H)(X:∀i σ H,i≤xs.length→P i σ H→bM K H a xs)(G:∀i x σ H,xs[i]?=Z x→P i σ H→g x σ H [LG,tb,P (i+1)])(c:∀σ H,P xs.length σ H→D.nx σ H):∃W:Nat→[Cp],(∃m,W 0 m σ H)∧∀i m σ H,W i m σ H→((wm K a).stop i H∧D.nx σ H)∨((wm K a).go i H∧∃N:[Ce],(∀d b,[Kw,d,b])∧∀x b,(wm K a).j1 i H x b→g x σ b [LG,tb,N]):=by rw[29,λ i m σ H=>m=(xs.length-i)∧i≤xs.length∧P i σ H,⟨xs.length,[al],b7 _,I⟩];rintro i m σ H⟨rfl,O,p⟩;have q:=X i σ H O p;rw[156,⟨xs,xs[i],q,[bB,s]⟩,λ d b E=>[d9,xs.length-(i+1),[ac],s,E],λ x b y=>?_,G i x σ _ (y xs q) p,⟨xs,q,ba _⟩,c σ H p]
theorem Lp{d:Int}{n:Nat}{g:TG}{F:TS}{D:Ends}{w:St}{H:Hp}(P:[Cp])(I:P 0 w H)(G:∀i w H,i<n→P i w H→g (.int (d+i)) w H [LG,F,P (i+1)])(b:[Om,n]):[OF,t_ d n,∀c a,[Kw,c,a],∀x a,(t_ d n).j1 i H x a→g x w a [LG,F,N]]:=by
 rw[128,n];by_cases s:i<n;·refine[zQ,s,P (i+1),λ c a E=>[d9,n-(i+1),[ac],s,E],λ x a y=>?_];obtain⟨e,y⟩:=y;subst e y;exact G i w _ s p
 ·have e:i=n:=[ac];rw[121,ba _,b w H p]
theorem CZ{c:TT}{F:TS}{D:Ends}{w:St}{H:Hp}(P:[Ce])(g:St→Hp→Nat)(I:P w H)(G:∀w H,P w H→c w H λ b d=>[qe,b,F [Ey,λ e a=>P e a∧g e a<g w H] w d,D.nx w d])(o:∀w H Q f,(∀b d,Q b d→f b d)→c w H Q→c w H f):Lk c F D w H:=by rw[29,λ m w H=>m=g w H∧P w H,[de,I]];rintro m w H⟨rfl,p⟩;refine o w H _ _ (λ b d q=>?_) (G w H p);cases b with|true=>rw[1,_,λ e a⟨E,l⟩=>[em,_,l,E],q]|false=>exact q
end L2
namespace L2
open PySem PySem.Spec PyProof.Rows
abbrev R2:=V→V→[Ka]
def dz(X:Cx)(f:ae→ae→Sem ae)(r:R2):Prop:=∀(B:[bH])(s:aq)(w:St)(H:Hp)(x y:V)(v u:ae)(Q:VK),[b9,[iW],bw x v,bw y u,r x y H Q,[f8,f v u,[zX],s]]
def C0(X:Cx)(f:ae→Sem ae)(r:V→[Ka]):Prop:=∀(B:[bH])(s:aq)(w:St)(H:Hp)(x:V)(v:ae)(Q:VK),([iW])→(bw x v→(r x H Q→[f8,f v,[zX],s]))
def gP(X:Cx)(f:ae)(r:[D_]):Prop:=∀(B:[bH])(s:aq)(w:St)(H:Hp)(N:[aK])(W:[bu])(Q:VK),([iW])→(be N W→(r N H Q→[f8,call f W,[zX],s]))
def UY(X:Cx)(r:V→[d0,Hp,[Be,Hp]]):Prop:=∀(B:[bH])(s:aq)(w:St)(H:Hp)(x:V)(v:ae)(Q:[Be,Hp]),([iW])→(bw x v→(r x H Q→[f8,truthy v,TP X B w Q,s]))
def h9(r:R2)(T F:TE):TE:=[Eo,T,F w a λ y M=>r x y M Q]
def C1(r:V→[Ka])(T:TE):TE:=[Eo,T,r x a Q]
def rI(C:[d0,Int,Int])(g:Int→Int→V):R2:=λ x y H Q=>∃i j,(x=.int i∧y=.int j∧C i j∧Q (g i j) H)
def jx(g:Int→Int→V):R2:=λ x y H Q=>∃i j,x=.int i∧y=.int j∧Q (g i j) H
def rU(g:Int→V):V→[Ka]:=λ x H Q=>∃i,x=.int i∧Q (g i) H
section
variable{X:Cx}{a b c:bc}{ta tb tc:TE}{pos:Pos}
theorem zI(ha:[Ca])(K:PE X b tb){B:[bH]}{s:aq}{w:St}{H:Hp}{R:V→[wT,V]}(I:[iW])(h:ta w H λ x c=>tb w c λ y M=>R x y M){Q:[aX]}{f:ae→ae→Sem ae}(F:∀v u P x y M,[b9,[jB,w,M,P],bw x v,bw y u,R x y M,[f8,f v u,Q,P]]):[f8,[rG,a],λ v L=>[f8,[rG,b],λ u j=>[f8,f v u,Q,j],L],s]:=by rw[3,[zK,ha B s w H _ I h,c,r,e,?_],[PK,K B Y w c _ r n,d,?_]];exact F v u P x y M p e S d
theorem cj{o:JM}{r:R2}(E:dz X (qL o) r)(ha:[Ca])(K:PE X b tb):PE X (.BinOp a o b pos) (h9 r ta tb):=by rw[76];exact wpAny_BinOp [QJ,E B P w M x y v u Q p L A q]
theorem ro{o:UnaryOp}{r:V→[Ka]}(E:C0 X (unaryOp o) r)(ha:[Ca]):PE X (.UnaryOp o a pos) (C1 r ta):=by rw[76];exact UnaryOp_ [zK,ha B s w H _ I h,b,d,c,E B Y w b x v Q d c n]
theorem UZ{o:JM}{r:R2}(E:dz X (BW o) r){B:[bH]}{s:aq}{w:St}{H:Hp}{x y:V}{v u:ae}{Q:VK}(I:[iW])(L:bw x v)(A:bw y u)(q:r x y H Q):[f8,BW o v u,[zX],s]:=E B s w H x y v u Q I L A q
theorem C2{f:ae→ae→Sem ae}{C:[d0,Int,Int]}{g:Int→Int→Int}(e:(∀(i j:Int)(t u:Tok)(s:aq)(Q:[aX])(E:[aX]),C i j→Q (.int (g i j) s.toks) [vZ,1]→[wJ,X.A,f (.int i t) (.int j u)])):dz X f (rI C (λ i j=>.int (g i j))):=by rw[93];obtain⟨i,j,rfl,rfl,V,q⟩:=h;rw[42];rw[119,A,e i j t Y s _ _ V [Kc,g i j,J]]
theorem wq{f:ae→ae→Sem ae}{g:Int→Int→Int}(e:(∀(i j:Int)(t u:Tok)(s:aq)(Q:[aX])(E:[aX]),Q (.int (g i j) s.toks) [vZ,1]→[wJ,X.A,f (.int i t) (.int j u)])):dz X f (jx (λ i j=>.int (g i j))):=by rw[93];obtain⟨i,j,rfl,rfl,q⟩:=h;rw[42];rw[119,A,e i j t Y s _ _ [Kc,g i j,J]]
theorem zJ{f:ae→ae→Sem ae}{g:Int→Int→Bool}(e:(∀(i j:Int)(t u:Tok)(s:aq)(Q:[aX])(E:[aX]),Q (.bool (g i j)) s→[wJ,X.A,f (.int i t) (.int j u)])):dz X f (jx λ i j=>.bl (g i j)):=by rw[93];obtain⟨i,j,rfl,rfl,q⟩:=h;rw[42];rw[119,A,e i j t Y s _ _ [lc,.bl (g i j),H,I,q]]
def U0(i j:Int):Prop:=0≤j∧j≤1000000∧i.natAbs<2^64
def C3(i j:Int):Prop:=(-(2^64)<i∧i<2^64)∨(-(2^64)<j∧j<2^64)
theorem C3.ok{i j:Int}(h:C3 i j):IntMulOk i j:=by rcases h with⟨g,r⟩|⟨g,r⟩;rw[2,.of_left (intBits_le_64 g r),.of_right (intBits_le_64 g r)]
theorem U1(k:Nat):[ap,0]≤2^k:=[ar,two_pow_cast,Int.natCast_nonneg _]
theorem gj:dz X (qL .Add) (jx (λ i j=>.int (i+j))):=wq [IO,add_int]
theorem ly:dz X (qL .Sub) (jx (λ i j=>.int (i-j))):=wq [IO,sub_int]
theorem zK:dz X (qL .Mult) (rI C3 (λ i j=>.int (i*j))):=C2 λ _ _ _ _ _ _ _ V q=>mul_int q V.ok
theorem Lq:dz X (qL .LShift) (rI U0 (λ i j=>.int (i*2^j.toNat))):=C2 λ _ _ _ _ _ _ _ V q=>lshift_int_small V.1 V.2.1 V.2.2 q
theorem U2:dz X (qL .RShift) (rI (λ _ j=>0≤j) (λ i j=>.int (i/2^j.toNat))):=C2 λ i j _ _ _ _ _ V q=>rshift_int V [ar,Int.fdiv_eq_ediv_of_nonneg i (U1 _),q]
theorem lz:dz X (qL .BitAnd) (jx (λ i j=>.int (dQ i j))):=wq [IO,and_int]
theorem U3:dz X (qL .BitOr) (jx (λ i j=>.int (pk i j))):=wq [IO,or_int]
theorem U4:dz X (BW .BitOr) (jx (λ i j=>.int (pk i j))):=wq [IO,ior_int]
theorem U5{f:ae→Sem ae}{g:Int→Int}(e:∀(i:Int)(t:Tok)(s:aq)(Q:[aX])(E:[aX]),Q (.int (g i) s.toks) [vZ,1]→[wJ,X.A,f (.int i t)]):C0 X f (rU λ i=>.int (g i)):=by intro B s w H x v Q I L h;obtain⟨i,rfl,q⟩:=h;rw[42];exact e i t s _ _ [Kc,g i,J]
theorem rp:C0 X (unaryOp .USub) (rU λ i=>.int (-i)):=U5 λ _ _ _ _ _ q=>neg_int q
end
def C4:V→V→Bool|.bh,.bh=>true|.bh,.int _=>true|.int _,.bh=>true|.bh,.bl _=>true|.bl _,.bh=>true|.bh,.str _=>true|.str _,.bh=>true|.int _,.int _=>true|.bl _,.bl _=>true|.str _,.str _=>true|.jd _,.jd _=>true|.int _,.str _=>true|.str _,.int _=>true|.bl _,.str _=>true|.str _,.bl _=>true|_,_=>false
def Lr:R2:=λ x y H Q=>C4 x y=true∧Q [FH,x=y] H
def U6:R2:=λ x y H Q=>C4 x y=true∧Q (.bl [wK,x=y]) H
theorem mh{i j:Int}:[aN,(V.int i)=(V.int j)]=(i==j):=by rw[19,dH]
theorem Lu{i j:Bool}:[aN,V.bl i=V.bl j]=(i==j):=by rw[19,dH]
theorem Lv{i j:Str}:[aN,(V.str i)=(V.str j)]=(i==j):=by rw[19,dH]
theorem Lw{i j:Array UInt8}:[aN,V.jd i=V.jd j]=(i.toList==j.toList):=by rw[dH];rw[59,i,j];simp
section
variable{X:Cx}{a b c:bc}{ta tb tc:TE}{pos:Pos}
theorem dS{B:[bH]}{w:St}{H:Hp}{s:aq}{Q:VK}{k d:Bool}(I:[iW])(q:Q (.bl k) H)(e:k=d):EP X B w Q (.bool d) s:=by subst e;rw[9,.bl k,H,I,J,q]
theorem e_:dz X (f9 .Eq) Lr:=by
 rw[93];obtain⟨G,q⟩:=h;cases x with
  |bh=>cases L;cases y with|bh=>rw[81,PySem.EqNone.eq_none_none]|bl j=>rw[81,PySem.EqNone.eq_none_bool]|int j=>rw[99,PySem.EqNone.eq_none_int]|str j=>rw[99,PySem.EqNone.eq_none_str]|_=>rw[78,G]
  |bl i=>cases L;cases y with|bh=>rw[81,PySem.EqNone.eq_bool_none]|bl j=>rw[6,A,eq_bool (dS I q Lu)]|str j=>rw[99,PySem.EqMixed.eq_bool_str]|_=>rw[78,G]
  |int i=>rw[42];cases y with|bh=>rw[81,PySem.EqNone.eq_int_none]|int j=>rw[103,eq_int,mh]|str j=>rw[99,PySem.EqMixed.eq_int_str]|_=>rw[78,G]
  |str i=>rw[42];cases y with|bh=>rw[81,PySem.EqNone.eq_str_none]|bl j=>rw[81,PySem.EqMixed.eq_str_bool]|int j=>rw[99,PySem.EqMixed.eq_str_int]|str j=>rw[103,eq_str,Lv]|_=>rw[78,G]
  |jd i=>rw[42];cases y with|jd j=>rw[103,PySem.W.eq_bytes,Lw]|_=>rw[78,G]
  |_=>cases y<;>exact[e9,[dA,false,true,G],eQ]
theorem rq:dz X (f9 .NotEq) U6:=by
 rw[93];obtain⟨G,q⟩:=h;cases x with
  |bh=>cases L;cases y with|bh=>rw[81,PySem.EqNone.ne_none_none]|bl j=>rw[81,PySem.EqNone.ne_none_bool]|int j=>rw[99,PySem.EqNone.ne_none_int]|str j=>rw[99,PySem.EqNone.ne_none_str]|_=>rw[78,G]
  |bl i=>cases L;cases y with|bh=>rw[81,PySem.EqNone.ne_bool_none]|bl j=>rw[6,A,ne_bool (dS I q (ed not Lu))]|str j=>rw[99,PySem.EqMixed.ne_bool_str]|_=>rw[78,G]
  |int i=>rw[42];cases y with|bh=>rw[81,PySem.EqNone.ne_int_none]|int j=>rw[103,ne_int,ed not mh]|str j=>rw[99,PySem.EqMixed.ne_int_str]|_=>rw[78,G]
  |str i=>rw[42];cases y with|bh=>rw[81,PySem.EqNone.ne_str_none]|bl j=>rw[81,PySem.EqMixed.ne_str_bool]|int j=>rw[99,PySem.EqMixed.ne_str_int]|str j=>rw[103,ne_str,ed not Lv]|_=>rw[78,G]
  |jd i=>rw[42];cases y with|jd j=>rw[103,PySem.W.ne_bytes,ed not Lw]|_=>rw[78,G]
  |_=>cases y<;>exact[e9,[dA,false,true,G],eQ]
theorem C5:dz X (f9 .Lt) (jx λ i j=>[FH,i<j]):=zJ [IO,lt_int]
theorem iI:dz X (f9 .LtE) (jx λ i j=>.bl [ly,i,j]):=zJ [IO,le_int]
theorem zL:dz X (f9 .Gt) (jx λ i j=>[FH,j<i]):=zJ [IO,gt_int]
theorem zM:dz X (f9 .GtE) (jx λ i j=>.bl [ly,j,i]):=zJ [IO,ge_int]
theorem C6:dz X (f9 .Is) (λ x y H Q=>y=.bh∧Q [FH,x=.bh] H):=by rw[93];obtain⟨rfl,q⟩:=h;cases A;refine is_none_gen (dS I q ?_);cases x<;>first|(cases L;rfl)|(rw[42];rfl)
theorem U7:dz X (f9 .IsNot) (λ x y H Q=>y=.bh∧Q (.bl [wK,x=.bh]) H):=by rw[93];obtain⟨rfl,q⟩:=h;cases A;refine isnot_none_gen (dS I q ?_);cases x<;>first|(cases L;rfl)|(rw[42];rfl)
theorem ck(b:bc){o:qO}(h:o≠.In:=by decide)(r:o≠.NotIn:=by decide):[aw,tj o b]:=by rw[66,[aw,o==CmpOp.In],by cases o<;>first|rfl|rw[8,J,h],[aw,o==CmpOp.NotIn],by cases o<;>first|rfl|rw[8,J,r]];cases b<;>simp[tj,e1,e2]
theorem lA{o:qO}{r:R2}(E:dz X (f9 o) r)(ha:[Ca])(K:PE X b tb)(N:[aw,tj o b]):PE X [Ra] (h9 r ta tb):=by rw[76];exact wpAny_Compare1 [QJ,E B P w M x y v u Q p L A q] N
def uc(t:TE):TT:=[sw,t,λ x m=>∃k,x=.bl k∧Q k m]
theorem cm{o:qO}{r:R2}(E:dz X (f9 o) r)(ha:[Ca])(K:PE X b tb)(N:[aw,tj o b]):PT X [Ra] (uc (h9 r ta tb)):=by rw[76];refine wpAny_isTrue_Compare1 [zK,ha B s w H _ I h,d,i,g,[PK,K B Y w d _ i n,f,bj (E B P w M x y v u _ p g S f) λ c C⟨z,L,l,m,k,e,j⟩=>?_]] N;subst e;rw[6,m,mN ⟨L,l,j⟩]
def Lx(r A:R2)(ta tb tc:TE):TE:=[Eo,ta,tb w a λ y M=>r x y M λ z L=>∃k,z=.bl k∧[qe,k,tc w L λ m R=>A y m R Q,Q (.bl false) L]]
theorem U8{o W:qO}{r A:R2}(E:dz X (f9 o) r)(U:dz X (f9 W) A)(ha:[Ca])(K:PE X b tb)(V:PE X c tc)(N:[aw,lastMarks [o,W] [b,c]]:=by with_unfolding_all rfl):PE X (.Compare a [o,W] [b,c] pos) (Lx r A ta tb tc):=by rw[64,Compare_chain [zK,ha B s w H _ I h,f,j,i,chain_link [PK,K B Y w f _ j n,g,bj (E B P w M x y v u _ p i S g) λ d C⟨z,L,q,D,k,e,l⟩=>?_]] N];subst e;cases D;refine mN ?_;cases k with|false=>exact ite_ff [lc,.bl false,L,q,l]|true=>exact ite_tt (chain_last (bj (V B C w L _ q l) λ t m⟨T,R,O,G,F⟩=>U B m w R y T u t Q O S G F))
theorem zN{t U:qO}{r A:R2}(E:dz X (f9 t) r)(T:dz X (f9 U) A)(ha:[Ca])(K:PE X b tb)(V:PE X c tc)(N:[aw,lastMarks [t,U] [b,c]]:=by with_unfolding_all rfl):PT X (.Compare a [t,U] [b,c] pos) (uc (Lx r A ta tb tc)):=by rw[64,isTrue_chain [zK,ha B s w H _ I h,f,l,j,test_link [PK,K B Y w f _ l n,i,bj (E B P w M x y v u _ p j S i) λ d C⟨z,L,D,G,k,e,o⟩=>?_]] N];subst e;cases G;refine mN ?_;cases k with|false=>obtain⟨k',g,W⟩:=o;rw[6,g,ite_ff ⟨L,D,W⟩]|true=>refine ite_tt (test_last (bj (V B C w L _ D o) λ F q⟨z',R,I4,r4,O⟩=>bj (T B q w R y z' u F _ I4 S r4 O) λ d' s5⟨z2,m,I5,r5,k2,e2,q5⟩=>?_));subst e2;rw[6,r5,mN ⟨m,I5,q5⟩]
def C7(K:aF)(x:V)(H:Hp)(k:Bool):Prop:=match x with|.bh=>[aw,k]|.bl b=>k=b|.int i=>k=(i !=0)|.str y=>y.length≤aQ∧k=([ap,y.length]!=0)|.jd y=>y.size≤aQ∧k=([ap,y.size]!=0)|.ref p=>(∃N,ax K H p N∧k=! N.isEmpty)∨(∃N,bM K H p N∧k=! N.isEmpty)∨(∃Y,H p=Z (.dK Y)∧k=! Y.isEmpty)|_=>False
theorem U9{c:Type}{Y:List (c×V)}{U:List (c×ae)}(r:KV Y U):(! U.isEmpty)=! Y.isEmpty:=by cases r<;>rfl
theorem Ly{N:[aK]}{m:[bu]}(r:be N m):(! m.toArray.isEmpty)=! N.isEmpty:=by cases r<;>simp
theorem zO:(aQ:Nat)<2^63:=by rw[yR];decide
theorem U_:UY X (λ x H Q=>∃k,C7 X.K x H k∧Q k H):=by
 intro B s w H x v Q I L h;obtain⟨k,e,q⟩:=h;have a:=zO;have G:aQ=16777216:=yR;cases x with
  |bh=>cases L;have f:[aw,k]:=e;subst f;exact truthy_none ⟨H,I,q⟩
  |bl b=>cases L;have f:k=b:=e;subst f;exact mN ⟨H,I,q⟩
  |int i=>rw[42];have f:k=(i !=0):=e;subst f;exact PySem.P.truthy_int ⟨H,I,q⟩
  |str y=>rw[42];obtain⟨c,f⟩:y.length≤aQ∧k=([ap,y.length]!=0):=e;subst f;exact PySem.P.truthy_str [ac] ⟨H,[tO],q⟩
  |jd y=>rw[42];obtain⟨c,f⟩:y.size≤aQ∧k=([ap,y.size]!=0):=e;subst f;exact PySem.W.truthy_bytes [ac] ⟨H,[tO],q⟩
  |ref p=>
   cases L;have f:(∃N,ax X.K H p N∧k=! N.isEmpty)∨(∃N,bM X.K H p N∧k=! N.isEmpty)∨(∃Y,H p=Z (.dK Y)∧k=! Y.isEmpty):=e;rcases f with⟨N,A,f⟩|⟨N,A,f⟩|⟨Y,A,f⟩;·subst f;obtain⟨d,r,g,M⟩:=I.list A;have K:=r.length;exact wpAny_truthy_list g.isList (by rw[74,dN]) ⟨H,[tO],[ar,Ly r,q]⟩
   ·subst f;obtain⟨d,r,g,M⟩:=I.tuple A;have K:=r.length;exact truthy_tuple g (by rw[74,dN]) ⟨H,[tO],[ar,Ly r,q]⟩
   ·subst f;obtain⟨M,j,U,r,m⟩:[AU,aQ]∧[Ct,p]∧∃U,KV Y U∧s.heap.DictOf (m7 X.prog X.w) p U:=I.aH p _ A;have K:Y.length=U.length:=[DO,r];exact wpAny_truthy_dict j m [ac] ⟨H,[tO],[ar,U9 r,q]⟩
  |_=>rw[104,e]
theorem C8(ha:[Ca])(R:∀d,yZ a X.env d=(do
 let v←d;
 standAt a.pos;
 tw [v] (truthy v))):PT X a [sw,ta,λ x m=>∃k,C7 X.K x m k∧Q k m]:=by rw[76];exact isTrue_plain [zK,ha B s w H _ I h,b,r,c,U_ B Y w b x v Q r c n] (R _)
def Va(b:bc):Prop:=∀o i,BS b false o i=operate [o,i] (qN o i)
theorem zP(ha:[Ca])(K:PE X b tb)(G:Va b):PE X [B4,a,b,pos] (h9 (λ x y H Q=>∃z i c,[kw,x=.str z,y=.int i,0≤i,i<2^63,i<z.length,z.cps[i.toNat]?=Z c,Q [Ep] H]) ta tb):=by rw[64,JD [QJ,?_]];obtain⟨z,i,c,rfl,rfl,d,f,g,V,q⟩:=q;rw[42];obtain⟨Y,rfl⟩:=A;have e:JI i z.length=Z i.toNat:=PySem.StrLaws.seqIndex_nonneg d g;exact tail_any (tp P z t) slot_str_getitem.lookup (getItem_str (c:=c) (by rw[66,[aw,[aN,i< -[ap,2^63]]],[ol],[aw,[aN,i≥2^63]],[ol]];rw[e1,e2]<;>rfl) [ar,e,V] ⟨[Ep],M,p.tok _,[rg],q⟩) (G _ _)
theorem vals1{x:V}{W:[bu]}(r:be [x] W):∃u,W=[u]∧bw x u:=by cases r with|cons a S=>cases S;rw[22,_,a]
theorem vals2{x y:V}{W:[bu]}(r:be [x,y] W):∃u m,W=[u,m]∧bw x u∧bw y m:=by cases r with|cons a S=>cases S with|cons d j=>rw[6,j,[d9,_,_,a,d]]
theorem Vb(V:[sK]):[CJ,[M8],∃i j,N=[.int i,.int j]∧Q (.int (if j>i then j else i)) H]:=by
 rw[115];obtain⟨i,j,rfl,q⟩:=h;obtain⟨u,m,rfl,⟨t,rfl⟩,⟨Y,rfl⟩⟩:=vals2 r;refine max_two_ints [tJ] λ S G k=>⟨_,H,I.kept k,?_,q⟩
 by_cases U:j>i;·rw[aI U,aI U];rw[26,J]
 ·rw[aD U,aD U];rw[26,J]
theorem C9(V:[sK]):[CJ,[jb,"min"],∃i j,N=[.int i,.int j]∧Q (.int (if j<i then j else i)) H]:=by
 rw[115];obtain⟨i,j,rfl,q⟩:=h;obtain⟨u,m,rfl,⟨t,rfl⟩,⟨Y,rfl⟩⟩:=vals2 r;refine min_two_ints [tJ] λ S G k=>⟨_,H,I.kept k,?_,q⟩
 by_cases U:j<i;·rw[aI U,aI U];rw[26,J]
 ·rw[aD U,aD U];rw[26,J]
theorem Vc:[CJ,.type "str",∃i,N=[.int i]∧i.natAbs.log2<1920∧Q (.str (toString i)) H]:=by rw[115];obtain⟨i,rfl,M,q⟩:=h;obtain⟨u,rfl,t,rfl⟩:=vals1 r;exact PySem.P.str_of_int M ⟨.str _,H,[tO],[rg],q⟩
theorem Vd:[CJ,[jb,"ord"],∃x,N=[.str x]∧x.length=1∧Q (.int (x.cps.getD 0 0:Nat)) H]:=by rw[115];obtain⟨x,rfl,M,q⟩:=h;obtain⟨u,rfl,t,rfl⟩:=vals1 r;exact ord_of_one M [Kc,_,J]
def Lz(K:aF)(x:V)(H:Hp)(n:Nat):Prop:=match x with|.str y=>y.length≤aQ∧n=y.length|.jd y=>y.size≤aQ∧n=y.size|.ref p=>(∃N,ax K H p N∧n=N.length)∨∃N,bM K H p N∧n=N.length|_=>False
theorem gv:[CJ,[jb,"len"],∃x n,N=[x]∧Lz X.K x H n∧Q (.int n) H]:=by
 rw[115];obtain⟨x,n,rfl,e,q⟩:=h;obtain⟨u,rfl,L⟩:=vals1 r;have a:=zO;have G:aQ=16777216:=yR;cases x with
  |str y=>rw[42];obtain⟨b,f⟩:y.length≤aQ∧n=y.length:=e;subst f;exact len_str [ac] [Kc,_,J]
  |jd y=>rw[42];obtain⟨b,f⟩:y.size≤aQ∧n=y.size:=e;subst f;exact PySem.W.len_bytes [ac] [Kc,_,J]
  |ref p=>
   cases L;have f:(∃N,ax X.K H p N∧n=N.length)∨∃N,bM X.K H p N∧n=N.length:=e;rcases f with⟨N,A,f⟩|⟨N,A,f⟩;·subst f;obtain⟨m,c,d,M⟩:=I.list A;have K:=c.length;exact Calls.call_len_list d.isList (by rw[74,dN]) [Kc,N.length,by simp only[dN];rw[K]]
   ·subst f;obtain⟨m,c,d,M⟩:=I.tuple A;have K:=c.length;exact len_tuple d (by rw[74,dN]) [Kc,N.length,by simp only[dN];rw[K]]
  |_=>rw[104,e]
end
end L2
namespace L2
open PySem PySem.Spec PyProof.Rows
structure rr(h:aE)(x W C:ab)(s:[a_]):Prop where
 obj:h.get? x=Z (sW C W)
 ns:h.Ns1 W s
 ne:W≠x
theorem Ve{h:aE}{W:ab}{s:[a_]}(n:h.Ns1 W s):∃g,h.get? W=Z g∧∀L,Jg L g=Z (s L):=by
 obtain⟨o,T,B,E,b,C,_,N⟩:=n;rw[24,o,E,λ L=>?_];have e:=N L;unfold nsFind findBy at e;rw[←Array.find?_toList]at e;unfold Jg;rw[b];dsimp only;split;·rename_i y q;rw[q]at e;exact ed Z e
 ·rename_i q;rw[q]at e;have a:[aw,T.toList.any (·.refKey)]:=by rw[Ja];intro y c;obtain⟨z,t,I⟩:=C y (Array.mem_toList_iff.mp c);simp[DictEntry.refKey,I]
  have V:¬T.toList.any (·.refKey)=true:=[ar,a,eQ];rw[4,aD V,ed Z e]
theorem rr.look{h:aE}{x W C:ab}{s:[a_]}(I:rr h x W C s):∃g,PySem.W.InstAt h x (sW C W) C (Z g)∧∀L,Jg L g=Z (s L):=let⟨g,E,X⟩:=Ve I.ns;⟨g,[em,I.obj,J,E],X⟩
section
variable{prog:aY}{w:aU}{A:bP}{E:[aX]}{s:aq}{K:aF}{x dx C f:ab}{mA:[a_]}{name:Str}{v:ae}
theorem get_map{r:Bool}{Q:[aX]}(X:K.In s.heap)(I:rr s.heap x dx C mA)(j:mO K C name=true)(W:[Et])(ha:[j0,name])(y:mA name=Z v)(c:PySem.W.handedIn v=true)(h:Q v [vZ,1]):[im,getAttr (.ref x) name r]:=by obtain⟨g,b,a⟩:=I.look;exact PySem.W.get_value X b (RL j).1 (PySem.W.findObj_own W ha J (by rw[a,y])) c h
theorem Vf{d:Sem Bool}{Q:[pF,ae×[bu]]}(X:K.In s.heap)(I:rr s.heap x dx C mA)(j:mO K C name=true)(F:[Ez,name]=Z (Z [dS]))(b:BM K [dS]=true)(y:mA name=none)(h:Q ([dS],[.ref x]) s):[im,JJ (.ref x) name d]:=by obtain⟨g,c,a⟩:=I.look;exact PySem.W.method_fn X c (RL j).1 (RL j).2 F (beq_iff_eq.mp b) (by show(Jg name g).map (·.isSome)=Z false;rw[a,y];rfl) h
theorem Vg{f:[bj]}{Q:[FM]}(X:K.In s.heap)(I:rr s.heap x dx C mA)(G:[Gq])(R:[Ib])(F:R_ K C name=(Z none))(W:[Et])(T:SE mA f)(e:f.length≤aQ)(h:∀S,rr S x dx C (λ y=>[um,y=name,Z,v,mA y])→kq dx s.heap S→Q () [pp,S,s.toks+2]):[im,setAttr (.ref x) name v]:=by obtain⟨g,i,d⟩:=I.look;refine PySem.W.set_plain X i G (PySem.W.osa_open (s:=[vZ,1]) (r:=none) X i R F λ b=>?_);obtain⟨k,V,j⟩:=PySem.W.any_some W;have c:[iF,x]=Z ⟨[iH],Z dx,.plain,#[]⟩:=I.obj;rw[5,aW (au (au (wpAny_loadPart c (au (PySem.W.Looks.here (s:=[vZ,1]) (PySem.W.looks_clsIn X V) ?_)))))];rw[j];rw[3,aW (a:=Z dx) (au (aW (au ?_))),wpAny_nsSet1 (s:=[vZ,1]) I.ns λ S l m=>?_];obtain⟨t,p,q,D,n,o⟩:=l.count (PySem.Within.cons name v T);rw[5,wpAny_lookBehind D [ar,n,pastItsLine_dict (bf o [gL,dP])] ?_];exact aW (h _ ⟨[eY,m.2,_,ja I.ne,I.obj],l,I.ne⟩ m)
theorem Vh{R:[pF,y4]}{U:[bu]}{b:[gj,ae]}(X:K.In s.heap)(N:Sa K C=true)(O:[Ez,[zY]]=Z (Z [dS]))(F:PySem.W.typeIn K [dS]=Z (.type "function"))(h:mT [vY] [P2,U,b] (.call [dS] ⟨.ref [jC]::U,b⟩) (PySem.W.InitBack [jC] R) [gX,[BT,qy].push [PD]]):mT [vY] A (.call [iH] ⟨U,b⟩) R s:=by obtain⟨W,g,d,t,a⟩:=s;exact PySem.W.make_core (PySem.W.makes_of X N) (PySem.W.looks_findIn X O) (λ self=>PySem.W.bind_fn X self F) [db] h
end
def fP(f:Str)(v:V):[fQ,Str×V,[gj,V]]|[]=>[(f,v)]|(g,x)::r=>[wu,g,f,(g,v)::r,(g,x)::fP f v r]
theorem LA(f g:Str)(v:V):∀fs:[gj,V],(fP f v fs).lookup g=[um,g=f,Z,v,fs.lookup g]
 |[]=>by
  show qG g [(f,v)]=_;by_cases h:g=f;·have K:(g==f)=true:=beq_iff_eq.mpr h;simp only[qG,K,aI h]
  ·have K:[aw,g==f]:=[KB,h];simp only[qG,K,aD h]
 |(k,x)::r=>by
  have T:=LA f g v r;rw[[TH]];by_cases C:k=f
  ·rw[aI C];by_cases h:g=k;·have K:(g==k)=true:=beq_iff_eq.mpr h;simp only[qG,K,aI (h.trans C)]
   ·have K:[aw,g==k]:=[KB,h];simp only[qG,K,aD (λ e:g=f=>h (e.trans C.symm))]
  ·rw[aD C];by_cases h:g=k;·have K:(g==k)=true:=beq_iff_eq.mpr h;simp only[qG,K,aD (λ e:g=f=>C (h.symm.trans e))]
   ·have K:[aw,g==k]:=[KB,h];simp only[qG,K];exact T
theorem C_(f:Str)(v:V):∀fs:[gj,V],f∈(fP f v fs).map (·.1)∧∀g,g∈fs.map (·.1)→g∈(fP f v fs).map (·.1)
 |[]=>⟨[bB,fP],λ g h=>by rw[16]⟩
 |(k,x)::r=>by
  obtain⟨n,a⟩:=C_ f v r;rw[[TH]];by_cases C:k=f;·rw[aI C];subst C;rw[0,[al],λ g h=>by rw[51]]
  ·rw[aD C];rw[15,?_,λ g h=>?_];rw[11,bO,cp _ n];·rw[bO]at h⊢;rcases[dE,h]with e|e;rw[2,List.mem_cons.mpr (.inl e),cp _ (a g e)]
theorem LD(f:Str)(v:V):∀fs:[gj,V],[cY,fP f v fs,fs.length+1]
 |[]=>[bB,fP]
 |(k,x)::r=>by
  have T:=LD f v r;rw[[TH]];by_cases C:k=f;·rw[aI C,dP,dP];omega
  ·rw[aD C,dP,dP];omega
theorem ir.some_of{v:V}{o:[B1]}(r:ir (Z v) o):∃u,o=Z u∧bw v u:=by cases o with|none=>rw[104,r]|some u=>rw[22,u,r]
theorem ir.none_of{o:[B1]}(r:ir none o):o=none:=by cases o with|none=>rfl|some u=>rw[104,r]
theorem Vi{v:V}{u:ae}(r:bw v u):PySem.W.handedIn u=true:=by cases v with|bh=>cases[dA,u,Value.none,r];rfl|bl b=>cases[dA,u,pl b,r];rfl|int i=>rw[137,Value.int,i];cases e;rfl|str x=>rw[137,Value.str,x];cases e;rfl|jd b=>rw[137,Value.bytes,b];cases e;rfl|qZ b=>rw[137,SK,b];cases e;rfl|ref a=>rw[110,a,r];rfl|ty n=>cases[dA,u,SS n,r];rfl
section
variable{P:aY}{w:aU}{H H':Hp}{h h':aE}{a C dx:ab}{fs fs':[gj,V]}
theorem zQ(aH:di P w H h)(e:H a=Z [FB,fs]):∃s,[bn,rr h a dx C s,∀f,ir (fs.lookup f) (s f),SE s (fs.map (·.1)),fs.length≤1000,H dx=Z (.own a)]:=by obtain⟨d,z,b,i,s,n,r,q⟩:=[Bh,P,w,H,h,a,[FB,fs],aH a _ e];rw[37,s,⟨i,n,b⟩,r,q,z,d]
end
structure j2(K:aF)(C:ab):Prop where
 pg:[Km]
 hd:[Et]
 po:[Ib]
 sa:[Gq]
theorem j2.get{K:aF}{C:ab}(c:j2 K C)(f:Str):mO K C f=true:=c.pg
def oF(K:aF)(C:ab)(f:Str):Prop:=[j0,f]
theorem oF.Vj{K:aF}{C:ab}{f:Str}(n:oF K C f):R_ K C f=(Z none):=by unfold R_;rw[[dA,[Ez,f],Z none,n]];rfl
structure zR(K:aF)(C:ab)(m:Str)(f:ab):Prop where
 at_:[Ez,m]=Z (Z [dS])
 fn:BM K [dS]=true
 kp:[NN]
section
variable{X:Cx}{pins:[bH]}{σ:St}{H:Hp}{s:aq}{a C dx:ab}{fs:[gj,V]}{f:Str}{v:V}{A:bP}{E:[aX]}
theorem Vk{b:Bool}{Q:[aX]}(I:[ca])(e:H a=Z [FB,fs])(c:j2 X.K C)(n:oF X.K C f)(l:fs.lookup f=Z v)(h:∀u d,([mu,H,d])→bw v u→Q u d):[wJ,A,getAttr [bi] f b]:=by obtain⟨i,O,r,_,_,_⟩:=zQ I.aH e;obtain⟨u,g,j⟩:=ir.some_of (v:=v) (o:=i f) [cE,l,r f];exact get_map I.e9 O (c.get f) c.hd n g (Vi j) (h u _ [tO] j)
theorem LG{m:Str}{g:ab}{d:Sem Bool}{Q:[pF,ae×[bu]]}(I:[ca])(e:H a=Z [FB,fs])(c:j2 X.K C)(k:zR X.K C m g)(l:fs.lookup m=none)(h:Q (.ref g,[rD]) s):[wJ,A,JJ [bi] m d]:=by obtain⟨b,O,r,_,_,_⟩:=zQ I.aH e;have hn:b m=none:=ir.none_of [cE,l,r m];exact Vf I.e9 O (c.get m) k.at_ k.fn hn h
theorem Vl{y:V}{u:ae}{Q:[FM]}(I:[ca])(e:H a=Z [FB,fs])(c:j2 X.K C)(n:oF X.K C f)(d:fs.length<1000)(p:bw y u)(h:∀j,([mu,ag H a [FB,fP f y fs],j])→Q () j):[wJ,A,setAttr [bi] f u]:=by
 obtain⟨v,O,r,w,_,m⟩:=zQ I.aH e;have M:[cY,(fs.map (·.1)),aQ]:=by rw[aC,yR];omega
 refine Vg I.e9 O c.sa c.po n.Vj c.hd w M λ S B t=>h _ ?_
 have i:∃o,[iv,dx]=Z o:=let⟨o,_,_,k,_⟩:=B.ns;⟨o,k⟩
 rw[3,I.write (x:=a) (e:=dx) [ar,e,lW] (.inr m) (λ b q K z=>[mn,t,K,z]) i ?_,⟨[b8,O.ne,m],?_,O.ne,B.obj,_,B.ns,λ g=>?_,λ g l=>?_⟩];·rw[10,LD f y fs]
 ·rw[14,ir ((fP f y fs).lookup g) [um,g=f,Z,u,v g],LA];by_cases q:g=f;·rw[12,aI q,aI q,p]
  ·rw[12,aD q,aD q,r g]
 ·by_cases q:g=f;rw[11,q,(C_ f y fs).1];·rw[43,(C_ f y fs).2 g (w g (λ z=>l ?_)),[um,g=f,Z,u,v g]=none];rw[4,aD q,z]
theorem Inv.made(I:[ca]):[mu,ag [Ii,.own [jC]] [jC] (.ins C s.heap.objs.size []),[gX,[BT,qy].push [PD]]]:=by rw[66,[LL,[BT,qy].get?]=Z qy,dM s.heap J,([BT,qy].push [PD]).get? [jC]=Z [PD],by have:=dM [BT,qy] (o:=[PD]) J;rwa[iR]at this];have B:[BT,qy].Ns s.heap.objs.size (λ _=>none):=⟨qy,#[],_,e1,J,(λ e R=>[Eh,R]),λ _=>J⟩;have r:=I.laid (a:=s.heap.objs.size) (o:=.own [jC]) (h':=[BT,qy]) (t':=s.toks) (λ b u q=>cG _ q) (ba _) [gt,e1];refine r.laid (a:=[jC]) (o:=.ins C s.heap.objs.size []) (t':=s.toks) (λ b u q=>cG _ q) (mP (iR _ _)) ?_;have d:s.heap.objs.size≠[jC]:=dY (qB _);refine⟨by rw[ar d,aw],b7 _,d,e2,λ _=>none,(Heap.Ns1.of_empty B).at λ o q=>cG _ q,λ _=>lW,λ y c=>[e9,J,c]⟩
theorem Vm{prog:aY}{w:aU}{env:Env}{e:bc}{f:Str}{W:Pos}{s:aq}{Q:[aX]}(K:n_ e f env (eval e env)=eval e env)(h:[C2,eval e env,λ o L=>[Bk,getAttr o f true,Q,E,L]]):[im,eval (.Attribute e f W) env]:=Attribute_any_ h (by rw[arm_eval_Attribute,K])
end
def nc(K:aF)(T:TE)(f:Str):TE:=[sw,T,λ x b=>∃a C W fs v,[bn,x=[bi],b a=[ff,C,fs],j2 K C,oF K C f,fs.lookup f=Z v∧Q v b]]
def Vn(K:aF)(T t:TE)(f:Str):TS:=λ D w H=>t w H λ y b=>T w b [TJ]
section
variable{X:Cx}{o e value:bc}{f:Str}{pos pos' tpos:Pos}{ta tv:TE}
theorem bF(R:PE X e ta)(K:[FE,e,f]):PE X (.Attribute e f pos) (nc X.K ta f):=by rw[64,Vm K (bj (R B s w H _ I h) λ u Y⟨x,b,r,L,a,C,W,fs,v,ex,ea,c,n,l,q⟩=>?_)];rw[108,u,L];exact Vk r ea c n l λ g P p d=>⟨v,b,p,d,q⟩
theorem d0(ha:PE X o ta)(e:PE X value tv)(G:[Tb,value,Z (.Attribute o f pos')]):PS X (.Assign [.Attribute o f pos'] value pos) (Vn X.K ta tv f):=by rw[94];refine plainObj_wpAny_Assign_Attribute (bj (e B s w H _ I h) λ u Y⟨y,b,r,A,q⟩=>bj (ha B Y w b _ r q) λ v P⟨x,M,p,L,a,C,W,fs,ex,ea,c,n,l,d⟩=>?_) G;rw[108,v,L];exact Vl p ea c n l A λ g i=>⟨w,_,i,d⟩
end
section
variable{X:Cx}{pins:[bH]}{σ:St}{H:Hp}{s:aq}{A:bP}{E:[aX]}{Q:[aX]}{c:ae}{b:Bool}
inductive j3(K:aF)(H:Hp):[d0,V,ae]where|bh:j3 K H .bh (.type "NoneType")|bl(x:Bool):j3 K H (.bl x) (.type "bool")|int(i:Int):j3 K H (.int i) (.type "int")|str(x:Str):j3 K H (.str x) (.type "str")|qZ(x:UInt64):j3 K H (.qZ x) (.type "float")|aj{a:Addr}{xs:[aK]}(e:H a=some (.aj xs)):[NJ,[Ml]]|iG{a:Addr}{o:Obj}{xs:[aK]}(e:H a=some (.iG o (.aj xs))):[NJ,[Ml]]|tup{a:Addr}{xs:[aK]}(e:H a=some (.tup xs)):[NJ,[Kx]]|dK{a:Addr}{kvs:[mh]}(e:H a=some (.dK kvs)):[NJ,.type "dict"]|dT{a:Addr}{kvs:[lk]}(e:H a=some (.dT kvs)):[NJ,.type "dict"]|ins{a C dx:Addr}{fs:[gj,V]}(e:H a=some [FB,fs])(cl:j2 K C)(ha:PySem.W.findIn K [iH] "__class__"=some (some [N_]))(hn:PySem.W.specialIn K [N_] "__get__"=some (some [jb,"getset_descriptor.__get__"]))(pP:PySem.W.takesIn K [N_]=some true)(hm:PySem.W.mroIn K C [M9]=some true):[NJ,[iH]]
theorem Vo{x:V}{u t:ae}(I:[ca])(L:bw x u)(m:j3 X.K H x t)(e:Sg X.K t c=Z b)(h:∀G,Q (.bool b) {s with toks:=G}):[wJ,A,call [jb,"isinstance"] [u,c]]:=by cases m with|bh=>rw[6,[dA,u,Value.none,L],[Pb,PySem.W.kitx_none,lW]]|bl y=>rw[6,[dA,u,pl y,L],[Pb,PySem.W.kitx_bool,lW]]|int i=>obtain⟨t,q⟩:=(show∃t,u=Value.int i t from L);rw[6,q,[Pb,PySem.W.kitx_int,lW]]|str y=>obtain⟨t,q⟩:=(show∃t,u=Value.str y t from L);rw[6,q,[Pb,PySem.W.kitx_str,lW]]|qZ y=>obtain⟨t,q⟩:=(show∃t,u=SK y t from L);rw[6,q,[Pb,PySem.W.kitx_float,lW]]|@aj a N ea=>rw[110,a,L];obtain⟨_,_,n,_,g⟩:=[Md,.aj N,ea];rw[129,PySem.W.kitx_list,[p_,g]]|@iG a j N ea=>rw[110,a,L];obtain⟨_,_,_,n,_,g⟩:=[Md,.iG j (.aj N),ea];rw[129,PySem.W.kitx_list,[p_,g]]|@tup a N ea=>rw[110,a,L];obtain⟨_,_,_,p⟩:=[Md,.tup N,ea];obtain⟨o,g,r,_⟩:=p;rw[129,PySem.W.kitx_tuple,⟨o,g,r⟩]|@dK a Y ea=>rw[110,a,L];obtain⟨_,_,U,_,p⟩:=[Md,.dK Y,ea];obtain⟨o,T,B,g,r,_⟩:=p;rw[129,PySem.W.kitx_dict,⟨o,g,r.1⟩]|@dT a Y ea=>rw[110,a,L];obtain⟨_,_,N,_,o,T,B,g,r,_⟩:=[Md,.dT Y,ea];rw[129,PySem.W.kitx_dict,⟨o,g,r.1⟩]|@ins a C W fs ea f ha hn pP d=>rw[110,a,L];obtain⟨v,O,_⟩:=zQ I.aH ea;obtain⟨k,l,_⟩:=O.look;rw[129,PySem.W.kitx_own (f.get _) f.hd ha hn pP d,l]
end
end L2
namespace L2
open PySem PySem.Spec PyProof.Rows
structure cy(k:Nat)(A:bP):Prop where
 hd:[xO]
 dp:A.depth+3*k+5<SM
 un:A.units+16*k+200<fq
theorem cy.mono{j k:Nat}{A:bP}(r:cy k A)(h:j≤k):cy j A:=⟨r.hd,by rw[10,r.dp],by rw[10,r.un]⟩
theorem cy.deeper{k:Nat}{A:bP}(r:cy (k+1) A)(env:Env):cy k (A.deeper env):=⟨r.hd,by have:=r.dp;rw[20,A.depth+1+3*k+5<_],by have:=r.un;rw[20,A.units+3+16*k+200<_]⟩
theorem Vp{A:bP}{C:ab}{W:[bu]}{w:[gj,ae]}:[P2,W,w].depth=A.depth+1:=by first|rfl|simp[Sz,Code.weight,Code.isCreation,Code.isGuard,Code.isCaller,Code.frames,SH,guardIds]
theorem Vq{A:bP}{C:ab}{W:[bu]}{w:[gj,ae]}:[P2,W,w].units=A.units+1:=by first|rfl|simp[Sz,Code.cUnits,Code.frames,SH]
theorem cy.make{k:Nat}{A:bP}(r:cy (k+1) A)(C:ab)(W:[bu])(w:[gj,ae]):cy k [P2,W,w]:=⟨r.hd,by have:=r.dp;rw[31,Vp],by have:=r.un;rw[31,Vq]⟩
theorem cy.depth{k:Nat}{A:bP}(r:cy k A):A.depth<SM:=by rw[10,r.dp]
theorem cy.units{k:Nat}{A:bP}(r:cy k A):[Dl,64]:=by rw[10,r.un]
theorem cy.Vr{k:Nat}{A:bP}(r:cy k A):A.units<fq:=by rw[10,r.un]
def gw:TA:=λ _ H Q=>Q [] H
def dc(T:TE)(tr:TA):TA:=[Eo,T,tr w a λ N M=>Q (x::N) M]
section
variable{X:Cx}{e:bc}{es:[on]}{te:TE}{t:TA}{pos:Pos}
theorem aB:PA X [] gw:=λ _ _ _ _ H Q I h=>Bv ⟨[],H,I,.nil,h⟩
theorem ak(ha:PE X e te)(b:PA X es t)(G:[ND]:=by rfl):PA X (e::es) (dc te t):=by intro pos B s w H Q I h;rw[G];rw[101,spliced ([zA,e]::g_ pos [oE,es]),s,vx (bj (ha B s w H _ I h) λ u Y⟨x,a,r,d,n⟩=>?_)];exact bj (b pos B Y w a _ r n) λ W P⟨N,M,p,S,c⟩=>⟨x::N,M,p,(.cons d S),c⟩
def ng(t:TA):TE:=[sw,t,λ N a=>K_ N∧∀p,a p=none→Q [cX] (ag a p (.tup N))]
def LH(t:TA):TE:=[sw,t,λ N a=>[CW,aQ]∧∀p,a p=none→Q [cX] (ag a p (.aj N))]
theorem ff{R}(h:PA X es t):PE X (.Tuple es R pos) (ng t):=by intro B s w H Q I D;refine wpAny_Tuple_spliced (bj (h pos B s w H _ I D) λ W Y⟨N,a,c,r,z,q⟩=>[qv,[cE,r.length,z.1]]);have F:a Y.heap.objs.size=none:=c.aH.fresh (ba _);rw[28,.ref Y.heap.objs.size,ag a Y.heap.objs.size (.tup N),c.laid (t':=Y.toks) (λ b u e=>cG _ e) (ba _) ?_,J,q _ F];rw[23,z,W,r,[d9,_,dM _ J,_,J]]
theorem fz(h:PA X es t):PE X (.List es pos) (LH t):=by intro B s w H Q I D;refine wpAny_List_spliced (bj (h pos B s w H _ I D) λ W Y⟨N,a,c,r,z,q⟩=>[qv,[cE,r.length,z]]);have F:a Y.heap.objs.size=none:=c.aH.fresh (ba _);rw[28,.ref Y.heap.objs.size,ag a Y.heap.objs.size (.aj N),c.laid (t':=Y.toks) (λ b u e=>cG _ e) (ba _) ?_,J,q _ F];rw[9,z,W,0,r,dM _ J]
end
abbrev Sp:=[fQ,V,Hp→[d0,VK,XK]]
abbrev kA:=[b9,List Env,Hp,aq,XK,[aX]]
structure rx(P:aY)(w:aU)(K:aF)(mg:[a_])(base:aE)(A:bP)(outer:[wF])(s:aq)(H:Hp):Prop where
 frames:A.frames=Z outer
 mod:Mod K mg base
 bs:[rh,base.get? b,[rw]=Z o∧H b=none]
 lr:base.objs.size≤s.heap.objs.size
 jX:[M6,base,outer]
 pJ:[wC,dv outer,H]
 aH:di P w H s.heap
 bare:vR s.gens
def CE(outer:[wF])(P:aY)(w:aU)(H:Hp)(s:aq)(Q:VK)(u:ae)(d:aq):Prop:=∃v m,[bn,d.os=s.os,vR d.gens,Un (dv outer) [] H m s.heap d.heap,di P w m d.heap,bw v u∧Q v m]
def CR(T:kA)(outer:[wF])(P:aY)(w:aU)(H:Hp)(s:aq)(Q:VK)(E:XK)(r:y4)(d:aq):Prop:=match r with|.ok (.ret u)=>CE outer P w H s Q u d|.ok _=>False|.error e=>T outer H s E e d
structure aA(P:aY)(w:aU)(K:aF)(mg:[a_])(base:aE)(T:kA)(k:Nat)(f:ab)(v:bq)(a:[bj])(sp:Sp):Prop where
 len:[NW,a.length]
 run:∀(A:bP)(outer:[wF])(s:aq)(H:Hp)(args:Args)(W:[bu])(U:[aK])(Q:VK)(E:XK),[b9,cy k A,[Q4,A],BindsTo s v args (a.zip W),be U W,sp U H Q E→mT (aM P w) A (.call [dS] args) (CR T outer P w H s Q E) s]
theorem aA.mono{P:aY}{w:aU}{K:aF}{mg:[a_]}{base:aE}{T:kA}{j k:Nat}{f:ab}{v:bq}{V:[bj]}{sp:Sp}(F:aA P w K mg base T j f v V sp)(h:j≤k):aA P w K mg base T k f v V sp:=⟨F.len,λ A outer s H args W U Q E u=>F.run A outer s H args W U Q E (u.mono h)⟩
theorem aA.imp{P:aY}{w:aU}{K:aF}{mg:[a_]}{base:aE}{T:kA}{k:Nat}{f:ab}{v:bq}{V:[bj]}{sp m:Sp}(F:aA P w K mg base T k f v V sp)(h:∀U H Q E,m U H Q E→sp U H Q E):aA P w K mg base T k f v V m:=⟨λ U H Q E q=>F.len U H Q E (h _ _ _ _ q),λ A outer s H args W U Q E u R a y G=>F.run A outer s H args W U Q E u R a y (h _ _ _ _ G)⟩
theorem rx.make{P:aY}{w:aU}{K:aF}{mg:[a_]}{base:aE}{A:bP}{outer:[wF]}{s:aq}{H:Hp}(e:[Q4,A])(C:ab)(W:[bu])(a:[gj,ae]):[Q4,[P2,W,a]]:=⟨by first|exact e.frames|(simpa[Sz,Code.envs,SH,pushEnvs]using e.frames),e.mod,e.bs,e.lr,e.jX,e.pJ,e.aH,e.bare⟩
section
variable{X:Cx}{pins:[bH]}{σ:St}{H:Hp}{s s':aq}
theorem Inv.h_(I:[ca]):rx X.prog X.w X.K X.mg X.base X.A X.stack s H:=⟨I.ok.frames,I.ok.mod,I.bs,bf I.ok.lr I.sz,I.stack,I.wg,I.aH,I.bare⟩
theorem Inv.after{Q:VK}{u:ae}(I:[ca])(h:CE X.stack X.prog X.w H s Q u s'):EP X pins σ Q u s':=by obtain⟨v,m,c,f,e,aH,r,q⟩:=h;obtain⟨W,g,d,t,o⟩:=s';obtain rfl:o=s.os:=c;rw[9,v,m,I.call (h':=W) (g':=g) (d':=d) (t':=t) (ch:=[]) e aH f (λ b z=>[Eh,z]),r,q]
end
def LI(sp:Sp)(s:[aK])(E:XK)(t:TA):TE:=[sw,t,λ U a=>sp (U++s) a Q E]
def ud(C:ab)(m:Str)(sp:Sp)(s:[aK])(E:XK)(T:TE)(t:TA):TE:=[sw,T,λ x b=>∃a W fs,(x=[bi]∧b a=[ff,C,fs]∧fs.lookup m=none∧t w b λ U M=>sp (x::(U++s)) M Q E)]
def LJ(C:ab)(sp:Sp)(s:[aK])(E:XK)(t:TA):TE:=[sw,t,λ U a=>∀x W,(a x=none→a W=none→W≠x→sp (.ref x::(U++s)) [Go,a,x,C] (λ v M=>v=.bh∧Q (.ref x) M) E)]
def Binds(K:aF)(v:bq)(V:[bj])(B:[bu]):Prop:=∀(s:aq)(W:[bu]),K.In s.heap→(W++B).length=V.length→BindsTo s v [tN,W] (V.zip (W++B))
theorem Binds.all{K:aF}{v:bq}{V:[bj]}(h:∀W:[bu],W.length=V.length→yX v [tN,W]=pure (V.zip W)):Binds K v V []:=λ s W _ X=>by rw[qD]at X⊢;exact .of_eq (h W X)
def oG(T:kA)(X:Cx)(E:XK):Prop:=∀(B:[bH])(w:St)(H:Hp)(s:aq)(e:ae)(d:aq),([iW])→T X.stack H s E e d→X.xe e d
section
variable{X:Cx}{CX:kA}{k:Nat}{f C:ab}{fd:bq}{ps:[bj]}{sp:Sp}{dvs:[aK]}{ds:[bu]}{E:XK}{x m:Str}{p pos apos:Pos}{e o:bc}{es:[on]}{ta:TE}{t:TA}
theorem Dc{B:[bH]}{w:St}{H:Hp}{s:aq}{Q:VK}{us:[bu]}{vs:[aK]}(F:aA X.prog X.w X.K X.mg X.base CX k f fd ps sp)(c:cy k X.A)(K:[Ot])(b:be dvs ds)(A:oG CX X E)(I:[iW])(r:be vs us)(h:sp (vs++dvs) H Q E):[f8,call [dS] us,[zX],s]:=by have S:be (vs++dvs) (us++ds):=r.append b;have a:[cI,us++ds,ps.length]:=[cE,S.length,F.len _ _ _ _ h];refine S8 (Jz (F.run X.A X.stack s H [tN,us] (us++ds) (vs++dvs) Q E c I.h_ (K s us I.e9 a) S h) λ r d D=>?_);cases r with|error e=>exact A B w H s e d I D|ok g=>cases g with|ret u=>exact I.after D|next=>exact js D|brk=>exact js D|cont=>exact js D
theorem dA(F:aA X.prog X.w X.K X.mg X.base CX k f fd ps sp)(u:cy k X.A)(j:Gl X x)(N:X.mg x=Z [dS])(C:ph X.K [dS]=true)(K:[Ot])(b:be dvs ds)(A:oG CX X E)(ha:PA X (e::es) t)(d:[uk,x]:=by decide)(R:[ND]:=by rfl)(L:[Qo]:=by rfl):[Rj,LI sp dvs E t]:=by rw[76];rw[3,yC (rf I j N ?_ d),RV (h₀:=X.base) I.ok.mod.tZ C (bj (ha pos B s w H _ I h) λ W Y⟨U,a,c,r,q⟩=>[qv,c.e9]) R L];exact Dc F u K b A c r q
theorem de{z:Sem Bool}(R:PE X o ta)(c:j2 X.K C)(N:zR X.K C m f)(F:aA X.prog X.w X.K X.mg X.base CX k f fd ps sp)(i:cy k X.A)(K:[Ot])(d:be dvs ds)(A:oG CX X E)(ha:PA X (e::es) t)(y:[ND]:=by rfl)(D:[Qo]:=by rfl)(n:[rG,[Dw,m,apos,e::es,pos]]=(do
 let G←eval o X.env
 standAt apos.atName
 let(f,first)←tw [G] (JJ G m z)
 callWith pos f first (g_ pos [oE,e::es]) (BX pos (BU [] X.env))):=by rfl):PE X [Dw,m,apos,e::es,pos] (ud C m sp dvs E ta t):=by intro B s w H Q I h;refine PySem.W.methodCall_KW (pl:=z) (bj (R B s w H _ I h) λ u Y⟨x,b,p,L,a,g,fs,ex,ea,l,q⟩=>?_) n;rw[108,u,L];rw[3,LG p ea c N l ?_,RV (first:=[rD]) (h₀:=X.base) I.ok.mod.tZ N.kp (bj (ha pos B Y w b _ p q) λ W P⟨U,M,v,r,j⟩=>[qv,v.e9]) y D];exact Dc (us:=[bi]::W) (vs:=[bi]::U) F i K d A v (.cons J r) j
theorem Vt{i:Sem Bool}(R:PE X o ta)(c:j2 X.K C)(N:zR X.K C m f)(F:aA X.prog X.w X.K X.mg X.base CX k f fd ps sp)(e:cy k X.A)(K:[Ot])(d:be dvs ds)(A:oG CX X E)(g:[rG,[Dw,m,apos,[],pos]]=(do
 let v←eval o X.env
 standAt apos.atName
 let(f,first)←tw [v] (JJ v m i)
 callWith pos f first (g_ pos [oE,[]]) (BX pos (BU [] X.env))):=by rfl):PE X [Dw,m,apos,[],pos] (ud C m sp dvs E ta gw):=by rw[64,PySem.W.methodCall_KW (pl:=i) (bj (R B s w H _ I h) λ u Y⟨x,b,r,L,a,W,fs,ex,ea,l,q⟩=>?_) g];rw[108,u,L];refine LG r ea c N l ?_;exact PySem.W.callWith_K0 (first:=[rD]) r.e9 N.kp (Dc (us:=[rD]) (vs:=[rD]) F e K d A r [qu,J] q)
structure Mk(K:aF)(C f:ab):Prop where
 makes:Sa K C=true
 init:[Ez,[zY]]=Z (Z [dS])
 fn:BM K [dS]=true
 kp:ph K [iH]=true
theorem Vu{B:[bH]}{w:St}{H:Hp}{s:aq}{Q:VK}{W:[bu]}{U:[aK]}(M:Mk X.K C f)(F:aA X.prog X.w X.K X.mg X.base CX k f fd ps sp)(i:cy (k+1) X.A)(K:[Ot])(c:be dvs ds)(A:oG CX X E)(I:[iW])(r:be U W)(h:∀x d,[wg,x,H d=none,d≠x,sp (.ref x::(U++dvs)) (ag (ag H d (.own x)) x (.ins C d [])) (λ v b=>v=.bh∧Q (.ref x) b) E]):[f8,call [iH] W,[zX],s]:=by
 have D:=h [jC] s.heap.objs.size [EQ,vL _] [Ek] (dY (qB _));have p:=Inv.made (C:=C) I;have S:be ((V.ref [jC])::(U++dvs)) ([jS,[jC]]::(W++ds)):=(.cons J (r.append c));have a:[cI,[jS,[jC]]::W++ds,ps.length]:=by have e:=S.length;rw[F.len _ _ _ _ D]at e;exact e.symm
 refine S8 (Vh (f:=f) I.e9 M.makes M.init (beq_iff_eq.mp M.fn) (Jz (F.run _ X.stack _ _ [tN,[jS,[jC]]::W] ([jS,[jC]]::(W++ds)) _ _ E (i.make C W []) (p.h_.make C W []) (K _ ([jS,[jC]]::W) p.e9 a) S D) λ r g o=>?_));cases r with|error e=>exact A B w _ _ e g p o|ok q=>cases q with|ret u=>obtain⟨v,m,l,O,n,j⟩:=p.after o;subst n;rw[0,O,[lc,V.ref [jC],m,l,j]]|next=>exact js o|brk=>exact js o|cont=>exact js o
theorem lB(M:Mk X.K C f)(F:aA X.prog X.w X.K X.mg X.base CX k f fd ps sp)(u:cy (k+1) X.A)(j:Gl X x)(N:X.mg x=Z [iH])(K:[Ot])(b:be dvs ds)(A:oG CX X E)(ha:PA X (e::es) t)(d:[uk,x]:=by decide)(R:[ND]:=by rfl)(L:[Qo]:=by rfl):[Rj,LJ C sp dvs E t]:=by rw[76];rw[3,yC (rf I j N ?_ d),RV (h₀:=X.base) I.ok.mod.tZ M.kp (bj (ha pos B s w H _ I h) λ W Y⟨U,a,c,r,q⟩=>[qv,c.e9]) R L];exact Vu M F u K b A c r q
end
section
variable{X:Cx}{CX:kA}{k:Nat}{f C:ab}{fd:bq}{ps ks:[bj]}{sp:Sp}{E:XK}{x m:Str}{p pos apos kpos:Pos}{e o:bc}{es:[on]}{kws:List vS}{te ta:TE}{t tk:TA}{nm:[j4,Str]}
variable{g:[fQ,ae,[fQ,ae,[bu]]]}{gV:[fQ,V,[fQ,V,[aK]]]}
end
structure bQ(N P:[bj])(sc:dR):Prop where
 kind:sc.kind=[B7]
 co:[aw,sc.isCoroutine]
 gen:[aw,sc.isGenerator]
 nd:N.Nodup
 pre:N.take P.length=P
 par:∀x∈P,[zN,x]=[wE]∨[zN,x]=[vh]
 Vv:∀y∈sc.names,y.2≠.free
theorem LL{f:Str→[j4,jN]}{x:Str}:∀{s:[gj,ae]}{m:[a_]},(∀v,(x,v)∉s)→tG f s m x=m x
 |[],_,_=>J
 |(n,v)::r,m,h=>by
  unfold tG;rw[LL λ w T=>h w (cp _ T)];split
  ·have:x≠n:=by rw[52];exact h v cq
   simp[this]
  ·rfl
theorem LM{f:Str→[j4,jN]}{x:Str}:∀{s:[gj,ae]}{m:[a_]},(∀v,(x,v)∉s)→tH f s m x=m x
 |[],_,_=>J
 |(n,v)::r,m,h=>by
  unfold tH;rw[LM λ w T=>h w (cp _ T)];split;·rfl
  ·have:x≠n:=by rw[52];exact h v cq
   simp[this]
theorem LN{f:Str→[j4,jN]}{x:Str}{v:ae}:∀{P:[bj]}{U:[bu]}{i:Nat}{m:[a_]},[b9,P.Nodup,P[i]?=Z x,U[i]?=Z v,f x=[wE],tG f (P.zip U) m x=Z v]|[],_,_,_,_,h,_,_=>by rw[16]|_::_,[],_,_,_,_,h,_=>by rw[16]|p::P,w::U,0,m,nd,g,r,C=>by simp at g r;subst g;subst r;show tG f ((p,w)::P.zip U) m p=_;unfold tG;rw[LL λ v y=>[Az,nd].1 (BG y).1,aI C];simp|p::P,w::U,i+1,m,nd,g,r,C=>by show tG f ((p,w)::P.zip U) m x=_;unfold tG;exact LN (i:=i) [Az,nd].2 (by rw[75]) [aB,r] C
theorem LO{f:Str→[j4,jN]}{x:Str}{v:ae}:∀{P:[bj]}{U:[bu]}{i:Nat}{m:[a_]},[b9,P.Nodup,P[i]?=Z x,U[i]?=Z v,f x≠[wE],tH f (P.zip U) m x=Z v]|[],_,_,_,_,h,_,_=>by rw[16]|_::_,[],_,_,_,_,h,_=>by rw[16]|p::P,w::U,0,m,nd,g,r,C=>by simp at g r;subst g;subst r;show tH f ((p,w)::P.zip U) m p=_;unfold tH;rw[LM λ v y=>[Az,nd].1 (BG y).1,aD C];simp|p::P,w::U,i+1,m,nd,g,r,C=>by show tH f ((p,w)::P.zip U) m x=_;unfold tH;exact LO (i:=i) [Az,nd].2 (by rw[75]) [aB,r] C
def start(N:[bj])(U:[aK]):St:=U.map Z++lS (N.length-U.length) none
def gy(T:kA)(P:aY)(w:aU)(K:aF)(mg:[a_])(base:aE)(N:[bj])(b:Str)(l:dR)(f:ab)(j:ae)(A:bP)(outer:[wF])(s:aq)(H:Hp)(E:XK):Cx where
 prog:=P
 w:=w
 K:=K
 mg:=mg
 base:=base
 A:=[OZ,b,l]
 N:=N
 eV:=s
 m9:=H
 env:=[NQ,b,l,j]
 outer:=outer
 stack:=[NQ,b,l,j]::outer
 ex:=[]
 calm:=true
 fn:=λ _=>true
 pn:=[]
 xe:=λ e d=>az (aM P w) [OZ,b,l] (leaving [NQ,b,l,j] e) (λ _ V=>T outer H s E e V) (λ a V=>T outer H s E a V) d
theorem LP{sc:dR}{n:Nat}{x:Str}(h:[zN,x]=[vh]):∃c,(fj n sc.names []).lookup x=Z c:=by have q:=RB sc.names n [] [m_];exact Option.isSome_iff_exists.mp q
theorem LQ{T:kA}{P:aY}{w:aU}{K:aF}{mg:[a_]}{base:aE}{N t:[bj]}{F:Str}{o:dR}{f:ab}{G:ae}{A:bP}{outer:[wF]}{s Y:aq}{H:Hp}{E:XK}{W:[bu]}{U:[aK]}(S:bQ N t o)(l:[xO])(M:[Q4,A])(X:U.length=t.length)(r:be U W)(x:InCallC s s.heap.objs.size (tG [NQ,F,o,G].kindOf (t.zip W) λ _=>none) (fj [jC] o.names []) (tH [NQ,F,o,G].kindOf (t.zip W) λ _=>none) Y):Inv (gy T P w K mg base N F o f G A outer s H E) [] (start N U) H Y:=by
 have L:t.length≤N.length:=by rw[38,[B2,S.pre],jJ];omega
 obtain⟨g,tk,rfl,C⟩:=x.done;have I:∀b:ab,b∉(gy T P w K mg base N F o f G A outer s H E).ex:=λ b z=>[Eh,show b∈([]:[aT])from z]
 refine⟨⟨M.mod,S.kind,J,J,ba _,λ y z c g d=>?_,λ y m=>?_,λ y c _ h=>?_,λ _=>l,Around.frames_deeper M.frames,.inr [ge,J],λ b z=>[e9,z,I b],M.bs,M.lr,λ b _ _=>I b,λ b z=>[e9,z,I b],M.jX,M.pJ⟩,J,M.bare,Un.kept C,⟨_,x.toInCall.ns,λ i y v g d j=>?_⟩,λ y c h=>[gt,x.cell y c h],M.aH.fresh (ba _),λ y c h=>?_,λ p R=>[Eh,show p∈[CD,ab×Obj]from R],M.aH.kept C,?_⟩;·exact name_of_addr x.apart (kh g) (kh d)
 ·have m:o.names.lookup y=[vh]∨o.names.lookup y=Z .free:=m;rcases m with m|m;rw[2,LP m,[e9,J,S.Vv _ (kh m)]]
 ·exact oa (x.above y c (kh h))
 ·have O:i<U.length:=by
   unfold start at d;by_cases O:i<U.length;·exact O
   ·rw[List.getElem?_append_right (by rw[88])]at d;rw[List.getElem?_replicate]at d;split at d<;>cases d
  have ha:U[i]?=Z v:=by unfold start at d;rw[Rw (by rw[88]),cJ]at d;cases e:U[i]? with|none=>rw[95,e]|some a=>rw[95,e];rfl
  obtain⟨u,B,D⟩:=r.get ha;have R:t[i]?=Z y:=by rw[←S.pre,List.getElem?_take_of_lt [ac]];exact g
  have Q:t.Nodup:=[cE,S.pre,S.nd.sublist (List.take_sublist _ _)];rw[29,u,D];rcases S.par y (bt R)with k|k;·rw[21,⟨k,LN Q R B k⟩]
  ·obtain⟨c,e⟩:=LP (n:=[jC]) k;refine[zQ,.inl k,c,e,?_];have q:=x.cell y c e;rw[72,LO Q R B (by rw[14,o.names.lookup y≠_,k];decide),q]
 ·exact M.aH.fresh (oa (x.above y c (kh h)))
 ·unfold start;show _=N.length;rw[dh,aC,II];omega
theorem Dd{T:kA}{P:aY}{w:aU}{K:aF}{mg:[a_]}{base:aE}{k:Nat}{f:ab}{L h:Str}{D:vN}{B:List a9}{l:dR}{dV kV p pm j ct oc:ae}{an od:[ug]}{z:[C_]}{N c:[bj]}{sp:Sp}(lk:[pv,f]=Z ⟨oc,od,.func (km L h D B l dV kV p pm an j ct),z⟩)(F:sZ K j h=true)(S:bQ N c l)(W:[NW,c.length])(X:[TU,[OZ,h,l],gi,gy T P w K mg base N h l f j A outer s H E,B]):aA P w K mg base T (k+1) f (km L h D B l dV kV p pm an j ct) c sp:=by
 refine⟨W,λ A outer s H args us U Q E a M hb r i=>?_⟩;have hl:=W _ _ _ _ i;have KX:K.In s.heap:=M.mod.tZ.keeps [Q_];have R:s.heap.NoLimit:=M.mod.nolimit.keeps [Q_];have Y:∀y∈c.zip us,[zP,y.1]=[wE]∨([zP,y.1]=[vh]∧([OY,[]].lookup y.1).isSome=true):=λ⟨n,v⟩hy=>by rcases S.par n (BG hy).1 with q|q;rw[2,.inl q,[jT,q,RB _ _ _ (.inl q)]]
 rw[3,codeAny_call_function a.depth (KX _ _ lk) rfl S.co S.gen rfl (PySem.W.codeRec_of KX F) (hb _ _ _ _ ?_),wpAny_newFunctionEnv_cells S.kind Y λ env he s1 x=>?_];subst he;refine⟨R.keeps x.toInCall.keep,codeAny_func ?_⟩;obtain⟨t,ht,hq⟩:=X A outer s H U Q E (a.deeper _) i;have I:Inv (gy T P w K mg base N h l f j A outer s H E) [] (start N U) H s1:=LQ S a.hd M hl r x;refine gG (ht [] s1 (start N U) H _ I hq) (λ fl d G=>?_) λ e d G=>G
 have C:∀{g:St}{m:Hp}{v:V}{u:ae},(Inv (gy T P w K mg base N h l f j A outer s H E) [] g m d→bw v u→Q v m→CE outer P w H s Q u d):=λ{g m v u}J O q=>⟨v,m,J.os,J.bare,J.base,J.aH,O,q⟩
 cases fl with|ret u=>obtain⟨v,g,m,J,O,q⟩:=G;exact C J O q|next=>obtain⟨g,m,J,q⟩:=G;exact C (v:=V.bh) (u:=Value.none) J rfl q|brk=>rw[149]|cont=>rw[149]
end L2
namespace L2
open PySem PySem.Spec PyProof.Rows
section
variable{X:Cx}{x:Str}{p pos:Pos}{e:bc}{es:[on]}{t:TA}{id T:String}{r:[D_]}
def LR(r:[D_])(t:TA):TE:=[sw,t,λ U a=>r U a Q]
theorem cX(V:gP X [jb,id] r)(j:Gl X x)(N:X.mg x=none)(y:vK x=Z [jb,id])(ha:PA X (e::es) t)(hn:x≠"__name__":=by decide)(d:[uk,x]:=by decide)(R:[ND]:=by rfl)(L:[Qo]:=by rfl):[Rj,LR r t]:=by rw[64,yC (m_ I j N y ?_ hn d)];exact PyProof.Rows.callWith_builtin1 (bj (ha pos B s w H _ I h) λ W Y⟨U,a,c,b,n⟩=>V B Y w a U W Q c b n) R L
theorem ry(V:gP X (.type T) r)(j:Gl X x)(N:X.mg x=none)(y:vK x=Z (.type T))(ha:PA X (e::es) t)(hn:x≠"__name__":=by decide)(d:[uk,x]:=by decide)(R:[ND]:=by rfl)(L:[Qo]:=by rfl):[Rj,LR r t]:=by rw[64,yC (m_ I j N y ?_ hn d)];exact vp (bj (ha pos B s w H _ I h) λ W Y⟨U,a,c,b,n⟩=>V B Y w a U W Q c b n) R L
end
end L2
namespace HT
open PySem PyProof.Rows
theorem Vw(A:bP)(s:aq)(a:Int)(t:Tok)(c:Int)(u:Tok):∃e,pz A s (.int a t) (.int c u) e∧(e=true↔a=c):=⟨(a==c),SeqAt.EqAt.int_int a t c u,[al]⟩
section
open PySem.SeqAt
open PySem.AutoSeq1(wpAny_loadPart')
open PySem.MeetsSeq PySem.MeetsSeq2 PySem.MeetsSeq3
end
section
variable{prog:aY}{w:aU}{A:bP}{E:[aX]}{s:aq}
def bz(n d:Nat):(Option Int→Nat)|none=>d|Z v=>[ON,v,v.toNat]
theorem wu(n d:Nat):bz n d none=d:=J
theorem wx(n d k:Nat):bz n d (Z [ap,k])=min k n:=by show[ON,[ap,k],[Fd,k]]=min k n;rw[aD [ac],vy]
theorem De(n d:Nat)(a:d≤n)(o:[vX]):bz n d o≤n:=by
 cases o with
  |none=>exact a
  |some v=>
   show[ON,v,v.toNat]≤n;by_cases y:v<0;·rw[31,aI y]
   rw[11,aD y,Sh _ _]
theorem LS(v:Int)(n d:Nat):[EL,v<0,max (v+[cQ]) 0,min,v,[cQ]]=[aV,bz n d (Z v)]:=by
 show[EL,v<0,max (v+[cQ]) 0,min,v,[cQ]]=[aV,[ON,v,v.toNat]];by_cases y:v<0;·rw[74,aI y]
 ·rw[74,aD y]
theorem Vx(c O:[vX])(n:Nat):Rq c O 1 [cQ]=([aV,bz n 0 c],[aV,bz n n O]):=by
 have g:¬([rc]<0):=[ac];unfold Rq;simp only[g,iE];refine Prod.ext ?_ ?_;·cases c with|none=>rfl|some v=>exact LS v n 0
 ·cases O with|none=>rfl|some v=>exact LS v n n
theorem Vy(i j:Nat):Iq [lG] [ap,j] 1=j-i:=by unfold Iq;have g:[rc]>0:=[ac];simp only[g,il,Int.ediv_one];split<;>omega
theorem LU{v:ae}{o:[vX]}{Q:[pF,[vX]]}(p:IsPart v o)(h:Q o s):[im,Builtin.Slice.slicePartIndex v]:=by cases p with|none=>exact slicePart_none h|int i t=>exact slicePart_int h
theorem Vz{Y:ab}{e k:ae}{c O:[vX]}{n:Nat}{Q:[pF,Int×Int×Nat]}(G:s.heap.IsSliceOf Y e k .none)(d:IsPart e c)(y:IsPart k O)(h:Q ([aV,bz n 0 c],1,bz n n O-bz n 0 c) s):[im,Builtin.Slice.sliceApplied (.ref Y) (pure [cQ])]:=by obtain⟨a,f,g,b⟩:=id G;unfold Builtin.Slice.sliceApplied Builtin.Slice.sliceFields;rw[5,au (f7 f b (x:=e) J (au (f7 f b (x:=k) J (au (f7 f b (x:=.none) J (aW ?_))))))];rw[5,slicePart_none ?_];rw[49,_,[wO,[rc]==0]];rw[[DP]];rw[5,LU d (au (LU y (au (aW ?_))))];rw[49,_,match Rq c O 1 [cQ]with|(c,O)=>pure (c,[rc],Iq c O 1)];rw[Vx c O n];rw[39,az _ _ (pure ([aV,bz n 0 c],[rc],Iq [aV,bz n 0 c] [aV,bz n n O] 1)) _ _ s,Vy,aW h]
theorem VA(N:[lC])(i k:Nat):([ul,k].filterMap λ(m:Nat)=>N[([lG]+[ap,m]*1).toNat]?).toArray=((N.toList.drop i).take k).toArray:=by
 have e:(λ(m:Nat)=>N[([lG]+[ap,m]*1).toNat]?)=λ m=>N[i+m]?:=by funext m;rw[50,([lG]+[ap,m]*1).toNat=i+m];rw[this]
 rw[e];rw[38,pick_run N i k,List.filterMap_map];have e2:((λ x=>N[x]?)∘λ x=>i+x)=λ m=>N[i+m]?:=J;rw[e2]at this;rw[this]
theorem VB{t Y:ab}{a:[lC]}{e k:ae}{c O:[vX]}{Q:[aX]}(F:IsTup s.heap t a)(G:s.heap.IsSliceOf Y e k .none)(d:IsPart e c)(y:IsPart k O)(T:¬([Mv]=0∧bz a.size a.size O=a.size))(h:Q [nG] [gX,[C5,"tuple",[KZ,(a.toList.drop [Mv]).take [NU]]]])(b:a.size≤aQ):[im,qN (.ref t) (.ref Y)]:=by
 have l:sizeOk [KZ,(a.toList.drop [Mv]).take [NU]]:=by show((a.toList.drop [Mv]).take [NU]).toArray.size≤aQ;rw[dN,jJ,lQ,nR];omega
 have U:bz a.size a.size O≤a.size:=De _ _ (ba _) O;obtain⟨f,j,g,i⟩:=id G;have o:(s.TypeIs (.ref Y) "slice"):=⟨f,j,g⟩;unfold qN;try with_reducible refine k9 ?_
 first|rw[5,aW ?_]|skip
 rw[3,au (wpAny_sequenceKey F.typeIs [bd] ?_),au (vq (name:=k_ "__getitem__") F.typeIs PyProof.Rows.slot_tuple_getitem (qC PyProof.Rows.slot_tuple_getitem F.typeIs entry_tuple_getitem ?_ (args_tuple_getitem _ _)))];rw[49,_,Builtin.Tuple.tupleItemsOf (.ref t)>>=_];rw[3,au (tupleItemsOf_ F ?_),au (wpAny_typeOf o ?_)];rw[aI [bd]];rw[5,Vz G d y ?_];have W:¬(([aV,[Mv]]==0&&[rc]==1&&[NU]==a.size)=true):=by intro q;rw[dO,dO]at q;have n:[aV,[Mv]]=0:=eq_of_beq q.1.1;have X:[NU]=a.size:=eq_of_beq q.2;exact T ⟨[ac],[ac]⟩
 rw[49,_,[wO,[aV,[Mv]]==0&&[rc]==1&&[NU]==a.size]];rw[aD W,VA];first|exact au (m:=Iv _) (nU (aW [de,aW h]) l)|exact au (m:=Iv _) (nU (au (aW (aW [de,aW h]))) l)|exact au (au (m:=Iv _) (nU (aW (aW [de,aW h])) l))|exact au (au (m:=Iv _) (nU (aW [de,aW h]) l))
end
end HT
namespace L2
open PySem PySem.Spec PyProof.Rows
abbrev TO:=St→[d0,Hp,[wT,[vX]]]
def PO(X:Cx)(e:[j4,bc])(t:TO):Prop:=[ST,[wT,[vX]],evalPart e X.env,λ u d=>∃o m,[DL,w,IsPart u o∧Q o m]]
def Df:TO:=λ _ H Q=>Q none H
def Dg(t:TE):TO:=[Eo,t,∃i,x=.int i∧Q (Z i) a]
theorem intsAre_of{ns:[bF]}:∀{W:[bu]},be (ns.map V.int) W→om W ns:=by induction ns with|nil=>intro W r;rw[vI]at r;rw[6,r,.nil]|cons n ns T=>intro W r;rw[bO]at r;cases r with|cons a S=>obtain⟨t,e⟩:=a;subst e;exact .cons n t (T S)
section
variable{X:Cx}{e:bc}{te:TE}{lo hi:[j4,bc]}{tl th:TO}{pos p2:Pos}
theorem pQ:PO X none Df:=by rw[76];rw[4,evalPart_none,aW ⟨none,H,I,.none,h⟩]
theorem nh(h:PE X e te):PO X (Z e) (Dg te):=by intro B s w H Q I T;rw[13,evalPart_some,bj (h B s w H _ I T) λ u Y⟨x,a,r,b,n⟩=>?_];obtain⟨i,rfl,q⟩:=n;obtain⟨t,rfl⟩:=b;exact⟨Z i,a,r,.int i t,q⟩
def zS(X:Cx)(r:[O9]):Prop:=∀(B:[bH])(s:aq)(w:St)(H:Hp)(x:V)(v e k:ae)(lo hi:[vX])(Y:ab)(Q:VK),[b9,[iW],bw x v,s.heap.IsSliceOf Y e k .none,IsPart e lo,IsPart k hi→r x lo hi H Q→∃T c,typeLookup (.type T) "__getitem__"=pure (Z [jb,c])∧(s.TypeIs v T)∧[f8,qN v (.ref Y),[zX],s]]
def Dh(r:[O9])(te:TE)(tl th:TO):TE:=[Eo,te,tl w a λ l M=>th w M λ u L=>r x l u L Q]
theorem oH{r:[O9]}(d:zS X r)(R:PE X e te)(a:PO X lo tl)(o:PO X hi th):PE X [B4,e,.Slice lo hi none p2,pos] (Dh r te tl th):=by
 rw[76];rw[3,JD [zK,R B s w H _ I h,c,i,g,?_],wpAny_Slice (bj (a B Y w c _ i n) λ E P⟨l,M,t,z,f⟩=>bj (o B P w M _ t f) λ G C⟨u,L,A,N,y⟩=>?_)];rw[evalPart_none];refine aW ?_;have D:[jB,w,L,[Tw]]:=A.kept (t':=C.toks) λ b p q=>cG _ q
 obtain⟨T,K,m,F,j⟩:=d B [Tw] w L x v E G l u C.heap.objs.size Q D g (Heap.IsSliceOf.new ..) z N y;show[f8,SU e (.Slice lo hi none p2) v (.ref C.heap.objs.size),[zX],[Tw]];exact tail_any (ops:=[.ref C.heap.objs.size,v]) F m j (by with_unfolding_all rfl)
def dB(N:[aK])(lo hi:[vX]):[aK]:=((N.drop [DJ,0,lo]).take ([DJ,N.length,hi]-[DJ,0,lo]))
theorem Dk(N:[aK])(lo hi:[vX]):[cY,dB N lo hi,N.length]:=by unfold dB;rw[jJ,lQ];omega
def LV(K:aF):[O9]:=λ x lo hi H Q=>∃a N,[bn,x=[bi],bM K H a N,¬([DJ,0,lo]=0∧[DJ,N.length,hi]=N.length),l8 (dB N lo hi)=true,[NT,.tup (dB N lo hi)]]
theorem VC:zS X (LV X.K):=by intro B s w H x v e k lo hi c Q I L G d y h;obtain⟨a,N,rfl,A,T,aH,q⟩:=h;cases L;obtain⟨m,r,F,M⟩:=I.tuple A;have K:m.toArray.size=N.length:=[ar,dN,r.length.symm];rw[3,⟨"tuple",_,PyProof.Rows.slot_tuple_getitem.lookup,F.typeIs,?_⟩,HT.VB F G d y [ar,K,T] ?_ [ar,K,M]];rw[K];rw[69,[Qp,I.laid (t':=s.toks) (o:=.tup (dB N lo hi)) (λ b i q=>cG _ q) (ba _) ?_,q],⟨⟨bf (Dk N lo hi) M,aH⟩,_,((r.drop [DJ,0,lo]).take ([DJ,N.length,hi]-[DJ,0,lo])),IsTup.new _ _⟩]
end
end L2
namespace L2
open PySem PySem.Spec PyProof.Rows
def pR(n:Nat)(i:Int):[wS]:=if 0≤i then[LW,i<n,i.toNat]else[LW,-[cQ]≤i,(i+n).toNat]
def kB{m:Type}(N:[li])(i:Int):[j4,m]:=(pR N.length i).bind λ j=>N[j]?
theorem VD{n:Nat}{i:Int}{j:Nat}(h:pR n i=Z j):(JI i n=Z j∧j<n∧-[cQ]≤i∧i<n):=by
 unfold pR at h;by_cases h0:0≤i
 ·rw[aI h0]at h;by_cases g:i<n;·rw[aI g]at h;have e:i.toNat=j:=[dF,h];rw[23,by rw[seqIndex_of h0 g,e],[ac],[ac],g]
  ·rw[44,aD g]
 ·rw[aD h0]at h;by_cases g:-[cQ]≤i;·rw[aI g]at h;have e:(i+n).toNat=j:=[dF,h];rw[23,by rw[seqIndex_neg [ac] g,e],[ac],g,[ac]]
  ·rw[44,aD g]
theorem LW{m:Type}{N:[li]}{i:Int}{v:m}(h:kB N i=Z v):∃j,[bn,JI i N.length=Z j,N[j]?=Z v,j<N.length,-[ap,N.length]≤i,i<N.length]:=by unfold kB at h;cases e:pR N.length i with|none=>rw[44,e]|some j=>rw[e]at h;obtain⟨g,r,P,w⟩:=VD e;rw[37,j,g,h,r,P,w]
theorem VE{m:Type}{N:[li]}{j:Nat}{v:m}(h:N[j]?=Z v):kB N [ap,j]=Z v:=by
 have U:j<N.length:=[eJ,h];have e:pR N.length [ap,j]=Z j:=by unfold pR;rw[aI [ac],aI [ac]];simp
 unfold kB;rw[4,e,h]
theorem Dl{m:Type}(N:[li])(v:m):kB (N++[v]) (-1)=Z v:=by
 have X:[cI,N++[v],N.length+1]:=[al];have e:pR (N++[v]).length (-1)=Z N.length:=by unfold pR;rw[X,[DP],aI [ac]];congr 1;omega
 unfold kB;rw[e];show(N++[v])[N.length]?=Z v;simp
def VF(b:bc):Prop:=∀o i,BS b false o i=operate [o,i] (qN o i)
def zT(X:Cx)(r:R2):Prop:=∀(a e:bc)(B:[bH])(s:aq)(w:St)(H:Hp)(x y:V)(v u:ae)(Q:VK),[b9,[iW],bw x v,bw y u,r x y H Q,BS e false v u=operate [v,u] (qN v u)→[f8,SU a e v u,[zX],s]]
def pS(X:Cx)(c:String)(r:[Ev]):Prop:=∀(B:[bH])(s:aq)(w:St)(H:Hp)(x:V)(N:[aK])(v:ae)(W:[bu])(Q:VK),[b9,[iW],bw x v,be N W,r x N H Q,[f8,call [jb,c] (v::W),[zX],s]]
section
variable{X:Cx}{a b:bc}{ta tb:TE}{pos:Pos}
theorem fQ{r:R2}(c:zT X r)(ha:[Ca])(K:PE X b tb)(G:VF b):PE X [B4,a,b,pos] (h9 r ta tb):=by rw[76];exact JD [QJ,c a b B P w M x y v u Q p L A q (G _ _)]
def LY(K:aF):R2:=λ x y H Q=>∃p N i v,[bn,x=[cX],y=.int i,ax K H p N,kB N i=Z v,Q v H]
def rz(K:aF):R2:=λ x y H Q=>∃p N i v,[bn,x=[cX],y=.int i,bM K H p N,kB N i=Z v,Q v H]
theorem ni:zT X (LY X.K):=by
 intro o l B s b H x y v u Q I L A h G;obtain⟨p,N,i,z,rfl,rfl,D,R,q⟩:=h;cases L;obtain⟨t,rfl⟩:=A;obtain⟨m,r,f,M⟩:=I.list D;obtain⟨j,g,a,P,e,k⟩:=LW R;obtain⟨w,n,V⟩:=r.get a;have c:=r.length;have hn:=zO;have C:EP X B b Q w s:=⟨z,H,I,V,q⟩;by_cases h0:0≤i
 ·have U:i.toNat=j:=by rw[seqIndex_of h0 k]at g;exact[dF,g]
  exact item_listR f.isList h0 [ac] (by rw[U];simpa using n) C G
 ·have U:(i+[ap,m.toArray.size]).toNat=j:=by rw[seqIndex_neg [ac] e]at g;rw[dN,←c];exact[dF,g]
  exact subscriptTail_builtinR (x:=w) f.isList.typeIs slot_list_getitem.lookup (wpAny_getItem_list_neg (Q:=λ r d=>r=w∧EP X B b Q r d) f.isList [ac] (by rw[dN]<;>omega) [ac] (by rw[U];simpa using n) [lu,C]) G
theorem j4:zT X (rz X.K):=by intro o l B s b H x y v u Q I L A h G;obtain⟨p,N,i,z,rfl,rfl,D,R,q⟩:=h;cases L;obtain⟨t,rfl⟩:=A;obtain⟨m,r,f,M⟩:=I.tuple D;obtain⟨j,g,a,P,e,k⟩:=LW R;obtain⟨w,n,V⟩:=r.get a;have c:=r.length;have hn:=zO;have C:EP X B b Q w s:=⟨z,H,I,V,q⟩;exact subscriptTail_builtinR (x:=w) f.typeIs slot_tuple_getitem.lookup (getItem_tuple (j:=j) (Q:=λ r d=>r=w∧EP X B b Q r d) f [ac] [ac] (by rw[dN,←c];exact g) [aB,n] [lu,C]) G
theorem VG(c O:[vX])(n:Nat):(vM c O none n).1=[aV,HT.bz n 0 c]∧(vM c O none n).2.1=[aV,HT.bz n n O]∧(vM c O none n).2.2=1:=by
 refine[we,?_,?_]
 ·cases c with
   |none=>simp[vM,HT.bz]
   |some i=>
    simp only[vM,HT.bz,Option.getD_none,show[rc]>0 by decide,il];by_cases h:i<0;·simp only[h,il]<;>omega
    ·simp only[h,iE]<;>omega
 ·cases O with
   |none=>simp[vM,HT.bz]
   |some i=>
    simp only[vM,HT.bz,Option.getD_none,show[rc]>0 by decide,il];by_cases h:i<0;·simp only[h,il]<;>omega
    ·simp only[h,iE]<;>omega
theorem VH(m:[bu])(c O:[vX]):slicePick m.toArray c O none=((m.drop (HT.bz m.length 0 c)).take (HT.bz m.length m.length O-(HT.bz m.length 0 c))).toArray:=by obtain⟨g,r,P⟩:=VG c O m.toArray.size;unfold slicePick;rw[g,r,P];simp only[sliceRange_one,pick_run,dN]<;>rfl
def VI(K:aF):[O9]:=λ x c O H Q=>∃a N,x=[bi]∧ax K H a N∧[NT,.aj (dB N c O)]
theorem wz:zS X (VI X.K):=by intro B s w H x v f k c O e Q I L G d y h;obtain⟨a,N,rfl,A,q⟩:=h;cases L;obtain⟨m,r,F,M⟩:=I.list A;have K:=r.length;rw[3,⟨"list",_,slot_list_getitem.lookup,F.isList.typeIs,?_⟩,wpAny_getItem_list_slice F.isList G d y .none [al] ?_ (by rw[dN]<;>omega)];rw[VH,←K];rw[69,[Qp,I.laid (t':=s.toks) (o:=.aj (dB N c O)) (λ b i q=>cG _ q) (ba _) ?_,q],⟨bf (Dk N c O) M,_,0,((r.drop [DJ,0,c]).take ([DJ,N.length,O]-[DJ,0,c])),(dM _ J)⟩]
def oJ:V→Bool|.bh=>true|.bl _=>true|.int _=>true|.str _=>true|_=>false
def kD:V→V→Bool|.bh,.bh=>true|.bl a,.bl b=>a==b|.bl a,.int b=>[JP,a,0]==b|.int a,.bl b=>a==[JP,b,0]|.int a,.int b=>a==b|.str a,.str b=>a==b|_,_=>false
theorem VJ{A:bP}{s:aq}{y x:V}{u v:ae}(c:bw y u)(L:bw x v)(f:oJ y=true)(d:oJ x=true):pz A s u v (kD y x):=by cases y with|bh=>cases c;rw[157,SeqAt.EqAt.same _,SeqAt.EqAt.none_bool b,SeqAt.EqAt.none_int b t,SeqAt.EqAt.none_str b t]|bl a=>cases c;rw[157,SeqAt.EqAt.bool_none a,SeqAt.EqAt.bool_bool a b,SeqAt.EqAt.bool_int a b t,SeqAt.EqAt.bool_str a b t]|int a=>obtain⟨Y,rfl⟩:=c;rw[157,SeqAt.EqAt.int_none a Y,SeqAt.EqAt.int_bool a Y b,SeqAt.EqAt.int_int a Y b t,SeqAt.EqAt.int_str a Y b t]|str a=>obtain⟨Y,rfl⟩:=c;rw[157,SeqAt.EqAt.str_none a Y,SeqAt.EqAt.str_bool a Y b,SeqAt.EqAt.str_int a Y b t,SeqAt.EqAt.str_str a Y b t]|_=>rw[78,f]
def jy(x:V)(u:ae):Bool:=match u with|.none=>kD .bh x|.bool b=>kD (.bl b) x|.int i _=>kD (.int i) x|.str z _=>kD (.str z) x|_=>false
theorem LZ{x y:V}{u:ae}(r:bw y u)(f:oJ y=true):jy x u=kD y x:=by cases y with|bh=>cases r;rfl|bl b=>cases r;rfl|int i=>rw[85];rfl|str z=>rw[85];rfl|_=>rw[78,f]
theorem wA{x:V}:∀{N:[aK]}{W:[bu]},be N W→N.all oJ=true→W.any (jy x)=N.any λ y=>kD y x|_,_,.nil,_=>J|y::N,u::W,.cons r t,f=>by rw[vG,dO]at f;rw[k8,k8,LZ r f.1,wA t f.2]
theorem wB{A:bP}{s:aq}{x:V}{v:ae}(L:bw x v)(a:oJ x=true):∀{N:[aK]}{W:[bu]},be N W→N.all oJ=true→∀u∈W,pz A s u v (jy x u)|_,_,.nil,_=>λ u o=>by cases o|y::N,u::W,.cons r t,f=>λ g o=>by rw[vG,dO]at f;rcases[dE,o]with rfl|o;rw[11,LZ r f.1,VJ r L f.1 a];·exact wB L a t f.2 g o
def i2(x:V)(N:[aK]):Bool:=N.any λ y=>kD y x
def Dq(K:aF)(g:Bool):R2:=λ x y H Q=>∃p N,[bn,y=[cX],ax K H p N∨bM K H p N,oJ x=true,N.all oJ=true,Q (.bl [EL,g,! i2 x N,i2,x,N]) H]
theorem Dr:dz X (f9 .In) (Dq X.K false):=by
 intro B s a H x y v u Q I L A h;obtain⟨p,N,rfl,D,b,fs,q⟩:=h;cases A;rcases D with D|D;·rw[146,I.list,SeqAt.in_listAt,d.isList,[QP]]
 ·rw[146,I.tuple,SeqAt.in_tupleAt,d,[QP]]
theorem L0:dz X (f9 .NotIn) (Dq X.K true):=by
 intro B s a H x y v u Q I L A h;obtain⟨p,N,rfl,D,b,fs,q⟩:=h;cases A;rcases D with D|D;·rw[146,I.list,SeqAt.notIn_listAt,d.isList,[QP]]
 ·rw[146,I.tuple,SeqAt.notIn_tupleAt,d,[QP]]
theorem VL:[CJ,[Ml],∃p G,N=[[cX]]∧(ax X.K H p G∨bM X.K H p G)∧[NX,Q,.aj G]]:=by
 rw[115];obtain⟨p,G,rfl,D,q⟩:=h;obtain⟨u,rfl,L⟩:=vals1 r;cases L;have C:∀(m:[bu]),be G m→G.length≤aQ→∀(S:aE)(c:Nat),(∀b O,[rw]=Z O→[iv,b]=Z O)→[iv,s.heap.objs.size]=[Mx,[Ml],none,.seq m.toArray c,#[]]→EP X B w Q [nG] [gX,S]:=λ m A M S c kp e=>[Qp,I.laid (t':=s.toks) kp (ba _) [Bh,X.prog,X.w,_,S,_,.aj G,⟨M,m,c,A,e⟩],q]
 rcases D with D|D;·obtain⟨m,A,d,M⟩:=I.list D;have K:=A.length;obtain⟨o,E,V,n,a⟩:=d.isList;exact call_list_seq p [db] E V a (λ S c kp e=>C m A M S c kp e) (by simp only[dN]<;>omega)
 ·obtain⟨m,A,d,M⟩:=I.tuple D;have K:=A.length;obtain⟨o,E,V,n,a⟩:=d;exact call_list_seq p (.inr J) E V a (λ S c kp e=>C m A M S c kp e) (by simp only[dN]<;>omega)
theorem L1:[CJ,[Kx],∃p G,N=[[cX]]∧((ax X.K H p G∧l8 G=true∧[NX,Q,.tup G])∨(bM X.K H p G∧Q [cX] H))]:=by
 rw[115];obtain⟨p,G,rfl,h⟩:=h;obtain⟨u,rfl,L⟩:=vals1 r;cases L;rcases h with⟨D,aH,q⟩|⟨D,q⟩;·obtain⟨m,A,d,M⟩:=I.list D;have K:=A.length;refine call_tuple_list d.isList (λ S kp=>?_) (by simp only[dN]<;>omega);have a:[jB,w,H,[gX,S]]:=I.kept (t':=s.toks) kp;have c:[jB,w,ag H S.objs.size (.tup G),[gX,S.push [Nl,m.toArray]]]:=a.laid (t':=s.toks) [EZ,e] (ba _) [Bh,X.prog,X.w,_,_,_,.tup G,⟨⟨M,aH⟩,m,A,IsTup.new _ _⟩];rw[9,.ref S.objs.size,_,c,J,q _ (a.aH.fresh (ba _))]
 ·obtain⟨m,A,d,M⟩:=I.tuple D;exact call_tuple_same d [lc,[cX],H,I,q]
def Ds(K:aF)(T:String)(x:V)(H:Hp):Prop:=match x with|.str _=>T="str"|.int _=>T="int"|.ref p=>(T="list"∧∃N,ax K H p N)∨(T="tuple"∧∃o,[pv,p]=Z o∧o.cls=[Kx]∧o.dict=none)∨(T="dict"∧((∃Y,H p=Z (.dK Y))∨∃Y,H p=Z (.dT Y)))∨(T="set"∧∃S n,H p=Z (.set S n))|_=>False
theorem L3{B:[bH]}{w:St}{H:Hp}{s:aq}{T:String}{x:V}{v:ae}(I:[iW])(r:bw x v)(k:Ds X.K T x H):(s.TypeIs v T)∧∀a,v=[bi]→∃f,[iF,a]=Z f∧f.dict=none:=by
 cases x with
  |str z=>rw[85];cases[dA,T,"str",k];rw[0,tp s z t,λ _ e=>nomatch e]
  |int i=>rw[85];cases[dA,T,"int",k];rw[0,typeIs_int s i t,λ _ e=>nomatch e]
  |ref p=>
   cases r;rcases k with⟨rfl,N,D⟩|⟨rfl,o,C,b,d⟩|⟨rfl,C⟩|⟨rfl,S,n,C⟩;·obtain⟨m,_,g,_⟩:=I.list D;rw[15,g.isList.typeIs,λ a e=>?_];cases e;obtain⟨o,n,e,c,d,_⟩:=g;rw[1,o,e,d]
   ·rw[15,⟨o,I.e9 p o C,b⟩,λ a e=>?_];cases e;rw[1,o,I.e9 _ o C,d]
   ·have z:∃o,[iF,p]=Z o∧o.ExactDict:=by
     rcases C with⟨Y,C⟩|⟨Y,C⟩;·obtain⟨_,_,_,_,o,_,_,e,ex,_⟩:=I.aH p _ C;rw[1,o,e,ex]
     ·obtain⟨_,_,_,_,o,_,_,e,ex,_⟩:=I.aH p _ C;rw[1,o,e,ex]
    obtain⟨o,e,ex⟩:=z;rw[15,⟨o,e,ex.1⟩,λ a e2=>?_];cases e2;rw[1,o,e,ex.2.1]
   ·obtain⟨o,_,_,_,e,ex,_⟩:=I.aH p _ C;rw[15,⟨o,e,ex.1⟩,λ a e2=>?_];cases e2;rw[1,o,e,ex.2.1]
  |_=>exact js k
def VM(K:aF)(T:String)(r:[Ev])(o:TE):TE:=[Eo,o,Ds K T x a∧r x [] a Q]
def Dt(K:aF)(T:String)(r:[Ev])(o:TE)(t:TA):TE:=[Eo,o,Ds K T x a∧t w a λ N M=>r x N M Q]
variable{o e:bc}{es:[on]}{to:TE}{t:TA}{name:Str}{apos cpos:Pos}{T id:String}{r:[Ev]}
theorem VN(e:PlainAttrs T)(slot:Slot T name id)(m:typeOf [jb,id]=pure (.type "method_descriptor"))(N:pS X id r)(E:PE X o to)(j:[FE,o,name]:=by rfl)(f:(apos.endLine==cpos.line)=true:=by rfl):PE X [Dw,name,apos,[],cpos] (VM X.K T r to):=by rw[64,wpAny_Call_method0_late j f (bj (E B s w H _ I h) λ v Y⟨x,b,d,c,k,n⟩=>?_)];obtain⟨g,a⟩:=L3 d c k;exact⟨T,id,e,slot,m,g,a,Bn J (PySem.evalArgs_none (N B Y w b x [] v [] Q d c .nil n))⟩
theorem mj(i:PlainAttrs T)(slot:Slot T name id)(m:typeOf [jb,id]=pure (.type "method_descriptor"))(N:pS X id r)(E:PE X o to)(ha:PA X (e::es) t)(j:[FE,o,name]:=by rfl)(u:[Ts,cpos,e::es,e::es]:=by rfl)(l:(apos.endLine==cpos.line)=true:=by rfl)(G:[ND]:=by rfl)(q:[aw,(g_ cpos [oE,es]).any (·.1)]:=by rfl):PE X [Dw,name,apos,e::es,cpos] (Dt X.K T r to t):=by rw[64,wpAny_Call_method_late j u l J (bj (E B s w H _ I h) λ v Y⟨x,b,f,d,k,n⟩=>?_)];obtain⟨g,a⟩:=L3 f d k;refine⟨T,id,i,slot,m,g,a,?_⟩;have O:=ha cpos B Y w b _ f n;rw[G]at O⊢;rw[69,Bn (by show(false||(g_ cpos (cO es X.env)).any (·.1))=false;rw[q]<;>rfl) (IM ?_),bj O λ W P⟨U,M,p,S,c⟩=>N B P w M x U v W Q p d S c]
end
end L2
namespace L2
open PySem PySem.Spec PyProof.Rows
def zU(X:Cx)(c:String)(r:[Ev]):Prop:=∀(B:[bH])(s:aq)(w:St)(H:Hp)(x:V)(N:[aK])(v:ae)(W:[bu])(Q:VK),[b9,[iW],bw x v,be N W,r x N H Q,[f8,call [jb,c] (v::W),[zX],s]]
theorem be.one:∀{x:V}{W:[bu]},be [x] W→∃u,W=[u]∧bw x u|_,_,.cons r .nil=>[de,r]
theorem be.zero:∀{W:[bu]},be [] W→W=[]|_,.nil=>J
theorem be.dropLast{N:[aK]}{W:[bu]}(h:be N W):be N.dropLast W.dropLast:=by induction h with|nil=>exact .nil|cons r t T=>cases t with|nil=>exact .nil|cons q Y=>exact(.cons r T)
theorem be.eraseIdx:∀{N:[aK]}{W:[bu]}(i:Nat),be N W→be (N.eraseIdx i) (W.eraseIdx i)|_,_,_,.nil=>.nil|_,_,0,.cons _ t=>t|_,_,i+1,.cons r t=>(.cons r (be.eraseIdx i t))
theorem be.reverse{N:[aK]}{W:[bu]}(h:be N W):be N.reverse W.reverse:=by induction h with|nil=>exact .nil|cons r t T=>rw[12,R8,R8,be.append T [qu,r]]
theorem VO{m:Type}(l:[li]):l.eraseIdx (l.length-1)=l.dropLast:=by
 induction l with
  |nil=>rfl
  |cons a r T=>
   cases r with
    |nil=>rfl
    |cons b r=>
     have e:(a::b::r).length-1=((b::r).length-1)+1:=by have g:[cI,a::b::r,r.length+2]:=J;have c:[cI,b::r,r.length+1]:=J;omega
     rw[e,List.eraseIdx_cons_succ,T];all_goals rfl
section
variable{X:Cx}{pins:[bH]}{σ:St}{H:Hp}{s:aq}{l b:ab}{xs ys zs:[aK]}
theorem Inv.Du{m its':[bu]}{n:Nat}{f:Array ae→[lC]}{Y:Nat}(I:[ca])(a:H l=Z (.aj xs))(e:[iF,l]=Z [Kg,.seq m.toArray n])(F:f m.toArray=its'.toArray)(y:be ys its')(M:ys.length≤aQ):[mu,ag H l (.aj ys),[pp,s.heap.update l (jM f),Y]]:=by have q:=PySem.IsL.update e f;rw[F]at q;refine I.write (x:=l) (e:=l) [ar,a,mU] [db] (λ P u K o=>((Bo s.heap (jM f) (ja K)).trans o)) [gt,q] ?_;rw[9,M,its',_,y,q]
theorem Inv.VQ{m:[bu]}{t':Nat}(I:[ca])(y:be ys m)(M:ys.length≤aQ):[mu,[Ii,.aj ys],[pp,[C5,"list",.seq m.toArray],t']]:=I.laid (λ _ _ q=>cG _ q) (ba _) ⟨M,m,0,y,(dM _ J)⟩
theorem Inv.fresh(I:[ca]):[LL,H]=none:=[Ek]
theorem Inv.uf(I:[ca])(a:H l=Z (.aj xs)):xs.length≤aQ∧∃(m:[bu])(n:Nat),be xs m∧xs.length=m.length∧[iF,l]=Z [Kg,.seq m.toArray n]:=by obtain⟨z,m,n,r,e⟩:=I.aH l _ a;rw[37,z,m,n,r,r.length,e]
theorem VR{n:Nat}(h:n≤aQ):[aw,Rt n]:=by unfold Rt;exact[ol]
end
section
variable{X:Cx}
def L4:[Ev]:=λ x U H Q=>∃l N y,[bn,x=[io],U=[y],H l=Z (.aj N),N.length<aQ,Q .bh (ag H l (.aj (N++[y])))]
theorem pT:zU X "list.append" L4:=by intro B s w H x U v W Q I L O h;obtain⟨l,N,y,rfl,rfl,b,M,q⟩:=h;cases L;obtain⟨u,rfl,C⟩:=O.one;obtain⟨z,m,n,r,a,e⟩:=I.uf b;rw[3,yV F.slot_list_append [p_,e] F.entry_list_append (F.args_list_append_2 _ _) (PySem.list_append l m.toArray n u [gL,dN]) [qv,e],[lc,.bh,_,I.Du (its':=m++[u]) b e [al] (r.append [qu,C]) ?_,q]];rw[dh,RI];omega
def L5:[Ev]:=λ x U H Q=>∃l b N i,[bn,x=[io],U=[.ref b],H l=Z (.aj N),H b=Z (.aj i),N.length+i.length≤aQ∧Q .bh (ag H l (.aj (N++i)))]
theorem L6:zU X "list.extend" L5:=by
 intro B s w H x U v W Q I L O h;obtain⟨l,b,N,i,rfl,rfl,g,d,M,q⟩:=h;cases L;obtain⟨u,rfl,C⟩:=O.one;cases C;obtain⟨z,m,n,r,a,e⟩:=I.uf g;obtain⟨P,f,D,S,E,e2⟩:=I.uf d;have c:m.toArray.size+f.toArray.size≤aQ:=by rw[dN,dN];omega
 have k:¬(! m.toArray.isEmpty&&Rt (m.toArray.size+f.toArray.size))=true:=by rw[12,VR c,Bool.and_false,eQ]
 rw[3,yV F.slot_list_extend [p_,e] F.entry_list_extend (F.args_list_extend_2 _ _) (AutoSeq1.list_extend_list_list_0 l m.toArray n b f.toArray D k [gL,dN] [ac]) ⟨e,e2,?_⟩,[lc,.bh,_,I.Du (its':=m++f) g e [al] (r.append S) ?_,q]];rw[dh];omega
def VS:[Ev]:=λ x U H Q=>∃l N y,[bn,x=[io],U=[],H l=Z (.aj N),N[N.length-1]?=Z y,Q y (ag H l (.aj N.dropLast))]
theorem VT:zU X "list.pop" VS:=by
 intro B s w H x U v W Q I L O h;obtain⟨l,N,y,rfl,rfl,c,b,q⟩:=h;cases L;have Y:=O.zero;subst Y;obtain⟨z,m,n,r,a,e⟩:=I.uf c;obtain⟨u,o,C⟩:=r.get b;have f:m.toArray[m.toArray.size-1]?=Z u:=by show m.toArray[m.length-1]?=Z u;rw[←o7,←a];exact o
 rw[3,yV F.slot_list_pop [p_,e] F.entry_list_pop (F.args_list_pop_1 _) (MeetsSeq.list_pop_last l m.toArray n u f [gL,dN]) [qv,e],⟨y,_,I.Du (its':=m.dropLast) c e ?_ r.dropLast ?_,C,q⟩];·show m.toArray.eraseIdxIfInBounds (m.toArray.size-1)=m.dropLast.toArray;rw[dN,List.eraseIdxIfInBounds_toArray,VO]
 ·rw[31,IQ]
def VU:R2:=λ x y H Q=>∃l b N i,[bn,x=[io],y=.ref b,H l=Z (.aj N),H b=Z (.aj i),N.length+i.length≤aQ∧[NT,.aj (N++i)]]
theorem wC:dz X (qL .Add) VU:=by intro B s w H x y v u Q I L A h;obtain⟨l,b,N,i,rfl,rfl,d,c,M,q⟩:=h;rw[59,L,A];obtain⟨z,m,n,r,a,e⟩:=I.uf d;obtain⟨P,F,D,S,E,e2⟩:=I.uf c;refine PySem.P.add_list e e2 ?_ (by rw[dN,dN];omega);have ea:m.toArray++F.toArray=(m++F).toArray:=[al];rw[4,ea,[lc,.ref _,_,I.VQ (t':=s.toks) (r.append S) [gL,dh],q _ I.fresh]]
end
section
variable{prog:aY}{w:aU}{A:bP}{E:[aX]}{s:aq}
end
section
variable{X:Cx}
end
end L2
namespace L2
open PySem PySem.Spec PyProof.Rows
theorem be.ints:∀{f:[bF]}{W:[bu]},be (f.map V.int) W→om W f|[],W,h=>by rw[vI]at h;rw[6,h,IntsAre.nil]|n::f,W,h=>by rw[bO]at h;cases h with|cons r t=>obtain⟨k,rfl⟩:=r;exact IntsAre.cons n k (be.ints t)
theorem be.Dv:∀{S:[lB]}{W:[bu]},be (S.map V.bl) W→W=S.map pl|[],W,h=>by rw[44,vI];rfl|b::S,W,h=>by rw[bO]at h;cases h with|cons r t=>cases r;rw[be.Dv t,bO]
theorem be.pU{a:ab}{W:[bu]}(r:be [eD,a] W):W=[[jS,a]]:=by cases r with|cons r t=>rw[59,t,r];rfl
section
variable{prog:aY}{w:aU}{A:bP}{E:[aX]}{s:aq}{l:ab}{its:[bu]}{ns:[bF]}{Q:[aX]}
theorem VV(W:[xO])(X:[wD,l,its.toArray])(O:om its ns)(h:∀S G Y,([vk,[iv,b]])→Q (.int ns.sum Y) [p0,S]):[im,call [jb,"sum"] [[io]]]:=by
 obtain⟨N,e⟩:=O.allInts.items;have hn:numsOf (intItems N).toList=ns:=[cE,e,O.numsOf];rw[nums_intItems]at hn;rw[e]at X;refine PySem.sum_intListG W X λ S G Y C=>?_
 have:=h S G Y C;rw[preSum_eq,sO [al],hn];rw[58]
theorem VW(W:[xO])(X:[wD,l,its.toArray])(O:om its ns)(c:0<ns.length)(h:∀S G M Y,(([vk,[iv,b]])→M∈ns→(∀a,a∈ns→a≤M)→Q (.int M Y) [p0,S])):[im,call [M8] [[io]]]:=by
 obtain⟨N,e⟩:=O.allInts.items;have hn:numsOf (intItems N).toList=ns:=[cE,e,O.numsOf];rw[nums_intItems]at hn;subst hn;rw[e]at X;have d:0<N.size:=[aB,c];refine PySem.max_intList W X d λ v S G y C=>?_
 obtain⟨t,rfl⟩:=intItems_at y;obtain⟨g,r⟩:=argBest_gt (numAt N) (N.size-1);refine h S G _ t C ?_ [K4];rw[11,numAt_eq,PySem.getD_mem (by rw[aC,nR];omega)];·obtain⟨j,U,rfl⟩:=mem_getD ha;rw[aC,nR]at U;rw[25,numAt_eq,r j [ac]]
end
section
variable{X:Cx}
def VX(K:aF):[D_]:=λ U H Q=>∃(a:ab)(f:[bF]),U=[eD,a]∧ax K H a (f.map V.int)∧Q (.int f.sum) H
def VY(K:aF):[D_]:=λ U H Q=>∃(a:ab)(f:[bF]),(U=[eD,a]∧ax K H a (f.map V.int)∧0<f.length∧∀m,m∈f→(∀y,y∈f→y≤m)→Q (.int m) H)
theorem VZ(V:[sK]):gP X [jb,"sum"] (VX X.K):=by rw[109];obtain⟨a,f,rfl,G,q⟩:=h;obtain⟨m,O,b,_⟩:=I.list G;rw[4,be.pU r,VV [tJ] b.isList O.ints λ S c Y C=>⟨.int _,H,I.kept C,[rg],q⟩]
theorem V0(V:[sK]):gP X [M8] (VY X.K):=by rw[109];obtain⟨a,f,rfl,G,l,q⟩:=h;obtain⟨d,O,c,_⟩:=I.list G;rw[4,be.pU r,VW [tJ] c.isList O.ints l λ S e m Y C g b=>⟨.int _,H,I.kept C,[rg],q m g b⟩]
end
section
variable{X:Cx}
end
section
variable{X:Cx}
end
theorem Dw{prog:aY}{w:aU}{A:bP}{E:[aX]}{s:aq}{l:ab}{m:[lC]}{Q:[aX]}(X:[wD,l,m])(h:∀j:aq,(j=[gX,[C5,"list_iterator",[wl,#[.ref l,.int 0 0]]]]→(j.heap.IsListIter s.heap.objs.size l 0∧j.heap.IsList l m)→l≠s.heap.objs.size→Q [nG] j)):[im,vU [io]]:=by
 have a:[sB,l]:=by obtain⟨_,e,_⟩:=X;exact bR e
 exact wpAny_pyIter_list X (h _ J ⟨[LD],X.push _⟩ (dY a))
theorem L7{prog:aY}{w:aU}{A:bP}{S:[lB]}{m:[bu]}(e:m=S.map pl):TruthOf prog w A (λ i v=>m.toArray[i]?=Z v) (λ i=>S.getD i false):=λ i v s Q E y D=>by
 have a:m[i]?=Z v:=[aB,y];rw[e,cJ]at a;obtain⟨b,K,rfl⟩:=[Po,a];have j:S.getD i false=b:=by rw[iB,K]<;>rfl
 have o:Q (S.getD i false) s:=D;rw[j]at o;exact mN o
theorem any_range:∀S:[lB],[ul,S.length].any (λ i=>S.getD i false)=S.any id|[]=>J|b::S=>by rw[dP,RF,k8,List.any_map,k8,←any_range S];all_goals rfl
theorem all_range:∀S:[lB],[ul,S.length].all (λ i=>S.getD i false)=S.all id|[]=>J|b::S=>by rw[dP,RF,vG,SG,vG,←all_range S];all_goals rfl
section
variable{X:Cx}
def V1(K:aF):[D_]:=λ U H Q=>∃(a:ab)(S:[lB]),U=[eD,a]∧ax K H a (S.map V.bl)∧Q (.bl (S.any id)) H
def V2(K:aF):[D_]:=λ U H Q=>∃(a:ab)(S:[lB]),U=[eD,a]∧ax K H a (S.map V.bl)∧Q (.bl (S.all id)) H
theorem zV(V:[sK]):gP X [jb,"any"] (V1 X.K):=by
 rw[109];obtain⟨a,d,rfl,G,q⟩:=h;obtain⟨m,O,c,_⟩:=I.list G;rw[be.pU r];have K:=O.Dv;refine call_any_walk (Dw c.isList λ j e2 L l=>?_);subst e2;rw[3,⟨_,_,_,_,_,_,_,J,Walks.list (A:=X.A.in1) [tJ] _ a l m.toArray,L,L7 K,λ S e C=>?_⟩,⟨.bl _,H,I.kept λ b o i=>C b o (λ f=>?_) (cG _ i),?_,q⟩]
 ·rcases[dE,f]with e1|f;·rw[68,e1▸bR i]
  ·cases f
 ·show pl _=pl _;rw[←any_range,K,dN,aC]
theorem V3(V:[sK]):gP X [jb,"all"] (V2 X.K):=by
 rw[109];obtain⟨a,d,rfl,G,q⟩:=h;obtain⟨m,O,c,_⟩:=I.list G;rw[be.pU r];have K:=O.Dv;refine call_all_walk (Dw c.isList λ j e2 L l=>?_);subst e2;rw[3,⟨_,_,_,_,_,_,_,J,Walks.list (A:=X.A.in1) [tJ] _ a l m.toArray,L,L7 K,λ S e C=>?_⟩,⟨.bl _,H,I.kept λ b o i=>C b o (λ f=>?_) (cG _ i),?_,q⟩]
 ·rcases[dE,f]with e1|f;·rw[68,e1▸bR i]
  ·cases f
 ·show pl _=pl _;rw[←all_range,K,dN,aC]
end
mutual inductive Dp(K:aF)(H:Hp):[d0,V,lg]|bh:Dp K H .bh .none|bl(b:Bool):Dp K H (.bl b) (.bool b)|int(i:Int):Dp K H (.int i) (.int i)|str(x:Str):Dp K H (.str x) (.str x)|aj{a:Addr}{xs:[aK]}{ds:List PyData}:ax K H a xs→ml K H xs ds→Dp K H [bi] (.list ds)|tup{a:Addr}{xs:[aK]}{ds:List PyData}:bM K H a xs→ml K H xs ds→Dp K H [bi] (.tuple ds)inductive ml(K:aF)(H:Hp):[d0,[aK],List lg]|nil:ml K H [] []|cons{v:V}{vs:[aK]}{d:PyData}{ds:List PyData}:Dp K H v d→ml K H vs ds→ml K H (v::vs) (d::ds)end
section
variable{X:Cx}{pins:[bH]}{σ:St}{H:Hp}{s:aq}
mutual theorem Dp.reads(I:[ca]):∀(d:lg)(v:V)(u:ae),Dp X.K H v d→bw v u→∃as,Reads s.heap u d as
 |.none,_,_,h,r=>by rw[59,h,r];rw[26,Reads.none]
 |.bool b,_,_,h,r=>by rw[59,h,r];rw[26,Reads.bool b]
 |.int i,_,_,h,r=>by cases h;rw[85];rw[26,Reads.int i t]
 |.str x,_,_,h,r=>by cases h;rw[85];rw[26,Reads.str x t]
 |.list ds,_,_,h,r=>by cases h with|aj hs ha=>cases r;obtain⟨its,rv,⟨o,n,ho,hc,_,hd⟩,_⟩:=I.list hs;obtain⟨as,hr⟩:=Dp.readsAll I ds _ its ha rv;rw[26,Reads.list ho hc hd hr]
 |.tuple ds,_,_,h,r=>by cases h with|tup hs ha=>cases r;obtain⟨its,rv,⟨o,ho,hc,n,hd⟩,_⟩:=I.tuple hs;obtain⟨as,hr⟩:=Dp.readsAll I ds _ its ha rv;rw[26,Reads.tuple ho hc hd hr]
 |.dict _,_,_,h,_=>by cases h theorem Dp.readsAll(I:[ca]):∀(ds:List lg)(vs:[aK])(us:[bu]),ml X.K H vs ds→be vs us→∃as,ReadsAll s.heap us ds as|[],_,_,h,r=>by rw[59,h,r];rw[26,ReadsAll.nil]|d::ds,_,_,h,r=>by cases h with|cons h1 h2=>cases r with|cons r1 r2=>obtain⟨as,q1⟩:=Dp.reads I d _ _ h1 r1;obtain⟨bs,q2⟩:=Dp.readsAll I ds _ _ h2 r2;rw[26,ReadsAll.cons q1 q2]end
end
section
variable{X:Cx}
def Dx(K:aF):R2:=λ x y H Q=>∃d e,[bn,Dp K H x d,Dp K H y e,jL d=true,jL e=true,Q (.bl (i9 d e)) H]
def L8(K:aF):R2:=λ x y H Q=>∃d e,[bn,Dp K H x d,Dp K H y e,jL d=true,jL e=true,Q (.bl (! i9 d e)) H]
theorem L9(o:[J3,64]):dz X (f9 .Eq) (Dx X.K):=by rw[93];obtain⟨d,e,a,R,g,se,q⟩:=h;obtain⟨c,b⟩:=Dp.reads I d x v a L;obtain⟨S,f⟩:=Dp.reads I e y u R A;exact SeqAt.compareEq_shaped b f g se o [lc,.bl _,H,I,q]
theorem V4(o:[J3,64]):dz X (f9 .NotEq) (L8 X.K):=by rw[93];obtain⟨d,e,a,R,g,se,q⟩:=h;obtain⟨c,b⟩:=Dp.reads I d x v a L;obtain⟨S,f⟩:=Dp.reads I e y u R A;exact SeqAt.compareNe_shaped b f g se o [lc,.bl _,H,I,q]
end
end L2
namespace L2
open PySem PySem.Spec PyProof.Rows
abbrev L_(h:aE)(c:ab)(v:[B1]):Prop:=h.IsCell c v
def V5(l sc:dR):dR:={l with names:=l.names.map λ(n,k)=>if(k==.free&&sc.kind==[B7]&&[zN,n]==[vh])then(n,.cell)else(n,k)}
def ef(s:[or]):[fQ,Str×jN,[fQ,Str×ab,[or]]]|[],acc=>acc|(n,k)::r,acc=>if k==.free then ef s r ((n,(s.lookup n).getD 0)::acc)else ef s r acc
theorem Mb(env:Env)(f:Str×jN→[fQ,Str×ab,Sem (ForInStep [or])])(F:∀n k c,[CF,f (n,k) c,k==.free,do
 let a←cellOf env n;
 pure (.yield ((n,a)::c)),pure (.yield c)]):∀(names:[gj,jN])(t:[or]),(∀y∈names,y.2=.free→∃c,env.cells.lookup y.1=Z c)→forIn names t f=pure (ef env.cells names t)
 |[],t,_=>[hJ,BJ]
 |(n,k)::r,t,h=>by
  rw[sY,F];have T:=λ t=>Mb env f F r t λ y b=>h y (cp _ b)
  unfold ef;by_cases C:(k==NameKind.free)=true
  ·rw[aI C,aI C];obtain⟨c,V⟩:=h (n,k) cq [aB,C];have e:cellOf env n=pure c:=by unfold cellOf;rw[V]
   rw[e];have e2:(env.cells.lookup n).getD 0=c:=[hJ,V];rw[4,e2,T _]
  ·rw[12,aD C,aD C,T _]
theorem Dy{l:dR}{env:Env}(h:[P4,env.cells.lookup y.1]):closureFor l env=pure (ef env.cells l.names []):=by simp only[closureFor];rw[Mb env _ (λ n k c=>J) l.names [] h];rfl
theorem mem_lookup{m:Type}:∀{l:[gj,m]}{n:Str}{c:m},(n,c)∈l→∃s,l.lookup n=Z s
 |(k,v)::r,n,c,h=>by
  rw[nY];cases K:n==k with
   |true=>rw[26,J]
   |false=>
    rcases[dE,h]with e|h;·cases e;simp at K
    ·exact mem_lookup h
theorem zW{s:[or]}:∀{names:[gj,jN]}{t:[or]}{n:Str}{c:ab},(n,c)∈ef s names t→(n,c)∈t∨((n,.free)∈names∧c=(s.lookup n).getD 0)
 |[],_,_,_,h=>[m_]
 |(m,k)::r,t,n,c,h=>by
  unfold ef at h;split at h
  ·rename_i C;have C:k=.free:=[aB,C];rcases zW h with h|⟨g,a⟩
   ·rcases[dE,h]with e|h;·rw[6,e,.inr [ge,C▸cq]]
    ·rw[21,h]
   ·exact[jT,cp _ g,a]
  ·rcases zW h with h|⟨g,a⟩;rw[2,[m_],[jT,cp _ g,a]]
theorem Dz{s:[or]}:∀{names:[gj,jN]}{t:[or]}{p:Str×ab},p∈t→p∈ef s names t|[],_,_,h=>h|(m,k)::r,t,p,h=>by unfold ef;split;rw[2,Dz (cp _ h),Dz h]
theorem DB{cells:[or]}:∀{names:[gj,jN]}{acc:[or]}{n:Str},(n,.free)∈names→(n,(cells.lookup n).getD 0)∈ef cells names acc
 |(m,k)::r,acc,n,h=>by
  unfold ef;rcases[dE,h]with e|h;·rw[6,e,Dz cq]
  ·split;rw[2,DB h,DB h]
theorem wD:∀{names:[gj,jN]}{h:aE}{t:[or]}{x:Str}{c:ab},(x,c)∈fj h.objs.size names t→(x,c)∈t∨((x,.cell)∈names∧h.objs.size≤c∧L_ (pq h names) c none)
 |[],_,_,_,_,h=>[m_]
 |(n,k)::r,h,t,x,c,N=>by
  unfold fj at N;unfold pq;split at N
  ·rename_i C;rw[aI C];have C:k=.cell:=[aB,C];rw[←iR h [Ic,"cell",.cell none]]at N;rcases wD N with N|⟨g,a,P⟩
   ·rcases[dE,N]with e|N;·rw[6,e,.inr ⟨C▸cq,ba _,_,BL r _ _ _ (dM _ J),J⟩]
    ·rw[21,N]
   ·rw[iR]at a;exact[vn,cp _ g,Jb a,P]
  ·rename_i C;rw[aD C];rcases wD N with N|⟨g,a,P⟩;rw[48,N,⟨cp _ g,a,P⟩]
theorem zX:∀{names:[gj,jN]}{n:Nat}{t:[or]}{p:Str×ab},p∈t→p∈fj n names t|[],_,_,_,h=>h|(m,k)::r,n,t,p,h=>by unfold fj;split;rw[2,zX (cp _ h),zX h]
theorem DD:∀{names:[gj,jN]}{n:Nat}{acc:[or]}{x:Str},(x,.cell)∈names→∃c,(x,c)∈fj n names acc
 |(m,k)::r,n,acc,x,h=>by
  unfold fj;rcases[dE,h]with e|h;·cases e;rw[0,n,zX cq]
  ·split;rw[2,DD h,DD h]
theorem DE:∀{names:[gj,jN]}{h:aE}{t:[or]}{x y:Str}{c:ab},[b9,∀p∈t,p.2<h.objs.size,∀x y c,(x,c)∈t→(y,c)∈t→x=y,(x,c)∈fj h.objs.size names t,(y,c)∈fj h.objs.size names t,x=y]
 |[],_,_,_,_,_,_,O,g,d=>O _ _ _ g d
 |(n,k)::r,h,t,x,y,c,X,O,g,d=>by
  unfold fj at g d;split at g
  ·rename_i C;rw[aI C]at d;rw[←iR h [Ic,"cell",.cell none]]at g d;refine DE (h:=h.push _) [ro] (λ x y c a b=>?_) g d;·rw[iR];rcases[dE,R]with rfl|R;rw[2,qB _,o_ (X p R)]
   ·rcases[dE,a]with e|a<;>rcases[dE,b]with f|b;·rw[59,e,f];rfl
    ·cases e;rw[68,X _ b]
    ·cases f;rw[68,X _ a]
    ·exact O _ _ _ a b
  ·rename_i C;rw[aD C]at d;exact DE X O g d
theorem Md{M:tF}{A:bP}{E:[aX]}{s:aq}{l:dR}{g:ab}{e:[or]}{N:Str}{f:[ug]}{a:ae}{d:Env}{b:ab}{Q:[pF,Env]}(h:Q (newEnv l s.heap.objs.size g [OY,e] N f a (Z d) b) [gX,pq [NE] l.names]):az M A (newFunctionEnv l g e [] N f a (Z d) b) Q E s:=by simp only[newFunctionEnv,Option.isSome_some,il];rw[5,wpAny_alloc ?_];rw[5,wpAny_layCells _ (λ n k c=>J) l.names e _ _ ?_];rw[[dA,([gX,[NE]]:aq).heap.objs.size,[jC],iR ..]];rw[4,BJ,au (aW (aW h))]
theorem DG{sc:dR}:∀{names:[gj,jN]}{x:Str}{k:jN},(names.map λ(n,k)=>if([Rm,k]&&[zN,n]==[vh])then(n,NameKind.cell)else(n,k)).lookup x=Z k→∃d,names.lookup x=Z d∧(k=d∨(d=.free∧k=.cell))
 |[],_,_,h=>by rw[16]
 |(n,a)::r,x,k,h=>by
  have T:=@DG sc r x k;have S:qG x ([qe,[Rm,a]&&[zN,n]==[vh],(n,NameKind.cell),(n,a)]::(r.map _))=Z k:=h;cases A:x==n with
   |true=>
    simp only[nY,A];by_cases V:([Rm,a]&&[zN,n]==[vh])=true;·rw[aI V]at S;simp only[nY,A]at S;cases S;simp only[dO,mS]at V;rw[22,a,.inr [ge,V.1.1]]
    ·rw[aD V]at S;simp only[nY,A]at S;cases S;rw[22,_,[db]]
   |false=>
    simp only[nY,A];by_cases V:([Rm,a]&&[zN,n]==[vh])=true;·rw[aI V]at S;simp only[nY,A]at S;exact T S
    ·rw[aD V]at S;simp only[nY,A]at S;exact T S
structure eg(N:[bj])(sc l:dR)(own:[gj,Nat]):Prop where
 kind:l.kind=[B7]
 uniq:∀y∈l.names,[zP,y.1]=Z y.2
 ix:∀p∈own,N[p.2]?=Z p.1
 free:∀y∈l.names,y.2=.free→[zN,y.1]=[vh]∨[zN,y.1]=Z .free
 own:∀y∈l.names,y.2=.local∨y.2=.cell→y.1∈own.map (·.1)∨y.1∉N
def wipe(w:St):[fQ,Nat,St]|[]=>w|v::U=>[z_].set v none
theorem zY(w:St):∀U:[ak],[cI,[z_],w.length]|[]=>J|v::U=>by unfold wipe;rw[List.length_set,zY w U]
theorem zZ{w:St}{i:Nat}{x:V}:∀{U:[ak]},[z_][i]?=Z (Z x)→w[i]?=Z (Z x)∧i∉U
 |[],h=>⟨h,[al]⟩
 |v::U,h=>by
  unfold wipe at h;by_cases O:v=i
  ·subst O;by_cases y:v<[z_].length;·rw[44,qx y]
   ·rw[44,sQ [aB,y]]
  ·rw[yA O]at h;obtain⟨g,r⟩:=zZ h;rw[0,g,by simp only[lU,not_or];rw[0,λ e=>O e.symm,r]]
abbrev Cx.cV(X:Cx)(s:aq)(H:Hp)(l:dR)(h:Env)(t:[aT]):Cx:={X with eV:=s,m9:=H,env:=h,outer:=X.stack,ex:=t,fn:=λ x=>[zP,x]==[vh],pn:=[],xe:=[AO]}
section
variable{X:Cx}{pins:[bH]}{σ:St}{H:Hp}{s:aq}
theorem Me{l:dR}{O:[gj,Nat]}{t:[aT]}(I:[ca])(E:[M5,l,O])(hN:X.N.Nodup)(S:[wP,iY X pins H b∧[sB,b]]):Inv (X.cV s H l (fk l [OY,[Id]] s.heap.objs.size X.env) t) [] (wipe σ (O.map (·.2))) H [gX,pq [NE] l.names]:=by
 have M:[P4,[zJ,y.1]]:=λ y h e=>by rcases E.free y h e with k|k;rw[2,I.ok.has _ (.inl k),I.ok.has _ (.inr k)]
 generalize T:fk l [OY,[Id]] s.heap.objs.size X.env=F;have kp:[vk,(pq [NE] l.names).get? b]:=λ b o e=>BL _ _ _ _ (cG _ e)
 have A:F.locals=s.heap.objs.size:=by rw[←T];rfl
 have Y:F.cells=[OY,[Id]]:=by rw[←T];rfl
 have L:F.scope=V5 l X.env.scope:=by rw[←T];rfl
 rw[←iR s.heap [Rf]]at Y;have U:∀{y c},(y,c)∈[Id]→[zJ,y]=Z c∧[sB,c]:=λ{y c}N=>by
  rcases zW N with N|⟨g,rfl⟩;·cases N
  ·obtain⟨c,hc⟩:=M _ g J;rw[hc];obtain⟨w,z⟩:=I.cell _ _ hc;rw[0,J,z.lt]
 have mem:∀{y c},[JR]=Z c→([zJ,y]=Z c∧[sB,c])∨([jC]≤c∧L_ (pq [NE] l.names) c none):=λ{y c}e=>by
  rw[Y]at e;rcases wD (kh e)with N|⟨_,d,h3⟩;·rw[21,U N]
  ·rw[iR]at d;exact[jT,d,h3]
 have P:∀{y},[zP,y]=Z .free→∃c,[JR]=Z c∧[zJ,y]=Z c:=λ{y}f=>by
  have h:(y,NameKind.free)∈l.names:=kh f;obtain⟨u,j⟩:=mem_lookup (zX (names:=l.names) (n:=[NE].objs.size) (DB (cells:=X.env.cells) (acc:=[]) h));rw[←Y]at j;rw[29,u,j];rw[Y]at j;rcases wD (kh j)with N|⟨g,_,_⟩;·exact(U N).1
  ·rw[98,E.uniq _ g,f]
 have okB:(X.cV s H l F t).Ok:=by
  refine⟨I.ok.mod,by rw[39,F.scope.kind=_,L,E.kind],by show F.globals=_;rw[25,T,I.ok.glob],by show F.builtins=_;rw[25,T,I.ok.blt],by rw[39,[Ow,F.locals],A,ba _],λ y z c e1 e2=>?_,λ y h=>?_,λ y c z e=>?_,I.ok.hd,I.ok.frames,[db],λ b K=>⟨?_,λ y c e z=>?_⟩,I.bs,bf I.ok.lr I.sz,λ b o e K=>?_,λ b K z=>?_,I.stack,I.wg⟩;·have e1:[JR]=Z c:=e1;have e2:F.cells.lookup z=Z c:=e2;rw[Y]at e1 e2;rw[57,DE [ro] (λ y z c a b=>I.ok.inj y z c (U a).1 (U b).1) (kh e1) (kh e2),iR,o_ (U (y:=p.1) (c:=p.2) R).2]
  ·show∃c,[JR]=Z c;have D:∀k,F.kindOf y=Z k→(k=.cell∨k=.free)→∃c,[JR]=Z c:=λ k C Q=>by
    unfold Env.kindOf at C;rw[L]at C;obtain⟨x,e,r⟩:=DG C;have:x=.cell∨x=.free:=by rcases r with rfl|⟨rfl,_⟩;rw[2,Q,.inr J]
    rcases this with rfl|rfl;·obtain⟨c,N⟩:=DD (n:=[NE].objs.size) (acc:=[Id]) (kh e);obtain⟨u,j⟩:=mem_lookup N;rw[0,u,[ar,Y,j]]
    ·obtain⟨c,g,_⟩:=P e;rw[0,c,g]
   rcases h with h|h;rw[2,D _ h [db],D _ h (.inr J)]
  ·have z:([zP,y]==Z NameKind.cell)=true:=z;have z:[zP,y]=[vh]:=[aB,z];have e:[JR]=Z c:=e;rw[Y]at e;rcases wD (kh e)with N|⟨_,d,_⟩
   ·rcases zW N with N|⟨g,_⟩;·cases N
    ·have q:=E.uniq _ g;rw[71,z]
   ·rw[iR]at d;exact Jb d
  ·rw[39,b≠F.locals,A,dY (S b K).2]
  ·have e:[JR]=Z c:=e;rcases mem e with⟨g,_⟩|⟨g,_⟩;·exact(S b K).1.2.2.2.2.1 y c g z
   ·have d:[jC]≤b:=[cE,z,g];rw[68,dG (S b K).2 (Jb d)]
  ·rcases(S b K).1.2.2.2.1 with z|z;rw[2,I.ok.t7 b o e z,[e9,dG (bR e) (bf I.ok.lr z),g8 _]]
  ·rcases[dE,I.we b z]with z|z;rw[2,(S b K).1.2.1 z,(S b K).1.2.2.1 z]
 refine⟨okB,J,I.bare,Un.kept kp,⟨λ _=>none,?_,λ i y av e1 e2 B=>?_⟩,λ y c e=>?_,?_,λ y c e=>?_,[ro],I.aH.kept kp,[ar,zY,I.len]⟩;·rw[39,Heap.Ns _ F.locals _,A,Heap.Ns.keeps (Heap.Ns.new ..) λ b o e=>BL _ _ _ _ e]
 ·obtain⟨e2,v⟩:=zZ e2;have G:[zP,y]=Z .free∧(F.kindOf y=[vh]∨F.kindOf y=Z .free):=by
   have D:∀k,F.scope.names.lookup y=Z k→k=.local∨k=.cell∨k=.free→[zP,y]=Z .free∧(F.kindOf y=[vh]∨F.kindOf y=Z .free):=λ k C Q=>by
    have V:=C;rw[L]at C;obtain⟨x,e,r⟩:=DG C;have no:¬(x=.local∨x=.cell):=λ hh=>by
     rcases E.own _ (kh e) hh with j|j;·obtain⟨p,R,hpy⟩:=[bp,j];have B:=E.ix p R;have:p.1=y:=hpy;rw[this]at B;exact v [Do,p,R,CI hN B e1]
     ·exact j (bt e1)
    rcases r with rfl|⟨rfl,rfl⟩
    ·rcases Q with rfl|rfl|rfl;·rw[8,[db],no]
     rw[2,[e9,.inr J,no],⟨e,.inr V⟩]
    ·rw[0,e,.inl V]
   have B:q0 F.scope y:=B;rcases B with B|B|B;·exact D _ B [db]
   rw[2,D _ B (.inr [db]),D _ B [nM,J]]
  obtain⟨m,hn,f⟩:=I.loc;have W:q0 X.env.scope y:=(E.free _ (kh G.1) J).elim (λ k=>.inr (.inl k)) (λ k=>[nM,k]);obtain⟨w,r,q⟩:=f i y av e1 e2 W;rw[24,w,r,[jT,G.2,?_]];obtain⟨c,g,d⟩:=P G.1;rcases q with⟨k,_⟩|⟨_,u,j,z⟩;·have k:[Kp,y]=[wE]:=k;rcases E.free _ (kh G.1) J with x|x<;>rw[[dA,[Kp,y],_,x]]at k<;>cases k
  ·rw[d]at j;cases j;rw[1,c,g,z.keeps kp]
 ·have e:[JR]=Z c:=e;rcases mem e with⟨g,_⟩|⟨_,z⟩;·obtain⟨w,z⟩:=I.cell y c g;rw[0,w,z.keeps kp]
  ·rw[26,z]
 ·rw[39,H F.locals=none,A,[Ek]]
 ·have e:[JR]=Z c:=e;rcases mem e with⟨g,_⟩|⟨g,_⟩;rw[2,I.jY y c g,[EQ,Jb g]]
 ·rw[8,show p∈[CD,ab×Obj]++[]from R,[al]]
theorem Mf{E:[aX]}{D:ab}{N:[aK]}{y:V}{v:ae}{Q:[aX]}(I:[ca])(c:H D=Z (.aj N))(M:N.length<aQ)(r:bw y v)(h:∀d,([mu,ag H D (.aj (N++[y])),d])→Q .none d):[wJ,X.A,call [jb,"list.append"] [.ref D,v]]:=by obtain⟨t,m,n,z,e⟩:=I.aH D _ c;have a:=z.length;rw[3,append_at (hsz:=[gL,dN]) e λ S g i=>?_,h [gX,S] (I.write (t':=s.toks) (by rw[c];trivial) [db] (λ b u K q=>[mn,g,K,q]) [gt,i] ⟨[ar,dh,M],m++[v],n+1,z.append [qu,r],?_⟩)];rw[i];simp
def pV(X:Cx)(a:[on])(t:TT):Prop:=∀(pins:[bH])(s:aq)(σ:St)(H:Hp)(Q:[Be,Hp]),(([ca])→(t σ H Q→[f8,forIn a true λ c r=>[qe,r,do
 let ok←yZ c X.env [rG,c];
 pure (n6 ok),pure (n6 r)],TP X pins σ Q,s]))
def Mg:TT:=λ _ H Q=>Q true H
theorem iv:pV X [] Mg:=λ _ _ _ H _ I h=>wpAny_tests_nil ⟨H,I,h⟩
theorem wF{c:bc}{t:TT}(h:PT X c t):pV X [c] t:=λ pins s σ H Q I T=>wpAny_tests_one (h pins s σ H Q I T)
end
theorem mn{m:Type}{t:Sem m}{Q I:[pF,m]}{M:tF}{A:bP}{E:[aX]}{s:aq}(h:az M A t Q [AO] s)(p:∀a s,Q a s→I a s):az M A t I E s:=gG h p λ _ _ z=>js z
theorem Mi{prog:aY}{w:aU}{A:bP}{R:[pF,y4]}{s:aq}{Q b iter:bc}{X:[on]}{l:dR}{W:Pos}{f t:ae}{env:Env}(I:[yi,aq])(T:∀n s,(I n s→az [vY] A (kr f) (λ r L=>[KP,r,R (.ok .next) L,v,[Bk,Jn b f v,λ _ k=>[Bk,vT b env v,λ _ j=>[Bk,forIn X true λ c r=>[qe,r,do
 let E←yZ c env (eval c env);
 pure (n6 E),pure (n6 r)],λ E F=>[qe,E,[Bk,eval Q env,λ x i=>[Bk,call [jb,"list.append"] [t,x],λ _ Y=>∃m,m<n∧I m Y,[OS],i],[OS],F],∃m,m<n∧I m F],[OS],j],[OS],k],[OS],L]]) [OS] s))(n:Nat)(h:I n s):mT [vY] A (.compLoop (.ListComp Q [⟨b,iter,X,0⟩] l W) 0 f t env) R s:=by
 rw[43,codeAny_loop J I (λ n s g=>?_) n h,az _ A ((compTurn (.ListComp Q [⟨b,iter,X,0⟩] l W) 0 f t env).onRaise (λ x=>do
  JK x env;
  theTreesLotGoes x)) _ _ s]
 refine wpAny_noted ?_;rw[compTurn_list];rw[5,SV (au (gG (T n s g) (λ r L P=>?_) λ _ _ S=>S))];cases r with|none=>exact aW P|some v=>rw[3,au (gG P (λ _ k p=>?_) λ _ _ S=>S),au (gG p (λ _ j H=>au (gG H (λ E F B=>?_) λ _ _ S=>S)) λ _ _ S=>S)];cases E with|false=>exact aW [lu,B]|true=>exact au (au (gG B (λ x i o=>au (gG o (λ _ Y a=>aW (aW [lu,a])) λ _ _ S=>S)) λ _ _ S=>S))
section
variable{X:Cx}
def oK(f:TI)(g:TG)(B:TT)(k:TE)(U:[ak]):TE:=[sw,f,λ e c=>∀D,c D=none→[Qr,(∃m,W 0 m [nF,c,D])∧∀i m H,W i m H→(e.stop i H∧Q (.ref D) H)∨(e.go i H∧∃l:[Dr],(∀a,l a→∃S,S<m∧W (i+1) S a)∧∀x a,e.j1 i H x a→g x [z_] a λ d M=>[K5,d,k,l [LZ],l L])]]
theorem Mj{B:[bH]}{s:aq}{w:St}{H:Hp}{Q:VK}{F tg iter:bc}{E:[on]}{l:dR}{N:[gj,Nat]}{f pos':Pos}{wi:TI}{g:TG}{tt:TT}{te:TE}{Y:[j4,ae→Sem Unit]}{Qf:[aX]}(hc:[sK])(hN:X.N.Nodup)(I:[iW])(hi:PI X tg iter wi)(ok:[M5,l,N])(hg:∀(s:aq)(H:Hp)(C:ab)(cl:[or])(t:[aT]),PG [Ie,l,cl] tg g)(ht:∀(s:aq)(H:Hp)(C:ab)(cl:[or])(t:[aT]),pV [Ie,l,cl] E tt)(he:∀(s:aq)(H:Hp)(C:ab)(cl:[or])(t:[aT]),PE [Ie,l,cl] F te)(hs:[Mm])(h:oK wi g tt te (N.map (·.2)) w H Q)(hRR:∀D C d m a,[b9,[jB,w,a,d],Q (.ref D) a,d.heap.Ns C m,iY X B a C,vO [B0] X.A X.xe Y Qf (.ref D) C (.ok .next) d]):[f8,Ju [Av,F,E,l,f] l X.env pos' (BZ []) false [rG,iter] Y,Qf,s]:=by
 have G:[P4,[zJ,y.1]]:=λ y hy e=>by rcases ok.free y hy e with k|k;rw[2,I.ok.has _ (.inl k),I.ok.has _ (.inr k)]
 refine wpAny_comprehension_free (use:=Y) rfl hs (Dy G) ok.kind (λ y hy e=>by rw[ok.uniq y hy,e]) (bj (hi B s w H _ I h) λ xv s1 hx=>bj hx λ itv s2 h2=>?_);obtain⟨it,t,tn,J,M,e,I2,T,st2,f2,q⟩:=h2;subst e;refine nU (Md ?_) (by rw[80,0]);generalize hD:s2.heap.objs.size=D;have hDn:M D=none:=I2.aH.fresh (mP hD);obtain⟨W,⟨m0,w0⟩,turn⟩:=q D hDn;generalize hs3:({s2 with heap:=s2.heap.push [Kg,[KZ,[CD,ae]]]}:aq)=s3;have I3:[jB,w,[nF,M,D],s3]:=by rw[←hs3];refine I2.laid (t':=s2.toks) [EZ,e] (mP hD) ⟨b7 _,[],0,.nil,?_⟩;rw[25,hD,dM _ rfl]
 have h3:s3.heap=s2.heap.push [Kg,[KZ,[CD,ae]]]:=by rw[←hs3]
 have sz:[wP,b<s2.heap.objs.size]:=λ b K=>by obtain⟨o,e,_⟩:=T.obj _ _ st2 b K;exact bR e
 have A:[wP,iY X B [nF,M,D] b∧b<s3.heap.objs.size]:=λ b K=>by have hlt:=sz b K;rw[57,⟨[ut,?_,f2 b K],by rw[12,h3,iR,o_ hlt]⟩,ar [cE,hD,dY hlt],(f2 b K).1]
 have st3:tn 0 s3.heap:=[KU,T.keep,st2,[ar,h3,cG _ e]];have I4:=Me I3 ok hN A;have pg:=[OG,hg];have pt:=[OG,ht];have pe:=[OG,he];show mT _ _ (.compStart [Av,F,E,l,f] 0 (.ref it) (.ref D) [Rh]) [Rg] [SZ];have nfp:[wC,t,[nF,M,D]]:=λ b K=>(A b K).1.1
 generalize hce:[Rh]=ce at I4 pg pt pe⊢;have cL:ce.locals=s3.heap.objs.size:=by subst hce;rfl
 generalize hH3:[nF,M,D]=L at I3 I4 pg pt pe w0 nfp A;generalize hs4:([SZ]:aq)=s4 at I4⊢;have st4:tn 0 s4.heap:=[KU,T.keep,st3,[cE,hs4,BL _ _ _ _ (cG _ e)]];have O:∀{σ':St}{a:Hp}{d:aq},Inv [AE] [] σ' a d→([wC,t,a])→[wP,iY [AE] [] a b]:=λ{σ' a d}I' hn b K=>⟨hn b K,(I'.ok.q_ b K).1,I'.ok.ra b K,.inl K,λ x c e=>(I'.ok.q_ b K).2 x c e,λ p hp=>[Eh,show p∈[CD,ab×Obj]++[]from hp]⟩
 have P:mT [B0] X.A (.compLoop [Av,F,E,l,f] 0 (.ref it) (.ref D) ce) [Rg] s4:=by
  refine Mi (λ n d=>∃i a,Inv (X.cV s3 L l ce t) [] (wipe w (N.map (·.2))) a d∧tn i d.heap∧(∀b∈t,a b=none)∧W i n a) ?_ m0 ⟨0,L,I4,st4,nfp,w0⟩;rintro n s5⟨i,V,I5,st5,n5,w5⟩;rcases turn i n V w5 with⟨stop,qq⟩|⟨go,Nx,hNx,step⟩
  ·have td:=T.done [AE] rfl rfl rfl hc i [] s5 _ V [AO] I5 (O I5 n5) st5 stop;refine mn td λ r s6⟨hr,I6⟩=>?_
   subst hr;have I7:[jB,w,V,s6]:=I3.zA (ch:=t) I6.os I6.base I6.aH I6.bare [Pa,(A b K).1];have nC:V s3.heap.objs.size=none:=by have z:V ce.locals=none:=I6.free;rw[cL]at z;exact z
   obtain⟨m,hn,_⟩:=I6.loc;have hn:s6.heap.Ns ce.locals m:=hn;rw[cL]at hn;exact hRR D s3.heap.objs.size s6 m V I7 qq hn (I3.oE (ba _) nC)
  ·have ti:=T.item [AE] rfl rfl rfl hc i [] s5 _ V [AO] I5 (O I5 n5) st5 go;refine mn ti λ r s6⟨u,hr,h6⟩=>?_
   subst hr;refine mn h6 λ _ s7⟨x,H7,I7,r7,y7,S,n7⟩=>?_
   have I7':=I7.pinned (O I7 n7) (T.obj _ _ S);rw[3,mn (pg _ s7 _ H7 x u _ I7' r7 (step x H7 y7)) λ _ s8⟨R,H8,I8,hw8,q8⟩=>?_,mn (pt _ s8 R H8 _ I8 q8) λ b s9⟨H9,I9,q9⟩=>?_];have fin:∀{d:aq}{a:Hp},Inv [AE] ([]++ub t s7.heap) R a d→Nx a→∃m,m<n∧∃i a,(Inv [AE] [] (wipe w (N.map (·.2))) a d∧tn i d.heap∧[wC,t,a]∧W i m a):=λ{d a}I' nx=>by
    obtain⟨m',hm,w'⟩:=hNx a nx;have U:[wP,∀o,s7.heap.get? b=Z o→d.heap.get? b=Z o∧a b=none]:=λ b K o e=>let z:=I'.pin (b,o) (iQ _ (iQ _ (zH K e)));⟨z.1,z.2.1⟩
    have hl:[cI,(wipe w (N.map (·.2))),R.length]:=by rw[←hw8,zY]
    refine⟨m',hm,i+1,a,(I'.wo (pins:=[])).weak hl (λ j v e=>?_),T.keep _ _ _ S λ b K o e=>(U b K o e).1,[Fs],w'⟩;·rw[←hw8]at e;exact(zZ e).1
    ·obtain⟨o,e,_⟩:=T.obj _ _ S b K;exact(U b K o e).2
   cases b with|false=>simp only[ki,iE]at q9⊢;exact fin I9 q9|true=>simp only[il]at q9⊢;rw[69,mn (pe _ s9 R H9 _ I9 q9) λ z s10⟨yv,H10,I10,r10,acc,hD10,hz10,nx⟩=>?_,Mf (X:=[AE]) I10 hD10 hz10 r10 λ s11 I11=>fin I11 nx]
 exact codeAny_compStart_list P (T.self X.A 0 _ _ _ st4 P)
theorem jz{u tg iter:bc}{r:[on]}{l:dR}{own:[gj,Nat]}{W:Pos}{z:TI}{g:TG}{i:TT}{k:TE}(V:[sK])(v:X.N.Nodup)(O:PI X tg iter z)(E:[M5,l,own])(j:[Cu,PG,l,tg,g])(F:[Cu,pV,l,r,i])(R:[Cu,PE,l,u,k])(G:[Mm]:=by intro _;rfl):PE X [Av,u,r,l,W] (oK z g i k (own.map (·.2))):=by rw[76];rw[13,eval_ListComp,Mj V v I O E j F R G h λ D C d m a S q hn f=>⟨m,hn,λ L y=>?_⟩];obtain⟨U,n,A,c,p,M⟩:=f;exact[lc,.ref D,a,S.turned (t':=d.toks) (λ b o K e=>[mn,y,K,e]) U n c p M,q]
theorem ug{i:Nat}{y:Str}{P:Pos}{Q tg iter:bc}{F:[on]}{n:dR}{own:[gj,Nat]}{W R:Pos}{M:TI}{g:TG}{A:TT}{u:TE}(d:[sK])(p:X.N.Nodup)(l:X.N[i]?=Z y)(T:[Kp,y]=[wE])(S:tu [Av,Q,F,n,W] (Z (.Name y P)) R.line X.env=pure true)(O:PI X tg iter M)(ok:[M5,n,own])(hg:[Cu,PG,n,tg,g])(ht:[Cu,pV,n,F,A])(he:[Cu,PE,n,Q,u])(G:[Mm]:=by intro _;rfl):PS X (.Assign [.Name y P] [Av,Q,F,n,W] R) (t8 (oK M g A u (own.map (·.2))) (iX i)):=by
 rw[94];rw[exec_Assign_Name_used _ _ _ _ S];rw[5,SV (au ?_)];rw[49,X.A,do
  let _←Ju [Av,Q,F,n,W] n X.env (firstIterPos [⟨tg,iter,F,0⟩] W) (BZ []) false [rG,iter] (Z (vT (.Name y P) X.env))]
 have h:oK M g A u (own.map (·.2)) w H (λ x j=>iX i x w j D.nx):=h;rw[5,bj (Mj (Qf:=λ _ k=>SP X B D .next k) d p I O ok hg ht he G h λ L C k m c I' q hn f=>?_) λ _ k hq=>aW (aW hq)];rw[101,vT (.Name y P) X.env (.ref L),_,Sm (CJ (v:=(V.ref L)) I' p l (.inl T) J (λ s2 I2⟨a,sb,ha⟩=>?_) (.inr T))];obtain⟨f0,r,f2,f3,E,f5⟩:=f;have U:C≠a:=by rw[144,ha,r,λ e=>E y a z e.symm]
 rw[24,m,hn.sameBut sb U,λ h3 Y=>?_];rw[23,_,c,I2.turned (t':=s2.toks) (λ b o K e=>[mn,Y,K,e]) f0 r f3 E f5,q]
theorem rD{Q:bc}{a:List Comprehension}{c:dR}{W u:Pos}{y:Str}{l:Nat}{env:Env}(C:env.scope.kind=[B7])(b:env.scope.names.lookup y=[wE])(X:(u.line==W.line)=true)(ha:[aw,c.names.any λ(n,k)=>n==y&&(k==.local||k==.cell)]):tu (.ListComp Q a c W) (Z (.Name y u)) l env=pure true:=by
 have d:env.kindOf y=[wE]:=b;have K:env.blockKind=[B7]:=by unfold Env.blockKind;rw[C];rfl
 unfold tu;simp only[K,d,ha,Expr.pos,X];rfl
end
theorem pW{K:aF}{a:ab}{xs:[aK]}{g:TG}{B:TT}{k:TE}{U:[ak]}{w:St}{d:Hp}{D:ab}{Q:[Dr]}(P:[yi,Hp])(I:P 0 [nF,d,D])(X:∀i H,i≤xs.length→P i H→ax K H a xs)(G:∀i x H,xs[i]?=Z x→P i H→g x [z_] H λ h M=>[K5,h,k,P (i+1) [LZ],P (i+1) L])(f:∀H,P xs.length H→Q H):[Qr,[Qu,d,mf K a,∃l:[Dr],(∀c,l c→∃S,S<m∧W (i+1) S c)∧∀x c,(mf K a).j1 i H x c→g x [z_] c λ h M=>[K5,h,k,l [LZ],l L]]]:=by rw[162,xs.length];have q:=X i H O p;rw[156,⟨xs,xs[i],q,[bB,s]⟩,λ c E=>[d9,xs.length-(i+1),[ac],s,E],λ x c y=>?_,G i x _ (y xs q) p,⟨xs,q,ba _⟩,f H p]
end L2
namespace L2
open PySem PySem.Spec PyProof.Rows
section
variable{prog:aY}{w:aU}{A:bP}{R:[pF,y4]}{s:aq}{elt t0 i0 t1 i1:bc}{ifs0 ifs1:[on]}{scope:dR}{pos:Pos}{it acc:ae}{env:Env}
end
section
variable{X:Cx}
end
end L2
namespace L2
open PySem PySem.Spec PyProof.Rows
section
variable{κ:Type}[[DV,κ]]
def cn(Y:[wx])(k:κ):[dL]:=(Y.find? [FG]).map (·.2)
def cD(Y:[wx])(k:κ)(v:V):[wx]:=[qe,Y.any [FG],Y.map (λ kv=>[Kv,k,v]),Y++[(k,v)]]
theorem lC{p:κ×V}{r:[wx]}{k:κ}(e:p.1=k):cn (p::r) k=Z p.2:=by simp[cn,vC,e]
theorem lD{p:κ×V}{r:[wx]}{k:κ}(e:¬p.1=k):cn (p::r) k=cn r k:=by simp[cn,vC,e]
theorem rE(k:κ):∀Y:[wx],(Y.any [FG])=(cn Y k).isSome
 |[]=>J
 |p::r=>by
  rw[k8];rw[30,p.1,k];·simp only[lC e,bK e,Bool.true_or,Option.isSome_some]
  ·rw[lD e,bW e,Bool.false_or];exact rE k r
theorem Ml(k j:κ)(y:V):∀Y:[wx],cn (Y.map λ kv=>[Kv,k,y]) j=[Aq,cn Y j,[wu,j,k,y,x]]
 |[]=>J
 |p::r=>by
  have T:=Ml k j y r;rw[bO];by_cases h:p.1=k
  ·rw[aI h];rw[30,p.1,j];·rw[lC (p:=(p.1,y)) e,lC e,sX,aI (e.symm.trans h)]
   ·rw[lD (p:=(p.1,y)) e,lD e,T]
  ·rw[aD h];rw[30,p.1,j];·rw[lC (p:=p) e,lC e,sX,aD (λ z=>h (e.trans z))]
   ·rw[lD (p:=p) e,lD e,T]
theorem Mm(k j:κ)(y:V):∀Y:[wx],cn Y k=none→cn (Y++[(k,y)]) j=[um,j=k,Z,y,cn Y j]
 |[],_=>by rw[30,k,j];rw[40,aI e.symm,lC (p:=(k,y)) e,aD (λ z=>e z.symm),lD (p:=(k,y)) e]
 |p::r,hn=>by
  rw[nW];have C:¬p.1=k:=λ z=>by rw[lC z]at hn;cases hn
  rw[lD C]at hn;have T:=Mm k j y r hn;rw[30,p.1,j];·rw[lC e,lC e,aD (λ z=>C (e.trans z))]
  ·rw[lD e,lD e,T]
theorem rF(Y:[wx])(k j:κ)(y:V):cn (cD Y k y) j=[um,j=k,Z,y,cn Y j]:=by
 unfold cD;by_cases a:(Y.any [FG])=true
 ·rw[aI a,Ml];rw[rE]at a;rw[30,j,k];·obtain⟨x,A⟩:=Option.isSome_iff_exists.mp a;rw[aI e,e,A,sX,aI J]
  ·rw[aD e];cases cn Y j with|none=>rfl|some x=>rw[sX,aD e]
 ·rw[13,aD a,Mm k j y Y ?_];rw[rE]at a;cases q:cn Y k with|none=>rfl|some x=>rw[q]at a;exact(a J).elim
theorem wG(Y:[wx])(k:κ)(v:V):[cY,cD Y k v,Y.length+1]:=by
 unfold cD;split;·rw[31,aC]
 ·rw[dh,dP,BE];omega
theorem wH{Y:[wx]}{k:κ}(v:V)(h:cn Y k=none):cD Y k v=Y++[(k,v)]:=by unfold cD;rw[12,rE,h,[DP]]
theorem ir.DH{o:[dL]}{u:[B1]}(r:ir o u):o.isSome=u.isSome:=by
 cases o with
  |none=>cases u with|none=>rfl|some _=>rw[104,r]
  |some _=>cases u with|none=>rw[104,r]|some _=>rfl
theorem ir.getD{o:[dL]}{u:[B1]}{d:V}{L:ae}(r:ir o u)(rd:bw d L):bw (o.getD d) (u.getD L):=by
 cases o with
  |none=>cases u with|none=>exact rd|some _=>rw[104,r]
  |some _=>cases u with|none=>rw[104,r]|some _=>exact r
theorem KV.val{Y:[wx]}{U:List (κ×ae)}(r:KV Y U)(k:κ):ir (cn Y k) (tD U k):=by
 unfold KV at r;induction r with
  |nil=>exact lW
  |@cons p q c d h t T=>
   obtain⟨g,a⟩:=h;rw[30,p.1,k];·rw[154,q.1=k,g.symm.trans e,tD,Z q.2,lC,a]
   ·rw[154,¬q.1=k,λ z=>e (g.trans z),tD,tD d k,lD,T]
theorem KV.any{Y:[wx]}{U:List (κ×ae)}(r:KV Y U)(k:κ):(Y.any [FG])=U.any [FG]:=by unfold KV at r;induction r with|nil=>rfl|cons h t T=>rw[k8,k8,T,h.1]
theorem KV.DI{Y:[wx]}{U:List (κ×ae)}(r:KV Y U)(k:κ){y:V}{u:ae}(A:bw y u):KV (Y.map λ kv=>[Kv,k,y]) (U.map λ kv=>[Kv,k,u]):=by
 unfold KV at r⊢;induction r with
  |nil=>exact .nil
  |@cons p q b c h t T=>
   rw[bO,bO];refine(.cons ?_ T);obtain⟨g,a⟩:=h;rw[30,p.1,k];·rw[aI e,aI (g.symm.trans e)];rw[0,g,A]
   ·rw[aD e,aD (λ z=>e (g.trans z))];rw[0,g,a]
theorem KV.put{Y:[wx]}{U:List (κ×ae)}(r:KV Y U)(k:κ){y:V}{u:ae}(A:bw y u):KV (cD Y k y) (stored U k u):=by
 unfold cD stored;rw[r.any k];rw[30,U.any [FG],true];·rw[12,aI e,aI e,r.DI k A]
 ·rw[12,aD e,aD e,Paired.snoc r [lu,A]]
theorem KV.length{Y:[wx]}{U:List (κ×ae)}(r:KV Y U):Y.length=U.length:=[DO,r]
end
theorem wJ{P:aY}{w:aU}{k:Key}{u:ae}(r:bw (kV k) u):(m7 P w).is k u=true:=by cases k with|inl i=>rw[137,Value.int,i];subst e;exact Uu P w i t|inr x=>rw[137,Value.str,x];subst e;exact Uv P w x t
abbrev KT(H:Hp):[d0,[lk],List (Tr×ab×ae)]:=Paired λ p q=>p.1=q.1∧eZ H p.1 q.2.1∧bw p.2 q.2.2
theorem KT.val{H:Hp}{Y:[lk]}{N:List (Tr×ab×ae)}(r:KT H Y N)(k:Tr):ir (cn Y k) ((ot N k).map (·.2)):=by
 induction r with
  |nil=>exact lW
  |@cons p q c d h t T=>
   obtain⟨g,_,a⟩:=h;rw[30,p.1,k];·rw[154,q.1=k,g.symm.trans e,ot,Z q.2,lC,a]
   ·rw[154,¬q.1=k,λ z=>e (g.trans z),ot,ot d k,lD,T]
theorem KT.DI{H:Hp}{Y:[lk]}{N:List (Tr×ab×ae)}(r:KT H Y N)(k:Tr){y:V}{u:ae}(A:bw y u):KT H (Y.map λ kv=>[Kv,k,y]) (N.map (putAt k u)):=by
 induction r with
  |nil=>exact .nil
  |@cons p q b c h t T=>
   rw[bO,bO];refine(.cons ?_ T);obtain⟨g,a,P⟩:=h;unfold putAt;rw[30,p.1,k];·rw[aI e,aI (g.symm.trans e)];rw[1,g,a,A]
   ·rw[aD e,aD (λ z=>e (g.trans z))];rw[1,g,a,P]
theorem KT.put{H:Hp}{Y:[lk]}{N:List (Tr×ab×ae)}(r:KT H Y N)(k:Tr){b:ab}{y:V}{u:ae}(K:eZ H k b)(A:bw y u):KT H (cD Y k y) (storedH N k b u):=by
 have e:(Y.any [FG])=(ot N k).isSome:=by rw[rE,(r.val k).DH,Option.isSome_map]
 unfold cD storedH;rw[e];by_cases q:(ot N k).isSome=true;·rw[12,aI q,aI q,r.DI k A]
 ·rw[12,aD q,aD q,Paired.snoc r ⟨J,K,A⟩]
theorem KT.keeps{H m:Hp}{Y:[lk]}{N:List (Tr×ab×ae)}(r:KT H Y N)(F:∀b G,H b=Z (.tup G)→m b=Z (.tup G)):KT m Y N:=[su,r,⟨z.1,z.2.1.mono F,z.2.2⟩]
section
variable{P:aY}{w:aU}{H:Hp}{h:aE}{a:ab}
theorem Mn{u:HO}(E:di P w H h)(e:Rd H a u):cU P w H h a u:=e.ok E
theorem oM{Y:[mh]}(E:di P w H h)(e:Rd H a (.dK Y)):[AU,aQ]∧[To]:=[Bh,P,w,H,h,a,.dK Y,Mn E e]
theorem V6{Y:[mh]}(E:di P w H h)(e:H a=Z (.dK Y)):[AU,aQ]∧[To]:=oM E (.inl e)
theorem z_(E:di P w H h):∀(t:Tr)(N:[aK])(W:[bu]),eI H t N→be N W→eH h t W|.nil,N,W,x,r=>by rw[[dA,N,[],x]]at r;rw[6,r,J]|.num _,_,_,x,_=>x.elim|.txt _,_,_,x,_=>x.elim|.cons a t,N,W,⟨v,rest,e,l,i⟩,r=>by subst e;cases r with|@cons _ u _ W s S=>rw[28,u,W,J,?_,z_ E t rest W i S];cases a with|num k=>rcases l with rfl|⟨b,rfl,eb⟩;rw[48,s,⟨b,s,eb⟩]|txt y=>rw[[dA,v,.str y,l]]at s;exact s|nil=>obtain⟨p,G,rfl,R,q⟩:=l;obtain⟨_,m,A,o,g,f,n,j⟩:=[Bh,P,w,H,h,p,.tup G,E p _ R];rw[9,p,m.toArray,s,⟨o,g,f,n,j⟩,[aB,z_ E .nil G m q A]]|cons c d=>obtain⟨p,G,rfl,R,q⟩:=l;obtain⟨_,m,A,o,g,f,n,j⟩:=[Bh,P,w,H,h,p,.tup G,E p _ R];rw[9,p,m.toArray,s,⟨o,g,f,n,j⟩,[aB,z_ E (.cons c d) G m q A]]
theorem uh{k:Tr}(E:di P w H h)(e:eZ H k a):(qX P w).is h k a:=by obtain⟨d,G,R,q⟩:=e;obtain⟨_,m,A,o,g,r,n,b⟩:=[Bh,P,w,H,h,a,.tup G,E a _ R];rw[23,d,m.toArray,⟨o,g,r,n,b⟩,[aB,z_ E k G m q A]]
theorem wK{A:bP}(o:[Dl,32]):(qX P w).room A.in1:=by show A.in1.units+16<fq;rw[31,Bz]
theorem ui{Y:[lk]}(E:di P w H h)(e:Rd H a (.dT Y)):[AU,aQ]∧[Ct,a]∧∃N,KT H Y N∧h.DictOfH (qX P w) a N:=by
 obtain⟨z,y,N,r,o,i,B,g,b,c,d,j⟩:=[Bh,P,w,H,h,a,.dT Y,Mn E e];refine⟨z,y,N,r,o,i,B,g,b,c,d,[rp],j⟩;have n:∀{l:[lk]}{m:List (Tr×ab×ae)},KT H l m→∀x∈m,(qX P w).is h x.1 x.2.1:=by
  intro l m q;induction q with
   |nil=>intro x A;exact nomatch A
   |@cons p q f k D t T=>
    intro x A;rcases[dE,A]with e|A;·subst e;exact uh E [cE,D.1,D.2.1]
    ·exact T x A
 exact n r x A
theorem Mo{Y:[lk]}(E:di P w H h)(e:H a=Z (.dT Y)):[AU,aQ]∧[Ct,a]∧∃N,KT H Y N∧h.DictOfH (qX P w) a N:=ui E (.inl e)
end
def eW(H:Hp)(a:ab)(y:V)(r:[dL]):Prop:=(∃Y k,Rd H a (.dK Y)∧y=kV k∧r=cn Y k)∨∃Y k b,(Rd H a (.dT Y)∧y=.ref b∧eZ H k b∧r=cn Y k)
def jf(H:Hp)(a:ab)(y v:V)(m:Hp):Prop:=(∃Y k,(H a=Z (.dK Y)∧y=kV k∧[J4]∧m=ag H a (.dK (cD Y k v))))∨∃Y k b,[bn,H a=Z (.dT Y),y=.ref b,eZ H k b,[J4],m=ag H a [Dc,k,v]]
theorem eW.k{H:Hp}{a:ab}{Y:[mh]}{k:Key}(e:H a=Z (.dK Y)):eW H a (kV k) (cn Y k):=.inl [lc,Y,k,.inl e,J]
theorem eW.t{H:Hp}{a b:ab}{Y:[lk]}{k:Tr}(e:H a=Z (.dT Y))(eb:eZ H k b):eW H a (.ref b) (cn Y k):=.inr ⟨Y,k,b,.inl e,J,eb,J⟩
theorem jf.k{H:Hp}{a:ab}{Y:[mh]}{k:Key}{v:V}(e:H a=Z (.dK Y))(X:[J4]):jf H a (kV k) v (ag H a (.dK (cD Y k v))):=.inl ⟨Y,k,e,J,X,J⟩
theorem jf.t{H:Hp}{a b:ab}{Y:[lk]}{k:Tr}{v:V}(e:H a=Z (.dT Y))(eb:eZ H k b)(X:[J4]):jf H a (.ref b) v (ag H a [Dc,k,v]):=.inr ⟨Y,k,b,e,J,eb,X,J⟩
section
variable{X:Cx}{pins:[bH]}{σ:St}{H:Hp}{s:aq}{a:ab}{y v:V}{u r:ae}{o:[dL]}{A:bP}{E:[aX]}
theorem Inv.wM(I:[ca]):[sB,iS]:=by have h:[sB,b_]:=(I.mod.glob.keeps I.bk).lt;exact SJ [bd] h
theorem V7{Q:[aX]}(f:[Dl,32])(I:[ca])(g:eW H a y (Z v))(i:bw y u)(h:∀m d,([mu,H,d])→bw v m→Q m d):[wJ,A,qN [bi] u]:=by
 rcases g with⟨Y,k,e,q,l⟩|⟨Y,k,b,e,q,eb,l⟩;·subst q;obtain⟨z,c,U,n,j⟩:=oM I.aH e;obtain⟨m,T,V⟩:=ir.some_of (v:=v) (o:=tD U k) [ar,l,n.val k];exact wpAny_getItem_of (wJ i) j.mapOf T (h m _ [tO] V)
 ·subst q;cases[dA,u,[jS,b],i];obtain⟨z,c,N,n,j⟩:=ui I.aH e;obtain⟨m,T,V⟩:=ir.some_of (v:=v) (o:=(ot N k).map (·.2)) [ar,l,n.val k];obtain⟨p,R,r⟩:=[Po,T];rw[57,wpAny_getItem_heap (wK f) (uh I.aH eb) j R ?_,r,h m _ [tO] V]
theorem V8{Q:[aX]}(f:[Dl,32])(I:[ca])(g:eW H a y o)(i:bw y u)(h:∀d,([mu,H,d])→Q (.bool (! o.isSome)) d):[wJ,A,f9 .NotIn u [bi]]:=by
 rcases g with⟨Y,k,e,n,l⟩|⟨Y,k,b,e,n,eb,l⟩;·subst n;obtain⟨z,c,U,j,p⟩:=oM I.aH e;refine wpAny_notIn_of (wJ i) c p.mapOf ?_;rw[←(j.val k).DH,←l];exact h _ [tO]
 ·subst n;rw[110,b,i];obtain⟨z,c,N,j,p⟩:=ui I.aH e;refine wpAny_notIn_heap (wK f) (uh I.aH eb) c p ?_;have q:=(j.val k).DH;rw[Option.isSome_map]at q;rw[←q,←l];exact h _ [tO]
theorem DJ{S:aE}{Y:Nat}{i:HO}(I:[ca])(m:wb (H a))(G:kq a s.heap S)(R:∃q,[iv,a]=Z q)(c:[Ig,H,a,i,S]):[mu,ag H a i,[pp,S,Y]]:=I.write (x:=a) (e:=a) m [db] (λ b q K z=>[mn,G,K,z]) R c
theorem V9{P:aY}{w:aU}{m:Hp}{S:aE}{Y:[mh]}{U:List (Key×ae)}(z:[AU,aQ])(b:[Ct,a])(c:KV Y U)(p:S.DictOf (m7 P w) a U):cU P w m S a (.dK Y):=⟨z,b,U,c,p⟩
theorem V_{m:Hp}{Q:[FM]}(o:[Dl,32])(I:[ca])(g:jf H a y v m)(p:bw y u)(O:bw v r)(h:∀j,([mu,m,j])→Q () j):[wJ,A,setItem [bi] u r]:=by
 rcases g with⟨Y,k,e,K,l,W⟩|⟨Y,k,b,e,K,eb,l,W⟩
 ·subst K W;obtain⟨z,i,U,F,C⟩:=V6 I.aH e;have M:U.length≤aQ:=[cE,F.length,z];have f:[cY,cD Y k v,aQ]:=by rw[10,wG Y k v]
  refine wpAny_setItem_pairs (hsz:=M) (wJ p) C λ S V G=>h _ ?_
  have R:∃q,[iv,a]=Z q:=let⟨q,_,_,D,_⟩:=V;⟨q,D⟩
  exact DJ I [ar,e,lW] G R (V9 f i (F.put k O) V)
 ·subst K W;cases[dA,u,[jS,b],p];obtain⟨z,i,N,F,C⟩:=Mo I.aH e;have M:[CW,aQ]:=[cE,[DO,F],z];have f:[cY,cD Y k v,aQ]:=by rw[10,wG Y k v]
  refine wpAny_setItem_heap (hsz:=M) (wK o) (uh I.aH eb) C λ S V G=>h _ ?_
  obtain⟨q,T,B,D,d,P,w,_,t⟩:=V;rw[57,DJ I [ar,e,lW] G ⟨q,D⟩ ⟨f,i,_,(F.put k eb O).keeps λ c n L=>?_,q,T,B,D,d,P,w,t⟩,ar (cE L e (λ z=>nomatch z)),L]
end
section
variable{X:Cx}{pins:[bH]}{σ:St}{H:Hp}{s:aq}{a:ab}{kvs:[mh]}{k:Key}{u:ae}{A:bP}{E:[aX]}
theorem Wa{Q:[aX]}(I:[ca])(e:Rd H a (.dK kvs))(h:∀t d,([mu,H,d])→Q (.int kvs.length t) d):[wJ,A,call [jb,"len"] [rD]]:=by obtain⟨z,b,U,c,p⟩:=oM I.aH e;refine call_len_dict b p (by rw[←c.length];rw[yR]at z;omega) ?_;rw[25,c.length,h _ _ [tO]]
end
def Mp(i:bc):Prop:=∀v b,BS i false v b=operate [v,b] (qN v b)
theorem DL{prog:aY}{w:aU}{A:bP}{E:[aX]}{s:aq}{env:Env}{a e:bc}{W:Pos}{T id:String}{Q:[aX]}(X:typeLookup (.type T) "__getitem__"=pure (Z [jb,id]))(G:Mp e)(h:[C2,eval a env,λ o L=>[Bk,eval e env,λ i j=>j.TypeIs o T∧[Bk,qN o i,Q,E,j],E,L]]):[im,eval [B4,a,e,W] env]:=by refine JD (gG h (λ o L P=>gG P (λ i j H=>?_) λ _ _ x=>x) λ _ _ x=>x);obtain⟨Y,H⟩:=H;unfold SU;rw[5,?_];rw[getitemInPython_of_ne Y.not_modules];rw[5,wpAny_specialOf Y X ?_];have C:[Bk,BS e false o i,λ r F=>[Bk,letTemporaryGo a o r>>=λ _=>pure r,Q,E,F],E,j]:=[ar,G o i,wpAny_operating (gG H (λ r F B=>au (wpAny_letTemporaryGo (aW B))) λ _ _ x=>x)];first|exact aW (au C)|exact au (aW (au C))|exact au C
theorem Wb{X:Cx}{B:[bH]}{w:St}{H:Hp}{s:aq}{a:ab}{y:V}{o:[dL]}(I:[iW])(g:eW H a y o):(s.TypeIs [bi] "dict"):=by
 rcases g with⟨Y,k,e,_,_⟩|⟨Y,k,b,e,_,_,_⟩;·obtain⟨_,_,U,_,p⟩:=oM I.aH e;exact p.typeIs
 ·obtain⟨_,_,N,_,p⟩:=ui I.aH e;exact p.typeIs
def wN(e k:TE):TE:=[sw,e,λ x b=>k w b λ y M=>∃a v,x=[bi]∧eW M a y (Z v)∧Q v M]
def Wc(k e:TE):TE:=[sw,k,λ y b=>e w b λ x M=>∃a o,x=[bi]∧eW M a y o∧Q (.bl (! o.isSome)) M]
def DN(e k t:TE):TS:=λ D w H=>t w H λ v b=>e w b λ x M=>k w M λ y L=>∃a R,x=[bi]∧jf L a y v R∧D.nx w R
section
variable{X:Cx}{o i e value:bc}{pos pos' tpos:Pos}{td ty tv:TE}
theorem nj(d:[J3,32])(E:PE X o td)(O:PE X i ty)(G:Mp i):PE X [B4,o,i,pos] (wN td ty):=by rw[64,DL PySem.F.slot_dict_getitem.lookup G (bj (E B s w H _ I h) λ u Y⟨x,b,r,L,n⟩=>bj (O B Y w b _ r n) λ f P⟨y,M,p,A,a,v,ex,g,c⟩=>?_)];rw[108,u,L];rw[0,Wb p g,V7 d p g A λ m C e V=>⟨v,M,e,V,c⟩]
theorem Aa(d:[J3,32])(O:PE X i ty)(E:PE X o td):PC X .NotIn i o (Wc ty td):=by rw[64,bj (O B s w H _ I h) λ f Y⟨y,b,r,A,n⟩=>bj (E B Y w b _ r n) λ u P⟨x,M,p,L,a,v,ex,g,c⟩=>?_];rw[108,u,L];exact V8 d p g A λ C e=>[lc,.bl (! v.isSome),M,e,c]
theorem nk(j:[J3,32])(E:PE X o td)(O:PE X i ty)(e:PE X value tv)(G:[Tb,value,Z [B4,o,i,pos']]):PS X (.Assign [[B4,o,i,pos']] value pos) (DN td ty tv):=by rw[94];refine wpAny_Assign_Subscript (bj (e B s w H _ I h) λ r Y⟨v,b,d,k,n⟩=>bj (E B Y w b _ d n) λ u P⟨x,M,p,f,c⟩=>bj (O B P w M _ p c) λ z C⟨y,L,q,A,a,R,ex,g,l⟩=>?_) G;rw[108,u,f];exact V_ j q g A k λ m t=>⟨w,R,t,l⟩
end
theorem Wd{P:aY}{w:aU}{H:Hp}(h:aE)(K:iS<h.objs.size):cU P w H (h.push [Rf]) h.objs.size (.dK []):=⟨b7 _,[KB,ja (dY K)],[],.nil,Heap.DictOf.new h⟩
theorem We{P:aY}{w:aU}{H:Hp}(h:aE)(K:iS<h.objs.size):cU P w H (h.push [Rf]) h.objs.size (.dT []):=⟨b7 _,[KB,ja (dY K)],[],.nil,_,#[],0,(dM _ J),[we,J,J],J,J,kj⟩
def Wf:TE:=λ _ H Q=>[NT,.dK []]
def Wg:TE:=λ _ H Q=>[NT,.dT []]
section
variable{X:Cx}{pos:Pos}
theorem wO:PE X (.Dict [] [] pos) Wf:=λ B s w H Q I h=>wpAny_Dict_empty [Qp,I.laid (a:=s.heap.objs.size) (o:=.dK []) (t':=s.toks) (λ _ _ q=>cG _ q) (ba _) (Wd s.heap I.wM),h]
theorem uj:PE X (.Dict [] [] pos) Wg:=λ B s w H Q I h=>wpAny_Dict_empty [Qp,I.laid (a:=s.heap.objs.size) (o:=.dT []) (t':=s.toks) (λ _ _ q=>cG _ q) (ba _) (We s.heap I.wM),h]
end
structure M1(X:Cx)(o:bc)(m:Str)(g:Pos)(e:bc)(s:Pos):Prop where
 base:[FE,o,m]
 fx:[Ts,s,[e],([e]:[on])]
 line:(g.endLine==s.line)=true
 trees:g_ s [oE,[e]]=[[zA,e]]
structure M2(X:Cx)(o:bc)(m:Str)(g:Pos)(e f:bc)(s:Pos):Prop where
 base:[FE,o,m]
 fx:[Ts,s,[e,f],([e,f]:[on])]
 line:(g.endLine==s.line)=true
 trees:g_ s [oE,[e,f]]=[[zA,e],[zA,f]]
def Mq(H:Hp)(a:ab):Prop:=(∃Y,Rd H a (.dK Y))∨∃Y,Rd H a (.dT Y)
theorem Wh{X:Cx}{B:[bH]}{w:St}{H:Hp}{s:aq}{a:ab}(I:[iW])(d:Mq H a):(s.TypeIs [bi] "dict")∧(∀b,[jS,a]=.ref b→∃i,[rw]=Z i∧i.dict=none)∧[Ct,a]:=by
 rcases d with⟨Y,e⟩|⟨Y,e⟩;·obtain⟨_,c,U,_,p⟩:=oM I.aH e;rw[24,p.typeIs,λ b q=>?_,c];cases q;obtain⟨i,_,_,g,r,_⟩:=p;rw[1,i,g,r.2.1]
 ·obtain⟨_,c,N,_,p⟩:=ui I.aH e;rw[24,p.typeIs,λ b q=>?_,c];cases q;obtain⟨i,_,_,g,r,_⟩:=p;rw[1,i,g,r.2.1]
section
variable{X:Cx}{pins:[bH]}{σ:St}{H:Hp}{s:aq}{a:ab}{y d:V}{u r:ae}{o:[dL]}{A:bP}{E:[aX]}
theorem Wi{Q:[aX]}(i:[Dl,32])(I:[ca])(g:eW H a y o)(j:bw y u)(rd:bw d r)(h:∀m f,([mu,H,f])→bw (o.getD d) m→Q m f):[wJ,A,call [jb,"dict.get"] [[bi],u,r]]:=by
 rcases g with⟨Y,k,e,q,l⟩|⟨Y,k,b,e,q,eb,l⟩;·subst q;obtain⟨z,c,U,n,p⟩:=oM I.aH e;rw[57,call_meetsIn RE p.typeIs PySem.F.entry_dict_get (PySem.F.args_dict_get_3 _ _ _) (meets_dict_get_default (m7 X.prog X.w) a (wJ j) c r) ⟨_,p.mapOf,h _ _ [tO] ?_⟩,l,(n.val k).getD rd]
 ·subst q;cases[dA,u,[jS,b],j];obtain⟨z,c,N,n,p⟩:=ui I.aH e;rw[57,call_meetsIn RE p.typeIs PySem.F.entry_dict_get (PySem.F.args_dict_get_3 _ _ _) (meetsH_dict_get_default (qX X.prog X.w) a b c r) ⟨wK i,k,N,uh I.aH eb,p,h _ _ [tO] ?_⟩,l,(n.val k).getD rd]
end
def Wj(e k tx:TE):TE:=[sw,e,λ x b=>∃a,x=[bi]∧Mq b a∧k w b λ y M=>tx w M λ z L=>∃o,eW L a y o∧Q (o.getD z) L]
section
variable{X:Cx}{o e f:bc}{apos cpos:Pos}{td ty tx:TE}
theorem Mr(j:[J3,32])(E:PE X o td)(R:PE X e ty)(F:PE X f tx)(m:M2 X o "get" apos e f cpos):PE X [Dw,"get",apos,[e,f],cpos] (Wj td ty tx):=by rw[64,wpAny_Call_method m.base m.fx m.line PySem.F.plainAttrs_dict RE PySem.F.type_dict_get (bj (E B s w H _ I h) λ u Y⟨x,b,r,i,a,ex,d,n⟩=>?_)];rw[108,u,i];obtain⟨q,k,_⟩:=Wh r d;rw[29,q,k];rw[m.trees];refine Bn J (IM (vx (bj (R B Y w b _ r n) λ N P⟨y,M,p,A,c⟩=>vx (bj (F B P w M _ p c) λ O C⟨z,L,v,S,K,g,l⟩=>Bv ?_))));exact Wi j v g A S λ D t G V=>⟨_,L,G,V,l⟩
end
section
variable{X:Cx}{pins:[bH]}{σ:St}{H:Hp}{s:aq}{a:ab}{kvs:[mh]}{A:bP}{E:[aX]}
end
section
variable{X:Cx}{pins:[bH]}{σ:St}{H:Hp}{s:aq}{a:ab}{y:V}{u:ae}{A:bP}{E:[aX]}
end
end L2
namespace L2
open PySem PySem.Spec PyProof.Rows
section
variable{prog:aY}{w:aU}{A:bP}{E:[aX]}
end
section
variable{X:Cx}
end
end L2
namespace L2
open PySem PySem.Spec PyProof.Rows
theorem Wk:vK "reversed"=Z (.type "reversed"):=[bE]
section
variable{X:Cx}{pins:[bH]}{σ:St}{H:Hp}{s:aq}{h':aE}
theorem Inv.Ms{t':Nat}{ch:[aT]}(I:[ca])(k:[NM,b∉ch,[B9]])(F:∀b∈ch,iY X pins H b):[Nk,H]:=by
 have t:∀b u,H b=Z u→b∉ch:=λ b u e z=>by have q:=(F b z).1;rw[35,q]
 refine I.step (g':=s.gens) (d':=s.drawn) (ch:=ch) [Pa,F b K] (λ b o _ _ V e _=>k b o V e) (λ b o _ _ V e _=>⟨o.slots,k b o V e⟩) (λ _ _ _ _ n=>n) (λ b o V e=>⟨o,k b o V e⟩) (λ _ _ e=>e) (λ _ _ _ e=>e) (λ b a e=>⟨#[],by rw[19,e]⟩) (λ m N=>?_) (λ b u e=>?_) I.bare;·obtain⟨o,T,B,E,r⟩:=N;rw[9,o,T,B,k _ o (λ z=>(F _ z).2.1 J) E,r]
 ·refine[N8,I.aH b u e,λ c v V q=>k c v ?_ q];rw[144,V,t b u e,t c _ z]
theorem Inv.Ab{t':Nat}{ch:[aT]}{T:ab}{i:HO}(I:[ca])(k:[NM,b∉ch,[B9]])(F:∀b∈ch,iY X pins H b)(Y:[Ow,T])(g:[Ig,H,T,i,h']):[Nk,ag H T i]:=by
 have hn:H T=none:=[EQ,Y];have t:∀b u,H b=Z u→b∉ch:=λ b u e z=>by have q:=(F b z).1;rw[35,q]
 refine I.step (g':=s.gens) (d':=s.drawn) (ch:=ch) [Pa,F b K] (λ b o _ _ V e _=>k b o V e) (λ b o _ _ V e _=>⟨o.slots,k b o V e⟩) (λ b o _ e n=>?_) (λ b o V e=>⟨o,k b o V e⟩) (λ b N e=>?_) (λ b o u e=>?_) (λ b d e=>[qv,#[]]) (λ m a=>?_) (λ b u e=>?_) I.bare;rw[11,ar (dY (dG (bR e) Y)),n];rw[40,ar (aX e hn),e,ar (aX e hn),e];·rw[ar (aX e hn),e];simp
 ·obtain⟨o,f,B,E,r⟩:=a;rw[9,o,f,B,k _ o (λ z=>(F _ z).2.1 J) E,r]
 ·by_cases K:b=T;·subst K;rw[67,aw,g]
  ·rw[ar K]at e;refine((I.aH b u e).l_ (λ c v V q=>k c v ?_ q) (λ c q=>[b8,aX q hn,q]) λ c N q=>[b8,aX q hn,q]);rw[144,V,t b u e,t c _ z]
end
section
variable{X:Cx}
theorem DO{tg:bc}{B:[bH]}{w:St}{H:Hp}{s:aq}{R:[wT,It]}{a:It}{c:[yi,aE]}{tk:Nat}(I:[iW])(o:Obj)(T:Turn X.prog X.w X.K tg a [s.heap.objs.size] s.heap.objs.size c)(L:c 0 [BT,o])(q:R a H):CV X B w tg R [nG] [pp,[BT,o],tk]:=by refine⟨s.heap.objs.size,[s.heap.objs.size],c,a,H,J,I.kept λ b i e=>cG _ e,T,L,[Fs],q⟩;rw[55,b=s.heap.objs.size,[aB,K]];exact I.oE (ba _) [Ek]
end
def Mt(i j c:Int)(n:Nat):Prop:=(c≠0∧c.natAbs<1073741824∧Builtin.Range.small i j c=true∧Builtin.Range.rangeSize i j c=n)
theorem Mt.neg{i j:Int}(ha:-(2^62)≤i)(k:i<2^62)(K:-(2^62)≤j)(W:j<2^62):Mt i j (-1) (i-j).toNat:=⟨[bd],[bd],PySem.W.small_down ha k K W,PySem.W.rangeSize_downNat i j⟩
section
variable{X:Cx}{tg:bc}
end
def wQ(K:aF)(a:ab)(n:Nat):It:=⟨λ i H=>i<n∧∃(N:[aK])(x:V),ax K H a N∧N[n-1-i]?=Z x,λ i H x m=>m=H∧∀N,ax K H a N→N[n-1-i]?=Z x,λ i _=>n≤i⟩
theorem Wl{P:aY}{w:aU}{K:aF}{tg:bc}(a t:ab)(n:Nat):[KI,tg,wQ K a n,[t],t,i≤n∧h.IsRevIter t a ([cQ]-1-(i:Nat))]where
 mem:=[al]
 obj:=λ i h L b j=>by rw[55,b=t,[aB,j]];obtain⟨_,o,e,c,d⟩:=L;rw[1,o,e,λ v z=>by rw[63,d]]
 keep:=λ i h S L k=>⟨L.1,L.2.at λ o e=>(k t [al] o e)⟩
 item:=by
  intro X y T C V i B s f H E I F L q;subst y T C;obtain⟨O,xs,x,D,g⟩:=q;obtain⟨m,rv,p,hz⟩:=I.list D;obtain⟨u,hu,ru⟩:=rv.get g;obtain⟨U,G,f2,M,R,Y⟩:=F t [al];obtain⟨_,W⟩:=L;have e1:[cQ]-1-[aV,i]=[aV,n-1-i]:=[ac];rw[e1]at W;refine wpAny_pyNext_rev_item W p.isList (x:=u) [aB,hu] λ S N sb=>?_
  have e2:[aV,n-1-i]-1=[cQ]-1-[aV,i+1]:=[ac];rw[e2]at N;have r:[jB,f,H,[gX,S]]:=[Im,λ b o j e=>[mn,sb,j,e],G,M,R,Y];obtain⟨o,e,c,d⟩:=id N;rw[22,u,wk (s:=[gX,S]) e c d [bd] ⟨x,H,r,ru,[lu,λ ys l=>[ar,I.rh l D,g]],⟨O,N⟩,λ b j=>(F b j).1⟩]
 done:=by intro X y T C V i B s f H E I F L q;subst y T C;obtain⟨U,G,f2,M,R,Y⟩:=F t [al];obtain⟨O,W⟩:=L;have hge:n≤i:=q;have e1:[cQ]-1-[aV,i]=-1:=[ac];rw[e1]at W;exact wpAny_pyNext_rev_end [tJ] W [Ny,[Im,λ b o j e=>eb b o j e,G,M,R,Y]]
 self:=λ A i s Q E L h=>wpAny_pyIter_revIter L.2 h
def Wm(K:aF)(T:TA):TI:=[K3,T,λ U b=>∃(a:ab)(N:[aK]),U=[rD]∧ax K b a N∧R (wQ K a N.length) b]
section
variable{X:Cx}{tg:bc}
theorem Mv{e:bc}{T:TA}{p k:Pos}(j:Gl X "reversed")(d:X.mg "reversed"=none)(ha:PA X [e] T)(G:[NG]:=by rfl):PI X tg (.Call (.Name "reversed" p) [e] [] k) (Wm X.K T):=by
 rw[120,Call_ (m_ I j d Wk (vp (bj (ha k B s w H _ I h) λ W Y⟨U,c,g,f,n⟩=>?_) G J))];obtain⟨a,N,e,D,q⟩:=n;subst e;cases f with
  |cons r t=>
   rw[59,t,r];obtain⟨m,O,E,M⟩:=g.list D;have b:=O.length;have e1:[aV,m.toArray.size]-1=[ap,N.length]-1-[aV,0]:=by rw[74,dN]
   rw[3,call_reversed_list E.isList (wpAny_pyIter_revIter (l:=a) (i:=[aV,m.toArray.size]-1) [LD] ?_),DO (tk:=Y.toks) g _ (Wl a _ N.length) [qv,b7 _] q];rw[←e1];exact[LD]
end
def pX(x:Str):It:=⟨λ i _=>i<x.cps.size,λ i H v m=>m=H∧∃c,x.cps[i]?=Z c∧v=[Ep],λ i _=>x.cps.size≤i⟩
theorem Mx{P:aY}{w:aU}{K:aF}{tg:bc}(m:ab)(x:Str)(t:Tok)(M:String)(R:M="str_ascii_iterator"∨M="str_iterator"):[KI,tg,pX x,[m],m,h.IsStrIter m M x t i]where
 mem:=[al]
 obj:=[Tt,m]
 keep:=λ i h S L k=>let⟨o,l,r⟩:=L;⟨o,(k m [al] o l),r⟩
 item:=by
  intro X n T p V i B s a H E I F L j;subst n T p;obtain⟨U,q,f2,y,N,O⟩:=F m [al];have W:Walks X.prog X.w X.A m [m] [m] x.cps.size (SignAt x) (λ i h=>h.IsStrIter m M x t i):=by rcases R with e|e;rw[40,e,Walks.strAscii [tJ] m x t,e,Walks.strWide [tJ] m x t]
  have D:[aw,[Ti].contains M]:=by
   rcases R with e|e;·rw[e];decide
   ·rw[e];decide
  refine W.item i s _ _ j L λ v S G hv C kk=>?_
  obtain⟨c,u,Y,rfl⟩:=hv;have I1:[jB,a,H,[p0,S]]:=I.turned (λ b o g e=>kk b o (by rw[75]) e) U q y N O;obtain⟨oi,e,cc,dd⟩:=id C;rw[22,_,wk (s:=[p0,S]) e cc dd D ⟨[Ep],H,I1,[ge,u],⟨J,c,Y,J⟩,C,λ b g=>(F b g).1⟩]
 done:=by
  intro X n T p V i B s a H E I F L j;subst n T p;obtain⟨U,q,f2,y,N,O⟩:=F m [al];have f:x.cps[i]?=none:=IF j;rcases R with e|e;·rw[e]at L;exact wpAny_pyNext_ascii_end [tJ] L f [Ny,[Im,[Re],q,y,N,O]]
  ·rw[e]at L;exact wpAny_pyNext_wide_end [tJ] L f [Ny,[Im,[Re],q,y,N,O]]
 self:=λ A i s Q E L h=>by
  rcases R with e|e;·rw[e]at L;exact wpAny_pyIter_striter_ascii L h
  ·rw[e]at L;exact wpAny_pyIter_striter_wide L h
def Wn(k:TE):TI:=[K3,k,λ v a=>∃x,v=.str x∧R (pX x) a]
theorem My{X:Cx}{tg e:bc}{k:TE}(b:PE X e k):PI X tg e (Wn k):=by rw[120,bj (b B s w H _ I h) λ v Y⟨y,a,r,c,x,ex,q⟩=>?_];subst ex;obtain⟨t,rfl⟩:=c;cases ha:x.cps.all (·<128);rw[2,wpAny_pyIter_wide ha (DO (tk:=Y.toks) r _ (Mx _ x t "str_iterator" (.inr J)) [LD] q),wpAny_pyIter_ascii ha (DO (tk:=Y.toks) r _ (Mx _ x t "str_ascii_iterator" [db]) [LD] q)]
section
variable{prog:aY}{w:aU}{A:bP}{E:[aX]}{s:aq}
theorem Wo{d:ab}{o:Obj}{T:Array i_}{B:Nat}{Q:[aX]}(a:[Ct,d])(b:[iF,d]=Z o)(V:o.ExactDict)(t:[J6,T,B])(p:Q [nG] [gX,[C5,"dict_keyiterator",[wl,#[.ref d,.int 0 0,.int T.size 0,.int B 0]]]]):[im,vU [lx]]:=by have Y:(s.TypeIs [lx] "dict"):=⟨o,b,V.1⟩;refine wpAny_pyIter_slot Y F.slot_dict_iter (qC F.slot_dict_iter Y F.entry_dict_iter ?_ (F.args_dict_iter_1 _));unfold Builtin.«dict.__iter__»;rw[5,?_];unfold Builtin.Dict.dictSlotNone;rw[5,wpAny_notOrdered_dict Y ?_];rw[101,pure [jS,d],s,aW ?_];rw[49,_,Builtin.Dict.showsAll d>>=_];unfold Builtin.Dict.showsAll;rw[aD [ar,a,eQ]];rw[3,au (aW ?_),au (Je b t ?_)];rw[3,au (SF b t ?_),au (nU (aW ⟨_,J,"dict_keyiterator",_,[p_,dM _ J],F.slot_dict_keyiterator_next.lookup,?_⟩))];simpa[f_]using p
theorem Wp{f d:ab}{i n B:Nat}{g:Obj}{T:Array i_}{en:i_}{Q:[pF,[j4,ae]]}(v:s.heap.IsKeyIter f d i n B)(j:[iF,d]=Z g)(k:g.data=.dict T B)(e:T.size=n)(a:T[i]?=Z en)(p:∀S,S.IsKeyIter f d (i+1) n B→[L1,kq,f,Q,Z en.key]):[im,kr [dS]]:=by
 obtain⟨o,c,V,b⟩:=id v;unfold kr;rw[5,Jv [NS,v.typeIs,Iw,F.entry_dict_keyiterator_next,?_,F.args_dict_keyiterator_next_1 _]];rw[5,aW ?_];rw[5,?_];rw[5,?_];first|rw[111,Ir]|rw[111,IG]
 rw[5,wpAny_fieldsOf c b ?_];have l:[aw,Builtin.Dict_items.ownsTuple "dict_keyiterator"]:=[bd];simp only[l,ki,iE];rw[49,_,[wO,[jS,d]==Value.none]];rw[aD (show¬(([jS,d]==Value.none)=true)from eQ)];rw[5,aW ?_];rw[5,Je j k ?_];rw[aD (by rw[19,e])];rw[5,aW ?_];rw[5,SF j k ?_];rw[aD [al]];refine aW ?_;obtain⟨m,z⟩:=[Kt,a];simp only[show¬([lG]<0)from[ac],iE,vy,sJ m];rw[5,?_];first|rw[111,Ir]|rw[111,IG]
 rw[5,wpAny_isOneOf_keyiter v.typeIs ?_];rw[49,_,BY [dS] 1 (f_ ([lG]+1))>>=_];rw[5,BN c b [al] ?_];have h:(s.heap.update f (qF (·.setIfInBounds 1 (f_ ((i:Int)+1))))).IsKeyIter f d (i+1) n B:=⟨_,IJ _ c (RM (Bu b _)),((Obj.cls_mapFields ..).trans V),by rw[Bu b];simp[f_]⟩;rw[5,k9 ?_];rw[5,(wpAny_isOneOf_keyiter (s:={s with heap:=s.heap.update f (qF (·.setIfInBounds 1 (f_ ((i:Int)+1))))}) h.typeIs ?_)];rw[39,az _ _ (pure T[i].key) _ _ _,z,aW (aW [de,aW (p _ h (nQ ..))])]
theorem Wq{f d:ab}{i n B:Nat}{j:Obj}{g:Array i_}{Q:[pF,[j4,ae]]}(W:[xO])(v:s.heap.IsKeyIter f d i n B)(k:[iF,d]=Z j)(l:j.data=.dict g B)(h:g.size=n)(R:n≤i)(p:∀S,[L1,Heap.ExtBut,f,Q,none]):[im,kr [dS]]:=by
 obtain⟨o,e,V,c⟩:=id v;unfold kr;rw[3,au (Jv [NS,v.typeIs,Iw,F.entry_dict_keyiterator_next,?_,F.args_dict_keyiterator_next_1 _]),au (aW ?_)];rw[3,au ?_,au ?_];first|rw[111,Ir]|rw[111,IG]
 rw[5,wpAny_fieldsOf e c ?_];have q:[aw,Builtin.Dict_items.ownsTuple "dict_keyiterator"]:=[bd];simp only[q,ki,iE];rw[14,az _ _ [wO,[jS,d]==Value.none] _ _ s,aD (show¬(([jS,d]==Value.none)=true)from eQ)];rw[3,au (aW ?_),au (Je k l ?_)];rw[aD (by rw[19,h])];rw[3,au (aW ?_),au (SF k l ?_)];rw[aD [al]];refine aW ?_;have r:g.size≤i:=[ar,h,R];simp only[show¬([lG]<0)from[ac],iE,vy,IF r];rw[5,?_];first|rw[111,Ir]|rw[111,IG]
 rw[49,_,BY [dS] 0 .none>>=_];rw[5,BN e c [al] ?_];rw[91,newExc (.type "StopIteration") []];rw[5,?_];simp only[newExc,newTuple];rw[5,nU ?_ (by size_fits)];rw[3,au (m:=firstArgMember _ _) (S6 (a:=Value.none) (by first|rfl|(simp only[firstArgMember];rfl)) ?_),nU ?_ (by size_fits)];simp only[raiseNew];rw[5,wpAny_handled ?_];rw[[dA,A.in1.handled,none,W]];rw[3,au (aW (wpAny_throw ?_)),au (Sv (T:="StopIteration") (b:=true) [p_,dM _ J] isSubtype_stop ?_)];exact aW (p _ (((nQ ..).extBut.push _).push _))
end
theorem Ac{c:Type}{Y:List (c×V)}{U:List (c×ae)}(h:KV Y U):∀{i:Nat}{k:c}{v:V},Y[i]?=Z (k,v)→∃u,U[i]?=Z (k,u)∧bw v u:=by unfold KV at h;induction h with|nil=>intro i k v e;simp at e|@cons a b s d r t T=>intro i k v e;cases i with|zero=>simp only[RC,RK]at e;subst e;rw[24,b.2,?_,r.2];simp only[RC];exact ed Z (Prod.ext r.1.symm J)|succ j=>simp only[List.getElem?_cons_succ]at e⊢;exact T e
theorem d6{m d:Type}{G:[d0,m,d]}{s:[li]}{Y:List d}(h:(Paired G s Y)):∀{i:Nat}{a:m},s[i]?=Z a→∃b,Y[i]?=Z b∧G a b:=by induction h with|nil=>intro i a e;simp at e|@cons a b s Y r t T=>intro i V e;cases i with|zero=>simp only[RC,RK]at e;subst e;rw[22,b,r]|succ j=>simp only[List.getElem?_cons_succ]at e⊢;exact T e
theorem Wr{k:Key}{u:ae}(h:qY k u=true):bw (kV k) u:=by rw[151,h];rw[2,[ge,t],[ge,t]]
section
variable{X:Cx}{pins:[bH]}{σ:St}{H:Hp}{s:aq}{d:ab}{o:Obj}
end
section
variable{P:aY}{w:aU}{K:aF}{tg:bc}{d:ab}{o:Obj}{es:Array i_}{ep:Nat}
end
section
variable{X:Cx}{tg e:bc}{td:TE}{apos cpos:Pos}
end
def wR(K:aF)(a:ab):It:=⟨λ i H=>∃(N:[aK])(x:V),ax K H a N∧N[i]?=Z x∧[aw,dD x],λ i H v m=>∃T x,(v=.ref T∧H T=none∧m=ag H T [Cf,x]∧[Pv,ax]),λ i H=>∃N:[aK],ax K H a N∧[CW,i]⟩
theorem Ws{P:aY}{w:aU}{K:aF}{N:[on]}{kk:Nat}{U:Pos}(a e l:ab):[KI,.Tuple N kk U,wR K a,[e,l],e,(∃C,IsEnum h e l [aV,i] C)∧h.IsListIter l a i∧e≠l]where
 mem:=[al]
 obj:=λ i h L b d=>by obtain⟨⟨C,R⟩,⟨o,g,V,hd⟩,_⟩:=L;have f:b=e∨b=l:=[aB,d];rcases f with z|z;rw[40,z,[Ky,R],z,[Qg,o,g,hd]]
 keep:=λ i h S L k=>let⟨⟨C,R⟩,hi,n⟩:=L;⟨⟨C,(k e [al] _ R)⟩,hi.at λ o q=>(k l [al] o q),n⟩
 item:=by
  intro X r T t V i B s σ H E I F L j;subst r T t;obtain⟨⟨C,R⟩,G,n⟩:=L;obtain⟨xs,x,D,c,aH⟩:=j;obtain⟨m,O,p,hz⟩:=I.list D;obtain⟨u,hu,ru⟩:=O.get c;have W:[sB,e]:=bR R;have hil:[sB,l]:=by obtain⟨_,q,_⟩:=G;exact bR q
  rw[3,wpAny_pyNext_enum_item R G p.isList (x:=u) [aB,hu] n λ S g Y hT hsz hk=>?_,[de,wpAny_letOwnedTupleGo_enum (s:=[pp,S,s.toks+1]) g λ M he' y=>?_]];have hT2:[LL,M.get?]=Z [Nl,#[.int i s.toks,u]]:=[eY,y.2,_,g9 W,hT];have new:[Ig,H,s.heap.objs.size,[Cf,x],M]:=⟨[rF,2,by rw[14,(! dD x)=true,aH];rfl],[.int i s.toks,u],[zC,[rg],ru],[d9,_,hT2,_,J]⟩;have I1:[jB,σ,[Ii,[Cf,x]],[pp,M,s.toks+1]]:=I.Ab (ch:=[e,l]) (λ b ob d q=>[mn,y,[LE,d],hk b ob [LE,d] [LE,d] q]) F (ba _) new;rw[47,[nG],_,I1,J,⟨_,x,J,[Ek],J,λ ys hy=>[ar,I.rh hy D,c]⟩,⟨[qv,u],Y.at λ o q=>[eY,y.2,l,ja n,q],n⟩,λ b d=>?_];·have e1:[aV,i+1]=[lG]+1:=[ac];rw[4,e1,he']
  ·have hb':[sB,b]:=by have f:b=e∨b=l:=[aB,d];rcases f with z|z;rw[40,z,W,z,hil]
   rw[4,ar (dY hb'),(F b d).1]
 done:=by intro X r T t V i B s σ H E I F L j;subst r T t;obtain⟨⟨C,R⟩,G,n⟩:=L;obtain⟨xs,D,c⟩:=j;obtain⟨m,O,p,hz⟩:=I.list D;obtain⟨f0,f1,f2,f3,f4,f5⟩:=F l [al];have hl:=O.length;exact wpAny_pyNext_enum_end [tJ] R G p.isList (by rw[18]) [Ny,I.turned (t':=s.toks) (λ b o d q=>eb b o d q) f0 f1 f3 f4 f5]
 self:=λ A i s Q E L h=>let⟨[gt,R],_⟩:=L;Jf R h
def Wt(K:aF)(T:TA):TI:=[K3,T,λ U b=>∃a N,U=[rD]∧ax K b a N∧R (wR K a) b]
theorem Mz{X:Cx}{e:bc}{T:TA}{p o y:Pos}{A:[on]}{Q:Nat}(j:Gl X [AQ])(d:X.mg [AQ]=none)(ha:PA X [e] T)(G:[NG]:=by rfl):PI X (.Tuple A Q y) (.Call (.Name [AQ] p) [e] [] o) (Wt X.K T):=by
 rw[120,Call_ (m_ I j d boot_enumerate (vp (bj (ha o B s w H _ I h) λ W Y⟨U,c,k,i,n⟩=>?_) G J))];obtain⟨a,N,ex,D,q⟩:=n;subst ex;cases i with
  |cons r x=>
   rw[59,x,r];obtain⟨m,O,E,M⟩:=k.list D;refine call_enumerate_list E.isList λ S f v u C=>Jf f ?_
   have t:[jB,w,c,[Nb,S]]:=k.kept (t':=Y.toks) C;refine⟨[pr,1],[[pr,1],Y.heap.objs.size],_,_,c,J,t,Ws a [pr,1] Y.heap.objs.size,⟨⟨.none,f⟩,v,Nat.succ_ne_self _⟩,[Fs],q⟩;have g:b=[pr,1]∨b=Y.heap.objs.size:=[aB,K];have L:Y.heap.objs.size≤b:=by rcases g with z|z;rw[40,z,vB _ _,z,ba _]
   exact k.oE L (k.aH.fresh L)
theorem MD:vK "zip"=Z (.type "zip"):=[bE]
def wU(K:aF)(a b:ab):It:=⟨λ i H=>∃(N G:[aK])(x y:V),[Ec,ax K H a N,b,G,N[i]?=Z x,G[i]?=Z y,[aw,dD y]],λ i H v m=>∃T x y,[bn,v=.ref T,H T=none,m=[pD,H,T,x,y],[Pv,ax],∀G,ax K H b G→G[i]?=Z y],λ i H=>∃N G:[aK],ax K H a N∧ax K H b G∧([CW,i]∨G.length≤i)⟩
theorem Wu{P:aY}{w:aU}{K:aF}{T:[on]}{kk:Nat}{V:Pos}{a b z f TO n e:ab}(D:qM z f TO n e a b):[KI,.Tuple T kk V,wU K a b,[z,f,TO,n,e],z,[bn,IsZip h z f TO .none,fo h f (.ref n) (.ref e),∃x y,fo h TO x y,h.IsListIter n a i,h.IsListIter e b i]]where
 mem:=[al]
 obj:=λ i h L c hc=>by obtain⟨M,t,⟨x,y,C⟩,⟨o1,e1,_,d1⟩,⟨o2,e2,_,d2⟩⟩:=L;have e':c=z∨c=f∨c=TO∨c=n∨c=e:=[aB,hc];rcases e' with q|q|q|q|q;rw[11,q,[Ky,M]];rw[40,q,[Ky,t],q,[Ky,C]];rw[40,q,[Qg,o1,e1,d1],q,[Qg,o2,e2,d2]]
 keep:=λ i h h' L k=>by obtain⟨M,t,⟨x,y,C⟩,g,r⟩:=L;rw[9,k z [al] _ M,k f [al] _ t,⟨x,y,(k TO [al] _ C)⟩,g.at λ o q=>(k n [al] o q),r.at λ o q=>(k e [al] o q)]
 item:=by
  intro X hP hw hK hc i B s σ H E I hf L hg;subst hP hw hK;obtain⟨M,t,⟨x0,y0,C⟩,g,r⟩:=L;obtain⟨xs,ys,x,y,R,U,hx,hy,aH⟩:=hg;obtain⟨m,rv,p,_⟩:=I.list R;obtain⟨F,S,p2,_⟩:=I.list U;obtain⟨u,hu,ru⟩:=rv.get hx;obtain⟨u2,hu2,ru2⟩:=S.get hy;have Y:[sB,z]:=bR M;refine wpAny_pyNext_zip_item D M t C g r p.isList p2.isList (x:=u) (y:=u2) [aB,hu] [aB,hu2] λ h' z' TO' h1' h2' hT hsz hk=>?_
  refine[de,wpAny_letOwnedTupleGo_zip (s:=[gX,h']) z' λ G z'' j=>?_];have hT2:[LL,G.get?]=Z [Nl,#[u,u2]]:=[eY,j.2,_,g9 Y,hT];have new:[Ig,H,s.heap.objs.size,[ii,x,y],G]:=⟨[rF,2,by rw[14,(! dD y)=true,aH];rfl],[u,u2],[zC,ru,ru2],[d9,_,hT2,_,J]⟩;have I1:[jB,σ,[Ii,[ii,x,y]],[gX,G]]:=I.Ab (t':=s.toks) (ch:=[z,f,TO,n,e]) (λ c o d q=>[eY,j.2,c,[wA],hk c o [wA] [wA] [wA] [wA] q]) hf (ba _) new;rw[47,[nG],_,I1,J,⟨_,x,y,J,[Ek],J,λ l hl=>[ar,I.rh hl R,hx],λ l hl=>[ar,I.rh hl U,hy]⟩,⟨z'',?_,⟨u,u2,?_⟩,?_,?_⟩,λ c N=>?_];rw[2,[eY,j.2,_,D.TIz,hk _ _ D.TIz D.TITO D.TIi1 D.TIi2 t],[eY,j.2,_,D.TOz,TO']];rw[2,h1'.at λ o q=>[eY,j.2,_,D.i1z,q],h2'.at λ o q=>[eY,j.2,_,D.i2z,q]]
  ·have hlt:[sB,c]:=by
    have e':c=z∨c=f∨c=TO∨c=n∨c=e:=[aB,N];rcases e' with q|q|q|q|q;rw[11,q,Y];rw[40,q,bR t,q,bR C];·rw[q];obtain⟨_,e1,_⟩:=g;exact bR e1
    ·rw[q];obtain⟨_,e2,_⟩:=r;exact bR e2
   rw[4,ar (dY hlt),(hf c N).1]
 done:=by
  intro X hP hw hK hc i B s σ H E I hf L hg;subst hP hw hK;obtain⟨M,t,⟨x0,y0,C⟩,g,r⟩:=L;obtain⟨xs,ys,R,U,O⟩:=hg;obtain⟨m,rv,p,_⟩:=I.list R;obtain⟨F,S,p2,_⟩:=I.list U;have l1:=rv.length;have l2:=S.length;have he:m.toArray[i]?=none∨F.toArray[i]?=none:=by rcases O with q|q;rw[48,by rw[18],by rw[18]]
  exact wpAny_pyNext_zip_end (I.ok.hd hc) D M t C g r p.isList p2.isList he λ h' hk=>[lu,I.Ms (t':=s.toks) (ch:=[z,f,TO,n,e]) (λ c o d q=>hk c o [wA] [wA] [wA] [wA] q) hf]
 self:=λ A i s Q E L h=>BI L.1 h
def Wv(K:aF)(T:TA):TI:=[K3,T,λ U c=>∃a b N G,(U=[[bi],.ref b]∧ax K c a N∧ax K c b G∧R (wU K a b) c)]
theorem Ww{X:Cx}{e e2:bc}{T:TA}{p W P:Pos}{V:[on]}{Q:Nat}(j:Gl X "zip")(N:X.mg "zip"=none)(ha:PA X [e,e2] T)(G:[oE,[e,e2]]=[zA,e]::[oE,[e2]]:=by rfl)(L:[aw,(g_ W [oE,[e2]]).any (·.1)]:=by rfl):PI X (.Tuple V Q P) (.Call (.Name "zip" p) [e,e2] [] W) (Wv X.K T):=by
 rw[120,Call_ (m_ I j N MD (vp (bj (ha W B s w H _ I h) λ us Y⟨vs,f,l,k,n⟩=>?_) G L))];obtain⟨a,b,xs,ys,ex,K,U,q⟩:=n;subst ex;cases k with
  |cons r D=>
   cases D with
    |cons A D=>
     cases D;rw[59,r,A];obtain⟨m,rv,O,_⟩:=l.list K;obtain⟨F,rv2,t,_⟩:=l.list U;have u:a<Y.heap.objs.size:=O.lt;have lb:b<Y.heap.objs.size:=t.lt;refine call_zip_2 O.isList t.isList λ S M v x g d hsz C=>BI M ?_
     have o:[jB,w,f,[Nb,S]]:=l.kept (t':=Y.toks) C;refine⟨[pr,4],[[pr,4],[pr,2],[pr,3],Y.heap.objs.size,[pr,1]],_,_,f,J,o,Wu (PySem.W.ktu_apart Y.heap.objs.size a b u lb),⟨M,v,⟨_,_,x⟩,g,d⟩,λ c E=>?_,q⟩;have i:c=[pr,4]∨c=[pr,2]∨c=[pr,3]∨c=Y.heap.objs.size∨c=[pr,1]:=[aB,E];have y:Y.heap.objs.size≤c:=by rcases i with z|z|z|z|z;rw[11,z,vB _ _];rw[40,z,vB _ _,z,vB _ _];rw[40,z,ba _,z,vB _ _]
     exact l.oE y (l.aH.fresh y)
end L2
section
namespace Wx
open PySem PyProof.Rows
end Wx
end
section
namespace TL
open PySem PySem.Builtin PySem.Builtin.Str PySem.StrLaws
abbrev tl(x:Str):[ak]:=x.cps.toList
end TL
end
namespace L2
open PySem PySem.Spec PyProof.Rows
theorem MG:∀l:[gj,Tok],be ((l.map (·.1)).map V.str) (strValues l)|[]=>.nil|p::r=>(.cons [ge,p.2] (MG r))
theorem DP:∀{G:[bj]}{W:[bu]},be (G.map V.str) W→StrsAre W G|[],_,.nil=>.nil|y::G,_,.cons r t=>by obtain⟨k,rfl⟩:=r;exact .cons y k (DP t)
def DQ(G:[bj]):[Ka]:=λ H Q=>[NT,.aj (G.map V.str)]
section
variable{X:Cx}{pins:[bH]}{σ:St}{H:Hp}{s:aq}{Q:VK}
theorem DR{l:[gj,Tok]}{ys:[bj]}{k:Nat}(I:[ca])(e:l.map (·.1)=ys)(M:ys.length≤aQ)(h:DQ ys H Q):EP X pins σ Q [nG] {s with toks:=k,heap:=[C5,"list",[KZ,strValues l]]}:=by have R:=[Ek];refine[lc,[nG],[Ii,.aj (ys.map V.str)],I.laid (λ b u q=>cG _ q) (ba _) ⟨[ov,M],strValues l,_,?_,(dM _ J)⟩,h _ R];rw[25,e,MG l]
end
section
variable{X:Cx}
theorem Wy:pS X "str.split" (λ x N H Q=>∃a b,[bn,x=.str a,N=[.str b],[aw,b.length==0],a.length+2≤aQ,DQ (oj a b) H Q]):=by
 intro B s w H x N v W Q I L r h;obtain⟨a,b,rfl,rfl,K,M,h⟩:=h;rw[42];cases r with
  |cons e r=>
   cases r;obtain⟨u,rfl⟩:=e;have c:[cY,oj a b,aQ]:=bf (PyProof.Rows.split_le a b) M;have hn:[cY,Iy a [Q6,Iz] b.length,aQ]:=by have e1:=[Q6,StrLaws.occ_length_le];rw[31,length_partsBetween]
   cases g:([aN,a.length<b.length]||[aN,sR a<sR b])
   ·cases d:[Q6,Iz].isEmpty;·rw[43,yV Jh (tp _ _ _) Si (Sb _ _) (meets_str_split_sep a b t u g K d [ac] hn) ?_,EP X B w Q [nG] {s with toks:=_,heap:=[C5,"list",[KZ,strsFrom s.toks (Iy a [Q6,Iz] b.length)]]}];rw[4,strsFrom_eq,DR (ys:=oj a b) I [eY,numbered_texts,_,_,((aD (SA g)).trans (aD (SA d))).symm] c h]
    ·rw[69,yV Jh (tp _ _ _) Si (Sb _ _) (meets_str_split_not_found a b t u g K d) ?_,DR (l:=[(a,t)]) (ys:=oj a b) (k:=s.toks) I ((aD (SA g)).trans (aI d)).symm c h]
   ·rw[69,yV Jh (tp _ _ _) Si (Sb _ _) (meets_str_split_cannot_occur a b t u g) ?_,DR (l:=[(a,t)]) (ys:=oj a b) (k:=s.toks) I (aI g).symm c h]
theorem Wz:pS X "str.join" (λ x N H Q=>∃a p,∃G:List Str,x=.str a∧N=[.ref p]∧(ax X.K H p (G.map V.str)∨bM X.K H p (G.map V.str))∧(G.map (·.length)).sum+G.length*a.length≤16777216∧Q (.str (JF a G)) H):=by
 intro B s w H x N v W Q I L e h;obtain⟨a,p,G,rfl,rfl,R,M,h⟩:=h;rw[42];cases e with
  |cons d e=>
   rw[59,e,d];rcases R with R|R;·obtain⟨m,r,⟨o,n,E,b,_,c⟩,_⟩:=I.list R;exact PyProof.Rows.join_list (items:=m.toArray) ⟨o,E,b,n,c⟩ [ar,RZ,DP r] M λ Y k=>⟨.str _,H,I.tok k,[ge,Y],h⟩
   ·obtain⟨m,r,F,_⟩:=I.tuple R;exact PyProof.Rows.join_tuple (items:=m.toArray) F [ar,RZ,DP r] M λ Y k=>⟨.str _,H,I.tok k,[ge,Y],h⟩
theorem MH{d:String}{g:Str→Str→V}(e:∀(a b:Str)(t u:Tok)(s:aq)(Q:[aX]),((∀(v:ae)(k:Nat),bw (g a b) v→Q v {s with toks:=k})→[f8,call [jb,d] [.str a t,.str b u],Q,s])):pS X d [Tz,g a b]:=by intro B s w H x N v W Q I L f h;obtain⟨a,b,rfl,rfl,h⟩:=h;rw[42];cases f with|cons c f=>cases f;obtain⟨u,rfl⟩:=c;exact e a b t u s _ λ v k r=>⟨g a b,H,I.tok k,r,h⟩
theorem WA:pS X "str.endswith" [Tz,.bl (Jt a b)]:=MH (g:=λ a b=>.bl (Jt a b)) λ _ _ _ _ s _ h=>PySem.SC.endswith (h _ s.toks J)
theorem Ad:pS X "str.count" [Tz,.int (Txt.count a b)]:=MH (g:=λ a b=>.int (Txt.count a b)) λ _ _ _ _ s _ h=>PySem.SC.count (h _ (s.toks+1) [rg])
end
section
variable{X:Cx}{o e:bc}{to te:TE}
def DU(r:[Ev])(to te:TE):TE:=[sw,to,λ x b=>(∃a,x=.str a)∧te w b λ y M=>r x [y] M Q]
theorem rG{i:String}{L:Str}{g W:Pos}{r:[Ev]}(slot:Slot "str" L i)(k:typeOf [jb,i]=pure (.type "method_descriptor"))(m:pS X i r)(E:PE X o to)(R:PE X e te)(G:[NG]:=by rfl)(j:[FE,o,L]:=by rfl)(l:(g.endLine==W.line)=true:=by rfl):PE X [Dw,L,g,[e],W] (DU r to te):=by rw[64,PySem.Call_method1 j G l [zK,E B s w H _ I h,b,f,d,?_]];obtain⟨⟨a,rfl⟩,n⟩:=n;obtain⟨t,rfl⟩:=_root_.id d;rw[69,⟨"str",_,F.plainAttrs_str,slot,k,tp _ _ _,(λ _ e=>nomatch e),Bn J (IM (vx ?_))⟩,[PK,R B Y w b _ f n,c,Bv (m B P w M _ [y] _ [u] Q p d [qu,S] c)]]
theorem Ae{g W:Pos}(E:PE X o to)(R:PE X e te)(G:[NG]:=by rfl)(j:[FE,o,"split"]:=by rfl)(f:(g.endLine==W.line)=true:=by rfl):PE X [Dw,"split",g,[e],W] (DU (λ x N H Q=>∃a b,[bn,x=.str a,N=[.str b],[aw,b.length==0],a.length+2≤aQ,DQ (oj a b) H Q]) to te):=rG Jh F.type_str_split Wy E R G j f
theorem WB{g W:Pos}(E:PE X o to)(R:PE X e te)(G:[NG]:=by rfl)(j:[FE,o,"join"]:=by rfl)(f:(g.endLine==W.line)=true:=by rfl):PE X [Dw,"join",g,[e],W] (DU (λ x N H Q=>∃a p,∃b:List Str,x=.str a∧N=[.ref p]∧(ax X.K H p (b.map V.str)∨bM X.K H p (b.map V.str))∧(b.map (·.length)).sum+b.length*a.length≤16777216∧Q (.str (JF a b)) H) to te):=rG F.slot_str_join F.type_str_join Wz E R G j f
end
end L2
namespace L2
open PySem PySem.Spec PyProof.Rows
section
variable{X:Cx}
theorem wW:dz X (f9 .In) [TQ]:=by intro B s w H x y v u Q I L A h;obtain⟨c,z,rfl,rfl,q⟩:=h;obtain⟨t,rfl⟩:=L;rw[103,PyProof.Rows.in_str,(PySem.StrLaws.found_one z c).symm]
end
theorem IsPart.raw{v:ae}{o:[vX]}(p:IsPart v o):∃l:[j4,Int×Tok],v=partValue l∧l.map (·.1)=o:=by cases p with|none=>rw[22,none,J]|int i t=>rw[22,Z (i,t),J]
def wX(n d:Nat):(Option Int→Int)|none=>[ap,d]|Z i=>max 0 (min (if i<0 then i+[cQ]else i) [cQ])
theorem MJ(n d:Nat)(o:[vX]):wX n d o=[aV,HT.bz n d o]:=by
 cases o with
  |none=>rfl
  |some v=>
   show max [ap,0] (min (if v<0 then v+[cQ]else v) [cQ])=[aV,[ON,v,v.toNat]];by_cases y:v<0;·rw[74,aI y]
   ·rw[74,aD y]
theorem WC(a b:[vX])(n:Nat):qw a b 1 n=sliceRange (wX n 0 a) (wX n n b) 1:=by have g:([rc]>0)=True:=[al];cases a<;>cases b<;>first|rfl|(simp only[qw,wX,g,il];rfl)|simp[qw,wX]
theorem WD(a b:[vX])(n:Nat):qw a b 1 n=[wv,HT.bz n n b-HT.bz n 0 a,λ k=>HT.bz n 0 a+k]:=by
 rw[WC,MJ,MJ];generalize HT.bz n 0 a=p;generalize HT.bz n n b=q;simp only[sliceRange,[dA,[rc]>0,True,[al]],il];by_cases s:[ap,p]<q
 ·have B:(([ap,q]-p+1-1)/1).toNat=q-p:=by first|omega|(simp;done)|(rw[18])
  simp only[s,il,B];refine iD λ k _=>?_
  omega
 ·rw[50,q-p=0];simp[s,this]
def mq(z:Str)(c O:[vX]):Str:=⟨((z.cps.toList.drop [Aj]).take ([Kf]-[Aj])).toArray⟩
theorem ML(z:Str)(c O:[vX]):yy z c O=mq z c O:=by
 have g:[Aj]≤z.length:=HT.De _ _ (b7 _) _;have r:[Kf]≤z.length:=HT.De _ _ (ba _) _;have R:[Aj]≤max [Aj] [Kf]:=BH _ _;have D:max [Aj] [Kf]≤z.length:=Nat.max_le.mpr ⟨g,r⟩;have a:max [Aj] [Kf]-[Aj]=[Kf]-[Aj]:=[ac];have e:qw c O 1 z.length=qw (Z [aV,[Aj]]) (Z [aV,max [Aj] [Kf]]) 1 z.length:=by rw[PySem.StrLaws.strSliceIndices_plain R D,a,WD]
 have e2:yy z c O=yy z (Z [aV,[Aj]]) (Z [aV,max [Aj] [Kf]]):=by unfold yy;rw[e]
 rw[e2,PySem.StrLaws.sliceText_nat z R D,a];rfl
theorem WE(z:Str)(c O:[vX]):[cY,mq z c O,z.length]:=by show((z.cps.toList.drop [Aj]).take ([Kf]-[Aj])).toArray.size≤z.cps.size;rw[dN,jJ,lQ,nR];omega
def MM:[O9]:=λ x c O H Q=>∃z,x=.str z∧z.length≤aQ∧Q (.str (mq z c O)) H
theorem DV{X:Cx}:zS X MM:=by
 intro B s w H x v f k b O Y Q I L G d y h;obtain⟨z,rfl,M,q⟩:=h;obtain⟨t,rfl⟩:=L;obtain⟨e,j,g,i⟩:=G;obtain⟨l,rfl,rfl⟩:=IsPart.raw d;obtain⟨u,rfl,rfl⟩:=IsPart.raw y;rw[3,⟨"str",_,F.slot_str_getitem.lookup,tp _ _ _,?_⟩,wpAny_getItem_str_slice (l:=l) (u:=u) (st:=none) ⟨e,j,g,i⟩ J ?_];have a:[cY,(yy z (l.map (·.1)) (u.map (·.1))),aQ]:=[ar,ML,bf (WE z _ _) M];rw[←ML]at q;unfold yy at q a;show Made.post (if((1:Int)==1&&(qw (l.map (·.1)) (u.map (·.1)) 1 z.length).length==z.length)=true then Made.val (.str z t)else Made.str ⟨((qw (l.map (·.1)) (u.map (·.1)) 1 z.length).filterMap (z.cps[·]?)).toArray⟩) [zX] s;by_cases c:((1:Int)==1&&(qw (l.map (·.1)) (u.map (·.1)) 1 z.length).length==z.length)=true;·rw[aI c]at q⊢;rw[9,.str z,H,I,[ge,t],q]
 ·rw[aD c]at q a⊢;rw[37,a,.str _,H,[tO],[rg],q]
end L2
namespace MP
open PySem PySem.W PySem.Calls PyProof.Rows
theorem WG{P:Params}{h:aE}:∀(f:[bF])(U:[bu]),WellAll P h U (f.map WData.int)→om U f:=by intro f;induction f with|nil=>intro U w;rw[vI]at w;rw[6,w,.nil]|cons n f T=>intro U w;rw[bO]at w;cases w with|cons a b=>rw[6,a,.cons _ _ (T _ b)]
section
variable{prog:aY}{w:aU}{A:bP}{E:[aX]}{s:aq}{K:Frag}
end
end MP
namespace L2
open PySem PySem.Spec PyProof.Rows
end L2
namespace L2
open PySem PySem.Spec PyProof.Rows
end L2
namespace L2
open PySem PySem.Spec PyProof.Rows
def inClass(s:a9)(j:Nat):a9:=match s with|.ClassDef _ _ _ body _ _ _ _ _ _ _=>body.getD j (.Pass ⟨0,0,0,0⟩)|_=>.Pass ⟨0,0,0,0⟩
def mr(s:a9):vN:=match s with|.FunctionDef _ a _ _ _ _ _ _ _ _=>a|_=>{posonlyargs:=[],args:=[],vararg:=none,kwonlyargs:=[],kw_defaults:=[],kwarg:=none,defaults:=[]}
def jA(s:a9):List a9:=match s with|.FunctionDef _ _ b _ _ _ _ _ _ _=>b|_=>[]
def aZ(s:a9):dR:=match s with|.FunctionDef _ _ _ _ _ _ sc _ _ _=>sc|_=>{kind:=[B7],names:=[],isGenerator:=false,isCoroutine:=false}
abbrev aG:kA:=λ _ _ _ _ _ _=>False
abbrev E0:XK:=λ _ _ _=>False
theorem bH{X:Cx}:oG aG X E0:=λ _ _ _ _ _ _ _ h=>h.elim
structure kE(K:aF)(x N:Str)(L:a9)(f:ab)(v:bq):Prop where
 ex:∃(r:ae)(g:[ug])(kV p z:ae)(A:[ug])(j ct:ae)(w:[C_]),v=km x N (mr L) (jA L) (aZ L) .none kV p z A j ct∧[pv,f]=Z [Op,v]∧sZ K j N=true
 kp:[NN]
section
variable{P:aY}{w:aU}{K:aF}{mg:[a_]}{base:aE}
theorem kE.ok{x b:Str}{L:a9}{f:ab}{v:bq}{N a:[bj]}{k:Nat}{sp:Sp}(F:kE K x b L f v)(S:bQ N a (aZ L))(n:[NW,a.length])(y:∀(j:ae)(A:bP)(outer:[wF])(s:aq)(H:Hp)(U:[aK])(Q:VK)(E:XK),cy k [OZ,b,aZ L]→sp U H Q E→∃t,gi (gy aG P w K mg base N b (aZ L) f j A outer s H E).jZ (jA L) t∧[Tj]):aA P w K mg base aG (k+1) f v a sp:=by
 obtain⟨r,g,kV,p,z,c,j,ct,d,rfl,lk,e⟩:=F.ex;refine Dd lk e S n λ A outer s H U Q E u i=>?_
 obtain⟨t,h,q⟩:=y j A outer s H U Q E u i;rw[1,t,h.jZ,q]
theorem kE.binds{x N:Str}{L:a9}{f:ab}{v:bq}{V:[bj]}(F:kE K x N L f v)(h:∀(kV p z:ae)(A:[ug])(j ct:ae)(W:[bu]),W.length=V.length→yX (km x N (mr L) (jA L) (aZ L) .none kV p z A j ct) [tN,W]=pure (V.zip W)):Binds K v V []:=by obtain⟨r,g,kV,p,z,A,j,ct,w,rfl,lk,c⟩:=F.ex;exact .all (h kV p z A j ct)
theorem DW{x N:Str}{st:a9}{f:ab}{r:ae}{g A:[ug]}{w:[C_]}{kV p z j ct:ae}(l:[pv,f]=Z [Op,km x N (mr st) (jA st) (aZ st) .none kV p z A j ct])(c:sZ K j N=true)(k:[NN]):kE K x N st f (km x N (mr st) (jA st) (aZ st) .none kV p z A j ct):=⟨⟨r,g,kV,p,z,A,j,ct,w,J,l,c⟩,k⟩
end
theorem jB{A:bP}{k:Nat}(u:cy k A):[Dl,32]:=eR (Nat.add_le_add_left ([bd]:32≤64) _) u.units
section
variable{X:Cx}
theorem pv(i:Nat){x:Str}{W:Pos}(v:X.N[i]?=Z x:=by rfl)(y:[Fj,q0]:=by first|exact aR J|exact gq (aR J)|exact gq (gq J))(a:[uk,x]:=by decide)(c:[aw,x==[PJ]]:=by decide):PE X [tW,W] (cv i):=UE v y a c
theorem WH:[CJ,[jb,"len"],∃a Y,N=[eD,a]∧H a=Z (.dK Y)∧Q (.int Y.length) H]:=by intro B s w H N W Q I r h;obtain⟨a,Y,rfl,ha,q⟩:=h;obtain⟨u,rfl,C⟩:=vals1 r;rw[6,C,Wa I (.inl ha) λ t d S=>⟨.int Y.length,H,S,[ge,t],q⟩]
end
theorem a_{A B:Prop}(h:B):[qe,false,A,B]:=[ar,aD eQ,h]
theorem aV{A B:Prop}(h:A):[qe,true,A,B]:=[ar,aI J,h]
def ah(H m:Hp):Prop:=[rh,H b,m b=Z o]
theorem ah.refl(H:Hp):ah H H:=λ _ _ h=>h
theorem ah.trans{H d M:Hp}(a:ah H d)(b:ah d M):ah H M:=λ c o h=>b c o (a c o h)
theorem ah.free{H m:Hp}(e:ah H m){l:ab}(h:m l=Option.none):H l=Option.none:=by cases q:H l with|none=>rfl|some o=>rw[44,e l o q]
theorem ah.seq{K:aF}{H m:Hp}{a:ab}{N:[aK]}(e:ah H m)(h:ax K H a N):ax K m a N:=by
 rcases h with(h|⟨o,h⟩)|h;·rw[21,.inl (e _ _ h)]
 rw[48,[jT,o,e _ _ h],h]
section
variable{κ:Type}[[DV,κ]]
theorem DX{Y:[wx]}{k:κ}(h:cn Y k=none):¬k∈[Nf]:=by intro m;obtain⟨p,R,e⟩:=[bp,m];have q:(Y.any [FG])=true:=[QQ,e];rw[rE,h]at q;rw[8,q,[al]]
theorem wY{Y:[wx]}{k:κ}{v:V}(h:cn Y k=Z v):k∈[Nf]:=by
 have q:(Y.any [FG])=true:=by rw[rE,h];all_goals rfl
 obtain⟨p,R,e⟩:=List.any_eq_true.mp q;exact[Do,p,R,lR e]
theorem uk:∀{l:List κ}{k:κ},l.Nodup→¬k∈l→(l++[k]).Nodup|[],k,_,_=>[al]|a::r,k,h,C=>by obtain⟨g,b⟩:=[Az,h];show(a::(r++[k])).Nodup;refine List.nodup_cons.mpr ⟨λ m=>?_,uk b λ m=>C (List.mem_cons.mpr (gq m))⟩;rcases[gM,m]with q|q;rw[2,g q,C (List.mem_cons.mpr (aR (List.mem_singleton.mp q).symm))]
theorem WI{Y:[wx]}{k:κ}(v:V)(hn:[ML])(h:cn Y k=none):((cD Y k v).map (·.1)).Nodup:=by rw[12,wH v h,cH,uk hn (DX h)]
end
theorem at_of{N:[aK]}{z:Int}{j:Nat}{v:V}(e:z=[ap,j])(h:N[j]?=Z v):kB N z=Z v:=[ar,e,VE h]
theorem ah.made{H a:Hp}{x W C:ab}(nx:H x=Option.none)(nd:H W=Option.none)(k:[uj,[Go,H,x,C],b≠x,a b=Z o]):ah H a:=[Fa,k,by rw[12,ar (aX e nx),ar (aX e nd),e],aX e nx]
end L2
end
section
namespace L2
open PySem PySem.W PySem.Spec PyProof.Rows
section
variable{prog:aY}{w:aU}{A:bP}{E:[aX]}{s:aq}{I S f:ab}{fp wr:[aT]}{n:Nat}{P:[yi,ae]}{St:[yi,aE]}{R:[pF,y4]}{Q:[aX]}
def i3(ex:[aT])(h S:aE):Prop:=[O_,b∉ex,[jU],[iv,b]]
def MQ(s:aq)(h:aE)(x:ae)(d:aq):Prop:=∃(k:Int)(t:Tok)(S:aE)(n:Nat),x=.int k t∧d=[pp,S,n]∧[rh,[jU],[iv,b]=Z o]
theorem cmp_gt{k kb:Int}{t F:Tok}{Q:[aX]}{s:aq}(h:Q (.bool [aN,k>kb]) s):[im,yS .Gt (.int k t) (.int kb F)]:=by rw[45,CmpOf.ints_gt (prog:=prog) (w:=w) (A:=A) (P:=λ i v=>∃t,v=Value.int [wu,i,0,kb,k] t) (λ i=>[wu,i,0,kb,k]) (λ i v h=>h) 1 0 (.int k t) (.int kb F) s Q E [ge,t] [ge,F],this h]
theorem WJ(hh:[xO])(W:[QI])(D:S∉fp)(m:aE)(T:∀(i:Nat)(v:ae)(h:aE)(G:Nat),P i v→(i3 (S::wr) m h→az [vY] A.in1 (call [dS] [v]) (MQ s h) [AO] [p0,h]))(hR:∀(i:Nat)(v:ae)(d:aE)(u:Nat),(i<n→P i v→i3 (S::wr) m d→R (.ok (.ret v)) [pp,d,u])):∀(r j:Nat)(h:aE)(G:Nat)(B:ae)(kb:Int)(F:Tok)(c:Nat),[b9,n-j=r,j≤n,St j h,h.get? S=Z (gu "list" #[B,.int kb F] c),(∃i,i<n∧P i B)→i3 (S::wr) m h→mT [vY] A (.builtin "max.loop" [tN,[Kr,I,f,S]]) R [p0,h]]:=by
 have N:[Qx]:=[bd];have U:S∉wr:=(λ z=>D (W.sub S z));have V:∀{h d:aE},i3 (S::wr) m h→([O_,b∉wr,[jU],d.get? b])→i3 (S::wr) m d:=λ{h d}k1 k2 b o K e=>k2 b o (λ z=>K (cp _ z)) (k1 b o K e)
 have X:∀{h d:aE},i3 (S::wr) m h→kq S h d→i3 (S::wr) m d:=λ{h d}k1 sb b o K e=>[mn,sb,λ z=>K [ar,z,cq],k1 b o K e]
 intro r;induction r with
  |zero=>intro j h G B kb F c hr hj L t g C;rw[55,j=n,[ac]];rw[132,t,W.done _ _ _ L λ d u Q=>?_];have Y:=nQ d S (jM λ _=>(#[]:[lC]));show[Mb,JL S (λ _=>#[])];rw[3,au ?_,yL (Q S _ U t) J (au (oh (aW ?_)))];obtain⟨i,hi,hpi⟩:=g;exact hR i B _ _ hi hpi (X (V C Q) Y)
  |succ r ih=>
   intro j h G B kb F c hr hj L t g C;have l:j<n:=[ac];rw[132,t,W.item j _ _ _ l L λ v d u hP H Q=>?_];have hS1:=Q S _ U t;have k1:=V C Q;rw[160,tw [v] (call [dS] [v]),gG (T j v d u hP k1) (λ x s'' he=>?_) λ _ _ hF=>hF.elim];obtain⟨k,p,a,tk2,rfl,rfl,E⟩:=he;have O:=E S _ hS1;have k2:i3 (S::wr) m a:=λ b o K e=>E b o (k1 b o K e)
   have M:St (j+1) a:=[KU,W.frame,H,E b o e];rw[160,tw [v,.int k p] (yS .Gt (.int k p) (.int kb F)>>=_),au (cmp_gt ?_)];rw[3,au (k9 (mN ?_)),au (oh (aW ?_))];by_cases y:k>kb;·have Y:=nQ a S (jM [JQ,p]);obtain⟨q,hc2⟩:∃q,(a.update S (jM [JQ,p])).get? S=Z (gu "list" #[v,.int k p] q):=[gt,Jo O [JQ,p]];simp only[y,decide_true,il];rw[3,au ?_,yL O J (au (oh ?_))];rw[N];refine[O6,ih (j+1) _ _ v k p q [ac] l (W.frame _ _ _ M λ b K o e=>[mn,Y,λ z=>D (z▸K),e]) hc2 ⟨j,l,hP⟩ (X k2 Y)]
   ·simp only[y,decide_false,ki,iE];rw[5,oh ?_];rw[4,N,[O6,ih (j+1) _ _ B kb F c [ac] l M O g k2]]
theorem WK{it:ae}(hh:[xO])(l:0<n)(iter:∀(Q:[aX]),((∀(I:ab)(g:aE)(G:Nat)(fp wr:[aT])(St:[yi,aE]),[b9,[QI],St 0 g,∀b∈fp,b<g.objs.size,[vk,[B6]],(∀b∈wr,[rw]=none)→Q (.ref I) [p0,g]])→az [vY] A.in1 (vU it) Q E s))(T:∀(i:Nat)(v:ae)(h:aE)(G:Nat),P i v→(([vk,[jU]])→az [vY] A.in1 (call [dS] [v]) (MQ s h) [AO] [p0,h]))(hQ:∀(i:Nat)(v:ae)(a:aE)(p:Nat),(i<n→P i v→([vk,a.get? b])→Q v [pp,a,p])):[im,call [M8] [it] [[Nn]]]:=by
 have u:[Qx]:=[bd];refine kmk_tree PySem.F.kind_max PySem.F.plain_max PySem.F.entry_max (kmk_max_key _ _) ?_;rw[49,A.in1,[Rn,⟨[],[[Nn]]⟩]>>=_];rw[3,au (S6 [dA,[Rn,⟨[],[[Nn]]⟩],pure [Z [dS],none],J] ?_),au (aW ?_)];rw[3,au (iter _ λ I g G fp wr St W V y D O=>?_),au (SW ?_ (b7 _))];rw[u];refine aW [qv,tm kU _];generalize K:g.objs.size=S;have t:S∉fp:=(λ z=>[e9,y S z,[cE,K,g8 _]]);have F:S∉wr:=(λ z=>t (W.sub S z));have gS:(g.push [Fc]).get? S=Z [Fc]:=[cE,K,dM _ J];have j:[vk,(g.push [Fc]).get? b]:=[EZ,D b o e];have nS:[rh,[rw],b≠S]:=λ b o e=>[cE,K,dY (bR (D b o e))]
 have X:St 0 (g.push [Fc]):=[KU,W.frame,V,cG _ e];rw[132,gS,W.item 0 _ _ _ l X λ v a p hP B m=>?_];have q:[vk,a.get? b]:=[Fa,m,λ z=>by rw[35,O b z],j b o e];rw[160,tw [v] (call [dS] [v]),gG (T 0 v a p hP q) (λ x s'' he=>?_) λ _ _ hF=>hF.elim];obtain⟨k,c,r,tk2,rfl,rfl,L⟩:=he;have C:=L S _ (m S _ F gS);have Y:=nQ r S (jM [JQ,c]);obtain⟨d,N⟩:∃d,(r.update S (jM [JQ,c])).get? S=Z (gu "list" #[v,.int k c] d):=[gt,Jo C [JQ,c]];show[Mb,JL S [JQ,c]];rw[3,au ?_,yL C J ?_];rw[u];have U:St 1 r:=[KU,W.frame,B,L b o e];have H:∀{h:aE},i3 (S::wr) (r.update S (jM [JQ,c])) h→[vk,[jU]]:=λ{h}kb b o e=>kb b o (λ z=>[dE,z].elim (nS b o e) λ z=>by rw[35,O b z]) [mn,Y,nS b o e,L b o (q b o e)]
 exact[O6,WJ (s:=s) hh W t (r.update S (jM [JQ,c])) (λ i M h G R kb=>T i M h G R (H kb)) (λ i M a p hi R kb=>hQ i M a p hi R (H kb)) _ 1 _ _ v k c d J l (W.frame _ _ _ U λ b hb o e=>[mn,Y,λ z=>t (z▸hb),e]) N ⟨0,l,hP⟩ (λ _ _ _ e=>e)]
end
end L2
end
section
namespace L2
open PySem PySem.W PySem.Spec PyProof.Rows
section
variable{prog:aY}{w:aU}{d:ab}{o:Obj}{es:Array i_}{ep:Nat}
theorem WL{A:bP}(W:[xO])(I:ab)(l:d≠I)(X:[J6,es,ep]):Walks prog w A I [I,d] [I] es.size (λ i v=>∃en,es[i]?=Z en∧v=en.key) (λ i h=>h.IsKeyIter I d i es.size ep∧h.get? d=Z o)where
 sub:=λ b K=>by simp at K;simp[K]
 frame:=λ _ _ _ L C=>⟨L.1.at λ o e=>C I [al] o e,C d [al] o L.2⟩
 item:=λ i s Q E O L p=>by have a:es[i]?=Z es[i]:=sJ O;rw[69,Wp L.1 L.2 X J a λ S c y=>?_,p _ S s.toks [p_,a] ⟨c,[eY,y.2,d,l,L.2]⟩ λ b o K e=>[mn,y,[LE,K],e]]
 done:=λ s Q E L p=>Wq W L.1 L.2 X J (ba _) λ S eb=>p S s.toks λ b o K e=>eb b o [LE,K] e
 self:=λ _ _ _ _ L p=>wpAny_pyIter_keyiter L.1 p
theorem DY(c:[Ct,d])(a:o.ExactDict)(X:[J6,es,ep]):KdlSrc prog w "dict" d d es.size (λ i v=>∃en,es[i]?=Z en∧v=en.key) (λ h=>h.get? d=Z o)where
 type:=λ _ N=>⟨o,N,a.1⟩
 there:=λ _ N=>⟨bR N,bR N⟩
 keep:=λ _ _ N C=>C d [db] o N
 notList:=[bd]
 notTuple:=[bd]
 hint:=λ _ _ _ _ N D=>kdl_hint_dict ⟨o,N,a.1⟩ D
 iter:=λ A s W N=>⟨_,_,(λ _ _ D=>Wo c N a X D),WL W _ (dY (bR N)) X,⟨[LD],cG _ N⟩⟩
end
theorem MR{prog:aY}{w:aU}{c:Type}[[DV,c]]{d:KeyKind prog w c}:∀{T:List i_}{U:List (c×ae)},Pairs d T U→∀{i:Nat}{en:i_},T[i]?=Z en→∃k u,U[i]?=Z (k,u)∧d.is k en.key=true|_,_,.nil,i,en,h=>by rw[16]|_,_,.cons g _ t,0,en,h=>by rw[102];rw[23,_,_,J,g]|_,_,.cons _ _ t,i+1,en,h=>by obtain⟨k,u,a,b⟩:=MR t (i:=i) (by rw[51]);rw[23,k,u,[aB,a],b]
section
variable{X:Cx}{pins:[bH]}{σ:St}{H:Hp}{s:aq}{d:ab}
theorem Inv.WM{Y:[mh]}(I:[ca])(h:Rd H d (.dK Y)):[Ct,d]∧[AU,aQ]∧∃(o:Obj)(T:Array i_)(B:Nat),[bn,[iF,d]=Z o,o.ExactDict,[J6,T,B],T.size=Y.length,∀(i:Nat)(en:i_),T[i]?=Z en→∃k v,Y[i]?=Z (k,v)∧bw (kV k) en.key]:=by
 obtain⟨z,a,U,kv,o,T,B,E,A,j,r⟩:=oM I.aH h;have N:s.heap.DictAt (m7 X.prog X.w) d U B:=⟨o,T,E,A,j,r⟩;have m:=r.2.1.length;have e:Y.length=U.length:=[DO,kv];rw[nR]at m;refine⟨a,z,o,T,B,E,A,j,[ac],λ i en O=>?_⟩;have b:i<Y.length:=by rw[10,[Kt,O].1]
 obtain⟨⟨k,v⟩,g⟩:∃p,Y[i]?=Z p:=⟨Y[i],bX b⟩;obtain⟨u,c,C⟩:=Ac kv g;refine⟨k,v,g,?_⟩;have q:T.toList[i]?=Z en:=[ar,o7,O];obtain⟨f,l,K,D⟩:=MR r.2.1 q;rw[c]at K;rw[6,K,Wr D]
theorem Inv.DZ{Y:[lk]}(I:[ca])(h:Rd H d (.dT Y)):[Ct,d]∧[AU,aQ]∧∃(o:Obj)(T:Array i_)(B:Nat),[bn,[iF,d]=Z o,o.ExactDict,[J6,T,B],T.size=Y.length,∀(i:Nat)(en:i_),T[i]?=Z en→∃k v q,Y[i]?=Z (k,v)∧en.key=.ref q∧eZ H k q]:=by
 obtain⟨z,c,N,r,o,T,B,g,a,P,w,m⟩:=[Bh,X.prog,X.w,H,s.heap,d,.dT Y,h.ok I.aH];have f:T.size=N.length:=size_of_entries w;have j:Y.length=N.length:=[DO,r];refine⟨c,z,o,T,B,g,a,P,[ac],λ i en O=>?_⟩;have e:i<Y.length:=by rw[10,[Kt,O].1]
 obtain⟨⟨k,v⟩,l⟩:∃p,Y[i]?=Z p:=⟨Y[i],bX e⟩;obtain⟨b,K,e1,e2,_⟩:=d6 r l;have q:=entry_at w i;rw[K,O]at q;rw[6,q,⟨k,v,b.2.1,l,J,e2⟩]
theorem MU(b:[sK]):[CJ,[Ml],∃(d:ab)(Y:[lk]),N=[[lx]]∧Rd H d (.dT Y)∧∀(l:ab)(G:[aK]),[wg,l,G.length=Y.length,∀(i:Nat)(k:Tr)(v:V),Y[i]?=Z (k,v)→∃q,G[i]?=[bV,q]∧eZ H k q,Q [io] (ag H l (.aj G))]]:=by
 intro pins s σ H N us Q I r h;obtain⟨d,Y,rfl,f,q⟩:=h;obtain⟨u,rfl,L⟩:=vals1 r;cases L;obtain⟨m,z,o,es,ep,E,A,x,n,F⟩:=I.DZ f;refine kdl_call (DY m A x) (I.ok.hd b) E [ac] λ S g P c' kp e M=>?_
 let G:[aK]:=P.toList.map [TD];have c:G.length=Y.length:=by simp only[G,aC,nR];rw[M.1,n]
 have w:be G P.toList:=by
  have K:∀(l:[bu]),(∀v∈l,∃q,v=[jS,q])→be (l.map [TD]) l:=by intro l;induction l with|nil=>intro _;exact .nil|cons a l T=>intro c;obtain⟨q,rfl⟩:=c a [al];exact(.cons J (T λ v y=>c v [bB,y]))
  refine K _ λ v y=>?_
  obtain⟨j,U⟩:=[Kz,y];rw[o7]at U;obtain⟨en,R,rfl⟩:=M.2 j v U;obtain⟨k,v',q,_,C,_⟩:=F j en R;rw[0,q,C]
 rw[28,[nG],_,I.laid (t':=g) kp (ba _) [Bh,X.prog,X.w,_,S,_,.aj G,⟨[ac],P.toList,c',w,[aB,e]⟩],J,q _ G [Ek] c λ i k v t=>?_];have O:i<es.size:=by rw[10,[eJ,t]]
 have W:i<P.size:=[ar,M.1,O];obtain⟨en,R,y⟩:=M.2 i P[i] (sJ W);obtain⟨k',v',q',D,p,B⟩:=F i en R;rw[t]at D;cases D;rw[24,q',?_,B];simp only[G,cJ,o7,sJ W,sX,y,p]
end
end L2
end
section
namespace L2
open PySem PySem.W PySem.Spec PyProof.Rows
section
variable{prog:aY}{w:aU}{A:bP}{E:[aX]}{s:aq}{d f:ab}{o:Obj}{es:Array i_}{ep:Nat}
theorem WN{Q:[pF,[bu]]}(W:[xO])(m:[Ct,d])(f:o.ExactDict)(X:[J6,es,ep])(k:[iF,d]=Z o)(hn:es.size≤aQ)(h:∀S G,([vk,[iv,b]])→s.heap.objs.size<S.objs.size→Q [Q5] [p0,S]):[im,collect [lx]]:=by
 unfold collect;rw[5,wpAny_runValue (s_ entry_proto_collect' ?_)];rw[49,_,do
  again (.builtin "list.__iadd__" [tN,[←BZ [],[lx]]])]
 rw[5,SW (aW ⟨Code.quiet_builtin _ [bE],s_ entry_list_iadd' ?_⟩)];rw[vt [bE] _];show az _ _ (Builtin.List.listExtendWith [nG] [lx] [nG]) _ _ [gX,[BT,[Fc]]];have l:=bR k;rw[43,kdl_extend (R:=λ r j=>match r with
  |Except.ok (Flow.ret v)=>[Bk,match v with
   |Value.ref a=>do
    let o←load a
    match o.data with
     |Data.seq N _=>
      pure N.toList
     |_=>
      unsupported "internal:collect"
   |_=>unsupported "internal:collect",Q,E,j]
  |Except.ok a=>False
  |Except.error e=>E e j) (s:=[gX,[BT,[Fc]]]) (DY m f X) W (cG _ k) s.heap.objs.size (g9 l) (g9 l) [nG] 0 (dM _ J) (λ S G t n kp p q=>?_) hn,[Bk,do
  let o←load s.heap.objs.size
  match o.data with
   |.seq N _=>
    pure N.toList
   |_=>
    unsupported "internal:collect",Q,E,[p0,S]]]
 rw[5,wpAny_load p ?_];show az _ _ (pure t.toList) Q E _;have e:t.toList=es.toList.map (·.key):=by
  apply List.ext_getElem?;intro i;rw[cJ,o7,o7];by_cases O:i<es.size;·have u:i<t.size:=[ar,q.1,O];obtain⟨en,g,c⟩:=q.2 i t[i] (sJ u);rw[sJ u,g,c];rfl
  ·rw[IF [gL,q.1],IF [ac]];rfl
 rw[13,e,aW (h S G [Fa,kp,dY (bR e),cG _ e] (bR p))]
theorem WO{Q:[aX]}{N:aE}{L:ab}{m:[a_]}{kz:[bF]}(F:Fr N L s.heap m)(hh:[xO])(lo:[Ct,d])(hx:o.ExactDict)(X:[J6,es,ep])(ho:[iF,d]=Z o)(hn:es.size≤aQ)(K:kz.length=es.size)(T:∀(i:Nat)(en:i_)(k:Int),es[i]?=Z en→kz[i]?=Z k→∀(h:aE)(G:Nat),(([NM,b≠L,[jU]])→az [vY] A.in1.in1 (call [dS] [en.key]) (λ x s'=>∃t S n,x=.int k t∧s'=[pp,S,n]∧[rh,[jU],[iv,b]=Z o]) [AO] [p0,h]))(hQ:∀D S G(C:[lC])c,[b9,[NM,b≠L,[iv,b]],S.Ns L m,s.heap.objs.size≤D,[iv,D]=Z (gu "list" C c),C.toList.Perm [Q5]→Q (.ref D) [p0,S]]):[im,call [jb,"sorted"] [[lx]] [[Nn]]]:=by
 refine call_function_entry_kw kind_sorted plain_sorted entry_sorted (ksk_s1 _ _) ?_;unfold Builtin.«sorted»;rw[3,au (m:=checkCount "sorted" 1 1 _) (aW ?_),au (WN (A:=A.in1) hh lo hx X ho hn λ g Y k1 M=>?_)];have P:[cI,[Q5],es.size]:=by rw[aC,nR]
 rw[5,SW ?_ [ar,P,bf hn [gL,yR]]];have hL:[sB,L]:=F.ns.lt;have I:[Qw].get? g.objs.size=Z [Tq]:=(dM _ J);have k2:[vk,[Qw].get? b]:=[EZ,k1 b o e];let O:=(zy N s.heap L);have N0:News N L s.heap O:=UB;have F2:Fr N L [Qw] m:=F.kept k2;have N2:News N L [Qw] O:=N0.grown k2;have r:[Ow,g.objs.size]:=oa M;have u:∀{h:aE}{m':[a_]},Fr N L h m'→News N L h O→[NM,b≠L,[jU]]:=λ{h m'}U V b o hb e=>by cases q:N.get? b with|some o'=>have:=F.keep b o' q;rw[e]at this;rw[6,this,U.keep b o q]|none=>exact(V (b,o) (Uz hb q e)).1
 show az _ _ _ _ _ [pp,g.push [Tq],Y];rw[5,k9 (wpAny_call_entry_kw slot_list_sort [p_,I] entry_list_sort ?B (ksk_l1 _ _))];case B=>
  have H:=ksk_t1 f g.objs.size;show az [vY] A.in1.in1 (Builtin.«list.sort» ⟨[.ref g.objs.size],[[Nn]]⟩) _ _ _;rw[13,H,ksk_sortAny (kz:=kz) (s:=[pp,g.push [Tq],Y]) (news:=O) F2 N2 I (g9 (dG hL r)) (RO (bf F.above (bf (oa hL) r))) (λ p R=>dY (dG (bR (N0 p R).1) r)) [ar,P,K] [ar,P,hn] (λ i v k y hk h G own U V=>?_) λ S G C c F' N' k'=>[de,?_]]
  ·rw[cJ,o7]at y;cases a:es[i]? with
    |none=>rw[a]at y;cases y
    |some en=>
     rw[a]at y;cases y;refine gG (T i en k a hk h G (u U λ p R=>V p (lP _ R))) (λ x s' W=>?_) λ _ _ z=>z
     obtain⟨t,h2,tk2,rfl,rfl,k3⟩:=W;exact⟨h2,tk2,t,J,J,U.kept k3,V.grown k3⟩
  ·obtain⟨ps,l,j,_⟩:=k';refine aW [de,hQ g.objs.size S G C c (u F' λ p R=>N' p (cp _ R)) F'.ns r (N' _ cq).1 ?_];rw[j];rw[56,l.map Prod.snd,BB (by rw[12,P,K,ba _])]
end
end L2
end
section
namespace L2
open PySem PySem.W PySem.Spec PyProof.Rows
def w6(c:ab)(q:Str):HO:=.ext λ h=>h.CodeRec (.ref c) q
structure w8(X:Cx)(c P:ab):Prop where
 code:X.env.code=.ref c
 hd:CodeHd X.base c P
 bm:X.base.BuiltinsAt X.mg P
 pg:b_≠P
def df(H:Hp)(P:ab)(W:Pos)(q:Str):Prop:=∃V:[lC],H P=Z (.je V)∧TriplesOk V.toList∧(codeAmong W V.toList=none∨∃s,codeAmong W V.toList=[bV,s]∧H s=Z (w6 s q))
structure D7(P:ab)(H m:Hp):Prop where
 old:[C9,P,m b]
 tup:∀b N,m b=Z (.tup N)→H b=Z (.tup N)
section
variable{X:Cx}{pins:[bH]}{σ:St}{H:Hp}{s:aq}{c P:ab}
theorem MV{a b v:ae}:∀(l:[bu]),(TriplesOk l→(∃i t,a=.int i t)→(∃i t,b=.int i t)→TriplesOk (l++[a,b,v]))|[],_,⟨i,t,ha⟩,⟨j,u,K⟩=>by subst ha K;exact lW|.int _ _::.int _ _::_::rest,h,ha,K=>MV rest h ha K
theorem MX{A:bP}{E:[aX]}{t:vN}{B:bc}{l:dR}{W:Pos}{Q:[aX]}(I:[ca])(L:w8 X c P)(T:df H P W [Aw])(hdef:S9 t X.env=([],[]))(x:[P4,[zJ,y.1]])(h:∀(f:ab)(pm C:ae)(i:ab)(m:Hp)(s':aq),[b9,[mu,m,s'],D7 P H m,df m P W [Aw],m f=none,s'.heap.CodeRec (.ref i) [Aw]→s'.heap.get? f=Z (kla_obj [IN] [Aw] t B l [Id] pm i C)→f≠X.env.locals→Q [dS] s']):[wJ,A,[rG,.Lambda t B l W]]:=by
 obtain⟨ps,j,ht,hk⟩:=T;have hPh:[iF,P]=Z (tabObj ps):=I.aH P _ j;have hcl:=Dy x;have hg:s.heap.Ns b_ X.mg:=I.mod.glob.keeps I.bk;have hB:s.heap.BuiltinsAt X.mg P:=let⟨bm,o,h1,h2,h3,h4,h5,r⟩:=L.bm;⟨bm,o,h1,h2,h3,h4,I.bk _ _ h5,r⟩
 have hC:CodeHd s.heap c P:=L.hd.keeps I.bk;refine kla_eval hdef ?_;rcases hk with O|⟨i,U,hc'⟩
 ·refine kla_makeFunction hcl I.ok.glob hg L.code hC hPh ht O L.pg hB λ i C S tk hx R g D G=>?_
  have Y:H i=none:=[EQ,R];have hcP:i≠P:=ja (aX j Y);generalize w:ps++#[f_ W.line,f_ W.col,.ref i]=ps' at G;let M:Obj:=kla_obj [IN] [Aw] t B l [Id] ((X.mg "__name__").getD .none) i C;have keep:[NM,b≠P,(S.push M).get? b]:=λ b o K e=>cG _ (hx b o K e)
  let m:Hp:=ag (ag H i (w6 i [Aw])) P (.je ps');have N:m P=Z (.je ps'):=aw;have eqc:m i=Z (w6 i [Aw]):=by show ag _ _ _ _=_;rw[ar hcP,aw]
  have F:[CZ,P,b≠i→m b=H b]:=λ b h1 h2=>by show ag _ _ _ _=_;rw[ar h1,ar h2]
  have p:[rh,H b,b≠i]:=λ b o e=>aX e Y
  have nP:∀b,H b=none→b≠P:=λ b e z=>by rw[z,j]at e;cases e
  have un:Un X.fs [] H m s.heap (S.push M):={
   keep:=λ b o e n _ _=>keep b o (nP b n) e
   slot:=λ b o e n _ _=>⟨o.slots,keep b o (nP b n) e⟩
   free:=λ b o e n _=>[ar,F b (nP b n) (dY (dG (bR e) R)),n]
   there:=λ b o e _=>by
    by_cases K:b=P;·subst K;rw[26,cG _ G]
    ·rw[0,o,keep b o K e]
   dZ:=λ b xs e=>[ar,F b (λ z=>by rw[z,j]at e;cases e) (p b _ e),e]
   jV:=λ b o u e=>[ar,F b (λ z=>by rw[z,j]at e;cases e) (p b _ e),e]
   jW:=λ b qs e=>by
    by_cases K:b=P;·subst K;rw[35,j];rw[26,by rw[N,←w]]
    ·rw[0,#[],by rw[F b K (p b _ e),e];simp]}
  have aH:[J2,m,S.push M]:=λ b u e=>by
   by_cases K:b=P;·subst K;rw[67,N,cG _ G]
   ·by_cases V:b=i;·subst V;rw[eqc]at e;cases e;rw[24,D.push _,let⟨c2,o2,_,_,e1,e2,_⟩:=D;⟨o2,by rw[6,e1,cG _ e2]⟩,λ h1 h2 r k=>?_];obtain⟨c2,o2,vs2,t2,e1,e2,r⟩:=r;rw[6,e1,⟨_,o2,vs2,t2,J,k o2 e2,r⟩]
    ·rw[F b K V]at e;refine(I.aH b u e).l_ (λ d v hd q=>keep d v ?_ q) (λ d q=>?_) λ d xs q=>?_
     ·rcases hd with rfl|hd;·exact K
      ·rw[52];rw[j]at hd;cases hd
     rw[40,F d (λ z=>by rw[z,j]at q;cases q) (p d _ q),q,F d (λ z=>by rw[z,j]at q;cases q) (p d _ q),q]
  have I':[mu,m,[pp,S.push M,tk]]:=I.un un aH;have hfn:m S.objs.size=none:=by
   have n1:S.objs.size≠P:=λ z=>by have:=bR G;rw[←z]at this;rw[68,this]
   have n2:S.objs.size≠i:=g9 g;rw[4,F _ n1 n2,[EQ,bf R (oa g)]]
  rw[69,h S.objs.size _ C i m _ I' ⟨λ b o e K=>[ar,F b K (p b o e),e],λ b xs e=>by
   by_cases K:b=P;·subst K;rw[35,N]
   ·by_cases V:b=i;·subst V;rw[35,eqc]
    ·rw[F b K V]at e;exact e⟩ ⟨ps',N,by rw[←w];simpa using MV (a:=f_ W.line) (b:=f_ W.col) (v:=.ref i) _ ht [p_,_] [p_,_],[vn,i,by rw[←w];simpa using codeAmong_snoc _ ht O,eqc]⟩ hfn (D.push _) (dM _ J) ?_,g9 (SJ (dG I.lt R) g)]
 ·refine kla_makeFunctionHit hcl I.ok.glob hg L.code hC hPh ht U hB λ C S tk hx R=>?_
  let M:Obj:=kla_obj [IN] [Aw] t B l [Id] ((X.mg "__name__").getD .none) i C;have keep:[vk,(S.push M).get? b]:=[EZ,hx b o e];have I':[mu,H,[pp,S.push M,tk]]:=I.kept keep;have D:s.heap.CodeRec (.ref i) [Aw]:=(I.aH i _ hc').1;exact h S.objs.size _ C i H _ I' ⟨λ b o e _=>e,λ b xs e=>e⟩ ⟨ps,j,ht,[vn,i,U,hc']⟩ [EQ,R] (D.keeps keep) (dM _ J) (g9 (dG I.lt R))
end
section
variable{prog:aY}{w:aU}{A:bP}{E:[aX]}{s:aq}{f c':ab}{qual x:Str}{params:vN}{body:bc}{scope:dR}{clos:[or]}{pm ctv v:ae}{Q:[aX]}
abbrev Af(scope:dR)(L:ab)(clos:[or])(qual:Str)(f c':ab):Env:=newEnv scope L b_ clos (qual++".<locals>.") (Z f) (.ref c') none yT
theorem MY(F:[iF,f]=Z (kla_obj [IN] qual params body scope clos pm c' ctv))(i:s.heap.CodeRec (.ref c') qual)(t:A.depth<SM)(m:s.heap.NoLimit)(k:yX (kla_fn [IN] qual params body scope clos pm (.ref c') ctv) [tN,[v]]=pure [(x,v)])(a:scope.names.lookup x=[wE])(n:∀y∈scope.names,y.2≠.cell)(C:scope.kind=[B7])(h:[aw,scope.isCoroutine])(l:[aw,scope.isGenerator])(j:∀(g:aE)(L:ab),g.Ns L (λ y=>[(x,v)].lookup y)→(([vk,[B6]])→az [vY] (A.deeper (Af scope L clos qual f c')) (eval body (Af scope L clos qual f c')) Q [AO] [pp,g,s.toks+1])):[im,call [dS] [v]]:=by refine S8 (kla_callFunE t F J h l J i ?_);rw[13,k,aW (wpAny_newFunctionEnv n (λ y c=>by simp at c;subst c;exact a) (λ P R p=>[qv,m.fresh _ p]) C)];have u:[vk,P.get? b]:=[Fa,p.extBut,dY (bR e),cG _ e];exact kla_codeExpr (gG (j P s.heap.objs.size R u) (λ r d q=>q) λ _ _ z=>z.elim)
end
theorem WQ{X:Cx}{B:[bH]}{w:St}{H:Hp}{s:aq}{A:bP}{Q:[aX]}{E:[aX]}{l:dR}{L d F f i:ab}{q:[or]}{N xd x:Str}{Y:[mh]}{k:Key}{v:V}{u:ae}{O t W:Pos}(I:[iW])(C:l.kind=[B7])(a:[zP,xd]=Z .free)(r:q.lookup xd=Z F)(P:s.heap.IsCell F (Z [lx]))(e:[zP,x]=[wE])(R:s.heap.Ns L (λ z=>[(x,u)].lookup z))(g:Rd H d (.dK Y))(y:cn Y k=Z v)(h:bw (kV k) u)(D:∀m,bw v m→Q m [vZ,1])(d1:[uk,xd]:=by decide)(d2:[aw,xd==[PJ]]:=by decide)(d3:[uk,x]:=by decide):[wJ,A,eval [B4,.Name xd O,[tW,t],W] (Af l L q N f i)]:=by obtain⟨z,c,U,j,p⟩:=oM I.aH g;obtain⟨m,T,n⟩:=ir.some_of (v:=v) (o:=tD U k) [cE,y,j.val k];have b:[(x,u)].lookup x=Z u:=[al];rw[69,DL PySem.F.slot_dict_getitem.lookup [Cy] (yU (wpAny_loadName_free C a r P ?_ d2) d1),yU (IZ C e R b ⟨p.typeIs,wpAny_getItem_of (wJ h) p.mapOf T (D m n)⟩) d3]
theorem WR{prog:aY}{w:aU}{s:aq}{A:bP}{Q:[aX]}{E:[aX]}{l:dR}{L t f g:ab}{q:[or]}{N x:Str}{its:[bu]}{a b:ae}{O h W:Pos}{i:Nat}(C:l.kind=[B7])(d:[zP,x]=[wE])(R:s.heap.Ns L (λ z=>[(x,.ref t)].lookup z))(F:[NH,t,#[a,b]])(D:∀G,Q b {s with toks:=G})(d3:[uk,x]:=by decide):[im,eval [B4,[tW,O],.Constant (.int 1) i h,W] (Af l L q N f g)]:=by have X:[(x,[jS,t])].lookup x=Z [jS,t]:=[al];obtain⟨o,e,V,n,c⟩:=F;rw[3,DL (T:="tuple") (id:="tuple.__getitem__") PySem.F.slot_tuple_getitem.lookup [Cy] (yU (IZ C d R X ?_) d3),wpAny_Constant_int [qv,⟨o,e,V⟩]];exact getItem_tuple (j:=1) (s:=[vZ,1]) ⟨o,e,V,n,c⟩ [bd] [bd] (by show JI 1 2=Z 1;decide) J (D _)
end L2
end
section
namespace L2
open PySem PySem.W PySem.Spec PyProof.Rows
theorem um{c:Type}[[DV,c]]:∀{kvs:List (c×V)}{k:c},k∈kvs.map (·.1)→∃v,cn kvs k=Z v∧(k,v)∈kvs
 |[],k,h=>by rw[16]
 |(d,M)::r,k,h=>by
  rw[30,d,k];·subst e;rw[1,M,lC J,[al]]
  ·have S:k∈r.map (·.1):=by rw[bO]at h;rcases[dE,h]with z|z;rw[2,[e9,z.symm,e],z]
   obtain⟨v,g,a⟩:=um S;rw[1,v,[ar,lD (p:=(d,M)) e,g],cp _ a]
def MZ(w:St)(i:Nat)(P:ab)(S:Pos)(q:Str)(Q:VK)(x:V)(a:Hp):Prop:=∃d Y,[kw,x=[lx],w[i]?=Z (Z [lx]),a d=Z (.dK Y),Y≠[],∀p∈Y,∃z,p.2=(V.int z),d≠P,df a P S q∧∀(m:Hp)(k:Key)(v:V),(D7 P a m→df m P S q→(k,v)∈Y→Q (kV k) m)]
def WS(e:TE)(i:Nat)(P:ab)(S:Pos)(q:Str):TE:=[sw,e,MZ w i P S q Q]
section
variable{X:Cx}
theorem WT{e:bc}{td:TE}{i kk:Nat}{c P cel:ab}{D:vN}{xd x:Str}{p p1 p2 p3 S kp A:Pos}{l:dR}(hr:cy kk X.A)(V:[sK])(ha:PE X e td)(L:w8 X c P)(hg:Gl X "max")(hm:X.mg "max"=none)(hi:X.N[i]?=Z xd)(T:X.env.kindOf xd=[vh])(R:l.names=[(x,.local),(xd,.free)])(hxx:¬(xd=x))(hk:l.kind=[B7])(hco:[aw,l.isCoroutine])(hgen:[aw,l.isGenerator])(hdef:S9 D X.env=([],[]))(U:∀(N:Str)(clos:[or])(pm cdv ctv v:ae),yX (kla_fn [IN] N D [B4,.Name xd p1,[tW,p2],p3] l clos pm cdv ctv) [tN,[v]]=pure [(x,v)])(hs:[NG]:=by rfl)(d1:[uk,xd]:=by decide)(d2:[aw,xd==[PJ]]:=by decide)(d3:[uk,x]:=by decide)(hbl:g_ A [oE,[e]]=[zA,e]::g_ A [oE,[]]:=by rfl):PE X (.Call (.Name "max" p) [e] [⟨Z "key",.Lambda D [B4,.Name xd p1,[tW,p2],p3] l S,kp⟩] A) (WS td i P S [Aw]):=by
 intro B s σ H Q I h;rw[3,yC (m_ I hg hm boot_max ?_),callWith_kw (bj (ak ha aB hs A B s σ H (λ vs H1=>match vs with|[x]=>MZ σ i P S [Aw] Q x H1|_=>False) I h) λ us s1⟨vs,H1,I1,r,q⟩=>?_) hbl [hJ,hbl]];match vs,r,q with
  |[y],r,q=>
   obtain⟨d,Y,rfl,hσ,hd,hne,hint,hdP,hT,q⟩:=q;obtain⟨u,rfl,ru⟩:=vals1 r;cases ru;rw[3,kws_cons ?_,MX I1 L hT hdef (λ y a e=>?_) λ f pm ctv c' M g I2 hgr hT2 hfn hrec hf hfl=>?_]
   ·rw[R]at a;simp only[lU,yE,yY]at a;rcases a with rfl|rfl;·cases e
    ·exact(I.ok.has _ (.inl T))
   rw[43,kws_nil ?_,az _ _ (call [M8] [[lx]] [[Nn]]) _ _ g];have F:M d=Z (.dK Y):=hgr.old d _ hd hdP;obtain⟨lo,z,o,es,ep,ho,hx,hdt,hsz,O⟩:=I2.WM (.inl F);obtain⟨oI,St,hit,W,st0⟩:=(DY (prog:=X.prog) (w:=X.w) lo hx hdt).iter X.A.in1 g [tJ] ho;have hes:0<es.size:=[ar,hsz,[CB,hne]];obtain⟨m,hns,hlk⟩:=I2.loc;obtain⟨u',ru',hl'⟩:=hlk i xd [lx] hi hσ (.inr (.inl T));cases ru';obtain⟨cel,hcel,hisc⟩:∃cel,[zJ,xd]=Z cel∧g.heap.IsCell cel (Z [lx]):=by
    rcases hl' with⟨z1,_⟩|⟨_,c2,z2,z3⟩;·rw[T]at z1;cases z1
    ·rw[1,c2,z2,z3]
   have hclo:[Id].lookup xd=Z cel:=by rw[R];simp[ef,hcel]
   have hlk2:[zP,xd]=Z .free:=by
    have e1:[aw,xd==x]:=by cases e2:xd==x with|false=>rfl|true=>rw[8,eq_of_beq e2,hxx]
    rw[R,nY,e1];show qG xd [(xd,NameKind.free)]=_;rw[nY,beq_self_eq_true]
   refine WK (P:=λ i v=>∃en,es[i]?=Z en∧v=en.key) (n:=es.size) [tJ] hes (λ Q' hq=>hit _ _ (hq _ _ g.toks _ _ St W st0 (λ b hb=>?_) [EZ,e] λ b hb=>?_)) (λ j v h G hv E=>?_) λ j v h' tk' hj hv E=>?_
   ·rw[iR];simp only[lU,yE,yY]at hb;rw[122,hb,qB _,o_ (bR ho)]
   rw[11,List.mem_singleton.mp hb,RO (ba _)]
   ·obtain⟨en,he,rfl⟩:=hv;obtain⟨k,v,C,rk⟩:=O j en he;obtain⟨v',hv1,hv2⟩:=um (kvs:=Y) (k:=k) [jz,_,bt C];obtain⟨zi,hzi⟩:=hint _ hv2;simp only at hzi;subst hzi;have I3:[jB,σ,M,{g with heap:=h,toks:=G}]:=I2.kept E;refine MY (s:={g with heap:=h,toks:=G}) (x:=x) (E _ _ hf) (hrec.keeps E) ?_ I3.nolimit (U _ _ _ _ _ _) (by rw[19,R]) (λ y a=>by rw[R]at a;simp at a;rcases a with rfl|rfl<;>simp) hk hco hgen λ h1 L' hns' K=>?_
    ·have:=hr.dp;rw[20,X.A.depth<_]
    have I4:[jB,σ,M,{g with heap:=h1,toks:=G+1}]:=I3.kept (t':=G+1) K;refine WQ (s:={g with heap:=h1,toks:=G+1}) I4 hk hlk2 hclo (hisc.keeps λ b o e=>K b o (E b o e)) (by rw[19,R]) hns' (.inl F) hv1 rk (λ w' rw'=>?_) d1 d2 d3;obtain⟨t,rfl⟩:=rw';exact⟨zi,t,h1,_,J,J,K⟩
   ·obtain⟨en,he,rfl⟩:=hv;obtain⟨k,v,C,rk⟩:=O j en he;rw[9,kV k,M,I2.kept E,rk,q M k v hgr hT2 (bt C)]
  |[],_,q=>exact q.elim
  |_::_::_,_,q=>exact q.elim
theorem WU{h:aE}{a:ab}{m S:[a_]}(x:h.Ns a m)(y:h.Ns a S):m=S:=by obtain⟨o,T,B,g,r,_,P⟩:=x;obtain⟨O,f,k,d,b,_,c⟩:=y;rw[95,g];rw[r]at b;cases b;funext n;rw[←P,←c]
def D8:Tr→Int|.cons _ [qu,.num z]=>z|_=>0
def M0(P:ab)(S:Pos)(q:Str)(Q:VK)(x:V)(c:Hp):Prop:=∃d Y,[bn,x=[lx],c d=Z (.dT Y),∀p∈Y,∃a z,p.1=Tr.cons a [qu,.num z],∀q u b,c q≠Z [ii,u,.bl b],df c P S q∧∀(m:Hp)(l:ab)(G:[aK]),[b9,D7 P c m,c l=none,df m P S q,m l=Z (.aj G),(∃e:[aK],G.Perm e∧e.length=Y.length∧∀(i:Nat)(k:Tr)(v:V),Y[i]?=Z (k,v)→∃q,e[i]?=[bV,q]∧eZ m k q)→Q [io] m]]
def WV(e:TE)(P:ab)(S:Pos)(q:Str):TE:=[sw,e,M0 P S q Q]
theorem WW{e:bc}{td:TE}{kk jj:Nat}{c P:ab}{G:vN}{x:Str}{p p1 p2 p3 S kp pos:Pos}{g:dR}(hr:cy kk X.A)(hcalm:[sK])(ha:PE X e td)(L:w8 X c P)(hg:Gl X "sorted")(hm:X.mg "sorted"=none)(hsn:g.names=[(x,.local)])(hk:g.kind=[B7])(hco:[aw,g.isCoroutine])(hgen:[aw,g.isGenerator])(hdef:S9 G X.env=([],[]))(hbind:∀(qual:Str)(clos:[or])(pm cdv ctv v:ae),yX (kla_fn [IN] qual G [B4,[tW,p1],.Constant (.int 1) jj p2,p3] g clos pm cdv ctv) [tN,[v]]=pure [(x,v)])(hs:[NG]:=by rfl)(d3:[uk,x]:=by decide)(hbl:g_ pos [oE,[e]]=[zA,e]::g_ pos [oE,[]]:=by rfl):PE X (.Call (.Name "sorted" p) [e] [⟨Z "key",.Lambda G [B4,[tW,p1],.Constant (.int 1) jj p2,p3] g S,kp⟩] pos) (WV td P S [Aw]):=by
 intro pins s σ H Q I h;rw[3,yC (m_ I hg hm boot_sorted ?_),callWith_kw (bj (ak ha aB hs pos pins s σ H (λ vs H1=>match vs with|[x]=>M0 P S [Aw] Q x H1|_=>False) I h) λ us s1⟨vs,H1,I1,r,q⟩=>?_) hbl [hJ,hbl]];match vs,r,q with
  |[],_,q=>exact q.elim
  |_::_::_,_,q=>exact q.elim
  |[y],r,q=>
   obtain⟨d,Y,rfl,hd,hkey,hnb,hT,q⟩:=q;obtain⟨u,rfl,ru⟩:=vals1 r;cases ru;refine kws_cons ?_;have hdP:d≠P:=by rintro rfl;obtain⟨ps,e,_⟩:=hT;rw[35,hd]
   refine MX I1 L hT hdef (λ y hy e=>?_) λ f pm ctv c' M s2 A U hT2 hfn hrec hf hfl=>?_
   ·rw[hsn]at hy;simp only[lU,yE,yY]at hy;subst hy;cases e
   rw[43,kws_nil ?_,az _ _ (call [jb,"sorted"] [[lx]] [[Nn]]) _ _ s2];have hd2:M d=Z (.dT Y):=U.old d _ hd hdP;obtain⟨lo,z,o,es,ep,ho,hx,hdt,hsz,ent⟩:=A.DZ (.inl hd2);obtain⟨lo1,z1,o1,es1,ep1,ho1,hx1,hdt1,hsz1,ent1⟩:=I1.DZ (.inl hd);obtain⟨m,F⟩:=A.fr;have pair:∀(j:Nat)(en:i_),es[j]?=Z en→∃k v q a z t,[bn,Y[j]?=Z (k,v),en.key=.ref q,eZ M k q,D8 k=z,s2.heap.IsTuple q #[a,.int z t]]:=λ j en he=>by
    obtain⟨k,v,q,C,hq,hky⟩:=ent j en he;obtain⟨a,z,hk⟩:=hkey _ (bt C);simp only at hk;subst hk;obtain⟨_,N,hxs,u1,r1,rfl,_,u2,r2,rfl,hu2,hr2⟩:=id hky;rw[55,r2=[],hr2];obtain⟨_,its,rv,ht⟩:=[Bh,X.prog,X.w,M,s2.heap,q,[ii,u1,u2],A.aH q _ hxs];cases rv with
     |@cons _ w1 _ _ rv1 rv=>
      cases rv with
       |@cons _ w2 _ _ rv2 rv=>
        cases rv;rcases hu2 with rfl|⟨b,rfl,_⟩;·obtain⟨t,rfl⟩:=rv2;obtain⟨w,o1,o2,n,o3⟩:=ht;exact⟨_,v,q,w1,z,t,C,hq,hky,J,w,o1,o2,n,o3⟩
        ·exfalso;exact hnb q _ _ (U.tup q _ hxs)
   have hkz:[cI,Y.map λ p=>D8 p.1,es.size]:=by rw[aC,hsz]
   refine WO (kz:=Y.map λ p=>D8 p.1) F (I.ok.hd hcalm) lo hx hdt ho [ac] hkz (λ j en kz he hkzj h tk E=>?_) λ D h' tk O c E hns' hD hlD W=>?_
   ·obtain⟨k,v,q,a,z,t,C,hq,hky,hz,ht⟩:=pair j en he;rw[cJ,C]at hkzj;have ez:z=kz:=[cE,hz,[dF,hkzj]];subst ez;rw[hq];have nL:[rh,M b,[E9,b]]:=λ b o e zz=>by rw[zz,A.free]at e;cases e
    have keptB:[Qs,[jU]=Z o]:=[Fa,E,λ zz=>by rw[38,bR e,zz];rw[68,dG this (bf I.ok.lr I.ok.above)],A.bk b o e];have hcrec:h.CodeRec (.ref c') [Aw]:=by obtain⟨c2,o2,vs2,t2,e1,e2,e3,e4⟩:=hrec;refine⟨c2,o2,vs2,t2,e1,E _ _ (λ zz=>?_) e2,e3,e4⟩;obtain⟨mm,⟨oL,eL,epL,hoL,hdL,_⟩,_⟩:=A.loc;rw[zz,hoL]at e2;cases e2;rw[hdL]at e3;cases e3
    refine MY (s:={s2 with heap:=h,toks:=tk}) (x:=x) (E _ _ hfl hf) hcrec ?_ (I.mod.nolimit.keeps keptB) (hbind _ _ _ _ _ _) (by rw[19,hsn]) (λ y hy=>by rw[hsn]at hy;simp at hy;subst hy;simp) hk hco hgen λ h1 L' hnsL hk3=>?_
    ·have:=hr.dp;rw[20,X.A.depth<_]
    refine WR (s:={s2 with heap:=h1,toks:=tk+1}) (its:=[]) (a:=a) hk (by rw[19,hsn]) hnsL ?_ (λ tk'=>⟨t,h1,tk',J,J,hk3⟩) d3;obtain⟨w,o1,o2,n,o3⟩:=ht;rw[9,w,hk3 _ _ (E q w (by obtain⟨_,N,hxs,_⟩:=hky;exact nL q _ hxs) o1),o2,n,o3]
   ·let T:ae→V:=[TD];have refs:∀v∈es.toList.map (·.key),∃q,v=[jS,q]:=λ v hv=>by obtain⟨en,hen,rfl⟩:=[bp,hv];obtain⟨j,hj⟩:=[Kz,hen];rw[o7]at hj;obtain⟨k,v,q,_,E,_⟩:=ent j en hj;rw[0,q,E]
    have all:∀(l:[bu]),(∀v∈l,∃q,v=[jS,q])→be (l.map T) l:=by intro l;induction l with|nil=>intro _;exact .nil|cons a l ih=>intro hl;obtain⟨q,rfl⟩:=hl a [al];exact(.cons J (ih λ v hv=>hl v [bB,hv]))
    have rel:be (O.toList.map T) O.toList:=all _ λ v hv=>refs v (W.mem_iff.mp hv)
    have hlen:[cI,O.toList.map T,Y.length]:=by rw[aC,W.length_eq,aC,nR,hsz]
    have fresh:∀b w,s2.heap.get? b=Z w→b≠D:=λ b w e=>dY (dG (bR e) hD)
    have hDn:M D=none:=A.aH.fresh hD;have B:∀b R,M b=Z R→b≠D:=λ b R e=>aX e hDn
    have nL:∀b R,M b=Z R→[E9,b]:=λ b o e zz=>by rw[zz,A.free]at e;cases e
    have aH:[J2,ag M D (.aj (O.toList.map T)),h']:=λ b u e=>by
     by_cases K:b=D;·subst K;rw[67,aw,⟨[ar,hlen,z],O.toList,c,rel,[aB,hlD]⟩]
     ·rw[ar K]at e;refine(A.aH b u e).l_ (λ d' v hd' qq=>E d' v ?_ qq) (λ d' qq=>[b8,B d' _ qq,qq]) λ d' N qq=>[b8,B d' _ qq,qq]
      rcases hd' with rfl|hd';rw[2,nL _ _ e,nL _ _ hd']
    have I3:[mu,ag M D (.aj (O.toList.map T)),{s2 with heap:=h',toks:=tk}]:=by
     refine A.step (g':=s2.gens) (d':=s2.drawn) (t':=tk) (ch:=[]) (λ _ zz=>nomatch zz) (λ b w h1 _ _ e _=>E b w h1 e) (λ b w h1 _ _ e _=>⟨w.slots,E b w h1 e⟩) (λ b w _ e n=>[b8,fresh b w e,n]) (λ b w _ e=>?_) (λ b N e=>[b8,B b _ e,e]) (λ b R u e=>[b8,B b _ e,e]) (λ b ps e=>⟨#[],by rw[ar (B b _ e),e];simp⟩) (λ m2 hm2=>?_) aH A.bare
     ·by_cases K:b=X.env.locals;·subst K;obtain⟨oL,_,_,hoL,_⟩:=hns';rw[0,oL,hoL]
      ·rw[0,w,E b w K e]
     rw[11,WU hm2 F.ns,hns']
    have tupUp:∀b N,M b=Z (.tup N)→ag M D (.aj (O.toList.map T)) b=Z (.tup N):=λ b N e=>[b8,B b _ e,e]
    rw[28,.ref D,_,I3,J,q _ D _ ⟨λ b R e K=>?_,λ b N e=>?_⟩ ?_ ?_ aw ⟨[Q5].map T,W.map T,by rw[aC,aC,nR,hsz],λ i k v C=>?_⟩];·have:=U.old b R e K;rw[4,ar (B b R this),this]
    ·by_cases K:b=D;·subst K;rw[35,aw]
     ·rw[ar K]at e;exact U.tup b N e
    ·cases e:H1 D with
      |none=>rfl
      |some R=>
       have hDP:D≠P:=by rw[52];obtain⟨ps,e',_⟩:=hT2;rw[hDn]at e';cases e'
       rw[98,U.old D R e hDP,hDn]
    ·obtain⟨ps,e1,e2,e3⟩:=hT2;refine⟨ps,[b8,B _ _ e1,e1],e2,?_⟩;rcases e3 with e3|⟨c2,e3,e4⟩;rw[48,e3,⟨c2,e3,[b8,B _ _ e4,e4]⟩]
    ·have hi:i<es.size:=by rw[10,[eJ,C]]
     obtain⟨k',v',q',hk1,hk2',hk3⟩:=ent i _ (sJ hi);rw[C]at hk1;cases hk1;rw[24,q',?_,hk3.mono tupUp];rw[cJ,cJ,o7,sJ hi];simp only[sX,hk2',T]
end
end L2
end
section
namespace L2
open PySem PySem.W PySem.Spec PyProof.Rows
def ExcAt(h g:aE)(a C:ab)(x:[B1]):Prop:=∃s U,[bn,[ry]=Z s,s.cls=[iH],s.data=[wl,U],g.get? a=none,[KP,x,U[1]?=Z .none,y,∃T I n,[bn,U[1]?=[bV,T],g.get? T=none,T≠a,h.get? T=Z I,I.data=[wl,n]∧n[3]?=Z y]]]
def pY(g h:aE):Prop:=[rh,[B6],b<h.objs.size]
theorem pY.mono{g h S:aE}(x:pY g h)(k:h.objs.size≤S.objs.size):pY g S:=λ b o e=>dG (x b o e) k
theorem pY.none{g h:aE}(x:pY g h){b:ab}(k:h.objs.size≤b):[B6]=none:=by cases q:[B6]with|none=>rfl|some o=>rw[68,dG (x b o q) k]
structure kF(g:aE)(fs:[aT])(h S:aE):Prop where
 keep:[uj,h.get?,[JO]∨[Ms],b∉fs→[iv,b]=Z o]
 slot:[uj,h.get?,b∈fs,∃Y,[iv,b]=[Oz,o]]
theorem kF.refl(g:aE)(fs:[aT])(h:aE):kF g fs h h:=⟨λ _ _ e _ _=>e,λ _ o e _=>⟨o.slots,e⟩⟩
theorem kF.trans{g:aE}{fs:[aT]}{h d r:aE}(a:kF g fs h d)(b:kF g fs d r):kF g fs h r where
 keep:=λ c o e k V=>b.keep c o (a.keep c o e k V) k V
 slot:=λ c o e V=>by obtain⟨Y,e1⟩:=a.slot c o e V;obtain⟨s,e2⟩:=b.slot c _ e1 V;rw[0,s,e2]
section
variable{M:tF}{A:bP}{E:[aX]}{s:aq}
theorem WX{base:aE}{env h_:Env}{outer:[wF]}{L:ab}{Q:[aX]}(H:A.frames=Z [D9])(X:[M6,base,[D9]])(l:h_.frame=Z L)(F:env.frame=Z L)(h:∀S,[L1,Heap.SlotsOnly,((h_::outer).filterMap (·.frame)),Q,.ref L]):az M A (Sx env) Q E s:=by
 unfold Sx;rw[5,wpAny_frameEnvs H ?_];have w:([D9].dropWhile λ x=>x.frame !=env.frame)=[D9]:=by simp[List.dropWhile,l,F]
 rw[w];unfold frameObject;rw[5,au (wpAny_readyFrames_fun X λ P f=>aW ?_)];rw[4,l,aW (h P f)]
theorem M3{base:aE}{env h_:Env}{outer:[wF]}{L a C:ab}{n:Obj}{U:[lC]}{g:aE}{y:ae}{G:Bool}{Q:[FM]}(H:A.frames=Z [D9])(X:[M6,base,[D9]])(q:h_.frame=Z L)(F:env.frame=Z L)(hn:pY g s.heap)(R:[iF,a]=Z n)(V:n.cls=[iH])(c:n.data=[wl,U])(ha:g.get? a=none)(j:1<U.size)(h:∀S,kF g (dv [D9]) s.heap S→([Fz,S,Z (f_ L)])→(s.heap.objs.size≤S.objs.size→Q () [gX,S])):az M A (do
 let b←Sx env;
 let f←entryPlaceOf L G;
 let t←EntryCells.newEntry y b .none (f_ L) .none f;
 BY [bi] 1 t) Q E s:=by
 have B:a∉[D9].filterMap (·.frame):=λ N=>by obtain⟨_,o,d,v⟩:=X.mem N;rw[R]at d;injection d with d;subst d;exact v U c
 rw[3,au (WX H X q F λ P m=>?_),au (wpAny_entryPlaceOf λ f l=>?_)];unfold EntryCells.newEntry newFields;rw[5,nU ?_ (l.sizeOk5 _ _ _ _ _)];have u:P.get? a=Z n:=[eY,m.2.1,a,B,R];generalize r:({cls:=.type "traceback",dict:=none,data:=[wl,([y,.ref L,.none,f_ L,.none]++(if f.isEmpty then lS 6 Value.none else f)).toArray]}:Obj)=i;have w:=cG (h:=P) i u;refine BN w c j ?_;have D:P.objs.size≠a:=g9 (bR u);have x:=Bu c (·.setIfInBounds 1 (Value.ref P.objs.size));have I:=IJ (qF (·.setIfInBounds 1 (Value.ref P.objs.size))) w (RM x);have T:((P.push i).update a (qF (·.setIfInBounds 1 (Value.ref P.objs.size)))).get? P.objs.size=Z i:=((Bo (P.push i) (qF (·.setIfInBounds 1 (Value.ref P.objs.size))) (ja D)).trans (dM P (by rw[←r];rfl)));have p:P.objs.size=s.heap.objs.size:=m.1;have keep:[O_,b≠a,P.get? b,((P.push i).update a (qF (·.setIfInBounds 1 (Value.ref P.objs.size)))).get? b]:=λ b o K e=>[ar,Bo _ _ (ja K),cG _ e]
 refine h _ ⟨λ b o e k K=>?_,λ b o e K=>?_⟩ ⟨_,_,I,[eY,Obj.cls_mapFields,_,_,V],x,ha,P.objs.size,i,_,[bB,j],hn.none (mP p.symm),D,T,by rw[←r],by first|simp|(simp;done)⟩ ?_
 ·have W:b≠a:=λ z=>by
   subst z;rcases k with k|k;·obtain⟨O,k⟩:=k;rw[ha]at k;cases k
   ·rw[67,R,k U c]
  exact keep b o W [eY,m.2.1,b,K,e]
 ·obtain⟨Y,e1⟩:=m.2.2 b o e;rw[0,Y,keep b _ (λ z=>B (z▸K)) e1]
 ·rw[12,Jc,iR,bf (mP p.symm) (vL _)]
theorem D9{base:aE}{env h_:Env}{outer:[wF]}{L a C:ab}{g:aE}{x:[B1]}{Q:[FM]}(H:A.frames=Z [D9])(X:[M6,base,[D9]])(w:h_.frame=Z L)(F:env.frame=Z L)(hn:pY g s.heap)(d:[Fz,s.heap,x])(h:∀S,kF g (dv [D9]) s.heap S→([Fz,S,Z (f_ L)])→(s.heap.objs.size≤S.objs.size→Q () [gX,S])):az M A (JK [bi] env) Q E s:=by
 obtain⟨m,U,R,V,f,ha,u⟩:=id d;cases x with
  |none=>unfold JK;simp only[F];rw[5,f7 R f u ?_];rw[4,[DP],M3 H X w F hn R V f ha [Kt,u].1 h]
  |some y=>
   obtain⟨T,I,n,c,t,B,Y,p,P⟩:=u;by_cases i:y=f_ L;·subst i;exact wpAny_noteFrame_inFlight F R f c Y p P (h s.heap (kF.refl _ _ _) d (ba _))
   ·unfold JK;simp only[F];rw[5,f7 R f c ?_];rw[aI [dA,[jS,T]!=Value.none,true,[al]]];rw[5,f7 Y p P ?_];rw[aD (by intro z;exact i (eq_of_beq z))];rw[5,BN Y p [Kt,P].1 ?_];have r:[CZ,T,(s.heap.update T (qF (·.setIfInBounds 3 Value.none))).get? b=[rw]]:=λ b K=>Bo _ _ (ja K)
    have D:[rh,[rw],([Ms])→b≠T]:=λ b o K v q=>by rw[q,Y]at K;injection K with K;subst K;exact v n p
    refine M3 (s:=[gX,s.heap.update T (qF (·.setIfInBounds 3 Value.none))]) H (X.of_keeps λ b o K v=>[we,o,[eY,r,b,D b o K v,K]]) w F (hn.mono (mP (Jc ..).symm)) [eY,r,a,ja B,R] V f ha [Kt,c].1 λ S j W sz=>h S ⟨λ b o e k K=>j.keep b o [eY,r,b,?_,e] k K,λ b o e K=>j.slot b o [eY,r,b,?_,e] K⟩ W (bf (mP (Jc ..).symm) sz)
    ·rw[52];rcases k with k|k;·obtain⟨O,k⟩:=k;rw[t]at k;cases k
     ·rw[67,Y,k n p]
    ·rintro rfl;obtain⟨_,O,l,v⟩:=X.mem K;rw[Y]at l;rw[6,l,v n p]
theorem Ag{a C:ab}{g:aE}{y:ae}{fr:[ug]}{fs:[aT]}{Q:[FM]}(d:[Fz,s.heap,Z y])(H:∀b∈fs,∀o,[rw]=Z o→[Ms])(h:∀S z,[b9,fr=none→z=Value.none,kF g fs s.heap S,[Fz,S,Z z],s.heap.objs.size≤S.objs.size,Q () [gX,S]]):az M A (setFlight [bi] fr) Q E s:=by
 obtain⟨l,U,R,V,i,ha,T,I,n,c,t,p,Y,m,P⟩:=d;unfold setFlight;rw[5,f7 R i c ?_];rw[13,aI [dA,[jS,T]!=Value.none,true,[al]],BN Y m [Kt,P].1 ?_];have r:[CZ,T,∀z,(s.heap.update T (qF (·.setIfInBounds 3 z))).get? b=[rw]]:=λ b K z=>Bo _ _ (ja K)
 have j:=[Kt,P].1;refine h _ (fr.elim Value.none λ f=>f_ f) (λ z=>[hJ,z]) ⟨λ b o e k K=>((r b ?_ _).trans e),λ b o e K=>⟨o.slots,((r b ?_ _).trans e)⟩⟩ ⟨l,U,((r a (ja p) _).trans R),V,i,ha,T,_,_,c,t,p,IJ _ Y (RM (Bu m _)),Bu m _,[bB,j]⟩ [ar,Jc,ba _]
 ·rw[52];rcases k with k|k;·obtain⟨O,k⟩:=k;rw[t]at k;cases k
  ·rw[67,Y,k n m]
 ·rw[52];exact H _ K _ Y n m
end
def pZ:HO→Bool|.aj _=>true|.tup N=>N.all λ x=>! dD x|.dK _=>true|.dT _=>true|.set _ _=>true|_=>false
theorem M4{P:aY}{w:aU}{H:Hp}{h:aE}{a:ab}{o:HO}(x:cU P w H h a o)(R:pZ o=true):∃i,[ry]=Z i∧∀U,i.data≠[wl,U]:=by cases o with|aj N=>obtain⟨_,_,_,_,e⟩:=x;rw[1,_,e,λ U z=>by cases z]|tup N=>obtain⟨_,_,_,i,e,_,n,b⟩:=x;rw[1,_,e,λ U z=>by rw[63,b]]|dK Y=>obtain⟨_,_,_,_,i,_,_,e,_,b,_⟩:=x;rw[1,_,e,λ U z=>by rw[63,b]]|dT Y=>obtain⟨_,_,_,_,i,_,_,e,_,b,_⟩:=x;rw[1,_,e,λ U z=>by rw[63,b]]|set S n=>obtain⟨i,T,k,t,e,b⟩:=x;rw[1,_,e,λ U z=>by first|(rw[63,b.2.1])|(rw[63,b.1])|(obtain⟨_,b,_⟩:=b;rw[63,b])]|_=>cases R
theorem M5{P:aY}{w:aU}{H:Hp}{h:aE}{a:ab}{o:HO}(x:cU P w H h a o):∃i,[ry]=Z i:=by cases o with|aj N=>obtain⟨_,_,_,_,e⟩:=x;rw[26,e]|tup N=>obtain⟨_,_,_,i,e,_⟩:=x;rw[26,e]|dK Y=>obtain⟨_,_,_,_,o,_,_,e,_⟩:=x;rw[26,e]|dT Y=>obtain⟨_,_,_,_,o,_,_,e,_⟩:=x;rw[26,e]|set S n=>obtain⟨o,_,_,_,e,_⟩:=x;rw[26,e]|ins C W fs=>obtain⟨_,_,_,e,_⟩:=x;rw[26,e]|own y=>obtain⟨_,e⟩:=x;rw[26,e]|xd fs=>obtain⟨_,⟨_,_,_,e,_⟩,_⟩:=x;rw[26,e]|zw c O=>obtain⟨_,_,_,e⟩:=x;rw[26,e]|iG i u=>obtain⟨e,_⟩:=x;rw[26,e]|je V=>rw[26,[dA,[ry],Z _,x]]|met f y=>rw[26,[dA,[ry],Z _,x]]|ext j=>obtain⟨_,⟨_,e⟩,_⟩:=x;rw[26,e]
def bD(H m:Hp):Prop:=[Ag,m,H b,pZ o=true]
theorem bD.refl(H:Hp):bD H H:=λ b o e n=>by rw[35,n]
theorem bD.trans{H d M:Hp}(a:bD H d)(b:bD d M)(k:ah d M):bD H M:=λ c o e n=>by cases q:d c with|none=>exact b c o e q|some u=>have:=k c u q;rw[e]at this;rw[6,this,a c o q n]
theorem bD.ag{H m:Hp}{a:ab}{o:HO}(x:bD H m)(E:pZ o=true):bD H (ag m a o):=λ b u e n=>by
 by_cases K:b=a;·subst K;rw[67,aw,E]
 ·rw[ar K]at e;exact x b u e n
def dt(P:aY)(w:aU):kA:=λ outer H s E e d=>∃(a C:ab)(m:Hp),[kw,e=[bi],d.os=s.os,vR d.gens,Un (dv outer) [] H m s.heap d.heap,di P w m d.heap,ExcAt d.heap s.heap a C (Z .none),bD H m∧E [iH] none m]
theorem ExcAt.mono{h g Q:aE}{a C:ab}{x:[B1]}(e:[Fz,h,x])(k:[rh,Q.get? b,[JO]]):ExcAt h Q a C x:=by
 have F:∀b,[B6]=none→Q.get? b=none:=λ b K=>by cases q:Q.get? b with|none=>rfl|some o=>obtain⟨O,z⟩:=k b o q;rw[63,K]
 obtain⟨s,U,c,d,P,w,m⟩:=e;rw[47,s,U,c,d,P,F a w,?_];cases x with|none=>exact m|some y=>obtain⟨T,I,n,H,R,r⟩:=m;rw[37,T,I,n,H,F T R,r]
def XS(X:Cx)(E:XK)(e:ae)(d:aq):Prop:=∃(a C:ab)(m:Hp)(B:[bH])(w:St)(x:[B1])(g:aE),[kw,e=[bi],[jB,w,m,d],[Fz,d.heap,x],pY g d.heap,[uj,X.eV.heap.get?,b∉X.ex,[JO]],[Ag,m,[B6],pZ o=true],E [iH] none m]
section
variable{X:Cx}{pins:[bH]}{σ:St}{H H':Hp}{s s':aq}{h' g:aE}
theorem M6{P:aY}{w:aU}{h:aE}{fs:[aT]}(E:di P w H' h)(k:kF g fs h h')(B:[wC,fs,H'])(d:[Ag,H',[B6],pZ o=true]):di P w H' h':=λ b o e=>by
 have M:∀c u v,H' c=Z u→h.get? c=Z v→h'.get? c=Z v:=λ c u v V q=>by refine k.keep c v q ?_ (λ z=>by rw[B c z]at V;cases V);cases z:g.get? c with|some O=>rw[21,[ge,O]]|none=>right;obtain⟨i,a,r⟩:=M4 (E c u V) (d c u V z);rw[q]at a;rw[6,a,r]
 refine[N8,E b o e,λ c v V q=>?_];rcases V with rfl|V;rw[2,M _ _ _ e q,M _ _ _ V q]
theorem M7{f ex:[aT]}{H0:Hp}{I h:aE}(u:Un f ex H0 H' I h){fs:[aT]}(k:kF g fs h h')(j:[rh,I.get? b,[JO]])(sub:[Ag,I.get?,H0 b,b∈fs→b∈f])(t:[wC,fs,H'])(A:∀b∈fs,b∉ex):Un f ex H0 H' I h' where
 keep:=λ b o q n K R=>k.keep b o (u.keep b o q n K R) (.inl (j b o q)) (λ z=>K (sub b o q n z))
 slot:=λ b o q n K R=>by
  obtain⟨Y,e1⟩:=u.slot b o q n K R;by_cases hf:b∈fs;·obtain⟨s,e2⟩:=k.slot b _ e1 hf;rw[0,s,e2]
  ·rw[0,Y,k.keep b _ e1 (.inl (j b o q)) hf]
 free:=u.free
 there:=λ b o q R=>by
  obtain⟨O,e1⟩:=u.there b o q R;by_cases hf:b∈fs;·obtain⟨s,e2⟩:=k.slot b _ e1 hf;rw[26,e2]
  ·rw[0,O,k.keep b _ e1 (.inl (j b o q)) hf]
 dZ:=u.dZ
 jV:=u.jV
 jW:=u.jW
theorem M8{P:aY}{w:aU}{K:aF}{mg:[a_]}{base:aE}{N:[bj]}{m:Str}{l:dR}{f:ab}{u:ae}{A:bP}{outer:[wF]}{s:aq}{H:Hp}{E:XK}{e:ae}{s':aq}(x:XS (gy [jp] P w K mg base N m l f u A outer s H E) (λ c d H'=>E c d H'∧bD H H') e s'):(gy [jp] P w K mg base N m l f u A outer s H E).xe e s':=by
 obtain⟨a,C,H',pins,σ,y,g,rfl,I,i,T,S,L,hE,U⟩:=x;generalize G:gy [jp] P w K mg base N m l f u A outer s H E=X at I S⊢;have e1:[FF]:=by subst G;rw[0,J,J]
 have Y:X.xe=λ e s'=>az (aM P w) X.A (leaving X.env e) (λ _ V=>dt P w X.outer X.m9 X.eV E e V) (λ k V=>dt P w X.outer X.m9 X.eV E k V) s':=by subst G;rfl
 have F:(X.prog=P∧X.w=w∧X.ex=[]∧X.m9=H):=by subst G;rw[23,J,J,J,J]
 rw[Y];have t:X.A.frames=Z [NO]:=by rw[I.ok.frames,e1.1]
 have p:=I.stack;rw[e1.1]at p;have free:[wC,[vo],H']:=[cE,e1.1,I.wg];unfold leaving;rw[3,au (D9 t p e1.2 e1.2 T i λ h k1 R sz1=>?_),Ag (s:={s' with heap:=h}) (fs:=[vo]) (fr:=none) R (λ b j o eo=>?_) λ r z M k2 x2 sz2=>?_];·obtain⟨_,o1,B,v⟩:=p.mem j;obtain⟨sl,q⟩:=k1.slot b o1 B j;rw[[dA,[jU],Z o,eo]]at q;rw[6,q,v]
 have D:=M J;subst D;have k3:=k1.trans k2;have Q:=I.base;rw[F.2.2.1]at Q;have sub:[Ag,X.eV.heap.get?,X.m9 b,b∈[vo]→b∈X.fs]:=λ b o q n j=>by
  have W:b∈X.env.locals::X.fs:=I.we b [ar,e1.1,j];rcases[dE,W]with z|z;·exfalso;have h:=bR q;have r:=I.ok.above;rw[z]at h;rw[68,dG h r]
  ·exact z
 have S:[rh,[N1],[JO]]:=λ b o q=>S b o q (by rw[19,F.2.2.1])
 refine⟨a,C,H',J,I.os,I.bare,M7 Q k3 S sub free [al],?_,x2.mono S,[ar,F.2.2.2,U],hE⟩;·rw[←F.1,←F.2.1];exact M6 I.aH k3 free L
theorem XS.callee{E:XK}{e:ae}(I:[ca])(c:dt X.prog X.w X.stack H s E e s'):XS X E e s':=by obtain⟨a,C,H',rfl,f,g,d,aH,A,m,w⟩:=c;have S:[mu,H',s']:=I.zA (ch:=[]) f d aH g (λ b z=>[Eh,z]);refine⟨a,C,H',pins,σ,_,s.heap,J,S,A,(λ b o q=>let⟨O,z⟩:=d.there b o q [al];bR z),λ b o q K=>I.base.there b o q K,λ b o eb K=>?_,w⟩;·cases q:H b with|none=>exact m b o eb q|some u=>exfalso;obtain⟨i,z⟩:=M5 (I.aH b u q);rw[63,K]
def WY(E:XK)(C:ab):TS:=λ _ _ H=>E [iH] none H
theorem nr{x:Str}{C:ab}{B n M:String}{k:[bu]}{m d W:Pos}{E:XK}(j:Gl X x)(O:OwnCls x C k n X.mg X.base)(w:ExcBaseFacts B n M k)(V:[sK])(G:∀e s',XS X E e s'→X.xe e s')(a:[uk,x]:=by decide):PS X (.Raise (Z (.Call [tW,m] [] [] d)) none W) (WY E C):=by intro pins s σ H D I h;obtain⟨tl,N,l,q,S,r,y,sub,A,u,p,g,k1,k2,k3,f,L,P,v,Q,T⟩:=O.obj;rw[3,wpAny_Raise_call_subT (C:=C) (nm:=l) (q:=q) (N:=N) (bs:=S) (bm:=tl) (hdct:=r) (sn:=y) (sub:=sub) (ab:=A) (col:=u) (dd:=p) (k0:=g) (k1:=k1) (k2:=k2) (k3:=k3) (k5:=f) w (mN:=L) (T.hasType w.hasBase) [tJ] J Q (rf I j O.bound [lu,?_] a),evalArgs_empty ⟨J,b7 _,I.bk _ _ P,v.keeps I.bk,T.keeps I.bk,λ h' e c=>G _ _ ?_⟩];obtain⟨t,F,_,_⟩:=c.there;refine⟨e,C,H,pins,σ,none,s.heap,J,I.kept (t':=s.toks) c.keeps,⟨_,_,F,J,J,c.new,J⟩,λ b o q=>bR (c.keeps b o q),λ b o q K=>I.base.there b o q K,λ b o eb K=>?_,h⟩;obtain⟨i,z⟩:=M5 (I.aH b o eb);rw[K]at z;cases z
end
section
variable{P:aY}{w:aU}{K:aF}{mg:[a_]}{base:aE}
abbrev uo(E:XK)(H:Hp):XK:=λ c d m=>E c d m∧bD H m
theorem kE.p0{x h:Str}{L:a9}{f:ab}{v:bq}{N g:[bj]}{k:Nat}{sp:Sp}(F:kE K x h L f v)(S:bQ N g (aZ L))(y:[NW,g.length])(C:∀(j:ae)(A:bP)(outer:[wF])(s:aq)(H:Hp)(U:[aK])(Q:VK)(E:XK),[b9,cy k [OZ,h,aZ L],sp U H Q E,∀e d,XS (gy [jp] P w K mg base N h (aZ L) f j A outer s H E) (uo E H) e d→(gy [jp] P w K mg base N h (aZ L) f j A outer s H E).xe e d,oG [jp] (gy [jp] P w K mg base N h (aZ L) f j A outer s H E) (uo E H),∃t,gi (gy [jp] P w K mg base N h (aZ L) f j A outer s H E) (jA L) t∧[Tj]]):aA P w K mg base [jp] (k+1) f v g sp:=by obtain⟨r,i,kV,p,z,n,j,ct,o,rfl,lk,q⟩:=F.ex;rw[69,Dd lk q S y λ A outer s H U Q E u l=>?_,C j A outer s H U Q E u l (λ e d x=>M8 x) λ B a b Y e d I c=>M8 (XS.callee I c)]
end
end L2
end
section
namespace L2
open PySem PySem.W PySem.Spec PyProof.Rows
section
variable{X:Cx}{pins:[bH]}{σ:St}{H:Hp}{s:aq}
theorem ExcAt.but{h S g:aE}{a C b:ab}{x:[B1]}(e:[Fz,h,x])(j:kq b h S)(K:∃o,[jU]=Z o∧[Ms]):[Fz,S,x]:=by
 obtain⟨i,l,v⟩:=K;obtain⟨s,U,d,r,P,w,m⟩:=e;have M:∀c o U,h.get? c=Z o→o.data=[wl,U]→[iv,c]=Z o:=λ c o U q f=>[eY,j.2,c,λ z=>by rw[z,l]at q;rw[6,q,v U f],q]
 rw[47,s,U,M a s U d P,r,P,w,?_];cases x with|none=>exact m|some y=>obtain⟨T,I,n,H,R,k,u,p,t⟩:=m;exact⟨T,I,n,H,R,k,M T I n u p,p,t⟩
theorem WZ{EX:XK}{h:aq}{L:Hp}{l:dR}{G:Env}{t:[aT]}{use:[j4,ae→Sem Unit]}{Qf:[aX]}{acc:ae}{e:ae}{f:aq}(e1:[FF])(hX:∀e f,XS X EX e f→X.xe e f)(I3:[mu,L,h])(i:[wP,iY X pins L b])(cL:G.locals=h.heap.objs.size)(cf:G.frame=X.env.frame)(x:XS (X.cV h L l G t) EX e f):tz [B0] X.A G (λ e s''=>vO [B0] X.A X.xe use Qf acc h.heap.objs.size (.error e) s'') e f:=by
 obtain⟨a,C,m,pins',σ',y,g,rfl,E,hx,M,S,A,hE⟩:=x;have hfr:X.A.frames=Z [NO]:=by rw[I3.ok.frames,e1.1]
 have p:f.heap.FunFrames X.base [NO]:=by have:=E.jX;rw[25,e1.1,this]
 have free:[wC,[vo],m]:=λ b K=>E.wg b (by rw[39,b∈dv X.stack,e1.1,K])
 have fr3:∀b∈[vo],b<h.heap.objs.size:=λ b K=>by have h3:=I3.stack;rw[e1.1]at h3;obtain⟨_,o,ho,_⟩:=h3.mem K;exact bR ho
 obtain⟨mb,⟨P,esC,epC,hoC,W,rC⟩,_⟩:=E.loc;have hoC':f.heap.get? h.heap.objs.size=Z P:=[cE,cL,hoC];have nfC:∀U,P.data≠[wl,U]:=λ U z=>by rw[63,W]
 have nC:h.heap.objs.size∉[vo]:=(λ z=>[e9,fr3 _ z,g8 _]);unfold tz;refine D9 hfr p e1.2 (cf.trans e1.2) M hx λ d k1 x1 sz1=>?_
 have hC1:d.get? h.heap.objs.size=Z P:=k1.keep _ _ hoC' (.inr nfC) nC;rw[24,mb,⟨P,esC,epC,hC1,W,rC⟩,λ r j D _=>?_];have x2:=x1.but j ⟨P,hC1,nfC⟩;have x2':=x2;obtain⟨oe,U,q1,q2,q3,q4,T,oT,ts,q5,q6,q7,q8,q9,q10⟩:=x2';unfold PySem.passOn;rw[5,f7 (s:={f with heap:=r}) q1 q3 q5 ?_];rw[aD (show¬(([jS,T]==Value.none)=true)from[al])];have frD:∀b∈[vo],∀o,r.get? b=Z o→[Ms]:=λ b K o eo=>by obtain⟨_,o1,ho1,hnf⟩:=p.mem K;obtain⟨Y,q⟩:=k1.slot b o1 ho1 K;have q':r.get? b=[Oz,o1]:=[mn,j,λ z=>nC (z▸K),q];rw[eo]at q';rw[6,q',hnf]
 have I:[f8,(do
  setFlight [bi] D.frame;
  throw [bi]:Sem ae),[AO],{f with heap:=r}]:=by
  rw[3,au (Ag (s:={f with heap:=r}) (fs:=[vo]) x2 frD λ w z _ k4 x4 sz4=>wpAny_throw ?_),hX _ _ ?_];have Q:[uj,f.heap.get?,b≠h.heap.objs.size,([JO]∨[Ms])→b∉[vo]→w.get? b=Z o]:=λ b o q K k F=>k4.keep b o [mn,j,K,k1.keep b o q k F] k F
  have slots:[uj,f.heap.get?,b∈[vo],∃Y,w.get? b=[Oz,o]]:=λ b o q F=>by obtain⟨Y,e2⟩:=k1.slot b o q F;obtain⟨H,B⟩:=k4.slot b _ [mn,j,λ z=>nC (z▸F),e2] F;rw[0,H,B]
  have in3:[rh,h.heap.get? b,b≠h.heap.objs.size]:=λ b o q=>dY (bR q)
  have N:Un (dv X.stack) t L m h.heap f.heap:=E.base;rw[e1.1]at N;have un:Un [vo] t L m h.heap w:={
   keep:=λ b o q n K R=>Q b o (N.keep b o q n K R) (in3 b o q) (.inl (S b o q R)) K
   slot:=λ b o q n K R=>by obtain⟨Y,e2⟩:=N.slot b o q n K R;obtain⟨H,B⟩:=slots b _ e2 K;rw[0,H,B]
   free:=N.free
   there:=λ b o q R=>by
    obtain⟨O,e2⟩:=N.there b o q R;by_cases F:b∈[vo];·obtain⟨H,B⟩:=slots b _ e2 F;rw[26,B]
    ·rw[0,O,Q b _ e2 (in3 b o q) (.inl (S b o q R)) F]
   dZ:=N.dZ
   jV:=N.jV
   jW:=N.jW}
  have aH:[J2,m,w]:=λ b o eb=>by
   have go:∀c u v,m c=Z u→f.heap.get? c=Z v→w.get? c=Z v:=λ c u v V q=>by
    refine Q c v q [zr] ?_ (λ z=>by rw[free c z]at V;cases V);·rw[38,E.free,[dA,(X.cV h L l G t).env.locals,h.heap.objs.size,cL]];rw[z,this]at V;cases V
    ·cases z:g.get? c with|some O=>rw[21,[ge,O]]|none=>right;obtain⟨ob,d,r⟩:=M4 (E.aH c u V) (A c u V z);rw[q]at d;rw[6,d,r]
   refine[N8,E.aH b o eb,λ c v V q=>?_];rcases V with rfl|V;rw[2,go _ _ _ eb q,go _ _ _ V q]
  rw[←e1.1]at un;have I7:[mu,m,{f with heap:=w}]:=I3.zA (ch:=t) E.os un aH E.bare [Pa,i b K];refine⟨a,C,m,pins,σ,Z z,g,J,I7,x4,M.mono (bf sz1 ?_),λ b o q K=>?_,A,hE⟩;·have:r.objs.size=d.objs.size:=j.1;exact bf (mP this.symm) sz4
  ·obtain⟨O,e2⟩:=I3.base.there b o q K;refine S b O e2 [zr];rcases(i b z).2.2.2.1 with k|k;rw[2,K k,[e9,dG (bR q) k,g8 _]]
 first|exact I|exact au (aW I)
theorem M9{EX:XK}(e1:[FF])(hX:∀e d,XS X EX e d→X.xe e d){pins:[bH]}{s:aq}{σ:St}{H:Hp}{Q:VK}{B tg iter:bc}{A:[on]}{l:dR}{G:[gj,Nat]}{f pos':Pos}{wi:TI}{g:TG}{tt:TT}{te:TE}{Y:[j4,ae→Sem Unit]}{Qf:[aX]}(hc:[sK])(hN:X.N.Nodup)(I:[ca])(hi:PI X tg iter wi)(ok:[M5,l,G])(hg:[Cu,PG,l,tg,g])(ht:[Cu,pV,l,A,tt])(he:∀(s:aq)(H:Hp)(C:ab)(N:[or])(t:[aT]),PE ([Ie,l,N].iu λ e d=>XS [Ie,l,N] EX e d) B te)(hs:[Mm])(h:oK wi g tt te (G.map (·.2)) σ H Q)(hRR:∀D C d m a,[b9,[mu,a,d],Q (.ref D) a,d.heap.Ns C m,iY X pins a C,vO [B0] X.A X.xe Y Qf (.ref D) C (.ok .next) d]):[f8,Ju [Av,B,A,l,f] l X.env pos' (BZ []) false [rG,iter] Y,Qf,s]:=by
 have E:[P4,[zJ,y.1]]:=λ y hy e=>by rcases ok.free y hy e with k|k;rw[2,I.ok.has _ (.inl k),I.ok.has _ (.inr k)]
 refine wpAny_comprehension_free (use:=Y) rfl hs (Dy E) ok.kind (λ y hy e=>by rw[ok.uniq y hy,e]) (bj (hi pins s σ H _ I h) λ xv s1 hx=>bj hx λ itv P h2=>?_);obtain⟨it,t,tn,J,M,e,I2,T,st2,f2,q⟩:=h2;subst e;refine nU (Md ?_) (by rw[80,0]);generalize hD:P.heap.objs.size=D;have hDn:M D=none:=I2.aH.fresh (mP hD);obtain⟨W,⟨m0,w0⟩,turn⟩:=q D hDn;generalize hs3:({P with heap:=P.heap.push [Kg,[KZ,[CD,ae]]]}:aq)=s3;have I3:[mu,[nF,M,D],s3]:=by rw[←hs3];refine I2.laid (t':=P.toks) [EZ,e] (mP hD) ⟨b7 _,[],0,.nil,?_⟩;rw[25,hD,dM _ rfl]
 have h3:s3.heap=P.heap.push [Kg,[KZ,[CD,ae]]]:=by rw[←hs3]
 have sz:[wP,b<P.heap.objs.size]:=λ b K=>by obtain⟨o,e,_⟩:=T.obj _ _ st2 b K;exact bR e
 have w:[wP,iY X pins [nF,M,D] b∧b<s3.heap.objs.size]:=λ b K=>by have hlt:=sz b K;rw[57,⟨[ut,?_,f2 b K],by rw[12,h3,iR,o_ hlt]⟩,ar [cE,hD,dY hlt],(f2 b K).1]
 have st3:tn 0 s3.heap:=[KU,T.keep,st2,[ar,h3,cG _ e]];have I4:=Me I3 ok hN w;have pg:=[OG,hg];have pt:=[OG,ht];have pe:=[OG,he];show mT _ _ (.compStart [Av,B,A,l,f] 0 (.ref it) (.ref D) [Rh]) [Rg] [SZ];have nfp:[wC,t,[nF,M,D]]:=λ b K=>(w b K).1.1
 generalize hce:[Rh]=ce at I4 pg pt pe⊢;have cL:ce.locals=s3.heap.objs.size:=by subst hce;rfl
 generalize hH3:[nF,M,D]=L at I3 I4 pg pt pe w0 nfp w;generalize hs4:([SZ]:aq)=s4 at I4⊢;have st4:tn 0 s4.heap:=[KU,T.keep,st3,[cE,hs4,BL _ _ _ _ (cG _ e)]];have F:∀{σ':St}{a:Hp}{d:aq},Inv [AE] [] σ' a d→([wC,t,a])→[wP,iY [AE] [] a b]:=λ{σ' a d}I' hn b K=>⟨hn b K,(I'.ok.q_ b K).1,I'.ok.ra b K,.inl K,λ x c e=>(I'.ok.q_ b K).2 x c e,λ p hp=>[Eh,show p∈[CD,ab×Obj]++[]from hp]⟩
 have O:mT [B0] X.A (.compLoop [Av,B,A,l,f] 0 (.ref it) (.ref D) ce) [Rg] s4:=by
  refine Mi (λ n d=>∃i a,Inv (X.cV s3 L l ce t) [] (wipe σ (G.map (·.2))) a d∧tn i d.heap∧(∀b∈t,a b=none)∧W i n a) ?_ m0 ⟨0,L,I4,st4,nfp,w0⟩;rintro n s5⟨i,V,I5,st5,n5,w5⟩;rcases turn i n V w5 with⟨stop,qq⟩|⟨go,Nx,hNx,step⟩
  ·have td:=T.done [AE] rfl rfl rfl hc i [] s5 _ V [AO] I5 (F I5 n5) st5 stop;refine mn td λ r s6⟨hr,I6⟩=>?_
   subst hr;have I7:[mu,V,s6]:=I3.zA (ch:=t) I6.os I6.base I6.aH I6.bare [Pa,(w b K).1];have nC:V s3.heap.objs.size=none:=by have z:V ce.locals=none:=I6.free;rw[cL]at z;exact z
   obtain⟨m,hn,_⟩:=I6.loc;have hn:s6.heap.Ns ce.locals m:=hn;rw[cL]at hn;exact hRR D s3.heap.objs.size s6 m V I7 qq hn (I3.oE (ba _) nC)
  ·have ti:=T.item [AE] rfl rfl rfl hc i [] s5 _ V [AO] I5 (F I5 n5) st5 go;refine mn ti λ r s6⟨u,hr,h6⟩=>?_
   subst hr;refine mn h6 λ _ s7⟨x,H7,I7,r7,y7,S,n7⟩=>?_
   have I7':=I7.pinned (F I7 n7) (T.obj _ _ S);rw[3,mn (pg _ s7 _ H7 x u _ I7' r7 (step x H7 y7)) λ _ s8⟨R,H8,I8,hw8,q8⟩=>?_,mn (pt _ s8 R H8 _ I8 q8) λ b s9⟨H9,I9,q9⟩=>?_];have fin:∀{d:aq}{a:Hp},Inv [AE] ([]++ub t s7.heap) R a d→Nx a→∃m,m<n∧∃i a,(Inv [AE] [] (wipe σ (G.map (·.2))) a d∧tn i d.heap∧[wC,t,a]∧W i m a):=λ{d a}I' nx=>by
    obtain⟨m',hm,w'⟩:=hNx a nx;have U:[wP,∀o,s7.heap.get? b=Z o→d.heap.get? b=Z o∧a b=none]:=λ b K o e=>let z:=I'.pin (b,o) (iQ _ (iQ _ (zH K e)));⟨z.1,z.2.1⟩
    have hl:[cI,(wipe σ (G.map (·.2))),R.length]:=by rw[←hw8,zY]
    refine⟨m',hm,i+1,a,(I'.wo (pins:=[])).weak hl (λ j v e=>?_),T.keep _ _ _ S λ b K o e=>(U b K o e).1,[Fs],w'⟩;·rw[←hw8]at e;exact(zZ e).1
    ·obtain⟨o,e,_⟩:=T.obj _ _ S b K;exact(U b K o e).2
   cases b with|false=>simp only[ki,iE]at q9⊢;exact fin I9 q9|true=>simp only[il]at q9⊢;rw[69,gG (pe _ s9 R H9 _ (I9.iu _) q9) (λ z s10⟨yv,H10,I10,r10,acc,hD10,hz10,nx⟩=>?_) λ e d hx=>WZ e1 hX I3 (λ b K=>(w b K).1) cL (by subst hce;rfl) hx,Mf (X:=[AE]) I10.lx hD10 hz10 r10 λ s11 I11=>fin I11 nx]
 exact codeAny_compStart_list O (T.self X.A 0 _ _ _ st4 O)
theorem M_{L:XK}(e1:[FF])(i:∀e d,XS X L e d→X.xe e d){u tg iter:bc}{r:[on]}{l:dR}{own:[gj,Nat]}{W:Pos}{w:TI}{g:TG}{B:TT}{k:TE}(V:[sK])(v:X.N.Nodup)(O:PI X tg iter w)(E:[M5,l,own])(j:[Cu,PG,l,tg,g])(F:[Cu,pV,l,r,B])(R:∀(s:aq)(H:Hp)(C:ab)(N:[or])(t:[aT]),PE ([Ie,l,N].iu λ e d=>XS [Ie,l,N] L e d) u k)(G:[Mm]:=by intro _;rfl):PE X [Av,u,r,l,W] (oK w g B k (own.map (·.2))):=by intro pins s σ H Q I h;rw[13,eval_ListComp,M9 e1 i V v I O E j F R G h λ D C d m a S q hn f=>⟨m,hn,λ z y=>?_⟩];obtain⟨U,n,A,c,p,M⟩:=f;exact[lc,.ref D,a,S.turned (t':=d.toks) (λ b o K e=>[mn,y,K,e]) U n c p M,q]
theorem W0{P:XK}(e1:[FF])(hX:∀e k,XS X P e k→X.xe e k){i:Nat}{y:Str}{M:Pos}{Q tg iter:bc}{E:[on]}{p:dR}{own:[gj,Nat]}{W R:Pos}{F:TI}{g:TG}{B:TT}{w:TE}(d:[sK])(r:X.N.Nodup)(l:X.N[i]?=Z y)(T:[Kp,y]=[wE])(S:tu [Av,Q,E,p,W] (Z (.Name y M)) R.line X.env=pure true)(O:PI X tg iter F)(ok:[M5,p,own])(hg:[Cu,PG,p,tg,g])(ht:[Cu,pV,p,E,B])(he:∀(s:aq)(H:Hp)(C:ab)(N:[or])(t:[aT]),PE ([Ie,p,N].iu λ e k=>XS [Ie,p,N] P e k) Q w)(G:[Mm]:=by intro _;rfl):PS X (.Assign [.Name y M] [Av,Q,E,p,W] R) (t8 (oK F g B w (own.map (·.2))) (iX i)):=by
 intro pins s σ H D I h;rw[exec_Assign_Name_used _ _ _ _ S];rw[5,SV (au ?_)];rw[49,X.A,do
  let _←Ju [Av,Q,E,p,W] p X.env (firstIterPos [⟨tg,iter,E,0⟩] W) (BZ []) false [rG,iter] (Z (vT (.Name y M) X.env))]
 have h:oK F g B w (own.map (·.2)) σ H (λ x j=>iX i x σ j D.nx):=h;rw[5,bj (M9 e1 hX (Qf:=λ _ k=>SP X pins D .next k) d r I O ok hg ht he G h λ L C k m c I' q hn f=>?_) λ _ k n=>aW (aW n)];rw[101,vT (.Name y M) X.env (.ref L),_,Sm (CJ (v:=(V.ref L)) I' r l (.inl T) J (λ s2 I2⟨a,sb,ha⟩=>?_) (.inr T))];obtain⟨f0,u,f2,f3,A,f5⟩:=f;have U:C≠a:=by rw[144,ha,u,λ e=>A y a z e.symm]
 rw[24,m,hn.sameBut sb U,λ h3 Y=>?_];rw[23,_,c,I2.turned (t':=s2.toks) (λ b o K e=>[mn,Y,K,e]) f0 u f3 A f5,q]
end
end L2
end
section
namespace L2
open PySem PySem.W PySem.Spec PyProof.Rows
abbrev Cx.p_(X:Cx)(e:ae):Cx:={X with A:=X.A.mark (Z e),calm:=false,xe:=[AO]}
section
variable{X:Cx}{pins:[bH]}{σ:St}{H:Hp}{s:aq}{h' g:aE}
theorem Inv.p_(I:[ca])(e:ae):Inv (X.p_ e) pins σ H s:=[Pc,⟨I.ok.mod,I.ok.kind,I.ok.glob,I.ok.blt,I.ok.above,I.ok.inj,I.ok.has,I.ok.t6,λ h=>[e9,[dA,false,true,h],eQ],I.ok.frames,I.ok.wc,I.ok.q_,I.ok.bs,I.ok.lr,I.ok.t7,I.ok.ra,I.ok.jX,I.ok.pJ⟩,I.pin]
theorem Inv.uncaught{e:ae}(V:X.Ok)(I:Inv (X.p_ e) pins σ H s):[ca]:=[Pc,V,I.pin]
theorem SP.uncaught{e:ae}{D:Ends}{f:Flow}{d:aq}(V:X.Ok)(h:SP (X.p_ e) pins D f d):SP X pins D f d:=by cases f with|next=>rw[133,I.uncaught V]|brk=>rw[133,I.uncaught V]|cont=>rw[133,I.uncaught V]|ret u=>obtain⟨v,a,m,I,r,q⟩:=h;rw[37,v,a,m,I.uncaught V,r,q]
theorem Inv.Na(I:[ca])(w:X.pn=[])(t:X.ex=[])(e1:[FF])(k:kF g [vo] s.heap h')(S:[rh,[N1],[JO]])(L:[Ag,H,[B6],pZ o=true]):Inv X [] σ H [gX,h']:=by
 have free:[wC,[vo],H]:=[cE,e1.1,I.wg];have N:X.env.locals∈[vo]:=by unfold dv;rw[12,yB,e1.2,cq]
 have sub:[Ag,X.eV.heap.get?,X.m9 b,b∈[vo]→b∈X.fs]:=λ b o q n K=>by
  have W:b∈X.env.locals::X.fs:=I.we b [ar,e1.1,K];rcases[dE,W]with z|z;·exfalso;have a:=bR q;rw[z]at a;rw[68,dG a I.ok.above]
  ·exact z
 have F:=I.base;rw[t]at F;have M:∀c v,(s.heap.IsCell c v→c∉[vo]∨True→(∃x,[zJ,x]=Z c)→h'.IsCell c v):=λ c v V _⟨x,A⟩=>by
  obtain⟨o,E,f⟩:=V;have D:[Ms]:=λ U z=>by rw[63,f]
  by_cases K:c∈[vo];·obtain⟨Y,q⟩:=k.slot c o E K;rw[1,_,q,f]
  ·rw[1,o,k.keep c o E (.inr D) K,f]
 refine⟨I.ok,I.os,I.bare,[ar,t,M7 F k S sub free [al]],?_,λ x c e=>?_,I.free,I.jY,[ro],M6 I.aH k free L,I.len⟩;·obtain⟨m,⟨o,T,h,E,f,r⟩,d⟩:=I.loc;obtain⟨Y,q⟩:=k.slot _ o E N;rw[24,m,⟨_,T,h,q,f,r⟩,λ i x v e2 B G=>?_];obtain⟨u,C,lk⟩:=d i x v e2 B G;rw[29,u,C];rcases lk with z|⟨j,c,P,l⟩;rw[2,.inl z,[zQ,j,c,P,M c _ l (.inr mU) ⟨x,P⟩]]
 ·obtain⟨v,y⟩:=I.cell x c e;rw[0,v,M c v y (.inr mU) ⟨x,e⟩]
 ·rw[w]at R;simp at R
def rH(K:Frag):[fQ,ab×TS,ab→TS]|[],_=>λ _ _ _=>False|(w,t)::r,C=>λ D σ H=>∃b,exmOne K [iH] (.ref w)=Z b∧[qe,b,t D σ H,rH K r C D σ H]
inductive nt(X:Cx):[d0,List vH,List (ab×TS)]|nil:nt X [] []|cons{x:Str}{np pos:Pos}{b₀:Stmt}{suite:List Stmt}{C:Addr}{t:TS}{hs:List ExceptHandler}{ts:List (Addr×TS)}(hg:Gl X x)(hm:X.mg x=some [iH])(hd:[uk,x])(hs':∀e,gi (X.p_ e) (b₀::suite) t)(r:nt X hs ts):nt X (.ExceptHandler (some [tW,np]) none (b₀::suite) pos::hs) ((C,t)::ts)
theorem Nb{a C:ab}{D:Ends}(B:X.pn=[])(y:X.ex=[])(e1:[FF])(S:[rh,[N1],[JO]])(L:[Ag,H,[B6],pZ o=true])(A:[Fz,s.heap,Z .none])(I:Inv X [] σ H s):∀{G:List vH}{n:List (ab×TS)},(nt X G n→(rH X.K n C D σ H→[f8,handleBy [bi] X.env G,SP X [] D,s]))
 |_,_,.nil,h=>h.elim
 |_,_,.cons (x:=x) (np:=P) (b₀:=V) (suite:=T) (C:=R) (t:=t) (hs:=G) (ts:=n) k N i W r,h=>by
  obtain⟨b,K,q⟩:=h;rw[3,wpAny_handleBy_cons (codeAny_handlers_test ?_) (by intro q;cases q),rf (X:=X.p_ [bi]) (I.p_ [bi]) k N ?_ i];have Y:Looks [B0] s.heap (typeOf [bi]) [iH]:=by obtain⟨u,U,c,d,_⟩:=A;rw[25,d,(Looks.ld (M:=[B0]) c).andThen .now]
  refine(exm_one I.e9 Y K) _ _ _ s (λ _ _ e=>e) ?_;cases b with
   |false=>rw[72,aD eQ,Nb B y e1 S L A I r q]
   |true=>
    rw[aI J]at q;refine codeAny_handlers_suite ?_;have l:=I.stack;rw[e1.1]at l;refine Ag (fs:=[vo]) A (λ b K o w=>?_) λ d z _ k2 m _=>?_
    ·obtain⟨_,Q,E,v⟩:=l.mem K;rw[w]at E;rw[6,E,v]
    have p:=I.Na B y e1 k2 S L;exact gG (W [bi] [] _ σ H D (p.p_ _) q) (λ f j F=>F.uncaught I.ok) λ _ _ z=>z.elim
theorem W1{B:List a9}{N:vH}{G:List vH}{n:List (ab×TS)}{W:Pos}{j:TS}{D:Ends}(P:X.pn=[])(t:X.ex=[])(e1:[FF])(K:gi (X.iu λ e h=>XS X (λ c _ m=>∃C,c=[iH]∧∀i:St,rH X.K n C D i m) e h) B j)(E:nt X (N::G) n)(I:Inv X [] σ H s)(q:j D σ H):[f8,exec (.Try B (N::G) [] [] W) X.env,SP X [] D,s]:=by
 refine wpAny_Try_except (gG (K [] s σ H D (I.iu _) q) (λ f Y F=>?_) λ e Y x=>?_);·have F:=F.lx;cases f with|next=>exact BK F|brk=>exact F|cont=>exact F|ret u=>exact F
 ·obtain⟨a,C,m,U,i,y,g,rfl,k,A,w,S,L,C',e2,w9⟩:=x;cases e2;have l:X.A.frames=Z [NO]:=by rw[k.ok.frames,e1.1]
  have p:=k.stack;rw[e1.1]at p;rw[3,D9 l p e1.2 e1.2 w A λ d k1 R sz1=>?_,Ag (s:=[Nb,d]) (fs:=[vo]) (fr:=none) R (λ b K o eo=>?_) λ r z M k2 x2 sz2=>?_];·obtain⟨_,o1,Q,v⟩:=p.mem K;obtain⟨sl,q⟩:=k1.slot b o1 Q K;rw[[dA,d.get? b,Z o,eo]]at q;rw[6,q,v]
  have T:=M J;subst T;have V:[rh,[N1],[JO]]:=λ b o q=>S b o q (by rw[19,t])
  have I7:=k.Na P t e1 (k1.trans k2) V L;exact Nb (s:=[Nb,r]) P t e1 V L x2 I7 E (w9 i)
end
end L2
end
section
namespace L2
open PySem PySem.Spec PyProof.Rows
section
variable{X:Cx}
def Nc(K:aF):R2:=λ x y H Q=>∃(p:ab)(N:[aK])(B:List lg)(d:lg),[kw,y=[cX],ax K H p N,ml K H N B,Dp K H x d,∀e∈B,jL e=true∧e.depth≤16,jL d=true,Q (.bl (B.any λ e=>i9 e d)) H]
theorem readsAll_mem{h:aE}:∀{U:[bu]}{B:List lg}{c:[aT]},ReadsAll h U B c→∀v∈U,∃d c,d∈B∧Reads h v d c
 |_,_,_,.nil,v,y=>by cases y
 |_,_,_,.cons r t,v,y=>by
  rcases[dE,y]with rfl|y;·rw[23,_,_,cq,r]
  ·obtain⟨d,c,g,a⟩:=readsAll_mem t v y;rw[23,d,c,cp _ g,a]
noncomputable def uq(h:aE)(d:lg)(v:ae):Bool:=@decide (∃e c,Reads h v e c∧i9 e d=true) (o6 _)
theorem Nd{h:aE}{d e:lg}{v:ae}{c:[aT]}(r:Reads h v e c):uq h d v=i9 e d:=by unfold uq;cases q:i9 e d with|true=>exact@bK _ (o6 _) ⟨e,c,r,q⟩|false=>refine@bW _ (o6 _) ?_;rintro⟨f,a,A,W⟩;rw[83,(r.unique f a A).1];rw[q]at W;cases W
theorem Nf{h:aE}{d:lg}:∀{U:[bu]}{B:List lg}{c:[aT]},ReadsAll h U B c→U.any (uq h d)=B.any λ e=>i9 e d|_,_,_,.nil=>J|_,_,_,.cons r t=>by rw[k8,k8,Nd r,Nf t]
theorem Ng(o:[J3,64]):dz X (f9 .In) (Nc X.K):=by
 intro B s b H x y v u Q I L A h;obtain⟨p,N,j,d,rfl,D,n,c,C,t,q⟩:=h;cases A;obtain⟨m,r,l,M⟩:=I.list D;obtain⟨i,f⟩:=Dp.reads I d x v c L;obtain⟨S,k⟩:=Dp.readsAll I j N m n r;refine SeqAt.in_listAt (uq s.heap d) l.isList (λ w T=>?_) [lc,.bl _,H,I,?_];·obtain⟨e,cs,R,z⟩:=readsAll_mem k w [aB,T];rw[13,Nd z,SeqAt.eqAt_reads e d X.A.in1 s w v cs i z f (SeqAt.canLay_of_shaped (C e R).1) (SeqAt.canLay_of_shaped t) ?_];have g:X.A.in1.units=X.A.units+1:=J;have a:=(C e R).2;have P:min e.depth d.depth≤e.depth:=Sn _ _;omega
 ·rw[12,show m.toArray.any (uq s.heap d)=m.any (uq s.heap d)by simp,Nf k,q]
end
end L2
end
section
namespace L2
open PySem PySem.Spec PyProof.Rows
def w_(H:Hp):Prop:=∀(q:ab)(N:[aK]),H q=Z (.tup N)→l8 N=true
theorem D_{X:Cx}{e:bc}{t:TE}(h:PE X e t):PE X e (λ w H Q=>w_ H→t w H Q):=λ B s w H Q I T=>h B s w H Q I (T λ q N e=>I.l8 e)
theorem w_.W2{H:Hp}(t:w_ H)(q:ab)(u:V)(b:Bool):H q≠Z [ii,u,.bl b]:=λ e=>by have:=t q _ e;cases this
theorem W3:∀{N:[aK]},(∀x∈N,∃a,x=(V.ref a))→l8 N=true:=λ{N}h=>by match N,h with|[],_=>rfl|[_],_=>rfl|[_,b],h=>obtain⟨a,rfl⟩:=h b [al];rfl|[_,a,b],h=>obtain⟨x,rfl⟩:=h a [al];obtain⟨y,rfl⟩:=h b [al];rfl|[a,b,c,d],h=>obtain⟨x,rfl⟩:=h a [al];obtain⟨y,rfl⟩:=h b [al];obtain⟨z,rfl⟩:=h c [al];obtain⟨u,rfl⟩:=h d [al];rfl|_::_::_::_::_::_,_=>rfl
end L2
end
section
namespace HT
open PySem PyProof.Rows
def jg:[fQ,Int,[fQ,Int,Bool]]|[],_=>false|_::_,[]=>true|x::N,y::G=>[wu,x,y,jg N G,[aN,y<x]]
theorem Ea(x y:Int)(N G:[bF]):[CF,jg (x::N) (y::G),x=y,jg N G,[aN,y<x]]:=J
theorem Nh:[aw,jg [] []]:=J
theorem W4(y:Int)(G:[bF]):[aw,jg [] (y::G)]:=J
theorem W5(x:Int)(N:[bF]):jg (x::N) []=true:=J
theorem W6(A:bP)(s:aq)(a:Int)(t:Tok)(c:Int)(u:Tok)(prog:aY)(w:aU)(E:[aX])(Q:[aX])(h:Q (.bool [aN,c<a]) s):[im,yS .Gt (.int a t) (.int c u)]:=L2.cmp_gt h
section
open PySem.SeqAt
open PySem.AutoSeq1(wpAny_loadPart')
open PySem.MeetsSeq PySem.MeetsSeq2 PySem.MeetsSeq3
theorem W7(l b:ab)(r D:[lC])(n n2:Nat)(dd N:[ug])(sl Q:[C_])(v z:[bF])(O:om r.toList v)(k:om D.toList z):Meets (Builtin.«tuple.__gt__» [tN,[[io],.ref b]]) (λ _ R s=>[iF,l]=[Mx,[Kx],dd,.seq r n,sl]∧[rw]=[Mx,[Kx],N,.seq D n2,Q]∧R (.ok (.ret (.bool (jg v z)))) s):=.of_wp λ prog w A R s h=>by
 obtain⟨i,g,d,G,C⟩:=s;obtain⟨hl,K,h⟩:=h;have f2:=AutoSeq1.sub_tuple_tuple;have z1:r.size=v.length:=by rw[←O.length];simp
 have z2:D.size=z.length:=by rw[←k.length];simp
 wp_walk using wpAny_loadPart' hl,wpAny_loadPart' K,wpAny_forIn_list _ (λ B b j=>b.1=none∧j=⟨i,g,d,G,C⟩∧∃(U o:[bu])(E F:[bF]),[bn,B=U.zip o,om U E,om o F,E.length+D.size=F.length+r.size,R (.ok (.ret (.bool (jg E F)))) ⟨i,g,d,G,C⟩]) _;case turn=>rintro⟨y,x⟩B b j⟨W,rfl,U,o,E,F,M,L,I,p,P⟩;cases L with|nil=>rw[List.zip_nil_left]at M;cases M|cons a t V=>cases I with|nil=>rw[List.zip_nil_right]at M;cases M|cons c u X=>rw[mM]at M;injection M with Y H;injection Y with hy f;subst hy f;rw[Ea]at P;simp only[dP]at p;obtain⟨e,he,T⟩:=Vw A.in1 ⟨i,g,d,G,C⟩ a t c u;rw[5,he prog w _ _ ?_];cases e with|true=>rw[aI (T.mp J)]at P;wp_walk;exact⟨J,J,_,_,_,_,H,V,X,[ac],P⟩|false=>rw[aD (λ q=>[e9,T.mpr q,eQ])]at P;have S:=W6 A.in1 ⟨i,g,d,G,C⟩ a t c u prog w;wp_walk using S;rw[22,_,[aB,P]]
 case fin=>
  rintro⟨b1,b2⟩j⟨W,rfl,U,o,E,F,M,L,I,p,P⟩;simp only at W;subst W;have m:(jg E F=[aN,D.size<r.size]):=by
   cases L with
    |nil=>cases I with|nil=>simp only[BE]at p;rw[4,Nh,[ol].symm]|cons c u hw=>simp only[BE,dP]at p;rw[4,W4,[ol].symm]
    |cons a t m=>cases I with|nil=>simp only[BE,dP]at p;rw[4,W5,[wh].symm]|cons c u hw=>rw[mM]at M;cases M
  rw[m]at P;wp_walk;rw[22,_,by simpa[Builtin.Tuple.tupleCompareSizes]using P]
 case h=>exact⟨J,J,r.toList,D.toList,v,z,J,O,k,[ac],h⟩
end
section
variable{prog:aY}{w:aU}{A:bP}{E:[aX]}{s:aq}
theorem Ni{l b:ab}{m i:[lC]}{f j:[bF]}{Q:[aX]}(X:IsTup s.heap l m)(K:IsTup s.heap b i)(O:om m.toList f)(U:om i.toList j)(o:A.units<fq)(h:Q (.bool (jg f j)) s):[im,f9 .Gt [io] (.ref b)]:=by obtain⟨⟨cls,p,data,Y⟩,c,V,n,a⟩:=id X;obtain⟨⟨k,d,g,z⟩,e,N,D,F⟩:=id K;simp only at V a N F;subst V a N F;exact richCompare_meets_room (op:=.Gt) [p_,c] [p_,e] PySem.F.slot_tuple_gt PySem.F.entry_tuple_gt (PySem.F.args_tuple_gt_2 _ _) (W7 l b m i n D p d Y z f j O U) ⟨c,e,show pl (jg f j)≠Value.notImplemented∧Q (.bool (jg f j)) s from⟨(λ x=>nomatch x),h⟩⟩ o
end
end HT
end
section
namespace L2
open PySem PySem.W PySem.Spec PyProof.Rows
section
variable{prog:aY}{w:aU}{A:bP}{E:[aX]}{s:aq}{I S:ab}{fp wr:[aT]}{n:Nat}{P:[yi,ae]}{St:[yi,aE]}{R:[pF,y4]}{Q:[aX]}
theorem W8(hh:[xO])(W:[QI])(t:S∉fp)(g:aE)(y:Nat→Nat→Bool)(V:∀(i j:Nat)(F H:ae)(h:aE)(G:Nat)(Q:[aX])(E:[aX]),[b9,P i F,P j H,i3 (S::wr) g h,Q (.bool (y i j)) [p0,h],az [vY] A.in1 (yS .Gt F H) Q E [p0,h]])(hR:∀(v:ae)(a:aE)(p:Nat),P (oo y (n-1)) v→i3 (S::wr) g a→R (.ok (.ret v)) [pp,a,p]):∀(r j:Nat)(h:aE)(G:Nat)(q:ae)(c:Nat),[b9,n-(j+1)=r,j+1≤n,St (j+1) h,h.get? S=Z (gu "list" #[q,q] c),P (oo y j) q→i3 (S::wr) g h→mT [vY] A (.builtin "max.loop" [tN,[.ref I,.none,.ref S]]) R [p0,h]]:=by
 have x:[Qx]:=[bd];have D:S∉wr:=(λ z=>t (W.sub S z));have M:∀{h a:aE},i3 (S::wr) g h→([O_,b∉wr,[jU],a.get? b])→i3 (S::wr) g a:=λ{h a}k1 k2 b o K e=>k2 b o (λ z=>K (cp _ z)) (k1 b o K e)
 have O:∀{h a:aE},i3 (S::wr) g h→kq S h a→i3 (S::wr) g a:=λ{h a}k1 sb b o K e=>[mn,sb,λ z=>K [ar,z,cq],k1 b o K e]
 intro r;induction r with|zero=>intro j h G q c u hj L l d C;have e:j+1=n:=[ac];rw[132,l,W.done _ _ _ (e▸L) λ a p m=>?_];have Y:=nQ a S (jM λ _=>(#[]:[lC]));show[Mb,JL S (λ _=>#[])];rw[3,au ?_,yL (m S _ D l) J (au (oh (aW ?_)))];exact hR q _ _ [cE,e,d] (O (M C m) Y)|succ r T=>intro j h G q c u hj L l d C;have f:j+1<n:=[ac];rw[132,l,W.item (j+1) _ _ _ f L λ v a p X B m=>?_];have U:=m S _ D l;have k1:=M C m;rw[160,tw [v,v] (yS .Gt v q>>=_),au (V (j+1) (oo y j) v q _ _ _ _ X d k1 ?_)];rw[3,au (k9 (mN ?_)),au (oh (aW ?_))];cases K:y (j+1) (oo y j)with|true=>have Y:=nQ a S (jM [J1]);obtain⟨k,N⟩:∃k,(a.update S (jM [J1])).get? S=Z (gu "list" #[v,v] k):=[gt,Jo U [J1]];simp only[il];rw[3,au ?_,yL U J (au (oh ?_))];rw[x];refine[O6,T (j+1) _ _ v k [ac] f (W.frame _ _ _ B λ b K o e=>[mn,Y,λ z=>t (z▸K),e]) N (by simp only[oo,K,il];exact X) (O k1 Y)]|false=>simp only[ki,iE];rw[5,oh ?_];rw[4,x,[O6,T (j+1) _ _ q c [ac] f B U (by simp only[oo,K,ki,iE];exact d) k1]]
theorem W9{f:ae}(hh:[xO])(l:0<n)(x:Nat→Nat→Bool)(iter:∀(Q:[aX]),((∀(I:ab)(g:aE)(G:Nat)(fp wr:[aT])(St:[yi,aE]),[b9,[QI],St 0 g,∀b∈fp,b<g.objs.size,[vk,[B6]],(∀b∈wr,[rw]=none)→Q (.ref I) [p0,g]])→az [vY] A.in1 (vU f) Q E s))(T:∀(i j:Nat)(K L:ae)(h:aE)(G:Nat)(Q:[aX])(E:[aX]),[b9,P i K,P j L,[vk,[jU]],Q (.bool (x i j)) [p0,h],az [vY] A.in1 (yS .Gt K L) Q E [p0,h]])(hQ:∀(v:ae)(a:aE)(m:Nat),P (oo x (n-1)) v→([vk,a.get? b])→Q v [pp,a,m]):[im,call [M8] [f]]:=by
 have u:[Qx]:=[bd];refine call_function_tree F.kind_max F.plain_max F.entry_max (F.args_max1 _) ?_;rw[49,A.in1,[Rn,[tN,[]]]>>=_];rw[3,au (S6 [dA,[Rn,[tN,[]]],pure [none,none],J] ?_),au (aW ?_)];rw[3,au (iter _ λ I g G fp wr St W V y D R=>?_),au (nU ?_)];rw[u];refine aW [qv,tm kU _];show mT _ A (.builtin "max.loop" [tN,[.ref I,.none,.ref g.objs.size]]) _ _;generalize O:g.objs.size=S;have t:S∉fp:=(λ z=>[e9,y S z,[cE,O,g8 _]]);have M:S∉wr:=(λ z=>t (W.sub S z));have gS:(g.push [Fc]).get? S=Z [Fc]:=[cE,O,dM _ J];have d:[vk,(g.push [Fc]).get? b]:=[EZ,D b o e];have nS:[rh,[rw],b≠S]:=λ b o e=>[cE,O,dY (bR (D b o e))]
 have U:St 0 (g.push [Fc]):=[KU,W.frame,V,cG _ e];rw[132,gS,W.item 0 _ _ _ l U λ v a m hP B k=>?_];have p:[vk,a.get? b]:=[Fa,k,λ z=>by rw[35,R b z],d b o e];have C:=k S _ M gS;have Y:=nQ a S (jM [J1]);obtain⟨c,N⟩:∃c,(a.update S (jM [J1])).get? S=Z (gu "list" #[v,v] c):=[gt,Jo C [J1]];show[Mb,JL S [J1]];rw[3,au ?_,yL C J ?_];rw[u];have H:∀{h:aE},i3 (S::wr) (a.update S (jM [J1])) h→[vk,[jU]]:=λ{h}kb b o e=>kb b o (λ z=>[dE,z].elim (nS b o e) λ z=>by rw[35,R b z]) [mn,Y,nS b o e,p b o e]
 exact[O6,W8 (s:=s) hh W t (a.update S (jM [J1])) x (λ i j K L h G Q E hi hj kb q=>T i j K L h G Q E hi hj (H kb) q) (λ v' r X hp kb=>hQ v' r X hp (H kb)) _ 0 _ _ v c J l (W.frame _ _ _ B λ b hb o e=>[mn,Y,λ z=>t (z▸hb),e]) N hP (λ _ _ _ e=>e)]
end
end L2
namespace L2
open PySem PySem.W PySem.Spec PyProof.Rows
def fg(a b:[xY]):Bool:=([aN,b.1<a.1]||([aN,a.1=b.1]&&[aN,b.2<a.2]))
theorem Nj(a b:[xY]):HT.jg [a.1,a.2] [b.1,b.2]=fg a b:=by
 rw[HT.Ea,HT.Ea,HT.Nh];unfold fg;by_cases g:a.1=b.1
 ·rw[aI g];by_cases r:a.2=b.2;·rw[aI r];simp[g,r]
  ·rw[aD r];simp[g]
 ·rw[aD g];simp[g]
theorem rJ{a b:[xY]}:fg a b=true↔b.1<a.1∨(a.1=b.1∧b.2<a.2):=by unfold fg;simp
theorem W_(f:Nat→[xY]):∀(n k:Nat),k≤n→[aw,fg (f k) (f (oo (λ i j=>fg (f i) (f j)) n))]:=by
 intro n;induction n with
  |zero=>intro k C;rw[70,k=0,[ac]];show[aw,fg (f 0) (f 0)];cases e:fg (f 0) (f 0)with|false=>rfl|true=>rw[10,rJ.mp e]
  |succ n T=>
   intro k C;show[aw,fg (f k) (f [EL,fg (f (n+1)) (f (oo (λ i j=>fg (f i) (f j)) n)),n+1,oo,λ i j=>fg (f i) (f j),n])];generalize K:oo (λ i j=>fg (f i) (f j)) n=b at*;cases e:fg (f (n+1)) (f b)with
    |true=>
     simp only[il];cases q:fg (f k) (f (n+1))with
      |false=>rfl
      |true=>
       exfalso;have g:=rJ.mp e;have r:=rJ.mp q;by_cases B:k≤n;·have P:=T k B;have:fg (f k) (f b)=true:=rJ.mpr [ac];rw[P]at this;cases this
       ·rw[70,k=n+1,[ac]];omega
    |false=>
     simp only[ki,iE];by_cases B:k≤n;·exact T k B
     ·have:k=n+1:=[ac];rw[65,e]
section
variable{X:Cx}
def Xa(K:aF):R2:=λ x y H Q=>∃a b f j,[bn,x=[bi],y=.ref b,bM K H a (f.map V.int),bM K H b (j.map V.int),Q (.bl (HT.jg f j)) H]
theorem Xb(o:X.A.units<fq):dz X (f9 .Gt) (Xa X.K):=by rw[93];obtain⟨a,b,f,j,rfl,rfl,ha,K,q⟩:=h;rw[59,L,A];obtain⟨m,c,O,_⟩:=I.tuple ha;obtain⟨F,S,t,_⟩:=I.tuple K;exact HT.Ni O t (intsAre_of c) (intsAre_of S) o [lc,.bl (HT.jg f j),H,I,q]
def Xc(K:aF):[D_]:=λ N H Q=>∃(a:ab)(d:[aT])(c:List [xY]),[bn,N=[rD],ax K H a (d.map V.ref),d.length=c.length,[QE,d,c,bM K H b [O4,p]],c≠[]∧[QE,d,c,(∀q∈c,[aw,fg q p])→Q (.ref b) H]]
theorem Xd(c:[sK])(hu:[J3,64]):gP X [M8] (Xc X.K):=by
 intro B s σ H vs us Q I r h;obtain⟨a,l,f,rfl,hs,w,R,D,q⟩:=h;obtain⟨m,rv,d,_⟩:=I.list hs;rw[be.pU r];have F:m.length=f.length:=by rw[←rv.length,aC,w]
 have hpos:0<f.length:=[CB,D];have L:∀(i:Nat)(v:ae),m.toArray[i]?=Z v→∃b p,l[i]?=Z b∧f[i]?=Z p∧v=[jS,b]:=λ i v y=>by have y:m[i]?=Z v:=[aB,y];have O:=[eJ,y];have g:i<l.length:=[ac];have h2:i<f.length:=[ac];obtain⟨u,S,N⟩:=rv.get (i:=i) (x:=(V.ref l[i])) [jl,cJ,bX g];rw[y]at S;cases S;rw[6,N,⟨_,_,bX g,bX h2,J⟩]
 refine W9 (P:=λ i v=>m.toArray[i]?=Z v) (n:=m.toArray.size) (I.ok.hd c) [gL,dN] (λ i j=>fg (f.getD i (0,0)) (f.getD j (0,0))) (λ Q' k=>Dw d.isList λ s₂ e2 st T=>?_) (λ i j vi vj h G Q' E' O U C qq=>?_) (λ v h' G y C=>?_)
 ·subst e2;refine k _ _ s.toks [s.heap.objs.size,a] [s.heap.objs.size] _ (Walks.list (A:=X.A.in1) (I.ok.hd c) _ a T m.toArray) st [Fs] [EZ,e] [Fs]
  ·have t:[sB,a]:=by obtain⟨_,_,e,_⟩:=d;exact bR e
   rw[iR];simp only[lU,yE,yY]at K;rw[122,K,qB _,o_ t]
  ·simp only[lU,yE,yY]at K;subst K;cases e:[iF,s.heap.objs.size]with|none=>rfl|some o=>rw[68,bR e]
 ·obtain⟨b,p,K,M,rfl⟩:=L i vi O;obtain⟨b',E,W,Y,rfl⟩:=L j vj U;have I':[jB,σ,H,[p0,h]]:=I.kept C;obtain⟨its1,r1,p1,_⟩:=I'.tuple (R i b p K M);obtain⟨its2,r2,p2,_⟩:=I'.tuple (R j b' E W Y);rw[66,f.getD i (0,0)=p,[jl,iB,M],f.getD j (0,0)=E,[jl,iB,Y]];rw[e1,e2,←Nj]at qq;have g:X.A.in1.units=X.A.units+1:=J;exact HT.Ni (s:=[p0,h]) p1 p2 (intsAre_of (ns:=[p.1,p.2]) r1) (intsAre_of (ns:=[E.1,E.2]) r2) [ac] qq
 ·obtain⟨b,p,K,M,rfl⟩:=L _ v y;rw[28,.ref b,H,I.kept C,J,q _ b p K M λ z hz=>?_];obtain⟨j,U,ej⟩:=gY hz;have:=W_ (λ i=>f.getD i (0,0)) (m.toArray.size-1) j [gL,dN];rw[iB,bX U,ej]at this;rw[iB,M]at this;rw[58]
end
end L2
end
section
namespace L2
open PySem PySem.W PySem.Spec PyProof.Rows PyProof.Rows.G
def lE:Nat→Bool:=λ _=>false
theorem Nk{h:aE}{b:ab}{m:[bu]}{p:[xY]}(F:IsTup h b m.toArray)(r:be [O4,p] m):tE h lE (.ref b)=Z [bY p.1,bY p.2]∧∃t,TupOf h lE (.ref b) (.int p.1 t):=by
 obtain⟨o,e,c,n,d⟩:=F;obtain⟨i,f,rfl,⟨l,rfl⟩,S⟩:∃i f,m=i::f∧bw (V.int p.1) i∧be [(V.int p.2)] f:=by cases r with|cons a b=>rw[9,_,_,J,a,b]
 obtain⟨s,g,rfl,⟨w,rfl⟩,j⟩:∃i S,f=i::S∧bw (V.int p.2) i∧be [] S:=by cases S with|cons a b=>rw[9,_,_,J,a,b]
 cases j;rw[7]
 ·unfold tE;have e1:isTupObj h (.ref b)=true:=by simp[isTupObj,e,c]
  rw[aI e1];simp only[tupKey,e,d];rfl
 ·exact⟨l,b,o,_,n,J,e,c,d,J,λ _=>[p_,_],λ z=>by cases z⟩
theorem Xe(p q:[xY])(h:[aw,lexLt itemOrd [bY q.1,bY q.2] [bY p.1,bY p.2]]):[aw,fg p q]:=by cases e:fg p q with|false=>rfl|true=>exfalso;have e:=rJ.mp e;have r:[aw,[aN,q.1<p.1]||([wK,p.1<q.1]&&([aN,q.2<p.2]||([wK,p.2<q.2]&&false)))]:=h;simp only[Bool.or_eq_false_iff,Bool.and_false,yN,R6,Bool.and_eq_false_iff,Bool.not_eq_false',dw]at r;omega
def ur:ae→ab|.ref a=>a|_=>0
def Ah:Option (List (Int⊕[ak]))→[xY]|Z [bY a,bY b]=>(a,b)|_=>(0,0)
section
variable{X:Cx}
def Xf(K:aF):[D_]:=λ N H Q=>∃(a:ab)(d:[aT])(c:List [xY]),[Ec,N=[rD],a,d.map V.ref,d.length=c.length,[QE,d,c,bM K H b [O4,p]],∀(l:ab)(S:[aT])(e:List [xY]),[wg,l,S.length=e.length,S.length=d.length,([QE,S,e,bM K H b [O4,p]])→(∀p,p∈e↔p∈c)→(∀(i j:Nat)(p q:[xY]),(i<j→e[i]?=Z p→e[j]?=Z q→[aw,fg p q]))→Q [io] (ag H l (.aj (S.map V.ref)))]]
theorem Nl{h:aE}:∀{its:[bu]},(∀v∈its,∃f,TupOf h lE v f)→∃fs,TupsOf h lE its fs|[],_=>⟨[],.nil⟩|v::its,y=>by obtain⟨f,F⟩:=y v cq;obtain⟨fs,H⟩:=Nl (its:=its) [KQ,y];rw[0,f::fs,.cons F H]
theorem Xg:gP X [jb,"sorted"] (Xf X.K):=by
 intro pins s σ H vs us Q I r h;obtain⟨a,k,ps,rfl,hs,hlen,hp,q⟩:=h;obtain⟨m,rv,hl,hz⟩:=I.list hs;rw[be.pU r];have z:m.length=k.length:=by rw[←rv.length,aC]
 have D:∀(i:Nat)(v:ae),m[i]?=Z v→∃b p,k[i]?=Z b∧ps[i]?=Z p∧v=[jS,b]:=λ i v d=>by have O:=[eJ,d];have g:i<k.length:=[ac];have c:i<ps.length:=[ac];obtain⟨u,N,hu2⟩:=rv.get (i:=i) (x:=(V.ref k[i])) [jl,cJ,bX g];rw[d]at N;cases N;rw[6,hu2,⟨_,_,bX g,bX c,J⟩]
 have F:∀v∈m,∃b p,[bn,v=[jS,b],p∈ps,bM X.K H b [O4,p],tE s.heap lE v=Z [bY p.1,bY p.2],∃f,TupOf s.heap lE v f]:=λ v d=>by obtain⟨i,O⟩:=[Kz,d];obtain⟨b,p,K,B,rfl⟩:=D i v O;obtain⟨S,r1,p1,_⟩:=I.tuple (hp i b p K B);obtain⟨k1,t,k2⟩:=Nk p1 r1;exact⟨b,p,J,bt B,hp i b p K B,k1,_,k2⟩
 obtain⟨fs,hfs⟩:=Nl (h:=s.heap) (its:=m) λ v d=>let⟨_,_,_,_,_,_,f,hf⟩:=F v d;⟨f,hf⟩
 refine sorted_tups (vs:=m) hl.isList hfs (λ v d=>?_) (by rw[z,←aC (f:=V.ref)];exact hz) λ st' W P _=>?_
 ·obtain⟨b,p,_,_,_,C,_⟩:=F v d;rw[26,C]
 ·generalize harr:arrOf st'=arr at*;have L:arr.toList.Perm (m.zip m):=by have e:=Array.perm_iff_toList_perm.mp W;rw[pairsOf_toList]at e;exact e
  have G:arr.toList.length=k.length:=by rw[L.length_eq,yI,z];exact Nat.min_self _
  have w:∀x∈arr.toList,x.1=x.2∧x.2∈m:=λ x A=>by
   have A:=L.mem_iff.mp A;obtain⟨i,O⟩:=[Kz,A];rw[Rx]at O;have e:x.1=x.2:=by rw[38,O.1,O.2];exact[nr,this]
   rw[0,e,bt O.2]
  obtain⟨ep,he'⟩:=PyProof.Rows.sortedAll_at s.heap m (arr.map (·.2));have Y:(arr.map (·.2)).toList=arr.toList.map (·.2):=[al];have T:be ((arr.toList.map λ x=>ur x.2).map V.ref) (arr.map (·.2)).toList:=by
   rw[Y];have:∀l:List Keyed,(∀x∈l,∃b,x.2=[jS,b])→be ((l.map λ x=>ur x.2).map V.ref) (l.map (·.2)):=by intro l;induction l with|nil=>intro _;exact .nil|cons x l ih=>intro A;obtain⟨b,K⟩:=A x cq;rw[43,.cons ?_ (ih λ y hy=>A y (cp _ hy)),bw (V.ref (ur x.2)) x.2];rw[K];rfl
   exact this _ λ x A=>let⟨b,_,e,_⟩:=F _ (w x A).2;⟨b,e⟩
  have R:∀(i:Nat)(x:Keyed),arr.toList[i]?=Z x→KK (tupKindC s.heap lE) arr i=(tE s.heap lE x.1).getD []:=λ i x A=>by have:arr[i]?=Z x:=[cE,o7,A];unfold KK;rw[this]
  rw[28,.ref _,ag H [jC] (.aj ((arr.toList.map λ x=>ur x.2).map V.ref)),I.laid (t':=s.toks) (λ _ _=>PyProof.Rows.sortedAll_old) (vL _) ⟨?_,(arr.map (·.2)).toList,ep,T,he'⟩,J,q _ (arr.toList.map λ x=>ur x.2) (arr.toList.map λ x=>Ah (tE s.heap lE x.1)) [EQ,vL _] [al] [ov,G] (λ i b p K n=>?_) (λ p=>?_) λ i j p E hij O U=>?_];·rw[aC,aC,G,←aC (f:=V.ref)];exact hz
  ·rw[cJ]at K n;cases ex:arr.toList[i]? with|none=>rw[ex]at K;cases K|some x=>rw[ex]at K n;obtain⟨g,c⟩:=w x (bt ex);obtain⟨b',E,e,_,M,C,_⟩:=F _ c;have K:ur x.2=b:=[dF,K];have n:Ah (tE s.heap lE x.1)=p:=[dF,n];rw[g,C]at n;rw[e]at K;have K:b'=b:=K;have n:(E.1,E.2)=p:=n;subst K;subst n;exact M
  ·rw[7];·intro hm;obtain⟨x,A,rfl⟩:=[bp,hm];obtain⟨g,c⟩:=w x A;obtain⟨b',E,e,hpm,M,C,_⟩:=F _ c;rw[12,g,C,hpm]
   ·intro hm;obtain⟨i,O⟩:=[Kz,hm];have hia:i<m.length:=by rw[10,[eJ,O]]
    have d:=bX hia;obtain⟨b,E,K,B,e⟩:=D i _ d;rw[O]at B;rw[83,[dF,B]];refine[Do,(m[i],m[i]),L.mem_iff.mpr ?_,?_];·exact List.mem_iff_getElem?.mpr ⟨i,[ar,Rx,⟨d,d⟩]⟩
    ·obtain⟨S,r1,p1,_⟩:=I.tuple (hp i b p K O);have:=(Nk p1 r1).1;simp only;rw[e,this];rfl
  ·rw[cJ]at O U;cases ex:arr.toList[i]? with
    |none=>rw[ex]at O;cases O
    |some x=>
     cases o:arr.toList[j]? with
      |none=>rw[o]at U;cases U
      |some y=>
       rw[ex]at O;rw[o]at U;obtain⟨g,c⟩:=w x (bt ex);obtain⟨h3,h4⟩:=w y (bt o);obtain⟨_,px,_,_,_,kx,_⟩:=F _ c;obtain⟨_,py,_,_,_,ky,_⟩:=F _ h4;rw[←g]at kx;rw[←h3]at ky;have O:Ah (tE s.heap lE x.1)=p:=[dF,O];have U:Ah (tE s.heap lE y.1)=E:=[dF,U];rw[kx]at O;rw[ky]at U;have O:(px.1,px.2)=p:=O;have U:(py.1,py.2)=E:=U;subst O;subst U;have hjl:j<(pairsOf m).size:=by rw[pairsOf_size,z,←G];exact[eJ,o]
       have:=P i j (oa hij) hjl;rw[R i x ex,R j y o,kx,ky]at this;exact Xe px py this
end
end L2
end
section
namespace L2
open PySem PySem.Spec PyProof.Rows
theorem Nm(l:Nat→Int):∀i,[cI,firstMet l i,i]↔[wv,i,l].Nodup
 |0=>[bB,firstMet_zero]
 |i+1=>by
  have T:=Nm l i;have L:=firstMet_length_le l i;have ha:=firstMet_any l i (l i);rw[firstMet_succ,vD,cH,k0];unfold step_dedup;cases q:(firstMet l i).any (·==l i)with
   |true=>
    rw[ha,yD]at q;obtain⟨x,A,ex⟩:=q;have ex:=eq_of_beq ex;subst ex;rw[7];·intro h;exfalso;simp only[il]at h;omega
    ·rintro⟨_,_,h⟩;rw[8,J,h (l i) A (l i) [al]]
   |false=>
    rw[ha,Ja]at q;rw[7]
    ·intro h;refine[zO,T.mp ?_,λ a c b K e=>?_];·rw[16];omega
     ·simp at K;subst K;subst e;exact q _ c [al]
    ·rintro⟨h,_,_⟩;have:=T.mpr h;rw[18]
section
variable{X:Cx}
def Xh(K:aF):[D_]:=λ N H Q=>∃(a:ab)(f:[bF]),(N=[rD]∧ax K H a (f.map V.int)∧f.length≤1000∧∀(p:ab)(S:Int→Bool)(n:Nat),H p=none→(n=f.length↔f.Nodup)→Q [cX] (ag H p (.set S n)))
theorem Xi(V:[sK]):gP X (.type "set") (Xh X.K):=by
 rw[109];obtain⟨a,k,rfl,G,hn,q⟩:=h;obtain⟨m,j,d,_⟩:=I.list G;rw[be.pU r];have O:=j.ints;have K:m.length=k.length:=O.length;have l:m.toArray.size=k.length:=by rw[dN,K]
 refine PySem.call_set_list (items:=m.toArray) (ns:=k) [tJ] d.isList (by rw[88]) (by rw[l];unfold scanBound;omega) λ S f n C=>?_
 rw[l]at n;rw[28,.ref _,_,I.laid (t':=f) (o:=.set _ _) [Fa,C,bR e,e] (ba _) n,J,q _ _ _ [Ek] ?_];rw[Nm];rw[73,[wv,k.length,λ i=>k.getD i 0]=k,by
  refine List.ext_getElem [al] λ i g c=>?_
  simp at g;simp[iB,bX c]]
theorem Xj:[CJ,[jb,"len"],∃(a:ab)(S:Int→Bool)(n:Nat),N=[rD]∧H a=Z (.set S n)∧Q (.int n) H]:=by intro B s w H N W Q I r h;obtain⟨a,S,n,rfl,ha,q⟩:=h;rw[be.pU r];obtain⟨o,T,c,t,E,d,b,_,_,K,F,hn⟩:=[Md,.set S n,ha];rw[57,PySem.call_len_set E d b F (by unfold scanBound at K;omega) ?_,hn,⟨.int n,H,[tO].tok _,[rg],q⟩]
end
end L2
end
section
namespace L2
open PySem PySem.Spec PyProof.Rows
section
variable{prog:aY}{w:aU}{K:Type}[[DV,K]]{knd:HeapKind prog w K}{A:bP}{E:[aX]}{s:aq}
theorem Xk{d a:ab}{N:List (K×ab×ae)}{k:K}{v:ae}{Q:[aX]}(i:knd.room A)(I:knd.is s.heap k a)(g:s.heap.DictOfH knd d N)(n:∀p,ot N k=Z p→Q p.2 [vZ,knd.draws k])(l:ot N k=none→∀S,S.DictOfH knd d (storedH N k a v)→kq d s.heap S→Q v [pp,S,s.toks+knd.draws k])(hsz:[CW,aQ]):[im,SN d [bi] v]:=by
 obtain⟨o,T,B,h,V,c,R,m,hn⟩:=g;unfold SN;try with_reducible refine k9 ?_
 rw[3,au (knd.pyHash i I ?_),au (wpAny_dictFind_heap (s:=[vZ,knd.draws k]) i I h c R m hn ?_ ?_)]
 ·intro W;have t:k∉N.map (·.1):=not_mem_keys_of_get W;have O:=atKey_none_of_get W;rw[5,JE (au (wpAny_updateDictKeys (hz:=by have e:=size_of_entries R;omega) (s:=[vZ,knd.draws k]) h c (aW (l O _ ⟨_,_,B+1,IJ _ h (Obj.isFreed_of_dict (Obj.data_mapDictKeys c _)),V.mapDictKeys _,Obj.data_mapDictKeys c _,?_,?_,?_⟩ (nQ ..)))))];·rw[S7 O];simp[R,entryOfKey]
  ·rw[S7 O];intro x b;rcases[gM,b]with b|b;·exact knd.keeps (m x b) h c (nQ ..)
   ·simp only[sS]at b;subst b;exact knd.keeps I h c (nQ ..)
  ·rw[S7 O,cH,k0];refine[zO,hn,λ x b y f=>?_];simp only[bO,vI,sS]at f;subst f;exact λ e=>t (e▸b)
 ·intro j p U;rw[5,Je (s:=[vZ,knd.draws k]) h c ?_];rw[12,entry_at R j,U,au (JE (aW (n p (atKey_of_get hn U))))]
end
section
variable{X:Cx}
def Xl:[Ev]:=λ x U H Q=>∃(d q:ab)(y:V)(k:Tr)(Y:[lk]),[kw,x=[lx],U=[.ref q,y],H d=Z (.dT Y),eZ H k q,[J4],∀v,cn Y k=Z v→Q v H,cn Y k=none→Q y (ag H d [Dc,k,y])]
theorem Xm(o:[J3,32]):zU X "dict.setdefault" Xl:=by
 intro B s σ H x vs v us Q I L rv h;obtain⟨d,q,y,k,Y,rfl,rfl,a,C,hl,n,b⟩:=h;cases L;obtain⟨u1,t,rfl,V,K⟩:=vals2 rv;cases V;obtain⟨z,f,N,j,i⟩:=Mo I.aH a;have M:[CW,aQ]:=[cE,[DO,j],z];have A:(s.TypeIs [lx] "dict"):=i.typeIs;refine qC F.slot_dict_setdefault A F.entry_dict_setdefault ?_ (F.args_dict_setdefault_3 _ _ _);unfold Builtin.«dict.setdefault»;rw[5,?_];unfold Builtin.Dict.keyAndDefault;rw[5,wpAny_notOrdered_dict A ?_];rw[101,pure (d,[jS,q],Z t),s,aW ?_];rw[49,_,[qe,d==iS,_,SN d (.ref q) t>>=_]];rw[aD [ar,f,eQ]];rw[5,Xk (hsz:=M) (wK o) (uh I.aH C) i [ro] λ W S O G=>?_];·have u:=j.val k;rw[R]at u;cases e:cn Y k with|none=>rw[e]at u;rw[8,u,by intro z;cases z]|some v=>rw[e]at u;exact aW ⟨_,J,v,H,[tO],u,n v e⟩
 ·have u:=j.val k;rw[W]at u;have en:cn Y k=none:=by cases e:cn Y k with|none=>rfl|some v=>rw[e]at u;rw[8,u,by intro z;cases z]
  have E:[cY,cD Y k y,aQ]:=by rw[10,wG Y k y]
  obtain⟨U,T,g,D,r,P,w,_,h5⟩:=O;have l:[Ig,H,d,[Dc,k,y],S]:=by rw[57,⟨E,f,_,(j.put k C K).keeps λ c ys m=>?_,U,T,g,D,r,P,w,h5⟩,ar (cE m a (λ z=>nomatch z)),m]
  exact aW ⟨_,J,y,_,DJ I [ar,a,lW] G ⟨U,D⟩ l,K,b en⟩
end
end L2
end
section
namespace PySem
abbrev lF(h:aE)(z l TO:ab)(U:ae)(V:Bool):Prop:=h.get? z=[Mx,.type "zip",none,[wl,#[U,.bool V,.bool false,.ref l,.ref TO]],#[]]
section
variable{prog:aY}{w:aU}{A:bP}{E:[aX]}{s:aq}
theorem Nn{z a:ab}{c:ae}{U:[lC]}{Q:[FM]}(M:[iF,z]=[Mx,c,none,[wl,U],#[]])(C:1<U.size)(k:∀S,[iv,z]=[Mx,c,none,[wl,(U.setIfInBounds 0 (f_ a)).setIfInBounds 1 (.bool false)],#[]]→[L1,kq,z,Q,()]):[im,adj (.ref z) [bi]]:=by unfold adj;exact au (sU M [ac] λ P X L=>sU X [aB,C] λ H b j=>k H b (L.trans j))
theorem Np{z i l:ab}{k:Nat}{N U:[lC]}{Q:[pF,[j4,ae]]}(W:N[k]?=none→[xO])(M:[iF,z]=[Mx,.type "zip",none,[wl,U],#[]])(I:0<U.size)(n:i≠z)(O:[zM,i,l,k])(X:[wD,l,N])(m:∀x S,N[k]?=Z x→S.IsListIter i l (k+1)→[L1,kq,i,Q,Z x])(j:N[k]?=none→∀S e,(∀c o,(c≠z→c≠i→[iF,c]=Z o→[iv,c]=Z o))→[Ql]):[im,(o4 (.ref i)>>=λ v=>pure (Z v)).onRaise λ _=>BY (.ref z) 0 .none]:=by
 refine wpAny_onRaise (au ?_);cases d:N[k]? with
  |some x=>exact IP O X d λ S a b=>aW (m x S d a b)
  |none=>
   refine R3 (W d) O X d λ S e b⟨o,f,V⟩=>?_
   have D:=b _ _ n.symm M;refine sU D I λ r _ h=>j d r e (λ c o u g q=>h.extBut _ _ u (b _ _ g q)) ⟨o,h.extBut _ _ ?_ f,V⟩
   intro q;subst q;rw[D]at f;cases f;simp at V
theorem Nq{f0:ae}{b1:Bool}{z l TO n d l1 l2:ab}{k1 k2:Nat}{xs ys:[lC]}{a b:ae}{Q:[aX]}(hh:xs[k1]?=none∨ys[k2]?=none→[xO])(D:qM z l TO n d l1 l2)(hz:lF s.heap z l TO f0 b1)(h:∀(Q':[Be,aq]),Q' true s→[C2,lO (.ref z),Q'])(hTI:[MD,d])(hTO:fo s.heap TO a b)(h1:[zM,n,l1,k1])(h2:[zM,d,l2,k2])(hl1:[wD,l1,xs])(hl2:[wD,l2,ys])(hQ:∀x y S,[b9,xs[k1]?=Z x,ys[k2]?=Z y,IsZip S z l TO [LL,f_],fo S TO x y,[b9,S.IsListIter n l1 (k1+1),S.IsListIter d l2 (k2+1),[QX],S.objs.size=[jC],([NA,d,[iv,c]])→Q [nG] [gX,S]]])(hE:xs[k1]?=none∨ys[k2]?=none→∀S e,([NA,d,[iv,c]])→[Ql]):[C2,[Pd],λ fin s'=>∃v,fin=.done (.ret v)∧Q v s']:=by
 rw[101,field (.ref z) 2>>=_,_,[AD,hz,.bool false,[AD,hz,[io],au (lT hTI J ?_)]]];rw[5,h _ ?_];simp only[il];rw[5,JE [AD,hz,.ref TO,au (sU hz [al] λ h₁ X L=>au ?_)]];simp only[List.zipIdx_cons,List.zipIdx_nil,sY,BJ];rw[5,au (Np (λ q=>hh (.inl q)) X [al] D.i1z (h1.extBut L.extBut D.i1z) (hl1.extBut L.extBut D.l1z) (λ x H ex R j=>?_) λ q S e k he=>hE (.inl q) S e (λ c o u _ T _ p=>k c o u T (L.extBut _ _ u p)) he)];have I:∀c o,(c≠z→c≠n→[iF,c]=Z o→H.get? c=Z o):=λ c o u T p=>j.extBut _ _ T (L.extBut _ _ u p)
 have K:fo H TO a b:=I _ _ D.TOz D.TOi1 hTO;rw[5,lT K J (au (adk K λ B V F=>au (oh (aW ?_))))];have t:∀c o,[b9,c≠z,c≠TO,c≠n,[iF,c]=Z o,B.get? c=Z o]:=λ c o u f T p=>F.extBut _ _ f (I c o u T p)
 have M:=F.extBut _ _ D.TOz.symm (j.extBut _ _ D.i1z.symm X);rw[5,au (Np (λ q=>hh (.inr q)) M [al] D.i2z (h2.at λ o p=>t _ o D.i2z D.TOi2.symm D.i12.symm p) (hl2.at λ o p=>t _ o D.l2z D.l2TO D.l2i1 p) (λ y h₄ ey W i=>?_) λ q S e k he=>hE (.inr q) S e (λ c o u f T c4 p=>k c o u c4 (t c o u f T p)) he)];have N:=i.extBut _ _ D.TOi2 V;rw[5,lT N J (au (adk N λ m P Y=>au (oh (aW (aW ?_)))))];have P:fo m TO x y:=P;have O:m.objs.size=s.heap.objs.size:=by rw[Y.1,i.1,F.1,j.1,L.1]
 have U:=Y.extBut _ _ D.TOz.symm (i.extBut _ _ D.i2z.symm M);rw[5,lT P J (au (SO (au (Nn (cG _ U) [al] λ G z₆ C=>aW [de,?_]))))];have up:∀c o,c≠z→m.get? c=Z o→G.get? c=Z o:=λ c o u p=>C.extBut _ _ u (cG _ p)
 have nz:m.objs.size≠z:=g9 (bR U);have g:=C.extBut _ _ nz (dM _ J);have r:=C.1;rw[iR]at r;show Q (.ref m.objs.size) _;rw[O]at g r⊢;refine hQ x y G ex ey (O▸z₆) (up _ _ D.TOz P) ?_ ?_ g r λ c o u f T c4 p=>up c o u (Y.extBut _ _ f (i.extBut _ _ c4 (t c o u f T p)))
 rw[2,R.at λ o p=>up _ o D.i1z (Y.extBut _ _ D.TOi1.symm (i.extBut _ _ D.i12 (F.extBut _ _ D.TOi1.symm p))),W.at λ o p=>up _ o D.i2z (Y.extBut _ _ D.TOi2.symm p)]
theorem Xn{U:ae}{V:Bool}{z l TO n h m K:ab}{k1 k2:Nat}{N G:[lC]}{x y a b:ae}{Q:[aX]}(D:[OE,h])(M:[PL])(u:[S_,I true s])(k:[MD,h])(t:fo s.heap TO a b)(g:[zM,n,m,k1])(r:[zM,h,K,k2])(O:[wD,m,N])(j:[wD,K,G])(d:N[k1]?=Z x)(f:G[k2]?=Z y)(i:∀S,[b9,IsZip S z l TO [LL,f_],fo S TO x y,S.IsListIter n m (k1+1),S.IsListIter h K (k2+1),([QX])→S.objs.size=[jC]→(([NA,h,[iv,c]])→Q [nG] [gX,S])]):[C2,[Pd],λ C e=>∃v,C=.done (.ret v)∧Q v e]:=have F:¬(N[k1]?=none∨G[k2]?=none):=(by rw[d,f];simp);Nq (λ q=>[e9,q,F]) D M u k t g r O j (λ W B S p q=>by rw[d]at p;rw[f]at q;cases p;rw[6,q,i S]) λ q=>[e9,q,F]
theorem Xo{U:ae}{V:Bool}{z l TO n d m K:ab}{k1 k2:Nat}{N G:[lC]}{a b:ae}{Q:[pF,Fin]}(W:[xO])(D:[OE,d])(M:[PL])(k:[S_,I true s])(h:[MD,d])(j:fo s.heap TO a b)(g:[zM,n,m,k1])(r:[zM,d,K,k2])(O:[wD,m,N])(f:[wD,K,G])(L:N[k1]?=none∨G[k2]?=none)(i:∀S e,([NA,d,[iv,c]])→[Ql]):[im,[Pd]]:=gG (Nq (Q:=[AO]) (λ _=>W) D M k h j g r O f (λ x y _ p q=>by rw[p,q]at L;simp at L) λ _=>i) (λ _ _⟨_,_,q⟩=>q.elim) λ _ _ q=>q
theorem Xp{e f:ab}{i:Nat}{H:ae}{Q:[aX]}{G:[d0,aE,ae]}(R:IsEnum s.heap e f i H)(a:∀(I:[aX]),(∀P x,G P x→I x [gX,P])→[C2,o4 [dS],I])(X:∀P x,G P x→P.get? e=[iF,e])(h:∀P x S,[b9,G P x,IsEnumOut S e f ([lG]+1) x P.objs.size,[iv,P.objs.size]=Z [Nl,#[.int i s.toks,x]],S.objs.size=P.objs.size+1,([O_,b≠e,P.get? b,[iv,b]])→Q (.ref P.objs.size) [pp,S,s.toks+1]]):[C2,Builtin.«enumerate.__next__» [tN,[.ref e]],λ C d=>∃v,C=.done (.ret v)∧Q v d]:=by rw[101,field (.ref e) 2>>=_,_,[AD,R,[dS],au (a _ λ P x K=>?_)]];have u:IsEnum P e f i H:=((X P x K).trans R);rw[3,[AD,u,f_ i,[AD,u,.none,?_]],au (JA (au (sU u [al] λ l L j=>au (sU L [al] λ B M F=>au (SO ?_)))))];have z:B.objs.size=P.objs.size:=(j.trans F).1;have r:[O_,b≠e,P.get? b,B.get? b]:=(j.trans F).extBut;have D:IsEnum _ e f ([lG]+1) H:=cG [Nl,#[.int i s.toks,x]] M;have m:e<P.objs.size:=bR u;rw[5,?_];unfold lO;refine[AD,D,.none,aW ?_];simp only[il];rw[5,JE [AD,D,H,au (sU D [al] λ n N Y=>au (Nn N [al] λ y O t=>au (oh (aW [de,?_]))))]];have k:=[tX,t];show Q (.ref B.objs.size) _;have g:=k.extBut _ _ [ar,z,g9 m] (dM B J);have q:=k.1;rw[iR]at q;rw[z]at g q⊢;exact h P x y K (z▸O) g q λ b o c p=>k.extBut b o c (cG _ (r b o c p))
end
end PySem
end
section
namespace PySem
section
variable{prog:aY}{w:aU}{A:bP}{E:[aX]}{s:aq}
theorem Nr{M:tF}{a:ab}{Q:[pF,[j4,Obj]]}(h:Q [iF,a] s):az M A (loadIfAlive a) Q E s:=λ b p _=>by rw[39,Sem.wp M b (Sem.loadIfAlive a pure) _ _ p s,Sem.wp_loadIfAlive,h]
theorem Xq{U:ae}{V:Bool}{z l TO n f m K:ab}{k1 k2:Nat}{N G:[lC]}{x y:ae}{Q:[aX]}(D:[OE,f])(M:[PL])(k:[MD,f])(L:[S_,∀S i,lF S z l TO U i→[L1,kq,z,I,false]])(g:[zM,n,m,k1])(r:[zM,f,K,k2])(O:[wD,m,N])(j:[wD,K,G])(a:N[k1]?=Z x)(b:G[k2]?=Z y)(p:∀S i,[b9,lF S z l TO U i,S.IsListIter n m (k1+1),S.IsListIter f K (k2+1),[QX],S.objs.size=[jC]→((∀c o,[b9,c≠z,c≠n,c≠f,[iF,c]=Z o,[iv,c]=Z o])→Q [nG] [gX,S])]):[C2,[Pd],λ C d=>∃v,C=.done (.ret v)∧Q v d]:=by
 rw[101,field (.ref z) 2>>=_,_,[AD,M,.bool false,?_]];rw[91,field (.ref z) 3];rw[3,[AD,M,[io],?_],au (lT k J ?_)];rw[91,lO (.ref z)];rw[5,L _ λ P i R q=>?_];simp only[ki,iE];rw[5,?_];rw[←IY];simp only[sY,BJ];rw[5,au (k9 ?_)];rw[91,o4 (.ref n)];rw[5,IP (g.extBut q.extBut D.i1z) (O.extBut q.extBut D.l1z) a λ H T t=>aW ?_];rw[3,aW ?_,au (au (k9 ?_))];rw[91,o4 [dS]];rw[3,au (IP ((r.extBut q.extBut D.i2z).extBut t.extBut D.i12.symm) ((j.extBut q.extBut D.l2z).extBut t.extBut D.l2i1) b λ B W F=>aW ?_),aW (aW ?_)];rw[91,newTuple [x,y]];rw[5,SO (aW [de,?_])];have h:B.objs.size=s.heap.objs.size:=by rw[F.1,t.1,q.1]
 have X:lF B z l TO U i:=F.extBut _ _ D.i2z.symm (t.extBut _ _ D.i1z.symm R);have Y:B.IsListIter n m (k1+1):=T.extBut F.extBut D.i12;show Q (.ref B.objs.size) _;rw[h];refine p _ i (cG _ X) (Y.at λ o e=>cG _ e) (W.at λ o e=>cG _ e) ?_ (by rw[iR,h]) λ c o u c3 c4 e=>cG _ (F.extBut _ _ c4 (t.extBut _ _ c3 (q.extBut _ _ u e)))
 rw[←h];exact(dM _ J)
theorem Xr{U:ae}{V:Bool}{z l TO n d m K:ab}{k1 k2:Nat}{N G:[lC]}{Q:[pF,Fin]}(W:[xO])(D:[OE,d])(M:[PL])(j:[MD,d])(y:[S_,∀S f,lF S z l TO U f→[L1,kq,z,I,false]])(g:[zM,n,m,k1])(r:[zM,d,K,k2])(O:[wD,m,N])(i:[wD,K,G])(L:N[k1]?=none∨G[k2]?=none)(p:∀S e,(∀c o,[b9,c≠z,c≠n,c≠d,[iF,c]=Z o,[iv,c]=Z o])→[Ql]):[im,[Pd]]:=by
 rw[101,field (.ref z) 2>>=_,_,[AD,M,.bool false,?_]];rw[91,field (.ref z) 3];rw[3,[AD,M,[io],?_],au (lT j J ?_)];rw[91,lO (.ref z)];rw[5,y _ λ P f C k=>?_];simp only[ki,iE];rw[5,?_];rw[←IY];simp only[sY,BJ];rw[5,au (k9 ?_)];rw[91,o4 (.ref n)];cases a:N[k1]? with
  |none=>rw[5,R3 W (g.extBut k.extBut D.i1z) (O.extBut k.extBut D.l1z) a λ H e q R=>?_];exact p H e (λ c o u T t x=>q _ _ T (k.extBut _ _ u x)) R
  |some x=>
   have b:G[k2]?=none:=by rcases L with h|h;rw[a]at h;rw[6,h,h]
   rw[5,IP (g.extBut k.extBut D.i1z) (O.extBut k.extBut D.l1z) a λ H F q=>aW ?_];rw[3,aW ?_,au (au (k9 ?_))];rw[91,o4 [lx]];rw[5,R3 W ((r.extBut k.extBut D.i2z).extBut q.extBut D.i12.symm) ((i.extBut k.extBut D.l2z).extBut q.extBut D.l2i1) b λ B e v R=>?_];exact p B e (λ c o u T t x=>v _ _ t (q.extBut _ _ T (k.extBut _ _ u x))) R
def xa(h:aE)(z l TO:ab):Prop:=∃U V,lF h z l TO U V∧(U=.none∨∃T:Nat,U=f_ T)
theorem Nt{U:ae}{V:Bool}{z l TO:ab}(M:[PL])(F:U=.none∨∃T:Nat,U=f_ T):(∀(A:bP)(E:[aX])(I:[Be,aq]),I true s→[C2,lO (.ref z),I])∨(∀(A:bP)(E:[aX])(I:[Be,aq]),(∀S P,lF S z l TO U P→[L1,kq,z,I,false])→[C2,lO (.ref z),I]):=by
 rcases F with rfl|⟨T,rfl⟩;·left;intro A E I h;unfold lO;exact[AD,M,.none,aW h]
 ·cases q:[iF,T]with|none=>left;intro A E I h;unfold lO;rw[5,f7 M J (x:=f_ T) J ?_];rw[49,_,loadIfAlive [Fd,T]>>=_];rw[5,Nr ?_];rw[12,vy,q,aW h]|some o=>right;intro A E I h;unfold lO;rw[5,f7 M J (x:=f_ T) J ?_];rw[49,_,loadIfAlive [Fd,T]>>=_];rw[5,Nr ?_];rw[vy,q];rw[49,_,field (.ref z) 1>>=_];rw[5,f7 M J (x:=.bool V) J ?_];cases V with|true=>exact aW (h s.heap true M (Heap.SameBut.refl _ _))|false=>rw[49,_,BY (.ref z) 1 (.bool true)>>=_];exact au (sU M [al] λ S t g=>aW (h S true t g))
end
end PySem
end
section
namespace PySem
open Sem(wp)
open AutoSeq1(wpAny_loadPart')
def xb(z:ab):Obj:=[Ic,[AQ],[wl,#[.none,.bool false,.ref z,f_ 0,.none,.none]]]
theorem Xs(z l TO:ab):Meets (Builtin.«enumerate.__new__» [tN,[.type [AQ],.ref z]]) (λ _ R s=>IsZip s.heap z l TO .none∧R (.ok (.ret [nG])) [gX,[BT,xb z]]):=.of_wp λ prog w A R s h=>by
 obtain⟨a,g,d,G,b⟩:=s;obtain⟨M,h⟩:=h;have o:=sub_enumerate;wp_walk using wpAny_loadPart' M;refine wpAny_stack_any λ L=>aW ?_
 split
 ·rename_i c _ _ _ _ _;cases(c==SS [AQ]);·wp_walk using wpAny_loadPart' M,BI M;rw[22,_,h]
  ·wp_walk using wpAny_loadPart' M,BI M;rw[22,_,h]
 ·wp_walk using wpAny_loadPart' M,BI M;rw[22,_,h]
section
variable{prog:aY}{w:aU}{A:bP}{E:[aX]}{s:aq}
theorem Xt{z l TO:ab}{Q:[aX]}(M:IsZip s.heap z l TO .none)(h:Q [nG] [gX,[BT,xb z]]):[im,call (.type [AQ]) [.ref z]]:=by refine callType_new F.called_enumerate [bd] (F.typeCall_enumerate_1 _) (F.newCall_enumerate_1 _) (λ obj=>F.args_object_init_2 obj _) F.entry_enumerate_new (Xs z l TO) [qv,M];rw[0,[p_,dM _ J],h]
theorem Xu{z l TO n i m K:ab}{k1 k2:Nat}{N G:[lC]}{x y:ae}{Q:[aX]}(D:[OE,i])(R:xa s.heap z l TO)(t:[MD,i])(B:∃a b,fo s.heap TO a b)(g:[zM,n,m,k1])(r:[zM,i,K,k2])(O:[wD,m,N])(q:[wD,K,G])(d:N[k1]?=Z x)(h:G[k2]?=Z y)(p:∀S,[b9,xa S z l TO,∃a b,fo S TO a b,S.IsListIter n m (k1+1),S.IsListIter i K (k2+1),([QX])→S.objs.size=[jC]→(([NA,i,[iv,c]])→Q [nG] [gX,S])]):[im,o4 (.ref z)]:=by obtain⟨U,V,M,f⟩:=R;obtain⟨a,b,B⟩:=B;have Y:(s.TypeIs (.ref z) "zip"):=[p_,M];unfold o4;rw[5,[NS,Y,Jm,F.entry_zip_next,?_,F.args_zip_next_1 _]];rcases Nt (prog:=prog) (w:=w) M f with I|X;rw[2,Xn D M (I _ _) t B g r O q d h λ S v j k C L P W=>aW (p S ⟨_,_,v,.inr [rg]⟩ ⟨_,_,j⟩ k C L P W),Xq D M t (X _ _) g r O q d h λ S b' v k C L P W=>aW (p S ⟨_,_,v,f⟩ ⟨a,b,W _ _ D.TOz D.TOi1 D.TOi2 B⟩ k C L P λ c o u _ T H e=>W c o u T H e)]
theorem Xv{z l TO n f m K:ab}{k1 k2:Nat}{N G:[lC]}{Q:[aX]}(W:[xO])(D:[OE,f])(B:xa s.heap z l TO)(i:[MD,f])(j:∃a b,fo s.heap TO a b)(g:[zM,n,m,k1])(r:[zM,f,K,k2])(O:[wD,m,N])(h:[wD,K,G])(L:N[k1]?=none∨G[k2]?=none)(p:∀S e,([NA,f,[iv,c]])→[Ql]):[im,o4 (.ref z)]:=by obtain⟨U,V,M,d⟩:=B;obtain⟨a,b,j⟩:=j;have Y:(s.TypeIs (.ref z) "zip"):=[p_,M];unfold o4;rw[5,[NS,Y,Jm,F.entry_zip_next,?_,F.args_zip_next_1 _]];have q:A.in1.handled=none:=W;rcases Nt (prog:=prog) (w:=w) M d with H|v;rw[2,Xo q D M (H _ _) i j g r O h L p,Xr q D M i (v _ _) g r O h L λ S e k R=>p S e (λ c o u _ T t x=>k c o u T t x) R]
end
end PySem
end
section
namespace L2
open PySem PySem.Spec PyProof.Rows
def xc(K:aF)(a b:ab):It:=⟨λ i H=>∃(N G:[aK])(x y:V),[Ec,ax K H a N,b,G,N[i]?=Z x,G[i]?=Z y,[aw,dD y]],λ i H v m=>∃k O x y,[kw,v=.ref O,H k=none,H O=none,k≠O,m=ag [pD,H,k,x,y] O [Cf,.ref k],[Pv,ax],∀G,ax K H b G→G[i]?=Z y],λ i H=>∃N G:[aK],ax K H a N∧ax K H b G∧([CW,i]∨G.length≤i)⟩
structure Xw(e z l TO n c a b:ab):Prop where
 D:qM z l TO n c a b
 ez:e≠z
 Xx:e≠l
 Nu:e≠TO
 e1:e≠n
 e2:e≠c
 ea:e≠a
 eb:e≠b
theorem Xy{P:aY}{w:aU}{K:aF}{elts:[on]}{kk:Nat}{tpos:Pos}{a b e z r TO n m:ab}(D:Xw e z r TO n m a b):[KI,.Tuple elts kk tpos,xc K a b,[e,z,r,TO,n,m],e,[bn,∃C,IsEnum h e z [aV,i] C,xa h z r TO,fo h r (.ref n) (.ref m),∃x y,fo h TO x y,h.IsListIter n a i∧h.IsListIter m b i]]where
 mem:=[al]
 obj:=λ i h L c hc=>by obtain⟨⟨C,R⟩,⟨f0,b1,hz,_⟩,M,⟨x,y,N⟩,⟨o1,e1,_,d1⟩,⟨o2,e2,_,d2⟩⟩:=L;have j:c=e∨c=z∨c=r∨c=TO∨c=n∨c=m:=[aB,hc];rcases j with q|q|q|q|q|q;rw[40,q,[Ky,R],q,[Ky,hz]];rw[40,q,[Ky,M],q,[Ky,N]];rw[40,q,[Qg,o1,e1,d1],q,[Qg,o2,e2,d2]]
 keep:=λ i h h' L k=>by obtain⟨⟨C,R⟩,⟨f0,b1,hz,f⟩,M,⟨x,y,N⟩,h1,h2⟩:=L;rw[37,⟨C,(k e [al] _ R)⟩,⟨f0,b1,(k z [al] _ hz),f⟩,k r [al] _ M,⟨x,y,(k TO [al] _ N)⟩,h1.at λ o q=>(k n [al] o q),h2.at λ o q=>(k m [al] o q)]
 item:=by
  intro X hP hw hK hc i B s σ H E I f L hg;subst hP hw hK;obtain⟨⟨C,R⟩,hZ,M,N,h1,h2⟩:=L;obtain⟨xs,ys,x,y,V,Y,hx,hy,aH⟩:=hg;obtain⟨its,rv,p,_⟩:=I.list V;obtain⟨U,rv2,p2,_⟩:=I.list Y;obtain⟨u,hu,ru⟩:=rv.get hx;obtain⟨u2,hu2,ru2⟩:=rv2.get hy;have hT:(s.TypeIs (.ref e) [AQ]):=[p_,R];unfold kr;rw[5,Jv [NS,hT,IT,F.entry_enumerate_next,Xp (G:=λ t v=>[kw,v=[nG],xa t z r TO,∃a b,fo t TO a b,t.IsListIter n a (i+1),t.IsListIter m b (i+1),fo t s.heap.objs.size u u2,t.objs.size=[jC]∧[NA,m,t.get? c]]) R (λ Q' hq=>Xu D.D hZ M N h1 h2 p.isList p2.isList (x:=u) (y:=u2) [aB,hu] [aB,hu2] λ h' a1 a2 a3 a4 a5 a6 a7=>hq h' _ ⟨J,a1,a2,a3,a4,a5,a6,a7⟩) (λ t v g=>[ar,R,g.2.2.2.2.2.2.2 e _ D.ez D.Nu D.e1 D.e2 R]) (λ t v h' g he' ht hsz hk=>?_),F.args_enumerate_next_1 _]];obtain⟨rfl,g1,⟨ga,gb,g2⟩,g3,g4,g5,g6,g7⟩:=g;refine aW [de,wpAny_letOwnedTupleGo_enum (s:=[pp,h',s.toks+1]) he' λ S he'' sb=>?_];have hel:[sB,e]:=bR R;obtain⟨f0,b1,gz,gf⟩:=g1;have hzl:[sB,z]:=by obtain⟨_,_,q,_⟩:=hZ;exact bR q
  have hTIl:[sB,r]:=bR M;have hTOl:[sB,TO]:=by obtain⟨_,_,q⟩:=N;exact bR q
  have hi1l:[sB,n]:=by obtain⟨_,q,_⟩:=h1;exact bR q
  have hi2l:[sB,m]:=by obtain⟨_,q,_⟩:=h2;exact bR q
  have up:∀c o,c≠e→t.get? c=Z o→[iv,c]=Z o:=λ c o ce q=>[eY,sb.2,c,ce,hk c o ce q]
  have T1:[iv,s.heap.objs.size]=Z [Nl,#[u,u2]]:=up _ _ (g9 hel) g5;have T2:[iv,[jC]]=Z [Nl,#[.int i s.toks,.ref s.heap.objs.size]]:=by have q:=[eY,sb.2,t.objs.size,[ar,g6,g9 (o_ hel)],ht];rw[72,g6,q]
  have hn1:[LL,H]=none:=[Ek];have hn2:H [jC]=none:=[EQ,vL _];have new1:[Ig,H,s.heap.objs.size,[ii,x,y],t]:=⟨[rF,2,by rw[14,(! dD y)=true,aH];rfl],[u,u2],[zC,ru,ru2],[d9,_,g5,_,J]⟩;have I1:[jB,σ,[Ii,[ii,x,y]],[pp,t,s.toks]]:=I.Ab (ch:=[z,TO,n,m]) (λ c o d q=>g7 c o [wA] [wA] [wA] [wA] q) (λ c O=>f c (by
   have j:c=z∨c=TO∨c=n∨c=m:=by rw[88]
   rcases j with q|q|q|q<;>simp[q])) (ba _) new1
  have new2:[Ig,[Ii,[ii,x,y]],[jC],[Cf,[nG]],S]:=⟨[Bi],[.int i s.toks,[nG]],[zC,[rg],J],[d9,_,T2,_,J]⟩;have fpe:iY X B [Ii,[ii,x,y]] e:=by obtain⟨f0,f1,f2,f3,f4,f5⟩:=f e [al];rw[37,[b8,dY hel,f0],f1,f2,f3,f4,f5]
  have I2:[jB,σ,ag [Ii,[ii,x,y]] [jC] [Cf,[nG]],[pp,S,s.toks+1]]:=I1.Ab (ch:=[e]) (λ c o d q=>up c o [wA] q) (λ c O=>by
   have j:c=e:=by rw[88]
   rw[4,j,fpe]) (by rw[39,t.objs.size≤_,g6,ba _]) new2
  rw[47,.ref [jC],_,I2,[hJ,g6],⟨_,_,x,y,J,hn1,hn2,dY (qB _),J,λ l hl=>[ar,I.rh hl V,hx],λ l hl=>[ar,I.rh hl Y,hy]⟩,⟨[qv,[nG]],⟨f0,b1,up _ _ D.ez.symm gz,gf⟩,?_,⟨ga,gb,up _ _ D.Nu.symm g2⟩,g3.at λ o q=>up _ o D.e1.symm q,g4.at λ o q=>up _ o D.e2.symm q⟩,λ c O=>?_];·have e1:[aV,i+1]=[lG]+1:=[ac];rw[4,e1,he'']
  ·exact up _ _ D.Xx.symm (g7 _ _ D.D.TIz D.D.TITO D.D.TIi1 D.D.TIi2 M)
  ·have hlt:[sB,c]:=by
    have j:c=e∨c=z∨c=r∨c=TO∨c=n∨c=m:=by rw[88]
    rcases j with q|q|q|q|q|q<;>(rw[q];assumption)
   rw[12,ar (dY (o_ hlt)),ar (dY hlt),(f c O).1]
 done:=by
  intro X hP hw hK hc i B s σ H E I f L hg;subst hP hw hK;obtain⟨⟨C,R⟩,hZ,M,N,h1,h2⟩:=L;obtain⟨xs,ys,V,Y,hend⟩:=hg;obtain⟨its,rv,p,_⟩:=I.list V;obtain⟨U,rv2,p2,_⟩:=I.list Y;have l1:=rv.length;have l2:=rv2.length;have hen:its.toArray[i]?=none∨U.toArray[i]?=none:=by rcases hend with q|q;rw[48,by rw[18],by rw[18]]
  have hT:(s.TypeIs (.ref e) [AQ]):=[p_,R];have hh:X.A.handled=none:=I.ok.hd hc;have hh':X.A.in1.handled=none:=hh;unfold kr;rw[5,Jv [NS,hT,IT,F.entry_enumerate_next,?_,F.args_enumerate_next_1 _]];rw[91,field (.ref e) 2];rw[3,[AD,R,.ref z,?_],au (Xv hh' D.D hZ M N h1 h2 p.isList p2.isList hen λ h' x hk hx'=>?_)];obtain⟨o,ho,hcl⟩:=hx';rw[5,Sv (T:="StopIteration") (b:=true) ⟨o,ho,hcl⟩ isSubtype_stop ?_];exact aW [lu,I.Ms (t':=s.toks) (ch:=[z,TO,n,m]) (λ c o d q=>hk c o [wA] [wA] [wA] [wA] q) λ c O=>f c (by
   have j:c=z∨c=TO∨c=n∨c=m:=by rw[88]
   rcases j with q|q|q|q<;>simp[q])]
 self:=λ A i s Q E L h=>let⟨[gt,R],_⟩:=L;Jf R h
def Xz(K:aF)(T:TA):TI:=[K3,T,λ U c=>∃a b N G,(U=[[bi],.ref b]∧ax K c a N∧ax K c b G∧R (xc K a b) c)]
theorem XA{X:Cx}{e1 e2:bc}{T:TA}{p t W P y:Pos}{D:[on]}{kk:Nat}(hg:Gl X [AQ])(hm:X.mg [AQ]=none)(V:Gl X "zip")(K:X.mg "zip"=none)(ha:PA X [e1,e2] T)(Q:[oE,[Expr.Call (.Name "zip" t) [e1,e2] [] P]]=[[zA,.Call (.Name "zip" t) [e1,e2] [] P]]:=by rfl)(G:[oE,[e1,e2]]=[zA,e1]::[oE,[e2]]:=by rfl)(L:[aw,(g_ P [oE,[e2]]).any (·.1)]:=by rfl):PI X (.Tuple D kk y) (.Call (.Name [AQ] p) [(.Call (.Name "zip" t) [e1,e2] [] P)] [] W) (Xz X.K T):=by
 intro B s w H R I h;rw[41,Call_ (m_ I hg hm boot_enumerate (vp ?_ Q J)),Q];rw[3,vx ?_,Call_ (m_ I V K MD (vp (bj (ha P B s w H _ I h) λ us Y⟨vs,f,j,r1,q1⟩=>?_) G L))];obtain⟨a,b,xs,ys,ex,x,U,q⟩:=q1;subst ex;cases r1 with
  |cons r v=>
   cases v with
    |cons r' v=>
     cases v;rw[59,r,r'];obtain⟨its,rv,O,_⟩:=j.list x;obtain⟨F,rv2,t,_⟩:=j.list U;have A:a<Y.heap.objs.size:=O.lt;have u:b<Y.heap.objs.size:=t.lt;rw[3,call_zip_2 O.isList t.isList λ S M l m g d k C=>Bv ?_,Xt (s:=[Nb,S]) M (Jf (s:=[Nb,S.push (xb [pr,4])]) (e:=S.objs.size) (it:=[pr,4]) (i:=0) (old:=.none) (dM _ J) ?_)];have N:∀c o,[iv,c]=Z o→(S.push (xb [pr,4])).get? c=Z o:=λ c o q=>cG _ q
     have I2:[jB,w,f,[Nb,S.push (xb [pr,4])]]:=j.kept (t':=Y.toks) λ c o q=>N c o (C c o q)
     have AP:=PySem.W.ktu_apart Y.heap.objs.size a b A u;refine⟨S.objs.size,[S.objs.size,[pr,4],[pr,2],[pr,3],Y.heap.objs.size,[pr,1]],_,_,f,J,I2,Xy ⟨AP,[Ro],[Ro],[Ro],g9 [ar,k,Nat.lt_add_of_pos_right [bd]],[Ro],g9 (dG A [ar,k,vB _ _]),g9 (dG u [ar,k,vB _ _])⟩,⟨⟨.none,(dM _ J)⟩,⟨.none,false,N _ _ M,[db]⟩,N _ _ l,⟨_,_,N _ _ m⟩,g.at λ o q=>N _ o q,d.at λ o q=>N _ o q⟩,λ c E=>?_,q⟩;have e':c=S.objs.size∨c=[pr,4]∨c=[pr,2]∨c=[pr,3]∨c=Y.heap.objs.size∨c=[pr,1]:=[aB,E];have n:Y.heap.objs.size≤c:=by rcases e' with z|z|z|z|z|z<;>(rw[z];try rw[k]);all_goals omega
     exact j.oE n (j.aH.fresh n)
theorem XB{K:aF}{a b:ab}{xs ys:[aK]}{g:TG}{F:TS}{D:Ends}{w:St}{H:Hp}(P:[Cp])(I:P 0 w H)(X:∀i w H,P i w H→ax K H a xs∧ax K H b ys)(o:xs.length=ys.length)(d:∀y∈ys,[aw,dD y])(G:∀i x y u z w H,xs[i]?=Z x→ys[i]?=Z y→[wg,u,H z=none,u≠z,P i w H→g (.ref z) w (ag [pD,H,u,x,y] z [Cf,.ref u]) λ t M=>F [Ey,P (i+1)] t M])(f:[Om,xs.length]):[OF,xc K a b,∀l c,[Kw,l,c],∀x c,(xc K a b).j1 i H x c→g x w c λ t M=>F [Ey,N] t M]:=by
 rw[128,xs.length];obtain⟨n,j⟩:=X i w H p;by_cases s:i<xs.length;·have r:i<ys.length:=[ac];refine[zQ,⟨xs,ys,xs[i],ys[i],n,j,bX s,bX r,d _ (BC r)⟩,P (i+1),λ l c E=>[d9,xs.length-(i+1),[ac],s,E],λ v c k=>?_];obtain⟨u,z,x,y,rfl,C,B,q,rfl,A,h⟩:=k;exact G i x y u z w H (A xs n) (h ys j) C B q p
 ·have e:i=xs.length:=[ac];rw[121,⟨xs,ys,n,j,.inl (ba _)⟩,f w H p]
end L2
end
section
namespace L2
open PySem PySem.Spec PyProof.Rows
def Eb(X:Cx)(L:a9)(t:TS):Prop:=∀(s:aq)(w:St)(H:Hp)(D:Ends),(Inv X [] w H s→(t D w H→[f8,exec L X.env,SP X [] D,s]))
def Ai(X:Cx)(L:List a9)(t:TS):Prop:=∀(s:aq)(w:St)(H:Hp)(D:Ends),(Inv X [] w H s→(t D w H→[f8,execs L X.env,SP X [] D,s]))
theorem gi.uu{X:Cx}{L:List a9}{t:TS}(h:gi X L t):Ai X L t:=λ s w H D I q=>h [] s w H D I q
theorem XC{X:Cx}{L:a9}{B:List a9}{t u:TS}(g:Eb X L t)(r:Ai X B u):Ai X (L::B) (wj t u):=by intro s w H D I h;refine Sw (bj (g s w H {D with nx:=u D} I h) λ f Y q=>?_);cases f with|next=>obtain⟨a,m,S,q⟩:=q;exact r Y a m D S q|brk=>exact q|cont=>exact q|ret v=>exact q
abbrev XD(K:aF)(n:List (ab×TS))(D:Ends):XK:=λ c _ m=>∃C,c=[iH]∧∀a:St,rH K n C D a m
theorem XE{X:Cx}{B:List a9}{N:vH}{G:List vH}{ts:List (ab×TS)}{W:Pos}(q:TS)(b:X.pn=[])(a:X.ex=[])(e1:[FF])(E:nt X (N::G) ts)(K:∀D w H,q D w H→∃t,gi (X.iu λ e d=>XS X (XD X.K ts D) e d) B t∧t D w H):Eb X (.Try B (N::G) [] [] W) q:=λ s w H D I h=>let⟨_,g,r⟩:=K D w H h;W1 b a e1 g E I r
section
theorem XF{T:kA}{P:aY}{w:aU}{K:aF}{mg:[a_]}{base:aE}{k:Nat}{f:ab}{L h:Str}{D:vN}{B:List a9}{l:dR}{dV kV p pm j ct oc:ae}{an od:[ug]}{z:[C_]}{N c:[bj]}{sp:Sp}(lk:[pv,f]=Z ⟨oc,od,.func (km L h D B l dV kV p pm an j ct),z⟩)(F:sZ K j h=true)(S:bQ N c l)(W:[NW,c.length])(X:[TU,[OZ,h,l],Ai,gy T P w K mg base N h l f j A outer s H E,B]):aA P w K mg base T (k+1) f (km L h D B l dV kV p pm an j ct) c sp:=by
 refine⟨W,λ A outer s H args us U Q E a M hb r i=>?_⟩;have hl:=W _ _ _ _ i;have KX:K.In s.heap:=M.mod.tZ.keeps [Q_];have R:s.heap.NoLimit:=M.mod.nolimit.keeps [Q_];have Y:∀y∈c.zip us,[zP,y.1]=[wE]∨([zP,y.1]=[vh]∧([OY,[]].lookup y.1).isSome=true):=λ⟨n,v⟩hy=>by rcases S.par n (BG hy).1 with q|q;rw[2,.inl q,[jT,q,RB _ _ _ (.inl q)]]
 rw[3,codeAny_call_function a.depth (KX _ _ lk) rfl S.co S.gen rfl (PySem.W.codeRec_of KX F) (hb _ _ _ _ ?_),wpAny_newFunctionEnv_cells S.kind Y λ env he s1 x=>?_];subst he;refine⟨R.keeps x.toInCall.keep,codeAny_func ?_⟩;obtain⟨t,ht,hq⟩:=X A outer s H U Q E (a.deeper _) i;have I:Inv (gy T P w K mg base N h l f j A outer s H E) [] (start N U) H s1:=LQ S a.hd M hl r x;refine gG (ht s1 (start N U) H _ I hq) (λ fl d G=>?_) λ e d G=>G
 have C:∀{g:St}{m:Hp}{v:V}{u:ae},(Inv (gy T P w K mg base N h l f j A outer s H E) [] g m d→bw v u→Q v m→CE outer P w H s Q u d):=λ{g m v u}J O q=>⟨v,m,J.os,J.bare,J.base,J.aH,O,q⟩
 cases fl with|ret u=>obtain⟨v,g,m,J,O,q⟩:=G;exact C J O q|next=>obtain⟨g,m,J,q⟩:=G;exact C (v:=V.bh) (u:=Value.none) J rfl q|brk=>rw[149]|cont=>rw[149]
end
end L2
end
section
namespace VP
open PySem L2
def top(i:Nat):a9:=PySem.Challenge.pw_versestock_s01_next_row.main.body.getD i (.Pass ⟨0,0,0,0⟩)
abbrev qa:a9:=top 1
abbrev xf:a9:=[ib,10,0]
abbrev rK:a9:=top 11
abbrev uw:a9:=top 12
abbrev ux:a9:=top 13
abbrev xg:a9:=top 14
abbrev xh:a9:=top 15
abbrev xj:a9:=top 16
abbrev xk:a9:=[ib,18,0]
abbrev xl:a9:=[ib,18,1]
abbrev uy:a9:=[ib,18,2]
abbrev xm:a9:=[ib,18,3]
abbrev rL:a9:=top 19
abbrev xn:a9:=top 20
abbrev xp:a9:=top 21
abbrev qb:a9:=top 23
abbrev xq:a9:=top 24
abbrev uz:a9:=top 25
abbrev oN:a9:=top 26
abbrev rN:a9:=top 27
abbrev uC:a9:=top 28
abbrev uD:a9:=[ib,31,0]
abbrev xr:a9:=[ib,32,0]
abbrev uE:a9:=[ib,32,1]
abbrev xu:a9:=[ib,33,0]
abbrev uF:a9:=[ib,33,1]
abbrev xw:a9:=[ib,33,2]
abbrev rO:a9:=[ib,33,3]
abbrev xy:a9:=[ib,34,0]
abbrev xA:a9:=[ib,34,1]
abbrev rP:a9:=[ib,34,2]
abbrev uG:a9:=[ib,34,3]
abbrev rQ:a9:=[ib,34,4]
abbrev oO:a9:=[ib,34,5]
abbrev rT:a9:=[ib,34,6]
abbrev uH:a9:=top 53
abbrev xB:a9:=top 54
abbrev xC:a9:=top 55
abbrev xD:a9:=top 56
abbrev uI:a9:=top 57
abbrev xE:a9:=top 58
abbrev uJ:a9:=top 59
abbrev xF:a9:=top 60
abbrev uK:a9:=top 61
abbrev uL:a9:=top 62
abbrev xG:a9:=top 63
abbrev xH:a9:=[ib,71,0]
abbrev uN:a9:=[ib,71,1]
abbrev uO:a9:=[ib,71,2]
abbrev uP:a9:=[ib,71,3]
abbrev uQ:a9:=[ib,71,4]
abbrev xI:a9:=[ib,71,5]
abbrev uT:a9:=[ib,71,6]
abbrev xJ:a9:=[ib,71,7]
abbrev xK:a9:=[ib,71,8]
abbrev xM:a9:=[ib,71,9]
abbrev uU:a9:=top 75
abbrev rV:a9:=top 76
abbrev uV:a9:=[ib,77,0]
abbrev uW:a9:=[ib,77,1]
abbrev xN:a9:=[ib,77,2]
abbrev uX:a9:=[ib,77,3]
abbrev uY:a9:=[ib,77,4]
abbrev rW:a9:=[ib,77,5]
abbrev uZ:a9:=[ib,77,6]
abbrev u5:a9:=[ib,77,7]
abbrev rX:a9:=top 82
theorem XG:bQ [Lh] [Lh] (aZ xf):=[cj]
theorem Nv:bQ ["text","sign","most","parts"] [EV] (aZ uw):=[cj]
theorem XH:bQ [x_] [x_] (aZ xg):=[cj]
theorem Nw:bQ ["text","feet_count","parts"] [KG] (aZ xh):=[cj]
theorem Ny:bQ ["digits","most",[lf]] [Ly] (aZ xj):=[cj]
theorem XI:bQ [K6] [K6] (aZ xk):=[cj]
theorem XJ:bQ [Cg] [Cg] (aZ xl):=[cj]
theorem XM:bQ [Cg] [Cg] (aZ uy):=[cj]
theorem Nz:bQ [[ck],"needs","own"] [[ck],"needs"] (aZ xm):=[cj]
theorem NA:bQ ["shapes","sizes","most","alike",[lf],"traits",[pW],"place","shape","size","numbers","count"] [Il] (aZ rL):=[cj]
theorem ND:bQ [[pW],[xL],"kind"] [[pW]] (aZ xn):=[cj]
theorem NF:bQ [[pW],"runs","kind","bit"] [[pW]] (aZ xp):=[cj]
theorem NG:bQ ["hits","runs","spoiling","hit","left","bit"] [wf] (aZ qb):=[cj]
theorem XN:bQ [[lf]] [[lf]] (aZ xq):=[cj]
theorem NH:bQ ["hits","counts","hit","bit"] ["hits"] (aZ oN):=[cj]
theorem NI:bQ [[lf],"bits","rest"] [[lf]] (aZ rN):=[cj]
theorem XO:bQ [H_] [H_] (aZ uD):=[cj]
theorem XQ:bQ [HZ] [HZ] (aZ xr):=[cj]
theorem XR:bQ [OQ] [OQ] (aZ uE):=[cj]
theorem XT:bQ [Ln] [Ln] (aZ xu):=[cj]
theorem NJ:bQ [[ck],[xL],"left","room","lack","completion"] [A3] (aZ xw):=[cj]
theorem XU:bQ [Ke] [Ke] (aZ xy):=[cj]
theorem XW:bQ [Kb] [Kb] (aZ xA):=[cj]
theorem NK:bQ [[ck],"stand","key"] [iZ] (aZ rP):=[cj]
theorem NL:bQ [[ck],"known",[xL],"left","room","found"] [LN] (aZ rQ):=[cj]
theorem Aj:bQ [[ck],"known","barred","left","room","words","size",[lf],"target","kind","found"] [Nm] (aZ oO):=[cj]
theorem NM:bQ [[ck],"kind","target","barred","left","room","found"] [J_] (aZ rT):=[cj]
theorem NN:bQ [[rq],"word"] [[rq]] (aZ xB):=[cj]
theorem NO:bQ ["word","sounds","place"] [zt] (aZ xC):=[cj]
theorem NP:bQ ["word","place","letter"] [Nv] (aZ xD):=[cj]
theorem XX:bQ [xQ] [xQ] (aZ xE):=[cj]
theorem NQ:bQ [[AT],"count"] [[AT]] (aZ uJ):=[cj]
theorem XY:bQ [Ik] [Ik] (aZ xF):=[cj]
theorem XZ:bQ [IR] [IR] (aZ xG):=[cj]
theorem NR:bQ [[ck],"measure","foot","place"] [LT] (aZ xH):=[cj]
theorem X0:bQ [[ck]] [[ck]] (aZ uN):=[cj]
theorem X4:bQ [iZ] [iZ] (aZ uO):=[cj]
theorem NS:bQ [[ck],"stand","shape","key"] [ws] (aZ uP):=[cj]
theorem NT:bQ [[ck],"spot","weight",[B3],"spots","inner"] [La] (aZ xI):=[cj]
theorem NU:bQ [[ck],"spots","marks","ends","found","foot","place","rest","met","met_now","way"] [FD] (aZ uT):=[cj]
theorem X5:bQ [L6] [L6] (aZ xJ):=[cj]
theorem X6:bQ [K8] [K8] (aZ xK):=[cj]
theorem X7:bQ [L0] [L0] (aZ xM):=[cj]
theorem NV:bQ [[ck],"after","row","least",[lf]] [Ni] (aZ uW):=[cj]
theorem NW:bQ [[ck],"row","least","stands",[lf]] [Lp] (aZ xN):=[cj]
theorem NX:bQ [[ck],"row","stands","kind"] [vl] (aZ uZ):=[cj]
theorem NY:bQ [[ck],"stands","kind","behind","stand","target"] [Ia] (aZ u5):=[cj]
theorem NZ:bQ [Tx] [Kq] (aZ rX):=[cj]
theorem mu(a b:Nat):dQ [ap,a] [ap,b]=[aV,a&&&b]:=by unfold dQ;rw[[wh],[wh]];simp
theorem N1(a:Nat):Sj [ap,a]=-[ap,a]-1:=by unfold Sj;omega
theorem Ak(a b:Nat):pk [ap,a] [ap,b]=[aV,a|||b]:=by unfold pk;rw[N1,N1];unfold dQ;rw[[ol],[ol]];simp only[Sj];rw[66,(-(-[ap,a]-1)-1).toNat=a,[ac],(-(-[ap,b]-1)-1).toNat=b,[ac]];rw[e1,e2];omega
section
variable{P:aY}{w:aU}{K:aF}{mg:[a_]}{base:aE}
def N3:Sp:=λ U H Q _=>∃n:Nat,U=[.int n]∧1≤n∧Q [FH,n&&&(n-1)=0] H
theorem X8{f:ab}{v:bq}(F:kE K "has_one_bit" "has_one_bit" xq f v):aA P w K mg base aG 1 f v [[lf]] N3:=by
 rw[53,F.ok,XN,[EI]];·obtain⟨n,rfl,_⟩:=h;rfl
 obtain⟨n,rfl,g,q⟩:=h;rw[27,[rE,lA e_ (cj lz (pv 0) (cj ly (pv 0) bu)) bu (ck _)]];refine⟨_,J,_,J,_,_,J,J,_,_,J,J,J,?_⟩;have e:dQ [cQ] ([cQ]-1)=[aV,n&&&(n-1)]:=by rw[←mu];congr 1;omega
 rw[14,Q (.bl [A5,dQ [cQ] ([cQ]-1)]) H,e];have e2:([A5,[aV,n&&&(n-1)]]=[aN,n&&&(n-1)=0]):=by rw[mh,dH];simp
 rw[4,e2,q]
end
end VP
end
section
namespace VP
open PySem L2
theorem jC{K:aF}{a:ab}{N:[aK]}{g:TG}{B:TT}{n:TE}{U:[ak]}{w:St}{h:Hp}{D:ab}{Q:[Dr]}(p:V→Bool)(f:V→V)(q:ax K h a N)(r:h D=none)(k:[CW,aQ])(G:∀(x:V)(H:Hp)(z:VK)(F:[Dr]),[b9,x∈N,ah h H,p x=true→z (f x) H,p x=false→F H,g x [z_] H λ l M=>wipe l U=[z_]∧B l M λ b L=>[qe,b,n l L z,F L]])(j:Q (ag h D (.aj ((N.filter p).map f)))):[Qr,[Qu,h,mf K a,∃s:[Dr],(∀d,s d→∃S,S<m∧W (i+1) S d)∧∀x d,(mf K a).j1 i H x d→g x [z_] d λ l M=>[K5,l,n,s [LZ],s L]]]:=by
 have sm:∀o,ah h (ag h D o):=λ o b u e=>[b8,aX e r,e]
 refine pW (K:=K) (a:=a) (xs:=N) (λ i H=>H=ag h D (.aj (((N.take i).filter p).map f))) [al] (λ i H _ e=>?_) (λ i x H A e=>?_) (λ H e=>?_);·subst e;exact(sm _).seq q
 ·subst e;have O:=[eJ,A];have v:N.take (i+1)=N.take i++[x]:=[jl,fH,A];refine G x _ _ _ (bt A) (sm _) (λ C=>⟨_,aw,?_,?_⟩) λ C=>?_
  ·rw[aC];have c:=nO p (N.take i);rw[jJ]at c;omega
  ·rw[iW,v,I0,cH];simp[C]
  ·rw[v,I0,cH];simp[C]
 ·subst e;rw[4,fZ,j]
abbrev nV(n:Nat):V:=.int [cQ]
abbrev aJ(l:[ak]):[aK]:=l.map nV
section
variable{P:aY}{w:aU}{K:aF}{mg:[a_]}{base:aE}
def cb(is:[ak]):[aK]:=is.map λ i=>nV (2^i)
def N4:Sp:=λ U H Q _=>∃n:Nat,U=[nV n]∧n<2^64∧∀(l:ab)(is:[ak]),[wg,l,∀i∈is,[LP,i],n≠0→is≠[],is.length≤64→Q [io] (ag H l (.aj (cb is)))]
theorem Ec{n i k:Nat}(h:n<2^k)(K:[LP,i]):i<k:=by apply kT;intro z;rw[98,Nat.testBit_lt_two_pow (dG h (vu [bd] (vA z))),K]
theorem bits_le{n:Nat}{is:[ak]}(h:n<2^64)(nd:is.Nodup)(K:∀i∈is,[LP,i]):is.length≤64:=by rw[56,[OD,[ul,64],nd,[rJ,Ec h (K x A)]],jI]
theorem X9{f:ab}{o:bq}(F:kE K "bits_of" "bits_of" rN f o):aA P w K mg base aG 1 f o [[lf]] N4:=by
 have nd:=NI.nd;rw[53,F.ok,NI,λ x A outer s H U Q E u h=>?_];·obtain⟨n,rfl,_⟩:=h;rfl
 obtain⟨n,rfl,hn,k⟩:=h;rw[27,[Es,1,fz aB,t9 dX [dU,rq,pv 0,bu] [At,2,cj lz (pv 0) (cj ly (pv 0) bu),j0 (mj nN sM sN pT (pv 1) (ak (cj ly (pv 0) (pv 2)) aB)),aN [ui,0,pv 2]]]];rw[3,⟨by rw[20,0≤aQ],λ l X=>?_⟩,CZ (λ c a=>∃(m:Nat)(is:[ak])(r:[dL]),[bn,c=[Z (nV m),[vW],r],a=ag H l (.aj (cb is)),is.Nodup,∀i∈is,[LP,i],(∀j,m.testBit j=true↔[LP,j]∧j∉is)∧(n≠0→m=0→is≠[])]) (λ c _=>match c with|[Z (.int m),_,_]=>m.toNat|_=>0) ⟨n,[],none,J,J,kj,[al],[al],λ g b=>[e9,b,g]⟩ ?_ ?_]
 ·rintro c a⟨m,is,r,rfl,rfl,C,z,N,y⟩;rw[61,J,_,J,?_];by_cases M:m=0
  ·have e:[aw,[wK,[zf,m]=(V.int 0)]]:=by rw[M];decide
   rw[13,e,[Al,k l is X z (λ h=>y h M) (bits_le hn C z)]]
  ·have e:[wK,[zf,m]=(V.int 0)]=true:=by rw[mh];rw[18]
   rw[13,e,aV ?_];obtain⟨i,g,b,d,p⟩:=Vs.K5 m M;have ea:[OV]=[aV,m&&&(m-1)]:=by rw[←mu];congr 1;omega
   have O:=(N i).mp g;have L:is.length≤64:=bits_le hn C z;refine⟨_,J,_,J,_,_,J,J,_,_,J,J,_,J,[Ed,aw],_,J,_,J,_,_,J,J,l,_,_,J,J,aw,?_,_,J,?_⟩;·unfold cb;rw[4,aC,eR L [bd]]
   ·have G:0<2^i:=Nat.two_pow_pos i;rw[15,⟨m&&&(m-1),is++[i],Z (nV (m&&&(m-1))),?_,?_,?_,?_,?_,?_⟩,?_];·rw[14,[Z (V.int [OV]),[j5,l],Z (V.int [OV])]=_,ea]
    ·rw[iW];show ag H l (.aj (cb is++[(V.int ([ap,m]-[OV]))]))=_;rw[62,[ap,m]-[OV]=[t9,i],[gL,ea]];unfold cb;rw[cH];rfl
    ·exact uk C O.2
    ·intro j t;rw[92,[gM,t],z j q];·rw[113];exact O.1
    ·intro j;rw[p,N];simp[and_assoc]
    ·intro _ _;simp
    ·show[OV].toNat<[Fd,m];rw[31,ea]
 ·rintro c a Q I D⟨v,g,b,B,e,q⟩;rw[37,v,g,b,B,e,D _ _ q]
theorem N5{x b:Str}{L:a9}{f:ab}{v:bq}{N a:[bj]}{k:Nat}{sp:Sp}{o:ae}(F:kE K x b L f v)(B:v.code=o)(S:bQ N a (aZ L))(n:[NW,a.length])(y:[TU,A.deeper (PyProof.Rows.envOfC b (aZ L) s.heap.objs.size f o),gi,(gy aG P w K mg base N b (aZ L) f o A outer s H E).jZ,jA L]):aA P w K mg base aG (k+1) f v a sp:=by
 obtain⟨r,g,kV,p,z,c,j,ct,d,rfl,lk,l⟩:=F.ex;rw[55,j=o,B];refine Dd lk l S n λ A outer s H U Q E u i=>?_
 obtain⟨t,h,q⟩:=y A outer s H U Q E u i;rw[1,t,h.jZ,q]
structure oP(base:aE)(mg:[a_])(v:bq)(c Pt:ab):Prop where
 code:v.code=.ref c
 hd:PySem.W.CodeHd base c Pt
 bm:base.BuiltinsAt mg Pt
 pg:b_≠Pt
def i4:Pos:=⟨127,27,127,50⟩
def iJ:Str:=(([NY]:Str)++".<locals>.")++[IN]
def eK(Pt:ab)(H m:Hp):Prop:=[C9,Pt,m b]
theorem eK.refl(Pt:ab)(H:Hp):eK Pt H H:=λ _ _ h _=>h
theorem eK.trans{Pt:ab}{H d M:Hp}(a:eK Pt H d)(b:eK Pt d M):eK Pt H M:=λ c o h n=>b c o (a c o h n) n
theorem jh{H m:Hp}{Pt:ab}{W:Pos}{q:Str}(t:[AV,H])(s:ah H m):[AV,m]:=by obtain⟨V,g,r,P⟩:=t;refine⟨V,s _ _ g,r,?_⟩;rcases P with h|⟨c,a,b⟩;rw[2,[m_],[vn,c,a,s _ _ b]]
def N6(K:aF)(Pt:ab):Sp:=λ U H Q _=>∃(a:ab)(T:[ak]),[bn,U=[rD],ax K H a (aJ T),T≠[],∀h∈T,h≠0∧h<2^64,df H Pt i4 iJ∧∀(i:Nat)(m:Hp),(([KF,i])→eK Pt H m→df m Pt i4 iJ→Q (nV (2^i)) m)]
structure Def(K:aF)(mg:[a_])(x:Str)(L:a9)(f:ab)(v:bq)(V:[bj]):Prop where
 fn:kE K x x L f v
 mg:mg x=Z [dS]
 b:Binds K v V []
structure el(mg:[a_]):Prop where
 max:mg "max"=none
 min:mg "min"=none
 len:mg "len"=none
 any:mg "any"=none
 all:mg "all"=none
 list:mg "list"=none
 tuple:mg "tuple"=none
 set:mg "set"=none
 sorted:mg "sorted"=none
 sum:mg "sum"=none
 range:mg "range"=none
 enumerate:mg [AQ]=none
 zip:mg "zip"=none
 reversed:mg "reversed"=none
 isinstance:mg "isinstance"=none
 ord:mg "ord"=none
 str:mg "str"=none
theorem ah.aT{H m:Hp}{d:ab}{o:HO}(s:ah H m)(h:H d=none):ah H (ag m d o):=λ b u e=>[b8,aX e h,s b u e]
theorem xO{c:Type}[[DV,c]]{Y:List (c×V)}{k:c}{v:V}{p:c×V}(h:p∈cD Y k v):p=(k,v)∨p∈Y:=by
 unfold cD at h;split at h
 ·obtain⟨q,D,e⟩:=[bp,h];split at e;·rename_i z;subst e;rw[4,z,[db]]
  ·subst e;exact .inr D
 ·rw[135,h,.inr h];·rw[16];rw[21,h]
theorem xP{c:Type}[[DV,c]]{Y:List (c×V)}{k:c}(v:V)(hn:[ML]):((cD Y k v).map (·.1)).Nodup:=by
 cases e:cn Y k with
  |none=>exact WI v hn e
  |some u=>
   unfold cD;have C:=wY e;rw[aI];·rw[cP];rw[97,((λ x:c×V=>x.1)∘λ kv:c×V=>[Kv,k,v])=λ x=>x.1,by funext x;simp only[Function.comp];split<;>rfl,hn]
   ·obtain⟨p,R,e⟩:=[bp,C];exact[QQ,e]
theorem X_{c:Type}[[DV,c]](Y:List (c×V))(k:c)(v:V):cD Y k v≠[]:=by intro z;rw[96,rF Y k k v,z,aI J];cases this
def rY(T:[ak])(Y:[mh]):Prop:=[ML]∧∀p∈Y,∃(i:Nat)(z:Int),p.1=[wW,i]∧p.2=.int z∧[KF,i]
theorem rY.len{T:[ak]}{Y:[mh]}(h:rY T Y)(W:∀h∈T,h≠0∧h<2^64):[AU,64]:=by have:=[OD,[wv,64,λ i=>([wW,i]:Key)],h.1,by obtain⟨p,R,rfl⟩:=[bp,A];obtain⟨i,z,e1,e2,g,j,K⟩:=h.2 p R;exact[Do,i,[rJ,Ec (W g j).2 K],e1.symm]];rw[aC,aC,jI]at this;rw[58]
theorem rY.put{T:[ak]}{Y:[mh]}(h:rY T Y){i:Nat}{z:Int}(K:[KF,i]):rY T (cD Y [wW,i] (.int z)):=by refine⟨xP _ h.1,[ro]⟩;rcases xO R with rfl|R;rw[2,[d9,i,z,J,K],h.2 p R]
theorem Ed{l:[ak]}{i:Nat}{y:V}(h:(aJ l)[i]?=Z y):∃n,l[i]?=Z n∧y=nV n:=by rw[cJ]at h;cases e:l[i]? with|none=>rw[44,e]|some n=>rw[e]at h;rw[22,n,[nr,h]]
theorem Al{l:[ak]}{i:Nat}{y:V}(h:(cb l)[i]?=Z y):∃n,l[i]?=Z n∧y=nV (2^n):=by unfold cb at h;rw[cJ]at h;cases e:l[i]? with|none=>rw[44,e]|some n=>rw[e]at h;rw[22,n,[nr,h]]
theorem Ya{f fb c Pt:ab}{fd U:bq}(D:[OR,f,fd])(Db:[gh,"bits_of",rN,fb,U,[[lf]]])(B:el mg)(O:oP base mg fd c Pt):aA P w K mg base aG 3 f fd ["hits"] (N6 K Pt):=by
 have nd:=NH.nd;have G:aA P w K mg base aG 1 fb U [[lf]] N4:=X9 Db.fn;refine N5 D.fn O.code NH [L9] (λ A outer s H vs Q E hr h=>?_);·obtain⟨a,T,rfl,_⟩:=h;rfl
 obtain⟨a,T,rfl,hS,hne,hh,hT,k⟩:=h;rw[89];have LX:w8 (gy aG P w K mg base ["hits","counts","hit","bit"] [NY] (aZ oN) f (.ref c) A outer s H E).jZ c Pt:=⟨J,O.hd,O.bm,O.pg⟩;rw[27,[No,1,gq J,wO,[y8,[Cq,pv 0,2,[Cq,[Co,G,hr.mono [bd],Db.mg,Db.fn.kp,Db.b,2],3,nk hu (pv 1) (pv 3) [zZ,Mr hu (pv 1) (pv 3) bu [em,J,J,J]] J]],WT (i:=1) (cel:=0) hr J (pv 1) LX J B.max J J J [bE] J J J J (λ _ _ _ _ _ _=>J)]]];intro d r;have nPt:d≠Pt:=λ z=>by obtain⟨ps,h1,_⟩:=hT;subst z;rw[h1]at r;cases r
 rw[61,a,J,[gt,[mt,r].seq hS],[m6,iZ,a,aJ T,λ i m M=>∃(Y:[mh])(v2 C:[dL]),[bn,m=[[lm],Z [lx],v2,C],ah H M,M d=Z (.dK Y),rY T Y,0<i→Y≠[]],⟨[],none,none,J,[mt,r],aw,⟨kj,[al]⟩,[al]⟩,λ i m M _⟨_,_,_,_,x,_⟩=>x.seq hS]]
 ·rintro i y m M hi⟨Y,v2,C,rfl,x,F,q,hn⟩;obtain⟨n,hn1,rfl⟩:=Ed hi;have I:=bt hn1;rw[61,n,J,(hh n I).2,λ l is hl hb hnz hle=>?_];have X:d≠l:=aX F hl;rw[17,l,J,[nj,aw],[m6,iZ,l,cb is,λ j m L=>∃(Y:[mh])(C:[dL]),[bn,m=[[lm],Z [lx],Z (nV n),C],ah H L,L d=Z (.dK Y),L l=Z (.aj (cb is)),rY T Y∧(0<j→Y≠[])],⟨Y,C,J,(ah.aT x (x.free hl)),[b8,X,F],aw,q,[al]⟩,λ j m L _⟨_,_,_,_,_,e,_⟩=>(ax.of e)]]
  ·rintro j y m L hj⟨Y,C,rfl,s3,N,S,q,hn⟩;obtain⟨b,hb1,rfl⟩:=Al hj;have W:[KF,b]:=⟨n,I,hb b (bt hb1)⟩;have hz:∃z:Int,(cn Y [wW,b]).getD (.int 0)=.int z:=by cases e:cn Y [wW,b]with|none=>rw[0,0,J]|some u=>obtain⟨v,e1,e2⟩:=um (wY e);rw[e]at e1;cases e1;obtain⟨_,z,_,e3,_⟩:=q.2 _ e2;rw[0,z,e3]
   obtain⟨z,hz⟩:=hz;refine⟨_,J,d,J,.inl [gt,.inl N],_,J,_,eW.k (k:=[wW,b]) N,?_⟩;rw[13,hz,⟨z,1,J,J,_,J,_,J,d,_,J,jf.k (k:=[wW,b]) N (eR (q.len hh) [bd]),?_⟩];exact⟨_,_,J,(ah.aT s3 r),aw,[b8,X.symm,S],q.put W,λ _=>X_ _ _ _⟩
  ·rintro m L⟨Y,C,rfl,s3,N,S,q,hn⟩;refine⟨Y,_,C,J,s3,N,q,λ _=>hn ?_⟩;unfold cb;rw[4,aC,[CB,hnz (hh n I).1]]
 ·rintro m M⟨Y,v2,C,rfl,x,F,q,hn⟩;have R:0<[fy,aJ,T]:=[ov,[CB,hne]];refine⟨_,J,d,Y,J,J,F,hn R,λ p hp=>?_,nPt,jh hT x,λ H' key v g t hm=>?_⟩;·obtain⟨_,z,_,e,_⟩:=q.2 p hp;rw[0,z,e]
  ·obtain⟨i,z,e1,e2,hb⟩:=q.2 _ hm;have e1:key=[wW,i]:=e1;subst e1;exact k i H' hb (λ b o e nb=>g.old b o (x b o e) nb) t
end
end VP
end
section
namespace VP
open PySem L2
theorem N7{K:aF}{H:Hp}:∀l:[ak],ml K H (aJ l) [P7]|[]=>.nil|n::l=>(.cons (.int _) (N7 l))
theorem shaped_ints(l:[ak]):jL (.list [P7])=true:=by
 have h:o9 [P7]=true∧pd [P7]=0:=by induction l with|nil=>rw[0,J,J]|cons n l T=>rw[bO,o9,pd,T.1,T.2];rw[0,J,J]
 unfold jL;rw[vE,PyData.depth,h.1,h.2];rfl
theorem ne_nil{K:aF}{H:Hp}{a b:ab}{l:[ak]}{Q:VK}(g:ax K H a (aJ l))(r:ax K H b [])(q:Q (.bl (! l.isEmpty)) H):L8 K [bi] (.ref b) H Q:=by rw[47,_,.list [],.aj g (N7 l),.aj r .nil,shaped_ints l,shaped_ints [],?_];cases l with|nil=>exact q|cons n l=>exact q
def kG(H:Hp)(r:ab)(I:[dj])(D:[Da]):Prop:=(∃Y,H r=Z (.dK Y)∧∀i,D i→cn Y [wW,i]=Z (nV (I i)))
theorem kG.keep{Pt:ab}{H m:Hp}{r:ab}{I:[dj]}{D:[Da]}{W:Pos}{q:Str}(R:kG H r I D)(t:[AV,H])(k:eK Pt H m):kG m r I D:=by obtain⟨Y,g,a⟩:=R;obtain⟨V,l,_⟩:=t;rw[1,Y,k r _ g [oB,g,l],a]
theorem kG.same{H m:Hp}{r:ab}{I:[dj]}{D:[Da]}(R:kG H r I D)(k:ah H m):kG m r I D:=by obtain⟨Y,g,a⟩:=R;rw[1,Y,k r _ g,a]
def Ee(I:[dj])(D:[Da])(h:Nat):Prop:=h≠0∧h<2^64∧∀i,h.testBit i=true→D i∧[tY,I i,i]
def Ef:[bj]:=["hits","runs","bits","bit","run","hit"]
theorem N8:bQ Ef [wf] (aZ uz):=[cj]
def N9(K:aF)(Pt:ab):Sp:=λ U H Q _=>∃(a r:ab)(T:[ak])(I:[dj])(D:[Da]),[kw,U=[[bi],.ref r],H a=Z (.aj (aJ T)),T.length≤aQ,kG H r I D,∀h∈T,Ee I D h,df H Pt i4 iJ,∀(l:ab)(S:[ak])(m:Hp),[wg,l,m l=Z (.aj (cb S)),S.length≤64,[b9,∀s∈S,[KF,s],∀h∈T,[Er,S]≠0,eK Pt H m,df m Pt i4 iJ,Q [io] m]]]
theorem xQ(I:[dj])(S:[ak])(b:Nat):[oW,S++[b]]=[oW,S]|||I b:=by unfold Vs.cT;rw[qz];rfl
theorem Eg{a b c:Nat}:a&&&(b|||c)=0↔a&&&b=0∧a&&&c=0:=by
 rw[34,Nat.and_or_distrib_left];·intro h;rw[0,Nat.eq_zero_of_le_zero (h▸Nat.left_le_or),Nat.eq_zero_of_le_zero (h▸Nat.right_le_or)]
 ·rintro⟨g,r⟩;rw[g,r];rfl
def oQ(r:Nat):V→Bool|.int z=>[aN,dQ z [ap,r]=0]|_=>false
theorem filter_free(r:Nat)(l:[ak]):((aJ l).filter (oQ r)).map id=aJ (l.filter [LA,r]):=by
 induction l with
  |nil=>rfl
  |cons n l T=>
   have e:(oQ r (nV n)=[aN,n&&&r=0]):=by show[aN,dQ [cQ] [ap,r]=0]=_;rw[mu,dH];simp
   show((nV n::aJ l).filter (oQ r)).map id=_;rw[qA,qA,e];split;·rw[bO,T];rfl
   ·exact T
theorem eK.free{Pt:ab}{H m:Hp}{p:ab}{W:Pos}{q:Str}(k:eK Pt H m)(t:[AV,m])(h:m p=none):H p=none:=by
 obtain⟨V,l,_⟩:=t;cases e:H p with
  |none=>rfl
  |some o=>
   by_cases z:p=Pt;·subst z;rw[44,l]
   ·rw[44,k p o e z]
theorem eK.ag{Pt:ab}{H m:Hp}{p:ab}{o:HO}(k:eK Pt H m)(h:H p=none):eK Pt H (ag m p o):=λ b u e n=>[b8,aX e h,k b u e n]
theorem eK.same{Pt:ab}{H m:Hp}(s:ah H m):eK Pt H m:=λ b o e _=>s b o e
theorem Eh{H:Hp}{Pt p:ab}{W:Pos}{q:Str}{o:HO}(t:[AV,H])(h:H p=none):[AV,ag H p o]:=jh t [mt,h]
theorem Yb{H:Hp}{Pt p:ab}{W:Pos}{q:Str}{N G:[aK]}(t:[AV,H])(h:H p=Z (.aj N)):[AV,ag H p (.aj G)]:=by rw[168,[oB,g,h],[oB,b,h]]
theorem Ei(z:Int):([A5,z]=[aN,z=0]):=by rw[mh,dH];simp
section
variable{P:aY}{w:aU}{K:aF}{mg:[a_]}{base:aE}
theorem Yc{f fc fb c Pt:ab}{fd N fdb:bq}(D0:[ln,"common_bits",uz,fd,[wf]])(D:[OR,fc,N])(Db:[gh,"bits_of",rN,fb,fdb,[[lf]]])(B:el mg)(LB:oP base mg N c Pt):aA P w K mg base aG 4 f fd [wf] (N9 K Pt):=by
 have nd:Ef.Nodup:=N8.nd;have G:aA P w K mg base aG 3 fc N ["hits"] (N6 K Pt):=Ya D Db B LB;rw[60,D0.fn.ok,N8];·obtain⟨a,r,T,I,Dm,rfl,_⟩:=h;rfl
 obtain⟨a,r,T,I,Dm,rfl,hS,hlen,hR,W,hT,k⟩:=h;rw[89];rw[46,[Es,2,fz aB,t9 dX [dU,V4 hr.units,pv 0,fz aB] [At,3,[Co,G,hr,D.mg,D.fn.kp,D.b,0],j0 [Qm,pv 2,3],[No,4,gq J,nj hu (pv 1) (pv 3) (λ _ _=>J),aN (ug (i:=0) (own:=[("hit",5)]) J nd J J (rD J J J J) (dj (pv 0)) [Ad,Ef,uz,"hit",5] [Lv,5] (λ _ _ _ _ _=>wF [dU,e_,cj lz (pv 5) (pv 4),bu]) (λ _ _ _ _ _=>pv 5))]]],[Fu,λ l hl=>?_]];have nla:l≠a:=(aX hS hl).symm;refine CZ (λ σ m=>∃(M:ab)(j S:[ak])(v3 v4 v5:[dL]),[bn,σ=[[bV,M],[bV,r],[vW],v3,v4,v5],eK Pt H m,df m Pt i4 iJ,m l=Z (.aj (cb S)),[kw,m M=Z (.aj (aJ j)),∀h∈j,h∈T∧[Er,S]=0,∀h∈T,h∈j∨[Er,S]≠0,S.Nodup,∀s∈S,[KF,s],j.length≤aQ,M≠l]]) (λ σ m=>match σ with|[lm]::_=>(match m a with|Z (.aj xs)=>xs.length|_=>0)|_=>0) ⟨a,T,[],none,none,none,J,(eK.refl Pt H).ag hl,Eh hT hl,aw,[b8,nla.symm,hS],λ h W=>⟨W,[bB,Vs.cT]⟩,λ h W=>.inl W,kj,[al],hlen,nla.symm⟩ ?_ ?_
 ·rintro σ m⟨M,j,S,v3,v4,v5,rfl,kp,tb,hl',C,b,h2,hnd,h3,hle,nal⟩;have h64:[M_]:=by rw[56,Vs.jT (r:=[ul,64]) hnd λ x hx=>by obtain⟨h,L,hb⟩:=h3 x hx;exact[rJ,Ec (W h L).2.1 hb],jI]
  rw[17,_,J,b7 _,λ p hp=>?_];have fp:=kp.free tb hp;have nlp:l≠p:=aX hl' hp;have nap:M≠p:=aX C hp;have O:ag m p (.aj []) l=Z (.aj (cb S)):=[b8,nlp,hl'];have F:ag m p (.aj []) M=Z (.aj (aJ j)):=[b8,nap,C];have kp1:eK Pt H [nF,m,p]:=kp.ag fp;have Y:df [nF,m,p] Pt i4 iJ:=Eh tb hp;refine ne_nil (ax.of F) (ax.of aw) [de,?_];by_cases o:j=[]
  ·subst o;refine[Al,k l S _ hl O h64 h3 (λ h L=>?_) kp1 Y];rcases h2 h L with z|z;·cases z
   ·exact z
  ·have ee:(! j.isEmpty)=true:=by cases j with|nil=>rw[8,J,o]|cons _ _=>rfl
   rw[13,ee,aV ⟨_,J,M,j,J,(ax.of F),o,λ h L=>⟨(W h (b h L).1).1,(W h (b h L).1).2.1⟩,Y,λ i H2 hi kp2 tb2=>?_⟩];obtain⟨g,hg,hb⟩:=hi;obtain⟨Di,ri⟩:=(W g (b g hg).1).2.2 i hb;obtain⟨ps1,tt1,_⟩:=id Y;have t:=kp2 l _ O [oB,O,tt1];have ha2:=kp2 M _ F [oB,F,tt1];have R:=kp1.trans kp2;obtain⟨kvs,hr2,hval⟩:=hR.keep hT R;have nrl:r≠l:=[oB,hr2,t];have hget:eW [QU] r (nV (2^i)) (Z (nV (I i))):=by rw[56,eW.k (H:=[QU]) (k:=[wW,i]) [b8,nrl,hr2],hval i Di]
   have hSq:ax K [QU] M (aJ j):=(ax.of [b8,nal,ha2]);refine⟨_,J,[Ed,t],_,J,l,_,_,J,J,t,?_,_,J,_,J,r,_,J,hget,_,J,M,J,[gt,hSq],λ Dn u=>jC (K:=K) (oQ (I i)) id hSq u [ov,hle] (λ x H3 Q1 Q2 hx _ q1 q2=>?_) ?_⟩;·unfold cb;rw[4,aC,eR h64 [bd]]
   ·rw[143,hx];refine⟨J,_,J,_,J,_,_,J,J,J,_,J,?_⟩;have e:[A5,dQ [cQ] [ap,I i]]=oQ (I i) (nV n):=Ei _;rw[14,[wO,[A5,dQ [cQ] [ap,I i]]],e];cases z:oQ (I i) (nV n)with|true=>exact aV [de,q1 z]|false=>exact a_ (q2 z)
   ·rw[filter_free];have X:l≠Dn:=aX aw u;have hDn2:H2 Dn=none:=by rw[ar X.symm]at u;exact u
    have gb:¬(g&&&I i=0):=Vs.jU.mpr ⟨i,hb,ri⟩;refine[qv,⟨Dn,j.filter [LA,I i],S++[i],_,_,_,J,?_,?_,?_,aw,?_,?_,?_,?_,?_,X.symm⟩];rw[2,(R.ag hl).ag (R.free tb2 hDn2),Eh (Yb tb2 t) u];·rw[ar X,aw];unfold cb;rw[cH];rfl
    ·intro h hm;have U:=[E4,hm];rw[57,[qv,(b h U.1).1],xQ,Eg.mpr ⟨(b h U.1).2,lR U.2⟩]
    ·intro h hm;rw[xQ];rcases h2 h hm with z|z;·by_cases y:h&&&I i=0;rw[48,[PF,z,bK y],λ q=>y (Eg.mp q).2]
     ·exact .inr λ q=>z (Eg.mp q).1
    ·refine uk hnd [zr];obtain⟨h',L,hb'⟩:=h3 i z;rw[8,(b g hg).2,Vs.jU.mpr [Ck,i,hb,Vs.tY I S i,⟨i,z,ri⟩]]
    ·intro s' hs';rcases[gM,hs']with z|z;·exact h3 s' z
     ·simp at z;subst z;rw[1,g,(b g hg).1,hb]
    ·exact bf (nO _ _) hle
    ·show(match(ag [QU] Dn (.aj (aJ (j.filter [LA,I i])))) Dn with|Z (.aj xs)=>xs.length|_=>0)<(match m M with|Z (.aj xs)=>xs.length|_=>0);rw[aw,C];show[fy,aJ,_]<[fy,aJ,_];rw[aC,aC];refine Nat.lt_of_le_of_ne (nO _ _) [zr];rw[45,(List.length_filter_eq_length_iff.mp z) g hg,gb (lR this)]
 ·rintro σ m Q Q' hq⟨v,b,h2,h3⟩;rw[17,v,b,h2,λ p hp=>?_];obtain⟨d,e,a1,a2,a3,a4,kk,ek,q⟩:=h3 p hp;exact⟨d,e,a1,a2,a3,a4,kk,ek,hq _ _ q⟩
end
end VP
end
section
namespace VP
open PySem L2
theorem N_{K:aF}{a:ab}{xs:[aK]}{g:TG}{F:TS}{D:Ends}{w:St}{H:Hp}(P:[Cp])(I:P 0 w H)(X:[Tp])(G:∀i x T w H,(xs[i]?=Z x→H T=none→P i w H→g (.ref T) w [pD,H,T,nV i,x] λ h M=>F [Ey,P (i+1)] h M))(d:[Om,xs.length])(c:[NF,xs]):[OF,wR K a,∀f b,[Kw,f,b],∀x b,(wR K a).j1 i H x b→g x w b λ h M=>F [Ey,N] h M]:=by
 rw[128,xs.length];have q:=X i w H O p;by_cases s:i<xs.length;·refine[zQ,⟨xs,xs[i],q,[bB,s],c _ (BC s)⟩,P (i+1),λ f b E=>[d9,xs.length-(i+1),[ac],s,E],λ v b y=>?_];obtain⟨T,x,e,Y,e2,y⟩:=y;subst e;subst e2;exact G i x T w _ (y xs q) Y p
 ·have e:i=xs.length:=[ac];rw[121,⟨xs,q,ba _⟩,d w H p]
theorem Oa(N:[aK])(k:Nat):[E7,N,[ap,k]]=N.drop k:=by
 unfold dB;rw[HT.wx,HT.wu,sO [gL,lQ]];rcases Nat.le_total k N.length with h|h;·rw[yJ h]
 ·rw[Jd h,IH (ba _),IH h]
theorem Yd(S:[ak])(k:Nat):(cb S).drop k=cb (S.drop k):=by unfold cb;rw[SD]
theorem Ye(a b:[ak]):cb a++cb b=cb (a++b):=by unfold cb;rw[cH]
theorem ov(a:[ak]):[cI,cb a,a.length]:=by unfold cb;rw[aC]
theorem Yf(S:[ak]):[NF,cb S]:=λ x A=>by obtain⟨i,_,rfl⟩:=[bp,A];rfl
theorem Yg(c:[aT]):[NF,[J5]]:=λ x A=>by obtain⟨i,_,rfl⟩:=[bp,A];rfl
def Ej:[bj]:=["bits","hits","runs","kept","index","bit","others","other","hit"]
theorem Ob:bQ Ej [My] (aZ uC):=[cj]
def Oc:Sp:=λ U H Q _=>∃(l a r:ab)(S T:[ak])(I:[dj])(D:[Da]),[bn,U=[[io],[bi],.ref r],H l=Z (.aj (cb S)),[M_],H a=Z (.aj (aJ T)),[bn,T.length≤aQ,kG H r I D,∀s∈S,D s,∀h∈T,[Er,S]≠0,∀(N:ab)(ks:[ak])(m:Hp),[wg,N,m N=Z (.aj (cb ks)),∀s∈ks,s∈S,(∀h∈T,[Er,ks]≠0)→(∀s∈ks,∃h∈T,∀d∈ks,d≠s→h&&&I d=0)→ah H m→Q (.ref N) m]]]
theorem Yh{I:[dj]}{S:[ak]}{h:Nat}:[Er,S]=0↔∀s∈S,h&&&I s=0:=by
 rw[7];·intro z s G;apply kT;intro y;obtain⟨x,a,b⟩:=Vs.jU.mp y;rw[8,z,Vs.jU.mpr [Ck,x,a,Vs.tY I S x,⟨s,G,b⟩]]
 ·intro z;apply kT;intro y;obtain⟨x,a,b⟩:=Vs.jU.mp y;obtain⟨s,G,c⟩:=(Vs.tY I S x).mp b;rw[8,z s G,Vs.jU.mpr ⟨x,a,c⟩]
def Od(r:Nat):V→V|.int z=>[FH,dQ z [ap,r]=0]|_=>.bh
theorem Yi(r:Nat)(l:[ak]):((aJ l).filter λ _=>true).map (Od r)=[yx,l.map [LA,r]]:=by rw[[Du],cP,cP];rw[43,iD λ n _=>?_,V.bl [aN,dQ [cQ] [ap,r]=0]=V.bl [aN,n&&&r=0]];congr 1;rw[mu,dH];simp
section
variable{P:aY}{w:aU}{K:aF}{mg:[a_]}{base:aE}
theorem Ek{X:Cx}:zG X .BitOr (jx (λ i j=>.int (pk i j))):=λ B s w H x y v u Q I a S h=>UZ U4 I a S h
theorem El{H:Hp}{r:ab}{I:[dj]}{D:[Da]}(R:kG H r I D){i:Nat}(O:D i):eW H r (nV (2^i)) (Z (nV (I i))):=by obtain⟨Y,g,a⟩:=R;rw[56,eW.k (k:=[wW,i]) g,a i O]
theorem Yj{f:ab}{fd:bq}(D0:[ln,"needed",uC,fd,[My]])(B:el mg):aA P w K mg base aG 1 f fd [My] Oc:=by
 have nd:Ej.Nodup:=Ob.nd;rw[60,D0.fn.ok,Ob];·obtain⟨l,a,r,S,v,I,Dm,rfl,_⟩:=h;rfl
 obtain⟨l,a,r,S,v,I,Dm,rfl,hL,U,hA,hlen,hR,hD,hcov,k⟩:=h;rw[89];rw[46,[Es,3,fz aB,eJ dX J (Mz J B.enumerate [gv,0]) [OU,4,5,oC] [No,6,gq J,bu,aK [Cq,cj wC (pv 3) (oH wz (pv 0) (nh [zZ,pv 4]) pQ),7,pO (i:=6) nd J (gq J) (nj hu (pv 2) (pv 7) (λ _ _=>J)) Ek] (aN [lA,iH [As,zV J,B.any,IB,jz (own:=[("hit",8)]) J nd (dj (pv 1)) [Ad,Ej,uC,"hit",8] (λ _ _ _ _ _=>[pL,8]) (λ _ _ _ _ _=>iv) (λ _ _ _ _ _=>lA e_ (cj lz (pv 8) (pv 6)) bu (ck _))],j0 [Qm,pv 3,5]])]],[Fu,λ O X=>?_]];have s0:ah H [nF,H,O]:=[mt,X];rw[47,_,J,l,_,J,[pc,s0,hL],N_ (K:=K) (a:=l) (xs:=cb S) (λ i c m=>∃(ks:[ak])(v4 v5 v6 F v8:[dL]),[kw,c=[[vW],[lm],[bV,r],[bV,O],v4,v5,v6,F,v8],ah H m,m O=Z (.aj (cb ks)),∀s∈ks,s∈S,ks.length≤i,∀h∈v,[Er,ks++S.drop i]≠0,∀s∈ks,∃h∈v,∀g∈ks++S.drop i,g≠s→h&&&I g=0]) ⟨[],none,none,none,none,none,J,s0,aw,[al],ba _,[aB,hcov],[al]⟩ (λ i c m _⟨_,_,_,_,_,_,_,g,_⟩=>[pc,g,hL]) ?_ ?_ (Yf S)]
 ·rintro i y T c d hi hT⟨ks,v4,v5,v6,F,v8,rfl,s1,N,C,L,c1,c2⟩;obtain⟨b,hb,rfl⟩:=Al hi;have hib:i<S.length:=[eJ,hb];have edrop:S.drop i=b::S.drop (i+1):=by rw[IA hib];congr 1;exact[L7,hb].2
  have nlT:O≠T:=aX N hT;have s2:ah H [pD,d,T,nV i,nV (2^b)]:=(ah.aT s1 (s1.free hT));have D:ag d T [ii,nV i,nV (2^b)] O=Z (.aj (cb ks)):=[b8,nlT,N];rw[3,⟨T,_,J,bM.of aw,J,_,_,J,_,_,J,J,?_⟩,⟨_,J,_,J,_,J,⟨_,_,J,J,_,J,l,_,J,[pc,s2,hL],λ p R=>⟨O,p,cb ks,[Qh],J,J,?_,aw,?_,λ u hp2=>?_⟩⟩⟩];rw[11,ar (aX D R),D];·have e1:=ov ks;have e2:=Dk (cb S) (Z ([lG]+1)) none;rw[ov]at e2;rw[4,e1,bf (Su (bf L (oa (dG hib U))) (bf e2 U)) [bd]]
  ·have eL:cb ks++[Qh]=cb (ks++S.drop (i+1)):=by rw[50,([lG]+1)=[aV,i+1]];rw[this,Oa,Yd,Ye]
   have eL':(λ i j=>(V.int (i+j))) [lG] 1=(V.int ([lG]+1)):=J;generalize Y:ks++S.drop (i+1)=rest at*;have hDr:∀s∈rest,Dm s:=λ s G=>by rw[←Y]at G;rcases[gM,G]with z|z;rw[2,hD s (C s z),hD s (RP z)]
   have hp1:d p=none:=by rw[56,R,ar (λ z=>by subst z;rw[aw]at R;cases R)]
   have s3:=ah.aT (o:=.aj [Qh]) s2 (s2.free R);have s4:=ah.aT (o:=.aj (cb rest)) s3 (s3.free hp2);have np2:O≠u:=aX [b8,aX D R,D] hp2;have hk4:ag (ag [pD,d,T,nV i,nV (2^b)] p (.aj [Qh])) u (.aj (cb rest)) O=Z (.aj (cb ks)):=by rw[12,ar np2,ar (aX D R),D]
   rw[14,∃a,(V.ref u)=(V.ref a)∧_,[dA,cb ks++[E7,cb S,(λ i j=>i+j) [lG] 1],cb rest,eL]];generalize hH4:ag (ag [pD,d,T,nV i,nV (2^b)] p (.aj [Qh])) u (.aj (cb rest))=H4 at*;have hp4:H4 u=Z (.aj (cb rest)):=[cE,hH4,aw];rw[17,u,J,[nj,hp4],[m6,iZ,u,cb rest,λ j c m=>∃F:[dL],c=[[vW],[lm],[bV,r],[bV,O],Z (nV i),Z (nV (2^b)),Z (nV [oW,rest.take j]),F,v8]∧m=H4,[we,F,J],λ j c m _⟨_,_,e⟩=>[ar,e,ax.of hp4]]]
   ·rintro j y c m hj⟨F,rfl,rfl⟩;obtain⟨t,ht,rfl⟩:=Al hj;rw[3,⟨_,J,_,J,_,J,r,_,J,El (hR.same s4) (hDr t (bt ht)),_,_,J,J,?_⟩,[we,Z (nV (2^t)),?_]];have e:pk [aV,[oW,rest.take j]] [aV,I t]=[aV,[oW,rest.take (j+1)]]:=by rw[Ak,fH,ht];rw[14,_=[aV,[oW,rest.take j++[t]]],xQ]
    rw[14,[_,_,_,_,_,_,Z (V.int (pk [aV,[oW,rest.take j]] [aV,I t])),_,_]=_,e]
   ·rintro c m⟨F,rfl,rfl⟩;rw[ov,fZ];have hA4:=s4 _ _ hA;rw[61,a,J,[nj,hA4],λ Dn M=>[Dv,Od [oW,rest],ax.of hA4,M,[ov,hlen],λ x H5 Q1 Q2 hx _ q1 q2=>?_]];·rw[143,hx];refine[lu,aV (B:=Q2 H5) ?_];refine⟨_,J,_,J,_,_,J,J,J,?_⟩;have:=q1 J;rw[39,Q1 (.bl [A5,dQ [cQ] [aV,[oW,rest]]]) _,Ei,this]
    ·rw[Yi];have s5:=ah.aT (o:=.aj [yx,v.map [LA,[oW,rest]]]) s4 (s4.free M);have nD:O≠Dn:=aX hk4 M;have hk5:ag m Dn (.aj [yx,v.map [LA,[oW,rest]]]) O=Z (.aj (cb ks)):=[b8,nD,hk4];refine[Dy,Dn,ax.of aw];have edr:ks++S.drop i=ks++b::S.drop (i+1):=by rw[edrop]
     cases ha:(v.map [LA,[oW,rest]]).any id with
      |true=>
       obtain⟨z,hz,ez⟩:=List.any_eq_true.mp ha;obtain⟨h,hh,e⟩:=[bp,hz];have e:[aN,[Er,rest]=0]=true:=[ar,e,ez];have hz:=Yh.mp (lR e);refine aV ⟨_,J,[Ed,hk5],_,J,O,_,_,J,J,hk5,?_,?_⟩;·rw[4,ov,eR (bf L (bf (oa hib) U)) [bd]]
       ·refine⟨ks++[b],_,_,_,_,_,J,(ah.aT s5 X),?_,?_,?_,?_,?_⟩;·rw[aw];unfold cb;rw[cH];rfl
        ·intro s G;rcases[gM,G]with y|y;·exact C s y
         ·simp at y;subst y;exact bt hb
        ·rw[dh];rw[18]
        ·rw[gZ];show∀h∈v,[Er,ks++b::S.drop (i+1)]≠0;rw[25,edr,c1]
        ·rw[gZ];show∀s∈ks++[b],∃h∈v,∀g∈ks++b::S.drop (i+1),g≠s→h&&&I g=0;intro s G;rcases[gM,G]with y|y;·rw[25,edr,c2 s y]
         ·simp at y;subst y;rw[24,h,hh,λ g W ne=>hz g ?_];rw[←Y];rcases[gM,W]with x|x;·exact lP _ x
          ·rcases[dE,x]with x|x;rw[2,[e9,x,ne],iQ _ x]
      |false=>
       refine a_ ⟨ks,_,_,_,_,_,J,s5,hk5,C,[ac],?_,?_⟩;·intro h hh z;rw[Y]at z;rw[45,(List.any_eq_false.mp ha) [aN,[Er,rest]=0] [jz,h,hh],this (bK z)]
       ·intro s G;obtain⟨h,hh,q⟩:=c2 s G;rw[41,⟨h,hh,λ g W=>q g ?_⟩,edr];rcases[gM,W]with x|x;rw[2,lP _ x,iQ _ (cp _ x)]
 ·rintro c d⟨ks,v4,v5,v6,F,v8,rfl,s1,N,C,L,c1,c2⟩;have e:ks++S.drop [fy,cb,S]=ks:=by rw[ov,List.drop_length,qD]
  rw[e]at c1 c2;rw[22,_,k O ks d X N C c1 c2 s1]
end
end VP
end
section
namespace VP
open PySem L2
def xR(Pt:ab):Sp:=λ U H Q _=>∃(a r:ab)(T:[ak])(I:[dj])(D:[Da]),[kw,U=[[bi],.ref r],H a=Z (.aj (aJ T)),T.length≤aQ,kG H r I D,∀h∈T,Ee I D h,df H Pt i4 iJ,∀(B:Nat)(m:Hp),(Vs.Cz I T B→eK Pt H m→df m Pt i4 iJ→Q (nV B) m)]
section
variable{P:aY}{w:aU}{K:aF}{mg:[a_]}{base:aE}
theorem Yk{f f1 f2 f3 fc fb c Pt:ab}{fd fd1 fd2 fd3 R fdb:bq}(D0:[ln,"spoilers",qb,fd,[wf]])(D1:[gh,"has_one_bit",xq,f1,fd1,[[lf]]])(D2:[gh,"common_bits",uz,f2,fd2,[wf]])(D3:[gh,"needed",uC,f3,fd3,[My]])(D:[OR,fc,R])(Db:[gh,"bits_of",rN,fb,fdb,[[lf]]])(B:el mg)(LB:oP base mg R c Pt):aA P w K mg base aG 5 f fd [wf] (xR Pt):=by
 have nd:=NG.nd;have G1:aA P w K mg base aG 1 f1 fd1 [[lf]] N3:=X8 D1.fn;have G2:aA P w K mg base aG 4 f2 fd2 [wf] (N9 K Pt):=Yc D2 D Db B LB;have G3:aA P w K mg base aG 1 f3 fd3 [My] Oc:=Yj D3 B;rw[60,D0.fn.ok,NG];·obtain⟨a,r,T,I,Dm,rfl,_⟩:=h;rfl
 obtain⟨a,r,T,I,Dm,rfl,hA,p,hR,W,hT,k⟩:=h;rw[89];rw[46,[No,2,gq J,bu,aK [Cq,pv 0,3,[lA,iH [Co,G1,hr.mono [bd],D1.mg,D1.fn.kp,D1.b,3],pO (i:=2) nd J (gq J) (nj hu (pv 1) (pv 3) (λ _ _=>J)) Ek]] (aK (ug (i:=4) (own:=[("hit",3)]) J nd J J (rD J J J J) (dj (pv 0)) [Ad,["hits","runs","spoiling","hit","left","bit"],qb,"hit",3] [Lv,3] (λ _ _ _ _ _=>wF [dU,e_,cj lz (pv 3) (pv 2),bu]) (λ _ _ _ _ _=>pv 3)) [y8,[Cq,[ED,G3,hr.mono [bd],D3.mg,D3.fn.kp,D3.b,[ED,G2,hr,D2.mg,D2.fn.kp,D2.b,pv 4,[gv,1]],[Am,pv 4,1]],5,pO (i:=2) nd J (gq J) (nj hu (pv 1) (pv 5) (λ _ _=>J)) Ek],pv 2])],[zH,a,[nj,hA],[m6,iZ,a,aJ T,λ i d m=>∃(u:[ak])(v:[dL]),d=[[lm],[bV,r],Z (nV [oW,u]),v,none,none]∧m=H∧∀s∈u,2^s∈T,[d9,[],none,J,[al]],λ i d m _⟨_,_,_,e,_⟩=>[ar,e,ax.of hA]]]]
 ·rintro i y d m hi⟨u,v,rfl,rfl,h1⟩;obtain⟨n,hn,rfl⟩:=Ed hi;have N:=bt hn;have aH:=W n N;refine⟨_,J,n,J,Nat.pos_of_ne_zero aH.1,_,J,?_⟩;by_cases z:n&&&(n-1)=0
  ·rw[bK z];obtain⟨b,eb,o⟩:=Vs.Uh aH.1 z;have g:=El hR (aH.2.2 b o).1;rw[←eb]at g;refine aV ⟨_,J,_,J,_,J,r,_,J,g,_,_,J,J,u++[b],Z (nV n),?_,J,?_⟩;·show[_,_,Z (V.int (pk [aV,[oW,u]] [aV,I b])),_,_,_]=_;rw[Ak,xQ]
   ·intro s G;rw[92,[gM,G],h1 s q];·rw[113];rw[25,eb,N]
  rw[11,bW z,a_ [d9,u,_,J,h1]]
 ·rintro d m⟨u,v,rfl,rfl,h1⟩;rw[61,a,J,[nj,hA],λ F L=>jC (K:=K) (oQ [oW,u]) id (ax.of hA) L [ov,p] (λ x H3 Q1 Q2 hx _ q1 q2=>?_) ?_];·rw[143,hx];refine⟨J,_,J,_,J,_,_,J,J,J,_,J,?_⟩;have e:[A5,dQ [cQ] [ap,[oW,u]]]=oQ [oW,u] (nV n):=Ei _;rw[14,[wO,[A5,dQ [cQ] [ap,[oW,u]]]],e];cases z:oQ [oW,u] (nV n)with|true=>exact aV [de,q1 z]|false=>exact a_ (q2 z)
  ·rw[filter_free];generalize X:(T.filter [LA,[oW,u]])=left;have M:∀h∈left,h∈T∧[Er,u]=0:=λ h N=>by rw[←X]at N;have:=[E4,N];rw[0,this.1,lR this.2]
   have C:left.length≤aQ:=[cE,X,bf (nO _ _) p];have s1:ah m (ag m F (.aj (aJ left))):=[cm,m,L];refine⟨_,J,_,J,F,r,left,I,Dm,J,aw,C,hR.same s1,λ h N=>W h (M h N).1,jh hT s1,λ l bs H2 hl hl2 h64 b1 b2 kp tb=>?_⟩;have hT1:=jh hT s1;obtain⟨ps,tt,_⟩:=id hT1;have hD2:H2 F=Z (.aj (aJ left)):=kp F _ aw [oB,aw,tt];have U:eK Pt m H2:=((eK.same s1).trans kp);refine⟨_,J,_,J,l,F,r,bs,left,I,Dm,J,hl2,h64,hD2,C,hR.keep hT U,λ s G=>?_,b2,λ l' ks H3 hl' S k1 k2 k3 s3=>?_⟩;·obtain⟨h,N,o⟩:=b1 s G;exact((W h (M h N).1).2.2 s o).1
   ·have Y:eK Pt m H3:=U.trans (eK.same s3);rw[17,l',J,[nj,S],[m6,iZ,l',cb ks,λ j d m=>∃v5:[dL],d=[[lm],[bV,r],Z (nV ([oW,u]|||[oW,ks.take j])),v,[bV,F],v5]∧m=H3,[we,none,?_],λ j d m _⟨_,_,e⟩=>[ar,e,ax.of S]]];·rw[14,_=[[j5,a],[j5,r],Z (nV ([oW,u]|||0)),v,[j5,F],none],Nat.or_zero];rfl
    ·rintro j y d H4 hj⟨v5,rfl,rfl⟩;obtain⟨t,ht,rfl⟩:=Al hj;have htb:=k1 t (bt ht);obtain⟨h,N,o⟩:=b1 t htb;rw[43,⟨_,J,_,J,_,J,r,_,J,El (hR.keep hT Y) ((W h (M h N).1).2.2 t o).1,_,_,J,J,Z (nV (2^t)),?_,J⟩,[_,_,Z (V.int (pk [aV,[oW,u]|||[oW,ks.take j]] [aV,I t])),_,_,_]=_];have e:ks.take (j+1)=ks.take j++[t]:=[jl,fH,ht];rw[Ak,e,xQ,Nat.or_assoc]
    ·rintro d H4⟨v5,rfl,rfl⟩;rw[ov,fZ];refine[de,k _ _ (Vs.Ui (S1:=u) (S2:=ks) (λ h N s G=>((W h N).2.2 s G).2) h1 (λ s G=>?_) (λ s G=>?_) (λ h N z=>?_) (λ x=>Vs.zl _ _ x)) Y (jh tb s3)]
     ·obtain⟨h,N,q⟩:=k3 s G;rw[17,h,(M h N).1,(M h N).2,λ x s' hx hs' O=>?_];rw[30,s',s];·rw[25,e,O]
      ·rw[8,q s' hs' e,Vs.jU.mpr ⟨x,hx,O⟩]
     ·obtain⟨h,N,q⟩:=b1 s (k1 s G);rw[1,h,(M h N).1,q]
     ·exact k2 h [cE,X,[PF,N,bK z]]
end
end VP
end
section
namespace VP
open PySem L2
theorem cY{names:[bj]}{f:Str}(h:f∉names):∀a:[aK],[zW,a].lookup f=none:=by induction names with|nil=>intro a;rfl|cons n names T=>intro a;cases a with|nil=>rfl|cons v a=>have g:f≠n:=(λ z=>h [ar,z,cq]);rw[mM,nY];rw[97,[aw,f==n],[KB,g],T (λ z=>h (cp _ z)) a]
theorem lk{names:[bj]}(nd:names.Nodup){i:Nat}{f:Str}(h:names[i]?=Z f)(a:[aK]):[zW,a].lookup f=a[i]?:=by
 induction names generalizing i a with
  |nil=>rw[16]
  |cons n names T=>
   have W:=[Az,nd];cases a with
    |nil=>simp
    |cons v a=>
     rw[mM,nY];cases i with
      |zero=>rw[102];simp
      |succ i=>
       have S:names[i]?=Z f:=by rw[51]
       have g:f≠n:=(λ z=>W.1 [cE,z,bt S]);rw[62,[aw,f==n],[KB,g]];simpa using T W.2 S a
theorem Yl{names:[bj]}(nd:names.Nodup){f:Str}{v:V}{a:[aK]}(h:names[a.length]?=Z f):fP f v [zW,a]=[zW,a++[v]]:=by
 induction names generalizing a with
  |nil=>rw[16]
  |cons n names T=>
   have W:=[Az,nd];cases a with
    |nil=>rw[102];simp[fP]
    |cons u a=>
     have S:names[a.length]?=Z f:=by rw[51]
     have g:¬n=f:=(λ z=>W.1 [ar,z,bt S]);rw[mM,nW,mM];unfold fP;rw[aD g,T W.2 S]
theorem Ym{names:[bj]}(nd:names.Nodup){f:Str}{v:V}{a:[aK]}{i:Nat}(h:names[i]?=Z f)(O:i<a.length):fP f v [zW,a]=[zW,a.set i v]:=by
 induction names generalizing a i with
  |nil=>rw[16]
  |cons n names T=>
   have W:=[Az,nd];cases a with
    |nil=>simp at O
    |cons u a=>
     rw[mM];cases i with
      |zero=>rw[102];unfold fP;rw[aI J];rfl
      |succ i=>
       have S:names[i]?=Z f:=by rw[51]
       have g:¬n=f:=(λ z=>W.1 [ar,z,bt S]);unfold fP;rw[aD g,T W.2 S (by rw[88])];rfl
theorem Oe(names:[bj])(a:[aK])(h:names.length≤100):[fy,names.zip,a]<1000:=[gL,yI]
structure bU(K:aF)(mg:[a_])(x:Str)(C:ab)(names:[bj]):Prop where
 cl:j2 K C
 na:∀(i:Nat)(f:Str),names[i]?=Z f→oF K C f
 mg:mg x=Z [iH]
 nd:names.Nodup
 fx:names.length≤100
structure bI(K:aF)(x q:Str)(m:Str)(L:a9)(C f:ab)(v:bq)(V:[bj]):Prop where
 fn:kE K x q L f v
 me:zR K C m f
 b:Binds K v V []
structure iM(K:aF)(q:Str)(L:a9)(C f:ab)(v:bq)(V:[bj]):Prop where
 fn:kE K [zY] q L f v
 ma:Mk K C f
 b:Binds K v V []
def fR:[bj]:=["numbers","shape","size","lowest","highest","bits"]
def oR(X sh:ab)(k:Vs.Kd):[aK]:=[.ref X,.ref sh,nV k.size,nV (2^k.place),nV (2^([pO]-1)),nV [zL]]
section
variable{P:aY}{w:aU}{K:aF}{mg:[a_]}{base:aE}
theorem dU{x f:Str}{C p W:ab}{names:[bj]}{vals:[aK]}{y:V}{i:Nat}{D:Ends}{w:St}{b:Hp}(T:bU K mg x C names)(O:w[i]?=Z (Z [cX]))(F:names[vals.length]?=Z f)(R:b p=[ff,C,[zW,vals]])(q:D.nx w (ag b p (.ins C W [zW,vals++[y]]))):cv i w b [TJ]:=⟨_,O,p,C,W,_,J,R,T.cl,T.na _ _ F,Oe _ _ T.fx,[ar,Yl T.nd F,q]⟩
theorem Yn{x f:Str}{C p W:ab}{names:[bj]}{vals:[aK]}{y:V}{i j:Nat}{D:Ends}{w:St}{b:Hp}(T:bU K mg x C names)(O:w[i]?=Z (Z [cX]))(F:names[j]?=Z f)(U:j<vals.length)(R:b p=[ff,C,[zW,vals]])(q:D.nx w (ag b p (.ins C W [zW,vals.set j y]))):cv i w b [TJ]:=⟨_,O,p,C,W,_,J,R,T.cl,T.na _ _ F,Oe _ _ T.fx,[ar,Ym T.nd F U,q]⟩
theorem iw{x f:Str}{C p W:ab}{names:[bj]}{a:[aK]}{v:V}{i j:Nat}{w:St}{H:Hp}{Q:VK}(T:bU K mg x C names)(O:w[i]?=Z (Z [cX]))(F:names[j]?=Z f)(R:H p=[ff,C,[zW,a]])(y:a[j]?=Z v)(q:Q v H):nc K (cv i) f w H Q:=⟨_,O,p,C,W,_,v,J,R,T.cl,T.na _ _ F,[ar,lk T.nd F,y],q⟩
def Of(C:ab):Sp:=λ U H Q _=>∃(p W X sh:ab)(k:Vs.Kd),[bn,U=[[cX],.ref X,.ref sh,nV k.size,nV k.place,nV k.count],H p=[ff,C,[]],1≤k.count,[pO]≤64,Q .bh (ag H p (.ins C W (fR.zip (oR X sh k))))]
theorem Og(n:Nat):[rc]*2^([cQ].toNat)=[t9,n]:=[al]
theorem Yo{f C:ab}{v:bq}(I:iM K "Kind.__init__" xk C f v [K6])(T:[CI,C]):aA P w K mg base aG 1 f v [K6] (Of C):=by
 rw[100,XI,λ a A outer s H U Q E u h=>?_];·obtain⟨p,W,X,sh,k,rfl,_⟩:=h;rfl
 obtain⟨p,W,X,sh,k,rfl,R,g,r,q⟩:=h;rw[54,[uh,pv 1],aK [uh,pv 2] (aK [uh,pv 3] (aK [uh,cj Lq bu (pv 4)] [O2,cj Lq bu (cj ly (cj gj (pv 4) (pv 5)) bu),cj ly (cj zK bu [er]) [er]]))];have M:[LO,fR.zip]:=[al];rw[M]at R;rw[3,[de,[FQ,R,[FQ,aw,dU T J J aw ⟨_,J,_,_,J,J,⟨[ac],[ac],[bd]⟩,dU T J J aw ⟨_,J,_,J,_,_,J,J,_,_,J,J,_,_,J,J,⟨by rw[20,[ap,0]≤[N7]-1],by rw[20,[N7]-1≤1000000],[bd]⟩,[zV,aw]⟩⟩]]],⟨_,J,p,C,W,_,_,J,aw,T.cl,[lD,4],[mj,4],_,_,J,J,.inl ⟨[bd],[bd]⟩,[LQ,T,3,aw,[zV,aw]]⟩];have b:[rc]*2^[Fd,k.place]=[t9,k.place]:=Og _;have c:[rc]*2^(([N7]-1).toNat)=[t9,[pO]-1]:=by rw[97,[N7]-1=[aV,[pO]-1],[ac],Og _]
 have d:[ap,2]*[t9,[pO]-1]-[t9,k.place]=[aV,[zL]]:=by unfold Vs.bS;show _=[aV,2*2^([pO]-1)-2^k.place];have:2^k.place≤2^([pO]-1):=[PB];omega
 rw[iW,iW,iW,iW,iW];show Q .bh (ag H p (.ins C W (fR.zip [.ref X,.ref sh,nV k.size,.int ([rc]*2^[Fd,k.place]),.int ([rc]*2^(([N7]-1).toNat)),.int ([ap,2]*([rc]*2^(([N7]-1).toNat))-[rc]*2^[Fd,k.place])])));rw[b,c,d];exact q
def u6(C:ab)(H:Hp)(p:ab)(X sh:ab)(k:Vs.Kd):Prop:=∃W,H p=[ff,C,fR.zip (oR X sh k)]
def Oh(C:ab):Sp:=[TN,[FH,T&&&[zL]=[zL]]]
theorem j5(a b:Nat):[C8,[zf,a]=[zf,b],a=b]:=by rw[mh,dH];rw[18]
theorem Yp{f C:ab}{v:bq}(I:[rf,"is_used_up","Kind.is_used_up",xl,C,f,v,[xL]])(T:[CI,C]):aA P w K mg base aG 1 f v [Cg] (Oh C):=by rw[169,XJ];rw[46,[rE,lA e_ (cj lz (pv 1) [er]) [er] (ck _)],[de,[LQ,T,5,R,[CH,T,5,R,[lu,?_]]]]];show Q [FH,(V.int [EJ])=[zf,[zL]]] H;rw[mu,j5];exact q
def Em(C:ab):Sp:=[TN,nV (T|||((T&&&[zL])+2^k.place))]
theorem Oi{f C:ab}{v:bq}(I:[rf,"taken_with",[PR],uy,C,f,v,[xL]])(T:[CI,C]):aA P w K mg base aG 1 f v [Cg] (Em C):=by rw[169,XM];rw[46,[rE,cj U3 (pv 1) (cj gj (cj lz (pv 1) [er]) [er])],[lc,_,J,_,[LQ,T,5,R,[CH,T,3,R,⟨_,_,J,J,_,_,J,J,?_⟩]]]];show Q (.int (pk [ap,t] ([EJ]+[t9,k.place]))) H;rw[mu,←Int.natCast_add,Ak];exact q
def Oj(C:ab):Sp:=[TN,nV (T-(T&&&[zL])+[Pe,T&&&[zL],2^([pO]-1)])]
theorem Yq{f C:ab}{v:bq}(I:[rf,"needs_with","Kind.needs_with",xm,C,f,v,"needs"])(T:[CI,C]):aA P w K mg base aG 1 f v [[ck],"needs"] (Oj C):=by
 rw[169,Nz];rw[46,[y8,bE (i:=2) Nz.nd J (aR J) (cj lz (pv 1) [er]),cj gj (cj ly (pv 1) (pv 2)) (wh [dU,rq,pv 2,bu] (cj U2 (pv 2) bu) [er])],[de,[CH,T,5,R,⟨_,_,J,J,_,J,_,J,_,_,J,J,_,J,J,_,J,?_⟩]]];have L:t&&&[zL]≤t:=Nat.and_le_left;have eb:[EJ]=[OW]:=mu _ _;by_cases z:t&&&[zL]=0
 ·have e:[aw,![A5,[EJ]]]:=by rw[eb,z];decide
  show[wO,![A5,[EJ]]];rw[e];rw[43,a_ [LQ,T,4,R,?_],Q (.int ([ap,t]-[EJ]+[t9,[pO]-1])) H];rw[eb];rw[aD [bB,z]]at q;have:[ap,t]-[OW]+[t9,[pO]-1]=[aV,t-(t&&&[zL])+2^([pO]-1)]:=[ac];rw[4,this,q]
 ·have e:(![A5,[EJ]])=true:=by rw[eb,mh];rw[18]
  show[wO,![A5,[EJ]]];rw[e];rw[43,aV ⟨_,J,_,_,J,J,(by show[ap,0]≤1;decide),_,_,J,J,?_⟩,Q (.int ([ap,t]-[EJ]+[EJ]/2^[Fd,1])) H];rw[eb];rw[aI z]at q;have:[ap,t]-[OW]+[OW]/2^[Fd,1]=[aV,t-(t&&&[zL])+(t&&&[zL])/2]:=by rw[20,[ap,t]-[OW]+[OW]/2=_]
  rw[4,this,q]
end
end VP
end
section
namespace VP
open PySem L2
def qc(H:Hp)(v:V)(fm:Vs.Form):Prop:=∃a y,v=[bi]∧H a=Z (.tup [nV fm.1,nV fm.2.1,.ref y])∧H y=Z (.tup (aJ fm.2.2))
def ji(H:Hp)(a:ab)(sh:Vs.Shape):Prop:=∃I fs,H a=Z [ii,nV sh.1,.ref I]∧(H I=Z (.tup fs)∧(Paired (qc H) fs sh.2))
def jk(H m:Hp):Prop:=[Mj,m]
theorem qc.mono{H m:Hp}(t:jk H m){v:V}{fm:Vs.Form}(h:qc H v fm):qc m v fm:=by obtain⟨a,y,e,g,r⟩:=h;rw[9,a,y,e,t _ _ g,t _ _ r]
theorem ji.mono{H m:Hp}(t:jk H m){a:ab}{sh:Vs.Shape}(h:ji H a sh):ji m a sh:=by obtain⟨I,fs,g,r,P⟩:=h;rw[9,I,fs,t _ _ g,t _ _ r,[su,P,z.mono t]]
theorem dF{H m:Hp}(s:ah H m):jk H m:=λ b N e=>s b _ e
structure jD(C:ab)(H:Hp)(ks:[d6])(aO:[aT]):Prop where
 len:aO.length=ks.length
 at_:∀(i:Nat)(k:Vs.Kd),[md]=Z k→∃p X sh,(aO[i]?=Z p∧u6 C H p X sh k∧H X=Z (.aj (aJ k.nums))∧ji H sh k.sh)
theorem jD.mono{C:ab}{H m:Hp}{ks:[d6]}{aO:[aT]}(k:jD C H ks aO)(s:ah H m):jD C m ks aO:=by rw[15,k.len,λ i d h=>?_];obtain⟨p,X,sh,g,⟨W,r⟩,P,w⟩:=k.at_ i d h;exact⟨p,X,sh,g,⟨W,s _ _ r⟩,s _ _ P,w.mono (dF s)⟩
def qd(ks:[d6])(T j:Nat):Nat:=[E6,ks[j]?,k,T|||((T&&&[zL])+2^k.place),T]
def xS(ks:[d6])(A:[ak]):Nat:=A.foldl (qd ks) 0
def eX(aO:[aT])(A:[ak]):[aK]:=A.map λ j=>(V.ref (aO.getD j 0))
theorem Ol{ks:[d6]}(S:[KO]):∀(A:[ak])(T:Nat)(t:Vs.bx),(Vs.IsT (Vs.dr ks) T t→(∀j∈A,[zm,j])→(∀j,t j+A.count j≤Vs.cF ks j)→Vs.IsT (Vs.dr ks) (A.foldl (qd ks) T) (λ j=>t j+A.count j))
 |[],T,t,Y,_,_=>[aB,Y]
 |j::A,T,t,Y,X,V=>by
  have U:=X j cq;have e:=bX U;have p:=V j;rw[RQ,Vs.qV e]at p;have g:=Vs.K2 S Y (Vs.iF e) [ym,t j<(ks[j]).count];have r:=Ol S A _ _ g (λ i O=>X i (cp _ O)) λ i=>by
   rw[38,V i,i8];unfold Vs.dn;by_cases z:i=j;·subst z;rw[82];rw[31,aI J]
   ·have D:¬(j=i):=λ q=>z q.symm
    simp[D]at this;rw[31,aD z]
  have e2:qd ks T j=T|||((T&&&Vs.bS (ks[j]).bl)+2^(ks[j]).place):=by unfold qd;rw[e]
  rw[i7,e2];have f:(λ i=>Vs.dn t j (t j+1) i+A.count i)=λ i=>t i+(j::A).count i:=by
   funext i;unfold Vs.dn;rw[i8];by_cases z:i=j;·subst z;rw[18]
   ·have D:¬(j=i):=λ q=>z q.symm
    simp[z,D]
  rw[f]at r;exact r
section
variable{P:aY}{w:aU}{K:aF}{mg:[a_]}{base:aE}
def En(K:aF)(C:ab):Sp:=λ U H Q _=>∃(a:ab)(ks:[d6])(aO:[aT])(A:[ak]),[Ec,U=[rD],a,eX aO A,jD C H ks aO,∀j∈A,[zm,j],Q (nV (xS ks A)) H]
theorem Om{aO:[aT]}{A:[ak]}{i:Nat}{y:V}(h:(eX aO A)[i]?=Z y):∃j,A[i]?=Z j∧y=(V.ref (aO.getD j 0)):=by unfold eX at h;rw[cJ]at h;cases e:A[i]? with|none=>rw[44,e]|some j=>rw[e]at h;rw[22,j,[nr,h]]
theorem Yr{f g C:ab}{v x:bq}(I:[ln,"taken_by",xn,v,[[pW]]])(M:[rf,"taken_with",[PR],uy,C,g,x,[xL]])(T:[CI,C]):aA P w K mg base aG 2 f v [[pW]] (En K C):=by
 have nd:=ND.nd;have G:aA P w K mg base aG 1 g x [Cg] (Em C):=Oi M T;rw[100,ND,λ k A outer s H U Q E u h=>?_];·obtain⟨a,ks,aO,l,rfl,_⟩:=h;rfl
 obtain⟨a,ks,aO,l,rfl,n,t,d,q⟩:=h;rw[46,[Es,1,bu,[Cq,pv 0,2,[ui,1,[pM,pv 2,T.cl,M.me,G,u,M.b,pv 1,aB]]]],[zH,a,[gt,n],[m6,iZ,a,eX aO l,λ i b m=>∃o:[dL],b=[[lm],Z (nV ((l.take i).foldl (qd ks) 0)),o]∧m=H,[we,none,J],λ i b m _⟨_,_,e⟩=>[ar,e,n]]]];·rintro i y b m O⟨o,rfl,rfl⟩;obtain⟨j,Y,rfl⟩:=Om O;have r:=d j (bt Y);obtain⟨p,X,sh,R,⟨W,c⟩,_,_⟩:=t.at_ j _ (bX r);have B:aO.getD j 0=p:=[jl,iB,R];rw[13,B,⟨_,J,p,W,_,J,c,[fz],_,J,p,X,sh,_,_,J,⟨W,c⟩,Z [cX],?_,J⟩];have e2:l.take (i+1)=l.take i++[j]:=[jl,fH,Y];rw[e2,qz];show _=[[j5,a],Z (nV (qd ks ((l.take i).foldl (qd ks) 0) j)),_];unfold qd;rw[bX r];rfl
 ·rintro b m⟨o,rfl,rfl⟩;have:[cI,eX aO l,l.length]:=by unfold eX;rw[aC]
  rw[this,fZ];rw[22,_,q]
def rZ(k:Vs.Kd)(b:Nat):Bool:=[ly,k.place,b]&&[aN,b<[pO]]
def runOf(ks:[d6])(b:Nat):Nat:=[E6,ks.find? (λ k=>rZ k b),k,2*2^b-2^k.place,0]
def xT(ks:[d6])(b:Nat):Prop:=∃(i:Nat)(k:Vs.Kd),[md]=Z k∧k.place≤b∧b<[pO]
theorem Oo{ks:[d6]}(S:[KO]){i b:Nat}{k:Vs.Kd}(C:[md]=Z k)(g:k.place≤b)(r:b<[pO]):runOf ks b=2*2^b-2^k.place:=by
 unfold runOf;cases e:ks.find? (λ k=>rZ k b)with
  |none=>have:=List.find?_eq_none.mp e k (bt C);simp[rZ,g,r]at this
  |some d=>
   have K:=List.find?_some e;obtain⟨G,w,m⟩:=gY (List.mem_of_find?_eq_some e);have Q:ks[G]?=Z d:=by rw[bX w,m]
   simp[rZ]at K;rw[83,S.uniq (Vs.iF Q) (Vs.iF C) K.1 K.2 g r];rw[C]at Q;cases Q;rfl
theorem Am{ks:[d6]}(S:[KO]){i b:Nat}{k:Vs.Kd}(C:[md]=Z k)(g:k.place≤b)(r:b<[pO])(x:Nat):[tY,runOf ks b,x]↔k.place≤x∧x≤b:=by rw[Oo S C g r,show 2*2^b=2^(b+1)by rw[31,vJ],Vs.Cr [ac]];omega
def Oq(K:aF)(C:ab):Sp:=λ U H Q _=>∃(a:ab)(ks:[d6])(aO:[aT]),[bn,U=[rD],ax K H a [JY],jD C H ks aO,[KO],[Dd,[pO]≤64]∧∀(r:ab)(m:Hp),[wg,r,kG m r (runOf ks) (xT ks),ah H m,([uj,m,b≠r,H b=Z o])→Q (.ref r) m]]
def r8(ks:[d6])(Y:[mh])(S:[Da]):Prop:=[ML]∧(∀p∈Y,∃b:Nat,p.1=[wW,b]∧b<64)∧∀b,S b→cn Y [wW,b]=Z (nV (runOf ks b))
theorem r8.len{ks:[d6]}{Y:[mh]}{S:[Da]}(h:r8 ks Y S):[AU,64]:=by have:=[OD,[wv,64,λ i=>([wW,i]:Key)],h.1,by obtain⟨p,R,rfl⟩:=[bp,A];obtain⟨b,e1,K⟩:=h.2.1 p R;exact[Do,b,[rJ,K],e1.symm]];rw[aC,aC,jI]at this;rw[58]
theorem Ys{a b:Nat}(h:(2:Nat)^a=2^b):a=b:=by
 rcases R9 a b with z|z|z;·rw[10,Br (a:=2) [bd] z]
 ·exact z
 ·rw[10,Br (a:=2) [bd] z]
theorem r8.put{ks:[d6]}{Y:[mh]}{S H:[Da]}(h:r8 ks Y S){c:Nat}(a:c<64)(d:∀b,H b→S b∨b=c):r8 ks (cD Y [wW,c] (nV (runOf ks c))) H:=by
 rw[24,xP _ h.1,[ro],[Fs]];·rcases xO R with rfl|R;rw[2,⟨c,J,a⟩,h.2.1 p R]
 ·rw[rF];by_cases z:b=c;·subst z;rw[aI J]
  rw[11,aD (λ q=>z (Ys (by rw[10,Sum.inl.inj q]))),h.2.2 b ((d b K).resolve_right z)]
theorem Yt{f C:ab}{fd:bq}(D0:[ln,"runs_of",xp,fd,[[pW]]])(T:[CI,C]):aA P w K mg base aG 1 f fd [[pW]] (Oq K C):=by
 have nd:=NF.nd;rw[60,D0.fn.ok,NF];·obtain⟨a,ks,aO,rfl,_⟩:=h;rfl
 obtain⟨a,ks,aO,rfl,hL,t,hS,M,k⟩:=h;rw[89];rw[27,[Es,1,wO,eJ dX J (dj (pv 0)) [pL,2] (aK [ui,3,[jh,2]] (aN (t9 dX [dU,iI,pv 3,[jh,2]] (aK (nk hu (pv 1) (pv 3) (cj ly (cj zK bu (pv 3)) [jh,2]) J) (aN [ui,3,cj zK bu (pv 3)])))))]];intro r S;have sm:∀o,ah H (ag H r o):=λ o=>[mt,S]
 rw[61,a,J,[gt,(sm _).seq hL],[m6,iZ,a,[JY],λ i c m=>∃(Y:[mh])(I B:[dL]),c=[[lm],[bV,r],I,B]∧m=ag H r (.dK Y)∧r8 ks Y λ b=>∃(j:Nat)(k:Vs.Kd),(j<i∧ks[j]?=Z k∧k.place≤b∧b<[pO]),⟨[],none,none,J,J,kj,[al],λ b⟨j,_,hj,_⟩=>[e9,hj,Nat.not_lt_zero _]⟩,λ i c m _⟨_,_,_,_,e,_⟩=>[ar,e,(sm _).seq hL]]]
 ·rintro i y c m O⟨Y,I,B,rfl,rfl,G⟩;have L:i<aO.length:=by rw[56,[eJ,O],aC]
  have U:[zm,i]:=[cE,t.len,L];have u:=bX U;obtain⟨p,nu,sh,hp,⟨dx,g⟩,_,_⟩:=t.at_ i _ u;obtain rfl:y=(V.ref p):=by rw[cJ,hp]at O;exact[nr,O]
  generalize ks[i]=N at*;have R:N∈ks:=bt u;have hct:1≤N.count:=hS.pos N.bl [jz,N,R];have h6:=M N R;have W:p≠r:=aX g S;have F:∀o,ag H r o p=Z [FB,fR.zip (oR nu sh N)]:=λ o=>[b8,W,g]
  rw[3,[CH,T,3,F _,?_],CZ (λ c m=>∃(Y:[mh])(b:Nat),[bn,c=[[lm],[bV,r],Z [cX],Z (nV (2^b))],m=ag H r (.dK Y),N.place≤b,b≤[JT],r8 ks Y λ x=>(∃(j:Nat)(k:Vs.Kd),(j<i∧ks[j]?=Z k∧k.place≤x∧x<[pO]))∨(N.place≤x∧x<b)]) (λ c _=>match c with|[_,_,_,Z (.int z)]=>2^65-z.toNat|_=>0) ⟨Y,N.place,J,J,ba _,[ac],G.1,G.2.1,λ x d=>G.2.2 x (d.resolve_right [ac])⟩ ?_ ?_]
  ·rintro c m⟨Y,b,rfl,rfl,b1,b2,G⟩;rw[33,[de,[CH,T,4,F _,[Dy,_,J]]],[t9,b]≤[t9,[JT]-1]];by_cases z:b<[JT]
   ·have hle:2^b≤2^([JT]-1):=[PB];have hb63:2^b≤2^63:=[PB];have hpos:0<2^b:=Nat.two_pow_pos b;have hpl:2^N.place≤2^b:=vu [bd] b1;rw[13,[wh],aV ⟨_,J,_,_,J,J,.inl ⟨[bd],[bd]⟩,[CH,T,3,F _,⟨_,_,J,J,_,J,_,J,r,_,J,jf.k (k:=[wW,b]) aw (eR G.len [bd]),_,J,_,_,J,J,.inl ⟨[bd],[bd]⟩,?_⟩]⟩];have ev:[ap,2]*[t9,b]-[t9,N.place]=[aV,runOf ks b]:=[gL,Oo hS u b1 z];have en:[ap,2]*[t9,b]=[t9,b+1]:=[gL,vJ];rw[15,⟨cD Y [wW,b] (nV (runOf ks b)),b+1,?_,?_,[ac],[ac],G.put [ac] λ x d=>?_⟩,?_];·rw[14,[[j5,a],[j5,r],[j5,p],Z (V.int ([ap,2]*[t9,b]))]=_,en]
    ·rw[iW];rw[14,ag H r (.dK (cD Y [wW,b] (V.int ([ap,2]*[t9,b]-[t9,N.place]))))=_,ev]
    ·rcases d with q|q;·rw[21,.inl q]
     ·by_cases y:x=b;rw[2,.inr y,.inl [jT,q.1,[ac]]]
    ·rw[20,2^65-([ap,2]*[t9,b]).toNat<2^65-[t9,b].toNat]
   ·rw[55,b=[JT],[ac]];have hlt:2^([JT]-1)<2^[JT]:=Br [bd] [ac];rw[13,[ol],a_ ⟨Y,_,_,J,J,G.1,G.2.1,λ x d=>G.2.2 x ?_⟩];obtain⟨j,l,hj,D,n,X⟩:=d;by_cases y:j<i;·rw[21,⟨j,l,y,D,n,X⟩]
    ·have:j=i:=[ac];subst this;rw[u]at D;rw[6,D,[jT,n,X]]
  ·rintro c m Q Q' hq⟨v,h1,x,h2,a,C',dx',fs,v',e1,e2,e3,e4,e5,i',j',e6,e7,l,e8,q⟩;exact⟨v,h1,x,h2,a,C',dx',fs,v',e1,e2,e3,e4,e5,i',j',e6,e7,l,e8,hq _ _ q⟩
 ·rintro c m⟨Y,I,B,rfl,rfl,G⟩;refine[de,k r _ S ⟨Y,aw,λ b hb=>G.2.2 b ?_⟩ (sm _) λ b o e nb=>by rw[ar nb]at e;exact e];obtain⟨i,N,g,n,X⟩:=hb;have:=[eJ,g];refine⟨i,N,?_,g,n,X⟩;rw[12,aC,t.len,this]
end
end VP
end
section
namespace VP
open PySem L2
def d7:[bj]:=["needs","words","size"]
def dI:[bj]:=[[xL],"words","size"]
def fU:[bj]:=["steps","completions","lacks"]
abbrev du:=Nat×[xP]
def r9(d:du):[aK]:=[nV d.1,nV d.2.1,nV d.2.2]
def fX(C:ab)(names:[bj])(H:Hp)(a:ab)(d:du):Prop:=∃W,H a=[ff,C,[zW,r9 d]]
theorem fX.mono{C:ab}{names:[bj]}{H m:Hp}{a:ab}{d:du}(h:fX C names H a d)(s:ah H m):fX C names m a d:=let⟨W,e⟩:=h;⟨W,s _ _ e⟩
def d8(C:ab)(names:[bj])(H:Hp)(c:[aT])(B:List du):Prop:=(Paired (fX C names H) c B)
theorem d8.mono{C:ab}{names:[bj]}{H m:Hp}{c:[aT]}{B:List du}(h:[KW,H])(s:ah H m):[KW,m]:=[su,h,z.mono s]
theorem d6{m e:Type}{R:[d0,m,e]}:∀{d:[li]}{S:List e},Paired R d S→∀{i:Nat}{a:m},d[i]?=Z a→∃b,S[i]?=Z b∧R a b|_,_,.nil,i,a,h=>by rw[16]|_,_,.cons r t,0,a,h=>by rw[102];rw[22,_,r]|_,_,.cons r t,i+1,a,h=>by obtain⟨b,g,c⟩:=d6 t (i:=i) (a:=a) (by rw[51]);rw[1,b,by rw[75],c]
theorem Eo{m e:Type}{R:[d0,m,e]}:∀{d:[li]}{S:List e},Paired R d S→∀{i:Nat}{b:e},S[i]?=Z b→∃a,d[i]?=Z a∧R a b|_,_,.nil,i,a,h=>by rw[16]|_,_,.cons r t,0,a,h=>by rw[102];rw[22,_,r]|_,_,.cons r t,i+1,a,h=>by obtain⟨b,g,c⟩:=Eo t (i:=i) (b:=a) (by rw[51]);rw[1,b,by rw[75],c]
section
variable{P:aY}{w:aU}{K:aF}{mg:[a_]}{base:aE}
def r_(C:ab)(names:[bj]):Sp:=λ U H Q _=>∃(p W:ab)(d:du),U=[cX]::r9 d∧H p=[ff,C,[]]∧Q .bh (ag H p (.ins C W [zW,r9 d]))
theorem Ot{f C:ab}{v:bq}(I:iM K [Pw] uD C f v [H_])(T:[Mz,C]):aA P w K mg base aG 1 f v [H_] (r_ C d7):=by
 rw[100,XO,[EI]];·obtain⟨p,W,d,rfl,_⟩:=h;rfl
 obtain⟨p,W,d,rfl,R,q⟩:=h;rw[54,[uh,pv 1],[O2,pv 2,pv 3]];have M:[LO,d7.zip]:=[al];rw[M]at R;refine[de,[FQ,R,[FQ,aw,[zV,aw]]]];rw[12,iW,iW,q]
theorem Ep{f C:ab}{v:bq}(I:iM K "Lack.__init__" xr C f v [HZ])(T:[M4,C]):aA P w K mg base aG 1 f v [HZ] (r_ C dI):=by
 rw[100,XQ,[EI]];·obtain⟨p,W,d,rfl,_⟩:=h;rfl
 obtain⟨p,W,d,rfl,R,q⟩:=h;rw[54,[uh,pv 1],[O2,pv 2,pv 3]];have M:[LO,dI.zip]:=[al];rw[M]at R;refine[de,[FQ,R,[FQ,aw,[zV,aw]]]];rw[12,iW,iW,q]
def iy(d e:du):Bool:=[aN,d.1&&&e.1=d.1]&&([ly,e.2.1,d.2.1]&&[ly,e.2.2,d.2.2])
def Ou(C:ab):Sp:=λ U H Q _=>∃(p o:ab)(d e:du),(U=[[cX],.ref o]∧fX C dI H p d∧fX C dI H o e∧Q (.bl (iy d e)) H)
theorem Yu{f C:ab}{v:bq}(I:[rf,"covers","Lack.covers",uE,C,f,v,"other"])(T:[M4,C]):aA P w K mg base aG 1 f v [OQ] (Ou C):=by
 rw[100,XR,λ b A outer s H U Q E u h=>?_];·obtain⟨p,o,d,e,rfl,_⟩:=h;rfl
 obtain⟨p,o,d,e,rfl,⟨W,R⟩,⟨g,a⟩,q⟩:=h;rw[46,[rE,zC (lA e_ (cj lz [er] [jh,1]) [er] (ck _)) (zC (lA zM [er] [jh,1] (ck _)) (zB (lA zM [er] [jh,1] (ck _))))],⟨_,J,p,C,W,_,_,J,R,T.cl,[lD,0],[mj,0],[LQ,T,0,a,[CH,T,0,R,[em,J,_,?_]]]⟩];unfold iy at q;show[wO,[aN,(V.int (dQ [ap,d.1] [ap,e.1]))=[zf,d.1]]];rw[mu,j5];cases k:[aN,d.1&&&e.1=d.1]with
  |false=>rw[72,k,a_ q]
  |true=>
   rw[k]at q;rw[33,aV ⟨_,J,p,C,W,_,_,J,R,T.cl,[lD,1],[mj,1],[CH,T,1,a,[Dy,_,J]]⟩,[xz,e.2.1,d.2.1]];have e2:[C8,[xz,e.2.1,d.2.1],e.2.1≤d.2.1]:=by rw[19,dH]
   rw[e2];cases c:[ly,e.2.1,d.2.1]with
    |false=>rw[72,c,a_ q]
    |true=>
     rw[c]at q;rw[43,aV ⟨_,J,p,C,W,_,_,J,R,T.cl,[lD,2],[mj,2],[LQ,T,2,a,?_]⟩,Q [FH,[xz,e.2.2,d.2.2]] H];have B:[C8,[xz,e.2.2,d.2.2],e.2.2≤d.2.2]:=by rw[19,dH]
     rw[4,B,q]
def Ov(C CC:ab):Sp:=λ U H Q _=>∃(p W L:ab)(b:Bool),U=[[cX],.ref L,.bl b]∧H p=[ff,C,[]]∧∀(N K:ab)(G:[aT])(m:Hp),[wg,N,H K=none,N≠K,[b9,N≠p,K≠p,m p=[ff,C,[LU,N,K]],m N=Z (.aj [wk]),[b9,m K=Z (.aj []),d8 CC d7 m G [DB,b,(0,0,0),[]],∀a∈G,H a=none∧a≠N∧a≠p,[C9,p,m b],Q .bh m]]]
theorem Yv{f m C CC:ab}{v l:bq}(I:iM K "Known.__init__" xu C f v [Ln])(T:[M3,C])(n:iM K [Pw] uD CC m l [H_])(TC:[Mz,CC]):aA P w K mg base aG 3 f v [Ln] (Ov C CC):=by
 have G:aA P w K mg base aG 1 m l [H_] (r_ CC d7):=Ot n TC;rw[100,XT,[QH]];·obtain⟨p,dx,st,b,rfl,_⟩:=h;rfl
 obtain⟨p,dx,st,b,rfl,R,k⟩:=h;rw[54,[uh,pv 1],[O2,wh (iH (pv 2)) (fz (ak [Ku,n.ma,G,hr,TC.mg,n.b,bu,bu,ak bu aB] aB)) (fz aB),fz aB]];have e0:[LO,fU.zip]:=[al];rw[e0]at R;refine[de,dU T J J R [lc,_,J,b,?_]];cases b with
  |false=>
   refine a_ [Fu,λ N Y=>?_];have g:N≠p:=λ z=>by subst z;rw[aw]at Y;cases Y
   have y:H N=none:=by rw[ar g]at Y;exact Y
   refine dU T J J [b8,g.symm,aw] [Fu,λ d q=>?_];have D:d≠p:=λ z=>by subst z;rw[71,aw]
   have S:d≠N:=λ z=>by subst z;rw[ar D,aw]at q;cases q
   have B:H d=none:=by rw[ar D,ar S,ar D]at q;exact q
   rw[3,[zV,[b8,D.symm,aw]],k N d [] _ y B S.symm g D aw ?_ ?_ .nil [al] λ b o e c=>?_];·rw[ar g,ar S.symm,ar g,aw];rfl
   ·rw[ar D,aw]
   ·rw[ar c,ar (aX e B),ar c,ar (aX e y),ar c];exact e
  |true=>
   refine aV (λ x i nx O nd=>⟨x,i,(0,0,0),J,aw,J,by rw[80,1],λ N Y=>?_⟩);have u:x≠p:=λ z=>by subst z;rw[aw]at nx;cases nx
   have M:i≠p:=λ z=>by subst z;rw[aw]at O;cases O
   have g:N≠x:=λ z=>by subst z;rw[aw]at Y;cases Y
   have W:N≠i:=λ z=>by subst z;rw[ar g,ar g,aw]at Y;cases Y
   have r:N≠p:=λ z=>by subst z;rw[ar g,ar g,ar W,aw]at Y;cases Y
   have L:H x=none:=by rw[ar u]at nx;exact nx
   have X:H i=none:=by rw[ar M]at O;exact O
   have y:H N=none:=by rw[ar g,ar g,ar W,ar r]at Y;exact Y
   refine dU T J J (by rw[ar r.symm,ar u.symm,ar u.symm,ar M.symm];exact aw) [Fu,λ d q=>?_];have F:d≠p:=λ z=>by subst z;rw[71,aw]
   have j:d≠N:=λ z=>by subst z;rw[ar F,aw]at q;cases q
   have t:d≠x:=λ z=>by subst z;rw[ar F,ar j,aw]at q;cases q
   have m4:d≠i:=λ z=>by subst z;rw[ar F,ar j,ar t,ar t,aw]at q;cases q
   have B:H d=none:=by rw[ar F,ar j,ar t,ar t,ar m4,ar F]at q;exact q
   rw[3,[zV,[b8,F.symm,aw]],k N d [x] _ y B j.symm r F aw ?_ ?_ [qu,[qv,i]] ?_ λ b o e c=>?_];·rw[ar r,ar j.symm,ar r,aw];rfl
   ·rw[ar F,aw]
   ·rw[ar u,ar t.symm,ar u,ar g.symm,aw]
   ·intro a ha;simp at ha;subst ha;rw[1,L,g.symm,u]
   ·rw[ar c,ar (aX e B),ar c,ar (aX e y),ar (aX e L),ar (aX e L),ar (aX e X),ar c];exact e
end
end VP
end
section
namespace VP
open PySem L2
theorem Ow{K:aF}{a:ab}{xs:[aK]}{g:TG}{F:TS}{D:Ends}{w:St}{H:Hp}(P:[Cp])(I:P 0 w H)(X:[Tp])(G:∀i x w H,(i<xs.length→xs[(xs.length-1)-i]?=Z x→P i w H→g x w H [LG,F,P (i+1)]))(c:[Om,xs.length]):[OF,wQ K a xs.length,∀d b,[Kw,d,b],∀x b,(wQ K a xs.length).j1 i H x b→g x w b [LG,F,N]]:=by rw[128,xs.length];have q:=X i w H O p;rw[156,⟨s,xs,xs[(xs.length-1)-i]'(by omega),q,bX [ac]⟩,λ d b E=>[d9,xs.length-(i+1),[ac],s,E],λ x b y=>?_,G i x w _ s (y xs q) p,ba _,c w H p]
theorem fX.inj{C:ab}{names:[bj]}{H:Hp}{a:ab}{d e:du}(hn:names.length=3)(g:fX C names H a d)(r:fX C names H a e):d=e:=by obtain⟨x,g⟩:=g;obtain⟨y,r⟩:=r;rw[g]at r;have P:=[dF,r];injection P with _ _ w;have m:=ed (qK (·.2)) w;rw[BB [ar,hn,ba 3],BB [ar,hn,ba 3]]at m;obtain⟨d1,d2,d3⟩:=d;obtain⟨e1,e2,B⟩:=e;simp only[r9,nV,R5,V.int.injEq,pw]at m;obtain⟨v,b,i⟩:=m;have v:d1=e1:=[ac];have b:d2=e2:=[ac];have i:d3=B:=[ac];rw[v,b,i]
noncomputable def xU(C:ab)(names:[bj])(H:Hp)(q:du→Bool):V→Bool|.ref a=>@decide (∃e,fX C names H a e∧q e=true) (o6 _)|_=>false
theorem Er{C:ab}{names:[bj]}{H:Hp}{q:du→Bool}(hn:names.length=3){a:ab}{d:du}(h:fX C names H a d):xU C names H q [bi]=q d:=by unfold xU;cases e:q d with|true=>exact@bK _ (o6 _) ⟨d,h,e⟩|false=>refine@bW _ (o6 _) ?_;rintro⟨L,S,f⟩;rw[h.inj hn S,f]at e;cases e
theorem Es{C:ab}{names:[bj]}{H:Hp}(hn:names.length=3)(q:du→Bool):∀{c:[aT]}{B:List du},([KW,H])→([J5].filter (xU C names H q))=[Aq,(c.zip B).filter λ x=>q x.2,V.ref x.1]|_,_,.nil=>J|_,_,.cons (a:=a) (b:=d) r t=>by have T:=Es hn q t;rw[bO,qA,mM,qA,Er hn r];cases e:q d with|true=>simp only[il,bO];rw[T]|false=>simp only[ki,iE];exact T
theorem d8.Et{C:ab}{names:[bj]}{H:Hp}(q:du→Bool):∀{c:[aT]}{B:List du},([KW,H])→d8 C names H (((c.zip B).filter λ x=>q x.2).map (·.1)) (B.filter q)|_,_,.nil=>.nil|_,_,.cons (a:=a) (b:=d) r t=>by have T:=d8.Et q t;rw[mM,qA,qA];cases e:q d with|true=>simp only[il,bO];exact(.cons r T)|false=>simp only[ki,iE];exact T
theorem Eu{C:ab}{names:[bj]}{H:Hp}:∀{c S:[aT]}{B T:List du},([KW,H])→d8 C names H S T→d8 C names H (c++S) (B++T)|_,_,_,_,.nil,s=>s|_,_,_,_,.cons r t,s=>(.cons r (Eu t s))
theorem qe(a b:Nat):[C8,[xz,a,b],a≤b]:=by rw[19,dH]
section
variable{P:aY}{w:aU}{K:aF}{mg:[a_]}{base:aE}
def Ew:[bj]:=[[ck],"lack","other"]
theorem Ox:bQ Ew [OT] (aZ uF):=[cj]
def Ex(C CL:ab):Sp:=λ U H Q _=>∃(p W L N K A:ab)(D:[aT])(B:List du)(d:du),[kw,U=[[cX],.ref A],H p=[ff,C,[LU,N,K]],H K=Z (.aj (D.map V.ref)),d8 CL dI H D B,fX CL dI H A d,D.length+1≤aQ,∀(r:ab)(k:[aT])(m:Hp),[wg,r,m r=Z (.aj (k.map V.ref)),d8 CL dI m k ((B.filter λ e=>! iy d e)++[d]),(∀a∈k,a∈D∨a=A)→m p=[ff,C,[LU,N,r]]→([C9,p,m b])→Q .bh m]]
theorem Oy{f g C CL:ab}{fd fdg:bq}(I:[rf,"add_lack","Known.add_lack",uF,C,f,fd,"lack"])(T:[M3,C])(M:[rf,"covers","Lack.covers",uE,CL,g,fdg,"other"])(TL:[M4,CL]):aA P w K mg base aG 2 f fd [OT] (Ex C CL):=by
 have nd:Ew.Nodup:=Ox.nd;have G:aA P w K mg base aG 1 g fdg [OQ] (Ou CL):=Yu M TL;rw[60,I.fn.ok,Ox];·obtain⟨p,dx,L,N,l,m,D,B,d,rfl,_⟩:=h;rfl
 obtain⟨p,dx,L,N,l,m,D,B,d,rfl,R,n,W,S,c,k⟩:=h;rw[27,aN [uh,cj wC (jz (own:=[("other",2)]) J nd (dj [er]) [Ad,Ew,uF,"other",2] (λ _ _ _ _ _=>[pL,2]) (λ _ _ _ _ _=>wF (rg (iH [pM,pv 1,TL.cl,M.me,G,hr,M.b,pv 2,aB]))) (λ _ _ _ _ _=>pv 2)) (fz [gv,1])]];obtain⟨dl,hla'⟩:=id S;have n3:dI.length=3:=J;refine⟨_,J,p,C,dx,_,_,J,R,T.cl,[lD,2],[mj,2],l,J,[nj,n],λ u r=>jC (K:=K) (xU CL dI H λ e=>! iy d e) id (ax.of n) r [gL,aC] (λ x H3 Q1 Q2 hx s3 q1 q2=>?_) ?_⟩;·obtain⟨o,ho,rfl⟩:=[bp,hx];rw[138,ho];obtain⟨e,he,v⟩:=[MU,W,o,hi,ei];have hp3:=Er (q:=λ e=>! iy d e) n3 v;refine⟨J,_,J,m,dl,_,J,s3 _ _ hla',[fz],_,J,m,o,d,e,J,S.mono s3,v.mono s3,_,J,?_⟩;rw[hp3]at q1 q2;cases z:iy d e with|true=>rw[z]at q1 q2;exact a_ (q2 J)|false=>rw[z]at q1 q2;exact aV [de,q1 J]
 ·rw[Es n3 _ W,Jw];have X:[cY,(D.zip B).filter (λ x=>! iy d x.2),D.length]:=bf (nO _ _) [gL,yI];have nDp:p≠u:=aX R r;rw[17,_,J,by rw[80,1],λ O F=>⟨u,O,_,_,J,J,[b8,(λ z=>by subst z;rw[aw]at F;cases F),aw],aw,?_,λ t y=>?_⟩];rw[11,aC,bf (RW X 1) c]
  ·have m1:O≠u:=λ z=>by subst z;rw[aw]at F;cases F
   have h1:H O=none:=by rw[ar m1]at F;exact F
   have m2:t≠O:=λ z=>by subst z;rw[aw]at y;cases y
   have m3:t≠u:=λ z=>by subst z;rw[ar m2,aw]at y;cases y
   have h2:H t=none:=by rw[ar m2,ar m3]at y;exact y
   have m4:p≠O:=aX R h1;have m5:p≠t:=aX R h2;refine Yn T (j:=2) (vals:=[Kr,L,N,l]) J J (by show 2<3;decide) (by rw[ar m5,ar m4,ar nDp];exact R) ?_;have sm:[C9,p,ag (ag (ag (ag H u (.aj [Tc])) O (.aj [eD,m])) t (.aj ([Tc]++[eD,m]))) p [FB,fU.zip ([Np,L,N,l].set 2 (.ref t))] b]:=λ b o e nb=>by rw[ar nb,ar (aX e h2),ar (aX e h1),ar (aX e r)];exact e
   have hmv:∀{a:ab}{e:du},fX CL dI H a e→fX CL dI (ag (ag (ag (ag H u (.aj [Tc])) O (.aj [eD,m])) t (.aj ([Tc]++[eD,m]))) p [FB,fU.zip ([Np,L,N,l].set 2 (.ref t))]) a e:=by rintro a e⟨dy,q⟩;rw[15,dy,sm a _ q ?_];intro z;subst z;rw[R]at q;have h3:=[dF,q];injection h3 with _ _ h4;have h5:=ed (qK (·.1)) h4;rw[List.map_fst_zip (l₁:=fU) (l₂:=[Np,L,N,l]) (ba 3),List.map_fst_zip (l₁:=dI) (l₂:=r9 e) (ba 3)]at h5;rw[8,h5,[bE]]
   refine k t (((D.zip B).filter λ x=>! iy d x.2).map (·.1)++[m]) _ h2 ?_ ?_ ?_ aw sm;·rw[ar m5.symm,aw,cH,cP];rfl
   ·exact Eu [su,W.Et λ e=>! iy d e,hmv z] [qu,hmv S]
   ·intro a ha;rcases[gM,ha]with z|z;·obtain⟨x,hx,rfl⟩:=[bp,z];rw[21,(BG [E4,hx].1).1]
    ·simp at z;exact .inr z
def i5(d:du)(T l r:Nat):Bool:=[aN,d.1&&&T=d.1]&&([ly,l,d.2.1]&&[ly,r,d.2.2])
def j6(d:du)(T l r:Nat):Bool:=[aN,d.1&&&T=0]&&([ly,d.2.1,l]&&[ly,d.2.2,r])
def u7(C CC CL:ab):Sp:=λ U H Q _=>∃(p W L N K:ab)(G D:[aT])(cs B:List du)(T l r:Nat),[bn,U=[[cX],nV T,nV l,nV r],H p=[ff,C,[LU,N,K]],H N=Z (.aj [wk]),H K=Z (.aj (D.map V.ref)),[bn,d8 CC d7 H G cs,d8 CL dI H D B,∀(i:Nat)(a:ab)(d:du),D[i]?=Z a→B[i]?=Z d→[zI,i5 d T l r=true,H],(∀d∈B,[aw,i5 d T l r])→∀(i:Nat)(a:ab)(d:du),G[i]?=Z a→cs[i]?=Z d→[zI,j6 d T l r=true,H],(∀d∈B,[aw,i5 d T l r])→(∀d∈cs,[aw,j6 d T l r])→Q .bh H]]
theorem lG{c:[aT]}{i:Nat}{y:V}(h:[J5][i]?=Z y):∃a,c[i]?=Z a∧y=[bi]:=by rw[cJ]at h;cases e:c[i]? with|none=>rw[44,e]|some a=>rw[e]at h;rw[22,a,[nr,h]]
theorem er{m d:Type}{R:[d0,m,d]}{c:[li]}{S:List d}(h:(Paired R c S)):c.length=S.length:=[DO,h]
theorem Yw{f C CC CL:ab}{fd:bq}(I:[eq,"answer_where","Known.answer_where",xw,C,f,fd,[A3]])(T:[M3,C])(TC:[Mz,CC])(TL:[M4,CL])(B:el mg):aA P w K mg base aG 1 f fd [A3] (u7 C CC CL):=by
 have nd:=NJ.nd;rw[60,I.fn.ok,NJ];·obtain⟨p,dx,st,cl,ll,G,D,cs,ds,t,l,r,rfl,_⟩:=h;rfl
 obtain⟨p,dx,st,cl,ll,G,D,cs,ds,t,l,r,rfl,hp,Y,q,F,hls,k1,k2,k3⟩:=h;rw[46,aK [Ng,Mv J B.reversed (ak [er] aB),4,[Bj,(lu [dU,e_,cj lz [jh,4] (pv 1),[jh,4]] (lu [dU,iI,pv 2,[jh,4]] (oB [dU,iI,pv 3,[jh,4]]))).pt,pv 4]] [y8,[Ng,Mv J B.reversed (ak [er] aB),5,[Bj,(lu [dU,e_,cj lz [jh,5] (pv 1),bu] (lu [dU,iI,[jh,5],pv 2] (oB [dU,iI,[jh,5],pv 3]))).pt,pv 5]],pL],⟨_,J,p,C,dx,_,_,J,hp,T.cl,[lD,2],[mj,2],ll,_,J,(ax.of q),[m6,Ow,ll,D.map V.ref,λ i b m=>∃x:[dL],b=[Z [cX],Z (nV t),Z (nV l),Z (nV r),x,none]∧m=H∧[SL,D.length,i,ds,i5],[em,none,J,λ j d U c=>?_],λ i b m _⟨_,_,e,_⟩=>[ar,e,ax.of q]]⟩];·have:=[eJ,c];rw[er hls]at U;omega
 ·rintro i y b m v O⟨x,rfl,rfl,W⟩;rw[aC]at v O;obtain⟨a,ha,rfl⟩:=lG O;obtain⟨d,c,o,N⟩:=d6 hls ha;rw[33,⟨_,J,a,CL,o,_,_,J,N,TL.cl,TL.na 0 _ J,[lz,TL.nd,0],_,J,_,_,J,J,[CH,TL,0,N,[em,J,_,?_]]⟩,(V.int (dQ [ap,d.1] [ap,t]))=[zf,d.1]];rw[mu,j5];have S:i5 d t l r=false→∃x:[dL],[[j5,p],Z (nV t),Z (nV l),Z (nV r),[j5,a],none]=[[j5,p],Z (nV t),Z (nV l),Z (nV r),x,none]∧m=m∧[SL,D.length,i+1,ds,i5]:=λ z=>[em,_,J,λ j d' U u=>by
   by_cases y:D.length-i≤j;·exact W j d' y u
   ·have:j=D.length-1-i:=[ac];subst this;rw[c]at u;rw[6,u,z]]
  cases n:[aN,d.1&&&t=d.1]with|false=>exact a_ (a_ (S (by unfold i5;rw[n];rfl)))|true=>rw[33,aV [de,[CH,TL,1,N,[Dy,_,J]]],[xz,l,d.2.1]];rw[qe];cases k:[ly,l,d.2.1]with|false=>exact a_ (a_ (S (by unfold i5;rw[n,k];rfl)))|true=>rw[33,aV [de,[CH,TL,2,N,[Dy,_,J]]],[xz,r,d.2.2]];rw[qe];cases L:[ly,r,d.2.2]with|false=>exact a_ (S (by unfold i5;rw[n,k,L];rfl))|true=>exact aV [de,k1 _ a d ha c (by unfold i5;rw[n,k,L];rfl)]
 ·rintro b m⟨x,rfl,rfl,W⟩;have R:∀d∈ds,[aw,i5 d t l r]:=λ d c=>by obtain⟨j,U,ej⟩:=gY c;exact W j d [gL,aC] (by rw[bX U,ej])
  refine⟨_,J,p,C,dx,_,_,J,hp,T.cl,[lD,1],[mj,1],cl,_,J,(ax.of Y),[m6,Ow,cl,[wk],λ i b M=>∃g:[dL],b=[Z [cX],Z (nV t),Z (nV l),Z (nV r),x,g]∧M=m∧[SL,G.length,i,cs,j6],[em,none,J,λ j d U c=>?_],λ i b M _⟨_,_,e,_⟩=>[ar,e,ax.of Y]]⟩;·have:=[eJ,c];rw[er F]at U;omega
  ·rintro i y b M v O⟨g,rfl,rfl,X⟩;rw[aC]at v O;obtain⟨a,ha,rfl⟩:=lG O;obtain⟨d,c,o,N⟩:=d6 F ha;rw[33,⟨_,J,a,CC,o,_,_,J,N,TC.cl,TC.na 0 _ J,[lz,TC.nd,0],_,J,_,_,J,J,J,_,J,?_⟩,(V.int (dQ [ap,d.1] [ap,t]))=[Kl,0]];rw[mu,j5];have S:j6 d t l r=false→∃g:[dL],[[j5,p],Z (nV t),Z (nV l),Z (nV r),x,[j5,a]]=[[j5,p],Z (nV t),Z (nV l),Z (nV r),x,g]∧M=M∧[SL,G.length,i+1,cs,j6]:=λ z=>[em,_,J,λ j d' U u=>by
    by_cases y:G.length-i≤j;·exact X j d' y u
    ·have:j=G.length-1-i:=[ac];subst this;rw[c]at u;rw[6,u,z]]
   cases n:[aN,d.1&&&t=0]with|false=>exact a_ (a_ (S (by unfold j6;rw[n];rfl)))|true=>rw[33,aV ⟨_,J,a,CC,o,_,_,J,N,TC.cl,TC.na 1 _ J,[lz,TC.nd,1],_,J,_,_,J,J,_,J,?_⟩,[xz,d.2.1,l]];rw[qe];cases k:[ly,d.2.1,l]with|false=>exact a_ (a_ (S (by unfold j6;rw[n,k];rfl)))|true=>rw[33,aV ⟨_,J,a,CC,o,_,_,J,N,TC.cl,TC.na 2 _ J,[lz,TC.nd,2],_,J,_,_,J,J,_,J,?_⟩,[xz,d.2.2,r]];rw[qe];cases L:[ly,d.2.2,r]with|false=>exact a_ (S (by unfold j6;rw[n,k,L];rfl))|true=>exact aV [de,k2 R _ a d ha c (by unfold j6;rw[n,k,L];rfl)]
  ·rintro b M⟨g,rfl,rfl,X⟩;refine k3 R λ d c=>?_
   obtain⟨j,U,ej⟩:=gY c;exact X j d [gL,aC] (by rw[bX U,ej])
end
end VP
end
section
namespace VP
open PySem L2
section
variable{P:aY}{w:aU}{K:aF}{mg:[a_]}{base:aE}
theorem u9{X:Cx}(b:aF)(i:Nat){x f:Str}{p W:Pos}(t:X.K=b:=by rfl)(v:X.N[i]?=Z x:=by rfl)(y:[Fj,q0]:=by first|exact aR J|exact gq (aR J)|exact gq (gq J))(a:[uk,x]:=by decide)(c:[aw,x==[PJ]]:=by decide)(K:[FE,[tW,p],f]:=by rfl):PE X (.Attribute [tW,p] f W) (nc b (cv i) f):=by subst t;exact bF (pv i v y a c) K
def An:[bj]:=[[ck],[xL],"left","room","fitting","one"]
theorem Oz:bQ An [A3] (aZ rO):=[cj]
def mv(l r:Nat)(d:du):Bool:=[ly,d.2.1,l]&&[ly,d.2.2,r]
def OA(C CC:ab):Sp:=λ U H Q _=>∃(p W L N K:ab)(G:[aT])(cs:List du)(T l r:Nat),[bn,U=[[cX],nV T,nV l,nV r],H p=[ff,C,[LU,N,K]],H N=Z (.aj [wk]),d8 CC d7 H G cs,G.length≤aQ∧∀(a:ab)(m:Hp),[wg,a,m a=Z (.aj (aJ ((cs.filter (mv l r)).map λ d=>d.1&&&T))),ah H m,Q [bi] m]]
noncomputable def Ao(C:ab)(H:Hp)(T:Nat):V→V|.ref a=>@dite _ (∃e,fX C d7 H a e) (o6 _) (λ h=>nV ((sV h).1&&&T)) λ _=>.bh|_=>.bh
theorem OB{C:ab}{H:Hp}{T:Nat}{a:ab}{d:du}(h:fX C d7 H a d):Ao C H T [bi]=nV (d.1&&&T):=by unfold Ao;have A:∃e,fX C d7 H a e:=⟨d,h⟩;rw[14,@dite _ (∃e,fX C d7 H a e) (o6 _) (λ h=>nV ((sV h).1&&&T)) (λ _=>.bh)=_,dif_pos A];rw[fX.inj J (sP A) h]
theorem OC{C:ab}{H:Hp}{T:Nat}:∀{c:[aT]}{B:List du},d8 C d7 H c B→[J5].map (Ao C H T)=aJ (B.map λ d=>d.1&&&T)|_,_,.nil=>J|_,_,.cons (a:=a) (b:=d) r t=>by rw[bO,bO,OB r,OC t];rfl
theorem Yx{f C CC:ab}{v:bq}(I:[eq,"hits","Known.hits",rO,C,f,v,[A3]])(T:[M3,C])(TC:[Mz,CC]):aA P w K mg base aG 1 f v [A3] (OA C CC):=by
 have nd:An.Nodup:=Oz.nd;rw[60,I.fn.ok,Oz];·obtain⟨p,W,st,cl,ll,G,cs,t,l,r,rfl,_⟩:=h;rfl
 obtain⟨p,W,st,cl,ll,G,cs,t,l,r,rfl,hp,m,F,j,k⟩:=h;rw[54,ug (i:=4) (own:=[("one",5)]) J nd J J (rD J J J J) (dj [er]) (@eg.mk An (aZ rO) _ [("one",5)] J [bE] [bE] [bE] [bE]) [Lv,5] (λ _ _ _ _ _=>wF (PW.pt (lu [dU,iI,u9 K 5,pv 2] (oB [dU,iI,u9 K 5,pv 3])))) (λ _ _ _ _ _=>pv 5),[rE,jz (own:=[("one",5)]) J nd (dj (pv 4)) (@eg.mk An (aZ rO) _ [("one",5)] J [bE] [bE] [bE] [bE]) (λ _ _ _ _ _=>[pL,5]) (λ _ _ _ _ _=>iv) (λ _ _ _ _ _=>cj lz (u9 K 5) (pv 1))]];have n3:d7.length=3:=J;refine⟨_,J,p,C,W,_,_,J,hp,T.cl,[lD,1],[mj,1],cl,J,[nj,m],λ Dn z=>jC (K:=K) (xU CC d7 H (mv l r)) id (ax.of m) z [ov,j] (λ x L Q1 Q2 b g n X=>?_) ?_⟩;·obtain⟨o,d,rfl⟩:=[bp,b];obtain⟨i,O,D⟩:=gY d;obtain⟨e,he,M⟩:=[MU,F,o,O,D];have R:=Er (q:=mv l r) n3 M;obtain⟨u,N⟩:=M.mono g;rw[R]at n X;rw[33,⟨J,_,J,o,CC,u,_,_,J,N,TC.cl,TC.na 1 _ J,[lz,TC.nd,1],_,J,_,_,J,J,_,J,?_⟩,[xz,e.2.1,l]];rw[qe];unfold mv at n X;cases z1:[ly,e.2.1,l]with|false=>rw[z1]at n X;exact a_ (a_ (X J))|true=>rw[z1]at n X;rw[33,aV ⟨_,J,o,CC,u,_,_,J,N,TC.cl,TC.na 2 _ J,[lz,TC.nd,2],_,J,_,_,J,J,_,J,?_⟩,[xz,e.2.2,r]];rw[qe];cases z2:[ly,e.2.2,r]with|false=>rw[z2]at n X;exact a_ (X J)|true=>rw[z2]at n X;exact aV [de,n J]
 ·rw[Es n3 _ F,Jw];generalize S:((G.zip cs).filter λ x=>mv l r x.2).map (·.1)=kept;have ek:[Aq,(G.zip cs).filter λ x=>mv l r x.2,V.ref x.1]=kept.map V.ref:=by rw[←S,cP];rfl
  rw[ek];have c:=F.Et (mv l r);rw[S]at c;have Y:ah H (ag H Dn (.aj (kept.map V.ref))):=[mt,z];have y:kept.length≤aQ:=by rw[←S,aC];exact bf (nO _ _) (bf [gL,yI] j)
  rw[61,Dn,J,[nj,aw],λ Dm U=>[Dv,Ao CC H t,ax.of aw,U,[ov,y],λ x L Q1 Q2 b g n X=>?_]];·obtain⟨o,d,rfl⟩:=[bp,b];obtain⟨i,O,D⟩:=gY d;obtain⟨e,he,M⟩:=[MU,c,o,O,D];obtain⟨u,N⟩:=(M.mono Y).mono g;have n:=n J;rw[OB M]at n;refine[lu,aV (B:=Q2 L) ?_];rw[43,⟨_,J,o,CC,u,_,_,J,N,TC.cl,TC.na 0 _ J,[lz,TC.nd,0],_,J,_,_,J,J,?_⟩,Q1 (.int (dQ [ap,e.1] [ap,t])) L];rw[4,mu,n]
  ·rw[12,[Du],OC c,k Dm _ (Y.free U) aw (ah.aT Y (Y.free U))]
end
end VP
end
section
namespace VP
open PySem L2
def eC(r:[lB]):Str:=⟨(r.map λ b=>[PX,b]).toArray⟩
def wV:Option Nat→V|none=>.int (-1)|Z w=>nV w
def mw(H:Hp)(a:ab)(sp:Vs.Spot):Prop:=H a=Z (.tup [nV sp.1,nV sp.2.1,.str (eC [lv].1),.bl [lv].2])
def fi(H:Hp)(a:ab)(L:Vs.a8):Prop:=∃sa,H a=Z (.tup [[pU],wV L.2.1,nV L.2.2])∧mw H sa L.1
theorem fi.mono{H m:Hp}{a:ab}{L:Vs.a8}(h:fi H a L)(t:jk H m):fi m a L:=let⟨sa,g,r⟩:=h;[wG,sa,t,g,t _ _ r]
def qf(H:Hp)(v:V)(p:[KH]):Prop:=∃a sa,v=[bi]∧H a=Z [ii,nV p.1,[pU]]∧fi H sa p.2
def oS(H:Hp)(a:ab)(V:[Gf]):Prop:=∃U,(H a=Z (.tup U)∧(Paired (qf H) U V))
theorem oS.mono{H m:Hp}{a:ab}{V:[Gf]}(h:oS H a V)(t:jk H m):oS m a V:=by obtain⟨U,g,r⟩:=h;refine[wG,U,t,g,[Ak,r,λ v p⟨b,sa,e,P,w⟩=>⟨b,sa,e,t _ _ P,w.mono t⟩]]
def ia(H:Hp)(a:ab)(R:[oH]):Prop:=∃c,(H a=Z (.aj [J5])∧(Paired (fi H) c R))
theorem ia.mono{H m:Hp}{a:ab}{R:[oH]}(h:ia H a R)(s:ah H m):ia m a R:=by obtain⟨c,g,r⟩:=h;rw[1,c,s _ _ g,[su,r,z.mono (dF s)]]
def wZ:Option Nat→Int|none=>-1|Z w=>[ap,w]
def iz(sp:Vs.Spot):Tr:=(.cons (.num sp.1) (.cons (.num sp.2.1) [zC,.txt (eC [lv].1),.num (l7 [lv].2)]))
def fD(L:Vs.a8):Tr:=(.cons (iz L.1) (.cons (.num (wZ L.2.1)) [qu,.num L.2.2]))
def lH(p:[KH]):Tr:=[zC,.num p.1,fD p.2]
def dJ:[fQ,Tr,Tr]|[]=>.nil|t::r=>(.cons t (dJ r))
def j7(b:Bool)(V:[Gf]):Tr:=[zC,.num (l7 b),dJ (V.map lH)]
structure aS where
 m:bT
 ks:[d6]
 aO:[aT]
 most:Nat
 tg:Vs.a8→Vs.Shape→[oH]
 en:Vs.a8→Bool
 U:[oH]
 co:ab
 sc:ab
 ka:ab
 r:ab
 d1:ab
 d2:ab
 d3:ab
 Pt:ab
 X:[aT]
 bN:ab
 CK:ab
 CC:ab
 CL:ab
 bo:ab
 sd:[Dr]
 kt:[wT,Hp]
def iA(F:aS)(L:Vs.a8):[Gf]:=[Bf,F.ks.length,λ i=>[A9].map λ t=>(i,t)]
structure KE where
 kn:ab
 cl:ab
 g:Vs.GK
def aP(F:aS)(a:[bv]):[aT]:=F.d1::F.d2::F.d3::F.Pt::(a.flatMap (λ e=>[e.kn,e.cl])++F.X)
def Zh(M:[aT])(H:Hp):Hp:=λ b=>if b∈M then none else H b
theorem bV{M:[aT]}{H:Hp}{b:ab}{o:HO}:Zh M H b=Z o↔H b=Z o∧b∉M:=by
 unfold Zh;by_cases h:b∈M;·rw[aI h];simp[h]
 ·rw[aD h];simp[h]
theorem jl{M:[aT]}{H m:Hp}(s:ah H m):ah (Zh M H) (Zh M m):=λ b o e=>by rw[45,[wq],bV.mpr [ut,s _ _ this.1,this]]
theorem bp{M:[aT]}{H:Hp}:ah (Zh M H) H:=λ b o e=>[wq].1
def jm(F:aS)(c:Vs.GC):du:=(c.jw,c.cs.length,[ni,c.cs])
def eh(c:Vs.GL):du:=(c.taken,c.words,c.size)
def lI:[bj]:=["scanner",[pW],"runs","known","known_by_steps"]
structure xV(F:aS)(H a:Hp)(e:KE):Prop where
 ex:∃W L K G D,[bn,H e.kn=[ff,F.CK,[LU,e.cl,K]],H e.cl=Z (.aj [wk]),a K=Z (.aj (D.map V.ref)),oS a L e.g.steps,d8 F.CC d7 a G (e.g.cs.map (jm F))∧d8 F.CL dI a D (e.g.ls.map eh)]
theorem xV.mono{F:aS}{H m a b:Hp}{e:KE}(k:xV F H a e)(g:m e.kn=H e.kn)(r:m e.cl=H e.cl)(s:ah a b):xV F m b e:=by obtain⟨W,L,K,G,D,v,w,i,C,h,f⟩:=k.ex;exact⟨W,L,K,G,D,g.trans v,r.trans w,s _ _ i,C.mono (dF s),h.mono s,f.mono s⟩
structure cw(F:aS):Prop where
 K:Vs.zo F.ks F.most
 fx:∀k∈F.ks,[pO]≤64
 len:F.ks.length≤64
 tg:∀L i x,L∈F.U→i<F.ks.length→(x∈[A9]↔x∈Vs.qS F.m L [y_])
 u_:∀L i x,(L∈F.U→i<F.ks.length→x∈[A9]→x∈F.U)
 Ap:∀L i,L∈F.U→[cY,[A9],10000]
 en:∀L,L∈F.U→(F.en L=true↔Vs.qT F.m L)
 Ul:F.U.length≤100000
 my:∀a b,ah a b→F.sd a→F.sd b
 nv:∀H m a b,(m F.d3=H F.d3→ah a b→F.kt H a→F.kt m b)
def oU(F:aS)(L:Vs.a8)(e:KE):Prop:=e.g.c0=F.en L∧e.g.steps=iA F L
def oV:[aK]⊕[lk]→HO|.inl N=>.aj N|.inr Y=>.dT Y
structure bA(F:aS)(H:Hp)(a:[bv]):Prop where
 co:∃W,Zh (aP F a) H F.co=[ff,F.bo,[Tn]]
 ka:Zh (aP F a) H F.ka=Z (.aj (F.aO.map V.ref))
 kinds:jD F.bN (Zh (aP F a) H) F.ks F.aO
 runs:kG (Zh (aP F a) H) F.r (runOf F.ks) (xT F.ks)
 sc:F.sd (Zh (aP F a) H)
 tab:df H F.Pt i4 iJ
 kt:F.kt H (Zh (aP F a) H)
 k3:∃Y,H F.d3=Z (.dT Y)
 k1:(∃Y,H F.d1=Z (.dT Y)∧[ML]∧∀p∈Y,∃L e,([wo]∧e∈a∧p=(fD L,(V.ref e.kn))∧oU F L e))
 k2:(∃Y,H F.d2=Z (.dT Y)∧[ML]∧∀p∈Y,∃L e,([wo]∧e∈a∧p=(j7 (F.en L) (iA F L),(V.ref e.kn))∧oU F L e))
 lJ:F.d1≠F.d2∧F.d1≠F.d3∧F.d2≠F.d3
 knd:∀(i j:Nat)(e f:KE),(a[i]?=Z e→a[j]?=Z f→i≠j→e.kn≠f.kn∧e.cl≠f.cl)
 kn:∀e∈a,xV F H (Zh (aP F a) H) e∧[MJ,e.g]
 of:∀e∈a,∃L,[wo]∧oU F L e
 xt:∀x∈F.X,∃o,H x=Z (oV o)
 xd:∀x∈F.X,[bn,x≠F.d1,x≠F.d2,x≠F.d3,x≠F.Pt,∀e∈a,x≠e.kn∧x≠e.cl]
theorem ib{F:aS}{a:[bv]}{b:ab}:b∈aP F a↔b=F.d1∨b=F.d2∨b=F.d3∨b=F.Pt∨(∃e∈a,b=e.kn∨b=e.cl)∨b∈F.X:=by unfold aP;simp only[lU,List.mem_append,nX,yE,yY]
theorem OD{F:aS}{a:[bv]}{e:KE}(h:e∈a):e.kn∈aP F a:=ib.mpr [Bd,[wB,e,h,[db]]]
theorem OE{F:aS}{a:[bv]}{e:KE}(h:e∈a):e.cl∈aP F a:=ib.mpr [Bd,[wB,e,h,.inr J]]
theorem OF{F:aS}{a:[bv]}{x:ab}(h:x∈F.X):x∈aP F a:=ib.mpr [Bd,.inr h]
theorem bA.grow{F:aS}(I:cw F){H m:Hp}{a:[bv]}(S:bA F H a)(s:ah H m):bA F m a:=by have z:=jl (M:=aP F a) s;rw[117];obtain⟨b,P⟩:=S.k3;obtain⟨d,g,k1⟩:=S.k1;rw[131];refine⟨[Nz],[J9],[JU],[JW],[KN],jh S.tab s,[MH,(s _ _ P).trans P.symm],⟨b,s _ _ P⟩,[wG,d,s,g,k1],[wG,T,s,r,k2],S.lJ,S.knd,[P8],S.of,[Pk,⟨o,s _ _ q⟩],S.xd⟩;obtain⟨k,_⟩:=S.kn e R;obtain⟨W,L,K,G,D,v,w,_⟩:=id k.ex;exact k.mono ((s _ _ v).trans v.symm) ((s _ _ w).trans w.symm) z
theorem bA.keep{F:aS}(I:cw F){H m:Hp}{a:[bv]}(S:bA F H a)(s:eK F.Pt H m)(t:df m F.Pt i4 iJ):bA F m a:=by
 obtain⟨V,c,_⟩:=id S.tab;have z:ah (Zh (aP F a) H) [zn,a]:=λ b o e=>by rw[45,[wq],bV.mpr [ut,s _ _ this.1 λ q=>this.2 (ib.mpr [nM,.inr (.inl q)]),this]]
 have p:∀b Y,H b=Z (.dT Y)→m b=Z (.dT Y):=λ b Y e=>s _ _ e [Ch,e,c]
 rw[117];obtain⟨M,P⟩:=S.k3;obtain⟨d,g,k1⟩:=S.k1;rw[131];refine⟨[Nz],[J9],[JU],[JW],[KN],t,[MH,(p _ _ P).trans P.symm],⟨M,p _ _ P⟩,[wG,d,p,g,k1],[wG,T,p,r,k2],S.lJ,S.knd,[P8],S.of,[Pk,⟨o,s _ _ q [Cb].2.2.2.1⟩],S.xd⟩;obtain⟨k,_⟩:=S.kn e R;obtain⟨W,L,K,G,D,v,w,_⟩:=id k.ex;exact k.mono ((s _ _ v [Ch,v,c]).trans v.symm) ((s _ _ w [Ch,w,c]).trans w.symm) z
theorem OG{F:aS}{b:[bv]}{i:Nat}{e f:KE}(O:b[i]?=Z e)(g:f.kn=e.kn)(r:f.cl=e.cl):aP F (b.set i f)=aP F b:=by
 have X:=[L7,O];have:∀(b:[bv])(i:Nat),b[i]?=Z e→[oC,b.set i f,λ e=>[e.kn,e.cl]]=b.flatMap λ e=>[e.kn,e.cl]:=by intro b;induction b with|nil=>intro i h;rw[16]|cons a b T=>intro i h;cases i with|zero=>rw[102];simp[g,r]|succ i=>simp only[List.set_cons_succ,kZ];rw[T i (by rw[51])]
 unfold aP;rw[this b i O]
theorem bA.OH{F:aS}(FO:cw F){H m:Hp}{c:[bv]}(S:bA F H c){i:Nat}{e:KE}(O:c[i]?=Z e)(Q:Vs.GK)(hE:Q.c0=e.g.c0)(hS:Q.steps=e.g.steps)(z:ah (Zh (aP F c) H) [zn,c])(f:[uj,H,b∈aP F c,b≠e.kn→b≠e.cl→m b=Z o])(hk:xV F m [zn,c] [J7,e])(hg:[MJ,Q]):bA F m (c.set i [J7,e]):=by
 have N:aP F (c.set i [J7,e])=aP F c:=OG O J J;have M:=bt O;obtain⟨ke,_⟩:=S.kn e M;obtain⟨dxe,ste,lle,case,lase,e1,e2,_⟩:=id ke.ex;obtain⟨ps,l,htr,htc⟩:=id S.tab;have s:∀b Y,H b=Z (.dT Y)→b∈aP F c→m b=Z (.dT Y):=λ b Y q K=>f b _ q K [Ch,q,e1] [Ch,q,e2]
 have hil:=[eJ,O];have G:∀e2∈c,∃B∈c.set i [J7,e],B.kn=e2.kn∧B.g.c0=e2.g.c0∧B.g.steps=e2.g.steps:=λ e2 he2=>by
  obtain⟨j,U,C⟩:=gY he2;by_cases q:j=i;·subst q;rw[70,e2=e,by rw[bX U,C]at O;exact[dF,O]];rw[9,_,List.mem_iff_getElem?.mpr ⟨j,qx U⟩,J,hE,hS]
  ·rw[9,e2,List.mem_iff_getElem?.mpr ⟨j,by rw[yA (λ w=>q w.symm),bX U,C]⟩,J,J,J]
 have E:∀(j:Nat)(B:KE),(c.set i [J7,e])[j]?=Z B→(j=i∧B=[J7,e])∨(j≠i∧c[j]?=Z B):=λ j B h=>by
  by_cases q:j=i;·subst q;rw[qx hil]at h;rw[21,[lu,[nr,h]]]
  ·rw[yA (λ w=>q w.symm)]at h;exact[jT,q,h]
 obtain⟨dx,co⟩:=S.co;obtain⟨kv3,P⟩:=S.k3;obtain⟨kv1,h1,k1n,k1⟩:=S.k1;obtain⟨kv2,h2,k2n,k2⟩:=S.k2;have T:df m F.Pt i4 iJ:=by
  rw[17,ps,f _ _ l (ib.mpr [nM,.inr [db]]) [Ch,l,e1] [Ch,l,e2],htr,?_];rcases htc with q|⟨c',a,b⟩;·rw[21,q]
  ·refine[vn,c',a,?_];by_cases q:c'∈aP F c;rw[2,f _ _ b q [Ch,b,e1] [Ch,b,e2],(bV.mp (z _ _ [rs,b,q])).1]
 refine⟨⟨dx,[ar,N,z _ _ co]⟩,[ar,N,[J9]],[ar,N,[JU]],[ar,N,[JW]],[ar,N,FO.my _ _ z S.sc],T,[ar,N,FO.nv _ _ _ _ ((s _ _ P (ib.mpr [nM,[db]])).trans P.symm) z S.kt],⟨kv3,s _ _ P (ib.mpr [nM,[db]])⟩,⟨kv1,s _ _ h1 (ib.mpr [db]),k1n,[ro]⟩,⟨kv2,s _ _ h2 (ib.mpr (.inr [db])),k2n,[ro]⟩,S.lJ,λ a b x y ha K V=>?_,[rp],[rp],[rp],[rp]⟩;·obtain⟨L,x,n,X,r,t⟩:=k1 p R;obtain⟨y,k,y1,y2,y3⟩:=G x X;exact⟨L,y,n,k,by rw[r,y1],y2.trans t.1,y3.trans t.2⟩
 ·obtain⟨L,x,n,X,r,t⟩:=k2 p R;obtain⟨y,k,y1,y2,y3⟩:=G x X;exact⟨L,y,n,k,by rw[r,y1],y2.trans t.1,y3.trans t.2⟩
 ·rcases E a x ha with⟨rfl,rfl⟩|⟨I,D⟩<;>rcases E b y K with⟨rfl,rfl⟩|⟨nb,W⟩;rw[2,[e9,J,V],S.knd _ _ e y O W V];rw[2,S.knd _ _ x e D O V,S.knd _ _ _ _ D W V]
 ·rw[167,A,x];rw[11,N,⟨hk,hg⟩];·obtain⟨kx,gx⟩:=S.kn x (bt D);obtain⟨_,_,_,_,_,u,v,_⟩:=id kx.ex;have nn:=S.knd _ _ _ _ D O I;rw[4,N,⟨kx.mono ((f _ _ u (OD (bt D)) nn.1 [Ch,u,e2]).trans u.symm) ((f _ _ v (OE (bt D)) [Ch,v,e1] nn.2).trans v.symm) z,gx⟩]
 ·rw[167,A,x];·obtain⟨L,n,X,r⟩:=S.of e M;rw[23,L,n,hE.trans X,hS.trans r]
  ·exact S.of x (bt D)
 ·rw[77,x,A];have d:=[Cb].2.2.2.2 e M;rw[0,o,f x _ q (OF A) d.1 d.2]
 ·obtain⟨d1,d2,d3,d4,d5⟩:=[Cb];refine⟨d1,d2,d3,d4,λ y k=>?_⟩;rw[167,k,y];rw[2,d5 e M,d5 y (bt D)]
end VP
end
section
namespace VP
open PySem L2
theorem Ey{X:Cx}:[CJ,[jb,"isinstance"],∃(x:V)(C:ab)(t:ae)(b:Bool),(N=[x,[iH]]∧j3 X.K H x t∧Sg X.K t [iH]=Z b∧Q (.bl b) H)]:=by rw[109];obtain⟨x,C,t,b,rfl,k,e,q⟩:=h;obtain⟨u,m,rfl,a,S⟩:=vals2 r;rw[6,[dA,m,[jS,C],S],Vo I a k e λ G=>[lc,.bl b,H,[tO],q]]
structure InstB(K:aF)(C CC:ab)(b:Bool):Prop where
 cl:j2 K C
 ha:[Ez,"__class__"]=Z (Z [N_])
 hn:PySem.W.specialIn K [N_] "__get__"=Z (Z [jb,"getset_descriptor.__get__"])
 pP:PySem.W.takesIn K [N_]=Z true
 hm:PySem.W.mroIn K C [M9]=Z true
 nA:Sg K [iH] (.ref CC)=Z b
theorem InstB.ty{K:aF}{C CC:ab}{b:Bool}(h:InstB K C CC b){H:Hp}{a W:ab}{fs:[gj,V]}(e:H a=[ff,C,fs]):[NJ,[iH]]:=.ins e h.cl h.ha h.hn h.pP h.hm
structure bJ(F:aS)(l:Nat)(H:Hp)(a:[bv])(m:Hp)(D:[bv]):Prop where
 st:bA F m D
 z:ah (Zh (aP F a) H) [zn,D]
 ext:∀(i:Nat)(e:KE),a[i]?=Z e→∃f,(D[i]?=Z f∧f.kn=e.kn∧f.cl=e.cl∧Vs.eG l e.g f.g)
 xs:[KL,m]
theorem bJ.trans{F:aS}{l:Nat}{H d M:Hp}{c E B:[bv]}(a:bJ F l H c d E)(b:bJ F l d E M B):bJ F l H c M B:=by rw[17,b.st,a.z.trans b.z,λ i e h=>?_,λ x A=>[eY,b.xs,x,A,a.xs x A]];obtain⟨e1,g,k1,u,j⟩:=a.ext i e h;obtain⟨e2,r,k2,f,T⟩:=b.ext i e1 g;rw[9,e2,r,k2.trans k1,f.trans u,j.trans T]
theorem bJ.mono{F:aS}{l l':Nat}{H c:Hp}{b E:[bv]}(a:bJ F l H b c E)(h:l≤l'):bJ F l' H b c E:=by rw[17,a.st,a.z,λ i e q=>?_,a.xs];obtain⟨e1,g,k1,u,d⟩:=a.ext i e q;rw[9,e1,g,k1,u,d.mono h]
theorem bJ.refl{F:aS}(l:Nat){H:Hp}{a:[bv]}(S:bA F H a):bJ F l H a H a:=⟨S,ah.refl _,[Mf],[Cy]⟩
theorem bJ.grow{F:aS}(I:cw F)(l:Nat){H m:Hp}{a:[bv]}(S:bA F H a)(s:ah H m):bJ F l H a m a:=⟨S.grow I s,jl s,[Mf],[Pk,(s _ _ q).trans q.symm]⟩
theorem bJ.keep{F:aS}(I:cw F)(l:Nat){H m:Hp}{a:[bv]}(S:bA F H a)(s:eK F.Pt H m)(t:df m F.Pt i4 iJ):bJ F l H a m a:=by rw[17,S.keep I s t,λ b o e=>?_,[Mf],[Pk,(s _ _ q [Cb].2.2.2.1).trans q.symm]];rw[45,[wq],bV.mpr [ut,s _ _ this.1 λ q=>this.2 (ib.mpr [nM,.inr (.inl q)]),this]]
theorem Ez{F:aS}{L t:Vs.a8}{k:Nat}:(k,t)∈iA F L↔[qP,k]∧t∈F.tg L [yj,F.ks,k]:=by
 unfold iA;rw[34,nX];·rintro⟨i,O,h⟩;obtain⟨x,A,e⟩:=[bp,h];cases e;rw[0,[KJ,O],A]
 ·rintro⟨g,r⟩;rw[1,k,[rJ,g],[jz,t,r]]
theorem Aq{F:aS}(I:cw F){L:Vs.a8}{e:KE}(V:[wo])(h:oU F L e)(cs:[ak]):[K1,L,cs]↔Vs.cM F.m F.ks e.g.c0 e.g.steps cs:=by
 rw[h.1,h.2];cases cs with
  |nil=>show(∀k∈([]:[ak]),[qP,k])∧Vs.qT F.m L↔F.en L=true;rw[19,I.en L V]
  |cons k r=>
   show(∀j∈k::r,[qP,j])∧(∃l∈Vs.qS F.m L [yj,F.ks,k],Vs.pE F.m l (r.map (Vs.shapeAt F.ks)))↔∃t,(k,t)∈iA F L∧[qP,k]∧[K1,t,r];rw[7];·rintro⟨g,t,a,P⟩;have C:=g k cq;rw[9,t,Ez.mpr ⟨C,((I.tg L k t V C).mpr a)⟩,C,λ j U=>g j (cp _ U),P]
   ·rintro⟨t,g,C,a,P⟩;refine⟨λ j U=>?_,t,(I.tg L k t V C).mp (Ez.mp g).2,P⟩;rcases[dE,U]with rfl|U;rw[2,C,a j U]
def xW(F:aS):Sp:=[Tu,[zl],Zh (aP F b) H,∀(i:Nat)(e:KE)(m:Hp)(D:[bv]),(D[i]?=Z e→oU F L e→bJ F 0 H b m D→Q [AW] m)]
structure EA(F:aS)(b:Hp)(a:ab)(cM:[AC,Nat])(t:Vs.bx)(l r:Nat)(cs:[ak])(N:Nat):Prop where
 at_:fX F.CC d7 b a (N,cs.length,[ni,cs])
 comp:cM cs
 oy:∀k∈cs,[qP,k]
 jw:Vs.l6 (Vs.dr F.ks) N λ k=>[qU]
 fx:∀k,[qU]≤[Aa,k]
 words:[Dk,l]
 size:[ni,cs]≤r
 free:¬[Kk,cs,t]
structure EB(F:aS)(b:Hp)(a:ab)(cM:[AC,Nat])(t:Vs.bx)(l r:Nat)(d:du):Prop where
 at_:fX F.CL dI b a d
 words:l≤d.2.1
 size:r≤d.2.2
 fx:d.2.1≤1001∧d.2.2≤1100
 pI:∀cs,(cM cs→([Dk,d.2.1])→[ni,cs]≤d.2.2→[Kk,cs,t])
def Ar(F:aS)(l:Nat):Sp:=λ U H Q _=>∃(b:[bv])(i:Nat)(e:KE)(T:Nat)(t:Vs.bx)(r:Nat),[kw,U=[[zl],[AW],nV T,nV l,nV r],bA F H b,b[i]?=Z e,[OC,F.ks],[PN,t],∀(a:ab)(cs:[ak])(N:Nat)(m:Hp)(D:[bv]),bJ F l H b m D→[zI,EA F [zn,D] a [QN] t l r cs N,m],∀(a:ab)(d:du)(m:Hp)(D:[bv]),[b9,bJ F l H b m D,EB F [zn,D] a [QN] t l r d,d.2.1≤1000,d.2.2≤1000,Q [bi] m]]
def OI(F:aS)(l:Nat):Sp:=λ U H Q _=>∃(e:[bv])(k:Nat)(p T:ab)(L:Vs.a8)(B:Nat)(b:Vs.bx)(r:Nat),[bn,U=[[zl],[cX],.ref T,nV B,nV l,nV r],bA F H e,F.aO[k]?=Z p,fi (Zh (aP F e) H) T L,[kw,[wo],Vs.IsT (Vs.dr F.ks) B b,b k<[Aa,k],1≤l,[PN,b],∀(a:ab)(cs:[ak])(N:Nat)(m:Hp)(D:[bv]),bJ F (l-1) H e m D→[zI,EA F [zn,D] a (λ cs=>∃c,cs=k::c∧[K1,L,c]) b l r cs N,m],∀(a:ab)(d:du)(m:Hp)(D:[bv]),bJ F (l-1) H e m D→[zI,EB F [zn,D] a (λ cs=>∃c,cs=k::c∧[K1,L,c]) b l r d,m]]]
def EC(F:aS)(l:Nat):Sp:=λ U H Q _=>∃(a:[bv])(i:Nat)(e:KE)(B:Nat)(b:Vs.bx)(r:Nat),[bn,U=[[zl],[AW],nV B,nV l,nV r],bA F H a,a[i]?=Z e,Vs.IsT (Vs.dr F.ks) B b,[bn,[PN,b],∀c∈e.g.cs,c.cs.length≤l→[ni,c.cs]≤r→[Kk,c.cs,b],∀k,0<b k→∃c∈e.g.cs,c.cs.length≤l∧[ni,c.cs]≤r∧∀j,j∈c.cs→[Aa,j]<[JZ]+b j→j=k,∀p∈e.g.ls,¬(p.b=b∧p.l=l∧p.r=r),∀(m:Hp)(D:[bv])(f:KE),(bJ F l H a m D→D[i]?=Z f→(e.g.cs.length<f.g.cs.length∨∃c∈f.g.ls,c.b=b∧l≤c.words∧r≤c.size)→Q .bh m)]]
end VP
end
section
namespace VP
open PySem L2
theorem OJ(n k:Nat)(t:Vs.bx)(f:[dj])(C:k<n):(Vs.bZ n (λ j=>Vs.dn t k (t k+1) j*f j))=(Vs.bZ n (λ j=>t j*f j))+f k:=by
 have s:∀m,m≤k→Vs.bZ m (λ j=>Vs.dn t k (t k+1) j*f j)=Vs.bZ m (λ j=>t j*f j):=by intro m;induction m with|zero=>intro _;rfl|succ m T=>intro h;show Vs.bZ m _+Vs.dn t k (t k+1) m*f m=Vs.bZ m _+t m*f m;rw[T [ac],Vs.gL [ym,m≠k]]
 induction n with
  |zero=>omega
  |succ n T=>
   show(Vs.bZ n _)+Vs.dn t k (t k+1) n*f n=(Vs.bZ n _)+t n*f n+_;by_cases h:k=n;·subst h;rw[s k (ba _),Vs.hJ,BR];omega
   ·rw[T [ac],Vs.gL (λ z=>h z.symm)];omega
theorem Yy(n k:Nat)(t:Vs.bx)(C:k<n):(Vs.bZ n (Vs.dn t k (t k+1)))=(Vs.bZ n t)+1:=by rw[105,OJ n k t (λ _=>1) C]
theorem Yz{ks:[d6]}{most k l r:Nat}{b:Vs.bx}(C:[zm,k])(h:Vs.iV ks most b (l+1) r)(G:Vs.b0 ks k≤r):Vs.iV ks most (Vs.dn b k (b k+1)) l (r-Vs.b0 ks k):=by
 obtain⟨e,x,g,a,P⟩:=h;rw[28,e,x,?_,?_,P];·rw[31,Yy _ _ _ C]
 ·unfold Vs.mW at*;rw[31,OJ _ _ _ _ C]
theorem iV.room{ks:[d6]}{most l r:Nat}{b:Vs.bx}(h:Vs.iV ks most b l r):r≤256∧l≤most:=by obtain⟨e,x,g,a,P⟩:=h;omega
theorem bA.free{F:aS}{H:Hp}{a:[bv]}(S:bA F H a){x:ab}(h:H x=none):x∉aP F a:=by
 intro A;rcases ib.mp A with rfl|rfl|rfl|rfl|⟨e,R,rfl|rfl⟩|A;·rw[134,S.k1]
 ·rw[134,S.k2]
 ·obtain⟨_,q⟩:=S.k3;rw[71,h]
 ·rw[134,S.tab]
 ·obtain⟨_,_,_,_,_,q,_⟩:=[CU,R];rw[71,h]
 ·obtain⟨_,_,_,_,_,_,q,_⟩:=[CU,R];rw[71,h]
 ·rw[77,x,A];rw[h]at q;cases o<;>cases q
theorem xX{F:aS}{H:Hp}{a:[bv]}(S:bA F H a){x W C:ab}{names:[bj]}{d:du}(A:H x=none)(b:H W=none):ah H (ag [Go,H,x,C] x (.ins C W [zW,r9 d]))∧fX C names (Zh (aP F a) (ag [Go,H,x,C] x (.ins C W [zW,r9 d]))) x d:=by rw[24,ah.aT (ah.aT [mt,b] A) A,W,[rs,aw,S.free A]]
structure jn(K:aF)(mg:[a_])(F:aS):Prop where
 eu:[CI,F.bN]
 TK:[M3,F.CK]
 TC:[Mz,F.CC]
 TL:[M4,F.CL]
 cZ:[Pp,F.bo]
 used:∃f v,[rf,"is_used_up","Kind.is_used_up",xl,F.bN,f,v,[xL]]
 YA:∃f v,[rf,"taken_with",[PR],uy,F.bN,f,v,[xL]]
 YB:∃f v,[rf,"needs_with","Kind.needs_with",xm,F.bN,f,v,"needs"]
 iC:∃f v,iM K [Pw] uD F.CC f v [H_]
 iL:∃f v,iM K "Lack.__init__" xr F.CL f v [HZ]
 iK:∃f v,iM K "Known.__init__" xu F.CK f v [Ln]
 OK:∃f v,[rf,"covers","Lack.covers",uE,F.CL,f,v,"other"]
 OL:∃f v,[rf,"add_lack","Known.add_lack",uF,F.CK,f,v,"lack"]
 YC:∃f v,[eq,"answer_where","Known.answer_where",xw,F.CK,f,v,[A3]]
 w9:∃f v,[eq,"hits","Known.hits",rO,F.CK,f,v,[A3]]
 cB:[EW,"BOUNDLESS",nV 1000]
 nB:InstB K F.CC F.CC true
 nE:InstB K F.CL F.CC false
 B:el mg
theorem YD{ks:[d6]}{k:Nat}{b:Vs.bx}{c:[ak]}(h:Vs.eF (Vs.cF ks) c (Vs.dn b k (b k+1))):Vs.eF (Vs.cF ks) (k::c) b:=by
 obtain⟨j,U,q⟩:=h;rw[29,j,cp _ U];rw[i8];by_cases z:j=k;·subst z;rw[Vs.hJ]at q;rw[18]
 ·rw[Vs.gL z]at q;omega
theorem YE{ks:[d6]}{k:Nat}{b:Vs.bx}{c:[ak]}(K:b k<Vs.cF ks k)(h:¬Vs.eF (Vs.cF ks) c (Vs.dn b k (b k+1))):¬Vs.eF (Vs.cF ks) (k::c) b∧c.count k<Vs.cF ks k:=by
 have C:c.count k+1+b k≤Vs.cF ks k:=by
  by_cases z:k∈c;·apply kT;intro y;exact h ⟨k,z,[gL,Vs.hJ]⟩
  ·rw[31,List.count_eq_zero_of_not_mem z]
 rw[15,?_,[ac]];rintro⟨j,U,q⟩;rw[i8]at q;by_cases z:j=k;·subst z;simp at q;omega
 ·have D:¬(k=j):=λ w=>z w.symm
  simp[D]at q;rcases[dE,U]with y|y;rw[2,z y,h ⟨j,y,[ar,Vs.gL z,q]⟩]
section
variable{P:aY}{w:aU}{K:aF}{mg:[a_]}{base:aE}
theorem YF{F:aS}(I:cw F)(G:[Ab]){n:Nat}{fA fW fO:ab}{fdA fdW fdO:bq}(MW:[eq,[On],[Ob],rT,F.bo,fW,fdW,[J_]])(MA:[Th,fA,fdA])(MO:[eq,"known_of",[Og],rP,F.bo,fO,fdO,[iZ]])(GO:aA P w K mg base aG 15 fO fdO [iZ] (xW F))(GA:aA P w K mg base aG (3*n+20) fA fdA [LN] (Ar F n)):aA P w K mg base aG (3*n+21) fW fdW [J_] (OI F (n+1)):=by
 have nd:=NM.nd;obtain⟨fT,fdT,MT⟩:=G.YA;obtain⟨fN,fdN,MN⟩:=G.YB;obtain⟨fC,fdC,IC⟩:=G.iC;obtain⟨fL,fdL,IL⟩:=G.iL;obtain⟨uB,hB,rB⟩:=G.cB;have GT:aA P w K mg base aG 1 fT fdT [Cg] (Em F.bN):=Oi MT G.eu;have GN:aA P w K mg base aG 1 fN fdN [[ck],"needs"] (Oj F.bN):=Yq MN G.eu;have GC:aA P w K mg base aG 1 fC fdC [H_] (r_ F.CC d7):=Ot IC G.TC;have GL:aA P w K mg base aG 1 fL fdL [HZ] (r_ F.CL dI):=Ep IL G.TL;rw[60,MW.fn.ok,NM];·obtain⟨gs,k,p,ta,st,B,b,r,rfl,_⟩:=h;rfl
 obtain⟨gs,k,p,ta,st,B,b,r,rfl,S,hkp,hst,hU,hT,hbk,_,T,kC,kL⟩:=h;have M:cy 2 _:=[yf,2,3*n+20];rw[112,3*n+20];have hrO:cy 15 _:=[yf,15,3*n+20];rw[54,[lA,[dU,zL,[jh,1],pv 5],bB [Ku,IL.ma,GL,M,G.TL.mg,IL.b,pv 3,b8 J hB rB,ak (cj ly [jh,1] bu) aB]],[Ea,6,[pM,pv 0,G.cZ.cl,MA.me,GA,hr,MA.b,[pM,pv 0,G.cZ.cl,MO.me,GO,hrO,MO.b,pv 2,aB],ak [pM,pv 1,G.eu.cl,MT.me,GT,hr1,MT.b,pv 3,aB] [Ae,cj ly (pv 4) bu,cj ly (pv 5) [jh,1]]],[Bj,iH [De,Ey,G.B.isinstance,Rp,[Cr,6,b8 (v:=.ref F.CC) J G.TC.mg J]],[Ku,IC.ma,GC,M,G.TC.mg,IC.b,[pM,pv 1,G.eu.cl,MN.me,GN,hr1,MN.b,[jh,6],aB],[zZ,[jh,6]],ak (cj gj [jh,6] [jh,1]) aB]],[Ku,IL.ma,GL,M,G.TL.mg,IL.b,pv 3,[zZ,[jh,6]],ak (cj gj [jh,6] [jh,1]) aB]]];have y:[qP,k]:=[cE,S.kinds.len,[eJ,hkp]];have t:=bX y;generalize F.ks[k]=g at t;have X:[Fi,k]=g.size:=Vs.T_ t;have ecap:[Aa,k]=g.count:=Vs.qV t;have hsz:g.size≤24:=I.K.size g (bt t);have Y:∀{H':Hp}{D:[bv]},bA F H' D→∃W nu sh,H' p=[ff,F.bN,fR.zip (oR nu sh g)]:=λ S'=>by obtain⟨p',nu,sh,h1,⟨W,h2⟩,_⟩:=S'.kinds.at_ k g t;rw[hkp]at h1;rw[6,h1,⟨W,nu,sh,bp _ _ h2⟩]
 have coAt:∀{H':Hp}{D:[bv]},bA F H' D→∃W,H' F.co=[ff,F.bo,[Tn]]:=λ S'=>by obtain⟨W,h2⟩:=S'.co;rw[0,W,bp _ _ h2]
 obtain⟨W,nu,sh,hp⟩:=Y S;rw[33,⟨_,J,p,F.bN,W,_,_,J,hp,G.eu.cl,G.eu.na 2 _ J,[lz,G.eu.nd,2],_,J,_,_,J,J,_,J,?_⟩,[ap,r]<[ap,g.size]];by_cases hbig:r<g.size
 ·rw[13,[wh],aV ⟨_,J,_,J,p,F.bN,W,_,_,J,hp,G.eu.cl,G.eu.na 2 _ J,[lz,G.eu.nd,2],_,_,J,J,[Pg,(B,1000,g.size-1),?_]⟩];·rw[14,[(V.ref x),nV B,nV 1000,(V.int ([ap,g.size]-1))]=[(V.ref x),nV B,nV 1000,nV (g.size-1)],[ym,([ap,g.size]-1)=[aV,g.size-1]]]
  ·obtain⟨s1,t1⟩:=[QR,1000,g.size-1,S];have hro:=iV.room T;have hm:=I.K.most;refine kL x _ _ gs (bJ.grow I _ S s1) ⟨t1,by rw[20,n+1≤1000],by rw[20,r≤g.size-1],⟨by rw[20,1000≤1001],by rw[20,g.size-1≤1100]⟩,?_⟩;rintro cs⟨c,rfl,_⟩_ f;exfalso;have:[ni,k::c]=[ni,c]+[Fi,k]:=J;rw[this,X]at f;have f:[ni,c]+g.size≤g.size-1:=f;omega
 ·rw[[ol]];obtain⟨dco,hco⟩:=coAt S;refine a_ ⟨_,J,F.co,dco,_,J,hco,[fz],_,J,F.co,dco,_,J,hco,[fz],_,J,gs,ta,st,J,S,hst,hU,λ i e H1 gs1 he hof R=>?_⟩;have S1:=R.st;obtain⟨U,nu1,sh1,O⟩:=Y S1;have hT':=Vs.K2 I.K.sep hT (Vs.iF t) [ym,b k<g.count];rw[3,⟨_,J,p,U,_,J,O,[fz],_,J,p,nu1,sh1,g,B,J,⟨U,O⟩,_,J,_,_,J,J,_,J,_,J,p,F.bN,U,_,_,J,O,G.eu.cl,G.eu.na 2 _ J,[lz,G.eu.nd,2],_,_,J,J,?_⟩,⟨gs1,i,e,_,_,r-g.size,?_,S1,he,hT',?_,λ a cs N H2 u m o=>?_,λ a d H2 u m o hd1 hd2=>?_⟩];·show[(V.ref F.co),(V.ref e.kn),nV _,(V.int ([aV,n+1]-1)),(V.int ([ap,r]-[ap,g.size]))]=[(V.ref F.co),(V.ref e.kn),nV _,nV n,nV (r-g.size)];rw[[ym,([aV,n+1]-1)=[aV,n]],[ym,([ap,r]-[ap,g.size])=[aV,r-g.size]]];rfl
  ·rw[56,Yz y T [gL,X],X]
  ·have q:=((R.mono (b7 n)).trans m);have l:=m.st;obtain⟨dx2,nu2,sh2,L⟩:=Y l;rw[155,o.at_];rw[3,⟨_,J,[bi],F.CC,_,true,J,G.nB.ty ha,G.nB.nA,_,J,aV ?_⟩,⟨_,J,p,dx2,_,J,L,[fz],_,J,a,F.CC,da,_,_,J,ha,G.TC.cl,G.TC.na 0 _ J,[lz,G.TC.nd,0],p,nu2,sh2,g,N,J,⟨dx2,L⟩,_,J,a,F.CC,da,_,_,J,ha,G.TC.cl,G.TC.na 1 _ J,[lz,G.TC.nd,1],_,_,J,J,_,J,a,F.CC,da,_,_,J,ha,G.TC.cl,G.TC.na 2 _ J,[lz,G.TC.nd,2],[LQ,G.eu,2,L,[Pg,((N-(N&&&Vs.bS g.bl)+[Pe,N&&&Vs.bS g.bl,2^(g.place+g.count-1)]),(k::cs).length,[ni,k::cs]),?_]]⟩];·rw[14,[(V.ref x),nV _,(V.int ([ap,cs.length]+1)),(V.int ([ap,[ni,cs]]+[ap,g.size]))]=[(V.ref x),nV _,nV (cs.length+1),nV ([ni,cs]+[Fi,k])],X];rfl
   ·obtain⟨s3,t3⟩:=xX (C:=F.CC) (names:=d7) (d:=((N-(N&&&Vs.bS g.bl)+[Pe,N&&&Vs.bS g.bl,2^(g.place+g.count-1)]),(k::cs).length,[ni,k::cs])) l nx ny;obtain⟨f1,f2⟩:=YE hbk o.free;have cin:∀j∈k::cs,[qP,j]:=λ j hj=>by rcases[dE,hj]with rfl|hj;rw[2,y,o.oy j hj]
    have hN:=Vs.T8 I.K.sep o.jw (Vs.iF t) [ym,[qU]<g.count];have eN:(λ j=>(k::cs).count j)=Vs.dn (λ j=>cs.count j) k ([qU]+1):=by
     funext j;rw[i8];by_cases z:j=k;·subst z;rw[19,Vs.hJ]
     ·rw[Vs.gL z];have z':¬(k=j):=λ w=>z w.symm
      simp[z']
    refine kC x (k::cs) _ _ u (q.trans (bJ.grow I _ l s3)) ⟨t3,[Ck,cs,J,Aq I hU hof cs,o.comp],cin,?_,λ j=>?_,?_,?_,f1⟩;rw[11,eN,hN]
    ·rw[congrFun eN j];by_cases z:j=k;·subst z;rw[31,Vs.hJ]
     rw[11,Vs.gL z,o.fx j]
    ·have:=o.words;rw[20,cs.length+1≤n+1]
    ·have:=o.size;show[ni,cs]+[Fi,k]≤r;rw[31,X]
  ·have q:=((R.mono (b7 n)).trans m);have l:=m.st;obtain⟨dx2,nu2,sh2,L⟩:=Y l;rw[155,o.at_];rw[3,⟨_,J,[bi],F.CC,_,false,J,G.nE.ty ha,G.nE.nA,_,J,a_ ?_⟩,⟨_,J,_,J,a,F.CL,da,_,_,J,ha,G.TL.cl,G.TL.na 1 _ J,[lz,G.TL.nd,1],_,_,J,J,_,J,a,F.CL,da,_,_,J,ha,G.TL.cl,G.TL.na 2 _ J,[lz,G.TL.nd,2],[LQ,G.eu,2,L,[Pg,(B,d.2.1+1,d.2.2+g.size),J]]⟩];obtain⟨s3,t3⟩:=[QR,d.2.1+1,d.2.2+g.size,l];have w1:=o.words;have w2:=o.size;refine kL x _ _ u (q.trans (bJ.grow I _ l s3)) ⟨t3,by rw[20,n+1≤d.2.1+1],by rw[20,r≤d.2.2+g.size],⟨by rw[20,d.2.1+1≤1001],by rw[20,d.2.2+g.size≤1100]⟩,?_⟩;rintro cs⟨c,rfl,hc⟩hl f;have hl:c.length+1≤d.2.1+1:=hl;have f:[ni,c]+[Fi,k]≤d.2.2+g.size:=f;rw[X]at f;exact YD (o.pI c ((Aq I hU hof c).mp hc) [ac] [ac])
end
end VP
end
section
namespace VP
open PySem L2
theorem OM{m:bT}{ks:[d6]}{most:Nat}{g0 g:Vs.GK}{c:Vs.GL}(G:Vs.jc m ks most g)(F:∀p∈g.ls,p∈g0.ls∨p.l<c.l)(V:Vs.v_ m ks most g.c0 g.steps c)(ls:List Vs.GL)(a:ls.Sublist g.ls)(b:∀p∈g0.ls,¬(p.b=c.b∧p.l=c.l∧p.r=c.r)):Vs.jc m ks most {g with ls:=ls++[c]}:=by
 rw[28,G.comps,[ro],G.Cw,?_,G.done];·rw[135,R,G.qW p (a.subset h)];·rw[102];exact V
 ·rw[13,RN,[zO,G.apart.sublist a,λ p R q D e=>?_]];simp at D;subst D;rcases F p (a.subset R)with h|h;·exact b p h e
  ·omega
theorem ON{C:ab}{names:[bj]}{M:[aT]}{H:Hp}:∀{c:[aT]}{B:List du},([KW,H])→(∀a∈c,a∉M)→[KW,Zh M H]|_,_,.nil,_=>.nil|_,_,.cons (a:=a) r t,h=>(.cons (let⟨W,e⟩:=r;⟨W,[rs,e,h a cq]⟩) (ON t λ b K=>h b (cp _ K)))
theorem YG{C:ab}{names:[bj]}{M:[aT]}{H:Hp}{c:[aT]}{B:List du}(h:[KW,Zh M H]):∀a∈c,a∉M:=λ a ha=>by obtain⟨i,O,m⟩:=gY ha;obtain⟨d,_,W,e⟩:=[MU,h,a,O,m];exact[wq].2
theorem OO{F:aS}(I:cw F){H m:Hp}{d:[bv]}(S:bA F H d){i:Nat}{e:KE}(O:d[i]?=Z e){c:Vs.GL}{la W L K r:ab}{D n:[aT]}(B:H e.kn=[ff,F.CK,[LU,e.cl,K]])(Q:d8 F.CL dI (Zh (aP F d) H) D (e.g.ls.map eh))(P:fX F.CL dI (Zh (aP F d) H) la (eh c))(f:H r=none)(h:m r=Z (.aj (n.map V.ref)))(k:d8 F.CL dI m n (((e.g.ls.map eh).filter (λ x=>! iy (eh c) x))++[eh c]))(r4:∀a∈n,a∈D∨a=la)(r5:m e.kn=[ff,F.CK,[LU,e.cl,r]])(U:[C9,e.kn,m b])(hG:[MJ,{e.g with ls:=[SB,c]++[c]}]):bA F m (d.set i {e with g:={e.g with ls:=[SB,c]++[c]}})∧ah (Zh (aP F d) H) [zn,d]∧[KL,m]:=by
 have l:=bt O;have z:ah (Zh (aP F d) H) [zn,d]:=λ b o q=>by rw[45,bV.mp q,bV.mpr [ut,U _ _ this.1 λ w=>this.2 [ar,w,OD l],this]]
 obtain⟨dx0,p,u,y,N,v,j,a3,C,a5,a6⟩:=[CU,l];have R:=[dF,v.symm.trans B];injection R with _ e13 T;have t:=ed (qK (·.2)) T;rw[BB (l₁:=fU) (l₂:=[Np,p,e.cl,u]) (ba 3),BB (l₁:=fU) (l₂:=[Np,L,e.cl,K]) (ba 3)]at t;simp only[R5,V.ref.injEq,pw,true_and]at t;obtain⟨X,e17⟩:=t;subst X;rw[24,S.OH I O _ J J z (λ b o q _ E _=>U b o q E) ⟨W,p,r,y,n,r5,U _ _ j [Ch,j,v],[rs,h,S.free f],C.mono (dF z),a5.mono z,?_⟩ hG,z,[Pk,(U _ _ q ([Cb].2.2.2.2 e l).1).trans q.symm]];have G:=ON (M:=aP F d) k λ a ha=>by rw[92,r4 a ha,YG Q a q];·subst q;obtain⟨_,w⟩:=P;exact(bV.mp w).2
 rw[List.filter_map]at G;rw[39,d8 F.CL dI _ n (([SB,c]++[c]).map eh),cH,G]
theorem YH{F:aS}(I:cw F){H:Hp}{d:[bv]}(S:bA F H d){i:Nat}{e:KE}(O:d[i]?=Z e){c:Vs.GC}{a:ab}{G:[aT]}(Y:H e.cl=Z (.aj [wk]))(l:d8 F.CC d7 (Zh (aP F d) H) G (e.g.cs.map (jm F)))(ha:fX F.CC d7 (Zh (aP F d) H) a (jm F c))(K:G.length<aQ)(X:[MJ,{e.g with cs:=e.g.cs++[c]}]):bA F (ag H e.cl (.aj ([wk]++[rD]))) (d.set i {e with g:={e.g with cs:=e.g.cs++[c]}})∧ah (Zh (aP F d) H) (Zh (aP F d) (ag H e.cl (.aj ([wk]++[rD]))))∧∀x∈F.X,ag H e.cl (.aj ([wk]++[rD])) x=H x:=by
 have M:=bt O;have z:ah (Zh (aP F d) H) (Zh (aP F d) (ag H e.cl (.aj ([wk]++[rD])))):=λ b o q=>by rw[45,bV.mp q,bV.mpr [ut,[b8,λ w=>this.2 [ar,w,OE M],this.1],this]]
 obtain⟨p,m,n,r,u,v,f,h,C,j,k⟩:=[CU,M];rw[24,S.OH I O _ J J z (λ b o q _ _ D=>[b8,D,q]) ⟨p,m,n,G++[a],u,?_,?_,z _ _ h,C.mono (dF z),?_,k.mono z⟩ X,z,λ x A=>ar ([Cb].2.2.2.2 e M).2];·rw[39,ag H e.cl _ e.kn=_,ar [Ch,v,f],v]
 ·show ag H e.cl _ e.cl=_;rw[aw,cH];rfl
 ·rw[39,d8 F.CC d7 _ (G++[a]) ((e.g.cs++[c]).map (jm F)),cH,Eu (l.mono z) [qu,ha.mono z]]
theorem ED{F:aS}{l:Nat}{H d M:Hp}{c E:[bv]}{i:Nat}{e1:KE}{Q:Vs.GK}(a:bJ F l H c d E)(O:E[i]?=Z e1)(n:bA F M (E.set i [J7,e1]))(z:ah (Zh (aP F E) d) (Zh (aP F E) M))(A:∀x∈F.X,M x=d x)(m:Vs.eG l e1.g Q):bJ F l H c M (E.set i [J7,e1]):=by
 have N:aP F (E.set i [J7,e1])=aP F E:=OG O J J;have o:=[eJ,O];rw[17,n,[ar,N,a.z.trans z],λ j e h=>?_,λ x q=>[eY,A,x,q,a.xs x q]];obtain⟨k,b,r,P,f⟩:=a.ext j e h;by_cases q:j=i;·subst q;rw[O]at b;rw[6,b,⟨_,qx o,r,P,f.trans m⟩]
 ·rw[9,k,[ar,yA (λ w=>q w.symm),b],r,P,f]
theorem YI{ks:[d6]}{k:Nat}{b:Vs.bx}{c:[ak]}(h:Vs.cF ks k≤b k):Vs.eF (Vs.cF ks) (k::c) b:=⟨k,cq,[gL,RQ]⟩
theorem OP{F:aS}(I:cw F){m:Vs.GK}(A:[MJ,m]){B:Nat}{b:Vs.bx}{l r w s:Nat}(Y:Vs.IsT (Vs.dr F.ks) B b)(o:[PN,b])(p:∀k,0<b k→∃c∈m.cs,c.cs.length≤l∧[ni,c.cs]≤r∧∀j,j∈c.cs→[Aa,j]<[JZ]+b j→j=k)(T:l≤w)(G:r≤s)(h:w≤1000∧s≤1000)(pI:∀cs,(Vs.cM F.m F.ks m.c0 m.steps cs→([Dk,w])→[ni,cs]≤s→[Kk,cs,b])):Vs.v_ F.m F.ks F.most m.c0 m.steps ⟨B,w,s,b,l,r⟩:=by
 rw[47,Y,pI,T,G,h,⟨λ cs g a P=>pI cs g (bf a T) (bf P G),[zj],[zj]⟩,o];·obtain⟨c,V,n,X,f⟩:=p k C;rw[45,A.comps c V,⟨c.cs,this.comp,n,X,this.at_.fx,f⟩]
 ·exact Y.out k (by unfold Vs.dr;rw[4,aC,C])
theorem OQ{F:aS}{m:Vs.GK}(A:[MJ,m]){b:Vs.bx}{l r:Nat}(T:∀c∈m.cs,c.cs.length≤l→[ni,c.cs]≤r→[Kk,c.cs,b]):[aw,m.c0]:=by cases e:m.c0 with|false=>rfl|true=>obtain⟨c,V,H⟩:=A.done e;rw[38,T c V [ar,H,b7 _] [ar,H,b7 _],H];obtain⟨k,C,_⟩:=this;cases C
section
variable{P:aY}{w:aU}{K:aF}{mg:[a_]}{base:aE}
theorem YJ{F:aS}(I:cw F)(G:[Ab]){fS:ab}{z:bq}(MS:[Qi,fS,z]):aA P w K mg base aG 19 fS z [Nm] (EC F 0):=by
 have nd:=Aj.nd;obtain⟨fL,N,l⟩:=G.iL;obtain⟨fa,X,t⟩:=G.OL;obtain⟨fc,fdc,Mc⟩:=G.OK;obtain⟨uB,hB,rB⟩:=G.cB;have GL:aA P w K mg base aG 1 fL N [HZ] (r_ F.CL dI):=Ep l G.TL;have Ga:aA P w K mg base aG 2 fa X [OT] (Ex F.CK F.CL):=Oy t G.TK Mc G.TL;rw[60,MS.fn.ok,Aj];·obtain⟨gs,i,e,B,b,r,rfl,_⟩:=h;rfl
 obtain⟨gs,i,e,B,b,r,rfl,S,O,hT,o,T,D,a,k⟩:=h;have f:cy 2 _:=[yf,2,18];rw[54,cI [dU,e_,pv 3,bu] (aK (j0 [pM,pv 1,G.TK.cl,t.me,Ga,f,t.b,[Ku,l.ma,GL,f,G.TL.mg,l.b,pv 2,bu,ak (b8 J hB rB) aB],aB]) (aN Lg)) cQ,Lh];have M:=bt O;obtain⟨dx,st,ll,cas,las,a1,a2,a3,a4,a5,a6⟩:=[CU,M];have j:=(S.kn e M).2;have L:=OQ j T;have hro:=iV.room o;rw[61,J,_,J,aV ⟨_,J,e.kn,dx,_,J,a1,[fz],_,J,[Pg,(B,0,1000),J]⟩];obtain⟨Y,t1⟩:=[QR,0,1000,S];have y:=S.grow I Y;obtain⟨m,u,U,cas1,W,V,b2,b3,b4,b5,R⟩:=(y.kn e M).1.ex;refine⟨e.kn,m,u,e.cl,U,x,W,e.g.ls.map eh,(B,0,1000),J,V,bp _ _ b3,R.mono bp,t1.mono bp,?_,λ ll' las' H' r1 r2 r3 r4 r5 r6=>?_⟩;·have g:=er R;rw[aC]at g;rw[4,g,bf (RW (j.K4 I.K) 1) [bd]]
 ·have v:Vs.v_ F.m F.ks F.most e.g.c0 e.g.steps ⟨B,0,1000,b,0,r⟩:=OP I j hT o D (ba _) [ac] ⟨[ac],[ac]⟩ λ cs g h2 h3=>by cases cs with|nil=>rw[L]at g;cases g|cons k c=>simp at h2
  have hG:=OM (g0:=e.g) (c:=⟨B,0,1000,b,0,r⟩) j (λ p hp=>.inl hp) v [SB,⟨B,0,1000,b,0,r⟩] Bs a;obtain⟨S2,z2,x2⟩:=OO I y O (c:=⟨B,0,1000,b,0,r⟩) (la:=x) V R t1 r1 r2 r3 r4 r5 r6 hG;have n:=[eJ,O];refine k H' _ _ (ED (bJ.grow I 0 S Y) O S2 z2 x2 ⟨J,J,[zO,[],[al]],λ c hc=>?_⟩) (qx n) (.inr [d9,_,iQ _ cq,b7 _,by rw[20,r≤1000]]);rcases[gM,hc]with q|q;·rw[21,[E4,q].1]
  ·rw[113];exact .inr (ba _)
end
end VP
end
section
namespace VP
open PySem L2
section
variable{P:aY}{w:aU}{K:aF}{mg:[a_]}{base:aE}
theorem OR(a b:Nat):[QB,b,a]=[aV,min a b]:=by
 by_cases h:b<a;·rw[aI [ac],Jd [ac]]
 ·rw[aD [ac],yJ [ac]]
def vb(F:aS)(b:Vs.bx)(w s:Nat)(p:[KH]):Prop:=∀c,(([K1,p.2,c])→(p.1::c).length≤w→[ni,p.1::c]≤s→[Kk,p.1::c,b])
theorem vb.mono{F:aS}{b:Vs.bx}{w s m d:Nat}{p:[KH]}(h:vb F b w s p)(g:m≤w)(r:d≤s):vb F b m d p:=λ c V n X=>h c V (bf n g) (bf X r)
theorem YK{F:aS}(I:cw F)(G:[Ab]){n:Nat}{fS fW:ab}{fdS fdW:bq}(MS:[Qi,fS,fdS])(MW:[eq,[On],[Ob],rT,F.bo,fW,fdW,[J_]])(GW:aA P w K mg base aG (3*n+21) fW fdW [J_] (OI F (n+1))):aA P w K mg base aG (3*n+22) fS fdS [Nm] (EC F (n+1)):=by
 have nd:=Aj.nd;obtain⟨fL,fdL,IL⟩:=G.iL;obtain⟨fa,fda,Ma⟩:=G.OL;obtain⟨fc,fdc,Mc⟩:=G.OK;obtain⟨fu,fdu,Mu⟩:=G.used;obtain⟨uB,hB,rB⟩:=G.cB;have GL:aA P w K mg base aG 1 fL fdL [HZ] (r_ F.CL dI):=Ep IL G.TL;have Ga:aA P w K mg base aG 2 fa fda [OT] (Ex F.CK F.CL):=Oy Ma G.TK Mc G.TL;have Gu:aA P w K mg base aG 1 fu fdu [Cg] (Oh F.bN):=Yp Mu G.eu;rw[60,MS.fn.ok,Aj];·obtain⟨gs,i,e,B,b,r,rfl,_⟩:=h;rfl
 obtain⟨gs,i,e,B,b,r,rfl,S,hi,hT,O,hits,weak,new,k⟩:=h;have hr2:cy 2 _:=[yf,2,3*n+21];rw[112,3*n+21];rw[54,cI [dU,e_,pv 3,bu] Lh cQ,[Eg,5,b8 J hB rB,6,b8 J hB rB,aK (eJ dX J (CW [jh,1]) [OU,7,8,oC] (aK [ui,9,fQ ni [er] (pv 7) (λ _ _=>J)] (aN (cI (rg (iH [pM,pv 9,G.eu.cl,Mu.me,Gu,hr1,Mu.b,pv 2,aB])) [At,10,[pM,pv 0,G.cZ.cl,MW.me,GW,hr,MW.b,pv 9,ak (pv 8) (ak (pv 2) [Kn])],cI (iH [De,Ey,G.B.isinstance,Rp,[Cr,10,b8 (v:=.ref F.CC) J G.TC.mg J]]) (aK (j0 [Qm,[jh,1],10]) (aN Lg)) cQ,aK [ui,5,[De,C9 J,G.B.min,Ry,[Cr,5,[jh,10]]]] (aN [ui,6,[De,C9 J,G.B.min,Ry,[Cr,6,[jh,10]]]])] cQ)))) (aN (j0 [pM,pv 1,G.TK.cl,Ma.me,Ga,hr2,Ma.b,[Ku,IL.ma,GL,hr2,G.TL.mg,IL.b,pv 2,pv 5,[gv,6]],aB]))]];have hem:=bt hi;obtain⟨dx,st,ll,cas,las,a1,a2,a3,⟨vs,hvs,T⟩,a5,a6⟩:=[CU,hem];have G0:=(S.kn e hem).2;have hend:=OQ G0 hits;have hro:=iV.room O;have hm12:=I.K.most;obtain⟨Y,hU0,hof⟩:=S.of e hem;have kx:K=(gy aG P w K mg base [[ck],"known","barred","left","room","words","size",[lf],"target","kind","found"] [QA] (aZ oO) fS cdv A outer s H E).jZ.K:=J;refine[wY,?_];have e0:[aw,[A5,[aV,n+1]]]:=by rw[mh];rw[18]
 show[wO,[A5,[aV,n+1]]];rw[13,e0,a_ ⟨_,J,e.kn,F.CK,dx,_,_,J,a1,G.TK.cl,G.TK.na 0 _ J,[lz,G.TK.nd,0],st,J,[gt,bM.of (bp _ _ hvs)],[m6,CY,st,vs,λ j σ H'=>∃(gs':[bv])(wd sz:Nat)(v7 v8 v9 v10:[dL]),[kw,σ=[Z [zl],Z [AW],Z (nV B),Z (nV (n+1)),Z (nV r),Z (nV wd),Z (nV sz),v7,v8,v9,v10],bJ F n H gs H' gs',n+1≤wd,wd≤1000,r≤sz,sz≤1000,∀W p,W<j→e.g.steps[W]?=Z p→vb F b wd sz p],⟨gs,1000,1000,none,none,none,none,J,bJ.refl n S,[ac],[ac],[ac],[ac],λ W p h=>[e9,h,Nat.not_lt_zero _]⟩,λ j σ H' _⟨gs',_,_,_,_,_,_,_,D,_⟩=>bM.of (bp _ _ (D.z _ _ hvs))]⟩]
 ·rintro j y σ H1 hj⟨gs1,wd,sz,v7,v8,v9,v10,rfl,D,w1,w2,w3,w4,hst⟩;obtain⟨⟨f,tt⟩,hp,pa,sa,rfl,hpa,hsa⟩:=d6 T hj;have m:=D.st;have hpa1:=D.z _ _ hpa;have hsa1:=hsa.mono (dF D.z);have hmem:(f,tt)∈iA F Y:=[cE,hof.2,bt hp];obtain⟨hkl,htg⟩:=Ez.mp hmem;have hUt:=I.u_ Y f tt hU0 hkl htg;have ek:=bX hkl;generalize F.ks[f]=kd at ek;obtain⟨p,nu,sh,hkp,⟨dk,hk⟩,_,_⟩:=m.kinds.at_ f kd ek;have hk:=bp _ _ hk;obtain⟨dco,L⟩:=m.co;have L:=bp _ _ L;have ecap:[Aa,f]=kd.count:=Vs.qV ek;rw[3,⟨pa,_,J,bM.of (bp _ _ hpa1),J,_,_,J,_,_,J,J,?_⟩,⟨_,J,F.co,F.bo,dco,_,_,J,L,G.cZ.cl,[DR,1],[El,1],_,J,F.ka,_,_,_,J,J,[pc,bp,m.ka],at_of (j:=f) (v:=(V.ref p)) J [jl,cJ,hkp],_,J,p,dk,_,J,hk,[fz],_,J,p,nu,sh,kd,B,J,⟨dk,hk⟩,_,J,?_⟩];have used:=Vs.T6 I.K.sep hT (Vs.iF ek);have step:∀{wd' sz':Nat},(wd'≤wd→sz'≤sz→vb F b wd' sz' (f,tt)→∀W q,W<j+1→e.g.steps[W]?=Z q→vb F b wd' sz' q):=λ g h2 hq W q hj' hq'=>by
   by_cases z:W<j;·exact(hst W q z hq').mono g h2
   ·have:W=j:=[ac];subst this;rw[hp]at hq';rw[6,hq',hq]
  by_cases hus:B&&&Vs.bS kd.bl=Vs.bS kd.bl;·rw[13,bK hus,a_ ⟨gs1,wd,sz,_,_,_,_,J,D,w1,w2,w3,w4,step (ba _) (ba _) λ c _ _ _=>YI ?_⟩];have:b f=kd.count:=used.mp hus;show[Aa,f]≤b f;omega
  ·rw[bW hus];have hbk:b f<[Aa,f]:=by have g:=hT.le f _ (Vs.iF ek);have h2:b f≠kd.count:=(λ z=>hus (used.mpr z));have g:b f≤kd.count:=g;omega
   refine aV ⟨_,J,F.co,dco,_,J,L,[fz],_,J,_,J,_,J,_,J,_,J,gs1,f,p,sa,tt,B,b,r,J,m,hkp,hsa1,hUt,hT,hbk,[ac],O,λ a cs N H2 gs2 o u=>?_,λ a d H2 gs2 o u=>?_⟩
   ·have U:=D.trans o;have S2:=o.st;obtain⟨e2,he2,ekn,ecl,R⟩:=U.ext i e hi;have hem2:=bt he2;obtain⟨dx2,st2,ll2,cas2,las2,b1,b2,b3,b4,b5,b6⟩:=(S2.kn e2 hem2).1.ex;have G2:=(S2.kn e2 hem2).2;obtain⟨da,ha⟩:=u.at_;have M:=bp _ _ ha;rw[ekn]at b1;obtain⟨c,ec,hcs⟩:=u.comp;have hcomp:Vs.cM F.m F.ks e2.g.c0 e2.g.steps cs:=by rw[ec];rw[57,⟨tt,?_,hkl,hcs⟩,R.steps,bt hp]
    have hbar:Vs.bZ F.ks.length b+(n+1)≤12:=by obtain⟨ee,xx,q1,_⟩:=O;omega
    have hgc:Vs.Cv F.m F.ks F.most e2.g.c0 e2.g.steps ⟨cs,N,b,n+1,r⟩:=⟨hcomp,u.jw,⟨u.oy,u.fx,u.words,u.size,hro.1,hbar,λ j=>Vs.Ub hT j,u.free⟩⟩;have hG:=G2.Ud (g0:=e.g) (c:=⟨cs,N,b,n+1,r⟩) (l:=n) R (qB n) hgc λ q hq g h2=>hits q hq g h2
    have hlen:cas2.length<aQ:=by have g:=er b5;rw[aC]at g;rw[4,g,eR (G2.Cy I.K) [bd]]
    rw[3,⟨_,J,[bi],F.CC,_,true,J,G.nB.ty M,G.nB.nA,_,J,aV ?_⟩,⟨_,J,e.kn,F.CK,dx2,_,_,J,b1,G.TK.cl,G.TK.na 1 _ J,[lz,G.TK.nd,1],[Ed,b2],_,J,e2.cl,_,_,J,J,b2,[ov,hlen],?_⟩];obtain⟨S3,z3,x3⟩:=YH I S2 he2 (c:=⟨cs,N,b,n+1,r⟩) (a:=a) b2 b5 ⟨da,ha⟩ hlen hG;have hil:=[eJ,he2];refine k _ _ _ (ED (U.mono (vL n)) he2 S3 z3 x3 ⟨J,J,⟨[_],J,λ q hq=>?_⟩,λ q hq=>.inl hq⟩) (qx hil) (.inl ?_);·simp at hq;subst hq;exact ba _
    ·obtain⟨nw,hnw,_⟩:=R.cs;show e.g.cs.length<(e2.g.cs++[_]).length;rw[hnw,dh,dh];rw[18]
   ·have U:=D.trans o;obtain⟨da,ha⟩:=u.at_;have M:=bp _ _ ha;rw[3,⟨_,J,[bi],F.CC,_,false,J,G.nE.ty M,G.nE.nA,_,J,a_ ?_⟩,⟨_,J,_,J,a,F.CL,da,_,_,J,M,G.TL.cl,G.TL.na 1 _ J,[lz,G.TL.nd,1],_,_,J,_,J,_,J,a,F.CL,da,_,_,J,M,G.TL.cl,G.TL.na 2 _ J,[lz,G.TL.nd,2],_,_,J,?_⟩];have r1:=u.words;have r2:=u.size;refine⟨gs2,min wd d.2.1,min sz d.2.2,Z (nV f),Z [pU],Z [cX],[lm],?_,U,[ac],[ac],[ac],[ac],step (Sn _ _) (Sn _ _) λ c hc q1 q2=>?_⟩;·show[[j5,F.co],[j5,e.kn],Z (nV B),Z (nV (n+1)),Z (nV r),Z (V.int [QB,d.2.1,wd]),Z (V.int [QB,d.2.2,sz]),Z (nV f),[j5,sa],[j5,p],[j5,a]]=_;rw[OR,OR]
    ·exact u.pI _ ⟨c,J,hc⟩ (bf q1 (Sh _ _)) (bf q2 (Sh _ _))
 ·rintro σ H1⟨gs1,wd,sz,v7,v8,v9,v10,rfl,D,w1,w2,w3,w4,hst⟩;have m:=D.st;obtain⟨e1,he1,ekn,ecl,R⟩:=D.ext i e hi;have X:=bt he1;obtain⟨dx1,st1,ll1,cas1,las1,b1,_⟩:=(m.kn e1 X).1.ex;rw[ekn]at b1;refine⟨_,J,e.kn,dx1,_,J,b1,[fz],_,J,_,J,_,J,[Pg,(B,wd,sz),J]⟩;obtain⟨s2,t2⟩:=[QR,wd,sz,m];have S2:=m.grow I s2;obtain⟨dx2,st2,ll2,cas2,las2,c1,c2,c3,c4,c5,c6⟩:=(S2.kn e1 X).1.ex;have G1:=(S2.kn e1 X).2;refine⟨e1.kn,dx2,st2,e1.cl,ll2,x,las2,e1.g.ls.map eh,(B,wd,sz),[hJ,ekn],c1,bp _ _ c3,c6.mono bp,t2.mono bp,?_,λ ll' las' H' r1 r2 r3 r4 r5 r6=>?_⟩;·have g:=er c6;rw[aC]at g;rw[4,g,bf (RW (G1.K4 I.K) 1) [bd]]
  ·have hgl:Vs.v_ F.m F.ks F.most e.g.c0 e.g.steps ⟨B,wd,sz,b,n+1,r⟩:=OP I G0 hT O weak w1 w3 ⟨w2,w4⟩ λ cs g h2 h3=>by cases cs with|nil=>rw[hend]at g;cases g|cons f c=>obtain⟨t,q1,q2,q3⟩:=g;obtain⟨j,hj,ej⟩:=gY q1;have hjv:j<vs.length:=[ar,er T,hj];exact hst j (f,t) hjv (by rw[bX hj,ej]) c q3 h2 h3
   rw[←R.c0,←R.steps]at hgl;have hG:=OM (g0:=e.g) (c:=⟨B,wd,sz,b,n+1,r⟩) G1 (λ p hp=>(R.ls p hp).imp id (λ z=>Nat.lt_succ_of_le z)) hgl (e1.g.ls.filter (λ x=>! iy (eh ⟨B,wd,sz,b,n+1,r⟩) (eh x))) Bs new;obtain⟨S3,z3,x3⟩:=OO I S2 he1 (c:=⟨B,wd,sz,b,n+1,r⟩) (la:=x) c1 c6 t2 r1 r2 r3 r4 r5 r6 hG;have hil:=[eJ,he1];refine k H' _ _ (ED ((D.mono (vL n)).trans (bJ.grow I (n+1) m s2)) he1 S3 z3 x3 ⟨J,J,[zO,[],[al]],λ c hc=>?_⟩) (qx hil) (.inr [d9,_,iQ _ cq,w1,w3]);rcases[gM,hc]with q|q;·rw[21,[E4,q].1]
   ·rw[113];exact .inr (ba _)
end
end VP
end
section
namespace VP
open PySem L2
def mx(l:[ak]):Nat:=l.foldr max 0
theorem OS{x:Nat}:∀{l:[ak]},x<mx l↔∃y∈l,x<y|[]=>[bB,mx]|a::l=>by have T:=OS (x:=x) (l:=l);show x<max a (mx l)↔_;have N:x<max a (mx l)↔x<a∨x<mx l:=[ac];rw[N,T];simp
def mz(ks:[d6])(S:[ak])(k:Nat):Nat:=[E6,ks[k]?,N,mx ((S.filter (rZ N)).map λ s=>s+1-N.place),0]
theorem xY{ks:[d6]}{S:[ak]}{k x:Nat}{N:Vs.Kd}(h:ks[k]?=Z N):x<mz ks S k↔∃s∈S,N.place≤s∧s<[JT]∧N.place+x≤s:=by
 unfold mz;rw[h];show x<mx _↔_;rw[34,OS];·rintro⟨y,a,A⟩;obtain⟨s,G,rfl⟩:=[bp,a];have G:=[E4,G];have K:=G.2;simp[rZ]at K;rw[9,s,G.1,K.1,K.2,[ac]]
 ·rintro⟨s,G,g,r,P⟩;rw[1,s+1-N.place,[jz,s,[PF,G,by simp[rZ,g,r]]],[ac]]
theorem YL{ks:[d6]}(Sp:[KO]){T:Nat}{t:Vs.bx}(Y:[OC,ks]){cs:List Vs.GC}(v:∀c∈cs,Vs.l6 (Vs.dr ks) c.jw (λ k=>c.cs.count k)∧∀k∈c.cs,[zm,k]){B:Nat}(h:Vs.Cz (runOf ks) (cs.map λ c=>c.jw&&&T) B):∃b:Vs.bx,(Vs.IsT (Vs.dr ks) B b∧(∀k,b k≤t k)∧(∀c∈cs,Vs.eF (Vs.cF ks) c.cs b)∧∀k,0<b k→∃c∈cs,∀j,j∈c.cs→Vs.cF ks j<[JZ]+b j→j=k):=by
 obtain⟨S,a,r,P,h4⟩:=h;have o:∀s∈S,∃i N,([md]=Z N∧N.place≤s∧s<N.place+t i∧t i≤N.count):=λ s G=>by obtain⟨g,e,K⟩:=a s G;obtain⟨c,V,rfl⟩:=[bp,e];have M:=((Vs.jb _ _ _).mp K).2;obtain⟨i,x,A,n,X⟩:=(Y.bit s).mp M;obtain⟨N,C,rfl⟩:=Vs.pH A;rw[37,i,N,C,n,X,Y.le i _ A]
 have H:Vs.IsT (Vs.dr ks) B (mz ks S):=by
  rw[24,λ x=>?_,λ i y d=>?_,λ i O=>?_]
  ·rw[34,r x];·rintro⟨s,G,A⟩;obtain⟨i,N,C,n,X,q3⟩:=o s G;have:=(Am Sp C n [ac] x).mp A;have l:x-N.place<mz ks S i:=((xY C).mpr ⟨s,G,n,[ac],[ac]⟩);rw[9,i,N.bl,Vs.iF C,this.1,by rw[20,x<N.place+_]]
   ·rintro⟨i,y,d,n,X⟩;obtain⟨N,C,rfl⟩:=Vs.pH d;have n:N.place≤x:=n;have X:x<N.place+mz ks S i:=X;obtain⟨s,G,f,m,p⟩:=(xY (S:=S) (x:=x-N.place) C).mp [ac];rw[1,s,G,(Am Sp C f m x).mpr ⟨n,[ac]⟩]
  ·obtain⟨N,C,rfl⟩:=Vs.pH d;apply kT;intro z;have z:¬mz ks S i≤N.count:=z;obtain⟨s,_,f,m,p⟩:=(xY (S:=S) (x:=N.count) C).mp [ac];omega
  ·unfold mz;rw[sQ (by unfold Vs.dr at O;rw[aC]at O;exact O)]
 have L:∀k,mz ks S k≤t k:=λ k=>by cases C:ks[k]? with|none=>unfold mz;rw[4,C,b7 _]|some N=>apply kT;intro z;obtain⟨s,G,f,m,p⟩:=(xY (S:=S) (x:=t k) C).mp [ac];obtain⟨i,W,Q,n,X,q3⟩:=o s G;rw[83,Sp.uniq (Vs.iF Q) (Vs.iF C) n [ym,s<W.place+W.count] f m];rw[C]at Q;cases Q;omega
 rw[28,mz ks S,H,L,λ c V=>?_,[zj]];·obtain⟨E,D⟩:=v c V;obtain⟨x,x1,x2⟩:=Vs.jU.mp (P _ [jz,c,V]);apply kT;intro z;rw[8,(Vs.K3 Sp H E D).mpr z,Vs.jU.mpr ⟨x,((Vs.jb _ _ _).mp x1).1,x2⟩]
 ·cases I:ks[k]? with|none=>unfold mz at C;rw[I]at C;rw[68,C]|some N=>obtain⟨s,G,f,m,p⟩:=(xY (x:=0) I).mp C;obtain⟨g,e,q⟩:=h4 s G;obtain⟨c,V,rfl⟩:=[bp,e];rw[24,c,V,λ j U l=>?_];obtain⟨E,D⟩:=v c V;have w:=D j U;have u:=bX w;generalize ks[j]=F at u;rw[Vs.qV u]at l;have R:0<[JZ]:=List.count_pos_iff.mpr U;have hcl:[JZ]≤F.count:=E.le j _ (Vs.iF u);have nb:c.jw.testBit ([OB]-[JZ])=true:=((E.bit _).mpr ⟨j,F.bl,Vs.iF u,R,by rw[20,_+_=[OB]]⟩);have bb:B.testBit ([OB]-[JZ])=true:=((H.bit _).mpr ⟨j,F.bl,Vs.iF u,by rw[20,F.place≤_],by rw[20,_<F.place+_]⟩);have hlj:=L j;have tb:T.testBit ([OB]-[JZ])=true:=((Y.bit _).mpr ⟨j,F.bl,Vs.iF u,by rw[20,F.place≤_],by rw[20,_<F.place+_]⟩);rw[45,(Am Sp I f m _).mp (q _ ((Vs.jb _ _ _).mpr ⟨nb,tb⟩) bb),Sp.uniq (Vs.iF u) (Vs.iF I) [ym,F.place≤[OB]-[JZ]] [ym,_<[OB]] this.1 (by rw[20,_<[JT]])]
theorem YM{ks:[d6]}(fx:[Dd,[pO]≤64]){T:Nat}{t:Vs.bx}(Y:[OC,ks]):T<2^64:=by
 refine Nat.lt_pow_two_of_testBit T λ i O=>?_
 cases e:T.testBit i with|false=>rfl|true=>obtain⟨j,x,A,n,X⟩:=(Y.bit i).mp e;obtain⟨N,C,rfl⟩:=Vs.pH A;have g:=fx N (bt C);have r:t j≤N.count:=Y.le j _ A;have X:i<N.place+t j:=X;omega
theorem YN{ks:[d6]}(Sp:[KO])(fx:[Dd,[pO]≤64]){T N:Nat}{t:Vs.bx}(Y:[OC,ks])(h:N&&&T≠0):Ee (runOf ks) (xT ks) (N&&&T):=by rw[24,h,eR Nat.and_le_right (YM fx Y),λ i O=>?_];obtain⟨j,x,A,n,X⟩:=(Y.bit i).mp ((Vs.jb _ _ _).mp O).2;obtain⟨a,C,rfl⟩:=Vs.pH A;have r:t j≤a.count:=Y.le j _ A;have n:a.place≤i:=n;have X:i<a.place+t j:=X;rw[0,⟨j,a,C,n,[ac]⟩,(Am Sp C n [ac] i).mpr ⟨n,ba _⟩]
theorem YO{ks:[d6]}{most l r:Nat}{b t:Vs.bx}(M:[Dd,k.size≤24])(h:Vs.iV ks most t l r)(K:∀k,b k≤t k):Vs.iV ks most b l r:=by
 obtain⟨e,x,g,a,P⟩:=h;have d:∀n,(Vs.bZ n b)+[Kj,t k-b k]=(Vs.bZ n t):=λ n=>[cE,Vs.Cg,Vs.pD λ k _=>by rw[10,K k]]
 have d2:∀n,[Kj,b k*Vs.b0 ks k]+[Kj,(t k-b k)*Vs.b0 ks k]=[Kj,t k*Vs.b0 ks k]:=λ n=>by
  rw[←Vs.Cg];refine Vs.pD λ k _=>?_
  rw[←BR];congr 1;rw[10,K k]
 have d3:∀n,[Kj,(t k-b k)*Vs.b0 ks k]≤24*[Kj,t k-b k]:=λ n=>by
  induction n with
   |zero=>exact ba _
   |succ n T=>
    show(Vs.bZ n _)+(t n-b n)*Vs.b0 ks n≤24*((Vs.bZ n _)+(t n-b n));have G:Vs.b0 ks n≤24:=by unfold Vs.b0;cases q:ks[n]? with|none=>exact b7 _|some k=>exact M k (bt q)
    have:(t n-b n)*Vs.b0 ks n≤(t n-b n)*24:=R4 _ G;omega
 rw[28,e+Vs.bZ ks.length (λ k=>t k-b k),x+Vs.bZ ks.length (λ k=>(t k-b k)*Vs.b0 ks k),?_,?_,?_];·rw[10,d ks.length]
 ·unfold Vs.mW at*;rw[10,d2 ks.length]
 ·rw[10,d3 ks.length]
theorem YQ{bC:Vs.bx}{cs:[ak]}{b t:Vs.bx}(h:Vs.eF bC cs b)(K:∀k,b k≤t k):Vs.eF bC cs t:=by obtain⟨k,g,r⟩:=h;rw[1,k,g,by rw[10,K k]]
end VP
end
section
namespace VP
open PySem L2
section
variable{P:aY}{w:aU}{K:aF}{mg:[a_]}{base:aE}
theorem YR{F:aS}(I:cw F){H:Hp}{f:[bv]}(S:bA F H f){i:Nat}{e:KE}(O:f[i]?=Z e){T:Nat}{t:Vs.bx}(Y:[OC,F.ks])(l r:Nat){Q:VK}{E:XK}(n:∀a cs N,[zI,EA F (Zh (aP F f) H) a [QN] t l r cs N,H])(k:∀a d,EB F (Zh (aP F f) H) a [QN] t l r d→d.2.1≤1000→[zI,d.2.2≤1000,H])(m:(∀c∈e.g.ls,[aw,i5 (eh c) T l r])→(∀c∈e.g.cs,[aw,j6 (jm F c) T l r])→Q .bh H):u7 F.CK F.CC F.CL [[AW],nV T,nV l,nV r] H Q E:=by
 have M:=bt O;obtain⟨W,L,K,G,D,v,w,a3,a4,s,u⟩:=[CU,M];have A:=(S.kn e M).2;refine⟨e.kn,W,L,e.cl,K,G,D,e.g.cs.map (jm F),e.g.ls.map eh,T,l,r,J,v,w,bp _ _ a3,s.mono bp,u.mono bp,λ j a d U h X=>?_,λ _ j a d U h V=>?_,λ g b=>m (λ c V=>g _ [jz,c,V]) λ c V=>b _ [jz,c,V]⟩;·obtain⟨d',q,y⟩:=d6 u U;rw[71,h];rw[cJ]at h;cases V:e.g.ls[j]? with|none=>rw[44,V]|some c=>rw[V]at h;have h:=[nr,h];subst h;have z:=A.qW c (bt V);unfold i5 at X;simp only[dO,dw]at X;obtain⟨o,p,B⟩:=X;have R:=(Vs.Cu I.K.sep z.taken Y).mp o;exact k a _ ⟨y,p,B,⟨by show c.words≤1001;rw[10,z.zp.1],by show c.size≤1100;rw[10,z.zp.2]⟩,λ cs g b P=>YQ (z.pI cs g b P) R⟩ z.zp.1 z.zp.2
 ·obtain⟨d',q,y⟩:=d6 s U;rw[71,h];rw[cJ]at h;cases x:e.g.cs[j]? with|none=>rw[44,x]|some c=>rw[x]at h;have h:=[nr,h];subst h;have C:=A.comps c (bt x);unfold j6 at V;simp only[dO,dw]at V;obtain⟨o,p,B⟩:=V;exact n a c.cs c.jw ⟨y,C.comp,C.at_.oy,C.jw,C.at_.fx,p,B,(Vs.K3 I.K.sep Y C.jw C.at_.oy).mp o⟩
theorem OT{C CC CL:ab}{U:[aK]}{H:Hp}{Q I:VK}{E T:XK}(h:u7 C CC CL U H Q E)(m:∀v H,Q v H→I v H):u7 C CC CL U H I T:=by obtain⟨p,W,L,N,K,G,D,cs,B,t,l,r,g,b,P,w,c,j,k1,k2,k3⟩:=h;exact⟨p,W,L,N,K,G,D,cs,B,t,l,r,g,b,P,w,c,j,λ i a d n X f=>m _ _ (k1 i a d n X f),λ z i a d n X f=>m _ _ (k2 z i a d n X f),λ k e=>m _ _ (k3 k e)⟩
theorem OU{F:aS}(I:cw F)(G:[Ab]){l rm:Nat}{fA fS fp:ab}{fdA fdS fdp:bq}(MA:[Th,fA,fdA])(MS:[Qi,fS,fdS])(Dp:[gh,"spoilers",qb,fp,fdp,[wf]])(Gp:aA P w K mg base aG 5 fp fdp [wf] (xR F.Pt))(hrm:5≤rm)(GS:aA P w K mg base aG rm fS fdS [Nm] (EC F l)):aA P w K mg base aG (rm+1) fA fdA [LN] (Ar F l):=by
 have nd:=NL.nd;obtain⟨fw,fdw,Mw⟩:=G.YC;obtain⟨fh,fdh,Mh⟩:=G.w9;have Gw:aA P w K mg base aG 1 fw fdw [A3] (u7 F.CK F.CC F.CL):=Yw Mw G.TK G.TC G.TL G.B;have Gh:aA P w K mg base aG 1 fh fdh [A3] (OA F.CK F.CC):=Yx Mh G.TK G.TC;rw[60,MA.fn.ok,NL];·obtain⟨gs,i,e,T,t,r,rfl,_⟩:=h;rfl
 obtain⟨gs,i,e,T,t,r,rfl,S,hi,hT,hbud,kC,kL⟩:=h;rw[112,rm];have hr5:cy 5 _:=hr.mono hrm;rw[27,[Es,5,[pM,pv 1,G.TK.cl,Mw.me,Gw,hr1,Mw.b,pv 2,[Kn]],t9 dX [dU,C6,pv 5,pL] (aK (j0 [pM,pv 0,G.cZ.cl,MS.me,GS,hr,MS.b,pv 1,ak [ED,Gp,hr5,Dp.mg,Dp.fn.kp,Dp.b,[pM,pv 1,G.TK.cl,Mh.me,Gh,hr1,Mh.b,pv 2,[Kn]],ak [er] aB] [Kn]]) (aN [ui,5,[pM,pv 1,G.TK.cl,Mw.me,Gw,hr1,Mw.b,pv 2,[Kn]]]))]];have knAt:∀{f:Hp}{D:[bv]}{j:KE},(bA F f D→D[i]?=Z j→j.kn=e.kn→∃dx st ll,f e.kn=Z (.ins F.CK dx (fU.zip [Kr,st,j.cl,ll]))):=λ S' h' ek=>by obtain⟨dx,st,ll,_,_,a1,_⟩:=(S'.kn _ (bt h')).1.ex;rw[ek]at a1;rw[23,dx,st,ll,a1]
 let W:[Cp]:=λ m σ f=>∃(D:[bv])(j:KE)(fv:V),[bn,σ=[Z [zl],Z [AW],Z (nV T),Z (nV l),Z (nV r),Z fv],bJ F l H gs f D,D[i]?=Z j,j.kn=e.kn,Vs.eG l e.g j.g∧((fv=.bh∧m=2105088-j.g.cs.length∧(∀c∈j.g.ls,[aw,i5 (eh c) T l r])∧∀c∈j.g.cs,[aw,j6 (jm F c) T l r])∨(∃a,fv=[bi]∧m=0∧Q [bi] f))]
 have ask:∀(f:Hp)(D:[bv])(j:KE)(v5:[dL])(M:[Da]),[b9,bJ F l H gs f D,D[i]?=Z j,j.kn=e.kn,Vs.eG l e.g j.g,(M 0)→((∀c∈j.g.ls,[aw,i5 (eh c) T l r])→(∀c∈j.g.cs,[aw,j6 (jm F c) T l r])→M (2105088-j.g.cs.length))→u7 F.CK F.CC F.CL [[AW],nV T,nV l,nV r] f (λ v H2=>∃m,M m∧W m [Z [zl],Z [AW],Z (nV T),Z (nV l),Z (nV r),Z v] H2) E0]:=λ f D j v5 M n u ek hg m0 m1=>by rw[56,YR (E:=E0) I n.st u hT l r (Q:=λ v H2=>∃m,M m∧W m [Z [zl],Z [AW],Z (nV T),Z (nV l),Z (nV r),Z v] H2) (λ a cs N res=>⟨0,m0,D,j,[bi],J,n,u,ek,hg,.inr [em,a,J,kC a cs N f D n (by rw[←hg.c0,←hg.steps];exact res)]⟩) (λ a d res g h2=>⟨0,m0,D,j,[bi],J,n,u,ek,hg,.inr [em,a,J,kL a d f D n (by rw[←hg.c0,←hg.steps];exact res) g h2]⟩) (λ g h2=>⟨_,m1 g h2,D,j,.bh,J,n,u,ek,hg,.inl ⟨J,J,g,h2⟩⟩),ek]
 obtain⟨dx,st,ll,a1⟩:=knAt S hi J;refine⟨_,J,e.kn,dx,_,J,a1,[fz],_,J,_,J,_,J,?_⟩;dsimp only[gw];refine OT (ask H gs e none (λ _=>True) (bJ.refl l S) hi J (Vs.eG.refl _ _) mU λ _ _=>mU) λ v H1 hv=>?_
 obtain⟨m,_,hW⟩:=hv;rw[29,W,⟨m,hW⟩];clear hW;rintro m σ H1⟨gs1,e1,fv,rfl,n,he1,R,hg1,hcase⟩;rw[61,J,_,J,?_];rcases hcase with⟨rfl,hm,hl,hc⟩|⟨a,rfl,hm,q⟩
 ·rw[13,[dA,[aN,V.bh=V.bh],true,bK J],aV ⟨λ σ' f=>∃m',m'<m∧W m' σ' f,λ _ _ h=>h,?_⟩];have S1:=n.st;have L:=bt he1;have G1:=(S1.kn e1 L).2;obtain⟨dx1,st1,ll1,cas1,las1,b1,b2,b3,b4,b5,b6⟩:=(S1.kn e1 L).1.ex;rw[R]at b1;obtain⟨dco,hco⟩:=S1.co;have hco:=bp _ _ hco;have hcl:=G1.Cy I.K;have hlen:cas1.length=e1.g.cs.length:=by rw[56,er b5,aC]
  refine⟨_,J,F.co,dco,_,J,hco,[fz],_,J,_,J,e.kn,dx1,_,J,b1,[fz],_,J,_,J,_,J,e.kn,dx1,st1,e1.cl,ll1,cas1,e1.g.cs.map (jm F),T,l,r,J,b1,b2,b5.mono bp,[ar,hlen,[pH,hcl]],λ ha H2 hfree Y s2=>?_⟩;generalize y:(e1.g.cs.filter λ c=>mv l r (jm F c))=O;have ehits:((e1.g.cs.map (jm F)).filter (mv l r)).map (λ d=>d.1&&&T)=O.map λ c=>c.jw&&&T:=by rw[List.filter_map,cP,←y];rfl
  rw[ehits]at Y;have U:∀c∈O,c∈e1.g.cs∧c.cs.length≤l∧[ni,c.cs]≤r:=λ c x=>by rw[←y]at x;have q:=[E4,x];have q2:=q.2;unfold mv at q2;simp only[dO,dw]at q2;rw[1,q.1,q2.1,q2.2]
  have S2:=S1.grow I s2;obtain⟨dco2,C⟩:=S2.co;have C:=bp _ _ C;have hflen:O.length≤e1.g.cs.length:=[cE,y,nO _ _];refine⟨_,J,F.co,F.bo,dco2,_,_,J,C,G.cZ.cl,[DR,2],[El,2],ha,F.r,O.map (λ c=>c.jw&&&T),runOf F.ks,xT F.ks,J,Y,[ov,bf hflen [pH,hcl]],S2.runs.same bp,λ h hh=>?_,S2.tab,λ B H3 hsp keep tab=>?_⟩;·obtain⟨c,x,rfl⟩:=[bp,hh];refine YN I.K.sep I.fx hT [zr];obtain⟨f1,f2,f3⟩:=U c x;have:=hc c f1;unfold j6 at this;rw[66,[aN,(jm F c).1&&&T=0]=true,bK z,[ly,(jm F c).2.1,l]=true,bK f2];have e3:[ly,(jm F c).2.2,r]=true:=bK f3;rw[e1,e2,e3]at this;cases this
  ·have S3:=S2.keep I keep tab;have adv3:bJ F l H gs H3 gs1:=((n.trans (bJ.grow I l S1 s2)).trans (bJ.keep I l S2 keep tab));obtain⟨b,hB,hle,hhit,hweak⟩:=YL I.K.sep hT (λ c x=>⟨(G1.comps c (U c x).1).jw,(G1.comps c (U c x).1).at_.oy⟩) hsp;refine⟨_,J,_,J,gs1,i,e1,B,b,r,[hJ,R],S3,he1,hB,YO I.K.size hbud hle,λ c x g h2=>hhit c ?_,λ k hk=>?_,λ p hp=>?_,λ H4 gs4 e4 o X hnew=>?_⟩;·rw[25,y,[PF,x,by unfold mv;simp only[dO,dw];rw[0,g,h2]]]
   ·obtain⟨c,x,q⟩:=hweak k hk;obtain⟨f1,f2,f3⟩:=U c x;rw[9,c,f1,f2,f3,q]
   ·rintro⟨p1,p2,p3⟩;have gl:=G1.qW p hp;have:=hl p hp;unfold i5 at this;rw[66,[aN,(eh p).1&&&T=(eh p).1]=true,bK ((Vs.Cu I.K.sep gl.taken hT).mpr λ k=>[ar,p1,hle k]),[ly,l,(eh p).2.1]=true,bK [cE,p2,gl.words]];have e3:[ly,r,(eh p).2.2]=true:=bK [cE,p3,gl.size];rw[e1,e2,e3]at this;cases this
   ·obtain⟨e4',he4',ek4,ec4,hg4⟩:=o.ext i e1 he1;rw[X]at he4';cases he4';have advF:=adv3.trans o;obtain⟨dx4,st4,ll4,a4⟩:=knAt o.st X (ek4.trans R);have G4:=(o.st.kn e4 (bt X)).2;have hcl4:=G4.Cy I.K;refine⟨_,J,e.kn,dx4,_,J,a4,[fz],_,J,_,J,_,J,?_⟩;dsimp only[gw];refine OT (ask H4 gs4 e4 none (λ m'=>m'<m) advF X (ek4.trans R) (hg1.trans hg4) [ac] λ g h2=>?_) λ v H5 hv=>hv
    rcases hnew with z|⟨c,x,c1,c2,c3⟩;·omega
    ·exfalso;have gl:=G4.qW c x;have:=g c x;unfold i5 at this;rw[66,[aN,(eh c).1&&&T=(eh c).1]=true,bK ((Vs.Cu I.K.sep gl.taken hT).mpr λ k=>[ar,c1,hle k]),[ly,l,(eh c).2.1]=true,bK c2];have e3:[ly,r,(eh c).2.2]=true:=bK c3;rw[e1,e2,e3]at this;cases this
 ·have hne:[aw,[aN,(V.ref a)=V.bh]]:=bW (by intro z;cases z);rw[4,hne,[Al,q]]
end
end VP
end
section
namespace VP
open PySem L2
section
variable{P:aY}{w:aU}{K:aF}{mg:[a_]}{base:aE}
theorem OV{F:aS}(I:cw F)(G:[Ab]){r o e g t:ab}{d z a f C:bq}(m:[Th,r,d])(b:[Qi,o,z])(x:[eq,[On],[Ob],rT,F.bo,e,a,[J_]])(c:[eq,"known_of",[Og],rP,F.bo,g,f,[iZ]])(h:aA P w K mg base aG 15 g f [iZ] (xW F))(Dp:[gh,"spoilers",qb,t,C,[wf]])(D:aA P w K mg base aG 5 t C [wf] (xR F.Pt)):∀l,aA P w K mg base aG (3*l+20) r d [LN] (Ar F l)|0=>OU I G (rm:=19) m b Dp D [ac] (YJ I G b)|n+1=>OU I G (rm:=3*n+22) m b Dp D [ac] (YK I G b x (YF I G x m c h (OV I G m b x c h Dp D n)))
def EE(F:aS):Sp:=λ U H Q _=>∃(c:[bv])(a:ab)(L:Vs.a8)(T:Nat)(t:Vs.bx)(l r:Nat),[kw,U=[[zl],[bi],nV T,nV l,nV r],bA F H c,fi (Zh (aP F c) H) a L,[wo],[OC,F.ks],[PN,t],∀(b:Bool)(m:Hp)(D:[bv]),bJ F l H c m D→(b=true↔∃cs,([K1,L,cs]∧[Dk,l]∧[ni,cs]≤r∧¬[Kk,cs,t]))→Q (.bl b) m]
theorem YS{F:aS}(I:cw F)(G:[Ab]){f fA fS fW fO fp:ab}{fd D g o X Y:bq}(M:[eq,"can_complete",[QT],xA,F.bo,f,fd,[Kb]])(W:[Th,fA,D])(MS:[Qi,fS,g])(MW:[eq,[On],[Ob],rT,F.bo,fW,o,[J_]])(MO:[eq,"known_of",[Og],rP,F.bo,fO,X,[iZ]])(GO:aA P w K mg base aG 15 fO X [iZ] (xW F))(Dp:[gh,"spoilers",qb,fp,Y,[wf]])(Gp:aA P w K mg base aG 5 fp Y [wf] (xR F.Pt)):aA P w K mg base aG 60 f fd [Kb] (EE F):=by
 have GA:aA P w K mg base aG 59 fA D [LN] (λ U H Q E=>∃l,l≤12∧Ar F l U H Q E):=by have h:=OV I G W MS MW MO GO Dp Gp;rw[0,λ U H Q E⟨l,hl,q⟩=>(h l).len U H Q E q,λ A outer s H args us U Q E u R hb hv⟨l,hl,q⟩=>(h l).run A outer s H args us U Q E (u.mono [ac]) R hb hv q]
 rw[53,M.fn.ok,XW,λ cdv A outer s H U Q E u h=>?_];·obtain⟨gs,a,st,T,t,l,r,rfl,_⟩:=h;rfl
 obtain⟨gs,a,st,T,t,l,r,rfl,S,p,V,hT,C,k⟩:=h;have hrO:cy 15 _:=u.mono [ym,15≤59];rw[27,[rE,[De,Ey,G.B.isinstance,Rp,[Ae,[pM,pv 0,G.cZ.cl,W.me,GA,u,W.b,[pM,pv 0,G.cZ.cl,MO.me,GO,hrO,MO.b,pv 1,aB],ak (pv 2) [Kn]],b8 (v:=.ref F.CC) J G.TC.mg J]]]];obtain⟨O,m⟩:=S.co;have m:=bp _ _ m;have hro:=iV.room C;have hm:=I.K.most;rw[3,⟨_,J,F.co,O,_,J,m,[fz],_,J,F.co,O,_,J,m,[fz],_,J,gs,a,st,J,S,p,V,λ i e H1 n R L y=>?_⟩,⟨_,J,_,J,_,J,l,[ac],n,i,e,T,t,r,J,y.st,R,hT,C,λ x cs N b B c j=>?_,λ x d b B c j _ _=>?_⟩];·rw[155,j.at_];refine⟨.ref x,F.CC,_,true,J,G.nB.ty ha,G.nB.nA,k true b B ((y.mono (b7 l)).trans c) ⟨λ _=>⟨cs,((Aq I V L cs).mpr j.comp),j.words,j.size,j.free⟩,λ _=>J⟩⟩
 ·rw[155,j.at_];refine⟨.ref x,F.CC,_,false,J,G.nE.ty ha,G.nE.nA,k false b B ((y.mono (b7 l)).trans c) ⟨(λ z=>[e9,z,[bd]]),λ⟨cs,q1,q2,q3,q4⟩=>[e9,j.pI cs ((Aq I V L cs).mp q1) (bf q2 j.words) (bf q3 j.size),q4]⟩⟩
end
end VP
end
section
namespace VP
open PySem L2
theorem bA.YT{F:aS}{H:Hp}{a:[bv]}(S:bA F H a){b:ab}{N:[aK]}(h:H b=Z (.tup N)):b∉aP F a:=by
 intro A;rcases ib.mp A with rfl|rfl|rfl|rfl|⟨e,R,rfl|rfl⟩|A;·rw[134,S.k1]
 ·rw[134,S.k2]
 ·obtain⟨_,q⟩:=S.k3;rw[71,h]
 ·rw[134,S.tab]
 ·obtain⟨_,_,_,_,_,q,_⟩:=[CU,R];rw[71,h]
 ·obtain⟨_,_,_,_,_,_,q,_⟩:=[CU,R];rw[71,h]
 ·rw[77,b,A];rw[h]at q;cases o<;>cases q
theorem bA.dZ{F:aS}{H:Hp}{a:[bv]}(S:bA F H a):jk H (Zh (aP F a) H):=λ b N e=>[rs,e,S.YT e]
theorem bJ.dZ{F:aS}{l:Nat}{H m:Hp}{c D:[bv]}(S:bA F H c)(a:bJ F l H c m D):jk H m:=λ b N e=>bp _ _ (a.z _ _ (S.dZ b N e))
abbrev aS.plus(F:aS)(x:ab):aS:={F with X:=x::F.X}
theorem cw.plus{F:aS}(I:cw F)(x:ab):cw (F.plus x):=⟨I.K,I.fx,I.len,I.tg,I.u_,I.Ap,I.en,I.Ul,I.my,I.nv⟩
theorem nF{F:aS}{a:[bv]}{x b:ab}:b∈aP (F.plus x) a↔b=x∨b∈aP F a:=by
 rw[ib,ib];show _∨_∨_∨_∨_∨b∈x::F.X↔_;rw[34,lU]
 ·rintro(h|h|h|h|h|h|h);·exact[Gg]
  rw[2,[nM,[m_]],[nM,[Gg]]];rw[2,[Bd,[m_]],[Bd,[Gg]]];rw[2,[m_],[Bd,[nM,h]]]
 ·rintro(h|h|h|h|h|h|h);·exact[Bd,[Gg]]
  rw[2,[m_],[Gg]];rw[2,[nM,[m_]],[nM,[Gg]]];rw[2,[Bd,[m_]],[Bd,[nM,h]]]
theorem bA.OW{F:aS}(I:cw F){H:Hp}{a:[bv]}(S:bA F H a){x:ab}(A:H x=none)(N:[aK]⊕[lk]):[O1,oV N]:=by
 have z:ah (Zh (aP F a) H) (Zh (aP (F.plus x) a) (ag H x (oV N))):=λ b o e=>by have q:=[wq];have n:b≠x:=aX q.1 A;exact[rs,[b8,n,q.1],λ w=>(nF.mp w).elim n q.2]
 have s:ah H (ag H x (oV N)):=[mt,A];rw[117];obtain⟨M,P⟩:=S.k3;obtain⟨l,g,k1⟩:=S.k1;rw[131];refine⟨[Nz],[J9],[JU],[JW],[KN],jh S.tab s,[MH,(s _ _ P).trans P.symm],⟨M,s _ _ P⟩,[wG,l,s,g,k1],[wG,T,s,r,k2],S.lJ,S.knd,[P8],S.of,λ y c=>?_,λ y c=>?_⟩;·obtain⟨k,_⟩:=S.kn e R;obtain⟨W,L,K,G,D,v,f,i,C,h,j⟩:=k.ex;exact⟨W,L,K,G,D,s _ _ v,s _ _ f,z _ _ i,C.mono (dF z),h.mono z,j.mono z⟩
 ·rcases[dE,c]with rfl|c;·rw[0,N,aw]
  ·rw[77,y,c];rw[0,o,s _ _ q]
 ·rcases[dE,c]with rfl|c
  ·rw[28,(aX g A).symm,(aX r A).symm,(aX P A).symm,?_,λ e R=>?_];·obtain⟨_,q,_⟩:=S.tab;exact(aX q A).symm
   ·obtain⟨_,_,_,_,_,d,X,_⟩:=[CU,R];rw[0,(aX d A).symm,(aX X A).symm]
  ·exact S.xd y c
theorem bA.plus{F:aS}(I:cw F){H:Hp}{a:[bv]}(S:bA F H a){x:ab}(A:H x=none)(N:[aK]):[O1,.aj N]:=S.OW I A (.inl N)
theorem bA.YU{F:aS}(I:cw F){H:Hp}{a:[bv]}(S:bA F H a){x:ab}(A:H x=none)(N:[lk]):[O1,.dT N]:=S.OW I A (.inr N)
theorem bA.minus{F:aS}(I:cw F){H:Hp}{a:[bv]}{x:ab}(S:(bA (F.plus x) H a)):bA F H a:=by
 have z:ah (Zh (aP (F.plus x) a) H) (Zh (aP F a) H):=λ b o e=>by have q:=[wq];exact[rs,q.1,λ w=>q.2 (nF.mpr (.inr w))]
 rw[117];refine⟨[Nz],[J9],[JU],[JW],[KN],S.tab,[MH,J],S.k3,S.k1,S.k2,S.lJ,S.knd,[P8],S.of,λ y c=>S.xt y (cp _ c),λ y c=>S.xd y (cp _ c)⟩;obtain⟨W,L,K,G,D,v,d,i,C,h,f⟩:=[CU,R];exact⟨W,L,K,G,D,v,d,z _ _ i,C.mono (dF z),h.mono z,f.mono z⟩
theorem YV{H:Hp}{Pt p:ab}{W:Pos}{q:Str}{N G:[aK]⊕[lk]}(t:[AV,H])(h:H p=Z (oV N)):[AV,ag H p (oV G)]:=by rw[168,cE g h (by intro z;cases N<;>cases z),cE b h (by intro z;cases N<;>cases z)]
theorem bA.OX{F:aS}(I:cw F){H:Hp}{a:[bv]}{x:ab}(S:(bA (F.plus x) H a))(N:[aK]⊕[lk]):[O1,oV N]:=by
 have A:x∈aP (F.plus x) a:=nF.mpr [db];obtain⟨E,D,k,s,p⟩:=S.xd x cq;have z:ah (Zh (aP (F.plus x) a) H) (Zh (aP (F.plus x) a) (ag H x (oV N))):=λ b o e=>by have q:=[wq];exact bV.mpr [ut,[b8,λ w=>q.2 [ar,w,A],q.1],q]
 obtain⟨G,t⟩:=S.xt x cq;rw[117];obtain⟨M,P⟩:=S.k3;obtain⟨n,g,k1⟩:=S.k1;rw[131];have u:[CZ,x,ag H x (oV N) b=H b]:=λ b h=>ar h
 refine⟨[Nz],[J9],[JU],[JW],[KN],YV S.tab t,[MH,u _ k.symm],⟨M,[uf,k.symm,P]⟩,⟨n,[uf,E.symm,g],k1⟩,⟨T,[uf,D.symm,r],k2⟩,S.lJ,S.knd,[P8],S.of,λ y c=>?_,S.xd⟩;·obtain⟨W,L,K,d,j,v,f,i,C,l,m⟩:=[CU,R];exact⟨W,L,K,d,j,[uf,(p e R).1.symm,v],[uf,(p e R).2.symm,f],z _ _ i,C.mono (dF z),l.mono z,m.mono z⟩
 ·by_cases w:y=x;·subst w;rw[0,N,aw]
  ·rw[77,y,c];rw[0,o,[b8,w,q]]
theorem bA.As{F:aS}(I:cw F){H:Hp}{a:[bv]}{x:ab}(S:(bA (F.plus x) H a))(N:[aK]):[O1,.aj N]:=S.OX I (.inl N)
theorem bA.YW{F:aS}(I:cw F){H:Hp}{a:[bv]}{x:ab}(S:(bA (F.plus x) H a))(N:[lk]):[O1,.dT N]:=S.OX I (.inr N)
theorem bJ.minus{F:aS}(I:cw F){l:Nat}{H m:Hp}{c D:[bv]}{x:ab}(a:bJ (F.plus x) l H c m D):bJ F l H c m D:=by
 rw[17,a.st.minus I,λ b o e=>?_,a.ext,λ y d=>a.xs y (cp _ d)];have q:=[wq];by_cases w:b=x
 ·subst w;obtain⟨E,g,S,j,i⟩:=a.st.xd b cq;refine[rs,[eY,a.xs,b,cq,q.1],λ h=>?_];rcases ib.mp h with h|h|h|h|⟨f,k,h|h⟩|h;·exact E h
  rw[2,g h,S h];rw[2,j h,(i f k).1 h];rw[2,(i f k).2 h,q.2 (OF h)]
 ·rw[45,bV.mp (a.z b o [rs,q.1,λ h=>(nF.mp h).elim w q.2]),[rs,this.1,λ h=>this.2 (nF.mpr (.inr h))]]
end VP
end
section
namespace VP
open PySem L2
def eM:[bj]:=["feet","cuts","last_cuts","end","known_targets"]
structure sg(K:aF)(mg:[a_])(F:aS)(B:ab):Prop where
 TS:[Ay,B]
 at_:∀a,F.sd a→∃W b,a F.sc=[ff,B,eM.zip b]
def xZ(F:aS):Sp:=λ U H Q _=>∃(b:[bv])(a sa:ab)(L:Vs.a8)(i:Nat),[kw,U=[.ref F.sc,[bi],[pU]],bA F H b,fi H a L,[wo],[qP,i],ji H sa [y_],∀(l:ab)(m:Hp),ia [zn,b] l [A9]→bJ F 0 H b m b→Q [io] m]
def x8(F:aS):Sp:=[Tu,.ref F.sc,H,∀m,ah H m→Q (.bl (F.en L)) m]
def EF(F:aS):Sp:=[Tu,[zl],H,∀(t:ab)(m:Hp),oS m t (iA F L)→bJ F 0 H b m b→Q (.ref t) m]
def EG:[bj]:=[[ck],"stand","steps",[lf],"kind","target"]
theorem OY:bQ EG [iZ] (aZ uG):=[cj]
def x9(F:aS)(L:Vs.a8)(i:Nat):[Gf]:=[Bf,i,λ i=>[A9].map λ t=>(i,t)]
theorem OZ(F:aS)(L:Vs.a8)(i:Nat):x9 F L (i+1)=x9 F L i++[A9].map λ t=>(i,t):=by unfold x9;rw[vD,kW];simp
theorem YX{F:aS}(I:cw F){L:Vs.a8}(V:[wo])(i:Nat):[cY,x9 F L i,10000*i]:=by induction i with|zero=>exact ba _|succ i T=>rw[OZ,dh,aC];rw[10,I.Ap L i V]
theorem nG{m d:Type}{R:[d0,m,d]}:∀{c S:[li]}{cs B:List d},Paired R c cs→Paired R S B→(Paired R (c++S) (cs++B))|_,_,_,_,.nil,s=>s|_,_,_,_,.cons r t,s=>(.cons r (nG t s))
theorem qf.mono{H m:Hp}(t:jk H m){v:V}{p:[KH]}(h:qf H v p):qf m v p:=let⟨a,sa,e,g,r⟩:=h;⟨a,sa,e,t _ _ g,r.mono t⟩
section
variable{P:aY}{w:aU}{K:aF}{mg:[a_]}{base:aE}
theorem YY{F:aS}(g:cw F)(G:[Ab]){CS f fT:ab}{fd fdT:bq}(I:sg K mg F CS)(M:[eq,"steps_from",[Q0],uG,F.bo,f,fd,[iZ]])(MT:[eq,"targets",[PU],uP,CS,fT,fdT,[ws]])(GT:aA P w K mg base aG 9 fT fdT [ws] (λ U H Q E=>∃x,xZ (F.plus x) U H Q E)):aA P w K mg base aG 10 f fd [iZ] (EF F):=by
 have nd:EG.Nodup:=OY.nd;rw[53,M.fn.ok,OY,[QH]];·obtain⟨gs,a,st,rfl,_⟩:=h;rfl
 obtain⟨gs,a,st,rfl,S,hst,hU,k⟩:=h;rw[46,[Ea,2,fz aB,eJ dX J (Mz J G.B.enumerate (ak [er] aB)) (oD J (gM (b9 (i:=3) nd J (gq J)) (gM [pL,4] oC))) (aN (j0 (mj nN PySem.F.slot_list_extend PySem.F.type_list_extend L6 (pv 2) (ak (jz (own:=[("target",5)]) J nd (dj [pM,[er],I.TS.cl,MT.me,GT,hr,MT.b,pv 1,ak [jh,4] aB]) [Ad,EG,uG,"target",5] (λ _ _ _ _ _=>[pL,5]) (λ _ _ _ _ _=>iv) (λ _ _ _ _ _=>[pT,pv 3,[gv,5]])) aB)))),ry L1 (by rfl) G.B.tuple PyProof.Rows.boot_tuple [gv,2]],[Fu,λ l hl=>?_]];have S0:=S.plus g hl [];obtain⟨dco,hco⟩:=S0.co;have u:=S.kinds.len;refine⟨_,J,F.co,F.bo,dco,_,_,J,bp _ _ hco,G.cZ.cl,[DR,1],[El,1],F.ka,_,J,[pc,bp,S0.ka],N_ (K:=K) (a:=F.ka) (xs:=F.aO.map V.ref) (λ i σ m=>∃(U:[aK])(v3 v4 v5:[dL]),[bn,σ=[Z [zl],[lm],[vW],v3,v4,v5],bA (F.plus l) m gs,ah (Zh (aP F gs) H) [zn,gs],[KL,m],m l=Z (.aj U)∧(Paired (qf m) U (x9 F st i))]) ⟨[],none,none,none,J,S0,jl [mt,hl],λ x c=>?_,aw,.nil⟩ (λ i σ m _⟨_,_,_,_,_,S',_⟩=>[pc,bp,S'.ka]) ?_ ?_ (Yg F.aO)⟩;·rw[77,x,c];rw[ar (aX q hl)]
 ·rintro i y T σ d hi hT⟨U,v3,v4,v5,rfl,S1,z1,x1,O,N⟩;obtain⟨p,hpi,rfl⟩:=lG hi;have hil:[qP,i]:=[cE,u,[eJ,hpi]];have ek:=bX hil;have n:ah d [pD,d,T,nV i,[cX]]:=[cm,d,hT];generalize hH2:[pD,d,T,nV i,[cX]]=H2 at n⊢;have hT2:H2 T=Z [ii,nV i,[cX]]:=[cE,hH2,aw];have S2:=S1.grow (g.plus l) n;obtain⟨p',nu,sh,v,⟨dk,hk⟩,_,hsh⟩:=S2.kinds.at_ i _ ek;have v:F.aO[i]?=Z p':=v;rw[hpi]at v;cases v;have hk:=bp _ _ hk;obtain⟨dco2,R⟩:=S2.co;have R:=bp _ _ R;rw[142,S2.sc];have hsc:=bp _ _ hsc;have hst2:fi H2 a st:=hst.mono λ b xs e=>n _ _ (bp _ _ (z1 _ _ (S.dZ b xs e)))
  have esh:[y_]=(F.ks[i]).sh:=by unfold Vs.shapeAt;rw[ek]
  have hsh2:ji H2 sh [y_]:=[ar,esh,hsh.mono (dF bp)];rw[3,⟨T,_,J,bM.of hT2,J,_,_,J,_,_,J,J,?_⟩,⟨_,J,[wB,J,_,[pc,n,O]],_,J,F.co,F.bo,dco2,_,_,J,R,G.cZ.cl,[DR,0],[El,0],F.sc,dsc,_,J,hsc,[fz],_,J,_,J,p,F.bN,dk,_,_,J,hk,G.eu.cl,G.eu.na 1 _ J,[lz,G.eu.nd,1],l,gs,a,sh,st,i,J,S2,hst2,hU,hil,hsh2,λ lt H3 X B=>?_⟩];obtain⟨as,r,has⟩:=X;have S3:=B.st;have r:=bp _ _ r;have hl3:H3 l=Z (.aj U):=[eY,B.xs,l,cq,n _ _ O];have htl:=g.Ap st i hU;refine⟨lt,J,[nj,r],λ D hD=>[m6,pW,lt,[K2],λ j m=>ah H3 m∧∃W,m D=Z (.aj W)∧(W.length=j∧(Paired (qf m) W (((F.tg st [y_]).take j).map λ t=>(i,t)))),[lc,[cm,H3,hD],[],aw,by simp;exact .nil],λ j m _⟨s',_⟩=>[pc,s',r]]⟩
  ·rintro j x m c⟨s',W,C,L,Y⟩;obtain⟨sa,hsa,rfl⟩:=lG c;obtain⟨t,ht,hsat⟩:=d6 has hsa;rw[3,[lu,?_],[zH,_,[Bi],λ q hq=>⟨W,?_,?_,?_,?_⟩]];rw[11,ar (aX C hq),C];·have:=[eJ,ht];rw[4,L,dG this [pH,htl]]
   ·exact(ah.aT (ah.aT s' (s'.free hq)) hD)
   ·have nqD:q≠D:=(aX C hq).symm;have sq:jk m (ag [pD,m,q,nV i,[pU]] D (.aj (W++[eD,q]))):=λ b xs e=>by rw[12,ar (cE e C (by rw[87])),ar (aX e hq),e]
    rw[17,W++[.ref q],aw,[jl,dh,L],?_];rw[fH,ht,cH];refine nG [Ak,Y,λ _ _ w=>w.mono sq] [qu,[d9,q,sa,?_,(hsat.mono (dF (bp.trans s'))).mono sq]];rw[ar nqD,aw]
  ·rintro H5⟨s5,W,hD5,L,Y⟩;rw[aC,er has]at L;rw[aC,er has,fZ]at Y;have S5:=S3.grow (g.plus l) s5;have hl5:=s5 _ _ hl3;have nlD:l≠D:=aX hl3 hD;have hlv:U.length≤10000*i:=[ar,er N,YX g hU i];have h64:=g.len;refine⟨l,D,U,W,J,J,hl5,hD5,?_,?_⟩;·have hul':W.length=(F.tg st [y_]).length:=L;rw[4,hul',[zB,bf,U.length+_,10000*64]]
   ·have zc:ah (Zh (aP F gs) H) (Zh (aP F gs) H5):=(((z1.trans (jl n)).trans (B.minus g).z).trans (jl s5));rw[161,H5,l,U++W,cE e hl5 (by rw[87])];have tk3:jk d H5:=λ b xs e=>s5 _ _ (bp _ _ (B.z _ _ (S2.dZ b xs (n _ _ e))))
    refine⟨U++W,_,_,_,J,S5.As g _,λ b o e=>?_,λ x c=>?_,aw,?_⟩;·rw[124,zc b o e,aX [wq].1 hl]
    ·obtain⟨o,q⟩:=S.xt x c;rw[ar (aX q hl)];have h1:=x1 x c;rw[q]at h1;rw[4,q,s5 _ _ [eY,B.xs,x,cp _ c,n _ _ h1]]
    rw[11,OZ,nG [Ak,N,λ _ _ w=>(w.mono tk3).mono tk] [Ak,Y,λ _ _ w=>w.mono tk]]
 ·rintro σ d⟨U,v3,v4,v5,rfl,S1,z1,x1,O,N⟩;rw[aC,u]at N;refine⟨_,J,l,U,J,[wB,ax.of O,W3 λ x c=>?_,λ t ht=>?_]⟩;·rw[138,c];obtain⟨p,_,q,sa,e,_⟩:=[MU,N,x,hi,ei];rw[0,q,e]
  have n:ah d (ag d t (.tup U)):=[cm,d,ht];refine k t _ ⟨U,aw,[Ak,N,λ _ _ q=>q.mono (dF n)]⟩ ⟨(S1.grow (g.plus l) n).minus g,z1.trans (jl n),[Mf],λ x c=>?_⟩;obtain⟨o,q⟩:=S.xt x c;rw[38,x1 x c,q];rw[n _ _ this,q]
end
end VP
end
section
namespace VP
open PySem L2
theorem O0:∀{a b:[lB]},a.map (λ b=>[PX,b])=b.map (λ b=>[PX,b])→a=b|[],[],_=>J|[],_::_,h=>by rw[16]|_::_,[],h=>by rw[16]|x::a,y::b,h=>by simp only[bO,R5]at h;rw[O0 h.2];congr 1;have g:=h.1;cases x<;>cases y<;>simp at g<;>rfl
theorem EH{a b:[lB]}(h:eC a=eC b):a=b:=by unfold eC at h;injection h with h;have h:=ed BO h;simp only[RZ]at h;exact O0 h
theorem YZ{a b:[wS]}(h:wZ a=wZ b):a=b:=by
 cases a with
  |none=>cases b with|none=>rfl|some n=>rw[8,h,by rw[20,¬[ap,-1]=[cQ]]]
  |some m=>cases b with|none=>rw[8,h,by rw[20,¬[ap,m]=-1]]|some n=>have h:[ap,m]=[cQ]:=h;congr 1;omega
theorem O1{a b:Vs.Spot}(h:iz a=iz b):a=b:=by obtain⟨v,c,i,C⟩:=a;obtain⟨V,d,N,u⟩:=b;simp only[iz,Tr.cons.injEq,Tr.num.injEq,Tr.txt.injEq,pw]at h;obtain⟨g,r,P,w⟩:=h;have g:v=V:=[ac];have r:c=d:=[ac];rw[g,r,EH P,CB w]
theorem Au{a b:Vs.a8}(h:fD a=fD b):a=b:=by obtain⟨v,w,i⟩:=a;obtain⟨V,d,N⟩:=b;rw[130,fD];obtain⟨g,r,P⟩:=h;have P:i=N:=[ac];rw[O1 g,YZ r,P]
theorem Y0{a b:[KH]}(h:lH a=lH b):a=b:=by obtain⟨v,w⟩:=a;obtain⟨V,d⟩:=b;rw[130,lH];have g:v=V:=[ac];rw[g,Au h.2]
theorem O2:∀{a b:[Gf]},dJ (a.map lH)=dJ (b.map lH)→a=b|[],[],_=>J|[],_::_,h=>by simp[dJ]at h|_::_,[],h=>by simp[dJ]at h|x::a,y::b,h=>by simp only[bO,dJ,Tr.cons.injEq]at h;rw[Y0 h.1,O2 h.2]
theorem Y1{b P:Bool}{p E:[Gf]}(h:j7 b p=j7 P E):b=P∧p=E:=by rw[130,j7];rw[0,CB h.1,O2 h.2]
theorem EI{H:Hp}{a:ab}{L:Vs.a8}(h:fi H a L):∃N,H a=Z (.tup N)∧eI H (fD L) N:=by obtain⟨sa,g,r⟩:=h;refine⟨_,g,[pU],_,J,⟨sa,_,J,r,_,_,J,[db],_,_,J,[db],_,_,J,J,_,_,J,.inr [de,J],J⟩,_,_,J,.inl ?_,_,_,J,[db],J⟩;cases L.2.1<;>rfl
theorem EJ(L:Vs.a8):c_ (fD L)=2:=by simp[fD,iz,c_]
theorem Av{H:Hp}{a:ab}{L:Vs.a8}(h:fi H a L):eZ H (fD L) a:=⟨[gL,EJ],EI h⟩
theorem Y2{H:Hp}{v:V}{p:[KH]}(h:qf H v p):l9 H (eI H (lH p)) (lH p) v:=by obtain⟨a,sa,e,g,r⟩:=h;obtain⟨N,P,w⟩:=EI r;exact⟨a,_,e,g,_,_,J,[db],_,_,J,[d9,sa,N,P,w],J⟩
theorem O3{H:Hp}:∀{U:[aK]}{a:[Gf]},Paired (qf H) U a→eI H (dJ (a.map lH)) U|_,_,.nil=>J|_,_,.cons r t=>[d9,_,_,Y2 r,O3 t]
theorem O4:∀V:[Gf],c_ (dJ (V.map lH))≤4
 |[]=>by simp[dJ,c_]
 |p::V=>by
  have T:=O4 V;have:c_ (lH p)=3:=by simp[lH,c_,EJ]
  simp only[bO,dJ,c_,this];omega
theorem EK{H:Hp}{a t:ab}{b:Bool}{V:[Gf]}(h:H a=Z [ii,.bl b,.ref t])(G:oS H t V):eZ H (j7 b V) a:=by
 obtain⟨U,g,r⟩:=G;refine⟨?_,_,h,_,_,J,.inr [we,b,J],_,_,J,?_,J⟩;·have:=O4 V;simp only[j7,c_];omega
 ·have:=O3 r;cases V with|nil=>rw[9,t,U,J,g,this]|cons p V=>rw[9,t,U,J,g,this]
theorem EL{H:Hp}{Pt p:ab}{W:Pos}{q:Str}{k d:[lk]}(t:[AV,H])(h:H p=Z (.dT k)):[AV,ag H p (.dT d)]:=by rw[168,[oB,g,h],[oB,b,h]]
theorem Y3{F:aS}(I:cw F){H:Hp}{a:[bv]}(S:bA F H a){Y:[lk]}(h:H F.d1=Z (.dT Y)){L:Vs.a8}{e:KE}(j:[wo])(c:e∈a)(Q:oU F L e):bJ F 0 H a (ag H F.d1 [Dc,fD L,[AW]]) a:=by
 have U:F.d1∈aP F a:=ib.mpr [db];have z:ah (Zh (aP F a) H) (Zh (aP F a) (ag H F.d1 [Dc,fD L,[AW]])):=λ b o q=>by rw[124,q,λ w=>q.2 [ar,w,U]]
 obtain⟨E,D,l⟩:=S.lJ;rw[117];obtain⟨M,P⟩:=S.k3;obtain⟨m,g,t,k1⟩:=S.k1;rw[131];rw[h]at g;cases g;have u:[CZ,F.d1,ag H F.d1 [Dc,fD L,[AW]] b=H b]:=λ b f=>ar f
 rw[17,⟨[Nz],[J9],[JU],[JW],[KN],EL S.tab h,[MH,u _ D.symm],⟨M,[uf,D.symm,P]⟩,⟨_,aw,xP _ t,[ro]⟩,⟨T,[uf,E.symm,r],k2⟩,S.lJ,S.knd,λ x A=>[ut,?_,S.kn x A],S.of,[rp],S.xd⟩,z,λ i x A=>[d9,x,A,J,Vs.eG.refl _ _],λ x A=>u _ [Cb].1];·rcases xO R with rfl|R;rw[2,⟨L,e,j,c,J,Q⟩,k1 p R]
 ·obtain⟨k,_⟩:=S.kn x A;obtain⟨_,_,_,_,_,v,d,_⟩:=id k.ex;exact k.mono (u _ (cE v h (by rw[87]))) (u _ (cE d h (by rw[87]))) z
 ·rw[77,x,A];rw[0,o,[uf,[Cb].1,q]]
theorem Y4{F:aS}(I:cw F){H:Hp}{a:[bv]}(S:bA F H a){Y:[lk]}(h:H F.d1=Z (.dT Y)):[J4]:=by obtain⟨d,g,t,k1⟩:=S.k1;rw[h]at g;cases g;rw[96,[OD,F.U.map fD,t,by obtain⟨p,R,rfl⟩:=[bp,A];obtain⟨L,e,b,_,rfl,_⟩:=k1 p R;exact[jz,L,b]],aC,aC];exact(eR (bf this I.Ul) [bd])
theorem Y5{F:aS}(I:cw F){H:Hp}{a:[bv]}(S:bA F H a){Y:[lk]}(h:H F.d2=Z (.dT Y)):[J4]:=by obtain⟨d,g,t,k1⟩:=S.k2;rw[h]at g;cases g;rw[96,[OD,F.U.map λ L=>j7 (F.en L) (iA F L),t,by obtain⟨p,R,rfl⟩:=[bp,A];obtain⟨L,e,b,_,rfl,_⟩:=k1 p R;exact[jz,L,b]],aC,aC];exact(eR (bf this I.Ul) [bd])
def j8(F:aS)(L:Vs.a8):Vs.GK:=⟨F.en L,iA F L,[DB,F.en L,⟨[],0,λ _=>0,0,0⟩,[]],[]⟩
theorem Y6{F:aS}(I:cw F)(L:Vs.a8):[MJ,j8 F L]:=by
 have d:∀n,(Vs.bZ n (λ _=>0))=0:=λ n=>by induction n with|zero=>rfl|succ n T=>rw[20,(Vs.bZ n _)+0=0]
 unfold j8;cases e:F.en L with
  |false=>rw[9,[al],[al],[al],[al],[al]]
  |true=>
   rw[28,λ c V=>?_,[al],[al],[al],λ _=>[p_,cq]];simp at V;subst V;rw[24,J,Vs.l6.zero _,⟨[al],[al],ba _,ba _,b7 _,?_,λ k=>b7 _,?_⟩];·show Vs.bZ F.ks.length (λ _=>0)+0≤12;rw[31,d]
   ·rintro⟨k,C,_⟩;cases C
end VP
end
section
namespace VP
open PySem L2
theorem O5{F:aS}{a:[bv]}{e:KE}{b:ab}:b∈aP F (a++[e])↔b∈aP F a∨b=e.kn∨b=e.cl:=by
 rw[ib,ib];rw[7]
 ·rintro(h|h|h|h|⟨x,A,h⟩|h);rw[2,.inl [m_],.inl [Gg]];rw[2,.inl [nM,[m_]],.inl [nM,[Gg]]]
  ·rcases[gM,A]with q|q;·rw[21,[Bd,[wB,x,q,h]]]
   ·rw[113];exact .inr h
  ·rw[21,[Bd,.inr h]]
 ·rintro((h|h|h|h|⟨x,A,h⟩|h)|h);·rw[21,h]
  rw[2,[Gg],[nM,[m_]]];rw[2,[nM,[Gg]],[Bd,[wB,x,lP _ A,h]]];rw[2,[Bd,.inr h],[Bd,[wB,e,iQ _ cq,h]]]
theorem Y7{F:aS}(I:cw F){H m:Hp}{d:[bv]}(S:bA F H d){Y:[lk]}(c:H F.d2=Z (.dT Y)){L:Vs.a8}(hU:[wo]){t kn N K dx:ab}{G:[aT]}(s:ah H m)(hst:oS H t (iA F L))(E:H kn=none)(D:H N=none)(n3:H K=none)(m1:N≠K)(m2:N≠kn)(m3:K≠kn)(a1:m kn=Z (.ins F.CK dx (fU.zip [Kr,t,N,K])))(a2:m N=Z (.aj [wk]))(a3:m K=Z (.aj []))(a4:d8 F.CC d7 m G [DB,F.en L,(0,0,0),[]])(a5:∀a∈G,H a=none∧a≠N∧a≠kn):bJ F 0 H d [QC] (d++[[MY]]):=by
 have hM:F.d2∈aP F d:=ib.mpr (.inr [db]);obtain⟨d1,d2,d3⟩:=S.lJ;have h2':=s _ _ c;have u:[CZ,F.d2,ag m F.d2 [Dc,j7 (F.en L) (iA F L),.ref kn] b=m b]:=λ b nb=>ar nb
 have k2n:kn≠F.d2:=(aX c E).symm;have c2n:N≠F.d2:=(aX c D).symm;have l2n:K≠F.d2:=(aX c n3).symm;have z:ah (Zh (aP F d) H) (Zh (aP F (d++[[MY]])) [QC]):=λ b o q=>by
  have q:=bV.mp q;refine[rs,[uf,λ w=>q.2 [ar,w,hM],s _ _ q.1],λ w=>?_];rcases O5.mp w with w|w|w;·exact q.2 w
  rw[2,aX q.1 E w,aX q.1 D w]
 have T:[Ag,m,H b,b≠kn→b≠N→Zh (aP F (d++[[MY]])) [QC] b=Z o]:=λ b o e hn w1 w2=>by
  refine[rs,[uf,(aX c hn).symm,e],λ w=>?_];rcases O5.mp w with w|w|w;·exact S.free hn w
  rw[2,w1 w,w2 w]
 obtain⟨dxo,co⟩:=S.co;obtain⟨kv3,P⟩:=S.k3;obtain⟨kv1,h1,k1n,k1⟩:=S.k1;obtain⟨kv2,U,W,k2⟩:=S.k2;rw[c]at U;cases U;have O:oU F L [MY]:=[ge,J];have M:∀(j:Nat)(x:KE),(d++[[MY]])[j]?=Z x→d[j]?=Z x∨(j=d.length∧x=[MY]):=λ j x A=>by
  by_cases w:j<d.length;·rw[Rw w]at A;rw[21,A]
  ·rw[List.getElem?_append_right [ac]]at A;have:j-d.length=0:=by rw[84,[eJ,A]]
   rw[this]at A;simp at A;exact[jT,[ac],A.symm]
 have Q:∀x∈d,x.kn≠kn∧x.cl≠N:=λ x A=>by obtain⟨_,_,_,_,_,n,X,_⟩:=(S.kn x A).1.ex;rw[0,aX n E,aX X D]
 rw[17,⟨⟨dxo,z _ _ co⟩,[J9],[JU],[JW],[KN],EL (jh S.tab s) h2',[MH,[uf,d3.symm,(s _ _ P).trans P.symm]],⟨kv3,[uf,d3.symm,s _ _ P]⟩,⟨kv1,[uf,d1,s _ _ h1],k1n,[ro]⟩,⟨_,aw,xP _ W,[ro]⟩,S.lJ,λ i j x y A f nij=>?_,[rp],[rp],[rp],[rp]⟩,z,λ i x A=>[d9,x,?_,J,Vs.eG.refl _ _],[rp]];·obtain⟨B,x,n,X,v,C⟩:=k1 p R;rw[37,B,x,n,lP _ X,v,C]
 ·rcases xO R with rfl|R;·rw[37,L,_,hU,iQ _ cq,J,O]
  ·obtain⟨B,x,n,X,v,C⟩:=k2 p R;rw[37,B,x,n,lP _ X,v,C]
 ·rcases M i x A with A|⟨ei,rfl⟩<;>rcases M j y f with f|⟨ej,rfl⟩;rw[2,S.knd i j x y A f nij,Q x (bt A)];·have:=Q y (bt f);rw[0,this.1.symm,this.2.symm]
  ·omega
 ·rcases[gM,A]with q|q;·obtain⟨k,g⟩:=S.kn x q;obtain⟨_,_,_,_,_,b1,b2,_⟩:=id k.ex;rw[0,k.mono [uf,cE b1 c (by rw[87]),(s _ _ b1).trans b1.symm] [uf,cE b2 c (by rw[87]),(s _ _ b2).trans b2.symm] z,g]
  ·rw[113];rw[15,⟨dx,t,K,G,[],[uf,k2n,a1],[uf,c2n,a2],T K _ a3 n3 m3 m1.symm,(hst.mono S.dZ).mono (dF z),?_,.nil⟩,Y6 I L];have e:[CF,(j8 F L).cs.map (jm F),F.en L,[(0,0,0)],[]]:=by unfold j8;cases F.en L<;>rfl
   rw[14,d8 F.CC d7 _ G ((j8 F L).cs.map (jm F)),e];have gen:∀(l:[aT])(ds:List du),d8 F.CC d7 m l ds→(∀a∈l,H a=none∧a≠N∧a≠kn)→d8 F.CC d7 (Zh (aP F (d++[[MY]])) [QC]) l ds:=by intro l ds hh;induction hh with|nil=>intro _;exact .nil|cons r _ ih=>intro ha;have q:=ha _ cq;obtain⟨dy,w⟩:=r;exact(.cons ⟨dy,T _ _ w q.1 q.2.2 q.2.1⟩ (ih λ a h=>ha a (cp _ h)))
   exact gen G _ a4 a5
 ·rw[92,[gM,A],S.of x q];·rw[113];rw[1,L,hU,O]
 ·rw[77,x,A];rw[0,o,[uf,[Cb].2.1,s _ _ q]]
 ·obtain⟨n,X,v,C,q5⟩:=[Cb];rw[77,x,A];rw[28,n,X,v,C,λ y f=>?_];rcases[gM,f]with w|w;·exact q5 y w
  ·simp at w;subst w;rw[0,aX q E,aX q D]
 ·have:=[eJ,A];rw[4,Rw this,A]
 ·rw[77,x,A];rw[u _ [Cb].2.1,s _ _ q,q]
section
variable{P:aY}{w:aU}{K:aF}{mg:[a_]}{base:aE}
theorem Aw{Y:[lk]}{k:Tr}{v:V}(h:cn Y k=Z v):(k,v)∈Y:=by obtain⟨u,g,r⟩:=um (wY h);rw[h]at g;rw[6,g,r]
theorem Y8{F:aS}(l:cw F)(G:[Ab]){CS f fT fE fS:ab}{fd fdT fdE fdS:bq}(I:sg K mg F CS)(M:[eq,"known_of",[Og],rP,F.bo,f,fd,[iZ]])(ME:[eq,"is_end","Scanner.is_end",uO,CS,fE,fdE,[iZ]])(GE:aA P w K mg base aG 9 fE fdE [iZ] (x8 F))(MS:[eq,"steps_from",[Q0],uG,F.bo,fS,fdS,[iZ]])(GS:aA P w K mg base aG 10 fS fdS [iZ] (EF F)):aA P w K mg base aG 15 f fd [iZ] (xW F):=by
 have nd:=NK.nd;obtain⟨fK,fdK,IK⟩:=G.iK;obtain⟨fC,fdC,IC⟩:=G.iC;have GK:aA P w K mg base aG 3 fK fdK [Ln] (Ov F.CK F.CC):=Yv IK G.TK IC G.TC;rw[90,NK];·obtain⟨d,a,L,rfl,_⟩:=h;rfl
 obtain⟨d,a,L,rfl,S,p,hU,k⟩:=h;have p:=p.mono (dF bp);rw[89];have hr9:cy 9 _:=[yf,9,14];have hr10:cy 10 _:=[yf,10,14];have hr4:cy 4 _:=[yf,4,14];rw[54,cI (CO (Aa hu (pv 1) [er])) [At,2,[pT,[pM,[er],I.TS.cl,ME.me,GE,hr9,ME.b,pv 1,aB],ak [pM,pv 0,G.cZ.cl,MS.me,GS,hr10,MS.b,pv 1,aB] aB],[lA,CO (Aa hu (pv 2) [er]),nk hu [er] (pv 2) (lB IK.ma GK hr4 J G.TK.mg IK.b .nil bH [Ae,fQ j4 (pv 2) bu (λ _ _=>J),fQ j4 (pv 2) bu (λ _ _=>J)]) J],aN (nk hu [er] (pv 1) (nj hu [er] (pv 2) (λ _ _=>J)) J)] cQ,[rE,nj hu [er] (pv 1) (λ _ _=>J)]];have C:∀{H':Hp}{gs':[bv]},bA F H' gs'→∃W,H' F.co=[ff,F.bo,[Tn]]:=λ S'=>by obtain⟨W,r⟩:=S'.co;rw[0,W,bp _ _ r]
 have fin:∀(H1:Hp)(o:[bv])(i:Nat)(e:KE)(v2:[dL]),[b9,bJ F 0 H d H1 o,o[i]?=Z e,oU F L e,∃Y,H1 F.d1=Z (.dT Y)∧cn Y (fD L)=Z [AW],wN (nc K (cv 0) "known") (cv 1) [Z [zl],[lm],v2] H1 Q]:=λ H1 o i e v2 m he u⟨Y,c,hv⟩=>by obtain⟨O,n⟩:=C m.st;have g:=eW.t c (Av (p.mono (m.dZ S)));rw[hv]at g;exact⟨_,J,F.co,F.bo,O,_,_,J,n,G.cZ.cl,[DR,3],[El,3],_,J,F.d1,_,J,g,k i e H1 o he u m⟩
 have X:∀(H4:Hp)(z:[bv])(i:Nat)(e:KE)(kt t:ab)(D:Ends),[b9,bJ F 0 H d H4 z,z[i]?=Z e,oU F L e,∃Y,H4 F.d2=Z (.dT Y)∧cn Y (j7 (F.en L) (iA F L))=Z [AW],H4 kt=Z [ii,.bl (F.en L),.ref t]→oS H4 t (iA F L)→(∀H5,wN (nc K (cv 0) "known") (cv 1) [Z [zl],[lm],[bV,kt]] H5 Q→D.nx [Z [zl],[lm],[bV,kt]] H5)→DN (nc K (cv 0) "known") (cv 1) (wN (nc K (cv 0) "known_by_steps") (cv 2)) D [Z [zl],[lm],[bV,kt]] H4]:=λ H4 z i e kt t D m he u⟨Y,r,hv⟩hkt R hD=>by obtain⟨O,n⟩:=C m.st;have g:=eW.t r (EK hkt R);rw[hv]at g;obtain⟨kv1,c,_⟩:=id m.st.k1;have y:=Y3 l m.st c hU (bt he) u;refine⟨_,J,F.co,F.bo,O,_,_,J,n,G.cZ.cl,[DR,4],[El,4],_,J,F.d2,_,J,g,_,J,F.co,F.bo,O,_,_,J,n,G.cZ.cl,[DR,3],[El,3],_,J,F.d1,_,J,jf.t c (Av (p.mono (m.dZ S))) (Y4 l m.st c),hD _ (fin _ z i e _ (m.trans y) he u ⟨_,aw,by rw[rF,aI J]⟩)⟩
 obtain⟨O,n⟩:=C S;obtain⟨kv1,c,k1n,k1⟩:=id S.k1;refine⟨_,J,_,J,F.co,F.bo,O,_,_,J,n,G.cZ.cl,[DR,3],[El,3],F.d1,_,J,eW.t c (Av p),_,J,?_⟩;cases ev:cn kv1 (fD L)with
  |some v=>obtain⟨st',e,q1,q2,q3,q4⟩:=k1 _ (Aw ev);injection q3 with q5 q6;rw[83,Au q5];subst q6;rw[138,q2];exact a_ (fin H d i e none (bJ.refl 0 S) (by rw[bX hi,ei]) q4 ⟨kv1,c,ev⟩)
  |none=>
   rw[142,S.sc];have hsc:=bp _ _ hsc;refine aV ⟨_,J,F.co,F.bo,O,_,_,J,n,G.cZ.cl,[DR,0],[El,0],F.sc,dsc,_,J,hsc,[fz],_,J,d,a,L,J,S,p,hU,λ H1 s1=>?_⟩;have S1:=S.grow l s1;obtain⟨dco1,hco1⟩:=C S1;refine⟨_,J,F.co,dco1,_,J,hco1,[fz],_,J,d,a,L,J,S1,p.mono (dF s1),hU,λ t H2 R adv2=>⟨[Bi],λ kt hkt=>?_⟩⟩;have S2:=adv2.st;have s3:ah H2 [pD,H2,kt,.bl (F.en L),.ref t]:=[cm,H2,hkt];generalize hH3:[pD,H2,kt,.bl (F.en L),.ref t]=H3 at s3⊢;have N:H3 kt=Z [ii,.bl (F.en L),.ref t]:=[cE,hH3,aw];have S3:=S2.grow l s3;have adv3:bJ F 0 H d H3 d:=(((bJ.grow l 0 S s1).trans adv2).trans (bJ.grow l 0 S2 s3));have T:oS H3 t (iA F L):=R.mono (dF s3);obtain⟨dco3,hco3⟩:=C S3;obtain⟨kv2,r,k2n,k2⟩:=id S3.k2;refine⟨_,J,_,J,F.co,F.bo,dco3,_,_,J,hco3,G.cZ.cl,[DR,4],[El,4],F.d2,_,J,eW.t r (EK N T),_,J,?_⟩;cases ev2:cn kv2 (j7 (F.en L) (iA F L))with
    |some v=>obtain⟨st',e,q1,q2,q3,q4⟩:=k2 _ (Aw ev2);injection q3 with q5 q6;obtain⟨q7,q8⟩:=Y1 q5;subst q6;rw[138,q2];exact a_ (X H3 d i e kt t _ adv3 (by rw[bX hi,ei]) ⟨(q4.1.trans q7.symm),(q4.2.trans q8.symm)⟩ ⟨kv2,r,ev2⟩ N T λ H5 q=>q)
    |none=>
     refine aV ⟨_,J,kt,_,_,_,J,J,bM.of N,[zh,1,J],_,J,kt,_,_,_,J,J,bM.of N,[zh,0,J],λ x W nx ndx nex=>⟨x,W,t,F.en L,J,aw,λ cl ll cas H4 c1 c2 c3 c4 c5 c6 c7 c8 c9 U c11=>[lu,?_]⟩⟩;have s4:ah H3 H4:=ah.made nx ndx c11;have low:∀b,ag (ag H3 W (.own x)) x (.ins F.CK W []) b=none→b≠x→H3 b=none:=λ b e nb=>by
      rw[ar nb]at e;by_cases w:b=W;·subst w;rw[35,aw]
      ·rw[ar w]at e;exact e
     have h24:=s4 _ _ r;have B:=Y7 l S3 r hU s4 T nx (low cl c1 c4) (low ll c2 c5) c3 c4 c5 c6 c7 c8 c9 λ b hb=>⟨low b (U b hb).1 (U b hb).2.2,(U b hb).2.1,(U b hb).2.2⟩
     obtain⟨dco4,hco4⟩:=C (S3.grow l s4);refine⟨_,J,F.co,F.bo,dco4,_,_,J,hco4,G.cZ.cl,[DR,4],[El,4],_,J,F.d2,_,J,jf.t h24 (EK (s4 _ _ N) (T.mono (dF s4))) (Y5 l S3 r),?_⟩;have y:=adv3.trans B;refine X _ (d++[⟨x,cl,j8 F L⟩]) d.length ⟨x,cl,j8 F L⟩ kt t _ y [al] [ge,J] ⟨_,aw,by rw[rF,aI J]⟩ (B.dZ S3 _ _ N) (T.mono (B.dZ S3)) λ H5 q=>q
end
end VP
end
section
namespace VP
open PySem L2
def gQ(w:[lB]):V:=.str (eC w)
def EN(c:Hp)(a:ab)(s:[Eu]):Prop:=∃y,(c a=Z (.aj (y.map V.ref))∧(Paired (λ b iT=>c b=Z (.aj (iT.map gQ))) y s))
def EO(d:Hp)(a:ab)(S:[nk]):Prop:=∃G,(d a=Z (.aj [wk])∧(Paired (λ b(c:[xP])=>d b=Z [ii,nV c.1,nV c.2]) G S))
def Y9(b:Hp)(a:ab)(S:[nk]):Prop:=∃Y,b a=Z (.dK Y)∧∀f:Nat,(cn Y (bY [ap,f])).getD (nV 0)=nV (Vs.eB S f)
structure ie(B:ab)(m:bT)(sc d3:ab)(a:Hp):Prop where
 ex:∃W x n A en,[bn,a sc=[ff,B,eM.zip [.ref x,.ref n,.ref A,.ref en,.ref d3]],EN a x m.feet,EO a n m.cuts,Y9 a A m.cuts,mw a en (Vs.gH m)]
theorem ie.mono{B:ab}{m:bT}{sc d3:ab}{a c:Hp}(h:[CO,a])(s:ah a c):[CO,c]:=by obtain⟨W,x,n,A,en,g,⟨y,r,P⟩,⟨G,w,b⟩,⟨Y,H,R⟩,k⟩:=h.ex;exact⟨W,x,n,A,en,s _ _ g,[wG,y,s,r,[su,P,s _ _ z]],[wG,G,s,w,[su,b,s _ _ z]],[wG,Y,s,H,R],s _ _ k⟩
theorem x_:eC []=("":Str):=[bE]
theorem O6{r:[lB]}:[C8,(V.str (eC r))=(V.str ("":Str)),r=[]]:=by
 rw[dH,dw,dw];rw[7];·intro h;injection h with h;rw[←x_]at h;exact EH h
 ·intro h;rw[h,x_]
section
variable{P:aY}{w:aU}{K:aF}{mg:[a_]}{base:aE}
def O7(K:aF)(B:ab)(m:bT)(sc d3:ab):Sp:=λ U H Q _=>∃(f:Nat)(r:[lB]),U=[[wn],nV f,gQ r]∧[CO,H]∧∀(l:ab)(a:Hp),ah H a→a l=Z (.aj ((Vs.cS m.feet f r).map gQ))→Q [io] a
theorem Y_{f n sc d3:ab}{m:bT}{d:bq}(M:[eq,"ways_on","Scanner.ways_on",xM,n,f,d,[L0]])(T:[Ay,n])(B:el mg):aA P w K mg base aG 1 f d [L0] (O7 K n m sc d3):=by
 rw[53,M.fn.ok,X7,[QO]];·obtain⟨f,r,rfl,_⟩:=h;rfl
 obtain⟨I,r,rfl,S,k⟩:=h;obtain⟨W,y,x,t,en,g,⟨z,b,c⟩,_⟩:=S.ex;rw[46,[y8,[lA,[dU,rq,pv 2,fy],bB (fz [gv,2])],wh [dU,C5,pv 1,[As,gv,B.len,f6,[er]]] (fQ ni [er] (pv 1) (λ _ _=>J)) (fz aB)],[wY,?_]];have D:=O6 (r:=r);rw[14,[wO,[wK,(V.str (eC r))=(V.str ("":Str))]],D];by_cases e:r=[]
 ·rw[13,bK e,a_ ?_];have C:[wz]=(m.feet[I]?).getD []:=by unfold Vs.cS;rw[aI e]
  rw[C]at k;have q:=er c;refine⟨_,J,_,J,sc,n,W,_,_,J,g,T.cl,[lD,0],[mj,0],_,z.length,J,?_,_,_,J,J,_,J,?_⟩;·rw[21,⟨_,(ax.of b),by rw[aC]⟩]
  ·show[wO,[aN,[ap,I]<[ap,z.length]]];by_cases p:I<z.length;·rw[[wh]];obtain⟨a,ha⟩:∃a,z[I]?=Z a:=[gt,bX p];obtain⟨iT,F,G⟩:=d6 c ha;rw[F]at k;exact aV ⟨_,J,sc,n,W,_,_,J,g,T.cl,[lD,0],[mj,0],_,J,y,_,_,_,J,J,(ax.of b),at_of (j:=I) (v:=(V.ref a)) J [jl,cJ,ha],k a H (ah.refl H) G⟩
   ·rw[[ol]];rw[sQ [ac]]at k;exact a_ [Fu,λ l X=>k l _ [mt,X] aw]
 ·rw[bW e];have C:[wz]=[r]:=by unfold Vs.cS;rw[aD e]
  rw[C]at k;exact aV ⟨_,J,by rw[80,1],λ l X=>k l _ [mt,X] aw⟩
def yc(sp:Vs.Spot):[aK]:=[nV sp.1,nV sp.2.1,.str (eC [lv].1),.bl [lv].2]
def ER(B:ab)(m:bT)(sc d3:ab):Sp:=λ U H Q _=>∃(f p:Nat)(r:[lB])(L:Bool),U=[[wn],nV f,nV p,gQ r,.bl L]∧[CO,H]∧∀(a:ab),[zI,H a=none,ag H a (.tup (yc (Vs.jv m f p r L)))]
theorem Za{f B sc d3:ab}{m:bT}{v:bq}(M:[eq,"spot_at","Scanner.spot_at",xK,B,f,v,[K8]])(T:[Ay,B])(y:[EW,"MOST_PLACES",nV 4]):aA P w K mg base aG 1 f v [K8] (ER B m sc d3):=by
 obtain⟨D,d,C⟩:=y;rw[53,M.fn.ok,X6,λ l A outer s H U Q E c h=>?_];·obtain⟨f,p,r,L,rfl,_⟩:=h;rfl
 obtain⟨I,p,r,L,rfl,S,k⟩:=h;obtain⟨W,x,t,n,en,b,_,_,⟨Y,z,R⟩,_⟩:=S.ex;have o:=jB c;rw[54,[lA,[dU,e_,pv 3,fy],bB [pT,[zZ,pv 1],ak bu [Am,fy,4]]],[y8,[Bj,[KS,iH (pv 4),[dU,zM,pv 2,Mr o [er] [zZ,pv 1] bu [em,J,J,J]]],[pT,pv 1,ak (b8 J d C) [Kn]]],[pT,pv 1,ak (pv 2) [Kn]]]];rw[33,[wY,?_],(V.str (eC r))=(V.str ("":Str))];rw[O6];by_cases j:r=[]
 ·rw[bK j];have e:Vs.jv m I p r L=(I+1,0,[],L):=by unfold Vs.jv;rw[aI j]
  rw[e]at k;refine aV ⟨_,J,_,_,J,J,_,J,[rF,4,J],[K4]⟩;have:=k a ha;unfold yc at this;rw[114,x_]
 ·rw[13,bW j,a_ ?_];have wM:(L=true∨Vs.eB m.cuts (I+1)≤p)→Vs.jv m I p r L=(I,4,r,L):=λ q=>by unfold Vs.jv;rw[aD j,aI q]
  have F:¬(L=true∨Vs.eB m.cuts (I+1)≤p)→Vs.jv m I p r L=(I,p,r,L):=λ q=>by unfold Vs.jv;rw[aD j,aD q]
  refine[lc,_,J,L,?_];cases L with
   |true=>rw[wM [db]]at k;exact aV (aV ⟨_,J,_,J,_,J,[rF,4,J],λ a ha=>k a ha⟩)
   |false=>
    have g:=eW.k (k:=bY [aV,I+1]) z;have e1:kV (bY [aV,I+1])=(V.int ([ap,I]+1)):=by show(V.int _)=(V.int _);congr 1
    rw[e1]at g;refine a_ ⟨_,J,_,J,sc,B,W,_,_,J,b,T.cl,[lD,2],[mj,2],n,J,.inl [gt,.inl z],_,J,_,_,J,J,_,g,?_⟩;have e2:(cn Y (bY [aV,I+1])).getD (V.int 0)=nV (Vs.eB m.cuts (I+1)):=R (I+1);rw[e2];rw[33,[Dy,_,J],[aV,Vs.eB m.cuts (I+1)]≤[ap,p]];rw[qe];by_cases q:Vs.eB m.cuts (I+1)≤p;·rw[bK q];rw[wM (.inr q)]at k;exact aV ⟨_,J,_,J,_,J,[rF,4,J],λ a ha=>k a ha⟩
    ·rw[bW q];rw[F [bB,q]]at k;exact a_ ⟨_,J,_,J,_,J,_,J,[rF,4,J],λ a ha=>k a ha⟩
def O8(B:ab)(m:bT)(sc d3:ab):Sp:=λ U H Q _=>∃(f p:Nat),(U=[[wn],nV f,nV p]∧[CO,H]∧m.cuts≠[]∧∀a,ah H a→Q (.bl (Vs.mX m f p)) a)
theorem O9(a b:[xP]):fg [JN,a.1,a.2] [JN,b.1,b.2]=true↔Vs.lexLt b a:=by rw[rJ];unfold Vs.lexLt;omega
theorem Zb{f l sc d3:ab}{m:bT}{v:bq}(M:[eq,"cut_can_come",[Q7],xJ,l,f,v,[L6]])(T:[Ay,l])(B:el mg):aA P w K mg base aG 1 f v [L6] (O8 l m sc d3):=by
 rw[53,M.fn.ok,X5,λ n A outer s H U Q E u h=>?_];·obtain⟨f,p,rfl,_⟩:=h;rfl
 obtain⟨I,p,rfl,S,y,k⟩:=h;obtain⟨W,fe,N,C,en,a,_,⟨G,j,L⟩,_⟩:=S.ex;rw[46,[rE,lA (Xb u.Vr) [As,Xd J u.units,B.max,Rz,[er]] [pT,[zZ,pv 1],[gv,2]] (ck _)],⟨_,J,sc,l,W,_,_,J,a,T.cl,[lD,1],[mj,1],N,G,m.cuts.map λ c=>[JN,c.1,c.2],J,(ax.of j),[ov,er L],λ i b q d D=>?_,[aB,y],λ i b q d D Y=>?_⟩];·obtain⟨c,V,R⟩:=d6 L d;rw[cJ,V]at D;have:=[nr,D];rw[65,bM.of R]
 ·obtain⟨c,V,R⟩:=d6 L d;rw[cJ,V]at D;have:=[nr,D];subst this;refine⟨_,J,_,_,J,J,_,J,[Bi],λ t F=>⟨b,t,[[ap,c.1],[ap,c.2]],[[ap,I]+1,[ap,p]],J,J,bM.of [b8,aX R F,R],bM.of aw,?_⟩⟩;have e:HT.jg [[ap,c.1],[ap,c.2]] [[ap,I]+1,[ap,p]]=Vs.mX m I p:=by
   have:=Nj [JN,c.1,c.2] ([ap,I]+1,[ap,p]);rw[this,dH,Vs.KH];have g:=O9 c (I+1,p);have o:([aV,I+1],[ap,p])=([ap,I]+1,[ap,p]):=J;rw[7];·intro h;rw[1,c,bt V,g.mp h]
   ·rintro⟨x,O,X⟩;have r:=Y _ [jz,x,O];cases q:fg [JN,c.1,c.2] ([ap,I]+1,[ap,p])with
     |true=>rfl
     |false=>
      exfalso;have n1:¬Vs.lexLt (I+1,p) c:=λ z=>by have:fg [JN,c.1,c.2] ([ap,I]+1,[ap,p])=true:=g.mpr z;rw[q]at this;cases this
      have n2:¬Vs.lexLt c x:=λ z=>by rw[98,(O9 x c).mpr z,r]
      unfold Vs.lexLt at*;simp only at*;omega
  rw[4,e,k _ [mt,F]]
end
end VP
end
section
namespace VP
open PySem L2
section
variable{P:aY}{w:aU}{K:aF}{mg:[a_]}{base:aE}
def ES(K:aF)(bo bN:ab):Sp:=λ U H Q _=>∃(p W sc ka:ab)(ks:[d6])(aO:[aT]),[kw,U=[Kr,p,sc,ka],H p=[ff,bo,[]],H ka=Z (.aj [JY]),jD bN H ks aO,[KO],[Dd,[pO]≤64],∀(r d1 d2:ab)(m:Hp),[wg,r,H d1=none,H d2=none,[b9,r≠d1,r≠d2,d1≠d2,m p=[ff,bo,lI.zip [[wn],.ref ka,.ref r,.ref d1,.ref d2]],[b9,kG m r (runOf ks) (xT ks),m d1=Z (.dT []),m d2=Z (.dT []),[C9,p,m b],([uj,m,b≠p,b≠r→b≠d1→b≠d2→H b=Z o])→Q .bh m]]]]
theorem Zc{f bo bN fr:ab}{fd U:bq}(I:iM K [Q8] xy bo f fd [Ke])(T:[Pp,bo])(TK:[CI,bN])(D:[gh,"runs_of",xp,fr,U,[[pW]]]):aA P w K mg base aG 2 f fd [Ke] (ES K bo bN):=by
 have G:aA P w K mg base aG 1 fr U [[pW]] (Oq K bN):=Yt D TK;rw[60,I.fn.ok,XU];·obtain⟨p,W,sc,ka,ks,aO,rfl,_⟩:=h;rfl
 obtain⟨p,W,sc,ka,ks,aO,rfl,R,y,hK,hS,hf,k⟩:=h;rw[54,[uh,pv 1],aK [uh,pv 2] (aK [uh,[Co,G,hr,D.mg,D.fn.kp,D.b,2]] [O2,uj,uj])];have e0:[LO,lI.zip]:=[al];rw[e0]at R;have t:ka≠p:=[oB,y,R];have up:∀{o:HO}{b:ab},b≠p→ag H p o b=H b:=λ j=>ar j
 rw[41,[de,[FQ,R,[FQ,aw,?_]]],iW];generalize hv:lI.zip ([]++[eD,sc]++[eD,ka])=X;have L:[C9,p,ag H p (.ins bo W X) b]:=λ b o e j=>[b8,j,e]
 have hK2:jD bN (ag H p (.ins bo W X)) ks aO:=by
  rw[15,hK.len,λ i d hd=>?_];obtain⟨q,nu,sh,h1,⟨dy,h2⟩,a,c⟩:=hK.at_ i d hd;have nq:q≠p:=by intro z;subst z;rw[h2]at R;have a:=[dF,R];injection a with _ _ c;simp[fR,oR]at c
  exact⟨q,nu,sh,h1,⟨dy,L _ _ h2 nq⟩,L _ _ a [oB,a,R],c.mono λ b xs e=>L _ _ e [oB,e,R]⟩
 refine⟨ka,ks,aO,J,(ax.of (L _ _ y t)),hK2,hS,hf,λ r H2 l hR g v=>?_⟩;subst hv;have C:r≠p:=λ z=>by subst z;rw[aw]at l;cases l
 have S:H r=none:=by rw[ar C]at l;exact l
 refine[zV,g _ _ aw];intro d1 m;have n:d1≠p:=λ z=>by subst z;rw[aw]at m;cases m
 have M:H2 d1=none:=by rw[ar n]at m;exact m
 refine[zV,[b8,n.symm,aw]];intro d2 F;have u:d2≠p:=λ z=>by subst z;rw[aw]at F;cases F
 have O:d2≠d1:=λ z=>by subst z;rw[ar u,aw]at F;cases F
 have N:H2 d2=none:=by rw[ar u,ar O,ar u]at F;exact F
 refine[zV,[b8,u.symm,aw]];obtain⟨Y,x,B⟩:=id hR;have r1:r≠d1:=aX x M;have r2:r≠d2:=aX x N;have f1:H d1=none:=by rw[56,g.free M,ar n]
 have f2:H d2=none:=by rw[56,g.free N,ar u]
 refine k r d1 d2 _ S f1 f2 r1 r2 O.symm aw ⟨Y,?_,B⟩ ?_ ?_ (λ b o e j=>?_) λ b o e j br b1 b2=>?_
 ·rw[ar C,ar r2,ar C,ar r1,ar C];exact x
 ·rw[ar n,ar O.symm,ar n,aw]
 ·rw[ar u,aw]
 ·rw[ar j,ar (aX e f2),ar j,ar (aX e f1),ar j];exact g _ _ (L _ _ e j)
 ·rw[ar j,ar b2,ar j,ar b1,ar j]at e;rw[56,v b o e br,ar j]
end
end VP
end
section
namespace VP
open PySem L2
def Cn(mg:[a_])(x:Str)(n:Nat):Prop:=[EW,x,nV n]
section
variable{P:aY}{w:aU}{K:aF}{mg:[a_]}{base:aE}
def ET:Sp:=λ U H Q _=>∃a b:Nat,U=[nV a,nV b]∧Q (nV (Vs.joined a b)) H
theorem Zd{f:ab}{v:bq}(D:[ln,"joined_weight",xF,v,[Ik]])(i:Cn mg "NO_CONSONANT" 0)(T:Cn mg "HEAVY" 3):aA P w K mg base aG 1 f v [Ik] ET:=by
 obtain⟨e,I,G⟩:=i;obtain⟨t,c,d⟩:=T;rw[53,D.fn.ok,XY,[EI]];·obtain⟨a,b,rfl,_⟩:=h;rfl
 obtain⟨a,b,rfl,q⟩:=h;rw[54,[lA,[dU,e_,pv 0,b8 J I G],bB (pv 1)],[y8,[lA,[dU,e_,pv 1,b8 J I G],bB (pv 0)],b8 J c d]];unfold Vs.joined at q;rw[125,[wY,?_],a,0];by_cases g:a=0;·rw[bK g];rw[72,aI g,aV [de,q]]
 ·rw[bW g];rw[aD g]at q;rw[125,a_ [wY,?_],b,0];by_cases r:b=0;·rw[bK r];rw[72,aI r,aV [de,q]]
  ·rw[bW r];rw[72,aD r,a_ q]
def gk:[bj]:=["scanner","completions","most","kind_by_number"]
def EU:[bj]:=[[ck],"row",[lf]]
theorem O_:bQ EU [vl] (aZ rW):=[cj]
def yd(H:Hp)(a:ab)(aO:[aT])(ay:[dj])(n:Nat):Prop:=(∃Y,H a=Z (.dK Y)∧∀i,i<n→cn Y (bY [aV,i])=[bV,aO.getD (ay i) 0])
def refOf(aO:[aT])(ay:[dj]):V→V|.int z=>.ref (aO.getD (ay z.toNat) 0)|_=>.bh
def Ax(K:aF)(d:ab):Sp:=λ U H Q _=>∃(se W sc co:ab)(most:Nat)(kb a:ab)(t:[ak])(aO:[aT])(ay:[dj])(n:Nat),[kw,U=[.ref se,[bi]],H se=[ff,d,gk.zip [[wn],.ref co,[vg],.ref kb]],ax K H a (aJ t),t.length≤aQ,yd H kb aO ay n,[zk,t],[NX,Q,.aj (eX aO [DW])]]
theorem Ze{f d:ab}{v:bq}(M:[rf,"kinds_in",[PV],rW,d,f,v,"row"])(T:[Dz,d]):aA P w K mg base aG 1 f v [vl] (Ax K d):=by
 have nd:EU.Nodup:=O_.nd;rw[53,M.fn.ok,O_,[EI]];·obtain⟨se,W,sc,co,most,kb,a,t,aO,ay,n,rfl,_⟩:=h;rfl
 obtain⟨se,W,sc,co,most,kb,a,t,aO,ay,n,rfl,q,y,l,⟨Y,z,V⟩,m,k⟩:=h;have o:=jB u;rw[46,[rE,jz (own:=[([lf],2)]) J nd (dj (pv 1)) [Ad,EU,rW,[lf],2] (λ _ _ _ _ _=>[pL,2]) (λ _ _ _ _ _=>iv) (λ _ _ _ _ _=>(nj o (u9 K 0) (pv 2) (λ _ _=>J)))],[zH,a,[gt,y],λ D r=>[Dv,refOf aO ay,y,r,[ov,l],λ x L p F b C c X=>?_]]];·obtain⟨i,O,rfl⟩:=[bp,b];have g:=eW.k (k:=bY [aV,i]) (C _ _ z);rw[V i (m i O)]at g;rw[15,J,aV (B:=F L) ?_];exact⟨_,J,se,d,W,_,_,J,C _ _ q,T.cl,[lD,3],[mj,3],_,J,kb,_,J,g,c J⟩
 ·rw[[Du]];have e:(aJ t).map (refOf aO ay)=eX aO [DW]:=by unfold eX;rw[cP,cP];rfl
  rw[4,e,k D r]
end
end VP
end
section
namespace VP
open PySem L2
theorem oW{H:Hp}{f:[AC,V]}{i:Int}{v:V}(h:l9 H f (.num i) v)(K:[aw,dD v]):v=.int i:=by
 rcases h with h|⟨b,h,_⟩;·exact h
 ·subst h;cases K
theorem Zf{H:Hp}{f:[AC,V]}{b:Bool}{v:V}(h:l9 H f (.num (l7 b)) v)(K:dD v=true):v=.bl b:=by
 rcases h with h|⟨P,h,e⟩;·subst h;cases K
 ·rw[h,CB e]
theorem Pa{H:Hp}{sp:Vs.Spot}{N:[aK]}(h:eI H (iz sp) N)(E:l8 N=true):N=yc sp:=by obtain⟨e,a,rfl,g,s,S,rfl,r,c,d,rfl,P,x,j,rfl,w,rfl⟩:=h;have P:c=.str (eC [lv].1):=P;subst P;have E:(! dD e&&! dD s&&! dD (V.str (eC [lv].1))&&(dD x==K9 (V.str (eC [lv].1))))=true:=E;simp only[dO,Bw,mS]at E;obtain⟨⟨⟨v,b⟩,_⟩,C⟩:=E;have C:dD x=true:=C;rw[oW g v,oW r b,Zf w C];rfl
theorem Zg{H:Hp}(t:w_ H){sp:Vs.Spot}{q:ab}(h:eZ H (iz sp) q):mw H q sp:=by obtain⟨_,N,e,k⟩:=h;have:=Pa k (t q N e);rw[65,e]
theorem Zi{H:Hp}(t:w_ H){L:Vs.a8}{q:ab}(h:eZ H (fD L) q):fi H q L:=by obtain⟨_,N,e,c,a,rfl,g,s,S,rfl,r,b,d,rfl,P,rfl⟩:=h;obtain⟨p,G,rfl,R,k⟩:=(show∃p G,c=[cX]∧H p=Z (.tup G)∧eI H (iz L.1) G from g);have E:(! dD s&&! dD b)=true:=t q _ e;simp only[dO,Bw]at E;have e1:=Pa k (t p G R);subst e1;have e2:=oW r E.1;have B:=oW P E.2;subst e2;subst B;rw[41,⟨p,?_,R⟩,e];congr 4;cases L.2.1<;>rfl
theorem Zj{H:Hp}{a:ab}{sp:Vs.Spot}(h:mw H a sp):eZ H (iz sp) a:=by rw[17,by simp[iz,c_],_,h,?_];exact⟨_,_,J,[db],_,_,J,[db],_,_,J,J,_,_,J,.inr [de,J],J⟩
def ig(t:[oD])(x:Vs.Spot):[oD]:=if x∈t then t else t++[x]
def gR(m:bT)(k:tq)(e:Bool)(r:[oD]):[oD]:=(r.flatMap (Vs.hO m k e)).foldl ig []
theorem Zk{x y:Vs.Spot}{t:[oD]}:y∈ig t x↔y∈t∨y=x:=by
 unfold ig;split
 ·rename_i h;rw[7];·exact .inl
  ·rintro(z|z);·exact z
   rw[11,z,h]
 ·simp
theorem Pb{y:Vs.Spot}:∀(N t:[oD]),y∈N.foldl ig t↔y∈t∨y∈N|[],t=>[al]|x::N,t=>by rw[i7,Pb N,Zk];simp[or_assoc]
theorem Ay{m:bT}{k:tq}{e:Bool}{r:[oD]}{y:Vs.Spot}:y∈gR m k e r↔∃s∈r,y∈Vs.hO m k e s:=by unfold gR;rw[Pb];simp[nX]
theorem Pc:∀(N t:[oD]),[cY,N.foldl ig t,t.length+N.length]
 |[],t=>[al]
 |x::N,t=>by
  have:=Pc N (ig t x);have r:[cY,ig t x,t.length+1]:=by
   unfold ig;split;·omega
   ·simp
  rw[i7,dP];omega
def vc(H:Hp)(d:ab)(t:[oD]):Prop:=(∃Y,H d=Z (.dT Y)∧[Nf]=t.map iz)
theorem Zl{Y:[lk]}{t:[oD]}(h:[Nf]=t.map iz)(x:Vs.Spot)(v:V):(cD Y (iz x) v).map (·.1)=(ig t x).map iz:=by
 cases e:cn Y (iz x)with
  |none=>have hn:=DX e;rw[h]at hn;have A:x∉t:=(λ z=>hn [jz,x,z]);rw[wH v e,cH,h];unfold ig;rw[aD A,cH];rfl
  |some u=>
   have C:=wY e;obtain⟨p,R,B⟩:=[bp,C];have A:x∈t:=by rw[h]at C;obtain⟨y,a,n⟩:=[bp,C];rw[25,O1 n,a]
   unfold cD ig;rw[aI [QQ,B],aI A,cP];rw[97,((λ x:Tr×V=>x.1)∘λ kv:Tr×V=>[Kv,iz x,v])=λ x=>x.1,by funext y;simp only[Function.comp];split<;>rfl,h]
end VP
end
section
namespace VP
open PySem L2
def lK:tq→Str|.short=>"u"|.long=>"-"|.either=>"-u"
def si(c:Bool):Nat:=[PX,c]
theorem Zm(k:tq)(c:Bool):[aN,si c∈(lK k).cps.toList]=JB k c:=by cases k<;>cases c<;>decide+kernel
def qg(H:Hp)(a:ab)(r:[oD]):Prop:=∃c,(H a=Z (.aj [J5])∧(Paired (mw H) c r))
theorem Az{m e:Type}{R:[d0,m,e]}:∀{d:[li]}{S:List e},d.length=S.length→(∀(i:Nat)(a:m)(b:e),d[i]?=Z a→S[i]?=Z b→R a b)→(Paired R d S)|[],[],_,_=>.nil|a::d,b::S,X,h=>(.cons (h 0 a b J J) (Az [aB,X] λ i x y A c=>h (i+1) x y [aB,A] [aB,c]))|[],_::_,X,_=>by simp at X|_::_,[],X,_=>by simp at X
def AA:V→ab|.ref a=>a|_=>0
theorem EV{K:aF}{H:Hp}:∀{G:[aT]}{S:[nk]},Paired (λ b(c:[xP])=>H b=Z [ii,nV c.1,nV c.2]) G S→ml K H [wk] (S.map λ c=>[PM,[ap,c.1],[ap,c.2]])|_,_,.nil=>.nil|_,_,.cons r t=>(.cons (.tup (bM.of r) [zC,.int _,.int _]) (EV t))
theorem Pd(a b:Int):jL (.tuple [.int a,.int b])=true∧[PM,a,b].depth≤16:=by
 have e:[PM,a,b].depth=1:=by simp[PyData.depth,pd]
 rw[7];·unfold jL;rw[e];simp[vE,o9]
 ·rw[e];decide
theorem Zn(S:[nk])(f p:Nat):((S.map λ c=>[PM,[ap,c.1],[ap,c.2]]).any λ e=>i9 e (.tuple [.int ([ap,f]+1),.int ([ap,p]+1)]))=S.contains (f+1,p+1):=by
 induction S with
  |nil=>rfl
  |cons c S T=>
   rw[bO,k8,T,List.contains_cons];congr 1;rw[dH];simp only[i9,yM,Jp,dO,mS];rw[7];·rintro⟨g,r⟩;have g:c.1=f+1:=[ac];have r:c.2=p+1:=[ac];exact Prod.ext g.symm r.symm
   ·intro h;subst h;rw[0,J,J]
theorem EW(r:[lB]):[cI,eC r,r.length]:=by show(r.map _).toArray.size=_;rw[dN,aC]
theorem Zo(c:Bool)(r:[lB]):mq (eC (c::r)) (Z 1) none=eC r:=by
 have g:HT.bz (r.length+1) 0 (Z 1)=1:=by rw[38,HT.wx (r.length+1) 0 1,[dA,[aV,1],1,J]];rw[this];omega
 unfold mq;simp only[EW,dP,HT.wu,g,Bt];unfold eC;simp only[bO,List.drop_succ_cons,Sr];rw[sO [ov,ba _]]
section
variable{P:aY}{w:aU}{K:aF}{mg:[a_]}{base:aE}
def vd(B:ab)(m:bT)(sc d3:ab):Sp:=λ U H Q _=>∃(l:ab)(r:[oD])(k:tq)(e:Bool),[kw,U=[[wn],[io],.str (lK k),.bl e],[CO,H],qg H l r,[B_,100000],∀s∈r,s.2.2.2=false→m.cuts≠[],∀s∈r,([cY,[JS,Vs.cS,s],4]∧(∀y∈[JS,Vs.cS,s],y≠[]∧y.length≤1000)),∀(a:ab)(b:Hp),[wg,a,ah H b,qg b a (gR m k e r),Q [bi] b]]
theorem Zp{f fW fC fS o sc d3:ab}{m:bT}{fd fdW fdC fdS:bq}(M:[eq,[MR],[Pq],uT,o,f,fd,[FD]])(T:[Ay,o])(B:el mg)(MW:[eq,"ways_on","Scanner.ways_on",xM,o,fW,fdW,[L0]])(MC:[eq,"cut_can_come",[Q7],xJ,o,fC,fdC,[L6]])(MS:[eq,"spot_at","Scanner.spot_at",xK,o,fS,fdS,[K8]])(c4:Cn mg "MOST_PLACES" 4):aA P w K mg base aG 2 f fd [FD] (vd o m sc d3):=by
 have nd:=NU.nd;have GW:aA P w K mg base aG 1 fW fdW [L0] (O7 K o m sc d3):=Y_ MW T B;have GC:aA P w K mg base aG 1 fC fdC [L6] (O8 o m sc d3):=Zb MC T B;have GS:aA P w K mg base aG 1 fS fdS [K8] (ER o m sc d3):=Za MS T c4;rw[90,NU];·obtain⟨l,C,k,e,rfl,_⟩:=h;rfl
 obtain⟨l,C,N,en,rfl,S,⟨as,hl,has⟩,hlen,hcut,hways,k⟩:=h;rw[89];rw[27,[Ea,4,uj,eJ dX J (dj (pv 1)) [OU,5,6,gM [pL,7] (gM [pL,8] oC)] (aK [ui,9,UJ (pv 8) (zB (zC (pv 3) (zB (lA (Ng hr.units) [pT,[zZ,pv 5],ak [zZ,pv 6] aB] [er] J))))] (aN [Cq,[C6,MW.me,GW,hr,MW.b,pv 5,[gv,7]],10,[lA,PW.pt (lu (cm wW (zP (pv 10) bu [Cy]) (pv 2) J) (oB [KS,iH (pv 9),iH [C6,MC.me,GC,hr,MC.b,pv 5,ak [zZ,pv 6] aB]])),nk hu (pv 4) [O3,hr,pv 5,ak [zZ,pv 6] [Am,oH DV (pv 10) (nh bu) pQ,9]] md J]])),D_ (ry (MU J) (by rfl) B.list Ru [gv,4])]];intro d hd;have s0:ah H (ag H d (.dT [])):=[mt,hd];rw[61,l,J,[nj,s0 _ _ hl],[m6,iZ,l,[K2],λ i σ g=>∃v5 v6 v7 v8 v9 F:[dL],(σ=[Z [wn],[vW],Z (.str (lK N)),Z (.bl en),Z [lx],v5,v6,v7,v8,v9,F]∧ah H g∧vc g d ([Qb,i].foldl ig [])∧[cY,[Qb,i],4*i]),⟨none,none,none,none,none,none,J,s0,[we,[],aw],[al]⟩,λ i σ g _⟨_,_,_,_,_,_,_,s',_⟩=>[pc,s',hl]]]
 ·rintro i y σ n hi⟨v5,v6,v7,v8,v9,F,rfl,s1,hfd,hle⟩;obtain⟨a,ha,rfl⟩:=lG hi;obtain⟨⟨I,p,r,L⟩,u,hat⟩:=d6 has ha;have hmem:=bt u;obtain⟨hw4,hwne⟩:=hways _ hmem;have hw4:[cY,[wz],4]:=hw4;have hcm:=hcut _ hmem;generalize R:Vs.eU m en (I,p,r,L)=G;have epb:Vs.hO m N en (I,p,r,L)=[wz].filterMap [Mr]:=by unfold Vs.hO;rw[R]
  have etake:[Qb,i+1]=[Qb,i]++[wz].filterMap [Mr]:=by rw[fH,u,kW,←epb];simp
  generalize hbase:[Qb,i]=pre at*;have hil:i<100000:=by rw[10,[eJ,u]]
  have mnow:∀(Q:VK),(∀H2,ah n H2→Q (.bl G) H2)→Le (cv 8) (Ld (cv 3) (h9 (Nc K) (ng (dc (h9 (jx (λ i j=>.int (i+j))) (cv 5) (tC (.int 1))) (dc (h9 (jx (λ i j=>.int (i+j))) (cv 6) (tC (.int 1))) gw))) (nc K (cv 0) "cuts"))) [Z [wn],[vW],Z (.str (lK N)),Z (.bl en),Z [lx],Z (nV I),Z (nV p),Z (gQ r),Z (.bl L),v9,F] n Q:=λ Q hQ=>by
   have hQ0:=hQ n (ah.refl n);unfold Vs.eU at R;rw[28,_,J,L,J,?_];cases L with
    |true=>rw[←R]at hQ0;exact aV hQ0
    |false=>
     refine a_ [lc,_,J,en,?_];cases en with
      |false=>rw[←R]at hQ0;exact a_ hQ0
      |true=>
       refine aV ⟨_,J,_,_,J,J,_,J,_,_,J,J,[Bi],λ t ht=>?_⟩;have s2:ah n [pD,n,t,V.int ([ap,I]+1),V.int ([ap,p]+1)]:=[cm,n,ht];obtain⟨dx,fe,cu,la,en',h1,_,⟨cas,h4,h5⟩,_⟩:=((S.mono s1).mono s2).ex;refine⟨_,J,sc,o,dx,_,_,J,h1,T.cl,[lD,1],[mj,1],cu,_,_,.tuple [.int ([ap,I]+1),.int ([ap,p]+1)],J,(ax.of h4),EV h5,.tup (bM.of aw) [zC,.int _,.int _],λ e he=>?_,(Pd _ _).1,?_⟩;·obtain⟨c,_,rfl⟩:=[bp,he];exact Pd _ _
       ·rw[Zn];have:=hQ _ s2;rw[←R]at this;rw[58]
  rw[3,⟨a,_,J,bM.of (s1 _ _ hat),J,_,_,J,_,_,J,_,_,J,_,_,J,J,?_⟩,mnow _ λ H2 s2=>?_];have sH2:=[Ac,s2];obtain⟨dx,fe,cu,la,en',h1,_⟩:=(S.mono sH2).ex;refine⟨_,J,sc,dx,_,J,h1,[fz],_,J,_,J,I,r,J,S.mono sH2,λ lw H3 s3 hlw=>?_⟩;have sH3:=sH2.trans s3;obtain⟨kvs0,hk0,hk0'⟩:=hfd;refine⟨lw,J,[nj,hlw],[m6,iZ,lw,[wz].map gQ,λ j σ g=>∃F:[dL],(σ=[Z [wn],[vW],Z (.str (lK N)),Z (.bl en),Z [lx],Z (nV I),Z (nV p),Z (gQ r),Z (.bl L),Z (.bl G),F]∧ah H g∧g lw=Z (.aj ([wz].map gQ))∧vc g d [P1,j]),⟨F,J,sH3,hlw,[wG,kvs0,s3,s2 _ _ hk0,[aB,hk0']]⟩,λ j σ g _⟨_,_,_,e,_⟩=>(ax.of e)]⟩
  ·rintro j y σ H4 hj⟨F,rfl,s4,W,X⟩;obtain⟨wy,hwy,rfl⟩:∃wy,[wz][j]?=Z wy∧y=gQ wy:=by rw[cJ]at hj;cases q:[wz][j]? with|none=>rw[q]at hj;cases hj|some x=>rw[q]at hj;rw[22,x,[nr,hj]]
   have hwm:=bt hwy;have etk:([wz].take (j+1))=([wz].take j)++[wy]:=[jl,fH,hwy];cases wy with
    |nil=>rw[8,J,(hwne _ hwm).1]
    |cons c r'=>
     have skip:Vs.ip m N I p G (c::r')=none→vc H4 d [P1,j+1]:=λ e=>by rw[etk,List.filterMap_append];simpa[e]using X
     have hll:0<[fy,eC,c::r']:=by rw[19,EW]
     rw[41,⟨_,J,_,0,si c,J,J,[bd],[bd],by rw[20,[ap,0]<[ap,[fy,eC,c::r']]],J,_,J,si c,lK N,J,J,_,J,?_⟩,Zm];have put:∀(H5:Hp)(D:Ends),[b9,ah H4 H5,JB N c=true,G=true∨Vs.mX m I (p+1)=true,∀g,(ah H g→g lw=Z (.aj ([wz].map gQ))→vc g d [P1,j+1]→D.nx [Z [wn],[vW],Z (.str (lK N)),Z (.bl en),Z [lx],Z (nV I),Z (nV p),Z (gQ r),Z (.bl L),Z (.bl G),Z (gQ (c::r'))] g),DN (cv 4) (ud o "spot_at" (ER o m sc d3) [] E0 (cv 0) (dc (cv 5) (dc (h9 (jx (λ i j=>.int (i+j))) (cv 6) (tC (.int 1))) (dc (Dh MM (cv 10) (Dg (tC (.int 1))) Df) (dc (cv 9) gw))))) (tC (.bl true)) D [Z [wn],[vW],Z (.str (lK N)),Z (.bl en),Z [lx],Z (nV I),Z (nV p),Z (gQ r),Z (.bl L),Z (.bl G),Z (gQ (c::r'))] H5]:=λ H5 D s5 hf hc hD=>by
      have sH5:=s4.trans s5;obtain⟨dx5,_,_,_,_,h15,_⟩:=(S.mono sH5).ex;refine⟨_,J,_,J,sc,dx5,_,J,h15,[fz],_,J,_,J,_,_,J,J,_,J,1,J,eC (c::r'),J,?_,_,J,I,p+1,r',G,?_,S.mono sH5,λ b hb=>?_⟩;·rw[4,EW,bf (hwne _ hwm).2 [bd]]
      ·rw[Zo];rfl
      ·obtain⟨Y,v,U⟩:=X;have hkv5:=s5 _ _ v;have hlw5:=s5 _ _ W;generalize hspot:Vs.jv m I (p+1) r' G=iU;have hat:mw (ag H5 b (.tup (yc iU))) b iU:=aw;have ndb:d≠b:=aX hkv5 hb;have hkl:[J4]:=by have e1:=[B2,U];rw[aC,aC]at e1;have e2:=Pc (pre++([wz].take j).filterMap [Mr]) [];rw[dh]at e2;have e3:=List.length_filterMap_le [Mr] ([wz].take j);rw[jJ]at e3;have e4:[cI,([]:[oD]),0]:=J;exact[zB,eR,Y.length,400004]
       have hgo:Vs.ip m N I p G (c::r')=Z iU:=by show[LW,JB N c=true∧(G=true∨Vs.mX m I (p+1)=true),Vs.jv m I (p+1) r' G]=Z iU;rw[aI ⟨hf,hc⟩,hspot]
       have sb:ah H (ag H5 b (.tup (yc iU))):=(ah.aT sH5 (sH5.free hb));rw[28,d,_,J,jf.t (k:=iz iU) [b8,ndb,hkv5] (Zj hat) hkl,hD _ (ah.aT sb hd) ?_ ⟨_,aw,?_⟩];·rw[12,ar [oB,hlw5,hkv5],ar (aX hlw5 hb),hlw5]
       ·rw[Zl U,etk,List.filterMap_append];have:List.filterMap [Mr] [c::r']=[iU]:=[bB,hgo];rw[this,←gZ];simp only[qz,i7,Ss]
     have nxt:∀g,(ah H g→g lw=Z (.aj ([wz].map gQ))→vc g d [P1,j+1]→∃F:[dL],([[j5,sc],[j5,l],Z (V.str (lK N)),Z (V.bl en),[j5,d],Z (nV I),Z (nV p),Z (gQ r),Z (V.bl L),Z (V.bl G),Z (gQ (c::r'))]=[[j5,sc],[j5,l],Z (V.str (lK N)),Z (V.bl en),[j5,d],Z (nV I),Z (nV p),Z (gQ r),Z (V.bl L),Z (V.bl G),F]∧ah H g∧g lw=Z (.aj ([wz].map gQ))∧vc g d [P1,j+1])):=λ g q1 q2 q3=>⟨_,J,q1,q2,q3⟩
     cases hf:JB N c with
      |false=>exact a_ (a_ (nxt H4 s4 W (skip (by simp[Vs.ip,hf]))))
      |true=>
       refine aV [lc,_,J,G,?_];cases G with
        |true=>exact aV (aV (put H4 _ (ah.refl H4) hf [db] nxt))
        |false=>
         have hmet:[aw,L]:=by unfold Vs.eU at R;cases L with|false=>rfl|true=>simp at R
         obtain⟨dx4,_,_,_,_,h14,_⟩:=(S.mono s4).ex;refine a_ ⟨_,J,sc,dx4,_,J,h14,[fz],_,J,_,J,_,_,J,J,I,p+1,J,S.mono s4,hcm hmet,λ H5 s5=>[de,?_]⟩;cases q:Vs.mX m I (p+1)with|true=>exact aV (put H5 _ s5 hf (.inr q) nxt)|false=>obtain⟨Y,v,U⟩:=skip (by simp[Vs.ip,hf,q]);exact a_ (nxt H5 (s4.trans s5) (s5 _ _ W) [wG,Y,s5,v,U])
  ·rintro σ H4⟨F,rfl,s4,W,X⟩;rw[aC,fZ]at X;refine⟨_,_,_,_,_,F,J,s4,?_,?_⟩;rw[11,etake,X];·rw[etake,dh];rw[10,List.length_filterMap_le [Mr] [wz]]
 ·rintro σ n⟨v5,v6,v7,v8,v9,F,rfl,s1,⟨Y,hk1,hk2⟩,hle⟩;intro tok;rw[aC,er has,fZ]at hk2;rw[47,_,J,d,Y,J,.inl hk1,λ q ys hq hyl hys=>?_];have s2:ah n (ag n q (.aj ys)):=[cm,n,hq];have O:Y.length=(gR m N en C).length:=by rw[96,[B2,hk2],aC,aC];rw[58]
  have one:∀(i:Nat)(sp:Vs.Spot),(gR m N en C)[i]?=Z sp→∃b,ys[i]?=[bV,b]∧mw n b sp:=λ i sp u=>by
   have hi:i<Y.length:=[ar,O,[eJ,u]];obtain⟨⟨kk,vv⟩,v⟩:∃p,Y[i]?=Z p:=[gt,bX hi];obtain⟨b,hb,hky⟩:=hys i kk vv v;have e:(Y.map (·.1))[i]?=Z kk:=[jl,cJ,v];have e2:((gR m N en C).map iz)[i]?=Z kk:=by rw[←e,hk2];rfl
   rw[cJ,u]at e2;have e3:iz sp=kk:=[dF,e2];subst e3;rw[1,b,hb,Zg tok hky]
  have eys:ys=(ys.map AA).map V.ref:=by
   rw[13,cP,(Jw ys).symm.trans (iD λ x hx=>?_)];rw[138,hx];have hi2:i<(gR m N en C).length:=by rw[←O,←hyl];exact hi
   obtain⟨b,hb,_⟩:=one i _ (bX hi2);rw[bX hi,ei]at hb;have:=[dF,hb];subst this;rfl
  refine k q _ (s1.free hq) [Ac,s2] ⟨ys.map AA,[cE,eys,aw],Az (by rw[aC,hyl,O]) λ i b sp hb u=>?_⟩;obtain⟨b',hb',hat⟩:=one i sp u;rw[cJ,hb']at hb;have:b'=b:=[dF,hb];rw[65,dF s2 _ _ hat]
end
end VP
end
section
namespace VP
open PySem L2
def kH(sp:Vs.Spot):lg:=.tuple [.int [ap,sp.1],.int [ap,sp.2.1],.str (eC [lv].1),.bool [lv].2]
theorem Pe{K:aF}{H:Hp}{a:ab}{sp:Vs.Spot}(h:mw H a sp):Dp K H [bi] (kH sp):=.tup (bM.of h) (.cons (.int _) (.cons (.int _) [zC,.str _,.bl _]))
theorem Pf{K:aF}{H:Hp}:∀{c:[aT]}{a:[oD]},Paired (mw H) c a→ml K H [J5] (a.map kH)|_,_,.nil=>.nil|_,_,.cons r t=>(.cons (Pe r) (Pf t))
theorem Zq(a b:Vs.Spot):(i9 (kH a) (kH b)=[aN,a=b]):=by
 obtain⟨v,c,i,C⟩:=a;obtain⟨V,d,N,u⟩:=b;rw[dH];simp only[kH,i9,yM,Jp,dO,mS,dw,Jl];rw[7];·rintro⟨g,r,P,w⟩;rw[23,[ac],[ac],EH P,w]
 ·rintro⟨g,r,P,w⟩;rw[23,[ac],[ac],by rw[P],w]
theorem Pg(sp:Vs.Spot):jL (kH sp)=true∧(kH sp).depth≤16:=by
 have e:(kH sp).depth=1:=by simp[kH,PyData.depth,pd]
 have h:PyData.strOk (eC [lv].1)=true:=by unfold PyData.strOk eC;simp
 rw[7];·unfold jL;rw[e];simp[kH,vE,o9,h]
 ·rw[e];decide
def Ph(m:bT)(s:Vs.Spot):Prop:=(s.2.2.2=false→m.cuts≠[])∧([cY,[JS,Vs.cS,s],4]∧(∀y∈[JS,Vs.cS,s],y≠[]∧y.length≤1000))
def sj(m:bT)(L:Vs.a8):Bool:=[wK,L.2.2=1]&&[wK,L.2.1=none]&&[aN,Vs.gH m∈gR m .either true [L.1]]
theorem Zr{m:bT}{L:Vs.a8}:sj m L=true↔Vs.qT m L:=by
 unfold sj Vs.qT;simp only[dO,Bw,R6,dw,Ay];rw[7];·rintro⟨⟨g,r⟩,s,G,P⟩;simp at G;subst G;rw[1,g,r,P]
 ·rintro⟨g,r,P⟩;rw[23,⟨g,r⟩,L.1,[al],P]
structure ye(mg:[a_]):Prop where
 iU:Cn mg "SPOT" 0
 weight:Cn mg "WEIGHT" 1
 wants:Cn mg "WANTS" 2
 vowel:Cn mg "WITH_VOWEL" 1
 places:Cn mg "MOST_PLACES" 4
 AB:[EW,"NO_SYLLABLE",.int (-1)]
 either:[EW,"EITHER_MARK",.str (lK .either)]
theorem Zs(r:[oD])(x:Vs.Spot):(((r.map kH).any λ e=>i9 e (kH x))=[aN,x∈r]):=by
 induction r with
  |nil=>rfl
  |cons a r T=>
   rw[bO,k8,T,Zq,dH,n9,dw,dw,dw,lU];rw[7];·rintro(h|h);rw[48,h.symm,h]
   ·rintro(h|h);rw[48,h.symm,h]
section
variable{P:aY}{w:aU}{K:aF}{mg:[a_]}{base:aE}
def EY(B:ab)(m:bT)(sc d3:ab):Sp:=λ U H Q _=>∃(a:ab)(L:Vs.a8),[bn,U=[[wn],[bi]],[CO,H],fi H a L,Ph m L.1,∀b,ah H b→Q (.bl (sj m L)) b]
theorem Zt{f I B sc d3:ab}{m:bT}{v G:bq}(M:[eq,"is_end","Scanner.is_end",uO,B,f,v,[iZ]])(T:[Ay,B])(C:ye mg)(F:[eq,[MR],[Pq],uT,B,I,G,[FD]])(GB:aA P w K mg base aG 2 I G [FD] (vd B m sc d3)):aA P w K mg base aG 3 f v [iZ] (EY B m sc d3):=by
 obtain⟨u0,h0,r0⟩:=C.iU;obtain⟨u1,g,r1⟩:=C.weight;obtain⟨u2,r,r2⟩:=C.wants;obtain⟨uv,hv,rv⟩:=C.vowel;obtain⟨un,hn,rn⟩:=C.AB;obtain⟨ue,R,re⟩:=C.either;rw[53,M.fn.ok,X4,λ cdv A outer s H U Q E u h=>?_];·obtain⟨a,L,rfl,_⟩:=h;rfl
 obtain⟨a,L,rfl,S,⟨sa,t,y⟩,q,k⟩:=h;rw[54,[Bj,[KS,[dU,e_,[NL,r,r2],b8 J hv rv],[dU,e_,[NL,g,r1],b8 J hn rn]],md],[rE,lA (Ng u.units) [er] [C6,F.me,GB,u,F.b,fz (ak [NL,h0,r0] aB),[Ae,b8 J R re,md]] J]];rw[125,⟨_,J,a,_,_,_,J,J,bM.of t,[zh,2,J],J,_,J,?_⟩,L.2.2,1];unfold sj at k;by_cases n:L.2.2=1;·rw[bK n];rw[bK n]at k;exact aV (aV (k H (ah.refl H)))
 ·rw[bW n];rw[bW n]at k;refine a_ [Rl,a,t,1];have e1:wV L.2.1=(V.int (wZ L.2.1)):=by cases L.2.1<;>rfl
  have e2:[C8,(V.int (wZ L.2.1))=(V.int (-1)),L.2.1=none]:=by cases L.2.1 with|none=>rfl|some x=>rw[mh,dH];simp[wZ]
  rw[13,e1,[em,J,_,?_]];rw[e2];by_cases p:L.2.1=none;·rw[bK p];rw[bK p]at k;exact aV (k H (ah.refl H))
  ·rw[bW p];rw[bW p]at k;refine a_ ?_;obtain⟨W,fe,cu,la,en,z,_,_,_,g5⟩:=S.ex;refine⟨_,J,sc,B,W,_,_,J,z,T.cl,[lD,3],[mj,3],_,J,sc,W,_,J,z,[fz],_,J,a,_,_,_,J,J,bM.of t,[zh,0,J],by rw[80,1],λ l X=>?_⟩;have Y:ah H (ag H l (.aj [eD,sa])):=[mt,X];refine⟨l,[L.1],.either,true,J,S.mono Y,⟨[sa],aw,[qu,Y _ _ y]⟩,by show 1≤100000;decide,λ x c=>?_,λ x c=>?_,λ b d hb o O=>?_⟩;·simp at c;subst c;exact q.1
   ·simp at c;subst c;exact q.2
   ·obtain⟨bs,N,D⟩:=O;refine⟨b,_,_,kH (Vs.gH m),J,(ax.of N),Pf D,Pe (o _ _ (Y _ _ g5)),λ e R=>?_,(Pg _).1,?_⟩;·obtain⟨x,_,rfl⟩:=[bp,R];exact Pg x
    rw[11,Zs,k d [tX,o]]
end
end VP
end
section
namespace VP
open PySem L2
structure gU(m:bT):Prop where
 feet:m.feet.length≤16
 iT:∀g∈m.feet,g.length≤4∧(∀y∈g,y≠[]∧y.length≤4)
 cuts:[Ix]
structure ij(m:bT)(sp:Vs.Spot):Prop where
 f:sp.1≤m.feet.length
 r:[lv].1≠[]→sp.1<m.feet.length
 p:sp.2.1≤4
 l:[cY,[lv].1,3]
 c:[lv].2=false→m.cuts≠[]
theorem Pj{m:bT}(M:gU m){f:Nat}{r:[lB]}(X:[B_,4]):([cY,Vs.cS m.feet f r,4]∧(∀y∈(Vs.cS m.feet f r),y≠[]∧y.length≤4)):=by
 unfold Vs.cS;by_cases h:r=[];·rw[aI h];cases e:m.feet[f]? with|none=>simp|some g=>exact M.iT g (bt e)
 ·rw[aD h];rw[15,[al],λ y a=>?_];simp at a;subst a;rw[0,h,X]
theorem yf{m:bT}(M:gU m){sp:Vs.Spot}(h:ij m sp):Ph m sp:=by have:=Pj M (f:=sp.1) (r:=[lv].1) [pH,h.l];rw[1,h.c,this.1,λ y a=>⟨(this.2 y a).1,[pH,(this.2 y a).2]⟩]
theorem Zu{m:bT}(M:gU m){k:tq}{e:Bool}{sp q:Vs.Spot}(h:ij m sp)(D:q∈Vs.hO m k e sp):ij m q:=by
 obtain⟨c,r,T,_,_,rfl⟩:=Vs.Co.mp D;have X:=((Pj M (f:=sp.1) (r:=[lv].1) [pH,h.l]).2 _ T).2;have s:sp.1<m.feet.length:=by
  by_cases z:[lv].1=[];·unfold Vs.cS at T;rw[aI z]at T;cases e:m.feet[sp.1]? with|none=>rw[e]at T;cases T|some g=>exact[eJ,e]
  ·exact h.r z
 have u:[B_,3]:=[aB,X];have N:Vs.eU m e sp=false→m.cuts≠[]:=λ z=>by unfold Vs.eU at z;exact h.c (by cases q:[lv].2 with|false=>rfl|true=>rw[q]at z;simp at z)
 have R:=h.p;have w:=Vs.KG (n:=4) (λ c V=>M.cuts c V) (sp.1+1);unfold Vs.jv;split;·rw[9,s,λ z=>[e9,J,z],b7 _,b7 _,N]
 ·split;·rw[9,h.f,λ _=>s,ba _,u,N]
  ·rename_i q;rw[28,h.f,λ _=>s,?_,u,N];have q:=(not_or.mp q).2;rw[20,sp.2.1+1≤4]
theorem yg{m:bT}(M:gU m){k:tq}{e:Bool}{r:[oD]}(h:[KY,r]):∀q∈gR m k e r,ij m q:=λ q D=>by obtain⟨s,G,D⟩:=Ay.mp D;exact Zu M (h s G) D
def ve:Nat→[Nj]|0=>[[]]|n+1=>[]::[oC,ve n,λ r=>[true::r,false::r]]
theorem Pk:∀{n:Nat}{r:[lB]},r.length≤n→r∈ve n|0,[],_=>[bB,ve]|n+1,[],_=>[bB,ve]|n+1,b::r,h=>by have:=Pk (n:=n) (r:=r) (by rw[51]);simp only[ve,lU,nX];refine[vn,r,this,?_];cases b<;>simp
def yh:[oD]:=[Bf,17,λ f=>[Bf,5,λ p=>[oC,ve 3,λ r=>[(f,p,r,true),(f,p,r,false)]]]]
theorem Pl:yh.length=2550:=[bE]
theorem Pm{m:bT}(M:gU m){sp:Vs.Spot}(h:ij m sp):sp∈yh:=by obtain⟨f,p,r,b⟩:=sp;have g:f≤m.feet.length:=h.f;have a:p≤4:=h.p;have P:=M.feet;simp only[yh,nX,So];rw[47,f,[ac],p,[ac],r,Pk h.l,?_];cases b<;>simp
theorem Zv{x:Vs.Spot}{t:[oD]}(h:t.Nodup):(ig t x).Nodup:=by
 unfold ig;split;·exact h
 ·rename_i n;rw[13,k0,[zO,h,λ a ha b K e=>?_]];simp at K;subst K;subst e;exact n ha
theorem Pn:∀{xs t:[oD]},t.Nodup→(xs.foldl ig t).Nodup|[],_,h=>h|x::xs,t,h=>[ar,i7,Pn (xs:=xs) (Zv h)]
theorem EZ{m:bT}(M:gU m){k:tq}{e:Bool}{r:[oD]}(h:[KY,r]):[cY,gR m k e r,2550]:=[cE,Pl,Vs.jT (Pn kj) λ x A=>Pm M (yg M h x A)]
def qh(m:bT)(sp:Vs.Spot)(p:[wS])(o:[ak]):[oD]:=o.dropLast.foldl [NV] [KP,p,[sp],w,[Rc,w]]
theorem E4{m:bT}(M:gU m):∀(o:[ak]){l:[oD]},([KY,l])→∀q∈o.foldl [NV] l,ij m q|[],_,h=>h|_::o,_,h=>E4 M o (yg M h)
theorem E5{m:bT}(M:gU m):∀(o:[ak]){l:[oD]},([KY,l])→l.length≤2550→[cY,o.foldl [NV] l,2550]|[],_,_,h=>h|_::o,_,h,_=>E5 M o (yg M h) (EZ M h)
theorem E6{m:bT}(M:gU m){sp:Vs.Spot}(h:ij m sp)(p:[wS]):[KY,[KP,p,[sp],w,[Rc,w]]]∧[cY,[KP,p,[sp],w,[Rc,w]],2550]:=by
 have g:[KY,[sp]]:=λ s G=>by simp at G;subst G;exact h
 cases p with|none=>rw[0,g,[al]]|some w=>rw[0,yg M g,EZ M g]
theorem Po{m:bT}(M:gU m){sp:Vs.Spot}(h:ij m sp)(p:[wS])(o:[ak]):(∀q∈qh m sp p o,ij m q)∧[cY,qh m sp p o,2550]:=⟨E4 M _ (E6 M h p).1,E5 M _ (E6 M h p).1 (E6 M h p).2⟩
theorem E7{m:bT}{q:Vs.Spot}:∀(o:[ak]){l l':[oD]},(∀x,x∈l↔x∈l')→(q∈o.foldl [NV] l↔q∈Vs.l0 m l' (o.map λ w=>⟨Vs.kindOf w,false⟩))
 |[],_,_,h=>h q
 |w::o,l,l',h=>by
  refine E7 o (l:=gR m (Vs.kindOf w) false l) (l':=l'.flatMap (Vs.hO m (Vs.kindOf w) false)) λ x=>?_
  rw[Ay,nX];rw[7];·rintro⟨s,G,A⟩;rw[1,s,(h s).mp G,A]
  ·rintro⟨s,G,A⟩;rw[1,s,(h s).mpr G,A]
theorem Zw{m:bT}(l:[oD])(a b:List Kgz1.Syl):Vs.l0 m l (a++b)=Vs.l0 m (Vs.l0 m l a) b:=by unfold Vs.l0;rw[qz]
theorem Pp{m:bT}{sp q:Vs.Spot}{p:[wS]}{K:Nat}{o:[ak]}(h:o≠[]):q∈qh m sp (p.map λ w=>Vs.joined w K) o↔q∈Vs.l0 m [sp] (Vs.settled p K o):=by unfold qh Vs.settled;rw[aD h];cases p with|none=>exact E7 _ λ x=>vP|some w=>rw[13,Zw,E7 _ λ x=>?_];show x∈[Rc,Vs.joined w K]↔x∈[oC,[sp],Vs.hO m (Vs.kindOf (Vs.joined w K)) true];rw[Ay,nX]
structure qi(m:bT)(L:Vs.a8):Prop where
 sp:ij m L.1
 w:∀w,L.2.1=Z w→w≤3
 n:L.2.2≤2
structure qj(sh:Vs.Shape):Prop where
 fx:[cY,sh.2,2]
 fm:∀fm∈sh.2,fm.1≤2∧fm.2.1≤3∧∀w∈fm.2.2,w≤3
def jo(m:bT)(L:Vs.a8)(fm:Vs.Form):[oH]:=[DB,fm.2.2=[],(L.1,[Nt,Vs.joined,fm.2.1],fm.1),(qh m L.1 [Nt,Vs.joined,fm.2.1] fm.2.2).map λ sp=>[Io,sp]]
def kI(m:bT)(L:Vs.a8)(sh:Vs.Shape):[oH]:=[Ty,jo m L]
theorem Pq{m:bT}{L x:Vs.a8}{fm:Vs.Form}:x∈jo m L fm↔x∈Vs.tT m L fm:=by
 unfold jo Vs.tT;split;·exact vP
 ·rename_i h;rw[yP,yP];rw[7];·rintro⟨s,G,rfl⟩;rw[1,s,(Pp h).mp G,J]
  ·rintro⟨s,G,rfl⟩;rw[1,s,(Pp h).mpr G,J]
theorem Zx{m:bT}{L x:Vs.a8}{sh:Vs.Shape}:x∈kI m L sh↔x∈Vs.qS m L sh:=by
 unfold kI Vs.qS;split
 ·rw[nX,nX];rw[7];·rintro⟨f,F,A⟩;rw[1,f,F,Pq.mp A]
  ·rintro⟨f,F,A⟩;rw[1,f,F,Pq.mpr A]
 ·exact vP
theorem Zy{a b:Nat}(ha:a≤3)(K:b≤3):Vs.joined a b≤3:=by
 unfold Vs.joined;split;·exact K
 ·split;rw[2,ha,ba _]
theorem Pr{p:[wS]}{b:Nat}(ha:∀w,p=Z w→w≤3)(K:b≤3):∀w,(p.map λ w=>Vs.joined w b)=Z w→w≤3:=by intro w h;cases p with|none=>cases h|some x=>have:=[dF,h];rw[65,Zy (ha x J) K]
theorem AD{m:bT}(M:gU m){L:Vs.a8}(h:qi m L){fm:Vs.Form}(F:fm.1≤2∧fm.2.1≤3∧∀w∈fm.2.2,w≤3):(∀x∈jo m L fm,qi m x)∧[cY,jo m L fm,2550]:=by
 unfold jo;split;·rw[15,[rp],[al]];simp at A;subst A;rw[1,h.sp,Pr h.w F.2.1,F.1]
 ·have:=Po M h.sp [Nt,Vs.joined,fm.2.1] fm.2.2;rw[15,[rp],[ov,this.2]];obtain⟨s,G,rfl⟩:=[bp,A];rw[1,this.1 s G,λ w T=>F.2.2 w (List.mem_of_getLast? T),F.1]
theorem yi{m d:Type}{f:m→List d}{n:Nat}:∀{l:[li]},(∀x∈l,[cY,f x,n])→[cY,l.flatMap f,n*l.length]|[],_=>[al]|a::l,h=>by have:=yi (f:=f) (n:=n) (l:=l) [KQ,h];have g:=h a cq;rw[kZ,dh,dP,Nat.mul_succ];omega
theorem Pu{m:bT}(M:gU m){L:Vs.a8}(h:qi m L){sh:Vs.Shape}(G:qj sh):(∀x∈kI m L sh,qi m x)∧[cY,kI m L sh,10000]:=by
 unfold kI;split
 ·rw[7];·intro x A;obtain⟨f,F,A⟩:=[zg,A];exact(AD M h (G.fm f F)).1 x A
  ·have:=yi (f:=jo m L) (n:=2550) (l:=sh.2) λ f F=>(AD M h (G.fm f F)).2
   have r:=G.fx;have:2550*sh.2.length≤2550*2:=R4 _ r;omega
 ·rw[0,λ x A=>by(cases A),[al]]
def E8:[oH]:=yh.flatMap λ sp=>[oC,[none,Z 0,Z 1,Z 2,Z 3],λ w=>[(sp,w,0),(sp,w,1),(sp,w,2)]]
theorem Zz:E8.length≤100000:=by rw[38,yi (f:=λ sp:Vs.Spot=>[oC,[none,Z 0,Z 1,Z 2,Z 3],λ w:[wS]=>[(sp,w,0),(sp,w,1),(sp,w,2)]]) (n:=15) (l:=yh) λ x _=>[al],Pl];exact[pH,this]
open Classical in noncomputable def UM(m:bT):[oH]:=E8.filter λ st=>[aN,qi m st]
theorem ZA(m:bT):[cY,UM m,100000]:=bf (nO _ _) Zz
theorem yj{m:bT}(M:gU m){L:Vs.a8}:L∈UM m↔qi m L:=by
 unfold UM;rw[34,yH];·rintro⟨_,h⟩;exact@lR _ (o6 _) h
 ·intro h;rw[15,?_,@bK _ (o6 _) h];obtain⟨sp,w,n⟩:=L;unfold E8;refine[pN,sp,Pm M h.sp,[pN,w,?_,?_]];·have T:=h.w;cases w with|none=>simp|some k=>have:=T k J;rw[50,k=0∨k=1∨k=2∨k=3];rcases this with rfl|rfl|rfl|rfl<;>simp
  ·have hn:n≤2:=h.n;rw[50,n=0∨n=1∨n=2];rcases this with rfl|rfl|rfl<;>simp
end VP
end
section
namespace VP
open PySem L2
theorem E9(n d:Nat):HT.bz n d (Z (-1))=n-1:=by show[ON,[ap,-1],[Fd,-1]]=n-1;rw[31,aI [bd]]
theorem AE(N:[aK]):[CN,N]=N.dropLast:=by unfold dB;rw[HT.wu,E9,Sr,Js,List.dropLast_eq_take]
theorem Pw(l:[ak]):l8 (aJ l)=true:=by match l with|[]=>rfl|[_]=>rfl|[_,_]=>rfl|[_,_,_]=>rfl|[_,_,_,_]=>rfl|_::_::_::_::_::_=>rfl
def Px:[aK]:=[.str "u",.str "u",.str "-u",.str "-"]
theorem Py{w:Nat}(h:w≤3):Px[w]?=Z (.str (lK (Vs.kindOf w))):=by rw[50,w=0∨w=1∨w=2∨w=3];rcases this with rfl|rfl|rfl|rfl<;>rfl
structure Pz(K:aF)(mg:[a_]):Prop where
 ex:∃a,mg "MARKS"=[lm]∧∀H,bM K H a Px
theorem PB(p:[wS]):[wK,wV p=(V.int (-1))]=p.isSome:=by cases p with|none=>rfl|some w=>show[wK,[zf,w]=(V.int (-1))]=true;rw[19,mh]
section
variable{P:aY}{w:aU}{K:aF}{mg:[a_]}{base:aE}
def AF(B:ab)(m:bT)(sc d3:ab):Sp:=λ U H Q _=>∃(sa y:ab)(sp:Vs.Spot)(p:[wS])(o:[ak]),[bn,U=[[wn],[pU],wV p,.ref y],[CO,H],mw H sa sp,ij m sp,[bn,∀w,p=Z w→w≤3,H y=Z (.tup (aJ o)),o≠[],∀w∈o,w≤3,∀(a:ab)(b:Hp),ah H b→[zI,qg b a (qh m sp p o),b]]]
theorem ZC{f fB B sc d3:ab}{m:bT}{fd fdB:bq}(N:gU m)(M:[eq,[Pj],[QS],xI,B,f,fd,[La]])(T:[Ay,B])(C:ye mg)(Mk:Pz K mg)(MB:[eq,[MR],[Pq],uT,B,fB,fdB,[FD]])(GB:aA P w K mg base aG 2 fB fdB [FD] (vd B m sc d3)):aA P w K mg base aG 3 f fd [La] (AF B m sc d3):=by
 have nd:=NT.nd;obtain⟨un,hn,rn⟩:=C.AB;obtain⟨ma,hma,hmk⟩:=Mk.ex;rw[90,NT];·obtain⟨sa,F,sp,p,r,rfl,_⟩:=h;rfl
 obtain⟨sa,F,sp,p,r,rfl,S,hsp,hin,hp,hwa,hws,hw3,k⟩:=h;rw[27,[At,4,fz [gv,1],[lA,[dU,rq,pv 2,b8 J hn rn],[ui,4,[C6,MB.me,GB,hr,MB.b,pv 4,[Ae,fQ j4 (b8 (x:="MARKS") (v:=.ref ma) J hma J) (pv 2) (λ _ _=>J),md]]]],[y8,[Ng,CW (oH VC (pv 3) pQ (nh (ro rp bu))),5,[ui,4,[C6,MB.me,GB,hr,MB.b,pv 4,[Ae,fQ j4 (b8 (x:="MARKS") (v:=.ref ma) J hma J) (pv 5) (λ _ _=>J),md]]]],pv 4]]];have L:∀(l:ab)(o:Hp)(I:[oD])(D:Ends),[b9,ah H o,qg o l I,[KY,I],I.length≤2550,(∀(b:ab)(d:Hp)u,ah H d→qg d b (r.dropLast.foldl [NV] I)→D.nx [Ta,[bV,b],u] d)→Lo (Lm K (Dh (LV K) (cv 3) Df (Dg (C1 (rU λ i=>.int (-i)) (tC (.int 1)))))) (iX 5) (t8 (ud B [MR] (vd B m sc d3) [] E0 (cv 0) (dc (cv 4) (dc (h9 (rz K) (tC (.ref ma)) (cv 5)) (dc (tC (.bl false)) gw)))) (iX 4)) D [Ta,[vW],none] o]:=by
  intro l o I D Y hl0 U X hD;have hne:aJ r≠[]:=[aB,hws];refine⟨_,J,_,J,_,J,F,_,J,bM.of (Y _ _ hwa),?_,?_,λ t ht=>?_⟩
  ·rintro⟨_,h2⟩;rw[E9]at h2;have:[fy,aJ,r]≠0:=by rw[12,Ne,List.length_eq_zero_iff,hne]
   omega
  ·show l8 [CN,aJ r]=true;rw[AE,←Bx];exact Pw _
  have ec:[CN,aJ r]=aJ r.dropLast:=by rw[AE,←Bx]
  show∃a,(V.ref t)=(V.ref a)∧_;have s2:ah o (ag o t (.tup [CN,aJ r])):=[cm,o,ht];have O:(ag o t (.tup [CN,aJ r])) t=Z (.tup (aJ r.dropLast)):=[ar,ec,aw];generalize hH2:ag o t (.tup [CN,aJ r])=H2 at s2 O;have sH2:=[tX,s2];have hl2:qg H2 l I:=let⟨as,q1,q2⟩:=hl0;[wG,as,s2,q1,[su,q2,s2 _ _ z]]
  rw[17,t,J,[gt,bM.of O],?_];have hgo:=CY (K:=K) (a:=t) (xs:=aJ r.dropLast) (g:=iX 5) (tb:=t8 (ud B [MR] (vd B m sc d3) [] E0 (cv 0) (dc (cv 4) (dc (h9 (rz K) (tC (.ref ma)) (cv 5)) (dc (tC (.bl false)) gw)))) (iX 4)) (D:=D) (H:=H2) (σ:=[Ta,[vW],none]) (λ i σ d=>∃(b:ab)(u:[dL]),(σ=[Ta,[bV,b],u]∧ah H d∧d t=Z (.tup (aJ r.dropLast))∧qg d b ((r.dropLast.take i).foldl [NV] I))) ⟨l,none,J,sH2,O,[aB,hl2]⟩ (λ i σ d _⟨_,_,_,_,e,_⟩=>bM.of e) ?_ ?_;·exact hgo
  ·rintro i y σ H3 hi⟨b,u,rfl,s3,ht3,n⟩;obtain⟨x,hx,rfl⟩:∃x,r.dropLast[i]?=Z x∧y=nV x:=by rw[cJ]at hi;cases q:r.dropLast[i]? with|none=>rw[q]at hi;cases hi|some x=>rw[q]at hi;rw[22,x,[nr,hi]]
   have hx3:=hw3 x (RR _ (bt hx));obtain⟨dx,fe,cu,la,en',g1,_⟩:=(S.mono s3).ex;have W:=E4 N (r.dropLast.take i) U;refine⟨_,J,sc,dx,_,J,g1,[fz],_,J,_,J,ma,_,_,_,J,J,hmk _,[zh,x,Py hx3],b,_,Vs.kindOf x,false,J,S.mono s3,n,[pH,E5 N _ U X],λ s G=>(yf N (W s G)).1,λ s G=>(yf N (W s G)).2,λ c H4 hc s4 R=>⟨c,_,J,s3.trans s4,s4 _ _ ht3,?_⟩⟩;rw[fH,hx,qz];exact R
  ·rintro σ H3⟨b,u,rfl,s3,ht3,n⟩;rw[aC,fZ]at n;exact hD b H3 u s3 n
 rw[17,_,J,by rw[80,1],λ l hl=>?_];have Y:ah H (ag H l (.aj [eD,sa])):=[mt,hl];have hl1:qg (ag H l (.aj [eD,sa])) l [sp]:=⟨[sa],aw,[qu,Y _ _ hsp]⟩;have h1:[KY,[sp]]:=λ s G=>by simp at G;subst G;exact hin
 refine[de,?_];cases p with|none=>rw[23,J,_,J,a_ (L l _ [sp] _ Y hl1 h1 [al] λ b d u sH n=>[de,k b d sH n])]|some x=>have e:C4 (wV (Z x)) (V.int (-1))=true:=J;rw[79,[em,e,_,?_],[wK,wV (Z x)=(V.int (-1))]];rw[PB];obtain⟨dx,fe,cu,la,en',g1,_⟩:=(S.mono Y).ex;rw[69,aV ⟨_,J,sc,dx,_,J,g1,[fz],_,J,_,J,ma,_,_,_,J,J,hmk _,[zh,x,Py (hp x J)],l,_,Vs.kindOf x,true,J,S.mono Y,hl1,[al],λ s G=>(yf N (h1 s G)).1,λ s G=>(yf N (h1 s G)).2,λ c H4 hc s4 R=>?_⟩,L c _ _ _ [tX,s4] R (yg N h1) (EZ N h1) λ b d u sH n=>[de,k b d sH n]]
end
end VP
end
section
namespace VP
open PySem L2
def E_:[bj]:=[[ck],"stand","shape","begins","forms","found","wants","lead",[B3],"weight","spots","spot"]
theorem PD:bQ E_ [ws] (aZ uQ):=[cj]
def lL(l:[ak]):List lg:=[P7]
theorem ZD(K:aF){X:Cx}(h:X.K=K:=by rfl):zT X (rz K):=by subst h;exact j4
theorem PF{K:aF}{H:Hp}:∀(l:[ak]),ml K H (aJ l) (lL l)|[]=>.nil|n::l=>(.cons (.int _) (PF l))
theorem PH:∀l:[ak],pd (lL l)=0|[]=>by simp[lL,pd]|n::l=>by have:=PH l;simp only[lL,bO,pd,PyData.depth]at*;rw[this];rfl
theorem PJ:∀l:[ak],o9 (lL l)=true|[]=>by simp[lL,o9]|n::l=>by have:=PJ l;simp only[lL,bO,o9,vE,yO]at*;rw[58]
theorem ZE(l:[ak]):jL (.tuple (lL l))=true:=by unfold jL;simp only[PyData.depth,vE,PH,PJ];decide
theorem ZF(l:[ak]):(i9 (.tuple (lL l)) (.tuple [])=[aN,l=[]]):=by cases l with|nil=>simp[lL,i9,yM]|cons a l=>simp[lL,i9,yM]
theorem ZG(p:[wS]):[aw,dD (wV p)]:=by cases p<;>rfl
theorem ZH(a b:Nat):(! i2 (nV a) [nV 0,nV b])=[wK,a=0∨a=b]:=by show(!(([ap,0]==[ap,a])||(([ap,b]==[ap,a])||false)))=_;congr 1;rw[dH];simp only[yN,n9,mS,dw];omega
section
variable{P:aY}{w:aU}{K:aF}{mg:[a_]}{base:aE}
def Fb(B:ab)(m:bT)(sc d3:ab):Sp:=λ U H Q _=>∃(a sa:ab)(L:Vs.a8)(sh:Vs.Shape),[kw,U=[[wn],[bi],[pU]],[CO,H],fi H a L,qi m L,ji H sa sh,qj sh,∀(l:ab)(b:Hp),[wg,l,ah H b,ia b l (kI m L sh),Q [io] b]]
theorem ZI{f fW fJ CS sc d3:ab}{m:bT}{fd fdW fdJ:bq}(MI:gU m)(M:[eq,"find_targets",[Q9],uQ,CS,f,fd,[ws]])(T:[Ay,CS])(C:ye mg)(cA:Cn mg "ANYHOW" 0)(MW:[eq,[Pj],[QS],xI,CS,fW,fdW,[La]])(GW:aA P w K mg base aG 3 fW fdW [La] (AF CS m sc d3))(Dj:[gh,"joined_weight",xF,fJ,fdJ,[Ik]])(Gj:aA P w K mg base aG 1 fJ fdJ [Ik] ET):aA P w K mg base aG 4 f fd [ws] (Fb CS m sc d3):=by
 have nd:E_.Nodup:=PD.nd;obtain⟨u0,h0,r0⟩:=C.iU;obtain⟨u1,h1,r1⟩:=C.weight;obtain⟨u2,h2,r2⟩:=C.wants;obtain⟨un,hn,rn⟩:=C.AB;obtain⟨ua,hA,rA⟩:=cA;rw[90,PD];·obtain⟨a,sa,L,sh,rfl,_⟩:=h;rfl
 obtain⟨a,sa,L,sh,rfl,S,⟨pa,p,hsp⟩,u,⟨fa,fs,hsh,hfa,hfs⟩,R,k⟩:=h;rw[27,[Eg,3,fQ j4 (pv 2) bu (λ _ _=>J),4,fQ j4 (pv 2) bu (λ _ _=>J),aK [Bj,cm L0 [NL,h2,r2] [pT,b8 J hA rA,[gv,3]] J,fz aB] [Es,5,fz aB,eJ dX J (CW (pv 4)) (oD J (gM (b9 (i:=6) nd J (gq J)) (gM [pL,7] (gM (b9 (i:=8) nd J (gq J)) oC)))) [At,9,[NL,h1,r1],[lA,[dU,rq,pv 9,b8 J hn rn],[ui,9,[ED,Gj,hr.mono [bd],Dj.mg,Dj.fn.kp,Dj.b,pv 9,[gv,7]]]],aN (cI [dU,L9 hr.units,pv 8,ff aB] (aN (j0 (mj nN sM sN pT (pv 5) (ak [pT,[NL,h0,r0],[Am,pv 9,6]] aB)))) (aK [ui,10,[C6,MW.me,GW,hr,MW.b,[NL,h0,r0],[Am,pv 9,8]]] (aN (j0 (mj nN PySem.F.slot_list_extend PySem.F.type_list_extend L6 (pv 5) (ak (jz (own:=[("spot",11)]) J nd (dj (pv 10)) [Ad,E_,uQ,"spot",11] (λ _ _ _ _ _=>[pL,11]) (λ _ _ _ _ _=>iv) (λ _ _ _ _ _=>[pT,pv 11,[Am,fQ (ZD K) (pv 8) (ro rp bu) (λ _ _=>J),6]])) aB))))))]]]];refine[Rl,sa,hsh,0];refine[Rl,sa,hsh,1];refine⟨_,J,a,_,_,_,J,J,bM.of p,[zh,2,J],_,J,[Bi],λ t ht=>?_⟩;have s1:ah H [pD,H,t,nV 0,nV sh.1]:=[mt,ht];rw[79,⟨t,[nV 0,nV sh.1],J,.inr (bM.of aw),J,J,_,J,?_⟩,! i2 (nV L.2.2) [nV 0,nV sh.1]];rw[ZH];unfold kI at k;by_cases g:L.2.2=0∨L.2.2=sh.1
 ·rw[bK g];rw[aI g]at k;refine a_ [Fu,λ l hl=>?_];generalize hH1:[pD,H,t,nV 0,nV sh.1]=H1 at s1 hl⊢;have s2:ah H [nF,H1,l]:=[Ac,[cm,H1,hl]];have hl0:H l=none:=s1.free hl;rw[61,fa,J,[gt,bM.of (s2 _ _ hfa)],[m6,CY,fa,fs,λ i σ d=>∃v6 v7 v8 v9 B:[dL],σ=[Z [wn],[lm],Z [pU],Z (nV sh.1),[bV,fa],[vW],v6,v7,v8,v9,B,none]∧ah H d∧ia d l [Qc,i],⟨none,none,none,none,none,J,s2,[],aw,.nil⟩,λ i σ d _⟨_,_,_,_,_,_,s',_⟩=>bM.of (s' _ _ hfa)]]
  ·rintro i y σ H3 hi⟨v6,v7,v8,v9,B,rfl,s3,as,hl3,has⟩;obtain⟨⟨I,ld,o⟩,hfm,ya,wa,rfl,hya,hwa⟩:=d6 hfs hi;have Y:=R.fm _ (bt hfm);have U:[Qc,i+1]=[Qc,i]++jo m L (I,ld,o):=by rw[fH,hfm,kW];simp
   have haslen:as.length≤2550*2:=by
    rw[er has];have h1:=yi (f:=jo m L) (n:=2550) (l:=(sh.2.take i)) λ f hf=>(AD MI u (R.fm f (Bq hf))).2
    have h2:=R.fx;have h3:[cY,sh.2.take i,2]:=[gL,jJ];rw[10,R4 2550 h3]
   have hfin:=AD MI u Y;rw[3,⟨ya,_,J,bM.of (s3 _ _ hya),J,_,_,J,_,_,J,_,_,J,J,?_⟩,[Rl,a,s3 _ _ p,1]];generalize v:[Nt,Vs.joined,ld]=r;have X:[CF,jo m L (I,ld,o),o=[],[(L.1,r,I)],(qh m L.1 r o).map λ sp=>(sp,o.getLast?,I)]:=by unfold jo;rw[←v]
   have hp3:∀w,r=Z w→w≤3:=[cE,v,Pr u.w Y.2.1];have hwn:=Y.1;have rest:∀(D:Ends),(∀d B,ah H d→ia d l [Qc,i+1]→D.nx [Z [wn],[lm],Z [pU],Z (nV sh.1),[bV,fa],[vW],Z (nV I),Z (nV ld),[bV,wa],Z (wV r),B,none] d)→zD (uc (h9 (Dx K) (cv 8) (ng gw))) (CQ (Dt K "list" L4 (cv 5) (dc (ng (dc (h9 (rz K) (cv 1) (tC (nV 0))) (dc (cv 9) (dc (cv 6) gw)))) gw))) (wj (t8 (ud CS [Pj] (AF CS m sc d3) [] E0 (cv 0) (dc (h9 (rz K) (cv 1) (tC (nV 0))) (dc (cv 9) (dc (cv 8) gw)))) (iX 10)) (CQ (Dt K "list" L5 (cv 5) (dc (oK (Ll K (cv 10)) (iX 11) Mg (ng (dc (cv 11) (dc (h9 (rz K) (cv 8) (C1 (rU λ i=>(V.int (-i))) (tC (V.int 1)))) (dc (cv 6) gw)))) [11]) gw)))) D [Z [wn],[lm],Z [pU],Z (nV sh.1),[bV,fa],[vW],Z (nV I),Z (nV ld),[bV,wa],Z (wV r),B,none] H3:=by
    intro D hD;have hwa3:=s3 _ _ hwa;rw[17,_,J,[ge,b7 _],λ t4 ht4=>?_];have s4:ah H3 (ag H3 t4 (.tup [])):=[cm,H3,ht4];have O:=s3.trans s4;rw[41,⟨.tuple (lL o),.tuple [],.tup (bM.of (s4 _ _ hwa3)) (PF o),.tup (bM.of aw) .nil,ZE o,[bE],?_⟩,ZF];generalize hH4:ag H3 t4 (.tup [])=H4 at s4 O⊢;refine[de,?_];have hl4:=s4 _ _ hl3;have has4:(Paired (fi H4) as [Qc,i]):=[su,has,z.mono (dF s4)];by_cases g:o=[]
    ·rw[bK g];rw[aI g]at X;refine aV ⟨_,J,[Ed,hl4],_,J,a,_,_,_,J,J,bM.of (O _ _ p),[zh,0,J],_,J,_,J,[rF,3,?_],λ q hq=>?_⟩;·rw[14,(! dD (wV r)&&! dD (nV I))=true,ZG];rfl
     ·have s5:ah H4 (ag H4 q [Rs]):=[cm,H4,hq];have G:=s5 _ _ hl4;have hpa:(ag H4 q [Rs]) q=Z [Rs]:=aw;generalize hH5:ag H4 q [Rs]=H5 at s5 G hpa⊢;refine⟨l,_,_,J,J,G,(eR (show[cY,[K2],2550*2]by rw[4,aC,haslen]) [bd]),?_⟩;rw[161,H5,l,[K2]++[eD,q],cE e G (by rw[87])];refine hD _ B (ah.aT (O.trans s5) hl0) ⟨as++[q],[ar,cH,aw],?_⟩;rw[12,U,X,nG [su,has4,(z.mono (dF s5)).mono tk] [qu,[wG,pa,tk,hpa,tk _ _ (s5 _ _ (O _ _ hsp))]]]
    ·rw[bW g];rw[aD g]at X;obtain⟨dx,fe,cu,la,en',g1,_⟩:=(S.mono O).ex;refine a_ ⟨_,J,sc,dx,_,J,g1,[fz],_,J,a,_,_,_,J,J,bM.of (O _ _ p),[zh,0,J],_,J,_,J,pa,wa,L.1,r,o,J,S.mono O,O _ _ hsp,u.sp,hp3,s4 _ _ hwa3,g,Y.2.2,λ c H5 s5⟨cs,hc,F⟩=>?_⟩;have sH5:=O.trans s5;have G:=s5 _ _ hl4;have hlenc:[Dk,2550]:=[ar,er F,(Po MI u.sp r o).2];obtain⟨ini,aj,rfl⟩:=Vs.qU g;refine⟨_,J,[Ed,G],_,J,c,J,[nj,hc],λ D6 hD6=>[m6,pW,c,cs.map V.ref,λ j d=>ah H5 d∧∃W,d D6=Z (.aj (W.map V.ref))∧(W.length=j∧(Paired (fi d) W (((qh m L.1 r (ini++[aj])).take j).map λ sp=>(sp,Z aj,I)))),[lc,[cm,H5,hD6],[],aw,by simp;exact .nil],λ j d _⟨s',_⟩=>[pc,s',hc]]⟩
     ·rintro j x d hx⟨s',W,hD',N,hus⟩;obtain⟨pb,hpb,rfl⟩:=lG hx;obtain⟨spx,hspx,hpbx⟩:=d6 F hpb;have hwa':=s' _ _ (sH5 _ _ hwa);rw[3,[lu,?_],⟨_,J,_,J,_,J,wa,_,_,nV aj,J,J,bM.of hwa',?_,_,J,[rF,3,?_],λ q hq=>⟨W.map V.ref,?_,?_,?_,?_⟩⟩];·rw[39,kB (aJ (ini++[aj])) (-1)=Z (nV aj),[dA,aJ (ini++[aj]),aJ ini++[nV aj],[al]],Dl _ _]
      ·rfl
      rw[11,ar (aX hD' hq),hD'];·rw[aC,N];rw[45,[eJ,hpb],dG (dG this hlenc) [bd]]
      ·exact(ah.aT (ah.aT s' (s'.free hq)) hD6)
      ·have nqD:q≠D6:=(aX hD' hq).symm;have sq:jk d (ag (ag d q (.tup [.ref pb,nV aj,nV I])) D6 (.aj (W.map V.ref++[eD,q]))):=λ b xs e=>by rw[12,ar (cE e hD' (by rw[87])),ar (aX e hq),e]
       rw[17,W++[q],[ar,cH,aw],[jl,dh,N],?_];rw[fH,hspx,cH];refine nG [Ak,hus,λ _ _ w=>w.mono sq] [qu,⟨pb,?_,sq _ _ (s' _ _ hpbx)⟩];rw[ar nqD,aw];rfl
     ·rintro H6⟨s6,W,hD6',N,hus⟩;rw[aC,er F]at N;rw[aC,er F,fZ]at hus;have hl6:=s6 _ _ G;refine⟨l,D6,_,_,J,J,hl6,hD6',?_,?_⟩;·rw[aC,aC,N,←er F];exact[zB,bf,as.length+cs.length,2550*3]
      ·rw[161,H6,l,[K2]++W.map V.ref,cE e hl6 (by rw[87])];refine hD _ _ (ah.aT (sH5.trans s6) hl0) ⟨as++W,[ar,cH,aw],?_⟩;rw[U,X];rw[57,nG [su,has4,(z.mono (dF (s5.trans s6))).mono tk] ?_,RS,[su,hus,z.mono tk]]
   cases hw:L.2.1 with|none=>rw[hw]at v;have v:none=r:=v;subst v;exact[wY,a_ (rest _ λ d B q1 q2=>⟨_,_,_,_,_,J,q1,q2⟩)]|some x=>rw[hw]at v;have v:Z (Vs.joined x ld)=r:=v;subst v;rw[43,[wY,?_],[wO,[wK,wV (Z x)=(V.int (-1))]]];rw[4,PB,aV ⟨_,J,_,J,x,ld,J,rest _ λ d B q1 q2=>⟨_,_,_,_,_,J,q1,q2⟩⟩]
  ·rintro σ H3⟨v6,v7,v8,v9,B,rfl,s3,hs3⟩;rw[er hfs,fZ]at hs3;rw[22,_,k l H3 hl0 s3 hs3]
 ·rw[bW g];rw[aD g]at k;exact aV [Fu,λ l hl=>k l _ (s1.free hl) [Ac,[cm,_,hl]] ⟨[],aw,.nil⟩]
end
end VP
end
section
namespace VP
open PySem L2
def qk(n:Nat):Tr:=.num [cQ]
def lM(fm:Vs.Form):Tr:=(.cons (.num fm.1) (.cons (.num fm.2.1) [qu,dJ (fm.2.2.map qk)]))
def nH(sh:Vs.Shape):Tr:=[zC,.num sh.1,dJ (sh.2.map lM)]
def kJ(L:Vs.a8)(sh:Vs.Shape):Tr:=[zC,fD L,nH sh]
theorem Fc{m:Type}{f:m→Tr}(F:∀a b,f a=f b→a=b):∀{a b:[li]},dJ (a.map f)=dJ (b.map f)→a=b|[],[],_=>J|[],_::_,h=>by simp[dJ]at h|_::_,[],h=>by simp[dJ]at h|x::a,y::b,h=>by simp only[bO,dJ,Tr.cons.injEq]at h;rw[F _ _ h.1,Fc F h.2]
theorem ZJ(a b:Nat)(h:qk a=qk b):a=b:=by unfold qk at h;injection h with h;omega
theorem ZK(a b:Vs.Form)(h:lM a=lM b):a=b:=by obtain⟨v,w,i⟩:=a;obtain⟨V,d,N⟩:=b;rw[130,lM];obtain⟨g,r,P⟩:=h;have g:v=V:=[ac];have r:w=d:=[ac];rw[g,r,Fc ZJ P]
theorem PK{a b:Vs.Shape}(h:nH a=nH b):a=b:=by obtain⟨v,w⟩:=a;obtain⟨V,d⟩:=b;rw[130,nH];have g:v=V:=[ac];rw[g,Fc ZK h.2]
theorem ZL{a b:Vs.a8}{c d:Vs.Shape}(h:kJ a c=kJ b d):a=b∧c=d:=by simp only[kJ,Tr.cons.injEq,pw]at h;rw[0,Au h.1,PK h.2]
theorem PL{H:Hp}{l:List Tr}{a:ab}{N:[aK]}(h:H a=Z (.tup N))(t:eI H (dJ l) N):l9 H (eI H (dJ l)) (dJ l) [bi]:=by cases l with|nil=>rw[9,a,N,J,h,t]|cons x l=>rw[9,a,N,J,h,t]
theorem PM{H:Hp}:∀l:[ak],eI H (dJ (l.map qk)) (aJ l)|[]=>J|n::l=>[d9,_,_,[db],PM l]
theorem ZM{H:Hp}{v:V}{fm:Vs.Form}(h:qc H v fm):l9 H (eI H (lM fm)) (lM fm) v:=by obtain⟨a,y,e,g,r⟩:=h;exact⟨a,_,e,g,_,_,J,[db],_,_,J,[db],_,_,J,PL r (PM _),J⟩
theorem PN{H:Hp}:∀{U:[aK]}{a:List Vs.Form},Paired (qc H) U a→eI H (dJ (a.map lM)) U|_,_,.nil=>J|_,_,.cons r t=>[d9,_,_,ZM r,PN t]
theorem PQ{H:Hp}{a:ab}{sh:Vs.Shape}(h:ji H a sh):∃N,H a=Z (.tup N)∧eI H (nH sh) N:=by obtain⟨I,fs,g,r,P⟩:=h;exact⟨_,g,_,_,J,[db],_,_,J,PL r (PN P),J⟩
theorem PR:∀l:[ak],c_ (dJ (l.map qk))≤1|[]=>by simp[dJ,c_]|n::l=>by have:=PR l;simp only[bO,dJ,c_,qk]at*;omega
theorem PU:∀l:List Vs.Form,c_ (dJ (l.map lM))≤3|[]=>by simp[dJ,c_]|f::l=>by have g:=PU l;have r:=PR f.2.2;simp only[bO,dJ,c_,lM]at*;omega
theorem PV(sh:Vs.Shape):c_ (nH sh)≤4:=by have:=PU sh.2;simp only[nH,c_];omega
theorem Fd{H:Hp}{t a sa:ab}{L:Vs.a8}{sh:Vs.Shape}(h:H t=Z [ii,[bi],[pU]])(p:fi H a L)(q:ji H sa sh):eZ H (kJ L sh) t:=by obtain⟨N,g,r⟩:=EI p;obtain⟨G,P,w⟩:=PQ q;refine⟨?_,_,h,_,_,J,[d9,a,N,g,r],_,_,J,[d9,sa,G,P,w],J⟩;have:=PV sh;have:=EJ L;simp only[kJ,c_];omega
def AG(m:bT)(ks:[d6])(U:[oH])(d3:ab)(H a:Hp):Prop:=(∃Y,H d3=Z (.dT Y)∧[ML]∧∀p∈Y,∃L i l,(L∈U∧[zm,i]∧p=(kJ L [yj,ks,i],(V.ref l))∧ia a l (kI m L [yj,ks,i])))
theorem ZN{m:bT}{ks:[d6]}{U:[oH]}{d3:ab}(H a b d:Hp)(e:a d3=H d3)(s:ah b d)(h:AG m ks U d3 H b):AG m ks U d3 a d:=by obtain⟨Y,g,r,P⟩:=h;rw[17,Y,e.trans g,r,[ro]];obtain⟨L,i,l,n,X,f,c⟩:=P p R;exact⟨L,i,l,n,X,f,c.mono s⟩
structure j9(B:ab)(F:aS):Prop where
 sc:F.sd=[Ft,ie,B]
 kt:F.kt=AG F.m F.ks F.U F.d3
 tg:F.tg=kI F.m
 en:F.en=sj F.m
 mi:gU F.m
 U:∀L∈F.U,qi F.m L
 sh:∀i,i<F.ks.length→qj [y_]
abbrev aS.with(F:aS)(X:[aT]):aS:={F with X:=X}
theorem cw.with{F:aS}(I:cw F)(X:[aT]):cw [oM]:=⟨I.K,I.fx,I.len,I.tg,I.u_,I.Ap,I.en,I.Ul,I.my,I.nv⟩
theorem j9.with{B:ab}{F:aS}(R:j9 B F)(X:[aT]):j9 B [oM]:=⟨R.sc,R.kt,R.tg,R.en,R.mi,R.U,R.sh⟩
theorem ZO{B:ab}{F:aS}(I:cw F)(R:j9 B F){H d:Hp}(h:F.kt H d):(∃Y,H F.d3=Z (.dT Y)∧[J4]):=by
 rw[R.kt]at h;obtain⟨Y,g,a,P⟩:=h;rw[29,Y,g];rw[38,[OD,F.U.flatMap λ L=>[wv,F.ks.length,λ i=>kJ L [y_]],a,by obtain⟨p,b,rfl⟩:=[bp,A];obtain⟨L,i,l,c,X,rfl,_⟩:=P p b;exact[pN,L,c,[jz,i,[rJ,X]]]],aC];have w:=yi (f:=λ L=>[wv,F.ks.length,λ i=>kJ L [y_]]) (n:=64) (l:=F.U) λ L _=>by rw[12,aC,jI,I.len]
 have m:=I.Ul;exact[zB,eR,Y.length,64*100000]
theorem ZP{B:ab}{F:aS}(I:cw F)(R:j9 B F){H:Hp}{a:[bv]}(S:bA F H a){Y:[lk]}(h:H F.d3=Z (.dT Y)){L:Vs.a8}{i:Nat}{l:ab}(s:[wo])(O:[qP,i])(X:ia (Zh (aP F a) H) l (kI F.m L [y_])):bJ F 0 H a (ag H F.d3 [Dc,kJ L [y_],[io]]) a:=by
 have U:F.d3∈aP F a:=ib.mpr [nM,[db]];have z:ah (Zh (aP F a) H) (Zh (aP F a) (ag H F.d3 [Dc,kJ L [y_],[io]])):=λ b o q=>by rw[124,q,λ w=>q.2 [ar,w,U]]
 obtain⟨E,D,t⟩:=S.lJ;rw[117];obtain⟨C,g,k1⟩:=S.k1;rw[131];have kt:=S.kt;rw[R.kt]at kt;obtain⟨M,P,K,k3⟩:=kt;rw[h]at P;cases P;have u:[CZ,F.d3,ag H F.d3 [Dc,kJ L [y_],[io]] b=H b]:=λ b f=>ar f
 rw[17,⟨[Nz],[J9],[JU],[JW],[KN],EL S.tab h,?_,[gt,aw],⟨C,[uf,D,g],k1⟩,⟨T,[uf,t,r],k2⟩,S.lJ,S.knd,λ x A=>[ut,?_,S.kn x A],S.of,[rp],S.xd⟩,z,λ i x A=>[d9,x,A,J,Vs.eG.refl _ _],λ x A=>u _ [Cb].2.2.1]
 ·rw[13,R.kt,⟨_,aw,xP _ K,λ p c=>?_⟩];rcases xO c with rfl|c;·exact⟨L,i,l,s,O,J,X.mono z⟩
  ·obtain⟨m,G,N,n,d,j,y⟩:=k3 p c;exact⟨m,G,N,n,d,j,y.mono z⟩
 ·obtain⟨k,_⟩:=S.kn x A;obtain⟨_,_,_,_,_,v,e,_⟩:=id k.ex;exact k.mono (u _ (cE v h (by rw[87]))) (u _ (cE e h (by rw[87]))) z
 ·rw[77,x,A];rw[0,o,[uf,[Cb].2.2.1,q]]
section
variable{P:aY}{w:aU}{K:aF}{mg:[a_]}{base:aE}
theorem ZQ{F:aS}(I:cw F){f fF B:ab}{fd r:bq}(R:j9 B F)(M:[eq,"targets",[PU],uP,B,f,fd,[ws]])(T:[Ay,B])(MF:[eq,"find_targets",[Q9],uQ,B,fF,r,[ws]])(GF:aA P w K mg base aG 4 fF r [ws] [Ft,Fb,B]):aA P w K mg base aG 5 f fd [ws] [P5,xZ]:=by
 have nd:=NS.nd;rw[90,NS];·obtain⟨X,b,a,sa,L,i,rfl,_⟩:=h;rfl
 obtain⟨X,b,a,sa,L,i,rfl,S,hst,hU,hi,q,k⟩:=h;have I:=I.with X;have R:=R.with X;generalize hF:[oM]=n at I R S k hU hi q;have eS:n.sc=F.sc∧n.m=F.m∧n.d3=F.d3:=by rw[←hF];rw[22,J,J]
 obtain⟨e1,e2,e3⟩:=eS;rw[←e1,←e2,←e3]at GF;rw[89];rw[46,[Ea,3,[pT,pv 1,[gv,2]],[lA,CO (Aa hu (pv 3) [er]),nk hu [er] (pv 3) [C6,MF.me,GF,hr,MF.b,pv 1,[gv,2]] J],nj hu [er] (pv 3) (λ _ _=>J)],[zH,_,[Bi],λ t ht=>?_]];have e:ah H [pD,H,t,[bi],[pU]]:=[mt,ht];have O:(ag H t [ii,[bi],[pU]]) t=Z [ii,[bi],[pU]]:=aw;generalize hH1:[pD,H,t,[bi],[pU]]=H1 at e O;have y:=S.grow I e;have o:=bJ.grow I 0 S e;have x:∀{H':Hp},bA n H' b→ie B n.m n.sc n.d3 (Zh (aP n b) H'):=λ S'=>by rw[56,S'.sc,R.sc]
 have u:=hst.mono (dF e);have G:=q.mono (dF e);have C:∀(d:Hp)(l:ab)(Y:[lk]),[b9,bJ n 0 H1 b d b,d n.d3=Z (.dT Y),cn Y (kJ L [yj,n.ks,i])=[vW],ia (Zh (aP n b) d) l (kI n.m L [yj,n.ks,i]),wN (nc K (cv 0) "known_targets") (cv 3) [[bV,n.sc],[lm],Z [pU],[bV,t]] d Q]:=λ d l Y N c hv hl=>by obtain⟨dx,fe,cu,la,en,g1,_⟩:=((x N.st).mono bp).ex;have tk:=N.dZ y;have g:=eW.t c (Fd (tk _ _ O) (u.mono tk) (G.mono tk));rw[hv]at g;rw[57,⟨_,J,n.sc,B,dx,_,_,J,g1,T.cl,[lD,4],[mj,4],_,J,n.d3,_,J,g,k l d ?_ (o.trans N)⟩,R.tg,hl]
 obtain⟨dx,fe,cu,la,en,g1,_⟩:=((x y).mono bp).ex;obtain⟨Y,c,m⟩:=ZO I R y.kt;refine⟨_,J,_,J,n.sc,B,dx,_,_,J,g1,T.cl,[lD,4],[mj,4],n.d3,_,J,eW.t c (Fd O u G),_,J,?_⟩;cases ev:cn Y (kJ L [yj,n.ks,i])with|some v=>have kt:=y.kt;rw[R.kt]at kt;obtain⟨kvs',W,_,k3⟩:=kt;rw[c]at W;cases W;obtain⟨st',i',l,q1,q2,q3,q4⟩:=k3 _ (Aw ev);injection q3 with q5 q6;obtain⟨rfl,q8⟩:=ZL q5;subst q6;rw[←q8]at q4;exact a_ (C H1 l Y (bJ.refl 0 y) c ev q4)|none=>refine aV ⟨_,J,n.sc,dx,_,J,g1,[fz],_,J,_,J,a,sa,L,_,J,(x y).mono bp,u,R.U L hU,G,R.sh i hi,λ l d hl j U=>?_⟩;have S2:=y.grow I j;have N:=bJ.grow I 0 y j;have h32:=j _ _ c;obtain⟨as,hl2,has⟩:=U;have nl:l∉aP n b:=y.free hl;have D:ia (Zh (aP n b) d) l (kI n.m L [yj,n.ks,i]):=⟨as,[rs,hl2,nl],[su,has,z.mono S2.dZ]⟩;have p:=ZP I R S2 h32 hU hi D;obtain⟨dx2,fe2,cu2,la2,en2,g2,_⟩:=((x S2).mono bp).ex;rw[69,⟨_,J,n.sc,B,dx2,_,_,J,g2,T.cl,[lD,4],[mj,4],_,J,n.d3,_,J,jf.t h32 (Fd (j _ _ O) (u.mono (dF j)) (G.mono (dF j))) m,?_⟩,C _ l _ (N.trans p) aw (by rw[rF,aI J]) (D.mono p.z)]
theorem ZR{F:aS}(I:cw F){f B:ab}{v:bq}(R:j9 B F)(G:aA P w K mg base aG 3 f v [iZ] [Ft,EY,B]):aA P w K mg base aG 3 f v [iZ] (λ U H Q E=>∃X,x8 [oM] U H Q E):=by
 refine G.imp λ U H Q E h=>?_
 obtain⟨X,b,a,L,rfl,S,p,V,k⟩:=h;have g:=S.sc;have e:[oM].sd=[Ft,ie,B]:=R.sc;rw[e]at g;rw[47,a,L,J,g.mono bp,p,yf R.mi (R.U L V).sp,λ m s=>?_];have:=k m s;have e2:[oM].en=sj F.m:=R.en;rw[114,e2]
end
end VP
end
section
namespace VP
open PySem L2
theorem bM.keep{K:aF}{H m:Hp}{b:ab}{N:[aK]}(h:bM K H b N)(k:∀o,H b=Z o→(o=.tup N∨∃u,o=.iG u (.tup N))→m b=Z o):bM K m b N:=h.imp (λ r=>r.imp (λ e=>k _ e [db]) λ⟨o,e⟩=>⟨o,k _ e (.inr [rg])⟩) id
def mB:[bj]:=["feet","cuts"]
def vf(a:ab)(H:Hp)(me:ab)(m:bT):Prop:=∃W x n,H me=[ff,a,mB.zip [.ref x,.ref n]]∧EN H x m.feet∧EO H n m.cuts
theorem PX(S:[nk])(f:Nat):Vs.eB S f=0∨(f,Vs.eB S f)∈S:=by
 induction S with
  |nil=>rw[21,J]
  |cons c S T=>
   rw[73,Vs.eB (c::S) f=[EL,c.1=f,max c.2 (Vs.eB S f),Vs.eB,S,f],J];by_cases h:c.1=f
   ·rw[aI h];rcases Nat.le_total c.2 (Vs.eB S f)with q|q;·rw[Nat.max_eq_right q];rcases T with T|T;rw[48,T,cp _ T]
    ·rw[Nat.max_eq_left q];right;rw[25,h,cq]
   ·rw[aD h];rcases T with T|T;rw[48,T,cp _ T]
def yk(Y:[mh])(a:List [xY])(i:Nat):Prop:=∀f:Nat,(cn Y (bY [ap,f])=none∧∀j p,j<i→a[j]?=Z p→p.1≠[ap,f])∨∃j z,(j<i∧a[j]?=Z ([ap,f],z)∧cn Y (bY [ap,f])=Z (.int z)∧∀k p,(j<k→k<i→a[k]?=Z p→p.1≠[ap,f]))
theorem ZS(a:List [xY]):yk [] a 0:=λ f=>.inl [lu,λ j p h=>[ac]]
theorem ZT{Y:[mh]}{b:List [xY]}{i:Nat}(h:yk Y b i){p:[xY]}(R:b[i]?=Z p):yk (cD Y (bY p.1) (.int p.2)) b (i+1):=λ f=>by
 rw[rF];rw[30,p.1,[ap,f]];·right;rw[41,⟨i,p.2,[ac],by rw[R,←e],?_,λ k q g r=>[ac]⟩,aI (by rw[e])]
 ·have H:¬((bY [ap,f]:Key)=bY p.1):=(λ z=>e (Sum.inl.inj z).symm);rw[aD H];rcases h f with⟨g,r⟩|⟨j,z,g,r,P,a⟩
  ·left;rw[15,g,λ j q U D=>?_];by_cases w:j=i;·subst w;rw[R]at D;rw[6,D,e]
   ·exact r j q [ac] D
  ·right;refine⟨j,z,[ac],r,P,λ k q c E D=>?_⟩;by_cases w:k=i;·subst w;rw[R]at D;rw[6,D,e]
   ·exact a k q c [ac] D
theorem ZU{Y:[mh]}{d:List [xY]}{S:[nk]}(h:yk Y d d.length)(N:∀p,p∈d↔p∈S.map λ c:[xP]=>[JN,c.1,c.2])(G:∀(i j:Nat)(p q:[xY]),(i<j→d[i]?=Z p→d[j]?=Z q→[aw,fg p q]))(f:Nat):(cn Y (bY [ap,f])).getD (nV 0)=nV (Vs.eB S f):=by
 have v:∀{n:Nat},(f,n)∈S→∃k,d[k]?=Z ([ap,f],[cQ]):=λ{n}hn=>by rw[45,(N ([ap,f],[cQ])).mpr [jz,(f,n),hn],[Kz,this]]
 rcases h f with⟨g,r⟩|⟨j,z,g,r,P,b⟩
 ·rw[g];rcases PX S f with e|e;·rw[e];rfl
  ·obtain⟨k,C⟩:=v e;rw[8,J,r k _ [eJ,C] C]
 ·rw[P];obtain⟨⟨u,A⟩,a,H⟩:=[bp,(N _).mp (bt r)];simp only[Jl]at H;obtain⟨e1,e2⟩:=H;have e1:u=f:=[ac];subst e1;subst e2;have m:=Vs.zj a;have K:Vs.eB S u≤A:=by
   rcases PX S u with e|e;·omega
   ·obtain⟨k,C⟩:=v e;rcases R9 k j with w|w|w;·have:=G k j _ _ w C r;cases q:[aN,A<Vs.eB S u]with|false=>rw[10,of_decide_eq_false q]|true=>have q:=lR q;have:fg ([ap,u],[aV,Vs.eB S u]) [JN,u,A]=true:=rJ.mpr [jT,J,by rw[20,[ap,A]<[ap,Vs.eB S u]]];rw[G k j _ _ w C r]at this;cases this
    ·subst w;rw[C]at r;have:=[dF,r];simp only[Jl,true_and]at this;omega
    ·rw[8,J,b k _ w [eJ,C] C]
  rw[50,Vs.eB S u=A];rw[this];rfl
section
variable{P:aY}{w:aU}{K:aF}{mg:[a_]}{base:aE}
def oX(S:[nk]):List lg:=S.map λ c=>[PM,[ap,c.1],[ap,c.2]]
theorem ZV(S:[nk]):jL (.list (oX S))=true:=by
 have h:o9 (oX S)=true∧pd (oX S)≤1:=by induction S with|nil=>simp[oX,o9,pd]|cons c S T=>simp only[oX,bO,o9,vE,pd,PyData.depth,Jp,yO]at T⊢;rw[0,T.1,[ac]]
 unfold jL;simp only[vE,PyData.depth,h.1,yO];exact[wh]
theorem ZW(S:[nk]):i9 (.list (oX S)) (.list [])=(S==[]):=by cases S with|nil=>simp[oX,i9,yM]|cons c S=>simp[oX,i9,yM]
def Fe(B:ab)(m:bT)(sc d3:ab):Sp:=λ U H Q _=>U=[[wn]]∧[CO,H]∧∀(a:ab)(b:Hp),ah H b→[zI,fi b a (Vs.start m),b]
theorem ZX{f B sc d3:ab}{m:bT}{v:bq}(M:[eq,"first_stand",[Py],uN,B,f,v,[[ck]]])(T:[Ay,B])(C:ye mg)(cA:Cn mg "ANYHOW" 0):aA P w K mg base aG 1 f v [[ck]] (Fe B m sc d3):=by
 obtain⟨un,hn,rn⟩:=C.AB;obtain⟨ua,hA,rA⟩:=cA;rw[53,M.fn.ok,X0,[EI]];·have e:=h.1;subst e;rfl
 have e:=h.1;subst e;have S:=h.2.1;have k:=h.2.2;obtain⟨W,fe,cu,la,en,g,_,⟨G,a,c⟩,_⟩:=S.ex;have R:∀O b d p n r x I N y L,PE (gy aG P w K mg base [[ck]] [Py] (aZ uN) f j A outer s H E).jZ (.Tuple [.Tuple [.Constant (.int 0) 0 O,.Constant (.int 0) 0 b,.Constant (.str "") 0 d,.Compare (.Attribute (.Name [ck] p) "cuts" n) [.Eq] [.List [] r] x] 0 I,.Name "NO_SYLLABLE" N,.Name "ANYHOW" y] 0 L) _:=λ O b d p n r x I N y L=>[pT,[pT,bu,ak bu [Ae,fy,lA (L9 u.units) [er] (fz aB) (ck _)]],[Ae,b8 J hn rn,b8 J hA rA]]
 rw[24,rj (ng (dc (ng (dc (tC (.int 0)) (dc (tC (.int 0)) (dc (tC (.str "")) (dc (h9 (Dx K) (nc K (cv 0) "cuts") (LH gw)) gw))))) (dc (tC (.int (-1))) (dc (tC (nV 0)) gw)))),?aa,?bb];case aa=>rw[3,aN ?_,bB ?_];exact R _ _ _ _ _ _ _ _ _ _ _
 refine⟨_,J,sc,B,W,_,_,J,g,T.cl,[lD,1],[mj,1],b7 _,λ l X=>?_⟩;have Y:ah H [nF,H,l]:=[mt,X];rw[41,⟨.list (oX m.cuts),.list [],.aj [pc,Y,a] (EV [su,c,Y _ _ z]),.aj (ax.of aw) .nil,ZV _,[bE],?_⟩,ZW];generalize[nF,H,l]=H1 at Y⊢;rw[3,⟨[rF,4,J],λ q D=>⟨[rF,3,J],λ t F=>?_⟩⟩,k t _ [tX,ah.aT [cm,H1,D] (by exact ah.free [cm,H1,D] F)] ⟨q,aw,?_⟩];unfold mw;rw[ar (aX (o:=HO.tup [(V.int 0),(V.int 0),(V.str ""),V.bl (m.cuts==[])]) aw F),aw];show Z (HO.tup [(V.int 0),(V.int 0),(V.str ""),V.bl (m.cuts==[])])=Z (HO.tup [nV 0,nV 0,(V.str (eC [])),V.bl (m.cuts==[])]);rw[x_];rfl
def Ff(K:aF)(B c:ab):Sp:=λ U H Q _=>∃(p W me:ab)(m:bT),[bn,U=[[cX],.ref me],H p=[ff,B,[]],vf c H me m,m.cuts.length≤1000,m.feet.length≤1000∧∀(d3:ab)(a:Hp),[wg,d3,ie B m p d3 a,a d3=Z (.dT []),([C9,p,a b])→Q .bh a]]
theorem ZY{f d CM:ab}{fd:bq}(I:iM K "Scanner.__init__" xH d f fd [LT])(T:[Ay,d])(t:[PP,CM])(B:el mg):aA P w K mg base aG 1 f fd [LT] (Ff K d CM):=by
 have nd:=NR.nd;rw[60,I.fn.ok,NR];·obtain⟨p,W,me,m,rfl,_⟩:=h;rfl
 obtain⟨p,W,me,m,rfl,R,⟨dm,x,n,F,⟨r,hfe,hfas⟩,⟨cas,hcu,v⟩⟩,hlc,hlf,k⟩:=h;have hu:=jB hr;rw[54,[uh,[jh,1]],aK [uh,[jh,1]] (aK [uh,wO] (aK (eJ dX J (dj [As,Xg,B.sorted,PyProof.Rows.boot_sorted,[jh,1]]) [OU,2,3,oC] (aN (nk hu [er] (pv 2) (pv 3) J))) [O2,[pT,[As,gv,B.len,f6,[jh,1]],ak bu [Ae,fy,md]],uj]))];have e0:[LO,eM.zip]:=[al];rw[e0]at R;have nmp:me≠p:=cE F R (by intro z;injection z with _ _ h4;simp[mB,eM]at h4);rw[41,⟨_,J,me,CM,dm,_,_,J,F,t.cl,t.na 0 _ J,[lz,t.nd,0],dU T J J R ⟨_,J,me,CM,dm,_,_,J,((ar nmp).trans F),t.cl,t.na 1 _ J,[lz,t.nd,1],[zV,aw]⟩⟩,iW];intro j hla;have O:j≠p:=λ z=>by subst z;rw[aw]at hla;cases hla
 have hla0:H j=none:=by rw[ar O]at hla;exact hla
 refine[zV,[b8,O.symm,aw]];have M:∀(o1 o2:HO)(b:ab)(o:HO),H b=Z o→b≠p→ag (ag (ag H p o1) j (.dK [])) p o2 b=Z o:=λ o1 o2 b o e g=>by rw[ar g,ar (aX e hla0),ar g];exact e
 have M:=M (.ins d W (eM.zip [Lq])) (.ins d W (eM.zip ([Lq]++[eD,j])));have hp3:ag (ag (ag H p (.ins d W (eM.zip [Lq]))) j (.dK [])) p (.ins d W (eM.zip ([Lq]++[eD,j]))) p=[ff,d,eM.zip [Np,x,n,j]]:=aw;have G:ag (ag (ag H p (.ins d W (eM.zip [Lq]))) j (.dK [])) p (.ins d W (eM.zip ([Lq]++[eD,j]))) j=Z (.dK []):=by rw[ar O,aw]
 generalize(ag (ag (ag H p (.ins d W (eM.zip [Lq]))) j (.dK [])) p (.ins d W (eM.zip ([Lq]++[eD,j]))))=H3 at M hp3 G⊢;have L:n≠p:=[oB,hcu,R];have tupK:∀b xs,H b=Z (.tup xs)→H3 b=Z (.tup xs):=λ b xs e=>M b _ e [oB,e,R]
 refine⟨_,J,me,CM,dm,_,_,J,M _ _ F nmp,t.cl,t.na 1 _ J,[lz,t.nd,1],n,cas,m.cuts.map λ c=>[JN,c.1,c.2],J,(ax.of (M _ _ hcu L)),[ov,er v],λ i b q hb hq=>?_,λ l bs qs hl hlen1 hlen2 hbs hmem hsort=>?_⟩;·obtain⟨c,hc,hcb⟩:=d6 v hb;rw[cJ,hc]at hq;have:=[nr,hq];rw[65,bM.of (tupK _ _ hcb)]
 have s4:ah H3 (ag H3 l (.aj [Nd])):=[cm,H3,hl];have hl4:(ag H3 l (.aj [Nd])) l=Z (.aj [Nd]):=aw;have hlp:l≠p:=(aX hp3 hl).symm;have hlla:l≠j:=(aX G hl).symm;have hl0:H l=none:=by cases e:H l with|none=>rfl|some o=>rw[M l o e hlp]at hl;cases hl
 generalize ag H3 l (.aj [Nd])=H4 at s4 hl4⊢;rw[17,l,J,[nj,hl4],[m6,iZ,l,[Nd],λ i σ H'=>∃(v2 v3:[dL])(Y:[mh]),[bn,σ=[Z [cX],[bV,me],v2,v3],[uj,H4,b≠j,H' b=Z o],H' j=Z (.dK Y),[AU,i],yk Y qs i],⟨none,none,[],J,λ b o e _=>e,s4 _ _ G,ba _,ZS qs⟩,λ i σ H' _⟨_,_,_,_,k',_⟩=>(ax.of (k' _ _ hl4 hlla))]]
 ·rintro i y σ H5 hi⟨v2,v3,Y,rfl,k5,N,hkl,hup⟩;obtain⟨b,hb,rfl⟩:=lG hi;have hil:=[eJ,hb];obtain⟨q,hq⟩:∃q,qs[i]?=Z q:=[gt,bX [ac]];have hil':i≤1000:=by rw[10,er v]
  have hsq:bM K H5 b [O4,q]:=bM.keep (hbs i b q hb hq) λ o e ho=>k5 b o (s4 _ _ e) λ z=>by subst z;rw[G]at e;have e:=[dF,e];subst e;rcases ho with h|⟨u,h⟩<;>cases h
  refine⟨b,_,J,hsq,J,_,_,J,_,_,J,J,?_⟩;have hp5:=k5 _ _ (s4 _ _ hp3) O.symm;rw[3,⟨_,J,_,J,p,d,W,_,_,J,hp5,T.cl,[lD,2],[mj,2],_,J,j,_,J,jf.k (k:=bY q.1) N (eR (bf hkl hil') [bd]),?_⟩,⟨_,_,cD Y (bY q.1) (.int q.2),J,λ b' o e g=>[b8,g,k5 b' o e g],aw,?_,ZT hup hq⟩];have:=wG Y (bY q.1) (V.int q.2);omega
 ·rintro σ H5⟨v2,v3,Y,rfl,k5,N,hkl,hup⟩;rw[aC,hlen1]at hup;have D:[C9,p,H5 b]:=λ b o e g=>k5 b o (s4 _ _ (M b o e g)) (aX e hla0)
  have hp5:=k5 _ _ (s4 _ _ hp3) O.symm;have nfp:x≠p:=[oB,hfe,R];have hfe5:=D _ _ hfe nfp;refine⟨_,J,me,CM,dm,_,_,J,D _ _ F nmp,t.cl,t.na 0 _ J,[lz,t.nd,0],_,r.length,J,[Lu,hfe5,aC],[rF,4,J],λ en hen=>?_⟩;have U:ah H5 (ag H5 en [P0]):=[cm,H5,hen];have S:(ag H5 en [P0]) en=Z [P0]:=aw;generalize ag H5 en [P0]=H6 at U S⊢;refine dU (vals:=[Np,x,n,j]) T J J (U _ _ hp5) ?_;intro d3 hd3;have nenp:en≠p:=(aX hp5 hen).symm;have n3p:d3≠p:=λ z=>by subst z;rw[aw]at hd3;cases hd3
  have X:H6 d3=none:=by rw[ar n3p]at hd3;exact hd3
  refine dU (vals:=[(V.ref x),(V.ref n),(V.ref j),(V.ref en)]) T J J [b8,n3p.symm,aw] ?_;have hd30:H d3=none:=by cases e:H d3 with|none=>rfl|some o=>rw[U _ _ (D d3 o e n3p)]at X;cases X
  have C:∀(o1 o2:HO)(b:ab)(o:HO),H6 b=Z o→b≠p→ag (ag (ag H6 p o1) d3 (.dT [])) p o2 b=Z o:=λ o1 o2 b o e g=>by rw[ar g,ar (aX e X),ar g];exact e
  refine k d3 _ hd30 ⟨W,x,n,j,en,aw,⟨r,C _ _ _ _ (U _ _ hfe5) nfp,[Ak,hfas,λ b iT z=>(C _ _ _ _ (U _ _ (D _ _ z [oB,z,R])) [oB,z,R])]⟩,⟨cas,(C _ _ _ _ (U _ _ (D _ _ hcu L)) L),[Ak,v,λ b c z=>(C _ _ _ _ (U _ _ (D _ _ z [oB,z,R])) [oB,z,R])]⟩,⟨Y,C _ _ _ _ (U _ _ N) O,λ f=>ZU hup hmem hsort f⟩,?_⟩ (by rw[ar n3p,aw]) λ b o e g=>C _ _ _ _ (U _ _ (D b o e g)) g
  have e5:([P0]:HO)=.tup [nV m.feet.length,nV 0,(V.str (eC [])),V.bl true]:=by rw[x_,←er hfas];rfl
  rw[e5]at S;exact C _ _ _ _ S nenp
end
end VP
end
section
namespace VP
open PySem L2
def kK(t:[oH])(x:Vs.a8):[oH]:=if x∈t then t else t++[x]
def kM(F:aS)(R:[oH])(i:Nat):[oH]:=(R.flatMap λ L=>[A9]).foldl kK []
theorem ZZ{x y:Vs.a8}{t:[oH]}:y∈kK t x↔y∈t∨y=x:=by
 unfold kK;split
 ·rename_i h;rw[7];·exact .inl
  ·rintro(z|z);·exact z
   rw[11,z,h]
 ·simp
theorem Fg{y:Vs.a8}:∀(N t:[oH]),y∈N.foldl kK t↔y∈t∨y∈N|[],t=>[al]|x::N,t=>by rw[i7,Fg N,ZZ];simp[or_assoc]
theorem Fh{F:aS}{R:[oH]}{i:Nat}{y:Vs.a8}:y∈kM F R i↔∃L∈R,y∈[A9]:=by unfold kM;rw[Fg];simp[nX]
theorem Z0{x:Vs.a8}{t:[oH]}(h:t.Nodup):(kK t x).Nodup:=by
 unfold kK;split;·exact h
 ·rename_i n;rw[13,k0,[zO,h,λ a ha b K e=>?_]];simp at K;subst K;subst e;exact n ha
theorem Fi:∀{xs t:[oH]},t.Nodup→(xs.foldl kK t).Nodup|[],_,h=>h|x::xs,t,h=>[ar,i7,Fi (xs:=xs) (Z0 h)]
def PY(H:Hp)(d:ab)(t:[oH]):Prop:=(∃Y,H d=Z (.dT Y)∧[Nf]=t.map fD)
theorem Z1{Y:[lk]}{t:[oH]}(h:[Nf]=t.map fD)(x:Vs.a8)(v:V):(cD Y (fD x) v).map (·.1)=(kK t x).map fD:=by
 cases e:cn Y (fD x)with
  |none=>have hn:=DX e;rw[h]at hn;have A:x∉t:=(λ z=>hn [jz,x,z]);rw[wH v e,cH,h];unfold kK;rw[aD A,cH];rfl
  |some u=>
   have C:=wY e;obtain⟨p,R,B⟩:=[bp,C];have A:x∈t:=by rw[h]at C;obtain⟨y,a,n⟩:=[bp,C];rw[25,Au n,a]
   unfold cD kK;rw[aI [QQ,B],aI A,cP];rw[97,((λ x:Tr×V=>x.1)∘λ kv:Tr×V=>[Kv,fD x,v])=λ x=>x.1,by funext y;simp only[Function.comp];split<;>rfl,h]
theorem PZ{F:aS}(I:cw F){R:[oH]}{i:Nat}(O:[qP,i])(h:∀L∈R,[wo]):∀L∈kM F R i,[wo]:=λ y a=>by obtain⟨L,p,a⟩:=Fh.mp a;exact I.u_ L i y (h L p) O a
def yl(F:aS)(d:ab)(a:Hp)(se kb:ab)(most:Nat):Prop:=∃W,a se=[ff,d,gk.zip [.ref F.sc,[zl],[vg],.ref kb]]
theorem yl.mono{F:aS}{d:ab}{a b:Hp}{se kb:ab}{most:Nat}(h:yl F d a se kb most)(s:ah a b):yl F d b se kb most:=let⟨W,e⟩:=h;⟨W,s _ _ e⟩
theorem ym{F:aS}{a:[bv]}{d:ab}{H:Hp}:ah (Zh (aP (F.plus d) a) H) (Zh (aP F a) H):=λ b o e=>by have q:=[wq];exact[rs,q.1,λ w=>q.2 (nF.mpr (.inr w))]
section
variable{P:aY}{w:aU}{K:aF}{mg:[a_]}{base:aE}
def AH(F:aS)(d:ab):Sp:=λ U H Q _=>∃(b:[bv])(se kb l p:ab)(most:Nat)(R:[oH])(i:Nat),[kw,U=[Kr,se,l,p],bA F H b,yl F d (Zh (aP F b) H) se kb most,ia (Zh (aP F b) H) l R,∀L∈R,[wo],[qP,i],F.aO[i]?=Z p∧∀(a:ab)(m:Hp),ia [zn,b] a (kM F R i)→[zI,bJ F 0 H b m b,m]]
theorem Z2{F:aS}(FO:cw F)(G:[Ab]){f fT CS v:ab}{fd fdT:bq}(I:sg K mg F CS)(M:[eq,[Pl],[Pr],u5,v,f,fd,[Ia]])(T:[Dz,v])(MT:[eq,"targets",[PU],uP,CS,fT,fdT,[ws]])(GT:aA P w K mg base aG 5 fT fdT [ws] [P5,xZ]):aA P w K mg base aG 6 f fd [Ia] (AH F v):=by
 have nd:=NY.nd;rw[90,NY];·obtain⟨t,se,kb,l,p,most,R,i,rfl,_⟩:=h;rfl
 obtain⟨t,se,kb,l,p,most,R,i,rfl,S,hse,hsts,hU,hi,hpi,k⟩:=h;rw[89];rw[27,[Ea,3,uj,[Cq,pv 1,4,[Cq,[pM,[er],I.TS.cl,MT.me,GT,hr,MT.b,pv 4,ak [jh,2] aB],5,nk hu (pv 3) (pv 5) md J]],D_ (ry (MU J) (by rfl) G.B.list Ru [gv,3])]];intro d hd;have S0:=S.YU FO hd [];have nl:∀{o},Zh (aP F t) H l=Z o→l≠d:=λ e=>aX [wq].1 hd
 obtain⟨as,hl,has⟩:=hsts;have zd:∀{m:Hp},ah (Zh (aP F t) H) [zn,t]→ah (Zh (aP F t) H) (Zh (aP (F.plus d) t) m):=λ{m}z b o e=>by have q:=bV.mp (z b o e);exact[rs,q.1,λ w=>(nF.mp w).elim (aX [wq].1 hd) q.2]
 have ek:=bX hi;have esh:[y_]=(F.ks[i]).sh:=by unfold Vs.shapeAt;rw[ek]
 rw[61,l,J,[nj,[b8,nl hl,bp _ _ hl]],[m6,iZ,l,[K2],λ j c m=>∃v4 v5:[dL],[bn,c=[[bV,se],[vW],Z [cX],Z [lx],v4,v5],bA (F.plus d) m t,ah (Zh (aP F t) H) [zn,t],[KL,m],PY m d ([Te,j].foldl kK [])],⟨none,none,J,S0,jl [mt,hd],λ x g=>?_,[],aw,J⟩,λ j c m _⟨_,_,_,_,z,_⟩=>[pc,bp,z _ _ hl]]];·rw[77,x,g];rw[ar (aX q hd)]
 ·rintro j y c u hj⟨v4,v5,rfl,S1,z1,x1,hsd⟩;obtain⟨sa,hsa,rfl⟩:=lG hj;obtain⟨L,C,hat⟩:=d6 has hsa;have hstU:=hU L (bt C);have z1d:=zd z1;obtain⟨dxe,hse1⟩:=hse.mono (z1.trans bp);rw[142,S1.sc];have hsc:=bp _ _ hsc;obtain⟨p',nu,sh,D,⟨dk,hk⟩,_,hsh⟩:=S1.kinds.at_ i _ ek;have D:F.aO[i]?=Z p':=D;rw[hpi]at D;cases D;have hk:=bp _ _ hk;have hsh1:ji u sh [y_]:=[ar,esh,hsh.mono (dF bp)];have hst1:fi u sa L:=hat.mono λ b xs e=>bp _ _ (z1 _ _ e)
  have etake:[Te,j+1]=[Te,j]++[A9]:=by rw[fH,C,kW];simp
  generalize hpre:[Te,j]=pre at*;have hpreU:∀x∈pre,x∈F.U:=λ x g=>by rw[←hpre]at g;obtain⟨s',hs',g⟩:=[zg,g];exact FO.u_ s' i x (hU s' (Bq hs')) hi g
  refine⟨_,J,se,v,dxe,_,_,J,hse1,T.cl,[lD,0],[mj,0],F.sc,dsc,_,J,hsc,[fz],_,J,_,J,p,F.bN,dk,_,_,J,hk,G.eu.cl,G.eu.na 1 _ J,[lz,G.eu.nd,1],d::F.X,t,sa,sh,L,i,J,S1,hst1,hstU,hi,hsh1,λ lt H2 W N=>?_⟩;obtain⟨bs,B,U⟩:=W;have S2:bA (F.plus d) H2 t:=N.st;have B:Zh (aP (F.plus d) t) H2 lt=Z (.aj [Nd]):=B;have U:(Paired (fi (Zh (aP (F.plus d) t) H2)) bs [A9]):=U;have ndlt:lt≠d:=(λ z=>(bV.mp B).2 (nF.mpr (.inl z)));have hd2:H2 d=u d:=N.xs d cq;obtain⟨kvs1,hk1,hk1'⟩:=hsd;have z2:ah (Zh (aP F t) H) (Zh (aP F t) H2):=((z1d.trans N.z).trans ym);rw[17,lt,J,[nj,bp _ _ B],[m6,iZ,lt,[Nd],λ n c m=>∃v5:[dL],[bn,c=[[bV,se],[vW],Z [cX],Z [lx],Z [pU],v5],bA (F.plus d) m t,ah (Zh (aP (F.plus d) t) H2) (Zh (aP (F.plus d) t) m),∀x∈F.X,m x=H2 x,PY m d ((pre++([A9].take n)).foldl kK [])],⟨v5,J,S2,ah.refl _,[Cy],kvs1,hd2.trans hk1,[aB,hk1']⟩,λ n c m _⟨_,_,_,z',_⟩=>[pc,bp,z' _ _ B]]]
  ·rintro n y c H3 hn⟨v5,rfl,S3,z3,x3,kvs3,hk3,hk3'⟩;obtain⟨ta,hta,rfl⟩:=lG hn;obtain⟨tt,htt,hatt⟩:=d6 U hta;have hatt3:fi H3 ta tt:=hatt.mono λ b xs e=>bp _ _ (z3 _ _ e)
   have hlen:kvs3.length<aQ:=by
    have e1:=[B2,hk3'];rw[aC,aC]at e1;rw[e1];rw[45,Vs.jT (l:=(pre++([A9].take n)).foldl kK []) (r:=F.U) (Fi kj) λ x g=>by
     rcases(Fg _ _).mp g with z|z;·cases z
     ·rcases[gM,z]with z|z;rw[2,hpreU x z,FO.u_ L i x hstU hi (Bq z)],eR (bf this FO.Ul) [bd]]
   refine⟨_,J,_,J,d,_,J,jf.t hk3 (Av hatt3) hlen,_,J,S3.YW FO _,λ b o e=>?_,λ x g=>?_,_,aw,?_⟩;·rw[124,z3 b o e,λ w=>q.2 (nF.mpr (.inl w))]
   ·obtain⟨o,q⟩:=S.xt x g;rw[4,ar (aX q hd),x3 x g]
   ·rw[Z1 hk3',fH,htt,←gZ];simp only[qz,Option.toList,i7,Ss]
  ·rintro c H3⟨v5,rfl,S3,z3,x3,hsd3⟩;rw[aC,er U,fZ]at hsd3;refine⟨_,_,J,S3,(((zd z2).trans z3).trans ym),λ x g=>?_,?_⟩;rw[40,x3 x g,[eY,N.xs,x,cp _ g,x1 x g],etake,hsd3]
 ·rintro c u⟨v4,v5,rfl,S1,z1,x1,Y,hk1,hk2⟩;intro tok;rw[aC,er has,fZ]at hk2;rw[47,_,J,d,Y,J,.inl hk1,λ q ys hq hyl hys=>?_];have s2:ah u (ag u q (.aj ys)):=[cm,u,hq];have O:Y.length=(kM F R i).length:=by rw[96,[B2,hk2],aC,aC];rw[58]
  have one:∀(n:Nat)(L:Vs.a8),(kM F R i)[n]?=Z L→∃b,ys[n]?=[bV,b]∧fi u b L:=λ n L C=>by
   have hn:n<Y.length:=[ar,O,[eJ,C]];obtain⟨⟨kk,vv⟩,hkv⟩:∃p,Y[n]?=Z p:=[gt,bX hn];obtain⟨b,hb,hky⟩:=hys n kk vv hkv;have e:(Y.map (·.1))[n]?=Z kk:=[jl,cJ,hkv];have e2:((kM F R i).map fD)[n]?=Z kk:=by rw[←e,hk2];rfl
   rw[cJ,C]at e2;have e3:fD L=kk:=[dF,e2];subst e3;rw[1,b,hb,Zi tok hky]
  have eys:ys=(ys.map AA).map V.ref:=by
   rw[13,cP,(Jw ys).symm.trans (iD λ x g=>?_)];obtain⟨n,hn,en⟩:=gY g;have hn2:n<(kM F R i).length:=by rw[←O,←hyl];exact hn
   obtain⟨b,hb,_⟩:=one n _ (bX hn2);rw[bX hn,en]at hb;have:=[dF,hb];subst this;rfl
  have S2:=(S1.minus FO).grow FO s2;have nq:q∉aP F t:=(S1.minus FO).free hq;refine k q _ ⟨ys.map AA,[rs,[cE,eys,aw],nq],Az (by rw[aC,hyl,O]) λ n b L hb C=>?_⟩ ⟨S2,z1.trans (jl s2),[Mf],λ x g=>?_⟩;·obtain⟨b',hb',hat⟩:=one n L C;rw[cJ,hb']at hb;have:b'=b:=[dF,hb];rw[65,(hat.mono (dF s2)).mono S2.dZ]
  ·obtain⟨o,q'⟩:=S.xt x g;rw[38,x1 x g,q'];rw[s2 _ _ this,q']
end
end VP
end
section
namespace VP
open PySem L2
def eO(F:aS)(ay:[dj])(t:[ak]):[oH]:=t.foldl (λ R n=>kM F R (ay n)) [[J0]]
theorem Fj(F:aS)(ay:[dj])(t:[ak])(n:Nat):[u9,t++[n]]=kM F [u9,t] (ay n):=by unfold eO;rw[qz];rfl
theorem vg{F:aS}(I:cw F)(a:[J0]∈F.U){ay:[dj]}:∀{row:[ak]},(∀n∈row,[qP,ay n])→∀L∈[u9,row],[wo]:=λ{row}=>by
 have:∀(row:[ak])(R:[oH]),(∀n∈row,[qP,ay n])→(∀L∈R,[wo])→∀L∈row.foldl (λ R n=>kM F R (ay n)) R,[wo]:=by intro row;induction row with|nil=>intro R _ h;exact h|cons n row T=>intro R u G;exact T _ (λ m N=>u m (cp _ N)) (PZ I (u n cq) G)
 exact λ u=>this row _ u λ L p=>by simp at p;subst p;exact a
theorem Z3{F:aS}(I:cw F)(a:[J0]∈F.U){ay:[dj]}{row:[ak]}(h:∀n∈row,[qP,ay n]):[cY,[u9,row],100000]:=by
 have hn:[u9,row].Nodup:=by
  rw[30,row,[]];·subst e;show[[J0]].Nodup;simp
  ·rw[←List.dropLast_concat_getLast e,Fj];exact Fi kj
 exact bf (Vs.jT hn (vg I a h)) I.Ul
structure mC(F:aS)(d:ab)(a:Hp)(se kb:ab)(ay:[dj])(n:Nat):Prop where
 se:yl F d a se kb F.most
 kb:yd a kb F.aO ay n
 lt:∀i,i<n→[qP,ay i]
 st:[J0]∈F.U
theorem yd.mono{b c:Hp}{a:ab}{aO:[aT]}{ay:[dj]}{n:Nat}(h:yd b a aO ay n)(s:ah b c):yd c a aO ay n:=let⟨Y,g,r⟩:=h;[wG,Y,s,g,r]
theorem mC.mono{F:aS}{d:ab}{a b:Hp}{se kb:ab}{ay:[dj]}{n:Nat}(h:[MX,a])(s:ah a b):[MX,b]:=⟨h.se.mono s,h.kb.mono s,h.lt,h.st⟩
section
variable{P:aY}{w:aU}{K:aF}{mg:[a_]}{base:aE}
def AI(K:aF)(F:aS)(d:ab):Sp:=λ U H Q _=>∃(b:[bv])(se kb a:ab)(ay:[dj])(n:Nat)(t:[ak]),[kw,U=[.ref se,[bi]],bA F H b,[MX,Zh (aP F b) H],ax K H a (aJ t),t.length≤1000,[zk,t],∀(l:ab)(m:Hp),ia [zn,b] l [u9,t]→bJ F 0 H b m b→Q [io] m]
theorem Z4{F:aS}(FO:cw F)(G:[Ab]){f fS fK f1 CS p:ab}{fd fdS fdK fd1:bq}(R:j9 CS F)(I:sg K mg F CS)(M:[rf,"stands_of",[PQ],uZ,p,f,fd,"row"])(T:[Dz,p])(MS:[eq,[Pl],[Pr],u5,p,fS,fdS,[Ia]])(GS:aA P w K mg base aG 6 fS fdS [Ia] (AH F p))(MK:[rf,"kinds_in",[PV],rW,p,fK,fdK,"row"])(GK:aA P w K mg base aG 1 fK fdK [vl] (Ax K p))(M1:[eq,"first_stand",[Py],uN,CS,f1,fd1,[[ck]]])(G1:aA P w K mg base aG 1 f1 fd1 [[ck]] [Ft,Fe,CS]):aA P w K mg base aG 7 f fd [vl] (AI K F p):=by
 have nd:=NX.nd;rw[90,NX];·obtain⟨g,se,kb,a,ay,n,t,rfl,_⟩:=h;rfl
 obtain⟨g,se,kb,a,ay,n,t,rfl,S,v,hrow,hlen,u,k⟩:=h;rw[112,6];rw[27,[Es,2,fz (ak (Vt [er] I.TS.cl M1.me G1 hr1 M1.b .nil bH) aB),[Cq,[C6,MK.me,GK,hr1,MK.b,pv 1,aB],3,[ui,2,[O3,hr,pv 2,[gv,3]]]]]];have scAt:∀{d:Hp},bA F d g→ie CS F.m F.sc F.d3 (Zh (aP F g) d):=λ S'=>by rw[56,S'.sc,R.sc]
 obtain⟨dxe,hse⟩:=v.se;rw[142,S.sc];refine⟨_,J,se,p,dxe,_,_,J,bp _ _ hse,T.cl,[lD,0],[mj,0],F.sc,dsc,_,J,bp _ _ hsc,[fz],J,(scAt S).mono bp,λ C H1 s1 hst1=>[rF,1,λ l hl=>?_]⟩;have j:ah H (ag H1 l (.aj [eD,C])):=[Ac,[cm,H1,hl]];have hl2:(ag H1 l (.aj [eD,C])) l=Z (.aj [eD,C]):=aw;have N:fi (ag H1 l (.aj [eD,C])) C [J0]:=hst1.mono (dF [cm,H1,hl]);generalize ag H1 l (.aj [eD,C])=H2 at j hl2 N⊢;have S2:=S.grow FO j;have nl:l∉aP F g:=S.free (s1.free hl);obtain⟨D,L⟩:=v.se.mono (jl j);have Y:ax K H2 a (aJ t):=hrow.imp (λ r=>r.imp (j _ _) λ⟨o,e⟩=>⟨o,j _ _ e⟩) id;refine⟨_,J,se,D,_,J,bp _ _ L,[fz],_,J,se,D,F.sc,F.co,F.most,kb,a,t,F.aO,ay,n,J,bp _ _ L,Y,[pH,hlen],(v.kb.mono (jl j)).mono bp,u,λ lk hlk=>?_⟩;have s3:ah H2 (ag H2 lk (.aj [Nw])):=[cm,H2,hlk];have X:(ag H2 lk (.aj [Nw])) lk=Z (.aj [Nw]):=aw;generalize ag H2 lk (.aj [Nw])=H3 at s3 X⊢;have S3:=S2.grow FO s3;have nlk:lk∉aP F g:=S2.free hlk;have adv3:bJ F 0 H g H3 g:=bJ.grow FO 0 S (j.trans s3);have hlkZ:Zh (aP F g) H3 lk=Z (.aj [Nw]):=[rs,X,nlk];rw[17,lk,J,[nj,X],[m6,iZ,lk,[Nw],λ i σ d=>∃(b:ab)(v3:[dL]),(σ=[[bV,se],[lm],[bV,b],v3]∧bJ F 0 H g d g∧ah (Zh (aP F g) H3) (Zh (aP F g) d)∧ia (Zh (aP F g) d) b [u9,t.take i]),⟨l,none,J,adv3,ah.refl _,[C],[rs,s3 _ _ hl2,nl],[qu,(N.mono (dF s3)).mono S3.dZ]⟩,λ i σ d _⟨_,_,_,_,z,_⟩=>[pc,bp,z _ _ hlkZ]]]
 ·rintro i y σ H4 hi⟨b,v3,rfl,B,z4,hb⟩;obtain⟨x,hx,rfl⟩:∃x,t[i]?=Z x∧y=(V.ref (F.aO.getD (ay x) 0)):=by unfold eX at hi;rw[cP,cJ]at hi;cases q:t[i]? with|none=>rw[q]at hi;cases hi|some x=>rw[q]at hi;rw[22,x,[nr,hi]]
  have hxn:=u x (bt hx);have hkx:=v.lt x hxn;have S4:=B.st;have hkas:F.aO[ay x]?=Z (F.aO.getD (ay x) 0):=by have:ay x<F.aO.length:=[ar,S4.kinds.len,hkx];rw[iB,bX this];rfl
  obtain⟨O,U⟩:=v.se.mono B.z;refine⟨_,J,se,O,_,J,bp _ _ U,[fz],_,J,_,J,g,se,kb,b,_,F.most,[u9,t.take i],ay x,J,S4,⟨O,U⟩,hb,vg FO v.st (λ m hm=>v.lt m (u m (Bq hm))),hkx,hkas,λ c H5 hc W=>⟨c,_,J,B.trans W,z4.trans W.z,?_⟩⟩;rw[fH,hx];rw[39,ia _ c [u9,t.take i++[x]],Fj,hc]
 ·rintro σ H4⟨b,v3,rfl,B,z4,hb⟩;have:[cI,[Nw],t.length]:=by unfold eX;rw[aC,aC]
  rw[this,fZ]at hb;rw[22,_,k b H4 hb B]
def Fl:[bj]:=[[ck],"row","stand"]
theorem P0:bQ Fl [vl] (aZ uY):=[cj]
def Fm(K:aF)(F:aS)(d:ab):Sp:=λ U H Q _=>∃(b:[bv])(se kb a:ab)(ay:[dj])(n:Nat)(t:[ak]),[kw,U=[.ref se,[bi]],bA F H b,[MX,Zh (aP F b) H],ax K H a (aJ t),t.length≤1000,[zk,t],∀(m:Hp),bJ F 0 H b m b→Q (.bl [O0,t]) m]
theorem Z5{F:aS}(p:cw F)(G:[Ab]){f fS fE CS r:ab}{fd N fdE:bq}(I:sg K mg F CS)(M:[rf,"scans","Search.scans",uY,r,f,fd,"row"])(T:[Dz,r])(MS:[rf,"stands_of",[PQ],uZ,r,fS,N,"row"])(GS:aA P w K mg base aG 7 fS N [vl] (AI K F r))(ME:[eq,"is_end","Scanner.is_end",uO,CS,fE,fdE,[iZ]])(GE:aA P w K mg base aG 3 fE fdE [iZ] [P5,x8]):aA P w K mg base aG 8 f fd [vl] (Fm K F r):=by
 have nd:Fl.Nodup:=P0.nd;rw[90,P0];·obtain⟨g,se,kb,a,ay,n,t,rfl,_⟩:=h;rfl
 obtain⟨g,se,kb,a,ay,n,t,rfl,S,O,hrow,u,C,k⟩:=h;have hr3:cy 3 _:=[yf,3,7];rw[27,[rE,[As,zV J,G.B.any,IB,jz (own:=[("stand",2)]) J nd (dj [O3,hr,pv 1,aB]) [Ad,Fl,uY,"stand",2] (λ _ _ _ _ _=>[pL,2]) (λ _ _ _ _ _=>iv) (λ _ _ _ _ _=>[pM,u9 K 0,I.TS.cl,ME.me,GE,hr3,ME.b,pv 2,aB])]]];obtain⟨dxe,hse⟩:=O.se;refine⟨_,J,se,dxe,_,J,bp _ _ hse,[fz],_,J,g,se,kb,a,ay,n,t,J,S,O,hrow,u,C,λ l H1 hl Y=>?_⟩;obtain⟨as,U,has⟩:=hl;have S1:=Y.st;have hU:=vg p O.st (ay:=ay) (row:=t) λ m hm=>O.lt m (C m hm)
 have hlen2:=Z3 p O.st (ay:=ay) (row:=t) λ m hm=>O.lt m (C m hm)
 generalize[u9,t]=R at*;rw[17,l,J,[nj,bp _ _ U],λ D y=>[m6,pW,l,[K2],λ j c=>(bA (F.plus D) c g∧ah (Zh (aP F g) H1) (Zh (aP F g) c)∧(∀x∈F.X,c x=H1 x)∧c D=Z (.aj [yx,(R.take j).map F.en])),⟨S1.plus p y [],jl [cm,H1,y],λ x d=>?_,aw⟩,λ j c _⟨_,z,_⟩=>[pc,bp,z _ _ U]]];·obtain⟨o,q⟩:=S1.xt x d;rw[ar (aX q y)]
 ·rintro j x H2 d⟨B,L,x2,W⟩;obtain⟨sa,hsa,rfl⟩:=lG d;obtain⟨st,v,hat⟩:=d6 has hsa;obtain⟨dxe2,hse2⟩:=O.se.mono (Y.z.trans L);rw[142,B.sc];have hjl:=[eJ,v];rw[15,J,⟨_,J,se,r,dxe2,_,_,J,bp _ _ hse2,T.cl,[lD,0],[mj,0],F.sc,dsc,_,J,bp _ _ hsc,[fz],_,J,D::F.X,g,sa,st,J,B,hat.mono λ b xs e=>bp _ _ (L _ _ e),hU st (bt v),λ H3 s3=>?_⟩];have S3:=B.grow (p.plus D) s3;rw[47,_,s3 _ _ W,?_,S3.As p _,λ b o e=>?_,λ x d=>?_,?_];·rw[aC,aC,jJ];exact[zB,eR,min j R.length,100000]
  ·rw[124,jl s3 b o (L b o e),aX [wq].1 y]
  ·obtain⟨o,q⟩:=S1.xt x d;rw[ar (aX q y)];have h2:=x2 x d;rw[q]at h2;rw[s3 _ _ h2,q]
  ·rw[aw,fH,v];simp
 ·rintro H2⟨B,L,x2,W⟩;rw[aC,er has,fZ]at W;refine[d9,D,R.map F.en,ax.of W,?_];have e:(R.map F.en).any id=R.any F.en:=[hJ,List.any_map];rw[4,e,k H2 [tX,⟨B.minus p,L,[Mf],x2⟩]]
end
end VP
end
section
namespace VP
open PySem L2
def Fn:[bj]:=[[ck],"stands","row",[pW],"room",[xL],"left","target","kind"]
theorem P1:bQ Fn [L3] (aZ uX):=[cj]
def AJ(H:Hp):V→V
 |.ref p=>match H p with|Z (.ins _ _ fs)=>(fs.lookup ("size":Str)).getD .bh|_=>.bh
 |_=>.bh
theorem P2{H:Hp}{C p X sh:ab}{k:Vs.Kd}(h:u6 C H p X sh k):AJ H [cX]=nV k.size:=by obtain⟨W,h⟩:=h;rw[14,(match H p with|Z (.ins _ _ fs)=>(fs.lookup ("size":Str)).getD .bh|_=>.bh)=nV k.size,h];rfl
theorem P4(sz:Vs.bx):∀A:[ak],(A.map λ j=>[aV,sz j]).sum=[aV,Vs.cg sz A]|[]=>J|j::A=>by rw[bO,qE,P4 sz A];rw[20,_=[aV,Vs.cg sz A+sz j]]
theorem P5{sz:Vs.bx}{n:Nat}:∀{cs:[ak]},(∀k∈cs,k<n)→Vs.mW sz n (λ k=>[qU])=Vs.cg sz cs
 |[],_=>by
  have:∀n,[Kj,([]:[ak]).count k*sz k]=0:=λ n=>by induction n with|zero=>rfl|succ n T=>show(Vs.bZ n _)+_=0;rw[19,T]
  exact this n
 |c::cs,h=>by
  have T:=P5 (sz:=sz) (n:=n) (cs:=cs) λ k C=>h k (cp _ C)
  have V:=h c cq;have e:Vs.mW sz n (λ k=>(c::cs).count k)=Vs.mW sz n (λ k=>[qU])+[Kj,[um,k=c,sz,k,0]]:=by
   unfold Vs.mW;rw[←Vs.Cg];rw[43,Vs.pD λ k _=>?_,List.count k (c::cs)*sz k=List.count k cs*sz k+[um,k=c,sz,k,0]];rw[i8];by_cases q:k=c;·subst q;simp[BR]
   ·rw[aD q];rw[62,[aw,c==k],by simp;exact(λ z=>q z.symm)];simp
  have e2:∀n,c<n→[Kj,[um,k=c,sz,k,0]]=sz c:=λ n=>by
   induction n with
    |zero=>intro h;omega
    |succ n T=>
     intro h;show(Vs.bZ n _)+[um,n=c,sz,n,0]=sz c;by_cases q:n=c
     ·subst q;have z:∀m,m≤n→Vs.bZ m (λ k=>[um,k=n,sz,k,0])=0:=λ m=>by induction m with|zero=>intro _;rfl|succ m T=>intro N;show Vs.bZ m _+[um,m=n,sz,m,0]=0;rw[T [ac],aD [ac]]
      rw[z n (ba _),aI J];omega
     ·rw[aD q,T [ac]];omega
  rw[e,T,e2 n V];rfl
def P6(F:aS)(ay:[dj])(n:Nat)(t:[ak]):Prop:=t.length≤F.most∧[zk,t]∧∀j,[DW].count j≤[Aa,j]
def Fits(F:aS)(ay:[dj])(t:[ak]):Prop:=[ni,[DW]]≤256∧∃L∈[u9,t],∃cs,([K1,L,cs]∧[Dk,F.most-t.length]∧[ni,cs]≤256-[ni,[DW]]∧¬[Kk,cs,λ j=>[DW].count j])
section
variable{P:aY}{w:aU}{K:aF}{mg:[a_]}{base:aE}
def Fo(K:aF)(F:aS)(d:ab):Sp:=λ U H Q _=>∃(c:[bv])(se kb l a:ab)(ay:[dj])(n:Nat)(G:[ak])(x:Nat),[kw,U=[.ref se,[io],[bi]],bA F H c,[MX,Zh (aP F c) H],ia (Zh (aP F c) H) l [u9,G],ax K H a (aJ (G++[x])),P6 F ay n (G++[x]),∀(b:Bool)(m:Hp)(D:[bv]),bJ F 12 H c m D→(b=true↔Fits F ay (G++[x]))→Q (.bl b) m]
theorem Z6{F:aS}(FO:cw F)(G:[Ab]){f fS fK fT fC d:ab}{fd fdS fdK fdT fdC:bq}(M:[eq,"fits","Search.fits",uX,d,f,fd,[L3]])(T:[Dz,d])(cR:Cn mg "LINE_ROOM" 256)(MS:[eq,[Pl],[Pr],u5,d,fS,fdS,[Ia]])(GS:aA P w K mg base aG 6 fS fdS [Ia] (AH F d))(MK:[rf,"kinds_in",[PV],rW,d,fK,fdK,"row"])(GK:aA P w K mg base aG 1 fK fdK [vl] (Ax K d))(DT:[gh,"taken_by",xn,fT,fdT,[[pW]]])(GT:aA P w K mg base aG 2 fT fdT [[pW]] (En K F.bN))(MC:[eq,"can_complete",[QT],xA,F.bo,fC,fdC,[Kb]])(GC:aA P w K mg base aG 60 fC fdC [Kb] (EE F)):aA P w K mg base aG 61 f fd [L3] (Fo K F d):=by
 have nd:Fn.Nodup:=P1.nd;obtain⟨uR,hR,rR⟩:=cR;rw[90,P1];·obtain⟨gs,se,kb,l,a,ay,n,t,x,rfl,_⟩:=h;rfl
 obtain⟨gs,se,kb,l,a,ay,n,t,x,rfl,S,u,hst,hrow,⟨Y,hin,hcap⟩,k⟩:=h;rw[112,60];have hr2:cy 2 _:=[yf,2,60];have hr6:cy 6 _:=[yf,6,60];rw[27,[Eg,3,[C6,MK.me,GK,hr1,MK.b,pv 2,aB],4,cj ly (b8 J hR rR) [As,VZ J,G.B.sum,PyProof.Rows.boot_sum,jz (own:=[("kind",8)]) J nd (dj (pv 3)) [Ad,Fn,uX,"kind",8] (λ _ _ _ _ _=>[pL,8]) (λ _ _ _ _ _=>iv) (λ _ _ _ _ _=>u9 K 8)],aK [lA,[dU,C5,pv 4,bu],bB md] [Eg,5,[Co,GT,hr2,DT.mg,DT.fn.kp,DT.b,3],6,cj ly [er] [De,gv,G.B.len,f6,[gv,2]],[y8,[Cq,[O3,hr6,pv 1,ak (fQ ni (pv 3) (ro rp bu) (λ _ _=>J)) aB],7,[Bj,iH [pM,[er],G.cZ.cl,MC.me,GC,hr,MC.b,pv 7,ak (pv 5) [Am,pv 6,4]],md]],md]]]];obtain⟨dxe,hse⟩:=u.se;refine⟨_,J,se,dxe,_,J,bp _ _ hse,[fz],_,J,se,dxe,F.sc,F.co,F.most,kb,a,t++[x],F.aO,ay,n,J,bp _ _ hse,hrow,bf Y [pH,FO.K.most],u.kb.mono bp,hin,λ lq hlk=>?_⟩;generalize R:(t++[x]).map ay=g at*;have C:∀j∈g,[qP,j]:=λ j hj=>by rw[←R]at hj;obtain⟨i,hi,rfl⟩:=[bp,hj];exact u.lt i (hin i hi)
 have hjlen:g.length=[KR]:=by rw[←R,aC]
 have hjl12:g.length≤12:=[ar,hjlen,bf Y FO.K.most];have hsnoc:g=[DW]++[ay x]:=by rw[←R,cH];rfl
 have s1:ah H (ag H lq (.aj (eX F.aO g))):=[mt,hlk];have U:(ag H lq (.aj (eX F.aO g))) lq=Z (.aj (eX F.aO g)):=aw;generalize ag H lq (.aj (eX F.aO g))=H1 at s1 U⊢;have S1:=S.grow FO s1;have hK1:jD F.bN H1 F.ks F.aO:=S1.kinds.mono bp;have one:∀j,j<F.ks.length→∃p nu sh,(F.aO.getD j 0=p∧F.aO[j]?=Z p∧u6 F.bN H1 p nu sh (F.ks.getD j ⟨[],(0,[]),0,0,0⟩)∧[Fi,j]=(F.ks.getD j ⟨[],(0,[]),0,0,0⟩).size):=λ j hj=>by have ek:=bX hj;obtain⟨p,nu,sh,hp,hk,_,_⟩:=hK1.at_ j _ ek;have e1:F.ks.getD j ⟨[],(0,[]),0,0,0⟩=F.ks[j]:=[jl,iB,ek];rw[47,p,nu,sh,[jl,iB,hp],hp,[ar,e1,hk],?_];unfold Vs.b0;rw[ek,e1]
 refine[zH,lq,[nj,U],λ D hD=>[Dv,AJ H1,ax.of U,hD,by unfold eX;rw[4,aC,bf hjl12 [bd]],λ y H3 Q1 Q2 hy s3 q1 q2=>?_]];·obtain⟨i,hi⟩:=[Kz,hy];obtain⟨j,hj,rfl⟩:=Om hi;obtain⟨p,nu,sh,ep,_,hk,_⟩:=one j (C j (bt hj));rw[ep]at q1⊢;have q1:=q1 J;rw[P2 hk]at q1;obtain⟨dk,hk⟩:=hk;rw[0,J,aV (B:=Q2 H3) ⟨_,J,p,F.bN,dk,_,_,J,s3 _ _ hk,G.eu.cl,G.eu.na 2 _ J,[lz,G.eu.nd,2],q1⟩]
 rw[[Du]];have elist:(eX F.aO g).map (AJ H1)=[P9].map V.int:=by unfold eX;rw[118,λ j hj=>?_];obtain⟨p,nu,sh,ep,_,hk,es⟩:=one j (C j hj);show AJ H1 (V.ref (F.aO.getD j 0))=[Kl,[Fi,j]];rw[ep,P2 hk,es]
 rw[elist];have s2:ah H1 [DI,[P9].map V.int]:=[cm,H1,hD];have hD2:(ag H1 D (.aj ([P9].map V.int))) D=Z (.aj ([P9].map V.int)):=aw;generalize[DI,[P9].map V.int]=H2 at s2 hD2⊢;have S2:=S1.grow FO s2;have N:=bJ.grow FO 12 S [Ac,s2];rw[41,[d9,D,_,ax.of hD2,?_],P4];generalize c:[ni,g]=sz at*;refine[d9,256,sz,J,?_];rw[33,⟨_,J,_,_,J,J,_,J,?_⟩,[ap,256]-[ap,sz]<0];by_cases hneg:256<sz;·rw[13,[wh],aV (k false H2 gs N ⟨λ z=>(by cases z),[zr]⟩)];have:=z.1;rw[R,c]at this;omega
 ·rw[13,[ol],a_ ?_];have hlk2:=s2 _ _ U;refine⟨_,J,lq,F.ks,F.aO,g,J,(ax.of hlk2),S2.kinds.mono bp,C,?_⟩;obtain⟨L,O⟩:=u.se.mono (N.z);have hrow2:ax K H2 a (aJ (t++[x])):=hrow.imp (λ r=>r.imp (λ e=>s2 _ _ (s1 _ _ e)) λ⟨o,e⟩=>⟨o,s2 _ _ (s1 _ _ e)⟩) id;refine⟨_,J,se,d,L,_,_,J,bp _ _ O,T.cl,[lD,2],[mj,2],_,J,_,[KR],J,[wB,_,hrow2,by rw[aC]],F.most,_,J,J,?_⟩;have eleft:[aV,F.most]-[aV,[KR]]=[aV,F.most-[KR]]:=[ac];have eroom:[ap,256]-[ap,sz]=[aV,256-sz]:=[ac];have hkx:[qP,ay x]:=C _ (by rw[19,hsnoc]);obtain⟨p,nu,sh,ep,hkas,_,_⟩:=one (ay x) hkx;refine⟨_,J,se,L,_,J,bp _ _ O,[fz],_,J,_,J,_,J,lq,_,_,(V.ref p),J,J,(ax.of hlk2),?_,gs,se,kb,l,p,F.most,[u9,t],ay x,J,S2,⟨L,O⟩,hst.mono N.z,vg FO u.st (λ m hm=>u.lt m (hin m (lP _ hm))),hkx,hkas,λ lt H3 hlt adv3=>?_⟩;·show kB (eX F.aO g) (-1)=[j5,p];rw[hsnoc];unfold eX;rw[cH];rw[39,kB (_++[eD,F.aO.getD (ay x) 0]) (-1)=_,ep,Dl _ _]
  rw[←Fj]at hlt;obtain⟨as,hlt3,has⟩:=hlt;have W:bJ F 12 H gs H3 gs:=N.trans (adv3.mono [ac]);have hUrow:=vg FO u.st (ay:=ay) (row:=t++[x]) λ m hm=>u.lt m (hin m hm)
  have hT:Vs.IsT (Vs.dr F.ks) (xS F.ks g) (λ j=>g.count j):=by have:=Ol FO.K.sep g 0 (λ _=>0) (Vs.IsT.zero _) C (λ j=>[ar,Nat.zero_add,hcap j]);unfold xS;simpa using this
  have hB:Vs.iV F.ks F.most (λ j=>g.count j) (F.most-[KR]) (256-sz):=by
   rw[28,0,0,?_,?_,b7 _];·rw[Vs.Cm C,hjlen];omega
   ·rw[P5 C,c];omega
  refine⟨lt,J,[nj,bp _ _ hlt3],[m6,iZ,lt,[K2],λ i σ H'=>∃(gs':[bv])(v7:[dL]),σ=[[bV,se],[vW],[lm],[bV,lq],Z (.int ([ap,256]-[ap,sz])),Z (nV (xS F.ks g)),Z (.int ([aV,F.most]-[aV,[KR]])),v7,none]∧bJ F 12 H3 gs H' gs'∧∀st∈([u9,t++[x]].take i),¬∃cs,([K1,st,cs]∧[Dk,F.most-[KR]]∧[ni,cs]≤256-sz∧¬[Kk,cs,λ j=>g.count j]),[d9,gs,none,bJ.refl 12 adv3.st,[al]],λ i σ H' _⟨_,_,_,adv',_⟩=>[pc,bp,adv'.z _ _ hlt3]]⟩
  ·rintro i y σ H4 hi⟨gs4,v7,rfl,v,hno⟩;obtain⟨ta,hta,rfl⟩:=lG hi;obtain⟨st,X,hat⟩:=d6 has hta;have S4:=v.st;obtain⟨dxe4,hse4⟩:=u.se.mono (W.trans v).z;obtain⟨dco,hco⟩:=S4.co;rw[eleft,eroom];refine⟨_,J,se,d,dxe4,_,_,J,bp _ _ hse4,T.cl,[lD,1],[mj,1],F.co,dco,_,J,bp _ _ hco,[fz],_,J,_,J,_,J,_,J,gs4,ta,st,xS F.ks g,_,F.most-[KR],256-sz,J,S4,hat.mono (dF v.z),hUrow st (bt X),hT,hB,λ b H5 gs5 adv5 hb=>[de,?_]⟩;have advN:bJ F 12 H3 gs H5 gs5:=v.trans (adv5.mono (bf (Nat.sub_le _ _) FO.K.most));cases b with
    |true=>
     refine aV (k true H5 gs5 (W.trans advN) ⟨λ _=>⟨?_,st,bt X,?_⟩,λ _=>J⟩);·rw[R,c];omega
     ·rw[12,R,c,hb.mp J]
    |false=>refine a_ [d9,gs5,_,advN,λ st' I=>?_];rw[fH,X]at I;rw[92,[gM,I],hno st' q];·have:st'=st:=[aB,q];rw[65,λ z=>by cases hb.mpr z]
  ·rintro σ H4⟨gs4,v7,rfl,v,hno⟩;rw[aC,er has,fZ]at hno;refine k false H4 gs4 (W.trans v) ⟨λ z=>(by cases z),[zr]⟩;obtain⟨_,st,I,hc⟩:=z;rw[R,c]at hc;rw[8,hc,hno st I]
end
end VP
end
section
namespace VP
open PySem L2
theorem Z7(x:Nat)(t:[ak]):(! i2 (nV x) (aJ t))=[wK,x∈t]:=by
 congr 1;unfold i2;induction t with
  |nil=>rfl
  |cons a t T=>
   have e:(aJ (a::t)).any (λ y=>kD y (nV x))=(kD (nV a) (nV x)||(aJ t).any λ y=>kD y (nV x)):=J;rw[e,T,dH];have e2:kD (nV a) (nV x)=([ap,a]==[ap,x]):=J;rw[e2];simp only[n9,mS,dw,lU];rw[7];·rintro(h|h);rw[48,[ac],h]
   ·rintro(h|h);rw[48,[ac],h]
theorem Z8(t:[ak]):(aJ t).all oJ=true:=by rw[BA];intro x A;obtain⟨n,_,rfl⟩:=[bp,A];rfl
structure AK(F:aS)(ay:[dj])(n:Nat):Prop where
 bC:∀r:[ak],(r.Nodup→([zk,r])→r.length≤F.most→∀j,(r.map ay).count j≤[Aa,j])
 Fp:n≤64
def AL(a:Hp)(kb:ab)(n:Nat):Prop:=∃Y,a kb=Z (.dK Y)∧Y.length=n
section
variable{P:aY}{w:aU}{K:aF}{mg:[a_]}{base:aE}
def yn(F:aS)(ay:[dj])(t:[ak])(c O:Nat):Prop:=∀m,(c≤m→m<O→m∉t→¬Fits F ay (t++[m]))
def Fq(F:aS)(d:ab):Sp:=λ U H Q _=>∃(b:[bv])(se kb a:ab)(ay:[dj])(n:Nat)(t:[ak])(j:Nat),[bn,U=[.ref se,[bi],nV j],bA F H b,[MX,Zh (aP F b) H],AL (Zh (aP F b) H) kb n,[bn,AK F ay n,H a=Z (.aj (aJ t)),a∈F.X,t.Nodup,[bn,[zk,t],t.length≤F.most,j≤1000000,∀(m:Hp)(D:[bv]),bJ F 12 H b m D→(t.length=F.most∨yn F ay t j n)→Q .bh m,∀(x:Nat)(m:Hp)(D:[bv]),[b9,bJ F 12 H b m D,t.length<F.most,j≤x,x<n,x∉t→Fits F ay (t++[x])→yn F ay t j x→Q (nV x) m]]]]
theorem Z9{F:aS}(FO:cw F)(G:[Ab]){f fS fF u:ab}{fd y fdF:bq}(M:[eq,"first_that_fits",[Q3],xN,u,f,fd,[Lp]])(T:[Dz,u])(MS:[rf,"stands_of",[PQ],uZ,u,fS,y,"row"])(GS:aA P w K mg base aG 7 fS y [vl] (AI K F u))(MF:[eq,"fits","Search.fits",uX,u,fF,fdF,[L3]])(GF:aA P w K mg base aG 61 fF fdF [L3] (Fo K F u)):aA P w K mg base aG 62 f fd [Lp] (Fq F u):=by
 have nd:=NW.nd;rw[90,NW];·obtain⟨j,se,kb,a,ay,n,t,L,rfl,_⟩:=h;rfl
 obtain⟨j,se,kb,a,ay,n,t,L,rfl,S,B,hkl,hko,ha,haX,hnd,v,hlm,hlst,kN,kX⟩:=h;have hr7:cy 7 _:=[yf,7,61];rw[54,[lA,[dU,e_,[De,gv,G.B.len,f6,[gv,1]],[er]],bB pL],[Ea,3,[O3,hr7,pv 1,aB],[Ng,Ln (by rfl) G.B.range [Cr,2,[As,WH,G.B.len,f6,[er]]],4,[Bj,PW.pt (lu (cm L0 (pv 4) (pv 1) J) (oB (iH [C6,MF.me,GF,hr,MF.b,pv 3,ak (cj wC (pv 1) (fz [gv,4])) aB]))),pv 4]],pL]];obtain⟨dxe,hse⟩:=B.se;rw[33,⟨_,J,_,t.length,J,[Lu,ha,aC],_,J,se,u,dxe,_,_,J,bp _ _ hse,T.cl,[lD,2],[mj,2],J,_,J,?_⟩,[zf,t.length]=[zf,F.most]];rw[j5];by_cases Y:t.length=F.most;rw[11,bK Y,aV (kN H j (bJ.refl 12 S) (.inl Y))];rw[bW Y];have hlt:t.length<F.most:=[ac];have h12:=FO.K.most;refine a_ ⟨_,J,se,dxe,_,J,bp _ _ hse,[fz],_,J,j,se,kb,a,ay,n,t,J,S,B,(ax.of ha),[ac],v,λ l H1 hl R=>?_⟩;have R:=R.mono (l':=12) [ac];have hX:∀{d:Hp}{D:[bv]},bJ F 12 H j d D→d a=Z (.aj (aJ t)):=λ adv=>[eY,adv.xs,a,haX,ha]
 obtain⟨dxe1,hse1⟩:=B.se.mono R.z;obtain⟨kvs,hkb,hkn⟩:=hkl;rw[41,⟨_,J,_,J,se,u,dxe1,_,_,J,bp _ _ hse1,T.cl,[lD,3],[mj,3],kb,kvs,J,bp _ _ (R.z _ _ hkb),?_⟩,hkn];have hn64:=hko.Fp;refine[d9,_,_,⟨[ac],[ac],[ac],[ac]⟩,Lp (λ i σ d=>∃(D:[bv])(v4:[dL]),(σ=[[bV,se],[lm],Z (nV L),[vW],v4]∧bJ F 12 H j d D∧ia (Zh (aP F D) d) l [u9,t]∧yn F ay t L (L+i))) ⟨j,none,J,R,hl,λ m g r=>[ac]⟩ ?_ ?_]
 ·rintro i σ o hi⟨I,v4,rfl,N,C,W⟩;have hx:L+i<n:=[ac];have ex:(V.int ([ap,L]+[lG]))=nV (L+i):=by show(V.int _)=(V.int _);congr 1
  rw[14,iX 4 (V.int ([ap,L]+[lG])) _ _ _,ex];generalize hxx:L+i=x at*;have ha2:=hX N;have S2:=N.st;rw[79,⟨_,J,_,J,a,_,J,.inl (ax.of ha2),J,Z8 t,_,J,?_⟩,! i2 (nV x) (aJ t)];rw[Z7];have nxt:∀(d:Hp)(D:[bv]),(bJ F 12 H j d D→ia (Zh (aP F D) d) l [u9,t]→(x∉t→¬Fits F ay (t++[x]))→∃(D:[bv])(v4:[dL]),([[j5,se],[j5,a],Z (nV L),[j5,l],Z (nV x)]=[[j5,se],[j5,a],Z (nV L),[j5,l],v4]∧bJ F 12 H j d D∧ia (Zh (aP F D) d) l [u9,t]∧yn F ay t L (L+(i+1)))):=λ d D q1 q2 q3=>⟨D,_,J,q1,q2,λ m g r k=>by
   by_cases w:m=x;·subst w;exact q3 k
   ·exact W m g [ac] k⟩
  by_cases hm:x∈t;rw[11,bK hm,a_ (a_ (nxt o I N C (λ z=>[e9,hm,z])))]
  ·rw[bW hm];obtain⟨dxe2,hse2⟩:=B.se.mono N.z;refine aV ⟨_,J,se,dxe2,_,J,bp _ _ hse2,[fz],_,J,_,J,_,J,by rw[80,1],λ b hb=>?_⟩;have s3:ah o (ag o b (.aj [nV x])):=[cm,o,hb];have hb3:(ag o b (.aj [nV x])) b=Z (.aj [nV x]):=aw;generalize ag o b (.aj [nV x])=H3 at s3 hb3⊢;refine⟨a,b,_,_,J,J,s3 _ _ ha2,hb3,[pH,show[fy,aJ,t]+[nV x].length≤1000 by rw[aC];rw[20,t.length+1≤1000]],λ c hc=>?_⟩;have s4:ah o (ag H3 c (.aj (aJ t++[nV x]))):=s3.trans [cm,H3,hc];have hc4:(ag H3 c (.aj (aJ t++[nV x]))) c=Z (.aj (aJ (t++[x]))):=by rw[aw];show Z (HO.aj (aJ t++aJ [x]))=_;rw[←cH]
   generalize ag H3 c (.aj (aJ t++[nV x]))=H4 at s4 hc4⊢;have O:=N.trans (bJ.grow FO 12 S2 s4);have hri:P6 F ay n (t++[x]):=by
    have g:[cY,t++[x],F.most]:=by rw[18]
    have r:[zk,t++[x]]:=λ i hi=>by rw[92,[gM,hi],v i q];·simp at q;omega
    have k:(t++[x]).Nodup:=by rw[13,k0,[zO,hnd,λ p hp q hq e=>?_]];simp at hq;subst hq;subst e;exact hm hp
    rw[1,g,r,hko.bC _ k r g]
   refine⟨I,se,kb,l,c,ay,n,t,x,J,O.st,B.mono O.z,C.mono (jl s4),(ax.of hc4),hri,λ b H5 gs5 U hb=>[de,?_]⟩;have X:=O.trans U;cases b with|true=>exact aV [de,kX x H5 gs5 X hlt [ac] hx hm (hb.mp J) W]|false=>exact a_ (nxt H5 gs5 X (C.mono ((jl s4).trans U.z)) λ _ z=>by cases hb.mpr z)
 ·rintro σ o⟨I,v4,rfl,N,C,W⟩;refine kN o I N (.inr λ m g r k=>W m g [ac] k)
end
end VP
end
section
namespace VP
open PySem L2
open Kgz2(Row isRow before)
def nI(F:aS)(ay:[dj])(r:Row):Prop:=[ni,r.map ay]≤256∧[O0,r]=true
theorem Fs(sz:Vs.bx):∀a b:[ak],Vs.cg sz (a++b)=Vs.cg sz a+Vs.cg sz b|[],b=>[bB,Vs.cg]|x::a,b=>by show Vs.cg sz (a++b)+sz x=Vs.cg sz a+sz x+_;rw[31,Fs sz a b]
theorem Ft{F:aS}(I:cw F){ay:[dj]}:∀(x:[ak])(R:[oH]),(∀i∈x,[qP,ay i])→(∀L∈R,[wo])→((x.foldl (λ R n=>kM F R (ay n)) R).any F.en=true↔∃L∈R,Vs.pE F.m L ((x.map ay).map (Vs.shapeAt F.ks)))
 |[],R,_,V=>by
  rw[Ss,yD];rw[7];·rintro⟨L,g,r⟩;rw[1,L,g,(I.en L (V L g)).mp r]
  ·rintro⟨L,g,r⟩;rw[1,L,g,(I.en L (V L g)).mpr r]
 |n::x,R,C,V=>by
  have hn:=C n cq;rw[i7,Ft I x (kM F R (ay n)) (λ i O=>C i (cp _ O)) (PZ I hn V)];rw[7];·rintro⟨L,g,r⟩;obtain⟨z,P,w⟩:=Fh.mp g;rw[9,z,P,L,(I.tg z _ L (V z P) hn).mp w,r]
  ·rintro⟨z,P,L,w,r⟩;rw[1,L,Fh.mpr [Ck,z,P,I.tg z _ L (V z P) hn,w],r]
def AM(F:aS)(ay:[dj])(n:Nat):Prop:=∀j,[Aa,j]≤[wv,n,ay].count j
theorem pick{ay:[dj]}{n j:Nat}{r:[ak]}(h:(r.map ay).count j<[wv,n,ay].count j)(y:r.Nodup):∃i,i<n∧ay i=j∧i∉r:=by
 by_cases q:∃i,i<n∧ay i=j∧i∉r;·exact q
 ·exfalso;have g:[cY,[ul,n].filter λ i=>ay i==j,[fy,r.filter,λ i=>ay i==j]]:=by
   refine Vs.jT (List.Nodup.sublist Bs List.nodup_range) λ i O=>?_
   rw[yH,So]at O;rw[yH];refine[ut,?_,O];by_cases w:i∈r;rw[2,w,[e9,⟨i,O.1,[aB,O.2],w⟩,q]]
  have e:∀l:[ak],(l.map ay).count j=[fy,l.filter,λ i=>ay i==j]:=λ l=>by rw[List.count_eq_countP,List.countP_map,List.countP_eq_length_filter];rfl
  rw[e,e]at h;omega
theorem real{F:aS}{ay:[dj]}{n:Nat}(N:AM F ay n):∀(cs r:[ak]),(r.Nodup→([zk,r])→(∀k,k∈cs→[qU]+(r.map ay).count k≤[Aa,k])→∃x:[ak],x.map ay=cs∧(r++x).Nodup∧[zk,r++x])
 |[],r,g,a,_=>⟨[],J,by rw[75],[aB,a]⟩
 |c::cs,r,g,a,P=>by
  have V:=P c cq;rw[RQ]at V;obtain⟨i,O,m,h⟩:=pick (ay:=ay) (n:=n) (j:=c) (r:=r) (by rw[10,N c]) g;have nd:(r++[i]).Nodup:=by rw[13,k0,[zO,g,λ p R q D e=>?_]];simp at D;subst D;subst e;exact h R
  have s:∀j∈r++[i],j<n:=λ j U=>by rw[92,[gM,U],a j q];·simp at q;omega
  obtain⟨x,e1,e2,B⟩:=real N cs (r++[i]) nd s λ k C=>by
   have:=P k (cp _ C);rw[cH,List.count_append];rw[i8]at this;rw[14,[qU]+(List.count k (r.map ay)+List.count k [ay i])≤_,m];have e:[CF,List.count k [c],c==k,1,0]:=by rw[19,i8]
   rw[31,e]
  rw[17,i::x,by rw[bO,e1,m],?_,?_];·rw[gZ]at e2;exact e2
  ·rw[gZ]at B;exact B
theorem Z_{F:aS}(I:cw F){ay:[dj]}{n:Nat}(a:[J0]∈F.U)(s:∀i,i<n→[qP,ay i])(U:AK F ay n)(N:AM F ay n){t:Row}(l:t≠[])(y:t.Nodup)(c:[zk,t])(K:t.length≤F.most):Fits F ay t↔Vs.tV n F.most (nI F ay) t:=by
 have d:∀{x:[ak]},([zk,x])→∀i∈x,[qP,ay i]:=λ h i O=>s i (h i O)
 have V:=vg I a (ay:=ay) (row:=t) (d c);have f:∀x:[ak],([zk,x])→([O0,t++x]=true↔∃L∈[u9,t],Vs.pE F.m L ((x.map ay).map (Vs.shapeAt F.ks))):=λ x A=>by have:=Ft I (ay:=ay) x [u9,t] (d A) V;rw[←this];unfold eO;rw[qz]
 rw[7]
 ·rintro⟨g,L,r,cs,⟨P,w⟩,m,H,R⟩;obtain⟨x,e1,e2,B⟩:=real N cs t y c λ k C=>by cases q:[ly,[qU]+[DW].count k,[Aa,k]]with|true=>exact lR q|false=>have q:=of_decide_eq_false q;rw[8,⟨k,C,by rw[20,[Aa,k]<[qU]+[DW].count k]⟩,R]
  have o:x.length=cs.length:=by rw[←e1,aC]
  rw[17,x,Vs.jS.mpr ⟨?_,?_,B,e2⟩,?_,(f x λ i O=>B i (iQ _ O)).mpr ⟨L,r,?_⟩];·rw[dh];rw[10,[CB,l]]
  ·rw[31,dh]
  ·rw[cH,Fs,e1];omega
  rw[11,e1,w]
 ·rintro⟨x,j,b,z⟩;obtain⟨_,T,e,S⟩:=Vs.jS.mp j;rw[cH,Fs]at b;have A:[zk,x]:=λ i O=>e i (iQ _ O)
  obtain⟨L,r,w⟩:=(f x A).mp z;rw[dh]at T;refine⟨[ac],L,r,x.map ay,⟨[zj],w⟩,[gL,aC],[ac],λ⟨k,C,W⟩=>?_⟩;·obtain⟨i,O,rfl⟩:=[bp,C];exact s i (A i O)
  ·rw[96,U.bC (t++x) S e [ar,dh,T] k,cH,List.count_append];have W:[Aa,k]<(x.map ay).count k+[DW].count k:=W;omega
theorem aaa(r:[ak]):(aJ r).dropLast=aJ r.dropLast:=by rw[←Bx]
section
variable{P:aY}{w:aU}{K:aF}{mg:[a_]}{base:aE}
theorem aA.Fu{b:Type}{k:Nat}{f:ab}{v:bq}{V:[bj]}{sp:b→Sp}(h:∀i,aA P w K mg base aG k f v V (sp i)):aA P w K mg base aG k f v V (λ U H Q E=>∃i,sp i U H Q E):=⟨λ U H Q E⟨i,q⟩=>(h i).len U H Q E q,λ A outer s H args W U Q E u R a y⟨i,q⟩=>(h i).run A outer s H args W U Q E u R a y q⟩
def AN(K:aF)(F:aS)(d:ab):Sp:=λ U H Q _=>∃(a:[bv])(se kb P:ab)(ay:[dj])(n:Nat)(c:Row),[bn,U=[.ref se,.ref P],bA F H a,[MX,Zh (aP F a) H],AL (Zh (aP F a) H) kb n,[kw,AK F ay n,AM F ay n,ax K H P (aJ c),c.Nodup,[zk,c],c.length≤F.most,(∀(l:ab)(m:Hp)(D:[bv]),bJ F 12 H a m D→[wg,l,m l=Z (.aj []),∀q,¬([Nr,n,q]∧nI F ay q∧Vs.h8 c 0 q),Q [io] m])∧∀(l:ab)(r:Row)(m:Hp)(D:[bv]),bJ F 12 H a m D→[wg,l,m l=Z (.aj (aJ r)),[Nr,n,r]∧nI F ay r∧Vs.h8 c 0 r,(∀q,([Nr,n,q]∧nI F ay q∧Vs.h8 c 0 q)→[aw,before q r])→Q [io] m]]]
theorem aab{F:aS}(FO:cw F)(G:[Ab]){f fF fS l:ab}{fd fdF fdS:bq}(M:[rf,[Pi],[Pm],uW,l,f,fd,"after"])(T:[Dz,l])(MF:[eq,"first_that_fits",[Q3],xN,l,fF,fdF,[Lp]])(GF:aA P w K mg base aG 62 fF fdF [Lp] (λ vs H Q E=>∃X,Fq [oM] l vs H Q E))(MS:[rf,"scans","Search.scans",uY,l,fS,fdS,"row"])(GS:aA P w K mg base aG 8 fS fdS [vl] (λ vs H Q E=>∃X,Fm K [oM] l vs H Q E)):aA P w K mg base aG 63 f fd [Ni] (AN K F l):=by
 have nd:=NV.nd;rw[90,NV];·obtain⟨g,se,kb,af,ay,n,u,rfl,_⟩:=h;rfl
 obtain⟨g,se,kb,af,ay,n,u,rfl,S,B,hkl,hko,hmany,haf,hnd,hin,hlm,kN,kX⟩:=h;have hr8:cy 8 _:=[yf,8,62];rw[46,[Eg,2,ry VL (by rfl) G.B.list Ru [gv,1],3,bu,aN (t9 dX (iH md) (aK [ui,4,[C6,MF.me,GF,hr,MF.b,pv 2,[gv,3]]] (aN (cI [dU,U7,pv 4,pL] (aK (j0 [Qm,pv 2,4]) (aK [Bj,iH [O3,hr8,pv 2,aB],pv 2] (aN [ui,3,bu]))) (aN (cI (C8 (pv 2) (λ _=>J)) (aN [ui,3,[zZ,VN nN PySem.F.slot_list_pop PySem.F.type_list_pop VT (pv 2)]]) [rE,pv 2]))))))],⟨_,J,af,_,J,.inl haf,[K4]⟩];have S0:=S.plus FO ha (aJ u);have z0:ah (Zh (aP F g) H) (Zh (aP F g) (ag H a (.aj (aJ u)))):=jl [mt,ha];have a0:(ag H a (.aj (aJ u))) a=Z (.aj (aJ u)):=aw;have x0:[KL,ag H a (.aj (aJ u))]:=λ x d=>by rw[77,x,d];rw[ar (aX q ha)]
 generalize ag H a (.aj (aJ u))=H0 at S0 z0 a0 x0;have FOa:=FO.plus a;have zpl:∀{c:Hp}{D:[bv]},bA (F.plus a) c D→ah (Zh (aP F g) H) (Zh (aP F D) c)→ah (Zh (aP F g) H) (Zh (aP (F.plus a) D) c):=λ{c D}S' z b o e=>by have q:=bV.mp (z b o e);exact[rs,q.1,λ w=>(nF.mp w).elim (aX [wq].1 ha) q.2]
 let iq:Row→Prop:=λ q=>[Nr,n,q]∧nI F ay q∧Vs.h8 u 0 q
 let W:[Cp]:=λ m σ c=>∃(D:[bv])(t:Row)(I:Nat)(v4:[dL]),[bn,σ=[[bV,se],[bV,af],[lm],Z (nV I),v4],m=Vs.steps n F.most t I,I≤64,bA (F.plus a) c D,[bn,ah (Zh (aP F g) H) (Zh (aP F D) c),[Tk,D],[KL,c],c a=Z (.aj (aJ t)),Vs.Walk n F.most (nI F ay) iq t I]]
 rw[29,W,⟨_,g,u,0,none,J,J,b7 _,S0,z0,[Mf],x0,a0,hin,hnd,hlm,λ q=>vP⟩];rintro m σ H1⟨gs1,t,I,v4,rfl,rfl,hl64,S1,z1,ext1,x1,a1,O⟩;refine[de,aV ⟨λ σ' c=>∃m',m'<Vs.steps n F.most t I∧W m' σ' c,λ σ' c h=>h,?_⟩];have Y:=zpl S1 z1;obtain⟨dxe,hse⟩:=B.se.mono [tX,bp];have sr1:mC (F.plus a) l (Zh (aP (F.plus a) gs1) H1) se kb ay n:=⟨B.se.mono Y,B.kb.mono Y,B.lt,B.st⟩;have kl1:AL (Zh (aP (F.plus a) gs1) H1) kb n:=let⟨kvs,q1,q2⟩:=hkl;[wG,kvs,Y,q1,q2]
 have hn64:=hko.Fp;have U:∀{hi:Nat},(t.length<F.most→hi≤n→yn F ay t I hi→∀m,I≤m→m<hi→¬Vs.tV n F.most (nI F ay) (t++[m])):=λ{hi}r hhn v m h1 h2 hc=>by
  by_cases w:m∈t;·obtain⟨x,d,_⟩:=hc;rw[96,(Vs.jS.mp d).2.2.2,gZ,k0];exact this.2.2 m w m [al] J
  ·refine v m h1 h2 w ((Z_ FO B.st B.lt hko hmany [al] ?_ ?_ ?_).mpr hc);·rw[13,k0,[zO,O.once,λ p hp q hq e=>?_]];simp at hq;subst hq;subst e;exact w hp
   ·intro i hi;rw[92,[gM,hi],O.nums i q];·simp at q;omega
   ·rw[18]
 refine⟨_,J,se,dxe,_,J,hse,[fz],_,J,_,J,a::F.X,gs1,se,kb,a,ay,n,t,I,J,S1,sr1,kl1,⟨hko.bC,hko.Fp⟩,a1,cq,O.once,O.nums,O.short,[ac],λ j C N v=>?_,λ x j C N r hle hxn hxr hfit v=>?_⟩
 ·have S2:bA (F.plus a) j C:=N.st;have a2:j a=Z (.aj (aJ t)):=[eY,N.xs,a,cq,a1];have z2:ah (Zh (aP F g) H) (Zh (aP F C) j):=([tX,N.z].trans ym);have R:[Tk,C]:=λ i e h=>by obtain⟨e1,q1,q2,q3,q4⟩:=ext1 i e h;obtain⟨e2,p1,p2,p3,p4⟩:=N.ext i e1 q1;rw[9,e2,p1,p2.trans q2,p3.trans q3,q4.trans p4]
  have x2:[KL,j]:=λ x d=>[eY,N.xs,x,cp _ d,x1 x d]
  rw[3,[wY,a_ ?_],⟨_,J,_,.inl [p_,ax.of a2],?_⟩];by_cases hre:t=[]
  ·subst hre;refine[Al,kN a j C ⟨S2.minus FO,z2,R,x2⟩ ha a2 (O.over λ m h1 h2=>?_)];rcases v with q|q;·intro hc;obtain⟨x,d,_⟩:=hc;have:=(Vs.jS.mp d).2.1;have q:0=F.most:=q;rw[82];omega
   ·by_cases h0:0<F.most;·exact U (hi:=n) h0 (ba _) q m h1 h2
    ·intro hc;obtain⟨x,d,_⟩:=hc;rw[84,(Vs.jS.mp d).2.1]
  ·obtain⟨r0,y,rfl⟩:=Vs.qU hre;have hlen:[cI,aJ (r0++[y]),r0.length+1]:=[al];have hget:(aJ (r0++[y]))[[fy,aJ,r0++[y]]-1]?=Z (nV y):=by rw[hlen,cJ];simp
   have hdrop:(aJ (r0++[y])).dropLast=aJ r0:=by rw[19,aaa]
   have hne:(!(aJ (r0++[y])).isEmpty)=true:=[al];rw[hne];have hyn:=O.nums y [al];refine aV ⟨_,J,[Ed,a2],a,_,nV y,J,J,a2,hget,_,_,J,J,?_⟩;rw[13,hdrop,⟨_,Vs.T3 (x:=y) (n:=I),C,r0,y+1,Z .bh,J,J,[ac],S2.As FO _,?_,R,?_,aw,O.popped ?_⟩];·intro b o e;rw[124,z2 b o e,aX [wq].1 ha]
   ·intro x d;obtain⟨o,q⟩:=S.xt x d;rw[4,ar (aX q ha),x2 x d]
   ·rcases v with q|q;·rw[21,q]
    ·by_cases hf:[cI,r0++[y],F.most];·rw[21,hf]
     ·rw[45,O.short,.inr (U (hi:=n) [ac] (ba _) q)]
 ·have S2:bA (F.plus a) j C:=N.st;have a2:j a=Z (.aj (aJ t)):=[eY,N.xs,a,cq,a1];have z2:ah (Zh (aP F g) H) (Zh (aP F C) j):=([tX,N.z].trans ym);have R:[Tk,C]:=λ i e h=>by obtain⟨e1,q1,q2,q3,q4⟩:=ext1 i e h;obtain⟨e2,p1,p2,p3,p4⟩:=N.ext i e1 q1;rw[9,e2,p1,p2.trans q2,p3.trans q3,q4.trans p4]
  have x2:[KL,j]:=λ x d=>[eY,N.xs,x,cp _ d,x1 x d]
  have h12:=FO.K.most;have r:t.length<F.most:=r;rw[61,J,_,J,aV ⟨_,J,[Ed,a2],_,J,a,_,_,J,J,a2,(eR (show[cY,aJ t,12]by rw[31,aC]) [bd]),?_⟩];have e3:aJ t++[nV x]=aJ (t++[x]):=by show aJ t++aJ [x]=_;rw[←cH]
  rw[e3];have S3:=S2.As FO (aJ (t++[x]));have a3:(ag j a (.aj (aJ (t++[x])))) a=Z (.aj (aJ (t++[x]))):=aw;have z3:ah (Zh (aP F g) H) (Zh (aP F C) (ag j a (.aj (aJ (t++[x]))))):=λ b o e=>by rw[124,z2 b o e,aX [wq].1 ha]
  have x3:∀y∈F.X,(ag j a (.aj (aJ (t++[x])))) y=H y:=λ y hy=>by obtain⟨o,q⟩:=S.xt y hy;rw[4,ar (aX q ha),x2 y hy]
  generalize ag j a (.aj (aJ (t++[x])))=H3 at S3 a3 z3 x3;have z3p:=zpl S3 z3;obtain⟨dxe3,hse3⟩:=B.se.mono (z3p.trans bp);have sr3:mC (F.plus a) l (Zh (aP (F.plus a) C) H3) se kb ay n:=⟨B.se.mono z3p,B.kb.mono z3p,B.lt,B.st⟩;have hin3:[zk,t++[x]]:=λ i hi=>by rw[92,[gM,hi],O.nums i q];·simp at q;omega
  refine⟨_,J,se,dxe3,_,J,hse3,[fz],_,J,a::F.X,C,se,kb,a,ay,n,t++[x],J,S3,sr3,(ax.of a3),by rw[18],hin3,λ H4 L=>[de,?_]⟩;have S4:bA (F.plus a) H4 C:=L.st;have a4:H4 a=Z (.aj (aJ (t++[x]))):=[eY,L.xs,a,cq,a3];have z4:ah (Zh (aP F g) H) (Zh (aP F C) H4):=((z3p.trans L.z).trans ym);have x4:∀y∈F.X,H4 y=H y:=λ y hy=>[eY,L.xs,y,cp _ hy,x3 y hy]
  have hno':=U (hi:=x) r (oa hxn) v;have hfit:Fits F ay (t++[x]):=hfit;show[wO,[O0,t++[x]]];cases hb:[O0,t++[x]]with|true=>have hf:=O.found hle r hxn hxr hno' ⟨hfit.1,hb⟩;exact aV [de,kX a (t++[x]) H4 C ⟨S4.minus FO,z4,R,x4⟩ ha a4 hf.1 hf.2]|false=>exact a_ ⟨_,Vs.TZ hle hxn r,C,t++[x],0,Z (nV x),J,J,b7 _,S4,z4,R,x4,a4,O.T4 hle r hxn hxr hno' λ z=>by rw[z.2]at hb;cases hb⟩
end
end VP
end
section
namespace VP
open PySem L2
def j_(mg:[a_])(base:aE)(x:Str)(C:ab):Prop:=PyProof.Rows.OwnCls x C [[PZ],[PH],[M9]] "Exception.__new__" mg base
def Fv:[bj]:=["after","most","stock_count",[lf]]
theorem P7:bQ Fv [Ks] (aZ uU):=[cj]
theorem aac(l:[ak]):(l.map (λ n:Nat=>[cQ])).Nodup↔l.Nodup:=by
 induction l with
  |nil=>simp
  |cons a l T=>
   rw[bO,BF,BF,T];refine and_congr_left λ _=>not_congr ?_
   rw[7];·intro h;obtain⟨b,K,e⟩:=[bp,h];have:b=a:=[ac];rw[25,this,K]
   ·intro h;exact[jz,a,h]
theorem P8(l:[ak]):aJ l=(l.map (λ n:Nat=>[cQ])).map V.int:=[hJ,cP]
section
variable{P:aY}{w:aU}{K:aF}{mg:[a_]}{base:aE}
def ql(c:[ak])(most n:Nat):Prop:=c.length≤most∧c.Nodup∧[zk,c]
def Fw(K:aF)(j:ab):Sp:=λ U H Q E=>∃(a:ab)(c:[ak])(most n:Nat),[Ec,U=[[bi],[vg],nV n],a,aJ c,c.length≤aQ,most≤1000,[Qt,ql c most n,[Mi,Q .bh m],E (.ref j) none m]]
theorem aad{f I:ab}{k:bq}(D:[ln,"check_after",uU,k,[Ks]])(B:el mg)(F:j_ mg base "AfterRefused" I):aA P w K mg base [jp] 1 f k [Ks] (Fw K I):=by
 have nd:Fv.Nodup:=P7.nd;refine D.fn.p0 P7 [L9] (λ cdv A outer s H vs Q E hr h G hP=>?_);·obtain⟨a,y,most,n,rfl,_⟩:=h;rfl
 obtain⟨a,y,most,n,rfl,ha,t,hm,kY,kN⟩:=h;rw[54,[lA,[KS,[dU,zL,[yw,0],pv 1],[dU,rq,[As,Xj,B.len,f6,ry (Xi J) (by rfl) B.set PyProof.Rows.boot_set [gv,0]],[yw,0]]],[Fh,F,G]],aN [lA,iH [As,zV J,B.any,IB,jz (own:=[([lf],3)]) J nd (dj (pv 0)) [Ad,Fv,uU,[lf],3] (λ _ _ _ _ _=>[pL,3]) (λ _ _ _ _ _=>iv) (λ _ _ _ _ _=>lA zM (pv 3) (pv 2) (ck _))],[Fh,F,G]]];refine⟨_,J,_,y.length,J,[wB,_,ha,by rw[aC]],_,J,_,_,J,J,_,J,?_⟩;have U:∀c,(ah H c→bD H c→¬ql y most n→uo E H (.ref I) none c):=λ c Y o g=>⟨kN g c Y o,o⟩
 show[wO,[aN,[ap,most]<[ap,y.length]]];by_cases g:most<y.length;rw[11,[wh],aV (aV (U H (ah.refl H) [DZ] λ z=>by rw[10,z.1]))];rw[[ol]];refine a_ ⟨_,J,a,y.map (λ n:Nat=>[cQ]),J,[cE,P8,ha],[gL,aC],λ p S m hp X=>?_⟩;have Y:ah H (ag H p (.set S m)):=[mt,hp];have o:bD H (ag H p (.set S m)):=[DZ].ag J;have R:(ag H p (.set S m)) p=Z (.set S m):=aw;generalize ag H p (.set S m)=H1 at Y o R⊢;rw[aC,aac]at X;have L:ax K H1 a (aJ y):=Y.seq ha;rw[79,⟨p,S,m,J,R,_,J,_,y.length,J,[wB,_,L,by rw[aC]],J,_,J,?_⟩,[wK,[zf,m]=[zf,y.length]]];rw[j5];by_cases r:m=y.length
 ·rw[bK r];have T:=X.mp r;refine a_ [zH,a,[gt,L],λ D C=>[Dv,λ v=>match v with|.int z=>.bl [ly,[cQ],z]|_=>.bl false,L,C,[ov,t],λ x H3 Q1 Q2 d s3 q1 q2=>?_]];·obtain⟨i,O,rfl⟩:=[bp,d];rw[0,J,aV (B:=Q2 H3) ⟨_,J,_,J,_,_,J,J,q1 J⟩]
  ·rw[[Du]];rw[73,(aJ y).map (λ v=>match v with|.int z=>V.bl [ly,[cQ],z]|_=>.bl false)=[OH],by rw[118,λ i _=>?_];rw[14,V.bl [aN,[xz,n,i]]=V.bl [ly,n,i],qe]];have l:ah H1 [DI,[OH]]:=[cm,H1,C];have u:bD H [DI,[OH]]:=o.ag J;have W:(ag H1 D (.aj [OH])) D=Z (.aj [OH]):=aw;generalize[DI,[OH]]=M at l u W⊢;refine[Dy,D,ax.of W];cases q:(y.map λ i=>[ly,n,i]).any id with|true=>refine aV (U M [tX,l] u [zr]);rw[yD]at q;obtain⟨b,j,N⟩:=q;obtain⟨i,O,rfl⟩:=[bp,j];have:=z.2.2 i O;have N:n≤i:=lR N;omega|false=>refine a_ (kY ⟨[ac],T,λ i O=>?_⟩ M [tX,l] u);rw[Ja]at q;have:=q [ly,n,i] [jz,i,O];rw[82];rw[58]
 rw[11,bW r,aV (U H1 Y o (λ z=>r (X.mpr z.2.1)))]
end
end VP
end
section
namespace VP
open PySem L2
def tx(l:[ak]):Str:=⟨l.toArray⟩
theorem AO{a b:[ak]}(h:tx a=tx b):a=b:=by unfold tx at h;injection h with h;have h:=ed BO h;rw[51]
theorem d9(l:[ak]):[cI,tx l,l.length]:=by rw[14,l.toArray.size=_,dN]
theorem AQ(l:[ak]):(tx l).cps.toList=l:=[bB,tx]
theorem vh(a b:[ak]):tx a++tx b=tx (a++b):=by show(⟨a.toArray++b.toArray⟩:Str)=⟨(a++b).toArray⟩;simp
theorem join_ones:∀l:[ak],JF ⟨#[]⟩ (l.map λ c=>[FS])=tx l:=λ l=>by unfold JF;rw[StrLaws.glued_eq_join];induction l with|nil=>rfl|cons c l T=>cases l with|nil=>rfl|cons d l=>rw[14,[FS]++(⟨#[]⟩:Str)++JG ⟨#[]⟩ ((d::l).map λ c=>[FS])=tx (c::d::l),T];show tx [c]++tx []++tx (d::l)=_;rw[vh,vh];rfl
theorem aae{x:Str}{g:TG}{F:TS}{D:Ends}{w:St}{H:Hp}(P:[Cp])(I:P 0 w H)(G:∀i c w H,x.cps[i]?=Z c→P i w H→g [Ep] w H λ h M=>F [Ey,P (i+1)] h M)(b:[Om,x.cps.size]):[OF,pX x,∀f a,[Kw,f,a],∀y a,(pX x).j1 i H y a→g y w a λ h M=>F [Ey,N] h M]:=by
 rw[128,x.cps.size];by_cases s:i<x.cps.size;·refine[zQ,s,P (i+1),λ f a E=>[d9,x.cps.size-(i+1),[ac],s,E],λ y a d=>?_];obtain⟨e,c,V,n⟩:=d;subst e;subst n;exact G i c w a V p
 ·have e:i=x.cps.size:=[ac];rw[121,ba _,b w H p]
section
variable{P:aY}{w:aU}{K:aF}{mg:[a_]}{base:aE}
def AR:[bj]:=[[rq],"signs","known","sign","code"]
theorem P9:bQ AR [E5] (aZ qa):=[cj]
def P_(Y:[mh]):V→V|.int z=>.bl (!(cn Y (bY z)).isSome)|_=>.bl true
def oneOf:V→V|.int z=>.str ⟨#[z.toNat]⟩|_=>.bh
def AS(K:aF):Sp:=λ U H Q _=>∃(a:ab)(k y:[ak]),[Ec,U=[[bi],[iw,y]],a,aJ k,k.length≤aQ,y.length≤1000,[Qt,∀c∈k,c∈y,[Mi,Q [iw,k] m],Q .bh m]]
theorem Qa{f:ab}{fd:bq}(D0:[ln,"text_of",qa,fd,[E5]])(B:el mg):aA P w K mg base aG 1 f fd [E5] (AS K):=by
 have nd:AR.Nodup:=P9.nd;rw[60,D0.fn.ok,P9];·obtain⟨a,G,O,rfl,_⟩:=h;rfl
 obtain⟨a,G,O,rfl,ha,v,hsl,kY,kN⟩:=h;have u:=jB hr;rw[27,[No,2,gq J,wO,aK [Ng,My (pv 1),3,nk u (pv 2) [De,Vd,B.ord,PyProof.Rows.boot_ord,[gv,3]] (pv 3) J] [y8,[Bj,iH [As,zV J,B.any,IB,jz (own:=[("code",4)]) J nd (dj (pv 0)) (@eg.mk AR (aZ qa) _ [("code",4)] J [bE] [bE] [bE] [bE]) (λ _ _ _ _ _=>[pL,4]) (λ _ _ _ _ _=>iv) (λ _ _ _ _ _=>UG (Aa u (pv 4) (pv 2)))],pL],WB fy (jz (own:=[("code",4)]) J nd (dj (pv 0)) (@eg.mk AR (aZ qa) _ [("code",4)] J [bE] [bE] [bE] [bE]) (λ _ _ _ _ _=>[pL,4]) (λ _ _ _ _ _=>iv) (λ _ _ _ _ _=>(nj u (pv 2) (pv 4) (λ _ _=>J))))]]];intro d hd;have s0:ah H (ag H d (.dK [])):=[mt,hd];rw[28,_,J,tx O,J,aae (λ i j m=>∃(v3:[dL])(Y:[mh]),(j=[[lm],Z [iw,O],Z [lx],v3,none]∧m=ag H d (.dK Y)∧[AU,i]∧∀c:Nat,cn Y (bY [ap,c])=[LW,c∈O.take i,[Ep]])) ⟨none,[],J,J,ba _,λ c=>by simp;rfl⟩ ?_ ?_]
 ·rintro i c j m o⟨v3,Y,rfl,rfl,N,I⟩;have o:O[i]?=Z c:=by have:(tx O).cps[i]?=O[i]?:=[bB,tx];rw[25,this,o]
  have hi:=[eJ,o];rw[3,⟨_,J,_,J,_,J,[v0],J,J,d,_,J,jf.k (k:=bY [ap,c]) aw [zB,eR,Y.length,1000],?_⟩,⟨_,cD Y (bY [ap,c]) [Ep],J,iW,?_,λ y=>?_⟩];·rw[10,wG Y (bY [ap,c]) (V.str [v0])]
  ·rw[rF,I y,fH,o];rw[30,y,c];·subst e;rw[aI J,aI [al]]
   ·have n1:¬((bY [ap,y]:Key)=bY [ap,c]):=(λ z=>e (by rw[10,Sum.inl.inj z]));rw[aD n1];have:(y∈O.take i++(Z c).toList)↔y∈O.take i:=[bB,e];simp only[this]
 ·rintro j m⟨v3,Y,rfl,rfl,N,I⟩;have F:(tx O).cps.size=O.length:=[bB,tx];rw[F]at N;rw[F,fZ]at I;have p:ah H (ag H d (.dK Y)):=[mt,hd];have p1:bD H (ag H d (.dK Y)):=[DZ].ag J;have U:(ag H d (.dK Y)) d=Z (.dK Y):=aw;generalize ag H d (.dK Y)=H1 at p p1 U;have R:ax K H1 a (aJ G):=p.seq ha;rw[61,a,J,[gt,R],λ D hD=>[Dv,P_ Y,R,hD,[ov,v],λ x L Q1 Q2 n C r q2=>?_]];·obtain⟨c,o,rfl⟩:=[bp,n];rw[0,J,aV (B:=Q2 L) ⟨_,J,_,J,d,_,J,eW.k (k:=bY [ap,c]) (C _ _ U),r J⟩]
  rw[[Du]];rw[73,(aJ G).map (P_ Y)=[yx,[Nh]],by
   rw[118,λ c _=>?_];rw[14,V.bl (!(cn Y (bY [ap,c])).isSome)=V.bl [aN,c∉O],I c];by_cases h:c∈O;·rw[aI h];simp[h]
   ·rw[aD h];simp[h]]
  have t:ah H1 [DI,[yx,[Nh]]]:=[cm,H1,hD];have p2:bD H [DI,[yx,[Nh]]]:=p1.ag J;have W:(ag H1 D (.aj [yx,[Nh]])) D=Z (.aj [yx,[Nh]]):=aw;generalize[DI,[yx,[Nh]]]=M at t p2 W⊢;refine[Dy,D,ax.of W];cases q:[Nh].any id with
   |true=>refine aV (kN [zr] M (p.trans t) p2);rw[yD]at q;obtain⟨b,hb,hb2⟩:=q;obtain⟨c,o,rfl⟩:=[bp,hb];exact(lR hb2) (z c o)
   |false=>
    have S:∀c∈G,c∈O:=λ c o=>by rw[Ja]at q;rw[105,q [aN,c∉O] [jz,c,o]]
    have X:ax K M a (aJ G):=t.seq R;have hd2:=t _ _ U;refine a_ ⟨[rg],_,J,a,J,[gt,X],λ D' T=>[Dv,oneOf,X,T,[ov,v],λ x L Q1 Q2 n C r q2=>?_]⟩;·obtain⟨c,o,rfl⟩:=[bp,n];have g:=eW.k (k:=bY [ap,c]) (C _ _ hd2);rw[I c,aI (S c o)]at g;rw[0,J,aV (B:=Q2 L) ⟨_,J,_,J,d,_,J,g,r J⟩]
    rw[[Du]];have e2:(aJ G).map oneOf=(G.map λ c=>[FS]).map V.str:=[jl,cP,cP];rw[13,e2,⟨⟨#[]⟩,D',_,J,J,.inl (ax.of aw),?_,?_⟩]
    ·have h1:∀l:[ak],((l.map λ c=>(⟨#[c]⟩:Str)).map (·.length)).sum=l.length:=λ l=>by induction l with|nil=>rfl|cons c l ih=>rw[bO,bO,qE,ih,dP];rw[20,1+_=_]
     rw[h1];have:[cI,(⟨#[]⟩:Str),0]:=J;rw[12,this,Nat.mul_zero,v]
    rw[11,join_ones,kY S _ ((p.trans t).trans [cm,M,T]) (p2.ag J)]
end
end VP
end
section
namespace VP
open PySem L2
theorem Qb{X:Cx}:zG X .Add (λ x y H Q=>∃a b:Str,(x=.str a∧y=.str b∧a.length+b.length≤aQ∧Q (.str (a++b)) H)):=by intro B s w H x y v u Q I c S h;obtain⟨a,b,rfl,rfl,M,q⟩:=h;obtain⟨t,rfl⟩:=c;rw[119,S,PySem.SB.iadd (λ Y k=>⟨.str _,H,I.tok k,[ge,Y],q⟩) M]
def Cs(mg:[a_])(x y:Str):Prop:=[EW,x,.str y]
def lN(p c:Nat):[ak]:=[Me,c=104∨(c=117∧p=113),[],k7 c,[65],[DB,lV c,97,[c]]]
def d_:Nat→[fQ,Nat,[ak]]|_,[]=>[]|p,[c]=>lN p c|p,c::d::r=>if mR c d then 65::d_ d r else lN p c++d_ c (d::r)
def prev(W:[ak])(i:Nat):Nat:=[EL,i=0,0,W.getD,i-1,0]
theorem Fx(c d:Nat):[C8,(V.str [v0])=(V.str ⟨#[d]⟩),c=d]:=by rw[19,dH]
theorem aaf:("h":Str)=⟨#[104]⟩:=[bE]
theorem aag:("u":Str)=⟨#[117]⟩:=[bE]
theorem aah:("q":Str)=⟨#[113]⟩:=[bE]
theorem str_A:("A":Str)=tx [65]:=[bE]
theorem Qc:("a":Str)=tx [97]:=[bE]
theorem AU:("":Str)=tx []:=[bE]
theorem aai(c:Nat):[aN,c∈[KM,"AEIOUY"]]=k7 c:=by rw[62,[KM,"AEIOUY"]=[65,69,73,79,85,89],[bE]];unfold k7;rw[dH];simp
theorem aaj(c:Nat):[aN,c∈[KM,"aeiouy"]]=lV c:=by rw[62,[KM,"aeiouy"]=[97,101,105,111,117,121],[bE]];unfold lV;rw[dH];simp
theorem aak(W:[ak])(i j:Nat)(Y:i≤j):mq (tx W) (Z [lG]) (Z [ap,j])=tx ([Cd].take (j-i)):=by
 unfold mq;rw[d9,HT.wx,HT.wx,AQ];unfold tx;congr 2;by_cases h:i≤W.length
 ·rw[yJ h];by_cases r:j≤W.length;·rw[yJ r]
  ·rw[Jd [ac],sO [al],sO (by rw[18])]
 ·rw[IH [ym,W.length≤min i W.length],IH [ym,W.length≤i]];simp
theorem aal(W:[ak])(j:Nat):mq (tx W) none (Z [ap,j])=tx (W.take j):=by
 unfold mq;rw[d9,HT.wu,HT.wx,AQ,Sr,Js];unfold tx;congr 2;by_cases r:j≤W.length;·rw[yJ r]
 ·rw[Jd [ac],sO (ba _),sO [ac]]
theorem aam(l:[ak]):(Jt (tx l) ⟨#[113]⟩=[aN,l.getLast?=Z 113]):=by
 unfold Jt IU;rw[d9];have g:[cI,(⟨#[113]⟩:Str),1]:=J;rw[g];by_cases h:l=[];·subst h;decide
 ·obtain⟨i,x,rfl⟩:=Vs.qU h;rw[RS];have e:(tx (i++[x])).cps.extract ((i++[x]).length-1) ((i++[x]).length-1+1)=#[x]:=by unfold tx;simp
  rw[e,dH];simp
section
variable{P:aY}{w:aU}{K:aF}{mg:[a_]}{base:aE}
structure Fy(mg:[a_]):Prop where
 long:Cs mg "LONG" "A"
 short:Cs mg "SHORT" "a"
 aan:Cs mg "LONG_VOWELS" "AEIOUY"
 aao:Cs mg "SHORT_VOWELS" "aeiouy"
def Qd:Sp:=λ U H Q _=>∃(W:[ak])(i c:Nat),(U=[[iw,W],nV i]∧W[i]?=Z c∧W.length≤1000∧Q [iw,lN [Cc] c] H)
theorem aap{f:ab}{v:bq}(D:[ln,"sound_at",xD,v,[Nv]])(C:Fy mg):aA P w K mg base aG 1 f v [Nv] Qd:=by
 have nd:=NP.nd;obtain⟨L,g,l⟩:=C.long;obtain⟨N,r,S⟩:=C.short;obtain⟨u3,b,G⟩:=C.aan;obtain⟨u4,j,I⟩:=C.aao;rw[53,D.fn.ok,NP,[QO]];·obtain⟨W,i,c,rfl,_⟩:=h;rfl
 obtain⟨W,i,c,rfl,a,t,k⟩:=h;rw[27,[At,2,zP (pv 0) (pv 1) [Cy],[Bj,[KS,[dU,e_,pv 2,fy],PW.pt (lu [dU,e_,pv 2,fy] (oB (iH (rG PySem.F.slot_str_endswith PySem.F.type_str_endswith WA (oH DV (pv 0) pQ (nh (pv 1))) fy))))],fy],aK [Bj,cm wW (pv 2) (b8 J b G) J,b8 J g l] [y8,[Bj,cm wW (pv 2) (b8 J j I) J,b8 J r S],pv 2]]];have O:=[eJ,a];have M:(tx W).cps[[aV,i].toNat]?=Z c:=by rw[vy];simp[tx];exact a
 refine⟨_,J,_,J,tx W,i,c,J,J,[ac],[ac],[gL,d9],M,?_⟩;have F:∀(p:Nat),lN p c=[Me,c=104∨(c=117∧p=113),[],k7 c,[65],[DB,lV c,97,[c]]]:=λ p=>J
 have Y:¬(c=104∨(c=117∧[Cc]=113))→wj (zD (uc (h9 [TQ] (cv 2) (tC (.str "AEIOUY")))) (rj (tC (.str "A"))) CP) (wj (zD (uc (h9 [TQ] (cv 2) (tC (.str "aeiouy")))) (rj (tC (.str "a"))) CP) (rj (cv 2))) {nx:=λ x m=>Q V.bh m,rt:=Q} [Z [iw,W],Z (nV i),Z [Ep]] H:=λ hn=>by have k2:=k;rw[F,aD hn]at k2;rw[41,⟨_,J,c,_,J,J,_,J,?_⟩,aai];cases n:k7 c with|true=>rw[n]at k2;have k2:Q [iw,[65]] H:=k2;rw[←str_A]at k2;exact aV k2|false=>rw[n]at k2;rw[41,a_ ⟨_,J,c,_,J,J,_,J,?_⟩,aaj];cases X:lV c with|true=>rw[X]at k2;have k2:Q [iw,[97]] H:=k2;rw[←Qc]at k2;exact aV k2|false=>rw[X]at k2;exact[Al,k2]
 have T:(c=104∨(c=117∧[Cc]=113))→Q (.str ("":Str)) H:=λ d=>by have k2:=k;rw[F,aI d,←AU]at k2;exact k2
 rw[33,[wY,?_],(V.str [v0])=(V.str ("h":Str))];rw[aaf,Fx];by_cases B:c=104;rw[11,bK B,aV (aV (T (.inl B)))];rw[bW B];rw[33,a_ [wY,?_],(V.str [v0])=(V.str ("u":Str))];rw[aag,Fx];by_cases q:c=117
 ·rw[13,bK q,aV ⟨_,J,_,J,i,J,tx W,J,[OJ,t],[rg],_,_,J,J,_,J,?_⟩];rw[aal,aah,aam];have e:[C8,(W.take i).getLast?=Z 113,[Cc]=113]:=by
   rw[dH,dw,dw];unfold prev;by_cases h0:i=0;·subst h0;simp
   ·rw[aD h0,List.getLast?_eq_getElem?,jJ,yJ (oa O),List.getElem?_take,aI [ac],iB,bX [ym,i-1<W.length]];simp
  rw[e];by_cases R:[Cc]=113;rw[40,bK R,aV (T [jT,q,R]),bW R,a_ (Y λ z=>z.elim B (λ z=>R z.2))]
 rw[11,bW q,a_ (a_ (Y λ z=>z.elim B (λ z=>q z.1)))]
end
end VP
end
section
namespace VP
open PySem L2
def yo:[aK]:=[.str "ae",.str "au",.str "oe",.str "eu"]
theorem aaq:("ae":Str)=tx [97,101]:=[bE]
theorem aar:("au":Str)=tx [97,117]:=[bE]
theorem aas:("oe":Str)=tx [111,101]:=[bE]
theorem aat:("eu":Str)=tx [101,117]:=[bE]
theorem Fz(a b:[ak]):(kD [iw,a] [iw,b]=[aN,a=b]):=by show((tx a==tx b)=[aN,a=b]);rw[dH,mS,dw];rw[0,AO,λ h=>by rw[h]]
theorem aau(l:[ak]):i2 [iw,l.take 2] yo=[QL,l]:=by rw[73,i2 [iw,l.take 2] yo=([aN,[97,101]=l.take 2]||([aN,[97,117]=l.take 2]||([aN,[111,101]=l.take 2]||([aN,[101,117]=l.take 2]||false)))),by unfold i2 yo;rw[aaq,aar,aas,aat];simp only[k8,SI,Fz]];match l with|[]=>rfl|[c]=>simp|c::d::r=>simp only[RY,List.take_zero];unfold mR;rw[dH];rw[18]
structure Qe(K:aF)(mg:[a_]):Prop where
 ex:∃a,mg "LONG_PAIRS"=[lm]∧∀H,bM K H a yo
theorem FA(p c:Nat):[cY,lN p c,1]:=by
 unfold lN;split;·simp
 ·split;·simp
  ·split<;>simp
theorem aav(W:[ak])(i c:Nat)(V:W[i]?=Z c)(R:[aw,[QL,[Cd]]]):d_ [Cc] [Cd]=lN [Cc] c++d_ (prev W (i+1)) (W.drop (i+1)):=by
 have e1:prev W (i+1)=c:=by unfold prev;rw[aD [ac],iB,Bt,V];rfl
 have O:=[eJ,V];have e2:[Cd]=c::W.drop (i+1):=by rw[IA O];congr 1;rw[45,[L7,V].2,this]
 rw[e1,e2];rw[e2]at R;cases e:W.drop (i+1)with|nil=>rw[d_,d_,qD]|cons d r=>rw[e]at R;have R:[aw,mR c d]:=R;rw[d_,R];rfl
theorem aaw(W:[ak])(i:Nat)(R:[QL,[Cd]]=true):i+2≤W.length∧d_ [Cc] [Cd]=65::d_ (prev W (i+2)) (W.drop (i+2)):=by
 match e:[Cd]with
  |[]=>rw[e]at R;cases R
  |[c]=>rw[e]at R;cases R
  |c::d::r=>
   rw[e]at R;have R:mR c d=true:=R;have X:[cI,[Cd],r.length+2]:=[hJ,e];rw[lQ]at X;have e2:W.drop (i+2)=r:=by have:[Cd].drop 2=r:=[hJ,e];rw[114,Jk]
   have B:prev W (i+2)=d:=by unfold prev;rw[aD [ac],iB];have:[Cd][1]?=Z d:=[hJ,e];rw[I_]at this;rw[[dA,i+2-1,i+1,[ac]],this];rfl
   rw[15,[ac],?_];rw[d_,R,e2,B];rfl
section
variable{P:aY}{w:aU}{K:aF}{mg:[a_]}{base:aE}
def FC:Sp:=λ U H Q _=>∃(W:[ak]),U=[[iw,W]]∧W.length≤1000∧Q [iw,d_ 0 W] H
theorem aax{f z:ab}{l F:bq}(D:[ln,"sounds_of",xC,l,[zt]])(B:el mg)(C:Fy mg)(L:Qe K mg)(G:[gh,"sound_at",xD,z,F,[Nv]]):aA P w K mg base aG 2 f l [zt] FC:=by
 have nd:=NO.nd;have GS:aA P w K mg base aG 1 z F [Nv] Qd:=aap G C;obtain⟨u1,g,n⟩:=C.long;obtain⟨y,M,N⟩:=L.ex;rw[53,D.fn.ok,NO,[QO]];·obtain⟨W,rfl,_⟩:=h;rfl
 obtain⟨W,rfl,r,k⟩:=h;rw[27,[Eg,1,fy,2,bu,[y8,t9 dX [dU,C5,pv 2,[yw,0]] (aN (cI (cm Dr (oH DV (pv 0) (nh (pv 2)) (nh [zZ,pv 2])) (b8 (x:="LONG_PAIRS") (v:=.ref y) J M J) J) (aK (pO nd J (i:=1) (aR J) (b8 J g n) Qb) (aN (pO nd J (i:=2) (aR J) bu CU))) (aK (pO nd J (i:=1) (aR J) [ED,GS,u,G.mg,G.fn.kp,G.b,pv 0,[gv,2]] Qb) (aN (pO nd J (i:=2) (aR J) bu CU))))),pv 1]]];let X:[Cp]:=λ m b a=>∃(t:[ak])(i:Nat),[bn,b=[Z [iw,W],Z [iw,t],Z (nV i)],a=H,m=W.length-i,i≤W.length,t.length≤i∧t++d_ [Cc] [Cd]=d_ 0 W]
 rw[29,X,⟨_,[],0,by rw[←AU];rfl,J,J,b7 _,ba _,J⟩];rintro m b a⟨t,i,rfl,rfl,rfl,hi,hal,I⟩;rw[33,⟨_,J,_,J,_,W.length,J,⟨[OJ,r],by rw[d9]⟩,_,_,J,J,_,J,?_⟩,[lG]<[ap,W.length]];by_cases p:i<W.length
 ·rw[[wh]];rw[3,aV ⟨λ q a=>∃S,S<W.length-i∧X S q a,λ q a h=>h,?_⟩,⟨_,J,_,J,i,J,_,J,_,_,J,J,_,J,tx W,J,[OJ,r],y,_,J,.inr (N _),J,[bE],_,J,?_⟩];have Y:mq (tx W) (Z [lG]) (Z ([lG]+2))=tx ([Cd].take 2):=by rw[56,aak W i (i+2) [ac],[dA,i+2-i,2,[ac]]]
  show[wO,i2 (V.str (mq (tx W) (Z [lG]) (Z ([lG]+2)))) yo];rw[Y,aau];obtain⟨c,j⟩:∃c,W[i]?=Z c:=[gt,bX p];cases R:[QL,[Cd]]with
   |true=>
    obtain⟨g1,T⟩:=aaw W i R;refine aV ⟨_,J,_,_,J,J,?_,_,J,_,_,J,J,W.length-(i+2),[ac],t++[65],i+2,?_,J,J,g1,by rw[18],?_⟩;·rw[str_A,d9,d9];exact[pH,show t.length+[65].length≤2000 by rw[18]]
    ·show[Z [pi,W],Z (V.str (tx t++("A":Str))),Z (V.int ([lG]+2))]=_;rw[str_A,vh];rfl
    ·rw[←I,T];simp
   |false=>
    have T:=aav W i c j R;have O:=FA [Cc] c;refine a_ ⟨_,J,_,J,_,J,W,i,c,J,j,r,_,_,J,J,?_,_,J,_,_,J,J,W.length-(i+1),[ac],t++lN [Cc] c,i+1,?_,J,J,[ac],by rw[18],?_⟩;·rw[12,d9,d9,[zB,bf,t.length+(lN [Cc] c).length,2000]]
    ·rw[14,[Z [pi,W],Z (V.str (tx t++tx (lN [Cc] c))),Z (V.int ([lG]+1))]=_,vh];rfl
    ·rw[←I,T];simp
 ·rw[[ol]];rw[55,i=W.length,[ac]];rw[List.drop_length]at I;have:d_ (prev W W.length) []=[]:=by unfold d_;rfl
  rw[this,qD]at I;rw[4,I,[Al,k]]
end
end VP
end
section
namespace VP
open PySem L2
def gW(c:Nat)(l:[ak]):Nat→[fQ,Nat,[ak]]|_,[]=>[]|k,d::r=>[wu,d,c,k::gW c l (k+1) r,gW c l (k+1) r]
theorem sub_one(l:[ak])(c i:Nat):(IU (tx l) [v0] i=[aN,l[i]?=Z c]):=by
 unfold IU;have g:[cI,[FS],1]:=J;rw[g];have e:((tx l).cps.extract i (i+1)).toList=((l.drop i).take 1):=by unfold tx;simp
 have e2:(((tx l).cps.extract i (i+1)==[FS].cps)=[aN,((l.drop i).take 1)=[c]]):=by
  rw[dH,mS,dw,←e];rw[7];·intro h;rw[h]
  ·intro h;exact Array.ext' (by rw[h])
 rw[e2,dH,dw,dw];have I:(l.drop i)[0]?=l[i]?:=[hJ,I_];cases q:l.drop i with|nil=>rw[q]at I;rw[62,l[i]?=none,I.symm];simp|cons d r=>rw[q]at I;have I:Z d=l[i]?:=I;rw[←I];simp
theorem FD(l:[ak])(c m:Nat):∀(r:[ak])(k:Nat)(g:Array Nat)(free:Nat),[b9,l.drop k=r,free≤k,g.size≤k,m=l.length+1,k≤l.length→(forIn (Jx k (r.length+1)) (g,free) (yG (tx l) [v0] l.length m)).run.fst.toList=g.toList++gW c l k r]
 |[],k,g,free,u,F,G,i,C=>by
  have q:[pQ,k]:=by rw[38,[B2,u],lQ];rw[82];omega
  have e:Jx k (([]:[ak]).length+1)=[k]:=J;rw[e,sY];have hn:¬(((g.size<m∧free≤k)∧[DX,k+[FS].length])∧IU (tx l) [v0] k=true):=by rintro⟨⟨_,h⟩,_⟩;have h:[DX,k+1]:=h;omega
  unfold yG;simp only[];rw[aD hn];simp[gW]
 |d::r,k,g,free,u,F,G,i,C=>by
  have b:=[B2,u];rw[lQ,dP]at b;have a:l[k]?=Z d:=by have:(l.drop k)[0]?=Z d:=[hJ,u];rw[114,I_]
  have f:l.drop (k+1)=r:=by have:(l.drop k).drop 1=r:=[hJ,u];rw[114,Jk]
  have e:Jx k ((d::r).length+1)=k::Jx (k+1) (r.length+1):=J;by_cases V:d=c
  ·subst V;have K:yG (tx l) ⟨#[d]⟩ l.length m k (g,free)=pure (n6 (g.push k,k+1)):=by unfold yG;rw[aI ⟨⟨⟨by rw[20,g.size<m],F⟩,by rw[20,[DX,k+1]]⟩,by rw[sub_one,a];simp⟩];rfl
   have T:=FD l d m r (k+1) (g.push k) (k+1) f (ba _) (by rw[18]) i [ac];rw[e,sY,K];refine Eq.trans T ?_;simp[gW]
  ·have K:yG (tx l) [v0] l.length m k (g,free)=pure (n6 (g,free)):=by unfold yG;rw[aD (by rintro⟨_,h⟩;rw[sub_one,a]at h;rw[16];exact V h)]
   have T:=FD l c m r (k+1) g free f [ac] [ac] i [ac];rw[e,sY,K];refine Eq.trans T ?_;simp[gW,V]
theorem FE(l:[ak])(c:Nat):Iz (tx l) [v0] 0 [fy,tx,l] ([fy,tx,l]+1)=gW c l 0 l:=by rw[StrLaws.occ_eq,d9,Js];rw[105,FD l c (l.length+1) l 0 #[] 0 J (ba _) (ba _) J (b7 _)]
theorem Qg(l:[ak])(i j:Nat):RG (tx l) i j=tx ((l.take j).drop i):=by unfold RG tx;congr 1;rw[←Array.toList_inj];simp[List.extract_eq_take_drop,List.drop_take]
theorem FF(l:[ak])(c:Nat):∀(r:[ak])(k L:Nat),(l.drop k=r→L≤k→k≤l.length→[Aq,((L::(gW c l k r).map (·+1)).zip (gW c l k r++[l.length])),RG (tx l) x.1 x.2]=(bG c r ((l.take k).drop L)).map tx)
 |[],k,L,u,G,C=>by
  have q:k=l.length:=by rw[38,[B2,u],lQ];rw[82];omega
  subst q;simp[gW,bG,Qg]
 |d::r,k,L,u,G,C=>by
  have K:=[B2,u];rw[lQ,dP]at K;have a:l[k]?=Z d:=by have:(l.drop k)[0]?=Z d:=[hJ,u];rw[114,I_]
  have b:l.drop (k+1)=r:=by have:(l.drop k).drop 1=r:=[hJ,u];rw[114,Jk]
  by_cases V:d=c
  ·subst V;have T:=FF l d r (k+1) (k+1) b (ba _) [ac];have M:(l.take (k+1)).drop (k+1)=[]:=by rw[List.drop_eq_nil_iff];rw[18]
   rw[M]at T;simp only[gW,bG,il,bO,nW,mM];rw[Qg,←T]
  ·have T:=FF l c r (k+1) L b [ac] [ac];have M:(l.take (k+1)).drop L=(l.take k).drop L++[d]:=by rw[fH,a,List.drop_append_of_le_length (by rw[18])];rfl
   rw[M]at T;simp only[gW,bG,aD V];exact T
theorem Qh(l:[ak])(c:Nat):Iy (tx l) (gW c l 0 l) 1=[qV,c].map tx:=by have:=FF l c l 0 0 J (ba _) (b7 _);unfold Iy;rw[d9];simpa using this
theorem aay(c:Nat)(h:c<256):sR [v0]=1:=by unfold sR;rw[aI [bB,h]]
theorem aaz(x:Str):1≤sR x:=by
 unfold sR;split;·omega
 ·split<;>omega
theorem Qi(c:Nat):∀(r w:[ak])(l:[ak])(k:Nat),gW c l k r=[]→bG c r w=[w++r]
 |[],w,_,_,_=>[bB,bG]
 |d::r,w,l,k,h=>by
  unfold gW at h;by_cases V:d=c;·rw[44,aI V]
  ·rw[aD V]at h;have:=Qi c r (w++[d]) l (k+1) h;simp only[bG,aD V];rw[19,this]
theorem AV(l:[ak])(c:Nat)(V:c<256):oj (tx l) [v0]=[qV,c].map tx:=by
 unfold oj;rw[FE];have C:[aw,[aN,sR (tx l)<sR [v0]]]:=by rw[aay c V];rw[45,aaz (tx l),[ol]]
 rw[C,yN];have g:[cI,[FS],1]:=J;rw[g];by_cases h0:[fy,tx,l]<1;·rw[bK h0,aI J];rw[d9]at h0;rw[70,l=[],[QY,[ac]]];simp[bG]
 ·rw[bW h0,[DP]];by_cases he:(gW c l 0 l).isEmpty=true;·rw[aI he];have:=Qi c l [] l 0 (List.isEmpty_iff.mp he);rw[19,this]
  ·rw[aD he,Qh]
theorem FG(c:Nat)(l:[ak]):∀(r:[ak])(k:Nat),[cI,gW c l k r,r.count c]
 |[],_=>J
 |d::r,k=>by
  unfold gW;rw[i8];by_cases h:d=c;·subst h;simp[FG d l r (k+1)]
  ·have:[aw,d==c]:=by rw[51]
   rw[aD h,this,FG c l r (k+1)];simp
theorem AW(l:[ak])(c:Nat):Txt.count (tx l) [v0]=[Ki,c]:=by unfold Txt.count;rw[FE,FG]
def nJ(c d:Nat)(x:Nat):Nat:=[wu,x,c,d,x]
theorem vk(c:Nat):∀(r w:[ak]),bG c r w≠[]
 |[],w=>[bB,bG]
 |d::r,w=>by
  unfold bG;split;·simp
  ·exact vk c r _
theorem FH(c d:Nat):∀(r w:[ak]),JG (tx [d]) ((bG c r w).map tx)=tx (w++r.map (nJ c d))
 |[],w=>by simp[bG,JG]
 |x::r,w=>by
  unfold bG;by_cases h:x=c
  ·rw[aI h,bO];have T:=FH c d r [];obtain⟨y,G,e⟩:∃y G,(bG c r []).map tx=y::G:=by cases q:bG c r []with|nil=>rw[8,q,vk c r []]|cons a b=>rw[1,_,_,J]
   rw[e]at T⊢;show tx w++tx [d]++JG (tx [d]) (y::G)=_;rw[T,vh,vh];simp[nJ,h]
  ·rw[aD h,FH c d r (w++[x])];simp[nJ,h]
theorem Qj(c d:Nat)(l:[ak]):∀(r:[ak])(k:Nat),gW c l k r=[]→r.map (nJ c d)=r
 |[],_,_=>J
 |x::r,k,h=>by
  unfold gW at h;by_cases V:x=c;·rw[44,aI V]
  ·rw[aD V]at h;rw[bO,Qj c d l r (k+1) h];simp[nJ,V]
theorem replace_one(l:[ak])(c d:Nat):SX (tx l) [v0] ⟨#[d]⟩=tx (l.map (nJ c d)):=by
 unfold SX;rw[FE];have g:[aw,[FS].length==0&&(⟨#[d]⟩:Str).length==0]:=J;rw[g,yN];by_cases he:(gW c l 0 l).isEmpty=true;·rw[aI he,Qj c d l l 0 (List.isEmpty_iff.mp he)]
 ·rw[aD he];have r:[cI,[FS],1]:=J;rw[r,Qh,StrLaws.glued_eq_join];rw[56,FH c d l [],pf]
end VP
end
section
namespace VP
open PySem L2
theorem aaA{x:Str}{g:TG}{B:TT}{k:TE}{U:[ak]}{w:St}{d:Hp}{D:ab}{Q:[Dr]}(P:[yi,Hp])(I:P 0 [nF,d,D])(G:∀i c H,x.cps[i]?=Z c→P i H→g [Ep] [z_] H λ j M=>[K5,j,k,P (i+1) [LZ],P (i+1) L])(f:∀H,P x.cps.size H→Q H):[Qr,[Qu,d,pX x,∃l:[Dr],(∀a,l a→∃S,S<m∧W (i+1) S a)∧∀y a,(pX x).j1 i H y a→g y [z_] a λ j M=>[K5,j,k,l [LZ],l L]]]:=by
 rw[162,x.cps.size];by_cases s:i<x.cps.size;·refine[zQ,s,P (i+1),λ a E=>[d9,x.cps.size-(i+1),[ac],s,E],λ y a h=>?_];obtain⟨e,c,V,n⟩:=h;subst e;subst n;exact G i c a V p
 ·have e:i=x.cps.size:=[ac];rw[121,ba _,f H p]
theorem inb(K:aF){X:Cx}(h:X.K=K:=by rfl):dz X (f9 .In) (Dq K false):=by subst h;exact Dr
section
variable{X:Cx}{o:bc}{to:TE}
theorem aaC{R l y z:Str}{u v:Tok}{O j A W:Pos}(E:PE X o to)(m:Gl X R)(p:X.mg R=Z (.str y u))(T:Gl X l)(q:X.mg l=Z (.str z v))(i:u≠0)(f:v≠0)(K:u≠v)(L:[aw,y==z])(G:[oE,[Expr.Name R O,Expr.Name l j]]=[[zA,.Name R O],[zA,.Name l j]]:=by rfl)(C:[FE,o,"replace"]:=by rfl)(D:(A.endLine==W.line)=true:=by rfl)(d1:[uk,R]:=by decide)(d2:[uk,l]:=by decide):PE X [Dw,"replace",A,[.Name R O,.Name l j],W] (λ b H Q=>to b H λ x c=>∃a,x=.str a∧a.length+(a.length+1)*z.length≤16777216∧Q (.str (SX a y z)) c):=by intro B s b H Q I h;refine PySem.Call_method2 C G D (bj (E B s b H _ I h) λ w Y⟨x,c,r,d,n⟩=>?_);obtain⟨a,rfl,M,n⟩:=n;obtain⟨t,rfl⟩:=d;rw[3,⟨"str",_,F.plainAttrs_str,F.slot_str_replace,F.type_str_replace,tp _ _ _,(λ _ e=>nomatch e),Bn J (IM (vx ?_))⟩,rf r m p (vx (rf r T q (Bv ?_) d2)) d1];exact PySem.SC.replace i f K L M λ g k=>⟨.str _,c,r.tok k,[ge,g],n⟩
end
section
variable{P:aY}{w:aU}{K:aF}{mg:[a_]}{base:aE}
structure oY(mg:[a_]):Prop where
 ex:∃u v:Tok,[bn,mg "LONG"=Z (.str "A" u),mg "SHORT"=Z (.str "a" v),u≠0,v≠0,u≠v]
theorem oY.long{mg:[a_]}(C:oY mg):Cs mg "LONG" "A":=let⟨u,_,h,_⟩:=C.ex;⟨_,h,u,J⟩
theorem oY.short{mg:[a_]}(C:oY mg):Cs mg "SHORT" "a":=let⟨_,v,_,h,_⟩:=C.ex;⟨_,h,v,J⟩
def gm(c:Nat):Bool:=([aN,c=97]||[aN,c=65])
def FI:[bj]:=["sounds","sound"]
theorem Qk:bQ FI [xQ] (aZ uI):=[cj]
def mD(l:[ak]):[aK]:=l.map λ c=>[pi,[c]]
def FJ:Sp:=λ U H Q _=>∃(l:[ak]),U=[[iw,l]]∧[pQ,1000]∧∀a m,ah H m→bD H m→[zI,m a=Z (.aj (mD [Fx])),m]
theorem aaD(c:Nat):i2 [iw,[c]] [.str "a",.str "A"]=gm c:=by unfold i2 gm;rw[Qc,str_A];simp only[k8,SI,Fz,yN];congr 1<;>(rw[dH];rw[18])
theorem aaE{f:ab}{v:bq}(I:[ln,"vowels_of",uI,v,[xQ]])(C:oY mg):aA P w K mg base aG 1 f v [xQ] FJ:=by
 have nd:FI.Nodup:=Qk.nd;obtain⟨R,g,d⟩:=C.long;obtain⟨N,r,S⟩:=C.short;rw[100,Qk,[EI]];·rw[140]
 obtain⟨l,rfl,n,k⟩:=h;rw[46,[rE,jz (own:=[("sound",1)]) J nd (My (pv 0)) [Ad,FI,uI,"sound",1] (λ _ _ _ _ _=>[pL,1]) (λ _ _ _ _ _=>wF (cm (inb K) (pv 1) [pT,b8 J r S,ak (b8 J g d) aB] J)) (λ _ _ _ _ _=>pv 1)],[lc,_,J,tx l,λ D p=>aaA (λ i m=>ah H m∧bD H m∧m D=Z (.aj (mD ((l.take i).filter gm)))) ⟨[mt,p],[DZ].ag J,aw⟩ ?_ ?_]]
 ·rintro i c m a⟨Y,e,z⟩;have a:l[i]?=Z c:=by have:(tx l).cps[i]?=l[i]?:=[bB,tx];rw[25,this,a]
  have O:=[eJ,a];refine[lu,⟨_,J,[Bi],λ t F=>?_⟩];have b:ah m [O5,m,"a","A"]:=[cm,m,F];have o:bD H [O5,m,"a","A"]:=e.ag J;have B:(ag m t [ii,V.str "a",V.str "A"]) t=Z [ii,V.str "a",V.str "A"]:=aw;generalize[O5,m,"a","A"]=M at b o B⊢;rw[79,⟨t,_,J,.inr (bM.of B),J,J,_,J,?_⟩,i2 [pi,[c]] [.str "a",.str "A"]];rw[aaD];have W:=b _ _ z;have y:((l.take (i+1)).filter gm)=((l.take i).filter gm)++[DB,gm c,c,[]]:=by rw[fH,a,I0];cases q:gm c<;>simp[q]
  rw[y];cases q:gm c with
   |true=>
    refine aV ⟨_,J,_,W,?_,(ah.aT [tX,b] p),o.ag J,?_⟩;·unfold mD;rw[aC];rw[38,nO gm (l.take i),jJ];exact[zB,eR,_,1000]
    ·rw[aw];unfold mD;rw[cH];rfl
   |false=>refine a_ ⟨[tX,b],o,?_⟩;simpa using W
 ·rintro m⟨Y,e,z⟩;have x:(tx l).cps.size=l.length:=[bB,tx];rw[x,fZ]at z;exact k D m Y e z
def dW(l:[ak]):List [ak]:=bG 97 (l.map (nJ 65 97)) []
def FK:Sp:=λ U H Q _=>∃(l:[ak]),U=[[iw,l]]∧[pQ,1000]∧∀a,[zI,H a=none,ag H a (.aj [F_])]
theorem aaF{f:ab}{b:bq}(I:[ln,"clusters_of",xE,b,[xQ]])(C:oY mg):aA P w K mg base aG 1 f b [xQ] FK:=by
 obtain⟨u,v,F,d,o,y,e⟩:=C.ex;rw[100,XX,λ j A outer s H U Q E a h=>?_];·rw[140]
 obtain⟨l,rfl,c,k⟩:=h;rw[46,[rE,Ae (aaC (pv 0) J F J d o y e [bE]) (b8 (v:=.str "a") J d (show bw (.str "a") (.str "a" v)from[ge,v]))],⟨_,J,tx l,J,?_,[rg],_,_,J,J,J,?_,[ro]⟩];·rw[d9];rw[62,[cI,("a":Str),1],[bE]];omega
 ·rw[[A4,"A",#[65]],[A4,"a",#[97]],replace_one,d9,aC];exact[Td]
 ·rw[[A4,"A",#[65]],[A4,"a",#[97]],replace_one,AV _ 97 [bd],cP];exact k p R
end
end VP
end
section
namespace VP
open PySem L2
def jE(l:[ak]):Nat:=[Me,[QK]=0,0,[QK]=1,1,match l with|[a,b]=>if qI a&&qH b then 2 else 3|_=>3]
def kO(v:Nat)(l:[ak]):Nat:=[wu,v,65,3,jE l]
theorem aaG(c:Nat):[aN,c∈[KM,"bcdfgpt"]]=qI c:=by rw[62,[KM,"bcdfgpt"]=[98,99,100,102,103,112,116],[bE]];unfold qI;rw[dH];simp
theorem aaH(c:Nat):[aN,c∈[KM,"lr"]]=qH c:=by rw[62,[KM,"lr"]=[108,114],[bE]];unfold qH;rw[dH];simp
section
variable{P:aY}{w:aU}{K:aF}{mg:[a_]}{base:aE}
structure AX(mg:[a_]):Prop where
 no:Cn mg "NO_CONSONANT" 0
 one:Cn mg "ONE_CONSONANT" 1
 loose:Cn mg "LOOSE_PAIR" 2
 FL:Cn mg "HEAVY" 3
def AY:Sp:=λ U H Q _=>∃l:[ak],U=[[iw,l]]∧[pQ,1000]∧Q (nV (jE l)) H
theorem Ql{f:ab}{v:bq}(D:[ln,"weight_of",uJ,v,[[AT]]])(B:el mg)(C:AX mg):aA P w K mg base aG 1 f v [[AT]] AY:=by
 have nd:=NQ.nd;obtain⟨F,I,G⟩:=C.no;obtain⟨R,g,j⟩:=C.one;obtain⟨N,r,S⟩:=C.loose;obtain⟨L,c,x⟩:=C.FL;rw[53,D.fn.ok,NQ,[QO]];·rw[140]
 obtain⟨l,rfl,p,k⟩:=h;rw[27,[At,1,cj gj (cj gj [yw,0] (rG ID IE Ad (pv 0) fy)) (rG ID IE Ad (pv 0) fy),[lA,[dU,e_,pv 1,bu],bB (b8 J I G)],aK [lA,[dU,e_,pv 1,bu],bB (b8 J g j)] [y8,[Bj,PW.pt (lu [dU,e_,[yw,0],bu] (lu (cm wW (zP (pv 0) bu [Cy]) fy J) (oB (cm wW (zP (pv 0) bu [Cy]) fy J)))),b8 J r S],b8 J c x]]];have t:[cY,tx l,aQ]∧l.length=[fy,tx,l]:=⟨[OJ,p],by rw[d9]⟩;refine⟨_,J,_,l.length,J,t,_,J,[rg],_,_,J,J,_,_,J,J,_,J,[rg],_,_,J,J,_,_,J,J,?_⟩;rw[[A4,"x",#[120]],[A4,"z",#[122]],AW,AW];have en:[aV,l.length]+[Ki,120]+[Ki,122]=[aV,[QK]]:=[ac];rw[14,iX 1 (V.int ([aV,l.length]+[Ki,120]+[Ki,122])) _ _ _,en];have q:=k;unfold jE at q;generalize hn:[QK]=n at*;rw[125,[wY,?_],n,0];by_cases z:n=0;·rw[bK z];rw[72,aI z,aV q]
 rw[bW z];rw[aD z]at q;rw[125,a_ [wY,?_],n,1];by_cases d:n=1;·rw[bK d];rw[72,aI d,aV q]
 rw[bW d];rw[aD d]at q;rw[125,a_ ⟨_,J,_,l.length,J,t,J,_,J,?_⟩,l.length,2];by_cases X:l.length=2
 ·rw[bK X];obtain⟨a,b,rfl⟩:∃a b,l=[a,b]:=by match l,X with|[a,b],_=>rw[1,a,b,J]
  have q:Q (nV (if qI a&&qH b then 2 else 3)) H:=q;rw[41,aV ⟨_,J,tx [a,b],0,a,J,J,[bd],[bd],by rw[d9];show[ap,0]<2;decide,J,a,_,J,J,_,J,?_⟩,aaG];cases m:qI a with
   |true=>rw[41,aV ⟨_,J,tx [a,b],1,b,J,J,[bd],[bd],by rw[d9];show[rc]<2;decide,J,b,_,J,J,_,J,?_⟩,aaH];rw[m]at q;cases y:qH b with|true=>rw[72,y,aV q]|false=>rw[72,y,a_ q]
   |false=>rw[72,m,a_ (a_ q)]
 ·rw[bW X];have e:(match l with|[a,b]=>if qI a&&qH b then 2 else 3|_=>3)=3:=by match l,X with|[],_=>rfl|[_],_=>rfl|[_,_],h=>rw[8,J,h]|_::_::_::_,_=>rfl
  rw[72,e,a_ (a_ q)]
def FN:Sp:=λ U H Q _=>∃(v:Nat)(l:[ak]),U=[[iw,[v]],[iw,l]]∧[pQ,1000]∧Q (nV (kO v l)) H
theorem aaI{f m:ab}{b i:bq}(D:[ln,"vowel_weight",xG,b,[IR]])(B:el mg)(C:AX mg)(n:oY mg)(F:[gh,"weight_of",uJ,m,i,[[AT]]]):aA P w K mg base aG 2 f b [IR] FN:=by
 have W:aA P w K mg base aG 1 m i [[AT]] AY:=Ql F B C;obtain⟨t,a,e⟩:=C.FL;obtain⟨R,g,c⟩:=n.long;rw[53,D.fn.ok,XZ,[EI]];·obtain⟨v,l,rfl,_⟩:=h;rfl
 obtain⟨v,l,rfl,d,k⟩:=h;rw[27,[rE,wh [dU,e_,pv 0,b8 J g c] (b8 J a e) [Co,W,u,F.mg,F.fn.kp,F.b,1]]];rw[33,[wY,?_],(V.str ⟨#[v]⟩)=(V.str ("A":Str))];rw[[A4,"A",#[65]],Fx];unfold kO at k;by_cases q:v=65;·rw[bK q];rw[aI q]at k;exact aV k
 ·rw[bW q];rw[aD q]at k;exact a_ [zH,l,d,k]
theorem aaJ(l:[ak]):pZ (.tup (aJ l))=true:=List.all_eq_true.mpr λ x A=>by obtain⟨n,_,rfl⟩:=[bp,A];rfl
def FP:[bj]:=[[B3],"inner","weight"]
theorem Qm:bQ FP [[B3]] (aZ uL):=[cj]
def Qn:V→V|.int z=>.int [JP,[rc]>z,z]|_=>.bh
def AZ(K:aF):Sp:=λ U H Q _=>∃(a:ab)(o:[ak]),(U=[rD]∧ax K H a (aJ o)∧o.length≤1000∧∀t m,[Tg,t,.tup (aJ (Vs.h7 o)),.ref t])
theorem aaK(N:[aK]):[E7,N,-1]=N.drop (N.length-1):=by unfold dB;rw[12,HT.wu,E9,sO [ar,lQ,ba _]]
theorem aaL{f:ab}{v:bq}(D0:[ln,"settled",uL,v,[[B3]]])(B:el mg)(C:AX mg):aA P w K mg base aG 1 f v [[B3]] (AZ K):=by
 have nd:FP.Nodup:=Qm.nd;obtain⟨u1,g,r1⟩:=C.one;refine(D0.fn.ok Qm (λ U H Q E h=>?_) [QH]);·obtain⟨a,o,rfl,_⟩:=h;rfl
 obtain⟨a,o,rfl,ha,r,k⟩:=h;rw[46,[y8,ug (i:=1) (own:=[("weight",2)]) J nd J J (rD J J J J) (dj (oH wz (pv 0) pQ (nh (ro rp bu)))) [Ad,FP,uL,"weight",2] [Lv,2] [NP] (λ _ _ _ _ _=>[De,Vb J,B.max,Rz,[Cr,2,b8 J g r1]]),ry L1 (by rfl) B.tuple PyProof.Rows.boot_tuple (ak (cj wC (pv 1) (oH wz (pv 0) (nh (ro rp bu)) pQ)) aB)],⟨_,J,_,J,_,J,a,_,J,ha,[ro]⟩];have e0:[CN,aJ o]=aJ o.dropLast:=by rw[AE,←Bx]
 show∃b,(V.ref p)=(V.ref b)∧_;have Y:ah H (ag H p (.aj [CN,aJ o])):=[cm,H,R];have O:bD H (ag H p (.aj [CN,aJ o])):=[DZ].ag J;have I:(ag H p (.aj [CN,aJ o])) p=Z (.aj (aJ o.dropLast)):=[ar,e0,aw];refine⟨p,J,[nj,I],?_⟩;have F:[cY,aJ o.dropLast,1000]:=by rw[aC,IQ];omega
 generalize hH1:ag H p (.aj [CN,aJ o])=H1 at Y O I;intro D y;refine[Dv,Qn,ax.of I,y,[pH,F],λ x L Q1 Q2 d q l q2=>?_];·rw[143,d];rw[0,J,aV (B:=Q2 L) ⟨_,J,_,_,J,l J⟩]
 rw[[Du]];have e1:(aJ o.dropLast).map Qn=aJ [Ij]:=by show _=qK nV [Ij];rw[118,λ n _=>?_];show(V.int [JP,[rc]>[cQ],[cQ]])=[Kl,max n 1];congr 1;split<;>omega
 rw[e1];have m:ah H1 [DI,aJ [Ij]]:=[cm,H1,y];have u:bD H [DI,aJ [Ij]]:=O.ag J;have W:(ag H1 D (.aj (aJ [Ij]))) D=Z (.aj (aJ [Ij])):=aw;generalize[DI,aJ [Ij]]=M at m u W⊢;have S:ax K M a (aJ o):=[tX,m].seq ha;refine⟨_,J,_,J,_,J,_,J,a,_,J,S,λ b e=>?_⟩;have e2:[E7,aJ o,-1]=aJ (o.drop (o.length-1)):=by rw[aaK,aC,←SD]
 have q:ah M (ag M b (.aj [E7,aJ o,-1])):=[cm,M,e];have G:bD H (ag M b (.aj [E7,aJ o,-1])):=u.ag J;have T:(ag M b (.aj [E7,aJ o,-1])) b=Z (.aj (aJ (o.drop (o.length-1)))):=[ar,e2,aw];generalize ag M b (.aj [E7,aJ o,-1])=L at q G T⊢;refine⟨D,b,_,_,J,J,q _ _ W,T,?_,λ c j=>?_⟩;·rw[aC,aC,aC,IQ,lQ];exact[zB,bf,_,2000]
 have e3:aJ [Ij]++aJ (o.drop (o.length-1))=aJ (Vs.h7 o):=by unfold Vs.h7;rw[←cH]
 rw[e3];have z:ah L (ag L c (.aj (aJ (Vs.h7 o)))):=[cm,L,j];have N:bD H (ag L c (.aj (aJ (Vs.h7 o)))):=G.ag J;have X:(ag L c (.aj (aJ (Vs.h7 o)))) c=Z (.aj (aJ (Vs.h7 o))):=aw;generalize ag L c (.aj (aJ (Vs.h7 o)))=H4 at z N X⊢;refine[em,c,_,[wB,ax.of X,Pw _,λ t ht=>k t _ (([tX,m].trans q).trans (z.trans [cm,H4,ht])) (N.ag (aaJ _)) aw]]
end
end VP
end
section
namespace VP
open PySem L2
theorem aaM(e:aF){X:Cx}{x y:Str}{b t p:Pos}{k:Nat}(i j:Nat)(V:[sK])(v:X.N.Nodup)(O:X.N[i]?=Z x)(U:X.N[j]?=Z y)(A:[Fj,Loc])(a:Loc X.env.scope y)(d:[OO])(f:X.fn y=true∨[Kp,y]=[wE])(c:X.K=e:=by rfl):PG X (.Tuple [[tW,b],.Name y t] k p) (Lj e 2 (CT (iX i) (CT (iX j) Li))):=by subst c;exact oD V (gM (b9 v O A d) (gM (b9 v U a f) oC))
theorem aaN{K:aF}{a b:ab}{xs ys:[aK]}{g:TG}{B:TT}{u:TE}{U:[ak]}{w:St}{h:Hp}{D:ab}{Q:[Dr]}(P:[yi,Hp])(I:P 0 [nF,h,D])(X:∀i H,P i H→ax K H a xs∧ax K H b ys)(f:∀y∈ys,[aw,dD y])(G:∀i x y T H,[b9,xs[i]?=Z x,ys[i]?=Z y,H T=none,P i H,g (.ref T) [z_] [pD,H,T,x,y] λ q M=>[K5,q,u,P (i+1) [LZ],P (i+1) L]])(j:∀H,P [Pf] H→Q H):[Qr,[Qu,h,wU K a b,∃v:[Dr],(∀d,v d→∃S,S<m∧W (i+1) S d)∧∀x d,(wU K a b).j1 i H x d→g x [z_] d λ q M=>[K5,q,u,v [LZ],v L]]]:=by
 rw[162,[Pf]];obtain⟨n,o⟩:=X i H p;by_cases s:i<[Pf];·have c:i<xs.length:=[ac];have r:i<ys.length:=[ac];refine[zQ,⟨xs,ys,xs[i],ys[i],n,o,bX c,bX r,f _ (BC r)⟩,P (i+1),λ d E=>[d9,[Pf]-(i+1),[ac],s,E],λ z d l=>?_];obtain⟨T,x,y,rfl,Y,rfl,A,k⟩:=l;exact G i x y T H (A xs n) (k ys o) Y p
 ·have e:i=[Pf]:=[ac];rw[121,⟨xs,ys,n,o,[ac]⟩,j H p]
theorem su(c:Nat):∀(r w x:[ak]),x∈bG c r w→x.length≤w.length+r.length
 |[],w,x,h=>by simp[bG]at h;subst h;simp
 |d::r,w,x,h=>by
  unfold bG at h;split at h
  ·rw[136];·simp
   ·have:=su c r [] x h;simp at this⊢;omega
  ·have:=su c r (w++[d]) x h;simp at this⊢;omega
def fG(l:[ak]):[ak]:=[Aq,[Fx].zip ((dW l).drop 1),kO x.1 x.2]
def gA(l:[ak]):Nat:=jE ((dW l).headD [])
def sv(l:[ak]):Nat:=[JP,[Fx]≠[]∧(dW l).headD []=[],2]
def qm(l:[ak]):Bool:=([aN,[Fx]≠[]]&&([aN,(dW l).getLast?=Z []]||[aN,(dW l).getLast?=Z [109]]))
def kf(l:[ak]):Vs.Shape:=(sv l,if qm l then[(1,gA l,Vs.h7 [JX]),(2,gA l,Vs.h7 (fG l))]else[(0,gA l,Vs.h7 (fG l))])
theorem Qo(l:[ak]):dW l≠[]:=vk 97 _ []
theorem Qp{l x:[ak]}(h:x∈dW l):[DX,x.length]:=by rw[105,su 97 _ [] x h]
theorem FQ:∀(p:Nat)(W:[ak]),[cY,d_ p W,W.length]
 |_,[]=>[bB,d_]
 |p,[c]=>[ar,d_,FA p c]
 |p,c::d::r=>by
  rw[d_];split;·have:=FQ d r;rw[18]
  ·have g:=FA p c;have a:=FQ c (d::r);simp at a⊢;omega
theorem aaO(x:[ak]):[C8,(V.str (tx x))=(V.str ("":Str)),x=[]]:=by
 rw[AU,dH,dw,dw];rw[7];·intro h;injection h with h;exact AO h
 ·intro h;rw[h]
theorem aaP(x:[ak]):i2 [iw,x] [.str "",.str "m"]=([aN,x=[]]||[aN,x=[109]]):=by
 unfold i2;rw[AU,[dA,("m":Str),tx [109],[bE]]];simp only[k8,SI,Fz,yN];have g:∀a:[ak],[C8,a=x,x=a]:=λ a=>by rw[dH,dw,dw];rw[0,Eq.symm,Eq.symm]
 rw[g,g]
section
variable{P:aY}{w:aU}{K:aF}{mg:[a_]}{base:aE}
structure Qq(mg:[a_]):Prop where
 any:Cn mg "ANYHOW" 0
 aaQ:Cn mg "WITH_VOWEL" 1
 out:Cn mg "WITHOUT_VOWEL" 2
def FR:[bj]:=["word","sounds","vowels","clusters","lead",[B3],"begins","passed_over","whole","vowel",[AT]]
theorem Qr:bQ FR [zt] (aZ uK):=[cj]
def FT:Sp:=λ U H Q _=>∃(W:[ak]),U=[[iw,W]]∧W.length≤900∧∀a m,ah H m→bD H m→[zI,ji m a (kf (d_ 0 W)),m]
theorem aaR{f fSs fV fC fW fVw fSt:ab}{fd fdSs fdV fdC fdW fdVw fdSt:bq}(D0:[ln,"shape_of",uK,fd,[zt]])(B:el mg)(Bg:Qq mg)(D1:[gh,"sounds_of",xC,fSs,fdSs,[zt]])(G1:aA P w K mg base aG 2 fSs fdSs [zt] FC)(D2:[gh,"vowels_of",uI,fV,fdV,[xQ]])(G2:aA P w K mg base aG 1 fV fdV [xQ] FJ)(D3:[gh,"clusters_of",xE,fC,fdC,[xQ]])(G3:aA P w K mg base aG 1 fC fdC [xQ] FK)(D4:[gh,"weight_of",uJ,fW,fdW,[[AT]]])(G4:aA P w K mg base aG 1 fW fdW [[AT]] AY)(D5:[gh,"vowel_weight",xG,fVw,fdVw,[IR]])(G5:aA P w K mg base aG 2 fVw fdVw [IR] FN)(I:[gh,"settled",uL,fSt,fdSt,[[B3]]])(G6:aA P w K mg base aG 1 fSt fdSt [[B3]] (AZ K)):aA P w K mg base aG 3 f fd [zt] FT:=by
 have nd:FR.Nodup:=Qr.nd;obtain⟨u0,h0,r0⟩:=Bg.any;obtain⟨u1,g,r1⟩:=Bg.aaQ;obtain⟨u2,h2,r2⟩:=Bg.out;rw[60,D0.fn.ok,Qr];·obtain⟨W,rfl,_⟩:=h;rfl
 obtain⟨W,rfl,hlen,k⟩:=h;have F:cy 1 _:=[yf,1,2];rw[27,[Eg,1,[Co,G1,hr,D1.mg,D1.fn.kp,D1.b,0],2,[Co,G2,F,D2.mg,D2.fn.kp,D2.b,1],[Eg,3,[Co,G3,F,D3.mg,D3.fn.kp,D3.b,1],4,dA G4 F J D4.mg D4.fn.kp D4.b .nil bH (ak (fQ ni (pv 3) bu (λ _ _=>J)) aB),aK (ug (i:=5) (own:=[("vowel",9),([AT],10)]) J nd J J (rD J J J J) (Ww (by rfl) B.zip [Cr,2,oH wz (pv 3) (nh bu) pQ]) (@eg.mk FR (aZ uK) _ [("vowel",9),([AT],10)] J [bE] [bE] [bE] [bE]) (λ _ _ _ _ _=>aaM K 9 10 J nd J J (aR J) (aR J) (gq J) (gq J)) [NP] (λ _ _ _ _ _=>[ED,G5,hr,D5.mg,D5.fn.kp,D5.b,pv 9,[gv,10]])) [Ea,6,wh (PW.pt (lu (C8 (pv 2) (λ _=>J)) (oB [dU,e_,fQ ni (pv 3) bu (λ _ _=>J),fy]))) (b8 J g r1) (b8 J h2 r2),cI (PW.pt (lu (C8 (pv 2) (λ _=>J)) (oB (cm Dr (fQ ni (pv 3) (ro rp bu) (λ _ _=>J)) [pT,fy,ak fy aB] J)))) [Ea,7,[pT,b8 J g r1,[Cr,4,dA G6 F J I.mg I.fn.kp I.b .nil bH (ak (oH wz (pv 5) pQ (nh (ro rp bu))) aB)]],[ui,8,[pT,b8 J h2 r2,[Cr,4,[Co,G6,F,I.mg,I.fn.kp,I.b,5]]]],[pT,pv 6,ak [pT,pv 7,[gv,8]] aB]] cQ,[pT,pv 6,ak (ff (ak [pT,b8 J h0 r0,[Cr,4,[Co,G6,F,I.mg,I.fn.kp,I.b,5]]] aB)) aB]]]]];generalize hl0:d_ 0 W=l at k;have hll:[pQ,900]:=by rw[38,FQ 0 W,hl0];omega
 rw[41,[zH,W,[ac],?_],hl0];rw[3,[zH,l,[ac],λ va H1 s1 p1 hva=>?_],[zH,l,[ac],λ M hca=>?_]];have s2:ah H1 (ag H1 M (.aj [F_])):=[cm,H1,hca];have p2:bD H (ag H1 M (.aj [F_])):=p1.ag J;have R:(ag H1 M (.aj [F_])) M=Z (.aj [F_]):=aw;generalize ag H1 M (.aj [F_])=H2 at s2 p2 R⊢;have hva2:=s2 _ _ hva;obtain⟨C,cr,ecl⟩:∃C cr,dW l=C::cr:=by cases e:dW l with|nil=>rw[8,e,Qo l]|cons a b=>rw[1,a,b,J]
 have hc0:C.length≤900:=bf (Qp [ar,ecl,cq]) hll;have uu:[F_][0]?=Z [pi,C]:=[hJ,ecl];have elead:gA l=jE C:=by unfold gA;rw[ecl];rfl
 refine⟨_,J,M,_,_,[pi,C],J,J,(ax.of R),[zh,0,uu],C,J,[ac],?_⟩;rw[←elead];refine⟨_,J,_,J,1,J,M,_,J,(ax.of R),λ pb hpb=>?_⟩;have e1:[E7,[F_],1]=[Lw]:=by have:=Oa [F_] 1;rw[←SD]at this;rw[58]
 rw[e1];have s3:ah H2 (ag H2 pb (.aj [Lw])):=[cm,H2,hpb];have p3:bD H (ag H2 pb (.aj [Lw])):=p2.ag J;have S:(ag H2 pb (.aj [Lw])) pb=Z (.aj [Lw]):=aw;generalize ag H2 pb (.aj [Lw])=H3 at s3 p3 S⊢;have U:=s3 _ _ hva2;have hca3:=s3 _ _ R;have hwlen:[cY,fG l,900]:=by unfold fG;rw[aC,yI];rw[10,nO gm l]
 refine⟨va,pb,_,_,J,(ax.of U),(ax.of S),λ D hD=>aaN (K:=K) (xs:=mD [Fx]) (ys:=[Lw]) (λ j m=>ah H3 m∧bD H m∧m D=Z (.aj (aJ ((fG l).take j)))) ⟨[cm,H3,hD],p3.ag J,aw⟩ (λ j m⟨s',_⟩=>⟨[pc,s',U],[pc,s',S]⟩) (λ y hy=>?_) ?_ ?_⟩;·obtain⟨x,_,rfl⟩:=[bp,hy];rfl
 ·rintro j x y T m hx hy hT⟨s',p',hD'⟩;obtain⟨v,hv,rfl⟩:∃v,[Fx][j]?=Z v∧x=[pi,[v]]:=by unfold mD at hx;rw[cJ]at hx;cases q:[Fx][j]? with|none=>rw[q]at hx;cases hx|some v=>rw[q]at hx;rw[22,v,[nr,hx]]
  obtain⟨c,hc,rfl⟩:∃c,((dW l).drop 1)[j]?=Z c∧y=[pi,c]:=by rw[cJ]at hy;cases q:((dW l).drop 1)[j]? with|none=>rw[q]at hy;cases hy|some v=>rw[q]at hy;rw[22,v,[nr,hy]]
  have hcl:c.length≤900:=bf (Qp (RP (bt hc))) hll;have hw:(fG l)[j]?=Z (kO v c):=by unfold fG;have hz:([Fx].zip ((dW l).drop 1))[j]?=Z (v,c):=[ar,Rx,⟨hv,hc⟩];rw[cJ,hz];rfl
  have sT:ah m [pD,m,T,[pi,[v]],[pi,c]]:=[cm,m,hT];have hD2:=sT _ _ hD';refine⟨T,_,J,bM.of aw,J,_,_,J,_,_,J,J,J,?_⟩;refine⟨_,J,_,J,v,c,J,[ac],_,hD2,?_,?_,?_,?_⟩;·rw[12,aC,jJ,[zB,eR,_,900]]
  rw[2,ah.aT (s'.trans sT) hD,(p'.ag J).ag J];·rw[aw,fH,hw];show Z (HO.aj (aJ ((fG l).take j)++aJ [kO v c]))=_;rw[←cH];rfl
 ·rintro d⟨s5,p5,N⟩;have emin:min [fy,mD,[Fx]] [Lw].length=[fy,fG,l]:=by unfold mD fG;rw[aC,aC,aC,yI]
  rw[emin,fZ]at N;have hva5:=s5 _ _ U;have hca5:=s5 _ _ hca3;have sH5:ah H d:=(([Ac,s2].trans s3).trans s5);generalize hvw:[Fx]=vw at*;have emp:∀{xs:[ak]},((!(mD xs).isEmpty)=[aN,xs≠[]]):=λ{xs}=>by cases xs<;>rfl
  have hbeg:∀(Q':VK),Q' (nV (sv l)) d→Lf (Lc (λ σ H Q=>cv 2 σ H λ x m=>∃k,C7 K x m k∧Q k m) (uc (h9 Lr (h9 (LY K) (cv 3) (tC (.int 0))) (tC (.str ""))))) (tC (nV 1)) (tC (nV 2)) [Z [iw,W],Z [iw,l],[bV,va],[bV,M],Z (nV (gA l)),[bV,D],none,none,none,none,none] d Q':=λ Q' u=>by
   rw[79,⟨_,J,_,.inl [p_,ax.of hva5],?_⟩,!(mD vw).isEmpty];rw[emp];unfold sv at u;rw[hvw,ecl]at u;by_cases g:vw=[];·rw[bW (by rw[75])];rw[aD (λ z=>z.1 g)]at u;exact a_ (a_ u)
   ·rw[bK g];rw[33,aV ⟨_,J,M,_,_,[pi,C],J,J,(ax.of hca5),[zh,0,uu],J,_,J,?_⟩,(V.str (tx C))=(V.str ("":Str))];rw[aaO];have hh:(C::cr).headD []=C:=J;rw[hh]at u;by_cases h2:C=[];·rw[bK h2];rw[aI ⟨g,h2⟩]at u;exact aV u
    ·rw[bW h2];rw[aD (λ z=>h2 z.2)]at u;exact a_ u
  refine hbeg _ ?_;have eel:qm l=([aN,vw≠[]]&&([aN,(dW l).getLast?=Z []]||[aN,(dW l).getLast?=Z [109]])):=by unfold qm;rw[hvw]
  have one:∀(p:Hp),(ah d p→bD H p→qm l=false→rj (ng (dc (cv 6) (dc (ng (dc (ng (dc (tC (nV 0)) (dc (cv 4) (dc (LI (AZ K) [] E0 (dc (cv 5) gw)) gw)))) gw)) gw))) {nx:=λ x m=>Q V.bh m,rt:=Q} [Z [iw,W],Z [iw,l],[bV,va],[bV,M],Z (nV (gA l)),[bV,D],Z (nV (sv l)),none,none,none,none] p):=λ p s6 p6 he=>by refine⟨_,J,_,J,_,J,D,fG l,J,[pc,s6,N],[ac],λ t H7 s7 p7 ht=>?_⟩;have p7':bD H H7:=p6.trans p7 s7;refine⟨[rF,3,J],λ q hq=>⟨[rF,1,J],λ r hr'=>⟨[Bi],[K4]⟩⟩⟩;have sq:ah H7 (ag H7 q [Cm,0,t]):=[cm,H7,hq];have sr:=ah.aT (o:=.tup [eD,q]) (ah.refl (ag H7 q [Cm,0,t])) hr';have sa:=ah.aT (o:=[ii,nV (sv l),V.ref r]) (ah.refl (ag (ag H7 q [Cm,0,t]) r (.tup [eD,q]))) ha;refine k a _ (((sH5.trans s6).trans s7).trans ((sq.trans sr).trans sa)) (((p7'.ag J).ag J).ag J) ?_;unfold kf;rw[4,he,⟨r,[.ref q],aw,sa _ _ aw,[qu,[d9,q,t,sa _ _ (sr _ _ aw),sa _ _ (sr _ _ (sq _ _ ht))]]⟩]
  rw[79,⟨_,J,_,.inl [p_,ax.of hva5],?_⟩,!(mD vw).isEmpty];rw[emp];by_cases g:vw=[];rw[11,bW (by rw[75]),a_ (a_ (one d (ah.refl d) p5 (by rw[eel];simp[g])))];rw[bK g];obtain⟨ci,cz,ecz⟩:=Vs.qU (Qo l);have elast:((dW l).getLast?=Z cz):=by rw[ecz,RS]
  refine aV ⟨_,J,_,J,M,_,_,[pi,cz],J,J,(ax.of hca5),?_,[Bi],λ t ht=>?_⟩;·show kB [F_] (-1)=Z [pi,cz];rw[12,ecz,cH,Dl _ _]
  have s6:ah d [O5,d,"","m"]:=[cm,d,ht];have p6:bD H [O5,d,"","m"]:=p5.ag J;have ht6:(ag d t [ii,V.str "",V.str "m"]) t=Z [ii,V.str "",V.str "m"]:=aw;generalize[O5,d,"","m"]=p at s6 p6 ht6⊢;rw[79,⟨t,_,J,.inr (bM.of ht6),J,J,_,J,?_⟩,i2 [pi,cz] [.str "",.str "m"]];rw[aaP];have eel2:qm l=([aN,cz=[]]||[aN,cz=[109]]):=by rw[eel,elast,bK g];simp
  rw[←eel2];cases he:qm l with
   |false=>exact a_ (one p s6 p6 he)
   |true=>
    refine aV ⟨_,J,_,J,_,J,_,J,D,_,J,[pc,s6,N],λ b hb=>?_⟩;have e2:[CN,aJ (fG l)]=aJ [JX]:=by rw[AE,←Bx]
    rw[e2];have s7:ah p (ag p b (.aj (aJ [JX]))):=[cm,p,hb];have p7:bD H (ag p b (.aj (aJ [JX]))):=p6.ag J;have hb7:(ag p b (.aj (aJ [JX]))) b=Z (.aj (aJ [JX])):=aw;generalize ag p b (.aj (aJ [JX]))=H7 at s7 p7 hb7⊢;refine⟨b,[JX],J,(ax.of hb7),[gL,IQ],λ t1 H8 s8 p8 ht1=>⟨[rF,3,J],λ n hq1=>?_⟩⟩;have p8':bD H H8:=p7.trans p8 s8;have s9:ah H8 (ag H8 n [Cm,1,t1]):=[cm,H8,hq1];have p9:bD H (ag H8 n [Cm,1,t1]):=p8'.ag J;have hq19:(ag H8 n [Cm,1,t1]) n=Z [Cm,1,t1]:=aw;generalize ag H8 n [Cm,1,t1]=H9 at s9 p9 hq19⊢;have sD9:ah d H9:=((s6.trans s7).trans (s8.trans s9));refine⟨_,J,_,J,D,fG l,J,[pc,sD9,N],[ac],λ t2 L s10 p10 ht2=>⟨[rF,3,J],λ X hq2=>?_⟩⟩;have p10':bD H L:=p9.trans p10 s10;have O:ah L (ag L X [Cm,2,t2]):=[cm,L,hq2];have p11:bD H (ag L X [Cm,2,t2]):=p10'.ag J;have Y:(ag L X [Cm,2,t2]) X=Z [Cm,2,t2]:=aw;generalize ag L X [Cm,2,t2]=G at O p11 Y⊢;refine⟨_,J,_,J,_,J,[Bi],λ r hr'=>⟨[Bi],[K4]⟩⟩;have sr:ah G [pD,G,r,V.ref n,V.ref X]:=[cm,G,hr'];have sa:=ah.aT (o:=[ii,nV (sv l),V.ref r]) (ah.refl [pD,G,r,V.ref n,V.ref X]) ha;have sf:=sr.trans sa;refine k a _ ((sH5.trans sD9).trans ((s10.trans O).trans sf)) ((p11.ag J).ag J) ?_;unfold kf;rw[4,he,⟨r,[.ref n,.ref X],aw,sa _ _ aw,[zC,[d9,n,t1,sf _ _ (O _ _ (s10 _ _ hq19)),sf _ _ (O _ _ (s10 _ _ (s9 _ _ ht1)))],[d9,X,t2,sf _ _ Y,sf _ _ (O _ _ ht2)]]⟩]
end
end VP
end
section
namespace VP
open PySem L2
theorem vl{X:Cx}{E:XK}:oG (dt X.prog X.w) (X.iu λ e d=>XS X E e d) E:=λ B w H s e d I c=>XS.callee (X:=X) I.lx c
def yp:[ak]:=[97,98,99,100,101,102,103,104,105,106,107,108,109,110,111,112,113,114,115,116,117,118,119,120,121,122,65,69,73,79,85,89]
theorem aaS:("abcdefghijklmnopqrstuvwxyzAEIOUY":Str)=tx yp:=[bE]
theorem FU(c:Nat):c∈yp↔Kgz1.isLetter c=true:=by unfold yp Kgz1.isLetter k7;rw[18]
def vm(l:[ak]):Prop:=(∀c∈l,c∈yp)∧[DX,1]∧[pQ,23]
section
variable{P:aY}{w:aU}{K:aF}{mg:[a_]}{base:aE}
structure FV(mg:[a_]):Prop where
 aaT:Cs mg "LETTERS" "abcdefghijklmnopqrstuvwxyzAEIOUY"
 aaU:Cn mg "MOST_LETTERS" 23
 aaV:Cn mg "MOST_STOCK" 64
 aaW:Cn mg "MOST_IN_ROW" 12
def FW(K:aF)(B:ab):Sp:=λ U H Q E=>∃(a:ab)(k:[ak]),[Ec,U=[rD],a,aJ k,k.length≤aQ,vm k→[Mi,Q [iw,k] m],¬vm k→[Mi,E (.ref B) none m]]
theorem aaX{f m c:ab}{v t:bq}(D:[ln,"read_word",xB,v,[[rq]]])(B:el mg)(C:FV mg)(l:[Rb,c])(q:[gh,"text_of",qa,m,t,[E5]]):aA P w K mg base [jp] 2 f v [[rq]] (FW K c):=by
 have nd:=NN.nd;have n:aA P w K mg base aG 1 m t [E5] (AS K):=Qa q B;obtain⟨R,g,d⟩:=C.aaT;obtain⟨N,r,S⟩:=C.aaU;rw[aaS]at d;rw[53,D.fn.p0,NN,λ j A outer s H U Q E u h G X=>?_];·obtain⟨a,k,rfl,_⟩:=h;rfl
 obtain⟨a,k,rfl,ha,e,o,p⟩:=h;rw[46,[Es,1,[ED,n,u,q.mg,q.fn.kp,q.b,pv 0,ak (b8 J g d) aB],[lA,[KS,[dU,C6,pv 1,pL],rg (zN iI iI bu [yw,1] (b8 J r S))],[Fh,l,G]]],⟨_,J,a,k,yp,J,ha,e,[bd],λ I b Y O=>?_,λ I b Y O=>?_⟩]
 ·refine[wY,a_ ?_];rw[33,⟨_,J,_,k.length,J,⟨[ar,d9,e],by rw[d9]⟩,_,_,J,J,_,J,?_⟩,[xz,1,k.length]];by_cases g:1≤k.length;·rw[159,k.length,23];by_cases r:k.length≤23;rw[40,[wh],[Al,o ⟨I,g,r⟩ b Y O],[ol],aV [Na,λ z=>r z.2.2,b]]
  rw[11,[ol],[Al,aV [Na,λ z=>g z.2.1,b]]]
 ·exact[wY,aV (aV [Na,λ z=>I z.1,b])]
def FY:[bj]:=["stock","most",[rq]]
theorem Qs:bQ FY [LM] (aZ uH):=[cj]
def mE(S:List [ak])(most:Nat):Prop:=[bn,1≤S.length,[M_],1≤most,most≤12,∀w∈S,vm w]
def cx(S:List [ak]):[aK]:=S.map λ w=>[pi,w]
def FZ(K:aF)(B:ab):Sp:=λ U H Q E=>∃(a:ab)(c:[aT])(S:List [ak])(most:Nat),[bn,U=[[bi],[vg]],ax K H a [J5],Paired (λ b k=>∀m,ah H m→ax K m b (aJ k)) c S,∀w∈S,w.length≤aQ,S.length≤aQ∧[Qt,mE S most,∀l m,[Tg,l,.aj (cx S),[io]],E (.ref B) none m]]
theorem aaY{f F k:ab}{v y:bq}(D0:[ln,"read_stock",uH,v,[LM]])(B:el mg)(C:FV mg)(X1:[Rb,k])(U:[gh,"read_word",xB,F,y,[[rq]]])(GW:aA P w K mg base [jp] 2 F y [[rq]] (FW K k)):aA P w K mg base [jp] 3 f v [LM] (FZ K k):=by
 have nd:FY.Nodup:=Qs.nd;obtain⟨u1,g,r1⟩:=C.aaV;obtain⟨u2,h2,r2⟩:=C.aaW;refine D0.fn.p0 Qs [L9] (λ cdv A outer s H vs Q E hr h o hP=>?_);·obtain⟨a,l,S,most,rfl,_⟩:=h;rfl
 obtain⟨a,l,S,most,rfl,ha,I,T,hsl,kY,kN⟩:=h;rw[54,[lA,[KS,rg (zN iI iI bu [yw,0] (b8 J g r1)),rg (zN iI iI bu (pv 1) (b8 J h2 r2))],[Fh,X1,o]],[rE,M_ [ge,J] o (own:=[([rq],2)]) J nd (dj (pv 0)) [Ad,FY,uH,[rq],2] [Lv,2] [NP] (λ _ _ _ _ _=>dA GW hr J U.mg U.fn.kp U.b .nil vl [gv,2])]];have X:l.length=S.length:=er I;have R:[Mi,¬mE S most→uo E H (.ref k) none m]:=λ m Y O g=>⟨kN g m Y O,O⟩
 have G:¬mE S most→uo E H (.ref k) none H:=R H (ah.refl H) [DZ];rw[33,⟨_,J,_,S.length,J,[wB,_,ha,by rw[aC,X]],_,_,J,J,_,J,?_⟩,[xz,1,S.length]];by_cases a1:1≤S.length
 ·rw[159,S.length,64];by_cases a2:[M_]
  ·rw[[wh]];rw[33,a_ ⟨_,J,_,_,J,J,_,J,?_⟩,[xz,1,most]];by_cases n:1≤most
   ·rw[159,most,12];by_cases u:most≤12
    ·rw[13,[wh],a_ [zH,a,[gt,ha],λ D r=>[m6,pW,a,l.map V.ref,λ j m=>(ah H m∧bD H m∧m D=Z (.aj (cx (S.take j)))∧∀w∈S.take j,vm w),⟨[mt,r],[DZ].ag J,aw,[al]⟩,λ j m _⟨s',_⟩=>s'.seq ha]]]
     ·rintro j x d hx⟨Y,O,N,aH⟩;obtain⟨b,hb,rfl⟩:=lG hx;obtain⟨p,c,W⟩:=d6 I hb;have hjl:=[eJ,c];have L:S.take (j+1)=S.take j++[p]:=[jl,fH,c];rw[3,[lu,⟨_,J,b,p,J,W d Y,T p (bt c),λ hy M e t=>?_,λ hn M e t=>R M [tX,e] (O.trans t e) (λ z=>hn (z.2.2.2.2 p (bt c)))⟩],⟨_,e _ _ N,?_,(ah.aT [tX,e] r),(O.trans t e).ag J,?_,?_⟩];·unfold cx;rw[12,aC,jJ,[zB,eR,_,64]]
      ·rw[aw,L];unfold cx;rw[cH];rfl
      ·rw[L];intro w hw;rw[92,[gM,hw],aH w q];·rw[113];exact hy
     ·rintro d⟨Y,O,N,aH⟩;rw[aC,X,fZ]at N aH;exact kY ⟨a1,a2,n,u,aH⟩ D d Y O N
    rw[11,[ol],aV (G (λ z=>u z.2.2.2.1))]
   rw[11,[ol],[Al,aV (G (λ z=>n z.2.2.1))]]
  rw[11,[ol],aV (aV (G (λ z=>a2 z.2.1)))]
 rw[11,[ol],[Al,aV (aV (G (λ z=>a1 z.1)))]]
end
end VP
end
section
namespace VP
open PySem L2
section
variable{P:aY}{w:aU}{K:aF}{mg:[a_]}{base:aE}
def A0(b:ab):Sp:=λ U H Q E=>∃(l:[ak])(c most:Nat),[bn,U=[[iw,l],[Ep],[vg]],c<256,[pQ,1000],[qV,c].length≤most→∀a m,[wg,a,ah H m,bD H m,[zI,m a=Z (.aj [ww,c]),m]],¬[cY,[qV,c],most]→[Mi,E (.ref b) none m]]
theorem aaZ{f e:ab}{v:bq}(D:[ln,"split_up_to",uw,v,[EV]])(B:el mg)(k:[Mn,e]):aA P w K mg base [jp] 1 f v [EV] (A0 e):=by
 have nd:=Nv.nd;refine(D.fn.p0 Nv (λ U H Q E h=>?_) (λ j A outer s H U Q E u h G X=>?_));·obtain⟨l,c,most,rfl,_⟩:=h;rfl
 obtain⟨l,c,most,rfl,b,d,o,p⟩:=h;rw[27,[Es,3,Ae (pv 0) (pv 1),[lA,[dU,zL,[yw,3],pv 2],[Fh,k,G]]]];refine⟨_,J,[rg],_,J,tx l,[v0],J,J,J,[ar,d9,[Td]],[K4]⟩;have M:(oj (tx l) [v0]).map V.str=[ww,c]:=[jl,AV l c b,cP];rw[M];have Y:ah H (ag H a (.aj [ww,c])):=[mt,ha];have O:bD H (ag H a (.aj [ww,c])):=[DZ].ag J;have g:(ag H a (.aj [ww,c])) a=Z (.aj [ww,c]):=aw;generalize ag H a (.aj [ww,c])=H1 at Y O g⊢;have m:[cI,[ww,c],[qV,c].length]:=by unfold cx;rw[aC]
 rw[79,⟨_,J,_,[qV,c].length,J,[Lu,g,m],_,J,_,_,J,J,_,J,?_⟩,[aN,[ap,most]<[ap,[qV,c].length]]];by_cases h:[cY,[qV,c],most];rw[40,[ol],[Al,o h a H1 ha Y O g],[wh],aV [Na,h,H1]]
def gD(l:[ak]):Bool:=[aN,[DX,1]]&&([aN,[pQ,4]]&&[aN,[Oi]=l.length])
def F0:Sp:=λ U H Q _=>∃(l:[ak]),U=[[iw,l]]∧[pQ,1000]∧Q (.bl (gD l)) H
theorem aa0{f:ab}{v:bq}(D:[ln,"is_way",xg,v,[x_]])(B:el mg)(t:Cn mg "MOST_PLACES" 4):aA P w K mg base aG 1 f v [x_] F0:=by
 obtain⟨m,a,c⟩:=t;rw[53,D.fn.ok,XH,[EI]];·rw[140]
 obtain⟨l,rfl,b,k⟩:=h;rw[27,[rE,zC (U8 iI iI bu [yw,0] (b8 J a c)) (zB (lA e_ (cj gj (rG ID IE Ad (pv 0) fy) (rG ID IE Ad (pv 0) fy)) [yw,0] (ck _)))]];have q:[cY,tx l,aQ]∧l.length=[fy,tx,l]:=⟨[OJ,b],by rw[d9]⟩;unfold gD at k;rw[33,⟨_,J,_,l.length,J,q,_,_,J,J,_,J,?_⟩,[xz,1,l.length]];by_cases g:[DX,1]
 ·rw[[wh]];rw[bK g,yO]at k;rw[33,aV [Dy,_,J],[ap,l.length]≤[aV,4]];by_cases r:[pQ,4]
  ·rw[[wh]];rw[bK r,yO]at k;refine aV ⟨_,J,[rg],_,_,J,J,_,J,[rg],_,_,J,J,_,_,J,J,_,J,_,l.length,J,q,J,?_⟩;rw[[A4,"-",#[45]],[A4,"u",#[117]],AW,AW];have e:[C8,(V.int ([Ki,45]+[Ki,117]))=[zf,l.length],[Oi]=l.length]:=by rw[mh,dH,mS,dw];omega
   rw[39,Q (V.bl [aN,(V.int ([Ki,45]+[Ki,117]))=[zf,l.length]]) H,e,k]
  ·rw[[ol]];rw[bW r,Sq]at k;exact a_ k
 ·rw[[ol]];rw[bW g,Sq]at k;exact[Al,a_ k]
def F1:[bj]:=["text","ways","way"]
theorem Qt:bQ F1 [x_] (aZ ux):=[cj]
def sy(l:[ak]):Prop:=[cY,[qV,44],4]∧∀x∈[qV,44],gD x=true
def F3:V→V|.str z=>.bl (gD z.cps.toList)|_=>.bh
def F4(b:ab):Sp:=λ U H Q E=>∃(l:[ak]),U=[[iw,l]]∧[pQ,1000]∧[Qt,sy l,∀a m,[wg,a,ah H m,bD H m,[zI,m a=Z (.aj [ww,44]),m]],E (.ref b) none m]
theorem aa1{f o F m:ab}{v p C:bq}(D0:[ln,"read_foot",ux,v,[x_]])(B:el mg)(c4:Cn mg "MOST_WAYS" 4)(X1:[Mn,m])(R:[gh,"split_up_to",uw,o,p,[EV]])(GS:aA P w K mg base [jp] 1 o p [EV] (A0 m))(S:[gh,"is_way",xg,F,C,[x_]])(GW:aA P w K mg base aG 1 F C [x_] F0):aA P w K mg base [jp] 2 f v [x_] (F4 m):=by
 have nd:F1.Nodup:=Qt.nd;obtain⟨u4,h4,r4⟩:=c4;refine D0.fn.p0 Qt [L9] (λ cdv A outer s H vs Q E u h hX hP=>?_);·rw[140]
 obtain⟨l,rfl,k,kY,G⟩:=h;rw[27,[Es,1,dA GS u J R.mg R.fn.kp R.b .nil hP (ak (pv 0) [Ae,fy,b8 J h4 r4]),[lA,rg (iH [As,V3 J,B.all,PyProof.Rows.boot_all,jz (own:=[("way",2)]) J nd (dj (pv 1)) [Ad,F1,ux,"way",2] (λ _ _ _ _ _=>[pL,2]) (λ _ _ _ _ _=>iv) (λ _ _ _ _ _=>[Co,GW,u,S.mg,S.fn.kp,S.b,2])]),[Fh,X1,hX]]]];have U:((V.str (",":Str))=(V.str ⟨#[44]⟩)):=by rw[[A4,",",#[44]]]
 refine⟨_,J,l,44,4,[hJ,U],[bd],k,λ N a g I Y O ha=>?_,λ N g Y O=>⟨G (λ z=>N z.1) g Y O,O⟩⟩;have X:[cY,[ww,44],1000]:=by unfold cx;rw[31,aC]
 rw[61,a,J,[nj,ha],λ D r=>[Dv,F3,ax.of ha,r,[pH,X],λ x H3 Q1 Q2 c s3 n q2=>?_]]
 ·obtain⟨y,hy,rfl⟩:=[bp,c];have T:y.length≤1000:=by rw[84,su 44 l [] y hy]
  have n:=n J;have e:F3 [pi,y]=.bl (gD y):=by rw[14,V.bl (gD (tx y).cps.toList)=_,AQ]
  rw[e]at n;rw[0,J,aV (B:=Q2 H3) [zH,y,T,n]]
 rw[[Du]];rw[73,[ww,44].map F3=[yx,[Nq]],by unfold cx;rw[118,λ y _=>?_];rw[14,V.bl (gD (tx y).cps.toList)=_,AQ];rfl];have j:ah g (ag g D (.aj [yx,[Nq]])):=[cm,g,r];have t:bD H (ag g D (.aj [yx,[Nq]])):=O.ag J;have W:(ag g D (.aj [yx,[Nq]])) D=Z (.aj [yx,[Nq]]):=aw;generalize ag g D (.aj [yx,[Nq]])=M at j t W⊢;refine[Dy,D,ax.of W];cases q:[Nq].all id with|true=>refine[Al,kY ⟨N,λ x c=>?_⟩ a M I [tX,j] t (j _ _ ha)];rw[72,BA,q (gD x) [jz,x,c]]|false=>refine aV ⟨G [zr] M [tX,j] t,t⟩;rw[List.all_eq_false]at q;obtain⟨b,d,L⟩:=q;obtain⟨x,c,rfl⟩:=[bp,d];exact L (z.2 x c)
end
end VP
end
section
namespace VP
open PySem L2
theorem PS.jZ{X:Cx}{L:a9}{t:TS}(h:PS X.jZ L t):PS X L t:=λ B s w H D I T=>gG (h B s w H D (I.iu _) T) (λ f d q=>SP.lx q) λ _ _ z=>z.elim
def yq(n:Nat):Str:=(toString [aV,n]:String)
def sA(l:[ak])(most n:Nat):Prop:=1≤n∧n≤most∧yq n=tx l
section
variable{P:aY}{w:aU}{K:aF}{mg:[a_]}{base:aE}
def F5(a:ab):Sp:=λ U H Q E=>∃(l:[ak])(most:Nat),(U=[[iw,l],[vg]]∧most≤1000∧(∀n,sA l most n→Q (nV n) H)∧((¬∃n,sA l most n)→E [bi] none H))
theorem aa2{f d:ab}{v:bq}(D:[ln,"read_number",xj,v,[Ly]])(B:el mg)(k:[Mn,d]):aA P w K mg base [jp] 1 f v [Ly] (F5 d):=by
 have nd:=Ny.nd;rw[53,D.fn.p0,Ny,λ j A outer s H U Q E u h G X=>?_];·obtain⟨l,most,rfl,_⟩:=h;rfl
 obtain⟨l,most,rfl,N,o,p⟩:=h;rw[46,aK (PS.jZ [Ng,Ln (by rfl) B.range [Ae,bu,[zZ,pv 1]],2,[lA,[dU,e_,ry Vc (by rfl) B.str PyProof.Rows.boot_str [gv,2],pv 0],bB (pv 2)]]) (aN [Fh,k,G]),⟨_,J,_,_,J,J,_,_,J,⟨[bd],[bd],[ac],[ac]⟩,Lp (λ i a m=>∃e:[dL],a=[Z [iw,l],Z [vg],e]∧m=H∧∀n,1≤n→n<1+i→yq n≠tx l) [em,none,J,λ n g r=>[ac]] ?_ ?_⟩]
 ·rintro i a m O⟨e,rfl,rfl,W⟩;have O:i<most:=[ac];have ex:(V.int ([rc]+[lG]))=nV (1+i):=by show(V.int _)=(V.int _);congr 1
  rw[14,iX 2 (V.int ([rc]+[lG])) _ _ _,ex];generalize b:1+i=x at*;refine⟨_,J,[ap,x],J,?_,_,J,J,_,J,?_⟩;·rw[39,[ap,x].natAbs.log2<1920,Int.natAbs_natCast,eR (Nat.log2_le_self x) [ac]]
  show[wO,[aN,(V.str (yq x))=(V.str (tx l))]];by_cases h:yq x=tx l;rw[11,bK (by rw[h]),aV [de,o x ⟨[ac],[ac],h⟩]]
  ·rw[13,bW (λ z=>h (by injection z)),a_ [em,_,J,λ n g r=>?_]];by_cases w:n=x;·subst w;exact h
   ·exact W n g [ac]
 ·rintro a m⟨e,rfl,rfl,W⟩;rw[15,p ?_,bD.refl _];rintro⟨n,g,r,c⟩;exact W n g [ac] c
def IsCut(l:[ak])(R x y:Nat):Prop:=∃a b,[qV,46]=[a,b]∧sA a R x∧sA b 4 y
def F6(a:ab):Sp:=λ U H Q E=>∃(l:[ak])(R:Nat),[bn,U=[[iw,l],nV R],[pQ,1000],R≤1000,∀x y,IsCut l R x y→∀t m,[Tg,t,[ii,nV x,nV y],.ref t],(¬∃x y,IsCut l R x y)→[Mi,E [bi] none m]]
theorem aa3{f I g:ab}{v G:bq}(D:[ln,"read_cut",xh,v,[KG]])(B:el mg)(c4:Cn mg "MOST_PLACES" 4)(X1:[Mn,g])(N:[gh,"read_number",xj,I,G,[Ly]])(S:aA P w K mg base [jp] 1 I G [Ly] (F5 g)):aA P w K mg base [jp] 2 f v [KG] (F6 g):=by
 have nd:=Nw.nd;obtain⟨u4,b,r4⟩:=c4;refine(D.fn.p0 Nw (λ U H Q E h=>?_) (λ cdv A outer s H U Q E u h hX X=>?_));·obtain⟨l,R,rfl,_⟩:=h;rfl
 obtain⟨l,R,rfl,d,M,kY,p⟩:=h;rw[27,[Ea,2,Ae (pv 0) fy,[lA,[dU,rq,[yw,2],bu],[Fh,X1,hX]],[pT,dA S u J N.mg N.fn.kp N.b .nil X [Am,fQ ni (pv 2) bu (λ _ _=>J),1],ak (dA S u J N.mg N.fn.kp N.b .nil X [Ae,fQ ni (pv 2) bu (λ _ _=>J),b8 J b r4]) aB]]];have e0:(oj (tx l) (".":Str)).map V.str=[ww,46]:=by rw[[A4,".",#[46]],AV l 46 [bd],cP];rfl
 refine⟨_,J,[rg],tx l,_,J,J,J,[ar,d9,[Td]],[K4]⟩;rw[e0];have Y:ah H (ag H a (.aj [ww,46])):=[cm,H,ha];have O:bD H (ag H a (.aj [ww,46])):=[DZ].ag J;have o:(ag H a (.aj [ww,46])) a=Z (.aj [ww,46]):=aw;generalize ag H a (.aj [ww,46])=H1 at Y O o⊢;have z:[cI,[ww,46],[qV,46].length]:=by unfold cx;rw[aC]
 rw[79,⟨_,J,_,[qV,46].length,J,[Lu,o,z],J,_,J,?_⟩,[wK,[zf,[qV,46].length]=[Kl,2]]];rw[j5];by_cases r:[cI,[qV,46],2]
 ·rw[bK r];obtain⟨x,y,e⟩:∃x y,[qV,46]=[x,y]:=by match q:[qV,46],r with|[x,y],_=>rw[1,x,y,J]
  rw[e]at o;refine a_ ⟨_,J,a,_,_,[pi,x],J,J,(ax.of o),[zh,0,J],_,J,x,R,J,M,λ n hn=>?_,λ hn=>[Na,λ⟨W,F,C,k,c,m,T⟩=>?_,H1]⟩
  ·refine⟨_,J,a,_,_,[pi,y],J,J,(ax.of o),[zh,1,J],y,4,J,[bd],λ n' L=>?_,λ L=>[Na,λ⟨W,F,C,k,c,m,T⟩=>?_,H1]⟩;·rw[0,[Bi],λ t ht=>kY n n' ⟨x,y,e,hn,L⟩ t _ [tX,[cm,H1,ht]] (O.ag J) aw]
   ·rw[e]at c;rw[6,c,L ⟨F,T⟩]
  ·rw[e]at c;rw[6,c,hn ⟨W,m⟩]
 ·rw[13,bW r,aV [Na,λ⟨W,F,C,k,c,m,T⟩=>r [hJ,c],H1]]
def F7(b:ab):Sp:=λ U H Q _=>∃(p W x n:ab),U=[Kr,p,x,n]∧H p=[ff,b,[]]∧Q .bh (ag H p (.ins b W (mB.zip [.ref x,.ref n])))
theorem aa4{f b:ab}{v:bq}(I:iM K "Measure.__init__" xf b f v [Lh])(T:[PP,b]):aA P w K mg base aG 1 f v [Lh] (F7 b):=by
 rw[100,XG,[EI]];·obtain⟨p,W,x,n,rfl,_⟩:=h;rfl
 obtain⟨p,W,x,n,rfl,R,q⟩:=h;rw[54,[uh,pv 1],aN [uh,pv 2]];have M:[LO,mB.zip]:=[al];rw[M]at R;rw[57,[de,[FQ,R,[zV,aw]]],iW,q]
end
end VP
end
section
namespace VP
open PySem L2
theorem Qu(K:aF){X:Cx}(h:X.K=K:=by rfl):[CJ,[jb,"len"],∃x n,N=[x]∧Lz K x H n∧Q (.int n) H]:=by subst h;exact gv
def qo:[ak]:=[45,117,124,44,59,46,48,49,50,51,52,53,54,55,56,57]
theorem aa5:("-u|,;.0123456789":Str)=tx qo:=[bE]
def sC(x:[ak]):[lB]:=x.map λ c=>c==45
def kP(x:[ak]):[Nj]:=(bG 44 x []).map sC
def mF(f:[ak])(s:[Eu]):Prop:=[cY,bG 124 f [],16]∧(∀x∈bG 124 f [],sy x)∧s=(bG 124 f []).map kP
def sE(c:[ak])(n:Nat)(S:[nk]):Prop:=([cY,bG 44 c [],8]∧(Paired (λ x(p:[xP])=>IsCut x n p.1 p.2) (bG 44 c []) S))
def kg(l:[ak])(m:bT):Prop:=((∀c∈l,c∈qo)∧[DX,1]∧[pQ,255]∧((∃f,[qV,59]=[f]∧mF f m.feet∧m.cuts=[])∨∃f c,[qV,59]=[f,c]∧mF f m.feet∧sE c m.feet.length m.cuts))
theorem aa6{x:[ak]}(h:gD x=true):tx x=eC (sC x):=by
 unfold gD at h;simp only[dO,dw]at h;have V:∀(l:[ak]),[DX,[Oi]]∧([Oi]=l.length→l.map (λ c=>[PX,c==45])=l):=by
  intro l;induction l with
   |nil=>simp
   |cons a l T=>
    rw[i8,i8,dP];by_cases g:a=45;·subst g;rw[15,by rw[18],λ e=>?_];simp at e;rw[bO,T.2 [ac]];rfl
    ·have E:[aw,a==45]:=by rw[75]
     by_cases r:a=117;·subst r;rw[15,by rw[18],λ e=>?_];simp at e;rw[bO,T.2 [ac]];rfl
     ·have D:[aw,a==117]:=[aB,r];rw[E,D];rw[15,by rw[18],λ e=>?_];simp at e;omega
 unfold eC sC tx;rw[cP];have:=(V x).2 h.2.2;congr 2;exact this.symm
theorem aa7{x:[ak]}(h:sy x):cx (bG 44 x [])=(kP x).map gQ:=by unfold cx kP;rw[13,cP,iD λ y a=>?_];rw[14,(V.str (tx y))=(V.str (eC (sC y))),aa6 (h.2 y a)]
section
variable{P:aY}{w:aU}{K:aF}{mg:[a_]}{base:aE}
structure Qv(mg:[a_]):Prop where
 signs:Cs mg "MEASURE_SIGNS" "-u|,;.0123456789"
 bytes:Cn mg "MOST_BYTES" 255
 feet:Cn mg "MOST_FEET" 16
 cuts:Cn mg "MOST_CUTS" 8
def A1:[bj]:=[[rq],"text","parts","feet","cuts","foot","cut"]
theorem Qw:bQ A1 [[rq]] (aZ rK):=[cj]
def yr(H m:Hp):Prop:=∀q N,m q=Z (.tup N)→H q=none→[NF,N]
theorem aa8{H m:Hp}(p:bD H m):yr H m:=λ q N e n x A=>by rw[105,List.all_eq_true.mp (p q _ e n) x A]
theorem yr.ag{H m:Hp}{a:ab}{o:HO}(p:yr H m)(E:∀N,o≠.tup N):yr H (ag m a o):=λ q N e n=>by
 by_cases z:q=a;·subst z;rw[aw]at e;rw[8,[dF,e],E N]
 ·rw[ar z]at e;exact p q N e n
def F8(K:aF)(c d:ab):Sp:=λ U H Q E=>∃(a:ab)(l:[ak]),[Ec,U=[rD],a,aJ l,[pQ,aQ],∀m,kg l m→∀me b,(ah H b→yr H b→vf d b me m→Q (.ref me) b),(¬∃m,kg l m)→∀b,ah H b→bD H b→E (.ref c) none b]
theorem aa9{f fT fS fF fC fI CM v:ab}{fd fdT fdS fdF fdC fdI:bq}(D0:[ln,"read_measure",rK,fd,[[rq]]])(B:el mg)(C:Qv mg)(X1:[Mn,CM])(DT:[gh,"text_of",qa,fT,fdT,[E5]])(GT:aA P w K mg base aG 1 fT fdT [E5] (AS K))(DS:[gh,"split_up_to",uw,fS,fdS,[EV]])(GS:aA P w K mg base [jp] 1 fS fdS [EV] (A0 CM))(DF:[gh,"read_foot",ux,fF,fdF,[x_]])(GF:aA P w K mg base [jp] 2 fF fdF [x_] (F4 CM))(DC:[gh,"read_cut",xh,fC,fdC,[KG]])(GC:aA P w K mg base [jp] 2 fC fdC [KG] (F6 CM))(I:iM K "Measure.__init__" xf v fI fdI [Lh])(T:[PP,v]):aA P w K mg base [jp] 3 f fd [[rq]] (F8 K CM v):=by
 have nd:A1.Nodup:=Qw.nd;have GI:aA P w K mg base aG 1 fI fdI [Lh] (F7 v):=aa4 I T;obtain⟨u1,h1,r1⟩:=C.signs;obtain⟨u2,h2,r2⟩:=C.bytes;obtain⟨u3,h3,r3⟩:=C.feet;obtain⟨u4,h4,r4⟩:=C.cuts;rw[aa5]at r1;refine D0.fn.p0 Qw [L9] (λ cdv A outer s H vs Q E hr h hX hP=>?_);·obtain⟨a,l,rfl,_⟩:=h;rfl
 obtain⟨a,l,rfl,ha,hlen,kY,kN⟩:=h;rw[112,2];rw[27,[At,1,[ED,GT,hr1,DT.mg,DT.fn.kp,DT.b,pv 0,ak (b8 J h1 r1) aB],[lA,[KS,[dU,C6,pv 1,pL],rg (zN iI iI bu [yw,1] (b8 J h2 r2))],[Fh,X1,hX]],[At,2,Ae (pv 1) fy,[lA,[dU,zL,[yw,2],bu],[Fh,X1,hX]],[No,3,gq J,M_ (own:=[("foot",5)]) [ge,J] hX J nd (dj (dA GS hr1 J DS.mg DS.fn.kp DS.b .nil hP (ak (fQ ni (pv 2) bu (λ _ _=>J)) [Ae,fy,b8 J h3 r3]))) (@eg.mk A1 (aZ rK) _ [("foot",5)] J [bE] [bE] [bE] [bE]) [Lv,5] [NP] (λ _ _ _ _ _=>dA GF hr J DF.mg DF.fn.kp DF.b .nil vl [gv,5]),[Ea,4,fz aB,[lA,[dU,e_,[yw,2],bu],W0 (i:=4) (own:=[("cut",6)]) [ge,J] hX J nd J J (rD J J J J) (dj (dA GS hr1 J DS.mg DS.fn.kp DS.b .nil hP (ak (fQ ni (pv 2) bu (λ _ _=>J)) [Ae,fy,b8 J h4 r4]))) (@eg.mk A1 (aZ rK) _ [("cut",6)] J [bE] [bE] [bE] [bE]) [Lv,6] [NP] (λ _ _ _ _ _=>dA GC hr J DC.mg DC.fn.kp DC.b .nil vl [Cr,6,[As,Qu K,B.len,f6,pv 3]])],lB I.ma GI hr J T.mg I.b .nil bH [Kn]]]]]];have O:∀d,(ah H d→bD H d→(¬∃m,kg l m)→uo E H (.ref CM) none d):=λ d s1 p1 h1=>⟨kN h1 d s1 p1,p1⟩
 refine⟨_,J,a,l,qo,J,ha,hlen,[bd],λ M H1 s1 p1=>?_,λ M H1 s1 p1=>[wY,aV (aV (O H1 s1 p1 λ⟨m,z⟩=>M z.1))]⟩;refine[wY,a_ ?_];rw[33,⟨_,J,_,l.length,J,⟨[ar,d9,hlen],by rw[d9]⟩,_,_,J,J,_,J,?_⟩,[xz,1,l.length]];by_cases a1:¬[DX,1];rw[11,[ol],[Al,aV (O H1 s1 p1 λ⟨m,z⟩=>a1 z.2.1)]];have a1:=Decidable.not_not.mp a1;rw[159,l.length,255];by_cases a2:¬[pQ,255];rw[11,[ol],aV (O H1 s1 p1 λ⟨m,z⟩=>a2 z.2.2.1)];have a2:=Decidable.not_not.mp a2;rw[[wh]];have e0:(oj (tx l) (";":Str)).map V.str=[ww,59]:=by rw[[A4,";",#[59]],AV l 59 [bd],cP];rfl
 rw[41,a_ ⟨_,J,[rg],tx l,_,J,J,J,[ar,d9,[Td]],λ pa hpa=>?_⟩,e0];have hpl:[M7,[qV,59],255]:=λ x k=>by rw[84,su 59 l [] x k]
 generalize N:[qV,59]=r at*;have s2:ah H1 (ag H1 pa (.aj (cx r))):=[cm,H1,hpa];have p2:bD H (ag H1 pa (.aj (cx r))):=p1.ag J;have hpa2:(ag H1 pa (.aj (cx r))) pa=Z (.aj (cx r)):=aw;generalize ag H1 pa (.aj (cx r))=H2 at s2 p2 hpa2⊢;have sH2:=[Ac,s2];have hwl:[cI,cx r,r.length]:=by unfold cx;rw[aC]
 rw[33,⟨_,J,_,r.length,J,[Lu,hpa2,hwl],_,_,J,J,_,J,?_⟩,[aV,2]<[ap,r.length]];by_cases a3:¬[B_,2];·rw[13,[wh],aV (O H2 sH2 p2 λ⟨m,z⟩=>?_)];rcases z.2.2.2 with⟨U,e,_⟩|⟨U,F,e,_⟩<;>(rw[N]at e;rw[e]at a3;exact a3 [al])
 have a3:=Decidable.not_not.mp a3;rw[[ol]];obtain⟨U,ps',R⟩:∃U ps',r=U::ps':=by cases q:r with|nil=>rw[q]at N;rw[8,N,vk 59 l []]|cons x y=>rw[1,x,y,J]
 have hf0:U.length≤255:=hpl U [ar,R,cq];have uu:(cx r)[0]?=Z [pi,U]:=[hJ,R];have noFeet:(∀feet,¬mF U feet)→¬∃m,kg l m:=λ hno⟨m,z⟩=>by
  rcases z.2.2.2 with⟨f1,e,g,_⟩|⟨f1,c1,e,g,_⟩;·rw[N,R]at e;injection e with e1 e2;subst e1;exact hno _ g
  ·rw[N,R]at e;injection e with e1 e2;subst e1;exact hno _ g
 have epipe:((V.str ("|":Str))=(V.str ⟨#[124]⟩)):=by rw[[A4,"|",#[124]]]
 have ecomma:((V.str (",":Str))=(V.str ⟨#[44]⟩)):=by rw[[A4,",",#[44]]]
 refine a_ ⟨_,J,pa,_,_,[pi,U],J,J,(ax.of hpa2),[zh,0,uu],U,124,16,[hJ,epipe],[bd],[ac],λ hm b H3 _ s3 p3 hb=>?_,λ hm H3 s3 p3=>O H3 (sH2.trans s3) (p2.trans p3 s3) (noFeet λ feet z=>hm z.1)⟩;have sH3:=sH2.trans s3;have p3':bD H H3:=p2.trans p3 s3;have hpa3:=s3 _ _ hpa2;have hfl:[M7,bG 124 U [],255]:=λ x k=>by rw[84,su 124 U [] x k]
 generalize hfs:bG 124 U []=fs at*;have ewd:cx fs=fs.map λ x=>[pi,x]:=J;refine⟨b,J,[nj,hb],λ D hD=>[m6,pW,b,cx fs,λ j d=>(ah H3 d∧bD H d∧(∃L,d D=Z (.aj (L.map V.ref))∧(L.length=j∧(Paired (λ q(iT:[Nj])=>q≠D∧d q=Z (.aj (iT.map gQ))) L ((fs.take j).map kP))))∧∀x∈fs.take j,sy x),⟨[cm,H3,hD],p3'.ag J,[em,[],aw,by simp;exact .nil],[al]⟩,λ j d _⟨s',_⟩=>[pc,s',hb]]⟩
 ·rintro j x H4 k⟨s4,p4,⟨L,hD4,W,hfas⟩,aH⟩;obtain⟨t,ht,rfl⟩:∃t,fs[j]?=Z t∧x=[pi,t]:=by rw[ewd,cJ]at k;cases q:fs[j]? with|none=>rw[q]at k;cases k|some t=>rw[q]at k;rw[22,t,[nr,k]]
  have htm:=bt ht;have htl:=hfl t htm;have hjl:=[eJ,ht];have et:fs.take (j+1)=fs.take j++[t]:=[jl,fH,ht];rw[15,J,⟨_,J,t,J,[ac],λ hy q H5 hqn s5 p5 hq=>?_,λ hn H5 s5 p5=>O H5 ((sH3.trans s4).trans s5) (p4.trans p5 s5) (noFeet λ feet z=>hn (z.2.1 t [ar,hfs,htm]))⟩];have hD5:=s5 _ _ hD4;have nqD:q≠D:=(aX hD4 hqn).symm;rw[aa7 hy]at hq;have sD:∀c o,H5 c=Z o→c≠D→ag H5 D (.aj (L.map V.ref++[eD,q])) c=Z o:=λ c o e n=>[b8,n,e]
  rw[47,_,hD5,?_,?_,(p4.trans p5 s5).ag J,⟨L++[q],[jl,aw,cH],[jl,dh,W],?_⟩,?_];·rw[12,aC,W,[zB,eR,j,16]]
  ·exact(ah.aT (s4.trans s5) hD)
  ·rw[12,et,cH,nG [Ak,hfas,λ c iT z=>⟨z.1,sD _ _ (s5 _ _ z.2) z.1⟩] [qu,⟨nqD,sD _ _ hq nqD⟩]]
  ·rw[et];intro z hz;rcases[gM,hz]with w|w;·exact aH z w
   ·simp at w;subst w;exact hy
 ·rintro H4⟨s4,p4,⟨L,hD4,W,hfas⟩,aH⟩;have hwf:[cI,cx fs,fs.length]:=by unfold cx;rw[aC]
  rw[hwf,fZ]at hfas aH;rw[hwf]at W;have hfeet:mF U (fs.map kP):=⟨[ar,hfs,hm],[ar,hfs,aH],by rw[hfs]⟩;have Y:[cI,fs.map kP,fs.length]:=by rw[aC]
  have hpa4:=s4 _ _ hpa3;have feetAt:∀{d:Hp},ah H4 d→EN d D (fs.map kP):=λ s'=>[wG,L,s',hD4,[Ak,hfas,λ c iT z=>s' _ _ z.2]]
  refine[Fu,λ ce hce=>?_];have s5:ah H4 [nF,H4,ce]:=[cm,H4,hce];have p5:bD H [nF,H4,ce]:=p4.ag J;have hce5:(ag H4 ce (.aj [])) ce=Z (.aj []):=aw;generalize[nF,H4,ce]=H5 at s5 p5 hce5;have hpa5:=s5 _ _ hpa4;have sH5:ah H H5:=((sH3.trans s4).trans s5);have fin:∀(cu:ab)(u:Hp)(S:[nk])(v5 v6:[dL]),[b9,ah H5 u,bD H u,EO u cu S,kg l ⟨fs.map kP,S⟩,rj (LJ v (F7 v) [] E0 (dc (cv 3) (dc (cv 4) gw))) {nx:=λ x d=>Q V.bh d,rt:=Q} [[lm],Z [iw,l],[bV,pa],[bV,D],[bV,cu],v5,v6] u]:=λ cu u S v5 v6 s6 p6 hcu hme=>by rw[28,_,J,_,J,λ x dx nx ndx nex=>⟨x,dx,D,cu,J,aw,J,?_⟩];have sx:ah u (ag (ag (ag u dx (.own x)) x (.ins v dx [])) x (.ins v dx (mB.zip [.ref D,.ref cu]))):=(ah.aT (ah.aT [cm,u,ndx] nx) nx);obtain⟨G,h1,h2⟩:=hcu;exact kY _ hme x _ ((sH5.trans s6).trans sx) ((((aa8 p6).ag (by rw[86])).ag (by rw[86])).ag (by rw[86])) ⟨dx,D,cu,aw,feetAt ((s5.trans s6).trans sx),G,sx _ _ h1,[su,h2,sx _ _ z]⟩
  rw[125,⟨_,J,_,r.length,J,[Lu,hpa5,hwl],J,_,J,?_⟩,r.length,2];by_cases q2:r.length=2
  ·rw[bK q2];obtain⟨F,ec⟩:∃F,ps'=[F]:=by rw[R]at q2;match ps',q2 with|[F],_=>rw[0,F,J]
   rw[ec]at R;have hc0:F.length≤255:=hpl F (by rw[19,R]);have at1:(cx r)[1]?=Z [pi,F]:=[hJ,R];have noCuts:(∀S,¬sE F fs.length S)→¬∃m,kg l m:=λ hno⟨m,z⟩=>by
    rcases z.2.2.2 with⟨f1,e,g,_⟩|⟨f1,c1,e,g,g2⟩;·rw[N,R]at e;cases e
    ·rw[N,R]at e;injection e with e1 e2;injection e2 with e3 e4;subst e1;subst e3;rw[38,g.2.2,hfs];rw[this,Y]at g2;exact hno _ g2
   refine aV ⟨_,J,pa,_,_,[pi,F],J,J,(ax.of hpa5),[zh,1,at1],F,44,8,[hJ,ecomma],[bd],[ac],λ hm2 b2 u _ s6 p6 hb2=>?_,λ hm2 u s6 p6=>O u (sH5.trans s6) (p5.trans p6 s6) (noCuts λ S z=>hm2 z.1)⟩;have sH6:=sH5.trans s6;have p6':bD H u:=p5.trans p6 s6;have hcl:[M7,bG 44 F [],255]:=λ x k=>by rw[84,su 44 F [] x k]
   generalize hcs:bG 44 F []=cs at*;have hD6:=s6 _ _ (s5 _ _ hD4);rw[17,b2,J,[nj,hb2],λ D2 hD2=>[m6,pW,b2,cx cs,λ j d=>ah u d∧bD H d∧∃(G:[aT])(S:[nk]),(d D2=Z (.aj [wk])∧G.length=j∧(Paired (λ q(c:[xP])=>d q=Z [ii,nV c.1,nV c.2]) G S)∧(Paired (λ x(p:[xP])=>IsCut x fs.length p.1 p.2) (cs.take j) S)),⟨[cm,u,hD2],p6'.ag J,[],[],aw,J,.nil,by simp;exact .nil⟩,λ j d _⟨s',_⟩=>[pc,s',hb2]]]
   ·rintro j x H7 k⟨s7,p7,G,S,hD7,hcal,hcas,X⟩;obtain⟨t,ht,rfl⟩:∃t,cs[j]?=Z t∧x=[pi,t]:=by unfold cx at k;rw[cJ]at k;cases q:cs[j]? with|none=>rw[q]at k;cases k|some t=>rw[q]at k;rw[22,t,[nr,k]]
    have htm:=bt ht;have htl:=hcl t htm;have hjl:=[eJ,ht];have et:cs.take (j+1)=cs.take j++[t]:=[jl,fH,ht];rw[15,J,⟨_,J,_,J,_,fs.length,J,[wB,_,[pc,s7,hD6],by rw[aC,W]],t,fs.length,J,[ac],[ac],λ x y hxy q H8 s8 p8 hq=>?_,λ hn H8 s8 p8=>O H8 ((sH6.trans s7).trans s8) (p7.trans p8 s8) (noCuts λ cuts' z=>?_)⟩]
    ·have hD8:=s8 _ _ hD7;have sD:∀c xs,H8 c=Z (.tup xs)→ag H8 D2 (.aj ([wk]++[eD,q])) c=Z (.tup xs):=λ c xs e=>[b8,[oB,e,hD8],e]
     refine⟨_,hD8,?_,(ah.aT (s7.trans s8) hD2),(p7.trans p8 s8).ag J,G++[q],S++[(x,y)],[jl,aw,cH],[jl,dh,hcal],?_,?_⟩;·rw[12,aC,hcal,[zB,eR,j,8]]
     ·exact nG [Ak,hcas,λ c p z=>sD _ _ (s8 _ _ z)] [qu,sD _ _ hq]
     rw[11,et,nG X [qu,hxy]]
    ·have h2:=z.2;rw[hcs]at h2;obtain⟨p,_,hp⟩:=d6 h2 ht;exact hn ⟨p.1,p.2,hp⟩
   ·rintro H7⟨s7,p7,G,S,hD7,hcal,hcas,X⟩;have hwc:[cI,cx cs,cs.length]:=by unfold cx;rw[aC]
    rw[hwc,fZ]at X;rw[43,fin D2 H7 S _ _ (s6.trans s7) p7 ⟨G,hD7,hcas⟩ ⟨M,a1,a2,.inr ⟨U,F,[ar,N,R],hfeet,?_⟩⟩,sE F [fy,fs.map,kP] S];rw[4,Y,⟨[ar,hcs,hm2],[ar,hcs,X]⟩]
  ·rw[bW q2];have ep1:ps'=[]:=by rw[R]at q2 a3;match ps',q2,a3 with|[],_,_=>rfl|[_],h,_=>rw[8,J,h]|_::_::_,_,h=>rw[16]
   rw[ep1]at R;exact a_ (fin ce H5 [] _ _ (ah.refl H5) p5 ⟨[],hce5,.nil⟩ ⟨M,a1,a2,.inl ⟨U,[ar,N,R],hfeet,J⟩⟩)
end
end VP
end
section
namespace VP
open PySem L2
section
variable{P:aY}{w:aU}{K:aF}{mg:[a_]}{base:aE}
def A2:[bj]:=["words","most","sizes","word","size"]
theorem Qx:bQ A2 [LS] (aZ rV):=[cj]
def Qy:V→V|.str z=>.int ([ap,z.length]+1)|_=>.bh
open Classical in noncomputable def mG(stock:List [ak])(most:Nat):[ak]:=[um,∀x∈stock,(x.length+1)*most≤256,stock.map,λ _=>0,stock.map λ x=>x.length+1]
def F9(K:aF):Sp:=λ U H Q _=>∃(a:ab)(S:List [ak])(most:Nat),[kw,U=[[bi],[vg]],ax K H a (cx S),S≠[],[M_],[M7,S,23],most≤12,∀b m,[Tg,b,.aj (aJ (mG S most)),.ref b]]
theorem aa_{f:ab}{v:bq}(D0:[ln,"sizes_of",rV,v,[LS]])(B:el mg)(cR:Cn mg "LINE_ROOM" 256):aA P w K mg base aG 1 f v [LS] (F9 K):=by
 have nd:A2.Nodup:=Qx.nd;obtain⟨u1,g,r1⟩:=cR;refine(D0.fn.ok Qx (λ U H Q E h=>?_) [QH]);·obtain⟨a,S,most,rfl,_⟩:=h;rfl
 obtain⟨a,S,most,rfl,ha,o,j,t,hm,k⟩:=h;rw[54,ug (i:=2) (own:=[("word",3)]) J nd J J (rD J J J J) (dj (pv 0)) (@eg.mk A2 (aZ rV) _ [("word",3)] J [bE] [bE] [bE] [bE]) [Lv,3] [NP] (λ _ _ _ _ _=>[zZ,[As,Qu K,B.len,f6,pv 3]]),[y8,[lA,[dU,iI,cj zK [De,V0 J,B.max,Rz,[gv,2]] (pv 1),b8 J g r1],bB (jz (own:=[("size",4)]) J nd (dj (pv 2)) (@eg.mk A2 (aZ rV) _ [("size",4)] J [bE] [bE] [bE] [bE]) (λ _ _ _ _ _=>[pL,4]) (λ _ _ _ _ _=>iv) (λ _ _ _ _ _=>bu))],pv 2]];have R:[cY,cx S,64]:=by unfold cx;rw[4,aC,j]
 refine[zH,a,[gt,ha],λ D l=>[Dv,Qy,ha,l,[pH,R],λ x L Q1 F b s3 d q2=>?_]];·obtain⟨y,c,rfl⟩:=[bp,b];have T:=t y c;rw[0,J,aV (B:=F L) ⟨_,J,_,[fy,tx,y],J,[ge,[OJ,T]],_,_,J,J,d J⟩]
 rw[[Du]];have e:(cx S).map Qy=aJ (S.map λ x=>x.length+1):=by unfold cx;show _=qK nV (S.map λ x=>x.length+1);rw[118,λ y _=>?_];rw[14,(V.int ([ap,[fy,tx,y]]+1))=[Kl,y.length+1],d9];congr 1
 rw[e];generalize G:(S.map λ x=>x.length+1)=ss at*;have u:ss.length=S.length:=by rw[←G,aC]
 have Y:ah H (ag H D (.aj (aJ ss))):=[cm,H,l];have O:bD H (ag H D (.aj (aJ ss))):=[DZ].ag J;have p:(ag H D (.aj (aJ ss))) D=Z (.aj (aJ ss)):=aw;generalize ag H D (.aj (aJ ss))=H1 at Y O p⊢;refine⟨_,J,D,ss.map (λ n:Nat=>[cQ]),J,[cE,P8,ax.of p],?_,λ m M C=>?_⟩;·rw[12,aC,u,[CB,o]]
 rw[143,M];have X:n≤24:=by rw[←G]at hn;obtain⟨y,c,rfl⟩:=[bp,hn];rw[10,t y c]
 have I:∀y∈ss,y≤n:=λ y c=>by rw[10,C [ap,y] [jz,y,c]]
 rw[33,⟨_,J,_,_,J,J,.inl ⟨[ac],[ac]⟩,_,_,J,J,_,J,?_⟩,[cQ]*[ap,most]≤[aV,256]];have en:([cQ]*[ap,most]≤[aV,256])↔n*most≤256:=by rw[←Int.natCast_mul];omega
 have N:(∀x∈S,(x.length+1)*most≤256)↔n*most≤256:=by
  rw[7];·intro h;rw[←G]at hn;obtain⟨y,c,rfl⟩:=[bp,hn];exact h y c
  ·intro h x b;have r:=I (x.length+1) [cE,G,[jz,x,b]];exact bf (Nat.mul_le_mul_right _ r) h
 unfold mG at k;by_cases q:n*most≤256
 ·rw[bK (en.mpr q)];rw[aI (N.mpr q)]at k;rw[41,aV [zH,D,[nj,p],λ D2 W=>[Dv,λ _=>.int 0,ax.of p,W,by rw[12,aC,u,[pH,j]],λ x L Q1 F b s3 d q2=>[lu,aV (B:=F L) (d J)]]],[Du]];have e2:(aJ ss).map (λ _=>(V.int 0))=aJ (S.map λ _=>0):=by show _=qK nV (S.map λ _=>0);rw[cP,cP,←G,cP];rfl
  rw[4,e2,k D2 _ [tX,[cm,H1,W]] (O.ag J) aw]
 ·rw[bW (λ z=>q (en.mp z))];rw[aD (λ z=>q (N.mp z)),G]at k;exact[Al,k D H1 Y O p]
end
end VP
end
section
namespace VP
open PySem L2
def NB(H:Hp):Prop:=∀q N,H q=Z (.tup N)→[NF,N]
theorem NB.ag{H:Hp}(h:NB H){a:ab}{o:HO}(E:∀N,o=.tup N→[NF,N]):NB (ag H a o):=λ q N e=>by
 by_cases z:q=a;·subst z;rw[67,aw,E N J]
 ·rw[ar z]at e;exact h q N e
theorem NB.plain{H m:Hp}(h:NB H)(s:ah H m)(p:bD H m):NB m:=λ q N e x A=>by cases w:H q with|none=>have:=p q _ e w;rw[105,List.all_eq_true.mp this x A]|some o=>have:=s q o w;rw[e]at this;rw[6,this,h q N w x A]
structure Gr where
 sh:Vs.Shape
 sz:Nat
 a:ab
 nums:[ak]
def i6(sh:Vs.Shape)(sz:Nat):Tr:=[zC,nH sh,.num sz]
def Gr.key(g:Gr):Tr:=i6 g.sh g.sz
def Gr.kv(g:Gr):Tr×V:=(g.key,(V.ref g.a))
theorem aba{a b:Vs.Shape}{c d:Nat}(h:i6 a c=i6 b d):a=b∧c=d:=by rw[130,i6];rw[0,PK h.1,[ac]]
theorem Qz{H:Hp}{t a:ab}{sh:Vs.Shape}{sz:Nat}(h:H t=Z [ii,[bi],nV sz])(G:ji H a sh):eZ H (i6 sh sz) t:=by obtain⟨N,g,r⟩:=PQ G;refine⟨?_,_,h,_,_,J,[d9,a,N,g,r],_,_,J,[db],J⟩;have:=PV sh;simp only[i6,c_];omega
theorem QA{H:Hp}:∀{l:[ak]}{N:[aK]},eI H (dJ (l.map qk)) N→([NF,N])→N=aJ l|[],N,h,_=>h|n::l,N,h,K=>by obtain⟨v,r,rfl,g,a⟩:=h;rw[oW g (K v cq),QA a [KQ,K]];rfl
theorem QB{H:Hp}{l:List Tr}{v:V}(h:l9 H (eI H (dJ l)) (dJ l) v):∃p N,v=[cX]∧H p=Z (.tup N)∧eI H (dJ l) N:=by cases l with|nil=>exact h|cons x l=>exact h
theorem abb{H:Hp}(c:NB H){fm:Vs.Form}{v:V}(h:l9 H (eI H (lM fm)) (lM fm) v):qc H v fm:=by obtain⟨p,N,rfl,R,f,a,rfl,g,s,S,rfl,r,d,e,rfl,P,rfl⟩:=h;have b:=c p _ R;obtain⟨y,G,rfl,T,w⟩:=QB P;have e1:=oW g (b f [al]);have e2:=oW r (b s [al]);have B:=QA w (c y _ T);subst e1;subst e2;subst B;rw[9,p,y,J,R,T]
theorem QC{H:Hp}(b:NB H):∀{fs:List Vs.Form}{N:[aK]},eI H (dJ (fs.map lM)) N→(Paired (qc H) N fs)|[],N,h=>by have h:N=[]:=h;subst h;exact .nil|f::fs,N,h=>by obtain⟨v,r,rfl,g,a⟩:=h;exact(.cons (abb b g) (QC b a))
theorem abc{H:Hp}(c:NB H){sh:Vs.Shape}{p:ab}{N:[aK]}(R:H p=Z (.tup N))(h:eI H (nH sh) N):ji H p sh:=by obtain⟨d,a,rfl,g,s,S,rfl,r,rfl⟩:=h;have b:=c p _ R;obtain⟨I,G,rfl,F,w⟩:=QB r;have e1:=oW g (b d [al]);subst e1;rw[9,I,G,R,F,QC c w]
theorem abd{H:Hp}(b:NB H){sh:Vs.Shape}{sz:Nat}{q:ab}(h:eZ H (i6 sh sz) q):∃p,H q=Z [ii,[cX],nV sz]∧ji H p sh:=by obtain⟨_,N,e,c,a,rfl,g,s,S,rfl,r,rfl⟩:=h;obtain⟨p,G,rfl,R,k⟩:=(show∃p G,c=[cX]∧H p=Z (.tup G)∧eI H (nH sh) G from g);have e2:=oW r (b q _ e s [al]);subst e2;rw[1,p,e,abc b R k]
theorem abe{m d:Type}{R:[d0,m,d]}{G i:[li]}(h:G.Perm i):∀{b:List d},Paired R i b→∃B,(B.Perm b∧(Paired R G B)):=by
 induction h with
  |nil=>intro b p;cases p;rw[1,[],.refl _,.nil]
  |cons x _ T=>intro b p;cases p with|cons r t=>obtain⟨c,g,a⟩:=T t;rw[1,_::c,g.cons _,.cons r a]
  |swap x y l=>intro b p;cases p with|cons r t=>cases t with|cons S t=>rw[1,_,.swap _ _ _,.cons S (.cons r t)]
  |trans _ _ j f=>intro b p;obtain⟨c,g,a⟩:=f p;obtain⟨e,P,w⟩:=j a;rw[1,e,P.trans g,w]
structure gn(S:[Fg])(u:[ak])(most:Nat)(ks:[d6]):Prop where
 sep:[KO]
 cnt:[Dd,k.count=min k.nums.length most]
 fin:[Dd,[pO]≤S.length]
 tr:[Dd,∀n∈k.nums,S[n]?=Z k.sh∧u[n]?=Z k.size]
 part:[Ps].Perm [ul,S.length]
 ne:[Dd,k.nums≠[]]
def jF(most p:Nat)(g:Gr):Vs.Kd:=⟨g.nums,g.sh,g.sz,p,[ze]⟩
def fY(most:Nat):Nat→[fQ,Gr,[d6]]|_,[]=>[]|p,g::a=>[Qa,a]
def ik(most:Nat):[fQ,Gr,Nat]|[]=>0|g::a=>[ze]+(ik most a)
theorem QD(most:Nat):∀(a:[wH])(p:Nat)(g:Gr),(fY most p (a++[g]))=(fY most p a)++[jF most (p+(ik most a)) g]|[],p,g=>J|x::a,p,g=>by rw[14,jF most p x::(fY most (p+[Pu]) (a++[g]))=jF most p x::((fY most (p+[Pu]) a)++_),QD most a];congr 4;rw[20,_=p+([Pu]+(ik most a))]
theorem F_(most:Nat):∀(a:[wH])(g:Gr),(ik most (a++[g]))=(ik most a)+[ze]|[],g=>[bB,ik]|x::a,g=>by show[Pu]+(ik most (a++[g]))=[Pu]+(ik most a)+_;rw[31,F_ most a]
theorem A3(most:Nat):∀a:[wH],(ik most a)≤(a.flatMap (·.nums)).length|[]=>[bB,ik]|g::a=>by have:=A3 most a;rw[kZ,dh];rw[20,[ze]+(ik most a)≤_]
theorem qp{most:Nat}{k:Vs.Kd}:∀{b:[wH]}{p:Nat},k∈(fY most p b)→p≤k.place∧[pO]≤p+(ik most b)∧∃g∈b,k=jF most k.place g
 |[],p,h=>by simp[fY]at h
 |g::b,p,h=>by
  have h:k∈[Qa,b]:=h;rw[136];·rw[9,ba _,by rw[20,p+[ze]≤p+([ze]+_)],g,cq,J]
  ·obtain⟨a,r,Q,P,w⟩:=qp h;rw[9,[ac],by rw[20,_≤p+([ze]+_)],Q,cp _ P,w]
theorem QE(most:Nat):∀(a:[wH])(p:Nat),[oC,fY most p a,(·.nums)]=a.flatMap (·.nums)|[],p=>J|g::a,p=>by show List.flatMap _ [Qa,a]=_;rw[kZ,kZ,QE most a];rfl
theorem QF(most:Nat):∀(d:[wH])(p:Nat)(i j:Nat)(a b:Vs.Kd),((fY most p d)[i]?=Z a→(fY most p d)[j]?=Z b→i<j→a.place+a.count≤b.place)|[],p,i,j,a,b,h,_,_=>by simp[fY]at h|g::d,p,i,j,a,b,c,r,Y=>by have c:[Qa,d][i]?=Z a:=c;have r:[Qa,d][j]?=Z b:=r;cases j with|zero=>omega|succ j=>have r:(fY most (p+[ze]) d)[j]?=Z b:=[aB,r];cases i with|zero=>have c:jF most p g=a:=[aB,c];subst c;exact(qp (bt r)).1|succ i=>have c:(fY most (p+[ze]) d)[i]?=Z a:=[aB,c];exact QF most d _ i j a b c r [ac]
theorem QG(most:Nat):∀(a:[wH])(p:Nat),[cI,fY most p a,a.length]|[],p=>J|g::a,p=>by rw[14,(fY most (p+[ze]) a).length+1=a.length+1,QG most a]
theorem abf{S:[Fg]}{u:[ak]}{most:Nat}{d:[wH]}(N:1≤most)(l:∀g∈d,g.nums≠[])(m:∀g∈d,∀n∈g.nums,S[n]?=Z g.sh∧u[n]?=Z g.sz)(R:(d.flatMap (·.nums)).Perm [ul,S.length]):gn S u most (fY most 0 d):=by
 have X:=R.length_eq;rw[jI]at X;have F:=A3 most d;refine⟨⟨[Fs],λ i j a b ha K Y=>?_⟩,[zj],[zj],λ k C n hn=>?_,[ar,QE,R],[zj]⟩;·obtain⟨k,C,rfl⟩:=[bp,K];obtain⟨_,_,g,f,e⟩:=qp C;have:=[CB,l g f];have e2:k.count=[ze]:=[hJ,e];show 1≤k.count;rw[31,e2]
 ·obtain⟨k,c,rfl⟩:=Vs.pH ha;obtain⟨h,r,rfl⟩:=Vs.pH K;exact QF most d 0 i j k h c r Y
 ·obtain⟨_,_,g,f,e⟩:=qp C;rw[e];rfl
 ·rw[10,(qp C).2.1]
 ·obtain⟨_,_,g,f,e⟩:=qp C;rw[e]at hn⊢;exact m g f n hn
 ·obtain⟨_,_,g,f,e⟩:=qp C;rw[4,e,l g f]
theorem abg{b:[wH]}(l:∀g∈b,g.nums≠[]):b.length≤(b.flatMap (·.nums)).length:=by induction b with|nil=>simp|cons g b T=>have a:=T [KQ,l];have r:=[CB,l g cq];rw[kZ,dh,dP];omega
structure mH(S:[Fg])(u:[ak])(d:ab)(H0 H:Hp)(b:[wH])(i:Nat):Prop where
 d:H d=Z (.dT (b.map Gr.kv))
 nd:(b.map Gr.key).Nodup
 at_:∀g∈b,H g.a=Z (.aj (aJ g.nums))∧H0 g.a=none
 ne:∀g∈b,g.nums≠[]
 tr:∀g∈b,∀n∈g.nums,S[n]?=Z g.sh∧u[n]?=Z g.sz
 ad:(b.map (·.a)).Nodup
 part:(b.flatMap (·.nums)).Perm [ul,i]
theorem mH.len{S:[Fg]}{u:[ak]}{d:ab}{H0 H:Hp}{a:[wH]}{i:Nat}(h:mH S u d H0 H a i):a.length≤i:=by rw[96,abg h.ne,h.part.length_eq,jI];rw[58]
theorem mH.QH{S:[Fg]}{u:[ak]}{d:ab}{H0 H:Hp}{a:[wH]}{i:Nat}(h:mH S u d H0 H a i){g:Gr}(j:g∈a):g.nums.length≤i:=by obtain⟨s,t,rfl⟩:=List.append_of_mem j;have:=h.part.length_eq;rw[jI,kW,kZ,dh,dh]at this;omega
theorem abh{a:[wH]}{k:Tr}{v:V}(h:cn (a.map Gr.kv) k=Z v):∃g∈a,g.key=k∧v=.ref g.a:=by have:=Aw h;obtain⟨g,j,e⟩:=[bp,this];injection e with e1 e2;rw[23,g,j,e1,e2.symm]
theorem Ac{d:[wH]}(nd:(d.map Gr.key).Nodup){g:Gr}(j:g∈d):cn (d.map Gr.kv) g.key=[bV,g.a]:=by
 obtain⟨v,c,r⟩:=um (kvs:=d.map Gr.kv) (k:=g.key) [jz,g.kv,[jz,g,j]];obtain⟨Q,p,e⟩:=[bp,r];injection e with e1 e2;rw[c,←e2];congr 2;have A:∀(l:[wH]),((l.map Gr.key).Nodup→g∈l→Q∈l→Q=g):=by
  intro l;induction l with
   |nil=>intro _ h;rw[16]
   |cons x l T=>
    intro n a b;rw[bO,BF]at n;rcases[dE,a]with f|w
    ·rcases[dE,b]with V|i;·rw[f,V]
     ·rw[8,[Do,Q,i,by rw[e1,f]],n.1]
    ·rcases[dE,b]with V|i;rw[2,[e9,[Do,g,w,by rw[←e1,V]],n.1],T n.2 w i]
 rw[A d nd j p]
theorem mH.more{S:[Fg]}{u:[ak]}{d:ab}{H0 H m:Hp}{a:[wH]}{i:Nat}(h:mH S u d H0 H a i){g:Gr}(j:g∈a)(G:S[i]?=Z g.sh)(M:u[i]?=Z g.sz)(k:[rh,H b,m b=Z o]):∃D,mH S u d H0 (ag m g.a (.aj (aJ g.nums++[nV i]))) D (i+1):=by
 obtain⟨s,t,rfl⟩:=List.append_of_mem j;have f:=h.ad;rw[cH,bO,k0]at f;have E:∀x∈s,x.a≠g.a:=λ x A=>f.2.2 _ [jz,x,A] _ cq
 have c:∀x∈t,x.a≠g.a:=λ x A e=>[Az,f.2.1].1 [Do,x,A,e]
 have K:=(h.at_ g [al]).1;refine⟨s++⟨g.sh,g.sz,g.a,g.nums++[i]⟩::t,?_,?_,[rp],[rp],λ x A n hn=>?_,?_,?_⟩;·rw[ar [oB,k _ _ h.d,k _ _ K]];have:=k _ _ h.d;rw[cH,bO]at this⊢;rw[58]
 ·have:=h.nd;rw[cH,bO]at this⊢;rw[58]
 ·rw[123];·have:=h.at_ x [bB,A];rw[0,[b8,E x A,k _ _ this.1],this.2]
  ·rcases[dE,A]with rfl|A;·rw[15,?_,(h.at_ g [al]).2];rw[aw];show Z (HO.aj (aJ g.nums++aJ [i]))=_;rw[←cH]
   ·have:=h.at_ x [bB,A];rw[0,[b8,c x A,k _ _ this.1],this.2]
 ·rw[123];·exact h.ne x [bB,A]
  ·rcases[dE,A]with rfl|A;·simp
   ·exact h.ne x [bB,A]
 ·rw[123];·exact h.tr x [bB,A] n hn
  ·rcases[dE,A]with rfl|A
   ·rcases[gM,hn]with hn|hn;·exact h.tr g [al] n hn
    ·simp at hn;subst hn;rw[0,G,M]
   ·exact h.tr x [bB,A] n hn
 ·have:=h.ad;rw[cH,bO]at this⊢;rw[58]
 ·have:=h.part;rw[kW,kZ]at this⊢;rw[13,vD,List.Perm.trans ?_ (this.append_right [i])];show(s.flatMap (·.nums)++((g.nums++[i])++t.flatMap (·.nums))).Perm _;rw[gZ,gZ,gZ];exact List.Perm.append_left _ (List.Perm.append_left _ List.perm_append_comm)
theorem mH.fresh{S:[Fg]}{u:[ak]}{d:ab}{H0 H H':Hp}{a:[wH]}{i:Nat}(h:mH S u d H0 H a i){sh:Vs.Shape}{sz:Nat}{n:ab}(G:S[i]?=Z sh)(M:u[i]?=Z sz)(W:cn (a.map Gr.kv) (i6 sh sz)=none)(hn:H n=none)(l:H0 n=none)(k:[C9,d,H' b])(c:H' d=Z (.dT (cD (a.map Gr.kv) (i6 sh sz) (.ref n))))(q:n≠d):∃D,mH S u d H0 (ag H' n (.aj ([]++[nV i]))) D (i+1):=by
 have f:∀g∈a,g.key≠i6 sh sz:=λ g j e=>by rw[96,Ac h.nd j,e,W];cases this
 have e1:cD (a.map Gr.kv) (i6 sh sz) (.ref n)=a.map Gr.kv++[(i6 sh sz,(V.ref n))]:=by unfold cD;rw[aD];intro z;obtain⟨p,R,e⟩:=List.any_eq_true.mp z;obtain⟨g,j,rfl⟩:=[bp,R];exact f g j (lR e)
 have E:∀g∈a,g.a≠n:=λ g j=>aX (h.at_ g j).1 hn
 refine⟨a++[⟨sh,sz,n,[i]⟩],?_,?_,[rp],[rp],λ x A m N=>?_,?_,?_⟩;·rw[ar q.symm,c,e1,cH];rfl
 ·rw[13,cH,uk h.nd [zr]];obtain⟨g,j,e⟩:=[bp,z];exact f g j e
 ·rw[123];·have:=h.at_ x A;rw[57,[ut,?_,this],ar (E x A),k _ _ this.1 [oB,this.1,h.d]]
  ·simp at A;subst A;rw[0,aw,l]
 ·rw[123];·exact h.ne x A
  ·simp at A;subst A;simp
 ·rw[123];·exact h.tr x A m N
  ·simp at A;subst A;simp at N;subst N;rw[0,G,M]
 ·rw[13,cH,uk h.ad [zr]];obtain⟨g,j,e⟩:=[bp,z];exact E g j e
 ·rw[12,kW,vD,h.part.append_right _]
end VP
end
section
namespace VP
open PySem L2
def Gb:Pos:=⟨83,41,83,65⟩
def Gc:Str:=(([J8]:Str)++".<locals>.")++[IN]
theorem QI{m d:Type}{R:[d0,m,d]}:∀{c:[li]}{S:List d},c.length=S.length→(∀(i:Nat)(b:d),S[i]?=Z b→∃a,c[i]?=Z a∧R a b)→(Paired R c S)|[],[],_,_=>.nil|[],_::_,h,_=>by rw[16]|_::_,[],h,_=>by rw[16]|a::c,b::S,h,k=>by obtain⟨V,g,r⟩:=k 0 b J;rw[55,a=V,[aB,g]];exact(.cons r (QI (by rw[51]) λ i b K=>by obtain⟨x,P,w⟩:=k (i+1) b [aB,K];rw[1,x,[aB,P],w]))
section
variable{P:aY}{w:aU}{K:aF}{mg:[a_]}{base:aE}
def Gd(K:aF)(C Pt:ab):Sp:=λ U H Q _=>∃(sa f:ab)(G:[aT])(S:[Fg])(u:[ak])(most:Nat),[Ec,U=[[pU],[dS],[vg]],sa,[wk],Paired (ji H) G S,ax K H f (aJ u),[bn,u.length=S.length,[M_],1≤most,NB H,df H Pt Gb Gc∧∀(l:ab)(aO:[aT])(ks:[d6])(m:Hp),[b9,gn S u most ks,jD C m ks aO,m l=Z (.aj [JY]),eK Pt H m,Q [io] m]]]
theorem abi{f fI c C Pt:ab}{fd fdI:bq}(D0:[ln,[J8],rL,fd,[Il]])(B:el mg)(LB:oP base mg fd c Pt)(I:iM K "Kind.__init__" xk C fI fdI [K6])(T:[CI,C]):aA P w K mg base aG 3 f fd [Il] (Gd K C Pt):=by
 have nd:=NA.nd;have GI:aA P w K mg base aG 1 fI fdI [K6] (Of C):=Yo I T;refine N5 D0.fn LB.code NA [L9] (λ A outer s H vs Q E hr h=>?_);·obtain⟨sa,za,sas,shs,szs,most,rfl,_⟩:=h;rfl
 obtain⟨sa,za,sas,shs,szs,most,rfl,hsa,hsh,hza,hlen,h64,h1,hnb,hT,k⟩:=h;rw[89];have LX:w8 (gy aG P w K mg base ["shapes","sizes","most","alike",[lf],"traits",[pW],"place","shape","size","numbers","count"] [J8] (aZ rL) f (.ref c) A outer s H E).jZ c Pt:=⟨J,LB.hd,LB.bm,LB.pg⟩;rw[27,[At,3,uj,eJ dX J (XA J B.enumerate J B.zip [Am,pv 0,1]) [OU,4,5,oC] (aN (j0 [Qm,mj PySem.F.plainAttrs_dict PySem.F.slot_dict_setdefault PySem.F.type_dict_setdefault (Xm hu) (pv 3) [Cr,5,fz aB],4])),[Eg,6,fz aB,7,bu,[y8,eJ dX J (dj (D_ (WW hr J (pv 3) LX J B.sorted J J J J J (λ _ _ _ _ _ _=>J)))) [OU,8,9,oC] [Eg,10,nj hu (pv 3) [pT,pv 8,[gv,9]] (λ _ _=>J),11,[De,C9 J,B.min,Ry,[Am,[yw,10],2]],aK (j0 (mj nN sM sN pT (pv 6) (ak [Ku,I.ma,GI,hr,T.mg,I.b,pv 10,pv 8,ak (pv 9) [Am,pv 7,11]] aB))) (aN (pO (i:=7) nd J (aR J) (pv 11) CU))],pv 6]]]];intro d hd;have hsl:sas.length=shs.length:=[DO,hsh];have s0:ah H (ag H d (.dT [])):=[mt,hd];refine⟨_,J,_,J,sa,za,_,_,J,s0.seq hsa,s0.seq hza,XB (K:=K) (a:=sa) (b:=za) (xs:=sas.map V.ref) (ys:=aJ szs) (λ i σ m=>∃(r:[wH])(v4 v5:[dL]),(σ=[Z [pU],[bV,za],Z [vg],Z [lx],v4,v5,none,none,none,none,none,none]∧ah H m∧NB m∧mH shs szs d H m r i)) ⟨[],none,none,J,s0,hnb.ag (by rw[86]),aw,kj,[al],[al],[al],kj,.refl _⟩ (λ i σ m⟨_,_,_,_,s',_⟩=>⟨s'.seq hsa,s'.seq hza⟩) (by rw[aC,aC,hsl,hlen]) (λ y hy=>by obtain⟨n,_,rfl⟩:=[bp,hy];rfl) ?_ ?_⟩
 ·rintro i x y G T2 σ u hx hy hT1 hT2 hne⟨r,v4,v5,rfl,s1,nb1,X⟩;rw[cJ]at hx;obtain⟨p,hp,rfl⟩:=[Po,hx];rw[cJ]at hy;obtain⟨z,hz,rfl⟩:=[Po,hy];obtain⟨sh,hshi,hps⟩:=d6 hsh hp;have hil:i<shs.length:=[eJ,hshi];have s2:ah u (ag [Qk] T2 [Cf,.ref G]):=(ah.aT [cm,u,hT1] hT2);have nb2:NB (ag [Qk] T2 [Cf,.ref G]):=(nb1.ag (by intro N e;cases e;intro x hx;simp at hx;rcases hx with rfl|rfl<;>rfl)).ag (by intro N e;cases e;intro x hx;simp at hx;rcases hx with rfl|rfl<;>rfl);have t1:(ag [Qk] T2 [Cf,.ref G]) G=Z [ii,[cX],nV z]:=by rw[ar hne,aw]
  have t2:(ag [Qk] T2 [Cf,.ref G]) T2=Z [Cf,.ref G]:=aw;generalize ag [Qk] T2 [Cf,.ref G]=H2 at s2 nb2 t1 t2;refine⟨T2,_,J,bM.of t2,J,_,_,J,_,_,J,J,?_⟩;have hd2:=s2 _ _ X.d;rw[47,_,J,[nM,.inl [lu,.inr [gt,hd2]]],_,J,b7 _,λ n hn=>?_];have s3:ah H2 [nF,H2,n]:=[cm,H2,hn];have nb3:NB [nF,H2,n]:=nb2.ag (by rw[86]);have n3:(ag H2 n (.aj [])) n=Z (.aj []):=aw;have hnd:n≠d:=(aX hd2 hn).symm;have U:ah u [nF,H2,n]:=s2.trans s3;have hn1:u n=none:=s2.free hn;have hn0:H n=none:=s1.free hn1;generalize[nF,H2,n]=L at s3 nb3 n3 U;have hgl:r.length<aQ:=(eR (bf X.len [ym,i≤64]) [bd]);have sH3:ah H L:=[Ac,U];refine⟨d,G,.ref n,i6 sh z,r.map Gr.kv,J,J,U _ _ X.d,Qz (s3 _ _ t1) (hps.mono (dF sH3)),[ov,hgl],λ v hv=>?_,λ hno=>?_⟩;·obtain⟨g,D,hk,rfl⟩:=abh hv;obtain⟨e1,e2⟩:=aba hk;have O:=U _ _ (X.at_ g D).1;have hgn:=X.QH D;refine⟨[Ed,O],_,J,g.a,_,_,J,J,O,(eR (show[cY,aJ g.nums,64]by rw[31,aC]) [bd]),?_⟩;obtain⟨gs',hG'⟩:=X.more D [ar,e1,hshi] [ar,e2,hz] U;exact⟨gs',_,_,J,(ah.aT sH3 (X.at_ g D).2),nb3.ag (by rw[86]),hG'⟩
  ·have hu4:ag L d (.dT (cD (r.map Gr.kv) (i6 sh z) (.ref n))) n=Z (.aj []):=[b8,hnd,n3];refine⟨[Ed,hu4],_,J,n,_,_,J,J,hu4,by show 0<aQ;decide,?_⟩;obtain⟨gs',hG'⟩:=X.fresh (H':=ag L d (.dT (cD (r.map Gr.kv) (i6 sh z) (.ref n)))) hshi hz hno hn1 hn0 (λ b o e nb=>[b8,nb,U _ _ e]) aw hnd;exact⟨gs',_,_,J,(ah.aT (ah.aT sH3 hd) hn0),(nb3.ag (by rw[86])).ag (by rw[86]),hG'⟩
 ·rintro σ u⟨r,v4,v5,rfl,s1,nb1,X⟩;rw[aC,hsl]at X;rw[15,b7 _,λ kl hkl=>?_];have s2:ah u [nF,u,kl]:=[cm,u,hkl];have nb2:NB [nF,u,kl]:=nb1.ag (by rw[86]);have kl2:(ag u kl (.aj [])) kl=Z (.aj []):=aw;generalize[nF,u,kl]=H2 at s2 nb2 kl2;have hd2:=s2 _ _ X.d;have sH2:ah H H2:=[Ac,s2];have hT2:=jh hT sH2;obtain⟨tb,htb,_⟩:=id hT2;refine λ tok=>⟨_,J,d,_,J,hd2,λ p hp=>?_,tok.W2,hT2,λ L l ys gr hl hT3 hl3 hys=>?_⟩
  ·obtain⟨g,_,rfl⟩:=[bp,hp];rw[1,_,_,J]
  obtain⟨zs,hperm,hzl,hzk⟩:=hys;have nb3:NB L:=λ q N e=>nb2 q N (gr.tup q N e)
  have hpair:(Paired (λ v(g:Gr)=>∃q,v=(V.ref q)∧eZ L g.key q) zs r):=by
   refine QI (by rw[hzl,aC]) λ i g D=>?_
   obtain⟨q,h1,h2⟩:=hzk i g.key (.ref g.a) [jl,cJ,D];rw[9,_,h1,q,J,h2]
  obtain⟨F,hp2,hpr⟩:=abe hperm hpair;have hdP:[uj,H2,∀q,o≠.je q,L b=Z o]:=λ b o e n=>gr.old b o e λ z=>n tb (by rw[z,htb]at e;exact[nr,e])
  have hd3:L d=Z (.dT (r.map Gr.kv)):=hdP _ _ hd2 (by intro q z;cases z);have kl3:L kl=Z (.aj []):=hdP _ _ kl2 (by intro q z;cases z);have hlk:l≠kl:=(aX kl2 hl).symm;have M:∀g,g∈F→g∈r:=λ g D=>hp2.mem_iff.mp D
  have hg3:∀g∈F,L g.a=Z (.aj (aJ g.nums))∧g.a≠kl:=λ g D=>by have h1:=(X.at_ g (M g D)).1;rw[0,hdP _ _ (s2 _ _ h1) (by intro q z;cases z),aX h1 hkl]
  have hyl:ys.length=F.length:=[DO,hpr];have keep3:∀{m:Hp},([uj,L,b≠kl,m b=Z o])→eK Pt H m:=λ kk b o e nb=>kk b o (gr.old b o (sH2 _ _ e) nb) (aX (s1 _ _ e) hkl)
  have Y:(F.flatMap (·.nums)).Perm [ul,shs.length]:=((hp2.flatMap_right _).trans X.part);have htl:=A3 most F;rw[Y.length_eq,jI]at htl;rw[17,l,J,[nj,hl3],[m6,iZ,l,ys,λ i σ m=>∃(aO:[aT])(v8 v9 v10 v11:[dL]),(σ=[Z [pU],[bV,za],Z [vg],Z [lx],v4,v5,[bV,kl],Z (nV (ik most (F.take i))),v8,v9,v10,v11]∧[uj,L,b≠kl,m b=Z o]∧m kl=Z (.aj [JY])∧jD C m (fY most 0 (F.take i)) aO),⟨[],none,none,none,none,J,λ b o e _=>e,kl3,J,λ i k h=>by simp[fY]at h⟩,λ i σ m _⟨_,_,_,_,_,_,kk,_⟩=>(ax.of (kk _ _ hl3 hlk))]]
  ·rintro i y σ H4 hi⟨aO,v8,v9,v10,v11,rfl,kk,S,hK⟩;obtain⟨g,D,q,rfl,hky⟩:=d6 hpr hi;have hgi:=bt D;obtain⟨p,hq,hps⟩:=abd nb3 (show eZ L (i6 g.sh g.sz) q from hky);have nkl:∀b N,L b=Z (.tup N)→b≠kl:=λ b N e=>[oB,e,kl3]
   have tk:jk L H4:=λ b N e=>kk _ _ e (nkl b N e)
   have hps4:=hps.mono tk;have hd4:H4 d=Z (.dT (r.map Gr.kv)):=kk _ _ hd3 [oB,hd3,kl3];have O:=hg3 g hgi;have hga4:=kk _ _ O.1 O.2;have hnl:=X.QH (M g hgi);have et:F.take (i+1)=F.take i++[g]:=[jl,fH,D];rw[3,⟨q,_,J,bM.of (tk _ _ hq),J,_,_,J,_,_,J,J,?_⟩,⟨_,J,_,J,_,J,[Bi],λ t ht=>?_⟩];have s5:ah H4 [pD,H4,t,[cX],nV g.sz]:=[cm,H4,ht];have t5:(ag H4 t [ii,[cX],nV g.sz]) t=Z [ii,[cX],nV g.sz]:=aw;generalize[pD,H4,t,[cX],nV g.sz]=H5 at s5 t5;have gg:=eW.t (s5 _ _ hd4) (Qz t5 (hps4.mono (dF s5)));have hv:cn (r.map Gr.kv) (i6 g.sh g.sz)=[bV,g.a]:=Ac X.nd (M g hgi);rw[hv]at gg;refine[d9,d,_,gg,?_];have hga5:=s5 _ _ hga4;refine⟨_,J,_,g.nums.length,J,[Lu,hga5,aC],_,J,_,_,J,?_⟩;have ec:[QB,most,g.nums.length]=[aV,[ze]]:=by split<;>omega
   rw[ec];have hkl5:=s5 _ _ S;refine⟨_,J,[Ed,hkl5],_,J,_,J,_,J,_,J,_,J,λ x W hx hdx hne=>⟨x,W,g.a,p,jF most (ik most (F.take i)) g,J,aw,?_,?_,J,?_⟩⟩;·have:=[CB,X.ne g (M g hgi)];rw[20,1≤[ze]]
   ·have h1:=A3 most (F.take (i+1));have h2:(ik most (F.take (i+1)))≤64:=by
     have h3:[cY,((F.take (i+1)).flatMap (·.nums)),(F.flatMap (·.nums)).length]:=by have:F=F.take (i+1)++F.drop (i+1):=(Bp _ _).symm;rw[this,kW,dh,←this];omega
     rw[Y.length_eq,jI]at h3;omega
    rw[et,F_]at h2;show(ik most (F.take i))+[ze]≤64;exact h2
   ·have s6:ah H5 (ag [Go,H5,x,C] x (.ins C W [QD])):=(ah.aT (ah.aT [cm,H5,hdx] hx) hx);have x6:(ag [Go,H5,x,C] x (.ins C W [QD])) x=[ff,C,[QD]]:=aw;generalize(ag [Go,H5,x,C] x (.ins C W [QD]))=H6 at s6 x6;have R:=s5.trans s6;have hkl6:=R _ _ S;have hkal:aO.length=[fy,F.take,i]:=by rw[hK.len,QG]
    refine⟨kl,_,_,J,J,hkl6,(eR (show[cY,[JY],64]by rw[aC,hkal,jJ];have:=X.len;rw[10,hp2.length_eq]) [bd]),?_⟩;have sk:[uj,H6,∀N,o≠.aj N∨b≠kl,ag H6 kl (.aj ([JY]++[eD,x])) b=Z o]:=λ b o e n=>by
     by_cases z:b=kl;·subst z;rw[67,hkl6,((n _).elim (λ w=>w J) (λ w=>w J)).elim]
     rw[11,ar z,e]
    refine⟨_,J,_,J,_,_,J,J,aO++[x],Z [cX],Z (nV g.sz),[bV,g.a],Z (nV [ze]),?_,λ b o e nb=>[b8,nb,R _ _ (kk b o e nb)],[jl,aw,cH],?_⟩;·rw[et,F_];rfl
    ·rw[et,QD];rw[15,by rw[dh,dh,hK.len];rfl,λ j kd hj=>?_];rw[RT]at hj;by_cases hjl:j<(fY most 0 (F.take i)).length
     ·rw[aI hjl]at hj;obtain⟨p1,nu,sh,b1,⟨dx1,b2⟩,b3,b4⟩:=hK.at_ j kd hj;rw[47,p1,nu,sh,?_,⟨dx1,[QG,R _ _ b2]⟩,sk _ _ (R _ _ b3) λ N=>.inr ?_,b4.mono λ b N e=>[QG,R _ _ e]];·rw[12,RT,aI [ar,hK.len,hjl],b1]
      ·rw[52];rw[b3]at S;have e:=[dF,S];injection e with e;obtain⟨_,_,g',hg',e'⟩:=qp (bt hj);have hne':kd.nums≠[]:=[ar,e',X.ne g' (M g' (Bq hg'))];cases hkn:kd.nums with|nil=>exact hne' hkn|cons n0 ns=>rw[hkn]at e;cases aO with|nil=>cases e|cons a0 as=>cases e
     ·rw[aD hjl]at hj;have hj0:j-(fY most 0 (F.take i)).length=0:=by rw[84,[eJ,hj]]
      rw[hj0]at hj;simp at hj;subst hj;rw[47,x,g.a,p,?_,⟨W,[QG,x6]⟩,sk _ _ (R _ _ hga4) λ N=>.inr O.2,?_];·rw[RT,aD [ar,hK.len,hjl],hK.len,hj0];rfl
      ·exact(hps4.mono (dF R)).mono λ b N e=>[QG,e]
  ·rintro σ H4⟨aO,v8,v9,v10,v11,rfl,kk,S,hK⟩;rw[hyl,fZ]at hK;refine[de,k kl aO _ H4 (abf h1 (λ g D=>X.ne g (M g D)) (λ g D=>X.tr g (M g D)) Y) hK S (keep3 kk)]
end
end VP
end
section
namespace VP
open PySem L2
def iN(ks:[d6])(n:Nat):Nat:=(ks.findIdx? λ k=>[aN,n∈k.nums]).getD 0
section
variable{shs:[Fg]}{szs:[ak]}{most:Nat}{ks:[d6]}
theorem QJ{m d:Type}{f:m→List d}:∀{l:[li]},(l.flatMap f).Nodup→∀{i j:Nat}{a b:m}{x:d},[b9,l[i]?=Z a,l[j]?=Z b,x∈f a,x∈f b,i=j]
 |[],_,i,j,a,b,x,h,_,_,_=>by rw[16]
 |c::l,nd,i,j,a,b,x,g,r,P,w=>by
  rw[kZ,k0]at nd;cases i with
   |zero=>
    cases j with
     |zero=>rfl
     |succ j=>
      have g:c=a:=by rw[75]
      have r:l[j]?=Z b:=[aB,r];subst g;rw[8,J,nd.2.2 x P x [pN,b,bt r,w]]
   |succ i=>
    have g:l[i]?=Z a:=by rw[75]
    cases j with|zero=>have r:c=b:=[aB,r];subst r;rw[8,J,nd.2.2 x w x [pN,a,bt g,P]]|succ j=>have r:l[j]?=Z b:=[aB,r];rw[QJ nd.2.1 g r P w]
theorem QK{m d:Type}{f:m→List d}:∀{l:[li]},(l.flatMap f).Nodup→∀a∈l,(f a).Nodup|[],_,a,h=>by rw[16]|c::l,nd,a,h=>by rw[kZ,k0]at nd;rw[136];rw[2,nd.1,QK nd.2.1 a h]
theorem gn.nd(h:[DD]):[Ps].Nodup:=h.part.nodup_iff.mpr List.nodup_range
theorem gn.ay(h:[DD]){n:Nat}(hn:n<shs.length):∃k,ks[iN ks n]?=Z k∧n∈k.nums:=by have:n∈ks.flatMap (·.nums):=h.part.mem_iff.mpr [rJ,hn];obtain⟨k,C,a⟩:=[zg,this];unfold iN;cases e:ks.findIdx? λ k=>[aN,n∈k.nums]with|none=>have:=List.findIdx?_eq_none_iff.mp e k C;rw[82];rw[8,a,this]|some j=>obtain⟨U,g,_⟩:=List.findIdx?_eq_some_iff_getElem.mp e;rw[1,ks[j],bX U,by rw[75]]
theorem gn.QL(h:[DD]){n j:Nat}{k:Vs.Kd}(C:ks[j]?=Z k)(hn:n∈k.nums):iN ks n=j:=by have s:n<shs.length:=[KJ,h.part.mem_iff.mp [pN,k,bt C,hn]];obtain⟨d,g,r⟩:=h.ay s;exact QJ h.nd g C r hn
theorem gn.lt(h:[DD]){n:Nat}(hn:n<shs.length):[zm,iN ks n]:=by obtain⟨k,g,_⟩:=h.ay hn;exact[eJ,g]
theorem QM(ay:[dj])(j:Nat)(l:[ak]):(l.map ay).count j=[fy,l.filter,λ i=>ay i==j]:=by rw[List.count_eq_countP,List.countP_map,List.countP_eq_length_filter];rfl
theorem gn.bC(h:[DD])(r:[ak])(y:r.Nodup)(b:∀i∈r,i<shs.length)(X:[B_,most])(j:Nat):(r.map (iN ks)).count j≤Vs.cF ks j:=by
 rw[QM];cases e:ks[j]? with
  |none=>rw[97,(r.filter λ i=>iN ks i==j)=[],by rw[List.filter_eq_nil_iff];intro i O z;have:=h.lt (b i O);have z:iN ks i=j:=[aB,z];rw[z]at this;rw[35,bX this],b7 _]
  |some k=>
   have V:Vs.cF ks j=min k.nums.length most:=by unfold Vs.cF;rw[4,e,h.cnt k (bt e)]
   rw[V];have g:[cY,r.filter λ i=>iN ks i==j,k.nums.length]:=by
    refine Vs.jT (List.Nodup.sublist Bs y) λ i O=>?_
    rw[yH]at O;have z:iN ks i=j:=[aB,O.2];obtain⟨d,a,P⟩:=h.ay (b i O.1);rw[z,e]at a;rw[6,a,P]
   have a:=nO (λ i=>iN ks i==j) r;omega
theorem gn.many(h:[DD])(j:Nat):Vs.cF ks j≤[wv,shs.length,iN ks].count j:=by
 rw[QM];unfold Vs.cF;cases e:ks[j]? with
  |none=>exact b7 _
  |some k=>
   have V:=h.cnt k (bt e);show k.count≤_;have g:k.nums.length≤[fy,[ul,shs.length].filter,λ i=>iN ks i==j]:=by rw[41,Vs.jT (QK h.nd k (bt e)) λ n hn=>?_,yH];rw[15,h.part.mem_iff.mp [pN,k,bt e,hn],?_];simp[h.QL e hn]
   omega
theorem gn.abj(h:[DD]){n:Nat}(hn:n<shs.length):shs[n]?=Z [yj,ks,iN ks n]∧szs[n]?=Z (Vs.b0 ks (iN ks n)):=by obtain⟨k,g,r⟩:=h.ay hn;have:=h.tr k (bt g) n r;unfold Vs.shapeAt Vs.b0;rw[4,g,this]
theorem gn.abk(h:[DD]):ks.length≤shs.length:=by
 have:∀l:[d6],(∀k∈l,k.nums≠[])→[pQ,(l.flatMap (·.nums)).length]:=by intro l;induction l with|nil=>simp|cons k l T=>intro a;have g:=T [KQ,a];have r:=[CB,a k cq];rw[kZ,dh,dP];omega
 have g:=this ks h.ne;rw[h.part.length_eq,jI]at g;exact g
theorem gn.QN(h:[DD]){i:Nat}(O:[zm,i]):[yj,ks,i]∈shs:=by have e:=bX O;have N:=bt e;rw[62,[yj,ks,i]=(ks[i]).sh,by unfold Vs.shapeAt;rw[e]];cases hn:(ks[i]).nums with|nil=>rw[8,hn,h.ne _ N]|cons n f=>exact bt (h.tr _ N n [ar,hn,cq]).1
noncomputable def Ge(m:bT)(ks:[d6])(aO:[aT])(most:Nat)(co sc ka r d1 d2 d3 Pt bN CK CC CL bo B:ab):aS:={m:=m,ks:=ks,aO:=aO,most:=most,tg:=kI m,en:=sj m,U:=UM m,co:=co,sc:=sc,ka:=ka,r:=r,d1:=d1,d2:=d2,d3:=d3,Pt:=Pt,X:=[],bN:=bN,CK:=CK,CC:=CC,CL:=CL,bo:=bo,sd:=ie B m sc d3,kt:=AG m ks (UM m) d3}
theorem abl{m:bT}(M:gU m)(h:[DD])(G:∀sh∈shs,qj sh)(b:∀z∈szs,z≤24)(B:shs.length≤64)(N:most≤12){aO:[aT]}{co sc ka r d1 d2 d3 Pt bN CK CC CL bo CS:ab}:cw (Ge m ks aO most co sc ka r d1 d2 d3 Pt bN CK CC CL bo CS):=by
 have g:∀i,qj [yj,ks,i]:=λ i=>by
  by_cases O:[zm,i];·exact G _ (h.QN O)
  ·rw[97,[yj,ks,i]=(0,[]),by unfold Vs.shapeAt;rw[sQ [ac]],⟨[al],[al]⟩]
 refine⟨⟨h.sep,N,[zj],[zj]⟩,[zj],?_,λ L i x _ _=>Zx,λ L i x V O A=>?_,λ L i V=>?_,λ L _=>Zr,ZA m,λ c d s z=>z.mono s,λ H a c d e s z=>ZN H a c d e s z⟩;·rw[10,h.fin k C]
 ·cases hn:k.nums with|nil=>rw[8,hn,h.ne _ C]|cons n f=>exact b _ (bt (h.tr _ C n [ar,hn,cq]).2)
 ·rw[10,h.fin k C]
 ·exact bf h.abk B
 rw[2,(yj M).mpr ((Pu M ((yj M).mp V) (g i)).1 x A),(Pu M ((yj M).mp V) (g i)).2]
theorem abm{m:bT}(M:gU m)(h:[DD])(G:∀sh∈shs,qj sh){aO:[aT]}{co sc ka r d1 d2 d3 Pt bN CK CC CL bo CS:ab}:j9 CS (Ge m ks aO most co sc ka r d1 d2 d3 Pt bN CK CC CL bo CS):=⟨J,J,J,J,M,λ L p=>(yj M).mp p,λ i O=>G _ (h.QN O)⟩
end
theorem QO(x:[ak]):jE x≤3:=by
 unfold jE;repeat' split
 all_goals omega
theorem abn(v:Nat)(x:[ak]):kO v x≤3:=by
 unfold kO;split;·omega
 ·exact QO x
theorem Gf{l:[ak]}(h:∀w∈l,w≤3):∀w∈Vs.h7 l,w≤3:=by
 intro w T;unfold Vs.h7 at T;rcases[gM,T]with q|q;·obtain⟨x,A,rfl⟩:=[bp,q];rw[10,h x (RR _ A)]
 ·exact h w (RP q)
theorem abo(l:[ak]):qj (kf l):=by
 have T:∀w∈fG l,w≤3:=λ w T=>by unfold fG at T;obtain⟨x,_,rfl⟩:=[bp,T];exact abn _ _
 have a:∀w∈[JX],w≤3:=λ w h=>T w (RR _ h)
 unfold kf;rw[7];·split<;>simp
 ·intro fm U;have X:gA l≤3:=QO _;rw[30,qm l,true];·rw[aI e]at U;simp at U;rw[122,U,⟨by show _≤2;simp,X,Gf a⟩,⟨by show _≤2;simp,X,Gf T⟩]
  ·rw[aD e]at U;simp at U;subst U;rw[1,by show _≤2;simp,X,Gf T]
theorem abp{S:List [ak]}{most:Nat}(h:[M7,S,23]):∀z∈mG S most,z≤24:=by
 intro z M;unfold mG at M;split at M;·obtain⟨x,_,rfl⟩:=[bp,M];omega
 ·obtain⟨x,A,rfl⟩:=[bp,M];rw[10,h x A]
theorem abq(S:List [ak])(most:Nat):[cI,mG S most,S.length]:=by unfold mG;split<;>simp
theorem abr{m:bT}(M:gU m):Vs.start m∈UM m:=by
 refine((yj M).mpr ⟨?_,?_,?_⟩);·show ij m (Vs.vV m);unfold Vs.vV;rw[9,b7 _,λ z=>[e9,J,z],b7 _,b7 _,λ z=>[aB,z]]
 ·intro w h;cases h
 ·exact b7 _
end VP
end
section
namespace VP
open PySem L2
def soft:HO→Bool|.dT _=>true|.je _=>true|.ins _ _ []=>true|_=>false
def kQ(H m:Hp):Prop:=[uj,H,[aw,soft o],m b=Z o]
theorem kQ.of{H m:Hp}(s:ah H m):kQ H m:=λ b o e _=>s b o e
theorem QP{M:[aT]}{H:Hp}(h:∀q∈M,∀o,H q=Z o→soft o=true):kQ H (Zh M H):=λ b o e n=>[rs,e,λ K=>by rw[h b K o e]at n;cases n]
theorem abt{K:aF}{H m:Hp}{a:ab}{N:[aK]}(h:ax K H a N)(s:kQ H m):ax K m a N:=by
 rcases h with(h|⟨o,h⟩)|h;·rw[21,.inl (s _ _ h J)]
 rw[48,[jT,o,s _ _ h J],h]
theorem QQ{C:ab}{H m:Hp}{ks:[d6]}{aO:[aT]}(k:jD C H ks aO)(s:kQ H m):jD C m ks aO:=by rw[15,k.len,λ i d h=>?_];obtain⟨p,X,sh,g,⟨W,r⟩,P,w⟩:=k.at_ i d h;exact⟨p,X,sh,g,⟨W,s _ _ r J⟩,s _ _ P J,w.mono λ b N e=>s _ _ e J⟩
theorem QR{B:ab}{m:bT}{sc d3:ab}{a c:Hp}(h:[CO,a])(s:kQ a c):[CO,c]:=by obtain⟨W,x,n,A,en,g,⟨y,r,P⟩,⟨G,w,b⟩,⟨Y,H,R⟩,k⟩:=h.ex;exact⟨W,x,n,A,en,s _ _ g J,⟨y,s _ _ r J,[su,P,s _ _ z J]⟩,⟨G,s _ _ w J,[su,b,s _ _ z J]⟩,⟨Y,s _ _ H J,R⟩,s _ _ k J⟩
theorem A4{b:ab}{H a:Hp}{me:ab}{m:bT}(h:vf b H me m)(s:kQ H a):vf b a me m:=by obtain⟨W,x,n,g,⟨y,r,P⟩,⟨G,w,c⟩⟩:=h;rw[37,W,x,n,s _ _ g J,⟨y,s _ _ r J,[su,P,s _ _ z J]⟩,⟨G,s _ _ w J,[su,c,s _ _ z J]⟩]
def qr(aO:[aT])(j n:Nat):(Key×V):=(bY [cQ],(V.ref (aO.getD j 0)))
def iO(ks:[d6])(j:Nat):[ak]:=[E6,ks[j]?,k,k.nums,[]]
def jG(ks:[d6])(aO:[aT])(i:Nat):[mh]:=[Bf,i,λ j=>(iO ks j).map (qr aO j)]
theorem QS(ks:[d6])(aO:[aT])(i:Nat):jG ks aO (i+1)=jG ks aO i++(iO ks i).map (qr aO i):=by unfold jG;rw[vD,kW];simp
theorem A5(ks:[d6]):∀i,i≤ks.length→[Bf,i,iO ks]=[oC,ks.take i,(·.nums)]|0,_=>[al]|i+1,h=>by have O:[zm,i]:=[ac];rw[vD,kW,A5 ks i [ac],fH,bX O,kW];congr 1;simp[iO,bX O]
theorem Gg(ks:[d6])(aO:[aT])(i:Nat):(jG ks aO i).map (·.1)=[Bf,i,iO ks].map (λ n:Nat=>(bY [cQ]:Key)):=by unfold jG;rw[List.map_flatMap,List.map_flatMap];congr 1;funext j;rw[cP];rfl
theorem abu(ks:[d6])(aO:[aT]):[cI,jG ks aO ks.length,[Ps].length]:=by have g:=[B2,Gg ks aO ks.length];rw[aC,aC,A5 ks _ (ba _),fZ]at g;exact g
theorem abv(ks:[d6])(aO:[aT]){i:Nat}(O:[zm,i]):(jG ks aO i).length+(iO ks i).length≤[Ps].length:=by have g:=[B2,Gg ks aO (i+1)];rw[aC,aC,A5 ks (i+1) O,QS,dh,aC]at g;have r:=ed (λ l:List Vs.Kd=>(l.flatMap (·.nums)).length) (Bp (i+1) ks);simp only[kW,dh]at r;omega
theorem abw{l:[ak]}{n:Nat}(h:(bY [cQ]:Key)∈l.map (λ n:Nat=>(bY [cQ]:Key))):n∈l:=by obtain⟨x,A,e⟩:=[bp,h];have:[ap,x]=[cQ]:=Sum.inl.inj e;have:x=n:=[ac];rw[25,this,A]
theorem wH{Y:[mh]}{k:Key}{v:V}(h:k∉[Nf]):cD Y k v=Y++[(k,v)]:=by unfold cD;rw[aD];intro z;obtain⟨p,R,e⟩:=List.any_eq_true.mp z;exact h [Do,p,R,lR e]
theorem abx{ks:[d6]}{aO:[aT]}(nd:[Ps].Nodup){i t n:Nat}(O:[zm,i])(F:(iO ks i)[t]?=Z n):cD (jG ks aO i++((iO ks i).take t).map (qr aO i)) (bY [cQ]) (.ref (aO.getD i 0))=jG ks aO i++((iO ks i).take (t+1)).map (qr aO i):=by
 rw[wH,fH,F,cH,gZ];·rfl
 ·rw[cH,Gg,cP];have:((λ x:(Key×V)=>x.1)∘qr aO i)=(λ n:Nat=>(bY [cQ]:Key)):=J;rw[this,←cH];intro z;have z:=abw z;rw[A5 ks i [ac]]at z;have e:=Bp i ks;rw[←e,kW]at nd;have d:ks.drop i=ks[i]::ks.drop (i+1):=IA O;rw[d,kZ]at nd;have en:iO ks i=(ks[i]).nums:=by unfold iO;rw[bX O]
  rw[en]at F z;have o:=[L7,F];obtain⟨a,h⟩:=o;have e2:(ks[i]).nums=(ks[i]).nums.take t++n::(ks[i]).nums.drop (t+1):=by
   conv=>lhs;rw[←Bp t (ks[i]).nums]
   rw[IA a,h]
  rw[e2]at nd;rw[gZ,←gZ,k0]at nd;exact nd.2.2 n z n [al] J
theorem aby{S:[Fg]}{u:[ak]}{most:Nat}{ks:[d6]}(h:gn S u most ks)(aO:[aT]){n:Nat}(hn:n<S.length):cn (jG ks aO ks.length) (bY [cQ])=[bV,aO.getD (iN ks n) 0]:=by
 obtain⟨k,g,r⟩:=h.ay hn;have N:qr aO (iN ks n) n∈jG ks aO ks.length:=[pN,iN ks n,[rJ,h.lt hn],[jz,n,by unfold iO;rw[4,g,r]]];obtain⟨v,e1,e2⟩:=um (kvs:=jG ks aO ks.length) (k:=bY [cQ]) [jz,_,N];rw[e1];obtain⟨j,U,m⟩:=[zg,e2];obtain⟨q,L,e⟩:=[bp,m];injection e with B G;have c:q=n:=by rw[10,Sum.inl.inj B]
 subst c;unfold iO at L;cases l:ks[j]? with|none=>rw[l]at L;simp at L|some d=>rw[l]at L;rw[83,h.QL l L];rw[←G]
def Gi:[bj]:=[[ck],"measure","words","most",[pW],"kind",[lf],"word"]
theorem QT:bQ Gi [Lb] (aZ uV):=[cj]
section
variable{P:aY}{w:aU}{K:aF}{mg:[a_]}{base:aE}
theorem QU{H m:Hp}{Pt x:ab}{W:Pos}{q:Str}(t:[AV,H])(k:[C9,x,m b])(A:Pt≠x)(hn:∀c,H x≠Z (w6 c q)):[AV,m]:=by obtain⟨V,g,r,P⟩:=t;refine⟨V,k _ _ g A,r,?_⟩;rcases P with h|⟨s,a,b⟩;rw[2,[m_],[vn,s,a,k _ _ b λ z=>hn s [cE,z,b]]]
structure Ready(d B bN CK CC CL bo s:ab)(m:bT)(S:List [ak])(most:Nat)(a:Hp)(se:ab)(F:aS)(kb:ab)(ay:[dj]):Prop where
 fm:F.m=m
 qt:F.most=most
 cls:[bn,F.bN=bN,F.CK=CK,F.CC=CC,F.CL=CL,F.bo=bo∧F.Pt=s]
 ok:cw F
 sc:j9 B F
 st:bA F a []
 sr:mC F d (Zh (aP F []) a) se kb ay S.length
 kl:AL (Zh (aP F []) a) kb S.length
 ko:AK F ay S.length
 many:AM F ay S.length
 tr:∀n x,S[n]?=Z x→[yj,F.ks,ay n]=kf (d_ 0 x)∧(mG S most)[n]?=Z [Fi,ay n]
def Gk(K:aF)(d B b bN CK CC CL bo c s:ab):Sp:=λ U H Q _=>∃(p W me y:ab)(m:bT)(S:List [ak])(most:Nat),[bn,U=[[cX],.ref me,.ref y,[vg]],H p=[ff,d,[]],vf b H me m,gU m,[Ec,m.cuts.length≤1000,y,cx S,S≠[],[M_],[kw,[M7,S,23],1≤most,most≤12,NB H,df H c Gb Gc,df H s i4 iJ,c≠s∧∀(F:aS)(kb:ab)(ay:[dj])(a:Hp),Ready d B bN CK CC CL bo s m S most a p F kb ay→kQ H a→Q .bh a]]]
theorem abz{f fSh fSz fKo fS fCo l CS CM bN CK CC CL bo PtK B:ab}{fd fdSh fdSz fdKo fdS fdCo:bq}(I:iM K "Search.__init__" uV l f fd [Lb])(T:[Dz,l])(eu:[CI,bN])(D1:[gh,"shape_of",uK,fSh,fdSh,[zt]])(G1:aA P w K mg base aG 3 fSh fdSh [zt] FT)(D2:[gh,"sizes_of",rV,fSz,fdSz,[LS]])(G2:aA P w K mg base aG 1 fSz fdSz [LS] (F9 K))(D3:[gh,[J8],rL,fKo,fdKo,[Il]])(G3:aA P w K mg base aG 3 fKo fdKo [Il] (Gd K bN PtK))(IS:iM K "Scanner.__init__" xH CS fS fdS [LT])(TS:[Ay,CS])(GS:aA P w K mg base aG 1 fS fdS [LT] (Ff K CS CM))(IC:iM K [Q8] xy bo fCo fdCo [Ke])(TC:[Pp,bo])(GC:aA P w K mg base aG 2 fCo fdCo [Ke] (ES K bo bN)):aA P w K mg base aG 4 f fd [Lb] (Gk K l CS CM bN CK CC CL bo PtK B):=by
 have nd:Gi.Nodup:=QT.nd;rw[60,I.fn.ok,QT];·obtain⟨p,W,me,wa,m,S,most,rfl,_⟩:=h;rfl
 obtain⟨p,W,me,wa,m,S,most,rfl,hp,hme,hM,hcl,hwa,hne,h64,hwl,hm1,hm12,hnb,hTK,hTC,hPt,k⟩:=h;rw[89];rw[112,3];have hr2:cy 2 _:=[yf,2,3];rw[27,[At,4,[ED,G3,hr,D3.mg,D3.fn.kp,D3.b,jz (own:=[("word",7)]) J nd (dj (pv 2)) [Ad,Gi,uV,"word",7] (λ _ _ _ _ _=>[pL,7]) (λ _ _ _ _ _=>iv) (λ _ _ _ _ _=>[Co,G1,hr,D1.mg,D1.fn.kp,D1.b,7]),[Am,[ED,G2,hr1,D2.mg,D2.fn.kp,D2.b,pv 2,[gv,3]],3]],[uh,lB IS.ma GS hr2 J TS.mg IS.b .nil bH [gv,1]],aK [uh,lB IC.ma GC hr J TC.mg IC.b .nil bH [Am,[er],4]] (aK [uh,pv 3] (aK [uh,wO] (aN [Cq,pv 4,5,[Cq,[jh,5],6,nk hu [er] (pv 6) (pv 5) J]])))]];have hwdl:[cI,cx S,S.length]:=by unfold cx;rw[aC]
 rw[61,wa,J,[gt,hwa],λ D hD=>[m6,pW,wa,cx S,λ j d=>ah H d∧bD H d∧∃G:[aT],d D=Z (.aj [wk])∧(G.length=j∧(Paired (ji d) G [Aq,S.take j,kf (d_ 0 x)])),⟨[mt,hD],[DZ].ag J,[],aw,J,by simp;exact .nil⟩,λ j d _⟨s',_⟩=>s'.seq hwa]]
 ·rintro j x H1 g⟨s1,p1,G,hD1,hsl,hsas⟩;obtain⟨t,ht,rfl⟩:∃t,S[j]?=Z t∧x=[pi,t]:=by unfold cx at g;rw[cJ]at g;cases q:S[j]? with|none=>rw[q]at g;cases g|some t=>rw[q]at g;rw[22,t,[nr,g]]
  have hjl:=[eJ,ht];have et:S.take (j+1)=S.take j++[t]:=[jl,fH,ht];rw[15,J,[zH,t,by rw[10,hwl t (bt ht)],λ a H2 s2 p2 hsh=>?_]];have hD2:=s2 _ _ hD1;rw[161,H2,D,[wk]++[eD,a],[oB,e,hD2]];refine⟨_,hD2,?_,(ah.aT [Ac,s2] hD),(p1.trans p2 s2).ag J,G++[a],[jl,aw,cH],[jl,dh,hsl],?_⟩;·rw[12,aC,hsl,[zB,eR,j,64]]
  ·rw[12,et,cH,nG [su,hsas,(z.mono (dF s2)).mono tk] [qu,hsh.mono tk]]
 rintro H1⟨s1,p1,G,hD1,hsl,hsas⟩;rw[hwdl,fZ]at hsas;rw[hwdl]at hsl;refine⟨_,J,_,J,wa,S,most,J,s1.seq hwa,hne,h64,hwl,hm12,λ zb H2 s2 p2 hzb=>?_⟩;have sH2:=[Ac,s2];have nb2:NB H2:=hnb.plain sH2 (p1.trans p2 s2);refine⟨_,J,D,zb,G,S.map λ x=>kf (d_ 0 x),mG S most,most,J,[pc,s2,hD1],[su,hsas,z.mono (dF s2)],(ax.of hzb),by rw[abq,aC],[ov,h64],hm1,nb2,jh hTK sH2,λ ka aO ks H3 N hKA hka kp=>?_⟩;have hps:[uj,H,[aw,soft o],b≠PtK]:=λ b o e n z=>by subst z;obtain⟨ps,t1,_⟩:=hTK;rw[35,t1];cases n
 have hpK:p≠PtK:=λ z=>by subst z;obtain⟨ps,t1,_⟩:=hTK;rw[t1]at hp;cases hp
 have p3:H3 p=[ff,l,[]]:=kp _ _ (sH2 _ _ hp) hpK;have sol3:kQ H H3:=λ b o e n=>kp _ _ (sH2 _ _ e) (hps b o e n)
 have tK2:=jh hTK sH2;have tC3:df H3 B i4 iJ:=QU (jh hTC sH2) kp hPt.symm λ c z=>by obtain⟨ps,t1,_⟩:=tK2;rw[63,t1]
 have hme3:=A4 hme sol3;refine[de,λ x dxs g hdxs hnex=>⟨x,dxs,me,m,J,aw,A4 hme3 (.of (ah.aT [cm,H3,hdxs] g)),hcl,[pH,hM.feet],λ d3 R hd3 hsc hd34 kk=>[lu,?_]⟩];have s34:ah H3 R:=[Fa,kk,by rw[12,ar (aX e g),ar (aX e hdxs),e],aX e g];have nd3x:d3≠x:=λ z=>by subst z;rw[aw]at hd3;cases hd3
 have hd33:H3 d3=none:=by
  rw[ar nd3x]at hd3;by_cases z:d3=dxs;·subst z;rw[aw]at hd3;cases hd3
  ·rw[ar z]at hd3;exact hd3
 have p4:R p=[ff,l,[]]:=s34 _ _ p3;have e0:[LO,gk.zip]:=[al];have p4':=p4;rw[e0]at p4';have npx:p≠x:=aX p3 g;have npd3:p≠d3:=aX p3 hd33;refine[zV,p4'];have sol4:kQ R (Zh [p] R):=QP λ q hq o e=>by simp at hq;subst hq;rw[35,p4];rfl
 have kz4:jD bN (Zh [p] R) ks aO:=QQ (hKA.mono s34) sol4;have cz4:ie CS m x d3 (Zh [p] R):=QR hsc sol4;have az4:Zh [p] R ka=Z (.aj [JY]):=sol4 _ _ (s34 _ _ hka) J;have dz4:Zh [p] R d3=Z (.dT []):=[rs,hd34,[aB,npd3.symm]];have pK:∀c,R p≠Z (w6 c iJ):=λ c z=>by rw[63,p4]
 have nPC:B≠p:=λ z=>by obtain⟨ps,t1,_⟩:=tC3;rw[z,p3]at t1;cases t1
 have tC4:df (Zh [p] R) B i4 iJ:=QU (x:=p) (jh tC3 s34) (λ b o e nb=>[rs,e,[aB,nb]]) nPC pK;have l4:kQ H (Zh [p] R):=λ b o e n=>sol4 _ _ (s34 _ _ (sol3 b o e n)) n
 have z5:ah (Zh [p] R) (Zh [p] (ag R p (.ins l W (gk.zip ([]++[eD,x]))))):=λ b o e=>by have e:=[wq];exact bV.mpr [ut,[b8,[aB,e.2],e.1],e]
 have p5:(ag R p (.ins l W (gk.zip ([]++[eD,x])))) p=[ff,l,gk.zip [eD,x]]:=aw;generalize(ag R p (.ins l W (gk.zip ([]++[eD,x]))))=H5 at z5 p5;refine⟨_,J,p,l,W,_,_,J,p5,T.cl,[lD,0],[mj,0],_,J,λ y dy hy hdy hney=>?_⟩;have O:ah H5 (ag (ag H5 dy (.own y)) y (.ins bo dy [])):=(ah.aT [cm,H5,hdy] hy);have kH5:jD bN H5 ks aO:=(kz4.mono z5).mono bp;refine⟨y,dy,x,ka,ks,aO,J,aw,O _ _ (bp _ _ (z5 _ _ az4)),kH5.mono O,N.sep,λ kd hkd=>?_,λ r d1 d2 H6 hr6 hd1 hd2 n1 n2 n3 hy6 hR6 hd16 hd26 k6 _=>[lu,?_]⟩;·rw[38,N.fin kd hkd,aC];omega
 have s56:ah H5 H6:=[Fa,k6,O _ _ e,aX e hy];have p6:H6 p=[ff,l,gk.zip [eD,x]]:=s56 _ _ p5;have npy:p≠y:=aX p5 hy;have npr:p≠r:=aX (O _ _ p5) hr6;have np1:p≠d1:=aX (O _ _ p5) hd1;have np2:p≠d2:=aX (O _ _ p5) hd2;have d35:H5 d3=Z (.dT []):=bp _ _ (z5 _ _ dz4);have n31:d3≠d1:=aX (O _ _ d35) hd1;have n32:d3≠d2:=aX (O _ _ d35) hd2;have z46:ah (Zh [p] R) (Zh [p] H6):=z5.trans (jl s56);refine[FQ,p6,[zV,aw]];intro kb hkb;rw[iW]at hkb⊢;have nkp:kb≠p:=λ z=>by subst z;rw[aw]at hkb;cases hkb
 have hkb6:H6 kb=none:=by rw[ar nkp]at hkb;exact hkb
 refine[zV,[b8,nkp.symm,aw]];generalize hfull:gk.zip ([eD,x]++[eD,y]++[[vg]]++[eD,kb])=full;generalize gk.zip ([eD,x]++[eD,y]++[[vg]])=part;have p10:(ag [Tf] p (.ins l W full)) p=[ff,l,full]:=aw;have kb10:(ag [Tf] p (.ins l W full)) kb=Z (.dK []):=by rw[ar nkp,aw]
 have k10:[CZ,p,b≠kb→(ag [Tf] p (.ins l W full)) b=H6 b]:=λ b h1 h2=>by rw[ar h1,ar h2,ar h1]
 generalize(ag [Tf] p (.ins l W full))=H10 at p10 kb10 k10;subst hfull;have zz:∀{d:Hp},([CZ,kb,d b=H10 b])→ah (Zh [p] H6) d:=λ{d}hh b o e=>by have e:=[wq];have h1:b≠p:=[aB,e.2];have h2:b≠kb:=aX e.1 hkb6;rw[12,hh b h2,k10 b h1 h2,e.1]
 have hkal:=hKA.len;rw[61,ka,J,[nj,zz [Cy] _ _ (z46 _ _ az4)],[m6,iZ,ka,[JY],λ i σ d=>∃v5 v6 v7:[dL],σ=[Z [cX],[bV,me],[bV,wa],Z [vg],[bV,ka],v5,v6,v7]∧d kb=Z (.dK (jG ks aO i))∧[CZ,kb,d b=H10 b],⟨none,none,none,J,kb10,[Cy]⟩,λ i σ d _⟨_,_,_,_,_,hh⟩=>(ax.of (zz hh _ _ (z46 _ _ az4)))]]
 ·rintro i v σ L hi⟨v5,v6,v7,rfl,X,U⟩;have hil:[zm,i]:=by rw[38,[eJ,hi],aC];omega
  have ek:=bX hil;obtain⟨q,nu,sh,hq,⟨dq,hk6⟩,hnu6,_⟩:=(kz4.mono z46).at_ i _ ek;have hk:=zz U _ _ hk6;have hnu:=zz U _ _ hnu6;obtain rfl:v=(V.ref q):=by rw[cJ,hq]at hi;exact[nr,hi]
  have hnum:iO ks i=(ks[i]).nums:=by unfold iO;rw[ek]
  have hqd:aO.getD i 0=q:=[jl,iB,hq];refine⟨_,J,q,bN,dq,_,_,J,hk,eu.cl,eu.na 0 _ J,[lz,eu.nd,0],nu,J,[nj,hnu],[m6,iZ,nu,aJ (ks[i]).nums,λ t σ d=>∃v6 v7:[dL],σ=[Z [cX],[bV,me],[bV,wa],Z [vg],[bV,ka],[bV,q],v6,v7]∧d kb=Z (.dK (jG ks aO i++((iO ks i).take t).map (qr aO i)))∧[CZ,kb,d b=H10 b],[d9,v6,v7,[aB,X],U],λ t σ d _⟨_,_,_,_,hh⟩=>(ax.of (zz hh _ _ hnu6))]⟩
  ·rintro t y' σ H12 ht⟨v6,v7,rfl,Y,hh12⟩;obtain⟨n,hn,rfl⟩:=Ed ht;have u:(jG ks aO i++((iO ks i).take t).map (qr aO i)).length<aQ:=by have h1:=abv ks aO hil;rw[N.part.length_eq,jI,aC]at h1;rw[dh,aC,jJ];exact[zB,eR,_,64]
   rw[3,⟨_,J,_,J,p,l,W,_,_,J,[eY,hh12,p,nkp.symm,p10],T.cl,[lD,3],[mj,3],_,J,kb,_,J,jf.k (k:=bY [cQ]) Y u,?_⟩,[d9,Z (nV n),v7,?_,λ b nb=>[b8,nb,hh12 b nb]]];rw[aw,←hqd,abx N.nd hil [ar,hnum,hn]]
  ·rintro σ H12⟨v6,v7,rfl,Y,hh12⟩;refine⟨_,v6,v7,J,?_,hh12⟩;have e:[cI,aJ (ks[i]).nums,(iO ks i).length]:=by rw[aC,hnum]
   rw[e,fZ,←QS]at Y;exact Y
 ·rintro σ L⟨v5,v6,v7,rfl,X,U⟩;rw[aC,hkal]at X;have z6:=zz U;have z4:=z46.trans z6;have h6:[CZ,p,b≠kb→L b=H6 b]:=λ b h1 h2=>[eY,U,b,h2,k10 b h1 h2]
  have yb:∀{b:ab}{o:HO},H6 b=Z o→b≠p→L b=Z o:=λ{b o}e nb=>((h6 b nb (aX e hkb6)).trans e)
  have d1':L d1=Z (.dT []):=yb hd16 np1.symm;have d2':L d2=Z (.dT []):=yb hd26 np2.symm;have d3':L d3=Z (.dT []):=z4 _ _ dz4;have tC':df L B i4 iJ:=jh tC4 z4;obtain⟨kvr,hRk,hRv⟩:=hR6;have u:[cI,S.map λ x=>kf (d_ 0 x),S.length]:=aC ..;have hsIn:∀sh∈S.map λ x=>kf (d_ 0 x),qj sh:=λ sh hsh=>by obtain⟨x,_,rfl⟩:=[bp,hsh];exact abo _
  have FO:=abl hM N hsIn (abp hwl) [ar,u,h64] hm12 (aO:=aO) (co:=y) (sc:=x) (ka:=ka) (r:=r) (d1:=d1) (d2:=d2) (d3:=d3) (Pt:=B) (bN:=bN) (CK:=CK) (CC:=CC) (CL:=CL) (bo:=bo) (CS:=CS);have SC:=abm hM N hsIn (aO:=aO) (co:=y) (sc:=x) (ka:=ka) (r:=r) (d1:=d1) (d2:=d2) (d3:=d3) (Pt:=B) (bN:=bN) (CK:=CK) (CC:=CC) (CL:=CL) (bo:=bo) (CS:=CS);generalize C:Ge m ks aO most y x ka r d1 d2 d3 B bN CK CC CL bo CS=F at FO SC;have fm:aP F []=[d1,d2,d3,B]:=by rw[←C];rfl
  obtain⟨ptb,hPC,_⟩:=id tC';have M:kQ L (Zh (aP F []) L):=QP λ q hq o e=>by
   rw[fm]at hq;simp at hq;rcases hq with rfl|rfl|rfl|rfl;·rw[35,d1'];rfl
   ·rw[35,d2'];rfl
   ·rw[35,d3'];rfl
   ·rw[35,hPC];rfl
  have p11:L p=[ff,l,gk.zip [(V.ref x),(V.ref y),[vg],(V.ref kb)]]:=[eY,U,p,nkp.symm,p10];have st:bA F L []:=by
   refine⟨[qv,dy],?_,?_,?_,?_,?_,?_,?_,⟨[],?_,kj,[al]⟩,⟨[],?_,kj,[al]⟩,?_,[al],[al],[al],?_,?_⟩;·rw[←C]at M⊢;exact M _ _ (yb hy6 npy.symm) J
   ·rw[←C]at M⊢;exact M _ _ (z4 _ _ az4) J
   ·rw[←C]at M⊢;exact QQ (kz4.mono z4) M
   ·rw[←C]at M⊢;rw[1,kvr,M _ _ (yb hRk npr.symm) J,hRv]
   ·rw[←C]at M⊢;exact QR (cz4.mono z4) M
   ·rw[25,C,tC']
   ·rw[25,C,⟨[],d3',kj,[al]⟩]
   ·rw[←C];rw[0,[],d3']
   ·rw[25,C,d1']
   ·rw[25,C,d2']
   ·rw[←C];rw[1,n3,n31.symm,n32.symm]
   ·rw[←C];intro x g;cases g
   ·rw[←C];intro x g;cases g
  have aj:kQ H L:=λ b o e n=>z4 _ _ (l4 b o e n)
  refine k F kb (iN ks) L ⟨by rw[←C];rfl,by rw[←C];rfl,[cE,C,⟨J,J,J,J,J,J⟩],FO,SC,st,⟨[qv,W],⟨_,M _ _ X J,λ i hi=>?_⟩,λ i hi=>?_,?_⟩,⟨_,M _ _ X J,?_⟩,⟨?_,h64⟩,?_,λ n x hn=>?_⟩ aj;·rw[←C]at M⊢;exact M _ _ p11 J
  ·rw[25,C,aby N aO [ar,u,hi]]
  ·rw[25,C,N.lt [ar,u,hi]]
  ·rw[25,C,abr hM]
  ·rw[abu,N.part.length_eq,jI,u]
  ·rw[25,C,λ r h1 h2 h3 j=>N.bC r h1 (λ i hi=>[ar,u,h2 i hi]) h3 j]
  ·rw[←C];intro j;rw[56,N.many j,u]
  ·have hlt:n<S.length:=[eJ,hn];rw[96,N.abj (n:=n) [ar,u,hlt],cJ,hn];rw[←C];rw[0,[nr,this.1],this.2]
end
end VP
end
section
namespace VP
open PySem L2
open Kgz2(Row isRow before)
def abA:a9→List vH|.Try _ G _ _ _=>G|_=>[]
abbrev QV:a9:=(jA rX).getD 0 (.Pass ⟨0,0,0,0⟩)
structure A6(m:bT)(S:List [ak])(most:Nat)(F:aS)(ay:[dj]):Prop where
 fm:F.m=m
 qt:F.most=most
 ok:cw F
 lt:∀i,i<S.length→[qP,ay i]
 st:[J0]∈F.U
 tr:∀n x,S[n]?=Z x→[yj,F.ks,ay n]=kf (d_ 0 x)∧(mG S most)[n]?=Z [Fi,ay n]
def iq(F:aS)(ay:[dj])(n most:Nat)(c q:Row):Prop:=[JV,n,q]∧nI F ay q∧Vs.h8 c 0 q
def abB(F:aS)(ay:[dj])(n most:Nat)(c:Row)(i:[bF]):Prop:=(i=[0]∧∀q,¬iq F ay n most c q)∨∃r:Row,i=[ap,r.length]::r.map (λ x:Nat=>[ap,x])∧iq F ay n most c r∧∀q,iq F ay n most c q→[aw,before q r]
def A7(r c:[ak])(S:List [ak])(most:Nat)(i:[bF]):Prop:=((¬∃m,kg r m)∧i=[-22])∨∃m,kg r m∧((¬mE S most∧i=[-23])∨(mE S most∧((¬ql c most S.length∧i=[-24])∨(ql c most S.length∧∃F ay,A6 m S most F ay∧abB F ay S.length most c i))))
section
variable{P:aY}{w:aU}{K:aF}{mg:[a_]}{base:aE}
structure Gm(K:aF)(a B j:ab):Prop where
 mm:yK K [bi] [bi]=Z true
 sm:yK K (.ref B) [bi]=Z false
 ss:yK K (.ref B) (.ref B)=Z true
 am:yK K (.ref j) [bi]=Z false
 as_:yK K (.ref j) (.ref B)=Z false
 aa:yK K (.ref j) (.ref j)=Z true
structure Gn(mg:[a_]):Prop where
 m:[EW,"NO_MEASURE",.int (-22)]
 s:[EW,"NO_STOCK",.int (-23)]
 a:[EW,"NO_AFTER",.int (-24)]
theorem Gq{l:[ak]}{m:bT}(h:kg l m):gU m∧m.cuts.length≤8:=by
 obtain⟨_,_,_,h⟩:=h;have F:∀f,mF f m.feet→m.feet.length≤16∧∀g∈m.feet,g.length≤4∧(∀y∈g,y≠[]∧y.length≤4):=by
  rintro f⟨d,r,P⟩;rw[P];rw[15,[ov,d],λ g k=>?_];obtain⟨x,A,rfl⟩:=[bp,k];obtain⟨v,w⟩:=r x A;rw[15,by unfold kP;rw[4,aC,v],λ y j=>?_];obtain⟨z,M,rfl⟩:=[bp,j];have T:=w z M;unfold gD at T;simp only[dO,dw]at T;have X:[cI,sC z,z.length]:=by unfold sC;rw[aC]
  rw[15,λ e=>?_,[gL,X]];rw[e]at X;simp at X;omega
 rcases h with⟨f,_,d,r⟩|⟨f,c,_,d,r⟩
 ·obtain⟨a,b⟩:=F f d;rw[15,⟨a,b,?_⟩,?_];·rw[19,r]
  ·rw[19,r]
 ·obtain⟨a,b⟩:=F f d;have X:=er r.2;rw[15,⟨a,b,[ro]⟩,[cE,X,r.1]];obtain⟨i,O,e⟩:=gY R;obtain⟨x,_,A⟩:=Eo r.2 (i:=i) (b:=p) (by rw[bX O,e]);obtain⟨_,_,_,_,n⟩:=A;exact n.2.1
def A8(K:aF)(a s:ab):Sp:=λ U H Q _=>∃(ma aa sa:ab)(G:[aT])(most:Nat)(r c:[ak])(S:List [ak]),[Ec,U=[Oe,[vg]],ma,aJ r,ax K H aa (aJ c),ax K H sa [wk],[bn,Paired (λ b k=>ax K H b (aJ k)) G S,[B_,1000],c.length≤300,S.length≤100,[bn,[M7,S,100],NB H,df H a Gb Gc,df H s i4 iJ,a≠s∧∀(l:ab)(i:[bF])(m:Hp),A7 r c S most i→m l=Z (.aj (i.map V.int))→Q [io] m]]]
theorem abD{f fM fS fA fI fF CM CS CA u g CSc bN CK CC CL bo PtK y:ab}{fd fdM fdS fdA fdI O:bq}(D0:[ln,[FA],rX,fd,[Kq]])(B:el mg)(NC:Gn mg)(EM:Gm K CM CS CA)(X1:[Mn,CM])(X2:[Rb,CS])(X3:j_ mg base "AfterRefused" CA)(DM:[gh,"read_measure",rK,fM,fdM,[[rq]]])(GM:aA P w K mg base [jp] 3 fM fdM [[rq]] (F8 K CM u))(DS:[gh,"read_stock",uH,fS,fdS,[LM]])(GS:aA P w K mg base [jp] 3 fS fdS [LM] (FZ K CS))(DA:[gh,"check_after",uU,fA,fdA,[Ks]])(GA:aA P w K mg base [jp] 1 fA fdA [Ks] (Fw K CA))(I:iM K "Search.__init__" uV g fI fdI [Lb])(T:[Dz,g])(GI:aA P w K mg base aG 4 fI fdI [Lb] (Gk K g CSc u bN CK CC CL bo PtK y))(MF:[rf,[Pi],[Pm],uW,g,fF,O,"after"])(GF:∀F:aS,(cw F→j9 CSc F→F.bN=bN∧[bn,F.CK=CK,F.CC=CC,F.CL=CL,F.bo=bo,F.Pt=y]→aA P w K mg base aG 63 fF O [Ni] (AN K F g))):aA P w K mg base aG 64 f fd [Kq] (A8 K PtK y):=by
 have nd:=NZ.nd;obtain⟨uM,hM,rM⟩:=NC.m;obtain⟨uS,hS,rS⟩:=NC.s;obtain⟨uA,hA,rA⟩:=NC.a;have GF':aA P w K mg base aG 63 fF O [Ni] (λ vs H Q E=>∃F:{F:aS//cw F∧[kw,j9 CSc F,F.bN=bN,F.CK=CK,F.CC=CC,F.CL=CL,F.bo=bo,F.Pt=y]},AN K F.1 g vs H Q E):=aA.Fu λ F=>GF F.1 F.2.1 F.2.2.1 F.2.2.2
 obtain⟨oc,od,kV,doc,pm,an,cdv,ct,osl,rfl,lk0,hcd⟩:=D0.fn.ex;refine XF lk0 hcd NZ [L9] λ A outer s H vs Q E hr h=>?_
 ·obtain⟨ma,aa,sa,sas,most,G,n,S,rfl,_⟩:=h;rfl
 obtain⟨ma,aa,sa,sas,most,G,n,S,rfl,hma,haa,hsa,hsas,l1,l2,l3,l4,hnb,hTK,hTC,hPt,k⟩:=h;rw[112,63];have hr3:cy 3 _:=[yf,3,63];have hr5:cy 5 _:=[yf,5,63];generalize hX:gy aG P w K mg base [Tx] [FA] (aZ rX) f cdv A outer s H E=X;have hand:∃v,(nt X (abA QV) v∧(∀D c H,([NX,D.rt,.aj [.int (-22)]])→rH K v CM D c H)∧(∀D c H,([NX,D.rt,.aj [.int (-23)]])→rH K v CS D c H)∧∀D c H,([NX,D.rt,.aj [.int (-24)]])→rH K v CA D c H):=by
  subst hX;rw[28,_,nt.cons (by rfl) X1.bound [bd] (λ e=>[rE,fz (ak (b8 J hM rM) aB)]) (nt.cons (by rfl) X2.bound [bd] (λ e=>[rE,fz (ak (b8 J hS rS) aB)]) (nt.cons (by rfl) X3.bound [bd] (λ e=>[rE,fz (ak (b8 J hA rA) aB)]) .nil)),λ D c H h=>?_,λ D c H h=>?_,λ D c H h=>?_];·rw[27,EM.mm];rw[4,aI J,[rF,1,h]]
  ·rw[27,EM.sm];rw[[DP]];rw[27,EM.ss];rw[4,aI J,[rF,1,h]]
  ·rw[27,EM.am];rw[[DP]];rw[27,EM.as_];rw[[DP]];rw[27,EM.aa];rw[4,aI J,[rF,1,h]]
 obtain⟨v,ho,tM,tS,tA⟩:=hand;let q:TS:=λ D c H'=>(c=start [Tx] [Oe,[vg]]∧H'=H∧(∀(zs:[bF]),A7 G n S most zs→∀l M,M l=Z (.aj (zs.map V.int))→D.rt [io] M)∧(∀m,(kg G m→mE S most→ql n most S.length→∀me wa M,[b9,ah H M,NB M,vf u M me m,M wa=Z (.aj (cx S)),D.nx [Z [vg],[bV,ma],[bV,aa],Z [pU],[bV,me],[bV,wa],none] M])))
 have w9:Eb X QV q:=by
  subst hX;refine XE (ts:=v) q J J [ge,J] ho λ D c H' hq=>?_
  obtain⟨rfl,rfl,kR,kY⟩:=hq;rw[46,[Eg,4,dA GM hr3 J DM.mg DM.fn.kp DM.b .nil vl [gv,1],5,dA GS hr3 J DS.mg DS.fn.kp DS.b .nil vl [Am,pv 3,0],aN (j0 (dA GA hr1 J DA.mg DA.fn.kp DA.b .nil vl (ak (pv 2) [Cr,0,[yw,5]])))],⟨_,J,ma,G,J,hma,[pH,l1],λ m N me H1 s1 nb1 Y=>?_,λ t H1 s1 p1=>⟨CM,J,λ j=>tM D j H1 λ l hl=>kR [-22] (.inl [ge,t]) l _ aw⟩⟩];have hnb1:NB H1:=λ q xs e x hx=>by cases z:H' q with|none=>exact nb1 q xs e z x hx|some o=>have:=s1 _ _ z;rw[e]at this;rw[6,this,hnb q xs z x hx]
  refine⟨_,J,_,J,sa,sas,S,most,J,s1.seq hsa,[Ak,hsas,λ _ _ z M d=>[Ac,d].seq z],λ x hx=>[pH,l4 x hx],[pH,l3],λ aH wa M d p2 U=>?_,λ t M d p2=>⟨CS,J,λ j=>tS D j M λ l hl=>kR [-23] [vn,m,N,.inl [ge,t]] l _ aw⟩⟩;have hnb2:NB M:=hnb1.plain d p2;have hm12:=aH.2.2.2.1;rw[3,⟨_,J,_,J,_,J,_,S.length,J,[wB,_,ax.of U,by unfold cx;rw[aC]],aa,n,most,S.length,J,[Ac,d].seq haa,[pH,l2],[ac],λ ha H3 C p3=>?_,λ t H3 C p3=>⟨CA,J,λ j=>tA D j H3 λ l hl=>kR [-24] [vn,m,N,[jT,aH,.inl [ge,t]]] l _ aw⟩⟩,kY m N aH ha me wa H3 ([Ac,d].trans C) (hnb2.plain C p3) ?_ (C _ _ U)];exact A4 Y (.of (d.trans C))
 subst hX;rw[46,XC w9 (gi.uu (gi.jZ [y8,[ui,6,[pM,[Ku,I.ma,GI,hr5,T.mg,I.b,pv 4,pv 5,[gv,0]],T.cl,MF.me,GF',hr,MF.b,pv 2,aB]],cj wC (fz (ak [yw,6] aB)) (pv 6)])),⟨J,J,λ zs hz l M e=>k l zs M hz e,λ m N aH ha me wa M d nb2 Y U=>?_⟩];obtain⟨hMI,hcl⟩:=Gq N;rw[47,_,J,_,J,_,J,λ p W hp hdx hne=>?_];have C:ah M [Go,M,p,g]:=(ah.aT [cm,M,hdx] hp);have nb3:NB [Go,M,p,g]:=(nb2.ag (by rw[86])).ag (by rw[86]);have p3:(ag (ag M W (.own p)) p (.ins g W [])) p=[ff,g,[]]:=aw;generalize[Go,M,p,g]=H3 at C nb3 p3;have sH3:=d.trans C;refine⟨p,W,me,wa,m,S,most,J,p3,A4 Y (.of C),hMI,[pH,hcl],[pc,C,U],λ z=>by rw[38,aH.1,z];rw[82],aH.2.1,λ x hx=>(aH.2.2.2.2 x hx).2.2,aH.2.2.1,aH.2.2.2.1,nb3,jh hTK sH3,jh hTC sH3,hPt,λ F kb ay H4 R sol=>[lu,?_]⟩;obtain⟨dxe,hse⟩:=R.sr.se.mono bp;have rk:A6 m S most F ay:=⟨R.fm,R.qt,R.ok,R.sr.lt,R.sr.st,R.tr⟩;have haa4:ax K H4 aa (aJ n):=abt (sH3.seq haa) sol;have qt:=R.qt;refine⟨p,dxe,_,J,hse,[fz],_,J,⟨F,R.ok,R.sc,R.cls⟩,[],p,kb,aa,ay,S.length,n,J,R.st,R.sr,R.kl,R.ko,R.many,haa4,ha.2.1,ha.2.2,by rw[39,n.length≤F.most,qt,ha.1],λ l H5 gs' adv hl L t=>?_,λ l r H5 gs' adv hl L hw hbf=>?_⟩;·refine⟨_,J,_,0,J,.inl [p_,ax.of L],by rw[80,1],λ a hna=>?_⟩;have e1:(ag H5 a (.aj [[Kl,0]])) l=Z (.aj []):=[b8,aX L hna,L];refine⟨_,J,a,l,_,_,J,J,aw,e1,by rw[80,1+0],λ b hnb=>k b [0] _ ?_ aw⟩;rw[43,[vn,m,N,[jT,aH,.inr ⟨ha,F,ay,rk,.inl [lu,λ q hq=>t q ?_]⟩]],[Nr,S.length,q]∧_];rw[4,qt,hq]
 ·have hrl:[B_,12]:=by have h1:=(Vs.jS.mp hw.1).2.1;have h2:F.most≤12:=R.ok.K.most;have h1:[B_,F.most]:=h1;omega
  refine⟨_,J,_,r.length,J,[Lu,L,aC],by rw[80,1],λ a hna=>?_⟩;have e1:(ag H5 a (.aj [[Kl,r.length]])) l=Z (.aj (aJ r)):=[b8,aX L hna,L];refine⟨_,J,a,l,_,_,J,J,aw,e1,[pH,show([[Kl,r.length]]).length+[fy,aJ,r]≤13 by rw[aC];rw[18]],λ b hnb=>k b ([ap,r.length]::r.map λ x:Nat=>[ap,x]) _ ?_ ?_⟩
  ·refine[vn,m,N,[jT,aH,.inr ⟨ha,F,ay,rk,[zQ,r,J,?_,λ q hq=>hbf q ?_]⟩]];·have hw:[Nr,S.length,r]∧_:=hw;rw[qt]at hw;exact hw
   ·rw[39,[Nr,S.length,q]∧_,qt,hq]
  ·rw[aw,bO,cP];rfl
end
end VP
end
section
namespace VP
open PySem L2
def HB(x q:Str)(L:a9)(V:[bj]):Prop:=∀(kV p z:ae)(A:[ug])(j ct:ae)(W:[bu]),W.length=V.length→yX (km x q (mr L) (jA L) (aZ L) .none kV p z A j ct) [tN,W]=pure (V.zip W)
def eP(K:aF)(mg:[a_])(x:Str)(L:a9)(V:[bj]):Prop:=∃f v,[ln,x,L,v,V]
def oZ(K:aF)(q:Str)(L:a9)(C:ab)(V:[bj]):Prop:=∃f v,iM K q L C f v V
def ew(K:aF)(m q:Str)(L:a9)(C:ab)(V:[bj]):Prop:=∃f v,[eq,m,q,L,C,f,v,V]
section
variable{K:aF}{mg:[a_]}{h:aE}
theorem A9{x:Str}{L:a9}{V:[bj]}{f:ab}{r:ae}{g A:[ug]}{w:[C_]}{kV p z j ct:ae}(X:K.In h)(G:[xX])(b:HB x x L V)(a:[u8,x]=Z (Z [dS]))(l:[pv,f]=Z [Op,km x x (mr L) (jA L) (aZ L) .none kV p z A j ct])(c:sZ K j x=true)(k:[NN]):[ln,x,L,km x x (mr L) (jA L) (aZ L) .none kV p z A j ct,V]:=by have F:=DW (st:=L) l c k;rw[1,F,jK X G a,F.binds b]
theorem qu{q:Str}{L:a9}{V:[bj]}{C f:ab}{r:ae}{g A:[ug]}{w:[C_]}{kV p z j ct:ae}(b:HB [zY] q L V)(a:[Ez,[zY]]=Z (Z [dS]))(l:[pv,f]=Z [Op,km [zY] q (mr L) (jA L) (aZ L) .none kV p z A j ct])(c:sZ K j q=true)(k:[NN])(i:BM K [dS]=true)(m:Sa K C=true)(d:ph K [iH]=true):oZ K q L C V:=by have F:=DW (st:=L) l c k;rw[9,f,_,F,⟨m,a,i,d⟩,F.binds b]
theorem eD{m q:Str}{L:a9}{V:[bj]}{C f:ab}{r:ae}{g A:[ug]}{w:[C_]}{kV p z j ct:ae}(b:HB m q L V)(a:[Ez,m]=Z (Z [dS]))(l:[pv,f]=Z [Op,km m q (mr L) (jA L) (aZ L) .none kV p z A j ct])(c:sZ K j q=true)(k:[NN])(i:BM K [dS]=true):ew K m q L C V:=by have F:=DW (st:=L) l c k;rw[9,f,_,F,⟨a,i,k⟩,F.binds b]
end
theorem abE:HB "text_of" "text_of" qa [E5]:=[qp]
theorem abF:HB "read_measure" "read_measure" rK [[rq]]:=[y9]
theorem abG:HB "split_up_to" "split_up_to" uw [EV]:=[Au]
theorem abH:HB "read_foot" "read_foot" ux [x_]:=[y9]
theorem abI:HB "is_way" "is_way" xg [x_]:=[y9]
theorem abJ:HB "read_cut" "read_cut" xh [KG]:=[qp]
theorem abK:HB "read_number" "read_number" xj [Ly]:=[qp]
theorem abL:HB "taken_by" "taken_by" xn [[pW]]:=[y9]
theorem abM:HB "runs_of" "runs_of" xp [[pW]]:=[y9]
theorem abN:HB "spoilers" "spoilers" qb [wf]:=[qp]
theorem abO:HB "has_one_bit" "has_one_bit" xq [[lf]]:=[y9]
theorem abP:HB "common_bits" "common_bits" uz [wf]:=[qp]
theorem abQ:HB "bits_of" "bits_of" rN [[lf]]:=[y9]
theorem abR:HB "needed" "needed" uC [My]:=[Au]
theorem abS:HB "read_stock" "read_stock" uH [LM]:=[qp]
theorem abT:HB "read_word" "read_word" xB [[rq]]:=[y9]
theorem abU:HB "sounds_of" "sounds_of" xC [zt]:=[y9]
theorem abV:HB "sound_at" "sound_at" xD [Nv]:=[qp]
theorem abW:HB "vowels_of" "vowels_of" uI [xQ]:=[y9]
theorem abX:HB "clusters_of" "clusters_of" xE [xQ]:=[y9]
theorem abY:HB "weight_of" "weight_of" uJ [[AT]]:=[y9]
theorem abZ:HB "joined_weight" "joined_weight" xF [Ik]:=[qp]
theorem ab0:HB "shape_of" "shape_of" uK [zt]:=[y9]
theorem ab1:HB "settled" "settled" uL [[B3]]:=[y9]
theorem ab2:HB "vowel_weight" "vowel_weight" xG [IR]:=[qp]
theorem ab3:HB "check_after" "check_after" uU [Ks]:=[Au]
theorem ab4:HB "sizes_of" "sizes_of" rV [LS]:=[qp]
theorem ab5:HB [J8] [J8] rL [Il]:=[Au]
theorem ab6:HB [NY] [NY] oN ["hits"]:=[y9]
theorem ab7:HB [FA] [FA] rX [Kq]:=[Ko]
theorem ab8:HB [zY] "Measure.__init__" xf [Lh]:=[Au]
theorem ab9:HB [zY] "Kind.__init__" xk [K6]:=λ _ _ _ _ _ _ W X=>match W,X with|[_,_,_,_,_,_],_=>J
theorem ab_:HB [zY] [Pw] uD [H_]:=[Ko]
theorem aca:HB [zY] "Lack.__init__" xr [HZ]:=[Ko]
theorem acb:HB [zY] "Known.__init__" xu [Ln]:=[Au]
theorem acd:HB [zY] [Q8] xy [Ke]:=[Au]
theorem ace:HB [zY] "Scanner.__init__" xH [LT]:=[qp]
theorem acf:HB [zY] "Search.__init__" uV [Lb]:=[Ko]
theorem acg:HB "is_used_up" "Kind.is_used_up" xl [Cg]:=[qp]
theorem ach:HB "taken_with" [PR] uy [Cg]:=[qp]
theorem aci:HB "needs_with" "Kind.needs_with" xm [[ck],"needs"]:=[qp]
theorem acj:HB "covers" "Lack.covers" uE [OQ]:=[qp]
theorem ack:HB "add_lack" "Known.add_lack" uF [OT]:=[qp]
theorem acm:HB "answer_where" "Known.answer_where" xw [A3]:=[Ko]
theorem acn:HB "hits" "Known.hits" rO [A3]:=[Ko]
theorem aco:HB "can_complete" [QT] xA [Kb]:=[Qz]
theorem acp:HB "known_of" [Og] rP [iZ]:=[qp]
theorem acq:HB "steps_from" [Q0] uG [iZ]:=[qp]
theorem acr:HB "answer" "Completions.answer" rQ [LN]:=[Qz]
theorem acs:HB "search" [QA] oO [Nm]:=[Qz]
theorem acu:HB [On] [Ob] rT [J_]:=λ _ _ _ _ _ _ W X=>match W,X with|[_,_,_,_,_,_],_=>J
theorem acv:HB "first_stand" [Py] uN [[ck]]:=[y9]
theorem acw:HB "is_end" "Scanner.is_end" uO [iZ]:=[qp]
theorem acx:HB "targets" [PU] uP [ws]:=[Au]
theorem acy:HB "find_targets" [Q9] uQ [ws]:=[Au]
theorem acz:HB [Pj] [QS] xI [La]:=[Ko]
theorem acA:HB [MR] [Pq] uT [FD]:=[Ko]
theorem acB:HB "ways_on" "Scanner.ways_on" xM [L0]:=[Au]
theorem acC:HB "spot_at" "Scanner.spot_at" xK [K8]:=[Qz]
theorem acD:HB "cut_can_come" [Q7] xJ [L6]:=[Au]
theorem acE:HB [Pi] [Pm] uW [Ni]:=[qp]
theorem acF:HB "first_that_fits" [Q3] xN [Lp]:=[Au]
theorem acG:HB "fits" "Search.fits" uX [L3]:=[Au]
theorem acH:HB "scans" "Search.scans" uY [vl]:=[qp]
theorem acI:HB "kinds_in" [PV] rW [vl]:=[qp]
theorem acJ:HB "stands_of" [PQ] uZ [vl]:=[qp]
theorem acK:HB [Pl] [Pr] u5 [Ia]:=[Au]
structure TopK(K:aF)(mg:[a_])(bN CK CC CL bo a d b:ab):Prop where
 B:el mg
 A_:[PP,b]
 sF:[CI,bN]
 Gs:[Mz,CC]
 Gv:[M4,CL]
 Gx:[M3,CK]
 yt:[Pp,bo]
 mI:[Ay,a]
 mJ:[Dz,d]
 Gy:[nh,"text_of",qa,[E5]]
 Gz:[nh,"read_measure",rK,[[rq]]]
 GD:[nh,"split_up_to",uw,[EV]]
 GG:[nh,"read_foot",ux,[x_]]
 GH:[nh,"is_way",xg,[x_]]
 GP:[nh,"read_cut",xh,[KG]]
 GQ:[nh,"read_number",xj,[Ly]]
 GR:[nh,"taken_by",xn,[[pW]]]
 GU:[nh,"runs_of",xp,[[pW]]]
 GV:[nh,"spoilers",qb,[wf]]
 GX:[nh,"has_one_bit",xq,[[lf]]]
 GY:[nh,"common_bits",uz,[wf]]
 GZ:[nh,"bits_of",rN,[[lf]]]
 G7:[nh,"needed",uC,[My]]
 G8:[nh,"read_stock",uH,[LM]]
 G9:[nh,"read_word",xB,[[rq]]]
 G_:[nh,"sounds_of",xC,[zt]]
 Ha:[nh,"sound_at",xD,[Nv]]
 Hb:[nh,"vowels_of",uI,[xQ]]
 Hc:[nh,"clusters_of",xE,[xQ]]
 Hd:[nh,"weight_of",uJ,[[AT]]]
 He:[nh,"joined_weight",xF,[Ik]]
 Hf:[nh,"shape_of",uK,[zt]]
 Hg:[nh,"settled",uL,[[B3]]]
 Hh:[nh,"vowel_weight",xG,[IR]]
 Hi:[nh,"check_after",uU,[Ks]]
 Hj:[nh,"sizes_of",rV,[LS]]
 Hk:oZ K "Measure.__init__" xf b [Lh]
 Hl:oZ K "Kind.__init__" xk bN [K6]
 Hm:oZ K [Pw] uD CC [H_]
 Hn:oZ K "Lack.__init__" xr CL [HZ]
 Ho:oZ K "Known.__init__" xu CK [Ln]
 Hq:oZ K [Q8] xy bo [Ke]
 Hr:oZ K "Scanner.__init__" xH a [LT]
 Hs:oZ K "Search.__init__" uV d [Lb]
 Ht:ew K "is_used_up" "Kind.is_used_up" xl bN [Cg]
 Ba:ew K "taken_with" [PR] uy bN [Cg]
 Hu:ew K "needs_with" "Kind.needs_with" xm bN [[ck],"needs"]
 Hv:ew K "covers" "Lack.covers" uE CL [OQ]
 Hw:ew K "add_lack" "Known.add_lack" uF CK [OT]
 Hx:ew K "answer_where" "Known.answer_where" xw CK [A3]
 Hy:ew K "hits" "Known.hits" rO CK [A3]
 Hz:ew K "can_complete" [QT] xA bo [Kb]
 HA:ew K "known_of" [Og] rP bo [iZ]
 HC:ew K "steps_from" [Q0] uG bo [iZ]
 HD:ew K "answer" "Completions.answer" rQ bo [LN]
 HE:ew K "search" [QA] oO bo [Nm]
 HF:ew K [On] [Ob] rT bo [J_]
 HG:ew K "first_stand" [Py] uN a [[ck]]
 HH:ew K "is_end" "Scanner.is_end" uO a [iZ]
 HI:ew K "targets" [PU] uP a [ws]
 HJ:ew K "find_targets" [Q9] uQ a [ws]
 HK:ew K [Pj] [QS] xI a [La]
 HL:ew K [MR] [Pq] uT a [FD]
 HM:ew K "ways_on" "Scanner.ways_on" xM a [L0]
 HN:ew K "spot_at" "Scanner.spot_at" xK a [K8]
 HP:ew K "cut_can_come" [Q7] xJ a [L6]
 Bb:ew K [Pi] [Pm] uW d [Ni]
 HQ:ew K "first_that_fits" [Q3] xN d [Lp]
 HR:ew K "fits" "Search.fits" uX d [L3]
 HS:ew K "scans" "Search.scans" uY d [vl]
 HU:ew K "kinds_in" [PV] rW d [vl]
 HV:ew K "stands_of" [PQ] uZ d [vl]
 HW:ew K [Pl] [Pr] u5 d [Ia]
 wd:Fy mg
 lp:Qe K mg
 vw:oY mg
 wt:AX mg
 bg:Qq mg
 rd:FV mg
 ms:Qv mg
 sc:ye mg
 si:Pz K mg
 iT:Cn mg "MOST_WAYS" 4
 room:Cn mg "LINE_ROOM" 256
 bound:Cn mg "BOUNDLESS" 1000
 nB:InstB K CC CC true
 nE:InstB K CL CC false
section
variable{P:aY}{w:aU}{K:aF}{mg:[a_]}{base:aE}
theorem QW{F:aS}{B d b:ab}(T:[QW,B,d,b]):[Ab]:=⟨T.sF,T.Gx,T.Gs,T.Gv,T.yt,T.Ht,T.Ba,T.Hu,T.Hm,T.Hn,T.Ho,T.Hv,T.Hw,T.Hx,T.Hy,T.bound,T.nB,T.nE,T.B⟩
theorem acL{F:aS}{B d b:ab}(T:[QW,B,d,b])(R:j9 B F):sg K mg F B:=⟨T.mI,λ a h=>by rw[R.sc]at h;obtain⟨W,x,n,A,en,g,_⟩:=h.ex;rw[1,W,_,g]⟩
theorem acM{F:aS}{CS CSe CMe fCb cC:ab}{fdCb:bq}(FO:cw F)(R:j9 CS F)(T:[QW,CS,CSe,CMe])(DCb:[OR,fCb,fdCb])(LB:oP base mg fdCb cC F.Pt):∃f fd,[rf,[Pi],[Pm],uW,CSe,f,fd,"after"]∧aA P w K mg base aG 63 f fd [Ni] (AN K F CSe):=by
 obtain⟨W,u,C⟩:=T.Hz;obtain⟨f_known_of,fd_known_of,d⟩:=T.HA;obtain⟨f_steps_from,fd_steps_from,c⟩:=T.HC;obtain⟨f_answer,fd_answer,M_answer⟩:=T.HD;obtain⟨f_search,fd_search,M_search⟩:=T.HE;obtain⟨f_answer_with,fd_answer_with,M_answer_with⟩:=T.HF;obtain⟨f_first_stand,fd_first_stand,N⟩:=T.HG;obtain⟨e,g,M⟩:=T.HH;obtain⟨s,j,k⟩:=T.HI;obtain⟨f_find_targets,v,O⟩:=T.HJ;obtain⟨h,n,S⟩:=T.HK;obtain⟨f_spots_behind,z,l⟩:=T.HL;obtain⟨f_ways_on,fd_ways_on,M_ways_on⟩:=T.HM;obtain⟨f_spot_at,fd_spot_at,M_spot_at⟩:=T.HN;obtain⟨f_cut_can_come,fd_cut_can_come,M_cut_can_come⟩:=T.HP;obtain⟨A,B,V⟩:=T.Bb;obtain⟨o,m,b⟩:=T.HQ;obtain⟨f_fits,fd_fits,M_fits⟩:=T.HR;obtain⟨f_scans,fd_scans,M_scans⟩:=T.HS;obtain⟨f_kinds_in,fd_kinds_in,q⟩:=T.HU;obtain⟨f_stands_of,fd_stands_of,r⟩:=T.HV;obtain⟨L,p,a⟩:=T.HW;obtain⟨f_taken_by,fd_taken_by,y⟩:=T.GR;obtain⟨f_spoilers,fd_spoilers,D⟩:=T.GV;obtain⟨f_has_one_bit,fd_has_one_bit,D_has_one_bit⟩:=T.GX;obtain⟨f_common_bits,fd_common_bits,D_common_bits⟩:=T.GY;obtain⟨f_needed,fd_needed,D_needed⟩:=T.G7;obtain⟨f_bits_of,fd_bits_of,D_bits_of⟩:=T.GZ;obtain⟨U,t,i⟩:=T.He;obtain⟨f_tkw,fd_tkw,M_tkw⟩:=T.Ba;have GB:aA P w K mg base aG 2 f_spots_behind z [FD] [Ft,vd,CS]:=Zp l T.mI T.B M_ways_on M_cut_can_come M_spot_at T.sc.places;have GE0:aA P w K mg base aG 3 e g [iZ] [Ft,EY,CS]:=Zt M T.mI T.sc l GB;have GW:aA P w K mg base aG 3 h n [La] [Ft,AF,CS]:=ZC R.mi S T.mI T.sc T.si l GB;have GJ:aA P w K mg base aG 1 U t [Ik] ET:=Zd i T.wt.no T.wt.FL;have GFi:aA P w K mg base aG 4 f_find_targets v [ws] [Ft,Fb,CS]:=ZI R.mi O T.mI T.sc T.bg.any S GW i GJ;have GT:aA P w K mg base aG 5 s j [ws] [P5,xZ]:=ZQ FO R k T.mI O GFi;have GE:aA P w K mg base aG 3 e g [iZ] [P5,x8]:=ZR FO R GE0;have G1:aA P w K mg base aG 1 f_first_stand fd_first_stand [[ck]] [Ft,Fe,CS]:=ZX N T.mI T.sc T.bg.any;have GK:aA P w K mg base aG 1 f_kinds_in fd_kinds_in [vl] (Ax K CSe):=Ze q T.mJ;have GTb:aA P w K mg base aG 2 f_taken_by fd_taken_by [[pW]] (En K F.bN):=Yr y M_tkw T.sF;have Gp:aA P w K mg base aG 5 f_spoilers fd_spoilers [wf] (xR F.Pt):=Yk D D_has_one_bit D_common_bits D_needed DCb D_bits_of T.B LB;have all:∀X:[aT],aA P w K mg base aG 62 o m [Lp] (Fq [oM] CSe)∧aA P w K mg base aG 8 f_scans fd_scans [vl] (Fm K [oM] CSe):=λ X=>by have FX:=FO.with X;have RX:=R.with X;have TX:TopK K mg [oM].bN [oM].CK [oM].CC [oM].CL [oM].bo CS CSe CMe:=T;have G:jn K mg [oM]:=QW TX;have I:sg K mg [oM] CS:=acL TX RX;have gT:aA P w K mg base aG 5 s j [ws] (λ vs H Q E=>∃Y,xZ ([oM].with Y) vs H Q E):=GT;have gE:aA P w K mg base aG 3 e g [iZ] (λ vs H Q E=>∃Y,x8 ([oM].with Y) vs H Q E):=GE;have gSt:aA P w K mg base aG 10 f_steps_from fd_steps_from [iZ] (EF [oM]):=YY FX G I c k ((GT.mono [ac]).imp λ vs H Q E⟨x,hx⟩=>⟨x::X,hx⟩);have gO:aA P w K mg base aG 15 f_known_of fd_known_of [iZ] (xW [oM]):=Y8 (fT:=s) (fdT:=j) FX G I d M ((GE.mono [ac]).imp λ vs H Q E hx=>⟨X,hx⟩) c gSt;have gC:aA P w K mg base aG 60 W u [Kb] (EE [oM]):=YS FX G C M_answer M_search M_answer_with d gO D Gp;have gB:aA P w K mg base aG 6 L p [Ia] (AH [oM] CSe):=Z2 FX G I a T.mJ k gT;have gS:aA P w K mg base aG 7 f_stands_of fd_stands_of [vl] (AI K [oM] CSe):=Z4 FX G RX I r T.mJ a gB q GK N G1;have gF:aA P w K mg base aG 61 f_fits fd_fits [L3] (Fo K [oM] CSe):=Z6 FX G M_fits T.mJ T.room a gB q GK y GTb C gC;rw[0,Z9 FX G b T.mJ r gS M_fits gF,Z5 FX G I M_scans T.mJ r gS M gE]
 rw[23,A,B,V,aab FO (QW T) V T.mJ b (aA.Fu λ X=>(all X).1) M_scans (aA.Fu λ X=>(all X).2)]
theorem acN{bN CK CC CL bo CS CSe CMe CM CSt CA f fKo cK PtK fCb cC PtC:ab}{fd fdKo fdCb:bq}(T:TopK K mg bN CK CC CL bo CS CSe CMe)(D0:[ln,[FA],rX,fd,[Kq]])(NC:Gn mg)(EM:Gm K CM CSt CA)(X1:[Mn,CM])(X2:[Rb,CSt])(X3:j_ mg base "AfterRefused" CA)(DKo:[gh,[J8],rL,fKo,fdKo,[Il]])(LK:oP base mg fdKo cK PtK)(DCb:[OR,fCb,fdCb])(LC:oP base mg fdCb cC PtC):aA P w K mg base aG 64 f fd [Kq] (A8 K PtK PtC):=by
 obtain⟨f_text_of,fd_text_of,D⟩:=T.Gy;obtain⟨k,i,a⟩:=T.Gz;obtain⟨x,o,E⟩:=T.GD;obtain⟨f_read_foot,I,Q⟩:=T.GG;obtain⟨f_is_way,fd_is_way,U⟩:=T.GH;obtain⟨f_read_cut,fd_read_cut,V⟩:=T.GP;obtain⟨y,q,W⟩:=T.GQ;obtain⟨f_runs_of,fd_runs_of,D_runs_of⟩:=T.GU;obtain⟨L,B,Y⟩:=T.G8;obtain⟨f_read_word,M,b⟩:=T.G9;obtain⟨f_sounds_of,O,g⟩:=T.G_;obtain⟨f_sound_at,fd_sound_at,D_sound_at⟩:=T.Ha;obtain⟨f_vowels_of,N,p⟩:=T.Hb;obtain⟨S,s,r⟩:=T.Hc;obtain⟨f_weight_of,X,H⟩:=T.Hd;obtain⟨f_shape_of,fd_shape_of,d⟩:=T.Hf;obtain⟨f_settled,fd_settled,z⟩:=T.Hg;obtain⟨t,j,A⟩:=T.Hh;obtain⟨C,u,c⟩:=T.Hi;obtain⟨f_sizes_of,fd_sizes_of,h⟩:=T.Hj;obtain⟨f_Measure,fd_Measure,I_Measure⟩:=T.Hk;obtain⟨f_Kind,fd_Kind,I_Kind⟩:=T.Hl;obtain⟨G,v,l⟩:=T.Hq;obtain⟨f_Scanner,fd_Scanner,m⟩:=T.Hr;obtain⟨f_Search,fd_Search,n⟩:=T.Hs;obtain⟨f_frb,fd_frb,M_frb⟩:=T.Bb;have gT:aA P w K mg base aG 1 f_text_of fd_text_of [E5] (AS K):=Qa D T.B;have gSu:aA P w K mg base [jp] 1 x o [EV] (A0 CM):=aaZ E T.B X1;have gWy:aA P w K mg base aG 1 f_is_way fd_is_way [x_] F0:=aa0 U T.B T.sc.places;have gFo:aA P w K mg base [jp] 2 f_read_foot I [x_] (F4 CM):=aa1 Q T.B T.iT X1 E gSu U gWy;have gNu:aA P w K mg base [jp] 1 y q [Ly] (F5 CM):=aa2 W T.B X1;have gCu:aA P w K mg base [jp] 2 f_read_cut fd_read_cut [KG] (F6 CM):=aa3 V T.B T.sc.places X1 W gNu;have gMe:aA P w K mg base [jp] 3 k i [[rq]] (F8 K CM CMe):=aa9 a T.B T.ms X1 D gT E gSu Q gFo V gCu I_Measure T.A_;have gRw:aA P w K mg base [jp] 2 f_read_word M [[rq]] (FW K CSt):=aaX b T.B T.rd X2 D;have gRs:aA P w K mg base [jp] 3 L B [LM] (FZ K CSt):=aaY Y T.B T.rd X2 b gRw;have gCh:aA P w K mg base [jp] 1 C u [Ks] (Fw K CA):=aad c T.B X3;have gSn:aA P w K mg base aG 2 f_sounds_of O [zt] FC:=aax g T.B T.wd T.lp D_sound_at;have gVo:aA P w K mg base aG 1 f_vowels_of N [xQ] FJ:=aaE p T.vw;have gCl:aA P w K mg base aG 1 S s [xQ] FK:=aaF r T.vw;have gWt:aA P w K mg base aG 1 f_weight_of X [[AT]] AY:=Ql H T.B T.wt;have gVw:aA P w K mg base aG 2 t j [IR] FN:=aaI A T.B T.wt T.vw H;have gSe:aA P w K mg base aG 1 f_settled fd_settled [[B3]] (AZ K):=aaL z T.B T.wt;have gSh:aA P w K mg base aG 3 f_shape_of fd_shape_of [zt] FT:=aaR d T.B T.bg g gSn p gVo r gCl H gWt A gVw z gSe;have gSz:aA P w K mg base aG 1 f_sizes_of fd_sizes_of [LS] (F9 K):=aa_ h T.B T.room;have gKo:aA P w K mg base aG 3 fKo fdKo [Il] (Gd K bN PtK):=abi DKo T.B LK I_Kind T.sF;have gSc:aA P w K mg base aG 1 f_Scanner fd_Scanner [LT] (Ff K CS CMe):=ZY m T.mI T.A_ T.B;have gCo:aA P w K mg base aG 2 G v [Ke] (ES K bo bN):=Zc l T.yt T.sF D_runs_of;have gI:aA P w K mg base aG 4 f_Search fd_Search [Lb] (Gk K CSe CS CMe bN CK CC CL bo PtK PtC):=abz n T.mJ T.sF d gSh h gSz DKo gKo m T.mI gSc l T.yt gCo;refine abD D0 T.B NC EM X1 X2 X3 a gMe Y gRs c gCh n T.mJ gI M_frb λ F FO R e=>?_
 obtain⟨e1,e2,e3,e4,e5,e6⟩:=e;have TF:[QW,CS,CSe,CMe]:=by rw[e1,e2,e3,e4,e5];exact T
 have LF:oP base mg fdCb cC F.Pt:=[ar,e6,LC];obtain⟨f',fd',M',G'⟩:=acM (P:=P) (w:=w) FO R TF DCb LF;have q1:=M'.me.at_;have q2:=M_frb.me.at_;rw[q1]at q2;cases q2;have q3:fd'=fd_frb:=by obtain⟨oc,od,kV,doc,pm,an,cdv,ct,osl,_,lk,_⟩:=M'.fn.ex;obtain⟨oc',od',kV',doc',pm',an',cdv',ct',osl',_,lk',_⟩:=M_frb.fn.ex;rw[lk]at lk';cases lk';rfl
 rw[25,q3,G']
end
end VP
end
section
namespace VP
open PySem L2
structure yu(K:aF)(v:bq)(c Pt:ab):Prop where
 code:v.code=.ref c
 ex:∃o U,[pv,c]=Z o∧o.data=[wl,U]∧U[11]?=[bV,Pt]
 out:[pv,Pt]=none
structure Bc(K:aF)(x:Str)(C:ab):Prop where
 ns:[u8,x]=Z (Z [iH])
 ok:PySem.W.excIn K C [[PZ],[PH],[M9]] "Exception.__new__"=true
def HX(K:aF)(mg:[a_])(I:ab):Prop:=∃(bN CK CC CL bo B d b a h j S m c u i s:ab)(v C e:bq),[bn,TopK K mg bN CK CC CL bo B d b,[gh,[FA],rX,I,v,[Kq]],Gn mg,Gm K a h j,[kw,Bc K "MeasureRefused" a,Bc K "StockRefused" h,Bc K "AfterRefused" j,[gh,[J8],rL,S,C,[Il]],yu K C m c,[OR,u,e],yu K e i s∧c≠s]]
def nK:ae→V|.int i _=>.int i|.ref a=>[bi]|_=>.bh
theorem nM:∀{U:[bu]}{f:[bF]},PyProof.Rows.IntsAre U f→U.map nK=f.map V.int∧be (U.map nK) U|_,_,.nil=>[lu,.nil]|_,_,.cons n t h=>by obtain⟨g,r⟩:=nM h;rw[0,by rw[bO,bO,g];rfl,.cons [ge,t] r]
def HY(h:aE)(a:ab)(f:[bF]):Prop:=∃U:[bu],[ry]=Z [Kg,.seq U.toArray]∧PyProof.Rows.IntsAre U f
theorem HZ{P:Params}{h:aE}{v:ae}{f:[bF]}(w:PySem.W.Well P h v (.list (f.map PySem.W.WData.int))):∃a,v=[bi]∧HY h a f:=by cases w with|list E I=>rw[9,_,J,_,E,MP.WG f _ I]
theorem QX{P:Params}{h:aE}:∀{U:[bu]}{L:List [bF]},PySem.W.WellAll P h U (L.map λ w=>PySem.W.WData.list (w.map PySem.W.WData.int))→∃c:[aT],(U=c.map Value.ref∧(Paired (HY h) c L))|U,[],w=>by cases w;rw[22,[],.nil]|U,x::L,w=>by cases w with|cons l I=>obtain⟨a,rfl,ha⟩:=HZ l;obtain⟨c,rfl,u⟩:=QX I;rw[22,a::c,.cons ha u]
theorem Bd:∀c:[aT],(c.map Value.ref).map nK=[J5]∧be ((c.map Value.ref).map nK) (c.map Value.ref)|[]=>[lu,.nil]|a::c=>by obtain⟨g,r⟩:=Bd c;rw[0,by rw[bO,bO,bO,g];rfl,.cons J r]
abbrev jH(U:[bu]):Obj:=[Kg,.seq U.toArray]
open Classical in noncomputable def H0(K:aF)(h:aE)(Ls:[aT])(PtK PtC:ab):Hp:=λ b=>if[pv,b]≠none then none else[um,b=PtK∨b=PtC,Z,.je #[],if e:b∈Ls∧∃vs,[jU]=Z (jH vs)then Z (.iG (jH (sV e.2)) (.aj ((sV e.2).map nK)))else none]
section
variable{K:aF}{h:aE}{Ls:[aT]}{PtK PtC:ab}
theorem yw{U v:[bu]}(e:jH U=jH v):U=v:=by injection e with _ _ e1;injection e1 with e2;exact ed BO e2
theorem acO{b:ab}{U:[bu]}(t:[pv,b]=none)(a:b∈Ls)(E:[jU]=Z (jH U))(g:b≠PtK)(r:b≠PtC):H0 K h Ls PtK PtC b=Z (.iG (jH U) (.aj (U.map nK))):=by have e:b∈Ls∧∃U,[jU]=Z (jH U):=⟨a,U,E⟩;unfold H0;rw[aD (by rw[19,t]),aD (λ z=>z.elim g r),dif_pos e];have q:=yw [dF,E.symm.trans (sP e.2)];rw[←q]
theorem vn{b:ab}{o:HO}(e:H0 K h Ls PtK PtC b=Z o):[pv,b]=none∧(((b=PtK∨b=PtC)∧o=.je #[])∨(b∈Ls∧∃U,[jU]=Z (jH U)∧o=.iG (jH U) (.aj (U.map nK)))):=by
 unfold H0 at e;by_cases t:[pv,b]≠none;·rw[35,aI t]
 ·rw[aD t]at e;rw[15,kT (λ z=>t z),?_];by_cases X:b=PtK∨b=PtC;·rw[aI X]at e;rw[21,⟨X,[nr,e]⟩]
  ·rw[aD X]at e;by_cases a:b∈Ls∧∃U,[jU]=Z (jH U);·rw[dif_pos a]at e;exact[zQ,a.1,_,sP a.2,[nr,e]]
   ·rw[35,dif_neg a]
theorem QY{b:ab}(t:[pv,b]=none)(a:b=PtK∨b=PtC):H0 K h Ls PtK PtC b=Z (.je #[]):=by unfold H0;rw[aD (by rw[19,t]),aI a]
theorem acP{P:aY}{w:aU}{K:aF}{mg N:[a_]}{I:ab}{k:bq}{L:aq}{us:[bu]}{vs:[aK]}{H:Hp}{sp:Sp}{l:[bj]}{Q:VK}(KX:K.In L.heap)(R:L.heap.Ns b_ mg)(f:L.heap.Ns yT N)(G:∀x:Str,x≠"__name__"→N x=vK x)(C:L.heap.NoLimit)(p:L.gens=#[])(aH:di P w H L.heap)(t:[rh,H b,[pv,b]=none])(Y:∀b o u,H b=Z u→L.heap.get? b=Z o→∀T B,o.data≠.dict T B)(j:cy 64 callerA)(F:∀base:aE,[b9,K.In base,base.Ns b_ mg,base.Ns yT N,base.NoLimit,([Ag,L.heap.get?,H b,base.get? b=Z o])→aA P w K mg base aG 64 I k l sp])(y:BindsTo L k [tN,us] (l.zip us))(O:be vs us)(s:sp vs H Q λ _ _ _=>False):mT (aM P w) callerA (.call (.ref I) [tN,us]) (λ r i=>∃u v a,[kw,r=.ok (.ret u),i.os=L.os,PyProof.Rows.AllBare i.gens,Un [] [] H a L.heap i.heap,di P w a i.heap,bw v u,Q v a]) L:=by
 have S:∀{b:ab}{o:Obj},L.heap.get? b=Z o→H b=none→(m8 L.heap H).get? b=Z o:=λ e n=>Ux e n
 have E:∀{b:ab}{o:Obj}{T:Array i_}{B:Nat},L.heap.get? b=Z o→o.data=.dict T B→H b=none:=λ{b o T B}e d=>by cases q:H b with|none=>rfl|some u=>rw[8,d,Y b o u q e T B]
 have z:∀{b:ab}{m:[a_]},L.heap.Ns b m→(m8 L.heap H).Ns b m:=λ{b m}⟨o,T,B,e,d,r⟩=>⟨o,T,B,S e (E e d),d,r⟩
 have U:K.In (m8 L.heap H):=λ b o e=>S (KX b o e) (by cases q:H b with|none=>rfl|some u=>rw[35,t b u q])
 have X:(m8 L.heap H).NoLimit:=let⟨mc,g,c⟩:=C;⟨mc,z g,c⟩
 have hM:Mod K mg (m8 L.heap H):=⟨U,z R,⟨N,z f,G⟩,X⟩;have M:rx P w K mg (m8 L.heap H) callerA [] L H:=⟨J,hM,λ b o e=>Uy e,mP (Uw _ _),mU,λ b f=>[Eh,show b∈([]:[aT])from f],aH,.of_eq p⟩;refine Jz ((F _ U (z R) (z f) X λ b o e n=>S e n).run callerA [] L H [tN,us] us vs _ _ j M y O s) λ r i h=>?_
 cases r with|error e=>exact js h|ok fl=>cases fl with|next=>exact js h|brk=>exact js h|cont=>exact js h|ret u=>obtain⟨v,a,os,D,un,W,A,q⟩:=h;exact⟨u,v,a,J,os,D,un,W,A,q⟩
end
end VP
end
section
namespace VP
open PySem L2
theorem tab_of{K:aF}{q:aY}{M:[bj]}{S:ExcName→[B1]}{mg N:[a_]}{h:aE}{x:Str}{L:a9}{f c Pt:ab}{v:bq}{V:[bj]}(T:PyProof.Rows.Top q M S mg N h)(W:K.In h)(D:[ln,x,L,v,V])(G:yu K v c Pt)(F:∃d,(RD q).find? (λ e=>e.name==x)=Z d):h.IsCode c Pt #[]∧h.TableAt c Pt #[]:=by obtain⟨d,F⟩:=F;have hn:d.name=x:=beq_iff_eq.mp (List.find?_some (p:=λ e:PySem.DefRec=>e.name==x) F);obtain⟨a,o,O,s,P,g,r,b,w,m,H⟩:=T.tab d (List.mem_of_find?_eq_some F);rw[hn,D.mg]at g;cases g;obtain⟨l,i,kV,k,z,A,j,ct,t,_,I,_⟩:=D.fn.ex;have R:=W _ _ I;rw[r]at R;cases R;have b:Data.func v=Data.func O:=b;injection b with b;subst b;rw[G.code]at w;cases w;obtain⟨Q,U,k1,k2,k3⟩:=G.ex;have C:=W _ _ k1;obtain⟨⟨u,E,e1,e2,B,n⟩,y⟩:=id H;rw[C]at e1;cases e1;rw[k2]at B;cases B;rw[k3]at n;cases n;rw[0,m,H]
theorem Be{K:aF}{h:aE}{L:[aT]}{c s a:ab}{U:[bu]}{N:[aK]}(W:K.In h)(b:a∈L)(E:[ry]=Z (jH U))(A:U.map nK=N)(O:be (U.map nK) U)(X:U.length≤aQ)(g:a≠c)(r:a≠s):ax K (H0 K h L c s) a N:=by subst A;cases C:[pv,a]with|none=>rw[21,[jT,jH U,acO C b E g r]]|some o=>have e:=W a o C;rw[67,E,.inr ⟨_,U.toArray,_,C,J,J,J,[ar,dN,X],by rw[88]⟩]
theorem H_{f:[bF]}(h:∀z∈f,0≤z):aJ (f.map jt)=f.map V.int:=by show qK nV (qK jt f)=_;rw[13,cP,iD λ z M=>?_];rw[14,[Kl,z.toNat]=(V.int z),Int.toNat_of_nonneg (h z M)]
theorem readsAll_ints{R:PySem.W.WRecords}{N:Str→[ug]}{h:aE}:∀{i:[bF]}{m:[bu]},be (i.map V.int) m→PySem.W.ReadsAllW R N h m (i.map PySem.W.WData.int) []|[],_,.nil=>.nil|z::i,_,.cons r t=>by rw[119,r,.cons (.int z Y) (readsAll_ints t)]
def QZ:Prop:=∀(most:Int)(j P:[bF])(L:List [bF])(i:[bF]),[b9,0≤most,∀z∈j,0≤z∧z≤255,∀z∈P,0≤z∧z≤255,∀l∈L,[pQ,100]∧∀z∈l,1≤z∧z≤255,A7 (j.map jt) (P.map jt) (L.map λ l=>l.map jt) most.toNat i→i=Sd most j P L]
open PySem.W in theorem acQ{q:aY}{loose:[bj]}{XP:[d0,[a_],aE]}{YP:[d0,aU,aE]}{d:PySem.DefRec}{K:Params→aF}(hdf:d.params.defaults=[])(hdn:d.name=[FA])(hY:∀(w:aU)(h:aE),YP w h→(K w.params).In h)(hk:∃dk,(RD q).find? (λ e=>e.name==([J8]:Str))=Z dk)(hc:∃dk,(RD q).find? (λ e=>e.name==([NY]:Str))=Z dk)(Fk:∀(w:aU)(mg:[a_])(fa:ab)(h:aE),((K w.params).In h→h.Ns b_ mg→mg [FA]=[bV,fa]→HX (K w.params) mg fa))(hpure:QZ):WalkOS q loose XP YP PySem.Challenge.rw_versestock_s01_next_row d [] (λ f vs=>PySem.call f vs):=by
 intro w s₀ s₁ mg mb G Y fa o pm cd doc dV kV ho hd hcd hD hmg hg args vals as hpre hlay hrd hwl hlo;have KX:=hY w _ Y;obtain⟨bN,CK,CC,CL,bo,CS,CSe,CMe,CM,CSt,CA,fKo,cK,PtK,fCb,cC,PtC,fd,fdKo,fdCb,TK,D0,NC,EM,E1,E2,E3,DK,tbK,DC,tbC,hne⟩:=Fk w mg fa _ KX G.T.g [cE,hdn,hmg];generalize K w.params=K at*;cases hde:Codec.decAll PySem.Challenge.rw_versestock_s01_next_row.args args with
  |none=>unfold OpenSpec.pre at hpre;rw[hde]at hpre;cases hpre
  |some a=>
   obtain⟨hargs,hwi⟩:=Codec.encAll_of_decAll _ _ _ hde;obtain⟨most,ms,af,st,u0⟩:=a;have hwi:(yQ 0 4294967295 most&&(BP 0 1000 (yQ 0 255) ms&&(BP 0 300 (yQ 0 255) af&&(BP 0 100 (BP 0 100 (yQ 1 255)) st&&true))))=true:=hwi;have hargs:args=[.int most,.list (ms.map WData.int),.list (af.map WData.int),.list (st.map λ l=>WData.list (l.map WData.int))]:=hargs;simp only[dO,Jp]at hwi;obtain⟨w1,w2,w3,w4⟩:=hwi;have wI:∀{lo hi z:Int},yQ lo hi z=true→lo≤z∧z≤hi:=λ h=>Codec.inInt_iff.mp h
   have wL:∀{α:Type}{k:Nat}{p:α→Bool}{l:List α},BP 0 k p l=true→[pQ,k]∧∀x∈l,p x=true:=λ{α k p l}h=>by have h:(Codec.inLen 0 k l&&l.all p)=true:=h;rw[dO]at h;rw[0,(Codec.inNat_iff.mp h.1).2,List.all_eq_true.mp h.2]
   have b1:=wI w1;have b2:=wL w2;have b3:=wL w3;have b4:=wL w4;rw[hargs]at hwl;obtain⟨v1,r1,rfl,q1,hwl⟩:=Jj hwl;obtain⟨v2,r2,rfl,q2,hwl⟩:=Jj hwl;obtain⟨v3,r3,rfl,q3,hwl⟩:=Jj hwl;obtain⟨v4,r4,rfl,q4,hwl⟩:=Jj hwl;cases hwl;obtain⟨t,rfl⟩:∃t,v1=.int most t:=by cases q1;rw[26,J]
   obtain⟨ma,rfl,mvs,mo,mi⟩:=HZ q2;obtain⟨aa,rfl,avs,ao,ai⟩:=HZ q3;obtain⟨sa,sas,rfl,so,hsas⟩:∃sa sas,v4=[pU]∧(s₁.heap.get? sa=Z (jH (sas.map Value.ref))∧(Paired (HY s₁.heap) sas st)):=by cases q4 with|list ho hall=>obtain⟨sas,rfl,h⟩:=QX hall;rw[9,_,sas,J,ho,h]
   obtain⟨icK,taK⟩:=tab_of G.T KX DK tbK hk;obtain⟨icC,taC⟩:=tab_of G.T KX DC tbC hc;have nl:∀{b:ab}{vs:[bu]},[Ol]=Z (jH vs)→b≠PtK∧b≠PtC:=λ{b vs}e=>by
    rw[7];·rintro rfl;rw[98,taK.2,e]
    ·rintro rfl;rw[98,taC.2,e]
   generalize hLs:ma::aa::sa::sas=Ls;have mL:ma∈Ls:=by rw[←hLs];simp
   have aL:aa∈Ls:=by rw[←hLs];simp
   have sL:sa∈Ls:=by rw[←hLs];simp
   have ssL:∀b∈sas,b∈Ls:=λ b hb=>by rw[←hLs];simp[hb]
   have small:∀{n k:Nat},n≤k→k≤1000→n≤aQ:=λ h1 h2=>[pH,bf h1 h2]
   have hml:mvs.length≤1000:=[ar,mi.length,b2.1];have hal:avs.length≤300:=[ar,ai.length,b3.1];have hsl:sas.length=st.length:=[DO,hsas];have lenL:∀b∈Ls,∀vs,[Ol]=Z (jH vs)→vs.length≤aQ∧be (vs.map nK) vs:=λ b hb vs e=>by
    rw[←hLs]at hb;rcases[dE,hb]with rfl|hb;·rw[83,yw [dF,mo.symm.trans e]];rw[0,small hml [bd],(nM mi).2]
    ·rcases[dE,hb]with rfl|hb;·rw[83,yw [dF,ao.symm.trans e]];rw[0,small hal [bd],(nM ai).2]
     ·rcases[dE,hb]with rfl|hb;·rw[83,yw [dF,so.symm.trans e]];rw[0,by rw[12,aC,hsl,small b4.1 [bd]],(Bd sas).2]
      ·rw[138,hb];obtain⟨x,hx,xvs,xo,xi⟩:=[MU,hsas,b,hi,ei];have:=yw [dF,xo.symm.trans e];subst this;rw[57,[ut,?_,nM xi],xi.length,small (wL (b4.2 x (bt hx))).1 [bd]]
   have aH:di PySem.Challenge.rw_versestock_s01_next_row.prog w (H0 K s₁.heap Ls PtK PtC) s₁.heap:=λ b u e=>by
    obtain⟨_,⟨hb,rfl⟩|⟨hb,vs,hvs,rfl⟩⟩:=vn e;·rw[122,hb,taK.2,taC.2]
    ·obtain⟨l1,l2⟩:=lenL b hb vs hvs;rw[37,hvs,[ov,l1],vs,_,l2,hvs]
   have free:∀{b:ab}{o:Obj},([Ol]=Z o→o.cls≠[Ml]→o.cls≠.none→[N5]=none):=λ{b o}e n1 n2=>by
    cases z:[N5]with
     |none=>rfl
     |some u=>
      exfalso;obtain⟨_,⟨hb,_⟩|⟨_,vs,hvs,_⟩⟩:=vn z
      ·rcases hb with rfl|rfl;·rw[67,taK.2,n2 J]
       ·rw[67,taC.2,n2 J]
      ·rw[67,hvs,n1 J]
   have hND:∀b o u,[N5]=Z u→[Ol]=Z o→∀es ep,o.data≠.dict es ep:=λ b o u e eo es ep hdd=>by
    obtain⟨_,⟨hb,_⟩|⟨_,vs,hvs,_⟩⟩:=vn e
    ·rcases hb with rfl|rfl;·rw[taK.2]at eo;rw[59,eo,hdd]
     ·rw[taC.2]at eo;rw[59,eo,hdd]
    ·rw[hvs]at eo;rw[59,eo,hdd]
   have gN:∀{b:ab}{ps:[lC]},[Ol]=[OP,ps]→b_≠b:=λ{b ps}e z=>by obtain⟨og,es,ep,e1,e2,_⟩:=G.T.g;rw[z,e]at e1;rw[59,e1,e2]
   have lam:∀{base:aE}{fd:bq}{c Pt:ab},[b9,[Ag,s₁.heap.get?,[N5],base.get? b=Z o],yu K fd c Pt,s₁.heap.IsCode c Pt #[],s₁.heap.TableAt c Pt #[],oP base mg fd c Pt]:=λ{base fd c Pt}hbs tk ic ta=>by
    rw[17,tk.code,?_,?_,gN ta.2];·obtain⟨o1,vs,file,tf,flags,tg,inF,text,tt,e1,e2,r⟩:=CodeHd.of ic ta;exact⟨o1,vs,file,tf,flags,tg,inF,text,tt,hbs c o1 e1 (free e1 (by rw[e2];intro z;injection z with z;rw[8,z,[bd]]) (by rw[e2];nofun)),e2,r⟩
    ·obtain⟨bm,ob,e1,e2,e3,e4,e5,e6⟩:=G.T.bmain;refine⟨bm,ob,e1,e2,?_,?_,hbs bm ob e3 (free e3 (by rw[e4];intro z;injection z with z;rw[8,z,[bd]]) (by rw[e4];nofun)),e4,e5,e6⟩;·rw[52];obtain⟨og,es,ep,g1,g2,_⟩:=G.T.g;rw[e3]at g1;cases g1;rw[e6]at g2;cases g2
     ·rw[52];rw[ta.2]at e3;rw[59,e3,e4]
   have TR:=topRead_of G.T;have hF:∀base:aE,[b9,K.In base,base.Ns b_ mg,base.Ns yT mb,base.NoLimit,([Ag,s₁.heap.get?,[N5],base.get? b=Z o])→aA PySem.Challenge.rw_versestock_s01_next_row.prog w K mg base aG 64 fa fd [Kq] (A8 K PtK PtC)]:=λ base k1 k2 k3 k4 k5=>by have TB:TopRead q (looseW q loose) mg mb base:=⟨k2,k3,k4,TR.builtins,TR.free⟩;exact acN TK D0 NC EM (own_of_in k1 TB E1.ns E1.ok) (own_of_in k1 TB E2.ns E2.ok) (own_of_in k1 TB E3.ns E3.ok) DK (lam k5 tbK icK taK) DC (lam k5 tbC icC taC)
   have nn:∀{ns:[bF]},(∀z∈ns,yQ 0 255 z=true)→∀z∈ns,0≤z∧z≤255:=λ h z hz=>wI (h z hz)
   have hst:∀l∈st,[pQ,100]∧∀z∈l,1≤z∧z≤255:=λ l hl=>⟨(wL (b4.2 l hl)).1,λ z hz=>wI ((wL (b4.2 l hl)).2 z hz)⟩
   let Q:VK:=λ v H'=>∃(l:ab)(zs:[bF]),v=[io]∧A7 (ms.map jt) (af.map jt) (st.map λ l=>l.map jt) most.toNat zs∧H' l=Z (.aj (zs.map V.int))
   have hsp:A8 K PtK PtC [Oe,nV most.toNat] (H0 K s₁.heap Ls PtK PtC) Q λ _ _ _=>False:=by
    refine⟨ma,aa,sa,sas,most.toNat,ms.map jt,af.map jt,st.map λ l=>l.map jt,J,?_,?_,?_,?_,[ov,b2.1],[ov,b3.1],[ov,b4.1],λ x hx=>?_,?_,⟨#[],QY tbK.out [db],mU,[db]⟩,⟨#[],QY tbC.out (.inr J),mU,[db]⟩,hne,λ l zs H' ha hl=>[d9,l,zs,ha,hl]⟩;rw[40,H_ λ z hz=>(nn b2.2 z hz).1,Be KX mL mo (nM mi).1 (nM mi).2 (lenL _ mL _ mo).1 (nl mo).1 (nl mo).2,H_ λ z hz=>(nn b3.2 z hz).1,Be KX aL ao (nM ai).1 (nM ai).2 (lenL _ aL _ ao).1 (nl ao).1 (nl ao).2];·exact(Be KX sL so (Bd sas).1 (Bd sas).2 (lenL _ sL _ so).1 (nl so).1 (nl so).2)
    ·refine Az [ov,hsl] λ i b x hb hx=>?_
     rw[cJ]at hx;obtain⟨y,hy,rfl⟩:=[Po,hx];obtain⟨y',hy',xvs,xo,xi⟩:=d6 hsas hb;rw[hy]at hy';cases hy';have bL:=ssL b (bt hb);rw[4,H_ λ z hz=>Int.le_trans [bd] ((hst y (bt hy)).2 z hz).1,Be KX bL xo (nM xi).1 (nM xi).2 (lenL _ bL _ xo).1 (nl xo).1 (nl xo).2]
    ·obtain⟨y,hy,rfl⟩:=[bp,hx];rw[4,aC,(hst y hy).1]
    ·intro b xs e;obtain⟨_,⟨_,z⟩|⟨_,vs,_,z⟩⟩:=vn e;·cases z
     ·cases z
   refine enter_call (Jz (acP (us:=[Oe,.int most t]) (vs:=[Oe,nV most.toNat]) (Q:=Q) KX G.T.g G.T.b G.T.builtins G.T.nolimit hg aH (λ b u e=>(vn e).1) hND ⟨J,[bd],[bd]⟩ hF (D0.b s₁ [Oe,.int most t] KX J) (.cons ⟨t,by rw[Int.toNat_of_nonneg b1.1]⟩ (.cons J [zC,J,J])) hsp) λ r s' hq=>?_);obtain⟨u,v,H',rfl,os,bare,un,hok',rv,l,zs,rfl,hans,hl⟩:=hq;cases rv;obtain⟨_,its,n,vr,hobj⟩:=[Bh,_,_,H',s'.heap,l,.aj (zs.map V.int),hok' l _ hl];have hz:=hpure most ms af st zs b1.1 (nn b2.2) (nn b3.2) hst hans;rw[17,.inl ⟨[io],.list (zs.map WData.int),[l],J,λ _=>J,.list hobj J J [aB,readsAll_ints vr],os_post hde ?_,λ z=>by cases z⟩,⟨λ b ob e=>?_,λ b ob e=>un.there b ob e [al]⟩,os,bare];·rw[39,same (.list (zs.map WData.int)) (.list ((Sd most ms af st).map WData.int))=true,hz,same_self _]
   ·cases z:[N5]with
     |none=>rw[21,un.keep b ob e z [al] [al]]
     |some u=>
      obtain⟨_,⟨hb,rfl⟩|⟨hb,vs,hvs,rfl⟩⟩:=vn z
      ·obtain⟨more,z2⟩:=un.jW b _ z;have e2:s'.heap.get? b=[OP,#[]++more]:=hok' b _ z2;have ic:isCodeTable s₁.heap b∧[Ol]=[OP,#[]]:=by rw[122,hb,[ut,taK.isCodeTable,taK],[ut,taC.isCodeTable,taC]]
       rw[67,ic.2,.inr (.inl ⟨ic.1,J,#[],more,J,e2⟩)]
      ·have z2:=un.jV b _ _ z;obtain⟨e2,_⟩:=[Bh,_,_,H',s'.heap,b,.iG _ _,hok' b _ z2];rw[67,hvs,.inl e2]
end VP
end
section
namespace VP
open PySem L2
def acR:ae→Bool|.str _ _=>true|_=>false
section
variable{K:aF}{mg:[a_]}{h:aE}
theorem eY{x:Str}{L:a9}{V:[bj]}{f:ab}{r:ae}{g A:[ug]}{w:[C_]}{kV p z j ct:ae}(X:K.In h)(G:[xX])(b:HB x x L V)(a:[u8,x]=Z (Z [dS]))(l:[pv,f]=Z [Op,km x x (mr L) (jA L) (aZ L) .none kV p z A j ct])(c:sZ K j x=true)(k:[NN]):[nh,x,L,V]:=⟨f,_,A9 X G b a l c k⟩
theorem gX{x:Str}{n:Nat}{t:Tok}(X:K.In h)(G:[xX])(a:[u8,x]=Z (Z (.int [cQ] t))):Cn mg x n:=⟨_,(jK X G a),t,J⟩
theorem Bf{x:Str}{n:Int}{t:Tok}(X:K.In h)(G:[xX])(a:[u8,x]=Z (Z (.int n t))):[EW,x,.int n]:=⟨_,(jK X G a),t,J⟩
theorem sG{x y:Str}{t:Tok}(X:K.In h)(G:[xX])(a:[u8,x]=Z (Z (.str y t))):Cs mg x y:=⟨_,(jK X G a),t,J⟩
theorem Q0{x:Str}{a:ab}{g r t c:Str}{b w o y:Tok}{p:[ug]}{n:Nat}{Y:[C_]}(X:K.In h)(G:[xX])(e:[u8,x]=Z [lm])(l:[pv,a]=Z ⟨[Kx],p,.seq #[.str g b,.str r w,.str t o,.str c y] n,Y⟩):∃a,mg x=[lm]∧∀H,bM K H a [.str g,.str r,.str t,.str c]:=⟨a,jK X G e,λ _=>.inr ⟨_,_,_,l,J,J,by rw[80,4],(.cons [ge,b] (.cons [ge,w] [zC,[ge,o],[ge,y]]))⟩⟩
theorem acS{u v:Tok}(X:K.In h)(G:[xX])(a:[u8,"LONG"]=Z (Z (.str "A" u)))(b:[u8,"SHORT"]=Z (Z (.str "a" v)))(g:u≠0)(r:v≠0)(P:u≠v):oY mg:=⟨u,v,(jK X G a),jK X G b,g,r,P⟩
theorem Q3{x:Str}{L:a9}{c Pt:ab}{kV p z ct:ae}{A:[ug]}{r:ae}{g:[ug]}{U:[lC]}{Y:[C_]}(l:[pv,c]=Z ⟨r,g,[wl,U],Y⟩)(v:U[11]?=[bV,Pt])(n:[pv,Pt]=none):yu K (km x x (mr L) (jA L) (aZ L) .none kV p z A (.ref c) ct) c Pt:=⟨J,[lc,_,U,l,v],n⟩
theorem Ia{x:Str}{C N:ab}{p:[ug]}{k:ClassData}{n k1 k2 k3 m:[B1]}{Q:ae}{u:[ug]}{T:List i_}{B:Nat}{o:[C_]}(h:[u8,x]=Z (Z [iH]))(l:[pv,C]=Z ⟨.type "type",p,.cls k,#[n,k1,k2,k3,Z [jb,"Exception.__new__"],m]⟩)(f:k.mro=[[iH],[PZ],[PH],[M9]])(d:[aw,k.hasDel])(v:k.ns=N)(j:[pv,N]=Z ⟨Q,u,.dict T.toArray B,o⟩)(s:(T.all λ e=>acR e.key)=true)(i:dC K N [zY]=(Z none)):Bc K x C:=by
 rw[15,h,?_];subst v;have g:PySem.W.nsOkIn K k.ns=true:=by
  unfold PySem.W.nsOkIn;rw[j];simp only[List.all_toArray];refine List.all_eq_true.mpr λ e R=>?_
  have q:=List.all_eq_true.mp s e R;cases c:e.key with|str a b=>rfl|_=>rw[71,c]
 have r:PySem.W.tailIn K [[PZ],[PH],[M9]] [[PZ],[PH],[M9]]=true:=by unfold PySem.W.tailIn;simp
 unfold PySem.W.excIn;rw[l];simp only[f,d,g,r,i];simp
theorem acT{I f:ab}(X:K.In h)(G:[xX])(g:mg [FA]=[bV,I])(a:[u8,[FA]]=Z (Z [dS]))(T:HX K mg f):HX K mg I:=by have:=(jK X G a).symm.trans g;rw[6,this,T]
theorem acU(X:K.In h)(G:[xX])(d:[yg,"max"])(k:[yg,"min"])(P:[yg,"len"])(r:[yg,"any"])(N:[yg,"all"])(T:[yg,"list"])(g:[yg,"tuple"])(z:[yg,"set"])(b:[yg,"sorted"])(m:[yg,"sum"])(c:[yg,"range"])(e:[yg,[AQ]])(f:[yg,"zip"])(a:[yg,"reversed"])(i:[yg,"isinstance"])(j:[yg,"ord"])(l:[yg,"str"]):el mg:=⟨jr X G d,jr X G k,jr X G P,jr X G r,jr X G N,jr X G T,jr X G g,jr X G z,jr X G b,jr X G m,jr X G c,jr X G e,jr X G f,jr X G a,jr X G i,jr X G j,jr X G l⟩
theorem acV{C:ab}(X:K.In h)(G:[xX])(a:[u8,"Measure"]=Z (Z [iH]))(pg:[Km])(b:[Et])(o:[Ib])(sa:[Gq])(c:[j0,"feet"])(E:[j0,"cuts"]):[PP,C]:=by rw[107];match i,F with|0,F=>rw[6,F,c]|1,F=>rw[6,F,E]|k+2,F=>simp[mB]at F
theorem acW{C:ab}(X:K.In h)(G:[xX])(a:[u8,"Kind"]=Z (Z [iH]))(pg:[Km])(b:[Et])(o:[Ib])(sa:[Gq])(c:[j0,"numbers"])(E:[j0,"shape"])(D:[j0,"size"])(S:[j0,"lowest"])(d:[j0,"highest"])(w:[j0,"bits"]):[CI,C]:=by rw[107];match i,F with|0,F=>rw[6,F,c]|1,F=>rw[6,F,E]|2,F=>rw[6,F,D]|3,F=>rw[6,F,S]|4,F=>rw[6,F,d]|5,F=>rw[6,F,w]|k+6,F=>simp[fR]at F
theorem acX{C:ab}(X:K.In h)(G:[xX])(a:[u8,"Completion"]=Z (Z [iH]))(pg:[Km])(b:[Et])(o:[Ib])(sa:[Gq])(c:[j0,"needs"])(E:[j0,"words"])(D:[j0,"size"]):[Mz,C]:=by rw[107];rw[166,d7]
theorem acY{C:ab}(X:K.In h)(G:[xX])(a:[u8,"Lack"]=Z (Z [iH]))(pg:[Km])(b:[Et])(o:[Ib])(sa:[Gq])(c:[j0,[xL]])(E:[j0,"words"])(D:[j0,"size"]):[M4,C]:=by rw[107];rw[166,dI]
theorem acZ{C:ab}(X:K.In h)(G:[xX])(a:[u8,"Known"]=Z (Z [iH]))(pg:[Km])(b:[Et])(o:[Ib])(sa:[Gq])(c:[j0,"steps"])(E:[j0,"completions"])(D:[j0,"lacks"]):[M3,C]:=by rw[107];rw[166,fU]
theorem ac0{C:ab}(X:K.In h)(G:[xX])(a:[u8,"Completions"]=Z (Z [iH]))(pg:[Km])(b:[Et])(o:[Ib])(sa:[Gq])(c:[j0,"scanner"])(E:[j0,[pW]])(D:[j0,"runs"])(S:[j0,"known"])(d:[j0,"known_by_steps"]):[Pp,C]:=by rw[107];match i,F with|0,F=>rw[6,F,c]|1,F=>rw[6,F,E]|2,F=>rw[6,F,D]|3,F=>rw[6,F,S]|4,F=>rw[6,F,d]|k+5,F=>simp[lI]at F
theorem ac1{C:ab}(X:K.In h)(G:[xX])(a:[u8,"Scanner"]=Z (Z [iH]))(pg:[Km])(b:[Et])(o:[Ib])(sa:[Gq])(c:[j0,"feet"])(E:[j0,"cuts"])(D:[j0,"last_cuts"])(S:[j0,"end"])(d:[j0,"known_targets"]):[Ay,C]:=by rw[107];match i,F with|0,F=>rw[6,F,c]|1,F=>rw[6,F,E]|2,F=>rw[6,F,D]|3,F=>rw[6,F,S]|4,F=>rw[6,F,d]|k+5,F=>simp[eM]at F
theorem ac2{C:ab}(X:K.In h)(G:[xX])(a:[u8,"Search"]=Z (Z [iH]))(pg:[Km])(b:[Et])(o:[Ib])(sa:[Gq])(c:[j0,"scanner"])(E:[j0,"completions"])(D:[j0,"most"])(S:[j0,"kind_by_number"]):[Dz,C]:=by rw[107];match i,F with|0,F=>rw[6,F,c]|1,F=>rw[6,F,E]|2,F=>rw[6,F,D]|3,F=>rw[6,F,S]|k+4,F=>simp[gk]at F
end
end VP
end
section
namespace VP
open Kgz1(Sound)
def jq:Sound→Nat|.vowel true=>65|.vowel false=>97|.cons c=>c
theorem ac3{c:Nat}(h:k7 c=true):[aw,lV c]:=by unfold k7 at h;unfold lV;rw[16];rcases h with rfl|rfl|rfl|rfl|rfl|rfl<;>rfl
theorem ac4{c d:Nat}(h:mR c d=true):c≠104∧c≠117:=by unfold mR at h;rw[16];omega
theorem Q4(p c:Nat):lN p c=[Me,c=104∨(c=117∧p=113),[],lV c,[Sound.vowel false],[DB,k7 c,.vowel true,[[o0]]]].map jq:=by
 unfold lN;by_cases g:c=104∨(c=117∧p=113);·rw[aI g,aI g];rfl
 ·rw[aD g,aD g];by_cases r:k7 c=true;·rw[aI r,ac3 r,[DP],aI r];rfl
  ·rw[aD r];by_cases P:lV c=true;·rw[aI P,aI P];rfl
   ·rw[aD P,aD P,aD r];rfl
theorem Ib:∀(p:Nat)(W:[ak]),d_ p W=(mQ p W).map jq
 |_,[]=>[jl,d_,mQ]
 |p,[c]=>by rw[d_,mQ,Q4]
 |p,c::d::r=>by
  have n:=Ib c (d::r);have b:=Ib d r;rw[d_,mQ];by_cases R:mR c d=true;·have:=ac4 R;rw[aI R,aD [ac],aI R,b];rfl
  ·rw[aD R,aD R,Q4,n];by_cases g:c=104∨(c=117∧p=113);·rw[aI g,aI g];rfl
   ·rw[aD g,aD g];by_cases P:lV c=true;·rw[aI P,aI P];rfl
    ·rw[aD P,aD P];by_cases a:k7 c=true;·rw[aI a,aI a];rfl
     ·rw[aD a,aD a];rfl
def mK:[AC,Sound]|[]=>True|[o0]::r=>(c≠65∧c≠97)∧mK r|.vowel _::r=>mK r
theorem Q5{c:Nat}(P:¬lV c=true)(r:¬k7 c=true):c≠65∧c≠97:=⟨λ e=>r [hJ,e],λ e=>P [hJ,e]⟩
theorem Ic:∀(p:Nat)(W:[ak]),mK (mQ p W)
 |_,[]=>by rw[mQ];trivial
 |p,[c]=>by
  rw[mQ];by_cases g:c=104∨(c=117∧p=113);·rw[aI g];trivial
  ·rw[aD g];by_cases P:lV c=true;·rw[aI P];trivial
   ·rw[aD P];by_cases a:k7 c=true;·rw[aI a];trivial
    rw[11,aD a,⟨Q5 P a,mU⟩]
 |p,c::d::r=>by have n:=Ic c (d::r);have b:=Ic d r;rw[mQ];by_cases g:c=104∨(c=117∧p=113);rw[11,aI g,n];·rw[aD g];by_cases R:mR c d=true;rw[11,aI R,b];·rw[aD R];by_cases P:lV c=true;rw[11,aI P,n];·rw[aD P];by_cases a:k7 c=true;rw[40,aI a,n,aD a,⟨Q5 P a,n⟩]
def kS(s:[e_]):[ak]:=((s.map jq).filter gm)
def iP(w:[ak])(s:[e_]):List [ak]:=bG 97 ((s.map jq).map (nJ 65 97)) w
theorem Ie{c:Nat}{r:[e_]}(h:c≠65∧c≠97):kS ([o0]::r)=kS r:=by unfold kS;rw[bO,List.filter_cons_of_neg];show¬gm c=true;unfold gm;simp[h.1,h.2]
theorem Ig(g:Bool)(r:[e_]):kS ([iI]::r)=jq [iI]::kS r:=by unfold kS;rw[bO,List.filter_cons_of_pos];cases g<;>rfl
theorem Ih(w:[ak]):iP w []=[w]:=J
theorem yx{c:Nat}{r:[e_]}{w:[ak]}(h:c≠65∧c≠97):iP w ([o0]::r)=iP (w++[c]) r:=by
 unfold iP;rw[bO,bO];have e:nJ 65 97 (jq [o0])=c:=by rw[14,[wu,c,65,97,c]=c,aD h.1]
 rw[e,bG,aD h.2]
theorem Bh(g:Bool)(r:[e_])(w:[ak]):iP w ([iI]::r)=w::iP [] r:=by
 unfold iP;rw[bO,bO];have e:nJ 65 97 (jq [iI])=97:=by cases g<;>rfl
 rw[e,bG,aI J]
theorem Q6:∀l:[ak],jE l=Vs.cW (l.map (λ c=>(c,0)))
 |[]=>J
 |[a]=>by
  show[CF,jE [a],Kgz1.counts a=1,1,3];unfold jE Kgz1.counts;rw[i8,i8];by_cases g:a=120;·subst g;rfl
  ·by_cases d:a=122;·subst d;rfl
   ·simp[g,d]
 |[a,b]=>by
  show[CF,jE [a,b],0=0∧qI a=true∧qH b=true,2,3];rw[73,[CF,jE [a,b],qI a&&qH b,2,3],by unfold jE;rw[aD [al],aD (by rw[18])]];by_cases g:qI a=true
  ·by_cases d:qH b=true;·simp[g,d]
   ·simp[g,d]
  ·simp[g]
 |a::b::c::r=>by show _=3;unfold jE;rw[aD [al],aD (by rw[18])]
theorem Q7(g:Bool)(cs:[ak]):kO (jq [iI]) cs=Vs.wt g cs:=by unfold kO Vs.wt;cases g with|true=>rfl|false=>rw[[DP],[DP],Q6]
theorem Ii:∀(s:[e_])(g:Bool)(cs:[ak]),mK s→Vs.ft g cs s=[Aq,((jq [iI])::kS s).zip (iP cs s),kO x.1 x.2]|[],g,cs,_=>by rw[Ih];rw[14,[Vs.wt g cs]=[kO (jq [iI]) cs],Q7]|[o0]::r,g,cs,h=>by rw[Ie h.1,yx h.1,←Ii r g (cs++[c]) h.2];rfl|.vowel Q::r,g,cs,h=>by rw[Ig,Bh,mM,bO,←Ii r Q [] h];rw[14,Vs.wt g cs::_=kO (jq [iI]) cs::_,Q7]
theorem Q8:∀(s:[e_])(w:[ak]),mK s→Vs.eA s=[Aq,(kS s).zip ((iP w s).drop 1),kO x.1 x.2]|[],w,_=>J|[o0]::r,w,h=>by rw[Ie h.1,yx h.1,←Q8 r (w++[c]) h.2];rfl|[iI]::r,w,h=>by rw[12,Ig,Bh,Ii r g [] h]
theorem Ij:∀(s:[e_])(w:[ak]),mK s→(iP w s).headD []=w++Vs.gJ s|[],w,_=>by rw[Ih];simp[Vs.gJ]|[o0]::r,w,h=>by rw[yx h.1,Ij r _ h.2];simp[Vs.gJ]|[iI]::r,w,h=>by rw[Bh];simp[Vs.gJ]
theorem Ik:∀(s:[e_])(w:[ak]),mK s→∃x,((iP w s).getLast?=Z x)∧((kS s=[]∧∃y:[ak],s=y.map Sound.cons)∨∃a g,s=a++Sound.vowel g::x.map Sound.cons)
 |[],w,_=>⟨w,J,.inl [we,J,[]]⟩
 |[o0]::r,w,h=>by obtain⟨x,b,d⟩:=Ik r (w++[c]) h.2;rw[Ie h.1,yx h.1];rw[29,x,b];rcases d with⟨P,y,i⟩|⟨a,g,P⟩;rw[2,[wB,P,c::y,[hJ,i]],[vn,[o0]::a,g,[hJ,P]]]
 |[iI]::r,w,h=>by
  obtain⟨x,b,d⟩:=Ik r [] h;rw[Bh];have l:iP [] r≠[]:=vk 97 _ [];rw[29,x,?_];·cases e:iP [] r with|nil=>rw[8,e,l]|cons y G=>rw[List.getLast?_cons_cons,←e];exact b
  ·rcases d with⟨P,y,i⟩|⟨a,Q,P⟩
   ·have ex:x=y:=by
     have:∀(y w:[ak]),mK (y.map Sound.cons)→iP w (y.map Sound.cons)=[w++y]:=by intro y;induction y with|nil=>intro w _;rw[vI,Ih];simp|cons c y T=>intro w f;rw[bO,yx f.1,T _ f.2];simp
     rw[i,this y [] (i▸h)]at b;simpa using b.symm
    exact[vn,[],g,[jl,i,ex]]
   ·exact[vn,[iI]::a,Q,[hJ,P]]
theorem Q9{s:[e_]}{c d:Nat}{t:[e_]}(h:s.reverse=[o0]::.cons d::t):[aw,Vs.eE s]:=by
 unfold Vs.eE;rw[h];split;·rename_i e;cases e
 ·rename_i e;cases e
 ·rfl
theorem ac5{s:[e_]}{c:Nat}{t:[e_]}(V:c≠109)(h:s.reverse=[o0]::t):[aw,Vs.eE s]:=by
 unfold Vs.eE;rw[h];split;·rename_i e;cases e
 ·rename_i e;cases e;rw[8,J,V]
 ·rfl
theorem ac6{s:[e_]}{c:Nat}(h:s.reverse=[[o0]]):[aw,Vs.eE s]:=by
 unfold Vs.eE;rw[h];split;·rename_i e;cases e
 ·rename_i e;cases e
 ·rfl
theorem ac7(s:[e_])(h:mK s):([aN,kS s≠[]]&&([aN,(iP [] s).getLast?=Z []]||[aN,(iP [] s).getLast?=Z [109]]))=Vs.eE s:=by
 obtain⟨x,b,f⟩:=Ik s [] h;rw[b];rcases f with⟨P,y,w⟩|⟨a,g,P⟩
 ·rw[P];have u:s.reverse=y.reverse.map Sound.cons:=by rw[w,List.map_reverse]
  rw[62,[aw,Vs.eE s],by cases e:y.reverse with|nil=>rw[e]at u;unfold Vs.eE;rw[u];rfl|cons c r=>cases r with|nil=>rw[e]at u;exact ac6 u|cons d r=>rw[e]at u;exact Q9 u];simp
 ·have j:kS s≠[]:=by rw[P];unfold kS;intro z;rw[cH,I0]at z;have:=List.append_eq_nil_iff.mp z;have m:=this.2;rw[bO,List.filter_cons_of_pos (by cases g<;>rfl)]at m;cases m
  rw[bK j,yO];have u:s.reverse=x.reverse.map Sound.cons++Sound.vowel g::a.reverse:=by rw[P,List.reverse_append,R8,List.map_reverse,gZ];rfl
  have A:x=x.reverse.reverse:=(List.reverse_reverse x).symm;generalize x.reverse=y at u A;cases y with
   |nil=>rw[55,x=[],A];rw[62,Vs.eE s=true,by unfold Vs.eE;rw[u];rfl];simp
   |cons c r=>
    cases r with
     |nil=>
      rw[55,x=[c],A];by_cases V:c=109;·subst V;rw[62,Vs.eE s=true,by unfold Vs.eE;rw[u];rfl];simp
      ·rw[ac5 V u];simp[V]
     |cons d r=>
      rw[Q9 u];have X:2≤x.length:=by rw[A,List.length_reverse];simp
      have H:∀y:[ak],y.length≤1→¬(Z x=Z y):=λ y i z=>by have:=[dF,z];rw[←this]at i;omega
      rw[bW (H [] [al]),bW (H [109] [al])];rfl
theorem ac8(s:[e_])(h:mK s):[JP,kS s≠[]∧(iP [] s).headD []=[],2]=Vs.ku s:=by
 rw[Ij s [] h];unfold Vs.ku;match s with
  |[]=>rfl
  |[o0]::r=>simp[Vs.gJ,Kgz1.begins]
  |[iI]::r=>
   rw[aI,aI];·rfl
   ·rw[15,?_,J];rw[19,Ig]
theorem ac9(s:[e_])(h:mK s):kf (s.map jq)=Vs.l5 (Vs.gK s):=by
 rw[66,sv (s.map jq)=Vs.ku s,ac8 s h,qm (s.map jq)=Vs.eE s,ac7 s h];have B:gA (s.map jq)=Vs.lead s:=by show jE ((iP [] s).headD [])=_;rw[Ij s [] h,Q6];rfl
 have G:fG (s.map jq)=Vs.eA s:=(Q8 s [] h).symm;unfold kf Vs.l5 Vs.gK;rw[e1,e2,B,G];cases Vs.eE s<;>rfl
theorem ac_(W:[ak]):kf (d_ 0 W)=Vs.l5 (Vs.tK W):=[ar,Ib,ac9 _ (Ic 0 W)]
end VP
end
section
namespace VP
open PySem L2
open Kgz1(parts way foot digits cutOf measure measured)
theorem vo{m i:Type}{f:m→[j4,i]}{P:m→Prop}{g:m→i}(F:∀x y,f x=Z y↔P x∧y=g x):∀{l:[li]}{r:List i},l.mapM f=Z r↔(∀x∈l,P x)∧r=l.map g
 |[],r=>by
  rw[34,List.mapM_nil];·intro h;rw[70,[CD,i]=r,[dF,h]];simp
  ·rintro⟨_,rfl⟩;rfl
 |a::l,r=>by
  rw[34,List.mapM_cons];·intro h;obtain⟨b,K,h⟩:=[EK,h];obtain⟨S,v,h⟩:=[EK,h];obtain⟨c,d⟩:=(F a b).mp K;obtain⟨e,w⟩:=(vo F).mp v;have:b::S=r:=[dF,h];subst this;refine⟨[rp],by rw[bO,d,w]⟩;rcases[dE,A]with rfl|A;rw[2,c,e x A]
  ·rintro⟨c,rfl⟩;refine[EH,g a,(F a _).mpr [ge,c a cq],[EH,l.map g,(vo F).mpr [ge,[KQ,c]],J]]
theorem Q_(l:[ak]):[Oi]=l.length↔l.all (λ c=>c==45||c==117)=true:=by
 have L:∀l:[ak],[DX,[Oi]]:=by
  intro l;induction l with
   |nil=>simp
   |cons a l T=>
    rw[i8,i8,dP];by_cases g:a=45;·subst g;rw[18]
    ·by_cases r:a=117;·subst r;rw[18]
     ·simp[g,r];omega
 induction l with
  |nil=>simp
  |cons a l T=>
   have:=L l;rw[i8,i8,dP,vG,dO];refine Iff.trans ?_ (and_congr vP T);by_cases g:a=45;·subst g;rw[18]
   ·by_cases r:a=117;·subst r;rw[18]
    ·simp[g,r];omega
theorem Ra(x:[ak])(y:[lB]):way x=Z y↔gD x=true∧y=sC x:=by
 unfold way gD;rw[dO,dO,dw,dw,dw,Q_];split;·rename_i h;rw[0,λ e=>⟨⟨h.1,h.2.1,h.2.2⟩,[nr,e]⟩,λ e=>[hJ,e.2]]
 ·rename_i h;rw[0,λ e=>(nomatch e),λ e=>[e9,⟨e.1.1,e.1.2.1,e.1.2.2⟩,h]]
theorem Rb(x:[ak])(y:[Nj]):foot x=Z y↔sy x∧y=kP x:=by
 unfold foot sy;rw[34,RA]
 ·rintro⟨l,g,r⟩;obtain⟨P,w⟩:=(vo Ra).mp g;split at r;·rename_i X;rw[70,l=y,[dF,r]];rw[w,aC]at X;rw[0,⟨X,P⟩,w]
  ·cases r
 ·rintro⟨⟨g,r⟩,P⟩;rw[29,kP x,(vo Ra).mpr [ge,r]];rw[aI (by unfold kP;rw[4,aC,g]),P]
theorem Bi(f:[ak])(s:[Eu]):(((parts 124 f []).mapM foot).bind λ l=>[LW,[pQ,16],l])=Z s↔mF f s:=by
 unfold mF;rw[34,RA]
 ·rintro⟨l,g,r⟩;obtain⟨P,w⟩:=(vo Rb).mp g;split at r;·rename_i X;rw[70,l=s,[dF,r]];rw[w,aC]at X;rw[1,X,P,w]
  ·cases r
 ·rintro⟨g,r,P⟩;rw[27,(vo Rb).mpr [ge,r]];rw[aI [ov,g],P]
def dg(n:Nat):[ak]:=[DB,n<10,48+n,[49,38+n]]
theorem Il{n:Nat}(g:1≤n)(r:n≤16):yq n=tx (dg n):=by rw[50,n=1∨n=2∨n=3∨n=4∨n=5∨n=6∨n=7∨n=8∨n=9∨n=10∨n=11∨n=12∨n=13∨n=14∨n=15∨n=16];rw[163]
theorem ada{n:Nat}(g:1≤n)(r:n≤16):digits (dg n)=Z n:=by rw[50,n=1∨n=2∨n=3∨n=4∨n=5∨n=6∨n=7∨n=8∨n=9∨n=10∨n=11∨n=12∨n=13∨n=14∨n=15∨n=16];rw[163]
theorem digits_of{l:[ak]}{n:Nat}(h:digits l=Z n)(hn:n≤16):1≤n∧l=dg n:=by
 unfold digits at h;split at h
 ·rename_i c;obtain⟨u,A,T,t⟩:=c;match l,u,A,T,t,h with
   |[a],_,_,T,t,h=>
    simp at T t h;have e:dg n=[48+n]:=by unfold dg;rw[aI [ac]]
    rw[4,e,⟨[ac],by congr 1;omega⟩]
   |[a,b],_,_,T,t,h=>simp at T t h;rw[73,dg n=[49,38+n],by unfold dg;rw[aD [ac]]];rw[15,[ac],?_];have g:a=49:=[ac];have r:b=38+n:=[ac];rw[g,r]
   |_::_::_::_,_,A,_,_,_=>simp at A
   |[],u,_,_,_,_=>simp at u
 ·cases h
theorem Bj{l:[ak]}{most n:Nat}(N:most≤16):sA l most n↔digits l=Z n∧n≤most:=by
 unfold sA;rw[7];·rintro⟨g,r,P⟩;rw[Il g [ac]]at P;rw[83,AO P];rw[0,ada g [ac],r]
 ·rintro⟨g,r⟩;obtain⟨P,rfl⟩:=digits_of g [ac];rw[1,P,r,Il P [ac]]
theorem Rc{n:Nat}(hn:n≤16)(x:[ak])(p:[xP]):cutOf n x=Z p↔IsCut x n p.1 p.2:=by
 unfold cutOf IsCut;rw[7]
 ·intro h;split at h
  ·rename_i a b R;split at h
   ·rename_i u v o y;split at h;·rename_i c;rw[70,(u,v)=p,[dF,h]];rw[9,a,b,R,(Bj hn).mpr ⟨o,c.1⟩,(Bj [ac]).mpr [ut,y,c]]
    ·cases h
   ·cases h
  ·cases h
 ·rintro⟨a,b,R,g,r⟩;obtain⟨P,w⟩:=(Bj hn).mp g;obtain⟨m,H⟩:=(Bj [ac]).mp r;rw[R];simp only[P,m];rw[aI ⟨w,H⟩]
theorem Bk{m d:Type}{f:m→[j4,d]}{R:[d0,m,d]}(F:∀x y,f x=Z y↔R x y):∀{l:[li]}{r:List d},l.mapM f=Z r↔(Paired R l r)
 |[],r=>by
  rw[34,List.mapM_nil];·intro h;have:[CD,d]=r:=[dF,h];rw[65,.nil]
  ·intro h;cases h;rfl
 |a::l,r=>by
  rw[34,List.mapM_cons];·intro h;obtain⟨b,K,h⟩:=[EK,h];obtain⟨S,v,h⟩:=[EK,h];have:b::S=r:=[dF,h];rw[65,.cons ((F a b).mp K) ((Bk F).mp v)]
  ·intro h;cases h with|cons g c=>exact[EH,_,(F a _).mpr g,[EH,_,(Bk F).mpr c,J]]
theorem Rf{n:Nat}(hn:n≤16)(c:[ak])(S:[nk]):(((parts 44 c []).mapM (cutOf n)).bind λ k=>[LW,k.length≤8,k])=Z S↔sE c n S:=by
 unfold sE;rw[34,RA]
 ·rintro⟨k,g,r⟩;have P:=(Bk (Rc hn)).mp g;split at r;·rename_i X;rw[70,k=S,[dF,r]];rw[0,[ar,er P,X],P]
  ·cases r
 ·rintro⟨g,r⟩;rw[29,S,(Bk (Rc hn)).mpr r];rw[aI [cE,er r,g]]
theorem qv(c:Nat):∀(l w:[ak])(x:Nat),x∈l∨x∈w→x=c∨∃p∈parts c l w,x∈p
 |[],w,x,h=>by
  rcases h with h|h;·rw[16]
  ·exact[vn,w,by rw[19,parts],h]
 |d::r,w,x,h=>by
  rw[parts];split
  ·rename_i a;rcases h with h|h
   ·rw[136];·rw[21,a]
    ·rcases qv c r [] x [m_]with q|⟨p,R,A⟩;rw[48,q,⟨p,cp _ R,A⟩]
   ·exact[vn,w,cq,h]
  ·refine qv c r (w++[d]) x ?_;rcases h with h|h;·rw[136];rw[2,.inr [al],[m_]]
   ·exact .inr [bB,h]
theorem adb{x:[ak]}(h:gD x=true):∀c∈x,c∈qo:=by intro c V;unfold gD at h;simp only[dO,dw]at h;have:=List.all_eq_true.mp ((Q_ x).mp h.2.2) c V;rw[82];rcases this with rfl|rfl<;>decide
theorem Rg{f:[ak]}{s:[Eu]}(h:mF f s):∀c∈f,c∈qo:=by
 intro c V;rcases qv 124 f [] c (.inl V)with rfl|⟨p,R,A⟩;·decide
 ·rcases qv 44 p [] c (.inl A)with rfl|⟨q,D,a⟩;·decide
  ·exact adb ((h.2.1 p R).2 q D) c a
theorem ade{n:Nat}(g:1≤n)(r:n≤16):∀c∈dg n,c∈qo:=by rw[50,n=1∨n=2∨n=3∨n=4∨n=5∨n=6∨n=7∨n=8∨n=9∨n=10∨n=11∨n=12∨n=13∨n=14∨n=15∨n=16];rw[163]
theorem Rh{l:[ak]}{most n:Nat}(N:most≤16)(h:sA l most n):∀c∈l,c∈qo:=by obtain⟨g,r,P⟩:=h;rw[Il g [ac]]at P;rw[25,AO P,ade g [ac]]
theorem adf{c:[ak]}{n:Nat}{S:[nk]}(hn:n≤16)(h:sE c n S):∀x∈c,x∈qo:=by
 intro x A;rcases qv 44 c [] x (.inl A)with rfl|⟨p,R,d⟩;·decide
 ·obtain⟨i,O,m⟩:=gY R;obtain⟨b,_,v,w,g,r,P⟩:=[MU,h.2,p,O,m];rcases qv 46 p [] x (.inl d)with rfl|⟨q,D,M⟩;·decide
  ·rw[g]at D;simp at D;rw[122,D,Rh hn r x M,Rh [ac] P x M]
theorem Ri(l:[ak])(m:bT):kg l m↔measured l.length l=Z m:=by
 unfold measured;rw[7]
 ·rintro⟨_,g,a,P⟩;rw[aD [ac]];unfold Kgz1.measure;rcases P with⟨f,e,F,V⟩|⟨f,c,e,F,V⟩
  ·rw[e];have q:=((Bi f m.feet).mpr F);obtain⟨k,n,d⟩:=[EK,q];refine[EH,k,n,?_];split at d;·rename_i X;have:k=m.feet:=[dF,d];rw[aI X,this,←V]
   ·cases d
  ·rw[e];have q:=((Bi f m.feet).mpr F);obtain⟨k,n,d⟩:=[EK,q];refine[EH,k,n,?_];split at d
   ·rename_i X;have t:k=m.feet:=[dF,d];subst t;rw[aI X];have r:=((Rf X c m.cuts).mpr V);obtain⟨k2,i,S⟩:=[EK,r];refine[EH,k2,i,?_];split at S;·rename_i E;have:k2=m.cuts:=[dF,S];rw[aI E,this]
    ·cases S
   ·cases d
 ·intro h;split at h;·cases h
  ·rename_i K;unfold Kgz1.measure at h;split at h
   ·rename_i f e;obtain⟨k,n,d⟩:=[EK,h];split at d
    ·rename_i X;have j:=[dF,d];have F:mF f k:=(Bi f k).mp [EH,k,n,aI X];rw[17,λ c V=>?_,[ac],[ac],.inl ⟨f,e,[cE,j,F],by rw[←j]⟩];rcases qv 59 l [] c (.inl V)with rfl|⟨p,R,A⟩;·decide
     ·rw[e]at R;simp at R;subst R;exact Rg F c A
    ·cases d
   ·rename_i f c e;obtain⟨k,n,d⟩:=[EK,h];split at d
    ·rename_i X;obtain⟨k2,i,S⟩:=[EK,d];split at S
     ·rename_i E;have j:=[dF,S];have F:mF f k:=(Bi f k).mp [EH,k,n,aI X];have V:sE c k.length k2:=(Rf X c k2).mp [EH,k2,i,aI E];rw[17,[rp],[ac],[ac],.inr ⟨f,c,e,[cE,j,F],[cE,j,V]⟩];rcases qv 59 l [] x (.inl A)with rfl|⟨p,R,b⟩;·decide
      ·rw[e]at R;simp at R;rw[122,R,Rg F x b,adf X V x b]
     ·cases S
    ·cases d
   ·cases h
end VP
end
section
namespace VP
open PySem L2
open Kgz2(Row isRow before okWord wordOf okStock scansRow)
def gp(x:[ak]):[ak]:=x++lS (24-x.length) 0
def sI(x:[ak]):Prop:=∀c∈x,c≠0
theorem Rj{x:[ak]}(h:sI x):wordOf (gp x)=x:=by
 unfold wordOf gp;induction x with
  |nil=>rw[pf];cases 24-([]:[ak]).length with|zero=>rfl|succ n=>rw[List.replicate_succ,R0];rfl
  |cons c x T=>
   have V:(c !=0)=true:=[aB,h c cq];have Q:∀(x:[ak])(k:Nat),sI x→List.takeWhile (λ c=>c !=0) (x++lS k 0)=x:=by
    intro x;induction x with
     |nil=>intro k _;cases k with|zero=>rfl|succ n=>rw[pf,List.replicate_succ,R0];rfl
     |cons d x b=>intro k A;have a:(d !=0)=true:=[aB,A d cq];rw[nW,R0,a,aI J,b k λ c V=>A c (cp _ V)]
   exact Q _ _ h
theorem Rk{x:[ak]}(h:sI x):okWord (gp x)=true↔vm x:=by
 unfold okWord vm;have e:(gp x).takeWhile (λ c=>c !=0)=x:=Rj h;simp only[e,dO,dw,mS];rw[7];·rintro⟨⟨⟨⟨_,g⟩,r⟩,P⟩,_⟩;rw[1,λ c V=>((FU c).mpr (List.all_eq_true.mp P c V)),g,r]
 ·rintro⟨g,r,P⟩;rw[15,⟨⟨⟨?_,r⟩,P⟩,List.all_eq_true.mpr λ c V=>(FU c).mp (g c V)⟩,?_];·unfold gp;rw[dh,II];omega
  ·unfold gp;rw[19,List.drop_left]
theorem Rl{S:List [ak]}{most:Nat}(h:∀x∈S,sI x):okStock (S.map gp) S.length most=true↔mE S most:=by
 unfold okStock mE;simp only[dO,dw,SG,BA];rw[7];·rintro⟨⟨⟨⟨g,r⟩,P⟩,a⟩,m⟩;rw[9,g,r,P,a,λ w T=>(Rk (h w T)).mp (m w T)]
 ·rintro⟨g,r,P,a,m⟩;rw[0,⟨⟨⟨g,r⟩,P⟩,a⟩,λ w T=>((Rk (h w T)).mpr (m w T))]
theorem Rm{c:Row}{most n:Nat}:ql c most n↔¬(most<c.length∨(c.length≠0∧[aw,isRow n most c])):=by
 unfold ql;rw[7]
 ·rintro⟨g,r,P⟩(h|⟨h,w⟩);·omega
  ·have:[JV,n,c]:=Vs.jS.mpr ⟨[ac],g,P,r⟩;rw[this]at w;cases w
 ·intro h;have g:c.length≤most:=vA (λ z=>h (.inl z));by_cases h0:c.length=0;·rw[70,c=[],[QY,h0]];rw[1,g,kj,[al]]
  ·cases u:isRow n most c with|false=>rw[8,[jT,h0,u],h]|true=>have:=Vs.jS.mp u;rw[1,g,this.2.2.2,this.2.2.1]
theorem Rn(sz:Vs.bx):∀l:[ak],Vs.cg sz l=(l.map sz).sum|[]=>J|a::l=>by show Vs.cg sz l+sz a=_;rw[Rn sz l,bO,qE];omega
theorem adg{l:[ak]}{m:bT}(h:kg l m):Vs.B8 m:=by
 obtain⟨U,_⟩:=Gq h;obtain⟨_,_,_,h⟩:=h;have F:∀f,mF f m.feet→1≤m.feet.length:=λ f F=>by rw[12,F.2.2,aC,[CB,vk 124 f []]]
 have T:[Oo,1≤w.length∧w.length≤4]:=λ g k w T=>by obtain⟨d,r⟩:=(U.iT g k).2 w T;rw[0,[CB,d],r]
 rcases h with⟨f,_,d,r⟩|⟨f,c,_,d,r⟩;·rw[1,⟨F f d,U.feet⟩,T,by rw[19,r]]
 ·rw[24,⟨F f d,U.feet⟩,T,[ro]];obtain⟨i,O,e⟩:=gY R;obtain⟨x,_,a,b,_,P,j⟩:=Eo r.2 (i:=i) (b:=p) (by rw[bX O,e]);rw[0,P.1,j.1]
theorem Im:∀(l:[ak])(f:[dj])(k:Nat),(∀x∈l,f x≤k)→(l.map f).sum≤l.length*k|[],f,k,_=>[al]|a::l,f,k,h=>by have g:=Im l f k [KQ,h];have r:=h a cq;rw[bO,qE,dP,Nat.succ_mul];omega
theorem Ro{l:[ak]}{m:bT}{S:List [ak]}{most:Nat}{F:aS}{ay:[dj]}(N:kg l m)(aH:mE S most)(M:∀x∈S,sI x)(R:A6 m S most F ay){r:Row}(u:[JV,S.length,r]):nI F ay r↔scansRow m (S.map gp) r=true:=by
 obtain⟨d,f,o,q⟩:=Vs.jS.mp u;have y:=(Gq N).1;have v:∀k∈r,∃x,S[k]?=Z x∧x∈S∧wordOf [Os]=x:=λ k C=>by have Q:=o k C;rw[17,S[k],bX Q,BC Q,?_];rw[iB,cJ,bX Q];exact Rj (M _ (BC Q))
 have B:∀x∈S,x≠[]∧∀c∈x,c≠32:=λ x A=>by obtain⟨g,a,_⟩:=aH.2.2.2.2 x A;refine⟨λ e=>by rw[e]at a;simp at a,λ c V e=>?_⟩;rw[98,(FU c).mp (g c V),e]
 have j:r≠[]:=λ e=>by rw[e]at d;simp at d
 rw[Vs.Tn (adg N) (S.map gp) r j λ k C=>by obtain⟨x,_,A,e⟩:=v k C;rw[4,e,B x A]];have U:=R.fm;have s:∀i∈r,[qP,ay i]:=λ i O=>R.lt i (o i O)
 have g:[O0,r]=true↔Vs.jQ m (Vs.start m) [Cl,Vs.tK (wordOf [Os])]:=by
  unfold eO;rw[Ft R.ok r [[J0]] s (λ L p=>by simp at p;subst p;exact R.st),Vs.TY y.cuts,←U];rw[73,(r.map ay).map (Vs.shapeAt F.ks)=[Cl,Vs.tK (wordOf [Os])].map Vs.l5,by rw[118,[zj]];obtain⟨x,A,_,e⟩:=v k C;show[yj,F.ks,ay k]=Vs.l5 (Vs.tK (wordOf [Os]));rw[e,(R.tr k x A).1,ac_]];rw[7];·rintro⟨L,p,h⟩;simp at p;subst p;exact h
  ·intro h;rw[1,_,[al],h]
 have a:[ni,r.map ay]≤256↔[Cl,[fy,wordOf,[Os]]+1].sum≤256:=by
  rw[Rn,cP];have t:[Cl,[fy,wordOf,[Os]]+1]=[Cl,(S.getD k []).length+1]:=by refine iD [zj];obtain⟨x,A,_,e⟩:=v k C;rw[e,iB,A];rfl
  rw[t];by_cases I:∀x∈S,(x.length+1)*most≤256
  ·have n:r.map ((Vs.b0 F.ks)∘ay)=r.map λ _=>0:=by refine iD [zj];obtain⟨x,A,_,_⟩:=v k C;have:=(R.tr k x A).2;unfold mG at this;rw[aI I,cJ,A]at this;exact[nr,this]
   rw[n];have z:(r.map λ _=>0).sum≤r.length*0:=Im r _ 0 λ _ _=>ba _
   have w:0<most:=aH.2.2.1;have K:[Cl,(S.getD k []).length+1].sum≤r.length*(256/most):=Im r _ _ λ k C=>by obtain⟨x,A,D,_⟩:=v k C;rw[12,iB,A,(Nat.le_div_iff_mul_le w).mpr (I x D)]
   have V:r.length*(256/most)≤most*(256/most):=Nat.mul_le_mul_right _ f;have b:most*(256/most)≤256:=Nat.mul_div_le 256 most;rw[0,λ _=>[ac],λ _=>[ac]]
  ·have n:r.map ((Vs.b0 F.ks)∘ay)=[Cl,(S.getD k []).length+1]:=by refine iD [zj];obtain⟨x,A,_,_⟩:=v k C;have:=(R.tr k x A).2;unfold mG at this;rw[aD I,cJ,A]at this;rw[12,iB,A,[nr,this]]
   rw[n]
 unfold nI;rw[g,a]
theorem Io{l:[ak]}{m:bT}{S:List [ak]}{most:Nat}{F:aS}{ay:[dj]}(N:kg l m)(aH:mE S most)(M:∀x∈S,sI x)(R:A6 m S most F ay){c q:Row}:iq F ay S.length most c q↔Vs.tL m (S.map gp) most c q:=by
 unfold iq Vs.tL;rw[34,aC];·rintro⟨g,r,P⟩;rw[1,g,.inr ((Vs.vY c q).mp P),(Ro N aH M R g).mp r]
 ·rintro⟨g,r,P⟩;refine[Ck,g,(Ro N aH M R g).mpr P,Vs.vY c q,?_];rcases r with rfl|r;·have:=(Vs.jS.mp g).1;cases q with|nil=>rw[82]|cons a q=>rfl
  ·exact r
theorem adh(r:[ak])(h:[B_,12]):((SQ 12 r).take r.length)=r:=by
 unfold SQ;apply List.ext_getElem?;intro i;rw[List.getElem?_take,cJ];by_cases O:i<r.length;·rw[aI O,List.getElem?_range [ac],bX O];show Z (r.getD i 0)=_;rw[iB,bX O];rfl
 ·rw[aD O,sQ [ac]]
theorem adi:QZ:=by
 intro most j P L i I v t p s;rw[73,Sd most j P L=(let a:=Kgz2.answer (.next j.length (j.map jt) (L.map Kgz2Neutral.word) L.length most.toNat (P.map jt) P.length);a.value::Kgz2Neutral.ints (a.out.take a.value.toNat)),J];generalize U:j.map jt=k at*;have h:j.length=k.length:=by rw[←U,aC]
 generalize O:P.map jt=after at*;have K:P.length=after.length:=by rw[←O,aC]
 generalize f:(L.map λ l=>l.map jt)=S at*;have Q:L.length=S.length:=by rw[←f,aC]
 have T:L.map Kgz2Neutral.word=S.map gp:=by rw[←f,cP];rw[43,iD λ x _=>?_,Kgz2Neutral.natsOf x++lS (24-x.length) 0=gp (x.map jt)];unfold gp;rw[aC];rfl
 have M:∀x∈S,sI x:=λ x A c V=>by rw[←f]at A;obtain⟨y,d,rfl⟩:=[bp,A];obtain⟨z,M,rfl⟩:=[bp,V];rw[10,((p y d).2 z M).1]
 rw[h,K,Q,T];generalize most.toNat=o at*;simp only[Kgz2.answer];rcases s with⟨W,rfl⟩|⟨m,N,s⟩;·rw[62,Kgz1.measured k.length k=none,by cases q:Kgz1.measured k.length k with|none=>rfl|some m=>rw[8,⟨m,((Ri k m).mpr q)⟩,W]];rfl
 ·rw[(Ri k m).mp N];simp only;rcases s with⟨W,rfl⟩|⟨aH,s⟩
  ·have:[aw,okStock (S.map gp) S.length o]:=by cases q:okStock (S.map gp) S.length o with|false=>rfl|true=>rw[8,(Rl M).mp q,W]
   rw[aI this];rfl
  ·rw[aD (by rw[((Rl M).mpr aH)];decide)];rcases s with⟨W,rfl⟩|⟨ha,F,ay,R,s⟩;·have:o<after.length∨(after.length≠0∧[aw,isRow S.length o after]):=kT (λ z=>W (Rm.mpr z));rw[aI this];rfl
   ·rw[aD (Rm.mp ha)];rcases s with⟨rfl,W⟩|⟨r,rfl,u,n⟩;·rw[62,Kgz2.first m (S.map gp) o after=none,Vs.Tq λ q D=>W q ((Io N aH M R).mpr D)];rfl
    ·rw[62,Kgz2.first m (S.map gp) o after=Z r,Vs.Ts ((Io N aH M R).mp u) λ q D=>n q ((Io N aH M R).mpr D)];have X:[B_,12]:=by have g:=(Vs.jS.mp u.1).2.1;have b:=aH.2.2.2.1;omega
     show _=[aV,r.length]::Kgz2Neutral.ints ((SQ 12 r).take [aV,r.length].toNat);rw[vy,adh r X];rfl
end VP
end
section
open PySem PySem.W PyProof.Rows
theorem PySem.Challenge.cw_versestock_s01_next_row_holds : PySem.Challenge.rw_versestock_s01_next_row.Holds := by
 w_on;k_headS;(case hw=>rw[1,[.int 1,.list [],.list [],.list []],[bE],[bE]]);k_fillS;refine VP.acQ (K:=_) rfl rfl (λ w h Y=>PySem.W.kIn_of Y) [gt,rfl] [gt,rfl] ?F VP.adi;case F=>
  intro w mg fa h KX G hmg;refine' VP.acT KX G hmg ?a0 ?T0;case a0=>k_is
  case T0=>
   refine'⟨_,_,_,_,_,_,_,_,_,_,_,_,_,_,_,_,_,_,_,_,?TK,?D0,?NC,?EM,?E1,?E2,?E3,?DK,?tbK,?DC,?tbC,?hne⟩;case TK=>
    refine' VP.TopK.mk ?B ?A_ ?sF ?Gs ?Gv ?Gx ?yt ?mI ?mJ ?Gy ?Gz ?GD ?GG ?GH ?GP ?GQ ?GR ?GU ?GV ?GX ?GY ?GZ ?G7 ?G8 ?G9 ?G_ ?Ha ?Hb ?Hc ?Hd ?He ?Hf ?Hg ?Hh ?Hi ?Hj ?Hk ?Hl ?Hm ?Hn ?Ho ?Hq ?Hr ?Hs ?Ht ?Ba ?Hu ?Hv ?Hw ?Hx ?Hy ?Hz ?HA ?HC ?HD ?HE ?HF ?HG ?HH ?HI ?HJ ?HK ?HL ?HM ?HN ?HP ?Bb ?HQ ?HR ?HS ?HU ?HV ?HW ?wd ?lp ?vw ?wt ?bg ?rd ?ms ?sc ?si ?iT ?room ?bound ?nB ?nE;case B=>refine' VP.acU KX G ?z0 ?z1 ?z2 ?z3 ?z4 ?z5 ?z6 ?z7 ?z8 ?z9 ?z10 ?z11 ?z12 ?z13 ?z14 ?z15 ?z16;(case z0=>k_is);(case z1=>k_is);(case z2=>k_is);(case z3=>k_is);(case z4=>k_is);(case z5=>k_is);(case z6=>k_is);(case z7=>k_is);(case z8=>k_is);(case z9=>k_is);(case z10=>k_is);(case z11=>k_is);(case z12=>k_is);(case z13=>k_is);(case z14=>k_is);(case z15=>k_is);(case z16=>k_is)
    case A_=>refine' VP.acV KX G ?a ?pg ?hd ?po ?sa ?n0 ?n1;(case a=>k_is);(case pg=>k_is);(case hd=>k_is);(case po=>k_is);(case sa=>k_is);(case n0=>k_is);(case n1=>k_is)
    case sF=>rw[126,VP.acW KX G ?a ?pg ?hd ?po ?sa ?n0 ?n1 ?n2 ?n3 ?n4 ?n5];(case n3=>k_is);(case n4=>k_is);(case n5=>k_is)
    case Gs=>rw[126,VP.acX KX G ?a ?pg ?hd ?po ?sa ?n0 ?n1 ?n2]
    case Gv=>rw[126,VP.acY KX G ?a ?pg ?hd ?po ?sa ?n0 ?n1 ?n2]
    case Gx=>rw[126,VP.acZ KX G ?a ?pg ?hd ?po ?sa ?n0 ?n1 ?n2]
    case yt=>rw[126,VP.ac0 KX G ?a ?pg ?hd ?po ?sa ?n0 ?n1 ?n2 ?n3 ?n4];(case n3=>k_is);(case n4=>k_is)
    case mI=>rw[126,VP.ac1 KX G ?a ?pg ?hd ?po ?sa ?n0 ?n1 ?n2 ?n3 ?n4];(case n3=>k_is);(case n4=>k_is)
    case mJ=>rw[126,VP.ac2 KX G ?a ?pg ?hd ?po ?sa ?n0 ?n1 ?n2 ?n3];(case n3=>k_is)
    case Gy=>rw[36,VP.abE]
    case Gz=>rw[36,VP.abF]
    case GD=>rw[36,VP.abG]
    case GG=>rw[36,VP.abH]
    case GH=>rw[36,VP.abI]
    case GP=>rw[36,VP.abJ]
    case GQ=>rw[36,VP.abK]
    case GR=>rw[36,VP.abL]
    case GU=>rw[36,VP.abM]
    case GV=>rw[36,VP.abN]
    case GX=>rw[36,VP.abO]
    case GY=>rw[36,VP.abP]
    case GZ=>rw[36,VP.abQ]
    case G7=>rw[36,VP.abR]
    case G8=>rw[36,VP.abS]
    case G9=>rw[36,VP.abT]
    case G_=>rw[36,VP.abU]
    case Ha=>rw[36,VP.abV]
    case Hb=>rw[36,VP.abW]
    case Hc=>rw[36,VP.abX]
    case Hd=>rw[36,VP.abY]
    case He=>rw[36,VP.abZ]
    case Hf=>rw[36,VP.ab0]
    case Hg=>rw[36,VP.ab1]
    case Hh=>rw[36,VP.ab2]
    case Hi=>rw[36,VP.ab3]
    case Hj=>rw[36,VP.ab4]
    case Hk=>rw[106,VP.ab8]
    case Hl=>rw[106,VP.ab9]
    case Hm=>rw[106,VP.ab_]
    case Hn=>rw[106,VP.aca]
    case Ho=>rw[106,VP.acb]
    case Hq=>rw[106,VP.acd]
    case Hr=>rw[106,VP.ace]
    case Hs=>rw[106,VP.acf]
    case Ht=>rw[32,VP.acg]
    case Ba=>rw[32,VP.ach]
    case Hu=>rw[32,VP.aci]
    case Hv=>rw[32,VP.acj]
    case Hw=>rw[32,VP.ack]
    case Hx=>rw[32,VP.acm]
    case Hy=>rw[32,VP.acn]
    case Hz=>rw[32,VP.aco]
    case HA=>rw[32,VP.acp]
    case HC=>rw[32,VP.acq]
    case HD=>rw[32,VP.acr]
    case HE=>rw[32,VP.acs]
    case HF=>rw[32,VP.acu]
    case HG=>rw[32,VP.acv]
    case HH=>rw[32,VP.acw]
    case HI=>rw[32,VP.acx]
    case HJ=>rw[32,VP.acy]
    case HK=>rw[32,VP.acz]
    case HL=>rw[32,VP.acA]
    case HM=>rw[32,VP.acB]
    case HN=>rw[32,VP.acC]
    case HP=>rw[32,VP.acD]
    case Bb=>rw[32,VP.acE]
    case HQ=>rw[32,VP.acF]
    case HR=>rw[32,VP.acG]
    case HS=>rw[32,VP.acH]
    case HU=>rw[32,VP.acI]
    case HV=>rw[32,VP.acJ]
    case HW=>rw[32,VP.acK]
    case wd=>rw[145,VP.sG,VP.sG]
    case lp=>refine'⟨VP.Q0 KX G ?e ?l⟩;(case e=>k_is);(case l=>k_is)
    case vw=>refine' VP.acS KX G ?a ?b ?h1 ?h2 ?h3;(case a=>k_is);(case b=>k_is);(case h1=>decide);(case h2=>decide);(case h3=>decide)
    case wt=>rw[145,VP.gX,VP.gX]
    case bg=>rw[158,⟨[DE,?x0],[DE,?x1],[DE,?x2]⟩]
    case rd=>rw[145,VP.sG,VP.gX]
    case ms=>rw[145,VP.sG,VP.gX]
    case sc=>rw[158,⟨[DE,?x0],[DE,?x1],[DE,?x2],[DE,?x3],[DE,?x4],VP.Bf KX G ?x5,VP.sG KX G ?x6⟩];(case x3=>k_is);(case x4=>k_is);(case x5=>k_is);(case x6=>k_is)
    case si=>refine'⟨VP.Q0 KX G ?e ?l⟩;(case e=>k_is);(case l=>k_is)
    case iT=>refine'[DE,?x];(case x=>k_is)
    case room=>refine'[DE,?x];(case x=>k_is)
    case bound=>refine'[DE,?x];(case x=>k_is)
    case nB=>refine'⟨⟨?pg,?hd,?po,?sa⟩,?ha,?hn,?pP,?hm,?nA⟩;(case pg=>k_is);(case hd=>k_is);(case po=>k_is);(case sa=>k_is);(case ha=>k_is);(case hn=>k_is);(case pP=>k_is);(case hm=>k_is);(case nA=>rfl)
    case nE=>refine'⟨⟨?pg,?hd,?po,?sa⟩,?ha,?hn,?pP,?hm,?nA⟩;(case pg=>k_is);(case hd=>k_is);(case po=>k_is);(case sa=>k_is);(case ha=>k_is);(case hn=>k_is);(case pP=>k_is);(case hm=>k_is);(case nA=>rfl)
   case D0=>rw[127,VP.A9 KX G VP.ab7 ?a ?l ?c ?k]
   case NC=>rw[158,⟨VP.Bf KX G ?x0,VP.Bf KX G ?x1,VP.Bf KX G ?x2⟩]
   case E1=>rw[165];(case e=>rfl);(case i=>k_is)
   case E2=>rw[165];(case e=>rfl);(case i=>k_is)
   case E3=>rw[165];(case e=>rfl);(case i=>k_is)
   case EM=>rw[37,rfl,rfl,rfl,rfl,rfl,rfl]
   case DK=>rw[127,VP.A9 KX G VP.ab5 ?a ?l ?c ?k]
   case tbK=>refine' VP.Q3 ?l ?v ?n;(case l=>k_is);(case v=>rfl);(case n=>rfl)
   case DC=>rw[127,VP.A9 KX G VP.ab6 ?a ?l ?c ?k]
   case tbC=>refine' VP.Q3 ?l ?v ?n;(case l=>k_is);(case v=>rfl);(case n=>rfl)
   case hne=>decide
end
