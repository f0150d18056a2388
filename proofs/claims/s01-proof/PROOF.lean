import PyProof.Rows.All
import Wide.All
import OpenK.AllK
import Wide.FinOn
import PyProof.EqAt
import PyProof.EqKinds
import PyProof.TupleCall
import Open.SpecLaws
import KE.OsHead
import KE.OsGo
import KE.BitLaws
import PyProof.ExcArgsOwn
import PyProof.InstStoreFacts
import PyProof.ExcInit
import PyFlatLaws
import PyWrlnth
import PySem.Challenge.RW_bitsound_s01_answers
set_option Elab.async false
set_option linter.all false
set_option maxRecDepth 100000
set_option maxHeartbeats 2000000
local macro_rules|`(tactic|trivial)=>`(tactic|first|exact .inl rfl|exact .inr rfl|exact .inr (.inl rfl)|exact .inr (.inr rfl)|assumption|(intro _;rfl)|(intro _ _;rfl)|(rintro _ _ _ _ ⟨⟩;(try(rename_i h;cases h));subst_vars;first|rfl|simp_all))
theorem Z_t0(h:0=0:=by trivial):True:=trivial
abbrev Z_t:=Z_t0._auto_1
theorem Z_d0(h:0=0:=by decide):True:=trivial
abbrev Z_d:=Z_d0._auto_1
theorem Z_r0(h:0=0:=by rfl):True:=trivial
abbrev Z_r:=Z_r0._auto_1
structure PySem.W.Fast:Prop where(tw8256245648484206717 tw9399178890980683162 tw1830535409818086102 tw12693338348525676261 tw6859849530914829435 tw8574867627347597754 tw4145198594198293142 tw13154604929675388542 tw17794633934827577416 tw10023315416023983629 tw1028808957072235236 tw10372315189068924271 tw4599720034580353330 tw14391461883232013126 tw3275711389900809143 tw11290895339009915951 tw1278422238869337620 tw11537968553001842879 tw5042659232773921016 tw6416518920283067072 tw18443949970477094308 tw7690083131353433929 tw7082059432004333460 tw2004336759188459008 tw1466633292256340602 tw10046867098673389611 tw11167992946421382510 tw7885329340846714358 tw7746665937625987269 tw16277758844188859159 tw14608627685443910507 tw4887697162679621731 tw3635081289727510460 tw10895316096091609006 tw2898951619619289932 tw2196599376126829602 tw17858511472702616044 tw11684803086732540217 tw917886177229272630 tw6751338010174389122 tw13582466866513617791 tw493216558455261226 tw6792923030372214620 tw6114910356753176040 tw5005268778073020568 tw7087730078008858882 tw10695850819928587877 tw14725781180136897466 tw10264437530278167271 tw4803088226626907745 tw1149016062185578525 tw14879867888403783514 tw7845730452220280369 tw8329432196804607772 tw12003131630723853275 tw18300792812830533291 tw6294244305609715358 tw5049005496869473449 tw12002880071920253044 tw8312908004317905656 tw8054157936643673432 tw3062155804570679872 tw896922179790591292 tw9953366584347664601 tw15390331692554845781 tw926974943447625955 tw18289338644207163710 tw3104119552712883144 tw4379446819239774695 tw17134195654506806525 tw8226598109459121570 tw2975714970038985572 tw4564243728005681650 tw10422530309160635779 tw12737286386761936101 tw12688230552179113327 tw10234102207253771337 tw131767001915086013 tw16931859357235900351 tw3921857653331622220 tw13875356796280211689 tw4175204642424917290 tw16994795177045268079 tw6696394039017009927 tw10652097706043431977 tw11308015851213017893 tw7473458847920652504 tw9184215627969344110 tw14456124177343396758 tw9447135920687357363 tw14391381684969311433 tw12252407421645773830 tw16284224274002859831 tw9013109276113917615 tw3512939491427133167 tw5576594075721598490 tw6973419030934350839 tw14697399535176621708 tw418526613546366037 tw2773525446750586318 tw18345052080244834582 tw9419535386822563434 tw1600513094463383697 tw4381932924495785935 tw13869450404874991982 tw1887566072603883172 tw5450042335292288720 tw13494013937502626486 tw11434923761937710230 tw2079708502561878057 tw16200150540050032884 tw16151429436136928913 tw16257033183162044991 tw7197226631165256258 tw8949160441978719124 tw5852977411955144530 tw5611092261649564432 tw5941623117764613893 tw5761357443989059170 tw1423480948235205116 tw11277795851075349143 tw9197901769692926814 tw13324058608412042894 tw1153856262702458431 tw161594913311195187 tw7001848395626145878 tw17825763608149234701 tw4087041188285414067 tw17383884308519350768 tw5072516992913654047 tw12273761600359272334 tw18245822341372079017 tw3401616785857679308 tw4288573625461327543 tw15183297674608255420 tw3115446781537957210 tw2088384860139505948 tw16510456723613821004 tw15044080155953142987 tw10340646197023072816 tw15349021188952630332 tw6468019352614254260 tw11396856089662577501 tw18129365871655986840 tw17428697436554406788 tw6664861176809239232 tw16683943837729311608 tw4892958888989940073 tw10470368272084288037 tw330856588985669698 tw1839062325288686304 tw5657592873702357691 tw6851732551657199550 tw4843597913140495087 tw11041471671036224399 tw8282510152175696563 tw9546214071207082033 tw6644350842967826101 tw17992517015506169914 tw558626994067319852 tw14897460321794972597 tw18086868528876673232 tw6272653554902101022 tw15864024774459923433 tw5883042718260016439 tw9830392441171756431 tw11797563201310028122 tw4861021125759701638 tw3330803846435053598 tw15434014166848338509 tw8161963963419363903 tw633935894809501876 tw8726828915187732992 tw7158233613134430567 tw12515169993943394911 tw3505629358039198795 tw6716887503919710112 tw2476376912059465113 tw10616450293665256604 tw8006867031851676893 tw10634945874398271810 tw1813617734547382602 tw6574454224502191163 tw7064740889553649485 tw4759318540111148810 tw696510089192697743 tw2472756100775765033 tw16499237322558894202 tw2147567127529624223 tw18207833502682792398 tw3475365570223431531 tw442471978110213672 tw12325568830270174604 tw11394440463104314210 tw1036348891968812981 tw16016142537717186259 tw3069097532945918438 tw295938260261611365 tw5729663932506571289 tw10832535584264911783 tw5101259901033356795 tw15075122937913663815 tw11010119122378536935 tw10928356693351930404 tw17114170044556314128 tw8667160100720729727 tw12324997305480717626 tw3602318273905222172 tw1076805273436395785 tw17472686467414741113 tw12192894549688980399 tw10581959442930156505 tw16871244935875059023 tw12589997898217573614 tw12966373226999655670 tw15332671892907361364 tw17749292291528499675 tw16660274047591906257 tw5257880287801964206 tw12566852413107434922 tw4158024025607797311 tw16474609879817724333 tw12314936052253190775 tw15381771178461162382 tw9148890026876820041 tw1128409734448622774 tw16548023203611242205 tw14250750409898420308 tw8716203972646804854 tw16405877404286910754 tw8417175989786899764 tw4328229104178542824 tw18280016347808933225 tw13610335056005075602 tw16603197736201421824 tw7225111519769357171 tw7635871876242031892 tw2316474656227235188 tw14860281027563646854 tw4573313327004777968 tw14991634726368858923 tw544818992830599913 tw10791671234214721801 tw12288120106308222235 tw12145403376580623996 tw6700985502335599584 tw13275386260549900032 tw11981892926529998313 tw11862936986525267825 tw5757711669694376459 tw13942494757061668964 tw13551679982244496926 tw5991963907474831843 tw3366640372760455495 tw17429065771942909498 tw196013202523580333 tw11511820407376597369 tw6163627638236248444 tw274638500010537401 tw1617021111850697355 tw7667263693436382537 tw6903282928899407712 tw15570566014573627213 tw6318034081288134324 tw14976446752856181216 tw17306179977777020219 tw10063052840639418325 tw12579532712757463437 tw6971235856460377314 tw8653656180650033578 tw12820038131095286977 tw10052963305894839317 tw14957215059629683547 tw8551070795506954474 tw12731874224853761582 tw1988905506307182019 tw3749890264789142559 tw898604072953674382 tw16760729167280156733 tw14070944065133301767 tw6146088752389749655 tw15131635402251376961 tw8832346879805018242 tw3814489066150186392 tw2326407311615550781 tw1303335785605032851 tw6309670947967980523 tw3297613450443182328 tw10857878418965349820 tw153279208589554675 tw15349293134975455026 tw402789118073039383 tw10421767989981117028 tw4578514539818132116 tw6578456132673124903 tw13123931808108326368 tw4222248281233435164 tw13785845560592295533 tw12567828762147700318 tw12341834659303118954 tw6261246555727071860 tw12352962220537776698 tw6926265102871454281 tw11531544291642259574 tw16553213099545014254 tw15693464417488004153 tw1316873837499448579 tw6274395046738631112 tw14093503228103685540 tw11659946331417658946 tw9283006317638681198 tw6424767949956261301 tw5116411287962345691 tw9504071889383509659:True)
theorem kW1:PySem.Challenge.rw_bitsound_s01_answers.wellSaid=true:=by decide+kernel
def Z.{u}{a:Sort u}{b:a}:b=b:=rfl
def aj.{u}{c:Prop}{d:Decidable c}(h:c){a:Sort u}{t e:a}:ite c t e=t:=if_pos h
def ah.{u}{c:Prop}{d:Decidable c}(h:¬c){a:Sort u}{t e:a}:ite c t e=e:=if_neg h
def ae{c:Prop}{d:Decidable c}(h:¬c):decide c=false:=decide_eq_false h
def ag{c:Prop}{d:Decidable c}(h:c):decide c=true:=decide_eq_true h
abbrev bY:=List Int
abbrev ig:=List Nat
abbrev ly:=List (List Int)
open PySem.W renaming Frag->au,nsIn->fj,emptyDict->gB,findIn->ik,keepIn->il,instObj->jO,callWith_K->lg,methodCall_KW->qg,callWith_K0->rZ,fnOf->sM,plainGet->vM,cellsFrom_some->xq,isFn->xr,lookIn->zL,plainGet_of->AV,hasDictIn->DK,methodObj->DL,length_le_weightAllW->Hl,takerIn->Hm,codeIn->Kd,codeRec_of->UY,plainOver->WE,WRecords->Xi,handedIn->Xj,makesIn->aaG,WalkOS->abl,nsOkIn->abm,typeIn->abn
open List renaming getElem?_map->aw,mem_of_getElem?->az,length_map->aB,getElem?_eq_getElem->aD,getD_eq_getElem?_getD->aG,range->aJ,replicate->aM,getElem?_eq_some_iff->aN,length_append->aO,mem_cons_of_mem->aP,mem_cons_self->aU,length_cons->aZ,mem_map->bj,mem_cons->bo,size_toArray->bB,getElem?_range->bD,foldl_cons->bR,flatMap_cons->cj,take_of_length_le->cn,map_cons->cy,append_assoc->cC,range_succ->cE,mem_range->cJ,length_take->cP,drop_eq_getElem_cons->cV,mem_append->de,eq_nil_of_length_eq_zero->di,foldl_append->dB,mem_iff_getElem?->dJ,zipWith->dO,length_nil->dW,length_drop->dY,getElem?_set_self->eF,mem_append_right->eT,mem_of_mem_take->fb,mem_replicate->fc,length_set->ff,map_congr_left->fM,replicate_succ->fN,append_nil->fX,mem_singleton->f_,take_length->gj,drop_of_length_le->gJ,getElem?_append_right->gK,flatMap_append->gN,getElem?_zip_eq_some->hJ,getElem?_eq_none->ib,length_replicate->ic,drop_zero->iD,getElem?_set_ne->iE,length_range->iN,map_append->iU,nodup_cons->iV,map_map->ji,all_eq_true->jq,lookup_cons->jr,getElem?_append_left->jU,flatten_cons->jZ,forall_mem_cons->j4,getElem?_of_mem->j5,mem_of_mem_drop->j6,map_take->kh,length->lA,lookup->lB,map_drop->lY,mem_append_left->mY,any_cons->oJ,find?_cons->oV,mem_filter->oW,getElem?_replicate->pH,ext_getElem?->qe,range_succ_eq_map->qf,getElem?_zipWith->qW,take_append_drop->qX,drop_length->rq,getElem?_modify->rY,nil_append->tG,drop_drop->uL,zip_cons_cons->uM,all_cons->wL,getElem?_take_of_lt->wM,cons_append->xB,drop_eq_nil_of_le->yX,map_nil->yY,of_mem_zip->zG,contains_iff_mem->Ae,foldl_nil->BD,nodup_nil->BE,filterMap_cons->Dy,flatten_append->Dz,sum_cons->DH,contains_cons->Ez,find?_eq_none->EA,not_mem_nil->JS,length_zip->K6,take_left->NZ,take_zero->N0,getElem?_cons_succ->QN,flatMap_singleton->S_,dropLast_eq_take->UO,eq_replicate_iff->UP,getElem?_reverse->UQ,contains_eq_mem->Wt,length_pos_iff->W5,take_succ_cons->W6,countP_append->aav,foldl->aaw,getElem?_drop->aax,length_modify->aay,map_replicate->aaz,mem_filterMap->aaA,getElem?_set->abd,any_eq_true->adx,filter_cons->ady,getElem_inj->adz,getElem_mem->adA,mem_flatMap->adB,drop_left->ahe,forIn_nil->ahf,set->ahg,all_map->alb,map_set->alc
open PySem renaming sizeLine_eq->aE,Shared->aL,wpAny_bind->aR,sizeLine->bu,wpAny->bw,model->bA,Program->bJ,Spec->bK,wpAny_loadPart_at->bU,wpAny_pure->bV,mem_of_lookup->cv,World->cz,starEach->dv,wpAny_mono->dI,FuncData->eO,cellsFrom->fq,wpAny_Call_Name_kw->fC,wpAny_standAt->fG,excClassObj->fW,compEnvC->iB,wpAny_typeLookup_exc->iZ,compareOp->jg,wpAny_truthy_bool->ku,typeLookup->kW,wpAny_isSubtype_exc->lE,mainGlobals->mn,wpAny_field->mq,wpAny_passesOwn->mJ,attributeBase->mT,swapsWith->mU,wpAny_holding->mV,backTo->m9,Scope->nA,foldedSetIterable->nB,binaryOp->oz,keywordEach->oA,sysModules->oB,behindInMarks->pS,bootBuiltins->rL,assignEach->tK,ExceptHandler->tN,sliceBounds->t_,unbindBehindTheSuite->ub,wpAny_execs_nil->uR,codeAny->vv,holding->vw,getMethod->wF,pushCells->wG,backToKw->xi,wpAny_setField->xj,GenState->AK,noteFrame->AL,ExcBaseFacts->BO,cameBackBy->BP,codeAny_mono->BQ,standAt->BR,wpAny_call->BS,letOwnedTupleGo->Dt,pushCells_keeps->Du,frameOf->DA,arm_exec_Raise->Fv,callWith->Fw,codeAny_call_builtin->Fx,Within->FK,notedBy->GB,setFlight->GD,Params->J9,tupleKind_room_in1->J_,BindsTo->L7,cLine->L8,valueAt->L9,wpAny_newObj_type->L_,plainObj_wpAny_Assign_Attribute->NV,tupleKind->Oa,IsRangeIter->QB,subscripted->QC,passOn->QQ,OsState->SY,callerA->S0,getItem->S1,Operator->UC,assign->UD,atKey->UE,call_meets->UG,recursionLimit->UH,wpAny_newFunctionEnv_cells->UI,codeAny_call_builtin_code->Wk,wpAny_check_type_call_sub->Wl,wpAny_update'->W0,Drawn->aam,bindC->aan,bindL->aao,codeAny_call_builtin_at->aap,raiseStmt->aaq,Keyword->aa4,getAttr->aa5,isTrue->aa6,seqIndex_neg->aa7,wpAny_pyIter_rangeiter->aa8,wpAny_pyNext_range_end->aa9,builtinLookup_eq_fast->ads,codeAny_call_function->adt,wpAny_isTrue_Compare1->adu,bindName->aeF,compPost->aeG,handleBy->aeH,seqIndex_of->aeI,wpAny_loadName_local->aeJ,wpAny_pyIter_revIter->aeK,codeAny_exc_new_sub->aha,wpAny_check_new_sub->ahb,wpAny_loadName_cell->ahc,builtinsNs->ah5,typeIs_int->ah6,wpAny_Name->ah7,wpAny_pyIter_range->ah8,wpAny_assign_Name->ak5,wpAny_pyIter_enum->ak6,wpAny_pyIter_list->ak7,pastItsLine_dict->amq,wpAny_execs_cons->ams,wpAny_lookBehind->amt,wpAny_madeBy_exc->amu,wpAny_pyIter_zip->amv,call->amX,Addr->ke,Value->jm
open SoundNeutral renaming step->aQ,bytes->aV,nats->dj,callOf->eu,natural->g_,long->jv,asked1->jQ,toldInts->kR,S->aq7,asked->aq8,start->aq9
open LwSound renaming State->aW,RowWay->bL,Form->bN,chunk->bS,RowLearnt->bT,written->dt,backThrough->dG,cutRows->dH,checked->eJ,Stage->eP,foretold->fh,readHead->fi,storedCheck->fD,models->fO,through->gL,readValues->hU,readRow->iI,fixedTold->jf,modelOf->jN,held->jP,joinRows->jW,joinRows->km,newState->kn,two->kP,backOf->kU,byte->k8,allRows->lD,fixedTold->lT,backThrough->mm,through->mx,learns->mB,newRow->mC,firstBad->mI,restOf->m8,alongBy->nz,spots->n9,ordered->oo,Head->pI,Learnt->pK,stagesAt->rK,join->sL,blockBytes->tL,newLearnt->uN,readValues->xh,itemsOf->xC,outside->xD,cutOne->zA,cutRow->zB,headOf->zC,sgn->zI,unjoin->zJ,jointAt->BN,formBytes->DI,headBytes->DJ,chunk->JP,unjoin->J8,cutRows->L5,foretold->L6,shown->Mg,rightForm->N9,rowsAt->N_,MOST->Oe,okLanes->SX,stageBytes->US,rowBytes->W7,newLearnt->aak,shown->aal,allRows->aaD,STAGES->aa0,crcBit->aa1,crcByte->aa2,bitsIn->abe,cutRow->abf,COUNT->adD,Bad->ahh
open Nat renaming lt_of_lt_of_le->a_,le_refl->bq,le_trans->bt,lt_irrefl->bX,le_of_lt->cG,ne_of_lt->cH,min_eq_left->eQ,zero_le->eU,min_le_left->fw,xor->fE,le_of_eq->f7,lt_succ_self->gn,mod_two_eq_zero_or_one->gO,mul_le_mul_right->iJ,le_of_succ_le->iW,not_lt->i4,add_sub_cancel'->i7,mul_comm->jn,le_succ->jt,le_add_right->jw,lt_of_le_of_lt->jJ,sub_add_cancel->jK,pow_le_pow_right->j_,add_sub_cancel_left->k9,min_eq_right->k_,mul_add->lG,lt_of_lt_of_eq->lM,pos_of_ne_zero->lN,sub_le->lO,sub_self->lP,mod_lt->nh,sub_succ_lt_self->ni,mod_eq_of_lt->n_,mul_le_mul_left->oF,two_pow_pos->pF,lt_or_ge->uq,sub_zero->ur,add_right_comm->uV,mul_le_mul->uW,sub_one_sub_lt->uX,lt_succ_of_lt->wN,pow_add->wO,zero_lt_of_lt->wQ,div_eq_of_lt->xN,testBit_zero->xO,add_le_add_right->BW,sub_add_eq->BX,add_sub_cancel->FE,lt_of_le_of_ne->FF,one_le_two_pow->FJ,le_of_lt_succ->He,sub_pos_of_lt->Hg,succ_mul->Hh,zero_add->Hi,add_mul->K8,mul_add_div->Mh,mul_add_mod->Mi,add_le_add->Og,not_le->Oh,add_comm->UT,div_div_eq_div_mul->UU,ne_of_gt->UW,add_le_of_le_sub'->Ww,add_lt_of_lt_sub'->Wx,div_lt_iff_lt_mul->Wy,le_of_ble_eq_true->Wz,le_sub_of_add_le'->WB,sub_eq_zero_of_le->WC,le_sub_one_of_lt->Xb,log2_lt->Xc,min_def->Xd,one_mul->Xe,sub_eq_of_eq_add->Xf,div_mul_le_self->aaE,lt_of_succ_lt->adE,lt_succ_of_le->adF,succ_sub_succ->adH,log2_self_le->aeW,min_le_right->aeX,div_add_mod->ahj,div_le_self->ahk,testBit_xor->ahl,add_assoc->ale,mul_assoc->alf,mul_succ->amI,pow_succ->amJ,xor_zero->amK,zero_mul->amL
open Option.some renaming inj->bh
open Int renaming toNat_natCast->bF,fdiv_eq_ediv_of_nonneg->cu,toNat_of_nonneg->cX,natCast_add->ft,toNat_le->gM,natCast_mul->gZ,ofNat_inj->jo,natCast_nonneg->jI,mul_nonneg->kZ,ofNat_sub->mr,natCast_ediv->n8,one_mul->pM,natCast_emod->rQ,mul_le_mul_of_nonneg_left->sJ,ofNat_le->um,add_sub_cancel->uS,fdiv->uT,toNat_le_toNat->uU,toNat_sub->xo,zero_add->zF,natCast_pow->Ad,add_mul->BU,mul_le_mul->BV,mul_ediv_cancel->DG,not_lt->FC,mul_add->K4,mul_sub->K5,natCast_sub->Md,mul_assoc->QM,eq_ofNat_of_zero_le->S8,add_comm->UK,mul_comm->UL,ne_of_gt->UM,ofNat_lt->UN,toNat_eq_zero->adw,le_total->amB,lt_or_le->amC
open Bool renaming false_ne_true->bH,and_eq_true->cO,noConfusion->dX,and_eq_true_iff->e_,eq_iff_iff->zE,or_true->GG,or_eq_true->K3,false_eq_true->aas,true_and->aia
open LwBits renaming Model->b9,Bytes->cb,Reader->cD,pushAll->dP,rowFault->eX,pairs->fu,numberItems->fY,zag->fZ,even->gc,le->gH,valueOf->iu,Reader->iF,push->i6,zig->j7,plainParts->lZ,plainRead->mZ,Item->oX,readNumber->pN,plainRead->qM,pop->qN,sawAll->qY,ofLe->rB,Bytes->rJ,readNumber->xg,Models->BK,plainParts->BL,sawAll->BM,pushAll->Gy,code->G9,Want->Ta,sharesIn->UB,ALL->Wu,sawItem->aaY,valueOf->aaZ,Models->aeR,opened->aeS,LOW->ald
open SoundCalls renaming fits->cA,sameForm->cB,step->gC,given->gQ,shapeOk->nM,tells->uO,answered->Oo,parted->QS,BAD->WG
open Option renaming isSome_iff_exists->cZ,map_some->eY,map_eq_some_iff->i5,bind_some->m5,bind_eq_some_iff->wR,isNone_iff_eq_none->Mj,isSome_some->WD,isSome_map->Xh,getD_none->aaF,none->aio
open PySem.F renaming plainAttrs_list->df,slot_list_extend->dC,type_list_extend->dD,excBase_Exception->m6,store_Exception->N1
open False renaming elim->dU
open Ne renaming symm->eK
open PyProof.Rows renaming callWith_type1->eM,envOfC->tJ,boot_min->AJ,callWith_builtin1->BG,AllBare->Gz,boot_list->GA,Constant_none->JQ,subscriptTail->WZ,subscriptTail_builtinR->aa3,boot_sum->aeE,Subscript_->ah3,boot_range->ah4,iadd_int->aqO
open Array renaming getElem?_setIfInBounds_ne->eW,size_setIfInBounds->oE,getElem?_eq_getElem->NW,length_toList->Wm,find?_toList->W2,toList->ah9
open Classical renaming byContradiction->gI
open PyWrlnth renaming shape->jj,answers->EC,whole->JT,answers_asked->N2
open LwBits.Item renaming share->lr
open Except renaming ok->mW,map->Dv
open True renaming intro->m7
open PyFlat renaming calls->tH,told->Ai,played->BY,put1->Hk,call->Te,putRows->adJ,putRow->aeY
open Decidable renaming not_not->tU
open List.cons renaming inj->uo
open ForInStep renaming yield->wJ
open Prod.mk renaming inj->zK,injEq->adI
open Or renaming inl->Ah,inr->QD
open UInt8 renaming ofNat->AW,toNat_ofNat'->Xl
open Sum renaming inl->Ho,inr->Hq
open LwBits.Reader renaming ended->K7
open PyProof renaming noPylong_small->Ol
open Except.ok renaming injEq->Wn
open Nat.succ renaming inj->adG
open PySem.Challenge renaming rw_bitsound_s01_answers->air
open PySem.EqMixed renaming eq_bool_str->amO,eq_int_str->amP,eq_str_bool->amQ,eq_str_int->amR,ne_bool_str->amS,ne_int_str->amT,ne_str_bool->amU,ne_str_int->amV
open PySem.W.Looks renaming here->amW
open LwBits.Model renaming begin_->aqI,n->aqJ,rate->aqK,share->aqL
open PySem.EqNone renaming eq_bool_none->aqP,eq_int_none->aqQ,eq_none_bool->aqR,eq_none_int->aqS,eq_none_none->aqT,eq_none_str->aqU,eq_str_none->aqV,ne_bool_none->aqW,ne_int_none->aqX,ne_none_bool->aqY,ne_none_int->aqZ,ne_none_none->aq0,ne_none_str->aq1,ne_str_none->aq2
open PySem.Within renaming cons->aq3
namespace L2
open PySem PySem.Spec PyProof.Rows
abbrev jz:=List (ke×Obj)
abbrev kc:=jm->aL->Prop
abbrev sO:=Str->Option jm
abbrev gU:=List jm
abbrev mX:=List Str
abbrev pG:=List ke
abbrev FD:=List Expr
abbrev Key:=Sum Int Str
def LD:Key->jm->Bool
 |.inl k,v=>Value.isInt k v
 |.inr x,v=>Value.isStrOf x v
def ao8 (w:cz):Key->Int
 |.inl k=>hashInt k
 |.inr x=>hashStr w x
def jL:∀{k:Key} {v:jm},LD k v=true->(∃i t,k=Ho i/\v=Value.int i t)\/(∃x t,k=Hq x/\v=Value.str x t)
 |.inl i,v,h=>by
  obtain⟨t,e⟩:=Value.isInt_shape (k:=i) (v:=v) h;exact .inl ⟨i,t,Z,e⟩
 |.inr x,v,h=>by
  obtain⟨t,e⟩:=Value.isStrOf_shape (x:=x) (v:=v) h;exact .inr ⟨x,t,Z,e⟩
def Vy (i:Int)(t:Tok):LD (.inl i) (.int i t)=true:=by simp[LD,Value.isInt]
def Vz (x:Str)(t:Tok):LD (.inr x) (.str x t)=true:=by simp[LD,Value.isStrOf]
def afX (a b:Int):decide ((Ho a:Key)=Ho b)=(a==b):=by
 by_cases e:a=b
 .subst e;simp
 .have h:¬(Ho a:Key)=Ho b:=λq=>e (Sum.inl.inj q);rw[ae h];exact(beq_eq_false_iff_ne.mpr e).symm
def af0 (a b:Str):decide ((Hq a:Key)=Hq b)=decide (a=b):=by
 by_cases e:a=b
 .subst e;simp
 .have h:¬(Hq a:Key)=Hq b:=λq=>e (Sum.inr.inj q);rw[ae h,ae e]
def afY (a:Int)(b:Str):decide ((Ho a:Key)=Hq b)=false:=ae (λq=>nomatch q)
def afZ (a:Str)(b:Int):decide ((Hq a:Key)=Ho b)=false:=ae (λq=>nomatch q)
def lK (prog:bJ)(w:cz):PySem.KeyKind prog w Key where
 is:=LD
 hash:=ao8 w
 inj:=λv a b ha hb=>by
  rcases jL ha with⟨i,t,rfl,rfl⟩|⟨x,t,rfl,rfl⟩
  .rcases jL hb with⟨j,u,rfl,e⟩|⟨y,u,rfl,e⟩
   .injection e with e1 _;rw[e1]
   .exact nomatch e
  .rcases jL hb with⟨j,u,rfl,e⟩|⟨y,u,rfl,e⟩
   .exact nomatch e
   .injection e with e1 _;rw[e1]
 byValue:=λk v h=>by
  rcases jL h with⟨i,t,rfl,rfl⟩|⟨x,t,rfl,rfl⟩<;>rfl
 pyHash:=λhv h=>by
  rcases jL hv with⟨i,t,rfl,rfl⟩|⟨x,t,rfl,rfl⟩
  .exact wpAny_pyHash_int h
  .exact wpAny_pyHash_str h
 eqBool:=λhu hv h=>by
  rcases jL hu with⟨i,t,rfl,rfl⟩|⟨x,t,rfl,rfl⟩
  .rcases jL hv with⟨j,u,rfl,rfl⟩|⟨y,u,rfl,rfl⟩
   .rw[afX] at h;exact wpAny_eqBool_int h
   .rw[afY] at h;exact SeqAt.EqAt.int_str i t y u _ _ _ _ h
  .rcases jL hv with⟨j,u,rfl,rfl⟩|⟨y,u,rfl,rfl⟩
   .rw[afZ] at h;exact SeqAt.EqAt.str_int x t j u _ _ _ _ h
   .rw[af0] at h;exact wpAny_eqBool_str h
 «strs»:=λk x t v h=>by
  rcases jL h with⟨i,u,rfl,e⟩|⟨y,u,rfl,e⟩
  .exact nomatch e
  .injection e with e1 _
   subst e1;cases v<;>rfl
def Pw (prog:bJ)(w:cz)(i:Int)(t:Tok):(lK prog w).is (.inl i) (.int i t)=true:=Vy i t
def Px (prog:bJ)(w:cz)(x:Str)(t:Tok):(lK prog w).is (.inr x) (.str x t)=true:=Vz x t
open PySem PySem.Spec PyProof.Rows
inductive V where
 |gS|bl (b:Bool)|int (i:Int)|str (x:Str)|EH (b:Array UInt8)|flt (b:UInt64)|ref (a:ke)|ty (n:String)
 deriving DecidableEq
abbrev b_:=List V
def RelV:V->jm->Prop
 |.gS,u=>u=Value.none
 |.bl b,u=>u=Value.bool b
 |.int i,u=>∃t,u=Value.int i t
 |.str x,u=>∃t,u=Value.str x t
 |.EH b,u=>∃t,u=Value.bytes b t
 |.flt b,u=>∃t,u=Value.float b t
 |.ref a,u=>u=Value.ref a
 |.ty n,u=>u=Value.type n
abbrev Vals:b_->gU->Prop:=Paired RelV
def Vals.length {xs:b_}{us:gU}(r:Vals xs us):xs.length=us.length:=Paired.length r
theorem Vals.get:∀{xs:b_} {us:gU} {i:Nat} {x:V},Vals xs us->xs[i]? =some x->∃u,us[i]? =some u/\RelV x u
 |_,_,_,_,.nil,e=>by simp at e
 |_,_,0,_,.cons r _,e=>by simp at e;subst e;exact⟨_,Z,r⟩
 |_,_,i+1,x,.cons _ t,e=>by
  obtain⟨u,h1,h2⟩:=Vals.get (i:=i) (x:=x) t (by simpa using e);exact⟨u,by simpa using h1,h2⟩
theorem Vals.set {x:V}{u:jm}(r:RelV x u):∀{xs:b_} {us:gU} (i:Nat),Vals xs us->Vals (xs.set i x) (us.set i u)
 |_,_,_,.nil=>.nil
 |_,_,0,.cons _ t=>.cons r t
 |_,_,i+1,.cons q t=>.cons q (Vals.set r i t)
theorem Vals.append:∀{xs ys:b_} {us ws:gU},Vals xs us->Vals ys ws->Vals (xs++ys) (us++ws)
 |_,_,_,_,.nil,s=>s
 |_,_,_,_,.cons r t,s=>.cons r (Vals.append t s)
theorem Vals.take:∀{xs:b_} {us:gU} (n:Nat),Vals xs us->Vals (xs.take n) (us.take n)
 |_,_,0,_=>.nil
 |_,_,_+1,.nil=>.nil
 |_,_,n+1,.cons r t=>.cons r (Vals.take n t)
theorem Vals.drop:∀{xs:b_} {us:gU} (n:Nat),Vals xs us->Vals (xs.drop n) (us.drop n)
 |_,_,0,r=>r
 |_,_,_+1,.nil=>.nil
 |_,_,n+1,.cons _ t=>Vals.drop n t
def uu:Option V->Option jm->Prop
 |some v,some u=>RelV v u
 |none,none=>True
 |_,_=>False
def KV {κ:Type}:List (κ×V)->List (κ×jm)->Prop:=Paired λ(p:κ×V) (q:κ×jm)=>p.1=q.1/\RelV p.2 q.2
def kV:Key->V
 |.inl i=>.int i
 |.inr x=>.str x
inductive HO where
 |lst (xs:b_)
 |tup (xs:b_)
 |dK (cf:List (Key×V))|dT (cf:List (List Key×V))
 |set (S:Int->Bool) (n:Nat)
 |ins (C dx:ke) (fs:List (Str×V))
 |own (x:ke)
 |xd (fs:List (Str×V))
 |met (f x:ke)
 |rng (lo hi:Int)
 |MW (o:Obj) (u:HO)
 |tbl (ps:Array jm)
 |ext (φ:Heap->Prop)
abbrev Hp:=ke->Option HO
def upd (H:Hp)(a:ke)(o:HO):Hp:=λb=>if b=a then some o else H b
def aq {H:Hp}{a:ke}{o:HO}:upd H a o a=some o:=by unfold upd;rw[aj rfl]
def aF {H:Hp}{a b:ke}{o:HO}(h:b≠a):upd H a o b=H b:=by unfold upd;rw[ah h]
def eG {H:Hp}{a:ke}{o u:HO}:upd (upd H a o) a u=upd H a u:=by
 funext b;unfold upd;split<;>rfl
def hG {H:Hp}{a b:ke}{o u:HO}(h:H a=some o)(h':H b=some u)(d:o≠u):a≠b:=by
 intro e;subst e;rw[h] at h';exact d (bh h')
def aI {H:Hp}{a b:ke}{o:HO}(h:H a=some o)(h':H b=none):a≠b:=by
 intro e;subst e;rw[h] at h';cases h'
section
variable(P:bJ)(w:cz)
def ju (H:Hp)(h:Heap)(a:ke):HO->Prop
 |.lst xs=>xs.length<=bu/\∃(dg:gU) (n:Nat),Vals xs dg/\h.get? a=some {cls:=.type "list",data:=.seq dg.toArray n}
 |.tup xs=>xs.length<=bu/\∃dg:gU,Vals xs dg/\IsTup h a dg.toArray
 |.dK cf=>cf.length<=bu/\(a==oB)=false/\∃vs,KV cf vs/\h.DictOf (lK P w) a vs
 |.dT cf=>cf.length<=bu/\(a==oB)=false/\∃xs:List (List Key×ke×jm),
   Paired (λ(p:List Key×V) (q:List Key×ke×jm)=>p.1=q.1/\H q.2.1=some (.tup (p.1.map kV))/\RelV p.2 q.2.2) cf xs/\
   ∃o es ep,h.get? a=some o/\o.ExactDict/\o.data=.dict es ep/\es.toList=xs.map (entryOfKey (Oa (lK P w)))/\(xs.map (·.1)).Nodup
 |.set S n=>h.SetOf (intKind P w) a S n
 |.ins C dx fs=>H dx=some (.own a)/\fs.length<=1000/\dx≠a/\h.get? a=some (jO C dx)/\
   ∃mA,h.Ns1 dx mA/\(∀f,uu (fs.lookup f) (mA f))/\FK mA (fs.map (·.1))
 |.own _=>∃o,h.get? a=some o
 |.xd fs=>∃mA,h.Ns1 a mA/\∀f,uu (fs.lookup f) (mA f)
 |.rng lo hi=>∃t u v,h.get? a=some {cls:=.type "range",data:=.fields #[.int lo t,.int hi u,.int 1 v]}
 |.MW o u=>h.get? a=some o/\ju H h a u
 |.tbl ps=>h.get? a=some {cls:=.none,data:=.fields ps}
 |.met f x=>h.get? a=some (DL (.ref f) (.ref x))
 |.ext φ=>φ h/\(∃o,h.get? a=some o)/\∀h1 h2:Heap,φ h1->(∀o,h1.get? a=some o->h2.get? a=some o)->φ h2
def wK (H:Hp)(h:Heap):Prop:=∀a o,H a=some o->ju P w H h a o
end
section
variable{P:bJ}{w:cz}{H H':Hp}{h h':Heap}{a:ke}{o:HO}
theorem ju.lt (x:ju P w H h a o):a<h.objs.size:=by
 cases o with
 |lst xs=>obtain⟨_,_,_,_,e⟩:=x;exact Heap.lt_size e
 |tup xs=>obtain⟨_,_,_,p⟩:=x;exact p.lt
 |dK cf=>obtain⟨_,_,_,_,o,_,_,e,_⟩:=x;exact Heap.lt_size e
 |dT cf=>obtain⟨_,_,_,_,o,_,_,e,_⟩:=x;exact Heap.lt_size e
 |set S n=>obtain⟨o,_,_,_,e,_⟩:=x;exact Heap.lt_size e
 |ins C dx fs=>obtain⟨_,_,_,e,_⟩:=x;exact Heap.lt_size e
 |own y=>obtain⟨_,e⟩:=x;exact Heap.lt_size e
 |xd fs=>obtain⟨_,⟨_,_,_,e,_⟩,_⟩:=x;exact Heap.lt_size e
 |rng lo hi=>obtain⟨_,_,_,e⟩:=x;exact Heap.lt_size e
 |MW ob u=>obtain⟨e,_⟩:=x;exact Heap.lt_size e
 |tbl ps=>exact Heap.lt_size (show h.get? a=some _ from x)
 |met f y=>exact Heap.lt_size (show h.get? a=some _ from x)
 |ext φ=>obtain⟨_,⟨_,e⟩,_⟩:=x;exact Heap.lt_size e
theorem Paired.lR {α β:Type}{F G:α->β->Prop}:∀{ajV:List α} {ajW:List β},Paired F ajV ajW->(∀a b,F a b->G a b)->Paired G ajV ajW
 |_,_,.nil,_=>.nil
 |_,_,.cons r t,f=>.cons (f _ _ r) (Paired.lR t f)
def ju.Ac (x:ju P w H h a o)(k:∀b u,(b=a\/H b=some (.own a))->h.get? b=some u->h'.get? b=some u)
  (ho:∀b,H b=some (.own a)->H' b=some (.own a)) (ht:∀b xs,H b=some (.tup xs)->H' b=some (.tup xs)):ju P w H' h' a o:=by
 induction o with
 |lst xs=>obtain⟨z,dg,n,r,e⟩:=x;exact⟨z,dg,n,r,k _ _ (.inl rfl) e⟩
 |tup xs=>obtain⟨z,dg,r,ob,e,c⟩:=x;exact⟨z,dg,r,ob,k _ _ (.inl rfl) e,c⟩
 |dK cf=>obtain⟨z,y,vs,r,ob,es,ep,e,c⟩:=x;exact⟨z,y,vs,r,ob,es,ep,k _ _ (.inl rfl) e,c⟩
 |dT cf=>
  obtain⟨z,y,xs,r,ob,es,ep,e,c⟩:=x;exact⟨z,y,xs,Paired.lR r λp q z=>⟨z.1,ht _ _ z.2.1,z.2.2⟩,ob,es,ep,k _ _ (.inl rfl) e,c⟩
 |set S n=>obtain⟨ob,es,ep,t,e,c⟩:=x;exact⟨ob,es,ep,t,k _ _ (.inl rfl) e,c⟩
 |ins C dx fs=>
  obtain⟨d,z,ne,e,mA,⟨od,es,ep,e2,c⟩,r⟩:=x;exact⟨ho _ d,z,ne,k _ _ (.inl rfl) e,mA,⟨od,es,ep,k _ _ (.inr d) e2,c⟩,r⟩
 |own y=>obtain⟨ob,e⟩:=x;exact⟨ob,k _ _ (.inl rfl) e⟩
 |xd fs=>obtain⟨mA,⟨od,es,ep,e,c⟩,r⟩:=x;exact⟨mA,⟨od,es,ep,k _ _ (.inl rfl) e,c⟩,r⟩
 |rng lo hi=>obtain⟨t,u,v,e⟩:=x;exact⟨t,u,v,k _ _ (.inl rfl) e⟩
 |MW ob u ih=>obtain⟨e,q⟩:=x;exact⟨k _ _ (.inl rfl) e,ih q⟩
 |tbl ps=>
  have e:h.get? a=some {cls:=.none,data:=.fields ps}:=x;show h'.get? a=some {cls:=.none,data:=.fields ps};exact k a _ (.inl rfl) e
 |met f y=>
  have e:h.get? a=some (DL (.ref f) (.ref y)):=x;show h'.get? a=some (DL (.ref f) (.ref y));exact k a _ (.inl rfl) e
 |ext φ=>obtain⟨p,⟨o,e⟩,st⟩:=x;exact⟨st _ _ p λo q=>k _ _ (.inl rfl) q,⟨o,k _ _ (.inl rfl) e⟩,st⟩
def wK.lt (x:wK P w H h)(e:H a=some o):a<h.objs.size:=(x a o e).lt
def wK.fresh (x:wK P w H h)(e:h.objs.size<=a):H a=none:=by
 cases q:H a with
 |none=>rfl
 |some u=>exact absurd (a_ (x.lt q) e) (bX _)
def wK.kept (x:wK P w H h)(k:∀b u,h.get? b=some u->h'.get? b=some u):wK P w H h':=λa o e=>
 (x a o e).Ac (λb u _ q=>k b u q) (λ_ q=>q) λ_ _ q=>q
def wK.laid (x:wK P w H h)(k:∀b u,h.get? b=some u->h'.get? b=some u)(hp:h.objs.size<=a)(new:ju P w (upd H a o) h' a o):wK P w (upd H a o) h':=λb u e=>by
 have hn:=x.fresh hp;by_cases hb:b=a
 .subst hb;rw[aq] at e;cases e;exact new
 .rw[aF hb] at e;exact(x b u e).Ac (λc v _ q=>k c v q) (λc q=>by rw[aF (aI q hn)];exact q) λc xs q=>by rw[aF (aI q hn)];exact q
end
def Rd (H:Hp)(a:ke)(u:HO):Prop:=H a=some u\/∃o,H a=some (.MW o u)
def Rd.ok {P:bJ}{w:cz}{H:Hp}{h:Heap}{a:ke}{u:HO}(r:Rd H a u)(x:wK P w H h):ju P w H h a u:=by
 rcases r with r|⟨o,r⟩
 .exact x a u r
 .obtain⟨_,q⟩:=x a _ r;exact q
def Mut:Option HO->Prop
 |some (.lst _)=>True
 |some (.dK _)=>True
 |some (.dT _)=>True
 |some (.set _ _)=>True
 |some (.ins _ _ _)=>True
 |some (.ext _)=>True
 |_=>False
section
variable{P:bJ}{w:cz}{H:Hp}{h h':Heap}{x e:ke}{o':HO}
def wK.write (ok:wK P w H h)(mu:Mut (H x))(he:e=x\/H e=some (.own x))(k:∀b u,b≠e->h.get? b=some u->h'.get? b=some u)(heo:∃u,h'.get? e=some u)
  (new:ju P w (upd H x o') h' x o'):wK P w (upd H x o') h':=λb u q=>by
 have akd:∀c y,H c=some (.own y)->c≠x:=λc y r z=>by subst z;rw[r] at mu;exact mu
 have apB:∀c xs,H c=some (.tup xs)->c≠x:=λc xs r z=>by subst z;rw[r] at mu;exact mu
 by_cases hb:b=x
 .subst hb;rw[aq] at q;cases q;exact new
 .rw[aF hb] at q;by_cases hbe:b=e
  .have q':H b=some (.own x):=by
    rcases he with z|z
    .exact absurd (hbe.trans z) hb
    .rw[hbe];exact z
   rw[q] at q';cases q';obtain⟨v,hv⟩:=heo;exact⟨v,by rw[hbe];exact hv⟩
  .refine(ok b u q).Ac (λc v hc r=>k c v ?_ r) (λc r=>by rw[aF (akd c b r)];exact r) λc xs r=>by rw[aF (apB c xs r)];exact r
   rcases hc with rfl|hc
   .exact hbe
   .rintro rfl;rcases he with z|z
    .exact akd c b hc z
    .rw[hc] at z;cases z;exact hb rfl
end
structure Un (fs ex:pG)(H H':Hp)(h h':Heap):Prop where
 keep:∀b o,h.get? b=some o->H b=none->b∉fs->b∉ex->h'.get? b=some o
 slot:∀b o,h.get? b=some o->H b=none->b∈fs->b∉ex->∃sl,h'.get? b=some {o with slots:=sl}
 free:∀b o,h.get? b=some o->H b=none->b∉ex->H' b=none
 there:∀b o,h.get? b=some o->b∉ex->∃o',h'.get? b=some o'
 tups:∀b xs,H b=some (.tup xs)->H' b=some (.tup xs)
 frzs:∀b o u,H b=some (.MW o u)->H' b=some (.MW o u)
 tbls:∀b ps,H b=some (.tbl ps)->∃more,H' b=some (.tbl (ps++more))
section
variable{fs fs' ex ex':pG}{H H1 H2:Hp}{h h1 h2 h':Heap}{a x e:ke}{o:HO}
def Un.any (u:Un fs ex H H1 h h1){b:ke}{ob:Obj}(q:h.get? b=some ob)(n:H b=none)(hx:b∉ex):∃sl,h1.get? b=some {ob with slots:=sl}:=by
 by_cases hb:b∈fs
 .exact u.slot b ob q n hb hx
 .exact⟨ob.slots,u.keep b ob q n hb hx⟩
def Un.kept (k:∀b u,h.get? b=some u->h'.get? b=some u):Un fs ex H H h h':=
 ⟨λb ob q _ _ _=>k b ob q,λb ob q _ _ _=>⟨ob.slots,k b ob q⟩,λ_ _ _ n _=>n,λb ob q _=>⟨ob,k b ob q⟩,λ_ _ q=>q,λ_ _ _ q=>q,λ_ ps q=>⟨#[],by rw[q];simp⟩⟩
def Un.refl:Un fs ex H H h h:=Un.kept λ_ _ q=>q
def Un.laid (k:∀b u,h.get? b=some u->h'.get? b=some u)(hp:h.objs.size<=a)(hn:H a=none):Un fs ex H (upd H a o) h h' where
 keep:=λb u q _ _ _=>k b u q
 slot:=λb u q _ _ _=>⟨u.slots,k b u q⟩
 free:=λb u q n _=>by rw[aF (cH (a_ (Heap.lt_size q) hp))];exact n
 there:=λb u q _=>⟨u,k b u q⟩
 tups:=λb xs q=>by rw[aF (aI q hn)];exact q
 frzs:=λb u xs q=>by rw[aF (aI q hn)];exact q
 tbls:=λb ps q=>⟨#[],by rw[aF (aI q hn),q];simp⟩
def Un.write (mu:Mut (H x))(he:e=x\/H e=some (.own x))(k:∀b u,b≠e->h.get? b=some u->h'.get? b=some u)(heo:∃u,h'.get? e=some u):Un fs ex H (upd H x o) h h':=by
 have hx:∀b,H b=none->b≠x:=λb n z=>by subst z;rw[n] at mu;exact mu
 have hb:∀b,H b=none->b≠e:=λb n z=>by
  subst z;rcases he with r|r
  .exact hx b n r
  .rw[n] at r;cases r
 have hm:∀b u,H b=some u->¬Mut (some u)->b≠x:=λb u q nm z=>by subst z;rw[q] at mu;exact nm mu
 refine⟨λb u q n _ _=>k b u (hb b n) q,λb u q n _ _=>⟨u.slots,k b u (hb b n) q⟩,λb u q n _=>by rw[aF (hx b n)];exact n,λb u q _=>?_,
  λb xs q=>by rw[aF (hm b _ q λz=>z)];exact q,λb u xs q=>by rw[aF (hm b _ q λz=>z)];exact q,λb ps q=>⟨#[],by rw[aF (hm b _ q λz=>z),q];simp⟩⟩
 by_cases hbe:b=e
 .subst hbe;exact heo
 .exact⟨u,k b u hbe q⟩
end
def trk (h:Heap)(H:Hp):pG:=(aJ h.objs.size).filter λa=>(H a).isSome
def M0 (h:Heap)(H:Hp):Heap:=PySem.W.hideAll h (trk h H)
def Vw (h:Heap)(H:Hp):(M0 h H).objs.size=h.objs.size:=PySem.W.hideAll_size _ _
def Yj {h:Heap}{H:Hp}{b:ke}{o:Obj}(e:h.get? b=some o)(n:H b=none):(M0 h H).get? b=some o:=
 PySem.W.hideAll_get _ e λhm=>by
  have q:(H b).isSome=true:=(oW.mp hm).2;rw[n] at q;simp at q
def ach {h:Heap}{H:Hp}{b:ke}{o:Obj}(e:(M0 h H).get? b=some o):h.get? b=some o/\H b=none:=by
 have e':h.get? b=some o:=PySem.W.of_hideAll (trk h H) e;refine⟨e',?_⟩;cases q:H b with
 |none=>rfl
 |some x=>
  have hm:b∈trk h H:=oW.mpr ⟨cJ.mpr (Heap.lt_size e'),by simp[q]⟩;have z:(M0 h H).get? b=none:=PySem.W.hideAll_none (trk h H) hm;rw[z] at e;cases e
open PySem PySem.Spec PyProof.Rows
structure Mod (K:au)(mg:sO)(lQ:Heap):Prop where
 uD:K.In lQ
 glob:lQ.Ns mn mg
 blt:∃mb,lQ.Ns ah5 mb/\∀x:Str,x≠"__name__"->mb x=rL x
 nolimit:lQ.NoLimit
structure Cx where
 prog:bJ
 w:cz
 K:au
 mg:sO
 lQ:Heap
 A:Around
 N:mX
 s_0:aL
 H_0:Hp
 env:Env
 outer:List Env
 stack:List Env
 ex:pG
 fn:Str->Bool
 calm:Bool
 pn:jz
 xe:kc
abbrev Su (X:Cx)(e:Expr)(es:List Expr):Prop:=dv (e::es) X.env=(false,eval e X.env)::dv es X.env
abbrev sHb (X:Cx)(p:Pos)(es:List Expr):Prop:=(m9 p (dv es X.env)).any (·.1)=false
abbrev DD (x:Str):Prop:=(x==("__debug__":Str))=false
abbrev Uq (X:Cx)(x:Str):Prop:=X.fn x=true\/X.env.scope.names.lookup x=some .local
def Gh (l:List Env):pG:=l.filterMap (·.frame)
abbrev Cx.fs (X:Cx):pG:=Gh X.outer
def Vis (sc:nA)(x:Str):Prop:=sc.names.lookup x=some .local\/sc.names.lookup x=some .cell\/sc.names.lookup x=some .free
def Loc (sc:nA)(x:Str):Prop:=sc.names.lookup x=some .local\/sc.names.lookup x=some .cell
def Look (env:Env)(h:Heap)(m:sO)(x:Str)(u:jm):Prop:=
 (env.kindOf x=some .local/\m x=some u)\/((env.kindOf x=some .cell\/env.kindOf x=some .free)/\∃c,env.cells.lookup x=some c/\h.IsCell c (some u))
structure Cx.Ok (X:Cx):Prop where
 mod:Mod X.K X.mg X.lQ
 kind:X.env.scope.kind=.function
 glob:X.env.globals=mn
 blt:X.env.builtins=ah5
 above:X.s_0.heap.objs.size<=X.env.locals
 inj:∀x y c,X.env.cells.lookup x=some c->X.env.cells.lookup y=some c->x=y
 has:∀x,(X.env.kindOf x=some .cell\/X.env.kindOf x=some .free)->∃c,X.env.cells.lookup x=some c
 cab:∀x c,X.fn x=true->X.env.cells.lookup x=some c->X.s_0.heap.objs.size<=c
 hd:X.calm=true->X.A.handled=none
 frames:X.A.frames=some X.stack
 stk:X.stack=X.outer\/(X.stack=X.env::X.outer/\X.env.frame=some X.env.locals)
 exf:∀b∈X.ex,b≠X.env.locals/\∀x c,X.env.cells.lookup x=some c->c≠b
 bs:∀b o,X.lQ.get? b=some o->X.s_0.heap.get? b=some o/\X.H_0 b=none
 QX:X.lQ.objs.size<=X.s_0.heap.objs.size
 PJ:∀b o,X.lQ.get? b=some o->b∉X.ex
 O0:∀b∈X.ex,b∉X.fs
 yw:X.s_0.heap.FunFrames X.lQ X.outer
 QE:∀b∈X.fs,X.H_0 b=none
structure Inv (X:Cx)(aA:jz)(σ:List (Option V))(H:Hp)(s:aL):Prop where
 ok:X.Ok
 os:s.os=X.s_0.os
 bare:Gz s.gens
 lQ:Un X.fs X.ex X.H_0 H X.s_0.heap s.heap
 loc:∃m,s.heap.Ns X.env.locals m/\∀(i:Nat) (x:Str) (v:V),X.N[i]? =some x->σ[i]? =some (some v)->Vis X.env.scope x->∃u,RelV v u/\Look X.env s.heap m x u
 cell:∀x c,X.env.cells.lookup x=some c->∃v,s.heap.IsCell c v
 free:H X.env.locals=none
 pP:∀x c,X.env.cells.lookup x=some c->H c=none
 pin:∀p∈X.pn++aA,s.heap.get? p.1=some p.2/\H p.1=none/\p.1≠X.env.locals/\p.1∉X.fs/\∀v,p.2.data≠.cell v
 fV:wK X.prog X.w H s.heap
 len:σ.length=X.N.length
section
variable{X:Cx}{aA:jz}{σ:List (Option V)}{H H':Hp}{s:aL}{h':Heap}
def Cx.Ok.apu (ok:X.Ok){b:ke}{o:Obj}(e:X.lQ.get? b=some o):b∉X.fs:=λhb=>by
 have:=(ok.yw.mem hb).1;rw[e] at this;cases this
def Inv.bs (I:Inv X aA σ H s):∀b o,X.lQ.get? b=some o->s.heap.get? b=some o/\H b=none:=λb o e=>
 ⟨I.lQ.keep b o (I.ok.bs b o e).1 (I.ok.bs b o e).2 (I.ok.apu e) (I.ok.PJ b o e),I.lQ.free b o (I.ok.bs b o e).1 (I.ok.bs b o e).2 (I.ok.PJ b o e)⟩
def Inv.bk (I:Inv X aA σ H s):∀b o,X.lQ.get? b=some o->s.heap.get? b=some o:=λb o e=>(I.bs b o e).1
def Inv.mod (I:Inv X aA σ H s):Mod X.K X.mg X.lQ:=I.ok.mod
def Inv.zf (I:Inv X aA σ H s):X.K.In s.heap:=I.ok.mod.uD.keeps I.bk
def Inv.fr (I:Inv X aA σ H s):∃m,Fr X.lQ X.env.locals s.heap m:=
 let ⟨m,hn,_⟩:=I.loc
 ⟨m,hn,I.bk,bt I.ok.QX I.ok.above⟩
def Inv.lt (I:Inv X aA σ H s):X.env.locals<s.heap.objs.size:=let ⟨_,hn,_⟩:=I.loc;hn.lt
def Inv.sz (I:Inv X aA σ H s):X.s_0.heap.objs.size<=s.heap.objs.size:=bt I.ok.above (cG I.lt)
def Inv.apv (I:Inv X aA σ H s){a:ke}(h:s.heap.objs.size<=a):a∉X.fs:=λhb=>by
 obtain⟨_,o,ho,_⟩:=I.ok.yw.mem hb;exact absurd (a_ (Heap.lt_size ho) (bt I.sz h)) (bX _)
def Inv.cne (I:Inv X aA σ H s):∀x c,X.env.cells.lookup x=some c->c≠X.env.locals:=λx c e z=>by
 obtain⟨v,o,ho,hd⟩:=I.cell x c e;obtain⟨m,⟨o',es,ep,WN,hd',_⟩,_⟩:=I.loc;rw[z,WN] at ho;cases ho;rw[hd'] at hd;cases hd
theorem Inv.yw (I:Inv X aA σ H s):s.heap.FunFrames X.lQ X.outer:=by
 have all:∀(l:List Env),(∀b∈Gh l,b∈X.fs)->X.s_0.heap.FunFrames X.lQ l->s.heap.FunFrames X.lQ l:=by
  intro l;induction l with
  |nil=>intro _ _;trivial
  |cons env r ih=>
   intro hs hl;obtain⟨hk,⟨L,o,hf,hn,ho,hd⟩,hr⟩:=hl;have hL:L∈X.fs:=hs L (by unfold Gh;rw[Dy,hf];exact aU);obtain⟨sl,e⟩:=I.lQ.slot L o ho (I.ok.QE L hL) hL λz=>I.ok.O0 L z hL;exact⟨hk,⟨L,_,hf,hn,e,hd⟩,ih (λb hb=>hs b (by unfold Gh;rw[Dy,hf];exact aP _ hb)) hr⟩
 exact all X.outer (λ_ hb=>hb) I.ok.yw
def Inv.stack (I:Inv X aA σ H s):s.heap.FunFrames X.lQ X.stack:=by
 rcases I.ok.stk with e|⟨e,hf⟩
 .rw[e];exact I.yw
 .rw[e];obtain⟨m,hn,_⟩:=I.loc;refine .cons (by rw[I.ok.kind];decide) hf hn ?_ I.yw;exact Heap.get?_none_of_le (bt I.ok.QX I.ok.above)
def Inv.NP (I:Inv X aA σ H s):∀b∈Gh X.stack,b∈X.env.locals::X.fs:=λb hb=>by
 rcases I.ok.stk with e|⟨e,hf⟩
 .rw[e] at hb;exact aP _ hb
 .rw[e] at hb;unfold Gh at hb;rw[Dy,hf] at hb;exact hb
def Inv.NO (I:Inv X aA σ H s):∀b∈Gh X.stack,H b=none:=λb hb=>by
 rcases bo.mp (I.NP b hb) with e|hb
 .rw[e];exact I.free
 .obtain⟨_,o,ho,_⟩:=I.ok.yw.mem hb;exact I.lQ.free b o ho (I.ok.QE b hb) λz=>I.ok.O0 b z hb
def Inv.step {g':Array AK}{t':Nat}{d':aam}{ch:pG}(I:Inv X aA σ H s)
  (hch:∀b∈ch,(b∈X.ex\/X.s_0.heap.objs.size<=b)/\b≠X.env.locals/\(∀x c,X.env.cells.lookup x=some c->c≠b)/\∀p∈X.pn++aA,p.1≠b)
  (keep:∀b o,b≠X.env.locals->b∉X.fs->b∉ch->s.heap.get? b=some o->H b=none->h'.get? b=some o)
  (slot:∀b o,b≠X.env.locals->b∈X.fs->b∉ch->s.heap.get? b=some o->H b=none->∃sl,h'.get? b=some {o with slots:=sl}) (free:∀b o,b∉ch->s.heap.get? b=some o->H b=none->H' b=none)
  (there:∀b o,b∉ch->s.heap.get? b=some o->∃o',h'.get? b=some o')
  (tups:∀b xs,H b=some (.tup xs)->H' b=some (.tup xs)) (frzs:∀b o u,H b=some (.MW o u)->H' b=some (.MW o u)) (tbls:∀b ps,H b=some (.tbl ps)->∃more,H' b=some (.tbl (ps++more)))
  (ns:∀m,s.heap.Ns X.env.locals m->h'.Ns X.env.locals m) (fV:wK X.prog X.w H' h') (hg:Gz g'):
  Inv X aA σ H' {s with heap:=h',gens:=g',drawn:=d',toks:=t'}:=by
 have neL:∀b o,X.s_0.heap.get? b=some o->b≠X.env.locals:=λb o e=>cH (a_ (Heap.lt_size e) I.ok.above);have VH:∀b o,X.s_0.heap.get? b=some o->b∉X.ex->b∉ch:=λb o e hx hb=>by
  rcases(hch b hb).1 with z|z
  .exact hx z
  .exact absurd (a_ (Heap.lt_size e) z) (bX _)
 have cellK:∀x c,X.env.cells.lookup x=some c->∀v,s.heap.IsCell c v->h'.IsCell c v:=λx c e v ⟨o,ho,hd⟩=>by
  have nch:c∉ch:=λz=>(hch c z).2.2.1 x c e rfl;by_cases hc:c∈X.fs
  .obtain⟨sl,q⟩:=slot c o (I.cne x c e) hc nch ho (I.pP x c e);exact⟨_,q,hd⟩
  .exact⟨o,keep c o (I.cne x c e) hc nch ho (I.pP x c e),hd⟩
 refine⟨I.ok,I.os,hg,⟨λb o e n hb hx=>?_,λb o e n hb hx=>?_,λb o e n hx=>?_,λb o e hx=>?_,λb xs e=>tups b xs (I.lQ.tups b xs e),λb o xs e=>frzs b o xs (I.lQ.frzs b o xs e),λb ps e=>?_⟩,?_,λx c e=>?_,?_,λx c e=>?_,λp hp=>?_,fV,I.len⟩
 .exact keep b o (neL b o e) hb (VH b o e hx) (I.lQ.keep b o e n hb hx) (I.lQ.free b o e n hx)
 .obtain⟨sl,e1⟩:=I.lQ.slot b o e n hb hx;obtain⟨sl',e2⟩:=slot b _ (neL b o e) hb (VH b o e hx) e1 (I.lQ.free b o e n hx);exact⟨sl',e2⟩
 .obtain⟨o',e1⟩:=I.lQ.there b o e hx;exact free b o' (VH b o e hx) e1 (I.lQ.free b o e n hx)
 .obtain⟨o',e1⟩:=I.lQ.there b o e hx;exact there b o' (VH b o e hx) e1
 .obtain⟨m1,e1⟩:=I.lQ.tbls b ps e;obtain⟨m2,e2⟩:=tbls b _ e1;exact⟨m1++m2,by rw[e2,Array.append_assoc]⟩
 .obtain⟨m,hn,hl⟩:=I.loc;refine⟨m,ns m hn,λi x v e1 e2 e3=>?_⟩;obtain⟨u,r,l⟩:=hl i x v e1 e2 e3;refine⟨u,r,?_⟩;rcases l with l|⟨k,c,e,z⟩
  .exact .inl l
  .exact .inr ⟨k,c,e,cellK x c e _ z⟩
 .obtain⟨v,z⟩:=I.cell x c e;exact⟨v,cellK x c e v z⟩
 .obtain⟨m,⟨o,_,_,ho,_⟩,_⟩:=I.loc;exact free _ o (λz=>(hch _ z).2.1 rfl) ho I.free
 .obtain⟨v,o,ho,hd⟩:=I.cell x c e;exact free c o (λz=>(hch c z).2.2.1 x c e rfl) ho (I.pP x c e)
 .obtain⟨e,n,ne,nf,d⟩:=I.pin p hp;have nch:p.1∉ch:=λz=>(hch p.1 z).2.2.2 p hp rfl;exact⟨keep p.1 p.2 ne nf nch e n,free p.1 p.2 nch e n,ne,nf,d⟩
def Inv.un {t':Nat}(I:Inv X aA σ H s)(u:Un X.fs [] H H' s.heap h')(fV:wK X.prog X.w H' h'):Inv X aA σ H' {s with heap:=h',toks:=t'}:=by
 obtain⟨m,⟨o,es,ep,ho,r⟩,_⟩:=id I.loc;obtain⟨sl,hL⟩:=u.any ho I.free (by simp);exact I.step (g':=s.gens) (d':=s.drawn) (ch:=[]) (λ_ z=>nomatch z) (λb o _ hb _ e n=>u.keep b o e n hb (by simp)) (λb o _ hb _ e n=>u.slot b o e n hb (by simp)) (λb o _ e n=>u.free b o e n (by simp)) (λb o _ e=>u.there b o e (by simp)) u.tups u.frzs u.tbls (λm' hm=>by
  obtain⟨o',es',ep',WN,r'⟩:=hm;rw[ho] at WN;cases WN;exact⟨_,es',ep',hL,r'⟩) fV I.bare
def Inv.call {g':Array AK}{t':Nat}{d':aam}{ch:pG}(I:Inv X aA σ H s)(u:Un (Gh X.stack) ch H H' s.heap h')(fV:wK X.prog X.w H' h')(hg:Gz g')
  (hch:∀b∈ch,(b∈X.ex\/X.s_0.heap.objs.size<=b)/\b≠X.env.locals/\(∀x c,X.env.cells.lookup x=some c->c≠b)/\∀p∈X.pn++aA,p.1≠b):
  Inv X aA σ H' {s with heap:=h',gens:=g',drawn:=d',toks:=t'}:=by
 obtain⟨m,⟨o,es,ep,ho,r⟩,_⟩:=id I.loc;obtain⟨sl,hL⟩:=u.any ho I.free λz=>(hch _ z).2.1 rfl;exact I.step (ch:=ch) hch (λb o hL hb hc e n=>u.keep b o e n (λz=>(bo.mp (I.NP b z)).elim hL hb) hc) (λb o _ _ hc e n=>u.any e n hc) (λb o hc e n=>u.free b o e n hc) (λb o hc e=>u.there b o e hc) u.tups u.frzs u.tbls (λm' hm=>by
  obtain⟨o',es',ep',WN,r'⟩:=hm;rw[ho] at WN;cases WN;exact⟨_,es',ep',hL,r'⟩) fV hg
def Inv.turned {t':Nat}{it:ke}(I:Inv X aA σ H s)(k:∀b o,b≠it->s.heap.get? b=some o->h'.get? b=some o)(hn:H it=none)(hL:it≠X.env.locals)
  (h1:it∈X.ex\/X.s_0.heap.objs.size<=it) (h2:∀x c,X.env.cells.lookup x=some c->c≠it) (h3:∀p∈X.pn++aA,p.1≠it):Inv X aA σ H {s with heap:=h',toks:=t'}:=by
 have nit:∀b u,H b=some u->b≠it:=λb u e z=>by rw[z,hn] at e;cases e
 refine I.step (g':=s.gens) (d':=s.drawn) (ch:=[it]) (λb hb=>?_) (λb o _ _ hc e _=>k b o (λz=>hc (by simp[z])) e) (λb o _ _ hc e _=>⟨o.slots,k b o (λz=>hc (by simp[z])) e⟩) (λ_ _ _ _ n=>n)
  (λb o hc e=>⟨o,k b o (λz=>hc (by simp[z])) e⟩) (λ_ _ e=>e) (λ_ _ _ e=>e) (λb ps e=>⟨#[],by rw[e];simp⟩) (λm hm=>?_) (λb u e=>?_) I.bare
 .have e:b=it:=by simpa using hb
  subst e;exact⟨h1,hL,h2,h3⟩
 .obtain⟨o,es,ep,ho,r⟩:=hm;exact⟨o,es,ep,k _ o (eK hL) ho,r⟩
 .refine(I.fV b u e).Ac (λc v hc q=>k c v ?_ q) (λ_ q=>q) λ_ _ q=>q;rcases hc with z|z
  .rw[z];exact nit b u e
  .exact nit c _ z
def Inv.tok (I:Inv X aA σ H s)(t:Nat):Inv X aA σ H {s with toks:=t}:=I.un (h':=s.heap) (t':=t) Un.refl I.fV
def Inv.kept {t':Nat}(I:Inv X aA σ H s)(k:∀b u,s.heap.get? b=some u->h'.get? b=some u):Inv X aA σ H {s with heap:=h',toks:=t'}:=I.un (Un.kept k) (I.fV.kept k)
def Inv.laid {a:ke}{o:HO}{t':Nat}(I:Inv X aA σ H s)(k:∀b u,s.heap.get? b=some u->h'.get? b=some u)(hp:s.heap.objs.size<=a)(new:ju X.prog X.w (upd H a o) h' a o):
  Inv X aA σ (upd H a o) {s with heap:=h',toks:=t'}:=I.un (Un.laid k hp (I.fV.fresh hp)) (I.fV.laid k hp new)
def Inv.write {x e:ke}{o:HO}{t':Nat}(I:Inv X aA σ H s)(mu:Mut (H x))(he:e=x\/H e=some (.own x))(k:∀b u,b≠e->s.heap.get? b=some u->h'.get? b=some u)(heo:∃u,h'.get? e=some u)
  (new:ju X.prog X.w (upd H x o) h' x o):Inv X aA σ (upd H x o) {s with heap:=h',toks:=t'}:=I.un (Un.write mu he k heo) (I.fV.write mu he k heo new)
def Inv.weak {gz:List (Option V)}(I:Inv X aA σ H s)(hl:gz.length=σ.length)(w:∀(i:Nat) v,gz[i]? =some (some v)->σ[i]? =some (some v)):Inv X aA gz H s:=
 ⟨I.ok,I.os,I.bare,I.lQ,let ⟨m,hn,hl'⟩:=I.loc;⟨m,hn,λi x v e1 e2 e3=>hl' i x v e1 (w i v e2) e3⟩,I.cell,I.free,I.pP,I.pin,I.fV,hl.trans I.len⟩
def Inv.Ui {LP:jz}(I:Inv X aA σ H s)(h:∀p∈LP,s.heap.get? p.1=some p.2/\H p.1=none/\p.1≠X.env.locals/\p.1∉X.fs/\∀v,p.2.data≠.cell v):Inv X LP σ H s:=
 ⟨I.ok,I.os,I.bare,I.lQ,I.loc,I.cell,I.free,I.pP,λp hp=>(de.mp hp).elim (λz=>I.pin p (mY _ z)) (h p),I.fV,I.len⟩
def IV {N:mX}(hN:N.Nodup){i j:Nat}{x:Str}(a:N[i]? =some x)(b:N[j]? =some x):i=j:=by
 obtain⟨h1,e1⟩:=aN.mp a;obtain⟨h2,e2⟩:=aN.mp b;exact(adz hN).mp (e1.trans e2.symm)
def LY {M:Model}{A:Around}{E:kc}{i:Nat}{x:Str}{v:V}{u:jm}{Q:Unit->aL->Prop}(I:Inv X aA σ H s)(hN:X.N.Nodup)(hi:X.N[i]? =some x)(hx:Loc X.env.scope x)(r:RelV v u)
  (h:∀s',Inv X aA (σ.set i (some v)) H s'->(∃a,Heap.SameBut a s.heap s'.heap/\(a=X.env.locals\/X.env.cells.lookup x=some a))->Q () s') (hf:autoParam (Uq X x) Z_t):bw M A (storeName X.env x u) Q E s:=by
 obtain⟨m,hn,hl⟩:=id I.loc;have afw:(X.env.scope.kind==.class||(X.env.scope.kind==.module&&X.env.locals !=X.env.globals))=false:=by rw[I.ok.kind];rfl
 have ajg:i<σ.length:=by rw[I.len];exact(aN.mp hi).1
 have cne:=I.cne;have tracked:∀{a:ke} {h':Heap},(∃o,s.heap.get? a=some o/\H a=none)->Heap.SameBut a s.heap h'->wK X.prog X.w H h':=λ{a h'} ha hs b ob e=>by
  obtain⟨_,_,ER⟩:=ha;refine(I.fV b ob e).Ac (λc w' hc q=>(hs.2 c ?_).trans q) (λ_ q=>q) λ_ _ q=>q;rintro rfl;rcases hc with rfl|hc
  .rw[ER] at e;cases e
  .rw[ER] at hc;cases hc
 rcases hx with hk|hk
 .refine wpAny_storeName_local hk hn (λh' hn' hs=>?_) afw;obtain⟨oL,_,_,hoL,_⟩:=id hn;refine h _ ⟨I.ok,I.os,I.bare,⟨λb o e n hb hx=>?_,λb o e n hb hx=>?_,I.lQ.free,λb o e hx=>?_,I.lQ.tups,I.lQ.frzs,I.lQ.tbls⟩,⟨_,hn',λj y v' e1 e2 e3=>?_⟩,λy c e=>?_,I.free,I.pP,λp hp=>?_,tracked ⟨oL,hoL,I.free⟩ hs,by simpa using I.len⟩ ⟨_,hs,.inl rfl⟩
  .exact(hs.2 b (cH (a_ (Heap.lt_size e) I.ok.above))).trans (I.lQ.keep b o e n hb hx)
  .obtain⟨sl,e1⟩:=I.lQ.slot b o e n hb hx;exact⟨sl,(hs.2 b (cH (a_ (Heap.lt_size e) I.ok.above))).trans e1⟩
  .obtain⟨o',e1⟩:=I.lQ.there b o e hx;exact⟨o',(hs.2 b (cH (a_ (Heap.lt_size e) I.ok.above))).trans e1⟩
  .by_cases hj:j=i
   .subst hj;rw[hi] at e1;cases e1;rw[eF ajg] at e2;cases e2;exact⟨u,r,.inl ⟨hk,by simp⟩⟩
   .rw[iE (eK hj)] at e2;obtain⟨u',r',q⟩:=hl j y v' e1 e2 e3;refine⟨u',r',?_⟩;rcases q with⟨k,e⟩|⟨k,c,e,z⟩
    .refine .inl ⟨k,?_⟩;have:y≠x:=λe=>hj (IV hN e1 (e ▸ hi));simp[this,e]
    .exact .inr ⟨k,c,e,z.sameBut hs (cne y c e)⟩
  .obtain⟨w',z⟩:=I.cell y c e;exact⟨w',z.sameBut hs (cne y c e)⟩
  .obtain⟨e,n,ne,nf,d⟩:=I.pin p hp;exact⟨(hs.2 p.1 ne).trans e,n,ne,nf,d⟩
 .have hfn:X.fn x=true:=by
   rcases hf with z|z
   .exact z
   .rw[z] at hk;cases hk
  obtain⟨c,hc⟩:=I.ok.has x (.inl hk);obtain⟨w',z⟩:=I.cell x c hc;refine wpAny_storeName_cell I.ok.kind hk hc z (λh' hc' hs=>?_);obtain⟨oc,hoc,aoq⟩:=id z;refine h {s with heap:=h'} ⟨I.ok,I.os,I.bare,⟨λb o e n hb hx=>?_,λb o e n hb hx=>?_,I.lQ.free,λb o e hx=>?_,I.lQ.tups,I.lQ.frzs,I.lQ.tbls⟩,⟨m,hn.sameBut hs (eK (cne x c hc)),λj y v' e1 e2 e3=>?_⟩,λy c' e=>?_,I.free,I.pP,λp hp=>?_,tracked ⟨oc,hoc,I.pP x c hc⟩ hs,by simpa using I.len⟩ ⟨c,hs,.inr hc⟩
  .exact(hs.2 b (cH (a_ (Heap.lt_size e) (I.ok.cab x c hfn hc)))).trans (I.lQ.keep b o e n hb hx)
  .obtain⟨sl,e1⟩:=I.lQ.slot b o e n hb hx;exact⟨sl,(hs.2 b (cH (a_ (Heap.lt_size e) (I.ok.cab x c hfn hc)))).trans e1⟩
  .obtain⟨o',e1⟩:=I.lQ.there b o e hx;exact⟨o',(hs.2 b (cH (a_ (Heap.lt_size e) (I.ok.cab x c hfn hc)))).trans e1⟩
  .by_cases hj:j=i
   .subst hj;rw[hi] at e1;cases e1;rw[eF ajg] at e2;cases e2;exact⟨u,r,.inr ⟨.inl hk,c,hc,hc'⟩⟩
   .rw[iE (eK hj)] at e2;obtain⟨u',r',q⟩:=hl j y v' e1 e2 e3;refine⟨u',r',?_⟩;rcases q with q|⟨k,c',e,z'⟩
    .exact .inl q
    .refine .inr ⟨k,c',e,z'.sameBut hs ?_⟩;rintro rfl;exact hj (IV hN e1 (I.ok.inj _ _ _ e hc ▸ hi))
  .by_cases hcc:c'=c
   .subst hcc;exact⟨_,hc'⟩
   .obtain⟨w2,z2⟩:=I.cell y c' e;exact⟨w2,z2.sameBut hs hcc⟩
  .obtain⟨e,n,ne,nf,d⟩:=I.pin p hp;refine⟨(hs.2 p.1 ?_).trans e,n,ne,nf,d⟩;intro q;rw[q,hoc] at e;have q':oc=p.2:=bh e;exact d w' (by rw[<-q'];exact aoq)
def Di {M:Model}{A:Around}{E:kc}{i:Nat}{x:Str}{v:V}{u:jm}{Q:Unit->aL->Prop}(I:Inv X aA σ H s)(hN:X.N.Nodup)(hi:X.N[i]? =some x)(hx:Loc X.env.scope x)(r:RelV v u)
  (h:∀s',Inv X aA (σ.set i (some v)) H s'->Q () s') (hf:autoParam (Uq X x) Z_t):bw M A (storeName X.env x u) Q E s:=
 LY I hN hi hx r (λs' I' _=>h s' I') hf
def Inv.Xw {s':aL}{ch:pG}(I:Inv X aA σ H s)(ho:s'.os=s.os)(u:Un (Gh X.stack) ch H H' s.heap s'.heap)(fV:wK X.prog X.w H' s'.heap)(hg:Gz s'.gens)
  (hch:∀b∈ch,(b∈X.ex\/X.s_0.heap.objs.size<=b)/\b≠X.env.locals/\(∀x c,X.env.cells.lookup x=some c->c≠b)/\∀p∈X.pn++aA,p.1≠b):Inv X aA σ H' s':=by
 obtain⟨h',g',d',t',o'⟩:=s';have e:o'=s.os:=ho;subst e;exact I.call (g':=g') (t':=t') (d':=d') u fV hg hch
end
abbrev XK:=jm->Option ke->Hp->Prop
abbrev St:=List (Option V)
abbrev VK:=V->Hp->Prop
abbrev TE:=St->Hp->VK->Prop
abbrev TT:=St->Hp->(Bool->Hp->Prop)->Prop
abbrev TA:=St->Hp->(b_->Hp->Prop)->Prop
structure Ends where
 nx:St->Hp->Prop
 rt:VK
 bk:St->Hp->Prop:=λ_ _=>False
 ct:St->Hp->Prop:=λ_ _=>False
abbrev TS:=Ends->St->Hp->Prop
inductive EP (X:Cx)(aA:jz)(σ:St)(Q:VK)(u:jm)(s':aL):Prop|i v H'(_:Inv X aA σ H' s')(_:RelV v u)(_:Q v H')
inductive TP (X:Cx)(aA:jz)(σ:St)(Q:Bool->Hp->Prop)(b:Bool)(s':aL):Prop|i H'(_:Inv X aA σ H' s')(_:Q b H')
inductive AP (X:Cx)(aA:jz)(σ:St)(Q:b_->Hp->Prop)(us:gU)(s':aL):Prop|i vs H'(_:Inv X aA σ H' s')(_:Vals vs us)(_:Q vs H')
inductive GP (X:Cx)(aA:jz)(Q:St->Hp->Prop)(s:aL):Prop|i σ H(_:Inv X aA σ H s)(_:Q σ H)
inductive RP (X:Cx)(aA:jz)(Q:VK)(u:jm)(s:aL):Prop|i v σ H(_:Inv X aA σ H s)(_:RelV v u)(_:Q v H)
def SP (X:Cx)(aA:jz)(D:Ends)(f:Flow)(s':aL):Prop:=
 match f with
 |.next=>GP X aA D.nx s'
 |.brk=>GP X aA D.bk s'
 |.cont=>GP X aA D.ct s'
 |.ret u=>RP X aA D.rt u s'
def PE (X:Cx)(e:Expr)(t:TE):Prop:=
 ∀(aA:jz) (s:aL) (σ:St) (H:Hp) (Q:VK),Inv X aA σ H s->t σ H Q->bw (bA X.prog X.w) X.A (eval e X.env) (EP X aA σ Q) X.xe s
def PT (X:Cx)(e:Expr)(t:TT):Prop:=
 ∀(aA:jz) (s:aL) (σ:St) (H:Hp) (Q:Bool->Hp->Prop),Inv X aA σ H s->t σ H Q->bw (bA X.prog X.w) X.A (aa6 e X.env (eval e X.env)) (TP X aA σ Q) X.xe s
def PW (X:Cx)(e:Expr)(t:TT):Prop:=
 ∀(JN:Sem jm) (aA:jz) (s:aL) (σ:St) (H:Hp) (Q:Bool->Hp->Prop),Inv X aA σ H s->t σ H Q->bw (bA X.prog X.w) X.A (aa6 e X.env JN) (TP X aA σ Q) X.xe s
def PW.pt {X:Cx}{e:Expr}{t:TT}(h:PW X e t):PT X e t:=h _
def PA (X:Cx)(es:FD)(t:TA):Prop:=
 ∀(cN:Pos) (aA:jz) (s:aL) (σ:St) (H:Hp) (Q:b_->Hp->Prop),Inv X aA σ H s->t σ H Q->bw (bA X.prog X.w) X.A (spliced (m9 cN (dv es X.env))) (AP X aA σ Q) X.xe s
def PS (X:Cx)(st:Stmt)(t:TS):Prop:=
 ∀(aA:jz) (s:aL) (σ:St) (H:Hp) (D:Ends),Inv X aA σ H s->t D σ H->bw (bA X.prog X.w) X.A (exec st X.env) (SP X aA D) X.xe s
def Kc (X:Cx)(st:List Stmt)(t:TS):Prop:=
 ∀(aA:jz) (s:aL) (σ:St) (H:Hp) (D:Ends),Inv X aA σ H s->t D σ H->bw (bA X.prog X.w) X.A (execs st X.env) (SP X aA D) X.xe s
def je {α:Type}{t:Sem α}{Q Q':α->aL->Prop}{M:Model}{A:Around}{E:kc}{s:aL}(h:bw M A t Q E s)(hQ:∀a s,Q a s->Q' a s):bw M A t Q' E s:=dI h hQ λ_ _ x=>x
open PySem PySem.Spec PyProof.Rows
section
variable{X:Cx}
def bin {a b:Expr}{ta tb:TE}(ha:PE X a ta)(hb:PE X b tb){aA:jz}{s:aL}{σ:St}{H:Hp}{R:V->V->Hp->Prop}(I:Inv X aA σ H s)(h:ta σ H λx H1=>tb σ H1 λy H2=>R x y H2)
  {α:Type} {Q:α->aL->Prop} {f:jm->jm->Sem α}
  (hf:∀v u s2 x y H2,Inv X aA σ H2 s2->RelV x v->RelV y u->R x y H2->bw (bA X.prog X.w) X.A (f v u) Q X.xe s2):
  bw (bA X.prog X.w) X.A (eval a X.env) (λv ip=>bw (bA X.prog X.w) X.A (eval b X.env) (λu mR=>bw (bA X.prog X.w) X.A (f v u) Q X.xe mR) X.xe ip) X.xe s:=by
 refine je (ha aA s σ H _ I h) λv s1 ⟨x,H1,I1,r1,q1⟩=>?_;refine je (hb aA s1 σ H1 _ I1 q1) λu s2 ⟨y,H2,I2,r2,q2⟩=>?_;exact hf v u s2 x y H2 I2 r1 r2 q2
inductive Es (i:Nat)(σ:St)(H:Hp)(Q:VK):Prop|i v(_:σ[i]? =some (some v))(_:Q v H)
def tC (v:V):TE:=λ_ H Q=>Q v H
def agi {i:Nat}{x:Str}{cN:Pos}(hN:X.N[i]? =some x)(hv:Vis X.env.scope x)(hd:autoParam (DD x) Z_d)(WK:autoParam ((x==("__classdict__":Str))=false) Z_d):PE X (.Name x cN) (Es i):=by
 intro aA s σ H Q I h;obtain⟨v,e,h⟩:=h;obtain⟨m,hn,hl⟩:=I.loc;obtain⟨u,r,l⟩:=hl i x v hN e hv;have fin:EP X aA σ Q u s:=⟨v,H,I,r,h⟩;rcases l with⟨hk,hm⟩|⟨hk,c,hc,TR⟩
 .exact ah7 (aeJ I.ok.kind hk hn hm fin) hd
 .rcases hk with hk|hk
  .exact ah7 (ahc I.ok.kind hk hc TR fin) hd
  .exact ah7 (wpAny_loadName_free I.ok.kind hk hc TR fin WK) hd
def aK {i j cN}:PE X (.Constant (.int i) j cN) (tC (.int i)):=λ_ _ _ H _ I h=>wpAny_Constant_int ⟨.int i,H,I.tok _,⟨_,Z⟩,h⟩
def Za {b j cN}:PE X (.Constant (.bool b) j cN) (tC (.bl b)):=λ_ _ _ H _ I h=>Constant_bool ⟨.bl b,H,I,Z,h⟩
def Sb {j cN}:PE X (.Constant .none j cN) (tC .gS):=λ_ _ _ H _ I h=>JQ ⟨.gS,H,I,Z,h⟩
def Gl (X:Cx)(x:Str):Prop:=X.env.kindOf x=some .globalImplicit
def rV {E:kc}{aA:jz}{s:aL}{σ:St}{H:Hp}{x:Str}{u:jm}{cN:Pos}{Q:kc}(I:Inv X aA σ H s)(hg:Gl X x)(hm:X.mg x=some u)(h:Q u s)
  (hd:autoParam (DD x) Z_d):bw (bA X.prog X.w) X.A (eval (.Name x cN) X.env) Q E s:=
 Calls.Name_function_global I.ok.kind hg (Calls.loadGlobal_global (by rw[I.ok.glob];exact I.mod.glob.keeps I.bk) hm h) hd
def wu {E:kc}{aA:jz}{s:aL}{σ:St}{H:Hp}{x:Str}{u:jm}{cN:Pos}{Q:kc}(I:Inv X aA σ H s)(hg:Gl X x)(hm:X.mg x=none)(hv:rL x=some u)(h:Q u s)
  (hn:autoParam (x≠"__name__") Z_d) (hd:autoParam (DD x) Z_d):bw (bA X.prog X.w) X.A (eval (.Name x cN) X.env) Q E s:=by
 obtain⟨mb,h1,h2⟩:=I.mod.blt;exact Calls.Name_function_global I.ok.kind hg (Calls.loadGlobal_builtin (by rw[I.ok.glob];exact I.mod.glob.keeps I.bk) hm (by rw[I.ok.blt];exact h1.keeps I.bk) ((h2 x hn).trans hv) h) hd
def t5 {x:Str}{v:V}{u:jm}{cN:Pos}(hg:Gl X x)(hm:X.mg x=some u)(r:RelV v u)(hd:autoParam (DD x) Z_d):PE X (.Name x cN) (tC v):=
 λ_ _ _ H _ I h=>rV I hg hm ⟨v,H,I,r,h⟩ hd
variable{a b:Expr}{ta tb:TE}{cN:Pos}
def PC (X:Cx)(op:CmpOp)(a b:Expr)(t:TE):Prop:=
 ∀(aA:jz) (s:aL) (σ:St) (H:Hp) (Q:VK),Inv X aA σ H s->t σ H Q->
  bw (bA X.prog X.w) X.A (eval a X.env) (λv ip=>bw (bA X.prog X.w) X.A (eval b X.env) (λu mR=>bw (bA X.prog X.w) X.A (jg op v u) (EP X aA σ Q) X.xe mR) X.xe ip) X.xe s
def YW (b:Expr){op:CmpOp}(h:op≠.In)(h2:op≠.NotIn):pS op b=false:=by
 have e1:(op==CmpOp.In)=false:=by cases op<;>first|rfl|exact absurd rfl h
 have e2:(op==CmpOp.NotIn)=false:=by cases op<;>first|rfl|exact absurd rfl h2
 cases b<;>simp[pS,e1,e2]
def aqn (ta:TE):TE:=λσ H Q=>ta σ H λx H1=>Q (.bl (decide (x=.gS))) H1
def RelV.YX {x:V}{v:jm}(r:RelV x v):(v==Value.none)=decide (x=.gS):=by
 cases x with
 |gS=>cases r;rfl
 |bl _=>cases r;rfl
 |int _=>obtain⟨t,rfl⟩:=r;rfl
 |str _=>obtain⟨t,rfl⟩:=r;rfl
 |EH _=>obtain⟨t,rfl⟩:=r;rfl
 |flt _=>obtain⟨t,rfl⟩:=r;rfl
 |ref _=>cases r;rfl
 |ty _=>cases r;rfl
def Y9 {j xA}(ha:PE X a ta):PC X .Is a (.Constant .none j xA) (aqn ta):=by
 intro aA s σ H Q I h;refine je (ha aA s σ H _ I h) λv s1 ⟨x,H1,I1,r1,q1⟩=>?_;exact JQ (is_none_gen ⟨.bl _,H1,I1,by rw[r1.YX];rfl,q1⟩)
inductive tBK (Q:Bool->Hp->Prop)(x:V)(H1:Hp):Prop|i c(_:x=.bl c)(_:Q c H1)
def tB (t:TE):TT:=λσ H Q=>t σ H (tBK Q)
def Si {op:CmpOp}{t:TE}(h:PC X op a b t)(h1:pS op b=false:=by first|exact YW _ (by decide) (by decide)|rfl):PT X (.Compare a [op] [b] cN) (tB t):=by
 intro aA s σ H Q I hw;refine adu (je (h aA s σ H _ I hw) λv s1 h1=>je h1 λu s2 h2=>je h2 λc s3 ⟨x,H1,I1,r1,q1⟩=>?_) h1;obtain⟨d,rfl,q⟩:=q1;cases r1;exact ku ⟨H1,I1,q⟩
def Bu {e:Expr}{t:TE}(h:PE X e t)(he:autoParam (∀JN,aa6 e X.env JN=(do let v<-JN;BR e.pos;vw [v] (truthy v))) Z_t):PT X e (tB t):=by
 intro aA s σ H Q I hw;refine isTrue_plain (je (h aA s σ H _ I hw) λv s1 ⟨x,H1,I1,r1,q1⟩=>?_) (he _);obtain⟨d,rfl,q⟩:=q1;cases r1;exact ku ⟨H1,I1,q⟩
variable{tA tB':TT}{rest:FD}
def tOr (t u:TT):TT:=λσ H Q=>t σ H λc H1=>if c=true then Q true H1 else u σ H1 Q
def aqp (t:TT):TT:=λσ H Q=>t σ H λc H1=>Q (!c) H1
def yP (ha:PT X a tA):PW X (.BoolOp .Or [a] cN) tA:=by
 intro wh aA s σ H Q I h;refine isTrue_or (je (ha aA s σ H Q I h) λc s1 e=>?_);cases c with
 |false=>exact isTrue_or_nil e
 |true=>exact e
def yO (ha:PT X a tA)(hb:PW X (.BoolOp .Or (b::rest) cN) tB'):PW X (.BoolOp .Or (a::b::rest) cN) (tOr tA tB'):=by
 intro wh aA s σ H Q I h;refine isTrue_or (je (ha aA s σ H _ I h) λc s1 ⟨H1,I1,q1⟩=>?_);cases c with
 |true=>exact⟨H1,I1,q1⟩
 |false=>exact hb wh aA s1 σ H1 Q I1 q1
def Nz (ha:PT X a tA):PT X (.UnaryOp .Not a cN) (aqp tA):=by
 intro aA s σ H Q I h;exact isTrue_not (dI (ha aA s σ H (λc H1=>Q (!c) H1) I h) (λ_ _ ⟨a,b,c⟩=>⟨a,b,c⟩) λ_ _ x=>x)
inductive agS (tb:TE)(σ:St)(Q:VK)(x:V)(H1:Hp):Prop|i c(_:x=.bl c)(_:if c=true then tb σ H1 Q else Q (.bl false) H1)
def akP (ta tb:TE):TE:=λσ H Q=>ta σ H (agS tb σ Q)
def Ze {op}{t:TE}(h:PE X a t):PE X (.BoolOp op [a] cN) t:=λaA s σ H Q I hw=>BoolOp_one (h aA s σ H Q I hw)
def Y_ (ha:PE X a ta)(hb:PE X (.BoolOp .And (b::rest) cN) tb):PE X (.BoolOp .And (a::b::rest) cN) (akP ta tb):=by
 intro aA s σ H Q I h;refine BoolOp_and (je (ha aA s σ H _ I h) λv s1 ⟨x,H1,I1,r1,q1⟩=>?_);obtain⟨c,rfl,q1⟩:=q1;cases r1;refine ku ?_;cases c with
 |true=>exact hb aA s1 σ H1 Q I1 q1
 |false=>exact⟨.bl false,H1,I1,Z,q1⟩
def tIf (t:TT)(ta tb:TE):TE:=λσ H Q=>t σ H λc H1=>if c=true then ta σ H1 Q else tb σ H1 Q
def qK {c:Expr}(hc:PT X c tA)(ha:PE X a ta)(hb:PE X b tb):PE X (.IfExp c a b cN) (tIf tA ta tb):=by
 intro aA s σ H Q I h;refine wpAny_IfExp (je (hc aA s σ H _ I h) λd s1 ⟨H1,I1,q1⟩=>?_);cases d with
 |true=>exact ha aA s1 σ H1 Q I1 q1
 |false=>exact hb aA s1 σ H1 Q I1 q1
end
open PySem PySem.Spec PyProof.Rows
def nN (K:au)(H:Hp)(a:ke)(xs:b_):Prop:=
 Rd H a (.lst xs)\/
  ∃(o:Obj) (dg:Array jm) (n:Nat),K.lookup a=some o/\o.cls=.type "list"/\o.dict=none/\o.data=.seq dg n/\dg.size<=bu/\Vals xs dg.toList
def Ml (K:au)(H:Hp)(a:ke)(xs:b_):Prop:=
 Rd H a (.tup xs)\/
  ∃(o:Obj) (dg:Array jm) (n:Nat),K.lookup a=some o/\o.cls=.type "tuple"/\o.data=.seq dg n/\dg.size<=bu/\Vals xs dg.toList
def am3:jm->Option V
 |.none=>some .gS
 |.bool b=>some (.bl b)
 |.int i _=>some (.int i)
 |.str x _=>some (.str x)
 |.bytes b _=>some (.EH b)
 |.float b _=>some (.flt b)
 |.ref a=>some (.ref a)
 |.type n=>some (.ty n)
 |_=>none
def RelV.abs {x:V}{u:jm}(r:RelV x u):am3 u=some x:=by
 cases x with
 |gS=>cases r;rfl
 |bl _=>cases r;rfl
 |int _=>obtain⟨t,rfl⟩:=r;rfl
 |str _=>obtain⟨t,rfl⟩:=r;rfl
 |EH _=>obtain⟨t,rfl⟩:=r;rfl
 |flt _=>obtain⟨t,rfl⟩:=r;rfl
 |ref _=>cases r;rfl
 |ty _=>cases r;rfl
def RelV.inj {x y:V}{u:jm}(r:RelV x u)(q:RelV y u):x=y:=bh (r.abs.symm.trans q.abs)
theorem Vals.inj:∀{xs ys:b_} {us:gU},Vals xs us->Vals ys us->xs=ys
 |_,_,_,.nil,.nil=>rfl
 |_,_,_,.cons r t,.cons r' t'=>by rw[r.inj r',Vals.inj t t']
section
variable{X:Cx}{aA:jz}{σ:St}{H:Hp}{s:aL}{a:ke}{xs ys:b_}
def nN.of {K:au}(h:H a=some (.lst xs)):nN K H a xs:=.inl (.inl h)
def Inv.list (I:Inv X aA σ H s)(h:nN X.K H a xs):∃dg:gU,Vals xs dg/\PlainL s.heap a dg.toArray/\xs.length<=bu:=by
 rcases h with h|⟨o,dg,n,hk,hc,hd,hs,hz,r⟩
 .obtain⟨z,dg,n,r,e⟩:=h.ok I.fV;exact⟨dg,r,⟨_,n,e,Z,Z,Z⟩,z⟩
 .refine⟨dg.toList,r,⟨o,n,I.zf a o hk,hc,hd,by simpa using hs⟩,?_⟩;have e:=r.length;simp only[Wm] at e;lia
def Inv.tuple (I:Inv X aA σ H s)(h:Ml X.K H a xs):∃dg:gU,Vals xs dg/\IsTup s.heap a dg.toArray/\xs.length<=bu:=by
 rcases h with h|⟨o,dg,n,hk,hc,hs,hz,r⟩
 .obtain⟨z,dg,r,p⟩:=h.ok I.fV;exact⟨dg,r,p,z⟩
 .refine⟨dg.toList,r,⟨o,I.zf a o hk,hc,n,by simpa using hs⟩,?_⟩;have e:=r.length;simp only[Wm] at e;lia
def Inv.yA (I:Inv X aA σ H s)(h:nN X.K H a xs)(h':nN X.K H a ys):xs=ys:=by
 obtain⟨dg,r,⟨o,n,e,_,_,d⟩,_⟩:=I.list h;obtain⟨Gi,r',⟨o',n',e',_,_,d'⟩,_⟩:=I.list h';rw[e] at e';cases e';rw[d] at d';injection d' with d1 _
 have:dg=Gi:=by simpa using congrArg ah9 d1
 subst this;exact r.inj r'
end
abbrev Cx.vq (X:Cx)(E:kc):Cx:={X with xe:=E}
abbrev Cx.nox (X:Cx):Cx:=X.vq λ_ _=>False
def Cx.Ok.vq {X:Cx}(ok:X.Ok)(E:kc):(X.vq E).Ok:=
 ⟨ok.mod,ok.kind,ok.glob,ok.blt,ok.above,ok.inj,ok.has,ok.cab,ok.hd,ok.frames,ok.stk,ok.exf,ok.bs,ok.QX,ok.PJ,ok.O0,ok.yw,ok.QE⟩
def Cx.Ok.uK {X:Cx}{E:kc}(ok:(X.vq E).Ok):X.Ok:=
 ⟨ok.mod,ok.kind,ok.glob,ok.blt,ok.above,ok.inj,ok.has,ok.cab,ok.hd,ok.frames,ok.stk,ok.exf,ok.bs,ok.QX,ok.PJ,ok.O0,ok.yw,ok.QE⟩
section
variable{X:Cx}{aA:jz}{σ:St}{H:Hp}{s:aL}{E:kc}
def Inv.vq (I:Inv X aA σ H s)(E:kc):Inv (X.vq E) aA σ H s:=⟨I.ok.vq E,I.os,I.bare,I.lQ,I.loc,I.cell,I.free,I.pP,I.pin,I.fV,I.len⟩
def Inv.uK (I:Inv (X.vq E) aA σ H s):Inv X aA σ H s:=⟨I.ok.uK,I.os,I.bare,I.lQ,I.loc,I.cell,I.free,I.pP,I.pin,I.fV,I.len⟩
theorem SP.uK {D:Ends}{f:Flow}{s':aL}(h:SP (X.vq E) aA D f s'):SP X aA D f s':=by
 cases f with
 |next=>obtain⟨gz,H',I,q⟩:=h;exact⟨gz,H',I.uK,q⟩
 |brk=>obtain⟨gz,H',I,q⟩:=h;exact⟨gz,H',I.uK,q⟩
 |cont=>obtain⟨gz,H',I,q⟩:=h;exact⟨gz,H',I.uK,q⟩
 |ret u=>obtain⟨v,gz,H',I,r,q⟩:=h;exact⟨v,gz,H',I.uK,r,q⟩
def Kc.nox {st:List Stmt}{t:TS}(h:Kc X.nox st t):Kc X st t:=λaA s σ H D I hw=>
 dI (h aA s σ H D (I.vq _) hw) (λ_ _ q=>q.uK) λ_ _ z=>dU z
end
section
variable{X:Cx}{st:Stmt}{rest:List Stmt}{t u:TS}{e:Expr}{te:TE}{cN:Pos}
def akS:TS:=λD σ H=>D.nx σ H
def aqq (t u:TS):TS:=λD σ H=>t {D with nx:=u D} σ H
def cT:Kc X [] akS:=λ_ _ σ H _ I h=>uR ⟨σ,H,I,h⟩
def ao (h1:PS X st t)(h2:Kc X rest u):Kc X (st::rest) (aqq t u):=by
 intro aA s σ H D I h;refine ams (je (h1 aA s σ H {D with nx:=u D} I h) λf s1 q=>?_);cases f with
 |next=>
  obtain⟨gz,H',I',q⟩:=q;exact h2 aA s1 gz H' D I' q
 |ret v=>exact q
 |brk=>exact q
 |cont=>exact q
def aH (h1:PS X st t):Kc X [st] t:=by
 intro aA s σ H D I h;refine ams (je (h1 aA s σ H D I h) λf s1 q=>?_);cases f with
 |next=>exact uR q
 |ret v=>exact q
 |brk=>exact q
 |cont=>exact q
def Inv.quiet {aA:jz}{σ:St}{H:Hp}{s:aL}(I:Inv X aA σ H s):interactive X.env=false:=by simp[interactive,I.ok.kind]
def Uz (te:TE):TS:=λD σ H=>te σ H λ_ H1=>D.nx σ H1
def cS (he:PE X e te)(hs:autoParam (mU e none cN.line X.env=pure false) Z_r):PS X (.Expr e cN) (Uz te):=by
 intro aA s σ H D I h;exact wpAny_Expr_any (je (he aA s σ H _ I h) λv s1 ⟨x,H1,I1,r1,q1⟩=>⟨σ,H1,I1,q1⟩) I.quiet hs
def ag1 (te:TE):TS:=λD σ H=>te σ H D.rt
def bz (he:PE X e te):PS X (.Return (some e) cN) (ag1 te):=by
 intro aA s σ H D I h;exact wpAny_Return_some (je (he aA s σ H _ I h) λv s1 ⟨x,H1,I1,r1,q1⟩=>⟨x,σ,H1,I1,r1,q1⟩)
def aqm (c:TT)(t u:TS):TS:=λD σ H=>c σ H λb H1=>if b=true then t D σ H1 else u D σ H1
def gi {c:Expr}{a b:List Stmt}{tc:TT}(hc:PT X c tc)(ha:Kc X a t)(hb:Kc X b u):PS X (.If c a b cN) (aqm tc t u):=by
 intro aA s σ H D I h;refine wpAny_If (je (hc aA s σ H _ I h) λd s1 ⟨H1,I1,q1⟩=>?_);cases d with
 |true=>exact ha aA s1 σ H1 D I1 q1
 |false=>exact hb aA s1 σ H1 D I1 q1
end
abbrev TG:=V->St->Hp->(St->Hp->Prop)->Prop
abbrev TGs:=b_->St->Hp->(St->Hp->Prop)->Prop
def PG (X:Cx)(Et:Expr)(t:TG):Prop:=
 ∀(aA:jz) (s:aL) (σ:St) (H:Hp) (v:V) (u:jm) (Q:St->Hp->Prop),Inv X aA σ H s->RelV v u->t v σ H Q->
  bw (bA X.prog X.w) X.A (UD Et X.env u) (λ_ s'=>GP X aA Q s') X.xe s
def PGs (X:Cx)(ts:FD)(t:TGs):Prop:=
 ∀(aA:jz) (s:aL) (σ:St) (H:Hp) (vs:b_) (us:gU) (Q:St->Hp->Prop),Inv X aA σ H s->Vals vs us->t vs σ H Q->
  bw (bA X.prog X.w) X.A (assignInOrder ((tK ts X.env).map (·.2)) us) (λ_ s'=>GP X aA Q s') X.xe s
abbrev ae0:=V->V->V->Hp->(Hp->Prop)->Prop
def aiq (X:Cx)(t:ae0):Prop:=
 ∀(aA:jz) (s:aL) (σ:St) (H:Hp) (o i v:V) (ov iv u:jm) (Q:Hp->Prop),Inv X aA σ H s->RelV o ov->RelV i iv->RelV v u->t o i v H Q->
  bw (bA X.prog X.w) X.A (setItem ov iv u) (λ_ s'=>∃H',Inv X aA σ H' s'/\Q H') X.xe s
abbrev TIp:=V->V->Hp->VK->Prop
def PIp (X:Cx)(op:UC)(t:TIp):Prop:=
 ∀(aA:jz) (s:aL) (σ:St) (H:Hp) (x y:V) (v u:jm) (Q:VK),Inv X aA σ H s->RelV x v->RelV y u->t x y H Q->
  bw (bA X.prog X.w) X.A (inplaceOp op v u) (EP X aA σ Q) X.xe s
section
variable{X:Cx}{cN:Pos}
def Ar (i:Nat):TG:=λv σ H Q=>Q (σ.set i (some v)) H
def acr {i:Nat}{x:Str}(hN:X.N.Nodup)(hi:X.N[i]? =some x)(hx:Loc X.env.scope x)(hf:autoParam (Uq X x) Z_t):PG X (.Name x cN) (Ar i):=by
 intro aA s σ H v u Q I r h;exact ak5 (Di I hN hi hx r (λs' I'=>⟨_,H,I',h⟩) hf)
def aiW:TGs:=λvs σ H Q=>vs=[]/\Q σ H
inductive X_ (t:TG)(u:TGs)(vs:b_)(σ:St)(H:Hp)(Q:St->Hp->Prop):Prop|i v r(_:vs=v::r)(_:t v σ H λgz H'=>u r gz H' Q)
def pj:PGs X [] aiW:=by
 intro aA s σ H vs us Q I r h;obtain⟨e,h⟩:=h;subst e;cases r;exact assignInOrder_nil ⟨σ,H,I,h⟩
def fm {e:Expr}{es:FD}{t:TG}{u:TGs}(h1:PG X e t)(h2:PGs X es u)
  (hs:autoParam ((tK (e::es) X.env).map (·.2)=UD e X.env::(tK es X.env).map (·.2)) Z_r):PGs X (e::es) (X_ t u):=by
 intro aA s σ H vs us Q I r h;obtain⟨v,vr,e1,h⟩:=h;subst e1;cases r with
 |cons r rr=>
  rw[hs];refine assignInOrder_cons (je (h1 aA s σ H _ _ _ I r h) λ_ s1 ⟨σ1,H1,I1,q1⟩=>?_);exact h2 aA s1 σ1 H1 _ _ Q I1 rr q1
inductive afq (K:au)(n:Nat)(t:TGs)(v:V)(σ:St)(H:Hp)(Q:St->Hp->Prop):Prop|i a xs(_:v=.ref a)(_:Ml K H a xs)(_:xs.length=n)(_:t xs σ H Q)
def yK {es:FD}{k:Nat}{t:TGs}{n:Nat}(hc:X.calm=true)(h:PGs X es t)
  (hn:autoParam ((tK es X.env).length=n) Z_r) (uA:autoParam ((tK es X.env).findIdx? (·.1)=none) Z_r):PG X (.Tuple es k cN) (afq X.K n t):=by
 intro aA s σ H v u Q I r hw;obtain⟨a,xs,e1,hq,hl,hw⟩:=hw;subst e1;cases r;obtain⟨dg,rv,ht,hz⟩:=I.tuple hq;refine assign_Tuple_tuple (I.ok.hd hc) ht (by simp[hn,<-hl,rv.length]) uA λh' hx=>?_;have I1:Inv X aA σ H {s with heap:=h'}:=I.kept (t':=s.toks) λb o e=>hx b o (cH (Heap.lt_size e)) e;exact h aA _ σ H xs _ Q I1 (by simpa using rv) hw
def anA (to ti:TE)(t:ae0):TG:=λv σ H Q=>to σ H λo H1=>ti σ H1 λi H2=>t o i v H2 λH3=>Q σ H3
def yJ {o i:Expr}{to ti:TE}{t:ae0}(ho:PE X o to)(hi:PE X i ti)(hs:aiq X t)
  (ha:∀v,UD (.Subscript o i cN) X.env v=(do
   let ov<-vw [v] (eval o X.env);let iv<-vw [v,ov] (eval i X.env)
   BR cN
   vw [v,ov,iv] (setItem ov iv v)
   release [v,ov,iv] []):=by trivial):PG X (.Subscript o i cN) (anA to ti t):=by
 intro aA s σ H v u Q I r h;rw[ha];refine aR (mV (je (ho aA s σ H _ I h) λov s1 ⟨x,H1,I1,r1,q1⟩=>?_));refine aR (mV (je (hi aA s1 σ H1 _ I1 q1) λiv s2 ⟨y,H2,I2,r2,q2⟩=>?_));refine aR (fG (aR (mV (je (hs aA s2 σ H2 x y v ov iv u _ I2 r1 r2 r q2) λ_ s3 ⟨H3,I3,q3⟩=>?_))));exact wpAny_release ⟨σ,H3,I3,q3⟩
def ZY (te:TE)(g:TG):TS:=λD σ H=>te σ H λx H1=>g x σ H1 D.nx
def yN {tg e:Expr}{te:TE}{g:TG}(he:PE X e te)(hg:PG X tg g)(hs:autoParam (swapsWithSole [tg] e cN.line X.env=pure false) Z_r)(hw:autoParam (swappedStores [tg] e X.env=pure none) Z_r)
  (h1:autoParam ((tK [tg] X.env).map (·.2)=[UD tg X.env]) Z_r):PS X (.Assign [tg] e cN) (ZY te g):=by
 intro aA s σ H D I h;refine wpAny_Assign_stores (je (he aA s σ H _ I h) λv s1 ⟨x,H1,I1,r1,q1⟩=>?_) hs hw;rw[h1];exact je (hg aA s1 σ H1 x v _ I1 r1 q1) λ_ s2 q=>q
def agj {i:Nat}{x:Str}{e:Expr}{te:TE}{xA:Pos}(hN:X.N.Nodup)(hi:X.N[i]? =some x)(hx:Loc X.env.scope x)(he:PE X e te)(hs:autoParam (mU e (some (.Name x xA)) cN.line X.env=pure false) Z_r)(hf:autoParam (Uq X x) Z_t):
  PS X (.Assign [.Name x xA] e cN) (ZY te (Ar i)):=by
 intro aA s σ H D I h;refine wpAny_Assign_Name (je (he aA s σ H _ I h) λv s1 ⟨y,H1,I1,r1,q1⟩=>?_) hs;exact Di I1 hN hi hx r1 (λs2 I2=>⟨_,H1,I2,q1⟩) hf
inductive aqi (i:Nat)(te:TE)(ti:TIp)(D:Ends)(σ:St)(H:Hp):Prop|i x(_:σ[i]? =some (some x))(_:te σ H λy H1=>ti x y H1 λz H2=>D.nx (σ.set i (some z)) H2)
def Js {i:Nat}{x:Str}{e:Expr}{te:TE}{op:UC}{ti:TIp}{xA:Pos}(hN:X.N.Nodup)(hi:X.N[i]? =some x)(hx:Loc X.env.scope x)(he:PE X e te)(ho:PIp X op ti)(hf:autoParam (Uq X x) Z_t):
  PS X (.AugAssign (.Name x xA) op e cN) (aqi i te ti):=by
 intro aA s σ H D I h;obtain⟨v,e1,h⟩:=h;obtain⟨m,hn,hl⟩:=I.loc;have vis:Vis X.env.scope x:=by rcases hx with k|k;exact .inl k;exact .inr (.inl k)
 obtain⟨u,r,l⟩:=hl i x v hi e1 vis;refine wpAny_AugAssign_Name ?_;have go:bw (bA X.prog X.w) X.A (eval e X.env) (λw mR=>bw (bA X.prog X.w) X.A (inplaceOp op u w) (λr Dj=>bw (bA X.prog X.w) X.A (storeName X.env x r) (λ_=>SP X aA D .next) X.xe Dj) X.xe mR) X.xe s:=by
  refine je (he aA s σ H _ I h) λw s1 ⟨y,H1,I1,r1,q1⟩=>?_;refine je (ho aA s1 σ H1 v y u w _ I1 r r1 q1) λz s2 ⟨zv,H2,I2,r2,q2⟩=>?_;exact Di I2 hN hi hx r2 (λs3 I3=>⟨_,H2,I3,q2⟩) hf
 rcases l with⟨hk,hm⟩|⟨hk,c,hc,TR⟩
 .exact aeJ I.ok.kind hk hn hm go
 .rcases hk with hk|hk
  .exact ahc I.ok.kind hk hc TR go
  .rcases hx with k|k
   .have:X.env.scope.names.lookup x=some .free:=hk;rw[k] at this;cases this
   .have:X.env.scope.names.lookup x=some .free:=hk;rw[k] at this;cases this
inductive ipI (f:Int->Int->Int)(x:V)(y:V)(H:Hp)(Q:VK):Prop|i i j(_:x=.int i)(_:y=.int j)(_:Q (.int (f i j)) H)
def M5:PIp X .Add (ipI λi j=>i+j):=by
 intro aA s σ H x y v u Q I r1 r2 h;obtain⟨i,j,e1,e2,q⟩:=h;subst e1;subst e2;obtain⟨t,rfl⟩:=r1;obtain⟨t',rfl⟩:=r2;exact iadd_int ⟨.int _,H,I.tok _,⟨_,Z⟩,q⟩
def afT:PIp X .Sub (ipI λi j=>i-j):=by
 intro aA s σ H x y v u Q I r1 r2 h;obtain⟨i,j,e1,e2,q⟩:=h;subst e1;subst e2;obtain⟨t,rfl⟩:=r1;obtain⟨t',rfl⟩:=r2;exact isub_int ⟨.int _,H,I.tok _,⟨_,Z⟩,q⟩
end
section
variable{X:Cx}{cN:Pos}
def ag3 (c:TT)(tb:TS):TS:=λD σ H=>∃W:Nat->St->Hp->Prop,(∃m,W m σ H)/\∀m σ H,W m σ H->
 c σ H λb H1=>if b=true then∃N:St->Hp->Prop,(∀gz H',N gz H'->∃m',m'<m/\W m' gz H')/\tb {D with nx:=N,ct:=N,bk:=D.nx} σ H1 else D.nx σ H1
def C1 {c:Expr}{qC:List Stmt}{tc:TT}{tb:TS}(hp:PassesOwn (bA X.prog X.w) X.A X.env X.xe)(hc:PT X c tc)(hb:Kc X qC tb):PS X (.While c qC [] cN) (ag3 tc tb):=by
 intro aA s σ H D I h;obtain⟨W,⟨m0,w0⟩,SN⟩:=h;refine wpAny_While (codeAny_whileLoop (λn s'=>∃gz H',Inv X aA gz H' s'/\W n gz H') ?_ m0 ⟨σ,H,I,w0⟩);rintro n s1 ⟨σ1,H1,I1,w1⟩;refine mJ hp (je (hc aA s1 σ1 H1 _ I1 (SN n σ1 H1 w1)) λb s2 ⟨H2,I2,q2⟩=>?_);cases b with
 |true=>
  obtain⟨N,hN,q2⟩:=q2;rw[aj rfl];refine mJ hp (je (hb aA s2 σ1 H2 _ I2 q2) λf s3 q3=>?_);cases f with
  |next=>
   obtain⟨σ3,H3,I3,n3⟩:=q3;obtain⟨m',hm,w3⟩:=hN σ3 H3 n3;exact⟨m',hm,σ3,H3,I3,w3⟩
  |cont=>
   obtain⟨σ3,H3,I3,n3⟩:=q3;obtain⟨m',hm,w3⟩:=hN σ3 H3 n3;exact⟨m',hm,σ3,H3,I3,w3⟩
  |brk=>exact q3
  |ret v=>exact q3
 |false=>
  rw[ah bH];exact uR ⟨σ1,H2,I2,q2⟩
end
structure It where
 go:Nat->Hp->Prop
 Wj:Nat->Hp->V->Hp->Prop
 stop:Nat->Hp->Prop
def Fz (X:Cx)(aA:jz)(H:Hp)(b:ke):Prop:=
 H b=none/\b≠X.env.locals/\b∉X.fs/\(b∈X.ex\/X.s_0.heap.objs.size<=b)/\(∀x c,X.env.cells.lookup x=some c->c≠b)/\∀p∈X.pn++aA,p.1≠b
def Inv.RK {X:Cx}{aA:jz}{σ:St}{H H':Hp}{s:aL}{b:ke}(I:Inv X aA σ H s)(hb:s.heap.objs.size<=b)(hn:H' b=none):Fz X aA H' b:=by
 refine⟨hn,UW (a_ I.lt hb),I.apv hb,.inr (bt I.sz hb),λx c e z=>?_,λp hp z=>?_⟩
 .obtain⟨v,q⟩:=I.cell x c e;exact absurd (a_ q.lt (by rw[z];exact hb)) (bX _)
 .exact absurd (a_ (Heap.lt_size (I.pin p hp).1) (by rw[z];exact hb)) (bX _)
structure Turn (P:bJ)(w:cz)(K:au)(tg:Expr)(J:It)(fp:pG)(it:ke)(tn:Nat->Heap->Prop):Prop where
 mem:it∈fp
 obj:∀i h,tn i h->∀b∈fp,∃o,h.get? b=some o/\∀v,o.data≠.cell v
 keep:∀i h h',tn i h->(∀b∈fp,∀o,h.get? b=some o->h'.get? b=some o)->tn i h'
 item:∀(X:Cx),X.prog=P->X.w=w->X.K=K->X.calm=true->∀(i:Nat) (pins:jz) (s:aL) (σ:St) (H:Hp) (E:kc),Inv X pins σ H s->(∀b∈fp,Fz X pins H b)->tn i s.heap->J.go i H->
  bw (bA P w) X.A (pyNext (.ref it)) (λr s1=>∃u,r=some u/\
   bw (bA P w) X.A (Dt tg (.ref it) u) (λ_ s2=>∃x H',Inv X pins σ H' s2/\RelV x u/\J.Wj i H x H'/\tn (i+1) s2.heap/\∀b∈fp,H' b=none) E s1) E s
 done:∀(X:Cx),X.prog=P->X.w=w->X.K=K->X.calm=true->∀(i:Nat) (pins:jz) (s:aL) (σ:St) (H:Hp) (E:kc),Inv X pins σ H s->(∀b∈fp,Fz X pins H b)->tn i s.heap->J.stop i H->
  bw (bA P w) X.A (pyNext (.ref it)) (λr s1=>r=none/\Inv X pins σ H s1) E s
 self:∀(A:Around) (i:Nat) (s:aL) (Q:kc) (E:kc),tn i s.heap->Q (.ref it) s->bw (bA P w) A (pyIter (.ref it)) Q E s
abbrev TI:=St->Hp->(It->Hp->Prop)->Prop
inductive PIE (X:Cx)(aA:jz)(σ:St)(tg:Expr)(R:It->Hp->Prop)(itv:jm)(s2:aL):Prop|i(it:ke)(fp:pG)(tn:Nat->Heap->Prop)(J:It)(H':Hp)(_:itv=.ref it)(_:Inv X aA σ H' s2)(_:Turn X.prog X.w X.K tg J fp it tn)(_:tn 0 s2.heap)(_:∀b∈fp,Fz X aA H' b)(_:R J H')
def PI (X:Cx)(tg l7:Expr)(wi:TI):Prop:=
 ∀(aA:jz) (s:aL) (σ:St) (H:Hp) (R:It->Hp->Prop),Inv X aA σ H s->wi σ H R->
  bw (bA X.prog X.w) X.A (eval l7 X.env) (λv s1=>bw (bA X.prog X.w) X.A (pyIter v) (PIE X aA σ tg R) X.xe s1) X.xe s
def TN {M:Model}{A:Around}{E:kc}{s:aL}{tg:Expr}{it:ke}{u:jm}{o:Obj}{n:String}{vs:Array jm}{Q:Unit->aL->Prop}(ho:s.heap.get? it=some o)(hc:o.cls=.type n)(hd:o.data=.fields vs)
  (hn:["enumerate","zip","dict_itemiterator","dict_reverseitemiterator","odict_iterator","itertools.zip_longest","itertools.pairwise"].contains n=false) (hQ:Q () s):bw M A (Dt tg (.ref it) u) Q E s:=by
 unfold Dt;cases tg<;>first
  |exact bV hQ
  |(cases u<;>first
    |exact bV hQ
    |(refine aR (wpAny_load ho ?_)
      rw[hc,hd];show bw M A (if(["enumerate","zip","dict_itemiterator","dict_reverseitemiterator","odict_iterator","itertools.zip_longest","itertools.pairwise"].contains n&&vs[0]? ==some (rawInt _))=true then _ else _) Q E s;rw[ah (by intro h;rw[hn,Bool.false_and] at h;cases h)];exact bV hQ))
def Wq (K:au)(a:ke):It:=
 ⟨λi H=>∃xs x,nN K H a xs/\xs[i]? =some x,λi H x H'=>H'=H/\∀xs,nN K H a xs->xs[i]? =some x,λi H=>∃xs,nN K H a xs/\xs.length<=i⟩
def S9 (lo:Int)(n:Nat):It:=⟨λi _=>i<n,λi H x H'=>H'=H/\x=.int (lo+i),λi _=>n<=i⟩
def Wd {P:bJ}{w:cz}{K:au}{tg:Expr}(a it:ke):Turn P w K tg (Wq K a) [it] it (λi h=>h.IsListIter it a i) where
 mem:=by simp
 obj:=λi h st b hb=>by
  have e:b=it:=by simpa using hb
  subst e;obtain⟨o,e,c,d⟩:=st;exact⟨o,e,λv z=>by rw[d] at z;cases z⟩
 keep:=λi h h' st k=>st.at λo e=>k it (by simp) o e
 item:=by
  intro X hP hw hK hc i aA s σ H E I hf st hg;subst hP hw hK;obtain⟨xs,x,hq,hx⟩:=hg;obtain⟨dg,rv,p,hz⟩:=I.list hq;obtain⟨u,hu,ru⟩:=rv.get hx;obtain⟨f0,f1,f2,f3,f4,f5⟩:=hf it (by simp);refine wpAny_pyNext_list_item st p.isList (x:=u) (by simpa using hu) λh' uP sb=>?_;have I1:Inv X aA σ H {s with heap:=h'}:=I.turned (t':=s.toks) (λb o hb e=>(sb.2 b hb).trans e) f0 f1 f3 f4 f5;obtain⟨o,e,c,d⟩:=id uP;exact⟨u,Z,TN (s:={s with heap:=h'}) e c d (by decide) ⟨x,H,I1,ru,⟨Z,λys hy=>by rw[I.yA hy hq];exact hx⟩,uP,λb hb=>(hf b hb).1⟩⟩
 done:=by
  intro X hP hw hK hc i aA s σ H E I hf st hg;subst hP hw hK;obtain⟨xs,hq,hx⟩:=hg;obtain⟨dg,rv,p,hz⟩:=I.list hq;obtain⟨f0,f1,f2,f3,f4,f5⟩:=hf it (by simp);have hl:=rv.length;exact wpAny_pyNext_list_end (I.ok.hd hc) st p.isList (by simp;lia) λh' eb=>⟨Z,I.turned (t':=s.toks) (λb o hb e=>eb b o hb e) f0 f1 f3 f4 f5⟩
 self:=λ_ _ _ _ _ st h=>wpAny_pyIter_listiter st h
def SO {P:bJ}{w:cz}{K:au}{tg:Expr}(it:ke)(lo:Int)(n:Nat):Turn P w K tg (S9 lo n) [it] it (λi h=>QB h it (lo+(i:Nat)*1) ((n:Int)-(i:Nat)) 1) where
 mem:=by simp
 obj:=λi h st b hb=>by
  have e:b=it:=by simpa using hb
  subst e;exact⟨_,st,λv z=>by
   have z':Data.fields _=Data.cell v:=z;cases z'⟩
 keep:=λi h h' st k=>k it (by simp) _ st
 item:=by
  intro X hP hw hK hc i aA s σ H E I hf st hg;subst hP hw hK;obtain⟨f0,f1,f2,f3,f4,f5⟩:=hf it (by simp);have W:=Walks.range (prog:=X.prog) (w:=X.w) (I.ok.hd hc) it lo 1 n;refine W.item i s _ _ hg st λv h' tk hv uP kk=>?_;obtain⟨t,rfl⟩:=hv;have I1:Inv X aA σ H {s with heap:=h',toks:=tk}:=I.turned (λb o hb e=>kk b o (by simpa using hb) e) f0 f1 f3 f4 f5;refine⟨_,Z,TN (s:={s with heap:=h',toks:=tk}) (n:="range_iterator") uP rfl rfl (by decide) ⟨.int (lo+i),H,I1,⟨t,?_⟩,⟨Z,Z⟩,uP,λb hb=>(hf b hb).1⟩⟩;rw[Int.mul_one]
 done:=by
  intro X hP hw hK hc i aA s σ H E I hf st hg;subst hP hw hK;obtain⟨f0,f1,f2,f3,f4,f5⟩:=hf it (by simp);exact aa9 (I.ok.hd hc) st (by have:n<=i:=hg;lia) λh' eb=>⟨Z,I.turned (t':=s.toks) (λb o hb e=>eb b o hb e) f0 f1 f3 f4 f5⟩
 self:=λ_ _ _ _ _ st h=>aa8 st h
open PySem PySem.Spec PyProof.Rows
section
variable{X:Cx}{tg:Expr}
inductive afO (K:au)(R:It->Hp->Prop)(x:V)(H1:Hp):Prop|i a(_:x=.ref a)(_:∃xs,nN K H1 a xs)(_:R (Wq K a) H1)
def YB (K:au)(tl:TE):TI:=λσ H R=>tl σ H (afO K R)
def fB {l:Expr}{tl:TE}(hl:PE X l tl):PI X tg l (YB X.K tl):=by
 intro aA s σ H R I h;refine je (hl aA s σ H _ I h) λv s1 ⟨x,H1,I1,r1,q1⟩=>?_;obtain⟨a,e,⟨xs,hq⟩,q⟩:=q1;subst e;cases r1;obtain⟨dg,rv,p,hz⟩:=I1.list hq;refine ak7 p.isList ?_;refine⟨s1.heap.objs.size,[s1.heap.objs.size],_,_,H1,Z,I1.kept (t':=s1.toks) λb o e=>Heap.get?_push_of_some _ e,Wd a _,⟨_,Heap.get?_push_size _ rfl,Z,Z⟩,λb hb=>?_,q⟩;have e:b=s1.heap.objs.size:=by simpa using hb
 subst e;exact I1.RK (bq _) (I1.fV.fresh (bq _))
def Qe {aA:jz}{σ:St}{H:Hp}{s:aL}{R:It->Hp->Prop}{E:kc}{lo hi:Int}{t u v:Tok}{tk:Nat}(I:Inv X aA σ H s)(h1: -(2^62)<=lo)(h2:lo<2^62)(h3: -(2^62)<=hi)(h4:hi<2^62)
  (q:R (S9 lo (hi-lo).toNat) H):bw (bA X.prog X.w) X.A (pyIter (.ref s.heap.objs.size)) (PIE X aA σ tg R) E {s with heap:=s.heap.push {cls:=.type "range",data:=.fields #[.int lo t,.int hi u,.int 1 v]},toks:=tk}:=by
 refine ah8 (IsRange.new ..) (small_one h1 h2 h3 h4) ?_;have I1:Inv X aA σ H {s with heap:=s.heap.push {cls:=.type "range",data:=.fields #[.int lo t,.int hi u,.int 1 v]},toks:=tk}:=I.kept λb o e=>Heap.get?_push_of_some _ e;refine⟨(s.heap.push {cls:=.type "range",data:=.fields #[.int lo t,.int hi u,.int 1 v]}).objs.size,[(s.heap.push {cls:=.type "range",data:=.fields #[.int lo t,.int hi u,.int 1 v]}).objs.size],_,_,H,Z,
  I1.kept (t':=tk) λb o e=>Heap.get?_push_of_some _ e,SO _ lo (hi-lo).toNat,?_,λb hb=>?_,q⟩
 .have e1:lo+((0:Nat):Int)*1=lo:=by simp
  have e2:(((hi-lo).toNat:Nat):Int)-((0:Nat):Int)=Builtin.Range.rangeSize lo hi 1:=by rw[rangeSize_one];split<;>lia
  show QB _ _ (lo+((0:Nat):Int)*1) ((((hi-lo).toNat:Nat):Int)-((0:Nat):Int)) 1;rw[e1,e2];exact Heap.get?_push_size _ rfl
 .have e:b=(s.heap.push {cls:=.type "range",data:=.fields #[.int lo t,.int hi u,.int 1 v]}).objs.size:=by simpa using hb
  subst e;exact I1.RK (bq _) (I1.fV.fresh (bq _))
inductive afP (R:It->Hp->Prop)(vs:b_)(H1:Hp):Prop|i(j:Int)(_:vs=[.int j])(_: -(2^62)<=j)(_:j<2^62)(_:R (S9 0 j.toNat) H1)
def ajI (ta:TA):TI:=λσ H R=>ta σ H (afP R)
inductive afQ (R:It->Hp->Prop)(vs:b_)(H1:Hp):Prop|i(i j:Int)(_:vs=[.int i,.int j])(_:-(2^62)<=i/\i<2^62/\ -(2^62)<=j/\j<2^62)(_:R (S9 i (j-i).toNat) H1)
def ajJ (ta:TA):TI:=λσ H R=>ta σ H (afQ R)
def jA {a:Expr}{ta:TA}{p cN:Pos}(hg:Gl X "range")(hm:X.mg "range"=none)(ha:PA X [a] ta)(hs:autoParam (dv [a] X.env=[(false,eval a X.env)]) Z_r):PI X tg (.Call (.Name "range" p) [a] [] cN) (ajI ta):=by
 intro aA s σ H R I h;refine Call_ (wu I hg hm ah4 (eM (je (ha cN aA s σ H _ I h) λus s1 ⟨vs,H1,I1,r1,q1⟩=>?_) hs rfl));obtain⟨j,e,q1,q2,q⟩:=q1;subst e;cases r1 with
 |cons r rr=>
  cases rr;obtain⟨t,rfl⟩:=r;exact call_range_1 (Qe I1 (by lia) (by lia) q1 q2 (by simpa using q))
def zq {a b:Expr}{ta:TA}{p cN:Pos}(hg:Gl X "range")(hm:X.mg "range"=none)(ha:PA X [a,b] ta)(hs:autoParam (dv [a,b] X.env=[(false,eval a X.env),(false,eval b X.env)]) Z_r)(KH:autoParam (dv [b] X.env=[(false,eval b X.env)]) Z_r):
  PI X tg (.Call (.Name "range" p) [a,b] [] cN) (ajJ ta):=by
 intro aA s σ H R I h;refine Call_ (wu I hg hm ah4 (eM (je (ha cN aA s σ H _ I h) λus s1 ⟨vs,H1,I1,r1,q1⟩=>?_) (by rw[hs,KH]) (by rw[KH];rfl)));obtain⟨i,j,e,⟨q1,q2,q3,q4⟩,q⟩:=q1;subst e;cases r1 with
 |cons r rr=>
  cases rr with
  |cons r' rr=>
   cases rr;obtain⟨t,rfl⟩:=r;obtain⟨t',rfl⟩:=r';exact call_range_2 (Qe I1 q1 q2 q3 q4 q)
def aql (wi:TI)(g:TG)(tb:TS):TS:=λD σ H=>wi σ H λJ H1=>∃W:Nat->Nat->St->Hp->Prop,(∃m,W 0 m σ H1)/\∀i m σ H,W i m σ H->
 (J.stop i H/\D.nx σ H)\/(J.go i H/\∃N:St->Hp->Prop,(∀gz H',N gz H'->∃m',m'<m/\W (i+1) m' gz H')/\∀x H',J.Wj i H x H'->g x σ H' λmG H2=>tb {D with nx:=N,ct:=N,bk:=D.nx} mG H2)
def Jr (fp:pG)(h:Heap):jz:=fp.filterMap λb=>(h.get? b).map λo=>(b,o)
def Bl {fp:pG}{h:Heap}{b:ke}{o:Obj}(hb:b∈fp)(e:h.get? b=some o):(b,o)∈Jr fp h:=aaA.mpr ⟨b,hb,by rw[e];rfl⟩
def VJ {fp:pG}{h:Heap}{p:ke×Obj}(hp:p∈Jr fp h):p.1∈fp/\h.get? p.1=some p.2:=by
 obtain⟨b,hb,e⟩:=aaA.mp hp;cases q:h.get? b with
 |none=>rw[q] at e;cases e
 |some o=>
  rw[q] at e;have e':(b,o)=p:=bh e;subst e';exact⟨hb,q⟩
def Inv.pinned {aA:jz}{σ:St}{H:Hp}{s:aL}{fp:pG}(I:Inv X aA σ H s)(hf:∀b∈fp,Fz X aA H b)(ho:∀b∈fp,∃o,s.heap.get? b=some o/\∀v,o.data≠.cell v):Inv X (aA++Jr fp s.heap) σ H s:=
 I.Ui λp hp=>(de.mp hp).elim (λz=>I.pin p (eT _ z)) λz=>by
  obtain⟨hb,e⟩:=VJ z;obtain⟨f0,f1,f2,_⟩:=hf p.1 hb;obtain⟨o,e',d⟩:=ho p.1 hb;rw[e] at e';cases e';exact⟨e,f0,f1,f2,d⟩
def Inv.Dq {aA pl:jz}{σ:St}{H:Hp}{s:aL}(I:Inv X (aA++pl) σ H s):Inv X aA σ H s:=I.Ui λp hp=>I.pin p (eT _ (mY _ hp))
def gY {l7:Expr}{qC:List Stmt}{wi:TI}{g:TG}{tb:TS}{cN:Pos}(hp:PassesOwn (bA X.prog X.w) X.A X.env X.xe)(hc:X.calm=true)(hi:PI X tg l7 wi)(hg:PG X tg g)(hb:Kc X qC tb)
  (hs:autoParam (∀x,nB l7 X.env x=pure x) Z_t):PS X (.For tg l7 qC [] cN) (aql wi g tb):=by
 intro aA s σ H D I h;refine wpAny_For (je (hi aA s σ H _ I h) λv s1 h1=>je h1 λitv s2 h2=>?_) hs;obtain⟨it,fp,tn,J,H2,e,I2,T,st2,f2,W,⟨m0,w0⟩,SN⟩:=h2;subst e;have SE:∀{H':Hp},(∀b∈fp,H' b=none)->∀b∈fp,Fz X aA H' b:=λhn b hb=>⟨hn b hb,(f2 b hb).2⟩;refine codeAny_forLoop_any (λn s'=>∃i gz H',Inv X aA gz H' s'/\tn i s'.heap/\(∀b∈fp,H' b=none)/\W i n gz H') ?_ m0 ⟨0,σ,H2,I2,st2,λb hb=>(f2 b hb).1,w0⟩;rintro n s3 ⟨i,σ3,H3,I3,st3,fr3,w3⟩;rcases SN i n σ3 H3 w3 with⟨stop,qn⟩|⟨go,N,hN,step⟩
 .refine mJ hp (je (T.done X rfl rfl rfl hc i aA s3 σ3 H3 X.xe I3 (SE fr3) st3 stop) λr s4 ⟨hr,I4⟩=>?_);subst hr;exact uR ⟨σ3,H3,I4,qn⟩
 .refine mJ hp (je (T.item X rfl rfl rfl hc i aA s3 σ3 H3 X.xe I3 (SE fr3) st3 go) λr s4 ⟨u,hr,h4⟩=>?_);subst hr;refine mJ hp (je h4 λ_ s5 ⟨x,H5,I5,r5,y5,st5,fr5⟩=>?_);have I5':=I5.pinned (SE fr5) (T.obj _ _ st5);refine mJ hp (je (hg _ s5 σ3 H5 x u _ I5' r5 (step x H5 y5)) λ_ s6 ⟨σ6,H6,I6,q6⟩=>?_);refine mJ hp (je (hb _ s6 σ6 H6 _ I6 q6) λf s7 q7=>?_);have again:∀{σ7:St} {H7:Hp},Inv X (aA++Jr fp s5.heap) σ7 H7 s7->N σ7 H7->∃m,m<n/\∃i gz H',Inv X aA gz H' s7/\tn i s7.heap/\(∀b∈fp,H' b=none)/\W i m gz H':=λ{σ7 H7} I7 n7=>by
   obtain⟨m',hm,w7⟩:=hN σ7 H7 n7;refine⟨m',hm,i+1,σ7,H7,I7.Dq,T.keep _ _ _ st5 λb hb o e=>(I7.pin (b,o) (eT _ (eT _ (Bl hb e)))).1,λb hb=>?_,w7⟩;obtain⟨o,e,d⟩:=T.obj _ _ st5 b hb;exact(I7.pin (b,o) (eT _ (eT _ (Bl hb e)))).2.1
  cases f with
  |next=>obtain⟨σ7,H7,I7,n7⟩:=q7;exact again I7 n7
  |cont=>obtain⟨σ7,H7,I7,n7⟩:=q7;exact again I7 n7
  |brk=>obtain⟨σ7,H7,I7,q7⟩:=q7;exact⟨σ7,H7,I7.Dq,q7⟩
  |ret v=>obtain⟨x7,σ7,H7,I7,r7,q7⟩:=q7;exact⟨x7,σ7,H7,I7.Dq,r7,q7⟩
end
def qE {K:au}{a:ke}{xs:b_}{g:TG}{tb:TS}{D:Ends}{σ:St}{H:Hp}(Pv:Nat->St->Hp->Prop)(h0:Pv 0 σ H)(hl:∀i σ H,i<=xs.length->Pv i σ H->nN K H a xs)
  (hs:∀i x σ H,xs[i]? =some x->Pv i σ H->g x σ H λmG H2=>tb {D with nx:=Pv (i+1),ct:=Pv (i+1),bk:=D.nx} mG H2) (hd:∀σ H,Pv xs.length σ H->D.nx σ H):
  ∃W:Nat->Nat->St->Hp->Prop,(∃m,W 0 m σ H)/\∀i m σ H,W i m σ H->
   ((Wq K a).stop i H/\D.nx σ H)\/((Wq K a).go i H/\∃N:St->Hp->Prop,(∀gz H',N gz H'->∃m',m'<m/\W (i+1) m' gz H')/\∀x H',(Wq K a).Wj i H x H'->g x σ H' λmG H2=>tb {D with nx:=N,ct:=N,bk:=D.nx} mG H2):=by
 refine⟨λi m σ H=>m=xs.length-i/\i<=xs.length/\Pv i σ H,⟨xs.length,by simp,eU _,h0⟩,?_⟩;rintro i m σ H ⟨rfl,hi,p⟩;have q:=hl i σ H hi p;by_cases As:i<xs.length
 .refine .inr ⟨⟨xs,xs[i],q,by simp[As]⟩,Pv (i+1),λgz H' p'=>⟨xs.length-(i+1),by lia,Z,As,p'⟩,λx H' y=>?_⟩;obtain⟨e,y⟩:=y;subst e;exact hs i x σ _ (y xs q) p
 .have e:i=xs.length:=by lia
  subst e;exact .inl ⟨⟨xs,q,bq _⟩,hd σ H p⟩
def si {lo:Int}{n:Nat}{g:TG}{tb:TS}{D:Ends}{σ:St}{H:Hp}(Pv:Nat->St->Hp->Prop)(h0:Pv 0 σ H)
  (hs:∀i σ H,i<n->Pv i σ H->g (.int (lo+i)) σ H λmG H2=>tb {D with nx:=Pv (i+1),ct:=Pv (i+1),bk:=D.nx} mG H2) (hd:∀σ H,Pv n σ H->D.nx σ H):
  ∃W:Nat->Nat->St->Hp->Prop,(∃m,W 0 m σ H)/\∀i m σ H,W i m σ H->
   ((S9 lo n).stop i H/\D.nx σ H)\/((S9 lo n).go i H/\∃N:St->Hp->Prop,(∀gz H',N gz H'->∃m',m'<m/\W (i+1) m' gz H')/\∀x H',(S9 lo n).Wj i H x H'->g x σ H' λmG H2=>tb {D with nx:=N,ct:=N,bk:=D.nx} mG H2):=by
 refine⟨λi m σ H=>m=n-i/\i<=n/\Pv i σ H,⟨n,by simp,eU _,h0⟩,?_⟩;rintro i m σ H ⟨rfl,hi,p⟩;by_cases As:i<n
 .refine .inr ⟨As,Pv (i+1),λgz H' p'=>⟨n-(i+1),by lia,Z,As,p'⟩,λx H' y=>?_⟩;obtain⟨e,y⟩:=y;subst e y;exact hs i σ _ As p
 .have e:i=n:=by lia
  subst e;exact .inl ⟨bq _,hd σ H p⟩
open PySem PySem.Spec PyProof.Rows
abbrev R2:=V->V->Hp->VK->Prop
def BF (X:Cx)(f:jm->jm->Sem jm)(r:R2):Prop:=
 ∀(aA:jz) (s:aL) (σ:St) (H:Hp) (x y:V) (v u:jm) (Q:VK),Inv X aA σ H s->RelV x v->RelV y u->r x y H Q->
  bw (bA X.prog X.w) X.A (f v u) (EP X aA σ Q) X.xe s
def UnR (X:Cx)(f:jm->Sem jm)(r:V->Hp->VK->Prop):Prop:=
 ∀(aA:jz) (s:aL) (σ:St) (H:Hp) (x:V) (v:jm) (Q:VK),Inv X aA σ H s->RelV x v->r x H Q->
  bw (bA X.prog X.w) X.A (f v) (EP X aA σ Q) X.xe s
def Ey (X:Cx)(f:jm)(r:b_->Hp->VK->Prop):Prop:=
 ∀(aA:jz) (s:aL) (σ:St) (H:Hp) (xs:b_) (us:gU) (Q:VK),Inv X aA σ H s->Vals xs us->r xs H Q->
  bw (bA X.prog X.w) X.A (call f us) (EP X aA σ Q) X.xe s
def amZ (X:Cx)(r:V->Hp->(Bool->Hp->Prop)->Prop):Prop:=
 ∀(aA:jz) (s:aL) (σ:St) (H:Hp) (x:V) (v:jm) (Q:Bool->Hp->Prop),Inv X aA σ H s->RelV x v->r x H Q->
  bw (bA X.prog X.w) X.A (truthy v) (TP X aA σ Q) X.xe s
def tOp (r:R2)(ta tb:TE):TE:=λσ H Q=>ta σ H λx H1=>tb σ H1 λy H2=>r x y H2 Q
def tUn (r:V->Hp->VK->Prop)(ta:TE):TE:=λσ H Q=>ta σ H λx H1=>r x H1 Q
inductive rI (C:Int->Int->Prop)(g:Int->Int->V)(x:V)(y:V)(H:Hp)(Q:VK):Prop|i i j(_:x=.int i)(_:y=.int j)(_:C i j)(_:Q (g i j) H)
inductive Zk (g:Int->Int->V)(x:V)(y:V)(H:Hp)(Q:VK):Prop|i i j(_:x=.int i)(_:y=.int j)(_:Q (g i j) H)
inductive rU (g:Int->V)(x:V)(H:Hp)(Q:VK):Prop|i i(_:x=.int i)(_:Q (g i) H)
section
variable{X:Cx}{a b c:Expr}{ta tb tc:TE}{cN:Pos}
def ae5 (ha:PE X a ta)(hb:PE X b tb){aA:jz}{s:aL}{σ:St}{H:Hp}{R:V->V->Hp->Prop}(I:Inv X aA σ H s)
  (h:ta σ H λx H1=>tb σ H1 λy H2=>R x y H2) {Q:kc} {f:jm->jm->Sem jm}
  (hf:∀v u s2 x y H2,Inv X aA σ H2 s2->RelV x v->RelV y u->R x y H2->bw (bA X.prog X.w) X.A (f v u) Q X.xe s2):
  bw (bA X.prog X.w) X.A (eval a X.env) (λv ip=>bw (bA X.prog X.w) X.A (eval b X.env) (λu mR=>bw (bA X.prog X.w) X.A (f v u) Q X.xe mR) X.xe ip) X.xe s:=by
 refine je (ha aA s σ H _ I h) λv s1 ⟨x,H1,I1,r1,q1⟩=>?_;refine je (hb aA s1 σ H1 _ I1 q1) λu s2 ⟨y,H2,I2,r2,q2⟩=>?_;exact hf v u s2 x y H2 I2 r1 r2 q2
def aX {op:UC}{r:R2}(ho:BF X (oz op) r)(ha:PE X a ta)(hb:PE X b tb):PE X (.BinOp a op b cN) (tOp r ta tb):=by
 intro aA s σ H Q I h;exact wpAny_BinOp (ae5 ha hb I h λv u s2 x y H2 I2 rx ry q=>ho aA s2 σ H2 x y v u Q I2 rx ry q)
def t6 {op:UnaryOp}{r:V->Hp->VK->Prop}(ho:UnR X (unaryOp op) r)(ha:PE X a ta):PE X (.UnaryOp op a cN) (tUn r ta):=by
 intro aA s σ H Q I h;exact UnaryOp_ (je (ha aA s σ H _ I h) λv s1 ⟨x,H1,I1,r1,q1⟩=>ho aA s1 σ H1 x v Q I1 r1 q1)
def opI {f:jm->jm->Sem jm}{C:Int->Int->Prop}{g:Int->Int->Int}
  (rule:∀(i j:Int) (t u:Tok) (s:aL) (Q:kc) (E:kc),C i j->Q (.int (g i j) s.toks) {s with toks:=s.toks+1}->bw (bA X.prog X.w) X.A (f (.int i t) (.int j u)) Q E s):
  BF X f (rI C λi j=>.int (g i j)):=by
 intro aA s σ H x y v u Q I rx ry h;obtain⟨i,j,rfl,rfl,hc,q⟩:=h;obtain⟨t,rfl⟩:=rx;obtain⟨t',rfl⟩:=ry;exact rule i j t t' s _ _ hc ⟨.int (g i j),H,I.tok _,⟨_,Z⟩,q⟩
def ack {f:jm->jm->Sem jm}{g:Int->Int->Int}
  (rule:∀(i j:Int) (t u:Tok) (s:aL) (Q:kc) (E:kc),Q (.int (g i j) s.toks) {s with toks:=s.toks+1}->bw (bA X.prog X.w) X.A (f (.int i t) (.int j u)) Q E s):
  BF X f (Zk λi j=>.int (g i j)):=by
 intro aA s σ H x y v u Q I rx ry h;obtain⟨i,j,rfl,rfl,q⟩:=h;obtain⟨t,rfl⟩:=rx;obtain⟨t',rfl⟩:=ry;exact rule i j t t' s _ _ ⟨.int (g i j),H,I.tok _,⟨_,Z⟩,q⟩
def acj {f:jm->jm->Sem jm}{g:Int->Int->Bool}
  (rule:∀(i j:Int) (t u:Tok) (s:aL) (Q:kc) (E:kc),Q (.bool (g i j)) s->bw (bA X.prog X.w) X.A (f (.int i t) (.int j u)) Q E s):
  BF X f (Zk λi j=>.bl (g i j)):=by
 intro aA s σ H x y v u Q I rx ry h;obtain⟨i,j,rfl,rfl,q⟩:=h;obtain⟨t,rfl⟩:=rx;obtain⟨t',rfl⟩:=ry;exact rule i j t t' s _ _ ⟨.bl (g i j),H,I,Z,q⟩
def amw (i j:Int):Prop:=0<j/\j<1073741824
def amx (i j:Int):Prop:=0<=j/\j<=1000000/\i.natAbs<2^64
def aeL (i j:Int):Prop:=(-(2^64)<i/\i<2^64)\/(-(2^64)<j/\j<2^64)
def aeL.ok {i j:Int}(h:aeL i j):IntMulOk i j:=by
 rcases h with⟨h1,h2⟩|⟨h1,h2⟩
 .exact .of_left (intBits_le_64 h1 h2)
 .exact .of_right (intBits_le_64 h1 h2)
def SQ (k:Nat):(0:Int)<=2^k:=by
 rw[two_pow_cast];exact jI _
def dz:BF X (oz .Add) (Zk λi j=>.int (i+j)):=ack λ_ _ _ _ _ _ _ q=>add_int q
def gw:BF X (oz .Sub) (Zk λi j=>.int (i-j)):=ack λ_ _ _ _ _ _ _ q=>sub_int q
def fQ:BF X (oz .Mult) (rI aeL λi j=>.int (i*j)):=opI λ_ _ _ _ _ _ _ hc q=>mul_int q hc.ok
def jM:BF X (oz .FloorDiv) (rI amw λi j=>.int (i / j)):=opI λi j _ _ _ _ _ hc q=>by
 have h1:(0:Int)<j:=hc.1;have h2:j<1073741824:=hc.2;exact floordiv_int (by lia) (by rw[cu i (by lia)];exact q) (.inl (Ol (by lia)))
def pY:BF X (oz .Mod) (rI (λ_ j=>0<j) λi j=>.int (i%j)):=opI λi j _ _ _ _ _ hc q=>by
 have h1:(0:Int)<j:=hc;exact mod_int' (by lia) (by rw[Int.fmod_eq_emod_of_nonneg i (by lia)];exact q)
def uG:BF X (oz .LShift) (rI amx λi j=>.int (i*2^j.toNat)):=opI λ_ _ _ _ _ _ _ hc q=>lshift_int_small hc.1 hc.2.1 hc.2.2 q
def sZ:BF X (oz .RShift) (rI (λ_ j=>0<=j) λi j=>.int (i / 2^j.toNat)):=opI λi j _ _ _ _ _ hc q=>
 rshift_int hc (by rw[cu i (SQ _)];exact q)
def Y4:BF X (oz .BitAnd) (Zk λi j=>.int (Builtin.bitAnd i j)):=ack λ_ _ _ _ _ _ _ q=>and_int q
def R_:BF X (oz .BitXor) (Zk λi j=>.int (Builtin.bitXor i j)):=ack λ_ _ _ _ _ _ _ q=>xor_int q
def unI {f:jm->Sem jm}{g:Int->Int}
  (rule:∀(i:Int) (t:Tok) (s:aL) (Q:kc) (E:kc),Q (.int (g i) s.toks) {s with toks:=s.toks+1}->bw (bA X.prog X.w) X.A (f (.int i t)) Q E s):
  UnR X f (rU λi=>.int (g i)):=by
 intro aA s σ H x v Q I rx h;obtain⟨i,rfl,q⟩:=h;obtain⟨t,rfl⟩:=rx;exact rule i t s _ _ ⟨.int (g i),H,I.tok _,⟨_,Z⟩,q⟩
def pE:UnR X (unaryOp .USub) (rU λi=>.int (-i)):=unI λ_ _ _ _ _ q=>neg_int q
end
def aks:V->V->Bool
 |.gS,.gS=>true|.gS,.int _=>true|.int _,.gS=>true|.gS,.bl _=>true|.bl _,.gS=>true|.gS,.str _=>true|.str _,.gS=>true
 |.int _,.int _=>true|.bl _,.bl _=>true|.str _,.str _=>true|.EH _,.EH _=>true
 |.int _,.str _=>true|.str _,.int _=>true|.bl _,.str _=>true|.str _,.bl _=>true
 |_,_=>false
def rEq:R2:=λx y H Q=>aks x y=true/\Q (.bl (decide (x=y))) H
def rNe:R2:=λx y H Q=>aks x y=true/\Q (.bl (!decide (x=y))) H
def Tr {i j:Int}:decide (V.int i=V.int j)=(i==j):=by
 rw[zE];simp
def XJ {i j:Bool}:decide (V.bl i=V.bl j)=(i==j):=by
 rw[zE];simp
def Ts {i j:Str}:decide (V.str i=V.str j)=(i==j):=by
 rw[zE];simp
def Tq {i j:Array UInt8}:decide (V.EH i=V.EH j)=(i.toList==j.toList):=by
 rw[zE];cases i;cases j;simp
section
variable{X:Cx}{a b c:Expr}{ta tb tc:TE}{cN:Pos}
def f9 {aA:jz}{σ:St}{H:Hp}{s:aL}{Q:VK}{k k':Bool}(I:Inv X aA σ H s)(q:Q (.bl k) H)(e:k=k'):EP X aA σ Q (.bool k') s:=by
 subst e;exact⟨.bl k,H,I,Z,q⟩
def lp:BF X (jg .Eq) rEq:=by
 intro aA s σ H x y v u Q I rx ry h;obtain⟨hs,q⟩:=h;cases x with
 |gS=>
  cases rx;cases y with
  |gS=>cases ry;exact aqT (f9 I q (by simp))
  |bl j=>cases ry;exact aqR (f9 I q (by simp))
  |int j=>obtain⟨t',rfl⟩:=ry;exact aqS (f9 I q (by simp))
  |str j=>obtain⟨t',rfl⟩:=ry;exact aqU (f9 I q (by simp))
  |_=>exact absurd (show false=true from hs) bH
 |bl i=>
  cases rx;cases y with
  |gS=>cases ry;exact aqP (f9 I q (by simp))
  |bl j=>cases ry;exact eq_bool (f9 I q XJ)
  |str j=>obtain⟨t',rfl⟩:=ry;exact amO (f9 I q (by simp))
  |_=>exact absurd (show false=true from hs) bH
 |int i=>
  obtain⟨t,rfl⟩:=rx;cases y with
  |gS=>cases ry;exact aqQ (f9 I q (by simp))
  |int j=>obtain⟨t',rfl⟩:=ry;exact eq_int (f9 I q Tr)
  |str j=>obtain⟨t',rfl⟩:=ry;exact amP (f9 I q (by simp))
  |_=>exact absurd (show false=true from hs) bH
 |str i=>
  obtain⟨t,rfl⟩:=rx;cases y with
  |gS=>cases ry;exact aqV (f9 I q (by simp))
  |bl j=>cases ry;exact amQ (f9 I q (by simp))
  |int j=>obtain⟨t',rfl⟩:=ry;exact amR (f9 I q (by simp))
  |str j=>obtain⟨t',rfl⟩:=ry;exact eq_str (f9 I q Ts)
  |_=>exact absurd (show false=true from hs) bH
 |EH i=>
  obtain⟨t,rfl⟩:=rx;cases y with
  |EH j=>obtain⟨t',rfl⟩:=ry;exact PySem.W.eq_bytes (f9 I q Tq)
  |_=>exact absurd (show false=true from hs) bH
 |_=>cases y<;>exact absurd (show false=true from hs) bH
def AB:BF X (jg .NotEq) rNe:=by
 intro aA s σ H x y v u Q I rx ry h;obtain⟨hs,q⟩:=h;cases x with
 |gS=>
  cases rx;cases y with
  |gS=>cases ry;exact aq0 (f9 I q (by simp))
  |bl j=>cases ry;exact aqY (f9 I q (by simp))
  |int j=>obtain⟨t',rfl⟩:=ry;exact aqZ (f9 I q (by simp))
  |str j=>obtain⟨t',rfl⟩:=ry;exact aq1 (f9 I q (by simp))
  |_=>exact absurd (show false=true from hs) bH
 |bl i=>
  cases rx;cases y with
  |gS=>cases ry;exact aqW (f9 I q (by simp))
  |bl j=>cases ry;exact ne_bool (f9 I q (congrArg not XJ))
  |str j=>obtain⟨t',rfl⟩:=ry;exact amS (f9 I q (by simp))
  |_=>exact absurd (show false=true from hs) bH
 |int i=>
  obtain⟨t,rfl⟩:=rx;cases y with
  |gS=>cases ry;exact aqX (f9 I q (by simp))
  |int j=>obtain⟨t',rfl⟩:=ry;exact ne_int (f9 I q (congrArg not Tr))
  |str j=>obtain⟨t',rfl⟩:=ry;exact amT (f9 I q (by simp))
  |_=>exact absurd (show false=true from hs) bH
 |str i=>
  obtain⟨t,rfl⟩:=rx;cases y with
  |gS=>cases ry;exact aq2 (f9 I q (by simp))
  |bl j=>cases ry;exact amU (f9 I q (by simp))
  |int j=>obtain⟨t',rfl⟩:=ry;exact amV (f9 I q (by simp))
  |str j=>obtain⟨t',rfl⟩:=ry;exact ne_str (f9 I q (congrArg not Ts))
  |_=>exact absurd (show false=true from hs) bH
 |EH i=>
  obtain⟨t,rfl⟩:=rx;cases y with
  |EH j=>obtain⟨t',rfl⟩:=ry;exact PySem.W.ne_bytes (f9 I q (congrArg not Tq))
  |_=>exact absurd (show false=true from hs) bH
 |_=>cases y<;>exact absurd (show false=true from hs) bH
def Fh:BF X (jg .Lt) (Zk λi j=>.bl (decide (i<j))):=acj λ_ _ _ _ _ _ _ q=>lt_int q
def LL:BF X (jg .LtE) (Zk λi j=>.bl (decide (i<=j))):=acj λ_ _ _ _ _ _ _ q=>le_int q
def Ji:BF X (jg .Gt) (Zk λi j=>.bl (decide (j<i))):=acj λ_ _ _ _ _ _ _ q=>gt_int q
def Y5:BF X (jg .GtE) (Zk λi j=>.bl (decide (j<=i))):=acj λ_ _ _ _ _ _ _ q=>ge_int q
def R3 (b:Expr){op:CmpOp}(h:autoParam (op≠.In) Z_d)(h2:autoParam (op≠.NotIn) Z_d):pS op b=false:=by
 have e1:(op==CmpOp.In)=false:=by cases op<;>first|rfl|exact absurd rfl h
 have e2:(op==CmpOp.NotIn)=false:=by cases op<;>first|rfl|exact absurd rfl h2
 cases b<;>simp[pS,e1,e2]
def Uh {op:CmpOp}{r:R2}(ho:BF X (jg op) r)(ha:PE X a ta)(hb:PE X b tb)(hm:pS op b=false):PE X (.Compare a [op] [b] cN) (tOp r ta tb):=by
 intro aA s σ H Q I h;exact wpAny_Compare1 (ae5 ha hb I h λv u s2 x y H2 I2 rx ry q=>ho aA s2 σ H2 x y v u Q I2 rx ry q) hm
inductive ag2 (Q:Bool->Hp->Prop)(x:V)(H':Hp):Prop|i k(_:x=.bl k)(_:Q k H')
def aex (t:TE):TT:=λσ H Q=>t σ H (ag2 Q)
def Ul {op:CmpOp}{r:R2}(ho:BF X (jg op) r)(ha:PE X a ta)(hb:PE X b tb)(hm:pS op b=false):PT X (.Compare a [op] [b] cN) (aex (tOp r ta tb)):=by
 intro aA s σ H Q I h;refine adu (je (ha aA s σ H _ I h) λv s1 ⟨x,H1,I1,r1,q1⟩=>je (hb aA s1 σ H1 _ I1 q1) λu s2 ⟨y,H2,I2,r2,q2⟩=>
  je (ho aA s2 σ H2 x y v u _ I2 r1 r2 q2) λc s3 ⟨z,H3,I3,r3,k,e,q3⟩=>?_) hm
 subst e;cases r3;exact ku ⟨H3,I3,q3⟩
inductive ac6 (r':R2)(tc:TE)(σ:St)(Q:VK)(y:V)(z:V)(H3:Hp):Prop|i k(_:z=.bl k)(_:if k=true then tc σ H3 λw' H4=>r' y w' H4 Q else Q (.bl false) H3)
def agU (r r':R2)(ta tb tc:TE):TE:=λσ H Q=>ta σ H λx H1=>tb σ H1 λy H2=>r x y H2 (ac6 r' tc σ Q y)
def P4 {op op':CmpOp}{r r':R2}(ho:BF X (jg op) r)(WN:BF X (jg op') r')(ha:PE X a ta)(hb:PE X b tb)(hc:PE X c tc)
  (hm:lastMarks [op,op'] [b,c]=false:=by with_unfolding_all rfl):PE X (.Compare a [op,op'] [b,c] cN) (agU r r' ta tb tc):=by
 intro aA s σ H Q I h;refine Compare_chain (je (ha aA s σ H _ I h) λv s1 ⟨x,H1,I1,r1,q1⟩=>chain_link (je (hb aA s1 σ H1 _ I1 q1) λu s2 ⟨y,H2,I2,r2,q2⟩=>
  je (ho aA s2 σ H2 x y v u _ I2 r1 r2 q2) λd s3 ⟨z,H3,I3,r3,k,e,q3⟩=>?_)) hm
 subst e;cases r3;refine ku ?_;cases k with
 |false=>exact ite_ff ⟨.bl false,H3,I3,Z,q3⟩
 |true=>exact ite_tt (chain_last (je (hc aA s3 σ H3 _ I3 q3) λw' s4 ⟨z',H4,I4,r4,q4⟩=>WN aA s4 σ H4 y z' u w' Q I4 r2 r4 q4))
def aiu (K:au)(x:V)(H:Hp)(k:Bool):Prop:=
 match x with
 |.gS=>k=false
 |.bl b=>k=b
 |.int i=>k=(i !=0)
 |.str y=>y.length<=bu/\k=((y.length:Int)!=0)
 |.EH y=>y.size<=bu/\k=((y.size:Int)!=0)
 |.ref p=>(∃xs,nN K H p xs/\k= !xs.isEmpty)\/(∃xs,Ml K H p xs/\k= !xs.isEmpty)\/∃cf,H p=some (.dK cf)/\k= !cf.isEmpty
 |_=>False
def RT {κ:Type}{cf:List (κ×V)}{vs:List (κ×jm)}(r:KV cf vs):(!vs.isEmpty)= !cf.isEmpty:=by
 cases r<;>rfl
def Iz {xs:b_}{dg:gU}(r:Vals xs dg):(!dg.toArray.isEmpty)= !xs.isEmpty:=by
 cases r<;>simp
def II:(bu:Nat)<2^63:=by rw[aE];decide
def ag5:amZ X (λx H Q=>∃k,aiu X.K x H k/\Q k H):=by
 intro aA s σ H x v Q I rx h;obtain⟨k,e,q⟩:=h;have hl:=II;have hs:bu=16777216:=aE;cases x with
 |gS=>
  cases rx;have e':k=false:=e;subst e';exact truthy_none ⟨H,I,q⟩
 |bl b=>
  cases rx;have e':k=b:=e;subst e';exact ku ⟨H,I,q⟩
 |int i=>
  obtain⟨t,rfl⟩:=rx;have e':k=(i !=0):=e;subst e';exact PySem.P.truthy_int ⟨H,I,q⟩
 |str y=>
  obtain⟨t,rfl⟩:=rx;obtain⟨hy,e'⟩:y.length<=bu/\k=((y.length:Int)!=0):=e;subst e';exact PySem.P.truthy_str (by lia) ⟨H,I.tok _,q⟩
 |EH y=>
  obtain⟨t,rfl⟩:=rx;obtain⟨hy,e'⟩:y.size<=bu/\k=((y.size:Int)!=0):=e;subst e';exact PySem.W.truthy_bytes (by lia) ⟨H,I.tok _,q⟩
 |ref p=>
  cases rx;have e':(∃xs,nN X.K H p xs/\k= !xs.isEmpty)\/(∃xs,Ml X.K H p xs/\k= !xs.isEmpty)\/∃cf,H p=some (.dK cf)/\k= !cf.isEmpty:=e;rcases e' with⟨xs,hx,e'⟩|⟨xs,hx,e'⟩|⟨cf,hx,e'⟩
  .subst e';obtain⟨dg,r,pl,hz⟩:=I.list hx;have iQ:=r.length;exact wpAny_truthy_list pl.isList (by simp only[bB];lia) ⟨H,I.tok _,by rw[Iz r];exact q⟩
  .subst e';obtain⟨dg,r,pl,hz⟩:=I.tuple hx;have iQ:=r.length;exact truthy_tuple pl (by simp only[bB];lia) ⟨H,I.tok _,by rw[Iz r];exact q⟩
  .subst e';obtain⟨hz,hS,vs,r,m⟩:cf.length<=bu/\(p==oB)=false/\∃vs,KV cf vs/\s.heap.DictOf (lK X.prog X.w) p vs:=I.fV p _ hx;have iQ:cf.length=vs.length:=Paired.length r;exact wpAny_truthy_dict hS m (by lia) ⟨H,I.tok _,by rw[RT r];exact q⟩
 |_=>exact(show False from e).elim
def Zj (ha:PE X a ta)(he:∀JN,aa6 a X.env JN=(do let v<-JN;BR a.pos;vw [v] (truthy v))):
  PT X a (λσ H Q=>ta σ H λx H'=>∃k,aiu X.K x H' k/\Q k H'):=by
 intro aA s σ H Q I h;exact isTrue_plain (je (ha aA s σ H _ I h) λv s1 ⟨x,H1,I1,r1,q1⟩=>ag5 aA s1 σ H1 x v Q I1 r1 q1) (he _)
def vals1 {x:V}{us:gU}(r:Vals [x] us):∃u,us=[u]/\RelV x u:=by
 cases r with
 |cons r1 r2=>cases r2;exact⟨_,Z,r1⟩
def vals2 {x y:V}{us:gU}(r:Vals [x,y] us):∃u w',us=[u,w']/\RelV x u/\RelV y w':=by
 cases r with
 |cons r1 r2=>
  cases r2 with
  |cons r3 r4=>cases r4;exact⟨_,_,Z,r1,r3⟩
def Lh (hc:X.calm=true):Ey X (.builtin "max") (λxs H Q=>∃i j,xs=[.int i,.int j]/\Q (.int (if j>i then j else i)) H):=by
 intro aA s σ H xs us Q I r h;obtain⟨i,j,rfl,q⟩:=h;obtain⟨u,w',rfl,⟨t,rfl⟩,⟨t',rfl⟩⟩:=vals2 r;refine max_two_ints (I.ok.hd hc) λh' tk k=>⟨_,H,I.kept k,?_,q⟩;by_cases hj:j>i
 .rw[aj hj,aj hj];exact⟨_,Z⟩
 .rw[ah hj,ah hj];exact⟨_,Z⟩
def ot (hc:X.calm=true):Ey X (.builtin "min") (λxs H Q=>∃i j,xs=[.int i,.int j]/\Q (.int (if j<i then j else i)) H):=by
 intro aA s σ H xs us Q I r h;obtain⟨i,j,rfl,q⟩:=h;obtain⟨u,w',rfl,⟨t,rfl⟩,⟨t',rfl⟩⟩:=vals2 r;refine min_two_ints (I.ok.hd hc) λh' tk k=>⟨_,H,I.kept k,?_,q⟩;by_cases hj:j<i
 .rw[aj hj,aj hj];exact⟨_,Z⟩
 .rw[ah hj,ah hj];exact⟨_,Z⟩
end
open PySem PySem.Spec PyProof.Rows
structure QP (h:Heap)(x dx C:ke)(mA:sO):Prop where
 obj:h.get? x=some (jO C dx)
 ns:h.Ns1 dx mA
 ne:dx≠x
def VB {h:Heap}{dx:ke}{mA:sO}(n:h.Ns1 dx mA):∃od,h.get? dx=some od/\∀name,zL name od=some (mA name):=by
 obtain⟨o,es,ep,ho,hd,hk,_,hm⟩:=n;refine⟨o,ho,λname=>?_⟩;have e:=hm name;unfold nsFind findBy at e;rw[<-W2] at e;unfold zL;rw[hd];dsimp only;split
 .rename_i y q;rw[q] at e;exact congrArg some e
 .rename_i q;rw[q] at e;have a:es.toList.any (·.refKey)=false:=by
   rw[List.any_eq_false];intro y hy;obtain⟨z,t,Yk⟩:=hk y (Array.mem_toList_iff.mp hy);simp[DictEntry.refKey,Yk]
  have a':¬es.toList.any (·.refKey)=true:=by rw[a];exact bH
  rw[ah a'];exact congrArg some e
def QP.look {h:Heap}{x dx C:ke}{mA:sO}(I:QP h x dx C mA):∃od,PySem.W.InstAt h x (jO C dx) C (some od)/\∀name,zL name od=some (mA name):=
 let ⟨od,ho,hl⟩:=VB I.ns
 ⟨od,⟨I.obj,Z,Z,ho⟩,hl⟩
section
variable{prog:bJ}{w:cz}{A:Around}{E:kc}{s:aL}{K:au}{x dx C f:ke}{mA:sO}{name:Str}{v:jm}
def get_map {Ru:Bool}{Q:kc}(X:K.In s.heap)(I:QP s.heap x dx C mA)(hg:vM K C name=true)(hh:DK K C=true)
  (ha:ik K (.ref C) name=some none) (hv:mA name=some v) (hv':Xj v=true) (h:Q v {s with toks:=s.toks+1}):
  bw (bA prog w) A (aa5 (.ref x) name Ru) Q E s:=by
 obtain⟨od,J,hl⟩:=I.look;exact PySem.W.get_value X J (AV hg).1 (PySem.W.findObj_own hh ha rfl (by rw[hl,hv])) hv' h
def Ya {pl:Sem Bool}{Q:jm×List jm->aL->Prop}(X:K.In s.heap)(I:QP s.heap x dx C mA)(hg:vM K C name=true)
  (hf:ik K (.ref C) name=some (some (.ref f))) (ht:xr K (.ref f)=true) (hv:mA name=none) (h:Q (.ref f,[.ref x]) s):
  bw (bA prog w) A (wF (.ref x) name pl) Q E s:=by
 obtain⟨od,J,hl⟩:=I.look;exact PySem.W.method_fn X J (AV hg).1 (AV hg).2 hf (beq_iff_eq.mp ht) (by show(zL name od).map (·.isSome)=some false;rw[hl,hv];rfl) h
def acF {ns:mX}{Q:Unit->aL->Prop}(X:K.In s.heap)(I:QP s.heap x dx C mA)
  (hs:ik K (.ref C) "__setattr__"=some (some (.builtin "object.__setattr__"))) (hp:WE K C=true) (ht:Hm K C name=some none) (hh:DK K C=true)
  (hw:FK mA ns) (hsz:ns.length<=bu)
  (h:∀h',QP h' x dx C (λy=>if y=name then some v else mA y)->Heap.SameBut dx s.heap h'->Q () {s with heap:=h',toks:=s.toks+2}):
  bw (bA prog w) A (setAttr (.ref x) name v) Q E s:=by
 obtain⟨od,J,hl⟩:=I.look;refine PySem.W.set_plain X J hs (PySem.W.osa_open (s:={s with toks:=s.toks+1}) (r:=none) X J hp ht λb=>?_);obtain⟨cd,hc,hd'⟩:=PySem.W.any_some hh;have hx:s.heap.get? x=some ⟨.ref C,some dx,.plain,#[]⟩:=I.obj;refine aR (bV (aR (aR (wpAny_loadPart hx (aR (amW (s:={s with toks:=s.toks+1}) (PySem.W.looks_clsIn X hc) ?_))))));rw[hd'];refine bV (a:=some dx) (aR (bV (aR ?_)));refine wpAny_nsSet1 (s:={s with toks:=s.toks+1}) I.ns λh' hn2 KH=>?_;obtain⟨oD,esD,epD,hoD,hdD,hcD⟩:=hn2.count (aq3 name v hw);refine aR (amt hoD (by rw[hdD];exact amq (bt hcD (by rw[aZ];lia))) ?_);exact bV (h _ ⟨(KH.2 _ (eK I.ne)).trans I.obj,hn2,I.ne⟩ KH)
def YO {R:Result->aL->Prop}{vs:gU}{kw:List (Str×jm)}(X:K.In s.heap)(hm:aaG K C=true)
  (hi:ik K (.ref C) "__init__"=some (some (.ref f))) (hf:abn K (.ref f)=some (.type "function"))
  (h:vv (bA prog w) (A.under (.builtin "type.__call__" ⟨.ref C::vs,kw⟩)) (.call (.ref f) ⟨.ref (s.heap.objs.size+1)::vs,kw⟩) (PySem.W.InitBack (s.heap.objs.size+1) R)
   {s with heap:=(s.heap.push gB).push (jO C s.heap.objs.size)}):
  vv (bA prog w) A (.call (.ref C) ⟨vs,kw⟩) R s:=by
 obtain⟨hh,g,d,t,os⟩:=s;exact PySem.W.make_core (PySem.W.makes_of X hm) (PySem.W.looks_findIn X hi) (λself=>PySem.W.bind_fn X self hf) (.inl rfl) h
end
def vm (f:Str)(v:V):List (Str×V)->List (Str×V)
 |[]=>[(f,v)]
 |(g,x)::r=>if g=f then(g,v)::r else(g,x)::vm f v r
theorem yB (f g:Str)(v:V):∀fs:List (Str×V),(vm f v fs).lookup g=if g=f then some v else fs.lookup g
 |[]=>by
  show lB g [(f,v)]=_;by_cases h:g=f
  .have hb:(g==f)=true:=beq_iff_eq.mpr h;simp only[lB,hb,aj h]
  .have hb:(g==f)=false:=beq_eq_false_iff_ne.mpr h;simp only[lB,hb,ah h]
 |(k,x)::r=>by
  have ih:=yB f g v r;rw[show vm f v ((k,x)::r)=(if k=f then(k,v)::r else(k,x)::vm f v r) from rfl];by_cases hk:k=f
  .rw[aj hk];by_cases h:g=k
   .have hb:(g==k)=true:=beq_iff_eq.mpr h;simp only[lB,hb,aj (h.trans hk)]
   .have hb:(g==k)=false:=beq_eq_false_iff_ne.mpr h;simp only[lB,hb,ah (λe:g=f=>h (e.trans hk.symm))]
  .rw[ah hk];by_cases h:g=k
   .have hb:(g==k)=true:=beq_iff_eq.mpr h;simp only[lB,hb,ah (λe:g=f=>hk (h.symm.trans e))]
   .have hb:(g==k)=false:=beq_eq_false_iff_ne.mpr h;simp only[lB,hb];exact ih
theorem u9 (f:Str)(v:V):∀fs:List (Str×V),f∈(vm f v fs).map (·.1)/\∀g,g∈fs.map (·.1)->g∈(vm f v fs).map (·.1)
 |[]=>⟨by simp[vm],λg h=>by simp at h⟩
 |(k,x)::r=>by
  obtain⟨i1,i2⟩:=u9 f v r;rw[show vm f v ((k,x)::r)=(if k=f then(k,v)::r else(k,x)::vm f v r) from rfl];by_cases hk:k=f
  .rw[aj hk];subst hk;exact⟨by simp,λg h=>by simpa using h⟩
  .rw[ah hk];refine⟨?_,λg h=>?_⟩
   .rw[cy];exact aP _ i1
   .rw[cy] at h|-
    rcases bo.mp h with e|e
    .exact bo.mpr (.inl e)
    .exact aP _ (i2 g e)
theorem ET (f:Str)(v:V):∀fs:List (Str×V),(vm f v fs).length<=fs.length+1
 |[]=>by simp[vm]
 |(k,x)::r=>by
  have ih:=ET f v r;rw[show vm f v ((k,x)::r)=(if k=f then(k,v)::r else(k,x)::vm f v r) from rfl];by_cases hk:k=f
  .rw[aj hk,aZ,aZ];lia
  .rw[ah hk,aZ,aZ];lia
def uu.some_of {v:V}{o:Option jm}(r:uu (some v) o):∃u,o=some u/\RelV v u:=by
 cases o with
 |none=>exact(show False from r).elim
 |some u=>exact⟨u,Z,r⟩
def uu.none_of {o:Option jm}(r:uu none o):o=none:=by
 cases o with
 |none=>rfl
 |some u=>exact(show False from r).elim
def Lv {v:V}{u:jm}(r:RelV v u):Xj u=true:=by
 cases v with
 |gS=>cases(show u=Value.none from r);rfl
 |bl b=>cases(show u=Value.bool b from r);rfl
 |int i=>obtain⟨t,e⟩:=(show∃t,u=Value.int i t from r);cases e;rfl
 |str x=>obtain⟨t,e⟩:=(show∃t,u=Value.str x t from r);cases e;rfl
 |EH b=>obtain⟨t,e⟩:=(show∃t,u=Value.bytes b t from r);cases e;rfl
 |flt b=>obtain⟨t,e⟩:=(show∃t,u=Value.float b t from r);cases e;rfl
 |ref a=>cases(show u=Value.ref a from r);rfl
 |ty n=>cases(show u=Value.type n from r);rfl
section
variable{P:bJ}{w:cz}{H H':Hp}{h h':Heap}{a C dx:ke}{fs fs':List (Str×V)}
def M4 (fV:wK P w H h)(e:H a=some (.ins C dx fs)):∃mA,QP h a dx C mA/\(∀f,uu (fs.lookup f) (mA f))/\FK mA (fs.map (·.1))/\fs.length<=1000/\H dx=some (.own a):=by
 obtain⟨d,z,ne,ob,mA,n,r,q⟩:=(show ju P w H h a (.ins C dx fs) from fV a _ e);exact⟨mA,⟨ob,n,ne⟩,r,q,z,d⟩
end
structure Cls (K:au)(C:ke):Prop where
 pg:vM K C Str.empty=true
 hd:DK K C=true
 po:WE K C=true
 sa:ik K (.ref C) "__setattr__"=some (some (.builtin "object.__setattr__"))
def Cls.get {K:au}{C:ke}(c:Cls K C)(f:Str):vM K C f=true:=c.pg
def Hj (K:au)(C:ke)(f:Str):Prop:=ik K (.ref C) f=some none
def Hj.akV {K:au}{C:ke}{f:Str}(n:Hj K C f):Hm K C f=some none:=by
 unfold Hm;rw[show ik K (.ref C) f=some none from n];rfl
structure Meth (K:au)(C:ke)(m:Str)(f:ke):Prop where
 at_:ik K (.ref C) m=some (some (.ref f))
 fn:xr K (.ref f)=true
 kp:il K (.ref f)=true
section
variable{X:Cx}{aA:jz}{σ:St}{H:Hp}{s:aL}{a C dx:ke}{fs:List (Str×V)}{f:Str}{v:V}{A:Around}{E:kc}
def Il {b:Bool}{Q:kc}(I:Inv X aA σ H s)(e:H a=some (.ins C dx fs))(c:Cls X.K C)(n:Hj X.K C f)(l:fs.lookup f=some v)
  (h:∀u s',Inv X aA σ H s'->RelV v u->Q u s'):bw (bA X.prog X.w) A (aa5 (.ref a) f b) Q E s:=by
 obtain⟨mA,O,r,_,_,_⟩:=M4 I.fV e;obtain⟨u,hu,ru⟩:=uu.some_of (v:=v) (o:=mA f) (by rw[<-l];exact r f);exact get_map I.zf O (c.get f) c.hd n hu (Lv ru) (h u _ (I.tok _) ru)
def Bh {m:Str}{g:ke}{pl:Sem Bool}{Q:jm×List jm->aL->Prop}(I:Inv X aA σ H s)(e:H a=some (.ins C dx fs))(c:Cls X.K C)(k:Meth X.K C m g)(l:fs.lookup m=none)
  (h:Q (.ref g,[.ref a]) s):bw (bA X.prog X.w) A (wF (.ref a) m pl) Q E s:=by
 obtain⟨mA,O,r,_,_,_⟩:=M4 I.fV e;have hn:mA m=none:=uu.none_of (by rw[<-l];exact r m);exact Ya I.zf O (c.get m) k.at_ k.fn hn h
def JB {y:V}{u:jm}{Q:Unit->aL->Prop}(I:Inv X aA σ H s)(e:H a=some (.ins C dx fs))(c:Cls X.K C)(n:Hj X.K C f)(hl:fs.length<1000)(ry:RelV y u)
  (h:∀s',Inv X aA σ (upd H a (.ins C dx (vm f y fs))) s'->Q () s'):bw (bA X.prog X.w) A (setAttr (.ref a) f u) Q E s:=by
 obtain⟨mA,O,r,wi,_,ho⟩:=M4 I.fV e;have hz:(fs.map (·.1)).length<=bu:=by rw[aB,aE];lia
 refine acF I.zf O c.sa c.po n.akV c.hd wi hz λh' O' sb=>h _ ?_;have hd:∃o,h'.get? dx=some o:=let ⟨o,_,_,e',_⟩:=O'.ns;⟨o,e'⟩;refine I.write (x:=a) (e:=dx) (by rw[e];exact m7) (.inr ho) (λb q hb z=>(sb.2 b hb).trans z) hd ?_;refine⟨by rw[aF O.ne];exact ho,?_,O.ne,O'.obj,_,O'.ns,λg=>?_,λg hg=>?_⟩
 .have:=ET f y fs;lia
 .show uu ((vm f y fs).lookup g) (if g=f then some u else mA g);rw[yB];by_cases q:g=f
  .rw[aj q,aj q];exact ry
  .rw[ah q,ah q];exact r g
 .by_cases q:g=f
  .rw[q];exact(u9 f y fs).1
  .refine(u9 f y fs).2 g (wi g λz=>hg ?_);show(if g=f then some u else mA g)=none;rw[ah q];exact z
def Inv.made (I:Inv X aA σ H s):Inv X aA σ (upd (upd H s.heap.objs.size (.own (s.heap.objs.size+1))) (s.heap.objs.size+1) (.ins C s.heap.objs.size []))
  {s with heap:=(s.heap.push gB).push (jO C s.heap.objs.size)}:=by
 have e1:(s.heap.push gB).get? s.heap.objs.size=some gB:=Heap.get?_push_size s.heap rfl;have e2:((s.heap.push gB).push (jO C s.heap.objs.size)).get? (s.heap.objs.size+1)=some (jO C s.heap.objs.size):=by
  have:=Heap.get?_push_size (s.heap.push gB) (o:=jO C s.heap.objs.size) rfl
  rwa [Heap.size_push] at this
 have e3:(s.heap.push gB).Ns s.heap.objs.size (λ_=>none):=⟨gB,#[],_,e1,Z,(λe he=>absurd he (by simp)),λ_=>rfl⟩;have I1:=I.laid (a:=s.heap.objs.size) (o:=.own (s.heap.objs.size+1)) (h':=s.heap.push gB) (t':=s.toks) (λb u q=>Heap.get?_push_of_some _ q) (bq _) ⟨_,e1⟩;refine I1.laid (a:=s.heap.objs.size+1) (o:=.ins C s.heap.objs.size []) (t':=s.toks) (λb u q=>Heap.get?_push_of_some _ q) (f7 (Heap.size_push _ _)) ?_;have ne:s.heap.objs.size≠s.heap.objs.size+1:=cH (gn _);refine⟨by rw[aF ne,aq],eU _,ne,e2,λ_=>none,(Heap.Ns1.of_empty e3).at λo q=>Heap.get?_push_of_some _ q,λ_=>m7,λy hy=>absurd rfl hy⟩
def Tj {prog:bJ}{w:cz}{env:Env}{e:Expr}{f:Str}{cN:Pos}{s:aL}{Q:kc}(hb:mT e f env (eval e env)=eval e env)
  (h:bw (bA prog w) A (eval e env) (λo ip=>bw (bA prog w) A (aa5 o f true) Q E ip) E s):bw (bA prog w) A (eval (.Attribute e f cN) env) Q E s:=
 Attribute_any_ h (by rw[arm_eval_Attribute,hb])
end
def aii (X:Cx)(op:UC)(rd:V->V->Hp->VK->Prop):Prop:=
 ∀(aA:jz) (s:aL) (σ:St) (H:Hp) (x y:V) (u v:jm) (Q:VK),Inv X aA σ H s->RelV x u->RelV y v->rd x y H Q->bw (bA X.prog X.w) X.A (inplaceOp op u v) (EP X aA σ Q) X.xe s
section
variable{X:Cx}{o e iY:Expr}{f:Str}{cN xA JI:Pos}{ta tv:TE}
inductive apL (x:V)(y:V)(H:Hp)(Q:VK):Prop|i i j(_:x=.int i)(_:y=.int j)(_:Q (.int (i+j)) H)
def YC:aii X .Add apL:=by
 rintro aA s σ H x y u v Q I rx ry ⟨i,j,rfl,rfl,q⟩;obtain⟨t,rfl⟩:=(show∃t,u=Value.int i t from rx);obtain⟨t',rfl⟩:=(show∃t',v=Value.int j t' from ry);exact aqO ⟨.int (i+j),H,I.tok _,⟨_,Z⟩,q⟩
def ad7 {pl:Sem Bool}{m:Str}{kM:Pos}{args:FD}{aA:jz}{s:aL}{σ:St}{H:Hp}{Q:kc}{te:TE}(he:PE X e te)(I:Inv X aA σ H s)
  (h:te σ H λx H1=>∃a C dx fs g,x=.ref a/\H1 a=some (.ins C dx fs)/\Cls X.K C/\Meth X.K C m g/\fs.lookup m=none/\
   ∀s1,Inv X aA σ H1 s1->bw (bA X.prog X.w) X.A (Fw cN (.ref g) [.ref a] (m9 cN (dv args X.env)) (xi cN (oA [] X.env))) Q X.xe s1)
  (ht:eval (.Call (.Attribute e m kM) args [] cN) X.env=(do
   let ov<-eval e X.env
   BR kM.atName
   let (f,first)<-vw [ov] (wF ov m pl)
   Fw cN f first (m9 cN (dv args X.env)) (xi cN (oA [] X.env)))):
  bw (bA X.prog X.w) X.A (eval (.Call (.Attribute e m kM) args [] cN) X.env) Q X.xe s:=by
 refine qg (pl:=pl) (je (he aA s σ H _ I h) λu s1 ⟨x,H1,I1,rx,a,C,dx,fs,g,ex,ea,c,k,l,q⟩=>?_) ht;subst ex;obtain rfl:u=Value.ref a:=rx;exact Bh I1 ea c k l (q s1 I1)
end
section
variable{X:Cx}{aA:jz}{σ:St}{H:Hp}{s:aL}{A:Around}{E:kc}{Q:kc}{c:jm}{b:Bool}
end
open PySem PySem.Spec PyProof.Rows
structure lC (k:Nat)(A:Around):Prop where
 hd:A.handled=none
 dp:A.depth+3*k+5<UH
 un:A.units+16*k+200<L8
def lC.mono {j k:Nat}{A:Around}(r:lC k A)(h:j<=k):lC j A:=⟨r.hd,by have:=r.dp;lia,by have:=r.un;lia⟩
def lC.deeper {k:Nat}{A:Around}(r:lC (k+1) A)(env:Env):lC k (A.deeper env):=
 ⟨r.hd,by have:=r.dp;show A.depth+1+3*k+5<_;lia,by have:=r.un;show A.units+3+16*k+200<_;lia⟩
def IK {A:Around}{C:ke}{us:gU}{kw:List (Str×jm)}:(A.under (.builtin "type.__call__" ⟨.ref C::us,kw⟩)).depth=A.depth+1:=by
 first|rfl|simp[Around.under,Code.weight,Code.isCreation,Code.isGuard,Code.isCaller,Code.frames,Code.isFrame,guardIds]
def IL {A:Around}{C:ke}{us:gU}{kw:List (Str×jm)}:(A.under (.builtin "type.__call__" ⟨.ref C::us,kw⟩)).units=A.units+1:=by
 first|rfl|simp[Around.under,Code.cUnits,Code.frames,Code.isFrame]
def lC.make {k:Nat}{A:Around}(r:lC (k+1) A)(C:ke)(us:gU)(kw:List (Str×jm)):lC k (A.under (.builtin "type.__call__" ⟨.ref C::us,kw⟩)):=
 ⟨r.hd,by have:=r.dp;rw[IK];lia,by have:=r.un;rw[IL];lia⟩
def lC.depth {k:Nat}{A:Around}(r:lC k A):A.depth<UH:=by have:=r.dp;lia
def lC.units {k:Nat}{A:Around}(r:lC k A):A.units+64<L8:=by have:=r.un;lia
def Gx:TA:=λ_ H Q=>Q [] H
def JF (ta:TE)(tr:TA):TA:=λσ H Q=>ta σ H λx H1=>tr σ H1 λxs H2=>Q (x::xs) H2
section
variable{X:Cx}{e:Expr}{es:FD}{te:TE}{t:TA}{cN:Pos}
def ax:PA X [] Gx:=λ_ _ _ _ H Q I h=>Calls.spliced_nil ⟨[],H,I,.nil,h⟩
def ak (ha:PE X e te)(hr:PA X es t)(hs:autoParam (Su X e es) Z_r):PA X (e::es) (JF te t):=by
 intro cN aA s σ H Q I h;rw[hs];show bw _ _ (spliced ((false,eval e X.env)::m9 cN (dv es X.env))) _ _ s;refine Calls.spliced_cons (je (ha aA s σ H _ I h) λu s1 ⟨x,H1,I1,r1,q1⟩=>?_);exact je (hr cN aA s1 σ H1 _ I1 q1) λus s2 ⟨xs,H2,I2,r2,q2⟩=>⟨x::xs,H2,I2,.cons r1 r2,q2⟩
def aqs (t:TA):TE:=λσ H Q=>t σ H λxs H1=>xs.length<=bu/\∀p,H1 p=none->Q (.ref p) (upd H1 p (.tup xs))
def aqo (t:TA):TE:=λσ H Q=>t σ H λxs H1=>xs.length<=bu/\∀p,H1 p=none->Q (.ref p) (upd H1 p (.lst xs))
def s_ {x1}(h:PA X es t):PE X (.Tuple es x1 cN) (aqs t):=by
 intro aA s σ H Q I hq;refine wpAny_Tuple_spliced (je (h cN aA s σ H _ I hq) λus s1 ⟨xs,H1,I1,r,z,q⟩=>⟨by rw[<-r.length];exact z,?_⟩);have hf:H1 s1.heap.objs.size=none:=I1.fV.fresh (bq _);refine⟨.ref s1.heap.objs.size,upd H1 s1.heap.objs.size (.tup xs),I1.laid (t':=s1.toks) (λb u e=>Heap.get?_push_of_some _ e) (bq _) ?_,Z,q _ hf⟩;exact⟨z,us,r,⟨_,Heap.get?_push_size _ rfl,Z,_,Z⟩⟩
def eE (h:PA X es t):PE X (.List es cN) (aqo t):=by
 intro aA s σ H Q I hq;refine wpAny_List_spliced (je (h cN aA s σ H _ I hq) λus s1 ⟨xs,H1,I1,r,z,q⟩=>⟨by rw[<-r.length];exact z,?_⟩);have hf:H1 s1.heap.objs.size=none:=I1.fV.fresh (bq _);refine⟨.ref s1.heap.objs.size,upd H1 s1.heap.objs.size (.lst xs),I1.laid (t':=s1.toks) (λb u e=>Heap.get?_push_of_some _ e) (bq _) ?_,Z,q _ hf⟩;exact⟨z,us,0,r,Heap.get?_push_size _ rfl⟩
end
abbrev Sp:=b_->Hp->VK->XK->Prop
abbrev NY:=List Env->Hp->aL->XK->kc
structure Kb (P:bJ)(w:cz)(K:au)(mg:sO)(lQ:Heap)(A:Around)(outer:List Env)(s:aL)(H:Hp):Prop where
 frames:A.frames=some outer
 mod:Mod K mg lQ
 bs:∀b o,lQ.get? b=some o->s.heap.get? b=some o/\H b=none
 QX:lQ.objs.size<=s.heap.objs.size
 yw:s.heap.FunFrames lQ outer
 QE:∀b∈Gh outer,H b=none
 fV:wK P w H s.heap
 bare:Gz s.gens
inductive CE (outer:List Env)(P:bJ)(w:cz)(H:Hp)(s:aL)(Q:VK)(u:jm)(s':aL):Prop|i v H'(_:s'.os=s.os)(_:Gz s'.gens)(_:Un (Gh outer) [] H H' s.heap s'.heap)(_:wK P w H' s'.heap)(_:RelV v u)(_:Q v H')
def CR (CX:NY)(outer:List Env)(P:bJ)(w:cz)(H:Hp)(s:aL)(Q:VK)(E:XK)(r:Result)(s':aL):Prop:=
 match r with
 |.ok (.ret u)=>CE outer P w H s Q u s'
 |.ok _=>False
 |.error e=>CX outer H s E e s'
structure lx (P:bJ)(w:cz)(K:au)(mg:sO)(lQ:Heap)(CX:NY)(k:Nat)(f:ke)(fd:eO)(ps:mX)(sp:Sp):Prop where
 len:∀vs H Q E,sp vs H Q E->vs.length=ps.length
 run:∀(A:Around) (outer:List Env) (s:aL) (H:Hp) (args:Args) (us:gU) (vs:b_) (Q:VK) (E:XK),lC k A->Kb P w K mg lQ A outer s H->L7 s fd args (ps.zip us)->Vals vs us->sp vs H Q E->
  vv (bA P w) A (.call (.ref f) args) (CR CX outer P w H s Q E) s
def Kb.make {P:bJ}{w:cz}{K:au}{mg:sO}{lQ:Heap}{A:Around}{outer:List Env}{s:aL}{H:Hp}(e:Kb P w K mg lQ A outer s H)(C:ke)(us:gU)(kw:List (Str×jm)):
  Kb P w K mg lQ (A.under (.builtin "type.__call__" ⟨.ref C::us,kw⟩)) outer s H:=⟨by first|exact e.frames|(simpa[Around.under,Code.envs,Code.isFrame,pushEnvs] using e.frames),e.mod,e.bs,e.QX,e.yw,e.QE,e.fV,e.bare⟩
section
variable{X:Cx}{aA:jz}{σ:St}{H:Hp}{s s':aL}
def Inv.jx (I:Inv X aA σ H s):Kb X.prog X.w X.K X.mg X.lQ X.A X.stack s H:=
 ⟨I.ok.frames,I.ok.mod,I.bs,bt I.ok.QX I.sz,I.stack,I.NO,I.fV,I.bare⟩
def Inv.after {Q:VK}{u:jm}(I:Inv X aA σ H s)(h:CE X.stack X.prog X.w H s Q u s'):EP X aA σ Q u s':=by
 obtain⟨v,H',os,bare,un,fV,r,q⟩:=h;obtain⟨hh,g,d,t,os'⟩:=s';obtain rfl:os'=s.os:=os;exact⟨v,H',I.call (h':=hh) (g':=g) (d':=d) (t':=t) (ch:=[]) un fV bare (λb z=>absurd z (by simp)),r,q⟩
end
def aev (sp:Sp)(BI:b_)(E:XK)(t:TA):TE:=λσ H Q=>t σ H λvs H1=>sp (vs++BI) H1 Q E
inductive agY (C:ke)(m:Str)(sp:Sp)(BI:b_)(E:XK)(t:TA)(σ:St)(Q:VK)(x:V)(H1:Hp):Prop|i a dx fs(_:x=.ref a)(_:H1 a=some (.ins C dx fs))(_:fs.lookup m=none)(_:t σ H1 λvs H2=>sp (x::(vs++BI)) H2 Q E)
def JG (C:ke)(m:Str)(sp:Sp)(BI:b_)(E:XK)(ta:TE)(t:TA):TE:=λσ H Q=>ta σ H (agY C m sp BI E t σ Q)
def Z0 (C:ke)(sp:Sp)(BI:b_)(E:XK)(t:TA):TE:=λσ H Q=>t σ H λvs H1=>∀x dx,H1 x=none->H1 dx=none->dx≠x->
 sp (.ref x::(vs++BI)) (upd (upd H1 dx (.own x)) x (.ins C dx [])) (λv H2=>v=.gS/\Q (.ref x) H2) E
def Binds (K:au)(fd:eO)(ps:mX)(ds:gU):Prop:=
 ∀(s:aL) (us:gU),K.In s.heap->(us++ds).length=ps.length->L7 s fd ⟨us,[]⟩ (ps.zip (us++ds))
def Binds.all {K:au}{fd:eO}{ps:mX}(h:∀us:gU,us.length=ps.length->bindArgs fd ⟨us,[]⟩=pure (ps.zip us)):Binds K fd ps []:=λs us _ hl=>by
 rw[fX] at hl|-
 exact .of_eq (h us hl)
def Passes (CX:NY)(X:Cx)(E:XK):Prop:=∀(aA:jz) (σ:St) (H:Hp) (s:aL) (e:jm) (s':aL),Inv X aA σ H s->CX X.stack H s E e s'->X.xe e s'
section
variable{X:Cx}{CX:NY}{k:Nat}{f C:ke}{fd:eO}{ps:mX}{sp:Sp}{BI:b_}{ds:gU}{E:XK}{x m:Str}{p cN kM:Pos}{e o:Expr}{es:FD}{ta:TE}{t:TA}
def NI {aA:jz}{σ:St}{H:Hp}{s:aL}{Q:VK}{us:gU}{vs:b_}(F:lx X.prog X.w X.K X.mg X.lQ CX k f fd ps sp)(hr:lC k X.A)(hb:Binds X.K fd ps ds)(hd:Vals BI ds)(hx:Passes CX X E)
  (I:Inv X aA σ H s) (r:Vals vs us) (h:sp (vs++BI) H Q E):bw (bA X.prog X.w) X.A (call (.ref f) us) (EP X aA σ Q) X.xe s:=by
 have r2:Vals (vs++BI) (us++ds):=r.append hd;have hl:(us++ds).length=ps.length:=by rw[<-r2.length];exact F.len _ _ _ _ h
 refine BS (BQ (F.run X.A X.stack s H ⟨us,[]⟩ (us++ds) (vs++BI) Q E hr I.jx (hb s us I.zf hl) r2 h) λr s' hq=>?_);cases r with
 |error e=>exact hx aA σ H s e s' I hq
 |ok fl=>
  cases fl with
  |ret u=>exact I.after hq
  |next=>exact dU hq
  |brk=>exact dU hq
  |cont=>exact dU hq
def acn (F:lx X.prog X.w X.K X.mg X.lQ CX k f fd ps sp)(hr:lC k X.A)(hg:Gl X x)(hm:X.mg x=some (.ref f))(hk:il X.K (.ref f)=true)(hb:Binds X.K fd ps ds)(hd:Vals BI ds)(hx:Passes CX X E)
  (ha:PA X (e::es) t) (D6:autoParam (DD x) Z_d) (he:autoParam (Su X e es) Z_r) (ou:autoParam (sHb X cN es) Z_r):
  PE X (.Call (.Name x p) (e::es) [] cN) (aev sp BI E t):=by
 intro aA s σ H Q I h;refine fC (rV I hg hm ?_ D6);refine lg (h₀:=X.lQ) I.ok.mod.uD hk (je (ha cN aA s σ H _ I h) λus s1 ⟨vs,H1,I1,r,q⟩=>⟨I1.zf,?_⟩) he ou;exact NI F hr hb hd hx I1 r q
def acq {pl:Sem Bool}(he:PE X o ta)(c:Cls X.K C)(hm:Meth X.K C m f)(F:lx X.prog X.w X.K X.mg X.lQ CX k f fd ps sp)(hr:lC k X.A)(hb:Binds X.K fd ps ds)(hd:Vals BI ds)(hx:Passes CX X E)(ha:PA X (e::es) t)
  (uA:autoParam (Su X e es) Z_r) (ou:autoParam (sHb X cN es) Z_r)
  (ht:eval (.Call (.Attribute o m kM) (e::es) [] cN) X.env=(do
   let ov<-eval o X.env
   BR kM.atName
   let (f,first)<-vw [ov] (wF ov m pl)
   Fw cN f first (m9 cN (dv (e::es) X.env)) (xi cN (oA [] X.env))):=by rfl):
  PE X (.Call (.Attribute o m kM) (e::es) [] cN) (JG C m sp BI E ta t):=by
 intro aA s σ H Q I h;refine qg (pl:=pl) (je (he aA s σ H _ I h) λu s1 ⟨x,H1,I1,rx,a,dx,fs,ex,ea,l,q⟩=>?_) ht;subst ex;obtain rfl:u=Value.ref a:=rx;refine Bh I1 ea c hm l ?_;refine lg (first:=[.ref a]) (h₀:=X.lQ) I.ok.mod.uD hm.kp (je (ha cN aA s1 σ H1 _ I1 q) λus s2 ⟨vs,H2,I2,r,q2⟩=>⟨I2.zf,?_⟩) uA ou;exact NI (us:=.ref a::us) (vs:=.ref a::vs) F hr hb hd hx I2 (.cons rfl r) q2
def Zd {pl:Sem Bool}(he:PE X o ta)(c:Cls X.K C)(hm:Meth X.K C m f)(F:lx X.prog X.w X.K X.mg X.lQ CX k f fd ps sp)(hr:lC k X.A)(hb:Binds X.K fd ps ds)(hd:Vals BI ds)(hx:Passes CX X E)
  (ht:eval (.Call (.Attribute o m kM) [] [] cN) X.env=(do
   let ov<-eval o X.env
   BR kM.atName
   let (f,first)<-vw [ov] (wF ov m pl)
   Fw cN f first (m9 cN (dv [] X.env)) (xi cN (oA [] X.env))):=by rfl):
  PE X (.Call (.Attribute o m kM) [] [] cN) (JG C m sp BI E ta Gx):=by
 intro aA s σ H Q I h;refine qg (pl:=pl) (je (he aA s σ H _ I h) λu s1 ⟨x,H1,I1,rx,a,dx,fs,ex,ea,l,q⟩=>?_) ht;subst ex;obtain rfl:u=Value.ref a:=rx;refine Bh I1 ea c hm l ?_;exact rZ (first:=[.ref a]) I1.zf hm.kp (NI (us:=[.ref a]) (vs:=[.ref a]) F hr hb hd hx I1 (.cons rfl .nil) q)
structure Mk (K:au)(C f:ke):Prop where
 makes:aaG K C=true
 init:ik K (.ref C) "__init__"=some (some (.ref f))
 fn:xr K (.ref f)=true
 kp:il K (.ref C)=true
def Qk {aA:jz}{σ:St}{H:Hp}{s:aL}{Q:VK}{us:gU}{vs:b_}(M:Mk X.K C f)(F:lx X.prog X.w X.K X.mg X.lQ CX k f fd ps sp)(hr:lC (k+1) X.A)(hb:Binds X.K fd ps ds)(hd:Vals BI ds)
  (hx:Passes CX X E) (I:Inv X aA σ H s) (r:Vals vs us)
  (h:∀x dx,H x=none->H dx=none->dx≠x->sp (.ref x::(vs++BI)) (upd (upd H dx (.own x)) x (.ins C dx [])) (λv H2=>v=.gS/\Q (.ref x) H2) E):
  bw (bA X.prog X.w) X.A (call (.ref C) us) (EP X aA σ Q) X.xe s:=by
 have hq:=h (s.heap.objs.size+1) s.heap.objs.size (I.fV.fresh (jt _)) (I.fV.fresh (bq _)) (cH (gn _));have I2:=Inv.made (C:=C) I;have r2:Vals (V.ref (s.heap.objs.size+1)::(vs++BI)) (Value.ref (s.heap.objs.size+1)::(us++ds)):=.cons rfl (r.append hd);have hl:(Value.ref (s.heap.objs.size+1)::us++ds).length=ps.length:=by
  have e:=r2.length;rw[F.len _ _ _ _ hq] at e;exact e.symm
 refine BS (YO (f:=f) I.zf M.makes M.init (beq_iff_eq.mp M.fn) (BQ (F.run _ X.stack _ _ ⟨Value.ref (s.heap.objs.size+1)::us,[]⟩ (Value.ref (s.heap.objs.size+1)::(us++ds)) _ _ E (hr.make C us [])
  (I2.jx.make C us []) (hb _ (Value.ref (s.heap.objs.size+1)::us) I2.zf hl) r2 hq) λr s' hq'=>?_))
 cases r with
 |error e=>exact hx aA σ _ _ e s' I2 hq'
 |ok fl=>
  cases fl with
  |ret u=>
   obtain⟨v,H',I3,rv,ev,q3⟩:=I2.after hq';subst ev;exact⟨rv,⟨V.ref (s.heap.objs.size+1),H',I3,Z,q3⟩⟩
  |next=>exact dU hq'
  |brk=>exact dU hq'
  |cont=>exact dU hq'
def acp (M:Mk X.K C f)(F:lx X.prog X.w X.K X.mg X.lQ CX k f fd ps sp)(hr:lC (k+1) X.A)(hg:Gl X x)(hm:X.mg x=some (.ref C))(hb:Binds X.K fd ps ds)(hd:Vals BI ds)(hx:Passes CX X E)
  (ha:PA X (e::es) t) (D6:autoParam (DD x) Z_d) (he:autoParam (Su X e es) Z_r) (ou:autoParam (sHb X cN es) Z_r):
  PE X (.Call (.Name x p) (e::es) [] cN) (Z0 C sp BI E t):=by
 intro aA s σ H Q I h;refine fC (rV I hg hm ?_ D6);refine lg (h₀:=X.lQ) I.ok.mod.uD M.kp (je (ha cN aA s σ H _ I h) λus s1 ⟨vs,H1,I1,r,q⟩=>⟨I1.zf,?_⟩) he ou;exact Qk M F hr hb hd hx I1 r q
def P5 (M:Mk X.K C f)(F:lx X.prog X.w X.K X.mg X.lQ CX k f fd ps sp)(hr:lC (k+1) X.A)(hg:Gl X x)(hm:X.mg x=some (.ref C))(hb:Binds X.K fd ps ds)(hd:Vals BI ds)(hx:Passes CX X E)
  (D6:autoParam (DD x) Z_d):PE X (.Call (.Name x p) [] [] cN) (Z0 C sp BI E Gx):=by
 intro aA s σ H Q I h;refine fC (rV I hg hm ?_ D6);exact rZ I.zf M.kp (Qk (us:=[]) M F hr hb hd hx I .nil h)
end
section
variable{X:Cx}{CX:NY}{k:Nat}{f C:ke}{fd:eO}{ps ks:mX}{sp:Sp}{E:XK}{x m:Str}{p cN kM af1:Pos}{e o:Expr}{es:FD}{kws:List aa4}{te ta:TE}{t tk:TA}{nm:Option Str}
variable{g:gU->gU->gU}{gV:b_->b_->b_}
end
structure vL (N P:mX)(sc:nA):Prop where
 kind:sc.kind=.function
 co:sc.isCoroutine=false
 gen:sc.isGenerator=false
 nd:N.Nodup
 pre:N.take P.length=P
 par:∀x∈P,sc.names.lookup x=some .local\/sc.names.lookup x=some .cell
 af9:∀y∈sc.names,y.2≠.free
theorem Le {kindOf:Str->Option NameKind}{x:Str}:∀{Ow:List (Str×jm)} {m:sO},(∀v,(x,v)∉Ow)->aao kindOf Ow m x=m x
 |[],_,_=>rfl
 |(n,v)::r,m,h=>by
  unfold aao;rw[Le λw hw=>h w (aP _ hw)];split
  .have:x≠n:=by rintro rfl;exact h v aU
   simp[this]
  .rfl
theorem Lc {kindOf:Str->Option NameKind}{x:Str}:∀{Ow:List (Str×jm)} {m:sO},(∀v,(x,v)∉Ow)->aan kindOf Ow m x=m x
 |[],_,_=>rfl
 |(n,v)::r,m,h=>by
  unfold aan;rw[Lc λw hw=>h w (aP _ hw)];split
  .rfl
  .have:x≠n:=by rintro rfl;exact h v aU
   simp[this]
theorem Ld {kindOf:Str->Option NameKind}{x:Str}{v:jm}:∀{P:mX} {vs:gU} {i:Nat} {m:sO},P.Nodup->P[i]? =some x->vs[i]? =some v->kindOf x=some .local->
  aao kindOf (P.zip vs) m x=some v
 |[],_,_,_,_,h,_,_=>by simp at h
 |_::_,[],_,_,_,_,h,_=>by simp at h
 |p::P,w::vs,0,m,nd,h1,h2,hk=>by
  simp at h1 h2;subst h1;subst h2;show aao kindOf ((p,w)::P.zip vs) m p=_;unfold aao;rw[Le λv hv=>(iV.mp nd).1 (zG hv).1,aj hk];simp
 |p::P,w::vs,i+1,m,nd,h1,h2,hk=>by
  show aao kindOf ((p,w)::P.zip vs) m x=_;unfold aao;exact Ld (i:=i) (iV.mp nd).2 (by simpa using h1) (by simpa using h2) hk
theorem Lb {kindOf:Str->Option NameKind}{x:Str}{v:jm}:∀{P:mX} {vs:gU} {i:Nat} {m:sO},P.Nodup->P[i]? =some x->vs[i]? =some v->kindOf x≠some .local->
  aan kindOf (P.zip vs) m x=some v
 |[],_,_,_,_,h,_,_=>by simp at h
 |_::_,[],_,_,_,_,h,_=>by simp at h
 |p::P,w::vs,0,m,nd,h1,h2,hk=>by
  simp at h1 h2;subst h1;subst h2;show aan kindOf ((p,w)::P.zip vs) m p=_;unfold aan;rw[Lc λv hv=>(iV.mp nd).1 (zG hv).1,ah hk];simp
 |p::P,w::vs,i+1,m,nd,h1,h2,hk=>by
  show aan kindOf ((p,w)::P.zip vs) m x=_;unfold aan;exact Lb (i:=i) (iV.mp nd).2 (by simpa using h1) (by simpa using h2) hk
def start (N:mX)(vs:b_):St:=vs.map some++aM (N.length-vs.length) none
def A3 (CX:NY)(P:bJ)(w:cz)(K:au)(mg:sO)(lQ:Heap)(N:mX)(eV:Str)(bc:nA)(f:ke)(cd:jm)(A:Around)(outer:List Env)(s:aL)(H:Hp)(E:XK):Cx where
 prog:=P
 w:=w
 K:=K
 mg:=mg
 lQ:=lQ
 A:=A.deeper (tJ eV bc s.heap.objs.size f cd)
 N:=N
 s_0:=s
 H_0:=H
 env:=tJ eV bc s.heap.objs.size f cd
 outer:=outer
 stack:=tJ eV bc s.heap.objs.size f cd::outer
 ex:=[]
 calm:=true
 fn:=λ_=>true
 pn:=[]
 xe:=λe s'=>bw (bA P w) (A.deeper (tJ eV bc s.heap.objs.size f cd)) (leaving (tJ eV bc s.heap.objs.size f cd) e) (λ_ s''=>CX outer H s E e s'') (λe' s''=>CX outer H s E e' s'') s'
def OB {sc:nA}{n:Nat}{x:Str}(h:sc.names.lookup x=some .cell):∃c,(fq n sc.names []).lookup x=some c:=by
 have q:=xq sc.names n [] (.inl h);exact cZ.mp q
def LA {CX:NY}{P:bJ}{w:cz}{K:au}{mg:sO}{lQ:Heap}{N ps:mX}{eV:Str}{bc:nA}{f:ke}{cd:jm}{A:Around}{outer:List Env}{s s1:aL}{H:Hp}{E:XK}{us:gU}{vs:b_}
  (S:vL N ps bc) (hd:A.handled=none) (e0:Kb P w K mg lQ A outer s H) (hl:vs.length=ps.length) (r:Vals vs us)
  (x:InCallC s s.heap.objs.size (aao (tJ eV bc s.heap.objs.size f cd).kindOf (ps.zip us) λ_=>none) (fq (s.heap.objs.size+1) bc.names []) (aan (tJ eV bc s.heap.objs.size f cd).kindOf (ps.zip us) λ_=>none) s1):
  Inv (A3 CX P w K mg lQ N eV bc f cd A outer s H E) [] (start N vs) H s1:=by
 have ou:ps.length<=N.length:=by have:=congrArg lA S.pre;rw[cP] at this;lia
 obtain⟨h1,tk,rfl,hk⟩:=x.done;have noA:∀b:ke,b∉(A3 CX P w K mg lQ N eV bc f cd A outer s H E).ex:=λb z=>absurd (show b∈([]:pG) from z) (by simp);refine⟨⟨e0.mod,S.kind,Z,Z,bq _,λy z c h1 h2=>?_,λy hy=>?_,λy c _ h=>?_,λ_=>hd,Around.frames_deeper e0.frames,.inr ⟨Z,Z⟩,λb z=>absurd z (noA b),e0.bs,e0.QX,λb _ _=>noA b,λb z=>absurd z (noA b),e0.yw,e0.QE⟩,
  rfl,e0.bare,Un.kept hk,⟨_,x.toInCall.ns,λi y v h1 h2 h3=>?_⟩,λy c h=>⟨_,x.cell y c h⟩,e0.fV.fresh (bq _),λy c h=>?_,λp hp=>absurd (show p∈([]:jz) from hp) (by simp),e0.fV.kept hk,?_⟩
 .exact name_of_addr x.apart (cv h1) (cv h2)
 .have hy:bc.names.lookup y=some .cell\/bc.names.lookup y=some .free:=hy;rcases hy with hy|hy
  .exact OB hy
  .exact absurd rfl (S.af9 _ (cv hy))
 .exact cG (x.above y c (cv h))
 .have hi:i<vs.length:=by
   unfold start at h2;by_cases hi:i<vs.length
   .exact hi
   .rw[gK (by simpa using hi)] at h2;rw[pH] at h2;split at h2<;>cases h2
  have ha:vs[i]? =some v:=by
   unfold start at h2;rw[jU (by simpa using hi),aw] at h2;cases e:vs[i]? with
   |none=>rw[e] at h2;cases h2
   |some a=>rw[e] at h2;cases h2;rfl
  obtain⟨u,hu,rv⟩:=r.get ha;have hp:ps[i]? =some y:=by
   rw[<-S.pre,wM (by lia)];exact h1
  have ndP:ps.Nodup:=by rw[<-S.pre];exact S.nd.sublist (List.take_sublist _ _)
  refine⟨u,rv,?_⟩;rcases S.par y (az hp) with k|k
  .exact .inl ⟨k,Ld ndP hp hu k⟩
  .obtain⟨c,e⟩:=OB (n:=s.heap.objs.size+1) k;refine .inr ⟨.inl k,c,e,?_⟩;have q:=x.cell y c e;rw[Lb ndP hp hu (by show bc.names.lookup y≠_;rw[k];decide)] at q;exact q
 .exact e0.fV.fresh (cG (x.above y c (cv h)))
 .unfold start;show _=N.length;rw[aO,aB,ic];lia
def adR {CX:NY}{P:bJ}{w:cz}{K:au}{mg:sO}{lQ:Heap}{k:Nat}{f:ke}{name eV:Str}{Y8:Arguments}{qC:List Stmt}{bc:nA}{dV kV Tv pm sQ ct oc:jm}{an od:Option ke}
  {Y6:Array (Option jm)} {N ps:mX} {sp:Sp} (lk:K.lookup f=some ⟨oc,od,.func (sM name eV Y8 qC bc dV kV Tv pm an sQ ct),Y6⟩) (WK:Kd K sQ eV=true) (S:vL N ps bc)
  (QK:∀vs H Q E,sp vs H Q E->vs.length=ps.length)
  (yy:∀(A:Around) (outer:List Env) (s:aL) (H:Hp) (vs:b_) (Q:VK) (E:XK),lC k (A.deeper (tJ eV bc s.heap.objs.size f sQ))->sp vs H Q E->
   ∃t,Kc (A3 CX P w K mg lQ N eV bc f sQ A outer s H E) qC t/\t {nx:=λ_ H'=>Q .gS H',rt:=Q} (start N vs) H):
  lx P w K mg lQ CX (k+1) f (sM name eV Y8 qC bc dV kV Tv pm an sQ ct) ps sp:=by
 refine⟨QK,λA outer s H args us vs Q E hr e0 hb r J0=>?_⟩;have hl:=QK _ _ _ _ J0;have KX:K.In s.heap:=e0.mod.uD.keeps λb o e=>(e0.bs b o e).1;have lim:s.heap.NoLimit:=e0.mod.nolimit.keeps λb o e=>(e0.bs b o e).1;have Yl:∀y∈ps.zip us,bc.names.lookup y.1=some .local\/(bc.names.lookup y.1=some .cell/\((fq (s.heap.objs.size+1) bc.names []).lookup y.1).isSome=true):=λ⟨n,v⟩ hy=>by
  rcases S.par n (zG hy).1 with q|q
  .exact .inl q
  .exact .inr ⟨q,xq _ _ _ (.inl q)⟩
 refine adt hr.depth (KX _ _ lk) rfl S.co S.gen rfl (UY KX WK) (hb _ _ _ _ ?_);refine UI S.kind Yl λenv he s1 x=>?_;subst he;refine⟨lim.keeps x.toInCall.keep,codeAny_func ?_⟩;obtain⟨t,ht,hq⟩:=yy A outer s H vs Q E (hr.deeper _) J0;have I:Inv (A3 CX P w K mg lQ N eV bc f sQ A outer s H E) [] (start N vs) H s1:=LA S hr.hd e0 hl r x;refine dI (ht [] s1 (start N vs) H _ I hq) (λfl s' hs=>?_) λe s' hs=>hs;have fin:∀{gz:St} {H':Hp} {v:V} {u:jm},Inv (A3 CX P w K mg lQ N eV bc f sQ A outer s H E) [] gz H' s'->RelV v u->Q v H'->CE outer P w H s Q u s':=
  λ{gz H' v u} J rv q=>⟨v,H',J.os,J.bare,J.lQ,J.fV,rv,q⟩
 cases fl with
 |ret u=>
  obtain⟨v,gz,H',J,rv,q⟩:=hs;exact fin J rv q
 |next=>
  obtain⟨gz,H',J,q⟩:=hs;exact fin (v:=V.gS) (u:=Value.none) J rfl q
 |brk=>
  obtain⟨_,_,_,q⟩:=hs;exact dU q
 |cont=>
  obtain⟨_,_,_,q⟩:=hs;exact dU q
open PySem PySem.Spec PyProof.Rows
section
variable{X:Cx}{x:Str}{p cN:Pos}{e:Expr}{es:FD}{t:TA}{id T:String}{r:b_->Hp->VK->Prop}
def tCB (r:b_->Hp->VK->Prop)(t:TA):TE:=λσ H Q=>t σ H λvs H1=>r vs H1 Q
def gP (hc:Ey X (.builtin id) r)(hg:Gl X x)(hm:X.mg x=none)(hv:rL x=some (.builtin id))(ha:PA X (e::es) t)(hn:autoParam (x≠"__name__") Z_d)(D6:autoParam (DD x) Z_d)
  (he:autoParam (Su X e es) Z_r) (ou:autoParam (sHb X cN es) Z_r):PE X (.Call (.Name x p) (e::es) [] cN) (tCB r t):=by
 intro aA s σ H Q I h;refine fC (wu I hg hm hv ?_ hn D6);exact BG (je (ha cN aA s σ H _ I h) λus s1 ⟨vs,H1,I1,r1,q1⟩=>hc aA s1 σ H1 vs us Q I1 r1 q1) he ou
def su (hc:Ey X (.type T) r)(hg:Gl X x)(hm:X.mg x=none)(hv:rL x=some (.type T))(ha:PA X (e::es) t)(hn:autoParam (x≠"__name__") Z_d)(D6:autoParam (DD x) Z_d)
  (he:autoParam (Su X e es) Z_r) (ou:autoParam (sHb X cN es) Z_r):PE X (.Call (.Name x p) (e::es) [] cN) (tCB r t):=by
 intro aA s σ H Q I h;refine fC (wu I hg hm hv ?_ hn D6);exact eM (je (ha cN aA s σ H _ I h) λus s1 ⟨vs,H1,I1,r1,q1⟩=>hc aA s1 σ H1 vs us Q I1 r1 q1) he ou
end
end L2
namespace HT
open PySem PyProof.Rows
section
open PySem.SeqAt
open PySem.AutoSeq1 (wpAny_loadPart')
open PySem.MeetsSeq PySem.MeetsSeq2 PySem.MeetsSeq3
end
section
variable{prog:bJ}{w:cz}{A:Around}{E:kc}{s:aL}
def Ql (n d:Nat):Option Int->Nat
 |none=>d
 |some v=>if v<0 then(v+(n:Int)).toNat else min v.toNat n
def JA (n d:Nat):Ql n d none=d:=rfl
def zw (n d k:Nat):Ql n d (some (k:Int))=min k n:=by
 show(if(k:Int)<0 then((k:Int)+(n:Int)).toNat else min (k:Int).toNat n)=min k n;rw[ah (by lia),bF]
end
end HT
namespace L2
open PySem PySem.Spec PyProof.Rows
abbrev TO:=St->Hp->(Option Int->Hp->Prop)->Prop
def PO (X:Cx)(e:Option Expr)(t:TO):Prop:=
 ∀(aA:jz) (s:aL) (σ:St) (H:Hp) (Q:Option Int->Hp->Prop),Inv X aA σ H s->t σ H Q->
  bw (bA X.prog X.w) X.A (evalPart e X.env) (λu s'=>∃o H',Inv X aA σ H' s'/\IsPart u o/\Q o H') X.xe s
def ac9:TO:=λ_ H Q=>Q none H
inductive ag0 (Q:Option Int->Hp->Prop)(x:V)(H1:Hp):Prop|i i(_:x=.int i)(_:Q (some i) H1)
def akT (t:TE):TO:=λσ H Q=>t σ H (ag0 Q)
section
variable{X:Cx}{e:Expr}{te:TE}{lo hi:Option Expr}{tl th:TO}{cN p2:Pos}
def GX:PO X none ac9:=by
 intro aA s σ H Q I h;rw[evalPart_none];exact bV ⟨none,H,I,.none,h⟩
def qv (h:PE X e te):PO X (some e) (akT te):=by
 intro aA s σ H Q I hw;rw[evalPart_some];refine je (h aA s σ H _ I hw) λu s1 ⟨x,H1,I1,r1,q1⟩=>?_;obtain⟨i,rfl,q⟩:=q1;obtain⟨t,rfl⟩:=r1;exact⟨some i,H1,I1,.int i t,q⟩
def SlR (X:Cx)(r:V->Option Int->Option Int->Hp->VK->Prop):Prop:=
 ∀(aA:jz) (s:aL) (σ:St) (H:Hp) (x:V) (v vl vu:jm) (lo hi:Option Int) (sl:ke) (Q:VK),Inv X aA σ H s->RelV x v->s.heap.IsSliceOf sl vl vu .none->IsPart vl lo->IsPart vu hi->r x lo hi H Q->
  ∃T id,kW (.type T) "__getitem__"=pure (some (.builtin id))/\s.TypeIs v T/\bw (bA X.prog X.w) X.A (S1 v (.ref sl)) (EP X aA σ Q) X.xe s
def tSl (r:V->Option Int->Option Int->Hp->VK->Prop)(te:TE)(tl th:TO):TE:=λσ H Q=>te σ H λx H1=>tl σ H1 λl H2=>th σ H2 λu H3=>r x l u H3 Q
def P6 {r:V->Option Int->Option Int->Hp->VK->Prop}(hr:SlR X r)(he:PE X e te)(hl:PO X lo tl)(hu:PO X hi th):PE X (.Subscript e (.Slice lo hi none p2) cN) (tSl r te tl th):=by
 intro aA s σ H Q I h;refine ah3 (je (he aA s σ H _ I h) λv s1 ⟨x,H1,I1,r1,q1⟩=>?_);refine wpAny_Slice (je (hl aA s1 σ H1 _ I1 q1) λvl s2 ⟨l,H2,I2,pl,q2⟩=>je (hu aA s2 σ H2 _ I2 q2) λvu s3 ⟨u,H3,I3,pu,q3⟩=>?_);rw[evalPart_none];refine bV ?_;have I4:Inv X aA σ H3 {s3 with heap:=s3.heap.push {cls:=.type "slice",data:=.fields #[vl,vu,.none]}}:=I3.kept (t':=s3.toks) λb ob q=>Heap.get?_push_of_some _ q;obtain⟨T,id,hT,ht,hg⟩:=hr aA {s3 with heap:=s3.heap.push {cls:=.type "slice",data:=.fields #[vl,vu,.none]}} σ H3 x v vl vu l u s3.heap.objs.size Q I4 r1 (Heap.IsSliceOf.new ..) pl pu q3;show bw (bA X.prog X.w) X.A (WZ e (.Slice lo hi none p2) v (.ref s3.heap.objs.size)) (EP X aA σ Q) X.xe {s3 with heap:=s3.heap.push {cls:=.type "slice",data:=.fields #[vl,vu,.none]}};exact tail_any (ops:=[.ref s3.heap.objs.size,v]) ht hT hg (by with_unfolding_all rfl)
def qZ (xs:b_)(lo hi:Option Int):b_:=(xs.drop (HT.Ql xs.length 0 lo)).take (HT.Ql xs.length xs.length hi-HT.Ql xs.length 0 lo)
def EI (xs:b_)(lo hi:Option Int):(qZ xs lo hi).length<=xs.length:=by
 unfold qZ;rw[cP,dY];lia
end
open PySem PySem.Spec PyProof.Rows
def ixN (n:Nat)(i:Int):Option Nat:=if 0<=i then(if i<n then some i.toNat else none) else if-(n:Int)<=i then some (i+n).toNat else none
def U2 {α:Type}(xs:List α)(i:Int):Option α:=(ixN xs.length i).bind λj=>xs[j]?
def TZ {n:Nat}{i:Int}{j:Nat}(h:ixN n i=some j):seqIndex? i n=some j/\j<n/\ -(n:Int)<=i/\i<n:=by
 unfold ixN at h;by_cases h0:0<=i
 .rw[aj h0] at h;by_cases h1:i<n
  .rw[aj h1] at h;have e:i.toNat=j:=bh h;exact⟨by rw[aeI h0 h1,e],by lia,by lia,h1⟩
  .rw[ah h1] at h;cases h
 .rw[ah h0] at h;by_cases h1: -(n:Int)<=i
  .rw[aj h1] at h;have e:(i+n).toNat=j:=bh h;exact⟨by rw[aa7 (by lia) h1,e],by lia,h1,by lia⟩
  .rw[ah h1] at h;cases h
def Th {α:Type}{xs:List α}{i:Int}{v:α}(h:U2 xs i=some v):∃j,seqIndex? i xs.length=some j/\xs[j]? =some v/\j<xs.length/\ -(xs.length:Int)<=i/\i<xs.length:=by
 unfold U2 at h;cases e:ixN xs.length i with
 |none=>rw[e] at h;cases h
 |some j=>
  rw[e] at h;obtain⟨h1,h2,h3,h4⟩:=TZ e;exact⟨j,h1,h,h2,h3,h4⟩
def abr {α:Type}{xs:List α}{j:Nat}{v:α}(h:xs[j]? =some v):U2 xs (j:Int)=some v:=by
 have hj:j<xs.length:=(aN.mp h).1;have e:ixN xs.length (j:Int)=some j:=by
  unfold ixN;rw[aj (by lia),aj (by lia)];simp
 unfold U2;rw[e];exact h
def Td (b:Expr):Prop:=∀o i,QC b false o i=operate [o,i] (S1 o i)
def IxR (X:Cx)(r:R2):Prop:=
 ∀(iY Dd:Expr) (aA:jz) (s:aL) (σ:St) (H:Hp) (x y:V) (v u:jm) (Q:VK),Inv X aA σ H s->RelV x v->RelV y u->r x y H Q->
  QC Dd false v u=operate [v,u] (S1 v u)->bw (bA X.prog X.w) X.A (WZ iY Dd v u) (EP X aA σ Q) X.xe s
def MtR (X:Cx)(id:String)(r:V->b_->Hp->VK->Prop):Prop:=
 ∀(aA:jz) (s:aL) (σ:St) (H:Hp) (x:V) (xs:b_) (v:jm) (us:gU) (Q:VK),Inv X aA σ H s->RelV x v->Vals xs us->r x xs H Q->
  bw (bA X.prog X.w) X.A (call (.builtin id) (v::us)) (EP X aA σ Q) X.xe s
section
variable{X:Cx}{a b:Expr}{ta tb:TE}{cN:Pos}
def w8 {r:R2}(hr:IxR X r)(ha:PE X a ta)(hb:PE X b tb)(hs:Td b):PE X (.Subscript a b cN) (tOp r ta tb):=by
 intro aA s σ H Q I h;exact ah3 (ae5 ha hb I h λv u s2 x y H2 I2 rx ry q=>hr a b aA s2 σ H2 x y v u Q I2 rx ry q (hs _ _))
inductive Qc (K:au)(x:V)(y:V)(H:Hp)(Q:VK):Prop|i p xs i v(_:x=.ref p)(_:y=.int i)(_:nN K H p xs)(_:U2 xs i=some v)(_:Q v H)
inductive Sj (K:au)(x:V)(y:V)(H:Hp)(Q:VK):Prop|i p xs i v(_:x=.ref p)(_:y=.int i)(_:Ml K H p xs)(_:U2 xs i=some v)(_:Q v H)
def ze:IxR X (Qc X.K):=by
 intro iY Dd aA s σ H x y v u Q I rx ry h hs;obtain⟨p,xs,i,z,rfl,rfl,hq,he,q⟩:=h;cases rx;obtain⟨t,rfl⟩:=ry;obtain⟨dg,r,pl,hz⟩:=I.list hq;obtain⟨j,h1,h2,h3,h4,h5⟩:=Th he;obtain⟨w,ew,rw'⟩:=r.get h2;have hl:=r.length;have hn:=II;have fin:EP X aA σ Q w s:=⟨z,H,I,rw',q⟩;by_cases h0:0<=i
 .have hj:i.toNat=j:=by
   rw[aeI h0 h5] at h1;exact bh h1
  exact item_listR pl.isList h0 (by lia) (by rw[hj];simpa using ew) fin hs
 .have hj:(i+(dg.toArray.size:Int)).toNat=j:=by
   rw[aa7 (by lia) h4] at h1;rw[bB,<-hl];exact bh h1
  exact aa3 (x:=w) pl.isList.typeIs slot_list_getitem.lookup
   (wpAny_getItem_list_neg (Q:=λr s'=>r=w/\EP X aA σ Q r s') pl.isList (by lia) (by rw[bB]<;>lia) (by lia) (by rw[hj];simpa using ew) ⟨Z,fin⟩) hs
def D8:IxR X (Sj X.K):=by
 intro iY Dd aA s σ H x y v u Q I rx ry h hs;obtain⟨p,xs,i,z,rfl,rfl,hq,he,q⟩:=h;cases rx;obtain⟨t,rfl⟩:=ry;obtain⟨dg,r,pl,hz⟩:=I.tuple hq;obtain⟨j,h1,h2,h3,h4,h5⟩:=Th he;obtain⟨w,ew,rw'⟩:=r.get h2;have hl:=r.length;have hn:=II;have fin:EP X aA σ Q w s:=⟨z,H,I,rw',q⟩;exact aa3 (x:=w) pl.typeIs slot_tuple_getitem.lookup
  (getItem_tuple (j:=j) (Q:=λr s'=>r=w/\EP X aA σ Q r s') pl (by lia) (by lia) (by rw[bB,<-hl];exact h1) (by simpa using ew) ⟨Z,fin⟩) hs
def RZ (dg:gU)(n j:Nat)(u:jm):Obj.mapSeq (·.setIfInBounds j u) {cls:=.type "list",data:=.seq dg.toArray n}={cls:=.type "list",data:=.seq (dg.set j u).toArray n}:=by
 simp[Obj.mapSeq]
def Inv.lst {aA:jz}{σ:St}{H:Hp}{s:aL}{p:ke}{xs:b_}(I:Inv X aA σ H s)(h:H p=some (.lst xs)):
  ∃(dg:gU) (n:Nat),Vals xs dg/\s.heap.get? p=some {cls:=.type "list",data:=.seq dg.toArray n}/\xs.length<=bu:=by
 obtain⟨z,dg,n,r,e⟩:=I.fV p _ h;exact⟨dg,n,r,e,z⟩
def Inv.af5 {aA:jz}{σ:St}{H:Hp}{s:aL}{p:ke}{xs ys:b_}{dg Gi:gU}{n n':Nat}{f:Obj->Obj}(I:Inv X aA σ H s)(h:H p=some (.lst xs))
  (ho:s.heap.get? p=some {cls:=.type "list",data:=.seq dg.toArray n}) (hf:f {cls:=.type "list",data:=.seq dg.toArray n}={cls:=.type "list",data:=.seq Gi.toArray n'}) (r:Vals ys Gi) (hz:ys.length<=bu) (t:Nat):
  Inv X aA σ (upd H p (.lst ys)) {s with heap:=s.heap.update p f,toks:=t}:=by
 have e:(s.heap.update p f).get? p=some {cls:=.type "list",data:=.seq Gi.toArray n'}:=by
  rw[Heap.get?_update_self f ho (by rw[hf]<;>rfl),hf]
 refine I.write (x:=p) (e:=p) (by rw[h];trivial) (.inl rfl) (λb u hb q=>(Heap.get?_update_other _ _ (eK hb)).trans q) ⟨_,e⟩ ?_;exact⟨hz,Gi,n',r,e⟩
inductive akm (o:V)(i:V)(v:V)(H:Hp)(Q:Hp->Prop):Prop|i p xs k j(_:o=.ref p)(_:i=.int k)(_:H p=some (.lst xs))(_:ixN xs.length k=some j)(_:Q (upd H p (.lst (xs.set j v))))
def set_list:aiq X akm:=by
 intro aA s σ H o i v ov iv u Q I ro ri rv h;obtain⟨p,xs,k,j,rfl,rfl,hp,hj,q⟩:=h;cases ro;obtain⟨t,rfl⟩:=ri;obtain⟨dg,n,r,ho,hz⟩:=I.lst hp;obtain⟨h1,h2,h3,h4⟩:=TZ hj;have hl:=r.length;have hn:=II;have I':Inv X aA σ (upd H p (.lst (xs.set j v))) {s with heap:=s.heap.update p (Obj.mapSeq (·.setIfInBounds j u))}:=
  I.af5 hp ho (RZ dg n j u) (r.set rv j) (by rw[ff];exact hz) s.toks
 by_cases h0:0<=k
 .have hk:k.toNat=j:=by
   rw[aeI h0 h4] at h1;exact bh h1
  exact PySem.W.ki_setAt ho h0 (by lia) (by rw[bB,<-hl];exact h4) (by rw[hk];exact⟨_,I',q⟩)
 .have hk:(k+(dg.toArray.size:Int)).toNat=j:=by
   rw[aa7 (by lia) h3] at h1;rw[bB,<-hl];exact bh h1
  exact PySem.W.ki_setBack ho (by lia) (by rw[bB,<-hl];exact h3) (by lia) (by rw[hk];exact⟨_,I',q⟩)
def NJ (lo hi:Option Int)(n:Nat):(t_ lo hi none n).1=((HT.Ql n 0 lo:Nat):Int)/\(t_ lo hi none n).2.1=((HT.Ql n n hi:Nat):Int)/\(t_ lo hi none n).2.2=1:=by
 refine⟨?_,?_,Z⟩
 .cases lo with
  |none=>simp[t_,HT.Ql]
  |some i=>
   simp only[t_,HT.Ql,aaF,show(1:Int)>0 by decide,if_true];by_cases h:i<0
   .simp only[h,if_true]<;>lia
   .simp only[h,if_false]<;>lia
 .cases hi with
  |none=>simp[t_,HT.Ql]
  |some i=>
   simp only[t_,HT.Ql,aaF,show(1:Int)>0 by decide,if_true];by_cases h:i<0
   .simp only[h,if_true]<;>lia
   .simp only[h,if_false]<;>lia
def K1 (dg:gU)(lo hi:Option Int):slicePick dg.toArray lo hi none=((dg.drop (HT.Ql dg.length 0 lo)).take (HT.Ql dg.length dg.length hi-HT.Ql dg.length 0 lo)).toArray:=by
 obtain⟨h1,h2,h3⟩:=NJ lo hi dg.toArray.size;unfold slicePick;rw[h1,h2,h3];simp only[sliceRange_one,pick_run,bB]<;>rfl
inductive acy (K:au)(x:V)(lo:Option Int)(hi:Option Int)(H:Hp)(Q:VK):Prop|i a xs(_:x=.ref a)(_:nN K H a xs)(_:∀p,H p=none->Q (.ref p) (upd H p (.lst (qZ xs lo hi))))
def Ut:SlR X (acy X.K):=by
 intro aA s σ H x v vl vu lo hi sl Q I rx hs pl pu h;obtain⟨a,xs,rfl,hx,q⟩:=h;cases rx;obtain⟨dg,r,ht,hz⟩:=I.list hx;have iQ:=r.length;refine⟨"list",_,slot_list_getitem.lookup,ht.isList.typeIs,?_⟩;refine wpAny_getItem_list_slice ht.isList hs pl pu .none (by simp) ?_ (by rw[bB]<;>lia);rw[K1,<-iQ];refine⟨.ref s.heap.objs.size,_,I.laid (t':=s.toks) (o:=.lst (qZ xs lo hi)) (λb ob q=>Heap.get?_push_of_some _ q) (bq _) ?_,Z,q _ (I.fV.fresh (bq _))⟩;exact⟨bt (EI xs lo hi) hz,_,0,(r.drop (HT.Ql xs.length 0 lo)).take (HT.Ql xs.length xs.length hi-HT.Ql xs.length 0 lo),Heap.get?_push_size _ rfl⟩
def EM:V->Bool
 |.gS=>true
 |.bl _=>true
 |.int _=>true
 |.str _=>true
 |_=>false
def eqV:V->V->Bool
 |.gS,.gS=>true
 |.bl a,.bl b=>a==b
 |.bl a,.int b=>(if a then 1 else 0)==b
 |.int a,.bl b=>a==(if b then 1 else 0)
 |.int a,.int b=>a==b
 |.str a,.str b=>a==b
 |_,_=>false
def aff {A:Around}{s:aL}{y x:V}{u v:jm}(ry:RelV y u)(rx:RelV x v)(fy:EM y=true)(fx:EM x=true):SeqAt.EqAt A s u v (eqV y x):=by
 cases y with
 |gS=>
  cases ry;cases x with
  |gS=>cases rx;exact SeqAt.EqAt.same _
  |bl b=>cases rx;exact SeqAt.EqAt.none_bool b
  |int b=>obtain⟨t,rfl⟩:=rx;exact SeqAt.EqAt.none_int b t
  |str b=>obtain⟨t,rfl⟩:=rx;exact SeqAt.EqAt.none_str b t
  |_=>exact absurd (show false=true from fx) bH
 |bl a=>
  cases ry;cases x with
  |gS=>cases rx;exact SeqAt.EqAt.bool_none a
  |bl b=>cases rx;exact SeqAt.EqAt.bool_bool a b
  |int b=>obtain⟨t,rfl⟩:=rx;exact SeqAt.EqAt.bool_int a b t
  |str b=>obtain⟨t,rfl⟩:=rx;exact SeqAt.EqAt.bool_str a b t
  |_=>exact absurd (show false=true from fx) bH
 |int a=>
  obtain⟨t',rfl⟩:=ry;cases x with
  |gS=>cases rx;exact SeqAt.EqAt.int_none a t'
  |bl b=>cases rx;exact SeqAt.EqAt.int_bool a t' b
  |int b=>obtain⟨t,rfl⟩:=rx;exact SeqAt.EqAt.int_int a t' b t
  |str b=>obtain⟨t,rfl⟩:=rx;exact SeqAt.EqAt.int_str a t' b t
  |_=>exact absurd (show false=true from fx) bH
 |str a=>
  obtain⟨t',rfl⟩:=ry;cases x with
  |gS=>cases rx;exact SeqAt.EqAt.str_none a t'
  |bl b=>cases rx;exact SeqAt.EqAt.str_bool a t' b
  |int b=>obtain⟨t,rfl⟩:=rx;exact SeqAt.EqAt.str_int a t' b t
  |str b=>obtain⟨t,rfl⟩:=rx;exact SeqAt.EqAt.str_str a t' b t
  |_=>exact absurd (show false=true from fx) bH
 |_=>exact absurd (show false=true from fy) bH
def eqU (x:V)(u:jm):Bool:=match u with
 |.none=>eqV .gS x
 |.bool b=>eqV (.bl b) x
 |.int i _=>eqV (.int i) x
 |.str z _=>eqV (.str z) x
 |_=>false
def XR {x y:V}{u:jm}(r:RelV y u)(f:EM y=true):eqU x u=eqV y x:=by
 cases y with
 |gS=>cases r;rfl
 |bl b=>cases r;rfl
 |int i=>obtain⟨t,rfl⟩:=r;rfl
 |str z=>obtain⟨t,rfl⟩:=r;rfl
 |_=>exact absurd (show false=true from f) bH
theorem Mn {x:V}:∀{xs:b_} {us:gU},Vals xs us->xs.all EM=true->us.any (eqU x)=xs.any λy=>eqV y x
 |_,_,.nil,_=>rfl
 |y::xs,u::us,.cons r t,f=>by
  rw[wL,cO] at f;rw[oJ,oJ,XR r f.1,Mn t f.2]
theorem IM {A:Around}{s:aL}{x:V}{v:jm}(rx:RelV x v)(fx:EM x=true):∀{xs:b_} {us:gU},Vals xs us->xs.all EM=true->∀u∈us,SeqAt.EqAt A s u v (eqU x u)
 |_,_,.nil,_=>λu hu=>by cases hu
 |y::xs,u::us,.cons r t,f=>λu' hu=>by
  rw[wL,cO] at f;rcases bo.mp hu with rfl|hu
  .rw[XR r f.1];exact aff r rx f.1 fx
  .exact IM rx fx t f.2 u' hu
def inV (x:V)(xs:b_):Bool:=xs.any λy=>eqV y x
inductive rIn (K:au)(neg:Bool)(x:V)(y:V)(H:Hp)(Q:VK):Prop|i p xs(_:y=.ref p)(_:nN K H p xs\/Ml K H p xs)(_:EM x=true)(_:xs.all EM=true)(_:Q (.bl (if neg then !inV x xs else inV x xs)) H)
def Nt:BF X (jg .NotIn) (rIn X.K true):=by
 intro aA s σ H x y v u Q I rx ry h;obtain⟨p,xs,rfl,hq,fx,fs,q⟩:=h;cases ry;rcases hq with hq|hq
 .obtain⟨dg,r,pl,hz⟩:=I.list hq;refine SeqAt.notIn_listAt (eqU x) pl.isList (λw hw=>IM rx fx r fs w (by simpa using hw)) ⟨.bl _,H,I,Z,?_⟩;rw[show dg.toArray.any (eqU x)=dg.any (eqU x) by simp,Mn r fs];exact q
 .obtain⟨dg,r,pl,hz⟩:=I.tuple hq;refine SeqAt.notIn_tupleAt (eqU x) pl (λw hw=>IM rx fx r fs w (by simpa using hw)) ⟨.bl _,H,I,Z,?_⟩;rw[show dg.toArray.any (eqU x)=dg.any (eqU x) by simp,Mn r fs];exact q
def Mp:Ey X (.builtin "len") (λxs H Q=>∃p ys,xs=[.ref p]/\(nN X.K H p ys\/Ml X.K H p ys)/\Q (.int ys.length) H):=by
 intro aA s σ H xs us Q I r h;obtain⟨p,ys,rfl,hq,q⟩:=h;obtain⟨u,rfl,rx⟩:=vals1 r;cases rx;have hn:=II;rcases hq with hq|hq
 .obtain⟨dg,r',pl,hz⟩:=I.list hq;have iQ:=r'.length;exact Calls.call_len_list pl.isList (by simp only[bB]<;>lia) ⟨.int ys.length,H,I.tok _,⟨s.toks+1,by rw[bB,iQ]⟩,q⟩
 .obtain⟨dg,r',pl,hz⟩:=I.tuple hq;have iQ:=r'.length;exact len_tuple pl (by simp only[bB]<;>lia) ⟨.int ys.length,H,I.tok _,⟨s.toks+1,by rw[bB,iQ]⟩,q⟩
def mD:Ey X (.type "list") (λxs H Q=>∃p ys,xs=[.ref p]/\(nN X.K H p ys\/Ml X.K H p ys)/\∀l,H l=none->Q (.ref l) (upd H l (.lst ys))):=by
 intro aA s σ H xs us Q I r h;obtain⟨p,ys,rfl,hq,q⟩:=h;obtain⟨u,rfl,rx⟩:=vals1 r;cases rx;have fin:∀(dg:gU),Vals ys dg->ys.length<=bu->∀(h':Heap) (c':Nat),(∀b o',s.heap.get? b=some o'->h'.get? b=some o')->
   h'.get? s.heap.objs.size=some {cls:=.type "list",dict:=none,data:=.seq dg.toArray c',slots:= #[]}->EP X aA σ Q (.ref s.heap.objs.size) {s with heap:=h'}:=λdg r' hz h' c' kp e=>
  ⟨.ref s.heap.objs.size,_,I.laid (t':=s.toks) kp (bq _) (show ju X.prog X.w _ h' _ (.lst ys) from⟨hz,dg,c',r',e⟩),Z,q _ (I.fV.fresh (bq _))⟩
 rcases hq with hq|hq
 .obtain⟨dg,r',pl,hz⟩:=I.list hq;have iQ:=r'.length;obtain⟨o,ho,hc,n,hd⟩:=pl.isList;exact call_list_seq p (.inl rfl) ho hc hd (λh' c' kp e=>fin dg r' hz h' c' kp e) (by simp only[bB]<;>lia)
 .obtain⟨dg,r',pl,hz⟩:=I.tuple hq;have iQ:=r'.length;obtain⟨o,ho,hc,n,hd⟩:=pl;exact call_list_seq p (.inr rfl) ho hc hd (λh' c' kp e=>fin dg r' hz h' c' kp e) (by simp only[bB]<;>lia)
def tyV (K:au)(T:String)(x:V)(H:Hp):Prop:=match x with
 |.str _=>T="str"
 |.int _=>T="int"
 |.ref p=>(T="list"/\∃xs,nN K H p xs)\/(T="tuple"/\∃o,K.lookup p=some o/\o.cls=.type "tuple"/\o.dict=none)\/
   (T="dict"/\((∃cf,H p=some (.dK cf))\/∃cf,H p=some (.dT cf)))\/(T="set"/\∃S n,H p=some (.set S n))
 |_=>False
def Z7 {aA:jz}{σ:St}{H:Hp}{s:aL}{T:String}{x:V}{v:jm}(I:Inv X aA σ H s)(r:RelV x v)(ty:tyV X.K T x H):
  s.TypeIs v T/\∀a,v=.ref a->∃ob,s.heap.get? a=some ob/\ob.dict=none:=by
 cases x with
 |str z=>
  obtain⟨t,rfl⟩:=r;cases(show T="str" from ty);exact⟨typeIs_str s z t,λ_ e=>nomatch e⟩
 |int i=>
  obtain⟨t,rfl⟩:=r;cases(show T="int" from ty);exact⟨ah6 s i t,λ_ e=>nomatch e⟩
 |ref p=>
  cases r;rcases ty with⟨rfl,xs,hq⟩|⟨rfl,o,hk,hc,hd⟩|⟨rfl,hk⟩|⟨rfl,S,n,hk⟩
  .obtain⟨dg,_,pl,_⟩:=I.list hq;refine⟨pl.isList.typeIs,λa e=>?_⟩;cases e;obtain⟨o,n,e,c,hd,_⟩:=pl;exact⟨o,e,hd⟩
  .refine⟨⟨o,I.zf p o hk,hc⟩,λa e=>?_⟩;cases e;exact⟨o,I.zf _ o hk,hd⟩
  .have z:∃o,s.heap.get? p=some o/\o.ExactDict:=by
    rcases hk with⟨cf,hk⟩|⟨cf,hk⟩
    .obtain⟨_,_,_,_,o,_,_,e,ex,_⟩:=I.fV p _ hk;exact⟨o,e,ex⟩
    .obtain⟨_,_,_,_,o,_,_,e,ex,_⟩:=I.fV p _ hk;exact⟨o,e,ex⟩
   obtain⟨o,e,ex⟩:=z;refine⟨⟨o,e,ex.1⟩,λa e2=>?_⟩;cases e2;exact⟨o,e,ex.2.1⟩
  .obtain⟨o,_,_,_,e,ex,_⟩:=I.fV p _ hk;refine⟨⟨o,e,ex.1⟩,λa e2=>?_⟩;cases e2;exact⟨o,e,ex.2.1⟩
 |_=>exact dU ty
def akQ (K:au)(T:String)(r:V->b_->Hp->VK->Prop)(to:TE):TE:=λσ H Q=>to σ H λx H1=>tyV K T x H1/\r x [] H1 Q
def tBM (K:au)(T:String)(r:V->b_->Hp->VK->Prop)(to:TE)(t:TA):TE:=λσ H Q=>to σ H λx H1=>tyV K T x H1/\t σ H1 λxs H2=>r x xs H2 Q
variable{o e:Expr}{es:FD}{to:TE}{t:TA}{name:Str}{kM lj:Pos}{T id:String}{r:V->b_->Hp->VK->Prop}
def agh (pa:PlainAttrs T)(slot:Slot T name id)(hty:typeOf (.builtin id)=pure (.type "method_descriptor"))(hm:MtR X id r)(ho:PE X o to)
  (Io:autoParam (mT o name X.env (eval o X.env)=eval o X.env) Z_r) (Iv:autoParam ((kM.endLine==lj.line)=true) Z_r):PE X (.Call (.Attribute o name kM) [] [] lj) (akQ X.K T r to):=by
 intro aA s σ H Q I h;refine wpAny_Call_method0_late Io Iv (je (ho aA s σ H _ I h) λv s1 ⟨x,H1,I1,r1,ty,q1⟩=>?_);obtain⟨h1,h2⟩:=Z7 I1 r1 ty;exact⟨T,id,pa,slot,hty,h1,h2,Calls.callWith_builtin rfl (PySem.evalArgs_none (hm aA s1 σ H1 x [] v [] Q I1 r1 .nil q1))⟩
def AD (pa:PlainAttrs T)(slot:Slot T name id)(hty:typeOf (.builtin id)=pure (.type "method_descriptor"))(hm:MtR X id r)(ho:PE X o to)(ha:PA X (e::es) t)
  (Io:autoParam (mT o name X.env (eval o X.env)=eval o X.env) Z_r)
  (afz:((m9 lj (dv (e::es) X.env)).all (λx=> !x.1)&&(xi lj (oA [] X.env)).all (λx=>x.1.isSome)
   &&decide ((e::es).length+([]:List aa4).length+(if([]:List aa4).isEmpty then 0 else 1)<30))=true:=by rfl)
  (Iv:autoParam ((kM.endLine==lj.line)=true) Z_r) (hs:autoParam (Su X e es) Z_r) (RR:autoParam ((m9 lj (dv es X.env)).any (·.1)=false) Z_r):
  PE X (.Call (.Attribute o name kM) (e::es) [] lj) (tBM X.K T r to t):=by
 intro aA s σ H Q I h;refine wpAny_Call_method_late Io afz Iv rfl (je (ho aA s σ H _ I h) λv s1 ⟨x,H1,I1,r1,ty,q1⟩=>?_);obtain⟨h1,h2⟩:=Z7 I1 r1 ty;refine⟨T,id,pa,slot,hty,h1,h2,?_⟩;have hA:=ha lj aA s1 σ H1 _ I1 q1;rw[hs] at hA|-
 refine Calls.callWith_builtin (by show(false||(m9 lj (dv es X.env)).any (·.1))=false;rw[RR]<;>rfl) (Calls.evalArgs_plain ?_);exact je hA λus s2 ⟨vs,H2,I2,r2,q2⟩=>hm aA s2 σ H2 x vs v us Q I2 r1 r2 q2
end
open PySem PySem.Spec PyProof.Rows
def MtM (X:Cx)(id:String)(r:V->b_->Hp->VK->Prop):Prop:=
 ∀(aA:jz) (s:aL) (σ:St) (H:Hp) (x:V) (xs:b_) (v:jm) (us:gU) (Q:VK),Inv X aA σ H s->RelV x v->Vals xs us->r x xs H Q->
  bw (bA X.prog X.w) X.A (call (.builtin id) (v::us)) (EP X aA σ Q) X.xe s
def Vals.one:∀{x:V} {us:gU},Vals [x] us->∃u,us=[u]/\RelV x u
 |_,_,.cons r .nil=>⟨_,Z,r⟩
def Vals.zero:∀{us:gU},Vals [] us->us=[]
 |_,.nil=>rfl
theorem Vals.rep {xs:b_}{us:gU}(h:Vals xs us):∀k:Nat,Vals (aM k xs).flatten (aM k us).flatten
 |0=>.nil
 |k+1=>by
  rw[fN,fN,jZ,jZ];exact Vals.append h (Vals.rep h k)
theorem foldl_rep (dg:gU):∀(k:Nat) (dM:gU),
  aaw (λx1 x2=>x1++x2) dM.toArray (aM k dg.toArray)=(dM++(aM k dg).flatten).toArray
 |0,dM=>by simp
 |k+1,dM=>by
  have e:dM.toArray++dg.toArray=(dM++dg).toArray:=by simp
  have e2:(dM++dg)++(aM k dg).flatten=dM++(aM (k+1) dg).flatten:=by
   rw[fN,jZ,cC]
  rw[<-e2,<-foldl_rep dg k (dM++dg),<-e,fN,bR]
section
variable{X:Cx}{aA:jz}{σ:St}{H:Hp}{s:aL}{l b:ke}{xs ys zs:b_}
def Inv.ajU {dg Gi:gU}{n:Nat}{f:Array jm->Array jm}{t':Nat}(I:Inv X aA σ H s)(hH:H l=some (.lst xs))
  (e:s.heap.get? l=some {cls:=.type "list",data:=.seq dg.toArray n}) (hf:f dg.toArray=Gi.toArray) (hv:Vals ys Gi) (hz:ys.length<=bu):
  Inv X aA σ (upd H l (.lst ys)) {s with heap:=s.heap.update l (Obj.mapSeq f),toks:=t'}:=by
 have q:=PySem.IsL.update e f;rw[hf] at q;refine I.write (x:=l) (e:=l) (by rw[hH];exact trivial) (.inl rfl) (λb' u hb hu=>(Heap.get?_update_other s.heap (Obj.mapSeq f) (eK hb)).trans hu) ⟨_,q⟩ ?_;exact⟨hz,Gi,_,hv,q⟩
def Inv.ajT {dg:gU}{t':Nat}(I:Inv X aA σ H s)(hv:Vals ys dg)(hz:ys.length<=bu):
  Inv X aA σ (upd H s.heap.objs.size (.lst ys)) {s with heap:=s.heap.push {cls:=.type "list",data:=.seq dg.toArray},toks:=t'}:=
 I.laid (λ_ _ q=>Heap.get?_push_of_some _ q) (bq _) ⟨hz,dg,0,hv,Heap.get?_push_size _ rfl⟩
def Inv.fresh (I:Inv X aA σ H s):H s.heap.objs.size=none:=I.fV.fresh (bq _)
def Inv.VC (I:Inv X aA σ H s)(hH:H l=some (.lst xs)):xs.length<=bu/\∃(dg:gU) (n:Nat),Vals xs dg/\xs.length=dg.length/\s.heap.get? l=some {cls:=.type "list",data:=.seq dg.toArray n}:=by
 obtain⟨z,dg,n,r,e⟩:=I.fV l _ hH;exact⟨z,dg,n,r,r.length,e⟩
def PK {n:Nat}(h:n<=bu):Builtin.List.listTooLong n=false:=by
 unfold Builtin.List.listTooLong;exact ae (by lia)
end
section
variable{X:Cx}
inductive NC (x:V)(vs:b_)(H:Hp)(Q:VK):Prop|i l xs y(_:x=.ref l)(_:vs=[y])(_:H l=some (.lst xs))(_:xs.length<bu)(_:Q .gS (upd H l (.lst (xs++[y]))))
def VE:MtM X "list.append" NC:=by
 intro aA s σ H x vs v us Q I rx rv h;obtain⟨l,xs,y,rfl,rfl,hH,hz,q⟩:=h;cases rx;obtain⟨u,rfl,ru⟩:=rv.one;obtain⟨z,dg,n,r,hl,e⟩:=I.VC hH;refine UG F.slot_list_append ⟨_,e,Z⟩ F.entry_list_append (F.args_list_append_2 _ _) (PySem.list_append l dg.toArray n u (by rw[bB];lia)) ⟨e,?_⟩;refine⟨.gS,_,I.ajU (Gi:=dg++[u]) hH e (by simp) (r.append (.cons ru .nil)) ?_,Z,q⟩;rw[aO,List.length_singleton];lia
inductive acx (x:V)(vs:b_)(H:Hp)(Q:VK):Prop|i l b xs zs(_:x=.ref l)(_:vs=[.ref b])(_:H l=some (.lst xs))(_:H b=some (.lst zs))(_:xs.length+zs.length<=bu)(_:Q .gS (upd H l (.lst (xs++zs))))
def mE:MtM X "list.extend" acx:=by
 intro aA s σ H x vs v us Q I rx rv h;obtain⟨l,b,xs,zs,rfl,rfl,hH,hB,hz,q⟩:=h;cases rx;obtain⟨u,rfl,ru⟩:=rv.one;cases ru;obtain⟨z,dg,n,r,hl,e⟩:=I.VC hH;obtain⟨z2,IA,n2,r2,RQ,e2⟩:=I.VC hB;have hsz:dg.toArray.size+IA.toArray.size<=bu:=by rw[bB,bB];lia
 have Yo:¬(!dg.toArray.isEmpty&&Builtin.List.listTooLong (dg.toArray.size+IA.toArray.size))=true:=by
  rw[PK hsz,Bool.and_false];exact bH
 refine UG F.slot_list_extend ⟨_,e,Z⟩ F.entry_list_extend (F.args_list_extend_2 _ _)
  (AutoSeq1.list_extend_list_list_0 l dg.toArray n b IA.toArray n2 Yo (by rw[bB];lia) (by lia)) ⟨e,e2,?_⟩
 refine⟨.gS,_,I.ajU (Gi:=dg++IA) hH e (by simp) (r.append r2) ?_,Z,q⟩;rw[aO];lia
inductive apN (x:V)(y:V)(H:Hp)(Q:VK):Prop|i l b xs zs(_:x=.ref l)(_:y=.ref b)(_:H l=some (.lst xs))(_:H b=some (.lst zs))(_:xs.length+zs.length<=bu)(_:∀p,H p=none->Q (.ref p) (upd H p (.lst (xs++zs))))
def mP:BF X (oz .Add) apN:=by
 intro aA s σ H x y v u Q I rx ry h;obtain⟨l,b,xs,zs,rfl,rfl,hH,hB,hz,q⟩:=h;cases rx;cases ry;obtain⟨z,dg,n,r,hl,e⟩:=I.VC hH;obtain⟨z2,IA,n2,r2,RQ,e2⟩:=I.VC hB;refine PySem.P.add_list e e2 ?_ (by rw[bB,bB];lia);have ea:dg.toArray++IA.toArray=(dg++IA).toArray:=by simp
 rw[ea];exact⟨.ref _,_,I.ajT (t':=s.toks) (r.append r2) (by rw[aO];lia),Z,q _ I.fresh⟩
inductive apP (x:V)(y:V)(H:Hp)(Q:VK):Prop|i l k xs(_:x=.ref l)(_:y=.int k)(_:H l=some (.lst xs))(_: -(2^63)<=k)(_:k<2^63)(_:xs.length*k.toNat<=bu)(_:∀p,H p=none->Q (.ref p) (upd H p (.lst (aM k.toNat xs).flatten)))
def len_rep {α:Type}(xs:List α)(k:Nat):(aM k xs).flatten.length=k*xs.length:=by
 induction k with
 |zero=>simp
 |succ k ih=>rw[fN,jZ,aO,ih,Hh,UT]
def Ek:BF X (oz .Mult) apP:=by
 intro aA s σ H x y v u Q I rx ry h;obtain⟨l,k,xs,rfl,rfl,hH,h1,h2,hz,q⟩:=h;cases rx;obtain⟨t,rfl⟩:=ry;obtain⟨z,dg,n,r,hl,e⟩:=I.VC hH;have iQ:dg.toArray.size*k.toNat<=bu:=by rw[bB,<-hl];exact hz
 have anZ:¬dg.toArray.size*k.toNat>(2^63-1) / 8:=by
  have:(bu:Nat)<=(2^63-1) / 8:=by decide
  lia
 have an9:¬(!Builtin.List.listFitsIndex k)=true:=by
  rw[fitsIndex_both h1 h2];exact bH
 have Yo:¬Builtin.List.listTooLong (dg.toArray.size*k.toNat)=true:=by
  rw[PK iQ];exact bH
 have aok:aaw (λx1 x2=>x1++x2) #[] (aM (if dg.toArray.isEmpty=true then 0 else k.toNat) dg.toArray)=(aM k.toNat dg).flatten.toArray:=by
  have f0:∀m:Nat,aaw (λx1 x2=>x1++x2) #[] (aM m dg.toArray)=(aM m dg).flatten.toArray:=λm=>by
   have:=foldl_rep dg m [];rw[tG] at this;exact this
  rw[f0];cases dg with
  |nil=>simp
  |cons a r'=>rw[ah (by simp)]
 refine wpAny_binaryOp_repeat_ref (T:="list") (U:="int") (by decide) ⟨_,e,Z⟩ (λs'=>ah6 s' k t) noFill_list_mul F.fills_int_mul F.slot_int_rmul repeat_list F.slot_int_index.lookup
  (UG F.slot_int_rmul (ah6 s k t) F.entry_int_rmul (F.args_int_rmul_2 _ _) (int___rmul___int_list k t l dg.toArray n)
   ⟨e,Z,⟨_,e,Z⟩,UG F.slot_list_mul ⟨_,e,Z⟩ F.entry_list_mul (F.args_list_mul_2 _ _) (AutoListH.list___mul___list_int_3 l dg.toArray n k t an9 anZ Yo) ⟨e,?_⟩⟩)
 rw[aok];exact⟨.ref _,_,I.ajT (t':=s.toks) (r.rep k.toNat) (by rw[len_rep,jn];exact hz),Z,q _ I.fresh⟩
end
section
variable{prog:bJ}{w:cz}{A:Around}{E:kc}{s:aL}
end
section
variable{X:Cx}
end
open PySem PySem.Spec PyProof.Rows
theorem Vals.ints:∀{ns:bY} {us:gU},Vals (ns.map V.int) us->IntsAre us ns
 |[],us,h=>by
  rw[yY] at h;cases h;exact IntsAre.nil
 |n::ns,us,h=>by
  rw[cy] at h;cases h with
  |cons r t=>
   obtain⟨k,rfl⟩:=r;exact IntsAre.cons n k (Vals.ints t)
theorem Vals.bls:∀{bs:List Bool} {us:gU},Vals (bs.map V.bl) us->us=bs.map Value.bool
 |[],us,h=>by
  rw[yY] at h;cases h;rfl
 |b::bs,us,h=>by
  rw[cy] at h;cases h with
  |cons r t=>
   cases r;rw[Vals.bls t,cy]
def Vals.agl {a:ke}{us:gU}(r:Vals [V.ref a] us):us=[Value.ref a]:=by
 cases r with
 |cons r t=>
  cases t;cases r;rfl
section
variable{prog:bJ}{w:cz}{A:Around}{E:kc}{s:aL}{l:ke}{dg:gU}{ns:bY}{Q:kc}
def ac4 (hh:A.handled=none)(hl:s.heap.IsList l dg.toArray)(hi:IntsAre dg ns)
  (h:∀h' tk t',(∀b o,s.heap.get? b=some o->h'.get? b=some o)->Q (.int ns.sum t') {s with heap:=h',toks:=tk}):bw (bA prog w) A (call (.builtin "sum") [.ref l]) Q E s:=by
 obtain⟨xs,e⟩:=hi.allInts.items;have hn:numsOf (intItems xs).toList=ns:=by rw[<-e];exact hi.numsOf
 rw[nums_intItems] at hn;rw[e] at hl;refine PySem.sum_intListG hh hl λh' tk t' hk=>?_;have:=h h' tk t' hk;rw[preSum_eq,cn (by simp),hn];exact this
end
section
variable{X:Cx}
inductive apQ (K:au)(vs:b_)(H:Hp)(Q:VK):Prop|i(a:ke)(ns:bY)(_:vs=[V.ref a])(_:nN K H a (ns.map V.int))(_:Q (.int ns.sum) H)
def Mt (hc:X.calm=true):Ey X (.builtin "sum") (apQ X.K):=by
 intro aA s σ H vs us Q I r h;obtain⟨a,ns,rfl,hs,q⟩:=h;obtain⟨dg,rv,hl,_⟩:=I.list hs;rw[Vals.agl r];exact ac4 (I.ok.hd hc) hl.isList rv.ints λh' tk t' hk=>⟨.int _,H,I.kept hk,⟨_,Z⟩,q⟩
end
section
variable{X:Cx}
end
section
variable{X:Cx}
end
def YE {prog:bJ}{w:cz}{A:Around}{E:kc}{s:aL}{l:ke}{ad6:Array jm}{Q:kc}(hl:s.heap.IsList l ad6)
  (h:∀mR:aL,mR={s with heap:=s.heap.push {cls:=.type "list_iterator",data:=.fields #[.ref l,.int 0 0]}}->
   (mR.heap.IsListIter s.heap.objs.size l 0/\mR.heap.IsList l ad6)->l≠s.heap.objs.size->Q (.ref s.heap.objs.size) mR):bw (bA prog w) A (pyIter (.ref l)) Q E s:=by
 have As:l<s.heap.objs.size:=by obtain⟨_,e,_⟩:=hl;exact Heap.lt_size e
 exact ak7 hl (h _ rfl ⟨⟨_,Heap.get?_push_size _ rfl,Z,Z⟩,hl.push _⟩ (cH As))
def Qv {prog:bJ}{w:cz}{A:Around}{bs:List Bool}{dg:gU}(e:dg=bs.map Value.bool):
  TruthOf prog w A (λi v=>dg.toArray[i]? =some v) (λi=>bs.getD i false):=λi v s Q E hv hq=>by
 have hv':dg[i]? =some v:=by simpa using hv
 rw[e,aw] at hv';obtain⟨b,hb,rfl⟩:=i5.mp hv';have hg:bs.getD i false=b:=by rw[aG,hb]<;>rfl
 have hq':Q (bs.getD i false) s:=hq;rw[hg] at hq';exact ku hq'
theorem any_range:∀bs:List Bool,(aJ bs.length).any (λi=>bs.getD i false)=bs.any id
 |[]=>rfl
 |b::bs=>by
  rw[aZ,qf,oJ,List.any_map,oJ,<-any_range bs]
  all_goals rfl
theorem all_range:∀bs:List Bool,(aJ bs.length).all (λi=>bs.getD i false)=bs.all id
 |[]=>rfl
 |b::bs=>by
  rw[aZ,qf,wL,alb,wL,<-all_range bs]
  all_goals rfl
section
variable{X:Cx}
inductive apM (K:au)(vs:b_)(H:Hp)(Q:VK):Prop|i(a:ke)(bs:List Bool)(_:vs=[V.ref a])(_:nN K H a (bs.map V.bl))(_:Q (.bl (bs.all id)) H)
def Q1 (hc:X.calm=true):Ey X (.builtin "all") (apM X.K):=by
 intro aA s σ H vs us Q I r h;obtain⟨a,bs,rfl,hs,q⟩:=h;obtain⟨dg,rv,hl,_⟩:=I.list hs;rw[Vals.agl r];have hb:=rv.bls;refine call_all_walk (YE hl.isList λmR e2 st GQ=>?_);subst e2;refine⟨_,_,_,_,_,_,_,Z,Walks.list (A:=X.A.in1) (I.ok.hd hc) _ a GQ dg.toArray,st,Qv hb,λh' tk hk=>?_⟩;refine⟨.bl _,H,I.kept λb o eo=>hk b o (λafD=>?_) (Heap.get?_push_of_some _ eo),?_,q⟩
 .rcases bo.mp afD with e1|afD
  .exact absurd (e1 ▸ Heap.lt_size eo) (bX _)
  .cases afD
 .show Value.bool _=Value.bool _;rw[<-all_range,hb,bB,aB]
end
mutual
inductive Dp (K:au)(H:Hp):V->PyData->Prop
 |gS:Dp K H .gS .none
 |bl (b:Bool):Dp K H (.bl b) (.bool b)
 |int (i:Int):Dp K H (.int i) (.int i)
 |str (x:Str):Dp K H (.str x) (.str x)
 |lst {a:ke} {xs:b_} {ds:List PyData}:nN K H a xs->G7 K H xs ds->Dp K H (.ref a) (.list ds)
 |tup {a:ke} {xs:b_} {ds:List PyData}:Ml K H a xs->G7 K H xs ds->Dp K H (.ref a) (.tuple ds)
inductive G7 (K:au)(H:Hp):b_->List PyData->Prop
 |nil:G7 K H [] []
 |cons {v:V} {vs:b_} {d:PyData} {ds:List PyData}:Dp K H v d->G7 K H vs ds->G7 K H (v::vs) (d::ds)
end
section
variable{X:Cx}{aA:jz}{σ:St}{H:Hp}{s:aL}
mutual
theorem Dp.reads (I:Inv X aA σ H s):∀(d:PyData) (v:V) (u:jm),Dp X.K H v d->RelV v u->∃as,Reads s.heap u d as
 |.none,_,_,h,r=>by
  cases h;cases r;exact⟨_,Reads.none⟩
 |.bool b,_,_,h,r=>by
  cases h;cases r;exact⟨_,Reads.bool b⟩
 |.int i,_,_,h,r=>by
  cases h;obtain⟨t,rfl⟩:=r;exact⟨_,Reads.int i t⟩
 |.str x,_,_,h,r=>by
  cases h;obtain⟨t,rfl⟩:=r;exact⟨_,Reads.str x t⟩
 |.list ds,_,_,h,r=>by
  cases h with
  |lst hs ha=>
   cases r;obtain⟨dg,rv,⟨o,n,ho,hc,_,hd⟩,_⟩:=I.list hs;obtain⟨as,hr⟩:=Dp.readsAll I ds _ dg ha rv;exact⟨_,Reads.list ho hc hd hr⟩
 |.tuple ds,_,_,h,r=>by
  cases h with
  |tup hs ha=>
   cases r;obtain⟨dg,rv,⟨o,ho,hc,n,hd⟩,_⟩:=I.tuple hs;obtain⟨as,hr⟩:=Dp.readsAll I ds _ dg ha rv;exact⟨_,Reads.tuple ho hc hd hr⟩
 |.dict _,_,_,h,_=>by cases h
theorem Dp.readsAll (I:Inv X aA σ H s):∀(ds:List PyData) (vs:b_) (us:gU),G7 X.K H vs ds->Vals vs us->∃as,ReadsAll s.heap us ds as
 |[],_,_,h,r=>by
  cases h;cases r;exact⟨_,ReadsAll.nil⟩
 |d::ds,_,_,h,r=>by
  cases h with
  |cons h1 h2=>
   cases r with
   |cons r1 r2=>
    obtain⟨as,q1⟩:=Dp.reads I d _ _ h1 r1;obtain⟨bs,q2⟩:=Dp.readsAll I ds _ _ h2 r2;exact⟨_,ReadsAll.cons q1 q2⟩
end
end
section
variable{X:Cx}
inductive apO (K:au)(x:V)(y:V)(H:Hp)(Q:VK):Prop|i d e(_:Dp K H x d)(_:Dp K H y e)(_:SeqAt.shaped d=true)(_:SeqAt.shaped e=true)(_:Q (.bl (PyData.eqv d e)) H)
def agf (hu:X.A.units+64<L8):BF X (jg .Eq) (apO X.K):=by
 intro aA s σ H x y v u Q I rx ry h;obtain⟨d,e,hd,he,sd,se,q⟩:=h;obtain⟨as,r1⟩:=Dp.reads I d x v hd rx;obtain⟨bs,r2⟩:=Dp.reads I e y u he ry;exact SeqAt.compareEq_shaped r1 r2 sd se hu ⟨.bl _,H,I,Z,q⟩
end
open PySem PySem.Spec PyProof.Rows
abbrev W3 (h:Heap)(c:ke)(v:Option jm):Prop:=h.IsCell c v
def apT (bc sc:nA):nA:=
 {bc with names:=bc.names.map λ(n,k)=>if(k==.free&&sc.kind==.function&&sc.names.lookup n==some .cell) then(n,.cell) else(n,k)}
def h_ (wU:List (Str×ke)):List (Str×NameKind)->List (Str×ke)->List (Str×ke)
 |[],dM=>dM
 |(n,k)::r,dM=>if k==.free then h_ wU r ((n,(wU.lookup n).getD 0)::dM) else h_ wU r dM
theorem B6 (env:Env)(f:Str×NameKind->List (Str×ke)->Sem (ForInStep (List (Str×ke))))
  (hf:∀n k c,f (n,k) c=if k==.free then(do let a<-cellOf env n;pure (.yield ((n,a)::c))) else pure (.yield c)):
  ∀(names:List (Str×NameKind)) (dM:List (Str×ke)),(∀y∈names,y.2=.free->∃c,env.cells.lookup y.1=some c)->forIn names dM f=pure (h_ env.cells names dM)
 |[],dM,_=>by rw[ahf];rfl
 |(n,k)::r,dM,h=>by
  rw[List.forIn_cons,hf];have ih:=λdM=>B6 env f hf r dM λy hy=>h y (aP _ hy);unfold h_;by_cases hk:(k==NameKind.free)=true
  .rw[aj hk,aj hk];obtain⟨c,hc⟩:=h (n,k) aU (by simpa using hk);have e:cellOf env n=pure c:=by unfold cellOf;rw[hc]
   rw[e];have e2:(env.cells.lookup n).getD 0=c:=by rw[hc];rfl
   rw[e2];exact ih _
  .rw[ah hk,ah hk];exact ih _
def QZ {bc:nA}{env:Env}(h:∀y∈bc.names,y.2=.free->∃c,env.cells.lookup y.1=some c):closureFor bc env=pure (h_ env.cells bc.names []):=by
 simp only[closureFor];rw[B6 env _ (λn k c=>rfl) bc.names [] h];rfl
theorem mem_lookup {α:Type}:∀{l:List (Str×α)} {n:Str} {c:α},(n,c)∈l->∃c',l.lookup n=some c'
 |(k,v)::r,n,c,h=>by
  rw[jr];cases hb:n==k with
  |true=>exact⟨_,Z⟩
  |false=>
   rcases bo.mp h with e|h
   .cases e;simp at hb
   .exact mem_lookup h
theorem tV {wU:List (Str×ke)}:∀{names:List (Str×NameKind)} {dM:List (Str×ke)} {n:Str} {c:ke},(n,c)∈h_ wU names dM->(n,c)∈dM\/((n,.free)∈names/\c=(wU.lookup n).getD 0)
 |[],_,_,_,h=>.inl h
 |(m,k)::r,dM,n,c,h=>by
  unfold h_ at h;split at h
  .rename_i hk;have hk:k=.free:=by simpa using hk
   rcases tV h with h|⟨h1,h2⟩
   .rcases bo.mp h with e|h
    .cases e;exact .inr ⟨hk ▸ aU,Z⟩
    .exact .inl h
   .exact .inr ⟨aP _ h1,h2⟩
  .rcases tV h with h|⟨h1,h2⟩
   .exact .inl h
   .exact .inr ⟨aP _ h1,h2⟩
theorem xV {wU:List (Str×ke)}:∀{names:List (Str×NameKind)} {dM:List (Str×ke)} {p:Str×ke},p∈dM->p∈h_ wU names dM
 |[],_,_,h=>h
 |(m,k)::r,dM,p,h=>by
  unfold h_;split
  .exact xV (aP _ h)
  .exact xV h
theorem xW {wU:List (Str×ke)}:∀{names:List (Str×NameKind)} {dM:List (Str×ke)} {n:Str},(n,.free)∈names->(n,(wU.lookup n).getD 0)∈h_ wU names dM
 |(m,k)::r,dM,n,h=>by
  unfold h_;rcases bo.mp h with e|h
  .cases e;exact xV aU
  .split
   .exact xW h
   .exact xW h
theorem uZ:∀{names:List (Str×NameKind)} {h:Heap} {dM:List (Str×ke)} {x:Str} {c:ke},(x,c)∈fq h.objs.size names dM->
  (x,c)∈dM\/((x,.cell)∈names/\h.objs.size<=c/\W3 (wG h names) c none)
 |[],_,_,_,_,h=>.inl h
 |(n,k)::r,h,dM,x,c,hm=>by
  unfold fq at hm;unfold wG;split at hm
  .rename_i hk;rw[aj hk];have hk:k=.cell:=by simpa using hk
   rw[<-Heap.size_push h {cls:=.type "cell",data:=.cell none}] at hm;rcases uZ hm with hm|⟨h1,h2,h3⟩
   .rcases bo.mp hm with e|hm
    .cases e;exact .inr ⟨hk ▸ aU,bq _,_,Du r _ _ _ (Heap.get?_push_size _ rfl),Z⟩
    .exact .inl hm
   .rw[Heap.size_push] at h2;exact .inr ⟨aP _ h1,iW h2,h3⟩
  .rename_i hk;rw[ah hk];rcases uZ hm with hm|⟨h1,h2,h3⟩
   .exact .inl hm
   .exact .inr ⟨aP _ h1,h2,h3⟩
theorem za:∀{names:List (Str×NameKind)} {n:Nat} {dM:List (Str×ke)} {p:Str×ke},p∈dM->p∈fq n names dM
 |[],_,_,_,h=>h
 |(m,k)::r,n,dM,p,h=>by
  unfold fq;split
  .exact za (aP _ h)
  .exact za h
theorem DM:∀{names:List (Str×NameKind)} {n:Nat} {dM:List (Str×ke)} {x:Str},(x,.cell)∈names->∃c,(x,c)∈fq n names dM
 |(m,k)::r,n,dM,x,h=>by
  unfold fq;rcases bo.mp h with e|h
  .cases e;exact⟨n,za aU⟩
  .split
   .exact DM h
   .exact DM h
theorem DN:∀{names:List (Str×NameKind)} {h:Heap} {dM:List (Str×ke)} {x y:Str} {c:ke},(∀p∈dM,p.2<h.objs.size)->(∀x y c,(x,c)∈dM->(y,c)∈dM->x=y)->
  (x,c)∈fq h.objs.size names dM->(y,c)∈fq h.objs.size names dM->x=y
 |[],_,_,_,_,_,_,hi,h1,h2=>hi _ _ _ h1 h2
 |(n,k)::r,h,dM,x,y,c,hl,hi,h1,h2=>by
  unfold fq at h1 h2;split at h1
  .rename_i hk;rw[aj hk] at h2;rw[<-Heap.size_push h {cls:=.type "cell",data:=.cell none}] at h1 h2;refine DN (h:=h.push _) (λp hp=>?_) (λx y c a b=>?_) h1 h2
   .rw[Heap.size_push];rcases bo.mp hp with rfl|hp
    .exact gn _
    .exact wN (hl p hp)
   .rcases bo.mp a with e|a<;>rcases bo.mp b with e'|b
    .cases e;cases e';rfl
    .cases e;exact absurd (hl _ b) (bX _)
    .cases e';exact absurd (hl _ a) (bX _)
    .exact hi _ _ _ a b
  .rename_i hk;rw[ah hk] at h2;exact DN hl hi h1 h2
def PD {M:Model}{A:Around}{E:kc}{s:aL}{bc:nA}{TM:ke}{Mr:List (Str×ke)}{eV:Str}{aiV:Option ke}{code:jm}{Xo:Env}{Oz:ke}{Q:Env->aL->Prop}
  (h:Q (newEnv bc s.heap.objs.size TM (fq (s.heap.objs.size+1) bc.names Mr) eV aiV code (some Xo) Oz)
   {s with heap:=wG (s.heap.push {cls:=.type "dict",data:=.dict #[]}) bc.names}):
  bw M A (newFunctionEnv bc TM Mr [] eV aiV code (some Xo) Oz) Q E s:=by
 simp only[newFunctionEnv,WD,if_true];refine aR (wpAny_alloc ?_);refine aR (wpAny_layCells _ (λn k c=>rfl) bc.names Mr _ _ ?_);rw[show({s with heap:=s.heap.push {cls:=.type "dict",data:=.dict #[]}}:aL).heap.objs.size=s.heap.objs.size+1 from Heap.size_push ..];rw[ahf];exact aR (bV (bV h))
theorem yC {sc:nA}:∀{names:List (Str×NameKind)} {x:Str} {k:NameKind},
  (names.map λ(n,k)=>if(k==NameKind.free&&sc.kind==.function&&sc.names.lookup n==some .cell) then(n,NameKind.cell) else(n,k)).lookup x=some k->
  ∃k',names.lookup x=some k'/\(k=k'\/(k'=.free/\k=.cell))
 |[],_,_,h=>by simp at h
 |(n,YH)::r,x,k,h=>by
  have ih:= @yC sc r x k;have h':lB x ((if(YH==NameKind.free&&sc.kind==.function&&sc.names.lookup n==some .cell)=true then(n,NameKind.cell) else(n,YH))::(r.map _))=some k:=h;cases hx:x==n with
  |true=>
   simp only[jr,hx];by_cases hc:(YH==NameKind.free&&sc.kind==.function&&sc.names.lookup n==some .cell)=true
   .rw[aj hc] at h';simp only[jr,hx] at h';cases h';simp only[cO,beq_iff_eq] at hc;exact⟨YH,Z,.inr ⟨hc.1.1,Z⟩⟩
   .rw[ah hc] at h';simp only[jr,hx] at h';cases h';exact⟨_,Z,.inl rfl⟩
  |false=>
   simp only[jr,hx];by_cases hc:(YH==NameKind.free&&sc.kind==.function&&sc.names.lookup n==some .cell)=true
   .rw[aj hc] at h';simp only[jr,hx] at h';exact ih h'
   .rw[ah hc] at h';simp only[jr,hx] at h';exact ih h'
structure Oc (N:mX)(sc bc:nA)(own:List (Str×Nat)):Prop where
 kind:bc.kind=.function
 uniq:∀y∈bc.names,bc.names.lookup y.1=some y.2
 ix:∀p∈own,N[p.2]? =some p.1
 free:∀y∈bc.names,y.2=.free->sc.names.lookup y.1=some .cell\/sc.names.lookup y.1=some .free
 own:∀y∈bc.names,y.2=.local\/y.2=.cell->y.1∈own.map (·.1)\/y.1∉N
def wipe (σ:St):ig->St
 |[]=>σ
 |v::vs=>(wipe σ vs).set v none
theorem yT (σ:St):∀vs:ig,(wipe σ vs).length=σ.length
 |[]=>rfl
 |v::vs=>by unfold wipe;rw[ff,yT σ vs]
theorem Ew {σ:St}{i:Nat}{x:V}:∀{vs:ig},(wipe σ vs)[i]? =some (some x)->σ[i]? =some (some x)/\i∉vs
 |[],h=>⟨h,by simp⟩
 |v::vs,h=>by
  unfold wipe at h;by_cases hi:v=i
  .subst hi;by_cases hv:v<(wipe σ vs).length
   .rw[eF hv] at h;cases h
   .rw[ib (by simpa using hv)] at h;cases h
  .rw[iE hi] at h;obtain⟨h1,h2⟩:=Ew h;exact⟨h1,by simp only[bo,not_or];exact⟨λe=>hi e.symm,h2⟩⟩
abbrev Cx.gX (X:Cx)(s:aL)(H:Hp)(bc:nA)(oG:Env)(fp:pG):Cx:={X with s_0:=s,H_0:=H,env:=oG,outer:=X.stack,ex:=fp,fn:=λx=>bc.names.lookup x==some .cell,pn:=[],xe:=λ_ _=>False}
section
variable{X:Cx}{aA:jz}{σ:St}{H:Hp}{s:aL}
def Oy {bc:nA}{own:List (Str×Nat)}{fp:pG}(I:Inv X aA σ H s)(ok:Oc X.N X.env.scope bc own)(hN:X.N.Nodup)(hfp:∀b∈fp,Fz X aA H b/\b<s.heap.objs.size):
  Inv (X.gX s H bc (iB bc (fq (s.heap.objs.size+1) bc.names (h_ X.env.cells bc.names [])) s.heap.objs.size X.env) fp) [] (wipe σ (own.map (·.2))) H {s with heap:=wG (s.heap.push {cls:=.type "dict",data:=.dict #[]}) bc.names}:=by
 have ER:∀y∈bc.names,y.2=.free->∃c,X.env.cells.lookup y.1=some c:=λy hy e=>by
  rcases ok.free y hy e with k|k
  .exact I.ok.has _ (.inl k)
  .exact I.ok.has _ (.inr k)
 generalize Pc:iB bc (fq (s.heap.objs.size+1) bc.names (h_ X.env.cells bc.names [])) s.heap.objs.size X.env=oG;have kp:∀b o,s.heap.get? b=some o->(wG (s.heap.push {cls:=.type "dict",data:=.dict #[]}) bc.names).get? b=some o:=λb o e=>Du _ _ _ _ (Heap.get?_push_of_some _ e);have hL:oG.locals=s.heap.objs.size:=by rw[<-Pc];rfl
 have hcl:oG.cells=fq (s.heap.objs.size+1) bc.names (h_ X.env.cells bc.names []):=by rw[<-Pc];rfl
 have hsc:oG.scope=apT bc X.env.scope:=by rw[<-Pc];rfl
 rw[<-Heap.size_push s.heap {cls:=.type "dict",data:=.dict #[]}] at hcl;have cm:∀{y c},(y,c)∈h_ X.env.cells bc.names []->X.env.cells.lookup y=some c/\c<s.heap.objs.size:=λ{y c} hm=>by
  rcases tV hm with hm|⟨h1,rfl⟩
  .cases hm
  .obtain⟨c,hc⟩:=ER _ h1 rfl;rw[hc];obtain⟨w,z⟩:=I.cell _ _ hc;exact⟨Z,z.lt⟩
 have mem:∀{y c},oG.cells.lookup y=some c->(X.env.cells.lookup y=some c/\c<s.heap.objs.size)\/(s.heap.objs.size+1<=c/\W3 (wG (s.heap.push {cls:=.type "dict",data:=.dict #[]}) bc.names) c none):=λ{y c} e=>by
  rw[hcl] at e;rcases uZ (cv e) with hm|⟨_,h2,h3⟩
  .exact .inl (cm hm)
  .rw[Heap.size_push] at h2;exact .inr ⟨h2,h3⟩
 have look:∀{y},bc.names.lookup y=some .free->∃c,oG.cells.lookup y=some c/\X.env.cells.lookup y=some c:=λ{y} hl=>by
  have hy:(y,NameKind.free)∈bc.names:=cv hl;obtain⟨c',e'⟩:=mem_lookup (za (names:=bc.names) (n:=(s.heap.push {cls:=.type "dict",data:=.dict #[]}).objs.size) (xW (wU:=X.env.cells) (dM:=[]) hy));rw[<-hcl] at e';refine⟨c',e',?_⟩;rw[hcl] at e';rcases uZ (cv e') with hm|⟨h1,_,_⟩
  .exact(cm hm).1
  .have:=ok.uniq _ h1;rw[hl] at this;cases this
 have okB:(X.gX s H bc oG fp).Ok:=by
  refine⟨I.ok.mod,by show oG.scope.kind=_;rw[hsc];exact ok.kind,by show oG.globals=_;rw[<-Pc];exact I.ok.glob,by show oG.builtins=_;rw[<-Pc];exact I.ok.blt,by show s.heap.objs.size<=oG.locals;rw[hL];exact bq _,
   λy z c e1 e2=>?_,λy hy=>?_,λy c z e=>?_,I.ok.hd,I.ok.frames,.inl rfl,λb hb=>⟨?_,λy c e z=>?_⟩,I.bs,bt I.ok.QX I.sz,λb o e hb=>?_,λb hb z=>?_,I.stack,I.NO⟩
  .have e1:oG.cells.lookup y=some c:=e1;have e2:oG.cells.lookup z=some c:=e2;rw[hcl] at e1 e2;refine DN (λp hp=>?_) (λy z c a b=>I.ok.inj y z c (cm a).1 (cm b).1) (cv e1) (cv e2);rw[Heap.size_push];exact wN (cm (y:=p.1) (c:=p.2) hp).2
  .show∃c,oG.cells.lookup y=some c;have fA:∀k,oG.kindOf y=some k->(k=.cell\/k=.free)->∃c,oG.cells.lookup y=some c:=λk hk hk'=>by
    unfold Env.kindOf at hk;rw[hsc] at hk;obtain⟨k',e,r⟩:=yC hk;have:k'=.cell\/k'=.free:=by
     rcases r with rfl|⟨rfl,_⟩
     .exact hk'
     .exact .inr rfl
    rcases this with rfl|rfl
    .obtain⟨c,hm⟩:=DM (n:=(s.heap.push {cls:=.type "dict",data:=.dict #[]}).objs.size) (dM:=h_ X.env.cells bc.names []) (cv e);obtain⟨c',e'⟩:=mem_lookup hm;exact⟨c',by rw[hcl];exact e'⟩
    .obtain⟨c,h1,_⟩:=look e;exact⟨c,h1⟩
   rcases hy with hy|hy
   .exact fA _ hy (.inl rfl)
   .exact fA _ hy (.inr rfl)
  .have z:(bc.names.lookup y==some NameKind.cell)=true:=z;have z:bc.names.lookup y=some .cell:=by simpa using z
   have e:oG.cells.lookup y=some c:=e;rw[hcl] at e;rcases uZ (cv e) with hm|⟨_,h2,_⟩
   .rcases tV hm with hm|⟨h1,_⟩
    .cases hm
    .have q:=ok.uniq _ h1;rw[z] at q;cases q
   .rw[Heap.size_push] at h2;exact iW h2
  .show b≠oG.locals;rw[hL];exact cH (hfp b hb).2
  .have e:oG.cells.lookup y=some c:=e;rcases mem e with⟨h1,_⟩|⟨h1,_⟩
   .exact(hfp b hb).1.2.2.2.2.1 y c h1 z
   .have h2:s.heap.objs.size+1<=b:=by rw[<-z];exact h1
    exact absurd (a_ (hfp b hb).2 (iW h2)) (bX _)
  .rcases(hfp b hb).1.2.2.2.1 with z|z
   .exact I.ok.PJ b o e z
   .exact absurd (a_ (Heap.lt_size e) (bt I.ok.QX z)) (bX _)
  .rcases bo.mp (I.NP b z) with z|z
   .exact(hfp b hb).1.2.1 z
   .exact(hfp b hb).1.2.2.1 z
 refine⟨okB,Z,I.bare,Un.kept kp,⟨λ_=>none,?_,λi y av e1 e2 e3=>?_⟩,λy c e=>?_,?_,λy c e=>?_,λp hp=>?_,I.fV.kept kp,by rw[yT];exact I.len⟩
 .show Heap.Ns _ oG.locals _;rw[hL];exact Heap.Ns.keeps (Heap.Ns.new ..) λb o e=>Du _ _ _ _ e
 .obtain⟨e2,GQ⟩:=Ew e2;have N5:bc.names.lookup y=some .free/\(oG.kindOf y=some .cell\/oG.kindOf y=some .free):=by
   have fA:∀k,oG.scope.names.lookup y=some k->k=.local\/k=.cell\/k=.free->bc.names.lookup y=some .free/\(oG.kindOf y=some .cell\/oG.kindOf y=some .free):=λk hk hk'=>by
    have TU:=hk;rw[hsc] at hk;obtain⟨k',e,r⟩:=yC hk;have no:¬(k'=.local\/k'=.cell):=λhh=>by
     rcases ok.own _ (cv e) hh with e'|e'
     .obtain⟨p,hp,hpy⟩:=bj.mp e';have e3:=ok.ix p hp;have:p.1=y:=hpy;rw[this] at e3;exact GQ (bj.mpr ⟨p,hp,IV hN e3 e1⟩)
     .exact e' (az e1)
    rcases r with rfl|⟨rfl,rfl⟩
    .rcases hk' with rfl|rfl|rfl
     .exact absurd (.inl rfl) no
     .exact absurd (.inr rfl) no
     .exact⟨e,.inr TU⟩
    .exact⟨e,.inl TU⟩
   have e3:Vis oG.scope y:=e3;rcases e3 with e3|e3|e3
   .exact fA _ e3 (.inl rfl)
   .exact fA _ e3 (.inr (.inl rfl))
   .exact fA _ e3 (.inr (.inr rfl))
  obtain⟨m,hn,hl⟩:=I.loc;have aoM:Vis X.env.scope y:=(ok.free _ (cv N5.1) rfl).elim (λk=>.inr (.inl k)) (λk=>.inr (.inr k));obtain⟨w,r,q⟩:=hl i y av e1 e2 aoM;refine⟨w,r,.inr ⟨N5.2,?_⟩⟩;obtain⟨c,h1,h2⟩:=look N5.1;rcases q with⟨k,_⟩|⟨_,c',e',z⟩
  .have k:X.env.scope.names.lookup y=some .local:=k;rcases ok.free _ (cv N5.1) rfl with k'|k'<;>rw[show X.env.scope.names.lookup y=_ from k'] at k<;>cases k
  .rw[h2] at e';cases e';exact⟨c,h1,z.keeps kp⟩
 .have e:oG.cells.lookup y=some c:=e;rcases mem e with⟨h1,_⟩|⟨_,z⟩
  .obtain⟨w,z⟩:=I.cell y c h1;exact⟨w,z.keeps kp⟩
  .exact⟨_,z⟩
 .show H oG.locals=none;rw[hL];exact I.fV.fresh (bq _)
 .have e:oG.cells.lookup y=some c:=e;rcases mem e with⟨h1,_⟩|⟨h1,_⟩
  .exact I.pP y c h1
  .exact I.fV.fresh (iW h1)
 .exact absurd (show p∈([]:jz)++[] from hp) (by simp)
def ae3 {E:kc}{D:ke}{xs:b_}{y:V}{v:jm}{Q:kc}(I:Inv X aA σ H s)(hD:H D=some (.lst xs))(hz:xs.length<bu)(r:RelV y v)
  (h:∀s',Inv X aA σ (upd H D (.lst (xs++[y]))) s'->Q .none s'):bw (bA X.prog X.w) X.A (call (.builtin "list.append") [.ref D,v]) Q E s:=by
 obtain⟨hz',dg,n,ri,e⟩:=I.fV D _ hD;have hl:=ri.length;refine append_at (hsz:=by rw[bB];lia) e λh' sb WN=>?_;refine h {s with heap:=h'} (I.write (t':=s.toks) (by rw[hD];trivial) (.inl rfl) (λb u hb q=>(sb.2 b hb).trans q) ⟨_,WN⟩ ⟨by rw[aO];exact hz,dg++[v],n+1,ri.append (.cons r .nil),?_⟩);rw[WN];simp
def PTs (X:Cx)(M3:FD)(t:TT):Prop:=
 ∀(aA:jz) (s:aL) (σ:St) (H:Hp) (Q:Bool->Hp->Prop),Inv X aA σ H s->t σ H Q->
  bw (bA X.prog X.w) X.A (forIn M3 true λc r=>if r=true then do let ok<-aa6 c X.env (eval c X.env);pure (wJ ok) else pure (wJ r)) (TP X aA σ Q) X.xe s
def Z3:TT:=λ_ H Q=>Q true H
def C2:PTs X [] Z3:=λ_ _ _ H _ I h=>wpAny_tests_nil ⟨H,I,h⟩
end
def Z4 {α:Type}{t:Sem α}{Q Q':α->aL->Prop}{M:Model}{A:Around}{E:kc}{s:aL}(h:bw M A t Q (λ_ _=>False) s)(hQ:∀a s,Q a s->Q' a s):bw M A t Q' E s:=dI h hQ λ_ _ z=>dU z
def Ms {prog:bJ}{w:cz}{A:Around}{R:Result->aL->Prop}{s:aL}{FZ Et l7:Expr}{M3:FD}{bc:nA}{cN:Pos}{it dM:jm}{env:Env}(I:Nat->aL->Prop)
  (SN:∀n s,I n s->bw (bA prog w) A (pyNext it) (λr ip=>match r with
   |none=>R (.ok .next) ip
   |some v=>bw (bA prog w) A (Dt Et it v) (λ_ aeu=>bw (bA prog w) A (UD Et env v) (λ_ mR=>
     bw (bA prog w) A (forIn M3 true λc r=>if r=true then do let ok<-aa6 c env (eval c env);pure (wJ ok) else pure (wJ r)) (λok Dj=>
      if ok=true then bw (bA prog w) A (eval FZ env) (λx akN=>
       bw (bA prog w) A (call (.builtin "list.append") [dM,x]) (λ_ akO=>∃m,m<n/\I m akO) (GB (bA prog w) A env λe s'=>R (.error e) s') akN) (GB (bA prog w) A env λe s'=>R (.error e) s') Dj
      else∃m,m<n/\I m Dj) (GB (bA prog w) A env λe s'=>R (.error e) s') mR) (GB (bA prog w) A env λe s'=>R (.error e) s') aeu) (GB (bA prog w) A env λe s'=>R (.error e) s') ip) (GB (bA prog w) A env λe s'=>R (.error e) s') s)
  (n:Nat) (h:I n s):
  vv (bA prog w) A (.compLoop (.ListComp FZ [⟨Et,l7,M3,0⟩] bc cN) 0 it dM env) R s:=by
 refine codeAny_loop rfl I (λn s hI=>?_) n h;show bw _ A ((compTurn (.ListComp FZ [⟨Et,l7,M3,0⟩] bc cN) 0 it dM env).onRaise (λx=>do AL x env;theTreesLotGoes x)) _ _ s;refine wpAny_noted ?_;rw[compTurn_list];refine aR (fG (aR (dI (SN n s hI) (λr ip ab2=>?_) λ_ _ h'=>h')));cases r with
 |none=>exact bV ab2
 |some v=>
  refine aR (dI ab2 (λ_ aeu ajF=>?_) λ_ _ h'=>h');refine aR (dI ajF (λ_ mR YA=>aR (dI YA (λok Dj ab3=>?_) λ_ _ h'=>h')) λ_ _ h'=>h');cases ok with
  |false=>exact bV ⟨Z,ab3⟩
  |true=>
   exact aR (aR (dI ab3 (λx akN aoY=>aR (dI aoY (λ_ akO aoZ=>bV (bV ⟨Z,aoZ⟩)) λ_ _ h'=>h')) λ_ _ h'=>h'))
section
variable{X:Cx}
def tLc (wi:TI)(g:TG)(tt:TT)(te:TE)(vs:ig):TE:=λσ H Q=>wi σ H λJ H1=>∀D,H1 D=none->∃W:Nat->Nat->Hp->Prop,(∃m,W 0 m (upd H1 D (.lst [])))/\∀i m H,W i m H->
 (J.stop i H/\Q (.ref D) H)\/(J.go i H/\∃Nx:Hp->Prop,(∀H',Nx H'->∃m',m'<m/\W (i+1) m' H')/\∀x H',J.Wj i H x H'->g x (wipe σ vs) H' λmG H2=>wipe mG vs=wipe σ vs/\tt mG H2 λb H3=>
  if b=true then te mG H3 λy H4=>∃dM,H4 D=some (.lst dM)/\dM.length<bu/\Nx (upd H4 D (.lst (dM++[y]))) else Nx H3)
def NQ {FZ:Expr}{gs:List Comprehension}{bc:nA}{cN py:Pos}{y:Str}{l:Nat}{env:Env}(hk:env.scope.kind=.function)(hy:env.scope.names.lookup y=some .local)(hl:(py.line==cN.line)=true)
  (ha:(bc.names.any λ(n,k)=>n==y&&(k==.local||k==.cell))=false):mU (.ListComp FZ gs bc cN) (some (.Name y py)) l env=pure true:=by
 have ky:env.kindOf y=some .local:=hy;have hb:env.blockKind=.function:=by unfold Env.blockKind;rw[hk];rfl
 unfold mU;simp only[hb,ky,ha,Expr.pos,hl];rfl
end
def abx (N:mX)(sc bc:nA)(own:List (Str×Nat)):Bool:=
 (match bc.kind with|.function=>true|_=>false)&&(bc.names.all λy=>decide (bc.names.lookup y.1=some y.2))&&(own.all λp=>decide (N[p.2]? =some p.1))&&
  (bc.names.all λy=>match y.2 with
   |.free=>(match sc.names.lookup y.1 with|some .cell=>true|some .free=>true|_=>false)
   |.local=>decide (y.1∈own.map (·.1))||decide (y.1∉N)
   |.cell=>decide (y.1∈own.map (·.1))||decide (y.1∉N)
   |_=>true)
def xT {N:mX}{sc bc:nA}{own:List (Str×Nat)}(h:abx N sc bc own=true):Oc N sc bc own:=by
 unfold abx at h;simp only[cO,jq,decide_eq_true_eq] at h;obtain⟨⟨⟨h1,h2⟩,h3⟩,h4⟩:=h;refine⟨?_,h2,h3,λy hy e=>?_,λy hy e=>?_⟩
 .split at h1
  .assumption
  .cases h1
 .have q:=h4 y hy;simp only[e] at q;split at q<;>first|exact .inl (by assumption)|exact .inr (by assumption)|cases q
 .have q:=h4 y hy;rcases e with e|e<;>(simp only[e,K3,decide_eq_true_eq] at q;exact q)
open PySem PySem.Spec PyProof.Rows
section
variable{prog:bJ}{w:cz}{A:Around}{R:Result->aL->Prop}{s:aL}{FZ t0 i0 t1 i1:Expr}{av3 av4:FD}{bc:nA}{cN:Pos}{it dM:jm}{env:Env}
end
section
variable{X:Cx}
end
open PySem PySem.Spec PyProof.Rows
section
variable{κ:Type}[DecidableEq κ]
def mS (cf:List (κ×V))(k:κ):Option V:=(cf.find? λkv=>decide (kv.1=k)).map (·.2)
def putK (cf:List (κ×V))(k:κ)(v:V):List (κ×V):=
 if(cf.any λkv=>decide (kv.1=k))=true then cf.map (λkv=>if kv.1=k then(kv.1,v) else kv) else cf++[(k,v)]
def u4 (cf:List (κ×V))(k:κ):List (κ×V):=cf.filter λkv=>decide (kv.1≠k)
def mj {p:κ×V}{r:List (κ×V)}{k:κ}(e:p.1=k):mS (p::r) k=some p.2:=by simp[mS,oV,e]
def mi {p:κ×V}{r:List (κ×V)}{k:κ}(e:¬p.1=k):mS (p::r) k=mS r k:=by simp[mS,oV,e]
theorem tE (k:κ):∀cf:List (κ×V),(cf.any λkv=>decide (kv.1=k))=(mS cf k).isSome
 |[]=>rfl
 |p::r=>by
  rw[oJ];by_cases e:p.1=k
  .simp only[mj e,ag e,Bool.true_or,WD]
  .rw[mi e,ae e,Bool.false_or];exact tE k r
theorem Qy (k j:κ)(y:V):∀cf:List (κ×V),mS (cf.map λkv=>if kv.1=k then(kv.1,y) else kv) j=(mS cf j).map λx=>if j=k then y else x
 |[]=>rfl
 |p::r=>by
  have ih:=Qy k j y r;rw[cy];by_cases h:p.1=k
  .rw[aj h];by_cases e:p.1=j
   .rw[mj (p:=(p.1,y)) e,mj e,eY,aj (e.symm.trans h)]
   .rw[mi (p:=(p.1,y)) e,mi e,ih]
  .rw[ah h];by_cases e:p.1=j
   .rw[mj (p:=p) e,mj e,eY,ah (λz=>h (e.trans z))]
   .rw[mi (p:=p) e,mi e,ih]
theorem L1 (k j:κ)(y:V):∀cf:List (κ×V),mS cf k=none->mS (cf++[(k,y)]) j=if j=k then some y else mS cf j
 |[],_=>by
  by_cases e:k=j
  .rw[aj e.symm];exact mj (p:=(k,y)) e
  .rw[ah (λz=>e z.symm)];exact mi (p:=(k,y)) e
 |p::r,hn=>by
  rw[xB];have hk:¬p.1=k:=λz=>by rw[mj z] at hn;cases hn
  rw[mi hk] at hn;have ih:=L1 k j y r hn;by_cases e:p.1=j
  .rw[mj e,mj e,ah (λz=>hk (e.trans z))]
  .rw[mi e,mi e,ih]
def Dr (cf:List (κ×V))(k j:κ)(y:V):mS (putK cf k y) j=if j=k then some y else mS cf j:=by
 unfold putK;by_cases a:(cf.any λkv=>decide (kv.1=k))=true
 .rw[aj a,Qy];rw[tE] at a;by_cases e:j=k
  .obtain⟨x,hx⟩:=cZ.mp a;rw[aj e,e,hx,eY,aj rfl]
  .rw[ah e];cases mS cf j with
   |none=>rfl
   |some x=>rw[eY,ah e]
 .rw[ah a];refine L1 k j y cf ?_;rw[tE] at a;cases q:mS cf k with
  |none=>rfl
  |some x=>rw[q] at a;exact(a rfl).elim
def EU (cf:List (κ×V))(k:κ)(v:V):(putK cf k v).length<=cf.length+1:=by
 unfold putK;split
 .rw[aB];lia
 .rw[aO,aZ,dW];lia
def Qb {cf:List (κ×V)}{k:κ}(v:V)(h:mS cf k=none):putK cf k v=cf++[(k,v)]:=by
 unfold putK;rw[tE,h];exact ah (by decide)
def uu.D7 {o:Option V}{u:Option jm}(r:uu o u):o.isSome=u.isSome:=by
 cases o with
 |none=>cases u with
  |none=>rfl
  |some _=>exact(show False from r).elim
 |some _=>cases u with
  |none=>exact(show False from r).elim
  |some _=>rfl
def KV.val {cf:List (κ×V)}{vs:List (κ×jm)}(r:KV cf vs)(k:κ):uu (mS cf k) (L9 vs k):=by
 unfold KV at r;induction r with
 |nil=>exact m7
 | @cons p q ps qs h t ih=>
  obtain⟨h1,h2⟩:=h;by_cases e:p.1=k
  .have e':q.1=k:=h1.symm.trans e;have b:L9 (q::qs) k=some q.2:=by simp[L9,oV,e']
   rw[mj e,b];exact h2
  .have e':¬q.1=k:=λz=>e (h1.trans z);have b:L9 (q::qs) k=L9 qs k:=by simp[L9,oV,e']
   rw[mi e,b];exact ih
theorem KV.any {cf:List (κ×V)}{vs:List (κ×jm)}(r:KV cf vs)(k:κ):(cf.any λkv=>decide (kv.1=k))=vs.any λkv=>decide (kv.1=k):=by
 unfold KV at r;induction r with
 |nil=>rfl
 |cons h t ih=>rw[oJ,oJ,ih,h.1]
def KV.agm {cf:List (κ×V)}{vs:List (κ×jm)}(r:KV cf vs)(k:κ){y:V}{u:jm}(ry:RelV y u):
  KV (cf.map λkv=>if kv.1=k then(kv.1,y) else kv) (vs.map λkv=>if kv.1=k then(kv.1,u) else kv):=by
 unfold KV at r|-
 induction r with
 |nil=>exact .nil
 | @cons p q ps qs h t ih=>
  rw[cy,cy];refine .cons ?_ ih;obtain⟨h1,h2⟩:=h;by_cases e:p.1=k
  .rw[aj e,aj (h1.symm.trans e)];exact⟨h1,ry⟩
  .rw[ah e,ah (λz=>e (h1.trans z))];exact⟨h1,h2⟩
def KV.put {cf:List (κ×V)}{vs:List (κ×jm)}(r:KV cf vs)(k:κ){y:V}{u:jm}(ry:RelV y u):KV (putK cf k y) (stored vs k u):=by
 unfold putK stored;rw[r.any k];by_cases e:(vs.any λkv=>decide (kv.1=k))=true
 .rw[aj e,aj e];exact r.agm k ry
 .rw[ah e,ah e];exact Paired.snoc r ⟨Z,ry⟩
def KV.length {cf:List (κ×V)}{vs:List (κ×jm)}(r:KV cf vs):cf.length=vs.length:=Paired.length r
end
def T7 {P:bJ}{w:cz}{k:Key}{u:jm}(r:RelV (kV k) u):(lK P w).is k u=true:=by
 cases k with
 |inl i=>obtain⟨t,e⟩:=(show∃t,u=Value.int i t from r);subst e;exact Pw P w i t
 |inr x=>obtain⟨t,e⟩:=(show∃t,u=Value.str x t from r);subst e;exact Px P w x t
theorem LB {P:bJ}{w:cz}:∀{ks:List Key} {us:gU},Vals (ks.map kV) us->ItemsAre (lK P w) ks us
 |[],_,r=>by rw[yY] at r;cases r;exact .nil
 |k::ks,_,r=>by
  rw[cy] at r;cases r with
  |cons h t=>exact .cons (T7 h) (LB t)
abbrev KT (H:Hp):List (List Key×V)->List (List Key×ke×jm)->Prop:=Paired λp q=>p.1=q.1/\H q.2.1=some (.tup (p.1.map kV))/\RelV p.2 q.2.2
def KT.val {H:Hp}{cf:List (List Key×V)}{xs:List (List Key×ke×jm)}(r:KT H cf xs)(k:List Key):uu (mS cf k) ((UE xs k).map (·.2)):=by
 induction r with
 |nil=>exact m7
 | @cons p q ps qs h t ih=>
  obtain⟨h1,_,h2⟩:=h;by_cases e:p.1=k
  .have e':q.1=k:=h1.symm.trans e;have b:UE (q::qs) k=some q.2:=by simp[UE,oV,e']
   rw[mj e,b];exact h2
  .have e':¬q.1=k:=λz=>e (h1.trans z);have b:UE (q::qs) k=UE qs k:=by simp[UE,oV,e']
   rw[mi e,b];exact ih
def KT.agm {H:Hp}{cf:List (List Key×V)}{xs:List (List Key×ke×jm)}(r:KT H cf xs)(k:List Key){y:V}{u:jm}(ry:RelV y u):
  KT H (cf.map λkv=>if kv.1=k then(kv.1,y) else kv) (xs.map (putAt k u)):=by
 induction r with
 |nil=>exact .nil
 | @cons p q ps qs h t ih=>
  rw[cy,cy];refine .cons ?_ ih;obtain⟨h1,h2,h3⟩:=h;unfold putAt;by_cases e:p.1=k
  .rw[aj e,aj (h1.symm.trans e)];exact⟨h1,h2,ry⟩
  .rw[ah e,ah (λz=>e (h1.trans z))];exact⟨h1,h2,h3⟩
def KT.put {H:Hp}{cf:List (List Key×V)}{xs:List (List Key×ke×jm)}(r:KT H cf xs)(k:List Key){b:ke}{y:V}{u:jm}(hb:H b=some (.tup (k.map kV)))(ry:RelV y u):
  KT H (putK cf k y) (storedH xs k b u):=by
 have e:(cf.any λkv=>decide (kv.1=k))=(UE xs k).isSome:=by
  rw[tE,(r.val k).D7,Xh]
 unfold putK storedH;rw[e];by_cases q:(UE xs k).isSome=true
 .rw[aj q,aj q];exact r.agm k ry
 .rw[ah q,ah q];exact Paired.snoc r ⟨Z,hb,ry⟩
def KT.keeps {H H':Hp}{cf:List (List Key×V)}{xs:List (List Key×ke×jm)}(r:KT H cf xs)(ht:∀b ys,H b=some (.tup ys)->H' b=some (.tup ys)):KT H' cf xs:=
 Paired.lR r λ_ _ z=>⟨z.1,ht _ _ z.2.1,z.2.2⟩
section
variable{P:bJ}{w:cz}{H:Hp}{h:Heap}{a:ke}
def aek {u:HO}(ok:wK P w H h)(e:Rd H a u):ju P w H h a u:=e.ok ok
def Tu {cf:List (Key×V)}(ok:wK P w H h)(e:Rd H a (.dK cf)):cf.length<=bu/\(a==oB)=false/\∃vs,KV cf vs/\h.DictOf (lK P w) a vs:=
 show ju P w H h a (.dK cf) from aek ok e
def aiF {cf:List (Key×V)}(ok:wK P w H h)(e:H a=some (.dK cf)):cf.length<=bu/\(a==oB)=false/\∃vs,KV cf vs/\h.DictOf (lK P w) a vs:=Tu ok (.inl e)
def M_ {ks:List Key}(ok:wK P w H h)(e:H a=some (.tup (ks.map kV))):(Oa (lK P w)).is h ks a:=by
 obtain⟨_,dg,r,o,h1,h2,n,h3⟩:=(show ju P w H h a (.tup (ks.map kV)) from ok a _ e);exact⟨o,dg.toArray,n,h1,h2,h3,by simpa using LB r⟩
def Tx {cf:List (List Key×V)}(ok:wK P w H h)(e:Rd H a (.dT cf)):cf.length<=bu/\(a==oB)=false/\
  ∃xs,KT H cf xs/\h.DictOfH (Oa (lK P w)) a xs:=by
 obtain⟨z,y,xs,r,o,es,ep,h1,h2,h3,h4,h5⟩:=(show ju P w H h a (.dT cf) from aek ok e);refine⟨z,y,xs,r,o,es,ep,h1,h2,h3,h4,λx hx=>?_,h5⟩;have all:∀{l:List (List Key×V)} {m:List (List Key×ke×jm)},KT H l m->∀x∈m,(Oa (lK P w)).is h x.1 x.2.1:=by
  intro l m q;induction q with
  |nil=>intro x hx;exact nomatch hx
  | @cons p q ps qs hq t ih=>
   intro x hx;rcases bo.mp hx with e|hx
   .subst e;exact M_ ok (by rw[<-hq.1];exact hq.2.1)
   .exact ih x hx
 exact all r x hx
def aiH {cf:List (List Key×V)}(ok:wK P w H h)(e:H a=some (.dT cf)):cf.length<=bu/\(a==oB)=false/\
  ∃xs,KT H cf xs/\h.DictOfH (Oa (lK P w)) a xs:=Tx ok (.inl e)
end
def Ka (H:Hp)(a:ke)(y:V)(r:Option V):Prop:=
 (∃cf k,Rd H a (.dK cf)/\y=kV k/\r=mS cf k)\/∃cf k b,Rd H a (.dT cf)/\y=.ref b/\H b=some (.tup (k.map kV))/\r=mS cf k
def aib (H:Hp)(a:ke)(y v:V)(H':Hp):Prop:=
 (∃cf k,H a=some (.dK cf)/\y=kV k/\cf.length<bu/\H'=upd H a (.dK (putK cf k v)))\/
 ∃cf k b,H a=some (.dT cf)/\y=.ref b/\H b=some (.tup (k.map kV))/\cf.length<bu/\H'=upd H a (.dT (putK cf k v))
def Ka.k {H:Hp}{a:ke}{cf:List (Key×V)}{k:Key}(e:H a=some (.dK cf)):Ka H a (kV k) (mS cf k):=.inl ⟨cf,k,.inl e,Z,Z⟩
section
variable{X:Cx}{aA:jz}{σ:St}{H:Hp}{s:aL}{a:ke}{y v:V}{u r:jm}{o:Option V}{A:Around}{E:kc}
def Inv.big (I:Inv X aA σ H s):oB<s.heap.objs.size:=by
 have h:mn<s.heap.objs.size:=(I.mod.glob.keeps I.bk).lt;exact Nat.lt_trans (by decide) h
def Vc {Q:kc}(hu:A.units+1<L8)(I:Inv X aA σ H s)(g:Ka H a y (some v))(ry:RelV y u)(h:∀w' s',Inv X aA σ H s'->RelV v w'->Q w' s'):
  bw (bA X.prog X.w) A (S1 (.ref a) u) Q E s:=by
 rcases g with⟨cf,k,e,ey,l⟩|⟨cf,k,b,e,ey,eb,l⟩
 .subst ey;obtain⟨z,hd,vs,Qi,dd⟩:=Tu I.fV e;obtain⟨w',hw,rw'⟩:=uu.some_of (v:=v) (o:=L9 vs k) (by rw[l];exact Qi.val k);exact wpAny_getItem_of (T7 ry) dd.mapOf hw (h w' _ (I.tok _) rw')
 .subst ey;cases(show u=Value.ref b from ry);obtain⟨z,hd,xs,Qi,dd⟩:=Tx I.fV e;obtain⟨w',hw,rw'⟩:=uu.some_of (v:=v) (o:=(UE xs k).map (·.2)) (by rw[l];exact Qi.val k);obtain⟨p,hp,WO⟩:=i5.mp hw;refine wpAny_getItem_heap (J_ hu) (M_ I.fV eb) dd hp ?_;rw[WO];exact h w' _ (I.tok _) rw'
def abC {Q:kc}(hu:A.units+1<L8)(I:Inv X aA σ H s)(g:Ka H a y o)(ry:RelV y u)(h:∀s',Inv X aA σ H s'->Q (.bool (!o.isSome)) s'):
  bw (bA X.prog X.w) A (jg .NotIn u (.ref a)) Q E s:=by
 rcases g with⟨cf,k,e,ey,l⟩|⟨cf,k,b,e,ey,eb,l⟩
 .subst ey;obtain⟨z,hd,vs,Qi,dd⟩:=Tu I.fV e;refine wpAny_notIn_of (T7 ry) hd dd.mapOf ?_;rw[<-(Qi.val k).D7,<-l];exact h _ (I.tok _)
 .subst ey;cases(show u=Value.ref b from ry);obtain⟨z,hd,xs,Qi,dd⟩:=Tx I.fV e;refine wpAny_notIn_heap (J_ hu) (M_ I.fV eb) hd dd ?_;have q:=(Qi.val k).D7;rw[Xh] at q;rw[<-q,<-l];exact h _ (I.tok _)
def Tp {h':Heap}{t':Nat}{ob:HO}(I:Inv X aA σ H s)(mu:Mut (H a))(hs:Heap.SameBut a s.heap h')(he:∃q,h'.get? a=some q)(new:ju X.prog X.w (upd H a ob) h' a ob):
  Inv X aA σ (upd H a ob) {s with heap:=h',toks:=t'}:=
 I.write (x:=a) (e:=a) mu (.inl rfl) (λb q hb z=>(hs.2 b hb).trans z) he new
def ae8 {P:bJ}{w:cz}{H':Hp}{h':Heap}{cf:List (Key×V)}{vs:List (Key×jm)}(z:cf.length<=bu)(hd:(a==oB)=false)(Qi:KV cf vs)(dd:h'.DictOf (lK P w) a vs):
  ju P w H' h' a (.dK cf):=⟨z,hd,vs,Qi,dd⟩
def Vg {H':Hp}{Q:Unit->aL->Prop}(hu:A.units+1<L8)(I:Inv X aA σ H s)(g:aib H a y v H')(ry:RelV y u)(rv:RelV v r)(h:∀s',Inv X aA σ H' s'->Q () s'):
  bw (bA X.prog X.w) A (setItem (.ref a) u r) Q E s:=by
 rcases g with⟨cf,k,e,ey,l,eH⟩|⟨cf,k,b,e,ey,eb,l,eH⟩
 .subst ey eH;obtain⟨z,hd,vs,Qi,dd⟩:=aiF I.fV e;have hz:vs.length<=bu:=by rw[<-Qi.length];exact z
  have hl:(putK cf k v).length<=bu:=by have:=EU cf k v;lia
  refine wpAny_setItem_pairs (hsz:=hz) (T7 ry) dd λh' dd' hs=>h _ ?_;have he:∃q,h'.get? a=some q:=let ⟨q,_,_,hq,_⟩:=dd';⟨q,hq⟩;exact Tp I (by rw[e];exact m7) hs he (ae8 hl hd (Qi.put k rv) dd')
 .subst ey eH;cases(show u=Value.ref b from ry);obtain⟨z,hd,xs,Qi,dd⟩:=aiH I.fV e;have hz:xs.length<=bu:=by rw[<-Paired.length Qi];exact z
  have hl:(putK cf k v).length<=bu:=by have:=EU cf k v;lia
  refine wpAny_setItem_heap (hsz:=hz) (J_ hu) (M_ I.fV eb) dd λh' dd' hs=>h _ ?_;obtain⟨q,es,ep,hq,h2,h3,h4,_,h5⟩:=dd';refine Tp I (by rw[e];exact m7) hs ⟨q,hq⟩ ⟨hl,hd,_,(Qi.put k eb rv).keeps λc ys ec=>?_,q,es,ep,hq,h2,h3,h4,h5⟩;rw[aF (hG ec e (λz=>nomatch z))];exact ec
end
section
variable{X:Cx}{aA:jz}{σ:St}{H:Hp}{s:aL}{a:ke}{cf:List (Key×V)}{k:Key}{u:jm}{A:Around}{E:kc}
end
def ain (i:Expr):Prop:=∀ov iv,QC i false ov iv=operate [ov,iv] (S1 ov iv)
def ac2 {prog:bJ}{w:cz}{A:Around}{E:kc}{s:aL}{env:Env}{iY Dd:Expr}{cN:Pos}{T id:String}{Q:kc}
  (hl:kW (.type T) "__getitem__"=pure (some (.builtin id))) (hs:ain Dd)
  (h:bw (bA prog w) A (eval iY env) (λo ip=>bw (bA prog w) A (eval Dd env) (λi mR=>mR.TypeIs o T/\bw (bA prog w) A (S1 o i) Q E mR) E ip) E s):
  bw (bA prog w) A (eval (.Subscript iY Dd cN) env) Q E s:=by
 refine ah3 (dI h (λo ip ab2=>dI ab2 (λi mR YA=>?_) λ_ _ x=>x) λ_ _ x=>x);obtain⟨hT,YA⟩:=YA;unfold WZ;refine aR ?_;rw[getitemInPython_of_ne hT.not_modules];refine aR (wpAny_specialOf hT hl ?_);have fin:bw (bA prog w) A (QC Dd false o i) (λr Dj=>bw (bA prog w) A (letTemporaryGo iY o r >>=λ_=>pure r) Q E Dj) E mR:=by
  rw[hs o i];exact wpAny_operating (dI YA (λr Dj ab3=>aR (wpAny_letTemporaryGo (bV ab3))) λ_ _ x=>x)
 first
  |exact bV (aR fin)
  |exact aR (bV (aR fin))
  |exact aR fin
def OW {X:Cx}{aA:jz}{σ:St}{H:Hp}{s:aL}{a:ke}{y:V}{o:Option V}(I:Inv X aA σ H s)(g:Ka H a y o):s.TypeIs (.ref a) "dict":=by
 rcases g with⟨cf,k,e,_,_⟩|⟨cf,k,b,e,_,_,_⟩
 .obtain⟨_,_,vs,_,dd⟩:=Tu I.fV e;exact dd.typeIs
 .obtain⟨_,_,xs,_,dd⟩:=Tx I.fV e;exact dd.typeIs
inductive agV (Q:VK)(x:V)(y:V)(H2:Hp):Prop|i a v(_:x=.ref a)(_:Ka H2 a y (some v))(_:Q v H2)
def akR (td ty:TE):TE:=λσ H Q=>td σ H λx H1=>ty σ H1 (agV Q x)
inductive ZZ (Q:VK)(y:V)(x:V)(H2:Hp):Prop|i a o(_:x=.ref a)(_:Ka H2 a y o)(_:Q (.bl (!o.isSome)) H2)
def ac7 (ty td:TE):TE:=λσ H Q=>ty σ H λy H1=>td σ H1 (ZZ Q y)
inductive agp (D:Ends)(σ:St)(v:V)(x:V)(y:V)(H3:Hp):Prop|i a H4(_:x=.ref a)(_:aib H3 a y v H4)(_:D.nx σ H4)
def akp (td ty tv:TE):TS:=λD σ H=>tv σ H λv H1=>td σ H1 λx H2=>ty σ H2 (agp D σ v x)
section
variable{X:Cx}{o i e iY:Expr}{cN xA JI:Pos}{td ty tv:TE}
def aco (hu:X.A.units+1<L8)(ho:PE X o td)(hi:PE X i ty)(hs:ain i):PE X (.Subscript o i cN) (akR td ty):=by
 intro aA s σ H Q I h;refine ac2 PySem.F.slot_dict_getitem.lookup hs (je (ho aA s σ H _ I h) λu s1 ⟨x,H1,I1,rx,q1⟩=>je (hi aA s1 σ H1 _ I1 q1) λiv s2 ⟨y,H2,I2,ry,a,v,ex,g,q2⟩=>?_);subst ex;obtain rfl:u=Value.ref a:=rx;exact⟨OW I2 g,Vc hu I2 g ry λw' s3 I3 rw'=>⟨v,H2,I3,rw',q2⟩⟩
def VO (hu:X.A.units+1<L8)(hi:PE X i ty)(ho:PE X o td):PC X .NotIn i o (ac7 ty td):=by
 intro aA s σ H Q I h;refine je (hi aA s σ H _ I h) λiv s1 ⟨y,H1,I1,ry,q1⟩=>je (ho aA s1 σ H1 _ I1 q1) λu s2 ⟨x,H2,I2,rx,a,ov,ex,g,q2⟩=>?_;subst ex;obtain rfl:u=Value.ref a:=rx;exact abC hu I2 g ry λs3 I3=>⟨.bl (!ov.isSome),H2,I3,Z,q2⟩
def acw (hu:X.A.units+1<L8)(ho:PE X o td)(hi:PE X i ty)(hv:PE X iY tv)(hs:mU iY (some (.Subscript o i xA)) cN.line X.env=pure false):
  PS X (.Assign [.Subscript o i xA] iY cN) (akp td ty tv):=by
 intro aA s σ H D I h;refine wpAny_Assign_Subscript (je (hv aA s σ H _ I h) λr s1 ⟨v,H1,I1,rv,q1⟩=>je (ho aA s1 σ H1 _ I1 q1) λu s2 ⟨x,H2,I2,rx,q2⟩=>je (hi aA s2 σ H2 _ I2 q2) λiv s3 ⟨y,H3,I3,ry,a,H4,ex,g,q3⟩=>?_) hs;subst ex;obtain rfl:u=Value.ref a:=rx;exact Vg hu I3 g ry rv λs4 I4=>⟨σ,H4,I4,q3⟩
end
def XM {P:bJ}{w:cz}{H:Hp}(h:Heap)(hb:oB<h.objs.size):ju P w H (h.push {cls:=.type "dict",data:=.dict #[]}) h.objs.size (.dK []):=
 ⟨eU _,beq_eq_false_iff_ne.mpr (eK (cH hb)),[],.nil,Heap.DictOf.new h⟩
def agW:TE:=λ_ H Q=>∀p,H p=none->Q (.ref p) (upd H p (.dK []))
section
variable{X:Cx}{cN:Pos}
def Zb:PE X (.Dict [] [] cN) agW:=λaA s σ H Q I h=>
 wpAny_Dict_empty ⟨.ref s.heap.objs.size,_,I.laid (a:=s.heap.objs.size) (o:=.dK []) (t':=s.toks) (λ_ _ q=>Heap.get?_push_of_some _ q) (bq _) (XM s.heap I.big),Z,h _ (I.fV.fresh (bq _))⟩
end
section
variable{X:Cx}{aA:jz}{σ:St}{H:Hp}{s:aL}{a:ke}{y d:V}{u r:jm}{o:Option V}{A:Around}{E:kc}
end
section
variable{X:Cx}{o e f:Expr}{kM lj:Pos}{td ty tx:TE}
end
section
variable{X:Cx}{aA:jz}{σ:St}{H:Hp}{s:aL}{a:ke}{cf:List (Key×V)}{A:Around}{E:kc}
end
section
variable{X:Cx}{aA:jz}{σ:St}{H:Hp}{s:aL}{a:ke}{y:V}{u:jm}{A:Around}{E:kc}
end
open PySem PySem.Spec PyProof.Rows
section
variable{prog:bJ}{w:cz}{A:Around}{E:kc}
end
section
variable{X:Cx}
end
open PySem PySem.Spec PyProof.Rows
def HE:rL "reversed"=some (.type "reversed"):=by decide+kernel
section
variable{X:Cx}{aA:jz}{σ:St}{H:Hp}{s:aL}{h':Heap}
def Inv.adg {t':Nat}{ch:pG}(I:Inv X aA σ H s)(k:∀b o,b∉ch->s.heap.get? b=some o->h'.get? b=some o)(hf:∀b∈ch,Fz X aA H b):Inv X aA σ H {s with heap:=h',toks:=t'}:=by
 have nit:∀b u,H b=some u->b∉ch:=λb u e z=>by
  have q:=(hf b z).1;rw[q] at e;cases e
 refine I.step (g':=s.gens) (d':=s.drawn) (ch:=ch) (λb hb=>⟨(hf b hb).2.2.2.1,(hf b hb).2.1,(hf b hb).2.2.2.2.1,(hf b hb).2.2.2.2.2⟩) (λb o _ _ hc e _=>k b o hc e) (λb o _ _ hc e _=>⟨o.slots,k b o hc e⟩)
  (λ_ _ _ _ n=>n) (λb o hc e=>⟨o,k b o hc e⟩) (λ_ _ e=>e) (λ_ _ _ e=>e) (λb ps e=>⟨#[],by rw[e];simp⟩) (λm hm=>?_) (λb u e=>?_) I.bare
 .obtain⟨o,es,ep,ho,r⟩:=hm;exact⟨o,es,ep,k _ o (λz=>(hf _ z).2.1 rfl) ho,r⟩
 .refine(I.fV b u e).Ac (λc v hc q=>k c v ?_ q) (λ_ q=>q) λ_ _ q=>q;rcases hc with z|z
  .rw[z];exact nit b u e
  .exact nit c _ z
def Inv.LZ {t':Nat}{ch:pG}{T:ke}{ob:HO}(I:Inv X aA σ H s)(k:∀b o,b∉ch->s.heap.get? b=some o->h'.get? b=some o)(hf:∀b∈ch,Fz X aA H b)(hT:s.heap.objs.size<=T)
  (new:ju X.prog X.w (upd H T ob) h' T ob):Inv X aA σ (upd H T ob) {s with heap:=h',toks:=t'}:=by
 have hn:H T=none:=I.fV.fresh hT;have nit:∀b u,H b=some u->b∉ch:=λb u e z=>by
  have q:=(hf b z).1;rw[q] at e;cases e
 refine I.step (g':=s.gens) (d':=s.drawn) (ch:=ch) (λb hb=>⟨(hf b hb).2.2.2.1,(hf b hb).2.1,(hf b hb).2.2.2.2.1,(hf b hb).2.2.2.2.2⟩) (λb o _ _ hc e _=>k b o hc e) (λb o _ _ hc e _=>⟨o.slots,k b o hc e⟩)
  (λb o _ e n=>?_) (λb o hc e=>⟨o,k b o hc e⟩) (λb xs e=>?_) (λb o u e=>?_) (λb ps e=>⟨#[],?_⟩) (λm hm=>?_) (λb u e=>?_) I.bare
 .rw[aF (cH (a_ (Heap.lt_size e) hT))];exact n
 .rw[aF (aI e hn)];exact e
 .rw[aF (aI e hn)];exact e
 .rw[aF (aI e hn),e];simp
 .obtain⟨o,es,ep,ho,r⟩:=hm;exact⟨o,es,ep,k _ o (λz=>(hf _ z).2.1 rfl) ho,r⟩
 .by_cases hb:b=T
  .subst hb;rw[aq] at e;cases e;exact new
  .rw[aF hb] at e;refine(I.fV b u e).Ac (λc v hc q=>k c v ?_ q) (λc q=>by rw[aF (aI q hn)];exact q) λc xs q=>by rw[aF (aI q hn)];exact q
   rcases hc with z|z
   .rw[z];exact nit b u e
   .exact nit c _ z
end
section
variable{X:Cx}
def Zg {tg:Expr}{aA:jz}{σ:St}{H:Hp}{s:aL}{R:It->Hp->Prop}{J:It}{tn:Nat->Heap->Prop}{tk:Nat}(I:Inv X aA σ H s)(o:Obj)
  (T:Turn X.prog X.w X.K tg J [s.heap.objs.size] s.heap.objs.size tn) (st:tn 0 (s.heap.push o)) (q:R J H):PIE X aA σ tg R (.ref s.heap.objs.size) {s with heap:=s.heap.push o,toks:=tk}:=by
 refine⟨s.heap.objs.size,[s.heap.objs.size],tn,J,H,Z,I.kept λb ob e=>Heap.get?_push_of_some _ e,T,st,λb hb=>?_,q⟩;have e:b=s.heap.objs.size:=by simpa using hb
 subst e;exact I.RK (bq _) (I.fV.fresh (bq _))
end
def Itc (lo c:Int)(n:Nat):It:=⟨λi _=>i<n,λi H x H'=>H'=H/\x=.int (lo+(i:Nat)*c),λi _=>n<=i⟩
def Qw {P:bJ}{w:cz}{K:au}{tg:Expr}(it:ke)(lo c:Int)(n:Nat):Turn P w K tg (Itc lo c n) [it] it (λi h=>QB h it (lo+(i:Nat)*c) ((n:Int)-(i:Nat)) c) where
 mem:=by simp
 obj:=λi h st b hb=>by
  have e:b=it:=by simpa using hb
  subst e;exact⟨_,st,λv z=>nomatch z⟩
 keep:=λi h h' st k=>k it (by simp) _ st
 item:=by
  intro X hP hw hK hc i aA s σ H E I hf st hg;subst hP hw hK;obtain⟨f0,f1,f2,f3,f4,f5⟩:=hf it (by simp);have W:=Walks.range (prog:=X.prog) (w:=X.w) (I.ok.hd hc) it lo c n;refine W.item i s _ _ hg st λv h' tk hv uP kk=>?_;obtain⟨t,rfl⟩:=hv;have I1:Inv X aA σ H {s with heap:=h',toks:=tk}:=I.turned (λb o hb e=>kk b o (by simpa using hb) e) f0 f1 f3 f4 f5;exact⟨_,Z,TN (s:={s with heap:=h',toks:=tk}) (n:="range_iterator") uP rfl rfl (by decide) ⟨.int (lo+(i:Nat)*c),H,I1,⟨t,Z⟩,⟨Z,Z⟩,uP,λb hb=>(hf b hb).1⟩⟩
 done:=by
  intro X hP hw hK hc i aA s σ H E I hf st hg;subst hP hw hK;obtain⟨f0,f1,f2,f3,f4,f5⟩:=hf it (by simp);exact aa9 (I.ok.hd hc) st (by have:n<=i:=hg;lia) λh' eb=>⟨Z,I.turned (t':=s.toks) (λb o hb e=>eb b o hb e) f0 f1 f3 f4 f5⟩
 self:=λA i s Q E st h=>aa8 st h
def RgC (i j c:Int)(n:Nat):Prop:=c≠0/\c.natAbs<1073741824/\Builtin.Range.small i j c=true/\Builtin.Range.rangeSize i j c=n
def RgC.neg {i j:Int}(ha: -(2^62)<=i)(ha':i<2^62)(hb: -(2^62)<=j)(hb':j<2^62):RgC i j (-1) (i-j).toNat:=
 ⟨by decide,by decide,PySem.W.small_down ha ha' hb hb',PySem.W.rangeSize_downNat i j⟩
inductive afR (R:It->Hp->Prop)(vs:b_)(H1:Hp):Prop|i(i j c:Int)(n:Nat)(_:vs=[.int i,.int j,.int c])(_:RgC i j c n)(_:R (Itc i c n) H1)
def ajK (ta:TA):TI:=λσ H R=>ta σ H (afR R)
section
variable{X:Cx}{tg:Expr}
def zt {a b c:Expr}{ta:TA}{p cN:Pos}(hg:Gl X "range")(hm:X.mg "range"=none)(ha:PA X [a,b,c] ta)
  (hs:autoParam (dv [a,b,c] X.env=(false,eval a X.env)::dv [b,c] X.env) Z_r) (ou:autoParam ((m9 cN (dv [b,c] X.env)).any (·.1)=false) Z_r):
  PI X tg (.Call (.Name "range" p) [a,b,c] [] cN) (ajK ta):=by
 intro aA s σ H R I h;refine Call_ (wu I hg hm ah4 (eM (je (ha cN aA s σ H _ I h) λus s1 ⟨vs,H1,I1,r1,q1⟩=>?_) hs ou));obtain⟨i,j,k,n,e,⟨c0,c1,c2,c3⟩,q⟩:=q1;subst e;cases r1 with
 |cons r rr=>
  cases rr with
  |cons r' rr=>
   cases rr with
   |cons r'' rr=>
    cases rr;obtain⟨t,rfl⟩:=r;obtain⟨t',rfl⟩:=r';obtain⟨t'',rfl⟩:=r'';refine call_range_3 c0 ?_ (.inl (Ol c1));refine ah8 (IsRange.new ..) c2 ?_;have I2:Inv X aA σ H1 {s1 with heap:=s1.heap.push {cls:=.type "range",data:=.fields #[.int i t,.int j t',.int k t'']}}:=I1.kept (t':=s1.toks) λb o e=>Heap.get?_push_of_some _ e;refine Zg (tk:=s1.toks) I2 _ (Qw _ i k n) ?_ q;have e1:i+((0:Nat):Int)*k=i:=by simp
    have e2:(n:Int)-((0:Nat):Int)=Builtin.Range.rangeSize i j k:=by rw[c3];simp
    show QB _ _ (i+((0:Nat):Int)*k) ((n:Int)-((0:Nat):Int)) k;rw[e1,e2];exact Heap.get?_push_size _ rfl
end
def wj {lo c:Int}{n:Nat}{g:TG}{tb:TS}{D:Ends}{σ:St}{H:Hp}(Pv:Nat->St->Hp->Prop)(h0:Pv 0 σ H)
  (hs:∀i σ H,i<n->Pv i σ H->g (.int (lo+(i:Nat)*c)) σ H λmG H2=>tb {D with nx:=Pv (i+1),ct:=Pv (i+1),bk:=D.nx} mG H2) (hd:∀σ H,Pv n σ H->D.nx σ H):
  ∃W:Nat->Nat->St->Hp->Prop,(∃m,W 0 m σ H)/\∀i m σ H,W i m σ H->
   ((Itc lo c n).stop i H/\D.nx σ H)\/((Itc lo c n).go i H/\∃N:St->Hp->Prop,(∀gz H',N gz H'->∃m',m'<m/\W (i+1) m' gz H')/\∀x H',(Itc lo c n).Wj i H x H'->g x σ H' λmG H2=>tb {D with nx:=N,ct:=N,bk:=D.nx} mG H2):=by
 refine⟨λi m σ H=>m=n-i/\i<=n/\Pv i σ H,⟨n,by simp,eU _,h0⟩,?_⟩;rintro i m σ H ⟨rfl,hi,p⟩;by_cases As:i<n
 .refine .inr ⟨As,Pv (i+1),λgz H' p'=>⟨n-(i+1),by lia,Z,As,p'⟩,λx H' y=>?_⟩;obtain⟨e,y⟩:=y;subst e y;exact hs i σ _ As p
 .have e:i=n:=by lia
  subst e;exact .inl ⟨bq _,hd σ H p⟩
def Itv (K:au)(a:ke)(n:Nat):It:=
 ⟨λi H=>i<n/\∃(xs:b_) (x:V),nN K H a xs/\xs[n-1-i]? =some x,λi H x H'=>H'=H/\∀xs,nN K H a xs->xs[n-1-i]? =some x,λi _=>n<=i⟩
def Z5 {P:bJ}{w:cz}{K:au}{tg:Expr}(a it:ke)(n:Nat):Turn P w K tg (Itv K a n) [it] it (λi h=>i<=n/\h.IsRevIter it a ((n:Int)-1-(i:Nat))) where
 mem:=by simp
 obj:=λi h st b hb=>by
  have e:b=it:=by simpa using hb
  subst e;obtain⟨_,o,e,c,d⟩:=st;exact⟨o,e,λv z=>by rw[d] at z;cases z⟩
 keep:=λi h h' st k=>⟨st.1,st.2.at λo e=>k it (by simp) o e⟩
 item:=by
  intro X hP hw hK hc i aA s σ H E I hf st hg;subst hP hw hK;obtain⟨hin,xs,x,hq,hx⟩:=hg;obtain⟨dg,rv,p,hz⟩:=I.list hq;obtain⟨u,hu,ru⟩:=rv.get hx;obtain⟨f0,f1,f2,f3,f4,f5⟩:=hf it (by simp);obtain⟨_,JZ⟩:=st;have e1:(n:Int)-1-((i:Nat):Int)=((n-1-i:Nat):Int):=by lia
  rw[e1] at JZ;refine wpAny_pyNext_rev_item JZ p.isList (x:=u) (by simpa using hu) λh' uP sb=>?_;have e2:((n-1-i:Nat):Int)-1=(n:Int)-1-((i+1:Nat):Int):=by lia
  rw[e2] at uP;have I1:Inv X aA σ H {s with heap:=h'}:=I.turned (t':=s.toks) (λb o hb e=>(sb.2 b hb).trans e) f0 f1 f3 f4 f5;obtain⟨o,e,c,d⟩:=id uP;exact⟨u,Z,TN (s:={s with heap:=h'}) e c d (by decide) ⟨x,H,I1,ru,⟨Z,λys hy=>by rw[I.yA hy hq];exact hx⟩,⟨hin,uP⟩,λb hb=>(hf b hb).1⟩⟩
 done:=by
  intro X hP hw hK hc i aA s σ H E I hf st hg;subst hP hw hK;obtain⟨f0,f1,f2,f3,f4,f5⟩:=hf it (by simp);obtain⟨hin,JZ⟩:=st;have hge:n<=i:=hg;have e1:(n:Int)-1-((i:Nat):Int)= -1:=by lia
  rw[e1] at JZ;exact wpAny_pyNext_rev_end (I.ok.hd hc) JZ λh' eb=>⟨Z,I.turned (t':=s.toks) (λb o hb e=>eb b o hb e) f0 f1 f3 f4 f5⟩
 self:=λA i s Q E st h=>aeK st.2 h
inductive ajH (K:au)(R:It->Hp->Prop)(vs:b_)(H1:Hp):Prop|i(a:ke)(xs:b_)(_:vs=[.ref a])(_:nN K H1 a xs)(_:R (Itv K a xs.length) H1)
def ao0 (K:au)(ta:TA):TI:=λσ H R=>ta σ H (ajH K R)
section
variable{X:Cx}{tg:Expr}
def Fi {e:Expr}{ta:TA}{p cN:Pos}(hg:Gl X "reversed")(hm:X.mg "reversed"=none)(ha:PA X [e] ta)(hs:autoParam (dv [e] X.env=[(false,eval e X.env)]) Z_r):PI X tg (.Call (.Name "reversed" p) [e] [] cN) (ao0 X.K ta):=by
 intro aA s σ H R I h;refine Call_ (wu I hg hm HE (eM (je (ha cN aA s σ H _ I h) λus s1 ⟨vs,H1,I1,r1,q1⟩=>?_) hs rfl));obtain⟨a,xs,e,hq,q⟩:=q1;subst e;cases r1 with
 |cons r rr=>
  cases rr;cases r;obtain⟨dg,rv,p',hz⟩:=I1.list hq;have hl:=rv.length;have e1:((dg.toArray.size:Nat):Int)-1=(xs.length:Int)-1-((0:Nat):Int):=by simp only[bB];lia
  refine call_reversed_list p'.isList (aeK (l:=a) (i:=((dg.toArray.size:Nat):Int)-1) ⟨_,Heap.get?_push_size _ rfl,Z,Z⟩ ?_);refine Zg (tk:=s1.toks) I1 _ (Z5 a _ xs.length) ⟨eU _,?_⟩ q;rw[<-e1];exact⟨_,Heap.get?_push_size _ rfl,Z,Z⟩
end
section
variable{prog:bJ}{w:cz}{A:Around}{E:kc}{s:aL}
end
section
variable{X:Cx}{aA:jz}{σ:St}{H:Hp}{s:aL}{d:ke}{o:Obj}
end
section
variable{P:bJ}{w:cz}{K:au}{tg:Expr}{d:ke}{o:Obj}{es:Array DictEntry}{ep:Nat}
end
section
variable{X:Cx}{tg e:Expr}{td:TE}{kM lj:Pos}
end
def Ite (K:au)(a:ke):It:=
 ⟨λi H=>∃(xs:b_) (x:V),nN K H a xs/\xs[i]? =some x,λi H v H'=>∃T x,v=.ref T/\H T=none/\H'=upd H T (.tup [.int (i:Nat),x])/\∀xs,nN K H a xs->xs[i]? =some x,λi H=>∃xs:b_,nN K H a xs/\xs.length<=i⟩
def Wc {P:bJ}{w:cz}{K:au}{Rt:FD}{kk:Nat}{JI:Pos}(a e it:ke):
  Turn P w K (.Tuple Rt kk JI) (Ite K a) [e,it] e (λi h=>(∃old,IsEnum h e it ((i:Nat):Int) old)/\h.IsListIter it a i/\e≠it) where
 mem:=by simp
 obj:=λi h st b hb=>by
  obtain⟨⟨old,he⟩,⟨o,ho,hc,hd⟩,_⟩:=st;have e':b=e\/b=it:=by simpa using hb
  rcases e' with z|z
  .rw[z];exact⟨_,he,λv q=>nomatch q⟩
  .rw[z];exact⟨o,ho,λv q=>by rw[hd] at q;cases q⟩
 keep:=λi h h' st k=>let ⟨⟨old,he⟩,hi,GQ⟩:=st;⟨⟨old,k e (by simp) _ he⟩,hi.at λo q=>k it (by simp) o q,GQ⟩
 item:=by
  intro X hP hw hK hc i aA s σ H E I hf st hg;subst hP hw hK;obtain⟨⟨old,he⟩,JZ,GQ⟩:=st;obtain⟨xs,x,hq,hx⟩:=hg;obtain⟨dg,rv,p,hz⟩:=I.list hq;obtain⟨u,hu,ru⟩:=rv.get hx;have hel:e<s.heap.objs.size:=Heap.lt_size he;have hil:it<s.heap.objs.size:=by obtain⟨_,q,_⟩:=JZ;exact Heap.lt_size q
  refine wpAny_pyNext_enum_item he JZ p.isList (x:=u) (by simpa using hu) GQ λh' ho aoc hT hsz hk=>?_;refine⟨_,Z,wpAny_letOwnedTupleGo_enum (s:={s with heap:=h',toks:=s.toks+1}) ho λh'' he' sb=>?_⟩;have hT2:h''.get? s.heap.objs.size=some {cls:=.type "tuple",data:=.seq #[.int i s.toks,u]}:=(sb.2 _ (UW hel)).trans hT;have new:ju X.prog X.w (upd H s.heap.objs.size (.tup [.int (i:Nat),x])) h'' s.heap.objs.size (.tup [.int (i:Nat),x]):=
   ⟨by show 2<=bu;decide,[.int i s.toks,u],.cons ⟨_,Z⟩ (.cons ru .nil),⟨_,hT2,Z,_,Z⟩⟩
  have I1:Inv X aA σ (upd H s.heap.objs.size (.tup [.int (i:Nat),x])) {s with heap:=h'',toks:=s.toks+1}:=
   I.LZ (ch:=[e,it]) (λb ob hb q=>(sb.2 b (λz=>hb (by simp[z]))).trans (hk b ob (λz=>hb (by simp[z])) (λz=>hb (by simp[z])) q)) hf (bq _) new
  refine⟨.ref s.heap.objs.size,_,I1,Z,⟨_,x,Z,I.fV.fresh (bq _),Z,λys hy=>by rw[I.yA hy hq];exact hx⟩,⟨⟨u,?_⟩,aoc.at λo q=>(sb.2 it (eK GQ)).trans q,GQ⟩,λb hb=>?_⟩
  .have e1:((i+1:Nat):Int)=(i:Int)+1:=by lia
   rw[e1];exact he'
  .have hb':b<s.heap.objs.size:=by
    have e':b=e\/b=it:=by simpa using hb
    rcases e' with z|z
    .rw[z];exact hel
    .rw[z];exact hil
   rw[aF (cH hb')];exact(hf b hb).1
 done:=by
  intro X hP hw hK hc i aA s σ H E I hf st hg;subst hP hw hK;obtain⟨⟨old,he⟩,JZ,GQ⟩:=st;obtain⟨xs,hq,hx⟩:=hg;obtain⟨dg,rv,p,hz⟩:=I.list hq;obtain⟨f0,f1,f2,f3,f4,f5⟩:=hf it (by simp);have hl:=rv.length;exact wpAny_pyNext_enum_end (I.ok.hd hc) he JZ p.isList (by simp;lia) λh' eb=>⟨Z,I.turned (t':=s.toks) (λb o hb q=>eb b o hb q) f0 f1 f3 f4 f5⟩
 self:=λA i s Q E st h=>let ⟨⟨_,he⟩,_⟩:=st;ak6 he h
inductive afN (K:au)(R:It->Hp->Prop)(vs:b_)(H1:Hp):Prop|i a xs(_:vs=[.ref a])(_:nN K H1 a xs)(_:R (Ite K a) H1)
def ajG (K:au)(ta:TA):TI:=λσ H R=>ta σ H (afN K R)
def GV {X:Cx}{e:Expr}{ta:TA}{p cN JI:Pos}{Rt:FD}{kk:Nat}(hg:Gl X "enumerate")(hm:X.mg "enumerate"=none)(ha:PA X [e] ta)(hs:autoParam (dv [e] X.env=[(false,eval e X.env)]) Z_r):
  PI X (.Tuple Rt kk JI) (.Call (.Name "enumerate" p) [e] [] cN) (ajG X.K ta):=by
 intro aA s σ H R I h;refine Call_ (wu I hg hm boot_enumerate (eM (je (ha cN aA s σ H _ I h) λus s1 ⟨vs,H1,I1,r1,q1⟩=>?_) hs rfl));obtain⟨a,xs,ex,hq,q⟩:=q1;subst ex;cases r1 with
 |cons r rr=>
  cases rr;cases r;obtain⟨dg,rv,p',hz⟩:=I1.list hq;refine call_enumerate_list p'.isList λh' he JZ hsz hk=>ak6 he ?_;have I2:Inv X aA σ H1 {s1 with heap:=h'}:=I1.kept (t':=s1.toks) hk;refine⟨s1.heap.objs.size+1,[s1.heap.objs.size+1,s1.heap.objs.size],_,_,H1,Z,I2,Wc a (s1.heap.objs.size+1) s1.heap.objs.size,⟨⟨.none,he⟩,JZ,Nat.succ_ne_self _⟩,λb hb=>?_,q⟩;have e':b=s1.heap.objs.size+1\/b=s1.heap.objs.size:=by simpa using hb
  have Pf:s1.heap.objs.size<=b:=by
   rcases e' with z|z
   .rw[z];exact jw _ _
   .rw[z];exact bq _
  exact I1.RK Pf (I1.fV.fresh Pf)
def U9:rL "zip"=some (.type "zip"):=by decide+kernel
def Itz (K:au)(a b:ke):It:=
 ⟨λi H=>∃(xs ys:b_) (x y:V),nN K H a xs/\nN K H b ys/\xs[i]? =some x/\ys[i]? =some y,
  λi H v H'=>∃T x y,v=.ref T/\H T=none/\H'=upd H T (.tup [x,y])/\(∀xs,nN K H a xs->xs[i]? =some x)/\∀ys,nN K H b ys->ys[i]? =some y,
  λi H=>∃xs ys:b_,nN K H a xs/\nN K H b ys/\(xs.length<=i\/ys.length<=i)⟩
def Z6 {P:bJ}{w:cz}{K:au}{Rt:FD}{kk:Nat}{JI:Pos}{a b z TI TO i1 i2:ke}(D:ZipApart z TI TO i1 i2 a b):
  Turn P w K (.Tuple Rt kk JI) (Itz K a b) [z,TI,TO,i1,i2] z (λi h=>IsZip h z TI TO .none/\IsPair h TI (.ref i1) (.ref i2)/\(∃x y,IsPair h TO x y)/\h.IsListIter i1 a i/\h.IsListIter i2 b i) where
 mem:=by simp
 obj:=λi h st c hc=>by
  obtain⟨hz,Ye,⟨x,y,hTO⟩,⟨o1,e1,_,d1⟩,⟨o2,e2,_,d2⟩⟩:=st;have e':c=z\/c=TI\/c=TO\/c=i1\/c=i2:=by simpa using hc
  rcases e' with q|q|q|q|q
  .rw[q];exact⟨_,hz,λv q=>nomatch q⟩
  .rw[q];exact⟨_,Ye,λv q=>nomatch q⟩
  .rw[q];exact⟨_,hTO,λv q=>nomatch q⟩
  .rw[q];exact⟨o1,e1,λv q=>by rw[d1] at q;cases q⟩
  .rw[q];exact⟨o2,e2,λv q=>by rw[d2] at q;cases q⟩
 keep:=λi h h' st k=>by
  obtain⟨hz,Ye,⟨x,y,hTO⟩,h1,h2⟩:=st;exact⟨k z (by simp) _ hz,k TI (by simp) _ Ye,⟨x,y,k TO (by simp) _ hTO⟩,h1.at λo q=>k i1 (by simp) o q,h2.at λo q=>k i2 (by simp) o q⟩
 item:=by
  intro X hP hw hK hc i aA s σ H E I hf st hg;subst hP hw hK;obtain⟨hz,Ye,⟨x0,y0,hTO⟩,h1,h2⟩:=st;obtain⟨xs,ys,x,y,hqx,hqy,hx,hy⟩:=hg;obtain⟨dg,rv,p,_⟩:=I.list hqx;obtain⟨IA,rv2,p2,_⟩:=I.list hqy;obtain⟨u,hu,ru⟩:=rv.get hx;obtain⟨u2,hu2,ru2⟩:=rv2.get hy;have hzl:z<s.heap.objs.size:=Heap.lt_size hz;refine wpAny_pyNext_zip_item D hz Ye hTO h1 h2 p.isList p2.isList (x:=u) (y:=u2) (by simpa using hu) (by simpa using hu2) λh' z' TO' RM h2' hT hsz hk=>?_;refine⟨_,Z,wpAny_letOwnedTupleGo_zip (s:={s with heap:=h'}) z' λh'' z'' sb=>?_⟩;have hT2:h''.get? s.heap.objs.size=some {cls:=.type "tuple",data:=.seq #[u,u2]}:=(sb.2 _ (UW hzl)).trans hT;have new:ju X.prog X.w (upd H s.heap.objs.size (.tup [x,y])) h'' s.heap.objs.size (.tup [x,y]):=
   ⟨by show 2<=bu;decide,[u,u2],.cons ru (.cons ru2 .nil),⟨_,hT2,Z,_,Z⟩⟩
  have I1:Inv X aA σ (upd H s.heap.objs.size (.tup [x,y])) {s with heap:=h''}:=
   I.LZ (t':=s.toks) (ch:=[z,TI,TO,i1,i2]) (λc o hb q=>(sb.2 c (λq'=>hb (by simp[q']))).trans (hk c o (λq'=>hb (by simp[q'])) (λq'=>hb (by simp[q'])) (λq'=>hb (by simp[q'])) (λq'=>hb (by simp[q'])) q)) hf (bq _) new
  refine⟨.ref s.heap.objs.size,_,I1,Z,⟨_,x,y,Z,I.fV.fresh (bq _),Z,λl hl=>by rw[I.yA hl hqx];exact hx,λl hl=>by rw[I.yA hl hqy];exact hy⟩,⟨z'',?_,⟨u,u2,?_⟩,?_,?_⟩,λc hcm=>?_⟩
  .exact(sb.2 _ D.TIz).trans (hk _ _ D.TIz D.TITO D.TIi1 D.TIi2 Ye)
  .exact(sb.2 _ D.TOz).trans TO'
  .exact RM.at λo q=>(sb.2 _ D.i1z).trans q
  .exact h2'.at λo q=>(sb.2 _ D.i2z).trans q
  .have As:c<s.heap.objs.size:=by
    have e':c=z\/c=TI\/c=TO\/c=i1\/c=i2:=by simpa using hcm
    rcases e' with q|q|q|q|q
    .rw[q];exact hzl
    .rw[q];exact Heap.lt_size Ye
    .rw[q];exact Heap.lt_size hTO
    .rw[q];obtain⟨_,e1,_⟩:=h1;exact Heap.lt_size e1
    .rw[q];obtain⟨_,e2,_⟩:=h2;exact Heap.lt_size e2
   rw[aF (cH As)];exact(hf c hcm).1
 done:=by
  intro X hP hw hK hc i aA s σ H E I hf st hg;subst hP hw hK;obtain⟨hz,Ye,⟨x0,y0,hTO⟩,h1,h2⟩:=st;obtain⟨xs,ys,hqx,hqy,RO⟩:=hg;obtain⟨dg,rv,p,_⟩:=I.list hqx;obtain⟨IA,rv2,p2,_⟩:=I.list hqy;have l1:=rv.length;have l2:=rv2.length;have he:dg.toArray[i]? =none\/IA.toArray[i]? =none:=by
   rcases RO with q|q
   .exact .inl (by simp;lia)
   .exact .inr (by simp;lia)
  exact wpAny_pyNext_zip_end (I.ok.hd hc) D hz Ye hTO h1 h2 p.isList p2.isList he λh' hk=>⟨Z,I.adg (t':=s.toks) (ch:=[z,TI,TO,i1,i2]) (λc o hb q=>
   hk c o (λq'=>hb (by simp[q'])) (λq'=>hb (by simp[q'])) (λq'=>hb (by simp[q'])) (λq'=>hb (by simp[q'])) q) hf⟩
 self:=λA i s Q E st h=>amv st.1 h
inductive ajL (K:au)(R:It->Hp->Prop)(vs:b_)(H1:Hp):Prop|i a b xs ys(_:vs=[.ref a,.ref b])(_:nN K H1 a xs)(_:nN K H1 b ys)(_:R (Itz K a b) H1)
def ao1 (K:au)(ta:TA):TI:=λσ H R=>ta σ H (ajL K R)
def Br {X:Cx}{e e2:Expr}{ta:TA}{p cN JI:Pos}{Rt:FD}{kk:Nat}(hg:Gl X "zip")(hm:X.mg "zip"=none)(ha:PA X [e,e2] ta)
  (hs:autoParam (dv [e,e2] X.env=(false,eval e X.env)::dv [e2] X.env) Z_r) (ou:autoParam ((m9 cN (dv [e2] X.env)).any (·.1)=false) Z_r):
  PI X (.Tuple Rt kk JI) (.Call (.Name "zip" p) [e,e2] [] cN) (ao1 X.K ta):=by
 intro aA s σ H R I h;refine Call_ (wu I hg hm U9 (eM (je (ha cN aA s σ H _ I h) λus s1 ⟨vs,H1,I1,r1,q1⟩=>?_) hs ou));obtain⟨a,b,xs,ys,ex,hqx,hqy,q⟩:=q1;subst ex;cases r1 with
 |cons r rr=>
  cases rr with
  |cons r' rr=>
   cases rr;cases r;cases r';obtain⟨dg,rv,p1,_⟩:=I1.list hqx;obtain⟨IA,rv2,p2,_⟩:=I1.list hqy;have la:a<s1.heap.objs.size:=p1.lt;have lb:b<s1.heap.objs.size:=p2.lt;refine call_zip_2 p1.isList p2.isList λh' hz Ye hTO h1 h2 hsz hk=>amv hz ?_;have I2:Inv X aA σ H1 {s1 with heap:=h'}:=I1.kept (t':=s1.toks) hk;refine⟨s1.heap.objs.size+4,[s1.heap.objs.size+4,s1.heap.objs.size+2,s1.heap.objs.size+3,s1.heap.objs.size,s1.heap.objs.size+1],_,_,H1,Z,I2,Z6 (PySem.W.ktu_apart s1.heap.objs.size a b la lb),⟨hz,Ye,⟨_,_,hTO⟩,h1,h2⟩,λc hcm=>?_,q⟩;have e':c=s1.heap.objs.size+4\/c=s1.heap.objs.size+2\/c=s1.heap.objs.size+3\/c=s1.heap.objs.size\/c=s1.heap.objs.size+1:=by simpa using hcm
   have Pf:s1.heap.objs.size<=c:=by
    rcases e' with z|z|z|z|z
    .rw[z];exact jw _ _
    .rw[z];exact jw _ _
    .rw[z];exact jw _ _
    .rw[z];exact bq _
    .rw[z];exact jw _ _
   exact I1.RK Pf (I1.fV.fresh Pf)
end L2
section
namespace Bits
open PySem PyProof.Rows
def EG {x:Int}(k:Nat)(hx:0<=x):Builtin.bitAnd x (2^k-1)=x%2^k:=by
 obtain⟨n,rfl⟩:=S8 hx;have hp:0<2^k:=pF k;rw[two_pow_cast];have e:((2^k:Nat):Int)-1=((2^k-1:Nat):Int):=by
  generalize(2:Nat)^k=m at hp;lia
 rw[e,bitAnd_pp (by lia) (by lia),bF,bF,Nat.and_two_pow_sub_one_eq_mod]
 first
  |rfl
  |exact rQ _ _
  |simp
def Gj (m:Nat):∀n:Nat,(m^^^n)+2*(m&&& n)=m+n:=by
 induction m using Nat.strongRecOn with
 |_ m ih=>
  intro n;by_cases h0:m=0
  .subst h0;simp
  .have ih':=ih (m / 2) (by lia) (n / 2);rw[<-Nat.xor_div_two,<-Nat.and_div_two] at ih';have o1:= @Nat.xor_mod_two_eq_one m n;have a1:= @Nat.and_mod_two_eq_one m n;lia
def U7 {x y:Int}(hx:0<=x)(hy:0<=y):Builtin.bitXor x y=((x.toNat^^^y.toNat:Nat):Int):=by
 have e:=Gj x.toNat y.toNat;rw[bitXor_and,bitAnd_pp hx hy];lia
end Bits
end
section
namespace TL
open PySem PySem.Builtin PySem.Builtin.Str PySem.StrLaws
end TL
end
namespace L2
open PySem PySem.Spec PyProof.Rows
section
variable{X:Cx}{aA:jz}{σ:St}{H:Hp}{s:aL}{Q:VK}
end
section
variable{X:Cx}
end
section
variable{X:Cx}{o e:Expr}{to te:TE}
end
open PySem PySem.Spec PyProof.Rows
section
variable{X:Cx}
end
end L2
namespace Att
open PySem PySem.W PySem.Calls PyProof.Rows
section
variable{prog:bJ}{w:cz}{A:Around}{E:kc}{s:aL}{K:Frag}
end
end Att
namespace L2
open PySem PySem.Spec PyProof.Rows
open PySem PySem.Spec PyProof.Rows
open PySem PySem.Spec PyProof.Rows
def inClass (s:Stmt)(j:Nat):Stmt:=match s with
 |.ClassDef _ _ _ qC _ _ _ _ _ _ _=>qC.getD j (.Pass ⟨0,0,0,0⟩)
 |_=>.Pass ⟨0,0,0,0⟩
def GO (s:Stmt):Arguments:=match s with
 |.FunctionDef _ a _ _ _ _ _ _ _ _=>a
 |_=>{posonlyargs:=[],args:=[],vararg:=none,kwonlyargs:=[],kw_defaults:=[],kwarg:=none,defaults:=[]}
def rR (s:Stmt):List Stmt:=match s with
 |.FunctionDef _ _ b _ _ _ _ _ _ _=>b
 |_=>[]
def dZ (s:Stmt):nA:=match s with
 |.FunctionDef _ _ _ _ _ _ sc _ _ _=>sc
 |_=>{kind:=.function,names:=[],isGenerator:=false,isCoroutine:=false}
abbrev jh:NY:=λ_ _ _ _ _ _=>False
abbrev E0:XK:=λ_ _ _=>False
def bG {X:Cx}:Passes jh X E0:=λ_ _ _ _ _ _ _ h=>h.elim
structure Fun (K:au)(x qual:Str)(st:Stmt)(f:ke)(fd:eO):Prop where
 ex:∃(oc:jm) (od:Option ke) (kV doc pm:jm) (an:Option ke) (sQ ct:jm) (Y6:Array (Option jm)),
  fd=sM x qual (GO st) (rR st) (dZ st) .none kV doc pm an sQ ct/\K.lookup f=some ⟨oc,od,.func fd,Y6⟩/\Kd K sQ qual=true
 kp:il K (.ref f)=true
section
variable{P:bJ}{w:cz}{K:au}{mg:sO}{lQ:Heap}
def Fun.ok {x eV:Str}{st:Stmt}{f:ke}{fd:eO}{N ps:mX}{k:Nat}{sp:Sp}(F:Fun K x eV st f fd)(S:vL N ps (dZ st))(QK:∀vs H Q E,sp vs H Q E->vs.length=ps.length)
  (yy:∀(sQ:jm) (A:Around) (outer:List Env) (s:aL) (H:Hp) (vs:b_) (Q:VK) (E:XK),lC k (A.deeper (tJ eV (dZ st) s.heap.objs.size f sQ))->sp vs H Q E->
   ∃t,Kc (A3 jh P w K mg lQ N eV (dZ st) f sQ A outer s H E).nox (rR st) t/\t {nx:=λ_ H'=>Q .gS H',rt:=Q} (start N vs) H):lx P w K mg lQ jh (k+1) f fd ps sp:=by
 obtain⟨oc,od,kV,Tv,pm,an,sQ,ct,Y6,rfl,lk,WK⟩:=F.ex;refine adR lk WK S QK λA outer s H vs Q E hr J0=>?_;obtain⟨t,h,q⟩:=yy sQ A outer s H vs Q E hr J0;exact⟨t,h.nox,q⟩
end
def Yx {A:Around}{k:Nat}(hr:lC k A):A.units+1<L8:=jJ (Nat.add_le_add_left (by decide:1<=64) _) hr.units
section
variable{X:Cx}
def pv (i:Nat){x:Str}{cN:Pos}(hN:autoParam (X.N[i]? =some x) Z_r)(hv:autoParam (Vis X.env.scope x) Z_t)(hd:autoParam (DD x) Z_d)
  (WK:autoParam ((x==("__classdict__":Str))=false) Z_d):PE X (.Name x cN) (Es i):=agi hN hv hd WK
end
def fK {A B:Prop}(h:B):if false=true then A else B:=by
 rw[ah bH];exact h
def eZ {A B:Prop}(h:A):if true=true then A else B:=by
 rw[aj rfl];exact h
def aC (H H':Hp):Prop:=∀b o,H b=some o->H' b=some o
def aC.refl (H:Hp):aC H H:=λ_ _ h=>h
def aC.trans {H H1 H2:Hp}(a:aC H H1)(b:aC H1 H2):aC H H2:=λc o h=>b c o (a c o h)
def aC.free {H H':Hp}(e:aC H H'){l:ke}(h:H' l=aio):H l=aio:=by
 cases q:H l with
 |none=>rfl
 |some o=>
  rw[e l o q] at h;cases h
def aC.seq {K:au}{H H':Hp}{a:ke}{xs:b_}(e:aC H H')(h:nN K H a xs):nN K H' a xs:=by
 rcases h with(h|⟨o,h⟩)|h
 .exact .inl (.inl (e _ _ h))
 .exact .inl (.inr ⟨o,e _ _ h⟩)
 .exact .inr h
section
variable{κ:Type}[DecidableEq κ]
def Z9 {cf:List (κ×V)}{k:κ}(h:mS cf k=none):¬k∈cf.map (·.1):=by
 intro m;obtain⟨p,hp,e⟩:=bj.mp m;have q:(cf.any λkv=>decide (kv.1=k))=true:=adx.mpr ⟨p,hp,ag e⟩;rw[tE,h] at q;exact absurd q (by simp)
def adh {cf:List (κ×V)}{k:κ}{v:V}(h:mS cf k=some v):k∈cf.map (·.1):=by
 have q:(cf.any λkv=>decide (kv.1=k))=true:=by
  rw[tE,h]
  all_goals rfl
 obtain⟨p,hp,e⟩:=adx.mp q;exact bj.mpr ⟨p,hp,of_decide_eq_true e⟩
theorem Nh:∀{l:List κ} {k:κ},l.Nodup->¬k∈l->(l++[k]).Nodup
 |[],k,_,_=>by simp
 |a::r,k,h,hk=>by
  obtain⟨h1,h2⟩:=iV.mp h;show(a::(r++[k])).Nodup;refine iV.mpr ⟨λm=>?_,Nh h2 λm=>hk (bo.mpr (QD m))⟩;rcases de.mp m with q|q
  .exact h1 q
  .exact hk (bo.mpr (Ah (f_.mp q).symm))
def acd {cf:List (κ×V)}{k:κ}(v:V)(hn:(cf.map (·.1)).Nodup)(h:mS cf k=none):((putK cf k v).map (·.1)).Nodup:=by
 rw[Qb v h,iU];exact Nh hn (Z9 h)
def Lo {p:κ×V}{r:List (κ×V)}{k:κ}(e:p.1=k):u4 (p::r) k=u4 r k:=by
 unfold u4;rw[ady,ah (by simp[e])]
def DW {p:κ×V}{r:List (κ×V)}{k:κ}(e:¬p.1=k):u4 (p::r) k=p::u4 r k:=by
 unfold u4;rw[ady,aj (by simp[e])]
theorem OX:∀{cf:List (κ×V)} {k:κ},¬k∈cf.map (·.1)->u4 cf k=cf
 |[],_,_=>rfl
 |p::r,k,h=>by
  have h':¬k∈r.map (·.1):=λm=>by
   obtain⟨q,hq,e⟩:=bj.mp m;exact h (bj.mpr ⟨q,bo.mpr (QD hq),e⟩)
  rw[DW λe=>h (bj.mpr ⟨p,bo.mpr (Ah rfl),e⟩),OX h']
def Ln {cf:List (κ×V)}{k:κ}{p:κ×V}(h:p∈u4 cf k):p∈cf:=(oW.mp h).1
theorem IU:∀{cf:List (κ×V)} {k:κ},(cf.map (·.1)).Nodup->((u4 cf k).map (·.1)).Nodup
 |[],_,_=>BE
 |p::r,k,h=>by
  have h:(p.1::r.map (·.1)).Nodup:=h;obtain⟨h1,h2⟩:=iV.mp h;by_cases e:p.1=k
  .rw[Lo e];exact IU h2
  .rw[DW e];show(p.1::(u4 r k).map (·.1)).Nodup;refine iV.mpr ⟨λm=>h1 ?_,IU h2⟩;obtain⟨q,hq,eq⟩:=bj.mp m;exact bj.mpr ⟨q,Ln hq,eq⟩
theorem Lm:∀{cf:List (κ×V)} {k:κ},(cf.map (·.1)).Nodup->k∈cf.map (·.1)->(u4 cf k).length+1=cf.length
 |[],_,_,m=>by simp at m
 |p::r,k,h,m=>by
  have h:(p.1::r.map (·.1)).Nodup:=h;have m:k=p.1\/k∈r.map (·.1):=bo.mp m;obtain⟨h1,h2⟩:=iV.mp h;by_cases e:p.1=k
  .subst e;rw[Lo rfl,OX h1]
   all_goals rfl
  .have m':k∈r.map (·.1):=m.resolve_left λz=>e z.symm;have q:=Lm h2 m';rw[DW e,aZ,aZ];lia
end
def at_of {xs:b_}{z:Int}{j:Nat}{v:V}(e:z=(j:Int))(h:xs[j]? =some v):U2 xs z=some v:=by
 rw[e];exact abr h
def aj8 {α:Type}{l:List α}(hN:l.Nodup){i j:Nat}{x:α}(a:l[i]? =some x)(b:l[j]? =some x):i=j:=by
 obtain⟨h1,e1⟩:=aN.mp a;obtain⟨h2,e2⟩:=aN.mp b;exact(adz hN).mp (e1.trans e2.symm)
open PySem PySem.Spec PyProof.Rows
open PySem.W (WData Codec OpenSpec Well WellAll ReadsW ReadsAllW)
mutual
inductive Dw (K:au)(H:Hp):V->WData->Prop
 |gS:Dw K H .gS .none
 |bl (b:Bool):Dw K H (.bl b) (.bool b)
 |int (i:Int):Dw K H (.int i) (.int i)
 |str (x:Str):Dw K H (.str x) (.str x)
 |EH (b:Array UInt8):Dw K H (.EH b) (.bytes b.toList)
 |lst {a:ke} {xs:b_} {ds:List WData}:nN K H a xs->wI K H xs ds->Dw K H (.ref a) (.list ds)
 |tup {a:ke} {xs:b_} {ds:List WData}:Ml K H a xs->wI K H xs ds->Dw K H (.ref a) (.tuple ds)
inductive wI (K:au)(H:Hp):b_->List WData->Prop
 |nil:wI K H [] []
 |cons {v:V} {vs:b_} {d:WData} {ds:List WData}:Dw K H v d->wI K H vs ds->wI K H (v::vs) (d::ds)
end
theorem Tz {K:au}{H:Hp}:∀ns:bY,wI K H (ns.map V.int) (ns.map WData.int)
 |[]=>.nil
 |n::r=>.cons (.int n) (Tz r)
theorem TY {K:au}{H:Hp}:∀(ns:bY) (xs:b_),wI K H xs (ns.map WData.int)->xs=ns.map V.int
 |[],xs,h=>by
  cases h;rfl
 |n::r,xs,h=>by
  cases h with
  |cons h1 h2=>
   cases h1;rw[TY r _ h2]<;>rfl
section
variable{P:bJ}{w:cz}{K:au}{H:Hp}{h:Heap}{R:Xi}{cl:Str->Option ke}
def agP {a:ke}{xs:b_}(fV:wK P w H h)(KX:K.In h)(q:nN K H a xs):∃(dg:gU) (o:Obj) (n:Nat),Vals xs dg/\h.get? a=some o/\o.cls=.type "list"/\o.data=.seq dg.toArray n:=by
 rcases q with q|⟨o,dg,n,e,hc,_,hd,_,hv⟩
 .obtain⟨_,dg,n,hv,e⟩:=(show ju P w H h a (.lst xs) from q.ok fV);exact⟨dg,_,n,hv,e,Z,Z⟩
 .exact⟨dg.toList,o,n,hv,KX _ _ e,hc,by simp[hd]⟩
def agQ {a:ke}{xs:b_}(fV:wK P w H h)(KX:K.In h)(q:Ml K H a xs):∃(dg:gU) (o:Obj) (n:Nat),Vals xs dg/\h.get? a=some o/\o.cls=.type "tuple"/\o.data=.seq dg.toArray n:=by
 rcases q with q|⟨o,dg,n,e,hc,hd,_,hv⟩
 .obtain⟨_,dg,hv,o,e,hc,n,hd⟩:=(show ju P w H h a (.tup xs) from q.ok fV);exact⟨dg,o,n,hv,e,hc,hd⟩
 .exact⟨dg.toList,o,n,hv,KX _ _ e,hc,by simp[hd]⟩
mutual
theorem Dw.reads (fV:wK P w H h)(KX:K.In h):∀(d:WData) (v:V) (u:jm),Dw K H v d->RelV v u->∃as,ReadsW R cl h u d as
 |.none,_,_,x,r=>by
  cases x;cases r;exact⟨_,ReadsW.none⟩
 |.bool b,_,_,x,r=>by
  cases x;cases r;exact⟨_,ReadsW.bool b⟩
 |.int i,_,_,x,r=>by
  cases x;obtain⟨t,rfl⟩:=r;exact⟨_,ReadsW.int i t⟩
 |.str s,_,_,x,r=>by
  cases x;obtain⟨t,rfl⟩:=r;exact⟨_,ReadsW.str s t⟩
 |.bytes b,_,_,x,r=>by
  cases x;obtain⟨t,rfl⟩:=r;exact⟨_,ReadsW.bytes _ t⟩
 |.list ds,_,_,x,r=>by
  cases x with
  |lst hs ha=>
   cases r;obtain⟨dg,o,n,rv,ho,hc,hd⟩:=agP fV KX hs;obtain⟨as,hr⟩:=Dw.readsAll fV KX ds _ dg ha rv;exact⟨_,ReadsW.list ho hc hd hr⟩
 |.tuple ds,_,_,x,r=>by
  cases x with
  |tup hs ha=>
   cases r;obtain⟨dg,o,n,rv,ho,hc,hd⟩:=agQ fV KX hs;obtain⟨as,hr⟩:=Dw.readsAll fV KX ds _ dg ha rv;exact⟨_,ReadsW.tuple ho hc hd hr⟩
 |.float _,_,_,x,_=>by cases x
 |.dict _,_,_,x,_=>by cases x
 |.bytearray _,_,_,x,_=>by cases x
 |.set _,_,_,x,_=>by cases x
 |.frozenset _,_,_,x,_=>by cases x
 |.obj _ _,_,_,x,_=>by cases x
theorem Dw.readsAll (fV:wK P w H h)(KX:K.In h):∀(ds:List WData) (vs:b_) (us:gU),wI K H vs ds->Vals vs us->∃as,ReadsAllW R cl h us ds as
 |[],_,_,x,r=>by
  cases x;cases r;exact⟨_,ReadsAllW.nil⟩
 |d::ds,_,_,x,r=>by
  cases x with
  |cons h1 h2=>
   cases r with
   |cons r1 r2=>
    obtain⟨as,q1⟩:=Dw.reads fV KX d _ _ h1 r1;obtain⟨bs,q2⟩:=Dw.readsAll fV KX ds _ _ h2 r2;exact⟨_,ReadsAllW.cons q1 q2⟩
end
end
mutual
def Uk:WData->Bool
 |.none=>true
 |.bool _=>true
 |.int _=>true
 |.str _=>true
 |.bytes _=>true
 |.list xs=>Gq xs
 |.tuple xs=>Gq xs
 |_=>false
def Gq:List WData->Bool
 |[]=>true
 |x::r=>Uk x&&Gq r
end
theorem P8 {α:Type}{f:α->WData}(h:∀a,Uk (f a)=true):∀l:List α,Gq (l.map f)=true
 |[]=>rfl
 |x::r=>by
  show(Uk (f x)&&Gq (r.map f))=true;rw[h x,P8 h r]<;>rfl
theorem yL:∀(c:Codec) (a:c.denote),Uk (c.enc a)=true
 |.unit,_=>rfl
 |.bool,_=>rfl
 |.int _ _,_=>rfl
 |.nat _ _,_=>rfl
 |.u8,_=>rfl
 |.bytes _ _,_=>rfl
 |.text _ _ _ _,_=>rfl
 |.list _ _ c,a=>P8 (λx=>yL c x) a
 |.pair c d,a=>by
  show(Uk (c.enc a.1)&&(Uk (d.enc a.2)&&true))=true;rw[yL c a.1,yL d a.2]<;>rfl
 |.triple c d e,a=>by
  show(Uk (c.enc a.1)&&(Uk (d.enc a.2.1)&&(Uk (e.enc a.2.2)&&true)))=true;rw[yL c a.1,yL d a.2.1,yL e a.2.2]<;>rfl
 |.option c,none=>rfl
 |.option c,some x=>yL c x
theorem LQ:∀(cs:List Codec) (a:Codec.denoteAll cs),Gq (Codec.encAll cs a)=true
 |[],_=>rfl
 |c::cs,a=>by
  show(Uk (c.enc a.1)&&Gq (Codec.encAll cs a.2))=true;rw[yL c a.1,LQ cs a.2]<;>rfl
theorem BB:∀{xs:List WData} {d:WData},d∈xs->d.weight<=WData.weightAll xs
 |[],d,h=>absurd h (by simp)
 |x::r,d,h=>by
  show d.weight<=x.weight+1+WData.weightAll r;rcases bo.mp h with e|m
  .rw[e];omega
  .have z:=BB m;omega
def toV:jm->V
 |.none=>.gS
 |.bool b=>.bl b
 |.int i _=>.int i
 |.str x _=>.str x
 |.bytes b _=>.EH b
 |.ref a=>.ref a
 |_=>.gS
def UX (A:pG):jm->Prop
 |.none=>True
 |.bool _=>True
 |.int _ _=>True
 |.str _ _=>True
 |.bytes _ _=>True
 |.ref a=>a∈A
 |_=>False
def UX.mono {A B:pG}(h:∀a∈A,a∈B):∀{u:jm},UX A u->UX B u:=λ{u} x=>by
 cases u with
 |ref a=>exact h a x
 |none=>trivial
 |bool b=>trivial
 |int i t=>trivial
 |str s t=>trivial
 |bytes b t=>trivial
 |_=>exact dU x
def Zn {A:pG}{u:jm}(x:UX A u):RelV (toV u) u:=by
 cases u with
 |ref a=>rfl
 |none=>rfl
 |bool b=>rfl
 |int i t=>exact⟨t,Z⟩
 |str s t=>exact⟨t,Z⟩
 |bytes b t=>exact⟨t,Z⟩
 |_=>exact dU x
theorem vp {A:pG}:∀{vs:gU},(∀u∈vs,UX A u)->Vals (vs.map toV) vs
 |[],_=>.nil
 |u::r,h=>.cons (Zn (h u (aU ..))) (vp λx hx=>h x (aP _ hx))
def wH (h:Heap)(A:pG)(a:ke):Prop:=∃vs:gU,vs.length<=bu/\(∀u∈vs,UX A u)/\
 (h.get? a=some {cls:=.type "list",data:=.seq vs.toArray}\/h.get? a=some {cls:=.type "tuple",data:=.seq vs.toArray})
def wH.mono {h:Heap}{A B:pG}{a:ke}(k:∀a∈A,a∈B)(x:wH h A a):wH h B a:=by
 obtain⟨vs,h1,h2,h3⟩:=x;exact⟨vs,h1,λu hu=>(h2 u hu).mono k,h3⟩
theorem t8 {P:J9}{h:Heap}:∀{vs:gU} {ds:List WData},WellAll P h vs ds->vs.length=ds.length
 |_,_,.nil=>rfl
 |_,_,.cons _ b=>by
  show _+1=_+1;rw[t8 b]
def L4 {P:J9}{h:Heap}{v:jm}{ds:List WData}(x:Well P h v (.list ds)):∃(a:ke) (vs:gU),v=.ref a/\h.get? a=some {cls:=.type "list",data:=.seq vs.toArray}/\WellAll P h vs ds:=by
 cases x with
 |list ho oH=>exact⟨_,_,Z,ho,oH⟩
def JM {P:J9}{h:Heap}{v:jm}{ds:List WData}(x:Well P h v (.tuple ds)):∃(a:ke) (vs:gU),v=.ref a/\h.get? a=some {cls:=.type "tuple",data:=.seq vs.toArray}/\WellAll P h vs ds:=by
 cases x with
 |tuple ho oH=>exact⟨_,_,Z,ho,oH⟩
def L3 {P:J9}{h:Heap}{us:gU}{d:WData}{ds:List WData}(x:WellAll P h us (d::ds)):∃(v:jm) (vs:gU),us=v::vs/\Well P h v d/\WellAll P h vs ds:=by
 cases x with
 |cons a b=>exact⟨_,_,Z,a,b⟩
def Ub {n:Nat}(h:n<=1048576):n<=bu:=bt h (by decide)
section
variable{P:J9}{h:Heap}
mutual
theorem Xn:∀(d:WData) (v:jm),Well P h v d->Uk d=true->d.weight<=1048576->∃A:pG,UX A v/\∀a∈A,wH h A a
 |.none,_,x,_,_=>by
  cases x;exact⟨[],trivial,λa m=>absurd m (by simp)⟩
 |.bool b,_,x,_,_=>by
  cases x;exact⟨[],trivial,λa m=>absurd m (by simp)⟩
 |.int i,_,x,_,_=>by
  cases x;exact⟨[],trivial,λa m=>absurd m (by simp)⟩
 |.str s,_,x,_,_=>by
  cases x;exact⟨[],trivial,λa m=>absurd m (by simp)⟩
 |.bytes b,_,x,_,_=>by
  cases x;exact⟨[],trivial,λa m=>absurd m (by simp)⟩
 |.list ds,_,x,p,z=>by
  obtain⟨a,vs,rfl,ho,oH⟩:=L4 x;have z2:WData.weightAll ds<=1048576:=z;obtain⟨A,h1,h2⟩:=B0 ds _ oH p λd hd=>bt (BB hd) z2;have k:∀b∈A,b∈a::A:=λb hb=>aP _ hb;refine⟨a::A,aU ..,λb hb=>?_⟩;rcases bo.mp hb with e|m
  .rw[e];exact⟨vs,Ub (by rw[t8 oH];exact bt (Hl ds) z2),λu hu=>(h1 u hu).mono k,.inl ho⟩
  .exact(h2 b m).mono k
 |.tuple ds,_,x,p,z=>by
  obtain⟨a,vs,rfl,ho,oH⟩:=JM x;have z2:WData.weightAll ds<=1048576:=z;obtain⟨A,h1,h2⟩:=B0 ds _ oH p λd hd=>bt (BB hd) z2;have k:∀b∈A,b∈a::A:=λb hb=>aP _ hb;refine⟨a::A,aU ..,λb hb=>?_⟩;rcases bo.mp hb with e|m
  .rw[e];exact⟨vs,Ub (by rw[t8 oH];exact bt (Hl ds) z2),λu hu=>(h1 u hu).mono k,.inr ho⟩
  .exact(h2 b m).mono k
 |.float _,_,_,p,_=>dX (show false=true from p)
 |.dict _,_,_,p,_=>dX (show false=true from p)
 |.bytearray _,_,_,p,_=>dX (show false=true from p)
 |.set _,_,_,p,_=>dX (show false=true from p)
 |.frozenset _,_,_,p,_=>dX (show false=true from p)
 |.obj _ _,_,_,p,_=>dX (show false=true from p)
theorem B0:∀(ds:List WData) (vs:gU),WellAll P h vs ds->Gq ds=true->(∀d∈ds,d.weight<=1048576)->∃A:pG,(∀u∈vs,UX A u)/\∀a∈A,wH h A a
 |[],_,x,_,_=>by
  cases x;exact⟨[],λu m=>absurd m (by simp),λa m=>absurd m (by simp)⟩
 |d::ds,_,x,p,z=>by
  obtain⟨v,vs,rfl,x1,x2⟩:=L3 x;have q:Uk d=true/\Gq ds=true:=e_.mp p;obtain⟨A,a1,a2⟩:=Xn d v x1 q.1 (z d (aU ..));obtain⟨B,b1,b2⟩:=B0 ds vs x2 q.2 λe he=>z e (aP _ he);have kA:∀b∈A,b∈A++B:=λb hb=>de.mpr (.inl hb);have kB:∀b∈B,b∈A++B:=λb hb=>de.mpr (.inr hb);refine⟨A++B,λu hu=>?_,λb hb=>?_⟩
  .rcases bo.mp hu with e|m
   .rw[e];exact a1.mono kA
   .exact(b1 u m).mono kB
  .rcases de.mp hb with m|m
   .exact(a2 b m).mono kA
   .exact(b2 b m).mono kB
end
end
def abX (o:Obj):Option HO:=match o.data with
 |.seq vs _=>if(o.cls==Value.type "list")=true then some (.MW o (.lst (vs.toList.map toV))) else some (.MW o (.tup (vs.toList.map toV)))
 |_=>none
def vO (K:au)(h:Heap)(A:pG):Hp:=λb=>if b∈A then(if(K.lookup b).isNone=true then(h.get? b).bind abX else none) else none
def Oi (H:Hp):Prop:=∀b,H b=none\/∃o u,H b=some (.MW o u)
def Pg (vs:gU):abX {cls:=.type "list",data:=.seq vs.toArray}=some (.MW {cls:=.type "list",data:=.seq vs.toArray} (.lst (vs.map toV))):=by
 show(if(Value.type "list"==Value.type "list")=true then some (HO.MW {cls:=.type "list",data:=.seq vs.toArray} (.lst (vs.toArray.toList.map toV))) else some (HO.MW {cls:=.type "list",data:=.seq vs.toArray} (.tup (vs.toArray.toList.map toV))))=_;rw[aj (beq_self_eq_true _)]
def Ph (vs:gU):abX {cls:=.type "tuple",data:=.seq vs.toArray}=some (.MW {cls:=.type "tuple",data:=.seq vs.toArray} (.tup (vs.map toV))):=by
 show(if(Value.type "tuple"==Value.type "list")=true then some (HO.MW {cls:=.type "tuple",data:=.seq vs.toArray} (.lst (vs.toArray.toList.map toV))) else some (HO.MW {cls:=.type "tuple",data:=.seq vs.toArray} (.tup (vs.toArray.toList.map toV))))=_;rw[ah (by decide)]
section
variable{P:bJ}{w:cz}{K:au}{h:Heap}{A:pG}
def GL {b:ke}{o:Obj}(hb:b∈A)(hk:K.lookup b=none)(e:h.get? b=some o):vO K h A b=abX o:=by
 unfold vO;rw[aj hb,hk,aj (show(none:Option Obj).isNone=true from rfl),e]<;>rfl
def acg {b:ke}{u:HO}(q:vO K h A b=some u):b∈A/\K.lookup b=none:=by
 unfold vO at q;by_cases hb:b∈A
 .rw[aj hb] at q;cases hk:K.lookup b with
  |none=>exact⟨hb,Z⟩
  |some o=>
   rw[hk,ah (by simp)] at q;cases q
 .rw[ah hb] at q;cases q
def GN (ar:∀a∈A,wH h A a){b:ke}{u:HO}(q:vO K h A b=some u):K.lookup b=none/\∃vs:gU,vs.length<=bu/\(∀u∈vs,UX A u)/\
  ((h.get? b=some {cls:=.type "list",data:=.seq vs.toArray}/\u=.MW {cls:=.type "list",data:=.seq vs.toArray} (.lst (vs.map toV)))\/
   (h.get? b=some {cls:=.type "tuple",data:=.seq vs.toArray}/\u=.MW {cls:=.type "tuple",data:=.seq vs.toArray} (.tup (vs.map toV)))):=by
 obtain⟨hb,hk⟩:=acg q;obtain⟨vs,h1,h2,h3⟩:=ar b hb;refine⟨hk,vs,h1,h2,?_⟩;rcases h3 with e|e
 .rw[GL hb hk e,Pg] at q;exact .inl ⟨e,(bh q).symm⟩
 .rw[GL hb hk e,Ph] at q;exact .inr ⟨e,(bh q).symm⟩
def U0 (ar:∀a∈A,wH h A a):Oi (vO K h A):=λb=>by
 cases q:vO K h A b with
 |none=>exact .inl rfl
 |some u=>
  obtain⟨_,vs,_,_,⟨_,e⟩|⟨_,e⟩⟩:=GN ar q
  .exact .inr ⟨_,_,by rw[e]⟩
  .exact .inr ⟨_,_,by rw[e]⟩
def abq (ar:∀a∈A,wH h A a):wK P w (vO K h A) h:=λb u q=>by
 obtain⟨_,vs,h1,h2,⟨e,rfl⟩|⟨e,rfl⟩⟩:=GN ar q
 .exact⟨e,by rw[aB];exact h1,vs,_,vp h2,e⟩
 .exact⟨e,by rw[aB];exact h1,vs,vp h2,_,e,Z,_,Z⟩
def GZ {c c':jm}{vs us:gU}(e:(some {cls:=c,data:=.seq vs.toArray}:Option Obj)=some {cls:=c',data:=.seq us.toArray}):c=c'/\vs=us:=by
 have e1:=bh e;have e2:c=c':=congrArg Obj.cls e1;have e3:Data.seq vs.toArray=Data.seq us.toArray:=congrArg Obj.data e1;injection e3 with e4
 refine⟨e2,?_⟩;have e5:=congrArg ah9 e4;simpa using e5
def am7 (KX:K.In h)(ar:∀a∈A,wH h A a){a:ke}{vs:gU}(ha:a∈A)(e:h.get? a=some {cls:=.type "list",data:=.seq vs.toArray}):(∀u∈vs,UX A u)/\nN K (vO K h A) a (vs.map toV):=by
 obtain⟨us,h1,h2,h3⟩:=ar a ha;have hu:us=vs:=by
  rcases h3 with q|q
  .rw[e] at q;exact(GZ q).2.symm
  .rw[e] at q;exact absurd (Value.type.inj (GZ q).1) (by decide)
 subst hu;refine⟨h2,?_⟩;cases hk:K.lookup a with
 |none=>exact .inl (.inr ⟨_,by rw[GL ha hk e,Pg]⟩)
 |some o=>
  have e2:=KX a o hk;rw[e] at e2;obtain rfl:=bh e2;exact .inr ⟨_,us.toArray,_,hk,Z,Z,Z,by rw[bB];exact h1,by simpa using vp h2⟩
def am8 (KX:K.In h)(ar:∀a∈A,wH h A a){a:ke}{vs:gU}(ha:a∈A)(e:h.get? a=some {cls:=.type "tuple",data:=.seq vs.toArray}):(∀u∈vs,UX A u)/\Ml K (vO K h A) a (vs.map toV):=by
 obtain⟨us,h1,h2,h3⟩:=ar a ha;have hu:us=vs:=by
  rcases h3 with q|q
  .rw[e] at q;exact absurd (Value.type.inj (GZ q).1) (by decide)
  .rw[e] at q;exact(GZ q).2.symm
 subst hu;refine⟨h2,?_⟩;cases hk:K.lookup a with
 |none=>exact .inl (.inr ⟨_,by rw[GL ha hk e,Ph]⟩)
 |some o=>
  have e2:=KX a o hk;rw[e] at e2;obtain rfl:=bh e2;exact .inr ⟨_,us.toArray,_,hk,Z,Z,by rw[bB];exact h1,by simpa using vp h2⟩
mutual
theorem ae9 {Pm:J9}(KX:K.In h)(ar:∀a∈A,wH h A a):∀(d:WData) (v:jm),Well Pm h v d->Uk d=true->UX A v->Dw K (vO K h A) (toV v) d
 |.none,_,x,_,_=>by
  cases x;exact .gS
 |.bool b,_,x,_,_=>by
  cases x;exact .bl b
 |.int i,_,x,_,_=>by
  cases x;exact .int i
 |.str s,_,x,_,_=>by
  cases x;exact .str s
 |.bytes b,_,x,_,_=>by
  cases x;have z:=Dw.EH (K:=K) (H:=vO K h A) b.toArray;exact z
 |.list ds,_,x,p,hu=>by
  obtain⟨a,vs,rfl,ho,oH⟩:=L4 x;obtain⟨h2,hs⟩:=am7 KX ar hu ho;exact .lst hs (ML KX ar ds _ oH p h2)
 |.tuple ds,_,x,p,hu=>by
  obtain⟨a,vs,rfl,ho,oH⟩:=JM x;obtain⟨h2,hs⟩:=am8 KX ar hu ho;exact .tup hs (ML KX ar ds _ oH p h2)
 |.float _,_,_,p,_=>dX (show false=true from p)
 |.dict _,_,_,p,_=>dX (show false=true from p)
 |.bytearray _,_,_,p,_=>dX (show false=true from p)
 |.set _,_,_,p,_=>dX (show false=true from p)
 |.frozenset _,_,_,p,_=>dX (show false=true from p)
 |.obj _ _,_,_,p,_=>dX (show false=true from p)
theorem ML {Pm:J9}(KX:K.In h)(ar:∀a∈A,wH h A a):∀(ds:List WData) (vs:gU),WellAll Pm h vs ds->Gq ds=true->(∀u∈vs,UX A u)->wI K (vO K h A) (vs.map toV) ds
 |[],_,x,_,_=>by
  cases x;exact .nil
 |d::ds,_,x,p,hu=>by
  obtain⟨v,vs,rfl,x1,x2⟩:=L3 x;have q:Uk d=true/\Gq ds=true:=e_.mp p;exact .cons (ae9 KX ar d v x1 q.1 (hu _ (aU ..))) (ML KX ar ds vs x2 q.2 λu m=>hu u (aP _ m))
end
end
def V4 {P:bJ}{w:cz}{K:au}{mg mb:sO}{CX:NY}{k:Nat}{fa:ke}{fd:eO}{ps:mX}{sp:Sp}{ip:aL}{K2:gU}{ds:List WData}{R:Xi}{cl:Str->Option ke}{d0:WData}
  (KX:K.In ip.heap) (hns:ip.heap.Ns mn mg) (hb:ip.heap.Ns ah5 mb) (hbb:∀x:Str,x≠"__name__"->mb x=rL x) (aoe:ip.heap.NoLimit) (hg:ip.gens= #[])
  (hwl:WellAll w.params ip.heap K2 ds) (ou:Gq ds=true) (hwt:∀d∈ds,d.weight<=1048576) (hr:lC k S0)
  (F:∀lQ:Heap,K.In lQ->lQ.Ns mn mg->lx P w K mg lQ CX k fa fd ps sp) (adX:∀(s:aL) (us:gU),us.length=ps.length->L7 s fd ⟨us,[]⟩ (ps.zip us)) (iQ:ds.length=ps.length)
  (J0:∀(H:Hp) (xs:b_),Oi H->wI K H xs ds->sp xs H (λv H'=>Dw K H' v d0) λ_ _ _=>False)
  (hCX:∀H e s',CX [] H ip (λ_ _ _=>False) e s'->False):
  vv (bA P w) S0 (.call (.ref fa) ⟨K2,[]⟩) (λr s'=>∃u as,r=.ok (.ret u)/\ReadsW R cl s'.heap u d0 as/\OldK ip.heap s'.heap/\s'.os=ip.os/\Gz s'.gens) ip:=by
 obtain⟨A,ho,ar⟩:=B0 ds K2 hwl ou hwt;have hO:Oi (vO K ip.heap A):=U0 ar;have fV:wK P w (vO K ip.heap A) ip.heap:=abq ar;have hS:=ML KX ar ds K2 hwl ou ho;have hV:=vp ho;have hK:∀b u,vO K ip.heap A b=some u->K.lookup b=none:=λb u q=>(GN ar q).1;have noA:∀{b:ke} {o:Obj} {es:Array DictEntry} {ep:Nat},ip.heap.get? b=some o->o.data=.dict es ep->vO K ip.heap A b=none:=λ{b o es ep} e d=>by
  cases q:vO K ip.heap A b with
  |none=>rfl
  |some u=>
   obtain⟨_,vs,_,_,⟨e2,_⟩|⟨e2,_⟩⟩:=GN ar q
   .rw[e2] at e;cases e;have d':Data.seq vs.toArray _=Data.dict es ep:=d;cases d'
   .rw[e2] at e;cases e;have d':Data.seq vs.toArray _=Data.dict es ep:=d;cases d'
 generalize vO K ip.heap A=H at hO fV hS hK noA;have Tn:∀{b:ke} {o:Obj},ip.heap.get? b=some o->H b=none->(M0 ip.heap H).get? b=some o:=λe n=>Yj e n;have nsK:∀{b:ke} {m:sO},ip.heap.Ns b m->(M0 ip.heap H).Ns b m:=λ{b m} ⟨o,es,ep,e,d,r⟩=>⟨o,es,ep,Tn e (noA e d),d,r⟩;have nK:∀b o,K.lookup b=some o->H b=none:=λb o e=>by
  cases q:H b with
  |none=>rfl
  |some u=>
   rw[hK b u q] at e;cases e
 have hKb:K.In (M0 ip.heap H):=λb o e=>Tn (KX b o e) (nK b o e);have hM:Mod K mg (M0 ip.heap H):=⟨hKb,nsK hns,⟨mb,nsK hb,hbb⟩,let ⟨mc,h1,h2⟩:=aoe;⟨mc,nsK h1,h2⟩⟩;have e0:Kb P w K mg (M0 ip.heap H) S0 [] ip H:=⟨Z,hM,λb o e=>ach e,f7 (Vw _ _),trivial,λb hb=>absurd (show b∈([]:pG) from hb) (by simp),fV,.of_eq hg⟩;have hl:K2.length=ps.length:=by rw[t8 hwl];exact iQ
 refine BQ ((F _ hKb (nsK hns)).run S0 [] ip H ⟨K2,[]⟩ K2 (K2.map toV) _ _ hr e0 (adX ip K2 hl) hV (J0 H _ hO hS)) λr s' x=>?_;cases r with
 |error e=>exact(hCX H e s' x).elim
 |ok fl=>
  cases fl with
  |next=>exact dU x
  |brk=>exact dU x
  |cont=>exact dU x
  |ret u=>
   obtain⟨v,H',os,bare,un,ajq,r',q⟩:=x;have kept:∀b o,ip.heap.get? b=some o->s'.heap.get? b=some o:=λb o e=>by
    cases q2:H b with
    |none=>exact un.keep b o e q2 (by intro z;exact absurd (show b∈([]:pG) from z) (by simp)) (by simp)
    |some u2=>
     rcases hO b with z|⟨ob,u3,z⟩
     .rw[q2] at z;cases z
     .have z2:=un.frzs b ob _ z;obtain⟨e1,_⟩:=fV b _ z;obtain⟨e2,_⟩:=ajq b _ z2;rw[e] at e1;cases e1;exact e2
   have KX':K.In s'.heap:=λb o e=>kept b o (KX b o e);obtain⟨as,hrd⟩:=Dw.reads (R:=R) (cl:=cl) ajq KX' d0 v u q r';exact⟨u,as,Z,hrd,OldK.of_keep kept,os,bare⟩
def IG {ds:List WData}(h:WData.layableAll ds=true):∀d∈ds,d.weight<=1048576:=λd hd=>
 (PySem.W.layableW_iff.mp (jq.mp h d hd)).2.2
theorem HX:∀(cs:List Codec) (a:Codec.denoteAll cs),(Codec.encAll cs a).length=cs.length
 |[],_=>rfl
 |c::cs,a=>by
  show(Codec.encAll cs a.2).length+1=cs.length+1;rw[HX cs a.2]
def Wh {r:OpenSpec}{k:Nat}{q:bJ}{YL:mX}{XP:(sO)->Heap->Prop}{YP:cz->Heap->Prop}{d:DefRec}{K:J9->au}{CX:cz->NY}{ps:mX}{sp:cz->Sp}
  (Yy:r.wellSaid=true) (hdf:d.params.defaults=[]) (iQ:r.args.length=ps.length) (hr:lC k S0)
  (hY:∀(w:cz) (h:Heap),YP w h->(K w.params).In h)
  (F:∀(w:cz) (mg:sO) (fa:ke) (h:Heap),YP w h->(K w.params).In h->h.Ns mn mg->mg d.name=some (.ref fa)->
   ∃fd:eO,(∀(s:aL) (us:gU),us.length=ps.length->L7 s fd ⟨us,[]⟩ (ps.zip us))/\
    ∀lQ:Heap,(K w.params).In lQ->lQ.Ns mn mg->lx r.prog w (K w.params) mg lQ (CX w) k fa fd ps (sp w))
  (J0:∀(w:cz) (H:Hp) (xs:b_) (a:Codec.denoteAll r.args),Oi H->Codec.withinAll r.args a=true->Codec.app r.args r.asked a=true->wI (K w.params) H xs (Codec.encAll r.args a)->
   sp w xs H (λv H'=>Dw (K w.params) H' v (r.ret.enc (Codec.app r.args r.f a))) λ_ _ _=>False)
  (hCX:∀(w:cz) (H:Hp) (s:aL) (e:jm) (s':aL),CX w [] H s (λ_ _ _=>False) e s'->False):
  abl q YL XP YP r d [] (λf vs=>amX f vs):=by
 intro w s_0 ip mg mb G Y fa o pm cd Tv dV kV ho hd WK hD hmg hg args K2 as aow abU hrd hwl lu;obtain⟨a,e1,e2⟩:=PySem.W.os_pre_some aow;obtain⟨e3,hwi⟩:=Codec.encAll_of_decAll r.args args a e1;subst e3;have KX:=hY w _ Y;obtain⟨fd,hb,hF⟩:=F w mg fa _ Y KX G.T.g hmg;refine PySem.W.enter_call (BQ (V4 (R:=[]) (cl:=classAt s_0.heap) (d0:=r.ret.enc (Codec.app r.args r.f a)) KX G.T.g G.T.b G.T.builtins G.T.nolimit hg hwl (LQ _ _) (IG abU) hr hF hb (by rw[HX];exact iQ)
  (λH xs hO hS=>J0 w H xs a hO hwi e2 hS) λH e s'=>hCX w H ip e s') λr' s' hq=>?_)
 obtain⟨u,as',rfl,h1,h2,h3,h4⟩:=hq;exact⟨.inl ⟨u,_,as',Z,λ_=>rfl,h1,(OpenSpec.post_iff Yy hwi _ _).mpr rfl,λz=>dX (show false=true from z)⟩,h2,h3,h4⟩
def SV {r:OpenSpec}{k:Nat}{q:bJ}{YL:mX}{XP:(sO)->Heap->Prop}{YP:cz->Heap->Prop}{d:DefRec}{K:J9->au}{CX:NY}{ps:mX}{sp:au->Sp}
  (Yy:r.wellSaid=true) (hdf:d.params.defaults=[]) (iQ:r.args.length=ps.length) (hr:lC k S0)
  (hY:∀(w:cz) (h:Heap),YP w h->(K w.params).In h)
  (F:∀(w:cz) (mg:sO) (fa:ke) (h:Heap),YP w h->(K w.params).In h->h.Ns mn mg->mg d.name=some (.ref fa)->
   ∃fd:eO,(∀(s:aL) (us:gU),us.length=ps.length->L7 s fd ⟨us,[]⟩ (ps.zip us))/\
    ∀lQ:Heap,(K w.params).In lQ->lQ.Ns mn mg->lx r.prog w (K w.params) mg lQ CX k fa fd ps (sp (K w.params)))
  (J0:∀(K:au) (H:Hp) (xs:b_) (a:Codec.denoteAll r.args),Oi H->Codec.withinAll r.args a=true->Codec.app r.args r.asked a=true->wI K H xs (Codec.encAll r.args a)->
   sp K xs H (λv H'=>Dw K H' v (r.ret.enc (Codec.app r.args r.f a))) λ_ _ _=>False)
  (hCX:∀(H:Hp) (s:aL) (e:jm) (s':aL),CX [] H s (λ_ _ _=>False) e s'->False):
  abl q YL XP YP r d [] (λf vs=>amX f vs):=
 Wh (K:=K) (CX:=λ_=>CX) (sp:=λw=>sp (K w.params)) Yy hdf iQ hr hY F (λw H xs a h1 h2 h3 h4=>J0 (K w.params) H xs a h1 h2 h3 h4) λ_ H s e s'=>hCX H s e s'
open PySem PySem.Spec PyProof.Rows
variable{H:Hp}{lo:Nat}{o oe:Obj}{Q E:kc}{h':Heap}{Ex:XK}{A A':Around}{s:aL}{a Mf:ke}{X:Cx}{aA:jz}{d:Option ke}{cN:Pos}
def Fy (Mf:ke)(H:Hp)(lo:Nat)(h:Heap)(e:ke)(C:jm)(d:Option ke)(wt:Bool):Prop:=
 H e=none/\lo<=e/\∃oe vs,h.get? e=some oe/\oe.cls=C/\oe.dict=d/\oe.data=.fields vs/\vs.size=6/\(C=.ref Mf->vs[2]? =some .none)/\
  ((wt=false/\vs[1]? =some .none)\/∃T oT ts,vs[1]? =some (.ref T)/\H T=none/\lo<=T/\T≠e/\h.get? T=some oT/\oT.data=.fields ts/\3<ts.size)
structure Mb (fs:pG)(H:Hp)(lo:Nat)(h h':Heap):Prop where
 keep:∀b o,b∉fs->(b<lo\/H b≠none\/∀vs,o.data≠.fields vs)->h.get? b=some o->h'.get? b=some o
 slot:∀b o,b∈fs->h.get? b=some o->∃sl,h'.get? b=some {o with slots:=sl}
 there:∀b o,h.get? b=some o->∃o',h'.get? b=some o'
def Mb.trans {fs:pG}{h h1 h2:Heap}(a:Mb fs H lo h h1)(b:Mb fs H lo h1 h2):Mb fs H lo h h2 where
 keep:=λc o hc z e=>b.keep c o hc z (a.keep c o hc z e)
 slot:=λc o hc e=>by
  obtain⟨sl,e1⟩:=a.slot c o hc e;obtain⟨sl2,e2⟩:=b.slot c _ hc e1;exact⟨sl2,e2⟩
 there:=λc o e=>by
  obtain⟨o1,e1⟩:=a.there c o e;exact b.there c o1 e1
def Mb.refl {fs:pG}{h:Heap}:Mb fs H lo h h:=⟨λ_ _ _ _ e=>e,λ_ o _ e=>⟨o.slots,e⟩,λ_ o e=>⟨o,e⟩⟩
def isRec (o:Option Obj):Bool:=match o with
 |some o=>(match o.data with|.fields _=>true|_=>false)
 |none=>false
def Zm (h:Heap)(H:Hp)(lo:Nat):pG:=(aJ h.objs.size).filter λb=>decide (lo<=b)&&((H b).isNone&&isRec (h.get? b))
def aci {h:Heap}{b:ke}(hb:b∈Zm h H lo):lo<=b/\H b=none/\∃o vs,h.get? b=some o/\o.data=.fields vs:=by
 unfold Zm at hb;have h2:=(oW.mp hb).2;simp only[cO,decide_eq_true_eq,Mj] at h2;obtain⟨h1,h3,h4⟩:=h2;refine⟨h1,h3,?_⟩;cases e:h.get? b with
 |none=>rw[e] at h4;cases h4
 |some o=>
  rw[e] at h4;cases hd:o.data with
  |fields vs=>exact⟨o,vs,Z,hd⟩
  |_=>simp only[isRec,hd] at h4;cases h4
def PL {h:Heap}{b:ke}(hb:b∉Zm h H lo)(e:h.get? b=some o)(n:H b=none):b<lo\/∀vs,o.data≠.fields vs:=by
 rcases uq b lo with q|q
 .exact .inl q
 .refine .inr λvs hd=>hb ?_;unfold Zm;refine oW.mpr ⟨cJ.mpr (Heap.lt_size e),?_⟩;simp only[cO,decide_eq_true_eq,Mj];exact⟨q,n,by rw[e];simp only[isRec,hd]⟩
section
variable{X:Cx}{aA:jz}{σ:St}{H:Hp}{s:aL}{h':Heap}{lo:Nat}
def Inv.afE (I:Inv X aA σ H s)(f:Mb (Gh X.stack) H lo s.heap h'):wK X.prog X.w H h':=λb u e=>by
 refine(I.fV b u e).Ac (λc v hc q=>?_) (λ_ q=>q) λ_ _ q=>q;have hn:H c≠none:=by
  rcases hc with z|z
  .rw[z,e];exactλx=>nomatch x
  .rw[z];exactλx=>nomatch x
 exact f.keep c v (λz=>hn (I.NO c z)) (.inr (.inl hn)) q
def Inv.TB {t':Nat}(I:Inv X aA σ H s)(hp:∀p∈X.pn++aA,p.1<lo)(f:Mb (Gh X.stack) H lo s.heap h')(lu:X.s_0.heap.objs.size<=lo):Inv X aA σ H {s with heap:=h',toks:=t'}:=by
 have akc:∀b,b≠X.env.locals->b∉X.fs->b∉Gh X.stack:=λb h1 h2 z=>by
  rcases bo.mp (I.NP b z) with q|q
  .exact h1 q
  .exact h2 q
 obtain⟨m0,hns,_⟩:=id I.loc;obtain⟨oL,esL,epL,hoL,hdL,_⟩:=id hns;have slotAt:∀b o,s.heap.get? b=some o->H b=none->(b∈Gh X.stack\/b<lo\/∀vs,o.data≠.fields vs)->∃sl,h'.get? b=some {o with slots:=sl}:=λb o e n z=>by
  rcases Classical.em (b∈Gh X.stack) with q|q
  .exact f.slot b o q e
  .rcases z with z|z|z
   .exact absurd z q
   .exact⟨o.slots,f.keep b o q (.inl z) e⟩
   .exact⟨o.slots,f.keep b o q (.inr (.inr z)) e⟩
 refine I.step (g':=s.gens) (d':=s.drawn) (t':=t') (ch:=Zm s.heap H lo) (λb hb=>?_) (λb o h1 h2 hc e n=>?_) (λb o h1 h2 hc e n=>?_) (λ_ _ _ _ n=>n) (λb o _ e=>f.there b o e)
  (λ_ _ e=>e) (λ_ _ _ e=>e) (λb ps e=>⟨#[],by rw[e];simp⟩) (λm hm=>?_) (I.afE f) I.bare
 .obtain⟨h1,h2,o,vs,h3,h4⟩:=aci hb;refine⟨.inr (bt lu h1),λz=>?_,λx c e z=>?_,λp hpp=>?_⟩
  .rw[z,hoL] at h3;cases h3;rw[hdL] at h4;cases h4
  .obtain⟨v,oc,hoc,hdc⟩:=I.cell x c e;rw[z,h3] at hoc;cases hoc;rw[h4] at hdc;cases hdc
  .exact cH (a_ (hp p hpp) h1)
 .rcases PL hc e n with q|q
  .exact f.keep b o (akc b h1 h2) (.inl q) e
  .exact f.keep b o (akc b h1 h2) (.inr (.inr q)) e
 .refine slotAt b o e n (.inr ?_);rcases PL hc e n with q|q
  .exact .inl q
  .exact .inr q
 .obtain⟨o,es,ep,ho,hd,r⟩:=hm;obtain⟨sl,e1⟩:=slotAt _ o ho I.free (.inr (.inr λvs q=>by rw[hd] at q;cases q));exact⟨_,es,ep,e1,hd,r⟩
end
open PySem PySem.Spec PyProof.Rows
def HV (f:Array jm->Array jm)(o:Obj):(Obj.mapFields f o).dict=o.dict:=by
 unfold Obj.mapFields;split<;>rfl
def YV (a:ke):(Value.ref a !=Value.none)=true:=by simp
section
variable{X:Cx}{aA:jz}{σ:St}{H:Hp}{s:aL}{lo:Nat}{M:Model}{A:Around}{E:kc}{Mf e L:ke}{C:jm}{d:Option ke}{wt:Bool}{OY jx:Env}{uH:List Env}
def ace {head fr fl:jm}{pl:gU}(ou:IsPlace pl)(h:∀(O:Obj) (ts:Array jm),O.data=.fields ts->3<ts.size->O.isFreed=false->Q (.ref s.heap.objs.size) {s with heap:=s.heap.push O}):
  bw M A (EntryCells.newEntry head fr .none fl .none pl) Q E s:=by
 unfold EntryCells.newEntry;unfold newFields;exact L_ (h _ _ rfl (by simp only[bB,aO,aZ,dW];lia) rfl) (ou.sizeOk5 _ _ _ _ _)
def wB {h:Heap}{r:ke}{vs:Array jm}(hr:h.get? r=some o)(hd:o.data=.fields vs)(i:Nat)(x:jm):
  (∀b,b≠r->(h.update r (Obj.mapFields (·.setIfInBounds i x))).get? b=h.get? b)/\
  ∃o',(h.update r (Obj.mapFields (·.setIfInBounds i x))).get? r=some o'/\o'.cls=o.cls/\o'.dict=o.dict/\o'.data=.fields (vs.setIfInBounds i x):=
 ⟨λb hb=>Heap.get?_update_other _ _ λz=>hb z.symm,_,Heap.get?_update_self _ hr (Obj.isFreed_of_fields (Obj.data_mapFields hd _)),Obj.cls_mapFields _ _,HV _ _,Obj.data_mapFields hd _⟩
def Inv.aka (I:Inv X aA σ H s){r:ke}{vs:Array jm}(hr:s.heap.get? r=some o)(hd:o.data=.fields vs):r∉Gh X.stack:=λhm=>
 match I.stack.mem hm with
 |⟨_,_,q,nf⟩=>nf vs (by rw[bh (q.symm.trans hr)];exact hd)
def Mb.one (I:Inv X aA σ H s){r:ke}{o':Obj}{vs:Array jm}(hr:s.heap.get? r=some o)(hd:o.data=.fields vs)(hn:H r=none)(hl:lo<=r)
  (k:∀b,b≠r->h'.get? b=s.heap.get? b) (e:h'.get? r=some o'):Mb (Gh X.stack) H lo s.heap h':=by
 have nf:=I.aka hr hd;refine⟨λb q hb z w=>?_,λb q hb w=>⟨q.slots,(k b λz=>nf (z ▸ hb)).trans w⟩,λb q w=>?_⟩
 .refine(k b λy=>?_).trans w;subst y;have eo:o=q:=bh (hr.symm.trans w);rcases z with z|z|z
  .exact bX _ (a_ z hl)
  .exact z hn
  .exact z vs (eo ▸ hd)
 .by_cases y:b=r
  .exact⟨o',y ▸ e⟩
  .exact⟨q,(k b y).trans w⟩
def Ls {vs:Array jm}{head:jm}{abP:Bool}{Q:Unit->aL->Prop}(I:Inv X aA σ H s)(hp:∀p∈X.pn++aA,p.1<lo)(lu:X.s_0.heap.objs.size<=lo)
  (N5:A.frames=some X.stack) (uA:X.stack=jx::uH) (DC:jx.frame=some L) (hf:OY.frame=some L)
  (he:s.heap.get? e=some oe) (hn:H e=none) (Pf:lo<=e) (hd:oe.data=.fields vs) (hsz:vs.size=6) (hk:oe.cls=.ref Mf->vs[2]? =some .none)
  (h:∀h',Inv X aA σ H {s with heap:=h'}->Mb (Gh X.stack) H lo s.heap h'->Fy Mf H lo h' e oe.cls oe.dict true->Q () {s with heap:=h'}):
  bw M A (do let a<-DA OY;let pl<-entryPlaceOf L abP;let b<-EntryCells.newEntry head a .none (rawInt L) .none pl;setField (.ref e) 1 b) Q E s:=by
 have hfo:DA OY=DA jx:=by unfold DA;rw[hf,DC]
 have ai9:=I.aka he hd;have hl:=I.stack;rw[uA] at hl N5 ai9;rw[hfo];refine aR (wpAny_frameOf_fun N5 hl DC λg1 ⟨z1,z2,z3⟩=>aR (wpAny_entryPlaceOf λpl ou=>aR (ace ou λO ts hO hts ER=>?_)));have e1:g1.get? e=some oe:=(z2 e ai9).trans he;have e2:(g1.push O).get? e=some oe:=Heap.get?_push_of_some O e1;have ne:g1.objs.size≠e:=λz=>bX _ (lM (Heap.lt_size e1) z);obtain⟨k1,o',k2,k3,k4,k5⟩:=wB e2 hd 1 (.ref g1.objs.size);refine xj e2 hd (by lia) ?_;have fl:Mb (Gh X.stack) H lo s.heap ((g1.push O).update e (Obj.mapFields (·.setIfInBounds 1 (.ref g1.objs.size)))):=by
  have f1:Mb (Gh X.stack) H lo s.heap (g1.push O):=by
   rw[uA];exact⟨λb o hb _ q=>Heap.get?_push_of_some O ((z2 b hb).trans q),λb o _ q=>let ⟨sl,q1⟩:=z3 b o q;⟨sl,Heap.get?_push_of_some O q1⟩,λb o q=>let ⟨sl,q1⟩:=z3 b o q;⟨_,Heap.get?_push_of_some O q1⟩⟩
  exact f1.trans (Mb.one (I.TB (t':=s.toks) hp f1 lu) e2 hd hn Pf k1 k2)
 refine h _ (I.TB (t':=s.toks) hp fl lu) fl ⟨hn,Pf,o',_,k2,k3,k4,k5,by simp[hsz],λq=>?_,.inr ⟨g1.objs.size,O,ts,?_,?_,?_,ne,(k1 _ ne).trans (Heap.get?_push_size g1 ER),hO,hts⟩⟩
 .rw[eW (by decide)];exact hk q
 .rw[Array.getElem?_setIfInBounds_self_of_lt (by lia)]
 .rw[z1];exact I.fV.fresh (bq _)
 .exact bt Pf (cG (Heap.lt_size e1))
def yt {Q:Unit->aL->Prop}(I:Inv X aA σ H s)(hp:∀p∈X.pn++aA,p.1<lo)(lu:X.s_0.heap.objs.size<=lo)(F:Fy Mf H lo s.heap e C d wt)
  (N5:A.frames=some X.stack) (uA:X.stack=jx::uH) (DC:jx.frame=some L) (hf:OY.frame=some L)
  (h:∀h',Inv X aA σ H {s with heap:=h'}->Mb (Gh X.stack) H lo s.heap h'->Fy Mf H lo h' e C d true->Q () {s with heap:=h'}):bw M A (AL (.ref e) OY) Q E s:=by
 obtain⟨hn,Pf,oe,vs,he,rfl,rfl,hd,hsz,hk,tr⟩:=F;unfold AL;simp only[hf];rcases tr with⟨_,h1⟩|⟨T,oT,ts,h1,hTn,Yf,hTe,hT,hdT,WS⟩
 .refine aR (mq he hd h1 ?_);rw[ah (by decide)];exact Ls I hp lu N5 uA DC hf he hn Pf hd hsz hk h
 .refine aR (mq he hd h1 ?_);rw[aj (YV T)];obtain⟨fl,h3⟩:∃fl,ts[3]? =some fl:=⟨_,NW WS⟩;refine aR (mq (vs:=ts) hT hdT h3 ?_);by_cases hq:(fl==rawInt L)=true
  .rw[aj hq];exact bV (h s.heap I .refl ⟨hn,Pf,oe,vs,he,Z,Z,hd,hsz,hk,.inr ⟨T,oT,ts,h1,hTn,Yf,hTe,hT,hdT,WS⟩⟩)
  .rw[ah hq];obtain⟨k1,o',k2,_⟩:=wB hT hdT 3 Value.none;have fl1:=Mb.one I hT hdT hTn Yf k1 k2;exact aR (xj hT hdT WS (Ls (I.TB (t':=s.toks) hp fl1 lu) hp lu N5 uA DC hf ((k1 e (eK hTe)).trans he) hn Pf hd hsz hk λh' I2 f2 F2=>h h' I2 (fl1.trans f2) F2))
def zc {Q:Unit->aL->Prop}{fr:Option ke}(I:Inv X aA σ H s)(hp:∀p∈X.pn++aA,p.1<lo)(lu:X.s_0.heap.objs.size<=lo)(F:Fy Mf H lo s.heap e C d wt)
  (h:∀h',Inv X aA σ H {s with heap:=h'}->Mb (Gh X.stack) H lo s.heap h'->Fy Mf H lo h' e C d wt->Q () {s with heap:=h'}):bw M A (GD (.ref e) fr) Q E s:=by
 obtain⟨hn,Pf,oe,vs,he,rfl,rfl,hd,hsz,hk,tr⟩:=F;unfold GD;rcases tr with⟨hw,h1⟩|⟨T,oT,ts,h1,hTn,Yf,hTe,hT,hdT,WS⟩
 .refine aR (mq he hd h1 ?_);rw[ah (by decide)];exact bV (h s.heap I .refl ⟨hn,Pf,oe,vs,he,Z,Z,hd,hsz,hk,.inl ⟨hw,h1⟩⟩)
 .refine aR (mq he hd h1 ?_);rw[aj (YV T)];obtain⟨k1,o',k2,_,_,k5⟩:=wB hT hdT 3 (fr.elim Value.none λf=>rawInt f);have fl1:=Mb.one I hT hdT hTn Yf k1 k2;exact xj hT hdT WS (h _ (I.TB (t':=s.toks) hp fl1 lu) fl1 ⟨hn,Pf,oe,vs,(k1 e (eK hTe)).trans he,Z,Z,hd,hsz,hk,.inr ⟨T,o',_,h1,hTn,Yf,hTe,k2,k5,by simpa using WS⟩⟩)
def Ii (F:Fy Mf H lo s.heap e C d true)(h:∀T,Q (.ref T) s):bw M A (field (.ref e) 1) Q E s:=by
 obtain⟨hn,Pf,oe,vs,he,rfl,rfl,hd,hsz,hk,tr⟩:=F;rcases tr with⟨hw,h1⟩|⟨T,oT,ts,h1,_⟩
 .cases hw
 .exact mq he hd h1 (h T)
def Ij {α:Type}{aqv:String}{Q:α->aL->Prop}(I:Inv X aA σ H s)(hp:∀p∈X.pn++aA,p.1<lo)(lu:X.s_0.heap.objs.size<=lo)(F:Fy Mf H lo s.heap e C d true)
  (h:∀h',Inv X aA σ H {s with heap:=h'}->Mb (Gh X.stack) H lo s.heap h'->Fy Mf H lo h' e C d true->E (.ref e) {s with heap:=h'}):bw M A (QQ aqv (.ref e) OY:Sem α) Q E s:=by
 unfold QQ;refine aR (Ii F λT=>?_);rw[ah (by simp)];exact aR (zc I hp lu F λh' I' f' F'=>wpAny_throw (h h' I' f' F'))
def tO (P:bJ)(w:cz)(Mf:ke):NY:=λouter H s E e s'=>∃(a:ke) (C:jm) (d:Option ke) (H':Hp),e=.ref a/\s'.os=s.os/\Gz s'.gens/\Un (Gh outer) [] H H' s.heap s'.heap/\wK P w H' s'.heap/\
 Fy Mf H' s.heap.objs.size s'.heap a C d true/\E C d H'
def Vm {Q:Unit->aL->Prop}(I:Inv X aA σ H s)(hp:∀p∈X.pn++aA,p.1<lo)(hex:X.ex=[])(lu:X.s_0.heap.objs.size<=lo)(F:Fy Mf H lo s.heap e C d wt)
  (N5:A.frames=some X.stack) (uA:X.stack=jx::uH) (DC:jx.frame=some L) (hf:OY.frame=some L) (q:Ex C d H)
  (h:∀s',tO X.prog X.w Mf X.outer X.H_0 X.s_0 Ex (.ref e) s'->Q () s'):bw M A (leaving OY (.ref e)) Q E s:=by
 unfold leaving;refine aR (yt I hp lu F N5 uA DC hf λh1 I1 f1 F1=>?_);refine zc I1 hp lu F1 λh2 I2 f2 F2=>?_;refine h _ ⟨e,C,d,H,Z,I2.os,I2.bare,?_,I2.fV,?_,q⟩
 .have:=I2.lQ;rw[hex] at this;exact this
 .obtain⟨a1,a2,oe,vs,a3,a4,a5,a6,a7,a8,tr⟩:=F2;refine⟨a1,bt lu a2,oe,vs,a3,a4,a5,a6,a7,a8,?_⟩;rcases tr with⟨z,_⟩|⟨T,oT,ts,b1,b2,b3,b4⟩
  .cases z
  .exact .inr ⟨T,oT,ts,b1,b2,bt lu b3,b4⟩
def Inv.aiT {ev:jm}{s':aL}(I:Inv X aA σ H s)(h:tO X.prog X.w Mf X.stack H s Ex ev s'):
  ∃a C d H' lo,ev=.ref a/\Inv X aA σ H' s'/\(∀p∈X.pn++aA,p.1<lo)/\X.s_0.heap.objs.size<=lo/\Fy Mf H' lo s'.heap a C d true/\Ex C d H':=by
 obtain⟨a,C,d,H',rfl,hos,hb,un,fV,F,q⟩:=h;exact⟨a,C,d,H',_,Z,I.Xw (ch:=[]) hos un fV hb (λb z=>absurd z (by simp)),λp hp=>Heap.lt_size (I.pin p hp).1,I.sz,F,q⟩
def Raises (X:Cx)(Mf:ke)(Ex:XK):Prop:=∀(aA:jz) (σ:St) (H:Hp) (s:aL) (lo:Nat) (e:ke) (C:jm) (d:Option ke) (wt:Bool),Inv X aA σ H s->(∀p∈X.pn++aA,p.1<lo)->X.s_0.heap.objs.size<=lo->
 Fy Mf H lo s.heap e C d wt->Ex C d H->X.xe (.ref e) s
def Raises.passes (h:Raises X Mf Ex):Passes (tO X.prog X.w Mf) X Ex:=λaA σ H s e s' I c=>by
 obtain⟨a,C,d,H',lo,rfl,I',hp,lu,F,q⟩:=I.aiT c;exact h aA σ H' s' lo a C d true I' hp lu F q
def aY {P:bJ}{w:cz}{K:au}{mg:sO}{lQ:Heap}{N:mX}{eV:Str}{bc:nA}{f:ke}{sQ:jm}{outer:List Env}{E:XK}:
  Raises (A3 (tO P w Mf) P w K mg lQ N eV bc f sQ A outer s H E) Mf E:=λaA σ H' s' lo e C d wt I hp lu F q=>
 Vm (X:=A3 (tO P w Mf) P w K mg lQ N eV bc f sQ A outer s H E) I hp rfl lu F I.ok.frames rfl rfl rfl q λs'' z=>z
end
open PySem PySem.Spec PyProof.Rows
abbrev bmE:gU:=[.type "Exception",.type "BaseException",.type "object"]
def adj:kW (.type "Exception") "kind"=pure none:=by rw[typeLookup_type,ads];kernel_rfl
def aab:kW (.type "Exception") "place"=pure none:=by rw[typeLookup_type,ads];kernel_rfl
inductive XEx (K:au)(C N:ke):Prop|i nm q bs sn sub ab col dd k0 k1 k2 k3 k5(_:K.lookup C=some (fW nm q C N bs bmE true sn sub ab col dd k0 k1 k2 k3 k5 "Exception.__new__"))
structure tM (K:au)(C N:ke):Prop where
 ex:XEx K C N
 ok:abm K N=true
 sa:fj K N "__setattr__"=some none
 ga:fj K N "__getattribute__"=some none
 gh:fj K N "__getattr__"=some none
 kp:il K (.ref C)=true
section
variable{prog:bJ}{w:cz}{A:Around}{E:kc}{h:Heap}{g:Array AK}{dr:aam}{t:Nat}{os:SY}{K:au}{C N x:ke}{name:Str}{v:jm}
def tM.ns (c:tM K C N)(k:K.In h):h.Ns N (h.nsMap N):=.of_isNs (PySem.W.isNs_of_in k c.ok)
def tM.no (c:tM K C N)(k:K.In h){n:Str}(e:fj K N n=some none):h.nsMap N n=none:=PySem.W.nsMap_none_of_in k c.ok e
end
section
variable{prog:bJ}{w:cz}{A:Around}{E:kc}{h:Heap}{g:Array AK}{dr:aam}{t:Nat}{os:SY}{C N x:ke}{name:Str}{v:jm}
 {nm q:Str} {bs bm:gU} {sn:mX} {sub:gU} {ab:Bool} {col:Option Bool} {dd:Option ke} {k0 k1 k2 k3 k5:Option jm} {B newId sa aeg:String} {mN:sO} {o:Obj} {vs:Array jm}
open Builtin Builtin.ObjectAttr
def aag {tk:Tok}{Q:Fin->aL->Prop}(SF:StoreFacts B bm sa aeg)(hC:h.get? C=some (fW nm q C N bs bm true sn sub ab col dd k0 k1 k2 k3 k5 newId))(hn:h.Ns N mN)(hna:mN name=none)(hB:kW (.type B) name=pure none)
  (hx:h.get? x=some o) (hc:o.cls=.ref C) (hd:o.data=.fields vs) (CC:o.dict=none)
  (hq:∀h' tk',h'.get? x=some {o with dict:=some h.objs.size}->h'.Ns1 h.objs.size (λy=>if y=name then some v else none)->(∀b ob,b≠x->h.get? b=some ob->h'.get? b=some ob)->Q (.done (.ret .none)) ⟨h',g,dr,tk',os⟩):
  bw (bA prog w) A (Builtin.«object.__setattr__» ⟨[.ref x,.str name tk,v],[]⟩) Q E ⟨h,g,dr,t,os⟩:=by
 have aju:=SF.passes (.ref x);unfold Builtin.«object.__setattr__»
 repeat (first|rw[refuse_eq]|rw[refuseLoop_ref,aju]|(with_reducible refine bU hx ?_;rw[hc])|with_reducible refine wpAny_mroOf_exc hC ?_ |(with_reducible refine iZ hC hn SF.mro hB ?_;rw[hna])|wp_step)
 rw[CC,hd];show bw (bA prog w) A (do
  let d<-alloc {cls:=Value.type "dict",data:=Data.dict #[]}
  update x λo=>{o with dict:=some d}
  dictMade (Value.ref C) x d) _ _ _
 have g1:(h.push {cls:=.type "dict",data:=.dict #[]}).get? x=some o:=Heap.get?_push_of_some _ hx;have nx:x≠h.objs.size:=λz=>bX _ (lM (Heap.lt_size hx) z.symm);have fr:({o with dict:=some h.objs.size}:Obj).isFreed=false:=by
  obtain⟨oc,od,odt,Y6⟩:=o;have hd:odt=.fields vs:=hd;subst hd;rfl
 have g2:=Heap.get?_update_self (λ(u:Obj)=>{u with dict:=some h.objs.size}) g1 fr;have g3:((h.push {cls:=.type "dict",data:=.dict #[]}).update x λ(u:Obj)=>{u with dict:=some h.objs.size}).get? h.objs.size=some {cls:=.type "dict",data:=.dict #[]}:=
  (Heap.get?_update_ne _ _ _ _ nx.symm).trans (Heap.get?_push_at rfl rfl)
 refine aR (wpAny_alloc' (aR (W0 g1 (bV ?_))));show bw _ _ (storeInDict h.objs.size (.str name tk) name v) _ _ _;unfold storeInDict;unfold newKeyGuard;refine aR (bV (aR (wpAny_nsSet1 (Heap.Ns1.of_empty ⟨_,#[],_,g3,Z,(λe he=>absurd he (by simp)),λ_=>rfl⟩) λh' n' sb=>?_)));obtain⟨oD,esD,epD,hoD,hdD,hcD⟩:=n'.count (Within.cons name v Within.nil);refine aR (amt hoD (by rw[hdD];exact amq (bt hcD (by rw[aZ,dW,aE];lia))) (bV ?_));exact hq h' _ ((sb.2 x nx).trans g2) n' λb ob hb e=>(sb.2 b λz=>bX _ (lM (Heap.lt_size e) z.symm)).trans ((Heap.get?_update_ne _ _ _ _ hb).trans (Heap.get?_push_of_some _ e))
def ado {Q:Unit->aL->Prop}(SF:StoreFacts B bm sa aeg)(hC:h.get? C=some (fW nm q C N bs bm true sn sub ab col dd k0 k1 k2 k3 k5 newId))(hn:h.Ns N mN)(hns:mN "__setattr__"=none)(hna:mN name=none)(hB:kW (.type B) name=pure none)
  (hx:h.get? x=some o) (hc:o.cls=.ref C) (hd:o.data=.fields vs) (CC:o.dict=none)
  (hq:∀h' tk',h'.get? x=some {o with dict:=some h.objs.size}->h'.Ns1 h.objs.size (λy=>if y=name then some v else none)->(∀b ob,b≠x->h.get? b=some ob->h'.get? b=some ob)->Q () ⟨h',g,dr,tk',os⟩):
  bw (bA prog w) A (setAttr (.ref x) name v) Q E ⟨h,g,dr,t,os⟩:=by
 have adX:=SF.slot.bind (.ref x);unfold setAttr;unfold callSpecial?;unfold specialOf
 repeat (any_goals (first|assumption|(with_reducible refine bU hx ?_;rw[hc])|(with_reducible refine iZ hC hn SF.mro SF.slot.lookup ?_;rw[hns])|wp_step))
 refine Fx SF.slot.plain SF.entry (wpAny_check_sa SF hC hx hc (aag SF hC hn hna hB hx hc hd CC λh' tk' a1 a2 a3=>?_))
 repeat (any_goals (first|assumption|wp_step))
 exact hq h' _ a1 a2 a3
def aac {tk:Tok}{dx:ke}{mA:sO}{Q:Fin->aL->Prop}(aoh:mroOf (.type B)=pure bm)(hC:h.get? C=some (fW nm q C N bs bm true sn sub ab col dd k0 k1 k2 k3 k5 newId))(hn:h.Ns N mN)(hna:mN name=none)(hB:kW (.type B) name=pure none)
  (hx:h.get? x=some o) (hc:o.cls=.ref C) (hd:o.data=.fields vs) (CC:o.dict=some dx) (hm:h.Ns1 dx mA) (hv:mA name=some v) (hq:Q (.done (.ret v)) ⟨h,g,dr,t,os⟩):
  bw (bA prog w) A (Builtin.«object.__getattribute__» ⟨[.ref x,.str name tk],[]⟩) Q E ⟨h,g,dr,t,os⟩:=by
 unfold Builtin.«object.__getattribute__»
 repeat (first|(with_reducible refine bU hx ?_;rw[hc])|(with_reducible refine iZ hC hn aoh hB ?_;rw[hna])|wp_step)
 rw[hd];show bw _ _ (instanceDict x false) _ _ _;unfold instanceDict
 repeat (first|(with_reducible refine bU hx ?_;rw[hc])|with_reducible refine bU hC ?_ |wp_step)
 rw[CC]
 repeat (first|(with_reducible refine wpAny_nsGet hm.ns ?_;rw[hv])|wp_step)
 exact hq
def akZ {tk:Tok}{dx:ke}{mA:sO}{fill Ru:Bool}(FB:ExcAttrBase B bm)(hC:h.get? C=some (fW nm q C N bs bm true sn sub ab col dd k0 k1 k2 k3 k5 newId))(hn:h.Ns N mN)
  (hng:mN "__getattribute__"=none) (hnh:mN "__getattr__"=none) (hna:mN name=none) (hB:kW (.type B) name=pure none)
  (hx:h.get? x=some o) (hc:o.cls=.ref C) (hd:o.data=.fields vs) (CC:o.dict=some dx) (hm:h.Ns1 dx mA) (hv:mA name=some v) (hh:handedOut v=pure v) (hq:Q v ⟨h,g,dr,t,os⟩):
  bw (bA prog w) A (getAttrBy (.ref x) (.str name tk) fill Ru) Q E ⟨h,g,dr,t,os⟩:=by
 have b0:=FB.ga.bind (.ref x);have b1:(Ru&&onTheHeap (Value.builtin "BaseException.__getattribute__"))=false:=by cases Ru<;>rfl
 have b3:(Value.builtin "BaseException.__getattribute__"==Value.builtin "object.__getattribute__")=false:=by decide+kernel
 have b2:(onTheHeap (Value.ref C)&&Value.builtin "BaseException.__getattribute__"==Value.builtin "object.__getattribute__")=false:=by rw[b3];rfl
 repeat (any_goals (first|assumption|(with_reducible refine bU hx ?_;rw[hc])|(with_reducible refine iZ hC hn FB.mro FB.ga.lookup ?_;rw[hng])|(with_reducible refine iZ hC hn FB.mro FB.noGetattr ?_;rw[hnh])|wp_step))
 refine Fx FB.ga.plain F.entry_bexc_ga (wpAny_check_ga_own FB hC .base hx hc (aac FB.mro hC hn hna hB hx hc hd CC hm hv ?_))
 repeat (any_goals (first|assumption|wp_step))
def adl {dx:ke}{mA:sO}{Ru:Bool}(FB:ExcAttrBase B bm)(hC:h.get? C=some (fW nm q C N bs bm true sn sub ab col dd k0 k1 k2 k3 k5 newId))(hn:h.Ns N mN)
  (hng:mN "__getattribute__"=none) (hnh:mN "__getattr__"=none) (hna:mN name=none) (hB:kW (.type B) name=pure none)
  (hx:h.get? x=some o) (hc:o.cls=.ref C) (hd:o.data=.fields vs) (CC:o.dict=some dx) (hm:h.Ns1 dx mA) (hv:mA name=some v) (hh:handedOut v=pure v) (hq:Q v ⟨h,g,dr,t+1,os⟩):
  bw (bA prog w) A (aa5 (.ref x) name Ru) Q E ⟨h,g,dr,t,os⟩:=by
 unfold aa5
 repeat (any_goals (first|assumption|with_reducible apply akZ FB hC hn hng hnh hna hB hx hc hd CC hm hv hh|wp_step))
end
open PySem PySem.Spec PyProof.Rows
def del (H:Hp)(a:ke):Hp:=λb=>if b=a then none else H b
def OV:del H a a=none:=by unfold del;rw[aj rfl]
def vV {b:ke}(h:b≠a):del H a b=H b:=by unfold del;rw[ah h]
def XE (e C:ke)(d:Option ke):Heap->Prop:=λh=>∃oe vs,h.get? e=some oe/\oe.cls=.ref C/\oe.dict=d/\oe.data=.fields vs/\vs.size=6/\vs[1]? =some .none/\vs[2]? =some .none
def GJ (d:ke)(fs:List (Str×V)):Heap->Prop:=λh=>∃mA,h.Ns1 d mA/\(∀f,uu (fs.lookup f) (mA f))/\FK mA (fs.map (·.1))
section
variable{P:bJ}{w:cz}{H:Hp}{h:Heap}{e C d:ke}{od:Option ke}{fs:List (Str×V)}
def aaa (x:XE e C od h):ju P w H h e (.ext (XE e C od)):=by
 obtain⟨oe,vs,z,r⟩:=id x;exact⟨x,⟨oe,z⟩,λh1 h2 ⟨o1,v1,q,r1⟩ k=>⟨o1,v1,k _ q,r1⟩⟩
def aeC (x:GJ d fs h):ju P w H h d (.ext (GJ d fs)):=by
 obtain⟨mA,n,r⟩:=id x;obtain⟨o,es,ep,q,_⟩:=id n;exact⟨x,⟨o,q⟩,λh1 h2 ⟨m1,n1,r1⟩ k=>⟨m1,n1.at k,r1⟩⟩
def vX {φ:Heap->Prop}(ok:wK P w H h)(e:H a=some (.ext φ)):φ h:=(ok a _ e).1
end
section
variable{X:Cx}{aA:jz}{σ:St}{H:Hp}{s:aL}
def Inv.forget {φ:Heap->Prop}(I:Inv X aA σ H s)(e:H a=some (.ext φ))(ha:X.s_0.heap.objs.size<=a):Inv X aA σ (del H a) s:=by
 have low:∀b o,X.s_0.heap.get? b=some o->b≠a:=λb o q z=>bX _ (a_ (Heap.lt_size q) (z ▸ ha));have un:=I.lQ;refine⟨I.ok,I.os,I.bare,⟨un.keep,un.slot,λb o q n x=>?_,un.there,λb xs q=>?_,λb o u q=>?_,λb ps q=>?_⟩,I.loc,I.cell,?_,λx c q=>?_,λp hp=>?_,λb o q=>?_,I.len⟩
 .rw[vV (low b o q)];exact un.free b o q n x
 .have z:=un.tups b xs q;rw[vV (λy=>by rw[y,e] at z;cases z)];exact z
 .have z:=un.frzs b o u q;rw[vV (λy=>by rw[y,e] at z;cases z)];exact z
 .obtain⟨m,z⟩:=un.tbls b ps q;exact⟨m,by rw[vV (λy=>by rw[y,e] at z;cases z)];exact z⟩
 .unfold del;split<;>first|rfl|exact I.free
 .unfold del;split<;>first|rfl|exact I.pP x c q
 .obtain⟨z1,z2,z3⟩:=I.pin p hp;refine⟨z1,?_,z3⟩;unfold del;split<;>first|rfl|exact z2
 .have hb:b≠a:=λz=>by rw[z,OV] at q;cases q
  rw[vV hb] at q;exact(I.fV b o q).Ac (λc v _ z=>z) (λc z=>by rw[vV (λy=>by rw[y,e] at z;cases z)];exact z) λc xs z=>by rw[vV (λy=>by rw[y,e] at z;cases z)];exact z
def Inv.aey {o:HO}(I:Inv X aA σ H s)(aot:∀p∈X.pn++aA,p.1≠a)(hn:H a=none)(ha:X.s_0.heap.objs.size<=a)(hL:a≠X.env.locals)(hc:∀x c,X.env.cells.lookup x=some c->c≠a)
  (ok:ju X.prog X.w (upd H a o) s.heap a o):Inv X aA σ (upd H a o) s:=by
 have low:∀b u,X.s_0.heap.get? b=some u->b≠a:=λb u q z=>bX _ (a_ (Heap.lt_size q) (z ▸ ha));have un:=I.lQ;have ne:∀{b u},H b=some u->b≠a:=λq=>aI q hn;refine⟨I.ok,I.os,I.bare,⟨un.keep,un.slot,λb u q n x=>?_,un.there,λb xs q=>?_,λb u v q=>?_,λb ps q=>?_⟩,I.loc,I.cell,?_,λx c q=>?_,λp hpp=>?_,λb u q=>?_,I.len⟩
 .rw[aF (low b u q)];exact un.free b u q n x
 .rw[aF (ne (un.tups b xs q))];exact un.tups b xs q
 .rw[aF (ne (un.frzs b u v q))];exact un.frzs b u v q
 .obtain⟨m,z⟩:=un.tbls b ps q;exact⟨m,by rw[aF (ne z)];exact z⟩
 .rw[aF hL.symm];exact I.free
 .rw[aF (hc x c q)];exact I.pP x c q
 .obtain⟨z1,z2,z3⟩:=I.pin p hpp;exact⟨z1,by rw[aF (aot p hpp)];exact z2,z3⟩
 .by_cases hb:b=a
  .subst hb;rw[aq] at q;cases q;exact ok
  .rw[aF hb] at q;exact(I.fV b u q).Ac (λc v _ z=>z) (λc z=>by rw[aF (ne z)];exact z) λc xs z=>by rw[aF (ne z)];exact z
def Inv.Zl (I:Inv X aA σ H s){vs:Array jm}(e:s.heap.get? a=some o)(d:o.data=.fields vs):a≠X.env.locals/\∀x c,X.env.cells.lookup x=some c->c≠a:=by
 refine⟨λz=>?_,λx c q z=>?_⟩
 .obtain⟨m,⟨oL,es,ep,hL,dL,_⟩,_⟩:=I.loc;rw[<-z,e] at hL;cases hL;rw[d] at dL;cases dL
 .obtain⟨v,oc,hcl,dc⟩:=I.cell x c q;rw[z,e] at hcl;cases hcl;rw[d] at dc;cases dc
end
structure Oq (K:au)(N:ke)(f:Str):Prop where
 own:fj K N f=some none
 lQ:kW (.type "Exception") f=pure none
inductive Sxf (f:Str)(K:au)(D:Ends)(σ:St)(y:V)(x:V)(H2:Hp):Prop|i a C N(_:x=.ref a)(_:tM K C N)(_:Oq K N f)(_:
 ((H2 a=some (.ext (XE a C none))/\∀dd,H2 dd=none->dd≠a->D.nx σ (upd (upd H2 a (.ext (XE a C (some dd)))) dd (.ext (GJ dd [(f,y)]))))\/
  ∃dd fs,H2 a=some (.ext (XE a C (some dd)))/\H2 dd=some (.ext (GJ dd fs))/\fs.length<1000/\D.nx σ (upd H2 dd (.ext (GJ dd (vm f y fs))))))
def sXF (ta tv:TE)(f:Str)(K:au):TS:=λD σ H=>tv σ H λy H1=>ta σ H1 (Sxf f K D σ y)
section
variable{X:Cx}{o iY:Expr}{f:Str}{cN xA:Pos}{ta tv:TE}
def Ny (ha:PE X o ta)(hv:PE X iY tv)(hs:mU iY (some (.Attribute o f xA)) cN.line X.env=pure false):PS X (.Assign [.Attribute o f xA] iY cN) (sXF ta tv f X.K):=by
 intro aA s σ H D I h;refine NV (je (hv aA s σ H _ I h) ?_) hs;rintro u s1 ⟨y,H1,I1,ry,q⟩;refine je (ha aA s1 σ H1 _ I1 q) ?_;rintro ov s2 ⟨x,H2,I2,rx,a,C,N,rfl,c,n,q2⟩;obtain rfl:ov=Value.ref a:=rx;obtain⟨nm,qn,bs,sn,sub,ab,col,WJ,k0,k1,k2,k3,k5,e0⟩:=c.ex;have uD:=I2.zf;have hC:=uD _ _ e0;rcases q2 with⟨hE,nx⟩|⟨dd,fs,hE,hD,hl,nx⟩
 .obtain⟨oe,vs,z1,z2,z3,z4,z5⟩:=vX I2.fV hE;obtain⟨WO,g2,dr2,t2,os2⟩:=s2;refine ado N1 hC (c.ns uD) (c.no uD c.sa) (c.no uD n.own) n.lQ z1 z2 z4 z3 λh' tk' a1 a2 a3=>?_;have fresh:H2 WO.objs.size=none:=I2.fV.fresh (bq _);have ne:WO.objs.size≠a:=λq=>bX _ (lM (Heap.lt_size z1) q);have I3:Inv X aA σ (upd H2 a (.ext (XE a C (some WO.objs.size)))) ⟨h',g2,dr2,tk',os2⟩:=
   I2.write (x:=a) (e:=a) (h':=h') (t':=tk') (by rw[hE];exact m7) (.inl rfl) (λb u hb q=>a3 b u hb q) ⟨_,a1⟩ (aaa ⟨_,vs,a1,z2,Z,z4,z5⟩)
  have lt:∀b ob,WO.get? b=some ob->b≠WO.objs.size:=λb ob q z=>bX _ (lM (Heap.lt_size q) z.symm);refine⟨σ,_,I3.aey (a:=WO.objs.size) (o:=.ext (GJ WO.objs.size [(f,y)])) (λp hp=>lt _ _ (I2.pin p hp).1) (by rw[aF ne];exact fresh) I2.sz (λz=>bX _ (lM I2.lt z)) (λx c' q=>?_) (aeC ⟨_,a2,λg=>?_,λg hg=>?_⟩),nx _ fresh ne⟩
  .obtain⟨v,oc,q1,_⟩:=I2.cell x c' q;exact lt _ _ q1
  .by_cases hg:g=f
   .subst hg;show uu (lB g [(g,y)]) (if g=g then some u else none);rw[aj rfl,List.lookup_cons_self];exact ry
   .show uu (lB g [(f,y)]) (if g=f then some u else none);rw[ah hg,jr,beq_false_of_ne hg];exact m7
  .by_cases hgf:g=f
   .rw[hgf];exact aU
   .exact absurd (ah hgf) hg
 .obtain⟨oe,vs,z1,z2,z3,z4,z5⟩:=vX I2.fV hE;obtain⟨mA,n1,Qi,wi⟩:=vX I2.fV hD;have ned:dd≠a:=λz=>by
   obtain⟨ob,es,ep,q1,q2,_⟩:=n1;rw[z,z1] at q1;cases q1;rw[z4] at q2;cases q2
  .obtain⟨WO,g2,dr2,t2,os2⟩:=s2;have VH:a≠C:=λq=>by rw[q,hC] at z1;cases z1;cases z4
   refine PySem.store_attr N1 hC (c.ns uD) (c.no uD c.sa) (c.no uD n.own) n.lQ VH ⟨oe,z1,z2,(λcc q=>by rw[z4] at q;cases q),.inr ⟨dd,z3,ned,n1⟩⟩ (λh' tk' J a3 a4=>?_) wi (by rw[aB,aE];lia);obtain⟨o1,b1,b2,b3,b4,b5⟩:=a4 oe z1;have eo:o1=oe:=by
    obtain⟨x1,x2,x3,x4⟩:=o1;obtain⟨y1,y2,y3,y4⟩:=oe;have e5:=b5 dd z3;dsimp only at b2 b3 b4 e5 z3;subst b2 b3 b4;rw[e5,z3]
   have n2:h'.Ns1 dd (λz=>if z=f then some u else mA z):=by
    obtain⟨o2,q1,_,_,q4⟩:=J;rw[b1,eo] at q1;cases q1;rcases q4 with⟨q4,_⟩|⟨d2,q4,_,q5⟩
    .rw[z3] at q4;cases q4
    .rw[z3] at q4;cases q4;exact q5
   have hdo:∃ob,h'.get? dd=some ob:=let ⟨ob,_,_,q,_⟩:=n2;⟨ob,q⟩;refine⟨σ,_,I2.write (x:=dd) (e:=dd) (h':=h') (t':=tk') (by rw[hD];exact m7) (.inl rfl) (λb ob hb q=>?_) hdo (aeC ⟨_,n2,λg=>?_,λg hg=>?_⟩),nx⟩
   .by_cases hba:b=a
    .subst hba;have:ob=oe:=bh (q.symm.trans z1);rw[this,b1,eo]
    .exact a3 b ob hba (λo0 dx q0 q1=>by rw[z1] at q0;cases q0;rw[z3] at q1;cases q1;exact hb) q
   .show uu ((vm f y fs).lookup g) (if g=f then some u else mA g);rw[yB];by_cases hg:g=f
    .rw[aj hg,aj hg];exact ry
    .rw[ah hg,ah hg];exact Qi g
   .by_cases hgf:g=f
    .rw[hgf];exact(u9 f y fs).1
    .refine(u9 f y fs).2 g (wi g λz=>hg ?_);show(if g=f then some u else mA g)=none;rw[ah hgf];exact z
def sXI (ta:TE)(K:au):TS:=λD σ H=>ta σ H λx H2=>∃a C N d,[x]=[V.ref a]/\tM K C N/\H2 a=some (.ext (XE a C d))/\D.nx σ (upd H2 a (.ext (XE a C d)))
def adk {K:au}:PySem.W.findCls K (.type "Exception") (.type "type") "__init__"=some (.val (.builtin "Exception.__init__")):=by rfl
end
section
variable{prog:bJ}{w:cz}{A:Around}{E:kc}{h:Heap}{g:Array AK}{dr:aam}{t:Nat}{os:SY}{C N x:ke}
 {nm q:Str} {bs bm:gU} {sn:mX} {sub:gU} {ab:Bool} {col:Option Bool} {dd:Option ke} {k0 k1 k2 k3 k5:Option jm} {B newId yz:String} {o:Obj} {vs:Array jm}
def JO (F:BO B newId yz bm)(hC:h.get? C=some (fW nm q C N bs bm true sn sub ab col dd k0 k1 k2 k3 k5 newId))(hx:h.get? x=some o)(hc:o.cls=.ref C)(hd:o.data=.fields vs)(hsz:vs.size=6)
  (hq:∀h' o' z,h'.get? x=some o'->o'.cls=o.cls->o'.dict=o.dict->o'.data=.fields (vs.setIfInBounds 0 z)->(∀b ob,b≠x->h.get? b=some ob->h'.get? b=some ob)->Q .none ⟨h',g,dr,t,os⟩):
  bw (bA prog w) A (call (.builtin yz) [.ref x]) Q E ⟨h,g,dr,t,os⟩:=by
 refine BS (Fx F.init.plain F.initEntry (wpAny_check_init_sub F hC hx hc ?_));unfold Builtin.«BaseException.__init__»;dsimp only;rw[ah (by simp)];unfold newTuple;unfold Builtin.BaseException.bexcPut;obtain⟨z0,hz⟩:∃z,vs[0]? =some z:=⟨_,NW (show 0<vs.size by lia)⟩;have g1:=Heap.get?_push_of_some (h:=h) {cls:=.type "tuple",data:=.seq ([]:gU).toArray} hx;obtain⟨k1,o',k2,k3,k4,k5⟩:=wB g1 hd 0 (.ref h.objs.size);refine aR (L_ (aR (aR (mq g1 hd hz (aR (xj g1 hd (by lia) ?_))))) (by show 0<=bu;decide));have fin:=hq _ o' _ k2 k3 k4 k5 λb ob hb e=>(k1 b hb).trans (Heap.get?_push_of_some _ e);cases z0<;>first|exact wpAny_letGo (bV fin)|exact bV (bV fin)
end
section
variable{X:Cx}{ta:TE}{cN:Pos}
def Qa {e:Expr}{np kM lj:Pos}{pl:Sem Bool}(hg:Gl X "Exception")(hm:X.mg "Exception"=none)(ha:PE X e ta)(hs:autoParam (dv [e] X.env=[(false,eval e X.env)]) Z_r)
  (ou:autoParam ((m9 lj (dv [] X.env)).any (·.1)=false) Z_r)
  (ht:eval (.Call (.Attribute (.Name "Exception" np) "__init__" kM) [e] [] lj) X.env=(do
   let ov<-eval (.Name "Exception" np) X.env
   BR kM.atName
   let (f,first)<-vw [ov] (wF ov "__init__" pl)
   Fw lj f first (m9 lj (dv [e] X.env)) (xi lj (oA [] X.env))):=by rfl)
  (hsw:autoParam (mU (.Call (.Attribute (.Name "Exception" np) "__init__" kM) [e] [] lj) none cN.line X.env=pure false) Z_r):
  PS X (.Expr (.Call (.Attribute (.Name "Exception" np) "__init__" kM) [e] [] lj) cN) (sXI ta X.K):=by
 intro aA s σ H D I h;refine wpAny_Expr_any (qg (pl:=pl) (wu I hg hm PyProof.Rows.Boot.«Exception» ?_ (by decide) (by decide)) ht) I.quiet hsw;obtain⟨m0,F0⟩:=I.fr;refine PySem.W.method_type F0 I.ok.mod.uD (by kernel_rfl) (by decide+kernel) adk rfl ?_;have hh:JF ta Gx σ H (λvs H2=>∃a C N d,vs=[V.ref a]/\tM X.K C N/\H2 a=some (.ext (XE a C d))/\D.nx σ (upd H2 a (.ext (XE a C d)))):=h;refine BG (je ((ak ha ax hs) lj aA _ σ H _ (I.tok _) hh) λus s1 ⟨vs,H1,I1,r,a,C,N,d,ev,c,hE,q⟩=>?_) hs ou;subst ev;obtain rfl:=Vals.agl r;obtain⟨nm,qn,bs,sn,sub,ab,col,WJ,k0,k1,k2,k3,k5,e0⟩:=c.ex;have hC:=I1.zf _ _ e0;obtain⟨oe,vs,z1,z2,z3,z4,z5,z6,z7⟩:=vX I1.fV hE;obtain⟨WO,g2,dr2,t2,os2⟩:=s1;refine JO m6 hC z1 z2 z4 z5 λh' o' z a1 a2 a3 a4 a5=>⟨σ,_,I1.write (x:=a) (e:=a) (h':=h') (t':=t2) (by rw[hE];exact m7) (.inl rfl) (λb u hb e=>a5 b u hb e) ⟨_,a1⟩ (aaa ⟨o',_,a1,a2.trans z2,a3.trans z3,a4,?_,?_,?_⟩),q⟩
 .rw[oE];exact z5
 .rw[eW (by decide)];exact z6
 .rw[eW (by decide)];exact z7
end
open PySem PySem.Spec PyProof.Rows
abbrev Cx.as (X:Cx)(A':Around)(E:kc):Cx:={X with A:=A',calm:=false,xe:=E}
def Inv.Jw {σ:St}(I:Inv X aA σ H s)(hf:A'.frames=some X.stack)(E:kc):Inv (X.as A' E) aA σ H s:=
 ⟨⟨I.ok.mod,I.ok.kind,I.ok.glob,I.ok.blt,I.ok.above,I.ok.inj,I.ok.has,I.ok.cab,λh=>(nomatch h),hf,I.ok.stk,I.ok.exf,I.ok.bs,I.ok.QX,I.ok.PJ,I.ok.O0,I.ok.yw,I.ok.QE⟩,I.os,I.bare,I.lQ,I.loc,I.cell,I.free,I.pP,I.pin,I.fV,I.len⟩
def Inv.uJ {σ:St}(I:Inv (X.as A' E) aA σ H s)(ok:X.Ok):Inv X aA σ H s:=
 ⟨ok,I.os,I.bare,I.lQ,I.loc,I.cell,I.free,I.pP,I.pin,I.fV,I.len⟩
structure xP (k:Nat)(A:Around):Prop where
 dp:A.depth+3*k+5<UH
 un:A.units+16*k+200<L8
def lC.h {k:Nat}(r:lC k A):xP k A:=⟨r.dp,r.un⟩
def xP.make {k:Nat}(r:xP (k+1) A)(C:ke)(us:gU)(kw:List (Str×jm)):xP k (A.under (.builtin "type.__call__" ⟨.ref C::us,kw⟩)):=
 ⟨by have:=r.dp;rw[IK];lia,by have:=r.un;rw[IL];lia⟩
def FnH (P:bJ)(w:cz)(K:au)(mg:sO)(lQ:Heap)(f:ke)(fd:eO)(ps:mX)(sp:b_->Hp->VK->Prop):Prop:=
 ∀(A:Around) (outer:List Env) (s:aL) (H:Hp) (args:Args) (us:gU) (vs:b_) (Q:VK),xP 1 A->Kb P w K mg lQ A outer s H->L7 s fd args (ps.zip us)->Vals vs us->sp vs H Q->
  vv (bA P w) A (.call (.ref f) args) (CR jh outer P w H s Q E0) s
section
variable{P:bJ}{w:cz}{K:au}{mg:sO}{lQ:Heap}
def qF (A:Around)(h:Option jm):(A.mark h).frames=A.frames:=by first|rfl|simp[Around.mark]
def Fun.okH {x eV:Str}{st:Stmt}{f:ke}{fd:eO}{N ps:mX}{sp:b_->Hp->VK->Prop}(F:Fun K x eV st f fd)(S:vL N ps (dZ st))(QK:∀vs H Q,sp vs H Q->vs.length=ps.length)
  (yy:∀(sQ:jm) (A:Around) (outer:List Env) (s:aL) (H:Hp) (vs:b_) (Q:VK),sp vs H Q->
   ∃t,Kc ((A3 jh P w K mg lQ N eV (dZ st) f sQ A outer s H E0).as (A.deeper (tJ eV (dZ st) s.heap.objs.size f sQ)) λ_ _=>False) (rR st) t/\t {nx:=λ_ H'=>Q .gS H',rt:=Q} (start N vs) H):
  FnH P w K mg lQ f fd ps sp:=by
 obtain⟨oc,od,kV,Tv,pm,an,sQ,ct,Y6,rfl,lk,WK⟩:=F.ex;intro A outer s H args us vs Q hr e0 hb r J0;have hl:=QK _ _ _ J0;have KX:K.In s.heap:=e0.mod.uD.keeps λb o e=>(e0.bs b o e).1;have lim:s.heap.NoLimit:=e0.mod.nolimit.keeps λb o e=>(e0.bs b o e).1;have Yl:∀y∈ps.zip us,(dZ st).names.lookup y.1=some .local\/((dZ st).names.lookup y.1=some .cell/\((fq (s.heap.objs.size+1) (dZ st).names []).lookup y.1).isSome=true):=λ⟨n,v⟩ hy=>by
  rcases S.par n (zG hy).1 with q|q
  .exact .inl q
  .exact .inr ⟨q,xq _ _ _ (.inl q)⟩
 refine adt (by have:=hr.dp;lia) (KX _ _ lk) rfl S.co S.gen rfl (UY KX WK) (hb _ _ _ _ ?_);refine UI S.kind Yl λenv he s1 x=>?_;subst he;refine⟨lim.keeps x.toInCall.keep,codeAny_func ?_⟩;obtain⟨t,ht,hq⟩:=yy sQ A outer s H vs Q J0;have e1:Kb P w K mg lQ {A with handled:=none} outer s H:=⟨e0.frames,e0.mod,e0.bs,e0.QX,e0.yw,e0.QE,e0.fV,e0.bare⟩;have I0:Inv (A3 jh P w K mg lQ N eV (dZ st) f sQ {A with handled:=none} outer s H E0) [] (start N vs) H s1:=LA S rfl e1 hl r x;have I:=I0.Jw (A':=A.deeper (tJ eV (dZ st) s.heap.objs.size f sQ)) (Around.frames_deeper e0.frames) λ_ _=>False;refine dI (ht [] s1 (start N vs) H _ I hq) (λfl s' hs=>?_) λe s' hs=>hs.elim;have fin:∀{gz:St} {H':Hp} {v:V} {u:jm},Inv ((A3 jh P w K mg lQ N eV (dZ st) f sQ A outer s H E0).as (A.deeper (tJ eV (dZ st) s.heap.objs.size f sQ)) λ_ _=>False) [] gz H' s'->RelV v u->Q v H'->CE outer P w H s Q u s':=
  λ{gz H' v u} J rv q=>⟨v,H',J.os,J.bare,J.lQ,J.fV,rv,q⟩
 cases fl with
 |ret u=>
  obtain⟨v,gz,H',J,rv,q⟩:=hs;exact fin J rv q
 |next=>
  obtain⟨gz,H',J,q⟩:=hs;exact fin (v:=V.gS) (u:=Value.none) J rfl q
 |brk=>
  obtain⟨_,_,_,q⟩:=hs;exact dU q
 |cont=>
  obtain⟨_,_,_,q⟩:=hs;exact dU q
end
def ZO (C:ke)(ns:mX):b_->Hp->VK->Prop:=λvs H Q=>∃(e:ke) (xs:b_),vs=.ref e::xs/\xs.length=ns.length/\H e=some (.ext (XE e C none))/\
 ∀(H':Hp) (dd:ke) (fs:List (Str×V)),H' e=some (.ext (XE e C (some dd)))->H' dd=some (.ext (GJ dd fs))->H dd=none->dd≠e->(∀(i:Nat) n x,ns[i]? =some n->xs[i]? =some x->fs.lookup n=some x)->(∀b o,H b=some o->b≠e->H' b=some o)->Q .gS H'
structure XMk (K:au)(C N f:ke):Prop where
 cls:tM K C N
 ini:fj K N "__init__"=some (some (.ref f))
 fn:xr K (.ref f)=true
def R5 {K:au}{h:Heap}{N:ke}{m:sO}{n:Str}{v:jm}(k:K.In h)(G:h.Ns N m)(e:fj K N n=some (some v)):m n=some v:=by
 obtain⟨o,es,ep,ho,hd,_,hf⟩:=G;unfold fj at e;split at e
 .rename_i q;have z:=k _ _ q;rw[ho] at z;cases z;cases hd;split at e
  .rename_i en he;cases e;rw[<-hf];unfold nsFind;unfold findBy;rw[<-W2,he];rfl
  .split at e<;>cases e
 .cases e
section
variable{prog:bJ}{w:cz}{A:Around}{E:kc}{h:Heap}{g:Array AK}{dr:aam}{t:Nat}{os:SY}{C N fI:ke}
 {nm q:Str} {bs bm:gU} {sn:mX} {sub:gU} {ab:Bool} {col:Option Bool} {dd:Option ke} {k0 k1 k2 k3 k5:Option jm} {B newId yz:String} {mN:sO} {oI:Obj} {rest:gU}
abbrev pq (h:Heap)(C:ke):Obj:={cls:=.ref C,data:=.fields #[.ref h.objs.size,.none,.none,.none,.bool false,.none]}
abbrev rG (rest:gU):Obj:={cls:=.type "tuple",data:=.seq rest.toArray}
def adn (F:BO B newId yz bm){Q:Fin->aL->Prop}(hC:h.get? C=some (fW nm q C N bs bm true sn sub ab col dd k0 k1 k2 k3 k5 newId))(hn:h.Ns N mN)(hi:mN "__init__"=some (.ref fI))(hfI:h.get? fI=some oI)(hfc:oI.cls=.type "function")(hz:rest.length<=bu)
  (hq:bw (bA prog w) A (call (.ref fI) (.ref (h.objs.size+1)::rest)) (λr s'=>r=.none/\Q (.done (.ret (.ref (h.objs.size+1)))) s') E ⟨(h.push (rG rest)).push (pq h C),g,dr,t,os⟩):
  bw (bA prog w) A (Builtin.«type.__call__» ⟨.ref C::rest,[]⟩) Q E ⟨h,g,dr,t,os⟩:=by
 repeat (first|with_reducible refine bU hC ?_ |with_reducible refine amu hC ?_ |wp_step)
 refine Wk (Code.quiet_builtin _ F.quiet) (ahb F hC (aha F hC ?_ hz));have up:∀b ob,h.get? b=some ob->((h.push (rG rest)).push (pq h C)).get? b=some ob:=λb ob e=>Heap.get?_push_of_some _ (Heap.get?_push_of_some _ e);have gx:((h.push (rG rest)).push (pq h C)).get? (h.objs.size+1)=some (pq h C):=by
  have:=Heap.get?_push_size (h.push (rG rest)) (o:=pq h C) rfl
  rwa [Heap.size_push] at this
 have nj:(Value.ref C::bm).contains (.ref C)=true:=by simp
 show bw _ _ _ _ _ (⟨(h.push (rG rest)).push (pq h C),g,dr,t,os⟩:aL);unfold isInstance
 repeat (first|with_reducible refine bU gx ?_ |(with_reducible refine lE (up _ _ hC) ?_;rw[nj])|wp_step)
 show bw _ _ (kW (.ref C) _) _ _ _;refine iZ (up _ _ hC) (hn.keeps up) F.mroIs F.init.lookup ?_;rw[hi];refine mV (aR ?_);unfold bindSpecial;refine aR (wpAny_typeOf (T:="function") ⟨_,up _ _ hfI,hfc⟩ ?_);rw[aj (by decide)];refine bV (aR (dI hq (λr s' hr=>?_) λ_ _ z=>z));obtain⟨rfl,hQ⟩:=hr
 wp_walk
 exact hQ
def adm (F:BO B newId yz bm)(hC:h.get? C=some (fW nm q C N bs bm true sn sub ab col dd k0 k1 k2 k3 k5 newId))(hn:h.Ns N mN)(hi:mN "__init__"=some (.ref fI))(hfI:h.get? fI=some oI)(hfc:oI.cls=.type "function")(hz:rest.length<=bu)
  (hq:bw (bA prog w) (A.under (.builtin "type.__call__" ⟨.ref C::rest,[]⟩)) (call (.ref fI) (.ref (h.objs.size+1)::rest)) (λr s'=>r=.none/\Q (.ref (h.objs.size+1)) s') E ⟨(h.push (rG rest)).push (pq h C),g,dr,t,os⟩):
  bw (bA prog w) A (call (.ref C) rest) Q E ⟨h,g,dr,t,os⟩:=by
 have f1:=tc_lookup;have f2:=tc_bind (.ref C);have f3:(⟨h,g,dr,t,os⟩:aL).TypeIs (.ref C) "type":=⟨_,hC,Z⟩;refine BS (codeAny_of_tree ?_);show bw _ _ (callAny (.ref C) _) _ _ _
 repeat (any_goals (first|assumption|with_reducible refine bU hC ?_ |wp_step))
 exact⟨Z,aap (Code.quiet_builtin _ (by decide+kernel)) entry_typeCall (Wl hC (adn F hC hn hi hfI hfc hz hq))⟩
end
section
variable{X:Cx}{aA:jz}{σ:St}{H:Hp}{s:aL}{C N f:ke}{fd:eO}{ps:mX}{ns:mX}
def aeD {us:gU}{xs:b_}(M:XMk X.K C N f)(F:FnH X.prog X.w X.K X.mg X.lQ f fd ps (ZO C ns))(hr:xP 2 A)(hf:A.frames=some X.stack)(hb:Binds X.K fd ps [])(TX:ps.length=ns.length+1)
  (I:Inv X aA σ H s) (r:Vals xs us) (hl:xs.length=ns.length) (hz:us.length<=bu)
  (h:∀e dd fs H2 s',Inv X aA σ H2 s'->H2 e=none->s.heap.objs.size<=e->XE e C (some dd) s'.heap->H2 dd=some (.ext (GJ dd fs))->H dd=none->(∀(i:Nat) n x,ns[i]? =some n->xs[i]? =some x->fs.lookup n=some x)->aC H H2->Q (.ref e) s'):
  bw (bA X.prog X.w) A (call (.ref C) us) Q E s:=by
 obtain⟨nm,qn,bs,sn,sub,ab,col,WJ,k0,k1,k2,k3,k5,e0⟩:=M.cls.ex;have uD:=I.zf;have hC:=uD _ _ e0;have hi:s.heap.nsMap N "__init__"=some (.ref f):=R5 uD (M.cls.ns uD) M.ini;obtain⟨oI,lI,cI⟩:∃oI,X.K.lookup f=some oI/\oI.cls=.type "function":=by
  have z:=M.fn;unfold xr at z;have z:=beq_iff_eq.mp z;unfold abn at z;exact i5.mp z
 obtain⟨hp,g,dr,t,os⟩:=s;have up:∀b ob,hp.get? b=some ob->((hp.push (rG us)).push (pq hp C)).get? b=some ob:=λb ob e=>Heap.get?_push_of_some _ (Heap.get?_push_of_some _ e);have gx:((hp.push (rG us)).push (pq hp C)).get? (hp.objs.size+1)=some (pq hp C):=by
  have:=Heap.get?_push_size (hp.push (rG us)) (o:=pq hp C) rfl
  rwa [Heap.size_push] at this
 have WU:XE (hp.objs.size+1) C none ((hp.push (rG us)).push (pq hp C)):=⟨_,_,gx,Z,Z,Z,Z,Z,Z⟩;have I1:Inv X aA σ (upd H (hp.objs.size+1) (.ext (XE (hp.objs.size+1) C none))) ⟨(hp.push (rG us)).push (pq hp C),g,dr,t,os⟩:=
  I.laid (a:=hp.objs.size+1) (t':=t) up (jt _) (aaa WU)
 have fr:H (hp.objs.size+1)=none:=I.fV.fresh (jt _);refine adm m6 hC (M.cls.ns uD) hi (uD _ _ lI) cI hz ?_;have r2:Vals (V.ref (hp.objs.size+1)::xs) (Value.ref (hp.objs.size+1)::us):=.cons rfl r;have RQ:(Value.ref (hp.objs.size+1)::us++[]).length=ps.length:=by rw[fX,aZ,<-r.length,hl,TX]
 have e1:Kb X.prog X.w X.K X.mg X.lQ A X.stack ⟨(hp.push (rG us)).push (pq hp C),g,dr,t,os⟩ (upd H (hp.objs.size+1) (.ext (XE (hp.objs.size+1) C none))):=
  ⟨hf,I1.jx.mod,I1.jx.bs,I1.jx.QX,I1.jx.yw,I1.jx.QE,I1.jx.fV,I1.jx.bare⟩
 refine BS (BQ (F _ X.stack _ _ ⟨Value.ref (hp.objs.size+1)::us,[]⟩ (Value.ref (hp.objs.size+1)::us++[]) (V.ref (hp.objs.size+1)::xs) (λv H'=>v=.gS/\∃dd fs,H' (hp.objs.size+1)=some (.ext (XE (hp.objs.size+1) C (some dd)))/\H' dd=some (.ext (GJ dd fs))/\H dd=none/\dd≠hp.objs.size+1/\(∀(i:Nat) n x,ns[i]? =some n->xs[i]? =some x->fs.lookup n=some x)/\∀b o,H b=some o->H' b=some o)
  (hr.make C us []) (e1.make C us []) (hb _ _ I1.zf RQ) (by rw[fX];exact r2) ⟨_,xs,Z,hl,aq,λH' dd fs a1 a2 a3 a4 a5 a6=>⟨Z,dd,fs,a1,a2,?_,a4,a5,λb o e=>?_⟩⟩) λrr s' hq=>?_)
 .rw[aF a4] at a3;exact a3
 .have hbe:b≠hp.objs.size+1:=aI e fr;exact a6 b o (by rw[aF hbe];exact e) hbe
 .cases rr with
  |error e=>exact dU hq
  |ok fl=>
   cases fl with
   |ret u=>
    obtain⟨v,H',I3,rv,ev,dd,fs,a1,a2,a3,a4,a5,a6⟩:=I1.after hq;subst ev;refine⟨rv,h _ dd fs (del H' (hp.objs.size+1)) s' (I3.forget a1 ?_) OV (jt _) (vX I3.fV a1) (by rw[vV a4];exact a2) a3 a5 λb o e=>?_⟩
    .exact bt I.sz (jt _)
    .rw[vV (aI e fr)];exact a6 b o e
   |next=>exact dU hq
   |brk=>exact dU hq
   |cont=>exact dU hq
end
open PySem PySem.Spec PyProof.Rows
def Ku:entryFor table "proto.unchain"=some Builtin.«proto.unchain»:=entryFor_of_tree (by kernel_rfl)
inductive Rx (E:kc)(C:ke)(oC:Obj)(v:jm)(s:aL):Prop|i e oe vs(_:v=.ref e)(_:s.heap.get? C=some oC)(_:s.heap.get? e=some oe)(_:oe.cls=.ref C)(_:oe.data=.fields vs)(_:vs[1]? =some .none)(_:E (.ref e) s)
inductive Rh (E:kc)(a C:ke)(oC:Obj)(v:jm)(s:aL):Prop|i e oe vs oa va(_:v=.ref e)(_:s.heap.get? C=some oC)(_:s.heap.get? e=some oe)(_:oe.cls=.ref C)(_:oe.data=.fields vs)(_:vs.size=6)(_:vs[1]? =some .none)
  (_:e≠a) (_:e≠C) (_:s.heap.get? a=some oa) (_:oa.data=.fields va) (_:va[2]? =some .none)
  (_:∀h' o' NT,(∀b,b≠e->h'.get? b=s.heap.get? b)->h'.get? e=some o'->o'.cls=oe.cls->o'.dict=oe.dict->o'.data=.fields NT->NT.size=6->NT[1]? =some .none->E (.ref e) {s with heap:=h'})
section
variable{prog:bJ}{w:cz}{A:Around}{E:kc}{s:aL}{env:Env}{C N:ke}
 {nm q:Str} {bs bm:gU} {sn:mX} {sub:gU} {ab:Bool} {col:Option Bool} {dd:Option ke} {k0 k1 k2 k3 k5:Option jm} {newId:String}
def Sk {α:Type}{Q:α->aL->Prop}{e:ke}{oa:Obj}{vs va:Array jm}(hh:A.handled=some (.ref a))(Ud:e≠a)(he:s.heap.get? e=some oe)(hd:oe.data=.fields vs)(hsz:2<vs.size)(ha:s.heap.get? a=some oa)(hda:oa.data=.fields va)(Bi:va[2]? =some .none)
  (hE:E (.ref e) {s with heap:=s.heap.update e (Obj.mapFields (·.setIfInBounds 2 (.ref a)))}):bw (bA prog w) A (raiseNew (.ref e):Sem α) Q E s:=by
 unfold raiseNew;refine aR (wpAny_handled ?_);rw[hh];dsimp only;rw[aj (show(Value.ref a !=Value.ref e)=true by simpa usingλz=>Ud z.symm)];refine aR (mV (wpAny_runValue (codeAny_builtin Ku ?_)));unfold Builtin.«proto.unchain»;refine aR (mq ha hda Bi ?_);rw[aj (by decide)]
 wp_walk
 rw[hd];dsimp only;rw[aj hsz];exact W0 he (wpAny_throw hE)
def Uo {x:Sem jm}{Q:Flow->aL->Prop}(hb:bm.contains (.type "BaseException")=true)(hh:A.handled=none)
  (h:bw (bA prog w) A x (Rx E C (fW nm q C N bs bm true sn sub ab col dd k0 k1 k2 k3 k5 newId)) E s):
  bw (bA prog w) A (aaq env (some x) none) Q E s:=by
 have hcB:(Value.ref C::bm).contains (.type "BaseException")=true:=by rw[Ez,hb,GG]
 unfold aaq;refine aR (dI h ?_ λ_ _ z=>z);rintro _ ip ⟨e,oe,vs,rfl,hC,he,hc,hd,h1,hE⟩;obtain⟨hp,g,dr,tk,os⟩:=ip;have f1:(⟨hp,g,dr,tk,os⟩:aL).TypeIs (.ref C) "type":=⟨_,hC,Z⟩;unfold GD
 repeat (first|(with_reducible refine bU he ?_;rw[hc])|with_reducible refine bU hC ?_ |(with_reducible refine lE hC ?_;rw[hcB])|with_reducible refine mq he hd h1 ?_ |wp_step)
 exact wpAny_raiseNew_none hh hE
def Um {x c:Sem jm}{Q:Flow->aL->Prop}(hb:bm.contains (.type "BaseException")=true)(hh:A.handled=some (.ref a))(hc0:∀(Q:kc) s,Q .none s->bw (bA prog w) A c Q E s)
  (h:bw (bA prog w) A x (Rh E a C (fW nm q C N bs bm true sn sub ab col dd k0 k1 k2 k3 k5 newId)) E s):
  bw (bA prog w) A (aaq env (some x) (some c)) Q E s:=by
 have hcB:(Value.ref C::bm).contains (.type "BaseException")=true:=by rw[Ez,hb,GG]
 unfold aaq;refine aR (dI h ?_ λ_ _ z=>z);rintro _ ip ⟨e,oe,vs,oa,va,rfl,hC,he,hc,hd,hsz,h1,Ud,VH,ha,hda,Bi,hE⟩;obtain⟨hp,g,dr,tk,os⟩:=ip;obtain⟨k1,o1,j1,c1,d1,e1⟩:=wB he hd 3 Value.none;obtain⟨k2,o2,j2,c2,d2,e2⟩:=wB j1 e1 4 (Value.bool true);obtain⟨k3',o3,j3,c3,d3,e3⟩:=wB j2 e2 2 (Value.ref a);refine aR (mV (hc0 _ _ (aR (bV ?_))));dsimp only;refine aR (mV ?_);unfold excFromValue
 repeat (first|(with_reducible refine bU he ?_;rw[hc])|with_reducible refine bU hC ?_ |(with_reducible refine lE hC ?_;rw[hcB])|wp_step)
 rw[hd];dsimp only;rw[aj (by lia)];refine W0 he (aR (xj j1 e1 (by rw[oE];lia) ?_));have hC2:=((k2 C (eK VH)).trans (k1 C (eK VH))).trans hC;have ai3:=((k2 a (eK Ud)).trans (k1 a (eK Ud))).trans ha;have hc2:o2.cls=.ref C:=(c2.trans c1).trans hc;have g1:((vs.setIfInBounds 3 Value.none).setIfInBounds 4 (Value.bool true))[1]? =some .none:=by
  rw[eW (by decide),eW (by decide)];exact h1
 generalize(hp.update e (Obj.mapFields λx=>x.setIfInBounds 3 Value.none)).update e (Obj.mapFields λx=>x.setIfInBounds 4 (Value.bool true))=hq at hC2 ai3 j2 j3 k3' k2|-
 have f1:(⟨hq,g,dr,tk,os⟩:aL).TypeIs (.ref C) "type":=⟨_,hC2,Z⟩;unfold GD
 repeat (first|(with_reducible refine bU j2 ?_;rw[hc2])|with_reducible refine bU hC2 ?_ |with_reducible refine mq j2 e2 g1 ?_ |wp_step)
 refine Sk hh Ud j2 e2 (by rw[oE,oE];lia) ai3 hda Bi ?_;refine hE _ o3 _ (λb hb=>((k3' b hb).trans (k2 b hb)).trans (k1 b hb)) j3 ((c3.trans c2).trans c1) ((d3.trans d2).trans d1) e3 (by simp[hsz]) ?_;rw[eW (by decide)];exact g1
end
section
variable{prog:bJ}{w:cz}{A:Around}{E:kc}{h:Heap}{g:Array AK}{dr:aam}{t:Nat}{os:SY}{C N:ke}
 {nm q:Str} {bs bm:gU} {sn:mX} {sub:gU} {ab:Bool} {col:Option Bool} {dd:Option ke} {k0 k1 k2 k3 k5:Option jm} {B newId yz:String} {mN:sO}
def aad (F:BO B newId yz bm){Q:Fin->aL->Prop}(hC:h.get? C=some (fW nm q C N bs bm true sn sub ab col dd k0 k1 k2 k3 k5 newId))(hn:h.Ns N mN)(hi:mN "__init__"=none)
  (hq:∀h' o' vs,h'.get? (h.objs.size+1)=some o'->o'.cls=.ref C->o'.dict=none->o'.data=.fields vs->vs.size=6->vs[1]? =some .none->vs[2]? =some .none->(∀b ob,h.get? b=some ob->h'.get? b=some ob)->Q (.done (.ret (.ref (h.objs.size+1)))) ⟨h',g,dr,t,os⟩):
  bw (bA prog w) A (Builtin.«type.__call__» ⟨[.ref C],[]⟩) Q E ⟨h,g,dr,t,os⟩:=by
 repeat (first|with_reducible refine bU hC ?_ |with_reducible refine amu hC ?_ |wp_step)
 refine Wk (Code.quiet_builtin _ F.quiet) (ahb F hC (aha F hC ?_ (eU _)));have up:∀b ob,h.get? b=some ob->((h.push (rG [])).push (pq h C)).get? b=some ob:=λb ob e=>Heap.get?_push_of_some _ (Heap.get?_push_of_some _ e);have gx:((h.push (rG [])).push (pq h C)).get? (h.objs.size+1)=some (pq h C):=by
  have:=Heap.get?_push_size (h.push (rG [])) (o:=pq h C) rfl
  rwa [Heap.size_push] at this
 have nj:(Value.ref C::bm).contains (.ref C)=true:=by simp
 show bw _ _ _ _ _ (⟨(h.push (rG [])).push (pq h C),g,dr,t,os⟩:aL);unfold isInstance
 repeat (first|with_reducible refine bU gx ?_ |(with_reducible refine lE (up _ _ hC) ?_;rw[nj])|wp_step)
 show bw _ _ (kW (.ref C) _) _ _ _;refine iZ (up _ _ hC) (hn.keeps up) F.mroIs F.init.lookup ?_;rw[hi];refine mV (aR (wpAny_of_eq (F.init.bind _) (aR (JO F (up _ _ hC) gx rfl rfl rfl λh' o' z a1 a2 a3 a4 a5=>?_))));have fin:=hq h' o' _ a1 a2 a3 a4 rfl rfl rfl λb ob e=>a5 b ob (λz=>bX _ (a_ (Heap.lt_size e) (z ▸ jt _))) (up b ob e)
 wp_walk
 exact fin
def QA (F:BO B newId yz bm)(hC:h.get? C=some (fW nm q C N bs bm true sn sub ab col dd k0 k1 k2 k3 k5 newId))(hn:h.Ns N mN)(hi:mN "__init__"=none)
  (hq:∀h' o' vs,h'.get? (h.objs.size+1)=some o'->o'.cls=.ref C->o'.dict=none->o'.data=.fields vs->vs.size=6->vs[1]? =some .none->vs[2]? =some .none->(∀b ob,h.get? b=some ob->h'.get? b=some ob)->Q (.ref (h.objs.size+1)) ⟨h',g,dr,t,os⟩):
  bw (bA prog w) A (call (.ref C) []) Q E ⟨h,g,dr,t,os⟩:=by
 have f1:=tc_lookup;have f2:=tc_bind (.ref C);have f3:(⟨h,g,dr,t,os⟩:aL).TypeIs (.ref C) "type":=⟨_,hC,Z⟩;refine BS (codeAny_of_tree ?_);show bw _ _ (callAny (.ref C) _) _ _ _
 repeat (any_goals (first|assumption|with_reducible refine bU hC ?_ |wp_step))
 exact⟨Z,aap (Code.quiet_builtin _ (by decide+kernel)) entry_typeCall (Wl hC (aad F hC hn hi λh' o' vs a1 a2 a3 a4 a5 a6 a7 a8=>hq h' o' vs a1 a2 a3 a4 a5 a6 a7 a8))⟩
end
open PySem PySem.Spec PyProof.Rows
def u7:bmE.contains (.type "BaseException")=true:=PySem.F.excBase_Exception.hasBase
def Given (ns:mX)(xs:b_)(fs:List (Str×V)):Prop:=∀(i:Nat) n x,ns[i]? =some n->xs[i]? =some x->fs.lookup n=some x
def ade (C:ke)(ns:mX)(Ex:XK)(t:TA):TS:=λ_ σ H=>t σ H λxs H1=>xs.length=ns.length/\∀dd fs H2,H2 dd=some (.ext (GJ dd fs))->Given ns xs fs->aC H1 H2->Ex (.ref C) (some dd) H2
def adb (C:ke)(Ex:XK):TS:=λ_ σ H=>∀H2,aC H H2->Ex (.ref C) none H2
section
variable{X:Cx}{Mf C N f:ke}{fd:eO}{ps:mX}{ns:mX}{Ex:XK}{x:Str}{np lj cN:Pos}{e:Expr}{es:FD}{t:TA}
def TC {aA:jz}{σ:St}{ea:ke}(hn:H ea=none)(hl:lo<=ea)(h:XE ea C d s.heap):Fy Mf H lo s.heap ea (.ref C) d false:=by
 obtain⟨oe,vs,z1,z2,z3,z4,z5,z6,z7⟩:=h;exact⟨hn,hl,oe,vs,z1,z2,z3,z4,z5,λ_=>z7,.inl ⟨Z,z6⟩⟩
def jB (hX:Raises X Mf Ex)(hc:X.calm=true)(M:XMk X.K C N f)(F:FnH X.prog X.w X.K X.mg X.lQ f fd ps (ZO C ns))(hr:xP 2 X.A)(hb:Binds X.K fd ps [])(TX:ps.length=ns.length+1)(hg:Gl X x)(hm:X.mg x=some (.ref C))
  (ha:PA X (e::es) t) (hsm:ns.length<=1000) (D6:autoParam (DD x) Z_d) (he:autoParam (Su X e es) Z_r) (ou:autoParam ((m9 lj (dv es X.env)).any (·.1)=false) Z_r):
  PS X (.Raise (some (.Call (.Name x np) (e::es) [] lj)) none cN) (ade C ns Ex t):=by
 intro aA s σ H D I h;obtain⟨nm,qn,bs,sn,sub,ab,col,WJ,k0,k1,k2,k3,k5,e0⟩:=M.cls.ex;rw[Fv];refine aR (fG (Uo u7 (I.ok.hd hc) (C:=C) (N:=N) (nm:=nm) (q:=qn) (bs:=bs) (sn:=sn) (sub:=sub) (ab:=ab) (col:=col) (dd:=WJ) (k0:=k0) (k1:=k1) (k2:=k2) (k3:=k3) (k5:=k5) (newId:="Exception.__new__") ?_));refine aR (fC (rV I hg hm ?_ D6));refine lg (h₀:=X.lQ) I.ok.mod.uD M.cls.kp (je (ha lj aA s σ H _ I h) λus s1 ⟨xs,H1,I1,r,hl,q⟩=>⟨I1.zf,?_⟩) he ou;refine aeD M F hr I1.ok.frames hb TX I1 r hl (by show us.length<=bu;rw[<-r.length,hl,aE];lia) λea dd fs H2 s' I2 a1 a2 a3 a4 a5 a6 a7=>?_;refine aR (fG (bV ?_));have hE:=hX aA σ H2 s' s1.heap.objs.size ea (.ref C) (some dd) false I2 (λp hp=>Heap.lt_size (I1.pin p hp).1) I1.sz (TC (aA:=aA) (σ:=σ) a1 a2 a3) (q dd fs H2 a4 a6 a7);obtain⟨oe,vs,z1,z2,z3,z4,z5,z6,z7⟩:=a3;exact⟨ea,oe,vs,Z,I2.zf _ _ e0,z1,z2,z4,z6,hE⟩
def vk (hX:Raises X Mf Ex)(hc:X.calm=true)(c:tM X.K C N)(hni:fj X.K N "__init__"=some none)(hg:Gl X x)(hm:X.mg x=some (.ref C))(D6:autoParam (DD x) Z_d):
  PS X (.Raise (some (.Call (.Name x np) [] [] lj)) none cN) (adb C Ex):=by
 intro aA s σ H D I h;obtain⟨nm,qn,bs,sn,sub,ab,col,WJ,k0,k1,k2,k3,k5,e0⟩:=c.ex;rw[Fv];refine aR (fG (Uo u7 (I.ok.hd hc) (C:=C) (N:=N) (nm:=nm) (q:=qn) (bs:=bs) (sn:=sn) (sub:=sub) (ab:=ab) (col:=col) (dd:=WJ) (k0:=k0) (k1:=k1) (k2:=k2) (k3:=k3) (k5:=k5) (newId:="Exception.__new__") ?_));refine aR (fC (rV I hg hm ?_ D6));refine rZ I.zf c.kp ?_;have uD:=I.zf;obtain⟨hp,g,dr,tk,os⟩:=s;refine QA m6 (uD _ _ e0) (c.ns uD) (c.no uD hni) λh' o' vs a1 a2 a3 a4 a5 a6 a7 a8=>?_;refine aR (fG (bV ?_));have I2:=I.kept (h':=h') (t':=tk) a8;exact⟨_,o',vs,Z,I2.zf _ _ e0,a1,a2,a4,a6,hX aA σ H _ hp.objs.size _ (.ref C) none false I2 (λp hp=>Heap.lt_size (I.pin p hp).1) I.sz
  (TC (aA:=aA) (σ:=σ) (I.fV.fresh (jt _)) (jt _) ⟨o',vs,a1,a2,a3,a4,a5,a6,a7⟩) (h H λ_ _ z=>z)⟩
def XH (Mf a C:ke)(d:Option ke):Heap->Prop:=λh=>∃oe vs,h.get? a=some oe/\oe.cls=.ref C/\oe.dict=d/\oe.data=.fields vs/\(C=Mf->vs[2]? =some .none)
def akY {P:bJ}{w:cz}{h:Heap}(x:XH Mf a C d h):ju P w H h a (.ext (XH Mf a C d)):=by
 obtain⟨oe,vs,z,r⟩:=id x;exact⟨x,⟨oe,z⟩,λh1 h2 ⟨o1,v1,q,r1⟩ k=>⟨o1,v1,k _ q,r1⟩⟩
def Z2 (Mf C:ke)(ns:mX)(Ex:XK)(a:ke)(t:TA):TS:=λ_ σ H=>t σ H λxs H1=>(∃d,H1 a=some (.ext (XH Mf a Mf d)))/\xs.length=ns.length/\∀dd fs H2,H2 dd=some (.ext (GJ dd fs))->Given ns xs fs->aC H1 H2->Ex (.ref C) (some dd) H2
def Z1 (Mf C:ke)(Ex:XK)(a:ke):TS:=λ_ σ H=>(∃d,H a=some (.ext (XH Mf a Mf d)))/\∀H2,aC H H2->Ex (.ref C) none H2
def Ik {ea:ke}{o':Obj}{NT:Array jm}(hn:H ea=none)(hl:lo<=ea)(GQ:C≠Mf)(e1:h'.get? ea=some o')(e2:o'.cls=.ref C)(e3:o'.dict=d)(e4:o'.data=.fields NT)(e5:NT.size=6)(e6:NT[1]? =some .none):
  Fy Mf H lo h' ea (.ref C) d false:=⟨hn,hl,o',NT,e1,e2,e3,e4,e5,λz=>absurd (Value.ref.inj z) GQ,.inl ⟨Z,e6⟩⟩
def Pp {σ:St}{ea:ke}{vs:Array jm}(I:Inv X aA σ H s)(hp:∀p∈X.pn++aA,p.1≠ea)(lu:X.s_0.heap.objs.size<=ea)(hn:H ea=none)(e1:s.heap.get? ea=some oe)(e2:oe.data=.fields vs)
  (k:∀b,b≠ea->h'.get? b=s.heap.get? b):Inv X aA σ H {s with heap:=h'}:=by
 obtain⟨n1,n2⟩:=I.Zl e1 e2;exact I.turned (t':=s.toks) (λb o hb q=>(k b hb).trans q) hn n1 (.inr lu) n2 hp
def Sf {a:ke}{kj kp':_}(hX:Raises X Mf Ex)(hh:X.A.handled=some (.ref a))(GQ:C≠Mf)(M:XMk X.K C N f)(F:FnH X.prog X.w X.K X.mg X.lQ f fd ps (ZO C ns))(hr:xP 2 X.A)(hb:Binds X.K fd ps [])(TX:ps.length=ns.length+1)(hg:Gl X x)(hm:X.mg x=some (.ref C))
  (ha:PA X (e::es) t) (hsm:ns.length<=1000) (D6:autoParam (DD x) Z_d) (he:autoParam (Su X e es) Z_r) (ou:autoParam ((m9 lj (dv es X.env)).any (·.1)=false) Z_r):
  PS X (.Raise (some (.Call (.Name x np) (e::es) [] lj)) (some (.Constant .none kj kp')) cN) (Z2 Mf C ns Ex a t):=by
 intro aA s σ H D I h;obtain⟨nm,qn,bs,sn,sub,ab,col,WJ,k0,k1,k2,k3,k5,e0⟩:=M.cls.ex;rw[Fv];refine aR (fG (Um (a:=a) u7 hh (C:=C) (N:=N) (nm:=nm) (q:=qn) (bs:=bs) (sn:=sn) (sub:=sub) (ab:=ab) (col:=col) (dd:=WJ) (k0:=k0) (k1:=k1) (k2:=k2) (k3:=k3) (k5:=k5) (newId:="Exception.__new__") (λQ s hQ=>aR (JQ (aR (fG (bV hQ))))) ?_));refine aR (fC (rV I hg hm ?_ D6));refine lg (h₀:=X.lQ) I.ok.mod.uD M.cls.kp (je (ha lj aA s σ H _ I h) λus s1 ⟨xs,H1,I1,r,⟨dm,hm1⟩,hl,q⟩=>⟨I1.zf,?_⟩) he ou;refine aeD M F hr I1.ok.frames hb TX I1 r hl (by show us.length<=bu;rw[<-r.length,hl,aE];lia) λea dd fs H2 s' I2 a1 a2 a3 a4 a5 a6 a7=>?_;refine aR (fG (bV ?_));obtain⟨oa,va,y1,y2,y3,y4,y5⟩:=vX I2.fV (a7 _ _ hm1);obtain⟨oe,vs,z1,z2,z3,z4,z5,z6,z7⟩:=a3;have Ud:ea≠a:=λz=>by rw[z,a7 _ _ hm1] at a1;cases a1
 have VH:ea≠C:=λz=>by rw[z,I2.zf _ _ e0] at z1;cases z1;cases z4
 have pn:∀p∈X.pn++aA,p.1<s1.heap.objs.size:=λp hp=>Heap.lt_size (I1.pin p hp).1;refine⟨ea,oe,vs,oa,va,Z,I2.zf _ _ e0,z1,z2,z4,z5,z6,Ud,VH,y1,y4,y5 rfl,λh' o' NT b1 b2 b3 b4 b5 b6 b7=>?_⟩;have I3:=Pp I2 (λp hp=>cH (a_ (pn p hp) a2)) (bt I1.sz a2) a1 z1 z4 b1;exact hX aA σ H2 _ s1.heap.objs.size ea (.ref C) (some dd) false I3 pn I1.sz (Ik a1 a2 GQ b2 (b3.trans z2) (b4.trans z3) b5 b6 b7) (q dd fs H2 a4 a6 a7)
def Se {a:ke}{kj kp':_}(hX:Raises X Mf Ex)(hh:X.A.handled=some (.ref a))(GQ:C≠Mf)(c:tM X.K C N)(hni:fj X.K N "__init__"=some none)(hg:Gl X x)(hm:X.mg x=some (.ref C))(D6:autoParam (DD x) Z_d):
  PS X (.Raise (some (.Call (.Name x np) [] [] lj)) (some (.Constant .none kj kp')) cN) (Z1 Mf C Ex a):=by
 intro aA s σ H D I h;obtain⟨⟨dm,hm1⟩,h⟩:=h;obtain⟨nm,qn,bs,sn,sub,ab,col,WJ,k0,k1,k2,k3,k5,e0⟩:=c.ex;rw[Fv];refine aR (fG (Um (a:=a) u7 hh (C:=C) (N:=N) (nm:=nm) (q:=qn) (bs:=bs) (sn:=sn) (sub:=sub) (ab:=ab) (col:=col) (dd:=WJ) (k0:=k0) (k1:=k1) (k2:=k2) (k3:=k3) (k5:=k5) (newId:="Exception.__new__") (λQ s hQ=>aR (JQ (aR (fG (bV hQ))))) ?_));refine aR (fC (rV I hg hm ?_ D6));refine rZ I.zf c.kp ?_;have uD:=I.zf;obtain⟨hp,g,dr,tk,os⟩:=s;refine QA m6 (uD _ _ e0) (c.ns uD) (c.no uD hni) λh' o' vs a1 a2 a3 a4 a5 a6 a7 a8=>?_;refine aR (fG (bV ?_));have I2:=I.kept (h':=h') (t':=tk) a8;have fr:H (hp.objs.size+1)=none:=I.fV.fresh (jt _);obtain⟨oa,va,y1,y2,y3,y4,y5⟩:=vX I2.fV hm1;have Ud:hp.objs.size+1≠a:=λz=>by rw[z,hm1] at fr;cases fr
 have VH:hp.objs.size+1≠C:=λz=>by rw[z,I2.zf _ _ e0] at a1;cases a1;cases a4
 have pn:∀p∈X.pn++aA,p.1<hp.objs.size:=λp hp=>Heap.lt_size (I.pin p hp).1;refine⟨_,o',vs,oa,va,Z,I2.zf _ _ e0,a1,a2,a4,a5,a6,Ud,VH,y1,y4,y5 rfl,λh2 o2 vs2 b1 b2 b3 b4 b5 b6 b7=>?_⟩;have I3:=Pp I2 (λp hp=>cH (a_ (pn p hp) (jt _))) (bt I.sz (jt _)) fr a1 a4 b1;exact hX aA σ H _ hp.objs.size _ (.ref C) none false I3 pn I.sz (Ik fr (jt _) GQ b2 (b3.trans a2) (b4.trans a3) b5 b6 b7) (h H λ_ _ z=>z)
inductive XFp (K:au)(Mf:ke)(f:Str)(Q:VK)(x:V)(H1:Hp):Prop|i a C N dd fs v(_:x=.ref a)(_:tM K C N)(_:Oq K N f)(_:H1 a=some (.ext (XH Mf a C (some dd))))(_:H1 dd=some (.ext (GJ dd fs)))(_:fs.lookup f=some v)(_:Q v H1)
def akU (K:au)(Mf:ke)(ta:TE)(f:Str):TE:=λσ H Q=>ta σ H (XFp K Mf f Q)
def Nv {e:Expr}{f:Str}{ta:TE}(he:PE X e ta)(hb:mT e f X.env (eval e X.env)=eval e X.env):PE X (.Attribute e f cN) (akU X.K Mf ta f):=by
 intro aA s σ H Q I h;refine Tj hb (je (he aA s σ H _ I h) ?_);rintro u s1 ⟨x,H1,I1,rx,a,C,N,dd,fs,v,rfl,c,n,h1,h2,l,q⟩;obtain rfl:u=Value.ref a:=rx;obtain⟨nm,qn,bs,sn,sub,ab,col,WJ,k0,k1,k2,k3,k5,e0⟩:=c.ex;have uD:=I1.zf;obtain⟨oe,vs,z1,z2,z3,z4,z5⟩:=vX I1.fV h1;obtain⟨mA,m1,m2,m3⟩:=vX I1.fV h2;obtain⟨u,hu,ru⟩:=uu.some_of (v:=v) (o:=mA f) (by rw[<-l];exact m2 f);obtain⟨hp,g,dr,tk,os⟩:=s1;exact adl PySem.F.attrBase_Exception (uD _ _ e0) (c.ns uD) (c.no uD c.ga) (c.no uD c.gh) (c.no uD n.own) n.lQ z1 z2 z4 z3 m1 hu (PySem.W.handedOut_of (Lv ru)) ⟨v,H1,I1.tok _,ru,q⟩
end
open PySem PySem.Spec PyProof.Rows
section
variable{M:Model}{A:Around}{E:kc}{h:Heap}{g:Array AK}{dr:aam}{t:Nat}{os:SY}{C N C' N':ke}
 {nm q nm' q':Str} {bs bm bs' bm':gU} {sn sn':mX} {sub akL:gU} {ab ab':Bool} {col aiC:Option Bool} {dd dd':Option ke} {k0 k1 k2 k3 k5 k0' k1' k2' k3' k5':Option jm} {newId af8:String}
def LJ {e:ke}{Q:Bool->aL->Prop}{b:Bool}(hC:h.get? C=some (fW nm q C N bs bm true sn sub ab col dd k0 k1 k2 k3 k5 newId))(hC':h.get? C'=some (fW nm' q' C' N' bs' bm' true sn' akL ab' aiC dd' k0' k1' k2' k3' k5' af8))
  (he:h.get? e=some oe) (afw:oe.cls=.ref C) (hb:bm'.contains (.type "BaseException")=true) (hbc:(Value.ref C::bm).contains (.ref C')=b) (hq:Q b ⟨h,g,dr,t,os⟩):bw M A (excMatches (.ref e) (.ref C')) Q E ⟨h,g,dr,t,os⟩:=by
 have hcB:(Value.ref C'::bm').contains (.type "BaseException")=true:=by rw[Ez,hb,GG]
 have f:=tc_notTuple;have f1:(⟨h,g,dr,t,os⟩:aL).TypeIs (.ref C') "type":=⟨_,hC',Z⟩;unfold excMatches
 repeat (first|(with_reducible refine bU he ?_;rw[afw])|with_reducible refine bU hC' ?_ |(with_reducible refine lE hC' ?_;rw[hcB])|(with_reducible refine lE hC ?_;rw[hbc])|wp_step)
 cases b<;>(wp_walk;exact hq)
end
def o9 (X:Cx):St:=aM X.N.length none
def IW {i:Nat}{v:V}(h:(o9 X)[i]? =some (some v)):False:=by
 unfold o9 at h;rw[pH] at h;split at h<;>cases h
section
variable{X:Cx}{aA:jz}{σ:St}{H:Hp}{s:aL}
def Inv.aeA (I:Inv X aA σ H s):Inv X aA (o9 X) H s:=I.weak (by unfold o9;rw[ic,I.len]) λi v e=>(IW e).elim
def Inv.renamed {m':sO}{t':Nat}(I:Inv X aA σ H s)(hn:h'.Ns X.env.locals m')(sb:Heap.SameBut X.env.locals s.heap h'):Inv X aA (o9 X) H {s with heap:=h',toks:=t'}:=by
 obtain⟨m0,⟨oL,esL,epL,hoL,hdL,_⟩,_⟩:=id I.loc;have low:∀b o,X.s_0.heap.get? b=some o->b≠X.env.locals:=λb o e=>cH (a_ (Heap.lt_size e) I.ok.above);refine⟨I.ok,I.os,I.bare,⟨λb o e n hb hx=>(sb.2 b (low b o e)).trans (I.lQ.keep b o e n hb hx),λb o e n hb hx=>?_,I.lQ.free,λb o e hx=>?_,I.lQ.tups,I.lQ.frzs,I.lQ.tbls⟩,⟨m',hn,λi x v _ e _=>(IW e).elim⟩,λx c e=>?_,I.free,I.pP,λp hp=>?_,λb u e=>?_,by unfold o9;rw[ic]⟩
 .obtain⟨sl,z⟩:=I.lQ.slot b o e n hb hx;exact⟨sl,(sb.2 b (low b o e)).trans z⟩
 .obtain⟨o',z⟩:=I.lQ.there b o e hx;exact⟨o',(sb.2 b (low b o e)).trans z⟩
 .obtain⟨v,z⟩:=I.cell x c e;exact⟨v,z.sameBut sb (I.cne x c e)⟩
 .obtain⟨e,n,ne,r⟩:=I.pin p hp;exact⟨(sb.2 p.1 ne).trans e,n,ne,r⟩
 .refine(I.fV b u e).Ac (λc v hc q=>(sb.2 c λz=>?_).trans q) (λ_ q=>q) λ_ _ q=>q;rcases hc with y|y
  .rw[<-y,z,I.free] at e;cases e
  .rw[z,I.free] at y;cases y
def CB {M:Model}{n:Str}{Q:Unit->aL->Prop}(I:Inv X aA σ H s)(hl:X.env.scope.names.lookup n=some .local)
  (h:∀s',Inv X aA (o9 X) H s'->s'.heap.objs.size=s.heap.objs.size->Heap.SameBut X.env.locals s.heap s'.heap->Q () s'):bw M A (do aeF X.env n .none;ub X.env n cN) Q E s:=by
 obtain⟨m,hn,_⟩:=I.loc;refine wpAny_nameGoes (m:=m) hl hn (by rw[I.ok.kind];rfl) λh' m' hn' sb=>?_;exact h _ (I.renamed (t':=s.toks+1) hn' sb) sb.1 sb
def Fy.same {h:Heap}{e L:ke}{C:jm}{wt:Bool}{oL:Obj}(F:Fy Mf H lo h e C d wt)(sb:Heap.SameBut L h h')(hL:h.get? L=some oL)(dL:∀vs,oL.data≠.fields vs):Fy Mf H lo h' e C d wt:=by
 obtain⟨a1,a2,oe,vs,a3,a4,a5,a6,a7,a8,tr⟩:=F;have ne:∀{b o ws},h.get? b=some o->o.data=.fields ws->b≠L:=λ{b o ws} q w z=>by rw[z,hL] at q;cases q;exact dL _ w
 refine⟨a1,a2,oe,vs,(sb.2 e (ne a3 a6)).trans a3,a4,a5,a6,a7,a8,?_⟩;rcases tr with z|⟨T,oT,ts,b1,b2,b3,b4,b5,b6,b7⟩
 .exact .inl z
 .exact .inr ⟨T,oT,ts,b1,b2,b3,b4,(sb.2 T (ne b5 b6)).trans b5,b6,b7⟩
end
section
variable{X:Cx}{aA:jz}{σ:St}{H:Hp}{s:aL}{Mf:ke}{Ex:XK}{lo:Nat}{e L C C' N N':ke}{d:Option ke}{jx:Env}{uH:List Env}{x:Str}{np rT:Pos}{D:Ends}{rest:List tN}{name:Option Str}{aet:List Stmt}
abbrev rn (X:Cx)(A':Around):kc:=GB (bA X.prog X.w) A' X.env (BP (bA X.prog X.w) X.A X.env X.xe)
def Q0 (I:Inv X aA σ H s)(hp:∀p∈X.pn++aA,p.1<lo)(lu:X.s_0.heap.objs.size<=lo)(F:Fy Mf H lo s.heap e (.ref C) d true)
  (h:∀h',Inv X aA σ H {s with heap:=h'}->Fy Mf H lo h' e (.ref C) d true->E (.ref e) {s with heap:=h'}):BP (bA X.prog X.w) A X.env E (.ref e) s:=by
 unfold BP;refine aR (Ii F λT=>?_);rw[ah (by simp)];exact zc I hp lu F λh' I' f' F'=>h h' I' F'
def C5 (hX:Raises X Mf Ex)(ok:X.Ok)(hf:A'.frames=some X.stack)(uA:X.stack=jx::uH)(DC:jx.frame=some L)(Lx:X.env.frame=some L)(hEx:∀C d H,Ex C d H->∃c,C=.ref c):Raises (X.as A' (rn X A')) Mf Ex:=by
 intro aA σ H s lo e C d wt I hp lu F q;obtain⟨c,rfl⟩:=hEx C d H q;show bw _ A' (AL (.ref e) X.env) _ _ s;refine yt (X:=X.as A' (rn X A')) I hp lu F hf uA DC Lx λh1 I1 f1 F1=>?_;exact Q0 (I1.uJ ok) hp lu F1 λh2 I2 F2=>hX aA σ H _ lo e (.ref c) d true I2 hp lu F2 q
def Im {Q:Flow->aL->Prop}(I:Inv X aA σ H s)(hp:∀p∈X.pn++aA,p.1<lo)(lu:X.s_0.heap.objs.size<=lo)(F:Fy Mf H lo s.heap e (.ref C) d true)(c:tM X.K C N)(c':tM X.K C' N')(hg:Gl X x)(hm:X.mg x=some (.ref C'))(D6:DD x)
  (aoU:C=C'->vv (bA X.prog X.w) (X.A.mark (some (.ref e))) (.handlers (.ref e) [.ExceptHandler none name aet rT] X.env) (λr mR=>match r with
     |.ok f=>(match name with
      |none=>Q f mR
      |some n=>bw (bA X.prog X.w) X.A (do aeF X.env n .none;ub X.env n rT) (λ_ Dj=>Q f Dj) X.xe mR)
     |.error y=>BP (bA X.prog X.w) X.A X.env X.xe y mR) s)
  (hno:C≠C'->bw (bA X.prog X.w) X.A (aeH (.ref e) X.env rest) Q X.xe s):
  bw (bA X.prog X.w) X.A (aeH (.ref e) X.env (.ExceptHandler (some (.Name x np)) name aet rT::rest)) Q X.xe s:=by
 obtain⟨nm,qn,bs,sn,sub,ab,col,WJ,k0,k1,k2,k3,k5,e0⟩:=c.ex;obtain⟨nm',qn',bs',sn',akL,ab',aiC,auf,k0',k1',k2',k3',k5',e0'⟩:=c'.ex;obtain⟨a1,a2,oe,vs,a3,a4,_⟩:=id F;have uD:=I.zf;have I1:=I.Jw (A':=X.A.mark (some (.ref e))) ((qF _ _).trans I.ok.frames) λ_ _=>False;refine wpAny_handleBy_cons (codeAny_handlers_test (dI (rV (X:=X.as (X.A.mark (some (.ref e))) λ_ _=>False) (E:=λ_ _=>False) (Q:=λv s'=>v=.ref C'/\s'=s) I1 hg hm ⟨Z,Z⟩ D6) (λv s' hv=>?_) λ_ _ z=>z.elim)) (by intro z;cases z);obtain⟨rfl,rfl⟩:=hv;obtain⟨hp',g,dr,tk,os⟩:=s';by_cases hC:C=C'
 .refine LJ (b:=true) (uD _ _ e0) (uD _ _ e0') a3 a4 u7 (by rw[hC];simp) ?_;exact aoU hC
 .refine LJ (b:=false) (uD _ _ e0) (uD _ _ e0') a3 a4 u7 (by simpa usingλz=>hC z.symm) ?_;exact hno hC
def XH.agc {h:Heap}{wt:Bool}(F:Fy Mf H lo h e (.ref C) d wt):XH Mf e C d h:=by
 obtain⟨a1,a2,oe,vs,a3,a4,a5,a6,a7,a8,_⟩:=F;exact⟨oe,vs,a3,a4,a5,a6,λz=>a8 (by rw[z])⟩
def Inv.tracked {wt:Bool}(I:Inv X aA σ H s)(hp:∀p∈X.pn++aA,p.1<lo)(lu:X.s_0.heap.objs.size<=lo)(F:Fy Mf H lo s.heap e (.ref C) d wt):Inv X aA σ (upd H e (.ext (XH Mf e C d))) s:=by
 obtain⟨a1,a2,oe,vs,a3,a4,a5,a6,_⟩:=id F;obtain⟨n1,n2⟩:=I.Zl a3 a6;exact I.aey (λp hpp=>cH (a_ (hp p hpp) a2)) a1 (bt lu a2) n1 n2 (akY (XH.agc F))
def ac3 {ts:TS}{b0:Stmt}{qC:List Stmt}(I:Inv X aA σ H s)(hp:∀p∈X.pn++aA,p.1<lo)(lu:X.s_0.heap.objs.size<=lo)(F:Fy Mf H lo s.heap e (.ref C) d true)
  (hs:Kc (X.as (X.A.mark (some (.ref e))) (rn X (X.A.mark (some (.ref e))))) (b0::qC) ts) (q:ts D (o9 X) (upd H e (.ext (XH Mf e C d)))):
  vv (bA X.prog X.w) (X.A.mark (some (.ref e))) (.handlers (.ref e) [.ExceptHandler none none (b0::qC) rT] X.env) (λr mR=>match r with
     |.ok f=>SP X aA D f mR
     |.error y=>BP (bA X.prog X.w) X.A X.env X.xe y mR) s:=by
 have hf:(X.A.mark (some (.ref e))).frames=some X.stack:=(qF _ _).trans I.ok.frames;refine codeAny_handlers_suite (zc I hp lu F λh1 I1 f1 F1=>?_);have I2:=(I1.aeA.tracked hp lu F1).Jw hf (rn X (X.A.mark (some (.ref e))));refine dI (hs aA _ _ _ D I2 q) (λf s2 h2=>?_) λ_ _ z=>z;cases f with
 |next=>obtain⟨gz,H',J,z⟩:=h2;exact⟨gz,H',J.uJ I.ok,z⟩
 |brk=>obtain⟨gz,H',J,z⟩:=h2;exact⟨gz,H',J.uJ I.ok,z⟩
 |cont=>obtain⟨gz,H',J,z⟩:=h2;exact⟨gz,H',J.uJ I.ok,z⟩
 |ret u=>obtain⟨v,gz,H',J,z,y⟩:=h2;exact⟨v,gz,H',J.uJ I.ok,z,y⟩
end
open PySem PySem.Spec PyProof.Rows
section
variable{X:Cx}{aA:jz}{σ:St}{H:Hp}{s:aL}{Mf:ke}{Ex:XK}{lo:Nat}{e L C C' N N':ke}{d:Option ke}{jx:Env}{uH:List Env}{x n:Str}{np rT:Pos}{D:Ends}{i:Nat}
abbrev asE (X:Cx)(A':Around)(n:Str)(rT:Pos):kc:=λy s3=>bw (bA X.prog X.w) A' (AL y X.env) (λ_ s3'=>bw (bA X.prog X.w) A' (do aeF X.env n .none;ub X.env n rT)
  (λ_ s4=>bw (bA X.prog X.w) A' (QQ "try.except-as" y X.env:Sem Flow) (λ_ _=>False) (rn X A') s4)
  (λz s4=>bw (bA X.prog X.w) A' (GD y none) (λ_ s5=>rn X A' z s5) (rn X A') s4) s3') (rn X A') s3
def VS (hX:Raises X Mf Ex)(ok:X.Ok)(hf:A'.frames=some X.stack)(uA:X.stack=jx::uH)(DC:jx.frame=some L)(Lx:X.env.frame=some L)(hEx:∀C d H,Ex C d H->∃c,C=.ref c)(hl:X.env.scope.names.lookup n=some .local):Raises (X.as A' (asE X A' n rT)) Mf Ex:=by
 have hS:=C5 hX ok hf uA DC Lx hEx;intro aA σ H s lo e C d wt I hp lu F q;show bw _ A' (AL (.ref e) X.env) _ _ s;refine yt (X:=X.as A' (asE X A' n rT)) I hp lu F hf uA DC Lx λh1 I1 f1 F1=>?_;obtain⟨m0,⟨oL,esL,epL,hoL,hdL,_⟩,_⟩:=id I1.loc;refine CB (X:=X.as A' (asE X A' n rT)) I1 hl λs2 I2 hsz sb=>?_;have F2:=F1.same sb hoL λvs z=>by rw[hdL] at z;cases z
 have I3:=I2.uJ ok;refine Ij (X:=X.as A' (rn X A')) (I3.Jw hf (rn X A')) hp lu F2 λh4 I4 f4 F4=>?_;exact hS aA _ H _ lo e C d true I4 hp lu F4 q
def De (X:Cx)(D:Ends):Ends:=⟨λ_ H=>D.nx (o9 X) H,D.rt,λ_ H=>D.bk (o9 X) H,λ_ H=>D.ct (o9 X) H⟩
def ZX {ts:TS}{b0:Stmt}{qC:List Stmt}(I:Inv X aA σ H s)(hp:∀p∈X.pn++aA,p.1<lo)(lu:X.s_0.heap.objs.size<=lo)(F:Fy Mf H lo s.heap e (.ref C) d true)(hN:X.N.Nodup)(hi:X.N[i]? =some n)(hl:X.env.scope.names.lookup n=some .local)
  (hs:Kc (X.as (X.A.mark (some (.ref e))) (asE X (X.A.mark (some (.ref e))) n rT)) (b0::qC) ts) (q:ts (De X D) ((o9 X).set i (some (.ref e))) (upd H e (.ext (XH Mf e C d)))):
  vv (bA X.prog X.w) (X.A.mark (some (.ref e))) (.handlers (.ref e) [.ExceptHandler none (some n) (b0::qC) rT] X.env) (λr mR=>match r with
     |.ok f=>bw (bA X.prog X.w) X.A (do aeF X.env n .none;ub X.env n rT) (λ_ Dj=>SP X aA D f Dj) X.xe mR
     |.error y=>BP (bA X.prog X.w) X.A X.env X.xe y mR) s:=by
 have hf:(X.A.mark (some (.ref e))).frames=some X.stack:=(qF _ _).trans I.ok.frames;refine codeAny_handlers_suite_as (zc I hp lu F λh1 I1 f1 F1=>?_);have I2:=(I1.aeA.tracked hp lu F1).Jw hf (asE X (X.A.mark (some (.ref e))) n rT);refine Di (X:=X.as (X.A.mark (some (.ref e))) (asE X (X.A.mark (some (.ref e))) n rT)) (v:=.ref e) I2 hN hi (.inl hl) rfl (λs2 I3=>?_) (.inr hl);refine dI (hs aA _ _ _ (De X D) I3 q) (λf s3 h3=>?_) λ_ _ z=>z;cases f with
 |next=>
  obtain⟨gz,H',J,z⟩:=h3;exact CB (J.uJ I.ok) hl λs4 I4 _ _=>⟨_,H',I4,z⟩
 |brk=>
  obtain⟨gz,H',J,z⟩:=h3;exact CB (J.uJ I.ok) hl λs4 I4 _ _=>⟨_,H',I4,z⟩
 |cont=>
  obtain⟨gz,H',J,z⟩:=h3;exact CB (J.uJ I.ok) hl λs4 I4 _ _=>⟨_,H',I4,z⟩
 |ret u=>
  obtain⟨v,gz,H',J,z,y⟩:=h3;exact CB (J.uJ I.ok) hl λs4 I4 _ _=>⟨v,_,H',I4,z,y⟩
abbrev Cx.wx (X:Cx)(E:kc)(pn:jz):Cx:={X with xe:=E,pn:=pn}
def Inv.ajM (I:Inv X aA σ H s)(E:kc):Inv (X.wx E (X.pn++aA)) [] σ H s:=
 ⟨⟨I.ok.mod,I.ok.kind,I.ok.glob,I.ok.blt,I.ok.above,I.ok.inj,I.ok.has,I.ok.cab,I.ok.hd,I.ok.frames,I.ok.stk,I.ok.exf,I.ok.bs,I.ok.QX,I.ok.PJ,I.ok.O0,I.ok.yw,I.ok.QE⟩,I.os,I.bare,I.lQ,I.loc,I.cell,I.free,I.pP,λp hp=>I.pin p (by simpa using hp),I.fV,I.len⟩
def Inv.Jl {LP:jz}(I:Inv (X.wx E (X.pn++aA)) LP σ H s):Inv X aA σ H s:=
 ⟨⟨I.ok.mod,I.ok.kind,I.ok.glob,I.ok.blt,I.ok.above,I.ok.inj,I.ok.has,I.ok.cab,I.ok.hd,I.ok.frames,I.ok.stk,I.ok.exf,I.ok.bs,I.ok.QX,I.ok.PJ,I.ok.O0,I.ok.yw,I.ok.QE⟩,I.os,I.bare,I.lQ,I.loc,I.cell,I.free,I.pP,λp hp=>I.pin p (mY _ hp),I.fV,I.len⟩
abbrev TH:=Ends->ke->jm->Option ke->Hp->Prop
def PH (X:Cx)(Mf:ke)(hs:List tN)(th:TH):Prop:=∀(aA:jz) (σ:St) (H:Hp) (s:aL) (lo:Nat) (e:ke) (C:jm) (d:Option ke) (D:Ends),Inv X aA σ H s->(∀p∈X.pn++aA,p.1<lo)->X.s_0.heap.objs.size<=lo->
 Fy Mf H lo s.heap e C d true->th D e C d H->bw (bA X.prog X.w) X.A (aeH (.ref e) X.env hs) (SP X aA D) X.xe s
def aqr (Ex:XK)(tb:TS)(th:TH):TS:=λD σ H=>tb D σ H/\∀e C d H1,H1 e=none->Ex C d H1->th D e C d H1
def Sg {qC:List Stmt}{h0:tN}{hs:List tN}{tb:TS}{th:TH}(uA:X.stack=jx::uH)(DC:jx.frame=some L)(Lx:X.env.frame=some L)
  (hb:∀E pn,Raises (X.wx E pn) Mf Ex->Kc (X.wx E pn) qC tb) (hh:PH X Mf (h0::hs) th):PS X (.Try qC (h0::hs) [] [] cN) (aqr Ex tb th):=by
 intro aA s σ H D I ⟨q,qh⟩;rw[arm_exec_Try];refine aR (fG (wpAny_tryStmt_except ?_));have hR:Raises (X.wx (λe ip=>bw (bA X.prog X.w) X.A (AL e X.env) (λ_ mR=>bw (bA X.prog X.w) X.A (GD e none) (λ_ Dj=>bw (bA X.prog X.w) X.A (aeH e X.env (h0::hs)) (SP X aA D) X.xe Dj) X.xe mR) X.xe ip) (X.pn++aA)) Mf Ex:=by
  intro LP gz H' s' lo e C d wt I' hp lu F z;refine yt (X:=X.wx _ (X.pn++aA)) I' hp lu F I'.ok.frames uA DC Lx λh1 I1 f1 F1=>?_;refine zc (X:=X.wx _ (X.pn++aA)) I1 hp lu F1 λh2 I2 f2 F2=>?_;exact hh aA gz H' _ lo e C d D I2.Jl (λp h=>hp p (mY _ h)) lu F2 (qh e C d H' F.1 z)
 refine dI ((hb _ _ hR) [] s σ H D (I.ajM _) q) (λf s1 h1=>?_) λ_ _ z=>z;cases f with
 |next=>
  obtain⟨gz,H',J,z⟩:=h1;exact uR ⟨gz,H',J.Jl,z⟩
 |brk=>obtain⟨gz,H',J,z⟩:=h1;exact⟨gz,H',J.Jl,z⟩
 |cont=>obtain⟨gz,H',J,z⟩:=h1;exact⟨gz,H',J.Jl,z⟩
 |ret u=>obtain⟨v,gz,H',J,z,y⟩:=h1;exact⟨v,gz,H',J.Jl,z,y⟩
def Sd:PH X Mf [] (λ_ _ _ _ _=>False):=λ_ _ _ _ _ _ _ _ _ _ _ _ _ h=>h.elim
def thc (K:au)(Mf C':ke)(X0:St)(ts:ke->TS)(th:TH):TH:=λD e C d H=>∃c N,C=.ref c/\tM K c N/\(c=C'->ts e D X0 (upd H e (.ext (XH Mf e c d))))/\(c≠C'->th D e C d H)
def Nw {rest:List tN}{ts:ke->TS}{th:TH}{b0:Stmt}{qC:List Stmt}(c':tM X.K C' N')(hg:Gl X x)(hm:X.mg x=some (.ref C'))(hs:X.Ok->∀e,Kc (X.as (X.A.mark (some (.ref e))) (rn X (X.A.mark (some (.ref e))))) (b0::qC) (ts e))(hr:PH X Mf rest th)(D6:autoParam (DD x) Z_d):
  PH X Mf (.ExceptHandler (some (.Name x np)) none (b0::qC) rT::rest) (thc X.K Mf C' (o9 X) ts th):=by
 intro aA σ H s lo e C d D I hp lu F ⟨c,N,ec,cc,q1,q2⟩;subst ec;exact Im I hp lu F cc c' hg hm D6 (λz=>ac3 I hp lu F (hs I.ok e) (q1 z)) λz=>hr aA σ H s lo e _ d D I hp lu F (q2 z)
def aqt (K:au)(X:Cx)(Mf C':ke)(i:Nat)(ts:ke->TS)(th:TH):TH:=λD e C d H=>∃c N,C=.ref c/\tM K c N/\(c=C'->ts e (De X D) ((o9 X).set i (some (.ref e))) (upd H e (.ext (XH Mf e c d))))/\(c≠C'->th D e C d H)
def P7 {rest:List tN}{ts:ke->TS}{th:TH}{b0:Stmt}{qC:List Stmt}(c':tM X.K C' N')(hg:Gl X x)(hm:X.mg x=some (.ref C'))(hN:X.N.Nodup)(hi:X.N[i]? =some n)(hl:X.env.scope.names.lookup n=some .local)
  (hs:X.Ok->∀e,Kc (X.as (X.A.mark (some (.ref e))) (asE X (X.A.mark (some (.ref e))) n rT)) (b0::qC) (ts e)) (hr:PH X Mf rest th) (D6:autoParam (DD x) Z_d):
  PH X Mf (.ExceptHandler (some (.Name x np)) (some n) (b0::qC) rT::rest) (aqt X.K X Mf C' i ts th):=by
 intro aA σ H s lo e C d D I hp lu F ⟨c,N,ec,cc,q1,q2⟩;subst ec;exact Im I hp lu F cc c' hg hm D6 (λz=>ZX I hp lu F hN hi hl (hs I.ok e) (q1 z)) λz=>hr aA σ H s lo e _ d D I hp lu F (q2 z)
end
open PySem PySem.Spec PyProof.Rows
section
variable{X:Cx}
def Pr {L:ke}{jx:Env}{uH:List Env}{aA:jz}{σ:St}{Q:VK}{FZ tg l7:Expr}{M3:FD}{bc:nA}{own:List (Str×Nat)}{xA:Pos}{wi:TI}{g:TG}{tt:TT}{te:TE}{use:Option (jm->Sem Unit)}{Qf:kc}
  (hX:Raises X Mf Ex) (uA:X.stack=jx::uH) (DC:jx.frame=some L) (Lx:X.env.frame=some L) (hc:X.calm=true) (hN:X.N.Nodup) (I:Inv X aA σ H s) (hi:PI X tg l7 wi) (ok:Oc X.N X.env.scope bc own)
  (hg:∀(s:aL) (H:Hp) (C:ke) (cl:List (Str×ke)) (fp:pG),PG (X.gX s H bc (iB bc cl C X.env) fp) tg g) (ht:∀(s:aL) (H:Hp) (C:ke) (cl:List (Str×ke)) (fp:pG),PTs (X.gX s H bc (iB bc cl C X.env) fp) M3 tt)
  (he:∀(s:aL) (H:Hp) (C:ke) (cl:List (Str×ke)) (fp:pG) (E:kc),Raises ((X.gX s H bc (iB bc cl C X.env) fp).vq E) Mf Ex->PE ((X.gX s H bc (iB bc cl C X.env) fp).vq E) FZ te) (hs:∀x,nB l7 X.env x=pure x)
  (h:tLc wi g tt te (own.map (·.2)) σ H Q)
  (hRR:∀D C s' m H',Inv X aA σ H' s'->Q (.ref D) H'->s'.heap.Ns C m->Fz X aA H' C->aeG (bA X.prog X.w) X.A X.xe use Qf (.ref D) C (.ok .next) s'):
  bw (bA X.prog X.w) X.A (comprehension (.ListComp FZ [⟨tg,l7,M3,0⟩] bc cN) bc X.env xA (newList []) false (eval l7 X.env) use) Qf X.xe s:=by
 have ER:∀y∈bc.names,y.2=.free->∃c,X.env.cells.lookup y.1=some c:=λy hy e=>by
  rcases ok.free y hy e with k|k
  .exact I.ok.has _ (.inl k)
  .exact I.ok.has _ (.inr k)
 refine wpAny_comprehension_free (use:=use) rfl hs (QZ ER) ok.kind (λy hy e=>by rw[ok.uniq y hy,e])
  (je (hi aA s σ H _ I h) λxv s1 hx=>je hx λitv s2 h2=>?_)
 obtain⟨it,fp,tn,J,H2,e,I2,T,st2,f2,q⟩:=h2;subst e;refine L_ (PD ?_) (by show 0<=bu;decide);generalize hD:s2.heap.objs.size=D;have hDn:H2 D=none:=I2.fV.fresh (f7 hD);obtain⟨W,⟨m0,w0⟩,SN⟩:=q D hDn;generalize WS:({s2 with heap:=s2.heap.push {cls:=.type "list",data:=.seq ([]:gU).toArray}}:aL)=s3;have I3:Inv X aA σ (upd H2 D (.lst [])) s3:=by
  rw[<-WS];refine I2.laid (t':=s2.toks) (λb o e=>Heap.get?_push_of_some _ e) (f7 hD) ⟨eU _,[],0,.nil,?_⟩;rw[<-hD];exact Heap.get?_push_size _ rfl
 have h3:s3.heap=s2.heap.push {cls:=.type "list",data:=.seq ([]:gU).toArray}:=by rw[<-WS]
 have sz:∀b∈fp,b<s2.heap.objs.size:=λb hb=>by
  obtain⟨o,e,_⟩:=T.obj _ _ st2 b hb;exact Heap.lt_size e
 have f3:∀b∈fp,Fz X aA (upd H2 D (.lst [])) b/\b<s3.heap.objs.size:=λb hb=>by
  have As:=sz b hb;refine⟨⟨?_,(f2 b hb).2⟩,by rw[h3,Heap.size_push];exact wN As⟩;rw[aF (by rw[<-hD];exact cH As)];exact(f2 b hb).1
 have st3:tn 0 s3.heap:=T.keep _ _ _ st2 λb _ o e=>by rw[h3];exact Heap.get?_push_of_some _ e
 have I4:=Oy I3 ok hN f3;have pg:=hg s3 (upd H2 D (.lst [])) s3.heap.objs.size (fq (s3.heap.objs.size+1) bc.names (h_ X.env.cells bc.names [])) fp;have pt:=ht s3 (upd H2 D (.lst [])) s3.heap.objs.size (fq (s3.heap.objs.size+1) bc.names (h_ X.env.cells bc.names [])) fp;have pe:=he s3 (upd H2 D (.lst [])) s3.heap.objs.size (fq (s3.heap.objs.size+1) bc.names (h_ X.env.cells bc.names [])) fp;show vv _ _ (.compStart (.ListComp FZ [⟨tg,l7,M3,0⟩] bc cN) 0 (.ref it) (.ref D) (iB bc (fq (s3.heap.objs.size+1) bc.names (h_ X.env.cells bc.names [])) s3.heap.objs.size X.env)) (aeG (bA X.prog X.w) X.A X.xe use Qf (.ref D) s3.heap.objs.size) {s3 with heap:=wG (s3.heap.push {cls:=.type "dict",data:=.dict #[]}) bc.names};have nfp:∀b∈fp,(upd H2 D (.lst [])) b=none:=λb hb=>(f3 b hb).1.1;generalize hce:iB bc (fq (s3.heap.objs.size+1) bc.names (h_ X.env.cells bc.names [])) s3.heap.objs.size X.env=ce at I4 pg pt pe|-
 have cL:ce.locals=s3.heap.objs.size:=by subst hce;rfl
 generalize hH3:upd H2 D (.lst [])=H3 at I3 I4 pg pt pe w0 nfp f3;generalize hs4:({s3 with heap:=wG (s3.heap.push {cls:=.type "dict",data:=.dict #[]}) bc.names}:aL)=s4 at I4|-
 have st4:tn 0 s4.heap:=T.keep _ _ _ st3 λb _ o e=>by rw[<-hs4];exact Du _ _ _ _ (Heap.get?_push_of_some _ e)
 have SE:∀{gz:St} {H':Hp} {s':aL},Inv (X.gX s3 H3 bc ce fp) [] gz H' s'->(∀b∈fp,H' b=none)->∀b∈fp,Fz (X.gX s3 H3 bc ce fp) [] H' b:=λ{gz H' s'} I' hn b hb=>
  ⟨hn b hb,(I'.ok.exf b hb).1,I'.ok.O0 b hb,.inl hb,λx c e=>(I'.ok.exf b hb).2 x c e,λp hp=>absurd (show p∈([]:jz)++[] from hp) (by simp)⟩
 have cF:ce.frame=some L:=by subst hce;exact Lx
 have hR:Raises ((X.gX s3 H3 bc ce fp).vq (GB (bA X.prog X.w) X.A ce λe s'=>aeG (bA X.prog X.w) X.A X.xe use Qf (.ref D) s3.heap.objs.size (.error e) s')) Mf Ex:=by
  intro LP gz H' s' lo e C d wt I' hp' ajk F' z;refine yt (X:=X.gX s3 H3 bc ce fp) I'.uK hp' ajk F' I'.ok.frames uA DC cF λh1 J1 f1 F1=>?_;obtain⟨m,hn,_⟩:=id J1.loc;have hn:h1.Ns ce.locals m:=hn;have nC:H' s3.heap.objs.size=none:=by
   have z:H' ce.locals=none:=J1.free;rw[cL] at z;exact z
  rw[cL] at hn;refine⟨m,hn,λh2 sb arl _=>?_⟩;obtain⟨oC,esC,epC,hoC,hdC,_⟩:=id hn;have F2:=F1.same sb hoC λvs z=>by rw[hdC] at z;cases z
  have J2:Inv X aA σ H' {s' with heap:=h1}:=I3.Xw (ch:=fp) J1.os J1.lQ J1.fV J1.bare λb hb=>⟨(f3 b hb).1.2.2.2.1,(f3 b hb).1.2.1,(f3 b hb).1.2.2.2.2.1,(f3 b hb).1.2.2.2.2.2⟩;obtain⟨g0,g1,g2,g3,g4,g5⟩:=I3.RK (bq _) nC;have J3:=J2.turned (h':=h2) (t':=s'.toks) (λb o hb e=>(sb.2 b hb).trans e) g0 g1 g3 g4 g5;have ajl:s3.heap.objs.size<=lo:=ajk;have pn:∀p∈X.pn++aA,p.1<lo:=λp hp=>a_ (Heap.lt_size (I3.pin p hp).1) ajl;have lo2:X.s_0.heap.objs.size<=lo:=bt I3.sz ajl;exact Ij J3 pn lo2 F2 λh4 J4 f4 F4=>hX aA σ H' _ lo e C d true J4 pn lo2 F4 z
 have loop:vv (bA X.prog X.w) X.A (.compLoop (.ListComp FZ [⟨tg,l7,M3,0⟩] bc cN) 0 (.ref it) (.ref D) ce) (aeG (bA X.prog X.w) X.A X.xe use Qf (.ref D) s3.heap.objs.size) s4:=by
  refine Ms (λn s'=>∃i H',Inv (X.gX s3 H3 bc ce fp) [] (wipe σ (own.map (·.2))) H' s'/\tn i s'.heap/\(∀b∈fp,H' b=none)/\W i n H') ?_ m0 ⟨0,H3,I4,st4,nfp,w0⟩;rintro n s5 ⟨i,H5,I5,st5,n5,w5⟩;rcases SN i n H5 w5 with⟨stop,qq⟩|⟨go,Nx,hNx,step⟩
  .have td:=T.done (X.gX s3 H3 bc ce fp) rfl rfl rfl hc i [] s5 _ H5 (λ_ _=>False) I5 (SE I5 n5) st5 stop;refine Z4 td λr s6 ⟨hr,I6⟩=>?_;subst hr;have I7:Inv X aA σ H5 s6:=I3.Xw (ch:=fp) I6.os I6.lQ I6.fV I6.bare λb hb=>⟨(f3 b hb).1.2.2.2.1,(f3 b hb).1.2.1,(f3 b hb).1.2.2.2.2.1,(f3 b hb).1.2.2.2.2.2⟩;have nC:H5 s3.heap.objs.size=none:=by
    have z:H5 ce.locals=none:=I6.free;rw[cL] at z;exact z
   obtain⟨m,hn,_⟩:=I6.loc;have hn:s6.heap.Ns ce.locals m:=hn;rw[cL] at hn;exact hRR D s3.heap.objs.size s6 m H5 I7 qq hn (I3.RK (bq _) nC)
  .have ti:=T.item (X.gX s3 H3 bc ce fp) rfl rfl rfl hc i [] s5 _ H5 (λ_ _=>False) I5 (SE I5 n5) st5 go;refine Z4 ti λr s6 ⟨u,hr,h6⟩=>?_;subst hr;refine Z4 h6 λ_ s7 ⟨x,H7,I7,r7,y7,st7,n7⟩=>?_;have I7':=I7.pinned (SE I7 n7) (T.obj _ _ st7);refine Z4 (pg _ s7 _ H7 x u _ I7' r7 (step x H7 y7)) λ_ s8 ⟨σ8,H8,I8,hw8,q8⟩=>?_;refine Z4 (pt _ s8 σ8 H8 _ I8 q8) λb s9 ⟨H9,I9,q9⟩=>?_;have fin:∀{s':aL} {H':Hp},Inv (X.gX s3 H3 bc ce fp) ([]++Jr fp s7.heap) σ8 H' s'->Nx H'->∃m,m<n/\∃i H',Inv (X.gX s3 H3 bc ce fp) [] (wipe σ (own.map (·.2))) H' s'/\tn i s'.heap/\(∀b∈fp,H' b=none)/\W i m H':=λ{s' H'} I' nx=>by
    obtain⟨m',hm,w'⟩:=hNx H' nx;have aki:∀b∈fp,∀o,s7.heap.get? b=some o->s'.heap.get? b=some o/\H' b=none:=λb hb o e=>
     let z:=I'.pin (b,o) (eT _ (eT _ (Bl hb e)))
     ⟨z.1,z.2.1⟩
    have hl:(wipe σ (own.map (·.2))).length=σ8.length:=by rw[<-hw8,yT]
    refine⟨m',hm,i+1,H',(I'.Dq (aA:=[])).weak hl (λj v e=>?_),T.keep _ _ _ st7 λb hb o e=>(aki b hb o e).1,λb hb=>?_,w'⟩
    .rw[<-hw8] at e;exact(Ew e).1
    .obtain⟨o,e,_⟩:=T.obj _ _ st7 b hb;exact(aki b hb o e).2
   cases b with
   |false=>
    simp only[aas,if_false] at q9|-
    exact fin I9 q9
   |true=>
    simp only[if_true] at q9|-
    refine dI (pe _ hR _ s9 σ8 H9 _ (I9.vq _) q9) (λz s10 ⟨yv,H10,I10,r10,dM,anK,aoW,nx⟩=>?_) λ_ _ z=>z;exact ae3 (X:=X.gX s3 H3 bc ce fp) I10.uK anK aoW r10 λs11 I11=>fin I11 nx
 exact codeAny_compStart_list loop (T.self X.A 0 _ _ _ st4 loop)
def Zc {L:ke}{jx:Env}{uH:List Env}{FZ tg l7:Expr}{M3:FD}{bc:nA}{own:List (Str×Nat)}{wi:TI}{g:TG}{tt:TT}{te:TE}(hX:Raises X Mf Ex)(uA:X.stack=jx::uH)(DC:jx.frame=some L)(Lx:X.env.frame=some L)(hc:X.calm=true)(hN:X.N.Nodup)(hi:PI X tg l7 wi)(ok:Oc X.N X.env.scope bc own)
  (hg:∀(s:aL) (H:Hp) (C:ke) (cl:List (Str×ke)) (fp:pG),PG (X.gX s H bc (iB bc cl C X.env) fp) tg g) (ht:∀(s:aL) (H:Hp) (C:ke) (cl:List (Str×ke)) (fp:pG),PTs (X.gX s H bc (iB bc cl C X.env) fp) M3 tt)
  (he:∀(s:aL) (H:Hp) (C:ke) (cl:List (Str×ke)) (fp:pG) (E:kc),Raises ((X.gX s H bc (iB bc cl C X.env) fp).vq E) Mf Ex->PE ((X.gX s H bc (iB bc cl C X.env) fp).vq E) FZ te) (hs:autoParam (∀x,nB l7 X.env x=pure x) Z_t):
  PE X (.ListComp FZ [⟨tg,l7,M3,0⟩] bc cN) (tLc wi g tt te (own.map (·.2))):=by
 intro aA s σ H Q I h;rw[eval_ListComp];refine Pr hX uA DC Lx hc hN I hi ok hg ht he hs h λD C s' m H' I' q hn f=>⟨m,hn,λh'' sb=>?_⟩;obtain⟨f0,f1,f2,f3,f4,f5⟩:=f;exact⟨.ref D,H',I'.turned (t':=s'.toks) (λb o hb e=>(sb.2 b hb).trans e) f0 f1 f3 f4 f5,Z,q⟩
def Eo {Lf:ke}{jx:Env}{uH:List Env}{i:Nat}{y:Str}{py:Pos}{FZ tg l7:Expr}{M3:FD}{bc:nA}{own:List (Str×Nat)}{ZP:Pos}{wi:TI}{g:TG}{tt:TT}{te:TE}(hX:Raises X Mf Ex)(uA:X.stack=jx::uH)(DC:jx.frame=some Lf)(Lx:X.env.frame=some Lf)(hc:X.calm=true)(hN:X.N.Nodup)(hy:X.N[i]? =some y)(hyl:X.env.scope.names.lookup y=some .local)
  (hsw:mU (.ListComp FZ [⟨tg,l7,M3,0⟩] bc cN) (some (.Name y py)) ZP.line X.env=pure true) (hi:PI X tg l7 wi) (ok:Oc X.N X.env.scope bc own)
  (hg:∀(s:aL) (H:Hp) (C:ke) (cl:List (Str×ke)) (fp:pG),PG (X.gX s H bc (iB bc cl C X.env) fp) tg g) (ht:∀(s:aL) (H:Hp) (C:ke) (cl:List (Str×ke)) (fp:pG),PTs (X.gX s H bc (iB bc cl C X.env) fp) M3 tt)
  (he:∀(s:aL) (H:Hp) (C:ke) (cl:List (Str×ke)) (fp:pG) (E:kc),Raises ((X.gX s H bc (iB bc cl C X.env) fp).vq E) Mf Ex->PE ((X.gX s H bc (iB bc cl C X.env) fp).vq E) FZ te) (hs:autoParam (∀x,nB l7 X.env x=pure x) Z_t):
  PS X (.Assign [.Name y py] (.ListComp FZ [⟨tg,l7,M3,0⟩] bc cN) ZP) (ZY (tLc wi g tt te (own.map (·.2))) (Ar i)):=by
 intro aA s σ H D I h;rw[exec_Assign_Name_used _ _ _ _ hsw];refine aR (fG (aR ?_));show bw _ X.A (do let _<-comprehension (.ListComp FZ [⟨tg,l7,M3,0⟩] bc cN) bc X.env (firstIterPos [⟨tg,l7,M3,0⟩] cN) (newList []) false (eval l7 X.env) (some (UD (.Name y py) X.env))) _ _ s;have h:tLc wi g tt te (own.map (·.2)) σ H (λx H1=>Ar i x σ H1 D.nx):=h;refine aR (je (Pr (Qf:=λ_ s'=>SP X aA D .next s') hX uA DC Lx hc hN I hi ok hg ht he hs h λL C s' m H' I' q hn f=>?_) λ_ s' hq=>bV (bV hq));show bw _ _ (UD (.Name y py) X.env (.ref L)) _ _ _;refine ak5 (LY (v:=V.ref L) I' hN hy (.inl hyl) rfl (λs2 I2 ⟨a,sb,ha⟩=>?_) (.inr hyl));obtain⟨f0,f1,f2,f3,f4,f5⟩:=f;have haC:C≠a:=by
  rcases ha with z|z
  .rw[z];exact f1
  .exactλe=>f4 y a z e.symm
 refine⟨m,hn.sameBut sb haC,λh3 sb3=>?_⟩;exact⟨_,H',I2.turned (t':=s2.toks) (λb o hb e=>(sb3.2 b hb).trans e) f0 f1 f3 f4 f5,q⟩
end
end L2
namespace Mx
open LwBits LwSound
variable{l:RowLearnt}{n w p i q c:Nat}{b:rJ}{f:Form}{x B v:Int}{m:Model}{s:aW}{r:RowWay}{aS bQ:bY}{xs es:ly}
def lcs {α:Type}{l:List α}(h:l.length=n+1):∃a r,l=a::r/\r.length=n:=by
 cases l with
 |nil=>cases h
 |cons a r=>exact⟨a,r,Z,adG h⟩
def lc1 {α:Type}{l:List α}(h:l.length=1):∃a,l=[a]:=by
 obtain⟨a,r,rfl,h1⟩:=lcs h;exact⟨a,congrArg (a:: ·) (di h1)⟩
def lc2 {α:Type}{l:List α}(h:l.length=2):∃a b,l=[a,b]:=by
 obtain⟨a,r,rfl,h1⟩:=lcs h;obtain⟨b,rfl⟩:=lc1 h1;exact⟨a,b,Z⟩
def lc3 {α:Type}{l:List α}(h:l.length=3):∃a b c,l=[a,b,c]:=by
 obtain⟨a,r,rfl,h1⟩:=lcs h;obtain⟨b,c,rfl⟩:=lc2 h1;exact⟨a,b,c,Z⟩
def pD {b f:Nat}(h:b<=15*(f+1)):b-min 15 b<=15*f:=by
 rcases Nat.le_total 15 b with c|c
 .rw[eQ c];exact Nat.sub_le_of_le_add h
 .rw[k_ c,lP];exact eU _
def Xz {α β γ:Sort _}(f:α->β->γ){a a':α}{b b':β}(h:a=a')(h':b=b'):f a b=f a' b':=by subst h;subst h';rfl
theorem take_snoc {α:Type}:∀{l:List α} {i:Nat} {x:α},l[i]? =some x->l.take (i+1)=l.take i++[x]
 |[],i,x,h=>by simp at h
 |a::l,0,x,h=>by
  have e:a=x:=bh h;subst e;rfl
 |a::l,i+1,x,h=>by
  have ih:=take_snoc (l:=l) (i:=i) (x:=x) h;show a::l.take (i+1)=a::l.take i++[x];rw[ih];rfl
def foldl_add (l:bY):∀a:Int,l.foldl (λ(a b:Int)=>a+b) a=a+l.sum:=by
 induction l with
 |nil=>intro a;simp
 |cons x r ih=>intro a;rw[bR,ih,DH];lia
def RJ (l:ig):∀a:Nat,l.foldl (λ(a b:Nat)=>a+b) a=a+l.sum:=by
 induction l with
 |nil=>intro a;simp
 |cons x r ih=>intro a;rw[bR,ih,DH];lia
theorem tj {α β:Type}(f:Int->Int->β):∀(w h:bY),w.length=h.length->
  (aJ w.length).map (λi=>f (w.getD i 0) (h.getD i 0))=dO f w h
 |[],[],_=>rfl
 |a::w,b::h,e=>by
  have ih:=tj (α:=α) f w h (by simpa using e);rw[aZ,qf,cy,ji,List.zipWith_cons_cons];refine Xz List.cons rfl ?_;rw[<-ih];rfl
def abS {m:Int}(hm:0<=m):(if(if x<m then x else m)> -m then(if x<m then x else m) else-m)=held x m:=by
 unfold held;by_cases h1:x<m<;>by_cases h2:x< -m<;>simp[h1,h2]<;>lia
def MZ {m:Int}(hm:0<=m): -m<=held x m/\held x m<=m:=by
 unfold held;split
 .lia
 .split<;>lia
def agt (x:Int):(if x>0 then(1:Int) else if x<0 then-1 else 0)=sgn x:=by
 unfold sgn;by_cases h1:x>0
 .rw[aj h1,ah (by lia),ah (by lia)]
 .by_cases h2:x<0
  .rw[ah h1,aj h2,aj h2]
  .rw[ah h1,ah h2,ah h2,aj (by lia)]
def Us (x:Int): -1<=sgn x/\sgn x<=1:=by
 unfold sgn;split<;>(try split)<;>lia
def sR (w h:bY):Int:=(dO (λa b=>a*b) w h).sum
def KY {w h:bY}(e:w.length=h.length):products w h=sR w h:=by
 unfold products sR;rw[foldl_add,tj (α:=Int) (λa b=>a*b) w h e];lia
def ox (s:Stage):Int:=if s.wide=true then 1048576 else 32767
def mH (s:Stage):Int:=if s.wide=true then 1073741824 else 32767
def vd (s:Stage):0<=ox s/\ox s<=1048576:=by unfold ox;split<;>lia
def zj (s:Stage):0<=mH s/\mH s<=1073741824:=by unfold mH;split<;>lia
structure xQ (s:Stage)(l:Learnt):Prop where
 wl:l.w.length=s.taps
 hl:l.h.length=s.taps
 wb:∀x∈l.w,-ox s<=x/\x<=ox s
 hb:∀x∈l.h,-mH s<=x/\x<=mH s
def xQ.new (s:Stage):xQ s (aak s):=by
 refine⟨by simp[aak],by simp[aak],λx hx=>?_,λx hx=>?_⟩
 .have e:x=0:=(fc.mp hx).2;have:=vd s;lia
 .have e:x=0:=(fc.mp hx).2;have:=zj s;lia
def EN {s:Stage}{l:Learnt}(ok:xQ s l):
  L6 s l=if s.wide=true then(sR l.w l.h+32768) / 65536 else(sR l.w l.h*2^s.scale+16384) / 32768:=by
 unfold L6;rw[KY (ok.wl.trans ok.hl.symm)];split
 .exact cu _ (by decide)
 .rw[cu _ (by decide),UL];congr 3
def Tw (x:Int)(n:Nat):down x n=x / 2^n:=by
 unfold down;rw[cu _ (jI _)];simp
def LH {s:Stage}{l:Learnt}(ok:xQ s l)(rt:1<=s.taps)(sc:s.wide=true->s.scale=0)(u v:Int):
  learns s l u v=⟨dO (λw h=>held (w+sgn v*(s.gain:Int)*sgn h) (ox s)) l.w l.h,held (u / 2^s.scale) (mH s)::l.h.dropLast⟩:=by
 unfold learns;refine Xz Learnt.mk ?_ ?_
 .rw[<-tj (α:=Int) (λw h=>held (w+sgn v*(s.gain:Int)*sgn h) (ox s)) l.w l.h (ok.wl.trans ok.hl.symm),ok.wl];apply fM;intro i _;unfold ox;congr 2;rw[QM,QM,UL (sgn (l.h.getD i 0))]
 .refine Xz List.cons ?_ ?_
  .unfold mH;by_cases hw:s.wide=true
   .rw[aj hw,aj hw,sc hw];simp
   .rw[ah hw,ah hw,Tw]
  .rw[UO,ok.hl]
def xQ.next {s:Stage}{l:Learnt}(ok:xQ s l)(rt:1<=s.taps)(u v:Int):xQ s (learns s l u v):=by
 refine⟨by simp[learns],?_,λx hx=>?_,λx hx=>?_⟩
 .simp only[learns,aZ,cP,ok.hl];lia
 .obtain⟨i,_,e⟩:=bj.mp (show x∈(aJ s.taps).map _ from hx);rw[<-e];exact MZ (vd s).1
 .have hx:x∈(if s.wide=true then held u 1073741824 else held (down u s.scale) 32767)::l.h.take (s.taps-1):=hx;rcases bo.mp hx with e|e
  .rw[e];unfold mH;split
   .exact MZ (by decide)
   .exact MZ (by decide)
  .exact ok.hb x (fb e)
theorem MJ {C:Int}(hB:0<=B)(hC:0<=C):∀{w h:bY},(∀x∈w,-B<=x/\x<=B)->(∀x∈h,-C<=x/\x<=C)-> -(w.length*(B*C))<=sR w h/\sR w h<=w.length*(B*C)
 |[],h,_,_=>by simp[sR]
 |a::w,[],_,_=>by
  have:=kZ hB hC;have h2:(0:Int)<=((a::w).length:Int)*(B*C):=kZ (jI _) this;simp only[sR,List.zipWith_nil_right,List.sum_nil];lia
 |a::w,b::h,hw,hh=>by
  have ih:=MJ hB hC (w:=w) (h:=h) (λx m=>hw x (aP _ m)) (λx m=>hh x (aP _ m));have e:sR (a::w) (b::h)=a*b+sR w h:=by simp[sR]
  obtain⟨a1,a2⟩:=hw a (aU ..);obtain⟨b1,b2⟩:=hh b (aU ..);have m1:a*b<=B*C:=by
   have h1:0<=(B-a)*(C+b):=kZ (by lia) (by lia);have h2:0<=(B+a)*(C-b):=kZ (by lia) (by lia);rw[Int.sub_mul,K4,K4] at h1;rw[BU,K5,K5] at h2;lia
  have m2: -(B*C)<=a*b:=by
   have h1:0<=(B+a)*(C+b):=kZ (by lia) (by lia);have h2:0<=(B-a)*(C-b):=kZ (by lia) (by lia);rw[BU,K4,K4] at h1;rw[Int.sub_mul,K5,K5] at h2;lia
  rw[e,aZ];have:((w.length+1:Nat):Int)*(B*C)=w.length*(B*C)+B*C:=by
   rw[ft,BU];simp
  lia
open LwBits LwSound
def gF (p:Nat)(l:bY):bY:=[l.getD 0 0,l.getD 0 0-l.getD 1 0,l.getD 0 0-2*l.getD 1 0+l.getD 2 0].take p
def yq (a:Int×List Int)(k:Nat):Int×List Int:=(a.1-a.2.getD k 0,a.2.set k a.1)
def nQ (a:Int×List Int)(k:Nat):Int×List Int:=(a.1+a.2.getD k 0,a.2.set k (a.1+a.2.getD k 0))
def B3 (hp:p<=3)(l:bY):(gF p l).length=p:=by
 unfold gF;simp;lia
def MV (a:Int×List Int):∀l:ig,(l.foldl yq a).2.length=a.2.length:=λl=>by
 induction l generalizing a with
 |nil=>rfl
 |cons k r ih=>rw[bR,ih];simp[yq]
def Ig (a:Int×List Int):∀l:ig,(l.foldl nQ a).2.length=a.2.length:=λl=>by
 induction l generalizing a with
 |nil=>rfl
 |cons k r ih=>rw[bR,ih];simp[nQ]
def XX (hp:p<=3){l:bY}(hl:l.length=3)(x:Int):
  (aJ p).foldl yq (x,gF p l)=(x-jf p l,gF p (x::l.take 2)):=by
 match l,hl with
 |[a,b,c],_=>
  match p,hp with
  |0,_=>simp[gF,jf]
  |1,_=>simp[gF,jf,cE,yq]
  |2,_=>
   simp[gF,jf,cE,yq];lia
  |3,_=>
   simp[gF,jf,cE,yq];lia
def XW (hp:p<=3){l:bY}(hl:l.length=3)(u:Int):
  (aJ p).reverse.foldl nQ (u,gF p l)=(u+jf p l,gF p ((u+jf p l)::l.take 2)):=by
 match l,hl with
 |[a,b,c],_=>
  match p,hp with
  |0,_=>simp[gF,jf]
  |1,_=>simp[gF,jf,cE,nQ]
  |2,_=>
   simp[gF,jf,cE,nQ];lia
  |3,_=>
   simp[gF,jf,cE,nQ];lia
theorem yR:∀(a b:List (Stage×Learnt)) (u:Int),mx (a++b) u=((mx b (mx a u).1).1,(mx a u).2++(mx b (mx a u).1).2)
 |[],b,u=>by simp[mx]
 |(s,l)::r,b,u=>by
  have ih:=yR r b (u-L6 s l);simp only[xB,mx];rw[ih]
theorem tw:∀(a:List (Stage×Learnt)) (u:Int),(mx a u).2.length=a.length
 |[],_=>rfl
 |(s,l)::r,u=>by simp[mx,tw r]
theorem ED:∀(a:List (Stage×Learnt)) (u:Int),(mm a u).2.length=a.length
 |[],_=>rfl
 |(s,l)::r,u=>by simp[mm,ED r]
structure lH (r:RowWay)(l:RowLearnt):Prop where
 fx:r.fixed<=3
 la:l.last.length=3
 sl:l.stages.length=r.stages.length
 st:∀(i:Nat) (s:Stage) (x:Learnt),r.stages[i]? =some s->l.stages[i]? =some x->xQ s x
 ep:l.eps.length=4
def iw (s:Stage):Prop:=1<=s.taps/\s.taps<=16/\1<=s.gain/\s.gain<=1024/\s.scale<=12/\(s.wide=true->s.scale=0/\s.taps<=8)
structure lJ (r:RowWay):Prop where
 fx:r.fixed<=3
 sn:r.stages.length<=2
 st:∀s∈r.stages,iw s
def lH.new (g:lJ r):lH r (newRow r):=by
 refine⟨g.fx,Z,by simp[newRow],λi s x h1 h2=>?_,Z⟩;have h2:(r.stages.map aak)[i]? =some x:=h2;rw[aw,h1] at h2;cases h2;exact xQ.new s
def SM {ss:List Stage}:∀{ls:List Learnt} (u:Int),ls.length=ss.length->(∀s∈ss,1<=s.taps)->(∀(i:Nat) (s:Stage) (x:Learnt),ss[i]? =some s->ls[i]? =some x->xQ s x)->
  ∀(i:Nat) (s:Stage) (x:Learnt),ss[i]? =some s->(mx (ss.zip ls) u).2[i]? =some x->xQ s x:=by
 induction ss with
 |nil=>intro ls u _ _ _ i s x h;simp at h
 |cons s0 ss ih=>
  intro ls u hl h1 h i s x hs hx
  match ls,hl with
  |l0::ls,hl=>
   simp only[uM,mx] at hx
   match i with
   |0=>
    simp at hs hx;subst hs;subst hx;exact(h 0 s0 l0 rfl rfl).next (h1 s0 (aU ..)) _ _
   |i+1=>
    exact ih (ls:=ls) (u-L6 s0 l0) (by simpa using hl) (λs m=>h1 s (aP _ m)) (λi s x a b=>h (i+1) s x (by simpa using a) (by simpa using b)) i s x (by simpa using hs) (by simpa using hx)
def abv {ss:List Stage}:∀{ls:List Learnt} (u:Int),ls.length=ss.length->(∀s∈ss,1<=s.taps)->(∀(i:Nat) (s:Stage) (x:Learnt),ss[i]? =some s->ls[i]? =some x->xQ s x)->
  ∀(i:Nat) (s:Stage) (x:Learnt),ss[i]? =some s->(mm (ss.zip ls) u).2[i]? =some x->xQ s x:=by
 induction ss with
 |nil=>intro ls u _ _ _ i s x h;simp at h
 |cons s0 ss ih=>
  intro ls u hl h1 h i s x hs hx
  match ls,hl with
  |l0::ls,hl=>
   simp only[uM,mm] at hx
   match i with
   |0=>
    simp at hs hx;subst hs;subst hx;exact(h 0 s0 l0 rfl rfl).next (h1 s0 (aU ..)) _ _
   |i+1=>
    exact ih (ls:=ls) u (by simpa using hl) (λs m=>h1 s (aP _ m)) (λi s x a b=>h (i+1) s x (by simpa using a) (by simpa using b)) i s x (by simpa using hs) (by simpa using hx)
def lH.rest (ok:lH r l)(g:lJ r)(x:Int):lH r (m8 r l x).2:=by
 refine⟨ok.fx,?_,?_,?_,ok.ep⟩
 .simp[m8,RowLearnt.next,ok.la]
 .simp[m8,RowLearnt.next,tw,ok.sl]
 .exact SM _ ok.sl (λs m=>(g.st s m).1) ok.st
def lH.back (ok:lH r l)(g:lJ r)(x:Int):lH r (kU r l x).2:=by
 refine⟨ok.fx,?_,?_,?_,ok.ep⟩
 .simp[kU,RowLearnt.next,ok.la]
 .simp[kU,RowLearnt.next,ED,ok.sl]
 .exact abv _ ok.sl (λs m=>(g.st s m).1) ok.st
def QT (f:RowLearnt->Int->Int×RowLearnt)(l:RowLearnt)(xs:bY)(x:Int):
  nz f l (xs++[x])=((nz f l xs).1++[(f (nz f l xs).2 x).1],(f (nz f l xs).2 x).2):=by
 unfold nz;rw[dB];rfl
def vN (f:RowLearnt->Int->Int×RowLearnt)(l:RowLearnt)(xs:bY):(nz f l xs).1.length=xs.length:=by
 have:∀(xs:bY) (a:bY×RowLearnt),(xs.foldl (λ(a:bY×RowLearnt) (x:Int)=>(a.1++[(f a.2 x).1],(f a.2 x).2)) a).1.length=a.1.length+xs.length:=by
  intro xs;induction xs with
  |nil=>intro a;rfl
  |cons x r ih=>intro a;rw[bR,ih];simp;lia
 unfold nz;rw[this];simp
def Ht {f:RowWay->RowLearnt->Int->Int×RowLearnt}(hf:∀l x,lH r l->lH r (f r l x).2)(ok:lH r l)(xs:bY):lH r (nz (f r) l xs).2:=by
 have:∀(xs:bY) (a:bY×RowLearnt),lH r a.2->lH r (xs.foldl (λ(a:bY×RowLearnt) (x:Int)=>(a.1++[(f r a.2 x).1],(f r a.2 x).2)) a).2:=by
  intro xs;induction xs with
  |nil=>intro a h;exact h
  |cons x r ih=>intro a h;rw[bR];exact ih _ (hf _ _ h)
 exact this xs _ ok
def ab7 (m:Nat)(hm:m<=3)(l r:Int):join m l r=if m=1 then(l,r-l) else if m=2 then(l-r,r) else if m=3 then((l+r) / 2,l-r) else(l,r):=by
 match m,hm with
 |0,_=>rfl
 |1,_=>rfl
 |2,_=>rfl
 |3,_=>
  show(uT (l+r) 2,l-r)=((l+r) / 2,l-r);rw[cu _ (by decide)]
def Wf (m:Nat)(hm:m<=3)(a b:Int):J8 m a b=if m=1 then(a,b+a) else if m=2 then(a+b,b) else if m=3 then((2*a+b%2+b) / 2,(2*a+b%2-b) / 2) else(a,b):=by
 match m,hm with
 |0,_=>rfl
 |1,_=>rfl
 |2,_=>rfl
 |3,_=>
  show(a+uT (b+1) 2,a+uT (b+1) 2-b)=((2*a+b%2+b) / 2,(2*a+b%2-b) / 2);rw[cu _ (by decide)];refine Prod.ext ?_ ?_
  .show a+(b+1) / 2=(2*a+b%2+b) / 2;lia
  .show a+(b+1) / 2-b=(2*a+b%2-b) / 2;lia
def Jn (g:Nat->Int->Int->Int×Int)(m:Nat)(a b:bY):bY:=(dO (g m) a b).map (·.1)
def Jo (g:Nat->Int->Int->Int×Int)(m:Nat)(a b:bY):bY:=(dO (g m) a b).map (·.2)
def Sm (f:Int->Int->Int×Int):∀(a b:bY),a.length=b.length->
  (aJ a.length).map (λt=>f (a.getD t 0) (b.getD t 0))=dO f a b:=λa b e=>tj (α:=Int) f a b e
theorem Av (g:Nat->Int->Int->Int×Int):∀(js:ig) (rows:ly) (i:Nat) (j:Nat) (a b:bY),js[i]? =some j->rows[2*i]? =some a->rows[2*i+1]? =some b->a.length=b.length->
  jW g (js.take (i+1)) rows=((jW g (js.take i) rows).set (2*i) (Jn g j a b)).set (2*i+1) (Jo g j a b)
 |[],rows,i,j,a,b,h,_,_,_=>by simp at h
 |j0::js,rows,0,j,a,b,h,ha,hb,e=>by
  simp at h;subst h
  match rows,ha,hb with
  |a0::b0::r,ha,hb=>
   simp at ha hb;subst ha;subst hb;have e1:=Sm (g j0) a0 b0 e;simp only[W6,N0,jW];have z1:(aJ a0.length).map (λt=>(g j0 (a0.getD t 0) (b0.getD t 0)).1)=Jn g j0 a0 b0:=by
    unfold Jn;rw[<-e1,ji];rfl
   have z2:(aJ a0.length).map (λt=>(g j0 (a0.getD t 0) (b0.getD t 0)).2)=Jo g j0 a0 b0:=by
    unfold Jo;rw[<-e1,ji];rfl
   rw[z1,z2];rfl
  |[a0],ha,hb=>simp at hb
  |[],ha,hb=>simp at ha
 |j0::js,rows,i+1,j,a,b,h,ha,hb,e=>by
  match rows,ha,hb with
  |a0::b0::r,ha,hb=>
   have ih:=Av g js r i j a b (by simpa using h) (by simpa[lG] using ha) (by simpa[lG] using hb) e;simp only[W6,jW];rw[ih];rfl
  |[a0],ha,hb=>simp[lG] at ha
  |[],ha,hb=>simp at ha
def o8 (g:Nat->Int->Int->Int×Int):∀rows:ly,jW g [] rows=rows
 |[]=>rfl
 |[_]=>rfl
 |_::_::_=>rfl
theorem gG (g:Nat->Int->Int->Int×Int):∀(js:ig) (rows:ly),(jW g js rows).length=rows.length
 |[],rows=>by rw[o8]
 |_::_,[]=>rfl
 |_::_,[_]=>rfl
 |j::js,a::b::r=>by simp[jW,gG g js r]
theorem nt (g:Nat->Int->Int->Int×Int):∀(js:ig) (rows:ly),(∀x∈rows,x.length=n)->∀x∈jW g js rows,x.length=n
 |[],rows,h=>by rw[o8];exact h
 |_::_,[],h=>h
 |_::_,[_],h=>h
 |j::js,a::b::r,h=>λx hx=>by
  have ih:=nt g js r λx m=>h x (by simp[m]);simp only[jW,bo] at hx;have ha:=h a (by simp);rcases hx with e|e|e
  .rw[e];simp[ha]
  .rw[e];simp[ha]
  .exact ih x e
structure FG (f:Form):Prop where
 b1:8<=f.bits
 b2:f.bits<=24
 c:f.cut<f.bits
 l:f.lanes=1\/f.lanes=4\/f.lanes=8\/f.lanes=16
 r1:1<=f.rows.length
 r4:f.rows.length<=4
 lS:∀r∈f.rows,lJ r
 jl:f.joint.length=f.rows.length / 2
 j3:∀j∈f.joint,j<=3
def XT (f:Form):N9 f=true↔FG f:=by
 unfold N9 BITS ROWS aa0 SX;have er:rightStage=λ(s:Stage)=>decide (1<=s.taps)&&(decide (s.taps<=16)&&(decide (1<=s.gain)&&(decide (s.gain<=1024)&&(decide (s.scale<=12)&&(!s.wide||(s.scale==0&&decide (s.taps<=8))))))):=rfl;rw[er];simp only[cO,decide_eq_true_eq,jq,beq_iff_eq,Wt,bo,JS,or_false,K3,Bool.not_eq_true'];constructor
 .rintro⟨h1,h2,h3,h4,h5,h6,h7,h8,h9⟩;refine⟨h1,h2,h3,h4,h5,h6,λr hr=>⟨(h7 r hr).1,(h7 r hr).2.1,λs hs=>?_⟩,h8,h9⟩;obtain⟨a1,a2,a3,a4,a5,a6⟩:=(h7 r hr).2.2 s hs;refine⟨a1,a2,a3,a4,a5,λhw=>?_⟩;rcases a6 with q|q
  .rw[hw] at q;cases q
  .exact q
 .rintro⟨h1,h2,h3,h4,h5,h6,h7,h8,h9⟩;refine⟨h1,h2,h3,h4,h5,h6,λr hr=>⟨(h7 r hr).fx,(h7 r hr).sn,λs hs=>?_⟩,h8,h9⟩;obtain⟨a1,a2,a3,a4,a5,a6⟩:=(h7 r hr).st s hs;refine⟨a1,a2,a3,a4,a5,?_⟩;cases hw:s.wide with
  |false=>exact .inl rfl
  |true=>exact .inr (a6 hw)
open LwBits LwSound
def ko (f:Form):Int:= -(2^(f.bits-1)) / 2^f.cut
def jR (f:Form):Int:=(2^(f.bits-1)-1) / 2^f.cut
def cutD (aS eps:bY)(x:Int):Int:=x-(sR aS eps+4) / 8
def HK (f:Form)(aS eps:bY)(x:Int):Int:=
 let v:=(cutD aS eps x+2^f.cut / 2) / 2^f.cut;let m:=if v<jR f then v else jR f
 if m>ko f then m else ko f
def Q_ (f:Form)(aS eps:bY)(x:Int):Int:=held (HK f aS eps x*2^f.cut-cutD aS eps x) 2147483647
def VP {a b:Nat}(h:b<=a):(2:Int)^a=2^(a-b)*2^b:=by
 rw[<-Int.pow_add];congr 1;omega
def two_pos (n:Nat):(0:Int)<2^n:=Int.pow_pos (by decide)
def yS {a b:Nat}(h:a<=b):(2:Int)^a<=2^b:=by
 have:=j_ (n:=2) (by decide) h;have e:∀n:Nat,(2:Int)^n=((2^n:Nat):Int):=λn=>by simp
 rw[e,e];exact um.mpr this
def acb (g:FG f):ko f=low f:=by
 unfold ko low;have h:f.cut<=f.bits-1:=by have:=g.c;omega
 rw[VP h,Int.neg_mul_eq_neg_mul,DG _ (UM (two_pos _))];simp
def abT (g:FG f):jR f=high f:=by
 unfold jR high;have:(1:Nat)<=2^(f.bits-1):=FJ;rw[n8,Md this];simp
def Pu (g:FG f):ko f<=jR f:=by
 unfold ko jR;refine Int.ediv_le_ediv (two_pos _) ?_;have:=two_pos (f.bits-1);lia
def IJ (g:FG f): -(2^23)<=ko f/\jR f<2^23:=by
 have h23:(2:Int)^(f.bits-1)<=2^23:=yS (by have:=g.b2;omega);have hc:=two_pos f.cut;constructor
 .unfold ko;refine Int.le_ediv_of_mul_le hc ?_;have:(1:Int)<=2^f.cut:=by omega
  have h2:(2:Int)^23*1<=2^23*2^f.cut:=sJ this (by decide);omega
 .unfold jR;refine Int.ediv_lt_of_lt_mul hc ?_;have:(1:Int)<=2^f.cut:=by omega
  have h2:(2:Int)^23*1<=2^23*2^f.cut:=sJ this (by decide);omega
structure sI (f:Form)(eps:bY):Prop where
 len:eps.length=4
 zero:f.cut=0->∀e∈eps,e=0
theorem Ll:∀{w h:bY},(∀e∈h,e=0)->sR w h=0
 |[],h,_=>by simp[sR]
 |a::w,[],_=>by simp[sR]
 |a::w,b::h,z=>by
  have e:sR (a::w) (b::h)=a*b+sR w h:=by simp[sR]
  rw[e,Ll (w:=w) (h:=h) (λe m=>z e (aP _ m)),z b (aU ..)];simp
def agk (s e:bY)(hs:s.length=4)(he:e.length=4):((aJ 4).map λ(j:Nat)=>s.getD j 0*e.getD j 0).foldl (λ(a b:Int)=>a+b) 0=sR s e:=by
 have h:=tj (α:=Int) (λa b=>a*b) s e (hs.trans he.symm);rw[hs] at h;rw[h,foldl_add];unfold sR;lia
def Cv:cA f x=true↔ -(2^(f.bits-1))<=x/\x<=2^(f.bits-1)-1:=by
 unfold cA;rw[cO,decide_eq_true_eq,decide_eq_true_eq];have e:((2^(f.bits-1):Nat):Int)=2^(f.bits-1):=by simp
 rw[e];lia
def Lj {eps:bY}(g:FG f)(hs:aS.length=4)(he:sI f eps)(hx:cA f x=true):
  zA f aS eps x=(HK f aS eps x,Q_ f aS eps x):=by
 obtain⟨x1,x2⟩:=Cv.mp hx;unfold zA;by_cases hc:f.cut=0
 .rw[aj hc];have z:=Ll (w:=aS) (he.zero hc);have ed:cutD aS eps x=x:=by unfold cutD;rw[z];lia
  have ey:HK f aS eps x=x:=by
   unfold HK ko jR;rw[ed,hc];simp only[Int.pow_zero,Int.ediv_one];have h1:(1:Int) / 2=0:=by decide
   rw[h1,Int.add_zero];by_cases a:x<2^(f.bits-1)-1
   .rw[aj a];by_cases b:x> -2^(f.bits-1)
    .rw[aj b]
    .rw[ah b];lia
   .rw[ah a];have:=two_pos (f.bits-1);rw[aj (by lia)];lia
  unfold Q_;rw[ey,ed,hc];have h0:x*2^0-x=0:=by simp
  rw[h0];rfl
 .rw[ah hc,agk aS eps hs he.len];have ed:x-uT (sR aS eps+4) 8=cutD aS eps x:=by
   unfold cutD;rw[cu _ (by decide)]
  have ep:((2^f.cut / 2:Nat):Int)=2^f.cut / 2:=by simp
  have ep2:((2^f.cut:Nat):Int)=2^f.cut:=by simp
  simp only[ed,ep,ep2,Tw,<-acb g,<-abT g];have hl:=Pu g;have ey:(if(cutD aS eps x+2^f.cut / 2) / 2^f.cut<ko f then ko f else if jR f<(cutD aS eps x+2^f.cut / 2) / 2^f.cut then jR f else(cutD aS eps x+2^f.cut / 2) / 2^f.cut)=HK f aS eps x:=by
   unfold HK;generalize(cutD aS eps x+2^f.cut / 2) / 2^f.cut=v;show _=if(if v<jR f then v else jR f)>ko f then(if v<jR f then v else jR f) else ko f
   by_cases a:v<jR f<;>by_cases b:v<ko f<;>simp[a,b]<;>lia
  rw[ey];rfl
def HL (g:FG f)(aS eps:bY)(x:Int):ko f<=HK f aS eps x/\HK f aS eps x<=jR f:=by
 unfold HK;have hl:=Pu g;generalize(cutD aS eps x+2^f.cut / 2) / 2^f.cut=v;show ko f<=(if(if v<jR f then v else jR f)>ko f then(if v<jR f then v else jR f) else ko f)/\(if(if v<jR f then v else jR f)>ko f then(if v<jR f then v else jR f) else ko f)<=jR f;by_cases a:v<jR f<;>by_cases b:v>ko f<;>simp[a,b]<;>(try split)<;>lia
def sI.next {eps:bY}(g:FG f)(hs:aS.length=4)(he:sI f eps)(hx:cA f x=true):sI f ((zA f aS eps x).2::eps.take 3):=by
 refine⟨by simp[he.len],λhc e hm=>?_⟩;rcases bo.mp hm with q|q
 .rw[q];unfold zA;rw[aj hc]
 .exact he.zero hc e (fb q)
def sI.nil (f:Form):sI f [0,0,0,0]:=⟨Z,λ_ e h=>by simpa using h⟩
def OF (f:Form)(aS eps xs:bY)(x:Int):
  zB f aS eps (xs++[x])=((zB f aS eps xs).1++[(zA f aS (zB f aS eps xs).2 x).1],(zA f aS (zB f aS eps xs).2 x).2::(zB f aS eps xs).2.take 3):=by
 unfold zB;rw[dB];rfl
def A2 {eps:bY}(g:FG f)(hs:aS.length=4)(he:sI f eps)(xs:bY)(hx:∀x∈xs,cA f x=true):sI f (zB f aS eps xs).2:=by
 have:∀(xs:bY) (a:bY×List Int),(∀x∈xs,cA f x=true)->sI f a.2->sI f (xs.foldl (λ(a:bY×List Int) (x:Int)=>(a.1++[(zA f aS a.2 x).1],(zA f aS a.2 x).2::a.2.take 3)) a).2:=by
  intro xs;induction xs with
  |nil=>intro a _ h;exact h
  |cons x r ih=>intro a hx h;rw[bR];exact ih _ (λy m=>hx y (aP _ m)) (h.next g hs (hx x (aU ..)))
 exact this xs _ hx he
def qk (f:Form)(aS eps xs:bY):(zB f aS eps xs).1.length=xs.length:=by
 have:∀(xs:bY) (a:bY×List Int),(xs.foldl (λ(a:bY×List Int) (x:Int)=>(a.1++[(zA f aS a.2 x).1],(zA f aS a.2 x).2::a.2.take 3)) a).1.length=a.1.length+xs.length:=by
  intro xs;induction xs with
  |nil=>intro a;rfl
  |cons x r ih=>intro a;rw[bR,ih];simp;lia
 unfold zB;rw[this];simp
def B7 {eps:bY}(g:FG f)(hs:aS.length=4)(he:sI f eps)(xs:bY)(hx:∀x∈xs,cA f x=true):∀y∈(zB f aS eps xs).1,ko f<=y/\y<=jR f:=by
 have:∀(xs:bY) (a:bY×List Int),(∀x∈xs,cA f x=true)->sI f a.2->(∀y∈a.1,ko f<=y/\y<=jR f)->∀y∈(xs.foldl (λ(a:bY×List Int) (x:Int)=>(a.1++[(zA f aS a.2 x).1],(zA f aS a.2 x).2::a.2.take 3)) a).1,ko f<=y/\y<=jR f:=by
  intro xs;induction xs with
  |nil=>intro a _ _ h;exact h
  |cons x r ih=>
   intro a hx h hy;rw[bR];refine ih _ (λy m=>hx y (aP _ m)) (h.next g hs (hx x (aU ..))) λy hm=>?_;rcases de.mp hm with q|q
   .exact hy y q
   .rw[f_.mp q,Lj g hs h (hx x (aU ..))];exact HL g _ _ _
 exact this xs _ hx he λy h=>by simp at h
open LwBits LwSound
structure Af (m:Model):Prop where
 len:m.begins.length=64
 slow:m.slow=6
 seen:m.seen<=65535
 zero:m.begins[0]? =some 0
 inc:∀(i:Nat) (a b:Nat),m.begins[i]? =some a->m.begins[i+1]? =some b->a<b
 top:∀a∈m.begins,a<32768
def Cf (h:i<64):(even 64 6).begins[i]? =some (512*i):=by
 unfold even;simp only[aw,bD h,eY];congr 1;unfold ALL;lia
def Af.even:Af (even 64 6):=by
 refine⟨by simp[gc],Z,by simp[gc],Cf (by lia),λi a b ha hb=>?_,λa ha=>?_⟩
 .have h1:i+1<64:=by
   have:=(aN.mp hb).1;simpa[gc] using this
  rw[Cf (by lia)] at ha;rw[Cf h1] at hb;cases ha;cases hb;lia
 .obtain⟨i,hi⟩:=j5 ha;have h1:i<64:=by
   have:=(aN.mp hi).1;simpa[gc] using this
  rw[Cf h1] at hi;cases hi;lia
def jd (m:Model)(s i:Nat):Nat:=(m.begins.getD i 0*(2^m.rate-1)+(if i<=s then i else 32768-(64-i))) / 2^m.rate
def Sw (ok:Af m){s:Nat}(hs:s<64):
  (m.saw s).begins=0::((aJ s).map (λk=>jd m s (1+k))++(aJ (63-s)).map (λk=>jd m s (s+1+k))):=by
 have hn:m.n=64:=ok.len;apply qe;intro i;unfold Model.saw;simp only[hn,ALL];rw[aw];by_cases hi:i<64
 .rw[bD hi]
  match i,hi with
  |0,_=>rfl
  |i+1,hi=>
   rw[QN];simp only[eY,Nat.add_one_ne_zero,if_false];by_cases h1:i<s
   .rw[jU (by simpa using h1),aw,bD h1];simp only[eY,jd];rw[UT 1 i]
   .rw[gK (by simpa using Nat.le_of_not_lt h1),aw,aB,iN,bD (by omega)];simp only[eY,jd];rw[uV,i7 (i4.mp h1)]
 .rw[ib (by simpa using hi)]
  symm
  rw[Option.map_none,ib];simp;omega
def GY (ok:Af m){s:Nat}(hi:i<64):(m.saw s).begins[i]? =some (if i=0 then 0 else jd m s i):=by
 have hn:m.n=64:=ok.len;unfold Model.saw jd;simp only[hn,ALL];rw[aw,bD hi];rfl
def Af.Qg (ok:Af m):1<=m.rate/\m.rate<=6:=by
 unfold Model.rate;rw[ok.slow];exact⟨Nat.le_min.mpr ⟨by decide,jw ..⟩,fw ..⟩
def Af.MX (ok:Af m)(i:Nat):m.begins.getD i 0<32768:=by
 rw[aG];cases h:m.begins[i]? with
 |none=>simp
 |some a=>exact ok.top a (az h)
def Af.getD_some (ok:Af m)(h:i<64):m.begins[i]? =some (m.begins.getD i 0):=by
 rw[aG];cases e:m.begins[i]? with
 |none=>exact absurd (List.getElem?_eq_none_iff.mp e) (by rw[ok.len];lia)
 |some a=>rfl
def Af.saw (ok:Af m){s:Nat}(hs:s<64):Af (m.saw s):=by
 have iQ:(m.saw s).begins.length=64:=by
  unfold Model.saw;show(List.map _ (aJ m.n)).length=64;rw[aB,iN];exact ok.len
 have hr:=ok.Qg;have hp:2<=2^m.rate:=by
  have:=j_ (n:=2) (by decide) hr.1;simpa using this
 have hT:∀i,i<63->(if i<=s then i else 32768-(64-i))+1<=(if i+1<=s then i+1 else 32768-(64-(i+1))):=λi hi=>by
  by_cases a:i+1<=s
  .rw[aj a,aj (iW a)];exact bq _
  .rw[ah a];by_cases b:i<=s
   .rw[aj b];exact(by decide+kernel:∀i:Nat,i<63->i+1<=32768-(64-(i+1))) i hi
   .rw[ah b];exact(by decide+kernel:∀i:Nat,i<63->32768-(64-i)+1<=32768-(64-(i+1))) i hi
 refine⟨iQ,ok.slow,?_,by rw[GY ok (by lia)];rfl,λi a b ha hb=>?_,λa ha=>?_⟩
 .exact fw ..
 .have h1:i+1<64:=by
   exact iQ ▸ (aN.mp hb).1
  rw[GY ok (by lia)] at ha;rw[GY ok h1] at hb;cases ha;cases hb;rw[ah (show¬i+1=0 by lia)];have hgt:=ok.inc i _ _ (ok.getD_some (by lia)) (ok.getD_some h1);have hTi:=hT i (Nat.lt_of_succ_lt_succ h1);have fA:(if i=0 then 0 else jd m s i)<=jd m s i:=by split;exact eU _;exact bq _
  refine jJ fA ?_;unfold jd;generalize(if i<=s then i else 32768-(64-i))=T1 at hTi|-
  generalize(if i+1<=s then i+1 else 32768-(64-(i+1)))=T2 at hTi|-
  generalize m.begins.getD i 0=B1 at hgt|-
  generalize m.begins.getD (i+1) 0=B2 at hgt|-
  generalize 2^m.rate=R at hp|-
  have h2:B1*(R-1)+(R-1)<=B2*(R-1):=by
   have:=iJ (R-1) (show B1+1<=B2 from hgt);rw[K8,Xe] at this;exact this
  have h3:B1*(R-1)+T1+R<=B2*(R-1)+T2:=by lia
  have h4:=Nat.div_le_div_right (c:=R) h3;rw[Nat.add_div_right _ (adE hp)] at h4;exact h4
 .obtain⟨i,hi⟩:=j5 ha;have h1:i<64:=by
   exact iQ ▸ (aN.mp hi).1
  rw[GY ok h1] at hi;cases hi;split
  .lia
  .unfold jd;have hB:=ok.MX i;have Yf:(if i<=s then i else 32768-(64-i))<=32767:=by
    split
    .exact bt (cG h1) (by decide)
    .exact(by decide+kernel:∀i:Nat,i<64->32768-(64-i)<=32767) i h1
   generalize(if i<=s then i else 32768-(64-i))=T1 at Yf|-
   generalize m.begins.getD i 0=B1 at hB|-
   generalize 2^m.rate=R at hp|-
   rw[Wy (adE hp)];have:=iJ (R-1) (show B1<=32767 from He hB);have e:32768*R=32767*(R-1)+(32767+R):=by
    obtain⟨k,rfl⟩:∃k,R=k+1:=⟨R-1,(jK (iW hp)).symm⟩;rw[FE];lia
   lia
def A0 (m:Model):ig:=m.begins++[32768]
def Ov (ok:Af m):(A0 m).length=65:=by simp[A0,ok.len]
def Xt (ok:Af m){s:Nat}(hs:s<=64):(A0 m)[s]? =some (m.begin_ s):=by
 unfold A0 Model.begin_ ALL;have hn:m.n=64:=ok.len;rw[hn];by_cases h:s<64
 .rw[aj h,jU (by rw[ok.len];exact h)];exact ok.getD_some h
 .rw[ah h,gK (by rw[ok.len];exact i4.mp h),ok.len,WC hs];rfl
def Hz (ok:Af m){s:Nat}(hs:s<64):m.begin_ s<m.begin_ (s+1):=by
 have hn:m.n=64:=ok.len;unfold Model.begin_ ALL;rw[hn,aj hs];by_cases h:s+1<64
 .rw[aj h];exact ok.inc s _ _ (ok.getD_some hs) (ok.getD_some h)
 .rw[ah h];exact ok.MX s
def QW (ok:Af m):m.begin_ 0=0:=by
 have hn:m.n=64:=ok.len;unfold Model.begin_;rw[hn,aj (by decide),aG,ok.zero];rfl
def Hy (ok:Af m){s:Nat}(hs:s<=64):m.begin_ s<=32768:=by
 have hn:m.n=64:=ok.len;unfold Model.begin_ ALL;rw[hn];split
 .exact cG (ok.MX s)
 .lia
theorem vQ (ok:Af m):∀{d s:Nat},s+d<=64->m.begin_ s<=m.begin_ (s+d)
 |0,s,_=>bq _
 |d+1,s,h=>bt (vQ ok (d:=d) (s:=s) (by lia)) (cG (Hz ok (s:=s+d) (by lia)))
def LW (ok:Af m){s:Nat}(hs:s<64):0<m.share s/\m.share s<=32768:=by
 have h1:=Hz ok hs;exact⟨Hg h1,bt (lO ..) (Hy ok (s:=s+1) hs)⟩
def at_of (ok:Af m){s k:Nat}(hs:s<64)(h1:m.begin_ s<=k)(h2:k<m.begin_ (s+1)):m.at_ k=s:=by
 have hn:m.n=64:=ok.len;unfold Model.at_;have low:∀i,i<=s->m.begins.getD i 0<=k:=λi hi=>by
  have e:=i7 hi;have:=vQ ok (d:=s-i) (s:=i) (by rw[e];exact cG hs);rw[e] at this;unfold Model.begin_ at this h1;rw[hn,aj (jJ hi hs),aj hs] at this;rw[hn,aj hs] at h1;exact bt this h1
 have hig:∀i,s<i->i<64->k<m.begins.getD i 0:=λi hi Ir=>by
  have e1:=i7 hi;have:=vQ ok (d:=i-(s+1)) (s:=s+1) (by rw[e1];exact cG Ir);rw[e1] at this;have e:m.begin_ i=m.begins.getD i 0:=by unfold Model.begin_;rw[hn,aj Ir]
  rw[e] at this;exact a_ h2 this
 have split:m.begins=m.begins.take (s+1)++m.begins.drop (s+1):=(qX _ _).symm;rw[split,List.filter_append];have f1:(m.begins.take (s+1)).filter (λb=>decide (b<=k))=m.begins.take (s+1):=by
  refine List.filter_eq_self.mpr λa ha=>?_;obtain⟨i,hi⟩:=j5 ha;have hl:=(aN.mp hi).1;rw[cP] at hl;have hl:=a_ hl (fw ..);rw[wM hl] at hi;have:=low i (He hl);rw[aG,hi] at this;exact ag this
 have f2:(m.begins.drop (s+1)).filter (λb=>decide (b<=k))=[]:=by
  refine List.filter_eq_nil_iff.mpr λa ha=>?_;obtain⟨i,hi⟩:=j5 ha;have hl:=(aN.mp hi).1;rw[dY,ok.len] at hl;rw[aax] at hi;have:=hig (s+1+i) (jw ..) (Wx hl);rw[aG,hi] at this;simp at this|-
  exact this
 rw[f1,f2,fX,cP,ok.len,eQ hs];rfl
def abt (ok:Af m){k:Nat}(hk:k<32768):∃s,s<64/\m.begin_ s<=k/\k<m.begin_ (s+1):=by
 have:∀n,n<=64->k<m.begin_ n->∃s,s<n/\m.begin_ s<=k/\k<m.begin_ (s+1):=by
  intro n;induction n with
  |zero=>intro _ h;rw[QW ok] at h;lia
  |succ n ih=>
   intro h1 h2;by_cases h:k<m.begin_ n
   .obtain⟨s,a,b,c⟩:=ih (by lia) h;exact⟨s,by lia,b,c⟩
   .exact⟨n,by lia,by lia,h2⟩
 have e:m.begin_ 64=32768:=by
  have hn:m.n=64:=ok.len;unfold Model.begin_ ALL;rw[hn,ah (by decide)]
 exact this 64 (bq _) (by rw[e];exact hk)
def Ti (ok:Af m){k:Nat}(hk:k<32768):m.at_ k<64/\m.begin_ (m.at_ k)<=k/\k<m.begin_ (m.at_ k+1):=by
 obtain⟨s,a,b,c⟩:=abt ok hk;have e:=at_of ok a b c;rw[e];exact⟨a,b,c⟩
def oK (ms:BK):Prop:=∀m∈ms,Af m
def Od (n:Nat):Item->Prop
 |.sym m s=>m<n/\s<64
 |.plain b v=>1<=b/\b<=15/\v<2^b
def yQ (ms:BK)(it:Item):(aaY ms it).length=ms.length:=by
 cases it<;>simp[aaY]
def qx (l:List Item):∀ms:BK,(BM ms l).length=ms.length:=by
 induction l with
 |nil=>intro ms;rfl
 |cons a r ih=>intro ms;show(BM (aaY ms a) r).length=_;rw[ih,yQ]
def oK.item {ms:BK}(h:oK ms){it:Item}(hi:Od ms.length it):oK (aaY ms it):=by
 cases it with
 |plain b n=>exact h
 |sym m s=>
  intro x hx;obtain⟨i,Ir⟩:=j5 hx;have Ir:(ms.modify m λ(x:Model)=>x.saw s)[i]? =some x:=Ir;rw[rY] at Ir;cases e:ms[i]? with
  |none=>rw[e] at Ir;simp at Ir
  |some y=>
   rw[e] at Ir;have hy:=h y (az e);have hi2:(if m=i then y.saw s else y)=x:=bh Ir;by_cases q:m=i
   .rw[aj q] at hi2;rw[<-hi2];exact hy.saw hi.2
   .rw[ah q] at hi2;rw[<-hi2];exact hy
def oK.all (l:List Item):∀{ms:BK},ms.length=n->oK ms->(∀it∈l,Od n it)->oK (BM ms l):=by
 induction l with
 |nil=>intro ms _ h _;exact h
 |cons a r ih=>
  intro ms hn h hi;show oK (BM (aaY ms a) r);exact ih (by rw[yQ];exact hn) (h.item (by rw[hn];exact hi a (aU ..))) λit m=>hi it (aP _ m)
def waitOf (l:List Item):List (Nat×Nat):=l.filterMap λ
 |.sym m s=>some (m,s)
 |.plain _ _=>none
def Fo (l:List Item):∀ms:BK,BM ms l=(waitOf l).foldl (λ(ms:BK) (p:Nat×Nat)=>ms.modify p.1 λ(x:Model)=>x.saw p.2) ms:=by
 induction l with
 |nil=>intro ms;rfl
 |cons a r ih=>
  intro ms;cases a with
  |sym m s=>
   show BM (ms.modify m λ(x:Model)=>x.saw s) r=_;rw[ih];rfl
  |plain b n=>
   show BM ms r=_;rw[ih];rfl
structure xp where
 ms:BK
 gr:List Item
 out:List (Nat×Nat)
def kr (n:Nat)(a:xp)(it:Item):xp:=
 if(a.gr++[it]).length=n then⟨BM a.ms (a.gr++[it]),[],a.out++[it.share a.ms]⟩ else⟨a.ms,a.gr++[it],a.out++[it.share a.ms]⟩
def VQ (t:List Item):∀(a:xp),a.gr.length+t.length<=n->t≠[]->t.foldl (kr n) a=
  if a.gr.length+t.length=n then⟨BM a.ms (a.gr++t),[],a.out++t.map (Item.share a.ms)⟩ else⟨a.ms,a.gr++t,a.out++t.map (Item.share a.ms)⟩:=by
 induction t with
 |nil=>intro a _ h;exact absurd rfl h
 |cons x r ih=>
  intro a hl _;rw[bR];by_cases hr:r=[]
  .subst hr;simp only[BD,cy,yY];unfold kr;rw[aO]
   try rfl
  .have rT:0<r.length:=W5.mpr hr;rw[aZ] at hl;have e:kr n a x=⟨a.ms,a.gr++[x],a.out++[x.share a.ms]⟩:=by
    unfold kr;rw[ah (by rw[aO];simp;lia)]
   rw[e,ih _ (by simp;lia) hr];simp only[aO,aZ,dW,cC,xB,tG,cy];rw[show a.gr.length+(0+1)+r.length=a.gr.length+(r.length+1) by lia]
def Sy (hn:1<=n):∀(f:Nat) (ms:BK) (l:List Item) (qI:List (Nat×Nat)),l.length<f->(l.foldl (kr n) ⟨ms,[],qI⟩).out=qI++UB n f ms l:=by
 intro f;induction f with
 |zero=>intro ms l qI h;lia
 |succ f ih=>
  intro ms l qI h;by_cases hl:l=[]
  .subst hl;simp[UB]
  .have hs:l.foldl (kr n) ⟨ms,[],qI⟩=(l.drop n).foldl (kr n) ((l.take n).foldl (kr n) ⟨ms,[],qI⟩):=by
    rw[<-dB,qX]
   have rT:0<l.length:=W5.mpr hl;have ht:l.take n≠[]:=λe=>by
    have h0:=congrArg lA e;rw[cP,dW] at h0;lia
   rw[hs,VQ (l.take n) ⟨ms,[],qI⟩ (by simp;lia) ht];simp only[UB,ah hl,dW,Hi,tG];by_cases hf:(l.take n).length=n
   .rw[aj hf,ih _ _ _ (by rw[dY];lia),cC]
   .rw[ah hf];have:l.drop n=[]:=by
     rw[cP] at hf;exact yX (by lia)
    rw[this];have e0:∀f ms,UB n f ms []=[]:=λf ms=>by cases f<;>simp[UB]
    rw[e0];simp
def VX (hn:1<=n)(ms:BK)(l:List Item):shares n ms l=(l.foldl (kr n) ⟨ms,[],[]⟩).out:=by
 rw[Sy hn (l.length+1) ms l [] (by lia)];rfl
def KW (f cY n:Nat)(h:cY≠0):BL (f+1) cY n=.plain (min 15 cY) (n%2^min 15 cY)::BL f (cY-min 15 cY) (n / 2^min 15 cY):=by
 show(if cY=0 then[] else if cY<=15 then[.plain cY (n%2^cY)] else .plain 15 (n%32768)::BL f (cY-15) (n / 32768))=_;rw[ah h];by_cases hb:cY<=15
 .rw[aj hb,k_ hb,lP];cases f<;>simp[BL]
 .rw[ah hb,eQ (by lia)]
def Gr (f n:Nat):BL f 0 n=[]:=by cases f<;>simp[BL]
def YR (h:n≠0):n%2^n.log2=n-2^n.log2:=by
 have h1:=aeW h;have h2:n<2^(n.log2+1):=Nat.lt_log2_self;rw[amJ] at h2;rw[Nat.mod_eq_sub_mod h1,n_ (by omega)]
def NA {l:List (Nat×Nat)}{b s:Nat}(h:l[i]? =some (b,s)):Gy n i (l.drop i)=
  ((Gy n (i+1) (l.drop (i+1))).1.set (i%n) (push ((Gy n (i+1) (l.drop (i+1))).1.getD (i%n) 0) b s).2,(push ((Gy n (i+1) (l.drop (i+1))).1.getD (i%n) 0) b s).1.toList++(Gy n (i+1) (l.drop (i+1))).2):=by
 have e:l.drop i=(b,s)::l.drop (i+1):=by
  rw[cV (aN.mp h).1];obtain⟨h1,h2⟩:=aN.mp h;rw[h2]
 rw[e];rfl
def Fl {l:List (Nat×Nat)}:Gy n l.length (l.drop l.length)=(aM n LOW,[]):=by
 rw[rq];rfl
theorem t7:∀(l:List (Nat×Nat)) (i:Nat),(Gy n i l).1.length=n
 |[],i=>by simp[Gy]
 |(b,s)::r,i=>by
  show(ahg _ _ _).length=n;rw[ff];exact t7 r (i+1)
theorem zh:∀(w n:Nat),(le w n).length=w
 |0,_=>rfl
 |w+1,n=>by simp[le,zh w]
theorem YJ:∀(w n i:Nat),i<w->(le w n)[i]? =some (AW (n / 2^(8*i)%256))
 |0,_,_,h=>by lia
 |w+1,n,0,_=>by simp[le]
 |w+1,n,i+1,h=>by
  show(le w (n / 256))[i]? =_;rw[YJ w (n / 256) i (by lia),UU,show 2^(8*(i+1))=256*2^(8*i) by rw[lG,wO];lia]
def br (b:rJ):bY:=b.map λ(c:UInt8)=>(c.toNat:Int)
def bP (a b:rJ):br (a++b)=br a++br b:=by simp[br]
def eA (a:rJ):(br a).length=a.length:=by simp[br]
def aca (w n:Nat):br (le w n)=(aJ w).map λi=>((n / 2^(8*i)%256:Nat):Int):=by
 apply qe;intro i;unfold br;rw[aw,aw];by_cases h:i<w
 .rw[YJ _ _ _ h,bD h];simp
 .rw[ib (by rw[zh];lia),ib (by simpa using h)];rfl
def xU (b:rJ):∀x∈br b,0<=x/\x<=255:=λx hx=>by
 obtain⟨c,_,e⟩:=bj.mp hx;have:=c.toNat_lt;rw[<-e];constructor
 .exact jI _
 .have h2:c.toNat<=255:=by lia
  exact um.mpr h2
open LwBits LwSound
def mf (f:Nat)(r:iF):qM f 0 r=some (0,r):=by cases f<;>simp[qM]
theorem yM:∀(f f' cY:Nat) (r:iF),cY<=15*f->cY<=15*f'->qM f cY r=qM f' cY r
 |0,f',cY,r,h,_=>by
  have:cY=0:=by lia
  subst this;rw[mf,mf]
 |f+1,0,cY,r,_,h=>by
  have:cY=0:=by lia
  subst this;rw[mf,mf]
 |f+1,f'+1,cY,r,h,h'=>by
  unfold qM;by_cases hb:cY=0
  .rw[aj hb,aj hb]
  .rw[ah hb,ah hb];have ih:∀u,qM f (cY-min 15 cY) u=qM f' (cY-min 15 cY) u:=λu=>yM f f' _ u (pD h) (pD h');simp only[ih]
def pw (iY done cY:Nat)(r:iF):Option (Nat×iF):=(qM 8 (cY-done) r).map λ(y:Nat×iF)=>(iY+2^done*y.1-1,y.2)
def Qj {iY done cY:Nat}{r:iF}(h:cY<=done):pw iY done cY r=some (iY-1,r):=by
 unfold pw;rw[show cY-done=0 by lia,mf];simp
def NF {iY done cY:Nat}{r:iF}(h:done<cY)(hb:cY<=64):pw iY done cY r=
  (r.next (.plain (min 15 (cY-done)))).bind λ(x:Item×iF)=>pw (iY+aaZ x.1*2^done) (done+min 15 (cY-done)) cY x.2:=by
 unfold pw;rw[yM 8 9 (cY-done) r (by lia) (by lia)];show((if cY-done=0 then some (0,r) else(r.next (.plain (min 15 (cY-done)))).bind λ(x:Item×iF)=>(qM 8 (cY-done-min 15 (cY-done)) x.2).map λ(y:Nat×iF)=>(aaZ x.1+2^min 15 (cY-done)*y.1,y.2)).map _)=_;rw[ah (by lia)];cases r.next (.plain (min 15 (cY-done))) with
 |none=>rfl
 |some x=>
  rw[m5,m5,show cY-(done+min 15 (cY-done))=cY-done-min 15 (cY-done) by lia];cases qM 8 (cY-done-min 15 (cY-done)) x.2 with
  |none=>rfl
  |some y=>
   simp only[eY];congr 2;rw[lG,wO,alf,jn (2^done) (aaZ x.1)];lia
def Gv (r:iF)(m:Nat):xg r m=(r.next (.sym m)).bind λ(x:Item×iF)=>pw (2^aaZ x.1) 0 (aaZ x.1) x.2:=by
 unfold xg pw;simp
structure ROk (n:Nat)(r:iF):Prop where
 ln:r.lanes=n
 n1:1<=n
 st:r.states.length=n
 gr:r.group.length<n
 ml:oK r.models
 go:∀it∈r.group,Od r.models.length it
def AE (r:iF)(it:Item):Nat:=pop (r.states.getD r.group.length 0) (it.share r.models).1 (it.share r.models).2
def pass (r:iF)(it:Item)(y:Nat)(words:ig):iF:=
 {r with states:=r.states.set r.group.length y,words:=words,models:=if(r.group++[it]).length=r.lanes then BM r.models (r.group++[it]) else r.models,group:=if(r.group++[it]).length=r.lanes then[] else r.group++[it]}
def Ni (r:iF)(w:Want):r.next w=(let it:=w.item r.models (r.states.getD r.group.length 0%32768)
  if 65536<=AE r it then some (it,pass r it (AE r it) r.words) else match r.words with
   |[]=>none
   |u::t=>some (it,pass r it (AE r it*65536+u) t)):=rfl
def acm {r:iF}(ok:ROk n r){it:Item}(hi:Od r.models.length it)(y:Nat)(words:ig):ROk n (pass r it y words)/\(pass r it y words).models.length=r.models.length:=by
 have oH:∀x∈r.group++[it],Od r.models.length x:=λx hx=>by
  rcases de.mp hx with q|q
  .exact ok.go x q
  .rw[f_.mp q];exact hi
 by_cases hf:(r.group++[it]).length=r.lanes
 .have em:(pass r it y words).models=BM r.models (r.group++[it]):=by unfold pass;simp only[aj hf]
  have eg:(pass r it y words).group=[]:=by unfold pass;simp only[aj hf]
  refine⟨⟨ok.ln,ok.n1,by show(ahg _ _ _).length=n;rw[ff];exact ok.st,by rw[eg];exact ok.n1,by rw[em];exact oK.all _ rfl ok.ml oH,by rw[eg];intro x hx;simp at hx⟩,by rw[em,qx]⟩
 .have em:(pass r it y words).models=r.models:=by unfold pass;simp only[ah hf]
  have eg:(pass r it y words).group=r.group++[it]:=by unfold pass;simp only[ah hf]
  have hl:=ok.gr;rw[aO,ok.ln] at hf;simp only[aZ,dW] at hf;refine⟨⟨ok.ln,ok.n1,by show(ahg _ _ _).length=n;rw[ff];exact ok.st,by rw[eg,aO,aZ,dW];lia,by rw[em];exact ok.ml,by rw[em,eg];exact oH⟩,by rw[em]⟩
def Ft {r:iF}(ml:oK r.models){m:Nat}{x:Model}(h:r.models[m]? =some x)(k:Nat)(hk:k<32768):Want.item r.models k (.sym m)=.sym m (x.at_ k)/\Od r.models.length (.sym m (x.at_ k)):=by
 refine⟨?_,(aN.mp h).1,(Ti (ml x (az h)) hk).1⟩;show Item.sym m (match r.models[m]? with|some x=>x.at_ k|none=>0)=_;rw[h]
def AI {ms:BK}{b k:Nat}(h1:1<=b)(h2:b<=15)(hk:k<32768):Want.item ms k (.plain b)=.plain b (k / 2^(15-b))/\Od ms.length (.plain b (k / 2^(15-b))):=by
 refine⟨Z,h1,h2,?_⟩;rw[Wy (pF _),<-wO,show b+(15-b)=15 by omega];exact hk
def readChunk (uF rows r:Nat):ig->iF->Except Bad (ig×iF)
 |[],rd=>.ok ([],rd)
 |t::ts,rd=>match xg rd uF with
  |none=>.error .short
  |some (z,u)=>if MOST<z then .error (.large (t*rows+r)) else match readChunk uF rows r ts u with
   |.error e=>.error e
   |.ok (l,v)=>.ok (z::l,v)
theorem vn {uF rows r:Nat}:∀{ts:ig} {rd:iF} {l:ig} {v:iF},readChunk uF rows r ts rd=.ok (l,v)->l.length=ts.length
 |[],rd,l,v,h=>by
  simp only[readChunk,Wn,adI] at h;rw[<-h.1]
 |t::ts,rd,l,v,h=>by
  unfold readChunk at h;cases e:xg rd uF with
  |none=>rw[e] at h;cases h
  |some p=>
   obtain⟨z,u⟩:=p;rw[e] at h;simp only at h;by_cases hz:MOST<z
   .rw[aj hz] at h;cases h
   .rw[ah hz] at h;cases e2:readChunk uF rows r ts u with
    |error x=>rw[e2] at h;cases h
    |ok q=>
     obtain⟨l',v'⟩:=q;rw[e2] at h;simp only[Wn,adI] at h;rw[<-h.1,aZ,aZ,vn e2]
def Mq {zs:List (ig)}{k r:Nat}{l:ig}(h:16*(k+1)<=(zs.getD r []).length):JP (zs.set r (zs.getD r []++l)) k r=JP zs k r:=by
 unfold JP;by_cases hr:r<zs.length
 .have e:(zs.set r (zs.getD r []++l)).getD r []=zs.getD r []++l:=by
   rw[aG,eF hr];rfl
  rw[e,List.drop_append,List.take_append,dY];have:16-((zs.getD r []).length-16*k)=0:=WC (WB h);rw[this,N0,fX]
 .rw[List.set_eq_of_length_le (by omega)]
def OD {zs:List (ig)}{k r r':Nat}{x:ig}(h:r'≠r):JP (zs.set r' x) k r=JP zs k r:=by
 unfold JP;rw[aG,iE h,<-aG]
def acE {zs:List (ig)}{r:Nat}(hr:r<zs.length)(a b:ig):(zs.set r (zs.getD r []++a)).set r ((zs.set r (zs.getD r []++a)).getD r []++b)=zs.set r (zs.getD r []++(a++b)):=by
 have e:(zs.set r (zs.getD r []++a)).getD r []=zs.getD r []++a:=by
  rw[aG,eF hr];rfl
 rw[e,List.set_set,cC]
def set_nil {zs:List (ig)}{r:Nat}(hr:r<zs.length):zs.set r (zs.getD r []++[])=zs:=by
 apply qe;intro i;by_cases h:i=r
 .subst h;rw[eF hr,fX,aG,aD hr];rfl
 .rw[iE (eK h)]
def Gw (rows r t:Nat)(l:List (Nat×Nat))(rd:iF)(zs:List (ig)):xh rows ((r,t)::l) rd zs=
  match xg rd (modelOf r (if t / 16=0 then[] else JP zs (t / 16-1) r)) with
  |none=>.error .short
  |some (z,u)=>if MOST<z then .error (.large (t*rows+r)) else xh rows l u (zs.set r (zs.getD r []++[z])):=rfl
def tq (uF rows r t:Nat)(ts:ig)(rd:iF):readChunk uF rows r (t::ts) rd=
  match xg rd uF with
  |none=>.error .short
  |some (z,u)=>if MOST<z then .error (.large (t*rows+r)) else match readChunk uF rows r ts u with
   |.error e=>.error e
   |.ok (l,v)=>.ok (z::l,v):=rfl
theorem vo {rows r k:Nat}(rest:List (Nat×Nat)):∀(ts:ig) (rd:iF) (zs:List (ig)),(∀t∈ts,t / 16=k)->r<zs.length->16*k<=(zs.getD r []).length->
  xh rows (ts.map (λt=>(r,t))++rest) rd zs=match readChunk (modelOf r (if k=0 then[] else JP zs (k-1) r)) rows r ts rd with
   |.error e=>.error e
   |.ok (l,v)=>xh rows rest v (zs.set r (zs.getD r []++l))
 |[],rd,zs,_,hr,_=>by
  simp only[readChunk,yY,tG];rw[set_nil hr]
 |t::ts,rd,zs,hk,hr,hl=>by
  have ht:t / 16=k:=hk t (aU ..);rw[cy,xB,Gw,tq];simp only[ht];cases e:xg rd (modelOf r (if k=0 then[] else JP zs (k-1) r)) with
  |none=>rfl
  |some p=>
   obtain⟨z,u⟩:=p;simp only;by_cases hz:MOST<z
   .rw[aj hz,aj hz]
   .rw[ah hz,ah hz];have WQ:r<(zs.set r (zs.getD r []++[z])).length:=by rw[ff];exact hr
    have eg:(zs.set r (zs.getD r []++[z])).getD r []=zs.getD r []++[z]:=by
     rw[aG,eF hr];rfl
    rw[vo rest ts u (zs.set r (zs.getD r []++[z])) (λt m=>hk t (aP _ m)) WQ (by rw[eg,aO];lia)];have ec:(if k=0 then[] else JP (zs.set r (zs.getD r []++[z])) (k-1) r)=(if k=0 then[] else JP zs (k-1) r):=by
     by_cases h0:k=0
     .rw[aj h0,aj h0]
     .rw[ah h0,ah h0,Mq (by lia)]
    rw[ec];cases readChunk (modelOf r (if k=0 then[] else JP zs (k-1) r)) rows r ts u with
    |error x=>rfl
    |ok q=>
     obtain⟨l,v⟩:=q;simp only;rw[acE hr];rfl
def NN (kf k r:Nat):List (Nat×Nat):=(aJ (min 16 (kf-16*k))).map λ(i:Nat)=>(r,16*k+i)
def ZQ (rows kf k:Nat):List (Nat×Nat):=(aJ rows).flatMap λ(r:Nat)=>NN kf k r
def ZR (rows kf:Nat):spots rows kf=(aJ ((kf+15) / 16)).flatMap λ(k:Nat)=>ZQ rows kf k:=rfl
def vW (h:i<n):(aJ n).drop i=i::(aJ n).drop (i+1):=by
 rw[cV (by simpa using h)];simp
def nV (kf k:Nat):ig:=(aJ (min 16 (kf-16*k))).map λi=>16*k+i
def V5 (kf k r:Nat):NN kf k r=(nV kf k).map λt=>(r,t):=by
 unfold NN nV;rw[ji];rfl
def Wa {kf k:Nat}:∀t∈nV kf k,t / 16=k:=λt ht=>by
 obtain⟨i,hi,e⟩:=bj.mp ht;have:=a_ (cJ.mp hi) (fw ..);rw[<-e,Mh (by decide),xN this];rfl
def find_some {q:Nat->Bool}(hp:p<n)(h:q p=true)(hb:∀i,i<p->q i=false):(aJ n).find? q=some p:=by
 rw[List.find?_eq_some_iff_append];refine⟨h,(aJ n).take p,(aJ n).drop (p+1),?_,λa ha=>?_⟩
 .rw[<-vW hp,qX]
 .obtain⟨i,hi⟩:=j5 ha;have hl:=(aN.mp hi).1;rw[cP,iN] at hl;rw[wM (by lia),bD (by lia)] at hi;have ei:i=a:=bh hi;rw[<-ei,hb i (by lia)];rfl
def find_none {q:Nat->Bool}(hb:∀i,i<n->q i=false):(aJ n).find? q=none:=by
 rw[EA];intro x hx;rw[hb x (cJ.mp hx)];decide
open LwBits LwSound
def abk:Nat:=0x82F63B78
def crcStep (c:Nat):Nat:=fE (c / 2) (if c%2=1 then abk else 0)
def ij:Nat->Nat->Nat
 |0,c=>c
 |n+1,c=>ij n (crcStep c)
def Ak (n:Nat):∀c,ij (n+1) c=crcStep (ij n c):=by
 induction n with
 |zero=>intro c;rfl
 |succ n ih=>intro c;show ij (n+1) (crcStep c)=_;rw[ih];rfl
def aae (a b:Nat):fE a b / 2=fE (a / 2) (b / 2):=by
 show(a^^^b) / 2=(a / 2)^^^(b / 2);have:=Nat.shiftRight_xor_distrib (a:=a) (b:=b) (i:=1);simpa[Nat.shiftRight_eq_div_pow] using this
def aaf (a b:Nat):fE a b%2=(a%2+b%2)%2:=by
 show(a^^^b)%2=_;have h:=ahl a b 0;rw[xO,xO,xO] at h;rcases gO a with h1|h1<;>rcases gO b with h2|h2<;>rcases gO (a^^^b) with h3|h3<;>simp[h1,h2,h3] at h|-
def xor_assoc (a b c:Nat):fE (fE a b) c=fE a (fE b c):=Nat.xor_assoc a b c
def xor_comm (a b:Nat):fE a b=fE b a:=Nat.xor_comm a b
def XA (c b:Nat):∀n:Nat,ij n (fE c b)=fE ((aJ n).foldl (λ(c i:Nat)=>aa1 c (b.testBit i)) c) (b / 2^n):=by
 intro n;induction n with
 |zero=>simp[ij]
 |succ n ih=>
  rw[Ak,ih,cE,dB];generalize(aJ n).foldl (λ(c i:Nat)=>aa1 c (b.testBit i)) c=s;simp only[bR,BD];unfold crcStep aa1;rw[aae,aaf,UU,<-amJ];have hb:b.testBit n=decide (b / 2^n%2=1):=by rw[Nat.testBit_eq_decide_div_mod_eq]
  rw[hb,xO];have hx:∀a b c:Nat,fE (fE a b) c=fE (fE a c) b:=λa b c=>by rw[xor_assoc,xor_assoc,xor_comm b c]
  have h0:∀a:Nat,fE a 0=a:=λa=>amK a;rcases gO s with h1|h1<;>rcases gO (b / 2^n) with h2|h2
  .simp[h1,h2,h0]
  .simp[h1,h2,abk];exact hx _ _ _
  .simp[h1,h2,abk];exact hx _ _ _
  .simp[h1,h2,h0]
def Q9 {b:Nat}(hb:b<256):aa2 c b=ij 8 (fE c b):=by
 rw[XA];have:b / 2^8=0:=xN hb;rw[this];exact(amK _).symm
def Vb (h:c<2^32)(b:Bool):aa1 c b<2^32:=by
 unfold aa1;split
 .exact Nat.xor_lt_two_pow (by lia) (by decide)
 .lia
def Q8 (h:c<2^32)(b:Nat):aa2 c b<2^32:=by
 unfold aa2;have:∀(l:ig) (c:Nat),c<2^32->l.foldl (λ(c i:Nat)=>aa1 c (b.testBit i)) c<2^32:=by
  intro l;induction l with
  |nil=>intro c h;exact h
  |cons a r ih=>intro c h;rw[bR];exact ih _ (Vb h _)
 exact this _ _ h
theorem HI:∀(l:ig) {c:Nat},c<2^32->l.foldl aa2 c<2^32
 |[],_,h=>h
 |a::r,c,h=>HI r (Q8 h a)
def We (h:c<2^32):turned c=fE c 4294967295:=by
 unfold turned;show 2^32-1-c=c^^^4294967295;apply Nat.eq_of_testBit_eq;intro i;rw[ahl];have e:2^32-1-c=2^32-(c+1):=by lia
 rw[e,Nat.testBit_two_pow_sub_succ h,show(4294967295:Nat)=2^32-1 from rfl,Nat.testBit_two_pow_sub_one];by_cases hi:i<32
 .simp[hi]
 .have:c.testBit i=false:=Nat.testBit_lt_two_pow (a_ h (j_ (by decide) (by lia)));simp[hi,this]
def pO (l:ig):Nat:=fE (l.foldl (λc b=>ij 8 (fE c b)) 4294967295) 4294967295
theorem HJ:∀(l:ig) (c:Nat),(∀b∈l,b<256)->l.foldl aa2 c=l.foldl (λc b=>ij 8 (fE c b)) c
 |[],_,_=>rfl
 |a::r,c,h=>by
  rw[bR,bR,Q9 (h a (aU ..)),HJ r _ λb m=>h b (aP _ m)]
def XB (l:ig)(h:∀b∈l,b<256):crc 0 l=pO l:=by
 unfold crc pO;have e:turned 0=4294967295:=rfl;rw[e,We (HI l (by decide)),HJ l _ h]
def numAt (bQ:bY)(p w:Nat):Int:=(aJ (w-1)).foldl (λa k=>a+bQ.getD (p+(1+k)) 0*2^(8*(1+k))) (bQ.getD p 0)
def VI (l:rJ)(x:UInt8):ofLe (l++[x])=ofLe l+2^(8*l.length)*x.toNat:=by
 induction l with
 |nil=>simp[ofLe]
 |cons a r ih=>
  show a.toNat+256*ofLe (r++[x])=a.toNat+256*ofLe r+_;rw[ih,lG,aZ,lG,wO];have:256*(2^(8*r.length)*x.toNat)=2^(8*r.length)*2^(8*1)*x.toNat:=by
   rw[show(2:Nat)^(8*1)=256 from rfl,jn (2^(8*r.length)) 256,alf]
  lia
def B4 (b:rJ)(p:Nat):(br b).getD p 0=((at_ b p:Nat):Int):=by
 unfold br at_;rw[aG,aw];cases b[p]? <;>rfl
def qG (b:rJ)(p:Nat):∀w:Nat,p+(w+1)<=b.length->numAt (br b) p (w+1)=((ofLe ((b.drop p).take (w+1)):Nat):Int):=by
 intro w;induction w with
 |zero=>
  intro h;have hp:p<b.length:=by lia
  unfold numAt;simp only[Hi,lP,List.range_zero,BD];rw[B4,cV hp];show _=(((b[p]).toNat+256*0:Nat):Int);unfold at_;rw[aD hp];rfl
 |succ w ih=>
  intro h;have ih:=ih (by lia);have hp:p+(w+1)<b.length:=by lia
  unfold numAt at ih|-
  rw[show w+1+1-1=w+1 from rfl,cE,dB];rw[show w+1-1=w from rfl] at ih;rw[ih];simp only[bR,BD];have e:(b.drop p).take (w+1+1)=(b.drop p).take (w+1)++[b[p+(w+1)]]:=by
   rw[take_snoc (x:=b[p+(w+1)])];rw[aax,aD hp]
  rw[e,VI,cP,dY,B4,show min (w+1) (b.length-p)=1+w by lia];have ea:at_ b (p+(1+w))=(b[p+(w+1)]).toNat:=by
   unfold at_;rw[show p+(1+w)=p+(w+1) by lia,aD hp];rfl
  rw[ea];simp only[ft,gZ,Ad];rw[UL];rfl
def Bz (bQ:bY)(ab:Bool)(w p:Nat):Except Nat (Int×Nat):=
 if p+(if ab=true then w else 1)>bQ.length then .error bQ.length else .ok (numAt bQ p (if ab=true then w else 1),p+(if ab=true then w else 1))
def jX (bQ:bY)(ab:Bool)(w:Nat)(lo hi:Int)(p:Nat):Except Nat (Int×Nat):=match Bz bQ ab w p with
 |.error e=>.error e
 |.ok (n,q)=>if n<lo\/hi<n then .error p else .ok (n,q)
def BA (bQ:bY)(ab:Bool)(w:Nat)(cs:bY)(p:Nat):Except Nat (Int×Nat):=match Bz bQ ab w p with
 |.error e=>.error e
 |.ok (n,q)=>if n∈cs then .ok (n,q) else .error p
def bd {α β:Type}(e:Except Nat (α×Nat))(k:α->Nat->Except Nat β):Except Nat β:=match e with
 |.error x=>.error x
 |.ok (a,c)=>k a c
def BH {α β:Type}{e:Except Nat (α×Nat)}{k:α->Nat->Except Nat β}{x:Nat}(h:e=.error x):bd e k=.error x:=by rw[h];rfl
def Aj {α β:Type}{e:Except Nat (α×Nat)}{k:α->Nat->Except Nat β}{a:α}(h:e=.ok (a,c)):bd e k=k a c:=by rw[h];rfl
def bdA {α β γ:Type}(e:Except Nat (α×Nat))(k:α->Nat->Except Nat (β×Nat))(m:β->Nat->Except Nat γ):bd (bd e k) m=bd e λa c=>bd (k a c) m:=by
 cases e<;>rfl
inductive Mo {α β:Type}(e:Except Nat (α×Nat))(k:α->Nat->Except Nat β)(x:β):Prop|i(a:α)(c:Nat)(_:e=.ok (a,c))(_:k a c=.ok x)
def GS {α β:Type}{e:Except Nat (α×Nat)}{k:α->Nat->Except Nat β}{x:β}(h:bd e k=.ok x):Mo e k x:=by
 cases e with
 |error y=>cases h
 |ok v=>exact⟨v.1,v.2,Z,h⟩
inductive Me {α β:Type}(e:Except Nat (α×Nat))(k:α->Nat->Except Nat β)(x:Nat):Prop|inl(y:Nat)(_:e=.error y)|inr (a:α) (c:Nat)(_:e=.ok (a,c))(_:k a c=.error x)
def YQ {α β:Type}{e:Except Nat (α×Nat)}{k:α->Nat->Except Nat β}{x:Nat}(h:bd e k=.error x):Me e k x:=by
 cases e with
 |error y=>exact .inl y rfl
 |ok v=>exact .inr v.1 v.2 rfl h
def tNo (bQ:bY)(ab:Bool)(w p:Nat):Except Nat (Int×Nat):=if ab=true then jX bQ ab w 0 0 p else .ok (0,p)
def rb (bQ:bY)(ab:Bool)(p:Nat):Except Nat (Stage×Nat):=
 bd (jX bQ ab 2 1 16 p) λakW p=>bd (jX bQ ab 2 1 1024 p) λanC p=>bd (jX bQ ab 1 0 (if akW<=8 then 1 else 0) p) λkind p=>bd (jX bQ ab 1 0 (if kind=1 then 0 else 12) p) λakt p=>bd (tNo bQ ab 2 p) λ_ p=>.ok (⟨akW.toNat,anC.toNat,kind==1,akt.toNat⟩,p)
def om {α:Type}(f:Nat->Except Nat (α×Nat)):Nat->Nat->Except Nat (List α×Nat)
 |0,p=>.ok ([],p)
 |k+1,p=>bd (f p) λs q=>bd (om f k q) λl q=>.ok (s::l,q)
def Nu (bQ:bY)(ab:Bool)(p:Nat):Except Nat (RowWay×Nat):=
 bd (jX bQ ab 1 0 3 p) λaiR p=>bd (jX bQ ab 1 0 2 p) λn p=>bd (om (rb bQ ab) n.toNat p) λl p=>.ok (⟨aiR.toNat,l⟩,p)
def pJ (bQ:bY)(ab:Bool)(p:Nat):Except Nat (Nat×Nat):=bd (jX bQ ab 1 0 3 p) λs q=>.ok (s.toNat,q)
def Y7 (n:Nat)(bQ:bY)(ab:Bool)(p:Nat):Except Nat ((List RowWay×List Nat)×Nat):=
 bd (om (Nu bQ ab) n p) λr p=>bd (om (pJ bQ ab) (n / 2) p) λj p=>.ok ((r,j),p)
def tu (b:rJ)(w:Nat)(lo hi:Int)(p:Nat)(hw:1<=w)(ok:Bool)(fV:p+w<=b.length->ok=(decide (lo<=((ofLe ((b.drop p).take w):Nat):Int))&&decide (((ofLe ((b.drop p).take w):Nat):Int)<=hi))):
  jX (br b) true w lo hi p=if b.length<p+w then .error b.length else if ok=false then .error p else .ok (((ofLe ((b.drop p).take w):Nat):Int),p+w):=by
 unfold jX Bz;simp only[if_true,eA];by_cases h:b.length<p+w
 .rw[aj h,aj (show p+w>b.length from h)]
 .rw[ah h,ah (show¬p+w>b.length from h)];obtain⟨v,rfl⟩:∃v,w=v+1:=⟨w-1,by lia⟩;rw[qG b p v (by lia),fV (by lia)];simp only;generalize((ofLe ((b.drop p).take (v+1)):Nat):Int)=x;by_cases h1:lo<=x<;>by_cases h2:x<=hi
  .rw[ah (by lia),ah (by simp[h1,h2])]
  .rw[aj (by lia),aj (by simp[h1,h2])]
  .rw[aj (by lia),aj (by simp[h1,h2])]
  .rw[aj (by lia),aj (by simp[h1,h2])]
def R9 (b:rJ)(p:Nat)(h:p+1<=b.length):ofLe ((b.drop p).take 1)=at_ b p:=by
 have hp:p<b.length:=by lia
 rw[cV hp];show(b[p]).toNat+256*0=_;unfold at_;rw[aD hp];rfl
open LwBits LwSound
def ql (b:rJ)(p w:Nat)(ok:Bool)(r:List (Nat×Nat×Bool)):mI b ((p,w,ok)::r)=if b.length<p+w then some b.length else if ok=false then some p else mI b r:=rfl
def Jg {v lo hi:Nat}:(decide (((lo:Nat):Int)<=((v:Nat):Int))&&decide (((v:Nat):Int)<=((hi:Nat):Int)))=(decide (lo<=v)&&decide (v<=hi)):=by
 by_cases h1:lo<=v<;>by_cases h2:v<=hi<;>simp[h1,h2]
def abw {α:Type}(o:Option Nat)(x:α):Except Nat α:=match o with
 |some e=>.error e
 |none=>.ok x
def nU (b:rJ)(p:Nat)(lo hi:Nat)(ok:Bool)(fV:ok=(decide (lo<=at_ b p)&&decide (at_ b p<=hi))):jX (br b) true 1 (lo:Int) (hi:Int) p=if b.length<p+1 then .error b.length else if ok=false then .error p else .ok (((at_ b p:Nat):Int),p+1):=by
 rw[tu b 1 (lo:Int) (hi:Int) p (by decide) ok (λh=>by rw[R9 b p h,fV];exact Jg.symm)];by_cases h:b.length<p+1
 .rw[aj h,aj h]
 .rw[ah h,ah h,R9 b p (by lia)]
def Iy {α:Type}{ok:Bool}{r:List (Nat×Nat×Bool)}{e:Except Nat (Int×Nat)}{k:Int->Nat->Except Nat α}{x:α}
  (he:e=if b.length<p+w then .error b.length else if ok=false then .error p else .ok (v,q)) (h:ok=true->k v q=abw (mI b r) x):
  bd e k=abw (mI b ((p,w,ok)::r)) x:=by
 rw[he,ql];by_cases a1:b.length<p+w
 .rw[aj a1,aj a1];rfl
 rw[ah a1,ah a1];cases ok with
 |false=>rfl
 |true=>exact h rfl
def RS {α:Type}{ok:Bool}{r:List (Nat×Nat×Bool)}{e:Except Nat (Int×Nat)}{k:Int->Nat->Except Nat α}{x:Except Nat α}
  (he:e=if b.length<p+w then .error b.length else if ok=false then .error p else .ok (v,q)) (h:ok=true->k v q=match mI b r with|some y=>.error y|none=>x):
  bd e k=match mI b ((p,w,ok)::r) with|some y=>.error y|none=>x:=by
 rw[he,ql];by_cases a1:b.length<p+w
 .rw[aj a1,aj a1];rfl
 rw[ah a1,ah a1];cases ok with
 |false=>rfl
 |true=>exact h rfl
def Qt (b:rJ)(p:Nat):rb (br b) true p=abw (mI b [(p,2,decide (1<=two b p)&&decide (two b p<=TAPS)),(p+2,2,decide (1<=two b (p+2))&&decide (two b (p+2)<=1024)),(p+4,1,at_ b (p+4)==0||(at_ b (p+4)==1&&decide (two b p<=WIDE))),(p+5,1,decide (at_ b (p+5)<=12)&&(at_ b (p+4)==0||at_ b (p+5)==0)),(p+6,2,two b (p+6)==0)])
  (⟨two b p,two b (p+2),at_ b (p+4)==1,at_ b (p+5)⟩,p+8):=by
 unfold rb;refine Iy (tu b 2 1 16 p (by decide) (decide (1<=two b p)&&decide (two b p<=TAPS)) (λ_=>Jg.symm)) λ_=>?_;refine Iy (tu b 2 1 1024 (p+2) (by decide) (decide (1<=two b (p+2))&&decide (two b (p+2)<=1024)) (λ_=>Jg.symm)) λ_=>?_;have e8:(if((ofLe ((b.drop p).take 2):Nat):Int)<=8 then(1:Int) else 0)=((if two b p<=8 then 1 else 0:Nat):Int):=by
  show(if((two b p:Nat):Int)<=8 then(1:Int) else 0)=_;by_cases h:two b p<=8
  .rw[aj h,aj (by lia)];rfl
  .rw[ah h,ah (by lia)];rfl
 rw[e8];refine Iy (nU b (p+4) 0 (if two b p<=8 then 1 else 0) (at_ b (p+4)==0||(at_ b (p+4)==1&&decide (two b p<=WIDE))) ?_) λc2=>?_
 .show(at_ b (p+4)==0||(at_ b (p+4)==1&&decide (two b p<=8)))=_;generalize at_ b (p+4)=k;by_cases h8:two b p<=8
  .rw[aj h8]
   match k with
   |0=>rfl
   |1=>simp[h8]
   |k+2=>simp
  .rw[ah h8]
   match k with
   |0=>rfl
   |k+1=>simp[h8]
 have hk:at_ b (p+4)=0\/at_ b (p+4)=1:=by
  rcases Bool.or_eq_true_iff.mp c2 with q|q
  .exact .inl (beq_iff_eq.mp q)
  .exact .inr (beq_iff_eq.mp (e_.mp q).1)
 have e12:(if((at_ b (p+4):Nat):Int)=1 then(0:Int) else 12)=((if at_ b (p+4)=1 then 0 else 12:Nat):Int):=by
  by_cases h:at_ b (p+4)=1
  .rw[aj h,aj (by lia)];rfl
  .rw[ah h,ah (by lia)];rfl
 rw[e12];refine Iy (nU b (p+5) 0 (if at_ b (p+4)=1 then 0 else 12) (decide (at_ b (p+5)<=12)&&(at_ b (p+4)==0||at_ b (p+5)==0)) ?_) λ_=>?_
 .generalize at_ b (p+5)=k;rcases hk with h0|h0
  .rw[h0];simp
  .rw[h0]
   match k with
   |0=>rfl
   |k+1=>simp
 refine Iy (show tNo _ true 2 _=_ from tu b 2 0 0 (p+6) (by decide) (two b (p+6)==0) (λ_=>?_)) λ_=>?_
 .refine Eq.trans ?_ (Jg (lo:=0) (hi:=0)).symm;show _=(decide (0<=two b (p+6))&&decide (two b (p+6)<=0));generalize two b (p+6)=k
  match k with
  |0=>rfl
  |k+1=>simp
 have ek:((((at_ b (p+4):Nat):Int))==1)=(at_ b (p+4)==1):=by
  rcases hk with h0|h0<;>rw[h0]<;>rfl
 show(mW ((⟨((two b p:Nat):Int).toNat,((two b (p+2):Nat):Int).toNat,(((at_ b (p+4):Nat):Int))==1,((at_ b (p+5):Nat):Int).toNat⟩:Stage),p+6+2):Except Nat (Stage×Nat))=mW (⟨two b p,two b (p+2),at_ b (p+4)==1,at_ b (p+5)⟩,p+8);rw[ek];rfl
def bdB {α β:Type}{o:Option Nat}{x:α}{k:α->Nat->Except Nat β}{R:Except Nat β}(h:k x q=R):bd (abw o (x,q)) k=match o with|some e=>.error e|none=>R:=by
 cases o with
 |some e=>rfl
 |none=>exact h
theorem Dg (b:rJ):∀(k p:Nat),om (rb (br b) true) k p=rK b k p
 |0,p=>rfl
 |k+1,p=>by
  show bd (rb (br b) true p) _=_;rw[Qt];refine(bdB ?_ :_=rK b (k+1) p);show bd (om _ k (p+8)) _=match rK b k (p+8) with|.error x=>_|.ok r=>_
  rw[Dg b k (p+8)];cases rK b k (p+8)<;>rfl
theorem Jy (b:rJ):∀(k p:Nat),om (Nu (br b) true) k p=N_ b k p
 |0,p=>rfl
 |k+1,p=>by
  show bd (Nu (br b) true p) _=match mI b [(p,1,decide (at_ b p<=3)),(p+1,1,decide (at_ b (p+1)<=aa0))] with|some x=>_|none=>_
  have h:Nu (br b) true p=match mI b [(p,1,decide (at_ b p<=3)),(p+1,1,decide (at_ b (p+1)<=aa0))] with
   |some x=>.error x
   |none=>bd (rK b (at_ b (p+1)) (p+2)) λl q=>.ok (⟨at_ b p,l⟩,q):=by
   refine RS (nU b p 0 3 _ (by simp)) λ_=>?_;refine RS (nU b (p+1) 0 2 _ (by rw[show decide (0<=at_ b (p+1))=true by simp,aia];rfl)) λ_=>?_;show bd (om _ ((at_ b (p+1):Nat):Int).toNat (p+2)) _=_;rw[bF,Dg];rfl
  rw[h];cases mI b [(p,1,decide (at_ b p<=3)),(p+1,1,decide (at_ b (p+1)<=aa0))] with
  |some x=>rfl
  |none=>
   show bd (bd (rK b (at_ b (p+1)) (p+2)) _) _=match rK b (at_ b (p+1)) (p+2) with|.error x=>_|.ok s=>_
   cases rK b (at_ b (p+1)) (p+2) with
   |error e=>rfl
   |ok s=>
    show bd (om _ k s.2) _=match N_ b k s.2 with|.error x=>_|.ok r=>_
    rw[Jy b k s.2];cases N_ b k s.2<;>rfl
theorem CF (b:rJ):∀(k p:Nat),om (pJ (br b) true) k p=BN b k p
 |0,p=>rfl
 |k+1,p=>by
  show bd (bd (jX (br b) true 1 0 3 p) _) _=_;rw[bdA];refine(RS (nU b p 0 3 _ (by simp)) λ_=>?_ :_=BN b (k+1) p);show bd (om (pJ (br b) true) k (p+1)) _=match BN b k (p+1) with|.error x=>_|.ok r=>_
  rw[CF b k (p+1)];cases BN b k (p+1)<;>rfl
structure rC where
 key:Int
 rows:Int
 bits:Int
 cut:Int
 lanes:Int
 times:Int
 check:Int
 way:Option (List RowWay×List Nat)
 fin:Nat
def iy:bY:=[1,4,8,16]
def w6 (bQ:bY):Except Nat rC:=
 bd (jX bQ true 1 76 76 0) λ_ p=>bd (jX bQ true 1 83 83 p) λ_ p=>bd (jX bQ true 1 0 1 p) λfA p=>bd (jX bQ true 1 1 4 p) λrows p=>bd (jX bQ true 1 8 24 p) λcY p=>bd (jX bQ true 1 0 (cY-1) p) λcut p=>bd (BA bQ true 1 iy p) λay p=>bd (tNo bQ true 1 p) λ_ p=>bd (jX bQ true 4 1 64 p) λw_ p=>bd (Bz bQ true 4 p) λXy p=>
  if fA=1 then bd (Y7 rows.toNat bQ true p) λy p=>.ok ⟨fA,rows,cY,cut,ay,w_,Xy,some y,p⟩ else .ok ⟨fA,rows,cY,cut,ay,w_,Xy,none,p⟩
def jy (b:rJ)(x:Head×Option Form×Nat):rC:=
 ⟨if x.1.key=true then 1 else 0,x.1.rows,x.1.bits,x.1.cut,x.1.lanes,x.1.count,storedCheck b,x.2.1.map λf=>(f.rows,f.joint),x.2.2⟩
def SK (b:rJ)(p:Nat):BA (br b) true 1 iy p=if b.length<p+1 then .error b.length else if SX (at_ b p)=false then .error p else .ok (((at_ b p:Nat):Int),p+1):=by
 unfold BA Bz;simp only[if_true,eA];by_cases h:b.length<p+1
 .rw[aj h,aj (show p+1>b.length from h)]
 .rw[ah h,ah (show¬p+1>b.length from h),qG b p 0 (by lia),R9 b p (by lia)];simp only;generalize at_ b p=k;have e:((k:Nat):Int)∈iy↔SX k=true:=by
   unfold iy SX;simp only[bo,JS,or_false,Wt,decide_eq_true_eq];exact or_congr jo (or_congr jo (or_congr jo jo))
  by_cases q:SX k=true
  .rw[aj (e.mpr q),ah (by rw[q];decide)]
  .rw[ah (λz=>q (e.mp z)),aj (by simpa using q)]
def Au {β γ:Type}{ok:Bool}{r:List (Nat×Nat×Bool)}{e:Except Nat (Int×Nat)}{k:Int->Nat->Except Nat β}{G:Except Nat γ}{f:γ->β}
  (he:e=if b.length<p+w then .error b.length else if ok=false then .error p else .ok (v,q)) (h:ok=true->k v q=Dv f (match mI b r with|some x=>.error x|none=>G)):
  bd e k=Dv f (match mI b ((p,w,ok)::r) with|some x=>.error x|none=>G):=by
 rw[he,ql];by_cases a1:b.length<p+w
 .rw[aj a1,aj a1];rfl
 rw[ah a1,ah a1];cases ok with
 |false=>rfl
 |true=>exact h rfl
def RN (b:rJ):w6 (br b)=(readHead b).map (jy b):=by
 unfold w6 readHead headBad;have r0:=nU b 0 76 76 (at_ b 0==0x4C) (by
  generalize at_ b 0=k;by_cases h:k=76
  .subst h;rfl
  .have:(k==76)=false:=beq_eq_false_iff_ne.mpr h;rw[show(0x4C:Nat)=76 from rfl,this];by_cases h1:76<=k<;>by_cases h2:k<=76<;>simp[h1,h2]<;>lia)
 have r1:=nU b 1 83 83 (at_ b 1==0x53) (by
  generalize at_ b 1=k;by_cases h:k=83
  .subst h;rfl
  .have:(k==83)=false:=beq_eq_false_iff_ne.mpr h;rw[show(0x53:Nat)=83 from rfl,this];by_cases h1:83<=k<;>by_cases h2:k<=83<;>simp[h1,h2]<;>lia)
 have r2:=nU b 2 0 1 (decide (at_ b 2<=1)) (by simp);have r3:=nU b 3 1 4 (decide (1<=at_ b 3)&&decide (at_ b 3<=ROWS)) rfl;have r4:=nU b 4 8 24 (decide (8<=at_ b 4)&&decide (at_ b 4<=BITS)) rfl;rw[show((76:Nat):Int)=76 from rfl] at r0;rw[show((83:Nat):Int)=83 from rfl] at r1;rw[show((0:Nat):Int)=0 from rfl,show((1:Nat):Int)=1 from rfl] at r2;rw[show((4:Nat):Int)=4 from rfl,show((1:Nat):Int)=1 from rfl] at r3;rw[show((8:Nat):Int)=8 from rfl,show((24:Nat):Int)=24 from rfl] at r4;refine Au r0 λ_=>?_;refine Au r1 λ_=>?_;refine Au r2 λc2=>?_;refine Au r3 λ_=>?_;refine Au r4 λe2=>?_;have adY:8<=at_ b 4:=of_decide_eq_true (e_.mp e2).1;have r5:=nU b 5 0 (at_ b 4-1) (decide (at_ b 5<at_ b 4)) (by
  rw[show decide (0<=at_ b 5)=true by simp,aia];exact decide_eq_decide.mpr (Nat.lt_iff_le_pred (a_ (by decide) adY)))
 rw[show((0:Nat):Int)=0 from rfl,show((at_ b 4-1:Nat):Int)=((at_ b 4:Nat):Int)-1 by lia] at r5;refine Au r5 λ_=>?_;refine Au (SK b 6) λ_=>?_;have r7:=nU b 7 0 0 (at_ b 7==0) (by
  generalize at_ b 7=k
  match k with
  |0=>rfl
  |k+1=>simp)
 rw[show((0:Nat):Int)=0 from rfl] at r7;refine Au (show tNo _ true 1 7=_ from r7) λ_=>?_;refine Au (tu b 4 1 64 8 (by decide) (decide (1<=ofLe ((b.drop 8).take 4))&&decide (ofLe ((b.drop 8).take 4)<=COUNT)) (λ_=>Jg.symm)) λ_=>?_;refine Au (v:=storedCheck b) (q:=16) (p:=12) (w:=4) (ok:=true) ?_ λ_=>?_
 .unfold Bz;rw[aj rfl,eA];by_cases j1:b.length<12+4
  .rw[aj (show 8+4+4>b.length from j1),aj j1]
  .rw[ah (show¬8+4+4>b.length from j1),ah j1,qG b (8+4) 3 (by lia)];rfl
 have Yk:(((at_ b 2:Nat):Int)=1)↔(zC b).key=true:=by
  show _↔(at_ b 2==1)=true;rw[beq_iff_eq];lia
 by_cases k1:((at_ b 2:Nat):Int)=1
 .have k2:=Yk.mp k1;rw[aj k1];show _=Dv (jy b) (if(zC b).key=false then _ else match N_ b (at_ b 3) 16 with|.error x=>_|.ok r=>_);rw[ah (by rw[k2];decide)];unfold Y7;rw[Jy,bF,bdA];cases N_ b (at_ b 3) 16 with
  |error e=>rfl
  |ok r=>
   show bd (bd (om _ (at_ b 3 / 2) r.2) _) _=Dv (jy b) (match BN b (at_ b 3 / 2) r.2 with|.error x=>_|.ok j=>_);rw[CF,bdA];cases BN b (at_ b 3 / 2) r.2 with
   |error e=>rfl
   |ok j=>
    show(mW (_:rC):Except Nat rC)=mW (jy b _);refine congrArg mW ?_;unfold jy;simp only[k2,if_true];rw[k1];rfl
 .have k2:(zC b).key=false:=by
   cases h:(zC b).key with
   |false=>rfl
   |true=>exact absurd (Yk.mpr h) k1
  rw[ah k1];show _=Dv (jy b) (if(zC b).key=false then _ else _);rw[aj k2];show(mW (_:rC):Except Nat rC)=mW (jy b _);refine congrArg mW ?_;unfold jy;have TU:((at_ b 2:Nat):Int)=0:=by
   have:=of_decide_eq_true c2;lia
  simp only[k2,aas,if_false];rw[TU];rfl
open LwBits LwSound SoundCalls
abbrev nats (l:bY):ig:=l.map Int.toNat
def xF (bQ:bY):Prop:=∀x∈bQ,0<=x
def BZ {r:bY}(h:bQ.drop p=v::r):Bz bQ false w p=.ok (v,p+1):=by
 have hp:p<bQ.length:=by
  rcases uq p bQ.length with q|q
  .exact q
  .rw[yX q] at h;cases h
 rw[cV hp] at h;have e:numAt bQ p 1=bQ[p]:=by
  unfold numAt;simp[aG,hp]
 show(if p+1>bQ.length then _ else mW (numAt bQ p 1,p+1))=_;rw[ah (i4.mpr hp),e,(uo h).1]
def Xm (h:bQ.drop p=[]):Bz bQ false w p=.error bQ.length:=aj (adF (List.drop_eq_nil_iff.mp h))
def q_ {r:bY}(h:bQ.drop p=v::r):bQ.drop (p+1)=r:=by
 rw[<-uL,h];rfl
def XN {r:bY}(h:bQ.drop p=v::r):p+1<=bQ.length:=by
 rcases uq p bQ.length with q|q
 .exact q
 .rw[yX q] at h;cases h
def rk {r:bY}{lo hi:Int}(hd:bQ.drop p=v::r)(h1:lo<=v)(h2:v<=hi):jX bQ false w lo hi p=.ok (v,p+1):=by
 unfold jX;rw[BZ hd];exact ah (by lia)
inductive Rg (bQ:bY)(lo hi:Int)(p:Nat){β:Type}(k:Int->Nat->Except Nat β)(x:β):Prop|i(v:Int)(_:bQ.drop p=v::bQ.drop (p+1))(_:p+1<=bQ.length)(_:lo<=v/\v<=hi)(_:k v (p+1)=.ok x)
def WW {lo hi:Int}{β:Type}{k:Int->Nat->Except Nat β}{x:β}(h:bd (jX bQ false w lo hi p) k=.ok x):Rg bQ lo hi p k x:=by
 cases e:bQ.drop p with
 |nil=>
  unfold jX at h;rw[Xm e] at h;cases h
 |cons v r=>
  by_cases c:v<lo\/hi<v
  .unfold jX at h;rw[BZ e] at h;have h:bd (if v<lo\/hi<v then .error p else .ok (v,p+1)) k=.ok x:=h;rw[aj c] at h;cases h
  .rw[rk e (by lia) (by lia)] at h;exact⟨v,by rw[q_ e,e],XN e,by lia,h⟩
def agn {lo hi:Int}{e:Nat}(h:jX bQ false w lo hi p=.error e):bQ.drop p=[]\/∃v r,bQ.drop p=v::r/\(v<lo\/hi<v):=by
 cases q:bQ.drop p with
 |nil=>exact .inl rfl
 |cons x r=>
  refine .inr ⟨x,r,Z,?_⟩;rcases amC x lo with c|c
  .exact .inl c
  rcases amC hi x with d|d
  .exact .inr d
  rw[rk q c d] at h;cases h
def VG {α β:Type}{e:Except Nat (α×Nat)}{k:α->Nat->Except Nat β}{x:Except Nat β}{a:α}(h:bd e k=x)(he:e=.ok (a,c)):k a c=x:=(Aj he).symm.trans h
def akv {t g w c:Int}(b1:1<=t/\t<=16)(b2:1<=g/\g<=1024)(b3:0<=w/\w<=if t<=8 then 1 else 0)(b4:0<=c/\c<=if w=1 then 0 else 12):(w=0\/w=1)/\iw ⟨t.toNat,g.toNat,w==1,c.toNat⟩:=by
 have hw:w=0\/(w=1/\t<=8):=by
  by_cases q:t<=8
  .rw[aj q] at b3;lia
  .rw[ah q] at b3;lia
 have z:1<=t.toNat/\t.toNat<=16/\1<=g.toNat/\g.toNat<=1024:=⟨uU b1.1,gM.mpr b1.2,uU b2.1,gM.mpr b2.2⟩;rcases hw with rfl|⟨rfl,q⟩
 .exact⟨.inl rfl,z.1,z.2.1,z.2.2.1,z.2.2.2,gM.mpr b4.2,λh=>by cases h⟩
 .have h0:c.toNat=0:=adw.mpr b4.2;exact⟨.inr rfl,z.1,z.2.1,z.2.2.1,z.2.2.2,(by rw[h0];decide:c.toNat<=12),λ_=>⟨h0,gM.mpr q⟩⟩
inductive StT (bQ:bY)(p q:Nat)(s:Stage):Prop|i(t g w c:Int)(_:bQ.drop p=t::g::w::c::bQ.drop q)(_:q<=bQ.length)(_:s=⟨t.toNat,g.toNat,w==1,c.toNat⟩)(_:w=0\/w=1)(_:iw s)
def AH {s:Stage}(h:rb bQ false p=.ok (s,q)):StT bQ p q s:=by
 obtain⟨t,d1,_,b1,h1⟩:=WW h;clear h;obtain⟨g,d2,_,b2,h⟩:=WW h1;clear h1;obtain⟨w,d3,_,b3,h1⟩:=WW h;clear h;obtain⟨c,d4,l,b4,h⟩:=WW h1;clear h1;cases h;obtain⟨hw,gs⟩:=akv b1 b2 b3 b4;exact⟨t,g,w,c,by rw[d1,d2,d3,d4],l,Z,hw,gs⟩
def ap9 {t g w c:Int}(n1:0<=t)(n2:0<=g)(n3:0<=w)(n4:0<=c)(hw:¬1<w)(g0:iw ⟨t.toNat,g.toNat,w.toNat==1,c.toNat⟩):(1<=t/\t<=16)/\(1<=g/\g<=1024)/\(w<=if t<=8 then 1 else 0)/\c<=if w=1 then 0 else 12:=by
 obtain⟨a1,a2,a3,a4,a5,a6⟩:=g0;dsimp only at a1 a2 a3 a4 a5 a6;refine⟨by lia,by lia,?_⟩;rcases(by lia:w=0\/w=1) with rfl|rfl
 .exact⟨by split<;>decide,gM.mp a5⟩
 .obtain⟨z1,z2⟩:=a6 rfl;rw[aj (by lia:t<=8)];exact⟨by decide,adw.mp z1⟩
def JC {e:Nat}(nn:xF bQ)(h:rb bQ false p=.error e){t g w c:Int}{r:bY}(hd:bQ.drop p=t::g::w::c::r)(hw:¬1<w)(gs:iw ⟨t.toNat,g.toNat,w.toNat==1,c.toNat⟩):False:=by
 have n:∀x∈t::g::w::c::r,0<=x:=λx hx=>nn x (j6 (hd ▸ hx));have n3:=n w (.tail _ (.tail _ (.head _)));have n4:=n c (.tail _ (.tail _ (.tail _ (.head _))));obtain⟨b1,b2,b3,b4⟩:=ap9 (n t (.head _)) (n g (.tail _ (.head _))) n3 n4 hw gs;clear gs n hw;have d1:=q_ hd;have d2:=q_ d1;have h:=VG h (rk hd b1.1 b1.2);have h:=VG h (rk d1 b2.1 b2.2);have h:=VG h (rk d2 n3 b3);have h:=VG h (rk (q_ d2) n4 b4);cases h
inductive SI (k:Nat)(m:bY)(ss:List Stage)(r:ig):Prop|i(t g w c:Int)(m':bY)(l:List Stage)(_:m=t::g::w::c::m')(_:¬1<w)(_:stagesIn k (nats m')=some (l,r))(_:ss=⟨t.toNat,g.toNat,w.toNat==1,c.toNat⟩::l)
def aen {k:Nat}{m:bY}{ss:List Stage}{r:ig}(h:stagesIn (k+1) (nats m)=some (ss,r)):SI k m ss r:=by
 match m,h with
 |[],h=>cases h
 |[_],h=>cases h
 |[_,_],h=>cases h
 |[_,_,_],h=>cases h
 |t::g::w::c::m',h=>
  have h:(if 1<w.toNat then none else(stagesIn k (nats m')).map _)=some (ss,r):=h;by_cases hw:1<w.toNat
  .rw[aj hw] at h;cases h
  rw[ah hw] at h;obtain⟨y,h1,e⟩:=i5.mp h;cases e;exact⟨t,g,w,c,m',y.1,Z,by lia,h1,Z⟩
def aqc:∀{k:Nat} {m:bY} {ss:List Stage} {r:ig},stagesIn k (nats m)=some (ss,r)->ss.length=k:=by
 intro k;induction k with
 |zero=>intro m ss r h;cases h;rfl
 |succ k ih=>
  intro m ss r h;obtain⟨t,g,w,c,m',l,_,_,h1,rfl⟩:=aen h;exact congrArg (· +1) (ih h1)
inductive SsT (bQ:bY)(k p:Nat)(ss:List Stage)(q:Nat):Prop|i(_:p<=bQ.length->q<=bQ.length)(_:stagesIn k (nats (bQ.drop p))=some (ss,nats (bQ.drop q)))(_:∀s∈ss,iw s)
def LX:∀{k p:Nat} {ss:List Stage} {q:Nat},om (rb bQ false) k p=.ok (ss,q)->SsT bQ k p ss q:=by
 intro k;induction k with
 |zero=>intro p ss q h;cases h;exact⟨id,Z,nofun⟩
 |succ k ih=>
  intro p ss q h;obtain⟨s,p1,h1,h0⟩:=GS h;clear h;obtain⟨l,q',h2,h⟩:=GS h0;clear h0;cases h;obtain⟨t,g,w,c,hd,hl,rfl,hw,gs⟩:=AH h1;obtain⟨a1,a2,a3⟩:=ih h2;clear ih h1 h2;refine⟨λ_=>a1 hl,?_,j4.mpr ⟨gs,a3⟩⟩;rw[hd];show(if 1<w.toNat then none else(stagesIn k (nats (bQ.drop p1))).map _)=_;rw[a2];rcases hw with rfl|rfl<;>rfl
def SD (nn:xF bQ):∀{k p e:Nat},om (rb bQ false) k p=.error e->∀{ss:List Stage} {r:ig},stagesIn k (nats (bQ.drop p))=some (ss,r)->(∀s∈ss,iw s)->False:=by
 intro k;induction k with
 |zero=>intro p e h;cases h
 |succ k ih=>
  intro p e h ss r hs oH;obtain⟨t,g,w,c,m',l,hd,hw,QH,rfl⟩:=aen hs;obtain⟨g1,g2⟩:=j4.mp oH;rcases YQ h with⟨e,h1⟩|⟨s,p1,h1,h⟩
  .exact JC nn h1 hd hw g1
  rcases YQ h with⟨e,h2⟩|⟨_,_,_,h⟩
  .obtain⟨t',g',w',c',hd',_⟩:=AH h1;rw[hd] at hd';rw[show m'=bQ.drop p1 from(uo (uo (uo (uo hd').2).2).2).2] at QH;exact ih h2 QH g2
  .cases h
inductive RI (k:Nat)(m:bY)(ss:List RowWay)(r:ig):Prop|i(f n:Int)(m':bY)(s:List Stage)(r1:ig)(l:List RowWay)(_:m=f::n::m')(_:¬2<n.toNat)(_:stagesIn n.toNat (nats m')=some (s,r1))(_:rowsIn k r1=some (l,r))(_:ss=⟨f.toNat,s⟩::l)
def ako {k:Nat}{m:bY}{ss:List RowWay}{r:ig}(h:rowsIn (k+1) (nats m)=some (ss,r)):RI k m ss r:=by
 match m,h with
 |[],h=>cases h
 |[_],h=>cases h
 |f::n::m',h=>
  have h:(if 2<n.toNat then none else(stagesIn n.toNat (nats m')).bind _)=some (ss,r):=h;by_cases hn:2<n.toNat
  .rw[aj hn] at h;cases h
  rw[ah hn] at h;obtain⟨y,h1,h⟩:=wR.mp h;obtain⟨z,h2,e⟩:=i5.mp h;cases e;exact⟨f,n,m',y.1,y.2,z.1,Z,hn,h1,h2,Z⟩
inductive RwT (bQ:bY)(k p:Nat)(ss:List RowWay)(q:Nat):Prop|i(_:p<=bQ.length->q<=bQ.length)(_:rowsIn k (nats (bQ.drop p))=some (ss,nats (bQ.drop q)))(_:∀s∈ss,lJ s)(_:ss.length=k)
def NG:∀{k p:Nat} {ss:List RowWay} {q:Nat},om (Nu bQ false) k p=.ok (ss,q)->RwT bQ k p ss q:=by
 intro k;induction k with
 |zero=>intro p ss q h;cases h;exact⟨id,Z,nofun,Z⟩
 |succ k ih=>
  intro p ss q h;obtain⟨s,p1,h1,h0⟩:=GS h;clear h;obtain⟨l,q',h2,h⟩:=GS h0;clear h0;cases h;obtain⟨t1,t2,t3,t4⟩:=ih h2;clear ih h2;obtain⟨f,d1,_,b1,h⟩:=WW h1;clear h1;obtain⟨n,d2,l2,b2,h0⟩:=WW h;clear h;obtain⟨sl,p3,h3,h⟩:=GS h0;clear h0;cases h;obtain⟨s1,s2,s3⟩:=LX h3;have h5:=aqc s2;refine⟨λ_=>t1 (s1 l2),?_,j4.mpr ⟨⟨gM.mpr b1.2,h5 ▸ gM.mpr b2.2,s3⟩,t3⟩,congrArg (· +1) t4⟩;rw[d1,d2];show(if 2<n.toNat then none else(stagesIn n.toNat (nats (bQ.drop (p+1+1)))).bind _)=_;rw[ah (i4.mpr (gM.mpr b2.2)),s2];show(rowsIn k (nats (bQ.drop p1))).map _=_;rw[t2];rfl
def Zs (nn:xF bQ):∀{k p e:Nat},om (Nu bQ false) k p=.error e->∀{ss:List RowWay} {r:ig},rowsIn k (nats (bQ.drop p))=some (ss,r)->(∀s∈ss,lJ s)->False:=by
 intro k;induction k with
 |zero=>intro p e h;cases h
 |succ k ih=>
  intro p e h ss r hs oH;obtain⟨f,n,m',s,r1,l,hd,hn,QH,KH,rfl⟩:=ako hs;obtain⟨g1,g2⟩:=j4.mp oH;have d1:=q_ hd;have d2:=q_ d1;have n0:∀x∈f::n::m',0<=x:=λx hx=>nn x (j6 (hd ▸ hx));have r1:=rk (w:=1) hd (n0 f (.head _)) (gM.mp g1.fx);have r2:=rk (w:=1) d1 (n0 n (.tail _ (.head _))) (gM.mp (i4.mp hn));rw[<-d2] at QH;clear n0 oH hs hn hd d1 d2;rcases YQ h with⟨e,h1⟩|⟨_,p1,h1,h⟩
  .have h1:=VG h1 r1;have h1:=VG h1 r2;rcases YQ h1 with⟨e,h1⟩|⟨_,_,_,h⟩
   .exact SD nn h1 QH g1.st
   .cases h
  rcases YQ h with⟨e,h2⟩|⟨_,_,_,h⟩
  case inr=>cases h
  have h1:=VG h1 r1;have h1:=VG h1 r2;obtain⟨sl,p3,h1,h⟩:=GS h1;cases h;obtain⟨_,s2,_⟩:=LX h1;rw[QH] at s2;cases s2;exact ih h2 KH g2
inductive JsT (bQ:bY)(k p:Nat)(ss:ig)(q:Nat):Prop|i(_:p<=bQ.length->q<=bQ.length)(_:nats (bQ.drop p)=ss++nats (bQ.drop q))(_:ss.length=k)(_:∀j∈ss,j<=3)
def LC:∀{k p:Nat} {ss:ig} {q:Nat},om (pJ bQ false) k p=.ok (ss,q)->JsT bQ k p ss q:=by
 intro k;induction k with
 |zero=>intro p ss q h;cases h;exact⟨id,Z,Z,nofun⟩
 |succ k ih=>
  intro p ss q h;obtain⟨s,p1,h1,h0⟩:=GS h;clear h;obtain⟨l,q',h2,h⟩:=GS h0;clear h0;cases h;obtain⟨t1,t2,t3,t4⟩:=ih h2;clear ih h2;obtain⟨f,d1,l1,b1,h⟩:=WW h1;cases h;refine⟨λ_=>t1 l1,?_,congrArg (· +1) t3,j4.mpr ⟨gM.mpr b1.2,t4⟩⟩;rw[d1];exact congrArg (f.toNat:: ·) t2
def RU (nn:xF bQ):∀{k p e:Nat},om (pJ bQ false) k p=.error e->(∀j∈nats (bQ.drop p),j<=3)->(nats (bQ.drop p)).length<k:=by
 intro k;induction k with
 |zero=>intro p e h;cases h
 |succ k ih=>
  intro p e h hj;rcases YQ h with⟨e,h1⟩|⟨_,p1,h1,h⟩
  .rcases YQ h1 with⟨e,h1⟩|⟨_,_,_,h⟩
   case inr=>cases h
   rcases agn h1 with q|⟨v,r,q,b⟩
   .rw[q];exact Nat.succ_pos k
   .have h0:=nn v (j6 (q ▸ aU ..));rw[q] at hj;have:=hj v.toNat (aU ..);lia
  rcases YQ h with⟨e,h2⟩|⟨_,_,_,h⟩
  case inr=>cases h
  obtain⟨f,d1,l1,b1,h⟩:=WW h1;cases h;rw[d1] at hj|-
  exact Nat.succ_lt_succ (ih h2 λj m=>hj j (aP _ m))
def pZ (bQ:bY):Except Nat (Int×Form):=
 bd (jX bQ false 1 0 1 0) λfA p=>bd (jX bQ false 1 8 24 p) λcY p=>bd (jX bQ false 1 0 (cY-1) p) λcut p=>bd (BA bQ false 1 iy p) λay p=>bd (jX bQ false 1 1 4 p) λrows p=>bd (Y7 rows.toNat bQ false p) λy p=>if p=bQ.length then .ok (fA,⟨cY.toNat,cut.toNat,ay.toNat,y.1,y.2⟩) else .error p
def LF:v∈iy↔0<=v/\(v.toNat=1\/v.toNat=4\/v.toNat=8\/v.toNat=16):=by
 constructor
 .intro h;simp only[iy,bo,JS,or_false] at h;rcases h with rfl|rfl|rfl|rfl<;>decide
 .rintro⟨h0,h⟩;obtain⟨n,rfl⟩:=S8 h0;rcases h with h|h|h|h<;>(have h:n=_:=h;subst h;decide)
def Y3 {r:bY}(hd:bQ.drop p=x::r)(h:x∈iy):BA bQ false w iy p=.ok (x,p+1):=by
 unfold BA;rw[BZ hd];exact aj h
inductive On (bQ:bY)(p:Nat){β:Type}(k:Int->Nat->Except Nat β)(x:β):Prop|i(v:Int)(_:bQ.drop p=v::bQ.drop (p+1))(_:v∈iy)(_:k v (p+1)=.ok x)
def age {β:Type}{k:Int->Nat->Except Nat β}{x:β}(h:bd (BA bQ false w iy p) k=.ok x):On bQ p k x:=by
 cases e:bQ.drop p with
 |nil=>
  unfold BA at h;rw[Xm e] at h;cases h
 |cons v r=>
  by_cases c:v∈iy
  .rw[Y3 e c] at h;exact⟨v,by rw[q_ e,e],c,h⟩
  .unfold BA at h;rw[BZ e] at h;have h:bd (if v∈iy then .ok (v,p+1) else .error p) k=.ok x:=h;rw[ah c] at h;cases h
inductive FI (b c l r:Nat)(w:ig)(f:Form):Prop|i(_:FG f)(_:f.bits=b)(_:f.cut=c)(_:f.lanes=l)(_:rowsIn r w=some (f.rows,f.joint))
def abH {b l r:Nat}{w:ig}(h:formIn b c l r w=some f):FI b c l r w f:=by
 unfold formIn at h;by_cases hr:ROWS<r
 .rw[aj hr] at h;cases h
 rw[ah hr] at h;obtain⟨x,e,h⟩:=wR.mp h;by_cases hf:N9 ⟨b,c,l,x.1,x.2⟩=true
 .have h:(if N9 ⟨b,c,l,x.1,x.2⟩=true then some _ else none)=_:=h;rw[aj hf] at h;cases h;exact⟨(XT _).mp hf,Z,Z,Z,e⟩
 .have h:(if N9 ⟨b,c,l,x.1,x.2⟩=true then some _ else none)=_:=h;rw[ah hf] at h;cases h
def apU:∀{k:Nat} {l:ig} {x:List RowWay×List Nat},rowsIn k l=some x->x.1.length=k:=by
 intro k;induction k with
 |zero=>intro l x h;cases h;rfl
 |succ k ih=>
  intro l x h
  match l,h with
  |[],h=>cases h
  |[_],h=>cases h
  |f::n::l,h=>
   have h:(if aa0<n then none else(stagesIn n l).bind _)=some x:=h;by_cases hn:aa0<n
   .rw[aj hn] at h;cases h
   rw[ah hn] at h;obtain⟨y,_,h⟩:=wR.mp h;obtain⟨z,hz,rfl⟩:=i5.mp h;exact congrArg (· +1) (ih hz)
section
variable{k b c l r:Int}{w:bY}
inductive AsT (k b c l r:Int)(w:bY)(k':Int)(f:Form):Prop|i(_:k'=k)(_:k<=1)(_:FG f)(_:f.rows.length=r.toNat)(_:formIn b.toNat c.toNat l.toNat r.toNat (dj w)=some f)
def anu {a:bY}{v1 v2 v3 v4 v5:Int}(hr:bQ=k::b::c::l::r::w)(h:bQ=v1::v2::v3::v4::v5::a):k=v1/\b=v2/\c=v3/\l=v4/\r=v5/\w=a:=by
 subst hr;cases h;exact⟨Z,Z,Z,Z,Z,Z⟩
def Xq {k':Int}(hr:bQ=k::b::c::l::r::w)(h:pZ bQ=.ok (k',f)):AsT k b c l r w k' f:=by
 obtain⟨_,d1,_,c1,h1⟩:=WW h;clear h;obtain⟨_,d2,_,c2,h⟩:=WW h1;clear h1;obtain⟨_,d3,_,c3,h1⟩:=WW h;clear h;obtain⟨_,d4,c4,h⟩:=age h1;clear h1;obtain⟨_,d5,_,c5,h1⟩:=WW h;clear h;obtain⟨rfl,rfl,rfl,rfl,rfl,e⟩:=anu hr (by rw[<-iD (l:=bQ),d1,d2,d3,d4,d5]);clear d1 d2 d3 d4 d5 hr;obtain⟨_,p7,hW,h⟩:=GS h1;clear h1;by_cases c7:p7=bQ.length
 case neg=>rw[ah c7] at h;cases h
 rw[aj c7] at h;cases h;obtain⟨x,p6,h6,h1⟩:=GS hW;clear hW;obtain⟨j,_,h7,hW⟩:=GS h1;clear h1;cases hW;obtain⟨_,a2,a3,a4⟩:=NG h6;obtain⟨_,b2,b3,b4⟩:=LC h7;clear h6 h7;rw[c7,rq] at b2;have z:8<=b.toNat/\b.toNat<=24/\c.toNat<b.toNat/\1<=r.toNat/\r.toNat<=4:=⟨uU c2.1,gM.mpr c2.2,(Int.toNat_lt_toNat (Int.lt_of_lt_of_le (by decide) c2.1)).mpr (Int.lt_of_le_sub_one c3.2),uU c5.1,gM.mpr c5.2⟩;have g:FG ⟨b.toNat,c.toNat,l.toNat,x,j⟩:=⟨z.1,z.2.1,z.2.2.1,(LF.mp c4).2,a4 ▸ z.2.2.2.1,a4 ▸ z.2.2.2.2,a3,a4 ▸ b3,b4⟩;refine⟨Z,c1.2,g,a4,?_⟩;show formIn _ _ _ _ (nats w)=_;unfold formIn;rw[ah (show¬ROWS<r.toNat from i4.mpr z.2.2.2.2),e,show rowsIn r.toNat (nats (bQ.drop _))=_ from a2,b2.trans (fX j)];exact aj ((XT _).mpr g)
def U1 {e:Nat}(nn:xF bQ)(hr:bQ=k::b::c::l::r::w)(h:pZ bQ=.error e)(hk:k<=1):formIn b.toNat c.toNat l.toNat r.toNat (nats w)=none:=by
 cases ef:formIn b.toNat c.toNat l.toNat r.toNat (nats w) with
 |none=>rfl
 |some f=>
 exfalso;obtain⟨⟨g1,g2,g3,g4,g5,g6,g7,g8,g9⟩,e1,e2,e3,e4⟩:=abH ef;have a0:f.rows.length=r.toNat:=apU e4;rw[e1] at g1 g2 g3;rw[e2] at g3;rw[e3] at g4;rw[a0] at g5 g6 g8;clear ef e1 e2 e3 a0;have n:∀x∈k::b::c::l::r::w,0<=x:=hr ▸ nn;have n1:=n k (.head _);have n3:=n c (.tail _ (.tail _ (.head _)));have n4:=n l (.tail _ (.tail _ (.tail _ (.head _))));have z:8<=b/\b<=24/\c<=b-1/\1<=r/\r<=4:=by clear e4 g7 g8 g9 n nn hr h;lia
 have d0:bQ.drop 0=_:=hr;have d1:=q_ d0;have d2:=q_ d1;have d3:=q_ d2;have d4:=q_ d3;have d5:=q_ d4;have h:=VG h (rk d0 n1 hk);have h:=VG h (rk d1 z.1 z.2.1);have h:=VG h (rk d2 n3 z.2.2.1);have h:=VG h (Y3 d3 (LF.mpr ⟨n4,g4⟩));have h:=VG h (rk d4 z.2.2.2.1 z.2.2.2.2);rw[<-d5] at e4;clear z n n1 n3 n4 d0 d1 d2 d3 g1 g2 g3 g4 g5 g6 hr;rcases YQ h with⟨_,h⟩|⟨_,p7,hW,h⟩
 .rcases YQ h with⟨_,h⟩|⟨_,_,h1,h⟩
  .exact Zs nn h e4 g7
  rcases YQ h with⟨_,h⟩|⟨_,_,_,h⟩
  case inr=>cases h
  obtain⟨_,a2,_,_⟩:=NG h1;rw[e4] at a2;have ej:f.joint=_:=congrArg Prod.snd (bh a2);have:=RU nn h (λj m=>g9 j (ej ▸ m));rw[show nats _=f.joint from ej.symm,g8] at this;exact bX _ this
 by_cases c7:p7=bQ.length
 .rw[aj c7] at h;cases h
 clear h;obtain⟨_,p6,h6,h⟩:=GS hW;clear hW;obtain⟨j,_,h7,hW⟩:=GS h;clear h;cases hW;obtain⟨a1,a2,_,_⟩:=NG h6;obtain⟨b1,b2,b3,_⟩:=LC h7;have b1:=b1 (a1 (XN d4));rw[e4] at a2;have hl:=congrArg lA b2;rw[show nats (bQ.drop p6)=f.joint from(congrArg Prod.snd (bh a2)).symm,g8,aO,b3,aB,dY] at hl;clear h6 h7 a1 a2 b2 e4 nn g7 g8 g9;lia
end
open LwBits LwSound SoundCalls
def kindOf (s:Stage):Int:=if s.wide=true then 1 else 0
def mQ (s:Stage):bY:=[(s.taps:Int),(s.gain:Int),kindOf s,(s.scale:Int)]
def By (r:RowWay):bY:=(r.fixed:Int)::(r.stages.length:Int)::r.stages.flatMap mQ
def G4 (rows:List RowWay)(js:ig):bY:=rows.flatMap By++js.map λ(j:Nat)=>(j:Int)
def K0 (a b:Stage):sameStage a b=true↔a=b:=by
 unfold sameStage;obtain⟨a1,a2,a3,a4⟩:=a;obtain⟨b1,b2,b3,b4⟩:=b;simp only[cO,beq_iff_eq,Stage.mk.injEq]
theorem wC {α:Type}{f:α->α->Bool}(hf:∀a b,f a b=true↔a=b):∀(l m:List α),sameList f l m=true↔l=m
 |[],[]=>by simp[sameList]
 |[],b::m=>by simp[sameList]
 |a::l,[]=>by simp[sameList]
 |a::l,b::m=>by simp[sameList,hf a b,wC hf l m]
def Qm (a b:RowWay):sameRow a b=true↔a=b:=by
 unfold sameRow;obtain⟨a1,a2⟩:=a;obtain⟨b1,b2⟩:=b;simp only[cO,beq_iff_eq,RowWay.mk.injEq,wC K0]
def C_ (a b:Form):sameForm a b=true↔a=b:=by
 unfold sameForm;obtain⟨a1,a2,a3,a4,a5⟩:=a;obtain⟨b1,b2,b3,b4,b5⟩:=b;simp only[cO,beq_iff_eq,Form.mk.injEq,wC Qm]
def RX {a b:Stage}(h:kindOf a=kindOf b):a.wide=b.wide:=by
 unfold kindOf at h;cases h1:a.wide<;>cases h2:b.wide<;>simp[h1,h2] at h|-
theorem JD:∀{l m:List Stage} {r r':bY},l.length=m.length->l.flatMap mQ++r=m.flatMap mQ++r'->l=m/\r=r'
 |[],[],r,r',_,h=>⟨Z,by simpa using h⟩
 |a::l,b::m,r,r',hl,h=>by
  have h:(a.taps:Int)::(a.gain:Int)::kindOf a::(a.scale:Int)::(l.flatMap mQ++r)=(b.taps:Int)::(b.gain:Int)::kindOf b::(b.scale:Int)::(m.flatMap mQ++r'):=h;injection h with h1 h
  injection h with h2 h
  injection h with h3 h
  injection h with h4 h
  obtain⟨e1,e2⟩:=JD (by simpa using hl) h;refine⟨?_,e2⟩;rw[e1];congr 1;obtain⟨a1,a2,a3,a4⟩:=a;obtain⟨b1,b2,b3,b4⟩:=b;have:=RX h3;dsimp only at h1 h2 h4 this;rw[jo.mp h1,jo.mp h2,jo.mp h4,this]
def Ss {a b:RowWay}{r r':bY}(h:By a++r=By b++r'):a=b/\r=r':=by
 have h:(a.fixed:Int)::(a.stages.length:Int)::(a.stages.flatMap mQ++r)=(b.fixed:Int)::(b.stages.length:Int)::(b.stages.flatMap mQ++r'):=h;injection h with h1 h
 injection h with h2 h
 obtain⟨e1,e2⟩:=JD (jo.mp h2) h;refine⟨?_,e2⟩;obtain⟨a1,a2⟩:=a;obtain⟨b1,b2⟩:=b;dsimp only at h1 e1;rw[jo.mp h1,e1]
def Jz (r:RowWay):2<=(By r).length:=by simp[By]
theorem Fu:∀{l m:List RowWay} {js ks:bY},js.length<=2->ks.length<=2->(l.length<m.length->js.length<=ks.length)->(m.length<l.length->ks.length<=js.length)->
  l.flatMap By++js=m.flatMap By++ks->l=m/\js=ks
 |[],[],js,ks,_,_,_,_,h=>⟨Z,by simpa using h⟩
 |[],b::m,js,ks,h1,h2,h3,_,h=>by
  have:=congrArg lA h;have z:=Jz b;have:=h3 (by simp);rw[cj] at*;simp at*;lia
 |a::l,[],js,ks,h1,h2,_,h4,h=>by
  have:=congrArg lA h;have z:=Jz a;have:=h4 (by simp);rw[cj] at*;simp at*;lia
 |a::l,b::m,js,ks,h1,h2,h3,h4,h=>by
  rw[cj,cj,cC,cC] at h;obtain⟨e1,e2⟩:=Ss h;obtain⟨e3,e4⟩:=Fu (l:=l) (m:=m) h1 h2 (λq=>h3 (by simpa using q)) (λq=>h4 (by simpa using q)) e2;exact⟨by rw[e1,e3],e4⟩
def Vo {g:Form}(hf:FG f)(hg:FG g)(h:G4 f.rows f.joint=G4 g.rows g.joint):f.rows=g.rows/\f.joint=g.joint:=by
 have l1:=hf.jl;have l2:=hg.jl;have r1:=hf.r4;have r2:=hg.r4;obtain⟨e1,e2⟩:=Fu (by rw[aB];lia) (by rw[aB];lia) (λq=>by rw[aB,aB];lia) (λq=>by rw[aB,aB];lia) h;refine⟨e1,?_⟩;have inj:∀{a b:ig},a.map (λ(j:Nat)=>(j:Int))=b.map (λ(j:Nat)=>(j:Int))->a=b:=by
  intro a;induction a with
  |nil=>intro b h;cases b with
   |nil=>rfl
   |cons _ _=>simp at h
  |cons x a ih=>intro b h;cases b with
   |nil=>simp at h
   |cons y b=>
    rw[cy,cy] at h;injection h with h1 h2
    rw[jo.mp h1,ih h2]
 exact inj e2
def VW {g:Form}(hf:FG f)(hg:FG g):sameForm f g=true↔f.bits=g.bits/\f.cut=g.cut/\f.lanes=g.lanes/\G4 f.rows f.joint=G4 g.rows g.joint:=by
 rw[C_];constructor
 .rintro rfl;exact⟨Z,Z,Z,Z⟩
 .rintro⟨h1,h2,h3,h4⟩;obtain⟨h5,h6⟩:=Vo hf hg h4;obtain⟨a1,a2,a3,a4,a5⟩:=f;obtain⟨b1,b2,b3,b4,b5⟩:=g;dsimp only at*;rw[h1,h2,h3,h5,h6]
open LwBits LwSound SoundCalls
def iT (B x:Int):Prop:= -B<=x/\x<=B
def Cy {s:Stage}{l:Learnt}(g:iw s)(ok:xQ s l):iT (2^38) (L6 s l):=by
 obtain⟨a1,a2,a3,a4,a5,a6⟩:=g;have hd:=MJ (vd s).1 (zj s).1 ok.wb ok.hb;rw[ok.wl] at hd;rw[EN ok];unfold iT;by_cases hw:s.wide=true
 .rw[aj hw];have e1:ox s=1048576:=by unfold ox;rw[aj hw]
  have e2:mH s=1073741824:=by unfold mH;rw[aj hw]
  rw[e1,e2] at hd;have:=(a6 hw).2;have e3:(1048576:Int)*1073741824=1125899906842624:=by decide
  rw[e3] at hd;have Yd:(2:Int)^38=274877906944:=by decide
  rw[Yd];have h8:((s.taps:Nat):Int)<=8:=by lia
  lia
 .rw[ah hw];have e1:ox s=32767:=by unfold ox;rw[ah hw]
  have e2:mH s=32767:=by unfold mH;rw[ah hw]
  rw[e1,e2] at hd;have e3:(32767:Int)*32767=1073676289:=by decide
  rw[e3] at hd;have Yd:(2:Int)^38=274877906944:=by decide
  rw[Yd];have h16:((s.taps:Nat):Int)<=16:=by lia
  have hp:(2:Int)^s.scale<=2^12:=yS a5;have hp0:=two_pos s.scale;have h12:(2:Int)^12=4096:=by decide
  rw[h12] at hp;generalize(2:Int)^s.scale=P at hp hp0|-
  generalize sR l.w l.h=D at hd|-
  have b1:D<=17178820624:=by lia
  have b2: -17178820624<=D:=by lia
  have m1:D*P<=17178820624*4096:=by
   rcases amB 0 D with q|q
   .exact BV b1 hp (by lia) (by decide)
   .have:=Int.mul_nonneg_of_nonpos_of_nonpos q (show-P<=0 by lia);rw[Int.mul_neg] at this;lia
  have m2: -(17178820624*4096)<=D*P:=by
   rcases amB 0 D with q|q
   .have:=kZ q (show(0:Int)<=P by lia);lia
   .have:=BV (show-D<=17178820624 by lia) hp (by lia) (by decide);rw[Int.neg_mul] at this;lia
  lia
def Qu {ss:List Stage}:∀{ls:List Learnt} (u B:Int),ls.length=ss.length->(∀s∈ss,iw s)->(∀(i:Nat) (s:Stage) (x:Learnt),ss[i]? =some s->ls[i]? =some x->xQ s x)->
  iT B u->iT (B+ss.length*2^38) (mx (ss.zip ls) u).1:=by
 induction ss with
 |nil=>
  intro ls u B _ _ _ h;have:(mx (List.zip ([]:List Stage) ls) u).1=u:=by simp[mx]
  rw[this];unfold iT at*;simp;exact h
 |cons s0 ss ih=>
  intro ls u B hl h1 h hu
  match ls,hl with
  |l0::ls,hl=>
   simp only[uM,mx];have f:=Cy (h1 s0 (aU ..)) (h 0 s0 l0 rfl rfl);have z:=ih (ls:=ls) (u-L6 s0 l0) (B+2^38) (by simpa using hl) (λs m=>h1 s (aP _ m)) (λi s x a b=>h (i+1) s x (by simpa using a) (by simpa using b)) (by unfold iT at*;lia);unfold iT at z|-
   rw[aZ,ft,BU];have Yd:(2:Int)^38=274877906944:=by decide
   rw[Yd] at z|-
   lia
def Xr {ss:List Stage}:∀{ls:List Learnt} (u B:Int),ls.length=ss.length->(∀s∈ss,iw s)->(∀(i:Nat) (s:Stage) (x:Learnt),ss[i]? =some s->ls[i]? =some x->xQ s x)->
  iT B u->iT (B+ss.length*2^38) (mm (ss.zip ls) u).1:=by
 induction ss with
 |nil=>
  intro ls u B _ _ _ h;have:(mm (List.zip ([]:List Stage) ls) u).1=u:=by simp[mm]
  rw[this];unfold iT at*;simp;exact h
 |cons s0 ss ih=>
  intro ls u B hl h1 h hu
  match ls,hl with
  |l0::ls,hl=>
   simp only[uM,mm];have f:=Cy (h1 s0 (aU ..)) (h 0 s0 l0 rfl rfl);have z:=ih (ls:=ls) u B (by simpa using hl) (λs m=>h1 s (aP _ m)) (λi s x a b=>h (i+1) s x (by simpa using a) (by simpa using b)) hu;unfold iT at f z|-
   rw[aZ,ft,BU];have Yd:(2:Int)^38=274877906944:=by decide
   rw[Yd] at f z|-
   lia
def mz (B:Int)(l:RowLearnt):Prop:=∀x∈l.last,iT B x
def Lr {l:bY}(hB:0<=B)(h:∀x∈l,iT B x):iT (7*B) (jf p l):=by
 have g:∀i,iT B (l.getD i 0):=λi=>by
  rw[aG];cases e:l[i]? with
  |none=>unfold iT;simp;lia
  |some x=>exact h x (az e)
 have g0:=g 0;have g1:=g 1;have g2:=g 2;unfold iT at*
 match p with
 |0=>show-(7*B)<=0/\0<=7*B;lia
 |1=>show-(7*B)<=l.getD 0 0/\l.getD 0 0<=7*B;lia
 |2=>show-(7*B)<=2*l.getD 0 0-l.getD 1 0/\2*l.getD 0 0-l.getD 1 0<=7*B;lia
 |p+3=>show-(7*B)<=3*l.getD 0 0-3*l.getD 1 0+l.getD 2 0/\3*l.getD 0 0-3*l.getD 1 0+l.getD 2 0<=7*B;lia
def Zq (ok:lH r l)(g:lJ r)(hl:mz (2^24) l)(hx:iT (2^24) x):iT (2^40) (m8 r l x).1/\mz (2^24) (m8 r l x).2:=by
 constructor
 .have f:=Lr (p:=r.fixed) (B:=2^24) (by decide) hl;have z:=Qu (ss:=r.stages) (ls:=l.stages) (x-jf r.fixed l.last) (8*2^24) ok.sl g.st ok.st (by unfold iT at*;lia);have:=g.sn;show iT (2^40) (mx (r.stages.zip l.stages) (x-jf r.fixed l.last)).1;unfold iT at*;have Yd:(2:Int)^38=274877906944:=by decide
  have h24:(2:Int)^24=16777216:=by decide
  have h40:(2:Int)^40=1099511627776:=by decide
  rw[Yd,h24] at z;rw[h40];have hn:((r.stages.length:Nat):Int)<=2:=by lia
  lia
 .intro y hy;have hy:y∈x::l.last.take 2:=hy;rcases bo.mp hy with q|q
  .rw[q];exact hx
  .exact hl y (fb q)
def xS (ok:lH r l)(g:lJ r)(hl:mz (2^24) l)(xs:bY)(hx:∀x∈xs,iT (2^24) x):
  (∀e∈(nz (m8 r) l xs).1,iT (2^40) e)/\mz (2^24) (nz (m8 r) l xs).2:=by
 have:∀(xs:bY) (a:bY×RowLearnt),lH r a.2->(∀x∈xs,iT (2^24) x)->(∀e∈a.1,iT (2^40) e)->mz (2^24) a.2->
   (∀e∈(xs.foldl (λ(a:bY×RowLearnt) (x:Int)=>(a.1++[(m8 r a.2 x).1],(m8 r a.2 x).2)) a).1,iT (2^40) e)/\mz (2^24) (xs.foldl (λ(a:bY×RowLearnt) (x:Int)=>(a.1++[(m8 r a.2 x).1],(m8 r a.2 x).2)) a).2:=by
  intro xs;induction xs with
  |nil=>intro a _ _ h1 h2;exact⟨h1,h2⟩
  |cons x rr ih=>
   intro a ok hx h1 h2;rw[bR];obtain⟨z1,z2⟩:=Zq ok g h2 (hx x (aU ..));refine ih _ (ok.rest g x) (λy m=>hx y (aP _ m)) (λe he=>?_) z2;rcases de.mp he with q|q
   .exact h1 e q
   .rw[f_.mp q];exact z1
 exact this xs _ ok hx (λe he=>by simp at he) hl
def adq {e:Int}(h:iT (2^40) e):zig e+1<2^64:=by
 unfold iT at h;have h40:(2:Int)^40=1099511627776:=by decide
 rw[h40] at h;unfold zig;split<;>omega
def ag8 (e:Int):(if 0<=e then 2*e else-2*e-1)=((zig e:Nat):Int):=by
 unfold zig;by_cases h:0<=e
 .rw[aj h,aj h];lia
 .rw[ah h,ah h];lia
def ag7 (n:Nat):(if((n:Nat):Int)%2=0 then((n:Nat):Int) / 2 else-(((n:Nat):Int)+1) / 2)=zag n:=by
 unfold zag;by_cases h:n%2=0
 .rw[aj h,aj (by lia)];lia
 .rw[ah h,ah (by lia)];lia
def U3 (ok:lH r l)(g:lJ r){B:Int}(hB:2^50<=B)(hl:mz B l){e:Int}(he:iT (2^46) e):iT (8*B) (kU r l e).1/\mz (8*B) (kU r l e).2:=by
 have h50:(2:Int)^50=1125899906842624:=by decide
 have h46:(2:Int)^46=70368744177664:=by decide
 have Yd:(2:Int)^38=274877906944:=by decide
 rw[h50] at hB;have f:=Lr (p:=r.fixed) (B:=B) (by lia) hl;have z:=Xr (ss:=r.stages) (ls:=l.stages) e (2^46) ok.sl g.st ok.st he;have:=g.sn;have main:iT (8*B) ((mm (r.stages.zip l.stages) e).1+jf r.fixed l.last):=by
  unfold iT at*;rw[h46,Yd] at z;have hn:((r.stages.length:Nat):Int)<=2:=by lia
  lia
 refine⟨main,λy hy=>?_⟩;have hy:y∈((mm (r.stages.zip l.stages) e).1+jf r.fixed l.last)::l.last.take 2:=hy;rcases bo.mp hy with q|q
 .rw[q];exact main
 .have:=hl y (fb q);unfold iT at*;lia
def Hr (ok:lH r l)(g:lJ r)(hB:2^50<=B)(hl:mz B l)(xs:bY)(hx:∀x∈xs,iT (2^46) x):
  ∀y∈(nz (kU r) l xs).1,iT (8^xs.length*B) y:=by
 have fA:∀(xs:bY) (a:bY×RowLearnt) (B:Int),2^50<=B->lH r a.2->(∀x∈xs,iT (2^46) x)->(∀e∈a.1,iT B e)->mz B a.2->
   (∀e∈(xs.foldl (λ(a:bY×RowLearnt) (x:Int)=>(a.1++[(kU r a.2 x).1],(kU r a.2 x).2)) a).1,iT (8^xs.length*B) e):=by
  intro xs;induction xs with
  |nil=>intro a B _ _ _ h1 h2;simpa using h1
  |cons x rr ih=>
   intro a B hB ok hx h1 h2;rw[bR,aZ,Int.pow_succ,QM];obtain⟨z1,z2⟩:=U3 ok g hB h2 (hx x (aU ..));refine ih _ (8*B) (by lia) (ok.back g x) (λy m=>hx y (aP _ m)) (λe he=>?_) z2;rcases de.mp he with q|q
   .have:=h1 e q;unfold iT at*;have h50:(2:Int)^50=1125899906842624:=by decide
    lia
   .rw[f_.mp q];exact z1
 exact fA xs _ B hB ok hx (λe he=>by simp at he) hl
open LwBits LwSound SoundCalls
inductive uc:bY->ly->bY->Prop where
 |open_ (t:bY):uc (0::t) [[0]] t
 |head (u t:bY):uc (1::(u.length:Int)::(u++t)) [[1],u] t
 |read (u t:bY):uc (2::(u.length:Int)::(u++t)) [[2],u] t
 |write (k b c l r:Int) (w s x t:bY):uc (3::k::b::c::l::r::(w.length:Int)::(w++((s.length:Int)::(s++((x.length:Int)::(x++t)))))) [[3,k,b,c,l,r],w,s,x] t
 |cut (k b c l r:Int) (w s x t:bY):uc (4::k::b::c::l::r::(w.length:Int)::(w++((s.length:Int)::(s++((x.length:Int)::(x++t)))))) [[4,k,b,c,l,r],w,s,x] t
def YM {a:bY}(h:a.length=5):∃k b c l r,a=[k,b,c,l,r]:=by
 obtain⟨k,a,rfl,h1⟩:=lcs h;obtain⟨b,a,rfl,h2⟩:=lcs h1;obtain⟨c,l,r,rfl⟩:=lc3 h2;exact⟨k,b,c,l,r,Z⟩
def aeh (p:Int)(u t:bY):Hk [[p],u]++t=p::(u.length:Int)::(u++t):=by simp[Hk,adJ,aeY]
def aei (p k b c l r:Int)(w s x t:bY):Hk [[p,k,b,c,l,r],w,s,x]++t=p::k::b::c::l::r::(w.length:Int)::(w++((s.length:Int)::(s++((x.length:Int)::(x++t))))):=by simp[Hk,adJ,aeY]
def abA {l:bY}{c:ly}{t:bY}(h:Te jj l=some (c,t)):uc l c t:=by
 obtain⟨e,p,a,xs,rfl,hs⟩:=PyFlat.call_inv h;clear h;subst e;unfold jj at hs;by_cases h0:p=0
 .rw[aj h0] at hs;obtain⟨e1,e2⟩:=zK (bh hs);rw[di e1.symm,di e2.symm,h0];exact .open_ t
 rw[ah h0] at hs;by_cases h1:p=1
 .rw[aj h1] at hs;obtain⟨e1,e2⟩:=zK (bh hs);obtain⟨u,rfl⟩:=lc1 e2.symm;rw[di e1.symm,aeh,h1];exact .head u t
 rw[ah h1] at hs;by_cases h2:p=2
 .rw[aj h2] at hs;obtain⟨e1,e2⟩:=zK (bh hs);obtain⟨u,rfl⟩:=lc1 e2.symm;rw[di e1.symm,aeh,h2];exact .read u t
 rw[ah h2] at hs;by_cases h3:p=3
 .rw[aj h3] at hs;obtain⟨e1,e2⟩:=zK (bh hs);obtain⟨k,b,c,l,r,rfl⟩:=YM e1.symm;obtain⟨w,s,x,rfl⟩:=lc3 e2.symm;rw[aei,h3];exact .write k b c l r w s x t
 rw[ah h3] at hs;by_cases h4:p=4
 .rw[aj h4] at hs;obtain⟨e1,e2⟩:=zK (bh hs);obtain⟨k,b,c,l,r,rfl⟩:=YM e1.symm;obtain⟨w,s,x,rfl⟩:=lc3 e2.symm;rw[aei,h4];exact .cut k b c l r w s x t
 rw[ah h4] at hs;cases hs
def Z_ {l:bY}{c:ly}{t:bY}(h:uc l c t):JT c=c:=by cases h<;>rfl
inductive qy:bY->List (ly)->Prop where
 |nil:qy [] []
 |cons {l t:bY} {c:ly} {cs:List (ly)} (h:uc l c t) (r:qy t cs):qy l (c::cs)
theorem Li:∀(f:Nat) (l:bY) (cs:List (ly)),tH jj f l=some cs->qy l cs
 |f,[],cs,h=>by
  have:cs=[]:=by cases f<;>(simp[tH] at h;exact h)
  subst this;exact .nil
 |0,_::_,cs,h=>by cases h
 |f+1,p::r,cs,h=>by
  have h:(match Te jj (p::r) with
   |none=>none
   |some (c,t)=>match tH jj f t with
    |none=>none
    |some cs=>some (c::cs))=some cs:=h
  cases e:Te jj (p::r) with
  |none=>rw[e] at h;cases h
  |some x=>
   obtain⟨c,t⟩:=x;rw[e] at h;simp only at h;cases e2:tH jj f t with
   |none=>rw[e2] at h;cases h
   |some cs'=>
    rw[e2] at h;cases h;exact .cons (abA e) (Li f t cs' e2)
def Wi {l:bY}{cs:List (ly)}(h:qy l cs):cs.map JT=cs:=by
 induction h with
 |nil=>rfl
 |cons h r ih=>rw[cy,Z_ h,ih]
def QU {l:bY}(h:N2 l=true):∃cs,qy l cs/\(∀c∈cs,jQ c=true)/\cs.length<=200/\EC l=Ai (BY aQ aq9 cs):=by
 unfold N2 at h;unfold EC;have hc:PyWrlnth.calls l=(match tH jj l.length l with|none=>none|some cs=>some (cs.map JT)):=rfl;cases e:tH jj l.length l with
 |none=>
  rw[e] at hc;rw[hc] at h;cases h
 |some cs=>
  have ca:=Li _ _ _ e;rw[e] at hc;simp only at hc;rw[Wi ca] at hc;rw[hc] at h|-
  simp only at h|-
  refine⟨cs,ca,?_,?_,Z⟩
  .have h2:=(e_.mp h).2;unfold aq8 at h2;have h3:=(e_.mp (e_.mp h2).2).2;exact jq.mp h3
  .exact of_decide_eq_true (e_.mp h).1
def Wb (a:bY)(l:ly):Ai (a::l)=(a.length:Int)::(a++Ai l):=by
 simp[Ai]
def P9 (s:aq7)(c:ly)(cs:List (ly)):BY aQ s (c::cs)=(aQ s c).2::BY aQ (aQ s c).1 cs:=rfl
open LwBits LwSound
def gu {α:Type}{l:List α}{x d:α}(h:l[i]? =some x):l.getD i d=x:=by rw[aG,h];rfl
def zu {α:Type}{f:Nat->α}(h:i<n):((aJ n).map f)[i]? =some (f i):=by
 rw[aw,bD h];rfl
def get_some {α:Type}{l:List α}(h:i<l.length):∃x,l[i]? =some x:=⟨_,aD h⟩
def fJ {α:Type}{l:List α}{x:α}(h:l[i]? =some x):i<l.length:=(aN.mp h).1
structure DB (st:aW):Prop where
 fg:FG st.form
 ln:st.rows.length=st.form.rows.length
 ok:∀(i:Nat) rw l,st.form.rows[i]? =some rw->st.rows[i]? =some l->lH rw l/\sI st.form l.eps/\mz (2^24) l
def DB.new (g:FG f):DB (newState f):=by
 refine⟨g,by simp[newState],λi rw l h1 h2=>?_⟩;have RM:f.rows[i]? =some rw:=h1;have h2':(f.rows.map newRow)[i]? =some l:=h2;rw[aw,RM] at h2';cases h2';refine⟨lH.new (g.lS rw (az RM)),sI.nil _,λx hx=>?_⟩;have:x=0:=by simpa[newRow] using hx
 rw[this];exact⟨by decide,by decide⟩
def wX (h:iT B x):iT (2*B) x:=by unfold iT at*;lia
def YK {y:Int}(h:iT B x)(k:iT B y):iT (2*B) (x+y):=by unfold iT at*;lia
def Pt {y:Int}(h:iT B x)(k:iT B y):iT (2*B) (x-y):=by unfold iT at*;lia
def ajS (h:iT (2*B) x):iT (2*B) (uT x 2):=by
 rw[cu _ (by decide)];unfold iT at*;lia
def YF {m:Nat}{l r:Int}(hl:iT (2^23) l)(hr:iT (2^23) r):iT (2^24) (join m l r).1/\iT (2^24) (join m l r).2:=by
 rw[show(2:Int)^24=2*2^23 by decide]
 match m with
 |0=>exact⟨wX hl,wX hr⟩
 |1=>exact⟨wX hl,Pt hr hl⟩
 |2=>exact⟨Pt hl hr,wX hr⟩
 |m+3=>exact⟨ajS (YK hl hr),Pt hl hr⟩
def SS {m:Nat}{a b:Int}(h1:iT (2^23) (J8 m a b).1)(h2:iT (2^23) (J8 m a b).2):iT (2^24) a/\iT (2^24) b:=by
 rw[show(2:Int)^24=2*2^23 by decide];generalize(2:Int)^23=B at*
 match m,h1,h2 with
 |0,h1,h2=>exact⟨wX h1,wX h2⟩
 |1,h1,h2=>exact⟨wX h1,uS b a ▸ Pt h2 h1⟩
 |2,h1,h2=>exact⟨uS a b ▸ Pt h1 h2,wX h2⟩
 |m+3,h1,h2=>
  have h1:iT B (a+uT (b+1) 2):=h1;have h2:iT B (a+uT (b+1) 2-b):=h2;rw[cu _ (by decide)] at h1 h2;unfold iT at*;omega
theorem wm {g:Nat->Int->Int->Int×Int}{p q:Int->Prop}(h0:p 0)(Yu:∀x,p x->q x)(hg:∀m l r,p l->p r->q (g m l r).1/\q (g m l r).2):∀(js:ig) (rows:ly),(∀x∈rows,∀v∈x,p v)->∀x∈jW g js rows,∀v∈x,q v
 |[],rows,h=>by rw[o8];exactλx hx v hv=>Yu v (h x hx v hv)
 |_::_,[],h=>λx hx v hv=>Yu v (h x hx v hv)
 |_::_,[_],h=>λx hx v hv=>Yu v (h x hx v hv)
 |j::js,a::b::r,h=>λx hx v hv=>by
  have ih:=wm h0 Yu hg js r λx m=>h x (by simp[m]);have gd:∀(y:bY) (t:Nat),(∀v∈y,p v)->p (y.getD t 0):=λy t hy=>by
   rw[aG];cases e:y[t]? with
   |none=>exact h0
   |some z=>exact hy z (az e)
  simp only[jW,bo] at hx;rcases hx with e|e|e
  .rw[e] at hv;obtain⟨t,_,rfl⟩:=bj.mp hv;exact(hg j _ _ (gd a t (h a (by simp))) (gd b t (h b (by simp)))).1
  .rw[e] at hv;obtain⟨t,_,rfl⟩:=bj.mp hv;exact(hg j _ _ (gd a t (h a (by simp))) (gd b t (h b (by simp)))).2
  .exact ih x e v hv
def Nf (h:iT (2^23) x):iT (2^24) x:=by
 have h23:(2:Int)^23=8388608:=by decide
 have h24:(2:Int)^24=16777216:=by decide
 unfold iT at*;lia
theorem CD:∀(js:ig) (rows:ly),(∀x∈rows,x.length=n)->(∀x∈jW J8 js rows,∀v∈x,iT (2^23) v)->∀x∈rows,∀v∈x,iT (2^24) v
 |[],rows,_,h=>by rw[o8] at h;exactλx hx v hv=>Nf (h x hx v hv)
 |_::_,[],_,h=>λx hx v hv=>Nf (h x hx v hv)
 |_::_,[_],_,h=>λx hx v hv=>Nf (h x hx v hv)
 |j::js,a::b::r,hn,h=>λx hx v hv=>by
  simp only[jW] at h;have ih:=CD js r (λx m=>hn x (by simp[m])) (λx m=>h x (by simp[m]));have ha:=hn a (by simp);have hb:=hn b (by simp);have both:∀t,t<n->iT (2^24) (a.getD t 0)/\iT (2^24) (b.getD t 0):=λt ht=>
   SS (m:=j) (h _ (aU ..) _ (bj.mpr ⟨t,cJ.mpr (by lia),Z⟩)) (h _ (aP _ (aU ..)) _ (bj.mpr ⟨t,cJ.mpr (by lia),Z⟩))
  simp only[bo] at hx;rcases hx with e|e|e
  .subst e;obtain⟨t,ht⟩:=dJ.mp hv;rw[<-gu (d:=0) ht];exact(both t (by have:=fJ ht;lia)).1
  .subst e;obtain⟨t,ht⟩:=dJ.mp hv;rw[<-gu (d:=0) ht];exact(both t (by have:=fJ ht;lia)).2
  .exact ih x e v hv
theorem K_ {f:RowLearnt->Int->Int×RowLearnt}:∀(xs:bY) (a:bY×RowLearnt),∀e∈a.1,e∈(xs.foldl (λ(a:bY×RowLearnt) (x:Int)=>(a.1++[(f a.2 x).1],(f a.2 x).2)) a).1
 |[],a,e,h=>h
 |x::r,a,e,h=>by rw[bR];exact K_ r _ e (mY _ h)
theorem Hs:∀(xs:bY) (a:bY×RowLearnt),(∀e∈(xs.foldl (λ(a:bY×RowLearnt) (x:Int)=>(a.1++[(kU r a.2 x).1],(kU r a.2 x).2)) a).1,iT B e)->mz B a.2->mz B (xs.foldl (λ(a:bY×RowLearnt) (x:Int)=>(a.1++[(kU r a.2 x).1],(kU r a.2 x).2)) a).2
 |[],a,_,h=>h
 |x::rr,a,hy,h=>by
  rw[bR] at hy|-
  refine Hs rr _ hy λy m=>?_;have m:y∈(kU r a.2 x).1::a.2.last.take 2:=m;rcases bo.mp m with q|q
  .rw[q];exact hy _ (K_ (f:=kU r) rr _ _ (eT _ (f_.mpr rfl)))
  .exact h y (fb q)
def i_ (s:aW)(aS:bY)(xs:ly):(L5 s aS xs).length=xs.length:=by simp[L5]
def qD {x:bY}(h1:xs[i]? =some x)(h2:s.rows[i]? =some l):(L5 s aS xs)[i]? =some (zB s.form aS l.eps x):=by
 unfold L5;rw[zu (fJ h1),gu h1,gu h2]
def jb (s:aW)(aS:bY)(xs:ly):ly:=jW join s.form.joint ((L5 s aS xs).map λ(x:bY×List Int)=>x.1)
def jS (s:aW)(aS:bY)(xs:ly):(jb s aS xs).length=xs.length:=by
 unfold jb;rw[gG,aB,i_]
def Pk (hn:∀x∈xs,x.length=n):∀y∈jb s aS xs,y.length=n:=by
 refine nt _ _ _ λy hy=>?_;obtain⟨c,hc,rfl⟩:=bj.mp hy;obtain⟨i,hi,rfl⟩:=bj.mp hc;obtain⟨x,hx⟩:=get_some (cJ.mp hi);rw[qk,gu hx];exact hn x (az hx)
def IB (so:DB s)(hs:aS.length=4)(hl:xs.length=s.form.rows.length)(hx:∀x∈xs,∀v∈x,cA s.form v=true):∀y∈jb s aS xs,∀v∈y,iT (2^24) v:=by
 refine wm (p:=iT (2^23)) ⟨by decide,by decide⟩ (λ_ h=>Nf h) (λm l r h1 h2=>YF h1 h2) _ _ λy hy v hv=>?_;obtain⟨c,hc,rfl⟩:=bj.mp hy;obtain⟨i,hi⟩:=dJ.mp hc;have h0:=fJ hi;rw[i_] at h0;obtain⟨x,J5⟩:=get_some h0;obtain⟨l,WL⟩:=get_some (show i<s.rows.length by rw[so.ln];omega);obtain⟨lS,hr1⟩:=get_some (show i<s.form.rows.length by omega);rw[qD J5 WL] at hi;cases hi;have b:=B7 so.fg hs (so.ok i lS l hr1 WL).2.1 x (hx x (az J5)) v hv;have lb:=IJ so.fg;constructor<;>omega
def lL (s:aW)(aS:bY)(xs:ly):ly:=(lD m8 s (jb s aS xs)).map λ(x:bY×RowLearnt)=>x.1
def SW (s:aW)(fA:Bool)(aS:bY)(xs:ly)(n:Nat):(written s fA aS xs n).1=blockBytes fA s.form n (code s.form.lanes (models xs.length) (itemsOf (lL s aS xs) n)):=rfl
def wD {fA:Bool}{rw:RowWay}{x y:bY}(h1:s.form.rows[i]? =some rw)(h2:s.rows[i]? =some l)(h3:xs[i]? =some x)(h4:(jb s aS xs)[i]? =some y):
  (written s fA aS xs n).2.rows[i]? =some {(nz (m8 rw) l y).2 with eps:=(zB s.form aS l.eps x).2}:=by
 show((aJ (lD m8 s (jb s aS xs)).length).map λ(r:Nat)=>({((lD m8 s (jb s aS xs)).getD r ([],⟨[],[],[]⟩)).2 with eps:=((L5 s aS xs).getD r ([],[])).2}:RowLearnt))[i]? =_;have ha:(lD m8 s (jb s aS xs))[i]? =some (nz (m8 rw) l y):=by
  unfold lD;rw[zu (fJ h4),gu h1,gu h2,gu h4]
 rw[zu (fJ ha),gu ha,gu (qD h3 h2)]
def yU (s:aW)(fA:Bool)(aS:bY)(xs:ly)(n:Nat):(written s fA aS xs n).2.rows.length=xs.length:=by
 show((aJ (lD m8 s (jb s aS xs)).length).map λ(r:Nat)=>({((lD m8 s (jb s aS xs)).getD r ([],⟨[],[],[]⟩)).2 with eps:=((L5 s aS xs).getD r ([],[])).2}:RowLearnt)).length=_;rw[aB,iN];unfold lD;rw[aB,iN,jS]
def DB.written {fA:Bool}(so:DB s)(hs:aS.length=4)(hl:xs.length=s.form.rows.length)(hx:∀x∈xs,∀v∈x,cA s.form v=true):DB (dt s fA aS xs n).2:=by
 refine⟨so.fg,(yU ..).trans hl,λi rw l h1 h2=>?_⟩;have h1:s.form.rows[i]? =some rw:=h1;have hi:=fJ h1;obtain⟨l0,Iu⟩:=get_some (show i<s.rows.length by rw[so.ln];omega);obtain⟨x,WU⟩:=get_some (show i<xs.length by omega);obtain⟨y,hy0⟩:=get_some (show i<(jb s aS xs).length by rw[jS];omega);rw[wD h1 Iu WU hy0] at h2;cases h2;obtain⟨o1,o2,o3⟩:=so.ok i rw l0 h1 Iu;have g:=so.fg.lS rw (az h1);have o:=Ht (f:=m8) (λl x q=>q.rest g x) o1 y;have e:=A2 so.fg hs o2 x (hx x (az WU));exact⟨⟨o.fx,o.la,o.sl,o.st,e.len⟩,e,(xS o1 g o3 y (IB so hs hl hx y (az hy0))).2⟩
def VU (so:DB s)(hs:aS.length=4)(hl:xs.length=s.form.rows.length)(hx:∀x∈xs,∀v∈x,cA s.form v=true):∀e∈lL s aS xs,∀v∈e,zig v+1<2^64:=λe he v hv=>by
 obtain⟨c,hc,rfl⟩:=bj.mp he;obtain⟨i,hi,rfl⟩:=bj.mp hc;have hi:=cJ.mp hi;obtain⟨y,hy0⟩:=get_some hi;rw[jS] at hi;obtain⟨l0,Iu⟩:=get_some (show i<s.rows.length by rw[so.ln];lia);obtain⟨lS,hr0⟩:=get_some (show i<s.form.rows.length by lia);rw[gu hr0,gu Iu,gu hy0] at hv;obtain⟨o1,o2,o3⟩:=so.ok i lS l0 hr0 Iu;exact adq ((xS o1 (so.fg.lS lS (az hr0)) o3 y (IB so hs hl hx y (az hy0))).1 v hv)
def Sq (hn:∀x∈xs,x.length=n):∀e∈lL s aS xs,e.length=n:=λe he=>by
 obtain⟨c,hc,rfl⟩:=bj.mp he;obtain⟨i,hi,rfl⟩:=bj.mp hc;obtain⟨y,hy0⟩:=get_some (cJ.mp hi);rw[vN,gu hy0];exact Pk hn y (az hy0)
def rX (s:aW)(aS:bY)(xs:ly):(lL s aS xs).length=xs.length:=by
 unfold lL lD;rw[aB,aB,iN,jS]
inductive Fb (b:rJ)(p w:Nat)(ok:Bool)(r:List (Nat×Nat×Bool)):Prop|i(l:p+w<=b.length)(_:ok=true)(_:mI b r=none)
def N3 {ok:Bool}{r:List (Nat×Nat×Bool)}(h:mI b ((p,w,ok)::r)=none):Fb b p w ok r:=by
 rw[ql] at h;by_cases h1:b.length<p+w
 .rw[aj h1] at h;cases h
 rw[ah h1] at h;cases ok with
 |false=>cases h
 |true=>exact⟨i4.mp h1,Z,h⟩
def fok {β:Type}{o:Option Nat}{e:Except Nat β}{x:β}(h:(match(generalizing:=false) o with|some y=>(.error y:Except Nat β)|none=>e)=.ok x):o=none/\e=.ok x:=by
 cases o with
 |none=>exact⟨Z,h⟩
 |some y=>cases h
def bt2 {p q:Prop}[Decidable p][Decidable q](h:(decide p&&decide q)=true):p/\q:=by simpa using h
def agu {t g:Nat}(h1:(decide (1<=t)&&decide (t<=TAPS))=true)(h2:(decide (1<=g)&&decide (g<=1024))=true)(h3:(w==0||(w==1&&decide (t<=WIDE)))=true)(h4:(decide (c<=12)&&(w==0||c==0))=true):iw ⟨t,g,w==1,c⟩:=by
 obtain⟨a1,a2⟩:=bt2 h1;obtain⟨a3,a4⟩:=bt2 h2;obtain⟨a5,a6⟩:=e_.mp h4;refine⟨a1,a2,a3,a4,of_decide_eq_true a5,λhw=>?_⟩;have hw:w=1:=beq_iff_eq.mp hw;subst hw;exact⟨beq_iff_eq.mp a6,of_decide_eq_true h3⟩
theorem Fq:∀(k p:Nat) {ss:List Stage} {q:Nat},rK b k p=.ok (ss,q)->ss.length=k/\(∀s∈ss,iw s)/\(p<=b.length->q<=b.length)
 |0,p,ss,q,h=>by cases h;exact⟨Z,nofun,id⟩
 |k+1,p,ss,q,h=>by
  obtain⟨hb,h0⟩:=fok h;clear h;cases hr:rK b k (p+8) with
  |error y=>rw[hr] at h0;cases h0
  |ok r=>
  rw[hr] at h0;dsimp only at h0;have h:=h0;clear h0;cases h;obtain⟨_,h1,hb⟩:=N3 hb;obtain⟨_,h2,hb⟩:=N3 hb;obtain⟨_,h3,hb⟩:=N3 hb;obtain⟨_,h4,hb⟩:=N3 hb;obtain⟨l5,_,_⟩:=N3 hb;obtain⟨i1,i2,i3⟩:=Fq k (p+8) hr;refine⟨congrArg (· +1) i1,λs hs=>?_,λ_=>i3 l5⟩;rcases bo.mp hs with rfl|e
  .exact agu h1 h2 h3 h4
  .exact i2 s e
theorem LS:∀(k p:Nat) {rs:List RowWay} {q:Nat},N_ b k p=.ok (rs,q)->rs.length=k/\(∀r∈rs,lJ r)/\(p<=b.length->q<=b.length)
 |0,p,rs,q,h=>by cases h;exact⟨Z,nofun,id⟩
 |k+1,p,rs,q,h=>by
  obtain⟨hb,h0⟩:=fok h;clear h;cases hs:rK b (at_ b (p+1)) (p+2) with
  |error y=>rw[hs] at h0;cases h0
  |ok s=>
  rw[hs] at h0;dsimp only at h0;have h:=h0;clear h0;cases hr:N_ b k s.2 with
  |error y=>rw[hr] at h;cases h
  |ok r=>
  rw[hr] at h;dsimp only at h;have h0:=h;clear h;cases h0;obtain⟨_,h1,hb⟩:=N3 hb;obtain⟨l2,h2,_⟩:=N3 hb;obtain⟨j1,j2,j3⟩:=Fq _ _ hs;obtain⟨i1,i2,i3⟩:=LS k s.2 hr;refine⟨congrArg (· +1) i1,λx hx=>?_,λ_=>i3 (j3 l2)⟩;rcases bo.mp hx with rfl|e
  .exact⟨of_decide_eq_true h1,by show s.1.length<=2;rw[j1];exact of_decide_eq_true h2,j2⟩
  .exact i2 x e
theorem IC:∀(k p:Nat) {js:ig} {q:Nat},BN b k p=.ok (js,q)->js.length=k/\(∀j∈js,j<=3)/\(p<=b.length->q<=b.length)
 |0,p,js,q,h=>by cases h;exact⟨Z,nofun,id⟩
 |k+1,p,js,q,h=>by
  obtain⟨hb,h0⟩:=fok h;clear h;cases hr:BN b k (p+1) with
  |error y=>rw[hr] at h0;cases h0
  |ok r=>
  rw[hr] at h0;dsimp only at h0;have h:=h0;clear h0;cases h;obtain⟨l1,h1,_⟩:=N3 hb;obtain⟨i1,i2,i3⟩:=IC k (p+1) hr;refine⟨congrArg (· +1) i1,λx hx=>?_,λ_=>i3 l1⟩;rcases bo.mp hx with rfl|e
  .exact of_decide_eq_true h1
  .exact i2 x e
structure QL (b:rJ)(h:Head)(fo:Option Form)(p:Nat):Prop where
 r1:1<=h.rows
 r4:h.rows<=4
 b1:8<=h.bits
 b2:h.bits<=24
 c:h.cut<h.bits
 l:h.lanes=1\/h.lanes=4\/h.lanes=8\/h.lanes=16
 n1:1<=h.count
 n2:h.count<=64
 p1:p<=b.length
 no:h.key=false->fo=none
 yes:h.key=true->∃f,fo=some f/\FG f/\f.bits=h.bits/\f.cut=h.cut/\f.lanes=h.lanes/\f.rows.length=h.rows
def Qh {h:Head}{fo:Option Form}(e:readHead b=.ok (h,fo,p)):QL b h fo p:=by
 obtain⟨hb,e0⟩:=fok e;clear e;obtain⟨_,_,hb⟩:=N3 hb;obtain⟨_,_,hb⟩:=N3 hb;obtain⟨_,_,hb⟩:=N3 hb;obtain⟨_,z3,hb⟩:=N3 hb;obtain⟨_,z4,hb⟩:=N3 hb;obtain⟨_,z5,hb⟩:=N3 hb;obtain⟨_,z6,hb⟩:=N3 hb;obtain⟨_,_,hb⟩:=N3 hb;obtain⟨_,z8,hb⟩:=N3 hb;obtain⟨l9,_,_⟩:=N3 hb;obtain⟨r1,r4⟩:=bt2 z3;obtain⟨b1,b2⟩:=bt2 z4;have c:at_ b 5<at_ b 4:=of_decide_eq_true z5;obtain⟨n1,n2⟩:=bt2 z8;have hl:at_ b 6=1\/at_ b 6=4\/at_ b 6=8\/at_ b 6=16:=by simpa[SX] using z6
 clear z3 z4 z5 z6 z8;by_cases hk:(zC b).key=false
 .have e:(if(zC b).key=false then .ok (zC b,none,16) else _)=mW _:=e0;clear e0;rw[aj hk] at e;cases e;exact⟨r1,r4,b1,b2,c,hl,n1,n2,l9,λ_=>rfl,λq=>by rw[hk] at q;cases q⟩
 have e:(if(zC b).key=false then .ok (zC b,none,16) else _)=mW _:=e0;clear e0;rw[ah hk] at e;cases hr:N_ b (zC b).rows 16 with
 |error y=>rw[hr] at e;cases e
 |ok r=>
 rw[hr] at e;dsimp only at e;have e0:=e;clear e;cases hj:BN b ((zC b).rows / 2) r.2 with
 |error y=>rw[hj] at e0;cases e0
 |ok j=>
 rw[hj] at e0;dsimp only at e0;have e:=e0;clear e0;cases e;obtain⟨i1,i2,i3⟩:=LS _ _ hr;obtain⟨j1,j2,j3⟩:=IC _ _ hj;exact⟨r1,r4,b1,b2,c,hl,n1,n2,j3 (i3 l9),λq=>absurd q hk,λ_=>⟨_,Z,⟨b1,b2,c,hl,by show 1<=r.1.length;rw[i1];exact r1,by show r.1.length<=4;rw[i1];exact r4,i2,by show j.1.length=r.1.length / 2;rw[j1,i1],j2⟩,Z,Z,Z,i1⟩⟩
theorem AF (R:Nat):∀(sp:List (Nat×Nat)) (rd:iF) (zs:List (ig)) {zs':List (ig)} {u:iF},xh R sp rd zs=.ok (zs',u)->(∀x∈sp,x.1<zs.length)->
  zs'.length=zs.length/\((∀z∈zs,∀v∈z,v<=MOST)->∀z∈zs',∀v∈z,v<=MOST)/\∀r,(zs'.getD r []).length=(zs.getD r []).length+sp.countP (λx=>x.1==r)
 |[],rd,zs,zs',u,h,_=>by cases h;exact⟨Z,id,λr=>by simp⟩
 |(r0,t)::l,rd,zs,zs',u,h,hs=>by
  unfold xh at h;simp only at h;split at h
  .cases h
  .rename_i z v hz;split at h
   .cases h
   .rename_i hm;obtain⟨i1,i2,i3⟩:=AF R l v _ h (λx hx=>by rw[ff];exact hs x (aP _ hx));rw[ff] at i1;refine⟨i1,λhz0=>i2 λy hy w hw=>?_,λr=>?_⟩
    .rcases List.mem_or_eq_of_mem_set hy with q|q
     .exact hz0 y q w hw
     .subst q;rcases de.mp hw with q|q
      .cases e:zs[r0]? with
       |none=>rw[aG,e] at q;cases q
       |some y0=>rw[gu e] at q;exact hz0 y0 (az e) w q
      .rw[f_.mp q];lia
    .rw[i3 r,List.countP_cons];by_cases e:r0=r
     .subst e;rw[aG,eF (hs _ (aU ..))];simp;lia
     .rw[aG,iE e,<-aG];simp[e]
def VV (m r:Nat)(f:Nat->Nat):∀R,((aJ R).flatMap λq=>(aJ m).map λi=>(q,f i)).countP (λx=>x.1==r)=if r<R then m else 0:=by
 intro R;induction R with
 |zero=>rfl
 |succ R ih=>
  have e:((aJ m).map λi=>(R,f i)).countP (λx=>x.1==r)=if R=r then m else 0:=by
   rw[List.countP_map];by_cases h:R=r
   .rw[aj h];refine(List.countP_eq_length.mpr λ_ _=>?_).trans iN;exact beq_iff_eq.mpr h
   .rw[ah h];exact List.countP_eq_zero.mpr λ_ _ z=>h (beq_iff_eq.mp z)
  rw[cE,gN,aav,ih,S_,e];by_cases h:R=r
  .subst h;rw[ah (bX R),aj rfl,aj (gn R),Hi]
  .rw[ah h];by_cases k:r<R
   .rw[aj k,aj (wN k)];rfl
   .rw[ah k,ah λz=>k (FF (He z) (eK h))]
def Qs {R r:Nat}(hn:n<=64)(hr:r<R):(spots R n).countP (λx=>x.1==r)=n:=by
 have h:∀K,((aJ K).flatMap λk=>(aJ R).flatMap λq=>(aJ (min 16 (n-16*k))).map λi=>(q,16*k+i)).countP (λx=>x.1==r)=((aJ K).map λk=>min 16 (n-16*k)).sum:=by
  intro K;induction K with
  |zero=>rfl
  |succ K ih=>
   rw[cE,gN,aav,ih,S_,VV,aj hr,iU,List.sum_append];rfl
 unfold spots;rw[h];exact(by decide+kernel:∀n:Nat,n<65->((aJ ((n+15) / 16)).map λk=>min 16 (n-16*k)).sum=n) n (adF hn)
def V6 {R:Nat}:∀x∈spots R n,x.1<R:=λx hx=>by
 unfold spots at hx;obtain⟨k,_,hx⟩:=adB.mp hx;obtain⟨r,hr,hx⟩:=adB.mp hx;obtain⟨i,_,rfl⟩:=bj.mp hx;exact cJ.mp hr
def Wg {R:Nat}(hR:R<=4)(hn:n<=64){rd u:iF}{zs:List (ig)}(h:xh R (spots R n) rd (aM R [])=.ok (zs,u)):zs.length=R/\∀z∈zs,z.length=n/\∀v∈z,v<=MOST:=by
 obtain⟨i1,i2,i3⟩:=AF R _ _ _ h (λx hx=>by rw[ic];exact V6 x hx);rw[ic] at i1;refine⟨i1,λz hz=>⟨?_,i2 (λy hy v hv=>by rw[(fc.mp hy).2] at hv;cases hv) z hz⟩⟩;obtain⟨r,hr⟩:=dJ.mp hz;have As:=fJ hr;have:=i3 r;rw[gu hr,Qs hn (by lia),aG,pH,aj (by lia)] at this;simpa using this
def adp {v:Nat}(h:v<=MOST):iT (2^46) (zag v):=by
 have h46:(2:Int)^46=70368744177664:=by decide
 have hm:MOST=35184372088832:=by decide
 unfold iT;rw[h46];rw[hm] at h;unfold zag;split<;>omega
def o4 (s:aW)(es:ly):ly:=(lD kU s es).map λ(x:bY×RowLearnt)=>x.1
def mF (s:aW)(es:ly):ly:=(jW J8 s.form.joint (o4 s es)).map λ(y:bY)=>y.map (aal s.form)
def Jv (s:aW)(es:ly):aW:={s with rows:=(lD kU s es).map λ(x:bY×RowLearnt)=>{x.2 with eps:=[0,0,0,0]}}
def vP (s:aW)(es:ly):(o4 s es).length=es.length:=by simp[o4,lD]
def xR {rw:RowWay}{e:bY}(h1:s.form.rows[i]? =some rw)(h2:s.rows[i]? =some l)(h3:es[i]? =some e):(lD kU s es)[i]? =some (nz (kU rw) l e):=by
 unfold lD;rw[zu (fJ h3),gu h1,gu h2,gu h3]
def Bv {rw:RowWay}{e:bY}(h1:s.form.rows[i]? =some rw)(h2:s.rows[i]? =some l)(h3:es[i]? =some e):(Jv s es).rows[i]? =some {(nz (kU rw) l e).2 with eps:=[0,0,0,0]}:=by
 show((lD kU s es).map _)[i]? =_;rw[aw,xR h1 h2 h3];rfl
def Bw (s:aW)(es:ly):(Jv s es).rows.length=es.length:=by simp[Jv,lD]
def La (so:DB s)(hl:es.length=s.form.rows.length){y:bY}(hy:y∈o4 s es):∃(i:Nat) (rw:RowWay) (l:RowLearnt) (e:bY),s.form.rows[i]? =some rw/\s.rows[i]? =some l/\es[i]? =some e/\y=(nz (kU rw) l e).1:=by
 obtain⟨c,hc,rfl⟩:=bj.mp hy;obtain⟨i,hi⟩:=dJ.mp hc;have h0:=fJ hi;have:(lD kU s es).length=es.length:=by simp[lD]
 rw[this] at h0;obtain⟨e,he⟩:=get_some h0;obtain⟨l,WL⟩:=get_some (show i<s.rows.length by rw[so.ln];lia);obtain⟨lS,hr1⟩:=get_some (show i<s.form.rows.length by lia);rw[xR hr1 WL he] at hi;cases hi;exact⟨i,lS,l,e,hr1,WL,he,Z⟩
def AY (so:DB s)(hl:es.length=s.form.rows.length)(hn:∀e∈es,e.length=n):∀y∈o4 s es,y.length=n:=λy hy=>by
 obtain⟨i,lS,l,e,h1,h2,h3,rfl⟩:=La so hl hy;rw[vN];exact hn e (az h3)
def vc {C:Int}(h:iT B x)(hb:B<=C):iT C x:=⟨by have:=h.1;lia,by have:=h.2;lia⟩
def acv (h:n<=64):(8:Int)^n*2^50<=2^242:=by
 have h1:(8:Int)^n=2^(3*n):=by rw[Int.pow_mul];rfl
 rw[h1,<-Int.pow_add];exact yS (by lia)
def U4 (so:DB s)(hl:es.length=s.form.rows.length)(hn:∀e∈es,e.length<=64)(hx:∀e∈es,∀v∈e,iT (2^46) v):∀y∈o4 s es,∀v∈y,iT (2^242) v:=λy hy v hv=>by
 obtain⟨i,lS,l,e,h1,h2,h3,rfl⟩:=La so hl hy;obtain⟨o1,o2,o3⟩:=so.ok i lS l h1 h2;have z:=Hr o1 (so.fg.lS lS (az h1)) (B:=2^50) (by decide) (λx hx=>vc (o3 x hx) (by decide)) e (hx e (az h3)) v hv;exact vc z (acv (hn e (az h3)))
def LI (h:iT (2*B) x):iT (4*B+1) x:=by unfold iT at*;lia
def SU {m:Nat}{a b:Int}(h1:iT B a)(h2:iT B b):iT (4*B+1) (J8 m a b).1/\iT (4*B+1) (J8 m a b).2:=by
 match m with
 |0=>exact⟨LI (wX h1),LI (wX h2)⟩
 |1=>exact⟨LI (wX h1),LI (YK h2 h1)⟩
 |2=>exact⟨LI (YK h1 h2),LI (wX h2)⟩
 |m+3=>
  show iT _ (a+uT (b+1) 2)/\iT _ (a+uT (b+1) 2-b);rw[cu _ (by decide)];unfold iT at*;omega
def NR (so:DB s)(hl:es.length=s.form.rows.length)(hn:∀e∈es,e.length<=64)(hx:∀e∈es,∀v∈e,iT (2^46) v):∀y∈jW J8 s.form.joint (o4 s es),∀v∈y,iT (2^245) v:=by
 have e:(2:Int)^245=8*2^242:=by decide+kernel
 refine wm (p:=iT (2^242)) ⟨by have:=two_pos 242;lia,by have:=two_pos 242;lia⟩ (λx h=>vc h (by have:=two_pos 242;lia)) (λm l r h1 h2=>?_) _ _ (U4 so hl hn hx);have z:=SU (m:=m) h1 h2;have t:=two_pos 242;exact⟨vc z.1 (by lia),vc z.2 (by lia)⟩
def VY (g:FG f)(h1: -(2^(f.bits-1))<=aal f v)(h2:aal f v<2^(f.bits-1)):iT (2^23) v:=by
 have h23:(2:Int)^(f.bits-1)<=2^23:=yS (by have:=g.b2;lia);have hc:=two_pos f.cut;have ep:aal f v=v*2^f.cut:=by unfold aal;simp
 rw[ep] at h1 h2;have hc1:(1:Int)<=2^f.cut:=by lia
 constructor
 .refine FC.mp λq=>?_;have:v*2^f.cut<=v*1:=Int.mul_le_mul_of_nonpos_left (by have:=two_pos 23;lia) hc1;lia
 .refine FC.mp λq=>?_;have:v*1<=v*2^f.cut:=sJ hc1 (by have:=two_pos 23;lia);lia
def DB.read (so:DB s)(hl:es.length=s.form.rows.length)(hn:∀e∈es,e.length=n)(hx:outside s.form (mF s es) n=none):DB (Jv s es):=by
 have hf:∀y∈jW J8 s.form.joint (o4 s es),∀v∈y,iT (2^23) v:=λy hy v hv=>by
  obtain⟨r,hr⟩:=dJ.mp hy;obtain⟨t,ht⟩:=dJ.mp hv;have yl:y.length=n:=nt _ _ _ (AY so hl hn) y hy;have htl:=fJ ht;have sl:(mF s es).length=es.length:=by unfold mF;rw[aB,gG,vP]
  have hrl:=fJ hr;rw[gG,vP] at hrl;have z:=EA.mp hx (t*es.length+r) (cJ.mpr (by
   rw[sl];have:(t+1)*es.length<=n*es.length:=iJ _ (by lia);rw[K8] at this;lia))
  rw[sl] at z;have e1:(t*es.length+r)%es.length=r:=by rw[jn,Mi];exact n_ hrl
  have e2:(t*es.length+r) / es.length=t:=by rw[jn,Mh (by lia),xN hrl];lia
  have g1:(mF s es).getD r []=y.map (aal s.form):=gu (by unfold mF;rw[aw,hr];rfl);have g2:(y.map (aal s.form)).getD t 0=aal s.form v:=gu (by rw[aw,ht];rfl);simp only[e1,e2,g1,g2,K3,decide_eq_true_eq,not_or] at z;have ep:((2^(s.form.bits-1):Nat):Int)=2^(s.form.bits-1):=by simp
  rw[ep] at z;exact VY so.fg (by lia) (by lia)
 have hb:=CD _ _ (AY so hl hn) hf;refine⟨so.fg,(Bw ..).trans hl,λi rw l h1 h2=>?_⟩;have h1:s.form.rows[i]? =some rw:=h1;have hi:=fJ h1;obtain⟨l0,Iu⟩:=get_some (show i<s.rows.length by rw[so.ln];lia);obtain⟨e,he⟩:=get_some (show i<es.length by lia);rw[Bv h1 Iu he] at h2;cases h2;obtain⟨o1,o2,o3⟩:=so.ok i rw l0 h1 Iu;have g:=so.fg.lS rw (az h1);have o:=Ht (f:=kU) (λl x q=>q.back g x) o1 e;refine⟨⟨o.fx,o.la,o.sl,o.st,Z⟩,sI.nil _,?_⟩;exact Hs (r:=rw) e ([],l0) (hb _ (bj.mpr ⟨_,az (xR h1 Iu he),Z⟩)) o3
end Mx
namespace Bs
open PySem PySem.Spec PyProof.Rows L2
def top (i:Nat):Stmt:=PySem.Challenge.pw_bitsound_s01_answers.main.body.getD i (.Pass ⟨0,0,0,0⟩)
abbrev nj (i j:Nat):Stmt:=inClass (top i) j
structure CI (K:au)(C:ke)(ns:mX):Prop where
 cl:Cls K C
 na:∀f∈ns,Hj K C f
structure Dx (K:au)(x eV:Str)(st:Stmt)(f:ke)(d:eO)(ps ls:mX):Prop where
 F:Fun K x eV st f d
 b:Binds K d ps []
 S:vL (ps++ls) ps (dZ st)
structure Df (K:au)(mg:sO)(x:Str)(st:Stmt)(f:ke)(d:eO)(ps ls:mX):Prop extends Dx K x x st f d ps ls where
 g:mg x=some (.ref f)
structure Dm (K:au)(C:ke)(x eV:Str)(st:Stmt)(f:ke)(d:eO)(ps ls:mX):Prop extends Dx K x eV st f d ps ls where
 m:Meth K C x f
abbrev Dx.Ok {K:au}{x eV:Str}{st:Stmt}{f:ke}{d:eO}{ps ls:mX}(_:Dx K x eV st f d ps ls)(P:bJ)(w:cz)(mg:sO)(lQ:Heap)(CX:NY)(k:Nat)(sp:Sp):Prop:=lx P w K mg lQ CX k f d ps sp
set_option genInjectivity false in
structure fP where
 {afi aiN O3 O4 D1 Cu o7 uy Cr Aq H_ Ck An Cj Kw yh yg RD O6 RC MS O8 MT Ic RE wc uz RG RH O9 EK Ry MU XS O7 Vj MO Ci MR Rz Kz MQ Rv ym yo Gg sV Bg vZ zW yj vY u6 DY Bc yi RA Vl Cm MN O2 HZ Cn EJ F3 O1 DX Ba Ap zU Co zT F8 wV F_ Gd F9 v_ yk v9 Cs RF Vk Ia Ib KC D4 Am Kv Ao Kx Gf Ct D0 O5 MP Rw KA RB yn Cp Be Cq Bf zV DZ EL F6 zS Bb F7 Ge Ky zX Vi iP eN cM bI y_ uY Lg o6 lh uw o5 bE bW qi i9 fT cx gq eB qj ux CL EX rW IQ GK iX:ke}
 {ae7 aiD ON OO DU Cd tW Al MA Ko Ra Mv Kj B8 Kk xY xX Rm OR Rl MG OT MH HQ Rn ME Kt Rp Rq OU OJ Rf MI XI OS Vd MB Mu MF Ri Kq MD Rb OM OP FY A9 A_ vS zQ x_ vR DP DQ A6 xZ Rj Vf Mw My OL HM B9 OH FL OI DO A4 Kn zO B_ zN FP FQ FU FV FT vU yc vT Cb Ro Ve HN HP Ks DV Kh Ki Kl Km FX Cc DS OQ MC Rc Kr Rk yd Mz A7 Ca A8 zP DR OK FN zM A5 FO FW Kp zR Lk:eO}
structure Txt (K:au)(mg:sO)(t:fP):Prop where
 G5:Df K mg "held" (top 1) t.afi t.ae7 ["x","most"] []
 S6:Df K mg "sgn" (top 2) t.aiN t.aiD ["x"] []
 jG:Df K mg "low_first" (top 3) t.O3 t.ON ["number","width"] ["i"]
 qA:Df K mg "number_at" (top 4) t.O4 t.OO ["row","place","width"] ["number","i"]
 j9:Df K mg "lowest_of_bits" (top 5) t.D1 t.DU ["bits"] []
 jF:Df K mg "highest_of_bits" (top 6) t.Cu t.Cd ["bits"] []
 dq:Dx K "__init__" "BlockFault.__init__" (nj 10 0) t.o7 t.tW ["self","kind","place"] []
 lq:Dx K "__init__" "Misfit.__init__" (nj 11 0) t.uy t.Al ["self","place"] []
 vB:Dx K "__init__" "Stage.__init__" (nj 19 0) t.Cr t.MA ["self","taps","gain","kind","scale"] []
 ug:Dx K "__init__" "RowWay.__init__" (nj 20 0) t.Aq t.Ko ["self","fixed","stages"] []
 AM:Dx K "__init__" "Way.__init__" (nj 21 0) t.H_ t.Ra ["self","row_ways","joints"] []
 rM:Dx K "__init__" "Frame.__init__" (nj 22 0) t.Ck t.Mv ["self","bits","cut","lanes","way"] []
 p_:Dx K "__init__" "Fields.__init__" (nj 23 0) t.An t.Kj ["self","row","as_bytes"] []
 ir:Dm K t.lh "take_any" "Fields.take_any" (nj 23 1) t.Cj t.B8 ["self","width"] ["begin","size"]
 cW:Dm K t.lh "take" "Fields.take" (nj 23 2) t.Kw t.Kk ["self","width","low","high"] ["begin","number"]
 lU:Dm K t.lh "take_one_of" "Fields.take_one_of" (nj 23 3) t.yh t.xY ["self","width","choices"] ["begin","number"]
 jE:Dm K t.lh "take_nought" "Fields.take_nought" (nj 23 4) t.yg t.xX ["self","width"] []
 vH:Df K mg "take_key" (top 24) t.RD t.Rm ["fields"] []
 tS:Df K mg "take_bits" (top 25) t.O6 t.OR ["fields"] []
 vG:Df K mg "take_cut" (top 26) t.RC t.Rl ["fields","bits"] []
 rO:Df K mg "take_lanes" (top 27) t.MS t.MG ["fields"] []
 tT:Df K mg "take_rows" (top 28) t.O8 t.OT ["fields"] []
 vI:Df K mg "take_stage" (top 29) t.MT t.MH ["fields"] ["taps","gain","kind","scale"]
 sD:Df K mg "take_row_way" (top 30) t.Ic t.HQ ["fields"] ["fixed","how_many","i"]
 vJ:Df K mg "take_way" (top 31) t.RE t.Rn ["fields","rows"] ["row_ways","joints","i"]
 oU:Df K mg "stage_told" (top 32) t.wc t.ME ["stage"] []
 ng:Df K mg "stage_bytes" (top 33) t.uz t.Kt ["stage"] []
 sE:Df K mg "way_laid" (top 34) t.RG t.Rp ["way","lay_stage"] ["laid","row_way","stage"]
 vK:Df K mg "way_told" (top 35) t.RH t.Rq ["way"] []
 xM:Df K mg "way_bytes" (top 36) t.O9 t.OU ["way"] []
 xH:Dx K "__init__" "Head.__init__" (nj 45 0) t.EK t.OJ ["self","key","rows","bits","cut","lanes","times"] []
 vC:Df K mg "check_of" (top 46) t.Ry t.Rf ["row"] ["check","byte","i"]
 rP:Df K mg "with_check" (top 47) t.MU t.MI ["block","check"] []
 G6:Df K mg "sealed" (top 48) t.XS t.XI ["block"] []
 xK:Df K mg "take_head" (top 49) t.O7 t.OS ["fields"] ["key","rows","bits","cut","lanes","times","head"]
 yW:Df K mg "head_of" (top 50) t.Vj t.Vd ["block"] ["head","e"]
 vD:Df K mg "head_bytes" (top 51) t.MO t.MB ["key","frame","times"] ["rows","row"]
 vx:Dx K "__init__" "Asked.__init__" (nj 53 0) t.Ci t.Mu ["self","key","frame"] []
 vF:Df K mg "take_asked" (top 54) t.MR t.MF ["fields"] ["key","bits","cut","lanes","rows","way"]
 AQ:Df K mg "is_shape" (top 55) t.Rz t.Ri ["shape"] ["part"]
 ui:Df K mg "are_of_bits" (top 56) t.Kz t.Kq ["numbers","bits"] ["x"]
 vE:Df K mg "rows_split" (top 57) t.MQ t.MD ["numbers","rows"] ["times","r"]
 AN:Df K mg "asked_of" (top 58) t.Rv t.Rb ["settings","told","shape","numbers"] ["asked","rows"]
 qz:Df K mg "join_pair" (top 63) t.ym t.OM ["joint","left","right"] []
 qB:Df K mg "part_pair" (top 64) t.yo t.OP ["joint","first","second"] ["total"]
 kY:Df K mg "pairs_changed" (top 65) t.Gg t.FY ["rows","joints","change"] ["changed","pair","joint","both","a","b","two"]
 kI:Dx K "__init__" "StageFilter.__init__" (nj 66 0) t.sV t.A9 ["self","stage"] []
 nZ:Dm K t.bE "twin" "StageFilter.twin" (nj 66 1) t.Bg t.A_ ["self"] ["other"]
 iM:Dm K t.bE "foretold" "StageFilter.foretold" (nj 66 2) t.vZ t.vS ["self"] ["total","w","h"]
 jY:Dm K t.bE "learn" "StageFilter.learn" (nj 66 3) t.zW t.zQ ["self","u","v"] ["step","most","most_past","w","h"]
 lW:Dm K t.bE "onward" "StageFilter.onward" (nj 66 4) t.yj t.x_ ["self","u"] ["v"]
 kH:Dm K t.bE "backward" "StageFilter.backward" (nj 66 5) t.vY t.vR ["self","v"] ["u"]
 my:Dx K "__init__" "RowFilter.__init__" (nj 67 0) t.u6 t.DP ["self","row_way"] ["stage"]
 pT:Dm K t.bW "twin" "RowFilter.twin" (nj 67 1) t.DY t.DQ ["self"] ["other","stage_filter"]
 nW:Dm K t.bW "onward" "RowFilter.onward" (nj 67 2) t.Bc t.A6 ["self","number"] ["u","order","latest","stage_filter"]
 lV:Dm K t.bW "backward" "RowFilter.backward" (nj 67 3) t.yi t.xZ ["self","rest"] ["u","stage_filter","order"]
 AR:Df K mg "rests_of" (top 68) t.RA t.Rj ["filters","joints","rows"] ["rests","row_filter","row","number"]
 DF:Df K mg "rows_of" (top 69) t.Vl t.Vf ["filters","joints","rests"] ["rows","row_filter","rest","e"]
 vy:Dx K "__init__" "Model.__init__" (nj 75 0) t.Cm t.Mw ["self"] ["i"]
 vz:Dm K t.qi "rate" "Model.rate" (nj 75 1) t.MN t.My ["self"] []
 xJ:Dm K t.qi "see" "Model.see" (nj 75 2) t.O2 t.OL ["self","symbol"] ["rate","old","weight","below","above","i"]
 oN:Dm K t.qi "places" "Model.places" (nj 75 3) t.HZ t.HM ["self","symbol"] []
 oO:Dm K t.qi "symbol_at" "Model.symbol_at" (nj 75 4) t.Cn t.B9 ["self","spot"] ["symbol"]
 tP:Dx K "__init__" "Bank.__init__" (nj 76 0) t.EJ t.OH ["self","lanes"] []
 kX:Dm K t.i9 "model_of" "Bank.model_of" (nj 76 1) t.F3 t.FL ["self","number"] []
 tQ:Dm K t.i9 "lane" "Bank.lane" (nj 76 2) t.O1 t.OI ["self"] []
 j8:Dm K t.i9 "pass_bits" "Bank.pass_bits" (nj 76 3) t.DX t.DO ["self"] ["pair"]
 kz:Dm K t.i9 "pass_symbol" "Bank.pass_symbol" (nj 76 4) t.Ba t.A4 ["self","number","symbol"] []
 uf:Dx K "__init__" "Packer.__init__" (nj 81 0) t.Ap t.Kn ["self","lanes"] []
 mL:Dm K t.fT "put_symbol" "Packer.put_symbol" (nj 81 1) t.zU t.zO ["self","number","symbol"] ["model"]
 oP:Dm K t.fT "put_bits" "Packer.put_bits" (nj 81 2) t.Co t.B_ ["self","value","bits"] ["size"]
 mK:Dm K t.fT "put_number" "Packer.put_number" (nj 81 3) t.zT t.zN ["self","number","value"] ["bits","left","piece"]
 qR:Dm K t.fT "packed" "Packer.packed" (nj 81 4) t.F8 t.FP ["self"] ["states","words","j","begin","size","x","row","word"]
 qS:Dx K "__init__" "Unpacker.__init__" (nj 82 0) t.wV t.FQ ["self","block","place","lanes"] ["i","x"]
 nJ:Dm K t.cx "spot" "Unpacker.spot" (nj 82 1) t.F_ t.FU ["self"] []
 qT:Dm K t.cx "word" "Unpacker.word" (nj 82 2) t.Gd t.FV ["self"] []
 nH:Dm K t.cx "move" "Unpacker.move" (nj 82 3) t.F9 t.FT ["self","begin","size"] ["lane","x"]
 kK:Dm K t.cx "take_symbol" "Unpacker.take_symbol" (nj 82 4) t.v_ t.vU ["self","number"] ["model","symbol"]
 lX:Dm K t.cx "take_bits" "Unpacker.take_bits" (nj 82 5) t.yk t.yc ["self","bits"] ["size","value"]
 kJ:Dm K t.cx "take_number" "Unpacker.take_number" (nj 82 6) t.v9 t.vT ["self","number"] ["bits","value","done","piece"]
 oR:Dm K t.cx "at_end" "Unpacker.at_end" (nj 82 7) t.Cs t.Cb ["self"] ["x"]
 AU:Df K mg "value_of" (top 87) t.RF t.Ro ["rest"] []
 DE:Df K mg "rest_of" (top 88) t.Vk t.Ve ["value"] []
 oS:Df K mg "model_number" (top 89) t.Ia t.HN ["row","total"] []
 sx:Df K mg "rests_packed" (top 90) t.Ib t.HP ["rests","lanes"] ["packer","totals","begin","r","row","number","chunk","value","rest"]
 uk:Df K mg "chunk_taken" (top 91) t.KC t.Ks ["unpacker","number","head","r","begin"] ["chunk","t","value"]
 pW:Df K mg "rests_unpacked" (top 92) t.D4 t.DV ["block","head"] ["unpacker","rests","totals","begin","r","chunk","value"]
 ud:Dx K "__init__" "Cutter.__init__" (nj 96 0) t.Am t.Kh ["self","frame","shape","errors"] []
 ue:Dm K t.gq "keep" "Cutter.keep" (nj 96 1) t.Kv t.Ki ["self","x"] ["pull","d","half","y","error","part"]
 m_:Dx K "__init__" "Learnt.__init__" (nj 98 0) t.Ao t.Kl ["self","frame"] ["row_way"]
 qd:Dm K t.eB "twin" "Learnt.twin" (nj 98 1) t.Kx t.Km ["self"] ["other","row_filter"]
 qV:Df K mg "is_same_frame" (top 99) t.Gf t.FX ["one","other"] []
 lF:Df K mg "basis_for_asked" (top 100) t.Ct t.Cc ["learnt","asked"] []
 pV:Df K mg "basis_for_head" (top 101) t.D0 t.DS ["learnt","head"] ["frame"]
 tR:Df K mg "rows_kept" (top 102) t.O5 t.OQ ["learnt","asked"] ["kept","errors","row","before","cutter","x"]
 rN:Df K mg "rows_shown" (top 103) t.MP t.MC ["rows","cut"] ["row","y"]
 AO:Df K mg "block_of" (top 104) t.Rw t.Rc ["learnt","asked"] ["frame","rests","head"]
 uj:Df K mg "check_shown" (top 105) t.KA t.Kr ["rows","bits"] ["t","r","row"]
 AS:Df K mg "shown_of" (top 106) t.RB t.Rk ["learnt","block","head"] ["rests","rows","shown","row"]
 jH:Df K mg "one_behind_another" (top 112) t.yn t.yd ["rows"] ["numbers","row"]
 vA:Dx K "__init__" "Sound.__init__" (nj 113 0) t.Cp t.Mz ["self"] []
 nX:Dm K t.qj "begin_anew" "Sound.begin_anew" (nj 113 1) t.Be t.A7 ["self"] []
 oQ:Dm K t.qj "tell_head" "Sound.tell_head" (nj 113 2) t.Cq t.Ca ["self","block"] ["head"]
 nY:Dm K t.qj "read_block" "Sound.read_block" (nj 113 3) t.Bf t.A8 ["self","block"] ["head","learnt","numbers"]
 mM:Dm K t.qj "write_block" "Sound.write_block" (nj 113 4) t.zV t.zP ["self","asked"] ["learnt","block"]
 pU:Dm K t.qj "tell_cut" "Sound.tell_cut" (nj 113 5) t.DZ t.DR ["self","asked"] ["kept","numbers"]
 xI:Dx K "__init__" "Line.__init__" (nj 114 0) t.EL t.OK ["self","calls"] []
 qQ:Dm K t.ux "has_more" "Line.has_more" (nj 114 1) t.F6 t.FN ["self"] []
 iH:Dm K t.ux "take_numbers" "Line.take_numbers" (nj 114 2) t.zS t.zM ["self","how_many"] ["begin"]
 kC:Dm K t.ux "take_number" "Line.take_number" (nj 114 3) t.Bb t.A5 ["self"] []
 iC:Dm K t.ux "take_row" "Line.take_row" (nj 114 4) t.F7 t.FO ["self"] []
 qU:Df K mg "answer_asking" (top 115) t.Ge t.FW ["sound","line","call"] ["settings","told","shape","numbers","asked"]
 uh:Df K mg "answer_call" (top 116) t.Ky t.Kp ["sound","line"] ["call"]
 mO:Df K mg "answer_or_refusal" (top 117) t.zX t.zR ["sound","line"] ["e"]
 yV:Df K mg "answers" (top 118) t.Vi t.Lk ["calls"] ["line","sound","answered","answer"]
 qm:mg "NotAllowed"=some (.ref t.iP)
 oY:tM K t.iP t.CL
 uE:fj K t.CL "__init__"=some none
 rS:mg "NotLearnt"=some (.ref t.eN)
 oq:tM K t.eN t.EX
 wy:fj K t.EX "__init__"=some none
 gk:mg "BlockFault"=some (.ref t.cM)
 iO:tM K t.cM t.rW
 hZ:XMk K t.cM t.rW t.o7
 tF:Oq K t.rW "kind"
 rH:Oq K t.rW "place"
 sj:mg "Misfit"=some (.ref t.bI)
 sP:tM K t.bI t.IQ
 yZ:XMk K t.bI t.IQ t.uy
 xc:Oq K t.IQ "place"
 X9:mg "Stage"=some (.ref t.y_)
 iq:CI K t.y_ ["taps","gain","kind","scale"]
 abj:Mk K t.y_ t.Cr
 Vr:mg "RowWay"=some (.ref t.uY)
 oM:CI K t.uY ["fixed","stages"]
 Xa:Mk K t.uY t.Aq
 afp:mg "Way"=some (.ref t.Lg)
 xG:CI K t.Lg ["row_ways","joints"]
 ail:Mk K t.Lg t.H_
 Pa:mg "Frame"=some (.ref t.o6)
 dA:CI K t.o6 ["bits","cut","lanes","way"]
 Tb:Mk K t.o6 t.Ck
 Lu:mg "Fields"=some (.ref t.lh)
 cq:CI K t.lh ["row","as_bytes","place"]
 Of:Mk K t.lh t.An
 abK:mg "Head"=some (.ref t.uw)
 dS:CI K t.uw ["key","rows","bits","cut","lanes","times","check","way","end"]
 aeT:Mk K t.uw t.EK
 XZ:mg "Asked"=some (.ref t.o5)
 jC:CI K t.o5 ["key","frame","shape","rows"]
 abg:Mk K t.o5 t.Ci
 yx:mg "StageFilter"=some (.ref t.bE)
 bM:CI K t.bE ["stage","weights","past"]
 Ag:Mk K t.bE t.sV
 Cz:mg "RowFilter"=some (.ref t.bW)
 dk:CI K t.bW ["row_way","before","stage_filters"]
 EB:Mk K t.bW t.u6
 X1:mg "Model"=some (.ref t.qi)
 jD:CI K t.qi ["begins","seen"]
 abh:Mk K t.qi t.Cm
 TK:mg "Bank"=some (.ref t.i9)
 ie:CI K t.i9 ["lanes","models","passed","waiting"]
 W8:Mk K t.i9 t.EJ
 Vq:mg "Packer"=some (.ref t.fT)
 gm:CI K t.fT ["lanes","bank","shares"]
 W_:Mk K t.fT t.Ap
 Pb:mg "Unpacker"=some (.ref t.cx)
 bZ:CI K t.cx ["block","bank","states","place"]
 QO:Mk K t.cx t.wV
 Vp:mg "Cutter"=some (.ref t.gq)
 iG:CI K t.gq ["cut","lowest","highest","shape","errors"]
 W9:Mk K t.gq t.Am
 D5:mg "Learnt"=some (.ref t.eB)
 fS:CI K t.eB ["frame","filters","errors"]
 G_:Mk K t.eB t.Ao
 X8:mg "Sound"=some (.ref t.qj)
 nF:CI K t.qj ["learnt"]
 abi:Mk K t.qj t.Cp
 abL:mg "Line"=some (.ref t.ux)
 kx:CI K t.ux ["calls","place"]
 aeU:Mk K t.ux t.EL
 IE:∃tk,mg "WIDE"=some (.int 1 tk)
 Po:∃tk,mg "MOST_TAPS"=some (.int 16 tk)
 D9:∃tk,mg "MOST_WIDE_TAPS"=some (.int 8 tk)
 Pl:∃tk,mg "MOST_GAIN"=some (.int 1024 tk)
 M7:∃tk,mg "MOST_SCALE"=some (.int 12 tk)
 wq:∃tk,mg "FIRST_BYTE"=some (.int 76 tk)
 uC:∃tk,mg "SECOND_BYTE"=some (.int 83 tk)
 uB:∃tk,mg "CHECK_PLACE"=some (.int 12 tk)
 qr:∃tk,mg "CHECK_WIDTH"=some (.int 4 tk)
 ID:∃tk,mg "ALL_ONES"=some (.int 4294967295 tk)
 M9:∃tk,mg "POLYNOMIAL"=some (.int 2197175160 tk)
 CG:∃tk,mg "MOST_TIMES"=some (.int 64 tk)
 Aw:∃tk,mg "MOST_NARROW"=some (.int 32767 tk)
 Bj:∃tk,mg "MOST_WIDE_WEIGHT"=some (.int 1048576 tk)
 CH:∃tk,mg "MOST_WIDE_INPUT"=some (.int 1073741824 tk)
 D_:∃tk,mg "SYMBOLS"=some (.int 64 tk)
 RV:∃tk,mg "SLOWNESS"=some (.int 6 tk)
 Pn:∃tk,mg "MOST_SEEN"=some (.int 65535 tk)
 iR:∃tk,mg "ALL_PLACES"=some (.int 32768 tk)
 qt:∃tk,mg "LEAST_STATE"=some (.int 65536 tk)
 RW:∃tk,mg "WORD"=some (.int 65536 tk)
 T8:∃tk,mg "PIECE"=some (.int 15 tk)
 GR:∃tk,mg "CHUNK"=some (.int 16 tk)
 wW:∃tk,mg "MODELS_OF_ROW"=some (.int 16 tk)
 M8:∃tk,mg "MOST_VALUE"=some (.int 35184372088832 tk)
 M6:∃tk,mg "MOST_ERROR"=some (.int 2147483647 tk)
 afV:∃tk,mg "OPEN"=some (.int 0 tk)
 afU:∃tk,mg "HEAD"=some (.int 1 tk)
 afW:∃tk,mg "READ"=some (.int 2 tk)
 ab8:∃tk,mg "WRITE"=some (.int 3 tk)
 abM:mg "LANES"=some (.ref t.GK)
 acD:∀H:Hp,Ml K H t.GK [.int 1,.int 4,.int 8,.int 16]
 EO:mg "NO_ERRORS"=some (.ref t.iX)
 Fn:∀H:Hp,Ml K H t.iX [.int 0,.int 0,.int 0,.int 0]
 jc:mg "len"=none
 iA:mg "range"=none
 Uc:mg "sum"=none
 YT:mg "all"=none
 EY:mg "min"=none
 aeb:mg "max"=none
 Ec:mg "list"=none
 tX:mg "enumerate"=none
 IT:mg "zip"=none
 IS:mg "reversed"=none
 EW:mg "Exception"=none
 diff:t.iP≠t.bI/\t.eN≠t.bI/\t.cM≠t.bI/\t.iP≠t.eN/\t.iP≠t.cM/\t.eN≠t.cM
end Bs
namespace L2
open PySem PySem.Spec PyProof.Rows
section
variable{X:Cx}
def fF {x:Str}{i:Int}{cN:Pos}(h:∃tk,X.mg x=some (.int i tk))(hg:autoParam (Gl X x) Z_r)(hd:autoParam (DD x) Z_d):PE X (.Name x cN) (tC (.int i)):=by
 obtain⟨tk,hm⟩:=h;exact t5 hg hm ⟨tk,Z⟩ hd
def Fun.xE {P:bJ}{w:cz}{K:au}{mg:sO}{lQ:Heap}{Mf:ke}{x eV:Str}{st:Stmt}{f:ke}{fd:eO}{N ps:mX}{k:Nat}{sp:Sp}(F:Fun K x eV st f fd)(S:vL N ps (dZ st))(QK:∀vs H Q E,sp vs H Q E->vs.length=ps.length)
  (yy:∀(sQ:jm) (A:Around) (outer:List Env) (s:aL) (H:Hp) (vs:b_) (Q:VK) (E:XK),lC k (A.deeper (tJ eV (dZ st) s.heap.objs.size f sQ))->sp vs H Q E->
   ∃t,Kc (A3 (tO P w Mf) P w K mg lQ N eV (dZ st) f sQ A outer s H E) (rR st) t/\t {nx:=λ_ H'=>Q .gS H',rt:=Q} (start N vs) H):lx P w K mg lQ (tO P w Mf) (k+1) f fd ps sp:=by
 obtain⟨oc,od,kV,Tv,pm,an,sQ,ct,Y6,rfl,lk,WK⟩:=F.ex;exact adR lk WK S QK λA outer s H vs Q E hr J0=>yy sQ A outer s H vs Q E hr J0
inductive Fdr (K:au)(f:Str)(x:V)(H:Hp)(Q:ke->ke->V->Prop):Prop where
 |mk {a C dx:ke} {fs:List (Str×V)} {v:V} {ns:mX} (ex:x=.ref a) (e:H a=some (.ins C dx fs)) (c:Bs.CI K C ns) (n:ns.contains f=true) (l:fs.lookup f=some v) (q:Q a C v):Fdr K f x H Q
inductive Fds (K:au)(f:Str)(y x:V)(H:Hp)(N:Hp->Prop):Prop where
 |mk {a C dx:ke} {fs fs':List (Str×V)} {ns:mX} (ex:x=.ref a) (e:H a=some (.ins C dx fs)) (c:Bs.CI K C ns) (n:ns.contains f=true) (l:Nat.blt fs.length 1000=true) (p:vm f y fs=fs') (q:N (upd H a (.ins C dx fs'))):Fds K f y x H N
def tFd (K:au)(ta:TE)(f:Str):TE:=λσ H Q=>ta σ H λx H1=>Fdr K f x H1 λ_ _ v=>Q v H1
def Jq {e:Expr}{f:Str}{cN:Pos}{ta:TE}(he:PE X e ta)(hb:mT e f X.env (eval e X.env)=eval e X.env):PE X (.Attribute e f cN) (tFd X.K ta f):=by
 intro aA s σ H Q I h;refine Tj hb (je (he aA s σ H _ I h) λu s1 ⟨x,H1,I1,rx,q0⟩=>?_);obtain⟨ex,ea,c,n,l,q⟩:=q0;subst ex;rename_i a _ _ _ v _;obtain rfl:u=Value.ref a:=rx;exact Il I1 ea c.cl (c.na f (Ae.mp n)) l λu' s2 I2 ru=>⟨v,H1,I2,ru,q⟩
def sFd (K:au)(ta tv:TE)(f:Str):TS:=λD σ H=>tv σ H λy H1=>ta σ H1 λx H2=>Fds K f y x H2 (D.nx σ)
def akk {o iY:Expr}{f:Str}{cN xA:Pos}{ta tv:TE}(ha:PE X o ta)(hv:PE X iY tv)(hs:mU iY (some (.Attribute o f xA)) cN.line X.env=pure false):PS X (.Assign [.Attribute o f xA] iY cN) (sFd X.K ta tv f):=by
 intro aA s σ H D I h;refine NV (je (hv aA s σ H _ I h) λu s1 ⟨y,H1,I1,ry,q⟩=>je (ha aA s1 σ H1 _ I1 q) λov s2 ⟨x,H2,I2,rx,q0⟩=>?_) hs;obtain⟨ex,ea,c,n,l,ep,q2⟩:=q0;subst ex ep;rename_i a _ _ _ _;obtain rfl:ov=Value.ref a:=rx;exact JB I2 ea c.cl (c.na f (Ae.mp n)) (Wz l) ry λs3 I3=>⟨σ,_,I3,q2⟩
def agq (K:au)(ta tv:TE)(rd:V->V->Hp->VK->Prop)(f:Str):TS:=λD σ H=>ta σ H λx H1=>Fdr K f x H1 λa C v=>
 tv σ H1 λy H2=>rd v y H2 λz H3=>∃sU fs' fs2,H3 a=some (.ins C sU fs')/\Nat.blt fs'.length 1000=true/\vm f z fs'=fs2/\D.nx σ (upd H3 a (.ins C sU fs2))
def P_ {o iY:Expr}{f:Str}{cN JI:Pos}{ta tv:TE}{op:UC}{rd:V->V->Hp->VK->Prop}(ha:PE X o ta)(hv:PE X iY tv)(hop:aii X op rd):PS X (.AugAssign (.Attribute o f JI) op iY cN) (agq X.K ta tv rd f):=by
 intro aA s σ H D I h;refine wpAny_AugAssign_AttributeAny (je (ha aA s σ H _ I h) λov s1 ⟨x,H1,I1,rx,q0⟩=>?_);obtain⟨ex,ea,c,n,l,q⟩:=q0;subst ex;rename_i a _ _ _ v _;obtain rfl:ov=Value.ref a:=rx;have na:=c.na f (Ae.mp n);refine Il I1 ea c.cl na l λu s2 I2 ru=>je (hv aA s2 σ H1 _ I2 q) λw3 s3 ⟨y,H2,I3,ry,q3⟩=>je (hop aA s3 σ H2 v y u w3 _ I3 ru ry q3) λw4 s4 ⟨z,H3,I4,rz,sU,fs',fs2,Lq,l',ep,q4⟩=>?_;subst ep;exact JB I4 Lq c.cl na (Wz l') rz λs5 I5=>⟨σ,_,I5,q4⟩
def agT (f:ke)(sp:Sp)(BI:b_)(E:XK)(tv:TE)(t:TA):TE:=λσ H Q=>tv σ H λx H0=>x=.ref f/\t σ H0 λvs H1=>sp (vs++BI) H1 Q E
def P0 {CX:NY}{k:Nat}{f:ke}{fd:eO}{ps:mX}{sp:Sp}{BI:b_}{ds:gU}{E:XK}{x:Str}{p cN:Pos}{e:Expr}{es:FD}{tv:TE}{t:TA}(hv:PE X (.Name x p) tv)
  (F:lx X.prog X.w X.K X.mg X.lQ CX k f fd ps sp) (hr:lC k X.A) (hk:il X.K (.ref f)=true) (hb:Binds X.K fd ps ds) (hd:Vals BI ds) (hx:Passes CX X E)
  (ha:PA X (e::es) t) (he:autoParam (Su X e es) Z_r) (ou:autoParam (sHb X cN es) Z_r):
  PE X (.Call (.Name x p) (e::es) [] cN) (agT f sp BI E tv t):=by
 intro aA s σ H Q I h;refine fC (je (hv aA s σ H _ I h) λu s0 ⟨y,H0,I0,ry,ey,q0⟩=>?_);subst ey;obtain rfl:u=Value.ref f:=ry;refine lg (h₀:=X.lQ) I.ok.mod.uD hk (je (ha cN aA s0 σ H0 _ I0 q0) λus s1 ⟨vs,H1,I1,r,q⟩=>⟨I1.zf,?_⟩) he ou;exact NI F hr hb hd hx I1 r q
def VF:MtR X "int.bit_length" (λx xs H Q=>∃i,x=.int i/\xs=[]/\Q (.int (Builtin.Int.intBits i:Nat)) H):=by
 intro aA s σ H x xs v us Q I rx r h;obtain⟨i,rfl,rfl,q⟩:=h;obtain rfl:=Vals.zero r;obtain⟨t,rfl⟩:=(show∃t,v=Value.int i t from rx);exact call_int_bit_length ⟨.int (Builtin.Int.intBits i:Nat),H,I.tok _,⟨_,Z⟩,q⟩
def En {o:Expr}{to:TE}{kM lj:Pos}(ho:PE X o to)(Io:autoParam (mT o "bit_length" X.env (eval o X.env)=eval o X.env) Z_r)(Iv:autoParam ((kM.endLine==lj.line)=true) Z_r):
  PE X (.Call (.Attribute o "bit_length" kM) [] [] lj) (akQ X.K "int" (λx xs H Q=>∃i,x=.int i/\xs=[]/\Q (.int (Builtin.Int.intBits i:Nat)) H) to):=
 agh PySem.F.plainAttrs_int PySem.F.slot_int_bit_length PySem.F.type_int_bit_length VF ho Io Iv
def Ug:BF X (oz .LShift) (rI (λi j=>0<=j/\(Builtin.Int.intBits i:Int)+j<=2^27) λi j=>.int (i*2^j.toNat)):=opI λ_ _ _ _ _ _ _ hc q=>lshift_int hc.1 hc.2 q
end
def tI (l:List (Str×V)):l=l:=rfl
def i2 {a b c:Prop}(h:a):(a\/b)\/c:=.inl (.inl h)
def i3 {a b c d:Prop}(h:a):((a\/b)\/c)\/d:=.inl (.inl (.inl h))
section
open Bs
variable{X:Cx}{CX:NY}{k n:Nat}{f C:ke}{fd:eO}{ps ls ns:mX}{st:Stmt}{sp:Sp}{E:XK}{x m eV:Str}{p cN kM:Pos}{e o a b tg:Expr}{es:FD}{ta tb te:TE}{t:TA}{i:Nat}
def kq (D:Df X.K X.mg x st f fd ps ls)(F:lx X.prog X.w X.K X.mg X.lQ CX k f fd ps sp)(hr:lC n X.A)(hx:Passes CX X E)(ha:PA X (e::es) t)(hk:autoParam (k<=n) Z_d)(hg:autoParam (Gl X x) Z_r)(D6:autoParam (DD x) Z_d)(he:autoParam (Su X e es) Z_r)(ou:autoParam (sHb X cN es) Z_r):
  PE X (.Call (.Name x p) (e::es) [] cN) (aev sp [] E t):=acn F (hr.mono hk) hg D.g D.F.kp D.b .nil hx ha D6 he ou
def J7 (M:Mk X.K C f)(hm:X.mg x=some (.ref C))(D:Dx X.K m eV st f fd ps ls)(F:lx X.prog X.w X.K X.mg X.lQ CX k f fd ps sp)(hr:lC n X.A)(hx:Passes CX X E)(ha:PA X (e::es) t)(hk:autoParam (k+1<=n) Z_d)(hg:autoParam (Gl X x) Z_r)(D6:autoParam (DD x) Z_d)(he:autoParam (Su X e es) Z_r)(ou:autoParam (sHb X cN es) Z_r):
  PE X (.Call (.Name x p) (e::es) [] cN) (Z0 C sp [] E t):=acp M F (hr.mono hk) hg hm D.b .nil hx ha D6 he ou
def qO {pl:Sem Bool}(he:PE X o ta)(c:CI X.K C ns)(D:Dm X.K C m eV st f fd ps ls)(F:lx X.prog X.w X.K X.mg X.lQ CX k f fd ps sp)(hr:lC n X.A)(hx:Passes CX X E)(ha:PA X (e::es) t)(hk:autoParam (k<=n) Z_d)
  (uA:autoParam (Su X e es) Z_r) (ou:autoParam (sHb X cN es) Z_r)
  (ht:eval (.Call (.Attribute o m kM) (e::es) [] cN) X.env=(do
   let ov<-eval o X.env
   BR kM.atName
   let (f,first)<-vw [ov] (wF ov m pl)
   Fw cN f first (m9 cN (dv (e::es) X.env)) (xi cN (oA [] X.env))):=by rfl):
  PE X (.Call (.Attribute o m kM) (e::es) [] cN) (JG C m sp [] E ta t):=acq (pl:=pl) he c.cl D.m F (hr.mono hk) D.b .nil hx ha uA ou ht
def Fj {pl:Sem Bool}(he:PE X o ta)(c:CI X.K C ns)(D:Dm X.K C m eV st f fd ps ls)(F:lx X.prog X.w X.K X.mg X.lQ CX k f fd ps sp)(hr:lC n X.A)(hx:Passes CX X E)(hk:autoParam (k<=n) Z_d)
  (ht:eval (.Call (.Attribute o m kM) [] [] cN) X.env=(do
   let ov<-eval o X.env
   BR kM.atName
   let (f,first)<-vw [ov] (wF ov m pl)
   Fw cN f first (m9 cN (dv [] X.env)) (xi cN (oA [] X.env))):=by rfl):
  PE X (.Call (.Attribute o m kM) [] [] cN) (JG C m sp [] E ta Gx):=Zd (pl:=pl) he c.cl D.m F (hr.mono hk) D.b .nil hx ht
def cQ (he:PE X e ta)(hb:autoParam (mT e x X.env (eval e X.env)=eval e X.env) Z_r):PE X (.Attribute e x cN) (tFd X.K ta x):=Jq he hb
def ki (ha:PE X o ta)(hv:PE X e te)(hs:autoParam (mU e (some (.Attribute o x kM)) cN.line X.env=pure false) Z_r):PS X (.Assign [.Attribute o x kM] e cN) (sFd X.K ta te x):=akk ha hv hs
def fL (i:Nat)(hN:X.N.Nodup)(he:PE X e te)(hi:autoParam (X.N[i]? =some x) Z_r)(hx:autoParam (Loc X.env.scope x) Z_t)(hs:autoParam (mU e (some (.Name x kM)) cN.line X.env=pure false) Z_r)(hf:autoParam (Uq X x) Z_t):
  PS X (.Assign [.Name x kM] e cN) (ZY te (Ar i)):=agj hN hi hx he hs hf
def mv (i:Nat)(hN:X.N.Nodup)(hi:autoParam (X.N[i]? =some x) Z_r)(hx:autoParam (Loc X.env.scope x) Z_t)(hf:autoParam (Uq X x) Z_t):PG X (.Name x cN) (Ar i):=acr hN hi hx hf
def rf {op:CmpOp}{r:R2}(ho:BF X (jg op) r)(ha:PE X a ta)(hb:PE X b tb)(h:autoParam (op≠.In) Z_d)(h2:autoParam (op≠.NotIn) Z_d):PT X (.Compare a [op] [b] cN) (aex (tOp r ta tb)):=Ul ho ha hb (R3 _ h h2)
def pcm {op:CmpOp}{r:R2}(ho:BF X (jg op) r)(ha:PE X a ta)(hb:PE X b tb)(h:autoParam (op≠.In) Z_d)(h2:autoParam (op≠.NotIn) Z_d):PE X (.Compare a [op] [b] cN) (tOp r ta tb):=Uh ho ha hb (R3 _ h h2)
def J6 (ha:PE X a ta)(hb:PE X b tb)(hs:autoParam (Td b) Z_t):PE X (.Subscript a b cN) (tOp (Qc X.K) ta tb):=w8 (r:=Qc X.K) ze ha hb hs
def psl {lo hi:Option Expr}{tl th:TO}(he:PE X e te)(hl:PO X lo tl)(hu:PO X hi th):PE X (.Subscript e (.Slice lo hi none p) cN) (tSl (acy X.K) te tl th):=P6 (r:=acy X.K) Ut he hl hu
def Bt (hm:X.mg "len"=none)(ha:PA X (e::es) t)(hg:autoParam (Gl X "len") Z_r)(he:autoParam (Su X e es) Z_r)(ou:autoParam (sHb X cN es) Z_r):PE X (.Call (.Name "len" p) (e::es) [] cN) (tCB (λxs H Q=>∃p ys,xs=[.ref p]/\(nN X.K H p ys\/Ml X.K H p ys)/\Q (.int ys.length) H) t):=gP Mp hg hm PySem.boot_len ha (by decide) (by decide) he ou
section
variable{lj:Pos}
def pap (ho:PE X o ta)(ha:PA X (e::es) t)(Io:autoParam (mT o "append" X.env (eval o X.env)=eval o X.env) Z_r)(afz:((m9 lj (dv (e::es) X.env)).all (λx=> !x.1)&&(xi lj (oA [] X.env)).all (λx=>x.1.isSome)
   &&decide ((e::es).length+([]:List aa4).length+(if([]:List aa4).isEmpty then 0 else 1)<30))=true:=by rfl)
  (Iv:autoParam ((kM.endLine==lj.line)=true) Z_r) (hs:autoParam (Su X e es) Z_r) (RR:autoParam ((m9 lj (dv es X.env)).any (·.1)=false) Z_r):
  PE X (.Call (.Attribute o "append" kM) (e::es) [] lj) (tBM X.K "list" NC ta t):=AD df PySem.F.slot_list_append PySem.F.type_list_append VE ho ha Io afz Iv hs RR
end
def PF {Mf:ke}:Raises X Mf λ_ _ _=>False:=λ_ _ _ _ _ _ _ _ _ _ _ _ _ z=>z.elim
section
variable{L:ke}{jx:Env}{uH:List Env}{FZ l7:Expr}{bc:nA}{wi:TI}{g:TG}
def GW (own:List (Str×Nat))(hN:X.N.Nodup)(hi:PI X tg l7 wi)(hg:∀{s:aL} {H:Hp} {C:ke} {cl:List (Str×ke)} {fp:pG},PG (X.gX s H bc (iB bc cl C X.env) fp) tg g)
  (he:∀{s:aL} {H:Hp} {C:ke} {cl:List (Str×ke)} {fp:pG} {E:kc},PE ((X.gX s H bc (iB bc cl C X.env) fp).vq E) FZ te) (uA:autoParam (X.stack=jx::uH) Z_r) (DC:autoParam (jx.frame=some L) Z_r) (Lx:autoParam (X.env.frame=some L) Z_r) (hc:autoParam (X.calm=true) Z_r) (ok:abx X.N X.env.scope bc own=true:=by kernel_rfl) (hs:autoParam (∀x,nB l7 X.env x=pure x) Z_t):
  PE X (.ListComp FZ [⟨tg,l7,[],0⟩] bc cN) (tLc wi g Z3 te (own.map (·.2))):=Zc (Mf:=0) (own:=own) PF uA DC Lx hc hN hi (xT ok) (λ_ _ _ _ _=>hg) (λ_ _ _ _ _=>C2) (λ_ _ _ _ _ _ _=>he) hs
def psc {y:Str}{py ZP:Pos}(i:Nat)(own:List (Str×Nat))(hN:X.N.Nodup)(hi:PI X tg l7 wi)(hg:∀{s:aL} {H:Hp} {C:ke} {cl:List (Str×ke)} {fp:pG},PG (X.gX s H bc (iB bc cl C X.env) fp) tg g)
  (he:∀{s:aL} {H:Hp} {C:ke} {cl:List (Str×ke)} {fp:pG} {E:kc},PE ((X.gX s H bc (iB bc cl C X.env) fp).vq E) FZ te) (uA:autoParam (X.stack=jx::uH) Z_r) (DC:autoParam (jx.frame=some L) Z_r) (Lx:autoParam (X.env.frame=some L) Z_r) (hc:autoParam (X.calm=true) Z_r) (hy:autoParam (X.N[i]? =some y) Z_r) (hyl:autoParam (X.env.scope.names.lookup y=some .local) Z_r) (hsw:mU (.ListComp FZ [⟨tg,l7,[],0⟩] bc cN) (some (.Name y py)) ZP.line X.env=pure true:=by exact NQ rfl rfl rfl rfl) (ok:abx X.N X.env.scope bc own=true:=by kernel_rfl) (hs:autoParam (∀x,nB l7 X.env x=pure x) Z_t):
  PS X (.Assign [.Name y py] (.ListComp FZ [⟨tg,l7,[],0⟩] bc cN) ZP) (ZY (tLc wi g Z3 te (own.map (·.2))) (Ar i)):=Eo (Mf:=0) (own:=own) PF uA DC Lx hc hN hy hyl hsw hi (xT ok) (λ_ _ _ _ _=>hg) (λ_ _ _ _ _=>C2) (λ_ _ _ _ _ _ _=>he) hs
end
end
def cK {CX P w K mg lQ N q sc f cd A o s H E}:(A3 CX P w K mg lQ N q sc f cd A o s H E).nox.K=K:=rfl
inductive Bd (X:Cx)(b:List Stmt)(D:Ends)(σ:St)(H:Hp):Prop|i {t u:TS}(_:Kc X b t)(_:u D σ H)(_:u=t:=by first|rw[cK]|rw[cL]|rfl)
inductive X2 {T0 T1:Type}(p:T0->T1->Prop):Prop|i a0 a1(_:p a0 a1)
inductive X3 {T0 T1 T2:Type}(p:T0->T1->T2->Prop):Prop|i a0 a1 a2(_:p a0 a1 a2)
inductive X4 {T0 T1 T2 T3:Type}(p:T0->T1->T2->T3->Prop):Prop|i a0 a1 a2 a3(_:p a0 a1 a2 a3)
inductive X5 {T0 T1 T2 T3 T4:Type}(p:T0->T1->T2->T3->T4->Prop):Prop|i a0 a1 a2 a3 a4(_:p a0 a1 a2 a3 a4)
inductive X6 {T0 T1 T2 T3 T4 T5:Type}(p:T0->T1->T2->T3->T4->T5->Prop):Prop|i a0 a1 a2 a3 a4 a5(_:p a0 a1 a2 a3 a4 a5)
inductive X7 {T0 T1 T2 T3 T4 T5 T6:Type}(p:T0->T1->T2->T3->T4->T5->T6->Prop):Prop|i a0 a1 a2 a3 a4 a5 a6(_:p a0 a1 a2 a3 a4 a5 a6)
inductive C3 (a0 a1 a2:Prop):Prop|i(_:a0)(_:a1)(_:a2)
inductive C4 (a0 a1 a2 a3:Prop):Prop|i(_:a0)(_:a1)(_:a2)(_:a3)
inductive C6 (a0 a1 a2 a3 a4 a5:Prop):Prop|i(_:a0)(_:a1)(_:a2)(_:a3)(_:a4)(_:a5)
inductive C7 (a0 a1 a2 a3 a4 a5 a6:Prop):Prop|i(_:a0)(_:a1)(_:a2)(_:a3)(_:a4)(_:a5)(_:a6)
inductive C9 (a0 a1 a2 a3 a4 a5 a6 a7 a8:Prop):Prop|i(_:a0)(_:a1)(_:a2)(_:a3)(_:a4)(_:a5)(_:a6)(_:a7)(_:a8)
inductive C10 (a0 a1 a2 a3 a4 a5 a6 a7 a8 a9:Prop):Prop|i(_:a0)(_:a1)(_:a2)(_:a3)(_:a4)(_:a5)(_:a6)(_:a7)(_:a8)(_:a9)
inductive C12 (a0 a1 a2 a3 a4 a5 a6 a7 a8 a9 a10 a11:Prop):Prop|i(_:a0)(_:a1)(_:a2)(_:a3)(_:a4)(_:a5)(_:a6)(_:a7)(_:a8)(_:a9)(_:a10)(_:a11)
inductive C15 (a0 a1 a2 a3 a4 a5 a6 a7 a8 a9 a10 a11 a12 a13 a14:Prop):Prop|i(_:a0)(_:a1)(_:a2)(_:a3)(_:a4)(_:a5)(_:a6)(_:a7)(_:a8)(_:a9)(_:a10)(_:a11)(_:a12)(_:a13)(_:a14)
section
open Bs
def _root_.Bs.Dx.ok {P:bJ}{w:cz}{K:au}{mg:sO}{lQ:Heap}{x eV:Str}{st:Stmt}{f:ke}{d:eO}{ps ls:mX}{k:Nat}{sp:Sp}(D:Dx K x eV st f d ps ls)
  (yy:∀{sQ:jm} {A:Around} {outer:List Env} {s:aL} (nd:(ps++ls).Nodup) (H:Hp) (vs:b_) (Q:VK) (E:XK),lC k (A.deeper (tJ eV (dZ st) s.heap.objs.size f sQ))->sp vs H Q E->
   Bd (A3 jh P w K mg lQ (ps++ls) eV (dZ st) f sQ A outer s H E).nox (rR st) {nx:=λ_ H'=>Q .gS H',rt:=Q} (start (ps++ls) vs) H)
  (QK:autoParam (∀vs H Q E,sp vs H Q E->vs.length=ps.length) Z_t):D.Ok P w mg lQ jh (k+1) sp:=
 D.F.ok D.S QK λ_ _ _ _ H vs Q E hr h=>match yy D.S.nd H vs Q E hr h with|.i a b e=>⟨_,a,e ▸ b⟩
def _root_.Bs.Dx.xE {P:bJ}{w:cz}{K:au}{mg:sO}{lQ:Heap}{Mf:ke}{x eV:Str}{st:Stmt}{f:ke}{d:eO}{ps ls:mX}{k:Nat}{sp:Sp}(D:Dx K x eV st f d ps ls)
  (yy:∀{sQ:jm} {A:Around} {outer:List Env} {s:aL} (nd:(ps++ls).Nodup) (H:Hp) (vs:b_) (Q:VK) (E:XK),lC k (A.deeper (tJ eV (dZ st) s.heap.objs.size f sQ))->sp vs H Q E->
   Bd (A3 (tO P w Mf) P w K mg lQ (ps++ls) eV (dZ st) f sQ A outer s H E) (rR st) {nx:=λ_ H'=>Q .gS H',rt:=Q} (start (ps++ls) vs) H)
  (QK:autoParam (∀vs H Q E,sp vs H Q E->vs.length=ps.length) Z_t):D.Ok P w mg lQ (tO P w Mf) (k+1) sp:=
 D.F.xE D.S QK λ_ _ _ _ H vs Q E hr h=>match yy D.S.nd H vs Q E hr h with|.i a b e=>⟨_,a,e ▸ b⟩
end
abbrev Wr (J:It)(g:TG)(te:TE)(vs:List Nat)(σ:St)(H1:Hp)(D:ke)(Qd:Hp->Prop):Prop:=∃W:Nat->Nat->Hp->Prop,(∃m,W 0 m (upd H1 D (.lst [])))/\∀i m H,W i m H->
   (J.stop i H/\Qd H)\/(J.go i H/\∃Nx:Hp->Prop,(∀H',Nx H'->∃m',m'<m/\W (i+1) m' H')/\∀x H',J.Wj i H x H'->g x (wipe σ vs) H' λmG H2=>wipe mG vs=wipe σ vs/\Z3 mG H2 λb H3=>
    if b=true then te mG H3 λy H4=>∃dM,H4 D=some (.lst dM)/\dM.length<bu/\Nx (upd H4 D (.lst (dM++[y]))) else Nx H3)
def b8 {H:Hp}{a b:ke}{o:HO}(h:H a=some o)(h':H b=none):b≠a:=(aI h h').symm
def aC.upd {H:Hp}{a:ke}{o:HO}(h:H a=none):aC H (upd H a o):=λb u e=>by rw[aF (aI e h)];exact e
def Nb {J:It}{g:TG}{te:TE}{vs:ig}{σ:St}{H1:Hp}{D:ke}{Qd:Hp->Prop}{ys:b_}(hD:H1 D=none)(hz:ys.length<=bu)
  (Yw:∀H,aC H1 H->J.stop ys.length H) (hgo:∀i H,i<ys.length->aC H1 H->J.go i H)
  (hs:∀i x y H H' Q,ys[i]? =some y->aC H1 H->J.Wj i H x H'->(∀H4,aC H H4->Q y H4)->g x (wipe σ vs) H' λmG H2=>wipe mG vs=wipe σ vs/\te mG H2 Q)
  (hd:∀H',H' D=some (.lst ys)->aC H1 H'->Qd H'):Wr J g te vs σ H1 D Qd:=by
 refine⟨λi m H=>m=ys.length-i/\i<=ys.length/\H D=some (.lst (ys.take i))/\aC H1 H,⟨ys.length,by simp,eU _,aq,aC.upd hD⟩,?_⟩;rintro i m H ⟨rfl,hi,eD,sm⟩;by_cases As:i<ys.length
 .refine .inr ⟨hgo i H As sm,λH'=>H' D=some (.lst (ys.take (i+1)))/\aC H1 H',λH' ⟨a,b⟩=>⟨ys.length-(i+1),ni _ _ As,Z,As,a,b⟩,λx H' y=>?_⟩;have hy:ys[i]? =some ys[i]:=aD As;refine hs i x ys[i] H H' _ hy sm y λH4 s4=>?_;refine⟨ys.take i,s4 _ _ eD,by rw[cP];lia,?_,λb o e=>?_⟩
  .rw[aq,Mx.take_snoc hy]
  .rw[aF (aI e hD)];exact s4 _ _ (sm _ _ e)
 .have e:i=ys.length:=by lia
  subst e;rw[gj] at eD;exact .inl ⟨Yw H sm,hd H eD sm⟩
section
variable{g:TG}{te:TE}{vs:ig}{σ:St}{H1:Hp}{D:ke}{Qd:Hp->Prop}{ys:b_}{K:au}
def u_ {lo:Int}{n:Nat}(hD:H1 D=none)(hz:ys.length<=bu)(hn:ys.length=n)
  (hs:∀i y H Q,ys[i]? =some y->aC H1 H->(∀H4,aC H H4->Q y H4)->g (.int (lo+(i:Nat))) (wipe σ vs) H λmG H2=>wipe mG vs=wipe σ vs/\te mG H2 Q)
  (hd:∀H',H' D=some (.lst ys)->aC H1 H'->Qd H'):Wr (S9 lo n) g te vs σ H1 D Qd:=Nb (J:=S9 lo n) (te:=te) hD hz (λH _=>f7 hn.symm) (λi H h _=>by rw[hn] at h;exact h)
   (λi x y H H' Q hy sm ⟨e,z⟩ k=>by subst e z;exact hs i y _ Q hy sm k) hd
def nu {a:ke}{xs:b_}(hD:H1 D=none)(hz:ys.length<=bu)(hl:nN K H1 a xs)(hn:ys.length=xs.length)
  (hs:∀(i:Nat) x y H Q,xs[i]? =some x->ys[i]? =some y->aC H1 H->(∀H4,aC H H4->Q y H4)->g x (wipe σ vs) H λmG H2=>wipe mG vs=wipe σ vs/\te mG H2 Q)
  (hd:∀H',H' D=some (.lst ys)->aC H1 H'->Qd H'):Wr (Wq K a) g te vs σ H1 D Qd:=Nb (J:=Wq K a) (te:=te) hD hz (λH sm=>⟨xs,sm.seq hl,f7 hn.symm⟩) (λi H h sm=>⟨xs,xs[i]'(by lia),sm.seq hl,aD (by lia)⟩)
   (λi x y H H' Q hy sm ⟨e,z⟩ k=>by subst e;exact hs i x y _ Q (z xs (sm.seq hl)) hy sm k) hd
def Nc {a b:ke}{xs zs:b_}(hD:H1 D=none)(hz:ys.length<=bu)(hl:nN K H1 a xs)(RQ:nN K H1 b zs)(hn:ys.length=xs.length)(hn2:ys.length=zs.length)
  (hs:∀(i:Nat) x z y T H Q,xs[i]? =some x->zs[i]? =some z->ys[i]? =some y->aC H1 H->H T=none->(∀H4,aC (upd H T (.tup [x,z])) H4->Q y H4)->g (.ref T) (wipe σ vs) (upd H T (.tup [x,z])) λmG H2=>wipe mG vs=wipe σ vs/\te mG H2 Q)
  (hd:∀H',H' D=some (.lst ys)->aC H1 H'->Qd H'):Wr (Itz K a b) g te vs σ H1 D Qd:=Nb (J:=Itz K a b) (te:=te) hD hz (λH sm=>⟨xs,zs,sm.seq hl,sm.seq RQ,.inl (f7 hn.symm)⟩) (λi H h sm=>⟨xs,zs,xs[i]'(by lia),zs[i]'(by lia),sm.seq hl,sm.seq RQ,aD (by lia),aD (by lia)⟩)
   (λi x y H H' Q hy sm ⟨T,x1,z1,e1,e2,e3,e4,e5⟩ k=>by subst e1 e3;exact hs i x1 z1 y T H Q (e4 xs (sm.seq hl)) (e5 zs (sm.seq RQ)) hy sm e2 λH4 s4=>k H4 ((aC.upd e2).trans s4)) hd
end
end L2
namespace Bs
open PySem PySem.Spec PyProof.Rows L2 Mx
section
variable{P:bJ}{w:cz}{K:au}{mg:sO}{lQ:Heap}{t:fP}(T:Txt K mg t)
inductive agA (vs:b_)(H:Hp)(Q:VK)(E:XK):Prop|i(x m:Int)(_:vs=[.int x,.int m])(_:0<=m)(_:Q (.int (jP x m)) H)
def Nm:T.G5.Ok P w mg lQ jh 1 agA:=by
 refine T.G5.ok λnd H vs Q E hr h=>?_;obtain⟨x,m,rfl,hm,k⟩:=h;refine .i (aH (bz (gP (Lh rfl) rfl T.aeb boot_max (ak (t6 pE (pv 1)) (ak (gP (ot rfl) rfl T.EY AJ (ak (pv 1) (ak (pv 0) ax))) ax))))) ?_;refine⟨_,Z,_,Z,_,Z,_,Z,_,_,Z,_,_,Z,?_⟩;have e:(if(if x<m then x else m)> -m then(if x<m then x else m) else-m)=jP x m:=abS hm;rw[e];exact k
inductive akH (vs:b_)(H:Hp)(Q:VK)(E:XK):Prop|i(x:Int)(_:vs=[.int x])(_:Q (.int (zI x)) H)
def Y1:T.S6.Ok P w mg lQ jh 1 akH:=by
 refine T.S6.ok λnd H vs Q E hr h=>?_;obtain⟨x,rfl,k⟩:=h;rw[<-agt] at k;refine .i (ao (gi (rf Ji (pv 0) aK) (aH (bz aK)) cT)
   (ao (gi (rf Fh (pv 0) aK) (aH (bz (t6 pE aK))) cT)
   (aH (bz aK)))) ?_
 refine⟨_,Z,_,_,Z,Z,_,Z,?_⟩;by_cases h1:0<x
 .rw[aj h1] at k;rw[ag h1];exact eZ k
 .rw[ah h1] at k;rw[ae h1];refine fK ⟨_,Z,_,_,Z,Z,_,Z,?_⟩;by_cases h2:x<0
  .rw[aj h2] at k;rw[ag h2];exact eZ ⟨_,Z,k⟩
  .rw[ah h2] at k;rw[ae h2];exact fK k
def zg (n:Int)(w:Nat):bY:=(aJ w).map λi=>n / 2^(8*i)%256
inductive akB (vs:b_)(H:Hp)(Q:VK)(E:XK):Prop|i(n:Int)(wd:Nat)(_:vs=[.int n,.int wd])(_:0<=n)(_:wd<=8)(_:∀H' p,aC H H'->H' p=some (.lst ((zg n wd).map V.int))->H p=none->Q (.ref p) H')
def kO:T.jG.Ok P w mg lQ jh 1 akB:=by
 refine T.jG.ok λnd H vs Q E hr h=>?_;obtain⟨n,wd,rfl,hn,hw,k⟩:=h;refine .i (aH (bz (GW [("i",2)] nd (jA rfl T.iA (ak (pv 1) ax)) (mv 2 nd) (aX Y4 (aX sZ (pv 0) (aX fQ aK (pv 2))) aK)))) ?_;refine⟨_,Z,_,Z,by lia,by lia,λD hD=>?_⟩;refine u_ (ys:=(zg n wd).map V.int) hD (by simp[zg,aE];lia) (by simp[zg]) (λi y H2 Q2 hy sm k2=>?_) λH' h1 h2=>k H' D h2 h1 hD;refine⟨Z,_,Z,_,Z,_,_,Z,Z,.inl ⟨by decide,by decide⟩,_,_,Z,Z,by lia,_,_,Z,Z,?_⟩;have hi:i<wd:=by
  have:=(aN.mp hy).1;simpa[zg] using this
 have e:Builtin.bitAnd (n / 2^((8:Int)*(0+(i:Int))).toNat) 255=n / 2^(8*i)%256:=by
  rw[show((8:Int)*(0+(i:Int))).toNat=8*i by lia];exact Bits.EG 8 (Int.ediv_nonneg hn (by exact Int.le_of_lt (Mx.two_pos _)))
 have ey:y=.int (n / 2^(8*i)%256):=by
  rw[aw] at hy;unfold zg at hy;rw[aw,bD hi] at hy;exact(bh hy).symm
 have fin:=k2 _ (aC.refl _);rw[ey,<-e] at fin;exact fin
def Hv {l:bY}{i:Int}(h0:0<=i)(h:i.toNat<l.length):U2 (l.map V.int) i=some (.int (l.getD i.toNat 0)):=by
 refine at_of (j:=i.toNat) (by lia) ?_;rw[aw,aG,aD h];rfl
def intBits_le {x:Int}{k:Nat}(h:x.natAbs<2^k):Builtin.Int.intBits x<=k:=by
 unfold Builtin.Int.intBits;split
 .lia
 .rename_i hx;have:x.natAbs.log2<k:=(Xc (by simpa using hx)).mpr h;lia
inductive akD (K:au)(vs:b_)(H:Hp)(Q:VK)(E:XK):Prop|i(a:ke)(bQ:bY)(p wd:Nat)(_:vs=[.ref a,.int p,.int wd])(_:nN K H a (bQ.map V.int))(_:1<=wd)(_:wd<=4)(_:p+wd<=bQ.length)(_:1<wd->∀x∈bQ,0<=x/\x<=255)(_:Q (.int (Mx.numAt bQ p wd)) H)
def wA:T.qA.Ok P w mg lQ jh 1 (akD K):=by
 refine T.qA.ok λnd H vs Q E hr h=>?_;obtain⟨a,bQ,p,wd,rfl,hl,h1,h4,hp,hb,k⟩:=h;refine .i (ao (fL 3 nd (J6 (pv 0) (pv 1)))
   (ao (gY PassesOwn.never rfl (zq rfl T.iA (ak aK (ak (pv 2) ax))) (mv 4 nd)
    (aH (Js (i:=3) nd rfl (Ah rfl) (aX Ug (w8 (r:=Qc K) ze (pv 0) (aX dz (pv 1) (pv 4)) (λ_ _=>rfl)) (aX fQ aK (pv 4))) M5)))
   (aH (bz (pv 3))))) ?_
 refine⟨_,Z,_,Z,a,_,_,_,Z,Z,hl,Hv (by lia) (by lia),?_⟩;refine⟨_,Z,_,_,Z,⟨by lia,by lia,by lia,by lia⟩,si (lo:=1) (n:=((wd:Int)-1).toNat) (λi σ H'=>H'=H/\∃z,σ=[some (.ref a),some (.int p),some (.int wd),some (.int ((aJ i).foldl (λb k=>b+bQ.getD (p+(1+k)) 0*2^(8*(1+k))) (bQ.getD p 0))),z]) ⟨Z,none,?_⟩ ?_ ?_⟩
 .show _=_;simp[L2.start]
 .rintro i σ H' hi ⟨e1,z,e2⟩;subst e1 e2;have hi:i<wd-1:=xo wd 1 ▸ hi;have hx:p+(1+i)<bQ.length:=by lia
  have hbt:=hb (by lia) (bQ.getD (p+(1+i)) 0) (by rw[aG,aD hx];exact adA hx);refine⟨_,Z,_,Z,_,Z,_,Z,_,_,Z,Z,a,_,_,_,Z,Z,hl,Hv (by lia) (by lia),_,Z,_,_,Z,Z,.inl ⟨by decide,by decide⟩,_,_,Z,Z,⟨by lia,?_⟩,_,_,Z,Z,Z,some (.int (1+(i:Int))),?_⟩
  .have:=intBits_le (x:=bQ.getD ((p:Int)+(1+(i:Int))).toNat 0) (k:=8) (by rw[show((p:Int)+(1+(i:Int))).toNat=p+(1+i) from rfl];lia);lia
  .rw[cE,dB,show((p:Int)+(1+(i:Int))).toNat=p+(1+i) from rfl,show((8:Int)*(1+(i:Int))).toNat=8*(1+i) from rfl];rfl
 .rintro σ H' ⟨e1,z,e2⟩;subst e1 e2;rw[show((wd:Int)-1).toNat=wd-1 from xo wd 1];exact⟨_,Z,k⟩
inductive Zy (g:Nat->Int)(vs:b_)(H:Hp)(Q:VK)(E:XK):Prop|i(b:Nat)(_:vs=[.int b])(_:1<=b)(_:b<=100)(_:Q (.int (g b)) H)
def ph:T.j9.Ok P w mg lQ jh 1 (Zy λb=> -(2^(b-1))):=by
 refine T.j9.ok λnd H vs Q E hr h=>?_;obtain⟨b,rfl,h1,h2,k⟩:=h;refine .i (aH (bz (t6 pE (aX uG aK (aX gw (pv 0) aK))))) ?_;refine⟨_,Z,_,_,Z,Z,_,_,Z,Z,⟨by lia,by lia,by decide⟩,_,Z,?_⟩;rw[show((b:Int)-1).toNat=b-1 from xo b 1,pM];exact k
def oj:T.jF.Ok P w mg lQ jh 1 (Zy λb=>2^(b-1)-1):=by
 refine T.jF.ok λnd H vs Q E hr h=>?_;obtain⟨b,rfl,h1,h2,k⟩:=h;refine .i (aH (bz (aX gw (aX uG aK (aX gw (pv 0) aK)) aK))) ?_;refine⟨_,Z,_,_,Z,Z,_,_,Z,Z,⟨by lia,by lia,by decide⟩,_,_,Z,Z,?_⟩;rw[show((b:Int)-1).toNat=b-1 from xo b 1,pM];exact k
end
end Bs
namespace L2
open PySem PySem.Spec PyProof.Rows
variable{X:Cx}{n:Nat}{S:pG}{H H' H1 H0:Hp}{a b:ke}{o:HO}{xs:b_}
def Raises.less {Mf:ke}{E E':XK}(h:Raises X Mf E)(le:∀C d H,E' C d H->E C d H):Raises X Mf E':=λaA σ H s lo e C d wt I hp lu F q=>h aA σ H s lo e C d wt I hp lu F (le C d H q)
def xP.mark {k:Nat}{A:Around}(r:xP k A)(h:Option jm):xP k (A.mark h):=⟨r.dp,r.un⟩
def Sl {Mf L e:ke}{E:XK}{jx:Env}{uH:List Env}{n:Str}{rT:Pos}(hX:Raises X Mf E)(ok:X.Ok)(uA:X.stack=jx::uH)(DC:jx.frame=some L)(Lx:X.env.frame=some L)(hl:X.env.scope.names.lookup n=some .local):
  Raises (X.as (X.A.mark (some (.ref e))) (asE X (X.A.mark (some (.ref e))) n rT)) Mf (λC d H=>E C d H/\∃c,C=.ref c):=
 VS (hX.less λ_ _ _ z=>z.1) ok ((qF _ _).trans ok.frames) uA DC Lx (λ_ _ _ z=>z.2) hl
def KZ {Mf L e:ke}{E:XK}{jx:Env}{uH:List Env}(hX:Raises X Mf E)(ok:X.Ok)(uA:X.stack=jx::uH)(DC:jx.frame=some L)(Lx:X.env.frame=some L):
  Raises (X.as (X.A.mark (some (.ref e))) (rn X (X.A.mark (some (.ref e))))) Mf (λC d H=>E C d H/\∃c,C=.ref c):=
 C5 (hX.less λ_ _ _ z=>z.1) ok ((qF _ _).trans ok.frames) uA DC Lx (λ_ _ _ z=>z.2)
def GU {K:au}{es:FD}{k:Nat}{t:TGs}{cN:Pos}(hK:X.K=K)(hc:X.calm=true)(h:PGs X es t)(hn:(tK es X.env).length=n)(uA:(tK es X.env).findIdx? (·.1)=none):PG X (.Tuple es k cN) (afq K n t):=by
 subst hK;exact yK hc h hn uA
def Zf {K:au}{tg e:Expr}{tl:TE}(hK:X.K=K)(h:PE X e tl):PI X tg e (YB K tl):=by
 subst hK;exact fB h
def dE (S:pG)(H H':Hp):Prop:=∀b o,H b=some o->b∉S->H' b=some o
def aC.chg (h:aC H H'):dE S H H':=λb o e _=>h b o e
def dE.same (h:dE [] H H'):aC H H':=λb o e=>h b o e (by simp)
def dE.refl:dE S H H:=λ_ _ e _=>e
def dE.trans {H2:Hp}(a:dE S H H1)(b:dE S H1 H2):dE S H H2:=λc o e n=>b c o (a c o e n) n
def dE.more {S':pG}(a:dE S H H1)(h:∀x∈S,x∈S'):dE S' H H1:=λc o e n=>a c o e λm=>n (h c m)
def dE.d_ (c:dE S H H1)(h:a∈S):dE S H (upd H1 a o):=λb u e n=>by rw[aF (by rintro rfl;exact n h)];exact c b u e n
def dE.tD (c:dE S H H1)(h:H a=none):dE S H (upd H1 a o):=λb u e n=>by rw[aF (aI e h)];exact c b u e n
def dE.back (s:aC H0 H)(c:dE S H H')(h:∀a∈S,H0 a=none):aC H0 H':=λb o e=>c b o (s b o e) λm=>by rw[h b m] at e;cases e
def dE.one (c:dE [a] H H')(e:H b=some o)(n:b≠a):H' b=some o:=c b o e (by simpa using n)
def nw (H0 H:Hp):Hp:=λb=>if(H0 b).isSome=true then none else H b
def aT:nw H0 H b=some o↔H0 b=none/\H b=some o:=by
 unfold nw;cases h:H0 b with
 |none=>simp
 |some u=>simp
def iK:aC (nw H0 H) H:=λb o e=>(aT.mp e).2
def Ue (c:dE S H H')(h:∀a∈S,(H0 a).isSome=true):aC (nw H0 H) (nw H0 H'):=λb o e=>by
 obtain⟨e1,e2⟩:=aT.mp e;exact aT.mpr ⟨e1,c b o e2 λm=>by have:=h b m;rw[e1] at this;cases this⟩
def wz (c:aC H H'):aC (nw H0 H) (nw H0 H'):=Ue (S:=[]) c.chg (by simp)
def qu (d:∀b,H1 b=none->H0 b=none):aC (nw H1 H) (nw H0 H):=λb o e=>by
 obtain⟨e1,e2⟩:=aT.mp e;exact aT.mpr ⟨d b e1,e2⟩
def o_ (d:aC H0 H1):aC (nw H1 H) (nw H0 H):=qu λb e=>d.free e
def bO (h:upd H a o b=none):b≠a/\H b=none:=by
 by_cases e:b=a
 .subst e;rw[aq] at h;cases h
 .exact⟨e,by rw[aF e] at h;exact h⟩
def gA {x dx:ke}{C:ke}{fs:List (Str×V)}(nx:H x=none)(nd:H dx=none):aC H (upd (upd H dx (.own x)) x (.ins C dx fs)):=λb o e=>by
 rw[aF (aI e nx),aF (aI e nd)];exact e
def but (H:Hp)(a:ke):Hp:=λb=>if b=a then none else H b
def dQ:but H a b=some o↔b≠a/\H b=some o:=by
 unfold but;by_cases h:b=a
 .simp[h]
 .simp[h]
def A1:aC (but H a) H:=λb o e=>(dQ.mp e).2
def abz:aC (but H a) (upd H a o):=λb u e=>by rw[aF (dQ.mp e).1];exact(dQ.mp e).2
def Apart (F G:Hp):Prop:=∀b,F b=none\/G b=none
def Apart.symm {F G:Hp}(h:Apart F G):Apart G F:=λb=>(h b).symm
abbrev aie (J:It)(g:TG)(tb:TS)(Dn:Ends)(σ:St)(H:Hp):Prop:=∃W:Nat->Nat->St->Hp->Prop,(∃m,W 0 m σ H)/\∀i m σ H,W i m σ H->(J.stop i H/\Dn.nx σ H)\/(J.go i H/\∃N:St->Hp->Prop,(∀gz H',N gz H'->∃m',m'<m/\W (i+1) m' gz H')/\∀x H',J.Wj i H x H'->g x σ H' λmG H2=>tb {Dn with nx:=N,ct:=N,bk:=Dn.nx} mG H2)
section
variable{g:TG}{te:TE}{vs:ig}{σ:St}{H1:Hp}{D:ke}{Qd:Hp->Prop}{K:au}
def RY {J:It}(R:Nat->b_->Hp->Prop)(n:Nat)(hz:n<=bu)(h0:R 0 [] (upd H1 D (.lst [])))
  (RO:∀dM H,dM.length=n->H D=some (.lst dM)->R n dM H->J.stop n H/\Qd H) (hgo:∀i dM H,i<n->H D=some (.lst dM)->R i dM H->J.go i H)
  (hs:∀i dM H x H' Q,i<n->dM.length=i->H D=some (.lst dM)->R i dM H->J.Wj i H x H'->(∀y H4,H4 D=some (.lst dM)->R (i+1) (dM++[y]) (upd H4 D (.lst (dM++[y])))->Q y H4)->g x (wipe σ vs) H' λmG H2=>wipe mG vs=wipe σ vs/\te mG H2 Q):Wr J g te vs σ H1 D Qd:=by
 refine⟨λi m H=>m=n-i/\i<=n/\∃dM,dM.length=i/\H D=some (.lst dM)/\R i dM H,⟨n,by simp,eU _,[],Z,aq,h0⟩,?_⟩;rintro i m H ⟨rfl,hi,dM,hl,eD,r⟩;by_cases As:i<n
 .refine .inr ⟨hgo i dM H As eD r,λH'=>∃y,H' D=some (.lst (dM++[y]))/\R (i+1) (dM++[y]) H',λH' ⟨y,a,b⟩=>⟨n-(i+1),ni _ _ As,Z,As,dM++[y],by simp[hl],a,b⟩,λx H' y=>?_⟩;exact hs i dM H x H' _ As hl eD r y λy H4 e4 r4=>⟨dM,e4,by lia,y,aq,r4⟩
 .have e:i=n:=by lia
  subst e;exact .inl (RO dM H hl eD r)
def LG {lo:Int}(R:Nat->b_->Hp->Prop)(n:Nat)(hz:n<=bu)(h0:R 0 [] (upd H1 D (.lst [])))
  (RO:∀dM H,dM.length=n->H D=some (.lst dM)->R n dM H->Qd H)
  (hs:∀(i:Nat) dM H Q,i<n->dM.length=i->H D=some (.lst dM)->R i dM H->(∀y H4,H4 D=some (.lst dM)->R (i+1) (dM++[y]) (upd H4 D (.lst (dM++[y])))->Q y H4)->g (.int (lo+(i:Nat))) (wipe σ vs) H λmG H2=>wipe mG vs=wipe σ vs/\te mG H2 Q):Wr (S9 lo n) g te vs σ H1 D Qd:=
 RY (J:=S9 lo n) (te:=te) R n hz h0 (λdM H a b c=>⟨bq n,RO dM H a b c⟩) (λi dM H h _ _=>h) λi dM H x H' Q hi hl eD r ⟨e1,e2⟩ k=>by
  subst e1 e2;exact hs i dM _ Q hi hl eD r k
def IH (R:Nat->b_->Hp->Prop)(hz:xs.length<=bu)(h0:R 0 [] (upd H1 D (.lst [])))(hR:∀i dM H,H D=some (.lst dM)->R i dM H->nN K H a xs)
  (RO:∀dM H,dM.length=xs.length->H D=some (.lst dM)->R xs.length dM H->Qd H)
  (hs:∀(i:Nat) dM H x Q,i<xs.length->dM.length=i->H D=some (.lst dM)->R i dM H->xs[i]? =some x->(∀y H4,H4 D=some (.lst dM)->R (i+1) (dM++[y]) (upd H4 D (.lst (dM++[y])))->Q y H4)->g x (wipe σ vs) H λmG H2=>wipe mG vs=wipe σ vs/\te mG H2 Q):Wr (Wq K a) g te vs σ H1 D Qd:=
 RY (J:=Wq K a) (te:=te) R xs.length hz h0 (λdM H a b c=>⟨⟨xs,hR _ _ _ b c,bq _⟩,RO dM H a b c⟩) (λi dM H h e r=>⟨xs,xs[i]'h,hR _ _ _ e r,aD h⟩) λi dM H x H' Q hi hl eD r ⟨e1,e2⟩ k=>by
  subst e1;exact hs i dM _ x Q hi hl eD r (e2 xs (hR _ _ _ eD r)) k
def TJ {ys:b_}{tb:TS}{Dn:Ends}(Pv:Nat->St->Hp->Prop)(h0:Pv 0 σ H)(hn:xs.length=n)(hn2:ys.length=n)(hl:∀i σ H,i<=n->Pv i σ H->nN K H a xs/\nN K H b ys)
  (hs:∀i σ H x y T,i<n->Pv i σ H->xs[i]? =some x->ys[i]? =some y->H T=none->g (.ref T) σ (upd H T (.tup [x,y])) λmG H2=>tb {Dn with nx:=λgz H'=>Pv (i+1) gz H',ct:=λgz H'=>Pv (i+1) gz H',bk:=Dn.nx} mG H2)
  (he:∀σ H,Pv n σ H->Dn.nx σ H):aie (Itz K a b) g tb Dn σ H:=by
 refine⟨λi m σ H=>m=n-i/\i<=n/\Pv i σ H,⟨n,by simp,eU _,h0⟩,?_⟩;rintro i m σ H ⟨rfl,hi,p⟩;obtain⟨l1,l2⟩:=hl i σ H hi p;by_cases h:i<n
 .refine .inr ⟨⟨xs,ys,xs[i]'(by lia),ys[i]'(by lia),l1,l2,aD _,aD _⟩,λgz H'=>Pv (i+1) gz H',λgz H' p'=>⟨n-(i+1),ni _ _ h,Z,h,p'⟩,?_⟩;rintro v H' ⟨T,x,y,rfl,nT,rfl,hx,hy⟩;exact hs i σ H x y T h p (hx xs l1) (hy ys l2) nT
 .have e:i=n:=by lia
  subst e;exact .inl ⟨⟨xs,ys,l1,l2,.inl (f7 hn)⟩,he σ H p⟩
def Cw {tb:TS}{Dn:Ends}(Pv:Nat->St->Hp->Prop)(h0:Pv 0 σ H)(hl:∀i σ H,i<=xs.length->Pv i σ H->nN K H a xs)
  (hs:∀(i:Nat) σ H x T,i<xs.length->Pv i σ H->xs[i]? =some x->H T=none->g (.ref T) σ (upd H T (.tup [.int (i:Nat),x])) λmG H2=>tb {Dn with nx:=λgz H'=>Pv (i+1) gz H',ct:=λgz H'=>Pv (i+1) gz H',bk:=Dn.nx} mG H2)
  (he:∀σ H,Pv xs.length σ H->Dn.nx σ H):aie (Ite K a) g tb Dn σ H:=by
 refine⟨λi m σ H=>m=xs.length-i/\i<=xs.length/\Pv i σ H,⟨xs.length,by simp,eU _,h0⟩,?_⟩;rintro i m σ H ⟨rfl,hi,p⟩;have l1:=hl i σ H hi p;by_cases h:i<xs.length
 .refine .inr ⟨⟨xs,xs[i]'(by lia),l1,aD _⟩,λgz H'=>Pv (i+1) gz H',λgz H' p'=>⟨xs.length-(i+1),ni _ _ h,Z,h,p'⟩,?_⟩;rintro v H' ⟨T,x,rfl,nT,rfl,hx⟩;exact hs i σ H x T h p (hx xs l1) nT
 .have e:i=xs.length:=by lia
  subst e;exact .inl ⟨⟨xs,l1,bq _⟩,he σ H p⟩
def TF {tb:TS}{Dn:Ends}(Pv:Nat->St->Hp->Prop)(h0:Pv 0 σ H)(hl:∀i σ H,i<=xs.length->Pv i σ H->nN K H a xs)
  (hs:∀(i:Nat) σ H x,i<xs.length->Pv i σ H->xs[xs.length-1-i]? =some x->g x σ H λmG H2=>tb {Dn with nx:=λgz H'=>Pv (i+1) gz H',ct:=λgz H'=>Pv (i+1) gz H',bk:=Dn.nx} mG H2)
  (he:∀σ H,Pv xs.length σ H->Dn.nx σ H):∃W:Nat->Nat->St->Hp->Prop,(∃m,W 0 m σ H)/\∀i m σ H,W i m σ H->((Itv K a xs.length).stop i H/\Dn.nx σ H)\/((Itv K a xs.length).go i H/\∃N:St->Hp->Prop,(∀gz H',N gz H'->∃m',m'<m/\W (i+1) m' gz H')/\∀x H',(Itv K a xs.length).Wj i H x H'->g x σ H' λmG H2=>tb {Dn with nx:=N,ct:=N,bk:=Dn.nx} mG H2):=by
 refine⟨λi m σ H=>m=xs.length-i/\i<=xs.length/\Pv i σ H,⟨xs.length,by simp,eU _,h0⟩,?_⟩;rintro i m σ H ⟨rfl,hi,p⟩;have l1:=hl i σ H hi p;by_cases h:i<xs.length
 .refine .inr ⟨⟨h,xs,xs[xs.length-1-i]'(uX h),l1,aD _⟩,λgz H'=>Pv (i+1) gz H',λgz H' p'=>⟨xs.length-(i+1),ni _ _ h,Z,h,p'⟩,?_⟩;rintro v H' ⟨rfl,hx⟩;exact hs i σ _ v h p (hx xs l1)
 .have e:i=xs.length:=by omega
  subst e;exact .inl ⟨bq _,he σ H p⟩
end
def k16 {k:Nat}(h:k<(n+15) / 16):16*k<n:=by
 have h:=Nat.mul_le_of_le_div 16 _ _ h;exact Nat.lt_of_not_le λc=>absurd (bt h (BW c 15)) (by rw[jn,amI];exact Oh.mpr (Nat.add_lt_add_left (by decide) _))
def m16 {m:Nat}(h:m<=n):m+min 16 (n-m)=min (m+16) n:=by rw[<-Nat.add_min_add_left,i7 h]
def aph {m:Nat}(h:m<=n):((if(n:Int)<(m:Int)+16 then(n:Int) else(m:Int)+16)-(m:Int)).toNat=min 16 (n-m):=by
 obtain⟨d,rfl⟩:=Nat.exists_eq_add_of_le h;rw[k9];by_cases c:d<16
 .rw[aj (by rw[ft];exact Int.add_lt_add_left (UN.mpr c) _),ft,UK,uS,k_ (cG c)];rfl
 .have c:=i4.mp c;rw[ah (by rw[ft];exact FC.mpr (Int.add_le_add_left (um.mpr c) _)),UK,uS,eQ c];rfl
def sb2 {x m:Nat}(h:x%2=0)(e:m%2=0):(x-m)%2=0:=Nat.sub_mod_eq_zero_of_mod_eq (h.trans e.symm)
def pA {L d pc:Nat}(h:d<L)(p:1<=pc):L-(d+pc)<L-d:=Nat.sub_lt_sub_left h (Nat.lt_add_of_pos_right p)
def pB {L d:Nat}(h:d<L):1<=min 15 (L-d)/\min 15 (L-d)<=15/\min 15 (L-d)<=L-d:=⟨Nat.le_min.mpr ⟨by decide,Hg h⟩,fw ..,aeX ..⟩
def pC {i:Nat}(h:i<n):n-1-(n-1-i)=i:=Nat.sub_sub_self (Xb h)
def ajX (b:Nat):(if(b:Int)<15 then(b:Int) else 15)=((min 15 b:Nat):Int):=by
 by_cases c:b<15
 .rw[aj (show(b:Int)<15 from UN.mpr c),k_ (cG c)]
 .rw[ah (show¬(b:Int)<15 from FC.mpr (um.mpr (i4.mp c))),eQ (i4.mp c)];rfl
def rvq {i q:Nat}(hi:i<n)(hq:q=n-1-i):n-i=q+1/\n-(i+1)=q/\q<n:=by
 have e:n=q+1+i:=by rw[hq,uV,jK (Xb hi),jK (wQ hi)]
 exact⟨Xf e,Xf (e.trans (uV ..)),e ▸ a_ (gn q) (jw ..)⟩
def nd1 (n:Nat):((n:Int)-1- -1).toNat=n:=by rw[Int.sub_neg,Int.sub_add_cancel];rfl
def ndi {i q:Nat}(hi:i<n)(hq:q=n-1-i):(n:Int)-1+(i:Nat)*(-1)=(q:Int):=by
 have:=(rvq hi hq).1;clear hq;lia
def c64 (h:n<=64):((32768-(64-n):Nat):Int)=32768-(64-(n:Int)):=by
 rw[mr (bt (lO ..) (by decide)),mr h];rfl
def c63 {s:Nat}(h:s<64):((64:Int)-((s:Int)+1)).toNat=63-s:=by
 rw[show(64:Int)-((s:Int)+1)=((64-(s+1):Nat):Int) from(mr h).symm];exact adH 63 s
def p0 (h:1<=n):(0:Int)<(n:Int):=Int.natCast_pos.mpr h
end L2
namespace Bs
open PySem PySem.Spec PyProof.Rows L2 Mx
variable{E:XK}{S:pG}{H H1 H' F N G H2 G' G0 H0 F' Hb:Hp}{e lo fA:Int}{xs uQ:b_}{f:bN}{fd:eO}{a dx x D ba li dl ca:ke}{r p q i n R ay pd pl:Nat}{bQ l:bY}{ab:Bool}{b:cb}{o:HO}{s:eP}{v fv lv:V}{Q:VK}{g:TG}{te:TE}{vs:ig}{Gs:Nat->Hp}{m:b9}{wl:List (Nat×Nat)}{st:aW}{it:oX}{rd:cD}{so:Option aW}
section
variable{P:bJ}{w:cz}{K:au}{mg:sO}{lQ:Heap}{t:fP}(T:Txt K mg t)
def zx (T:Txt K mg t):FnH P w K mg lQ t.uy t.Al ["self","place"] (ZO t.bI ["place"]):=by
 refine T.lq.F.okH T.lq.S (λvs H Q h=>?_) (λsQ A outer s H vs Q h=>?_)
 .obtain⟨e,xs,rfl,hl,_⟩:=h;simp[hl]
 .obtain⟨e,xs,rfl,hl,he,k⟩:=h;obtain⟨x,rfl⟩:=Mx.lc1 hl;refine⟨_,ao (Qa rfl T.EW (pv 0)) (aH (Ny (pv 0) (pv 1) rfl)),?_⟩;refine⟨_,Z,e,t.bI,_,none,Z,T.sP,he,_,Z,_,Z,e,t.bI,_,Z,T.sP,T.xc,.inl ⟨aq,λdd n1 n2=>?_⟩⟩;have n3:H dd=none:=(bO n1).2;refine k _ dd [("place",x)] ?_ aq n3 n2 (λi n y h1 h2=>?_) (λb o eb nb=>?_)
  .rw[aF (eK n2),aq]
  .match i with
   |0=>cases h1;cases h2;rfl
   |i+1=>simp at h1
  .rw[aF (aI eb n3),aF nb,aF nb];exact eb
def ia (T:Txt K mg t):FnH P w K mg lQ t.o7 t.tW ["self","kind","place"] (ZO t.cM ["kind","place"]):=by
 refine T.dq.F.okH T.dq.S (λvs H Q h=>?_) (λsQ A outer s H vs Q h=>?_)
 .obtain⟨e,xs,rfl,hl,_⟩:=h;simp[hl]
 .obtain⟨e,xs,rfl,hl,he,k⟩:=h;obtain⟨x,z,rfl⟩:=Mx.lc2 hl;refine⟨_,ao (Qa rfl T.EW (pv 0)) (ao (Ny (pv 0) (pv 1) rfl) (aH (Ny (pv 0) (pv 2) rfl))),?_⟩;refine⟨_,Z,e,t.cM,_,none,Z,T.iO,he,_,Z,_,Z,e,t.cM,_,Z,T.iO,T.tF,.inl ⟨aq,λdd n1 n2=>?_⟩⟩;have n3:H dd=none:=(bO n1).2;refine⟨_,Z,_,Z,e,t.cM,_,Z,T.iO,T.rH,.inr ⟨dd,[("kind",x)],?_,aq,by simp,?_⟩⟩
  .rw[aF (eK n2),aq]
  refine k _ dd [("kind",x),("place",z)] ?_ aq n3 n2 (λi n y h1 h2=>?_) (λb o eb nb=>?_)
  .rw[aF (eK n2),aF (eK n2),aq]
  .match i with
   |0=>cases h1;cases h2;rfl
   |1=>cases h1;cases h2;rfl
   |i+2=>simp at h1
  .rw[aF (aI eb n3),aF (aI eb n3),aF nb,aF nb];exact eb
def Wv (t:fP)(E:XK)(S:pG)(H:Hp)(e:Int):Prop:=∀H' dd fs,H' dd=some (.ext (GJ dd fs))->fs.lookup ("place":Str)=some (V.int e)->dE S H H'->E (.ref t.bI) (some dd) H'
def GF (t:fP)(E:XK)(S:pG)(H:Hp)(k p:Int):Prop:=∀H' dd fs,H' dd=some (.ext (GJ dd fs))->fs.lookup ("kind":Str)=some (V.int k)->fs.lookup ("place":Str)=some (V.int p)->dE S H H'->E (.ref t.cM) (some dd) H'
def Tc (C:ke)(E:XK)(S:pG)(H:Hp):Prop:=∀H',dE S H H'->E (.ref C) none H'
def Wv.mono (h:Wv t E S H e)(c:dE S H H1):Wv t E S H1 e:=λH' dd fs a b d=>h H' dd fs a b (c.trans d)
def Wv.raise (h:Wv t E S H e):[V.int e].length=(["place"]:mX).length/\∀dd fs H2,H2 dd=some (.ext (GJ dd fs))->Given ["place"] [V.int e] fs->aC H H2->E (.ref t.bI) (some dd) H2:=
 ⟨Z,λdd fs H2 a g s=>h H2 dd fs a (g 0 _ _ rfl rfl) s.chg⟩
def GF.mono {k:Int}(h:GF t E S H k e)(c:dE S H H1):GF t E S H1 k e:=λH' dd fs a b d x=>h H' dd fs a b d (c.trans x)
def GF.raise {k:Int}(h:GF t E S H k e):[V.int k,V.int e].length=(["kind","place"]:mX).length/\∀dd fs H2,H2 dd=some (.ext (GJ dd fs))->Given ["kind","place"] [V.int k,V.int e] fs->aC H H2->E (.ref t.cM) (some dd) H2:=
 ⟨Z,λdd fs H2 a g s=>h H2 dd fs a (g 0 _ _ rfl rfl) (g 1 _ _ rfl rfl) s.chg⟩
def Tc.mono {C:ke}(h:Tc C E S H)(c:dE S H H1):Tc C E S H1:=λH' x=>h H' (c.trans x)
inductive Fp (C:ke)(mk:b_->List (Str×V))(n:Nat)(vs:b_)(H:Hp)(Q:VK)(E:XK):Prop|i x dx xs(_:vs=.ref x::xs)(_:xs.length=n)(_:H x=some (.ins C dx []))(_:Q .gS (upd H x (.ins C dx (mk xs))))
def IP (ns:mX)(xs:b_):List (Str×V):=ns.zip xs
def af3 (h:xs.length=2):∃a b,xs=[a,b]:=Mx.lc2 h
def af4 (h:xs.length=4):∃a b c d,xs=[a,b,c,d]:=by
 obtain⟨a,r,rfl,h1⟩:=Mx.lcs h;obtain⟨b,c,d,rfl⟩:=Mx.lc3 h1;exact⟨a,b,c,d,Z⟩
def apc (h:xs.length=6):∃a b c d e f,xs=[a,b,c,d,e,f]:=by
 obtain⟨a,r,rfl,h1⟩:=Mx.lcs h;obtain⟨b,r,rfl,h2⟩:=Mx.lcs h1;obtain⟨c,d,e,f,rfl⟩:=af4 h2;exact⟨a,b,c,d,e,f,Z⟩
def KO:T.vB.Ok P w mg lQ jh 1 (Fp t.y_ (IP ["taps","gain","kind","scale"]) 4):=by
 refine T.vB.ok λnd H vs Q E hr h=>?_;obtain⟨x,dx,xs,rfl,hl,hx,k⟩:=h;obtain⟨a,b,c,d,rfl⟩:=af4 hl;refine .i (ao (ki (pv 0) (pv 1))
   (ao (ki (pv 0) (pv 2))
   (ao (ki (pv 0) (pv 3))
   (aH (ki (pv 0) (pv 4)))))) ?_
 refine⟨_,Z,_,Z,Z,hx,T.iq,Z,Z,Z,?_⟩;refine⟨_,Z,_,Z,Z,aq,T.iq,Z,Z,Z,?_⟩;refine⟨_,Z,_,Z,Z,aq,T.iq,Z,Z,Z,?_⟩;refine⟨_,Z,_,Z,Z,aq,T.iq,Z,Z,Z,?_⟩;rw[eG,eG,eG];exact k
def Ja:T.ug.Ok P w mg lQ jh 1 (Fp t.uY (IP ["fixed","stages"]) 2):=by
 refine T.ug.ok λnd H vs Q E hr h=>?_;obtain⟨x,dx,xs,rfl,hl,hx,k⟩:=h;obtain⟨a,b,rfl⟩:=af3 hl;refine .i (ao (ki (pv 0) (pv 1))
   (aH (ki (pv 0) (pv 2)))) ?_
 refine⟨_,Z,_,Z,Z,hx,T.oM,Z,Z,Z,?_⟩;refine⟨_,Z,_,Z,Z,aq,T.oM,Z,Z,Z,?_⟩;rw[eG];exact k
def PM:T.AM.Ok P w mg lQ jh 1 (Fp t.Lg (IP ["row_ways","joints"]) 2):=by
 refine T.AM.ok λnd H vs Q E hr h=>?_;obtain⟨x,dx,xs,rfl,hl,hx,k⟩:=h;obtain⟨a,b,rfl⟩:=af3 hl;refine .i (ao (ki (pv 0) (pv 1))
   (aH (ki (pv 0) (pv 2)))) ?_
 refine⟨_,Z,_,Z,Z,hx,T.xG,Z,Z,Z,?_⟩;refine⟨_,Z,_,Z,Z,aq,T.xG,Z,Z,Z,?_⟩;rw[eG];exact k
def Ax:T.rM.Ok P w mg lQ jh 1 (Fp t.o6 (IP ["bits","cut","lanes","way"]) 4):=by
 refine T.rM.ok λnd H vs Q E hr h=>?_;obtain⟨x,dx,xs,rfl,hl,hx,k⟩:=h;obtain⟨a,b,c,d,rfl⟩:=af4 hl;refine .i (ao (ki (pv 0) (pv 1))
   (ao (ki (pv 0) (pv 2))
   (ao (ki (pv 0) (pv 3))
   (aH (ki (pv 0) (pv 4)))))) ?_
 refine⟨_,Z,_,Z,Z,hx,T.dA,Z,Z,Z,?_⟩;refine⟨_,Z,_,Z,Z,aq,T.dA,Z,Z,Z,?_⟩;refine⟨_,Z,_,Z,Z,aq,T.dA,Z,Z,Z,?_⟩;refine⟨_,Z,_,Z,Z,aq,T.dA,Z,Z,Z,?_⟩;rw[eG,eG,eG];exact k
def yD:T.p_.Ok P w mg lQ jh 1 (Fp t.lh (λxs=>IP ["row","as_bytes","place"] (xs++[.int 0])) 2):=by
 refine T.p_.ok λnd H vs Q E hr h=>?_;obtain⟨x,dx,xs,rfl,hl,hx,k⟩:=h;obtain⟨a,b,rfl⟩:=af3 hl;refine .i (ao (ki (pv 0) (pv 1))
   (ao (ki (pv 0) (pv 2))
   (aH (ki (pv 0) aK)))) ?_
 refine⟨_,Z,_,Z,Z,hx,T.cq,Z,Z,Z,?_⟩;refine⟨_,Z,_,Z,Z,aq,T.cq,Z,Z,Z,?_⟩;refine⟨_,Z,Z,aq,T.cq,Z,Z,Z,?_⟩;rw[eG,eG];exact k
def Nj:T.xH.Ok P w mg lQ jh 1 (Fp t.uw (λxs=>IP ["key","rows","bits","cut","lanes","times","check","way","end"] (xs++[.int 0,.gS,.int 0])) 6):=by
 refine T.xH.ok λnd H vs Q E hr h=>?_;obtain⟨x,dx,xs,rfl,hl,hx,k⟩:=h;obtain⟨a,b,c,d,e,f,rfl⟩:=apc hl;refine .i (ao (ki (pv 0) (pv 1))
   (ao (ki (pv 0) (pv 2))
   (ao (ki (pv 0) (pv 3))
   (ao (ki (pv 0) (pv 4))
   (ao (ki (pv 0) (pv 5))
   (ao (ki (pv 0) (pv 6))
   (ao (ki (pv 0) aK)
   (ao (ki (pv 0) Sb)
   (aH (ki (pv 0) aK)))))))))) ?_
 refine⟨_,Z,_,Z,Z,hx,T.dS,Z,Z,Z,?_⟩;refine⟨_,Z,_,Z,Z,aq,T.dS,Z,Z,Z,?_⟩;refine⟨_,Z,_,Z,Z,aq,T.dS,Z,Z,Z,?_⟩;refine⟨_,Z,_,Z,Z,aq,T.dS,Z,Z,Z,?_⟩;refine⟨_,Z,_,Z,Z,aq,T.dS,Z,Z,Z,?_⟩;refine⟨_,Z,_,Z,Z,aq,T.dS,Z,Z,Z,?_⟩;refine⟨_,Z,Z,aq,T.dS,Z,Z,Z,?_⟩;refine⟨_,Z,Z,aq,T.dS,Z,Z,Z,?_⟩;refine⟨_,Z,Z,aq,T.dS,Z,Z,Z,?_⟩;simp only[eG];exact k
def lx.exP {β:Type}{pre:β->Prop}{sp:β->Sp}{CX:NY}{k:Nat}{f:ke}{ps:mX}(h:∀b,pre b->lx P w K mg lQ CX k f fd ps (sp b)):lx P w K mg lQ CX k f fd ps (λvs H Q E=>∃b,pre b/\sp b vs H Q E):=
 ⟨λvs H Q E ⟨b,p,z⟩=>(h b p).len vs H Q E z,λA outer s H args us vs Q E hr he hb hv ⟨b,p,z⟩=>(h b p).run A outer s H args us vs Q E hr he hb hv z⟩
abbrev UJ (t:fP)(dx r:ke)(ab:Bool)(p:Nat):HO:=.ins t.lh dx [("row",.ref r),("as_bytes",.bl ab),("place",.int p)]
structure FA (t:fP)(H:Hp)(a dx r:ke)(bQ:bY)(ab:Bool)(p:Nat):Prop where
 at_:H a=some (UJ t dx r ab p)
 lS:H r=some (.lst (bQ.map V.int))
 EH:ab=true->∀x∈bQ,0<=x/\x<=255
def FA.ne {r:ke}(h:FA t H a dx r bQ ab p):r≠a:=hG h.lS h.at_ (by intro z;cases z)
def FA.chg {r:ke}(h:FA t H a dx r bQ ab p)(c:dE [a] H H')(e:H' a=some (UJ t dx r ab q)):FA t H' a dx r bQ ab q:=
 ⟨e,c.one h.lS h.ne,h.EH⟩
inductive p9 {α:Type}(t:fP)(ex:b_)(f:bY->Bool->Nat->Except Nat (α×Nat))(is:α->V->Hp->Prop)(vs:b_)(H:Hp)(Q:VK)(E:XK):Prop|i a dx r bQ ab p(_:vs=.ref a::ex)(_:FA t H a dx r bQ ab p)(_:∀e,f bQ ab p=.error e->Wv t E [a] H e)(_:∀x q,f bQ ab p=.ok (x,q)->∀v H',dE [a] H H'->H' a=some (UJ t dx r ab q)->is x v (nw H H')->Q v H')
def isI (x:Int)(v:V)(_:Hp):Prop:=v=.int x
def ac8 {σ:L2.St}{Q':VK}(hi:σ[i]? =some (some (.int n)))(h:Q' (.int ((if ab=true then n else 1:Nat):Nat)) H):if ab=true then Es i σ H Q' else tC (.int 1) σ H Q':=by
 cases ab with
 |true=>exact⟨_,hi,h⟩
 |false=>exact h
def ajO {c:Bool}{a b:V}{σ:L2.St}{Q':VK}(h:Q' (if c=true then a else b) H):if c=true then tC a σ H Q' else tC b σ H Q':=by cases c<;>exact h
def zY (wd:Nat)(hw:1<=wd/\wd<=4):T.ir.Ok P w mg lQ (tO P w t.bI) 4 (p9 t [.int wd] (λbQ ab p=>Bz bQ ab wd p) isI):=by
 refine T.ir.xE λnd H vs Q E hr h=>?_;obtain⟨a,dx,r,bQ,ab,p,rfl,fa,kE,kQ⟩:=h;have h2:1<=(if ab=true then wd else 1)/\(if ab=true then wd else 1)<=4:=by split<;>omega
 refine .i (ao (fL 2 nd (cQ (pv 0)))
   (ao (fL 3 nd (qK (Bu (cQ (pv 0))) (pv 1) aK))
   (ao (gi (rf Ji (aX dz (pv 2) (pv 3)) (Bt T.jc (ak (cQ (pv 0)) ax))) (aH (jB (ns:=["place"]) aY rfl T.yZ (zx T) (hr.mono (by decide)).h T.lq.b rfl rfl T.sj (ak (Bt T.jc (ak (cQ (pv 0)) ax)) ax) (by decide))) cT)
   (ao (ki (pv 0) (aX dz (pv 2) (pv 3)))
   (aH (bz (kq T.qA (wA T) hr bG (ak (cQ (pv 0)) (ak (pv 2) (ak (pv 3) ax)))))))))) ?_
 refine⟨_,Z,Z,fa.at_,T.cq,Z,Z,?_⟩;refine⟨_,Z,Z,fa.at_,T.cq,Z,Z,?_⟩;obtain⟨sz,hsz⟩:∃sz:Nat,sz=if ab=true then wd else 1:=⟨_,Z⟩
 have h2:1<=sz/\sz<=4:=by rw[hsz];split<;>omega
 have hb:1<sz->∀x∈bQ,0<=x/\x<=255:=λz=>fa.EH (by
  cases ab with
  |true=>rfl
  |false=>simp at hsz;omega)
 have kE':p+sz>bQ.length->Wv t E [a] H bQ.length:=λz=>kE bQ.length (by show Bz bQ ab wd p=_;unfold Bz;rw[<-hsz,aj z]);have kQ':¬p+sz>bQ.length->∀v H',dE [a] H H'->H' a=some (UJ t dx r ab (p+sz))->v=.int (Mx.numAt bQ p sz)->Q v H':=λz v H' c e ev=>kQ _ _ (by show Bz bQ ab wd p=_;unfold Bz;rw[<-hsz,ah z]) v H' c e ev;clear kE kQ;refine⟨ab,Z,ac8 rfl ?_⟩;rw[<-hsz];refine⟨_,Z,_,Z,_,_,Z,Z,_,Z,Z,fa.at_,T.cq,Z,Z,r,_,Z,i3 fa.lS,_,_,Z,Z,_,Z,?_⟩;rw[aB];by_cases hp:p+sz>bQ.length
 .rw[ag (show(bQ.length:Int)<(p:Int)+(sz:Int) by omega)];refine eZ ⟨_,Z,Z,fa.at_,T.cq,Z,Z,r,_,Z,i3 fa.lS,?_⟩;rw[aB];exact(kE' hp).raise
 .rw[ae (show¬(bQ.length:Int)<(p:Int)+(sz:Int) by omega)];refine fK ⟨_,Z,_,Z,_,_,Z,Z,_,Z,Z,fa.at_,T.cq,Z,Z,Z,?_⟩;refine⟨_,Z,Z,aq,T.cq,Z,Z,_,Z,_,Z,r,bQ,p,sz,Z,.inl (.inl ?_),h2.1,h2.2,by omega,hb,?_⟩
  .rw[aF fa.ne];exact fa.lS
  .exact kQ' hp _ _ (dE.refl.d_ (by simp)) aq rfl
def akx (t:fP):Sp:=λvs H Q E=>∃wd:Nat,(1<=wd/\wd<=4)/\p9 t [.int wd] (λbQ ab p=>Bz bQ ab wd p) isI vs H Q E
def oi:T.ir.Ok P w mg lQ (tO P w t.bI) 4 (akx t):=lx.exP λwd h=>zY T wd h
def aer (t:fP):Sp:=λvs H Q E=>∃b:Nat×Int×Int,(1<=b.1/\b.1<=4)/\p9 t [.int b.1,.int b.2.1,.int b.2.2] (λbQ ab p=>jX bQ ab b.1 b.2.1 b.2.2 p) isI vs H Q E
def c_:T.cW.Ok P w mg lQ (tO P w t.bI) 5 (aer t):=by
 refine lx.exP λ⟨wd,lo,hi⟩ hw=>?_;refine T.cW.xE λnd H vs Q E hr h=>?_;obtain⟨a,dx,r,bQ,ab,p,rfl,fa,kE,kQ⟩:=h;refine .i (ao (fL 4 nd (cQ (pv 0)))
   (ao (fL 5 nd (qO (pv 0) T.cq T.ir (oi T) hr aY.passes (ak (pv 1) ax)))
   (ao (gi (PW.pt (yO (rf Fh (pv 5) (pv 2)) (yP (rf Ji (pv 5) (pv 3))))) (aH (jB (ns:=["place"]) aY rfl T.yZ (zx T) (hr.mono (by decide)).h T.lq.b rfl rfl T.sj (ak (pv 4) ax) (by decide))) cT)
   (aH (bz (pv 5)))))) ?_
 refine⟨_,Z,Z,fa.at_,T.cq,Z,Z,_,Z,a,_,_,Z,fa.at_,Z,_,Z,wd,hw,a,dx,r,bQ,ab,p,Z,fa,λe he=>kE e (by simp only[jX,he]),λx q hx v H' c e hv=>?_⟩;obtain rfl:=hv;refine⟨_,Z,_,Z,_,_,Z,Z,_,Z,?_⟩;by_cases h1:x<lo
 .rw[ag h1];refine eZ ⟨_,Z,?_⟩;exact((kE p (by simp only[jX,hx];rw[aj (.inl h1)])).mono c).raise
 .rw[ae h1];refine fK ⟨_,Z,_,Z,_,_,Z,Z,_,Z,?_⟩;by_cases h2:hi<x
  .rw[ag h2];refine eZ ⟨_,Z,?_⟩;exact((kE p (by simp only[jX,hx];rw[aj (.inr h2)])).mono c).raise
  .rw[ae h2];exact fK ⟨_,Z,kQ x q (by simp only[jX,hx];rw[ah (by lia)]) _ _ c e rfl⟩
def akF (t:fP):Sp:=λvs H Q E=>∃wd:Nat,(1<=wd/\wd<=4)/\p9 t [.int wd,.ref t.GK] (λbQ ab p=>BA bQ ab wd iy p) isI vs H Q E
theorem Pj {x:Int}:∀{cs:bY},inV (.int x) (cs.map V.int)=decide (x∈cs)
 |[]=>rfl
 |a::cs=>by
  have ih:=Pj (x:=x) (cs:=cs);show(eqV (.int a) (.int x)||inV (.int x) (cs.map V.int))=_;rw[ih];show(decide (a=x)||decide (x∈cs))=decide (x∈a::cs);by_cases h:a=x
  .subst h;simp
  .have h':¬x=a:=λz=>h z.symm;simp[h,h']
def xu:T.lU.Ok P w mg lQ (tO P w t.bI) 5 (akF t):=by
 refine lx.exP λwd hw=>?_;refine T.lU.xE λnd H vs Q E hr h=>?_;obtain⟨a,dx,r,bQ,ab,p,rfl,fa,kE,kQ⟩:=h;refine .i (ao (fL 3 nd (cQ (pv 0)))
   (ao (fL 4 nd (qO (pv 0) T.cq T.ir (oi T) hr aY.passes (ak (pv 1) ax)))
   (ao (gi (Ul Nt (pv 4) (pv 2) (by rfl)) (aH (jB (ns:=["place"]) aY rfl T.yZ (zx T) (hr.mono (by decide)).h T.lq.b rfl rfl T.sj (ak (pv 3) ax) (by decide))) cT)
   (aH (bz (pv 4)))))) ?_
 refine⟨_,Z,Z,fa.at_,T.cq,Z,Z,_,Z,a,_,_,Z,fa.at_,Z,_,Z,wd,hw,a,dx,r,bQ,ab,p,Z,fa,λe he=>kE e (by simp only[BA,he]),λx q hx v H' c e hv=>?_⟩;obtain rfl:=hv;refine⟨_,Z,_,Z,_,_,Z,.inr (T.acD _),Z,by decide,_,Z,?_⟩;have e1:inV (.int x) [.int 1,.int 4,.int 8,.int 16]=decide (x∈iy):=Pj (cs:=iy);rw[aj rfl,e1];by_cases h1:x∈iy
 .rw[ag h1];exact fK ⟨_,Z,kQ x q (by simp only[BA,hx];rw[aj h1]) _ _ c e rfl⟩
 .rw[ae h1];refine eZ ⟨_,Z,?_⟩;exact((kE p (by simp only[BA,hx];rw[ah h1])).mono c).raise
def isU (_:Unit)(v:V)(_:Hp):Prop:=v=.gS
def ada (wd:Nat)(bQ:bY)(ab:Bool)(p:Nat):Except Nat (Unit×Nat):=Mx.bd (Mx.tNo bQ ab wd p) λ_ q=>.ok ((),q)
def noE {wd:Nat}{e:Nat}(h:ada wd bQ ab p=.error e):Mx.tNo bQ ab wd p=.error e:=by
 unfold ada at h;cases q:Mx.tNo bQ ab wd p with
 |error y=>rw[q] at h;cases h;rfl
 |ok z=>rw[q] at h;cases h
def noO {wd:Nat}{u:Unit}(h:ada wd bQ ab p=.ok (u,q)):∃z,Mx.tNo bQ ab wd p=.ok (z,q):=by
 obtain⟨z,c,h1,h2⟩:=GS h;cases h2;exact⟨z,h1⟩
def ZE (t:fP):Sp:=λvs H Q E=>∃wd:Nat,(1<=wd/\wd<=4)/\p9 t [.int wd] (ada wd) isU vs H Q E
def pQ:T.jE.Ok P w mg lQ (tO P w t.bI) 6 (ZE t):=by
 refine lx.exP λwd hw=>?_;refine T.jE.xE λnd H vs Q E hr h=>?_;obtain⟨a,dx,r,bQ,ab,p,rfl,fa,kE,kQ⟩:=h;refine .i (aH (gi (Bu (cQ (pv 0))) (aH (cS (qO (pv 0) T.cq T.cW (c_ T) hr aY.passes (ak (pv 1) (ak aK (ak aK ax)))))) cT)) ?_;refine⟨_,Z,Z,fa.at_,T.cq,Z,Z,ab,Z,?_⟩;cases ab with
 |false=>exact fK (kQ () p rfl .gS H dE.refl fa.at_ rfl)
 |true=>
  refine eZ ⟨_,Z,a,_,_,Z,fa.at_,Z,_,Z,(wd,0,0),hw,a,dx,r,bQ,true,p,Z,fa,λe he=>kE e (BH he),λx q hx v H' c e hv=>?_⟩;exact kQ () q (Aj hx) .gS H' c e rfl
def Fd:T.vH.Ok P w mg lQ (tO P w t.bI) 6 (p9 t [] (λbQ ab p=>jX bQ ab 1 0 1 p) isI):=by
 refine T.vH.xE λnd H vs Q E hr h=>?_;obtain⟨a,dx,r,bQ,ab,p,rfl,fa,kE,kQ⟩:=h;refine .i (aH (bz (qO (pv 0) T.cq T.cW (c_ T) hr aY.passes (ak aK (ak aK (ak aK ax)))))) ?_;exact⟨_,Z,a,_,_,Z,fa.at_,Z,(1,0,1),by decide,a,dx,r,bQ,ab,p,Z,fa,kE,kQ⟩
def CV:T.tS.Ok P w mg lQ (tO P w t.bI) 6 (p9 t [] (λbQ ab p=>jX bQ ab 1 8 24 p) isI):=by
 refine T.tS.xE λnd H vs Q E hr h=>?_;obtain⟨a,dx,r,bQ,ab,p,rfl,fa,kE,kQ⟩:=h;refine .i (aH (bz (qO (pv 0) T.cq T.cW (c_ T) hr aY.passes (ak aK (ak aK (ak aK ax)))))) ?_;exact⟨_,Z,a,_,_,Z,fa.at_,Z,(1,8,24),by decide,a,dx,r,bQ,ab,p,Z,fa,kE,kQ⟩
def CW:T.tT.Ok P w mg lQ (tO P w t.bI) 6 (p9 t [] (λbQ ab p=>jX bQ ab 1 1 4 p) isI):=by
 refine T.tT.xE λnd H vs Q E hr h=>?_;obtain⟨a,dx,r,bQ,ab,p,rfl,fa,kE,kQ⟩:=h;refine .i (aH (bz (qO (pv 0) T.cq T.cW (c_ T) hr aY.passes (ak aK (ak aK (ak aK ax)))))) ?_;exact⟨_,Z,a,_,_,Z,fa.at_,Z,(1,1,4),by decide,a,dx,r,bQ,ab,p,Z,fa,kE,kQ⟩
def akA (t:fP):Sp:=λvs H Q E=>∃b:Int,True/\p9 t [.int b] (λbQ ab p=>jX bQ ab 1 0 (b-1) p) isI vs H Q E
def Fc:T.vG.Ok P w mg lQ (tO P w t.bI) 6 (akA t):=by
 refine lx.exP λb _=>?_;refine T.vG.xE λnd H vs Q E hr h=>?_;obtain⟨a,dx,r,bQ,ab,p,rfl,fa,kE,kQ⟩:=h;refine .i (aH (bz (qO (pv 0) T.cq T.cW (c_ T) hr aY.passes (ak aK (ak aK (ak (aX gw (pv 1) aK) ax)))))) ?_;exact⟨_,Z,a,_,_,Z,fa.at_,Z,_,Z,_,_,Z,Z,(1,0,b-1),⟨bq 1,by show 1<=4;decide⟩,a,dx,r,bQ,ab,p,Z,fa,kE,kQ⟩
def Az:T.rO.Ok P w mg lQ (tO P w t.bI) 6 (p9 t [] (λbQ ab p=>BA bQ ab 1 iy p) isI):=by
 refine T.rO.xE λnd H vs Q E hr h=>?_;obtain⟨a,dx,r,bQ,ab,p,rfl,fa,kE,kQ⟩:=h;refine .i (aH (bz (qO (pv 0) T.cq T.lU (xu T) hr aY.passes (ak aK (ak (t5 (v:=V.ref t.GK) rfl T.abM rfl) ax))))) ?_;exact⟨_,Z,a,_,_,Z,fa.at_,Z,1,by decide,a,dx,r,bQ,ab,p,Z,fa,kE,kQ⟩
def YN {u u':HO}(c:dE S H H1)(hS:∀a∈S,H1 a≠none)(nx:H1 x=none)(nd:H1 dx=none):dE S H (upd (upd H1 dx u) x u')/\nw H (upd (upd H1 dx u) x u') x=some u'/\aC H1 (upd (upd H1 dx u) x u'):=by
 have fr:∀y,H1 y=none->H y=none:=λy hy=>by
  cases e:H y with
  |none=>rfl
  |some o=>
   by_cases m:y∈S
   .exact absurd hy (hS y m)
   .rw[c y o e m] at hy;cases hy
 refine⟨(c.tD (fr dx nd)).tD (fr x nx),aT.mpr ⟨fr x nx,aq⟩,λb o e=>?_⟩;rw[aF (aI e nx),aF (aI e nd)];exact e
def ow {u u':HO}(c:dE [a] H H1)(ha:H1 a=some o)(nx:H1 x=none)(nd:H1 dx=none):dE [a] H (upd (upd H1 dx u) x u')/\nw H (upd (upd H1 dx u) x u') x=some u'/\upd (upd H1 dx u) x u' a=some o/\aC H1 (upd (upd H1 dx u) x u'):=by
 obtain⟨h1,h2,h3⟩:=YN (u:=u) (u':=u') c (λb hb=>by rw[show b=a from by simpa using hb,ha];simp) nx nd;exact⟨h1,h2,h3 _ _ ha,h3⟩
def YD {c:Prop}[Decidable c]{a b:Int}{σ:L2.St}{Q':VK}(h:Q' (.int (if c then a else b)) H):if decide c=true then tC (.int a) σ H Q' else tC (.int b) σ H Q':=by
 by_cases hc:c
 .rw[ag hc,aj rfl];rw[aj hc] at h;exact h
 .rw[ae hc,ah (by decide)];rw[ah hc] at h;exact h
def rh {wd:Nat}{hi:Int}{x:Int}(h:jX bQ ab wd lo hi p=.ok (x,q)):lo<=x/\x<=hi:=by
 unfold jX at h;cases h1:Bz bQ ab wd p with
 |error e=>rw[h1] at h;cases h
 |ok z=>
  obtain⟨n,q'⟩:=z;rw[h1] at h;simp only at h;split at h
  .cases h
  .rename_i hh;cases h;omega
inductive StA (t:fP)(s:eP)(v:V)(H:Hp):Prop|i a dx(_:v=.ref a)(_:H a=some (.ins t.y_ dx [("taps",.int s.taps),("gain",.int s.gain),("kind",.int (Mx.kindOf s)),("scale",.int s.scale)]))
def StA.same (h:StA t s v H)(m:aC H H'):StA t s v H':=by
 obtain⟨a,dx,e,h⟩:=h;exact⟨a,dx,e,m _ _ h⟩
inductive RwA (t:fP)(r:bL)(v:V)(H:Hp):Prop|i a dx sa vs(_:v=.ref a)(_:H a=some (.ins t.uY dx [("fixed",.int r.fixed),("stages",.ref sa)]))(_:H sa=some (.lst vs))(_:Paired (λs v=>StA t s v H) r.stages vs)
def RwA.same {s:bL}(h:RwA t s v H)(m:aC H H'):RwA t s v H':=by
 obtain⟨a,dx,sa,vs,e,h,h2,h3⟩:=h;exact⟨a,dx,sa,vs,e,m _ _ h,m _ _ h2,Paired.lR h3 λ_ _ z=>z.same m⟩
inductive WH (t:fP)(x:List bL×List Nat)(v:V)(H:Hp):Prop|i a dx ra ja vs(_:v=.ref a)(_:H a=some (.ins t.Lg dx [("row_ways",.ref ra),("joints",.ref ja)]))(_:H ra=some (.lst vs))(_:Paired (λs v=>RwA t s v H) x.1 vs)(_:H ja=some (.lst ((x.2.map λ(j:Nat)=>(j:Int)).map V.int)))
def WH.same {s:List bL×List Nat}(h:WH t s v H)(m:aC H H'):WH t s v H':=by
 obtain⟨a,dx,ra,ja,vs,e,h,h2,h3,h4⟩:=h;exact⟨a,dx,ra,ja,vs,e,m _ _ h,m _ _ h2,Paired.lR h3 λ_ _ z=>z.same m,m _ _ h4⟩
def nv {r:ke}(wd:Nat)(lo hi:Int)(hw:1<=wd/\wd<=4)(fa:FA t H a dx r bQ ab p)(hE:∀e,jX bQ ab wd lo hi p=.error e->Wv t E [a] H e)
  (hQ:∀x q,jX bQ ab wd lo hi p=.ok (x,q)->∀H',dE [a] H H'->FA t H' a dx r bQ ab q->Q (.int x) H'):aer t [.ref a,.int wd,.int lo,.int hi] H Q E:=
 ⟨(wd,lo,hi),hw,a,dx,r,bQ,ab,p,Z,fa,hE,λx q hx v H' c e hv=>by cases hv;exact hQ x q hx H' c (fa.chg c e)⟩
def KU:T.vI.Ok P w mg lQ (tO P w t.bI) 7 (p9 t [] rb (StA t)):=by
 refine T.vI.xE λnd H vs Q E hr h=>?_;obtain⟨a,dx,r,bQ,ab,p,rfl,fa,kE,kQ⟩:=h;refine .i (ao (fL 1 nd (qO (pv 0) T.cq T.cW (c_ T) hr aY.passes (ak aK (ak aK (ak (fF T.Po) ax)))))
   (ao (fL 2 nd (qO (pv 0) T.cq T.cW (c_ T) hr aY.passes (ak aK (ak aK (ak (fF T.Pl) ax)))))
   (ao (fL 3 nd (qO (pv 0) T.cq T.cW (c_ T) hr aY.passes (ak aK (ak aK (ak (qK (rf LL (pv 1) (fF T.D9)) (fF T.IE) aK) ax)))))
   (ao (fL 4 nd (qO (pv 0) T.cq T.cW (c_ T) hr aY.passes (ak aK (ak aK (ak (qK (rf lp (pv 3) (fF T.IE)) aK (fF T.M7)) ax)))))
   (ao (cS (qO (pv 0) T.cq T.jE (pQ T) hr aY.passes (ak aK ax)))
   (aH (bz (J7 T.abj T.X9 T.vB (KO T) hr bG (ak (pv 1) (ak (pv 2) (ak (pv 3) (ak (pv 4) ax)))))))))))) ?_
 refine⟨_,Z,a,_,_,Z,fa.at_,Z,nv 2 1 16 (by decide) fa (λe he=>kE e (BH he)) λx1 q1 J5 H1 c1 fa1=>?_⟩;have E1:rb bQ ab p=_:=Aj J5;refine⟨_,Z,a,_,_,Z,fa1.at_,Z,nv 2 1 1024 (by decide) fa1 (λe he=>(kE e (E1.trans (BH he))).mono c1) λx2 q2 Yz H2 c2 fa2=>?_⟩;have E2:=E1.trans (Aj Yz);clear E1;have d2:=c1.trans c2;refine⟨_,Z,a,_,_,Z,fa2.at_,Z,_,Z,_,_,Z,Z,_,Z,YD (nv 1 0 (if x1<=8 then 1 else 0) (by decide) fa2 (λe he=>(kE e (E2.trans (BH he))).mono d2) λx3 q3 hx3 H3 c3 fa3=>?_)⟩;have E3:=E2.trans (Aj hx3);clear E2;have d3:=d2.trans c3;refine⟨_,Z,a,_,_,Z,fa3.at_,Z,_,Z,Z,_,Z,?_⟩;have e3:decide (V.int x3=V.int 1)=decide (x3=1):=by by_cases h:x3=1<;>simp[h]
 rw[e3];refine YD (nv 1 0 (if x3=1 then 0 else 12) (by decide) fa3 (λe he=>(kE e (E3.trans (BH he))).mono d3) λx4 q4 hx4 H4 c4 fa4=>?_);have E4:=E3.trans (Aj hx4);clear E3;have d4:=d3.trans c4;refine⟨_,Z,a,_,_,Z,fa4.at_,Z,2,by decide,a,dx,r,bQ,ab,q4,Z,fa4,λe he=>(kE e (E4.trans (BH (noE he)))).mono d4,λx5 q5 hx5 v5 H5 c5 e5 hv5=>?_⟩;have d5:=d4.trans c5;have fa5:=fa4.chg c5 e5;refine⟨_,Z,_,Z,_,Z,_,Z,λx sU n1 n2 n3=>⟨x,sU,[.int x1,.int x2,.int x3,.int x4],Z,Z,aq,Z,?_⟩⟩;rw[eG];obtain⟨m1,m2,m3,m4⟩:=ow (u:=.own x) (u':=.ins t.y_ sU (IP ["taps","gain","kind","scale"] [.int x1,.int x2,.int x3,.int x4])) d5 fa5.at_ n1 n2;have r1:=rh J5;have r2:=rh Yz;have r3:=rh hx3;have r4:=rh hx4;have q3:x3=0\/x3=1:=by
  have:x3<=1:=by
   have:=r3.2;split at this<;>lia
  lia
 obtain⟨_,h5⟩:=noO hx5;refine kQ ⟨x1.toNat,x2.toNat,x3==1,x4.toNat⟩ q5 (E4.trans (Aj h5)) _ _ m1 m3 ⟨x,sU,Z,m2.trans ?_⟩
 .have k1:Mx.kindOf ⟨x1.toNat,x2.toNat,x3==1,x4.toNat⟩=x3:=by
   rcases q3 with h|h<;>subst h<;>rfl
  simp only[k1];rw[cX (by lia),cX (by lia),cX (by lia)];rfl
def Em {α:Type}(l:List α):Except Nat (List α×Nat)->Except Nat (List α×Nat)
 |.error e=>.error e
 |.ok (m,q)=>.ok (l++m,q)
def PY {α:Type}{f:Nat->Except Nat (α×Nat)}{l:List α}{k q1:Nat}{x:α}(h:f q=.ok (x,q1)):Em l (om f (k+1) q)=Em (l++[x]) (om f k q1):=by
 rw[show om f (k+1) q=_ from Aj h];cases om f k q1 with
 |error e=>rfl
 |ok z=>simp[Em,Mx.bd]
def Sa {α:Type}{f:Nat->Except Nat (α×Nat)}{l:List α}{k e:Nat}(h:f q=.error e):Em l (om f (k+1) q)=.error e:=by
 rw[show om f (k+1) q=_ from BH h];rfl
def JH {α:Type}{f:bY->Bool->Nat->Except Nat (α×Nat)}{is:α->V->Hp->Prop}(mono:∀x v H H',is x v H->aC H H'->is x v H'){σ:L2.St}{Qd:Hp->Prop}{r:ke}
  (hz:n<=bu) (fa:FA t H1 a dx r bQ ab p) (hD:H1 D=none) (hte:∀(i:Nat) H Q,(∃q,FA t H a dx r bQ ab q/\(∀e,f bQ ab q=.error e->Wv t E [a] H e)/\∀x q',f bQ ab q=.ok (x,q')->∀v H',dE [a] H H'->H' a=some (UJ t dx r ab q')->is x v (nw H H')->Q v H')->g (.int (lo+(i:Nat))) (wipe σ vs) H λmG H2=>wipe mG vs=wipe σ vs/\te mG H2 Q)
  (kE:∀e,om (f bQ ab) n p=.error e->Wv t E [a] H1 e)
  (kQ:∀l q,om (f bQ ab) n p=.ok (l,q)->∀vs H',dE [a] H1 H'->H' a=some (UJ t dx r ab q)->H' D=some (.lst vs)->Paired (λx v=>is x v (nw H1 H')) l vs->Qd H'):Wr (S9 lo n) g te vs σ H1 D Qd:=by
 have nDa:D≠a:=b8 fa.at_ hD;have nDr:D≠r:=b8 fa.lS hD;refine LG (λi dM H=>X2 λq l=>C4 (FA t H a dx r bQ ab q) (om (f bQ ab) n p=Em l (om (f bQ ab) (n-i) q)) (Paired (λx v=>is x v (nw (upd H1 D (.lst [])) H)) l dM) (dE [a] H1 H)) n hz ⟨p,[],⟨by rw[aF (eK nDa)];exact fa.at_,by rw[aF (eK nDr)];exact fa.lS,fa.EH⟩,?_,.nil,dE.refl.tD hD⟩ ?_ λi dM H Q hi hl eD ⟨q,l,fa',e,pr,c⟩ k=>?_
 .show _=Em [] (om (f bQ ab) n p);cases om (f bQ ab) n p with
  |error e=>rfl
  |ok z=>rfl
 .rintro dM H hl eD ⟨q,l,fa',e,pr,c⟩;rw[lP] at e;have e:om (f bQ ab) n p=.ok (l++[],q):=e;rw[fX] at e;exact kQ l q e dM H c fa'.at_ eD (Paired.lR pr λx v z=>mono _ _ _ _ z (qu λb hb=>(bO hb).2))
 .obtain⟨m,hm⟩:∃m,n-i=m+1:=⟨n-i-1,(jK (Hg hi)).symm⟩;rw[hm] at e;refine hte i H Q ⟨q,fa',λer he=>(kE er (e.trans (Sa he))).mono c,λx q' hx v H' c' ea hv=>?_⟩;have eD':=c'.one eD nDa;refine k v H' eD' ⟨q',l++[x],?_,?_,?_,?_⟩
  .have:=fa'.chg c' ea;exact⟨by rw[aF (eK nDa)];exact this.at_,by rw[aF (eK nDr)];exact this.lS,fa.EH⟩
  .rw[BX,hm,FE];exact e.trans (PY hx)
  .have hS:aC (nw (upd H1 D (.lst [])) H) (nw (upd H1 D (.lst [])) (upd H' D (.lst (dM++[v])))):=λb o eb=>by
    obtain⟨z1,z2⟩:=aT.mp eb;obtain⟨z3,z4⟩:=bO z1;refine aT.mpr ⟨z1,?_⟩;rw[aF z3];refine c'.one z2 ?_;rintro rfl;rw[fa.at_] at z4;cases z4
   refine(Paired.lR pr λx v z=>mono _ _ _ _ z hS).snoc (mono _ _ _ _ hv λb o eb=>?_);obtain⟨z1,z2⟩:=aT.mp eb;have z3:b≠D:=b8 eD z1;refine aT.mpr ⟨?_,by rw[aF z3];exact z2⟩;rw[aF z3];cases q1:H1 b with
   |none=>rfl
   |some o1=>
    by_cases hb:b=a
    .subst hb;rw[fa'.at_] at z1;cases z1
    .rw[c.one q1 hb] at z1;cases z1
  .exact(c.trans c').tD hD
def Gp:T.sD.Ok P w mg lQ (tO P w t.bI) 8 (p9 t [] Nu (RwA t)):=by
 refine T.sD.xE λnd H vs Q E hr h=>?_;obtain⟨a,dx,r,bQ,ab,p,rfl,fa,kE,kQ⟩:=h;refine .i (ao (fL 1 nd (qO (pv 0) T.cq T.cW (c_ T) hr aY.passes (ak aK (ak aK (ak aK ax)))))
   (ao (fL 2 nd (qO (pv 0) T.cq T.cW (c_ T) hr aY.passes (ak aK (ak aK (ak aK ax)))))
   (aH (bz (J7 T.Xa T.Vr T.ug (Ja T) hr bG (ak (pv 1) (ak (Zc (own:=[("i",3)]) aY rfl rfl rfl rfl nd (jA rfl T.iA (ak (pv 2) ax)) (xT (by kernel_rfl)) (λ_ _ _ _ _=>(mv 3 nd)) (λ_ _ _ _ _=>C2) (λ_ _ _ _ _ _ hB=>(kq T.vI (KU T) hr hB.passes (ak (pv 0) ax)))) ax))))))) ?_
 refine⟨_,Z,a,_,_,Z,fa.at_,Z,nv 1 0 3 (by decide) fa (λe he=>kE e (BH he)) λx1 q1 J5 H1 c1 fa1=>?_⟩;have E1:Nu bQ ab p=_:=Aj J5;refine⟨_,Z,a,_,_,Z,fa1.at_,Z,nv 1 0 2 (by decide) fa1 (λe he=>(kE e (E1.trans (BH he))).mono c1) λx2 q2 Yz H2 c2 fa2=>?_⟩;have E2:=E1.trans (Aj Yz);clear E1;have d2:=c1.trans c2;have r1:=rh J5;have r2:=rh Yz;refine⟨_,Z,_,Z,_,Z,by lia,by lia,λD hD=>JH (f:=rb) (is:=StA t) (λx v H H' h s=>h.same s) (by rw[aE];lia) fa2 hD (λi H Q ⟨q,f1,f2,f3⟩=>⟨Z,_,Z,a,dx,r,bQ,ab,q,Z,f1,f2,f3⟩) (λe he=>(kE e (E2.trans (BH he))).mono d2) λl q3 hl vs3 H3 c3 e3 eD pr=>?_⟩;intro x sU n1 n2 n3;refine⟨x,sU,[.int x1,.ref D],Z,Z,aq,Z,?_⟩;rw[eG];have d3:=d2.trans c3;obtain⟨m1,m2,m3,m4⟩:=ow (u:=.own x) (u':=.ins t.uY sU (IP ["fixed","stages"] [.int x1,.ref D])) d3 e3 n1 n2;have fr:∀y,H2 y=none->H y=none:=λy hy=>by
  cases e:H y with
  |none=>rfl
  |some o=>
   by_cases m:y=a
   .subst m;rw[fa2.at_] at hy;cases hy
   .rw[d2.one e m] at hy;cases hy
 refine kQ ⟨x1.toNat,l⟩ q3 (E2.trans (Aj hl)) _ _ m1 m3 ⟨x,sU,D,vs3,Z,m2.trans ?_,aT.mpr ⟨fr D hD,m4 _ _ eD⟩,Paired.lR pr λy v z=>z.same ((qu fr).trans (wz m4))⟩;rw[cX (by lia)];rfl
def akJ (t:fP):Sp:=λvs H Q E=>∃n:Nat,n<=4/\p9 t [.int n] (Y7 n) (WH t) vs H Q E
def isJ (x:Nat)(v:V)(_:Hp):Prop:=v=.int x
theorem paired_ints:∀{l:ig} {vs:b_} {H:Hp},Paired (λx v=>isJ x v H) l vs->vs=(l.map λ(j:Nat)=>(j:Int)).map V.int
 |_,_,_,.nil=>rfl
 |_,_,_,.cons h r=>by
  rw[paired_ints r,h];rfl
def Fe:T.vJ.Ok P w mg lQ (tO P w t.bI) 9 (akJ t):=by
 refine lx.exP λn hn=>?_;refine T.vJ.xE λnd H vs Q E hr h=>?_;obtain⟨a,dx,r,bQ,ab,p,rfl,fa,kE,kQ⟩:=h;refine .i (ao (Eo (i:=2) (own:=[("i",4)]) aY rfl rfl rfl rfl nd rfl rfl (NQ rfl rfl rfl rfl) (jA rfl T.iA (ak (pv 1) ax)) (xT (by kernel_rfl)) (λ_ _ _ _ _=>(mv 4 nd)) (λ_ _ _ _ _=>C2) (λ_ _ _ _ _ _ hB=>(kq T.sD (Gp T) hr hB.passes (ak (pv 0) ax))))
   (ao (Eo (i:=3) (own:=[("i",4)]) aY rfl rfl rfl rfl nd rfl rfl (NQ rfl rfl rfl rfl) (jA rfl T.iA (ak (aX jM (pv 1) aK) ax)) (xT (by kernel_rfl)) (λ_ _ _ _ _=>(mv 4 nd)) (λ_ _ _ _ _=>C2) (λ_ _ _ _ _ _ hB=>(qO (pv 0) T.cq T.cW (c_ T) hr hB.passes (ak aK (ak aK (ak aK ax))))))
   (aH (bz (J7 T.ail T.afp T.AM (PM T) hr bG (ak (pv 2) (ak (pv 3) ax))))))) ?_
 refine⟨_,Z,_,Z,by lia,by lia,λD hD=>JH (f:=Nu) (is:=RwA t) (λx v H H' h s=>h.same s) (by rw[aE];lia) fa hD (λi H Q ⟨q,f1,f2,f3⟩=>⟨Z,_,Z,a,dx,r,bQ,ab,q,Z,f1,f2,f3⟩) (λe he=>kE e (BH he)) λl q1 hl vs1 H1 c1 e1 eD pr=>?_⟩;have fa1:=fa.chg c1 e1;have E1:Y7 n bQ ab p=_:=Aj hl;have hnD:D≠a:=b8 fa.at_ hD;refine⟨_,Z,_,_,Z,Z,⟨by decide,by decide⟩,_,Z,by lia,by lia,λD2 hD2=>JH (f:=Mx.pJ) (is:=isJ) (λx v H H' h s=>h) (by rw[aE];lia) fa1 hD2 (λi H Q ⟨q,f1,f2,f3⟩=>⟨Z,_,Z,a,_,_,Z,f1.at_,Z,nv 1 0 3 (by decide) f1 (λe he=>f2 e (BH he)) λx q' hx H' c' f'=>f3 x.toNat q' (Aj hx) _ _ c' f'.at_ ?_⟩) (λe he=>(kE e ?_).mono c1) λl2 q2 RQ vs2 H2 c2 e2 eD2 pr2=>?_⟩
 .show V.int x=V.int (x.toNat:Int);rw[cX (rh hx).1]
 .rw[show((n:Int) / 2).toNat=n / 2 by lia] at he;exact E1.trans (BH he)
 have d2:=c1.trans c2;rw[show((n:Int) / 2).toNat=n / 2 by lia] at RQ;refine⟨_,Z,_,Z,λx sU n1 n2 n3=>⟨x,sU,[.ref D,.ref D2],Z,Z,aq,Z,?_⟩⟩;rw[eG];obtain⟨m1,m2,m3,m4⟩:=ow (u:=.own x) (u':=.ins t.Lg sU (IP ["row_ways","joints"] [.ref D,.ref D2])) d2 e2 n1 n2;have fr:∀y,H1 y=none->H y=none:=λy hy=>by
  cases e:H y with
  |none=>rfl
  |some o=>
   by_cases m:y=a
   .subst m;rw[e1] at hy;cases hy
   .rw[c1.one e m] at hy;cases hy
 have s2:aC (nw H H1) (nw H H2):=Ue c2 (by intro b hb;rw[show b=a from by simpa using hb,fa.at_];rfl);refine kQ (l,l2) q2 (E1.trans (Aj RQ)) _ _ m1 m3 ⟨x,sU,D,D2,vs1,Z,m2,aT.mpr ⟨hD,m4 _ _ (c2.one eD hnD)⟩,Paired.lR pr λy v z=>z.same (s2.trans (wz m4)),aT.mpr ⟨fr D2 hD2,m4 _ _ ?_⟩⟩;rw[eD2,paired_ints pr2]
theorem iS {α β:Type}{F:α->β->Prop}:∀{l:List α} {m:List β} {i:Nat} {v:β},Paired F l m->m[i]? =some v->∃x,l[i]? =some x/\F x v
 |_,_,_,_,.nil,e=>by simp at e
 |_,_,0,_,.cons h _,e=>by simp at e;subst e;exact⟨_,Z,h⟩
 |_,_,i+1,v,.cons _ r,e=>by
  obtain⟨x,h1,h2⟩:=iS (i:=i) (v:=v) r (by simpa using e);exact⟨x,by simpa using h1,h2⟩
theorem zm {α β:Type}{F:α->β->Prop}:∀{l:List α} {m:List β} {i:Nat} {x:α},Paired F l m->l[i]? =some x->∃v,m[i]? =some v/\F x v
 |_,_,_,_,.nil,e=>by simp at e
 |_,_,0,_,.cons h _,e=>by simp at e;subst e;exact⟨_,Z,h⟩
 |_,_,i+1,v,.cons _ r,e=>by
  obtain⟨x,h1,h2⟩:=zm (i:=i) (x:=v) r (by simpa using e);exact⟨x,by simpa using h1,h2⟩
theorem dR {α β:Type}{F:α->β->Prop}:∀{l:List α} {m:List β},Paired F l m->l.length=m.length
 |_,_,.nil=>rfl
 |_,_,.cons _ r=>by simp[dR r]
def L0 (h:H a=some (.lst xs)):tyV K "list" (.ref a) H:=.inl ⟨Z,_,i2 h⟩
def NL (H:Hp)(Q:VK)(l:bY):Prop:=∀H' p,aC H H'->H' p=some (.lst (l.map V.int))->H p=none->Q (.ref p) H'
inductive ZC (t:fP)(QJ:eP->bY)(vs:b_)(H:Hp)(Q:VK)(E:XK):Prop|i s v(_:vs=[v])(_:StA t s v H)(_:NL H Q (QJ s))
def qL (s:eP):bY:=zg s.taps 2++zg s.gain 2++[Mx.kindOf s,s.scale,0,0]
def jk (n:Int)(w:Nat):(zg n w).length=w:=by simp[zg]
def KR:T.oU.Ok P w mg lQ jh 1 (ZC t mQ):=by
 refine T.oU.ok λnd H vs Q E hr h=>?_;obtain⟨s,v,rfl,⟨a,dx,rfl,ha⟩,k⟩:=h;refine .i (aH (bz (eE (ak (cQ (pv 0)) (ak (cQ (pv 0)) (ak (cQ (pv 0)) (ak (cQ (pv 0)) ax))))))) ?_;refine⟨_,Z,Z,ha,T.iq,Z,Z,_,Z,Z,ha,T.iq,Z,Z,_,Z,Z,ha,T.iq,Z,Z,_,Z,Z,ha,T.iq,Z,Z,by rw[aE];simp,λp hp=>?_⟩;exact k _ p (aC.upd hp) aq hp
def Jh:T.ng.Ok P w mg lQ jh 2 (ZC t qL):=by
 refine T.ng.ok λnd H vs Q E hr h=>?_;obtain⟨s,v,rfl,⟨a,dx,rfl,ha⟩,k⟩:=h;refine .i (aH (bz (aX mP (aX mP (kq T.jG (kO T) hr bG (ak (cQ (pv 0)) (ak aK ax))) (kq T.jG (kO T) hr bG (ak (cQ (pv 0)) (ak aK ax)))) (eE (ak (cQ (pv 0)) (ak (cQ (pv 0)) (ak aK (ak aK ax)))))))) ?_;refine⟨_,Z,Z,ha,T.iq,Z,Z,(s.taps:Int),2,Z,by lia,by decide,λH1 p1 s1 e1 n1=>?_⟩;refine⟨_,Z,Z,s1 _ _ ha,T.iq,Z,Z,(s.gain:Int),2,Z,by lia,by decide,λH2 p2 s2 e2 n2=>?_⟩;have s12:=s1.trans s2;refine⟨p1,p2,_,_,Z,Z,s2 _ _ e1,e2,by rw[aE];simp[jk],λp3 n3=>?_⟩;have s3:=s12.trans (aC.upd (o:=.lst ((zg s.taps 2).map V.int++(zg s.gain 2).map V.int)) n3);refine⟨_,Z,Z,s3 _ _ ha,T.iq,Z,Z,_,Z,Z,s3 _ _ ha,T.iq,Z,Z,by rw[aE];simp,λp4 n4=>?_⟩;have h43:p3≠p4:=aI aq n4;refine⟨p3,p4,_,_,Z,Z,by rw[aF h43,aq],aq,by rw[aE];simp[jk],λp5 n5=>?_⟩;have n4':=(bO n4).2;have s5:aC H (upd (upd (upd H2 p3 (.lst ((zg s.taps 2).map V.int++(zg s.gain 2).map V.int))) p4 (.lst [.int (Mx.kindOf s),.int s.scale,.int 0,.int 0])) p5 (.lst ((zg s.taps 2).map V.int++(zg s.gain 2).map V.int++[.int (Mx.kindOf s),.int s.scale,.int 0,.int 0]))):=(s3.trans (aC.upd n4)).trans (aC.upd n5);refine k _ p5 s5 ?_ ?_
 .rw[aq];simp[qL]
 .exact(s3.trans (aC.upd n4)).free n5
def lx.deep {sp:Sp}{CX:NY}{k k':Nat}{f:ke}{ps:mX}(h:lx P w K mg lQ CX k f fd ps sp)(hk:k<=k'):lx P w K mg lQ CX k' f fd ps sp:=
 ⟨h.len,λA outer s H args us vs Q E hr he hb hv z=>h.run A outer s H args us vs Q E (hr.mono hk) he hb hv z⟩
def LV (QJ:eP->bY)(r:bL):bY:=(r.fixed:Int)::(r.stages.length:Int)::r.stages.flatMap QJ
def t9 (QJ:eP->bY)(x:List bL×List Nat):bY:=x.1.flatMap (LV QJ)++x.2.map λ(j:Nat)=>(j:Int)
def zb {α:Type}{f:α->bY}{l:List α}{x:α}(h:l[i]? =some x):(l.take (i+1)).flatMap f=(l.take i).flatMap f++f x:=by
 rw[Mx.take_snoc h,gN];simp
def abp (x:List bL×List Nat):Prop:=x.1.length<=4/\(∀r∈x.1,r.stages.length<=2)/\x.2.length<=2
def CY (T:Txt K mg t){f:ke}{QJ:eP->bY}(abU:∀s,(QJ s).length<=8)(F:lx P w K mg lQ jh 2 f fd ["stage"] (ZC t QJ))(hk:il K (.ref f)=true)(hb:Binds K fd ["stage"] []):
  T.sE.Ok P w mg lQ jh 3 (λvs H Q _=>∃x v,vs=[v,.ref f]/\WH t x v H/\abp x/\NL H Q (t9 QJ x)):=by
 refine T.sE.ok λnd H vs Q E hr h=>?_;obtain⟨⟨rows,js⟩,v,rfl,⟨a,dx,ra,ja,kT,rfl,ha,qo,pr,QF⟩,⟨z1,z2,z3⟩,k⟩:=h;refine .i (ao (fL 2 nd (eE ax))
   (ao (gY PassesOwn.never rfl (fB (cQ (pv 0))) (mv 3 nd)
    (ao (cS (pap (pv 2) (ak (cQ (pv 3)) ax)))
   (ao (cS (pap (pv 2) (ak (Bt T.jc (ak (cQ (pv 3)) ax)) ax)))
   (aH (gY PassesOwn.never rfl (fB (cQ (pv 3))) (mv 4 nd)
    (aH (cS (AD df dC dD mE (pv 2) (ak (P0 (pv 1) F (hr.mono (by decide)) hk hb .nil bG (ak (pv 4) ax)) ax)))))))))
   (aH (bz (aX mP (pv 2) (Jq (pv 0) rfl)))))) ?_
 refine⟨by rw[aE];simp,λL hL=>?_⟩;have haL:a≠L:=aI ha hL;refine⟨_,Z,Z,by rw[aF haL];exact ha,T.xG,Z,Z,ra,Z,⟨kT,i2 (by rw[aF (aI qo hL)];exact qo)⟩,?_⟩;refine qE (xs:=kT) (λi σ H'=>X2 λy1 y2=>C3 (σ=[some (.ref a),some (.ref f),some (.ref L),y1,y2]) (aC H H') (∃l:bY,l=(rows.take i).flatMap (LV QJ)/\l.length<=18*i/\H' L=some (.lst (l.map V.int)))) ⟨none,none,Z,aC.upd hL,[],Z,by simp,aq⟩ ?_ ?_ ?_
 .rintro i σ H' hi ⟨_,_,_,sm,_⟩;exact i2 (sm _ _ qo)
 .rintro i x σ H' hx ⟨y1,y2,rfl,sm,l,el,hl,eL⟩;obtain⟨lS,WR,⟨b,db,sa,qP,rfl,MY,BJ,ps⟩⟩:=iS pr hx;have hi4:i<4:=by have:=(aN.mp WR).1;lia
  have nbL:b≠L:=aI MY hL;have nsL:sa≠L:=aI BJ hL;refine⟨_,Z,L0 eL,_,Z,Z,sm _ _ MY,T.oM,Z,Z,L,_,_,Z,Z,eL,by rw[aE];simp;lia,?_⟩;refine⟨_,Z,L0 aq,_,Z,Z,by rw[aF nbL];exact sm _ _ MY,T.oM,Z,Z,sa,_,Z,i3 (by rw[aF nsL];exact sm _ _ BJ),L,_,_,Z,Z,aq,by rw[aE];simp;lia,?_⟩;have uA:lS.stages.length=qP.length:=dR ps;have h2:lS.stages.length<=2:=z2 lS (az WR);refine⟨_,Z,Z,by rw[aF nbL,aF nbL];exact sm _ _ MY,T.oM,Z,Z,sa,Z,⟨qP,i2 (by rw[aF nsL,aF nsL];exact sm _ _ BJ)⟩,?_⟩;refine qE (xs:=qP) (λj σ H2=>∃y3,C3 (σ=[some (.ref a),some (.ref f),some (.ref L),some (.ref b),y3]) (aC H H2) (∃m:bY,m=l++(lS.fixed:Int)::(lS.stages.length:Int)::(lS.stages.take j).flatMap QJ/\m.length<=18*i+2+8*j/\H2 L=some (.lst (m.map V.int)))) ⟨y2,Z,?_,l++[(lS.fixed:Int),(lS.stages.length:Int)],by simp,by simp;lia,by rw[aq];simp[uA]⟩ (λj σ H2 hj ⟨_,_,pL,_⟩=>i2 (pL _ _ BJ)) ?_ ?_
  .intro c o e;rw[aF (aI e hL),aF (aI e hL)];exact sm _ _ e
  .rintro j x σ H2 Yz ⟨y3,rfl,pL,m,em,hm,eL2⟩;obtain⟨st,ajy,sA⟩:=iS ps Yz;have hj2:j<2:=by have:=(aN.mp ajy).1;lia
   refine⟨_,Z,L0 eL2,_,Z,Z,_,Z,st,_,Z,sA.same pL,λH3 p3 s3 e3 n3=>?_⟩;have n3L:L≠p3:=aI eL2 n3;refine⟨L,p3,_,_,Z,Z,s3 _ _ eL2,e3,by have:=abU st;rw[aE];simp;lia,?_⟩;refine⟨some x,Z,λc o e=>by rw[aF (aI e hL)];exact s3 _ _ (pL _ _ e),m++QJ st,?_,?_,?_⟩
   .rw[em,zb ajy];simp
   .have:=abU st;simp;lia
   .rw[aq];simp
  .rintro σ H2 ⟨y3,rfl,pL,m,em,hm,eL2⟩;have e2:lS.stages.take qP.length=lS.stages:=cn (by lia);rw[e2] at em;refine⟨_,_,Z,pL,m,?_,by lia,eL2⟩;rw[em,el,zb WR];rfl
 .rintro σ H' ⟨y1,y2,rfl,sm,l,el,hl,eL⟩;have e2:rows.take kT.length=rows:=cn (by have:=dR pr;simp at this;lia);rw[e2] at el;have hl4:kT.length<=4:=by have:=dR pr;simp at this z1;lia
  refine⟨_,Z,_,Z,Z,sm _ _ ha,T.xG,Z,Z,L,ja,_,_,Z,Z,eL,sm _ _ QF,by rw[aE];simp at z3|-;lia,λp hp=>?_⟩;refine k _ p (sm.trans (aC.upd hp)) ?_ (sm.free hp);rw[aq,t9,el];simp
def ajQ (b:Bool):eP->bY:=if b=true then qL else mQ
def agD (t:fP):Sp:=λvs H Q _=>∃b:Bool,True/\∃x v,vs=[v,.ref (if b=true then t.uz else t.wc)]/\WH t x v H/\abp x/\NL H Q (t9 (ajQ b) x)
def Ff:T.sE.Ok P w mg lQ jh 3 (agD t):=by
 refine lx.exP λb _=>?_;cases b with
 |true=>exact CY (QJ:=qL) T (λs=>by simp[qL,jk]) (Jh T) T.ng.F.kp T.ng.b
 |false=>exact CY (QJ:=mQ) T (λs=>by simp[mQ]) (lx.deep (KR T) (by decide)) T.oU.F.kp T.oU.b
inductive ZN (t:fP)(QJ:eP->bY)(vs:b_)(H:Hp)(Q:VK)(E:XK):Prop|i x v(_:vs=[v])(_:WH t x v H)(_:abp x)(_:NL H Q (t9 QJ x))
def Fg:T.vK.Ok P w mg lQ jh 4 (ZN t mQ):=by
 refine T.vK.ok λnd H vs Q E hr h=>?_;obtain⟨x,v,rfl,h1,h2,k⟩:=h;refine .i (aH (bz (kq T.sE (Ff T) hr bG (ak (pv 0) (ak (t5 (v:=V.ref t.wc) rfl T.oU.g rfl) ax))))) ?_;exact⟨_,Z,false,trivial,x,v,Z,h1,h2,k⟩
def Nr:T.xM.Ok P w mg lQ jh 4 (ZN t qL):=by
 refine T.xM.ok λnd H vs Q E hr h=>?_;obtain⟨x,v,rfl,h1,h2,k⟩:=h;refine .i (aH (bz (kq T.sE (Ff T) hr bG (ak (pv 0) (ak (t5 (v:=V.ref t.uz) rfl T.ng.g rfl) ax))))) ?_;exact⟨_,Z,true,trivial,x,v,Z,h1,h2,k⟩
def XF (xs:b_)(k:Nat):qZ xs none (some (k:Int))=xs.take k:=by
 unfold qZ;rw[HT.JA,HT.zw,iD,ur];by_cases h:k<=xs.length
 .rw[eQ h]
 .rw[k_ (by lia),gj,cn (by lia)]
def XC (xs:b_)(k:Nat):qZ xs (some (k:Int)) none=xs.drop k:=by
 unfold qZ;rw[HT.JA,HT.zw];by_cases h:k<=xs.length
 .rw[eQ h,cn (by simp)]
 .rw[k_ (by lia),gJ (bq _),gJ (by lia)];simp
def abB (xs:b_)(k j:Nat)(hk:k<=xs.length)(hj:j<=xs.length):qZ xs (some (k:Int)) (some (j:Int))=(xs.drop k).take (j-k):=by
 unfold qZ;rw[HT.zw,HT.zw,eQ hk,eQ hj]
def bx (a b:Nat):Builtin.bitXor (a:Int) (b:Int)=((fE a b:Nat):Int):=by
 rw[Bits.U7 (by lia) (by lia)];rfl
inductive acI (K:au)(vs:b_)(H:Hp)(Q:VK)(E:XK):Prop|i(a:ke)(l:ig)(_:vs=[.ref a])(_:nN K H a ((l.map λ(b:Nat)=>(b:Int)).map V.int))(_:∀b∈l,b<256)(_:Q (.int (pO l)) H)
def Kg (n c:Nat):ij (n+1) c=Mx.crcStep (ij n c):=Ak n c
def E_:T.vC.Ok P w mg lQ jh 1 (acI K):=by
 refine T.vC.ok λnd H vs Q E hr h=>?_;obtain⟨a,l,rfl,hl,hb,k⟩:=h;refine .i (ao (fL 1 nd (fF T.ID))
   (ao (gY PassesOwn.never rfl (fB (pv 0)) (mv 2 nd)
    (ao (fL 1 nd (aX R_ (pv 1) (pv 2)))
   (aH (gY PassesOwn.never rfl (jA rfl T.iA (ak aK ax)) (mv 3 nd)
    (aH (fL 1 nd (aX R_ (aX sZ (pv 1) aK) (qK (Zj (aX Y4 (pv 1) aK) (λ_=>rfl)) (fF T.M9) aK))))))))
   (aH (bz (aX R_ (pv 1) (fF T.ID)))))) ?_
 refine⟨_,Z,a,Z,⟨_,hl⟩,qE (xs:=(l.map λ(b:Nat)=>(b:Int)).map V.int) (λi σ H'=>H'=H/\∃y1 y2,σ=[some (.ref a),some (.int (((l.take i).foldl (λc b=>ij 8 (fE c b)) 4294967295:Nat):Int)),y1,y2]) ⟨Z,none,none,Z⟩ (λi σ H' _ ⟨e,_⟩=>by rw[e];exact hl) ?_ ?_⟩
 .rintro i x σ H' hx ⟨e,y1,y2,eσ⟩;subst e eσ;rw[aw,aw] at hx;cases BJ:l[i]? with
  |none=>rw[BJ] at hx;cases hx
  |some b=>
   rw[BJ] at hx;cases hx;refine⟨_,Z,_,Z,_,_,Z,Z,?_⟩;refine⟨_,Z,by decide,by decide,?_⟩;refine si (λj σ H2=>H2=_/\∃y2,σ=[some (.ref a),some (.int ((ij j (fE ((l.take i).foldl (λc b=>ij 8 (fE c b)) 4294967295) b):Nat):Int)),some (.int b),y2]) ⟨Z,y2,congrArg (λz=>[some (V.ref a),some (V.int z),some (V.int b),y2]) (bx _ _)⟩ ?_ ?_
   .rintro j σ H2 hj ⟨e,y3,eσ⟩;subst e eσ;obtain⟨c,hc⟩:∃c,c=ij j (fE ((l.take i).foldl (λc b=>ij 8 (fE c b)) 4294967295) b):=⟨_,Z⟩;rw[Kg,<-hc];have e1:Builtin.bitAnd (c:Int) 1=((c%2:Nat):Int):=by
     have:=Bits.EG (x:=(c:Int)) 1 (by lia);exact this
    have e2:((Builtin.bitAnd (c:Int) 1)!=0)=decide (c%2=1):=by
     rw[e1];rcases gO c with h|h<;>rw[h]<;>rfl
    refine⟨_,Z,_,_,Z,Z,(by show(0:Int)<=1;decide),_,Z,_,_,Z,Z,decide (c%2=1),e2.symm,YD ⟨_,_,Z,Z,Z,some (.int (0+(j:Int))),?_⟩⟩;have e3:Builtin.bitXor ((c:Int) / 2^(1:Int).toNat) (if c%2=1 then 2197175160 else 0)=((Mx.crcStep c:Nat):Int):=by
     have:=bx (c / 2) (if c%2=1 then abk else 0);unfold Mx.crcStep;rw[<-this];congr 1;split<;>rfl
    exact congrArg (λz=>[some (V.ref a),some (V.int z),some (V.int b),some (V.int (0+(j:Int)))]) e3
   .rintro σ H2 ⟨e,y3,eσ⟩;subst e eσ;refine⟨Z,some (.int b),y3,?_⟩;rw[Mx.take_snoc BJ,dB];rfl
 .rintro σ H' ⟨e,y1,y2,eσ⟩;subst e eσ;refine⟨_,Z,_,_,Z,Z,?_⟩;have e1:((l.map λ(b:Nat)=>(b:Int)).map V.int).length=l.length:=by simp
  have e2:=bx (l.foldl (λc b=>ij 8 (fE c b)) 4294967295) 4294967295;rw[e1,gj];unfold pO at k;rw[<-e2] at k;exact k
def OC (bQ:bY)(c:Int):bY:=bQ.take 12++zg c 4++bQ.drop 16
inductive agN (vs:b_)(H:Hp)(Q:VK)(E:XK):Prop|i(a:ke)(bQ:bY)(c:Int)(_:vs=[.ref a,.int c])(_:H a=some (.lst (bQ.map V.int)))(_:0<=c)(_:bQ.length<=1000000)(_:NL H Q (OC bQ c))
def AA:T.rP.Ok P w mg lQ jh 2 agN:=by
 refine T.rP.ok λnd H vs Q E hr h=>?_;obtain⟨a,bQ,c,rfl,ha,hc,hz,k⟩:=h;refine .i (aH (bz (aX mP (aX mP (psl (pv 0) GX (qv (fF T.uB))) (kq T.jG (kO T) hr bG (ak (pv 1) (ak (fF T.qr) ax)))) (psl (pv 0) (qv (aX dz (fF T.uB) (fF T.qr))) GX)))) ?_;refine⟨_,Z,_,Z,a,_,Z,i2 ha,λp1 n1=>?_⟩;have s1:aC H (upd H p1 (.lst (qZ (bQ.map V.int) none (some 12)))):=aC.upd n1;refine⟨_,Z,c,4,Z,hc,by decide,λH2 p2 s2 e2 n2=>?_⟩;have s12:=s1.trans s2;have e1:H2 p1=some (.lst ((bQ.take 12).map V.int)):=by
  rw[s2 _ _ aq,show(12:Int)=((12:Nat):Int) from rfl,XF,kh]
 refine⟨p1,p2,_,_,Z,Z,e1,e2,by rw[aE];simp[jk];exact bt (fw 12 _) (by decide),λp3 n3=>?_⟩;have s3:=s12.trans (aC.upd (o:=.lst ((bQ.take 12).map V.int++(zg c 4).map V.int)) n3);refine⟨_,Z,_,_,Z,Z,_,Z,a,_,Z,i2 (s3 _ _ ha),λp4 n4=>?_⟩;have h34:p3≠p4:=aI aq n4;have e4:qZ (bQ.map V.int) (some (12+4)) none=(bQ.drop 16).map V.int:=by
  rw[show(12+4:Int)=((16:Nat):Int) from rfl,XC,lY]
 rw[e4];refine⟨p3,p4,_,_,Z,Z,by rw[aF h34,aq],aq,by rw[aE];simp[jk];exact bt (Og (BW (fw 12 _) 4) (bt (lO ..) hz)) (by decide),λp5 n5=>?_⟩;have s4:=s3.trans (aC.upd (o:=.lst ((bQ.drop 16).map V.int)) n4);refine k _ p5 (s4.trans (aC.upd n5)) ?_ (s4.free n5);rw[aq,OC];simp
abbrev nI (l:ig):bY:=l.map λ(b:Nat)=>(b:Int)
inductive ZM (vs:b_)(H:Hp)(Q:VK)(E:XK):Prop|i(a:ke)(l:ig)(_:vs=[.ref a])(_:H a=some (.lst ((nI l).map V.int)))(_:∀b∈l,b<256)(_:l.length<=1000000)(_:NL H Q (OC (nI l) (pO l)))
def VL:T.G6.Ok P w mg lQ jh 3 ZM:=by
 refine T.G6.ok λnd H vs Q E hr h=>?_;obtain⟨a,l,rfl,ha,hb,hz,k⟩:=h;refine .i (aH (bz (kq T.rP (AA T) hr bG (ak (pv 0) (ak (kq T.vC (E_ T) hr bG (ak (pv 0) ax)) ax))))) ?_;exact⟨_,Z,_,Z,a,l,Z,i2 ha,hb,a,nI l,_,Z,ha,by lia,by simpa using hz,k⟩
inductive HdA (t:fP)(h:rC)(v:V)(H:Hp):Prop|i a dx wv(_:v=.ref a)(_:H a=some (.ins t.uw dx [("key",.int h.key),("rows",.int h.rows),("bits",.int h.bits),("cut",.int h.cut),("lanes",.int h.lanes),("times",.int h.times),("check",.int h.check),("way",wv),("end",.int h.fin)]))(_:match h.way with|none=>wv=.gS|some x=>WH t x wv H)
theorem HdA.same {h:rC}(a:HdA t h v H)(m:aC H H'):HdA t h v H':=by
 obtain⟨a,dx,wv,e,h1,h2⟩:=a;refine⟨a,dx,wv,e,m _ _ h1,?_⟩;cases hw:h.way with
 |none=>rw[hw] at h2;exact h2
 |some x=>rw[hw] at h2;exact WH.same h2 m
inductive agz (t:fP)(vs:b_)(H:Hp)(Q:VK)(E:XK):Prop|i a dx r bQ(_:vs=[.ref a])(_:FA t H a dx r bQ true 0)(_:∀e,w6 bQ=.error e->Wv t E [a] H e)(_:∀h,w6 bQ=.ok h->∀v H',dE [a] H H'->HdA t h v (nw H H')->Q v H')
def Nq:T.xK.Ok P w mg lQ (tO P w t.bI) 10 (agz t):=by
 refine T.xK.xE λnd H vs Q E hr h=>?_;obtain⟨a,dx,r,bQ,rfl,fa,kE,kQ⟩:=h;refine .i (ao (cS (qO (pv 0) T.cq T.cW (c_ T) hr aY.passes (ak aK (ak (fF T.wq) (ak (fF T.wq) ax)))))
   (ao (cS (qO (pv 0) T.cq T.cW (c_ T) hr aY.passes (ak aK (ak (fF T.uC) (ak (fF T.uC) ax)))))
   (ao (fL 1 nd (kq T.vH (Fd T) hr aY.passes (ak (pv 0) ax)))
   (ao (fL 2 nd (kq T.tT (CW T) hr aY.passes (ak (pv 0) ax)))
   (ao (fL 3 nd (kq T.tS (CV T) hr aY.passes (ak (pv 0) ax)))
   (ao (fL 4 nd (kq T.vG (Fc T) hr aY.passes (ak (pv 0) (ak (pv 3) ax))))
   (ao (fL 5 nd (kq T.rO (Az T) hr aY.passes (ak (pv 0) ax)))
   (ao (cS (qO (pv 0) T.cq T.jE (pQ T) hr aY.passes (ak aK ax)))
   (ao (fL 6 nd (qO (pv 0) T.cq T.cW (c_ T) hr aY.passes (ak aK (ak aK (ak (fF T.CG) ax)))))
   (ao (fL 7 nd (J7 T.aeT T.abK T.xH (Nj T) hr bG (ak (pv 1) (ak (pv 2) (ak (pv 3) (ak (pv 4) (ak (pv 5) (ak (pv 6) ax))))))))
   (ao (ki (pv 7) (qO (pv 0) T.cq T.ir (oi T) hr aY.passes (ak (fF T.qr) ax)))
   (ao (gi (rf lp (pv 1) aK) (aH (ki (pv 7) (kq T.vJ (Fe T) hr aY.passes (ak (pv 0) (ak (pv 2) ax))))) cT)
   (ao (ki (pv 7) (cQ (pv 0)))
   (aH (bz (pv 7)))))))))))))))) ?_
 refine⟨_,Z,a,_,_,Z,fa.at_,Z,nv 1 76 76 (by decide) fa (λe he=>kE e (BH he)) λx1 q1 J5 H1 c1 fa1=>?_⟩;have E1:w6 bQ=_:=Aj J5;refine⟨_,Z,a,_,_,Z,fa1.at_,Z,nv 1 83 83 (by decide) fa1 (λe he=>(kE e (E1.trans (BH he))).mono c1) λx2 q2 Yz H2 c2 fa2=>?_⟩;have E2:=E1.trans (Aj Yz);clear E1;have d2:=c1.trans c2;refine⟨_,Z,a,dx,r,bQ,true,q2,Z,fa2,λe he=>(kE e (E2.trans (BH he))).mono d2,λx3 q3 hx3 v3 H3 c3 e3 hv3=>?_⟩;cases hv3;have fa3:=fa2.chg c3 e3;have E3:=E2.trans (Aj hx3);clear E2;have d3:=d2.trans c3;refine⟨_,Z,a,dx,r,bQ,true,q3,Z,fa3,λe he=>(kE e (E3.trans (BH he))).mono d3,λx4 q4 hx4 v4 H4 c4 e4 hv4=>?_⟩;cases hv4;have fa4:=fa3.chg c4 e4;have E4:=E3.trans (Aj hx4);clear E3;have d4:=d3.trans c4;refine⟨_,Z,a,dx,r,bQ,true,q4,Z,fa4,λe he=>(kE e (E4.trans (BH he))).mono d4,λx5 q5 hx5 v5 H5 c5 e5 hv5=>?_⟩;cases hv5;have fa5:=fa4.chg c5 e5;have E5:=E4.trans (Aj hx5);clear E4;have d5:=d4.trans c5;refine⟨_,Z,_,Z,x5,trivial,a,dx,r,bQ,true,q5,Z,fa5,λe he=>(kE e (E5.trans (BH he))).mono d5,λx6 q6 hx6 v6 H6 c6 e6 hv6=>?_⟩;cases hv6;have fa6:=fa5.chg c6 e6;have E6:=E5.trans (Aj hx6);clear E5;have d6:=d5.trans c6;refine⟨_,Z,a,dx,r,bQ,true,q6,Z,fa6,λe he=>(kE e (E6.trans (BH he))).mono d6,λx7 q7 hx7 v7 H7 c7 e7 hv7=>?_⟩;cases hv7;have fa7:=fa6.chg c7 e7;have E7:=E6.trans (Aj hx7);clear E6;have d7:=d6.trans c7;refine⟨_,Z,a,_,_,Z,fa7.at_,Z,1,by decide,a,dx,r,bQ,true,q7,Z,fa7,λe he=>(kE e (E7.trans (BH (noE he)))).mono d7,λx8 q8 hx8 v8 H8 c8 e8 hv8=>?_⟩;have fa8:=fa7.chg c8 e8;have d8:=d7.trans c8;obtain⟨_,h5⟩:=noO hx8;have E8:=E7.trans (Aj h5);clear E7 h5;refine⟨_,Z,a,_,_,Z,fa8.at_,Z,nv 4 1 64 (by decide) fa8 (λe he=>(kE e (E8.trans (BH he))).mono d8) λx9 q9 hx9 H9 c9 fa9=>?_⟩;have E9:=E8.trans (Aj hx9);clear E8;have d9:=d8.trans c9;refine⟨_,Z,_,Z,_,Z,_,Z,_,Z,_,Z,λx sU n1 n2 n3=>⟨x,sU,[.int x3,.int x4,.int x5,.int x6,.int x7,.int x9],Z,Z,aq,Z,?_⟩⟩;rw[eG];have nHx:H x=none:=by
  cases e:H x with
  |none=>rfl
  |some o=>
   by_cases m:x=a
   .subst m;rw[fa9.at_] at n1;cases n1
   .rw[d9.one e m] at n1;cases n1
 obtain⟨m1,m2,m3,m4⟩:=ow (u:=.own x) (u':=.ins t.uw sU (IP ["key","rows","bits","cut","lanes","times","check","way","end"] ([.int x3,.int x4,.int x5,.int x6,.int x7,.int x9]++[.int 0,.gS,.int 0]))) d9 fa9.at_ n1 n2;have nxa:x≠a:=b8 fa9.at_ n1;have nxr:x≠r:=b8 fa9.lS n1;have afj:FA t (upd (upd H9 sU (.own x)) x (.ins t.uw sU (IP ["key","rows","bits","cut","lanes","times","check","way","end"] ([.int x3,.int x4,.int x5,.int x6,.int x7,.int x9]++[.int 0,.gS,.int 0])))) a dx r bQ true q9:=⟨m3,m4 _ _ fa9.lS,fa.EH⟩;refine⟨_,Z,a,_,_,Z,afj.at_,Z,4,by decide,a,dx,r,bQ,true,q9,Z,afj,λe he=>(kE e (E9.trans (BH he))).mono m1,λxa qa hxa va Ha ca ea hva=>?_⟩;cases hva;have E0:=E9.trans (Aj hxa);clear E9;have faa:=afj.chg ca ea;have aoQ:=ca.one (aq (H:=upd H9 sU (.own x)) (a:=x)) nxa;refine⟨_,Z,Z,aoQ,T.dS,Z,Z,tI (IP ["key","rows","bits","cut","lanes","times","check","way","end"] ([V.int x3,.int x4,.int x5,.int x6,.int x7,.int x9]++[V.int xa,.gS,.int 0])),?_⟩;have db:=(m1.trans ca).tD (a:=x) (o:=.ins t.uw sU (IP ["key","rows","bits","cut","lanes","times","check","way","end"] ([.int x3,.int x4,.int x5,.int x6,.int x7,.int x9]++[V.int xa,.gS,.int 0]))) nHx;have fab:FA t (upd Ha x (.ins t.uw sU (IP ["key","rows","bits","cut","lanes","times","check","way","end"] ([.int x3,.int x4,.int x5,.int x6,.int x7,.int x9]++[V.int xa,.gS,.int 0])))) a dx r bQ true qa:=⟨by rw[aF (eK nxa)];exact faa.at_,by rw[aF (eK nxr)];exact faa.lS,fa.EH⟩;have r3:=rh hx3;have r4:=rh hx4;refine⟨_,Z,Z,_,Z,?_⟩;have e3:decide (V.int x3=V.int 1)=decide (x3=1):=by by_cases h:x3=1<;>simp[h]
 rw[e3];by_cases hk:x3=1
 .rw[ag hk];have hw:=E0.trans (aj hk);clear E0;have e4:V.int x4=V.int ((x4.toNat:Nat):Int):=by rw[cX (by lia)]
  refine eZ ⟨_,Z,_,Z,x4.toNat,by lia,a,dx,r,bQ,true,qa,by rw[<-e4];rfl,fab,λe he=>(kE e (hw.trans (BH he))).mono db,λy qc hy wv Hc cc ec hwv=>?_⟩;have aoR:=cc.one (aq (H:=Ha) (a:=x)) nxa;refine⟨_,Z,Z,aoR,T.dS,Z,Z,Z,?_⟩;refine⟨_,Z,Z,by rw[aF (eK nxa)];exact ec,T.cq,Z,Z,_,Z,Z,aq,T.dS,Z,Z,Z,_,Z,?_⟩;rw[eG];refine kQ _ (hw.trans (Aj hy)) _ _ ((db.trans cc).tD nHx) ⟨x,sU,wv,Z,aT.mpr ⟨nHx,aq⟩,?_⟩;refine WH.same hwv λb o eb=>?_;obtain⟨z1,z2⟩:=aT.mp eb;have z3:=bO z1;refine aT.mpr ⟨?_,by rw[aF z3.1];exact z2⟩;cases q1:H b with
  |none=>rfl
  |some o1=>
   by_cases hb:b=a
   .subst hb;rw[fab.at_] at z1;cases z1
   .rw[db.one q1 hb] at z1;cases z1
 .rw[ae hk];have hw:=E0.trans (ah hk);clear E0;refine fK ⟨_,Z,Z,fab.at_,T.cq,Z,Z,_,Z,Z,aq,T.dS,Z,Z,Z,_,Z,?_⟩;rw[eG];exact kQ _ hw _ _ ((m1.trans ca).tD nHx) ⟨x,sU,.gS,Z,aT.mpr ⟨nHx,aq⟩,Z⟩
inductive ZA (t:fP)(vs:b_)(H:Hp)(Q:VK)(E:XK):Prop|i(b:ke)(l:ig)(_:vs=[.ref b])(_:H b=some (.lst ((nI l).map V.int)))(_:∀x∈l,x<256)(_:l.length<=4000)(_:(∀e,w6 (nI l)=.error e->GF t E [] H 1 e)/\∀h,w6 (nI l)=.ok h->(((pO (l.take 12++[0,0,0,0]++l.drop 16):Nat):Int)≠h.check->GF t E [] H 2 12)/\(((pO (l.take 12++[0,0,0,0]++l.drop 16):Nat):Int)=h.check->∀v H',aC H H'->HdA t h v (nw H H')->Q v H'))
def U_ (l:ig):OC (nI l) 0=nI (l.take 12++[0,0,0,0]++l.drop 16):=by
 have e:zg 0 4=[0,0,0,0]:=by decide
 unfold OC;rw[e];simp[nI,kh,lY]
def Jf:T.yW.Ok P w mg lQ (tO P w t.bI) 11 (ZA t):=by
 refine T.yW.xE λnd H vs Q E hr h=>?_;obtain⟨b,l,rfl,hb,hl,hz,kE,kQ⟩:=h;obtain⟨xk,hxk⟩:∃xk:XK,xk=λC d H1=>C=.ref t.bI/\∃dd fs e,d=some dd/\w6 (nI l)=.error e/\H1 dd=some (.ext (GJ dd fs))/\fs.lookup ("place":Str)=some (V.int (e:Nat))/\aC H H1:=⟨_,Z⟩;refine .i (ao (Sg (Mf:=t.bI) (Ex:=xk) rfl rfl rfl (λ_ _ hB=>(aH (fL 1 nd (kq T.xK (Nq T) hr hB.passes (ak (J7 T.Of T.Lu T.p_ (yD T) hr bG (ak (pv 0) (ak Za ax))) ax)))))
   (P7 (i:=2) T.sP rfl T.sj nd rfl rfl (λok e=>(aH (Sf (ns:=["kind","place"]) (Sl aY ok rfl rfl rfl rfl) rfl T.diff.2.2.1 T.hZ (ia T) ((hr.mono (by decide)).h.mark _) T.dq.b rfl rfl T.gk (ak aK (ak (Nv (Mf:=t.bI) (pv 2) rfl) ax)) (by decide))))
   Sd))
   (ao (gi (rf AB (kq T.vC (E_ T) hr bG (ak (kq T.rP (AA T) hr bG (ak (pv 0) (ak aK ax))) ax)) (cQ (pv 1))) (aH (jB (ns:=["kind","place"]) aY rfl T.hZ (ia T) (hr.mono (by decide)).h T.dq.b rfl rfl T.gk (ak aK (ak (fF T.uB) ax)) (by decide))) cT)
   (aH (bz (pv 1))))) ?_
 refine⟨?_,λe C d H1 nE hx=>?_⟩
 .refine⟨_,Z,λa da n1 n2 n3=>⟨a,da,[.ref b,.bl true],Z,Z,aq,Z,?_⟩⟩;rw[eG];obtain⟨s1,s2⟩:=(⟨gA n1 n2,trivial⟩:aC H (upd (upd H da (.own a)) a (.ins t.lh da (IP ["row","as_bytes","place"] ([V.ref b,V.bl true]++[V.int 0]))))/\True);have nba:b≠a:=aI hb n1;refine⟨a,da,b,nI l,Z,⟨aq,s1 _ _ hb,λ_ x hx=>?_⟩,λe he=>?_,λh hh v H' c hv=>?_⟩
  .obtain⟨y,hy,rfl⟩:=bj.mp hx;have:=hl y hy;lia
  .intro H' dd fs h1 h2 h3;rw[hxk];exact⟨Z,dd,fs,e,Z,he,h1,h2,dE.back s1 h3 (by intro x hx;rw[show x=a from by simpa using hx];exact n1)⟩
  .have sm:aC H H':=dE.back s1 c (by intro x hx;rw[show x=a from by simpa using hx];exact n1);obtain⟨k1,k2⟩:=kQ h hh;obtain⟨ha,dh,wv,rfl,hh1,hh2⟩:=id hv;have hv':HdA t h (.ref ha) (nw H H'):=HdA.same hv (o_ s1);refine⟨_,Z,b,nI l,0,Z,sm _ _ hb,by decide,by simp;lia,λH2 p2 s2 e2 n2=>?_⟩;rw[U_] at e2;refine⟨p2,_,Z,i2 e2,λx hx=>?_,_,Z,Z,s2 _ _ (iK _ _ hh1),T.dS,Z,Z,Z,_,Z,?_⟩
   .simp only[de] at hx;rcases hx with(hx|hx)|hx
    .exact hl x (fb hx)
    .have:x=0:=by simpa using hx
     lia
    .exact hl x (j6 hx)
   .have e3:(!decide (V.int ((pO (l.take 12++[0,0,0,0]++l.drop 16):Nat):Int)=V.int h.check))=decide (((pO (l.take 12++[0,0,0,0]++l.drop 16):Nat):Int)≠h.check):=by
     by_cases hq:((pO (l.take 12++[0,0,0,0]++l.drop 16):Nat):Int)=h.check
     .rw[hq];simp
     .simp[hq]
    rw[e3];by_cases hq:((pO (l.take 12++[0,0,0,0]++l.drop 16):Nat):Int)=h.check
    .rw[ae (by simpa using hq)];exact fK ⟨_,Z,k2 hq _ _ (sm.trans s2) (HdA.same hv' (wz s2))⟩
    .rw[ag hq];exact eZ ((k1 hq).mono (sm.trans s2).chg).raise
 .rw[hxk] at hx;obtain⟨rfl,dd,fs,er,rfl,he,hd,hf,sm⟩:=hx;refine⟨_,_,Z,T.sP,λ_=>?_,λz=>absurd rfl z⟩;refine⟨_,Z,e,t.bI,_,dd,fs,_,Z,T.sP,T.xc,aq,by rw[aF (aI hd nE)];exact hd,hf,⟨_,aq⟩,?_⟩;obtain⟨g1,g2⟩:=((kE er he).mono (H1:=upd H1 e (.ext (XH t.bI e t.bI (some dd)))) (sm.trans (aC.upd nE)).chg).raise;exact⟨g1,λd2 f2 H2 z1 z2 z3=>⟨g2 d2 f2 H2 z1 z2 z3,_,Z⟩⟩
def og {a b:Int}:decide (V.int a=V.int b)=decide (a=b):=by by_cases h:a=b<;>simp[h]
def Ce {a b:Int}:(!decide (V.int a=V.int b))=decide (a≠b):=by by_cases h:a=b<;>simp[h]
inductive GH (t:fP)(f:bN)(v:V)(H:Hp):Prop|i a dx wv(_:v=.ref a)(_:H a=some (.ins t.o6 dx [("bits",.int f.bits),("cut",.int f.cut),("lanes",.int f.lanes),("way",wv)]))(_:WH t (f.rows,f.joint) wv H)
def GH.same (h:GH t f v H)(m:aC H H'):GH t f v H':=by
 obtain⟨a,dx,wv,e,h1,h2⟩:=h;exact⟨a,dx,wv,e,m _ _ h1,h2.same m⟩
def ag6 (g:Mx.FG f):abp (f.rows,f.joint):=⟨g.r4,λr hr=>(g.lS r hr).sn,by have:=g.jl;have:=g.r4;simp;lia⟩
def Ua (g:Mx.FG f):(t9 qL (f.rows,f.joint)).length<=100:=by
 have h1:∀(l:List eP),(l.flatMap qL).length=8*l.length:=by
  intro l;induction l with
  |nil=>rfl
  |cons a r ih=>rw[cj,aO,ih];simp[qL,jk];lia
 have h2:∀(l:List bL),(∀r∈l,r.stages.length<=2)->(l.flatMap (LV qL)).length<=18*l.length:=by
  intro l;induction l with
  |nil=>intro _;simp
  |cons a r ih=>
   intro h;have:=ih λx hx=>h x (aP _ hx);have ha:=h a (aU ..);rw[cj,aO];simp only[LV,aZ,h1];lia
 have:=h2 f.rows λr hr=>(g.lS r hr).sn;have h3:=g.r4;have h4:=g.jl;simp only[t9,aO,aB];lia
def Pd (fA:Int)(f:bN)(w_:Int):bY:=[76,83,fA,(f.rows.length:Int),(f.bits:Int),(f.cut:Int),(f.lanes:Int),0]++zg w_ 4++zg 0 4++(if fA=1 then t9 qL (f.rows,f.joint) else[])
inductive acK (t:fP)(vs:b_)(H:Hp)(Q:VK)(E:XK):Prop|i(fA:Int)(v:V)(f:bN)(w_:Int)(_:vs=[.int fA,v,.int w_])(_:GH t f v H)(_:Mx.FG f)(_:0<=w_)(_:NL H Q (Pd fA f w_))
def KP:T.vD.Ok P w mg lQ jh 5 (acK t):=by
 refine T.vD.ok λnd H vs Q E hr h=>?_;obtain⟨fA,v,f,w_,rfl,⟨a,dx,wv,rfl,ha,hw⟩,g,ht,k⟩:=h;obtain⟨wa,dw,ra,ja,kT,rfl,WT,qo,pr,QF⟩:=id hw;refine .i (ao (fL 3 nd (Bt T.jc (ak (cQ (cQ (pv 1))) ax)))
   (ao (fL 4 nd (eE (ak (fF T.wq) (ak (fF T.uC) (ak (pv 0) (ak (pv 3) (ak (cQ (pv 1)) (ak (cQ (pv 1)) (ak (cQ (pv 1)) (ak aK ax))))))))))
   (ao (cS (AD df dC dD mE (pv 4) (ak (kq T.jG (kO T) hr bG (ak (pv 2) (ak aK ax))) ax)))
   (ao (cS (AD df dC dD mE (pv 4) (ak (kq T.jG (kO T) hr bG (ak aK (ak (fF T.qr) ax))) ax)))
   (ao (gi (rf lp (pv 0) aK) (aH (cS (AD df dC dD mE (pv 4) (ak (kq T.xM (Nr T) hr bG (ak (cQ (pv 1)) ax)) ax)))) cT)
   (aH (bz (pv 4)))))))) ?_
 refine⟨_,Z,Z,ha,T.dA,Z,Z,Z,WT,T.xG,Z,Z,ra,_,Z,i3 qo,?_⟩;rw[<-dR pr];refine⟨_,Z,_,Z,_,Z,Z,ha,T.dA,Z,Z,_,Z,Z,ha,T.dA,Z,Z,_,Z,Z,ha,T.dA,Z,Z,by rw[aE];simp,λL hL=>?_⟩;have s1:aC H (upd H L (.lst [.int 76,.int 83,.int fA,.int (f.rows.length:Int),.int f.bits,.int f.cut,.int f.lanes,.int 0])):=aC.upd hL;refine⟨_,Z,L0 aq,_,Z,w_,4,Z,ht,by decide,λH2 p2 s2 e2 n2=>?_⟩;have eL2:=s2 _ _ (aq (H:=H) (a:=L));have n2L:L≠p2:=(bO n2).1.symm;refine⟨L,p2,_,_,Z,Z,eL2,e2,by rw[aE];simp[jk],?_⟩;refine⟨_,Z,L0 aq,0,4,Z,by decide,by decide,λH3 p3 s3 e3 n3=>?_⟩;have eL3:=s3 _ _ (aq (H:=H2) (a:=L));refine⟨L,p3,_,_,Z,Z,eL3,e3,by rw[aE];simp[jk],?_⟩;have S3:aC H (upd H3 L (.lst ([V.int 76,.int 83,.int fA,.int (f.rows.length:Int),.int f.bits,.int f.cut,.int f.lanes,.int 0]++(zg w_ 4).map V.int++(zg 0 4).map V.int))):=λb o e=>by
  have nb:=aI e hL;rw[aF nb];refine s3 _ _ ?_;rw[aF nb];exact s2 _ _ (s1 _ _ e)
 refine⟨_,Z,Z,_,Z,?_⟩;rw[og];by_cases hk:fA=1
 .rw[ag hk];refine eZ ⟨_,Z,L0 aq,_,Z,Z,S3 _ _ ha,T.dA,Z,Z,(f.rows,f.joint),_,Z,hw.same S3,ag6 g,λH4 p4 s4 e4 n4=>?_⟩;have eL4:=s4 _ _ (aq (H:=H3) (a:=L));have hz:=Ua g;refine⟨L,p4,_,_,Z,Z,eL4,e4,by rw[aE];simp[jk];lia,_,Z,?_⟩;refine k _ L (λb o e=>?_) ?_ hL
  .rw[aF (aI e hL)];exact s4 _ _ (S3 _ _ e)
  .rw[aq,Pd,aj hk];simp
 .rw[ae hk];refine fK ⟨_,Z,k _ L S3 ?_ hL⟩;rw[aq,Pd,ah hk];simp
inductive agw (t:fP)(vs:b_)(H:Hp)(Q:VK)(E:XK):Prop|i x dx k fv(_:vs=[.ref x,k,fv])(_:H x=some (.ins t.o5 dx []))(_:∀H' sa ra,(∀b o,H b=some o->b≠x->H' b=some o)->H' x=some (.ins t.o5 dx [("key",k),("frame",fv),("shape",.ref sa),("rows",.ref ra)])->Q .gS H')
def KI:T.vx.Ok P w mg lQ jh 1 (agw t):=by
 refine T.vx.ok λnd H vs Q E hr h=>?_;obtain⟨x,dx,k,fv,rfl,hx,q⟩:=h;refine .i (ao (ki (pv 0) (pv 1))
   (ao (ki (pv 0) (pv 2))
   (ao (ki (pv 0) (eE ax))
   (aH (ki (pv 0) (eE ax)))))) ?_
 refine⟨_,Z,_,Z,Z,hx,T.jC,Z,Z,Z,?_⟩;refine⟨_,Z,_,Z,Z,aq,T.jC,Z,Z,Z,?_⟩;rw[eG];refine⟨by rw[aE];simp,λsa n1=>⟨_,Z,Z,by rw[aF (bO n1).1.symm,aq],T.jC,Z,Z,Z,?_⟩⟩;refine⟨by rw[aE];simp,λra n2=>⟨_,Z,Z,by rw[aF (bO n2).1.symm,aq],T.jC,Z,Z,Z,?_⟩⟩;refine q _ sa ra (λb o e nb=>?_) aq;have f1:=(bO (bO n2).2).2;rw[aF nb,aF (aI e (bO f1).2),aF nb,aF (aI e (bO n1).2),aF nb];exact e
inductive As0 (t:fP)(fA:Int)(f:bN)(v:V)(H:Hp):Prop|i a dx fv sa ra(_:v=.ref a)(_:H a=some (.ins t.o5 dx [("key",.int fA),("frame",fv),("shape",.ref sa),("rows",.ref ra)]))(_:GH t f fv (but H a))
inductive acS (t:fP)(vs:b_)(H:Hp)(Q:VK)(E:XK):Prop|i a dx r bQ(_:vs=[.ref a])(_:FA t H a dx r bQ false 0)(_:∀e,pZ bQ=.error e->Wv t E [a] H e)(_:∀fA f,pZ bQ=.ok (fA,f)->∀v H',dE [a] H H'->As0 t fA f v (nw H H')->Q v H')
def KS:T.vF.Ok P w mg lQ (tO P w t.bI) 10 (acS t):=by
 refine T.vF.xE λnd H vs Q E hr h=>?_;obtain⟨a,dx,r,bQ,rfl,fa,kE,kQ⟩:=h;refine .i (ao (fL 1 nd (kq T.vH (Fd T) hr aY.passes (ak (pv 0) ax)))
   (ao (fL 2 nd (kq T.tS (CV T) hr aY.passes (ak (pv 0) ax)))
   (ao (fL 3 nd (kq T.vG (Fc T) hr aY.passes (ak (pv 0) (ak (pv 2) ax))))
   (ao (fL 4 nd (kq T.rO (Az T) hr aY.passes (ak (pv 0) ax)))
   (ao (fL 5 nd (kq T.tT (CW T) hr aY.passes (ak (pv 0) ax)))
   (ao (fL 6 nd (kq T.vJ (Fe T) hr aY.passes (ak (pv 0) (ak (pv 5) ax))))
   (ao (gi (rf AB (cQ (pv 0)) (Bt T.jc (ak (cQ (pv 0)) ax))) (aH (jB (ns:=["place"]) aY rfl T.yZ (zx T) (hr.mono (by decide)).h T.lq.b rfl rfl T.sj (ak (cQ (pv 0)) ax) (by decide))) cT)
   (aH (bz (J7 T.abg T.XZ T.vx (KI T) hr bG (ak (pv 1) (ak (J7 T.Tb T.Pa T.rM (Ax T) hr bG (ak (pv 2) (ak (pv 3) (ak (pv 4) (ak (pv 6) ax))))) ax)))))))))))) ?_
 refine⟨_,Z,a,dx,r,bQ,false,0,Z,fa,λe he=>kE e (BH he),λx3 q3 hx3 v3 H3 c3 e3 hv3=>?_⟩;cases hv3;have fa3:=fa.chg c3 e3;have E3:pZ bQ=_:=Aj hx3;refine⟨_,Z,a,dx,r,bQ,false,q3,Z,fa3,λe he=>(kE e (E3.trans (BH he))).mono c3,λx5 q5 hx5 v5 H5 c5 e5 hv5=>?_⟩;cases hv5;have fa5:=fa3.chg c5 e5;have E5:=E3.trans (Aj hx5);clear E3;have d5:=c3.trans c5;refine⟨_,Z,_,Z,x5,trivial,a,dx,r,bQ,false,q5,Z,fa5,λe he=>(kE e (E5.trans (BH he))).mono d5,λx6 q6 hx6 v6 H6 c6 e6 hv6=>?_⟩;cases hv6;have fa6:=fa5.chg c6 e6;have E6:=E5.trans (Aj hx6);clear E5;have d6:=d5.trans c6;refine⟨_,Z,a,dx,r,bQ,false,q6,Z,fa6,λe he=>(kE e (E6.trans (BH he))).mono d6,λx7 q7 hx7 v7 H7 c7 e7 hv7=>?_⟩;cases hv7;have fa7:=fa6.chg c7 e7;have E7:=E6.trans (Aj hx7);clear E6;have d7:=d6.trans c7;refine⟨_,Z,a,dx,r,bQ,false,q7,Z,fa7,λe he=>(kE e (E7.trans (BH he))).mono d7,λx4 q4 hx4 v4 H4 c4 e4 hv4=>?_⟩;cases hv4;have fa4:=fa7.chg c4 e4;have E4:=E7.trans (Aj hx4);clear E7;have d4:=d7.trans c4;have r4:=rh hx4;have r5:=rh hx5;have r6:=rh hx6;have r7:0<=x7:=by
  have:x7∈iy:=by
   simp only[BA] at hx7;split at hx7
   .cases hx7
   .split at hx7
    .rename_i hm;cases hx7;exact hm
    .cases hx7
  simp[iy] at this;lia
 have e4':V.int x4=V.int ((x4.toNat:Nat):Int):=by rw[cX (by lia)]
 refine⟨_,Z,_,Z,x4.toNat,by lia,a,dx,r,bQ,false,q4,by rw[<-e4'];rfl,fa4,λe he=>(kE e (E4.trans (BH he))).mono d4,λy qc hy wv Hc cc ec hwv=>?_⟩;have fac:=fa4.chg cc ec;have dc:=d4.trans cc;refine⟨_,Z,Z,ec,T.cq,Z,Z,_,Z,Z,ec,T.cq,Z,Z,r,_,Z,i3 fac.lS,Z,_,Z,?_⟩;rw[Ce,aB];by_cases hq:qc=bQ.length
 .rw[ae (by lia)];refine fK ⟨_,Z,_,Z,_,Z,_,Z,_,Z,λx sU n1 n2 n3=>⟨x,sU,[.int x5,.int x6,.int x7,wv],Z,Z,aq,Z,?_⟩⟩;rw[eG];intro y' dy n4 n5 n6;refine⟨y',dy,.int x3,.ref x,Z,aq,λH' sa ra hk hy'=>?_⟩;obtain⟨m1,m2,m3,m4⟩:=ow (u:=.own x) (u':=.ins t.o6 sU (IP ["bits","cut","lanes","way"] [.int x5,.int x6,.int x7,wv])) dc ec n1 n2;obtain⟨m1',m2',m3',m4'⟩:=ow (u:=.own y') (u':=.ins t.o5 dy []) m1 m3 n4 n5;have ny:H y'=none:=(aT.mp m2').1;have c2:dE [a] H H':=λb o e nb=>hk b o (m1' b o e nb) (aI e ny);have S2:aC (nw H Hc) (but (nw H H') y'):=λb o e=>by
   obtain⟨z1,z2⟩:=aT.mp e;have z3:=m4 _ _ z2;exact dQ.mpr ⟨aI z3 n4,aT.mpr ⟨z1,hk b o (m4' _ _ z3) (aI z3 n4)⟩⟩
  have fr:∀z,H4 z=none->H z=none:=λz hz=>by
   cases e:H z with
   |none=>rfl
   |some o=>
    by_cases m:z=a
    .subst m;rw[fa4.at_] at hz;cases hz
    .rw[d4.one e m] at hz;cases hz
  have J5:H' x=some (.ins t.o6 sU (IP ["bits","cut","lanes","way"] [.int x5,.int x6,.int x7,wv])):=hk x _ (m4' _ _ (aT.mp m2).2) (aI (aT.mp m2).2 n4);refine⟨Z,kQ _ _ ((E4.trans (Aj hy)).trans (aj hq)) _ _ c2 ⟨y',dy,.ref x,sa,ra,Z,aT.mpr ⟨ny,hy'⟩,x,sU,wv,Z,dQ.mpr ⟨aI (aT.mp m2).2 n4,aT.mpr ⟨(aT.mp m2).1,J5.trans ?_⟩⟩,hwv.same ((qu fr).trans S2)⟩⟩;show _=some (HO.ins t.o6 sU [("bits",.int (x5.toNat:Int)),("cut",.int (x6.toNat:Int)),("lanes",.int (x7.toNat:Int)),("way",wv)]);rw[cX (by lia),cX (by lia),cX (by lia)];rfl
 .rw[ag (by show¬_;lia)];refine eZ ⟨_,Z,Z,ec,T.cq,Z,Z,?_⟩;exact((kE qc ((E4.trans (Aj hy)).trans (ah hq))).mono dc).raise
inductive acO (vs:b_)(H:Hp)(Q:VK)(E:XK):Prop|i(a:ke)(l:bY)(_:vs=[.ref a])(_:H a=some (.lst (l.map V.int)))(_:l.length<=1000000)(_:∀H',aC H H'->Q (.bl (decide (l.length=4/\∀x∈l,-128<=x/\x<=127))) H')
def allB {p:Int->Prop}[DecidablePred p]:(l.map λx=>decide (p x)).all id=decide (∀x∈l,p x):=by
 induction l with
 |nil=>simp
 |cons a r ih=>
  rw[cy,wL,ih];by_cases h:p a<;>by_cases h2:∀x∈r,p x<;>simp[h]
def Xx {a b z:Int}(h:Q (.bl (decide (a<=z/\z<=b))) H):if decide (a<=z)=true then Zk (λi j=>.bl (decide (i<=j))) (.int z) (.int b) H Q else Q (.bl false) H:=by
 by_cases h1:a<=z
 .rw[aj (ag h1)];refine⟨z,b,Z,Z,?_⟩;have e:decide (a<=z/\z<=b)=decide (z<=b):=by simp[h1]
  rw[<-e];exact h
 .rw[ah (by simpa using h1)];have e:decide (a<=z/\z<=b)=false:=by simp[h1]
  rw[<-e];exact h
def PR:T.AQ.Ok P w mg lQ jh 1 acO:=by
 refine T.AQ.ok λnd H vs Q E hr h=>?_;obtain⟨a,l,rfl,ha,hz,k⟩:=h;refine .i (aH (bz (Y_ (pcm lp (Bt T.jc (ak (pv 0) ax)) aK) (Ze (gP (Q1 rfl) rfl T.YT boot_all (ak (GW [("part",1)] nd (fB (pv 0)) (mv 1 nd) (P4 LL LL (t6 pE aK) (pv 1) aK)) ax)))))) ?_;refine⟨_,Z,a,_,Z,i3 ha,Z,_,Z,?_⟩;rw[og,aB];by_cases h4:l.length=4
 .rw[ag (by lia)];refine eZ ⟨_,Z,a,Z,⟨_,i2 ha⟩,λD hD=>?_⟩;refine nu (ys:=(l.map λx=>decide (-128<=x/\x<=127)).map V.bl) hD (by rw[aE];simp;lia) (i2 ha) (by simp) (λi x y H2 Q2 hx hy sm k2=>?_) λH' h1 h2=>?_
  .rw[aw] at hx;rw[aw,aw] at hy;cases hl:l[i]? with
   |none=>rw[hl] at hx;cases hx
   |some z=>
    rw[hl] at hx hy;cases hx;cases hy;have fin:=k2 H2 (aC.refl _);refine⟨Z,_,Z,_,Z,_,_,Z,Z,_,Z,?_⟩;exact Xx fin
  .refine⟨D,_,Z,i2 h1,?_⟩;rw[allB];have e:decide (l.length=4/\∀x∈l,-128<=x/\x<=127)=decide (∀x∈l,-128<=x/\x<=127):=by simp[h4]
   rw[<-e];exact k _ h2
 .rw[ae (by lia)];have e:decide (l.length=4/\∀x∈l,-128<=x/\x<=127)=false:=by simp[h4]
  have:=k H (aC.refl H);rw[e] at this;exact fK this
def ofBits (b:Nat)(x:Int):Prop:= -(2^(b-1))<=x/\x<=2^(b-1)-1
instance (b:Nat)(x:Int):Decidable (ofBits b x):=by unfold ofBits;exact inferInstance
inductive ZF (vs:b_)(H:Hp)(Q:VK)(E:XK):Prop|i(a:ke)(l:bY)(b:Nat)(_:vs=[.ref a,.int b])(_:H a=some (.lst (l.map V.int)))(_:l.length<=1000000)(_:1<=b)(_:b<=100)(_:∀H',aC H H'->Q (.bl (decide (∀x∈l,ofBits b x))) H')
def Jc:T.ui.Ok P w mg lQ jh 2 ZF:=by
 refine T.ui.ok λnd H vs Q E hr h=>?_;obtain⟨a,l,b,rfl,ha,hz,MY,BJ,k⟩:=h;refine .i (aH (bz (gP (Q1 rfl) rfl T.YT boot_all (ak (GW [("x",2)] nd (fB (pv 0)) (mv 2 nd) (P4 LL LL (kq T.j9 (ph T) hr bG (ak (pv 1) ax)) (pv 2) (kq T.jF (oj T) hr bG (ak (pv 1) ax)))) ax)))) ?_;refine⟨_,Z,a,Z,⟨_,i2 ha⟩,λD hD=>?_⟩;refine nu (ys:=(l.map λx=>decide (ofBits b x)).map V.bl) hD (by rw[aE];simp;lia) (i2 ha) (by simp) (λi x y H2 Q2 hx hy sm k2=>?_) λH' h1 h2=>?_
 .rw[aw] at hx;rw[aw,aw] at hy;cases hl:l[i]? with
  |none=>rw[hl] at hx;cases hx
  |some z=>
   rw[hl] at hx hy;cases hx;cases hy;have fin:Q2 (V.bl (decide (ofBits b z))) H2:=k2 H2 (aC.refl _);refine⟨Z,_,Z,b,Z,MY,BJ,_,Z,_,_,Z,Z,_,Z,?_⟩;by_cases h1: -(2^(b-1))<=z
   .rw[aj (ag h1)];refine⟨_,Z,b,Z,MY,BJ,_,_,Z,Z,?_⟩;have e:decide (ofBits b z)=decide (z<=2^(b-1)-1):=by simp[ofBits,h1]
    rw[e] at fin;exact fin
   .rw[ah (by simpa using h1)];have e:decide (ofBits b z)=false:=by simp[ofBits,h1]
    rw[e] at fin;exact fin
 .refine⟨D,_,Z,i2 h1,?_⟩;rw[allB];exact k _ h2
def Nd {α:Type}{J:It}{te:TE}{σ:L2.St}{Qd:Hp->Prop}(xs:List α)(is:α->V->Hp->Prop)(mono:∀x v H H',is x v H->aC H H'->is x v H')(hD:H1 D=none)(hz:xs.length<=bu)
  (Yw:∀H,aC H1 H->J.stop xs.length H) (hgo:∀i H,i<xs.length->aC H1 H->J.go i H)
  (hs:∀i x v H H' Q,xs[i]? =some x->aC H1 H->J.Wj i H v H'->(∀y H4,aC H H4->is x y (nw H H4)->Q y H4)->g v (wipe σ vs) H' λmG H2=>wipe mG vs=wipe σ vs/\te mG H2 Q)
  (hd:∀H' ys,aC H1 H'->H' D=some (.lst ys)->Paired (λx v=>is x v (nw H1 H')) xs ys->Qd H'):Wr J g te vs σ H1 D Qd:=by
 refine RY (J:=J) (te:=te) (λi dM H=>aC H1 H/\Paired (λx v=>is x v (nw (upd H1 D (.lst [])) H)) (xs.take i) dM) xs.length hz ⟨aC.upd hD,.nil⟩ (λdM H hl eD ⟨sm,pr⟩=>⟨Yw H sm,?_⟩) (λi dM H hi eD ⟨sm,pr⟩=>hgo i H hi sm) λi dM H v H' Q hi hl eD ⟨sm,pr⟩ hy k=>?_
 .rw[gj] at pr;exact hd H dM sm eD (Paired.lR pr λx v z=>mono _ _ _ _ z (qu λb hb=>(bO hb).2))
 .have hx:xs[i]? =some (xs[i]'hi):=aD hi;refine hs i _ v H H' Q hx sm hy λy H4 s4 hn=>?_;have hS:aC (nw (upd H1 D (.lst [])) H4) (nw (upd H1 D (.lst [])) (upd H4 D (.lst (dM++[y])))):=λb o e=>by
   obtain⟨z1,z2⟩:=aT.mp e;exact aT.mpr ⟨z1,by rw[aF (bO z1).1];exact z2⟩
  refine k y H4 (s4 _ _ eD) ⟨λb o e=>by rw[aF (aI e hD)];exact s4 _ _ (sm _ _ e),?_⟩;rw[Mx.take_snoc hx];refine(Paired.lR pr λx v z=>mono _ _ _ _ z ((wz s4).trans hS)).snoc (mono _ _ _ _ hn (aC.trans (qu λb hb=>?_) hS));by_cases e:b=D
  .subst e;rw[eD] at hb;cases hb
  .rw[aF e];exact sm.free hb
def VA {α:Type}{te:TE}{σ:L2.St}{Qd:Hp->Prop}(xs:List α)(is:α->V->Hp->Prop)(mono:∀x v H H',is x v H->aC H H'->is x v H')(hD:H1 D=none)(hz:xs.length<=bu)(hn:xs.length=n)
  (hs:∀(i:Nat) x H Q,xs[i]? =some x->aC H1 H->(∀y H4,aC H H4->is x y (nw H H4)->Q y H4)->g (.int (lo+(i:Nat))) (wipe σ vs) H λmG H2=>wipe mG vs=wipe σ vs/\te mG H2 Q)
  (hd:∀H' ys,aC H1 H'->H' D=some (.lst ys)->Paired (λx v=>is x v (nw H1 H')) xs ys->Qd H'):Wr (S9 lo n) g te vs σ H1 D Qd:=
 Nd (J:=S9 lo n) (te:=te) xs is mono hD hz (λH _=>f7 hn.symm) (λi H h _=>by rw[hn] at h;exact h) (λi x v H H' Q hx sm ⟨e,z⟩ k=>by subst e z;exact hs i x _ Q hx sm k) hd
def YI {α:Type}{te:TE}{σ:L2.St}{Qd:Hp->Prop}{us:b_}(xs:List α)(is:α->V->Hp->Prop)(mono:∀x v H H',is x v H->aC H H'->is x v H')(hD:H1 D=none)(hz:xs.length<=bu)(hl:nN K H1 a us)(hn:xs.length=us.length)
  (hs:∀(i:Nat) x u H Q,xs[i]? =some x->us[i]? =some u->aC H1 H->(∀y H4,aC H H4->is x y (nw H H4)->Q y H4)->g u (wipe σ vs) H λmG H2=>wipe mG vs=wipe σ vs/\te mG H2 Q)
  (hd:∀H' ys,aC H1 H'->H' D=some (.lst ys)->Paired (λx v=>is x v (nw H1 H')) xs ys->Qd H'):Wr (Wq K a) g te vs σ H1 D Qd:=
 Nd (J:=Wq K a) (te:=te) xs is mono hD hz (λH sm=>⟨us,sm.seq hl,f7 hn.symm⟩) (λi H h sm=>⟨us,us[i]'(by lia),sm.seq hl,aD (by lia)⟩) (λi x v H H' Q hx sm ⟨e,z⟩ k=>by subst e;exact hs i x v _ Q hx (z us (sm.seq hl)) sm k) hd
inductive IsL (x:bY)(v:V)(H:Hp):Prop|i p(_:v=.ref p)(_:H p=some (.lst (x.map V.int)))
def IsL.same {x:bY}(h:IsL x v H)(m:aC H H'):IsL x v H':=by
 obtain⟨p,e,h⟩:=h;exact⟨p,e,m _ _ h⟩
def uI (x:bY)(rows:Nat):ly:=(aJ rows).map λr=>(x.drop (r*(x.length / rows))).take (x.length / rows)
def NLL (H:Hp)(Q:VK)(l:ly):Prop:=∀H' p vs,aC H H'->H' p=some (.lst vs)->H p=none->Paired (λx v=>IsL x v (nw H H')) l vs->Q (.ref p) H'
inductive acQ (vs:b_)(H:Hp)(Q:VK)(E:XK):Prop|i(a:ke)(x:bY)(r:Nat)(_:vs=[.ref a,.int r])(_:H a=some (.lst (x.map V.int)))(_:x.length<=1000000)(_:1<=r)(_:r<=4)(_:NLL H Q (uI x r))
def KQ:T.vE.Ok P w mg lQ jh 1 acQ:=by
 refine T.vE.ok λnd H vs Q E hr h=>?_;obtain⟨a,x,r,rfl,ha,hz,hr1,hr2,k⟩:=h;refine .i (ao (fL 2 nd (aX jM (Bt T.jc (ak (pv 0) ax)) (pv 1)))
   (aH (bz (GW [("r",3)] nd (jA rfl T.iA (ak (pv 1) ax)) (mv 3 nd) (P6 (r:=acy K) Ut (pv 0) (qv (aX fQ (pv 3) (pv 2))) (qv (aX fQ (aX dz (pv 3) aK) (pv 2)))))))) ?_
 refine⟨_,Z,a,_,Z,i3 ha,_,Z,_,_,Z,Z,⟨by lia,by lia⟩,?_⟩;refine⟨_,Z,_,Z,by lia,by lia,λD hD=>?_⟩;rw[aB];obtain⟨tm,htm⟩:∃tm,tm=x.length / r:=⟨_,Z⟩;have htr:tm*r<=x.length:=by rw[htm];exact aaE _ _
 have ajA:((x.length:Int) / (r:Int))=((tm:Nat):Int):=by rw[htm];rfl
 refine VA (uI x r) IsL (λx v H H' h m=>h.same m) hD (by rw[aE];simp[uI];lia) (by simp[uI]) (λi y H' Q2 hy sm k2=>?_) λH' ys sm eD pr=>k H' D ys sm eD hD pr;have hi:i<r:=by have:=(aN.mp hy).1;simpa[uI] using this
 refine⟨Z,_,Z,_,Z,_,Z,_,_,Z,Z,.inl ⟨by lia,by lia⟩,_,Z,_,Z,_,_,Z,Z,_,Z,_,_,Z,Z,.inl ⟨by lia,by lia⟩,_,Z,a,_,Z,i2 (sm _ _ ha),λp hp=>?_⟩;refine k2 _ _ (aC.upd hp) ⟨p,Z,aT.mpr ⟨hp,?_⟩⟩;have e1:(0+(i:Int))*((x.length:Int) / (r:Int))=((i*tm:Nat):Int):=by rw[ajA];simp
 have e2:(0+(i:Int)+1)*((x.length:Int) / (r:Int))=(((i+1)*tm:Nat):Int):=by rw[ajA];simp
 have hb:(i+1)*tm<=r*tm:=iJ tm hi;have BJ:i*tm<=(i+1)*tm:=iJ tm (by lia);have hb3:r*tm<=x.length:=by rw[jn];exact htr
 have e3:=abB (x.map V.int) (i*tm) ((i+1)*tm) (by simp;lia) (by simp;lia);rw[<-e1,<-e2] at e3;have ey:y=(x.drop (i*tm)).take tm:=by
  unfold uI at hy;rw[aw,bD hi,<-htm] at hy;exact(bh hy).symm
 rw[aq];refine congrArg (λz=>some (HO.lst z)) (e3.trans ?_);rw[ey,show(i+1)*tm-i*tm=tm by rw[Hh,k9],kh,lY]
inductive AsA (t:fP)(fA:Int)(f:bN)(fv:V)(aS:bY)(xs:ly)(v:V)(H:Hp):Prop|i a dx sa ra vs(_:v=.ref a)(_:H a=some (.ins t.o5 dx [("key",.int fA),("frame",fv),("shape",.ref sa),("rows",.ref ra)]))(_:GH t f fv H)(_:H sa=some (.lst (aS.map V.int)))(_:H ra=some (.lst vs))(_:Paired (λx v=>IsL x v H) xs vs)
def AsA.same {aS:bY}{xs:ly}(h:AsA t fA f fv aS xs v H)(m:aC H H'):AsA t fA f fv aS xs v H':=by
 obtain⟨a,dx,sa,ra,vs,e,h1,h2,h3,h4,h5⟩:=h;exact⟨a,dx,sa,ra,vs,e,m _ _ h1,h2.same m,m _ _ h3,m _ _ h4,Paired.lR h5 λx v z=>z.same m⟩
structure K9 (f:bN)(aS x:bY):Prop where
 s4:aS.length=4
 sr:∀v∈aS,-128<=v/\v<=127
 x0:x.length≠0
 xm:x.length%f.rows.length=0
 xt:x.length / f.rows.length<=64
 xb:∀v∈x,ofBits f.bits v
inductive VZ (t:fP)(vs:b_)(H:Hp)(Q:VK)(E:XK):Prop|i(s5 td sh nm:ke)(l5 lt ls ln:bY)(_:vs=[.ref s5,.ref td,.ref sh,.ref nm])(_:H s5=some (.lst (l5.map V.int)))(_:H td=some (.lst (lt.map V.int)))(_:H sh=some (.lst (ls.map V.int)))(_:H nm=some (.lst (ln.map V.int)))(_:l5.length<=1000)(_:lt.length<=1000)(_:ls.length<=1000)(_:ln.length<=1000)(_:∀fA f,pZ (l5++lt)=.ok (fA,f)->Mx.FG f)(_:∀e,pZ (l5++lt)=.error e->Tc t.iP E [] H)(_:∀fA f,pZ (l5++lt)=.ok (fA,f)->(¬K9 f ls ln->Tc t.iP E [] H)/\(K9 f ls ln->∀v fv H',aC H H'->AsA t fA f fv ls (uI ln f.rows.length) v H'->GH t f fv (nw H H')->Q v H'))
def PN:T.AN.Ok P w mg lQ (tO P w t.bI) 11 (VZ t):=by
 refine T.AN.xE λnd H vs Q E hr h=>?_;obtain⟨s5,td,sh,nm,l5,lt,ls,ln,rfl,h5,ht,hs,hn,z1,z2,z3,z4,hf,kE,kQ⟩:=h;obtain⟨xk,hxk⟩:∃xk:XK,xk=λC d H1=>C=.ref t.bI/\∃e,pZ (l5++lt)=.error e/\aC H H1:=⟨_,Z⟩;refine .i (ao (Sg (Mf:=t.bI) (Ex:=xk) rfl rfl rfl (λ_ _ hB=>(aH (fL 4 nd (kq T.vF (KS T) hr hB.passes (ak (J7 T.Of T.Lu T.p_ (yD T) hr bG (ak (aX mP (pv 0) (pv 1)) (ak Za ax))) ax)))))
   (Nw T.sP rfl T.sj (λok e=>(aH (Se (KZ aY ok rfl rfl rfl) rfl T.diff.1 T.oY T.uE rfl T.qm)))
   Sd))
   (ao (fL 5 nd (Bt T.jc (ak (cQ (cQ (cQ (pv 4)))) ax)))
   (ao (gi (PW.pt (yO (Nz (Bu (kq T.AQ (PR T) hr bG (ak (pv 2) ax)))) (yO (rf lp (Bt T.jc (ak (pv 3) ax)) aK) (yP (rf AB (aX pY (Bt T.jc (ak (pv 3) ax)) (pv 5)) aK))))) (aH (vk aY rfl T.oY T.uE rfl T.qm)) cT)
   (ao (gi (PW.pt (yO (rf Ji (aX jM (Bt T.jc (ak (pv 3) ax)) (pv 5)) (fF T.CG)) (yP (Nz (Bu (kq T.ui (Jc T) hr bG (ak (pv 3) (ak (cQ (cQ (pv 4))) ax)))))))) (aH (vk aY rfl T.oY T.uE rfl T.qm)) cT)
   (ao (ki (pv 4) (pv 2))
   (ao (ki (pv 4) (kq T.vE (KQ T) hr bG (ak (pv 3) (ak (pv 5) ax))))
   (aH (bz (pv 4))))))))) ?_
 refine⟨?_,λe C d H1 nE hx=>?_⟩
 .refine⟨_,Z,_,Z,s5,td,_,_,Z,Z,h5,ht,by rw[aE];simp;lia,λr nr=>?_⟩;have s0:aC H (upd H r (.lst (l5.map V.int++lt.map V.int))):=aC.upd nr;intro a da n1 n2 n3;refine⟨a,da,[.ref r,.bl false],Z,Z,aq,Z,?_⟩;rw[eG];have s1:=s0.trans (gA (C:=t.lh) (fs:=IP ["row","as_bytes","place"] ([V.ref r,V.bl false]++[V.int 0])) n1 n2);have nra:r≠a:=(bO n1).1.symm;have nrd:r≠da:=(bO n2).1.symm;refine⟨a,da,r,l5++lt,Z,⟨aq,by rw[aF nra,aF nrd,aq,iU],λz=>by cases z⟩,λe he=>?_,λfA f hh v H' c hv=>?_⟩
  .intro H' dd fs h1 h2 h3;rw[hxk];exact⟨Z,e,he,dE.back s1 h3 (by intro x hx;rw[show x=a from by simpa using hx];exact(bO n1).2)⟩
  .have sm:aC H H':=dE.back s1 c (by intro x hx;rw[show x=a from by simpa using hx];exact(bO n1).2);have g:=hf fA f hh;obtain⟨k1,k2⟩:=kQ fA f hh;obtain⟨b,db,fv,sa,ra,rfl,hb,hfv⟩:=hv;have hb':=iK _ _ hb;have nb:H b=none:=s1.free (aT.mp hb).1;have hfn:GH t f fv (but (nw H H') b):=hfv.same λy o e=>dQ.mpr ⟨(dQ.mp e).1,o_ s1 _ _ (dQ.mp e).2⟩;replace hfv:GH t f fv (nw (upd (upd (upd H r (.lst (l5.map V.int++lt.map V.int))) da (.own a)) a (.ins t.lh da (IP ["row","as_bytes","place"] ([V.ref r,V.bl false]++[V.int 0])))) H'):=hfv.same A1;obtain⟨fa,dfa,wv,rfl,JY,hw⟩:=id hfv;obtain⟨wa,dw,rwa,ja,kT,rfl,WT,afJ,prw,QF⟩:=hw;have iQ:kT.length=f.rows.length:=(dR prw).symm;refine⟨_,Z,Z,hb',T.jC,Z,Z,Z,iK _ _ JY,T.dA,Z,Z,Z,iK _ _ WT,T.xG,Z,Z,rwa,_,Z,i3 (iK _ _ afJ),?_⟩;rw[iQ];have hr1:=g.r1;have hr4:=g.r4;refine⟨_,Z,sh,ls,Z,sm _ _ hs,by lia,λH2 s2=>⟨_,Z,?_⟩⟩;have pL:=sm.trans s2;by_cases q1:ls.length=4/\∀x∈ls,-128<=x/\x<=127
   .rw[ag q1];refine fK ⟨_,Z,nm,_,Z,i3 (pL _ _ hn),Z,_,Z,?_⟩;rw[og,aB];by_cases q2:ln.length=0
    .rw[ag (by lia)];refine eZ (eZ ?_);exactλH3 s3=>k1 (λz=>z.x0 q2) H3 (pL.trans s3).chg
    .rw[ae (by lia)];refine fK ⟨_,Z,nm,_,Z,i3 (pL _ _ hn),_,Z,_,_,Z,Z,(by show(0:Int)<_;lia),Z,_,Z,?_⟩;rw[Ce,aB];by_cases q3:ln.length%f.rows.length=0
     .rw[ae (by simp only[ne_eq,tU];lia)];refine fK ?_;refine⟨_,Z,nm,_,Z,i3 (pL _ _ hn),_,Z,_,_,Z,Z,⟨by lia,by lia⟩,_,_,Z,Z,_,Z,?_⟩;rw[aB];have ediv:(ln.length:Int) / (f.rows.length:Int)=((ln.length / f.rows.length:Nat):Int):=rfl;rw[ediv];by_cases q4:ln.length / f.rows.length<=64
      .rw[ae (by lia)];have MY:=g.b1;have BJ:=g.b2;refine fK ⟨_,Z,_,Z,Z,s2 _ _ hb',T.jC,Z,Z,Z,s2 _ _ (iK _ _ JY),T.dA,Z,Z,nm,ln,f.bits,Z,pL _ _ hn,by lia,by lia,by lia,λH3 s3=>⟨_,Z,?_⟩⟩;have AG:=pL.trans s3;by_cases q5:∀x∈ln,ofBits f.bits x
       .rw[ag q5];refine fK ?_;have anT:=s3 _ _ (s2 _ _ hb');refine⟨_,Z,_,Z,Z,anT,T.jC,Z,Z,tI [("key",V.int fA),("frame",V.ref fa),("shape",V.ref sh),("rows",V.ref ra)],?_⟩;have Er:aC H (upd H3 b (.ins t.o5 db [("key",V.int fA),("frame",V.ref fa),("shape",V.ref sh),("rows",V.ref ra)])):=λy o e=>by rw[aF (aI e nb)];exact AG _ _ e
        refine⟨_,Z,_,Z,nm,ln,f.rows.length,Z,Er _ _ hn,by lia,by lia,by lia,λH5 p5 v5 s5' e5 n5 pr5=>?_⟩;refine⟨_,Z,Z,s5' _ _ aq,T.jC,Z,Z,Z,_,Z,?_⟩;have nbp:b≠p5:=aI aq n5;have smF:aC H (upd H5 b (.ins t.o5 db [("key",V.int fA),("frame",V.ref fa),("shape",V.ref sh),("rows",V.ref p5)])):=λy o e=>by rw[aF (aI e nb)];exact s5' _ _ (Er _ _ e)
        have frn:GH t f (.ref fa) (nw H (upd H5 b (.ins t.o5 db [("key",V.int fA),("frame",V.ref fa),("shape",V.ref sh),("rows",V.ref p5)]))):=by
         refine hfn.same λy o e=>?_;obtain⟨g1,g2⟩:=dQ.mp e;obtain⟨g3,g4⟩:=aT.mp g2;refine aT.mpr ⟨g3,?_⟩;rw[aF g1];refine s5' _ _ ?_;rw[aF g1];exact s3 _ _ (s2 _ _ g4)
        refine k2 ⟨q1.1,q1.2,q2,q3,q4,q5⟩ _ (.ref fa) _ smF ⟨b,db,sh,p5,v5,Z,aq,frn.same iK,smF _ _ hs,by rw[aF nbp.symm];exact e5,?_⟩ frn;refine Paired.lR pr5 λx v z=>z.same λy o e=>?_;obtain⟨g1,g2⟩:=aT.mp e;rw[aF (b8 aq g1)];exact g2
       .rw[ae q5];refine eZ ?_;exactλH4 s4=>k1 (λz=>q5 z.xb) H4 (AG.trans s4).chg
      .rw[ag (by lia)];refine eZ (eZ ?_);exactλH4 s4=>k1 (λz=>q4 z.xt) H4 (pL.trans s4).chg
     .rw[ag (by show¬_;lia)];refine eZ ?_;exactλH4 s4=>k1 (λz=>q3 z.xm) H4 (pL.trans s4).chg
   .rw[ae q1];refine eZ (eZ ?_);exactλH4 s4=>k1 (λz=>q1 ⟨z.s4,z.sr⟩) H4 (pL.trans s4).chg
 .rw[hxk] at hx;obtain⟨rfl,er,he,sm⟩:=hx;refine⟨_,_,Z,T.sP,λ_=>?_,λz=>absurd rfl z⟩;exact⟨⟨_,aq⟩,λH2 s2=>⟨kE er he H2 ((sm.trans (aC.upd nE)).trans s2).chg,_,Z⟩⟩
inductive isP (x:Int×Int)(v:V)(H:Hp):Prop|i p(_:v=.ref p)(_:H p=some (.tup [.int x.1,.int x.2]))
def isP.same {x:Int×Int}(h:isP x v H)(m:aC H H'):isP x v H':=by
 obtain⟨p,e,h⟩:=h;exact⟨p,e,m _ _ h⟩
inductive Sz (g:Nat->Int->Int->Int×Int)(vs:b_)(H:Hp)(Q:VK)(E:XK):Prop|i(j:Nat)(a b:Int)(_:vs=[.int j,.int a,.int b])(_:j<=3)(_:∀v H',aC H H'->isP (g j a b) v (nw H H')->Q v H')
def qJ {a b:Int}{z:Int×Int}(hz:z=(a,b))(k:∀v H',aC H H'->isP z v (nw H H')->Q v H'):[V.int a,V.int b].length<=bu/\∀p,H p=none->Q (.ref p) (upd H p (.tup [.int a,.int b])):=by
 subst hz;exact⟨by rw[aE];simp,λp hp=>k _ _ (aC.upd hp) ⟨p,Z,aT.mpr ⟨hp,aq⟩⟩⟩
def Nn:T.qz.Ok P w mg lQ jh 1 (Sz sL):=by
 refine T.qz.ok λnd H vs Q E hr h=>?_;obtain⟨j,a,b,rfl,hj,k⟩:=h;rw[ab7 j hj] at k;refine .i (ao (gi (rf lp (pv 0) aK) (aH (bz (s_ (ak (pv 1) (ak (aX gw (pv 2) (pv 1)) ax))))) cT)
   (ao (gi (rf lp (pv 0) aK) (aH (bz (s_ (ak (aX gw (pv 1) (pv 2)) (ak (pv 2) ax))))) cT)
   (ao (gi (rf lp (pv 0) aK) (aH (bz (s_ (ak (aX jM (aX dz (pv 1) (pv 2)) aK) (ak (aX gw (pv 1) (pv 2)) ax))))) cT)
   (aH (bz (s_ (ak (pv 1) (ak (pv 2) ax)))))))) ?_
 refine⟨_,Z,Z,_,Z,?_⟩;rw[og];by_cases h1:j=1
 .rw[ag (by lia)];rw[aj h1] at k;exact eZ ⟨_,Z,_,Z,_,Z,_,_,Z,Z,qJ rfl k⟩
 .rw[ae (by lia)];rw[ah h1] at k;refine fK ⟨_,Z,Z,_,Z,?_⟩;rw[og];by_cases h2:j=2
  .rw[ag (by lia)];rw[aj h2] at k;exact eZ ⟨_,Z,_,Z,_,_,Z,Z,_,Z,qJ rfl k⟩
  .rw[ae (by lia)];rw[ah h2] at k;refine fK ⟨_,Z,Z,_,Z,?_⟩;rw[og];by_cases h3:j=3
   .rw[ag (by lia)];rw[aj h3] at k;exact eZ ⟨_,Z,_,Z,_,_,Z,Z,_,_,Z,Z,⟨by decide,by decide⟩,_,Z,_,Z,_,_,Z,Z,qJ rfl k⟩
   .rw[ae (by lia)];rw[ah h3] at k;exact fK ⟨_,Z,_,Z,qJ rfl k⟩
def Np:T.qB.Ok P w mg lQ jh 1 (Sz zJ):=by
 refine T.qB.ok λnd H vs Q E hr h=>?_;obtain⟨j,a,b,rfl,hj,k⟩:=h;rw[Wf j hj] at k;refine .i (ao (gi (rf lp (pv 0) aK) (aH (bz (s_ (ak (pv 1) (ak (aX dz (pv 2) (pv 1)) ax))))) cT)
   (ao (gi (rf lp (pv 0) aK) (aH (bz (s_ (ak (aX dz (pv 1) (pv 2)) (ak (pv 2) ax))))) cT)
   (ao (gi (rf lp (pv 0) aK) (ao (fL 3 nd (aX dz (aX fQ aK (pv 1)) (aX pY (pv 2) aK)))
   (aH (bz (s_ (ak (aX jM (aX dz (pv 3) (pv 2)) aK) (ak (aX jM (aX gw (pv 3) (pv 2)) aK) ax)))))) cT)
   (aH (bz (s_ (ak (pv 1) (ak (pv 2) ax)))))))) ?_
 refine⟨_,Z,Z,_,Z,?_⟩;rw[og];by_cases h1:j=1
 .rw[ag (by lia)];rw[aj h1] at k;exact eZ ⟨_,Z,_,Z,_,Z,_,_,Z,Z,qJ rfl k⟩
 .rw[ae (by lia)];rw[ah h1] at k;refine fK ⟨_,Z,Z,_,Z,?_⟩;rw[og];by_cases h2:j=2
  .rw[ag (by lia)];rw[aj h2] at k;exact eZ ⟨_,Z,_,Z,_,_,Z,Z,_,Z,qJ rfl k⟩
  .rw[ae (by lia)];rw[ah h2] at k;refine fK ⟨_,Z,Z,_,Z,?_⟩;rw[og];by_cases h3:j=3
   .rw[ag (by lia)];rw[aj h3] at k;refine eZ ⟨_,Z,_,_,Z,Z,.inl ⟨by decide,by decide⟩,_,Z,_,_,Z,Z,(by show(0:Int)<2;decide),_,_,Z,Z,?_⟩;refine⟨_,Z,_,Z,_,_,Z,Z,_,_,Z,Z,⟨by decide,by decide⟩,_,Z,_,Z,_,_,Z,Z,_,_,Z,Z,⟨by decide,by decide⟩,qJ rfl k⟩
   .rw[ae (by lia)];rw[ah h3] at k;exact fK ⟨_,Z,_,Z,qJ rfl k⟩
def vt (F N:Hp):Hp:=λb=>if(F b).isSome=true then F b else N b
def Fs:aC F (vt F N):=λb o e=>by unfold vt;rw[e];rfl
def Z8 (h:aC F H):aC (nw H H') (vt F (nw H H')):=λb o e=>by
 unfold vt;have:=h.free (aT.mp e).1;rw[this];exact e
def JJ (h:aC F H)(h':aC N H):aC (vt F N) H:=λb o e=>by
 unfold vt at e;split at e
 .exact h _ _ e
 .exact h' _ _ e
def JK {N':Hp}(h:aC N N'):aC (vt F N) (vt F N'):=λb o e=>by
 unfold vt at e|-
 split at e
 .rename_i q;rw[aj q];exact e
 .rename_i q;rw[ah q];exact h _ _ e
theorem Bq {α β:Type}{F:α->β->Prop}{x:α}{v:β}(h:F x v):∀{l:List α} {m:List β} (i:Nat),Paired F l m->Paired F (l.set i x) (m.set i v)
 |_,_,_,.nil=>.nil
 |_,_,0,.cons _ r=>.cons h r
 |_,_,i+1,.cons q r=>.cons q (Bq h i r)
def qp {j:Nat}{i:Int}(hi:i=(j:Int))(h:j<n):ixN n i=some j:=by
 subst hi;unfold ixN;rw[aj (by lia),aj (by lia)];simp
inductive Uu (K:au)(f:ke)(g:Nat->Int->Int->Int×Int)(vs:b_)(H:Hp)(Q:VK)(E:XK):Prop|i(ra ja:ke)(xs:ly)(kT:b_)(js:ig)(F:Hp)(n:Nat)(_:vs=[.ref ra,.ref ja,.ref f])(_:aC F H)(_:H ra=some (.lst kT))(_:Paired (λx v=>IsL x v F) xs kT)(_:H ja=some (.lst ((nI js).map V.int)))(_:∀j∈js,j<=3)(_:xs.length<=4)(_:js.length=xs.length / 2)(_:∀x∈xs,x.length=n)(_:n<=64)(_:∀H' p NT,aC H H'->H' p=some (.lst NT)->H p=none->Paired (λx v=>IsL x v (vt F (nw H H'))) (km g js xs) NT->Q (.ref p) H')
def tZ (T:Txt K mg t){f:ke}{ps:mX}{g:Nat->Int->Int->Int×Int}(F:lx P w K mg lQ jh 1 f fd ps (Sz g))(hk:il K (.ref f)=true)(hb:Binds K fd ps []):
  T.kY.Ok P w mg lQ jh 2 (Uu K f g):=by
 refine T.kY.ok λnd H vs Q E hr h=>?_;obtain⟨ra,ja,xs,kT,js,F0,n,rfl,hF,qo,pr,QF,j3,x4,jl,xn,CK,k⟩:=h;refine .i (ao (fL 3 nd (su mD rfl T.Ec GA (ak (pv 0) ax)))
   (ao (gY PassesOwn.never rfl (GV rfl T.tX (ak (pv 1) ax)) (yK rfl (fm (mv 4 nd) (fm (mv 5 nd) pj)))
    (ao (psc 6 [("a",7),("b",8)] nd (Br rfl T.IT (ak (J6 (pv 0) (aX fQ aK (pv 4))) (ak (J6 (pv 0) (aX dz (aX fQ aK (pv 4)) aK)) ax))) (GU (K:=K) (n:=2) rfl rfl (fm (mv 7 nd) (fm (mv 8 nd) pj)) rfl rfl) (P0 (pv 2) F (hr.mono (by decide)) hk hb .nil bG (ak (pv 5) (ak (pv 7) (ak (pv 8) ax)))))
   (ao (yN (GW [("two",9)] nd (fB (pv 6)) (mv 9 nd) (w8 (r:=Sj K) D8 (pv 9) aK (λ_ _=>rfl))) (yJ (pv 3) (aX fQ aK (pv 4)) set_list))
   (aH (yN (GW [("two",9)] nd (fB (pv 6)) (mv 9 nd) (w8 (r:=Sj K) D8 (pv 9) aK (λ_ _=>rfl))) (yJ (pv 3) (aX dz (aX fQ aK (pv 4)) aK) set_list))))))
   (aH (bz (pv 3))))) ?_
 have rl:xs.length=kT.length:=dR pr;refine⟨_,Z,ra,_,Z,i3 qo,λC nC=>?_⟩;have s0:aC H (upd H C (.lst kT)):=aC.upd nC;refine⟨_,Z,ja,_,Z,i2 (s0 _ _ QF),?_⟩;refine Cw (xs:=(nI js).map V.int) (λi σ H'=>X7 λy1 y2 y3 y4 y5 y6 XG=>C4 (σ=[some (.ref ra),some (.ref ja),some (.ref f),some (.ref C),y1,y2,y3,y4,y5,y6]) (aC H H') (H' C=some (.lst XG)) (Paired (λx v=>IsL x v (vt F0 (nw (upd H C (.lst kT)) H'))) (km g (js.take i) xs) XG))
  ⟨none,none,none,none,none,none,kT,Z,s0,aq,?_⟩ (λi σ H' _ ⟨_,_,_,_,_,_,_,_,sm,_,_⟩=>i2 (sm _ _ QF)) ?_ ?_
 .rw[N0,o8];exact Paired.lR pr λx v z=>z.same Fs
 .rintro i σ H' x Tt hi ⟨y1,y2,y3,y4,y5,y6,XG,rfl,sm,eC,pc⟩ hx nT;have Ir:i<js.length:=by simpa using hi
  have hj:js[i]? =some (js[i]'Ir):=aD Ir;obtain⟨j,hj'⟩:∃j,js[i]'Ir=j:=⟨_,Z⟩;rw[hj'] at hj;have ex:x=V.int (j:Int):=by
   rw[aw,aw,hj] at hx;exact(bh hx).symm
  subst ex;have J5:2*i<xs.length:=by lia
  have Yz:2*i+1<xs.length:=by lia
  obtain⟨a,ha⟩:∃a,xs[2*i]? =some a:=⟨_,aD J5⟩;obtain⟨b,BJ⟩:∃b,xs[2*i+1]? =some b:=⟨_,aD Yz⟩;have la:a.length=n:=xn a (az ha);have lb:b.length=n:=xn b (az BJ);obtain⟨va,hva,pa,rfl,Yr⟩:=zm pr ha;obtain⟨vb,hvb,pb,rfl,hpb⟩:=zm pr BJ;have s1:aC H (upd H' Tt (.tup [V.int (i:Nat),V.int (j:Int)])):=sm.trans (aC.upd nT);have ile:i<=2:=by lia
  refine⟨Tt,_,Z,i2 aq,Z,_,_,Z,_,_,Z,Z,?_⟩;refine⟨_,Z,_,Z,_,_,Z,Z,.inl ⟨by decide,by decide⟩,ra,_,_,_,Z,Z,i2 (s1 _ _ qo),at_of (j:=2*i) (by lia) hva,?_⟩;refine⟨_,Z,_,Z,_,_,Z,Z,.inl ⟨by decide,by decide⟩,_,_,Z,Z,ra,_,_,_,Z,Z,i2 (s1 _ _ qo),at_of (j:=2*i+1) (by lia) hvb,?_⟩;refine⟨pa,pb,_,_,Z,i2 (s1 _ _ (hF _ _ Yr)),i2 (s1 _ _ (hF _ _ hpb)),λD hD=>?_⟩;have eC1:upd H' Tt (.tup [V.int (i:Nat),V.int (j:Int)]) C=some (.lst XG):=by rw[aF (aI eC nT)];exact eC
  refine Nd (J:=Itz K pa pb) (dO (g j) a b) isP (λx v H H' h m=>h.same m) hD (by rw[aE];simp;lia) (λH2 pL=>⟨_,_,i2 (pL _ _ (s1 _ _ (hF _ _ Yr))),i2 (pL _ _ (s1 _ _ (hF _ _ hpb))),.inl (by simp;lia)⟩)
   (λq H2 hq pL=>⟨a.map V.int,b.map V.int,_,_,i2 (pL _ _ (s1 _ _ (hF _ _ Yr))),i2 (pL _ _ (s1 _ _ (hF _ _ hpb))),aD (by simp at hq|-;lia),aD (by simp at hq|-;lia)⟩)
   (λq z v H2 H3 Q2 hz pL ⟨T2,u1,u2,e1,e2,e3,e4,e5⟩ k2=>?_) λH2 ys pL eD pD=>?_
  .subst e1 e3;have e4:=e4 _ (i2 (pL _ _ (s1 _ _ (hF _ _ Yr))));have e5:=e5 _ (i2 (pL _ _ (s1 _ _ (hF _ _ hpb))));rw[aw] at e4 e5;cases qa:a[q]? with
   |none=>rw[qa] at e4;cases e4
   |some a1=>
    cases qb:b[q]? with
    |none=>rw[qb] at e5;cases e5
    |some b1=>
     rw[qa] at e4;rw[qb] at e5;cases e4;cases e5;have ez:z=g j a1 b1:=by
      rw[qW,qa,qb] at hz;exact(bh hz).symm
     subst ez;refine⟨T2,_,Z,i2 aq,Z,_,_,Z,_,_,Z,Z,Z,_,Z,Z,_,Z,_,Z,_,Z,j,a1,b1,Z,j3 j (az hj),λv H4 s4 hv=>?_⟩;exact k2 v H4 ((aC.upd e2).trans s4) (hv.same (o_ (aC.upd e2)))
  .have ou:ys.length=n:=by rw[<-dR pD];simp;lia
   have eC2:=pL _ _ eC1;have nDC:D≠C:=b8 eC1 hD;refine⟨_,Z,D,Z,⟨_,i2 eD⟩,λD2 nD2=>?_⟩;refine nu (ys:=(Jn g j a b).map V.int) nD2 (by rw[aE];simp[Jn];lia) (i2 eD) (by simp[Jn,ou];lia) (λq u y H3 Q3 hu hy AG k3=>?_) λH3 e3 AG=>?_
   .obtain⟨z,hz,p1,rfl,QG⟩:=iS pD hu;have ey:y=V.int z.1:=by
     unfold Jn at hy;rw[aw,aw,hz] at hy;exact(bh hy).symm
    subst ey;exact⟨Z,_,Z,p1,_,_,_,Z,Z,i2 (AG _ _ (iK _ _ QG)),Z,k3 _ (aC.refl _)⟩
   .have eC3:=AG _ _ eC2;refine⟨_,Z,_,Z,_,_,Z,Z,.inl ⟨by decide,by decide⟩,C,XG,_,2*i,Z,Z,eC3,qp (by lia) (by rw[<-dR pc,gG];lia),?_⟩;have c4:∀b o,H3 b=some o->b≠C->upd H3 C (.lst (XG.set (2*i) (.ref D2))) b=some o:=λb o e nb=>by rw[aF nb];exact e
    have eD4:=c4 _ _ (AG _ _ eD) nDC;refine⟨_,Z,D,Z,⟨_,i2 eD4⟩,λD3 nD3=>?_⟩;have eC4:upd H3 C (.lst (XG.set (2*i) (.ref D2))) C=some (.lst (XG.set (2*i) (.ref D2))):=aq;refine nu (ys:=(Jo g j a b).map V.int) nD3 (by rw[aE];simp[Jo];lia) (i2 eD4) (by simp[Jo,ou];lia) (λq u y H5 Q5 hu hy NK k5=>?_) λH5 e5 NK=>?_
    .obtain⟨z,hz,p1,rfl,QG⟩:=iS pD hu;have ey:y=V.int z.2:=by
      unfold Jo at hy;rw[aw,aw,hz] at hy;exact(bh hy).symm
     subst ey;have np:p1≠C:=b8 eC1 ((aT.mp QG).1);exact⟨Z,_,Z,p1,_,_,_,Z,Z,i2 (NK _ _ (c4 _ _ (AG _ _ (iK _ _ QG)) np)),Z,k5 _ (aC.refl _)⟩
    .have eC5:=NK _ _ eC4;refine⟨_,Z,_,Z,_,_,Z,Z,.inl ⟨by decide,by decide⟩,_,_,Z,Z,C,_,_,2*i+1,Z,Z,eC5,qp (by lia) (by rw[ff,<-dR pc,gG];lia),?_⟩;have af6:D2≠C:=b8 eC2 nD2;have ajZ:D3≠C:=b8 eC4 nD3;have aiz:∀x o,H' x=some o->x≠C->upd H5 C (.lst ((XG.set (2*i) (.ref D2)).set (2*i+1) (.ref D3))) x=some o:=λx o e nx=>by
      rw[aF nx];exact NK _ _ (c4 _ _ (AG _ _ (pL _ _ (by rw[aF (aI e nT)];exact e))) nx)
     have fr2:H D2=none:=by
      have:=pL.free nD2;exact sm.free (bO this).2
     have fr3:H D3=none:=by
      have h0:=(bO nD3).2;have:=pL.free (AG.free h0);exact sm.free (bO this).2
     have n2:upd H C (.lst kT) D2=none:=by rw[aF af6];exact fr2
     have n3:upd H C (.lst kT) D3=none:=by rw[aF ajZ];exact fr3
     refine⟨_,_,_,_,_,_,_,Z,λx o e=>aiz x o (sm _ _ e) (aI e nC),aq,?_⟩;rw[Av g js xs i j a b hj ha BJ (by lia)];have hF1:aC F0 (upd H C (.lst kT)):=hF.trans s0;refine Bq ?_ _ (Bq ?_ _ (Paired.lR pc λx v z=>z.same (JK λb o e=>?_)))
     .refine⟨D3,Z,Z8 hF1 _ _ (aT.mpr ⟨n3,?_⟩)⟩;rw[aF ajZ];exact e5
     .refine⟨D2,Z,Z8 hF1 _ _ (aT.mpr ⟨n2,?_⟩)⟩;rw[aF af6];exact NK _ _ (c4 _ _ e3 af6)
     .obtain⟨z1,z2⟩:=aT.mp e;exact aT.mpr ⟨z1,aiz _ _ z2 (bO z1).1⟩
 .rintro σ H' ⟨y1,y2,y3,y4,y5,y6,XG,rfl,sm,eC,pc⟩;rw[aB,aB,gj] at pc;refine⟨_,Z,k H' C XG sm eC nC (Paired.lR pc λx v z=>z.same (JK (qu λb hb=>(bO hb).2)))⟩
def ane (t:fP)(b:Bool):ke:=if b=true then t.ym else t.yo
def aiB (b:Bool):Nat->Int->Int->Int×Int:=if b=true then sL else zJ
def vj:T.kY.Ok P w mg lQ jh 2 (λvs H Q E=>∃b:Bool,True/\Uu K (ane t b) (aiB b) vs H Q E):=by
 refine lx.exP λb _=>?_;cases b with
 |true=>exact tZ T (Nn T) T.qz.F.kp T.qz.b
 |false=>exact tZ T (Np T) T.qB.F.kp T.qB.b
end
open PySem PySem.Spec PyProof.Rows L2 Mx
def fz (G H H':Hp):Prop:=∀b o,H b=some o->G b=none->H' b=some o
def grow (G H H':Hp):Hp:=λb=>if(G b).isSome=true\/H b=none then H' b else none
def bC {b:ke}:grow G H H' b=some o↔((G b).isSome=true\/H b=none)/\H' b=some o:=by
 unfold grow;split
 .rename_i h;simp[h]
 .rename_i h;simp[h]
def cg:aC (grow G H H') H':=λb o e=>(bC.mp e).2
def isS {α:Type}{x:Option α}:x.isSome=true↔x≠none:=by cases x<;>simp
def cU {b:ke}(h:H b=some o)(g:G b=none):grow G H H' b=none:=by
 cases e:grow G H H' b with
 |none=>rfl
 |some u=>
  rcases(bC.mp e).1 with z|z
  .rw[g] at z;cases z
  .rw[h] at z;cases z
def fz.refl:fz G H H:=λ_ _ e _=>e
def fz.same (h:aC H H'):fz G H H':=λb o e _=>h b o e
def fz.trans (a:fz G H H1)(b:fz (grow G H H1) H1 H2):fz G H H2:=λx o e n=>b x o (a x o e n) (cU e n)
def fz.dom (a:fz G H H'){b:ke}(h:H' b=none):(G b).isSome=true\/H b=none:=by
 cases e:H b with
 |none=>exact .inr rfl
 |some o=>
  refine .inl (isS.mpr λg=>?_);rw[a b o e g] at h;cases h
def oh (a:fz G H H1):aC (grow (grow G H H1) H1 H2) (grow G H H2):=λb o e=>by
 obtain⟨z1,z2⟩:=bC.mp e;refine bC.mpr ⟨?_,z2⟩;rcases z1 with z|z
 .obtain⟨u,hu⟩:=cZ.mp z;exact(bC.mp hu).1
 .exact a.dom z
def zd (h:aC G H):aC G (grow G H H):=λb o e=>bC.mpr ⟨.inl (by rw[e];rfl),h _ _ e⟩
def Vu (s:aC H1 H2):aC (grow G H H1) (grow G H H2):=λb o e=>by
 obtain⟨z1,z2⟩:=bC.mp e;exact bC.mpr ⟨z1,s _ _ z2⟩
def fz.other (k:fz G H H')(h:aC F H)(a:Apart F G):aC F H':=λb o e=>k b o (h b o e) ((a b).resolve_left (by rw[e];simp))
def gW (h:aC F H)(a:Apart F G):Apart F (grow G H H'):=λb=>by
 cases e:F b with
 |none=>exact .inl rfl
 |some o=>exact .inr (cU (h b o e) ((a b).resolve_left (by rw[e];simp)))
def Apart.le (a:Apart F G)(h:aC G' G):Apart F G':=λb=>by
 rcases a b with z|z
 .exact .inl z
 .exact .inr (h.free z)
structure G8 (G0 H0 H:Hp)(Gs:Nat->Hp):Prop where
 keep:fz G0 H0 H
 sub:∀i,aC (Gs i) (grow G0 H0 H)
 ap:∀i j,i≠j->Apart (Gs i) (Gs j)
def setG (Gs:Nat->Hp)(i:Nat)(G:Hp):Nat->Hp:=λj=>if j=i then G else Gs j
def gy:setG Gs i G i=G:=by unfold setG;rw[aj rfl]
def f6 {j:Nat}(h:j≠i):setG Gs i G j=Gs j:=by unfold setG;rw[ah h]
def G8.le (f:G8 G0 H0 H Gs)(i:Nat):aC (Gs i) H:=(f.sub i).trans cg
def G8.step (f:G8 G0 H0 H Gs)(i:Nat)(k:fz (Gs i) H H'):G8 G0 H0 H' (setG Gs i (grow (Gs i) H H')):=by
 refine⟨λb o e n=>k b o (f.keep b o e n) ((f.sub i).free (cU e n)),λj b o e=>?_,λp q Yu=>?_⟩
 .by_cases h:j=i
  .subst h;rw[gy] at e;obtain⟨z1,z2⟩:=bC.mp e;refine bC.mpr ⟨?_,z2⟩;rcases z1 with z|z
   .obtain⟨u,hu⟩:=cZ.mp z;exact(bC.mp (f.sub j _ _ hu)).1
   .exact f.keep.dom z
  .rw[f6 h] at e;obtain⟨z1,z2⟩:=bC.mp (f.sub j _ _ e);exact bC.mpr ⟨z1,k b o z2 ((f.ap j i h b).resolve_left (by rw[e];simp))⟩
 .have one:∀q,q≠i->Apart (Gs q) (grow (Gs i) H H'):=λq hq=>gW (f.le q) (f.ap q i hq);by_cases hp:p=i
  .subst hp;rw[gy,f6 (eK Yu)];exact(one q (eK Yu)).symm
  .rw[f6 hp];by_cases hq:q=i
   .subst hq;rw[gy];exact one p hp
   .rw[f6 hq];exact f.ap p q Yu
def G8.grown (f:G8 G0 H0 H Gs)(s:aC H H'):G8 G0 H0 H' Gs:=
 ⟨λb o e n=>s _ _ (f.keep b o e n),λi=>(f.sub i).trans (Vu s),f.ap⟩
def G8.side (f:G8 G0 H0 H Gs)(c:dE S H H')(h0:∀a∈S,(G0 a).isSome=true\/H0 a=none)(hs:∀a∈S,∀i,Gs i a=none):G8 G0 H0 H' Gs:=
 ⟨λb o e n=>c b o (f.keep b o e n) λm=>by rcases h0 b m with z|z;(rw[n] at z;cases z);(rw[e] at z;cases z),λi b o e=>by
  obtain⟨z1,z2⟩:=bC.mp (f.sub i _ _ e);exact bC.mpr ⟨z1,c b o z2 λm=>by rw[hs b m i] at e;cases e⟩,f.ap⟩
def fU {b:ke}(c:dE [x] H H')(hx:H' x=some o)(h:H' b=none):H b=none:=by
 cases e:H b with
 |none=>rfl
 |some u=>
  by_cases m:b=x
  .subst m;rw[hx] at h;cases h
  .rw[c.one e m] at h;cases h
section
variable{P:bJ}{w:cz}{K:au}{mg:sO}{lQ:Heap}{t:fP}(T:Txt K mg t)
def XD (xs:b_):qZ xs none (some (-1))=xs.dropLast:=by
 unfold qZ;rw[HT.JA,iD,ur,UO];congr 1;show(if(-1:Int)<0 then((-1:Int)+(xs.length:Int)).toNat else min (-1:Int).toNat xs.length)=_;rw[aj (by decide),UK];exact xo xs.length 1
abbrev iL (l:bY):HO:=.lst (l.map V.int)
inductive Om (t:fP)(F G:Hp)(s:eP)(l:pK)(v:V):Prop|i a dx sv wa pa(_:v=.ref a)(_:G a=some (.ins t.bE dx [("stage",sv),("weights",.ref wa),("past",.ref pa)]))(_:StA t s sv F)(_:G wa=some (iL l.w))(_:G pa=some (iL l.h))
def Om.same {l:pK}(h:Om t F G s l v)(f:aC F F')(g:aC G G'):Om t F' G' s l v:=by
 obtain⟨a,dx,sv,wa,pa,e,h1,h2,h3,h4⟩:=h;exact⟨a,dx,sv,wa,pa,e,g _ _ h1,h2.same f,g _ _ h3,g _ _ h4⟩
inductive aes (t:fP)(vs:b_)(H:Hp)(Q:VK)(E:XK):Prop|i x dx sv s(_:vs=[.ref x,sv])(_:H x=some (.ins t.bE dx []))(_:StA t s sv H)(_:s.taps<=16)(_:∀H' wa pa,dE [x] H H'->H' x=some (.ins t.bE dx [("stage",sv),("weights",.ref wa),("past",.ref pa)])->H' wa=some (iL (aM s.taps 0))->H' pa=some (iL (aM s.taps 0))->H wa=none->H pa=none->Q .gS H')
def Jx (n:Nat):(aM ((n:Int)).toNat [V.int 0]).flatten=(aM n (0:Int)).map V.int:=by
 rw[bF,aaz];induction n with
 |zero=>rfl
 |succ n ih=>rw[fN,jZ,ih,fN];rfl
def rF:T.kI.Ok P w mg lQ jh 1 (aes t):=by
 refine T.kI.ok λnd H vs Q E hr h=>?_;obtain⟨x,dx,sv,s,rfl,hx,⟨sa,ds,rfl,hs⟩,h16,k⟩:=h;refine .i (ao (ki (pv 0) (pv 1))
   (ao (ki (pv 0) (aX Ek (eE (ak aK ax)) (cQ (pv 1))))
   (aH (ki (pv 0) (aX Ek (eE (ak aK ax)) (cQ (pv 1))))))) ?_
 have nsx:sa≠x:=hG hs hx (by intro z;injection z with _ _ z;cases z);refine⟨_,Z,_,Z,Z,hx,T.bM,Z,Z,tI [("stage",.ref sa)],?_⟩;have c1:dE [x] H (upd H x (.ins t.bE dx [("stage",.ref sa)])):=dE.refl.d_ (by simp);have x1:upd H x (.ins t.bE dx [("stage",.ref sa)]) x=some (.ins t.bE dx [("stage",.ref sa)]):=aq;generalize upd H x (.ins t.bE dx [("stage",.ref sa)])=H1 at c1 x1|-
 refine⟨by rw[aE];simp,λp1 n1=>?_⟩;have s1:aC H1 (upd H1 p1 (.lst [.int 0])):=aC.upd n1;refine⟨_,Z,Z,s1 _ _ (c1.one hs nsx),T.iq,Z,Z,p1,_,_,Z,Z,aq,by lia,by lia,by rw[aE];simp;lia,λwa n2=>?_⟩;rw[Jx];have s2:aC H1 (upd (upd H1 p1 (.lst [.int 0])) wa (iL (aM s.taps 0))):=s1.trans (aC.upd n2);have w2:upd (upd H1 p1 (.lst [.int 0])) wa (iL (aM s.taps 0)) wa=some (iL (aM s.taps 0)):=aq;have nw2:H wa=none:=fU c1 x1 (s1.free n2);have nwx:wa≠x:=b8 hx nw2;generalize upd (upd H1 p1 (.lst [.int 0])) wa (iL (aM s.taps 0))=H2 at s2 w2|-
 refine⟨_,Z,Z,s2 _ _ x1,T.bM,Z,Z,tI [("stage",.ref sa),("weights",.ref wa)],?_⟩;have c3:dE [x] H (upd H2 x (.ins t.bE dx [("stage",.ref sa),("weights",.ref wa)])):=(c1.trans s2.chg).d_ (by simp);have x3:upd H2 x (.ins t.bE dx [("stage",.ref sa),("weights",.ref wa)]) x=some (.ins t.bE dx [("stage",.ref sa),("weights",.ref wa)]):=aq;have w3:upd H2 x (.ins t.bE dx [("stage",.ref sa),("weights",.ref wa)]) wa=some (iL (aM s.taps 0)):=by rw[aF nwx];exact w2
 generalize upd H2 x (.ins t.bE dx [("stage",.ref sa),("weights",.ref wa)])=H3 at c3 x3 w3|-
 refine⟨by rw[aE];simp,λp3 n3=>?_⟩;have s3:aC H3 (upd H3 p3 (.lst [.int 0])):=aC.upd n3;refine⟨_,Z,Z,s3 _ _ (c3.one hs nsx),T.iq,Z,Z,p3,_,_,Z,Z,aq,by lia,by lia,by rw[aE];simp;lia,λpa n4=>?_⟩;rw[Jx];have s4:aC H3 (upd (upd H3 p3 (.lst [.int 0])) pa (iL (aM s.taps 0))):=s3.trans (aC.upd n4);have np2:H pa=none:=fU c3 x3 (s3.free n4);have npx:pa≠x:=b8 hx np2;refine⟨_,Z,Z,s4 _ _ x3,T.bM,Z,Z,tI [("stage",.ref sa),("weights",.ref wa),("past",.ref pa)],?_⟩;exact k _ wa pa ((c3.trans s4.chg).d_ (by simp)) aq (by rw[aF nwx];exact s4 _ _ w3) (by rw[aF npx,aq]) nw2 np2
def Ur {sv:V}(hF:aC F H)(hs:StA t s sv F)(h16:s.taps<=16)(n1:H x=none)(n2:H dx=none)(k:∀H',aC H H'->Om t F (nw H H') s (uN s) (.ref x)->Q .gS H'):
  aes t [.ref x,sv] (upd (upd H dx (.own x)) x (.ins t.bE dx [])) Q E:=by
 have s1:aC H (upd (upd H dx (.own x)) x (.ins t.bE dx [])):=gA n1 n2;exact⟨x,dx,sv,s,Z,aq,hs.same (hF.trans s1),h16,λH' wa pa c hx hw hp nw1 np1=>k _ (dE.back s1 c (by intro y hy;rw[show y=x from by simpa using hy];exact n1)) ⟨x,dx,sv,wa,pa,Z,aT.mpr ⟨n1,hx⟩,hs,aT.mpr ⟨s1.free nw1,hw⟩,aT.mpr ⟨s1.free np1,hp⟩⟩⟩
def Xk (s:eP)(l:pK):Prop:=iw s/\xQ s l
inductive agy (t:fP)(vs:b_)(H:Hp)(Q:VK)(E:XK):Prop|i v s l(_:vs=[v])(_:Om t H H s l v)(_:Xk s l)(_:∀H',aC H H'->Q (.int (fh s l)) H')
def Ea (s:eP):decide (V.int (Mx.kindOf s)=V.int 1)=s.wide:=by
 rw[og];cases h:s.wide<;>simp[Mx.kindOf,h]
def oy:T.iM.Ok P w mg lQ jh 1 (agy t):=by
 refine T.iM.ok λnd H vs Q E hr h=>?_;obtain⟨v,s,l,rfl,⟨a,dx,sv,wa,pa,rfl,ha,⟨sa,ds,rfl,hs⟩,hw,hp⟩,⟨sg,so⟩,k⟩:=h;rw[EN so] at k;refine .i (ao (fL 1 nd (gP (Mt rfl) rfl T.Uc aeE (ak (GW [("w",2),("h",3)] nd (Br rfl T.IT (ak (cQ (pv 0)) (ak (cQ (pv 0)) ax))) (GU (K:=K) (n:=2) rfl rfl (fm (mv 2 nd) (fm (mv 3 nd) pj)) rfl rfl) (aX fQ (pv 2) (pv 3))) ax)))
   (ao (gi (rf lp (cQ (cQ (pv 0))) (fF T.IE)) (aH (bz (aX jM (aX dz (pv 1) aK) aK))) cT)
   (aH (bz (aX jM (aX dz (aX uG (pv 1) (cQ (cQ (pv 0)))) aK) aK))))) ?_
 have hl:l.w.length=l.h.length:=by rw[so.wl,so.hl]
 have mw:=vd s;have mh:=zj s;have t16:=sg.2.1;refine⟨_,Z,Z,ha,T.bM,Z,Z,_,Z,Z,ha,T.bM,Z,Z,wa,pa,_,_,Z,i2 hw,i2 hp,λD hD=>?_⟩;refine Nc (ys:=(dO (λx y=>x*y) l.w l.h).map V.int) hD (by rw[aE];simp;have:=so.wl;lia) (i2 hw) (i2 hp) (by simp;lia) (by simp;lia) (λi x z y Tt H2 Q2 hx hz hy sm nT k2=>?_) λH2 e2 pL=>?_
 .rw[aw] at hx hz;rw[aw,qW] at hy;cases qa:l.w[i]? with
  |none=>rw[qa] at hx;cases hx
  |some x1=>
   cases qb:l.h[i]? with
   |none=>rw[qb] at hz;cases hz
   |some z1=>
    rw[qa] at hx hy;rw[qb] at hz hy;cases hx;cases hz;cases hy;have b1:=so.wb x1 (az qa);exact⟨Tt,_,Z,i2 aq,Z,_,_,Z,_,_,Z,Z,Z,_,Z,_,Z,_,_,Z,Z,.inl ⟨by lia,by lia⟩,k2 _ (aC.refl _)⟩
 .refine⟨D,_,Z,i2 e2,_,Z,Z,pL _ _ ha,T.bM,Z,Z,Z,pL _ _ hs,T.iq,Z,Z,Z,_,Z,?_⟩;rw[Ea];have hd:=MJ (B:=ox s) (C:=mH s) mw.1 mh.1 so.wb so.hb;unfold sR at hd k;have k':=k H2 pL;cases hq:s.wide with
  |true=>
   rw[hq,aj rfl] at k';exact eZ ⟨_,Z,_,_,Z,Z,_,_,Z,Z,⟨by decide,by decide⟩,k'⟩
  |false=>
   rw[hq,ah (by decide)] at k';have lim:(dO (λ(a b:Int)=>a*b) l.w l.h).sum.natAbs<2^64:=by
    have h1:ox s*mH s<=1048576*1073741824:=BV mw.2 mh.2 mh.1 (by decide);have h0:0<=ox s*mH s:=kZ mw.1 mh.1;have h2:(l.w.length:Int)*(ox s*mH s)<=16*(1048576*1073741824):=BV (by have:=so.wl;lia) h1 h0 (by decide);lia
   refine fK ⟨_,Z,_,Z,Z,pL _ _ ha,T.bM,Z,Z,Z,pL _ _ hs,T.iq,Z,Z,_,_,Z,Z,⟨by lia,by have:=sg.2.2.2.2.1;lia,lim⟩,_,_,Z,Z,_,_,Z,Z,⟨by decide,by decide⟩,?_⟩;have e:((s.scale:Int)).toNat=s.scale:=bF _;rw[e];exact k'
inductive acL (t:fP)(vs:b_)(H:Hp)(Q:VK)(E:XK):Prop|i(v:V)(s:eP)(l:pK)(u x:Int)(F G:Hp)(_:vs=[v,.int u,.int x])(_:aC F H)(_:aC G H)(_:Apart F G)(_:Om t F G s l v)(_:Xk s l)(_:∀H',fz G H H'->Om t F (grow G H H') s (mB s l u x) v->Q .gS H')
def qH:T.jY.Ok P w mg lQ jh 2 (acL t):=by
 refine T.jY.ok λnd H vs Q E hr h=>?_;obtain⟨v,s,l,u,x,F,G,rfl,sF,sG,ap,⟨a,dx,sv,wa,pa,rfl,ha,⟨sa,ds,rfl,hs⟩,hw,hp⟩,⟨sg,so⟩,k⟩:=h;refine .i (ao (fL 3 nd (aX fQ (kq T.S6 (Y1 T) hr bG (ak (pv 2) ax)) (cQ (cQ (pv 0)))))
   (ao (fL 4 nd (qK (rf lp (cQ (cQ (pv 0))) (fF T.IE)) (fF T.Bj) (fF T.Aw)))
   (ao (ki (pv 0) (GW [("w",6),("h",7)] nd (Br rfl T.IT (ak (cQ (pv 0)) (ak (cQ (pv 0)) ax))) (GU (K:=K) (n:=2) rfl rfl (fm (mv 6 nd) (fm (mv 7 nd) pj)) rfl rfl) (kq T.G5 (Nm T) hr bG (ak (aX dz (pv 6) (aX fQ (pv 3) (kq T.S6 (Y1 T) hr bG (ak (pv 7) ax)))) (ak (pv 4) ax)))))
   (ao (fL 5 nd (qK (rf lp (cQ (cQ (pv 0))) (fF T.IE)) (fF T.CH) (fF T.Aw)))
   (aH (ki (pv 0) (aX mP (eE (ak (kq T.G5 (Nm T) hr bG (ak (aX sZ (pv 1) (cQ (cQ (pv 0)))) (ak (pv 5) ax))) ax)) (psl (cQ (pv 0)) GX (qv (t6 pE aK)))))))))) ?_
 have hl:l.w.length=l.h.length:=by rw[so.wl,so.hl]
 have mw:=vd s;have mh:=zj s;have t16:=sg.2.1;have t1:=sg.1;have hsx:=Us x;have g1:=sg.2.2.1;have g2:=sg.2.2.2.1;have HA:=sG _ _ ha;have HS:=sF _ _ hs;refine⟨_,Z,x,Z,_,Z,Z,HA,T.bM,Z,Z,Z,HS,T.iq,Z,Z,_,_,Z,Z,.inl ⟨by lia,by lia⟩,?_⟩;refine⟨_,Z,Z,HA,T.bM,Z,Z,Z,HS,T.iq,Z,Z,Z,_,Z,?_⟩;rw[Ea];refine ajO ?_;have em:(if s.wide=true then V.int 1048576 else V.int 32767)=V.int (ox s):=by unfold ox;cases s.wide<;>rfl
 rw[em];refine⟨_,Z,Z,HA,T.bM,Z,Z,_,Z,Z,HA,T.bM,Z,Z,wa,pa,_,_,Z,i2 (sG _ _ hw),i2 (sG _ _ hp),λD hD=>?_⟩;refine Nc (ys:=(dO (λw h=>jP (w+zI x*(s.gain:Int)*zI h) (ox s)) l.w l.h).map V.int) hD (by rw[aE];simp;have:=so.wl;lia) (i2 (sG _ _ hw)) (i2 (sG _ _ hp)) (by simp;lia) (by simp;lia) (λi x z y Tt H2 Q2 hx hz hy sm nT k2=>?_) λH2 e2 pL=>?_
 .rw[aw] at hx hz;rw[aw,qW] at hy;cases qa:l.w[i]? with
  |none=>rw[qa] at hx;cases hx
  |some x1=>
   cases qb:l.h[i]? with
   |none=>rw[qb] at hz;cases hz
   |some z1=>
    rw[qa] at hx hy;rw[qb] at hz hy;cases hx;cases hz;cases hy;have hz1:=Us z1;exact⟨Tt,_,Z,i2 aq,Z,_,_,Z,_,_,Z,Z,Z,_,Z,_,Z,_,Z,z1,Z,_,_,Z,Z,.inr ⟨by lia,by lia⟩,_,_,Z,Z,_,Z,_,_,Z,mw.1,k2 _ (aC.refl _)⟩
 .have S7:=pL _ _ HA;refine⟨_,Z,Z,S7,T.bM,Z,Z,tI [("stage",.ref sa),("weights",.ref D),("past",.ref pa)],?_⟩;have c3:dE [a] H (upd H2 a (.ins t.bE dx [("stage",.ref sa),("weights",.ref D),("past",.ref pa)])):=(pL.chg).d_ (by simp);have x3:upd H2 a (.ins t.bE dx [("stage",.ref sa),("weights",.ref D),("past",.ref pa)]) a=some (.ins t.bE dx [("stage",.ref sa),("weights",.ref D),("past",.ref pa)]):=aq;have nDa:D≠a:=b8 HA hD;have d3:upd H2 a (.ins t.bE dx [("stage",.ref sa),("weights",.ref D),("past",.ref pa)]) D=some (iL (dO (λw h=>jP (w+zI x*(s.gain:Int)*zI h) (ox s)) l.w l.h)):=by rw[aF nDa];exact e2
  generalize upd H2 a (.ins t.bE dx [("stage",.ref sa),("weights",.ref D),("past",.ref pa)])=H3 at c3 x3 d3|-
  have nsa:sa≠a:=hG HS HA (by intro z;injection z with _ _ z;cases z);have npa:pa≠a:=hG (sG _ _ hp) HA (by intro z;cases z);have WS:=c3.one HS nsa;have hp3:=c3.one (sG _ _ hp) npa;refine⟨_,Z,Z,x3,T.bM,Z,Z,Z,WS,T.iq,Z,Z,Z,_,Z,?_⟩;rw[Ea];refine ajO ?_;have em:(if s.wide=true then V.int 1073741824 else V.int 32767)=V.int (mH s):=by unfold mH;cases s.wide<;>rfl
  rw[em];refine⟨_,Z,_,Z,Z,x3,T.bM,Z,Z,Z,WS,T.iq,Z,Z,_,_,Z,Z,(by show(0:Int)<=_;lia),_,Z,_,_,Z,mh.1,by rw[aE];simp,λp1 n1=>?_⟩;have s4:aC H3 (upd H3 p1 (.lst [.int (jP (u / 2^((s.scale:Int)).toNat) (mH s))])):=aC.upd n1;refine⟨_,Z,Z,s4 _ _ x3,T.bM,Z,Z,_,Z,_,Z,pa,_,Z,i2 (s4 _ _ hp3),λp2 n2=>?_⟩;have s5:=aC.upd (o:=.lst (qZ (l.h.map V.int) none (some (-1)))) n2;have h1:=s5 _ _ (aq (H:=H3) (a:=p1));refine⟨p1,p2,_,_,Z,Z,h1,aq,by have:=EI (l.h.map V.int) none (some (-1));have:=so.hl;rw[aE];simp at*;lia,λp3 n3=>?_⟩;have s6:=(s4.trans s5).trans (aC.upd (o:=.lst ([V.int (jP (u / 2^((s.scale:Int)).toNat) (mH s))]++qZ (l.h.map V.int) none (some (-1)))) n3);have e3:[V.int (jP (u / 2^((s.scale:Int)).toNat) (mH s))]++qZ (l.h.map V.int) none (some (-1))=(mB s l u x).h.map V.int:=by
   rw[LH so t1 (λz=>(sg.2.2.2.2.2 z).1),XD,bF];simp[List.map_dropLast]
  rw[e3] at s6|-
  have nH3:H p3=none:=fU c3 x3 ((s4.trans s5).free n3);have apx:p3≠a:=b8 HA nH3;refine⟨_,Z,Z,s6 _ _ x3,T.bM,Z,Z,tI [("stage",.ref sa),("weights",.ref D),("past",.ref p3)],?_⟩;have cF:dE [a] H (upd (upd (upd (upd H3 p1 (.lst [.int (jP (u / 2^((s.scale:Int)).toNat) (mH s))])) p2 (.lst (qZ (l.h.map V.int) none (some (-1))))) p3 (.lst ((mB s l u x).h.map V.int))) a (.ins t.bE dx [("stage",.ref sa),("weights",.ref D),("past",.ref p3)])):=(c3.trans s6.chg).d_ (by simp);refine k _ (λb o e n=>cF b o e (by intro m;rw[show b=a from by simpa using m,ha] at n;cases n)) ⟨a,dx,.ref sa,D,p3,Z,bC.mpr ⟨.inl (by rw[ha];rfl),aq⟩,⟨sa,ds,Z,hs⟩,bC.mpr ⟨.inr hD,?_⟩,bC.mpr ⟨.inr nH3,?_⟩⟩
  .rw[aF nDa];refine(s6 _ _ d3).trans ?_;rw[LH so t1 (λz=>(sg.2.2.2.2.2 z).1)]
  .rw[aF apx,aq]
inductive akE (t:fP)(on:Bool)(vs:b_)(H:Hp)(Q:VK)(E:XK):Prop|i(v:V)(s:eP)(l:pK)(u:Int)(F G:Hp)(_:vs=[v,.int u])(_:aC F H)(_:aC G H)(_:Apart F G)(_:Om t F G s l v)(_:Xk s l)(_:∀H',fz G H H'->Om t F (grow G H H') s (if on=true then mB s l u (u-fh s l) else mB s l (u+fh s l) u) v->Q (.int (if on=true then u-fh s l else u+fh s l)) H')
def xx:T.lW.Ok P w mg lQ jh 3 (akE t true):=by
 refine T.lW.ok λnd H vs Q E hr h=>?_;obtain⟨v,s,l,u,F,G,rfl,sF,sG,ap,sf,sgo,k⟩:=h;obtain⟨a,dx,sv,wa,pa,rfl,ha,h2,h3,h4⟩:=id sf;refine .i (ao (fL 2 nd (aX gw (pv 1) (Fj (pv 0) T.bM T.iM (oy T) hr bG)))
   (ao (cS (qO (pv 0) T.bM T.jY (qH T) hr bG (ak (pv 1) (ak (pv 2) ax))))
   (aH (bz (pv 2))))) ?_
 refine⟨_,Z,_,Z,a,_,_,Z,sG _ _ ha,Z,_,s,l,Z,sf.same sF sG,sgo,λH1 s1=>?_⟩;refine⟨_,_,Z,Z,_,Z,a,_,_,Z,s1 _ _ (sG _ _ ha),Z,_,Z,_,Z,_,s,l,u,u-fh s l,F,G,Z,sF.trans s1,sG.trans s1,ap,sf,sgo,λH2 k2 sf2=>?_⟩;refine⟨_,Z,k H2 (λb o e n=>k2 b o (s1 _ _ e) n) (sf2.same (aC.refl _) λb o e=>?_)⟩;obtain⟨z1,z2⟩:=bC.mp e;exact bC.mpr ⟨z1.imp id s1.free,z2⟩
def ve:T.kH.Ok P w mg lQ jh 3 (akE t false):=by
 refine T.kH.ok λnd H vs Q E hr h=>?_;obtain⟨v,s,l,u,F,G,rfl,sF,sG,ap,sf,sgo,k⟩:=h;obtain⟨a,dx,sv,wa,pa,rfl,ha,h2,h3,h4⟩:=id sf;refine .i (ao (fL 2 nd (aX dz (pv 1) (Fj (pv 0) T.bM T.iM (oy T) hr bG)))
   (ao (cS (qO (pv 0) T.bM T.jY (qH T) hr bG (ak (pv 2) (ak (pv 1) ax))))
   (aH (bz (pv 2))))) ?_
 refine⟨_,Z,_,Z,a,_,_,Z,sG _ _ ha,Z,_,s,l,Z,sf.same sF sG,sgo,λH1 s1=>?_⟩;refine⟨_,_,Z,Z,_,Z,a,_,_,Z,s1 _ _ (sG _ _ ha),Z,_,Z,_,Z,_,s,l,u+fh s l,u,F,G,Z,sF.trans s1,sG.trans s1,ap,sf,sgo,λH2 k2 sf2=>?_⟩;refine⟨_,Z,k H2 (λb o e n=>k2 b o (s1 _ _ e) n) (sf2.same (aC.refl _) λb o e=>?_)⟩;obtain⟨z1,z2⟩:=bC.mp e;exact bC.mpr ⟨z1.imp id s1.free,z2⟩
inductive ac0 (t:fP)(vs:b_)(H:Hp)(Q:VK)(E:XK):Prop|i v s l F G(_:vs=[v])(_:aC F H)(_:aC G H)(_:Om t F G s l v)(_:Xk s l)(_:∀v' H',aC H H'->Om t F (nw H H') s l v'->Q v' H')
def Ab:T.nZ.Ok P w mg lQ jh 3 (ac0 t):=by
 refine T.nZ.ok λnd H vs Q E hr h=>?_;obtain⟨v,s,l,F,G,rfl,sF,sG,⟨a,dx,sv,wa,pa,rfl,ha,uA,hw,hp⟩,⟨sg,so⟩,k⟩:=h;replace ha:=sG _ _ ha;replace hw:=sG _ _ hw;replace hp:=sG _ _ hp;refine .i (ao (fL 1 nd (J7 T.Ag T.yx T.kI (rF T) hr bG (ak (cQ (pv 0)) ax)))
   (ao (ki (pv 1) (su mD rfl T.Ec GA (ak (cQ (pv 0)) ax)))
   (ao (ki (pv 1) (su mD rfl T.Ec GA (ak (cQ (pv 0)) ax)))
   (aH (bz (pv 1)))))) ?_
 refine⟨_,Z,Z,ha,T.bM,Z,Z,λb db0 m1 m2 m3=>Ur sF uA sg.2.1 m1 m2 λH1 s1 h1=>⟨Z,?_⟩⟩;obtain⟨b',db,sv',wb,pb,eb,hb,aoC,hwb,hpb⟩:=h1;cases eb;have nb:=(aT.mp hb).1;have MY:=(aT.mp hb).2;refine⟨_,Z,Z,s1 _ _ ha,T.bM,Z,Z,wa,_,Z,i3 (s1 _ _ hw),λp1 n1=>?_⟩;have s2:aC H1 (upd H1 p1 (iL l.w)):=aC.upd n1;refine⟨_,Z,Z,s2 _ _ MY,T.bM,Z,Z,tI [("stage",sv'),("weights",.ref p1),("past",.ref pb)],?_⟩;have c3:dE [b] H1 (upd (upd H1 p1 (iL l.w)) b (.ins t.bE db [("stage",sv'),("weights",.ref p1),("past",.ref pb)])):=s2.chg.d_ (by simp);have x3:upd (upd H1 p1 (iL l.w)) b (.ins t.bE db [("stage",sv'),("weights",.ref p1),("past",.ref pb)]) b=some (.ins t.bE db [("stage",sv'),("weights",.ref p1),("past",.ref pb)]):=aq;have np1:H p1=none:=s1.free n1;have n1b:p1≠b:=b8 MY n1;have w3:upd (upd H1 p1 (iL l.w)) b (.ins t.bE db [("stage",sv'),("weights",.ref p1),("past",.ref pb)]) p1=some (iL l.w):=by rw[aF n1b,aq]
 generalize upd (upd H1 p1 (iL l.w)) b (.ins t.bE db [("stage",sv'),("weights",.ref p1),("past",.ref pb)])=H3 at c3 x3 w3|-
 have AG:aC H H3:=dE.back s1 c3 (by intro y hy;rw[show y=b from by simpa using hy];exact nb);refine⟨_,Z,Z,AG _ _ ha,T.bM,Z,Z,pa,_,Z,i3 (AG _ _ hp),λp2 n2=>?_⟩;have s4:aC H3 (upd H3 p2 (iL l.h)):=aC.upd n2;refine⟨_,Z,Z,s4 _ _ x3,T.bM,Z,Z,tI [("stage",sv'),("weights",.ref p1),("past",.ref p2)],_,Z,?_⟩;have np2:H p2=none:=AG.free n2;have n2b:p2≠b:=b8 x3 n2;have smF:aC H (upd (upd H3 p2 (iL l.h)) b (.ins t.bE db [("stage",sv'),("weights",.ref p1),("past",.ref p2)])):=λy o e=>by rw[aF (aI e nb)];exact s4 _ _ (AG _ _ e)
 refine k _ _ smF ⟨b,db,sv',p1,p2,Z,aT.mpr ⟨nb,aq⟩,aoC,aT.mpr ⟨np1,?_⟩,aT.mpr ⟨np2,?_⟩⟩
 .rw[aF n1b];exact s4 _ _ w3
 .rw[aF n2b,aq]
def CJ {α:Type}{te:TE}{σ:L2.St}{Qd:Hp->Prop}{us:b_}(xs:List α)(isG:α->V->Hp->Prop)(hD:H1 D=none)(hz:xs.length<=bu)(hl:nN K H1 a us)(hn:xs.length=us.length)
  (hs:∀(i:Nat) x u H Q,xs[i]? =some x->us[i]? =some u->aC H1 H->(∀y H4,aC H H4->isG x y (nw H H4)->Q y H4)->g u (wipe σ vs) H λmG H2=>wipe mG vs=wipe σ vs/\te mG H2 Q)
  (hd:∀(H':Hp) (ys:b_) (Gs:Nat->Hp),aC H1 H'->H' D=some (.lst ys)->ys.length=xs.length->(∀i,aC (Gs i) (nw (upd H1 D (.lst [])) H'))->(∀i j,i≠j->Apart (Gs i) (Gs j))->(∀i x y,xs[i]? =some x->ys[i]? =some y->isG x y (Gs i))->Qd H'):Wr (Wq K a) g te vs σ H1 D Qd:=by
 refine IH (te:=te) (xs:=us) (λi dM H=>aC H1 H/\∃Gs:Nat->Hp,(∀j,aC (Gs j) (nw (upd H1 D (.lst [])) H))/\(∀p q,p≠q->Apart (Gs p) (Gs q))/\(∀j b,i<=j->Gs j b=none)/\∀j x y,xs[j]? =some x->dM[j]? =some y->isG x y (Gs j)) (by lia) ⟨aC.upd hD,λ_ _=>none,(λj b o e=>by cases e),(λp q _ b=>.inl rfl),(λj b _=>rfl),(λj x y _ e=>by simp at e)⟩ (λi dM H _ ⟨sm,_⟩=>sm.seq hl) (λdM H iQ eD ⟨sm,Gs,z1,z2,z3,z4⟩=>hd H dM Gs sm eD (by lia) z1 z2 z4) λi dM H u Q hi iQ eD ⟨sm,Gs,z1,z2,z3,z4⟩ hu k=>?_;have hx:xs[i]? =some (xs[i]'(by lia)):=aD (by lia);refine hs i _ u H Q hx hu sm λy H4 s4 hg=>?_;have hS:aC (nw (upd H1 D (.lst [])) H) (nw (upd H1 D (.lst [])) (upd H4 D (.lst (dM++[y])))):=λb o e=>by
  obtain⟨q1,q2⟩:=aT.mp e;exact aT.mpr ⟨q1,by rw[aF (bO q1).1];exact s4 _ _ q2⟩
 have fr:∀b,H b=none->upd H1 D (.lst []) b=none:=λb hb=>by
  by_cases e:b=D
  .subst e;rw[eD] at hb;cases hb
  .rw[aF e];exact sm.free hb
 have hN:aC (nw H H4) (nw (upd H1 D (.lst [])) (upd H4 D (.lst (dM++[y])))):=λb o e=>by
  obtain⟨q1,q2⟩:=aT.mp e;have q3:=fr b q1;exact aT.mpr ⟨q3,by rw[aF (bO q3).1];exact q2⟩
 have one:∀q,Apart (Gs q) (nw H H4):=λq b=>by
  cases e:Gs q b with
  |none=>exact .inl rfl
  |some o=>
   refine .inr ?_;have:=iK _ _ (z1 q _ _ e);cases e2:nw H H4 b with
   |none=>rfl
   |some o2=>rw[(aT.mp e2).1] at this;cases this
 refine k y H4 (s4 _ _ eD) ⟨λb o e=>by rw[aF (aI e hD)];exact s4 _ _ (sm _ _ e),setG Gs i (nw H H4),λj=>?_,λp q Yu=>?_,λj b hj=>?_,λj x z hx' hz'=>?_⟩
 .by_cases e:j=i
  .subst e;rw[gy];exact hN
  .rw[f6 e];exact(z1 j).trans hS
 .by_cases hp:p=i
  .subst hp;rw[gy,f6 (eK Yu)];exact(one q).symm
  .rw[f6 hp];by_cases hq:q=i
   .subst hq;rw[gy];exact one p
   .rw[f6 hq];exact z2 p q Yu
 .rw[f6 (by lia)];exact z3 j b (by lia)
 .by_cases e:j=i
  .subst e;rw[gy];rw[hx] at hx';cases hx';rw[gK (by lia),iQ,lP] at hz';cases hz';exact hg
  .rw[f6 e];refine z4 j x z hx' ?_;by_cases hj:j<dM.length
   .rw[jU hj] at hz';exact hz'
   .rw[gK (by lia)] at hz';have:j-dM.length≠0:=by lia
    rw[List.getElem?_singleton] at hz';rw[ah this] at hz';cases hz'
structure RfS (t:fP)(F G:Hp)(r:bL)(l:bT)(a dx:ke)(rv:V)(bf sf:ke)(vs:b_)(Gs:Nat->Hp):Prop where
 ob:G a=some (.ins t.bW dx [("row_way",rv),("before",.ref bf),("stage_filters",.ref sf)])
 lS:RwA t r rv F
 hb:G bf=some (iL (gF r.fixed l.last))
 hs:G sf=some (.lst vs)
 WV:sf≠bf
 vl:vs.length=r.stages.length
 sub:∀i,aC (Gs i) G
 na:∀i,Gs i a=none
 nb:∀i,Gs i bf=none
 ns:∀i,Gs i sf=none
 ap:∀i j,i≠j->Apart (Gs i) (Gs j)
 st:∀(i:Nat) s x v,r.stages[i]? =some s->l.stages[i]? =some x->vs[i]? =some v->Om t F (Gs i) s x v
inductive Ke (t:fP)(F G:Hp)(r:bL)(l:bT)(v:V):Prop|i(a dx:ke)(rv:V)(bf sf:ke)(vs:b_)(Gs:Nat->Hp)(_:v=.ref a)(_:RfS t F G r l a dx rv bf sf vs Gs)
def Ke.same {r:bL}{l:bT}(h:Ke t F G r l v)(f:aC F F')(g:aC G G'):Ke t F' G' r l v:=by
 obtain⟨a,dx,rv,bf,sf,vs,Gs,e,z⟩:=h;exact⟨a,dx,rv,bf,sf,vs,Gs,e,g _ _ z.ob,z.lS.same f,g _ _ z.hb,g _ _ z.hs,z.WV,z.vl,λi=>(z.sub i).trans g,z.na,z.nb,z.ns,z.ap,λi s x v h1 h2 h3=>(z.st i s x v h1 h2 h3).same f (aC.refl _)⟩
inductive aeq (t:fP)(vs:b_)(H:Hp)(Q:VK)(E:XK):Prop|i x dx rv r F(_:vs=[.ref x,rv])(_:H x=some (.ins t.bW dx []))(_:aC F H)(_:F x=none)(_:RwA t r rv F)(_:lJ r)(_:∀(H':Hp) (bf sf:ke) (NT:b_) (Gs:Nat->Hp),dE [x] H H'->H' x=some (.ins t.bW dx [("row_way",rv),("before",.ref bf),("stage_filters",.ref sf)])->H' bf=some (iL (aM r.fixed 0))->H' sf=some (.lst NT)->H bf=none->H sf=none->sf≠bf->NT.length=r.stages.length->(∀i,aC (Gs i) (nw H H'))->(∀i,Gs i bf=none/\Gs i sf=none)->(∀i j,i≠j->Apart (Gs i) (Gs j))->(∀(i:Nat) s v,r.stages[i]? =some s->NT[i]? =some v->Om t F (Gs i) s (uN s) v)->Q .gS H')
def tY:T.my.Ok P w mg lQ jh 3 (aeq t):=by
 refine T.my.ok λnd H vs Q E hr h=>?_;obtain⟨x,dx,rv,r,F,rfl,hx,sF,nFx,⟨ra,dr,sa,qP,rfl,qo,hsa,ps⟩,wg,k⟩:=h;refine .i (ao (ki (pv 0) (pv 1))
   (ao (ki (pv 0) (aX Ek (eE (ak aK ax)) (cQ (pv 1))))
   (aH (ki (pv 0) (GW [("stage",2)] nd (fB (cQ (pv 1))) (mv 2 nd) (J7 T.Ag T.yx T.kI (rF T) hr bG (ak (pv 2) ax))))))) ?_
 have f3:=wg.fx;have s2:=wg.sn;refine⟨_,Z,_,Z,Z,hx,T.dk,Z,Z,tI [("row_way",.ref ra)],?_⟩;have c1:dE [x] H (upd H x (.ins t.bW dx [("row_way",.ref ra)])):=dE.refl.d_ (by simp);have x1:upd H x (.ins t.bW dx [("row_way",.ref ra)]) x=some (.ins t.bW dx [("row_way",.ref ra)]):=aq;generalize upd H x (.ins t.bW dx [("row_way",.ref ra)])=H1 at c1 x1|-
 have FH1:aC F H1:=λb o e=>c1.one (sF _ _ e) (aI e nFx);refine⟨by rw[aE];simp,λp1 n1=>?_⟩;have s1:aC H1 (upd H1 p1 (.lst [.int 0])):=aC.upd n1;refine⟨_,Z,Z,s1 _ _ (FH1 _ _ qo),T.oM,Z,Z,p1,_,_,Z,Z,aq,by lia,by lia,by rw[aE];simp;lia,λbf n2=>?_⟩;rw[Jx];have s2':aC H1 (upd (upd H1 p1 (.lst [.int 0])) bf (iL (aM r.fixed 0))):=s1.trans (aC.upd n2);have w2:upd (upd H1 p1 (.lst [.int 0])) bf (iL (aM r.fixed 0)) bf=some (iL (aM r.fixed 0)):=aq;have nbf:H bf=none:=fU c1 x1 (s1.free n2);have nbx:bf≠x:=b8 hx nbf;generalize upd (upd H1 p1 (.lst [.int 0])) bf (iL (aM r.fixed 0))=H2 at s2' w2|-
 refine⟨_,Z,Z,s2' _ _ x1,T.dk,Z,Z,tI [("row_way",.ref ra),("before",.ref bf)],?_⟩;have c3:dE [x] H (upd H2 x (.ins t.bW dx [("row_way",.ref ra),("before",.ref bf)])):=(c1.trans s2'.chg).d_ (by simp);have x3:upd H2 x (.ins t.bW dx [("row_way",.ref ra),("before",.ref bf)]) x=some (.ins t.bW dx [("row_way",.ref ra),("before",.ref bf)]):=aq;have w3:upd H2 x (.ins t.bW dx [("row_way",.ref ra),("before",.ref bf)]) bf=some (iL (aM r.fixed 0)):=by rw[aF nbx];exact w2
 generalize upd H2 x (.ins t.bW dx [("row_way",.ref ra),("before",.ref bf)])=H3 at c3 x3 w3|-
 have FH3:aC F H3:=λb o e=>c3.one (sF _ _ e) (aI e nFx);refine⟨_,Z,Z,FH3 _ _ qo,T.oM,Z,Z,sa,Z,⟨qP,i2 (FH3 _ _ hsa)⟩,λD hD=>?_⟩;refine CJ r.stages (λs v G=>Om t F G s (uN s) v) hD (by rw[aE];lia) (i2 (FH3 _ _ hsa)) (dR ps) (λi s u H4 Q4 hs hu Er k4=>?_) λH4 ys Gs Er eD yl z1 z2 z3=>?_
 .obtain⟨v,hv,sA⟩:=zm ps hs;rw[hu] at hv;cases hv;exact⟨Z,_,Z,λb db m1 m2 m3=>Ur (FH3.trans Er) sA (wg.st s (az hs)).2.1 m1 m2 λH5 s5 h5=>⟨Z,k4 _ _ s5 h5⟩⟩
 .have nD:H D=none:=fU c3 x3 hD;have nDx:D≠x:=b8 hx nD;refine⟨_,Z,Z,Er _ _ x3,T.dk,Z,Z,tI [("row_way",.ref ra),("before",.ref bf),("stage_filters",.ref D)],?_⟩;refine k _ bf D ys Gs ((c3.trans Er.chg).d_ (by simp)) aq (by rw[aF nbx];exact Er _ _ w3) (by rw[aF nDx];exact eD) nbf nD (b8 w3 hD) yl (λi b o e=>?_) (λi=>⟨?_,?_⟩) z2 z3
  .obtain⟨q1,q2⟩:=aT.mp (z1 i _ _ e);have q3:=bO q1;have q4:=fU c3 x3 q3.2;exact aT.mpr ⟨q4,by rw[aF (b8 hx q4)];exact q2⟩
  .cases e:Gs i bf with
   |none=>rfl
   |some o=>have:=bO (aT.mp (z1 i _ _ e)).1;rw[w3] at this;cases this.2
  .cases e:Gs i D with
   |none=>rfl
   |some o=>exact absurd rfl (bO (aT.mp (z1 i _ _ e)).1).1
def Xs (h:p<=3):gF p [0,0,0]=aM p 0:=by
 match p,h with
 |0,_=>rfl
 |1,_=>rfl
 |2,_=>rfl
 |3,_=>rfl
def Up {rv:V}{r:bL}(hF:aC F H)(hr:RwA t r rv F)(wg:lJ r)(n1:H x=none)(n2:H dx=none)(k:∀H',aC H H'->Ke t F (nw H H') r (mC r) (.ref x)->Q .gS H'):
  aeq t [.ref x,rv] (upd (upd H dx (.own x)) x (.ins t.bW dx [])) Q E:=by
 have s1:aC H (upd (upd H dx (.own x)) x (.ins t.bW dx [])):=gA n1 n2;refine⟨x,dx,rv,r,F,Z,aq,hF.trans s1,hF.free n1,hr,wg,λH' bf sf NT Gs c hx hb hs nb ns WV vl sub nn ap st=>k _ (dE.back s1 c (by intro y hy;rw[show y=x from by simpa using hy];exact n1)) ⟨x,dx,rv,bf,sf,NT,Gs,Z,aT.mpr ⟨n1,hx⟩,hr,aT.mpr ⟨s1.free nb,?_⟩,aT.mpr ⟨s1.free ns,hs⟩,WV,vl,λi=>(sub i).trans (o_ s1),λi=>?_,λi=>(nn i).1,λi=>(nn i).2,ap,λi s y v h1 h2 h3=>?_⟩⟩
 .rw[hb];show _=some (iL (gF r.fixed [0,0,0]));rw[Xs wg.fx]
 .cases e:Gs i x with
  |none=>rfl
  |some o=>have:=(aT.mp (sub i _ _ e)).1;rw[aq] at this;cases this
 .have e:(mC r).stages=r.stages.map uN:=rfl;rw[e,aw,h1] at h2;cases h2;exact st i s v h1 h3
def Hn (r:bL)(l:bT):Prop:=lJ r/\lH r l
def Hn.sg {r:bL}{l:bT}(h:Hn r l){x:pK}(h1:r.stages[i]? =some s)(h2:l.stages[i]? =some x):Xk s x:=⟨h.1.st s (az h1),h.2.st i s x h1 h2⟩
inductive acZ (t:fP)(vs:b_)(H:Hp)(Q:VK)(E:XK):Prop|i v r l F G(_:vs=[v])(_:aC F H)(_:aC G H)(_:Ke t F G r l v)(_:Hn r l)(_:∀v' H',aC H H'->Ke t F (nw H H') r l v'->Q v' H')
def CP:T.pT.Ok P w mg lQ jh 5 (acZ t):=by
 refine T.pT.ok λnd H vs Q E hr h=>?_;obtain⟨v,r,l,F,G,rfl,sF,sG,⟨a,dx,rv,bf,sf,vs,Gs,rfl,z⟩,rg,k⟩:=h;have HA:=sG _ _ z.ob;refine .i (ao (fL 1 nd (J7 T.EB T.Cz T.my (tY T) hr bG (ak (cQ (pv 0)) ax)))
   (ao (ki (pv 1) (su mD rfl T.Ec GA (ak (cQ (pv 0)) ax)))
   (ao (ki (pv 1) (GW [("stage_filter",2)] nd (fB (cQ (pv 0))) (mv 2 nd) (Fj (pv 2) T.bM T.nZ (Ab T) hr bG)))
   (aH (bz (pv 1)))))) ?_
 refine⟨_,Z,Z,HA,T.dk,Z,Z,λb db0 m1 m2 m3=>Up sF z.lS rg.1 m1 m2 λH1 s1 h1=>⟨Z,?_⟩⟩;obtain⟨b',db,rv',bf',sf',NT,JR,eb,z'⟩:=h1;cases eb;have nb:=(aT.mp z'.ob).1;have MY:=(aT.mp z'.ob).2;refine⟨_,Z,Z,s1 _ _ HA,T.dk,Z,Z,bf,_,Z,i3 (s1 _ _ (sG _ _ z.hb)),λp1 n1=>?_⟩;have s2:aC H1 (upd H1 p1 (iL (gF r.fixed l.last))):=aC.upd n1;refine⟨_,Z,Z,s2 _ _ MY,T.dk,Z,Z,tI [("row_way",rv'),("before",.ref p1),("stage_filters",.ref sf')],?_⟩;have c3:dE [b] H1 (upd (upd H1 p1 (iL (gF r.fixed l.last))) b (.ins t.bW db [("row_way",rv'),("before",.ref p1),("stage_filters",.ref sf')])):=s2.chg.d_ (by simp);have x3:upd (upd H1 p1 (iL (gF r.fixed l.last))) b (.ins t.bW db [("row_way",rv'),("before",.ref p1),("stage_filters",.ref sf')]) b=some (.ins t.bW db [("row_way",rv'),("before",.ref p1),("stage_filters",.ref sf')]):=aq;have np1:H p1=none:=s1.free n1;have n1b:p1≠b:=b8 MY n1;have w3:upd (upd H1 p1 (iL (gF r.fixed l.last))) b (.ins t.bW db [("row_way",rv'),("before",.ref p1),("stage_filters",.ref sf')]) p1=some (iL (gF r.fixed l.last)):=by rw[aF n1b,aq]
 generalize upd (upd H1 p1 (iL (gF r.fixed l.last))) b (.ins t.bW db [("row_way",rv'),("before",.ref p1),("stage_filters",.ref sf')])=H3 at c3 x3 w3|-
 have AG:aC H H3:=dE.back s1 c3 (by intro y hy;rw[show y=b from by simpa using hy];exact nb);have hl:l.stages.length=r.stages.length:=rg.2.sl;refine⟨_,Z,Z,AG _ _ HA,T.dk,Z,Z,sf,Z,⟨vs,i2 (AG _ _ (sG _ _ z.hs))⟩,λD hD=>?_⟩;refine CJ (r.stages.zip l.stages) (λp v G'=>Om t F G' p.1 p.2 v) hD (by rw[aE];simp;have:=rg.1.sn;lia) (i2 (AG _ _ (sG _ _ z.hs))) (by simp[z.vl];lia) (λi p u H4 Q4 hs hu Er k4=>?_) λH4 ys Gn Er eD yl z1 z2 z3=>?_
 .have hp:=hJ.mp hs;have sA:=z.st i p.1 p.2 u hp.1 hp.2 hu;obtain⟨a1,d1,sv1,wa1,pa1,rfl,ha1,_⟩:=id sA;have hG4:aC (Gs i) H4:=((z.sub i).trans sG).trans (AG.trans Er);exact⟨Z,_,Z,a1,_,_,Z,hG4 _ _ ha1,Z,_,p.1,p.2,F,Gs i,Z,sF.trans (AG.trans Er),hG4,sA,rg.sg hp.1 hp.2,λv' H5 s5 h5=>k4 v' H5 s5 h5⟩
 .have nD:H D=none:=AG.free hD;have nDb:D≠b:=b8 x3 hD;refine⟨_,Z,Z,Er _ _ x3,T.dk,Z,Z,tI [("row_way",rv'),("before",.ref p1),("stage_filters",.ref D)],_,Z,?_⟩;have smF:aC H (upd H4 b (.ins t.bW db [("row_way",rv'),("before",.ref p1),("stage_filters",.ref D)])):=λy o e=>by rw[aF (aI e nb)];exact Er _ _ (AG _ _ e)
  have qI:∀i y o,Gn i y=some o->H3 y=none/\y≠D/\H4 y=some o:=λi y o e=>by
   obtain⟨q1,q2⟩:=aT.mp (z1 i _ _ e);exact⟨(bO q1).2,(bO q1).1,q2⟩
  have akb:∀(i:Nat) y o,H3 y=some o->Gn i y=none:=λi y o e=>by
   cases q:Gn i y with
   |none=>rfl
   |some u=>rw[(qI i y u q).1] at e;cases e
  refine k _ _ smF ⟨b,db,rv',p1,D,ys,Gn,Z,aT.mpr ⟨nb,aq⟩,z'.lS,aT.mpr ⟨np1,by rw[aF n1b];exact Er _ _ w3⟩,aT.mpr ⟨nD,by rw[aF nDb];exact eD⟩,(b8 w3 hD),by rw[yl];simp;lia,λi y o e=>?_,λi=>akb i _ _ x3,λi=>akb i _ _ w3,λi=>?_,z2,λi s x v h1 h2 h3=>z3 i (s,x) v (hJ.mpr ⟨h1,h2⟩) h3⟩
  .obtain⟨q1,q2,q3⟩:=qI i y o e;refine aT.mpr ⟨AG.free q1,?_⟩;rw[aF (b8 x3 q1)];exact q3
  .cases q:Gn i D with
   |none=>rfl
   |some u=>exact absurd rfl (qI i D u q).2.1
def fR (on:Bool):bL->bT->Int->Int×bT:=if on=true then LwSound.restOf else LwSound.backOf
inductive NM (t:fP)(on:Bool)(vs:b_)(H:Hp)(Q:VK)(E:XK):Prop|i(v:V)(r:bL)(l:bT)(u:Int)(F G:Hp)(_:vs=[v,.int u])(_:aC F H)(_:aC G H)(_:Apart F G)(_:Ke t F G r l v)(_:Hn r l)(_:∀H',fz G H H'->Ke t F (grow G H H') r (fR on r l u).2 v->Q (.int (fR on r l u).1) H')
def CA {l:bY}{i:Nat}(h:i<l.length):U2 (l.map V.int) (0+(i:Int))=some (.int (l.getD i 0)):=by
 have:=Hv (l:=l) (i:=(i:Int)) (by lia) (by simpa using h);rw[zF,this,bF]
def EV (l:bY)(i:Nat)(x:Int):(l.map V.int).set i (.int x)=(l.set i x).map V.int:=by rw[alc]
def zZ:T.nW.Ok P w mg lQ jh 4 (NM t true):=by
 refine T.nW.ok λnd H vs Q E hr h=>?_;obtain⟨v,r,l,u0,F,G,rfl,sF,sG,ap,⟨a,dx,rv,bf,sf,vs,Gs,rfl,z⟩,rg,k⟩:=h;obtain⟨ra,dr,sa,qP,rfl,qo,hsa,ps⟩:=id z.lS;have HA:=sG _ _ z.ob;have HB:=sG _ _ z.hb;have f3:=rg.1.fx;have nab:a≠bf:=hG HA HB (by intro q;cases q);have WV:sf≠bf:=z.WV;refine .i (ao (fL 2 nd (pv 1))
   (ao (gY PassesOwn.never rfl (jA rfl T.iA (ak (cQ (cQ (pv 0))) ax)) (mv 3 nd)
    (ao (fL 4 nd (pv 2))
   (ao (fL 2 nd (aX gw (pv 4) (J6 (cQ (pv 0)) (pv 3))))
   (aH (yN (pv 4) (yJ (cQ (pv 0)) (pv 3) set_list))))))
   (ao (gY PassesOwn.never rfl (fB (cQ (pv 0))) (mv 5 nd)
    (aH (fL 2 nd (qO (pv 5) T.bM T.lW (xx T) hr bG (ak (pv 2) ax)))))
   (aH (bz (pv 2)))))) ?_
 refine⟨_,Z,_,Z,Z,HA,T.dk,Z,Z,Z,sF _ _ qo,T.oM,Z,Z,_,Z,by lia,by lia,?_⟩;refine si (λi σ H'=>X3 λy3 y4 y5=>C3 (σ=[some (.ref a),some (.int u0),some (.int ((aJ i).foldl yq (u0,gF r.fixed l.last)).1),y3,y4,y5]) (dE [bf] H H') (H' bf=some (iL ((aJ i).foldl yq (u0,gF r.fixed l.last)).2))) ⟨none,none,none,Z,dE.refl,HB⟩ ?_ ?_
 .rintro i σ H' hi ⟨y3,y4,y5,rfl,c,eb⟩;have Ir:i<r.fixed:=by lia
  have iQ:i<((aJ i).foldl yq (u0,gF r.fixed l.last)).2.length:=by rw[MV,B3 f3];exact Ir
  refine⟨_,Z,_,Z,_,Z,Z,c.one HA nab,T.dk,Z,Z,_,Z,bf,_,_,_,Z,Z,i2 eb,CA iQ,_,_,Z,Z,?_⟩;refine⟨_,Z,_,Z,Z,c.one HA nab,T.dk,Z,Z,_,Z,bf,_,_,i,Z,Z,eb,qp (by lia) (by simpa using iQ),?_⟩;refine⟨some (.int (0+(i:Int))),some (.int ((aJ i).foldl yq (u0,gF r.fixed l.last)).1),y5,?_,?_,?_⟩
  .rw[cE,dB];rfl
  .exact c.d_ (by simp)
  .rw[aq,cE,dB,EV];rfl
 .rintro σ H' ⟨y3,y4,y5,rfl,c,eb⟩;rw[bF,XX f3 rg.2.la] at eb;have e1:(aJ ((r.fixed:Int)).toNat).foldl yq (u0,gF r.fixed l.last)=(u0-lT r.fixed l.last,gF r.fixed (u0::l.last.take 2)):=by rw[bF,XX f3 rg.2.la]
  rw[e1];obtain⟨u1,hu1⟩:∃u1,u1=u0-lT r.fixed l.last:=⟨_,Z⟩;have ef:fR true r l u0=((gL (r.stages.zip l.stages) u1).1,l.next u0 (gL (r.stages.zip l.stages) u1).2):=by rw[hu1];rfl
  rw[ef] at k;have hl:l.stages.length=r.stages.length:=rg.2.sl;have afl:G8 G H H' Gs:=by
   have:G8 G H H Gs:=⟨fz.refl,λi=>(z.sub i).trans (zd sG),z.ap⟩;refine this.side c (λy hy=>.inl ?_) λy hy i=>?_
   .rw[show y=bf from by simpa using hy,z.hb];rfl
   .rw[show y=bf from by simpa using hy];exact z.nb i
  have HS':=c.one (sG _ _ z.hs) WV;refine⟨_,Z,Z,c.one HA nab,T.dk,Z,Z,sf,Z,⟨vs,i2 HS'⟩,?_⟩;refine qE (xs:=vs) (λi σ H2=>X2 λ(y5:Option V) (Gn:Nat->Hp)=>C7 (σ=[some (.ref a),some (.int u0),some (.int (gL ((r.stages.zip l.stages).take i) u1).1),y3,y4,y5]) (G8 G H H2 Gn) (∀j,Gn j a=none/\Gn j bf=none/\Gn j sf=none) (H2 a=some (.ins t.bW dx [("row_way",.ref ra),("before",.ref bf),("stage_filters",.ref sf)])) (H2 bf=some (iL (gF r.fixed (u0::l.last.take 2)))) (H2 sf=some (.lst vs)) (∀(j:Nat) s v x,r.stages[j]? =some s->vs[j]? =some v->(if j<i then(gL ((r.stages.zip l.stages).take i) u1).2[j]? =some x else l.stages[j]? =some x)->Om t F (Gn j) s x v))
   ⟨y5,Gs,by rw[hu1];rfl,afl,λj=>⟨z.na j,z.nb j,z.ns j⟩,c.one HA nab,eb,HS',λj s v x h1 h2 h3=>z.st j s x v h1 (by simpa using h3) h2⟩ ?_ ?_ ?_
  .rintro i σ H2 _ ⟨_,_,_,_,_,_,_,KH,_⟩;exact i2 KH
  .rintro i v σ H2 hv ⟨y5,Gn,rfl,r_,nn,Bi,BJ,KH,st⟩;have hi:i<r.stages.length:=by have:=(aN.mp hv).1;have:=z.vl;lia
   obtain⟨s1,QH⟩:∃s1,r.stages[i]? =some s1:=⟨_,aD hi⟩;obtain⟨x1,J5⟩:∃x1,l.stages[i]? =some x1:=⟨_,aD (by lia)⟩;have hz:(r.stages.zip l.stages)[i]? =some (s1,x1):=hJ.mpr ⟨QH,J5⟩;have sA:=st i s1 v x1 QH hv (by rw[ah (bX i)];exact J5);obtain⟨a1,d1,sv1,wa1,pa1,rfl,ha1,_⟩:=id sA;have FH2:aC F H2:=r_.keep.other sF ap;have Hu:Apart F (Gn i):=Bs.Apart.le (gW (H':=H2) sF ap) (r_.sub i);refine⟨_,Z,a1,_,_,Z,r_.le i _ _ ha1,Z,_,Z,_,s1,x1,_,F,Gn i,Z,FH2,r_.le i,Hu,sA,rg.sg QH J5,λH3 k3 sf3=>?_⟩;have k3a:=k3 a _ Bi (nn i).1;have k3b:=k3 bf _ BJ (nn i).2.1;have k3s:=k3 sf _ KH (nn i).2.2;have et:gL ((r.stages.zip l.stages).take (i+1)) u1=((gL ((r.stages.zip l.stages).take i) u1).1-fh s1 x1,(gL ((r.stages.zip l.stages).take i) u1).2++[mB s1 x1 (gL ((r.stages.zip l.stages).take i) u1).1 ((gL ((r.stages.zip l.stages).take i) u1).1-fh s1 x1)]):=by
    rw[Mx.take_snoc hz,yR];rfl
   have tl:(gL ((r.stages.zip l.stages).take i) u1).2.length=i:=by rw[tw,cP,K6];lia
   refine⟨some (.ref a1),setG Gn i (grow (Gn i) H2 H3),?_,r_.step i k3,λj=>?_,k3a,k3b,k3s,λj s v x h1 h2 h3=>?_⟩
   .rw[et];rfl
   .by_cases e:j=i
    .subst e;rw[gy];exact⟨cU Bi (nn j).1,cU BJ (nn j).2.1,cU KH (nn j).2.2⟩
    .rw[f6 e];exact nn j
   .rw[et] at h3;by_cases e:j=i
    .subst e;rw[gy];rw[aj (gn j),gK (by lia),tl,lP] at h3;rw[QH] at h1;cases h1;rw[hv] at h2;cases h2;cases h3;exact sf3
    .rw[f6 e];refine st j s v x h1 h2 ?_;by_cases hj:j<i
     .rw[aj (by lia),jU (by lia)] at h3;rw[aj hj];exact h3
     .rw[ah (by lia)] at h3;rw[ah hj];exact h3
  .rintro σ H2 ⟨y5,Gn,rfl,r_,nn,Bi,BJ,KH,st⟩;have e2:(r.stages.zip l.stages).take vs.length=r.stages.zip l.stages:=cn (by rw[K6,z.vl];lia);rw[e2] at st|-
   refine⟨_,Z,k H2 r_.keep ⟨a,dx,.ref ra,bf,sf,vs,Gn,Z,bC.mpr ⟨.inl (by rw[z.ob];rfl),Bi⟩,z.lS,bC.mpr ⟨.inl (by rw[z.hb];rfl),BJ⟩,bC.mpr ⟨.inl (by rw[z.hs];rfl),KH⟩,WV,z.vl,r_.sub,λi=>(nn i).1,λi=>(nn i).2.1,λi=>(nn i).2.2,r_.ap,λi s x v h1 h2 h3=>?_⟩⟩;refine st i s v x h1 h3 ?_;have hi:i<vs.length:=(aN.mp h3).1;rw[aj hi];exact h2
def drop_cons {α:Type}{l:List α}{x:α}(h:l[i]? =some x):l.drop i=x::l.drop (i+1):=by
 obtain⟨h1,h2⟩:=aN.mp h;rw[<-h2];exact cV h1
def xw:T.lV.Ok P w mg lQ jh 4 (NM t false):=by
 refine T.lV.ok λnd H vs Q E hr h=>?_;obtain⟨v,r,l,u0,F,G,rfl,sF,sG,ap,⟨a,dx,rv,bf,sf,vs,Gs,rfl,z⟩,rg,k⟩:=h;obtain⟨ra,dr,sa,qP,rfl,qo,hsa,ps⟩:=id z.lS;have HA:=sG _ _ z.ob;have HB:=sG _ _ z.hb;have HS':=sG _ _ z.hs;have f3:=rg.1.fx;have nab:a≠bf:=hG HA HB (by intro q;cases q);have WV:sf≠bf:=z.WV;have hl:l.stages.length=r.stages.length:=rg.2.sl;obtain⟨zs,hzs⟩:∃zs,zs=r.stages.zip l.stages:=⟨_,Z⟩;have zl:zs.length=vs.length:=by rw[hzs,K6,z.vl,hl,Nat.min_self]
 have ef:fR false r l u0=((dG zs u0).1+lT r.fixed l.last,l.next ((dG zs u0).1+lT r.fixed l.last) (dG zs u0).2):=by rw[hzs];rfl
 rw[ef] at k;have afl:G8 G H H Gs:=⟨fz.refl,λi=>(z.sub i).trans (zd sG),z.ap⟩;refine .i (ao (fL 2 nd (pv 1))
   (ao (gY PassesOwn.never rfl (Fi rfl T.IS (ak (cQ (pv 0)) ax)) (mv 3 nd)
    (aH (fL 2 nd (qO (pv 3) T.bM T.kH (ve T) hr bG (ak (pv 2) ax)))))
   (ao (gY PassesOwn.never rfl (zt rfl T.iA (ak (aX gw (cQ (cQ (pv 0))) aK) (ak (t6 pE aK) (ak (t6 pE aK) ax)))) (mv 4 nd)
    (ao (fL 2 nd (aX dz (pv 2) (J6 (cQ (pv 0)) (pv 4))))
   (aH (yN (pv 2) (yJ (cQ (pv 0)) (pv 4) set_list)))))
   (aH (bz (pv 2)))))) ?_
 refine⟨_,Z,_,Z,Z,HA,T.dk,Z,Z,sf,vs,Z,i2 HS',?_⟩;refine TF (xs:=vs) (λi σ H2=>X2 λ(y3:Option V) (Gn:Nat->Hp)=>C7 (σ=[some (.ref a),some (.int u0),some (.int (dG (zs.drop (vs.length-i)) u0).1),y3,none]) (G8 G H H2 Gn) (∀j,Gn j a=none/\Gn j bf=none/\Gn j sf=none) (H2 a=some (.ins t.bW dx [("row_way",.ref ra),("before",.ref bf),("stage_filters",.ref sf)])) (H2 bf=some (iL (gF r.fixed l.last))) (H2 sf=some (.lst vs)) (∀(j:Nat) s v x,r.stages[j]? =some s->vs[j]? =some v->(if vs.length-i<=j then(dG (zs.drop (vs.length-i)) u0).2[j-(vs.length-i)]? =some x else l.stages[j]? =some x)->Om t F (Gn j) s x v))
   ⟨none,Gs,by rw[ur,<-zl,rq];rfl,afl,λj=>⟨z.na j,z.nb j,z.ns j⟩,HA,HB,HS',λj s v x h1 h2 h3=>z.st j s x v h1 (by
    have hj:=(aN.mp h2).1;rw[ah (show¬vs.length-0<=j from Oh.mpr hj)] at h3;exact h3) h2⟩ ?_ ?_ ?_
 .rintro i σ H2 _ ⟨_,_,_,_,_,_,_,KH,_⟩;exact i2 KH
 .rintro i σ H2 v hi ⟨y3,Gn,rfl,r_,nn,Bi,BJ,KH,st⟩ hv;obtain⟨q,hq⟩:∃q,q=vs.length-1-i:=⟨_,Z⟩;rw[<-hq] at hv;obtain⟨hqi,hq2,Lz⟩:=rvq hi hq;clear hq;rw[z.vl] at Lz;obtain⟨s1,QH⟩:∃s1,r.stages[q]? =some s1:=⟨_,aD Lz⟩;obtain⟨x1,J5⟩:∃x1,l.stages[q]? =some x1:=⟨_,aD (hl ▸ Lz)⟩;have hz:zs[q]? =some (s1,x1):=by rw[hzs];exact hJ.mpr ⟨QH,J5⟩
  rw[hqi] at st|-
  have sA:=st q s1 v x1 QH hv (by rw[ah (Nat.not_succ_le_self q)];exact J5);obtain⟨a1,d1,sv1,wa1,pa1,rfl,ha1,_⟩:=id sA;have FH2:aC F H2:=r_.keep.other sF ap;have Hu:Apart F (Gn q):=Bs.Apart.le (gW (H':=H2) sF ap) (r_.sub q);refine⟨_,Z,a1,_,_,Z,r_.le q _ _ ha1,Z,_,Z,_,s1,x1,_,F,Gn q,Z,FH2,r_.le q,Hu,sA,rg.sg QH J5,λH3 k3 sf3=>?_⟩;have k3a:=k3 a _ Bi (nn q).1;have k3b:=k3 bf _ BJ (nn q).2.1;have k3s:=k3 sf _ KH (nn q).2.2;have et:dG (zs.drop q) u0=((dG (zs.drop (q+1)) u0).1+fh s1 x1,mB s1 x1 ((dG (zs.drop (q+1)) u0).1+fh s1 x1) (dG (zs.drop (q+1)) u0).1::(dG (zs.drop (q+1)) u0).2):=by
   rw[drop_cons hz];rfl
  rw[hq2];refine⟨some (.ref a1),setG Gn q (grow (Gn q) H2 H3),?_,r_.step q k3,λj=>?_,k3a,k3b,k3s,λj s v x h1 h2 h3=>?_⟩
  .rw[et];rfl
  .by_cases e:j=q
   .rw[e,gy];exact⟨cU Bi (nn q).1,cU BJ (nn q).2.1,cU KH (nn q).2.2⟩
   .rw[f6 e];exact nn j
  .rw[et] at h3;by_cases e:j=q
   .rw[e] at h1 h2 h3|-
    rw[gy];rw[aj (bq q),lP] at h3;rw[QH] at h1;cases h1;rw[hv] at h2;cases h2;cases h3;exact sf3
   .rw[f6 e];refine st j s v x h1 h2 ?_;by_cases hj:q<=j
    .have hd:=FF hj (eK e);obtain⟨d,ed⟩:=Nat.exists_eq_add_of_lt hd;rw[aj hj,show j-q=d+1 by rw[ed,ale,k9],QN] at h3;rw[aj (show q+1<=j from hd),show j-(q+1)=d by rw[ed,uV,k9]];exact h3
    .rw[ah hj] at h3;rw[ah λc=>hj (iW c)];exact h3
 .rintro σ H2 ⟨y3,Gn,rfl,r_,nn,Bi,BJ,KH,st⟩;rw[lP,iD] at st|-
  have FH2:aC F H2:=r_.keep.other sF ap;obtain⟨u1,hu1⟩:∃u1,u1=(dG zs u0).1:=⟨_,Z⟩;rw[<-hu1] at k|-
  refine⟨_,Z,Z,Bi,T.dk,Z,Z,Z,FH2 _ _ qo,T.oM,Z,Z,_,_,Z,Z,_,Z,_,Z,(r.fixed:Int)-1,-1,-1,r.fixed,Z,?_,?_⟩
  .have:=RgC.neg (i:=(r.fixed:Int)-1) (j:= -1) (by omega) (by omega) (by decide) (by decide);rw[nd1] at this;exact this
  refine wj (λi σ H'=>X2 λy3 y4=>C3 (σ=[some (.ref a),some (.int u0),some (.int (((aJ r.fixed).reverse.take i).foldl nQ (u1,gF r.fixed l.last)).1),y3,y4]) (dE [bf] H2 H') (H' bf=some (iL (((aJ r.fixed).reverse.take i).foldl nQ (u1,gF r.fixed l.last)).2))) ⟨y3,none,Z,dE.refl,BJ⟩ ?_ ?_
  .rintro i σ H' hi ⟨y3,y4,rfl,c,eb⟩;have ho:(aJ r.fixed).reverse[i]? =some (r.fixed-1-i):=by
    rw[UQ (by simpa using hi),iN,bD (uX hi)]
   obtain⟨o,hoe⟩:∃o,o=r.fixed-1-i:=⟨_,Z⟩;rw[<-hoe] at ho;have eo:=ndi hi hoe;have iQ:o<(((aJ r.fixed).reverse.take i).foldl nQ (u1,gF r.fixed l.last)).2.length:=by rw[Ig,B3 f3,hoe];exact uX hi
   have eat:U2 ((((aJ r.fixed).reverse.take i).foldl nQ (u1,gF r.fixed l.last)).2.map V.int) ((r.fixed:Int)-1+(i:Nat)*(-1))=some (.int ((((aJ r.fixed).reverse.take i).foldl nQ (u1,gF r.fixed l.last)).2.getD o 0)):=by
    rw[eo];have:=CA iQ;rw[zF] at this;exact this
   refine⟨_,Z,_,Z,Z,c.one Bi nab,T.dk,Z,Z,_,Z,bf,_,_,_,Z,Z,i2 eb,eat,_,_,Z,Z,?_⟩;refine⟨_,Z,_,Z,Z,c.one Bi nab,T.dk,Z,Z,_,Z,bf,_,_,o,Z,Z,eb,qp eo (by simpa using iQ),?_⟩;refine⟨y3,some (.int ((r.fixed:Int)-1+(i:Nat)*(-1))),?_,?_,?_⟩
   .rw[Mx.take_snoc ho,dB];rfl
   .exact c.d_ (by simp)
   .rw[aq,Mx.take_snoc ho,dB,EV];rfl
  .rintro σ H' ⟨y3,y4,rfl,c,eb⟩;have e1:((aJ r.fixed).reverse.take r.fixed).foldl nQ (u1,gF r.fixed l.last)=(u1+lT r.fixed l.last,gF r.fixed ((u1+lT r.fixed l.last)::l.last.take 2)):=by
    rw[cn (by simp),XW f3 rg.2.la]
   rw[e1] at eb|-
   have afm:G8 G H H' Gn:=r_.side c (λy hy=>.inl (by rw[show y=bf from by simpa using hy,z.hb];rfl)) λy hy i=>by rw[show y=bf from by simpa using hy];exact(nn i).2.1
   refine⟨_,Z,k H' afm.keep ⟨a,dx,.ref ra,bf,sf,vs,Gn,Z,bC.mpr ⟨.inl (by rw[z.ob];rfl),c.one Bi nab⟩,z.lS,bC.mpr ⟨.inl (by rw[z.hb];rfl),eb⟩,bC.mpr ⟨.inl (by rw[z.hs];rfl),c.one KH WV⟩,WV,z.vl,afm.sub,λi=>(nn i).1,λi=>(nn i).2.1,λi=>(nn i).2.2,afm.ap,λi s x v h1 h2 h3=>?_⟩⟩;refine st i s v x h1 h3 ?_;rw[aj (eU _),ur];exact h2
def agd (on:Bool):Str:=if on=true then "onward" else "backward"
def Bx (on:Bool)(rw:bL)(l:bT)(xs:bY):bY×bT:=LwSound.alongBy (fR on rw) l xs
def aiM {on:Bool}{rw:bL}{l:bT}(h:Hn rw l)(x:Int):Hn rw (fR on rw l x).2:=by
 cases on with
 |true=>exact⟨h.1,h.2.rest h.1 x⟩
 |false=>exact⟨h.1,h.2.back h.1 x⟩
def NH {on:Bool}{rw:bL}{l:bT}(h:Hn rw l)(xs:bY):Hn rw (Bx on rw l xs).2:=
 ⟨h.1,Ht (f:=fR on) (λl x q=>(aiM (on:=on) ⟨h.1,q⟩ x).2) h.2 xs⟩
structure abb (t:fP)(F G0 H:Hp)(Gs:Nat->Hp)(Fm:List bL)(ls:List bT)(jV:b_):Prop where
 r_:G8 G0 H H Gs
 sF:aC F H
 sG:aC G0 H
 ap:Apart F G0
 l1:Fm.length=jV.length
 l2:ls.length=jV.length
 at_:∀(i:Nat) rw l v,Fm[i]? =some rw->ls[i]? =some l->jV[i]? =some v->Ke t F (Gs i) rw l v/\Hn rw l
def r9 {S:Hp}(h:Apart S G)(g:G D=none):Apart (upd S D o) G:=λb=>by
 by_cases e:b=D
 .subst e;exact .inr g
 .rw[aF e];exact h b
def LU {on:Bool}{Fm:List bL}{ls:List bT}{jV WY:b_}{ys:ly}{S:Hp}{fl ya R:ke}{x1 x2:V}{Dn:Ends}{n:Nat}
  (fs:abb t F G0 H Gs Fm ls jV) (s1:aC H H1) (hS:aC S H1) (apS:∀j,Apart S (Gs j)) (FS:aC F S) (hfl:S fl=some (.lst jV)) (hya:H1 ya=some (.lst WY)) (hyR:ya≠R) (hyG:∀j,Gs j ya=none) (py:Paired (λx v=>IsL x v S) ys WY) (hyl:ys.length=jV.length) (hn:∀y∈ys,y.length<=n) (n1:n<=1000) (f1:jV.length<=1000)
  (SR:S R=none) (HR:H1 R=some (.lst [])) (HRn:H R=none)
  (kd:∀H' zy JR y4 y5 y6,G8 G0 H H' JR->aC S H'->H' R=some (.lst zy)->Paired (λx v=>IsL x v (but H' R)) ((aJ jV.length).map λi=>(Bx on (Fm.getD i ⟨0,[]⟩) (ls.getD i ⟨[],[],[]⟩) (ys.getD i [])).1) zy->
   (∀(i:Nat) rw l y v,Fm[i]? =some rw->ls[i]? =some l->ys[i]? =some y->jV[i]? =some v->Ke t F (JR i) rw (Bx on rw l y).2 v)->Dn.nx [some (.ref fl),some x1,some x2,some (.ref R),y4,y5,y6] H'):
  ∃W:Nat->Nat->L2.St->Hp->Prop,(∃m,W 0 m [some (.ref fl),some x1,some x2,some (.ref R),none,none,none] H1)/\∀i m σ H,W i m σ H->((Itz K fl ya).stop i H/\Dn.nx σ H)\/((Itz K fl ya).go i H/\∃N:L2.St->Hp->Prop,(∀gz H',N gz H'->∃m',m'<m/\W (i+1) m' gz H')/\∀x H',(Itz K fl ya).Wj i H x H'->afq K 2 (X_ (Ar 4) (X_ (Ar 5) aiW)) x σ H' λmG H2=>
   Uz (tBM K "list" NC (Es 3) (JF (tLc (YB K (Es 5)) (Ar 6) Z3 (JG t.bW (agd on) (NM t on) [] E0 (Es 4) (JF (Es 6) Gx)) [6]) Gx)) {Dn with nx:=N,ct:=N,bk:=Dn.nx} mG H2):=by
 have aoV:WY.length=jV.length:=by rw[<-dR py];exact hyl
 refine TJ (xs:=jV) (ys:=WY) (n:=jV.length) (λi σ Hc=>X6 λy4 y5 y6 zy Gn S2=>C12 (σ=[some (.ref fl),some x1,some x2,some (.ref R),y4,y5,y6]) (G8 G0 H Hc Gn) (aC S S2) (aC S2 Hc) (∀j,Apart S2 (Gn j)) (S2 R=none) (∀j,Gn j R=none) (Hc R=some (.lst zy)) (Hc ya=some (.lst WY)) (∀j,Gn j ya=none) (Paired (λx v=>IsL x v S2) ((aJ i).map λi=>(Bx on (Fm.getD i ⟨0,[]⟩) (ls.getD i ⟨[],[],[]⟩) (ys.getD i [])).1) zy) (∀(j:Nat) rw l y v,Fm[j]? =some rw->ls[j]? =some l->ys[j]? =some y->jV[j]? =some v->Ke t F (Gn j) rw (if j<i then(Bx on rw l y).2 else l) v))
  ⟨none,none,none,[],Gs,S,Z,fs.r_.grown s1,aC.refl S,hS,apS,SR,λj=>(fs.r_.le j).free HRn,HR,hya,hyG,.nil,λj rw l y v h1 h2 h3 h4=>by rw[ah (by lia)];exact(fs.at_ j rw l v h1 h2 h4).1⟩ rfl aoV ?_ ?_ ?_
 .rintro i σ Hc _ ⟨_,_,_,_,_,S2,_,_,sS,sH,_,_,_,_,hy,_,_,_⟩;exact⟨i2 (sH _ _ (sS _ _ hfl)),i2 hy⟩
 .rintro i σ Hc fv yv Tt hi ⟨y4,y5,y6,zy,Gn,S2,rfl,r_,sS,sH,apn,S2R,nR,hR,hy,ny,pz,st⟩ hfv hyv nT;obtain⟨y,hy1,yp,rfl,hyp⟩:=iS py hyv;obtain⟨lS,WR⟩:∃x,Fm[i]? =some x:=⟨_,aD (by rw[fs.l1];exact hi)⟩;obtain⟨l_,hl_⟩:∃x,ls[i]? =some x:=⟨_,aD (by rw[fs.l2];exact hi)⟩;have rg:=(fs.at_ i lS l_ fv WR hl_ hfv).2;have rf0:=st i lS l_ y fv WR hl_ hy1 hfv;rw[ah (bX i)] at rf0;have hyn:y.length<=n:=hn y (az hy1);have sT:aC Hc (upd Hc Tt (.tup [fv,.ref yp])):=aC.upd nT;have zl:zy.length=i:=by rw[<-dR pz];simp
  refine⟨Tt,_,Z,i2 aq,Z,_,_,Z,_,_,Z,Z,?_⟩;refine⟨_,Z,L0 (sT _ _ hR),_,Z,yp,Z,⟨_,i2 (sT _ _ (sH _ _ (sS _ _ hyp)))⟩,λD hD=>?_⟩;have nD:Hc D=none:=sT.free hD;have S2D:S2 D=none:=sH.free nD;have ant:=r_.grown sT;refine IH (xs:=y.map V.int) (K:=K) (λj dM H'=>∃G,C10 (G8 G0 H H' (setG Gn i G)) (aC S2 H') (Apart S2 G) (G R=none) (G ya=none) (G D=none) (H' R=some (.lst zy)) (H' ya=some (.lst WY)) (Ke t F G lS (Bx on lS l_ (y.take j)).2 fv) (dM=((Bx on lS l_ (y.take j)).1).map V.int))
   (by rw[aE];simp;lia) ⟨Gn i,?_,λb o e=>?_,apn i,nR i,ny i,(r_.le i).free nD,?_,?_,rf0,Z⟩ (λj dM H' _ ⟨_,_,z,_,_,_,_,_,_,_,_⟩=>i2 (z _ _ (sS _ _ hyp))) ?_ λj dM H' u Q hj iQ eD ⟨G,z1,z2,z3,z4,z5,z6,z7,z8,z9,z10⟩ hu k2=>?_
  .have e:setG Gn i (Gn i)=Gn:=by funext q;by_cases h:q=i;(rw[h,gy]);(rw[f6 h])
   rw[e];exact ant.grown (aC.upd hD)
  .rw[aF (aI e S2D)];exact sT _ _ (sH _ _ e)
  .rw[aF (aI hR nD)];exact sT _ _ hR
  .rw[aF (aI hy nD)];exact sT _ _ hy
  .rintro dM H' iQ eD ⟨G,z1,z2,z3,z4,z5,z6,z7,z8,z9,z10⟩;rw[aB,gj] at z9 z10;refine⟨R,_,_,Z,Z,z7,by rw[aE];lia,?_⟩;have ais:R≠D:=aI hR nD;have cR:dE [R] H' (upd H' R (.lst (zy++[.ref D]))):=dE.refl.d_ (by simp);refine⟨some fv,some (.ref yp),y6,zy++[.ref D],setG Gn i G,upd S2 D (.lst dM),Z,z1.side cR (λq hq=>.inr (by rw[show q=R from by simpa using hq];exact HRn)) (λq hq j=>?_),λb o e=>?_,λb o e=>?_,λj=>?_,?_,λj=>?_,aq,?_,λj=>?_,?_,λj rw l y' v h1 h2 h3 h4=>?_⟩
   .rw[show q=R from by simpa using hq];by_cases h:j=i
    .rw[h,gy];exact z4
    .rw[f6 h];exact nR j
   .have:=sS _ _ e;rw[aF (aI this S2D)];exact this
   .by_cases h:b=D
    .subst h;rw[aq] at e;cases e;rw[aF ais.symm];exact eD
    .rw[aF h] at e;rw[aF (aI e S2R)];exact z2 _ _ e
   .by_cases h:j=i
    .rw[h,gy];exact r9 z3 z6
    .rw[f6 h];exact r9 (apn j) ((r_.le j).free nD)
   .rw[aF ais];exact S2R
   .by_cases h:j=i
    .rw[h,gy];exact z4
    .rw[f6 h];exact nR j
   .rw[aF hyR];exact z8
   .by_cases h:j=i
    .rw[h,gy];exact z5
    .rw[f6 h];exact ny j
   .rw[cE,iU];refine Paired.snoc (Paired.lR pz λx v q=>q.same λb o e=>?_) ⟨D,Z,?_⟩
    .rw[aF (aI e S2D)];exact e
    .have g1:Fm.getD i ⟨0,[]⟩=lS:=by rw[aG,WR];rfl
     have g2:ls.getD i ⟨[],[],[]⟩=l_:=by rw[aG,hl_];rfl
     have g3:ys.getD i []=y:=by rw[aG,hy1];rfl
     rw[aq,z10];simp only[g1,g2,g3]
   .by_cases h:j=i
    .rw[h] at h1 h2 h3 h4|-
     rw[gy,aj (gn i)];rw[WR] at h1;rw[hl_] at h2;rw[hy1] at h3;rw[hfv] at h4;cases h1;cases h2;cases h3;cases h4;exact z9
    .rw[f6 h];have:=st j rw l y' v h1 h2 h3 h4;by_cases hj:j<i
     .rw[aj hj] at this;rw[aj (by lia)];exact this
     .rw[ah hj] at this;rw[ah (by lia)];exact this
  .have hj':j<y.length:=by simpa using hj
   have hyj:y[j]? =some (y[j]'hj'):=aD hj';rw[aw,hyj] at hu;cases hu;obtain⟨a1,d1,rv1,b1,s1',v1,g1,rfl,zz⟩:=id z9;have sG1:aC G H':=by have:=z1.le i;rw[gy] at this;exact this
   have FH:aC F H':=(FS.trans (sS)).trans z2;have Hu:Apart F G:=λb=>by
    cases e:F b with
    |none=>exact .inl rfl
    |some o=>exact .inr ((z3 b).resolve_left (by rw[sS _ _ (FS _ _ e)];simp))
   refine⟨Z,_,Z,a1,_,_,Z,sG1 _ _ zz.ob,by cases on<;>rfl,_,Z,_,lS,_,_,F,G,Z,FH,sG1,Hu,z9,NH rg _,λH4 k4 rf4=>?_⟩;have et:Bx on lS l_ (y.take (j+1))=((Bx on lS l_ (y.take j)).1++[(fR on lS (Bx on lS l_ (y.take j)).2 (y[j]'hj')).1],(fR on lS (Bx on lS l_ (y.take j)).2 (y[j]'hj')).2):=by
    unfold Bx;rw[Mx.take_snoc hyj,QT]
   have f4:=z1.step i (H':=H4) (by rw[gy];exact k4);have eS:setG (setG Gn i G) i (grow (setG Gn i G i) H' H4)=setG Gn i (grow G H' H4):=by
    funext q;by_cases h:q=i
    .rw[h,gy,gy,gy]
    .rw[f6 h,f6 h,f6 h]
   rw[eS] at f4;have S24:aC S2 H4:=k4.other z2 z3;have eD4:=k4 D _ eD z6;refine k2 _ H4 eD4 ⟨grow G H' H4,f4.side (S:=[D]) (dE.refl.d_ (by simp)) (λq hq=>by rw[show q=D from by simpa using hq];exact r_.keep.dom nD) (λq hq p=>?_),λb o e=>?_,gW z2 z3,cU z7 z4,cU z8 z5,cU eD z6,?_,?_,?_,?_⟩
   .rw[show q=D from by simpa using hq];by_cases h:p=i
    .rw[h,gy];exact cU eD z6
    .rw[f6 h];exact(r_.le p).free nD
   .rw[aF (aI e S2D)];exact S24 _ _ e
   .rw[aF (aI hR nD)];exact k4 _ _ z7 z4
   .rw[aF (aI hy nD)];exact k4 _ _ z8 z5
   .rw[et];exact rf4
   .rw[et,z10];simp
 .rintro σ Hc ⟨y4,y5,y6,zy,Gn,S2,rfl,r_,sS,sH,apn,S2R,nR,hR,hy,ny,pz,st⟩;refine kd Hc zy Gn y4 y5 y6 r_ (sS.trans sH) hR (Paired.lR pz λx v q=>q.same λb o e=>dQ.mpr ⟨(aI e S2R),sH _ _ e⟩) λi rw l y v h1 h2 h3 h4=>?_;have:=st i rw l y v h1 h2 h3 h4;rw[aj (aN.mp h4).1] at this;exact this
def allR (on:Bool)(Fm:List bL)(ls:List bT)(ys:ly)(n:Nat):ly:=(aJ n).map λi=>(Bx on (Fm.getD i ⟨0,[]⟩) (ls.getD i ⟨[],[],[]⟩) (ys.getD i [])).1
def aid (t:fP)(on:Bool)(F G0 H:Hp)(Fm:List bL)(ls:List bT)(ys:ly)(jV:b_)(H':Hp)(JR:Nat->Hp):Prop:=G8 G0 H H' JR/\∀(i:Nat) rw l y v,Fm[i]? =some rw->ls[i]? =some l->ys[i]? =some y->jV[i]? =some v->Ke t F (JR i) rw (Bx on rw l y).2 v
inductive acM (t:fP)(vs:b_)(H:Hp)(Q:VK)(E:XK):Prop|i(fl ja ra:ke)(F G0:Hp)(Gs:Nat->Hp)(Fm:List bL)(ls:List bT)(jV:b_)(js:ig)(xs:ly)(kT:b_)(n:Nat)(_:vs=[.ref fl,.ref ja,.ref ra])(_:abb t F G0 H Gs Fm ls jV)(_:F fl=some (.lst jV))(_:F ja=some (iL (nI js)))(_:F ra=some (.lst kT))(_:Paired (λx v=>IsL x v F) xs kT)(_:∀j∈js,j<=3)(_:xs.length<=4)(_:xs.length=jV.length)(_:js.length=xs.length / 2)(_:∀x∈xs,x.length=n)(_:n<=64)(_:∀H' p zy JR,aid t true F G0 H Fm ls (km sL js xs) jV H' JR->H p=none->H' p=some (.lst zy)->Paired (λx v=>IsL x v H') (allR true Fm ls (km sL js xs) jV.length) zy->Q (.ref p) H')
def PU:T.AR.Ok P w mg lQ jh 5 (acM t):=by
 refine T.AR.ok λnd H vs Q E hr h=>?_;obtain⟨fl,ja,ra,F,G0,Gs,Fm,ls,jV,js,xs,kT,n,rfl,fs,hfl,QF,qo,px,j3,x4,xl,jl,xn,CK,k⟩:=h;refine .i (ao (fL 3 nd (eE ax))
   (ao (gY PassesOwn.never rfl (Br rfl T.IT (ak (pv 0) (ak (kq T.kY (vj T) hr bG (ak (pv 2) (ak (pv 1) (ak (t5 (v:=V.ref t.ym) rfl T.qz.g rfl) ax)))) ax))) (yK rfl (fm (mv 4 nd) (fm (mv 5 nd) pj)))
    (aH (cS (pap (pv 3) (ak (GW [("number",6)] nd (fB (pv 5)) (mv 6 nd) (qO (pv 4) T.dk T.nW (zZ T) hr bG (ak (pv 6) ax))) ax)))))
   (aH (bz (pv 3))))) ?_
 refine⟨by rw[aE];simp,λR nR=>?_⟩;have s0:aC H (upd H R (.lst [])):=aC.upd nR;have FH0:aC F (upd H R (.lst [])):=fs.sF.trans s0;refine⟨_,Z,_,Z,_,Z,true,trivial,ra,ja,xs,kT,js,F,n,Z,FH0,FH0 _ _ qo,px,FH0 _ _ QF,j3,x4,jl,xn,CK,λH1 ya WY s1 hya nya py=>?_⟩;have s01:=s0.trans s1;have FR:F R=none:=fs.sF.free nR;have apk:ya≠R:=b8 aq nya;have Hya:H ya=none:=(bO nya).2;refine⟨fl,ya,jV,WY,Z,i2 (s1 _ _ (FH0 _ _ hfl)),i2 hya,?_⟩;refine LU (on:=true) (S:=vt F (nw (upd H R (.lst [])) H1)) fs s01 (JJ (FH0.trans s1) iK) (λj b=>?_) Fs (Fs _ _ hfl) hya apk (λj=>(fs.r_.le j).free Hya) py (by rw[show aiB true=sL from rfl,gG];exact xl) (λy hy=>f7 (nt _ js xs xn y hy)) (by lia) (by lia) ?_ (s1 _ _ aq) nR (λH' zy JR y4 y5 y6 r_ sS hR pz st=>?_)
 .cases e:F b with
  |some o=>
   refine .inr ((fs.r_.sub j).free ?_);exact cU (fs.sF _ _ e) ((fs.ap b).resolve_left (by rw[e];simp))
  |none=>
   cases e2:nw (upd H R (.lst [])) H1 b with
   |none=>exact .inl (by unfold vt;rw[e];exact e2)
   |some o=>exact .inr ((fs.r_.le j).free (bO (aT.mp e2).1).2)
 .cases e:vt F (nw (upd H R (.lst [])) H1) R with
  |none=>rfl
  |some o=>
   unfold vt at e;rw[FR] at e;have:=(aT.mp e).1;rw[aq] at this;cases this
 .exact⟨_,Z,k H' R zy JR ⟨r_,st⟩ nR hR (Paired.lR pz λx v q=>q.same A1)⟩
inductive ZL (t:fP)(vs:b_)(H:Hp)(Q:VK)(E:XK):Prop|i(fl ja ra:ke)(F G0:Hp)(Gs:Nat->Hp)(Fm:List bL)(ls:List bT)(jV:b_)(js:ig)(xs:ly)(kT:b_)(n:Nat)(_:vs=[.ref fl,.ref ja,.ref ra])(_:abb t F G0 H Gs Fm ls jV)(_:F fl=some (.lst jV))(_:F ja=some (iL (nI js)))(_:F ra=some (.lst kT))(_:Paired (λx v=>IsL x v F) xs kT)(_:∀j∈js,j<=3)(_:xs.length<=4)(_:xs.length=jV.length)(_:js.length=xs.length / 2)(_:∀x∈xs,x.length=n)(_:n<=64)(_:∀H' p zy JR,aid t false F G0 H Fm ls xs jV H' JR->H' p=some (.lst zy)->Paired (λx v=>IsL x v H') (km zJ js (allR false Fm ls xs jV.length)) zy->Q (.ref p) H')
def Zt (on:Bool)(rw:bL)(l:bT)(y:bY):(Bx on rw l y).1.length=y.length:=vN _ _ _
def R8:T.DF.Ok P w mg lQ jh 5 (ZL t):=by
 refine T.DF.ok λnd H vs Q E hr h=>?_;obtain⟨fl,ja,ra,F,G0,Gs,Fm,ls,jV,js,xs,kT,n,rfl,fs,hfl,QF,qo,px,j3,x4,xl,jl,xn,CK,k⟩:=h;refine .i (ao (fL 3 nd (eE ax))
   (ao (gY PassesOwn.never rfl (Br rfl T.IT (ak (pv 0) (ak (pv 2) ax))) (yK rfl (fm (mv 4 nd) (fm (mv 5 nd) pj)))
    (aH (cS (pap (pv 3) (ak (GW [("e",6)] nd (fB (pv 5)) (mv 6 nd) (qO (pv 4) T.dk T.lV (xw T) hr bG (ak (pv 6) ax))) ax)))))
   (aH (bz (kq T.kY (vj T) hr bG (ak (pv 3) (ak (pv 1) (ak (t5 (v:=V.ref t.yo) rfl T.qB.g rfl) ax)))))))) ?_
 refine⟨by rw[aE];simp,λR nR=>?_⟩;have s0:aC H (upd H R (.lst [])):=aC.upd nR;have FH0:aC F (upd H R (.lst [])):=fs.sF.trans s0;have FR:F R=none:=fs.sF.free nR;have apj:∀j,Apart F (Gs j):=λj b=>by
  cases e:F b with
  |some o=>exact .inr ((fs.r_.sub j).free (cU (fs.sF _ _ e) ((fs.ap b).resolve_left (by rw[e];simp))))
  |none=>exact .inl rfl
 refine⟨_,Z,_,Z,fl,ra,jV,kT,Z,i2 (FH0 _ _ hfl),i2 (FH0 _ _ qo),?_⟩;refine LU (on:=false) (S:=F) fs s0 FH0 apj (aC.refl F) hfl (FH0 _ _ qo) (aI qo FR) (λj=>((apj j) ra).resolve_left (by rw[qo];simp)) px xl (λy hy=>f7 (xn y hy)) (by lia) (by lia) FR aq nR (λH' zy JR y4 y5 y6 r_ sS hR pz st=>?_);have iQ:(allR false Fm ls xs jV.length).length=jV.length:=by simp[allR]
 refine⟨_,Z,_,Z,false,trivial,R,ja,allR false Fm ls xs jV.length,zy,js,but H' R,n,Z,A1,hR,pz,sS _ _ QF,j3,by lia,by lia,λx hx=>?_,CK,λH2 p2 v2 s2 e2 n2 pr2=>?_⟩
 .obtain⟨i,hi,rfl⟩:=bj.mp hx;rw[Zt];have Ir:i<xs.length:=by rw[xl];exact cJ.mp hi
  rw[aG,aD Ir];exact xn _ (adA Ir)
 .exact k H2 p2 v2 JR ⟨r_.grown s2,st⟩ e2 (Paired.lR pr2 λx v q=>q.same (JJ (A1.trans s2) iK))
abbrev MdO (t:fP)(dm ba:ke)(seen:Nat):HO:=.ins t.qi dm [("begins",.ref ba),("seen",.int seen)]
inductive MdA (t:fP)(G:Hp)(m:b9)(ma:ke):Prop|i dm ba(_:G ma=some (MdO t dm ba m.seen))(_:G ba=some (iL (nI (A0 m))))
def MdA.same {ma:ke}(h:MdA t G m ma)(s:aC G G'):MdA t G' m ma:=by
 obtain⟨dm,ba,h1,h2⟩:=h;exact⟨dm,ba,s _ _ h1,s _ _ h2⟩
inductive akC (t:fP)(vs:b_)(H:Hp)(Q:VK)(E:XK):Prop|i x dx(_:vs=[.ref x])(_:H x=some (.ins t.qi dx []))(_:∀H' ba,dE [x] H H'->H' x=some (MdO t dx ba 0)->H' ba=some (iL (nI (A0 (gc 64 6))))->H ba=none->Q .gS H')
def U6:nI (A0 (gc 64 6))=(aJ 64).map (λ(i:Nat)=>512*(i:Int))++[32768]:=by decide
def KJ:T.vy.Ok P w mg lQ jh 1 (akC t):=by
 refine T.vy.ok λnd H vs Q E hr h=>?_;obtain⟨x,dx,rfl,hx,k⟩:=h;refine .i (ao (ki (pv 0) (aX mP (GW [("i",1)] nd (jA rfl T.iA (ak (fF T.D_) ax)) (mv 1 nd) (aX fQ aK (pv 1))) (eE (ak (fF T.iR) ax))))
   (aH (ki (pv 0) aK))) ?_
 refine⟨64,Z,by decide,by decide,λD hD=>?_⟩;refine u_ (ys:=((aJ 64).map (λ(i:Nat)=>512*(i:Int))).map V.int) hD (by rw[aE];simp) (by simp) (λi y H2 Q2 hy sm k2=>?_) λH2 e2 s2=>?_
 .have hi:i<64:=by have:=(aN.mp hy).1;simpa using this
  rw[aw,aw,bD hi] at hy;cases hy;refine⟨Z,_,Z,_,_,Z,Z,.inl ⟨by decide,by decide⟩,?_⟩;rw[zF];exact k2 _ (aC.refl _)
 .refine⟨by rw[aE];simp,λp1 n1=>?_⟩;have s3:aC H2 (upd H2 p1 (.lst [.int 32768])):=aC.upd n1;refine⟨D,p1,_,_,Z,Z,s3 _ _ e2,aq,by rw[aE];simp,λba n2=>?_⟩;have s4:=(s2.trans s3).trans (aC.upd (o:=.lst (((aJ 64).map (λ(i:Nat)=>512*(i:Int))).map V.int++[V.int 32768])) n2);have nb:H ba=none:=(s2.trans s3).free n2;have nbx:ba≠x:=b8 hx nb;refine⟨_,Z,Z,s4 _ _ hx,T.jD,Z,Z,tI [("begins",.ref ba)],?_⟩;refine⟨_,Z,Z,aq,T.jD,Z,Z,tI [("begins",.ref ba),("seen",.int 0)],?_⟩;rw[eG];refine k _ ba (s4.chg.d_ (by simp)) aq ?_ nb;rw[aF nbx,aq,U6];simp
inductive agK (t:fP)(vs:b_)(H:Hp)(Q:VK)(E:XK):Prop|i ma m(_:vs=[.ref ma])(_:MdA t H m ma)(_:Af m)(_:Q (.int m.rate) H)
def HC (h:n≠0):Builtin.Int.intBits (n:Int)=n.log2+1:=by
 unfold Builtin.Int.intBits;simp[h]
def KL:T.vz.Ok P w mg lQ jh 1 (agK t):=by
 refine T.vz.ok λnd H vs Q E hr h=>?_;obtain⟨ma,m,rfl,⟨dm,ba,h1,h2⟩,ok,k⟩:=h;refine .i (aH (bz (gP (ot rfl) rfl T.EY AJ (ak (fF T.RV) (ak (En (aX dz (cQ (pv 0)) aK)) ax))))) ?_;refine⟨_,Z,Z,h1,T.jD,Z,Z,_,_,Z,Z,Z,_,Z,Z,_,_,Z,?_⟩;have e:(if((Builtin.Int.intBits ((m.seen:Int)+2):Nat):Int)<6 then((Builtin.Int.intBits ((m.seen:Int)+2):Nat):Int) else 6)=((m.rate:Nat):Int):=by
  have h:=HC (n:=m.seen+2) (by omega);have e0:((m.seen+2:Nat):Int)=(m.seen:Int)+2:=rfl;rw[e0] at h;rw[h];unfold aqK;rw[ok.slow,Xd];split<;>split<;>omega
 exact e ▸ k
def AZ (ok:Af m)(h:i<=64):U2 ((nI (A0 m)).map V.int) (i:Int)=some (.int ((m.begin_ i:Nat):Int)):=by
 refine at_of rfl ?_;rw[aw,aw,Xt ok h];rfl
def Hx (ok:Af m)(h:i<64):m.begin_ i=m.begins.getD i 0:=by
 unfold aqI aqJ;rw[ok.len,aj h]
def Qn (b r x:Nat):((b:Int)*(1*2^((r:Int)).toNat-1)+(x:Int)) / 2^((r:Int)).toNat=(((b*(2^r-1)+x) / 2^r:Nat):Int):=by
 have hp:1<=2^r:=FJ;rw[bF,pM,n8,ft,gZ,Md hp,Ad];rfl
inductive akG (t:fP)(vs:b_)(H:Hp)(Q:VK)(E:XK):Prop|i(ma dm ba:ke)(m:b9)(s:Nat)(_:vs=[.ref ma,.int s])(_:H ma=some (MdO t dm ba m.seen))(_:H ba=some (iL (nI (A0 m))))(_:Af m)(_:s<64)(_:∀H' WI,dE [ma] H H'->H' ma=some (MdO t dm WI (m.saw s).seen)->H' WI=some (iL (nI (A0 (m.saw s))))->H WI=none->Q .gS H')
def Nl:T.xJ.Ok P w mg lQ jh 2 (akG t):=by
 refine T.xJ.ok λnd H vs Q E hr h=>?_;obtain⟨ma,dm,ba,m,s,rfl,h1,h2,ok,hs,k⟩:=h;refine .i (ao (fL 2 nd (Fj (pv 0) T.jD T.vz (KL T) hr bG))
   (ao (fL 3 nd (cQ (pv 0)))
   (ao (fL 4 nd (aX gw (aX uG aK (pv 2)) aK))
   (ao (psc 5 [("i",7)] nd (zq rfl T.iA (ak aK (ak (aX dz (pv 1) aK) ax))) (mv 7 nd) (aX sZ (aX dz (aX fQ (w8 (r:=Qc K) ze (pv 3) (pv 7) (λ_ _=>rfl)) (pv 4)) (pv 7)) (pv 2)))
   (ao (psc 6 [("i",7)] nd (zq rfl T.iA (ak (aX dz (pv 1) aK) (ak (fF T.D_) ax))) (mv 7 nd) (aX sZ (aX gw (aX dz (aX fQ (w8 (r:=Qc K) ze (pv 3) (pv 7) (λ_ _=>rfl)) (pv 4)) (fF T.iR)) (aX gw (fF T.D_) (pv 7))) (pv 2)))
   (ao (ki (pv 0) (aX mP (aX mP (aX mP (eE (ak aK ax)) (pv 5)) (pv 6)) (eE (ak (fF T.iR) ax))))
   (aH (ki (pv 0) (gP (ot rfl) rfl T.EY AJ (ak (fF T.Pn) (ak (aX dz (cQ (pv 0)) aK) ax))))))))))) ?_
 have hr6:=ok.Qg;refine⟨_,Z,ma,_,_,Z,h1,Z,ma,m,Z,⟨dm,ba,h1,h2⟩,ok,?_⟩;refine⟨_,Z,Z,h1,T.jD,Z,Z,?_⟩;refine⟨_,Z,_,_,Z,Z,⟨by lia,by lia,by decide⟩,_,_,Z,Z,?_⟩;refine⟨_,Z,_,_,Z,Z,_,_,Z,⟨by decide,by decide,by lia,by lia⟩,λD hD=>?_⟩;refine u_ (ys:=((aJ s).map λk=>((jd m s (1+k):Nat):Int)).map V.int) hD (by rw[aE];simp;lia) (by simp) (λi y H2 Q2 hy sm k2=>?_) λH2 e2 s2=>?_
 .have hi:i<s:=by have:=(aN.mp hy).1;simpa using this
  rw[aw,aw,bD hi] at hy;cases hy;have eb:=AZ ok (i:=1+i) (by lia);refine⟨Z,_,Z,_,Z,ba,_,_,_,Z,Z,i2 (sm _ _ h2),eb,_,Z,_,_,Z,Z,.inl ?_,_,Z,_,_,Z,Z,_,Z,_,_,Z,Z,(by show(0:Int)<=_;lia),?_⟩
  .have:=Hy ok (s:=1+i) (by lia);exact⟨by lia,by lia⟩
  .have e:=Qn (m.begin_ (1+i)) m.rate (1+i);have e2:((m.begin_ (1+i)*(2^m.rate-1)+(1+i)) / 2^m.rate)=jd m s (1+i):=by
    unfold jd;rw[Hx ok (by lia),aj (by lia)]
   rw[e2] at e;have f:Q2 (V.int ((jd m s (1+i):Nat):Int)) H2:=k2 _ (aC.refl _);rw[<-e] at f;exact f
 .refine⟨_,Z,_,_,Z,Z,_,_,Z,⟨by lia,by lia,by decide,by decide⟩,λD2 hD2=>?_⟩;refine u_ (ys:=((aJ (63-s)).map λk=>((jd m s (s+1+k):Nat):Int)).map V.int) hD2 (by rw[aE];simp;lia) (by rw[c63 hs];simp) (λi y H3 Q2 hy sm k2=>?_) λH3 e3 s3=>?_
  .have hi:i<63-s:=by have:=(aN.mp hy).1;simpa using this
   rw[aw,aw,bD hi] at hy;cases hy;have h6:s+1+i<64:=Wx (by rw[adH];exact hi);have eb:=AZ ok (i:=s+1+i) (cG h6);refine⟨Z,_,Z,_,Z,ba,_,_,_,Z,Z,i2 (sm _ _ (s2 _ _ h2)),eb,_,Z,_,_,Z,Z,.inl ?_,_,_,Z,Z,_,Z,_,_,Z,Z,_,_,Z,Z,_,Z,_,_,Z,Z,(by show(0:Int)<=_;lia),?_⟩
   .have:=Hy ok (s:=s+1+i) (cG h6);exact⟨by lia,by lia⟩
   .have e:=Qn (m.begin_ (s+1+i)) m.rate (32768-(64-(s+1+i)));have e2:((m.begin_ (s+1+i)*(2^m.rate-1)+(32768-(64-(s+1+i)))) / 2^m.rate)=jd m s (s+1+i):=by
     unfold jd;rw[Hx ok h6,ah (by lia)]
    rw[e2] at e;have f:Q2 (V.int ((jd m s (s+1+i):Nat):Int)) H3:=k2 _ (aC.refl _);rw[<-e] at f;have e4:((m.begin_ (s+1+i):Nat):Int)*(1*2^((m.rate:Int)).toNat-1)+((32768-(64-(s+1+i)):Nat):Int)=((m.begin_ (s+1+i):Nat):Int)*(1*2^((m.rate:Int)).toNat-1)+32768-(64-((s:Int)+1+(i:Int))):=by rw[c64 (cG h6)];exact(Int.add_sub_assoc ..).symm
    rw[e4] at f;exact f
  .have s23:=s2.trans s3;refine⟨by rw[aE];simp,λp1 n1=>?_⟩;have t1:aC H3 (upd H3 p1 (.lst [.int 0])):=aC.upd n1;refine⟨_,Z,p1,D,_,_,Z,Z,aq,t1 _ _ (s3 _ _ e2),by rw[aE];simp;lia,λp2 n2=>?_⟩;have t2:=t1.trans (aC.upd (o:=.lst ([V.int 0]++((aJ s).map λk=>((jd m s (1+k):Nat):Int)).map V.int)) n2);refine⟨_,Z,p2,D2,_,_,Z,Z,aq,t2 _ _ e3,by rw[aE];simp;have:=lO 63 s;lia,λp3 n3=>?_⟩;have t3:=t2.trans (aC.upd (o:=.lst ([V.int 0]++((aJ s).map λk=>((jd m s (1+k):Nat):Int)).map V.int++((aJ (63-s)).map λk=>((jd m s (s+1+k):Nat):Int)).map V.int)) n3);refine⟨by rw[aE];simp,λp4 n4=>?_⟩;have t4:=t3.trans (aC.upd (o:=.lst [.int 32768]) n4);have h34:p3≠p4:=aI aq n4;refine⟨p3,p4,_,_,Z,Z,by rw[aF h34,aq],aq,by rw[aE];simp;lia,λp5 n5=>?_⟩;have nb5:H p5=none:=(s23.trans t4).free n5;have n5a:p5≠ma:=b8 h1 nb5;have s5:=(s23.trans t4).trans (aC.upd (o:=.lst ([V.int 0]++((aJ s).map λk=>((jd m s (1+k):Nat):Int)).map V.int++((aJ (63-s)).map λk=>((jd m s (s+1+k):Nat):Int)).map V.int++[V.int 32768])) n5);refine⟨_,Z,Z,s5 _ _ h1,T.jD,Z,Z,tI [("begins",.ref p5),("seen",.int m.seen)],?_⟩;refine⟨_,Z,Z,aq,T.jD,Z,Z,_,_,Z,Z,_,_,Z,?_⟩;have em:(if(m.seen:Int)+1<65535 then(m.seen:Int)+1 else 65535)=(((m.saw s).seen:Nat):Int):=by
    show _=((min 65535 (m.seen+1):Nat):Int);rw[Xd];split<;>split<;>lia
   refine⟨_,Z,Z,aq,T.jD,Z,Z,(show _=([("begins",.ref p5),("seen",.int ((m.saw s).seen:Int))]:List (Str×V)) by rw[<-em];rfl),?_⟩;rw[eG];refine k _ p5 (s5.chg.d_ (by simp)) aq ?_ nb5;rw[aF n5a,aq];show _=some (iL (nI ((m.saw s).begins++[32768])));rw[Sw ok hs];simp[nI];rfl
inductive ZH (t:fP)(vs:b_)(H:Hp)(Q:VK)(E:XK):Prop|i ma m s(_:vs=[.ref ma,.int (s:Nat)])(_:MdA t H m ma)(_:Af m)(_:s<64)(_:Q (.int (m.share s:Nat)) H)
def wY:T.oN.Ok P w mg lQ jh 1 (ZH t):=by
 refine T.oN.ok λnd H vs Q E hr h=>?_;obtain⟨ma,m,s,rfl,⟨dm,ba,h1,h2⟩,ok,hs,k⟩:=h;refine .i (aH (bz (aX gw (J6 (cQ (pv 0)) (aX dz (pv 1) aK)) (J6 (cQ (pv 0)) (pv 1))))) ?_;refine⟨_,Z,Z,h1,T.jD,Z,Z,_,Z,_,_,Z,Z,ba,_,_,_,Z,Z,i2 h2,AZ ok (i:=s+1) (by lia),_,Z,Z,h1,T.jD,Z,Z,_,Z,ba,_,_,_,Z,Z,i2 h2,AZ ok (i:=s) (by lia),_,_,Z,Z,?_⟩;have e:((m.begin_ (s+1):Nat):Int)-((m.begin_ s:Nat):Int)=((m.share s:Nat):Int):=by
  have:=Hz ok hs;unfold aqL;lia
 rw[<-e] at k;exact k
inductive acR (t:fP)(vs:b_)(H:Hp)(Q:VK)(E:XK):Prop|i ma m k(_:vs=[.ref ma,.int (k:Nat)])(_:MdA t H m ma)(_:Af m)(_:k<32768)(_:Q (.int (m.at_ k:Nat)) H)
def Bm:T.oO.Ok P w mg lQ jh 1 (acR t):=by
 refine T.oO.ok λnd H vs Q E hr h=>?_;obtain⟨ma,m,kk,rfl,⟨dm,ba,h1,h2⟩,ok,hk,k⟩:=h;refine .i (ao (fL 2 nd aK)
   (ao (C1 PassesOwn.never (rf LL (J6 (cQ (pv 0)) (aX dz (pv 2) aK)) (pv 1)) (aH (Js (i:=2) nd rfl (Ah rfl) aK M5)))
   (aH (bz (pv 2))))) ?_
 have hin:=Ti ok hk;refine⟨λq σ H'=>H'=H/\∃i:Nat,i<=m.at_ kk/\q=m.at_ kk-i/\σ=[some (.ref ma),some (.int kk),some (.int i)],⟨_,Z,0,eU _,Z,Z⟩,?_⟩;rintro q σ H' ⟨rfl,i,hi,rfl,rfl⟩;refine⟨_,Z,Z,h1,T.jD,Z,Z,_,Z,_,_,Z,Z,ba,_,_,_,Z,Z,i2 h2,AZ ok (i:=i+1) (bt (Nat.succ_le_succ hi) hin.1),_,Z,_,_,Z,Z,_,Z,?_⟩;by_cases h:i=m.at_ kk
 .rw[ae (by rw[h];lia)];refine fK ⟨_,Z,?_⟩;rw[h];exact k
 .have hi:=FF hi h;have ei:=i7 hi;have hm:=vQ ok (s:=i+1) (d:=m.at_ kk-(i+1)) (by rw[ei];exact cG hin.1);rw[ei] at hm;rw[ag (um.mpr (bt hm hin.2.1))];refine eZ ⟨λgz H2=>H2=H'/\gz=[some (.ref ma),some (.int kk),some (.int (i+1:Nat))],λgz H2 ⟨e1,e2⟩=>⟨m.at_ kk-(i+1),pA hi (bq 1),e1,i+1,hi,Z,e2⟩,_,Z,_,_,Z,Z,Z,Z⟩
abbrev S4 (t:fP)(dx da wa:ke)(ay pd:Nat):HO:=.ins t.i9 dx [("lanes",.int ay),("models",.ref da),("passed",.int pd),("waiting",.ref wa)]
structure S5 (t:fP)(G:Hp)(ay:Nat)(ms:List b9)(pd:Nat)(wl:List (Nat×Nat))(a dx da wa:ke)(cf:List (Key×V))(uQ:b_):Prop where
 ob:G a=some (S4 t dx da wa ay pd)
 hd:G da=some (.dK cf)
 hw:G wa=some (.lst uQ)
 nd:(cf.map (·.1)).Nodup
 ks:∀k∈cf.map (·.1),∃n:Nat,n<ms.length/\k=.inl (n:Int)
 wt:Paired (λ(p:Nat×Nat) v=>isP ((p.1:Int),(p.2:Int)) v G) wl uQ
 wo:∀p∈wl,p.1<ms.length/\p.2<64
 GS:oK ms
 ml:ms.length<=64
 no:∀(n:Nat) m,ms[n]? =some m->mS cf (.inl (n:Int))=none->m=gc 64 6
 ye:∀(n:Nat) m v,ms[n]? =some m->mS cf (.inl (n:Int))=some v->∃ma,v=.ref ma/\MdA t G m ma
 inj:∀(n n':Nat) v,mS cf (.inl (n:Int))=some v->mS cf (.inl (n':Int))=some v->n=n'
theorem Na:∀(n:Nat) (cf:List (Key×V)),(cf.map (·.1)).Nodup->(∀k∈cf.map (·.1),∃i:Nat,i<n/\k=.inl (i:Int))->cf.length<=n
 |0,cf,_,h=>by
  cases cf with
  |nil=>simp
  |cons a r=>obtain⟨i,hi,_⟩:=h a.1 (by simp);lia
 |n+1,cf,nd,h=>by
  by_cases hm:(.inl (n:Int):Key)∈cf.map (·.1)
  .have h1:=Lm nd hm;have h2:=Na n (u4 cf (.inl (n:Int))) (IU nd) λk hk=>by
    obtain⟨p,hp,rfl⟩:=bj.mp hk;obtain⟨i,hi,e⟩:=h p.1 (bj.mpr ⟨p,Ln hp,Z⟩);have GQ:p.1≠.inl (n:Int):=by simpa[u4] using(oW.mp hp).2
    refine⟨i,?_,e⟩;by_cases q:i=n
    .subst q;exact absurd e GQ
    .lia
   lia
  .have h2:=Na n cf nd λk hk=>by
    obtain⟨i,hi,e⟩:=h k hk;refine⟨i,?_,e⟩;by_cases q:i=n
    .subst q;rw[e] at hk;exact absurd hk hm
    .lia
   lia
def S5.same {ms:List b9}{da wa:ke}{cf:List (Key×V)}(b:S5 t G ay ms pd wl a dx da wa cf uQ)(s:aC G G'):S5 t G' ay ms pd wl a dx da wa cf uQ:=
 ⟨s _ _ b.ob,s _ _ b.hd,s _ _ b.hw,b.nd,b.ks,Paired.lR b.wt λp v z=>z.same s,b.wo,b.GS,b.ml,b.no,λn m v h1 h2=>by
  obtain⟨ma,e,z⟩:=b.ye n m v h1 h2;exact⟨ma,e,z.same s⟩,b.inj⟩
inductive NX (t:fP)(G:Hp)(ay:Nat)(ms:List b9)(pd:Nat)(wl:List (Nat×Nat))(a:ke):Prop|i dx da wa cf uQ(_:S5 t G ay ms pd wl a dx da wa cf uQ)
def NX.same {ms:List b9}(b:NX t G ay ms pd wl a)(s:aC G G'):NX t G' ay ms pd wl a:=by
 obtain⟨dx,da,wa,cf,uQ,z⟩:=b;exact⟨dx,da,wa,cf,uQ,z.same s⟩
inductive aky (t:fP)(vs:b_)(H:Hp)(Q:VK)(E:XK):Prop|i(x dx:ke)(ay:Nat)(_:vs=[.ref x,.int ay])(_:H x=some (.ins t.i9 dx []))(_:∀H' da wa,dE [x] H H'->H' x=some (S4 t dx da wa ay 0)->H' da=some (.dK [])->H' wa=some (.lst [])->H da=none->H wa=none->Q .gS H')
def CN:T.tP.Ok P w mg lQ jh 1 (aky t):=by
 refine T.tP.ok λnd H vs Q E hr h=>?_;obtain⟨x,dx,ay,rfl,hx,k⟩:=h;refine .i (ao (ki (pv 0) (pv 1))
   (ao (ki (pv 0) Zb)
   (ao (ki (pv 0) aK)
   (aH (ki (pv 0) (eE ax)))))) ?_
 refine⟨_,Z,_,Z,Z,hx,T.ie,Z,Z,tI [("lanes",.int ay)],?_⟩;have c1:dE [x] H (upd H x (.ins t.i9 dx [("lanes",.int ay)])):=dE.refl.d_ (by simp);have x1:upd H x (.ins t.i9 dx [("lanes",.int ay)]) x=some (.ins t.i9 dx [("lanes",.int ay)]):=aq;generalize upd H x (.ins t.i9 dx [("lanes",.int ay)])=H1 at c1 x1|-
 intro da n1;have s1:aC H1 (upd H1 da (.dK [])):=aC.upd n1;have nda:H da=none:=fU c1 x1 n1;have ndx:da≠x:=b8 hx nda;refine⟨_,Z,Z,s1 _ _ x1,T.ie,Z,Z,tI [("lanes",.int ay),("models",.ref da)],?_⟩;refine⟨_,Z,Z,aq,T.ie,Z,Z,tI [("lanes",.int ay),("models",.ref da),("passed",.int 0)],?_⟩;rw[eG];have c2:dE [x] H (upd (upd H1 da (.dK [])) x (.ins t.i9 dx [("lanes",.int ay),("models",.ref da),("passed",.int 0)])):=(c1.trans s1.chg).d_ (by simp);have x2:upd (upd H1 da (.dK [])) x (.ins t.i9 dx [("lanes",.int ay),("models",.ref da),("passed",.int 0)]) x=some (.ins t.i9 dx [("lanes",.int ay),("models",.ref da),("passed",.int 0)]):=aq;have d2:upd (upd H1 da (.dK [])) x (.ins t.i9 dx [("lanes",.int ay),("models",.ref da),("passed",.int 0)]) da=some (.dK []):=by rw[aF ndx,aq]
 generalize upd (upd H1 da (.dK [])) x (.ins t.i9 dx [("lanes",.int ay),("models",.ref da),("passed",.int 0)])=H2 at c2 x2 d2|-
 refine⟨by rw[aE];simp,λwa n2=>?_⟩;have s2:aC H2 (upd H2 wa (.lst [])):=aC.upd n2;have nwa:H wa=none:=fU c2 x2 n2;have nwx:wa≠x:=b8 hx nwa;refine⟨_,Z,Z,s2 _ _ x2,T.ie,Z,Z,tI [("lanes",.int ay),("models",.ref da),("passed",.int 0),("waiting",.ref wa)],?_⟩;exact k _ da wa ((c2.trans s2.chg).d_ (by simp)) aq (by rw[aF ndx];exact s2 _ _ d2) (by rw[aF nwx,aq]) nda nwa
def AX (n:Nat):oK (aM n (gc 64 6)):=λm hm=>by
 rw[(fc.mp hm).2];exact Af.even
def S5.na {ms:List b9}{da wa:ke}{cf:List (Key×V)}(b:S5 t G ay ms pd wl a dx da wa cf uQ):a≠da/\a≠wa/\da≠wa:=
 ⟨hG b.ob b.hd (by intro z;cases z),hG b.ob b.hw (by intro z;cases z),hG b.hd b.hw (by intro z;cases z)⟩
def akX (h:Paired (λ(p:Nat×Nat) v=>isP ((p.1:Int),(p.2:Int)) v G) wl uQ)(ok:Af m):HO.lst uQ≠iL (nI (A0 m)):=by
 intro e;have e:uQ=(nI (A0 m)).map V.int:=by injection e
 have hl:(A0 m).length=65:=Ov ok;cases h with
 |nil=>have:=congrArg lA e;simp at this;lia
 |cons h1 h2=>
  obtain⟨p,rfl,_⟩:=h1;cases hb:A0 m with
  |nil=>rw[hb] at hl;simp at hl
  |cons x r=>rw[hb] at e;simp at e
inductive V1 (t:fP)(vs:b_)(H:Hp)(Q:VK)(E:XK):Prop|i(a dx da wa:ke)(cf:List (Key×V))(uQ:b_)(ay:Nat)(ms:List b9)(pd:Nat)(wl:List (Nat×Nat))(n:Nat)(G:Hp)(_:vs=[.ref a,.int n])(_:aC G H)(_:S5 t G ay ms pd wl a dx da wa cf uQ)(_:n<ms.length)(_:∀ma H' Pq,fz G H H'->S5 t (grow G H H') ay ms pd wl a dx da wa Pq uQ->mS Pq (.inl (n:Int))=some (.ref ma)->Q (.ref ma) H')
def pX:T.kX.Ok P w mg lQ jh 3 (V1 t):=by
 refine T.kX.ok λnd H vs Q E hr h=>?_;obtain⟨a,dx,da,wa,cf,uQ,ay,ms,pd,wl,n,G,rfl,sG,b,hn,k⟩:=h;have HA:=sG _ _ b.ob;have HD:=sG _ _ b.hd;refine .i (ao (gi (Si (VO (Yx hr) (pv 1) (Jq (pv 0) rfl))) (aH (acw (Yx hr) (Jq (pv 0) rfl) (pv 1) (P5 T.abh (KJ T) (hr.mono (by decide)) rfl T.X1 T.vy.b .nil bG) rfl)) cT)
   (aH (bz (aco (Yx hr) (Jq (pv 0) rfl) (pv 1) (λ_ _=>rfl))))) ?_
 obtain⟨m,hm⟩:∃m,ms[n]? =some m:=⟨_,aD hn⟩;refine⟨_,Z,_,Z,Z,HA,T.ie,Z,Z,da,_,Z,Ka.k (k:=.inl (n:Int)) HD,_,Z,?_⟩;cases hv:mS cf (.inl (n:Int)) with
 |some v=>
  obtain⟨ma,rfl,_⟩:=b.ye n m v hm hv;refine fK ⟨_,Z,Z,HA,T.ie,Z,Z,_,Z,da,.ref ma,Z,?_,k ma H cf fz.refl (b.same (zd sG)) hv⟩;have:=Ka.k (k:=.inl (n:Int)) HD;rw[hv] at this;exact this
 |none=>
  have hk:=Na ms.length cf b.nd b.ks;have Ly:=b.ml;refine eZ λx sU n1 n2 n3=>⟨x,sU,Z,aq,λH3 ba c hx hba nba=>⟨Z,?_⟩⟩;have s1:aC H (upd (upd H sU (.own x)) x (.ins t.qi sU [])):=gA n1 n2;have s3:aC H H3:=dE.back s1 c (by intro y hy;rw[show y=x from by simpa using hy];exact n1);have nbH:H ba=none:=s1.free nba;refine⟨_,Z,Z,s3 _ _ HA,T.ie,Z,Z,_,Z,da,_,Z,.inl ⟨cf,.inl (n:Int),s3 _ _ HD,Z,by rw[aE];lia,Z⟩,?_⟩;have nad:=b.na.1;have HA4:upd H3 da (.dK (putK cf (.inl (n:Int)) (.ref x))) a=some (S4 t dx da wa ay pd):=by rw[aF nad];exact s3 _ _ HA
  have gt:mS (putK cf (.inl (n:Int)) (V.ref x)) (.inl (n:Int))=some (.ref x):=by rw[Dr,aj rfl]
  refine⟨_,Z,Z,HA4,T.ie,Z,Z,_,Z,da,.ref x,Z,?_,?_⟩
  .have:=Ka.k (k:=.inl (n:Int)) (aq (H:=H3) (a:=da) (o:=.dK (putK cf (.inl (n:Int)) (.ref x))));rw[gt] at this;exact this
  have kp:fz G H (upd H3 da (.dK (putK cf (.inl (n:Int)) (.ref x)))):=λy o e g=>by
   rw[aF (b8 b.hd g)];exact s3 _ _ e
  have gs:∀y o,G y=some o->y≠da->grow G H (upd H3 da (.dK (putK cf (.inl (n:Int)) (.ref x)))) y=some o:=λy o e ny=>bC.mpr ⟨.inl (by rw[e];rfl),by rw[aF ny];exact s3 _ _ (sG _ _ e)⟩;have apC:x≠da:=b8 HD n1;have apo:ba≠da:=b8 HD nbH;have hme:m=gc 64 6:=b.no n m hm hv;refine k x _ (putK cf (.inl (n:Int)) (.ref x)) kp ⟨gs _ _ b.ob nad,bC.mpr ⟨.inl (by rw[b.hd];rfl),aq⟩,gs _ _ b.hw b.na.2.2.symm,acd _ b.nd hv,λq hq=>?_,Paired.lR b.wt λp v z=>?_,b.wo,b.GS,b.ml,λq m' h1 h2=>?_,λq m' v h1 h2=>?_,λq q' v h1 h2=>?_⟩ gt
  .rw[Qb _ hv,iU] at hq;rcases de.mp hq with h|h
   .exact b.ks q h
   .exact⟨n,hn,by simpa using h⟩
  .obtain⟨p1,rfl,QG⟩:=z;exact⟨p1,Z,gs _ _ QG (hG QG b.hd (by intro z;cases z))⟩
  .rw[Dr] at h2;by_cases e:(.inl (q:Int):Key)=.inl (n:Int)
   .rw[aj e] at h2;cases h2
   .rw[ah e] at h2;exact b.no q m' h1 h2
  .rw[Dr] at h2;by_cases e:(.inl (q:Int):Key)=.inl (n:Int)
   .rw[aj e] at h2;cases h2;have hq:q=n:=by
     have:(q:Int)=(n:Int):=by injection e
     lia
    rw[hq,hm] at h1;cases h1;rw[hme];exact⟨x,Z,sU,ba,bC.mpr ⟨.inr n1,by rw[aF apC];exact hx⟩,bC.mpr ⟨.inr nbH,by rw[aF apo];exact hba⟩⟩
   .rw[ah e] at h2;obtain⟨ma,rfl,dm,bb,z1,z2⟩:=b.ye q m' v h1 h2;exact⟨ma,Z,dm,bb,gs _ _ z1 (hG z1 b.hd (by intro z;cases z)),gs _ _ z2 (hG z2 b.hd (by intro z;cases z))⟩
  .have old:∀(i:Nat),mS cf (.inl (i:Int))≠some (.ref x):=λi e=>by
    have hi:=b.ks _ (adh e);obtain⟨i',Ir,e'⟩:=hi;have:(i:Int)=(i':Int):=by injection e'
    obtain⟨m',hm'⟩:∃m,ms[i]? =some m:=⟨_,aD (by lia)⟩;obtain⟨ma,e2,dm,bb,z1,_⟩:=b.ye i m' _ hm' e;cases e2;rw[sG _ _ z1] at n1;cases n1
   rw[Dr] at h1 h2;by_cases e:(.inl (q:Int):Key)=.inl (n:Int)
   .rw[aj e] at h1;cases h1;by_cases e':(.inl (q':Int):Key)=.inl (n:Int)
    .have a1:(q:Int)=(n:Int):=by injection e
     have a2:(q':Int)=(n:Int):=by injection e'
     lia
    .rw[ah e'] at h2;exact absurd h2 (old q')
   .rw[ah e] at h1;by_cases e':(.inl (q':Int):Key)=.inl (n:Int)
    .rw[aj e'] at h2;cases h2;exact absurd h1 (old q)
    .rw[ah e'] at h2;exact b.inj q q' v h1 h2
inductive agE (t:fP)(vs:b_)(H:Hp)(Q:VK)(E:XK):Prop|i(a dx da wa:ke)(ay pd:Nat)(_:vs=[.ref a])(_:H a=some (S4 t dx da wa ay pd))(_:1<=ay)(_:Q (.int (pd%ay:Nat)) H)
def CO:T.tQ.Ok P w mg lQ jh 1 (agE t):=by
 refine T.tQ.ok λnd H vs Q E hr h=>?_;obtain⟨a,dx,da,wa,ay,pd,rfl,h1,hl,k⟩:=h;refine .i (aH (bz (aX pY (cQ (pv 0)) (cQ (pv 0))))) ?_;exact⟨_,Z,Z,h1,T.ie,Z,Z,_,Z,Z,h1,T.ie,Z,Z,_,_,Z,Z,(by show(0:Int)<_;lia),k⟩
def p8 (ms:List b9)(wl:List (Nat×Nat)):List b9:=wl.foldl (λ(ms:aeR) (p:Nat×Nat)=>ms.modify p.1 λ(x:b9)=>x.saw p.2) ms
def UZ {ms:List b9}(h:oK ms)(n:Nat){s:Nat}(hs:s<64):oK (ms.modify n λx=>x.saw s):=λm hm=>by
 obtain⟨i,hi⟩:=dJ.mp hm;rw[rY] at hi;cases e:ms[i]? with
 |none=>rw[e] at hi;cases hi
 |some x=>
  rw[e] at hi;have hx:=h x (az e);simp at hi;by_cases q:n=i
  .rw[aj q] at hi;rw[<-hi];exact hx.saw hs
  .rw[ah q] at hi;rw[<-hi];exact hx
def S5.see {ms:List b9}{da wa:ke}{cf:List (Key×V)}(b:S5 t G ay ms pd wl a dx da wa cf uQ)(sG:aC G H1){s:Nat}{ma dm WI:ke}(hm:ms[n]? =some m)(hv:mS cf (.inl (n:Int))=some (.ref ma))(N6:G ma=some (MdO t dm ba m.seen))(hs:s<64)
  (c:dE [ma] H1 H2) (h1:H2 ma=some (MdO t dm WI (m.saw s).seen)) (h2:H2 WI=some (iL (nI (A0 (m.saw s))))) (nb:H1 WI=none):fz G H1 H2/\S5 t (grow G H1 H2) ay (ms.modify n λx=>x.saw s) pd wl a dx da wa cf uQ:=by
 have gs:∀y o,G y=some o->y≠ma->grow G H1 H2 y=some o:=λy o e ny=>bC.mpr ⟨.inl (by rw[e];rfl),c.one (sG _ _ e) ny⟩;have ml:(ms.modify n λx=>x.saw s).length=ms.length:=aay ..;refine⟨λy o e g=>c.one e (b8 N6 g),gs _ _ b.ob (hG b.ob N6 (by intro z;injection z with _ _ z;cases z)),gs _ _ b.hd (hG b.hd N6 (by intro z;cases z)),gs _ _ b.hw (hG b.hw N6 (by intro z;cases z)),b.nd,by rw[ml];exact b.ks,Paired.lR b.wt λp v z=>?_,by rw[ml];exact b.wo,UZ b.GS n hs,by rw[ml];exact b.ml,λq m' z1 z2=>?_,λq m' v z1 z2=>?_,b.inj⟩
 .obtain⟨p1,rfl,QG⟩:=z;exact⟨p1,Z,gs _ _ QG (hG QG N6 (by intro z;cases z))⟩
 .rw[rY] at z1;by_cases e:n=q
  .rw[<-e,hv] at z2;cases z2
  .simp only[ah e] at z1;exact b.no q m' (by simpa using z1) z2
 .rw[rY] at z1;by_cases e:n=q
  .simp only[aj e] at z1;rw[<-e,hm] at z1;rw[<-e,hv] at z2;cases z1;cases z2;exact⟨ma,Z,dm,WI,bC.mpr ⟨.inl (by rw[N6];rfl),h1⟩,bC.mpr ⟨.inr nb,h2⟩⟩
  .simp only[ah e] at z1;obtain⟨mb,rfl,d1,b1,q1,q2⟩:=b.ye q m' v (by simpa using z1) z2;have nm:mb≠ma:=by
    rintro rfl;exact e (b.inj n q _ hv z2)
   exact⟨mb,Z,d1,b1,gs _ _ q1 nm,gs _ _ q2 (hG q2 N6 (by intro z;cases z))⟩
def Sx (ms:List b9)(wl:List (Nat×Nat)):(p8 ms wl).length=ms.length:=by
 unfold p8;induction wl generalizing ms with
 |nil=>rfl
 |cons p r ih=>rw[bR,ih,aay]
inductive Uv (t:fP)(vs:b_)(H:Hp)(Q:VK)(E:XK):Prop|i(a:ke)(ay:Nat)(ms:List b9)(pd:Nat)(wl:List (Nat×Nat))(G:Hp)(_:vs=[.ref a])(_:aC G H)(_:NX t G ay ms pd wl a)(_:1<=ay)(_:wl.length<=1000000)(_:∀H',fz G H H'->NX t (grow G H H') ay (if(pd+1)%ay=0 then p8 ms wl else ms) (pd+1) (if(pd+1)%ay=0 then[] else wl) a->Q .gS H')
def pf:T.j8.Ok P w mg lQ jh 4 (Uv t):=by
 refine T.j8.ok λnd H vs Q E hr h=>?_;obtain⟨a,ay,ms,pd,wl,G,rfl,sG,⟨dx,da,wa,cf,uQ,b⟩,hl,hwl,k⟩:=h;refine .i (ao (P_ (pv 0) aK YC)
   (aH (gi (rf lp (aX pY (cQ (pv 0)) (cQ (pv 0))) aK) (ao (gY PassesOwn.never rfl (fB (cQ (pv 0))) (mv 1 nd)
    (aH (cS (qO (qO (pv 0) T.ie T.kX (pX T) hr bG (ak (w8 (r:=Sj K) D8 (pv 1) aK (λ_ _=>rfl)) ax)) T.jD T.xJ (Nl T) hr bG (ak (w8 (r:=Sj K) D8 (pv 1) aK (λ_ _=>rfl)) ax)))))
   (aH (ki (pv 0) (eE ax)))) cT))) ?_
 have HA:=sG _ _ b.ob;refine⟨_,Z,Z,HA,T.ie,Z,Z,_,_,Z,Z,_,_,_,HA,Z,Z,?_⟩;have eo:HO.ins t.i9 dx (vm "passed" (V.int ((pd:Int)+1)) [("lanes",.int ay),("models",.ref da),("passed",.int pd),("waiting",.ref wa)])=S4 t dx da wa ay (pd+1):=rfl;rw[eo];have c1:dE [a] H (upd H a (S4 t dx da wa ay (pd+1))):=dE.refl.d_ (by simp);have IF:fz G H (upd H a (S4 t dx da wa ay (pd+1))):=λy o e g=>c1.one e (b8 b.ob g);have b1:S5 t (grow G H (upd H a (S4 t dx da wa ay (pd+1)))) ay ms (pd+1) wl a dx da wa cf uQ:=by
  have gs:∀y o,G y=some o->y≠a->grow G H (upd H a (S4 t dx da wa ay (pd+1))) y=some o:=λy o e ny=>bC.mpr ⟨.inl (by rw[e];rfl),c1.one (sG _ _ e) ny⟩;refine⟨bC.mpr ⟨.inl (by rw[b.ob];rfl),aq⟩,gs _ _ b.hd b.na.1.symm,gs _ _ b.hw b.na.2.1.symm,b.nd,b.ks,Paired.lR b.wt λp v z=>?_,b.wo,b.GS,b.ml,b.no,λq m' v z1 z2=>?_,b.inj⟩
  .obtain⟨p1,rfl,QG⟩:=z;exact⟨p1,Z,gs _ _ QG (hG QG b.ob (by intro z;cases z))⟩
  .obtain⟨mb,rfl,d1,bb1,q1,q2⟩:=b.ye q m' v z1 z2;exact⟨mb,Z,d1,bb1,gs _ _ q1 (hG q1 b.ob (by intro z;injection z with _ _ z;cases z)),gs _ _ q2 (hG q2 b.ob (by intro z;cases z))⟩
 have Wo:upd H a (S4 t dx da wa ay (pd+1)) a=some (S4 t dx da wa ay (pd+1)):=aq;generalize upd H a (S4 t dx da wa ay (pd+1))=H1 at c1 IF b1 Wo|-
 refine⟨_,Z,Z,Wo,T.ie,Z,Z,_,Z,Z,Wo,T.ie,Z,Z,_,_,Z,Z,(by show(0:Int)<_;lia),Z,_,Z,?_⟩;rw[og];have em:(((pd+1:Nat):Int)%(ay:Int))=(((pd+1)%ay:Nat):Int):=rfl;rw[em];by_cases hz:(pd+1)%ay=0
 .rw[ag (by lia)];rw[aj hz,aj hz] at k;refine eZ ?_;refine⟨_,Z,Z,Wo,T.ie,Z,Z,wa,Z,⟨uQ,i2 (cg _ _ b1.hw)⟩,?_⟩;refine qE (xs:=uQ) (λi σ H'=>X2 λy1 Pq=>C3 (σ=[some (.ref a),y1]) (fz G H H') (S5 t (grow G H H') ay (p8 ms (wl.take i)) (pd+1) wl a dx da wa Pq uQ)) ⟨none,cf,Z,IF,b1⟩ ?_ ?_ ?_
  .rintro i σ H' _ ⟨_,_,_,_,bb⟩;exact i2 (cg _ _ bb.hw)
  .rintro i v σ H' hv ⟨y1,Pq,rfl,kp,bb⟩;obtain⟨p,hp,pp,rfl,hpp⟩:=iS bb.wt hv;have hw:=b.wo p (az hp);have gl:=Sx ms (wl.take i);refine⟨_,Z,a,_,_,Z,cg _ _ bb.ob,Z,_,Z,pp,_,_,_,Z,Z,i2 (cg _ _ hpp),Z,a,dx,da,wa,Pq,uQ,ay,_,pd+1,wl,p.1,grow G H H',Z,cg,bb,by rw[gl];exact hw.1,λma H2 af2 Bk bb2 hv2=>?_⟩;obtain⟨m,hm⟩:∃m,(p8 ms (wl.take i))[p.1]? =some m:=⟨_,aD (by rw[gl];exact hw.1)⟩;obtain⟨ma',e,dm,ba,N6,hba⟩:=bb2.ye p.1 m _ hm hv2;cases e;have Y2:=bb2.GS m (az hm);have avC:=bb2.wt;obtain⟨p',hp',pp',e',aov⟩:=iS bb2.wt hv;cases e';rw[hp] at hp';cases hp';refine⟨ma,dm,_,Z,cg _ _ N6,Z,_,Z,pp,_,_,_,Z,Z,i2 (cg _ _ aov),Z,ma,dm,ba,m,p.2,Z,cg _ _ N6,cg _ _ hba,Y2,hw.2,λH3 WI c3 h31 h32 n3=>?_⟩;obtain⟨QI,bb3⟩:=bb2.see cg hm hv2 N6 hw.2 c3 h31 h32 n3;refine⟨some (.ref pp),af2,Z,kp.trans ?_,?_⟩
   .exactλy o e g=>QI y o (Bk y o e g) (cU e g)
   .have e1:p8 ms (wl.take (i+1))=(p8 ms (wl.take i)).modify p.1 λx=>x.saw p.2:=by
     unfold p8;rw[Mx.take_snoc hp,dB];rfl
    rw[e1];exact bb3.same ((oh Bk).trans (oh kp))
  .rintro σ H' ⟨y1,Pq,rfl,kp,bb⟩;rw[cn (by rw[dR b.wt];exact bq _)] at bb;refine⟨by rw[aE];simp,λp1 n1=>?_⟩;have s1:aC H' (upd H' p1 (.lst [])):=aC.upd n1;have S7:=cg _ _ bb.ob;refine⟨_,Z,Z,s1 _ _ S7,T.ie,Z,Z,tI [("lanes",.int ay),("models",.ref da),("passed",.int ((pd+1:Nat):Int)),("waiting",.ref p1)],?_⟩;have n1a:p1≠a:=b8 S7 n1;have c2:dE [a] H' (upd (upd H' p1 (.lst [])) a (S4 t dx da p1 ay (pd+1))):=s1.chg.d_ (by simp);have gs:∀y o,grow G H H' y=some o->y≠a->grow G H (upd (upd H' p1 (.lst [])) a (S4 t dx da p1 ay (pd+1))) y=some o:=λy o e ny=>by
    obtain⟨z1,z2⟩:=bC.mp e;exact bC.mpr ⟨z1,c2.one z2 ny⟩
   refine k _ (λy o e g=>c2.one (kp y o e g) (b8 b.ob g)) ⟨dx,da,p1,Pq,[],bC.mpr ⟨.inl (by rw[b.ob];rfl),aq⟩,gs _ _ bb.hd bb.na.1.symm,bC.mpr ⟨kp.dom n1,by rw[aF n1a,aq]⟩,bb.nd,bb.ks,.nil,(λp hp=>by simp at hp),bb.GS,bb.ml,bb.no,λq m' v z1 z2=>?_,bb.inj⟩;obtain⟨mb,rfl,d1,bb1,q1,q2⟩:=bb.ye q m' v z1 z2;exact⟨mb,Z,d1,bb1,gs _ _ q1 (hG q1 bb.ob (by intro z;injection z with _ _ z;cases z)),gs _ _ q2 (hG q2 bb.ob (by intro z;cases z))⟩
 .rw[ae (by lia)];rw[ah hz,ah hz] at k;exact fK (k H1 IF ⟨dx,da,wa,cf,uQ,b1⟩)
inductive Uw (t:fP)(vs:b_)(H:Hp)(Q:VK)(E:XK):Prop|i(a:ke)(ay:Nat)(ms:List b9)(pd:Nat)(wl:List (Nat×Nat))(n s:Nat)(G:Hp)(_:vs=[.ref a,.int n,.int s])(_:aC G H)(_:NX t G ay ms pd wl a)(_:1<=ay)(_:wl.length<=100000)(_:n<ms.length)(_:s<64)(_:∀H',fz G H H'->NX t (grow G H H') ay (if(pd+1)%ay=0 then p8 ms (wl++[(n,s)]) else ms) (pd+1) (if(pd+1)%ay=0 then[] else wl++[(n,s)]) a->Q .gS H')
def rD:T.kz.Ok P w mg lQ jh 5 (Uw t):=by
 refine T.kz.ok λnd H vs Q E hr h=>?_;obtain⟨a,ay,ms,pd,wl,n,s,G,rfl,sG,⟨dx,da,wa,cf,uQ,b⟩,hl,hwl,hn,hs,k⟩:=h;refine .i (ao (cS (pap (cQ (pv 0)) (ak (s_ (ak (pv 1) (ak (pv 2) ax))) ax)))
   (aH (cS (Fj (pv 0) T.ie T.j8 (pf T) hr bG)))) ?_
 have HA:=sG _ _ b.ob;have HW:=sG _ _ b.hw;have wl2:uQ.length=wl.length:=(dR b.wt).symm;refine⟨_,Z,Z,HA,T.ie,Z,Z,L0 HW,_,Z,_,Z,by rw[aE];simp,λtp n1=>?_⟩;have s1:aC H (upd H tp (.tup [.int n,.int s])):=aC.upd n1;refine⟨wa,_,_,Z,Z,s1 _ _ HW,by rw[aE];lia,?_⟩;have nwt:tp≠wa:=b8 HW n1;have c1:dE [wa] H (upd (upd H tp (.tup [.int n,.int s])) wa (.lst (uQ++[.ref tp]))):=s1.chg.d_ (by simp);have IF:fz G H (upd (upd H tp (.tup [.int n,.int s])) wa (.lst (uQ++[.ref tp]))):=λy o e g=>c1.one e (b8 b.hw g);have b1:S5 t (grow G H (upd (upd H tp (.tup [.int n,.int s])) wa (.lst (uQ++[.ref tp])))) ay ms pd (wl++[(n,s)]) a dx da wa cf (uQ++[.ref tp]):=by
  have gs:∀y o,G y=some o->y≠wa->grow G H (upd (upd H tp (.tup [.int n,.int s])) wa (.lst (uQ++[.ref tp]))) y=some o:=λy o e ny=>bC.mpr ⟨.inl (by rw[e];rfl),c1.one (sG _ _ e) ny⟩;refine⟨gs _ _ b.ob b.na.2.1,gs _ _ b.hd b.na.2.2,bC.mpr ⟨.inl (by rw[b.hw];rfl),aq⟩,b.nd,b.ks,(Paired.lR b.wt λp v z=>?_).snoc ⟨tp,Z,bC.mpr ⟨.inr n1,?_⟩⟩,λp hp=>?_,b.GS,b.ml,b.no,λq m' v z1 z2=>?_,b.inj⟩
  .obtain⟨p1,rfl,QG⟩:=z;exact⟨p1,Z,gs _ _ QG (hG QG b.hw (by intro z;cases z))⟩
  .rw[aF nwt,aq]
  .rcases de.mp hp with h|h
   .exact b.wo p h
   .rw[show p=(n,s) from by simpa using h];exact⟨hn,hs⟩
  .obtain⟨mb,rfl,d1,bb1,q1,q2⟩:=b.ye q m' v z1 z2;refine⟨mb,Z,d1,bb1,gs _ _ q1 (hG q1 b.hw (by intro z;cases z)),gs _ _ q2 (hG q2 b.hw λz=>?_)⟩;exact akX b.wt (b.GS m' (az z1)) z.symm
 have Wo:=cg _ _ b1.ob;refine⟨_,Z,a,_,_,Z,Wo,Z,a,ay,ms,pd,wl++[(n,s)],_,Z,cg,⟨dx,da,wa,cf,_,b1⟩,hl,by simp;lia,λH2 Bk bb2=>?_⟩;exact k H2 (IF.trans Bk) (bb2.same (oh IF))
abbrev PkO (t:fP)(dx ba sa:ke)(ay:Nat):HO:=.ins t.fT dx [("lanes",.int ay),("bank",.ref ba),("shares",.ref sa)]
abbrev nP (p:Nat×Nat):Int×Int:=((p.1:Int),(p.2:Int))
structure PkS (t:fP)(Sh Gb:Hp)(ay:Nat)(ms:List b9)(pd:Nat)(wl:List (Nat×Nat))(qI:List (Nat×Nat))(a dx ba sa:ke)(qP:b_):Prop where
 ap:Apart Sh Gb
 ob:Sh a=some (PkO t dx ba sa ay)
 hs:Sh sa=some (.lst qP)
 st:Paired (λp v=>isP (nP p) v Sh) qI qP
 bk:NX t Gb ay ms pd wl ba
 so:∀p∈qI,0<p.2/\p.2<=32768
 ol:qI.length=pd
inductive PkA (t:fP)(G:Hp)(ay:Nat)(ms:List b9)(pd:Nat)(wl:List (Nat×Nat))(qI:List (Nat×Nat))(a:ke):Prop|i(Sh Gb:Hp)(dx ba sa:ke)(qP:b_)(_:aC Sh G)(_:aC Gb G)(_:PkS t Sh Gb ay ms pd wl qI a dx ba sa qP)
def PkA.same {ms:List b9}{qI:List (Nat×Nat)}(h:PkA t G ay ms pd wl qI a)(s:aC G G'):PkA t G' ay ms pd wl qI a:=by
 obtain⟨Sh,Gb,dx,ba,sa,qP,z1,z2,z3⟩:=h;exact⟨Sh,Gb,dx,ba,sa,qP,z1.trans s,z2.trans s,z3⟩
inductive aep (t:fP)(vs:b_)(H:Hp)(Q:VK)(E:XK):Prop|i(x dx:ke)(ay:Nat)(_:vs=[.ref x,.int ay])(_:H x=some (.ins t.fT dx []))(_:∀H' ba sa Gb,dE [x] H H'->H' x=some (PkO t dx ba sa ay)->H' sa=some (.lst [])->H sa=none->aC Gb (nw H H')->Gb sa=none->(∀r,r<=64->NX t Gb ay (aM r (gc 64 6)) 0 [] ba)->Q .gS H')
def I_:T.uf.Ok P w mg lQ jh 3 (aep t):=by
 refine T.uf.ok λnd H vs Q E hr h=>?_;obtain⟨x,dx,ay,rfl,hx,k⟩:=h;refine .i (ao (ki (pv 0) (pv 1))
   (ao (ki (pv 0) (J7 T.W8 T.TK T.tP (CN T) hr bG (ak (pv 1) ax)))
   (aH (ki (pv 0) (eE ax))))) ?_
 refine⟨_,Z,_,Z,Z,hx,T.gm,Z,Z,tI [("lanes",.int ay)],?_⟩;have c1:dE [x] H (upd H x (.ins t.fT dx [("lanes",.int ay)])):=dE.refl.d_ (by simp);have x1:upd H x (.ins t.fT dx [("lanes",.int ay)]) x=some (.ins t.fT dx [("lanes",.int ay)]):=aq;generalize upd H x (.ins t.fT dx [("lanes",.int ay)])=H1 at c1 x1|-
 refine⟨_,Z,λba db n1 n2 n3=>?_⟩;have sm:aC H1 (upd (upd H1 db (.own ba)) ba (.ins t.i9 db [])):=gA n1 n2;refine⟨ba,db,ay,Z,aq,λH2 da wa c2 hb hd hw nd nw1=>⟨Z,?_⟩⟩;have s12:aC H1 H2:=dE.back sm c2 (by intro y hy;rw[show y=ba from by simpa using hy];exact n1);have bk:∀r,r<=64->NX t (nw H1 H2) ay (aM r (gc 64 6)) 0 [] ba:=λr hr=>⟨db,da,wa,[],[],aT.mpr ⟨n1,hb⟩,aT.mpr ⟨sm.free nd,hd⟩,aT.mpr ⟨sm.free nw1,hw⟩,BE,(λk hk=>by simp at hk),.nil,(λp hp=>by simp at hp),AX r,by simpa using hr,(λn m h _=>(fc.mp (az h)).2),(λn m v _ h=>by cases h),(λn n' v h=>by cases h)⟩;refine⟨_,Z,Z,s12 _ _ x1,T.gm,Z,Z,tI [("lanes",.int ay),("bank",.ref ba)],?_⟩;have c3:dE [x] H (upd H2 x (.ins t.fT dx [("lanes",.int ay),("bank",.ref ba)])):=(c1.trans s12.chg).d_ (by simp);have x3:upd H2 x (.ins t.fT dx [("lanes",.int ay),("bank",.ref ba)]) x=some (.ins t.fT dx [("lanes",.int ay),("bank",.ref ba)]):=aq;have nS:aC (nw H1 H2) (nw H (upd H2 x (.ins t.fT dx [("lanes",.int ay),("bank",.ref ba)]))):=λy o e=>by
  obtain⟨z1,z2⟩:=aT.mp e;exact aT.mpr ⟨fU c1 x1 z1,by rw[aF (b8 x1 z1)];exact z2⟩
 generalize upd H2 x (.ins t.fT dx [("lanes",.int ay),("bank",.ref ba)])=H3 at c3 x3 nS|-
 refine⟨by rw[aE];simp,λsa n4=>?_⟩;have s4:aC H3 (upd H3 sa (.lst [])):=aC.upd n4;have nsa:H sa=none:=fU c3 x3 n4;have nsx:sa≠x:=b8 hx nsa;refine⟨_,Z,Z,s4 _ _ x3,T.gm,Z,Z,tI [("lanes",.int ay),("bank",.ref ba),("shares",.ref sa)],?_⟩;refine k _ ba sa (nw H1 H2) ((c3.trans s4.chg).d_ (by simp)) aq (by rw[aF nsx,aq]) nsa (λy o e=>?_) ?_ bk
 .obtain⟨z1,z2⟩:=aT.mp (nS _ _ e);exact aT.mpr ⟨z1,by rw[aF (b8 hx z1)];exact s4 _ _ z2⟩
 .cases e:nw H1 H2 sa with
  |none=>rfl
  |some o=>rw[(aT.mp (nS _ _ e)).2] at n4;cases n4
def acu (hr:r<=64)(n1:H x=none)(n2:H dx=none)(k:∀H',aC H H'->PkA t (nw H H') ay (aM r (gc 64 6)) 0 [] [] x->Q .gS H'):
  aep t [.ref x,.int ay] (upd (upd H dx (.own x)) x (.ins t.fT dx [])) Q E:=by
 have s1:aC H (upd (upd H dx (.own x)) x (.ins t.fT dx [])):=gA n1 n2;refine⟨x,dx,ay,Z,aq,λH' ba sa Gb c hx hs ns sb nb bk=>k _ (dE.back s1 c (by intro y hy;rw[show y=x from by simpa using hy];exact n1)) ⟨λb=>if b=x\/b=sa then H' b else none,Gb,dx,ba,sa,[],λb o e=>?_,sb.trans (o_ s1),λb=>?_,?_,?_,.nil,bk r hr,(λp hp=>by simp at hp),Z⟩⟩
 .simp only at e;split at e
  .rename_i h;refine aT.mpr ⟨?_,e⟩;rcases h with rfl|rfl
   .exact n1
   .exact s1.free ns
  .cases e
 .by_cases h:b=x\/b=sa
  .refine .inr ?_;rcases h with rfl|rfl
   .cases e:Gb b with
    |none=>rfl
    |some o=>have:=(aT.mp (sb _ _ e)).1;rw[aq] at this;cases this
   .exact nb
  .exact .inl (ah h)
 .exact(aj (.inl rfl)).trans hx
 .exact(aj (.inr rfl)).trans hs
def Oj (t:fP)(G:Hp)(ay:Nat)(st:xp)(a:ke):Prop:=PkA t G ay st.ms st.out.length (Mx.waitOf st.gr) st.out a/\st.out.length%ay=st.gr.length/\st.gr.length<ay/\st.ms.length<=64/\ay<=16
def Oj.same {st:xp}(h:Oj t G ay st a)(s:aC G G'):Oj t G' ay st a:=⟨h.1.same s,h.2⟩
def Ds (l:List oX):(Mx.waitOf l).length<=l.length:=List.length_filterMap_le ..
def Qz (l:List oX)(n s:Nat):Mx.waitOf (l++[.sym n s])=Mx.waitOf l++[(n,s)]:=by simp[Mx.waitOf]
def JL (l:List oX)(n s:Nat):Mx.waitOf (l++[.plain n s])=Mx.waitOf l:=by simp[Mx.waitOf]
def Py {g:Nat}(h:pd%n=g)(hg:g<n):((pd+1)%n=0↔g+1=n)/\(g+1≠n->(pd+1)%n=g+1):=by
 have hd:=ahj pd n;rw[h] at hd;by_cases e:g+1=n
 .have:pd+1=n*(pd / n+1):=by rw[lG];lia
  refine⟨⟨λ_=>e,λ_=>by rw[this];exact Nat.mul_mod_right ..⟩,λq=>absurd e q⟩
 .have e2:(pd+1)%n=g+1:=by
   have:pd+1=n*(pd / n)+(g+1):=by lia
   rw[this,Mi,n_ (by lia)]
  refine⟨⟨λq=>?_,λq=>absurd q e⟩,λ_=>e2⟩;rw[e2] at q;lia
def Uj {st:xp}{sa:ke}{Sh Gb:Hp}{qP:b_}(sG:aC G H)(sS:aC Sh G)(sB:aC Gb G)(pk:PkS t Sh Gb ay st.ms st.out.length (Mx.waitOf st.gr) st.out a dx ba sa qP)
  (hm:st.out.length%ay=st.gr.length) (hg:st.gr.length<ay) (hl:ay<=16) (Ly:st.ms.length<=64) {tp:ke} (IF:fz Gb H H1) (YY:H1 tp=none) (hsh:0<(it.share st.ms).2/\(it.share st.ms).2<=32768)
  (e2:H2=upd (upd H1 tp (.tup [.int (it.share st.ms).1,.int (it.share st.ms).2])) sa (.lst (qP++[.ref tp]))) {H3:Hp}
  (QI:fz (grow Gb H H1) H2 H3) (bk:NX t (grow (grow Gb H H1) H2 H3) ay (if(st.out.length+1)%ay=0 then p8 st.ms (Mx.waitOf (st.gr++[it])) else st.ms) (st.out.length+1) (if(st.out.length+1)%ay=0 then[] else Mx.waitOf (st.gr++[it])) ba):
  fz G H H3/\Oj t (grow G H H3) ay (kr ay st it) a:=by
 have Kf:aC Sh H1:=IF.other (sS.trans sG) pk.ap;have nsg:grow Gb H H1 sa=none:=cU (sG _ _ (sS _ _ pk.hs)) ((pk.ap sa).resolve_left (by rw[pk.hs];simp));have ntg:grow Gb H H1 tp=none:=cg.free YY;have apA:tp≠sa:=b8 (Kf _ _ pk.hs) YY;have Sht:Sh tp=none:=Kf.free YY;have Gsa:(G sa).isSome=true:=by rw[sS _ _ pk.hs];rfl
 have nGt:(G tp).isSome=true\/H tp=none:=by
  rcases IF.dom YY with z|z
  .obtain⟨u,hu⟩:=cZ.mp z;exact .inl (by rw[sB _ _ hu];rfl)
  .exact .inr z
 have kG1:fz G H H1:=λb o e g=>IF b o e (sB.free g);have kG2:fz G H H2:=λb o e g=>by
  rw[e2];have h1:=kG1 b o e g;rw[aF (by rintro rfl;rw[g] at Gsa;cases Gsa),aF (aI h1 YY)];exact h1
 have gg:aC (grow Gb H H1) (grow G H H1):=λb o e=>by
  obtain⟨z1,z2⟩:=bC.mp e;refine bC.mpr ⟨z1.imp (λz=>?_) id,z2⟩;obtain⟨u,hu⟩:=cZ.mp z;rw[sB _ _ hu];rfl
 have kG3:fz G H H3:=λb o e g=>QI b o (kG2 b o e g) (gg.free (cU e g));refine⟨kG3,?_⟩;have S2:aC (upd (upd Sh tp (.tup [.int (it.share st.ms).1,.int (it.share st.ms).2])) sa (.lst (qP++[.ref tp]))) H2:=λb o e=>by
  rw[e2];by_cases h1:b=sa
  .rw[h1] at e|-;rw[aq] at e|-;exact e
  .rw[aF h1] at e|-
   by_cases h2:b=tp
   .rw[h2] at e|-;rw[aq] at e|-;exact e
   .rw[aF h2] at e|-;exact Kf _ _ e
 have apS:Apart (upd (upd Sh tp (.tup [.int (it.share st.ms).1,.int (it.share st.ms).2])) sa (.lst (qP++[.ref tp]))) (grow Gb H H1):=r9 (r9 (gW (sS.trans sG) pk.ap) ntg) nsg;have S3:=QI.other S2 apS;have hn:=Py hm hg;have hz:(st.out.length+1)%ay=0↔(st.gr++[it]).length=ay:=by rw[aO];exact hn.1
 have pkA:PkA t (grow G H H3) ay (kr ay st it).ms (kr ay st it).out.length (Mx.waitOf (kr ay st it).gr) (kr ay st it).out a:=by
  refine⟨upd (upd Sh tp (.tup [.int (it.share st.ms).1,.int (it.share st.ms).2])) sa (.lst (qP++[.ref tp])),grow (grow Gb H H1) H2 H3,dx,ba,sa,qP++[.ref tp],λb o e=>?_,λb o e=>?_,gW S2 apS,?_,aq,?_,?_,λp hp=>?_,Z⟩
  .refine bC.mpr ⟨?_,S3 _ _ e⟩;by_cases h1:b=sa
   .rw[h1];exact .inl Gsa
   .rw[aF h1] at e;by_cases h2:b=tp
    .rw[h2];exact nGt
    .rw[aF h2] at e;exact .inl (by rw[sS _ _ e];rfl)
  .obtain⟨z1,z2⟩:=bC.mp e;refine bC.mpr ⟨?_,z2⟩;rcases z1 with z|z
   .obtain⟨u,hu⟩:=cZ.mp z;exact(bC.mp (gg _ _ hu)).1
   .exact kG2.dom z
  .rw[aF (hG pk.ob pk.hs (by intro z;cases z)),aF (aI pk.ob Sht)];exact pk.ob
  .have eo:(kr ay st it).out=st.out++[it.share st.ms]:=by unfold kr;split<;>rfl
   rw[eo];refine Paired.snoc (Paired.lR pk.st λp v z=>?_) ⟨tp,Z,by rw[aF apA,aq]⟩;obtain⟨q,rfl,hq⟩:=z;exact⟨q,Z,by rw[aF (hG hq pk.hs (by intro z;cases z)),aF (aI hq Sht)];exact hq⟩
  .unfold kr;by_cases h:(st.gr++[it]).length=ay
   .rw[aj h];rw[aj (hz.mpr h),aj (hz.mpr h)] at bk;have es:qY st.ms (st.gr++[it])=p8 st.ms (Mx.waitOf (st.gr++[it])):=Fo _ _;show NX t _ ay (qY st.ms (st.gr++[it])) (st.out++[it.share st.ms]).length [] ba;rw[es,aO];exact bk
   .rw[ah h];rw[ah (λq=>h (hz.mp q)),ah (λq=>h (hz.mp q))] at bk;show NX t _ ay st.ms (st.out++[it.share st.ms]).length (Mx.waitOf (st.gr++[it])) ba;rw[aO];exact bk
  .have eo:(kr ay st it).out=st.out++[it.share st.ms]:=by unfold kr;split<;>rfl
   rw[eo] at hp;rcases de.mp hp with h|h
   .exact pk.so p h
   .rw[show p=it.share st.ms from by simpa using h];exact hsh
 refine⟨pkA,?_,?_,?_,hl⟩
 .unfold kr;by_cases h:(st.gr++[it]).length=ay
  .rw[aj h];show(st.out++[it.share st.ms]).length%ay=0;rw[aO];exact hz.mpr h
  .rw[ah h];show(st.out++[it.share st.ms]).length%ay=(st.gr++[it]).length;rw[aO,aO];exact hn.2 (by simpa using h)
 .unfold kr;by_cases h:(st.gr++[it]).length=ay
  .rw[aj h];show 0<ay;lia
  .rw[ah h];show(st.gr++[it]).length<ay;rw[aO] at h|-
   simp at h|-
   lia
 .unfold kr;split
  .show(qY st.ms (st.gr++[it])).length<=64;rw[qx];exact Ly
  .exact Ly
inductive agJ (t:fP)(vs:b_)(H:Hp)(Q:VK)(E:XK):Prop|i(a:ke)(ay:Nat)(st:xp)(n s:Nat)(G:Hp)(_:vs=[.ref a,.int n,.int s])(_:aC G H)(_:Oj t G ay st a)(_:n<st.ms.length)(_:s<64)(_:st.out.length<100000)(_:∀H',fz G H H'->Oj t (grow G H H') ay (kr ay st (.sym n s)) a->Q .gS H')
def yG:T.mL.Ok P w mg lQ jh 6 (agJ t):=by
 refine T.mL.ok λnd H vs Q E hr h=>?_;obtain⟨a,ay,st,n,s,G,rfl,sG,⟨⟨Sh,Gb,dx,ba,sa,qP,sS,sB,pk⟩,hm,hg,Ly,hl⟩,hn,hs,ho,k⟩:=h;obtain⟨db,da,wa,cf,uQ,bk⟩:=pk.bk;refine .i (ao (fL 3 nd (qO (cQ (pv 0)) T.ie T.kX (pX T) hr bG (ak (pv 1) ax)))
   (ao (cS (pap (cQ (pv 0)) (ak (s_ (ak (J6 (cQ (pv 3)) (pv 2)) (ak (qO (pv 3) T.jD T.oN (wY T) hr bG (ak (pv 2) ax)) ax))) ax)))
   (aH (cS (qO (cQ (pv 0)) T.ie T.kz (rD T) hr bG (ak (pv 1) (ak (pv 2) ax))))))) ?_
 have HA:=sG _ _ (sS _ _ pk.ob);have GbH:aC Gb H:=sB.trans sG;refine⟨_,Z,Z,HA,T.gm,Z,Z,ba,_,_,Z,GbH _ _ bk.ob,Z,_,Z,ba,db,da,wa,cf,uQ,ay,st.ms,_,_,n,Gb,Z,GbH,bk,hn,λma H1 apa IF bk1 hv1=>?_⟩;obtain⟨m,Yq⟩:∃m,st.ms[n]? =some m:=⟨_,aD hn⟩;obtain⟨ma',e,md⟩:=bk1.ye n m _ Yq hv1;cases e;have Y2:=bk1.GS m (az Yq);obtain⟨dm,bb,N6,hbb⟩:=id md;have Kf:aC Sh H1:=IF.other (sS.trans sG) pk.ap;have Wo:=Kf _ _ pk.ob;have hsv:qP.length=st.out.length:=(dR pk.st).symm;refine⟨_,Z,Z,Wo,T.gm,Z,Z,L0 (Kf _ _ pk.hs),_,Z,Z,cg _ _ N6,T.jD,Z,Z,_,Z,bb,_,_,_,Z,Z,i2 (cg _ _ hbb),AZ Y2 (i:=s) (by lia),_,Z,ma,_,_,Z,cg _ _ N6,Z,_,Z,ma,m,s,Z,md.same cg,Y2,hs,by rw[aE];simp,λtp YY=>?_⟩;have sT:aC H1 (upd H1 tp (.tup [.int (m.begin_ s:Nat),.int (m.share s:Nat)])):=aC.upd YY;have esh:lr st.ms (.sym n s)=(m.begin_ s,m.share s):=by
  show(match st.ms[n]? with|some x=>(x.begin_ s,x.share s)|none=>(0,Wu))=_;rw[Yq]
 refine⟨sa,_,_,Z,Z,sT _ _ (Kf _ _ pk.hs),by rw[aE];lia,?_⟩;have nsg:grow Gb H H1 sa=none:=cU (sG _ _ (sS _ _ pk.hs)) ((pk.ap sa).resolve_left (by rw[pk.hs];simp));have GH2:aC (grow Gb H H1) (upd (upd H1 tp (.tup [.int (m.begin_ s:Nat),.int (m.share s:Nat)])) sa (.lst (qP++[.ref tp]))):=λb o e=>by
  rw[aF (aI e nsg)];exact sT _ _ (cg _ _ e)
 have S7:upd (upd H1 tp (.tup [.int (m.begin_ s:Nat),.int (m.share s:Nat)])) sa (.lst (qP++[.ref tp])) a=some (PkO t dx ba sa ay):=by rw[aF (hG pk.ob pk.hs (by intro z;cases z))];exact sT _ _ Wo
 refine⟨_,Z,Z,S7,T.gm,Z,Z,ba,_,_,Z,GH2 _ _ bk1.ob,Z,_,Z,_,Z,ba,ay,st.ms,_,Mx.waitOf st.gr,n,s,grow Gb H H1,Z,GH2,⟨_,_,_,_,_,bk1⟩,by lia,by have:=Ds st.gr;lia,hn,hs,λH3 QI Xu=>?_⟩;rw[<-Qz] at Xu;have hsh:=LW Y2 hs;obtain⟨r1,r2⟩:=Uj (it:=.sym n s) sG sS sB pk hm hg hl Ly IF YY (by rw[esh];exact hsh) (by rw[esh]) QI Xu;exact k H3 r1 r2
inductive agH (t:fP)(vs:b_)(H:Hp)(Q:VK)(E:XK):Prop|i(a:ke)(ay:Nat)(st:xp)(v b:Nat)(G:Hp)(_:vs=[.ref a,.int v,.int b])(_:aC G H)(_:Oj t G ay st a)(_:b<=15)(_:v<2^64)(_:st.out.length<100000)(_:∀H',fz G H H'->Oj t (grow G H H') ay (kr ay st (.plain b v)) a->Q .gS H')
def Bn:T.oP.Ok P w mg lQ jh 5 (agH t):=by
 refine T.oP.ok λnd H vs Q E hr h=>?_;obtain⟨a,ay,st,v,b,G,rfl,sG,⟨⟨Sh,Gb,dx,ba,sa,qP,sS,sB,pk⟩,hm,hg,Ly,hl⟩,hb,hv,ho,k⟩:=h;obtain⟨db,da,wa,cf,uQ,bk⟩:=id pk.bk;refine .i (ao (fL 3 nd (aX sZ (fF T.iR) (pv 2)))
   (ao (cS (pap (cQ (pv 0)) (ak (s_ (ak (aX fQ (pv 1) (pv 3)) (ak (pv 3) ax))) ax)))
   (aH (cS (Fj (cQ (pv 0)) T.ie T.j8 (pf T) hr bG))))) ?_
 have HA:=sG _ _ (sS _ _ pk.ob);have GbH:aC Gb H:=sB.trans sG;have esz:(32768:Int) / 2^((b:Int)).toNat=((2^(15-b):Nat):Int):=by
  rw[bF];have h1:(32768:Nat)=2^(15-b)*2^b:=by rw[<-wO,jK hb]
  have h2:(32768:Int)=((2^(15-b):Nat):Int)*2^b:=by
   have:=congrArg (λ(x:Nat)=>(x:Int)) h1;simp only[gZ,Ad] at this
   exact_mod_cast this
  rw[h2];exact DG _ (UM (Mx.two_pos b))
 have hsv:qP.length=st.out.length:=(dR pk.st).symm;refine⟨_,Z,_,_,Z,Z,(by show(0:Int)<=_;lia),?_⟩;have e0:V.int (32768 / 2^(b:Int).toNat)=V.int ((2^(15-b):Nat):Int):=congrArg V.int esz;rw[e0];refine⟨_,Z,Z,HA,T.gm,Z,Z,L0 (sG _ _ (sS _ _ pk.hs)),_,Z,_,Z,_,_,Z,Z,.inl ⟨by lia,by lia⟩,_,Z,by rw[aE];simp,λtp YY=>?_⟩;have sT:aC H (upd H tp (.tup [.int ((v:Int)*((2^(15-b):Nat):Int)),.int ((2^(15-b):Nat):Int)])):=aC.upd YY;refine⟨sa,_,_,Z,Z,sT _ _ (sG _ _ (sS _ _ pk.hs)),by rw[aE];lia,?_⟩;have nsg:Gb sa=none:=(pk.ap sa).resolve_left (by rw[pk.hs];simp);have GH2:aC Gb (upd (upd H tp (.tup [.int ((v:Int)*((2^(15-b):Nat):Int)),.int ((2^(15-b):Nat):Int)])) sa (.lst (qP++[.ref tp]))):=λy o e=>by
  rw[aF (aI e nsg)];exact sT _ _ (GbH _ _ e)
 have S7:upd (upd H tp (.tup [.int ((v:Int)*((2^(15-b):Nat):Int)),.int ((2^(15-b):Nat):Int)])) sa (.lst (qP++[.ref tp])) a=some (PkO t dx ba sa ay):=by rw[aF (hG pk.ob pk.hs (by intro z;cases z))];exact sT _ _ HA
 refine⟨_,Z,Z,S7,T.gm,Z,Z,ba,_,_,Z,GH2 _ _ bk.ob,Z,ba,ay,st.ms,_,Mx.waitOf st.gr,Gb,Z,GH2,pk.bk,by lia,by have:=Ds st.gr;lia,λH3 QI Xu=>?_⟩;rw[<-JL st.gr b v] at Xu;have hsh:0<(lr st.ms (.plain b v)).2/\(lr st.ms (.plain b v)).2<=32768:=by
  show 0<2^(15-b)/\2^(15-b)<=32768;exact⟨pF _,j_ (n:=2) (by decide) (lO 15 b)⟩
 have eg:aC Gb (grow Gb H H):=zd GbH;have eg2:grow Gb H H=λy=>if(Gb y).isSome=true\/H y=none then H y else none:=rfl
 have gEq:∀y,grow Gb H H y=Gb y:=λy=>by
  cases e:Gb y with
  |some o=>exact eg _ _ e
  |none=>
   cases e2:H y with
   |none=>exact cg.free e2
   |some o=>exact cU e2 e
 have gE:grow Gb H H=Gb:=funext gEq;have hsx:HO.tup [V.int ((v:Int)*((2^(15-b):Nat):Int)),V.int ((2^(15-b):Nat):Int)]=HO.tup [V.int (((lr st.ms (.plain b v)).1:Nat):Int),V.int (((lr st.ms (.plain b v)).2:Nat):Int)]:=by
  show _=HO.tup [V.int ((v*2^(15-b):Nat):Int),V.int ((2^(15-b):Nat):Int)];rw[gZ]
 obtain⟨r1,r2⟩:=Uj (H1:=H) (H2:=upd (upd H tp (.tup [.int ((v:Int)*((2^(15-b):Nat):Int)),.int ((2^(15-b):Nat):Int)])) sa (.lst (qP++[.ref tp]))) (it:=.plain b v) sG sS sB pk hm hg hl Ly fz.refl YY hsh (by rw[hsx]) (by rw[gE];exact QI) (by rw[gE];exact Xu);exact k H3 r1 r2
def NB (ay:Nat)(st:xp)(it:oX):(kr ay st it).out.length=st.out.length+1/\(kr ay st it).ms.length=st.ms.length:=by
 unfold kr;split
 .exact⟨by simp,qx _ _⟩
 .exact⟨by simp,Z⟩
inductive agI (t:fP)(vs:b_)(H:Hp)(Q:VK)(E:XK):Prop|i(a:ke)(ay:Nat)(st:xp)(n v:Nat)(G:Hp)(_:vs=[.ref a,.int n,.int v])(_:aC G H)(_:Oj t G ay st a)(_:n<st.ms.length)(_:v+1<2^64)(_:st.out.length<90000)(_:∀H',fz G H H'->Oj t (grow G H H') ay ((fY n v).foldl (kr ay) st) a->Q .gS H')
def yF:T.mK.Ok P w mg lQ jh 7 (agI t):=by
 refine T.mK.ok λnd H vs Q E hr h=>?_;obtain⟨a,ay,st,n,v,G,rfl,sG,pk,hn,hv,ho,k⟩:=h;refine .i (ao (fL 3 nd (aX gw (En (aX dz (pv 2) aK)) aK))
   (ao (cS (qO (pv 0) T.gm T.mL (yG T) hr bG (ak (pv 1) (ak (pv 3) ax))))
   (ao (fL 4 nd (aX gw (aX dz (pv 2) aK) (aX uG aK (pv 3))))
   (aH (C1 PassesOwn.never (rf Ji (pv 3) aK) (ao (fL 5 nd (gP (ot rfl) rfl T.EY AJ (ak (fF T.T8) (ak (pv 3) ax))))
   (ao (cS (qO (pv 0) T.gm T.oP (Bn T) hr bG (ak (aX pY (pv 4) (aX uG aK (pv 5))) (ak (pv 5) ax))))
   (ao (fL 4 nd (aX sZ (pv 4) (pv 5)))
   (aH (Js (i:=3) nd rfl (Ah rfl) (pv 5) afT)))))))))) ?_
 have afC:(v+1).log2<64:=(Xc (by lia)).mpr hv;obtain⟨L,hL⟩:∃L,L=(v+1).log2:=⟨_,Z⟩;have hb:=HC (n:=v+1) (by lia);rw[<-hL] at afC hb;have aou:2^L<=v+1:=by rw[hL];exact aeW (by lia)
 have eb:((Builtin.Int.intBits ((v:Int)+1):Nat):Int)-1=(L:Int):=by
  have e0:((v+1:Nat):Int)=(v:Int)+1:=rfl;rw[e0] at hb;rw[hb];lia
 refine⟨_,Z,_,_,Z,Z,Z,_,Z,Z,_,_,Z,Z,?_⟩;have e0:V.int (((Builtin.Int.intBits ((v:Int)+1):Nat):Int)-1)=V.int (L:Int):=congrArg V.int eb;rw[e0];obtain⟨⟨Sh,Gb,dx,ba,sa,qP,sS,sB,pk0⟩,_⟩:=id pk;refine⟨_,Z,a,_,_,Z,sG _ _ (sS _ _ pk0.ob),Z,_,Z,_,Z,a,ay,st,n,L,G,Z,sG,pk,hn,afC,by lia,λH1 IF pk1=>?_⟩;refine⟨_,Z,_,_,Z,Z,_,Z,_,_,Z,Z,⟨by lia,by lia,by decide⟩,_,_,Z,Z,?_⟩;have el:(v:Int)+1-1*2^((L:Int)).toNat=((v+1-2^L:Nat):Int):=by
  have h1:((2^L:Nat):Int)=(2:Int)^L:=by simp
  have h2:((v+1-2^L:Nat):Int)=(v:Int)+1-((2^L:Nat):Int):=mr aou;rw[bF,pM,h2,h1]
 have e1:V.int (((v:Int)+1)-(1*2^((L:Int)).toNat))=V.int ((v+1-2^L:Nat):Int):=congrArg V.int el;rw[e1];have emod:(v+1)%2^(v+1).log2=v+1-2^L:=by rw[YR (by lia),hL]
 have ewh:(fY n v).foldl (kr ay) st=(lZ 8 L (v+1-2^L)).foldl (kr ay) (kr ay st (.sym n L)):=by
  unfold fY;rw[bR,emod,<-hL]
 rw[ewh] at k;have po:=NB ay st (.sym n L);refine⟨λq σ H'=>∃(f b l:Nat) (uP:xp) (y:Option V),σ=[some (.ref a),some (.int n),some (.int v),some (.int b),some (.int l),y]/\b<=15*f/\q=b/\f<=8/\b<64/\l<2^64/\uP.out.length+f<=95000/\fz G H H'/\Oj t (grow G H H') ay uP a/\(lZ 8 L (v+1-2^L)).foldl (kr ay) (kr ay st (.sym n L))=(lZ f b l).foldl (kr ay) uP,⟨L,8,L,v+1-2^L,_,none,Z,by lia,Z,by lia,afC,jJ (lO _ _) hv,by lia,IF,pk1,Z⟩,?_⟩;rintro b σ H' ⟨f,b1,l,uP,y,rfl,hbf,rfl,hf,anR,hl,hol,kp,pk',ef⟩;refine⟨_,Z,_,_,Z,Z,_,Z,?_⟩;by_cases hb0:b=0
 .rw[ae (by lia)];refine fK ?_;rw[hb0,Gr] at ef;rw[ef] at k;exact k H' kp pk'
 .rw[ag (by lia)];obtain⟨f',rfl⟩:∃f',f=f'+1:=⟨f-1,(jK (lN λe=>hb0 (Nat.eq_zero_of_le_zero (by rw[e] at hbf;exact hbf)))).symm⟩;rw[KW f' b l hb0,bR] at ef;obtain⟨pc,hpc⟩:∃pc,pc=min 15 b:=⟨_,Z⟩;rw[<-hpc] at ef;have KG:pc<=15/\pc<=b/\0<pc:=hpc ▸ ⟨fw ..,aeX ..,Nat.lt_min.mpr ⟨by decide,lN hb0⟩⟩;have WO:2^pc<=32768:=j_ (n:=2) (by decide) (show pc<=15 from KG.1);refine eZ ⟨λgz H2=>∃y',gz=[some (.ref a),some (.int n),some (.int v),some (.int ((b-pc:Nat):Int)),some (.int ((l / 2^pc:Nat):Int)),y']/\fz G H H2/\Oj t (grow G H H2) ay (kr ay uP (.plain pc (l%2^pc))) a,λgz H2 ⟨y',e1,e2,e3⟩=>⟨b-pc,Nat.sub_lt (lN hb0) KG.2.2,f',b-pc,l / 2^pc,_,y',e1,hpc ▸ Mx.pD hbf,Z,iW hf,jJ (lO ..) anR,jJ (ahk _ _) hl,by have:=(NB ay uP (.plain pc (l%2^pc))).1;lia,e2,e3,ef⟩,?_⟩;refine⟨_,Z,_,_,Z,?_⟩;have epc:(if(b:Int)<15 then(b:Int) else 15)=((pc:Nat):Int):=by rw[hpc];exact ajX b
  rw[epc];obtain⟨⟨Sh',Gb',sU,WI,sa',akM,sS',sB',Zh⟩,_⟩:=id pk';have emd:(l:Int)%(1*2^((pc:Int)).toNat)=((l%2^pc:Nat):Int):=by
   rw[bF,pM,rQ];simp
  have rT:(0:Int)<1*2^((pc:Int)).toNat:=by rw[pM];exact Mx.two_pos _
  refine⟨_,Z,a,_,_,Z,cg _ _ (sS' _ _ Zh.ob),Z,_,Z,_,Z,_,_,Z,Z,⟨by lia,by lia,by decide⟩,_,_,Z,Z,rT,_,Z,?_⟩;have e5:V.int ((l:Int)%(1*2^((pc:Int)).toNat))=V.int ((l%2^pc:Nat):Int):=congrArg V.int emd;have hlm:l%2^pc<2^pc:=nh _ (pF _);refine⟨a,ay,uP,l%2^pc,pc,grow G H H',?_,cg,pk',KG.1,by lia,by lia,λH2 Bk pk2=>?_⟩
  .rw[<-e5];rfl
  refine⟨_,Z,_,Z,_,_,Z,Z,(by show(0:Int)<=_;lia),?_⟩;refine⟨_,Z,_,Z,_,_,Z,Z,some (.int pc),?_,kp.trans Bk,pk2.same (oh kp)⟩;have e6:(l:Int) / 2^((pc:Int)).toNat=((l / 2^pc:Nat):Int):=by rw[bF,n8];simp
  have e7:(b:Int)-(pc:Int)=((b-pc:Nat):Int):=(mr KG.2.1).symm;rw[<-e6,<-e7];rfl
def PZ (ay:Nat)(qI:List (Nat×Nat)):bY:=(dP ay 0 qI).1.flatMap (λ(x:Nat)=>zg (x:Int) 4)++(dP ay 0 qI).2.flatMap λ(x:Nat)=>zg (x:Int) 2
inductive ZG (t:fP)(vs:b_)(H:Hp)(Q:VK)(E:XK):Prop|i(a:ke)(ay:Nat)(st:xp)(G:Hp)(_:vs=[.ref a])(_:aC G H)(_:Oj t G ay st a)(_:st.out.length<100000)(_:NL H Q (PZ ay st.out))
def ND (n:Nat)(x:Int):(aM ((n:Int)).toNat [V.int x]).flatten=(aM n x).map V.int:=by
 rw[bF,aaz];induction n with
 |zero=>rfl
 |succ n ih=>rw[fN,jZ,ih,fN];rfl
def PB {l:ig}(h:i<l.length){z:Int}(hz:z=(i:Int)):U2 ((nI l).map V.int) z=some (.int ((l.getD i 0:Nat):Int)):=by
 refine at_of hz ?_;rw[aw,aw,aD h,aG,aD h];rfl
def Eb (l:ig)(i x:Nat):((nI l).map V.int).set i (.int (x:Int))=(nI (l.set i x)).map V.int:=by simp[nI,alc]
theorem tf {n:Nat}:∀(l:List (Nat×Nat)) (i:Nat),(dP n i l).2.length<=l.length
 |[],i=>by simp[dP]
 |(b,s)::r,i=>by
  have:=tf (n:=n) r (i+1);unfold dP;simp only[aO,aZ];have h2:∀o:Option Nat,o.toList.length<=1:=λo=>by cases o<;>simp
  have:=h2 (i6 ((dP n (i+1) r).1.getD (i%n) 0) b s).1;lia
def Ef:T.qR.Ok P w mg lQ jh 2 (ZG t):=by
 refine T.qR.ok λnd H vs Q E hr h=>?_;obtain⟨a,ay,st,G,rfl,sG,⟨⟨Sh,Gb,dx,ba,sa,qP,sS,sB,pk⟩,hm,hg,Ly,Ym⟩,ho,k⟩:=h;refine .i (ao (fL 1 nd (aX Ek (eE (ak (fF T.qt) ax)) (cQ (pv 0))))
   (ao (fL 2 nd (eE ax))
   (ao (gY PassesOwn.never rfl (zt rfl T.iA (ak (aX gw (Bt T.jc (ak (cQ (pv 0)) ax)) aK) (ak (t6 pE aK) (ak (t6 pE aK) ax)))) (mv 3 nd)
    (ao (fL 4 nd (w8 (r:=Sj K) D8 (w8 (r:=Qc K) ze (Jq (pv 0) rfl) (pv 3) (λ_ _=>rfl)) aK (λ_ _=>rfl)))
   (ao (fL 5 nd (w8 (r:=Sj K) D8 (w8 (r:=Qc K) ze (Jq (pv 0) rfl) (pv 3) (λ_ _=>rfl)) aK (λ_ _=>rfl)))
   (ao (fL 6 nd (J6 (pv 1) (aX pY (pv 3) (cQ (pv 0)))))
   (ao (gi (rf Y5 (pv 6) (aX fQ (pv 5) aK)) (ao (cS (pap (pv 2) (ak (aX pY (pv 6) (fF T.RW)) ax)))
   (aH (fL 6 nd (aX jM (pv 6) (fF T.RW))))) cT)
   (aH (yN (aX dz (aX dz (aX fQ (aX jM (pv 6) (pv 5)) (fF T.iR)) (aX pY (pv 6) (pv 5))) (pv 4)) (yJ (pv 1) (aX pY (pv 3) (cQ (pv 0))) set_list))))))))
   (ao (fL 7 nd (eE ax))
   (ao (gY PassesOwn.never rfl (fB (pv 1)) (mv 6 nd)
    (aH (cS (AD df dC dD mE (pv 7) (ak (kq T.jG (kO T) hr bG (ak (pv 6) (ak aK ax))) ax)))))
   (ao (gY PassesOwn.never rfl (Fi rfl T.IS (ak (pv 2) ax)) (mv 8 nd)
    (aH (cS (AD df dC dD mE (pv 7) (ak (kq T.jG (kO T) hr bG (ak (pv 8) (ak aK ax))) ax)))))
   (aH (bz (pv 7))))))))) ?_
 have SH:aC Sh H:=sS.trans sG;have HA:=SH _ _ pk.ob;have hsv:qP.length=st.out.length:=(dR pk.st).symm;obtain⟨qI,M1⟩:∃qI,qI=st.out:=⟨_,Z⟩;have fL:=pk.st;have pso:=pk.so;rw[<-M1] at hsv ho k hm fL pso;refine⟨by rw[aE];simp,λp1 n1=>?_⟩;have s1:aC H (upd H p1 (.lst [.int 65536])):=aC.upd n1;refine⟨_,Z,Z,s1 _ _ HA,T.gm,Z,Z,p1,_,_,Z,Z,aq,by lia,by lia,by rw[aE];simp;lia,λSA n2=>?_⟩;rw[ND];have s2:=s1.trans (aC.upd (o:=.lst ((aM ay (65536:Int)).map V.int)) n2);refine⟨by rw[aE];simp,λWA n3=>?_⟩;have s3:=s2.trans (aC.upd (o:=.lst []) n3);have nSA:H SA=none:=s1.free n2;have nWA:H WA=none:=s2.free n3;have nWS:WA≠SA:=(bO n3).1;refine⟨_,Z,Z,s3 _ _ HA,T.gm,Z,Z,sa,_,Z,i3 (s3 _ _ (SH _ _ pk.hs)),_,_,Z,Z,_,Z,_,Z,(qP.length:Int)-1,-1,-1,qP.length,Z,?_,?_⟩
 .have:=RgC.neg (i:=(qP.length:Int)-1) (j:= -1) (by lia) (by lia) (by decide) (by decide);rw[nd1] at this;exact this
 refine wj (λi σ H'=>X4 λy3 y4 y5 y6=>C4 (σ=[some (.ref a),some (.ref SA),some (.ref WA),y3,y4,y5,y6,none,none]) (aC H H') (H' SA=some (iL (nI (dP ay (qP.length-i) (qI.drop (qP.length-i))).1))) (H' WA=some (iL (nI (dP ay (qP.length-i) (qI.drop (qP.length-i))).2.reverse)))) ⟨none,none,none,none,Z,s3,?_,?_⟩ ?_ ?_
 .rw[aF nWS.symm,aq,ur,hsv,Fl];simp[nI,ald]
 .rw[aq,ur,hsv,Fl];rfl
 .rintro i σ H' hi ⟨y3,y4,y5,y6,rfl,sm,hS,hW⟩;obtain⟨q,hq⟩:∃q,q=qP.length-1-i:=⟨_,Z⟩;obtain⟨e1,e2,hql⟩:=rvq hi hq;have ej:=ndi hi hq;clear hq;rw[hsv] at hql;rw[e1] at hS hW;rw[e2];obtain⟨⟨b,sz⟩,hbs⟩:∃p,qI[q]? =some p:=⟨_,aD hql⟩;obtain⟨v,hv,tp,rfl,htp⟩:=zm fL hbs;have hsz:=pso (b,sz) (az hbs);simp only at hsz;rw[NA hbs];obtain⟨PA,hPA⟩:∃PA,PA=dP ay (q+1) (qI.drop (q+1)):=⟨_,Z⟩;rw[<-hPA] at hS hW|-
  have ou:PA.1.length=ay:=by rw[hPA];exact t7 _ _
  have hpw:PA.2.length<=100000:=by
   have:=tf (n:=ay) (qI.drop (q+1)) (q+1);rw[<-hPA,dY] at this;exact bt this (bt (lO ..) (cG ho))
  have avu:q%ay<ay:=nh _ (by lia);obtain⟨x,hx⟩:∃x,x=PA.1.getD (q%ay) 0:=⟨_,Z⟩;rw[<-hx];have hat:U2 (qP) ((qP.length:Int)-1+(i:Nat)*(-1))=some (.ref tp):=at_of ej hv;have HA':=sm _ _ HA;replace htp:Sh tp=some (.tup [.int (b:Int),.int (sz:Int)]):=htp;have hT:=sm _ _ (SH _ _ htp);have hSA:=sm _ _ (SH _ _ pk.hs);refine⟨_,Z,Z,HA',T.gm,Z,Z,_,Z,sa,_,_,_,Z,Z,i2 hSA,hat,tp,_,_,_,Z,Z,i2 hT,Z,?_⟩;refine⟨_,Z,Z,HA',T.gm,Z,Z,_,Z,sa,_,_,_,Z,Z,i2 hSA,hat,tp,_,_,_,Z,Z,i2 hT,Z,?_⟩;have emod:((qP.length:Int)-1+(i:Nat)*(-1))%(ay:Int)=((q%ay:Nat):Int):=by rw[ej];rfl
  refine⟨_,Z,_,Z,_,Z,Z,HA',T.gm,Z,Z,_,_,Z,Z,(p0 (wQ hg)),SA,_,_,_,Z,Z,i2 hS,PB (by lia) emod,?_⟩;rw[<-hx];refine⟨_,Z,_,Z,_,_,Z,Z,.inl ⟨by lia,by lia⟩,_,_,Z,Z,_,Z,?_⟩;have awB:∀(c:Prop) [Decidable c] (u v:Nat),(if c then u else v:Nat)=if c then u else v:=λ_ _ _ _=>rfl
  by_cases hc:sz*131072<=x
  .rw[ag (by lia)];have hwl:((nI PA.2.reverse).map V.int).length<bu:=by rw[aE];simp;lia
   refine eZ ⟨_,Z,L0 hW,_,Z,_,_,Z,Z,(by show(0:Int)<65536;decide),WA,_,_,Z,Z,hW,hwl,?_⟩;have hS2:upd H' WA (.lst ((nI PA.2.reverse).map V.int++[V.int ((x:Int)%65536)])) SA=some (iL (nI PA.1)):=by rw[aF nWS.symm];exact hS
   have pL:aC H (upd H' WA (.lst ((nI PA.2.reverse).map V.int++[V.int ((x:Int)%65536)]))):=λy o e=>by rw[aF (aI e nWA)];exact sm _ _ e
   refine⟨_,Z,_,_,Z,Z,⟨by decide,by decide⟩,?_⟩;refine⟨_,Z,_,Z,_,_,Z,Z,⟨by lia,by lia⟩,_,_,Z,Z,.inr ⟨by decide,by decide⟩,_,Z,_,Z,_,_,Z,Z,(p0 hsz.1),_,_,Z,Z,_,Z,_,_,Z,Z,?_⟩;refine⟨_,Z,_,Z,_,Z,Z,pL _ _ HA,T.gm,Z,Z,_,_,Z,Z,(p0 (wQ hg)),SA,_,_,q%ay,Z,Z,hS2,qp emod (by simp;lia),?_⟩;refine⟨_,_,_,_,Z,λy o e=>by rw[aF (aI e nSA)];exact pL _ _ e,?_,?_⟩
   .rw[aq];have ep:(i6 x b sz).2=x / 65536 / sz*32768+(x / 65536%sz+b):=by unfold i6;simp only[aj hc];rfl
    rw[ep];have ev:(x:Int) / 65536 / (sz:Int)*32768+(x:Int) / 65536%(sz:Int)+(b:Int)=((x / 65536 / sz*32768+(x / 65536%sz+b):Nat):Int):=by
     simp only[ft,gZ,n8,rQ];rw[show((65536:Nat):Int)=65536 from rfl];lia
    refine congrArg (λz=>some (HO.lst z)) ?_;show((nI PA.1).map V.int).set (q%ay) (V.int ((x:Int) / 65536 / (sz:Int)*32768+(x:Int) / 65536%(sz:Int)+(b:Int)))=_;rw[ev,Eb]
   .rw[aF nWS,aq];have ep:(i6 x b sz).1=some (x%65536):=by unfold i6;simp only[aj hc]
    rw[ep];simp[nI]
  .rw[ae (by lia)];refine fK ?_;refine⟨_,Z,_,Z,_,_,Z,Z,⟨by lia,by lia⟩,_,_,Z,Z,.inr ⟨by decide,by decide⟩,_,Z,_,Z,_,_,Z,Z,(p0 hsz.1),_,_,Z,Z,_,Z,_,_,Z,Z,?_⟩;refine⟨_,Z,_,Z,_,Z,Z,sm _ _ HA,T.gm,Z,Z,_,_,Z,Z,(p0 (wQ hg)),SA,_,_,q%ay,Z,Z,hS,qp emod (by simp;lia),?_⟩;refine⟨_,_,_,_,Z,λy o e=>by rw[aF (aI e nSA)];exact sm _ _ e,?_,?_⟩
   .rw[aq];have ep:(i6 x b sz).2=x / sz*32768+(x%sz+b):=by unfold i6;simp only[ah hc];rfl
    rw[ep];have ev:(x:Int) / (sz:Int)*32768+(x:Int)%(sz:Int)+(b:Int)=((x / sz*32768+(x%sz+b):Nat):Int):=by
     simp only[ft,gZ,n8,rQ];lia
    refine congrArg (λz=>some (HO.lst z)) ?_;show((nI PA.1).map V.int).set (q%ay) (V.int ((x:Int) / (sz:Int)*32768+(x:Int)%(sz:Int)+(b:Int)))=_;rw[ev,Eb]
   .rw[aF nWS];have ep:(i6 x b sz).1=none:=by unfold i6;simp only[ah hc]
    rw[ep];exact hW
 .rintro σ H' ⟨y3,y4,y5,y6,rfl,sm,hS,hW⟩;rw[lP,iD] at hS hW;unfold PZ at k;obtain⟨PA,hPA⟩:∃PA,PA=dP ay 0 qI:=⟨_,Z⟩;rw[<-hPA] at hS hW k;have ou:PA.1.length=ay:=by rw[hPA];exact t7 _ _
  have hpw:PA.2.length<=100000:=by
   have:=tf (n:=ay) qI 0;rw[<-hPA] at this;lia
  refine⟨by rw[aE];simp,λR nR=>?_⟩;have nRS:R≠SA:=b8 hS nR;have nRW:R≠WA:=b8 hW nR;have nRH:H R=none:=sm.free nR;refine⟨_,Z,SA,Z,⟨_,i2 (by rw[aF nRS.symm];exact hS)⟩,?_⟩;refine qE (xs:=(nI PA.1).map V.int) (λi σ H2=>∃y6,C3 (σ=[some (.ref a),some (.ref SA),some (.ref WA),y3,y4,y5,y6,some (.ref R),none]) (aC H' H2) (∃l:bY,l=(PA.1.take i).flatMap (λ(x:Nat)=>zg (x:Int) 4)/\l.length<=4*i/\H2 R=some (iL l))) ⟨y6,Z,aC.upd nR,[],Z,by simp,aq⟩ (λi σ H2 _ ⟨_,_,s2,_⟩=>i2 (s2 _ _ hS)) ?_ ?_
  .rintro i v σ H2 hv ⟨y6',rfl,sH,l,el,hl,eR⟩;rw[aw,aw] at hv;cases hx:PA.1[i]? with
   |none=>rw[hx] at hv;cases hv
   |some x=>
    rw[hx] at hv;cases hv;have hi:i<ay:=by have:=(aN.mp hx).1;lia
    refine⟨_,Z,L0 eR,_,Z,(x:Int),4,Z,by lia,by decide,λH3 p3 s3' e3 n3'=>?_⟩;have nRp:R≠p3:=aI eR n3';refine⟨R,p3,_,_,Z,Z,s3' _ _ eR,e3,by rw[aE];simp[jk];lia,?_⟩;refine⟨some (.int (x:Int)),Z,λy o e=>by rw[aF (aI e nR)];exact s3' _ _ (sH _ _ e),l++zg (x:Int) 4,?_,by simp[jk];lia,?_⟩
    .rw[el,zb hx]
    .rw[aq];simp
  .rintro σ H2 ⟨y6',rfl,sH,l,el,hl,eR⟩;rw[show((nI PA.1).map V.int).length=PA.1.length by simp,gj] at el;have hl':l.length<=4*ay:=by simpa[ou] using hl
   refine⟨_,Z,WA,_,Z,i2 (sH _ _ hW),?_⟩;refine TF (xs:=(nI PA.2.reverse).map V.int) (λi σ H3=>∃y8,C3 (σ=[some (.ref a),some (.ref SA),some (.ref WA),y3,y4,y5,y6',some (.ref R),y8]) (aC H' H3) (∃l2:bY,l2=l++(PA.2.take i).flatMap (λ(x:Nat)=>zg (x:Int) 2)/\l2.length<=4*ay+2*i/\H3 R=some (iL l2))) ⟨none,Z,sH,l,by simp,by lia,eR⟩ (λi σ H3 _ ⟨_,_,s3',_⟩=>i2 (s3' _ _ hW)) ?_ ?_
   .rintro i σ H3 v hi ⟨y8,rfl,sH3,l2,el2,RQ,eR3⟩ hv;have iQ:((nI PA.2.reverse).map V.int).length=PA.2.length:=by simp
    rw[iQ] at hi hv;have ex:v=V.int ((PA.2[i]'hi:Nat):Int):=by
     rw[aw,aw,UQ (uX hi),pC hi,aD hi] at hv;exact(bh hv).symm
    subst ex;have hx:PA.2[i]? =some (PA.2[i]'hi):=aD hi;refine⟨_,Z,L0 eR3,_,Z,((PA.2[i]'hi:Nat):Int),2,Z,by lia,by decide,λH4 p4 s4' e4 n4'=>?_⟩;refine⟨R,p4,_,_,Z,Z,s4' _ _ eR3,e4,by rw[aE];simp[jk];lia,?_⟩;refine⟨some (.int ((PA.2[i]'hi:Nat):Int)),Z,λy o e=>by rw[aF (aI e nR)];exact s4' _ _ (sH3 _ _ e),l2++zg ((PA.2[i]'hi:Nat):Int) 2,?_,by simp[jk];lia,?_⟩
    .rw[el2,zb hx,cC]
    .rw[aq];simp
   .rintro σ H3 ⟨y8,rfl,sH3,l2,el2,RQ,eR3⟩;have iQ:((nI PA.2.reverse).map V.int).length=PA.2.length:=by simp
    rw[iQ,gj] at el2;refine⟨_,Z,k H3 R (sm.trans sH3) ?_ nRH⟩;rw[eR3,el2,el]
inductive V3 (vs:b_)(H:Hp)(Q:VK)(E:XK):Prop|i(e:Int)(_:vs=[.int e])(_:Q (.int (j7 e:Nat)) H)
def PX:T.AU.Ok P w mg lQ jh 1 V3:=by
 refine T.AU.ok λnd H vs Q E hr h=>?_;obtain⟨e,rfl,k⟩:=h;rw[<-ag8] at k;refine .i (aH (bz (qK (rf Y5 (pv 0) aK) (aX fQ aK (pv 0)) (aX gw (aX fQ (t6 pE aK) (pv 0)) aK)))) ?_;refine⟨_,Z,_,_,Z,Z,_,Z,?_⟩;by_cases h:0<=e
 .rw[ag h];rw[aj h] at k;exact eZ ⟨_,Z,_,_,Z,Z,.inl ⟨by decide,by decide⟩,k⟩
 .rw[ae h];rw[ah h] at k;exact fK ⟨_,Z,_,Z,_,_,Z,Z,.inl ⟨by decide,by decide⟩,_,_,Z,Z,k⟩
inductive ZI (vs:b_)(H:Hp)(Q:VK)(E:XK):Prop|i(n:Nat)(_:vs=[.int n])(_:Q (.int (fZ n)) H)
def R7:T.DE.Ok P w mg lQ jh 1 ZI:=by
 refine T.DE.ok λnd H vs Q E hr h=>?_;obtain⟨n,rfl,k⟩:=h;rw[<-ag7] at k;refine .i (aH (bz (qK (rf lp (aX pY (pv 0) aK) aK) (aX jM (pv 0) aK) (aX jM (t6 pE (aX dz (pv 0) aK)) aK)))) ?_;refine⟨_,Z,_,_,Z,Z,(by show(0:Int)<2;decide),Z,_,Z,?_⟩;rw[og];by_cases h:(n:Int)%2=0
 .rw[ag h];rw[aj h] at k;exact eZ ⟨_,Z,_,_,Z,Z,⟨by decide,by decide⟩,k⟩
 .rw[ae h];rw[ah h] at k;exact fK ⟨_,Z,_,_,Z,Z,_,Z,_,_,Z,Z,⟨by decide,by decide⟩,k⟩
inductive ZD (vs:b_)(H:Hp)(Q:VK)(E:XK):Prop|i(r:Nat)(l:ig)(_:vs=[.int r,.int (l.sum:Nat)])(_:r<=4)(_:Q (.int (jN r l:Nat)) H)
def wZ:T.oS.Ok P w mg lQ jh 1 ZD:=by
 refine T.oS.ok λnd H vs Q E hr h=>?_;obtain⟨r,l,rfl,hr4,k⟩:=h;refine .i (aH (bz (aX dz (aX fQ (fF T.wW) (pv 0)) (gP (ot rfl) rfl T.EY AJ (ak (aX gw (fF T.wW) aK) (ak (En (aX jM (pv 1) aK)) ax)))))) ?_;refine⟨_,Z,_,_,Z,Z,.inl ⟨by decide,by decide⟩,_,_,Z,Z,_,Z,_,_,Z,Z,⟨by decide,by decide⟩,Z,_,Z,Z,_,_,Z,_,_,Z,Z,?_⟩;have e:(16:Int)*(r:Int)+(if((Builtin.Int.intBits (((l.sum:Nat):Int) / 16):Nat):Int)<16-1 then((Builtin.Int.intBits (((l.sum:Nat):Int) / 16):Nat):Int) else 16-1)=((jN r l:Nat):Int):=by
  have hb:Builtin.Int.intBits (((l.sum:Nat):Int) / 16)=abe (l.sum / 16):=by
   have e0:((l.sum:Nat):Int) / 16=((l.sum / 16:Nat):Int):=rfl;rw[e0];unfold abe;by_cases h:l.sum / 16=0
   .rw[aj h,h];rfl
   .rw[ah h,HC h]
  rw[hb];unfold jN;rw[RJ,Hi,Xd];split<;>split<;>lia
 rw[<-e] at k;exact k
def akn (h:n<=64):RgC 0 (n:Int) 16 ((n+15) / 16):=by
 have hd:∀n:Fin 65,Builtin.Range.small 0 ((n:Nat):Int) 16=true/\Builtin.Range.rangeSize 0 ((n:Nat):Int) 16=((((n:Nat)+15) / 16:Nat):Int):=by decide
 have:=hd ⟨n,by lia⟩;exact⟨by decide,by decide,this.1,this.2⟩
def OG (xs:b_)(k j:Nat)(hk:k<=xs.length):qZ xs (some (k:Int)) (some (j:Int))=(xs.drop k).take (j-k):=by
 unfold qZ;rw[HT.zw,HT.zw,eQ hk];by_cases h:j<=xs.length
 .rw[eQ h]
 .rw[k_ (by lia),cn (by simp),cn (by simp;lia)]
def sk (w n:Nat):zg (n:Int) w=br (gH w n):=by
 rw[aca];unfold zg;congr 1
theorem LO:∀(f b n:Nat),(lZ f b n).length<=f
 |0,_,_=>by simp[lZ]
 |f+1,b,n=>by
  have:=LO f (b-15) (n / 32768);unfold lZ;split
  .simp
  .split
   .simp
   .simp;lia
def Vx (n v:Nat):(fY n v).length<=9:=by
 unfold fY;have:=LO 8 (v+1).log2 ((v+1)%2^(v+1).log2);simp;lia
def Gu (ay:Nat)(Gk:List (Nat×Nat))(st:xp):xp:=(Gk.flatMap λ(x:Nat×Nat)=>fY x.1 x.2).foldl (kr ay) st
theorem yu (ay:Nat):∀(l:List oX) (st:xp),(l.foldl (kr ay) st).out.length=st.out.length+l.length/\(l.foldl (kr ay) st).ms.length=st.ms.length
 |[],st=>⟨Z,Z⟩
 |a::r,st=>by
  have h1:=yu ay r (kr ay st a);have h2:=NB ay st a;rw[bR];refine⟨?_,by rw[h1.2,h2.2]⟩;rw[h1.1,h2.1];simp;lia
def Ju (ay:Nat)(Gk:List (Nat×Nat))(st:xp):(Gu ay Gk st).out.length<=st.out.length+9*Gk.length/\(Gu ay Gk st).ms.length=st.ms.length:=by
 have h:=yu ay (Gk.flatMap λ(x:Nat×Nat)=>fY x.1 x.2) st;have h2:(Gk.flatMap λ(x:Nat×Nat)=>fY x.1 x.2).length<=9*Gk.length:=by
  induction Gk with
  |nil=>simp
  |cons a r ih=>
   have:=Vx a.1 a.2;have ih:=ih (yu ay _ st);rw[cj,aO,aZ];lia
 unfold Gu;exact⟨by lia,h.2⟩
def VR (ay:Nat)(Gk:List (Nat×Nat))(p:Nat×Nat)(st:xp):Gu ay (Gk++[p]) st=(fY p.1 p.2).foldl (kr ay) (Gu ay Gk st):=by
 unfold Gu;rw[gN,dB];simp
def YZ (zs:List (ig))(k r:Nat):List (Nat×Nat):=(bS zs k r).map λz=>(jN r (if k=0 then[] else bS zs (k-1) r),z)
def l8 (zs:List (ig))(k R:Nat):List (Nat×Nat):=(aJ R).flatMap λr=>YZ zs k r
def Jj (zs:List (ig))(n:Nat):oo zs n=(aJ ((n+15) / 16)).flatMap λk=>l8 zs k zs.length:=rfl
def chunk_len (zs:List (ig))(k r:Nat):(bS zs k r).length<=16:=by unfold bS;simp;lia
theorem Ed (zs:List (ig))(k:Nat):∀R,(l8 zs k R).length<=16*R
 |0=>by simp[l8]
 |R+1=>by
  have:=Ed zs k R;have h2:=chunk_len zs k R;unfold l8 at this|-
  rw[cE,gN,aO];simp[YZ] at this|-
  lia
theorem zk (zs:List (ig))(R:Nat):∀k,((aJ k).flatMap λk=>l8 zs k R).length<=16*R*k
 |0=>by simp
 |k+1=>by
  have:=zk zs R k;have h2:=Ed zs k R;rw[cE,gN,aO,amI];simp only[cj,List.flatMap_nil,fX];lia
def Pz (h:r<R)(l:ig):jN r l<16*R:=by unfold jN;lia
def iz (zs:List (ig))(k r:Nat):Nat:=(if k=0 then[] else bS zs (k-1) r).sum
def OE (ay:Nat)(es:ly)(n:Nat):bY:=br (G9 ay (fO es.length) (xC es n))
def LM (hl:1<=ay)(es:ly)(n:Nat):PZ ay (Gu ay (oo (es.map λ(l:bY)=>l.map j7) n) ⟨fO es.length,[],[]⟩).out=OE ay es n:=by
 unfold PZ OE G9;have e:LwBits.shares ay (fO es.length) (xC es n)=(Gu ay (oo (es.map λ(l:bY)=>l.map j7) n) ⟨fO es.length,[],[]⟩).out:=by
  rw[VX hl];rfl
 simp only;rw[e,bP];have f:∀(w:Nat) (l:ig),l.flatMap (λ(x:Nat)=>zg (x:Int) w)=br (l.flatMap (gH w)):=by
  intro w l;induction l with
  |nil=>rfl
  |cons a r ih=>rw[cj,cj,bP,ih,sk]
 rw[f,f]
inductive ZJ (t:fP)(vs:b_)(H:Hp)(Q:VK)(E:XK):Prop|i(ra:ke)(kT:b_)(es:ly)(n ay:Nat)(_:vs=[.ref ra,.int ay])(_:H ra=some (.lst kT))(_:Paired (λx v=>IsL x v H) es kT)(_:∀e∈es,e.length=n)(_:1<=n)(_:n<=64)(_:1<=es.length)(_:es.length<=4)(_:1<=ay)(_:ay<=16)(_:∀e∈es,∀x∈e,j7 x+1<2^64)(_:NL H Q (OE ay es n))
def Gm:T.sx.Ok P w mg lQ jh 8 (ZJ t):=by
 refine T.sx.ok λnd H vs Q E hr h=>?_;obtain⟨ra,kT,es,n,ay,rfl,qo,pr,en,n1,CK,e1,e4,l1,T_,ez,k⟩:=h;refine .i (ao (fL 2 nd (J7 T.W_ T.Vq T.uf (I_ T) hr bG (ak (pv 1) ax)))
   (ao (fL 3 nd (aX Ek (eE (ak aK ax)) (Bt T.jc (ak (pv 0) ax))))
   (ao (gY PassesOwn.never rfl (zt rfl T.iA (ak aK (ak (Bt T.jc (ak (J6 (pv 0) aK) ax)) (ak (fF T.GR) ax)))) (mv 4 nd)
    (aH (gY PassesOwn.never rfl (GV rfl T.tX (ak (pv 0) ax)) (yK rfl (fm (mv 5 nd) (fm (mv 6 nd) pj)))
    (ao (fL 7 nd (kq T.oS (wZ T) hr bG (ak (pv 5) (ak (J6 (pv 3) (pv 5)) ax))))
   (ao (psc 8 [("rest",10)] nd (fB (psl (pv 6) (qv (pv 4)) (qv (aX dz (pv 4) (fF T.GR))))) (mv 10 nd) (kq T.AU (PX T) hr bG (ak (pv 10) ax)))
   (ao (gY PassesOwn.never rfl (fB (pv 8)) (mv 9 nd)
    (aH (cS (qO (pv 2) T.gm T.mK (yF T) hr bG (ak (pv 7) (ak (pv 9) ax))))))
   (aH (yN (gP (Mt rfl) rfl T.Uc aeE (ak (pv 8) ax)) (yJ (pv 3) (pv 5) set_list)))))))))
   (aH (bz (Fj (pv 2) T.gm T.qR (Ef T) hr bG)))))) ?_
 have rl:kT.length=es.length:=(dR pr).symm;obtain⟨zs,hzs⟩:∃zs,zs=es.map λ(l:bY)=>l.map j7:=⟨_,Z⟩;have zl:zs.length=es.length:=by rw[hzs];simp
 obtain⟨ZT,Yv⟩:∃ZT:xp,ZT=⟨fO es.length,[],[]⟩:=⟨_,Z⟩;rw[<-LM l1,<-Yv,<-hzs] at k;refine⟨_,Z,λa da m1 m2 m3=>acu (r:=16*es.length) (by lia) m1 m2 λH1 s1 pk1=>⟨Z,?_⟩⟩;have pk0:Oj t (nw H H1) ay ZT a:=by
  rw[Yv];exact⟨pk1,Nat.zero_mod _,by show 0<ay;lia,by show(aM (16*es.length) (gc 64 6)).length<=64;simp;lia,T_⟩
 refine⟨by rw[aE];simp,λp1 n1'=>?_⟩;have s2:aC H1 (upd H1 p1 (.lst [.int 0])):=aC.upd n1';refine⟨_,Z,ra,_,Z,i3 (s2 _ _ (s1 _ _ qo)),p1,_,_,Z,Z,aq,by lia,by lia,by rw[aE];simp;lia,λTA nTA=>?_⟩;rw[ND];have s3:=s2.trans (aC.upd (o:=.lst ((aM kT.length (0:Int)).map V.int)) nTA);obtain⟨v0,hv0⟩:∃v0,kT[0]? =some v0:=⟨_,aD (by lia)⟩;obtain⟨e0,he0,pe0,rfl,aos⟩:=iS pr hv0;have s13:=s1.trans s3;have aea:H1 TA=none:=s2.free nTA;refine⟨_,Z,ra,_,_,_,Z,Z,i2 (s13 _ _ qo),at_of (j:=0) rfl hv0,pe0,_,Z,i3 (s13 _ _ aos),0,(n:Int),16,(n+15) / 16,?_,akn CK,?_⟩
 .rw[aB,en e0 (az he0)]
 refine wj (λkk σ Hc=>X7 λy4 y5 y6 y7 y8 y9 G=>C7 (σ=[some (.ref ra),some (.int ay),some (.ref a),some (.ref TA),y4,y5,y6,y7,y8,y9,none]) (aC H Hc) (aC G Hc) (Apart H G) (G TA=none) (Hc TA=some (iL (nI ((aJ es.length).map λr=>iz zs kk r)))) (Oj t G ay (Gu ay ((aJ kk).flatMap λk=>l8 zs k es.length) ZT) a))
  ⟨none,none,none,none,none,none,nw H H1,Z,s13,iK.trans s3,λb=>?_,iK.free aea,?_,pk0⟩ ?_ ?_
 .cases e:H b with
  |none=>exact .inl rfl
  |some o=>exact .inr (by unfold nw;rw[e];rfl)
 .rw[aq,rl];have e5:((aJ es.length).map λr=>iz zs 0 r)=aM es.length 0:=by
   rw[UP];refine⟨by simp,λb hb=>?_⟩;obtain⟨r,_,rfl⟩:=bj.mp hb;rfl
  rw[e5];simp[nI]
 .rintro kk σ Hc hkk ⟨y4,y5,y6,y7,y8,y9,G,rfl,sm,sG,ap,gT,hT,pk⟩;have hk6:=k16 hkk;have hk4:kk<4:=by clear hkk;lia
  have aoy:=sm _ _ qo;refine⟨_,Z,ra,kT,Z,i2 aoy,?_⟩;refine Cw (xs:=kT) (λr σ Hd=>X6 λy5 y6 y7 y8 y9 G2=>C7 (σ=[some (.ref ra),some (.int ay),some (.ref a),some (.ref TA),some (.int (0+(kk:Nat)*16)),y5,y6,y7,y8,y9,none]) (aC H Hd) (aC G2 Hd) (Apart H G2) (G2 TA=none) (Hd TA=some (iL (nI ((aJ es.length).map λq=>if q<r then iz zs (kk+1) q else iz zs kk q)))) (Oj t G2 ay (Gu ay (((aJ kk).flatMap λk=>l8 zs k es.length)++l8 zs kk r) ZT) a))
   ⟨y5,y6,y7,y8,y9,G,Z,sm,sG,ap,gT,by simpa using hT,by simpa[l8] using pk⟩ ?_ ?_ ?_
  .rintro r σ Hd _ ⟨_,_,_,_,_,_,_,sm,_,_,_,_,_⟩;exact i2 (sm _ _ qo)
  .rintro r σ Hd x Tt WQ ⟨y5,y6,y7,y8,y9,G2,rfl,pL,sG2,ap2,gT2,hT2,pk2⟩ hx nT;obtain⟨e,he,pe,rfl,hpe⟩:=iS pr hx;have hrE:r<es.length:=by lia
   have sT:aC Hd (upd Hd Tt (.tup [.int (r:Nat),.ref pe])):=aC.upd nT;have Yf:r<((aJ es.length).map λq=>if q<r then iz zs (kk+1) q else iz zs kk q).length:=by simpa using hrE
   have afu:((aJ es.length).map λq=>if q<r then iz zs (kk+1) q else iz zs kk q).getD r 0=iz zs kk r:=by
    rw[aG,aw,bD hrE];simp
   refine⟨Tt,_,Z,i2 aq,Z,_,_,Z,_,_,Z,Z,?_⟩;refine⟨_,Z,_,Z,_,Z,TA,_,_,_,Z,Z,i2 (sT _ _ hT2),PB Yf rfl,r,_,by rw[afu];rfl,by lia,?_⟩;obtain⟨md,hmd⟩:∃md,md=jN r (if kk=0 then[] else bS zs (kk-1) r):=⟨_,Z⟩;rw[<-hmd];have hzr:zs.getD r []=e.map j7:=by rw[hzs,aG,aw,he];rfl
   have ani:e.length=n:=en e (az he);refine⟨_,Z,_,Z,_,Z,_,Z,_,_,Z,Z,_,Z,pe,_,Z,i2 (sT _ _ (pL _ _ hpe)),λcp ncp=>?_⟩;have afd:qZ (e.map V.int) (some (0+(kk:Nat)*16)) (some (0+(kk:Nat)*16+16))=((e.drop (16*kk)).take 16).map V.int:=by
    have:=OG (e.map V.int) (16*kk) (16*kk+16) (by rw[aB,ani];exact cG hk6);rw[show(0:Int)+(kk:Nat)*16=((16*kk:Nat):Int) by lia,show((16*kk:Nat):Int)+16=((16*kk+16:Nat):Int) by lia,this,k9,kh,lY]
   have ech:(((e.drop (16*kk)).take 16).map j7)=bS zs kk r:=by
    unfold bS;rw[hzr,kh,lY]
   have s4:aC Hd (upd (upd Hd Tt (.tup [.int (r:Nat),.ref pe])) cp (.lst (qZ (e.map V.int) (some (0+(kk:Nat)*16)) (some (0+(kk:Nat)*16+16))))):=sT.trans (aC.upd ncp);have ecp:upd (upd Hd Tt (.tup [.int (r:Nat),.ref pe])) cp (.lst (qZ (e.map V.int) (some (0+(kk:Nat)*16)) (some (0+(kk:Nat)*16+16)))) cp=some (iL ((e.drop (16*kk)).take 16)):=by rw[aq,afd]
   generalize upd (upd Hd Tt (.tup [.int (r:Nat),.ref pe])) cp (.lst (qZ (e.map V.int) (some (0+(kk:Nat)*16)) (some (0+(kk:Nat)*16+16))))=H4 at s4 ecp|-
   have auy:((e.drop (16*kk)).take 16).length<=16:=List.length_take_le ..;refine⟨cp,Z,⟨_,i2 ecp⟩,λD hD=>?_⟩;refine nu (ys:=(nI (bS zs kk r)).map V.int) hD (by rw[aE,<-ech];simp;exact bt (fw 16 _) (by decide)) (i2 ecp) (by rw[<-ech];simp) (λi x y H5 Q5 hx hy NK k5=>?_) λH5 e5 s5=>?_
   .rw[aw] at hx;rw[aw,aw,<-ech,aw] at hy;cases hq:((e.drop (16*kk)).take 16)[i]? with
    |none=>rw[hq] at hx;cases hx
    |some z=>
     rw[hq] at hx hy;cases hx;cases hy;exact⟨Z,_,Z,z,Z,k5 _ (aC.refl _)⟩
   .have s45:=s4.trans s5;have nD:Hd D=none:=s4.free hD;have DT:D≠TA:=b8 hT2 nD;have cl:=chunk_len zs kk r;have ajo:=zk zs es.length kk;have hnk:=Ed zs kk r;have aoj:16*es.length*kk<=16*4*4:=uW (oF 16 e4) (cG hk4);refine⟨_,Z,D,Z,⟨_,i2 e5⟩,?_⟩;refine qE (xs:=(nI (bS zs kk r)).map V.int) (λi σ Hf=>X2 λy9 G3=>C9 (σ=[some (.ref ra),some (.int ay),some (.ref a),some (.ref TA),some (.int (0+(kk:Nat)*16)),some (.int (r:Nat)),some (.ref pe),some (.int (md:Nat)),some (.ref D),y9,none]) (aC H Hf) (aC G3 Hf) (Apart H G3) (G3 TA=none) (G3 D=none) (Hf D=some (iL (nI (bS zs kk r)))) (Hf TA=some (iL (nI ((aJ es.length).map λq=>if q<r then iz zs (kk+1) q else iz zs kk q)))) (Oj t G3 ay (Gu ay (((aJ kk).flatMap λk=>l8 zs k es.length)++l8 zs kk r++((bS zs kk r).take i).map λz=>(md,z)) ZT) a))
     ⟨y9,G2,Z,pL.trans s45,sG2.trans s45,ap2,gT2,sG2.free nD,e5,s45 _ _ hT2,by simpa using pk2⟩ ?_ ?_ ?_
    .rintro i σ Hf _ ⟨_,_,_,_,_,_,_,_,hDf,_,_⟩;exact i2 hDf
    .rintro i v σ Hf hv ⟨y9',G3,rfl,AG,sG3,ap3,gT3,gD3,hD3,hT3,pk3⟩;rw[aw,aw] at hv;cases hq:(bS zs kk r)[i]? with
     |none=>rw[hq] at hv;cases hv
     |some z=>
      rw[hq] at hv;cases hv;have hi:i<16:=by have:=(aN.mp hq).1;lia
      have pl:=Ju ay (((aJ kk).flatMap λk=>l8 zs k es.length)++l8 zs kk r++((bS zs kk r).take i).map λz=>(md,z)) ZT;have m0:ZT.ms.length=16*es.length:=by rw[Yv];show(aM (16*es.length) _).length=_;simp
      have o0:ZT.out.length=0:=by rw[Yv];rfl
      have hzb:z+1<2^64:=by
       have hz:z∈bS zs kk r:=az hq;rw[<-ech] at hz;obtain⟨x,hx,rfl⟩:=bj.mp hz;exact ez e (az he) x (j6 (fb hx))
      obtain⟨⟨Sh',Gb',sU,WI,sa',akM,sS',sB',Zh⟩,_⟩:=id pk3;have aof:md<16*es.length:=by rw[hmd];exact Pz hrE _
      refine⟨_,Z,a,_,_,Z,sG3 _ _ (sS' _ _ Zh.ob),Z,_,Z,_,Z,a,ay,_,md,z,G3,Z,sG3,pk3,by rw[pl.2,m0];exact aof,hzb,?_,λH6 kp6 pk6=>?_⟩
      .have:=pl.1;rw[o0] at this;simp only[aO,aB,cP] at this;lia
      .refine⟨some (.int (z:Int)),grow G3 Hf H6,Z,kp6.other AG ap3,cg,gW AG ap3,cU hT3 gT3,cU hD3 gD3,kp6 _ _ hD3 gD3,kp6 _ _ hT3 gT3,?_⟩;have e7:(((aJ kk).flatMap λk=>l8 zs k es.length)++l8 zs kk r++((bS zs kk r).take (i+1)).map λz=>(md,z))=(((aJ kk).flatMap λk=>l8 zs k es.length)++l8 zs kk r++((bS zs kk r).take i).map λz=>(md,z))++[(md,z)]:=by
        rw[Mx.take_snoc hq,iU,<-cC];rfl
       rw[e7,VR];exact pk6
    .rintro σ Hf ⟨y9',G3,rfl,AG,sG3,ap3,gT3,gD3,hD3,hT3,pk3⟩;have e8:((nI (bS zs kk r)).map V.int).length=(bS zs kk r).length:=by simp
     rw[e8,gj] at pk3;have ano:(nI (bS zs kk r)).sum=(((bS zs kk r).sum:Nat):Int):=by
      induction bS zs kk r with
      |nil=>rfl
      |cons a r ih=>simp only[nI,cy,DH] at ih|-;rw[ih];simp
     refine⟨_,Z,D,_,Z,i2 hD3,_,Z,_,Z,TA,_,_,r,Z,Z,hT3,qp rfl (by simpa using hrE),?_⟩;rw[ano,Eb];refine⟨_,_,_,_,_,G3,Z,λy o e=>?_,λy o e=>?_,ap3,gT3,?_,?_⟩
     .have hTH:H TA=none:=s1.free aea;rw[aF (aI e hTH)];exact AG _ _ e
     .rw[aF (aI e gT3)];exact sG3 _ _ e
     .rw[aq];refine congrArg (λz=>some (iL (nI z))) (qe λq=>?_);rw[abd,aw,aw];by_cases Lz:r=q
      .rw[aj Lz,aj (by simpa using hrE),<-Lz,bD hrE];simp[iz]
      .rw[ah Lz];by_cases hqe:q<es.length
       .rw[bD hqe];simp only[eY];by_cases h3:q<r
        .rw[aj h3,aj (by lia)]
        .rw[ah h3,ah (by lia)]
       .rw[ib (by simpa using hqe)];rfl
     .have e9:((aJ kk).flatMap λk=>l8 zs k es.length)++l8 zs kk (r+1)=((aJ kk).flatMap λk=>l8 zs k es.length)++l8 zs kk r++((bS zs kk r)).map λz=>(md,z):=by
       rw[cC];congr 1;unfold l8;rw[cE,gN];simp[YZ,hmd]
      rw[e9];exact pk3
  .rintro σ Hd ⟨y5,y6,y7,y8,y9,G2,rfl,pL,sG2,ap2,gT2,hT2,pk2⟩;rw[rl] at pk2 hT2;refine⟨_,_,_,_,_,_,G2,Z,pL,sG2,ap2,gT2,?_,?_⟩
   .rw[hT2];refine congrArg (λz=>some (iL (nI z))) (fM λq hq=>?_);rw[aj (cJ.mp hq)]
   .rw[cE,gN];simpa using pk2
 .rintro σ Hc ⟨y4,y5,y6,y7,y8,y9,G,rfl,sm,sG,ap,gT,hT,pk⟩;rw[Jj,zl] at k;have pl:=Ju ay ((aJ ((n+15) / 16)).flatMap λk=>l8 zs k es.length) ZT;have ajo:=zk zs es.length ((n+15) / 16);have aoj:16*es.length*((n+15) / 16)<=16*4*4:=uW (oF 16 e4) (by lia);have o0:ZT.out.length=0:=by rw[Yv];rfl
  obtain⟨⟨Sh',Gb',sU,WI,sa',akM,sS',sB',Zh⟩,_⟩:=id pk;refine⟨_,Z,a,_,_,Z,sG _ _ (sS' _ _ Zh.ob),Z,a,ay,_,G,Z,sG,pk,by lia,λH' p sH e n'=>k H' p (sm.trans sH) e (sm.free n')⟩
abbrev UpO (t:fP)(dx gX ba sa:ke)(pl:Nat):HO:=.ins t.cx dx [("block",.ref gX),("bank",.ref ba),("states",.ref sa),("place",.int pl)]
structure UpS (t:fP)(F Sh Gb:Hp)(b:cb)(ay:Nat)(states:ig)(pl:Nat)(ms:List b9)(pd:Nat)(wl:List (Nat×Nat))(a dx gX ba sa:ke):Prop where
 ap:Apart Sh Gb
 ob:Sh a=some (UpO t dx gX ba sa pl)
 hs:Sh sa=some (iL (nI states))
 bk:NX t Gb ay ms pd wl ba
 hb:F gX=some (iL (br b))
 hl:states.length=ay
 l1:1<=ay
inductive Tf (t:fP)(F G:Hp)(b:cb)(ay:Nat)(states:ig)(pl:Nat)(ms:List b9)(pd:Nat)(wl:List (Nat×Nat))(a:ke):Prop|i(Sh Gb:Hp)(dx gX ba sa:ke)(_:aC Sh G)(_:aC Gb G)(_:UpS t F Sh Gb b ay states pl ms pd wl a dx gX ba sa)
def Tf.same {states:ig}{ms:List b9}(h:Tf t F G b ay states pl ms pd wl a)(f:aC F F')(s:aC G G'):Tf t F' G' b ay states pl ms pd wl a:=by
 obtain⟨Sh,Gb,dx,gX,ba,sa,z1,z2,z⟩:=h;exact⟨Sh,Gb,dx,gX,ba,sa,z1.trans s,z2.trans s,z.ap,z.ob,z.hs,z.bk,f _ _ z.hb,z.hl,z.l1⟩
def Ma (t:fP)(E:XK)(G H:Hp)(k p:Int):Prop:=∀H' dd fs,H' dd=some (.ext (GJ dd fs))->fs.lookup ("kind":Str)=some (V.int k)->fs.lookup ("place":Str)=some (V.int p)->fz G H H'->E (.ref t.cM) (some dd) H'
def Ma.mono {k p:Int}(h:Ma t E G H k p)(c:fz G H H1):Ma t E (grow G H H1) H1 k p:=λH' dd fs a b d x=>h H' dd fs a b d (c.trans x)
def Ma.sub {k p:Int}(h:Ma t E G H k p)(s:aC G' G):Ma t E G' H k p:=λH' dd fs a b d x=>h H' dd fs a b d λy o e g=>x y o e (s.free g)
def Ma.raise {k:Int}(h:Ma t E G H k e):[V.int k,V.int e].length=(["kind","place"]:mX).length/\∀dd fs H2,H2 dd=some (.ext (GJ dd fs))->Given ["kind","place"] [V.int k,V.int e] fs->aC H H2->E (.ref t.cM) (some dd) H2:=
 ⟨Z,λdd fs H2 a g s=>h H2 dd fs a (g 0 _ _ rfl rfl) (g 1 _ _ rfl rfl) (fz.same s)⟩
def Ma.of {k p:Int}(h:GF t E [] H0 k p)(s:aC H0 H)(ap:Apart H0 G):Ma t E G H k p:=λH' dd fs a b d x=>h H' dd fs a b d (x.other s ap).chg
inductive agM (t:fP)(vs:b_)(H:Hp)(Q:VK)(E:XK):Prop|i(a:ke)(F G:Hp)(b:cb)(ay:Nat)(states:ig)(pl:Nat)(ms:List b9)(pd:Nat)(wl:List (Nat×Nat))(_:vs=[.ref a])(_:aC G H)(_:Tf t F G b ay states pl ms pd wl a)(_:Q (.int ((states.getD (pd%ay) 0%32768:Nat):Int)) H)
def vg:T.nJ.Ok P w mg lQ jh 2 (agM t):=by
 refine T.nJ.ok λnd H vs Q E hr h=>?_;obtain⟨a,F,G,b,ay,states,pl,ms,pd,wl,rfl,sG,⟨Sh,Gb,dx,gX,ba,sa,sS,sB,z⟩,k⟩:=h;obtain⟨db,da,wa,cf,uQ,bk⟩:=id z.bk;have HA:=sG _ _ (sS _ _ z.ob);have hm:pd%ay<states.length:=by rw[z.hl];exact nh _ z.l1
 have l1:=z.l1;refine .i (aH (bz (aX pY (J6 (cQ (pv 0)) (Fj (cQ (pv 0)) T.ie T.tQ (CO T) hr bG)) (fF T.iR)))) ?_;refine⟨_,Z,Z,HA,T.bZ,Z,Z,_,Z,Z,HA,T.bZ,Z,Z,ba,_,_,Z,sG _ _ (sB _ _ bk.ob),Z,ba,db,da,wa,ay,pd,Z,sG _ _ (sB _ _ bk.ob),l1,sa,_,_,_,Z,Z,i2 (sG _ _ (sS _ _ z.hs)),PB hm rfl,_,_,Z,Z,(by show(0:Int)<32768;decide),k⟩
def NS {states G1:ig}{N7:Nat}{ms:List b9}{gX sa:ke}{Sh Gb:Hp}(sG:aC G H)(sS:aC Sh G)(sB:aC Gb G)(z:UpS t F Sh Gb b ay states pl ms pd wl a dx gX ba sa)
  (c:dE [a,sa] H H') (ha:H' a=some (UpO t dx gX ba sa N7)) (hs:H' sa=some (iL (nI G1))) (hl:G1.length=ay):fz G H H'/\Tf t F (grow G H H') b ay G1 N7 ms pd wl a:=by
 have Ga:(G a).isSome=true:=by rw[sS _ _ z.ob];rfl
 have Gsa:(G sa).isSome=true:=by rw[sS _ _ z.hs];rfl
 have ga:Gb a=none:=(z.ap a).resolve_left (by rw[z.ob];simp);have gs:Gb sa=none:=(z.ap sa).resolve_left (by rw[z.hs];simp);have nas:a≠sa:=hG z.ob z.hs (by intro q;cases q);refine⟨λy o e g=>c y o e λm=>?_,upd (upd Sh a (UpO t dx gX ba sa N7)) sa (iL (nI G1)),Gb,dx,gX,ba,sa,λy o e=>?_,λy o e=>?_,r9 (r9 z.ap ga) gs,by rw[aF nas,aq],aq,z.bk,z.hb,hl,z.l1⟩
 .simp at m;rcases m with rfl|rfl
  .rw[g] at Ga;cases Ga
  .rw[g] at Gsa;cases Gsa
 .by_cases h1:y=sa
  .rw[h1] at e|-;rw[aq] at e;rw[<-e];exact bC.mpr ⟨.inl Gsa,hs⟩
  .rw[aF h1] at e;by_cases h2:y=a
   .rw[h2] at e|-;rw[aq] at e;rw[<-e];exact bC.mpr ⟨.inl Ga,ha⟩
   .rw[aF h2] at e;exact bC.mpr ⟨.inl (by rw[sS _ _ e];rfl),c y o (sG _ _ (sS _ _ e)) (by simp[h1,h2])⟩
 .exact bC.mpr ⟨.inl (by rw[sB _ _ e];rfl),c y o (sG _ _ (sB _ _ e)) (by
   intro m;simp at m;rcases m with rfl|rfl
   .rw[ga] at e;cases e
   .rw[gs] at e;cases e)⟩
inductive agO (t:fP)(vs:b_)(H:Hp)(Q:VK)(E:XK):Prop|i(a:ke)(F G:Hp)(b:cb)(ay:Nat)(states:ig)(pl:Nat)(ms:List b9)(pd:Nat)(wl:List (Nat×Nat))(_:vs=[.ref a])(_:aC F H)(_:aC G H)(_:Apart F G)(_:Tf t F G b ay states pl ms pd wl a)(_:pl<=b.length)(_:(b.length-pl)%2=0)(_:pl=b.length->Ma t E G H 3 b.length)(_:pl<b.length->∀H',fz G H H'->Tf t F (grow G H H') b ay states (pl+2) ms pd wl a->Q (.int (kP b pl:Nat)) H')
def Eh:T.qT.Ok P w mg lQ (tO P w t.bI) 4 (agO t):=by
 refine T.qT.xE λnd H vs Q E hr h=>?_;obtain⟨a,F,G,b,ay,states,pl,ms,pd,wl,rfl,sF,sG,Hu,⟨Sh,Gb,dx,gX,ba,sa,sS,sB,z⟩,ou,Lw,kE,kQ⟩:=h;have HA:=sG _ _ (sS _ _ z.ob);have HB:=sF _ _ z.hb;have bl:(br b).length=b.length:=eA b;refine .i (ao (gi (rf Y5 (cQ (pv 0)) (Bt T.jc (ak (cQ (pv 0)) ax))) (aH (jB (ns:=["kind","place"]) aY rfl T.hZ (ia T) (hr.mono (by decide)).h T.dq.b rfl rfl T.gk (ak aK (ak (Bt T.jc (ak (cQ (pv 0)) ax)) ax)) (by decide))) cT)
   (ao (P_ (pv 0) aK YC)
   (aH (bz (kq T.qA (wA T) hr bG (ak (cQ (pv 0)) (ak (aX gw (cQ (pv 0)) aK) (ak aK ax)))))))) ?_
 refine⟨_,Z,Z,HA,T.bZ,Z,Z,_,Z,Z,HA,T.bZ,Z,Z,gX,_,Z,i3 HB,_,_,Z,Z,_,Z,?_⟩;rw[aB,bl];by_cases hp:pl=b.length
 .rw[ag (by lia)];refine eZ ⟨_,Z,Z,HA,T.bZ,Z,Z,gX,_,Z,i3 HB,?_⟩;rw[aB,bl];exact(kE hp).raise
 .rw[ae (by lia)];refine fK ⟨_,Z,Z,HA,T.bZ,Z,Z,_,_,Z,Z,_,_,_,HA,Z,Z,?_⟩;have nas:a≠sa:=hG z.ob z.hs (by intro q;cases q);have nba:gX≠a:=hG HB HA (by intro q;cases q);have c1:dE [a,sa] H (upd H a (UpO t dx gX ba sa (pl+2))):=dE.refl.d_ (by simp);obtain⟨kp,up⟩:=NS (N7:=pl+2) sG sS sB z c1 aq (by rw[aF nas.symm];exact sG _ _ (sS _ _ z.hs)) z.hl;have S7:upd H a (UpO t dx gX ba sa (pl+2)) a=some (UpO t dx gX ba sa (pl+2)):=aq;refine⟨_,Z,Z,S7,T.bZ,Z,Z,_,Z,Z,S7,T.bZ,Z,Z,_,_,Z,Z,gX,br b,pl,2,?_,i2 (by rw[aF nba];exact HB),by decide,by decide,by lia,λ_ x hx=>xU b x hx,?_⟩
  .show[V.ref gX,V.int (((pl+2:Nat):Int)-2),V.int 2]=[V.ref gX,V.int (pl:Int),V.int ((2:Nat):Int)];rw[show((pl+2:Nat):Int)-2=(pl:Int) by lia];rfl
  .rw[qG b pl 1 (by lia)];exact kQ (by lia) _ kp up
inductive agG (t:fP)(vs:b_)(H:Hp)(Q:VK)(E:XK):Prop|i(a:ke)(F G:Hp)(b:cb)(ay:Nat)(states:ig)(pl:Nat)(ms:List b9)(pd:Nat)(wl:List (Nat×Nat))(bg sz:Nat)(_:vs=[.ref a,.int bg,.int sz])(_:aC F H)(_:aC G H)(_:Apart F G)(_:Tf t F G b ay states pl ms pd wl a)(_:pl<=b.length)(_:(b.length-pl)%2=0)(_:sz<=32768)(_:bg<=states.getD (pd%ay) 0%32768)(_:65536<=qN (states.getD (pd%ay) 0) bg sz->∀H',fz G H H'->Tf t F (grow G H H') b ay (states.set (pd%ay) (qN (states.getD (pd%ay) 0) bg sz)) pl ms pd wl a->Q .gS H')(_:qN (states.getD (pd%ay) 0) bg sz<65536->(pl=b.length->Ma t E G H 3 b.length)/\(pl<b.length->∀H',fz G H H'->Tf t F (grow G H H') b ay (states.set (pd%ay) (qN (states.getD (pd%ay) 0) bg sz*65536+kP b pl)) (pl+2) ms pd wl a->Q .gS H'))
def vf:T.nH.Ok P w mg lQ (tO P w t.bI) 5 (agG t):=by
 refine T.nH.xE λnd H vs Q E hr h=>?_;obtain⟨a,F,G,b,ay,states,pl,ms,pd,wl,bg,sz,rfl,sF,sG,Hu,up,ou,Lw,hsz,hbg,k1,k2⟩:=h;obtain⟨Sh,Gb,dx,gX,ba,sa,sS,sB,z⟩:=id up;obtain⟨db,da,wa,cf,uQ,bk⟩:=id z.bk;have HA:=sG _ _ (sS _ _ z.ob);have hm:pd%ay<states.length:=by rw[z.hl];exact nh _ z.l1
 obtain⟨ln,hln⟩:∃ln,ln=pd%ay:=⟨_,Z⟩;rw[<-hln] at hm hbg k1 k2;obtain⟨x,hx⟩:∃x,x=states.getD ln 0:=⟨_,Z⟩;rw[<-hx] at hbg k1 k2;refine .i (ao (fL 3 nd (Fj (cQ (pv 0)) T.ie T.tQ (CO T) hr bG))
   (ao (fL 4 nd (J6 (cQ (pv 0)) (pv 3)))
   (ao (fL 4 nd (aX gw (aX dz (aX fQ (pv 2) (aX jM (pv 4) (fF T.iR))) (aX pY (pv 4) (fF T.iR))) (pv 1)))
   (ao (gi (rf Fh (pv 4) (fF T.qt)) (aH (fL 4 nd (aX dz (aX fQ (pv 4) (fF T.RW)) (Fj (pv 0) T.bZ T.qT (Eh T) hr aY.passes)))) cT)
   (aH (yN (pv 4) (yJ (cQ (pv 0)) (pv 3) set_list))))))) ?_
 refine⟨_,Z,Z,HA,T.bZ,Z,Z,ba,_,_,Z,sG _ _ (sB _ _ bk.ob),Z,ba,db,da,wa,ay,pd,Z,sG _ _ (sB _ _ bk.ob),z.l1,?_⟩;rw[<-hln];refine⟨_,Z,Z,HA,T.bZ,Z,Z,_,Z,sa,_,_,_,Z,Z,i2 (sG _ _ (sS _ _ z.hs)),PB hm rfl,?_⟩;rw[<-hx];refine⟨_,Z,_,Z,_,_,Z,Z,⟨by decide,by decide⟩,_,_,Z,Z,.inl ⟨by lia,by lia⟩,_,Z,_,_,Z,Z,(by show(0:Int)<32768;decide),_,_,Z,Z,_,Z,_,_,Z,Z,?_⟩;obtain⟨y,hy⟩:∃y,y=qN x bg sz:=⟨_,Z⟩;rw[<-hy] at k1 k2;have ev:(sz:Int)*((x:Int) / 32768)+(x:Int)%32768-(bg:Int)=((y:Nat):Int):=by
  rw[hy];unfold qN Wu;rw[ft,gZ,Md hbg,n8,rQ];rw[show((32768:Nat):Int)=32768 from rfl];lia
 have e0:V.int (((sz:Int)*((x:Int) / 32768)+(x:Int)%32768)-(bg:Int))=V.int ((y:Nat):Int):=congrArg V.int ev;rw[e0];refine⟨_,Z,_,_,Z,Z,_,Z,?_⟩;have k1':=λ(q:65536<=y)=>k1 q;have k2':=λ(q:y<65536)=>k2 q;clear k1 k2;have Yg:=uq y 65536;cases Yg with
 |inl lu=>
  rw[ag (by lia)];obtain⟨kE,kQ⟩:=k2' lu;refine eZ ⟨_,Z,_,_,Z,Z,.inr ⟨by decide,by decide⟩,_,Z,a,_,_,Z,HA,Z,a,F,G,b,ay,states,pl,ms,pd,wl,Z,sF,sG,Hu,up,ou,Lw,kE,λAs H2 Bk Qx=>?_⟩;obtain⟨Sh2,Gb2,dx2,Xv,ba2,sa2,Sv,WX,z2⟩:=id Qx;have S7:=cg _ _ (Sv _ _ z2.ob);have hS2:=cg _ _ (Sv _ _ z2.hs);have e1:(y:Int)*65536+((kP b pl:Nat):Int)=((y*65536+kP b pl:Nat):Int):=by lia
  refine⟨_,_,Z,Z,_,Z,_,Z,Z,S7,T.bZ,Z,Z,_,Z,sa2,_,_,ln,Z,Z,hS2,qp rfl (by simpa using hm),?_⟩;have e2:V.int (((y:Int)*65536)+((kP b pl:Nat):Int))=V.int ((y*65536+kP b pl:Nat):Int):=congrArg V.int e1;rw[e2,Eb];have nas:a≠sa2:=hG z2.ob z2.hs (by intro q;cases q);obtain⟨QI,up3⟩:=NS (H':=upd H2 sa2 (iL (nI (states.set ln (y*65536+kP b pl))))) (N7:=pl+2) cg Sv WX z2 (dE.refl.d_ (by simp)) (by rw[aF nas];exact S7) aq (by rw[ff];exact z2.hl);exact kQ As _ (Bk.trans QI) (up3.same (aC.refl _) (oh Bk))
 |inr lu=>
  rw[ae (by lia)];refine fK ⟨_,Z,_,Z,Z,HA,T.bZ,Z,Z,_,Z,sa,_,_,ln,Z,Z,sG _ _ (sS _ _ z.hs),qp rfl (by simpa using hm),?_⟩;rw[Eb];have nas:a≠sa:=hG z.ob z.hs (by intro q;cases q);obtain⟨QI,up3⟩:=NS (H':=upd H sa (iL (nI (states.set ln y)))) (N7:=pl) sG sS sB z (dE.refl.d_ (by simp)) (by rw[aF nas];exact HA) aq (by rw[ff];exact z.hl);exact k1' lu _ QI up3
structure JW (t:fP)(F G:Hp)(b:cb)(ay:Nat)(rd:cD)(a:ke):Prop where
 ex:∃pl pd,Tf t F G b ay rd.states pl rd.models pd (Mx.waitOf rd.group) a/\pd%ay=rd.group.length/\rd.words=fu (b.drop pl)/\pl<=b.length/\(b.length-pl)%2=0
 ok:Mx.ROk ay rd
 T_:ay<=16
 ml:rd.models.length<=64
def JW.same (h:JW t F G b ay rd a)(f:aC F F')(s:aC G G'):JW t F' G' b ay rd a:=by
 obtain⟨pl,pd,z,r⟩:=h.ex;exact⟨⟨pl,pd,z.same f s,r⟩,h.ok,h.T_,h.ml⟩
def LN (h:pl=b.length):fu (b.drop pl)=[]:=by rw[h,rq];rfl
def Jp (h:pl<b.length)(h2:(b.length-pl)%2=0):fu (b.drop pl)=kP b pl::fu (b.drop (pl+2)):=by
 have h1:pl+1<b.length:=by lia
 rw[cV h,cV h1];show(b[pl].toNat+256*b[pl+1].toNat)::fu (b.drop (pl+1+1))=_;congr 1;unfold kP rB;rw[cV h,cV h1];rfl
def UA {y:Nat}{words:ig}{gX sa:ke}{Sh Gb:Hp}(Hu:Apart F G)(sF:aC F H)(ok:Mx.ROk ay rd)(T_:ay<=16)(ml:rd.models.length<=64)(hi:Od rd.models.length it)
  (IF:fz G H H1) (sS:aC Sh (grow G H H1)) (sB:aC Gb (grow G H H1)) (z:UpS t F Sh Gb b ay (rd.states.set rd.group.length y) pl rd.models pd (Mx.waitOf rd.group) a dx gX ba sa) (TV:pd%ay=rd.group.length) (hw:words=fu (b.drop pl)) (ou:pl<=b.length) (Lw:(b.length-pl)%2=0)
  (Bk:fz Gb H1 H2) (bk:NX t (grow Gb H1 H2) ay (if(pd+1)%ay=0 then p8 rd.models (Mx.waitOf (rd.group++[it])) else rd.models) (pd+1) (if(pd+1)%ay=0 then[] else Mx.waitOf (rd.group++[it])) ba):
  fz G H H2/\JW t F (grow G H H2) b ay (Mx.pass rd it y words) a:=by
 have kG:fz (grow G H H1) H1 H2:=λx o e g=>Bk x o e (sB.free g);have hn:=Py TV ok.gr;have hz:(pd+1)%ay=0↔(rd.group++[it]).length=ay:=by rw[aO];exact hn.1
 have pk:=acm ok hi y words;refine⟨IF.trans kG,⟨pl,pd+1,⟨Sh,grow Gb H1 H2,dx,gX,ba,sa,λx o e=>?_,λx o e=>?_,gW (sS.trans cg) z.ap,z.ob,z.hs,?_,z.hb,z.hl,z.l1⟩,?_,hw,ou,Lw⟩,pk.1,T_,by rw[pk.2];exact ml⟩
 .have h1:=sS _ _ e;exact bC.mpr ⟨(bC.mp h1).1,Bk x o (cg _ _ h1) ((z.ap x).resolve_left (by rw[e];simp))⟩
 .obtain⟨z1,z2⟩:=bC.mp e;refine bC.mpr ⟨?_,z2⟩;rcases z1 with q|q
  .obtain⟨u,hu⟩:=cZ.mp q;exact(bC.mp (sB _ _ hu)).1
  .exact IF.dom q
 .show NX t _ ay (if(rd.group++[it]).length=rd.lanes then qY rd.models (rd.group++[it]) else rd.models) (pd+1) (Mx.waitOf (if(rd.group++[it]).length=rd.lanes then[] else rd.group++[it])) ba;rw[ok.ln];by_cases h:(rd.group++[it]).length=ay
  .rw[aj h,aj h];rw[aj (hz.mpr h),aj (hz.mpr h)] at bk;have es:qY rd.models (rd.group++[it])=p8 rd.models (Mx.waitOf (rd.group++[it])):=Fo _ _;rw[es];exact bk
  .rw[ah h,ah h];rw[ah (λq=>h (hz.mp q)),ah (λq=>h (hz.mp q))] at bk;exact bk
 .show(pd+1)%ay=(if(rd.group++[it]).length=rd.lanes then[] else rd.group++[it]).length;rw[ok.ln];by_cases h:(rd.group++[it]).length=ay
  .rw[aj h];exact hz.mpr h
  .rw[ah h,hn.2 (by simpa using h)];simp
def Xg (t:fP)(F G H:Hp)(b:cb)(ay:Nat)(a:ke)(Q:VK)(E:XK)(r:Option (oX×cD)):Prop:=(r=none->Ma t E G H 3 b.length)/\∀it N8,r=some (it,N8)->∀H',fz G H H'->JW t F (grow G H H') b ay N8 a->Q (.int (iu it:Nat)) H'
def LK {wn:Ta}(JZ:wn.item rd.models (rd.states.getD rd.group.length 0%32768)=it)(hw:rd.words=fu (b.drop pl))(ou:pl<=b.length)(Lw:(b.length-pl)%2=0)(n:Xg t F G H b ay a Q E (rd.next wn)):
  (65536<=AE rd it->∀H',fz G H H'->JW t F (grow G H H') b ay (Mx.pass rd it (AE rd it) (fu (b.drop pl))) a->Q (.int (iu it:Nat)) H')/\
  (AE rd it<65536->(pl=b.length->Ma t E G H 3 b.length)/\(pl<b.length->∀H',fz G H H'->JW t F (grow G H H') b ay (Mx.pass rd it (AE rd it*65536+kP b pl) (fu (b.drop (pl+2)))) a->Q (.int (iu it:Nat)) H')):=by
 have e:=Ni rd wn;simp only[JZ] at e;refine⟨λh H' kp up=>n.2 it _ ?_ H' kp up,λh=>⟨λhp=>n.1 ?_,λhp H' kp up=>n.2 it _ ?_ H' kp up⟩⟩
 .rw[e,aj h,hw]
 .rw[e,ah (Oh.mpr h),hw,LN hp]
 .rw[e,ah (Oh.mpr h),hw,Jp hp Lw]
inductive acV (t:fP)(vs:b_)(H:Hp)(Q:VK)(E:XK):Prop|i(a:ke)(F G:Hp)(b:cb)(ay:Nat)(rd:cD)(n:Nat)(_:vs=[.ref a,.int n])(_:aC F H)(_:aC G H)(_:Apart F G)(_:JW t F G b ay rd a)(_:n<rd.models.length)(_:Xg t F G H b ay a Q E (rd.next (.sym n)))
def vi:T.kK.Ok P w mg lQ (tO P w t.bI) 6 (acV t):=by
 refine T.kK.xE λnd H vs Q E hr h=>?_;obtain⟨a,F,G,b,ay,rd,n,rfl,sF,sG,Hu,up,hn,nx⟩:=h;obtain⟨pl,pd,⟨Sh,Gb,dx,gX,ba,sa,sS,sB,z⟩,TV,hw,ou,Lw⟩:=up.ex;obtain⟨db,da,wa,cf,uQ,bk⟩:=id z.bk;have HA:=sG _ _ (sS _ _ z.ob);have GbH:aC Gb H:=sB.trans sG;have l1:=z.l1;have hgr:=up.ok.gr;have Ym:=up.T_;obtain⟨m,Yq⟩:∃m,rd.models[n]? =some m:=⟨_,aD hn⟩;obtain⟨k0,TU⟩:∃k0,k0=rd.states.getD rd.group.length 0%32768:=⟨_,Z⟩;have hk:k0<32768:=by rw[TU];exact nh _ (by decide)
 obtain⟨JZ,Pe⟩:=Ft up.ok.ml Yq k0 hk;have Y2:=up.ok.ml m (az Yq);obtain⟨a1,a2,a3⟩:=Ti Y2 hk;obtain⟨sy,hsy⟩:∃sy,sy=m.at_ k0:=⟨_,Z⟩;rw[<-hsy] at JZ Pe a1 a2 a3;have nm:=LK (it:=.sym n sy) (by rw[<-TU];exact JZ) hw ou Lw nx;have esh:lr rd.models (.sym n sy)=(m.begin_ sy,m.share sy):=by
  show(match rd.models[n]? with|some x=>(x.begin_ sy,x.share sy)|none=>(0,Wu))=_;rw[Yq]
 have XQ:AE rd (.sym n sy)=qN (rd.states.getD rd.group.length 0) (m.begin_ sy) (m.share sy):=by
  unfold AE;rw[esh]
 refine .i (ao (fL 2 nd (qO (cQ (pv 0)) T.ie T.kX (pX T) hr bG (ak (pv 1) ax)))
   (ao (fL 3 nd (qO (pv 2) T.jD T.oO (Bm T) hr bG (ak (Fj (pv 0) T.bZ T.nJ (vg T) hr bG) ax)))
   (ao (cS (qO (pv 0) T.bZ T.nH (vf T) hr aY.passes (ak (J6 (cQ (pv 2)) (pv 3)) (ak (qO (pv 2) T.jD T.oN (wY T) hr bG (ak (pv 3) ax)) ax))))
   (ao (cS (qO (cQ (pv 0)) T.ie T.kz (rD T) hr bG (ak (pv 1) (ak (pv 3) ax))))
   (aH (bz (pv 3))))))) ?_
 refine⟨_,Z,Z,HA,T.bZ,Z,Z,ba,_,_,Z,GbH _ _ bk.ob,Z,_,Z,ba,db,da,wa,cf,uQ,ay,rd.models,_,_,n,Gb,Z,GbH,bk,hn,λma H1 apa IF bk1 hv1=>?_⟩;obtain⟨ma',e,md⟩:=bk1.ye n m _ Yq hv1;cases e;obtain⟨dm,bb,N6,hbb⟩:=id md;have Kf:aC Sh H1:=IF.other (sS.trans sG) z.ap;have kG1:fz G H H1:=λy o e g=>IF y o e (sB.free g);have gg:aC (grow Gb H H1) (grow G H H1):=λy o e=>by
  obtain⟨z1,z2⟩:=bC.mp e;refine bC.mpr ⟨z1.imp (λq=>?_) id,z2⟩;obtain⟨u,hu⟩:=cZ.mp q;rw[sB _ _ hu];rfl
 have sS1:aC Sh (grow G H H1):=λy o e=>bC.mpr ⟨.inl (by rw[sS _ _ e];rfl),Kf _ _ e⟩;have z1:UpS t F Sh (grow Gb H H1) b ay rd.states pl rd.models pd (Mx.waitOf rd.group) a dx gX ba sa:=⟨gW (sS.trans sG) z.ap,z.ob,z.hs,⟨_,_,_,_,_,bk1⟩,z.hb,z.hl,z.l1⟩;have up1:Tf t F (grow G H H1) b ay rd.states pl rd.models pd (Mx.waitOf rd.group) a:=⟨Sh,grow Gb H H1,dx,gX,ba,sa,sS1,gg,z1⟩;have Wo:=Kf _ _ z.ob;have sF1:aC F H1:=kG1.other sF Hu;have am5:Apart F (grow G H H1):=gW sF Hu;refine⟨_,Z,ma,_,_,Z,cg _ _ N6,Z,_,Z,a,_,_,Z,Wo,Z,a,F,grow G H H1,b,ay,rd.states,pl,rd.models,pd,Mx.waitOf rd.group,Z,cg,up1,ma,m,k0,by rw[TV,<-TU];rfl,md.same cg,Y2,hk,?_⟩;rw[<-hsy];have hsh:=LW Y2 a1;refine⟨_,Z,a,_,_,Z,Wo,Z,_,Z,Z,cg _ _ N6,T.jD,Z,Z,_,Z,bb,_,_,_,Z,Z,i2 (cg _ _ hbb),AZ Y2 (i:=sy) (by lia),_,Z,ma,_,_,Z,cg _ _ N6,Z,_,Z,ma,m,sy,Z,md.same cg,Y2,a1,?_⟩;have fin:∀(y N7:Nat),(N7<=b.length/\(b.length-N7)%2=0)->(∀H',fz G H H'->JW t F (grow G H H') b ay (Mx.pass rd (.sym n sy) y (fu (b.drop N7))) a->Q (.int (sy:Nat)) H')->∀H2,fz (grow G H H1) H1 H2->Tf t F (grow (grow G H H1) H1 H2) b ay (rd.states.set rd.group.length y) N7 rd.models pd (Mx.waitOf rd.group) a->Uz (JG t.i9 "pass_symbol" (Uw t) [] E0 (tFd K (Es 0) "bank") (JF (Es 1) (JF (Es 3) Gx))) {nx:=ag1 (Es 3) {nx:=λx H'=>Q V.gS H',rt:=Q},rt:=Q} [some (.ref a),some (.int n),some (.ref ma),some (.int sy)] H2:=by
  intro y N7 Yt kk H2 Bk Qx;obtain⟨Sh2,Gb2,dx2,Xv,ba2,sa2,Sv,WX,z2⟩:=id Qx;obtain⟨db2,da2,wa2,af2,aqw,bk2⟩:=id z2.bk;have kG2:=kG1.trans Bk;have gt:=oh (H2:=H2) kG1;refine⟨_,Z,Z,cg _ _ (Sv _ _ z2.ob),T.bZ,Z,Z,ba2,_,_,Z,cg _ _ (WX _ _ bk2.ob),Z,_,Z,_,Z,ba2,ay,rd.models,pd,Mx.waitOf rd.group,n,sy,Gb2,Z,WX.trans cg,z2.bk,l1,by have:=Ds rd.group;lia,hn,a1,λH3 QI Xu=>?_⟩;rw[<-Qz] at Xu;obtain⟨r1,r2⟩:=UA (it:=.sym n sy) Hu sF up.ok Ym up.ml Pe kG2 (Sv.trans gt) (WX.trans gt) z2 TV rfl Yt.1 Yt.2 QI Xu;exact⟨_,Z,kk H3 r1 r2⟩
 refine⟨a,F,grow G H H1,b,ay,rd.states,pl,rd.models,pd,Mx.waitOf rd.group,m.begin_ sy,m.share sy,Z,sF1,cg,am5,up1,ou,Lw,hsh.2,by rw[TV,<-TU];exact a2,?_,?_⟩
 .rw[TV,<-XQ];intro lu H2 Bk Qx;exact fin _ pl ⟨ou,Lw⟩ (nm.1 lu) H2 Bk Qx
 .rw[TV,<-XQ];intro lu;obtain⟨kE,kQ⟩:=nm.2 lu;refine⟨λhp=>(kE hp).mono kG1,λhp H2 Bk Qx=>fin _ (pl+2) ⟨by lia,by rw[BX];exact sb2 Lw rfl⟩ (kQ hp) H2 Bk Qx⟩
inductive acT (t:fP)(vs:b_)(H:Hp)(Q:VK)(E:XK):Prop|i(a:ke)(F G:Hp)(b:cb)(ay:Nat)(rd:cD)(n:Nat)(_:vs=[.ref a,.int n])(_:aC F H)(_:aC G H)(_:Apart F G)(_:JW t F G b ay rd a)(_:1<=n)(_:n<=15)(_:Xg t F G H b ay a Q E (rd.next (.plain n)))
def xy:T.lX.Ok P w mg lQ (tO P w t.bI) 6 (acT t):=by
 refine T.lX.xE λnd H vs Q E hr h=>?_;obtain⟨a,F,G,b,ay,rd,n,rfl,sF,sG,Hu,up,hn1,hn,nx⟩:=h;obtain⟨pl,pd,up1,TV,hw,ou,Lw⟩:=up.ex;obtain⟨Sh,Gb,dx,gX,ba,sa,sS,sB,z⟩:=id up1;have HA:=sG _ _ (sS _ _ z.ob);have l1:=z.l1;have hgr:=up.ok.gr;have Ym:=up.T_;obtain⟨k0,TU⟩:∃k0,k0=rd.states.getD rd.group.length 0%32768:=⟨_,Z⟩;have hk:k0<32768:=by rw[TU];exact nh _ (by decide)
 obtain⟨JZ,Pe⟩:=AI (ms:=rd.models) hn1 hn hk;obtain⟨vl,hvl⟩:∃vl,vl=k0 / 2^(15-n):=⟨_,Z⟩;rw[<-hvl] at JZ Pe;have nm:=LK (it:=.plain n vl) (by rw[<-TU];exact JZ) hw ou Lw nx;have XQ:AE rd (.plain n vl)=qN (rd.states.getD rd.group.length 0) (vl*2^(15-n)) (2^(15-n)):=rfl;have avM:0<2^(15-n):=pF _;have hsz:2^(15-n)<=32768:=j_ (n:=2) (by decide) (lO 15 n);have esz:(32768:Int) / 2^((n:Int)).toNat=((2^(15-n):Nat):Int):=by
  rw[bF];have h1:(32768:Nat)=2^(15-n)*2^n:=by rw[<-wO,jK hn]
  have h2:(32768:Int)=((2^(15-n):Nat):Int)*2^n:=by
   have:=congrArg (λ(x:Nat)=>(x:Int)) h1;simp only[gZ,Ad] at this
   exact_mod_cast this
  rw[h2];exact DG _ (UM (Mx.two_pos n))
 refine .i (ao (fL 2 nd (aX sZ (fF T.iR) (pv 1)))
   (ao (fL 3 nd (aX jM (Fj (pv 0) T.bZ T.nJ (vg T) hr bG) (pv 2)))
   (ao (cS (qO (pv 0) T.bZ T.nH (vf T) hr aY.passes (ak (aX fQ (pv 3) (pv 2)) (ak (pv 2) ax))))
   (ao (cS (Fj (cQ (pv 0)) T.ie T.j8 (pf T) hr bG))
   (aH (bz (pv 3))))))) ?_
 refine⟨_,Z,_,_,Z,Z,(by show(0:Int)<=_;lia),?_⟩;have e0:V.int (32768 / 2^(n:Int).toNat)=V.int ((2^(15-n):Nat):Int):=congrArg V.int esz;rw[e0];refine⟨_,Z,a,_,_,Z,HA,Z,a,F,G,b,ay,rd.states,pl,rd.models,pd,Mx.waitOf rd.group,Z,sG,up1,_,Z,_,_,Z,Z,⟨by lia,by lia⟩,?_⟩;have e1:V.int (((rd.states.getD (pd%ay) 0%32768:Nat):Int) / ((2^(15-n):Nat):Int))=V.int ((vl:Nat):Int):=by
  rw[TV,<-TU,hvl];rfl
 rw[e1];refine⟨_,Z,a,_,_,Z,HA,Z,_,Z,_,Z,_,_,Z,Z,.inr ⟨by lia,by lia⟩,_,Z,?_⟩;have fin:∀(y N7:Nat),(N7<=b.length/\(b.length-N7)%2=0)->(∀H',fz G H H'->JW t F (grow G H H') b ay (Mx.pass rd (.plain n vl) y (fu (b.drop N7))) a->Q (.int (vl:Nat)) H')->∀H2,fz G H H2->Tf t F (grow G H H2) b ay (rd.states.set rd.group.length y) N7 rd.models pd (Mx.waitOf rd.group) a->Uz (JG t.i9 "pass_bits" (Uv t) [] E0 (tFd K (Es 0) "bank") Gx) {nx:=ag1 (Es 3) {nx:=λx H'=>Q V.gS H',rt:=Q},rt:=Q} [some (.ref a),some (.int n),some (.int ((2^(15-n):Nat):Int)),some (.int vl)] H2:=by
  intro y N7 Yt kk H2 Bk Qx;obtain⟨Sh2,Gb2,dx2,Xv,ba2,sa2,Sv,WX,z2⟩:=id Qx;obtain⟨db2,da2,wa2,af2,aqw,bk2⟩:=id z2.bk;refine⟨_,Z,Z,cg _ _ (Sv _ _ z2.ob),T.bZ,Z,Z,ba2,_,_,Z,cg _ _ (WX _ _ bk2.ob),Z,ba2,ay,rd.models,pd,Mx.waitOf rd.group,Gb2,Z,WX.trans cg,z2.bk,l1,by have:=Ds rd.group;lia,λH3 QI Xu=>?_⟩;rw[<-JL rd.group n vl] at Xu;obtain⟨r1,r2⟩:=UA (it:=.plain n vl) Hu sF up.ok Ym up.ml Pe Bk Sv WX z2 TV rfl Yt.1 Yt.2 QI Xu;exact⟨_,Z,kk H3 r1 r2⟩
 have hbg:vl*2^(15-n)<=k0:=by rw[hvl];exact aaE _ _
 refine⟨a,F,G,b,ay,rd.states,pl,rd.models,pd,Mx.waitOf rd.group,vl*2^(15-n),2^(15-n),?_,sF,sG,Hu,up1,ou,Lw,hsz,by rw[TV,<-TU];exact hbg,?_,?_⟩
 .rw[gZ];rfl
 .rw[TV,<-XQ];intro lu H2 Bk Qx;exact fin _ pl ⟨ou,Lw⟩ (nm.1 lu) H2 Bk Qx
 .rw[TV,<-XQ];intro lu;obtain⟨kE,kQ⟩:=nm.2 lu;exact⟨kE,λhp H2 Bk Qx=>fin _ (pl+2) ⟨by lia,by rw[BX];exact sb2 Lw rfl⟩ (kQ hp) H2 Bk Qx⟩
def next_item {N8:cD}{wn:Ta}(h:rd.next wn=some (it,N8)):it=wn.item rd.models (rd.states.getD rd.group.length 0%32768):=by
 rw[Ni] at h;simp only at h;split at h
 .cases h;rfl
 .split at h
  .cases h
  .cases h;rfl
inductive acU (t:fP)(vs:b_)(H:Hp)(Q:VK)(E:XK):Prop|i(a:ke)(F G:Hp)(b:cb)(ay:Nat)(rd:cD)(n:Nat)(_:vs=[.ref a,.int n])(_:aC F H)(_:aC G H)(_:Apart F G)(_:JW t F G b ay rd a)(_:n<rd.models.length)(_:pN rd n=none->Ma t E G H 3 b.length)(_:∀v N8,pN rd n=some (v,N8)->∀H',fz G H H'->JW t F (grow G H H') b ay N8 a->Q (.int (v:Nat)) H')
def vh:T.kJ.Ok P w mg lQ (tO P w t.bI) 7 (acU t):=by
 refine T.kJ.xE λnd H vs Q E hr h=>?_;obtain⟨a,F,G,b,ay,rd,n,rfl,sF,sG,Hu,up,hn,kE,kQ⟩:=h;obtain⟨pl,pd,⟨Sh,Gb,dx,gX,ba,sa,sS,sB,z⟩,_⟩:=id up.ex;rw[Gv] at kE kQ;refine .i (ao (fL 2 nd (qO (pv 0) T.bZ T.kK (vi T) hr aY.passes (ak (pv 1) ax)))
   (ao (fL 3 nd (aX uG aK (pv 2)))
   (ao (fL 4 nd aK)
   (ao (C1 PassesOwn.leaving (rf Fh (pv 4) (pv 2)) (ao (fL 5 nd (gP (ot rfl) rfl T.EY AJ (ak (fF T.T8) (ak (aX gw (pv 2) (pv 4)) ax))))
   (ao (Js (i:=3) nd rfl (Ah rfl) (aX uG (qO (pv 0) T.bZ T.lX (xy T) hr aY.passes (ak (pv 5) ax)) (pv 4)) M5)
   (aH (Js (i:=4) nd rfl (Ah rfl) (pv 5) M5)))))
   (aH (bz (aX gw (pv 3) aK))))))) ?_
 refine⟨_,Z,a,_,_,Z,sG _ _ (sS _ _ z.ob),Z,_,Z,a,F,G,b,ay,rd,n,Z,sF,sG,Hu,up,hn,λh=>kE (by rw[h];rfl),λit rd1 h1 H1 IF up1=>?_⟩;rw[h1] at kE kQ;simp only[m5] at kE kQ;obtain⟨L,hL⟩:∃L,L=iu it:=⟨_,Z⟩;rw[<-hL] at kE kQ|-
 have auZ:L<64:=by
  obtain⟨m,Yq⟩:∃m,rd.models[n]? =some m:=⟨_,aD hn⟩;have:=(Ft up.ok.ml Yq (rd.states.getD rd.group.length 0%32768) (nh _ (by decide)));rw[hL,next_item h1,this.1];exact(Ti (up.ok.ml m (az Yq)) (nh _ (by decide))).1
 refine⟨_,Z,_,_,Z,Z,⟨by lia,by lia,by decide⟩,?_⟩;have e0:V.int (1*2^(L:Int).toNat)=V.int ((2^L:Nat):Int):=by
  show V.int (1*2^((L:Int)).toNat)=_;rw[bF,pM];simp
 rw[e0];refine⟨λq σ H'=>∃(d v:Nat) (w9:cD) (y:Option V),σ=[some (.ref a),some (.int n),some (.int L),some (.int v),some (.int d),y]/\q=L-d/\1<=v/\fz G H H'/\JW t F (grow G H H') b ay w9 a/\pw (2^L) 0 L rd1=pw v d L w9,⟨L,0,2^L,rd1,none,Z,Z,FJ,IF,up1,Z⟩,?_⟩;rintro q σ H' ⟨d,v,w9,y,rfl,rfl,hv1,kp,upc,ew⟩;refine⟨_,Z,_,Z,_,_,Z,Z,_,Z,?_⟩;by_cases hd:d<L
 .rw[ag (by lia)];rw[NF hd (by lia)] at ew;obtain⟨pc,hpc⟩:∃pc,pc=min 15 (L-d):=⟨_,Z⟩;rw[<-hpc] at ew;have KG:1<=pc/\pc<=15/\pc<=L-d:=hpc ▸ pB hd;refine eZ ⟨λgz H2=>∃(v':Nat) (acz:cD) (y':Option V),gz=[some (.ref a),some (.int n),some (.int L),some (.int v'),some (.int ((d+pc:Nat):Int)),y']/\1<=v'/\fz G H H2/\JW t F (grow G H H2) b ay acz a/\pw (2^L) 0 L rd1=pw v' (d+pc) L acz,λgz H2 ⟨v',acz,y',e1,e2,e3,e4,e5⟩=>⟨L-(d+pc),pA hd KG.1,d+pc,v',acz,y',e1,Z,e2,e3,e4,e5⟩,?_⟩;refine⟨_,Z,_,Z,_,_,Z,Z,_,_,Z,?_⟩;have epc:(if(L:Int)-(d:Int)<15 then(L:Int)-(d:Int) else 15)=((pc:Nat):Int):=by rw[<-mr (cG hd),hpc];exact ajX _
  rw[epc];obtain⟨pl2,pd2,⟨Sh2,Gb2,dx2,Xv,ba2,sa2,Sv,WX,z2⟩,_⟩:=id upc.ex;refine⟨_,Z,_,Z,a,_,_,Z,cg _ _ (Sv _ _ z2.ob),Z,_,Z,a,F,grow G H H',b,ay,w9,pc,Z,kp.other sF Hu,cg,gW sF Hu,upc,KG.1,KG.2.1,λh=>?_,λit2 rd2 h2 H2 Bk Qx=>?_⟩
  .rw[h] at ew;exact(kE ew).mono kp
  .rw[h2] at ew;simp only[m5] at ew;have hvl:iu it2<32768:=by
    rw[next_item h2];have:=AI (ms:=w9.models) (k:=w9.states.getD w9.group.length 0%32768) KG.1 KG.2.1 (nh _ (by decide));rw[this.1];show w9.states.getD w9.group.length 0%32768 / 2^(15-pc)<32768;exact jJ (ahk _ _) (nh _ (by decide))
   refine⟨_,Z,_,_,Z,Z,⟨by lia,by lia,by lia⟩,_,_,Z,Z,?_⟩;refine⟨_,Z,_,Z,_,_,Z,Z,v+iu it2*2^d,rd2,some (.int pc),?_,by lia,kp.trans Bk,Qx.same (aC.refl _) (oh kp),ew⟩;have e6:(v:Int)+((iu it2:Nat):Int)*2^((d:Int)).toNat=((v+iu it2*2^d:Nat):Int):=by
    rw[bF,ft,gZ];simp
   rw[<-e6];rfl
 .rw[ae (by lia)];rw[Qj (iY:=v) (done:=d) (cY:=L) (r:=w9) (by lia)] at ew;refine fK ⟨_,Z,_,_,Z,Z,?_⟩;have e7:V.int ((v:Int)-1)=V.int ((v-1:Nat):Int):=congrArg V.int (by lia);have:=kQ _ _ ew H' kp upc;rw[<-e7] at this;exact this
inductive acH (t:fP)(vs:b_)(H:Hp)(Q:VK)(E:XK):Prop|i(a:ke)(F G:Hp)(b:cb)(ay:Nat)(rd:cD)(_:vs=[.ref a])(_:aC F H)(_:aC G H)(_:JW t F G b ay rd a)(_:∀H',aC H H'->Q (.bl rd.ended) H')
def Bp:T.oR.Ok P w mg lQ jh 1 (acH t):=by
 refine T.oR.ok λnd H vs Q E hr h=>?_;obtain⟨a,F,G,b,ay,rd,rfl,sF,sG,up,k⟩:=h;obtain⟨pl,pd,⟨Sh,Gb,dx,gX,ba,sa,sS,sB,z⟩,TV,hw,ou,Lw⟩:=up.ex;have HA:=sG _ _ (sS _ _ z.ob);have HB:=sF _ _ z.hb;have HS:=sG _ _ (sS _ _ z.hs);have hl:=z.hl;have Ym:=up.T_;refine .i (aH (bz (Y_ (pcm lp (cQ (pv 0)) (Bt T.jc (ak (cQ (pv 0)) ax))) (Ze (gP (Q1 rfl) rfl T.YT boot_all (ak (GW [("x",1)] nd (fB (cQ (pv 0))) (mv 1 nd) (pcm lp (pv 1) (fF T.qt))) ax)))))) ?_;refine⟨_,Z,Z,HA,T.bZ,Z,Z,_,Z,Z,HA,T.bZ,Z,Z,gX,_,Z,i3 HB,Z,_,Z,?_⟩;rw[og,aB,eA];by_cases he:pl=b.length
 .rw[ag (by lia)];have hwe:rd.words=[]:=by rw[hw];exact LN he
  refine eZ ⟨_,Z,Z,HA,T.bZ,Z,Z,sa,Z,⟨_,i2 HS⟩,λD hD=>?_⟩;refine nu (ys:=(rd.states.map λx=>(x==65536)).map V.bl) hD (by rw[aE];simp;lia) (i2 HS) (by simp) (λi x y H2 Q2 hx hy sm k2=>?_) λH' h1 h2=>?_
  .rw[aw,aw] at hx hy;cases hq:rd.states[i]? with
   |none=>rw[hq] at hx;cases hx
   |some u=>
    rw[hq] at hx hy;cases hx;cases hy;refine⟨Z,_,Z,Z,?_⟩;have e:decide (V.int (u:Int)=V.int 65536)=(u==65536):=by
     rw[og];by_cases h:u=65536
     .subst h;rfl
     .rw[ae (by lia)];symm;simpa using h
    have this:Q2 (V.bl (u==65536)) H2:=k2 H2 (aC.refl _);rw[<-e] at this;exact this
  .refine⟨D,_,Z,i2 h1,?_⟩;have e:(rd.states.map λx=>(x==65536)).all id=rd.ended:=by
    unfold K7;rw[hwe,alb];rfl
   rw[e];exact k H' h2
 .rw[ae (by lia)];have e:rd.ended=false:=by
   unfold K7;rw[hw,Jp (by lia) Lw];rfl
  have:=k H (aC.refl _);rw[e] at this;exact fK this
def rm (b:cb)(p ay:Nat):ig:=(aJ ay).map λ(i:Nat)=>rB (((b.drop p).drop (4*i)).take 4)
inductive akI (t:fP)(vs:b_)(H:Hp)(Q:VK)(E:XK):Prop|i(x dx gX:ke)(b:cb)(p ay:Nat)(_:vs=[.ref x,.ref gX,.int p,.int ay])(_:H x=some (.ins t.cx dx []))(_:H gX=some (iL (br b)))(_:p<=b.length)(_:b.length<=10000)(_:1<=ay)(_:ay<=16)(_:∀q,eX ay (b.drop p)=some q->GF t E [x] H 3 ((p+q:Nat):Int))(_:eX ay (b.drop p)=none->∀H' ba sa Gb,dE [x] H H'->H' x=some (UpO t dx gX ba sa (p+4*ay))->H' sa=some (iL (nI (rm b p ay)))->H sa=none->aC Gb (nw H H')->Gb sa=none->(∀r,r<=64->NX t Gb ay (aM r (gc 64 6)) 0 [] ba)->Q .gS H')
def Eg:T.qS.Ok P w mg lQ (tO P w t.bI) 4 (akI t):=by
 refine T.qS.xE λnd H vs Q E hr h=>?_;obtain⟨x,dx,gX,b,p,ay,rfl,hx,hb,hp,hbl,l1,T_,kE,kQ⟩:=h;refine .i (ao (gi (rf Fh (aX gw (Bt T.jc (ak (pv 1) ax)) (pv 2)) (aX fQ aK (pv 3))) (aH (jB (ns:=["kind","place"]) aY rfl T.hZ (ia T) (hr.mono (by decide)).h T.dq.b rfl rfl T.gk (ak aK (ak (Bt T.jc (ak (pv 1) ax)) ax)) (by decide))) cT)
   (ao (ki (pv 0) (pv 1))
   (ao (ki (pv 0) (J7 T.W8 T.TK T.tP (CN T) hr bG (ak (pv 3) ax)))
   (ao (ki (pv 0) (GW [("i",4)] nd (jA rfl T.iA (ak (pv 3) ax)) (mv 4 nd) (kq T.qA (wA T) hr bG (ak (pv 1) (ak (aX dz (pv 2) (aX fQ aK (pv 4))) (ak aK ax))))))
   (ao (gY PassesOwn.leaving rfl (GV rfl T.tX (ak (cQ (pv 0)) ax)) (yK rfl (fm (mv 4 nd) (fm (mv 5 nd) pj)))
    (aH (gi (rf Fh (pv 5) (fF T.qt)) (aH (jB (ns:=["kind","place"]) aY rfl T.hZ (ia T) (hr.mono (by decide)).h T.dq.b rfl rfl T.gk (ak aK (ak (aX dz (pv 2) (aX fQ aK (pv 4))) ax)) (by decide))) cT)))
   (ao (gi (rf lp (aX pY (aX gw (Bt T.jc (ak (pv 1) ax)) (pv 2)) aK) aK) (aH (jB (ns:=["kind","place"]) aY rfl T.hZ (ia T) (hr.mono (by decide)).h T.dq.b rfl rfl T.gk (ak aK (ak (aX gw (Bt T.jc (ak (pv 1) ax)) aK) ax)) (by decide))) cT)
   (aH (ki (pv 0) (aX dz (pv 2) (aX fQ aK (pv 3))))))))))) ?_
 have bl:((br b).map V.int).length=b.length:=by rw[aB,eA]
 have dl:(b.drop p).length=b.length-p:=dY ..;have nbx:gX≠x:=hG hb hx (by intro z;cases z);refine⟨_,Z,gX,_,Z,i3 hb,_,Z,_,_,Z,Z,_,Z,_,_,Z,Z,.inl ⟨by decide,by decide⟩,_,_,Z,Z,_,Z,?_⟩;rw[bl];have e0:(b.length:Int)-(p:Int)=((b.length-p:Nat):Int):=(mr hp).symm;rw[e0];by_cases h4:b.length-p<4*ay
 .rw[ag (show((b.length-p:Nat):Int)<4*(ay:Int) from UN.mpr h4)];refine eZ ⟨_,Z,gX,_,Z,i3 hb,?_⟩;rw[bl];have:=kE (b.length-p) (by unfold eX;rw[dl,aj h4]);rw[i7 hp] at this;exact this.raise
 .rw[ae (show¬((b.length-p:Nat):Int)<4*(ay:Int) from FC.mpr (um.mpr (i4.mp h4)))];refine fK ⟨_,Z,_,Z,Z,hx,T.bZ,Z,Z,tI [("block",.ref gX)],?_⟩;have c1:dE [x] H (upd H x (.ins t.cx dx [("block",.ref gX)])):=dE.refl.d_ (by simp);have x1:upd H x (.ins t.cx dx [("block",.ref gX)]) x=some (.ins t.cx dx [("block",.ref gX)]):=aq;generalize upd H x (.ins t.cx dx [("block",.ref gX)])=H1 at c1 x1|-
  refine⟨_,Z,λba db n1 n2 n3=>?_⟩;have sm:aC H1 (upd (upd H1 db (.own ba)) ba (.ins t.i9 db [])):=gA n1 n2;refine⟨ba,db,ay,Z,aq,λH2 da wa c2 BJ hd hw nd nw1=>⟨Z,?_⟩⟩;have s12:aC H1 H2:=dE.back sm c2 (by intro y hy;rw[show y=ba from by simpa using hy];exact n1);have bk:∀r,r<=64->NX t (nw H1 H2) ay (aM r (gc 64 6)) 0 [] ba:=λr hr=>⟨db,da,wa,[],[],aT.mpr ⟨n1,BJ⟩,aT.mpr ⟨sm.free nd,hd⟩,aT.mpr ⟨sm.free nw1,hw⟩,BE,(λk hk=>by simp at hk),.nil,(λp hp=>by simp at hp),AX r,by simpa using hr,(λn m h _=>(fc.mp (az h)).2),(λn m v _ h=>by cases h),(λn n' v h=>by cases h)⟩;refine⟨_,Z,Z,s12 _ _ x1,T.bZ,Z,Z,tI [("block",.ref gX),("bank",.ref ba)],?_⟩;have c3:dE [x] H (upd H2 x (.ins t.cx dx [("block",.ref gX),("bank",.ref ba)])):=(c1.trans s12.chg).d_ (by simp);have x3:upd H2 x (.ins t.cx dx [("block",.ref gX),("bank",.ref ba)]) x=some (.ins t.cx dx [("block",.ref gX),("bank",.ref ba)]):=aq;have nS:aC (nw H1 H2) (nw H (upd H2 x (.ins t.cx dx [("block",.ref gX),("bank",.ref ba)]))):=λy o e=>by
   obtain⟨z1,z2⟩:=aT.mp e;exact aT.mpr ⟨fU c1 x1 z1,by rw[aF (b8 x1 z1)];exact z2⟩
  generalize upd H2 x (.ins t.cx dx [("block",.ref gX),("bank",.ref ba)])=H3 at c3 x3 nS|-
  refine⟨_,Z,_,Z,by lia,by lia,λsa nsa=>?_⟩;refine u_ (ys:=(nI (rm b p ay)).map V.int) nsa (by rw[aE];simp[rm];lia) (by simp[rm]) (λi y H4 Q4 hy Er k4=>?_) λH4 e4 s4=>?_
  .have hi:i<ay:=by have:=(aN.mp hy).1;simpa[rm] using this
   have ey:y=V.int ((rB (((b.drop p).drop (4*i)).take 4):Nat):Int):=by
    unfold rm at hy;rw[aw,aw,aw,bD hi] at hy;exact(bh hy).symm
   subst ey;have hi4:p+4*i+4<=b.length:=by rw[ale];exact Ww hp (bt (oF 4 hi) (i4.mp h4))
   refine⟨Z,_,Z,_,Z,_,Z,_,_,Z,Z,.inl ⟨by decide,by decide⟩,_,_,Z,Z,gX,br b,p+4*i,4,?_,i2 (Er _ _ (c3.one hb nbx)),by decide,by decide,by rw[eA];exact hi4,λ_ z hz=>xU b z hz,?_⟩
   .show[V.ref gX,V.int ((p:Int)+4*(0+(i:Int))),V.int 4]=[V.ref gX,V.int ((p+4*i:Nat):Int),V.int ((4:Nat):Int)];rw[show(p:Int)+4*(0+(i:Int))=((p+4*i:Nat):Int) by lia];rfl
   .rw[qG b (p+4*i) 3 hi4,<-uL];exact k4 _ (aC.refl _)
  .have akf:H sa=none:=fU c3 x3 nsa;have nsx:sa≠x:=b8 hx akf;refine⟨_,Z,Z,s4 _ _ x3,T.bZ,Z,Z,tI [("block",.ref gX),("bank",.ref ba),("states",.ref sa)],?_⟩;have c5:dE [x] H (upd H4 x (.ins t.cx dx [("block",.ref gX),("bank",.ref ba),("states",.ref sa)])):=(c3.trans s4.chg).d_ (by simp);have x5:upd H4 x (.ins t.cx dx [("block",.ref gX),("bank",.ref ba),("states",.ref sa)]) x=some (.ins t.cx dx [("block",.ref gX),("bank",.ref ba),("states",.ref sa)]):=aq;have e5:upd H4 x (.ins t.cx dx [("block",.ref gX),("bank",.ref ba),("states",.ref sa)]) sa=some (iL (nI (rm b p ay))):=by rw[aF nsx];exact e4
   have nS5:aC (nw H1 H2) (nw H (upd H4 x (.ins t.cx dx [("block",.ref gX),("bank",.ref ba),("states",.ref sa)]))):=λy o e=>by
    obtain⟨z1,z2⟩:=aT.mp (nS _ _ e);exact aT.mpr ⟨z1,by rw[aF (b8 hx z1)];exact s4 _ _ z2⟩
   have gsa:nw H1 H2 sa=none:=by
    cases e:nw H1 H2 sa with
    |none=>rfl
    |some o=>rw[(aT.mp (nS _ _ e)).2] at nsa;cases nsa
   generalize upd H4 x (.ins t.cx dx [("block",.ref gX),("bank",.ref ba),("states",.ref sa)])=H5 at c5 x5 e5 nS5|-
   have sl:(rm b p ay).length=ay:=by simp[rm]
   refine⟨_,Z,Z,x5,T.bZ,Z,Z,sa,_,Z,i2 e5,?_⟩;refine Cw (xs:=(nI (rm b p ay)).map V.int) (λi σ H'=>X2 λy4 y5=>C3 (σ=[some (.ref x),some (.ref gX),some (.int p),some (.int ay),y4,y5]) (aC H5 H') (∀j,j<i->¬(rm b p ay).getD j 0<65536)) ⟨none,none,Z,aC.refl _,λj hj=>by lia⟩ ?_ ?_ ?_
   .rintro i σ H' _ ⟨_,_,_,sm,_⟩;exact i2 (sm _ _ e5)
   .rintro i σ H' v Tt hi ⟨y4,y5,rfl,NK,oH⟩ hv nT;have Ir:i<ay:=by simpa[sl] using hi
    have ev:v=V.int (((rm b p ay).getD i 0:Nat):Int):=by
     rw[aw,aw,aD (by lia)] at hv;rw[aG,aD (by lia)];exact(bh hv).symm
    subst ev;refine⟨Tt,_,Z,i2 aq,Z,_,_,Z,_,_,Z,Z,_,Z,_,_,Z,Z,_,Z,?_⟩;have Yg:=uq ((rm b p ay).getD i 0) 65536;cases Yg with
    |inl lu=>
     rw[ag (by lia)];refine eZ ⟨_,Z,_,Z,_,_,Z,Z,.inl ⟨by decide,by decide⟩,_,_,Z,Z,?_⟩;have hf:eX ay (b.drop p)=some (4*i):=by
      unfold eX;rw[ah (by lia),Mx.find_some (p:=i) Ir]
      .have:rB (((b.drop p).drop (4*i)).take 4)=(rm b p ay).getD i 0:=by
        unfold rm;rw[aG,aw,bD Ir];rfl
       rw[this];exact ag lu
      .intro j hj;have:rB (((b.drop p).drop (4*j)).take 4)=(rm b p ay).getD j 0:=by
        unfold rm;rw[aG,aw,bD (by lia)];rfl
       rw[this];exact ae (oH j hj)
     exact((kE (4*i) hf).mono (c5.trans (NK.trans (aC.upd nT)).chg)).raise
    |inr lu=>
     rw[ae (by lia)];refine fK ⟨_,_,Z,NK.trans (aC.upd nT),λj hj=>?_⟩;by_cases e:j=i
     .subst e;lia
     .exact oH j (by lia)
   .rintro σ H' ⟨y4,y5,rfl,NK,oH⟩;have Iw:eX ay (b.drop p)=if(b.length-p)%2=1 then some (b.length-p-1) else none:=by
     unfold eX;rw[ah (dl ▸ h4),Mx.find_none,dl];intro j hj;have:rB (((b.drop p).drop (4*j)).take 4)=(rm b p ay).getD j 0:=by
      unfold rm;rw[aG,aw,bD hj];rfl
     rw[this];exact ae (oH j (by simpa[sl] using hj))
    have c6:dE [x] H H':=c5.trans NK.chg;refine⟨_,Z,gX,_,Z,i3 (c6.one hb nbx),_,Z,_,_,Z,Z,_,_,Z,Z,(by show(0:Int)<2;decide),Z,_,Z,?_⟩;rw[og,bl,e0];by_cases ho:(b.length-p)%2=1
    .rw[ag (show((b.length-p:Nat):Int)%2=1 from congrArg Int.ofNat ho)];rw[aj ho] at Iw;refine eZ ⟨_,Z,gX,_,Z,i3 (c6.one hb nbx),_,_,Z,Z,?_⟩;rw[bl];have:=kE _ Iw;have e1:((p+(b.length-p-1):Nat):Int)=(b.length:Int)-1:=by rw[<-Nat.add_sub_assoc (lN λe=>by rw[e] at ho;cases ho),i7 hp];exact mr (bt (lN λe=>by rw[e] at ho;cases ho) (lO _ p))
     rw[e1] at this;exact(this.mono c6).raise
    .rw[ae (show¬((b.length-p:Nat):Int)%2=1 fromλc=>ho (Int.ofNat.inj c))];rw[ah ho] at Iw;refine fK ⟨_,Z,_,Z,_,_,Z,Z,.inl ⟨by decide,by decide⟩,_,_,Z,Z,_,Z,Z,NK _ _ x5,T.bZ,Z,Z,tI [("block",.ref gX),("bank",.ref ba),("states",.ref sa),("place",.int ((p:Int)+4*(ay:Int)))],?_⟩;refine kQ Iw _ ba sa (nw H1 H2) (c6.d_ (by simp)) aq (by rw[aF nsx];exact NK _ _ e5) akf (λy o e=>?_) gsa bk;obtain⟨z1,z2⟩:=aT.mp (nS5 _ _ e);exact aT.mpr ⟨z1,by rw[aF (b8 hx z1)];exact NK _ _ z2⟩
abbrev HdO (t:fP)(dx:ke)(h:rC)(wv:V):HO:=.ins t.uw dx [("key",.int h.key),("rows",.int h.rows),("bits",.int h.bits),("cut",.int h.cut),("lanes",.int h.lanes),("times",.int h.times),("check",.int h.check),("way",wv),("end",.int h.fin)]
def HH (l:ig):Except ahh (ig×cD)->Except ahh (ig×cD)
 |.error e=>.error e
 |.ok (m,v)=>.ok (l++m,v)
inductive acJ (t:fP)(vs:b_)(H:Hp)(Q:VK)(E:XK):Prop|i(ua ha dh:ke)(h:rC)(wv:V)(F G:Hp)(b:cb)(ay:Nat)(rd:cD)(md R r n k:Nat)(_:vs=[.ref ua,.int md,.ref ha,.int r,.int ((16*k:Nat):Int)])(_:aC F H)(_:aC G H)(_:Apart F G)(_:JW t F G b ay rd ua)(_:md<rd.models.length)(_:F ha=some (HdO t dh h wv))(_:h.times=(n:Int))(_:h.rows=(R:Int))(_:16*k<=n)(_:n<=64)(_:R<=4)(_:r<=4)(_:Mx.readChunk md R r (nV n k) rd=.error .short->Ma t E G H 3 b.length)(_:∀q,Mx.readChunk md R r (nV n k) rd=.error (.large q)->Ma t E G H 4 (q:Nat))(_:∀l v,Mx.readChunk md R r (nV n k) rd=.ok (l,v)->∀H' p,fz G H H'->JW t F (grow G H H') b ay v ua->H p=none->H' p=some (iL (nI l))->Q (.ref p) H')
def EZ {N8:cD}{wn:Ta}(h:rd.next wn=some (it,N8)):N8.models.length=rd.models.length:=by
 have hp:∀(it:oX) y ws,(Mx.pass rd it y ws).models.length=rd.models.length:=λit y ws=>by
  show(if(rd.group++[it]).length=rd.lanes then qY rd.models (rd.group++[it]) else rd.models).length=_;split
  .exact qx _ _
  .rfl
 rw[Ni] at h;simp only at h;split at h
 .cases h;exact hp _ _ _
 .split at h
  .cases h
  .cases h;exact hp _ _ _
theorem C0:∀(f cY:Nat) (rd N8:cD) (v:Nat),mZ f cY rd=some (v,N8)->N8.models.length=rd.models.length
 |0,cY,rd,N8,v,h=>by cases h;rfl
 |f+1,cY,rd,N8,v,h=>by
  unfold mZ at h;split at h
  .cases h;rfl
  .simp only at h;cases h1:rd.next (.plain (min 15 cY)) with
   |none=>rw[h1] at h;cases h
   |some x=>
    rw[h1] at h;simp only[m5] at h;cases h2:mZ f (cY-min 15 cY) x.2 with
    |none=>rw[h2] at h;cases h
    |some y=>
     rw[h2] at h;cases h;rw[C0 f _ _ _ _ (show mZ f (cY-min 15 cY) x.2=some (y.1,y.2) from h2)];exact EZ (it:=x.1) h1
def IX {N8:cD}{v:Nat}(h:pN rd n=some (v,N8)):N8.models.length=rd.models.length:=by
 unfold pN at h;cases h1:rd.next (.sym n) with
 |none=>rw[h1] at h;cases h
 |some x=>
  rw[h1] at h;simp only[m5] at h;cases h2:mZ 8 (iu x.1) x.2 with
  |none=>rw[h2] at h;cases h
  |some y=>
   rw[h2] at h;cases h;rw[C0 _ _ _ _ _ (show mZ 8 (iu x.1) x.2=some (y.1,y.2) from h2)];exact EZ (it:=x.1) h1
def Je:T.uk.Ok P w mg lQ (tO P w t.bI) 8 (acJ t):=by
 refine T.uk.xE λnd H vs Q E hr h=>?_;obtain⟨ua,ha,dh,h,wv,F,G,b,ay,rd,md,R,r,n,k,rfl,sF,sG,Hu,up,hmd,hF,ht,hR,hkn,hn,hR4,hr4,kS,kL,kQ⟩:=h;refine .i (ao (fL 5 nd (eE ax))
   (ao (gY PassesOwn.leaving rfl (zq rfl T.iA (ak (pv 4) (ak (gP (ot rfl) rfl T.EY AJ (ak (aX dz (pv 4) (fF T.GR)) (ak (cQ (pv 2)) ax))) ax))) (mv 6 nd)
    (ao (fL 7 nd (qO (pv 0) T.bZ T.kJ (vh T) hr aY.passes (ak (pv 1) ax)))
   (ao (gi (rf Ji (pv 7) (fF T.M8)) (aH (jB (ns:=["kind","place"]) aY rfl T.hZ (ia T) (hr.mono (by decide)).h T.dq.b rfl rfl T.gk (ak aK (ak (aX dz (aX fQ (pv 6) (cQ (pv 2))) (pv 3)) ax)) (by decide))) cT)
   (aH (cS (pap (pv 5) (ak (pv 7) ax)))))))
   (aH (bz (pv 5))))) ?_
 refine⟨by rw[aE];simp,λC nC=>?_⟩;have s0:aC H (upd H C (.lst [])):=aC.upd nC;have GC:G C=none:=sG.free nC;obtain⟨ts,hts⟩:∃ts,ts=nV n k:=⟨_,Z⟩;have tl:ts.length=min 16 (n-16*k):=by rw[hts];simp[nV]
 rw[<-hts] at kS kL kQ;refine⟨_,Z,_,Z,_,_,Z,Z,_,Z,Z,s0 _ _ (sF _ _ hF),T.dS,Z,Z,_,_,Z,_,_,Z,⟨by lia,by lia,?_,?_⟩,?_⟩
 .rw[ht];split<;>lia
 .rw[ht];split<;>lia
 rw[ht,aph hkn,<-tl];have t16:ts.length<=16:=tl ▸ fw ..;refine si (λi σ H'=>X4 λ(y6:Option V) (y7:Option V) (l:ig) (w9:cD)=>C7 (σ=[some (.ref ua),some (.int md),some (.ref ha),some (.int r),some (.int ((16*k:Nat):Int)),some (.ref C),y6,y7]) (fz G H H') (∃G',aC G' H'/\aC G' (grow G H H')/\G' C=none/\JW t F G' b ay w9 ua) (w9.models.length=rd.models.length) (l.length=i) (H' C=some (iL (nI l))) (Mx.readChunk md R r ts rd=HH l (Mx.readChunk md R r (ts.drop i) w9)))
  ⟨none,none,[],rd,Z,fz.same s0,⟨G,sG.trans s0,λy o e=>bC.mpr ⟨.inl (by rw[e];rfl),s0 _ _ (sG _ _ e)⟩,GC,up⟩,Z,Z,aq,?_⟩ ?_ ?_
 .rw[iD];cases Mx.readChunk md R r ts rd with
  |error e=>rfl
  |ok z=>rfl
 .rintro i σ H' hi ⟨y6,y7,l,w9,rfl,kp,⟨G',sG',sg',gC',upc⟩,Ly,hl,eC,ew⟩;obtain⟨pl2,pd2,⟨Sh2,Gb2,dx2,Xv,ba2,sa2,Sv,WX,z2⟩,_⟩:=id upc.ex;have FH':aC F H':=kp.other sF Hu;have aix:Apart F G':=Bs.Apart.le (gW sF Hu) sg';have eti:ts[i]? =some (16*k+i):=by
   rw[hts];unfold nV;rw[aw,bD (by lia)];rfl
  rw[drop_cons eti,tq] at ew;refine⟨_,Z,ua,_,_,Z,sG' _ _ (Sv _ _ z2.ob),Z,_,Z,ua,F,G',b,ay,w9,md,Z,FH',sG',aix,upc,by rw[Ly];exact hmd,λhno=>?_,λv rd2 hso H2 Bk Qx=>?_⟩
  .rw[hno] at ew;exact((kS ew).mono kp).sub sg'
  .rw[hso] at ew;simp only at ew;refine⟨_,Z,_,_,Z,Z,_,Z,?_⟩;have eC2:=Bk C _ eC gC';have Yg:=uq Oe v;have hM:Oe=35184372088832:=by decide
   cases Yg with
   |inl lu=>
    rw[aj lu] at ew;rw[ag (by lia)];refine eZ ⟨_,Z,_,Z,Z,Bk.other FH' aix _ _ hF,T.dS,Z,Z,_,_,Z,Z,.inl ⟨by lia,by lia⟩,_,Z,_,_,Z,Z,?_⟩;have e1:V.int (((((16*k:Nat):Int)+(i:Int))*h.rows)+(r:Int))=V.int (((16*k+i)*R+r:Nat):Int):=by
     show V.int ((((16*k:Nat):Int)+(i:Int))*h.rows+(r:Int))=_;rw[hR];simp
    rw[e1];exact((((kL _ ew).mono kp).sub sg').mono Bk).raise
   |inr lu=>
    rw[ah (i4.mpr lu)] at ew;rw[ae (by lia)];refine fK ⟨_,Z,L0 eC2,_,Z,C,_,_,Z,Z,eC2,by rw[aE];simp;lia,?_⟩;have gC2:grow G' H' H2 C=none:=cU eC gC';refine⟨_,_,l++[v],rd2,Z,λy o e g=>?_,⟨grow G' H' H2,λy o e=>?_,λy o e=>?_,gC2,Qx⟩,by rw[IX hso];exact Ly,by simp[hl],by rw[aq];simp[nI],?_⟩
    .rw[aF (aI e nC)];exact Bk y o (kp y o e g) (sg'.free (cU e g))
    .rw[aF (aI e gC2)];exact cg _ _ e
    .obtain⟨q1,q2⟩:=bC.mp e;refine bC.mpr ⟨?_,by rw[aF (aI e gC2)];exact q2⟩;rcases q1 with q|q
     .obtain⟨u,hu⟩:=cZ.mp q;exact(bC.mp (sg' _ _ hu)).1
     .exact kp.dom q
    .rw[ew];cases Mx.readChunk md R r (ts.drop (i+1)) rd2 with
     |error e=>rfl
     |ok z=>simp[HH]
 .rintro σ H' ⟨y6,y7,l,w9,rfl,kp,⟨G',sG',sg',gC',upc⟩,Ly,hl,eC,ew⟩;rw[rq] at ew;have ew:Mx.readChunk md R r ts rd=.ok (l++[],w9):=ew;rw[fX] at ew;exact⟨_,Z,kQ l w9 ew H' C kp (upc.same (aC.refl _) sg') nC eC⟩
def qw (ay R n:Nat)(b:cb)(p:Nat):Except (Nat×Nat) (List (ig)):=match eX ay (b.drop p) with
 |some x=>.error (3,p+x)
 |none=>match hU R (n9 R n) ⟨ay,rm b p ay,fu (b.drop (p+4*ay)),fO R,[]⟩ (aM R []) with
  |.error .short=>.error (3,b.length)
  |.error (.large x)=>.error (4,x)
  |.ok (zs,u)=>if u.ended=false then .error (5,b.length) else .ok zs
def Ie (h:eX ay b=none):4*ay<=b.length/\b.length%2=0/\(∀i,i<ay->¬rB ((b.drop (4*i)).take 4)<ald):=by
 unfold eX at h;split at h
 .cases h
 .rename_i h1;split at h
  .cases h
  .rename_i h2;split at h
   .cases h
   .rename_i h3;refine⟨by lia,by lia,λi hi q=>?_⟩;have:=EA.mp h2 i (cJ.mpr hi);simp[q] at this
def VM {ms:aeR}(h:eX ay (b.drop p)=none):aeS ay ms (b.drop p)=some ⟨ay,rm b p ay,fu (b.drop (p+4*ay)),ms,[]⟩:=by
 obtain⟨h1,h2,h3⟩:=Ie h;unfold aeS;simp only;rw[aj,uL]
 .rfl
 .refine⟨h1,h2,jq.mpr λx hx=>?_⟩;obtain⟨i,hi,rfl⟩:=bj.mp hx;exact ag (i4.mp (h3 i (cJ.mp hi)))
def LR (R q:Nat):(aM R ([]:ig)).getD q []=[]:=by
 rw[aG,pH];split<;>rfl
theorem zp {α β:Type}{F:α->β->Prop}:∀{l:List α} {m:List β},l.length=m.length->(∀(i:Nat) x v,l[i]? =some x->m[i]? =some v->F x v)->Paired F l m
 |[],[],_,_=>.nil
 |a::l,b::m,hl,h=>.cons (h 0 a b rfl rfl) (zp (by simpa using hl) λi x v h1 h2=>h (i+1) x v (by simpa using h1) (by simpa using h2))
def afS (l:ig):(nI l).sum=((l.sum:Nat):Int):=by
 induction l with
 |nil=>rfl
 |cons a r ih=>simp only[nI,cy,DH] at ih|-;rw[ih];simp
def Ep (R n k r:Nat):List (Nat×Nat):=((aJ R).drop r).flatMap (λq=>NN n k q)++((aJ ((n+15) / 16)).drop (k+1)).flatMap λq=>ZQ R n q
def So (R n:Nat)(h:0<(n+15) / 16):n9 R n=Ep R n 0 0:=by
 rw[ZR];unfold Ep;rw[iD,show(aJ ((n+15) / 16))=(aJ ((n+15) / 16)).drop 0 from rfl,vW h,cj];rfl
def Zp {k:Nat}(h:r<R):Ep R n k r=(nV n k).map (λt=>(r,t))++Ep R n k (r+1):=by
 unfold Ep;rw[vW h,cj,V5,cC]
def VT {k:Nat}(h:k+1<(n+15) / 16):Ep R n k R=Ep R n (k+1) 0:=by
 unfold Ep;rw[gJ (by simp),vW h,cj,iD];rfl
def Zo {k:Nat}(h:(n+15) / 16<=k+1):Ep R n k R=[]:=by
 unfold Ep;rw[gJ (by simp),gJ (by simpa using h)];rfl
theorem B5 {md:Nat}:∀{ts:ig} {rd v:cD} {l:ig},Mx.readChunk md R r ts rd=.ok (l,v)->v.models.length=rd.models.length
 |[],rd,v,l,h=>by cases h;rfl
 |a::ts,rd,v,l,h=>by
  rw[tq] at h;cases h1:pN rd md with
  |none=>rw[h1] at h;cases h
  |some x=>
   obtain⟨z,u⟩:=x;rw[h1] at h;simp only at h;split at h
   .cases h
   .cases h2:Mx.readChunk md R r ts u with
    |error e=>rw[h2] at h;cases h
    |ok y=>
     obtain⟨l',v'⟩:=y;rw[h2] at h;cases h;rw[B5 h2,IX h1]
def ES {zs:List (ig)}{k:Nat}{x:ig}(h:r≠q):iz (zs.set r x) k q=iz zs k q:=by
 unfold iz;split
 .rfl
 .rw[OD h]
inductive ZK (t:fP)(vs:b_)(H:Hp)(Q:VK)(E:XK):Prop|i(gX ha dh:ke)(h:rC)(wv:V)(b:cb)(R n ay p:Nat)(_:vs=[.ref gX,.ref ha])(_:H gX=some (iL (br b)))(_:H ha=some (HdO t dh h wv))(_:h.fin=p)(_:h.lanes=(ay:Int))(_:h.rows=(R:Int))(_:h.times=(n:Int))(_:p<=b.length)(_:b.length<=10000)(_:1<=ay)(_:ay<=16)(_:1<=R)(_:R<=4)(_:1<=n)(_:n<=64)(_:∀k q,qw ay R n b p=.error (k,q)->GF t E [] H (k:Nat) (q:Nat))(_:∀zs,qw ay R n b p=.ok zs->NLL H Q (zs.map λz=>z.map fZ))
def CT:T.pW.Ok P w mg lQ (tO P w t.bI) 9 (ZK t):=by
 refine T.pW.xE λnd H vs Q E hr h=>?_;obtain⟨gX,ha,dh,h,wv,b,R,n,ay,p,rfl,hb,hh,hp,hl,hR,hn,pb,bl,l1,T_,R1,R4,n1,CK,kE,kQ⟩:=h;refine .i (ao (fL 2 nd (J7 T.QO T.Pb T.qS (Eg T) hr aY.passes (ak (pv 0) (ak (cQ (pv 1)) (ak (cQ (pv 1)) ax)))))
   (ao (psc 3 [("r",6)] nd (jA rfl T.iA (ak (cQ (pv 1)) ax)) (mv 6 nd) (eE ax))
   (ao (fL 4 nd (aX Ek (eE (ak aK ax)) (cQ (pv 1))))
   (ao (gY PassesOwn.leaving rfl (zt rfl T.iA (ak aK (ak (cQ (pv 1)) (ak (fF T.GR) ax)))) (mv 5 nd)
    (aH (gY PassesOwn.leaving rfl (jA rfl T.iA (ak (cQ (pv 1)) ax)) (mv 6 nd)
    (ao (fL 7 nd (kq T.uk (Je T) hr aY.passes (ak (pv 2) (ak (kq T.oS (wZ T) hr bG (ak (pv 6) (ak (J6 (pv 4) (pv 6)) ax))) (ak (pv 1) (ak (pv 6) (ak (pv 5) ax)))))))
   (ao (cS (AD df dC dD mE (J6 (pv 3) (pv 6)) (ak (GW [("value",8)] nd (fB (pv 7)) (mv 8 nd) (kq T.DE (R7 T) hr bG (ak (pv 8) ax))) ax)))
   (aH (yN (gP (Mt rfl) rfl T.Uc aeE (ak (pv 7) ax)) (yJ (pv 4) (pv 6) set_list))))))))
   (ao (gi (Nz (Bu (Fj (pv 2) T.bZ T.oR (Bp T) hr bG))) (aH (jB (ns:=["kind","place"]) aY rfl T.hZ (ia T) (hr.mono (by decide)).h T.dq.b rfl rfl T.gk (ak aK (ak (Bt T.jc (ak (pv 0) ax)) ax)) (by decide))) cT)
   (aH (bz (pv 3)))))))) ?_
 refine⟨_,Z,_,Z,Z,hh,T.dS,Z,Z,_,Z,Z,hh,T.dS,Z,Z,λua du m1 m2 m3=>?_⟩;have sm:aC H (upd (upd H du (.own ua)) ua (.ins t.cx du [])):=gA m1 m2;refine⟨ua,du,gX,b,p,ay,by rw[hp,hl];rfl,aq,sm _ _ hb,pb,bl,l1,T_,λq hq=>?_,λIw H1 ba sa Gb c1 hx hs ns sb nb bk=>⟨Z,?_⟩⟩
 .have:=kE 3 (p+q) (by unfold qw;rw[hq]);intro H' dd fs z1 z2 z3 z4;exact this H' dd fs z1 z2 z3 (dE.back sm z4 (by intro y hy;rw[show y=ua from by simpa using hy];exact m1)).chg
 have sH1:aC H H1:=dE.back sm c1 (by intro y hy;rw[show y=ua from by simpa using hy];exact m1);obtain⟨rd0,afG⟩:∃rd0:cD,rd0=⟨ay,rm b p ay,fu (b.drop (p+4*ay)),fO R,[]⟩:=⟨_,Z⟩;have fn:=Ie Iw;rw[dY] at fn;have fnp:p+4*ay<=b.length:=Ww (cG (Nat.lt_of_sub_pos (a_ (Nat.mul_pos (by decide) l1) fn.1))) fn.1;have nsH:H sa=none:=sm.free ns;have gua:Gb ua=none:=by
  cases e:Gb ua with
  |none=>rfl
  |some o=>have:=(aT.mp (sb _ _ e)).1;rw[aq] at this;cases this
 have up0:JW t H (nw H H1) b ay rd0 ua:=by
  rw[afG];refine⟨⟨p+4*ay,0,⟨λy=>if y=ua\/y=sa then H1 y else none,Gb,du,gX,ba,sa,λy o e=>?_,sb.trans (o_ sm),λy=>?_,(aj (.inl rfl)).trans hx,(aj (.inr rfl)).trans hs,bk (16*R) (by lia),hb,by simp[rm],l1⟩,by simp,Z,fnp,by rw[BX];exact sb2 fn.2.1 (by simp[Nat.mul_mod])⟩,⟨Z,l1,by simp[rm],by show 0<ay;lia,AX _,λit JZ=>by simp at JZ⟩,T_,by show(aM (16*R) _).length<=64;simp;lia⟩
  .simp only at e;split at e
   .rename_i hq;refine aT.mpr ⟨?_,e⟩;rcases hq with rfl|rfl
    .exact m1
    .exact nsH
   .cases e
  .by_cases hq:y=ua\/y=sa
   .refine .inr ?_;rcases hq with rfl|rfl
    .exact gua
    .exact nb
   .exact .inl (ah hq)
 have ap0:Apart H (nw H H1):=λy=>by
  cases e:H y with
  |none=>exact .inl rfl
  |some o=>exact .inr (by unfold nw;rw[e];rfl)
 have hrr:qw ay R n b p=match hU R (n9 R n) rd0 (aM R []) with
   |.error .short=>.error (3,b.length)
   |.error (.large x)=>.error (4,x)
   |.ok (zs,u)=>if u.ended=false then .error (5,b.length) else .ok zs:=by
  unfold qw;rw[Iw,afG]
 refine⟨_,Z,Z,sH1 _ _ hh,T.dS,Z,Z,h.rows,Z,by rw[hR];lia,by rw[hR];lia,λRL nRL=>?_⟩;have eRn:h.rows.toNat=R:=by rw[hR];simp
 rw[eRn];refine LG (λi dM H'=>aC H1 H'/\∃ps:pG,dM=ps.map V.ref/\ps.Nodup/\∀q∈ps,H' q=some (.lst [])/\H1 q=none/\q≠RL) R (by rw[aE];lia) ⟨aC.upd nRL,[],Z,BE,λq hq=>by simp at hq⟩ ?_ λi dM H' Q2 hi iQ eD ⟨sm',ps,eps,nd,TX⟩ k2=>?_
 .rintro dM H2 iQ eRL ⟨s2,ps,eps,nd,TX⟩;subst eps;have pl:ps.length=R:=by simpa using iQ
  refine⟨by rw[aE];simp,λp1 np1=>?_⟩;have s3:aC H2 (upd H2 p1 (.lst [.int 0])):=aC.upd np1;refine⟨_,Z,Z,s3 _ _ (s2 _ _ (sH1 _ _ hh)),T.dS,Z,Z,p1,h.rows,_,Z,Z,aq,by rw[hR];lia,by rw[hR];lia,by rw[aE,hR];simp;lia,λTA nTA=>?_⟩;rw[hR,ND];have s4:=s3.trans (aC.upd (o:=.lst ((aM R (0:Int)).map V.int)) nTA);have eTA:upd (upd H2 p1 (.lst [.int 0])) TA (.lst ((aM R (0:Int)).map V.int)) TA=some (.lst ((aM R (0:Int)).map V.int)):=aq;have YS:H2 TA=none:=s3.free nTA;have tRL:TA≠RL:=b8 eRL YS;have tps:TA∉ps:=λq=>by rw[(TX _ q).1] at YS;cases YS
  have rps:RL∉ps:=λq=>(TX _ q).2.2 rfl;have XY:∀q∈ps,H q=none:=λq hq=>sH1.free (TX q hq).2.1;have afo:H RL=none:=sH1.free nRL;have freshT:H TA=none:=sH1.free (s2.free YS);generalize upd (upd H2 p1 (.lst [.int 0])) TA (.lst ((aM R (0:Int)).map V.int))=H4 at s4 eTA|-
  have sH4:aC H H4:=sH1.trans (s2.trans s4);refine⟨_,Z,Z,sH4 _ _ hh,T.dS,Z,Z,0,h.times,16,(n+15) / 16,Z,by rw[hn];exact akn CK,?_⟩;have af1:0<(n+15) / 16:=by lia
  refine wj (λkk σ Hc=>X6 λ(y5:Option V) (y6:Option V) (y7:Option V) (G:Hp) (w9:cD) (zs:List (ig))=>C15 (σ=[some (.ref gX),some (.ref ha),some (.ref ua),some (.ref RL),some (.ref TA),y5,y6,y7,none]) (aC H Hc) (aC G Hc) (Apart H G) (JW t H G b ay w9 ua) (w9.models.length=16*R) (G RL=none) (G TA=none) (∀q∈ps,G q=none) (Hc RL=some (.lst (ps.map V.ref))) (Hc TA=some (iL (nI ((aJ R).map λq=>iz zs kk q)))) (zs.length=R) (∀(q:Nat) a,ps[q]? =some a->Hc a=some (iL ((zs.getD q []).map fZ))) (∀q,q<R->(zs.getD q []).length=min (16*kk) n) (hU R (n9 R n) rd0 (aM R [])=hU R (if kk<(n+15) / 16 then Ep R n kk 0 else[]) w9 zs))
   ⟨none,none,none,nw H H1,rd0,aM R [],Z,sH4,iK.trans (s2.trans s4),ap0,up0,?_,iK.free nRL,iK.free (s2.free YS),λq hq=>iK.free (TX q hq).2.1,s4 _ _ eRL,?_,by simp,?_,?_,?_⟩ ?_ ?_
  .rw[afG];show(aM (16*R) _).length=_;simp
  .rw[eTA];have e5:((aJ R).map λr=>iz (aM R []) 0 r)=aM R 0:=by
    rw[UP];refine⟨by simp,λb hb=>?_⟩;obtain⟨r,_,rfl⟩:=bj.mp hb;rfl
   rw[e5];simp[nI]
  .intro q a hq;rw[s4 _ _ (TX a (az hq)).1];rw[LR];rfl
  .intro q hq;rw[LR];simp
  .rw[aj af1,So R n af1]
  .rintro kk σ Hc hkk ⟨y5,y6,y7,G,w9,zs,rfl,DD,sG,ap,up,Ly,gR,gT,gp,hRL,hTA,zl,hz,hzl,ew⟩;rw[aj hkk] at ew;refine⟨_,Z,Z,DD _ _ hh,T.dS,Z,Z,h.rows,Z,by rw[hR];lia,by rw[hR];lia,?_⟩;rw[eRn];refine si (λr σ Hd=>X5 λ(y6:Option V) (y7:Option V) (G:Hp) (w9:cD) (zs:List (ig))=>C15 (σ=[some (.ref gX),some (.ref ha),some (.ref ua),some (.ref RL),some (.ref TA),some (.int (0+(kk:Nat)*16)),y6,y7,none]) (aC H Hd) (aC G Hd) (Apart H G) (JW t H G b ay w9 ua) (w9.models.length=16*R) (G RL=none) (G TA=none) (∀q∈ps,G q=none) (Hd RL=some (.lst (ps.map V.ref))) (Hd TA=some (iL (nI ((aJ R).map λq=>if q<r then iz zs (kk+1) q else iz zs kk q)))) (zs.length=R) (∀(q:Nat) a,ps[q]? =some a->Hd a=some (iL ((zs.getD q []).map fZ))) (∀q,q<R->(zs.getD q []).length=if q<r then min (16*(kk+1)) n else 16*kk) (hU R (n9 R n) rd0 (aM R [])=hU R (Ep R n kk r) w9 zs))
    ⟨y6,y7,G,w9,zs,Z,DD,sG,ap,up,Ly,gR,gT,gp,hRL,by simpa using hTA,zl,hz,λq hq=>by rw[ah (Nat.not_lt_zero q),hzl q hq];exact eQ (cG (k16 hkk)),ew⟩ ?_ ?_
   .rintro r σ Hd WQ ⟨y6,y7,G,w9,zs,rfl,Uq,sG,ap,up,Ly,gR,gT,gp,hRL,hTA,zl,hz,hzl,ew⟩;have hzr:=hzl r WQ;rw[ah (bX r)] at hzr;rw[Zp WQ,vo (k:=kk) (Ep R n kk (r+1)) (nV n kk) w9 zs Wa (by lia) (by lia)] at ew;obtain⟨md,hmd⟩:∃md,md=jN r (if kk=0 then[] else bS zs (kk-1) r):=⟨_,Z⟩;rw[<-hmd] at ew;have Yf:r<((aJ R).map λq=>if q<r then iz zs (kk+1) q else iz zs kk q).length:=by simpa using WQ
    have afu:((aJ R).map λq=>if q<r then iz zs (kk+1) q else iz zs kk q).getD r 0=iz zs kk r:=by
     rw[aG,aw,bD WQ];simp
    obtain⟨pa,Yr⟩:∃pa,ps[r]? =some pa:=⟨_,aD (by lia)⟩;have Ys:=az Yr;have ebg:V.int (0+(kk:Nat)*16)=V.int ((16*kk:Nat):Int):=congrArg V.int (by lia);refine⟨_,Z,_,Z,_,Z,_,Z,TA,_,_,_,Z,Z,i2 hTA,PB Yf (by lia),r,(if kk=0 then[] else bS zs (kk-1) r),?_,by lia,?_⟩
    .rw[afu];show[V.int (0+(r:Int)),V.int ((iz zs kk r:Nat):Int)]=_;rw[zF];rfl
    rw[<-hmd];refine⟨_,Z,_,Z,_,Z,?_⟩;have hbf:∀k q,qw ay R n b p=.error (k,q)->Ma t E G Hd (k:Nat) (q:Nat):=λk q e=>Ma.of (kE k q e) Uq ap;refine⟨ua,ha,dh,h,wv,H,G,b,ay,w9,md,R,r,n,kk,?_,Uq,sG,ap,up,by rw[Ly,hmd];exact Pz WQ _,hh,hn,hR,by lia,CK,R4,by lia,λhq=>?_,λq hq=>?_,λl v hq H6 cp kp6 up6 ncp ecp=>?_⟩
    .rw[zF,ebg];rfl
    .rw[hq] at ew;rw[ew] at hrr;exact hbf _ _ hrr
    .rw[hq] at ew;rw[ew] at hrr;exact hbf _ _ hrr
    .rw[hq] at ew;simp only at ew;have ll:l.length=min 16 (n-16*kk):=by rw[vn hq];simp[nV]
     have l6:l.length<=16:=ll ▸ fw ..;have hk:=k16 hkk;have aiZ:=kp6 _ _ hRL gR;have anN:=kp6 _ _ hTA gT;have ajt:=kp6 _ _ (hz r pa Yr) (gp pa Ys);have s6H:aC H H6:=kp6.other Uq ap;have g6p:∀q∈ps,grow G Hd H6 q=none:=λq hq=>by
      obtain⟨j,hj⟩:=dJ.mp hq;exact cU (hz j q hj) (gp q hq)
     have g6T:grow G Hd H6 TA=none:=cU hTA gT;have aoX:((zs.getD r []).map fZ).length=16*kk:=by rw[aB];exact hzr
     refine⟨_,Z,_,Z,RL,_,_,_,Z,Z,i2 aiZ,at_of (j:=r) (by lia) (by rw[aw,Yr];rfl),L0 ajt,_,Z,cp,Z,⟨_,i2 ecp⟩,λD hD=>?_⟩;refine nu (ys:=(l.map fZ).map V.int) hD (by rw[aE];simp;exact bt l6 (by decide)) (i2 ecp) (by simp) (λi x y H7 Q7 hx hy sm7 k7=>?_) λH7 e7 s7=>?_
     .rw[aw,aw] at hx hy;cases hq2:l[i]? with
      |none=>rw[hq2] at hx;cases hx
      |some z=>
       rw[hq2] at hx hy;cases hx;cases hy;exact⟨Z,_,Z,z,Z,k7 _ (aC.refl _)⟩
     .refine⟨pa,D,_,_,Z,Z,s7 _ _ ajt,e7,by rw[aE,aB,aoX,aB,aB];exact bt (Og (bt (cG hk) CK) l6) (by decide),?_⟩;have apr:cp≠pa:=by rintro rfl;rw[(hz r cp Yr)] at ncp;cases ncp
      have aj3:TA≠pa:=λe=>tps (e ▸ Ys);have api:RL≠pa:=λe=>rps (e ▸ Ys);have c8:dE [pa] H7 (upd H7 pa (.lst (((zs.getD r []).map fZ).map V.int++(l.map fZ).map V.int))):=dE.refl.d_ (by simp);have e8:upd H7 pa (.lst (((zs.getD r []).map fZ).map V.int++(l.map fZ).map V.int)) pa=some (iL ((zs.getD r []++l).map fZ)):=by rw[aq];simp
      generalize upd H7 pa (.lst (((zs.getD r []).map fZ).map V.int++(l.map fZ).map V.int))=H8 at c8 e8|-
      have anO:=c8.one (s7 _ _ anN) aj3;refine⟨_,Z,cp,_,Z,i2 (c8.one (s7 _ _ ecp) apr),_,Z,_,Z,TA,_,_,r,Z,Z,anO,qp (by lia) (by simpa using WQ),?_⟩;rw[afS,Eb];have c9:dE [TA] H8 (upd H8 TA (.lst ((nI (((aJ R).map λq=>if q<r then iz zs (kk+1) q else iz zs kk q).set r l.sum)).map V.int))):=dE.refl.d_ (by simp);have e9:upd H8 TA (.lst ((nI (((aJ R).map λq=>if q<r then iz zs (kk+1) q else iz zs kk q).set r l.sum)).map V.int)) TA=some (iL (nI (((aJ R).map λq=>if q<r then iz zs (kk+1) q else iz zs kk q).set r l.sum))):=aq;generalize upd H8 TA (.lst ((nI (((aJ R).map λq=>if q<r then iz zs (kk+1) q else iz zs kk q).set r l.sum)).map V.int))=H9 at c9 e9|-
      have zr:(zs.set r (zs.getD r []++l)).getD r []=zs.getD r []++l:=by rw[aG,eF (by lia)];rfl
      have zo:∀q,q≠r->(zs.set r (zs.getD r []++l)).getD q []=zs.getD q []:=λq hq=>by rw[aG,iE (eK hq),<-aG]
      have T9:∀y o,H6 y=some o->y≠pa->y≠TA->H9 y=some o:=λy o e h1 h2=>c9.one (c8.one (s7 _ _ e) h1) h2;have anh:bS (zs.set r (zs.getD r []++l)) kk r=l:=by
       unfold bS;rw[zr,List.drop_append_of_le_length (f7 hzr.symm),gJ (f7 hzr),tG,cn l6]
      refine⟨_,_,grow G Hd H6,v,zs.set r (zs.getD r []++l),Z,λy o e=>T9 y o (s6H _ _ e) (aI e (XY pa Ys)) (aI e freshT),λy o e=>T9 y o (cg _ _ e) (aI e (g6p _ Ys)) (aI e g6T),gW Uq ap,up6,by rw[B5 hq];exact Ly,cU hRL gR,g6T,g6p,T9 _ _ aiZ api tRL.symm,?_,by rw[ff];exact zl,λq a hqa=>?_,λq hqR=>?_,ew⟩
      .rw[e9];refine congrArg (λz=>some (iL (nI z))) (qe λq=>?_);rw[abd,aw,aw];by_cases Lz:r=q
       .rw[aj Lz,aj (by simpa using WQ),<-Lz,bD WQ];simp only[eY,gn,if_true];congr 1;unfold iz;rw[ah (by lia),FE,anh]
       .rw[ah Lz];by_cases hqe:q<R
        .rw[bD hqe];simp only[eY];rw[ES Lz,ES Lz];by_cases h3:q<r
         .rw[aj h3,aj (by lia)]
         .rw[ah h3,ah (by lia)]
        .rw[ib (by simpa using hqe)];rfl
      .by_cases Lz:q=r
       .rw[Lz] at hqa|-
        rw[Yr] at hqa;cases hqa;rw[zr];exact c9.one e8 aj3.symm
       .rw[zo q Lz];have GQ:a≠pa:=by rintro rfl;exact Lz (aj8 nd hqa Yr)
        exact T9 _ _ (kp6 _ _ (hz q a hqa) (gp a (az hqa))) GQ (by rintro rfl;exact tps (az hqa))
      .by_cases Lz:q=r
       .rw[Lz,zr,aj (gn r),aO,hzr,ll];exact m16 (cG hk)
       .rw[zo q Lz,hzl q hqR];by_cases h3:q<r
        .rw[aj h3,aj (by lia)]
        .rw[ah h3,ah (by lia)]
   .rintro σ Hd ⟨y6,y7,G,w9,zs,rfl,Uq,sG,ap,up,Ly,gR,gT,gp,hRL,hTA,zl,hz,hzl,ew⟩;refine⟨_,_,_,G,w9,zs,Z,Uq,sG,ap,up,Ly,gR,gT,gp,hRL,?_,zl,hz,λq hq=>?_,?_⟩
    .rw[hTA];refine congrArg (λz=>some (iL (nI z))) (fM λq hq=>?_);rw[aj (cJ.mp hq)]
    .rw[hzl q hq,aj hq]
    .rw[ew];by_cases Yn:kk+1<(n+15) / 16
     .rw[aj Yn,VT Yn]
     .rw[ah Yn,Zo (by lia)]
  .rintro σ Hc ⟨y5,y6,y7,G,w9,zs,rfl,DD,sG,ap,up,Ly,gR,gT,gp,hRL,hTA,zl,hz,hzl,ew⟩;rw[ah (bX _)] at ew;have ew:hU R (n9 R n) rd0 (aM R [])=.ok (zs,w9):=ew;rw[ew] at hrr;simp only at hrr;obtain⟨pl2,pd2,⟨Sh2,Gb2,dx2,Xv,ba2,sa2,Sv,WX,z2⟩,_⟩:=id up.ex;refine⟨_,Z,ua,_,_,Z,sG _ _ (Sv _ _ z2.ob),Z,ua,H,G,b,ay,w9,Z,DD,sG,up,λH6 s6=>⟨_,Z,?_⟩⟩;cases he:w9.ended with
   |false=>
    rw[he,aj rfl] at hrr;refine eZ ⟨_,Z,gX,_,Z,i3 (s6 _ _ (DD _ _ hb)),?_⟩;rw[aB,eA];exact((kE 5 b.length hrr).mono (DD.trans s6).chg).raise
   |true=>
    rw[he,ah (by decide)] at hrr;refine fK ⟨_,Z,?_⟩;refine kQ zs hrr H6 RL (ps.map V.ref) (DD.trans s6) (s6 _ _ hRL) afo (zp (by simp;lia) λi x v h1 h2=>?_);rw[aw] at h1 h2;cases hq:zs[i]? with
    |none=>rw[hq] at h1;cases h1
    |some z=>
     cases Bi:ps[i]? with
     |none=>rw[Bi] at h2;cases h2
     |some a=>
      rw[hq] at h1;rw[Bi] at h2;cases h1;cases h2;refine⟨a,Z,aT.mpr ⟨XY a (az Bi),?_⟩⟩;have:=s6 _ _ (hz i a Bi);rw[aG,hq] at this;exact this
 .obtain⟨r1,r2⟩:=(⟨trivial,trivial⟩:True/\True);refine⟨Z,by rw[aE];simp,λq nq=>k2 _ _ (by rw[aF (aI eD nq)];exact eD) ⟨λy o e=>?_,ps++[q],by rw[eps];simp,?_,λa ha'=>?_⟩⟩
  .have h1:=sm' _ _ e;rw[aF (aI e nRL),aF (aI h1 nq)];exact h1
  .refine Nh nd λhq=>?_;rw[(TX q hq).1] at nq;cases nq
  .have qRL:q≠RL:=b8 eD nq;rcases de.mp ha' with hq|hq
   .obtain⟨z1,z2,z3⟩:=TX a hq;refine⟨?_,z2,z3⟩;rw[aF z3,aF (aI z1 nq)];exact z1
   .rw[show a=q from by simpa using hq];exact⟨by rw[aF qRL,aq],sm'.free nq,qRL⟩
abbrev CtO (t:fP)(dx:ke)(f:bN)(sh ea:ke):HO:=.ins t.gq dx [("cut",.int f.cut),("lowest",.int (ko f)),("highest",.int (jR f)),("shape",.ref sh),("errors",.ref ea)]
inductive ErA (K:au)(eps:bY)(v:V)(H:Hp):Prop|i a(_:v=.ref a)(_:nN K H a (eps.map V.int)\/Ml K H a (eps.map V.int))
def ZS (h:Ml K H a xs)(s:aC H H'):Ml K H' a xs:=by
 rcases h with(h|⟨o,h⟩)|h
 .exact i2 (s _ _ h)
 .exact .inl (.inr ⟨o,s _ _ h⟩)
 .exact .inr h
def ErA.same {eps:bY}(h:ErA K eps v H)(s:aC H H'):ErA K eps v H':=by
 obtain⟨a,e,h|h⟩:=h
 .exact⟨a,e,.inl (s.seq h)⟩
 .exact⟨a,e,.inr (ZS h s)⟩
inductive akz (K:au)(t:fP)(vs:b_)(H:Hp)(Q:VK)(E:XK):Prop|i(x dx sh:ke)(fv ev:V)(f:bN)(eps:bY)(_:vs=[.ref x,fv,.ref sh,ev])(_:H x=some (.ins t.gq dx []))(_:GH t f fv (but H x))(_:Mx.FG f)(_:ErA K eps ev (but H x))(_:∀H' ea,dE [x] H H'->H' x=some (CtO t dx f sh ea)->H' ea=some (iL eps)->H ea=none->Q .gS H')
def IY:T.ud.Ok P w mg lQ jh 2 (akz K t):=by
 refine T.ud.ok λnd H vs Q E hr h=>?_;obtain⟨x,dx,sh,fv,ev,f,eps,rfl,hx,⟨fa,dfa,wv,rfl,JY,_⟩,g,er,k⟩:=h;have b1:=g.b1;have b2:=g.b2;have hfx:=(dQ.mp JY).1;have Yh:=(dQ.mp JY).2;refine .i (ao (ki (pv 0) (cQ (pv 1)))
   (ao (ki (pv 0) (aX sZ (kq T.j9 (ph T) hr bG (ak (cQ (pv 1)) ax)) (cQ (pv 1))))
   (ao (ki (pv 0) (aX sZ (kq T.jF (oj T) hr bG (ak (cQ (pv 1)) ax)) (cQ (pv 1))))
   (ao (ki (pv 0) (pv 2))
   (aH (ki (pv 0) (su mD rfl T.Ec GA (ak (pv 3) ax)))))))) ?_
 refine⟨_,Z,Z,Yh,T.dA,Z,Z,_,Z,Z,hx,T.iG,Z,Z,tI [("cut",.int f.cut)],?_⟩;have c1:dE [x] H (upd H x (.ins t.gq dx [("cut",.int f.cut)])):=dE.refl.d_ (by simp);have x1:upd H x (.ins t.gq dx [("cut",.int f.cut)]) x=some (.ins t.gq dx [("cut",.int f.cut)]):=aq;generalize upd H x (.ins t.gq dx [("cut",.int f.cut)])=H1 at c1 x1|-
 refine⟨_,Z,Z,c1.one Yh hfx,T.dA,Z,Z,f.bits,Z,by lia,by lia,_,Z,Z,c1.one Yh hfx,T.dA,Z,Z,_,_,Z,Z,(by show(0:Int)<=_;lia),_,Z,Z,x1,T.iG,Z,Z,tI [("cut",.int f.cut),("lowest",.int (ko f))],?_⟩;have c2:dE [x] H (upd H1 x (.ins t.gq dx [("cut",.int f.cut),("lowest",.int (ko f))])):=c1.d_ (by simp);have x2:upd H1 x (.ins t.gq dx [("cut",.int f.cut),("lowest",.int (ko f))]) x=some (.ins t.gq dx [("cut",.int f.cut),("lowest",.int (ko f))]):=aq;generalize upd H1 x (.ins t.gq dx [("cut",.int f.cut),("lowest",.int (ko f))])=H2 at c2 x2|-
 refine⟨_,Z,Z,c2.one Yh hfx,T.dA,Z,Z,f.bits,Z,by lia,by lia,_,Z,Z,c2.one Yh hfx,T.dA,Z,Z,_,_,Z,Z,(by show(0:Int)<=_;lia),_,Z,Z,x2,T.iG,Z,Z,tI [("cut",.int f.cut),("lowest",.int (ko f)),("highest",.int (jR f))],?_⟩;refine⟨_,Z,_,Z,Z,aq,T.iG,Z,Z,tI [("cut",.int f.cut),("lowest",.int (ko f)),("highest",.int (jR f)),("shape",.ref sh)],?_⟩;rw[eG];have c3:dE [x] H (upd H2 x (.ins t.gq dx [("cut",.int f.cut),("lowest",.int (ko f)),("highest",.int (jR f)),("shape",.ref sh)])):=c2.d_ (by simp);have x3:upd H2 x (.ins t.gq dx [("cut",.int f.cut),("lowest",.int (ko f)),("highest",.int (jR f)),("shape",.ref sh)]) x=some (.ins t.gq dx [("cut",.int f.cut),("lowest",.int (ko f)),("highest",.int (jR f)),("shape",.ref sh)]):=aq;generalize upd H2 x (.ins t.gq dx [("cut",.int f.cut),("lowest",.int (ko f)),("highest",.int (jR f)),("shape",.ref sh)])=H3 at c3 x3|-
 have s3:aC (but H x) H3:=λy o e=>c3.one (dQ.mp e).2 (dQ.mp e).1;obtain⟨ea0,rfl,er3⟩:=er.same s3;refine⟨_,Z,ea0,_,Z,er3,λea Ud=>?_⟩;have s4:aC H3 (upd H3 ea (iL eps)):=aC.upd Ud;have neH:H ea=none:=fU c3 x3 Ud;have nex:ea≠x:=b8 hx neH;refine⟨_,Z,Z,s4 _ _ x3,T.iG,Z,Z,tI [("cut",.int f.cut),("lowest",.int (ko f)),("highest",.int (jR f)),("shape",.ref sh),("errors",.ref ea)],?_⟩;exact k _ ea ((c3.trans s4.chg).d_ (by simp)) aq (by rw[aF nex,aq]) neH
inductive agB (t:fP)(vs:b_)(H:Hp)(Q:VK)(E:XK):Prop|i(a dx sh ea:ke)(f:bN)(aS eps:bY)(x:Int)(_:vs=[.ref a,.int x])(_:H a=some (CtO t dx f sh ea))(_:H sh=some (iL aS))(_:H ea=some (iL eps))(_:Mx.FG f)(_:aS.length=4)(_:eps.length=4)(_:∀v∈aS,-128<=v/\v<=127)(_:∀H' Lq,dE [a] H H'->H' a=some (CtO t dx f sh Lq)->H' Lq=some (iL (Q_ f aS eps x::eps.take 3))->H Lq=none->Q (.int (HK f aS eps x)) H')
def IZ:T.ue.Ok P w mg lQ jh 2 (agB t):=by
 refine T.ue.ok λnd H vs Q E hr h=>?_;obtain⟨a,dx,sh,ea,f,aS,eps,x,rfl,ha,hsh,hea,g,sl,el,sr,k⟩:=h;have b2:=g.b2;have hc:=g.c;refine .i (ao (fL 2 nd (gP (Mt rfl) rfl T.Uc aeE (ak (GW [("part",7),("error",6)] nd (Br rfl T.IT (ak (cQ (pv 0)) (ak (cQ (pv 0)) ax))) (GU (K:=K) (n:=2) rfl rfl (fm (mv 7 nd) (fm (mv 6 nd) pj)) rfl rfl) (aX fQ (pv 7) (pv 6))) ax)))
   (ao (fL 3 nd (aX gw (pv 1) (aX jM (aX dz (pv 2) aK) aK)))
   (ao (fL 4 nd (aX jM (aX uG aK (cQ (pv 0))) aK))
   (ao (fL 5 nd (gP (Lh rfl) rfl T.aeb boot_max (ak (cQ (pv 0)) (ak (gP (ot rfl) rfl T.EY AJ (ak (cQ (pv 0)) (ak (aX sZ (aX dz (pv 3) (pv 4)) (cQ (pv 0))) ax))) ax))))
   (ao (fL 6 nd (kq T.G5 (Nm T) hr bG (ak (aX gw (aX uG (pv 5) (cQ (pv 0))) (pv 3)) (ak (fF T.M6) ax))))
   (ao (ki (pv 0) (aX mP (eE (ak (pv 6) ax)) (psl (cQ (pv 0)) GX (qv aK))))
   (aH (bz (pv 5))))))))) ?_
 refine⟨_,Z,Z,ha,T.iG,Z,Z,_,Z,Z,ha,T.iG,Z,Z,sh,ea,_,_,Z,i2 hsh,i2 hea,λD hD=>?_⟩;refine Nc (ys:=(dO (λx y=>x*y) aS eps).map V.int) hD (by rw[aE];simp;lia) (i2 hsh) (i2 hea) (by simp;lia) (by simp;lia) (λi u z y Tt H2 Q2 hu hz hy sm nT k2=>?_) λH2 e2 s2=>?_
 .rw[aw] at hu hz;rw[aw,qW] at hy;cases qa:aS[i]? with
  |none=>rw[qa] at hu;cases hu
  |some x1=>
   cases qb:eps[i]? with
   |none=>rw[qb] at hz;cases hz
   |some z1=>
    rw[qa] at hu hy;rw[qb] at hz hy;cases hu;cases hz;cases hy;have b1:=sr x1 (az qa);exact⟨Tt,_,Z,i2 aq,Z,_,_,Z,_,_,Z,Z,Z,_,Z,_,Z,_,_,Z,Z,.inl ⟨by lia,by lia⟩,k2 _ (aC.refl _)⟩
 .have Bi:=s2 _ _ ha;refine⟨D,_,Z,i2 e2,?_⟩;refine⟨_,Z,_,Z,_,_,Z,Z,_,_,Z,Z,⟨by decide,by decide⟩,_,_,Z,Z,?_⟩;refine⟨_,Z,Z,Bi,T.iG,Z,Z,_,_,Z,Z,⟨by lia,by lia,by decide⟩,_,_,Z,Z,⟨by decide,by decide⟩,?_⟩;have eh:V.int ((1*2^((f.cut:Int)).toNat) / 2)=V.int (2^f.cut / 2):=by
   show V.int (1*2^((f.cut:Int)).toNat / 2)=_;rw[bF,pM]
  rw[eh];obtain⟨d,hd⟩:∃d,d=Mx.cutD aS eps x:=⟨_,Z⟩;have edd:x-((dO (λ(a b:Int)=>a*b) aS eps).sum+4) / 8=d:=by rw[hd];rfl
  refine⟨_,Z,Z,Bi,T.iG,Z,Z,_,Z,Z,Bi,T.iG,Z,Z,_,Z,_,Z,_,_,Z,Z,_,Z,Z,Bi,T.iG,Z,Z,_,_,Z,Z,(by show(0:Int)<=_;lia),_,_,Z,_,_,Z,?_⟩;obtain⟨y,hy⟩:∃y,y=HK f aS eps x:=⟨_,Z⟩;have ey:(if(if(x-((dO (λ(a b:Int)=>a*b) aS eps).sum+4) / 8+2^f.cut / 2) / 2^((f.cut:Int)).toNat<jR f then(x-((dO (λ(a b:Int)=>a*b) aS eps).sum+4) / 8+2^f.cut / 2) / 2^((f.cut:Int)).toNat else jR f)>ko f then(if(x-((dO (λ(a b:Int)=>a*b) aS eps).sum+4) / 8+2^f.cut / 2) / 2^((f.cut:Int)).toNat<jR f then(x-((dO (λ(a b:Int)=>a*b) aS eps).sum+4) / 8+2^f.cut / 2) / 2^((f.cut:Int)).toNat else jR f) else ko f)=y:=by
   rw[hy,bF];rfl
  have yb:=HL g aS eps x;have lb:=IJ g;rw[<-hy] at yb;have e3:V.int (x-(((dO (λ(a b:Int)=>a*b) aS eps).sum+4) / 8))=V.int d:=congrArg V.int edd;rw[ey,e3];refine⟨_,Z,_,Z,Z,Bi,T.iG,Z,Z,_,_,Z,Z,⟨by lia,by lia,by lia⟩,_,Z,_,_,Z,Z,_,2147483647,Z,by decide,?_⟩;have ee:jP (y*2^((f.cut:Int)).toNat-d) 2147483647=Q_ f aS eps x:=by
   rw[bF,hy,hd];rfl
  have e0:jP ((λ(i j:Int)=>i-j) (y*2^((f.cut:Int)).toNat) d) 2147483647=Q_ f aS eps x:=ee;rw[ee];refine⟨_,Z,by rw[aE];simp,λp1 n1=>?_⟩;have s3:aC H2 (upd H2 p1 (.lst [.int (Q_ f aS eps x)])):=aC.upd n1;refine⟨_,Z,Z,s3 _ _ Bi,T.iG,Z,Z,_,Z,ea,_,Z,i2 (s3 _ _ (s2 _ _ hea)),λp2 n2=>?_⟩;have afd:qZ (eps.map V.int) none (some 3)=(eps.take 3).map V.int:=by rw[show(3:Int)=((3:Nat):Int) from rfl,XF,kh]
  rw[afd];have s4:=s3.trans (aC.upd (o:=.lst ((eps.take 3).map V.int)) n2);have apw:p1≠p2:=(bO n2).1.symm;refine⟨p1,p2,_,_,Z,Z,by rw[aF apw,aq],aq,by rw[aE];simp;lia,λp3 n3=>?_⟩;have s5:=s4.trans (aC.upd (o:=.lst ([V.int (Q_ f aS eps x)]++(eps.take 3).map V.int)) n3);have n3H:H p3=none:=s2.free (s4.free n3);have n3a:p3≠a:=b8 ha n3H;refine⟨_,Z,Z,s5 _ _ Bi,T.iG,Z,Z,tI [("cut",.int f.cut),("lowest",.int (ko f)),("highest",.int (jR f)),("shape",.ref sh),("errors",.ref p3)],_,Z,?_⟩;rw[hy];exact k _ p3 ((s2.trans s5).chg.d_ (by simp)) aq (by rw[aF n3a,aq];simp) n3H
abbrev LnO (t:fP)(dx:ke)(fv:V)(fl el:ke):HO:=.ins t.eB dx [("frame",fv),("filters",.ref fl),("errors",.ref el)]
inductive aeo (t:fP)(vs:b_)(H:Hp)(Q:VK)(E:XK):Prop|i(x dx:ke)(fv:V)(f:bN)(F:Hp)(_:vs=[.ref x,fv])(_:H x=some (.ins t.eB dx []))(_:aC F H)(_:F x=none)(_:GH t f fv F)(_:Mx.FG f)(_:∀(H':Hp) (fl el:ke) (jV:b_) (Gs:Nat->Hp),dE [x] H H'->H' x=some (LnO t dx fv fl el)->H' fl=some (.lst jV)->H' el=some (.lst (aM f.rows.length (.ref t.iX)))->H fl=none->H el=none->jV.length=f.rows.length->(∀i,aC (Gs i) (nw H H'))->(∀i,Gs i fl=none/\Gs i el=none)->(∀i j,i≠j->Apart (Gs i) (Gs j))->(∀(i:Nat) rw v,f.rows[i]? =some rw->jV[i]? =some v->Ke t F (Gs i) rw (mC rw) v)->Q .gS H')
def sX:T.m_.Ok P w mg lQ jh 5 (aeo t):=by
 refine T.m_.ok λnd H vs Q E hr h=>?_;obtain⟨x,dx,fv,f,F,rfl,hx,sF,nFx,⟨fa,dfa,wv,rfl,JY,⟨wa,dw,ra,ja,kT,rfl,WT,qo,pr,QF⟩⟩,g,k⟩:=h;have r4:=g.r4;have rl:f.rows.length=kT.length:=dR pr;refine .i (ao (ki (pv 0) (pv 1))
   (ao (ki (pv 0) (GW [("row_way",2)] nd (fB (cQ (cQ (pv 1)))) (mv 2 nd) (J7 T.EB T.Cz T.my (tY T) hr bG (ak (pv 2) ax))))
   (aH (ki (pv 0) (GW [("row_way",2)] nd (fB (cQ (cQ (pv 1)))) (mv 2 nd) (t5 (v:=V.ref t.iX) rfl T.EO rfl)))))) ?_
 refine⟨_,Z,_,Z,Z,hx,T.fS,Z,Z,tI [("frame",.ref fa)],?_⟩;have c1:dE [x] H (upd H x (.ins t.eB dx [("frame",.ref fa)])):=dE.refl.d_ (by simp);have x1:upd H x (.ins t.eB dx [("frame",.ref fa)]) x=some (.ins t.eB dx [("frame",.ref fa)]):=aq;generalize upd H x (.ins t.eB dx [("frame",.ref fa)])=H1 at c1 x1|-
 have F1:aC F H1:=λy o e=>c1.one (sF _ _ e) (aI e nFx);refine⟨_,Z,Z,F1 _ _ JY,T.dA,Z,Z,Z,F1 _ _ WT,T.xG,Z,Z,ra,Z,⟨kT,i2 (F1 _ _ qo)⟩,λD hD=>?_⟩;refine CJ f.rows (λrw v G=>Ke t F G rw (mC rw) v) hD (by rw[aE];lia) (i2 (F1 _ _ qo)) rl (λi rw u H4 Q4 hs hu Er k4=>?_) λH4 ys Gs Er eD yl z1 z2 z3=>?_
 .obtain⟨v,hv,rA⟩:=zm pr hs;rw[hu] at hv;cases hv;exact⟨Z,_,Z,λb db m1 m2 m3=>Up (F1.trans Er) rA (g.lS rw (az hs)) m1 m2 λH5 s5 h5=>⟨Z,k4 _ _ s5 h5⟩⟩
 .have nD:H D=none:=fU c1 x1 hD;have nDx:D≠x:=b8 hx nD;refine⟨_,Z,Z,Er _ _ x1,T.fS,Z,Z,tI [("frame",.ref fa),("filters",.ref D)],?_⟩;have c5:dE [x] H (upd H4 x (.ins t.eB dx [("frame",.ref fa),("filters",.ref D)])):=(c1.trans Er.chg).d_ (by simp);have x5:upd H4 x (.ins t.eB dx [("frame",.ref fa),("filters",.ref D)]) x=some (.ins t.eB dx [("frame",.ref fa),("filters",.ref D)]):=aq;have e5:upd H4 x (.ins t.eB dx [("frame",.ref fa),("filters",.ref D)]) D=some (.lst ys):=by rw[aF nDx];exact eD
  have gs5:∀i,aC (Gs i) (nw H (upd H4 x (.ins t.eB dx [("frame",.ref fa),("filters",.ref D)]))):=λi y o e=>by
   obtain⟨q1,q2⟩:=aT.mp (z1 i _ _ e);have q3:=fU c1 x1 (bO q1).2;exact aT.mpr ⟨q3,by rw[aF (b8 hx q3)];exact q2⟩
  have gD:∀i,Gs i D=none:=λi=>by
   cases e:Gs i D with
   |none=>rfl
   |some o=>exact absurd rfl (bO (aT.mp (z1 i _ _ e)).1).1
  generalize upd H4 x (.ins t.eB dx [("frame",.ref fa),("filters",.ref D)])=H5 at c5 x5 e5 gs5|-
  have F5:aC F H5:=λy o e=>c5.one (sF _ _ e) (aI e nFx);refine⟨_,Z,Z,F5 _ _ JY,T.dA,Z,Z,Z,F5 _ _ WT,T.xG,Z,Z,ra,Z,⟨kT,i2 (F5 _ _ qo)⟩,λL hL=>?_⟩;refine nu (ys:=aM f.rows.length (.ref t.iX)) hL (by rw[aE];simp;lia) (i2 (F5 _ _ qo)) (by simp;lia) (λi u y H6 Q6 hu hy sm6 k6=>?_) λH6 e6 s6=>?_
  .have:y=.ref t.iX:=(fc.mp (az hy)).2;subst this;exact⟨Z,k6 _ (aC.refl _)⟩
  .have nL:H L=none:=fU c5 x5 hL;have nLx:L≠x:=b8 hx nL;refine⟨_,Z,Z,s6 _ _ x5,T.fS,Z,Z,tI [("frame",.ref fa),("filters",.ref D),("errors",.ref L)],?_⟩;refine k _ D L ys Gs ((c5.trans s6.chg).d_ (by simp)) aq (by rw[aF nDx];exact s6 _ _ e5) (by rw[aF nLx];exact e6) nD nL yl (λi y o e=>?_) (λi=>⟨gD i,?_⟩) z2 z3
   .obtain⟨q1,q2⟩:=aT.mp (gs5 i _ _ e);exact aT.mpr ⟨q1,by rw[aF (b8 hx q1)];exact s6 _ _ q2⟩
   .cases e:Gs i L with
    |none=>rfl
    |some o=>rw[(aT.mp (gs5 i _ _ e)).2] at hL;cases hL
structure LnS (t:fP)(K:au)(F H H':Hp)(st:aW)(a dx:ke)(fv:V)(fl el:ke)(jV yf:b_)(Gs:Nat->Hp):Prop where
 ob:H' a=some (LnO t dx fv fl el)
 na:H a=none
 hf:H' fl=some (.lst jV)
 nf:H fl=none
 he:H' el=some (.lst yf)
 ne:H el=none
 fr:GH t st.form fv F
 fg:Mx.FG st.form
 l1:st.form.rows.length=jV.length
 l2:st.rows.length=jV.length
 l3:yf.length=jV.length
 gs:∀i,aC (Gs i) (nw H H')
 ga:∀i,Gs i a=none
 gf:∀i,Gs i fl=none
 ge:∀i,Gs i el=none
 ap:∀i j,i≠j->Apart (Gs i) (Gs j)
 af:∀i,Apart F (Gs i)
 at_:∀(i:Nat) rw l v,st.form.rows[i]? =some rw->st.rows[i]? =some l->jV[i]? =some v->Ke t F (Gs i) rw l v/\Hn rw l
 er:∀(i:Nat) l e,st.rows[i]? =some l->yf[i]? =some e->ErA K l.eps e F
 fa:F a=none
 fH:aC F H'
def Ou (s:aC F H)(g:aC G (nw H H')):Apart F G:=λb=>by
 cases e:F b with
 |none=>exact .inl rfl
 |some o=>
  refine .inr (g.free ?_);unfold nw;rw[s _ _ e];rfl
inductive UR (t:fP)(K:au)(F H H':Hp)(st:aW)(v:V):Prop|i(a dx:ke)(fv:V)(fl el:ke)(jV yf:b_)(Gs:Nat->Hp)(_:v=.ref a)(_:LnS t K F H H' st a dx fv fl el jV yf Gs)
def Ng (T:Txt K mg t)(hF:aC F H)(hr:GH t f fv F)(g:Mx.FG f)(n1:H x=none)(n2:H dx=none)(k:∀H',aC H H'->UR t K F H H' (kn f) (.ref x)->Q .gS H'):
  aeo t [.ref x,fv] (upd (upd H dx (.own x)) x (.ins t.eB dx [])) Q E:=by
 have s1:aC H (upd (upd H dx (.own x)) x (.ins t.eB dx [])):=gA n1 n2;refine⟨x,dx,fv,f,F,Z,aq,hF.trans s1,hF.free n1,hr,g,λH' fl el jV Gs c hx hf he nf ne fl' gs nn ap st=>k _ (dE.back s1 c (by intro y hy;rw[show y=x from by simpa using hy];exact n1)) ⟨x,dx,fv,fl,el,jV,_,Gs,Z,hx,n1,hf,s1.free nf,he,s1.free ne,hr,g,fl'.symm,?_,?_,λi=>(gs i).trans (o_ s1),λi=>?_,λi=>(nn i).1,λi=>(nn i).2,ap,λi=>Ou hF ((gs i).trans (o_ s1)),λi rw l v h1 h2 h3=>?_,λi l e h1 h2=>?_,hF.free n1,λb o e=>c.one (s1 _ _ (hF _ _ e)) (aI e (hF.free n1))⟩⟩
 .show(f.rows.map mC).length=_;rw[aB];exact fl'.symm
 .rw[ic];exact fl'.symm
 .cases e:Gs i x with
  |none=>rfl
  |some o=>have:=(aT.mp (gs i _ _ e)).1;rw[aq] at this;cases this
 .have RM:f.rows[i]? =some rw:=h1;have h2':(f.rows.map mC)[i]? =some l:=h2;rw[aw,RM] at h2';cases h2';exact⟨st i rw v RM h3,g.lS rw (az RM),lH.new (g.lS rw (az RM))⟩
 .have RM:(f.rows.map mC)[i]? =some l:=h1;rw[aw] at RM;cases hq:f.rows[i]? with
  |none=>rw[hq] at RM;cases RM
  |some rw=>
   rw[hq] at RM;cases RM;have:e=.ref t.iX:=(fc.mp (az h2)).2;exact⟨_,this,.inr (T.Fn F)⟩
def UR.back (h:UR t K F H1 H2 st v)(s:aC H H1):UR t K F H H2 st v:=by
 obtain⟨a,dx,fv,fl,el,jV,yf,Gs,e,z⟩:=h;exact⟨a,dx,fv,fl,el,jV,yf,Gs,e,z.ob,s.free z.na,z.hf,s.free z.nf,z.he,s.free z.ne,z.fr,z.fg,z.l1,z.l2,z.l3,λi=>(z.gs i).trans (o_ s),z.ga,z.gf,z.ge,z.ap,z.af,z.at_,z.er,z.fa,z.fH⟩
structure LpS (t:fP)(K:au)(N:Hp)(st:aW)(a dx:ke)(fv:V)(fl el:ke)(jV yf:b_):Prop where
 ob:N a=some (LnO t dx fv fl el)
 hf:N fl=some (.lst jV)
 he:N el=some (.lst yf)
 fr:GH t st.form fv N
 fg:Mx.FG st.form
 l1:st.form.rows.length=jV.length
 l2:st.rows.length=jV.length
 l3:yf.length=jV.length
 at_:∀(i:Nat) rw l v,st.form.rows[i]? =some rw->st.rows[i]? =some l->jV[i]? =some v->Ke t N N rw l v/\Hn rw l
 er:∀(i:Nat) l e,st.rows[i]? =some l->yf[i]? =some e->ErA K l.eps e N
inductive LnP (t:fP)(K:au)(N:Hp)(st:aW)(v:V):Prop|i(a dx:ke)(fv:V)(fl el:ke)(jV yf:b_)(_:v=.ref a)(_:LpS t K N st a dx fv fl el jV yf)
def LnP.same {N':Hp}(h:LnP t K N st v)(s:aC N N'):LnP t K N' st v:=by
 obtain⟨a,dx,fv,fl,el,jV,yf,e,z⟩:=h;exact⟨a,dx,fv,fl,el,jV,yf,e,s _ _ z.ob,s _ _ z.hf,s _ _ z.he,z.fr.same s,z.fg,z.l1,z.l2,z.l3,λi rw l v h1 h2 h3=>⟨(z.at_ i rw l v h1 h2 h3).1.same s s,(z.at_ i rw l v h1 h2 h3).2⟩,λi l e h1 h2=>(z.er i l e h1 h2).same s⟩
inductive acY (K:au)(t:fP)(vs:b_)(H:Hp)(Q:VK)(E:XK):Prop|i(v:V)(st:aW)(N:Hp)(_:vs=[v])(_:aC N H)(_:LnP t K N st v)(_:∀v' H',aC H H'->UR t K N H H' st v'->Q v' H')
def yE:T.qd.Ok P w mg lQ jh 7 (acY K t):=by
 refine T.qd.ok λnd H vs Q E hr h=>?_;obtain⟨v,st,N,rfl,sN,⟨a,dx,fv,fl,el,jV,yf,rfl,z⟩,k⟩:=h;have HA:=sN _ _ z.ob;have r4:=z.fg.r4;have WL:=z.l1;have RQ:=z.l2;have hl3:=z.l3;refine .i (ao (fL 1 nd (J7 T.G_ T.D5 T.m_ (sX T) hr bG (ak (cQ (pv 0)) ax)))
   (ao (ki (pv 1) (GW [("row_filter",2)] nd (fB (cQ (pv 0))) (mv 2 nd) (Fj (pv 2) T.dk T.pT (CP T) hr bG)))
   (ao (ki (pv 1) (su mD rfl T.Ec GA (ak (cQ (pv 0)) ax)))
   (aH (bz (pv 1)))))) ?_
 refine⟨_,Z,Z,HA,T.fS,Z,Z,λb db0 m1 m2 m3=>Ng T sN z.fr z.fg m1 m2 λH1 s1 h1=>⟨Z,?_⟩⟩;obtain⟨b',db,fv',fl',Rr,auP,Vh,JR,eb,z'⟩:=h1;cases eb;have nb:=z'.na;have MY:=z'.ob;refine⟨_,Z,Z,s1 _ _ HA,T.fS,Z,Z,fl,Z,⟨jV,i2 (s1 _ _ (sN _ _ z.hf))⟩,λD hD=>?_⟩;refine CJ (st.form.rows.zip st.rows) (λp v G'=>Ke t N G' p.1 p.2 v) hD (by rw[aE];simp;lia) (i2 (s1 _ _ (sN _ _ z.hf))) (by simp;lia) (λi p u H4 Q4 hs hu Er k4=>?_) λH4 ys Gn Er eD yl z1 z2 z3=>?_
 .have hp:=hJ.mp hs;obtain⟨rA,rg⟩:=z.at_ i p.1 p.2 u hp.1 hp.2 hu;obtain⟨a1,d1,rv1,b1,s1',v1,g1,rfl,zz⟩:=id rA;have N4:aC N H4:=sN.trans (s1.trans Er);exact⟨Z,_,Z,a1,_,_,Z,N4 _ _ zz.ob,Z,_,p.1,p.2,N,N,Z,N4,N4,rA,rg,λv' H5 s5 h5=>k4 v' H5 s5 h5⟩
 .have aqd:aC H H4:=s1.trans Er;have nD:H D=none:=s1.free hD;have nDb:D≠b:=b8 MY hD;refine⟨_,Z,Z,Er _ _ MY,T.fS,Z,Z,tI [("frame",fv'),("filters",.ref D),("errors",.ref Rr)],?_⟩;have c5:dE [b] H4 (upd H4 b (.ins t.eB db [("frame",fv'),("filters",.ref D),("errors",.ref Rr)])):=dE.refl.d_ (by simp);have x5:upd H4 b (.ins t.eB db [("frame",fv'),("filters",.ref D),("errors",.ref Rr)]) b=some (.ins t.eB db [("frame",fv'),("filters",.ref D),("errors",.ref Rr)]):=aq;have e5:upd H4 b (.ins t.eB db [("frame",fv'),("filters",.ref D),("errors",.ref Rr)]) D=some (.lst ys):=by rw[aF nDb];exact eD
  have gs5:∀i,aC (Gn i) (nw H (upd H4 b (.ins t.eB db [("frame",fv'),("filters",.ref D),("errors",.ref Rr)]))):=λi y o e=>by
   obtain⟨q1,q2⟩:=aT.mp (z1 i _ _ e);have q3:=(bO q1).2;exact aT.mpr ⟨s1.free q3,by rw[aF (b8 MY q3)];exact q2⟩
  have gb:∀i,Gn i b=none:=λi=>by
   cases e:Gn i b with
   |none=>rfl
   |some o=>have:=(bO (aT.mp (z1 i _ _ e)).1).2;rw[MY] at this;cases this
  have gD:∀i,Gn i D=none:=λi=>by
   cases e:Gn i D with
   |none=>rfl
   |some o=>exact absurd rfl (bO (aT.mp (z1 i _ _ e)).1).1
  generalize upd H4 b (.ins t.eB db [("frame",fv'),("filters",.ref D),("errors",.ref Rr)])=H5 at c5 x5 e5 gs5|-
  have NK:aC H H5:=dE.back aqd c5 (by intro y hy;rw[show y=b from by simpa using hy];exact nb);refine⟨_,Z,Z,NK _ _ HA,T.fS,Z,Z,el,_,Z,i3 (NK _ _ (sN _ _ z.he)),λL hL=>?_⟩;have s6:aC H5 (upd H5 L (.lst yf)):=aC.upd hL;have nL:H L=none:=NK.free hL;have nLb:L≠b:=b8 x5 hL;refine⟨_,Z,Z,s6 _ _ x5,T.fS,Z,Z,tI [("frame",fv'),("filters",.ref D),("errors",.ref L)],_,Z,?_⟩;have smF:aC H (upd (upd H5 L (.lst yf)) b (.ins t.eB db [("frame",fv'),("filters",.ref D),("errors",.ref L)])):=λy o e=>by rw[aF (aI e nb)];exact s6 _ _ (NK _ _ e)
  refine k _ _ smF ⟨b,db,fv',D,L,ys,yf,Gn,Z,aq,nb,by rw[aF nDb];exact s6 _ _ e5,nD,by rw[aF nLb,aq],nL,z'.fr,z.fg,by rw[yl];simp;lia,by rw[yl];simp;lia,by rw[yl];simp;lia,λi y o e=>?_,gb,gD,λi=>?_,z2,λi=>Ou sN (gs5 i),λi rw l v h1 h2 h3=>⟨z3 i (rw,l) v (hJ.mpr ⟨h1,h2⟩) h3,?_⟩,z.er,sN.free nb,sN.trans smF⟩
  .obtain⟨q1,q2⟩:=aT.mp (gs5 i _ _ e);exact aT.mpr ⟨q1,by rw[aF (aI e (gb i))];exact s6 _ _ q2⟩
  .cases e:Gn i L with
   |none=>rfl
   |some o=>rw[(aT.mp (gs5 i _ _ e)).2] at hL;cases hL
  .obtain⟨v0,hv0⟩:∃v0,jV[i]? =some v0:=⟨_,aD (by have:=(aN.mp h2).1;lia)⟩;exact(z.at_ i rw l v0 h1 h2 hv0).2
theorem MK:∀l:bY,G7 K H (l.map V.int) (l.map PyData.int)
 |[]=>.nil
 |a::r=>.cons (.int a) (MK r)
theorem OZ:∀l m:bY,PyData.eqvAll (l.map PyData.int) (m.map PyData.int)=decide (l=m)
 |[],[]=>rfl
 |[],b::m=>rfl
 |a::l,[]=>rfl
 |a::l,b::m=>by
  have ih:=OZ l m;show(PyData.eqv (.int a) (.int b)&&PyData.eqvAll (l.map PyData.int) (m.map PyData.int))=_;rw[ih];show((a==b)&&decide (l=m))=_;by_cases h1:a=b<;>by_cases h2:l=m<;>simp[h1,h2]
theorem lay_ints:∀l:bY,PyData.canLayAll0 (l.map PyData.int)=true
 |[]=>rfl
 |a::r=>by show(true&&PyData.canLayAll0 (r.map PyData.int))=true;rw[lay_ints r];rfl
theorem HU:∀l:bY,PyData.depthAll (l.map PyData.int)=0
 |[]=>rfl
 |a::r=>by show max 0 (PyData.depthAll (r.map PyData.int))=0;rw[HU r];rfl
def shaped_ints (l:bY):SeqAt.shaped (.list (l.map PyData.int))=true:=by
 unfold SeqAt.shaped;show(PyData.canLayAll0 (l.map PyData.int)&&decide (PyData.depthAll (l.map PyData.int)+1<=64))=true;rw[lay_ints,HU];rfl
inductive acN (t:fP)(vs:b_)(H:Hp)(Q:VK)(E:XK):Prop|i(v v':V)(f f':bN)(_:vs=[v,v'])(_:GH t f v H)(_:GH t f' v' H)(_:Mx.FG f)(_:Mx.FG f')(_:∀H',aC H H'->Q (.bl (cB f f')) H')
def Ej:T.qV.Ok P w mg lQ jh 5 (acN t):=by
 refine T.qV.ok λnd H vs Q E hr h=>?_;obtain⟨v,v',f,f',rfl,⟨a,da,wv,rfl,ha,hw⟩,⟨b,db,wv',rfl,hb,hw'⟩,g,g',k⟩:=h;refine .i (ao (gi (PW.pt (yO (rf AB (cQ (pv 0)) (cQ (pv 1))) (yO (rf AB (cQ (pv 0)) (cQ (pv 1))) (yP (rf AB (cQ (pv 0)) (cQ (pv 1))))))) (aH (bz Za)) cT)
   (aH (bz (Uh (agf hr.units) (kq T.vK (Fg T) hr bG (ak (cQ (pv 0)) ax)) (kq T.vK (Fg T) hr bG (ak (cQ (pv 1)) ax)) (R3 _))))) ?_
 have no:∀(c:Bool),c=false->cB f f'=c->Q (.bl false) H:=λc e1 e2=>by
  have:=k H (aC.refl _);rw[e2,e1] at this;exact this
 have st:=VW g g';refine⟨_,Z,Z,ha,T.dA,Z,Z,_,Z,Z,hb,T.dA,Z,Z,Z,_,Z,?_⟩;rw[Ce];by_cases h1:f.bits=f'.bits
 .rw[ae (by simp only[ne_eq,tU];lia)];refine fK ⟨_,Z,Z,ha,T.dA,Z,Z,_,Z,Z,hb,T.dA,Z,Z,Z,_,Z,?_⟩;rw[Ce];by_cases h2:f.cut=f'.cut
  .rw[ae (by simp only[ne_eq,tU];lia)];refine fK ⟨_,Z,Z,ha,T.dA,Z,Z,_,Z,Z,hb,T.dA,Z,Z,Z,_,Z,?_⟩;rw[Ce];by_cases h3:f.lanes=f'.lanes
   .rw[ae (by simp only[ne_eq,tU];lia)];refine fK ⟨_,Z,Z,ha,T.dA,Z,Z,(f.rows,f.joint),wv,Z,hw,ag6 g,λH1 p1 s1 e1 n1=>?_⟩;refine⟨_,Z,Z,s1 _ _ hb,T.dA,Z,Z,(f'.rows,f'.joint),wv',Z,hw'.same s1,ag6 g',λH2 p2 s2 e2 n2=>?_⟩;refine⟨.list ((t9 mQ (f.rows,f.joint)).map PyData.int),.list ((t9 mQ (f'.rows,f'.joint)).map PyData.int),.lst (i2 (s2 _ _ e1)) (MK _),.lst (i2 e2) (MK _),shaped_ints _,shaped_ints _,?_⟩
    .have e:PyData.eqv (.list ((t9 mQ (f.rows,f.joint)).map PyData.int)) (.list ((t9 mQ (f'.rows,f'.joint)).map PyData.int))=cB f f':=by
      show PyData.eqvAll _ _=_;rw[OZ];cases hq:cB f f' with
      |true=>exact ag (st.mp hq).2.2.2
      |false=>
       refine ae λhh=>?_;rw[st.mpr ⟨h1,h2,h3,hh⟩] at hq;cases hq
     rw[e];exact k H2 (s1.trans s2)
   .rw[ag (by show¬_;lia)];refine eZ ?_;exact no _ rfl (by cases hq:cB f f' with|false=>rfl|true=>exact absurd (st.mp hq).2.2.1 h3)
  .rw[ag (by show¬_;lia)];refine eZ (eZ ?_);exact no _ rfl (by cases hq:cB f f' with|false=>rfl|true=>exact absurd (st.mp hq).2.1 h2)
 .rw[ag (by show¬_;lia)];refine eZ (eZ ?_);exact no _ rfl (by cases hq:cB f f' with|false=>rfl|true=>exact absurd (st.mp hq).1 h1)
def LvA (t:fP)(K:au)(N:Hp)(s:Option aW)(v:V):Prop:=match s with
 |none=>v=.gS
 |some st=>LnP t K N st v
inductive Qo (K:au)(t:fP)(vs:b_)(H:Hp)(Q:VK)(E:XK):Prop|i(lv av:V)(so:Option aW)(N F:Hp)(fA:Int)(f:bN)(fv:V)(aS:bY)(xs:ly)(_:vs=[lv,av])(_:aC N H)(_:aC F H)(_:LvA t K N so lv)(_:AsA t fA f fv aS xs av H)(_:GH t f fv F)(_:Mx.FG f)(_:fA=1->∀v H',aC H H'->UR t K F H H' (kn f) v->Q v H')(_:fA≠1->match so with|none=>Tc t.eN E [] H|some st=>(cB st.form f=false->Tc t.eN E [] H)/\(cB st.form f=true->∀v H',aC H H'->UR t K N H H' st v->Q v H'))
def sY:T.lF.Ok P w mg lQ (tO P w t.bI) 8 (Qo K t):=by
 refine T.lF.xE λnd H vs Q E hr h=>?_;obtain⟨lv,av,so,N,F,fA,f,fv,aS,xs,rfl,sN,sF,Yp,⟨a,dx,sa,ra,vs,rfl,ha,N5,_⟩,hfF,g,k1,k2⟩:=h;refine .i (ao (gi (rf lp (cQ (pv 1)) aK) (aH (bz (J7 T.G_ T.D5 T.m_ (sX T) hr bG (ak (cQ (pv 1)) ax)))) cT)
   (ao (gi (PW.pt (yO (Si (Y9 (pv 0))) (yP (Nz (Bu (kq T.qV (Ej T) hr bG (ak (cQ (pv 0)) (ak (cQ (pv 1)) ax)))))))) (aH (vk aY rfl T.oq T.wy rfl T.rS)) cT)
   (aH (bz (Fj (pv 0) T.fS T.qd (yE T) hr bG))))) ?_
 refine⟨_,Z,Z,ha,T.jC,Z,Z,Z,_,Z,?_⟩;rw[og];by_cases hk:fA=1
 .rw[ag hk];refine eZ ⟨_,Z,Z,ha,T.jC,Z,Z,λb db m1 m2 m3=>Ng T sF hfF g m1 m2 λH1 s1 h1=>⟨Z,k1 hk _ _ s1 h1⟩⟩
 .rw[ae hk];have k2:=k2 hk;refine fK ⟨_,Z,?_⟩;cases so with
  |none=>
   have e:lv=.gS:=Yp;subst e;exact⟨_,Z,eZ (eZ λH' s'=>k2 H' s'.chg)⟩
  |some st=>
   obtain⟨b,db,fv2,fl,el,jV,yf,rfl,z⟩:=id Yp;refine⟨_,Z,fK ?_⟩;refine⟨_,Z,Z,sN _ _ z.ob,T.fS,Z,Z,_,Z,Z,ha,T.jC,Z,Z,fv2,fv,st.form,f,Z,z.fr.same sN,N5,z.fg,g,λH1 s1=>⟨_,Z,?_⟩⟩;cases hq:cB st.form f with
   |false=>exact eZ λH' s'=>k2.1 hq H' (s1.trans s').chg
   |true=>exact fK ⟨_,Z,b,_,_,Z,s1 _ _ (sN _ _ z.ob),Z,.ref b,st,N,Z,sN.trans s1,Yp,λv H2 s2 h2=>k2.2 hq v H2 (s1.trans s2) (h2.back s1)⟩
def Mc (h:rC)(rj:List bL×List Nat):bN:=⟨h.bits.toNat,h.cut.toNat,h.lanes.toNat,rj.1,rj.2⟩
def QR (st:aW)(h:rC):Prop:=(st.form.rows.length:Int)=h.rows/\(st.form.bits:Int)=h.bits/\(st.form.cut:Int)=h.cut/\(st.form.lanes:Int)=h.lanes
inductive Qp (K:au)(t:fP)(vs:b_)(H:Hp)(Q:VK)(E:XK):Prop|i(lv hv:V)(so:Option aW)(N F:Hp)(h:rC)(_:vs=[lv,hv])(_:aC N H)(_:aC F H)(_:LvA t K N so lv)(_:HdA t h hv F)(_:0<=h.bits)(_:0<=h.cut)(_:0<=h.lanes)(_:h.key=1->∃rj,h.way=some rj/\Mx.FG (Mc h rj)/\∀v H' F',aC H H'->aC F' (vt F (nw H H'))->UR t K F' H H' (kn (Mc h rj)) v->Q v H')(_:h.key≠1->match so with|none=>Tc t.eN E [] H|some st=>(¬QR st h->Tc t.eN E [] H)/\(QR st h->∀v H',aC H H'->UR t K N H H' st v->Q v H'))
def CS:T.pV.Ok P w mg lQ (tO P w t.bI) 8 (Qp K t):=by
 refine T.pV.xE λnd H vs Q E hr h=>?_;obtain⟨lv,hv,so,N,F,h,rfl,sN,sF,Yp,⟨a,dx,wv,rfl,ha,hw⟩,p1,p2,p3,k1,k2⟩:=h;have HA:=sF _ _ ha;refine .i (ao (gi (rf lp (cQ (pv 1)) aK) (aH (bz (J7 T.G_ T.D5 T.m_ (sX T) hr bG (ak (J7 T.Tb T.Pa T.rM (Ax T) hr bG (ak (cQ (pv 1)) (ak (cQ (pv 1)) (ak (cQ (pv 1)) (ak (cQ (pv 1)) ax))))) ax)))) cT)
   (ao (gi (PW.pt (yO (Si (Y9 (pv 0))) (yP (rf AB (Bt T.jc (ak (cQ (cQ (cQ (pv 0)))) ax)) (cQ (pv 1)))))) (aH (vk aY rfl T.oq T.wy rfl T.rS)) cT)
   (ao (fL 2 nd (cQ (pv 0)))
   (ao (gi (PW.pt (yO (rf AB (cQ (pv 2)) (cQ (pv 1))) (yO (rf AB (cQ (pv 2)) (cQ (pv 1))) (yP (rf AB (cQ (pv 2)) (cQ (pv 1))))))) (aH (vk aY rfl T.oq T.wy rfl T.rS)) cT)
   (aH (bz (Fj (pv 0) T.fS T.qd (yE T) hr bG))))))) ?_
 refine⟨_,Z,Z,HA,T.dS,Z,Z,Z,_,Z,?_⟩;rw[og];by_cases hk:h.key=1
 .rw[ag hk];obtain⟨rj,hrj,g,k1⟩:=k1 hk;rw[hrj] at hw;refine eZ ⟨_,Z,Z,HA,T.dS,Z,Z,_,Z,Z,HA,T.dS,Z,Z,_,Z,Z,HA,T.dS,Z,Z,_,Z,Z,HA,T.dS,Z,Z,λx sU n1 n2 n3=>⟨x,sU,[.int h.bits,.int h.cut,.int h.lanes,wv],Z,Z,aq,Z,?_⟩⟩;rw[eG];have s1:aC H (upd (upd H sU (.own x)) x (.ins t.o6 sU (IP ["bits","cut","lanes","way"] [.int h.bits,.int h.cut,.int h.lanes,wv]))):=gA n1 n2;have fr:GH t (Mc h rj) (.ref x) (vt F (nw H (upd (upd H sU (.own x)) x (.ins t.o6 sU (IP ["bits","cut","lanes","way"] [.int h.bits,.int h.cut,.int h.lanes,wv]))))):=by
   refine⟨x,sU,wv,Z,Z8 sF _ _ (aT.mpr ⟨n1,?_⟩),WH.same hw Fs⟩;rw[aq];show _=some (HO.ins t.o6 sU [("bits",.int (h.bits.toNat:Int)),("cut",.int (h.cut.toNat:Int)),("lanes",.int (h.lanes.toNat:Int)),("way",wv)]);rw[cX p1,cX p2,cX p3];rfl
  intro b db m1 m2 m3;refine Ng T (JJ (sF.trans s1) iK) fr g m1 m2 λH2 s2 h2=>⟨Z,k1 _ H2 _ (s1.trans s2) (JK (wz s2)) (h2.back s1)⟩
 .rw[ae hk];have k2:=k2 hk;refine fK ⟨_,Z,?_⟩;cases so with
  |none=>
   have e:lv=.gS:=Yp;subst e;exact⟨_,Z,eZ (eZ λH' s'=>k2 H' s'.chg)⟩
  |some st=>
   obtain⟨b,db,fv2,fl,el,jV,yf,rfl,z⟩:=id Yp;obtain⟨fa,dfa,wv2,rfl,JY,⟨wa,dw,ra,ja,kT,rfl,WT,qo,pr,QF⟩⟩:=z.fr;have rl:kT.length=st.form.rows.length:=(dR pr).symm;refine⟨_,Z,fK ?_⟩;refine⟨_,Z,Z,sN _ _ z.ob,T.fS,Z,Z,Z,sN _ _ JY,T.dA,Z,Z,Z,sN _ _ WT,T.xG,Z,Z,ra,_,Z,i3 (sN _ _ qo),_,Z,Z,HA,T.dS,Z,Z,Z,_,Z,?_⟩;rw[Ce,rl];by_cases q1:(st.form.rows.length:Int)=h.rows
   .rw[ae (by simpa using q1)];refine fK ⟨_,Z,Z,sN _ _ z.ob,T.fS,Z,Z,?_⟩;refine⟨_,Z,Z,sN _ _ JY,T.dA,Z,Z,_,Z,Z,HA,T.dS,Z,Z,Z,_,Z,?_⟩;rw[Ce];by_cases q2:(st.form.bits:Int)=h.bits
    .rw[ae (by simpa using q2)];refine fK ⟨_,Z,Z,sN _ _ JY,T.dA,Z,Z,_,Z,Z,HA,T.dS,Z,Z,Z,_,Z,?_⟩;rw[Ce];by_cases q3:(st.form.cut:Int)=h.cut
     .rw[ae (by simpa using q3)];refine fK ⟨_,Z,Z,sN _ _ JY,T.dA,Z,Z,_,Z,Z,HA,T.dS,Z,Z,Z,_,Z,?_⟩;rw[Ce];by_cases q4:(st.form.lanes:Int)=h.lanes
      .rw[ae (by simpa using q4)];exact fK ⟨_,Z,b,_,_,Z,sN _ _ z.ob,Z,.ref b,st,N,Z,sN,Yp,λv H2 s2 h2=>k2.2 ⟨q1,q2,q3,q4⟩ v H2 s2 h2⟩
      .rw[ag q4];exact eZ λH' s'=>k2.1 (λu=>q4 u.2.2.2) H' s'.chg
     .rw[ag q3];exact eZ (eZ λH' s'=>k2.1 (λu=>q3 u.2.2.1) H' s'.chg)
    .rw[ag q2];exact eZ (eZ λH' s'=>k2.1 (λu=>q2 u.2.1) H' s'.chg)
   .rw[ag q1];exact eZ λH' s'=>k2.1 (λu=>q1 u.1) H' s'.chg
inductive Zx (vs:b_)(H:Hp)(Q:VK)(E:XK):Prop|i(ra:ke)(kT:b_)(xs:ly)(_:vs=[.ref ra])(_:H ra=some (.lst kT))(_:Paired (λx v=>IsL x v H) xs kT)(_:xs.flatten.length<=100000)(_:NL H Q xs.flatten)
def KD (xs:ly)(i:Nat):(xs.take i).flatten.length<=xs.flatten.length:=by
 have:xs.flatten=(xs.take i).flatten++(xs.drop i).flatten:=by rw[<-Dz,qX]
 rw[this,aO];lia
def pR:T.jH.Ok P w mg lQ jh 1 Zx:=by
 refine T.jH.ok λnd H vs Q E hr h=>?_;obtain⟨ra,kT,xs,rfl,qo,pr,hz,k⟩:=h;refine .i (ao (fL 1 nd (eE ax))
   (ao (gY PassesOwn.never rfl (fB (pv 0)) (mv 2 nd)
    (aH (cS (AD df dC dD mE (pv 1) (ak (pv 2) ax)))))
   (aH (bz (pv 1))))) ?_
 refine⟨by rw[aE];simp,λL hL=>?_⟩;have rl:xs.length=kT.length:=dR pr;refine⟨_,Z,ra,Z,⟨kT,i2 (by rw[aF (aI qo hL)];exact qo)⟩,?_⟩;refine qE (xs:=kT) (λi σ H'=>∃y,C3 (σ=[some (.ref ra),some (.ref L),y]) (aC H H') (H' L=some (iL (xs.take i).flatten))) ⟨none,Z,aC.upd hL,aq⟩ (λi σ H' _ ⟨_,_,sm,_⟩=>i2 (sm _ _ qo)) ?_ ?_
 .rintro i v σ H' hv ⟨y,rfl,sm,eL⟩;obtain⟨x,hx,p,rfl,hp⟩:=iS pr hv;have h1:=KD xs (i+1);rw[Mx.take_snoc hx,Dz,aO,show[x].flatten=x from by simp] at h1;refine⟨_,Z,L0 eL,_,Z,L,p,_,_,Z,Z,eL,sm _ _ hp,by rw[aE,aB,aB];lia,some (.ref p),Z,λb o e=>by rw[aF (aI e hL)];exact sm _ _ e,?_⟩;rw[aq,Mx.take_snoc hx,Dz];simp
 .rintro σ H' ⟨y,rfl,sm,eL⟩;rw[cn (by lia)] at eL;exact⟨_,Z,k H' L sm eL hL⟩
inductive acP (vs:b_)(H:Hp)(Q:VK)(E:XK):Prop|i(ra:ke)(kT:b_)(ys:ly)(cut:Nat)(_:vs=[.ref ra,.int cut])(_:H ra=some (.lst kT))(_:Paired (λx v=>IsL x v H) ys kT)(_:ys.length<=1000)(_:∀y∈ys,y.length<=1000/\∀x∈y,Builtin.Int.intBits x<=100000)(_:cut<=100)(_:NLL H Q (ys.map λy=>y.map λx=>x*2^cut))
def Ay:T.rN.Ok P w mg lQ jh 1 acP:=by
 refine T.rN.ok λnd H vs Q E hr h=>?_;obtain⟨ra,kT,ys,cut,rfl,qo,pr,y1,yb,hc,k⟩:=h;refine .i (aH (bz (GW [("row",2)] nd (fB (pv 0)) (mv 2 nd) (GW [("y",3)] nd (Zf (K:=K) rfl (pv 2)) (mv 3 nd) (aX Ug (pv 3) (pv 1)))))) ?_;have rl:ys.length=kT.length:=dR pr;refine⟨_,Z,ra,Z,⟨kT,i2 qo⟩,λD hD=>?_⟩;refine YI (ys.map λy=>y.map λx=>x*2^cut) IsL (λx v H H' h m=>h.same m) hD (by rw[aE];simp;lia) (i2 qo) (by simp;lia) (λi z u H2 Q2 hz hu sm k2=>?_) λH' zs sm eD pz=>k H' D zs sm eD hD pz;obtain⟨y,hy,p,rfl,hp⟩:=iS pr hu;have ez:z=y.map λx=>x*2^cut:=by
  rw[aw,hy] at hz;exact(bh hz).symm
 subst ez;have yb':=yb y (az hy);refine⟨Z,_,Z,p,Z,⟨_,i2 (sm _ _ hp)⟩,λD2 hD2=>?_⟩;refine nu (ys:=(y.map λx=>x*2^cut).map V.int) hD2 (by rw[aE];simp;lia) (i2 (sm _ _ hp)) (by simp) (λj x v H3 Q3 hx hv AG k3=>?_) λH3 e3 s3=>k2 _ H3 s3 ⟨D2,Z,aT.mpr ⟨hD2,e3⟩⟩;rw[aw] at hx;rw[aw,aw] at hv;cases hq:y[j]? with
 |none=>rw[hq] at hx;cases hx
 |some q=>
  rw[hq] at hx hv;cases hx;cases hv;have hb:=yb'.2 q (az hq);exact⟨Z,_,Z,_,Z,_,_,Z,Z,⟨by lia,by lia⟩,k3 _ (aC.refl _)⟩
def EE (cY:Nat)(xs:ly)(p:Nat):Bool:=
 decide ((xs.getD (p%xs.length) []).getD (p / xs.length) 0< -((2^(cY-1):Nat):Int))||decide (((2^(cY-1):Nat):Int)<=(xs.getD (p%xs.length) []).getD (p / xs.length) 0)
def Jm (f:bN)(xs:ly)(n:Nat):xD f xs n=(aJ (n*xs.length)).find? (EE f.bits xs):=rfl
inductive Zz (t:fP)(vs:b_)(H:Hp)(Q:VK)(E:XK):Prop|i(ra:ke)(kT:b_)(xs:ly)(cY n:Nat)(_:vs=[.ref ra,.int cY])(_:H ra=some (.lst kT))(_:Paired (λx v=>IsL x v H) xs kT)(_:∀x∈xs,x.length=n)(_:1<=xs.length)(_:xs.length<=4)(_:n<=64)(_:1<=cY)(_:cY<=100)(_:∀q,(aJ (n*xs.length)).find? (EE cY xs)=some q->GF t E [] H 4 (q:Nat))(_:(aJ (n*xs.length)).find? (EE cY xs)=none->∀H',aC H H'->Q .gS H')
def Jd:T.uj.Ok P w mg lQ (tO P w t.bI) 5 (Zz t):=by
 refine T.uj.xE λnd H vs Q E hr h=>?_;obtain⟨ra,kT,xs,cY,n,rfl,qo,pr,xn,R1,R4,CK,b1,b2,kE,kQ⟩:=h;refine .i (aH (gY PassesOwn.leaving rfl (jA rfl T.iA (ak (Bt T.jc (ak (J6 (pv 0) aK) ax)) ax)) (mv 2 nd)
    (aH (gY PassesOwn.leaving rfl (GV rfl T.tX (ak (pv 0) ax)) (yK rfl (fm (mv 3 nd) (fm (mv 4 nd) pj)))
    (aH (gi (PW.pt (yO (rf Fh (J6 (pv 4) (pv 2)) (kq T.j9 (ph T) hr bG (ak (pv 1) ax))) (yP (rf Ji (J6 (pv 4) (pv 2)) (kq T.jF (oj T) hr bG (ak (pv 1) ax)))))) (aH (jB (ns:=["kind","place"]) aY rfl T.hZ (ia T) (hr.mono (by decide)).h T.dq.b rfl rfl T.gk (ak aK (ak (aX dz (aX fQ (pv 2) (Bt T.jc (ak (pv 0) ax))) (pv 3)) ax)) (by decide))) cT)))))) ?_
 have rl:kT.length=xs.length:=(dR pr).symm;obtain⟨v0,hv0⟩:∃v0,kT[0]? =some v0:=⟨_,aD (by lia)⟩;obtain⟨x0,WU,p0,rfl,hp0⟩:=iS pr hv0;refine⟨_,Z,ra,_,_,_,Z,Z,i2 qo,at_of (j:=0) rfl hv0,p0,_,Z,i3 hp0,_,Z,by lia,by rw[aB,xn x0 (az WU)];lia,?_⟩;rw[aB,xn x0 (az WU),bF];refine si (λi σ H'=>X3 λy2 y3 y4=>C3 (σ=[some (.ref ra),some (.int cY),y2,y3,y4]) (aC H H') (∀p,p<i*xs.length->EE cY xs p=false)) ⟨none,none,none,Z,aC.refl _,λp hp=>by lia⟩ ?_ ?_
 .rintro i σ H' hi ⟨y2,y3,y4,rfl,sm,oH⟩;refine⟨_,Z,ra,kT,Z,i2 (sm _ _ qo),?_⟩;refine Cw (xs:=kT) (λr σ H2=>X2 λy3 y4=>C3 (σ=[some (.ref ra),some (.int cY),some (.int (0+(i:Int))),y3,y4]) (aC H H2) (∀p,p<i*xs.length+r->EE cY xs p=false)) ⟨y3,y4,Z,sm,by simpa using oH⟩ ?_ ?_ ?_
  .rintro r σ H2 _ ⟨_,_,_,sm,_⟩;exact i2 (sm _ _ qo)
  .rintro r σ H2 v Tt WQ ⟨y3,y4,rfl,pL,TQ⟩ hv nT;obtain⟨x,hx,p,rfl,hp⟩:=iS pr hv;have hrx:r<xs.length:=by lia
   have xl:=xn x (az hx);have sT:aC H2 (upd H2 Tt (.tup [.int (r:Nat),.ref p])):=aC.upd nT;have em:(i*xs.length+r)%xs.length=r:=by rw[jn,Mi,n_ hrx]
   have ed:(i*xs.length+r) / xs.length=i:=by rw[jn,Mh (by lia),xN hrx,Nat.add_zero]
   have eg:(xs.getD r [])=x:=by rw[aG,hx];rfl
   have hb:EE cY xs (i*xs.length+r)=(decide (x.getD i 0< -((2^(cY-1):Nat):Int))||decide (((2^(cY-1):Nat):Int)<=x.getD i 0)):=by
    unfold EE;rw[em,ed,eg]
   have As:i*xs.length+r<n*xs.length:=by
    have:(i+1)*xs.length<=n*xs.length:=iJ _ hi;rw[Hh] at this;lia
   have p2:((2^(cY-1):Nat):Int)=(2:Int)^(cY-1):=by simp
   have rz:∀(h:EE cY xs (i*xs.length+r)=true) (H3:Hp),aC H H3->[V.int 4,V.int (((i*xs.length+r:Nat):Int))].length=(["kind","place"]:mX).length/\∀dd fs H4,H4 dd=some (.ext (GJ dd fs))->Given ["kind","place"] [V.int 4,V.int (((i*xs.length+r:Nat):Int))] fs->aC H3 H4->E (.ref t.cM) (some dd) H4:=λh H3 s3=>((kE _ (Mx.find_some As h λq hq=>TQ q hq)).mono s3.chg).raise;refine⟨Tt,_,Z,i2 aq,Z,_,_,Z,_,_,Z,Z,?_⟩;refine⟨_,Z,_,Z,p,_,_,_,Z,Z,i2 (sT _ _ (pL _ _ hp)),CA (by lia),_,Z,cY,Z,b1,b2,_,_,Z,Z,_,Z,?_⟩;by_cases q1:x.getD i 0< -(2^(cY-1))
   .rw[ag q1];refine eZ (eZ ?_);refine⟨_,Z,_,Z,ra,_,Z,i3 (sT _ _ (pL _ _ qo)),_,_,Z,Z,.inl ⟨by lia,by lia⟩,_,Z,_,_,Z,Z,?_⟩;have e1:V.int (((0+(i:Int))*(kT.length:Int))+((r:Nat):Int))=V.int ((i*xs.length+r:Nat):Int):=by
     show V.int ((0+(i:Int))*(kT.length:Int)+(r:Int))=_;rw[rl];simp
    rw[e1];exact rz (by rw[hb,p2,ag q1];rfl) _ (pL.trans sT)
   .rw[ae q1];refine fK ⟨_,Z,_,Z,p,_,_,_,Z,Z,i2 (sT _ _ (pL _ _ hp)),CA (by lia),_,Z,cY,Z,b1,b2,_,_,Z,Z,_,Z,?_⟩;by_cases q2:(2:Int)^(cY-1)-1<x.getD i 0
    .rw[ag q2];refine eZ ?_;refine⟨_,Z,_,Z,ra,_,Z,i3 (sT _ _ (pL _ _ qo)),_,_,Z,Z,.inl ⟨by lia,by lia⟩,_,Z,_,_,Z,Z,?_⟩;have e1:V.int (((0+(i:Int))*(kT.length:Int))+((r:Nat):Int))=V.int ((i*xs.length+r:Nat):Int):=by
      show V.int ((0+(i:Int))*(kT.length:Int)+(r:Int))=_;rw[rl];simp
     rw[e1];exact rz (by rw[hb,p2,ag (show(2:Int)^(cY-1)<=x.getD i 0 by lia),GG]) _ (pL.trans sT)
    .rw[ae q2];refine fK ⟨_,_,Z,pL.trans sT,λq hq=>?_⟩;by_cases e:q=i*xs.length+r
     .rw[e,hb,p2,ae q1,ae (by lia)];rfl
     .exact TQ q (by lia)
  .rintro σ H2 ⟨y3,y4,rfl,pL,TQ⟩;refine⟨_,_,_,Z,pL,λp hp=>TQ p ?_⟩;rw[Hh] at hp;lia
 .rintro σ H' ⟨y2,y3,y4,rfl,sm,oH⟩;exact kQ (Mx.find_none oH) H' sm
abbrev GI (t:fP)(dx ca:ke)(p:Nat):HO:=.ins t.ux dx [("calls",.ref ca),("place",.int p)]
def Nk:T.xI.Ok P w mg lQ jh 1 (Fp t.ux (λxs=>IP ["calls","place"] (xs++[.int 0])) 1):=by
 refine T.xI.ok λnd H vs Q E hr h=>?_;obtain⟨x,dx,xs,rfl,hl,hx,k⟩:=h;obtain⟨c,rfl⟩:=Mx.lc1 hl;refine .i (ao (ki (pv 0) (pv 1))
   (aH (ki (pv 0) aK))) ?_
 refine⟨_,Z,_,Z,Z,hx,T.kx,Z,Z,Z,?_⟩;refine⟨_,Z,Z,aq,T.kx,Z,Z,Z,?_⟩;rw[eG];exact k
inductive agF (K:au)(t:fP)(vs:b_)(H:Hp)(Q:VK)(E:XK):Prop|i(a dx ca:ke)(p:Nat)(l:bY)(_:vs=[.ref a])(_:H a=some (GI t dx ca p))(_:nN K H ca (l.map V.int))(_:Q (.bl (decide (p<l.length))) H)
def Ee:T.qQ.Ok P w mg lQ jh 1 (agF K t):=by
 refine T.qQ.ok λnd H vs Q E hr h=>?_;obtain⟨a,dx,ca,p,l,rfl,ha,hc,k⟩:=h;refine .i (aH (bz (pcm Fh (cQ (pv 0)) (Bt T.jc (ak (cQ (pv 0)) ax))))) ?_;refine⟨_,Z,Z,ha,T.kx,Z,Z,_,Z,Z,ha,T.kx,Z,Z,ca,_,Z,.inl hc,_,_,Z,Z,?_⟩;have e:decide ((p:Int)<(((l.map V.int).length:Nat):Int))=decide (p<l.length):=by
  rw[aB];by_cases h:p<l.length
  .rw[ag h,ag (by lia)]
  .rw[ae h,ae (by lia)]
 rw[<-e] at k;exact k
inductive Qr (K:au)(t:fP)(vs:b_)(H:Hp)(Q:VK)(E:XK):Prop|i(a dx ca:ke)(p n:Nat)(l:bY)(_:vs=[.ref a,.int n])(_:H a=some (GI t dx ca p))(_:nN K (but H a) ca (l.map V.int))(_:p+n<=l.length)(_:∀H' q,dE [a] H H'->H' a=some (GI t dx ca (p+n))->H' q=some (iL ((l.drop p).take n))->H q=none->Q (.ref q) H')
def me:T.iH.Ok P w mg lQ jh 1 (Qr K t):=by
 refine T.iH.ok λnd H vs Q E hr h=>?_;obtain⟨a,dx,ca,p,n,l,rfl,ha,hc,hp,k⟩:=h;refine .i (ao (fL 2 nd (cQ (pv 0)))
   (ao (ki (pv 0) (aX dz (pv 2) (pv 1)))
   (aH (bz (psl (cQ (pv 0)) (qv (pv 2)) (qv (cQ (pv 0)))))))) ?_
 refine⟨_,Z,Z,ha,T.kx,Z,Z,?_⟩;refine⟨_,Z,_,Z,_,_,Z,Z,_,Z,Z,ha,T.kx,Z,Z,tI [("calls",.ref ca),("place",.int ((p+n:Nat):Int))],?_⟩;refine⟨_,Z,Z,aq,T.kx,Z,Z,_,Z,_,Z,_,Z,Z,aq,T.kx,Z,Z,_,Z,ca,_,Z,abz.seq hc,λq nq=>?_⟩;have c1:dE [a] H (upd H a (GI t dx ca (p+n))):=dE.refl.d_ (by simp);have nqa:=(bO nq).1;refine k _ q (c1.tD (bO nq).2) (by rw[aF nqa.symm,aq]) ?_ (bO nq).2;rw[aq,OG (l.map V.int) p (p+n) (by simp;lia),show p+n-p=n by lia];show _=some (HO.lst (((l.drop p).take n).map V.int));rw[kh,lY]
inductive Qq (K:au)(t:fP)(vs:b_)(H:Hp)(Q:VK)(E:XK):Prop|i(a dx ca:ke)(p:Nat)(l:bY)(x:Int)(_:vs=[.ref a])(_:H a=some (GI t dx ca p))(_:nN K (but H a) ca (l.map V.int))(_:l[p]? =some x)(_:∀H',dE [a] H H'->H' a=some (GI t dx ca (p+1))->Q (.int x) H')
def rE:T.kC.Ok P w mg lQ jh 2 (Qq K t):=by
 refine T.kC.ok λnd H vs Q E hr h=>?_;obtain⟨a,dx,ca,p,l,x,rfl,ha,hc,hx,k⟩:=h;have hp:=(aN.mp hx).1;refine .i (aH (bz (J6 (qO (pv 0) T.kx T.iH (me T) hr bG (ak aK ax)) aK))) ?_;refine⟨_,Z,a,_,_,Z,ha,Z,a,dx,ca,p,1,l,Z,ha,hc,by lia,λH' q c e1 e2 n=>?_⟩;refine⟨q,_,_,.int x,Z,Z,i2 e2,at_of (j:=0) rfl ?_,k H' c e1⟩;rw[drop_cons hx];rfl
def To (c:dE [a] H H'):aC (but H a) (but H' a):=λb o e=>dQ.mpr ⟨(dQ.mp e).1,c.one (dQ.mp e).2 (dQ.mp e).1⟩
inductive Ux (K:au)(t:fP)(vs:b_)(H:Hp)(Q:VK)(E:XK):Prop|i(a dx ca:ke)(p n:Nat)(l:bY)(_:vs=[.ref a])(_:H a=some (GI t dx ca p))(_:nN K (but H a) ca (l.map V.int))(_:l[p]? =some (n:Int))(_:p+1+n<=l.length)(_:∀H' q,dE [a] H H'->H' a=some (GI t dx ca (p+1+n))->H' q=some (iL ((l.drop (p+1)).take n))->H q=none->Q (.ref q) H')
def kg:T.iC.Ok P w mg lQ jh 3 (Ux K t):=by
 refine T.iC.ok λnd H vs Q E hr h=>?_;obtain⟨a,dx,ca,p,n,l,rfl,ha,hc,hx,hp,k⟩:=h;refine .i (aH (bz (qO (pv 0) T.kx T.iH (me T) hr bG (ak (Fj (pv 0) T.kx T.kC (rE T) hr bG) ax)))) ?_;refine⟨_,Z,a,_,_,Z,ha,Z,_,Z,a,_,_,Z,ha,Z,a,dx,ca,p,l,n,Z,ha,hc,hx,λH1 c1 e1=>?_⟩;refine⟨a,dx,ca,p+1,n,l,Z,e1,(To c1).seq hc,hp,λH2 q c2 e2 e3 n2=>k H2 q (c1.trans c2) e2 e3 (fU c1 e1 n2)⟩
abbrev JU (t:fP)(dx:ke)(lv:V):HO:=.ins t.qj dx [("learnt",lv)]
def KN:T.vA.Ok P w mg lQ jh 1 (Fp t.qj (λ_=>[("learnt",.gS)]) 0):=by
 refine T.vA.ok λnd H vs Q E hr h=>?_;obtain⟨x,dx,xs,rfl,hl,hx,k⟩:=h;obtain rfl:xs=[]:=di hl;refine .i (aH (ki (pv 0) Sb)) ?_;exact⟨_,Z,Z,hx,T.nF,Z,Z,Z,k⟩
inductive agv (t:fP)(vs:b_)(H:Hp)(Q:VK)(E:XK):Prop|i(a dx:ke)(lv:V)(_:vs=[.ref a])(_:H a=some (JU t dx lv))(_:∀H' q,dE [a] H H'->H' a=some (JU t dx .gS)->H' q=some (iL [0])->H q=none->Q (.ref q) H')
def z_:T.nX.Ok P w mg lQ jh 1 (agv t):=by
 refine T.nX.ok λnd H vs Q E hr h=>?_;obtain⟨a,dx,lv,rfl,ha,k⟩:=h;refine .i (ao (ki (pv 0) Sb)
   (aH (bz (eE (ak aK ax))))) ?_
 refine⟨_,Z,Z,ha,T.nF,Z,Z,tI [("learnt",.gS)],by rw[aE];simp,λq nq=>?_⟩;have nqa:=(bO nq).1;exact k _ q ((dE.refl.d_ (by simp)).tD (bO nq).2) (by rw[aF nqa.symm,aq]) (by rw[aq];rfl) (bO nq).2
inductive acX (t:fP)(vs:b_)(H:Hp)(Q:VK)(E:XK):Prop|i(a b:ke)(l:ig)(_:vs=[.ref a,.ref b])(_:H b=some (.lst ((nI l).map V.int)))(_:∀x∈l,x<256)(_:l.length<=4000)(_:(∀e,w6 (nI l)=.error e->GF t E [] H 1 e)/\∀h,w6 (nI l)=.ok h->(((pO (l.take 12++[0,0,0,0]++l.drop 16):Nat):Int)≠h.check->GF t E [] H 2 12)/\(((pO (l.take 12++[0,0,0,0]++l.drop 16):Nat):Int)=h.check->NL H Q [0,h.key,h.rows,h.bits,h.cut,h.lanes,h.times]))
def Bo:T.oQ.Ok P w mg lQ (tO P w t.bI) 12 (acX t):=by
 refine T.oQ.xE λnd H vs Q E hr h=>?_;obtain⟨a,b,l,rfl,hb,hl,hz,kE,kQ⟩:=h;refine .i (ao (fL 2 nd (kq T.yW (Jf T) hr aY.passes (ak (pv 1) ax)))
   (aH (bz (eE (ak aK (ak (cQ (pv 2)) (ak (cQ (pv 2)) (ak (cQ (pv 2)) (ak (cQ (pv 2)) (ak (cQ (pv 2)) (ak (cQ (pv 2)) ax))))))))))) ?_
 refine⟨_,Z,b,l,Z,hb,hl,hz,kE,λh hh=>⟨(kQ h hh).1,λhc v H' sm hv=>?_⟩⟩;obtain⟨ha,dh,wv,rfl,h1,_⟩:=hv;have h1:=iK _ _ h1;refine⟨_,Z,Z,h1,T.dS,Z,Z,_,Z,Z,h1,T.dS,Z,Z,_,Z,Z,h1,T.dS,Z,Z,_,Z,Z,h1,T.dS,Z,Z,_,Z,Z,h1,T.dS,Z,Z,_,Z,Z,h1,T.dS,Z,Z,by rw[aE];simp,λq nq=>?_⟩;exact(kQ h hh).2 hc _ q (sm.trans (aC.upd nq)) (by rw[aq];rfl) (sm.free nq)
structure W4 (st:aW)(f:bN)(aS:bY)(xs:ly):Prop where
 fe:st.form=f
 so:DB st
 s4:aS.length=4
 sr:∀v∈aS,-128<=v/\v<=127
 xl:xs.length=f.rows.length
 xn:∀x∈xs,x.length<=1000
 xf:∀x∈xs,∀v∈x,cA f v=true
inductive agC (K:au)(t:fP)(vs:b_)(H:Hp)(Q:VK)(E:XK):Prop|i(la dx:ke)(fv0:V)(fl el:ke)(yf:b_)(av:V)(fA:Int)(f:bN)(fv:V)(aS:bY)(xs:ly)(st:aW)(_:vs=[.ref la,av])(_:H la=some (LnO t dx fv0 fl el))(_:H el=some (.lst yf))(_:AsA t fA f fv aS xs av H)(_:W4 st f aS xs)(_:yf.length=xs.length)(_:∀(i:Nat) l e,st.rows[i]? =some l->yf[i]? =some e->ErA K l.eps e H)(_:∀(H':Hp) (p Rr:ke) (pvs Vh:b_),dE [la] H H'->H' la=some (LnO t dx fv0 fl Rr)->H' Rr=some (.lst Vh)->H Rr=none->H p=none->H' p=some (.lst pvs)->Paired (λc v=>IsL c.1 v (nw H H')) (dH st aS xs) pvs->Paired (λc v=>IsL c.2 v (nw H H')) (dH st aS xs) Vh->Q (.ref p) H')
def CU:T.tR.Ok P w mg lQ jh 4 (agC K t):=by
 refine T.tR.ok λnd H vs Q E hr h=>?_;obtain⟨la,dx,fv0,fl,el,yf,av,fA,f,fv,aS,xs,st,rfl,hla,hel,⟨aa,da,sa,ra,kT,rfl,haa,N5,hsa,qo,pr⟩,ci,evl,her,k⟩:=h;obtain⟨rfl,so,hs4,hsr,hxl,hxn,hxf⟩:=ci;have g:=so.fg;have r4:=g.r4;have rl:xs.length=kT.length:=dR pr;refine .i (ao (fL 2 nd (eE ax))
   (ao (fL 3 nd (eE ax))
   (ao (gY PassesOwn.never rfl (Br rfl T.IT (ak (cQ (pv 1)) (ak (cQ (pv 0)) ax))) (yK rfl (fm (mv 4 nd) (fm (mv 5 nd) pj)))
    (ao (fL 6 nd (J7 T.W9 T.Vp T.ud (IY T) hr bG (ak (cQ (pv 1)) (ak (cQ (pv 1)) (ak (pv 5) ax)))))
   (ao (cS (pap (pv 2) (ak (GW [("x",7)] nd (fB (pv 4)) (mv 7 nd) (qO (pv 6) T.iG T.ue (IZ T) hr bG (ak (pv 7) ax))) ax)))
   (aH (cS (pap (pv 3) (ak (cQ (pv 6)) ax)))))))
   (ao (ki (pv 0) (pv 3))
   (aH (bz (pv 2))))))) ?_
 refine⟨by rw[aE];simp,λkp hkp=>⟨by rw[aE];simp,λMM afy=>?_⟩⟩;have nkp:H kp=none:=hkp;have ner:H MM=none:=(bO afy).2;have nek:MM≠kp:=(bO afy).1;have s1:aC H (upd (upd H kp (.lst [])) MM (.lst [])):=(aC.upd hkp).trans (aC.upd afy);obtain⟨H1,eH1⟩:∃H1,H1=upd (upd H kp (.lst [])) MM (.lst []):=⟨_,Z⟩;have k1:H1 kp=some (.lst []):=by rw[eH1,aF nek.symm,aq]
 have k2:H1 MM=some (.lst []):=by rw[eH1,aq]
 have fr1:∀b,H b=none->b≠kp->b≠MM->H1 b=none:=λb e1 e2 e3=>by rw[eH1,aF e3,aF e2];exact e1
 rw[<-eH1] at s1|-
 refine⟨_,Z,Z,s1 _ _ haa,T.jC,Z,Z,_,Z,Z,s1 _ _ hla,T.fS,Z,Z,ra,el,kT,yf,Z,i2 (s1 _ _ qo),i2 (s1 _ _ hel),?_⟩;refine TJ (xs:=kT) (ys:=yf) (n:=xs.length) (λi σ Hc=>X6 λy4 y5 y6 y7 cf zy=>C6 (σ=[some (.ref la),some (.ref aa),some (.ref kp),some (.ref MM),y4,y5,y6,y7]) (aC H Hc) (Hc kp=some (.lst cf)) (Hc MM=some (.lst zy)) (Paired (λc v=>IsL c.1 v (nw H1 Hc)) ((dH st aS xs).take i) cf) (Paired (λc v=>IsL c.2 v (nw H1 Hc)) ((dH st aS xs).take i) zy))
  ⟨none,none,none,none,[],[],Z,s1,k1,k2,.nil,.nil⟩ rl.symm evl ?_ ?_ ?_
 .rintro i σ Hc _ ⟨_,_,_,_,_,_,_,sm,_,_,_,_⟩;exact⟨i2 (sm _ _ qo),i2 (sm _ _ hel)⟩
 .rintro i σ Hc rv ev Tt hi ⟨y4,y5,y6,y7,cf,zy,rfl,sm,hk,he,pk,pz⟩ hrv Lw nT;obtain⟨x,hx,rp,rfl,hrp⟩:=iS pr hrv;obtain⟨l,hl⟩:=Mx.get_some (show i<st.rows.length by rw[so.ln];lia);obtain⟨lS,WR⟩:=Mx.get_some (show i<st.form.rows.length by lia);obtain⟨o1,o2,o3⟩:=so.ok i lS l WR hl;have er1:=her i l ev hl Lw;have hC:=qD (aS:=aS) hx hl;have hxm:=az hx;have xn:=hxn x hxm;have kl:cf.length=i:=by rw[<-dR pk,cP,i_];lia
  have zl:zy.length=i:=by rw[<-dR pz,cP,i_];lia
  have sT:aC Hc (upd Hc Tt (.tup [.ref rp,ev])):=aC.upd nT;refine⟨Tt,_,Z,i2 aq,Z,_,_,Z,_,_,Z,Z,?_⟩;refine⟨_,Z,Z,sT _ _ (sm _ _ haa),T.jC,Z,Z,_,Z,Z,sT _ _ (sm _ _ haa),T.jC,Z,Z,_,Z,λc dc m1 m2 m3=>?_⟩;have nc:Hc c=none:=sT.free m1;have ncH:H c=none:=sm.free nc;have sB:aC H (but (upd (upd (upd Hc Tt (.tup [.ref rp,ev])) dc (.own c)) c (.ins t.gq dc [])) c):=λb o e=>dQ.mpr ⟨aI e ncH,gA m1 m2 _ _ (sT _ _ (sm _ _ e))⟩;refine⟨c,dc,sa,fv,ev,st.form,l.eps,Z,aq,N5.same sB,g,er1.same sB,λH2 ea c2 hc2 hea Ud=>⟨Z,?_⟩⟩;have sC:aC Hc H2:=dE.back (sT.trans (gA m1 m2)) c2 (λq hq=>by rw[show q=c from by simpa using hq];exact nc);have sH2:aC H H2:=sm.trans sC;refine⟨_,Z,L0 (sC _ _ hk),_,Z,rp,Z,⟨_,i2 (sH2 _ _ hrp)⟩,λD hD=>?_⟩;have nD:Hc D=none:=sC.free hD;have Dc:D≠c:=b8 hc2 hD;have rpc:rp≠c:=aI hrp ncH;have sac:sa≠c:=aI hsa ncH;refine IH (xs:=x.map V.int) (K:=K) (λj dM H'=>∃Lq,C6 (dE [c] H2 H') (H' c=some (CtO t dc st.form sa Lq)) (H' Lq=some (iL (abf st.form aS l.eps (x.take j)).2)) (Lq≠D) (Hc Lq=none) (dM=((abf st.form aS l.eps (x.take j)).1).map V.int))
   (by rw[aE];simp;lia) ⟨ea,dE.refl.tD hD,by rw[aF Dc.symm];exact hc2,?_,?_,?_,Z⟩ (λj dM H' _ ⟨_,z1,_,_,_,_,_⟩=>i2 (z1.one (sH2 _ _ hrp) rpc)) ?_ λj dM H' u Q' hj iQ eD ⟨Lq,z1,z2,z3,zD,zH,z4⟩ hu k3=>?_
  .rw[aF (aI hea hD)];exact hea
  .rintro rfl;rw[hea] at hD;cases hD
  .exact sT.free ((gA m1 m2).free Ud)
  .rintro dM H' iQ eD ⟨Lq,z1,z2,z3,zD,zH,z4⟩;rw[aB,gj] at z3 z4;have sF:aC Hc H':=dE.back sC z1 (λq hq=>by rw[show q=c from by simpa using hq];exact nc);have hk':=sF _ _ hk;have he':=sF _ _ he;have Dk:D≠kp:=b8 hk nD;have De:D≠MM:=b8 he nD;have ek:Lq≠kp:=b8 hk zH;have ee:Lq≠MM:=b8 he zH;have ck:c≠kp:=b8 hk nc;refine⟨kp,_,_,Z,Z,hk',by rw[aE];lia,?_⟩;refine⟨_,Z,L0 (by rw[aF nek];exact he'),_,Z,Z,by rw[aF ck];exact z2,T.iG,Z,Z,MM,_,_,Z,Z,by rw[aF nek];exact he',by rw[aE];lia,?_⟩;have cc:dE [kp,MM] Hc (upd (upd H' kp (.lst (cf++[.ref D]))) MM (.lst (zy++[.ref Lq]))):=((sF.chg (S:=[kp,MM])).d_ (by simp)).d_ (by simp);have nn:aC (nw H1 Hc) (nw H1 (upd (upd H' kp (.lst (cf++[.ref D]))) MM (.lst (zy++[.ref Lq])))):=Ue cc λq hq=>by
    rcases bo.mp hq with e|e
    .rw[e,k1];rfl
    .rw[f_.mp e,k2];rfl
   refine⟨some (.ref rp),some ev,some (.ref c),y7,cf++[.ref D],zy++[.ref Lq],Z,λb o e=>?_,by rw[aF nek.symm,aq],aq,?_,?_⟩
   .rw[aF (aI e ner),aF (aI e nkp)];exact sF _ _ (sm _ _ e)
   .rw[Mx.take_snoc hC];refine Paired.snoc (Paired.lR pk λx v q=>q.same nn) ⟨D,Z,aT.mpr ⟨fr1 D (sm.free nD) Dk De,?_⟩⟩;rw[aF De,aF Dk,<-z4];exact eD
   .rw[Mx.take_snoc hC];refine Paired.snoc (Paired.lR pz λx v q=>q.same nn) ⟨Lq,Z,aT.mpr ⟨fr1 Lq (sm.free zH) ek ee,?_⟩⟩;rw[aF ee,aF ek];exact z3
  .have hj':j<x.length:=by simpa using hj
   have hxj:x[j]? =some (x[j]'hj'):=aD hj';rw[aw,hxj] at hu;cases hu;have fit:=hxf x hxm _ (az hxj);have eo:=A2 g hs4 o2 (x.take j) (λv hv=>hxf x hxm v (fb hv));have c1:=Lj g hs4 eo fit;have et:=OF st.form aS l.eps (x.take j) (x[j]'hj');rw[<-Mx.take_snoc hxj,c1] at et;refine⟨Z,_,Z,c,_,_,Z,z2,Z,_,Z,c,dc,sa,Lq,st.form,aS,_,_,Z,z2,z1.one (sH2 _ _ hsa) sac,z3,g,hs4,eo.len,hsr,λH4 e4 c4 h4 g4 n4=>?_⟩;have eD4:=c4.one eD Dc;have e4D:e4≠D:=b8 eD n4;refine k3 _ H4 eD4 ⟨e4,(z1.trans c4).tD hD,by rw[aF Dc.symm];exact h4,?_,e4D,?_,?_⟩
   .rw[aF e4D,et];exact g4
   .have sF:aC Hc H':=dE.back sC z1 (λq hq=>by rw[show q=c from by simpa using hq];exact nc);exact sF.free n4
   .rw[et,z4];simp
 .rintro σ Hc ⟨y4,y5,y6,y7,cf,zy,rfl,sm,hk,he,pk,pz⟩;have hC:(dH st aS xs).take xs.length=dH st aS xs:=cn (by rw[i_];lia);rw[hC] at pk pz;have nkl:kp≠la:=b8 hla nkp;have nel:MM≠la:=b8 hla ner;refine⟨_,Z,_,Z,Z,sm _ _ hla,T.fS,Z,Z,tI [("frame",fv0),("filters",.ref fl),("errors",.ref MM)],_,Z,?_⟩;have nn:aC (nw H1 Hc) (nw H (upd Hc la (LnO t dx fv0 fl MM))):=λb o e=>by
   obtain⟨q1,q2⟩:=aT.mp e;have q3:=s1.free q1;exact aT.mpr ⟨q3,by rw[aF (b8 hla q3)];exact q2⟩
  exact k _ kp MM cf zy (sm.chg.d_ (by simp)) aq (by rw[aF nel];exact he) ner nkp (by rw[aF nkl];exact hk) (Paired.lR pk λx v q=>q.same nn) (Paired.lR pz λx v q=>q.same nn)
open Classical in
noncomputable def unG (Gs:Nat->Hp)(H:Hp):Hp:=λb=>if∃i,Gs i b≠none then H b else none
open Classical in
noncomputable def exG (Gs:Nat->Hp)(H:Hp):Hp:=λb=>if∃i,Gs i b≠none then none else H b
def Dl {b:ke}:unG Gs H b=some o↔(∃i,Gs i b≠none)/\H b=some o:=by
 unfold unG;split
 .rename_i h;exact⟨λe=>⟨h,e⟩,λe=>e.2⟩
 .rename_i h;exact⟨(λe=>by cases e),λe=>absurd e.1 h⟩
def Cg {b:ke}:exG Gs H b=some o↔(∀i,Gs i b=none)/\H b=some o:=by
 unfold exG;split
 .rename_i h;exact⟨(λe=>by cases e),λe=>by obtain⟨i,hi⟩:=h;exact absurd (e.1 i) hi⟩
 .rename_i h;exact⟨λe=>⟨λi=>gI λq=>h ⟨i,q⟩,e⟩,λe=>e.2⟩
def Eu (h:aC F H'):aC (nw H H') (vt F (nw H H')):=λb o e=>by
 unfold vt;cases q:F b with
 |none=>exact e
 |some o'=>have:=h _ _ q;rw[(aT.mp e).2] at this;cases this;rfl
structure aeN (t:fP)(F H0 H2 F2 G0:Hp)(Gs:Nat->Hp)(st:aW)(jV:b_)(a:ke):Prop where
 fs:abb t F2 G0 H2 Gs st.form.rows st.rows jV
 s0:aC H0 H2
 f0:F a=none
 f1:aC F F2
 f2:aC F2 (but (vt F (nw H0 H2)) a)
 f3:∀b o,H2 b=some o->H0 b=none->b≠a->(∀i,Gs i b=none)->F2 b=some o
 g0:∀b,G0 b≠none->H0 b=none
 ga:G0 a=none
def LnS.fil {fl el:ke}{jV yf:b_}(z:LnS t K F H0 H st a dx fv fl el jV yf Gs)(s0:aC H0 H)(c:dE [a] H H2):aeN t F H0 H2 (but (exG Gs (vt F (nw H0 H2))) a) (unG Gs H2) Gs st jV a:=by
 have s02:aC H0 H2:=dE.back s0 c (λq hq=>by rw[show q=a from by simpa using hq];exact z.na);have sF2:aC F H2:=λb o e=>c.one (z.fH _ _ e) (aI e z.fa);have gs2:∀i,aC (Gs i) (nw H0 H2):=λi b o e=>by
  obtain⟨q1,q2⟩:=aT.mp (z.gs i _ _ e);exact aT.mpr ⟨q1,c.one q2 (aI e (z.ga i))⟩
 have f1:aC F (but (exG Gs (vt F (nw H0 H2))) a):=λb o e=>dQ.mpr ⟨aI e z.fa,Cg.mpr ⟨λi=>(z.af i b).resolve_left (by rw[e];simp),Fs _ _ e⟩⟩;refine⟨⟨⟨fz.refl,λi b o e=>bC.mpr ⟨.inl ?_,iK _ _ (gs2 i _ _ e)⟩,z.ap⟩,λb o e=>?_,λb o e=>(Dl.mp e).2,λb=>?_,z.l1,z.l2,λi rw l v h1 h2 h3=>?_⟩,s02,z.fa,f1,λb o e=>dQ.mpr ⟨(dQ.mp e).1,(Cg.mp (dQ.mp e).2).2⟩,λb o e1 e2 e4 e3=>dQ.mpr ⟨e4,Cg.mpr ⟨e3,Eu sF2 _ _ (aT.mpr ⟨e2,e1⟩)⟩⟩,λb hb=>?_,?_⟩
 .rw[Dl.mpr ⟨⟨i,by rw[e];simp⟩,iK _ _ (gs2 i _ _ e)⟩];rfl
 .exact JJ sF2 iK _ _ (Cg.mp (dQ.mp e).2).2
 .cases e:but (exG Gs (vt F (nw H0 H2))) a b with
  |none=>exact .inl rfl
  |some o=>
   refine .inr ?_;cases e2:unG Gs H2 b with
   |none=>rfl
   |some o2=>obtain⟨i,hi⟩:=(Dl.mp e2).1;exact absurd ((Cg.mp (dQ.mp e).2).1 i) hi
 .obtain⟨q1,q2⟩:=z.at_ i rw l v h1 h2 h3;exact⟨q1.same f1 (aC.refl _),q2⟩
 .cases e2:unG Gs H2 b with
  |none=>exact absurd e2 hb
  |some o2=>
   obtain⟨i,hi⟩:=(Dl.mp e2).1;cases e3:Gs i b with
   |none=>exact absurd e3 hi
   |some o3=>exact(aT.mp (z.gs i _ _ e3)).1
 .cases e2:unG Gs H2 a with
  |none=>rfl
  |some o2=>obtain⟨i,hi⟩:=(Dl.mp e2).1;exact absurd (z.ga i) hi
structure amz (F H0 H2 H4 F2:Hp)(JR:Nat->Hp)(a:ke):Prop where
 s0:aC H0 H4
 sF:aC F H4
 f2:aC F2 (but (vt F (nw H0 H4)) a)
 gs:∀i,aC (JR i) (but (vt F (nw H0 H4)) a)
 ka:∀o,H2 a=some o->H4 a=some o
def aeN.done {H3 H4 F2:Hp}{JR:Nat->Hp}{jV:b_}{o0:HO}(q:aeN t F H0 H2 F2 G0 Gs st jV a)(ha:H2 a=some o0)(r_:G8 G0 H2 H3 JR)(s4:aC H3 H4):amz F H0 H2 H4 F2 JR a:=by
 have nG:∀b,H0 b≠none->G0 b=none:=λb h=>gI λn=>h (q.g0 b n);have sF2:aC F2 H4:=λb o e=>s4 _ _ (r_.keep b o (q.fs.sF _ _ e) ((q.fs.ap b).resolve_left (by rw[e];simp)));have sF4:aC F H4:=q.f1.trans sF2;refine⟨λb o e=>s4 _ _ (r_.keep b o (q.s0 _ _ e) (nG b (by rw[e];simp))),sF4,λb o e=>?_,λi b o e=>?_,λo e=>s4 _ _ (r_.keep a o e q.ga)⟩
 .have h2:=dQ.mp (q.f2 _ _ e);refine dQ.mpr ⟨h2.1,?_⟩;cases h:F b with
  |some o'=>
   have:=q.f1 _ _ h;rw[e] at this;cases this;exact Fs _ _ h
  |none=>
   have h3:=h2.2;unfold vt at h3;rw[h] at h3;have h3:nw H0 H2 b=some o:=h3;exact Eu sF4 _ _ (aT.mpr ⟨(aT.mp h3).1,sF2 _ _ e⟩)
 .have hg:=r_.sub i _ _ e;obtain⟨h1,h2⟩:=bC.mp hg;refine dQ.mpr ⟨(aI hg (cU ha q.ga)),Eu sF4 _ _ (aT.mpr ⟨?_,s4 _ _ h2⟩)⟩;rcases h1 with h1|h1
  .exact q.g0 b (isS.mp h1)
  .exact q.s0.free h1
def aby:aC (but (vt F (nw H0 H)) a) (vt F (nw H0 (upd H a o))):=λb u e=>by
 obtain⟨e1,e2⟩:=dQ.mp e;unfold vt at e2|-
 split at e2
 .rename_i q;rw[aj q];exact e2
 .rename_i q;rw[ah q];exact aT.mpr ⟨(aT.mp e2).1,by rw[aF e1];exact(aT.mp e2).2⟩
def oZ (h:n<256):br (k8 n)=[(n:Int)]:=by
 show[(((AW n).toNat:Nat):Int)]=_;rw[show(AW n).toNat=n from by rw[Xl];exact n_ h]
theorem we {α:Type}{g:α->cb}{h:α->bY}:∀l:List α,(∀a∈l,br (g a)=h a)->br (l.flatMap g)=l.flatMap h
 |[],_=>rfl
 |a::l,q=>by rw[cj,cj,bP,q a (aU ..),we l λx m=>q x (aP _ m)]
def ZU (g:iw s):br (US s)=qL s:=by
 unfold qL US;have h1:s.scale<256:=by have:=g.2.2.2.2.1;lia
 rw[bP,bP,bP,bP,oZ h1,sk,sk,oZ (by split<;>lia),show br (gH 2 0)=[0,0] from by decide];unfold Mx.kindOf;cases s.wide<;>simp
theorem O_:∀l:ig,(l.flatMap λ(j:Nat)=>[(j:Int)])=l.map λ(j:Nat)=>(j:Int)
 |[]=>rfl
 |a::l=>by rw[cj,O_ l];rfl
def Vn (g:Mx.FG f):br (DI f)=t9 qL (f.rows,f.joint):=by
 have e1:br (f.rows.flatMap W7)=f.rows.flatMap (LV qL):=we f.rows λr hr=>by
  have w:=g.lS r hr;unfold W7 LV;rw[bP,bP,oZ (by have:=w.fx;lia),oZ (n:=r.stages.length) (by have:=w.sn;lia),we r.stages (h:=qL) λs hs=>ZU (w.st s hs)];rfl
 have e2:br (f.joint.flatMap k8)=f.joint.flatMap (λ(j:Nat)=>[(j:Int)]):=we f.joint λj hj=>oZ (n:=j) (by have:=g.j3 j hj;lia);unfold DI t9;rw[bP,e1,e2,O_]
def Ke.eps {r:bL}{l:bT}{e:bY}(h:Ke t F G r l v):Ke t F G r {l with eps:=e} v:=by
 obtain⟨a,dx,rv,bf,sf,vs,Gs,q,z⟩:=h;exact⟨a,dx,rv,bf,sf,vs,Gs,q,z.ob,z.lS,z.hb,z.hs,z.WV,z.vl,z.sub,z.na,z.nb,z.ns,z.ap,z.st⟩
def h12 (kb:Bool)(f:bN)(n:Nat):cb:=[0x4C,0x53]++(k8 (if kb=true then 1 else 0)++(k8 f.rows.length++(k8 f.bits++(k8 f.cut++(k8 f.lanes++(k8 0++gH 4 n))))))
def abO (kb:Bool)(f:bN)(n:Nat):(h12 kb f n).length=12:=by simp[h12,k8,zh]
def Iq (kb:Bool)(f:bN)(n c:Nat):DJ kb f n c=h12 kb f n++gH 4 c:=by simp[DJ,h12]
def Yc (hk:fA=0\/fA=1)(g:Mx.FG f)(n:Nat):br (h12 (decide (fA=1)) f n)=[76,83,fA,(f.rows.length:Int),(f.bits:Int),(f.cut:Int),(f.lanes:Int),0]++zg n 4:=by
 have r4:=g.r4;have b2:=g.b2;have c:=g.c;have T_:f.lanes<256:=by rcases g.l with h|h|h|h<;>lia
 unfold h12;rw[bP,bP,bP,bP,bP,bP,bP,oZ (n:=if decide (fA=1)=true then 1 else 0) (by split<;>lia),oZ (n:=f.rows.length) (by lia),oZ (n:=f.bits) (by lia),oZ (n:=f.cut) (by lia),oZ T_,oZ (n:=0) (by decide),sk,show br [0x4C,0x53]=[76,83] from by decide];rcases hk with h|h<;>subst h<;>rfl
def U8 (hk:fA=0\/fA=1)(g:Mx.FG f)(n:Nat)(bQ:cb):∃l:ig,(∀b∈l,b<256)/\Pd fA f n++br bQ=nI l/\OC (nI l) (pO l)=br (tL (decide (fA=1)) f n bQ):=by
 obtain⟨rest,ad2⟩:∃rest,rest=(if decide (fA=1)=true then DI f else[])++bQ:=⟨_,Z⟩;obtain⟨h,hh⟩:∃h,h=h12 (decide (fA=1)) f n:=⟨_,Z⟩;have hl:h.length=12:=by rw[hh,abO]
 have e0:DJ (decide (fA=1)) f n 0++rest=h++(gH 4 0++rest):=by rw[Iq,hh,cC]
 have er:br rest=(if fA=1 then t9 qL (f.rows,f.joint) else[])++br bQ:=by
  rw[ad2,bP];rcases hk with q|q<;>subst q
  .rfl
  .rw[aj (by decide),aj rfl,Vn g]
 have z4:br (gH 4 0)=zg 0 4:=(sk 4 0).symm;have lb:∀b∈(h++(gH 4 0++rest)).map (λ(c:UInt8)=>c.toNat),b<256:=λb hb=>by
  obtain⟨c,_,rfl⟩:=bj.mp hb;exact c.toNat_lt
 have eI:br (h++(gH 4 0++rest))=nI ((h++(gH 4 0++rest)).map (λ(c:UInt8)=>c.toNat)):=by
  unfold br nI;rw[ji];rfl
 have t12:∀(r:List UInt8),(h++r).take 12=h:=λr=>by rw[<-hl];exact NZ ..
 have d16:(h++(gH 4 0++rest)).drop 16=rest:=by
  rw[<-cC];have:(h++gH 4 0).length=16:=by rw[aO,hl,zh]
  rw[<-this];exact ahe ..
 have ck:eJ (h++(gH 4 0++rest))=pO ((h++(gH 4 0++rest)).map (λ(c:UInt8)=>c.toNat)):=by
  rw[<-XB _ lb];unfold eJ;rw[t12,d16];rfl
 refine⟨_,lb,?_,?_⟩
 .rw[<-eI,bP,bP,z4,er,hh,Yc hk g];unfold Pd;simp only[cC]
 .have eb:tL (decide (fA=1)) f n bQ=h++(gH 4 (eJ (h++(gH 4 0++rest)))++rest):=by
   unfold tL;simp only;rw[<-ad2,e0,Iq,<-hh,cC]
  rw[eb,ck,<-eI];unfold OC;have b1:(br (h++(gH 4 0++rest))).take 12=br h:=by
   unfold br;rw[<-kh,t12]
  have b2:(br (h++(gH 4 0++rest))).drop 16=br rest:=by
   unfold br;rw[<-lY,d16]
  rw[b1,b2,bP,bP,sk,cC]
theorem Ih {α:Type}{f:α->bY}{c:Nat}(h:∀x,(f x).length=c):∀l:List α,(l.flatMap f).length=c*l.length
 |[]=>rfl
 |a::l=>by rw[cj,aO,Ih h l,h a,aZ,lG];lia
theorem Jt {n:Nat}:∀(l:List (Nat×Nat)) (i:Nat),(dP n i l).2.length<=l.length
 |[],i=>bq 0
 |(b,s)::r,i=>by
  show((i6 ((dP n (i+1) r).1.getD (i%n) 0) b s).1.toList++(dP n (i+1) r).2).length<=_;have:=Jt (n:=n) r (i+1);rw[aO,aZ];have h:(i6 ((dP n (i+1) r).1.getD (i%n) 0) b s).1.toList.length<=1:=by
   cases(i6 ((dP n (i+1) r).1.getD (i%n) 0) b s).1<;>simp
  lia
def Va {es:ly}{n:Nat}(h1:1<=ay)(h2:ay<=16)(h3:es.length<=4)(h4:n<=64):(OE ay es n).length<=5000:=by
 rw[<-LM h1];unfold PZ;rw[aO,Ih (λx=>jk _ 4),Ih (λx=>jk _ 2),t7];have a:=Jt (n:=ay) (Gu ay (oo (es.map λ(l:bY)=>l.map j7) n) ⟨fO es.length,[],[]⟩).out 0;have b:=(Ju ay (oo (es.map λ(l:bY)=>l.map j7) n) ⟨fO es.length,[],[]⟩).1;have c:(oo (es.map λ(l:bY)=>l.map j7) n).length<=16*es.length*((n+15) / 16):=by
  rw[Jj];have:=zk (es.map λ(l:bY)=>l.map j7) (es.map λ(l:bY)=>l.map j7).length ((n+15) / 16);rw[aB] at this|-
  exact this
 have d:16*es.length*((n+15) / 16)<=16*4*4:=uW (oF _ h3) (by lia);simp only[dW] at b;lia
inductive V0 (K:au)(t:fP)(vs:b_)(H:Hp)(Q:VK)(E:XK):Prop|i(lv av:V)(H0 F:Hp)(st:aW)(fA:Int)(f:bN)(fv:V)(aS:bY)(xs:ly)(n:Nat)(_:vs=[lv,av])(_:aC H0 H)(_:UR t K F H0 H st lv)(_:AsA t fA f fv aS xs av H0)(_:W4 st f aS xs)(_:∀x∈xs,x.length=n)(_:1<=n)(_:n<=64)(_:fA=0\/fA=1)(_:∀H' p,aC H0 H'->LnP t K (vt F (nw H0 H')) (dt st (decide (fA=1)) aS xs n).2 lv->H0 p=none->H' p=some (iL (br (dt st (decide (fA=1)) aS xs n).1))->(dt st (decide (fA=1)) aS xs n).1.length<=10000->Q (.ref p) H')
def PQ:T.AO.Ok P w mg lQ jh 9 (V0 K t):=by
 refine T.AO.ok λnd H vs Q E hr h=>?_;obtain⟨lv,av,H0,F,st,fA,f,fv,aS,xs,n,rfl,s0,⟨la,dx,fv0,fl,el,jV,yf,Gs,rfl,z⟩,JX,ci,hn,n1,CK,hk,k⟩:=h;obtain⟨aa,da,sa,ra,kT,rfl,haa,avh,hsa,qo,pr⟩:=id JX;obtain⟨fa,dfa,wv,rfl,JY,⟨wa,dw,rwa,ja,uQ,rfl,WT,afJ,prw,QF⟩⟩:=id z.fr;have sF:=z.fH;have fe:=ci.fe;have so:=ci.so;have xl:=ci.xl;have g:=so.fg;have r1:=g.r1;have r4:=g.r4;have WL:=z.l1;have RQ:=z.l2;have hl3:=z.l3;rw[<-fe] at xl;have rl:kT.length=xs.length:=(dR pr).symm;have xf:∀x∈xs,∀v∈x,cA st.form v=true:=by rw[fe];exact ci.xf
 refine .i (ao (fL 2 nd (cQ (pv 0)))
   (ao (fL 3 nd (kq T.AR (PU T) hr bG (ak (cQ (pv 0)) (ak (cQ (cQ (pv 2))) (ak (kq T.tR (CU T) hr bG (ak (pv 0) (ak (pv 1) ax))) ax)))))
   (ao (fL 4 nd (kq T.vD (KP T) hr bG (ak (cQ (pv 1)) (ak (pv 2) (ak (Bt T.jc (ak (J6 (cQ (pv 1)) aK) ax)) ax)))))
   (aH (bz (kq T.G6 (VL T) hr bG (ak (aX mP (pv 4) (kq T.sx (Gm T) hr bG (ak (pv 3) (ak (cQ (pv 2)) ax)))) ax))))))) ?_
 refine⟨_,Z,Z,z.ob,T.fS,Z,Z,_,Z,Z,z.ob,T.fS,Z,Z,_,Z,Z,sF _ _ JY,T.dA,Z,Z,Z,sF _ _ WT,T.xG,Z,Z,_,Z,_,Z,?_⟩;refine⟨la,dx,.ref fa,fl,el,yf,.ref aa,fA,f,fv,aS,xs,st,Z,z.ob,z.he,JX.same s0,ci,by lia,λi l e h1 h2=>(z.er i l e h1 h2).same sF,λH2 kp Rr cf Vh c2 afB an5 aj9 nkp hkp pk pe=>?_⟩;have q:=z.fil s0 c2;have noG:∀b,H b=none->∀i,Gs i b=none:=λb hb i=>((z.gs i).trans iK).free hb;have abG:fl≠la:=by intro e;have h1:=z.ob;rw[<-e,z.hf] at h1;cases h1
 have Yi:but (exG Gs (vt F (nw H0 H2))) la fl=some (.lst jV):=q.f3 _ _ (c2.one z.hf abG) z.nf abG z.gf;have R0:aC (nw H H2) (but (exG Gs (vt F (nw H0 H2))) la):=λb o e=>q.f3 _ _ (aT.mp e).2 (s0.free (aT.mp e).1) (by rintro rfl;have h:=(aT.mp e).1;rw[z.ob] at h;cases h) (noG b (aT.mp e).1);have cl:(dH st aS xs).length=xs.length:=i_ ..;refine⟨fl,ja,kp,_,_,Gs,st.form.rows,st.rows,jV,st.form.joint,(dH st aS xs).map (λc=>c.1),cf,n,Z,q.fs,Yi,q.f1 _ _ QF,R0 _ _ (aT.mpr ⟨nkp,hkp⟩),?_,g.j3,by rw[aB];lia,by rw[aB];lia,by rw[aB,g.jl,cl,xl],?_,CK,λH3 rp zy JR fk nrp hrp pz=>?_⟩
 .refine zp (by rw[aB];exact dR pk) λi x v h1 h2=>?_;obtain⟨c,hc,hq⟩:=iS pk h2;rw[aw,hc] at h1;cases h1;exact hq.same R0
 .intro x hx;obtain⟨c,hc,rfl⟩:=bj.mp hx;obtain⟨i,hi,rfl⟩:=bj.mp hc;obtain⟨x0,WU⟩:=Mx.get_some (cJ.mp hi);rw[qk,gu WU];exact hn x0 (az WU)
 .obtain⟨r_,QE⟩:=fk;have d0:=q.done afB r_ (aC.refl H3);have s3:=d0.s0;have eR:allR true st.form.rows st.rows (km sL st.form.joint ((dH st aS xs).map (λc=>c.1))) jV.length=lL st aS xs:=by
   unfold allR lL aaD;rw[ji,show jV.length=(jb st aS xs).length from by rw[jS];lia];rfl
  rw[eR] at pz;obtain⟨v0,hv0⟩:=Mx.get_some (show 0<kT.length by lia);obtain⟨x0,WU,p0,rfl,hp0⟩:=iS pr hv0;have frS:GH t st.form (.ref fa) H3:=z.fr.same d0.sF;have lz:1<=st.form.lanes/\st.form.lanes<=16:=by rcases g.l with h|h|h|h<;>lia
  refine⟨_,Z,Z,s3 _ _ haa,T.jC,Z,Z,_,Z,_,Z,Z,s3 _ _ haa,T.jC,Z,Z,ra,_,_,_,Z,Z,i2 (s3 _ _ qo),at_of (j:=0) rfl hv0,p0,_,Z,i3 (s3 _ _ hp0),?_⟩;rw[aB,hn x0 (az WU)];refine⟨fA,_,st.form,n,Z,frS,g,by lia,λH4 hp s4 hhp nhp=>?_⟩;have s34:=s3.trans s4;refine⟨_,Z,_,Z,_,Z,Z,s4 _ _ (d0.sF _ _ JY),T.dA,Z,Z,rp,zy,lL st aS xs,n,st.form.lanes,Z,s4 _ _ hrp,Paired.lR pz λx v q=>q.same s4,Sq hn,n1,CK,by rw[rX];lia,by rw[rX];lia,lz.1,lz.2,VU so ci.s4 xl xf,λH5 cp s5 hcp ncp=>?_⟩;have cln:=Va (es:=lL st aS xs) (n:=n) lz.1 lz.2 (by rw[rX];lia) CK;have hln:(Pd fA st.form n).length<=120:=by
   have:=Ua g;unfold Pd;rw[aO,aO,aO,jk,jk];split
   .simp only[aZ,dW];lia
   .simp
  refine⟨hp,cp,_,_,Z,Z,s5 _ _ hhp,hcp,by rw[aE,aB,aB];lia,λsp nsp=>?_⟩;obtain⟨l,lb,el1,el2⟩:=U8 hk g n (G9 st.form.lanes (fO (lL st aS xs).length) (xC (lL st aS xs) n));have aiK:Pd fA st.form n++OE st.form.lanes (lL st aS xs) n=nI l:=el1;have ll:l.length<=6000:=by
   have:=congrArg lA aiK;rw[aO] at this;simp only[nI,aB] at this;lia
  refine⟨sp,l,Z,by rw[aq,<-iU,aiK],lb,by lia,λH7 p7 s7 h7 n7=>?_⟩;have s37:aC H3 H7:=s4.trans (s5.trans ((aC.upd nsp).trans s7));obtain⟨d1,dF,d2,d3,d4⟩:=q.done afB r_ s37;have d2:=d2.trans A1;have d3:=λi=>(d3 i).trans A1;rw[el2] at h7;have ew:(dt st (decide (fA=1)) aS xs n).1=tL (decide (fA=1)) st.form n (G9 st.form.lanes (fO (lL st aS xs).length) (xC (lL st aS xs) n)):=by
   rw[SW,rX]
  have wl:(dt st (decide (fA=1)) aS xs n).1.length<=10000:=by
   have:=congrArg lA el2;rw[<-ew,eA] at this;unfold OC at this;rw[aO,aO,jk,cP,dY] at this;simp only[nI,aB] at this;rw[<-this];exact bt (Og (BW (fw 12 _) 4) (bt (lO ..) ll)) (by decide)
  rw[<-ew] at h7;have awx:Rr≠la:=b8 z.ob aj9;refine k H7 p7 d1 ⟨la,dx,_,fl,Rr,jV,Vh,Z,Eu dF _ _ (aT.mpr ⟨z.na,d4 _ afB⟩),d2 _ _ Yi,d2 _ _ (R0 _ _ (aT.mpr ⟨aj9,an5⟩)),z.fr.same Fs,g,WL,by rw[yU];lia,by rw[<-dR pe];lia,λi rw l v h1 h2 h3=>?_,λi l e h1 h2=>?_⟩ (s3.free (s4.free (s5.free (bO n7).2))) h7 wl
  .have h1:st.form.rows[i]? =some rw:=h1;have hi:=fJ h1;obtain⟨l0,Iu⟩:=Mx.get_some (show i<st.rows.length by lia);obtain⟨x,hx⟩:=Mx.get_some (show i<xs.length by lia);obtain⟨y,hy⟩:=Mx.get_some (show i<(jb st aS xs).length by rw[jS];lia);rw[wD h1 Iu hx hy] at h2;cases h2;have rg:=(q.fs.at_ i rw l0 v h1 Iu h3).2;have r1:=QE i rw l0 y v h1 Iu hy h3;have Zr:=NH (on:=true) rg y;have e4:=(A2 g ci.s4 (so.ok i rw l0 h1 Iu).2.1 x (xf x (az hx))).len;exact⟨(r1.same d2 (d3 i)).eps,Zr.1,Zr.2.fx,Zr.2.la,Zr.2.sl,Zr.2.st,e4⟩
  .have hi:=fJ h1;rw[yU] at hi;obtain⟨c,hc,hq⟩:=iS pe h2;obtain⟨l0,Iu⟩:=Mx.get_some (show i<st.rows.length by lia);obtain⟨rw0,afI⟩:=Mx.get_some (show i<st.form.rows.length by lia);obtain⟨x,hx⟩:=Mx.get_some hi;obtain⟨y,hy⟩:=Mx.get_some (show i<(jb st aS xs).length by rw[jS];lia);rw[wD afI Iu hx hy] at h1;rw[qD hx Iu] at hc;cases h1;cases hc;obtain⟨pp,rfl,hpp⟩:=hq;exact⟨pp,Z,i3 (d2 _ _ (R0 _ _ hpp))⟩
def Sn (s:aW)(b:cb)(p n:Nat):iI s b p n=match qw s.form.lanes s.form.rows.length n b p with
  |.error (k,q)=>.fault k q
  |.ok zs=>match xD s.form (mF s (zs.map λz=>z.map fZ)) n with
   |some x=>.fault 4 x
   |none=>.done (mF s (zs.map λz=>z.map fZ)) (Jv s (zs.map λz=>z.map fZ)):=by
 unfold iI qw;cases e1:eX s.form.lanes (b.drop p) with
 |some x=>rfl
 |none=>
  simp only;rw[VM e1];simp only;cases e2:hU s.form.rows.length (n9 s.form.rows.length n) ⟨s.form.lanes,rm b p s.form.lanes,fu (b.drop (p+4*s.form.lanes)),fO s.form.rows.length,[]⟩ (aM s.form.rows.length []) with
  |error e=>cases e<;>rfl
  |ok x=>
   obtain⟨zs,u⟩:=x;simp only;by_cases h:u.ended=false
   .rw[aj h,aj h]
   .rw[ah h,ah h];rfl
def Sr {zs:List (ig)}(hR:R<=4)(hn:n<=64)(h:qw ay R n b p=.ok zs):zs.length=R/\∀z∈zs,z.length=n/\∀v∈z,v<=Oe:=by
 unfold qw at h;split at h
 .cases h
 .split at h
  .cases h
  .cases h
  .rename_i zs' u e;split at h
   .cases h
   .cases h;exact Wg hR hn e
def Ox {x:Int}(h:iT (2^245) x):Builtin.Int.intBits x<=100000:=by
 unfold Builtin.Int.intBits;split
 .omega
 .rename_i h0;have h1:x.natAbs≠0:=λe=>h0 (by rw[Int.natAbs_eq_zero.mp e];rfl);have e1:(2:Int)^245=((2^245:Nat):Int):=by decide+kernel
  have e2:(2:Nat)^246=2^245+2^245:=by decide+kernel
  have e3:0<(2:Nat)^245:=pF _;have h2:x.natAbs<2^246:=by
   obtain⟨a,b⟩:=h;rw[e1] at a b;rw[e2];generalize(2:Nat)^245=M at a b e3|-
   omega
  have:=(Xc h1).mpr h2;omega
inductive V2 (K:au)(t:fP)(vs:b_)(H:Hp)(Q:VK)(E:XK):Prop|i(lv:V)(gX ha dh:ke)(h:rC)(wv:V)(b:cb)(H0 F:Hp)(st:aW)(n:Nat)(_:vs=[lv,.ref gX,.ref ha])(_:aC H0 H)(_:UR t K F H0 H st lv)(_:DB st)(_:H0 gX=some (iL (br b)))(_:H0 ha=some (HdO t dh h wv))(_:h.lanes=(st.form.lanes:Nat))(_:h.rows=(st.form.rows.length:Nat))(_:h.bits=(st.form.bits:Nat))(_:h.cut=(st.form.cut:Nat))(_:h.times=(n:Nat))(_:h.fin<=b.length)(_:b.length<=10000)(_:1<=n)(_:n<=64)(_:∀k q,iI st b h.fin n=.fault k q->GF t E [] H0 (k:Nat) (q:Nat))(_:∀xs uP,iI st b h.fin n=.done xs uP->DB uP->xs.length=st.form.rows.length->(∀x∈xs,x.length=n)->∀H' q vs,aC H0 H'->aC F H'->LnP t K (vt F (nw H0 H')) uP lv->H' q=some (.lst vs)->Paired (λx v=>IsL x v H') xs vs->Q (.ref q) H')
def PV:T.AS.Ok P w mg lQ (tO P w t.bI) 10 (V2 K t):=by
 refine T.AS.xE λnd H vs Q E hr h=>?_;obtain⟨lv,gX,ha,dh,h,wv,b,H0,F,st,n,rfl,s0,⟨la,dx,fv0,fl,el,jV,yf,Gs,rfl,z⟩,so,anU,hha,e1,e2,e3,e4,e5,hp,hb,n1,CK,kE,kQ⟩:=h;obtain⟨Yk,ar3,adY,au9,aod,aoD,an0,avR,an8⟩:=h;subst e1 e2 e3 e4 e5;simp only at hp kE kQ;obtain⟨fa,dfa,wv0,rfl,JY,⟨wa,dw,rwa,ja,uQ,rfl,WT,afJ,prw,QF⟩⟩:=id z.fr;have sF:=z.fH;have g:=so.fg;have r1:=g.r1;have r4:=g.r4;have b1:=g.b1;have b2:=g.b2;have hc:=g.c;have WL:=z.l1;have RQ:=z.l2;have hl3:=z.l3;have lz:1<=st.form.lanes/\st.form.lanes<=16:=by rcases g.l with h|h|h|h<;>lia
 rw[Sn] at kE kQ;refine .i (ao (fL 3 nd (kq T.pW (CT T) hr aY.passes (ak (pv 1) (ak (pv 2) ax))))
   (ao (fL 4 nd (kq T.DF (R8 T) hr bG (ak (cQ (pv 0)) (ak (cQ (cQ (cQ (pv 0)))) (ak (pv 3) ax)))))
   (ao (fL 5 nd (kq T.rN (Ay T) hr bG (ak (pv 4) (ak (cQ (pv 2)) ax))))
   (ao (cS (kq T.uj (Jd T) hr aY.passes (ak (pv 5) (ak (cQ (pv 2)) ax))))
   (ao (ki (pv 0) (GW [("row",6)] nd (fB (pv 4)) (mv 6 nd) (t5 (v:=V.ref t.iX) rfl T.EO rfl)))
   (aH (bz (pv 5)))))))) ?_
 refine⟨_,Z,_,Z,gX,ha,dh,_,wv,b,st.form.rows.length,n,st.form.lanes,an8,Z,s0 _ _ anU,s0 _ _ hha,Z,Z,Z,Z,hp,hb,lz.1,lz.2,r1,r4,n1,CK,λk q e=>(kE k q (by rw[e])).mono s0.chg,λzs hz H2 rp kT s2 hrp nrp pr=>?_⟩;obtain⟨zl,zn⟩:=Sr r4 CK hz;rw[hz] at kE kQ;simp only at kE kQ;obtain⟨es,hes⟩:∃es,es=zs.map λz=>z.map fZ:=⟨_,Z⟩;rw[<-hes] at kE kQ pr;have esl:es.length=st.form.rows.length:=by rw[hes,aB,zl]
 have esn:∀e∈es,e.length=n:=λe he=>by
  rw[hes] at he;obtain⟨y,hy,rfl⟩:=bj.mp he;rw[aB];exact(zn y hy).1
 have esx:∀e∈es,∀v∈e,iT (2^46) v:=λe he v hv=>by
  rw[hes] at he;obtain⟨y,hy,rfl⟩:=bj.mp he;obtain⟨u,hu,rfl⟩:=bj.mp hv;exact adp ((zn y hy).2 u hu)
 have q:=z.fil s0 (s2.chg (S:=[la]));have noG:∀b,H b=none->∀i,Gs i b=none:=λb hb i=>((z.gs i).trans iK).free hb;have abG:fl≠la:=by intro e;have h1:=z.ob;rw[<-e,z.hf] at h1;cases h1
 have ob2:=s2 _ _ z.ob;have Yi:but (exG Gs (vt F (nw H0 H2))) la fl=some (.lst jV):=q.f3 _ _ (s2 _ _ z.hf) z.nf abG z.gf;have R0:aC (nw H H2) (but (exG Gs (vt F (nw H0 H2))) la):=λb o e=>q.f3 _ _ (aT.mp e).2 (s0.free (aT.mp e).1) (by rintro rfl;have h:=(aT.mp e).1;rw[z.ob] at h;cases h) (noG b (aT.mp e).1);refine⟨_,Z,Z,ob2,T.fS,Z,Z,_,Z,Z,ob2,T.fS,Z,Z,Z,s2 _ _ (sF _ _ JY),T.dA,Z,Z,Z,s2 _ _ (sF _ _ WT),T.xG,Z,Z,_,Z,?_⟩;refine⟨fl,ja,rp,_,_,Gs,st.form.rows,st.rows,jV,st.form.joint,es,kT,n,Z,q.fs,Yi,q.f1 _ _ QF,R0 _ _ (aT.mpr ⟨nrp,hrp⟩),Paired.lR pr λx v u=>u.same R0,g.j3,by lia,by lia,by rw[g.jl,esl],esn,CK,λH3 yp WY JR fk hyp py=>?_⟩;obtain⟨r_,QE⟩:=fk;have d0:=q.done ob2 r_ (aC.refl H3);have s3:=d0.s0;have eR:allR false st.form.rows st.rows es jV.length=o4 st es:=by
  unfold allR o4 aaD;rw[ji,show jV.length=es.length from by lia];rfl
 rw[eR] at py;obtain⟨ys,hys⟩:∃ys,ys=km zJ st.form.joint (o4 st es):=⟨_,Z⟩;rw[<-hys] at py;have ysl:ys.length=st.form.rows.length:=by rw[hys,gG,vP,esl]
 have ysn:∀y∈ys,y.length=n:=by rw[hys];exact nt _ _ _ (AY so esl esn)
 have ysx:∀y∈ys,∀v∈y,Builtin.Int.intBits v<=100000:=λy hy v hv=>Ox (by rw[hys] at hy;exact NR so esl (λe he=>by rw[esn e he];exact CK) esx y hy v hv);refine⟨_,Z,_,Z,Z,s3 _ _ hha,T.dS,Z,Z,yp,WY,ys,st.form.cut,Z,hyp,py,by lia,λy hy=>⟨by rw[ysn y hy];lia,ysx y hy⟩,by lia,λH4 sp qP s4 J0 nsp ps=>?_⟩;have exs:(ys.map λy=>y.map λx=>x*2^st.form.cut)=mF st es:=by
  rw[hys];unfold mF;refine fM λy _=>fM λx _=>?_;unfold Mg;simp
 rw[exs] at ps;have ps4:=Paired.lR ps λx v u=>IsL.same u (iK (H0:=H3) (H:=H4));have shl:(mF st es).length=st.form.rows.length:=by rw[<-exs,aB,ysl]
 have shn:∀x∈mF st es,x.length=n:=λx hx=>by
  rw[<-exs] at hx;obtain⟨y,hy,rfl⟩:=bj.mp hx;rw[aB];exact ysn y hy
 have s04:=s3.trans s4;refine⟨_,Z,_,Z,Z,s04 _ _ hha,T.dS,Z,Z,sp,qP,_,st.form.bits,n,Z,J0,ps4,shn,by lia,by lia,CK,by lia,by lia,λx hx=>?_,λhx H5 s5=>?_⟩
 .exact(kE 4 x (by rw[show xD st.form (mF st es) n=some x from by rw[Jm];exact hx])).mono s04.chg
 .have M1:xD st.form (mF st es) n=none:=by rw[Jm];exact hx
  rw[M1] at kQ;have s45:=s4.trans s5;have hy5:=s45 _ _ hyp;refine⟨_,Z,yp,Z,⟨WY,i2 hy5⟩,λD hD=>?_⟩;have yl:WY.length=st.form.rows.length:=by rw[<-dR py,ysl]
  refine nu (ys:=aM st.form.rows.length (.ref t.iX)) hD (by rw[aE];simp;lia) (i2 hy5) (by simp;lia) (λi u y H6 Q6 hu hy sm6 k6=>?_) λH6 e6 s6=>?_
  .have:y=.ref t.iX:=(fc.mp (az hy)).2;subst this;exact⟨Z,k6 _ (aC.refl _)⟩
  .have s36:=s45.trans s6;obtain⟨d1,dF,d2,d3,d4⟩:=q.done ob2 r_ s36;have ob6:=d4 _ ob2;have nD0:H0 D=none:=s3.free (s45.free hD);have Dla:D≠la:=b8 (s45 _ _ (d0.ka _ ob2)) hD;refine⟨_,Z,Z,ob6,T.fS,Z,Z,tI [("frame",.ref fa),("filters",.ref fl),("errors",.ref D)],_,Z,?_⟩;have dN:aC (but (vt F (nw H0 H6)) la) (vt F (nw H0 (upd H6 la (LnO t dx (.ref fa) fl D)))):=aby
   have sF7:aC F (upd H6 la (LnO t dx (.ref fa) fl D)):=λb o e=>by rw[aF (aI e z.fa)];exact dF _ _ e
   have s07:aC H0 (upd H6 la (LnO t dx (.ref fa) fl D)):=λb o e=>by rw[aF (aI e z.na)];exact d1 _ _ e
   have aoB:sp≠la:=b8 (d0.ka _ ob2) nsp;have up:∀b o,H6 b=some o->b≠la->upd H6 la (LnO t dx (.ref fa) fl D) b=some o:=λb o e n=>by rw[aF n];exact e
   refine kQ _ _ rfl (DB.read so esl esn M1) shl shn _ sp qP s07 sF7 ⟨la,dx,_,fl,D,jV,_,Z,Eu sF7 _ _ (aT.mpr ⟨z.na,aq⟩),dN _ _ (d2 _ _ Yi),Eu sF7 _ _ (aT.mpr ⟨nD0,up _ _ e6 Dla⟩),z.fr.same Fs,g,WL,by rw[Bw];lia,by rw[ic];lia,λi rw l v h1 h2 h3=>?_,λi l e h1 h2=>?_⟩ (up _ _ (s6 _ _ (s5 _ _ J0)) aoB) (Paired.lR ps λx v u=>?_)
   .have h1:st.form.rows[i]? =some rw:=h1;have hi:=fJ h1;obtain⟨l0,Iu⟩:=Mx.get_some (show i<st.rows.length by lia);obtain⟨e,he⟩:=Mx.get_some (show i<es.length by lia);rw[Bv h1 Iu he] at h2;cases h2;have rg:=(q.fs.at_ i rw l0 v h1 Iu h3).2;have r1:=QE i rw l0 e v h1 Iu he h3;have Zr:=NH (on:=false) rg e;exact⟨(r1.same (d2.trans dN) ((d3 i).trans dN)).eps,Zr.1,Zr.2.fx,Zr.2.la,Zr.2.sl,Zr.2.st,Z⟩
   .have hi:=fJ h1;rw[Bw] at hi;obtain⟨l0,Iu⟩:=Mx.get_some (show i<st.rows.length by lia);obtain⟨rw0,afI⟩:=Mx.get_some (show i<st.form.rows.length by lia);obtain⟨x,hx⟩:=Mx.get_some hi;rw[Bv afI Iu hx] at h1;cases h1;exact⟨_,(fc.mp (az h2)).2,.inr (T.Fn _)⟩
   .obtain⟨p,rfl,hp⟩:=u;obtain⟨q1,q2⟩:=aT.mp hp;exact⟨p,Z,up _ _ (s6 _ _ (s5 _ _ q2)) (b8 (d0.ka _ ob2) q1)⟩
structure JV (t:fP)(K:au)(Hb H:Hp)(a dx:ke)(lv:V)(so:Option aW):Prop where
 ob:H a=some (JU t dx lv)
 ha:(Hb a).isSome=true
 dm:∀b,H b=none->Hb b=none
 lv_:LvA t K (nw Hb H) so lv
 ok:∀st,so=some st->DB st
theorem LvA.same {N':Hp}(h:LvA t K N so v)(s:aC N N'):LvA t K N' so v:=by
 cases so with
 |none=>exact h
 |some st=>exact LnP.same h s
def JV.chg (z:JV t K Hb H a dx lv so)(c:dE S H H')(hS:∀x∈S,x≠a/\(Hb x).isSome=true/\H' x≠none):JV t K Hb H' a dx lv so:=by
 refine⟨c _ _ z.ob (λm=>(hS a m).1 rfl),z.ha,λb hb=>z.dm b ?_,z.lv_.same (Ue c λx hx=>(hS x hx).2.1),z.ok⟩;cases e:H b with
 |none=>rfl
 |some o=>
  by_cases m:b∈S
  .exact absurd hb (hS b m).2.2
  .rw[c b o e m] at hb;cases hb
def JV.same (z:JV t K Hb H a dx lv so)(s:aC H H'):JV t K Hb H' a dx lv so:=z.chg (S:=[]) s.chg (by simp)
structure Ob (f:bN)(aS:bY)(xs:ly)(n:Nat):Prop where
 g:Mx.FG f
 s4:aS.length=4
 sr:∀v∈aS,-128<=v/\v<=127
 xl:xs.length=f.rows.length
 xn:∀x∈xs,x.length=n
 n1:1<=n
 CK:n<=64
 xf:∀x∈xs,∀v∈x,cA f v=true
def i8 (so:Option aW)(fA:Int)(f:bN):Option aW:=if fA=1 then some (kn f) else match so with
 |none=>none
 |some st=>if cB st.form f=true then some st else none
def EF (g:Mx.FG f)(ok:∀st,so=some st->DB st)(h:i8 so fA f=some st):st.form=f/\DB st:=by
 unfold i8 at h;split at h
 .cases h;exact⟨Z,DB.new g⟩
 .split at h
  .cases h
  .split at h
   .rename_i q;cases h;exact⟨(C_ _ _).mp q,ok _ rfl⟩
   .cases h
def Hw {av:V}{aS:bY}{xs:ly}(Yp:LvA t K (nw Hb H) so lv)(JX:AsA t fA f fv aS xs av H)(hf:GH t f fv (nw Hb H))(g:Mx.FG f)(kN:i8 so fA f=none->Tc t.eN E [] H)
  (k:∀st v H',i8 so fA f=some st->aC H H'->UR t K (nw Hb H) H H' st v->Q v H'):Qo K t [lv,av] H Q E:=by
 refine⟨lv,av,so,nw Hb H,nw Hb H,fA,f,fv,aS,xs,Z,iK,iK,Yp,JX,hf,g,λhk v H' s1 h1=>k _ v H' ?_ s1 h1,λhk=>?_⟩
 .unfold i8;rw[aj hk]
 .cases so with
  |none=>exact kN (by unfold i8;rw[ah hk])
  |some st=>
   refine⟨λq=>kN ?_,λq v H' s1 h1=>k st v H' ?_ s1 h1⟩
   .unfold i8;rw[ah hk];show(if cB st.form f=true then some st else none)=none;rw[q];rfl
   .unfold i8;rw[ah hk];show(if cB st.form f=true then some st else none)=some st;rw[aj q]
def Ob.cut {aS:bY}{xs:ly}(z:Ob f aS xs n)(ok:∀st,so=some st->DB st)(h:i8 so fA f=some st):W4 st f aS xs:=
 ⟨(EF z.g ok h).1,(EF z.g ok h).2,z.s4,z.sr,z.xl,λx hx=>by rw[z.xn x hx];have:=z.CK;lia,z.xf⟩
inductive ac1 (K:au)(t:fP)(vs:b_)(H:Hp)(Q:VK)(E:XK):Prop|i(a dx:ke)(lv av:V)(so:Option aW)(Hb:Hp)(fA:Int)(f:bN)(fv:V)(aS:bY)(xs:ly)(n:Nat)(_:vs=[.ref a,av])(_:JV t K Hb H a dx lv so)(_:AsA t fA f fv aS xs av H)(_:GH t f fv (nw Hb H))(_:Ob f aS xs n)(_:fA=0\/fA=1)(_:i8 so fA f=none->Tc t.eN E [] H)(_:∀st,i8 so fA f=some st->∀H' p VD,dE [a] H H'->JV t K Hb H' a dx VD (some (dt st (decide (fA=1)) aS xs n).2)->H' p=some (iL (0::((dt st (decide (fA=1)) aS xs n).1.length:Int)::br (dt st (decide (fA=1)) aS xs n).1))->H p=none->(dt st (decide (fA=1)) aS xs n).1.length<=10000->Q (.ref p) H')
def yH:T.mM.Ok P w mg lQ (tO P w t.bI) 12 (ac1 K t):=by
 refine T.mM.xE λnd H vs Q E hr h=>?_;obtain⟨a,dx,lv,av,so,Hb,fA,f,fv,aS,xs,n,rfl,z,JX,hf,ai,hk,kN,k⟩:=h;refine .i (ao (fL 2 nd (kq T.lF (sY T) hr aY.passes (ak (cQ (pv 0)) (ak (pv 1) ax))))
   (ao (fL 3 nd (kq T.AO (PQ T) hr bG (ak (pv 2) (ak (pv 1) ax))))
   (ao (ki (pv 0) (pv 2))
   (aH (bz (aX mP (eE (ak aK (ak (Bt T.jc (ak (pv 3) ax)) ax))) (pv 3))))))) ?_
 refine⟨_,Z,Z,z.ob,T.nF,Z,Z,_,Z,Hw z.lv_ JX hf ai.g kN λst v H1 hb s1 h1=>?_⟩;have ci:=ai.cut z.ok hb;refine⟨_,Z,_,Z,v,av,H,nw Hb H,st,fA,f,fv,aS,xs,n,Z,s1,h1,JX,ci,ai.xn,ai.n1,ai.CK,hk,λH2 p s2 hlp np hp iQ=>?_⟩;have k:=k st hb;obtain⟨uP,est⟩:∃uP,uP=(dt st (decide (fA=1)) aS xs n).2:=⟨_,Z⟩;have sok:DB uP:=by rw[est];exact DB.written ci.so ci.s4 (by rw[ci.fe];exact ci.xl) (by rw[ci.fe];exact ci.xf)
 obtain⟨bs,ebs⟩:∃bs,bs=(dt st (decide (fA=1)) aS xs n).1:=⟨_,Z⟩;rw[<-est,<-ebs] at k;rw[<-est] at hlp;rw[<-ebs] at hp iQ;have Bi:=s2 _ _ z.ob;have npa:p≠a:=b8 z.ob np;have bl:(br bs).length=bs.length:=eA bs;refine⟨_,Z,_,Z,Z,Bi,T.nF,Z,Z,tI [("learnt",v)],?_⟩;have c3:dE [a] H (upd H2 a (JU t dx v)):=s2.chg.d_ (by simp);have a3:upd H2 a (JU t dx v) a=some (JU t dx v):=aq;have p3:upd H2 a (JU t dx v) p=some (iL (br bs)):=by rw[aF npa];exact hp
 have l3:LnP t K (nw Hb (upd H2 a (JU t dx v))) uP v:=hlp.same λb o e=>by
  unfold vt at e;split at e
  .obtain⟨q1,q2⟩:=aT.mp e;exact aT.mpr ⟨q1,by rw[aF (by rintro rfl;have:=z.ha;rw[q1] at this;cases this)];exact s2 _ _ q2⟩
  .obtain⟨q1,q2⟩:=aT.mp e;exact aT.mpr ⟨z.dm b q1,by rw[aF (b8 z.ob q1)];exact q2⟩
 have d3:∀b,upd H2 a (JU t dx v) b=none->H b=none:=λb hb=>s2.free (bO hb).2;generalize upd H2 a (JU t dx v)=H3 at c3 a3 p3 l3 d3|-
 have z3:JV t K Hb H3 a dx v (some uP):=⟨a3,z.ha,λb hb=>z.dm b (d3 b hb),l3,λst e=>by cases e;exact sok⟩;refine⟨_,Z,p,_,Z,i3 p3,by rw[aE];simp,λL hL=>?_⟩;have s4:aC H3 (upd H3 L (.lst [.int 0,.int (((br bs).map V.int).length:Nat)])):=aC.upd hL;refine⟨_,Z,L,p,_,_,Z,Z,aq,s4 _ _ p3,by rw[aE,aB];simp only[aZ,dW];lia,λr nr=>?_⟩;have s5:=s4.trans (aC.upd (o:=.lst ([V.int 0,.int (((br bs).map V.int).length:Nat)]++(br bs).map V.int)) nr);refine k _ r v (c3.trans s5.chg) (z3.same s5) ?_ (d3 r (s4.free nr)) iQ;rw[aq,aB,bl];rfl
theorem yr:∀{l:ly},(∀x∈l,x.length=n)->l.flatten.length=n*l.length
 |[],_=>rfl
 |a::l,h=>by rw[jZ,aO,h a (aU ..),yr λx m=>h x (aP _ m),aZ,lG];lia
def nO (st:aW)(aS:bY)(xs:ly):bY:=(dH st aS xs).flatMap λ(c:bY×List Int)=>c.1.map (Mg st.form)
inductive acW (K:au)(t:fP)(vs:b_)(H:Hp)(Q:VK)(E:XK):Prop|i(a dx:ke)(lv av:V)(so:Option aW)(Hb:Hp)(fA:Int)(f:bN)(fv:V)(aS:bY)(xs:ly)(n:Nat)(_:vs=[.ref a,av])(_:JV t K Hb H a dx lv so)(_:AsA t fA f fv aS xs av H)(_:GH t f fv (nw Hb H))(_:Ob f aS xs n)(_:i8 so fA f=none->Tc t.eN E [] H)(_:∀st,i8 so fA f=some st->∀H' p,aC H H'->H' p=some (iL (0::((nO st aS xs).length:Int)::nO st aS xs))->H p=none->(nO st aS xs).length<=1000->Q (.ref p) H')
def CQ:T.pU.Ok P w mg lQ (tO P w t.bI) 12 (acW K t):=by
 refine T.pU.xE λnd H vs Q E hr h=>?_;obtain⟨a,dx,lv,av,so,Hb,fA,f,fv,aS,xs,n,rfl,z,JX,hf,ai,kN,k⟩:=h;refine .i (ao (fL 2 nd (kq T.tR (CU T) hr bG (ak (kq T.lF (sY T) hr aY.passes (ak (cQ (pv 0)) (ak (pv 1) ax))) (ak (pv 1) ax))))
   (ao (fL 3 nd (kq T.jH (pR T) hr bG (ak (kq T.rN (Ay T) hr bG (ak (pv 2) (ak (cQ (cQ (pv 1))) ax))) ax)))
   (aH (bz (aX mP (eE (ak aK (ak (Bt T.jc (ak (pv 3) ax)) ax))) (pv 3)))))) ?_
 refine⟨_,Z,Z,z.ob,T.nF,Z,Z,_,Z,Hw z.lv_ JX hf ai.g kN λst v H1 hb s1 h1=>?_⟩;have ci:=ai.cut z.ok hb;have k:=k st hb;have so':=ci.so;have r4:=so'.fg.r4;have xl:=ci.xl;have CK:=ai.CK;have fe:=ci.fe;have hc:=ai.g.c;have BJ:=ai.g.b2;obtain⟨la,dl,fv0,fl,el,jV,yf,Gs,rfl,zl⟩:=h1;obtain⟨aa,da,sa,ra,kT,rfl,haa,⟨fa,dfa,wv,rfl,JY,_⟩,hsa,qo,pr⟩:=id JX;have WL:=zl.l1;have hl3:=zl.l3;refine⟨_,Z,la,dl,fv0,fl,el,yf,.ref aa,fA,f,.ref fa,aS,xs,st,Z,zl.ob,zl.he,JX.same s1,ci,by rw[hl3,<-WL,fe,xl],λi l e h1 h2=>(zl.er i l e h1 h2).same zl.fH,λH2 kp Rr cf Vh c2 _ _ _ nkp hkp pk _=>?_⟩;have s2:aC H H2:=dE.back s1 c2 (λq hq=>by rw[show q=la from by simpa using hq];exact zl.na);have pk2:=Paired.lR pk λc v u=>IsL.same u (iK (H0:=H1) (H:=H2));have cl:(dH st aS xs).length=xs.length:=i_ ..;refine⟨_,Z,_,Z,Z,s2 _ _ haa,T.jC,Z,Z,Z,s2 _ _ JY,T.dA,Z,Z,kp,cf,(dH st aS xs).map (λc=>c.1),f.cut,Z,hkp,?_,by rw[aB,cl,xl,<-fe];lia,λy hy=>?_,by lia,λH3 sp qP s3 J0 nsp ps=>?_⟩
 .refine zp (by rw[aB];exact dR pk2) λi x v h1 h2=>?_;obtain⟨c,hc,hq⟩:=iS pk2 h2;rw[aw,hc] at h1;cases h1;exact hq
 .obtain⟨c,hc',rfl⟩:=bj.mp hy;obtain⟨i,hi⟩:=dJ.mp hc';have h0:=fJ hi;rw[cl] at h0;obtain⟨x,hx⟩:=Mx.get_some h0;obtain⟨l,hl⟩:=Mx.get_some (show i<st.rows.length by rw[so'.ln,fe];lia);obtain⟨lS,WR⟩:=Mx.get_some (show i<st.form.rows.length by rw[fe];lia);rw[qD hx hl] at hi;cases hi;refine⟨by rw[qk];exact ci.xn x (az hx),λv hv=>Ox ?_⟩;have b:=B7 so'.fg ci.s4 (so'.ok i lS l WR hl).2.1 x (by rw[fe];exact ci.xf x (az hx)) v hv;have lb:=IJ so'.fg;exact vc (B:=2^23) ⟨by lia,by lia⟩ (yS (by decide))
 .have ps3:=Paired.lR ps λx v u=>IsL.same u (iK (H0:=H2) (H:=H3));have ef:(((dH st aS xs).map (λc=>c.1)).map λy=>y.map λx=>x*2^f.cut).flatten=nO st aS xs:=by
   unfold nO;rw[ji,List.flatMap_def];refine congrArg List.flatten (fM λc _=>fM λx _=>?_);unfold Mg;rw[fe];simp
  have fl':(((dH st aS xs).map (λc=>c.1)).map λy=>y.map λx=>x*2^f.cut).flatten.length<=1000:=by
   rw[yr (n:=n) λy hy=>?_]
   .rw[aB,aB,cl,xl,<-fe];have:=uW CK r4;lia
   .obtain⟨c0,hc0,rfl⟩:=bj.mp hy;obtain⟨c,hc',rfl⟩:=bj.mp hc0;obtain⟨i,hi,rfl⟩:=bj.mp hc';obtain⟨x,hx⟩:=Mx.get_some (cJ.mp hi);rw[aB,qk,gu hx];exact ai.xn x (az hx)
  refine⟨sp,qP,_,Z,J0,ps3,by lia,λH4 np s4 hnp nnp=>?_⟩;rw[ef] at hnp fl';refine⟨_,Z,np,_,Z,i3 hnp,by rw[aE];simp,λL hL=>?_⟩;have s5:aC H4 (upd H4 L (.lst [.int 0,.int (((nO st aS xs).map V.int).length:Nat)])):=aC.upd hL;refine⟨_,Z,L,np,_,_,Z,Z,aq,s5 _ _ hnp,by rw[aE,aB];simp only[aZ,dW];lia,λr nr=>?_⟩;have s6:=s5.trans (aC.upd (o:=.lst ([V.int 0,.int (((nO st aS xs).map V.int).length:Nat)]++(nO st aS xs).map V.int)) nr);have s06:=s2.trans (s3.trans s4);refine k _ r (s06.trans s6) ?_ (s06.free (s5.free nr)) fl';rw[aq,aB];rfl
def QY (b:cb):eJ b=pO ((b.map λ(c:UInt8)=>c.toNat).take 12++[0,0,0,0]++(b.map λ(c:UInt8)=>c.toNat).drop 16):=by
 unfold eJ;rw[XB _ (λx hx=>by obtain⟨c,_,rfl⟩:=bj.mp hx;exact c.toNat_lt),iU,iU,kh,lY,cC];rfl
def HG (b:cb):br b=nI (b.map λ(c:UInt8)=>c.toNat):=by
 unfold br nI;rw[ji];rfl
def OA (b:cb):∀x∈b.map (λ(c:UInt8)=>c.toNat),x<256:=λx hx=>by
 obtain⟨c,_,rfl⟩:=bj.mp hx;exact c.toNat_lt
def Ip {l:ig}(hl:l=b.map λ(c:UInt8)=>c.toNat){P1:Nat->Prop}{P2:Prop}{P3:rC->Prop}(h1:∀e,fi b=.error e->P1 e)(h2:∀x,fi b=.ok x->(fD b≠eJ b->P2)/\(fD b=eJ b->P3 (jy b x))):
  (∀e,w6 (nI l)=.error e->P1 e)/\∀h,w6 (nI l)=.ok h->(((pO (l.take 12++[0,0,0,0]++l.drop 16):Nat):Int)≠h.check->P2)/\(((pO (l.take 12++[0,0,0,0]++l.drop 16):Nat):Int)=h.check->P3 h):=by
 subst hl;rw[<-HG,RN,<-QY];cases e:fi b with
 |error x=>exact⟨λe' q=>by cases q;exact h1 x e,λh q=>by cases q⟩
 |ok x=>
  refine⟨(λe' q=>by cases q),λh q=>?_⟩;cases q;have e1:(jy b x).check=((fD b:Nat):Int):=rfl;rw[e1];exact⟨λq=>(h2 x e).1 λu=>q (by rw[u]),λq=>(h2 x e).2 (by lia)⟩
def uv (so:Option aW)(h:pI)(fo:Option bN):Option aW:=match fo,so with
 |some f,_=>some (kn f)
 |none,none=>none
 |none,some s=>if s.form.rows.length=h.rows/\s.form.bits=h.bits/\s.form.cut=h.cut/\s.form.lanes=h.lanes then some s else none
def U5 {h:pI}{fo:Option bN}(ho:QL b h fo p)(ok:∀st,so=some st->DB st)(e:uv so h fo=some st):(st.form.rows.length=h.rows/\st.form.bits=h.bits/\st.form.cut=h.cut/\st.form.lanes=h.lanes)/\DB st:=by
 cases fo with
 |some f=>
  cases e;cases hk:h.key with
  |false=>have:=ho.no hk;cases this
  |true=>
   obtain⟨f',e1,g,q1,q2,q3,q4⟩:=ho.yes hk;cases e1;exact⟨⟨q4,q1,q2,q3⟩,DB.new g⟩
 |none=>
  cases so with
  |none=>cases e
  |some s=>
   have e:(if s.form.rows.length=h.rows/\s.form.bits=h.bits/\s.form.cut=h.cut/\s.form.lanes=h.lanes then some s else none)=some st:=e;split at e
   .rename_i q;cases e;exact⟨q,ok _ rfl⟩
   .cases e
def QV {hv:V}{h:pI}{fo:Option bN}(ho:QL b h fo p)(dm:∀b,H b=none->Hb b=none)(Yp:LvA t K (nw Hb H) so lv)(hh:HdA t (jy b (h,fo,p)) hv (nw Hb H))(kN:uv so h fo=none->Tc t.eN E [] H)
  (k:∀st v H' F,uv so h fo=some st->aC H H'->aC F (nw Hb H')->UR t K F H H' st v->Q v H'):Qp K t [lv,hv] H Q E:=by
 have up:∀H',aC H H'->aC (vt (nw Hb H) (nw H H')) (nw Hb H'):=λH' s=>JJ (wz s) (qu dm);refine⟨lv,hv,so,nw Hb H,nw Hb H,_,Z,iK,iK,Yp,hh,jI _,jI _,jI _,λhk=>?_,λhk=>?_⟩
 .have hk:(if h.key=true then(1:Int) else 0)=1:=hk;have hkt:h.key=true:=by
   cases q:h.key with
   |true=>rfl
   |false=>rw[q] at hk;cases hk
  obtain⟨f,rfl,g,q1,q2,q3,q4⟩:=ho.yes hkt;have ef:Mc (jy b (h,some f,p)) (f.rows,f.joint)=f:=by
   show(⟨((h.bits:Nat):Int).toNat,((h.cut:Nat):Int).toNat,((h.lanes:Nat):Int).toNat,f.rows,f.joint⟩:bN)=f;rw[bF,bF,bF,<-q1,<-q2,<-q3]
  refine⟨(f.rows,f.joint),Z,by rw[ef];exact g,λv H' F' s1 sF h1=>?_⟩;rw[ef] at h1;exact k _ v H' F' rfl s1 (sF.trans (up H' s1)) h1
 .have hk:(if h.key=true then(1:Int) else 0)≠1:=hk;have hkf:h.key=false:=by
   cases q:h.key with
   |false=>rfl
   |true=>rw[q] at hk;exact absurd rfl hk
  have:=ho.no hkf;subst this;cases so with
  |none=>exact kN rfl
  |some st=>
   have iff:QR st (jy b (h,none,p))↔(st.form.rows.length=h.rows/\st.form.bits=h.bits/\st.form.cut=h.cut/\st.form.lanes=h.lanes):=by
    show((st.form.rows.length:Int)=((h.rows:Nat):Int)/\(st.form.bits:Int)=((h.bits:Nat):Int)/\(st.form.cut:Int)=((h.cut:Nat):Int)/\(st.form.lanes:Int)=((h.lanes:Nat):Int))↔_;lia
   have eb:uv (some st) h none=if st.form.rows.length=h.rows/\st.form.bits=h.bits/\st.form.cut=h.cut/\st.form.lanes=h.lanes then some st else none:=rfl
   refine⟨λq=>kN ?_,λq v H' s1 h1=>k st v H' _ ?_ s1 (wz s1) h1⟩
   .rw[eb,ah λu=>q (iff.mpr u)]
   .rw[eb,aj (iff.mp q)]
inductive agL (K:au)(t:fP)(vs:b_)(H:Hp)(Q:VK)(E:XK):Prop|i(a dx:ke)(lv:V)(so:Option aW)(Hb:Hp)(bk:ke)(b:cb)(_:vs=[.ref a,.ref bk])(_:JV t K Hb H a dx lv so)(_:H bk=some (iL (br b)))(_:b.length<=4000)(_:∀e,fi b=.error e->GF t E [] H 1 (e:Nat))(_:∀x,fi b=.ok x->(fD b≠eJ b->GF t E [] H 2 12)/\(fD b=eJ b->(uv so x.1 x.2.1=none->Tc t.eN E [] H)/\∀st,uv so x.1 x.2.1=some st->(∀k q,iI st b x.2.2 x.1.count=.fault k q->GF t E [] H (k:Nat) (q:Nat))/\∀xs uP,iI st b x.2.2 x.1.count=.done xs uP->∀H' r VD,dE [a] H H'->JV t K Hb H' a dx VD (some uP)->H' r=some (iL (0::(xs.length:Int)::(xs.flatten.length:Int)::xs.flatten))->H r=none->xs.flatten.length<=1000->Q (.ref r) H'))
def Aa:T.nY.Ok P w mg lQ (tO P w t.bI) 12 (agL K t):=by
 refine T.nY.xE λnd H vs Q E hr h=>?_;obtain⟨a,dx,lv,so,Hb,bk,b,rfl,z,hbk,hb,kE,kQ⟩:=h;refine .i (ao (fL 2 nd (kq T.yW (Jf T) hr aY.passes (ak (pv 1) ax)))
   (ao (fL 3 nd (kq T.pV (CS T) hr aY.passes (ak (cQ (pv 0)) (ak (pv 2) ax))))
   (ao (fL 4 nd (kq T.jH (pR T) hr bG (ak (kq T.AS (PV T) hr aY.passes (ak (pv 3) (ak (pv 1) (ak (pv 2) ax)))) ax)))
   (ao (ki (pv 0) (pv 3))
   (aH (bz (aX mP (eE (ak aK (ak (cQ (pv 2)) (ak (Bt T.jc (ak (pv 4) ax)) ax)))) (pv 4)))))))) ?_
 refine⟨_,Z,bk,_,Z,by rw[hbk,HG],OA b,by rw[aB];exact hb,Ip rfl kE λx hx=>⟨(kQ x hx).1,λhc v H1 s1 hv=>?_⟩⟩;obtain⟨kN,kQ⟩:=(kQ x hx).2 hc;obtain⟨hd,fo,p⟩:=x;have ho:=Qh hx;simp only at kN kQ;have z1:=z.same s1;have hv1:=hv.same (qu z.dm);obtain⟨ha,dh,wv,rfl,ajf,_⟩:=id hv;have hha:=iK _ _ ajf;refine⟨_,Z,Z,z1.ob,T.nF,Z,Z,_,Z,QV ho z1.dm z1.lv_ hv1 (λq=>(kN q).mono s1.chg) λst v H2 F uA s2 sF hln=>?_⟩;obtain⟨kF,kD⟩:=kQ st uA;obtain⟨⟨q1,q2,q3,q4⟩,sok⟩:=U5 ho z.ok uA;have r4:=ho.r4;have CK:=ho.n2;refine⟨_,Z,_,Z,_,Z,v,bk,ha,dh,_,wv,b,H1,F,st,hd.count,Z,s2,hln,sok,s1 _ _ hbk,hha,?_,?_,?_,?_,Z,ho.p1,by lia,ho.n1,ho.n2,λk q e=>(kF k q e).mono s1.chg,λxs uP e aqf xl xn H3 sp qP s3 sF3 hlp J0 ps=>?_⟩
 .show((hd.lanes:Nat):Int)=_;rw[q4]
 .show((hd.rows:Nat):Int)=_;rw[q1]
 .show((hd.bits:Nat):Int)=_;rw[q2]
 .show((hd.cut:Nat):Int)=_;rw[q3]
 have k:=kD xs uP e;have fl:xs.flatten.length<=1000:=by
  rw[yr xn,xl,q1];have:=uW CK r4;lia
 refine⟨sp,qP,xs,Z,J0,ps,by lia,λH4 np s4 hnp nnp=>?_⟩;have s14:=s3.trans s4;have s04:=s1.trans s14;refine⟨_,Z,_,Z,Z,s04 _ _ z.ob,T.nF,Z,Z,tI [("learnt",v)],?_⟩;have npa:np≠a:=b8 (s3 _ _ z1.ob) nnp;have nha:ha≠a:=(aI z.ob (aT.mp ajf).1).symm;have c5:dE [a] H (upd H4 a (JU t dx v)):=s04.chg.d_ (by simp);have a5:upd H4 a (JU t dx v) a=some (JU t dx v):=aq;have p5:upd H4 a (JU t dx v) np=some (iL xs.flatten):=by rw[aF npa];exact hnp
 have h5:upd H4 a (JU t dx v) ha=some (HdO t dh (jy b (hd,fo,p)) wv):=by rw[aF nha];exact s14 _ _ hha
 have l5:LnP t K (nw Hb (upd H4 a (JU t dx v))) uP v:=hlp.same λb o e=>by
  unfold vt at e;split at e
  .have f1:=(aT.mp (sF _ _ e)).1;exact aT.mpr ⟨f1,by rw[aF (by rintro rfl;have:=z.ha;rw[f1] at this;cases this)];exact s4 _ _ (sF3 _ _ e)⟩
  .obtain⟨q1,q2⟩:=aT.mp e;exact aT.mpr ⟨z1.dm b q1,by rw[aF (b8 z1.ob q1)];exact s4 _ _ q2⟩
 have d5:∀b,upd H4 a (JU t dx v) b=none->H b=none:=λb hb=>s04.free (bO hb).2;generalize upd H4 a (JU t dx v)=H5 at c5 a5 p5 h5 l5 d5|-
 have z5:JV t K Hb H5 a dx v (some uP):=⟨a5,z.ha,λb hb=>z.dm b (d5 b hb),l5,λst e=>by cases e;exact aqf⟩;refine⟨_,Z,Z,h5,T.dS,Z,Z,_,Z,np,_,Z,i3 p5,by rw[aE];simp,λL hL=>?_⟩;have er:(jy b (hd,fo,p)).rows=((xs.length:Nat):Int):=by show((hd.rows:Nat):Int)=_;rw[xl,q1]
 rw[er,aB];have s6:aC H5 (upd H5 L (.lst [.int 0,.int ((xs.length:Nat):Int),.int (xs.flatten.length:Nat)])):=aC.upd hL;refine⟨_,Z,L,np,_,_,Z,Z,aq,s6 _ _ p5,by rw[aE,aB];simp only[aZ,dW];lia,λr nr=>?_⟩;have s7:=s6.trans (aC.upd (o:=.lst ([V.int 0,.int ((xs.length:Nat):Int),.int (xs.flatten.length:Nat)]++xs.flatten.map V.int)) nr);refine k _ r v (c5.trans s7.chg) (z5.same s7) ?_ (d5 r (s6.free nr)) fl;rw[aq];rfl
end
open PySem PySem.Spec PyProof.Rows L2 Mx
theorem CZ (kf:Nat):∀(n:Nat) (l:bY),QS kf n l=(aJ n).map λr=>(l.drop (r*kf)).take kf
 |0,l=>rfl
 |n+1,l=>by
  show l.take kf::QS kf n (l.drop kf)=_;rw[CZ kf n,qf,cy,ji,amL,iD];congr 1;refine fM λr _=>?_;show((l.drop kf).drop (r*kf)).take kf=(l.drop ((r+1)*kf)).take kf;rw[uL,K8,Xe,UT]
def Xp {s x:bY}(g:Mx.FG f)(ok:K9 f s x):Ob f s (uI x f.rows.length) (x.length / f.rows.length):=by
 have r1:=g.r1;have hm:x.length=x.length / f.rows.length*f.rows.length:=by
  have:=ahj x.length f.rows.length;rw[ok.xm] at this;rw[jn];lia
 refine⟨g,ok.s4,ok.sr,by simp[uI],λy hy=>?_,?_,ok.xt,λy hy v hv=>?_⟩
 .obtain⟨r,hr,rfl⟩:=bj.mp hy;rw[cP,dY];have h1:(r+1)*(x.length / f.rows.length)<=f.rows.length*(x.length / f.rows.length):=iJ _ (cJ.mp hr);rw[jn f.rows.length,<-hm,K8,Xe] at h1;exact eQ (WB h1)
 .refine lN λe=>ok.x0 ?_;rw[hm,e,amL]
 .obtain⟨r,hr,rfl⟩:=bj.mp hy;exact Cv.mpr (ok.xb v (j6 (fb hv)))
section
variable{so:Option aW}{k b c ln r:Int}{w s x:bY}
def Vs (nn:xF (k::b::c::ln::r::w)){e:Nat}(h:pZ (k::b::c::ln::r::w)=.error e):gQ so k.toNat b.toNat c.toNat ln.toNat r.toNat (dj w) s x=.error WG:=by
 unfold gQ;cases q:SoundCalls.formIn b.toNat c.toNat ln.toNat r.toNat (dj w) with
 |none=>rfl
 |some f=>
  simp only;have hk:1<k.toNat:=gI λn=>by
   have:=U1 nn rfl h (by lia);rw[show Mx.nats w=dj w from rfl,q] at this;cases this
  rw[aj (.inl hk)]
def wk (nn:xF (k::b::c::ln::r::w))(h:pZ (k::b::c::ln::r::w)=.ok (fA,f)):Mx.AsT k b c ln r w fA f:=Xq rfl h
def Y0 (g:Mx.FG f)(hk:k<=1)(hR:f.rows.length=r.toNat):(1<k.toNat\/nM s=false\/x.length%r.toNat≠0\/x.length / r.toNat<1\/adD<x.length / r.toNat\/x.all (cA f)=false)↔¬K9 f s x:=by
 have r1:=g.r1;have e1:nM s=true↔s.length=4/\∀v∈s,-128<=v/\v<=127:=by
  unfold nM;simp only[cO,beq_iff_eq,jq,decide_eq_true_eq]
 have e2:x.all (cA f)=true↔∀v∈x,ofBits f.bits v:=by
  rw[jq];exact⟨λh v hv=>Cv.mp (h v hv),λh v hv=>Cv.mpr (h v hv)⟩
 have e3:adD=64:=rfl;rw[<-hR,e3];constructor
 .rintro(h|h|h|h|h|h) ok
  .lia
  .rw[e1.mpr ⟨ok.s4,ok.sr⟩] at h;cases h
  .exact h ok.xm
  .have:=(Xp g ok).n1;lia
  .have:=ok.xt;lia
  .rw[e2.mpr ok.xb] at h;cases h
 .intro n;refine gI λq=>n ?_;have q1:nM s=true:=by
   cases u:nM s with
   |true=>rfl
   |false=>exact absurd (.inr (.inl u)) q
  have q2:x.length%f.rows.length=0:=gI λu=>q (.inr (.inr (.inl u)));have q3:¬x.length / f.rows.length<1:=λu=>q (.inr (.inr (.inr (.inl u))));have q4:¬64<x.length / f.rows.length:=λu=>q (.inr (.inr (.inr (.inr (.inl u)))));have q5:x.all (cA f)=true:=by
   cases u:x.all (cA f) with
   |true=>rfl
   |false=>exact absurd (.inr (.inr (.inr (.inr (.inr u))))) q
  exact⟨(e1.mp q1).1,(e1.mp q1).2,λe=>q3 (by rw[e,Nat.zero_div];lia),q2,by lia,e2.mp q5⟩
def Vt (nn:xF (k::b::c::ln::r::w))(h:pZ (k::b::c::ln::r::w)=.ok (fA,f))(no:¬K9 f s x):gQ so k.toNat b.toNat c.toNat ln.toNat r.toNat (dj w) s x=.error WG:=by
 obtain⟨rfl,hk,g,hR,hf⟩:=wk nn h;unfold gQ;rw[hf];simp only;rw[aj ((Y0 g hk hR).mpr no)]
def Yb (nn:xF (k::b::c::ln::r::w))(h:pZ (k::b::c::ln::r::w)=.ok (fA,f))(ok:K9 f s x):gQ so k.toNat b.toNat c.toNat ln.toNat r.toNat (dj w) s x=match i8 so fA f with
  |none=>.error SoundCalls.NOT
  |some st=>.ok (st,uI x f.rows.length,x.length / f.rows.length):=by
 have nk:0<=k:=nn k (by simp);obtain⟨rfl,hk,g,hR,hf⟩:=wk nn h;unfold gQ;rw[hf];simp only;rw[ah λu=>(Y0 g hk hR).mp u ok,CZ,<-hR];unfold i8;by_cases h1:fA=1
 .rw[aj h1,aj (by lia)];rfl
 .rw[ah h1,ah (by lia)];cases so with
  |none=>rfl
  |some st=>
   simp only;by_cases h2:cB st.form f=true
   .rw[aj h2,aj h2];rfl
   .rw[ah h2,ah h2]
def YG {k:Int}(h:0<=k):(k.toNat==1)=decide (k=1):=by
 by_cases q:k=1
 .subst q;rfl
 .rw[ae q];exact beq_eq_false_iff_ne.mpr (by lia)
def asks (wr:Bool)(k b c ln r:Int)(w s x:bY):ly:=[[if wr=true then 3 else 4,k,b,c,ln,r],w,s,x]
def Dh {wr:Bool}{a:SoundCalls.Answer}(h:gQ so k.toNat b.toNat c.toNat ln.toNat r.toNat (dj w) s x=.error a):aQ so (asks wr k b c ln r w s x)=(so,a.code::a.told.flatMap kR):=by
 cases wr with
 |true=>
  have e:eu (asks true k b c ln r w s x)=some (.write k.toNat b.toNat c.toNat ln.toNat r.toNat (dj w) s x):=rfl;unfold aQ;rw[e];simp only[gC];rw[h]
 |false=>
  have e:eu (asks false k b c ln r w s x)=some (.cut k.toNat b.toNat c.toNat ln.toNat r.toNat (dj w) s x):=rfl;unfold aQ;rw[e];simp only[gC];rw[h]
def SG {xs:ly}(h:gQ so k.toNat b.toNat c.toNat ln.toNat r.toNat (dj w) s x=.ok (st,xs,n)):aQ so (asks true k b c ln r w s x)=(some (dt st (k.toNat==1) s xs n).2,0::((dt st (k.toNat==1) s xs n).1.length:Int)::br (dt st (k.toNat==1) s xs n).1):=by
 have e:eu (asks true k b c ln r w s x)=some (.write k.toNat b.toNat c.toNat ln.toNat r.toNat (dj w) s x):=rfl;unfold aQ;rw[e];simp only[gC];rw[h];simp[uO,kR,br]
def ZW {xs:ly}(h:gQ so k.toNat b.toNat c.toNat ln.toNat r.toNat (dj w) s x=.ok (st,xs,n)):aQ so (asks false k b c ln r w s x)=(so,0::((nO st s xs).length:Int)::nO st s xs):=by
 have e:eu (asks false k b c ln r w s x)=some (.cut k.toNat b.toNat c.toNat ln.toNat r.toNat (dj w) s x):=rfl;unfold aQ;rw[e];simp only[gC];rw[h];simp[uO,kR,nO]
end
section
variable{P:bJ}{w:cz}{K:au}{mg:sO}{lQ:Heap}{t:fP}(T:Txt K mg t)
structure Ws (t:fP)(K:au)(H:Hp)(li dl ca:ke)(p:Nat)(l:bY):Prop where
 ob:H li=some (GI t dl ca p)
 sq:nN K (but H li) ca (l.map V.int)
def Ws.next {p':Nat}(z:Ws t K H li dl ca p l)(c:dE [li] H H')(h:H' li=some (GI t dl ca p')):Ws t K H' li dl ca p' l:=⟨h,(To c).seq z.sq⟩
def u5 {A B:bY}(h:l.drop p=A++B):l.drop (p+A.length)=B:=by
 rw[<-uL,h,ahe]
def drop_len {A B:bY}(h:l.drop p=A++B)(hA:A≠[]):p+A.length<=l.length:=by
 have:=congrArg lA h;rw[dY,aO] at this;have:A.length≠0:=λe=>hA (di e);lia
def Lp {B:bY}{x:Int}(h:l.drop p=x::B):l[p]? =some x:=by
 have:=congrArg (λm=>m[0]?) h;simpa using this
def CM {σ:L2.St}{tl:bY}{x:Int}(z:Ws t K H li dl ca p l)(hd:l.drop p=x::tl)(k:∀H',dE [li] H H'->Ws t K H' li dl ca (p+1) l->l.drop (p+1)=tl->Q (.int x) H'):Gx σ H λvs H2=>Qq K t (.ref li::(vs++[])) H2 Q E:=
 ⟨li,dl,ca,p,l,x,Z,z.ob,z.sq,Lp hd,λH' c h=>k H' c (z.next c h) (u5 (A:=[x]) hd)⟩
def C8 {σ:L2.St}{p:Nat}{l u tl:bY}(z:Ws t K H li dl ca p l)(hd:l.drop p=(u.length:Int)::(u++tl))(k:∀H' q,dE [li] H H'->Ws t K H' li dl ca (p+1+u.length) l->l.drop (p+1+u.length)=tl->H' q=some (iL u)->H q=none->Q (.ref q) H'):Gx σ H λvs H2=>Ux K t (.ref li::(vs++[])) H2 Q E:=by
 have d1:l.drop (p+1)=u++tl:=u5 (A:=[(u.length:Int)]) hd;have d2:=u5 d1;have hl:p+1+u.length<=l.length:=by
  have:=drop_len (A:=(u.length:Int)::u) (B:=tl) (p:=p) (l:=l) (by rw[hd];rfl) (by simp);rw[aZ] at this;lia
 refine⟨li,dl,ca,p,u.length,l,Z,z.ob,z.sq,Lp hd,hl,λH' q c h hq nq=>k H' q c (z.next c h) d2 ?_ nq⟩;rw[hq,d1,NZ]
def XU {σ:L2.St}{A tl:bY}(z:Ws t K H li dl ca p l)(hA:A.length=5)(hd:l.drop p=A++tl)(k:∀H' q,dE [li] H H'->Ws t K H' li dl ca (p+5) l->l.drop (p+5)=tl->H' q=some (iL A)->H q=none->Q (.ref q) H'):JF (tC (.int 5)) Gx σ H λvs H2=>Qr K t (.ref li::(vs++[])) H2 Q E:=by
 have d2:=u5 hd;have hl:=drop_len hd (by intro e;rw[e] at hA;cases hA);rw[hA] at d2 hl;refine⟨li,dl,ca,p,5,l,Z,z.ob,z.sq,hl,λH' q c h hq nq=>k H' q c (z.next c h) d2 ?_ nq⟩;rw[hq,hd,<-hA,NZ]
structure Out (t:fP)(K:au)(Hb H:Hp)(a dx li dl ca:ke)(so:Option aW)(r:Option aW×List Int)(p:Nat)(Q:VK)(E:XK):Prop where
 na:r=(so,[-1])->∀H',dE [li] H H'->H' li=some (GI t dl ca p)->E (.ref t.iP) none H'
 nl:r=(so,[-4])->∀H',dE [li] H H'->H' li=some (GI t dl ca p)->E (.ref t.eN) none H'
 bf:∀k q:Nat,r=(so,[-8,(k:Int),(q:Int)])->∀H' dd fs,H' dd=some (.ext (GJ dd fs))->fs.lookup ("kind":Str)=some (V.int (k:Int))->fs.lookup ("place":Str)=some (V.int (q:Int))->dE [li] H H'->H' li=some (GI t dl ca p)->E (.ref t.cM) (some dd) H'
 dn:∀H' q lv,dE [a,li] H H'->JV t K Hb H' a dx lv r.1->H' li=some (GI t dl ca p)->H' q=some (iL r.2)->H q=none->r.2.length<=12000->Q (.ref q) H'
def Out.step {r:Option aW×List Int}(z:Out t K Hb H a dx li dl ca so r p Q E)(c:dE [li] H H1)(h:H1 li=some o):Out t K Hb H1 a dx li dl ca so r p Q E:=
 ⟨λe H' c'=>z.na e H' (c.trans c'),λe H' c'=>z.nl e H' (c.trans c'),λk q e H' dd fs x y u c'=>z.bf k q e H' dd fs x y u (c.trans c'),λH' q lv c' s1 s2 s3 n=>z.dn H' q lv ((c.more (by simp)).trans c') s1 s2 s3 (fU c h n)⟩
inductive Zw (K:au)(t:fP)(vs:b_)(H:Hp)(Q:VK)(E:XK):Prop|i(a dx:ke)(lv:V)(so:Option aW)(Hb:Hp)(li dl ca:ke)(p:Nat)(l:bY)(wr:Bool)(k b c ln r:Int)(w s x tl:bY)(_:vs=[.ref a,.ref li,.int (if wr=true then 3 else 4)])(_:JV t K Hb H a dx lv so)(_:Ws t K H li dl ca p l)(_:a≠li)(_:(Hb li).isSome=true)(_:l.drop p=k::b::c::ln::r::(w.length:Int)::(w++((s.length:Int)::(s++((x.length:Int)::(x++tl))))))(_:xF (k::b::c::ln::r::w))(_:w.length<=60)(_:s.length<=4)(_:x.length<=256)(_:Out t K Hb H a dx li dl ca so (aQ so (asks wr k b c ln r w s x)) (p+5+1+w.length+1+s.length+1+x.length) Q E)
def Ei:T.qU.Ok P w mg lQ (tO P w t.bI) 13 (Zw K t):=by
 refine T.qU.xE λnd H vs Q E hr h=>?_;obtain⟨a,dx,lv,so,Hb,li,dl,ca,p,l,wr,k,b,c,ln,r,w',s',x,tl,rfl,zs,zl,YU,WM,hd,nn,w60,s4,adi,qI⟩:=h;refine .i (ao (fL 3 nd (qO (pv 1) T.kx T.iH (me T) hr bG (ak aK ax)))
   (ao (fL 4 nd (Fj (pv 1) T.kx T.iC (kg T) hr bG))
   (ao (fL 5 nd (Fj (pv 1) T.kx T.iC (kg T) hr bG))
   (ao (fL 6 nd (Fj (pv 1) T.kx T.iC (kg T) hr bG))
   (ao (fL 7 nd (kq T.AN (PN T) hr aY.passes (ak (pv 3) (ak (pv 4) (ak (pv 5) (ak (pv 6) ax))))))
   (ao (gi (rf lp (pv 2) (fF T.ab8)) (aH (bz (qO (pv 0) T.nF T.mM (yH T) hr aY.passes (ak (pv 7) ax)))) cT)
   (aH (bz (qO (pv 0) T.nF T.pU (CQ T) hr aY.passes (ak (pv 7) ax)))))))))) ?_
 refine⟨_,Z,li,_,_,Z,zl.ob,Z,XU (A:=[k,b,c,ln,r]) zl rfl hd λH1 q1 c1 z1 d1 h1 n1=>?_⟩;refine⟨_,Z,li,_,_,Z,z1.ob,Z,C8 z1 d1 λH2 q2 c2 z2 d2 h2 n2=>?_⟩;refine⟨_,Z,li,_,_,Z,z2.ob,Z,C8 z2 d2 λH3 q3 c3 z3 d3 h3 n3=>?_⟩;refine⟨_,Z,li,_,_,Z,z3.ob,Z,C8 z3 d3 λH4 q4 c4 z4 d4 h4 n4=>?_⟩;have c34:=c3.trans c4;have c24:=c2.trans c34;have c14:=c1.trans c24;have e1:q1≠li:=b8 zl.ob n1;have e2:q2≠li:=b8 z1.ob n2;have e3:q3≠li:=b8 z2.ob n3;have agg:=qI.step c14 z4.ob;have zs4:JV t K Hb H4 a dx lv so:=zs.chg c14 λq hq=>by rw[show q=li from by simpa using hq];exact⟨YU.symm,WM,by rw[z4.ob];simp⟩
 have Ac:∀H',dE [] H4 H'->dE [li] H4 H'/\H' li=some (GI t dl ca (p+5+1+w'.length+1+s'.length+1+x.length)):=λH' c'=>⟨c'.more (by simp),c'.same _ _ z4.ob⟩;refine⟨_,Z,_,Z,_,Z,_,Z,q1,q2,q3,q4,[k,b,c,ln,r],w',s',x,Z,c24.one h1 e1,c34.one h2 e2,c4.one h3 e3,h4,by simp,by lia,by lia,by lia,λfA f e=>by obtain⟨_,_,g,_⟩:=wk nn e;exact g,λe he H' c'=>?_,λfA f he=>⟨λno H' c'=>?_,λok v fv H5 s5 JX N5=>?_⟩⟩
 .exact agg.na (Dh (Vs nn he)) H' (Ac H' c').1 (Ac H' c').2
 .exact agg.na (Dh (Vt nn he no)) H' (Ac H' c').1 (Ac H' c').2
 .obtain⟨ek,hk1,g,hR,hf⟩:=wk nn he;have nk:0<=k:=nn k (by simp);have ai:=Xp g ok;have gv:=Yb (so:=so) nn he ok;have zs5:=zs4.same s5;have ajc:GH t f fv (nw Hb H5):=N5.same (qu zs4.dm);have VN:=agg.step s5.chg (s5 _ _ z4.ob);have li5:=s5 _ _ z4.ob;have Uy:∀H',dE [] H5 H'->dE [li] H5 H'/\H' li=some (GI t dl ca (p+5+1+w'.length+1+s'.length+1+x.length)):=λH' c'=>⟨c'.more (by simp),c'.same _ _ li5⟩;subst ek;cases wr with
  |true=>
   refine⟨_,Z,Z,_,Z,?_⟩;rw[og,ag (show(if true=true then(3:Int) else 4)=3 from rfl)];refine eZ ⟨_,Z,a,_,_,Z,zs5.ob,Z,_,Z,a,dx,lv,v,so,Hb,fA,f,fv,s',_,_,Z,zs5,JX,ajc,ai,by lia,λhb H' c'=>?_,λst hb H6 p6 VD c6 z6 h6 n6 wl=>?_⟩
   .rw[hb] at gv;exact VN.nl (Dh gv) H' (Uy H' c').1 (Uy H' c').2
   .rw[hb] at gv;have es:=SG gv;rw[YG nk] at es;rw[es] at VN;refine VN.dn H6 p6 VD (c6.more (by simp)) z6 (c6.one li5 YU.symm) h6 n6 ?_;show(br _).length+1+1<=_;rw[eA];lia
  |false=>
   refine⟨_,Z,Z,_,Z,?_⟩;rw[og,ae (show¬(if false=true then(3:Int) else 4)=3 by decide)];refine fK ⟨_,Z,a,_,_,Z,zs5.ob,Z,_,Z,a,dx,lv,v,so,Hb,fA,f,fv,s',_,_,Z,zs5,JX,ajc,ai,λhb H' c'=>?_,λst hb H6 p6 s6 h6 n6 wl=>?_⟩
   .rw[hb] at gv;exact VN.nl (Dh gv) H' (Uy H' c').1 (Uy H' c').2
   .rw[hb] at gv;have es:=ZW gv;rw[es] at VN;refine VN.dn H6 p6 lv s6.chg (zs5.same s6) (s6 _ _ li5) h6 n6 ?_;show(nO _ _ _).length+1+1<=_;lia
def zi {u:bY}{hi:Int}(h:jv u n lo hi=true):u.length<=n/\∀z∈u,lo<=z/\z<=hi:=by
 unfold jv at h;rw[cO,decide_eq_true_eq,jq] at h;exact⟨h.1,λz hz=>by have:=h.2 z hz;rw[cO,decide_eq_true_eq,decide_eq_true_eq] at this;exact this⟩
def sW {z:Int}(h:g_ z n=true):0<=z:=by
 unfold g_ at h;rw[cO,decide_eq_true_eq] at h;exact h.1
def HF {u:bY}(h:∀z∈u,0<=z/\z<=255):br (aV u)=u:=by
 unfold br aV;rw[ji]
 conv=>rhs;rw[<-List.map_id u]
 refine fM λz hz=>?_;obtain⟨h1,h2⟩:=h z hz;show(((AW z.toNat).toNat:Nat):Int)=z;rw[show(AW z.toNat).toNat=z.toNat from by rw[Xl];exact n_ (by show z.toNat<256;lia)];lia
def Tg {wr:Bool}{k b c ln r:Int}{w s x:bY}(h:jQ (asks wr k b c ln r w s x)=true):xF (k::b::c::ln::r::w)/\w.length<=60/\s.length<=4/\x.length<=256:=by
 have h:(g_ k 53&&(g_ b 53&&(g_ c 53&&(g_ ln 53&&(g_ r 53&&(jv w 60 0 9007199254740991&&(jv s 4 (-9007199254740991) 9007199254740991&&jv x 256 (-9007199254740991) 9007199254740991)))))))=true:=by
  cases wr<;>exact h
 simp only[cO] at h;obtain⟨h1,h2,h3,h4,h5,h6,h7,h8⟩:=h;refine⟨λz hz=>?_,(zi h6).1,(zi h7).1,(zi h8).1⟩;simp only[bo] at hz;rcases hz with e|e|e|e|e|e
 .rw[e];exact sW h1
 .rw[e];exact sW h2
 .rw[e];exact sW h3
 .rw[e];exact sW h4
 .rw[e];exact sW h5
 .exact((zi h6).2 z e).1
section
variable{so:Option aW}{u:bY}
def V7 {e:Nat}(h:fi (aV u)=.error e):aQ so [[1],u]=(so,[-8,((1:Nat):Int),(e:Int)]):=by
 have q:eu [[1],u]=some (.head (aV u)):=rfl;unfold aQ;rw[q];simp only[gC];rw[h];rfl
def V8 {x:pI×Option bN×Nat}(h:fi (aV u)=.ok x)(hc:fD (aV u)≠eJ (aV u)):aQ so [[1],u]=(so,[-8,((2:Nat):Int),((12:Nat):Int)]):=by
 have q:eu [[1],u]=some (.head (aV u)):=rfl;unfold aQ;rw[q];simp only[gC];rw[h];simp only;rw[ah hc];rfl
def ZV {x:pI×Option bN×Nat}(h:fi (aV u)=.ok x)(hc:fD (aV u)=eJ (aV u)):aQ so [[1],u]=(so,[0,(jy (aV u) x).key,(jy (aV u) x).rows,(jy (aV u) x).bits,(jy (aV u) x).cut,(jy (aV u) x).lanes,(jy (aV u) x).times]):=by
 have q:eu [[1],u]=some (.head (aV u)):=rfl;unfold aQ;rw[q];simp only[gC];rw[h];simp only;rw[aj hc];have e:(jy (aV u) x).key=((if x.1.key=true then 1 else 0:Nat):Int):=by
  show(if x.1.key=true then(1:Int) else 0)=_;cases x.1.key<;>rfl
 rw[e];rfl
def V9 {e:Nat}(h:fi (aV u)=.error e):aQ so [[2],u]=(so,[-8,((1:Nat):Int),(e:Int)]):=by
 have q:eu [[2],u]=some (.read (aV u)):=rfl;unfold aQ;rw[q];simp only[gC];rw[h];rfl
def V_ {x:pI×Option bN×Nat}(h:fi (aV u)=.ok x)(hc:fD (aV u)≠eJ (aV u)):aQ so [[2],u]=(so,[-8,((2:Nat):Int),((12:Nat):Int)]):=by
 have q:eu [[2],u]=some (.read (aV u)):=rfl;unfold aQ;rw[q];simp only[gC];rw[h];simp only;rw[aj hc];rfl
def JE {x:pI×Option bN×Nat}(h:fi (aV u)=.ok x)(hc:fD (aV u)=eJ (aV u)):aQ so [[2],u]=match uv so x.1 x.2.1 with
  |none=>(so,[-4])
  |some st=>match iI st (aV u) x.2.2 x.1.count with
   |.fault k q=>(so,[-8,(k:Int),(q:Int)])
   |.done xs uP=>(some uP,0::(xs.length:Int)::(xs.flatten.length:Int)::xs.flatten):=by
 have q:eu [[2],u]=some (.read (aV u)):=rfl;unfold aQ;rw[q];simp only[gC];rw[h];obtain⟨hd,fo,p⟩:=x;simp only;rw[ah (by simpa using hc)];cases fo with
 |some f=>
  have eb:uv so hd (some f)=some (kn f):=rfl;rw[eb];simp only;cases iI (kn f) (aV u) p hd.count with
  |fault k q=>rfl
  |done xs uP=>simp[Oo,uO,kR]
 |none=>
  cases so with
  |none=>rfl
  |some st=>
   by_cases hq:st.form.rows.length=hd.rows/\st.form.bits=hd.bits/\st.form.cut=hd.cut/\st.form.lanes=hd.lanes
   .have eb:uv (some st) hd none=some st:=aj hq;rw[eb];simp only;rw[aj hq];cases iI st (aV u) p hd.count with
    |fault k q=>rfl
    |done xs uP=>simp[Oo,uO,kR]
   .have eb:uv (some st) hd none=none:=ah hq;rw[eb];simp only;rw[ah hq];rfl
end
inductive agx (K:au)(t:fP)(vs:b_)(H:Hp)(Q:VK)(E:XK):Prop|i(a dx:ke)(lv:V)(so:Option aW)(Hb:Hp)(li dl ca:ke)(p:Nat)(l:bY)(c:ly)(tl:bY)(_:vs=[.ref a,.ref li])(_:JV t K Hb H a dx lv so)(_:Ws t K H li dl ca p l)(_:a≠li)(_:(Hb li).isSome=true)(_:uc (l.drop p) c tl)(_:jQ c=true)(_:∀p',l.drop p'=tl->p<p'->p'<=l.length->Out t K Hb H a dx li dl ca so (aQ so c) p' Q E)
def GF.of {k q:Int}(h:∀H' dd fs,H' dd=some (.ext (GJ dd fs))->fs.lookup ("kind":Str)=some (V.int k)->fs.lookup ("place":Str)=some (V.int q)->aC H H'->E (.ref t.cM) (some dd) H'):GF t E [] H k q:=λH' dd fs a b c d=>h H' dd fs a b c d.same
def Jb:T.uh.Ok P w mg lQ (tO P w t.bI) 14 (agx K t):=by
 refine T.uh.xE λnd H vs Q E hr h=>?_;obtain⟨a,dx,lv,so,Hb,li,dl,ca,p,l,c,tl,rfl,zs,zl,YU,WM,hc,JX,qI⟩:=h;refine .i (ao (fL 2 nd (Fj (pv 1) T.kx T.kC (rE T) hr bG))
   (ao (gi (rf lp (pv 2) (fF T.afV)) (aH (bz (Fj (pv 0) T.nF T.nX (z_ T) hr bG))) cT)
   (ao (gi (rf lp (pv 2) (fF T.afU)) (aH (bz (qO (pv 0) T.nF T.oQ (Bo T) hr aY.passes (ak (Fj (pv 1) T.kx T.iC (kg T) hr bG) ax)))) cT)
   (ao (gi (rf lp (pv 2) (fF T.afW)) (aH (bz (qO (pv 0) T.nF T.nY (Aa T) hr aY.passes (ak (Fj (pv 1) T.kx T.iC (kg T) hr bG) ax)))) cT)
   (aH (bz (kq T.qU (Ei T) hr aY.passes (ak (pv 0) (ak (pv 1) (ak (pv 2) ax)))))))))) ?_
 have sds:∀H',dE [li] H H'->H' li≠none->JV t K Hb H' a dx lv so:=λH' c' n=>zs.chg c' λq hq=>by rw[show q=li from by simpa using hq];exact⟨YU.symm,WM,n⟩
 have Zi:∀A:bY,A≠[]->l.drop p=A++tl->l.drop (p+A.length)=tl/\p<p+A.length/\p+A.length<=l.length:=λA hA e=>⟨u5 e,by have:A.length≠0:=λe=>hA (di e);lia,drop_len e hA⟩;generalize hL:l.drop p=L at hc;cases hc with
 |open_=>
  refine⟨_,Z,li,_,_,Z,zl.ob,Z,CM zl hL λH1 c1 z1 d1=>?_⟩;obtain⟨u1,u2,u3⟩:=Zi [0] (by simp) hL;have El:=(qI _ u1 u2 u3).step c1 z1.ob;have zs1:=sds H1 c1 (by rw[z1.ob];simp);refine⟨_,Z,Z,_,Z,?_⟩;rw[og,ag rfl];refine eZ ⟨_,Z,a,_,_,Z,zs1.ob,Z,a,dx,lv,Z,zs1.ob,λH2 q c2 h2 hq nq=>?_⟩;refine El.dn H2 q .gS (c2.more (by simp)) ⟨h2,zs.ha,λb hb=>zs1.dm b (fU c2 h2 hb),Z,λ_ e=>by cases e⟩ (c2.one z1.ob YU.symm) hq nq (by show[(0:Int)].length<=12000;decide)
 |head u=>
  obtain⟨hu1,hu2⟩:=zi (show jv u 4000 0 255=true from JX);refine⟨_,Z,li,_,_,Z,zl.ob,Z,CM zl hL λH1 c1 z1 d1=>?_⟩;obtain⟨u1,u2,u3⟩:=Zi (1::(u.length:Int)::u) (by simp) (by rw[hL];rfl);have El:=(qI _ u1 u2 u3).step c1 z1.ob;have zs1:=sds H1 c1 (by rw[z1.ob];simp);refine⟨_,Z,Z,_,Z,?_⟩;rw[og,ae (by decide)];refine fK ⟨_,Z,Z,_,Z,?_⟩;rw[og,ag rfl];refine eZ ⟨_,Z,a,_,_,Z,zs1.ob,Z,_,Z,li,_,_,Z,z1.ob,Z,C8 z1 d1 λH2 q2 c2 z2 d2 h2 n2=>?_⟩;have ep:p+(1::(u.length:Int)::u).length=p+1+1+u.length:=by simp;lia
  rw[ep] at El;have Jk:=El.step c2 z2.ob;have zs2:=sds H2 (c1.trans c2) (by rw[z2.ob];simp);refine⟨a,q2,_,Z,by rw[h2,<-HG,HF hu2],OA (aV u),by rw[aB,aV,aB];exact hu1,Ip (b:=aV u) rfl (λe he=>GF.of λH' dd fs x y z' s'=>?_) λx hx=>⟨λGQ=>GF.of λH' dd fs x y z' s'=>?_,λheq H3 p3 s3 h3 n3=>?_⟩⟩
  .exact Jk.bf 1 e (V7 he) H' dd fs x y z' s'.chg (s' _ _ z2.ob)
  .exact Jk.bf 2 12 (V8 hx GQ) H' dd fs x y z' s'.chg (s' _ _ z2.ob)
  .rw[ZV hx heq] at Jk;exact Jk.dn H3 p3 lv s3.chg (zs2.same s3) (s3 _ _ z2.ob) h3 n3 (by simp)
 |read u=>
  obtain⟨hu1,hu2⟩:=zi (show jv u 4000 0 255=true from JX);refine⟨_,Z,li,_,_,Z,zl.ob,Z,CM zl hL λH1 c1 z1 d1=>?_⟩;obtain⟨u1,u2,u3⟩:=Zi (2::(u.length:Int)::u) (by simp) (by rw[hL];rfl);have El:=(qI _ u1 u2 u3).step c1 z1.ob;have zs1:=sds H1 c1 (by rw[z1.ob];simp);refine⟨_,Z,Z,_,Z,?_⟩;rw[og,ae (by decide)];refine fK ⟨_,Z,Z,_,Z,?_⟩;rw[og,ae (by decide)];refine fK ⟨_,Z,Z,_,Z,?_⟩;rw[og,ag rfl];refine eZ ⟨_,Z,a,_,_,Z,zs1.ob,Z,_,Z,li,_,_,Z,z1.ob,Z,C8 z1 d1 λH2 q2 c2 z2 d2 h2 n2=>?_⟩;have ep:p+(2::(u.length:Int)::u).length=p+1+1+u.length:=by simp;lia
  rw[ep] at El;have Jk:=El.step c2 z2.ob;have zs2:=sds H2 (c1.trans c2) (by rw[z2.ob];simp);refine⟨a,dx,lv,so,Hb,q2,aV u,Z,zs2,by rw[h2,HF hu2],by rw[aV,aB];exact hu1,λe he=>GF.of λH' dd fs x y z' s'=>?_,λx hx=>⟨λGQ=>GF.of λH' dd fs x y z' s'=>?_,λheq=>⟨λhb H' c'=>?_,λst hb=>⟨λk q hf=>GF.of λH' dd fs x y z' s'=>?_,λxs uP hf H3 r VD c3 z3 h3 n3 fl=>?_⟩⟩⟩⟩
  .exact Jk.bf 1 e (V9 he) H' dd fs x y z' s'.chg (s' _ _ z2.ob)
  .exact Jk.bf 2 12 (V_ hx GQ) H' dd fs x y z' s'.chg (s' _ _ z2.ob)
  .have es:=JE (so:=so) hx heq;rw[hb] at es;exact Jk.nl es H' (c'.more (by simp)) (c'.same _ _ z2.ob)
  .have es:=JE (so:=so) hx heq;rw[hb] at es;simp only at es;rw[hf] at es;exact Jk.bf k q es H' dd fs x y z' s'.chg (s' _ _ z2.ob)
  .have es:=JE (so:=so) hx heq;rw[hb] at es;simp only at es;rw[hf] at es;rw[es] at Jk;refine Jk.dn H3 r VD (c3.more (by simp)) z3 (c3.one z2.ob YU.symm) h3 n3 ?_;show xs.flatten.length+1+1+1<=_;lia
 |write k b c ln r w' s' x=>
  obtain⟨nn,w60,s4,adi⟩:=Tg (wr:=true) JX;refine⟨_,Z,li,_,_,Z,zl.ob,Z,CM zl hL λH1 c1 z1 d1=>?_⟩;obtain⟨u1,u2,u3⟩:=Zi (3::k::b::c::ln::r::(w'.length:Int)::(w'++((s'.length:Int)::(s'++((x.length:Int)::x))))) (by simp) (by rw[hL];simp);have El:=(qI _ u1 u2 u3).step c1 z1.ob;have zs1:=sds H1 c1 (by rw[z1.ob];simp);refine⟨_,Z,Z,_,Z,?_⟩;rw[og,ae (by decide)];refine fK ⟨_,Z,Z,_,Z,?_⟩;rw[og,ae (by decide)];refine fK ⟨_,Z,Z,_,Z,?_⟩;rw[og,ae (by decide)];have ep:p+(3::k::b::c::ln::r::(w'.length:Int)::(w'++((s'.length:Int)::(s'++((x.length:Int)::x))))).length=p+1+5+1+w'.length+1+s'.length+1+x.length:=by simp;lia
  rw[ep] at El;exact fK ⟨_,Z,_,Z,_,Z,a,dx,lv,so,Hb,li,dl,ca,p+1,l,true,k,b,c,ln,r,w',s',x,tl,Z,zs1,z1,YU,WM,d1,nn,w60,s4,adi,El⟩
 |cut k b c ln r w' s' x=>
  obtain⟨nn,w60,s4,adi⟩:=Tg (wr:=false) JX;refine⟨_,Z,li,_,_,Z,zl.ob,Z,CM zl hL λH1 c1 z1 d1=>?_⟩;obtain⟨u1,u2,u3⟩:=Zi (4::k::b::c::ln::r::(w'.length:Int)::(w'++((s'.length:Int)::(s'++((x.length:Int)::x))))) (by simp) (by rw[hL];simp);have El:=(qI _ u1 u2 u3).step c1 z1.ob;have zs1:=sds H1 c1 (by rw[z1.ob];simp);refine⟨_,Z,Z,_,Z,?_⟩;rw[og,ae (by decide)];refine fK ⟨_,Z,Z,_,Z,?_⟩;rw[og,ae (by decide)];refine fK ⟨_,Z,Z,_,Z,?_⟩;rw[og,ae (by decide)];have ep:p+(4::k::b::c::ln::r::(w'.length:Int)::(w'++((s'.length:Int)::(s'++((x.length:Int)::x))))).length=p+1+5+1+w'.length+1+s'.length+1+x.length:=by simp;lia
  rw[ep] at El;exact fK ⟨_,Z,_,Z,_,Z,a,dx,lv,so,Hb,li,dl,ca,p+1,l,false,k,b,c,ln,r,w',s',x,tl,Z,zs1,z1,YU,WM,d1,nn,w60,s4,adi,El⟩
inductive aqg (K:au)(t:fP)(vs:b_)(H:Hp)(Q:VK)(E:XK):Prop|i(a dx:ke)(lv:V)(so:Option aW)(Hb:Hp)(li dl ca:ke)(p:Nat)(l:bY)(c:ly)(tl:bY)(_:vs=[.ref a,.ref li])(_:JV t K Hb H a dx lv so)(_:Ws t K H li dl ca p l)(_:a≠li)(_:(Hb li).isSome=true)(_:uc (l.drop p) c tl)(_:jQ c=true)(_:∀p',l.drop p'=tl->p<p'->p'<=l.length->∀H' q VD,dE [a,li] H H'->JV t K Hb H' a dx VD (aQ so c).1->H' li=some (GI t dl ca p')->H' q=some (iL (aQ so c).2)->H q=none->(aQ so c).2.length<=12000->Q (.ref q) H')
def yI:T.mO.Ok P w mg lQ jh 15 (aqg K t):=by
 refine T.mO.ok λnd H vs Q E hr h=>?_;obtain⟨a,dx,lv,so,Hb,li,dl,ca,p,l,c,tl,rfl,zs,zl,YU,WM,hc,JX,k⟩:=h;obtain⟨xk,hxk⟩:∃xk:XK,xk=λC d H1=>∃p',l.drop p'=tl/\p<p'/\p'<=l.length/\dE [li] H H1/\H1 li=some (GI t dl ca p')/\((C=.ref t.iP/\d=none/\aQ so c=(so,[-1]))\/(C=.ref t.eN/\d=none/\aQ so c=(so,[-4]))\/∃(k q:Nat) (dd:ke) (fs:List (Str×V)),C=.ref t.cM/\d=some dd/\H1 dd=some (.ext (GJ dd fs))/\fs.lookup ("kind":Str)=some (V.int (k:Int))/\fs.lookup ("place":Str)=some (V.int (q:Int))/\aQ so c=(so,[-8,(k:Int),(q:Int)])):=⟨_,Z⟩;refine .i (aH (Sg (Mf:=t.bI) (Ex:=xk) rfl rfl rfl (λ_ _ hB=>(aH (bz (kq T.uh (Jb T) hr hB.passes (ak (pv 0) (ak (pv 1) ax))))))
   (Nw T.oY rfl T.qm (λok e=>(aH (bz (eE (ak (t6 pE aK) ax)))))
   (Nw T.oq rfl T.rS (λok e=>(aH (bz (eE (ak (t6 pE aK) ax)))))
   (P7 (i:=2) T.iO rfl T.gk nd rfl rfl (λok e=>(aH (bz (eE (ak (t6 pE aK) (ak (Nv (Mf:=t.bI) (pv 2) rfl) (ak (Nv (Mf:=t.bI) (pv 2) rfl) ax)))))))
   Sd))))) ?_
 refine⟨?_,λe C d H1 nE hx=>?_⟩
 .refine⟨_,Z,_,Z,a,dx,lv,so,Hb,li,dl,ca,p,l,c,tl,Z,zs,zl,YU,WM,hc,JX,λp' e1 e2 e3=>⟨λer H' c' h'=>?_,λer H' c' h'=>?_,λkk q er H' dd fs x y z c' h'=>?_,λH' q VD c' s' h' hq nq hl=>?_⟩⟩
  .rw[hxk];exact⟨p',e1,e2,e3,c',h',.inl ⟨Z,Z,er⟩⟩
  .rw[hxk];exact⟨p',e1,e2,e3,c',h',.inr (.inl ⟨Z,Z,er⟩)⟩
  .rw[hxk];exact⟨p',e1,e2,e3,c',h',.inr (.inr ⟨kk,q,dd,fs,Z,Z,x,y,z,er⟩)⟩
  .exact k p' e1 e2 e3 H' q VD c' s' h' hq nq hl
 .rw[hxk] at hx;obtain⟨p',e1,e2,e3,c1,h1,hx⟩:=hx;have k:=k p' e1 e2 e3;obtain⟨df1,df2,df3,df4,df5,df6⟩:=T.diff;have fin:∀(o:HO) (q:ke) (ans:bY),aQ so c=(so,ans)->ans.length<=12000->upd H1 e o q=none->Q (.ref q) (upd (upd H1 e o) q (iL ans)):=λo q ans es hl nq=>by
   have s1:aC H1 (upd (upd H1 e o) q (iL ans)):=(aC.upd nE).trans (aC.upd nq);have c2:dE [li] H (upd (upd H1 e o) q (iL ans)):=c1.trans s1.chg;rw[es] at k;refine k _ q lv (c2.more (by simp)) (zs.chg c2 λb hb=>?_) (s1 _ _ h1) aq (fU c1 h1 (bO nq).2) hl;rw[show b=li from by simpa using hb];exact⟨YU.symm,WM,by rw[s1 _ _ h1];simp⟩
  rcases hx with⟨rfl,rfl,es⟩|⟨rfl,rfl,es⟩|⟨kk,q,dd,fs,rfl,rfl,hd,f1,f2,es⟩
  .refine⟨_,_,Z,T.oY,λ_=>?_,λz=>absurd rfl z⟩;exact⟨_,Z,by rw[aE];simp,λq nq=>fin _ q [-1] es (by decide) nq⟩
  .refine⟨_,_,Z,T.oq,λz=>absurd z.symm df4,λ_=>⟨_,_,Z,T.oq,λ_=>?_,λz=>absurd rfl z⟩⟩;exact⟨_,Z,by rw[aE];simp,λq nq=>fin _ q [-4] es (by decide) nq⟩
  .refine⟨_,_,Z,T.iO,λz=>absurd z.symm df5,λ_=>⟨_,_,Z,T.iO,λz=>absurd z.symm df6,λ_=>⟨_,_,Z,T.iO,λ_=>?_,λz=>absurd rfl z⟩⟩⟩;have hd':∀o,upd H1 e o dd=some (.ext (GJ dd fs)):=λo=>by rw[aF (aI hd nE)];exact hd
   refine⟨_,Z,_,Z,e,t.cM,_,dd,fs,_,Z,T.iO,T.tF,aq,hd' _,f1,_,Z,e,t.cM,_,dd,fs,_,Z,T.iO,T.rH,aq,hd' _,f2,by rw[aE];simp,λq' nq=>fin _ q' [-8,(kk:Int),(q:Int)] es (by simp) nq⟩
def l4 (so:Option aW)(cs:List (ly)):bY:=Ai (BY aQ so cs)
def Mm (so:Option aW)(c:ly)(cs:List (ly)):l4 so (c::cs)=((aQ so c).2.length:Int)::((aQ so c).2++l4 (aQ so c).1 cs):=by
 unfold l4;rw[P9,Wb]
def Ot (so:Option aW):l4 so []=[]:=rfl
inductive Zv (K:au)(vs:b_)(H:Hp)(Q:VK)(E:XK):Prop|i(ca:ke)(l:bY)(cs:List (ly))(_:vs=[.ref ca])(_:nN K H ca (l.map V.int))(_:qy l cs)(_:∀c∈cs,jQ c=true)(_:cs.length<=200)(_:NL H Q (l4 none cs))
def R6:T.yV.Ok P w mg lQ jh 16 (Zv K):=by
 refine T.yV.ok λnd H vs Q E hr h=>?_;obtain⟨ca,l,cs,rfl,hca,hcs,Vv,anE,k⟩:=h;refine .i (ao (fL 1 nd (J7 T.aeU T.abL T.xI (Nk T) hr bG (ak (pv 0) ax)))
   (ao (fL 2 nd (P5 T.abi (KN T) (hr.mono (by decide)) rfl T.X8 T.vA.b .nil bG))
   (ao (fL 3 nd (eE ax))
   (ao (C1 PassesOwn.never (Bu (Fj (pv 1) T.kx T.qQ (Ee T) hr bG)) (ao (fL 4 nd (kq T.mO (yI T) hr bG (ak (pv 2) (ak (pv 1) ax))))
   (ao (cS (pap (pv 3) (ak (Bt T.jc (ak (pv 4) ax)) ax)))
   (aH (cS (AD df dC dD mE (pv 3) (ak (pv 4) ax)))))))
   (aH (bz (pv 3))))))) ?_
 refine⟨_,Z,λli dl m1 m2 m3=>⟨li,dl,[.ref ca],Z,Z,aq,⟨Z,?_⟩⟩⟩;rw[eG];have s1:aC H (upd (upd H dl (.own li)) li (GI t dl ca 0)):=gA m1 m2;have l1:upd (upd H dl (.own li)) li (GI t dl ca 0) li=some (GI t dl ca 0):=aq;have sb1:aC H (but (upd (upd H dl (.own li)) li (GI t dl ca 0)) li):=λb o e=>dQ.mpr ⟨aI e m1,s1 _ _ e⟩;show _;obtain⟨H1,eH1⟩:∃H1,H1=upd (upd H dl (.own li)) li (GI t dl ca 0):=⟨_,Z⟩;rw[<-eH1] at s1 l1 sb1;have gH1:upd (upd H dl (.own li)) li (HO.ins t.ux dl (IP ["calls","place"] ([V.ref ca]++[V.int 0])))=H1:=eH1.symm;rw[gH1];refineλa dx o1 o2 o3=>⟨a,dx,[],Z,Z,aq,⟨Z,?_⟩⟩;rw[eG];have s2:aC H1 (upd (upd H1 dx (.own a)) a (JU t dx .gS)):=gA o1 o2;have a2:upd (upd H1 dx (.own a)) a (JU t dx .gS) a=some (JU t dx .gS):=aq;have apl:a≠li:=b8 l1 o1;generalize upd (upd H1 dx (.own a)) a (JU t dx .gS)=H2 at s2 a2|-
 refine⟨by rw[aE];simp,λan nan=>?_⟩;have s3:aC H2 (upd H2 an (.lst [])):=aC.upd nan;obtain⟨Hb,eHb⟩:∃Hb,Hb=upd H2 an (.lst []):=⟨_,Z⟩;have an3:Hb an=some (.lst []):=by rw[eHb,aq]
 rw[<-eHb] at s3|-
 have s02:=s1.trans s2;have ad9:H li=none:=m1;have apg:H a=none:=s1.free o1;have ad8:H an=none:=s02.free nan;have aj4:an≠a:=b8 a2 nan;have aj5:an≠li:=b8 (s2 _ _ l1) nan;have zs0:JV t K Hb Hb a dx .gS none:=⟨s3 _ _ a2,by rw[s3 _ _ a2];rfl,λb h=>h,Z,λ_ e=>by cases e⟩;have hbl:(Hb li).isSome=true:=by rw[s3 _ _ (s2 _ _ l1)];rfl
 obtain⟨W,hW⟩:∃W:Nat->L2.St->Hp->Prop,W=λm σ Hc=>∃(p:Nat) (rs:List (ly)) (so:Option aW) (lv:V) (qI:bY) (y4:Option V),m=rs.length/\σ=[some (.ref ca),some (.ref li),some (.ref a),some (.ref an),y4]/\qy (l.drop p) rs/\p<=l.length/\(∀c∈rs,jQ c=true)/\JV t K Hb Hc a dx lv so/\Hc li=some (GI t dl ca p)/\aC H Hc/\Hc an=some (iL qI)/\qI++l4 so rs=l4 none cs/\qI.length+12001*rs.length<=12001*200:=⟨_,Z⟩;refine⟨W,⟨cs.length,?_⟩,λm σ Hc hI=>?_⟩
 .rw[hW];have:=oF 12001 anE;exact⟨0,cs,none,.gS,[],none,Z,Z,by rw[iD];exact hcs,eU _,Vv,zs0,s3 _ _ (s2 _ _ l1),s02.trans s3,an3,Z,by simpa using this⟩
 .rw[hW] at hI;obtain⟨p,rs,so,lv,qI,y4,rfl,rfl,hrs,hp,Vv,zs,WM,sm,han,M1,hsz⟩:=hI;have sqb:nN K (but Hc li) ca (l.map V.int):=aC.seq (λb o e=>dQ.mpr ⟨aI e ad9,sm _ _ e⟩) hca;have sq:nN K Hc ca (l.map V.int):=A1.seq sqb;refine⟨_,Z,li,_,_,Z,WM,Z,li,dl,ca,p,l,Z,WM,sq,?_⟩;generalize hL:l.drop p=L at hrs;cases hrs with
  |nil=>
   have ou:¬p<l.length:=λu=>by
    have:=congrArg lA hL;rw[dY] at this;simp at this;lia
   rw[ae ou];rw[Ot,fX] at M1;subst M1;exact⟨_,Z,fK ⟨_,Z,k Hc an sm han ad8⟩⟩
  |cons hc hr=>
   rename_i tl c rest;have ou:p<l.length:=by
    refine gI λu=>?_;rw[gJ (by lia)] at hL;subst hL;cases hc
   rw[ag ou];refine⟨_,Z,eZ ⟨λgz H'=>∃m',m'<(c::rest).length/\W m' gz H',λ_ _ h=>h,?_⟩⟩;refine⟨_,Z,_,Z,a,dx,lv,so,Hb,li,dl,ca,p,l,c,tl,Z,zs,⟨WM,sqb⟩,apl,hbl,by rw[hL];exact hc,Vv c (aU ..),λp' e1 e2 e3 H3 q VD c3 z3 h3 hq nq iQ=>?_⟩;have anS:an∉[a,li]:=by simp[aj4,aj5]
   have aiw:=c3 _ _ han anS;have AG:aC H H3:=dE.back sm c3 λb hb=>by
    rcases bo.mp hb with e|e
    .rw[e];exact apg
    .rw[f_.mp e];exact ad9
   have qan:q≠an:=b8 han nq;have avL:qI.length+12001*(rest.length+1)<=12001*200:=hsz;refine⟨_,Z,L0 aiw,_,Z,q,_,Z,i3 hq,an,_,_,Z,Z,aiw,by rw[aE,aB];lia,?_⟩;rw[aB];have an4:upd H3 an (.lst (qI.map V.int++[.int ((aQ so c).2.length:Nat)])) an=some (.lst (qI.map V.int++[.int ((aQ so c).2.length:Nat)])):=aq;have q4:upd H3 an (.lst (qI.map V.int++[.int ((aQ so c).2.length:Nat)])) q=some (iL (aQ so c).2):=by rw[aF qan];exact hq
   refine⟨_,Z,L0 an4,_,Z,an,q,_,_,Z,Z,an4,q4,by rw[aE,aO,aB,aB];simp only[aZ,dW];lia,?_⟩;rw[eG];have can:dE [an] H3 (upd H3 an (.lst (qI.map V.int++[.int ((aQ so c).2.length:Nat)]++(aQ so c).2.map V.int))):=dE.refl.d_ (by simp);refine⟨rest.length,gn _,?_⟩;rw[hW];refine⟨p',rest,(aQ so c).1,VD,qI++(((aQ so c).2.length:Int)::(aQ so c).2),some (.ref q),Z,Z,by rw[e1];exact hr,e3,λc' m=>Vv c' (aP _ m),z3.chg can λb hb=>?_,?_,λb o e=>?_,?_,?_,?_⟩
   .rw[show b=an from by simpa using hb];exact⟨aj4,by rw[an3];rfl,by rw[aq];simp⟩
   .rw[aF aj5.symm];exact h3
   .rw[aF (aI e ad8)];exact AG _ _ e
   .rw[aq];simp
   .rw[Mm] at M1;rw[<-M1];simp
   .rw[aO,aZ];lia
end
open PySem PySem.Spec PyProof.Rows L2
def exi {α:Type}{p:α->Prop}{a:α}(h:p a):∃x,p x:=⟨a,h⟩
def ul0 {p:gU->Prop}(h:p []):∀us:gU,us.length=0->p us
 |[],_=>h
def ulS {p:gU->Prop}{n:Nat}(h:∀a,∀us:gU,us.length=n->p (a::us)):∀us:gU,us.length=n+1->p us
 |a::us,e=>h a us (adG e)
def XO {K:au}{x eV:Str}{st:Stmt}{f:ke}{ps ls:mX}{oc:jm}{od:Option ke}{kV Tv pm:jm}{an:Option ke}{sQ ct:jm}{Y6:Array (Option jm)}(h1:K.lookup f=some ⟨oc,od,.func (sM x eV (GO st) (rR st) (dZ st) .none kV Tv pm an sQ ct),Y6⟩)(h2:Kd K sQ eV=true)(h3:il K (.ref f)=true)(b:Binds K (sM x eV (GO st) (rR st) (dZ st) .none kV Tv pm an sQ ct) ps [])(S:vL (ps++ls) ps (dZ st)):Dx K x eV st f (sM x eV (GO st) (rR st) (dZ st) .none kV Tv pm an sQ ct) ps ls:=
 ⟨⟨⟨oc,od,kV,Tv,pm,an,sQ,ct,Y6,Z,h1,h2⟩,h3⟩,b,S⟩
def aeB {K:au}{C N:ke}{nm q bs sn sub ab col dd k0 k1 k2 k3 k5}(g:K.lookup C=some (fW nm q C N bs bmE true sn sub ab col dd k0 k1 k2 k3 k5 "Exception.__new__"))(a:abm K N=true)(b:fj K N "__setattr__"=some none)(c:fj K N "__getattribute__"=some none)(d:fj K N "__getattr__"=some none)(e:il K (.ref C)=true):tM K C N:=⟨⟨nm,q,bs,sn,sub,ab,col,dd,k0,k1,k2,k3,k5,g⟩,a,b,c,d,e⟩
def akK {K:au}{p:ke}{xs:b_}{o:Obj}{dg:Array jm}{n:Nat}(a:K.lookup p=some o)(b:o.cls=.type "tuple")(c:o.data=.seq dg n)(d:dg.size<=bu)(e:Vals xs dg.toList)(H:Hp):Ml K H p xs:=.inr ⟨o,dg,n,a,b,c,d,e⟩
def aiE {K:au}{mg:sO}{x:Str}{st:Stmt}{f:ke}{fd:eO}{ps ls:mX}(g:mg x=some (.ref f))(h:Dx K x x st f fd ps ls):Df K mg x st f fd ps ls:=⟨h,g⟩
def aiG {K:au}{C:ke}{x eV:Str}{st:Stmt}{f:ke}{fd:eO}{ps ls:mX}(m:Meth K C x f)(h:Dx K x eV st f fd ps ls):Dm K C x eV st f fd ps ls:=⟨h,m⟩
def ae2 {P:bJ}{w:cz}{K:au}{mg:sO}{fa:ke}(JY:mg "answers"=some (.ref fa))(h:∃t,Txt K mg t):∃fd:eO,(∀(s:aL) (us:gU),us.length=(["calls"]:mX).length->L7 s fd ⟨us,[]⟩ ((["calls"]:mX).zip us))/\∀lQ:Heap,K.In lQ->lQ.Ns mn mg->lx P w K mg lQ jh 16 fa fd ["calls"] (Zv K):=by
 obtain⟨t,T⟩:=h;have e:=JY.symm.trans T.yV.g;cases e;obtain⟨oc,od,kV,Tv,pm,an,sQ,ct,Y6,e,_⟩:=T.yV.F.ex;refine⟨t.Lk,λs us hu=>?_,λlQ _ _=>R6 T⟩;rw[e];exact match us,hu with|[_],_=>.of_eq rfl
end Bs
open PySem PySem.W PyProof.Rows Bs L2 Mx
set_option maxRecDepth 100000 in
set_option maxHeartbeats 0 in
theorem PySem.Challenge.cw_bitsound_s01_answers_holds : PySem.Challenge.rw_bitsound_s01_answers.Holds := by
 have kW1:=kW1;w_on;k_headS;(case hw=>exact⟨[.list [.int 0]],by decide+kernel,by decide+kernel⟩)
 k_fillS
 refine SV (r:=air) (k:=16) (CX:=jh) (ps:=["calls"]) (sp:=Zv) (by decide+kernel) rfl rfl ⟨Z,by decide,by decide⟩ (λw h Y=>PySem.W.kIn_of Y) ?F ?S (λ_ _ _ _ z=>z)
 case F=>
  intro w mg fa h Y KX G hmg;refine ae2 hmg ?_;refine'⟨fP.mk,?T⟩
  case T=>
   constructor
   all_goals(try dsimp only)
   all_goals(try first|(refine' mg_of KX G ?a;(case a=>k_is);done)|(refine' mg_none_of KX G ?a;(case a=>k_is);done)|(refine' exi (mg_of KX G ?a);(case a=>k_is);done))
   all_goals(try first|(refine'⟨?a,?b,?c,?d⟩;(case a=>k_is);(case b=>k_is);(case c=>k_is);(case d=>k_is))|(refine' aeB ?g ?a ?b ?c ?d ?e;(case g=>k_is);(case a=>kernel_rfl);(case b=>k_is);(case c=>k_is);(case d=>k_is);(case e=>k_is))|(refine'⟨aeB ?g ?a ?b ?c ?d ?e,?i,?j⟩;(case g=>k_is);(case a=>kernel_rfl);(case b=>k_is);(case c=>k_is);(case d=>k_is);(case e=>k_is);(case i=>k_is);(case j=>k_is))|(refine'⟨?a,?b⟩;(case a=>k_is);(case b=>first|exact adj|exact aab))|k_is)
   all_goals(try first|(refine' aiE (mg_of KX G ?g) (XO ?l ?c ?k ?_ ⟨Z,Z,Z,by decide+kernel,Z,by decide+kernel,by decide+kernel⟩);(case g=>k_is);(case l=>k_is);(case c=>k_is);(case k=>k_is))|(refine' aiG ⟨?g,?h,?i⟩ (XO ?l ?c ?k ?_ ⟨Z,Z,Z,by decide+kernel,Z,by decide+kernel,by decide+kernel⟩);(case g=>k_is);(case h=>k_is);(case i=>k_is);(case l=>k_is);(case c=>k_is);(case k=>k_is))|(refine'(XO ?l ?c ?k ?_ ⟨Z,Z,Z,by decide+kernel,Z,by decide+kernel,by decide+kernel⟩);(case l=>k_is);(case c=>k_is);(case k=>k_is)))
   all_goals(try(refine'⟨⟨?_,?_,?_,?_⟩,?_⟩<;>first|k_is|(repeat' (first|exact List.forall_mem_nil _|refine' j4.mpr ⟨?_,?_⟩|(show ik _ _ _=_;k_is)))))
   all_goals(try(refine' akK ?a ?b ?c ?d ?e;(case a=>k_is);(case b=>rfl);(case c=>rfl);(case d=>decide);(case e=>repeat' (first|exact .nil|refine' .cons ⟨_,Z⟩ ?_))))
   all_goals(try(refine'⟨?_,?_,?_,?_,?_,?_⟩<;>decide))
   all_goals(try(refine' .all ?_;repeat' first|exact ul0 rfl|refine' ulS λ_=>?_))
 case S=>
  intro K H xs a hO hwi Vv hx;cases hx with
  |cons h1 h2=>
   cases h2;cases h1 with
   |lst hs ha=>
    have e:=TY a.1 _ ha;subst e;obtain⟨cs,c1,c2,c3,c4⟩:=QU (l:=a.1) Vv;refine⟨_,a.1,cs,Z,hs,c1,c2,c3,λH' p sm hp np=>?_⟩;show Dw K H' (.ref p) (.list ((EC a.1).map .int));rw[c4];exact .lst (nN.of hp) (Tz _)
